/- Contracts of package ipv4's small functions, and of the reference's answers for them. -/
import Derived.Test.YtpibempfhgaomaaKit2
import Derived.Test.YtpibempfhgaomaaReg
namespace Go.Proofs.Ytpibempfhgaomaa
open Go.RowKit

theorem psize_any (tos : UInt8) (id : UInt16) (D M : Bool) (fo : UInt16) (ttl pr : UInt8) (s d : UInt32) (A1 A2 : Option Addr) (n1 c1 n2 c2 : Nat) (w : World) (h : n1 ≤ 1000000) :
    Calls Try.prog 21 #[.agg #[.int .u8 (tos.toNat : Int), .int .u16 (id.toNat : Int), .bool D, .bool M, .int .u16 (fo.toNat : Int), .int .u8 (ttl.toNat : Int), .int .u8 (pr.toNat : Int), .int .u32 (s.toNat : Int), .int .u32 (d.toNat : Int), .slice A1 n1 c1, .slice A2 n2 c2]] w fun e w' => e = .returned (.int .i64 (20 + (n1 : Int))) ∧ Below w.heap.size w w' := by
  go_enter Try.func21, Try.ntmps21
  go_wp2_with fail
  go_ret
  exact ⟨rfl, bnextA (Below.refl _ _) _⟩

set_option maxHeartbeats 2000000 in
theorem pcheck_bad0 (tos : UInt8) (id : UInt16) (D M : Bool) (fo : UInt16) (ttl pr : UInt8) (s d : UInt32) (A1 A2 : Option Addr) (n1 c1 n2 c2 : Nat) (_hn1 : n1 ≤ 1000000000) (_hn2 : n2 ≤ 1000000000) (w : World) (h1 : 40 < n1) :
    Calls Try.prog 29 #[.agg #[.int .u8 (tos.toNat : Int), .int .u16 (id.toNat : Int), .bool D, .bool M, .int .u16 (fo.toNat : Int), .int .u8 (ttl.toNat : Int), .int .u8 (pr.toNat : Int), .int .u32 (s.toNat : Int), .int .u32 (d.toNat : Int), .slice A1 n1 c1, .slice A2 n2 c2]] w fun e w' => e = .returned (.int .i64 2) ∧ Below w.heap.size w w' := by
  obtain ⟨W1, hW1⟩ : ∃ W1, W1 = w.alloc (.cells #[.int .u8 (tos.toNat : Int), .int .u16 (id.toNat : Int), .bool D, .bool M, .int .u16 (fo.toNat : Int), .int .u8 (ttl.toNat : Int), .int .u8 (pr.toNat : Int), .int .u32 (s.toNat : Int), .int .u32 (d.toNat : Int), .slice A1 n1 c1, .slice A2 n2 c2] 36) := ⟨_, rfl⟩
  have hB1 : Below w.heap.size w W1 := by subst hW1; exact bnextA (Below.refl _ _) _
  have hK1 : Blk W1 w.heap.size [.int .u8 (tos.toNat : Int), .int .u16 (id.toNat : Int), .bool D, .bool M, .int .u16 (fo.toNat : Int), .int .u8 (ttl.toNat : Int), .int .u8 (pr.toNat : Int), .int .u32 (s.toNat : Int), .int .u32 (d.toNat : Int), .slice A1 n1 c1, .slice A2 n2 c2] 36 := by subst hW1; exact Blk.new _ _ _
  have HS : ∀ W, Below W1.heap.size W1 W → (W.cell? ⟨w.heap.size, 0, none⟩ = some (.int .u8 (tos.toNat : Int)) ∧ W.cell? ⟨w.heap.size, 1, none⟩ = some (.int .u16 (id.toNat : Int)) ∧ W.cell? ⟨w.heap.size, 2, none⟩ = some (.bool D) ∧ W.cell? ⟨w.heap.size, 3, none⟩ = some (.bool M) ∧ W.cell? ⟨w.heap.size, 4, none⟩ = some (.int .u16 (fo.toNat : Int)) ∧ W.cell? ⟨w.heap.size, 5, none⟩ = some (.int .u8 (ttl.toNat : Int)) ∧ W.cell? ⟨w.heap.size, 6, none⟩ = some (.int .u8 (pr.toNat : Int)) ∧ W.cell? ⟨w.heap.size, 7, none⟩ = some (.int .u32 (s.toNat : Int)) ∧ W.cell? ⟨w.heap.size, 8, none⟩ = some (.int .u32 (d.toNat : Int)) ∧ W.cell? ⟨w.heap.size, 9, none⟩ = some (.slice A1 n1 c1) ∧ W.cell? ⟨w.heap.size, 10, none⟩ = some (.slice A2 n2 c2)) := by
    intro W h
    obtain ⟨p0, p1, p2, p3, p4, p5, p6, p7, p8, p9, p10, -⟩ := (hK1.next h).get11
    exact ⟨p0, p1, p2, p3, p4, p5, p6, p7, p8, p9, p10⟩
  go_enter Try.func29, Try.ntmps29
  go_wp2_with fail
  rw [← hW1]
  clear hW1
  refine region_vals (by kernel_rfl) (by kernel_rfl) (by kernel_rfl) 28 rfl (by kernel_rfl) W1 (Below.refl _ _) [.int .i64 (n1 : Int), .bool true, .bool true, undef, undef, undef, .bool true, .bool true, undef, undef, undef, .bool true, .bool true, undef, undef, undef, undef, undef, undef, undef, .bool true] rfl ?_ ?_
  · intro i o uu W xx ho hx hVW hd
    rcases i with _|_|_|_|_|_|_|_|_|_|_|_|_|_|_|_|_|_|_|_|_|i
    · obtain rfl := Option.some.inj ho
      obtain rfl := Option.some.inj hx
      refine .inl ⟨wanted_none rfl, ?_⟩
      generalize hev : Act.eval _ = ev
      have ec : ∀ c, ev (.const c) = c := fun c => by rw [← hev]; rfl
      have e3 : ev (.tmp 3) = .int .i64 (n1 : Int) := by rw [← hev]; exact eval_old (by kernel_rfl) 28 rfl (by decide) rfl
      clear hev hd
      exact .inl ⟨W, by go_simp, Below.refl _ _⟩
    · obtain rfl := Option.some.inj ho
      obtain rfl := Option.some.inj hx
      have q0 : uu 0 = .int .i64 (n1 : Int) := hd 0 (by kernel_rfl) _ rfl
      refine .inl ⟨wanted_none rfl, ?_⟩
      generalize hev : Act.eval _ = ev
      have ec : ∀ c, ev (.const c) = c := fun c => by rw [← hev]; rfl
      have e7 : ev (.tmp 7) = .int .i64 (n1 : Int) := by rw [← hev]; exact (eval_put (by kernel_rfl) 28 rfl (by decide)).trans q0
      clear hev hd q0
      have g1' : (40 : Int) < (n1 : Int) := by omega
      exact .inl ⟨W, by go_simp, Below.refl _ _⟩
    · obtain rfl := Option.some.inj ho
      obtain rfl := Option.some.inj hx
      have q1 : uu 1 = .bool true := hd 1 (by kernel_rfl) _ rfl
      refine .inl ⟨wanted_none rfl, ?_⟩
      generalize hev : Act.eval _ = ev
      have ec : ∀ c, ev (.const c) = c := fun c => by rw [← hev]; rfl
      have e8 : ev (.tmp 8) = .bool true := by rw [← hev]; exact (eval_put (by kernel_rfl) 28 rfl (by decide)).trans q1
      clear hev hd q1
      exact .inl ⟨W, by go_simp, Below.refl _ _⟩
    · obtain rfl := Option.some.inj ho
      obtain rfl := Option.some.inj hx
      have q2 : uu 2 = .bool true := hd 2 (by kernel_rfl) _ rfl
      exact .inr ⟨wanted_no rfl (yielded_put (k := 9) (by kernel_rfl) (by kernel_rfl) 28 rfl (by decide) q2), rfl⟩
    · obtain rfl := Option.some.inj ho
      obtain rfl := Option.some.inj hx
      have q2 : uu 2 = .bool true := hd 2 (by kernel_rfl) _ rfl
      exact .inr ⟨wanted_no rfl (yielded_put (k := 9) (by kernel_rfl) (by kernel_rfl) 28 rfl (by decide) q2), rfl⟩
    · obtain rfl := Option.some.inj ho
      obtain rfl := Option.some.inj hx
      have q2 : uu 2 = .bool true := hd 2 (by kernel_rfl) _ rfl
      exact .inr ⟨wanted_no rfl (yielded_put (k := 9) (by kernel_rfl) (by kernel_rfl) 28 rfl (by decide) q2), rfl⟩
    · obtain rfl := Option.some.inj ho
      obtain rfl := Option.some.inj hx
      have q2 : uu 2 = .bool true := hd 2 (by kernel_rfl) _ rfl
      refine .inl ⟨wanted_none rfl, ?_⟩
      generalize hev : Act.eval _ = ev
      have ec : ∀ c, ev (.const c) = c := fun c => by rw [← hev]; rfl
      have e9 : ev (.tmp 9) = .bool true := by rw [← hev]; exact (eval_put (by kernel_rfl) 28 rfl (by decide)).trans q2
      clear hev hd q2
      exact .inl ⟨W, by go_simp, Below.refl _ _⟩
    · obtain rfl := Option.some.inj ho
      obtain rfl := Option.some.inj hx
      have q6 : uu 6 = .bool true := hd 6 (by kernel_rfl) _ rfl
      refine .inl ⟨wanted_none rfl, ?_⟩
      generalize hev : Act.eval _ = ev
      have ec : ∀ c, ev (.const c) = c := fun c => by rw [← hev]; rfl
      have e13 : ev (.tmp 13) = .bool true := by rw [← hev]; exact (eval_put (by kernel_rfl) 28 rfl (by decide)).trans q6
      clear hev hd q6
      exact .inl ⟨W, by go_simp, Below.refl _ _⟩
    · obtain rfl := Option.some.inj ho
      obtain rfl := Option.some.inj hx
      have q7 : uu 7 = .bool true := hd 7 (by kernel_rfl) _ rfl
      exact .inr ⟨wanted_no rfl (yielded_put (k := 14) (by kernel_rfl) (by kernel_rfl) 28 rfl (by decide) q7), rfl⟩
    · obtain rfl := Option.some.inj ho
      obtain rfl := Option.some.inj hx
      have q7 : uu 7 = .bool true := hd 7 (by kernel_rfl) _ rfl
      exact .inr ⟨wanted_no rfl (yielded_put (k := 14) (by kernel_rfl) (by kernel_rfl) 28 rfl (by decide) q7), rfl⟩
    · obtain rfl := Option.some.inj ho
      obtain rfl := Option.some.inj hx
      have q7 : uu 7 = .bool true := hd 7 (by kernel_rfl) _ rfl
      exact .inr ⟨wanted_no rfl (yielded_put (k := 14) (by kernel_rfl) (by kernel_rfl) 28 rfl (by decide) q7), rfl⟩
    · obtain rfl := Option.some.inj ho
      obtain rfl := Option.some.inj hx
      have q7 : uu 7 = .bool true := hd 7 (by kernel_rfl) _ rfl
      refine .inl ⟨wanted_none rfl, ?_⟩
      generalize hev : Act.eval _ = ev
      have ec : ∀ c, ev (.const c) = c := fun c => by rw [← hev]; rfl
      have e14 : ev (.tmp 14) = .bool true := by rw [← hev]; exact (eval_put (by kernel_rfl) 28 rfl (by decide)).trans q7
      clear hev hd q7
      exact .inl ⟨W, by go_simp, Below.refl _ _⟩
    · obtain rfl := Option.some.inj ho
      obtain rfl := Option.some.inj hx
      have q11 : uu 11 = .bool true := hd 11 (by kernel_rfl) _ rfl
      refine .inl ⟨wanted_none rfl, ?_⟩
      generalize hev : Act.eval _ = ev
      have ec : ∀ c, ev (.const c) = c := fun c => by rw [← hev]; rfl
      have e18 : ev (.tmp 18) = .bool true := by rw [← hev]; exact (eval_put (by kernel_rfl) 28 rfl (by decide)).trans q11
      clear hev hd q11
      exact .inl ⟨W, by go_simp, Below.refl _ _⟩
    · obtain rfl := Option.some.inj ho
      obtain rfl := Option.some.inj hx
      have q12 : uu 12 = .bool true := hd 12 (by kernel_rfl) _ rfl
      exact .inr ⟨wanted_no rfl (yielded_put (k := 19) (by kernel_rfl) (by kernel_rfl) 28 rfl (by decide) q12), rfl⟩
    · obtain rfl := Option.some.inj ho
      obtain rfl := Option.some.inj hx
      have q12 : uu 12 = .bool true := hd 12 (by kernel_rfl) _ rfl
      exact .inr ⟨wanted_no rfl (yielded_put (k := 19) (by kernel_rfl) (by kernel_rfl) 28 rfl (by decide) q12), rfl⟩
    · obtain rfl := Option.some.inj ho
      obtain rfl := Option.some.inj hx
      have q12 : uu 12 = .bool true := hd 12 (by kernel_rfl) _ rfl
      exact .inr ⟨wanted_no rfl (yielded_put (k := 19) (by kernel_rfl) (by kernel_rfl) 28 rfl (by decide) q12), rfl⟩
    · obtain rfl := Option.some.inj ho
      obtain rfl := Option.some.inj hx
      have q12 : uu 12 = .bool true := hd 12 (by kernel_rfl) _ rfl
      exact .inr ⟨wanted_no rfl (yielded_put (k := 19) (by kernel_rfl) (by kernel_rfl) 28 rfl (by decide) q12), rfl⟩
    · obtain rfl := Option.some.inj ho
      obtain rfl := Option.some.inj hx
      have q12 : uu 12 = .bool true := hd 12 (by kernel_rfl) _ rfl
      exact .inr ⟨wanted_no rfl (yielded_put (k := 19) (by kernel_rfl) (by kernel_rfl) 28 rfl (by decide) q12), rfl⟩
    · obtain rfl := Option.some.inj ho
      obtain rfl := Option.some.inj hx
      have q12 : uu 12 = .bool true := hd 12 (by kernel_rfl) _ rfl
      exact .inr ⟨wanted_no rfl (yielded_put (k := 19) (by kernel_rfl) (by kernel_rfl) 28 rfl (by decide) q12), rfl⟩
    · obtain rfl := Option.some.inj ho
      obtain rfl := Option.some.inj hx
      have q12 : uu 12 = .bool true := hd 12 (by kernel_rfl) _ rfl
      exact .inr ⟨wanted_no rfl (yielded_put (k := 19) (by kernel_rfl) (by kernel_rfl) 28 rfl (by decide) q12), rfl⟩
    · obtain rfl := Option.some.inj ho
      obtain rfl := Option.some.inj hx
      have q12 : uu 12 = .bool true := hd 12 (by kernel_rfl) _ rfl
      refine .inl ⟨wanted_none rfl, ?_⟩
      generalize hev : Act.eval _ = ev
      have ec : ∀ c, ev (.const c) = c := fun c => by rw [← hev]; rfl
      have e19 : ev (.tmp 19) = .bool true := by rw [← hev]; exact (eval_put (by kernel_rfl) 28 rfl (by decide)).trans q12
      clear hev hd q12
      exact .inl ⟨W, by go_simp, Below.refl _ _⟩
    · simp at ho
  · intro W hVW
    simp only [putAll, Act.put, Nat.reduceAdd, List.getD_cons_zero, List.getD_cons_succ]
    simp only [List.setIfInBounds_toArray, List.set_cons_succ, List.set_cons_zero]
    go_wp2_with fail
    go_ret
    exact ⟨rfl, hB1.trans (hVW.mono hB1.size)⟩

set_option maxHeartbeats 1000000 in
theorem rpmay_bad0 (tos : UInt8) (id : UInt16) (D M : Bool) (fo : UInt16) (ttl pr : UInt8) (s d : UInt32) (A1 A2 : Option Addr) (n1 c1 n2 c2 : Nat) (_hn1 : n1 ≤ 1000000000) (_hn2 : n2 ≤ 1000000000) (w : World) (h1 : 40 < n1) :
    Calls Try.prog 14 #[.agg #[.int .u8 (tos.toNat : Int), .int .u16 (id.toNat : Int), .bool D, .bool M, .int .u16 (fo.toNat : Int), .int .u8 (ttl.toNat : Int), .int .u8 (pr.toNat : Int), .int .u32 (s.toNat : Int), .int .u32 (d.toNat : Int), .slice A1 n1 c1, .slice A2 n2 c2]] w fun e w' => e = .returned (.bool false) ∧ Below w.heap.size w w' := by
  have g1 : (40 : Int) < (n1 : Int) := by omega
  go_enter Try.func14, Try.ntmps14
  go_wp2_with fail
  go_ret
  exact ⟨rfl, bnextA (Below.refl _ _) _⟩

set_option maxHeartbeats 2000000 in
theorem pcheck_bad1 (tos : UInt8) (id : UInt16) (D M : Bool) (fo : UInt16) (ttl pr : UInt8) (s d : UInt32) (A1 A2 : Option Addr) (n1 c1 n2 c2 : Nat) (_hn1 : n1 ≤ 1000000000) (_hn2 : n2 ≤ 1000000000) (w : World) (h1 : n1 ≤ 40) (h2 : n1 % 4 ≠ 0) :
    Calls Try.prog 29 #[.agg #[.int .u8 (tos.toNat : Int), .int .u16 (id.toNat : Int), .bool D, .bool M, .int .u16 (fo.toNat : Int), .int .u8 (ttl.toNat : Int), .int .u8 (pr.toNat : Int), .int .u32 (s.toNat : Int), .int .u32 (d.toNat : Int), .slice A1 n1 c1, .slice A2 n2 c2]] w fun e w' => e = .returned (.int .i64 2) ∧ Below w.heap.size w w' := by
  obtain ⟨W1, hW1⟩ : ∃ W1, W1 = w.alloc (.cells #[.int .u8 (tos.toNat : Int), .int .u16 (id.toNat : Int), .bool D, .bool M, .int .u16 (fo.toNat : Int), .int .u8 (ttl.toNat : Int), .int .u8 (pr.toNat : Int), .int .u32 (s.toNat : Int), .int .u32 (d.toNat : Int), .slice A1 n1 c1, .slice A2 n2 c2] 36) := ⟨_, rfl⟩
  have hB1 : Below w.heap.size w W1 := by subst hW1; exact bnextA (Below.refl _ _) _
  have hK1 : Blk W1 w.heap.size [.int .u8 (tos.toNat : Int), .int .u16 (id.toNat : Int), .bool D, .bool M, .int .u16 (fo.toNat : Int), .int .u8 (ttl.toNat : Int), .int .u8 (pr.toNat : Int), .int .u32 (s.toNat : Int), .int .u32 (d.toNat : Int), .slice A1 n1 c1, .slice A2 n2 c2] 36 := by subst hW1; exact Blk.new _ _ _
  have HS : ∀ W, Below W1.heap.size W1 W → (W.cell? ⟨w.heap.size, 0, none⟩ = some (.int .u8 (tos.toNat : Int)) ∧ W.cell? ⟨w.heap.size, 1, none⟩ = some (.int .u16 (id.toNat : Int)) ∧ W.cell? ⟨w.heap.size, 2, none⟩ = some (.bool D) ∧ W.cell? ⟨w.heap.size, 3, none⟩ = some (.bool M) ∧ W.cell? ⟨w.heap.size, 4, none⟩ = some (.int .u16 (fo.toNat : Int)) ∧ W.cell? ⟨w.heap.size, 5, none⟩ = some (.int .u8 (ttl.toNat : Int)) ∧ W.cell? ⟨w.heap.size, 6, none⟩ = some (.int .u8 (pr.toNat : Int)) ∧ W.cell? ⟨w.heap.size, 7, none⟩ = some (.int .u32 (s.toNat : Int)) ∧ W.cell? ⟨w.heap.size, 8, none⟩ = some (.int .u32 (d.toNat : Int)) ∧ W.cell? ⟨w.heap.size, 9, none⟩ = some (.slice A1 n1 c1) ∧ W.cell? ⟨w.heap.size, 10, none⟩ = some (.slice A2 n2 c2)) := by
    intro W h
    obtain ⟨p0, p1, p2, p3, p4, p5, p6, p7, p8, p9, p10, -⟩ := (hK1.next h).get11
    exact ⟨p0, p1, p2, p3, p4, p5, p6, p7, p8, p9, p10⟩
  obtain ⟨rm, hrm⟩ : ∃ rm : Nat, rm = n1 % 4 := ⟨_, rfl⟩
  have HR : ∀ _ : Unit, Hid ((n1 : Int).tmod 4 = (rm : Int) ∧ ¬ rm = 0) := fun _ => ⟨by rw [Int.tmod_eq_emod_of_nonneg (by omega)]; omega, by omega⟩
  clear hrm h2
  go_enter Try.func29, Try.ntmps29
  go_wp2_with fail
  rw [← hW1]
  clear hW1
  refine region_vals (by kernel_rfl) (by kernel_rfl) (by kernel_rfl) 28 rfl (by kernel_rfl) W1 (Below.refl _ _) [.int .i64 (n1 : Int), .bool false, .bool false, .int .i64 (n1 : Int), .int .i64 (rm : Nat), .bool true, .bool true, .bool true, undef, undef, undef, .bool true, .bool true, undef, undef, undef, undef, undef, undef, undef, .bool true] rfl ?_ ?_
  · intro i o uu W xx ho hx hVW hd
    rcases i with _|_|_|_|_|_|_|_|_|_|_|_|_|_|_|_|_|_|_|_|_|i
    · obtain rfl := Option.some.inj ho
      obtain rfl := Option.some.inj hx
      refine .inl ⟨wanted_none rfl, ?_⟩
      generalize hev : Act.eval _ = ev
      have ec : ∀ c, ev (.const c) = c := fun c => by rw [← hev]; rfl
      have e3 : ev (.tmp 3) = .int .i64 (n1 : Int) := by rw [← hev]; exact eval_old (by kernel_rfl) 28 rfl (by decide) rfl
      clear hev hd
      exact .inl ⟨W, by go_simp, Below.refl _ _⟩
    · obtain rfl := Option.some.inj ho
      obtain rfl := Option.some.inj hx
      have q0 : uu 0 = .int .i64 (n1 : Int) := hd 0 (by kernel_rfl) _ rfl
      refine .inl ⟨wanted_none rfl, ?_⟩
      generalize hev : Act.eval _ = ev
      have ec : ∀ c, ev (.const c) = c := fun c => by rw [← hev]; rfl
      have e7 : ev (.tmp 7) = .int .i64 (n1 : Int) := by rw [← hev]; exact (eval_put (by kernel_rfl) 28 rfl (by decide)).trans q0
      clear hev hd q0
      have g1' : decide ((40 : Int) < (n1 : Int)) = false := by simp; omega
      exact .inl ⟨W, by go_simp, Below.refl _ _⟩
    · obtain rfl := Option.some.inj ho
      obtain rfl := Option.some.inj hx
      have q1 : uu 1 = .bool false := hd 1 (by kernel_rfl) _ rfl
      refine .inl ⟨wanted_none rfl, ?_⟩
      generalize hev : Act.eval _ = ev
      have ec : ∀ c, ev (.const c) = c := fun c => by rw [← hev]; rfl
      have e8 : ev (.tmp 8) = .bool false := by rw [← hev]; exact (eval_put (by kernel_rfl) 28 rfl (by decide)).trans q1
      clear hev hd q1
      exact .inl ⟨W, by go_simp, Below.refl _ _⟩
    · obtain rfl := Option.some.inj ho
      obtain rfl := Option.some.inj hx
      have q2 : uu 2 = .bool false := hd 2 (by kernel_rfl) _ rfl
      refine .inl ⟨wanted_yes rfl (yielded_put (k := 9) (by kernel_rfl) (by kernel_rfl) 28 rfl (by decide) q2), ?_⟩
      generalize hev : Act.eval _ = ev
      have ec : ∀ c, ev (.const c) = c := fun c => by rw [← hev]; rfl
      have e3 : ev (.tmp 3) = .int .i64 (n1 : Int) := by rw [← hev]; exact eval_old (by kernel_rfl) 28 rfl (by decide) rfl
      clear hev hd q2
      exact .inl ⟨W, by go_simp, Below.refl _ _⟩
    · obtain rfl := Option.some.inj ho
      obtain rfl := Option.some.inj hx
      have q3 : uu 3 = .int .i64 (n1 : Int) := hd 3 (by kernel_rfl) _ rfl
      have q2 : uu 2 = .bool false := hd 2 (by kernel_rfl) _ rfl
      refine .inl ⟨wanted_yes rfl (yielded_put (k := 9) (by kernel_rfl) (by kernel_rfl) 28 rfl (by decide) q2), ?_⟩
      generalize hev : Act.eval _ = ev
      have ec : ∀ c, ev (.const c) = c := fun c => by rw [← hev]; rfl
      have e10 : ev (.tmp 10) = .int .i64 (n1 : Int) := by rw [← hev]; exact (eval_put (by kernel_rfl) 28 rfl (by decide)).trans q3
      clear hev hd q3 q2
      have g2 := (HR ()).out.1
      exact .inl ⟨W, by go_simp, Below.refl _ _⟩
    · obtain rfl := Option.some.inj ho
      obtain rfl := Option.some.inj hx
      have q4 : uu 4 = .int .i64 (rm : Nat) := hd 4 (by kernel_rfl) _ rfl
      have q2 : uu 2 = .bool false := hd 2 (by kernel_rfl) _ rfl
      refine .inl ⟨wanted_yes rfl (yielded_put (k := 9) (by kernel_rfl) (by kernel_rfl) 28 rfl (by decide) q2), ?_⟩
      generalize hev : Act.eval _ = ev
      have ec : ∀ c, ev (.const c) = c := fun c => by rw [← hev]; rfl
      have e11 : ev (.tmp 11) = .int .i64 (rm : Nat) := by rw [← hev]; exact (eval_put (by kernel_rfl) 28 rfl (by decide)).trans q4
      clear hev hd q4 q2
      have g2 := (HR ()).out.2
      exact .inl ⟨W, by go_simp, Below.refl _ _⟩
    · obtain rfl := Option.some.inj ho
      obtain rfl := Option.some.inj hx
      have q2 : uu 2 = .bool false := hd 2 (by kernel_rfl) _ rfl
      have q5 : uu 5 = .bool true := hd 5 (by kernel_rfl) _ rfl
      refine .inl ⟨wanted_none rfl, ?_⟩
      generalize hev : Act.eval _ = ev
      have ec : ∀ c, ev (.const c) = c := fun c => by rw [← hev]; rfl
      have e9 : ev (.tmp 9) = .bool false := by rw [← hev]; exact (eval_put (by kernel_rfl) 28 rfl (by decide)).trans q2
      have e12 : ev (.tmp 12) = .bool true := by rw [← hev]; exact (eval_put (by kernel_rfl) 28 rfl (by decide)).trans q5
      clear hev hd q2 q5
      exact .inl ⟨W, by go_simp, Below.refl _ _⟩
    · obtain rfl := Option.some.inj ho
      obtain rfl := Option.some.inj hx
      have q6 : uu 6 = .bool true := hd 6 (by kernel_rfl) _ rfl
      refine .inl ⟨wanted_none rfl, ?_⟩
      generalize hev : Act.eval _ = ev
      have ec : ∀ c, ev (.const c) = c := fun c => by rw [← hev]; rfl
      have e13 : ev (.tmp 13) = .bool true := by rw [← hev]; exact (eval_put (by kernel_rfl) 28 rfl (by decide)).trans q6
      clear hev hd q6
      exact .inl ⟨W, by go_simp, Below.refl _ _⟩
    · obtain rfl := Option.some.inj ho
      obtain rfl := Option.some.inj hx
      have q7 : uu 7 = .bool true := hd 7 (by kernel_rfl) _ rfl
      exact .inr ⟨wanted_no rfl (yielded_put (k := 14) (by kernel_rfl) (by kernel_rfl) 28 rfl (by decide) q7), rfl⟩
    · obtain rfl := Option.some.inj ho
      obtain rfl := Option.some.inj hx
      have q7 : uu 7 = .bool true := hd 7 (by kernel_rfl) _ rfl
      exact .inr ⟨wanted_no rfl (yielded_put (k := 14) (by kernel_rfl) (by kernel_rfl) 28 rfl (by decide) q7), rfl⟩
    · obtain rfl := Option.some.inj ho
      obtain rfl := Option.some.inj hx
      have q7 : uu 7 = .bool true := hd 7 (by kernel_rfl) _ rfl
      exact .inr ⟨wanted_no rfl (yielded_put (k := 14) (by kernel_rfl) (by kernel_rfl) 28 rfl (by decide) q7), rfl⟩
    · obtain rfl := Option.some.inj ho
      obtain rfl := Option.some.inj hx
      have q7 : uu 7 = .bool true := hd 7 (by kernel_rfl) _ rfl
      refine .inl ⟨wanted_none rfl, ?_⟩
      generalize hev : Act.eval _ = ev
      have ec : ∀ c, ev (.const c) = c := fun c => by rw [← hev]; rfl
      have e14 : ev (.tmp 14) = .bool true := by rw [← hev]; exact (eval_put (by kernel_rfl) 28 rfl (by decide)).trans q7
      clear hev hd q7
      exact .inl ⟨W, by go_simp, Below.refl _ _⟩
    · obtain rfl := Option.some.inj ho
      obtain rfl := Option.some.inj hx
      have q11 : uu 11 = .bool true := hd 11 (by kernel_rfl) _ rfl
      refine .inl ⟨wanted_none rfl, ?_⟩
      generalize hev : Act.eval _ = ev
      have ec : ∀ c, ev (.const c) = c := fun c => by rw [← hev]; rfl
      have e18 : ev (.tmp 18) = .bool true := by rw [← hev]; exact (eval_put (by kernel_rfl) 28 rfl (by decide)).trans q11
      clear hev hd q11
      exact .inl ⟨W, by go_simp, Below.refl _ _⟩
    · obtain rfl := Option.some.inj ho
      obtain rfl := Option.some.inj hx
      have q12 : uu 12 = .bool true := hd 12 (by kernel_rfl) _ rfl
      exact .inr ⟨wanted_no rfl (yielded_put (k := 19) (by kernel_rfl) (by kernel_rfl) 28 rfl (by decide) q12), rfl⟩
    · obtain rfl := Option.some.inj ho
      obtain rfl := Option.some.inj hx
      have q12 : uu 12 = .bool true := hd 12 (by kernel_rfl) _ rfl
      exact .inr ⟨wanted_no rfl (yielded_put (k := 19) (by kernel_rfl) (by kernel_rfl) 28 rfl (by decide) q12), rfl⟩
    · obtain rfl := Option.some.inj ho
      obtain rfl := Option.some.inj hx
      have q12 : uu 12 = .bool true := hd 12 (by kernel_rfl) _ rfl
      exact .inr ⟨wanted_no rfl (yielded_put (k := 19) (by kernel_rfl) (by kernel_rfl) 28 rfl (by decide) q12), rfl⟩
    · obtain rfl := Option.some.inj ho
      obtain rfl := Option.some.inj hx
      have q12 : uu 12 = .bool true := hd 12 (by kernel_rfl) _ rfl
      exact .inr ⟨wanted_no rfl (yielded_put (k := 19) (by kernel_rfl) (by kernel_rfl) 28 rfl (by decide) q12), rfl⟩
    · obtain rfl := Option.some.inj ho
      obtain rfl := Option.some.inj hx
      have q12 : uu 12 = .bool true := hd 12 (by kernel_rfl) _ rfl
      exact .inr ⟨wanted_no rfl (yielded_put (k := 19) (by kernel_rfl) (by kernel_rfl) 28 rfl (by decide) q12), rfl⟩
    · obtain rfl := Option.some.inj ho
      obtain rfl := Option.some.inj hx
      have q12 : uu 12 = .bool true := hd 12 (by kernel_rfl) _ rfl
      exact .inr ⟨wanted_no rfl (yielded_put (k := 19) (by kernel_rfl) (by kernel_rfl) 28 rfl (by decide) q12), rfl⟩
    · obtain rfl := Option.some.inj ho
      obtain rfl := Option.some.inj hx
      have q12 : uu 12 = .bool true := hd 12 (by kernel_rfl) _ rfl
      exact .inr ⟨wanted_no rfl (yielded_put (k := 19) (by kernel_rfl) (by kernel_rfl) 28 rfl (by decide) q12), rfl⟩
    · obtain rfl := Option.some.inj ho
      obtain rfl := Option.some.inj hx
      have q12 : uu 12 = .bool true := hd 12 (by kernel_rfl) _ rfl
      refine .inl ⟨wanted_none rfl, ?_⟩
      generalize hev : Act.eval _ = ev
      have ec : ∀ c, ev (.const c) = c := fun c => by rw [← hev]; rfl
      have e19 : ev (.tmp 19) = .bool true := by rw [← hev]; exact (eval_put (by kernel_rfl) 28 rfl (by decide)).trans q12
      clear hev hd q12
      exact .inl ⟨W, by go_simp, Below.refl _ _⟩
    · simp at ho
  · intro W hVW
    simp only [putAll, Act.put, Nat.reduceAdd, List.getD_cons_zero, List.getD_cons_succ]
    simp only [List.setIfInBounds_toArray, List.set_cons_succ, List.set_cons_zero]
    go_wp2_with fail
    go_ret
    exact ⟨rfl, hB1.trans (hVW.mono hB1.size)⟩

set_option maxHeartbeats 1000000 in
theorem rpmay_bad1 (tos : UInt8) (id : UInt16) (D M : Bool) (fo : UInt16) (ttl pr : UInt8) (s d : UInt32) (A1 A2 : Option Addr) (n1 c1 n2 c2 : Nat) (_hn1 : n1 ≤ 1000000000) (_hn2 : n2 ≤ 1000000000) (w : World) (h1 : n1 ≤ 40) (h2 : n1 % 4 ≠ 0) :
    Calls Try.prog 14 #[.agg #[.int .u8 (tos.toNat : Int), .int .u16 (id.toNat : Int), .bool D, .bool M, .int .u16 (fo.toNat : Int), .int .u8 (ttl.toNat : Int), .int .u8 (pr.toNat : Int), .int .u32 (s.toNat : Int), .int .u32 (d.toNat : Int), .slice A1 n1 c1, .slice A2 n2 c2]] w fun e w' => e = .returned (.bool false) ∧ Below w.heap.size w w' := by
  have g3 : ((n1 : Int) % 4 == 0) = false := by simp; omega
  have g4 : ¬ (n1 : Int) % 4 = 0 := by omega
  go_enter Try.func14, Try.ntmps14
  go_wp2_with fail
  go_ret
  exact ⟨rfl, bnextA (Below.refl _ _) _⟩

set_option maxHeartbeats 2000000 in
theorem pcheck_bad2 (tos : UInt8) (id : UInt16) (D M : Bool) (fo : UInt16) (ttl pr : UInt8) (s d : UInt32) (A1 A2 : Option Addr) (n1 c1 n2 c2 : Nat) (_hn1 : n1 ≤ 1000000000) (_hn2 : n2 ≤ 1000000000) (w : World) (h1 : n1 ≤ 40) (h2 : n1 % 4 = 0) (h3 : 8191 < fo.toNat) :
    Calls Try.prog 29 #[.agg #[.int .u8 (tos.toNat : Int), .int .u16 (id.toNat : Int), .bool D, .bool M, .int .u16 (fo.toNat : Int), .int .u8 (ttl.toNat : Int), .int .u8 (pr.toNat : Int), .int .u32 (s.toNat : Int), .int .u32 (d.toNat : Int), .slice A1 n1 c1, .slice A2 n2 c2]] w fun e w' => e = .returned (.int .i64 2) ∧ Below w.heap.size w w' := by
  obtain ⟨W1, hW1⟩ : ∃ W1, W1 = w.alloc (.cells #[.int .u8 (tos.toNat : Int), .int .u16 (id.toNat : Int), .bool D, .bool M, .int .u16 (fo.toNat : Int), .int .u8 (ttl.toNat : Int), .int .u8 (pr.toNat : Int), .int .u32 (s.toNat : Int), .int .u32 (d.toNat : Int), .slice A1 n1 c1, .slice A2 n2 c2] 36) := ⟨_, rfl⟩
  have hB1 : Below w.heap.size w W1 := by subst hW1; exact bnextA (Below.refl _ _) _
  have hK1 : Blk W1 w.heap.size [.int .u8 (tos.toNat : Int), .int .u16 (id.toNat : Int), .bool D, .bool M, .int .u16 (fo.toNat : Int), .int .u8 (ttl.toNat : Int), .int .u8 (pr.toNat : Int), .int .u32 (s.toNat : Int), .int .u32 (d.toNat : Int), .slice A1 n1 c1, .slice A2 n2 c2] 36 := by subst hW1; exact Blk.new _ _ _
  have HS : ∀ W, Below W1.heap.size W1 W → (W.cell? ⟨w.heap.size, 0, none⟩ = some (.int .u8 (tos.toNat : Int)) ∧ W.cell? ⟨w.heap.size, 1, none⟩ = some (.int .u16 (id.toNat : Int)) ∧ W.cell? ⟨w.heap.size, 2, none⟩ = some (.bool D) ∧ W.cell? ⟨w.heap.size, 3, none⟩ = some (.bool M) ∧ W.cell? ⟨w.heap.size, 4, none⟩ = some (.int .u16 (fo.toNat : Int)) ∧ W.cell? ⟨w.heap.size, 5, none⟩ = some (.int .u8 (ttl.toNat : Int)) ∧ W.cell? ⟨w.heap.size, 6, none⟩ = some (.int .u8 (pr.toNat : Int)) ∧ W.cell? ⟨w.heap.size, 7, none⟩ = some (.int .u32 (s.toNat : Int)) ∧ W.cell? ⟨w.heap.size, 8, none⟩ = some (.int .u32 (d.toNat : Int)) ∧ W.cell? ⟨w.heap.size, 9, none⟩ = some (.slice A1 n1 c1) ∧ W.cell? ⟨w.heap.size, 10, none⟩ = some (.slice A2 n2 c2)) := by
    intro W h
    obtain ⟨p0, p1, p2, p3, p4, p5, p6, p7, p8, p9, p10, -⟩ := (hK1.next h).get11
    exact ⟨p0, p1, p2, p3, p4, p5, p6, p7, p8, p9, p10⟩
  go_enter Try.func29, Try.ntmps29
  go_wp2_with fail
  rw [← hW1]
  clear hW1
  refine region_vals (by kernel_rfl) (by kernel_rfl) (by kernel_rfl) 28 rfl (by kernel_rfl) W1 (Below.refl _ _) [.int .i64 (n1 : Int), .bool false, .bool false, .int .i64 (n1 : Int), .int .i64 0, .bool false, .bool false, .bool false, .pointer (some ⟨w.heap.size, 4, none⟩), .int .u16 (fo.toNat : Int), .bool true, .bool true, .bool true, undef, undef, undef, undef, undef, undef, undef, .bool true] rfl ?_ ?_
  · intro i o uu W xx ho hx hVW hd
    rcases i with _|_|_|_|_|_|_|_|_|_|_|_|_|_|_|_|_|_|_|_|_|i
    · obtain rfl := Option.some.inj ho
      obtain rfl := Option.some.inj hx
      refine .inl ⟨wanted_none rfl, ?_⟩
      generalize hev : Act.eval _ = ev
      have ec : ∀ c, ev (.const c) = c := fun c => by rw [← hev]; rfl
      have e3 : ev (.tmp 3) = .int .i64 (n1 : Int) := by rw [← hev]; exact eval_old (by kernel_rfl) 28 rfl (by decide) rfl
      clear hev hd
      exact .inl ⟨W, by go_simp, Below.refl _ _⟩
    · obtain rfl := Option.some.inj ho
      obtain rfl := Option.some.inj hx
      have q0 : uu 0 = .int .i64 (n1 : Int) := hd 0 (by kernel_rfl) _ rfl
      refine .inl ⟨wanted_none rfl, ?_⟩
      generalize hev : Act.eval _ = ev
      have ec : ∀ c, ev (.const c) = c := fun c => by rw [← hev]; rfl
      have e7 : ev (.tmp 7) = .int .i64 (n1 : Int) := by rw [← hev]; exact (eval_put (by kernel_rfl) 28 rfl (by decide)).trans q0
      clear hev hd q0
      have g1' : decide ((40 : Int) < (n1 : Int)) = false := by simp; omega
      exact .inl ⟨W, by go_simp, Below.refl _ _⟩
    · obtain rfl := Option.some.inj ho
      obtain rfl := Option.some.inj hx
      have q1 : uu 1 = .bool false := hd 1 (by kernel_rfl) _ rfl
      refine .inl ⟨wanted_none rfl, ?_⟩
      generalize hev : Act.eval _ = ev
      have ec : ∀ c, ev (.const c) = c := fun c => by rw [← hev]; rfl
      have e8 : ev (.tmp 8) = .bool false := by rw [← hev]; exact (eval_put (by kernel_rfl) 28 rfl (by decide)).trans q1
      clear hev hd q1
      exact .inl ⟨W, by go_simp, Below.refl _ _⟩
    · obtain rfl := Option.some.inj ho
      obtain rfl := Option.some.inj hx
      have q2 : uu 2 = .bool false := hd 2 (by kernel_rfl) _ rfl
      refine .inl ⟨wanted_yes rfl (yielded_put (k := 9) (by kernel_rfl) (by kernel_rfl) 28 rfl (by decide) q2), ?_⟩
      generalize hev : Act.eval _ = ev
      have ec : ∀ c, ev (.const c) = c := fun c => by rw [← hev]; rfl
      have e3 : ev (.tmp 3) = .int .i64 (n1 : Int) := by rw [← hev]; exact eval_old (by kernel_rfl) 28 rfl (by decide) rfl
      clear hev hd q2
      exact .inl ⟨W, by go_simp, Below.refl _ _⟩
    · obtain rfl := Option.some.inj ho
      obtain rfl := Option.some.inj hx
      have q3 : uu 3 = .int .i64 (n1 : Int) := hd 3 (by kernel_rfl) _ rfl
      have q2 : uu 2 = .bool false := hd 2 (by kernel_rfl) _ rfl
      refine .inl ⟨wanted_yes rfl (yielded_put (k := 9) (by kernel_rfl) (by kernel_rfl) 28 rfl (by decide) q2), ?_⟩
      generalize hev : Act.eval _ = ev
      have ec : ∀ c, ev (.const c) = c := fun c => by rw [← hev]; rfl
      have e10 : ev (.tmp 10) = .int .i64 (n1 : Int) := by rw [← hev]; exact (eval_put (by kernel_rfl) 28 rfl (by decide)).trans q3
      clear hev hd q3 q2
      have g7 : (n1 : Int).tmod 4 = 0 := by rw [Int.tmod_eq_emod_of_nonneg (by omega)]; omega
      exact .inl ⟨W, by go_simp, Below.refl _ _⟩
    · obtain rfl := Option.some.inj ho
      obtain rfl := Option.some.inj hx
      have q4 : uu 4 = .int .i64 0 := hd 4 (by kernel_rfl) _ rfl
      have q2 : uu 2 = .bool false := hd 2 (by kernel_rfl) _ rfl
      refine .inl ⟨wanted_yes rfl (yielded_put (k := 9) (by kernel_rfl) (by kernel_rfl) 28 rfl (by decide) q2), ?_⟩
      generalize hev : Act.eval _ = ev
      have ec : ∀ c, ev (.const c) = c := fun c => by rw [← hev]; rfl
      have e11 : ev (.tmp 11) = .int .i64 0 := by rw [← hev]; exact (eval_put (by kernel_rfl) 28 rfl (by decide)).trans q4
      clear hev hd q4 q2
      exact .inl ⟨W, by go_simp, Below.refl _ _⟩
    · obtain rfl := Option.some.inj ho
      obtain rfl := Option.some.inj hx
      have q2 : uu 2 = .bool false := hd 2 (by kernel_rfl) _ rfl
      have q5 : uu 5 = .bool false := hd 5 (by kernel_rfl) _ rfl
      refine .inl ⟨wanted_none rfl, ?_⟩
      generalize hev : Act.eval _ = ev
      have ec : ∀ c, ev (.const c) = c := fun c => by rw [← hev]; rfl
      have e9 : ev (.tmp 9) = .bool false := by rw [← hev]; exact (eval_put (by kernel_rfl) 28 rfl (by decide)).trans q2
      have e12 : ev (.tmp 12) = .bool false := by rw [← hev]; exact (eval_put (by kernel_rfl) 28 rfl (by decide)).trans q5
      clear hev hd q2 q5
      exact .inl ⟨W, by go_simp, Below.refl _ _⟩
    · obtain rfl := Option.some.inj ho
      obtain rfl := Option.some.inj hx
      have q6 : uu 6 = .bool false := hd 6 (by kernel_rfl) _ rfl
      refine .inl ⟨wanted_none rfl, ?_⟩
      generalize hev : Act.eval _ = ev
      have ec : ∀ c, ev (.const c) = c := fun c => by rw [← hev]; rfl
      have e13 : ev (.tmp 13) = .bool false := by rw [← hev]; exact (eval_put (by kernel_rfl) 28 rfl (by decide)).trans q6
      clear hev hd q6
      exact .inl ⟨W, by go_simp, Below.refl _ _⟩
    · obtain rfl := Option.some.inj ho
      obtain rfl := Option.some.inj hx
      have q7 : uu 7 = .bool false := hd 7 (by kernel_rfl) _ rfl
      refine .inl ⟨wanted_yes rfl (yielded_put (k := 14) (by kernel_rfl) (by kernel_rfl) 28 rfl (by decide) q7), ?_⟩
      generalize hev : Act.eval _ = ev
      have ec : ∀ c, ev (.const c) = c := fun c => by rw [← hev]; rfl
      have e1 : ev (.tmp 1) = .pointer (some ⟨w.heap.size, 0, none⟩) := by rw [← hev]; exact eval_old (by kernel_rfl) 28 rfl (by decide) rfl
      clear hev hd q7
      exact .inl ⟨W, by go_simp, Below.refl _ _⟩
    · obtain rfl := Option.some.inj ho
      obtain rfl := Option.some.inj hx
      have q8 : uu 8 = .pointer (some ⟨w.heap.size, 4, none⟩) := hd 8 (by kernel_rfl) _ rfl
      have q7 : uu 7 = .bool false := hd 7 (by kernel_rfl) _ rfl
      refine .inl ⟨wanted_yes rfl (yielded_put (k := 14) (by kernel_rfl) (by kernel_rfl) 28 rfl (by decide) q7), ?_⟩
      generalize hev : Act.eval _ = ev
      have ec : ∀ c, ev (.const c) = c := fun c => by rw [← hev]; rfl
      have e15 : ev (.tmp 15) = .pointer (some ⟨w.heap.size, 4, none⟩) := by rw [← hev]; exact (eval_put (by kernel_rfl) 28 rfl (by decide)).trans q8
      clear hev hd q8 q7
      obtain ⟨cc0, cc1, cc2, cc3, cc4, cc5, cc6, cc7, cc8, cc9, cc10⟩ := HS W hVW
      exact .inl ⟨W, by go_simp, Below.refl _ _⟩
    · obtain rfl := Option.some.inj ho
      obtain rfl := Option.some.inj hx
      have q9 : uu 9 = .int .u16 (fo.toNat : Int) := hd 9 (by kernel_rfl) _ rfl
      have q7 : uu 7 = .bool false := hd 7 (by kernel_rfl) _ rfl
      refine .inl ⟨wanted_yes rfl (yielded_put (k := 14) (by kernel_rfl) (by kernel_rfl) 28 rfl (by decide) q7), ?_⟩
      generalize hev : Act.eval _ = ev
      have ec : ∀ c, ev (.const c) = c := fun c => by rw [← hev]; rfl
      have e16 : ev (.tmp 16) = .int .u16 (fo.toNat : Int) := by rw [← hev]; exact (eval_put (by kernel_rfl) 28 rfl (by decide)).trans q9
      clear hev hd q9 q7
      have g5' : (8191 : Int) < (fo.toNat : Int) := by omega
      exact .inl ⟨W, by go_simp, Below.refl _ _⟩
    · obtain rfl := Option.some.inj ho
      obtain rfl := Option.some.inj hx
      have q7 : uu 7 = .bool false := hd 7 (by kernel_rfl) _ rfl
      have q10 : uu 10 = .bool true := hd 10 (by kernel_rfl) _ rfl
      refine .inl ⟨wanted_none rfl, ?_⟩
      generalize hev : Act.eval _ = ev
      have ec : ∀ c, ev (.const c) = c := fun c => by rw [← hev]; rfl
      have e14 : ev (.tmp 14) = .bool false := by rw [← hev]; exact (eval_put (by kernel_rfl) 28 rfl (by decide)).trans q7
      have e17 : ev (.tmp 17) = .bool true := by rw [← hev]; exact (eval_put (by kernel_rfl) 28 rfl (by decide)).trans q10
      clear hev hd q7 q10
      exact .inl ⟨W, by go_simp, Below.refl _ _⟩
    · obtain rfl := Option.some.inj ho
      obtain rfl := Option.some.inj hx
      have q11 : uu 11 = .bool true := hd 11 (by kernel_rfl) _ rfl
      refine .inl ⟨wanted_none rfl, ?_⟩
      generalize hev : Act.eval _ = ev
      have ec : ∀ c, ev (.const c) = c := fun c => by rw [← hev]; rfl
      have e18 : ev (.tmp 18) = .bool true := by rw [← hev]; exact (eval_put (by kernel_rfl) 28 rfl (by decide)).trans q11
      clear hev hd q11
      exact .inl ⟨W, by go_simp, Below.refl _ _⟩
    · obtain rfl := Option.some.inj ho
      obtain rfl := Option.some.inj hx
      have q12 : uu 12 = .bool true := hd 12 (by kernel_rfl) _ rfl
      exact .inr ⟨wanted_no rfl (yielded_put (k := 19) (by kernel_rfl) (by kernel_rfl) 28 rfl (by decide) q12), rfl⟩
    · obtain rfl := Option.some.inj ho
      obtain rfl := Option.some.inj hx
      have q12 : uu 12 = .bool true := hd 12 (by kernel_rfl) _ rfl
      exact .inr ⟨wanted_no rfl (yielded_put (k := 19) (by kernel_rfl) (by kernel_rfl) 28 rfl (by decide) q12), rfl⟩
    · obtain rfl := Option.some.inj ho
      obtain rfl := Option.some.inj hx
      have q12 : uu 12 = .bool true := hd 12 (by kernel_rfl) _ rfl
      exact .inr ⟨wanted_no rfl (yielded_put (k := 19) (by kernel_rfl) (by kernel_rfl) 28 rfl (by decide) q12), rfl⟩
    · obtain rfl := Option.some.inj ho
      obtain rfl := Option.some.inj hx
      have q12 : uu 12 = .bool true := hd 12 (by kernel_rfl) _ rfl
      exact .inr ⟨wanted_no rfl (yielded_put (k := 19) (by kernel_rfl) (by kernel_rfl) 28 rfl (by decide) q12), rfl⟩
    · obtain rfl := Option.some.inj ho
      obtain rfl := Option.some.inj hx
      have q12 : uu 12 = .bool true := hd 12 (by kernel_rfl) _ rfl
      exact .inr ⟨wanted_no rfl (yielded_put (k := 19) (by kernel_rfl) (by kernel_rfl) 28 rfl (by decide) q12), rfl⟩
    · obtain rfl := Option.some.inj ho
      obtain rfl := Option.some.inj hx
      have q12 : uu 12 = .bool true := hd 12 (by kernel_rfl) _ rfl
      exact .inr ⟨wanted_no rfl (yielded_put (k := 19) (by kernel_rfl) (by kernel_rfl) 28 rfl (by decide) q12), rfl⟩
    · obtain rfl := Option.some.inj ho
      obtain rfl := Option.some.inj hx
      have q12 : uu 12 = .bool true := hd 12 (by kernel_rfl) _ rfl
      exact .inr ⟨wanted_no rfl (yielded_put (k := 19) (by kernel_rfl) (by kernel_rfl) 28 rfl (by decide) q12), rfl⟩
    · obtain rfl := Option.some.inj ho
      obtain rfl := Option.some.inj hx
      have q12 : uu 12 = .bool true := hd 12 (by kernel_rfl) _ rfl
      refine .inl ⟨wanted_none rfl, ?_⟩
      generalize hev : Act.eval _ = ev
      have ec : ∀ c, ev (.const c) = c := fun c => by rw [← hev]; rfl
      have e19 : ev (.tmp 19) = .bool true := by rw [← hev]; exact (eval_put (by kernel_rfl) 28 rfl (by decide)).trans q12
      clear hev hd q12
      exact .inl ⟨W, by go_simp, Below.refl _ _⟩
    · simp at ho
  · intro W hVW
    simp only [putAll, Act.put, Nat.reduceAdd, List.getD_cons_zero, List.getD_cons_succ]
    simp only [List.setIfInBounds_toArray, List.set_cons_succ, List.set_cons_zero]
    go_wp2_with fail
    go_ret
    exact ⟨rfl, hB1.trans (hVW.mono hB1.size)⟩

set_option maxHeartbeats 1000000 in
theorem rpmay_bad2 (tos : UInt8) (id : UInt16) (D M : Bool) (fo : UInt16) (ttl pr : UInt8) (s d : UInt32) (A1 A2 : Option Addr) (n1 c1 n2 c2 : Nat) (_hn1 : n1 ≤ 1000000000) (_hn2 : n2 ≤ 1000000000) (w : World) (h1 : n1 ≤ 40) (h2 : n1 % 4 = 0) (h3 : 8191 < fo.toNat) :
    Calls Try.prog 14 #[.agg #[.int .u8 (tos.toNat : Int), .int .u16 (id.toNat : Int), .bool D, .bool M, .int .u16 (fo.toNat : Int), .int .u8 (ttl.toNat : Int), .int .u8 (pr.toNat : Int), .int .u32 (s.toNat : Int), .int .u32 (d.toNat : Int), .slice A1 n1 c1, .slice A2 n2 c2]] w fun e w' => e = .returned (.bool false) ∧ Below w.heap.size w w' := by
  have g4 : (n1 : Int) % 4 = 0 := by omega
  have g5 : (8191 : Int) < (fo.toNat : Int) := by omega
  have g6 : decide ((fo.toNat : Int) < 8192) = false := by simp; omega
  have g1 : decide ((n1 : Int) ≤ 40) = true := by simp; omega
  have gw : IntKind.i64.wrap (65515 - (n1 : Int)) = 65515 - (n1 : Int) := by rw [IntKind.wrap_i64]; omega
  have gt : (n1 : Int).tmod 4 = 0 := by rw [Int.tmod_eq_emod_of_nonneg (by omega)]; exact g4
  clear h1 h2 h3 g4 g5
  go_enter Try.func14, Try.ntmps14
  go_wp2_with fail
  go_ret
  exact ⟨rfl, bnextA (Below.refl _ _) _⟩

set_option maxHeartbeats 1000000 in
theorem rpmay_ok (tos : UInt8) (id : UInt16) (D M : Bool) (fo : UInt16) (ttl pr : UInt8) (s d : UInt32) (A1 A2 : Option Addr) (n1 c1 n2 c2 : Nat) (w : World) (h1 : n1 ≤ 40) (h2 : n1 % 4 = 0) (h3 : fo.toNat ≤ 8191) (h4 : 20 + n1 + n2 ≤ 65535) :
    Calls Try.prog 14 #[.agg #[.int .u8 (tos.toNat : Int), .int .u16 (id.toNat : Int), .bool D, .bool M, .int .u16 (fo.toNat : Int), .int .u8 (ttl.toNat : Int), .int .u8 (pr.toNat : Int), .int .u32 (s.toNat : Int), .int .u32 (d.toNat : Int), .slice A1 n1 c1, .slice A2 n2 c2]] w fun e w' => e = .returned (.bool true) ∧ Below w.heap.size w w' := by
  have g3 : ((n1 : Int) % 4 == 0) = true := by simp; omega
  have g4 : (n1 : Int) % 4 = 0 := by omega
  have g5 : decide ((n2 : Int) ≤ 65515 - (n1 : Int)) = true := by simp; omega
  have g6 : decide ((fo.toNat : Int) < 8192) = true := by simp; omega
  have g1 : decide ((n1 : Int) ≤ 40) = true := by simp; omega
  have gw : IntKind.i64.wrap (65515 - (n1 : Int)) = 65515 - (n1 : Int) := by rw [IntKind.wrap_i64]; omega
  have gt : (n1 : Int).tmod 4 = 0 := by rw [Int.tmod_eq_emod_of_nonneg (by omega)]; exact g4
  clear h1 h2 h3 h4 g3 g4
  go_enter Try.func14, Try.ntmps14
  go_wp2_with fail
  go_ret
  exact ⟨rfl, bnextA (Below.refl _ _) _⟩

set_option maxHeartbeats 2000000 in
theorem pcheck_ok (tos : UInt8) (id : UInt16) (D M : Bool) (fo : UInt16) (ttl pr : UInt8) (s d : UInt32) (A1 A2 : Option Addr) (n1 c1 n2 c2 : Nat) (w : World) (h1 : n1 ≤ 40) (h2 : n1 % 4 = 0) (h3 : fo.toNat ≤ 8191) (h4 : 20 + n1 + n2 ≤ 65535) :
    Calls Try.prog 29 #[.agg #[.int .u8 (tos.toNat : Int), .int .u16 (id.toNat : Int), .bool D, .bool M, .int .u16 (fo.toNat : Int), .int .u8 (ttl.toNat : Int), .int .u8 (pr.toNat : Int), .int .u32 (s.toNat : Int), .int .u32 (d.toNat : Int), .slice A1 n1 c1, .slice A2 n2 c2]] w fun e w' => e = .returned (.int .i64 0) ∧ Below w.heap.size w w' := by
  obtain ⟨W1, hW1⟩ : ∃ W1, W1 = w.alloc (.cells #[.int .u8 (tos.toNat : Int), .int .u16 (id.toNat : Int), .bool D, .bool M, .int .u16 (fo.toNat : Int), .int .u8 (ttl.toNat : Int), .int .u8 (pr.toNat : Int), .int .u32 (s.toNat : Int), .int .u32 (d.toNat : Int), .slice A1 n1 c1, .slice A2 n2 c2] 36) := ⟨_, rfl⟩
  have hB1 : Below w.heap.size w W1 := by subst hW1; exact bnextA (Below.refl _ _) _
  have hK1 : Blk W1 w.heap.size [.int .u8 (tos.toNat : Int), .int .u16 (id.toNat : Int), .bool D, .bool M, .int .u16 (fo.toNat : Int), .int .u8 (ttl.toNat : Int), .int .u8 (pr.toNat : Int), .int .u32 (s.toNat : Int), .int .u32 (d.toNat : Int), .slice A1 n1 c1, .slice A2 n2 c2] 36 := by subst hW1; exact Blk.new _ _ _
  have HS : ∀ W, Below W1.heap.size W1 W → (W.cell? ⟨w.heap.size, 0, none⟩ = some (.int .u8 (tos.toNat : Int)) ∧ W.cell? ⟨w.heap.size, 1, none⟩ = some (.int .u16 (id.toNat : Int)) ∧ W.cell? ⟨w.heap.size, 2, none⟩ = some (.bool D) ∧ W.cell? ⟨w.heap.size, 3, none⟩ = some (.bool M) ∧ W.cell? ⟨w.heap.size, 4, none⟩ = some (.int .u16 (fo.toNat : Int)) ∧ W.cell? ⟨w.heap.size, 5, none⟩ = some (.int .u8 (ttl.toNat : Int)) ∧ W.cell? ⟨w.heap.size, 6, none⟩ = some (.int .u8 (pr.toNat : Int)) ∧ W.cell? ⟨w.heap.size, 7, none⟩ = some (.int .u32 (s.toNat : Int)) ∧ W.cell? ⟨w.heap.size, 8, none⟩ = some (.int .u32 (d.toNat : Int)) ∧ W.cell? ⟨w.heap.size, 9, none⟩ = some (.slice A1 n1 c1) ∧ W.cell? ⟨w.heap.size, 10, none⟩ = some (.slice A2 n2 c2)) := by
    intro W h
    obtain ⟨p0, p1, p2, p3, p4, p5, p6, p7, p8, p9, p10, -⟩ := (hK1.next h).get11
    exact ⟨p0, p1, p2, p3, p4, p5, p6, p7, p8, p9, p10⟩
  have g3 : ((n1 : Int) % 4 == 0) = true := by simp; omega
  have g4 : (n1 : Int) % 4 = 0 := by omega
  have HZ := fun W => Lib.hid (psize_any tos id D M fo ttl pr s d A1 A2 n1 c1 n2 c2 W (by omega))
  go_enter Try.func29, Try.ntmps29
  go_wp2_with fail
  rw [← hW1]
  clear hW1
  refine region_vals (by kernel_rfl) (by kernel_rfl) (by kernel_rfl) 28 rfl (by kernel_rfl) W1 (Below.refl _ _) [.int .i64 (n1 : Int), .bool false, .bool false, .int .i64 (n1 : Int), .int .i64 0, .bool false, .bool false, .bool false, .pointer (some ⟨w.heap.size, 4, none⟩), .int .u16 (fo.toNat : Int), .bool false, .bool false, .bool false, .agg #[.int .u8 (tos.toNat : Int), .int .u16 (id.toNat : Int), .bool D, .bool M, .int .u16 (fo.toNat : Int), .int .u8 (ttl.toNat : Int), .int .u8 (pr.toNat : Int), .int .u32 (s.toNat : Int), .int .u32 (d.toNat : Int), .slice A1 n1 c1, .slice A2 n2 c2], .int .i64 (20 + (n1 : Int)), .pointer (some ⟨w.heap.size, 10, none⟩), .slice A2 n2 c2, .int .i64 (n2 : Int), .int .i64 (20 + (n1 : Int) + (n2 : Int)), .bool false, .bool false] rfl ?_ ?_
  · intro i o uu W xx ho hx hVW hd
    rcases i with _|_|_|_|_|_|_|_|_|_|_|_|_|_|_|_|_|_|_|_|_|i
    · obtain rfl := Option.some.inj ho
      obtain rfl := Option.some.inj hx
      refine .inl ⟨wanted_none rfl, ?_⟩
      generalize hev : Act.eval _ = ev
      have ec : ∀ c, ev (.const c) = c := fun c => by rw [← hev]; rfl
      have e3 : ev (.tmp 3) = .int .i64 (n1 : Int) := by rw [← hev]; exact eval_old (by kernel_rfl) 28 rfl (by decide) rfl
      clear hev hd
      exact .inl ⟨W, by go_simp, Below.refl _ _⟩
    · obtain rfl := Option.some.inj ho
      obtain rfl := Option.some.inj hx
      have q0 : uu 0 = .int .i64 (n1 : Int) := hd 0 (by kernel_rfl) _ rfl
      refine .inl ⟨wanted_none rfl, ?_⟩
      generalize hev : Act.eval _ = ev
      have ec : ∀ c, ev (.const c) = c := fun c => by rw [← hev]; rfl
      have e7 : ev (.tmp 7) = .int .i64 (n1 : Int) := by rw [← hev]; exact (eval_put (by kernel_rfl) 28 rfl (by decide)).trans q0
      clear hev hd q0
      have g1 : decide ((40 : Int) < (n1 : Int)) = false := by simp; omega
      exact .inl ⟨W, by go_simp, Below.refl _ _⟩
    · obtain rfl := Option.some.inj ho
      obtain rfl := Option.some.inj hx
      have q1 : uu 1 = .bool false := hd 1 (by kernel_rfl) _ rfl
      refine .inl ⟨wanted_none rfl, ?_⟩
      generalize hev : Act.eval _ = ev
      have ec : ∀ c, ev (.const c) = c := fun c => by rw [← hev]; rfl
      have e8 : ev (.tmp 8) = .bool false := by rw [← hev]; exact (eval_put (by kernel_rfl) 28 rfl (by decide)).trans q1
      clear hev hd q1
      exact .inl ⟨W, by go_simp, Below.refl _ _⟩
    · obtain rfl := Option.some.inj ho
      obtain rfl := Option.some.inj hx
      have q2 : uu 2 = .bool false := hd 2 (by kernel_rfl) _ rfl
      refine .inl ⟨wanted_yes rfl (yielded_put (k := 9) (by kernel_rfl) (by kernel_rfl) 28 rfl (by decide) q2), ?_⟩
      generalize hev : Act.eval _ = ev
      have ec : ∀ c, ev (.const c) = c := fun c => by rw [← hev]; rfl
      have e3 : ev (.tmp 3) = .int .i64 (n1 : Int) := by rw [← hev]; exact eval_old (by kernel_rfl) 28 rfl (by decide) rfl
      clear hev hd q2
      exact .inl ⟨W, by go_simp, Below.refl _ _⟩
    · obtain rfl := Option.some.inj ho
      obtain rfl := Option.some.inj hx
      have q3 : uu 3 = .int .i64 (n1 : Int) := hd 3 (by kernel_rfl) _ rfl
      have q2 : uu 2 = .bool false := hd 2 (by kernel_rfl) _ rfl
      refine .inl ⟨wanted_yes rfl (yielded_put (k := 9) (by kernel_rfl) (by kernel_rfl) 28 rfl (by decide) q2), ?_⟩
      generalize hev : Act.eval _ = ev
      have ec : ∀ c, ev (.const c) = c := fun c => by rw [← hev]; rfl
      have e10 : ev (.tmp 10) = .int .i64 (n1 : Int) := by rw [← hev]; exact (eval_put (by kernel_rfl) 28 rfl (by decide)).trans q3
      clear hev hd q3 q2
      have g7 : (n1 : Int).tmod 4 = 0 := by rw [Int.tmod_eq_emod_of_nonneg (by omega)]; exact g4
      exact .inl ⟨W, by go_simp, Below.refl _ _⟩
    · obtain rfl := Option.some.inj ho
      obtain rfl := Option.some.inj hx
      have q4 : uu 4 = .int .i64 0 := hd 4 (by kernel_rfl) _ rfl
      have q2 : uu 2 = .bool false := hd 2 (by kernel_rfl) _ rfl
      refine .inl ⟨wanted_yes rfl (yielded_put (k := 9) (by kernel_rfl) (by kernel_rfl) 28 rfl (by decide) q2), ?_⟩
      generalize hev : Act.eval _ = ev
      have ec : ∀ c, ev (.const c) = c := fun c => by rw [← hev]; rfl
      have e11 : ev (.tmp 11) = .int .i64 0 := by rw [← hev]; exact (eval_put (by kernel_rfl) 28 rfl (by decide)).trans q4
      clear hev hd q4 q2
      exact .inl ⟨W, by go_simp, Below.refl _ _⟩
    · obtain rfl := Option.some.inj ho
      obtain rfl := Option.some.inj hx
      have q2 : uu 2 = .bool false := hd 2 (by kernel_rfl) _ rfl
      have q5 : uu 5 = .bool false := hd 5 (by kernel_rfl) _ rfl
      refine .inl ⟨wanted_none rfl, ?_⟩
      generalize hev : Act.eval _ = ev
      have ec : ∀ c, ev (.const c) = c := fun c => by rw [← hev]; rfl
      have e9 : ev (.tmp 9) = .bool false := by rw [← hev]; exact (eval_put (by kernel_rfl) 28 rfl (by decide)).trans q2
      have e12 : ev (.tmp 12) = .bool false := by rw [← hev]; exact (eval_put (by kernel_rfl) 28 rfl (by decide)).trans q5
      clear hev hd q2 q5
      exact .inl ⟨W, by go_simp, Below.refl _ _⟩
    · obtain rfl := Option.some.inj ho
      obtain rfl := Option.some.inj hx
      have q6 : uu 6 = .bool false := hd 6 (by kernel_rfl) _ rfl
      refine .inl ⟨wanted_none rfl, ?_⟩
      generalize hev : Act.eval _ = ev
      have ec : ∀ c, ev (.const c) = c := fun c => by rw [← hev]; rfl
      have e13 : ev (.tmp 13) = .bool false := by rw [← hev]; exact (eval_put (by kernel_rfl) 28 rfl (by decide)).trans q6
      clear hev hd q6
      exact .inl ⟨W, by go_simp, Below.refl _ _⟩
    · obtain rfl := Option.some.inj ho
      obtain rfl := Option.some.inj hx
      have q7 : uu 7 = .bool false := hd 7 (by kernel_rfl) _ rfl
      refine .inl ⟨wanted_yes rfl (yielded_put (k := 14) (by kernel_rfl) (by kernel_rfl) 28 rfl (by decide) q7), ?_⟩
      generalize hev : Act.eval _ = ev
      have ec : ∀ c, ev (.const c) = c := fun c => by rw [← hev]; rfl
      have e1 : ev (.tmp 1) = .pointer (some ⟨w.heap.size, 0, none⟩) := by rw [← hev]; exact eval_old (by kernel_rfl) 28 rfl (by decide) rfl
      clear hev hd q7
      exact .inl ⟨W, by go_simp, Below.refl _ _⟩
    · obtain rfl := Option.some.inj ho
      obtain rfl := Option.some.inj hx
      have q8 : uu 8 = .pointer (some ⟨w.heap.size, 4, none⟩) := hd 8 (by kernel_rfl) _ rfl
      have q7 : uu 7 = .bool false := hd 7 (by kernel_rfl) _ rfl
      refine .inl ⟨wanted_yes rfl (yielded_put (k := 14) (by kernel_rfl) (by kernel_rfl) 28 rfl (by decide) q7), ?_⟩
      generalize hev : Act.eval _ = ev
      have ec : ∀ c, ev (.const c) = c := fun c => by rw [← hev]; rfl
      have e15 : ev (.tmp 15) = .pointer (some ⟨w.heap.size, 4, none⟩) := by rw [← hev]; exact (eval_put (by kernel_rfl) 28 rfl (by decide)).trans q8
      clear hev hd q8 q7
      obtain ⟨cc0, cc1, cc2, cc3, cc4, cc5, cc6, cc7, cc8, cc9, cc10⟩ := HS W hVW
      exact .inl ⟨W, by go_simp, Below.refl _ _⟩
    · obtain rfl := Option.some.inj ho
      obtain rfl := Option.some.inj hx
      have q9 : uu 9 = .int .u16 (fo.toNat : Int) := hd 9 (by kernel_rfl) _ rfl
      have q7 : uu 7 = .bool false := hd 7 (by kernel_rfl) _ rfl
      refine .inl ⟨wanted_yes rfl (yielded_put (k := 14) (by kernel_rfl) (by kernel_rfl) 28 rfl (by decide) q7), ?_⟩
      generalize hev : Act.eval _ = ev
      have ec : ∀ c, ev (.const c) = c := fun c => by rw [← hev]; rfl
      have e16 : ev (.tmp 16) = .int .u16 (fo.toNat : Int) := by rw [← hev]; exact (eval_put (by kernel_rfl) 28 rfl (by decide)).trans q9
      clear hev hd q9 q7
      have g5 : decide ((8191 : Int) < (fo.toNat : Int)) = false := by simp; omega
      exact .inl ⟨W, by go_simp, Below.refl _ _⟩
    · obtain rfl := Option.some.inj ho
      obtain rfl := Option.some.inj hx
      have q7 : uu 7 = .bool false := hd 7 (by kernel_rfl) _ rfl
      have q10 : uu 10 = .bool false := hd 10 (by kernel_rfl) _ rfl
      refine .inl ⟨wanted_none rfl, ?_⟩
      generalize hev : Act.eval _ = ev
      have ec : ∀ c, ev (.const c) = c := fun c => by rw [← hev]; rfl
      have e14 : ev (.tmp 14) = .bool false := by rw [← hev]; exact (eval_put (by kernel_rfl) 28 rfl (by decide)).trans q7
      have e17 : ev (.tmp 17) = .bool false := by rw [← hev]; exact (eval_put (by kernel_rfl) 28 rfl (by decide)).trans q10
      clear hev hd q7 q10
      exact .inl ⟨W, by go_simp, Below.refl _ _⟩
    · obtain rfl := Option.some.inj ho
      obtain rfl := Option.some.inj hx
      have q11 : uu 11 = .bool false := hd 11 (by kernel_rfl) _ rfl
      refine .inl ⟨wanted_none rfl, ?_⟩
      generalize hev : Act.eval _ = ev
      have ec : ∀ c, ev (.const c) = c := fun c => by rw [← hev]; rfl
      have e18 : ev (.tmp 18) = .bool false := by rw [← hev]; exact (eval_put (by kernel_rfl) 28 rfl (by decide)).trans q11
      clear hev hd q11
      exact .inl ⟨W, by go_simp, Below.refl _ _⟩
    · obtain rfl := Option.some.inj ho
      obtain rfl := Option.some.inj hx
      have q12 : uu 12 = .bool false := hd 12 (by kernel_rfl) _ rfl
      refine .inl ⟨wanted_yes rfl (yielded_put (k := 19) (by kernel_rfl) (by kernel_rfl) 28 rfl (by decide) q12), ?_⟩
      generalize hev : Act.eval _ = ev
      have ec : ∀ c, ev (.const c) = c := fun c => by rw [← hev]; rfl
      have e1 : ev (.tmp 1) = .pointer (some ⟨w.heap.size, 0, none⟩) := by rw [← hev]; exact eval_old (by kernel_rfl) 28 rfl (by decide) rfl
      clear hev hd q12
      obtain ⟨cc0, cc1, cc2, cc3, cc4, cc5, cc6, cc7, cc8, cc9, cc10⟩ := HS W hVW
      exact .inl ⟨W, by go_simp, Below.refl _ _⟩
    · obtain rfl := Option.some.inj ho
      obtain rfl := Option.some.inj hx
      have q13 : uu 13 = .agg #[.int .u8 (tos.toNat : Int), .int .u16 (id.toNat : Int), .bool D, .bool M, .int .u16 (fo.toNat : Int), .int .u8 (ttl.toNat : Int), .int .u8 (pr.toNat : Int), .int .u32 (s.toNat : Int), .int .u32 (d.toNat : Int), .slice A1 n1 c1, .slice A2 n2 c2] := hd 13 (by kernel_rfl) _ rfl
      have q12 : uu 12 = .bool false := hd 12 (by kernel_rfl) _ rfl
      refine .inl ⟨wanted_yes rfl (yielded_put (k := 19) (by kernel_rfl) (by kernel_rfl) 28 rfl (by decide) q12), ?_⟩
      generalize hev : Act.eval _ = ev
      have ec : ∀ c, ev (.const c) = c := fun c => by rw [← hev]; rfl
      have ef : ∀ f, ev (.func f) = .func (.func f) #[] #[] := fun f => by rw [← hev]; rfl
      have e20 : ev (.tmp 20) = .agg #[.int .u8 (tos.toNat : Int), .int .u16 (id.toNat : Int), .bool D, .bool M, .int .u16 (fo.toNat : Int), .int .u8 (ttl.toNat : Int), .int .u8 (pr.toNat : Int), .int .u32 (s.toNat : Int), .int .u32 (d.toNat : Int), .slice A1 n1 c1, .slice A2 n2 c2] := by rw [← hev]; exact (eval_put (by kernel_rfl) 28 rfl (by decide)).trans q13
      clear hev hd q13 q12
      exact .inr ⟨_, _, by go_simp, (HZ W).out⟩
    · obtain rfl := Option.some.inj ho
      obtain rfl := Option.some.inj hx
      have q12 : uu 12 = .bool false := hd 12 (by kernel_rfl) _ rfl
      refine .inl ⟨wanted_yes rfl (yielded_put (k := 19) (by kernel_rfl) (by kernel_rfl) 28 rfl (by decide) q12), ?_⟩
      generalize hev : Act.eval _ = ev
      have ec : ∀ c, ev (.const c) = c := fun c => by rw [← hev]; rfl
      have e1 : ev (.tmp 1) = .pointer (some ⟨w.heap.size, 0, none⟩) := by rw [← hev]; exact eval_old (by kernel_rfl) 28 rfl (by decide) rfl
      clear hev hd q12
      exact .inl ⟨W, by go_simp, Below.refl _ _⟩
    · obtain rfl := Option.some.inj ho
      obtain rfl := Option.some.inj hx
      have q15 : uu 15 = .pointer (some ⟨w.heap.size, 10, none⟩) := hd 15 (by kernel_rfl) _ rfl
      have q12 : uu 12 = .bool false := hd 12 (by kernel_rfl) _ rfl
      refine .inl ⟨wanted_yes rfl (yielded_put (k := 19) (by kernel_rfl) (by kernel_rfl) 28 rfl (by decide) q12), ?_⟩
      generalize hev : Act.eval _ = ev
      have ec : ∀ c, ev (.const c) = c := fun c => by rw [← hev]; rfl
      have e22 : ev (.tmp 22) = .pointer (some ⟨w.heap.size, 10, none⟩) := by rw [← hev]; exact (eval_put (by kernel_rfl) 28 rfl (by decide)).trans q15
      clear hev hd q15 q12
      obtain ⟨cc0, cc1, cc2, cc3, cc4, cc5, cc6, cc7, cc8, cc9, cc10⟩ := HS W hVW
      exact .inl ⟨W, by go_simp, Below.refl _ _⟩
    · obtain rfl := Option.some.inj ho
      obtain rfl := Option.some.inj hx
      have q16 : uu 16 = .slice A2 n2 c2 := hd 16 (by kernel_rfl) _ rfl
      have q12 : uu 12 = .bool false := hd 12 (by kernel_rfl) _ rfl
      refine .inl ⟨wanted_yes rfl (yielded_put (k := 19) (by kernel_rfl) (by kernel_rfl) 28 rfl (by decide) q12), ?_⟩
      generalize hev : Act.eval _ = ev
      have ec : ∀ c, ev (.const c) = c := fun c => by rw [← hev]; rfl
      have e23 : ev (.tmp 23) = .slice A2 n2 c2 := by rw [← hev]; exact (eval_put (by kernel_rfl) 28 rfl (by decide)).trans q16
      clear hev hd q16 q12
      exact .inl ⟨W, by go_simp, Below.refl _ _⟩
    · obtain rfl := Option.some.inj ho
      obtain rfl := Option.some.inj hx
      have q14 : uu 14 = .int .i64 (20 + (n1 : Int)) := hd 14 (by kernel_rfl) _ rfl
      have q17 : uu 17 = .int .i64 (n2 : Int) := hd 17 (by kernel_rfl) _ rfl
      have q12 : uu 12 = .bool false := hd 12 (by kernel_rfl) _ rfl
      refine .inl ⟨wanted_yes rfl (yielded_put (k := 19) (by kernel_rfl) (by kernel_rfl) 28 rfl (by decide) q12), ?_⟩
      generalize hev : Act.eval _ = ev
      have ec : ∀ c, ev (.const c) = c := fun c => by rw [← hev]; rfl
      have e21 : ev (.tmp 21) = .int .i64 (20 + (n1 : Int)) := by rw [← hev]; exact (eval_put (by kernel_rfl) 28 rfl (by decide)).trans q14
      have e24 : ev (.tmp 24) = .int .i64 (n2 : Int) := by rw [← hev]; exact (eval_put (by kernel_rfl) 28 rfl (by decide)).trans q17
      clear hev hd q14 q17 q12
      have g8 : IntKind.i64.wrap (20 + (n1 : Int) + (n2 : Int)) = 20 + (n1 : Int) + (n2 : Int) := by rw [IntKind.wrap_i64]; omega
      exact .inl ⟨W, by go_simp, Below.refl _ _⟩
    · obtain rfl := Option.some.inj ho
      obtain rfl := Option.some.inj hx
      have q18 : uu 18 = .int .i64 (20 + (n1 : Int) + (n2 : Int)) := hd 18 (by kernel_rfl) _ rfl
      have q12 : uu 12 = .bool false := hd 12 (by kernel_rfl) _ rfl
      refine .inl ⟨wanted_yes rfl (yielded_put (k := 19) (by kernel_rfl) (by kernel_rfl) 28 rfl (by decide) q12), ?_⟩
      generalize hev : Act.eval _ = ev
      have ec : ∀ c, ev (.const c) = c := fun c => by rw [← hev]; rfl
      have e25 : ev (.tmp 25) = .int .i64 (20 + (n1 : Int) + (n2 : Int)) := by rw [← hev]; exact (eval_put (by kernel_rfl) 28 rfl (by decide)).trans q18
      clear hev hd q18 q12
      have g9 : decide ((65535 : Int) < 20 + (n1 : Int) + (n2 : Int)) = false := by simp; omega
      exact .inl ⟨W, by go_simp, Below.refl _ _⟩
    · obtain rfl := Option.some.inj ho
      obtain rfl := Option.some.inj hx
      have q12 : uu 12 = .bool false := hd 12 (by kernel_rfl) _ rfl
      have q19 : uu 19 = .bool false := hd 19 (by kernel_rfl) _ rfl
      refine .inl ⟨wanted_none rfl, ?_⟩
      generalize hev : Act.eval _ = ev
      have ec : ∀ c, ev (.const c) = c := fun c => by rw [← hev]; rfl
      have e19 : ev (.tmp 19) = .bool false := by rw [← hev]; exact (eval_put (by kernel_rfl) 28 rfl (by decide)).trans q12
      have e26 : ev (.tmp 26) = .bool false := by rw [← hev]; exact (eval_put (by kernel_rfl) 28 rfl (by decide)).trans q19
      clear hev hd q12 q19
      exact .inl ⟨W, by go_simp, Below.refl _ _⟩
    · simp at ho
  · intro W hVW
    simp only [putAll, Act.put, Nat.reduceAdd, List.getD_cons_zero, List.getD_cons_succ]
    simp only [List.setIfInBounds_toArray, List.set_cons_succ, List.set_cons_zero]
    go_wp2_with fail
    go_ret
    exact ⟨rfl, hB1.trans (hVW.mono hB1.size)⟩

def partB (M : Bool) (fo : UInt16) : Bool := M || !((fo.toNat : Int) == 0)
theorem ppart_any (tos : UInt8) (id : UInt16) (D M : Bool) (fo : UInt16) (ttl pr : UInt8) (s d : UInt32) (A1 A2 : Option Addr) (n1 c1 n2 c2 : Nat) (w : World) :
    Calls Try.prog 44 #[.agg #[.int .u8 (tos.toNat : Int), .int .u16 (id.toNat : Int), .bool D, .bool M, .int .u16 (fo.toNat : Int), .int .u8 (ttl.toNat : Int), .int .u8 (pr.toNat : Int), .int .u32 (s.toNat : Int), .int .u32 (d.toNat : Int), .slice A1 n1 c1, .slice A2 n2 c2]] w fun e w' => e = .returned (.bool (partB M fo)) ∧ Below w.heap.size w w' := by
  cases M
  · obtain ⟨B, hB⟩ : ∃ B, ((fo.toNat : Int) == 0) = B := ⟨_, rfl⟩
    rw [partB, hB, Bool.false_or]
    cases B
    all_goals
      go_enter Try.func44, Try.ntmps44
      go_wp2_with fail
      go_ret
      exact ⟨by first | rfl | (simp_all; done) | (simp only [beq_eq_false_iff_ne, ne_eq, beq_iff_eq] at hB; simp [hB]), bnextA (Below.refl _ _) _⟩
  · go_enter Try.func44, Try.ntmps44
    go_wp2_with fail
    go_ret
    exact ⟨rfl, bnextA (Below.refl _ _) _⟩

theorem pfew_any (tos : UInt8) (id : UInt16) (D M : Bool) (fo : UInt16) (ttl pr : UInt8) (s d : UInt32) (A1 A2 : Option Addr) (n1 c1 n2 c2 m1 m2 : Nat) (w : World) (g1 : n1 ≤ c1) (g2 : c1 ≤ 9223372036854775807) (g3 : n2 ≤ c2) (g4 : c2 ≤ 9223372036854775807) (hm1 : Hid (min n1 50 = m1)) (hm2 : Hid (min n2 300 = m2)) :
    Calls Try.prog 4 #[.agg #[.int .u8 (tos.toNat : Int), .int .u16 (id.toNat : Int), .bool D, .bool M, .int .u16 (fo.toNat : Int), .int .u8 (ttl.toNat : Int), .int .u8 (pr.toNat : Int), .int .u32 (s.toNat : Int), .int .u32 (d.toNat : Int), .slice A1 n1 c1, .slice A2 n2 c2]] w fun e w' =>
      e = .returned (.agg #[.int .u8 (tos.toNat : Int), .int .u16 (id.toNat : Int), .bool D, .bool M, .int .u16 (fo.toNat : Int), .int .u8 (ttl.toNat : Int), .int .u8 (pr.toNat : Int), .int .u32 (s.toNat : Int), .int .u32 (d.toNat : Int), .slice A1 m1 c1, .slice A2 m2 c2]) ∧ Below w.heap.size w w' := by
  have hf : ∀ W, Calls Try.prog 11 #[.slice A1 n1 c1, .int .i64 50] W fun e w' => e = .returned (.slice A1 m1 c1) ∧ W = w' := by
    intro W
    have := few_le A1 n1 c1 50 W g1 g2 (by omega)
    rw [hm1.out] at this
    exact this
  have hg : ∀ W, Calls Try.prog 11 #[.slice A2 n2 c2, .int .i64 300] W fun e w' => e = .returned (.slice A2 m2 c2) ∧ W = w' := by
    intro W
    have := few_le A2 n2 c2 300 W g3 g4 (by omega)
    rw [hm2.out] at this
    exact this
  have HF := Lib.hid hf
  have HG := Lib.hid hg
  clear hf hm1 hg hm2
  go_enter Try.func4, Try.ntmps4
  go_wp2_with fail
  refine (HF.out _).mono ?_
  rintro e w1 ⟨rfl, rfl⟩
  go_wp2_with fail
  refine (HG.out _).mono ?_
  rintro e w1 ⟨rfl, rfl⟩
  go_wp2_with fail
  simp [bodyPost, results, Try.results4, go_sem]
  exact bnextA (bnextA (Below.refl _ _) _) _

end Go.Proofs.Ytpibempfhgaomaa
