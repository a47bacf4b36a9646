/- Contracts of sip's take and number, and of the reference's round. -/
import Derived.Test.YteodjajjlgekcaaDoorSip1
namespace Go.Proofs.YteodjajjlgekcaaDoor
open Go.RowKit

/-- A number comes in. -/
def takeF (s : Four) (n : Nat) : Four := ((rndN (s.1, s.2.1, s.2.2.1, s.2.2.2 ^^^ n) 2).1 ^^^ n, (rndN (s.1, s.2.1, s.2.2.1, s.2.2.2 ^^^ n) 2).2)
theorem takeF_fine (s : Four) (n : Nat) (h : fine s) (hn : n < 18446744073709551616) : fine (takeF s n) := by
  obtain ⟨h1, h2, h3, h4⟩ := h
  obtain ⟨g1, g2, g3, g4⟩ := rndN_fine (s.1, s.2.1, s.2.2.1, s.2.2.2 ^^^ n) ⟨h1, h2, h3, xor64_lt _ _ h4 hn⟩ 2
  exact ⟨xor64_lt _ _ g1 hn, g2, g3, g4⟩
set_option maxHeartbeats 4000000 in
theorem take_sip (g n : Nat) (s : Four) (hs : fine s) (hn : n < 18446744073709551616) (w : World) (K0 : Blk w g (st s) 90) (B : Nat) (hBg : B ≤ g) :
    Calls Tryd.prog 59 #[.pointer (some ⟨g, 0, none⟩), .int .u64 n] w fun e w' => e = .returned (.tuple #[]) ∧ Blk w' g (st (takeF s n)) 90 ∧ Below B w w' := by
  obtain ⟨a, b, c, d⟩ := s
  obtain ⟨h1, h2, h3, h4⟩ := hs
  simp only at h1 h2 h3 h4
  have hf : fine (a, b, c, d ^^^ n) := ⟨h1, h2, h3, xor64_lt _ _ h4 hn⟩
  obtain ⟨y, hy⟩ : ∃ y, d ^^^ n = y := ⟨_, rfl⟩
  have hx1 : bits BinOp.xor IntKind.u64 (d : Int) (n : Int) = (y : Int) := by rw [u64_xor_nat _ _ h4 hn, hy]
  rw [hy] at hf
  have hf2 := rndN_fine _ hf 2
  have HT : Hid (takeF (a, b, c, d) n = ((rndN (a, b, c, y) 2).1 ^^^ n, (rndN (a, b, c, y) 2).2)) := by rw [Hid, takeF]; simp only; rw [hy]
  have K : Blk w g [.int .u64 (a : Int), .int .u64 (b : Int), .int .u64 (c : Int), .int .u64 (d : Int)] 90 := K0
  obtain ⟨z0, z1, z2, z3, y0, y1, y2, y3⟩ := K.get4
  have K1 : Blk (w.setCell ⟨g, 3, none⟩ (.int .u64 (y : Int))) g (st (a, b, c, y)) 90 := K.set 3 _
  have hB := (Below.refl B w).setCell (p := ⟨g, 3, none⟩) hBg (.int .u64 (y : Int))
  have HC := fun W (h : Blk W g (st (a, b, c, y)) 90) => Lib.hid (turn_sip g 2 (a, b, c, y) hf (by omega) W h B hBg)
  clear hf h1 h2 h3 h4 hy K0 K
  go_enter Tryd.func59, Tryd.ntmps59
  go_wp2_with fail
  refine (HC _ K1).out.mono ?_
  rintro e w1 ⟨rfl, K2, hb⟩
  replace hB := hB.trans hb
  clear hb K1 HC z0 z1 z2 z3 y0 y1 y2 y3 hx1
  generalize rndN (a, b, c, y) 2 = t at *
  obtain ⟨p, q, r, u⟩ := t
  obtain ⟨l1, l2, l3, l4⟩ := hf2
  simp only at l1 l2 l3 l4
  have K : Blk w1 g [.int .u64 (p : Int), .int .u64 (q : Int), .int .u64 (r : Int), .int .u64 (u : Int)] 90 := K2
  obtain ⟨z0, z1, z2, z3, y0, y1, y2, y3⟩ := K.get4
  have hx2 : bits BinOp.xor IntKind.u64 (p : Int) (n : Int) = ((p ^^^ n : Nat) : Int) := u64_xor_nat _ _ l1 hn
  go_wp2_with fail
  simp [bodyPost, results, Tryd.results59, go_sem]
  rw [HT.out]
  exact ⟨K.set 0 _, hB.setCell (p := ⟨g, 0, none⟩) hBg _⟩
/-- The number that bytes are, the lowest first. -/
def numLE : List UInt8 → Nat
  | [] => 0
  | x :: r => x.toNat + 256 * numLE r
theorem numLE_lt : ∀ (l : List UInt8), numLE l < 256 ^ l.length
  | [] => by simp [numLE]
  | x :: r => by
    have := numLE_lt r
    have := x.toNat_lt
    simp only [numLE, List.length_cons, Nat.pow_succ]
    omega
theorem numLE_snoc : ∀ (l : List UInt8) (x : UInt8), numLE (l ++ [x]) = numLE l + x.toNat * 256 ^ l.length
  | [], x => by simp [numLE]
  | y :: r, x => by
    have := numLE_snoc r x
    simp only [List.cons_append, numLE, List.length_cons, Nat.pow_succ]
    rw [this, Nat.mul_add]
    have e : 256 * (x.toNat * 256 ^ r.length) = x.toNat * (256 ^ r.length * 256) := by rw [Nat.mul_comm, Nat.mul_assoc]
    omega
theorem num_any (A : Option Addr) (c : Nat) (xs : List UInt8) (w : World) (B : Nat) (hr : Rd bv w B A c xs) (hl : xs.length ≤ 8) :
    Calls Tryd.prog 60 #[.slice A xs.length c] w fun e w' => e = .returned (.int .u64 (numLE xs : Nat)) ∧ w = w' := by
  have hlc := hr.len
  have hcc := hr.cap
  go_enter Tryd.func60, Tryd.ntmps60
  go_wp2_with fail
  go_loopw [3, 4, 5, 8] (fun n i x k wr => ∃ j : Nat, j ≤ xs.length ∧ k = .int .i64 j ∧ n = .int .u64 (numLE (xs.take j) : Nat) ∧ w = wr) (fun _ _ _ k _ => xs.length - (intOf k).toNat)
  case atStart => exact ⟨0, by omega, rfl, rfl, rfl⟩
  case round =>
    obtain ⟨j, hj, rfl, rfl, rfl⟩ := hrel
    by_cases hlt : j < xs.length
    · obtain ⟨b, off, rfl, -, hcell⟩ := byt_at hr (k := j) hlt
      have k0 := hcell j hlt
      have hx := (xs[j]).toNat_lt
      have hj8 : j < 8 := by omega
      have hlen : (xs.take j).length = j := by simp; omega
      have hy := numLE_lt (xs.take j)
      have HST : Hid (numLE (xs.take (j + 1)) = numLE (xs.take j) + (xs[j]).toNat * 256 ^ j) := by rw [Hid, take_one xs j hlt, numLE_snoc, hlen]
      rw [hlen] at hy
      clear hcell hlen
      generalize xs[j] = x at *
      generalize numLE (xs.take j) = n at *
      have hp : x.toNat * 256 ^ j < 18446744073709551616 := by
        have h1 : 256 ^ j ≤ 256 ^ 7 := Nat.pow_le_pow_right (by omega) (by omega)
        have h2 : x.toNat * 256 ^ j ≤ 255 * 256 ^ 7 := Nat.mul_le_mul (by omega) h1
        omega
      have hpw : (2 : Int) ^ (8 * j) = ((256 ^ j : Nat) : Int) := by
        rw [show (256 : Nat) ^ j = 2 ^ (8 * j) by rw [Nat.pow_mul]]
        exact (Int.natCast_pow 2 (8 * j)).symm
      have hw : IntKind.u64.wrap ((x.toNat : Int) * ((256 ^ j : Nat) : Int)) = ((x.toNat * 256 ^ j : Nat) : Int) := by
        rw [← Int.natCast_mul]
        generalize x.toNat * 256 ^ j = P at *
        rw [wrap_u64s]
        omega
      have hor : bits BinOp.or IntKind.u64 (n : Int) ((x.toNat * 256 ^ j : Nat) : Int) = ((n + x.toNat * 256 ^ j : Nat) : Int) := by
        have h2 : (256 : Nat) ^ j = 2 ^ (8 * j) := by rw [Nat.pow_mul]
        have hn64 : n < 18446744073709551616 := Nat.lt_of_lt_of_le hy (Nat.pow_le_pow_right (by omega) (show j ≤ 8 by omega))
        rw [u64_or_nat _ _ hn64 hp, h2]
        rw [h2] at hy
        rw [Nat.or_comm, ← Nat.shiftLeft_eq, ← Nat.shiftLeft_add_eq_or_of_lt hy, Nat.add_comm]
      have hjl : (j : Int) < (xs.length : Int) := by omega
      replace hw := Lib.hid hw
      replace hor := Lib.hid hor
      go_wp2_with fail
      have hw2 : IntKind.u64.wrap ((x.toNat : Int) * 256 ^ j) = ((x.toNat * 256 ^ j : Nat) : Int) := by
        rw [show (256 : Int) ^ j = ((256 ^ j : Nat) : Int) from (Int.natCast_pow 256 j).symm]
        exact hw.out
      go_roundw
      case rel => exact ⟨j + 1, by omega, by go_num, by rw [HST.out, hw2, hor.out], trivial⟩
      case measure => simp [intOf]; omega
    · have : j = xs.length := by omega
      subst this
      rw [List.take_length]
      go_wp2_with fail
      go_ret
      exact ⟨rfl, rfl⟩
end Go.Proofs.YteodjajjlgekcaaDoor
