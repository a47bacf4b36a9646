/- What icmp.Parse answers to what icmp.Put made. -/
import Derived.Test.YtpibempfhgaomaaIcmp3
namespace Go.Proofs.Ytpibempfhgaomaa
open Go.RowKit

theorem beN_be32 (re : UInt32) : beN (be32 re) = re.toNat := by
  have := re.toNat_lt
  rw [be32, beN_four]
  simp
  omega
theorem put_sum (ty co : UInt8) (b : List UInt8) (N : Nat) (hN : onesN ([ty, co, 0, 0] ++ b) = N) : onesN ([ty, co, UInt8.ofNat ((65535 - N) / 256), UInt8.ofNat ((65535 - N) % 256)] ++ b) = 65535 := by
  have h := fills_right [ty, co] b (65535 - N) (by simp) (by rw [← hN]; rfl)
  rw [show (65535 - N) / 256 % 256 = (65535 - N) / 256 by omega] at h
  exact h
theorem iparse_put (ty co a b : UInt8) (re : UInt32) (xs L : List UInt8) (A : Option Addr) (c : Nat) (w : World) (hr : Rd bv w w.heap.size A c L) (hL : L = [ty, co, a, b] ++ (be32 re ++ xs)) (hl : xs.length ≤ 100000) (hN : onesN L = 65535) :
    Calls Try.prog 8 #[.slice A L.length c] w fun e w' => ∃ L1 A1 c1, e = .returned (.tuple #[.agg #[.int .u8 (ty.toNat : Int), .int .u8 (co.toNat : Int), .int .u32 (re.toNat : Int), .slice A1 L1.length c1], .int .i64 0]) ∧ Hid (L1 = xs) ∧ Rd bv w' w'.heap.size A1 c1 L1 ∧ Below w.heap.size w w' := by
  have h8 : 8 ≤ L.length := by rw [hL]; simp [be32]
  have h := iparse_ok A c L w hr h8 (by rw [hL]; simp [be32]; omega) hN
  have e0 : L[0] = ty := (List.getElem_of_eq hL _).trans rfl
  have e1 : L[1] = co := (List.getElem_of_eq hL _).trans rfl
  have e2 : beN ((L.drop 4).take 4) = re.toNat := by
    rw [← beN_be32 re]; congr 1; rw [hL]; rfl
  have e3 : L.drop 8 = xs := by rw [hL]; rfl
  rw [e0, e1, e2, e3] at h
  exact h
end Go.Proofs.Ytpibempfhgaomaa
