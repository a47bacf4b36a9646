/- What was put by udp.Put is read again. -/
import Derived.Test.YtikjoiijdhlghaaUdp4
namespace Go.Proofs.Ytikjoiijdhlghaa
open Go.RowKit

theorem usum_right (pre xs : List UInt8) (N S : Nat) (hp : pre.length % 2 = 0) (hN : onesN (pre ++ ([0, 0] ++ xs)) = N) (hS : (if N = 65535 then 65535 else 65535 - N) = S) :
    onesN (pre ++ ([UInt8.ofNat (S / 256), UInt8.ofNat (S % 256)] ++ xs)) = 65535 := by
  by_cases h : N = 65535
  · rw [if_pos h] at hS
    subst hS
    rw [h] at hN
    unfold onesN at hN ⊢
    rw [foldN_full] at hN ⊢
    rw [show pre ++ ([0, 0] ++ xs) = pre ++ (0 :: 0 :: xs) from rfl, wsum_pair _ _ _ _ hp] at hN
    rw [show pre ++ ([UInt8.ofNat (65535 / 256), UInt8.ofNat (65535 % 256)] ++ xs) = pre ++ (255 :: 255 :: xs) from rfl, wsum_pair _ _ _ _ hp]
    have e0 : (0 : UInt8).toNat = 0 := rfl
    have e1 : (255 : UInt8).toNat = 255 := rfl
    rw [e0] at hN
    rw [e1]
    omega
  · rw [if_neg h] at hS
    have hle : N ≤ 65535 := by rw [← hN]; exact onesN_le _
    have := fills_right pre xs S hp (by rw [hN]; exact hS.symm)
    rwa [show S / 256 % 256 = S / 256 by omega] at this
theorem be16_two (x : UInt16) : beN (be16 x) = x.toNat := by
  have := x.toNat_lt
  rw [be16, beN_two]
  simp
  omega
theorem two_nat (n : Nat) (h : n ≤ 65535) : beN (be16 (UInt16.ofNat n)) = n := by rw [be16_two, UInt16.ofNat_id n h]
theorem ub_ones (s d : UInt32) (a b : UInt16) (xs : List UInt8) (N S : Nat) (hN : onesN (uh s d 17 (8 + xs.length) ++ ub a b 0 xs) = N) (hS : (if N = 65535 then 65535 else 65535 - N) = S) : onesN (uh s d 17 (8 + xs.length) ++ ub a b S xs) = 65535 := by
  have hle : N ≤ 65535 := by rw [← hN]; exact onesN_le _
  have hS2 : S ≤ 65535 := by rw [← hS]; split <;> omega
  have h := usum_right (uh s d 17 (8 + xs.length) ++ (be16 a ++ (be16 b ++ be16 (UInt16.ofNat (8 + xs.length))))) xs N S (by simp [uh_len, be16]) (by rw [← hN]; simp [ub, be16]) hS
  rw [← h, ub, be16_ofNat S hS2]
  simp
theorem uparse_put (s d : UInt32) (a b : UInt16) (bare : Bool) (xs zs P : List UInt8) (S : Nat) (hS : (if bare then 0 else if onesN (uh s d 17 (8 + xs.length) ++ ub a b 0 xs) = 65535 then 65535 else 65535 - onesN (uh s d 17 (8 + xs.length) ++ ub a b 0 xs)) = S)
    (hP : P = ub a b S xs ++ zs) (hxl : xs.length ≤ 1000) (hzl : zs.length ≤ 1000) (A : Option Addr) (c : Nat) (w : World) (hr : Rd bv w w.heap.size A c P) :
    Calls Try.prog 30 #[.int .u32 (s.toNat : Int), .int .u32 (d.toNat : Int), .slice A P.length c] w fun e w' => ∃ L A1 c1, e = .returned (.tuple #[.agg #[.int .u16 (a.toNat : Int), .int .u16 (b.toNat : Int), .bool bare, .slice A1 L.length c1], .int .i64 0]) ∧ Hid (L = xs) ∧ Rd bv w' w'.heap.size A1 c1 L ∧ Below w.heap.size w w' := by
  have hS2 : S ≤ 65535 := by rw [← hS]; split <;> (try split) <;> omega
  have hlen : P.length = 8 + xs.length + zs.length := by rw [hP]; simp [ub_len]
  have htl : (ub a b S xs).length = 8 + xs.length := ub_len a b S xs
  have h4 : beN ((P.drop 4).take 2) = (ub a b S xs).length := by
    rw [htl, hP]; exact two_nat (8 + xs.length) (by omega)
  have h6 : beN ((P.drop 6).take 2) = S := by rw [hP]; exact two_nat S hS2
  have h0 : beN ((P.drop 0).take 2) = a.toNat := by rw [hP]; exact be16_two a
  have h2 : beN ((P.drop 2).take 2) = b.toNat := by rw [hP]; exact be16_two b
  have ht : P.take (ub a b S xs).length = ub a b S xs := by rw [hP, List.take_left' rfl]
  have h8 : (P.drop 8).take ((ub a b S xs).length - 8) = xs := by
    rw [htl, hP, show 8 + xs.length - 8 = xs.length by omega]
    exact List.take_left' rfl
  cases bare
  · obtain ⟨N, hN⟩ : ∃ N, onesN (uh s d 17 (8 + xs.length) ++ ub a b 0 xs) = N := ⟨_, rfl⟩
    have hS3 := hS
    rw [if_neg Bool.false_ne_true] at hS3
    rw [hN] at hS3
    have hle : N ≤ 65535 := by rw [← hN]; exact onesN_le _
    have h1 : onesN (uh s d 17 (ub a b S xs).length ++ ub a b S xs) = 65535 := by
      rw [htl]; exact ub_ones s d a b xs N S hN hS3
    have hS0 : S ≠ 0 := by
      by_cases hc : N = 65535
      · rw [if_pos hc] at hS3; omega
      · rw [if_neg hc] at hS3; omega
    clear hS hN hS3 hle
    have h := uparse_full s d A c P (ub a b S xs) w hr (by omega) (by omega) h4 (by omega) (by omega) ht S h6 hS0 h1 _ _ h0 h2
    rw [h8] at h
    exact h
  · have hS0 : S = 0 := hS.symm
    have h := uparse_bare s d A c P (ub a b S xs) w hr (by omega) (by omega) h4 (by omega) (by omega) ht S h6 hS0 _ _ h0 h2
    rw [h8] at h
    exact h
end Go.Proofs.Ytikjoiijdhlghaa
