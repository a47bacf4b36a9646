/- Contracts of package udp's makers and of the reference's answers for them. -/
import Derived.Test.YtlceflfmdfoeiaaKit
namespace Go.Proofs.Ytlceflfmdfoeiaa
open Go.RowKit

/-- A false head's bytes; a datagram's. -/
def uh (s d : UInt32) (p : UInt8) (n : Nat) : List UInt8 := be32 s ++ (be32 d ++ ([0, p] ++ be16 (UInt16.ofNat n)))
theorem uh_len (s d : UInt32) (p : UInt8) (n : Nat) : (uh s d p n).length = 12 := by simp [uh, be32, be16]
def ub (a b : UInt16) (s : Nat) (xs : List UInt8) : List UInt8 := be16 a ++ (be16 b ++ (be16 (UInt16.ofNat (8 + xs.length)) ++ (be16 (UInt16.ofNat s) ++ xs)))
theorem ub_len (a b : UInt16) (s : Nat) (xs : List UInt8) : (ub a b s xs).length = 8 + xs.length := by simp [ub, be16]; omega

theorem uhead_any (s d : UInt32) (p : UInt8) (n : Nat) (hn : n ≤ 65535) (w : World) :
    Calls Try.prog 44 #[.int .u32 (s.toNat : Int), .int .u32 (d.toNat : Int), .int .u8 (p.toNat : Int), .int .i64 (n : Int)] w fun e w' => ∃ L A c, e = .returned (.slice A L.length c) ∧ Hid (L = uh s d p n) ∧ Rd bv w' w'.heap.size A c L ∧ Below w.heap.size w w' := by
  have hs := s.toNat_lt
  have hd := d.toNat_lt
  have hp := p.toNat_lt
  go_enter Try.func44, Try.ntmps44
  go_wp2_with fail
  refine (put32_nil _ _ [s, d] _ (lit32_at _ _ [s, d] rfl _ rfl _ (by simp)) (by simp)).mono ?_
  rintro e w1 ⟨L1, A1, c1, rfl, HL1, r1, hbel⟩
  have hB := bnext (bnextA (Below.refl w.heap.size w) _) hbel
  clear hbel
  go_wp2_with fail
  have r0 := lit_at w1 w1.heap.size [0, p] rfl #[.int .u8 0, .int .u8 (p.toNat : Int)] rfl 5 (by simp)
  have r1' := r1.nextA (.cells #[.int .u8 0, .int .u8 (p.toNat : Int)] 5)
  refine (put16_nil _ _ [UInt16.ofNat n] _ (lit16_at _ _ [UInt16.ofNat n] (by simp) _ (by simp [hv]; omega) _ (by simp)) (by simp)).mono ?_
  rintro e w2 ⟨L2, A2, c2, rfl, HL2, r2, hbel⟩
  replace hB := bnext (bnextA (bnextA hB _) _) hbel
  replace r0 := (r0.nextA _).next hbel
  replace r1 := (r1'.nextA _).next hbel
  clear hbel r1'
  go_wp2_with fail
  refine (join_any _ _ _ 3 [L1, [0, p], L2] (parts_at _ rfl (.cons r1 (.cons r0 (.cons r2 .nil))) _ rfl _) rfl (by omega) (by omega) (by simp [HL1.out, HL2.out, puts16_len, puts32_len])).mono ?_
  rintro e w3 ⟨L3, A3, c3, rfl, HL3, r3, hbel⟩
  replace hB := bnext (bnextA hB _) hbel
  go_wp2_with fail
  go_ret
  exact ⟨L3, A3, c3, rfl, by rw [Hid, HL3.out, HL1.out, HL2.out]; simp [uh, puts16, puts32], r3, hB⟩

theorem ruh_eq (s d : UInt32) (p : UInt8) (n : Nat) (hn : n ≤ 65535) : (putN 4 s.toNat ++ putN 4 d.toNat) ++ [0, p, UInt8.ofNat (n / 256 % 256), UInt8.ofNat (n % 256)] = uh s d p n := by
  rw [uh, be16_ofNat n hn, be32_put, be32_put, show n / 256 % 256 = n / 256 by omega]
  simp
theorem ruhead_any (s d : UInt32) (p : UInt8) (n : Nat) (hn : n ≤ 65535) (w : World) :
    Calls Try.prog 18 #[.int .u32 (s.toNat : Int), .int .u32 (d.toNat : Int), .int .u8 (p.toNat : Int), .int .i64 (n : Int)] w fun e w' => ∃ L A c, e = .returned (.slice A L.length c) ∧ Hid (L = uh s d p n) ∧ Rd bv w' w'.heap.size A c L ∧ Below w.heap.size w w' := by
  have hs := s.toNat_lt
  have hd := d.toNat_lt
  have hp := p.toNat_lt
  go_enter Try.func18, Try.ntmps18
  go_wp2_with fail
  refine (rput_any s.toNat 4 _ hs (by omega)).mono ?_
  rintro e w1 ⟨v1, rfl, hown, hbel⟩
  obtain ⟨L1, A1, c1, HL1, rfl, r1⟩ := hown.rdv
  have hB := hbel
  clear hbel hown
  go_wp2_with fail
  refine (rput_any d.toNat 4 _ hd (by omega)).mono ?_
  rintro e w2 ⟨v2, rfl, hown, hbel⟩
  obtain ⟨L2, A2, c2, HL2, rfl, r2⟩ := hown.rdv
  replace hB := bnext hB hbel
  replace r1 := r1.next hbel
  clear hbel hown
  go_wp2_with fail
  refine (radd_any _ _ _ _ L1 L2 _ r1 r2 (by rw [HL1.out, HL2.out]; simp [putN_len])).mono ?_
  rintro e w3 ⟨v3, rfl, hown, hbel⟩
  obtain ⟨L3, A3, c3, HL3, rfl, r3⟩ := hown.rdv
  replace hB := bnext hB hbel
  clear hbel hown r1 r2
  go_wp2_with fail
  refine (radd_any _ _ _ _ L3 [0, p, UInt8.ofNat (n / 256 % 256), UInt8.ofNat (n % 256)] _ (r3.nextA _) (lit_at _ _ _ rfl _ (by simp [bv]) _ (by simp)) (by rw [HL3.out, HL1.out, HL2.out]; simp [putN_len])).mono ?_
  rintro e w4 ⟨v4, rfl, hown, hbel⟩
  obtain ⟨L4, A4, c4, HL4, rfl, r4⟩ := hown.rdv
  replace hB := bnext (bnextA hB _) hbel
  clear hbel hown r3
  go_wp2_with fail
  go_ret
  exact ⟨L4, A4, c4, rfl, by rw [Hid, HL4.out, HL3.out, HL1.out, HL2.out]; exact ruh_eq s d p n hn, r4, hB⟩
end Go.Proofs.Ytlceflfmdfoeiaa
