/- Contracts of the reference's bytes and Put, Few, Same for datagrams. -/
import Derived.Test.YtkoamiefombilaaUdp2
namespace Go.Proofs.Ytkoamiefombilaa
open Go.RowKit

theorem rub_eq (a b : UInt16) (s n : Nat) (hs : s ≤ 65535) (xs : List UInt8) (hn : n = 8 + xs.length) (hl : xs.length ≤ 65527) :
    [UInt8.ofNat (a.toNat / 256), UInt8.ofNat (a.toNat % 256), UInt8.ofNat (b.toNat / 256), UInt8.ofNat (b.toNat % 256), UInt8.ofNat (n / 256), UInt8.ofNat (n % 256), UInt8.ofNat (s / 256), UInt8.ofNat (s % 256)] ++ xs = ub a b s xs := by
  subst hn
  rw [ub, be16_ofNat s hs, be16_ofNat _ (by omega)]
  rfl
theorem ufew_any (a b : UInt16) (bare : Bool) (A : Option Addr) (n c m : Nat) (w : World) (h : n ≤ c) (hc : c ≤ 9223372036854775807) (hm : Hid (min n 200 = m)) :
    Calls Try.prog 30 #[.agg #[.int .u16 (a.toNat : Int), .int .u16 (b.toNat : Int), .bool bare, .slice A n c]] w fun e w' =>
      e = .returned (.agg #[.int .u16 (a.toNat : Int), .int .u16 (b.toNat : Int), .bool bare, .slice A m c]) ∧ Below w.heap.size w w' := by
  have hf : ∀ W, Calls Try.prog 32 #[.slice A n c, .int .i64 200] W fun e w' => e = .returned (.slice A m c) ∧ W = w' := by
    intro W
    have := few_le A n c 200 W h hc (by omega)
    rw [hm.out] at this
    exact this
  have HF := Lib.hid hf
  clear hf hm
  go_enter Try.func30, Try.ntmps30
  go_wp2_with fail
  refine (HF.out _).mono ?_
  rintro e w1 ⟨rfl, rfl⟩
  go_wp2_with fail
  simp [bodyPost, results, Try.results30, go_sem]
  exact bnextA (bnextA (Below.refl _ _) _) _

theorem usame_yes (a b : UInt16) (bare : Bool) (A1 A2 : Option Addr) (c1 c2 : Nat) (xs ys : List UInt8) (w : World) (h1 : Rd bv w w.heap.size A1 c1 xs) (h2 : Rd bv w w.heap.size A2 c2 ys) (he : xs = ys) :
    Calls Try.prog 25 #[.agg #[.int .u16 (a.toNat : Int), .int .u16 (b.toNat : Int), .bool bare, .slice A1 xs.length c1], .agg #[.int .u16 (a.toNat : Int), .int .u16 (b.toNat : Int), .bool bare, .slice A2 ys.length c2]] w fun e w' =>
      e = .returned (.bool true) ∧ Below w.heap.size w w' := by
  subst he
  go_enter Try.func25, Try.ntmps25
  go_wp2_with fail
  refine (rsame_yes A1 A2 c1 c2 xs _ _ ((h1.nextA _).nextA _) ((h2.nextA _).nextA _)).mono ?_
  rintro e w1 ⟨rfl, hd⟩
  replace hd := hd.bel
  go_wp2_with fail
  go_ret
  exact ⟨rfl, bnext (bnextA (bnextA (Below.refl _ _) _) _) hd⟩
theorem usame_zero (w : World) :
    Calls Try.prog 25 #[.agg #[.int .u16 0, .int .u16 0, .bool false, .slice none 0 0], .agg #[.int .u16 0, .int .u16 0, .bool false, .slice none 0 0]] w fun e w' =>
      e = .returned (.bool true) ∧ Below w.heap.size w w' :=
  usame_yes 0 0 false none none 0 0 [] [] w (Rd.nil0 _ _ _) (Rd.nil0 _ _ _) rfl
end Go.Proofs.Ytkoamiefombilaa
