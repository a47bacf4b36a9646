/- Contracts of package icmp and of the reference's answers for it. -/
import Derived.Test.YtpibempfhgaomaaKit
namespace Go.Proofs.Ytpibempfhgaomaa
open Go.RowKit

theorem iparse_short (A : Option Addr) (c : Nat) (xs : List UInt8) (w : World) (hr : Rd bv w w.heap.size A c xs) (h8 : xs.length < 8) :
    Calls Try.prog 8 #[.slice A xs.length c] w fun e w' => e = .returned (.tuple #[.agg #[.int .u8 0, .int .u8 0, .int .u32 0, .slice none 0 0], .int .i64 4]) ∧ Below w.heap.size w w' := by
  have hlc := hr.len
  have hcc := hr.cap
  go_enter Try.func8, Try.ntmps8
  go_wp2_with fail
  refine (cut_no _ _ _ _ _ _ (by omega) (by omega) (by omega)).mono ?_
  rintro e w1 ⟨rfl, rfl⟩
  go_wp2_with fail
  simp [bodyPost, results, Try.results8, go_sem]
  exact bnextA (Below.refl _ _) _

theorem drop_len8 (xs : List UInt8) (_h8 : 8 ≤ xs.length) : ((xs.drop 8).take (xs.length - 8)) = xs.drop 8 := by
  rw [List.take_of_length_le (by simp)]

theorem icut8 (A : Option Addr) (c : Nat) (xs : List UInt8) (W : World) (h : Rd bv W W.heap.size A c xs) (h8 : 8 ≤ xs.length) (hl : xs.length ≤ 1000000) :
    Calls Try.prog 20 #[.slice A xs.length c, .int .i64 8, .int .i64 ((xs.length : Int) - 8)] W fun e w' => ∃ L A2 c2, e = .returned (.tuple #[.slice A2 L.length c2, .bool true]) ∧ Hid (L = xs.drop 8) ∧ Rd bv w' w'.heap.size A2 c2 L ∧ Below W.heap.size W w' := by
  have := cut_yes A c xs 8 (xs.length - 8) W h (by omega) hl
  rw [drop_len8 xs h8, show ((xs.length - 8 : Nat) : Int) = (xs.length : Int) - 8 by omega] at this
  refine this.mono ?_
  rintro e w' ⟨v, rfl, ho, hb⟩
  obtain ⟨L, A2, c2, HL, rfl, hr⟩ := ho.rdv
  exact ⟨L, A2, c2, rfl, HL, hr, hb⟩

theorem iparse_sum (A : Option Addr) (c : Nat) (xs : List UInt8) (w : World) (hr : Rd bv w w.heap.size A c xs) (h8 : 8 ≤ xs.length) (hl : xs.length ≤ 1000000) (hN : onesN xs ≠ 65535) :
    Calls Try.prog 8 #[.slice A xs.length c] w fun e w' => e = .returned (.tuple #[.agg #[.int .u8 0, .int .u8 0, .int .u32 0, .slice none 0 0], .int .i64 5]) ∧ Below w.heap.size w w' := by
  have hlc := hr.len
  have hcc := hr.cap
  have hN := Lib.hid hN
  go_enter Try.func8, Try.ntmps8
  go_wp2_with fail
  refine (icut8 A c xs _ (hr.nextA _) h8 hl).mono ?_
  rintro e w1 ⟨L1, A1, c1, rfl, HL1, hr1, hZ⟩
  have hb1 := (hr.nextA _).next hZ
  go_wp2_with fail
  refine (sright_no _ _ _ 1 [xs] (parts_lit (.cons hb1 .nil) _ rfl _) rfl (by omega) (by omega) (by simp; omega) (by simpa using hN.out)).mono ?_
  rintro e w2 ⟨rfl, hbel2⟩
  replace hZ := bnext (bnextA hZ _) hbel2
  have c0 := (blk rfl hZ 0).1
  have c1' := (blk rfl hZ 1).1
  have c2' := (blk rfl hZ 2).1
  have c3' := (blk rfl hZ 3).1
  have f0 := (blk rfl hZ 0).2
  have f1 := (blk rfl hZ 1).2
  have f2 := (blk rfl hZ 2).2
  have f3 := (blk rfl hZ 3).2
  simp at c0 c1' c2' c3'
  have hB := bnext (bnextA (Below.refl w.heap.size w) _) hZ
  clear hZ hbel2 hb1 hr1
  go_wp2_with fail

  simp [bodyPost, results, Try.results8, go_sem, *]
  exact (((hB.setCell (p := ⟨_, 0, none⟩) (Nat.le_refl _) _).setCell (p := ⟨_, 1, none⟩) (Nat.le_refl _) _).setCell (p := ⟨_, 2, none⟩) (Nat.le_refl _) _).setCell (p := ⟨_, 3, none⟩) (Nat.le_refl _) _

theorem iparse_ok (A : Option Addr) (c : Nat) (xs : List UInt8) (w : World) (hr : Rd bv w w.heap.size A c xs) (h8 : 8 ≤ xs.length) (hl : xs.length ≤ 1000000) (hN : onesN xs = 65535) :
    Calls Try.prog 8 #[.slice A xs.length c] w fun e w' => ∃ L A1 c1, e = .returned (.tuple #[.agg #[.int .u8 (xs[0].toNat : Int), .int .u8 (xs[1].toNat : Int), .int .u32 (beN ((xs.drop 4).take 4) : Nat), .slice A1 L.length c1], .int .i64 0]) ∧ Hid (L = xs.drop 8) ∧ Rd bv w' w'.heap.size A1 c1 L ∧ Below w.heap.size w w' := by
  have hlc := hr.len
  have hcc := hr.cap
  have hN := Lib.hid hN
  have hx0 := xs[0].toNat_lt
  have hx1 := xs[1].toNat_lt
  have hbe := beN_lt ((xs.drop 4).take 4)
  have hg4 : 4 + 4 ≤ xs.length := by omega
  have HG := fun W (h : Rd bv W W.heap.size A c xs) => Lib.hid (get32_yes A c xs 4 W _ h hg4)
  obtain ⟨N4, hN4⟩ : ∃ N4, beN ((xs.drop 4).take 4) = N4 := ⟨_, rfl⟩
  rw [hN4] at HG hbe ⊢
  obtain ⟨X0, hX0⟩ : ∃ X0, xs[0] = X0 := ⟨_, rfl⟩
  obtain ⟨X1, hX1⟩ : ∃ X1, xs[1] = X1 := ⟨_, rfl⟩
  rw [hX0] at hx0 ⊢
  rw [hX1] at hx1 ⊢
  have HX0 := Lib.hid hX0
  have HX1 := Lib.hid hX1
  clear hN4 hX0 hX1
  go_enter Try.func8, Try.ntmps8
  go_wp2_with fail
  have hcut := cut_yes A c xs 8 (xs.length - 8) _ (hr.nextA (.cells #[.int .u8 0, .int .u8 0, .int .u32 0, .slice none 0 0] 44)) (by omega) hl
  rw [drop_len8 xs h8, show ((xs.length - 8 : Nat) : Int) = (xs.length : Int) - 8 by omega] at hcut
  refine hcut.mono ?_
  clear hcut
  rintro e w1 ⟨v1, rfl, hown, hZ⟩
  obtain ⟨L1, A1, c1, HL1, rfl, -⟩ := hown.rdv
  have hb1 := (hr.nextA _).next hZ
  have hO := Lib.hid hown
  clear hown
  go_wp2_with fail
  refine (sright_yes _ _ _ 1 [xs] (parts_lit (.cons hb1 .nil) _ rfl _) rfl (by omega) (by omega) (by simp; omega) (by simpa using hN.out)).mono ?_
  rintro e w2 ⟨rfl, hbel2⟩
  replace hZ := bnext (bnextA hZ _) hbel2
  have hb2 := (hb1.nextA _).next hbel2
  replace hO := Lib.hid ((hO.out.alloc _).nextO hbel2)
  go_wp2_with fail
  refine (HG _ hb2).out.mono ?_
  rintro e w3 ⟨rfl, j, rfl⟩
  obtain ⟨b, off, rfl, hB3, hcell⟩ := byt_at hb2 (k := 0) (by omega)
  have k0 := hcell 0 (by omega)
  have k1 := hcell 1 (by omega)
  rw [HX0.out] at k0
  rw [HX1.out] at k1
  have c0 := (blk rfl hZ 0).1
  have c1' := (blk rfl hZ 1).1
  have c2' := (blk rfl hZ 2).1
  have c3' := (blk rfl hZ 3).1
  have f0 := (blk rfl hZ 0).2
  have f1 := (blk rfl hZ 1).2
  have f2 := (blk rfl hZ 2).2
  have f3 := (blk rfl hZ 3).2
  simp at c0 c1' c2' c3'
  have hB := bnext (bnextA (Below.refl w.heap.size w) _) hZ
  have HZ := Lib.hid hZ
  simp only [Nat.add_zero] at k0
  clear hZ hbel2 hb1 hb2 hcell hr
  go_wp2_with fail
  go_region
  go_wp2_with fail
  simp [bodyPost, results, Try.results8, go_sem, *]
  rw [← HL1.out] at hO
  have hO4 := ((((hO.out.drewN (j + 1)).setBelow (p := ⟨w.heap.size, 0, none⟩) (by simp) (.int .u8 (X0.toNat : Int))).setBelow (p := ⟨w.heap.size, 1, none⟩) (by simp) (.int .u8 (X1.toNat : Int))).setBelow (p := ⟨w.heap.size, 2, none⟩) (by simp) (.int .u32 (N4 : Int))).setBelow (p := ⟨w.heap.size, 3, none⟩) (by simp) (.slice A1 L1.length c1)
  refine ⟨L1, A1, c1, ⟨rfl, rfl, rfl⟩, HL1, by simpa using hO4.rdS, ?_⟩
  exact ((((below_drewN hB (j + 1)).setCell (p := ⟨_, 0, none⟩) (Nat.le_refl _) _).setCell (p := ⟨_, 1, none⟩) (Nat.le_refl _) _).setCell (p := ⟨_, 2, none⟩) (Nat.le_refl _) _).setCell (p := ⟨_, 3, none⟩) (Nat.le_refl _) _

/-! The reference's reader. -/
end Go.Proofs.Ytpibempfhgaomaa
