/- Contracts of the reference's bytes and Put, Few, Same for datagrams. -/
import Derived.Test.YtikjoiijdhlghaaUdp2
namespace Go.Proofs.Ytikjoiijdhlghaa
open Go.RowKit

theorem rub_eq (a b : UInt16) (s n : Nat) (hs : s ≤ 65535) (xs : List UInt8) (hn : n = 8 + xs.length) (hl : xs.length ≤ 65527) :
    [UInt8.ofNat (a.toNat / 256), UInt8.ofNat (a.toNat % 256), UInt8.ofNat (b.toNat / 256), UInt8.ofNat (b.toNat % 256), UInt8.ofNat (n / 256), UInt8.ofNat (n % 256), UInt8.ofNat (s / 256), UInt8.ofNat (s % 256)] ++ xs = ub a b s xs := by
  subst hn
  rw [ub, be16_ofNat s hs, be16_ofNat _ (by omega)]
  rfl
theorem rubytes_any (a b : UInt16) (bare : Bool) (s : Nat) (hs : s ≤ 65535) (A : Option Addr) (c : Nat) (xs : List UInt8) (w : World) (hr : Rd bv w w.heap.size A c xs) (hl : xs.length ≤ 65527) :
    Calls Try.prog 70 #[.agg #[.int .u16 (a.toNat : Int), .int .u16 (b.toNat : Int), .bool bare, .slice A xs.length c], .int .i64 (s : Int)] w fun e w' => ∃ L A' c', e = .returned (.slice A' L.length c') ∧ Hid (L = ub a b s xs) ∧ Rd bv w' w'.heap.size A' c' L ∧ Below w.heap.size w w' := by
  have ha := a.toNat_lt
  have hb := b.toNat_lt
  go_enter Try.func70, Try.ntmps70
  go_wp2_with fail
  refine (radd_any _ _ _ _ [UInt8.ofNat (a.toNat / 256), UInt8.ofNat (a.toNat % 256), UInt8.ofNat (b.toNat / 256), UInt8.ofNat (b.toNat % 256), UInt8.ofNat ((8 + xs.length) / 256), UInt8.ofNat ((8 + xs.length) % 256), UInt8.ofNat (s / 256), UInt8.ofNat (s % 256)] xs _ (lit_at _ _ _ (by simp) _ (by simp [bv]; omega) _ (by simp)) ((hr.nextA _).nextA _) (by simp; omega)).mono ?_
  rintro e w1 ⟨v1, rfl, hown, hbel⟩
  obtain ⟨L1, A1, c1, HL1, rfl, r1⟩ := hown.rdv
  have hB := bnext (bnextA (bnextA (Below.refl w.heap.size w) _) _) hbel
  clear hown hbel
  go_wp2_with fail
  go_ret
  exact ⟨L1, A1, c1, rfl, by rw [Hid, HL1.out]; exact rub_eq a b s _ hs xs rfl hl, r1, hB⟩

set_option maxHeartbeats 8000000 in
set_option maxRecDepth 8000 in
theorem ruput_any (s d : UInt32) (a b : UInt16) (bare : Bool) (A : Option Addr) (c : Nat) (xs : List UInt8) (w : World) (hr : Rd bv w w.heap.size A c xs) (hl : xs.length ≤ 65527) (S : Nat)
    (hS : (if bare then 0 else if onesN (uh s d 17 (8 + xs.length) ++ ub a b 0 xs) = 65535 then 65535 else 65535 - onesN (uh s d 17 (8 + xs.length) ++ ub a b 0 xs)) = S) :
    Calls Try.prog 35 #[.int .u32 (s.toNat : Int), .int .u32 (d.toNat : Int), .agg #[.int .u16 (a.toNat : Int), .int .u16 (b.toNat : Int), .bool bare, .slice A xs.length c]] w fun e w' => ∃ L A' c', e = .returned (.tuple #[.slice A' L.length c', .int .i64 0]) ∧ Hid (L = ub a b S xs) ∧ Rd bv w' w'.heap.size A' c' L ∧ Below w.heap.size w w' := by
  have HSS := Lib.hid hS
  clear hS
  obtain ⟨W1, hW1⟩ : ∃ W1, W1 = w.alloc (.cells #[.int .u16 (a.toNat : Int), .int .u16 (b.toNat : Int), .bool bare, .slice A xs.length c] 51) := ⟨_, rfl⟩
  have hdat1 : Rd bv W1 W1.heap.size A c xs := by subst hW1; exact hr.nextA _
  have hB1 : Below w.heap.size w W1 := by subst hW1; exact bnextA (Below.refl _ _) _
  have k0 : W1.cell? ⟨w.heap.size, 0, none⟩ = some (.int .u16 (a.toNat : Int)) := by subst hW1; simp
  have k1 : W1.cell? ⟨w.heap.size, 1, none⟩ = some (.int .u16 (b.toNat : Int)) := by subst hW1; simp
  have k2 : W1.cell? ⟨w.heap.size, 2, none⟩ = some (.bool bare) := by subst hW1; simp
  have k3 : W1.cell? ⟨w.heap.size, 3, none⟩ = some (.slice A xs.length c) := by subst hW1; simp
  have hsz : W1.heap.size = w.heap.size + 1 := by subst hW1; simp
  have HS : ∀ W, Below W1.heap.size W1 W → (W.cell? ⟨w.heap.size, 0, none⟩ = some (.int .u16 (a.toNat : Int)) ∧ W.cell? ⟨w.heap.size, 1, none⟩ = some (.int .u16 (b.toNat : Int)) ∧ W.cell? ⟨w.heap.size, 2, none⟩ = some (.bool bare) ∧ W.cell? ⟨w.heap.size, 3, none⟩ = some (.slice A xs.length c) ∧ Below W1.heap.size W1 W) := by
    intro W h
    exact ⟨(h.cell (by simp; omega)).trans k0, (h.cell (by simp; omega)).trans k1, (h.cell (by simp; omega)).trans k2, (h.cell (by simp; omega)).trans k3, h⟩
  have hh : ∀ W, Hid (Calls Try.prog 29 #[.int .u32 (s.toNat : Int), .int .u32 (d.toNat : Int), .int .u8 17, .int .i64 (8 + (xs.length : Int))] W fun e w' => ∃ L A c, e = .returned (.slice A L.length c) ∧ Hid (L = uh s d 17 (8 + xs.length)) ∧ Rd bv w' w'.heap.size A c L ∧ Below W.heap.size W w') := by
    intro W
    have := ruhead_any s d 17 (8 + xs.length) (by omega) W
    rwa [show ((8 + xs.length : Nat) : Int) = 8 + (xs.length : Int) by omega] at this
  have hy : ∀ W (S : Nat) (_ : S ≤ 65535) (_ : Rd bv W W.heap.size A c xs), Hid (Calls Try.prog 70 #[.agg #[.int .u16 (a.toNat : Int), .int .u16 (b.toNat : Int), .bool bare, .slice A xs.length c], .int .i64 (S : Int)] W fun e w' => ∃ L A' c', e = .returned (.slice A' L.length c') ∧ Hid (L = ub a b S xs) ∧ Rd bv w' w'.heap.size A' c' L ∧ Below W.heap.size W w') := by
    intro W S h1 h2
    exact rubytes_any a b bare S h1 A c xs W h2 hl
  have hy0 := fun W (h : Rd bv W W.heap.size A c xs) => hy W 0 (by omega) h
  simp only [Int.ofNat_zero] at hy0
  cases bare
  · obtain ⟨N, hN⟩ : ∃ N, onesN (uh s d 17 (8 + xs.length) ++ ub a b 0 xs) = N := ⟨_, rfl⟩
    have hle : N ≤ 65535 := by rw [← hN]; exact onesN_le _
    have hS2 : (if N = 65535 then 65535 else 65535 - N) = S := by
      have := HSS.out
      rwa [hN] at this
    have HN := Lib.hid hN
    clear HSS hN
    go_enter Try.func35, Try.ntmps35
    go_wp2_with fail
    rw [← hW1]
    clear hW1 hr k0 k1 k2 k3
    have e8 : IntKind.i64.wrap (8 + (xs.length : Int)) = 8 + (xs.length : Int) := by rw [IntKind.wrap_i64]; omega
    go_region_held3 (fun W => W.cell? ⟨w.heap.size, 0, none⟩ = some (.int .u16 (a.toNat : Int)) ∧ W.cell? ⟨w.heap.size, 1, none⟩ = some (.int .u16 (b.toNat : Int)) ∧ W.cell? ⟨w.heap.size, 2, none⟩ = some (.bool false) ∧ W.cell? ⟨w.heap.size, 3, none⟩ = some (.slice A xs.length c) ∧ Below W1.heap.size W1 W)
      (first
        | exact HS _ hq3
        | exact HS _ hq2
        | exact HS _ hq
        | exact HS _ (Below.refl _ _).drew
        | exact HS _ (Below.refl _ _))
      (first
        | (go_at_call 29; go_split_ands; (with_reducible refine (hh _).out.mono ?_); rintro e w1 ⟨L1, A1, c1, rfl, HL1, hr1, hbel⟩; have hq : Below W1.heap.size W1 w1 := Below.undrew hbel)
        | (go_at_call 70; go_split_ands; (with_reducible refine (hy0 _ (hdat1.next hq)).out.mono ?_); rintro e w2 ⟨L2, A2, c2, rfl, HL2, hr2, hbel⟩; have hr1' := hr1.next hbel; have hq2 := bnext hq hbel)
        | (go_at_call 22; go_split_ands; (with_reducible refine (radd_any _ _ _ _ L1 L2 _ hr1' hr2 (by rw [HL1.out, HL2.out, uh_len, ub_len]; omega)).mono ?_); rintro e w3 ⟨v3, rfl, hown, hbel⟩; obtain ⟨L3, A3, c3, HL3, rfl, hr3⟩ := hown.rdv; have hq3 := bnext hq2 hbel; clear hown)
        | (go_at_call 71; go_split_ands; (with_reducible refine (rof_any _ _ L3 N _ _ hr3 (by rw [HL3.out, HL1.out, HL2.out]; simp [uh_len, ub_len]; omega) (by rw [HL3.out, HL1.out, HL2.out]; exact HN.out)).mono ?_); rintro e w4 ⟨rfl, rfl⟩)
        | fail)
    have hB := bnext hB1 hq3
    have hr4 := hdat1.next hq3
    obtain ⟨m0, m1, m2, m3, -⟩ := HS _ hq3
    clear HL1 HL2 HL3 hr1 hr2 hr1' hr3 hq hq2 hq3 HN HS hdat1 hB1
    by_cases hN : N = 65535
    · have hz : (((65535 - N : Nat) : Int) == 0) = true := by simp; omega
      rw [if_pos hN] at hS2
      have HS2 := Lib.hid hS2
      clear hS2 hN
      go_wp2_with fail
      refine (hy _ 65535 (by omega) hr4).out.mono ?_
      rintro e w5 ⟨L5, A5, c5, rfl, HL5, r5, hbel⟩
      go_wp2_with fail
      go_ret2
      exact ⟨L5, A5, c5, rfl, by rw [Hid, HL5.out, HS2.out], r5, bnext hB hbel⟩
    · have hz : (((65535 - N : Nat) : Int) == 0) = false := by simp; omega
      rw [if_neg hN] at hS2
      have HS2 := Lib.hid hS2
      clear hS2 hN
      go_wp2_with fail
      refine (hy _ (65535 - N) (by omega) hr4).out.mono ?_
      rintro e w5 ⟨L5, A5, c5, rfl, HL5, r5, hbel⟩
      go_wp2_with fail
      go_ret2
      exact ⟨L5, A5, c5, rfl, by rw [Hid, HL5.out, HS2.out], r5, bnext hB hbel⟩
  · go_enter Try.func35, Try.ntmps35
    go_wp2_with fail
    rw [← hW1]
    clear hW1 hr k0 k1 k2 k3
    refine (hy _ 0 (by omega) hdat1).out.mono ?_
    rintro e w5 ⟨L5, A5, c5, rfl, HL5, r5, hbel⟩
    go_wp2_with fail
    go_ret2
    have hS0 : 0 = S := HSS.out
    exact ⟨L5, A5, c5, rfl, by rw [Hid, HL5.out, hS0], r5, bnext hB1 hbel⟩

theorem ufew_any (a b : UInt16) (bare : Bool) (A : Option Addr) (n c m : Nat) (w : World) (h : n ≤ c) (hc : c ≤ 9223372036854775807) (hm : Hid (min n 200 = m)) :
    Calls Try.prog 33 #[.agg #[.int .u16 (a.toNat : Int), .int .u16 (b.toNat : Int), .bool bare, .slice A n c]] w fun e w' =>
      e = .returned (.agg #[.int .u16 (a.toNat : Int), .int .u16 (b.toNat : Int), .bool bare, .slice A m c]) ∧ Below w.heap.size w w' := by
  have hf : ∀ W, Calls Try.prog 15 #[.slice A n c, .int .i64 200] W fun e w' => e = .returned (.slice A m c) ∧ W = w' := by
    intro W
    have := few_le A n c 200 W h hc (by omega)
    rw [hm.out] at this
    exact this
  have HF := Lib.hid hf
  clear hf hm
  go_enter Try.func33, Try.ntmps33
  go_wp2_with fail
  refine (HF.out _).mono ?_
  rintro e w1 ⟨rfl, rfl⟩
  go_wp2_with fail
  simp [bodyPost, results, Try.results33, go_sem]
  exact bnextA (bnextA (Below.refl _ _) _) _

theorem usame_yes (a b : UInt16) (bare : Bool) (A1 A2 : Option Addr) (c1 c2 : Nat) (xs ys : List UInt8) (w : World) (h1 : Rd bv w w.heap.size A1 c1 xs) (h2 : Rd bv w w.heap.size A2 c2 ys) (he : xs = ys) :
    Calls Try.prog 32 #[.agg #[.int .u16 (a.toNat : Int), .int .u16 (b.toNat : Int), .bool bare, .slice A1 xs.length c1], .agg #[.int .u16 (a.toNat : Int), .int .u16 (b.toNat : Int), .bool bare, .slice A2 ys.length c2]] w fun e w' =>
      e = .returned (.bool true) ∧ Below w.heap.size w w' := by
  subst he
  go_enter Try.func32, Try.ntmps32
  go_wp2_with fail
  refine (rsame_yes A1 A2 c1 c2 xs _ _ ((h1.nextA _).nextA _) ((h2.nextA _).nextA _)).mono ?_
  rintro e w1 ⟨rfl, hd⟩
  replace hd := hd.bel
  go_wp2_with fail
  go_ret
  exact ⟨rfl, bnext (bnextA (bnextA (Below.refl _ _) _) _) hd⟩
theorem usame_zero (w : World) :
    Calls Try.prog 32 #[.agg #[.int .u16 0, .int .u16 0, .bool false, .slice none 0 0], .agg #[.int .u16 0, .int .u16 0, .bool false, .slice none 0 0]] w fun e w' =>
      e = .returned (.bool true) ∧ Below w.heap.size w w' :=
  usame_yes 0 0 false none none 0 0 [] [] w (Rd.nil0 _ _ _) (Rd.nil0 _ _ _) rfl
end Go.Proofs.Ytikjoiijdhlghaa
