/- Contracts of udp.Put and of the reference's answer for it. -/
import Derived.Test.YtikjoiijdhlghaaUdp1
namespace Go.Proofs.Ytikjoiijdhlghaa
open Go.RowKit

theorem ub_put (a b : UInt16) (xs : List UInt8) : puts16 [a, b, UInt16.ofNat (8 + xs.length), 0] ++ xs = ub a b 0 xs := by
  simp [puts16, ub, be16]
theorem ub_set (a b : UInt16) (s : Nat) (hs : s ≤ 65535) (xs : List UInt8) : ((ub a b 0 xs).set 6 (UInt8.ofNat (s / 256))).set 7 (UInt8.ofNat (s % 256)) = ub a b s xs := by
  rw [ub, ub, be16_ofNat s hs]
  rfl

theorem uput_big (s d : UInt32) (a b : UInt16) (bare : Bool) (A : Option Addr) (n c : Nat) (w : World) (hn : 65527 < n) (hc : n ≤ 9223372036854775807) :
    Calls Try.prog 34 #[.int .u32 (s.toNat : Int), .int .u32 (d.toNat : Int), .agg #[.int .u16 (a.toNat : Int), .int .u16 (b.toNat : Int), .bool bare, .slice A n c]] w fun e w' => e = .returned (.tuple #[.slice none 0 0, .int .i64 2]) ∧ Below w.heap.size w w' := by
  have h : (65527 : Int) < (n : Int) := by omega
  go_enter Try.func34, Try.ntmps34
  go_wp2_with fail
  go_ret2
  exact ⟨rfl, bnextA (Below.refl _ _) _⟩

theorem uput_any (s d : UInt32) (a b : UInt16) (bare : Bool) (A : Option Addr) (c : Nat) (xs : List UInt8) (w : World) (hr : Rd bv w w.heap.size A c xs) (hl : xs.length ≤ 65527) (S : Nat)
    (hS : (if bare then 0 else if onesN (uh s d 17 (8 + xs.length) ++ ub a b 0 xs) = 65535 then 65535 else 65535 - onesN (uh s d 17 (8 + xs.length) ++ ub a b 0 xs)) = S) :
    Calls Try.prog 34 #[.int .u32 (s.toNat : Int), .int .u32 (d.toNat : Int), .agg #[.int .u16 (a.toNat : Int), .int .u16 (b.toNat : Int), .bool bare, .slice A xs.length c]] w fun e w' => ∃ L A' c', e = .returned (.tuple #[.slice A' L.length c', .int .i64 0]) ∧ Hid (L = ub a b S xs) ∧ Rd bv w' w'.heap.size A' c' L ∧ Below w.heap.size w w' := by
  have HSS := Lib.hid hS
  clear hS
  obtain ⟨W1, hW1⟩ : ∃ W1, W1 = w.alloc (.cells #[.int .u16 (a.toNat : Int), .int .u16 (b.toNat : Int), .bool bare, .slice A xs.length c] 51) := ⟨_, rfl⟩
  have hdat1 : Rd bv W1 W1.heap.size A c xs := by subst hW1; exact hr.nextA _
  have hB1 : Below w.heap.size w W1 := by subst hW1; exact bnextA (Below.refl _ _) _
  have k0 : W1.cell? ⟨w.heap.size, 0, none⟩ = some (.int .u16 (a.toNat : Int)) := by subst hW1; simp
  have k1 : W1.cell? ⟨w.heap.size, 1, none⟩ = some (.int .u16 (b.toNat : Int)) := by subst hW1; simp
  have k2 : W1.cell? ⟨w.heap.size, 2, none⟩ = some (.bool bare) := by subst hW1; simp
  have k3 : W1.cell? ⟨w.heap.size, 3, none⟩ = some (.slice A xs.length c) := by subst hW1; simp
  have hsz : W1.heap.size = w.heap.size + 1 := by subst hW1; simp
  have HS : ∀ W, Below W1.heap.size W1 W → (W.cell? ⟨w.heap.size, 0, none⟩ = some (.int .u16 (a.toNat : Int)) ∧ W.cell? ⟨w.heap.size, 1, none⟩ = some (.int .u16 (b.toNat : Int)) ∧ W.cell? ⟨w.heap.size, 2, none⟩ = some (.bool bare) ∧ W.cell? ⟨w.heap.size, 3, none⟩ = some (.slice A xs.length c) ∧ Below W1.heap.size W1 W) := by
    intro W h
    exact ⟨(h.cell (by simp; omega)).trans k0, (h.cell (by simp; omega)).trans k1, (h.cell (by simp; omega)).trans k2, (h.cell (by simp; omega)).trans k3, h⟩
  have hlen : ((xs.length : Int) > 65527) = False := by simp; omega
  have e8 : IntKind.u16.wrap (8 + (xs.length : Int)) = ((UInt16.ofNat (8 + xs.length)).toNat : Int) := by
    rw [UInt16.ofNat_id _ (by omega), IntKind.wrap_u16]; omega
  go_enter Try.func34, Try.ntmps34
  go_wp2_with fail
  rw [← hW1]
  clear hW1
  have hh : ∀ W, Hid (Calls Try.prog 28 #[.int .u32 (s.toNat : Int), .int .u32 (d.toNat : Int), .int .u8 17, .int .i64 (8 + (xs.length : Int))] W fun e w' => ∃ L A c, e = .returned (.slice A L.length c) ∧ Hid (L = uh s d 17 (8 + xs.length)) ∧ Rd bv w' w'.heap.size A c L ∧ Below W.heap.size W w') := by
    intro W
    have := uhead_any s d 17 (8 + xs.length) (by omega) W
    rwa [show ((8 + xs.length : Nat) : Int) = 8 + (xs.length : Int) by omega] at this
  clear hr k0 k1 k2 k3 hsz hlen e8
  go_region_held3 (fun W => W.cell? ⟨w.heap.size, 0, none⟩ = some (.int .u16 (a.toNat : Int)) ∧ W.cell? ⟨w.heap.size, 1, none⟩ = some (.int .u16 (b.toNat : Int)) ∧ W.cell? ⟨w.heap.size, 2, none⟩ = some (.bool bare) ∧ W.cell? ⟨w.heap.size, 3, none⟩ = some (.slice A xs.length c) ∧ Below W1.heap.size W1 W)
    (first
      | exact HS _ (Below.refl _ _).drew
      | exact HS _ (Below.refl _ _)
      | (go_split_ands; exact HS _ (bnextA (by assumption) _))
      | (go_split_ands; exact HS _ (bnext (by assumption) hbel))
      | (go_split_ands; exact HS _ (bnext (bnextA (by assumption) _) hbel)))
    (first
      | (go_at_call 59; go_split_ands; go_loud (refine (put16_nil _ _ [a, b, UInt16.ofNat (8 + xs.length), 0] _ (lit16_at W1 _ [a, b, UInt16.ofNat (8 + xs.length), 0] rfl #[.int .u16 (a.toNat : Int), .int .u16 (b.toNat : Int), .int .u16 (IntKind.u16.wrap (8 + (xs.length : Int))), .int .u16 0] (by simp [hv, IntKind.wrap_u16]; try omega) _ (by simp)).drew (by simp)).mono ?_); rintro e w1 ⟨L1, A1, c1, rfl, HL1, hr1, hbel⟩; have hq := bnext (w0 := W1) (by assumption) hbel)
      | (go_at_call 58; go_split_ands; go_loud (refine (join_any _ _ _ 2 [L1, xs] (parts_at _ rfl (.cons hr1 (.cons (hdat1.next (by assumption)) .nil)) _ rfl _) rfl (by omega) (by omega) (by simp [HL1.out, puts16_len]; omega)).mono ?_); rintro e w2 ⟨L2, A2, c2, rfl, HL2, hr2, hbel⟩; have hq2 := bnext (bnextA hq _) hbel)
      | fail)
  have hB := bnext hB1 hq2
  have HL2' : Hid (L2 = ub a b 0 xs) := by rw [Hid, HL2.out, HL1.out, ← ub_put]; simp
  clear HS hq hq2 hr1 HL1 HL2 hbel
  cases bare
  · obtain ⟨N, hN⟩ : ∃ N, onesN (uh s d 17 (8 + xs.length) ++ ub a b 0 xs) = N := ⟨_, rfl⟩
    have hle : N ≤ 65535 := by rw [← hN]; exact onesN_le _
    have hS2 : (if N = 65535 then 65535 else 65535 - N) = S := by
      have := HSS.out
      rwa [hN] at this
    have HN := Lib.hid hN
    clear HSS hN
    go_wp2_with fail
    refine (hh _).out.mono ?_
    rintro e w3 ⟨L3, A3, c3, rfl, HL3, r3, hbel⟩
    replace hB := bnext hB hbel
    replace hr2 := hr2.next hbel
    clear hbel hh
    go_wp2_with fail
    refine (sof_any _ _ _ 2 [L3, L2] N (parts_at _ rfl (.cons r3 (.cons hr2 .nil)) _ rfl _) rfl (by omega) (by omega) (by simp [HL3.out, HL2'.out, uh_len, ub_len]; omega) (by rw [← HN.out, HL3.out, HL2'.out]; simp)).mono ?_
    rintro e w4 ⟨rfl, hbel⟩
    replace hB := bnext (bnextA hB _) hbel
    replace hr2 := (hr2.nextA _).next hbel
    clear hbel r3 HL3 HN
    by_cases hN : N = 65535
    · have hz : (((65535 - N : Nat) : Int) == 0) = true := by simp; omega
      rw [if_pos hN] at hS2
      have hs := set16_yes A2 c2 L2 6 65535 _ hr2 (by rw [HL2'.out, ub_len]; omega) (by rw [HL2'.out, ub_len]; omega)
      have HSET := Lib.hid hs
      have HS2 := Lib.hid hS2
      clear hs hS2 hN
      go_wp2_with fail
      refine HSET.out.mono ?_
      rintro e w5 ⟨v5, rfl, hown, hbel⟩
      obtain ⟨L5, A5, c5, HL5, rfl, r5⟩ := hown.rdv
      go_wp2_with fail
      go_ret2
      exact ⟨L5, A5, c5, rfl, by rw [Hid, HL5.out, HL2'.out, ← HS2.out]; exact ub_set a b 65535 (by omega) xs, r5, bnext hB hbel⟩
    · have hz : (((65535 - N : Nat) : Int) == 0) = false := by simp; omega
      rw [if_neg hN] at hS2
      have hs := set16_yes A2 c2 L2 6 (UInt16.ofNat (65535 - N)) _ hr2 (by rw [HL2'.out, ub_len]; omega) (by rw [HL2'.out, ub_len]; omega)
      rw [UInt16.ofNat_id _ (by omega)] at hs
      have HSET := Lib.hid hs
      have HS2 := Lib.hid hS2
      clear hs hS2 hN
      go_wp2_with fail
      refine HSET.out.mono ?_
      rintro e w5 ⟨v5, rfl, hown, hbel⟩
      obtain ⟨L5, A5, c5, HL5, rfl, r5⟩ := hown.rdv
      go_wp2_with fail
      go_ret2
      exact ⟨L5, A5, c5, rfl, by rw [Hid, HL5.out, HL2'.out, ← HS2.out]; exact ub_set a b (65535 - N) (by omega) xs, r5, bnext hB hbel⟩
  · go_wp2_with fail
    go_ret2
    have hS0 : 0 = S := HSS.out
    exact ⟨L2, A2, c2, rfl, by rw [Hid, ← hS0]; exact HL2'.out, hr2, hB⟩
end Go.Proofs.Ytikjoiijdhlghaa
