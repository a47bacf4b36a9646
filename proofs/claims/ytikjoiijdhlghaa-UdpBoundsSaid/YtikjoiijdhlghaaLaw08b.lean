/- The walks of the statements on udp.Put. -/
import Derived.Test.YtikjoiijdhlghaaLaw08
import Derived.Test.YtikjoiijdhlghaaUdp6
namespace Go.Proofs.Ytikjoiijdhlghaa
open Go.RowKit

set_option maxHeartbeats 2000000 in
theorem UdpPuts_walk (x0 x1 y0 y1 : Int) (bare : Bool) (a3 : Option Addr) (len3 cap3 : Nat) (z3 : List Int) (a4 : Option Addr) (len4 cap4 : Nat) (z4 : List Int) (w : World) (w0 : (Lit.int .u32 x0).wf = true) (w1 : (Lit.int .u32 x1).wf = true) (v0 : (Lit.int .u16 y0).wf = true) (v1 : (Lit.int .u16 y1).wf = true) (w3 : InRow .u8 w a3 len3 cap3 z3) (w4 : InRow .u8 w a4 len4 cap4 z4) :
    Calls Try.prog 8 #[.int .u32 x0, .int .u32 x1, .agg #[.int .u16 y0, .int .u16 y1, .bool bare, .slice a3 len3 cap3], .slice a4 len4 cap4] w fun e w' => e = .returned (.bool true) ∧ Below w.heap.size w w' := by
  obtain ⟨s, rfl⟩ := u32_of w0
  obtain ⟨d, rfl⟩ := u32_of w1
  obtain ⟨a, rfl⟩ := u16_of v0
  obtain ⟨b, rfl⟩ := u16_of v1
  obtain ⟨xs, hxl, ha, hlc, hcc, hm⟩ := few_len w3 200
  obtain ⟨zs, hzl, hz, hlz, hcz, hmz⟩ := few_len w4 40
  have HFz : ∀ W, Hid (Calls Try.prog 15 #[.slice a4 len4 cap4, .int .i64 40] W fun e w' => e = .returned (.slice a4 zs.length cap4) ∧ W = w') := by
    intro W
    have := few_le a4 len4 cap4 40 W hlz hcz (by omega)
    rw [hmz.out] at this
    exact this
  clear hlz hcz hmz
  have ha0 := ha
  have hz0 := hz
  clear w0 w1 v0 v1 w3 w4
  obtain ⟨S, hS⟩ : ∃ S, (if bare then 0 else if onesN (uh s d 17 (8 + xs.length) ++ ub a b 0 xs) = 65535 then 65535 else 65535 - onesN (uh s d 17 (8 + xs.length) ++ ub a b 0 xs)) = S := ⟨_, rfl⟩
  have HP1 := fun A c W (h : Rd bv W W.heap.size A c xs) => Lib.hid (uput_any s d a b bare A c xs W h (by omega) S hS)
  have HP2 := fun A c W (h : Rd bv W W.heap.size A c xs) => Lib.hid (ruput_any s d a b bare A c xs W h (by omega) S hS)
  have HP3 := fun (P : List UInt8) (hP : P = ub a b S xs ++ zs) A c W (h : Rd bv W W.heap.size A c P) => Lib.hid (uparse_put s d a b bare xs zs P S hS hP (by omega) (by omega) A c W h)
  have HF := Lib.hid (fun W => ufew_any a b bare a3 len3 cap3 xs.length W hlc hcc hm)
  clear hS hlc hcc hm
  go_enter Try.func8, Try.ntmps8
  go_wp2_with fail
  refine (HF.out _).mono ?_
  rintro e w_1 ⟨rfl, hbel⟩
  have hB := bnext (bnextA (Below.refl w.heap.size w) _) hbel
  replace ha := (ha.nextA _).next hbel
  obtain ⟨p0, p1, p2, p3, q0, q1, q2, q3⟩ := blk4 rfl hbel
  have hlt : w.heap.size < w_1.heap.size := by have := hbel.size; simp at this; omega
  clear hbel
  go_wp2_with fail
  have hS := set4_cells p0 p1 p2 p3 (.int .u16 (a.toNat : Int)) (.int .u16 (b.toNat : Int)) (.bool bare) (.slice a3 xs.length cap3)
  have hBV := bset4 hB (Nat.le_refl _) (.int .u16 (a.toNat : Int)) (.int .u16 (b.toNat : Int)) (.bool bare) (.slice a3 xs.length cap3)
  have hsz : w.heap.size < ((((w_1.setCell ⟨w.heap.size, 0, none⟩ (.int .u16 (a.toNat : Int))).setCell ⟨w.heap.size, 1, none⟩ (.int .u16 (b.toNat : Int))).setCell ⟨w.heap.size, 2, none⟩ (.bool bare)).setCell ⟨w.heap.size, 3, none⟩ (.slice a3 xs.length cap3)).heap.size := by simpa using hlt
  clear p0 p1 p2 p3 q0 q1 q2 q3 hlt ha hB hz
  generalize ((((w_1.setCell ⟨w.heap.size, 0, none⟩ (.int .u16 (a.toNat : Int))).setCell ⟨w.heap.size, 1, none⟩ (.int .u16 (b.toNat : Int))).setCell ⟨w.heap.size, 2, none⟩ (.bool bare)).setCell ⟨w.heap.size, 3, none⟩ (.slice a3 xs.length cap3)) = V at hS hBV hsz ⊢
  have ha := ha0.next hBV
  have hz := hz0.next hBV
  have hB := hBV
  have HS := Lib.hid hS
  clear hS hBV
  refine (HP1 _ _ V ha).out.mono ?_
  rintro e w_2 ⟨L2, A2, c2, rfl, HL2, r2, hbel⟩
  replace hB := bnext hB hbel
  replace ha := ha.next hbel
  replace hz := hz.next hbel
  replace HS := Lib.hid (carry4 HS.out hsz hbel)
  replace hsz := Nat.lt_of_lt_of_le hsz hbel.size
  clear hbel
  obtain ⟨s0, s1, s2, s3⟩ := HS.out
  go_wp2_with fail
  refine (HP2 _ _ _ ha).out.mono ?_
  rintro e w_3 ⟨L3, A3, c3, rfl, HL3, r3, hbel⟩
  replace hB := bnext hB hbel
  replace ha := ha.next hbel
  replace hz := hz.next hbel
  replace r2 := r2.next hbel
  replace HS := Lib.hid (carry4 HS.out hsz hbel)
  replace hsz := Nat.lt_of_lt_of_le hsz hbel.size
  clear hbel s0 s1 s2 s3
  go_wp2_with fail
  refine (rsame_eq _ _ _ _ L2 L3 _ _ r2 r3 (by rw [HL2.out, HL3.out])).mono ?_
  rintro e w_4 ⟨rfl, hbel⟩
  replace hbel := hbel.bel
  replace hB := bnext hB hbel
  replace ha := ha.next hbel
  replace hz := hz.next hbel
  replace r2 := r2.next hbel
  replace HS := Lib.hid (carry4 HS.out hsz hbel)
  replace hsz := Nat.lt_of_lt_of_le hsz hbel.size
  clear hbel r3 HL3
  go_wp2_with fail
  refine (HFz _).out.mono ?_
  rintro e w_5 ⟨rfl, rfl⟩
  go_wp2_with fail
  refine (radd_any _ _ _ _ L2 zs _ r2 hz (by rw [HL2.out, ub_len]; omega)).mono ?_
  rintro e w_5 ⟨v5, rfl, hown, hbel⟩
  obtain ⟨L5, A5, c5, HL5, rfl, r5⟩ := hown.rdv
  replace hB := bnext hB hbel
  replace ha := ha.next hbel
  replace HS := Lib.hid (carry4 HS.out hsz hbel)
  replace hsz := Nat.lt_of_lt_of_le hsz hbel.size
  clear hbel hown r2 hz
  go_wp2_with fail
  refine (HP3 L5 (by rw [HL5.out, HL2.out]) _ _ _ r5).out.mono ?_
  rintro e w_6 ⟨L6, A6, c6, rfl, HL6, r6, hbel⟩
  replace hB := bnext hB hbel
  replace ha := ha.next hbel
  replace HS := Lib.hid (carry4 HS.out hsz hbel)
  replace hsz := Nat.lt_of_lt_of_le hsz hbel.size
  clear hbel r5
  obtain ⟨s0, s1, s2, s3⟩ := HS.out
  go_wp2_with fail
  refine (usame_yes a b bare _ _ _ _ L6 xs _ (r6.nextA _) (ha.nextA _) HL6.out).mono ?_
  rintro e w_7 ⟨rfl, hbel⟩
  replace hB := bnext (bnextA hB _) hbel
  clear hbel s0 s1 s2 s3 r6 ha HS
  go_wp2_with (go_at_call 27; refine (lives08_any _).mono ?_; rintro e wl ⟨rfl, hbel⟩)
  go_ret
  exact ⟨rfl, bnext hB hbel⟩

set_option maxHeartbeats 2000000 in
theorem UdpBounds_walk (a0 : Int) (w : World) (_w0 : (Lit.int .i64 a0).wf = true) :
    Calls Try.prog 9 #[.int .i64 a0] w fun e w' => e = .returned (.bool true) ∧ Below w.heap.size w w' := by
  have hin := rin_any a0 65520 65530 w
  obtain ⟨m, hm, hlo, hhi⟩ : ∃ m : Nat, (if a0 < 65520 then 65520 else if 65530 < a0 then 65530 else a0) = (m : Int) ∧ 65520 ≤ m ∧ m ≤ 65530 := by
    refine ⟨(if a0 < 65520 then 65520 else if 65530 < a0 then 65530 else a0).toNat, ?_, ?_, ?_⟩ <;> (repeat' split) <;> omega
  rw [hm] at hin
  have HIN := Lib.hid hin
  clear hin hm _w0
  obtain ⟨i0, hi0, hz0, hz1, hz2⟩ := info_parts info_u8
  go_enter Try.func9, Try.ntmps9
  go_wp2_with fail
  refine HIN.out.mono ?_
  rintro e w_1 ⟨rfl, rfl⟩
  go_wp2_with (at_make; go_loud (refine wpList_make_full _ rfl _ _ _ rfl w.heap.size 5 i0 _ 1 Try.underlying22 hi0 hz0 hz1 _ _ _ _ m rfl rfl rfl rfl (by rw [hz2]; omega) (by unfold maxLen; omega) (Nat.le_refl _) ?_); intro w1 hown1 hg1)
  have hB : Below w.heap.size w w1 := (Below.refl _ _).grown hg1 (Nat.le_refl _) (by simp)
  obtain ⟨zs, hzs⟩ : ∃ zs : List UInt8, zs = List.replicate m 0 := ⟨_, rfl⟩
  have hzl : zs.length = m := by rw [hzs]; simp
  have HO : Own bv w1 w.heap.size 5 (.slice (some ⟨w.heap.size, 0, none⟩) m m) zs := by
    have := hown1
    simp only [Value.cells, Nat.mul_one, toList_madeCells_one] at this
    rw [hzs]
    simpa [Own, bv] using this
  clear hown1 hg1 hzs
  subst hzl
  have hr := HO.rdS
  clear HO
  by_cases hbig : zs.length ≤ 65527
  · have hd : decide ((zs.length : Int) ≤ 65527) = true := by simp; omega
    have HP := Lib.hid (uput_any 1 2 0 0 true _ _ zs w1 hr hbig 0 rfl)
    refine HP.out.mono ?_
    rintro e w_2 ⟨L2, A2, c2, rfl, HL2, r2, hbel⟩
    replace hB := bnext hB hbel
    clear hr r2 hbel HP
    go_wp2_with fail
    go_wp2_with (go_at_call 27; refine (lives08_any _).mono ?_; rintro e wl ⟨rfl, hbel⟩)
    go_ret
    exact ⟨rfl, bnext hB hbel⟩
  · have hd : decide ((zs.length : Int) ≤ 65527) = false := by simp; omega
    have HP := Lib.hid (uput_big 1 2 0 0 true (some ⟨w.heap.size, 0, none⟩) zs.length zs.length w1 (by omega) (by omega))
    refine HP.out.mono ?_
    rintro e w_2 ⟨rfl, hbel⟩
    replace hB := bnext hB hbel
    clear hr hbel HP
    go_wp2_with fail
    go_wp2_with (go_at_call 27; refine (lives08_any _).mono ?_; rintro e wl ⟨rfl, hbel⟩)
    go_ret
    exact ⟨rfl, bnext hB hbel⟩
end Go.Proofs.Ytikjoiijdhlghaa
