/- The walks of the statements on package sum. -/
import Derived.Test.YtbilgpciphpieaaSum2
namespace Go.Proofs.Ytbilgpciphpieaa
open Go.RowKit

set_option maxHeartbeats 4000000 in
theorem SumOf_walk (a0 : Option Addr) (len0 cap0 : Nat) (z0 : List Int) (a1 : Option Addr) (len1 cap1 : Nat) (z1 : List Int) (a2 : Option Addr) (len2 cap2 : Nat) (z2 : List Int) (w : World) (w0 : InRow .u8 w a0 len0 cap0 z0) (w1 : InRow .u8 w a1 len1 cap1 z1) (w2 : InRow .u8 w a2 len2 cap2 z2) :
    Calls Try.prog 3 #[.slice a0 len0 cap0, .slice a1 len1 cap1, .slice a2 len2 cap2] w fun e w' => e = .returned (.bool true) ∧ Below w.heap.size w w' := by
  obtain ⟨xs, hxl, ha, HFa⟩ := few_row w0 200 (by omega)
  obtain ⟨ys, hyl, hb, HFb⟩ := few_row w1 200 (by omega)
  obtain ⟨zs, hzl, hc, HFc⟩ := few_row w2 200 (by omega)
  clear w0 w1 w2
  obtain ⟨N, hN⟩ : ∃ N, onesN (xs ++ (ys ++ zs)) = N := ⟨_, rfl⟩
  have hN65 : N ≤ 65535 := by rw [← hN]; exact onesN_le _
  have HN := Lib.hid hN
  clear hN
  have HR : ∀ (W : World) (g B : Nat), Parts W B g [xs, ys, zs] → Hid (Calls Try.prog 16 #[.slice (some ⟨g, 0, none⟩) 3 3] W fun e w' => e = .returned (.bool ((N : Int) == 65535)) ∧ Below W.heap.size W w') := by
    intro W g B h
    exact sright_any W _ g 3 _ N h rfl (by omega) (by omega) (by simp; omega) (by rw [← HN.out]; simp)
  go_enter Try.func3, Try.ntmps3
  have hB := Below.refl w.heap.size w
  go_wp2_with fail
  refine HFa.out.mono ?_
  rintro e w1 ⟨rfl, rfl⟩
  go_wp2_with fail
  refine HFb.out.mono ?_
  rintro e w1 ⟨rfl, rfl⟩
  go_wp2_with fail
  refine HFc.out.mono ?_
  rintro e w1 ⟨rfl, rfl⟩
  go_wp2_with fail
  refine (radd_any _ _ _ _ ys zs _ hb hc (by omega)).mono ?_
  rintro e w_1 ⟨vr1, rfl, hown, hbel⟩
  obtain ⟨Lr1, Ar1, cr1, Hr1, rfl, r1⟩ := hown.rdv
  replace hB := bnext hB hbel
  replace ha := ha.next hbel
  replace hb := hb.next hbel
  replace hc := hc.next hbel
  clear hbel hown
  go_wp2_with fail
  refine (radd_any _ _ _ _ xs Lr1 _ ha r1 (by rw [Hr1.out]; simp; omega)).mono ?_
  rintro e w_2 ⟨vr2, rfl, hown, hbel⟩
  obtain ⟨Lr2, Ar2, cr2, Hr2, rfl, r2⟩ := hown.rdv
  replace hB := bnext hB hbel
  replace ha := ha.next hbel
  replace hb := hb.next hbel
  replace hc := hc.next hbel
  replace r1 := r1.next hbel
  clear hbel hown
  clear r1
  go_wp2_with fail
  refine (rones_any _ _ Lr2 N _ _ r2 (by rw [Hr2.out, Hr1.out]; simp; omega) (by rw [Hr2.out, Hr1.out]; exact HN.out)).mono ?_
  rintro e w_3 ⟨rfl, rfl⟩
  go_wp2_with fail
  refine (sones_any _ _ _ 3 [xs, ys, zs] N (parts_lit (.cons ha (.cons hb (.cons hc .nil))) _ rfl _) rfl (by omega) (by omega) (by simp; omega) (by rw [← HN.out]; simp)).mono ?_
  rintro e w_4 ⟨rfl, hbel⟩
  replace hB := bnext (bnextA hB _) hbel
  replace ha := (ha.nextA _).next hbel
  replace hb := (hb.nextA _).next hbel
  replace hc := (hc.nextA _).next hbel
  replace r2 := (r2.nextA _).next hbel
  clear hbel
  go_wp2_with fail
  refine (sof_any _ _ _ 3 [xs, ys, zs] N (parts_lit (.cons ha (.cons hb (.cons hc .nil))) _ rfl _) rfl (by omega) (by omega) (by simp; omega) (by rw [← HN.out]; simp)).mono ?_
  rintro e w_5 ⟨rfl, hbel⟩
  replace hB := bnext (bnextA hB _) hbel
  replace ha := (ha.nextA _).next hbel
  replace hb := (hb.nextA _).next hbel
  replace hc := (hc.nextA _).next hbel
  replace r2 := (r2.nextA _).next hbel
  clear hbel
  go_wp2_with fail
  refine (rof_any _ _ Lr2 N _ _ r2 (by rw [Hr2.out, Hr1.out]; simp; omega) (by rw [Hr2.out, Hr1.out]; exact HN.out)).mono ?_
  rintro e w_6 ⟨rfl, rfl⟩
  go_wp2_with fail
  refine ((HR _ _ _ (parts_lit (.cons ha (.cons hb (.cons hc .nil))) _ rfl _)).out).mono ?_
  rintro e w_7 ⟨rfl, hbel⟩
  replace hB := bnext (bnextA hB _) hbel
  replace ha := (ha.nextA _).next hbel
  replace hb := (hb.nextA _).next hbel
  replace hc := (hc.nextA _).next hbel
  replace r2 := (r2.nextA _).next hbel
  clear hbel
  go_wp2_with fail
  refine (sones_any _ _ _ 1 [Lr2] N (parts_lit (.cons r2 .nil) _ rfl _) rfl (by omega) (by omega) (by simp [Hr2.out, Hr1.out]; omega) (by rw [← HN.out, Hr2.out, Hr1.out]; simp)).mono ?_
  rintro e w_8 ⟨rfl, hbel⟩
  replace hB := bnext (bnextA hB _) hbel
  replace ha := (ha.nextA _).next hbel
  replace hb := (hb.nextA _).next hbel
  replace hc := (hc.nextA _).next hbel
  replace r2 := (r2.nextA _).next hbel
  clear hbel
  clear ha hb hc r2
  go_wp2_with (go_at_call 17; refine (lives02_any _).mono ?_; rintro e wl ⟨rfl, hbel⟩)
  go_ret
  exact ⟨rfl, bnext hB hbel⟩

theorem SumTurns_walk (a0 a1 a2 a3 a4 a5 : Int) (w : World) (w0 : (Lit.int .u64 a0).wf = true) (w1 : (Lit.int .u16 a1).wf = true) (w2 : (Lit.int .u16 a2).wf = true) (w3 : (Lit.int .u16 a3).wf = true) (w4 : (Lit.int .u32 a4).wf = true) (w5 : (Lit.int .u32 a5).wf = true) :
    Calls Try.prog 4 #[.int .u64 a0, .int .u16 a1, .int .u16 a2, .int .u16 a3, .int .u32 a4, .int .u32 a5] w fun e w' => e = .returned (.bool true) ∧ Below w.heap.size w w' := by
  obtain ⟨n, rfl, hn⟩ := u64_nat w0
  obtain ⟨s, rfl, hs⟩ := u16_nat w1
  obtain ⟨o, rfl, ho⟩ := u16_nat w2
  obtain ⟨x, rfl, hx⟩ := u16_nat w3
  obtain ⟨was, rfl, hwas⟩ := u32_nat w4
  obtain ⟨now, rfl, hnow⟩ := u32_nat w5
  have hle := foldN_le (65535 - s + (65535 - was / 65536) + now / 65536)
  have hf1 := rturn_any s (was / 65536) (now / 65536) w (by omega) (by omega) (by omega)
  have hf3 := turn32_any s was now w (by omega) (by omega) (by omega)
  generalize foldN (65535 - s + (65535 - was / 65536) + now / 65536) = M at hle hf1 hf3
  have hf2 := rturn_any (65535 - M) (was % 65536) (now % 65536) w (by omega) (by omega) (by omega)
  have hle2 := foldN_le (65535 - (65535 - M) + (65535 - was % 65536) + now % 65536)
  generalize foldN (65535 - (65535 - M) + (65535 - was % 65536) + now % 65536) = M2 at hle2 hf2 hf3
  have hfl := foldN_le n
  have hf4 := fold_any n w (by omega)
  have hf5 := rfold_any n w (by omega)
  generalize foldN n = F at hf4 hf5 hfl
  have htl := foldN_le (65535 - s + (65535 - o) + x)
  have hf6 := turn_any s o x w (by omega) (by omega) (by omega)
  have hf7 := rturn_any s o x w (by omega) (by omega) (by omega)
  generalize foldN (65535 - s + (65535 - o) + x) = T at hf6 hf7 htl
  have H1 := Lib.hid hf1
  have H2 := Lib.hid hf2
  have H3 := Lib.hid hf3
  have H4 := Lib.hid hf4
  have H5 := Lib.hid hf5
  have H6 := Lib.hid hf6
  have H7 := Lib.hid hf7
  clear hf1 hf2 hf3 hf4 hf5 hf6 hf7 w0 w1 w2 w3 w4 w5 hn
  have hB := Below.refl w.heap.size w
  go_enter Try.func4, Try.ntmps4
  go_wp2_with fail
  refine (H1.out).mono ?_
  rintro e w_9 ⟨rfl, rfl⟩
  go_wp2_with fail
  refine (H2.out).mono ?_
  rintro e w_10 ⟨rfl, rfl⟩
  go_wp2_with fail
  refine (H4.out).mono ?_
  rintro e w_11 ⟨rfl, rfl⟩
  go_wp2_with fail
  refine (H5.out).mono ?_
  rintro e w_12 ⟨rfl, rfl⟩
  go_wp2_with fail
  refine (H6.out).mono ?_
  rintro e w_13 ⟨rfl, rfl⟩
  go_wp2_with fail
  refine (H7.out).mono ?_
  rintro e w_14 ⟨rfl, rfl⟩
  go_wp2_with fail
  refine (H3.out).mono ?_
  rintro e w_15 ⟨rfl, rfl⟩
  go_wp2_with (go_at_call 17; refine (lives02_any _).mono ?_; rintro e wl ⟨rfl, hbel⟩)
  go_ret
  exact ⟨rfl, bnext hB hbel⟩


set_option maxHeartbeats 4000000 in
theorem SumFills_walk (a0 : Option Addr) (len0 cap0 : Nat) (z0 : List Int) (a1 : Option Addr) (len1 cap1 : Nat) (z1 : List Int) (w : World) (w0 : InRow .u8 w a0 len0 cap0 z0) (w1 : InRow .u8 w a1 len1 cap1 z1) :
    Calls Try.prog 6 #[.slice a0 len0 cap0, .slice a1 len1 cap1] w fun e w' => e = .returned (.bool true) ∧ Below w.heap.size w w' := by
  obtain ⟨i0, hi0, hz0, hz1, hz2⟩ := info_parts info_u8
  obtain ⟨xs0, hxl0, ha0, HFa⟩ := few_row w0 100 (by omega)
  obtain ⟨ys, hyl, hb, HFb⟩ := few_row w1 100 (by omega)
  clear w0 w1
  have hB := Below.refl w.heap.size w
  by_cases hpar : xs0.length % 2 = 1
  · have hp : ((xs0.length : Int) % 2 == 1) = true := by simp; omega
    obtain ⟨A2, c2, ha, hsl⟩ := ha0.slice_l Try.underlying22 hi0 hz1 1 1 rfl (by omega)
    have hev : (xs0.drop 1).length % 2 = 0 := by simp; omega
    have hln : xs0.length - 1 = (xs0.drop 1).length := by simp
    rw [hln] at hsl
    have hxl : (xs0.drop 1).length ≤ 100 := by omega
    have HL := Lib.hid hln
    clear hln
    generalize xs0.drop 1 = xs at ha hsl hev hxl
    obtain ⟨N, hN⟩ : ∃ N, onesN (xs ++ ([0, 0] ++ ys)) = N := ⟨_, rfl⟩
    have hN65 : N ≤ 65535 := by rw [← hN]; exact onesN_le _
    have HN := Lib.hid hN
    clear hN ha0 hpar hi0 hz0 hz1 hz2
    go_enter Try.func6, Try.ntmps6
    go_wp2_with fail
    refine HFa.out.mono ?_
    rintro e w1 ⟨rfl, rfl⟩
    go_wp2_with fail
    refine HFb.out.mono ?_
    rintro e w1 ⟨rfl, rfl⟩
    go_wp2_with fail
    refine (sof_any _ _ _ 3 [xs, [0, 0], ys] N (parts_at _ (by simp) (.cons (ha.nextA _) (.cons (lit_at _ _ [0, 0] rfl _ rfl _ (by simp)) (.cons (hb.nextA _) .nil))) _ rfl _) rfl (by omega) (by omega) (by simp; omega) (by rw [← HN.out]; simp)).mono ?_
    rintro e w_1 ⟨rfl, hbel⟩
    replace hB := bnext (bnextA (bnextA hB _) _) hbel
    replace ha := ((ha.nextA _).nextA _).next hbel
    replace hb := ((hb.nextA _).nextA _).next hbel
    clear hbel
    go_wp2_with fail
    refine (rput_any (65535 - N) 2 _ (by omega) (by omega)).mono ?_
    rintro e w_16 ⟨vhp, rfl, hown, hbel⟩
    obtain ⟨Lhp, Ahp, chp, Hhp, rfl, hp⟩ := hown.rdv
    replace hB := bnext hB hbel
    replace ha := ha.next hbel
    replace hb := hb.next hbel
    clear hbel hown
    go_wp2_with fail
    refine (sright_yes _ _ _ 3 [xs, Lhp, ys] (parts_lit (.cons ha (.cons hp (.cons hb .nil))) _ rfl _) rfl (by omega) (by omega) (by simp [Hhp.out, putN_len]; omega) (by rw [Hhp.out, putN_two]; simpa using fills_right xs ys (65535 - N) hev (by rw [HN.out]))).mono ?_
    rintro e w_2 ⟨rfl, hbel⟩
    replace hB := bnext (bnextA hB _) hbel
    clear hbel ha hb hp
    go_wp2_with (go_at_call 17; refine (lives02_any _).mono ?_; rintro e wl ⟨rfl, hbel⟩)
    go_ret
    exact ⟨rfl, bnext hB hbel⟩
  · have hp : ((xs0.length : Int) % 2 == 1) = false := by simp; omega
    have hev : xs0.length % 2 = 0 := by omega
    have hxl := hxl0
    generalize xs0 = xs at *
    have ha := ha0
    obtain ⟨N, hN⟩ : ∃ N, onesN (xs ++ ([0, 0] ++ ys)) = N := ⟨_, rfl⟩
    have hN65 : N ≤ 65535 := by rw [← hN]; exact onesN_le _
    have HN := Lib.hid hN
    clear hN hpar hi0 hz0 hz1 hz2 ha0
    go_enter Try.func6, Try.ntmps6
    go_wp2_with fail
    refine HFa.out.mono ?_
    rintro e w1 ⟨rfl, rfl⟩
    go_wp2_with fail
    refine HFb.out.mono ?_
    rintro e w1 ⟨rfl, rfl⟩
    go_wp2_with fail
    refine (sof_any _ _ _ 3 [xs, [0, 0], ys] N (parts_at _ (by simp) (.cons (ha.nextA _) (.cons (lit_at _ _ [0, 0] rfl _ rfl _ (by simp)) (.cons (hb.nextA _) .nil))) _ rfl _) rfl (by omega) (by omega) (by simp; omega) (by rw [← HN.out]; simp)).mono ?_
    rintro e w_1 ⟨rfl, hbel⟩
    replace hB := bnext (bnextA (bnextA hB _) _) hbel
    replace ha := ((ha.nextA _).nextA _).next hbel
    replace hb := ((hb.nextA _).nextA _).next hbel
    clear hbel
    go_wp2_with fail
    refine (rput_any (65535 - N) 2 _ (by omega) (by omega)).mono ?_
    rintro e w_17 ⟨vhp, rfl, hown, hbel⟩
    obtain ⟨Lhp, Ahp, chp, Hhp, rfl, hp⟩ := hown.rdv
    replace hB := bnext hB hbel
    replace ha := ha.next hbel
    replace hb := hb.next hbel
    clear hbel hown
    go_wp2_with fail
    refine (sright_yes _ _ _ 3 [xs, Lhp, ys] (parts_lit (.cons ha (.cons hp (.cons hb .nil))) _ rfl _) rfl (by omega) (by omega) (by simp [Hhp.out, putN_len]; omega) (by rw [Hhp.out, putN_two]; simpa using fills_right xs ys (65535 - N) hev (by rw [HN.out]))).mono ?_
    rintro e w_2 ⟨rfl, hbel⟩
    replace hB := bnext (bnextA hB _) hbel
    clear hbel ha hb hp
    go_wp2_with (go_at_call 17; refine (lives02_any _).mono ?_; rintro e wl ⟨rfl, hbel⟩)
    go_ret
    exact ⟨rfl, bnext hB hbel⟩
end Go.Proofs.Ytbilgpciphpieaa
