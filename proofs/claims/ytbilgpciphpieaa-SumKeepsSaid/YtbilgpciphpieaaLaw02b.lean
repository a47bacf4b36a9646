/- The walk of the statement that a turned sum keeps. -/
import Derived.Test.YtbilgpciphpieaaSum2
namespace Go.Proofs.Ytbilgpciphpieaa
open Go.RowKit


set_option maxHeartbeats 4000000 in
theorem SumKeeps_walk (a0 : Option Addr) (len0 cap0 : Nat) (z0 : List Int) (a1 a2 : Int) (w : World) (w0 : InRow .u8 w a0 len0 cap0 z0) (w1 : (Lit.int .i64 a1).wf = true) (w2 : (Lit.int .u16 a2).wf = true) :
    Calls Try.prog 5 #[.slice a0 len0 cap0, .int .i64 a1, .int .u16 a2] w fun e w' => e = .returned (.bool true) ∧ Below w.heap.size w w' := by
  obtain ⟨xs, hxl, ha, HFa⟩ := few_row w0 200 (by omega)
  have h1 := i64_of w1
  obtain ⟨x, rfl, hx⟩ := u16_nat w2
  obtain ⟨k, hk, hin⟩ : ∃ k : Nat, k ≤ 200 ∧ (if a1 < 0 then (0 : Int) else if 200 < a1 then 200 else a1) = k := by
    by_cases c1 : a1 < 0
    · exact ⟨0, by omega, by rw [if_pos c1]; rfl⟩
    · by_cases c2 : 200 < a1
      · exact ⟨200, by omega, by rw [if_neg c1, if_pos c2]; rfl⟩
      · exact ⟨a1.toNat, by omega, by rw [if_neg c1, if_neg c2]; omega⟩
  have hi := rin_any a1 0 200 w
  rw [hin] at hi
  have HI := Lib.hid hi
  clear hi hin w0 w1 w2

  have hB := Below.refl w.heap.size w
  have hcl := ha.len
  have hcc := ha.cap
  obtain ⟨p, hp⟩ : ∃ p : Nat, (k : Int) * 2 = p := ⟨k * 2, by omega⟩
  have hev : p % 2 = 0 := by omega
  have hp400 : p ≤ 400 := by omega
  clear hk h1
  by_cases hg : p + 2 ≤ xs.length
  · go_enter Try.func5, Try.ntmps5
    go_wp2_with fail
    refine (HFa.out).mono ?_
    rintro e w_1 ⟨rfl, rfl⟩
    go_wp2_with fail
    refine (HI.out).mono ?_
    rintro e w_2 ⟨rfl, rfl⟩
    go_wp2_with fail
    refine (rget2_yes _ _ xs (p) _ _ ha hg).mono ?_
    rintro e w_0 ⟨rfl, rfl⟩
    go_wp2_with fail
    refine (rcut_of _ _ xs _ _ 0 (p) _ ha rfl (by omega) (by omega) (by omega)).mono ?_
    rintro e w_3 ⟨vr1, rfl, hown, hbel⟩
    obtain ⟨Lr1, Ar1, cr1, Hr1, rfl, r1⟩ := hown.rdv
    replace hB := bnext hB hbel
    replace ha := ha.next hbel
    clear hbel hown
    go_wp2_with fail
    refine (rcut_of _ _ xs _ _ (p + 2) (xs.length - p - 2) _ ha (by omega) (by omega) (by omega) (by omega)).mono ?_
    rintro e w_4 ⟨vr2, rfl, hown, hbel⟩
    obtain ⟨Lr2, Ar2, cr2, Hr2, rfl, r2⟩ := hown.rdv
    replace hB := bnext hB hbel
    replace ha := ha.next hbel
    replace r1 := r1.next hbel
    clear hbel hown
    go_wp2_with fail
    refine (rput_any x 2 _ (by omega) (by omega)).mono ?_
    rintro e w_5 ⟨vr3, rfl, hown, hbel⟩
    obtain ⟨Lr3, Ar3, cr3, Hr3, rfl, r3⟩ := hown.rdv
    replace hB := bnext hB hbel
    replace ha := ha.next hbel
    replace r1 := r1.next hbel
    replace r2 := r2.next hbel
    clear hbel hown
    go_wp2_with fail
    refine (radd_any _ _ _ _ _ _ _ r3 r2 (by rw [Hr3.out, Hr2.out]; simp [putN_len]; omega)).mono ?_
    rintro e w_6 ⟨vr4, rfl, hown, hbel⟩
    obtain ⟨Lr4, Ar4, cr4, Hr4, rfl, r4⟩ := hown.rdv
    replace hB := bnext hB hbel
    replace ha := ha.next hbel
    replace r1 := r1.next hbel
    replace r2 := r2.next hbel
    replace r3 := r3.next hbel
    clear hbel hown
    go_wp2_with fail
    refine (radd_any _ _ _ _ _ _ _ r1 r4 (by rw [Hr1.out, Hr4.out, Hr3.out, Hr2.out]; simp [putN_len]; omega)).mono ?_
    rintro e w_7 ⟨vr5, rfl, hown, hbel⟩
    obtain ⟨Lr5, Ar5, cr5, Hr5, rfl, r5⟩ := hown.rdv
    replace hB := bnext hB hbel
    replace ha := ha.next hbel
    replace r1 := r1.next hbel
    replace r2 := r2.next hbel
    replace r3 := r3.next hbel
    replace r4 := r4.next hbel
    clear hbel hown
    clear r1 r2 r3 r4
    have hnow : Lr5 = xs.take (p) ++ ([UInt8.ofNat (x / 256 % 256), UInt8.ofNat (x % 256)] ++ xs.drop (p + 2)) := by
      rw [Hr5.out, Hr4.out, Hr3.out, Hr2.out, Hr1.out, putN_two, List.drop_zero, List.take_of_length_le (l := xs.drop (p + 2)) (by simp; omega)]
    have hnl : Lr5.length ≤ 200 := by rw [hnow]; simp; omega
    have HNOW := Lib.hid hnow
    have hold := beN_lt ((xs.drop (p)).take 2)
    have hold2 : beN ((xs.drop (p)).take 2) < 65536 := by
      rw [take_two xs (p) hg, beN_two]
      have := (xs[p]).toNat_lt
      have := (xs[p+1]).toNat_lt
      omega
    obtain ⟨old, hOld⟩ : ∃ old, beN ((xs.drop (p)).take 2) = old := ⟨_, rfl⟩
    obtain ⟨N, hN⟩ : ∃ N, onesN xs = N := ⟨_, rfl⟩
    obtain ⟨M, hM⟩ : ∃ M, onesN Lr5 = M := ⟨_, rfl⟩
    have hN65 : N ≤ 65535 := by rw [← hN]; exact onesN_le _
    have hM65 : M ≤ 65535 := by rw [← hM]; exact onesN_le _
    have hkeep := keeps_turn xs p x hev hg hx Lr5 hnow
    rw [hOld, hN, hM] at hkeep
    rw [hOld] at hold2 ⊢
    have HK := Lib.hid hkeep
    have HN := Lib.hid hN
    have HM := Lib.hid hM
    clear hnow hold hOld hN hM hkeep Hr1 Hr2 Hr3 Hr4 Hr5
    have hlc := r5.len
    have hcc := r5.cap
    go_wp2_with fail
    go_loop [14, 15] (fun b i => ∃ j : Nat, j ≤ Lr5.length ∧ i = .int .i64 j ∧ b = .bool (nz (Lr5.take j))) (fun _ i => Lr5.length - (intOf i).toNat)
    case atStart => exact ⟨0, by omega, rfl, rfl⟩
    case round =>
      obtain ⟨j, hj, rfl, rfl⟩ := hrel
      by_cases hlt : j < Lr5.length
      · obtain ⟨b, off, rfl, hBB, hcell⟩ := byt_at r5 (k := j) hlt
        have c0 := hcell j hlt
        have hS := nz_snoc (Lr5.take j) Lr5[j]
        rw [← take_one Lr5 j hlt] at hS
        rw [nz_val] at hS
        have HS := Lib.hid hS
        clear hS hcell r5 ha HK HN HM HNOW
        generalize Lr5[j] = y at c0 HS
        cases hb : nz (Lr5.take j)
        · rw [hb] at HS
          go_wp2
          go_round
          case rel => exact ⟨j + 1, by omega, by go_num, by rw [HS.out]; rfl⟩
          case measure => simp [intOf]; omega
        · rw [hb] at HS
          go_wp2
          go_round
          case rel => exact ⟨j + 1, by omega, by go_num, by rw [HS.out]; rfl⟩
          case measure => simp [intOf]; omega
      · have : j = Lr5.length := by omega
        subst this
        rw [List.take_length]
        cases hnz : nz Lr5
        · clear HK
          go_wp2_with fail
          refine (lives02_any _).mono ?_
          rintro e wl ⟨rfl, hbel⟩
          go_wp2_with fail
          go_ret
          exact ⟨rfl, bnext hB hbel⟩
        · have hk2 := HK.out hnz
          have HK2 := Lib.hid hk2
          clear hk2 HK
          go_wp2_with fail
          refine (sof_any _ _ _ 1 [xs] N (parts_lit (.cons ha .nil) _ rfl _) rfl (by omega) (by omega) (by simp; omega) (by rw [← HN.out]; simp)).mono ?_
          rintro e w_8 ⟨rfl, hbel⟩
          replace hB := bnext (bnextA hB _) hbel
          replace ha := (ha.nextA _).next hbel
          replace r5 := (r5.nextA _).next hbel
          clear hbel
          go_wp2_with fail
          have hf := turn_any (65535 - N) old x w_8 (by omega) (by omega) (by omega)
          rw [HK2.out] at hf
          refine hf.mono ?_
          rintro e wt ⟨rfl, rfl⟩
          clear hf
          go_wp2_with fail
          refine (sof_any _ _ _ 1 [Lr5] M (parts_lit (.cons r5 .nil) _ rfl _) rfl (by omega) (by omega) (by simp; omega) (by rw [← HM.out]; simp)).mono ?_
          rintro e w_9 ⟨rfl, hbel⟩
          replace hB := bnext (bnextA hB _) hbel
          replace ha := (ha.nextA _).next hbel
          replace r5 := (r5.nextA _).next hbel
          clear hbel
          clear ha r5
          go_wp2_with (go_at_call 17; refine (lives02_any _).mono ?_; rintro e wl ⟨rfl, hbel⟩)
          go_ret
          exact ⟨rfl, bnext hB hbel⟩
  · go_enter Try.func5, Try.ntmps5
    go_wp2_with fail
    refine (HFa.out).mono ?_
    rintro e w_10 ⟨rfl, rfl⟩
    go_wp2_with fail
    refine (HI.out).mono ?_
    rintro e w_11 ⟨rfl, rfl⟩
    go_wp2_with fail
    refine (rget_no _ _ _ _ 2 w (by omega) (by omega) (by omega) (by omega)).mono ?_
    rintro e w_0 ⟨rfl, rfl⟩
    go_wp2_with (go_at_call 17; refine (lives02_any _).mono ?_; rintro e wl ⟨rfl, hbel⟩)
    go_ret
    exact ⟨rfl, bnext hB hbel⟩
end Go.Proofs.Ytbilgpciphpieaa
