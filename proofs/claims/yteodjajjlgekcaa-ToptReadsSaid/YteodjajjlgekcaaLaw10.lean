/- PutMSS, the law's lives, the walk of the statement on which options bytes are. -/
import Derived.Test.YteodjajjlgekcaaOpt6
namespace Go.Proofs.Yteodjajjlgekcaa
open Go.RowKit
set_option linter.unusedVariables false

theorem os_one {w : World} {g B : Nat} {k : UInt8} {A : Option Addr} {c : Nat} {d : List UInt8} (hg : Blk w g [.int .u8 (k.toNat : Int), .slice A d.length c] 34) (hd : Rd bv w B A c d) (hB : g < B) : Os w B (some ⟨g, 0, none⟩) 1 [(k, d)] := by
  refine ⟨?_, ?_, ?_, ?_⟩
  · simp
  · omega
  · intro h
    cases h
  · intro _
    exact ⟨g, 0, _, rfl, hB, .cons hd .nil, fun j u hj => by rw [Nat.zero_add, hg.cell]; exact hj⟩
theorem trep_zero (W : World) (A1 : Option Addr) (c1 : Nat) (_h : Rd bv W W.heap.size A1 c1 [1]) : Hid (Calls Try.prog 44 #[.slice A1 1 c1, .int .i64 ((0 : Nat) : Int)] W fun e w' => ∃ L A2 c2, e = .returned (.slice A2 L.length c2) ∧ Hid (L = List.replicate 0 1) ∧ Rd bv w' w'.heap.size A2 c2 L ∧ Below W.heap.size W w') :=
  (trep_0 A1 1 c1 W).mono fun e w' ⟨A2, c2, he, hr, hb⟩ => ⟨[], A2, c2, he, rfl, hr, hb⟩
theorem tputmss_any (n : UInt16) (w : World) :
    Calls Try.prog 21 #[.int .u16 (n.toNat : Int)] w fun e w' => ∃ L A c, e = .returned (.slice A L.length c) ∧ Hid (L = [2, 4] ++ be16 n) ∧ Rd bv w' w'.heap.size A c L ∧ Below w.heap.size w w' := by
  have H1 := Lib.hid (put16_nil (some ⟨w.heap.size, 0, none⟩) 1 [n] _ (lit16_at w w.heap.size [n] rfl #[.int .u16 (n.toNat : Int)] rfl 30 (by simp)) (by simp))
  go_enter Try.func21, Try.ntmps21
  go_wp2_with fail
  refine H1.out.mono ?_
  rintro e w1 ⟨L, A, c, rfl, HL, r, hb⟩
  have hB := bnextA (bnext (bnextA (Below.refl w.heap.size w) _) hb) (.cells #[.int .u8 2, .slice A L.length c] 34)
  have hd : L = be16 n := by rw [HL.out]; simp [puts16]
  have hl : L.length = 2 := by rw [hd]; rfl
  have hos : Os (w1.alloc (.cells #[.int .u8 2, .slice A L.length c] 34)) (w1.alloc (.cells #[.int .u8 2, .slice A L.length c] 34)).heap.size (some ⟨w1.heap.size, 0, none⟩) 1 [(2, L)] := os_one (k := 2) (Blk.new w1 #[.int .u8 2, .slice A L.length c] 34) (r.nextA (.cells #[.int .u8 2, .slice A L.length c] 34)) (by simp)
  have hP : putF [] [((2 : UInt8), L)] = some ([2, 4] ++ L) := by
    have h1 : okO (2, L) := ⟨by simp, fun h => by simp at h, by simp only; omega⟩
    have h2 : encO (2, L) = [2, 4] ++ L := by rw [encO]; simp [hl]
    rw [putF, if_pos h1, h2, if_neg (by simp; omega), putF]
    rfl
  have H2 := Lib.hid (tput_ok _ _ _ _ hos (by simp) _ hP 0 (by simp [hl]) trep_zero)
  have HD := Lib.hid hd
  clear hb H1 hos hP hl hd HL
  go_wp2_with fail
  refine H2.out.mono ?_
  rintro e w2 ⟨L2, A2, c2, rfl, HL2, r2, hb2⟩
  go_wp2_with fail
  go_ret
  exact ⟨L2, A2, c2, rfl, by rw [Hid, HL2.out, HD.out]; simp, r2, bnext hB hb2⟩
theorem lives_runs : Runs [1, 2, 4, 5, 180] ([(1, []), (2, [5, 180])], 0) 0 [] :=
  .one (by decide) rfl (.opt (by decide) (by decide) (by decide) (by decide) (by decide) (.fin (by decide) rfl))
theorem lives10_any (w : World) : Calls Try.prog 16 #[] w fun e w' => e = .returned (.bool true) ∧ Below w.heap.size w w' := by
  have H1 := Lib.hid (tmss_any (some ⟨w.heap.size, 0, none⟩) 5 [1, 2, 4, 5, 180] _ (lit_at w w.heap.size [1, 2, 4, 5, 180] rfl #[.int .u8 1, .int .u8 2, .int .u8 4, .int .u8 5, .int .u8 180] rfl 5 (by simp)) (by simp) _ lives_runs 1460 true rfl)
  obtain ⟨n, hn⟩ : ∃ n : UInt16, (n.toNat : Int) = 1460 := ⟨1460, rfl⟩
  have H2 := fun W => Lib.hid (tputmss_any n W)
  have hb16 : [2, 4] ++ be16 n = [2, 4, 5, 180] := by
    have : n.toNat = 1460 := by omega
    rw [be16, this]
    rfl
  simp only [hn] at H2
  have HBE := Lib.hid hb16
  clear hn hb16
  go_enter Try.func16, Try.ntmps16
  go_wp2_with fail
  refine H1.out.mono ?_
  rintro e w1 ⟨rfl, hb⟩
  have hB := bnext (bnextA (Below.refl w.heap.size w) _) hb
  clear hb H1
  go_wp2_with fail
  refine (H2 _).out.mono ?_
  rintro e w2 ⟨L, A, c, rfl, HL, r, hb⟩
  replace hB := bnext hB hb
  clear hb H2
  have HS := Lib.hid (rsame_eq A (some ⟨w2.heap.size, 0, none⟩) c 4 L [2, 4, 5, 180] _ _ (r.nextA (.cells #[.int .u8 2, .int .u8 4, .int .u8 5, .int .u8 180] 5)) (lit_at w2 w2.heap.size [2, 4, 5, 180] rfl #[.int .u8 2, .int .u8 4, .int .u8 5, .int .u8 180] rfl 5 (by simp)) (by rw [HL.out, HBE.out]))
  clear r
  go_wp2_with fail
  refine HS.out.mono ?_
  rintro e w3 ⟨rfl, hd⟩
  go_wp2_with fail
  go_ret
  exact ⟨rfl, bnext (bnextA hB _) hd.bel⟩
set_option maxHeartbeats 2000000 in
theorem ToptReads_walk (a0 : Option Addr) (len0 cap0 : Nat) (z0 : List Int) (w : World) (w0 : InRow .u8 w a0 len0 cap0 z0) :
    Calls Try.prog 3 #[.slice a0 len0 cap0] w fun e w' => e = .returned (.bool true) ∧ Below w.heap.size w w' := by
  obtain ⟨xs, hxl, ha, HFa⟩ := few_row w0 100 (by omega)
  obtain ⟨R, hR⟩ := runs_some xs _ 0 [] (Nat.le_refl _)
  have hx1 : xs.length ≤ 1000 := by omega
  have HLN := runs_len xs R 0 [] hR (by simp) (by omega)
  obtain ⟨n, b, hm⟩ : ∃ n b, mssN R.1 = (n, b) := ⟨_, _, rfl⟩
  obtain ⟨l, r⟩ := R
  simp only at hm HLN
  obtain ⟨U, hU⟩ : ∃ U, (usN l && decide (r = 0)) = U := ⟨_, rfl⟩
  have HR := fun W h => Lib.hid (topt_of a0 cap0 xs W h hx1 (l, r) hR)
  have HRR := fun W h => Lib.hid (ropt_of a0 cap0 xs W h hx1 (l, r) hR)
  have HM := fun W h => Lib.hid (tmss_any a0 cap0 xs W h hx1 (l, r) hR n b hm)
  have HRM := fun W h => Lib.hid (rmss_any a0 cap0 xs W h hx1 (l, r) hR n b hm)
  have HW := fun W h => Lib.hid (twithout_any a0 cap0 xs W h hx1 l r hR U hU)
  simp only at HR HRR
  have hr0 : ((r : Int) == 0) = decide (r = 0) := by rw [Bool.eq_iff_iff]; simp
  have HLL : Hid (l.length ≤ 1000000) := by rw [Hid]; omega
  have HU := Lib.hid hU
  clear hR hx1 hm hU HLN
  have hB := Below.refl w.heap.size w
  go_enter Try.func3, Try.ntmps3
  go_wp2_with fail
  refine HFa.out.mono ?_
  rintro e w1 ⟨rfl, rfl⟩
  clear HFa w0 hxl
  go_wp2_with fail
  refine (HR _ ha).out.mono ?_
  rintro e w2 ⟨A1, c1, rfl, o1, hb⟩
  replace hB := bnext hB hb
  replace ha := ha.next hb
  clear hb HR
  go_wp2_with fail
  refine (HRR _ ha).out.mono ?_
  rintro e w3 ⟨A2, c2, rfl, o2, hb⟩
  replace hB := bnext hB hb
  replace ha := ha.next hb
  replace o1 := o1.next hb
  clear hb HRR
  go_wp2_with fail
  refine (HM _ ha).out.mono ?_
  rintro e w4 ⟨rfl, hb⟩
  replace hB := bnext hB hb
  replace ha := ha.next hb
  replace o1 := o1.next hb
  replace o2 := o2.next hb
  clear hb HM
  go_wp2_with fail
  refine (HRM _ ha).out.mono ?_
  rintro e w5 ⟨rfl, hb⟩
  replace hB := bnext hB hb
  replace ha := ha.next hb
  replace o1 := o1.next hb
  replace o2 := o2.next hb
  clear hb HRM
  have q1 := o2.len
  have q2 := o2.cap
  have HO2 := Lib.hid o2
  clear o2
  go_wp2_with fail
  go_loopw [11, 12] (fun u i wr => ∃ (j : Nat) (b : Bool), j ≤ l.length ∧ i = .int .i64 j ∧ u = .bool b ∧ Hid ((b && usN (l.drop j)) = U) ∧ Below w5.heap.size w5 wr) (fun _ i _ => l.length - (intOf i).toNat)
  case atStart =>
    refine ⟨0, _, by omega, rfl, rfl, ?_, Below.refl _ _⟩
    rw [Hid, ← HU.out, List.drop_zero, Bool.and_comm]
  case round =>
    obtain ⟨j, b2, hj, rfl, rfl, hbj, hbw⟩ := hrel
    clear HU hr0
    by_cases hlt : j < l.length
    · obtain ⟨bl, off, A3, c3, hA, hbl, u0, u1, hd⟩ := (HO2.out.next hbw).at_ j hlt
      subst hA
      have hm2 := hbj.out
      rw [us_drop l j hlt] at hm2
      have HJ : Hid (j < l.length) := hlt
      generalize l[j] = kd at u0 u1 hd hm2
      obtain ⟨k, d⟩ := kd
      simp only at u0 u1 hd hm2
      have HM2 := Lib.hid hm2
      have hk4 : decide ((k.toNat : Int) ≤ 4) = decide (k.toNat ≤ 4) := by rw [Bool.eq_iff_iff]; simp; omega
      clear hm2 hbj hd u1 HO2
      cases b2
      · go_wp2_with fail
        go_roundw
        case rel =>
          have := HJ.out
          refine ⟨j + 1, false, by omega, by go_num, rfl, ?_, hbw⟩
          rw [Hid, ← HM2.out]
          simp
        case measure => have := HJ.out; simp [intOf]; omega
      · generalize decide (k.toNat ≤ 4) = b4 at hk4 HM2
        go_wp2_with fail
        go_roundw
        case rel =>
          have := HJ.out
          refine ⟨j + 1, b4, by omega, by go_num, by first | rfl | rw [hk4], ?_, hbw⟩
          rw [Hid, ← HM2.out]
          simp
        case measure => have := HJ.out; simp [intOf]; omega
    · obtain rfl : j = l.length := by omega
      have hb2 : b2 = U := by
        have := hbj.out
        rw [List.drop_length] at this
        simpa [usN] using this
      subst hb2
      have o2 := HO2.out.next hbw
      replace o1 := o1.next hbw
      replace ha := ha.next hbw
      replace hB := bnext hB hbw
      clear hbj HO2 hbw
      have HS := Lib.hid (rosame_yes A1 A2 c1 c2 l wr o1 o2 HLL.out)
      clear o1 o2
      go_wp2_with fail
      refine HS.out.mono ?_
      rintro e w6 ⟨rfl, hb⟩
      replace hB := bnext hB hb
      replace ha := ha.next hb
      clear hb HS
      go_wp2_with fail
      refine (HW _ ha).out.mono ?_
      rintro e w7 ⟨rfl, hb⟩
      replace hB := bnext hB hb
      clear hb HW ha
      go_wp2_with fail
      refine (lives10_any _).mono ?_
      rintro e w8 ⟨rfl, hb⟩
      replace hB := bnext hB hb
      go_wp2_with fail
      go_ret
      exact ⟨rfl, hB⟩
end Go.Proofs.Yteodjajjlgekcaa
