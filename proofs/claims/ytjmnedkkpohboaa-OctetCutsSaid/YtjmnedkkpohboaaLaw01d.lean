/- The walk of the statement on octet.Cut, Same and Join. -/
import Derived.Test.YtjmnedkkpohboaaOct3
import Derived.Test.YtjmnedkkpohboaaOct4
import Derived.Test.YtjmnedkkpohboaaOct5
import Derived.Test.YtjmnedkkpohboaaRef1
namespace Go.Proofs.Ytjmnedkkpohboaa
open Go.RowKit

theorem few_in {k : IntKind} {a : Option Addr} {len cap : Nat} {zs : List Int} {w : World} (hk : k = .u8) (h : InRow k w a len cap zs) : ∃ bs : List UInt8, bs.length ≤ 300 ∧ Rd bv w w.heap.size a cap bs ∧
    Hid (Calls Try.prog 7 #[.slice a len cap, .int .i64 300] w fun e w' => e = .returned (.slice a bs.length cap) ∧ w = w') := by
  subst hk
  obtain ⟨bs0, rfl, hb0⟩ := row_rd h
  have hf := few_any a bs0.length cap w hb0.len hb0.cap
  have hmin : min bs0.length 300 = (bs0.take 300).length := by simp [Nat.min_comm]
  rw [hmin] at hf
  exact ⟨bs0.take 300, by simp; omega, hb0.take 300, hf⟩

set_option maxHeartbeats 4000000 in
theorem OctetCuts_walk (a0 : Option Addr) (len0 cap0 : Nat) (z0 : List Int) (a1 : Option Addr) (len1 cap1 : Nat) (z1 : List Int) (a2 a3 : Int) (w : World) (w0 : InRow .u8 w a0 len0 cap0 z0) (w1 : InRow .u8 w a1 len1 cap1 z1) (w2 : (Lit.int .i64 a2).wf = true) (_w3 : (Lit.int .i64 a3).wf = true) :
    Calls Try.prog 5 #[.slice a0 len0 cap0, .slice a1 len1 cap1, .int .i64 a2, .int .i64 a3] w fun e w' => e = .returned (.bool true) ∧ Below w.heap.size w w' := by
  obtain ⟨xs, hxl, ha, HFa⟩ := few_in rfl w0
  obtain ⟨ys, hyl, hb, HFb⟩ := few_in rfl w1
  have h2 := i64_of w2
  clear w0 w1 w2
  by_cases hc : a2 < 0 ∨ a3 < 0 ∨ (xs.length : Int) < a2 + a3
  · by_cases hne : xs = ys
    · subst hne
      go_enter Try.func5, Try.ntmps5
      go_wp2_with fail
      refine HFa.out.mono ?_; rintro e w1 ⟨rfl, rfl⟩
      go_wp2_with fail
      refine HFb.out.mono ?_; rintro e w1 ⟨rfl, rfl⟩
      go_wp2_with fail
      refine (cut_no _ _ _ _ _ w (by omega) h2.2 hc).mono ?_
      rintro e w1 ⟨rfl, rfl⟩
      go_wp2_with fail
      refine (rcut_no _ _ _ _ _ w (by omega) hc).mono ?_
      rintro e w2 ⟨rfl, rfl⟩
      go_wp2_with fail
      refine (rsame_yes none none 0 0 [] w w.heap.size (Rd.nil0 _ _ _) (Rd.nil0 _ _ _)).mono ?_
      rintro e w3 ⟨rfl, hd3⟩
      have hB3 := bnextD (Below.refl w.heap.size w) hd3
      have ha3 := ha.nextD hd3
      have hb3 := hb.nextD hd3
      clear hd3
      go_wp2_with fail
      refine (same_yes _ _ _ _ _ _ _ ha3 hb3).mono ?_
      rintro e w4 ⟨rfl, rfl⟩
      go_wp2_with fail
      refine (rsame_yes _ _ _ _ _ _ _ ha3 hb3).mono ?_
      rintro e w4 ⟨rfl, hd4⟩
      have hB4 := bnextD hB3 hd4
      have ha4 := ha3.nextD hd4
      have hb4 := hb3.nextD hd4
      clear hd4 hB3 ha3 hb3
      go_wp2_with fail
      refine (join3_any _ _ _ _ _ _ _ (ha4.nextA _) (hb4.nextA _) w4.heap.size (by simp) (by simp) (by simp) (by omega)).mono ?_
      rintro e w5 ⟨L5, A5, c5, rfl, HL5, hr5, hbel5⟩
      have hB5 := bnext (bnextA hB4 _) hbel5
      have ha5 := (ha4.nextA _).next hbel5
      have hb5 := (hb4.nextA _).next hbel5
      clear hbel5 hB4 ha4 hb4
      go_wp2_with fail
      refine (radd_any _ _ _ _ _ _ _ hb5 ha5 (by omega)).mono ?_
      rintro e w6 ⟨v6, rfl, hown6, hbel6⟩
      obtain ⟨L6, A6, c6, HL6, rfl, hr6⟩ := hown6.rdv
      have hB6 := bnext hB5 hbel6
      have ha6 := ha5.next hbel6
      have hr5 := hr5.next hbel6
      clear hown6 hbel6 hB5 ha5 hb5
      go_wp2_with fail
      refine (radd_any _ _ _ _ _ _ _ ha6 hr6 (by rw [HL6.out]; simp; omega)).mono ?_
      rintro e w7 ⟨v7, rfl, hown7, hbel7⟩
      obtain ⟨L7, A7, c7, HL7, rfl, hr7⟩ := hown7.rdv
      have hB7 := bnext hB6 hbel7
      have hr5 := hr5.next hbel7
      clear hown7 hbel7 hB6 ha6 hr6
      go_wp2_with fail
      refine (rsame_eq _ _ _ _ _ _ _ _ hr5 hr7 (by rw [HL5.out, HL7.out, HL6.out])).mono ?_
      rintro e w8 ⟨rfl, hd8⟩
      have hB8 := bnextD hB7 hd8
      clear hd8 hB7 hr5 hr7
      go_wp2_with fail
      refine (join0_any _).mono ?_
      rintro e w9 ⟨rfl, hbel9⟩
      have hB9 := bnext hB8 hbel9
      clear hbel9 hB8
      go_wp2_with (go_at_call 11; refine (lives_any _).mono ?_; rintro e w15 ⟨rfl, hbel⟩)
      go_ret
      exact ⟨rfl, bnext hB9 hbel⟩
    · have hne := Lib.hid hne
      go_enter Try.func5, Try.ntmps5
      go_wp2_with fail
      refine HFa.out.mono ?_; rintro e w1 ⟨rfl, rfl⟩
      go_wp2_with fail
      refine HFb.out.mono ?_; rintro e w1 ⟨rfl, rfl⟩
      go_wp2_with fail
      refine (cut_no _ _ _ _ _ w (by omega) h2.2 hc).mono ?_
      rintro e w1 ⟨rfl, rfl⟩
      go_wp2_with fail
      refine (rcut_no _ _ _ _ _ w (by omega) hc).mono ?_
      rintro e w2 ⟨rfl, rfl⟩
      go_wp2_with fail
      refine (rsame_yes none none 0 0 [] w w.heap.size (Rd.nil0 _ _ _) (Rd.nil0 _ _ _)).mono ?_
      rintro e w3 ⟨rfl, hd3⟩
      have hB3 := bnextD (Below.refl w.heap.size w) hd3
      have ha3 := ha.nextD hd3
      have hb3 := hb.nextD hd3
      clear hd3
      go_wp2_with fail
      refine (same_no _ _ _ _ _ _ _ _ ha3 hb3 hne.out).mono ?_
      rintro e w4 ⟨rfl, rfl⟩
      go_wp2_with fail
      refine (rsame_no _ _ _ _ _ _ _ _ ha3 hb3 hne.out).mono ?_
      rintro e w4 ⟨rfl, hd4⟩
      have hB4 := bnextD hB3 hd4
      have ha4 := ha3.nextD hd4
      have hb4 := hb3.nextD hd4
      clear hd4 hB3 ha3 hb3
      go_wp2_with fail
      refine (join3_any _ _ _ _ _ _ _ (ha4.nextA _) (hb4.nextA _) w4.heap.size (by simp) (by simp) (by simp) (by omega)).mono ?_
      rintro e w5 ⟨L5, A5, c5, rfl, HL5, hr5, hbel5⟩
      have hB5 := bnext (bnextA hB4 _) hbel5
      have ha5 := (ha4.nextA _).next hbel5
      have hb5 := (hb4.nextA _).next hbel5
      clear hbel5 hB4 ha4 hb4
      go_wp2_with fail
      refine (radd_any _ _ _ _ _ _ _ hb5 ha5 (by omega)).mono ?_
      rintro e w6 ⟨v6, rfl, hown6, hbel6⟩
      obtain ⟨L6, A6, c6, HL6, rfl, hr6⟩ := hown6.rdv
      have hB6 := bnext hB5 hbel6
      have ha6 := ha5.next hbel6
      have hr5 := hr5.next hbel6
      clear hown6 hbel6 hB5 ha5 hb5
      go_wp2_with fail
      refine (radd_any _ _ _ _ _ _ _ ha6 hr6 (by rw [HL6.out]; simp; omega)).mono ?_
      rintro e w7 ⟨v7, rfl, hown7, hbel7⟩
      obtain ⟨L7, A7, c7, HL7, rfl, hr7⟩ := hown7.rdv
      have hB7 := bnext hB6 hbel7
      have hr5 := hr5.next hbel7
      clear hown7 hbel7 hB6 ha6 hr6
      go_wp2_with fail
      refine (rsame_eq _ _ _ _ _ _ _ _ hr5 hr7 (by rw [HL5.out, HL7.out, HL6.out])).mono ?_
      rintro e w8 ⟨rfl, hd8⟩
      have hB8 := bnextD hB7 hd8
      clear hd8 hB7 hr5 hr7
      go_wp2_with fail
      refine (join0_any _).mono ?_
      rintro e w9 ⟨rfl, hbel9⟩
      have hB9 := bnext hB8 hbel9
      clear hbel9 hB8
      go_wp2_with (go_at_call 11; refine (lives_any _).mono ?_; rintro e w15 ⟨rfl, hbel⟩)
      go_ret
      exact ⟨rfl, bnext hB9 hbel⟩
  · obtain ⟨k, rfl⟩ : ∃ k : Nat, a2 = k := ⟨a2.toNat, by omega⟩
    obtain ⟨n, rfl⟩ : ∃ n : Nat, a3 = n := ⟨a3.toNat, by omega⟩
    have hkn : k + n ≤ xs.length := by omega
    by_cases hne : xs = ys
    · subst hne
      go_enter Try.func5, Try.ntmps5
      go_wp2_with fail
      refine HFa.out.mono ?_; rintro e w1 ⟨rfl, rfl⟩
      go_wp2_with fail
      refine HFb.out.mono ?_; rintro e w1 ⟨rfl, rfl⟩
      go_wp2_with fail
      refine (cut_yes _ _ xs k n w ha hkn (by omega)).mono ?_
      rintro e w1 ⟨v1, rfl, hown1, hbel1⟩
      obtain ⟨L1, A1, c1, HL1, rfl, hr1⟩ := hown1.rdv
      have hB1 := bnext (Below.refl w.heap.size w) hbel1
      have ha1 := ha.next hbel1
      have hb1 := hb.next hbel1
      clear hown1 hbel1
      go_wp2_with fail
      refine (rcut_yes _ _ xs k n _ ha1 hkn (by omega)).mono ?_
      rintro e w2 ⟨v2, rfl, hown2, hbel2⟩
      obtain ⟨L2, A2, c2, HL2, rfl, hr2⟩ := hown2.rdv
      have hB2 := bnext hB1 hbel2
      have ha2 := ha1.next hbel2
      have hb2 := hb1.next hbel2
      have hr1 := hr1.next hbel2
      clear hown2 hbel2 hB1 ha1 hb1
      go_wp2_with fail
      refine (rsame_eq _ _ _ _ _ _ _ _ hr1 hr2 (by rw [HL1.out, HL2.out])).mono ?_
      rintro e w3 ⟨rfl, hd3⟩
      have hB3 := bnextD hB2 hd3
      have ha3 := ha2.nextD hd3
      have hb3 := hb2.nextD hd3
      clear hd3 hB2 ha2 hb2 hr1 hr2
      go_wp2_with fail
      refine (same_yes _ _ _ _ _ _ _ ha3 hb3).mono ?_
      rintro e w4 ⟨rfl, rfl⟩
      go_wp2_with fail
      refine (rsame_yes _ _ _ _ _ _ _ ha3 hb3).mono ?_
      rintro e w4 ⟨rfl, hd4⟩
      have hB4 := bnextD hB3 hd4
      have ha4 := ha3.nextD hd4
      have hb4 := hb3.nextD hd4
      clear hd4 hB3 ha3 hb3
      go_wp2_with fail
      refine (join3_any _ _ _ _ _ _ _ (ha4.nextA _) (hb4.nextA _) w4.heap.size (by simp) (by simp) (by simp) (by omega)).mono ?_
      rintro e w5 ⟨L5, A5, c5, rfl, HL5, hr5, hbel5⟩
      have hB5 := bnext (bnextA hB4 _) hbel5
      have ha5 := (ha4.nextA _).next hbel5
      have hb5 := (hb4.nextA _).next hbel5
      clear hbel5 hB4 ha4 hb4
      go_wp2_with fail
      refine (radd_any _ _ _ _ _ _ _ hb5 ha5 (by omega)).mono ?_
      rintro e w6 ⟨v6, rfl, hown6, hbel6⟩
      obtain ⟨L6, A6, c6, HL6, rfl, hr6⟩ := hown6.rdv
      have hB6 := bnext hB5 hbel6
      have ha6 := ha5.next hbel6
      have hr5 := hr5.next hbel6
      clear hown6 hbel6 hB5 ha5 hb5
      go_wp2_with fail
      refine (radd_any _ _ _ _ _ _ _ ha6 hr6 (by rw [HL6.out]; simp; omega)).mono ?_
      rintro e w7 ⟨v7, rfl, hown7, hbel7⟩
      obtain ⟨L7, A7, c7, HL7, rfl, hr7⟩ := hown7.rdv
      have hB7 := bnext hB6 hbel7
      have hr5 := hr5.next hbel7
      clear hown7 hbel7 hB6 ha6 hr6
      go_wp2_with fail
      refine (rsame_eq _ _ _ _ _ _ _ _ hr5 hr7 (by rw [HL5.out, HL7.out, HL6.out])).mono ?_
      rintro e w8 ⟨rfl, hd8⟩
      have hB8 := bnextD hB7 hd8
      clear hd8 hB7 hr5 hr7
      go_wp2_with fail
      refine (join0_any _).mono ?_
      rintro e w9 ⟨rfl, hbel9⟩
      have hB9 := bnext hB8 hbel9
      clear hbel9 hB8
      go_wp2_with (go_at_call 11; refine (lives_any _).mono ?_; rintro e w15 ⟨rfl, hbel⟩)
      go_ret
      exact ⟨rfl, bnext hB9 hbel⟩
    · have hne := Lib.hid hne
      go_enter Try.func5, Try.ntmps5
      go_wp2_with fail
      refine HFa.out.mono ?_; rintro e w1 ⟨rfl, rfl⟩
      go_wp2_with fail
      refine HFb.out.mono ?_; rintro e w1 ⟨rfl, rfl⟩
      go_wp2_with fail
      refine (cut_yes _ _ xs k n w ha hkn (by omega)).mono ?_
      rintro e w1 ⟨v1, rfl, hown1, hbel1⟩
      obtain ⟨L1, A1, c1, HL1, rfl, hr1⟩ := hown1.rdv
      have hB1 := bnext (Below.refl w.heap.size w) hbel1
      have ha1 := ha.next hbel1
      have hb1 := hb.next hbel1
      clear hown1 hbel1
      go_wp2_with fail
      refine (rcut_yes _ _ xs k n _ ha1 hkn (by omega)).mono ?_
      rintro e w2 ⟨v2, rfl, hown2, hbel2⟩
      obtain ⟨L2, A2, c2, HL2, rfl, hr2⟩ := hown2.rdv
      have hB2 := bnext hB1 hbel2
      have ha2 := ha1.next hbel2
      have hb2 := hb1.next hbel2
      have hr1 := hr1.next hbel2
      clear hown2 hbel2 hB1 ha1 hb1
      go_wp2_with fail
      refine (rsame_eq _ _ _ _ _ _ _ _ hr1 hr2 (by rw [HL1.out, HL2.out])).mono ?_
      rintro e w3 ⟨rfl, hd3⟩
      have hB3 := bnextD hB2 hd3
      have ha3 := ha2.nextD hd3
      have hb3 := hb2.nextD hd3
      clear hd3 hB2 ha2 hb2 hr1 hr2
      go_wp2_with fail
      refine (same_no _ _ _ _ _ _ _ _ ha3 hb3 hne.out).mono ?_
      rintro e w4 ⟨rfl, rfl⟩
      go_wp2_with fail
      refine (rsame_no _ _ _ _ _ _ _ _ ha3 hb3 hne.out).mono ?_
      rintro e w4 ⟨rfl, hd4⟩
      have hB4 := bnextD hB3 hd4
      have ha4 := ha3.nextD hd4
      have hb4 := hb3.nextD hd4
      clear hd4 hB3 ha3 hb3
      go_wp2_with fail
      refine (join3_any _ _ _ _ _ _ _ (ha4.nextA _) (hb4.nextA _) w4.heap.size (by simp) (by simp) (by simp) (by omega)).mono ?_
      rintro e w5 ⟨L5, A5, c5, rfl, HL5, hr5, hbel5⟩
      have hB5 := bnext (bnextA hB4 _) hbel5
      have ha5 := (ha4.nextA _).next hbel5
      have hb5 := (hb4.nextA _).next hbel5
      clear hbel5 hB4 ha4 hb4
      go_wp2_with fail
      refine (radd_any _ _ _ _ _ _ _ hb5 ha5 (by omega)).mono ?_
      rintro e w6 ⟨v6, rfl, hown6, hbel6⟩
      obtain ⟨L6, A6, c6, HL6, rfl, hr6⟩ := hown6.rdv
      have hB6 := bnext hB5 hbel6
      have ha6 := ha5.next hbel6
      have hr5 := hr5.next hbel6
      clear hown6 hbel6 hB5 ha5 hb5
      go_wp2_with fail
      refine (radd_any _ _ _ _ _ _ _ ha6 hr6 (by rw [HL6.out]; simp; omega)).mono ?_
      rintro e w7 ⟨v7, rfl, hown7, hbel7⟩
      obtain ⟨L7, A7, c7, HL7, rfl, hr7⟩ := hown7.rdv
      have hB7 := bnext hB6 hbel7
      have hr5 := hr5.next hbel7
      clear hown7 hbel7 hB6 ha6 hr6
      go_wp2_with fail
      refine (rsame_eq _ _ _ _ _ _ _ _ hr5 hr7 (by rw [HL5.out, HL7.out, HL6.out])).mono ?_
      rintro e w8 ⟨rfl, hd8⟩
      have hB8 := bnextD hB7 hd8
      clear hd8 hB7 hr5 hr7
      go_wp2_with fail
      refine (join0_any _).mono ?_
      rintro e w9 ⟨rfl, hbel9⟩
      have hB9 := bnext hB8 hbel9
      clear hbel9 hB8
      go_wp2_with (go_at_call 11; refine (lives_any _).mono ?_; rintro e w15 ⟨rfl, hbel⟩)
      go_ret
      exact ⟨rfl, bnext hB9 hbel⟩
end Go.Proofs.Ytjmnedkkpohboaa
