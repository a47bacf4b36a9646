/- The walk of the statement on how many bytes there may be. -/
import Derived.Test.YtfejdfdgbfpgkaaLaw09
import Derived.Test.YtfejdfdgbfpgkaaTcp3
namespace Go.Proofs.Ytfejdfdgbfpgkaa
open Go.RowKit

set_option maxHeartbeats 4000000 in
theorem TcpBounds_walk (a0 : Int) (w : World) (_w0 : (Lit.int .i64 a0).wf = true) :
    Calls Try.prog 10 #[.int .i64 a0] w fun e w' => e = .returned (.bool true) ∧ Below w.heap.size w w' := by
  have hin := rin_any a0 65510 65520 w
  obtain ⟨m, hm, hlo, hhi⟩ : ∃ m : Nat, (if a0 < 65510 then 65510 else if 65520 < a0 then 65520 else a0) = (m : Int) ∧ 65510 ≤ m ∧ m ≤ 65520 := by
    refine ⟨(if a0 < 65510 then 65510 else if 65520 < a0 then 65520 else a0).toNat, ?_, ?_, ?_⟩ <;> (repeat' split) <;> omega
  rw [hm] at hin
  have HIN := Lib.hid hin
  clear hin hm _w0
  obtain ⟨i0, hi0, hz0, hz1, hz2⟩ := info_parts info_u8
  obtain ⟨a, ea⟩ : ∃ a : UInt16, (a.toNat : Int) = 0 := ⟨0, rfl⟩
  obtain ⟨q, eq⟩ : ∃ a : UInt32, (a.toNat : Int) = 0 := ⟨0, rfl⟩
  obtain ⟨r, er⟩ : ∃ a : UInt8, (a.toNat : Int) = 0 := ⟨0, rfl⟩
  obtain ⟨s, es⟩ : ∃ a : UInt32, (a.toNat : Int) = 1 := ⟨1, rfl⟩
  obtain ⟨d, ed⟩ : ∃ a : UInt32, (a.toNat : Int) = 2 := ⟨2, rfl⟩
  obtain ⟨h8, eh⟩ : ∃ a : UInt8, a.toNat = 80 := ⟨80, rfl⟩
  obtain ⟨os, ho⟩ : ∃ l : List UInt8, l.length = 0 := ⟨[], rfl⟩
  go_enter Try.func10, Try.ntmps10
  go_wp2_with fail
  refine HIN.out.mono ?_
  rintro e w_1 ⟨rfl, rfl⟩
  go_wp2_with (at_make; go_loud (refine wpList_make_full _ rfl _ _ _ rfl w.heap.size 5 i0 _ 1 Try.underlying22 hi0 hz0 hz1 _ _ _ _ m rfl rfl rfl rfl (by rw [hz2]; omega) (by unfold maxLen; omega) (Nat.le_refl _) ?_); intro w1 hown1 hg1)
  have hB : Below w.heap.size w w1 := (Below.refl _ _).grown hg1 (Nat.le_refl _) (by simp)
  obtain ⟨zs, hzs⟩ : ∃ zs : List UInt8, zs = List.replicate m 0 := ⟨_, rfl⟩
  have hzl : zs.length = m := by rw [hzs]; simp
  have HO : Own bv w1 w.heap.size 5 (.slice (some ⟨w.heap.size, 0, none⟩) m m) zs := by
    have := hown1
    simp only [Value.cells, Nat.mul_one, toList_madeCells_one] at this
    rw [hzs]
    simpa [Own, bv] using this
  clear hown1 hg1 hzs
  subst hzl
  have hr := HO.rdS
  clear HO
  by_cases hbig : zs.length ≤ 65515
  · have hd : decide ((65515 : Int) < (zs.length : Int)) = false := by simp; omega
    obtain ⟨N, hN⟩ : ∃ N, onesN (uh s d 6 (20 + os.length + zs.length) ++ tb a a q q h8 r a a 0 os zs) = N := ⟨_, rfl⟩
    have H2 : ∀ A2 c2 W (_ : Rd bv W W.heap.size A2 c2 zs), Hid (Calls Try.prog 35 #[.int .u32 1, .int .u32 2, .agg #[.int .u16 0, .int .u16 0, .int .u32 0, .int .u32 0, .int .u8 0, .int .u8 0, .int .u16 0, .int .u16 0, .slice none 0 0, .slice A2 zs.length c2]] W fun e w' => ∃ L A c, e = .returned (.tuple #[.slice A L.length c, .int .i64 0]) ∧ Hid (L = tb a a q q h8 r a a (65535 - N) os zs) ∧ Rd bv w' w'.heap.size A c L ∧ Below W.heap.size W w') := by
      intro A2 c2 W g
      have h := tput_ok s d a a q q r r a a none A2 0 c2 os zs W (by rw [List.eq_nil_of_length_eq_zero ho]; exact Rd.nil0 _ _ _) g (by omega) (by omega) (by omega) (by omega) h8 (by omega) N hN
      simp only [ea, eq, er, es, ed, ho] at h
      exact h
    have H3 : ∀ (P : List UInt8) (_ : P = tb a a q q h8 r a a (65535 - N) os zs) A c W (_ : Rd bv W W.heap.size A c P), Hid (Calls Try.prog 30 #[.int .u32 1, .int .u32 2, .slice A P.length c] W fun e w' => ∃ Lo Ao co Lx Ax cx, e = .returned (.tuple #[.agg #[.int .u16 0, .int .u16 0, .int .u32 0, .int .u32 0, .int .u8 0, .int .u8 0, .int .u16 0, .int .u16 0, .slice Ao Lo.length co, .slice Ax Lx.length cx], .int .i64 0]) ∧ Hid (Lo = os) ∧ Hid (Lx = zs) ∧ Rd bv w' w'.heap.size Ao co Lo ∧ Rd bv w' w'.heap.size Ax cx Lx ∧ Below W.heap.size W w') := by
      intro P hP A c W g
      have h := tparse_put s d a a q q r r a a os zs P h8 N (by omega) (by omega) (by omega) (by omega) (by omega) hN hP A c W g
      simp only [ea, eq, er, es, ed] at h
      exact h
    clear hN ea eq er es ed eh ho
    refine (H2 _ _ _ hr).out.mono ?_
    rintro e w_2 ⟨L2, A2, c2, rfl, HL2, r2, hbel⟩
    replace hB := bnext hB hbel
    clear hr hbel H2
    go_wp2_with fail
    refine (H3 L2 HL2.out _ _ _ r2).out.mono ?_
    rintro e w_3 ⟨Lo, Ao, co, Lx, Ax, cx, rfl, HLo, HLx, -, -, hbel⟩
    replace hB := bnext hB hbel
    have hlx : (Lx.length : Int) = (zs.length : Int) := by rw [HLx.out]
    clear r2 hbel H3
    go_wp2_with fail
    refine (lives09_any _).mono ?_
    rintro e wl ⟨rfl, hbel⟩
    replace hB := bnext (bnextA hB _) hbel
    go_wp2_with fail
    go_ret
    exact ⟨rfl, hB⟩
  · have hd : decide ((65515 : Int) < (zs.length : Int)) = true := by simp; omega
    have H2 : ∀ A2 c2 W, Hid (Calls Try.prog 35 #[.int .u32 1, .int .u32 2, .agg #[.int .u16 0, .int .u16 0, .int .u32 0, .int .u32 0, .int .u8 0, .int .u8 0, .int .u16 0, .int .u16 0, .slice none 0 0, .slice A2 zs.length c2]] W fun e w' => e = .returned (.tuple #[.slice none 0 0, .int .i64 2]) ∧ Below W.heap.size W w') := by
      intro A2 c2 W
      have h := tput_bad3 s d a a q q r r a a none A2 0 0 zs.length c2 (by omega) (by omega) W (by omega) (by omega) (by omega) (by omega)
      simp only [ea, eq, er, es, ed] at h
      exact h
    have H3 : ∀ (ys : List UInt8) (_ : ys.length = zs.length) (P : List UInt8) (_ : P = [0, 0, 0, 0, 0, 0, 0, 0, 0, 0, 0, 0, 80, 0, 0, 0, 0, 0, 0, 0] ++ ys) A c W (_ : Rd bv W W.heap.size A c P), Hid (Calls Try.prog 30 #[.int .u32 1, .int .u32 2, .slice A P.length c] W fun e w' => e = .returned (.tuple #[.agg #[.int .u16 0, .int .u16 0, .int .u32 0, .int .u32 0, .int .u8 0, .int .u8 0, .int .u16 0, .int .u16 0, .slice none 0 0, .slice none 0 0], .int .i64 3]) ∧ Below W.heap.size W w') := by
      intro ys hyl P hP A c W g
      have hl : P.length = 20 + ys.length := by rw [hP]; simp; omega
      have e12 : P[12] = 80 := (List.getElem_of_eq hP _).trans rfl
      have h := tparse_form1 s d A c P W g (by omega) (by rw [e12]; decide) (by omega)
      simp only [es, ed] at h
      exact h
    clear ea eq er es ed eh ho
    refine (H2 _ _ _).out.mono ?_
    rintro e w_2 ⟨rfl, hbel⟩
    replace hB := bnext hB hbel
    clear hr hbel H2
    go_wp2_with (at_make; go_loud (refine wpList_make_full _ rfl _ _ _ rfl (w_2.heap.size + 1) 5 i0 _ 1 Try.underlying22 hi0 hz0 hz1 _ _ _ _ zs.length rfl rfl rfl rfl (by rw [hz2]; omega) (by unfold maxLen; omega) (by simp) ?_); intro w3 hown3 hg3)
    have hq := bnextA (Below.refl w_2.heap.size w_2) (.cells #[.int .u8 0, .int .u8 0, .int .u8 0, .int .u8 0, .int .u8 0, .int .u8 0, .int .u8 0, .int .u8 0, .int .u8 0, .int .u8 0, .int .u8 0, .int .u8 0, .int .u8 80, .int .u8 0, .int .u8 0, .int .u8 0, .int .u8 0, .int .u8 0, .int .u8 0, .int .u8 0] 5)
    have hB2 : Below (w_2.heap.size + 1) (w_2.alloc (.cells #[.int .u8 0, .int .u8 0, .int .u8 0, .int .u8 0, .int .u8 0, .int .u8 0, .int .u8 0, .int .u8 0, .int .u8 0, .int .u8 0, .int .u8 0, .int .u8 0, .int .u8 80, .int .u8 0, .int .u8 0, .int .u8 0, .int .u8 0, .int .u8 0, .int .u8 0, .int .u8 0] 5)) w3 := (Below.refl _ _).grown hg3 (by simp) (by simp)
    have hB3 : Below w_2.heap.size w_2 w3 := hq.trans (hB2.mono (by omega))
    have r20 := lit_at w_2 w_2.heap.size [0, 0, 0, 0, 0, 0, 0, 0, 0, 0, 0, 0, 80, 0, 0, 0, 0, 0, 0, 0] rfl #[.int .u8 0, .int .u8 0, .int .u8 0, .int .u8 0, .int .u8 0, .int .u8 0, .int .u8 0, .int .u8 0, .int .u8 0, .int .u8 0, .int .u8 0, .int .u8 0, .int .u8 80, .int .u8 0, .int .u8 0, .int .u8 0, .int .u8 0, .int .u8 0, .int .u8 0, .int .u8 0] rfl 5 (by simp)
    have r20' : Rd bv w3 w3.heap.size (some ⟨w_2.heap.size, 0, none⟩) 20 [0, 0, 0, 0, 0, 0, 0, 0, 0, 0, 0, 0, 80, 0, 0, 0, 0, 0, 0, 0] := r20.next (by simpa using hB2)
    obtain ⟨ys, hys⟩ : ∃ ys : List UInt8, ys = List.replicate zs.length 0 := ⟨_, rfl⟩
    have hyl : ys.length = zs.length := by rw [hys]; simp
    have HO : Own bv w3 (w_2.heap.size + 1) 5 (.slice (some ⟨w_2.heap.size + 1, 0, none⟩) zs.length zs.length) ys := by
      have := hown3
      simp only [Value.cells, Nat.mul_one, toList_madeCells_one] at this
      rw [hys]
      simpa [Own, bv] using this
    rw [← hyl] at HO ⊢
    have hr3 := HO.rdS
    clear hown3 hg3 hys HO hq hB2 r20
    refine (radd_any _ _ _ _ [0, 0, 0, 0, 0, 0, 0, 0, 0, 0, 0, 0, 80, 0, 0, 0, 0, 0, 0, 0] ys w3 r20' hr3 (by simp; omega)).mono ?_
    rintro e w_4 ⟨v4, rfl, hown, hbel⟩
    obtain ⟨L4, A4, c4, HL4, rfl, r4⟩ := hown.rdv
    replace hB := bnext (bnext hB hB3) hbel
    clear hown hbel hr3 r20' hB3
    go_wp2_with fail
    refine (H3 ys hyl L4 HL4.out _ _ _ r4).out.mono ?_
    rintro e w_5 ⟨rfl, hbel⟩
    replace hB := bnext hB hbel
    clear hbel r4
    go_wp2_with fail
    refine (lives09_any _).mono ?_
    rintro e wl ⟨rfl, hbel⟩
    replace hB := bnext (bnextA hB _) hbel
    go_wp2_with fail
    go_ret
    exact ⟨rfl, hB⟩
end Go.Proofs.Ytfejdfdgbfpgkaa
