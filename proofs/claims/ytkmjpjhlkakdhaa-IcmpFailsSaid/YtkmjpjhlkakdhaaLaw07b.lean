/- The walks of the statements on icmp.Failed and About, Ask, Answer and Ident. -/
import Derived.Test.YtkmjpjhlkakdhaaLaw07
namespace Go.Proofs.Ytkmjpjhlkakdhaa
open Go.RowKit

theorem iabout_b (ty co : UInt8) (re : UInt32) (A : Option Addr) (n c : Nat) (w : World) (b : Bool) (h : decide (ty.toNat = 3 ∨ ty.toNat = 11 ∨ ty.toNat = 12) = b) : Calls Try.prog 49 #[.agg #[.int .u8 (ty.toNat : Int), .int .u8 (co.toNat : Int), .int .u32 (re.toNat : Int), .slice A n c]] w fun e w' => e = .returned (.bool b) ∧ Below w.heap.size w w' := by
  have := iabout_any ty co re (.slice A n c) ⟨_, _, _, rfl⟩ w
  rwa [h] at this

set_option maxHeartbeats 8000000 in
theorem IcmpFails_walk (x0 x1 x2 : Int) (a3 : Option Addr) (len3 cap3 : Nat) (z3 : List Int) (y0 y1 y2 : Int) (a4 : Option Addr) (len4 cap4 : Nat) (z4 : List Int) (w : World) (w0 : (Lit.int .u8 x0).wf = true) (w1 : (Lit.int .u8 x1).wf = true) (w2 : (Lit.int .u32 x2).wf = true) (w3 : InRow .u8 w a3 len3 cap3 z3) (v0 : (Lit.int .u8 y0).wf = true) (v1 : (Lit.int .u8 y1).wf = true) (v2 : (Lit.int .u32 y2).wf = true) (_v3 : InRow .u8 w a4 len4 cap4 z4) :
    Calls Try.prog 13 #[.int .u8 x0, .int .u8 x1, .int .u32 x2, .slice a3 len3 cap3, .agg #[.int .u8 y0, .int .u8 y1, .int .u32 y2, .slice a4 len4 cap4]] w fun e w' => e = .returned (.bool true) ∧ Below w.heap.size w w' := by
  obtain ⟨ty, rfl⟩ := u8_of w0
  obtain ⟨co, rfl⟩ := u8_of w1
  obtain ⟨re, rfl⟩ := u32_of w2
  obtain ⟨my, rfl⟩ := u8_of v0
  obtain ⟨mc, rfl⟩ := u8_of v1
  obtain ⟨mr, rfl⟩ := u32_of v2
  obtain ⟨xs, hxl, ha, hlc, hcc, hm⟩ := few_len w3 200
  clear w0 w1 w2 w3 v0 v1 v2 _v3
  have HFa : ∀ W, Hid (Calls Try.prog 14 #[.slice a3 len3 cap3, .int .i64 200] W fun e w' => e = .returned (.slice a3 xs.length cap3) ∧ W = w') := by
    intro W
    have := few_le a3 len3 cap3 200 W hlc hcc (by omega)
    rw [hm.out] at this
    exact this
  clear hlc hcc hm
  go_enter Try.func13, Try.ntmps13
  go_wp2_with fail
  refine (HFa _).out.mono ?_
  rintro e w_1 ⟨rfl, rfl⟩
  go_wp2_with fail
  refine (ifailed_any ty co re a3 cap3 xs _ (ha.nextA _) (by omega)).mono ?_
  rintro e w_2 ⟨L2, A2, c2, rfl, HL2, r2, hbel⟩
  have hM := blk4 rfl hbel
  have hlt : w.heap.size < w_2.heap.size := by have := hbel.size; simp at this; omega
  have hB := bnext (bnextA (Below.refl w.heap.size w) _) hbel
  replace ha := (ha.nextA _).next hbel
  clear hbel
  go_wp2_with fail
  refine (few_rd (ha.nextA _) 28 (by omega)).mono ?_
  rintro e w_3 ⟨rfl, rfl⟩
  have h28 := ha.take 28
  obtain ⟨ys, hys⟩ : ∃ ys, xs.take 28 = ys := ⟨_, rfl⟩
  rw [hys] at h28 HL2 ⊢
  clear hys ha HFa
  go_wp2_with fail
  have c1 := blk4 (g := w_2.heap.size) rfl (bnextA (Below.refl (w_2.alloc (.cells #[.int .u8 (ty.toNat : Int), .int .u8 (co.toNat : Int), .int .u32 (re.toNat : Int), .slice A2 L2.length c2] 70)).heap.size _) (.cells #[.int .u8 (ty.toNat : Int), .int .u8 (co.toNat : Int), .int .u32 (re.toNat : Int), .slice a3 ys.length cap3] 70))
  have c2' := blk4 (w0 := w_2.alloc (.cells #[.int .u8 (ty.toNat : Int), .int .u8 (co.toNat : Int), .int .u32 (re.toNat : Int), .slice A2 L2.length c2] 70)) (g := w_2.heap.size + 1) (by simp) (Below.refl (w_2.alloc (.cells #[.int .u8 (ty.toNat : Int), .int .u8 (co.toNat : Int), .int .u32 (re.toNat : Int), .slice A2 L2.length c2] 70) |>.alloc (.cells #[.int .u8 (ty.toNat : Int), .int .u8 (co.toNat : Int), .int .u32 (re.toNat : Int), .slice a3 ys.length cap3] 70)).heap.size _)
  have c0 := carry4 ⟨hM.1, hM.2.1, hM.2.2.1, hM.2.2.2.1⟩ hlt (bnextA (bnextA (Below.refl w_2.heap.size w_2) (.cells #[.int .u8 (ty.toNat : Int), .int .u8 (co.toNat : Int), .int .u32 (re.toNat : Int), .slice A2 L2.length c2] 70)) (.cells #[.int .u8 (ty.toNat : Int), .int .u8 (co.toNat : Int), .int .u32 (re.toNat : Int), .slice a3 ys.length cap3] 70))
  have hBV := bnextA (bnextA hB (.cells #[.int .u8 (ty.toNat : Int), .int .u8 (co.toNat : Int), .int .u32 (re.toNat : Int), .slice A2 L2.length c2] 70)) (.cells #[.int .u8 (ty.toNat : Int), .int .u8 (co.toNat : Int), .int .u32 (re.toNat : Int), .slice a3 ys.length cap3] 70)
  replace r2 := (r2.nextA (.cells #[.int .u8 (ty.toNat : Int), .int .u8 (co.toNat : Int), .int .u32 (re.toNat : Int), .slice A2 L2.length c2] 70)).nextA (.cells #[.int .u8 (ty.toNat : Int), .int .u8 (co.toNat : Int), .int .u32 (re.toNat : Int), .slice a3 ys.length cap3] 70)
  replace h28 := (h28.nextA (.cells #[.int .u8 (ty.toNat : Int), .int .u8 (co.toNat : Int), .int .u32 (re.toNat : Int), .slice A2 L2.length c2] 70)).nextA (.cells #[.int .u8 (ty.toNat : Int), .int .u8 (co.toNat : Int), .int .u32 (re.toNat : Int), .slice a3 ys.length cap3] 70)
  have hg1 : w_2.heap.size < ((w_2.alloc (.cells #[.int .u8 (ty.toNat : Int), .int .u8 (co.toNat : Int), .int .u32 (re.toNat : Int), .slice A2 L2.length c2] 70)).alloc (.cells #[.int .u8 (ty.toNat : Int), .int .u8 (co.toNat : Int), .int .u32 (re.toNat : Int), .slice a3 ys.length cap3] 70)).heap.size := by simp; omega
  have hg2 : w_2.heap.size + 1 < ((w_2.alloc (.cells #[.int .u8 (ty.toNat : Int), .int .u8 (co.toNat : Int), .int .u32 (re.toNat : Int), .slice A2 L2.length c2] 70)).alloc (.cells #[.int .u8 (ty.toNat : Int), .int .u8 (co.toNat : Int), .int .u32 (re.toNat : Int), .slice a3 ys.length cap3] 70)).heap.size := by simp
  have hg0 : w.heap.size < ((w_2.alloc (.cells #[.int .u8 (ty.toNat : Int), .int .u8 (co.toNat : Int), .int .u32 (re.toNat : Int), .slice A2 L2.length c2] 70)).alloc (.cells #[.int .u8 (ty.toNat : Int), .int .u8 (co.toNat : Int), .int .u32 (re.toNat : Int), .slice a3 ys.length cap3] 70)).heap.size := by simp; omega
  generalize ((w_2.alloc (.cells #[.int .u8 (ty.toNat : Int), .int .u8 (co.toNat : Int), .int .u32 (re.toNat : Int), .slice A2 L2.length c2] 70)).alloc (.cells #[.int .u8 (ty.toNat : Int), .int .u8 (co.toNat : Int), .int .u32 (re.toNat : Int), .slice a3 ys.length cap3] 70)) = V at c1 c2' c0 hBV r2 h28 hg1 hg2 hg0 ⊢
  have HS : ∀ W, Below V.heap.size V W → ((W.cell? ⟨w_2.heap.size, 0, none⟩ = some (.int .u8 (ty.toNat : Int)) ∧ W.cell? ⟨w_2.heap.size, 1, none⟩ = some (.int .u8 (co.toNat : Int)) ∧ W.cell? ⟨w_2.heap.size, 2, none⟩ = some (.int .u32 (re.toNat : Int)) ∧ W.cell? ⟨w_2.heap.size, 3, none⟩ = some (.slice A2 L2.length c2)) ∧ (W.cell? ⟨w_2.heap.size + 1, 0, none⟩ = some (.int .u8 (ty.toNat : Int)) ∧ W.cell? ⟨w_2.heap.size + 1, 1, none⟩ = some (.int .u8 (co.toNat : Int)) ∧ W.cell? ⟨w_2.heap.size + 1, 2, none⟩ = some (.int .u32 (re.toNat : Int)) ∧ W.cell? ⟨w_2.heap.size + 1, 3, none⟩ = some (.slice a3 ys.length cap3)) ∧ (W.cell? ⟨w.heap.size, 0, none⟩ = some (.int .u8 (my.toNat : Int)) ∧ W.cell? ⟨w.heap.size, 1, none⟩ = some (.int .u8 (mc.toNat : Int)) ∧ W.cell? ⟨w.heap.size, 2, none⟩ = some (.int .u32 (mr.toNat : Int)) ∧ W.cell? ⟨w.heap.size, 3, none⟩ = some (.slice a4 len4 cap4)) ∧ Below V.heap.size V W) := by
    intro W h
    exact ⟨carry4 ⟨c1.1, c1.2.1, c1.2.2.1, c1.2.2.2.1⟩ hg1 h, carry4 ⟨c2'.1, c2'.2.1, c2'.2.2.1, c2'.2.2.2.1⟩ hg2 h, carry4 c0 hg0 h, h⟩
  have HSAME := Lib.hid (isame_eq ty co re A2 a3 c2 cap3 L2 ys V.drew r2.drew h28.drew HL2.out)
  clear c1 c2' c0 r2 h28 hg1 hg2 hg0 hM hlt hB
  by_cases h3 : my.toNat = 3
  · have k3 : ((my.toNat : Int) == 3) = true := by rw [h3]; rfl
    have HAB := fun W => Lib.hid (iabout_b my mc mr a4 len4 cap4 W true (by simp [h3]))
    clear h3
    obtain ⟨⟨m0, m1, m2, m3⟩, ⟨n0, n1, n2, n3⟩, ⟨o0, o1, o2, o3⟩, -⟩ := HS V (Below.refl _ _)
    first | (go_region_with (first
        | (go_at_call 40; (with_reducible refine HSAME.out.mono ?_); rintro e w_4 ⟨rfl, hbel⟩; have hq : Below V.heap.size V w_4 := Below.undrew hbel; obtain ⟨⟨m0, m1, m2, m3⟩, ⟨n0, n1, n2, n3⟩, ⟨o0, o1, o2, o3⟩, -⟩ := HS _ hq)
        | (go_at_call 49; (with_reducible refine (HAB _).out.mono ?_); rintro e w_5 ⟨rfl, hbel⟩; have hq2 := bnext hq hbel; obtain ⟨⟨m0, m1, m2, m3⟩, ⟨n0, n1, n2, n3⟩, ⟨o0, o1, o2, o3⟩, -⟩ := HS _ hq2)
        | (go_at_call 41; (with_reducible refine (lives07_any _).mono ?_); rintro e w_6 ⟨rfl, hbel⟩; have hq3 := bnext hq2 hbel)
        | fail)) | fail
    all_goals go_wp2_with fail
    all_goals go_ret
    all_goals exact ⟨rfl, bnext hBV hq3⟩
  · have k3 : ((my.toNat : Int) == 3) = false := by simp; omega
    by_cases h11 : my.toNat = 11
    · have k11 : ((my.toNat : Int) == 11) = true := by rw [h11]; rfl
      have HAB := fun W => Lib.hid (iabout_b my mc mr a4 len4 cap4 W true (by simp [h11]))
      clear h3 h11
      obtain ⟨⟨m0, m1, m2, m3⟩, ⟨n0, n1, n2, n3⟩, ⟨o0, o1, o2, o3⟩, -⟩ := HS V (Below.refl _ _)
      first | (go_region_with (first
          | (go_at_call 40; (with_reducible refine HSAME.out.mono ?_); rintro e w_4 ⟨rfl, hbel⟩; have hq : Below V.heap.size V w_4 := Below.undrew hbel; obtain ⟨⟨m0, m1, m2, m3⟩, ⟨n0, n1, n2, n3⟩, ⟨o0, o1, o2, o3⟩, -⟩ := HS _ hq)
          | (go_at_call 49; (with_reducible refine (HAB _).out.mono ?_); rintro e w_5 ⟨rfl, hbel⟩; have hq2 := bnext hq hbel; obtain ⟨⟨m0, m1, m2, m3⟩, ⟨n0, n1, n2, n3⟩, ⟨o0, o1, o2, o3⟩, -⟩ := HS _ hq2)
          | (go_at_call 41; (with_reducible refine (lives07_any _).mono ?_); rintro e w_6 ⟨rfl, hbel⟩; have hq3 := bnext hq2 hbel)
          | fail)) | fail
      all_goals go_wp2_with fail
      all_goals go_ret
      all_goals exact ⟨rfl, bnext hBV hq3⟩
    · have k11 : ((my.toNat : Int) == 11) = false := by simp; omega
      by_cases h12 : my.toNat = 12
      · have k12 : ((my.toNat : Int) == 12) = true := by rw [h12]; rfl
        have HAB := fun W => Lib.hid (iabout_b my mc mr a4 len4 cap4 W true (by simp [h12]))
        clear h3 h11 h12
        first | (go_region_held3 (fun W => (W.cell? ⟨w_2.heap.size, 0, none⟩ = some (.int .u8 (ty.toNat : Int)) ∧ W.cell? ⟨w_2.heap.size, 1, none⟩ = some (.int .u8 (co.toNat : Int)) ∧ W.cell? ⟨w_2.heap.size, 2, none⟩ = some (.int .u32 (re.toNat : Int)) ∧ W.cell? ⟨w_2.heap.size, 3, none⟩ = some (.slice A2 L2.length c2)) ∧ (W.cell? ⟨w_2.heap.size + 1, 0, none⟩ = some (.int .u8 (ty.toNat : Int)) ∧ W.cell? ⟨w_2.heap.size + 1, 1, none⟩ = some (.int .u8 (co.toNat : Int)) ∧ W.cell? ⟨w_2.heap.size + 1, 2, none⟩ = some (.int .u32 (re.toNat : Int)) ∧ W.cell? ⟨w_2.heap.size + 1, 3, none⟩ = some (.slice a3 ys.length cap3)) ∧ (W.cell? ⟨w.heap.size, 0, none⟩ = some (.int .u8 (my.toNat : Int)) ∧ W.cell? ⟨w.heap.size, 1, none⟩ = some (.int .u8 (mc.toNat : Int)) ∧ W.cell? ⟨w.heap.size, 2, none⟩ = some (.int .u32 (mr.toNat : Int)) ∧ W.cell? ⟨w.heap.size, 3, none⟩ = some (.slice a4 len4 cap4)) ∧ Below V.heap.size V W)
          (first
            | exact HS _ hq3
            | exact HS _ hq2
            | exact HS _ hq
            | exact HS _ (Below.refl _ _).drew)
          (first
            | (go_at_call 40; go_split_ands; (with_reducible refine HSAME.out.mono ?_); rintro e w_4 ⟨rfl, hbel⟩; have hq : Below V.heap.size V w_4 := Below.undrew hbel)
            | (go_at_call 49; go_split_ands; (with_reducible refine (HAB _).out.mono ?_); rintro e w_5 ⟨rfl, hbel⟩; have hq2 := bnext hq hbel)
            | (go_at_call 41; go_split_ands; (with_reducible refine (lives07_any _).mono ?_); rintro e w_6 ⟨rfl, hbel⟩; have hq3 := bnext hq2 hbel)
            | fail)) | fail
        go_wp2_with fail
        go_ret
        exact ⟨rfl, bnext hBV hq3⟩
      · have k12 : ((my.toNat : Int) == 12) = false := by simp; omega
        have HAB := fun W => Lib.hid (iabout_b my mc mr a4 len4 cap4 W false (by simp [h3, h11, h12]))
        clear h3 h11 h12
        first | (go_region_held3 (fun W => (W.cell? ⟨w_2.heap.size, 0, none⟩ = some (.int .u8 (ty.toNat : Int)) ∧ W.cell? ⟨w_2.heap.size, 1, none⟩ = some (.int .u8 (co.toNat : Int)) ∧ W.cell? ⟨w_2.heap.size, 2, none⟩ = some (.int .u32 (re.toNat : Int)) ∧ W.cell? ⟨w_2.heap.size, 3, none⟩ = some (.slice A2 L2.length c2)) ∧ (W.cell? ⟨w_2.heap.size + 1, 0, none⟩ = some (.int .u8 (ty.toNat : Int)) ∧ W.cell? ⟨w_2.heap.size + 1, 1, none⟩ = some (.int .u8 (co.toNat : Int)) ∧ W.cell? ⟨w_2.heap.size + 1, 2, none⟩ = some (.int .u32 (re.toNat : Int)) ∧ W.cell? ⟨w_2.heap.size + 1, 3, none⟩ = some (.slice a3 ys.length cap3)) ∧ (W.cell? ⟨w.heap.size, 0, none⟩ = some (.int .u8 (my.toNat : Int)) ∧ W.cell? ⟨w.heap.size, 1, none⟩ = some (.int .u8 (mc.toNat : Int)) ∧ W.cell? ⟨w.heap.size, 2, none⟩ = some (.int .u32 (mr.toNat : Int)) ∧ W.cell? ⟨w.heap.size, 3, none⟩ = some (.slice a4 len4 cap4)) ∧ Below V.heap.size V W)
          (first
            | exact HS _ hq3
            | exact HS _ hq2
            | exact HS _ hq
            | exact HS _ (Below.refl _ _).drew)
          (first
            | (go_at_call 40; go_split_ands; (with_reducible refine HSAME.out.mono ?_); rintro e w_4 ⟨rfl, hbel⟩; have hq : Below V.heap.size V w_4 := Below.undrew hbel)
            | (go_at_call 49; go_split_ands; (with_reducible refine (HAB _).out.mono ?_); rintro e w_5 ⟨rfl, hbel⟩; have hq2 := bnext hq hbel)
            | (go_at_call 41; go_split_ands; (with_reducible refine (lives07_any _).mono ?_); rintro e w_6 ⟨rfl, hbel⟩; have hq3 := bnext hq2 hbel)
            | fail)) | fail
        go_wp2_with fail
        go_ret
        exact ⟨rfl, bnext hBV hq3⟩
end Go.Proofs.Ytkmjpjhlkakdhaa
