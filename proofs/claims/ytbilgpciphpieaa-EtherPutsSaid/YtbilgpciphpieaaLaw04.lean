/- The walks of the statements on package ether. -/
import Derived.Test.YtbilgpciphpieaaEth5
namespace Go.Proofs.Ytbilgpciphpieaa
open Go.RowKit

theorem be16_beN (a b : UInt8) (t : UInt16) (h : beN [a, b] = t.toNat) : be16 t = [a, b] := by
  rw [beN_two] at h
  have ha := a.toNat_lt
  have hb := b.toNat_lt
  simp only [be16, List.cons.injEq, and_true]
  exact ⟨UInt8.toNat_inj.mp (by simp; omega), UInt8.toNat_inj.mp (by simp; omega)⟩
theorem frame_back (xs : List UInt8) (h14 : 14 ≤ xs.length) (t : UInt16) (hT : beN ((xs.drop 12).take 2) = t.toNat) (x0 x1 x2 x3 x4 x5 x6 x7 x8 x9 x10 x11 : UInt8) (hx : xs.take 12 = [x0, x1, x2, x3, x4, x5, x6, x7, x8, x9, x10, x11]) :
    [x0, x1, x2, x3, x4, x5] ++ ([x6, x7, x8, x9, x10, x11] ++ (be16 t ++ xs.drop 14)) = xs := by
  have h2 : be16 t = (xs.drop 12).take 2 := by
    rw [take_two xs 12 (by omega)] at hT ⊢
    exact be16_beN _ _ _ hT
  have h3 : xs.drop 14 = (xs.drop 12).drop 2 := by simp
  rw [h2, h3, List.take_append_drop]
  rw [show [x0, x1, x2, x3, x4, x5] ++ ([x6, x7, x8, x9, x10, x11] ++ xs.drop 12) = [x0, x1, x2, x3, x4, x5, x6, x7, x8, x9, x10, x11] ++ xs.drop 12 from rfl, ← hx, List.take_append_drop]

theorem list12 (l : List UInt8) (h : l.length = 12) : ∃ x0 x1 x2 x3 x4 x5 x6 x7 x8 x9 x10 x11, l = [x0, x1, x2, x3, x4, x5, x6, x7, x8, x9, x10, x11] := by
  match l, h with
  | [x0, x1, x2, x3, x4, x5, x6, x7, x8, x9, x10, x11], _ => exact ⟨x0, x1, x2, x3, x4, x5, x6, x7, x8, x9, x10, x11, rfl⟩
theorem t16 (xs : List UInt8) (h14 : 14 ≤ xs.length) : ∃ t : UInt16, beN ((xs.drop 12).take 2) = t.toNat := by
  rw [take_two xs 12 (by omega), beN_two]
  have h1 := (xs[12]).toNat_lt
  have h2 := (xs[12 + 1]).toNat_lt
  refine ⟨UInt16.ofNat _, (UInt16.toNat_ofNat_of_lt' ?_).symm⟩
  simp only [UInt16.size] at *
  omega

theorem lives04_any (w : World) : Calls Try.prog 32 #[] w fun e w' => e = .returned (.bool true) ∧ Below w.heap.size w w' := by
  have hp := fun (W : World) (A : Option Addr) (c : Nat) (hr : Rd bv W W.heap.size A c [1, 2, 3, 4, 5, 6, 2, 0, 0, 0, 0, 1, 8, 6, 9]) => Lib.hid (eparse_ok A c [1, 2, 3, 4, 5, 6, 2, 0, 0, 0, 0, 1, 8, 6, 9] W hr (by simp) (by simp) 2054 (by simp [beN]) (by omega) 1 2 3 4 5 6 2 0 0 0 0 1 rfl)
  go_enter Try.func32, Try.ntmps32
  go_wp2_with fail
  refine (hp _ _ _ (lit_at w _ [1, 2, 3, 4, 5, 6, 2, 0, 0, 0, 0, 1, 8, 6, 9] rfl _ rfl _ (by simp))).out.mono ?_
  rintro e w1 ⟨L1, A1, c1, rfl, HL1, hr1, hb1⟩
  have hl : L1.length = 1 := by rw [HL1.out]; rfl
  rw [hl]
  clear hp hl
  have hB := bnext (bnextA (Below.refl w.heap.size w) _) hb1
  go_wp2_with fail
  go_ret
  exact ⟨rfl, bnextA hB _⟩

theorem EtherParses_walk (a0 : Option Addr) (len0 cap0 : Nat) (z0 : List Int) (w : World) (w0 : InRow .u8 w a0 len0 cap0 z0) :
    Calls Try.prog 7 #[.slice a0 len0 cap0] w fun e w' => e = .returned (.bool true) ∧ Below w.heap.size w w' := by
  obtain ⟨xs, hxl, ha, HFa⟩ := few_row w0 300 (by omega)
  clear w0
  by_cases h14 : xs.length < 14
  · go_enter Try.func7, Try.ntmps7
    have hB := Below.refl w.heap.size w
    go_wp2_with fail
    refine (HFa.out).mono ?_
    rintro e w_1 ⟨rfl, rfl⟩
    go_wp2_with fail
    refine (eparse_short _ _ xs _ ha h14).mono ?_
    rintro e w_2 ⟨rfl, hbel⟩
    replace hB := bnext hB hbel
    replace ha := ha.next hbel
    clear hbel
    go_wp2_with fail
    refine (reparse_short _ _ xs _ (ha.nextA _) h14).mono ?_
    rintro e w_3 ⟨rfl, hbel⟩
    have p0 := (blk rfl hbel 0).1
    have p1 := (blk rfl hbel 1).1
    have p2 := (blk rfl hbel 2).1
    have p3 := (blk rfl hbel 3).1
    have p4 := (blk rfl hbel 4).1
    have p5 := (blk rfl hbel 5).1
    have p6 := (blk rfl hbel 6).1
    have p7 := (blk rfl hbel 7).1
    have p8 := (blk rfl hbel 8).1
    have p9 := (blk rfl hbel 9).1
    have p10 := (blk rfl hbel 10).1
    have p11 := (blk rfl hbel 11).1
    have p12 := (blk rfl hbel 12).1
    have p13 := (blk rfl hbel 13).1
    simp at p0 p1 p2 p3 p4 p5 p6 p7 p8 p9 p10 p11 p12 p13
    have hlt : w_2.heap.size < w_3.heap.size := by have := hbel.size; simp at this; omega
    replace hB := bnext (bnextA hB _) hbel
    clear hbel ha
    go_wp2_with fail
    refine (esame_zero _).mono ?_
    rintro e w_4 ⟨rfl, hbel⟩
    replace hB := bnext (bnextA hB _) hbel
    clear hbel p0 p1 p2 p3 p4 p5 p6 p7 p8 p9 p10 p11 p12 p13 hlt
    go_wp2_with fail
    go_wp2_with (go_at_call 32; refine (lives04_any _).mono ?_; rintro e wl ⟨rfl, hbel⟩)
    go_ret
    exact ⟨rfl, bnext hB hbel⟩
  · have h14' : 14 ≤ xs.length := by omega
    obtain ⟨x0, x1, x2, x3, x4, x5, x6, x7, x8, x9, x10, x11, hx⟩ := list12 (xs.take 12) (by simp; omega)
    obtain ⟨t, hT⟩ := t16 xs h14'
    have HX := Lib.hid hx
    have HT := Lib.hid hT
    clear hx hT
    by_cases h15 : t.toNat < 1536
    · go_enter Try.func7, Try.ntmps7
      have hB := Below.refl w.heap.size w
      go_wp2_with fail
      refine (HFa.out).mono ?_
      rintro e w_2 ⟨rfl, rfl⟩
      go_wp2_with fail
      refine (eparse_form _ _ xs _ ha h14' (by omega) _ HT.out h15 x0 x1 x2 x3 x4 x5 x6 x7 x8 x9 x10 x11 HX.out).mono ?_
      rintro e w_2 ⟨rfl, hbel⟩
      replace hB := bnext hB hbel
      replace ha := ha.next hbel
      clear hbel
      go_wp2_with fail
      refine (reparse_form _ _ xs _ (ha.nextA _) h14' _ HT.out h15).mono ?_
      rintro e w_3 ⟨rfl, hbel⟩
      have p0 := (blk rfl hbel 0).1
      have p1 := (blk rfl hbel 1).1
      have p2 := (blk rfl hbel 2).1
      have p3 := (blk rfl hbel 3).1
      have p4 := (blk rfl hbel 4).1
      have p5 := (blk rfl hbel 5).1
      have p6 := (blk rfl hbel 6).1
      have p7 := (blk rfl hbel 7).1
      have p8 := (blk rfl hbel 8).1
      have p9 := (blk rfl hbel 9).1
      have p10 := (blk rfl hbel 10).1
      have p11 := (blk rfl hbel 11).1
      have p12 := (blk rfl hbel 12).1
      have p13 := (blk rfl hbel 13).1
      simp at p0 p1 p2 p3 p4 p5 p6 p7 p8 p9 p10 p11 p12 p13
      have hlt : w_2.heap.size < w_3.heap.size := by have := hbel.size; simp at this; omega
      replace hB := bnext (bnextA hB _) hbel
      clear hbel ha
      go_wp2_with fail
      refine (esame_zero _).mono ?_
      rintro e w_4 ⟨rfl, hbel⟩
      replace hB := bnext (bnextA hB _) hbel
      clear hbel p0 p1 p2 p3 p4 p5 p6 p7 p8 p9 p10 p11 p12 p13 hlt
      go_wp2_with fail
      go_wp2_with (go_at_call 32; refine (lives04_any _).mono ?_; rintro e wl ⟨rfl, hbel⟩)
      go_ret
      exact ⟨rfl, bnext hB hbel⟩
    · have h15' : 1536 ≤ t.toNat := by omega
      have hPut := fun (W : World) (A : Option Addr) (c : Nat) (L : List UInt8) (h : Rd bv W W.heap.size A c L) (hl : L.length ≤ 1000000) => Lib.hid (eput_any x0 x1 x2 x3 x4 x5 x6 x7 x8 x9 x10 x11 t A c L W h hl)
      have hBack := Lib.hid (frame_back xs h14' t HT.out x0 x1 x2 x3 x4 x5 x6 x7 x8 x9 x10 x11 HX.out)
      go_enter Try.func7, Try.ntmps7
      have hB := Below.refl w.heap.size w
      go_wp2_with fail
      refine (HFa.out).mono ?_
      rintro e w_3 ⟨rfl, rfl⟩
      go_wp2_with fail
      refine (eparse_ok _ _ xs _ ha h14' (by omega) _ HT.out h15' x0 x1 x2 x3 x4 x5 x6 x7 x8 x9 x10 x11 HX.out).mono ?_
      rintro e w_2 ⟨L2, A2, c2, rfl, HL2, r2, hbel⟩
      replace hB := bnext hB hbel
      replace ha := ha.next hbel
      clear hbel
      go_wp2_with fail
      refine (reparse_ok _ _ xs _ (ha.nextA _) h14' (by omega) _ HT.out h15' x0 x1 x2 x3 x4 x5 x6 x7 x8 x9 x10 x11 HX.out).mono ?_
      rintro e w_3 ⟨L3, A3, c3, rfl, HL3, r3, hbel⟩
      replace r2 := (r2.nextA _).next hbel
      replace ha := (ha.nextA _).next hbel
      have p0 := (blk rfl hbel 0).1
      have p1 := (blk rfl hbel 1).1
      have p2 := (blk rfl hbel 2).1
      have p3 := (blk rfl hbel 3).1
      have p4 := (blk rfl hbel 4).1
      have p5 := (blk rfl hbel 5).1
      have p6 := (blk rfl hbel 6).1
      have p7 := (blk rfl hbel 7).1
      have p8 := (blk rfl hbel 8).1
      have p9 := (blk rfl hbel 9).1
      have p10 := (blk rfl hbel 10).1
      have p11 := (blk rfl hbel 11).1
      have p12 := (blk rfl hbel 12).1
      have p13 := (blk rfl hbel 13).1
      simp at p0 p1 p2 p3 p4 p5 p6 p7 p8 p9 p10 p11 p12 p13
      have hlt : w_2.heap.size < w_3.heap.size := by have := hbel.size; simp at this; omega
      replace hB := bnext (bnextA hB _) hbel
      clear hbel HX HT
      go_wp2_with fail
      refine (esame_eq x0 x1 x2 x3 x4 x5 x6 x7 x8 x9 x10 x11 t.toNat _ _ _ _ L2 L3 _ (r2.nextA _) (r3.nextA _) (by rw [HL2.out, HL3.out])).mono ?_
      rintro e w_4 ⟨rfl, hbel⟩
      have hD := bnext (bnextA (Below.refl w_3.heap.size w_3) _) hbel
      replace hB := bnext (bnextA hB _) hbel
      have q0 := (hD.cell hlt).trans p0
      have q1 := (hD.cell hlt).trans p1
      have q2 := (hD.cell hlt).trans p2
      have q3 := (hD.cell hlt).trans p3
      have q4 := (hD.cell hlt).trans p4
      have q5 := (hD.cell hlt).trans p5
      have q6 := (hD.cell hlt).trans p6
      have q7 := (hD.cell hlt).trans p7
      have q8 := (hD.cell hlt).trans p8
      have q9 := (hD.cell hlt).trans p9
      have q10 := (hD.cell hlt).trans p10
      have q11 := (hD.cell hlt).trans p11
      have q12 := (hD.cell hlt).trans p12
      have q13 := (hD.cell hlt).trans p13
      replace r2 := (r2.nextA _).next hbel
      replace ha := (ha.nextA _).next hbel
      clear hbel p0 p1 p2 p3 p4 p5 p6 p7 p8 p9 p10 p11 p12 p13 hlt hD r3
      have hl2 : L2.length ≤ 1000000 := by rw [HL2.out]; simp; omega
      go_wp2_with fail
      refine (hPut _ _ _ L2 r2 hl2).out.mono ?_
      rintro e w_5 ⟨L5, A5, c5, rfl, HL5, r5, hbel⟩
      replace hB := bnext hB hbel
      replace ha := ha.next hbel
      clear hbel r2 q0 q1 q2 q3 q4 q5 q6 q7 q8 q9 q10 q11 q12 q13
      go_wp2_with fail
      refine (rsame_eq _ _ _ _ L5 xs _ _ r5 ha (by rw [HL5.out, HL2.out]; exact hBack.out)).mono ?_
      rintro e w_6 ⟨rfl, hbel⟩
      replace hB := bnext hB hbel.bel
      clear hbel r5 ha
      go_wp2_with fail
      go_wp2_with (go_at_call 32; refine (lives04_any _).mono ?_; rintro e wl ⟨rfl, hbel⟩)
      go_ret
      exact ⟨rfl, bnext hB hbel⟩
end Go.Proofs.Ytbilgpciphpieaa
