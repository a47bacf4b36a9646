/- The walk of the statement on icmp.Ask, Answer and Ident. -/
import Derived.Test.YtkmjpjhlkakdhaaLaw07
namespace Go.Proofs.Ytkmjpjhlkakdhaa
open Go.RowKit

theorem iask_re (id sq : UInt16) (RE : UInt32) (hRE : RE.toNat = id.toNat * 65536 + sq.toNat) (A : Option Addr) (c : Nat) (xs : List UInt8) (w : World) (hr : Rd bv w w.heap.size A c xs) (hl : xs.length ≤ 1000000) :
    Calls Try.prog 45 #[.int .u16 (id.toNat : Int), .int .u16 (sq.toNat : Int), .slice A xs.length c] w fun e w' => ∃ L A1 c1, e = .returned (.agg #[.int .u8 8, .int .u8 0, .int .u32 (RE.toNat : Int), .slice A1 L.length c1]) ∧ Hid (L = xs) ∧ Rd bv w' w'.heap.size A1 c1 L ∧ Below w.heap.size w w' := by
  rw [hRE]
  exact iask_any id sq A c xs w hr hl
theorem iident_re (id sq : UInt16) (RE : UInt32) (hRE : RE.toNat = id.toNat * 65536 + sq.toNat) (A : Option Addr) (n c : Nat) (w : World) :
    Calls Try.prog 47 #[.agg #[.int .u8 0, .int .u8 0, .int .u32 (RE.toNat : Int), .slice A n c]] w fun e w' => e = .returned (.tuple #[.int .u16 (id.toNat : Int), .int .u16 (sq.toNat : Int)]) ∧ Below w.heap.size w w' := by
  have h := iident_any 0 0 RE A n c w
  have h1 := id.toNat_lt
  have h2 := sq.toNat_lt
  rw [show RE.toNat / 65536 = id.toNat by omega, show RE.toNat % 65536 = sq.toNat by omega] at h
  exact h
theorem ianswer_re (RE : UInt32) (A : Option Addr) (c : Nat) (xs : List UInt8) (w : World) (hr : Rd bv w w.heap.size A c xs) (hl : xs.length ≤ 1000000) :
    Calls Try.prog 46 #[.agg #[.int .u8 8, .int .u8 0, .int .u32 (RE.toNat : Int), .slice A xs.length c]] w fun e w' => ∃ L A1 c1, e = .returned (.agg #[.int .u8 0, .int .u8 0, .int .u32 (RE.toNat : Int), .slice A1 L.length c1]) ∧ Hid (L = xs) ∧ Rd bv w' w'.heap.size A1 c1 L ∧ Below w.heap.size w w' :=
  ianswer_any 8 0 RE A c xs w hr hl
theorem isame_ask (RE : UInt32) (A1 A2 : Option Addr) (c1 c2 : Nat) (xs ys : List UInt8) (w : World) (h1 : Rd bv w w.heap.size A1 c1 xs) (h2 : Rd bv w w.heap.size A2 c2 ys) (he : xs = ys) :
    Calls Try.prog 40 #[.agg #[.int .u8 8, .int .u8 0, .int .u32 (RE.toNat : Int), .slice A1 xs.length c1], .agg #[.int .u8 8, .int .u8 0, .int .u32 (RE.toNat : Int), .slice A2 ys.length c2]] w fun e w' => e = .returned (.bool true) ∧ Below w.heap.size w w' :=
  isame_eq 8 0 RE A1 A2 c1 c2 xs ys w h1 h2 he
theorem isame_ans (co : UInt8) (RE : UInt32) (A1 A2 : Option Addr) (c1 c2 : Nat) (xs ys : List UInt8) (w : World) (h1 : Rd bv w w.heap.size A1 c1 xs) (h2 : Rd bv w w.heap.size A2 c2 ys) (he : xs = ys) :
    Calls Try.prog 40 #[.agg #[.int .u8 0, .int .u8 (co.toNat : Int), .int .u32 (RE.toNat : Int), .slice A1 xs.length c1], .agg #[.int .u8 0, .int .u8 (co.toNat : Int), .int .u32 (RE.toNat : Int), .slice A2 ys.length c2]] w fun e w' => e = .returned (.bool true) ∧ Below w.heap.size w w' :=
  isame_eq 0 co RE A1 A2 c1 c2 xs ys w h1 h2 he

set_option maxHeartbeats 2000000 in
theorem IcmpEchoes_walk (x0 x1 : Int) (a2 : Option Addr) (len2 cap2 : Nat) (z2 : List Int) (y0 y1 y2 : Int) (a4 : Option Addr) (len4 cap4 : Nat) (z4 : List Int) (w : World) (w0 : (Lit.int .u16 x0).wf = true) (w1 : (Lit.int .u16 x1).wf = true) (w2 : InRow .u8 w a2 len2 cap2 z2) (v0 : (Lit.int .u8 y0).wf = true) (v1 : (Lit.int .u8 y1).wf = true) (v2 : (Lit.int .u32 y2).wf = true) (v3 : InRow .u8 w a4 len4 cap4 z4) :
    Calls Try.prog 12 #[.int .u16 x0, .int .u16 x1, .slice a2 len2 cap2, .agg #[.int .u8 y0, .int .u8 y1, .int .u32 y2, .slice a4 len4 cap4]] w fun e w' => e = .returned (.bool true) ∧ Below w.heap.size w w' := by
  obtain ⟨id, rfl⟩ := u16_of w0
  obtain ⟨sq, rfl⟩ := u16_of w1
  obtain ⟨my, rfl⟩ := u8_of v0
  obtain ⟨mc, rfl⟩ := u8_of v1
  obtain ⟨mr, rfl⟩ := u32_of v2
  obtain ⟨xs, hxl, ha, hlc, hcc, hm⟩ := few_len w2 200
  obtain ⟨zs, hzl, hz, hlz, hcz, hmz⟩ := few_len v3 200
  clear w0 w1 w2 v0 v1 v2 v3
  have h1 := id.toNat_lt
  have h2 := sq.toNat_lt
  obtain ⟨RE, hRE⟩ : ∃ RE : UInt32, RE.toNat = id.toNat * 65536 + sq.toNat := ⟨UInt32.ofNat (id.toNat * 65536 + sq.toNat), by simp; omega⟩
  have HRE := Lib.hid hRE
  have hre : (id.toNat : Int) * 65536 + (sq.toNat : Int) = (RE.toNat : Int) := by omega
  clear hRE
  have HFa : ∀ W, Hid (Calls Try.prog 14 #[.slice a2 len2 cap2, .int .i64 200] W fun e w' => e = .returned (.slice a2 xs.length cap2) ∧ W = w') := by
    intro W
    have := few_le a2 len2 cap2 200 W hlc hcc (by omega)
    rw [hm.out] at this
    exact this
  have HFm := fun W => Lib.hid (ifew_any my mc mr a4 len4 cap4 zs.length W hlz hcz hmz)
  clear hlc hcc hm hlz hcz hmz
  have HK : ∀ w_1, Below (w.alloc (.cells #[.int .u8 (my.toNat : Int), .int .u8 (mc.toNat : Int), .int .u32 (mr.toNat : Int), .slice a4 len4 cap4] 70)).heap.size (w.alloc (.cells #[.int .u8 (my.toNat : Int), .int .u8 (mc.toNat : Int), .int .u32 (mr.toNat : Int), .slice a4 len4 cap4] 70)) w_1 → Hid (w_1.cell? ⟨w.heap.size, 0, none⟩ = some (.int .u8 (my.toNat : Int)) ∧ w_1.cell? ⟨w.heap.size, 1, none⟩ = some (.int .u8 (mc.toNat : Int)) ∧ w_1.cell? ⟨w.heap.size, 2, none⟩ = some (.int .u32 (mr.toNat : Int)) ∧ w_1.cell? ⟨w.heap.size, 3, none⟩ = some (.slice a4 len4 cap4) ∧
      w_1.frozen? ⟨w.heap.size, 0, none⟩ = false ∧ w_1.frozen? ⟨w.heap.size, 1, none⟩ = false ∧ w_1.frozen? ⟨w.heap.size, 2, none⟩ = false ∧ w_1.frozen? ⟨w.heap.size, 3, none⟩ = false) := fun w_1 h => blk4 rfl h
  go_enter Try.func12, Try.ntmps12
  go_wp2_with fail
  first | (go_region_with (first
      | (go_at_call 14; (with_reducible refine (HFa _).out.mono ?_); rintro e w_f ⟨rfl, rfl⟩)
      | (go_at_call 42; (with_reducible refine (HFm _).out.mono ?_); rintro e w_1 ⟨rfl, hbel⟩; have hq : Below (w.alloc (.cells #[.int .u8 (my.toNat : Int), .int .u8 (mc.toNat : Int), .int .u32 (mr.toNat : Int), .slice a4 len4 cap4] 70)).heap.size (w.alloc (.cells #[.int .u8 (my.toNat : Int), .int .u8 (mc.toNat : Int), .int .u32 (mr.toNat : Int), .slice a4 len4 cap4] 70)) w_1 := Below.undrew hbel; obtain ⟨p0, p1, p2, p3, q0, q1, q2, q3⟩ := (HK _ hq).out)
      | fail)) | fail
  all_goals
    have hB1 := bnext (bnextA (Below.refl w.heap.size w) _) hq
    have hS := set4_cells p0 p1 p2 p3 (.int .u8 (my.toNat : Int)) (.int .u8 (mc.toNat : Int)) (.int .u32 (mr.toNat : Int)) (.slice a4 zs.length cap4)
    have hB := bset4 hB1 (Nat.le_refl _) (.int .u8 (my.toNat : Int)) (.int .u8 (mc.toNat : Int)) (.int .u32 (mr.toNat : Int)) (.slice a4 zs.length cap4)
    have hsz : w.heap.size < ((((w_1.setCell ⟨w.heap.size, 0, none⟩ (.int .u8 (my.toNat : Int))).setCell ⟨w.heap.size, 1, none⟩ (.int .u8 (mc.toNat : Int))).setCell ⟨w.heap.size, 2, none⟩ (.int .u32 (mr.toNat : Int))).setCell ⟨w.heap.size, 3, none⟩ (.slice a4 zs.length cap4)).heap.size := by have := hq.size; simp at this; simp; omega
    clear hq hbel hB1 p0 p1 p2 p3 q0 q1 q2 q3 HK
    generalize ((((w_1.setCell ⟨w.heap.size, 0, none⟩ (.int .u8 (my.toNat : Int))).setCell ⟨w.heap.size, 1, none⟩ (.int .u8 (mc.toNat : Int))).setCell ⟨w.heap.size, 2, none⟩ (.int .u32 (mr.toNat : Int))).setCell ⟨w.heap.size, 3, none⟩ (.slice a4 zs.length cap4)) = V at hS hB hsz ⊢
    replace ha := ha.next hB
    replace hz := hz.next hB
    have HS := Lib.hid hS
    clear hS
    go_wp2_with fail
    refine (iask_re id sq RE HRE.out a2 cap2 xs _ ha (by omega)).mono ?_
    rintro e w_2 ⟨L2, A2, c2, rfl, HL2, r2, hbel⟩
    replace HS := Lib.hid (carry4 HS.out hsz hbel)
    replace hsz := Nat.lt_of_lt_of_le hsz hbel.size
    replace hB := bnext hB hbel
    replace ha := ha.next hbel
    replace hz := hz.next hbel
    clear hbel
    go_wp2_with fail
    refine (isame_ask RE _ _ _ _ L2 xs _ (r2.nextA _) (ha.nextA _) HL2.out).mono ?_
    rintro e w_3 ⟨rfl, hbel⟩
    obtain ⟨p0, p1, p2, p3, -, -, -, -⟩ := blk4 rfl hbel
    have hlt : w_2.heap.size < w_3.heap.size := by have := hbel.size; simp at this; omega
    replace HS := Lib.hid (carry4 HS.out hsz ((bnextA (Below.refl w_2.heap.size w_2) _).trans (hbel.mono (by simp))))
    replace hsz := Nat.lt_trans hsz hlt
    replace hB := bnext (bnextA hB _) hbel
    replace ha := (ha.nextA _).next hbel
    replace hz := (hz.nextA _).next hbel
    replace r2 := (r2.nextA _).next hbel
    clear hbel
    go_wp2_with fail
    refine (ianswer_re RE A2 c2 L2 _ r2 (by rw [HL2.out]; omega)).mono ?_
    rintro e w_4 ⟨L4, A4, c4, rfl, HL4, r4, hbel⟩
    replace HS := Lib.hid (carry4 HS.out hsz hbel)
    replace hsz := Nat.lt_of_lt_of_le hsz hbel.size
    replace hB := bnext hB hbel
    replace ha := ha.next hbel
    replace hz := hz.next hbel
    clear hbel p0 p1 p2 p3 hlt r2
    go_wp2_with fail
    refine (iident_re id sq RE HRE.out A4 L4.length c4 _).mono ?_
    rintro e w_5 ⟨rfl, hbel⟩
    have hp := blk4 rfl hbel
    have HP := Lib.hid (show _ ∧ _ ∧ _ ∧ _ from ⟨hp.1, hp.2.1, hp.2.2.1, hp.2.2.2.1⟩)
    have hlt : w_4.heap.size < w_5.heap.size := by have := hbel.size; simp at this; omega
    replace HS := Lib.hid (carry4 HS.out hsz ((bnextA (Below.refl w_4.heap.size w_4) _).trans (hbel.mono (by simp))))
    replace hsz := Nat.lt_trans hsz hlt
    replace hB := bnext (bnextA hB _) hbel
    replace ha := (ha.nextA _).next hbel
    replace hz := (hz.nextA _).next hbel
    replace r4 := (r4.nextA _).next hbel
    clear hbel hp
    obtain ⟨s0, s1, s2, s3⟩ := HS.out
    obtain ⟨Z, Y, hZ, hY, hZY, hi⟩ : ∃ Z Y : Nat, Z < 65536 ∧ Y < 65536 ∧ Z * 65536 + Y = mr.toNat ∧ Hid (Calls Try.prog 47 #[.agg #[.int .u8 (my.toNat : Int), .int .u8 (mc.toNat : Int), .int .u32 (mr.toNat : Int), .slice a4 zs.length cap4]] w_5 fun e w' => e = .returned (.tuple #[.int .u16 (Z : Int), .int .u16 (Y : Int)]) ∧ Below w_5.heap.size w_5 w') := by
      have hmr := mr.toNat_lt
      exact ⟨mr.toNat / 65536, mr.toNat % 65536, by omega, by omega, by omega, iident_any my mc mr a4 zs.length cap4 w_5⟩
    go_wp2_with fail
    refine hi.out.mono ?_
    clear hi
    rintro e w_6 ⟨rfl, hbel⟩
    replace HS := Lib.hid (carry4 HS.out hsz hbel)
    replace HP := Lib.hid (carry4 HP.out hlt hbel)
    replace hsz := Nat.lt_of_lt_of_le hsz hbel.size
    replace hlt := Nat.lt_of_lt_of_le hlt hbel.size
    replace hB := bnext hB hbel
    replace ha := ha.next hbel
    replace hz := hz.next hbel
    replace r4 := r4.next hbel
    clear hbel s0 s1 s2 s3
    obtain ⟨s0, s1, s2, s3⟩ := HS.out
    go_wp2_with fail
    clear s0 s1 s2 s3
    have hq0 := blk4 (w0 := w_6) rfl (Below.refl (w_6.alloc (.cells #[.int .u8 0, .int .u8 (mc.toNat : Int), .int .u32 (mr.toNat : Int), .slice a4 zs.length cap4] 70)).heap.size _)
    have hS6 := carry4 HS.out hsz (bnextA (Below.refl w_6.heap.size w_6) (.cells #[.int .u8 0, .int .u8 (mc.toNat : Int), .int .u32 (mr.toNat : Int), .slice a4 zs.length cap4] 70))
    have hP6 := carry4 HP.out hlt (bnextA (Below.refl w_6.heap.size w_6) (.cells #[.int .u8 0, .int .u8 (mc.toNat : Int), .int .u32 (mr.toNat : Int), .slice a4 zs.length cap4] 70))
    have hg6 : w_6.heap.size < (w_6.alloc (.cells #[.int .u8 0, .int .u8 (mc.toNat : Int), .int .u32 (mr.toNat : Int), .slice a4 zs.length cap4] 70)).heap.size := by simp
    replace hsz : w.heap.size < (w_6.alloc (.cells #[.int .u8 0, .int .u8 (mc.toNat : Int), .int .u32 (mr.toNat : Int), .slice a4 zs.length cap4] 70)).heap.size := by simp; omega
    replace hlt : w_4.heap.size < (w_6.alloc (.cells #[.int .u8 0, .int .u8 (mc.toNat : Int), .int .u32 (mr.toNat : Int), .slice a4 zs.length cap4] 70)).heap.size := by simp; omega
    replace hB := bnextA hB (.cells #[.int .u8 0, .int .u8 (mc.toNat : Int), .int .u32 (mr.toNat : Int), .slice a4 zs.length cap4] 70)
    replace ha := ha.nextA (.cells #[.int .u8 0, .int .u8 (mc.toNat : Int), .int .u32 (mr.toNat : Int), .slice a4 zs.length cap4] 70)
    replace hz := hz.nextA (.cells #[.int .u8 0, .int .u8 (mc.toNat : Int), .int .u32 (mr.toNat : Int), .slice a4 zs.length cap4] 70)
    replace r4 := r4.nextA (.cells #[.int .u8 0, .int .u8 (mc.toNat : Int), .int .u32 (mr.toNat : Int), .slice a4 zs.length cap4] 70)
    generalize (w_6.alloc (.cells #[.int .u8 0, .int .u8 (mc.toNat : Int), .int .u32 (mr.toNat : Int), .slice a4 zs.length cap4] 70)) = V10 at hq0 hS6 hP6 hg6 hsz hlt hB ha hz r4 ⊢
    have HV : ∀ W, Below V10.heap.size V10 W → ((W.cell? ⟨w.heap.size, 0, none⟩ = some (.int .u8 (my.toNat : Int)) ∧ W.cell? ⟨w.heap.size, 1, none⟩ = some (.int .u8 (mc.toNat : Int)) ∧ W.cell? ⟨w.heap.size, 2, none⟩ = some (.int .u32 (mr.toNat : Int)) ∧ W.cell? ⟨w.heap.size, 3, none⟩ = some (.slice a4 zs.length cap4)) ∧ (W.cell? ⟨w_4.heap.size, 0, none⟩ = some (.int .u8 0) ∧ W.cell? ⟨w_4.heap.size, 1, none⟩ = some (.int .u8 0) ∧ W.cell? ⟨w_4.heap.size, 2, none⟩ = some (.int .u32 (RE.toNat : Int)) ∧ W.cell? ⟨w_4.heap.size, 3, none⟩ = some (.slice A4 L4.length c4)) ∧ (W.cell? ⟨w_6.heap.size, 0, none⟩ = some (.int .u8 0) ∧ W.cell? ⟨w_6.heap.size, 1, none⟩ = some (.int .u8 (mc.toNat : Int)) ∧ W.cell? ⟨w_6.heap.size, 2, none⟩ = some (.int .u32 (mr.toNat : Int)) ∧ W.cell? ⟨w_6.heap.size, 3, none⟩ = some (.slice a4 zs.length cap4)) ∧ Below V10.heap.size V10 W) := by
      intro W h
      exact ⟨carry4 hS6 hsz h, carry4 hP6 hlt h, carry4 ⟨hq0.1, hq0.2.1, hq0.2.2.1, hq0.2.2.2.1⟩ hg6 h, h⟩
    have HR1 := Lib.hid (rsame_eq _ _ _ _ L4 xs V10.drew _ r4.drew ha.drew (by rw [HL4.out, HL2.out]))
    have HR2 := fun W (h : Below V10.heap.size V10 W) => Lib.hid (ianswer_any my mc mr a4 cap4 zs W (hz.next h) (by omega))
    have hz1 : IntKind.u32.wrap (Z : Int) = (Z : Int) := by rw [IntKind.wrap_u32']; omega
    have hz2 : IntKind.u32.wrap ((Z : Int) * 65536) = (Z : Int) * 65536 := by rw [IntKind.wrap_u32']; omega
    have hz3 : IntKind.u32.wrap (Y : Int) = (Y : Int) := by rw [IntKind.wrap_u32']; omega
    have hz4 : IntKind.u32.wrap ((Z : Int) * 65536 + (Y : Int)) = (mr.toNat : Int) := by rw [IntKind.wrap_u32']; omega
    have hz5 : (Z : Int) * 65536 + (Y : Int) = (mr.toNat : Int) := by omega
    have hmr := mr.toNat_lt
    have hz6 : IntKind.u32.wrap (mr.toNat : Int) = (mr.toNat : Int) := by rw [IntKind.wrap_u32']; omega
    have hm1 : (Z : Int) % 4294967296 = (Z : Int) := by omega
    have hm2 : (Z : Int) * 65536 % 4294967296 = (Z : Int) * 65536 := by omega
    have hm3 : (Y : Int) % 4294967296 = (Y : Int) := by omega
    have hm4 : (mr.toNat : Int) % 4294967296 = (mr.toNat : Int) := by omega
    clear hS6 hP6 hq0 hg6 hsz hlt HS HP HFa HFm hre h1 h2 ha r4
    go_region_held3 (fun W => (W.cell? ⟨w.heap.size, 0, none⟩ = some (.int .u8 (my.toNat : Int)) ∧ W.cell? ⟨w.heap.size, 1, none⟩ = some (.int .u8 (mc.toNat : Int)) ∧ W.cell? ⟨w.heap.size, 2, none⟩ = some (.int .u32 (mr.toNat : Int)) ∧ W.cell? ⟨w.heap.size, 3, none⟩ = some (.slice a4 zs.length cap4)) ∧ (W.cell? ⟨w_4.heap.size, 0, none⟩ = some (.int .u8 0) ∧ W.cell? ⟨w_4.heap.size, 1, none⟩ = some (.int .u8 0) ∧ W.cell? ⟨w_4.heap.size, 2, none⟩ = some (.int .u32 (RE.toNat : Int)) ∧ W.cell? ⟨w_4.heap.size, 3, none⟩ = some (.slice A4 L4.length c4)) ∧ (W.cell? ⟨w_6.heap.size, 0, none⟩ = some (.int .u8 0) ∧ W.cell? ⟨w_6.heap.size, 1, none⟩ = some (.int .u8 (mc.toNat : Int)) ∧ W.cell? ⟨w_6.heap.size, 2, none⟩ = some (.int .u32 (mr.toNat : Int)) ∧ W.cell? ⟨w_6.heap.size, 3, none⟩ = some (.slice a4 zs.length cap4)) ∧ Below V10.heap.size V10 W)
      (first
        | exact HV _ h9
        | exact HV _ h8
        | exact HV _ h7
        | exact HV _ h6
        | exact HV _ (Below.refl _ _).drew)
      (first
        | (go_at_call 17; go_split_ands; (with_reducible refine HR1.out.mono ?_); rintro e w_7 ⟨rfl, hd⟩; have h6 : Below V10.heap.size V10 w_7 := Below.undrew hd.bel)
        | (go_at_call 46; go_split_ands; (with_reducible refine (HR2 _ h6).out.mono ?_); rintro e w_8 ⟨L8, A8, c8, rfl, HL8, r8, hbel⟩; have h7 := bnext h6 hbel)
        | (go_at_call 40; go_split_ands; (with_reducible refine (isame_ans mc mr _ _ _ _ L8 zs _ r8 (hz.next h7) HL8.out).mono ?_); rintro e w_9 ⟨rfl, hbel⟩; have h8 := bnext h7 hbel)
        | (go_at_call 41; go_split_ands; (with_reducible refine (lives07_any _).mono ?_); rintro e w_10 ⟨rfl, hbel⟩; have h9 := bnext h8 hbel)
        | fail)
    go_wp2_with fail
    go_ret
    exact ⟨rfl, bnext hB h9⟩
end Go.Proofs.Ytkmjpjhlkakdhaa
