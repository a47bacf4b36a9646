/- Contracts of topt.Of and of the reference's Of. -/
import Derived.Test.YteodjajjlgekcaaDoorOpt2
import Derived.Test.YteodjajjlgekcaaDoorRef1
namespace Go.Proofs.YteodjajjlgekcaaDoor
open Go.RowKit
set_option linter.unusedVariables false

theorem wrap_u8 (n : Nat) (h : n < 256) : wrap64 (n : Int) = (n : Int) := by unfold wrap64; omega
theorem wrap_sub2 (n m : Nat) (h : n < 256) (h2 : 2 ≤ n) (hm : n - 2 = m) : wrap64 ((n : Int) - 2) = (m : Int) := by unfold wrap64; omega
theorem wrap_jn (j n : Nat) (h : n < 256) (hj : j ≤ 1000) : wrap64 ((j : Int) + (n : Int)) = ((j + n : Nat) : Int) := by unfold wrap64; omega
theorem ov_arith (j q m n len : Nat) (hq : j + 2 = q) (hm : n - 2 = m) (h2 : 2 ≤ n) (h3 : len < j + n) : (len : Int) < (q : Int) + (m : Int) := by omega
theorem ok_arith (j q m n len : Nat) (hq : j + 2 = q) (hm : n - 2 = m) (h2 : 2 ≤ n) (h3 : j + n ≤ len) : q + m ≤ len := by omega
theorem info_opt : (Tryd.prog.info? 101).map (fun i => (i.zero, i.size, i.bytes)) = some (some (.agg #[.int .u8 0, .slice none 0 0]), 2, 32) := by kernel_rfl
set_option maxHeartbeats 2000000 in
theorem topt_of (A : Option Addr) (c : Nat) (xs : List UInt8) (w : World) (hr : Rd bv w w.heap.size A c xs) (hl : xs.length ≤ 1000) (R : List Opt × Nat) (hR0 : Runs xs R 0 []) :
    Calls Tryd.prog 63 #[.slice A xs.length c] w fun e w' => ∃ A2 c2, e = .returned (.tuple #[.slice A2 R.1.length c2, .int .i64 (R.2 : Int)]) ∧ Os w' w'.heap.size A2 c2 R.1 ∧ Below w.heap.size w w' := by
  obtain ⟨i0, hi0, hz0, hz1, hz2⟩ := info_parts info_u8
  obtain ⟨i1, hi1, hy0, hy1, hy2⟩ := info_parts info_opt
  have hlc := hr.len
  have hcc := hr.cap
  have HR0 := Lib.hid hR0
  clear hR0
  go_enter Tryd.func63, Tryd.ntmps63
  go_wp2_with fail
  go_loopw [4, 5] (fun v i wr => ∃ (j : Nat) (l : List Opt), j ≤ xs.length ∧ l.length ≤ j ∧ i = .int .i64 j ∧ Hid (Runs xs R j l) ∧ Hid (OwnO wr w.heap.size v l) ∧ Below w.heap.size w wr) (fun _ i _ => xs.length - (intOf i).toNat)
  case atStart => exact ⟨0, [], by omega, by simp, rfl, HR0, OwnO.nil0 _ _, Below.refl _ _⟩
  case round =>
    obtain ⟨j, l, hj, hlj, rfl, hR, HO, hbw⟩ := hrel
    have hrun := hR.out
    have hszw := hbw.size
    have hrw : Rd bv wr wr.heap.size A c xs := hr.next hbw
    clear hR HR0
    cases hrun with
    | fin h e =>
      obtain rfl : j = xs.length := by omega
      subst e
      obtain ⟨A2, c2, rfl, hos⟩ := HO.out.os hszw
      clear HO
      clear h hj hlj hrw
      go_wp2_with fail
      go_ret2
      exact ⟨A2, c2, rfl, hos, hbw⟩
    | zero h h0 e =>
      subst e
      obtain ⟨b, off, rfl, hB, hcell⟩ := byt_at hrw (k := j) h
      have c0 := hcell j h
      rw [h0] at c0
      have c1 : wr.cell? ⟨b, off + j, none⟩ = some (.int .u8 0) := c0
      obtain ⟨A2, c2, rfl, hos⟩ := HO.out.os hszw
      clear HO
      clear hcell c0 hlj hrw h0
      go_wp2_with fail
      go_ret2
      exact ⟨A2, c2, rfl, hos, hbw⟩
    | one h h0 t =>
      obtain ⟨b, off, rfl, hB, hcell⟩ := byt_at hrw (k := j) h
      have c0 := hcell j h
      rw [h0] at c0
      have c1 : wr.cell? ⟨b, off + j, none⟩ = some (.int .u8 1) := c0
      obtain ⟨A3, c3, hrd3, hsl⟩ := hrw.slice_l Tryd.underlying42 hi0 hz1 j (j : Int) rfl (by omega)
      obtain ⟨ys, hys⟩ : ∃ ys, xs.drop j = ys := ⟨_, rfl⟩
      have hyl : ys.length = xs.length - j := by rw [← hys]; simp
      rw [← hyl] at hsl
      rw [hys] at hrd3
      have HC := Lib.hid (tfirst_one A3 c3 ys wr hrd3 (by omega) (by simp only [← hys]; simpa using h0))
      have ht := Lib.hid t
      have HYL := Lib.hid hyl
      clear hcell c0 hrw h0 t hys hyl hrd3
      go_wp2_with fail
      refine HC.out.mono ?_
      rintro e1 w1 ⟨rfl, hb1⟩
      clear HC
      have hX1 := bnextA (bnext hbw hb1) (.cells #[.int .u8 1, .slice none 0 0] 101)
      have hX2 := bnextA hX1 (.cells #[.int .u8 1, .slice none 0 0] 101)
      have hOO := Lib.hid (((HO.out.nextO hb1 hszw).nextO ((Below.refl _ _).alloc (Nat.le_refl _) (.cells #[.int .u8 1, .slice none 0 0] 101)) (bnext hbw hb1).size).nextO ((Below.refl _ _).alloc (Nat.le_refl _) (.cells #[.int .u8 1, .slice none 0 0] 101)) hX1.size)
      have hK : Blk ((w1.alloc (.cells #[.int .u8 1, .slice none 0 0] 101)).alloc (.cells #[.int .u8 1, .slice none 0 0] 101)) (w1.heap.size + 1) [.int .u8 ((1 : UInt8).toNat : Int), .slice none ([] : List UInt8).length 0] 101 := by simpa using Blk.new (w1.alloc (.cells #[.int .u8 1, .slice none 0 0] 101)) #[.int .u8 ((1 : UInt8).toNat : Int), .slice none ([] : List UInt8).length 0] 101
      have hKD := Lib.hid (show KD ((w1.alloc (.cells #[.int .u8 1, .slice none 0 0] 101)).alloc (.cells #[.int .u8 1, .slice none 0 0] 101)) w.heap.size none 0 [] from ((show KD w1 w.heap.size none 0 [] from .inl (Own.nil0 _ _ _ _)).next ((Below.refl _ _).alloc (Nat.le_refl _) _) (bnext hbw hb1).size).next ((Below.refl _ _).alloc (Nat.le_refl _) _) hX1.size)
      have hKH := Lib.hid hK
      obtain ⟨k0, k1, -⟩ := (Blk.new w1 #[.int .u8 1, .slice none 0 0] 101).get2
      go_wp2_with (at_builtin; go_loud (refine wpList_append_opt rfl (.tmp 31) (.tmp 33) _ rfl w.heap.size i1 _ 32 Tryd.underlying96 hi1 hy0 hy1 hy2 rfl _ l rfl hOO.out (w1.heap.size + 1) none 0 1 [] rfl hKD.out hKH.out (by omega) (by omega) hX2.size w hX2 ?_); intro v2 w2 hown2 hb2)
      go_roundw
      case rel => exact ⟨j + 1, l ++ [(1, [])], by omega, by simp; omega, by go_num, ht, hown2, hb2⟩
      case measure => simp [intOf]; omega
    | short h h0 h1 h2 e =>
      subst e
      have hjl : j < xs.length := by omega
      obtain ⟨b, off, rfl, hB, hcell⟩ := byt_at hrw (k := j) hjl
      have c0 := hcell j hjl
      obtain ⟨A3, c3, hrd3, hsl⟩ := hrw.slice_l Tryd.underlying42 hi0 hz1 j (j : Int) rfl (by omega)
      obtain ⟨ys, hys⟩ : ∃ ys, xs.drop j = ys := ⟨_, rfl⟩
      have hyl : ys.length = xs.length - j := by rw [← hys]; simp
      rw [← hyl] at hsl
      rw [hys] at hrd3
      have a00 : ((xs[j].toNat : Int) == 0) = false := u8_ne (n := 0) (by decide) h0
      have a0 : ((xs[j].toNat : Int) != 0) = true := by rw [bne, a00]; rfl
      clear a00
      have hy1' : ys = [xs[j]] := by rw [← hys, List.drop_eq_getElem_cons hjl, List.drop_eq_nil_of_le (by omega)]
      subst hy1'
      simp only [List.length_singleton] at hsl
      clear hyl h2 hys
      have HC := Lib.hid (tfirst_short A3 c3 xs[j] wr hrd3 h1)
      generalize xs[j] = k at *
      clear hcell hrw HO hlj h0 h1
      go_wp2_with fail
      refine HC.out.mono ?_
      rintro e1 w1 ⟨rfl, hb1⟩
      clear HC
      obtain ⟨k0, k1, -⟩ := (Blk.new w1 #[.int .u8 0, .slice none 0 0] 101).get2
      go_wp2_with fail
      go_ret2
      exact ⟨none, 0, rfl, Os.nil0 _ _, bnextA (bnext hbw hb1) _⟩
    | form h h0 h1 h2 e =>
      subst e
      have hjl : j < xs.length := by omega
      obtain ⟨b, off, rfl, hB, hcell⟩ := byt_at hrw (k := j) hjl
      have c0 := hcell j hjl
      obtain ⟨A3, c3, hrd3, hsl⟩ := hrw.slice_l Tryd.underlying42 hi0 hz1 j (j : Int) rfl (by omega)
      obtain ⟨ys, hys⟩ : ∃ ys, xs.drop j = ys := ⟨_, rfl⟩
      have hyl : ys.length = xs.length - j := by rw [← hys]; simp
      rw [← hyl] at hsl
      rw [hys] at hrd3
      have a00 : ((xs[j].toNat : Int) == 0) = false := u8_ne (n := 0) (by decide) h0
      have a0 : ((xs[j].toNat : Int) != 0) = true := by rw [bne, a00]; rfl
      clear a00
      have HC := Lib.hid (tfirst_form A3 c3 ys wr hrd3 (by omega) (by omega) xs[j] xs[j + 1] (by simp only [← hys]; simp) (by simp only [← hys]; simp) h1 h2)
      generalize xs[j] = k at *
      clear hcell hrw HO hlj h0 h1 h2 hyl hys
      go_wp2_with fail
      refine HC.out.mono ?_
      rintro e1 w1 ⟨rfl, hb1⟩
      clear HC
      obtain ⟨k0, k1, -⟩ := (Blk.new w1 #[.int .u8 0, .slice none 0 0] 101).get2
      go_wp2_with fail
      go_ret2
      exact ⟨none, 0, rfl, Os.nil0 _ _, bnextA (bnext hbw hb1) _⟩
    | over h h0 h1 h2 h3 e =>
      subst e
      have hjl : j < xs.length := by omega
      obtain ⟨b, off, rfl, hB, hcell⟩ := byt_at hrw (k := j) hjl
      have c0 := hcell j hjl
      obtain ⟨A3, c3, hrd3, hsl⟩ := hrw.slice_l Tryd.underlying42 hi0 hz1 j (j : Int) rfl (by omega)
      obtain ⟨ys, hys⟩ : ∃ ys, xs.drop j = ys := ⟨_, rfl⟩
      have hyl : ys.length = xs.length - j := by rw [← hys]; simp
      rw [← hyl] at hsl
      rw [hys] at hrd3
      have a00 : ((xs[j].toNat : Int) == 0) = false := u8_ne (n := 0) (by decide) h0
      have a0 : ((xs[j].toNat : Int) != 0) = true := by rw [bne, a00]; rfl
      clear a00
      have HC := Lib.hid (tfirst_over A3 c3 ys wr hrd3 (by omega) (by omega) xs[j] xs[j + 1] (by simp only [← hys]; simp) (by simp only [← hys]; simp) h1 h2 (by omega))
      generalize xs[j] = k at *
      clear hcell hrw HO hlj h0 h1 h2 h3 hyl hys
      go_wp2_with fail
      refine HC.out.mono ?_
      rintro e1 w1 ⟨rfl, hb1⟩
      clear HC
      obtain ⟨k0, k1, -⟩ := (Blk.new w1 #[.int .u8 0, .slice none 0 0] 101).get2
      go_wp2_with fail
      go_ret2
      exact ⟨none, 0, rfl, Os.nil0 _ _, bnextA (bnext hbw hb1) _⟩
    | opt h h0 h1 h2 h3 t =>
      have hjl : j < xs.length := by omega
      obtain ⟨b, off, rfl, hB, hcell⟩ := byt_at hrw (k := j) hjl
      have c0 := hcell j hjl
      obtain ⟨A3, c3, hrd3, hsl⟩ := hrw.slice_l Tryd.underlying42 hi0 hz1 j (j : Int) rfl (by omega)
      obtain ⟨ys, hys⟩ : ∃ ys, xs.drop j = ys := ⟨_, rfl⟩
      have hyl : ys.length = xs.length - j := by rw [← hys]; simp
      rw [← hyl] at hsl
      rw [hys] at hrd3
      have a00 : ((xs[j].toNat : Int) == 0) = false := u8_ne (n := 0) (by decide) h0
      have a0 : ((xs[j].toNat : Int) != 0) = true := by rw [bne, a00]; rfl
      clear a00
      obtain ⟨D, hD⟩ : ∃ D, (xs.drop (j + 2)).take (xs[j + 1].toNat - 2) = D := ⟨_, rfl⟩
      have hD2 : (ys.drop 2).take (xs[j + 1].toNat - 2) = D := by rw [← hD, ← hys, List.drop_drop]
      have HC := Lib.hid (tfirst_ok A3 c3 ys wr hrd3 (by omega) (by omega) xs[j] xs[j + 1] (by simp only [← hys]; simp) (by simp only [← hys]; simp) h1 h2 (by omega) D hD2)
      rw [hD] at t
      have ht := Lib.hid t
      generalize xs[j] = k at *
      generalize xs[j + 1] = n at *
      have Z1 : Hid (wrap64 ((j : Int) + (n.toNat : Int)) = ((j + n.toNat : Nat) : Int)) := wrap_jn j _ n.toNat_lt (by omega)
      have HYL := Lib.hid hyl
      have H2 := Lib.hid h2
      have H3 := Lib.hid h3
      clear hcell hrw t hys hyl hrd3 hD hD2 h2 h3 h0 h1
      go_wp2_with fail
      refine HC.out.mono ?_
      rintro e1 w1 ⟨v1, rfl, hown1, hb1⟩
      obtain ⟨L, A4, c4, HL, rfl, -⟩ := hown1.rdv
      obtain rfl : L = D := HL.out
      clear HC HL
      have hkd := (hown1.less hszw)
      have hX1 := bnextA (bnext hbw hb1) (.cells #[.int .u8 (k.toNat : Int), .slice A4 L.length c4] 101)
      have hX2 := bnextA hX1 (.cells #[.int .u8 (k.toNat : Int), .slice A4 L.length c4] 101)
      have hOO := Lib.hid (((HO.out.nextO hb1 hszw).nextO ((Below.refl _ _).alloc (Nat.le_refl _) (.cells #[.int .u8 (k.toNat : Int), .slice A4 L.length c4] 101)) (bnext hbw hb1).size).nextO ((Below.refl _ _).alloc (Nat.le_refl _) (.cells #[.int .u8 (k.toNat : Int), .slice A4 L.length c4] 101)) hX1.size)
      have hK : Blk ((w1.alloc (.cells #[.int .u8 (k.toNat : Int), .slice A4 L.length c4] 101)).alloc (.cells #[.int .u8 (k.toNat : Int), .slice A4 L.length c4] 101)) (w1.heap.size + 1) [.int .u8 (k.toNat : Int), .slice A4 (L : List UInt8).length c4] 101 := by simpa using Blk.new (w1.alloc (.cells #[.int .u8 (k.toNat : Int), .slice A4 L.length c4] 101)) #[.int .u8 (k.toNat : Int), .slice A4 (L : List UInt8).length c4] 101
      have hKD := Lib.hid (show KD ((w1.alloc (.cells #[.int .u8 (k.toNat : Int), .slice A4 L.length c4] 101)).alloc (.cells #[.int .u8 (k.toNat : Int), .slice A4 L.length c4] 101)) w.heap.size A4 c4 L from (((show KD w1 w.heap.size A4 c4 L from .inl hkd)).next ((Below.refl _ _).alloc (Nat.le_refl _) _) (bnext hbw hb1).size).next ((Below.refl _ _).alloc (Nat.le_refl _) _) hX1.size)
      have hKH := Lib.hid hK
      obtain ⟨k0, k1, -⟩ := (Blk.new w1 #[.int .u8 (k.toNat : Int), .slice A4 L.length c4] 101).get2
      clear hown1 hkd hK
      go_wp2_with (at_builtin; go_loud (refine wpList_append_opt rfl (.tmp 31) (.tmp 33) _ rfl w.heap.size i1 _ 32 Tryd.underlying96 hi1 hy0 hy1 hy2 rfl _ l rfl hOO.out (w1.heap.size + 1) A4 c4 k L rfl hKD.out hKH.out (by omega) (by omega) hX2.size w hX2 ?_); intro v2 w2 hown2 hb2)
      go_roundw
      case rel => have g2 := H2.out; have g3 := H3.out; exact ⟨j + n.toNat, l ++ [(k, L)], by omega, by simp; omega, by rw [Z1.out], ht, hown2, hb2⟩
      case measure => have g2 := H2.out; have g3 := H3.out; rw [Z1.out]; simp [intOf]; omega
set_option maxHeartbeats 2000000 in
theorem ropt_of (A : Option Addr) (c : Nat) (xs : List UInt8) (w : World) (hr : Rd bv w w.heap.size A c xs) (hl : xs.length ≤ 1000) (R : List Opt × Nat) (hR0 : Runs xs R 0 []) :
    Calls Tryd.prog 66 #[.slice A xs.length c] w fun e w' => ∃ A2 c2, e = .returned (.tuple #[.slice A2 R.1.length c2, .int .i64 (R.2 : Int)]) ∧ Os w' w'.heap.size A2 c2 R.1 ∧ Below w.heap.size w w' := by
  obtain ⟨i0, hi0, hz0, hz1, hz2⟩ := info_parts info_u8
  obtain ⟨i1, hi1, hy0, hy1, hy2⟩ := info_parts info_opt
  have hlc := hr.len
  have hcc := hr.cap
  have HR0 := Lib.hid hR0
  clear hR0
  go_enter Tryd.func66, Tryd.ntmps66
  go_wp2_with fail
  go_loopw [4, 5] (fun v i wr => ∃ (j : Nat) (l : List Opt), j ≤ xs.length ∧ l.length ≤ j ∧ i = .int .i64 j ∧ Hid (Runs xs R j l) ∧ Hid (OwnO wr w.heap.size v l) ∧ Below w.heap.size w wr) (fun _ i _ => xs.length - (intOf i).toNat)
  case atStart => exact ⟨0, [], by omega, by simp, rfl, HR0, OwnO.nil0 _ _, Below.refl _ _⟩
  case round =>
    obtain ⟨j, l, hj, hlj, rfl, hR, HO, hbw⟩ := hrel
    have hrun := hR.out
    have hszw := hbw.size
    have hrw : Rd bv wr wr.heap.size A c xs := hr.next hbw
    clear hR HR0
    cases hrun with
    | fin h e =>
      obtain rfl : j = xs.length := by omega
      subst e
      obtain ⟨A2, c2, rfl, hos⟩ := HO.out.os hszw
      clear HO
      clear h hj hlj hrw
      go_wp2_with fail
      go_ret2
      exact ⟨A2, c2, rfl, hos, hbw⟩
    | zero h h0 e =>
      subst e
      obtain ⟨b, off, rfl, hB, hcell⟩ := byt_at hrw (k := j) h
      have c0 := hcell j h
      rw [h0] at c0
      have c1 : wr.cell? ⟨b, off + j, none⟩ = some (.int .u8 0) := c0
      obtain ⟨A2, c2, rfl, hos⟩ := HO.out.os hszw
      clear HO
      clear hcell c0 hlj hrw h0
      go_wp2_with fail
      go_ret2
      exact ⟨A2, c2, rfl, hos, hbw⟩
    | one h h0 t =>
      obtain ⟨b, off, rfl, hB, hcell⟩ := byt_at hrw (k := j) h
      have c0 := hcell j h
      rw [h0] at c0
      have c1 : wr.cell? ⟨b, off + j, none⟩ = some (.int .u8 1) := c0
      have ht := Lib.hid t
      have HOW := HO.out
      clear hcell c0 hrw h0 t
      have hX1 := bnextA (hbw) (.cells #[.int .u8 1, .slice none 0 0] 101)
      have hOO := Lib.hid (HOW.nextO ((Below.refl _ _).alloc (Nat.le_refl _) (.cells #[.int .u8 1, .slice none 0 0] 101)) (hbw).size)
      have hK : Blk (wr.alloc (.cells #[.int .u8 1, .slice none 0 0] 101)) wr.heap.size [.int .u8 ((1 : UInt8).toNat : Int), .slice none ([] : List UInt8).length 0] 101 := Blk.new wr #[.int .u8 ((1 : UInt8).toNat : Int), .slice none ([] : List UInt8).length 0] 101
      have hKD := Lib.hid (show KD (wr.alloc (.cells #[.int .u8 1, .slice none 0 0] 101)) w.heap.size none 0 [] from (show KD wr w.heap.size none 0 [] from .inl (Own.nil0 _ _ _ _)).next ((Below.refl _ _).alloc (Nat.le_refl _) _) (hbw).size)
      have hKH := Lib.hid hK
      clear hK HOW
      go_wp2_with (at_builtin; go_loud (refine wpList_append_opt rfl (.tmp 25) (.tmp 27) _ rfl w.heap.size i1 _ 32 Tryd.underlying96 hi1 hy0 hy1 hy2 rfl _ l rfl hOO.out wr.heap.size none 0 1 [] rfl hKD.out hKH.out (by omega) (by omega) hX1.size w hX1 ?_); intro v2 w2 hown2 hb2)
      go_roundw
      case rel => exact ⟨j + 1, l ++ [(1, [])], by omega, by simp; omega, by go_num, ht, hown2, hb2⟩
      case measure => simp [intOf]; omega
    | short h h0 h1 h2 e =>
      subst e
      have hjl : j < xs.length := by omega
      obtain ⟨b, off, rfl, hB, hcell⟩ := byt_at hrw (k := j) hjl
      have c0 := hcell j hjl
      have a00 : ((xs[j].toNat : Int) == 0) = false := u8_ne (n := 0) (by decide) h0
      have a0 : ((xs[j].toNat : Int) != 0) = true := by rw [bne, a00]; rfl
      have a1 : ((xs[j].toNat : Int) == 1) = false := u8_ne (n := 1) (by decide) h1
      clear a00
      have a2 : decide ((xs.length : Int) ≤ (j : Int) + 1) = true := by simp; omega
      generalize xs[j] = k at *
      clear hcell hrw HO hlj h0 h1 h2
      go_wp2_with fail
      go_ret2
      exact ⟨none, 0, rfl, Os.nil0 _ _, hbw⟩
    | form h h0 h1 h2 e =>
      subst e
      have hjl : j < xs.length := by omega
      obtain ⟨b, off, rfl, hB, hcell⟩ := byt_at hrw (k := j) hjl
      have c0 := hcell j hjl
      have a00 : ((xs[j].toNat : Int) == 0) = false := u8_ne (n := 0) (by decide) h0
      have a0 : ((xs[j].toNat : Int) != 0) = true := by rw [bne, a00]; rfl
      have a1 : ((xs[j].toNat : Int) == 1) = false := u8_ne (n := 1) (by decide) h1
      clear a00
      obtain ⟨p, hp⟩ : ∃ p, j + 1 = p := ⟨_, rfl⟩
      obtain ⟨q, hq⟩ : ∃ q, j + 2 = q := ⟨_, rfl⟩
      have e1 : (j : Int) + 1 = (p : Int) := by omega
      have e2 : (j : Int) + 2 = (q : Int) := by omega
      have hpl : p < xs.length := by omega
      have c2 := hcell p hpl
      have hx1 : xs[j + 1] = xs[p] := by simp only [hp]
      rw [hx1] at h2
      have a2 : decide (xs.length ≤ p) = false := by simp; omega
      have a3 : decide ((xs[p].toNat : Int) < 2) = true := by simp; omega
      have z0 : wrap64 (xs[p].toNat : Int) = (xs[p].toNat : Int) := wrap_u8 _ xs[p].toNat_lt
      generalize xs[j] = k at *
      generalize xs[p] = n at *
      clear hcell hrw HO hlj h0 h1 h2
      have hPQ : Hid (j + 1 = p ∧ j + 2 = q) := ⟨hp, hq⟩
      clear hp hq hx1 h
      go_wp2_with fail
      go_ret2
      exact ⟨none, 0, rfl, Os.nil0 _ _, hbw⟩
    | over h h0 h1 h2 h3 e =>
      subst e
      have hjl : j < xs.length := by omega
      obtain ⟨b, off, rfl, hB, hcell⟩ := byt_at hrw (k := j) hjl
      have c0 := hcell j hjl
      have a00 : ((xs[j].toNat : Int) == 0) = false := u8_ne (n := 0) (by decide) h0
      have a0 : ((xs[j].toNat : Int) != 0) = true := by rw [bne, a00]; rfl
      have a1 : ((xs[j].toNat : Int) == 1) = false := u8_ne (n := 1) (by decide) h1
      clear a00
      obtain ⟨p, hp⟩ : ∃ p, j + 1 = p := ⟨_, rfl⟩
      obtain ⟨q, hq⟩ : ∃ q, j + 2 = q := ⟨_, rfl⟩
      have e1 : (j : Int) + 1 = (p : Int) := by omega
      have e2 : (j : Int) + 2 = (q : Int) := by omega
      have hpl : p < xs.length := by omega
      have c2 := hcell p hpl
      have hx1 : xs[j + 1] = xs[p] := by simp only [hp]
      rw [hx1] at h2
      have a2 : decide (xs.length ≤ p) = false := by simp; omega
      have a3 : decide ((xs[p].toNat : Int) < 2) = false := by simp; omega
      have z0 : wrap64 (xs[p].toNat : Int) = (xs[p].toNat : Int) := wrap_u8 _ xs[p].toNat_lt
      obtain ⟨m, hm⟩ : ∃ m, xs[p].toNat - 2 = m := ⟨_, rfl⟩
      have z3 : wrap64 ((xs[p].toNat : Int) - 2) = (m : Int) := wrap_sub2 _ _ xs[p].toNat_lt h2 hm
      have HC := Lib.hid (rcut_no (some ⟨b, off, none⟩) xs.length c (q : Int) (m : Int) wr (Nat.le_trans hl (by decide)) (.inr (.inr (ov_arith j q m _ _ hq hm h2 (by rw [← hx1]; exact h3)))))
      generalize xs[j] = k at *
      generalize xs[p] = n at *
      clear hcell hrw HO hlj h0 h1 h2 h3 hm
      have hPQ : Hid (j + 1 = p ∧ j + 2 = q) := ⟨hp, hq⟩
      clear hp hq hx1 h
      go_wp2_with fail
      refine HC.out.mono ?_
      rintro e1 w1 ⟨rfl, rfl⟩
      clear HC
      go_wp2_with fail
      go_ret2
      exact ⟨none, 0, rfl, Os.nil0 _ _, hbw⟩
    | opt h h0 h1 h2 h3 t =>
      have hjl : j < xs.length := by omega
      obtain ⟨b, off, rfl, hB, hcell⟩ := byt_at hrw (k := j) hjl
      have c0 := hcell j hjl
      have a00 : ((xs[j].toNat : Int) == 0) = false := u8_ne (n := 0) (by decide) h0
      have a0 : ((xs[j].toNat : Int) != 0) = true := by rw [bne, a00]; rfl
      have a1 : ((xs[j].toNat : Int) == 1) = false := u8_ne (n := 1) (by decide) h1
      clear a00
      obtain ⟨p, hp⟩ : ∃ p, j + 1 = p := ⟨_, rfl⟩
      obtain ⟨q, hq⟩ : ∃ q, j + 2 = q := ⟨_, rfl⟩
      have e1 : (j : Int) + 1 = (p : Int) := by omega
      have e2 : (j : Int) + 2 = (q : Int) := by omega
      have hpl : p < xs.length := by omega
      have c2 := hcell p hpl
      have hx1 : xs[j + 1] = xs[p] := by simp only [hp]
      rw [hx1] at h2
      have a2 : decide (xs.length ≤ p) = false := by simp; omega
      have a3 : decide ((xs[p].toNat : Int) < 2) = false := by simp; omega
      have z0 : wrap64 (xs[p].toNat : Int) = (xs[p].toNat : Int) := wrap_u8 _ xs[p].toNat_lt
      obtain ⟨m, hm⟩ : ∃ m, xs[p].toNat - 2 = m := ⟨_, rfl⟩
      have z3 : wrap64 ((xs[p].toNat : Int) - 2) = (m : Int) := wrap_sub2 _ _ xs[p].toNat_lt h2 hm
      rw [hx1] at h3 t
      rw [hq] at t
      obtain ⟨D, hD⟩ : ∃ D, (xs.drop q).take (xs[p].toNat - 2) = D := ⟨_, rfl⟩
      have HC := Lib.hid (rcut_of (some ⟨b, off, none⟩) c xs (q : Int) (m : Int) q m wr hrw rfl rfl (ok_arith j q m _ _ hq hm h2 h3) (Nat.le_trans hl (by decide)))
      rw [← hm, hD] at HC
      rw [hm] at HC
      rw [hD] at t
      have ht := Lib.hid t
      have hcb : ∀ w1, Below wr.heap.size wr w1 → w1.cell? ⟨b, off + j, none⟩ = some (.int .u8 (xs[j].toNat : Int)) := fun w1 hb1 => (hb1.cell (p := ⟨b, off + j, none⟩) hB).trans c0
      generalize xs[j] = k at *
      generalize xs[p] = n at *
      have Z1 : Hid (wrap64 ((j : Int) + (n.toNat : Int)) = ((j + n.toNat : Nat) : Int)) := wrap_jn j _ n.toNat_lt (by omega)
      have H2 := Lib.hid h2
      have H3 := Lib.hid h3
      clear hcell hrw t hD h2 h3 h0 h1 hm
      have hPQ : Hid (j + 1 = p ∧ j + 2 = q) := ⟨hp, hq⟩
      clear hp hq hx1 h
      go_wp2_with fail
      refine HC.out.mono ?_
      rintro e1 w1 ⟨v1, rfl, hown1, hb1⟩
      obtain ⟨L, A4, c4, HL, rfl, -⟩ := hown1.rdv
      obtain rfl : L = D := HL.out
      clear HC HL z3
      have hkd := (hown1.less hszw)
      have c0' := hcb w1 hb1
      have HOW := HO.out.nextO hb1 hszw
      have hbw1 := bnext hbw hb1
      have hX1 := bnextA (hbw1) (.cells #[.int .u8 (k.toNat : Int), .slice A4 L.length c4] 101)
      have hOO := Lib.hid (HOW.nextO ((Below.refl _ _).alloc (Nat.le_refl _) (.cells #[.int .u8 (k.toNat : Int), .slice A4 L.length c4] 101)) (hbw1).size)
      have hK : Blk (w1.alloc (.cells #[.int .u8 (k.toNat : Int), .slice A4 L.length c4] 101)) w1.heap.size [.int .u8 (k.toNat : Int), .slice A4 (L : List UInt8).length c4] 101 := Blk.new w1 #[.int .u8 (k.toNat : Int), .slice A4 (L : List UInt8).length c4] 101
      have hKD := Lib.hid (show KD (w1.alloc (.cells #[.int .u8 (k.toNat : Int), .slice A4 L.length c4] 101)) w.heap.size A4 c4 L from (show KD w1 w.heap.size A4 c4 L from .inl hkd).next ((Below.refl _ _).alloc (Nat.le_refl _) _) (hbw1).size)
      have hKH := Lib.hid hK
      clear hK HOW
      clear hown1 hkd hcb
      go_wp2_with (at_builtin; go_loud (refine wpList_append_opt rfl (.tmp 55) (.tmp 62) _ rfl w.heap.size i1 _ 32 Tryd.underlying96 hi1 hy0 hy1 hy2 rfl _ l rfl hOO.out w1.heap.size A4 c4 k L rfl hKD.out hKH.out (by omega) (by omega) hX1.size w hX1 ?_); intro v2 w2 hown2 hb2)
      go_roundw
      case rel => have g2 := H2.out; have g3 := H3.out; exact ⟨j + n.toNat, l ++ [(k, L)], by omega, by simp; omega, by rw [Z1.out], ht, hown2, hb2⟩
      case measure => have g2 := H2.out; have g3 := H3.out; rw [Z1.out]; simp [intOf]; omega
end Go.Proofs.YteodjajjlgekcaaDoor
