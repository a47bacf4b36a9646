/- The walks of the statements on package icmp. -/
import Derived.Test.YtkmjpjhlkakdhaaIcmp3
namespace Go.Proofs.Ytkmjpjhlkakdhaa
open Go.RowKit

theorem lives07_ask (w : World) : Calls Try.prog 45 #[.int .u16 1, .int .u16 2, .slice none 0 0] w fun e w' => ∃ L A1 c1, e = .returned (.agg #[.int .u8 ((8 : UInt8).toNat : Int), .int .u8 ((0 : UInt8).toNat : Int), .int .u32 ((65538 : UInt32).toNat : Int), .slice A1 L.length c1]) ∧ Hid (L = []) ∧ Rd bv w' w'.heap.size A1 c1 L ∧ Below w.heap.size w w' :=
  iask_any 1 2 none 0 [] w (Rd.nil0 _ _ _) (by simp)
theorem lives07_any (w : World) : Calls Try.prog 41 #[] w fun e w' => e = .returned (.bool true) ∧ Below w.heap.size w w' := by
  have hp := fun (A : Option Addr) (c : Nat) (xs : List UInt8) (W : World) (hr : Rd bv W W.heap.size A c xs) (hx : xs = []) => Lib.hid (iput_any 8 0 65538 A c xs W hr (by subst hx; simp) 2051 (by subst hx; decide))
  go_enter Try.func41, Try.ntmps41
  go_wp2_with fail
  refine (lives07_ask w).mono ?_
  rintro e w1 ⟨L1, A1, c1, rfl, HL1, hr1, hb1⟩
  go_wp2_with fail
  refine (hp _ _ _ _ hr1 HL1.out).out.mono ?_
  rintro e w2 ⟨L2, A2, c2, rfl, HL2, hr2, hb2⟩
  have hL2 : L2 = [8, 0, 247, 252, 0, 1, 0, 2] := by rw [HL2.out, HL1.out]; decide
  have H2 := Lib.hid hL2
  clear hL2 hp
  go_wp2_with fail
  refine (rsame_eq _ _ _ _ L2 [8, 0, 247, 252, 0, 1, 0, 2] _ _ (hr2.nextA _) (lit_at _ _ [8, 0, 247, 252, 0, 1, 0, 2] rfl _ rfl _ (by simp)) H2.out).mono ?_
  rintro e w3 ⟨rfl, hd⟩
  go_wp2_with fail
  go_ret
  exact ⟨rfl, bnext (bnextA (bnext (bnext (Below.refl _ _) hb1) hb2) _) hd.bel⟩

theorem beN_be32 (re : UInt32) : beN (be32 re) = re.toNat := by
  have := re.toNat_lt
  rw [be32, beN_four]
  simp
  omega
theorem put_sum (ty co : UInt8) (b : List UInt8) (N : Nat) (hN : onesN ([ty, co, 0, 0] ++ b) = N) : onesN ([ty, co, UInt8.ofNat ((65535 - N) / 256), UInt8.ofNat ((65535 - N) % 256)] ++ b) = 65535 := by
  have h := fills_right [ty, co] b (65535 - N) (by simp) (by rw [← hN]; rfl)
  rw [show (65535 - N) / 256 % 256 = (65535 - N) / 256 by omega] at h
  exact h
theorem iparse_put (ty co a b : UInt8) (re : UInt32) (xs L : List UInt8) (A : Option Addr) (c : Nat) (w : World) (hr : Rd bv w w.heap.size A c L) (hL : L = [ty, co, a, b] ++ (be32 re ++ xs)) (hl : xs.length ≤ 100000) (hN : onesN L = 65535) :
    Calls Try.prog 38 #[.slice A L.length c] w fun e w' => ∃ L1 A1 c1, e = .returned (.tuple #[.agg #[.int .u8 (ty.toNat : Int), .int .u8 (co.toNat : Int), .int .u32 (re.toNat : Int), .slice A1 L1.length c1], .int .i64 0]) ∧ Hid (L1 = xs) ∧ Rd bv w' w'.heap.size A1 c1 L1 ∧ Below w.heap.size w w' := by
  have h8 : 8 ≤ L.length := by rw [hL]; simp [be32]
  have h := iparse_ok A c L w hr h8 (by rw [hL]; simp [be32]; omega) hN
  have e0 : L[0] = ty := (List.getElem_of_eq hL _).trans rfl
  have e1 : L[1] = co := (List.getElem_of_eq hL _).trans rfl
  have e2 : beN ((L.drop 4).take 4) = re.toNat := by
    rw [← beN_be32 re]; congr 1; rw [hL]; rfl
  have e3 : L.drop 8 = xs := by rw [hL]; rfl
  rw [e0, e1, e2, e3] at h
  exact h
theorem set4_cells {w : World} {g : Nat} {u0 u1 u2 u3 : Value} (c0 : w.cell? ⟨g, 0, none⟩ = some u0) (c1 : w.cell? ⟨g, 1, none⟩ = some u1) (c2 : w.cell? ⟨g, 2, none⟩ = some u2) (c3 : w.cell? ⟨g, 3, none⟩ = some u3) (v0 v1 v2 v3 : Value) :
    ((((w.setCell ⟨g, 0, none⟩ v0).setCell ⟨g, 1, none⟩ v1).setCell ⟨g, 2, none⟩ v2).setCell ⟨g, 3, none⟩ v3).cell? ⟨g, 0, none⟩ = some v0 ∧ ((((w.setCell ⟨g, 0, none⟩ v0).setCell ⟨g, 1, none⟩ v1).setCell ⟨g, 2, none⟩ v2).setCell ⟨g, 3, none⟩ v3).cell? ⟨g, 1, none⟩ = some v1 ∧
    ((((w.setCell ⟨g, 0, none⟩ v0).setCell ⟨g, 1, none⟩ v1).setCell ⟨g, 2, none⟩ v2).setCell ⟨g, 3, none⟩ v3).cell? ⟨g, 2, none⟩ = some v2 ∧ ((((w.setCell ⟨g, 0, none⟩ v0).setCell ⟨g, 1, none⟩ v1).setCell ⟨g, 2, none⟩ v2).setCell ⟨g, 3, none⟩ v3).cell? ⟨g, 3, none⟩ = some v3 := by
  simp [go_sem, *]
theorem carry4 {w w' : World} {g : Nat} {v0 v1 v2 v3 : Value} (h : w.cell? ⟨g, 0, none⟩ = some v0 ∧ w.cell? ⟨g, 1, none⟩ = some v1 ∧ w.cell? ⟨g, 2, none⟩ = some v2 ∧ w.cell? ⟨g, 3, none⟩ = some v3) (hg : g < w.heap.size) (hb : Below w.heap.size w w') :
    w'.cell? ⟨g, 0, none⟩ = some v0 ∧ w'.cell? ⟨g, 1, none⟩ = some v1 ∧ w'.cell? ⟨g, 2, none⟩ = some v2 ∧ w'.cell? ⟨g, 3, none⟩ = some v3 :=
  ⟨(hb.cell hg).trans h.1, (hb.cell hg).trans h.2.1, (hb.cell hg).trans h.2.2.1, (hb.cell hg).trans h.2.2.2⟩

theorem IcmpParses_walk (a0 : Option Addr) (len0 cap0 : Nat) (z0 : List Int) (w : World) (w0 : InRow .u8 w a0 len0 cap0 z0) :
    Calls Try.prog 10 #[.slice a0 len0 cap0] w fun e w' => e = .returned (.bool true) ∧ Below w.heap.size w w' := by
  obtain ⟨xs, hxl, ha, HFa⟩ := few_row w0 300 (by omega)
  clear w0
  by_cases h8 : xs.length < 8
  · go_enter Try.func10, Try.ntmps10
    have hB := Below.refl w.heap.size w
    go_wp2_with fail
    refine (HFa.out).mono ?_
    rintro e w_1 ⟨rfl, rfl⟩
    go_wp2_with fail
    refine (iparse_short _ _ xs _ ha h8).mono ?_
    rintro e w_2 ⟨rfl, hbel⟩
    replace hB := bnext hB hbel
    replace ha := ha.next hbel
    clear hbel
    go_wp2_with fail
    refine (riparse_short _ _ xs _ (ha.nextA _) h8).mono ?_
    rintro e w_3 ⟨rfl, hbel⟩
    obtain ⟨p0, p1, p2, p3, -, -, -, -⟩ := blk4 rfl hbel
    have hlt : w_2.heap.size < w_3.heap.size := by have := hbel.size; simp at this; omega
    replace hB := bnext (bnextA hB _) hbel
    clear hbel ha
    go_wp2_with fail
    refine (isame_zero _).mono ?_
    rintro e w_4 ⟨rfl, hbel⟩
    replace hB := bnext (bnextA hB _) hbel
    clear hbel p0 p1 p2 p3 hlt
    go_wp2_with fail
    go_wp2_with (go_at_call 41; refine (lives07_any _).mono ?_; rintro e wl ⟨rfl, hbel⟩)
    go_ret
    exact ⟨rfl, bnext hB hbel⟩
  · by_cases hN : onesN xs = 65535
    · have h8' : 8 ≤ xs.length := by omega
      have hN := Lib.hid hN
      go_enter Try.func10, Try.ntmps10
      have hB := Below.refl w.heap.size w
      go_wp2_with fail
      refine (HFa.out).mono ?_
      rintro e w_2 ⟨rfl, rfl⟩
      go_wp2_with fail
      refine (iparse_ok _ _ xs _ ha h8' (by omega) hN.out).mono ?_
      rintro e w_2 ⟨L2, A2, c2, rfl, HL2, r2, hbel⟩
      replace hB := bnext hB hbel
      replace ha := ha.next hbel
      clear hbel
      go_wp2_with fail
      refine (riparse_ok _ _ xs _ (ha.nextA _) h8' (by omega) hN.out).mono ?_
      rintro e w_3 ⟨L3, A3, c3, rfl, HL3, r3, hbel⟩
      replace r2 := (r2.nextA _).next hbel
      obtain ⟨p0, p1, p2, p3, -, -, -, -⟩ := blk4 rfl hbel
      have hlt : w_2.heap.size < w_3.heap.size := by have := hbel.size; simp at this; omega
      replace hB := bnext (bnextA hB _) hbel
      clear hbel ha
      obtain ⟨RE, hRE⟩ : ∃ RE : UInt32, beN ((xs.drop 4).take 4) = RE.toNat := ⟨UInt32.ofNat (beN ((xs.drop 4).take 4)), by have := beN_lt ((xs.drop 4).take 4); simp; omega⟩
      rw [hRE] at p2 ⊢
      generalize xs[0] = X0 at p0 ⊢
      generalize xs[1] = X1 at p1 ⊢
      clear hRE
      go_wp2_with fail
      refine (isame_eq X0 X1 RE _ _ _ _ L2 L3 _ (r2.nextA _) (r3.nextA _) (by rw [HL2.out, HL3.out])).mono ?_
      rintro e w_4 ⟨rfl, hbel⟩
      replace hB := bnext (bnextA hB _) hbel
      clear hbel p0 p1 p2 p3 hlt
      go_wp2_with fail
      go_wp2_with (go_at_call 41; refine (lives07_any _).mono ?_; rintro e wl ⟨rfl, hbel⟩)
      go_ret
      exact ⟨rfl, bnext hB hbel⟩
    · have h8' : 8 ≤ xs.length := by omega
      have hN := Lib.hid hN
      go_enter Try.func10, Try.ntmps10
      have hB := Below.refl w.heap.size w
      go_wp2_with fail
      refine (HFa.out).mono ?_
      rintro e w_3 ⟨rfl, rfl⟩
      go_wp2_with fail
      refine (iparse_sum _ _ xs _ ha h8' (by omega) hN.out).mono ?_
      rintro e w_2 ⟨rfl, hbel⟩
      replace hB := bnext hB hbel
      replace ha := ha.next hbel
      clear hbel
      go_wp2_with fail
      refine (riparse_sum _ _ xs _ (ha.nextA _) h8' (by omega) hN.out).mono ?_
      rintro e w_3 ⟨rfl, hbel⟩
      obtain ⟨p0, p1, p2, p3, -, -, -, -⟩ := blk4 rfl hbel
      have hlt : w_2.heap.size < w_3.heap.size := by have := hbel.size; simp at this; omega
      replace hB := bnext (bnextA hB _) hbel
      clear hbel ha
      go_wp2_with fail
      refine (isame_zero _).mono ?_
      rintro e w_4 ⟨rfl, hbel⟩
      replace hB := bnext (bnextA hB _) hbel
      clear hbel p0 p1 p2 p3 hlt
      go_wp2_with fail
      go_wp2_with (go_at_call 41; refine (lives07_any _).mono ?_; rintro e wl ⟨rfl, hbel⟩)
      go_ret
      exact ⟨rfl, bnext hB hbel⟩

set_option maxHeartbeats 1000000 in
theorem IcmpPuts_walk (x0 x1 x2 : Int) (a3 : Option Addr) (len3 cap3 : Nat) (z3 : List Int) (w : World) (w0 : (Lit.int .u8 x0).wf = true) (w1 : (Lit.int .u8 x1).wf = true) (w2 : (Lit.int .u32 x2).wf = true) (w3 : InRow .u8 w a3 len3 cap3 z3) :
    Calls Try.prog 11 #[.agg #[.int .u8 x0, .int .u8 x1, .int .u32 x2, .slice a3 len3 cap3]] w fun e w' => e = .returned (.bool true) ∧ Below w.heap.size w w' := by
  obtain ⟨ty, rfl⟩ := u8_of w0
  obtain ⟨co, rfl⟩ := u8_of w1
  obtain ⟨re, rfl⟩ := u32_of w2
  obtain ⟨xs, hxl, ha, hlc, hcc, hm⟩ := few_len w3 200
  have ha0 := ha
  clear w0 w1 w2 w3
  obtain ⟨N, hN⟩ : ∃ N, onesN ([ty, co, 0, 0] ++ (be32 re ++ xs)) = N := ⟨_, rfl⟩
  have HN := Lib.hid hN
  have HF := Lib.hid (fun W => ifew_any ty co re a3 len3 cap3 xs.length W hlc hcc hm)
  clear hN hlc hcc hm
  go_enter Try.func11, Try.ntmps11
  go_wp2_with fail
  refine (HF.out _).mono ?_
  rintro e w_1 ⟨rfl, hbel⟩
  have hB := bnext (bnextA (Below.refl w.heap.size w) _) hbel
  replace ha := (ha.nextA _).next hbel
  obtain ⟨p0, p1, p2, p3, q0, q1, q2, q3⟩ := blk4 rfl hbel
  have hlt : w.heap.size < w_1.heap.size := by have := hbel.size; simp at this; omega
  clear hbel
  go_wp2_with fail
  have hS := set4_cells p0 p1 p2 p3 (.int .u8 (ty.toNat : Int)) (.int .u8 (co.toNat : Int)) (.int .u32 (re.toNat : Int)) (.slice a3 xs.length cap3)
  have hBV := bset4 hB (Nat.le_refl _) (.int .u8 (ty.toNat : Int)) (.int .u8 (co.toNat : Int)) (.int .u32 (re.toNat : Int)) (.slice a3 xs.length cap3)
  have hsz : w.heap.size < ((((w_1.setCell ⟨w.heap.size, 0, none⟩ (.int .u8 (ty.toNat : Int))).setCell ⟨w.heap.size, 1, none⟩ (.int .u8 (co.toNat : Int))).setCell ⟨w.heap.size, 2, none⟩ (.int .u32 (re.toNat : Int))).setCell ⟨w.heap.size, 3, none⟩ (.slice a3 xs.length cap3)).heap.size := by simpa using hlt
  clear p0 p1 p2 p3 q0 q1 q2 q3 hlt ha hB
  generalize ((((w_1.setCell ⟨w.heap.size, 0, none⟩ (.int .u8 (ty.toNat : Int))).setCell ⟨w.heap.size, 1, none⟩ (.int .u8 (co.toNat : Int))).setCell ⟨w.heap.size, 2, none⟩ (.int .u32 (re.toNat : Int))).setCell ⟨w.heap.size, 3, none⟩ (.slice a3 xs.length cap3)) = V at hS hBV hsz ⊢
  have ha := ha0.next hBV
  have hB := hBV
  have HS := Lib.hid hS
  clear hS hBV
  refine (iput_any ty co re a3 cap3 xs V ha (by omega) N HN.out).mono ?_
  rintro e w_2 ⟨L2, A2, c2, rfl, HL2, r2, hbel⟩
  replace hB := bnext hB hbel
  replace ha := ha.next hbel
  replace HS := Lib.hid (carry4 HS.out hsz hbel)
  replace hsz := Nat.lt_of_lt_of_le hsz hbel.size
  clear hbel
  go_wp2_with fail
  refine (iparse_put ty co _ _ re xs L2 _ _ _ r2 HL2.out (by omega) (by rw [HL2.out]; exact put_sum ty co _ N HN.out)).mono ?_
  rintro e w_3 ⟨L3, A3, c3, rfl, HL3, r3, hbel⟩
  replace hB := bnext hB hbel
  replace ha := ha.next hbel
  replace r2 := r2.next hbel
  replace HS := Lib.hid (carry4 HS.out hsz hbel)
  replace hsz := Nat.lt_of_lt_of_le hsz hbel.size
  clear hbel
  obtain ⟨s0, s1, s2, s3⟩ := HS.out
  go_wp2_with fail
  refine (riput_any ty co re a3 cap3 xs _ (ha.nextA _) (by omega) N HN.out).mono ?_
  rintro e w_4 ⟨L4, A4, c4, rfl, HL4, r4, hbel⟩
  obtain ⟨p0, p1, p2, p3, -, -, -, -⟩ := blk4 rfl hbel
  have hlt : w_3.heap.size < w_4.heap.size := by have := hbel.size; simp at this; omega
  replace HS := Lib.hid (carry4 HS.out hsz ((bnextA (Below.refl w_3.heap.size w_3) _).trans (hbel.mono (by simp))))
  replace hsz := Nat.lt_trans hsz hlt
  replace hB := bnext (bnextA hB _) hbel
  replace ha := (ha.nextA _).next hbel
  replace r2 := (r2.nextA _).next hbel
  replace r3 := (r3.nextA _).next hbel
  clear hbel s0 s1 s2 s3
  go_wp2_with fail
  refine (rsame_eq _ _ _ _ L2 L4 _ _ r2 r4 (by rw [HL2.out, HL4.out])).mono ?_
  rintro e w_5 ⟨rfl, hbel⟩
  replace hbel := hbel.bel
  replace HS := Lib.hid (carry4 HS.out hsz hbel)
  have HP := Lib.hid (carry4 ⟨p0, p1, p2, p3⟩ hlt hbel)
  replace hB := bnext hB hbel
  replace ha := ha.next hbel
  replace r3 := r3.next hbel
  clear hbel p0 p1 p2 p3 r2 r4 hsz hlt
  obtain ⟨s0, s1, s2, s3⟩ := HS.out
  obtain ⟨p0, p1, p2, p3⟩ := HP.out
  go_wp2_with fail
  refine (isame_eq ty co re _ _ _ _ L3 xs _ r3 ha HL3.out).mono ?_
  rintro e w_6 ⟨rfl, hbel⟩
  replace hB := bnext hB hbel
  clear hbel s0 s1 s2 s3 p0 p1 p2 p3 r3 ha
  go_wp2_with (go_at_call 41; refine (lives07_any _).mono ?_; rintro e wl ⟨rfl, hbel⟩)
  go_ret
  exact ⟨rfl, bnext hB hbel⟩
end Go.Proofs.Ytkmjpjhlkakdhaa
