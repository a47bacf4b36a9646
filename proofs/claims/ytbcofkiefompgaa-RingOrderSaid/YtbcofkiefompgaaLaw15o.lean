/- The walk of the statement on the order of a ring's buffers. -/
import Derived.Test.YtbcofkiefompgaaLaw15n
namespace Go.Proofs.Ytbcofkiefompgaa
open Go.RowKit

/-- What a law's walk is told of a slice of pairs of integers that came in. -/
def InPairs (w : World) (a : Option Addr) (len cap : Nat) : Prop :=
  (a = none ∧ len = 0 ∧ cap = 0) ∨ ∃ x, a = some x ∧ len ≤ cap ∧ cap ≤ maxLen ∧ ∀ i, i < cap → ∃ (k n : Int), w.cell? (x.add (i * 2 + 0)) = some (.int .i64 k) ∧ w.cell? (x.add (i * 2 + 1)) = some (.int .i64 n) ∧ (Lit.int .i64 k).wf = true ∧ (Lit.int .i64 n).wf = true
theorem pairs_at {w : World} {a : Option Addr} {len cap : Nat} (h : InPairs w a len cap) : len ≤ cap ∧ cap ≤ 9223372036854775807 ∧ ∀ j, j < len → ∃ b off, a = some ⟨b, off, none⟩ ∧ b < w.heap.size ∧ ∃ (k n : Int), w.cell? ⟨b, off + j * 2, none⟩ = some (.int .i64 k) ∧ w.cell? ⟨b, off + j * 2 + 1, none⟩ = some (.int .i64 n) ∧ (Lit.int .i64 k).wf = true ∧ (Lit.int .i64 n).wf = true := by
  rcases h with ⟨rfl, rfl, rfl⟩ | ⟨x, rfl, h1, h2, h3⟩
  · exact ⟨by omega, by omega, fun j hj => by omega⟩
  · refine ⟨h1, by simpa [maxLen] using h2, fun j hj => ?_⟩
    obtain ⟨k, n, c0, c1, w0, w1⟩ := h3 j (by omega)
    obtain ⟨b, off, spot⟩ := x
    have hadd : ∀ i, (⟨b, off, spot⟩ : Addr).add i = if i = 0 then ⟨b, off, spot⟩ else ⟨b, off + i, none⟩ := fun i => rfl
    obtain rfl : spot = none := by
      have h0 := h3 0 (by omega)
      obtain ⟨k, n, c0, -⟩ := h0
      simpa [Addr.add] using World.cell?_spot c0
    have he : ∀ i, (⟨b, off, none⟩ : Addr).add i = ⟨b, off + i, none⟩ := fun i => by
      simp only [Addr.add]
      split
      · next h0 => rw [h0]; rfl
      · rfl
    rw [he] at c0 c1
    exact ⟨b, off, rfl, World.block_lt_of_cell? w _ c0, k, n, c0, c1, w0, w1⟩

/-- The last L buffers before nx are N0, N0 + 1, .. -/
def Qu (buf : List Int) (nx n L N0 : Nat) : Prop := ∀ t, t < L → buf[(nx + n - L + t) % n]? = some ((N0 + t : Nat) : Int)
theorem mod2 (a n : Nat) (_hn : 0 < n) (h : a < 2 * n) : (a % n = a ∧ a < n) ∨ (a % n = a - n ∧ n ≤ a) := by
  rcases Nat.lt_or_ge a n with h1 | h1
  · exact .inl ⟨Nat.mod_eq_of_lt h1, h1⟩
  · right
    refine ⟨?_, h1⟩
    rw [Nat.mod_eq_sub_mod h1]
    exact Nat.mod_eq_of_lt (by omega)
theorem Qu.post {buf : List Int} {nx n L N0 : Nat} (h : Qu buf nx n L N0) (hl : buf.length = n) (hnx : nx < n) (hL : L < n) : Qu (buf.set nx ((N0 + L : Nat) : Int)) ((nx + 1) % n) n (L + 1) N0 := by
  intro t ht
  have h1 := mod2 (nx + 1) n (by omega) (by omega)
  have h2 := mod2 ((nx + 1) % n + n - (L + 1) + t) n (by omega) (by omega)
  by_cases htL : t = L
  · subst htL
    have : ((nx + 1) % n + n - (t + 1) + t) % n = nx := by omega
    rw [this, List.getElem?_set_self (by omega)]
  · have h3 := mod2 (nx + n - L + t) n (by omega) (by omega)
    have he : ((nx + 1) % n + n - (L + 1) + t) % n = (nx + n - L + t) % n := by omega
    have hne : nx ≠ (nx + n - L + t) % n := by omega
    rw [he, List.getElem?_set_ne hne]
    exact h t (by omega)
theorem Qu.reap {buf : List Int} {nx n L N0 : Nat} (h : Qu buf nx n (L + 1) N0) (hL : L < n) : Qu buf nx n L (N0 + 1) := by
  intro t ht
  have := h (t + 1) (by omega)
  rw [show nx + n - (L + 1) + (t + 1) = nx + n - L + t by omega] at this
  rw [this]
  congr 2
  omega

set_option maxHeartbeats 2000000 in
theorem RingOrder_walk (a0 : Int) (a1 : Option Addr) (len1 cap1 : Nat) (w : World) (w0 : (Lit.int .i64 a0).wf = true) (w1 : InPairs w a1 len1 cap1) :
    Calls Try.prog 8 #[.int .i64 a0, .slice a1 len1 cap1] w fun e w' => e = .returned (.bool true) ∧ Below w.heap.size w w' := by
  obtain ⟨hlc, hcc, hat⟩ := pairs_at w1
  obtain ⟨n, hn1, hn2, hnew⟩ := rnew_any a0 (i64_of w0) w
  have HN := Lib.hid hnew
  have HAT := Lib.hid hat
  clear hnew hat w0 w1
  go_enter Try.func8, Try.ntmps8
  go_wp2_with fail
  refine HN.out.mono ?_
  rintro e w1 ⟨rfl, hB1, R1⟩
  clear HN
  go_wp2_with fail
  go_loopw [6, 7, 8, 9, 10] (fun x y i _ _ wr => ∃ (j N0 N1 nx p r : Nat) (buf : List Int), j ≤ len1 ∧ j ≤ 80 ∧ i = .int .i64 j ∧ x = .int .i64 N1 ∧ y = .int .i64 N0 ∧ N1 ≤ j ∧ N0 + (p + r) = N1 ∧ Below w.heap.size w wr ∧ Rg wr (w.heap.size + 1) w.heap.size n buf nx p r ∧ Hid (Qu buf nx n (p + r) N0)) (fun _ _ i _ _ _ => 80 - (intOf i).toNat)
  case atStart => exact ⟨0, 0, 0, 0, 0, 0, _, by omega, by omega, rfl, rfl, rfl, by omega, rfl, hB1, R1, fun t ht => by omega⟩
  case round =>
    obtain ⟨j, N0, N1, nx, p, r, buf, hj, hj80, rfl, rfl, rfl, hN1, hsum, hbw, R, HQ⟩ := hrel
    by_cases hlt : j < len1
    · by_cases hlt80 : j < 80
      · obtain ⟨b, off, rfl, hbl, k, kn, c0, -, -, -⟩ := HAT.out j hlt
        have c0 := (hbw.cell (p := ⟨b, off + j * 2, none⟩) hbl).trans c0
        have hnil : w.heap.size ≤ w.heap.size + 1 := Nat.le_succ _
        have hprn := R.prn
        have hnxn := R.nxn
        have hbl2 := R.len
        by_cases k0 : k = 0
        · subst k0
          by_cases hf : p + r = n
          · have C1 := Lib.hid (rpost_full R hf (N1 : Int))
            go_wp2_with fail
            refine C1.out.mono ?_
            rintro e w8 ⟨rfl, rfl⟩
            obtain ⟨p2, r2, M0, M1, nx2, buf2, RR, hsum2, hM, hB2, HQ2, hb1, hb2⟩ : ∃ p2 r2 M0 M1 nx2 buf2, Rg wr (w.heap.size + 1) w.heap.size n buf2 nx2 p2 r2 ∧ M0 + (p2 + r2) = M1 ∧ M1 ≤ j + 1 ∧ Below w.heap.size w wr ∧ Hid (Qu buf2 nx2 n (p2 + r2) M0) ∧ M0 = N0 ∧ M1 = N1 := ⟨p, r, N0, N1, nx, buf, R, hsum, by omega, hbw, HQ, rfl, rfl⟩
            subst hb1 hb2
            clear C1 R HQ hsum hN1
            obtain ⟨L, hL⟩ : ∃ L, p2 + r2 = L := ⟨_, rfl⟩
            obtain ⟨m, hm⟩ : ∃ m, n - p2 - r2 = m := ⟨_, rfl⟩
            have hpr2 := RR.prn
            have q1 : (p2 : Int) + (r2 : Int) = (L : Int) := by omega
            have q2 : (L : Int) + (m : Int) = (n : Int) := by omega
            have q3 : (M1 : Int) - (M0 : Int) = (L : Int) := by omega
            have T1 := Lib.hid (rposted_any RR)
            have T2 := Lib.hid (rready_any RR)
            have T3 := rroom_any RR
            rw [hm] at T3
            have T3 := Lib.hid T3
            have T4 := Lib.hid (rsize_any RR)
            have hM80 : M1 ≤ 80 := by omega
            clear hL hm
            go_wp2_with fail
            refine T1.out.mono ?_
            rintro e w9 ⟨rfl, rfl⟩
            go_wp2_with fail
            refine T2.out.mono ?_
            rintro e w9 ⟨rfl, rfl⟩
            go_wp2_with fail
            refine T3.out.mono ?_
            rintro e w9 ⟨rfl, rfl⟩
            go_wp2_with fail
            refine T4.out.mono ?_
            rintro e w9 ⟨rfl, rfl⟩
            go_wp2_with fail
            refine T1.out.mono ?_
            rintro e w9 ⟨rfl, rfl⟩
            go_wp2_with fail
            refine T2.out.mono ?_
            rintro e w9 ⟨rfl, rfl⟩
            go_wp2_with fail
            go_roundw
            case rel => exact ⟨j + 1, M0, M1, nx2, p2, r2, buf2, by omega, by omega, by go_num, rfl, rfl, by omega, hsum2, hB2, RR, HQ2⟩
            case measure => simp [intOf]; omega
          · have hq := HQ.out.post hbl2 hnxn (by omega : p + r < n)
            rw [hsum] at hq
            have C1 := Lib.hid (rpost_ok R (by omega) (N1 : Int) w.heap.size hnil (Nat.le_refl _))
            obtain ⟨M1, hM1⟩ : ∃ M1, N1 + 1 = M1 := ⟨_, rfl⟩
            have hM1i : (N1 : Int) + 1 = (M1 : Int) := by omega
            have HQ3 := Lib.hid hq
            clear hq
            go_wp2_with fail
            refine C1.out.mono ?_
            rintro e w8 ⟨rfl, hb8, R8⟩
            have hBA := hbw.trans hb8
            have hsumA : N0 + (p + 1 + r) = M1 := by omega
            have HQA : Hid (Qu (buf.set nx (N1 : Int)) ((nx + 1) % n) n (p + 1 + r) N0) := by
              have := HQ3.out
              rw [show p + r + 1 = p + 1 + r by omega] at this
              exact this
            have hM : M1 ≤ j + 1 := by omega
            obtain ⟨p2, r2, M0, nx2, buf2, RR, hsum2, hB2, HQ2, hb1⟩ : ∃ p2 r2 M0 nx2 buf2, Rg w8 (w.heap.size + 1) w.heap.size n buf2 nx2 p2 r2 ∧ M0 + (p2 + r2) = M1 ∧ Below w.heap.size w w8 ∧ Hid (Qu buf2 nx2 n (p2 + r2) M0) ∧ M0 = N0 := ⟨_, _, _, _, _, R8, hsumA, hBA, HQA, rfl⟩
            subst hb1
            clear C1 R R8 HQ HQ3 hb8 hM1 hsum hBA hsumA HQA
            obtain ⟨L, hL⟩ : ∃ L, p2 + r2 = L := ⟨_, rfl⟩
            obtain ⟨m, hm⟩ : ∃ m, n - p2 - r2 = m := ⟨_, rfl⟩
            have hpr2 := RR.prn
            have q1 : (p2 : Int) + (r2 : Int) = (L : Int) := by omega
            have q2 : (L : Int) + (m : Int) = (n : Int) := by omega
            have q3 : (M1 : Int) - (M0 : Int) = (L : Int) := by omega
            have T1 := Lib.hid (rposted_any RR)
            have T2 := Lib.hid (rready_any RR)
            have T3 := rroom_any RR
            rw [hm] at T3
            have T3 := Lib.hid T3
            have T4 := Lib.hid (rsize_any RR)
            have hM80 : M1 ≤ 80 := by omega
            clear hL hm
            go_wp2_with fail
            refine T1.out.mono ?_
            rintro e w9 ⟨rfl, rfl⟩
            go_wp2_with fail
            refine T2.out.mono ?_
            rintro e w9 ⟨rfl, rfl⟩
            go_wp2_with fail
            refine T3.out.mono ?_
            rintro e w9 ⟨rfl, rfl⟩
            go_wp2_with fail
            refine T4.out.mono ?_
            rintro e w9 ⟨rfl, rfl⟩
            go_wp2_with fail
            refine T1.out.mono ?_
            rintro e w9 ⟨rfl, rfl⟩
            go_wp2_with fail
            refine T2.out.mono ?_
            rintro e w9 ⟨rfl, rfl⟩
            go_wp2_with fail
            go_roundw
            case rel => exact ⟨j + 1, M0, M1, nx2, p2, r2, buf2, by omega, by omega, by go_num, rfl, rfl, by omega, hsum2, hB2, RR, HQ2⟩
            case measure => simp [intOf]; omega
        · have e0 : (k == 0) = false := by simpa using k0
          by_cases k1 : k = 1
          · subst k1
            clear e0
            cases p with
            | zero =>
              have C1 := Lib.hid (rdone_none R)
              go_wp2_with fail
              refine C1.out.mono ?_
              rintro e w8 ⟨rfl, rfl⟩
              obtain ⟨p2, r2, M0, M1, nx2, buf2, RR, hsum2, hM, hB2, HQ2, hb1, hb2⟩ : ∃ p2 r2 M0 M1 nx2 buf2, Rg wr (w.heap.size + 1) w.heap.size n buf2 nx2 p2 r2 ∧ M0 + (p2 + r2) = M1 ∧ M1 ≤ j + 1 ∧ Below w.heap.size w wr ∧ Hid (Qu buf2 nx2 n (p2 + r2) M0) ∧ M0 = N0 ∧ M1 = N1 := ⟨0, r, N0, N1, nx, buf, R, hsum, by omega, hbw, HQ, rfl, rfl⟩
              subst hb1 hb2
              clear C1 R HQ hsum hN1
              obtain ⟨L, hL⟩ : ∃ L, p2 + r2 = L := ⟨_, rfl⟩
              obtain ⟨m, hm⟩ : ∃ m, n - p2 - r2 = m := ⟨_, rfl⟩
              have hpr2 := RR.prn
              have q1 : (p2 : Int) + (r2 : Int) = (L : Int) := by omega
              have q2 : (L : Int) + (m : Int) = (n : Int) := by omega
              have q3 : (M1 : Int) - (M0 : Int) = (L : Int) := by omega
              have T1 := Lib.hid (rposted_any RR)
              have T2 := Lib.hid (rready_any RR)
              have T3 := rroom_any RR
              rw [hm] at T3
              have T3 := Lib.hid T3
              have T4 := Lib.hid (rsize_any RR)
              have hM80 : M1 ≤ 80 := by omega
              clear hL hm
              go_wp2_with fail
              refine T1.out.mono ?_
              rintro e w9 ⟨rfl, rfl⟩
              go_wp2_with fail
              refine T2.out.mono ?_
              rintro e w9 ⟨rfl, rfl⟩
              go_wp2_with fail
              refine T3.out.mono ?_
              rintro e w9 ⟨rfl, rfl⟩
              go_wp2_with fail
              refine T4.out.mono ?_
              rintro e w9 ⟨rfl, rfl⟩
              go_wp2_with fail
              refine T1.out.mono ?_
              rintro e w9 ⟨rfl, rfl⟩
              go_wp2_with fail
              refine T2.out.mono ?_
              rintro e w9 ⟨rfl, rfl⟩
              go_wp2_with fail
              go_roundw
              case rel => exact ⟨j + 1, M0, M1, nx2, p2, r2, buf2, by omega, by omega, by go_num, rfl, rfl, by omega, hsum2, hB2, RR, HQ2⟩
              case measure => simp [intOf]; omega
            | succ p =>
              have C1 := Lib.hid (rdone_ok R w.heap.size hnil)
              go_wp2_with fail
              refine C1.out.mono ?_
              rintro e w8 ⟨rfl, hb8, R8⟩
              have HQ3 : Hid (Qu buf nx n (p + (r + 1)) N0) := by
                have := HQ.out
                rw [show p + 1 + r = p + (r + 1) by omega] at this
                exact this
              obtain ⟨p2, r2, M0, M1, nx2, buf2, RR, hsum2, hM, hB2, HQ2, hb1, hb2⟩ : ∃ p2 r2 M0 M1 nx2 buf2, Rg w8 (w.heap.size + 1) w.heap.size n buf2 nx2 p2 r2 ∧ M0 + (p2 + r2) = M1 ∧ M1 ≤ j + 1 ∧ Below w.heap.size w w8 ∧ Hid (Qu buf2 nx2 n (p2 + r2) M0) ∧ M0 = N0 ∧ M1 = N1 := ⟨p, r + 1, N0, N1, nx, buf, R8, by omega, by omega, hbw.trans hb8, HQ3, rfl, rfl⟩
              subst hb1 hb2
              clear C1 R R8 HQ HQ3 hsum hN1 hb8
              obtain ⟨L, hL⟩ : ∃ L, p2 + r2 = L := ⟨_, rfl⟩
              obtain ⟨m, hm⟩ : ∃ m, n - p2 - r2 = m := ⟨_, rfl⟩
              have hpr2 := RR.prn
              have q1 : (p2 : Int) + (r2 : Int) = (L : Int) := by omega
              have q2 : (L : Int) + (m : Int) = (n : Int) := by omega
              have q3 : (M1 : Int) - (M0 : Int) = (L : Int) := by omega
              have T1 := Lib.hid (rposted_any RR)
              have T2 := Lib.hid (rready_any RR)
              have T3 := rroom_any RR
              rw [hm] at T3
              have T3 := Lib.hid T3
              have T4 := Lib.hid (rsize_any RR)
              have hM80 : M1 ≤ 80 := by omega
              clear hL hm
              go_wp2_with fail
              refine T1.out.mono ?_
              rintro e w9 ⟨rfl, rfl⟩
              go_wp2_with fail
              refine T2.out.mono ?_
              rintro e w9 ⟨rfl, rfl⟩
              go_wp2_with fail
              refine T3.out.mono ?_
              rintro e w9 ⟨rfl, rfl⟩
              go_wp2_with fail
              refine T4.out.mono ?_
              rintro e w9 ⟨rfl, rfl⟩
              go_wp2_with fail
              refine T1.out.mono ?_
              rintro e w9 ⟨rfl, rfl⟩
              go_wp2_with fail
              refine T2.out.mono ?_
              rintro e w9 ⟨rfl, rfl⟩
              go_wp2_with fail
              go_roundw
              case rel => exact ⟨j + 1, M0, M1, nx2, p2, r2, buf2, by omega, by omega, by go_num, rfl, rfl, by omega, hsum2, hB2, RR, HQ2⟩
              case measure => simp [intOf]; omega
          · have e1 : (k == 1) = false := by simpa using k1
            cases r with
            | zero =>
              have C1 := Lib.hid (rreap_none R)
              go_wp2_with fail
              refine C1.out.mono ?_
              rintro e w8 ⟨rfl, rfl⟩
              obtain ⟨p2, r2, M0, M1, nx2, buf2, RR, hsum2, hM, hB2, HQ2, hb1, hb2⟩ : ∃ p2 r2 M0 M1 nx2 buf2, Rg wr (w.heap.size + 1) w.heap.size n buf2 nx2 p2 r2 ∧ M0 + (p2 + r2) = M1 ∧ M1 ≤ j + 1 ∧ Below w.heap.size w wr ∧ Hid (Qu buf2 nx2 n (p2 + r2) M0) ∧ M0 = N0 ∧ M1 = N1 := ⟨p, 0, N0, N1, nx, buf, R, hsum, by omega, hbw, HQ, rfl, rfl⟩
              subst hb1 hb2
              clear C1 R HQ hsum hN1
              obtain ⟨L, hL⟩ : ∃ L, p2 + r2 = L := ⟨_, rfl⟩
              obtain ⟨m, hm⟩ : ∃ m, n - p2 - r2 = m := ⟨_, rfl⟩
              have hpr2 := RR.prn
              have q1 : (p2 : Int) + (r2 : Int) = (L : Int) := by omega
              have q2 : (L : Int) + (m : Int) = (n : Int) := by omega
              have q3 : (M1 : Int) - (M0 : Int) = (L : Int) := by omega
              have T1 := Lib.hid (rposted_any RR)
              have T2 := Lib.hid (rready_any RR)
              have T3 := rroom_any RR
              rw [hm] at T3
              have T3 := Lib.hid T3
              have T4 := Lib.hid (rsize_any RR)
              have hM80 : M1 ≤ 80 := by omega
              clear hL hm
              go_wp2_with fail
              refine T1.out.mono ?_
              rintro e w9 ⟨rfl, rfl⟩
              go_wp2_with fail
              refine T2.out.mono ?_
              rintro e w9 ⟨rfl, rfl⟩
              go_wp2_with fail
              refine T3.out.mono ?_
              rintro e w9 ⟨rfl, rfl⟩
              go_wp2_with fail
              refine T4.out.mono ?_
              rintro e w9 ⟨rfl, rfl⟩
              go_wp2_with fail
              refine T1.out.mono ?_
              rintro e w9 ⟨rfl, rfl⟩
              go_wp2_with fail
              refine T2.out.mono ?_
              rintro e w9 ⟨rfl, rfl⟩
              go_wp2_with fail
              go_roundw
              case rel => exact ⟨j + 1, M0, M1, nx2, p2, r2, buf2, by omega, by omega, by go_num, rfl, rfl, by omega, hsum2, hB2, RR, HQ2⟩
              case measure => simp [intOf]; omega
            | succ r =>
              have hx := HQ.out 0 (by omega)
              rw [Nat.add_zero, Nat.add_zero] at hx
              have C1 := Lib.hid (rreap_ok R _ rfl (N0 : Int) hx w.heap.size hnil)
              obtain ⟨M0, hM0⟩ : ∃ M0, N0 + 1 = M0 := ⟨_, rfl⟩
              have hM0i : (N0 : Int) + 1 = (M0 : Int) := by omega
              have HQ3 : Hid (Qu buf nx n (p + r) M0) := by
                rw [← hM0]
                exact Qu.reap HQ.out (by omega)
              clear hx
              go_wp2_with fail
              refine C1.out.mono ?_
              rintro e w8 ⟨rfl, hb8, R8⟩
              have hB2 := hbw.trans hb8
              obtain ⟨p2, r2, M1, nx2, buf2, RR, hsum2, hM, HQ2, hb1⟩ : ∃ p2 r2 M1 nx2 buf2, Rg w8 (w.heap.size + 1) w.heap.size n buf2 nx2 p2 r2 ∧ M0 + (p2 + r2) = M1 ∧ M1 ≤ j + 1 ∧ Hid (Qu buf2 nx2 n (p2 + r2) M0) ∧ M1 = N1 := ⟨p, r, N1, nx, buf, R8, by omega, by omega, HQ3, rfl⟩
              subst hb1
              clear C1 R R8 HQ HQ3 hb8 hM0 hsum hN1
              obtain ⟨L, hL⟩ : ∃ L, p2 + r2 = L := ⟨_, rfl⟩
              obtain ⟨m, hm⟩ : ∃ m, n - p2 - r2 = m := ⟨_, rfl⟩
              have hpr2 := RR.prn
              have q1 : (p2 : Int) + (r2 : Int) = (L : Int) := by omega
              have q2 : (L : Int) + (m : Int) = (n : Int) := by omega
              have q3 : (M1 : Int) - (M0 : Int) = (L : Int) := by omega
              have T1 := Lib.hid (rposted_any RR)
              have T2 := Lib.hid (rready_any RR)
              have T3 := rroom_any RR
              rw [hm] at T3
              have T3 := Lib.hid T3
              have T4 := Lib.hid (rsize_any RR)
              have hM80 : M1 ≤ 80 := by omega
              clear hL hm
              go_wp2_with fail
              refine T1.out.mono ?_
              rintro e w9 ⟨rfl, rfl⟩
              go_wp2_with fail
              refine T2.out.mono ?_
              rintro e w9 ⟨rfl, rfl⟩
              go_wp2_with fail
              refine T3.out.mono ?_
              rintro e w9 ⟨rfl, rfl⟩
              go_wp2_with fail
              refine T4.out.mono ?_
              rintro e w9 ⟨rfl, rfl⟩
              go_wp2_with fail
              refine T1.out.mono ?_
              rintro e w9 ⟨rfl, rfl⟩
              go_wp2_with fail
              refine T2.out.mono ?_
              rintro e w9 ⟨rfl, rfl⟩
              go_wp2_with fail
              go_roundw
              case rel => exact ⟨j + 1, M0, M1, nx2, p2, r2, buf2, by omega, by omega, by go_num, rfl, rfl, by omega, hsum2, hB2, RR, HQ2⟩
              case measure => simp [intOf]; omega
      · have : j = 80 := by omega
        subst this
        go_wp2_with fail
        refine (ringlives_any _).mono ?_
        rintro e w8 ⟨rfl, hb⟩
        go_wp2_with fail
        go_ret
        exact ⟨rfl, bnext hbw hb⟩
    · have : j = len1 := by omega
      subst this
      go_wp2_with fail
      refine (ringlives_any _).mono ?_
      rintro e w8 ⟨rfl, hb⟩
      go_wp2_with fail
      go_ret
      exact ⟨rfl, bnext hbw hb⟩
end Go.Proofs.Ytbcofkiefompgaa
