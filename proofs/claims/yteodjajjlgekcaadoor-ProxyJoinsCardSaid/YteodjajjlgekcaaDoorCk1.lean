/- The variable sizes, as it is laid; contracts of round, Epoch, Place, Size and Index, on both sides. -/
import Derived.Test.YteodjajjlgekcaaDoorCk0
import Derived.Test.YteodjajjlgekcaaDoorRows
import Derived.LaidMore
import Derived.OpenShut
import Derived.Stop.Joined
namespace Go.Proofs.YteodjajjlgekcaaDoor
open Go.RowKit Go.ChangeShapes Go.WideShapes Go.ChangeAt

def szL : List Int := [216, 536, 996, 1220, 1300, 1400, 1440, 1460]
/-- The variable holds the document's sizes. -/
def SZ (w : World) : Prop := ∀ j (h : j < 8), w.cell? ⟨0, j, none⟩ = some (.int .u16 (szL[j]'(by simpa [szL] using h)))
theorem SZ.lt {w : World} (h : SZ w) : 0 < w.heap.size := World.block_lt_of_cell? w ⟨0, 0, none⟩ (h 0 (by decide))
theorem SZ.next {w w' : World} (h : SZ w) (hb : Below w.heap.size w w') : SZ w' := fun j hj => (hb.cell (p := ⟨0, j, none⟩) h.lt).trans (h j hj)
theorem SZ.nextA {w : World} (h : SZ w) (o : Obj) : SZ (w.alloc o) := h.next ((Below.refl _ _).alloc (Nat.le_refl _) o)
theorem cons_of8 {α : Type} {l : List α} {n : Nat} (h : l.length = n + 1) : ∃ c l1, l = c :: l1 ∧ l1.length = n := by
  cases l with
  | nil => cases h
  | cons c l => exact ⟨c, l, rfl, by simpa using h⟩
theorem list_8 {α : Type} (l : List α) (h : l.length = 8) : ∃ c0 c1 c2 c3 c4 c5 c6 c7, l = [c0, c1, c2, c3, c4, c5, c6, c7] := by
  obtain ⟨c0, l0, e0, h0⟩ := cons_of8 h
  obtain ⟨c1, l1, e1, h1⟩ := cons_of8 h0
  obtain ⟨c2, l2, e2, h2⟩ := cons_of8 h1
  obtain ⟨c3, l3, e3, h3⟩ := cons_of8 h2
  obtain ⟨c4, l4, e4, h4⟩ := cons_of8 h3
  obtain ⟨c5, l5, e5, h5⟩ := cons_of8 h4
  obtain ⟨c6, l6, e6, h6⟩ := cons_of8 h5
  obtain ⟨c7, l7, e7, h7⟩ := cons_of8 h6
  have e8 := List.eq_nil_of_length_eq_zero h7
  subst e8 e7 e6 e5 e4 e3 e2 e1 e0
  exact ⟨c0, c1, c2, c3, c4, c5, c6, c7, rfl⟩
set_option maxRecDepth 100000 in
theorem of_laid {W : World} (gS : Tryd.prog.globalNamed "linkboy/cookie.sizes" = some 0) (h : laidMetH Tryd.prog [("linkboy/cookie.sizes", Rows.laid_linkboy_cookie_sizes)] W) : SZ W := by
  have tS : (Tryd.prog.globals[0]?).map (·.type) = some 74 := by kernel_rfl
  have cE : Tryd.prog.cellsOf 26 = 1 := by kernel_rfl
  have cT : Tryd.prog.cellsOf 74 = 8 := by kernel_rfl
  rw [MakeChecks.laidMetH_plain _ _ _ (by kernel_rfl)] at h
  obtain ⟨ps, ⟨g0, t0, cs0, f0, p0, q0, hg0, ht0, hv0, hd0, _, _⟩, _, _⟩ := h
  obtain rfl := Option.some.inj (gS.symm.trans hg0)
  obtain rfl := Option.some.inj (tS.symm.trans ht0)
  obtain ⟨xs, m1, rfl, hx1, hlen, hn, hel⟩ := DataW.trod_array Tryd.underlying74 hd0
  simp only [Rows.laid_linkboy_cookie_sizes, Prod.mk.injEq, DataW.agg.injEq] at hx1
  obtain ⟨y0, y1, y2, y3, y4, y5, y6, y7, rfl⟩ := list_8 xs hn
  obtain ⟨l⟩ := cs0
  simp only [List.map_cons, List.map_nil, List.cons.injEq, and_true] at hx1
  obtain ⟨⟨x0, x1, x2, x3, x4, x5, x6, x7⟩, -⟩ := hx1
  have hcell : ∀ j, W.cell? ⟨0, j, none⟩ = l[j]? := fun j => by
    have := World.var?_cell hg0 hv0 j
    simpa using this
  simp only [cE] at hel hlen
  have key : ∀ j (hj : j < 8) y k, [y0, y1, y2, y3, y4, y5, y6, y7][j]? = some y → y.1 = .lit (.int .u16 k) → l[j]? = some (.int .u16 k) := by
    intro j hj y k hy hk
    have h0 := hel j hj
    rw [hy] at h0
    obtain ⟨k', e1, e2, _⟩ := DataW.trod_int Tryd.underlying26 h0
    rw [e2] at hk
    injection hk with hk
    injection hk with _ hk
    subst hk
    rw [← Nat.mul_one j, ← Nat.zero_add (j * 1)] at *
    have e3 := congrArg (fun q => q[0]?) e1
    simpa using e3
  intro j hj
  rw [hcell]
  match j, hj with
  | 0, _ => exact key 0 (by decide) y0 _ rfl x0.symm
  | 1, _ => exact key 1 (by decide) y1 _ rfl x1.symm
  | 2, _ => exact key 2 (by decide) y2 _ rfl x2.symm
  | 3, _ => exact key 3 (by decide) y3 _ rfl x3.symm
  | 4, _ => exact key 4 (by decide) y4 _ rfl x4.symm
  | 5, _ => exact key 5 (by decide) y5 _ rfl x5.symm
  | 6, _ => exact key 6 (by decide) y6 _ rfl x6.symm
  | 7, _ => exact key 7 (by decide) y7 _ rfl x7.symm

theorem cround_any (n : Int) (m : Nat) (h0 : 0 < m) (h1 : m ≤ 100) (M : Int) (hM : Hid (M = (m : Int))) (w : World) : Calls Tryd.prog 37 #[.int .i64 n, .int .i64 M] w fun e w' => e = .returned (.int .i64 ((ckR n m : Nat) : Int)) ∧ w = w' := by
  have hM' := hM.out
  have z1 : (M == 0) = false := by simp; omega
  have z2 : M ≠ 0 := by omega
  have hr : max n 0 % M = ((ckR n m : Nat) : Int) := by
    subst hM'
    unfold ckR
    rcases Int.le_total n 0 with h | h
    · rw [Int.max_eq_right h, show n.toNat = 0 by omega]; simp
    · obtain ⟨k, rfl⟩ : ∃ k : Nat, n = (k : Int) := ⟨n.toNat, by omega⟩
      rw [Int.max_eq_left h]; simp
  clear hM' hM
  go_enter Tryd.func37, Tryd.ntmps37
  go_wp2_with fail
  go_ret
  exact ⟨ret_int hr, rfl⟩
theorem cepoch_any (v : Nat) (hv : v < 4294967296) (w : World) : Calls Tryd.prog 11 #[.int .u32 (v : Int)] w fun e w' => e = .returned (.int .i64 ((v / 134217728 : Nat) : Int)) ∧ w = w' := by
  go_enter Tryd.func11, Tryd.ntmps11
  go_wp2_with fail
  go_ret
  exact ⟨ret_int (by show _ = _; omega), rfl⟩
theorem cplace_any (v : Nat) (hv : v < 4294967296) (w : World) : Calls Tryd.prog 12 #[.int .u32 (v : Int)] w fun e w' => e = .returned (.int .i64 ((v / 16777216 % 8 : Nat) : Int)) ∧ w = w' := by
  go_enter Tryd.func12, Tryd.ntmps12
  go_wp2_with fail
  go_ret
  exact ⟨ret_int (by show _ = _; omega), rfl⟩
theorem csize_no (i : Int) (h : i < 0 ∨ 8 ≤ i) (w : World) : Calls Tryd.prog 15 #[.int .i64 i] w fun e w' => e = .returned (.int .u16 0) ∧ w = w' := by
  by_cases h0 : i < 0
  · have a1 : decide (i < 0) = true := by simp [h0]
    go_enter Tryd.func15, Tryd.ntmps15
    go_wp2_with fail
    go_ret
    exact ⟨rfl, rfl⟩
  · have a1 : decide (i < 0) = false := by simp [h0]
    have a2 : decide (8 ≤ i) = true := by simp; omega
    go_enter Tryd.func15, Tryd.ntmps15
    go_wp2_with fail
    go_ret
    exact ⟨rfl, rfl⟩
theorem csize_at (i : Nat) (h : i < 8) (w : World) (hS : SZ w) : Calls Tryd.prog 15 #[.int .i64 (i : Int)] w fun e w' => e = .returned (.int .u16 (szL[i]'(by simpa [szL] using h))) ∧ w = w' := by
  have c0 := hS i h
  have a1 : decide ((i : Int) < 0) = false := by simp
  have a2 : decide (8 ≤ (i : Int)) = false := by simp; omega
  have a3 : (i : Int) < 8 := by omega
  clear hS
  generalize szL[i]'(by simpa [szL] using h) = x at *
  go_enter Tryd.func15, Tryd.ntmps15
  go_wp2_with fail
  go_ret
  exact ⟨rfl, rfl⟩
theorem rsize_no (i : Int) (h : i < 0 ∨ 8 ≤ i) (w : World) : Calls Tryd.prog 16 #[.int .i64 i] w fun e w' => e = .returned (.int .u16 0) ∧ Below w.heap.size w w' := by
  by_cases h0 : i < 0
  · have a1 : decide (i < 0) = true := by simp [h0]
    go_enter Tryd.func16, Tryd.ntmps16
    go_wp2_with fail
    go_ret
    exact ⟨rfl, Below.refl _ _⟩
  · have a1 : decide (i < 0) = false := by simp [h0]
    have a2 : decide (7 < i) = true := by simp; omega
    go_enter Tryd.func16, Tryd.ntmps16
    go_wp2_with fail
    go_ret
    exact ⟨rfl, Below.refl _ _⟩
theorem rsize_at (i : Nat) (h : i < 8) (w : World) : Calls Tryd.prog 16 #[.int .i64 (i : Int)] w fun e w' => e = .returned (.int .u16 (szL[i]'(by simpa [szL] using h))) ∧ Below w.heap.size w w' := by
  match i, h with
  | 0, _ | 1, _ | 2, _ | 3, _ | 4, _ | 5, _ | 6, _ | 7, _ =>
    go_enter Tryd.func16, Tryd.ntmps16
    go_wp2_with fail
    go_ret
    exact ⟨rfl, bnextA (Below.refl _ _) _⟩
theorem run_index_arr {P : Program} {w : World} (t e : TypeId) (n : Nat) (cs : Array Value) (k K : IntKind) (i : Nat) (v : Value) (h : P.underlying t = some (.array n e)) (hi : i < n) (he : P.underlying e = some (.int K)) (hs : (P.info? e).map (·.size) = some 1) (hv : cs[i]? = some v) :
    (Instr.index t (.agg cs) (.int k (i : Int))).run P w = .ok v w := by
  obtain ⟨j, hj, hj2⟩ := Option.map_eq_some_iff.mp hs
  have hn : 0 ≤ (i : Int) ∧ (i : Int) < (n : Int) := by omega
  simp [Instr.index, run_underlying h, run_underlying he, asIntOf, hn, go_sem, sizeOf, typeInfo, run_program, hj, hj2, part, isAgg, hv]
  intro h0
  omega
/-- The place of the greatest of the first j sizes that is no greater than n. -/
def idxN (n : Int) : Nat → Nat
  | 0 => 0
  | j + 1 => if szL.getD j 0 ≤ n then j else idxN n j
theorem idxN_lt (n : Int) : ∀ j, 0 < j → idxN n j < j := by
  intro j
  induction j with
  | zero => intro h; omega
  | succ j ih =>
    intro _
    unfold idxN
    split
    · omega
    · rcases j with _ | j
      · simp [idxN]
      · have := ih (by omega); omega
set_option maxHeartbeats 1000000 in
theorem cindex_any (n : Int) (w : World) (hS : SZ w) : Calls Tryd.prog 13 #[.int .u16 n] w fun e w' => e = .returned (.int .i64 ((idxN n 8 : Nat) : Int)) ∧ w = w' := by
  have c0 : w.cell? ⟨0, 0, none⟩ = some (.int .u16 216) := hS 0 (by decide)
  have c1 : w.cell? ⟨0, 1, none⟩ = some (.int .u16 536) := hS 1 (by decide)
  have c2 : w.cell? ⟨0, 2, none⟩ = some (.int .u16 996) := hS 2 (by decide)
  have c3 : w.cell? ⟨0, 3, none⟩ = some (.int .u16 1220) := hS 3 (by decide)
  have c4 : w.cell? ⟨0, 4, none⟩ = some (.int .u16 1300) := hS 4 (by decide)
  have c5 : w.cell? ⟨0, 5, none⟩ = some (.int .u16 1400) := hS 5 (by decide)
  have c6 : w.cell? ⟨0, 6, none⟩ = some (.int .u16 1440) := hS 6 (by decide)
  have c7 : w.cell? ⟨0, 7, none⟩ = some (.int .u16 1460) := hS 7 (by decide)
  clear hS
  go_enter Tryd.func13, Tryd.ntmps13
  go_wp2_with fail
  clear c0 c1 c2 c3 c4 c5 c6 c7
  have HI : ∀ (k : Nat) (hk : k < 8) W, (Instr.index 74 (.agg #[.int .u16 216, .int .u16 536, .int .u16 996, .int .u16 1220, .int .u16 1300, .int .u16 1400, .int .u16 1440, .int .u16 1460]) (.int .i64 (k : Int))).run Tryd.prog W = .ok (.int .u16 (szL[k]'(by simpa [szL] using hk))) W := by
    intro k hk W
    refine run_index_arr 74 26 8 _ _ _ k _ Tryd.underlying74 hk Tryd.underlying26 (by kernel_rfl) ?_
    have h8 : k = 0 ∨ k = 1 ∨ k = 2 ∨ k = 3 ∨ k = 4 ∨ k = 5 ∨ k = 6 ∨ k = 7 := by omega
    rcases h8 with rfl | rfl | rfl | rfl | rfl | rfl | rfl | rfl <;> rfl
  generalize Value.agg #[.int .u16 216, .int .u16 536, .int .u16 996, .int .u16 1220, .int .u16 1300, .int .u16 1400, .int .u16 1440, .int .u16 1460] = AV at HI ⊢
  go_loop [3, 7] (fun best i => ∃ j b : Nat, j ≤ 8 ∧ i = .int .i64 j ∧ best = .int .i64 b ∧ Hid (idxN n j = b)) (fun _ i => 8 - (intOf i).toNat)
  case atStart => exact ⟨0, 0, by omega, rfl, rfl, rfl⟩
  case round =>
    obtain ⟨j, b, hj, rfl, rfl, hb⟩ := hrel
    by_cases hlt : j < 8
    · have hI := HI j hlt
      have a0 : decide ((j : Int) < 8) = true := by simp; omega
      have hx : szL.getD j 0 = szL[j]'(by simpa [szL] using hlt) := by rw [List.getD_eq_getElem?_getD, List.getElem?_eq_getElem (by simpa [szL] using hlt)]; rfl
      generalize szL[j]'(by simpa [szL] using hlt) = x at hI hx
      by_cases ht : x ≤ n
      · have a1 : decide (x ≤ n) = true := by simp [ht]
        have hn : Hid (idxN n (j + 1) = j) := by rw [Hid, idxN, if_pos (by rw [hx]; exact ht)]
        have HLT := Lib.hid hlt
        clear ht hb HI hx hlt
        go_wp2_with fail
        go_round
        case rel => have := HLT.out; exact ⟨j + 1, j, by omega, by go_num, rfl, hn⟩
        case measure => have := HLT.out; simp [intOf]; omega
      · have a1 : decide (x ≤ n) = false := by simp; omega
        have hn : Hid (idxN n (j + 1) = b) := by rw [Hid, idxN, if_neg (by rw [hx]; exact ht)]; exact hb.out
        have HLT := Lib.hid hlt
        clear ht hb HI hx hlt
        go_wp2_with fail
        go_round
        case rel => have := HLT.out; exact ⟨j + 1, b, by omega, by go_num, rfl, hn⟩
        case measure => have := HLT.out; simp [intOf]; omega
    · obtain rfl : j = 8 := by omega
      have hb8 := hb.out
      clear hb hlt
      go_wp2_with fail
      go_ret
      exact ⟨ret_int rfl, rfl⟩
theorem rindex_any (n : Int) (w : World) : Calls Tryd.prog 14 #[.int .u16 n] w fun e w' => e = .returned (.int .i64 ((idxN n 8 : Nat) : Int)) ∧ Below w.heap.size w w' := by
  go_enter Tryd.func14, Tryd.ntmps14
  go_wp2_with fail
  go_loopw [3] (fun i wr => ∃ j : Nat, j ≤ 7 ∧ i = .int .i64 j ∧ Hid (idxN n 8 = idxN n (j + 1)) ∧ Below w.heap.size w wr) (fun i _ => (intOf i).toNat)
  case atStart => exact ⟨7, by omega, rfl, rfl, Below.refl _ _⟩
  case round =>
    obtain ⟨j, hj, rfl, hb, hbw⟩ := hrel
    rcases j with _ | j
    · have hb0 := hb.out
      have e0 : idxN n 1 = 0 := by simp [idxN]
      rw [e0] at hb0
      clear hb e0
      go_wp2_with fail
      go_ret
      exact ⟨ret_int (by rw [hb0]; rfl), hbw⟩
    · have a0 : decide ((0 : Int) < ((j + 1 : Nat) : Int)) = true := by simp <;> omega
      have HR := Lib.hid (rsize_at (j + 1) (by omega) wr)
      obtain ⟨x, hx⟩ : ∃ x : Int, szL[j + 1]'(by simp [szL]; omega) = x := ⟨_, rfl⟩
      rw [hx] at HR
      have hgd : szL.getD (j + 1) 0 = x := by rw [← hx, List.getD_eq_getElem?_getD, List.getElem?_eq_getElem (by simp [szL]; omega)]; rfl
      by_cases ht : x ≤ n
      · have a1 : decide (x ≤ n) = true := by simp [ht]
        have hn : idxN n (j + 1 + 1) = j + 1 := by rw [idxN, if_pos (by rw [hgd]; exact ht)]
        have hb0 := hb.out
        rw [hn] at hb0
        have HB := Lib.hid hb0
        clear hb hn hb0 hgd hx
        go_wp2_with fail
        refine HR.out.mono ?_
        rintro e w1 ⟨rfl, hb1⟩
        go_wp2_with fail
        go_ret
        exact ⟨ret_int (by rw [HB.out]; rfl), hbw.trans (hb1.mono hbw.size)⟩
      · have a1 : decide (x ≤ n) = false := by simp; omega
        have hn : Hid (idxN n 8 = idxN n (j + 1)) := by
          have h2 := hb.out
          rw [show idxN n (j + 1 + 1) = idxN n (j + 1) from by rw [idxN, if_neg (by rw [hgd]; exact ht)]] at h2
          exact h2
        clear hb hgd hx
        go_wp2_with fail
        refine HR.out.mono ?_
        rintro e w1 ⟨rfl, hb1⟩
        go_wp2_with fail
        go_roundw
        case rel => exact ⟨j, by omega, by go_num, hn, hbw.trans (hb1.mono hbw.size)⟩
        case measure => simp [intOf]
end Go.Proofs.YteodjajjlgekcaaDoor
