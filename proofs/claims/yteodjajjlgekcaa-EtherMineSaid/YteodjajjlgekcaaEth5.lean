/- Contracts of the reference's answers for package ether: Parse, Few, Same. -/
import Derived.Test.YteodjajjlgekcaaEth4
import Derived.Test.YteodjajjlgekcaaArr
namespace Go.Proofs.Yteodjajjlgekcaa
open Go.RowKit

theorem u8sz : (Try.prog.info? 5).map (·.size) = some 1 := by kernel_rfl
@[go_sem] theorem eqmac (x0 x1 x2 x3 x4 x5 y0 y1 y2 y3 y4 y5 : Int) (w : World) :
    (Op.equalIn 10000 49 (.agg #[.int .u8 x0, .int .u8 x1, .int .u8 x2, .int .u8 x3, .int .u8 x4, .int .u8 x5]) (.agg #[.int .u8 y0, .int .u8 y1, .int .u8 y2, .int .u8 y3, .int .u8 y4, .int .u8 y5])).run Try.prog w = .ok (x0 == y0 && (x1 == y1 && (x2 == y2 && (x3 == y3 && (x4 == y4 && x5 == y5))))) w :=
  run_equalIn_mac Try.prog w 9998 49 5 (by kernel_rfl) (by kernel_rfl) u8sz x0 x1 x2 x3 x4 x5 y0 y1 y2 y3 y4 y5

theorem reparse_short (A : Option Addr) (c : Nat) (xs : List UInt8) (w : World) (hr : Rd bv w w.heap.size A c xs) (h8 : xs.length < 14) :
    Calls Try.prog 50 #[.slice A xs.length c] w fun e w' => e = .returned (.tuple #[.agg #[.int .u8 0, .int .u8 0, .int .u8 0, .int .u8 0, .int .u8 0, .int .u8 0, .int .u8 0, .int .u8 0, .int .u8 0, .int .u8 0, .int .u8 0, .int .u8 0, .int .u16 0, .slice none 0 0], .int .i64 4]) ∧ Below w.heap.size w w' := by
  have hlc := hr.len
  have hcc := hr.cap
  go_enter Try.func50, Try.ntmps50
  go_wp2_with fail
  simp [bodyPost, results, Try.results50, go_sem]
  exact bnextA (Below.refl _ _) _
set_option maxRecDepth 8000 in
theorem reparse_form (A : Option Addr) (c : Nat) (xs : List UInt8) (w : World) (hr : Rd bv w w.heap.size A c xs) (h14 : 14 ≤ xs.length) (T : Nat) (hT : beN ((xs.drop 12).take 2) = T) (h15 : T < 1536) :
    Calls Try.prog 50 #[.slice A xs.length c] w fun e w' => e = .returned (.tuple #[.agg #[.int .u8 0, .int .u8 0, .int .u8 0, .int .u8 0, .int .u8 0, .int .u8 0, .int .u8 0, .int .u8 0, .int .u8 0, .int .u8 0, .int .u8 0, .int .u8 0, .int .u16 0, .slice none 0 0], .int .i64 3]) ∧ Below w.heap.size w w' := by
  have hlc := hr.len
  have hcc := hr.cap
  have hdT : decide ((T : Int) < 1536) = true := by simp; omega
  have HG := fun W (h : Rd bv W W.heap.size A c xs) => Lib.hid (rget2_yes A c xs 12 W _ h (by omega))
  rw [hT] at HG
  clear hT
  go_enter Try.func50, Try.ntmps50
  go_wp2_with fail
  refine (HG _ (hr.nextA _)).out.mono ?_
  rintro e w1 ⟨rfl, rfl⟩
  go_wp2_with fail
  simp [bodyPost, results, Try.results50, go_sem]
  exact bnextA (Below.refl _ _) _
set_option maxRecDepth 8000 in
theorem reparse_ok (A : Option Addr) (c : Nat) (xs : List UInt8) (w : World) (hr : Rd bv w w.heap.size A c xs) (h14 : 14 ≤ xs.length) (hl : xs.length ≤ 1000000) (T : Nat) (hT : beN ((xs.drop 12).take 2) = T) (h15 : 1536 ≤ T) (x0 x1 x2 x3 x4 x5 x6 x7 x8 x9 x10 x11 : UInt8) (hx : xs.take 12 = [x0, x1, x2, x3, x4, x5, x6, x7, x8, x9, x10, x11]) :
    Calls Try.prog 50 #[.slice A xs.length c] w fun e w' => ∃ L A1 c1, e = .returned (.tuple #[.agg #[.int .u8 (x0.toNat : Int), .int .u8 (x1.toNat : Int), .int .u8 (x2.toNat : Int), .int .u8 (x3.toNat : Int), .int .u8 (x4.toNat : Int), .int .u8 (x5.toNat : Int), .int .u8 (x6.toNat : Int), .int .u8 (x7.toNat : Int), .int .u8 (x8.toNat : Int), .int .u8 (x9.toNat : Int), .int .u8 (x10.toNat : Int), .int .u8 (x11.toNat : Int), .int .u16 (T : Int), .slice A1 L.length c1], .int .i64 0]) ∧ Hid (L = xs.drop 14) ∧ Rd bv w' w'.heap.size A1 c1 L ∧ Below w.heap.size w w' := by
  have hlc := hr.len
  have hcc := hr.cap
  have hT65 : T < 65536 := by
    rw [← hT, take_two xs 12 (by omega), beN_two]
    have := (xs[12]).toNat_lt
    have := (xs[12 + 1]).toNat_lt
    omega
  have hdT : decide ((T : Int) < 1536) = false := by simp; omega
  have hm0 : (xs.drop 0).take 6 = [x0, x1, x2, x3, x4, x5] := by
    have := congrArg (fun l => l.take 6) hx
    simpa [List.take_take] using this
  have hm6 : (xs.drop 6).take 6 = [x6, x7, x8, x9, x10, x11] := by
    have := congrArg (fun l => l.drop 6) hx
    rw [List.drop_take] at this
    simpa using this
  have HM0 := Lib.hid hm0
  have HM6 := Lib.hid hm6
  have HG := fun W (h : Rd bv W W.heap.size A c xs) => Lib.hid (rget2_yes A c xs 12 W _ h (by omega))
  rw [hT] at HG
  clear hT hm0 hm6 hx
  go_enter Try.func50, Try.ntmps50
  go_wp2_with fail
  refine (HG _ (hr.nextA _)).out.mono ?_
  rintro e w1 ⟨rfl, rfl⟩
  clear HG
  go_wp2_with fail
  have hcut := rcut_yes A c xs 14 (xs.length - 14) _ (hr.nextA (.cells #[.int .u8 0, .int .u8 0, .int .u8 0, .int .u8 0, .int .u8 0, .int .u8 0, .int .u8 0, .int .u8 0, .int .u8 0, .int .u8 0, .int .u8 0, .int .u8 0, .int .u16 0, .slice none 0 0] 51)) (by omega) hl
  rw [drop_len14 xs, show ((xs.length - 14 : Nat) : Int) = (xs.length : Int) - 14 by omega] at hcut
  refine hcut.mono ?_
  clear hcut
  rintro e w1 ⟨v1, rfl, hown, hY⟩
  obtain ⟨L1, A1, c1, HL1, rfl, -⟩ := hown.rdv
  have hr1 := (hr.nextA _).next hY
  have hO := Lib.hid hown
  clear hown
  go_wp2_with fail
  refine (rmacat_any A c xs 0 _ hr1 (by omega) x0 x1 x2 x3 x4 x5 HM0.out).mono ?_
  rintro e w2 ⟨rfl, hb2⟩
  have hr2 := hr1.next hb2
  replace hY := bnext hY hb2
  replace hO := Lib.hid (hO.out.nextO hb2)
  clear hb2 hr1
  go_wp2_with fail
  refine (rmacat_any A c xs 6 _ hr2 (by omega) x6 x7 x8 x9 x10 x11 HM6.out).mono ?_
  rintro e w3 ⟨rfl, hb3⟩
  replace hY := bnext hY hb3
  replace hO := Lib.hid (hO.out.nextO hb3)
  have hB := bnext (bnextA (Below.refl w.heap.size w) _) hY
  clear hb3 hr2 hr
  have f0 := (blk rfl hY 0).2
  have e0 := (blk rfl hY 0).1
  have f1 := (blk rfl hY 1).2
  have e1 := (blk rfl hY 1).1
  have f2 := (blk rfl hY 2).2
  have e2 := (blk rfl hY 2).1
  have f3 := (blk rfl hY 3).2
  have e3 := (blk rfl hY 3).1
  have f4 := (blk rfl hY 4).2
  have e4 := (blk rfl hY 4).1
  have f5 := (blk rfl hY 5).2
  have e5 := (blk rfl hY 5).1
  have f6 := (blk rfl hY 6).2
  have e6 := (blk rfl hY 6).1
  have f7 := (blk rfl hY 7).2
  have e7 := (blk rfl hY 7).1
  have f8 := (blk rfl hY 8).2
  have e8 := (blk rfl hY 8).1
  have f9 := (blk rfl hY 9).2
  have e9 := (blk rfl hY 9).1
  have f10 := (blk rfl hY 10).2
  have e10 := (blk rfl hY 10).1
  have f11 := (blk rfl hY 11).2
  have e11 := (blk rfl hY 11).1
  have f12 := (blk rfl hY 12).2
  have e12 := (blk rfl hY 12).1
  have f13 := (blk rfl hY 13).2
  have e13 := (blk rfl hY 13).1
  simp at e0 e1 e2 e3 e4 e5 e6 e7 e8 e9 e10 e11 e12 e13
  clear hY HM0 HM6
  have hTw : IntKind.u16.wrap (T : Int) = (T : Int) := by rw [IntKind.wrap_u16]; omega
  go_wp2_with fail
  simp [bodyPost, results, Try.results50, go_sem, *]
  rw [← HL1.out] at hO
  have hO2 := hO.out
  refine ⟨L1, A1, c1, ⟨rfl, rfl, rfl⟩, HL1, ?_, ?_⟩
  · simpa using (Own.setBelow (p := ⟨w.heap.size, 13, none⟩) (Own.setBelow (p := ⟨w.heap.size, 12, none⟩) (Own.setBelow (p := ⟨w.heap.size, 11, none⟩) (Own.setBelow (p := ⟨w.heap.size, 10, none⟩) (Own.setBelow (p := ⟨w.heap.size, 9, none⟩) (Own.setBelow (p := ⟨w.heap.size, 8, none⟩) (Own.setBelow (p := ⟨w.heap.size, 7, none⟩) (Own.setBelow (p := ⟨w.heap.size, 6, none⟩) (Own.setBelow (p := ⟨w.heap.size, 5, none⟩) (Own.setBelow (p := ⟨w.heap.size, 4, none⟩) (Own.setBelow (p := ⟨w.heap.size, 3, none⟩) (Own.setBelow (p := ⟨w.heap.size, 2, none⟩) (Own.setBelow (p := ⟨w.heap.size, 1, none⟩) (Own.setBelow (p := ⟨w.heap.size, 0, none⟩) hO2 (by simp) (.int .u8 (x0.toNat : Int))) (by simp) (.int .u8 (x1.toNat : Int))) (by simp) (.int .u8 (x2.toNat : Int))) (by simp) (.int .u8 (x3.toNat : Int))) (by simp) (.int .u8 (x4.toNat : Int))) (by simp) (.int .u8 (x5.toNat : Int))) (by simp) (.int .u8 (x6.toNat : Int))) (by simp) (.int .u8 (x7.toNat : Int))) (by simp) (.int .u8 (x8.toNat : Int))) (by simp) (.int .u8 (x9.toNat : Int))) (by simp) (.int .u8 (x10.toNat : Int))) (by simp) (.int .u8 (x11.toNat : Int))) (by simp) (.int .u16 (T : Int))) (by simp) (.slice A1 L1.length c1)).rdS
  · exact (Below.setCell (p := ⟨_, 13, none⟩) (Below.setCell (p := ⟨_, 12, none⟩) (Below.setCell (p := ⟨_, 11, none⟩) (Below.setCell (p := ⟨_, 10, none⟩) (Below.setCell (p := ⟨_, 9, none⟩) (Below.setCell (p := ⟨_, 8, none⟩) (Below.setCell (p := ⟨_, 7, none⟩) (Below.setCell (p := ⟨_, 6, none⟩) (Below.setCell (p := ⟨_, 5, none⟩) (Below.setCell (p := ⟨_, 4, none⟩) (Below.setCell (p := ⟨_, 3, none⟩) (Below.setCell (p := ⟨_, 2, none⟩) (Below.setCell (p := ⟨_, 1, none⟩) (Below.setCell (p := ⟨_, 0, none⟩) hB (Nat.le_refl _) _) (Nat.le_refl _) _) (Nat.le_refl _) _) (Nat.le_refl _) _) (Nat.le_refl _) _) (Nat.le_refl _) _) (Nat.le_refl _) _) (Nat.le_refl _) _) (Nat.le_refl _) _) (Nat.le_refl _) _) (Nat.le_refl _) _) (Nat.le_refl _) _) (Nat.le_refl _) _) (Nat.le_refl _) _)

end Go.Proofs.Yteodjajjlgekcaa
