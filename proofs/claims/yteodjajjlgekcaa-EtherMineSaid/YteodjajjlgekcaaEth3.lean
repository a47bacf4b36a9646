/- Contracts of ether.Parse. -/
import Derived.Test.YteodjajjlgekcaaEth2
import Derived.Test.YteodjajjlgekcaaOct4
namespace Go.Proofs.Yteodjajjlgekcaa
open Go.RowKit

theorem drop_len14 (xs : List UInt8) : ((xs.drop 14).take (xs.length - 14)) = xs.drop 14 := by
  rw [List.take_of_length_le (by simp)]
theorem eparse_short (A : Option Addr) (c : Nat) (xs : List UInt8) (w : World) (hr : Rd bv w w.heap.size A c xs) (h8 : xs.length < 14) :
    Calls Try.prog 46 #[.slice A xs.length c] w fun e w' => e = .returned (.tuple #[.agg #[.int .u8 0, .int .u8 0, .int .u8 0, .int .u8 0, .int .u8 0, .int .u8 0, .int .u8 0, .int .u8 0, .int .u8 0, .int .u8 0, .int .u8 0, .int .u8 0, .int .u16 0, .slice none 0 0], .int .i64 4]) ∧ Below w.heap.size w w' := by
  have hlc := hr.len
  have hcc := hr.cap
  go_enter Try.func46, Try.ntmps46
  go_wp2_with fail
  refine (cut_no _ _ _ _ _ _ (by omega) (by omega) (by omega)).mono ?_
  rintro e w1 ⟨rfl, rfl⟩
  go_wp2_with fail
  simp [bodyPost, results, Try.results46, go_sem]
  exact bnextA (Below.refl _ _) _
theorem modify_push {α : Type} (a : Array α) (x : α) (f : α → α) : (a.push x).modify a.size f = a.push (f x) := by
  apply Array.ext_getElem?
  intro i
  rw [Array.getElem?_modify, Array.getElem?_push, Array.getElem?_push]
  by_cases h : a.size = i
  · subst h; simp
  · rw [if_neg h, if_neg (fun h' => h h'.symm), if_neg (fun h' => h h'.symm)]
theorem setRow_alloc (w : World) (cs0 cs1 : Array Value) (e : TypeId) : (w.alloc (.cells cs0 e)).setRow w.heap.size cs1 = w.alloc (.cells cs1 e) := by
  unfold World.setRow World.alloc
  simp only [modify_push]
/-- Six bytes of a block that is new, by a copy. -/
theorem copy6 (w1 : World) (g o sLen sCap b off : Nat) (cs0 cs1 : Array Value) (e : TypeId) (src : List Value) (hg : g = w1.heap.size) (h6 : src.length = 6) (hs : 6 ≤ sLen) (ho : o + 6 ≤ cs0.size)
    (hcs : (cs0.toList.take o ++ src ++ cs0.toList.drop (o + 6)).toArray = cs1)
    (hsrc : ∀ j v, src[j]? = some v → (w1.alloc (.cells cs0 e)).cell? ((⟨b, off, none⟩ : Addr).add j) = some v) (h1 : ∀ v ∈ src, v.oneCell' = true) :
    (Builtin.copy_ #[22, 22] 3 #[.slice (some ⟨g, o, none⟩) 6 6, .slice (some ⟨b, off, none⟩) sLen sCap]).run Try.prog (w1.alloc (.cells cs0 e)) = .ok (goInt 6) (w1.alloc (.cells cs1 e)) := by
  obtain ⟨i0, hi0, hz0, hz1, hz2⟩ := info_parts info_u8
  subst hg
  have hmin : src.length = Nat.min sLen 6 := by rw [h6]; exact (Nat.min_eq_right hs).symm
  have hcs2 : (cs0.toList.take o ++ src ++ cs0.toList.drop (o + src.length)).toArray = cs1 := by rw [h6]; exact hcs
  have hrow := run_copy_row (P := Try.prog) (w1.alloc (.cells cs0 e)) 22 22 3 5 w1.heap.size o 6 6 ⟨b, off, none⟩ sLen sCap cs0 e src Try.underlying22 (by rw [hi0]; exact congrArg some hz1) (MapKept.heap_alloc w1 _).1 hmin hsrc (by omega) h1
  rw [hrow, h6]
  rw [h6] at hcs2
  rw [hcs2, setRow_alloc]
  rfl

set_option maxRecDepth 8000 in
theorem eparse_ok (A : Option Addr) (c : Nat) (xs : List UInt8) (w : World) (hr : Rd bv w w.heap.size A c xs) (h14 : 14 ≤ xs.length) (hl : xs.length ≤ 1000000) (T : Nat) (hT : beN ((xs.drop 12).take 2) = T) (h15 : 1536 ≤ T) (x0 x1 x2 x3 x4 x5 x6 x7 x8 x9 x10 x11 : UInt8) (hx : xs.take 12 = [x0, x1, x2, x3, x4, x5, x6, x7, x8, x9, x10, x11]) :
    Calls Try.prog 46 #[.slice A xs.length c] w fun e w' => ∃ L A1 c1, e = .returned (.tuple #[.agg #[.int .u8 (x0.toNat : Int), .int .u8 (x1.toNat : Int), .int .u8 (x2.toNat : Int), .int .u8 (x3.toNat : Int), .int .u8 (x4.toNat : Int), .int .u8 (x5.toNat : Int), .int .u8 (x6.toNat : Int), .int .u8 (x7.toNat : Int), .int .u8 (x8.toNat : Int), .int .u8 (x9.toNat : Int), .int .u8 (x10.toNat : Int), .int .u8 (x11.toNat : Int), .int .u16 (T : Int), .slice A1 L.length c1], .int .i64 0]) ∧ Hid (L = xs.drop 14) ∧ Rd bv w' w'.heap.size A1 c1 L ∧ Below w.heap.size w w' := by
  have hlc := hr.len
  have hcc := hr.cap
  have hT65 : T < 65536 := by
    rw [← hT, take_two xs 12 (by omega), beN_two]
    have := (xs[12]).toNat_lt
    have := (xs[12 + 1]).toNat_lt
    omega
  have hdT : decide ((T : Int) < 1536) = false := by simp; omega
  have hxj : ∀ k (hk : k < 12), xs[k] = ([x0, x1, x2, x3, x4, x5, x6, x7, x8, x9, x10, x11] : List UInt8)[k] := by
    intro k hk
    have := List.getElem_of_eq hx (i := k) (by simp; omega)
    simpa using this
  obtain ⟨i0, hi0, hz0, hz1, hz2⟩ := info_parts info_u8
  obtain ⟨A6, c6, hr6, hsl⟩ := hr.slice_l Try.underlying22 hi0 hz1 6 6 rfl (by omega)
  obtain ⟨b6, off6, rfl, hB6, hcell6⟩ := byt_at hr6 (k := 0) (by simp; omega)
  obtain ⟨b, off, rfl, hB3, hcell⟩ := byt_at hr (k := 0) (by omega)
  have HG := fun W (h : Rd bv W W.heap.size (some ⟨b, off, none⟩) c xs) => Lib.hid (get16_yes (some ⟨b, off, none⟩) c xs 12 W _ h (by omega))
  rw [hT] at HG
  clear hi0 hz0 hz1 hz2 hr6 hT
  go_enter Try.func46, Try.ntmps46
  go_wp2_with fail
  have hcut := cut_yes (some ⟨b, off, none⟩) c xs 14 (xs.length - 14) _ (hr.nextA (.cells #[.int .u8 0, .int .u8 0, .int .u8 0, .int .u8 0, .int .u8 0, .int .u8 0, .int .u8 0, .int .u8 0, .int .u8 0, .int .u8 0, .int .u8 0, .int .u8 0, .int .u16 0, .slice none 0 0] 51)) (by omega) hl
  rw [drop_len14 xs, show ((xs.length - 14 : Nat) : Int) = (xs.length : Int) - 14 by omega] at hcut
  refine hcut.mono ?_
  clear hcut
  rintro e w1 ⟨v1, rfl, hown, hZ⟩
  obtain ⟨L1, A1, c1, HL1, rfl, -⟩ := hown.rdv
  have hB := bnext (bnextA (Below.refl w.heap.size w) _) hZ
  have hr1 := (hr.nextA _).next hZ
  have hW1 := bnextA hB (.cells #[.int .u8 0, .int .u8 0, .int .u8 0, .int .u8 0, .int .u8 0, .int .u8 0, .int .u8 0, .int .u8 0, .int .u8 0, .int .u8 0, .int .u8 0, .int .u8 0, .int .u16 0, .slice A1 L1.length c1] 51)
  have hW2 := bnextA hB (.cells #[.int .u8 (x0.toNat : Int), .int .u8 (x1.toNat : Int), .int .u8 (x2.toNat : Int), .int .u8 (x3.toNat : Int), .int .u8 (x4.toNat : Int), .int .u8 (x5.toNat : Int), .int .u8 0, .int .u8 0, .int .u8 0, .int .u8 0, .int .u8 0, .int .u8 0, .int .u16 0, .slice A1 L1.length c1] 51)
  have k0 := (hW1.cell (p := ⟨b, off + 0, none⟩) hB3).trans (hcell 0 (by omega))
  have k1 := (hW1.cell (p := ⟨b, off + 1, none⟩) hB3).trans (hcell 1 (by omega))
  have k2 := (hW1.cell (p := ⟨b, off + 2, none⟩) hB3).trans (hcell 2 (by omega))
  have k3 := (hW1.cell (p := ⟨b, off + 3, none⟩) hB3).trans (hcell 3 (by omega))
  have k4 := (hW1.cell (p := ⟨b, off + 4, none⟩) hB3).trans (hcell 4 (by omega))
  have k5 := (hW1.cell (p := ⟨b, off + 5, none⟩) hB3).trans (hcell 5 (by omega))
  have n0 := (hW2.cell (p := ⟨b6, off6 + 0, none⟩) hB6).trans (hcell6 0 (by simp; omega))
  have n1 := (hW2.cell (p := ⟨b6, off6 + 1, none⟩) hB6).trans (hcell6 1 (by simp; omega))
  have n2 := (hW2.cell (p := ⟨b6, off6 + 2, none⟩) hB6).trans (hcell6 2 (by simp; omega))
  have n3 := (hW2.cell (p := ⟨b6, off6 + 3, none⟩) hB6).trans (hcell6 3 (by simp; omega))
  have n4 := (hW2.cell (p := ⟨b6, off6 + 4, none⟩) hB6).trans (hcell6 4 (by simp; omega))
  have n5 := (hW2.cell (p := ⟨b6, off6 + 5, none⟩) hB6).trans (hcell6 5 (by simp; omega))
  simp only [List.getElem_drop] at n0 n1 n2 n3 n4 n5
  rw [hxj 0 (by omega)] at k0
  rw [hxj 1 (by omega)] at k1
  rw [hxj 2 (by omega)] at k2
  rw [hxj 3 (by omega)] at k3
  rw [hxj 4 (by omega)] at k4
  rw [hxj 5 (by omega)] at k5
  rw [hxj (6 + 0) (by omega)] at n0
  rw [hxj (6 + 1) (by omega)] at n1
  rw [hxj (6 + 2) (by omega)] at n2
  rw [hxj (6 + 3) (by omega)] at n3
  rw [hxj (6 + 4) (by omega)] at n4
  rw [hxj (6 + 5) (by omega)] at n5
  simp only [Nat.add_zero] at k0 n0
  have hcp1 := copy6 w1 w1.heap.size 0 xs.length c b off #[.int .u8 0, .int .u8 0, .int .u8 0, .int .u8 0, .int .u8 0, .int .u8 0, .int .u8 0, .int .u8 0, .int .u8 0, .int .u8 0, .int .u8 0, .int .u8 0, .int .u16 0, .slice A1 L1.length c1] #[.int .u8 (x0.toNat : Int), .int .u8 (x1.toNat : Int), .int .u8 (x2.toNat : Int), .int .u8 (x3.toNat : Int), .int .u8 (x4.toNat : Int), .int .u8 (x5.toNat : Int), .int .u8 0, .int .u8 0, .int .u8 0, .int .u8 0, .int .u8 0, .int .u8 0, .int .u16 0, .slice A1 L1.length c1] 51 [.int .u8 (x0.toNat : Int), .int .u8 (x1.toNat : Int), .int .u8 (x2.toNat : Int), .int .u8 (x3.toNat : Int), .int .u8 (x4.toNat : Int), .int .u8 (x5.toNat : Int)] rfl rfl (by omega) (by simp) rfl (by intro j v h; match j, h with | 0, h | 1, h | 2, h | 3, h | 4, h | 5, h => (simp at h; subst h; rw [addr_add]; (try simp only [Nat.add_zero]); assumption) | _ + 6, h => simp at h) (by intro v hv; simp at hv; rcases hv with rfl | rfl | rfl | rfl | rfl | rfl <;> rfl)
  have hcp2 : (Builtin.copy_ #[22, 22] 3 #[.slice (some ⟨w1.heap.size, 6, none⟩) 6 6, .slice (some ⟨b6, off6, none⟩) (xs.length - 6) c6]).run Try.prog (w1.alloc (.cells #[.int .u8 (x0.toNat : Int), .int .u8 (x1.toNat : Int), .int .u8 (x2.toNat : Int), .int .u8 (x3.toNat : Int), .int .u8 (x4.toNat : Int), .int .u8 (x5.toNat : Int), .int .u8 0, .int .u8 0, .int .u8 0, .int .u8 0, .int .u8 0, .int .u8 0, .int .u16 0, .slice A1 L1.length c1] 51)).drew = .ok (goInt 6) (w1.alloc (.cells #[.int .u8 (x0.toNat : Int), .int .u8 (x1.toNat : Int), .int .u8 (x2.toNat : Int), .int .u8 (x3.toNat : Int), .int .u8 (x4.toNat : Int), .int .u8 (x5.toNat : Int), .int .u8 (x6.toNat : Int), .int .u8 (x7.toNat : Int), .int .u8 (x8.toNat : Int), .int .u8 (x9.toNat : Int), .int .u8 (x10.toNat : Int), .int .u8 (x11.toNat : Int), .int .u16 0, .slice A1 L1.length c1] 51)).drew := copy6 w1.drew w1.heap.size 6 (xs.length - 6) c6 b6 off6 #[.int .u8 (x0.toNat : Int), .int .u8 (x1.toNat : Int), .int .u8 (x2.toNat : Int), .int .u8 (x3.toNat : Int), .int .u8 (x4.toNat : Int), .int .u8 (x5.toNat : Int), .int .u8 0, .int .u8 0, .int .u8 0, .int .u8 0, .int .u8 0, .int .u8 0, .int .u16 0, .slice A1 L1.length c1] #[.int .u8 (x0.toNat : Int), .int .u8 (x1.toNat : Int), .int .u8 (x2.toNat : Int), .int .u8 (x3.toNat : Int), .int .u8 (x4.toNat : Int), .int .u8 (x5.toNat : Int), .int .u8 (x6.toNat : Int), .int .u8 (x7.toNat : Int), .int .u8 (x8.toNat : Int), .int .u8 (x9.toNat : Int), .int .u8 (x10.toNat : Int), .int .u8 (x11.toNat : Int), .int .u16 0, .slice A1 L1.length c1] 51 [.int .u8 (x6.toNat : Int), .int .u8 (x7.toNat : Int), .int .u8 (x8.toNat : Int), .int .u8 (x9.toNat : Int), .int .u8 (x10.toNat : Int), .int .u8 (x11.toNat : Int)] rfl rfl (by omega) (by simp) rfl (by intro j v h; match j, h with | 0, h | 1, h | 2, h | 3, h | 4, h | 5, h => (simp at h; subst h; rw [addr_add]; (try simp only [Nat.add_zero]); assumption) | _ + 6, h => simp at h) (by intro v hv; simp at hv; rcases hv with rfl | rfl | rfl | rfl | rfl | rfl <;> rfl)
  have hO := Lib.hid hown
  have HZ := Lib.hid hZ
  clear hown hcell hcell6 k0 k1 k2 k3 k4 k5 n0 n1 n2 n3 n4 n5 hW1 hW2 hZ hxj hx
  go_wp2_with fail
  first | (go_region) | fail
  go_wp2_with fail
  refine (HG _ ((hr1.nextA (.cells #[.int .u8 (x0.toNat : Int), .int .u8 (x1.toNat : Int), .int .u8 (x2.toNat : Int), .int .u8 (x3.toNat : Int), .int .u8 (x4.toNat : Int), .int .u8 (x5.toNat : Int), .int .u8 (x6.toNat : Int), .int .u8 (x7.toNat : Int), .int .u8 (x8.toNat : Int), .int .u8 (x9.toNat : Int), .int .u8 (x10.toNat : Int), .int .u8 (x11.toNat : Int), .int .u16 0, .slice A1 L1.length c1] 51)).drew)).out.mono ?_
  rintro e w3 ⟨rfl, j, rfl⟩
  have f0 := (blk rfl HZ.out 0).2
  have e0 := (blk rfl HZ.out 0).1
  have f1 := (blk rfl HZ.out 1).2
  have e1 := (blk rfl HZ.out 1).1
  have f2 := (blk rfl HZ.out 2).2
  have e2 := (blk rfl HZ.out 2).1
  have f3 := (blk rfl HZ.out 3).2
  have e3 := (blk rfl HZ.out 3).1
  have f4 := (blk rfl HZ.out 4).2
  have e4 := (blk rfl HZ.out 4).1
  have f5 := (blk rfl HZ.out 5).2
  have e5 := (blk rfl HZ.out 5).1
  have f6 := (blk rfl HZ.out 6).2
  have e6 := (blk rfl HZ.out 6).1
  have f7 := (blk rfl HZ.out 7).2
  have e7 := (blk rfl HZ.out 7).1
  have f8 := (blk rfl HZ.out 8).2
  have e8 := (blk rfl HZ.out 8).1
  have f9 := (blk rfl HZ.out 9).2
  have e9 := (blk rfl HZ.out 9).1
  have f10 := (blk rfl HZ.out 10).2
  have e10 := (blk rfl HZ.out 10).1
  have f11 := (blk rfl HZ.out 11).2
  have e11 := (blk rfl HZ.out 11).1
  have f12 := (blk rfl HZ.out 12).2
  have e12 := (blk rfl HZ.out 12).1
  have f13 := (blk rfl HZ.out 13).2
  have e13 := (blk rfl HZ.out 13).1
  simp at e0 e1 e2 e3 e4 e5 e6 e7 e8 e9 e10 e11 e12 e13
  have hlt : w.heap.size < w1.heap.size := by have := HZ.out.size; simp at this; omega
  clear hcp1 hcp2 hsl HG hr1
  go_wp2_with fail
  simp [bodyPost, results, Try.results46, go_sem, *]
  rw [← HL1.out] at hO
  have hX := (below_drewN (bnextA (Below.refl w1.heap.size w1) (.cells #[.int .u8 (x0.toNat : Int), .int .u8 (x1.toNat : Int), .int .u8 (x2.toNat : Int), .int .u8 (x3.toNat : Int), .int .u8 (x4.toNat : Int), .int .u8 (x5.toNat : Int), .int .u8 (x6.toNat : Int), .int .u8 (x7.toNat : Int), .int .u8 (x8.toNat : Int), .int .u8 (x9.toNat : Int), .int .u8 (x10.toNat : Int), .int .u8 (x11.toNat : Int), .int .u16 0, .slice A1 L1.length c1] 51)) (1 + j)).setCell (p := ⟨w1.heap.size, 12, none⟩) (Nat.le_refl _) (.int .u16 (T : Int))
  have hO2 := hO.out.nextO hX
  refine ⟨L1, A1, c1, ⟨rfl, rfl, rfl⟩, HL1, ?_, ?_⟩
  · simpa using (Own.setBelow (p := ⟨w.heap.size, 13, none⟩) (Own.setBelow (p := ⟨w.heap.size, 12, none⟩) (Own.setBelow (p := ⟨w.heap.size, 11, none⟩) (Own.setBelow (p := ⟨w.heap.size, 10, none⟩) (Own.setBelow (p := ⟨w.heap.size, 9, none⟩) (Own.setBelow (p := ⟨w.heap.size, 8, none⟩) (Own.setBelow (p := ⟨w.heap.size, 7, none⟩) (Own.setBelow (p := ⟨w.heap.size, 6, none⟩) (Own.setBelow (p := ⟨w.heap.size, 5, none⟩) (Own.setBelow (p := ⟨w.heap.size, 4, none⟩) (Own.setBelow (p := ⟨w.heap.size, 3, none⟩) (Own.setBelow (p := ⟨w.heap.size, 2, none⟩) (Own.setBelow (p := ⟨w.heap.size, 1, none⟩) (Own.setBelow (p := ⟨w.heap.size, 0, none⟩) hO2 (by simp) (.int .u8 (x0.toNat : Int))) (by simp) (.int .u8 (x1.toNat : Int))) (by simp) (.int .u8 (x2.toNat : Int))) (by simp) (.int .u8 (x3.toNat : Int))) (by simp) (.int .u8 (x4.toNat : Int))) (by simp) (.int .u8 (x5.toNat : Int))) (by simp) (.int .u8 (x6.toNat : Int))) (by simp) (.int .u8 (x7.toNat : Int))) (by simp) (.int .u8 (x8.toNat : Int))) (by simp) (.int .u8 (x9.toNat : Int))) (by simp) (.int .u8 (x10.toNat : Int))) (by simp) (.int .u8 (x11.toNat : Int))) (by simp) (.int .u16 (T : Int))) (by simp) (.slice A1 L1.length c1)).rdS
  · exact (Below.setCell (p := ⟨_, 13, none⟩) (Below.setCell (p := ⟨_, 12, none⟩) (Below.setCell (p := ⟨_, 11, none⟩) (Below.setCell (p := ⟨_, 10, none⟩) (Below.setCell (p := ⟨_, 9, none⟩) (Below.setCell (p := ⟨_, 8, none⟩) (Below.setCell (p := ⟨_, 7, none⟩) (Below.setCell (p := ⟨_, 6, none⟩) (Below.setCell (p := ⟨_, 5, none⟩) (Below.setCell (p := ⟨_, 4, none⟩) (Below.setCell (p := ⟨_, 3, none⟩) (Below.setCell (p := ⟨_, 2, none⟩) (Below.setCell (p := ⟨_, 1, none⟩) (Below.setCell (p := ⟨_, 0, none⟩) (bnext hB hX) (Nat.le_refl _) _) (Nat.le_refl _) _) (Nat.le_refl _) _) (Nat.le_refl _) _) (Nat.le_refl _) _) (Nat.le_refl _) _) (Nat.le_refl _) _) (Nat.le_refl _) _) (Nat.le_refl _) _) (Nat.le_refl _) _) (Nat.le_refl _) _) (Nat.le_refl _) _) (Nat.le_refl _) _) (Nat.le_refl _) _)
end Go.Proofs.Yteodjajjlgekcaa
