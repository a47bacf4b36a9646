/- Contracts of ether.Parse at a false type, and of the reference's MacAt. -/
import Derived.Test.YtiokofpmmlbncabEth3
namespace Go.Proofs.Ytiokofpmmlbncab
open Go.RowKit

def mcur (m : List UInt8) (j : Nat) : Array Value := ((m.take j ++ List.replicate (6 - j) 0).map bv).toArray

theorem rmacat_any (A : Option Addr) (c : Nat) (xs : List UInt8) (k : Nat) (w : World) (hr : Rd bv w w.heap.size A c xs) (hk : k + 6 ≤ xs.length) (x0 x1 x2 x3 x4 x5 : UInt8) (hx : (xs.drop k).take 6 = [x0, x1, x2, x3, x4, x5]) :
    Calls Try.prog 67 #[.slice A xs.length c, .int .i64 k] w fun e w' => e = .returned (.agg #[.int .u8 (x0.toNat : Int), .int .u8 (x1.toNat : Int), .int .u8 (x2.toNat : Int), .int .u8 (x3.toNat : Int), .int .u8 (x4.toNat : Int), .int .u8 (x5.toNat : Int)]) ∧ Below w.heap.size w w' := by
  have hlc := hr.len
  have hcc := hr.cap
  obtain ⟨b, off, rfl, hB3, hcell⟩ := byt_at hr (k := k) (by omega)
  have hxj : ∀ q (hq : q < 6), xs[k + q] = ([x0, x1, x2, x3, x4, x5] : List UInt8)[q] := by
    intro q hq
    have := List.getElem_of_eq hx (i := q) (by simp; omega)
    simpa using this
  have hb0 := bnextA (Below.refl w.heap.size w) (.cells #[.int .u8 0, .int .u8 0, .int .u8 0, .int .u8 0, .int .u8 0, .int .u8 0] 45)
  have hkk : (k : Int) + 6 ≤ (xs.length : Int) := by omega
  clear hx hr
  go_enter Try.func67, Try.ntmps67
  go_wp2_with fail
  go_loopw [6] (fun i wr => ∃ j : Nat, j ≤ 6 ∧ i = .int .i64 j ∧ wr = (w.alloc (.cells #[.int .u8 0, .int .u8 0, .int .u8 0, .int .u8 0, .int .u8 0, .int .u8 0] 45)).alloc (.cells (mcur [x0, x1, x2, x3, x4, x5] j) 45)) (fun i _ => 6 - (intOf i).toNat)
  case atStart => exact ⟨0, by omega, rfl, rfl⟩
  case round =>
    obtain ⟨j, hj, rfl, rfl⟩ := hrel
    by_cases hlt : j < 6
    · clear hj
      rcases j with _|_|_|_|_|_|j
      · rw [show mcur [x0, x1, x2, x3, x4, x5] (0) = #[.int .u8 0, .int .u8 0, .int .u8 0, .int .u8 0, .int .u8 0, .int .u8 0] from rfl]
        have c0 := (hb0.cell (p := ⟨b, off + (k + 0), none⟩) hB3).trans (hcell (k + 0) (by omega))
        rw [hxj 0 (by omega)] at c0
        replace c0 := ((bnextA (Below.refl (w.alloc (.cells #[.int .u8 0, .int .u8 0, .int .u8 0, .int .u8 0, .int .u8 0, .int .u8 0] 45)).heap.size (w.alloc (.cells #[.int .u8 0, .int .u8 0, .int .u8 0, .int .u8 0, .int .u8 0, .int .u8 0] 45))) (.cells #[.int .u8 0, .int .u8 0, .int .u8 0, .int .u8 0, .int .u8 0, .int .u8 0] 45)).cell (p := ⟨b, off + (k + 0), none⟩) (by simp; omega)).trans c0
        simp only [List.getElem_cons_zero, Nat.add_zero] at c0
        clear hcell hxj hb0
        go_wp2
        go_roundw
        case rel => exact ⟨0 + 1, by omega, by go_num, rfl⟩
        case measure => simp [intOf]
      · rw [show mcur [x0, x1, x2, x3, x4, x5] (0 + 1) = #[.int .u8 (x0.toNat : Int), .int .u8 0, .int .u8 0, .int .u8 0, .int .u8 0, .int .u8 0] from rfl]
        have c0 := (hb0.cell (p := ⟨b, off + (k + 1), none⟩) hB3).trans (hcell (k + 1) (by omega))
        rw [hxj 1 (by omega)] at c0
        replace c0 := ((bnextA (Below.refl (w.alloc (.cells #[.int .u8 0, .int .u8 0, .int .u8 0, .int .u8 0, .int .u8 0, .int .u8 0] 45)).heap.size (w.alloc (.cells #[.int .u8 0, .int .u8 0, .int .u8 0, .int .u8 0, .int .u8 0, .int .u8 0] 45))) (.cells #[.int .u8 (x0.toNat : Int), .int .u8 0, .int .u8 0, .int .u8 0, .int .u8 0, .int .u8 0] 45)).cell (p := ⟨b, off + (k + 1), none⟩) (by simp; omega)).trans c0
        simp only [List.getElem_cons_zero, List.getElem_cons_succ] at c0
        clear hcell hxj hb0
        go_wp2
        go_roundw
        case rel => exact ⟨1 + 1, by omega, by go_num, rfl⟩
        case measure => simp [intOf]
      · rw [show mcur [x0, x1, x2, x3, x4, x5] (0 + 1 + 1) = #[.int .u8 (x0.toNat : Int), .int .u8 (x1.toNat : Int), .int .u8 0, .int .u8 0, .int .u8 0, .int .u8 0] from rfl]
        have c0 := (hb0.cell (p := ⟨b, off + (k + 2), none⟩) hB3).trans (hcell (k + 2) (by omega))
        rw [hxj 2 (by omega)] at c0
        replace c0 := ((bnextA (Below.refl (w.alloc (.cells #[.int .u8 0, .int .u8 0, .int .u8 0, .int .u8 0, .int .u8 0, .int .u8 0] 45)).heap.size (w.alloc (.cells #[.int .u8 0, .int .u8 0, .int .u8 0, .int .u8 0, .int .u8 0, .int .u8 0] 45))) (.cells #[.int .u8 (x0.toNat : Int), .int .u8 (x1.toNat : Int), .int .u8 0, .int .u8 0, .int .u8 0, .int .u8 0] 45)).cell (p := ⟨b, off + (k + 2), none⟩) (by simp; omega)).trans c0
        simp only [List.getElem_cons_zero, List.getElem_cons_succ] at c0
        clear hcell hxj hb0
        go_wp2
        go_roundw
        case rel => exact ⟨2 + 1, by omega, by go_num, rfl⟩
        case measure => simp [intOf]
      · rw [show mcur [x0, x1, x2, x3, x4, x5] (0 + 1 + 1 + 1) = #[.int .u8 (x0.toNat : Int), .int .u8 (x1.toNat : Int), .int .u8 (x2.toNat : Int), .int .u8 0, .int .u8 0, .int .u8 0] from rfl]
        have c0 := (hb0.cell (p := ⟨b, off + (k + 3), none⟩) hB3).trans (hcell (k + 3) (by omega))
        rw [hxj 3 (by omega)] at c0
        replace c0 := ((bnextA (Below.refl (w.alloc (.cells #[.int .u8 0, .int .u8 0, .int .u8 0, .int .u8 0, .int .u8 0, .int .u8 0] 45)).heap.size (w.alloc (.cells #[.int .u8 0, .int .u8 0, .int .u8 0, .int .u8 0, .int .u8 0, .int .u8 0] 45))) (.cells #[.int .u8 (x0.toNat : Int), .int .u8 (x1.toNat : Int), .int .u8 (x2.toNat : Int), .int .u8 0, .int .u8 0, .int .u8 0] 45)).cell (p := ⟨b, off + (k + 3), none⟩) (by simp; omega)).trans c0
        simp only [List.getElem_cons_zero, List.getElem_cons_succ] at c0
        clear hcell hxj hb0
        go_wp2
        go_roundw
        case rel => exact ⟨3 + 1, by omega, by go_num, rfl⟩
        case measure => simp [intOf]
      · rw [show mcur [x0, x1, x2, x3, x4, x5] (0 + 1 + 1 + 1 + 1) = #[.int .u8 (x0.toNat : Int), .int .u8 (x1.toNat : Int), .int .u8 (x2.toNat : Int), .int .u8 (x3.toNat : Int), .int .u8 0, .int .u8 0] from rfl]
        have c0 := (hb0.cell (p := ⟨b, off + (k + 4), none⟩) hB3).trans (hcell (k + 4) (by omega))
        rw [hxj 4 (by omega)] at c0
        replace c0 := ((bnextA (Below.refl (w.alloc (.cells #[.int .u8 0, .int .u8 0, .int .u8 0, .int .u8 0, .int .u8 0, .int .u8 0] 45)).heap.size (w.alloc (.cells #[.int .u8 0, .int .u8 0, .int .u8 0, .int .u8 0, .int .u8 0, .int .u8 0] 45))) (.cells #[.int .u8 (x0.toNat : Int), .int .u8 (x1.toNat : Int), .int .u8 (x2.toNat : Int), .int .u8 (x3.toNat : Int), .int .u8 0, .int .u8 0] 45)).cell (p := ⟨b, off + (k + 4), none⟩) (by simp; omega)).trans c0
        simp only [List.getElem_cons_zero, List.getElem_cons_succ] at c0
        clear hcell hxj hb0
        go_wp2
        go_roundw
        case rel => exact ⟨4 + 1, by omega, by go_num, rfl⟩
        case measure => simp [intOf]
      · rw [show mcur [x0, x1, x2, x3, x4, x5] (0 + 1 + 1 + 1 + 1 + 1) = #[.int .u8 (x0.toNat : Int), .int .u8 (x1.toNat : Int), .int .u8 (x2.toNat : Int), .int .u8 (x3.toNat : Int), .int .u8 (x4.toNat : Int), .int .u8 0] from rfl]
        have c0 := (hb0.cell (p := ⟨b, off + (k + 5), none⟩) hB3).trans (hcell (k + 5) (by omega))
        rw [hxj 5 (by omega)] at c0
        replace c0 := ((bnextA (Below.refl (w.alloc (.cells #[.int .u8 0, .int .u8 0, .int .u8 0, .int .u8 0, .int .u8 0, .int .u8 0] 45)).heap.size (w.alloc (.cells #[.int .u8 0, .int .u8 0, .int .u8 0, .int .u8 0, .int .u8 0, .int .u8 0] 45))) (.cells #[.int .u8 (x0.toNat : Int), .int .u8 (x1.toNat : Int), .int .u8 (x2.toNat : Int), .int .u8 (x3.toNat : Int), .int .u8 (x4.toNat : Int), .int .u8 0] 45)).cell (p := ⟨b, off + (k + 5), none⟩) (by simp; omega)).trans c0
        simp only [List.getElem_cons_zero, List.getElem_cons_succ] at c0
        clear hcell hxj hb0
        go_wp2
        go_roundw
        case rel => exact ⟨5 + 1, by omega, by go_num, rfl⟩
        case measure => simp [intOf]
      · omega
    · have : j = 6 := by omega
      subst this
      rw [show mcur [x0, x1, x2, x3, x4, x5] 6 = #[.int .u8 (x0.toNat : Int), .int .u8 (x1.toNat : Int), .int .u8 (x2.toNat : Int), .int .u8 (x3.toNat : Int), .int .u8 (x4.toNat : Int), .int .u8 (x5.toNat : Int)] from rfl]
      go_wp2
      simp [bodyPost, results, Try.results67, go_sem]
      exact bnextA (bnextA (Below.refl _ _) _) _
end Go.Proofs.Ytiokofpmmlbncab
