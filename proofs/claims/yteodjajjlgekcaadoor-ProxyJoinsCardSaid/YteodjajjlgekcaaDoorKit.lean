/- Plain words on blocks of four cells and on clones, for walks over small structs. -/
import Derived.Test.YteodjajjlgekcaaDoorSum2
import Derived.Test.YteodjajjlgekcaaDoorOct4
import Derived.Test.YteodjajjlgekcaaDoorOct6
import Derived.Deep.RegionHeld3
namespace Go.Proofs.YteodjajjlgekcaaDoor
open Go.RowKit

theorem few_len {k : IntKind} {a : Option Addr} {len cap : Nat} {zs : List Int} {w : World} (h : InRow k w a len cap zs) (m : Nat) (hk : k = .u8 := by rfl) :
    ∃ bs : List UInt8, bs.length ≤ m ∧ Rd bv w w.heap.size a cap bs ∧ len ≤ cap ∧ cap ≤ 9223372036854775807 ∧ Hid (min len m = bs.length) := by
  subst hk
  obtain ⟨bs0, rfl, hb0⟩ := row_rd h
  exact ⟨bs0.take m, by simp; omega, hb0.take m, hb0.len, hb0.cap, by simp [Hid, Nat.min_comm]⟩
theorem blk4 {w0 w : World} {g : Nat} {v0 v1 v2 v3 : Value} {e : TypeId} (hg : g = w0.heap.size) (hb : Below (w0.alloc (.cells #[v0, v1, v2, v3] e)).heap.size (w0.alloc (.cells #[v0, v1, v2, v3] e)) w) :
    w.cell? ⟨g, 0, none⟩ = some v0 ∧ w.cell? ⟨g, 1, none⟩ = some v1 ∧ w.cell? ⟨g, 2, none⟩ = some v2 ∧ w.cell? ⟨g, 3, none⟩ = some v3 ∧
      w.frozen? ⟨g, 0, none⟩ = false ∧ w.frozen? ⟨g, 1, none⟩ = false ∧ w.frozen? ⟨g, 2, none⟩ = false ∧ w.frozen? ⟨g, 3, none⟩ = false :=
  ⟨(blk hg hb 0).1, (blk hg hb 1).1, (blk hg hb 2).1, (blk hg hb 3).1, (blk hg hb 0).2, (blk hg hb 1).2, (blk hg hb 2).2, (blk hg hb 3).2⟩
theorem bset4 {B : Nat} {w0 w : World} (hB : Below B w0 w) {g : Nat} (hg : B ≤ g) (v0 v1 v2 v3 : Value) : Below B w0 ((((w.setCell ⟨g, 0, none⟩ v0).setCell ⟨g, 1, none⟩ v1).setCell ⟨g, 2, none⟩ v2).setCell ⟨g, 3, none⟩ v3) :=
  (((hB.setCell (p := ⟨_, 0, none⟩) hg _).setCell (p := ⟨_, 1, none⟩) hg _).setCell (p := ⟨_, 2, none⟩) hg _).setCell (p := ⟨_, 3, none⟩) hg _
theorem Own.set4 {α : Type} {f : α → Value} {w : World} {base : Nat} {e : TypeId} {v : Value} {xs : List α} (h : Own f w base e v xs) {g : Nat} (hg : g < base) (v0 v1 v2 v3 : Value) :
    Own f ((((w.setCell ⟨g, 0, none⟩ v0).setCell ⟨g, 1, none⟩ v1).setCell ⟨g, 2, none⟩ v2).setCell ⟨g, 3, none⟩ v3) base e v xs :=
  (((h.setBelow (p := ⟨g, 0, none⟩) hg v0).setBelow (p := ⟨g, 1, none⟩) hg v1).setBelow (p := ⟨g, 2, none⟩) hg v2).setBelow (p := ⟨g, 3, none⟩) hg v3
theorem set4_cells {w : World} {g : Nat} {u0 u1 u2 u3 : Value} (c0 : w.cell? ⟨g, 0, none⟩ = some u0) (c1 : w.cell? ⟨g, 1, none⟩ = some u1) (c2 : w.cell? ⟨g, 2, none⟩ = some u2) (c3 : w.cell? ⟨g, 3, none⟩ = some u3) (v0 v1 v2 v3 : Value) :
    ((((w.setCell ⟨g, 0, none⟩ v0).setCell ⟨g, 1, none⟩ v1).setCell ⟨g, 2, none⟩ v2).setCell ⟨g, 3, none⟩ v3).cell? ⟨g, 0, none⟩ = some v0 ∧ ((((w.setCell ⟨g, 0, none⟩ v0).setCell ⟨g, 1, none⟩ v1).setCell ⟨g, 2, none⟩ v2).setCell ⟨g, 3, none⟩ v3).cell? ⟨g, 1, none⟩ = some v1 ∧
    ((((w.setCell ⟨g, 0, none⟩ v0).setCell ⟨g, 1, none⟩ v1).setCell ⟨g, 2, none⟩ v2).setCell ⟨g, 3, none⟩ v3).cell? ⟨g, 2, none⟩ = some v2 ∧ ((((w.setCell ⟨g, 0, none⟩ v0).setCell ⟨g, 1, none⟩ v1).setCell ⟨g, 2, none⟩ v2).setCell ⟨g, 3, none⟩ v3).cell? ⟨g, 3, none⟩ = some v3 := by
  simp [go_sem, *]
theorem carry4 {w w' : World} {g : Nat} {v0 v1 v2 v3 : Value} (h : w.cell? ⟨g, 0, none⟩ = some v0 ∧ w.cell? ⟨g, 1, none⟩ = some v1 ∧ w.cell? ⟨g, 2, none⟩ = some v2 ∧ w.cell? ⟨g, 3, none⟩ = some v3) (hg : g < w.heap.size) (hb : Below w.heap.size w w') :
    w'.cell? ⟨g, 0, none⟩ = some v0 ∧ w'.cell? ⟨g, 1, none⟩ = some v1 ∧ w'.cell? ⟨g, 2, none⟩ = some v2 ∧ w'.cell? ⟨g, 3, none⟩ = some v3 :=
  ⟨(hb.cell hg).trans h.1, (hb.cell hg).trans h.2.1, (hb.cell hg).trans h.2.2.1, (hb.cell hg).trans h.2.2.2⟩
theorem UInt16.ofNat_id (n : Nat) (h : n ≤ 65535) : (UInt16.ofNat n).toNat = n := by simp; omega
theorem be16_ofNat (n : Nat) (h : n ≤ 65535) : be16 (UInt16.ofNat n) = [UInt8.ofNat (n / 256), UInt8.ofNat (n % 256)] := by
  rw [be16, UInt16.ofNat_id n h]
end Go.Proofs.YteodjajjlgekcaaDoor
