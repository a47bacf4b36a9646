/- proxy.Call, Greet, Refuse, Join; the reference's Call and Joins. -/
import Derived.Test.YteodjajjlgekcaaDoorPx3
namespace Go.Proofs.YteodjajjlgekcaaDoor
open Go.RowKit
set_option linter.unusedVariables false

theorem Blk.get13 {w : World} {g : Nat} {e : TypeId} {v0 v1 v2 v3 v4 v5 v6 v7 v8 v9 v10 v11 v12 : Value} (h : Blk w g [v0, v1, v2, v3, v4, v5, v6, v7, v8, v9, v10, v11, v12] e) : w.cell? ⟨g, 0, none⟩ = some v0 ∧ w.cell? ⟨g, 1, none⟩ = some v1 ∧ w.cell? ⟨g, 2, none⟩ = some v2 ∧ w.cell? ⟨g, 3, none⟩ = some v3 ∧ w.cell? ⟨g, 4, none⟩ = some v4 ∧ w.cell? ⟨g, 5, none⟩ = some v5 ∧ w.cell? ⟨g, 6, none⟩ = some v6 ∧ w.cell? ⟨g, 7, none⟩ = some v7 ∧ w.cell? ⟨g, 8, none⟩ = some v8 ∧ w.cell? ⟨g, 9, none⟩ = some v9 ∧ w.cell? ⟨g, 10, none⟩ = some v10 ∧ w.cell? ⟨g, 11, none⟩ = some v11 ∧ w.cell? ⟨g, 12, none⟩ = some v12 ∧ w.frozen? ⟨g, 0, none⟩ = false ∧ w.frozen? ⟨g, 1, none⟩ = false ∧ w.frozen? ⟨g, 2, none⟩ = false ∧ w.frozen? ⟨g, 3, none⟩ = false ∧ w.frozen? ⟨g, 4, none⟩ = false ∧ w.frozen? ⟨g, 5, none⟩ = false ∧ w.frozen? ⟨g, 6, none⟩ = false ∧ w.frozen? ⟨g, 7, none⟩ = false ∧ w.frozen? ⟨g, 8, none⟩ = false ∧ w.frozen? ⟨g, 9, none⟩ = false ∧ w.frozen? ⟨g, 10, none⟩ = false ∧ w.frozen? ⟨g, 11, none⟩ = false ∧ w.frozen? ⟨g, 12, none⟩ = false :=
  ⟨h.cell 0, h.cell 1, h.cell 2, h.cell 3, h.cell 4, h.cell 5, h.cell 6, h.cell 7, h.cell 8, h.cell 9, h.cell 10, h.cell 11, h.cell 12, h.frozen 0, h.frozen 1, h.frozen 2, h.frozen 3, h.frozen 4, h.frozen 5, h.frozen 6, h.frozen 7, h.frozen 8, h.frozen 9, h.frozen 10, h.frozen 11, h.frozen 12⟩
theorem bset13 {B : Nat} {w0 w : World} (hB : Below B w0 w) {g : Nat} (hg : B ≤ g) (u0 u1 u2 u3 u4 u5 u6 u7 u8 u9 u10 u11 u12 : Value) : Below B w0 (((((((((((((w.setCell ⟨g, 0, none⟩ u0).setCell ⟨g, 1, none⟩ u1).setCell ⟨g, 2, none⟩ u2).setCell ⟨g, 3, none⟩ u3).setCell ⟨g, 4, none⟩ u4).setCell ⟨g, 5, none⟩ u5).setCell ⟨g, 6, none⟩ u6).setCell ⟨g, 7, none⟩ u7).setCell ⟨g, 8, none⟩ u8).setCell ⟨g, 9, none⟩ u9).setCell ⟨g, 10, none⟩ u10).setCell ⟨g, 11, none⟩ u11).setCell ⟨g, 12, none⟩ u12) := (((((((((((((hB.setCell (p := ⟨g, 0, none⟩) hg u0).setCell (p := ⟨g, 1, none⟩) hg u1).setCell (p := ⟨g, 2, none⟩) hg u2).setCell (p := ⟨g, 3, none⟩) hg u3).setCell (p := ⟨g, 4, none⟩) hg u4).setCell (p := ⟨g, 5, none⟩) hg u5).setCell (p := ⟨g, 6, none⟩) hg u6).setCell (p := ⟨g, 7, none⟩) hg u7).setCell (p := ⟨g, 8, none⟩) hg u8).setCell (p := ⟨g, 9, none⟩) hg u9).setCell (p := ⟨g, 10, none⟩) hg u10).setCell (p := ⟨g, 11, none⟩) hg u11).setCell (p := ⟨g, 12, none⟩) hg u12)
theorem Blk.set13 {w : World} {g : Nat} {e : TypeId} {v0 v1 v2 v3 v4 v5 v6 v7 v8 v9 v10 v11 v12 u0 u1 u2 u3 u4 u5 u6 u7 u8 u9 u10 u11 u12 : Value} (h : Blk w g [v0, v1, v2, v3, v4, v5, v6, v7, v8, v9, v10, v11, v12] e) : Blk (((((((((((((w.setCell ⟨g, 0, none⟩ u0).setCell ⟨g, 1, none⟩ u1).setCell ⟨g, 2, none⟩ u2).setCell ⟨g, 3, none⟩ u3).setCell ⟨g, 4, none⟩ u4).setCell ⟨g, 5, none⟩ u5).setCell ⟨g, 6, none⟩ u6).setCell ⟨g, 7, none⟩ u7).setCell ⟨g, 8, none⟩ u8).setCell ⟨g, 9, none⟩ u9).setCell ⟨g, 10, none⟩ u10).setCell ⟨g, 11, none⟩ u11).setCell ⟨g, 12, none⟩ u12) g [u0, u1, u2, u3, u4, u5, u6, u7, u8, u9, u10, u11, u12] e := (((((((((((((h.set 0 u0).set 1 u1).set 2 u2).set 3 u3).set 4 u4).set 5 u5).set 6 u6).set 7 u7).set 8 u8).set 9 u9).set 10 u10).set 11 u11).set 12 u12)
theorem size_u (i : Int) : ∃ z : UInt16, (∀ W, SZ W → Hid (Calls Tryd.prog 15 #[.int .i64 i] W fun e w' => e = .returned (.int .u16 (z.toNat : Int)) ∧ Below W.heap.size W w')) ∧ (∀ W, Hid (Calls Tryd.prog 16 #[.int .i64 i] W fun e w' => e = .returned (.int .u16 (z.toNat : Int)) ∧ Below W.heap.size W w')) := by
  by_cases h : i < 0 ∨ 8 ≤ i
  · exact ⟨0, fun W _ => bw (csize_no i h W), fun W => rsize_no i h W⟩
  · obtain ⟨k, rfl⟩ : ∃ k : Nat, i = (k : Int) := ⟨i.toNat, by omega⟩
    have hk : k < 8 := by omega
    refine ⟨szU k, fun W hS => ?_, fun W => ?_⟩
    · have h5 := bw (csize_at k hk W hS)
      rw [szU_at k hk] at h5
      exact h5
    · have h5 := rsize_at k hk W
      rw [szU_at k hk] at h5
      exact h5
set_option maxHeartbeats 2000000 in
theorem pcall_any (fs fd : UInt32) (fp fq : UInt16) (fr : UInt8) (eb eh ea : Int) (ex ej : Bool) (et : UInt16) (es ei : UInt32) (port : UInt16) (i : Int) (z : UInt16) (HSZ : ∀ W, SZ W → Hid (Calls Tryd.prog 15 #[.int .i64 i] W fun e w' => e = .returned (.int .u16 (z.toNat : Int)) ∧ Below W.heap.size W w')) (w : World) (hS : SZ w) :
    Calls Tryd.prog 30 #[.agg #[.int .u32 (fs.toNat : Int), .int .u32 (fd.toNat : Int), .int .u16 (fp.toNat : Int), .int .u16 (fq.toNat : Int), .int .u8 (fr.toNat : Int), .int .i64 eb, .int .i64 eh, .int .i64 ea, .bool ex, .bool ej, .int .u16 (et.toNat : Int), .int .u32 (es.toNat : Int), .int .u32 (ei.toNat : Int)], .int .u16 (port.toNat : Int), .int .i64 i] w fun e w' => ∃ L AL cL, e = .returned (.agg #[.int .u16 (et.toNat : Int), .int .u16 (port.toNat : Int), .int .u32 (ei.toNat : Int), .int .u32 0, .int .u8 0, .int .u8 2, .int .u16 65535, .int .u16 0, .slice AL L.length cL, .slice none 0 0]) ∧ Hid (L = [2, 4] ++ be16 z) ∧ Rd bv w' w'.heap.size AL cL L ∧ Below w.heap.size w w' := by
  have HPL : ∀ W, Hid (Calls Tryd.prog 52 #[.int .u16 (et.toNat : Int), .int .u16 (port.toNat : Int), .int .u32 (ei.toNat : Int), .int .u32 0, .int .u8 2] W fun e w' => e = .returned (.agg #[.int .u16 (et.toNat : Int), .int .u16 (port.toNat : Int), .int .u32 (ei.toNat : Int), .int .u32 0, .int .u8 0, .int .u8 2, .int .u16 65535, .int .u16 0, .slice none 0 0, .slice none 0 0]) ∧ Below W.heap.size W w') := fun W => by
    obtain ⟨z0, ez0⟩ : ∃ x : UInt32, (x.toNat : Int) = 0 := ⟨0, rfl⟩
    have h5 := tplain_any et port ei z0 2 W
    simp only [ez0] at h5
    exact h5
  have HPM := fun W => Lib.hid (tputmss_any z W)
  obtain ⟨V, hV⟩ : ∃ V, V = ((w.alloc (.cells #[.int .u32 (fs.toNat : Int), .int .u32 (fd.toNat : Int), .int .u16 (fp.toNat : Int), .int .u16 (fq.toNat : Int), .int .u8 (fr.toNat : Int), .int .i64 eb, .int .i64 eh, .int .i64 ea, .bool ex, .bool ej, .int .u16 (et.toNat : Int), .int .u32 (es.toNat : Int), .int .u32 (ei.toNat : Int)] 55)).alloc (.cells #[.int .u16 0, .int .u16 0, .int .u32 0, .int .u32 0, .int .u8 0, .int .u8 0, .int .u16 0, .int .u16 0, .slice none 0 0, .slice none 0 0] 44)) := ⟨_, rfl⟩
  have hB : Below w.heap.size w V := by subst hV; exact (bnextA (bnextA (Below.refl _ _) _) _)
  have KE : Blk V (w.heap.size) [.int .u32 (fs.toNat : Int), .int .u32 (fd.toNat : Int), .int .u16 (fp.toNat : Int), .int .u16 (fq.toNat : Int), .int .u8 (fr.toNat : Int), .int .i64 eb, .int .i64 eh, .int .i64 ea, .bool ex, .bool ej, .int .u16 (et.toNat : Int), .int .u32 (es.toNat : Int), .int .u32 (ei.toNat : Int)] 55 := by subst hV; simpa using (Blk.new w #[.int .u32 (fs.toNat : Int), .int .u32 (fd.toNat : Int), .int .u16 (fp.toNat : Int), .int .u16 (fq.toNat : Int), .int .u8 (fr.toNat : Int), .int .i64 eb, .int .i64 eh, .int .i64 ea, .bool ex, .bool ej, .int .u16 (et.toNat : Int), .int .u32 (es.toNat : Int), .int .u32 (ei.toNat : Int)] 55).alloc (.cells #[.int .u16 0, .int .u16 0, .int .u32 0, .int .u32 0, .int .u8 0, .int .u8 0, .int .u16 0, .int .u16 0, .slice none 0 0, .slice none 0 0] 44)
  have KZ : Blk V (w.heap.size + 1) [.int .u16 0, .int .u16 0, .int .u32 0, .int .u32 0, .int .u8 0, .int .u8 0, .int .u16 0, .int .u16 0, .slice none 0 0, .slice none 0 0] 44 := by subst hV; simpa using Blk.new (w.alloc (.cells #[.int .u32 (fs.toNat : Int), .int .u32 (fd.toNat : Int), .int .u16 (fp.toNat : Int), .int .u16 (fq.toNat : Int), .int .u8 (fr.toNat : Int), .int .i64 eb, .int .i64 eh, .int .i64 ea, .bool ex, .bool ej, .int .u16 (et.toNat : Int), .int .u32 (es.toNat : Int), .int .u32 (ei.toNat : Int)] 55)) #[.int .u16 0, .int .u16 0, .int .u32 0, .int .u32 0, .int .u8 0, .int .u8 0, .int .u16 0, .int .u16 0, .slice none 0 0, .slice none 0 0] 44
  obtain ⟨e0, e1, e2, e3, e4, e5, e6, e7, e8, e9, e10, e11, e12, -⟩ := KE.get13
  have hZl : Hid (w.heap.size + 1 < V.heap.size) := KZ.lt
  go_enter Tryd.func30, Tryd.ntmps30
  go_wp2_with fail
  rw [← hV]
  clear hV
  refine (HPL _).out.mono ?_
  rintro e w1 ⟨rfl, hb⟩
  replace hZl : Hid (w.heap.size + 1 < w1.heap.size) := Nat.lt_of_lt_of_le hZl.out hb.size
  replace hB := bnextA (bnext hB hb) (.cells #[.int .u16 (et.toNat : Int), .int .u16 (port.toNat : Int), .int .u32 (ei.toNat : Int), .int .u32 0, .int .u8 0, .int .u8 2, .int .u16 65535, .int .u16 0, .slice none 0 0, .slice none 0 0] 44)
  replace KZ := (KZ.next hb).alloc (.cells #[.int .u16 (et.toNat : Int), .int .u16 (port.toNat : Int), .int .u32 (ei.toNat : Int), .int .u32 0, .int .u8 0, .int .u8 2, .int .u16 65535, .int .u16 0, .slice none 0 0, .slice none 0 0] 44)
  have KN := Blk.new w1 #[.int .u16 (et.toNat : Int), .int .u16 (port.toNat : Int), .int .u32 (ei.toNat : Int), .int .u32 0, .int .u8 0, .int .u8 2, .int .u16 65535, .int .u16 0, .slice none 0 0, .slice none 0 0] 44
  clear hb HPL KE e0 e1 e2 e3 e4 e5 e6 e7 e8 e9 e10 e11 e12
  go_wp2_with fail
  obtain ⟨V2, hV2⟩ : ∃ V2, V2 = w1.alloc (.cells #[.int .u16 (et.toNat : Int), .int .u16 (port.toNat : Int), .int .u32 (ei.toNat : Int), .int .u32 0, .int .u8 0, .int .u8 2, .int .u16 65535, .int .u16 0, .slice none 0 0, .slice none 0 0] 44) := ⟨_, rfl⟩
  rw [← hV2] at hB KZ KN ⊢
  clear hV2
  have hne : w.heap.size + 1 ≠ w1.heap.size := by have := hZl.out; omega
  have hgle : w.heap.size ≤ w1.heap.size := by have := hZl.out; omega
  clear hZl
  generalize w1.heap.size = g at *
  refine (HSZ _ (hS.next hB)).out.mono ?_
  rintro e w5 ⟨rfl, hb⟩
  replace hB := bnext hB hb
  replace KN := KN.next hb
  replace KZ := KZ.next hb
  clear hb HSZ hS
  go_wp2_with fail
  refine (HPM _).out.mono ?_
  rintro e w6 ⟨L, AL, cL, rfl, HL, rL, hb⟩
  replace hB := bnext hB hb
  replace KN := KN.next hb
  replace KZ := KZ.next hb
  clear hb HPM
  obtain ⟨z0, z1, z2, z3, z4, z5, z6, z7, z8, z9, f0, f1, f2, f3, f4, f5, f6, f7, f8, f9⟩ := KN.get10
  obtain ⟨y0, y1, y2, y3, y4, y5, y6, y7, y8, y9, t0, t1, t2, t3, t4, t5, t6, t7, t8, t9⟩ := KZ.get10
  go_wp2_with fail
  have hl4 : L.length = 4 := by rw [HL.out]; rfl
  obtain ⟨bl, off, hA, hbl, hcl⟩ := byt_at rL (k := 0) (by omega)
  subst hA
  have hb1 := seg_apart KN rL hl4
  have hb2 := seg_apart KZ rL hl4
  have HRL := Lib.hid ((rL.sets hb1 8 (.slice (some ⟨bl, off, none⟩) L.length cL)).setsAll hb2 (.int .u16 (et.toNat : Int)) (.int .u16 (port.toNat : Int)) (.int .u32 (ei.toNat : Int)) (.int .u32 0) (.int .u8 0) (.int .u8 2) (.int .u16 65535) (.int .u16 0) (.slice (some ⟨bl, off, none⟩) L.length cL) (.slice none 0 0))
  have HBB := Lib.hid (bset10 (hB.setCell (p := ⟨g, 8, none⟩) hgle (.slice (some ⟨bl, off, none⟩) L.length cL)) (show w.heap.size ≤ w.heap.size + 1 by omega) (.int .u16 (et.toNat : Int)) (.int .u16 (port.toNat : Int)) (.int .u32 (ei.toNat : Int)) (.int .u32 0) (.int .u8 0) (.int .u8 2) (.int .u16 65535) (.int .u16 0) (.slice (some ⟨bl, off, none⟩) L.length cL) (.slice none 0 0))
  clear hl4 hcl hb1 hb2 rL KN KZ hB
  simp [bodyPost, results, Tryd.results30, go_sem, *]
  exact ⟨L, _, _, ⟨rfl, rfl, rfl⟩, HL, HRL.out, HBB.out⟩
set_option maxHeartbeats 2000000 in
theorem rcall_any (fs fd : UInt32) (fp fq : UInt16) (fr : UInt8) (eb eh ea : Int) (ex ej : Bool) (et : UInt16) (es ei : UInt32) (port : UInt16) (i : Int) (z : UInt16) (HSZ : ∀ W, Hid (Calls Tryd.prog 16 #[.int .i64 i] W fun e w' => e = .returned (.int .u16 (z.toNat : Int)) ∧ Below W.heap.size W w')) (w : World) :
    Calls Tryd.prog 31 #[.agg #[.int .u32 (fs.toNat : Int), .int .u32 (fd.toNat : Int), .int .u16 (fp.toNat : Int), .int .u16 (fq.toNat : Int), .int .u8 (fr.toNat : Int), .int .i64 eb, .int .i64 eh, .int .i64 ea, .bool ex, .bool ej, .int .u16 (et.toNat : Int), .int .u32 (es.toNat : Int), .int .u32 (ei.toNat : Int)], .int .u16 (port.toNat : Int), .int .i64 i] w fun e w' => ∃ L AL cL, e = .returned (.agg #[.int .u16 (et.toNat : Int), .int .u16 (port.toNat : Int), .int .u32 (ei.toNat : Int), .int .u32 0, .int .u8 0, .int .u8 2, .int .u16 65535, .int .u16 0, .slice AL L.length cL, .slice none 0 0]) ∧ Hid (L = [2, 4] ++ be16 z) ∧ Rd bv w' w'.heap.size AL cL L ∧ Below w.heap.size w w' := by
  have HPL : ∀ W, Hid (Calls Tryd.prog 33 #[.int .u16 (et.toNat : Int), .int .u16 (port.toNat : Int), .int .u32 (ei.toNat : Int), .int .u32 0, .int .u8 2] W fun e w' => e = .returned (.agg #[.int .u16 (et.toNat : Int), .int .u16 (port.toNat : Int), .int .u32 (ei.toNat : Int), .int .u32 0, .int .u8 0, .int .u8 2, .int .u16 65535, .int .u16 0, .slice none 0 0, .slice none 0 0]) ∧ Below W.heap.size W w') := fun W => rplain38_any _ _ _ _ _ W
  have HPM := fun W => Lib.hid (rmss38_any z W)
  obtain ⟨V, hV⟩ : ∃ V, V = ((w.alloc (.cells #[.int .u32 (fs.toNat : Int), .int .u32 (fd.toNat : Int), .int .u16 (fp.toNat : Int), .int .u16 (fq.toNat : Int), .int .u8 (fr.toNat : Int), .int .i64 eb, .int .i64 eh, .int .i64 ea, .bool ex, .bool ej, .int .u16 (et.toNat : Int), .int .u32 (es.toNat : Int), .int .u32 (ei.toNat : Int)] 55)).alloc (.cells #[.int .u16 0, .int .u16 0, .int .u32 0, .int .u32 0, .int .u8 0, .int .u8 0, .int .u16 0, .int .u16 0, .slice none 0 0, .slice none 0 0] 44)) := ⟨_, rfl⟩
  have hB : Below w.heap.size w V := by subst hV; exact (bnextA (bnextA (Below.refl _ _) _) _)
  have KE : Blk V (w.heap.size) [.int .u32 (fs.toNat : Int), .int .u32 (fd.toNat : Int), .int .u16 (fp.toNat : Int), .int .u16 (fq.toNat : Int), .int .u8 (fr.toNat : Int), .int .i64 eb, .int .i64 eh, .int .i64 ea, .bool ex, .bool ej, .int .u16 (et.toNat : Int), .int .u32 (es.toNat : Int), .int .u32 (ei.toNat : Int)] 55 := by subst hV; simpa using (Blk.new w #[.int .u32 (fs.toNat : Int), .int .u32 (fd.toNat : Int), .int .u16 (fp.toNat : Int), .int .u16 (fq.toNat : Int), .int .u8 (fr.toNat : Int), .int .i64 eb, .int .i64 eh, .int .i64 ea, .bool ex, .bool ej, .int .u16 (et.toNat : Int), .int .u32 (es.toNat : Int), .int .u32 (ei.toNat : Int)] 55).alloc (.cells #[.int .u16 0, .int .u16 0, .int .u32 0, .int .u32 0, .int .u8 0, .int .u8 0, .int .u16 0, .int .u16 0, .slice none 0 0, .slice none 0 0] 44)
  have KZ : Blk V (w.heap.size + 1) [.int .u16 0, .int .u16 0, .int .u32 0, .int .u32 0, .int .u8 0, .int .u8 0, .int .u16 0, .int .u16 0, .slice none 0 0, .slice none 0 0] 44 := by subst hV; simpa using Blk.new (w.alloc (.cells #[.int .u32 (fs.toNat : Int), .int .u32 (fd.toNat : Int), .int .u16 (fp.toNat : Int), .int .u16 (fq.toNat : Int), .int .u8 (fr.toNat : Int), .int .i64 eb, .int .i64 eh, .int .i64 ea, .bool ex, .bool ej, .int .u16 (et.toNat : Int), .int .u32 (es.toNat : Int), .int .u32 (ei.toNat : Int)] 55)) #[.int .u16 0, .int .u16 0, .int .u32 0, .int .u32 0, .int .u8 0, .int .u8 0, .int .u16 0, .int .u16 0, .slice none 0 0, .slice none 0 0] 44
  obtain ⟨e0, e1, e2, e3, e4, e5, e6, e7, e8, e9, e10, e11, e12, -⟩ := KE.get13
  have hZl : Hid (w.heap.size + 1 < V.heap.size) := KZ.lt
  go_enter Tryd.func31, Tryd.ntmps31
  go_wp2_with fail
  rw [← hV]
  clear hV
  refine (HPL _).out.mono ?_
  rintro e w1 ⟨rfl, hb⟩
  replace hZl : Hid (w.heap.size + 1 < w1.heap.size) := Nat.lt_of_lt_of_le hZl.out hb.size
  replace hB := bnextA (bnext hB hb) (.cells #[.int .u16 (et.toNat : Int), .int .u16 (port.toNat : Int), .int .u32 (ei.toNat : Int), .int .u32 0, .int .u8 0, .int .u8 2, .int .u16 65535, .int .u16 0, .slice none 0 0, .slice none 0 0] 44)
  replace KZ := (KZ.next hb).alloc (.cells #[.int .u16 (et.toNat : Int), .int .u16 (port.toNat : Int), .int .u32 (ei.toNat : Int), .int .u32 0, .int .u8 0, .int .u8 2, .int .u16 65535, .int .u16 0, .slice none 0 0, .slice none 0 0] 44)
  have KN := Blk.new w1 #[.int .u16 (et.toNat : Int), .int .u16 (port.toNat : Int), .int .u32 (ei.toNat : Int), .int .u32 0, .int .u8 0, .int .u8 2, .int .u16 65535, .int .u16 0, .slice none 0 0, .slice none 0 0] 44
  clear hb HPL KE e0 e1 e2 e3 e4 e5 e6 e7 e8 e9 e10 e11 e12
  go_wp2_with fail
  obtain ⟨V2, hV2⟩ : ∃ V2, V2 = w1.alloc (.cells #[.int .u16 (et.toNat : Int), .int .u16 (port.toNat : Int), .int .u32 (ei.toNat : Int), .int .u32 0, .int .u8 0, .int .u8 2, .int .u16 65535, .int .u16 0, .slice none 0 0, .slice none 0 0] 44) := ⟨_, rfl⟩
  rw [← hV2] at hB KZ KN ⊢
  clear hV2
  have hne : w.heap.size + 1 ≠ w1.heap.size := by have := hZl.out; omega
  have hgle : w.heap.size ≤ w1.heap.size := by have := hZl.out; omega
  clear hZl
  generalize w1.heap.size = g at *
  refine (HSZ _).out.mono ?_
  rintro e w5 ⟨rfl, hb⟩
  replace hB := bnext hB hb
  replace KN := KN.next hb
  replace KZ := KZ.next hb
  clear hb HSZ
  go_wp2_with fail
  refine (HPM _).out.mono ?_
  rintro e w6 ⟨L, AL, cL, rfl, HL, rL, hb⟩
  replace hB := bnext hB hb
  replace KN := KN.next hb
  replace KZ := KZ.next hb
  clear hb HPM
  obtain ⟨z0, z1, z2, z3, z4, z5, z6, z7, z8, z9, f0, f1, f2, f3, f4, f5, f6, f7, f8, f9⟩ := KN.get10
  obtain ⟨y0, y1, y2, y3, y4, y5, y6, y7, y8, y9, t0, t1, t2, t3, t4, t5, t6, t7, t8, t9⟩ := KZ.get10
  go_wp2_with fail
  have hl4 : L.length = 4 := by rw [HL.out]; rfl
  obtain ⟨bl, off, hA, hbl, hcl⟩ := byt_at rL (k := 0) (by omega)
  subst hA
  have hb1 := seg_apart KN rL hl4
  have hb2 := seg_apart KZ rL hl4
  have HRL := Lib.hid ((rL.sets hb1 8 (.slice (some ⟨bl, off, none⟩) L.length cL)).setsAll hb2 (.int .u16 (et.toNat : Int)) (.int .u16 (port.toNat : Int)) (.int .u32 (ei.toNat : Int)) (.int .u32 0) (.int .u8 0) (.int .u8 2) (.int .u16 65535) (.int .u16 0) (.slice (some ⟨bl, off, none⟩) L.length cL) (.slice none 0 0))
  have HBB := Lib.hid (bset10 (hB.setCell (p := ⟨g, 8, none⟩) hgle (.slice (some ⟨bl, off, none⟩) L.length cL)) (show w.heap.size ≤ w.heap.size + 1 by omega) (.int .u16 (et.toNat : Int)) (.int .u16 (port.toNat : Int)) (.int .u32 (ei.toNat : Int)) (.int .u32 0) (.int .u8 0) (.int .u8 2) (.int .u16 65535) (.int .u16 0) (.slice (some ⟨bl, off, none⟩) L.length cL) (.slice none 0 0))
  clear hl4 hcl hb1 hb2 rL KN KZ hB
  simp [bodyPost, results, Tryd.results31, go_sem, *]
  exact ⟨L, _, _, ⟨rfl, rfl, rfl⟩, HL, HRL.out, HBB.out⟩
set_option maxHeartbeats 1000000 in
theorem pgreet_any (fs fd : UInt32) (fp fq : UInt16) (fr : UInt8) (eb eh ea : Int) (ex ej : Bool) (et : UInt16) (es ei : UInt32) (port : UInt16) (sa sb : UInt16) (sq sk : UInt32) (sr sf : UInt8) (sz su : UInt16) (A1 A2 : Option Addr) (n1 c1 n2 c2 : Nat) (ei1 sq1 : UInt32) (e1 : ((ei.toNat : Int) + 1) % 4294967296 = (ei1.toNat : Int)) (e2 : ((sq.toNat : Int) + 1) % 4294967296 = (sq1.toNat : Int)) (w : World) :
    Calls Tryd.prog 32 #[.agg #[.int .u32 (fs.toNat : Int), .int .u32 (fd.toNat : Int), .int .u16 (fp.toNat : Int), .int .u16 (fq.toNat : Int), .int .u8 (fr.toNat : Int), .int .i64 eb, .int .i64 eh, .int .i64 ea, .bool ex, .bool ej, .int .u16 (et.toNat : Int), .int .u32 (es.toNat : Int), .int .u32 (ei.toNat : Int)], .int .u16 (port.toNat : Int), .agg #[.int .u16 (sa.toNat : Int), .int .u16 (sb.toNat : Int), .int .u32 (sq.toNat : Int), .int .u32 (sk.toNat : Int), .int .u8 (sr.toNat : Int), .int .u8 (sf.toNat : Int), .int .u16 (sz.toNat : Int), .int .u16 (su.toNat : Int), .slice A1 n1 c1, .slice A2 n2 c2]] w fun e w' => e = .returned (.agg #[.int .u16 (et.toNat : Int), .int .u16 (port.toNat : Int), .int .u32 (ei1.toNat : Int), .int .u32 (sq1.toNat : Int), .int .u8 0, .int .u8 16, .int .u16 65535, .int .u16 0, .slice none 0 0, .slice none 0 0]) ∧ Below w.heap.size w w' := by
  have HPL : ∀ W, Hid (Calls Tryd.prog 52 #[.int .u16 (et.toNat : Int), .int .u16 (port.toNat : Int), .int .u32 (ei1.toNat : Int), .int .u32 (sq1.toNat : Int), .int .u8 16] W fun e w' => e = .returned (.agg #[.int .u16 (et.toNat : Int), .int .u16 (port.toNat : Int), .int .u32 (ei1.toNat : Int), .int .u32 (sq1.toNat : Int), .int .u8 0, .int .u8 16, .int .u16 65535, .int .u16 0, .slice none 0 0, .slice none 0 0]) ∧ Below W.heap.size W w') := fun W => tplain_any et port ei1 sq1 16 W
  obtain ⟨V, hV⟩ : ∃ V, V = (((w.alloc (.cells #[.int .u32 (fs.toNat : Int), .int .u32 (fd.toNat : Int), .int .u16 (fp.toNat : Int), .int .u16 (fq.toNat : Int), .int .u8 (fr.toNat : Int), .int .i64 eb, .int .i64 eh, .int .i64 ea, .bool ex, .bool ej, .int .u16 (et.toNat : Int), .int .u32 (es.toNat : Int), .int .u32 (ei.toNat : Int)] 55)).alloc (.cells #[.int .u16 (sa.toNat : Int), .int .u16 (sb.toNat : Int), .int .u32 (sq.toNat : Int), .int .u32 (sk.toNat : Int), .int .u8 (sr.toNat : Int), .int .u8 (sf.toNat : Int), .int .u16 (sz.toNat : Int), .int .u16 (su.toNat : Int), .slice A1 n1 c1, .slice A2 n2 c2] 44)).alloc (.cells #[.int .u16 0, .int .u16 0, .int .u32 0, .int .u32 0, .int .u8 0, .int .u8 0, .int .u16 0, .int .u16 0, .slice none 0 0, .slice none 0 0] 44)) := ⟨_, rfl⟩
  have hB : Below w.heap.size w V := by subst hV; exact (bnextA (bnextA (bnextA (Below.refl _ _) _) _) _)
  have KE : Blk V (w.heap.size) [.int .u32 (fs.toNat : Int), .int .u32 (fd.toNat : Int), .int .u16 (fp.toNat : Int), .int .u16 (fq.toNat : Int), .int .u8 (fr.toNat : Int), .int .i64 eb, .int .i64 eh, .int .i64 ea, .bool ex, .bool ej, .int .u16 (et.toNat : Int), .int .u32 (es.toNat : Int), .int .u32 (ei.toNat : Int)] 55 := by subst hV; simpa using ((Blk.new w #[.int .u32 (fs.toNat : Int), .int .u32 (fd.toNat : Int), .int .u16 (fp.toNat : Int), .int .u16 (fq.toNat : Int), .int .u8 (fr.toNat : Int), .int .i64 eb, .int .i64 eh, .int .i64 ea, .bool ex, .bool ej, .int .u16 (et.toNat : Int), .int .u32 (es.toNat : Int), .int .u32 (ei.toNat : Int)] 55).alloc (.cells #[.int .u16 (sa.toNat : Int), .int .u16 (sb.toNat : Int), .int .u32 (sq.toNat : Int), .int .u32 (sk.toNat : Int), .int .u8 (sr.toNat : Int), .int .u8 (sf.toNat : Int), .int .u16 (sz.toNat : Int), .int .u16 (su.toNat : Int), .slice A1 n1 c1, .slice A2 n2 c2] 44)).alloc (.cells #[.int .u16 0, .int .u16 0, .int .u32 0, .int .u32 0, .int .u8 0, .int .u8 0, .int .u16 0, .int .u16 0, .slice none 0 0, .slice none 0 0] 44)
  have KG : Blk V (w.heap.size + 1) [.int .u16 (sa.toNat : Int), .int .u16 (sb.toNat : Int), .int .u32 (sq.toNat : Int), .int .u32 (sk.toNat : Int), .int .u8 (sr.toNat : Int), .int .u8 (sf.toNat : Int), .int .u16 (sz.toNat : Int), .int .u16 (su.toNat : Int), .slice A1 n1 c1, .slice A2 n2 c2] 44 := by subst hV; simpa using (Blk.new (w.alloc (.cells #[.int .u32 (fs.toNat : Int), .int .u32 (fd.toNat : Int), .int .u16 (fp.toNat : Int), .int .u16 (fq.toNat : Int), .int .u8 (fr.toNat : Int), .int .i64 eb, .int .i64 eh, .int .i64 ea, .bool ex, .bool ej, .int .u16 (et.toNat : Int), .int .u32 (es.toNat : Int), .int .u32 (ei.toNat : Int)] 55)) #[.int .u16 (sa.toNat : Int), .int .u16 (sb.toNat : Int), .int .u32 (sq.toNat : Int), .int .u32 (sk.toNat : Int), .int .u8 (sr.toNat : Int), .int .u8 (sf.toNat : Int), .int .u16 (sz.toNat : Int), .int .u16 (su.toNat : Int), .slice A1 n1 c1, .slice A2 n2 c2] 44).alloc (.cells #[.int .u16 0, .int .u16 0, .int .u32 0, .int .u32 0, .int .u8 0, .int .u8 0, .int .u16 0, .int .u16 0, .slice none 0 0, .slice none 0 0] 44)
  have KZ : Blk V (w.heap.size + 2) [.int .u16 0, .int .u16 0, .int .u32 0, .int .u32 0, .int .u8 0, .int .u8 0, .int .u16 0, .int .u16 0, .slice none 0 0, .slice none 0 0] 44 := by subst hV; simpa using Blk.new ((w.alloc (.cells #[.int .u32 (fs.toNat : Int), .int .u32 (fd.toNat : Int), .int .u16 (fp.toNat : Int), .int .u16 (fq.toNat : Int), .int .u8 (fr.toNat : Int), .int .i64 eb, .int .i64 eh, .int .i64 ea, .bool ex, .bool ej, .int .u16 (et.toNat : Int), .int .u32 (es.toNat : Int), .int .u32 (ei.toNat : Int)] 55)).alloc (.cells #[.int .u16 (sa.toNat : Int), .int .u16 (sb.toNat : Int), .int .u32 (sq.toNat : Int), .int .u32 (sk.toNat : Int), .int .u8 (sr.toNat : Int), .int .u8 (sf.toNat : Int), .int .u16 (sz.toNat : Int), .int .u16 (su.toNat : Int), .slice A1 n1 c1, .slice A2 n2 c2] 44)) #[.int .u16 0, .int .u16 0, .int .u32 0, .int .u32 0, .int .u8 0, .int .u8 0, .int .u16 0, .int .u16 0, .slice none 0 0, .slice none 0 0] 44
  obtain ⟨c0, c1, c2, c3, c4, c5, c6, c7, c8, c9, c10, c11, c12, -⟩ := KE.get13
  obtain ⟨z0, z1, z2, z3, z4, z5, z6, z7, z8, z9, -⟩ := KG.get10
  go_enter Tryd.func32, Tryd.ntmps32
  go_wp2_with fail
  rw [← hV]
  clear hV
  refine (HPL _).out.mono ?_
  rintro e w1 ⟨rfl, hb⟩
  replace hB := bnext hB hb
  replace KZ := KZ.next hb
  clear hb HPL KE KG c0 c1 c2 c3 c4 c5 c6 c7 c8 c9 c10 c11 c12 z0 z1 z2 z3 z4 z5 z6 z7 z8 z9 e1 e2
  obtain ⟨y0, y1, y2, y3, y4, y5, y6, y7, y8, y9, t0, t1, t2, t3, t4, t5, t6, t7, t8, t9⟩ := KZ.get10
  have HBB := Lib.hid (bset10 hB (show w.heap.size ≤ w.heap.size + 2 by omega) (.int .u16 (et.toNat : Int)) (.int .u16 (port.toNat : Int)) (.int .u32 (ei1.toNat : Int)) (.int .u32 (sq1.toNat : Int)) (.int .u8 0) (.int .u8 16) (.int .u16 65535) (.int .u16 0) (.slice none 0 0) (.slice none 0 0))
  clear hB KZ
  go_wp2_with fail
  simp [bodyPost, results, Tryd.results32, go_sem, *]
  exact HBB.out
set_option maxHeartbeats 1000000 in
theorem prefuse_any (fs fd : UInt32) (fp fq : UInt16) (fr : UInt8) (eb eh ea : Int) (ex ej : Bool) (et : UInt16) (es ei : UInt32) (ei1 es1 : UInt32) (e1 : ((ei.toNat : Int) + 1) % 4294967296 = (ei1.toNat : Int)) (e2 : ((es.toNat : Int) + 1) % 4294967296 = (es1.toNat : Int)) (w : World) :
    Calls Tryd.prog 34 #[.agg #[.int .u32 (fs.toNat : Int), .int .u32 (fd.toNat : Int), .int .u16 (fp.toNat : Int), .int .u16 (fq.toNat : Int), .int .u8 (fr.toNat : Int), .int .i64 eb, .int .i64 eh, .int .i64 ea, .bool ex, .bool ej, .int .u16 (et.toNat : Int), .int .u32 (es.toNat : Int), .int .u32 (ei.toNat : Int)]] w fun e w' => e = .returned (.agg #[.int .u16 (fq.toNat : Int), .int .u16 (fp.toNat : Int), .int .u32 (es1.toNat : Int), .int .u32 (ei1.toNat : Int), .int .u8 0, .int .u8 20, .int .u16 65535, .int .u16 0, .slice none 0 0, .slice none 0 0]) ∧ Below w.heap.size w w' := by
  have HPL : ∀ W, Hid (Calls Tryd.prog 52 #[.int .u16 (fq.toNat : Int), .int .u16 (fp.toNat : Int), .int .u32 (es1.toNat : Int), .int .u32 (ei1.toNat : Int), .int .u8 20] W fun e w' => e = .returned (.agg #[.int .u16 (fq.toNat : Int), .int .u16 (fp.toNat : Int), .int .u32 (es1.toNat : Int), .int .u32 (ei1.toNat : Int), .int .u8 0, .int .u8 20, .int .u16 65535, .int .u16 0, .slice none 0 0, .slice none 0 0]) ∧ Below W.heap.size W w') := fun W => tplain_any fq fp es1 ei1 20 W
  obtain ⟨V, hV⟩ : ∃ V, V = ((w.alloc (.cells #[.int .u32 (fs.toNat : Int), .int .u32 (fd.toNat : Int), .int .u16 (fp.toNat : Int), .int .u16 (fq.toNat : Int), .int .u8 (fr.toNat : Int), .int .i64 eb, .int .i64 eh, .int .i64 ea, .bool ex, .bool ej, .int .u16 (et.toNat : Int), .int .u32 (es.toNat : Int), .int .u32 (ei.toNat : Int)] 55)).alloc (.cells #[.int .u16 0, .int .u16 0, .int .u32 0, .int .u32 0, .int .u8 0, .int .u8 0, .int .u16 0, .int .u16 0, .slice none 0 0, .slice none 0 0] 44)) := ⟨_, rfl⟩
  have hB : Below w.heap.size w V := by subst hV; exact (bnextA (bnextA (Below.refl _ _) _) _)
  have KE : Blk V (w.heap.size) [.int .u32 (fs.toNat : Int), .int .u32 (fd.toNat : Int), .int .u16 (fp.toNat : Int), .int .u16 (fq.toNat : Int), .int .u8 (fr.toNat : Int), .int .i64 eb, .int .i64 eh, .int .i64 ea, .bool ex, .bool ej, .int .u16 (et.toNat : Int), .int .u32 (es.toNat : Int), .int .u32 (ei.toNat : Int)] 55 := by subst hV; simpa using (Blk.new w #[.int .u32 (fs.toNat : Int), .int .u32 (fd.toNat : Int), .int .u16 (fp.toNat : Int), .int .u16 (fq.toNat : Int), .int .u8 (fr.toNat : Int), .int .i64 eb, .int .i64 eh, .int .i64 ea, .bool ex, .bool ej, .int .u16 (et.toNat : Int), .int .u32 (es.toNat : Int), .int .u32 (ei.toNat : Int)] 55).alloc (.cells #[.int .u16 0, .int .u16 0, .int .u32 0, .int .u32 0, .int .u8 0, .int .u8 0, .int .u16 0, .int .u16 0, .slice none 0 0, .slice none 0 0] 44)
  have KZ : Blk V (w.heap.size + 1) [.int .u16 0, .int .u16 0, .int .u32 0, .int .u32 0, .int .u8 0, .int .u8 0, .int .u16 0, .int .u16 0, .slice none 0 0, .slice none 0 0] 44 := by subst hV; simpa using Blk.new (w.alloc (.cells #[.int .u32 (fs.toNat : Int), .int .u32 (fd.toNat : Int), .int .u16 (fp.toNat : Int), .int .u16 (fq.toNat : Int), .int .u8 (fr.toNat : Int), .int .i64 eb, .int .i64 eh, .int .i64 ea, .bool ex, .bool ej, .int .u16 (et.toNat : Int), .int .u32 (es.toNat : Int), .int .u32 (ei.toNat : Int)] 55)) #[.int .u16 0, .int .u16 0, .int .u32 0, .int .u32 0, .int .u8 0, .int .u8 0, .int .u16 0, .int .u16 0, .slice none 0 0, .slice none 0 0] 44
  obtain ⟨c0, c1, c2, c3, c4, c5, c6, c7, c8, c9, c10, c11, c12, -⟩ := KE.get13
  go_enter Tryd.func34, Tryd.ntmps34
  go_wp2_with fail
  rw [← hV]
  clear hV
  refine (HPL _).out.mono ?_
  rintro e w1 ⟨rfl, hb⟩
  replace hB := bnext hB hb
  replace KZ := KZ.next hb
  clear hb HPL KE c0 c1 c2 c3 c4 c5 c6 c7 c8 c9 c10 c11 c12 e1 e2
  obtain ⟨y0, y1, y2, y3, y4, y5, y6, y7, y8, y9, t0, t1, t2, t3, t4, t5, t6, t7, t8, t9⟩ := KZ.get10
  have HBB := Lib.hid (bset10 hB (show w.heap.size ≤ w.heap.size + 1 by omega) (.int .u16 (fq.toNat : Int)) (.int .u16 (fp.toNat : Int)) (.int .u32 (es1.toNat : Int)) (.int .u32 (ei1.toNat : Int)) (.int .u8 0) (.int .u8 20) (.int .u16 65535) (.int .u16 0) (.slice none 0 0) (.slice none 0 0))
  clear hB KZ
  go_wp2_with fail
  simp [bodyPost, results, Tryd.results34, go_sem, *]
  exact HBB.out
set_option maxHeartbeats 2000000 in
theorem pjoin_j (fs fd : UInt32) (fp fq : UInt16) (fr : UInt8) (eb eh ea : Int) (ex : Bool) (et : UInt16) (es ei : UInt32) (sa sb : UInt16) (sq sk : UInt32) (sr sf : UInt8) (sz su : UInt16) (A1 A2 : Option Addr) (n1 c1 n2 c2 : Nat) (w : World) :
    Calls Tryd.prog 35 #[.agg #[.int .u32 (fs.toNat : Int), .int .u32 (fd.toNat : Int), .int .u16 (fp.toNat : Int), .int .u16 (fq.toNat : Int), .int .u8 (fr.toNat : Int), .int .i64 eb, .int .i64 eh, .int .i64 ea, .bool ex, .bool true, .int .u16 (et.toNat : Int), .int .u32 (es.toNat : Int), .int .u32 (ei.toNat : Int)], .agg #[.int .u16 (sa.toNat : Int), .int .u16 (sb.toNat : Int), .int .u32 (sq.toNat : Int), .int .u32 (sk.toNat : Int), .int .u8 (sr.toNat : Int), .int .u8 (sf.toNat : Int), .int .u16 (sz.toNat : Int), .int .u16 (su.toNat : Int), .slice A1 n1 c1, .slice A2 n2 c2]] w fun e w' => e = .returned (.tuple #[.agg #[.int .u32 (fs.toNat : Int), .int .u32 (fd.toNat : Int), .int .u16 (fp.toNat : Int), .int .u16 (fq.toNat : Int), .int .u8 (fr.toNat : Int), .int .i64 eb, .int .i64 eh, .int .i64 ea, .bool ex, .bool true, .int .u16 (et.toNat : Int), .int .u32 (es.toNat : Int), .int .u32 (ei.toNat : Int)], .bool false]) ∧ Below w.heap.size w w' := by
  go_enter Tryd.func35, Tryd.ntmps35
  go_wp2_with fail
  simp [bodyPost, results, Tryd.results35, go_sem, *]
  exact bnextA (bnextA (bnextA (Below.refl w.heap.size w) _) _) _
set_option maxHeartbeats 2000000 in
theorem pjoin_18 (fs fd : UInt32) (fp fq : UInt16) (fr : UInt8) (eb eh ea : Int) (ex : Bool) (et : UInt16) (es ei : UInt32) (sa sb : UInt16) (sq sk : UInt32) (sr sf : UInt8) (sz su : UInt16) (A1 A2 : Option Addr) (n1 c1 n2 c2 : Nat) (H1f : hasB sf 18 = false) (w : World) :
    Calls Tryd.prog 35 #[.agg #[.int .u32 (fs.toNat : Int), .int .u32 (fd.toNat : Int), .int .u16 (fp.toNat : Int), .int .u16 (fq.toNat : Int), .int .u8 (fr.toNat : Int), .int .i64 eb, .int .i64 eh, .int .i64 ea, .bool ex, .bool false, .int .u16 (et.toNat : Int), .int .u32 (es.toNat : Int), .int .u32 (ei.toNat : Int)], .agg #[.int .u16 (sa.toNat : Int), .int .u16 (sb.toNat : Int), .int .u32 (sq.toNat : Int), .int .u32 (sk.toNat : Int), .int .u8 (sr.toNat : Int), .int .u8 (sf.toNat : Int), .int .u16 (sz.toNat : Int), .int .u16 (su.toNat : Int), .slice A1 n1 c1, .slice A2 n2 c2]] w fun e w' => e = .returned (.tuple #[.agg #[.int .u32 (fs.toNat : Int), .int .u32 (fd.toNat : Int), .int .u16 (fp.toNat : Int), .int .u16 (fq.toNat : Int), .int .u8 (fr.toNat : Int), .int .i64 eb, .int .i64 eh, .int .i64 ea, .bool ex, .bool false, .int .u16 (et.toNat : Int), .int .u32 (es.toNat : Int), .int .u32 (ei.toNat : Int)], .bool false]) ∧ Below w.heap.size w w' := by
  have H1 : ∀ W, Hid (Calls Tryd.prog 48 #[.agg #[.int .u16 (sa.toNat : Int), .int .u16 (sb.toNat : Int), .int .u32 (sq.toNat : Int), .int .u32 (sk.toNat : Int), .int .u8 (sr.toNat : Int), .int .u8 (sf.toNat : Int), .int .u16 (sz.toNat : Int), .int .u16 (su.toNat : Int), .slice A1 n1 c1, .slice A2 n2 c2], .int .u8 18] W fun e w' => e = .returned (.bool false) ∧ Below W.heap.size W w') := fun W => by
    have h := thas_any sa sb sq sk sr sf sz su A1 A2 n1 c1 n2 c2 18 W
    rw [H1f] at h
    exact h
  obtain ⟨V, hV⟩ : ∃ V, V = (((w.alloc (.cells #[.int .u32 (fs.toNat : Int), .int .u32 (fd.toNat : Int), .int .u16 (fp.toNat : Int), .int .u16 (fq.toNat : Int), .int .u8 (fr.toNat : Int), .int .i64 eb, .int .i64 eh, .int .i64 ea, .bool ex, .bool false, .int .u16 (et.toNat : Int), .int .u32 (es.toNat : Int), .int .u32 (ei.toNat : Int)] 55)).alloc (.cells #[.int .u16 (sa.toNat : Int), .int .u16 (sb.toNat : Int), .int .u32 (sq.toNat : Int), .int .u32 (sk.toNat : Int), .int .u8 (sr.toNat : Int), .int .u8 (sf.toNat : Int), .int .u16 (sz.toNat : Int), .int .u16 (su.toNat : Int), .slice A1 n1 c1, .slice A2 n2 c2] 44)).alloc (.cells #[.int .u32 0, .int .u32 0, .int .u16 0, .int .u16 0, .int .u8 0, .int .i64 0, .int .i64 0, .int .i64 0, .bool false, .bool false, .int .u16 0, .int .u32 0, .int .u32 0] 55)) := ⟨_, rfl⟩
  have hB : Below w.heap.size w V := by subst hV; exact (bnextA (bnextA (bnextA (Below.refl _ _) _) _) _)
  have KE : Blk V (w.heap.size) [.int .u32 (fs.toNat : Int), .int .u32 (fd.toNat : Int), .int .u16 (fp.toNat : Int), .int .u16 (fq.toNat : Int), .int .u8 (fr.toNat : Int), .int .i64 eb, .int .i64 eh, .int .i64 ea, .bool ex, .bool false, .int .u16 (et.toNat : Int), .int .u32 (es.toNat : Int), .int .u32 (ei.toNat : Int)] 55 := by subst hV; simpa using ((Blk.new w #[.int .u32 (fs.toNat : Int), .int .u32 (fd.toNat : Int), .int .u16 (fp.toNat : Int), .int .u16 (fq.toNat : Int), .int .u8 (fr.toNat : Int), .int .i64 eb, .int .i64 eh, .int .i64 ea, .bool ex, .bool false, .int .u16 (et.toNat : Int), .int .u32 (es.toNat : Int), .int .u32 (ei.toNat : Int)] 55).alloc (.cells #[.int .u16 (sa.toNat : Int), .int .u16 (sb.toNat : Int), .int .u32 (sq.toNat : Int), .int .u32 (sk.toNat : Int), .int .u8 (sr.toNat : Int), .int .u8 (sf.toNat : Int), .int .u16 (sz.toNat : Int), .int .u16 (su.toNat : Int), .slice A1 n1 c1, .slice A2 n2 c2] 44)).alloc (.cells #[.int .u32 0, .int .u32 0, .int .u16 0, .int .u16 0, .int .u8 0, .int .i64 0, .int .i64 0, .int .i64 0, .bool false, .bool false, .int .u16 0, .int .u32 0, .int .u32 0] 55)
  have KG : Blk V (w.heap.size + 1) [.int .u16 (sa.toNat : Int), .int .u16 (sb.toNat : Int), .int .u32 (sq.toNat : Int), .int .u32 (sk.toNat : Int), .int .u8 (sr.toNat : Int), .int .u8 (sf.toNat : Int), .int .u16 (sz.toNat : Int), .int .u16 (su.toNat : Int), .slice A1 n1 c1, .slice A2 n2 c2] 44 := by subst hV; simpa using (Blk.new (w.alloc (.cells #[.int .u32 (fs.toNat : Int), .int .u32 (fd.toNat : Int), .int .u16 (fp.toNat : Int), .int .u16 (fq.toNat : Int), .int .u8 (fr.toNat : Int), .int .i64 eb, .int .i64 eh, .int .i64 ea, .bool ex, .bool false, .int .u16 (et.toNat : Int), .int .u32 (es.toNat : Int), .int .u32 (ei.toNat : Int)] 55)) #[.int .u16 (sa.toNat : Int), .int .u16 (sb.toNat : Int), .int .u32 (sq.toNat : Int), .int .u32 (sk.toNat : Int), .int .u8 (sr.toNat : Int), .int .u8 (sf.toNat : Int), .int .u16 (sz.toNat : Int), .int .u16 (su.toNat : Int), .slice A1 n1 c1, .slice A2 n2 c2] 44).alloc (.cells #[.int .u32 0, .int .u32 0, .int .u16 0, .int .u16 0, .int .u8 0, .int .i64 0, .int .i64 0, .int .i64 0, .bool false, .bool false, .int .u16 0, .int .u32 0, .int .u32 0] 55)
  have KZ : Blk V (w.heap.size + 2) [.int .u32 0, .int .u32 0, .int .u16 0, .int .u16 0, .int .u8 0, .int .i64 0, .int .i64 0, .int .i64 0, .bool false, .bool false, .int .u16 0, .int .u32 0, .int .u32 0] 55 := by subst hV; simpa using Blk.new ((w.alloc (.cells #[.int .u32 (fs.toNat : Int), .int .u32 (fd.toNat : Int), .int .u16 (fp.toNat : Int), .int .u16 (fq.toNat : Int), .int .u8 (fr.toNat : Int), .int .i64 eb, .int .i64 eh, .int .i64 ea, .bool ex, .bool false, .int .u16 (et.toNat : Int), .int .u32 (es.toNat : Int), .int .u32 (ei.toNat : Int)] 55)).alloc (.cells #[.int .u16 (sa.toNat : Int), .int .u16 (sb.toNat : Int), .int .u32 (sq.toNat : Int), .int .u32 (sk.toNat : Int), .int .u8 (sr.toNat : Int), .int .u8 (sf.toNat : Int), .int .u16 (sz.toNat : Int), .int .u16 (su.toNat : Int), .slice A1 n1 c1, .slice A2 n2 c2] 44)) #[.int .u32 0, .int .u32 0, .int .u16 0, .int .u16 0, .int .u8 0, .int .i64 0, .int .i64 0, .int .i64 0, .bool false, .bool false, .int .u16 0, .int .u32 0, .int .u32 0] 55
  obtain ⟨c0, c1, c2, c3, c4, c5, c6, c7, c8, c9, c10, c11, c12, l0, l1, l2, l3, l4, l5, l6, l7, l8, l9, l10, l11, l12⟩ := KE.get13
  obtain ⟨z0, z1, z2, z3, z4, z5, z6, z7, z8, z9, -⟩ := KG.get10
  go_enter Tryd.func35, Tryd.ntmps35
  go_wp2_with fail
  rw [← hV]
  clear hV
  refine (H1 _).out.mono ?_
  rintro e w1 ⟨rfl, hb⟩
  replace hB := bnext hB hb
  replace KE := KE.next hb
  replace KG := KG.next hb
  replace KZ := KZ.next hb
  clear hb c0 c1 c2 c3 c4 c5 c6 c7 c8 c9 c10 c11 c12 l0 l1 l2 l3 l4 l5 l6 l7 l8 l9 l10 l11 l12 z0 z1 z2 z3 z4 z5 z6 z7 z8 z9
  obtain ⟨c0, c1, c2, c3, c4, c5, c6, c7, c8, c9, c10, c11, c12, l0, l1, l2, l3, l4, l5, l6, l7, l8, l9, l10, l11, l12⟩ := KE.get13
  obtain ⟨z0, z1, z2, z3, z4, z5, z6, z7, z8, z9, -⟩ := KG.get10
  obtain ⟨y0, y1, y2, y3, y4, y5, y6, y7, y8, y9, y10, y11, y12, t0, t1, t2, t3, t4, t5, t6, t7, t8, t9, t10, t11, t12⟩ := KZ.get13
  have HBB := Lib.hid (bset13 hB (show w.heap.size ≤ w.heap.size + 2 by omega) (.int .u32 (fs.toNat : Int)) (.int .u32 (fd.toNat : Int)) (.int .u16 (fp.toNat : Int)) (.int .u16 (fq.toNat : Int)) (.int .u8 (fr.toNat : Int)) (.int .i64 eb) (.int .i64 eh) (.int .i64 ea) (.bool ex) (.bool false) (.int .u16 (et.toNat : Int)) (.int .u32 (es.toNat : Int)) (.int .u32 (ei.toNat : Int)))
  go_wp2_with fail
  simp [bodyPost, results, Tryd.results35, go_sem, *]
  exact HBB.out
set_option maxHeartbeats 2000000 in
theorem pjoin_4 (fs fd : UInt32) (fp fq : UInt16) (fr : UInt8) (eb eh ea : Int) (ex : Bool) (et : UInt16) (es ei : UInt32) (sa sb : UInt16) (sq sk : UInt32) (sr sf : UInt8) (sz su : UInt16) (A1 A2 : Option Addr) (n1 c1 n2 c2 : Nat) (H1f : hasB sf 18 = true) (H2f : hasB sf 4 = true) (w : World) :
    Calls Tryd.prog 35 #[.agg #[.int .u32 (fs.toNat : Int), .int .u32 (fd.toNat : Int), .int .u16 (fp.toNat : Int), .int .u16 (fq.toNat : Int), .int .u8 (fr.toNat : Int), .int .i64 eb, .int .i64 eh, .int .i64 ea, .bool ex, .bool false, .int .u16 (et.toNat : Int), .int .u32 (es.toNat : Int), .int .u32 (ei.toNat : Int)], .agg #[.int .u16 (sa.toNat : Int), .int .u16 (sb.toNat : Int), .int .u32 (sq.toNat : Int), .int .u32 (sk.toNat : Int), .int .u8 (sr.toNat : Int), .int .u8 (sf.toNat : Int), .int .u16 (sz.toNat : Int), .int .u16 (su.toNat : Int), .slice A1 n1 c1, .slice A2 n2 c2]] w fun e w' => e = .returned (.tuple #[.agg #[.int .u32 (fs.toNat : Int), .int .u32 (fd.toNat : Int), .int .u16 (fp.toNat : Int), .int .u16 (fq.toNat : Int), .int .u8 (fr.toNat : Int), .int .i64 eb, .int .i64 eh, .int .i64 ea, .bool ex, .bool false, .int .u16 (et.toNat : Int), .int .u32 (es.toNat : Int), .int .u32 (ei.toNat : Int)], .bool false]) ∧ Below w.heap.size w w' := by
  have H1 : ∀ W, Hid (Calls Tryd.prog 48 #[.agg #[.int .u16 (sa.toNat : Int), .int .u16 (sb.toNat : Int), .int .u32 (sq.toNat : Int), .int .u32 (sk.toNat : Int), .int .u8 (sr.toNat : Int), .int .u8 (sf.toNat : Int), .int .u16 (sz.toNat : Int), .int .u16 (su.toNat : Int), .slice A1 n1 c1, .slice A2 n2 c2], .int .u8 18] W fun e w' => e = .returned (.bool true) ∧ Below W.heap.size W w') := fun W => by
    have h := thas_any sa sb sq sk sr sf sz su A1 A2 n1 c1 n2 c2 18 W
    rw [H1f] at h
    exact h
  have H2 : ∀ W, Hid (Calls Tryd.prog 48 #[.agg #[.int .u16 (sa.toNat : Int), .int .u16 (sb.toNat : Int), .int .u32 (sq.toNat : Int), .int .u32 (sk.toNat : Int), .int .u8 (sr.toNat : Int), .int .u8 (sf.toNat : Int), .int .u16 (sz.toNat : Int), .int .u16 (su.toNat : Int), .slice A1 n1 c1, .slice A2 n2 c2], .int .u8 4] W fun e w' => e = .returned (.bool true) ∧ Below W.heap.size W w') := fun W => by
    have h := thas_any sa sb sq sk sr sf sz su A1 A2 n1 c1 n2 c2 4 W
    rw [H2f] at h
    exact h
  obtain ⟨V, hV⟩ : ∃ V, V = (((w.alloc (.cells #[.int .u32 (fs.toNat : Int), .int .u32 (fd.toNat : Int), .int .u16 (fp.toNat : Int), .int .u16 (fq.toNat : Int), .int .u8 (fr.toNat : Int), .int .i64 eb, .int .i64 eh, .int .i64 ea, .bool ex, .bool false, .int .u16 (et.toNat : Int), .int .u32 (es.toNat : Int), .int .u32 (ei.toNat : Int)] 55)).alloc (.cells #[.int .u16 (sa.toNat : Int), .int .u16 (sb.toNat : Int), .int .u32 (sq.toNat : Int), .int .u32 (sk.toNat : Int), .int .u8 (sr.toNat : Int), .int .u8 (sf.toNat : Int), .int .u16 (sz.toNat : Int), .int .u16 (su.toNat : Int), .slice A1 n1 c1, .slice A2 n2 c2] 44)).alloc (.cells #[.int .u32 0, .int .u32 0, .int .u16 0, .int .u16 0, .int .u8 0, .int .i64 0, .int .i64 0, .int .i64 0, .bool false, .bool false, .int .u16 0, .int .u32 0, .int .u32 0] 55)) := ⟨_, rfl⟩
  have hB : Below w.heap.size w V := by subst hV; exact (bnextA (bnextA (bnextA (Below.refl _ _) _) _) _)
  have KE : Blk V (w.heap.size) [.int .u32 (fs.toNat : Int), .int .u32 (fd.toNat : Int), .int .u16 (fp.toNat : Int), .int .u16 (fq.toNat : Int), .int .u8 (fr.toNat : Int), .int .i64 eb, .int .i64 eh, .int .i64 ea, .bool ex, .bool false, .int .u16 (et.toNat : Int), .int .u32 (es.toNat : Int), .int .u32 (ei.toNat : Int)] 55 := by subst hV; simpa using ((Blk.new w #[.int .u32 (fs.toNat : Int), .int .u32 (fd.toNat : Int), .int .u16 (fp.toNat : Int), .int .u16 (fq.toNat : Int), .int .u8 (fr.toNat : Int), .int .i64 eb, .int .i64 eh, .int .i64 ea, .bool ex, .bool false, .int .u16 (et.toNat : Int), .int .u32 (es.toNat : Int), .int .u32 (ei.toNat : Int)] 55).alloc (.cells #[.int .u16 (sa.toNat : Int), .int .u16 (sb.toNat : Int), .int .u32 (sq.toNat : Int), .int .u32 (sk.toNat : Int), .int .u8 (sr.toNat : Int), .int .u8 (sf.toNat : Int), .int .u16 (sz.toNat : Int), .int .u16 (su.toNat : Int), .slice A1 n1 c1, .slice A2 n2 c2] 44)).alloc (.cells #[.int .u32 0, .int .u32 0, .int .u16 0, .int .u16 0, .int .u8 0, .int .i64 0, .int .i64 0, .int .i64 0, .bool false, .bool false, .int .u16 0, .int .u32 0, .int .u32 0] 55)
  have KG : Blk V (w.heap.size + 1) [.int .u16 (sa.toNat : Int), .int .u16 (sb.toNat : Int), .int .u32 (sq.toNat : Int), .int .u32 (sk.toNat : Int), .int .u8 (sr.toNat : Int), .int .u8 (sf.toNat : Int), .int .u16 (sz.toNat : Int), .int .u16 (su.toNat : Int), .slice A1 n1 c1, .slice A2 n2 c2] 44 := by subst hV; simpa using (Blk.new (w.alloc (.cells #[.int .u32 (fs.toNat : Int), .int .u32 (fd.toNat : Int), .int .u16 (fp.toNat : Int), .int .u16 (fq.toNat : Int), .int .u8 (fr.toNat : Int), .int .i64 eb, .int .i64 eh, .int .i64 ea, .bool ex, .bool false, .int .u16 (et.toNat : Int), .int .u32 (es.toNat : Int), .int .u32 (ei.toNat : Int)] 55)) #[.int .u16 (sa.toNat : Int), .int .u16 (sb.toNat : Int), .int .u32 (sq.toNat : Int), .int .u32 (sk.toNat : Int), .int .u8 (sr.toNat : Int), .int .u8 (sf.toNat : Int), .int .u16 (sz.toNat : Int), .int .u16 (su.toNat : Int), .slice A1 n1 c1, .slice A2 n2 c2] 44).alloc (.cells #[.int .u32 0, .int .u32 0, .int .u16 0, .int .u16 0, .int .u8 0, .int .i64 0, .int .i64 0, .int .i64 0, .bool false, .bool false, .int .u16 0, .int .u32 0, .int .u32 0] 55)
  have KZ : Blk V (w.heap.size + 2) [.int .u32 0, .int .u32 0, .int .u16 0, .int .u16 0, .int .u8 0, .int .i64 0, .int .i64 0, .int .i64 0, .bool false, .bool false, .int .u16 0, .int .u32 0, .int .u32 0] 55 := by subst hV; simpa using Blk.new ((w.alloc (.cells #[.int .u32 (fs.toNat : Int), .int .u32 (fd.toNat : Int), .int .u16 (fp.toNat : Int), .int .u16 (fq.toNat : Int), .int .u8 (fr.toNat : Int), .int .i64 eb, .int .i64 eh, .int .i64 ea, .bool ex, .bool false, .int .u16 (et.toNat : Int), .int .u32 (es.toNat : Int), .int .u32 (ei.toNat : Int)] 55)).alloc (.cells #[.int .u16 (sa.toNat : Int), .int .u16 (sb.toNat : Int), .int .u32 (sq.toNat : Int), .int .u32 (sk.toNat : Int), .int .u8 (sr.toNat : Int), .int .u8 (sf.toNat : Int), .int .u16 (sz.toNat : Int), .int .u16 (su.toNat : Int), .slice A1 n1 c1, .slice A2 n2 c2] 44)) #[.int .u32 0, .int .u32 0, .int .u16 0, .int .u16 0, .int .u8 0, .int .i64 0, .int .i64 0, .int .i64 0, .bool false, .bool false, .int .u16 0, .int .u32 0, .int .u32 0] 55
  obtain ⟨c0, c1, c2, c3, c4, c5, c6, c7, c8, c9, c10, c11, c12, l0, l1, l2, l3, l4, l5, l6, l7, l8, l9, l10, l11, l12⟩ := KE.get13
  obtain ⟨z0, z1, z2, z3, z4, z5, z6, z7, z8, z9, -⟩ := KG.get10
  go_enter Tryd.func35, Tryd.ntmps35
  go_wp2_with fail
  rw [← hV]
  clear hV
  refine (H1 _).out.mono ?_
  rintro e w1 ⟨rfl, hb⟩
  replace hB := bnext hB hb
  replace KE := KE.next hb
  replace KG := KG.next hb
  replace KZ := KZ.next hb
  clear hb c0 c1 c2 c3 c4 c5 c6 c7 c8 c9 c10 c11 c12 l0 l1 l2 l3 l4 l5 l6 l7 l8 l9 l10 l11 l12 z0 z1 z2 z3 z4 z5 z6 z7 z8 z9
  obtain ⟨c0, c1, c2, c3, c4, c5, c6, c7, c8, c9, c10, c11, c12, l0, l1, l2, l3, l4, l5, l6, l7, l8, l9, l10, l11, l12⟩ := KE.get13
  obtain ⟨z0, z1, z2, z3, z4, z5, z6, z7, z8, z9, -⟩ := KG.get10
  go_wp2_with fail
  refine (H2 _).out.mono ?_
  rintro e w1 ⟨rfl, hb⟩
  replace hB := bnext hB hb
  replace KE := KE.next hb
  replace KG := KG.next hb
  replace KZ := KZ.next hb
  clear hb c0 c1 c2 c3 c4 c5 c6 c7 c8 c9 c10 c11 c12 l0 l1 l2 l3 l4 l5 l6 l7 l8 l9 l10 l11 l12 z0 z1 z2 z3 z4 z5 z6 z7 z8 z9
  obtain ⟨c0, c1, c2, c3, c4, c5, c6, c7, c8, c9, c10, c11, c12, l0, l1, l2, l3, l4, l5, l6, l7, l8, l9, l10, l11, l12⟩ := KE.get13
  obtain ⟨z0, z1, z2, z3, z4, z5, z6, z7, z8, z9, -⟩ := KG.get10
  obtain ⟨y0, y1, y2, y3, y4, y5, y6, y7, y8, y9, y10, y11, y12, t0, t1, t2, t3, t4, t5, t6, t7, t8, t9, t10, t11, t12⟩ := KZ.get13
  have HBB := Lib.hid (bset13 hB (show w.heap.size ≤ w.heap.size + 2 by omega) (.int .u32 (fs.toNat : Int)) (.int .u32 (fd.toNat : Int)) (.int .u16 (fp.toNat : Int)) (.int .u16 (fq.toNat : Int)) (.int .u8 (fr.toNat : Int)) (.int .i64 eb) (.int .i64 eh) (.int .i64 ea) (.bool ex) (.bool false) (.int .u16 (et.toNat : Int)) (.int .u32 (es.toNat : Int)) (.int .u32 (ei.toNat : Int)))
  go_wp2_with fail
  simp [bodyPost, results, Tryd.results35, go_sem, *]
  exact HBB.out
set_option maxHeartbeats 2000000 in
theorem pjoin_a (fs fd : UInt32) (fp fq : UInt16) (fr : UInt8) (eb eh ea : Int) (ex : Bool) (et : UInt16) (es ei : UInt32) (sa sb : UInt16) (sq sk : UInt32) (sr sf : UInt8) (sz su : UInt16) (A1 A2 : Option Addr) (n1 c1 n2 c2 : Nat) (H1f : hasB sf 18 = true) (H2f : hasB sf 4 = false) (ei1 : UInt32) (e1 : ((ei.toNat : Int) + 1) % 4294967296 = (ei1.toNat : Int)) (e2 : ((sk.toNat : Int) != (ei1.toNat : Int)) = true) (w : World) :
    Calls Tryd.prog 35 #[.agg #[.int .u32 (fs.toNat : Int), .int .u32 (fd.toNat : Int), .int .u16 (fp.toNat : Int), .int .u16 (fq.toNat : Int), .int .u8 (fr.toNat : Int), .int .i64 eb, .int .i64 eh, .int .i64 ea, .bool ex, .bool false, .int .u16 (et.toNat : Int), .int .u32 (es.toNat : Int), .int .u32 (ei.toNat : Int)], .agg #[.int .u16 (sa.toNat : Int), .int .u16 (sb.toNat : Int), .int .u32 (sq.toNat : Int), .int .u32 (sk.toNat : Int), .int .u8 (sr.toNat : Int), .int .u8 (sf.toNat : Int), .int .u16 (sz.toNat : Int), .int .u16 (su.toNat : Int), .slice A1 n1 c1, .slice A2 n2 c2]] w fun e w' => e = .returned (.tuple #[.agg #[.int .u32 (fs.toNat : Int), .int .u32 (fd.toNat : Int), .int .u16 (fp.toNat : Int), .int .u16 (fq.toNat : Int), .int .u8 (fr.toNat : Int), .int .i64 eb, .int .i64 eh, .int .i64 ea, .bool ex, .bool false, .int .u16 (et.toNat : Int), .int .u32 (es.toNat : Int), .int .u32 (ei.toNat : Int)], .bool false]) ∧ Below w.heap.size w w' := by
  have H1 : ∀ W, Hid (Calls Tryd.prog 48 #[.agg #[.int .u16 (sa.toNat : Int), .int .u16 (sb.toNat : Int), .int .u32 (sq.toNat : Int), .int .u32 (sk.toNat : Int), .int .u8 (sr.toNat : Int), .int .u8 (sf.toNat : Int), .int .u16 (sz.toNat : Int), .int .u16 (su.toNat : Int), .slice A1 n1 c1, .slice A2 n2 c2], .int .u8 18] W fun e w' => e = .returned (.bool true) ∧ Below W.heap.size W w') := fun W => by
    have h := thas_any sa sb sq sk sr sf sz su A1 A2 n1 c1 n2 c2 18 W
    rw [H1f] at h
    exact h
  have H2 : ∀ W, Hid (Calls Tryd.prog 48 #[.agg #[.int .u16 (sa.toNat : Int), .int .u16 (sb.toNat : Int), .int .u32 (sq.toNat : Int), .int .u32 (sk.toNat : Int), .int .u8 (sr.toNat : Int), .int .u8 (sf.toNat : Int), .int .u16 (sz.toNat : Int), .int .u16 (su.toNat : Int), .slice A1 n1 c1, .slice A2 n2 c2], .int .u8 4] W fun e w' => e = .returned (.bool false) ∧ Below W.heap.size W w') := fun W => by
    have h := thas_any sa sb sq sk sr sf sz su A1 A2 n1 c1 n2 c2 4 W
    rw [H2f] at h
    exact h
  obtain ⟨V, hV⟩ : ∃ V, V = (((w.alloc (.cells #[.int .u32 (fs.toNat : Int), .int .u32 (fd.toNat : Int), .int .u16 (fp.toNat : Int), .int .u16 (fq.toNat : Int), .int .u8 (fr.toNat : Int), .int .i64 eb, .int .i64 eh, .int .i64 ea, .bool ex, .bool false, .int .u16 (et.toNat : Int), .int .u32 (es.toNat : Int), .int .u32 (ei.toNat : Int)] 55)).alloc (.cells #[.int .u16 (sa.toNat : Int), .int .u16 (sb.toNat : Int), .int .u32 (sq.toNat : Int), .int .u32 (sk.toNat : Int), .int .u8 (sr.toNat : Int), .int .u8 (sf.toNat : Int), .int .u16 (sz.toNat : Int), .int .u16 (su.toNat : Int), .slice A1 n1 c1, .slice A2 n2 c2] 44)).alloc (.cells #[.int .u32 0, .int .u32 0, .int .u16 0, .int .u16 0, .int .u8 0, .int .i64 0, .int .i64 0, .int .i64 0, .bool false, .bool false, .int .u16 0, .int .u32 0, .int .u32 0] 55)) := ⟨_, rfl⟩
  have hB : Below w.heap.size w V := by subst hV; exact (bnextA (bnextA (bnextA (Below.refl _ _) _) _) _)
  have KE : Blk V (w.heap.size) [.int .u32 (fs.toNat : Int), .int .u32 (fd.toNat : Int), .int .u16 (fp.toNat : Int), .int .u16 (fq.toNat : Int), .int .u8 (fr.toNat : Int), .int .i64 eb, .int .i64 eh, .int .i64 ea, .bool ex, .bool false, .int .u16 (et.toNat : Int), .int .u32 (es.toNat : Int), .int .u32 (ei.toNat : Int)] 55 := by subst hV; simpa using ((Blk.new w #[.int .u32 (fs.toNat : Int), .int .u32 (fd.toNat : Int), .int .u16 (fp.toNat : Int), .int .u16 (fq.toNat : Int), .int .u8 (fr.toNat : Int), .int .i64 eb, .int .i64 eh, .int .i64 ea, .bool ex, .bool false, .int .u16 (et.toNat : Int), .int .u32 (es.toNat : Int), .int .u32 (ei.toNat : Int)] 55).alloc (.cells #[.int .u16 (sa.toNat : Int), .int .u16 (sb.toNat : Int), .int .u32 (sq.toNat : Int), .int .u32 (sk.toNat : Int), .int .u8 (sr.toNat : Int), .int .u8 (sf.toNat : Int), .int .u16 (sz.toNat : Int), .int .u16 (su.toNat : Int), .slice A1 n1 c1, .slice A2 n2 c2] 44)).alloc (.cells #[.int .u32 0, .int .u32 0, .int .u16 0, .int .u16 0, .int .u8 0, .int .i64 0, .int .i64 0, .int .i64 0, .bool false, .bool false, .int .u16 0, .int .u32 0, .int .u32 0] 55)
  have KG : Blk V (w.heap.size + 1) [.int .u16 (sa.toNat : Int), .int .u16 (sb.toNat : Int), .int .u32 (sq.toNat : Int), .int .u32 (sk.toNat : Int), .int .u8 (sr.toNat : Int), .int .u8 (sf.toNat : Int), .int .u16 (sz.toNat : Int), .int .u16 (su.toNat : Int), .slice A1 n1 c1, .slice A2 n2 c2] 44 := by subst hV; simpa using (Blk.new (w.alloc (.cells #[.int .u32 (fs.toNat : Int), .int .u32 (fd.toNat : Int), .int .u16 (fp.toNat : Int), .int .u16 (fq.toNat : Int), .int .u8 (fr.toNat : Int), .int .i64 eb, .int .i64 eh, .int .i64 ea, .bool ex, .bool false, .int .u16 (et.toNat : Int), .int .u32 (es.toNat : Int), .int .u32 (ei.toNat : Int)] 55)) #[.int .u16 (sa.toNat : Int), .int .u16 (sb.toNat : Int), .int .u32 (sq.toNat : Int), .int .u32 (sk.toNat : Int), .int .u8 (sr.toNat : Int), .int .u8 (sf.toNat : Int), .int .u16 (sz.toNat : Int), .int .u16 (su.toNat : Int), .slice A1 n1 c1, .slice A2 n2 c2] 44).alloc (.cells #[.int .u32 0, .int .u32 0, .int .u16 0, .int .u16 0, .int .u8 0, .int .i64 0, .int .i64 0, .int .i64 0, .bool false, .bool false, .int .u16 0, .int .u32 0, .int .u32 0] 55)
  have KZ : Blk V (w.heap.size + 2) [.int .u32 0, .int .u32 0, .int .u16 0, .int .u16 0, .int .u8 0, .int .i64 0, .int .i64 0, .int .i64 0, .bool false, .bool false, .int .u16 0, .int .u32 0, .int .u32 0] 55 := by subst hV; simpa using Blk.new ((w.alloc (.cells #[.int .u32 (fs.toNat : Int), .int .u32 (fd.toNat : Int), .int .u16 (fp.toNat : Int), .int .u16 (fq.toNat : Int), .int .u8 (fr.toNat : Int), .int .i64 eb, .int .i64 eh, .int .i64 ea, .bool ex, .bool false, .int .u16 (et.toNat : Int), .int .u32 (es.toNat : Int), .int .u32 (ei.toNat : Int)] 55)).alloc (.cells #[.int .u16 (sa.toNat : Int), .int .u16 (sb.toNat : Int), .int .u32 (sq.toNat : Int), .int .u32 (sk.toNat : Int), .int .u8 (sr.toNat : Int), .int .u8 (sf.toNat : Int), .int .u16 (sz.toNat : Int), .int .u16 (su.toNat : Int), .slice A1 n1 c1, .slice A2 n2 c2] 44)) #[.int .u32 0, .int .u32 0, .int .u16 0, .int .u16 0, .int .u8 0, .int .i64 0, .int .i64 0, .int .i64 0, .bool false, .bool false, .int .u16 0, .int .u32 0, .int .u32 0] 55
  obtain ⟨c0, c1, c2, c3, c4, c5, c6, c7, c8, c9, c10, c11, c12, l0, l1, l2, l3, l4, l5, l6, l7, l8, l9, l10, l11, l12⟩ := KE.get13
  obtain ⟨z0, z1, z2, z3, z4, z5, z6, z7, z8, z9, -⟩ := KG.get10
  go_enter Tryd.func35, Tryd.ntmps35
  go_wp2_with fail
  rw [← hV]
  clear hV
  refine (H1 _).out.mono ?_
  rintro e w1 ⟨rfl, hb⟩
  replace hB := bnext hB hb
  replace KE := KE.next hb
  replace KG := KG.next hb
  replace KZ := KZ.next hb
  clear hb c0 c1 c2 c3 c4 c5 c6 c7 c8 c9 c10 c11 c12 l0 l1 l2 l3 l4 l5 l6 l7 l8 l9 l10 l11 l12 z0 z1 z2 z3 z4 z5 z6 z7 z8 z9
  obtain ⟨c0, c1, c2, c3, c4, c5, c6, c7, c8, c9, c10, c11, c12, l0, l1, l2, l3, l4, l5, l6, l7, l8, l9, l10, l11, l12⟩ := KE.get13
  obtain ⟨z0, z1, z2, z3, z4, z5, z6, z7, z8, z9, -⟩ := KG.get10
  go_wp2_with fail
  refine (H2 _).out.mono ?_
  rintro e w1 ⟨rfl, hb⟩
  replace hB := bnext hB hb
  replace KE := KE.next hb
  replace KG := KG.next hb
  replace KZ := KZ.next hb
  clear hb c0 c1 c2 c3 c4 c5 c6 c7 c8 c9 c10 c11 c12 l0 l1 l2 l3 l4 l5 l6 l7 l8 l9 l10 l11 l12 z0 z1 z2 z3 z4 z5 z6 z7 z8 z9
  obtain ⟨c0, c1, c2, c3, c4, c5, c6, c7, c8, c9, c10, c11, c12, l0, l1, l2, l3, l4, l5, l6, l7, l8, l9, l10, l11, l12⟩ := KE.get13
  obtain ⟨z0, z1, z2, z3, z4, z5, z6, z7, z8, z9, -⟩ := KG.get10
  obtain ⟨y0, y1, y2, y3, y4, y5, y6, y7, y8, y9, y10, y11, y12, t0, t1, t2, t3, t4, t5, t6, t7, t8, t9, t10, t11, t12⟩ := KZ.get13
  have HBB := Lib.hid (bset13 hB (show w.heap.size ≤ w.heap.size + 2 by omega) (.int .u32 (fs.toNat : Int)) (.int .u32 (fd.toNat : Int)) (.int .u16 (fp.toNat : Int)) (.int .u16 (fq.toNat : Int)) (.int .u8 (fr.toNat : Int)) (.int .i64 eb) (.int .i64 eh) (.int .i64 ea) (.bool ex) (.bool false) (.int .u16 (et.toNat : Int)) (.int .u32 (es.toNat : Int)) (.int .u32 (ei.toNat : Int)))
  go_wp2_with fail
  simp [bodyPost, results, Tryd.results35, go_sem, *]
  exact HBB.out
set_option maxHeartbeats 4000000 in
theorem pjoin_yes (fs fd : UInt32) (fp fq : UInt16) (fr : UInt8) (eb eh ea : Int) (ex : Bool) (et : UInt16) (es ei : UInt32) (sa sb : UInt16) (sq sk : UInt32) (sr sf : UInt8) (sz su : UInt16) (A1 A2 : Option Addr) (n1 c1 n2 c2 : Nat) (H1f : hasB sf 18 = true) (H2f : hasB sf 4 = false) (e1 : ((ei.toNat : Int) + 1) % 4294967296 = (sk.toNat : Int)) (dd : UInt32) (e3 : ((sq.toNat : Int) - (es.toNat : Int)) % 4294967296 = (dd.toNat : Int)) (w : World) :
    Calls Tryd.prog 35 #[.agg #[.int .u32 (fs.toNat : Int), .int .u32 (fd.toNat : Int), .int .u16 (fp.toNat : Int), .int .u16 (fq.toNat : Int), .int .u8 (fr.toNat : Int), .int .i64 eb, .int .i64 eh, .int .i64 ea, .bool ex, .bool false, .int .u16 (et.toNat : Int), .int .u32 (es.toNat : Int), .int .u32 (ei.toNat : Int)], .agg #[.int .u16 (sa.toNat : Int), .int .u16 (sb.toNat : Int), .int .u32 (sq.toNat : Int), .int .u32 (sk.toNat : Int), .int .u8 (sr.toNat : Int), .int .u8 (sf.toNat : Int), .int .u16 (sz.toNat : Int), .int .u16 (su.toNat : Int), .slice A1 n1 c1, .slice A2 n2 c2]] w fun e w' => e = .returned (.tuple #[.agg #[.int .u32 (fs.toNat : Int), .int .u32 (fd.toNat : Int), .int .u16 (fp.toNat : Int), .int .u16 (fq.toNat : Int), .int .u8 (fr.toNat : Int), .int .i64 eb, .int .i64 2, .int .i64 ea, .bool ex, .bool true, .int .u16 (et.toNat : Int), .int .u32 (dd.toNat : Int), .int .u32 (ei.toNat : Int)], .bool true]) ∧ Below w.heap.size w w' := by
  have H1 : ∀ W, Hid (Calls Tryd.prog 48 #[.agg #[.int .u16 (sa.toNat : Int), .int .u16 (sb.toNat : Int), .int .u32 (sq.toNat : Int), .int .u32 (sk.toNat : Int), .int .u8 (sr.toNat : Int), .int .u8 (sf.toNat : Int), .int .u16 (sz.toNat : Int), .int .u16 (su.toNat : Int), .slice A1 n1 c1, .slice A2 n2 c2], .int .u8 18] W fun e w' => e = .returned (.bool true) ∧ Below W.heap.size W w') := fun W => by
    have h := thas_any sa sb sq sk sr sf sz su A1 A2 n1 c1 n2 c2 18 W
    rw [H1f] at h
    exact h
  have H2 : ∀ W, Hid (Calls Tryd.prog 48 #[.agg #[.int .u16 (sa.toNat : Int), .int .u16 (sb.toNat : Int), .int .u32 (sq.toNat : Int), .int .u32 (sk.toNat : Int), .int .u8 (sr.toNat : Int), .int .u8 (sf.toNat : Int), .int .u16 (sz.toNat : Int), .int .u16 (su.toNat : Int), .slice A1 n1 c1, .slice A2 n2 c2], .int .u8 4] W fun e w' => e = .returned (.bool false) ∧ Below W.heap.size W w') := fun W => by
    have h := thas_any sa sb sq sk sr sf sz su A1 A2 n1 c1 n2 c2 4 W
    rw [H2f] at h
    exact h
  obtain ⟨V, hV⟩ : ∃ V, V = (((w.alloc (.cells #[.int .u32 (fs.toNat : Int), .int .u32 (fd.toNat : Int), .int .u16 (fp.toNat : Int), .int .u16 (fq.toNat : Int), .int .u8 (fr.toNat : Int), .int .i64 eb, .int .i64 eh, .int .i64 ea, .bool ex, .bool false, .int .u16 (et.toNat : Int), .int .u32 (es.toNat : Int), .int .u32 (ei.toNat : Int)] 55)).alloc (.cells #[.int .u16 (sa.toNat : Int), .int .u16 (sb.toNat : Int), .int .u32 (sq.toNat : Int), .int .u32 (sk.toNat : Int), .int .u8 (sr.toNat : Int), .int .u8 (sf.toNat : Int), .int .u16 (sz.toNat : Int), .int .u16 (su.toNat : Int), .slice A1 n1 c1, .slice A2 n2 c2] 44)).alloc (.cells #[.int .u32 0, .int .u32 0, .int .u16 0, .int .u16 0, .int .u8 0, .int .i64 0, .int .i64 0, .int .i64 0, .bool false, .bool false, .int .u16 0, .int .u32 0, .int .u32 0] 55)) := ⟨_, rfl⟩
  have hB : Below w.heap.size w V := by subst hV; exact (bnextA (bnextA (bnextA (Below.refl _ _) _) _) _)
  have KE : Blk V (w.heap.size) [.int .u32 (fs.toNat : Int), .int .u32 (fd.toNat : Int), .int .u16 (fp.toNat : Int), .int .u16 (fq.toNat : Int), .int .u8 (fr.toNat : Int), .int .i64 eb, .int .i64 eh, .int .i64 ea, .bool ex, .bool false, .int .u16 (et.toNat : Int), .int .u32 (es.toNat : Int), .int .u32 (ei.toNat : Int)] 55 := by subst hV; simpa using ((Blk.new w #[.int .u32 (fs.toNat : Int), .int .u32 (fd.toNat : Int), .int .u16 (fp.toNat : Int), .int .u16 (fq.toNat : Int), .int .u8 (fr.toNat : Int), .int .i64 eb, .int .i64 eh, .int .i64 ea, .bool ex, .bool false, .int .u16 (et.toNat : Int), .int .u32 (es.toNat : Int), .int .u32 (ei.toNat : Int)] 55).alloc (.cells #[.int .u16 (sa.toNat : Int), .int .u16 (sb.toNat : Int), .int .u32 (sq.toNat : Int), .int .u32 (sk.toNat : Int), .int .u8 (sr.toNat : Int), .int .u8 (sf.toNat : Int), .int .u16 (sz.toNat : Int), .int .u16 (su.toNat : Int), .slice A1 n1 c1, .slice A2 n2 c2] 44)).alloc (.cells #[.int .u32 0, .int .u32 0, .int .u16 0, .int .u16 0, .int .u8 0, .int .i64 0, .int .i64 0, .int .i64 0, .bool false, .bool false, .int .u16 0, .int .u32 0, .int .u32 0] 55)
  have KG : Blk V (w.heap.size + 1) [.int .u16 (sa.toNat : Int), .int .u16 (sb.toNat : Int), .int .u32 (sq.toNat : Int), .int .u32 (sk.toNat : Int), .int .u8 (sr.toNat : Int), .int .u8 (sf.toNat : Int), .int .u16 (sz.toNat : Int), .int .u16 (su.toNat : Int), .slice A1 n1 c1, .slice A2 n2 c2] 44 := by subst hV; simpa using (Blk.new (w.alloc (.cells #[.int .u32 (fs.toNat : Int), .int .u32 (fd.toNat : Int), .int .u16 (fp.toNat : Int), .int .u16 (fq.toNat : Int), .int .u8 (fr.toNat : Int), .int .i64 eb, .int .i64 eh, .int .i64 ea, .bool ex, .bool false, .int .u16 (et.toNat : Int), .int .u32 (es.toNat : Int), .int .u32 (ei.toNat : Int)] 55)) #[.int .u16 (sa.toNat : Int), .int .u16 (sb.toNat : Int), .int .u32 (sq.toNat : Int), .int .u32 (sk.toNat : Int), .int .u8 (sr.toNat : Int), .int .u8 (sf.toNat : Int), .int .u16 (sz.toNat : Int), .int .u16 (su.toNat : Int), .slice A1 n1 c1, .slice A2 n2 c2] 44).alloc (.cells #[.int .u32 0, .int .u32 0, .int .u16 0, .int .u16 0, .int .u8 0, .int .i64 0, .int .i64 0, .int .i64 0, .bool false, .bool false, .int .u16 0, .int .u32 0, .int .u32 0] 55)
  have KZ : Blk V (w.heap.size + 2) [.int .u32 0, .int .u32 0, .int .u16 0, .int .u16 0, .int .u8 0, .int .i64 0, .int .i64 0, .int .i64 0, .bool false, .bool false, .int .u16 0, .int .u32 0, .int .u32 0] 55 := by subst hV; simpa using Blk.new ((w.alloc (.cells #[.int .u32 (fs.toNat : Int), .int .u32 (fd.toNat : Int), .int .u16 (fp.toNat : Int), .int .u16 (fq.toNat : Int), .int .u8 (fr.toNat : Int), .int .i64 eb, .int .i64 eh, .int .i64 ea, .bool ex, .bool false, .int .u16 (et.toNat : Int), .int .u32 (es.toNat : Int), .int .u32 (ei.toNat : Int)] 55)).alloc (.cells #[.int .u16 (sa.toNat : Int), .int .u16 (sb.toNat : Int), .int .u32 (sq.toNat : Int), .int .u32 (sk.toNat : Int), .int .u8 (sr.toNat : Int), .int .u8 (sf.toNat : Int), .int .u16 (sz.toNat : Int), .int .u16 (su.toNat : Int), .slice A1 n1 c1, .slice A2 n2 c2] 44)) #[.int .u32 0, .int .u32 0, .int .u16 0, .int .u16 0, .int .u8 0, .int .i64 0, .int .i64 0, .int .i64 0, .bool false, .bool false, .int .u16 0, .int .u32 0, .int .u32 0] 55
  obtain ⟨c0, c1, c2, c3, c4, c5, c6, c7, c8, c9, c10, c11, c12, l0, l1, l2, l3, l4, l5, l6, l7, l8, l9, l10, l11, l12⟩ := KE.get13
  obtain ⟨z0, z1, z2, z3, z4, z5, z6, z7, z8, z9, -⟩ := KG.get10
  go_enter Tryd.func35, Tryd.ntmps35
  go_wp2_with fail
  rw [← hV]
  clear hV
  refine (H1 _).out.mono ?_
  rintro e w1 ⟨rfl, hb⟩
  replace hB := bnext hB hb
  replace KE := KE.next hb
  replace KG := KG.next hb
  replace KZ := KZ.next hb
  clear hb c0 c1 c2 c3 c4 c5 c6 c7 c8 c9 c10 c11 c12 l0 l1 l2 l3 l4 l5 l6 l7 l8 l9 l10 l11 l12 z0 z1 z2 z3 z4 z5 z6 z7 z8 z9
  obtain ⟨c0, c1, c2, c3, c4, c5, c6, c7, c8, c9, c10, c11, c12, l0, l1, l2, l3, l4, l5, l6, l7, l8, l9, l10, l11, l12⟩ := KE.get13
  obtain ⟨z0, z1, z2, z3, z4, z5, z6, z7, z8, z9, -⟩ := KG.get10
  go_wp2_with fail
  refine (H2 _).out.mono ?_
  rintro e w1 ⟨rfl, hb⟩
  replace hB := bnext hB hb
  replace KE := KE.next hb
  replace KG := KG.next hb
  replace KZ := KZ.next hb
  clear hb c0 c1 c2 c3 c4 c5 c6 c7 c8 c9 c10 c11 c12 l0 l1 l2 l3 l4 l5 l6 l7 l8 l9 l10 l11 l12 z0 z1 z2 z3 z4 z5 z6 z7 z8 z9
  obtain ⟨c0, c1, c2, c3, c4, c5, c6, c7, c8, c9, c10, c11, c12, l0, l1, l2, l3, l4, l5, l6, l7, l8, l9, l10, l11, l12⟩ := KE.get13
  obtain ⟨z0, z1, z2, z3, z4, z5, z6, z7, z8, z9, -⟩ := KG.get10
  have KE2 := (KE.set 6 (.int .i64 2)).set 9 (.bool true)
  have KE3 := KE2.set 11 (.int .u32 (dd.toNat : Int))
  have KG2 := (KG.other (g' := w.heap.size) (by omega) 6 (.int .i64 2)).other (g' := w.heap.size) (by omega) 9 (.bool true)
  have KZ3 := ((KZ.other (g' := w.heap.size) (by omega) 6 (.int .i64 2)).other (g' := w.heap.size) (by omega) 9 (.bool true)).other (g' := w.heap.size) (by omega) 11 (.int .u32 (dd.toNat : Int))
  have hB3 := ((hB.setCell (p := ⟨w.heap.size, 6, none⟩) (Nat.le_refl _) (.int .i64 2)).setCell (p := ⟨w.heap.size, 9, none⟩) (Nat.le_refl _) (.bool true)).setCell (p := ⟨w.heap.size, 11, none⟩) (Nat.le_refl _) (.int .u32 (dd.toNat : Int))
  have HBB := Lib.hid (bset13 hB3 (show w.heap.size ≤ w.heap.size + 2 by omega) (.int .u32 (fs.toNat : Int)) (.int .u32 (fd.toNat : Int)) (.int .u16 (fp.toNat : Int)) (.int .u16 (fq.toNat : Int)) (.int .u8 (fr.toNat : Int)) (.int .i64 eb) (.int .i64 2) (.int .i64 ea) (.bool ex) (.bool true) (.int .u16 (et.toNat : Int)) (.int .u32 (dd.toNat : Int)) (.int .u32 (ei.toNat : Int)))
  simp only [List.set_cons_succ, List.set_cons_zero] at KE2 KE3
  obtain ⟨r0, r1, r2, r3, r4, r5, r6, r7, r8, r9, r10, r11, r12, q0, q1, q2, q3, q4, q5, q6, q7, q8, q9, q10, q11, q12⟩ := KE2.get13
  obtain ⟨x0, x1, x2, x3, x4, x5, x6, x7, x8, x9, x10, x11, x12, -⟩ := KE3.get13
  obtain ⟨g0, g1, g2, g3, g4, g5, g6, g7, g8, g9, -⟩ := KG2.get10
  obtain ⟨y0, y1, y2, y3, y4, y5, y6, y7, y8, y9, y10, y11, y12, t0, t1, t2, t3, t4, t5, t6, t7, t8, t9, t10, t11, t12⟩ := KZ3.get13
  clear hB3 KE2 KE3 KG2 KZ3 KE KG KZ hB
  go_wp2_with fail
  simp [bodyPost, results, Tryd.results35, go_sem, *]
  exact HBB.out
set_option maxHeartbeats 1000000 in
theorem rjoins_j (fs fd : UInt32) (fp fq : UInt16) (fr : UInt8) (eb eh ea : Int) (ex : Bool) (et : UInt16) (es ei : UInt32) (sa sb : UInt16) (sq sk : UInt32) (sr sf : UInt8) (sz su : UInt16) (A1 A2 : Option Addr) (n1 c1 n2 c2 : Nat) (w : World) :
    Calls Tryd.prog 36 #[.agg #[.int .u32 (fs.toNat : Int), .int .u32 (fd.toNat : Int), .int .u16 (fp.toNat : Int), .int .u16 (fq.toNat : Int), .int .u8 (fr.toNat : Int), .int .i64 eb, .int .i64 eh, .int .i64 ea, .bool ex, .bool true, .int .u16 (et.toNat : Int), .int .u32 (es.toNat : Int), .int .u32 (ei.toNat : Int)], .agg #[.int .u16 (sa.toNat : Int), .int .u16 (sb.toNat : Int), .int .u32 (sq.toNat : Int), .int .u32 (sk.toNat : Int), .int .u8 (sr.toNat : Int), .int .u8 (sf.toNat : Int), .int .u16 (sz.toNat : Int), .int .u16 (su.toNat : Int), .slice A1 n1 c1, .slice A2 n2 c2]] w fun e w' => e = .returned (.bool false) ∧ Below w.heap.size w w' := by
  obtain ⟨V, hV⟩ : ∃ V, V = ((w.alloc (.cells #[.int .u32 (fs.toNat : Int), .int .u32 (fd.toNat : Int), .int .u16 (fp.toNat : Int), .int .u16 (fq.toNat : Int), .int .u8 (fr.toNat : Int), .int .i64 eb, .int .i64 eh, .int .i64 ea, .bool ex, .bool true, .int .u16 (et.toNat : Int), .int .u32 (es.toNat : Int), .int .u32 (ei.toNat : Int)] 55)).alloc (.cells #[.int .u16 (sa.toNat : Int), .int .u16 (sb.toNat : Int), .int .u32 (sq.toNat : Int), .int .u32 (sk.toNat : Int), .int .u8 (sr.toNat : Int), .int .u8 (sf.toNat : Int), .int .u16 (sz.toNat : Int), .int .u16 (su.toNat : Int), .slice A1 n1 c1, .slice A2 n2 c2] 44)) := ⟨_, rfl⟩
  have hB : Below w.heap.size w V := by subst hV; exact (bnextA (bnextA (Below.refl _ _) _) _)
  have KE : Blk V (w.heap.size) [.int .u32 (fs.toNat : Int), .int .u32 (fd.toNat : Int), .int .u16 (fp.toNat : Int), .int .u16 (fq.toNat : Int), .int .u8 (fr.toNat : Int), .int .i64 eb, .int .i64 eh, .int .i64 ea, .bool ex, .bool true, .int .u16 (et.toNat : Int), .int .u32 (es.toNat : Int), .int .u32 (ei.toNat : Int)] 55 := by subst hV; simpa using (Blk.new w #[.int .u32 (fs.toNat : Int), .int .u32 (fd.toNat : Int), .int .u16 (fp.toNat : Int), .int .u16 (fq.toNat : Int), .int .u8 (fr.toNat : Int), .int .i64 eb, .int .i64 eh, .int .i64 ea, .bool ex, .bool true, .int .u16 (et.toNat : Int), .int .u32 (es.toNat : Int), .int .u32 (ei.toNat : Int)] 55).alloc (.cells #[.int .u16 (sa.toNat : Int), .int .u16 (sb.toNat : Int), .int .u32 (sq.toNat : Int), .int .u32 (sk.toNat : Int), .int .u8 (sr.toNat : Int), .int .u8 (sf.toNat : Int), .int .u16 (sz.toNat : Int), .int .u16 (su.toNat : Int), .slice A1 n1 c1, .slice A2 n2 c2] 44)
  have KG : Blk V (w.heap.size + 1) [.int .u16 (sa.toNat : Int), .int .u16 (sb.toNat : Int), .int .u32 (sq.toNat : Int), .int .u32 (sk.toNat : Int), .int .u8 (sr.toNat : Int), .int .u8 (sf.toNat : Int), .int .u16 (sz.toNat : Int), .int .u16 (su.toNat : Int), .slice A1 n1 c1, .slice A2 n2 c2] 44 := by subst hV; simpa using Blk.new (w.alloc (.cells #[.int .u32 (fs.toNat : Int), .int .u32 (fd.toNat : Int), .int .u16 (fp.toNat : Int), .int .u16 (fq.toNat : Int), .int .u8 (fr.toNat : Int), .int .i64 eb, .int .i64 eh, .int .i64 ea, .bool ex, .bool true, .int .u16 (et.toNat : Int), .int .u32 (es.toNat : Int), .int .u32 (ei.toNat : Int)] 55)) #[.int .u16 (sa.toNat : Int), .int .u16 (sb.toNat : Int), .int .u32 (sq.toNat : Int), .int .u32 (sk.toNat : Int), .int .u8 (sr.toNat : Int), .int .u8 (sf.toNat : Int), .int .u16 (sz.toNat : Int), .int .u16 (su.toNat : Int), .slice A1 n1 c1, .slice A2 n2 c2] 44
  obtain ⟨c0, c1, c2, c3, c4, c5, c6, c7, c8, c9, c10, c11, c12, l0, l1, l2, l3, l4, l5, l6, l7, l8, l9, l10, l11, l12⟩ := KE.get13
  obtain ⟨z0, z1, z2, z3, z4, z5, z6, z7, z8, z9, -⟩ := KG.get10
  go_enter Tryd.func36, Tryd.ntmps36
  go_wp2_with fail
  go_ret
  rw [← hV]
  exact ⟨rfl, hB⟩
set_option maxHeartbeats 1000000 in
theorem rjoins_2 (fs fd : UInt32) (fp fq : UInt16) (fr : UInt8) (eb eh ea : Int) (ex : Bool) (et : UInt16) (es ei : UInt32) (sa sb : UInt16) (sq sk : UInt32) (sr sf : UInt8) (sz su : UInt16) (A1 A2 : Option Addr) (n1 c1 n2 c2 : Nat) (H1f : bitB sf 2 = false) (w : World) :
    Calls Tryd.prog 36 #[.agg #[.int .u32 (fs.toNat : Int), .int .u32 (fd.toNat : Int), .int .u16 (fp.toNat : Int), .int .u16 (fq.toNat : Int), .int .u8 (fr.toNat : Int), .int .i64 eb, .int .i64 eh, .int .i64 ea, .bool ex, .bool false, .int .u16 (et.toNat : Int), .int .u32 (es.toNat : Int), .int .u32 (ei.toNat : Int)], .agg #[.int .u16 (sa.toNat : Int), .int .u16 (sb.toNat : Int), .int .u32 (sq.toNat : Int), .int .u32 (sk.toNat : Int), .int .u8 (sr.toNat : Int), .int .u8 (sf.toNat : Int), .int .u16 (sz.toNat : Int), .int .u16 (su.toNat : Int), .slice A1 n1 c1, .slice A2 n2 c2]] w fun e w' => e = .returned (.bool false) ∧ Below w.heap.size w w' := by
  have H1 : ∀ W, Hid (Calls Tryd.prog 49 #[.int .u8 (sf.toNat : Int), .int .i64 2] W fun e w' => e = .returned (.bool false) ∧ Below W.heap.size W w') := fun W => by
    have h := bw (rbit_any sf 2 2 rfl (by decide) (by decide) W)
    rw [H1f] at h
    exact h
  obtain ⟨V, hV⟩ : ∃ V, V = ((w.alloc (.cells #[.int .u32 (fs.toNat : Int), .int .u32 (fd.toNat : Int), .int .u16 (fp.toNat : Int), .int .u16 (fq.toNat : Int), .int .u8 (fr.toNat : Int), .int .i64 eb, .int .i64 eh, .int .i64 ea, .bool ex, .bool false, .int .u16 (et.toNat : Int), .int .u32 (es.toNat : Int), .int .u32 (ei.toNat : Int)] 55)).alloc (.cells #[.int .u16 (sa.toNat : Int), .int .u16 (sb.toNat : Int), .int .u32 (sq.toNat : Int), .int .u32 (sk.toNat : Int), .int .u8 (sr.toNat : Int), .int .u8 (sf.toNat : Int), .int .u16 (sz.toNat : Int), .int .u16 (su.toNat : Int), .slice A1 n1 c1, .slice A2 n2 c2] 44)) := ⟨_, rfl⟩
  have hB : Below w.heap.size w V := by subst hV; exact (bnextA (bnextA (Below.refl _ _) _) _)
  have KE : Blk V (w.heap.size) [.int .u32 (fs.toNat : Int), .int .u32 (fd.toNat : Int), .int .u16 (fp.toNat : Int), .int .u16 (fq.toNat : Int), .int .u8 (fr.toNat : Int), .int .i64 eb, .int .i64 eh, .int .i64 ea, .bool ex, .bool false, .int .u16 (et.toNat : Int), .int .u32 (es.toNat : Int), .int .u32 (ei.toNat : Int)] 55 := by subst hV; simpa using (Blk.new w #[.int .u32 (fs.toNat : Int), .int .u32 (fd.toNat : Int), .int .u16 (fp.toNat : Int), .int .u16 (fq.toNat : Int), .int .u8 (fr.toNat : Int), .int .i64 eb, .int .i64 eh, .int .i64 ea, .bool ex, .bool false, .int .u16 (et.toNat : Int), .int .u32 (es.toNat : Int), .int .u32 (ei.toNat : Int)] 55).alloc (.cells #[.int .u16 (sa.toNat : Int), .int .u16 (sb.toNat : Int), .int .u32 (sq.toNat : Int), .int .u32 (sk.toNat : Int), .int .u8 (sr.toNat : Int), .int .u8 (sf.toNat : Int), .int .u16 (sz.toNat : Int), .int .u16 (su.toNat : Int), .slice A1 n1 c1, .slice A2 n2 c2] 44)
  have KG : Blk V (w.heap.size + 1) [.int .u16 (sa.toNat : Int), .int .u16 (sb.toNat : Int), .int .u32 (sq.toNat : Int), .int .u32 (sk.toNat : Int), .int .u8 (sr.toNat : Int), .int .u8 (sf.toNat : Int), .int .u16 (sz.toNat : Int), .int .u16 (su.toNat : Int), .slice A1 n1 c1, .slice A2 n2 c2] 44 := by subst hV; simpa using Blk.new (w.alloc (.cells #[.int .u32 (fs.toNat : Int), .int .u32 (fd.toNat : Int), .int .u16 (fp.toNat : Int), .int .u16 (fq.toNat : Int), .int .u8 (fr.toNat : Int), .int .i64 eb, .int .i64 eh, .int .i64 ea, .bool ex, .bool false, .int .u16 (et.toNat : Int), .int .u32 (es.toNat : Int), .int .u32 (ei.toNat : Int)] 55)) #[.int .u16 (sa.toNat : Int), .int .u16 (sb.toNat : Int), .int .u32 (sq.toNat : Int), .int .u32 (sk.toNat : Int), .int .u8 (sr.toNat : Int), .int .u8 (sf.toNat : Int), .int .u16 (sz.toNat : Int), .int .u16 (su.toNat : Int), .slice A1 n1 c1, .slice A2 n2 c2] 44
  obtain ⟨c0, c1, c2, c3, c4, c5, c6, c7, c8, c9, c10, c11, c12, l0, l1, l2, l3, l4, l5, l6, l7, l8, l9, l10, l11, l12⟩ := KE.get13
  obtain ⟨z0, z1, z2, z3, z4, z5, z6, z7, z8, z9, -⟩ := KG.get10
  go_enter Tryd.func36, Tryd.ntmps36
  go_wp2_with fail
  rw [← hV]
  clear hV
  refine (H1 _).out.mono ?_
  rintro e w1 ⟨rfl, hb⟩
  replace hB := bnext hB hb
  replace KE := KE.next hb
  replace KG := KG.next hb
  clear hb c0 c1 c2 c3 c4 c5 c6 c7 c8 c9 c10 c11 c12 l0 l1 l2 l3 l4 l5 l6 l7 l8 l9 l10 l11 l12 z0 z1 z2 z3 z4 z5 z6 z7 z8 z9
  obtain ⟨c0, c1, c2, c3, c4, c5, c6, c7, c8, c9, c10, c11, c12, l0, l1, l2, l3, l4, l5, l6, l7, l8, l9, l10, l11, l12⟩ := KE.get13
  obtain ⟨z0, z1, z2, z3, z4, z5, z6, z7, z8, z9, -⟩ := KG.get10
  go_wp2_with fail
  go_ret
  exact ⟨rfl, hB⟩
set_option maxHeartbeats 1000000 in
theorem rjoins_16 (fs fd : UInt32) (fp fq : UInt16) (fr : UInt8) (eb eh ea : Int) (ex : Bool) (et : UInt16) (es ei : UInt32) (sa sb : UInt16) (sq sk : UInt32) (sr sf : UInt8) (sz su : UInt16) (A1 A2 : Option Addr) (n1 c1 n2 c2 : Nat) (H1f : bitB sf 2 = true) (H2f : bitB sf 16 = false) (w : World) :
    Calls Tryd.prog 36 #[.agg #[.int .u32 (fs.toNat : Int), .int .u32 (fd.toNat : Int), .int .u16 (fp.toNat : Int), .int .u16 (fq.toNat : Int), .int .u8 (fr.toNat : Int), .int .i64 eb, .int .i64 eh, .int .i64 ea, .bool ex, .bool false, .int .u16 (et.toNat : Int), .int .u32 (es.toNat : Int), .int .u32 (ei.toNat : Int)], .agg #[.int .u16 (sa.toNat : Int), .int .u16 (sb.toNat : Int), .int .u32 (sq.toNat : Int), .int .u32 (sk.toNat : Int), .int .u8 (sr.toNat : Int), .int .u8 (sf.toNat : Int), .int .u16 (sz.toNat : Int), .int .u16 (su.toNat : Int), .slice A1 n1 c1, .slice A2 n2 c2]] w fun e w' => e = .returned (.bool false) ∧ Below w.heap.size w w' := by
  have H1 : ∀ W, Hid (Calls Tryd.prog 49 #[.int .u8 (sf.toNat : Int), .int .i64 2] W fun e w' => e = .returned (.bool true) ∧ Below W.heap.size W w') := fun W => by
    have h := bw (rbit_any sf 2 2 rfl (by decide) (by decide) W)
    rw [H1f] at h
    exact h
  have H2 : ∀ W, Hid (Calls Tryd.prog 49 #[.int .u8 (sf.toNat : Int), .int .i64 16] W fun e w' => e = .returned (.bool false) ∧ Below W.heap.size W w') := fun W => by
    have h := bw (rbit_any sf 16 16 rfl (by decide) (by decide) W)
    rw [H2f] at h
    exact h
  obtain ⟨V, hV⟩ : ∃ V, V = ((w.alloc (.cells #[.int .u32 (fs.toNat : Int), .int .u32 (fd.toNat : Int), .int .u16 (fp.toNat : Int), .int .u16 (fq.toNat : Int), .int .u8 (fr.toNat : Int), .int .i64 eb, .int .i64 eh, .int .i64 ea, .bool ex, .bool false, .int .u16 (et.toNat : Int), .int .u32 (es.toNat : Int), .int .u32 (ei.toNat : Int)] 55)).alloc (.cells #[.int .u16 (sa.toNat : Int), .int .u16 (sb.toNat : Int), .int .u32 (sq.toNat : Int), .int .u32 (sk.toNat : Int), .int .u8 (sr.toNat : Int), .int .u8 (sf.toNat : Int), .int .u16 (sz.toNat : Int), .int .u16 (su.toNat : Int), .slice A1 n1 c1, .slice A2 n2 c2] 44)) := ⟨_, rfl⟩
  have hB : Below w.heap.size w V := by subst hV; exact (bnextA (bnextA (Below.refl _ _) _) _)
  have KE : Blk V (w.heap.size) [.int .u32 (fs.toNat : Int), .int .u32 (fd.toNat : Int), .int .u16 (fp.toNat : Int), .int .u16 (fq.toNat : Int), .int .u8 (fr.toNat : Int), .int .i64 eb, .int .i64 eh, .int .i64 ea, .bool ex, .bool false, .int .u16 (et.toNat : Int), .int .u32 (es.toNat : Int), .int .u32 (ei.toNat : Int)] 55 := by subst hV; simpa using (Blk.new w #[.int .u32 (fs.toNat : Int), .int .u32 (fd.toNat : Int), .int .u16 (fp.toNat : Int), .int .u16 (fq.toNat : Int), .int .u8 (fr.toNat : Int), .int .i64 eb, .int .i64 eh, .int .i64 ea, .bool ex, .bool false, .int .u16 (et.toNat : Int), .int .u32 (es.toNat : Int), .int .u32 (ei.toNat : Int)] 55).alloc (.cells #[.int .u16 (sa.toNat : Int), .int .u16 (sb.toNat : Int), .int .u32 (sq.toNat : Int), .int .u32 (sk.toNat : Int), .int .u8 (sr.toNat : Int), .int .u8 (sf.toNat : Int), .int .u16 (sz.toNat : Int), .int .u16 (su.toNat : Int), .slice A1 n1 c1, .slice A2 n2 c2] 44)
  have KG : Blk V (w.heap.size + 1) [.int .u16 (sa.toNat : Int), .int .u16 (sb.toNat : Int), .int .u32 (sq.toNat : Int), .int .u32 (sk.toNat : Int), .int .u8 (sr.toNat : Int), .int .u8 (sf.toNat : Int), .int .u16 (sz.toNat : Int), .int .u16 (su.toNat : Int), .slice A1 n1 c1, .slice A2 n2 c2] 44 := by subst hV; simpa using Blk.new (w.alloc (.cells #[.int .u32 (fs.toNat : Int), .int .u32 (fd.toNat : Int), .int .u16 (fp.toNat : Int), .int .u16 (fq.toNat : Int), .int .u8 (fr.toNat : Int), .int .i64 eb, .int .i64 eh, .int .i64 ea, .bool ex, .bool false, .int .u16 (et.toNat : Int), .int .u32 (es.toNat : Int), .int .u32 (ei.toNat : Int)] 55)) #[.int .u16 (sa.toNat : Int), .int .u16 (sb.toNat : Int), .int .u32 (sq.toNat : Int), .int .u32 (sk.toNat : Int), .int .u8 (sr.toNat : Int), .int .u8 (sf.toNat : Int), .int .u16 (sz.toNat : Int), .int .u16 (su.toNat : Int), .slice A1 n1 c1, .slice A2 n2 c2] 44
  obtain ⟨c0, c1, c2, c3, c4, c5, c6, c7, c8, c9, c10, c11, c12, l0, l1, l2, l3, l4, l5, l6, l7, l8, l9, l10, l11, l12⟩ := KE.get13
  obtain ⟨z0, z1, z2, z3, z4, z5, z6, z7, z8, z9, -⟩ := KG.get10
  go_enter Tryd.func36, Tryd.ntmps36
  go_wp2_with fail
  rw [← hV]
  clear hV
  refine (H1 _).out.mono ?_
  rintro e w1 ⟨rfl, hb⟩
  replace hB := bnext hB hb
  replace KE := KE.next hb
  replace KG := KG.next hb
  clear hb c0 c1 c2 c3 c4 c5 c6 c7 c8 c9 c10 c11 c12 l0 l1 l2 l3 l4 l5 l6 l7 l8 l9 l10 l11 l12 z0 z1 z2 z3 z4 z5 z6 z7 z8 z9
  obtain ⟨c0, c1, c2, c3, c4, c5, c6, c7, c8, c9, c10, c11, c12, l0, l1, l2, l3, l4, l5, l6, l7, l8, l9, l10, l11, l12⟩ := KE.get13
  obtain ⟨z0, z1, z2, z3, z4, z5, z6, z7, z8, z9, -⟩ := KG.get10
  go_wp2_with fail
  refine (H2 _).out.mono ?_
  rintro e w1 ⟨rfl, hb⟩
  replace hB := bnext hB hb
  replace KE := KE.next hb
  replace KG := KG.next hb
  clear hb c0 c1 c2 c3 c4 c5 c6 c7 c8 c9 c10 c11 c12 l0 l1 l2 l3 l4 l5 l6 l7 l8 l9 l10 l11 l12 z0 z1 z2 z3 z4 z5 z6 z7 z8 z9
  obtain ⟨c0, c1, c2, c3, c4, c5, c6, c7, c8, c9, c10, c11, c12, l0, l1, l2, l3, l4, l5, l6, l7, l8, l9, l10, l11, l12⟩ := KE.get13
  obtain ⟨z0, z1, z2, z3, z4, z5, z6, z7, z8, z9, -⟩ := KG.get10
  go_wp2_with fail
  go_ret
  exact ⟨rfl, hB⟩
set_option maxHeartbeats 1000000 in
theorem rjoins_4 (fs fd : UInt32) (fp fq : UInt16) (fr : UInt8) (eb eh ea : Int) (ex : Bool) (et : UInt16) (es ei : UInt32) (sa sb : UInt16) (sq sk : UInt32) (sr sf : UInt8) (sz su : UInt16) (A1 A2 : Option Addr) (n1 c1 n2 c2 : Nat) (H1f : bitB sf 2 = true) (H2f : bitB sf 16 = true) (H3f : bitB sf 4 = true) (w : World) :
    Calls Tryd.prog 36 #[.agg #[.int .u32 (fs.toNat : Int), .int .u32 (fd.toNat : Int), .int .u16 (fp.toNat : Int), .int .u16 (fq.toNat : Int), .int .u8 (fr.toNat : Int), .int .i64 eb, .int .i64 eh, .int .i64 ea, .bool ex, .bool false, .int .u16 (et.toNat : Int), .int .u32 (es.toNat : Int), .int .u32 (ei.toNat : Int)], .agg #[.int .u16 (sa.toNat : Int), .int .u16 (sb.toNat : Int), .int .u32 (sq.toNat : Int), .int .u32 (sk.toNat : Int), .int .u8 (sr.toNat : Int), .int .u8 (sf.toNat : Int), .int .u16 (sz.toNat : Int), .int .u16 (su.toNat : Int), .slice A1 n1 c1, .slice A2 n2 c2]] w fun e w' => e = .returned (.bool false) ∧ Below w.heap.size w w' := by
  have H1 : ∀ W, Hid (Calls Tryd.prog 49 #[.int .u8 (sf.toNat : Int), .int .i64 2] W fun e w' => e = .returned (.bool true) ∧ Below W.heap.size W w') := fun W => by
    have h := bw (rbit_any sf 2 2 rfl (by decide) (by decide) W)
    rw [H1f] at h
    exact h
  have H2 : ∀ W, Hid (Calls Tryd.prog 49 #[.int .u8 (sf.toNat : Int), .int .i64 16] W fun e w' => e = .returned (.bool true) ∧ Below W.heap.size W w') := fun W => by
    have h := bw (rbit_any sf 16 16 rfl (by decide) (by decide) W)
    rw [H2f] at h
    exact h
  have H3 : ∀ W, Hid (Calls Tryd.prog 49 #[.int .u8 (sf.toNat : Int), .int .i64 4] W fun e w' => e = .returned (.bool true) ∧ Below W.heap.size W w') := fun W => by
    have h := bw (rbit_any sf 4 4 rfl (by decide) (by decide) W)
    rw [H3f] at h
    exact h
  obtain ⟨V, hV⟩ : ∃ V, V = ((w.alloc (.cells #[.int .u32 (fs.toNat : Int), .int .u32 (fd.toNat : Int), .int .u16 (fp.toNat : Int), .int .u16 (fq.toNat : Int), .int .u8 (fr.toNat : Int), .int .i64 eb, .int .i64 eh, .int .i64 ea, .bool ex, .bool false, .int .u16 (et.toNat : Int), .int .u32 (es.toNat : Int), .int .u32 (ei.toNat : Int)] 55)).alloc (.cells #[.int .u16 (sa.toNat : Int), .int .u16 (sb.toNat : Int), .int .u32 (sq.toNat : Int), .int .u32 (sk.toNat : Int), .int .u8 (sr.toNat : Int), .int .u8 (sf.toNat : Int), .int .u16 (sz.toNat : Int), .int .u16 (su.toNat : Int), .slice A1 n1 c1, .slice A2 n2 c2] 44)) := ⟨_, rfl⟩
  have hB : Below w.heap.size w V := by subst hV; exact (bnextA (bnextA (Below.refl _ _) _) _)
  have KE : Blk V (w.heap.size) [.int .u32 (fs.toNat : Int), .int .u32 (fd.toNat : Int), .int .u16 (fp.toNat : Int), .int .u16 (fq.toNat : Int), .int .u8 (fr.toNat : Int), .int .i64 eb, .int .i64 eh, .int .i64 ea, .bool ex, .bool false, .int .u16 (et.toNat : Int), .int .u32 (es.toNat : Int), .int .u32 (ei.toNat : Int)] 55 := by subst hV; simpa using (Blk.new w #[.int .u32 (fs.toNat : Int), .int .u32 (fd.toNat : Int), .int .u16 (fp.toNat : Int), .int .u16 (fq.toNat : Int), .int .u8 (fr.toNat : Int), .int .i64 eb, .int .i64 eh, .int .i64 ea, .bool ex, .bool false, .int .u16 (et.toNat : Int), .int .u32 (es.toNat : Int), .int .u32 (ei.toNat : Int)] 55).alloc (.cells #[.int .u16 (sa.toNat : Int), .int .u16 (sb.toNat : Int), .int .u32 (sq.toNat : Int), .int .u32 (sk.toNat : Int), .int .u8 (sr.toNat : Int), .int .u8 (sf.toNat : Int), .int .u16 (sz.toNat : Int), .int .u16 (su.toNat : Int), .slice A1 n1 c1, .slice A2 n2 c2] 44)
  have KG : Blk V (w.heap.size + 1) [.int .u16 (sa.toNat : Int), .int .u16 (sb.toNat : Int), .int .u32 (sq.toNat : Int), .int .u32 (sk.toNat : Int), .int .u8 (sr.toNat : Int), .int .u8 (sf.toNat : Int), .int .u16 (sz.toNat : Int), .int .u16 (su.toNat : Int), .slice A1 n1 c1, .slice A2 n2 c2] 44 := by subst hV; simpa using Blk.new (w.alloc (.cells #[.int .u32 (fs.toNat : Int), .int .u32 (fd.toNat : Int), .int .u16 (fp.toNat : Int), .int .u16 (fq.toNat : Int), .int .u8 (fr.toNat : Int), .int .i64 eb, .int .i64 eh, .int .i64 ea, .bool ex, .bool false, .int .u16 (et.toNat : Int), .int .u32 (es.toNat : Int), .int .u32 (ei.toNat : Int)] 55)) #[.int .u16 (sa.toNat : Int), .int .u16 (sb.toNat : Int), .int .u32 (sq.toNat : Int), .int .u32 (sk.toNat : Int), .int .u8 (sr.toNat : Int), .int .u8 (sf.toNat : Int), .int .u16 (sz.toNat : Int), .int .u16 (su.toNat : Int), .slice A1 n1 c1, .slice A2 n2 c2] 44
  obtain ⟨c0, c1, c2, c3, c4, c5, c6, c7, c8, c9, c10, c11, c12, l0, l1, l2, l3, l4, l5, l6, l7, l8, l9, l10, l11, l12⟩ := KE.get13
  obtain ⟨z0, z1, z2, z3, z4, z5, z6, z7, z8, z9, -⟩ := KG.get10
  go_enter Tryd.func36, Tryd.ntmps36
  go_wp2_with fail
  rw [← hV]
  clear hV
  refine (H1 _).out.mono ?_
  rintro e w1 ⟨rfl, hb⟩
  replace hB := bnext hB hb
  replace KE := KE.next hb
  replace KG := KG.next hb
  clear hb c0 c1 c2 c3 c4 c5 c6 c7 c8 c9 c10 c11 c12 l0 l1 l2 l3 l4 l5 l6 l7 l8 l9 l10 l11 l12 z0 z1 z2 z3 z4 z5 z6 z7 z8 z9
  obtain ⟨c0, c1, c2, c3, c4, c5, c6, c7, c8, c9, c10, c11, c12, l0, l1, l2, l3, l4, l5, l6, l7, l8, l9, l10, l11, l12⟩ := KE.get13
  obtain ⟨z0, z1, z2, z3, z4, z5, z6, z7, z8, z9, -⟩ := KG.get10
  go_wp2_with fail
  refine (H2 _).out.mono ?_
  rintro e w1 ⟨rfl, hb⟩
  replace hB := bnext hB hb
  replace KE := KE.next hb
  replace KG := KG.next hb
  clear hb c0 c1 c2 c3 c4 c5 c6 c7 c8 c9 c10 c11 c12 l0 l1 l2 l3 l4 l5 l6 l7 l8 l9 l10 l11 l12 z0 z1 z2 z3 z4 z5 z6 z7 z8 z9
  obtain ⟨c0, c1, c2, c3, c4, c5, c6, c7, c8, c9, c10, c11, c12, l0, l1, l2, l3, l4, l5, l6, l7, l8, l9, l10, l11, l12⟩ := KE.get13
  obtain ⟨z0, z1, z2, z3, z4, z5, z6, z7, z8, z9, -⟩ := KG.get10
  go_wp2_with fail
  refine (H3 _).out.mono ?_
  rintro e w1 ⟨rfl, hb⟩
  replace hB := bnext hB hb
  replace KE := KE.next hb
  replace KG := KG.next hb
  clear hb c0 c1 c2 c3 c4 c5 c6 c7 c8 c9 c10 c11 c12 l0 l1 l2 l3 l4 l5 l6 l7 l8 l9 l10 l11 l12 z0 z1 z2 z3 z4 z5 z6 z7 z8 z9
  obtain ⟨c0, c1, c2, c3, c4, c5, c6, c7, c8, c9, c10, c11, c12, l0, l1, l2, l3, l4, l5, l6, l7, l8, l9, l10, l11, l12⟩ := KE.get13
  obtain ⟨z0, z1, z2, z3, z4, z5, z6, z7, z8, z9, -⟩ := KG.get10
  go_wp2_with fail
  go_ret
  exact ⟨rfl, hB⟩
set_option maxHeartbeats 1000000 in
theorem rjoins_a (fs fd : UInt32) (fp fq : UInt16) (fr : UInt8) (eb eh ea : Int) (ex : Bool) (et : UInt16) (es ei : UInt32) (sa sb : UInt16) (sq sk : UInt32) (sr sf : UInt8) (sz su : UInt16) (A1 A2 : Option Addr) (n1 c1 n2 c2 : Nat) (H1f : bitB sf 2 = true) (H2f : bitB sf 16 = true) (H3f : bitB sf 4 = false) (ei1 : UInt32) (e1 : ((ei.toNat : Int) + 1) % 4294967296 = (ei1.toNat : Int)) (B : Bool) (e2 : ((sk.toNat : Int) == (ei1.toNat : Int)) = B) (w : World) :
    Calls Tryd.prog 36 #[.agg #[.int .u32 (fs.toNat : Int), .int .u32 (fd.toNat : Int), .int .u16 (fp.toNat : Int), .int .u16 (fq.toNat : Int), .int .u8 (fr.toNat : Int), .int .i64 eb, .int .i64 eh, .int .i64 ea, .bool ex, .bool false, .int .u16 (et.toNat : Int), .int .u32 (es.toNat : Int), .int .u32 (ei.toNat : Int)], .agg #[.int .u16 (sa.toNat : Int), .int .u16 (sb.toNat : Int), .int .u32 (sq.toNat : Int), .int .u32 (sk.toNat : Int), .int .u8 (sr.toNat : Int), .int .u8 (sf.toNat : Int), .int .u16 (sz.toNat : Int), .int .u16 (su.toNat : Int), .slice A1 n1 c1, .slice A2 n2 c2]] w fun e w' => e = .returned (.bool B) ∧ Below w.heap.size w w' := by
  have H1 : ∀ W, Hid (Calls Tryd.prog 49 #[.int .u8 (sf.toNat : Int), .int .i64 2] W fun e w' => e = .returned (.bool true) ∧ Below W.heap.size W w') := fun W => by
    have h := bw (rbit_any sf 2 2 rfl (by decide) (by decide) W)
    rw [H1f] at h
    exact h
  have H2 : ∀ W, Hid (Calls Tryd.prog 49 #[.int .u8 (sf.toNat : Int), .int .i64 16] W fun e w' => e = .returned (.bool true) ∧ Below W.heap.size W w') := fun W => by
    have h := bw (rbit_any sf 16 16 rfl (by decide) (by decide) W)
    rw [H2f] at h
    exact h
  have H3 : ∀ W, Hid (Calls Tryd.prog 49 #[.int .u8 (sf.toNat : Int), .int .i64 4] W fun e w' => e = .returned (.bool false) ∧ Below W.heap.size W w') := fun W => by
    have h := bw (rbit_any sf 4 4 rfl (by decide) (by decide) W)
    rw [H3f] at h
    exact h
  obtain ⟨V, hV⟩ : ∃ V, V = ((w.alloc (.cells #[.int .u32 (fs.toNat : Int), .int .u32 (fd.toNat : Int), .int .u16 (fp.toNat : Int), .int .u16 (fq.toNat : Int), .int .u8 (fr.toNat : Int), .int .i64 eb, .int .i64 eh, .int .i64 ea, .bool ex, .bool false, .int .u16 (et.toNat : Int), .int .u32 (es.toNat : Int), .int .u32 (ei.toNat : Int)] 55)).alloc (.cells #[.int .u16 (sa.toNat : Int), .int .u16 (sb.toNat : Int), .int .u32 (sq.toNat : Int), .int .u32 (sk.toNat : Int), .int .u8 (sr.toNat : Int), .int .u8 (sf.toNat : Int), .int .u16 (sz.toNat : Int), .int .u16 (su.toNat : Int), .slice A1 n1 c1, .slice A2 n2 c2] 44)) := ⟨_, rfl⟩
  have hB : Below w.heap.size w V := by subst hV; exact (bnextA (bnextA (Below.refl _ _) _) _)
  have KE : Blk V (w.heap.size) [.int .u32 (fs.toNat : Int), .int .u32 (fd.toNat : Int), .int .u16 (fp.toNat : Int), .int .u16 (fq.toNat : Int), .int .u8 (fr.toNat : Int), .int .i64 eb, .int .i64 eh, .int .i64 ea, .bool ex, .bool false, .int .u16 (et.toNat : Int), .int .u32 (es.toNat : Int), .int .u32 (ei.toNat : Int)] 55 := by subst hV; simpa using (Blk.new w #[.int .u32 (fs.toNat : Int), .int .u32 (fd.toNat : Int), .int .u16 (fp.toNat : Int), .int .u16 (fq.toNat : Int), .int .u8 (fr.toNat : Int), .int .i64 eb, .int .i64 eh, .int .i64 ea, .bool ex, .bool false, .int .u16 (et.toNat : Int), .int .u32 (es.toNat : Int), .int .u32 (ei.toNat : Int)] 55).alloc (.cells #[.int .u16 (sa.toNat : Int), .int .u16 (sb.toNat : Int), .int .u32 (sq.toNat : Int), .int .u32 (sk.toNat : Int), .int .u8 (sr.toNat : Int), .int .u8 (sf.toNat : Int), .int .u16 (sz.toNat : Int), .int .u16 (su.toNat : Int), .slice A1 n1 c1, .slice A2 n2 c2] 44)
  have KG : Blk V (w.heap.size + 1) [.int .u16 (sa.toNat : Int), .int .u16 (sb.toNat : Int), .int .u32 (sq.toNat : Int), .int .u32 (sk.toNat : Int), .int .u8 (sr.toNat : Int), .int .u8 (sf.toNat : Int), .int .u16 (sz.toNat : Int), .int .u16 (su.toNat : Int), .slice A1 n1 c1, .slice A2 n2 c2] 44 := by subst hV; simpa using Blk.new (w.alloc (.cells #[.int .u32 (fs.toNat : Int), .int .u32 (fd.toNat : Int), .int .u16 (fp.toNat : Int), .int .u16 (fq.toNat : Int), .int .u8 (fr.toNat : Int), .int .i64 eb, .int .i64 eh, .int .i64 ea, .bool ex, .bool false, .int .u16 (et.toNat : Int), .int .u32 (es.toNat : Int), .int .u32 (ei.toNat : Int)] 55)) #[.int .u16 (sa.toNat : Int), .int .u16 (sb.toNat : Int), .int .u32 (sq.toNat : Int), .int .u32 (sk.toNat : Int), .int .u8 (sr.toNat : Int), .int .u8 (sf.toNat : Int), .int .u16 (sz.toNat : Int), .int .u16 (su.toNat : Int), .slice A1 n1 c1, .slice A2 n2 c2] 44
  obtain ⟨c0, c1, c2, c3, c4, c5, c6, c7, c8, c9, c10, c11, c12, l0, l1, l2, l3, l4, l5, l6, l7, l8, l9, l10, l11, l12⟩ := KE.get13
  obtain ⟨z0, z1, z2, z3, z4, z5, z6, z7, z8, z9, -⟩ := KG.get10
  go_enter Tryd.func36, Tryd.ntmps36
  go_wp2_with fail
  rw [← hV]
  clear hV
  refine (H1 _).out.mono ?_
  rintro e w1 ⟨rfl, hb⟩
  replace hB := bnext hB hb
  replace KE := KE.next hb
  replace KG := KG.next hb
  clear hb c0 c1 c2 c3 c4 c5 c6 c7 c8 c9 c10 c11 c12 l0 l1 l2 l3 l4 l5 l6 l7 l8 l9 l10 l11 l12 z0 z1 z2 z3 z4 z5 z6 z7 z8 z9
  obtain ⟨c0, c1, c2, c3, c4, c5, c6, c7, c8, c9, c10, c11, c12, l0, l1, l2, l3, l4, l5, l6, l7, l8, l9, l10, l11, l12⟩ := KE.get13
  obtain ⟨z0, z1, z2, z3, z4, z5, z6, z7, z8, z9, -⟩ := KG.get10
  go_wp2_with fail
  refine (H2 _).out.mono ?_
  rintro e w1 ⟨rfl, hb⟩
  replace hB := bnext hB hb
  replace KE := KE.next hb
  replace KG := KG.next hb
  clear hb c0 c1 c2 c3 c4 c5 c6 c7 c8 c9 c10 c11 c12 l0 l1 l2 l3 l4 l5 l6 l7 l8 l9 l10 l11 l12 z0 z1 z2 z3 z4 z5 z6 z7 z8 z9
  obtain ⟨c0, c1, c2, c3, c4, c5, c6, c7, c8, c9, c10, c11, c12, l0, l1, l2, l3, l4, l5, l6, l7, l8, l9, l10, l11, l12⟩ := KE.get13
  obtain ⟨z0, z1, z2, z3, z4, z5, z6, z7, z8, z9, -⟩ := KG.get10
  go_wp2_with fail
  refine (H3 _).out.mono ?_
  rintro e w1 ⟨rfl, hb⟩
  replace hB := bnext hB hb
  replace KE := KE.next hb
  replace KG := KG.next hb
  clear hb c0 c1 c2 c3 c4 c5 c6 c7 c8 c9 c10 c11 c12 l0 l1 l2 l3 l4 l5 l6 l7 l8 l9 l10 l11 l12 z0 z1 z2 z3 z4 z5 z6 z7 z8 z9
  obtain ⟨c0, c1, c2, c3, c4, c5, c6, c7, c8, c9, c10, c11, c12, l0, l1, l2, l3, l4, l5, l6, l7, l8, l9, l10, l11, l12⟩ := KE.get13
  obtain ⟨z0, z1, z2, z3, z4, z5, z6, z7, z8, z9, -⟩ := KG.get10
  go_wp2_with fail
  go_ret
  exact ⟨rfl, hB⟩
theorem hasB_18 (f : UInt8) : hasB f 18 = (bitB f 2 && bitB f 16) := by
  have h : ∀ n, n < 256 → ((n &&& 18) == 18) = (decide (n / 2 % 2 = 1) && decide (n / 16 % 2 = 1)) := by decide +kernel
  exact h f.toNat f.toNat_lt
theorem join_both (fs fd : UInt32) (fp fq : UInt16) (fr : UInt8) (eb eh ea : Int) (ex ej : Bool) (et : UInt16) (es ei : UInt32) (sa sb : UInt16) (sq sk : UInt32) (sr sf : UInt8) (sz su : UInt16) (A1 A2 : Option Addr) (n1 c1 n2 c2 : Nat) (dd : UInt32) (e3 : ((sq.toNat : Int) - (es.toNat : Int)) % 4294967296 = (dd.toNat : Int)) : ∃ b : Bool, (∀ W, Hid (Calls Tryd.prog 36 #[.agg #[.int .u32 (fs.toNat : Int), .int .u32 (fd.toNat : Int), .int .u16 (fp.toNat : Int), .int .u16 (fq.toNat : Int), .int .u8 (fr.toNat : Int), .int .i64 eb, .int .i64 eh, .int .i64 ea, .bool ex, .bool ej, .int .u16 (et.toNat : Int), .int .u32 (es.toNat : Int), .int .u32 (ei.toNat : Int)], .agg #[.int .u16 (sa.toNat : Int), .int .u16 (sb.toNat : Int), .int .u32 (sq.toNat : Int), .int .u32 (sk.toNat : Int), .int .u8 (sr.toNat : Int), .int .u8 (sf.toNat : Int), .int .u16 (sz.toNat : Int), .int .u16 (su.toNat : Int), .slice A1 n1 c1, .slice A2 n2 c2]] W fun e w' => e = .returned (.bool b) ∧ Below W.heap.size W w')) ∧ (b = false → ∀ W, Hid (Calls Tryd.prog 35 #[.agg #[.int .u32 (fs.toNat : Int), .int .u32 (fd.toNat : Int), .int .u16 (fp.toNat : Int), .int .u16 (fq.toNat : Int), .int .u8 (fr.toNat : Int), .int .i64 eb, .int .i64 eh, .int .i64 ea, .bool ex, .bool ej, .int .u16 (et.toNat : Int), .int .u32 (es.toNat : Int), .int .u32 (ei.toNat : Int)], .agg #[.int .u16 (sa.toNat : Int), .int .u16 (sb.toNat : Int), .int .u32 (sq.toNat : Int), .int .u32 (sk.toNat : Int), .int .u8 (sr.toNat : Int), .int .u8 (sf.toNat : Int), .int .u16 (sz.toNat : Int), .int .u16 (su.toNat : Int), .slice A1 n1 c1, .slice A2 n2 c2]] W fun e w' => e = .returned (.tuple #[.agg #[.int .u32 (fs.toNat : Int), .int .u32 (fd.toNat : Int), .int .u16 (fp.toNat : Int), .int .u16 (fq.toNat : Int), .int .u8 (fr.toNat : Int), .int .i64 eb, .int .i64 eh, .int .i64 ea, .bool ex, .bool ej, .int .u16 (et.toNat : Int), .int .u32 (es.toNat : Int), .int .u32 (ei.toNat : Int)], .bool false]) ∧ Below W.heap.size W w')) ∧ (b = true → ∀ W, Hid (Calls Tryd.prog 35 #[.agg #[.int .u32 (fs.toNat : Int), .int .u32 (fd.toNat : Int), .int .u16 (fp.toNat : Int), .int .u16 (fq.toNat : Int), .int .u8 (fr.toNat : Int), .int .i64 eb, .int .i64 eh, .int .i64 ea, .bool ex, .bool ej, .int .u16 (et.toNat : Int), .int .u32 (es.toNat : Int), .int .u32 (ei.toNat : Int)], .agg #[.int .u16 (sa.toNat : Int), .int .u16 (sb.toNat : Int), .int .u32 (sq.toNat : Int), .int .u32 (sk.toNat : Int), .int .u8 (sr.toNat : Int), .int .u8 (sf.toNat : Int), .int .u16 (sz.toNat : Int), .int .u16 (su.toNat : Int), .slice A1 n1 c1, .slice A2 n2 c2]] W fun e w' => e = .returned (.tuple #[.agg #[.int .u32 (fs.toNat : Int), .int .u32 (fd.toNat : Int), .int .u16 (fp.toNat : Int), .int .u16 (fq.toNat : Int), .int .u8 (fr.toNat : Int), .int .i64 eb, .int .i64 2, .int .i64 ea, .bool ex, .bool true, .int .u16 (et.toNat : Int), .int .u32 (dd.toNat : Int), .int .u32 (ei.toNat : Int)], .bool true]) ∧ Below W.heap.size W w')) := by
  obtain ⟨ei1, e1, -⟩ := u32_succ ei
  cases ej with
  | true => exact ⟨false, fun W => rjoins_j fs fd fp fq fr eb eh ea ex et es ei sa sb sq sk sr sf sz su A1 A2 n1 c1 n2 c2 W, fun _ W => pjoin_j fs fd fp fq fr eb eh ea ex et es ei sa sb sq sk sr sf sz su A1 A2 n1 c1 n2 c2 W, fun h => by cases h⟩
  | false =>
  cases h2 : bitB sf 2 with
  | false => exact ⟨false, fun W => rjoins_2 fs fd fp fq fr eb eh ea ex et es ei sa sb sq sk sr sf sz su A1 A2 n1 c1 n2 c2 h2 W, fun _ W => pjoin_18 fs fd fp fq fr eb eh ea ex et es ei sa sb sq sk sr sf sz su A1 A2 n1 c1 n2 c2 (by rw [hasB_18, h2]; rfl) W, fun h => by cases h⟩
  | true =>
  cases h16 : bitB sf 16 with
  | false => exact ⟨false, fun W => rjoins_16 fs fd fp fq fr eb eh ea ex et es ei sa sb sq sk sr sf sz su A1 A2 n1 c1 n2 c2 h2 h16 W, fun _ W => pjoin_18 fs fd fp fq fr eb eh ea ex et es ei sa sb sq sk sr sf sz su A1 A2 n1 c1 n2 c2 (by rw [hasB_18, h2, h16]; rfl) W, fun h => by cases h⟩
  | true =>
  have h18 : hasB sf 18 = true := by rw [hasB_18, h2, h16]; rfl
  cases h4 : bitB sf 4 with
  | true => exact ⟨false, fun W => rjoins_4 fs fd fp fq fr eb eh ea ex et es ei sa sb sq sk sr sf sz su A1 A2 n1 c1 n2 c2 h2 h16 h4 W, fun _ W => pjoin_4 fs fd fp fq fr eb eh ea ex et es ei sa sb sq sk sr sf sz su A1 A2 n1 c1 n2 c2 h18 (by rw [← bitB_4]; exact h4) W, fun h => by cases h⟩
  | false =>
  have h44 : hasB sf 4 = false := by rw [← bitB_4]; exact h4
  by_cases hk : (sk.toNat : Int) = (ei1.toNat : Int)
  · exact ⟨true, fun W => rjoins_a fs fd fp fq fr eb eh ea ex et es ei sa sb sq sk sr sf sz su A1 A2 n1 c1 n2 c2 h2 h16 h4 ei1 e1 true (by simp [hk]) W, fun h => by (cases h), fun _ W => pjoin_yes fs fd fp fq fr eb eh ea ex et es ei sa sb sq sk sr sf sz su A1 A2 n1 c1 n2 c2 h18 h44 (by rw [hk]; exact e1) dd e3 W⟩
  · exact ⟨false, fun W => rjoins_a fs fd fp fq fr eb eh ea ex et es ei sa sb sq sk sr sf sz su A1 A2 n1 c1 n2 c2 h2 h16 h4 ei1 e1 false (beq_eq_false_iff_ne.mpr hk) W, fun _ W => pjoin_a fs fd fp fq fr eb eh ea ex et es ei sa sb sq sk sr sf sz su A1 A2 n1 c1 n2 c2 h18 h44 ei1 e1 (bne_iff_ne.mpr hk) W, fun h => by cases h⟩
end Go.Proofs.YteodjajjlgekcaaDoor
