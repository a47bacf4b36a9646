/- Contracts of Put on both sides. -/
import Derived.Test.YtggcomociojfoaaTag2
namespace Go.Proofs.Ytggcomociojfoaa
open Go.RowKit

theorem Blk.get8 {w : World} {g : Nat} {e : TypeId} {v0 v1 v2 v3 v4 v5 v6 v7 : Value} (h : Blk w g [v0, v1, v2, v3, v4, v5, v6, v7] e) : w.cell? ⟨g, 0, none⟩ = some v0 ∧ w.cell? ⟨g, 1, none⟩ = some v1 ∧ w.cell? ⟨g, 2, none⟩ = some v2 ∧ w.cell? ⟨g, 3, none⟩ = some v3 ∧ w.cell? ⟨g, 4, none⟩ = some v4 ∧ w.cell? ⟨g, 5, none⟩ = some v5 ∧ w.cell? ⟨g, 6, none⟩ = some v6 ∧ w.cell? ⟨g, 7, none⟩ = some v7 ∧ w.frozen? ⟨g, 0, none⟩ = false ∧ w.frozen? ⟨g, 1, none⟩ = false ∧ w.frozen? ⟨g, 2, none⟩ = false ∧ w.frozen? ⟨g, 3, none⟩ = false ∧ w.frozen? ⟨g, 4, none⟩ = false ∧ w.frozen? ⟨g, 5, none⟩ = false ∧ w.frozen? ⟨g, 6, none⟩ = false ∧ w.frozen? ⟨g, 7, none⟩ = false := ⟨h.cell 0, h.cell 1, h.cell 2, h.cell 3, h.cell 4, h.cell 5, h.cell 6, h.cell 7, h.frozen 0, h.frozen 1, h.frozen 2, h.frozen 3, h.frozen 4, h.frozen 5, h.frozen 6, h.frozen 7⟩
theorem Blk.set8 {w : World} {g : Nat} {e : TypeId} {v0 v1 v2 v3 v4 v5 v6 v7 u0 u1 u2 u3 u4 u5 u6 u7 : Value} (h : Blk w g [v0, v1, v2, v3, v4, v5, v6, v7] e) : Blk (((((((((w.setCell ⟨g, 0, none⟩ u0).setCell ⟨g, 1, none⟩ u1).setCell ⟨g, 2, none⟩ u2).setCell ⟨g, 3, none⟩ u3).setCell ⟨g, 4, none⟩ u4).setCell ⟨g, 5, none⟩ u5).setCell ⟨g, 6, none⟩ u6).setCell ⟨g, 7, none⟩ u7)) g [u0, u1, u2, u3, u4, u5, u6, u7] e := (((((((h.set 0 u0).set 1 u1).set 2 u2).set 3 u3).set 4 u4).set 5 u5).set 6 u6).set 7 u7
theorem bset8 {B : Nat} {w0 w : World} (hB : Below B w0 w) {g : Nat} (hg : B ≤ g) (v0 v1 v2 v3 v4 v5 v6 v7 : Value) : Below B w0 (((((((((w.setCell ⟨g, 0, none⟩ v0).setCell ⟨g, 1, none⟩ v1).setCell ⟨g, 2, none⟩ v2).setCell ⟨g, 3, none⟩ v3).setCell ⟨g, 4, none⟩ v4).setCell ⟨g, 5, none⟩ v5).setCell ⟨g, 6, none⟩ v6).setCell ⟨g, 7, none⟩ v7)) := (((((((hB.setCell (p := ⟨g, 0, none⟩) hg v0).setCell (p := ⟨g, 1, none⟩) hg v1).setCell (p := ⟨g, 2, none⟩) hg v2).setCell (p := ⟨g, 3, none⟩) hg v3).setCell (p := ⟨g, 4, none⟩) hg v4).setCell (p := ⟨g, 5, none⟩) hg v5).setCell (p := ⟨g, 6, none⟩) hg v6).setCell (p := ⟨g, 7, none⟩) hg v7
/-- An order's bytes. -/
def ob (n : Nat) (op : UInt8) (id : UInt16) (vip : UInt8) (a : UInt32) (p : UInt16) (pr num : UInt8) : List UInt8 := b64 n ++ ([op] ++ (be16 id ++ ([vip] ++ (be32 a ++ (be16 p ++ [pr, num])))))
theorem ob_len (n : Nat) (op : UInt8) (id : UInt16) (vip : UInt8) (a : UInt32) (p : UInt16) (pr num : UInt8) : (ob n op id vip a p pr num).length = 20 := by simp [ob, b64_len, be16, be32]
theorem be16_bytes (x : UInt16) : ∃ h l : UInt8, be16 x = [h, l] ∧ h.toNat = x.toNat / 256 ∧ l.toNat = x.toNat % 256 := by
  have := x.toNat_lt
  exact ⟨_, _, rfl, by simp; omega, by simp⟩
theorem put_bad (lo hi : Nat) (y0 y1 y2 y3 y4 y5 y6 y7 : Int) (hbad : ¬ ((0 ≤ y1 ∧ y1 ≤ 255) ∧ (0 ≤ y3 ∧ y3 ≤ 255) ∧ (0 ≤ y7 ∧ y7 ≤ 255) ∧ (0 ≤ y2 ∧ y2 ≤ 65535))) (w : World) :
    Calls Try.prog 16 #[.agg #[.int .u64 (lo : Int), .int .u64 (hi : Int)], .agg #[.int .u64 y0, .int .i64 y1, .int .i64 y2, .int .i64 y3, .int .u32 y4, .int .u16 y5, .int .u8 y6, .int .i64 y7]] w fun e w' => e = .returned (.tuple #[.slice none 0 0, .int .i64 2]) ∧ Below w.heap.size w w' := by
  by_cases h0 : 0 ≤ y1 ∧ y1 ≤ 255
  · by_cases h1 : 0 ≤ y3 ∧ y3 ≤ 255
    · by_cases h2 : 0 ≤ y7 ∧ y7 ≤ 255
      · by_cases h3 : 0 ≤ y2 ∧ y2 ≤ 65535
        · exact absurd ⟨h0, h1, h2, h3⟩ hbad
        · have C3 := fun W => Lib.hid (within_any y2 65535 false (by simp; omega) W)
          have C0 := fun W => Lib.hid (within_any y1 255 true (by simp; omega) W)
          have C1 := fun W => Lib.hid (within_any y3 255 true (by simp; omega) W)
          have C2 := fun W => Lib.hid (within_any y7 255 true (by simp; omega) W)
          clear hbad h0 h1 h2 h3
          go_enter Try.func16, Try.ntmps16
          go_wp2_with fail
          refine (C0 _).out.mono ?_
          rintro e w1 ⟨rfl, rfl⟩
          go_wp2_with fail
          refine (C1 _).out.mono ?_
          rintro e w1 ⟨rfl, rfl⟩
          go_wp2_with fail
          refine (C2 _).out.mono ?_
          rintro e w1 ⟨rfl, rfl⟩
          go_wp2_with fail
          refine (C3 _).out.mono ?_
          rintro e w1 ⟨rfl, rfl⟩
          go_wp2_with fail
          go_ret2
          exact ⟨rfl, bnextA (bnextA (Below.refl _ _) _) _⟩
      · have C2 := fun W => Lib.hid (within_any y7 255 false (by simp; omega) W)
        have C0 := fun W => Lib.hid (within_any y1 255 true (by simp; omega) W)
        have C1 := fun W => Lib.hid (within_any y3 255 true (by simp; omega) W)
        clear hbad h0 h1 h2
        go_enter Try.func16, Try.ntmps16
        go_wp2_with fail
        refine (C0 _).out.mono ?_
        rintro e w1 ⟨rfl, rfl⟩
        go_wp2_with fail
        refine (C1 _).out.mono ?_
        rintro e w1 ⟨rfl, rfl⟩
        go_wp2_with fail
        refine (C2 _).out.mono ?_
        rintro e w1 ⟨rfl, rfl⟩
        go_wp2_with fail
        go_ret2
        exact ⟨rfl, bnextA (bnextA (Below.refl _ _) _) _⟩
    · have C1 := fun W => Lib.hid (within_any y3 255 false (by simp; omega) W)
      have C0 := fun W => Lib.hid (within_any y1 255 true (by simp; omega) W)
      clear hbad h0 h1
      go_enter Try.func16, Try.ntmps16
      go_wp2_with fail
      refine (C0 _).out.mono ?_
      rintro e w1 ⟨rfl, rfl⟩
      go_wp2_with fail
      refine (C1 _).out.mono ?_
      rintro e w1 ⟨rfl, rfl⟩
      go_wp2_with fail
      go_ret2
      exact ⟨rfl, bnextA (bnextA (Below.refl _ _) _) _⟩
  · have C0 := fun W => Lib.hid (within_any y1 255 false (by simp; omega) W)
    clear hbad h0
    go_enter Try.func16, Try.ntmps16
    go_wp2_with fail
    refine (C0 _).out.mono ?_
    rintro e w1 ⟨rfl, rfl⟩
    go_wp2_with fail
    go_ret2
    exact ⟨rfl, bnextA (bnextA (Below.refl _ _) _) _⟩
theorem rput_bad (lo hi : Nat) (y0 y1 y2 y3 y4 y5 y6 y7 : Int) (hbad : ¬ ((0 ≤ y1 ∧ y1 ≤ 255) ∧ (0 ≤ y3 ∧ y3 ≤ 255) ∧ (0 ≤ y7 ∧ y7 ≤ 255) ∧ (0 ≤ y2 ∧ y2 ≤ 65535))) (w : World) :
    Calls Try.prog 17 #[.agg #[.int .u64 (lo : Int), .int .u64 (hi : Int)], .agg #[.int .u64 y0, .int .i64 y1, .int .i64 y2, .int .i64 y3, .int .u32 y4, .int .u16 y5, .int .u8 y6, .int .i64 y7]] w fun e w' => e = .returned (.tuple #[.slice none 0 0, .int .i64 2]) ∧ Below w.heap.size w w' := by
  by_cases h0 : y1 < 0
  · have e0 : decide (y1 < 0) = true := by simp [h0]
    clear hbad h0
    go_enter Try.func17, Try.ntmps17
    go_wp2_with fail
    go_ret2
    exact ⟨rfl, bnextA (bnextA (Below.refl _ _) _) _⟩
  · by_cases h1 : 255 < y1
    · have e1 : decide (255 < y1) = true := by simp [h1]
      have e0 : decide (y1 < 0) = false := by simp [h0]
      clear hbad h0 h1
      go_enter Try.func17, Try.ntmps17
      go_wp2_with fail
      go_ret2
      exact ⟨rfl, bnextA (bnextA (Below.refl _ _) _) _⟩
    · by_cases h2 : y3 < 0
      · have e2 : decide (y3 < 0) = true := by simp [h2]
        have e0 : decide (y1 < 0) = false := by simp [h0]
        have e1 : decide (255 < y1) = false := by simp [h1]
        clear hbad h0 h1 h2
        go_enter Try.func17, Try.ntmps17
        go_wp2_with fail
        go_ret2
        exact ⟨rfl, bnextA (bnextA (Below.refl _ _) _) _⟩
      · by_cases h3 : 255 < y3
        · have e3 : decide (255 < y3) = true := by simp [h3]
          have e0 : decide (y1 < 0) = false := by simp [h0]
          have e1 : decide (255 < y1) = false := by simp [h1]
          have e2 : decide (y3 < 0) = false := by simp [h2]
          clear hbad h0 h1 h2 h3
          go_enter Try.func17, Try.ntmps17
          go_wp2_with fail
          go_ret2
          exact ⟨rfl, bnextA (bnextA (Below.refl _ _) _) _⟩
        · by_cases h4 : y7 < 0
          · have e4 : decide (y7 < 0) = true := by simp [h4]
            have e0 : decide (y1 < 0) = false := by simp [h0]
            have e1 : decide (255 < y1) = false := by simp [h1]
            have e2 : decide (y3 < 0) = false := by simp [h2]
            have e3 : decide (255 < y3) = false := by simp [h3]
            clear hbad h0 h1 h2 h3 h4
            go_enter Try.func17, Try.ntmps17
            go_wp2_with fail
            go_ret2
            exact ⟨rfl, bnextA (bnextA (Below.refl _ _) _) _⟩
          · by_cases h5 : 255 < y7
            · have e5 : decide (255 < y7) = true := by simp [h5]
              have e0 : decide (y1 < 0) = false := by simp [h0]
              have e1 : decide (255 < y1) = false := by simp [h1]
              have e2 : decide (y3 < 0) = false := by simp [h2]
              have e3 : decide (255 < y3) = false := by simp [h3]
              have e4 : decide (y7 < 0) = false := by simp [h4]
              clear hbad h0 h1 h2 h3 h4 h5
              go_enter Try.func17, Try.ntmps17
              go_wp2_with fail
              go_ret2
              exact ⟨rfl, bnextA (bnextA (Below.refl _ _) _) _⟩
            · by_cases h6 : y2 < 0
              · have e6 : decide (y2 < 0) = true := by simp [h6]
                have e0 : decide (y1 < 0) = false := by simp [h0]
                have e1 : decide (255 < y1) = false := by simp [h1]
                have e2 : decide (y3 < 0) = false := by simp [h2]
                have e3 : decide (255 < y3) = false := by simp [h3]
                have e4 : decide (y7 < 0) = false := by simp [h4]
                have e5 : decide (255 < y7) = false := by simp [h5]
                clear hbad h0 h1 h2 h3 h4 h5 h6
                go_enter Try.func17, Try.ntmps17
                go_wp2_with fail
                go_ret2
                exact ⟨rfl, bnextA (bnextA (Below.refl _ _) _) _⟩
              · by_cases h7 : 65535 < y2
                · have e7 : decide (65535 < y2) = true := by simp [h7]
                  have e0 : decide (y1 < 0) = false := by simp [h0]
                  have e1 : decide (255 < y1) = false := by simp [h1]
                  have e2 : decide (y3 < 0) = false := by simp [h2]
                  have e3 : decide (255 < y3) = false := by simp [h3]
                  have e4 : decide (y7 < 0) = false := by simp [h4]
                  have e5 : decide (255 < y7) = false := by simp [h5]
                  have e6 : decide (y2 < 0) = false := by simp [h6]
                  clear hbad h0 h1 h2 h3 h4 h5 h6 h7
                  go_enter Try.func17, Try.ntmps17
                  go_wp2_with fail
                  go_ret2
                  exact ⟨rfl, bnextA (bnextA (Below.refl _ _) _) _⟩
                · exact absurd ⟨⟨by omega, by omega⟩, ⟨by omega, by omega⟩, ⟨by omega, by omega⟩, ⟨by omega, by omega⟩⟩ hbad
section
variable (lo hi : Nat) (h1 : lo < 18446744073709551616) (h2 : hi < 18446744073709551616)
include h1 h2
set_option maxHeartbeats 2000000 in
theorem put_ok (n : Nat) (hn : n < 18446744073709551616) (op : UInt8) (id : UInt16) (vip : UInt8) (a : UInt32) (p : UInt16) (pr num : UInt8) (w : World) : Calls Try.prog 16 #[.agg #[.int .u64 (lo : Int), .int .u64 (hi : Int)], .agg #[.int .u64 (n : Int), .int .i64 (op.toNat : Int), .int .i64 (id.toNat : Int), .int .i64 (vip.toNat : Int), .int .u32 (a.toNat : Int), .int .u16 (p.toNat : Int), .int .u8 (pr.toNat : Int), .int .i64 (num.toNat : Int)]] w fun e w' => ∃ L A c, e = .returned (.tuple #[.slice A L.length c, .int .i64 0]) ∧ Hid (L = sgn lo hi (ob n op id vip a p pr num)) ∧ Rd bv w' w'.heap.size A c L ∧ Below w.heap.size w w' := by
  obtain ⟨V, hV⟩ : ∃ V, V = (w.alloc (.cells #[.int .u64 (lo : Int), .int .u64 (hi : Int)] 35)).alloc (.cells #[.int .u64 (n : Int), .int .i64 (op.toNat : Int), .int .i64 (id.toNat : Int), .int .i64 (vip.toNat : Int), .int .u32 (a.toNat : Int), .int .u16 (p.toNat : Int), .int .u8 (pr.toNat : Int), .int .i64 (num.toNat : Int)] 37) := ⟨_, rfl⟩
  have hB : Below w.heap.size w V := by subst hV; exact bnextA (bnextA (Below.refl _ _) _) _
  have K : Blk V w.heap.size [.int .u64 (lo : Int), .int .u64 (hi : Int)] 35 := by subst hV; exact (Blk.new _ _ _).alloc _
  have KO : Blk V (w.heap.size + 1) [.int .u64 (n : Int), .int .i64 (op.toNat : Int), .int .i64 (id.toNat : Int), .int .i64 (vip.toNat : Int), .int .u32 (a.toNat : Int), .int .u16 (p.toNat : Int), .int .u8 (pr.toNat : Int), .int .i64 (num.toNat : Int)] 37 := by
    subst hV
    have := Blk.new (w.alloc (.cells #[.int .u64 (lo : Int), .int .u64 (hi : Int)] 35)) #[.int .u64 (n : Int), .int .i64 (op.toNat : Int), .int .i64 (id.toNat : Int), .int .i64 (vip.toNat : Int), .int .u32 (a.toNat : Int), .int .u16 (p.toNat : Int), .int .u8 (pr.toNat : Int), .int .i64 (num.toNat : Int)] 37
    simpa using this
  have HCC : ∀ W, Below V.heap.size V W → (W.cell? ⟨w.heap.size + 1, 0, none⟩ = some (.int .u64 (n : Int)) ∧ W.cell? ⟨w.heap.size + 1, 1, none⟩ = some (.int .i64 (op.toNat : Int)) ∧ W.cell? ⟨w.heap.size + 1, 2, none⟩ = some (.int .i64 (id.toNat : Int)) ∧ W.cell? ⟨w.heap.size + 1, 3, none⟩ = some (.int .i64 (vip.toNat : Int)) ∧ W.cell? ⟨w.heap.size + 1, 4, none⟩ = some (.int .u32 (a.toNat : Int)) ∧ W.cell? ⟨w.heap.size + 1, 5, none⟩ = some (.int .u16 (p.toNat : Int)) ∧ W.cell? ⟨w.heap.size + 1, 6, none⟩ = some (.int .u8 (pr.toNat : Int)) ∧ W.cell? ⟨w.heap.size + 1, 7, none⟩ = some (.int .i64 (num.toNat : Int))) := by
    intro W h
    exact ⟨(KO.next h).cell 0, (KO.next h).cell 1, (KO.next h).cell 2, (KO.next h).cell 3, (KO.next h).cell 4, (KO.next h).cell 5, (KO.next h).cell 6, (KO.next h).cell 7⟩
  obtain ⟨x0, x1, x2, x3, x4, x5, x6, x7⟩ := HCC V (Below.refl _ _)
  have W1 := fun W => Lib.hid (within_any (op.toNat : Int) 255 true (by have := op.toNat_lt; simp; omega) W)
  have W2 := fun W => Lib.hid (within_any (vip.toNat : Int) 255 true (by have := vip.toNat_lt; simp; omega) W)
  have W3 := fun W => Lib.hid (within_any (num.toNat : Int) 255 true (by have := num.toNat_lt; simp; omega) W)
  have W4 := fun W => Lib.hid (within_any (id.toNat : Int) 65535 true (by have := id.toNat_lt; simp; omega) W)
  go_enter Try.func16, Try.ntmps16
  go_wp2_with fail
  rw [← hV]
  clear hV
  refine (W1 _).out.mono ?_
  rintro e w1 ⟨rfl, rfl⟩
  go_wp2_with fail
  refine (W2 _).out.mono ?_
  rintro e w1 ⟨rfl, rfl⟩
  go_wp2_with fail
  refine (W3 _).out.mono ?_
  rintro e w1 ⟨rfl, rfl⟩
  go_wp2_with fail
  refine (W4 _).out.mono ?_
  rintro e w1 ⟨rfl, rfl⟩
  go_wp2_with fail
  clear W1 W2 W3 W4 x0 x1 x2 x3 x4 x5 x6 x7
  refine region_put (by kernel_rfl) (by kernel_rfl) (by kernel_rfl) 64 rfl (by kernel_rfl) V (fun i v W => match i with
      | 0 => v = .pointer (some ⟨w.heap.size + 1, 0, none⟩)
      | 1 => v = .int .u64 (n : Int)
      | 2 => ∃ L A c, v = .slice A L.length c ∧ Hid (L = b64 n) ∧ Rd bv W W.heap.size A c L
      | 3 => v = .pointer (some ⟨w.heap.size + 1, 1, none⟩)
      | 4 => v = .int .i64 (op.toNat : Int)
      | 5 => v = .int .u8 (op.toNat : Int)
      | 6 => ∃ A, v = .slice A 1 1 ∧ Rd bv W W.heap.size A 1 [op]
      | 7 => v = .pointer (some ⟨w.heap.size + 1, 2, none⟩)
      | 8 => v = .int .i64 (id.toNat : Int)
      | 9 => v = .int .u16 (id.toNat : Int)
      | 10 => ∃ A, v = .slice A 1 1 ∧ Rd hv W W.heap.size A 1 [id]
      | 11 => ∃ L A c, v = .slice A L.length c ∧ Hid (L = puts16 [id]) ∧ Rd bv W W.heap.size A c L
      | 12 => v = .pointer (some ⟨w.heap.size + 1, 3, none⟩)
      | 13 => v = .int .i64 (vip.toNat : Int)
      | 14 => v = .int .u8 (vip.toNat : Int)
      | 15 => ∃ A, v = .slice A 1 1 ∧ Rd bv W W.heap.size A 1 [vip]
      | 16 => v = .pointer (some ⟨w.heap.size + 1, 4, none⟩)
      | 17 => v = .int .u32 (a.toNat : Int)
      | 18 => ∃ A, v = .slice A 1 1 ∧ Rd wv W W.heap.size A 1 [a]
      | 19 => ∃ L A c, v = .slice A L.length c ∧ Hid (L = puts32 [a]) ∧ Rd bv W W.heap.size A c L
      | 20 => v = .pointer (some ⟨w.heap.size + 1, 5, none⟩)
      | 21 => v = .int .u16 (p.toNat : Int)
      | 22 => ∃ A, v = .slice A 1 1 ∧ Rd hv W W.heap.size A 1 [p]
      | 23 => ∃ L A c, v = .slice A L.length c ∧ Hid (L = puts16 [p]) ∧ Rd bv W W.heap.size A c L
      | 24 => v = .pointer (some ⟨w.heap.size + 1, 6, none⟩)
      | 25 => v = .int .u8 (pr.toNat : Int)
      | 26 => v = .pointer (some ⟨w.heap.size + 1, 7, none⟩)
      | 27 => v = .int .i64 (num.toNat : Int)
      | 28 => v = .int .u8 (num.toNat : Int)
      | 29 => ∃ A, v = .slice A 2 2 ∧ Rd bv W W.heap.size A 2 [pr, num]
      | 30 => ∃ g ls, v = .slice (some ⟨g, 0, none⟩) 7 7 ∧ Hid (ls.flatten = ob n op id vip a p pr num) ∧ Hid (ls.length = 7) ∧ g < W.heap.size ∧ ∃ B, B ≤ W.heap.size ∧ Parts W B g ls
      | 31 => ∃ L A c, v = .slice A L.length c ∧ Hid (L = ob n op id vip a p pr num) ∧ Rd bv W W.heap.size A c L
      | 32 => ∃ L A c, v = .slice A L.length c ∧ Hid (L = ob n op id vip a p pr num) ∧ Rd bv W W.heap.size A c L
      | _ => True) (Below.refl _ _) ?_ ?_ ?_
  · intro i v W W' h hb
    match i, h with
    | 0, h => exact h
    | 1, h => exact h
    | 2, h => obtain ⟨L, A, c, h1, h2, h3⟩ := h; exact ⟨L, A, c, h1, h2, h3.next hb⟩
    | 3, h => exact h
    | 4, h => exact h
    | 5, h => exact h
    | 6, h => obtain ⟨A, h1, h2⟩ := h; exact ⟨A, h1, h2.next hb⟩
    | 7, h => exact h
    | 8, h => exact h
    | 9, h => exact h
    | 10, h => obtain ⟨A, h1, h2⟩ := h; exact ⟨A, h1, h2.next hb⟩
    | 11, h => obtain ⟨L, A, c, h1, h2, h3⟩ := h; exact ⟨L, A, c, h1, h2, h3.next hb⟩
    | 12, h => exact h
    | 13, h => exact h
    | 14, h => exact h
    | 15, h => obtain ⟨A, h1, h2⟩ := h; exact ⟨A, h1, h2.next hb⟩
    | 16, h => exact h
    | 17, h => exact h
    | 18, h => obtain ⟨A, h1, h2⟩ := h; exact ⟨A, h1, h2.next hb⟩
    | 19, h => obtain ⟨L, A, c, h1, h2, h3⟩ := h; exact ⟨L, A, c, h1, h2, h3.next hb⟩
    | 20, h => exact h
    | 21, h => exact h
    | 22, h => obtain ⟨A, h1, h2⟩ := h; exact ⟨A, h1, h2.next hb⟩
    | 23, h => obtain ⟨L, A, c, h1, h2, h3⟩ := h; exact ⟨L, A, c, h1, h2, h3.next hb⟩
    | 24, h => exact h
    | 25, h => exact h
    | 26, h => exact h
    | 27, h => exact h
    | 28, h => exact h
    | 29, h => obtain ⟨A, h1, h2⟩ := h; exact ⟨A, h1, h2.next hb⟩
    | 30, h => obtain ⟨g, ls, h1, h2, h3, h4, B, h5, h6⟩ := h; exact ⟨g, ls, h1, h2, h3, Nat.lt_of_lt_of_le h4 hb.size, B, Nat.le_trans h5 hb.size, h6.next h4 h5 hb⟩
    | 31, h => obtain ⟨L, A, c, h1, h2, h3⟩ := h; exact ⟨L, A, c, h1, h2, h3.next hb⟩
    | 32, h => obtain ⟨L, A, c, h1, h2, h3⟩ := h; exact ⟨L, A, c, h1, h2, h3.next hb⟩
    | _ + 33, _ => trivial
  · intro i o uu W hoo hVW hd
    rcases i with _|_|_|_|_|_|_|_|_|_|_|_|_|_|_|_|_|_|_|_|_|_|_|_|_|_|_|_|_|_|_|_|_|i
    · obtain rfl := Option.some.inj hoo
      refine .inl ⟨wanted_none rfl, ?_⟩
      generalize hev : Act.eval _ = ev
      have ec : ∀ c, ev (.const c) = c := fun c => by rw [← hev]; rfl
      have e3 : ev (.tmp 3) = .pointer (some ⟨w.heap.size + 1, 0, none⟩) := by rw [← hev]; exact eval_old (by kernel_rfl) 64 rfl (by decide) rfl
      clear hev hd
      exact .inl ⟨_, W, by go_simp, rfl, Below.refl _ _⟩
    · obtain rfl := Option.some.inj hoo
      have q0 : uu 0 = .pointer (some ⟨w.heap.size + 1, 0, none⟩) := hd 0 (by kernel_rfl)
      refine .inl ⟨wanted_none rfl, ?_⟩
      generalize hev : Act.eval _ = ev
      have ec : ∀ c, ev (.const c) = c := fun c => by rw [← hev]; rfl
      have e29 : ev (.tmp 29) = .pointer (some ⟨w.heap.size + 1, 0, none⟩) := by rw [← hev]; exact (eval_put (by kernel_rfl) 64 rfl (by decide)).trans q0
      clear hev hd q0
      obtain ⟨cc0, cc1, cc2, cc3, cc4, cc5, cc6, cc7⟩ := HCC W hVW
      exact .inl ⟨_, W, by go_simp, rfl, Below.refl _ _⟩
    · obtain rfl := Option.some.inj hoo
      have q1 : uu 1 = .int .u64 (n : Int) := hd 1 (by kernel_rfl)
      refine .inl ⟨wanted_none rfl, ?_⟩
      generalize hev : Act.eval _ = ev
      have ec : ∀ c, ev (.const c) = c := fun c => by rw [← hev]; rfl
      have ef : ∀ f, ev (.func f) = .func (.func f) #[] #[] := fun f => by rw [← hev]; rfl
      have e30 : ev (.tmp 30) = .int .u64 (n : Int) := by rw [← hev]; exact (eval_put (by kernel_rfl) 64 rfl (by decide)).trans q1
      clear hev hd q1
      exact .inr ⟨_, _, _, by go_simp, put64_any n hn W, fun e w' he => by
        obtain ⟨L, A, c, rfl, HL, hr, hb⟩ := he
        exact ⟨_, rfl, ⟨L, A, c, rfl, HL, hr⟩, hb⟩⟩
    · obtain rfl := Option.some.inj hoo
      refine .inl ⟨wanted_none rfl, ?_⟩
      generalize hev : Act.eval _ = ev
      have ec : ∀ c, ev (.const c) = c := fun c => by rw [← hev]; rfl
      have e3 : ev (.tmp 3) = .pointer (some ⟨w.heap.size + 1, 0, none⟩) := by rw [← hev]; exact eval_old (by kernel_rfl) 64 rfl (by decide) rfl
      clear hev hd
      exact .inl ⟨_, W, by go_simp, rfl, Below.refl _ _⟩
    · obtain rfl := Option.some.inj hoo
      have q3 : uu 3 = .pointer (some ⟨w.heap.size + 1, 1, none⟩) := hd 3 (by kernel_rfl)
      refine .inl ⟨wanted_none rfl, ?_⟩
      generalize hev : Act.eval _ = ev
      have ec : ∀ c, ev (.const c) = c := fun c => by rw [← hev]; rfl
      have e32 : ev (.tmp 32) = .pointer (some ⟨w.heap.size + 1, 1, none⟩) := by rw [← hev]; exact (eval_put (by kernel_rfl) 64 rfl (by decide)).trans q3
      clear hev hd q3
      obtain ⟨cc0, cc1, cc2, cc3, cc4, cc5, cc6, cc7⟩ := HCC W hVW
      exact .inl ⟨_, W, by go_simp, rfl, Below.refl _ _⟩
    · obtain rfl := Option.some.inj hoo
      have q4 : uu 4 = .int .i64 (op.toNat : Int) := hd 4 (by kernel_rfl)
      refine .inl ⟨wanted_none rfl, ?_⟩
      generalize hev : Act.eval _ = ev
      have ec : ∀ c, ev (.const c) = c := fun c => by rw [← hev]; rfl
      have e33 : ev (.tmp 33) = .int .i64 (op.toNat : Int) := by rw [← hev]; exact (eval_put (by kernel_rfl) 64 rfl (by decide)).trans q4
      clear hev hd q4
      have hh : IntKind.u8.wrap (op.toNat : Int) = (op.toNat : Int) := by rw [IntKind.wrap_u8]; have := op.toNat_lt; omega
      exact .inl ⟨_, W, by go_simp, rfl, Below.refl _ _⟩
    · obtain rfl := Option.some.inj hoo
      have q5 : uu 5 = .int .u8 (op.toNat : Int) := hd 5 (by kernel_rfl)
      refine .inl ⟨wanted_none rfl, ?_⟩
      generalize hev : Act.eval _ = ev
      have ec : ∀ c, ev (.const c) = c := fun c => by rw [← hev]; rfl
      have e34 : ev (.tmp 34) = .int .u8 (op.toNat : Int) := by rw [← hev]; exact (eval_put (by kernel_rfl) 64 rfl (by decide)).trans q5
      clear hev hd q5
      exact .inl ⟨_, W.alloc (.cells #[.int .u8 (op.toNat : Int)] 5), by go_simp, ⟨_, rfl, lit_at W _ [op] rfl #[.int .u8 (op.toNat : Int)] (rfl) _ (by simp)⟩, bnextA (Below.refl _ _) _⟩
    · obtain rfl := Option.some.inj hoo
      refine .inl ⟨wanted_none rfl, ?_⟩
      generalize hev : Act.eval _ = ev
      have ec : ∀ c, ev (.const c) = c := fun c => by rw [← hev]; rfl
      have e3 : ev (.tmp 3) = .pointer (some ⟨w.heap.size + 1, 0, none⟩) := by rw [← hev]; exact eval_old (by kernel_rfl) 64 rfl (by decide) rfl
      clear hev hd
      exact .inl ⟨_, W, by go_simp, rfl, Below.refl _ _⟩
    · obtain rfl := Option.some.inj hoo
      have q7 : uu 7 = .pointer (some ⟨w.heap.size + 1, 2, none⟩) := hd 7 (by kernel_rfl)
      refine .inl ⟨wanted_none rfl, ?_⟩
      generalize hev : Act.eval _ = ev
      have ec : ∀ c, ev (.const c) = c := fun c => by rw [← hev]; rfl
      have e36 : ev (.tmp 36) = .pointer (some ⟨w.heap.size + 1, 2, none⟩) := by rw [← hev]; exact (eval_put (by kernel_rfl) 64 rfl (by decide)).trans q7
      clear hev hd q7
      obtain ⟨cc0, cc1, cc2, cc3, cc4, cc5, cc6, cc7⟩ := HCC W hVW
      exact .inl ⟨_, W, by go_simp, rfl, Below.refl _ _⟩
    · obtain rfl := Option.some.inj hoo
      have q8 : uu 8 = .int .i64 (id.toNat : Int) := hd 8 (by kernel_rfl)
      refine .inl ⟨wanted_none rfl, ?_⟩
      generalize hev : Act.eval _ = ev
      have ec : ∀ c, ev (.const c) = c := fun c => by rw [← hev]; rfl
      have e37 : ev (.tmp 37) = .int .i64 (id.toNat : Int) := by rw [← hev]; exact (eval_put (by kernel_rfl) 64 rfl (by decide)).trans q8
      clear hev hd q8
      have hh : IntKind.u16.wrap (id.toNat : Int) = (id.toNat : Int) := by rw [IntKind.wrap_u16]; have := id.toNat_lt; omega
      exact .inl ⟨_, W, by go_simp, rfl, Below.refl _ _⟩
    · obtain rfl := Option.some.inj hoo
      have q9 : uu 9 = .int .u16 (id.toNat : Int) := hd 9 (by kernel_rfl)
      refine .inl ⟨wanted_none rfl, ?_⟩
      generalize hev : Act.eval _ = ev
      have ec : ∀ c, ev (.const c) = c := fun c => by rw [← hev]; rfl
      have e38 : ev (.tmp 38) = .int .u16 (id.toNat : Int) := by rw [← hev]; exact (eval_put (by kernel_rfl) 64 rfl (by decide)).trans q9
      clear hev hd q9
      exact .inl ⟨_, W.alloc (.cells #[.int .u16 (id.toNat : Int)] 23), by go_simp, ⟨_, rfl, lit16_at W _ [id] rfl #[.int .u16 (id.toNat : Int)] (rfl) _ (by simp)⟩, bnextA (Below.refl _ _) _⟩
    · obtain rfl := Option.some.inj hoo
      obtain ⟨A10, q10, r10⟩ := hd 10 (by kernel_rfl)
      refine .inl ⟨wanted_none rfl, ?_⟩
      generalize hev : Act.eval _ = ev
      have ec : ∀ c, ev (.const c) = c := fun c => by rw [← hev]; rfl
      have ef : ∀ f, ev (.func f) = .func (.func f) #[] #[] := fun f => by rw [← hev]; rfl
      have e39 : ev (.tmp 39) = .slice A10 1 1 := by rw [← hev]; exact (eval_put (by kernel_rfl) 64 rfl (by decide)).trans q10
      clear hev hd q10
      exact .inr ⟨_, _, _, by go_simp, put16_nil A10 1 [id] W r10 (by simp), fun e w' he => by
        obtain ⟨L, A, c, rfl, HL, hr, hb⟩ := he
        exact ⟨_, rfl, ⟨L, A, c, rfl, HL, hr⟩, hb⟩⟩
    · obtain rfl := Option.some.inj hoo
      refine .inl ⟨wanted_none rfl, ?_⟩
      generalize hev : Act.eval _ = ev
      have ec : ∀ c, ev (.const c) = c := fun c => by rw [← hev]; rfl
      have e3 : ev (.tmp 3) = .pointer (some ⟨w.heap.size + 1, 0, none⟩) := by rw [← hev]; exact eval_old (by kernel_rfl) 64 rfl (by decide) rfl
      clear hev hd
      exact .inl ⟨_, W, by go_simp, rfl, Below.refl _ _⟩
    · obtain rfl := Option.some.inj hoo
      have q12 : uu 12 = .pointer (some ⟨w.heap.size + 1, 3, none⟩) := hd 12 (by kernel_rfl)
      refine .inl ⟨wanted_none rfl, ?_⟩
      generalize hev : Act.eval _ = ev
      have ec : ∀ c, ev (.const c) = c := fun c => by rw [← hev]; rfl
      have e41 : ev (.tmp 41) = .pointer (some ⟨w.heap.size + 1, 3, none⟩) := by rw [← hev]; exact (eval_put (by kernel_rfl) 64 rfl (by decide)).trans q12
      clear hev hd q12
      obtain ⟨cc0, cc1, cc2, cc3, cc4, cc5, cc6, cc7⟩ := HCC W hVW
      exact .inl ⟨_, W, by go_simp, rfl, Below.refl _ _⟩
    · obtain rfl := Option.some.inj hoo
      have q13 : uu 13 = .int .i64 (vip.toNat : Int) := hd 13 (by kernel_rfl)
      refine .inl ⟨wanted_none rfl, ?_⟩
      generalize hev : Act.eval _ = ev
      have ec : ∀ c, ev (.const c) = c := fun c => by rw [← hev]; rfl
      have e42 : ev (.tmp 42) = .int .i64 (vip.toNat : Int) := by rw [← hev]; exact (eval_put (by kernel_rfl) 64 rfl (by decide)).trans q13
      clear hev hd q13
      have hh : IntKind.u8.wrap (vip.toNat : Int) = (vip.toNat : Int) := by rw [IntKind.wrap_u8]; have := vip.toNat_lt; omega
      exact .inl ⟨_, W, by go_simp, rfl, Below.refl _ _⟩
    · obtain rfl := Option.some.inj hoo
      have q14 : uu 14 = .int .u8 (vip.toNat : Int) := hd 14 (by kernel_rfl)
      refine .inl ⟨wanted_none rfl, ?_⟩
      generalize hev : Act.eval _ = ev
      have ec : ∀ c, ev (.const c) = c := fun c => by rw [← hev]; rfl
      have e43 : ev (.tmp 43) = .int .u8 (vip.toNat : Int) := by rw [← hev]; exact (eval_put (by kernel_rfl) 64 rfl (by decide)).trans q14
      clear hev hd q14
      exact .inl ⟨_, W.alloc (.cells #[.int .u8 (vip.toNat : Int)] 5), by go_simp, ⟨_, rfl, lit_at W _ [vip] rfl #[.int .u8 (vip.toNat : Int)] (rfl) _ (by simp)⟩, bnextA (Below.refl _ _) _⟩
    · obtain rfl := Option.some.inj hoo
      refine .inl ⟨wanted_none rfl, ?_⟩
      generalize hev : Act.eval _ = ev
      have ec : ∀ c, ev (.const c) = c := fun c => by rw [← hev]; rfl
      have e3 : ev (.tmp 3) = .pointer (some ⟨w.heap.size + 1, 0, none⟩) := by rw [← hev]; exact eval_old (by kernel_rfl) 64 rfl (by decide) rfl
      clear hev hd
      exact .inl ⟨_, W, by go_simp, rfl, Below.refl _ _⟩
    · obtain rfl := Option.some.inj hoo
      have q16 : uu 16 = .pointer (some ⟨w.heap.size + 1, 4, none⟩) := hd 16 (by kernel_rfl)
      refine .inl ⟨wanted_none rfl, ?_⟩
      generalize hev : Act.eval _ = ev
      have ec : ∀ c, ev (.const c) = c := fun c => by rw [← hev]; rfl
      have e45 : ev (.tmp 45) = .pointer (some ⟨w.heap.size + 1, 4, none⟩) := by rw [← hev]; exact (eval_put (by kernel_rfl) 64 rfl (by decide)).trans q16
      clear hev hd q16
      obtain ⟨cc0, cc1, cc2, cc3, cc4, cc5, cc6, cc7⟩ := HCC W hVW
      exact .inl ⟨_, W, by go_simp, rfl, Below.refl _ _⟩
    · obtain rfl := Option.some.inj hoo
      have q17 : uu 17 = .int .u32 (a.toNat : Int) := hd 17 (by kernel_rfl)
      refine .inl ⟨wanted_none rfl, ?_⟩
      generalize hev : Act.eval _ = ev
      have ec : ∀ c, ev (.const c) = c := fun c => by rw [← hev]; rfl
      have e46 : ev (.tmp 46) = .int .u32 (a.toNat : Int) := by rw [← hev]; exact (eval_put (by kernel_rfl) 64 rfl (by decide)).trans q17
      clear hev hd q17
      exact .inl ⟨_, W.alloc (.cells #[.int .u32 (a.toNat : Int)] 22), by go_simp, ⟨_, rfl, lit32_at W _ [a] rfl #[.int .u32 (a.toNat : Int)] (rfl) _ (by simp)⟩, bnextA (Below.refl _ _) _⟩
    · obtain rfl := Option.some.inj hoo
      obtain ⟨A18, q18, r18⟩ := hd 18 (by kernel_rfl)
      refine .inl ⟨wanted_none rfl, ?_⟩
      generalize hev : Act.eval _ = ev
      have ec : ∀ c, ev (.const c) = c := fun c => by rw [← hev]; rfl
      have ef : ∀ f, ev (.func f) = .func (.func f) #[] #[] := fun f => by rw [← hev]; rfl
      have e47 : ev (.tmp 47) = .slice A18 1 1 := by rw [← hev]; exact (eval_put (by kernel_rfl) 64 rfl (by decide)).trans q18
      clear hev hd q18
      exact .inr ⟨_, _, _, by go_simp, put32_nil A18 1 [a] W r18 (by simp), fun e w' he => by
        obtain ⟨L, A, c, rfl, HL, hr, hb⟩ := he
        exact ⟨_, rfl, ⟨L, A, c, rfl, HL, hr⟩, hb⟩⟩
    · obtain rfl := Option.some.inj hoo
      refine .inl ⟨wanted_none rfl, ?_⟩
      generalize hev : Act.eval _ = ev
      have ec : ∀ c, ev (.const c) = c := fun c => by rw [← hev]; rfl
      have e3 : ev (.tmp 3) = .pointer (some ⟨w.heap.size + 1, 0, none⟩) := by rw [← hev]; exact eval_old (by kernel_rfl) 64 rfl (by decide) rfl
      clear hev hd
      exact .inl ⟨_, W, by go_simp, rfl, Below.refl _ _⟩
    · obtain rfl := Option.some.inj hoo
      have q20 : uu 20 = .pointer (some ⟨w.heap.size + 1, 5, none⟩) := hd 20 (by kernel_rfl)
      refine .inl ⟨wanted_none rfl, ?_⟩
      generalize hev : Act.eval _ = ev
      have ec : ∀ c, ev (.const c) = c := fun c => by rw [← hev]; rfl
      have e49 : ev (.tmp 49) = .pointer (some ⟨w.heap.size + 1, 5, none⟩) := by rw [← hev]; exact (eval_put (by kernel_rfl) 64 rfl (by decide)).trans q20
      clear hev hd q20
      obtain ⟨cc0, cc1, cc2, cc3, cc4, cc5, cc6, cc7⟩ := HCC W hVW
      exact .inl ⟨_, W, by go_simp, rfl, Below.refl _ _⟩
    · obtain rfl := Option.some.inj hoo
      have q21 : uu 21 = .int .u16 (p.toNat : Int) := hd 21 (by kernel_rfl)
      refine .inl ⟨wanted_none rfl, ?_⟩
      generalize hev : Act.eval _ = ev
      have ec : ∀ c, ev (.const c) = c := fun c => by rw [← hev]; rfl
      have e50 : ev (.tmp 50) = .int .u16 (p.toNat : Int) := by rw [← hev]; exact (eval_put (by kernel_rfl) 64 rfl (by decide)).trans q21
      clear hev hd q21
      exact .inl ⟨_, W.alloc (.cells #[.int .u16 (p.toNat : Int)] 23), by go_simp, ⟨_, rfl, lit16_at W _ [p] rfl #[.int .u16 (p.toNat : Int)] (rfl) _ (by simp)⟩, bnextA (Below.refl _ _) _⟩
    · obtain rfl := Option.some.inj hoo
      obtain ⟨A22, q22, r22⟩ := hd 22 (by kernel_rfl)
      refine .inl ⟨wanted_none rfl, ?_⟩
      generalize hev : Act.eval _ = ev
      have ec : ∀ c, ev (.const c) = c := fun c => by rw [← hev]; rfl
      have ef : ∀ f, ev (.func f) = .func (.func f) #[] #[] := fun f => by rw [← hev]; rfl
      have e51 : ev (.tmp 51) = .slice A22 1 1 := by rw [← hev]; exact (eval_put (by kernel_rfl) 64 rfl (by decide)).trans q22
      clear hev hd q22
      exact .inr ⟨_, _, _, by go_simp, put16_nil A22 1 [p] W r22 (by simp), fun e w' he => by
        obtain ⟨L, A, c, rfl, HL, hr, hb⟩ := he
        exact ⟨_, rfl, ⟨L, A, c, rfl, HL, hr⟩, hb⟩⟩
    · obtain rfl := Option.some.inj hoo
      refine .inl ⟨wanted_none rfl, ?_⟩
      generalize hev : Act.eval _ = ev
      have ec : ∀ c, ev (.const c) = c := fun c => by rw [← hev]; rfl
      have e3 : ev (.tmp 3) = .pointer (some ⟨w.heap.size + 1, 0, none⟩) := by rw [← hev]; exact eval_old (by kernel_rfl) 64 rfl (by decide) rfl
      clear hev hd
      exact .inl ⟨_, W, by go_simp, rfl, Below.refl _ _⟩
    · obtain rfl := Option.some.inj hoo
      have q24 : uu 24 = .pointer (some ⟨w.heap.size + 1, 6, none⟩) := hd 24 (by kernel_rfl)
      refine .inl ⟨wanted_none rfl, ?_⟩
      generalize hev : Act.eval _ = ev
      have ec : ∀ c, ev (.const c) = c := fun c => by rw [← hev]; rfl
      have e53 : ev (.tmp 53) = .pointer (some ⟨w.heap.size + 1, 6, none⟩) := by rw [← hev]; exact (eval_put (by kernel_rfl) 64 rfl (by decide)).trans q24
      clear hev hd q24
      obtain ⟨cc0, cc1, cc2, cc3, cc4, cc5, cc6, cc7⟩ := HCC W hVW
      exact .inl ⟨_, W, by go_simp, rfl, Below.refl _ _⟩
    · obtain rfl := Option.some.inj hoo
      refine .inl ⟨wanted_none rfl, ?_⟩
      generalize hev : Act.eval _ = ev
      have ec : ∀ c, ev (.const c) = c := fun c => by rw [← hev]; rfl
      have e3 : ev (.tmp 3) = .pointer (some ⟨w.heap.size + 1, 0, none⟩) := by rw [← hev]; exact eval_old (by kernel_rfl) 64 rfl (by decide) rfl
      clear hev hd
      exact .inl ⟨_, W, by go_simp, rfl, Below.refl _ _⟩
    · obtain rfl := Option.some.inj hoo
      have q26 : uu 26 = .pointer (some ⟨w.heap.size + 1, 7, none⟩) := hd 26 (by kernel_rfl)
      refine .inl ⟨wanted_none rfl, ?_⟩
      generalize hev : Act.eval _ = ev
      have ec : ∀ c, ev (.const c) = c := fun c => by rw [← hev]; rfl
      have e55 : ev (.tmp 55) = .pointer (some ⟨w.heap.size + 1, 7, none⟩) := by rw [← hev]; exact (eval_put (by kernel_rfl) 64 rfl (by decide)).trans q26
      clear hev hd q26
      obtain ⟨cc0, cc1, cc2, cc3, cc4, cc5, cc6, cc7⟩ := HCC W hVW
      exact .inl ⟨_, W, by go_simp, rfl, Below.refl _ _⟩
    · obtain rfl := Option.some.inj hoo
      have q27 : uu 27 = .int .i64 (num.toNat : Int) := hd 27 (by kernel_rfl)
      refine .inl ⟨wanted_none rfl, ?_⟩
      generalize hev : Act.eval _ = ev
      have ec : ∀ c, ev (.const c) = c := fun c => by rw [← hev]; rfl
      have e56 : ev (.tmp 56) = .int .i64 (num.toNat : Int) := by rw [← hev]; exact (eval_put (by kernel_rfl) 64 rfl (by decide)).trans q27
      clear hev hd q27
      have hh : IntKind.u8.wrap (num.toNat : Int) = (num.toNat : Int) := by rw [IntKind.wrap_u8]; have := num.toNat_lt; omega
      exact .inl ⟨_, W, by go_simp, rfl, Below.refl _ _⟩
    · obtain rfl := Option.some.inj hoo
      have q25 : uu 25 = .int .u8 (pr.toNat : Int) := hd 25 (by kernel_rfl)
      have q28 : uu 28 = .int .u8 (num.toNat : Int) := hd 28 (by kernel_rfl)
      refine .inl ⟨wanted_none rfl, ?_⟩
      generalize hev : Act.eval _ = ev
      have ec : ∀ c, ev (.const c) = c := fun c => by rw [← hev]; rfl
      have e54 : ev (.tmp 54) = .int .u8 (pr.toNat : Int) := by rw [← hev]; exact (eval_put (by kernel_rfl) 64 rfl (by decide)).trans q25
      have e57 : ev (.tmp 57) = .int .u8 (num.toNat : Int) := by rw [← hev]; exact (eval_put (by kernel_rfl) 64 rfl (by decide)).trans q28
      clear hev hd q25 q28
      exact .inl ⟨_, W.alloc (.cells #[.int .u8 (pr.toNat : Int), .int .u8 (num.toNat : Int)] 5), by go_simp, ⟨_, rfl, lit_at W _ [pr, num] rfl #[.int .u8 (pr.toNat : Int), .int .u8 (num.toNat : Int)] (rfl) _ (by simp)⟩, bnextA (Below.refl _ _) _⟩
    · obtain rfl := Option.some.inj hoo
      obtain ⟨L2, A2, c2, q2, HL2, r2⟩ := hd 2 (by kernel_rfl)
      obtain ⟨A6, q6, r6⟩ := hd 6 (by kernel_rfl)
      obtain ⟨L11, A11, c11, q11, HL11, r11⟩ := hd 11 (by kernel_rfl)
      obtain ⟨A15, q15, r15⟩ := hd 15 (by kernel_rfl)
      obtain ⟨L19, A19, c19, q19, HL19, r19⟩ := hd 19 (by kernel_rfl)
      obtain ⟨L23, A23, c23, q23, HL23, r23⟩ := hd 23 (by kernel_rfl)
      obtain ⟨A29, q29, r29⟩ := hd 29 (by kernel_rfl)
      refine .inl ⟨wanted_none rfl, ?_⟩
      generalize hev : Act.eval _ = ev
      have ec : ∀ c, ev (.const c) = c := fun c => by rw [← hev]; rfl
      have e31 : ev (.tmp 31) = .slice A2 L2.length c2 := by rw [← hev]; exact (eval_put (by kernel_rfl) 64 rfl (by decide)).trans q2
      have e35 : ev (.tmp 35) = .slice A6 1 1 := by rw [← hev]; exact (eval_put (by kernel_rfl) 64 rfl (by decide)).trans q6
      have e40 : ev (.tmp 40) = .slice A11 L11.length c11 := by rw [← hev]; exact (eval_put (by kernel_rfl) 64 rfl (by decide)).trans q11
      have e44 : ev (.tmp 44) = .slice A15 1 1 := by rw [← hev]; exact (eval_put (by kernel_rfl) 64 rfl (by decide)).trans q15
      have e48 : ev (.tmp 48) = .slice A19 L19.length c19 := by rw [← hev]; exact (eval_put (by kernel_rfl) 64 rfl (by decide)).trans q19
      have e52 : ev (.tmp 52) = .slice A23 L23.length c23 := by rw [← hev]; exact (eval_put (by kernel_rfl) 64 rfl (by decide)).trans q23
      have e58 : ev (.tmp 58) = .slice A29 2 2 := by rw [← hev]; exact (eval_put (by kernel_rfl) 64 rfl (by decide)).trans q29
      clear hev hd q2 q6 q11 q15 q19 q23 q29
      exact .inl ⟨_, W.alloc (.cells #[.slice A2 L2.length c2, .slice A6 1 1, .slice A11 L11.length c11, .slice A15 1 1, .slice A19 L19.length c19, .slice A23 L23.length c23, .slice A29 2 2] 27), by go_simp, ⟨W.heap.size, [L2, [op], L11, [vip], L19, L23, [pr, num]], rfl, by rw [Hid, HL2.out, HL11.out, HL19.out, HL23.out]; simp [ob, puts16, puts32], rfl, by simp, W.heap.size, by simp, parts_at _ rfl (.cons r2 (.cons r6 (.cons r11 (.cons r15 (.cons r19 (.cons r23 (.cons r29 .nil))))))) _ rfl _⟩, bnextA (Below.refl _ _) _⟩
    · obtain rfl := Option.some.inj hoo
      obtain ⟨g30, ls30, q30, HF30, HN30, hg30, B30, hB30, hP30⟩ := hd 30 (by kernel_rfl)
      refine .inl ⟨wanted_none rfl, ?_⟩
      generalize hev : Act.eval _ = ev
      have ec : ∀ c, ev (.const c) = c := fun c => by rw [← hev]; rfl
      have ef : ∀ f, ev (.func f) = .func (.func f) #[] #[] := fun f => by rw [← hev]; rfl
      have e59 : ev (.tmp 59) = .slice (some ⟨g30, 0, none⟩) 7 7 := by rw [← hev]; exact (eval_put (by kernel_rfl) 64 rfl (by decide)).trans q30
      clear hev hd q30
      exact .inr ⟨_, _, _, by go_simp, join_any W B30 g30 7 ls30 hP30 HN30.out (by omega) (by omega) (by rw [HF30.out, ob_len]; omega), fun e w' he => by
        obtain ⟨L, A, c, rfl, HL, hr, hb⟩ := he
        exact ⟨_, rfl, ⟨L, A, c, rfl, (by rw [Hid, HL.out, HF30.out]), hr⟩, hb⟩⟩
    · obtain rfl := Option.some.inj hoo
      obtain ⟨L31, A31, c31, q31, HL31, r31⟩ := hd 31 (by kernel_rfl)
      refine .inl ⟨wanted_none rfl, ?_⟩
      generalize hev : Act.eval _ = ev
      have ec : ∀ c, ev (.const c) = c := fun c => by rw [← hev]; rfl
      have e60 : ev (.tmp 60) = .slice A31 L31.length c31 := by rw [← hev]; exact (eval_put (by kernel_rfl) 64 rfl (by decide)).trans q31
      clear hev hd q31
      exact .inl ⟨_, W, by go_simp, ⟨L31, A31, c31, rfl, HL31, r31⟩, Below.refl _ _⟩
    · simp at hoo
  · intro uu W hVW hall
    have q32 : ∃ L A c, uu 32 = .slice A L.length c ∧ Hid (L = ob n op id vip a p pr num) ∧ Rd bv W W.heap.size A c L := hall 32 (by decide)
    obtain ⟨L, A, c, q32, HL, r⟩ := q32
    replace hB := hB.trans (hVW.mono hB.size)
    obtain ⟨z0, z1, -⟩ := (K.next hVW).get2
    clear hall HCC hVW K KO
    simp only [putAll, Act.put, Nat.reduceAdd, q32]
    simp only [List.setIfInBounds_toArray, List.set_cons_succ, List.set_cons_zero]
    clear q32
    generalize W = V1 at *
    go_wp2_with fail
    refine (signed_any lo hi h1 h2 A c L _ r (by rw [HL.out, ob_len]; omega)).mono ?_
    rintro e w2 ⟨L2, A2, c2, rfl, HL2, r2, hb⟩
    go_wp2_with fail
    go_ret2
    exact ⟨L2, A2, c2, rfl, by rw [Hid, HL2.out, HL.out], r2, bnext hB hb⟩
set_option maxHeartbeats 2000000 in
theorem rput_ok (n : Nat) (hn : n < 18446744073709551616) (op : UInt8) (id : UInt16) (vip : UInt8) (a : UInt32) (p : UInt16) (pr num : UInt8) (w : World) : Calls Try.prog 17 #[.agg #[.int .u64 (lo : Int), .int .u64 (hi : Int)], .agg #[.int .u64 (n : Int), .int .i64 (op.toNat : Int), .int .i64 (id.toNat : Int), .int .i64 (vip.toNat : Int), .int .u32 (a.toNat : Int), .int .u16 (p.toNat : Int), .int .u8 (pr.toNat : Int), .int .i64 (num.toNat : Int)]] w fun e w' => ∃ L A c, e = .returned (.tuple #[.slice A L.length c, .int .i64 0]) ∧ Hid (L = sgn lo hi (ob n op id vip a p pr num)) ∧ Rd bv w' w'.heap.size A c L ∧ Below w.heap.size w w' := by
  obtain ⟨V, hV⟩ : ∃ V, V = (w.alloc (.cells #[.int .u64 (lo : Int), .int .u64 (hi : Int)] 35)).alloc (.cells #[.int .u64 (n : Int), .int .i64 (op.toNat : Int), .int .i64 (id.toNat : Int), .int .i64 (vip.toNat : Int), .int .u32 (a.toNat : Int), .int .u16 (p.toNat : Int), .int .u8 (pr.toNat : Int), .int .i64 (num.toNat : Int)] 37) := ⟨_, rfl⟩
  have hB : Below w.heap.size w V := by subst hV; exact bnextA (bnextA (Below.refl _ _) _) _
  have K : Blk V w.heap.size [.int .u64 (lo : Int), .int .u64 (hi : Int)] 35 := by subst hV; exact (Blk.new _ _ _).alloc _
  have KO : Blk V (w.heap.size + 1) [.int .u64 (n : Int), .int .i64 (op.toNat : Int), .int .i64 (id.toNat : Int), .int .i64 (vip.toNat : Int), .int .u32 (a.toNat : Int), .int .u16 (p.toNat : Int), .int .u8 (pr.toNat : Int), .int .i64 (num.toNat : Int)] 37 := by
    subst hV
    have := Blk.new (w.alloc (.cells #[.int .u64 (lo : Int), .int .u64 (hi : Int)] 35)) #[.int .u64 (n : Int), .int .i64 (op.toNat : Int), .int .i64 (id.toNat : Int), .int .i64 (vip.toNat : Int), .int .u32 (a.toNat : Int), .int .u16 (p.toNat : Int), .int .u8 (pr.toNat : Int), .int .i64 (num.toNat : Int)] 37
    simpa using this
  have HCC : ∀ W, Below V.heap.size V W → (W.cell? ⟨w.heap.size + 1, 0, none⟩ = some (.int .u64 (n : Int)) ∧ W.cell? ⟨w.heap.size + 1, 1, none⟩ = some (.int .i64 (op.toNat : Int)) ∧ W.cell? ⟨w.heap.size + 1, 2, none⟩ = some (.int .i64 (id.toNat : Int)) ∧ W.cell? ⟨w.heap.size + 1, 3, none⟩ = some (.int .i64 (vip.toNat : Int)) ∧ W.cell? ⟨w.heap.size + 1, 4, none⟩ = some (.int .u32 (a.toNat : Int)) ∧ W.cell? ⟨w.heap.size + 1, 5, none⟩ = some (.int .u16 (p.toNat : Int)) ∧ W.cell? ⟨w.heap.size + 1, 6, none⟩ = some (.int .u8 (pr.toNat : Int)) ∧ W.cell? ⟨w.heap.size + 1, 7, none⟩ = some (.int .i64 (num.toNat : Int))) := by
    intro W h
    exact ⟨(KO.next h).cell 0, (KO.next h).cell 1, (KO.next h).cell 2, (KO.next h).cell 3, (KO.next h).cell 4, (KO.next h).cell 5, (KO.next h).cell 6, (KO.next h).cell 7⟩
  obtain ⟨x0, x1, x2, x3, x4, x5, x6, x7⟩ := HCC V (Below.refl _ _)
  have d0 : decide ((op.toNat : Int) < 0) = false := by have := op.toNat_lt; simp; try omega
  have d1 : decide (255 < (op.toNat : Int)) = false := by have := op.toNat_lt; simp; try omega
  have d2 : decide ((vip.toNat : Int) < 0) = false := by have := vip.toNat_lt; simp; try omega
  have d3 : decide (255 < (vip.toNat : Int)) = false := by have := vip.toNat_lt; simp; try omega
  have d4 : decide ((num.toNat : Int) < 0) = false := by have := num.toNat_lt; simp; try omega
  have d5 : decide (255 < (num.toNat : Int)) = false := by have := num.toNat_lt; simp; try omega
  have d6 : decide ((id.toNat : Int) < 0) = false := by have := id.toNat_lt; simp; try omega
  have d7 : decide (65535 < (id.toNat : Int)) = false := by have := id.toNat_lt; simp; try omega
  obtain ⟨ih, il, ei, ei1, ei2⟩ := be16_bytes id
  obtain ⟨ph, pl, ep, ep1, ep2⟩ := be16_bytes p
  have HI : ∀ _ : Unit, ((id.toNat : Int).tdiv 256 = (ih.toNat : Int)) ∧ ((id.toNat : Int).tmod 256 = (il.toNat : Int)) := by
    intro _
    rw [Int.tdiv_eq_ediv_of_nonneg (by omega), Int.tmod_eq_emod_of_nonneg (by omega)]
    omega
  have HJ : ∀ _ : Unit, ((p.toNat : Int).tdiv 256 = (ph.toNat : Int)) ∧ ((p.toNat : Int).tmod 256 = (pl.toNat : Int)) := by
    intro _
    rw [Int.tdiv_eq_ediv_of_nonneg (by omega), Int.tmod_eq_emod_of_nonneg (by omega)]
    omega
  have HE : Hid (ob n op id vip a p pr num = b64 n ++ [op, ih, il, vip] ++ putN 4 a.toNat ++ [ph, pl, pr, num]) := by
    rw [Hid, ob, ei, ep, be32_put]
    simp
  have HPA : ∀ W, Hid (Calls Try.prog 40 #[.int .u32 (a.toNat : Int), .int .i64 4] W fun e w' => ∃ L A c, e = .returned (.slice A L.length c) ∧ Hid (L = putN 4 a.toNat) ∧ Rd bv w' w'.heap.size A c L ∧ Below W.heap.size W w') := by
    intro W
    refine (rput_any a.toNat 4 W (by have := a.toNat_lt; omega) (by omega)).mono ?_
    rintro e w' ⟨v, rfl, hown, hb⟩
    obtain ⟨L, A, c, HL, rfl, hr⟩ := hown.rdv
    exact ⟨L, A, c, rfl, HL, hr, hb⟩
  clear ei ei1 ei2 ep ep1 ep2
  go_enter Try.func17, Try.ntmps17
  go_wp2_with fail
  rw [← hV]
  clear hV x0 x1 x2 x3 x4 x5 x6 x7 d0 d1 d2 d3 d4 d5 d6 d7
  refine region_put (by kernel_rfl) (by kernel_rfl) (by kernel_rfl) 88 rfl (by kernel_rfl) V (fun i v W => match i with
      | 0 => v = .pointer (some ⟨w.heap.size + 1, 0, none⟩)
      | 1 => v = .int .u64 (n : Int)
      | 2 => ∃ L A c, v = .slice A L.length c ∧ Hid (L = b64 n) ∧ Rd bv W W.heap.size A c L
      | 3 => v = .pointer (some ⟨w.heap.size + 1, 1, none⟩)
      | 4 => v = .int .i64 (op.toNat : Int)
      | 5 => v = .int .u8 (op.toNat : Int)
      | 6 => v = .pointer (some ⟨w.heap.size + 1, 2, none⟩)
      | 7 => v = .int .i64 (id.toNat : Int)
      | 8 => v = .int .i64 (ih.toNat : Int)
      | 9 => v = .int .u8 (ih.toNat : Int)
      | 10 => v = .pointer (some ⟨w.heap.size + 1, 2, none⟩)
      | 11 => v = .int .i64 (id.toNat : Int)
      | 12 => v = .int .i64 (il.toNat : Int)
      | 13 => v = .int .u8 (il.toNat : Int)
      | 14 => v = .pointer (some ⟨w.heap.size + 1, 3, none⟩)
      | 15 => v = .int .i64 (vip.toNat : Int)
      | 16 => v = .int .u8 (vip.toNat : Int)
      | 17 => ∃ A, v = .slice A 4 4 ∧ Rd bv W W.heap.size A 4 [op, ih, il, vip]
      | 18 => ∃ L A c, v = .slice A L.length c ∧ Hid (L = b64 n ++ [op, ih, il, vip]) ∧ Rd bv W W.heap.size A c L
      | 19 => ∃ L A c, v = .slice A L.length c ∧ Hid (L = b64 n ++ [op, ih, il, vip]) ∧ Rd bv W W.heap.size A c L
      | _ => True) (Below.refl _ _) ?_ ?_ ?_
  · intro i v W W' h hb
    match i, h with
    | 0, h => exact h
    | 1, h => exact h
    | 2, h => obtain ⟨L, A, c, h1, h2, h3⟩ := h; exact ⟨L, A, c, h1, h2, h3.next hb⟩
    | 3, h => exact h
    | 4, h => exact h
    | 5, h => exact h
    | 6, h => exact h
    | 7, h => exact h
    | 8, h => exact h
    | 9, h => exact h
    | 10, h => exact h
    | 11, h => exact h
    | 12, h => exact h
    | 13, h => exact h
    | 14, h => exact h
    | 15, h => exact h
    | 16, h => exact h
    | 17, h => obtain ⟨A, h1, h2⟩ := h; exact ⟨A, h1, h2.next hb⟩
    | 18, h => obtain ⟨L, A, c, h1, h2, h3⟩ := h; exact ⟨L, A, c, h1, h2, h3.next hb⟩
    | 19, h => obtain ⟨L, A, c, h1, h2, h3⟩ := h; exact ⟨L, A, c, h1, h2, h3.next hb⟩
    | _ + 20, _ => trivial
  · intro i o uu W hoo hVW hd
    rcases i with _|_|_|_|_|_|_|_|_|_|_|_|_|_|_|_|_|_|_|_|i
    · obtain rfl := Option.some.inj hoo
      refine .inl ⟨wanted_none rfl, ?_⟩
      generalize hev : Act.eval _ = ev
      have ec : ∀ c, ev (.const c) = c := fun c => by rw [← hev]; rfl
      have e3 : ev (.tmp 3) = .pointer (some ⟨w.heap.size + 1, 0, none⟩) := by rw [← hev]; exact eval_old (by kernel_rfl) 88 rfl (by decide) rfl
      clear hev hd
      exact .inl ⟨_, W, by go_simp, rfl, Below.refl _ _⟩
    · obtain rfl := Option.some.inj hoo
      have q0 : uu 0 = .pointer (some ⟨w.heap.size + 1, 0, none⟩) := hd 0 (by kernel_rfl)
      refine .inl ⟨wanted_none rfl, ?_⟩
      generalize hev : Act.eval _ = ev
      have ec : ∀ c, ev (.const c) = c := fun c => by rw [← hev]; rfl
      have e45 : ev (.tmp 45) = .pointer (some ⟨w.heap.size + 1, 0, none⟩) := by rw [← hev]; exact (eval_put (by kernel_rfl) 88 rfl (by decide)).trans q0
      clear hev hd q0
      obtain ⟨cc0, cc1, cc2, cc3, cc4, cc5, cc6, cc7⟩ := HCC W hVW
      exact .inl ⟨_, W, by go_simp, rfl, Below.refl _ _⟩
    · obtain rfl := Option.some.inj hoo
      have q1 : uu 1 = .int .u64 (n : Int) := hd 1 (by kernel_rfl)
      refine .inl ⟨wanted_none rfl, ?_⟩
      generalize hev : Act.eval _ = ev
      have ec : ∀ c, ev (.const c) = c := fun c => by rw [← hev]; rfl
      have ef : ∀ f, ev (.func f) = .func (.func f) #[] #[] := fun f => by rw [← hev]; rfl
      have e46 : ev (.tmp 46) = .int .u64 (n : Int) := by rw [← hev]; exact (eval_put (by kernel_rfl) 88 rfl (by decide)).trans q1
      clear hev hd q1
      exact .inr ⟨_, _, _, by go_simp, rlong_any n hn W, fun e w' he => by
        obtain ⟨L, A, c, rfl, HL, hr, hb⟩ := he
        exact ⟨_, rfl, ⟨L, A, c, rfl, HL, hr⟩, hb⟩⟩
    · obtain rfl := Option.some.inj hoo
      refine .inl ⟨wanted_none rfl, ?_⟩
      generalize hev : Act.eval _ = ev
      have ec : ∀ c, ev (.const c) = c := fun c => by rw [← hev]; rfl
      have e3 : ev (.tmp 3) = .pointer (some ⟨w.heap.size + 1, 0, none⟩) := by rw [← hev]; exact eval_old (by kernel_rfl) 88 rfl (by decide) rfl
      clear hev hd
      exact .inl ⟨_, W, by go_simp, rfl, Below.refl _ _⟩
    · obtain rfl := Option.some.inj hoo
      have q3 : uu 3 = .pointer (some ⟨w.heap.size + 1, 1, none⟩) := hd 3 (by kernel_rfl)
      refine .inl ⟨wanted_none rfl, ?_⟩
      generalize hev : Act.eval _ = ev
      have ec : ∀ c, ev (.const c) = c := fun c => by rw [← hev]; rfl
      have e48 : ev (.tmp 48) = .pointer (some ⟨w.heap.size + 1, 1, none⟩) := by rw [← hev]; exact (eval_put (by kernel_rfl) 88 rfl (by decide)).trans q3
      clear hev hd q3
      obtain ⟨cc0, cc1, cc2, cc3, cc4, cc5, cc6, cc7⟩ := HCC W hVW
      exact .inl ⟨_, W, by go_simp, rfl, Below.refl _ _⟩
    · obtain rfl := Option.some.inj hoo
      have q4 : uu 4 = .int .i64 (op.toNat : Int) := hd 4 (by kernel_rfl)
      refine .inl ⟨wanted_none rfl, ?_⟩
      generalize hev : Act.eval _ = ev
      have ec : ∀ c, ev (.const c) = c := fun c => by rw [← hev]; rfl
      have e49 : ev (.tmp 49) = .int .i64 (op.toNat : Int) := by rw [← hev]; exact (eval_put (by kernel_rfl) 88 rfl (by decide)).trans q4
      clear hev hd q4
      have hh : IntKind.u8.wrap (op.toNat : Int) = (op.toNat : Int) := by rw [IntKind.wrap_u8]; have := op.toNat_lt; omega
      exact .inl ⟨_, W, by go_simp, rfl, Below.refl _ _⟩
    · obtain rfl := Option.some.inj hoo
      refine .inl ⟨wanted_none rfl, ?_⟩
      generalize hev : Act.eval _ = ev
      have ec : ∀ c, ev (.const c) = c := fun c => by rw [← hev]; rfl
      have e3 : ev (.tmp 3) = .pointer (some ⟨w.heap.size + 1, 0, none⟩) := by rw [← hev]; exact eval_old (by kernel_rfl) 88 rfl (by decide) rfl
      clear hev hd
      exact .inl ⟨_, W, by go_simp, rfl, Below.refl _ _⟩
    · obtain rfl := Option.some.inj hoo
      have q6 : uu 6 = .pointer (some ⟨w.heap.size + 1, 2, none⟩) := hd 6 (by kernel_rfl)
      refine .inl ⟨wanted_none rfl, ?_⟩
      generalize hev : Act.eval _ = ev
      have ec : ∀ c, ev (.const c) = c := fun c => by rw [← hev]; rfl
      have e51 : ev (.tmp 51) = .pointer (some ⟨w.heap.size + 1, 2, none⟩) := by rw [← hev]; exact (eval_put (by kernel_rfl) 88 rfl (by decide)).trans q6
      clear hev hd q6
      obtain ⟨cc0, cc1, cc2, cc3, cc4, cc5, cc6, cc7⟩ := HCC W hVW
      exact .inl ⟨_, W, by go_simp, rfl, Below.refl _ _⟩
    · obtain rfl := Option.some.inj hoo
      have q7 : uu 7 = .int .i64 (id.toNat : Int) := hd 7 (by kernel_rfl)
      refine .inl ⟨wanted_none rfl, ?_⟩
      generalize hev : Act.eval _ = ev
      have ec : ∀ c, ev (.const c) = c := fun c => by rw [← hev]; rfl
      have e52 : ev (.tmp 52) = .int .i64 (id.toNat : Int) := by rw [← hev]; exact (eval_put (by kernel_rfl) 88 rfl (by decide)).trans q7
      clear hev hd q7
      have hh := (HI ()).1
      have hh2 : IntKind.i64.wrap (ih.toNat : Int) = (ih.toNat : Int) := by rw [IntKind.wrap_i64]; have := ih.toNat_lt; omega
      exact .inl ⟨_, W, by go_simp, rfl, Below.refl _ _⟩
    · obtain rfl := Option.some.inj hoo
      have q8 : uu 8 = .int .i64 (ih.toNat : Int) := hd 8 (by kernel_rfl)
      refine .inl ⟨wanted_none rfl, ?_⟩
      generalize hev : Act.eval _ = ev
      have ec : ∀ c, ev (.const c) = c := fun c => by rw [← hev]; rfl
      have e53 : ev (.tmp 53) = .int .i64 (ih.toNat : Int) := by rw [← hev]; exact (eval_put (by kernel_rfl) 88 rfl (by decide)).trans q8
      clear hev hd q8
      have hh : IntKind.u8.wrap (ih.toNat : Int) = (ih.toNat : Int) := by rw [IntKind.wrap_u8]; have := ih.toNat_lt; omega
      exact .inl ⟨_, W, by go_simp, rfl, Below.refl _ _⟩
    · obtain rfl := Option.some.inj hoo
      refine .inl ⟨wanted_none rfl, ?_⟩
      generalize hev : Act.eval _ = ev
      have ec : ∀ c, ev (.const c) = c := fun c => by rw [← hev]; rfl
      have e3 : ev (.tmp 3) = .pointer (some ⟨w.heap.size + 1, 0, none⟩) := by rw [← hev]; exact eval_old (by kernel_rfl) 88 rfl (by decide) rfl
      clear hev hd
      exact .inl ⟨_, W, by go_simp, rfl, Below.refl _ _⟩
    · obtain rfl := Option.some.inj hoo
      have q10 : uu 10 = .pointer (some ⟨w.heap.size + 1, 2, none⟩) := hd 10 (by kernel_rfl)
      refine .inl ⟨wanted_none rfl, ?_⟩
      generalize hev : Act.eval _ = ev
      have ec : ∀ c, ev (.const c) = c := fun c => by rw [← hev]; rfl
      have e55 : ev (.tmp 55) = .pointer (some ⟨w.heap.size + 1, 2, none⟩) := by rw [← hev]; exact (eval_put (by kernel_rfl) 88 rfl (by decide)).trans q10
      clear hev hd q10
      obtain ⟨cc0, cc1, cc2, cc3, cc4, cc5, cc6, cc7⟩ := HCC W hVW
      exact .inl ⟨_, W, by go_simp, rfl, Below.refl _ _⟩
    · obtain rfl := Option.some.inj hoo
      have q11 : uu 11 = .int .i64 (id.toNat : Int) := hd 11 (by kernel_rfl)
      refine .inl ⟨wanted_none rfl, ?_⟩
      generalize hev : Act.eval _ = ev
      have ec : ∀ c, ev (.const c) = c := fun c => by rw [← hev]; rfl
      have e56 : ev (.tmp 56) = .int .i64 (id.toNat : Int) := by rw [← hev]; exact (eval_put (by kernel_rfl) 88 rfl (by decide)).trans q11
      clear hev hd q11
      have hh := (HI ()).2
      have hh2 : IntKind.i64.wrap (il.toNat : Int) = (il.toNat : Int) := by rw [IntKind.wrap_i64]; have := il.toNat_lt; omega
      exact .inl ⟨_, W, by go_simp, rfl, Below.refl _ _⟩
    · obtain rfl := Option.some.inj hoo
      have q12 : uu 12 = .int .i64 (il.toNat : Int) := hd 12 (by kernel_rfl)
      refine .inl ⟨wanted_none rfl, ?_⟩
      generalize hev : Act.eval _ = ev
      have ec : ∀ c, ev (.const c) = c := fun c => by rw [← hev]; rfl
      have e57 : ev (.tmp 57) = .int .i64 (il.toNat : Int) := by rw [← hev]; exact (eval_put (by kernel_rfl) 88 rfl (by decide)).trans q12
      clear hev hd q12
      have hh : IntKind.u8.wrap (il.toNat : Int) = (il.toNat : Int) := by rw [IntKind.wrap_u8]; have := il.toNat_lt; omega
      exact .inl ⟨_, W, by go_simp, rfl, Below.refl _ _⟩
    · obtain rfl := Option.some.inj hoo
      refine .inl ⟨wanted_none rfl, ?_⟩
      generalize hev : Act.eval _ = ev
      have ec : ∀ c, ev (.const c) = c := fun c => by rw [← hev]; rfl
      have e3 : ev (.tmp 3) = .pointer (some ⟨w.heap.size + 1, 0, none⟩) := by rw [← hev]; exact eval_old (by kernel_rfl) 88 rfl (by decide) rfl
      clear hev hd
      exact .inl ⟨_, W, by go_simp, rfl, Below.refl _ _⟩
    · obtain rfl := Option.some.inj hoo
      have q14 : uu 14 = .pointer (some ⟨w.heap.size + 1, 3, none⟩) := hd 14 (by kernel_rfl)
      refine .inl ⟨wanted_none rfl, ?_⟩
      generalize hev : Act.eval _ = ev
      have ec : ∀ c, ev (.const c) = c := fun c => by rw [← hev]; rfl
      have e59 : ev (.tmp 59) = .pointer (some ⟨w.heap.size + 1, 3, none⟩) := by rw [← hev]; exact (eval_put (by kernel_rfl) 88 rfl (by decide)).trans q14
      clear hev hd q14
      obtain ⟨cc0, cc1, cc2, cc3, cc4, cc5, cc6, cc7⟩ := HCC W hVW
      exact .inl ⟨_, W, by go_simp, rfl, Below.refl _ _⟩
    · obtain rfl := Option.some.inj hoo
      have q15 : uu 15 = .int .i64 (vip.toNat : Int) := hd 15 (by kernel_rfl)
      refine .inl ⟨wanted_none rfl, ?_⟩
      generalize hev : Act.eval _ = ev
      have ec : ∀ c, ev (.const c) = c := fun c => by rw [← hev]; rfl
      have e60 : ev (.tmp 60) = .int .i64 (vip.toNat : Int) := by rw [← hev]; exact (eval_put (by kernel_rfl) 88 rfl (by decide)).trans q15
      clear hev hd q15
      have hh : IntKind.u8.wrap (vip.toNat : Int) = (vip.toNat : Int) := by rw [IntKind.wrap_u8]; have := vip.toNat_lt; omega
      exact .inl ⟨_, W, by go_simp, rfl, Below.refl _ _⟩
    · obtain rfl := Option.some.inj hoo
      have q5 : uu 5 = .int .u8 (op.toNat : Int) := hd 5 (by kernel_rfl)
      have q9 : uu 9 = .int .u8 (ih.toNat : Int) := hd 9 (by kernel_rfl)
      have q13 : uu 13 = .int .u8 (il.toNat : Int) := hd 13 (by kernel_rfl)
      have q16 : uu 16 = .int .u8 (vip.toNat : Int) := hd 16 (by kernel_rfl)
      refine .inl ⟨wanted_none rfl, ?_⟩
      generalize hev : Act.eval _ = ev
      have ec : ∀ c, ev (.const c) = c := fun c => by rw [← hev]; rfl
      have e50 : ev (.tmp 50) = .int .u8 (op.toNat : Int) := by rw [← hev]; exact (eval_put (by kernel_rfl) 88 rfl (by decide)).trans q5
      have e54 : ev (.tmp 54) = .int .u8 (ih.toNat : Int) := by rw [← hev]; exact (eval_put (by kernel_rfl) 88 rfl (by decide)).trans q9
      have e58 : ev (.tmp 58) = .int .u8 (il.toNat : Int) := by rw [← hev]; exact (eval_put (by kernel_rfl) 88 rfl (by decide)).trans q13
      have e61 : ev (.tmp 61) = .int .u8 (vip.toNat : Int) := by rw [← hev]; exact (eval_put (by kernel_rfl) 88 rfl (by decide)).trans q16
      clear hev hd q5 q9 q13 q16
      exact .inl ⟨_, W.alloc (.cells #[.int .u8 (op.toNat : Int), .int .u8 (ih.toNat : Int), .int .u8 (il.toNat : Int), .int .u8 (vip.toNat : Int)] 5), by go_simp, ⟨_, rfl, lit_at W _ [op, ih, il, vip] rfl #[.int .u8 (op.toNat : Int), .int .u8 (ih.toNat : Int), .int .u8 (il.toNat : Int), .int .u8 (vip.toNat : Int)] (rfl) _ (by simp)⟩, bnextA (Below.refl _ _) _⟩
    · obtain rfl := Option.some.inj hoo
      obtain ⟨L2, A2, c2, q2, HL2, r2⟩ := hd 2 (by kernel_rfl)
      obtain ⟨A17, q17, r17⟩ := hd 17 (by kernel_rfl)
      refine .inl ⟨wanted_none rfl, ?_⟩
      generalize hev : Act.eval _ = ev
      have ec : ∀ c, ev (.const c) = c := fun c => by rw [← hev]; rfl
      have ef : ∀ f, ev (.func f) = .func (.func f) #[] #[] := fun f => by rw [← hev]; rfl
      have e47 : ev (.tmp 47) = .slice A2 L2.length c2 := by rw [← hev]; exact (eval_put (by kernel_rfl) 88 rfl (by decide)).trans q2
      have e62 : ev (.tmp 62) = .slice A17 4 4 := by rw [← hev]; exact (eval_put (by kernel_rfl) 88 rfl (by decide)).trans q17
      clear hev hd q2 q17
      exact .inr ⟨_, _, _, by go_simp, radd_row A2 A17 c2 4 L2 [op, ih, il, vip] W r2 r17 (by rw [HL2.out, b64_len]; simp), fun e w' he => by
        obtain ⟨L, A, c, rfl, HL, hr, hb⟩ := he
        exact ⟨_, rfl, ⟨L, A, c, rfl, (by rw [Hid, HL.out, HL2.out]), hr⟩, hb⟩⟩
    · obtain rfl := Option.some.inj hoo
      obtain ⟨L18, A18, c18, q18, HL18, r18⟩ := hd 18 (by kernel_rfl)
      refine .inl ⟨wanted_none rfl, ?_⟩
      generalize hev : Act.eval _ = ev
      have ec : ∀ c, ev (.const c) = c := fun c => by rw [← hev]; rfl
      have e63 : ev (.tmp 63) = .slice A18 L18.length c18 := by rw [← hev]; exact (eval_put (by kernel_rfl) 88 rfl (by decide)).trans q18
      clear hev hd q18
      exact .inl ⟨_, W, by go_simp, ⟨L18, A18, c18, rfl, HL18, r18⟩, Below.refl _ _⟩
    · simp at hoo
  · intro uu W hVW hall
    have q19 : ∃ L A c, uu 19 = .slice A L.length c ∧ Hid (L = b64 n ++ [op, ih, il, vip]) ∧ Rd bv W W.heap.size A c L := hall 19 (by decide)
    obtain ⟨L, A, c, q19, HL, r⟩ := q19
    replace hB := hB.trans (hVW.mono hB.size)
    replace K := K.next hVW
    replace KO := KO.next hVW
    obtain ⟨x0, x1, x2, x3, x4, x5, x6, x7⟩ := HCC W hVW
    clear hall HCC hVW
    simp only [putAll, Act.put, Nat.reduceAdd, q19]
    simp only [List.setIfInBounds_toArray, List.set_cons_succ, List.set_cons_zero]
    clear q19
    generalize W = V1 at *
    have hl1 : Hid (L.length = 12) := by rw [Hid, HL.out, List.length_append, b64_len]; rfl
    go_wp2_with fail
    refine (HPA _).out.mono ?_
    rintro e w2 ⟨L2, A2, c2, rfl, HL2, r2, hb⟩
    replace hB := bnext hB hb
    replace K := K.next hb
    replace KO := KO.next hb
    replace r := r.next hb
    have hl2 : Hid (L2.length = 4) := by rw [Hid, HL2.out, putN_len]
    clear hb x0 x1 x2 x3 x4 x5 x6 x7 HPA
    go_wp2_with fail
    refine (radd_row A A2 c c2 L L2 _ r r2 (by have := hl1.out; have := hl2.out; omega)).out.mono ?_
    rintro e w3 ⟨L3, A3, c3, rfl, HL3, r3, hb⟩
    replace hB := bnext hB hb
    replace K := K.next hb
    replace KO := KO.next hb
    have hl3 : Hid (L3.length = 16) := by have := hl1.out; have := hl2.out; rw [Hid, HL3.out, List.length_append]; omega
    clear hb r r2
    obtain ⟨x0, x1, x2, x3, x4, x5, x6, x7, -⟩ := KO.get8
    obtain ⟨hi1, hi2⟩ := HJ ()
    have hw1 : IntKind.u8.wrap (ph.toNat : Int) = (ph.toNat : Int) := by rw [IntKind.wrap_u8]; have := ph.toNat_lt; omega
    have hw4 : IntKind.u16.wrap (ph.toNat : Int) = (ph.toNat : Int) := by rw [IntKind.wrap_u16]; have := ph.toNat_lt; omega
    have hw5 : (ph.toNat : Int) % 256 = (ph.toNat : Int) := by have := ph.toNat_lt; omega
    have hw2 : IntKind.u8.wrap (pl.toNat : Int) = (pl.toNat : Int) := by rw [IntKind.wrap_u8]; have := pl.toNat_lt; omega
    have hw3 : IntKind.u8.wrap (num.toNat : Int) = (num.toNat : Int) := by rw [IntKind.wrap_u8]; have := num.toNat_lt; omega
    go_wp2_with fail
    clear x0 x1 x2 x3 x4 x5 x6 x7 hi1 hi2 hw1 hw2 hw3 hw4 hw5
    refine (radd_row A3 (some ⟨w3.heap.size, 0, none⟩) c3 4 L3 [ph, pl, pr, num] _ (r3.nextA _) (lit_at w3 w3.heap.size [ph, pl, pr, num] rfl #[.int .u8 (ph.toNat : Int), .int .u8 (pl.toNat : Int), .int .u8 (pr.toNat : Int), .int .u8 (num.toNat : Int)] rfl 5 (by simp)) (by have := hl3.out; simp; omega)).out.mono ?_
    rintro e w4 ⟨L4, A4, c4, rfl, HL4, r4, hb⟩
    replace hB := bnext (bnextA hB _) hb
    replace K := (K.alloc _).next hb
    have hl4 : Hid (L4.length = 20) := by have := hl3.out; rw [Hid, HL4.out, List.length_append]; simp; omega
    clear hb KO
    obtain ⟨z0, z1, -⟩ := K.get2
    go_wp2_with fail
    refine (rsigned_any lo hi h1 h2 A4 c4 L4 _ r4 (by have := hl4.out; omega)).mono ?_
    rintro e w5 ⟨L5, A5, c5, rfl, HL5, r5, hb⟩
    go_wp2_with fail
    go_ret2
    exact ⟨L5, A5, c5, rfl, by rw [Hid, HL5.out, HL4.out, HL3.out, HL2.out, HL.out, ← HE.out], r5, bnext hB hb⟩
end
end Go.Proofs.Ytggcomociojfoaa
