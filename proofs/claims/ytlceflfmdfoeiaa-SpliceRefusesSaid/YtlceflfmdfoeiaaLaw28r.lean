/- The walk of the statement that bytes that are no segment are refused. -/
import Derived.Test.YtlceflfmdfoeiaaSpl6
namespace Go.Proofs.Ytlceflfmdfoeiaa
open Go.RowKit

theorem s_u16 (xs : List UInt8) (k : Nat) (h : k + 2 ≤ xs.length) : ∃ a : UInt16, beN ((xs.drop k).take 2) = a.toNat := by
  refine ⟨UInt16.ofNat (beN ((xs.drop k).take 2)), ?_⟩
  rw [UInt16.ofNat_id]
  rw [take_two xs k h, beN_two]
  have := (xs[k]).toNat_lt
  have := (xs[k + 1]).toNat_lt
  omega
theorem s_u32 (xs : List UInt8) (k : Nat) : ∃ a : UInt32, beN ((xs.drop k).take 4) = a.toNat := by
  refine ⟨UInt32.ofNat (beN ((xs.drop k).take 4)), ?_⟩
  have := beN_lt ((xs.drop k).take 4)
  simp
  omega

set_option maxHeartbeats 4000000 in
theorem refuses_bad (s d : UInt32) (ts td : UInt32) (tp tp2 : UInt16) (tq tk : UInt32) (er : Int) (he : ((er : Int) != 0) = true) (a0 : Option Addr) (len0 cap0 : Nat) (B : List UInt8) (w : World) (ha : Rd bv w w.heap.size a0 cap0 B)
    (HFa : ∀ W, Hid (Calls Try.prog 11 #[.slice a0 len0 cap0, .int .i64 200] W fun e w' => e = .returned (.slice a0 B.length cap0) ∧ W = w'))
    (HB : ∀ W, Rd bv W W.heap.size a0 cap0 B → Hid (Calls Try.prog 8 #[.int .u32 (s.toNat : Int), .int .u32 (d.toNat : Int), .slice a0 B.length cap0, .agg #[.int .u32 (ts.toNat : Int), .int .u32 (td.toNat : Int), .int .u16 (tp.toNat : Int), .int .u16 (tp2.toNat : Int), .int .u32 (tq.toNat : Int), .int .u32 (tk.toNat : Int)]] W fun e w' => e = .returned (.tuple #[.slice none 0 0, .int .i64 er]) ∧ Below W.heap.size W w'))
    (HR : ∀ W, Rd bv W W.heap.size a0 cap0 B → Hid (Calls Try.prog 12 #[.int .u32 (s.toNat : Int), .int .u32 (d.toNat : Int), .slice a0 B.length cap0] W fun e w' => e = .returned (.tuple #[.agg #[.int .u16 0, .int .u16 0, .int .u32 0, .int .u32 0, .int .u8 0, .int .u8 0, .int .u16 0, .int .u16 0, .slice none 0 0, .slice none 0 0], .int .i64 er]) ∧ Below W.heap.size W w')) :
    Calls Try.prog 4 #[.int .u32 (s.toNat : Int), .int .u32 (d.toNat : Int), .slice a0 len0 cap0, .agg #[.int .u32 (ts.toNat : Int), .int .u32 (td.toNat : Int), .int .u16 (tp.toNat : Int), .int .u16 (tp2.toNat : Int), .int .u32 (tq.toNat : Int), .int .u32 (tk.toNat : Int)]] w fun e w' => e = .returned (.bool true) ∧ Below w.heap.size w w' := by
  go_enter Try.func4, Try.ntmps4
  go_wp2_with fail
  refine (HFa _).out.mono ?_
  rintro e w_1 ⟨rfl, rfl⟩
  have hB := bnextA (Below.refl w.heap.size w) (.cells #[.int .u32 (ts.toNat : Int), .int .u32 (td.toNat : Int), .int .u16 (tp.toNat : Int), .int .u16 (tp2.toNat : Int), .int .u32 (tq.toNat : Int), .int .u32 (tk.toNat : Int)] 28)
  have KT := Blk.new w #[.int .u32 (ts.toNat : Int), .int .u32 (td.toNat : Int), .int .u16 (tp.toNat : Int), .int .u16 (tp2.toNat : Int), .int .u32 (tq.toNat : Int), .int .u32 (tk.toNat : Int)] 28
  replace ha := ha.nextA (.cells #[.int .u32 (ts.toNat : Int), .int .u32 (td.toNat : Int), .int .u16 (tp.toNat : Int), .int .u16 (tp2.toNat : Int), .int .u32 (tq.toNat : Int), .int .u32 (tk.toNat : Int)] 28)
  obtain ⟨p0, p1, p2, p3, p4, p5, -⟩ := KT.get6
  go_wp2_with fail
  refine (HB _ ha).out.mono ?_
  rintro e w2 ⟨rfl, hbel⟩
  replace hB := bnext hB hbel
  replace ha := ha.next hbel
  clear hbel HB p0 p1 p2 p3 p4 p5 KT
  go_wp2_with fail
  refine (HR _ ha).out.mono ?_
  rintro e w3 ⟨rfl, hbel⟩
  replace hB := bnextA (bnext hB hbel) (.cells #[.int .u16 0, .int .u16 0, .int .u32 0, .int .u32 0, .int .u8 0, .int .u8 0, .int .u16 0, .int .u16 0, .slice none 0 0, .slice none 0 0] 26)
  clear hbel HR ha
  go_wp2_with fail
  refine (lives28_any _).mono ?_
  rintro e wl ⟨rfl, hbel⟩
  replace hB := bnext hB hbel
  go_wp2_with fail
  go_ret
  exact ⟨rfl, hB⟩

theorem out_is (tp tp2 : UInt16) (q2 k2 : UInt32) (n : UInt16) (B L : List UInt8) (h20 : 20 ≤ B.length) (hL : L = ((puts16 [tp, tp2] ++ (puts32 [q2, k2] ++ B.drop 12)).set 16 (UInt8.ofNat (n.toNat / 256))).set (16 + 1) (UInt8.ofNat (n.toNat % 256))) :
    ∃ y0 y1 y2 y3 y4 y5 y6 y7, B = B.take 12 ++ ([y0, y1, y2, y3, y4, y5, y6, y7] ++ B.drop 20) ∧ L = be16 tp ++ (be16 tp2 ++ (be32 q2 ++ (be32 k2 ++ ([y0, y1, y2, y3, UInt8.ofNat (n.toNat / 256), UInt8.ofNat (n.toNat % 256), y6, y7] ++ B.drop 20)))) := by
  have h : B.drop 12 = [B[12], B[13], B[14], B[15], B[16], B[17], B[18], B[19]] ++ B.drop 20 := by
    apply List.ext_getElem
    · simp <;> omega
    · intro i h1 h2
      rw [List.getElem_drop]
      by_cases hi : i < 8
      · rw [List.getElem_append_left (by simpa using hi)]
        rcases i with _|_|_|_|_|_|_|_|i
        all_goals first | rfl | omega
      · rw [List.getElem_append_right (by simp; omega), List.getElem_drop]
        congr 1
        simp
        omega
  obtain ⟨y0, y1, y2, y3, y4, y5, y6, y7, h⟩ : ∃ y0 y1 y2 y3 y4 y5 y6 y7, B.drop 12 = [y0, y1, y2, y3, y4, y5, y6, y7] ++ B.drop 20 := ⟨_, _, _, _, _, _, _, _, h⟩
  refine ⟨y0, y1, y2, y3, y4, y5, y6, y7, ?_, ?_⟩
  · rw [← h, List.take_append_drop]
  · rw [hL, h]
    simp [puts16, puts32, be16, be32]
theorem out_facts (tp tp2 : UInt16) (q2 k2 : UInt32) (n : UInt16) (B L : List UInt8) (h20 : 20 ≤ B.length) (hL : L = ((puts16 [tp, tp2] ++ (puts32 [q2, k2] ++ B.drop 12)).set 16 (UInt8.ofNat (n.toNat / 256))).set (16 + 1) (UInt8.ofNat (n.toNat % 256))) :
    L.length = B.length ∧ beN ((L.drop 0).take 2) = tp.toNat ∧ beN ((L.drop 2).take 2) = tp2.toNat ∧ beN ((L.drop 4).take 4) = q2.toNat ∧ beN ((L.drop 8).take 4) = k2.toNat ∧ (∀ (h : 12 < L.length) (h' : 12 < B.length), L[12] = B[12]) ∧ (∀ (h : 13 < L.length) (h' : 13 < B.length), L[13] = B[13]) ∧ (L.drop 14).take 2 = (B.drop 14).take 2 ∧ (L.drop 18).take 2 = (B.drop 18).take 2 ∧ L.drop 20 = B.drop 20 := by
  obtain ⟨y0, y1, y2, y3, y4, y5, y6, y7, hB, hL⟩ := out_is tp tp2 q2 k2 n B L h20 hL
  have ht : (B.take 12).length = 12 := by simp; omega
  have hlen : L.length = B.length := by rw [hL]; simp [be16, be32]; omega
  have e16 : ∀ x : UInt16, beN (be16 x) = x.toNat := fun x => by
    have := x.toNat_lt
    rw [be16, beN_two]; simp; omega
  have e32 : ∀ x : UInt32, beN (be32 x) = x.toNat := fun x => by
    have := x.toNat_lt
    rw [be32, beN_four]; simp; omega
  have hd : ∀ k, k ≤ 8 → B.drop (12 + k) = ([y0, y1, y2, y3, y4, y5, y6, y7] ++ B.drop 20).drop k := fun k hk => by
    conv => lhs; rw [hB]
    rw [← List.drop_drop, List.drop_left' ht]
  refine ⟨hlen, ?_, ?_, ?_, ?_, ?_, ?_, ?_, ?_, ?_⟩
  · rw [hL]; exact e16 tp
  · rw [hL]; exact e16 tp2
  · rw [hL]; exact e32 q2
  · rw [hL]; exact e32 k2
  · intro h h'
    have h1 : L[12] = y0 := (List.getElem_of_eq hL _).trans rfl
    have h2 : (B.drop 12)[0]'(by simp; omega) = y0 := by
      have := hd 0 (by omega)
      exact (List.getElem_of_eq this _).trans rfl
    rw [List.getElem_drop] at h2
    rw [h1, ← h2]
  · intro h h'
    have h1 : L[13] = y1 := (List.getElem_of_eq hL _).trans rfl
    have h2 : (B.drop 12)[1]'(by simp; omega) = y1 := by
      have := hd 0 (by omega)
      exact (List.getElem_of_eq this _).trans rfl
    rw [List.getElem_drop] at h2
    rw [h1, ← h2]
  · rw [hd 2 (by omega), hL]; rfl
  · rw [hd 6 (by omega), hL]; rfl
  · rw [hL]; rfl

set_option maxHeartbeats 16000000 in
set_option maxRecDepth 20000 in
theorem refuses_ok (s d : UInt32) (ts td : UInt32) (tp tp2 : UInt16) (tq tk : UInt32) (a b : UInt16) (q k : UInt32) (r f : UInt8) (z u : UInt16) (q2 k2 : UInt32) (Q1 Q2 : List UInt8) (QL : List UInt8 → Prop) (a0 : Option Addr) (len0 cap0 : Nat) (B : List UInt8) (w : World) (ha : Rd bv w w.heap.size a0 cap0 B)
    (HFa : ∀ W, Hid (Calls Try.prog 11 #[.slice a0 len0 cap0, .int .i64 200] W fun e w' => e = .returned (.slice a0 B.length cap0) ∧ W = w'))
    (HB : ∀ W, Rd bv W W.heap.size a0 cap0 B → Hid (Calls Try.prog 8 #[.int .u32 (s.toNat : Int), .int .u32 (d.toNat : Int), .slice a0 B.length cap0, .agg #[.int .u32 (ts.toNat : Int), .int .u32 (td.toNat : Int), .int .u16 (tp.toNat : Int), .int .u16 (tp2.toNat : Int), .int .u32 (tq.toNat : Int), .int .u32 (tk.toNat : Int)]] W fun e w' => ∃ (L : List UInt8) (A1 : Option Addr) (c1 : Nat), e = .returned (.tuple #[.slice A1 L.length c1, .int .i64 0]) ∧ Hid (QL L) ∧ Rd bv w' w'.heap.size A1 c1 L ∧ Below W.heap.size W w'))
    (HR : ∀ W, Rd bv W W.heap.size a0 cap0 B → Hid (Calls Try.prog 12 #[.int .u32 (s.toNat : Int), .int .u32 (d.toNat : Int), .slice a0 B.length cap0] W fun e w' => ∃ (L1 : List UInt8) (A1 : Option Addr) (c1 : Nat) (L2 : List UInt8) (A2 : Option Addr) (c2 : Nat), e = .returned (.tuple #[.agg #[.int .u16 (a.toNat : Int), .int .u16 (b.toNat : Int), .int .u32 (q.toNat : Int), .int .u32 (k.toNat : Int), .int .u8 (r.toNat : Int), .int .u8 (f.toNat : Int), .int .u16 (z.toNat : Int), .int .u16 (u.toNat : Int), .slice A1 L1.length c1, .slice A2 L2.length c2], .int .i64 0]) ∧ Hid (L1 = Q1) ∧ Hid (L2 = Q2) ∧ Rd bv w' w'.heap.size A1 c1 L1 ∧ Rd bv w' w'.heap.size A2 c2 L2 ∧ Below W.heap.size W w'))
    (HO : ∀ L A c W, Hid (QL L) → Rd bv W W.heap.size A c L → Hid (L.length = B.length) ∧ ((∃ er : Int, ((er : Int) != 0) = true ∧ Hid (Calls Try.prog 12 #[.int .u32 (ts.toNat : Int), .int .u32 (td.toNat : Int), .slice A L.length c] W fun e w' => e = .returned (.tuple #[.agg #[.int .u16 0, .int .u16 0, .int .u32 0, .int .u32 0, .int .u8 0, .int .u8 0, .int .u16 0, .int .u16 0, .slice none 0 0, .slice none 0 0], .int .i64 er]) ∧ Below W.heap.size W w')) ∨ Hid (Calls Try.prog 12 #[.int .u32 (ts.toNat : Int), .int .u32 (td.toNat : Int), .slice A L.length c] W fun e w' => ∃ (L1r : List UInt8) (A1r : Option Addr) (c1r : Nat) (L2r : List UInt8) (A2r : Option Addr) (c2r : Nat), e = .returned (.tuple #[.agg #[.int .u16 (tp.toNat : Int), .int .u16 (tp2.toNat : Int), .int .u32 (q2.toNat : Int), .int .u32 (k2.toNat : Int), .int .u8 (r.toNat : Int), .int .u8 (f.toNat : Int), .int .u16 (z.toNat : Int), .int .u16 (u.toNat : Int), .slice A1r L1r.length c1r, .slice A2r L2r.length c2r], .int .i64 0]) ∧ Hid (L1r = Q1) ∧ Hid (L2r = Q2) ∧ Rd bv w' w'.heap.size A1r c1r L1r ∧ Rd bv w' w'.heap.size A2r c2r L2r ∧ Below W.heap.size W w')))
    (HAP : ∀ W (A1 A2 : Option Addr) (c1 c2 : Nat) (L1 L2 : List UInt8), Hid (Calls Try.prog 9 #[.int .u16 (tp.toNat : Int), .int .u16 (tp2.toNat : Int), .int .u32 (tq.toNat : Int), .int .u32 (tk.toNat : Int), .agg #[.int .u16 (a.toNat : Int), .int .u16 (b.toNat : Int), .int .u32 (q.toNat : Int), .int .u32 (k.toNat : Int), .int .u8 (r.toNat : Int), .int .u8 (f.toNat : Int), .int .u16 (z.toNat : Int), .int .u16 (u.toNat : Int), .slice A1 L1.length c1, .slice A2 L2.length c2]] W fun e w' => e = .returned (.agg #[.int .u16 (tp.toNat : Int), .int .u16 (tp2.toNat : Int), .int .u32 (q2.toNat : Int), .int .u32 (k2.toNat : Int), .int .u8 (r.toNat : Int), .int .u8 (f.toNat : Int), .int .u16 (z.toNat : Int), .int .u16 (u.toNat : Int), .slice A1 L1.length c1, .slice A2 L2.length c2]) ∧ Below W.heap.size W w')) :
    Calls Try.prog 4 #[.int .u32 (s.toNat : Int), .int .u32 (d.toNat : Int), .slice a0 len0 cap0, .agg #[.int .u32 (ts.toNat : Int), .int .u32 (td.toNat : Int), .int .u16 (tp.toNat : Int), .int .u16 (tp2.toNat : Int), .int .u32 (tq.toNat : Int), .int .u32 (tk.toNat : Int)]] w fun e w' => e = .returned (.bool true) ∧ Below w.heap.size w w' := by
  go_enter Try.func4, Try.ntmps4
  go_wp2_with fail
  refine (HFa _).out.mono ?_
  rintro e w_1 ⟨rfl, rfl⟩
  have hB := bnextA (Below.refl w.heap.size w) (.cells #[.int .u32 (ts.toNat : Int), .int .u32 (td.toNat : Int), .int .u16 (tp.toNat : Int), .int .u16 (tp2.toNat : Int), .int .u32 (tq.toNat : Int), .int .u32 (tk.toNat : Int)] 28)
  have KT := Blk.new w #[.int .u32 (ts.toNat : Int), .int .u32 (td.toNat : Int), .int .u16 (tp.toNat : Int), .int .u16 (tp2.toNat : Int), .int .u32 (tq.toNat : Int), .int .u32 (tk.toNat : Int)] 28
  replace ha := ha.nextA (.cells #[.int .u32 (ts.toNat : Int), .int .u32 (td.toNat : Int), .int .u16 (tp.toNat : Int), .int .u16 (tp2.toNat : Int), .int .u32 (tq.toNat : Int), .int .u32 (tk.toNat : Int)] 28)
  obtain ⟨p0, p1, p2, p3, p4, p5, -⟩ := KT.get6
  go_wp2_with fail
  refine (HB _ ha).out.mono ?_
  rintro e w2 ⟨L9, A9, c9, rfl, HL9, r9, hbel⟩
  replace hB := bnext hB hbel
  replace ha := ha.next hbel
  replace KT := KT.next hbel
  clear hbel HB p0 p1 p2 p3 p4 p5
  go_wp2_with fail
  refine (HR _ ha).out.mono ?_
  rintro e w3 ⟨L1, A1, c1, L2, A2, c2, rfl, HL1, HL2, r1, r2, hbel⟩
  replace hB := bnextA (bnext hB hbel) (.cells #[.int .u16 (a.toNat : Int), .int .u16 (b.toNat : Int), .int .u32 (q.toNat : Int), .int .u32 (k.toNat : Int), .int .u8 (r.toNat : Int), .int .u8 (f.toNat : Int), .int .u16 (z.toNat : Int), .int .u16 (u.toNat : Int), .slice A1 L1.length c1, .slice A2 L2.length c2] 26)
  replace KT := (KT.next hbel).alloc (.cells #[.int .u16 (a.toNat : Int), .int .u16 (b.toNat : Int), .int .u32 (q.toNat : Int), .int .u32 (k.toNat : Int), .int .u8 (r.toNat : Int), .int .u8 (f.toNat : Int), .int .u16 (z.toNat : Int), .int .u16 (u.toNat : Int), .slice A1 L1.length c1, .slice A2 L2.length c2] 26)
  replace r9 := (r9.next hbel).nextA (.cells #[.int .u16 (a.toNat : Int), .int .u16 (b.toNat : Int), .int .u32 (q.toNat : Int), .int .u32 (k.toNat : Int), .int .u8 (r.toNat : Int), .int .u8 (f.toNat : Int), .int .u16 (z.toNat : Int), .int .u16 (u.toNat : Int), .slice A1 L1.length c1, .slice A2 L2.length c2] 26)
  replace r1 := r1.nextA (.cells #[.int .u16 (a.toNat : Int), .int .u16 (b.toNat : Int), .int .u32 (q.toNat : Int), .int .u32 (k.toNat : Int), .int .u8 (r.toNat : Int), .int .u8 (f.toNat : Int), .int .u16 (z.toNat : Int), .int .u16 (u.toNat : Int), .slice A1 L1.length c1, .slice A2 L2.length c2] 26)
  replace r2 := r2.nextA (.cells #[.int .u16 (a.toNat : Int), .int .u16 (b.toNat : Int), .int .u32 (q.toNat : Int), .int .u32 (k.toNat : Int), .int .u8 (r.toNat : Int), .int .u8 (f.toNat : Int), .int .u16 (z.toNat : Int), .int .u16 (u.toNat : Int), .slice A1 L1.length c1, .slice A2 L2.length c2] 26)
  have KM := Blk.new w3 #[.int .u16 (a.toNat : Int), .int .u16 (b.toNat : Int), .int .u32 (q.toNat : Int), .int .u32 (k.toNat : Int), .int .u8 (r.toNat : Int), .int .u8 (f.toNat : Int), .int .u16 (z.toNat : Int), .int .u16 (u.toNat : Int), .slice A1 L1.length c1, .slice A2 L2.length c2] 26
  clear hbel HR ha
  obtain ⟨p0, p1, p2, p3, p4, p5, -⟩ := KT.get6
  go_wp2_with fail
  clear p0 p1 p2 p3 p4 p5
  generalize w3.heap.size = gm at *
  generalize w3.alloc (.cells #[.int .u16 (a.toNat : Int), .int .u16 (b.toNat : Int), .int .u32 (q.toNat : Int), .int .u32 (k.toNat : Int), .int .u8 (r.toNat : Int), .int .u8 (f.toNat : Int), .int .u16 (z.toNat : Int), .int .u16 (u.toNat : Int), .slice A1 L1.length c1, .slice A2 L2.length c2] 26) = V3 at *
  obtain ⟨HLB, ⟨er, he, HX⟩ | HX⟩ := HO _ _ _ _ HL9 r9
  · clear HO HAP r9 HL9
    refine HX.out.mono ?_
    rintro e w4 ⟨rfl, hbel⟩
    replace hB := bnextA (bnext hB hbel) (.cells #[.int .u16 0, .int .u16 0, .int .u32 0, .int .u32 0, .int .u8 0, .int .u8 0, .int .u16 0, .int .u16 0, .slice none 0 0, .slice none 0 0] 26)
    replace KT := (KT.next hbel).alloc (.cells #[.int .u16 0, .int .u16 0, .int .u32 0, .int .u32 0, .int .u8 0, .int .u8 0, .int .u16 0, .int .u16 0, .slice none 0 0, .slice none 0 0] 26)
    replace KM := (KM.next hbel).alloc (.cells #[.int .u16 0, .int .u16 0, .int .u32 0, .int .u32 0, .int .u8 0, .int .u8 0, .int .u16 0, .int .u16 0, .slice none 0 0, .slice none 0 0] 26)
    replace r1 := (r1.next hbel).nextA (.cells #[.int .u16 0, .int .u16 0, .int .u32 0, .int .u32 0, .int .u8 0, .int .u8 0, .int .u16 0, .int .u16 0, .slice none 0 0, .slice none 0 0] 26)
    replace r2 := (r2.next hbel).nextA (.cells #[.int .u16 0, .int .u16 0, .int .u32 0, .int .u32 0, .int .u8 0, .int .u8 0, .int .u16 0, .int .u16 0, .slice none 0 0, .slice none 0 0] 26)
    clear hbel HX
    go_wp2_with fail
    generalize w4.heap.size = gx at *
    generalize w4.alloc (.cells #[.int .u16 0, .int .u16 0, .int .u32 0, .int .u32 0, .int .u8 0, .int .u8 0, .int .u16 0, .int .u16 0, .slice none 0 0, .slice none 0 0] 26) = V4 at *
    have HS : ∀ W, Below V4.heap.size V4 W → (W.cell? ⟨w.heap.size, 2, none⟩ = some (.int .u16 (tp.toNat : Int)) ∧ W.cell? ⟨w.heap.size, 3, none⟩ = some (.int .u16 (tp2.toNat : Int)) ∧ W.cell? ⟨w.heap.size, 4, none⟩ = some (.int .u32 (tq.toNat : Int)) ∧ W.cell? ⟨w.heap.size, 5, none⟩ = some (.int .u32 (tk.toNat : Int))) := fun W h => ⟨(KT.next h).cell 2, (KT.next h).cell 3, (KT.next h).cell 4, (KT.next h).cell 5⟩
    clear KT
    refine region_put (by kernel_rfl) (by kernel_rfl) (by kernel_rfl) 84 rfl (by kernel_rfl) V4 (fun i v W => match i with
        | 0 => v = .int .i64 0
        | 1 => v = .bool true
        | 2 => v = .bool true
        | 3 => v = .slice A9 L9.length c9
        | 4 => v = .int .i64 (L9.length : Int)
        | 5 => v = .slice a0 B.length cap0
        | 6 => v = .int .i64 (B.length : Int)
        | 7 => v = .bool true
        | 8 => v = .bool true
        | 9 => v = .bool true
        | 10 => v = .int .i64 er
        | 11 => v = .bool true
        | 12 => v = .bool true
        | 13 => v = undef
        | 14 => v = undef
        | 15 => v = undef
        | 16 => v = undef
        | 17 => v = undef
        | 18 => v = undef
        | 19 => v = undef
        | 20 => v = undef
        | 21 => v = undef
        | 22 => v = undef
        | 23 => v = undef
        | 24 => v = undef
        | 25 => v = .bool true
        | 26 => v = .bool true
        | 27 => v = .bool true
        | 28 => v = .bool true
        | 29 => v = .bool true
        | 30 => v = .bool true
        | _ => True) (Below.refl _ _) ?_ ?_ ?_
    · intro i v W W' h hb
      match i, h with
      | 0, h => exact h
      | 1, h => exact h
      | 2, h => exact h
      | 3, h => exact h
      | 4, h => exact h
      | 5, h => exact h
      | 6, h => exact h
      | 7, h => exact h
      | 8, h => exact h
      | 9, h => exact h
      | 10, h => exact h
      | 11, h => exact h
      | 12, h => exact h
      | 13, h => exact h
      | 14, h => exact h
      | 15, h => exact h
      | 16, h => exact h
      | 17, h => exact h
      | 18, h => exact h
      | 19, h => exact h
      | 20, h => exact h
      | 21, h => exact h
      | 22, h => exact h
      | 23, h => exact h
      | 24, h => exact h
      | 25, h => exact h
      | 26, h => exact h
      | 27, h => exact h
      | 28, h => exact h
      | 29, h => exact h
      | 30, h => exact h
      | _ + 31, _ => trivial
    · intro i o uu W hoo hVW hd
      rcases i with _|_|_|_|_|_|_|_|_|_|_|_|_|_|_|_|_|_|_|_|_|_|_|_|_|_|_|_|_|_|_|i
      · obtain rfl := Option.some.inj hoo
        refine .inl ⟨wanted_none rfl, ?_⟩
        generalize hev : Act.eval _ = ev
        have ec : ∀ c, ev (.const c) = c := fun c => by rw [← hev]; rfl
        have e10 : ev (.tmp 10) = .int .i64 0 := by rw [← hev]; exact eval_old (by kernel_rfl) 84 rfl (by decide) rfl
        clear hev hd
        exact .inl ⟨_, W, by go_simp, rfl, Below.refl _ _⟩
      · obtain rfl := Option.some.inj hoo
        have q0 : uu 0 = .int .i64 0 := hd 0 (by kernel_rfl)
        refine .inl ⟨wanted_none rfl, ?_⟩
        generalize hev : Act.eval _ = ev
        have ec : ∀ c, ev (.const c) = c := fun c => by rw [← hev]; rfl
        have e54 : ev (.tmp 54) = .int .i64 0 := by rw [← hev]; exact (eval_put (by kernel_rfl) 84 rfl (by decide)).trans q0
        clear hev hd q0
        exact .inl ⟨_, W, by go_simp, rfl, Below.refl _ _⟩
      · obtain rfl := Option.some.inj hoo
        have q1 : uu 1 = .bool true := hd 1 (by kernel_rfl)
        refine .inl ⟨wanted_none rfl, ?_⟩
        generalize hev : Act.eval _ = ev
        have ec : ∀ c, ev (.const c) = c := fun c => by rw [← hev]; rfl
        have e55 : ev (.tmp 55) = .bool true := by rw [← hev]; exact (eval_put (by kernel_rfl) 84 rfl (by decide)).trans q1
        clear hev hd q1
        exact .inl ⟨_, W, by go_simp, rfl, Below.refl _ _⟩
      · obtain rfl := Option.some.inj hoo
        have q2 : uu 2 = .bool true := hd 2 (by kernel_rfl)
        refine .inl ⟨wanted_yes rfl (yielded_put (k := 56) (by kernel_rfl) (by kernel_rfl) 84 rfl (by decide) q2), ?_⟩
        generalize hev : Act.eval _ = ev
        have ec : ∀ c, ev (.const c) = c := fun c => by rw [← hev]; rfl
        have e9 : ev (.tmp 9) = .slice A9 L9.length c9 := by rw [← hev]; exact eval_old (by kernel_rfl) 84 rfl (by decide) rfl
        clear hev hd q2
        exact .inl ⟨_, W, by go_simp, rfl, Below.refl _ _⟩
      · obtain rfl := Option.some.inj hoo
        have q3 : uu 3 = .slice A9 L9.length c9 := hd 3 (by kernel_rfl)
        have q2 : uu 2 = .bool true := hd 2 (by kernel_rfl)
        refine .inl ⟨wanted_yes rfl (yielded_put (k := 56) (by kernel_rfl) (by kernel_rfl) 84 rfl (by decide) q2), ?_⟩
        generalize hev : Act.eval _ = ev
        have ec : ∀ c, ev (.const c) = c := fun c => by rw [← hev]; rfl
        have e57 : ev (.tmp 57) = .slice A9 L9.length c9 := by rw [← hev]; exact (eval_put (by kernel_rfl) 84 rfl (by decide)).trans q3
        clear hev hd q3 q2
        exact .inl ⟨_, W, by go_simp, rfl, Below.refl _ _⟩
      · obtain rfl := Option.some.inj hoo
        have q2 : uu 2 = .bool true := hd 2 (by kernel_rfl)
        refine .inl ⟨wanted_yes rfl (yielded_put (k := 56) (by kernel_rfl) (by kernel_rfl) 84 rfl (by decide) q2), ?_⟩
        generalize hev : Act.eval _ = ev
        have ec : ∀ c, ev (.const c) = c := fun c => by rw [← hev]; rfl
        have e2 : ev (.tmp 2) = .slice a0 B.length cap0 := by rw [← hev]; exact eval_old (by kernel_rfl) 84 rfl (by decide) rfl
        clear hev hd q2
        exact .inl ⟨_, W, by go_simp, rfl, Below.refl _ _⟩
      · obtain rfl := Option.some.inj hoo
        have q5 : uu 5 = .slice a0 B.length cap0 := hd 5 (by kernel_rfl)
        have q2 : uu 2 = .bool true := hd 2 (by kernel_rfl)
        refine .inl ⟨wanted_yes rfl (yielded_put (k := 56) (by kernel_rfl) (by kernel_rfl) 84 rfl (by decide) q2), ?_⟩
        generalize hev : Act.eval _ = ev
        have ec : ∀ c, ev (.const c) = c := fun c => by rw [← hev]; rfl
        have e59 : ev (.tmp 59) = .slice a0 B.length cap0 := by rw [← hev]; exact (eval_put (by kernel_rfl) 84 rfl (by decide)).trans q5
        clear hev hd q5 q2
        exact .inl ⟨_, W, by go_simp, rfl, Below.refl _ _⟩
      · obtain rfl := Option.some.inj hoo
        have q4 : uu 4 = .int .i64 (L9.length : Int) := hd 4 (by kernel_rfl)
        have q6 : uu 6 = .int .i64 (B.length : Int) := hd 6 (by kernel_rfl)
        have q2 : uu 2 = .bool true := hd 2 (by kernel_rfl)
        refine .inl ⟨wanted_yes rfl (yielded_put (k := 56) (by kernel_rfl) (by kernel_rfl) 84 rfl (by decide) q2), ?_⟩
        generalize hev : Act.eval _ = ev
        have ec : ∀ c, ev (.const c) = c := fun c => by rw [← hev]; rfl
        have e58 : ev (.tmp 58) = .int .i64 (L9.length : Int) := by rw [← hev]; exact (eval_put (by kernel_rfl) 84 rfl (by decide)).trans q4
        have e60 : ev (.tmp 60) = .int .i64 (B.length : Int) := by rw [← hev]; exact (eval_put (by kernel_rfl) 84 rfl (by decide)).trans q6
        clear hev hd q4 q6 q2
        have hh := HLB.out
        have hh2 : ((L9.length : Int) == (B.length : Int)) = true := by rw [hh]; simp
        exact .inl ⟨_, W, by go_simp, rfl, Below.refl _ _⟩
      · obtain rfl := Option.some.inj hoo
        have q2 : uu 2 = .bool true := hd 2 (by kernel_rfl)
        have q7 : uu 7 = .bool true := hd 7 (by kernel_rfl)
        refine .inl ⟨wanted_none rfl, ?_⟩
        generalize hev : Act.eval _ = ev
        have ec : ∀ c, ev (.const c) = c := fun c => by rw [← hev]; rfl
        have e56 : ev (.tmp 56) = .bool true := by rw [← hev]; exact (eval_put (by kernel_rfl) 84 rfl (by decide)).trans q2
        have e61 : ev (.tmp 61) = .bool true := by rw [← hev]; exact (eval_put (by kernel_rfl) 84 rfl (by decide)).trans q7
        clear hev hd q2 q7
        exact .inl ⟨_, W, by go_simp, rfl, Below.refl _ _⟩
      · obtain rfl := Option.some.inj hoo
        have q8 : uu 8 = .bool true := hd 8 (by kernel_rfl)
        refine .inl ⟨wanted_none rfl, ?_⟩
        generalize hev : Act.eval _ = ev
        have ec : ∀ c, ev (.const c) = c := fun c => by rw [← hev]; rfl
        have e62 : ev (.tmp 62) = .bool true := by rw [← hev]; exact (eval_put (by kernel_rfl) 84 rfl (by decide)).trans q8
        clear hev hd q8
        exact .inl ⟨_, W, by go_simp, rfl, Below.refl _ _⟩
      · obtain rfl := Option.some.inj hoo
        have q9 : uu 9 = .bool true := hd 9 (by kernel_rfl)
        refine .inl ⟨wanted_yes rfl (yielded_put (k := 63) (by kernel_rfl) (by kernel_rfl) 84 rfl (by decide) q9), ?_⟩
        generalize hev : Act.eval _ = ev
        have ec : ∀ c, ev (.const c) = c := fun c => by rw [← hev]; rfl
        have e14 : ev (.tmp 14) = .int .i64 er := by rw [← hev]; exact eval_old (by kernel_rfl) 84 rfl (by decide) rfl
        clear hev hd q9
        exact .inl ⟨_, W, by go_simp, rfl, Below.refl _ _⟩
      · obtain rfl := Option.some.inj hoo
        have q10 : uu 10 = .int .i64 er := hd 10 (by kernel_rfl)
        have q9 : uu 9 = .bool true := hd 9 (by kernel_rfl)
        refine .inl ⟨wanted_yes rfl (yielded_put (k := 63) (by kernel_rfl) (by kernel_rfl) 84 rfl (by decide) q9), ?_⟩
        generalize hev : Act.eval _ = ev
        have ec : ∀ c, ev (.const c) = c := fun c => by rw [← hev]; rfl
        have e64 : ev (.tmp 64) = .int .i64 er := by rw [← hev]; exact (eval_put (by kernel_rfl) 84 rfl (by decide)).trans q10
        clear hev hd q10 q9
        exact .inl ⟨_, W, by go_simp, rfl, Below.refl _ _⟩
      · obtain rfl := Option.some.inj hoo
        have q11 : uu 11 = .bool true := hd 11 (by kernel_rfl)
        have q9 : uu 9 = .bool true := hd 9 (by kernel_rfl)
        refine .inl ⟨wanted_yes rfl (yielded_put (k := 63) (by kernel_rfl) (by kernel_rfl) 84 rfl (by decide) q9), ?_⟩
        generalize hev : Act.eval _ = ev
        have ec : ∀ c, ev (.const c) = c := fun c => by rw [← hev]; rfl
        have e65 : ev (.tmp 65) = .bool true := by rw [← hev]; exact (eval_put (by kernel_rfl) 84 rfl (by decide)).trans q11
        clear hev hd q11 q9
        exact .inl ⟨_, W, by go_simp, rfl, Below.refl _ _⟩
      · obtain rfl := Option.some.inj hoo
        have q12 : uu 12 = .bool true := hd 12 (by kernel_rfl)
        exact .inr ⟨wanted_no rfl (yielded_put (k := 66) (by kernel_rfl) (by kernel_rfl) 84 rfl (by decide) q12), rfl⟩
      · obtain rfl := Option.some.inj hoo
        have q12 : uu 12 = .bool true := hd 12 (by kernel_rfl)
        exact .inr ⟨wanted_no rfl (yielded_put (k := 66) (by kernel_rfl) (by kernel_rfl) 84 rfl (by decide) q12), rfl⟩
      · obtain rfl := Option.some.inj hoo
        have q12 : uu 12 = .bool true := hd 12 (by kernel_rfl)
        exact .inr ⟨wanted_no rfl (yielded_put (k := 66) (by kernel_rfl) (by kernel_rfl) 84 rfl (by decide) q12), rfl⟩
      · obtain rfl := Option.some.inj hoo
        have q12 : uu 12 = .bool true := hd 12 (by kernel_rfl)
        exact .inr ⟨wanted_no rfl (yielded_put (k := 66) (by kernel_rfl) (by kernel_rfl) 84 rfl (by decide) q12), rfl⟩
      · obtain rfl := Option.some.inj hoo
        have q12 : uu 12 = .bool true := hd 12 (by kernel_rfl)
        exact .inr ⟨wanted_no rfl (yielded_put (k := 66) (by kernel_rfl) (by kernel_rfl) 84 rfl (by decide) q12), rfl⟩
      · obtain rfl := Option.some.inj hoo
        have q12 : uu 12 = .bool true := hd 12 (by kernel_rfl)
        exact .inr ⟨wanted_no rfl (yielded_put (k := 66) (by kernel_rfl) (by kernel_rfl) 84 rfl (by decide) q12), rfl⟩
      · obtain rfl := Option.some.inj hoo
        have q12 : uu 12 = .bool true := hd 12 (by kernel_rfl)
        exact .inr ⟨wanted_no rfl (yielded_put (k := 66) (by kernel_rfl) (by kernel_rfl) 84 rfl (by decide) q12), rfl⟩
      · obtain rfl := Option.some.inj hoo
        have q12 : uu 12 = .bool true := hd 12 (by kernel_rfl)
        exact .inr ⟨wanted_no rfl (yielded_put (k := 66) (by kernel_rfl) (by kernel_rfl) 84 rfl (by decide) q12), rfl⟩
      · obtain rfl := Option.some.inj hoo
        have q12 : uu 12 = .bool true := hd 12 (by kernel_rfl)
        exact .inr ⟨wanted_no rfl (yielded_put (k := 66) (by kernel_rfl) (by kernel_rfl) 84 rfl (by decide) q12), rfl⟩
      · obtain rfl := Option.some.inj hoo
        have q12 : uu 12 = .bool true := hd 12 (by kernel_rfl)
        exact .inr ⟨wanted_no rfl (yielded_put (k := 66) (by kernel_rfl) (by kernel_rfl) 84 rfl (by decide) q12), rfl⟩
      · obtain rfl := Option.some.inj hoo
        have q12 : uu 12 = .bool true := hd 12 (by kernel_rfl)
        exact .inr ⟨wanted_no rfl (yielded_put (k := 66) (by kernel_rfl) (by kernel_rfl) 84 rfl (by decide) q12), rfl⟩
      · obtain rfl := Option.some.inj hoo
        have q12 : uu 12 = .bool true := hd 12 (by kernel_rfl)
        exact .inr ⟨wanted_no rfl (yielded_put (k := 66) (by kernel_rfl) (by kernel_rfl) 84 rfl (by decide) q12), rfl⟩
      · obtain rfl := Option.some.inj hoo
        have q12 : uu 12 = .bool true := hd 12 (by kernel_rfl)
        have q9 : uu 9 = .bool true := hd 9 (by kernel_rfl)
        refine .inl ⟨wanted_yes rfl (yielded_put (k := 63) (by kernel_rfl) (by kernel_rfl) 84 rfl (by decide) q9), ?_⟩
        generalize hev : Act.eval _ = ev
        have ec : ∀ c, ev (.const c) = c := fun c => by rw [← hev]; rfl
        have e66 : ev (.tmp 66) = .bool true := by rw [← hev]; exact (eval_put (by kernel_rfl) 84 rfl (by decide)).trans q12
        clear hev hd q12 q9
        exact .inl ⟨_, W, by go_simp, rfl, Below.refl _ _⟩
      · obtain rfl := Option.some.inj hoo
        have q9 : uu 9 = .bool true := hd 9 (by kernel_rfl)
        have q25 : uu 25 = .bool true := hd 25 (by kernel_rfl)
        refine .inl ⟨wanted_none rfl, ?_⟩
        generalize hev : Act.eval _ = ev
        have ec : ∀ c, ev (.const c) = c := fun c => by rw [← hev]; rfl
        have e63 : ev (.tmp 63) = .bool true := by rw [← hev]; exact (eval_put (by kernel_rfl) 84 rfl (by decide)).trans q9
        have e79 : ev (.tmp 79) = .bool true := by rw [← hev]; exact (eval_put (by kernel_rfl) 84 rfl (by decide)).trans q25
        clear hev hd q9 q25
        exact .inl ⟨_, W, by go_simp, rfl, Below.refl _ _⟩
      · obtain rfl := Option.some.inj hoo
        have q26 : uu 26 = .bool true := hd 26 (by kernel_rfl)
        refine .inl ⟨wanted_none rfl, ?_⟩
        generalize hev : Act.eval _ = ev
        have ec : ∀ c, ev (.const c) = c := fun c => by rw [← hev]; rfl
        have e80 : ev (.tmp 80) = .bool true := by rw [← hev]; exact (eval_put (by kernel_rfl) 84 rfl (by decide)).trans q26
        clear hev hd q26
        exact .inl ⟨_, W, by go_simp, rfl, Below.refl _ _⟩
      · obtain rfl := Option.some.inj hoo
        have q27 : uu 27 = .bool true := hd 27 (by kernel_rfl)
        refine .inl ⟨wanted_yes rfl (yielded_put (k := 81) (by kernel_rfl) (by kernel_rfl) 84 rfl (by decide) q27), ?_⟩
        generalize hev : Act.eval _ = ev
        have ec : ∀ c, ev (.const c) = c := fun c => by rw [← hev]; rfl
        have ef : ∀ f, ev (.func f) = .func (.func f) #[] #[] := fun f => by rw [← hev]; rfl
        clear hev hd q27
        exact .inr ⟨_, _, _, by go_simp, lives28_any W, fun e w' he => ⟨_, he.1, rfl, he.2⟩⟩
      · obtain rfl := Option.some.inj hoo
        have q27 : uu 27 = .bool true := hd 27 (by kernel_rfl)
        have q28 : uu 28 = .bool true := hd 28 (by kernel_rfl)
        refine .inl ⟨wanted_none rfl, ?_⟩
        generalize hev : Act.eval _ = ev
        have ec : ∀ c, ev (.const c) = c := fun c => by rw [← hev]; rfl
        have e81 : ev (.tmp 81) = .bool true := by rw [← hev]; exact (eval_put (by kernel_rfl) 84 rfl (by decide)).trans q27
        have e82 : ev (.tmp 82) = .bool true := by rw [← hev]; exact (eval_put (by kernel_rfl) 84 rfl (by decide)).trans q28
        clear hev hd q27 q28
        exact .inl ⟨_, W, by go_simp, rfl, Below.refl _ _⟩
      · obtain rfl := Option.some.inj hoo
        have q29 : uu 29 = .bool true := hd 29 (by kernel_rfl)
        refine .inl ⟨wanted_none rfl, ?_⟩
        generalize hev : Act.eval _ = ev
        have ec : ∀ c, ev (.const c) = c := fun c => by rw [← hev]; rfl
        have e83 : ev (.tmp 83) = .bool true := by rw [← hev]; exact (eval_put (by kernel_rfl) 84 rfl (by decide)).trans q29
        clear hev hd q29
        exact .inl ⟨_, W, by go_simp, rfl, Below.refl _ _⟩
      · simp at hoo
    · intro uu W hVW hall
      have q30 : uu 30 = .bool true := hall 30 (by decide)
      replace hB := hB.trans (hVW.mono hB.size)
      clear hall hVW HS KM  r1 r2
      simp only [putAll, Act.put, Nat.reduceAdd, q30]
      simp only [List.setIfInBounds_toArray, List.set_cons_succ, List.set_cons_zero]
      go_wp2_with fail
      go_ret
      exact ⟨rfl, hB⟩
  · clear HO r9 HL9
    refine HX.out.mono ?_
    rintro e w4 ⟨L1r, A1r, c1r, L2r, A2r, c2r, rfl, HL1r, HL2r, r1r, r2r, hbel⟩
    replace hB := bnextA (bnext hB hbel) (.cells #[.int .u16 (tp.toNat : Int), .int .u16 (tp2.toNat : Int), .int .u32 (q2.toNat : Int), .int .u32 (k2.toNat : Int), .int .u8 (r.toNat : Int), .int .u8 (f.toNat : Int), .int .u16 (z.toNat : Int), .int .u16 (u.toNat : Int), .slice A1r L1r.length c1r, .slice A2r L2r.length c2r] 26)
    replace KT := (KT.next hbel).alloc (.cells #[.int .u16 (tp.toNat : Int), .int .u16 (tp2.toNat : Int), .int .u32 (q2.toNat : Int), .int .u32 (k2.toNat : Int), .int .u8 (r.toNat : Int), .int .u8 (f.toNat : Int), .int .u16 (z.toNat : Int), .int .u16 (u.toNat : Int), .slice A1r L1r.length c1r, .slice A2r L2r.length c2r] 26)
    replace KM := (KM.next hbel).alloc (.cells #[.int .u16 (tp.toNat : Int), .int .u16 (tp2.toNat : Int), .int .u32 (q2.toNat : Int), .int .u32 (k2.toNat : Int), .int .u8 (r.toNat : Int), .int .u8 (f.toNat : Int), .int .u16 (z.toNat : Int), .int .u16 (u.toNat : Int), .slice A1r L1r.length c1r, .slice A2r L2r.length c2r] 26)
    replace r1 := (r1.next hbel).nextA (.cells #[.int .u16 (tp.toNat : Int), .int .u16 (tp2.toNat : Int), .int .u32 (q2.toNat : Int), .int .u32 (k2.toNat : Int), .int .u8 (r.toNat : Int), .int .u8 (f.toNat : Int), .int .u16 (z.toNat : Int), .int .u16 (u.toNat : Int), .slice A1r L1r.length c1r, .slice A2r L2r.length c2r] 26)
    replace r2 := (r2.next hbel).nextA (.cells #[.int .u16 (tp.toNat : Int), .int .u16 (tp2.toNat : Int), .int .u32 (q2.toNat : Int), .int .u32 (k2.toNat : Int), .int .u8 (r.toNat : Int), .int .u8 (f.toNat : Int), .int .u16 (z.toNat : Int), .int .u16 (u.toNat : Int), .slice A1r L1r.length c1r, .slice A2r L2r.length c2r] 26)
    replace r1r := r1r.nextA (.cells #[.int .u16 (tp.toNat : Int), .int .u16 (tp2.toNat : Int), .int .u32 (q2.toNat : Int), .int .u32 (k2.toNat : Int), .int .u8 (r.toNat : Int), .int .u8 (f.toNat : Int), .int .u16 (z.toNat : Int), .int .u16 (u.toNat : Int), .slice A1r L1r.length c1r, .slice A2r L2r.length c2r] 26)
    replace r2r := r2r.nextA (.cells #[.int .u16 (tp.toNat : Int), .int .u16 (tp2.toNat : Int), .int .u32 (q2.toNat : Int), .int .u32 (k2.toNat : Int), .int .u8 (r.toNat : Int), .int .u8 (f.toNat : Int), .int .u16 (z.toNat : Int), .int .u16 (u.toNat : Int), .slice A1r L1r.length c1r, .slice A2r L2r.length c2r] 26)
    have KX := Blk.new w4 #[.int .u16 (tp.toNat : Int), .int .u16 (tp2.toNat : Int), .int .u32 (q2.toNat : Int), .int .u32 (k2.toNat : Int), .int .u8 (r.toNat : Int), .int .u8 (f.toNat : Int), .int .u16 (z.toNat : Int), .int .u16 (u.toNat : Int), .slice A1r L1r.length c1r, .slice A2r L2r.length c2r] 26
    clear hbel HX
    go_wp2_with fail
    generalize w4.heap.size = gx at *
    generalize w4.alloc (.cells #[.int .u16 (tp.toNat : Int), .int .u16 (tp2.toNat : Int), .int .u32 (q2.toNat : Int), .int .u32 (k2.toNat : Int), .int .u8 (r.toNat : Int), .int .u8 (f.toNat : Int), .int .u16 (z.toNat : Int), .int .u16 (u.toNat : Int), .slice A1r L1r.length c1r, .slice A2r L2r.length c2r] 26) = V4 at *
    have HS : ∀ W, Below V4.heap.size V4 W → (W.cell? ⟨w.heap.size, 2, none⟩ = some (.int .u16 (tp.toNat : Int)) ∧ W.cell? ⟨w.heap.size, 3, none⟩ = some (.int .u16 (tp2.toNat : Int)) ∧ W.cell? ⟨w.heap.size, 4, none⟩ = some (.int .u32 (tq.toNat : Int)) ∧ W.cell? ⟨w.heap.size, 5, none⟩ = some (.int .u32 (tk.toNat : Int))) := fun W h => ⟨(KT.next h).cell 2, (KT.next h).cell 3, (KT.next h).cell 4, (KT.next h).cell 5⟩
    clear KT
    refine region_put (by kernel_rfl) (by kernel_rfl) (by kernel_rfl) 84 rfl (by kernel_rfl) V4 (fun i v W => match i with
        | 0 => v = .int .i64 0
        | 1 => v = .bool true
        | 2 => v = .bool true
        | 3 => v = .slice A9 L9.length c9
        | 4 => v = .int .i64 (L9.length : Int)
        | 5 => v = .slice a0 B.length cap0
        | 6 => v = .int .i64 (B.length : Int)
        | 7 => v = .bool true
        | 8 => v = .bool true
        | 9 => v = .bool true
        | 10 => v = .int .i64 0
        | 11 => v = .bool false
        | 12 => v = .bool false
        | 13 => v = .agg #[.int .u16 (tp.toNat : Int), .int .u16 (tp2.toNat : Int), .int .u32 (q2.toNat : Int), .int .u32 (k2.toNat : Int), .int .u8 (r.toNat : Int), .int .u8 (f.toNat : Int), .int .u16 (z.toNat : Int), .int .u16 (u.toNat : Int), .slice A1r L1r.length c1r, .slice A2r L2r.length c2r]
        | 14 => v = .pointer (some ⟨w.heap.size, 2, none⟩)
        | 15 => v = .int .u16 (tp.toNat : Int)
        | 16 => v = .pointer (some ⟨w.heap.size, 3, none⟩)
        | 17 => v = .int .u16 (tp2.toNat : Int)
        | 18 => v = .pointer (some ⟨w.heap.size, 4, none⟩)
        | 19 => v = .int .u32 (tq.toNat : Int)
        | 20 => v = .pointer (some ⟨w.heap.size, 5, none⟩)
        | 21 => v = .int .u32 (tk.toNat : Int)
        | 22 => v = .agg #[.int .u16 (a.toNat : Int), .int .u16 (b.toNat : Int), .int .u32 (q.toNat : Int), .int .u32 (k.toNat : Int), .int .u8 (r.toNat : Int), .int .u8 (f.toNat : Int), .int .u16 (z.toNat : Int), .int .u16 (u.toNat : Int), .slice A1 L1.length c1, .slice A2 L2.length c2]
        | 23 => v = .agg #[.int .u16 (tp.toNat : Int), .int .u16 (tp2.toNat : Int), .int .u32 (q2.toNat : Int), .int .u32 (k2.toNat : Int), .int .u8 (r.toNat : Int), .int .u8 (f.toNat : Int), .int .u16 (z.toNat : Int), .int .u16 (u.toNat : Int), .slice A1 L1.length c1, .slice A2 L2.length c2]
        | 24 => v = .bool true
        | 25 => v = .bool true
        | 26 => v = .bool true
        | 27 => v = .bool true
        | 28 => v = .bool true
        | 29 => v = .bool true
        | 30 => v = .bool true
        | _ => True) (Below.refl _ _) ?_ ?_ ?_
    · intro i v W W' h hb
      match i, h with
      | 0, h => exact h
      | 1, h => exact h
      | 2, h => exact h
      | 3, h => exact h
      | 4, h => exact h
      | 5, h => exact h
      | 6, h => exact h
      | 7, h => exact h
      | 8, h => exact h
      | 9, h => exact h
      | 10, h => exact h
      | 11, h => exact h
      | 12, h => exact h
      | 13, h => exact h
      | 14, h => exact h
      | 15, h => exact h
      | 16, h => exact h
      | 17, h => exact h
      | 18, h => exact h
      | 19, h => exact h
      | 20, h => exact h
      | 21, h => exact h
      | 22, h => exact h
      | 23, h => exact h
      | 24, h => exact h
      | 25, h => exact h
      | 26, h => exact h
      | 27, h => exact h
      | 28, h => exact h
      | 29, h => exact h
      | 30, h => exact h
      | _ + 31, _ => trivial
    · intro i o uu W hoo hVW hd
      rcases i with _|_|_|_|_|_|_|_|_|_|_|_|_|_|_|_|_|_|_|_|_|_|_|_|_|_|_|_|_|_|_|i
      · obtain rfl := Option.some.inj hoo
        refine .inl ⟨wanted_none rfl, ?_⟩
        generalize hev : Act.eval _ = ev
        have ec : ∀ c, ev (.const c) = c := fun c => by rw [← hev]; rfl
        have e10 : ev (.tmp 10) = .int .i64 0 := by rw [← hev]; exact eval_old (by kernel_rfl) 84 rfl (by decide) rfl
        clear hev hd
        exact .inl ⟨_, W, by go_simp, rfl, Below.refl _ _⟩
      · obtain rfl := Option.some.inj hoo
        have q0 : uu 0 = .int .i64 0 := hd 0 (by kernel_rfl)
        refine .inl ⟨wanted_none rfl, ?_⟩
        generalize hev : Act.eval _ = ev
        have ec : ∀ c, ev (.const c) = c := fun c => by rw [← hev]; rfl
        have e54 : ev (.tmp 54) = .int .i64 0 := by rw [← hev]; exact (eval_put (by kernel_rfl) 84 rfl (by decide)).trans q0
        clear hev hd q0
        exact .inl ⟨_, W, by go_simp, rfl, Below.refl _ _⟩
      · obtain rfl := Option.some.inj hoo
        have q1 : uu 1 = .bool true := hd 1 (by kernel_rfl)
        refine .inl ⟨wanted_none rfl, ?_⟩
        generalize hev : Act.eval _ = ev
        have ec : ∀ c, ev (.const c) = c := fun c => by rw [← hev]; rfl
        have e55 : ev (.tmp 55) = .bool true := by rw [← hev]; exact (eval_put (by kernel_rfl) 84 rfl (by decide)).trans q1
        clear hev hd q1
        exact .inl ⟨_, W, by go_simp, rfl, Below.refl _ _⟩
      · obtain rfl := Option.some.inj hoo
        have q2 : uu 2 = .bool true := hd 2 (by kernel_rfl)
        refine .inl ⟨wanted_yes rfl (yielded_put (k := 56) (by kernel_rfl) (by kernel_rfl) 84 rfl (by decide) q2), ?_⟩
        generalize hev : Act.eval _ = ev
        have ec : ∀ c, ev (.const c) = c := fun c => by rw [← hev]; rfl
        have e9 : ev (.tmp 9) = .slice A9 L9.length c9 := by rw [← hev]; exact eval_old (by kernel_rfl) 84 rfl (by decide) rfl
        clear hev hd q2
        exact .inl ⟨_, W, by go_simp, rfl, Below.refl _ _⟩
      · obtain rfl := Option.some.inj hoo
        have q3 : uu 3 = .slice A9 L9.length c9 := hd 3 (by kernel_rfl)
        have q2 : uu 2 = .bool true := hd 2 (by kernel_rfl)
        refine .inl ⟨wanted_yes rfl (yielded_put (k := 56) (by kernel_rfl) (by kernel_rfl) 84 rfl (by decide) q2), ?_⟩
        generalize hev : Act.eval _ = ev
        have ec : ∀ c, ev (.const c) = c := fun c => by rw [← hev]; rfl
        have e57 : ev (.tmp 57) = .slice A9 L9.length c9 := by rw [← hev]; exact (eval_put (by kernel_rfl) 84 rfl (by decide)).trans q3
        clear hev hd q3 q2
        exact .inl ⟨_, W, by go_simp, rfl, Below.refl _ _⟩
      · obtain rfl := Option.some.inj hoo
        have q2 : uu 2 = .bool true := hd 2 (by kernel_rfl)
        refine .inl ⟨wanted_yes rfl (yielded_put (k := 56) (by kernel_rfl) (by kernel_rfl) 84 rfl (by decide) q2), ?_⟩
        generalize hev : Act.eval _ = ev
        have ec : ∀ c, ev (.const c) = c := fun c => by rw [← hev]; rfl
        have e2 : ev (.tmp 2) = .slice a0 B.length cap0 := by rw [← hev]; exact eval_old (by kernel_rfl) 84 rfl (by decide) rfl
        clear hev hd q2
        exact .inl ⟨_, W, by go_simp, rfl, Below.refl _ _⟩
      · obtain rfl := Option.some.inj hoo
        have q5 : uu 5 = .slice a0 B.length cap0 := hd 5 (by kernel_rfl)
        have q2 : uu 2 = .bool true := hd 2 (by kernel_rfl)
        refine .inl ⟨wanted_yes rfl (yielded_put (k := 56) (by kernel_rfl) (by kernel_rfl) 84 rfl (by decide) q2), ?_⟩
        generalize hev : Act.eval _ = ev
        have ec : ∀ c, ev (.const c) = c := fun c => by rw [← hev]; rfl
        have e59 : ev (.tmp 59) = .slice a0 B.length cap0 := by rw [← hev]; exact (eval_put (by kernel_rfl) 84 rfl (by decide)).trans q5
        clear hev hd q5 q2
        exact .inl ⟨_, W, by go_simp, rfl, Below.refl _ _⟩
      · obtain rfl := Option.some.inj hoo
        have q4 : uu 4 = .int .i64 (L9.length : Int) := hd 4 (by kernel_rfl)
        have q6 : uu 6 = .int .i64 (B.length : Int) := hd 6 (by kernel_rfl)
        have q2 : uu 2 = .bool true := hd 2 (by kernel_rfl)
        refine .inl ⟨wanted_yes rfl (yielded_put (k := 56) (by kernel_rfl) (by kernel_rfl) 84 rfl (by decide) q2), ?_⟩
        generalize hev : Act.eval _ = ev
        have ec : ∀ c, ev (.const c) = c := fun c => by rw [← hev]; rfl
        have e58 : ev (.tmp 58) = .int .i64 (L9.length : Int) := by rw [← hev]; exact (eval_put (by kernel_rfl) 84 rfl (by decide)).trans q4
        have e60 : ev (.tmp 60) = .int .i64 (B.length : Int) := by rw [← hev]; exact (eval_put (by kernel_rfl) 84 rfl (by decide)).trans q6
        clear hev hd q4 q6 q2
        have hh := HLB.out
        have hh2 : ((L9.length : Int) == (B.length : Int)) = true := by rw [hh]; simp
        exact .inl ⟨_, W, by go_simp, rfl, Below.refl _ _⟩
      · obtain rfl := Option.some.inj hoo
        have q2 : uu 2 = .bool true := hd 2 (by kernel_rfl)
        have q7 : uu 7 = .bool true := hd 7 (by kernel_rfl)
        refine .inl ⟨wanted_none rfl, ?_⟩
        generalize hev : Act.eval _ = ev
        have ec : ∀ c, ev (.const c) = c := fun c => by rw [← hev]; rfl
        have e56 : ev (.tmp 56) = .bool true := by rw [← hev]; exact (eval_put (by kernel_rfl) 84 rfl (by decide)).trans q2
        have e61 : ev (.tmp 61) = .bool true := by rw [← hev]; exact (eval_put (by kernel_rfl) 84 rfl (by decide)).trans q7
        clear hev hd q2 q7
        exact .inl ⟨_, W, by go_simp, rfl, Below.refl _ _⟩
      · obtain rfl := Option.some.inj hoo
        have q8 : uu 8 = .bool true := hd 8 (by kernel_rfl)
        refine .inl ⟨wanted_none rfl, ?_⟩
        generalize hev : Act.eval _ = ev
        have ec : ∀ c, ev (.const c) = c := fun c => by rw [← hev]; rfl
        have e62 : ev (.tmp 62) = .bool true := by rw [← hev]; exact (eval_put (by kernel_rfl) 84 rfl (by decide)).trans q8
        clear hev hd q8
        exact .inl ⟨_, W, by go_simp, rfl, Below.refl _ _⟩
      · obtain rfl := Option.some.inj hoo
        have q9 : uu 9 = .bool true := hd 9 (by kernel_rfl)
        refine .inl ⟨wanted_yes rfl (yielded_put (k := 63) (by kernel_rfl) (by kernel_rfl) 84 rfl (by decide) q9), ?_⟩
        generalize hev : Act.eval _ = ev
        have ec : ∀ c, ev (.const c) = c := fun c => by rw [← hev]; rfl
        have e14 : ev (.tmp 14) = .int .i64 0 := by rw [← hev]; exact eval_old (by kernel_rfl) 84 rfl (by decide) rfl
        clear hev hd q9
        exact .inl ⟨_, W, by go_simp, rfl, Below.refl _ _⟩
      · obtain rfl := Option.some.inj hoo
        have q10 : uu 10 = .int .i64 0 := hd 10 (by kernel_rfl)
        have q9 : uu 9 = .bool true := hd 9 (by kernel_rfl)
        refine .inl ⟨wanted_yes rfl (yielded_put (k := 63) (by kernel_rfl) (by kernel_rfl) 84 rfl (by decide) q9), ?_⟩
        generalize hev : Act.eval _ = ev
        have ec : ∀ c, ev (.const c) = c := fun c => by rw [← hev]; rfl
        have e64 : ev (.tmp 64) = .int .i64 0 := by rw [← hev]; exact (eval_put (by kernel_rfl) 84 rfl (by decide)).trans q10
        clear hev hd q10 q9
        exact .inl ⟨_, W, by go_simp, rfl, Below.refl _ _⟩
      · obtain rfl := Option.some.inj hoo
        have q11 : uu 11 = .bool false := hd 11 (by kernel_rfl)
        have q9 : uu 9 = .bool true := hd 9 (by kernel_rfl)
        refine .inl ⟨wanted_yes rfl (yielded_put (k := 63) (by kernel_rfl) (by kernel_rfl) 84 rfl (by decide) q9), ?_⟩
        generalize hev : Act.eval _ = ev
        have ec : ∀ c, ev (.const c) = c := fun c => by rw [← hev]; rfl
        have e65 : ev (.tmp 65) = .bool false := by rw [← hev]; exact (eval_put (by kernel_rfl) 84 rfl (by decide)).trans q11
        clear hev hd q11 q9
        exact .inl ⟨_, W, by go_simp, rfl, Below.refl _ _⟩
      · obtain rfl := Option.some.inj hoo
        have q12 : uu 12 = .bool false := hd 12 (by kernel_rfl)
        refine .inl ⟨wanted_yes rfl (yielded_put (k := 66) (by kernel_rfl) (by kernel_rfl) 84 rfl (by decide) q12), ?_⟩
        generalize hev : Act.eval _ = ev
        have ec : ∀ c, ev (.const c) = c := fun c => by rw [← hev]; rfl
        have e13 : ev (.tmp 13) = .pointer (some ⟨gx, 0, none⟩) := by rw [← hev]; exact eval_old (by kernel_rfl) 84 rfl (by decide) rfl
        clear hev hd q12
        exact .inl ⟨_, W, load_blk Try.underlying26 (by kernel_rfl) (KX.next hVW) rfl e13, rfl, Below.refl _ _⟩
      · obtain rfl := Option.some.inj hoo
        have q12 : uu 12 = .bool false := hd 12 (by kernel_rfl)
        refine .inl ⟨wanted_yes rfl (yielded_put (k := 66) (by kernel_rfl) (by kernel_rfl) 84 rfl (by decide) q12), ?_⟩
        generalize hev : Act.eval _ = ev
        have ec : ∀ c, ev (.const c) = c := fun c => by rw [← hev]; rfl
        have e7 : ev (.tmp 7) = .pointer (some ⟨w.heap.size, 0, none⟩) := by rw [← hev]; exact eval_old (by kernel_rfl) 84 rfl (by decide) rfl
        clear hev hd q12
        exact .inl ⟨_, W, by go_simp, rfl, Below.refl _ _⟩
      · obtain rfl := Option.some.inj hoo
        have q14 : uu 14 = .pointer (some ⟨w.heap.size, 2, none⟩) := hd 14 (by kernel_rfl)
        have q12 : uu 12 = .bool false := hd 12 (by kernel_rfl)
        refine .inl ⟨wanted_yes rfl (yielded_put (k := 66) (by kernel_rfl) (by kernel_rfl) 84 rfl (by decide) q12), ?_⟩
        generalize hev : Act.eval _ = ev
        have ec : ∀ c, ev (.const c) = c := fun c => by rw [← hev]; rfl
        have e68 : ev (.tmp 68) = .pointer (some ⟨w.heap.size, 2, none⟩) := by rw [← hev]; exact (eval_put (by kernel_rfl) 84 rfl (by decide)).trans q14
        clear hev hd q14 q12
        obtain ⟨cc0, cc1, cc2, cc3⟩ := HS W hVW
        exact .inl ⟨_, W, by go_simp, rfl, Below.refl _ _⟩
      · obtain rfl := Option.some.inj hoo
        have q12 : uu 12 = .bool false := hd 12 (by kernel_rfl)
        refine .inl ⟨wanted_yes rfl (yielded_put (k := 66) (by kernel_rfl) (by kernel_rfl) 84 rfl (by decide) q12), ?_⟩
        generalize hev : Act.eval _ = ev
        have ec : ∀ c, ev (.const c) = c := fun c => by rw [← hev]; rfl
        have e7 : ev (.tmp 7) = .pointer (some ⟨w.heap.size, 0, none⟩) := by rw [← hev]; exact eval_old (by kernel_rfl) 84 rfl (by decide) rfl
        clear hev hd q12
        exact .inl ⟨_, W, by go_simp, rfl, Below.refl _ _⟩
      · obtain rfl := Option.some.inj hoo
        have q16 : uu 16 = .pointer (some ⟨w.heap.size, 3, none⟩) := hd 16 (by kernel_rfl)
        have q12 : uu 12 = .bool false := hd 12 (by kernel_rfl)
        refine .inl ⟨wanted_yes rfl (yielded_put (k := 66) (by kernel_rfl) (by kernel_rfl) 84 rfl (by decide) q12), ?_⟩
        generalize hev : Act.eval _ = ev
        have ec : ∀ c, ev (.const c) = c := fun c => by rw [← hev]; rfl
        have e70 : ev (.tmp 70) = .pointer (some ⟨w.heap.size, 3, none⟩) := by rw [← hev]; exact (eval_put (by kernel_rfl) 84 rfl (by decide)).trans q16
        clear hev hd q16 q12
        obtain ⟨cc0, cc1, cc2, cc3⟩ := HS W hVW
        exact .inl ⟨_, W, by go_simp, rfl, Below.refl _ _⟩
      · obtain rfl := Option.some.inj hoo
        have q12 : uu 12 = .bool false := hd 12 (by kernel_rfl)
        refine .inl ⟨wanted_yes rfl (yielded_put (k := 66) (by kernel_rfl) (by kernel_rfl) 84 rfl (by decide) q12), ?_⟩
        generalize hev : Act.eval _ = ev
        have ec : ∀ c, ev (.const c) = c := fun c => by rw [← hev]; rfl
        have e7 : ev (.tmp 7) = .pointer (some ⟨w.heap.size, 0, none⟩) := by rw [← hev]; exact eval_old (by kernel_rfl) 84 rfl (by decide) rfl
        clear hev hd q12
        exact .inl ⟨_, W, by go_simp, rfl, Below.refl _ _⟩
      · obtain rfl := Option.some.inj hoo
        have q18 : uu 18 = .pointer (some ⟨w.heap.size, 4, none⟩) := hd 18 (by kernel_rfl)
        have q12 : uu 12 = .bool false := hd 12 (by kernel_rfl)
        refine .inl ⟨wanted_yes rfl (yielded_put (k := 66) (by kernel_rfl) (by kernel_rfl) 84 rfl (by decide) q12), ?_⟩
        generalize hev : Act.eval _ = ev
        have ec : ∀ c, ev (.const c) = c := fun c => by rw [← hev]; rfl
        have e72 : ev (.tmp 72) = .pointer (some ⟨w.heap.size, 4, none⟩) := by rw [← hev]; exact (eval_put (by kernel_rfl) 84 rfl (by decide)).trans q18
        clear hev hd q18 q12
        obtain ⟨cc0, cc1, cc2, cc3⟩ := HS W hVW
        exact .inl ⟨_, W, by go_simp, rfl, Below.refl _ _⟩
      · obtain rfl := Option.some.inj hoo
        have q12 : uu 12 = .bool false := hd 12 (by kernel_rfl)
        refine .inl ⟨wanted_yes rfl (yielded_put (k := 66) (by kernel_rfl) (by kernel_rfl) 84 rfl (by decide) q12), ?_⟩
        generalize hev : Act.eval _ = ev
        have ec : ∀ c, ev (.const c) = c := fun c => by rw [← hev]; rfl
        have e7 : ev (.tmp 7) = .pointer (some ⟨w.heap.size, 0, none⟩) := by rw [← hev]; exact eval_old (by kernel_rfl) 84 rfl (by decide) rfl
        clear hev hd q12
        exact .inl ⟨_, W, by go_simp, rfl, Below.refl _ _⟩
      · obtain rfl := Option.some.inj hoo
        have q20 : uu 20 = .pointer (some ⟨w.heap.size, 5, none⟩) := hd 20 (by kernel_rfl)
        have q12 : uu 12 = .bool false := hd 12 (by kernel_rfl)
        refine .inl ⟨wanted_yes rfl (yielded_put (k := 66) (by kernel_rfl) (by kernel_rfl) 84 rfl (by decide) q12), ?_⟩
        generalize hev : Act.eval _ = ev
        have ec : ∀ c, ev (.const c) = c := fun c => by rw [← hev]; rfl
        have e74 : ev (.tmp 74) = .pointer (some ⟨w.heap.size, 5, none⟩) := by rw [← hev]; exact (eval_put (by kernel_rfl) 84 rfl (by decide)).trans q20
        clear hev hd q20 q12
        obtain ⟨cc0, cc1, cc2, cc3⟩ := HS W hVW
        exact .inl ⟨_, W, by go_simp, rfl, Below.refl _ _⟩
      · obtain rfl := Option.some.inj hoo
        have q12 : uu 12 = .bool false := hd 12 (by kernel_rfl)
        refine .inl ⟨wanted_yes rfl (yielded_put (k := 66) (by kernel_rfl) (by kernel_rfl) 84 rfl (by decide) q12), ?_⟩
        generalize hev : Act.eval _ = ev
        have ec : ∀ c, ev (.const c) = c := fun c => by rw [← hev]; rfl
        have e11 : ev (.tmp 11) = .pointer (some ⟨gm, 0, none⟩) := by rw [← hev]; exact eval_old (by kernel_rfl) 84 rfl (by decide) rfl
        clear hev hd q12
        exact .inl ⟨_, W, load_blk Try.underlying26 (by kernel_rfl) (KM.next hVW) rfl e11, rfl, Below.refl _ _⟩
      · obtain rfl := Option.some.inj hoo
        have q15 : uu 15 = .int .u16 (tp.toNat : Int) := hd 15 (by kernel_rfl)
        have q17 : uu 17 = .int .u16 (tp2.toNat : Int) := hd 17 (by kernel_rfl)
        have q19 : uu 19 = .int .u32 (tq.toNat : Int) := hd 19 (by kernel_rfl)
        have q21 : uu 21 = .int .u32 (tk.toNat : Int) := hd 21 (by kernel_rfl)
        have q22 : uu 22 = .agg #[.int .u16 (a.toNat : Int), .int .u16 (b.toNat : Int), .int .u32 (q.toNat : Int), .int .u32 (k.toNat : Int), .int .u8 (r.toNat : Int), .int .u8 (f.toNat : Int), .int .u16 (z.toNat : Int), .int .u16 (u.toNat : Int), .slice A1 L1.length c1, .slice A2 L2.length c2] := hd 22 (by kernel_rfl)
        have q12 : uu 12 = .bool false := hd 12 (by kernel_rfl)
        refine .inl ⟨wanted_yes rfl (yielded_put (k := 66) (by kernel_rfl) (by kernel_rfl) 84 rfl (by decide) q12), ?_⟩
        generalize hev : Act.eval _ = ev
        have ec : ∀ c, ev (.const c) = c := fun c => by rw [← hev]; rfl
        have ef : ∀ f, ev (.func f) = .func (.func f) #[] #[] := fun f => by rw [← hev]; rfl
        have e69 : ev (.tmp 69) = .int .u16 (tp.toNat : Int) := by rw [← hev]; exact (eval_put (by kernel_rfl) 84 rfl (by decide)).trans q15
        have e71 : ev (.tmp 71) = .int .u16 (tp2.toNat : Int) := by rw [← hev]; exact (eval_put (by kernel_rfl) 84 rfl (by decide)).trans q17
        have e73 : ev (.tmp 73) = .int .u32 (tq.toNat : Int) := by rw [← hev]; exact (eval_put (by kernel_rfl) 84 rfl (by decide)).trans q19
        have e75 : ev (.tmp 75) = .int .u32 (tk.toNat : Int) := by rw [← hev]; exact (eval_put (by kernel_rfl) 84 rfl (by decide)).trans q21
        have e76 : ev (.tmp 76) = .agg #[.int .u16 (a.toNat : Int), .int .u16 (b.toNat : Int), .int .u32 (q.toNat : Int), .int .u32 (k.toNat : Int), .int .u8 (r.toNat : Int), .int .u8 (f.toNat : Int), .int .u16 (z.toNat : Int), .int .u16 (u.toNat : Int), .slice A1 L1.length c1, .slice A2 L2.length c2] := by rw [← hev]; exact (eval_put (by kernel_rfl) 84 rfl (by decide)).trans q22
        clear hev hd q15 q17 q19 q21 q22 q12
        exact .inr ⟨_, _, _, by go_simp, (HAP W _ _ _ _ _ _).out, fun e w' he => ⟨_, he.1, rfl, he.2⟩⟩
      · obtain rfl := Option.some.inj hoo
        have q13 : uu 13 = .agg #[.int .u16 (tp.toNat : Int), .int .u16 (tp2.toNat : Int), .int .u32 (q2.toNat : Int), .int .u32 (k2.toNat : Int), .int .u8 (r.toNat : Int), .int .u8 (f.toNat : Int), .int .u16 (z.toNat : Int), .int .u16 (u.toNat : Int), .slice A1r L1r.length c1r, .slice A2r L2r.length c2r] := hd 13 (by kernel_rfl)
        have q23 : uu 23 = .agg #[.int .u16 (tp.toNat : Int), .int .u16 (tp2.toNat : Int), .int .u32 (q2.toNat : Int), .int .u32 (k2.toNat : Int), .int .u8 (r.toNat : Int), .int .u8 (f.toNat : Int), .int .u16 (z.toNat : Int), .int .u16 (u.toNat : Int), .slice A1 L1.length c1, .slice A2 L2.length c2] := hd 23 (by kernel_rfl)
        have q12 : uu 12 = .bool false := hd 12 (by kernel_rfl)
        refine .inl ⟨wanted_yes rfl (yielded_put (k := 66) (by kernel_rfl) (by kernel_rfl) 84 rfl (by decide) q12), ?_⟩
        generalize hev : Act.eval _ = ev
        have ec : ∀ c, ev (.const c) = c := fun c => by rw [← hev]; rfl
        have ef : ∀ f, ev (.func f) = .func (.func f) #[] #[] := fun f => by rw [← hev]; rfl
        have e67 : ev (.tmp 67) = .agg #[.int .u16 (tp.toNat : Int), .int .u16 (tp2.toNat : Int), .int .u32 (q2.toNat : Int), .int .u32 (k2.toNat : Int), .int .u8 (r.toNat : Int), .int .u8 (f.toNat : Int), .int .u16 (z.toNat : Int), .int .u16 (u.toNat : Int), .slice A1r L1r.length c1r, .slice A2r L2r.length c2r] := by rw [← hev]; exact (eval_put (by kernel_rfl) 84 rfl (by decide)).trans q13
        have e77 : ev (.tmp 77) = .agg #[.int .u16 (tp.toNat : Int), .int .u16 (tp2.toNat : Int), .int .u32 (q2.toNat : Int), .int .u32 (k2.toNat : Int), .int .u8 (r.toNat : Int), .int .u8 (f.toNat : Int), .int .u16 (z.toNat : Int), .int .u16 (u.toNat : Int), .slice A1 L1.length c1, .slice A2 L2.length c2] := by rw [← hev]; exact (eval_put (by kernel_rfl) 84 rfl (by decide)).trans q23
        clear hev hd q13 q23 q12
        exact .inr ⟨_, _, _, by go_simp, tsame_yes tp tp2 q2 k2 r f z u A1r A2r A1 A2 c1r c2r c1 c2 L1r L2r L1 L2 W (r1r.next hVW) (r2r.next hVW) (r1.next hVW) (r2.next hVW) (by rw [HL1.out, HL1r.out]) (by rw [HL2.out, HL2r.out]), fun e w' he => ⟨_, he.1, rfl, he.2⟩⟩
      · obtain rfl := Option.some.inj hoo
        have q12 : uu 12 = .bool false := hd 12 (by kernel_rfl)
        have q24 : uu 24 = .bool true := hd 24 (by kernel_rfl)
        have q9 : uu 9 = .bool true := hd 9 (by kernel_rfl)
        refine .inl ⟨wanted_yes rfl (yielded_put (k := 63) (by kernel_rfl) (by kernel_rfl) 84 rfl (by decide) q9), ?_⟩
        generalize hev : Act.eval _ = ev
        have ec : ∀ c, ev (.const c) = c := fun c => by rw [← hev]; rfl
        have e66 : ev (.tmp 66) = .bool false := by rw [← hev]; exact (eval_put (by kernel_rfl) 84 rfl (by decide)).trans q12
        have e78 : ev (.tmp 78) = .bool true := by rw [← hev]; exact (eval_put (by kernel_rfl) 84 rfl (by decide)).trans q24
        clear hev hd q12 q24 q9
        exact .inl ⟨_, W, by go_simp, rfl, Below.refl _ _⟩
      · obtain rfl := Option.some.inj hoo
        have q9 : uu 9 = .bool true := hd 9 (by kernel_rfl)
        have q25 : uu 25 = .bool true := hd 25 (by kernel_rfl)
        refine .inl ⟨wanted_none rfl, ?_⟩
        generalize hev : Act.eval _ = ev
        have ec : ∀ c, ev (.const c) = c := fun c => by rw [← hev]; rfl
        have e63 : ev (.tmp 63) = .bool true := by rw [← hev]; exact (eval_put (by kernel_rfl) 84 rfl (by decide)).trans q9
        have e79 : ev (.tmp 79) = .bool true := by rw [← hev]; exact (eval_put (by kernel_rfl) 84 rfl (by decide)).trans q25
        clear hev hd q9 q25
        exact .inl ⟨_, W, by go_simp, rfl, Below.refl _ _⟩
      · obtain rfl := Option.some.inj hoo
        have q26 : uu 26 = .bool true := hd 26 (by kernel_rfl)
        refine .inl ⟨wanted_none rfl, ?_⟩
        generalize hev : Act.eval _ = ev
        have ec : ∀ c, ev (.const c) = c := fun c => by rw [← hev]; rfl
        have e80 : ev (.tmp 80) = .bool true := by rw [← hev]; exact (eval_put (by kernel_rfl) 84 rfl (by decide)).trans q26
        clear hev hd q26
        exact .inl ⟨_, W, by go_simp, rfl, Below.refl _ _⟩
      · obtain rfl := Option.some.inj hoo
        have q27 : uu 27 = .bool true := hd 27 (by kernel_rfl)
        refine .inl ⟨wanted_yes rfl (yielded_put (k := 81) (by kernel_rfl) (by kernel_rfl) 84 rfl (by decide) q27), ?_⟩
        generalize hev : Act.eval _ = ev
        have ec : ∀ c, ev (.const c) = c := fun c => by rw [← hev]; rfl
        have ef : ∀ f, ev (.func f) = .func (.func f) #[] #[] := fun f => by rw [← hev]; rfl
        clear hev hd q27
        exact .inr ⟨_, _, _, by go_simp, lives28_any W, fun e w' he => ⟨_, he.1, rfl, he.2⟩⟩
      · obtain rfl := Option.some.inj hoo
        have q27 : uu 27 = .bool true := hd 27 (by kernel_rfl)
        have q28 : uu 28 = .bool true := hd 28 (by kernel_rfl)
        refine .inl ⟨wanted_none rfl, ?_⟩
        generalize hev : Act.eval _ = ev
        have ec : ∀ c, ev (.const c) = c := fun c => by rw [← hev]; rfl
        have e81 : ev (.tmp 81) = .bool true := by rw [← hev]; exact (eval_put (by kernel_rfl) 84 rfl (by decide)).trans q27
        have e82 : ev (.tmp 82) = .bool true := by rw [← hev]; exact (eval_put (by kernel_rfl) 84 rfl (by decide)).trans q28
        clear hev hd q27 q28
        exact .inl ⟨_, W, by go_simp, rfl, Below.refl _ _⟩
      · obtain rfl := Option.some.inj hoo
        have q29 : uu 29 = .bool true := hd 29 (by kernel_rfl)
        refine .inl ⟨wanted_none rfl, ?_⟩
        generalize hev : Act.eval _ = ev
        have ec : ∀ c, ev (.const c) = c := fun c => by rw [← hev]; rfl
        have e83 : ev (.tmp 83) = .bool true := by rw [← hev]; exact (eval_put (by kernel_rfl) 84 rfl (by decide)).trans q29
        clear hev hd q29
        exact .inl ⟨_, W, by go_simp, rfl, Below.refl _ _⟩
      · simp at hoo
    · intro uu W hVW hall
      have q30 : uu 30 = .bool true := hall 30 (by decide)
      replace hB := hB.trans (hVW.mono hB.size)
      clear hall hVW HS KM KX r1r r2r r1 r2
      simp only [putAll, Act.put, Nat.reduceAdd, q30]
      simp only [List.setIfInBounds_toArray, List.set_cons_succ, List.set_cons_zero]
      go_wp2_with fail
      go_ret
      exact ⟨rfl, hB⟩

set_option maxHeartbeats 4000000 in
theorem SpliceRefuses_walk (a0 : Int) (a1 : Int) (a2 : Option Addr) (len2 cap2 : Nat) (z2 : List Int) (a3_0 : Int) (a3_1 : Int) (a3_2 : Int) (a3_3 : Int) (a3_4 : Int) (a3_5 : Int) (w : World) (w0 : (Lit.int .u32 a0).wf = true) (w1 : (Lit.int .u32 a1).wf = true) (w2 : InRow .u8 w a2 len2 cap2 z2) (w3_0 : (Lit.int .u32 a3_0).wf = true) (w3_1 : (Lit.int .u32 a3_1).wf = true) (w3_2 : (Lit.int .u16 a3_2).wf = true) (w3_3 : (Lit.int .u16 a3_3).wf = true) (w3_4 : (Lit.int .u32 a3_4).wf = true) (w3_5 : (Lit.int .u32 a3_5).wf = true) :
    Calls Try.prog 4 #[.int .u32 a0, .int .u32 a1, .slice a2 len2 cap2, .agg #[.int .u32 a3_0, .int .u32 a3_1, .int .u16 a3_2, .int .u16 a3_3, .int .u32 a3_4, .int .u32 a3_5]] w fun e w' => e = .returned (.bool true) ∧ Below w.heap.size w w' := by
  obtain ⟨s, rfl⟩ := u32_of w0
  obtain ⟨d, rfl⟩ := u32_of w1
  obtain ⟨ts, rfl⟩ := u32_of w3_0
  obtain ⟨td, rfl⟩ := u32_of w3_1
  obtain ⟨tp, rfl⟩ := u16_of w3_2
  obtain ⟨tp2, rfl⟩ := u16_of w3_3
  obtain ⟨tq, rfl⟩ := u32_of w3_4
  obtain ⟨tk, rfl⟩ := u32_of w3_5
  obtain ⟨B, hBl, ha, hlz, hcz, hmz⟩ := few_len w2 200
  have HFa : ∀ W, Hid (Calls Try.prog 11 #[.slice a2 len2 cap2, .int .i64 200] W fun e w' => e = .returned (.slice a2 B.length cap2) ∧ W = w') := by
    intro W
    have := few_le a2 len2 cap2 200 W hlz hcz (by omega)
    rw [hmz.out] at this
    exact this
  clear w0 w1 w2 w3_0 w3_1 w3_2 w3_3 w3_4 w3_5 hlz hcz hmz
  have bad : ∀ er : Int, ((er : Int) != 0) = true → (∀ W, Rd bv W W.heap.size a2 cap2 B → Calls Try.prog 20 #[.int .u32 (s.toNat : Int), .int .u32 (d.toNat : Int), .slice a2 B.length cap2] W fun e w' => e = .returned (.tuple #[.agg #[.int .u16 0, .int .u16 0, .int .u32 0, .int .u32 0, .int .u8 0, .int .u8 0, .int .u16 0, .int .u16 0, .slice none 0 0, .slice none 0 0], .int .i64 er]) ∧ Below W.heap.size W w') → (∀ W, Rd bv W W.heap.size a2 cap2 B → Calls Try.prog 12 #[.int .u32 (s.toNat : Int), .int .u32 (d.toNat : Int), .slice a2 B.length cap2] W fun e w' => e = .returned (.tuple #[.agg #[.int .u16 0, .int .u16 0, .int .u32 0, .int .u32 0, .int .u8 0, .int .u8 0, .int .u16 0, .int .u16 0, .slice none 0 0, .slice none 0 0], .int .i64 er]) ∧ Below W.heap.size W w') → Calls Try.prog 4 #[.int .u32 (s.toNat : Int), .int .u32 (d.toNat : Int), .slice a2 len2 cap2, .agg #[.int .u32 (ts.toNat : Int), .int .u32 (td.toNat : Int), .int .u16 (tp.toNat : Int), .int .u16 (tp2.toNat : Int), .int .u32 (tq.toNat : Int), .int .u32 (tk.toNat : Int)]] w fun e w' => e = .returned (.bool true) ∧ Below w.heap.size w w' :=
    fun er he h1 h2 => refuses_bad s d ts td tp tp2 tq tk er he a2 len2 cap2 B w ha HFa (fun W h => Lib.hid (sbytes_bad s d ts td tp tp2 tq tk er he a2 cap2 B W h (fun W h => Lib.hid (h1 W h)))) (fun W h => Lib.hid (h2 W h))
  by_cases h20 : B.length < 20
  · exact bad 4 rfl (fun W h => tparse_short s d a2 cap2 B W h h20) (fun W h => rtparse_short s d a2 cap2 B W h h20)
  have h20' : 20 ≤ B.length := by omega
  by_cases hm : (B[12]).toNat / 16 < 5
  · exact bad 3 rfl (fun W h => tparse_form0 s d a2 cap2 B W h h20' hm) (fun W h => rtparse_form0 s d a2 cap2 B W h h20' hm)
  have hm5 : 5 ≤ (B[12]).toNat / 16 := by omega
  by_cases hl : B.length < 4 * ((B[12]).toNat / 16)
  · exact bad 4 rfl (fun W h => tparse_long s d a2 cap2 B W h h20' hm5 (by omega) hl) (fun W h => rtparse_long s d a2 cap2 B W h h20' hm5 (by omega) hl)
  by_cases hN : onesN (uh s d 6 B.length ++ B) = 65535
  · obtain ⟨a, ha0⟩ := s_u16 B 0 (by omega)
    obtain ⟨b, hb0⟩ := s_u16 B 2 (by omega)
    obtain ⟨q, hq0⟩ := s_u32 B 4
    obtain ⟨k, hk0⟩ := s_u32 B 8
    obtain ⟨z, hz0⟩ := s_u16 B 14 (by omega)
    obtain ⟨u, hu0⟩ := s_u16 B 18 (by omega)
    obtain ⟨r, hr0⟩ : ∃ r : UInt8, (B[12]).toNat % 16 = r.toNat := ⟨UInt8.ofNat ((B[12]).toNat % 16), by simp; omega⟩
    obtain ⟨f, hf0⟩ : ∃ f, B[13] = f := ⟨_, rfl⟩
    have P1 := fun W h => tparse_ok s d a2 cap2 B W h h20' _ rfl hm5 (by omega) (by omega) hN a b q k r f z u ha0 hb0 hq0 hk0 hr0 hf0 hz0 hu0
    have P2 := fun W h => rtparse_ok s d a2 cap2 B W h h20' _ rfl hm5 (by omega) (by omega) hN a b q k r f z u ha0 hb0 hq0 hk0 hr0 hf0 hz0 hu0
    have fin : ∀ q2 k2 : UInt32, (∀ W Ao co Lo Ax cx Lx, Rd bv W W.heap.size Ao co Lo → Rd bv W W.heap.size Ax cx Lx → Hid (Lo.length ≤ 1000 ∧ Lx.length ≤ 100000) → Hid (Calls Try.prog 19 #[.agg #[.int .u32 (ts.toNat : Int), .int .u32 (td.toNat : Int), .int .u16 (tp.toNat : Int), .int .u16 (tp2.toNat : Int), .int .u32 (tq.toNat : Int), .int .u32 (tk.toNat : Int)], .agg #[.int .u16 (a.toNat : Int), .int .u16 (b.toNat : Int), .int .u32 (q.toNat : Int), .int .u32 (k.toNat : Int), .int .u8 (r.toNat : Int), .int .u8 (f.toNat : Int), .int .u16 (z.toNat : Int), .int .u16 (u.toNat : Int), .slice Ao Lo.length co, .slice Ax Lx.length cx]] W fun e w' => ∃ (M1 : List UInt8) (B1 : Option Addr) (d1 : Nat) (M2 : List UInt8) (B2 : Option Addr) (d2 : Nat), e = .returned (.agg #[.int .u16 (tp.toNat : Int), .int .u16 (tp2.toNat : Int), .int .u32 (q2.toNat : Int), .int .u32 (k2.toNat : Int), .int .u8 (r.toNat : Int), .int .u8 (f.toNat : Int), .int .u16 (z.toNat : Int), .int .u16 (u.toNat : Int), .slice B1 M1.length d1, .slice B2 M2.length d2]) ∧ Below W.heap.size W w')) → (∀ W (A1 A2 : Option Addr) (c1 c2 : Nat) (L1 L2 : List UInt8), Hid (Calls Try.prog 9 #[.int .u16 (tp.toNat : Int), .int .u16 (tp2.toNat : Int), .int .u32 (tq.toNat : Int), .int .u32 (tk.toNat : Int), .agg #[.int .u16 (a.toNat : Int), .int .u16 (b.toNat : Int), .int .u32 (q.toNat : Int), .int .u32 (k.toNat : Int), .int .u8 (r.toNat : Int), .int .u8 (f.toNat : Int), .int .u16 (z.toNat : Int), .int .u16 (u.toNat : Int), .slice A1 L1.length c1, .slice A2 L2.length c2]] W fun e w' => e = .returned (.agg #[.int .u16 (tp.toNat : Int), .int .u16 (tp2.toNat : Int), .int .u32 (q2.toNat : Int), .int .u32 (k2.toNat : Int), .int .u8 (r.toNat : Int), .int .u8 (f.toNat : Int), .int .u16 (z.toNat : Int), .int .u16 (u.toNat : Int), .slice A1 L1.length c1, .slice A2 L2.length c2]) ∧ Below W.heap.size W w')) → Calls Try.prog 4 #[.int .u32 (s.toNat : Int), .int .u32 (d.toNat : Int), .slice a2 len2 cap2, .agg #[.int .u32 (ts.toNat : Int), .int .u32 (td.toNat : Int), .int .u16 (tp.toNat : Int), .int .u16 (tp2.toNat : Int), .int .u32 (tq.toNat : Int), .int .u32 (tk.toNat : Int)]] w fun e w' => e = .returned (.bool true) ∧ Below w.heap.size w w' := by
      intro q2 k2 HA HAP
      refine refuses_ok s d ts td tp tp2 tq tk a b q k r f z u q2 k2 ((B.drop 20).take (4 * ((B[12]).toNat / 16) - 20)) (B.drop (4 * ((B[12]).toNat / 16))) (fun L => ∃ n : UInt16, L = ((puts16 [tp, tp2] ++ (puts32 [q2, k2] ++ B.drop 12)).set 16 (UInt8.ofNat (n.toNat / 256))).set (16 + 1) (UInt8.ofNat (n.toNat % 256))) a2 len2 cap2 B w ha HFa ?_ ?_ ?_ HAP
      · intro W g
        refine Lib.hid (sbytes_ok s d ts td tp tp2 tq tk a b q k r f z u q2 k2 a2 cap2 B W g h20' (by omega) ?_ HA)
        intro W g
        refine Lib.hid ((P1 W g).mono ?_)
        rintro e w' ⟨Lo, Ao, co, Lx, Ax, cx, rfl, HLo, HLx, ro, rx, hb⟩
        exact ⟨Lo, Ao, co, Lx, Ax, cx, rfl, by rw [HLo.out, HLx.out]; simp only [Hid, List.length_take, List.length_drop]; omega, ro, rx, hb⟩
      · intro W g
        refine Lib.hid ((P2 W g).mono ?_)
        rintro e w' ⟨Lo, Ao, co, Lx, Ax, cx, rfl, HLo, HLx, ro, rx, hb⟩
        exact ⟨Lo, Ao, co, Lx, Ax, cx, rfl, HLo, HLx, ro, rx, hb⟩
      · intro L A c W HQ g
        obtain ⟨n, hL⟩ := HQ.out
        obtain ⟨hlen, o0, o2, o4, o8, o12, o13, o14, o18, o20⟩ := out_facts tp tp2 q2 k2 n B L h20' hL
        have h12 := o12 (by omega) (by omega)
        have h13 := o13 (by omega) (by omega)
        refine ⟨hlen, ?_⟩
        by_cases hN2 : onesN (uh ts td 6 L.length ++ L) = 65535
        · refine .inr (Lib.hid ((rtparse_ok ts td A c L W g (by omega) _ rfl (by rw [h12]; omega) (by omega) (by rw [h12]; omega) hN2 tp tp2 q2 k2 r f z u o0 o2 o4 o8 (by rw [h12]; exact hr0) (by rw [h13]; exact hf0) (by rw [o14]; exact hz0) (by rw [o18]; exact hu0)).mono ?_))
          rintro e w' ⟨Lo, Ao, co, Lx, Ax, cx, rfl, HLo, HLx, ro, rx, hb⟩
          refine ⟨Lo, Ao, co, Lx, Ax, cx, rfl, ?_, ?_, ro, rx, hb⟩
          · rw [HLo.out, h12, o20]; rfl
          · rw [HLx.out, h12]
            have : ∀ j, 5 ≤ j → L.drop (4 * j) = B.drop (4 * j) := fun j hj => by
              rw [show 4 * j = 20 + (4 * j - 20) by omega, ← List.drop_drop, ← List.drop_drop, o20]
            exact this _ hm5
        · exact .inl ⟨5, rfl, Lib.hid (rtparse_sum ts td A c L W g (by omega) (by rw [h12]; omega) (by omega) (by rw [h12]; omega) hN2)⟩
    cases hF : hasB f 16
    · refine fin (q + tq) k ?_ (fun W A1 A2 c1 c2 L1 L2 => Lib.hid (rapply_0 tp tp2 tq tk a b q k r f z u (q + tq) k rfl rfl hF A1 A2 c1 c2 L1 L2 W))
      intro W Ao co Lo Ax cx Lx g1 g2 hb
      refine Lib.hid ((apply_0 ts td tp tp2 tq tk a b q k r f z u (q + tq) k rfl rfl hF Ao Ax co cx Lo Lx W g1 g2 (by have := hb.out; omega) (by have := hb.out; omega)).mono ?_)
      rintro e w' ⟨M1, B1, d1, M2, B2, d2, rfl, -, -, -, -, hb⟩
      exact ⟨M1, B1, d1, M2, B2, d2, rfl, hb⟩
    · refine fin (q + tq) (k + tk) ?_ (fun W A1 A2 c1 c2 L1 L2 => Lib.hid (rapply_1 tp tp2 tq tk a b q k r f z u (q + tq) (k + tk) rfl rfl hF A1 A2 c1 c2 L1 L2 W))
      intro W Ao co Lo Ax cx Lx g1 g2 hb
      refine Lib.hid ((apply_1 ts td tp tp2 tq tk a b q k r f z u (q + tq) (k + tk) rfl rfl hF Ao Ax co cx Lo Lx W g1 g2 (by have := hb.out; omega) (by have := hb.out; omega)).mono ?_)
      rintro e w' ⟨M1, B1, d1, M2, B2, d2, rfl, -, -, -, -, hb⟩
      exact ⟨M1, B1, d1, M2, B2, d2, rfl, hb⟩
  · exact bad 5 rfl (fun W h => tparse_sum s d a2 cap2 B W h h20' hm5 (by omega) (by omega) hN) (fun W h => rtparse_sum s d a2 cap2 B W h h20' hm5 (by omega) (by omega) hN)
end Go.Proofs.Ytlceflfmdfoeiaa
