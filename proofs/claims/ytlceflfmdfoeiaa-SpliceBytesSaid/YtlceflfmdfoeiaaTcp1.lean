/- Contracts of package tcp's small functions, and of the reference's answers for them. -/
import Derived.Test.YtlceflfmdfoeiaaKit2
import Derived.Test.YtlceflfmdfoeiaaUdp1
namespace Go.Proofs.Ytlceflfmdfoeiaa
open Go.RowKit

/-- A segment's bytes. -/
def tb (a b : UInt16) (q k : UInt32) (h f : UInt8) (z u : UInt16) (x : Nat) (os xs : List UInt8) : List UInt8 := be16 a ++ (be16 b ++ (be32 q ++ (be32 k ++ ([h, f] ++ (be16 z ++ (be16 (UInt16.ofNat x) ++ (be16 u ++ (os ++ xs))))))))
theorem tb_len (a b : UInt16) (q k : UInt32) (h f : UInt8) (z u : UInt16) (x : Nat) (os xs : List UInt8) : (tb a b q k h f z u x os xs).length = 20 + os.length + xs.length := by simp [tb, be16, be32]; omega

theorem rtmay_bad0 (a b : UInt16) (q k : UInt32) (r f : UInt8) (z u : UInt16) (A1 A2 : Option Addr) (n1 c1 n2 c2 : Nat) (_hn1 : n1 ≤ 1000000000) (_hn2 : n2 ≤ 1000000000) (w : World) (h1 : 15 < r.toNat) :
    Calls Try.prog 14 #[.agg #[.int .u16 (a.toNat : Int), .int .u16 (b.toNat : Int), .int .u32 (q.toNat : Int), .int .u32 (k.toNat : Int), .int .u8 (r.toNat : Int), .int .u8 (f.toNat : Int), .int .u16 (z.toNat : Int), .int .u16 (u.toNat : Int), .slice A1 n1 c1, .slice A2 n2 c2]] w fun e w' => e = .returned (.bool false) ∧ Below w.heap.size w w' := by
  have hr := r.toNat_lt
  have g1 : (15 : Int) < (r.toNat : Int) := by omega
  go_enter Try.func14, Try.ntmps14
  go_wp2_with fail
  go_ret
  exact ⟨rfl, bnextA (Below.refl _ _) _⟩

theorem rtmay_bad1 (a b : UInt16) (q k : UInt32) (r f : UInt8) (z u : UInt16) (A1 A2 : Option Addr) (n1 c1 n2 c2 : Nat) (_hn1 : n1 ≤ 1000000000) (_hn2 : n2 ≤ 1000000000) (w : World) (h1 : r.toNat ≤ 15) (h2 : 40 < n1) :
    Calls Try.prog 14 #[.agg #[.int .u16 (a.toNat : Int), .int .u16 (b.toNat : Int), .int .u32 (q.toNat : Int), .int .u32 (k.toNat : Int), .int .u8 (r.toNat : Int), .int .u8 (f.toNat : Int), .int .u16 (z.toNat : Int), .int .u16 (u.toNat : Int), .slice A1 n1 c1, .slice A2 n2 c2]] w fun e w' => e = .returned (.bool false) ∧ Below w.heap.size w w' := by
  have hr := r.toNat_lt
  go_enter Try.func14, Try.ntmps14
  go_wp2_with fail
  go_ret
  exact ⟨rfl, bnextA (Below.refl _ _) _⟩

theorem rtmay_bad2 (a b : UInt16) (q k : UInt32) (r f : UInt8) (z u : UInt16) (A1 A2 : Option Addr) (n1 c1 n2 c2 : Nat) (_hn1 : n1 ≤ 1000000000) (_hn2 : n2 ≤ 1000000000) (w : World) (h1 : r.toNat ≤ 15) (h2 : n1 ≤ 40) (h3 : n1 % 4 ≠ 0) :
    Calls Try.prog 14 #[.agg #[.int .u16 (a.toNat : Int), .int .u16 (b.toNat : Int), .int .u32 (q.toNat : Int), .int .u32 (k.toNat : Int), .int .u8 (r.toNat : Int), .int .u8 (f.toNat : Int), .int .u16 (z.toNat : Int), .int .u16 (u.toNat : Int), .slice A1 n1 c1, .slice A2 n2 c2]] w fun e w' => e = .returned (.bool false) ∧ Below w.heap.size w w' := by
  have hr := r.toNat_lt
  have g3 : ((n1 : Int) % 4 == 0) = false := by simp; omega
  have g4 : ¬ (n1 : Int) % 4 = 0 := by omega
  go_enter Try.func14, Try.ntmps14
  go_wp2_with fail
  go_ret
  exact ⟨rfl, bnextA (Below.refl _ _) _⟩

theorem rtmay_bad3 (a b : UInt16) (q k : UInt32) (r f : UInt8) (z u : UInt16) (A1 A2 : Option Addr) (n1 c1 n2 c2 : Nat) (_hn1 : n1 ≤ 1000000000) (_hn2 : n2 ≤ 1000000000) (w : World) (h1 : r.toNat ≤ 15) (h2 : n1 ≤ 40) (h3 : n1 % 4 = 0) (h4 : 65535 < 20 + n1 + n2) :
    Calls Try.prog 14 #[.agg #[.int .u16 (a.toNat : Int), .int .u16 (b.toNat : Int), .int .u32 (q.toNat : Int), .int .u32 (k.toNat : Int), .int .u8 (r.toNat : Int), .int .u8 (f.toNat : Int), .int .u16 (z.toNat : Int), .int .u16 (u.toNat : Int), .slice A1 n1 c1, .slice A2 n2 c2]] w fun e w' => e = .returned (.bool false) ∧ Below w.heap.size w w' := by
  have hr := r.toNat_lt
  have g3 : ((n1 : Int) % 4 == 0) = true := by simp; omega
  have g4 : (n1 : Int) % 4 = 0 := by omega
  have g5 : decide ((n2 : Int) ≤ 65515 - (n1 : Int)) = false := by simp; omega
  go_enter Try.func14, Try.ntmps14
  go_wp2_with fail
  go_ret
  exact ⟨rfl, bnextA (Below.refl _ _) _⟩

theorem rtmay_ok (a b : UInt16) (q k : UInt32) (r f : UInt8) (z u : UInt16) (A1 A2 : Option Addr) (n1 c1 n2 c2 : Nat) (w : World) (h1 : r.toNat ≤ 15) (h2 : n1 ≤ 40) (h3 : n1 % 4 = 0) (h4 : 20 + n1 + n2 ≤ 65535) :
    Calls Try.prog 14 #[.agg #[.int .u16 (a.toNat : Int), .int .u16 (b.toNat : Int), .int .u32 (q.toNat : Int), .int .u32 (k.toNat : Int), .int .u8 (r.toNat : Int), .int .u8 (f.toNat : Int), .int .u16 (z.toNat : Int), .int .u16 (u.toNat : Int), .slice A1 n1 c1, .slice A2 n2 c2]] w fun e w' => e = .returned (.bool true) ∧ Below w.heap.size w w' := by
  have g3 : ((n1 : Int) % 4 == 0) = true := by simp; omega
  have g4 : (n1 : Int) % 4 = 0 := by omega
  have g5 : decide ((n2 : Int) ≤ 65515 - (n1 : Int)) = true := by simp; omega
  go_enter Try.func14, Try.ntmps14
  go_wp2_with fail
  go_ret
  exact ⟨rfl, bnextA (Below.refl _ _) _⟩

theorem tfalse_any (s d : UInt32) (A : Option Addr) (c : Nat) (xs : List UInt8) (w : World) (hl : xs.length ≤ 65535) :
    Calls Try.prog 36 #[.int .u32 (s.toNat : Int), .int .u32 (d.toNat : Int), .slice A xs.length c] w fun e w' => ∃ L A c, e = .returned (.slice A L.length c) ∧ Hid (L = uh s d 6 xs.length) ∧ Rd bv w' w'.heap.size A c L ∧ Below w.heap.size w w' := by
  have hh := Lib.hid (uhead_any s d 6 xs.length hl w)
  go_enter Try.func36, Try.ntmps36
  go_wp2_with fail
  refine hh.out.mono ?_
  rintro e w1 ⟨L1, A1, c1, rfl, HL1, r1, hb⟩
  go_wp2_with fail
  go_ret
  exact ⟨L1, A1, c1, rfl, HL1, r1, hb⟩

theorem tfew_any (a b : UInt16) (q k : UInt32) (r f : UInt8) (z u : UInt16) (A1 A2 : Option Addr) (n1 c1 n2 c2 m1 m2 : Nat) (w : World) (g1 : n1 ≤ c1) (g2 : c1 ≤ 9223372036854775807) (g3 : n2 ≤ c2) (g4 : c2 ≤ 9223372036854775807) (hm1 : Hid (min n1 50 = m1)) (hm2 : Hid (min n2 200 = m2)) :
    Calls Try.prog 5 #[.agg #[.int .u16 (a.toNat : Int), .int .u16 (b.toNat : Int), .int .u32 (q.toNat : Int), .int .u32 (k.toNat : Int), .int .u8 (r.toNat : Int), .int .u8 (f.toNat : Int), .int .u16 (z.toNat : Int), .int .u16 (u.toNat : Int), .slice A1 n1 c1, .slice A2 n2 c2]] w fun e w' =>
      e = .returned (.agg #[.int .u16 (a.toNat : Int), .int .u16 (b.toNat : Int), .int .u32 (q.toNat : Int), .int .u32 (k.toNat : Int), .int .u8 (r.toNat : Int), .int .u8 (f.toNat : Int), .int .u16 (z.toNat : Int), .int .u16 (u.toNat : Int), .slice A1 m1 c1, .slice A2 m2 c2]) ∧ Below w.heap.size w w' := by
  have hf : ∀ W, Calls Try.prog 11 #[.slice A1 n1 c1, .int .i64 50] W fun e w' => e = .returned (.slice A1 m1 c1) ∧ W = w' := by
    intro W
    have := few_le A1 n1 c1 50 W g1 g2 (by omega)
    rw [hm1.out] at this
    exact this
  have hg : ∀ W, Calls Try.prog 11 #[.slice A2 n2 c2, .int .i64 200] W fun e w' => e = .returned (.slice A2 m2 c2) ∧ W = w' := by
    intro W
    have := few_le A2 n2 c2 200 W g3 g4 (by omega)
    rw [hm2.out] at this
    exact this
  have HF := Lib.hid hf
  have HG := Lib.hid hg
  clear hf hm1 hg hm2
  go_enter Try.func5, Try.ntmps5
  go_wp2_with fail
  refine (HF.out _).mono ?_
  rintro e w1 ⟨rfl, rfl⟩
  go_wp2_with fail
  refine (HG.out _).mono ?_
  rintro e w1 ⟨rfl, rfl⟩
  go_wp2_with fail
  simp [bodyPost, results, Try.results5, go_sem]
  exact bnextA (bnextA (Below.refl _ _) _) _

set_option maxHeartbeats 1000000 in
theorem tsame_yes (a b : UInt16) (q k : UInt32) (r f : UInt8) (z u : UInt16) (A1 A2 B1 B2 : Option Addr) (c1 c2 d1 d2 : Nat) (os xs os2 xs2 : List UInt8) (w : World) (h1 : Rd bv w w.heap.size A1 c1 os) (h2 : Rd bv w w.heap.size A2 c2 xs) (h3 : Rd bv w w.heap.size B1 d1 os2) (h4 : Rd bv w w.heap.size B2 d2 xs2) (ho : os2 = os) (hx : xs2 = xs) :
    Calls Try.prog 13 #[.agg #[.int .u16 (a.toNat : Int), .int .u16 (b.toNat : Int), .int .u32 (q.toNat : Int), .int .u32 (k.toNat : Int), .int .u8 (r.toNat : Int), .int .u8 (f.toNat : Int), .int .u16 (z.toNat : Int), .int .u16 (u.toNat : Int), .slice A1 os.length c1, .slice A2 xs.length c2], .agg #[.int .u16 (a.toNat : Int), .int .u16 (b.toNat : Int), .int .u32 (q.toNat : Int), .int .u32 (k.toNat : Int), .int .u8 (r.toNat : Int), .int .u8 (f.toNat : Int), .int .u16 (z.toNat : Int), .int .u16 (u.toNat : Int), .slice B1 os2.length d1, .slice B2 xs2.length d2]] w fun e w' => e = .returned (.bool true) ∧ Below w.heap.size w w' := by
  subst ho hx
  obtain ⟨W2, hW2⟩ : ∃ W2, W2 = (w.alloc (.cells #[.int .u16 (a.toNat : Int), .int .u16 (b.toNat : Int), .int .u32 (q.toNat : Int), .int .u32 (k.toNat : Int), .int .u8 (r.toNat : Int), .int .u8 (f.toNat : Int), .int .u16 (z.toNat : Int), .int .u16 (u.toNat : Int), .slice A1 os2.length c1, .slice A2 xs2.length c2] 26)).alloc (.cells #[.int .u16 (a.toNat : Int), .int .u16 (b.toNat : Int), .int .u32 (q.toNat : Int), .int .u32 (k.toNat : Int), .int .u8 (r.toNat : Int), .int .u8 (f.toNat : Int), .int .u16 (z.toNat : Int), .int .u16 (u.toNat : Int), .slice B1 os2.length d1, .slice B2 xs2.length d2] 26) := ⟨_, rfl⟩
  have hB2 : Below w.heap.size w W2 := by subst hW2; exact bnextA (bnextA (Below.refl _ _) _) _
  have hKa : Blk W2 w.heap.size [.int .u16 (a.toNat : Int), .int .u16 (b.toNat : Int), .int .u32 (q.toNat : Int), .int .u32 (k.toNat : Int), .int .u8 (r.toNat : Int), .int .u8 (f.toNat : Int), .int .u16 (z.toNat : Int), .int .u16 (u.toNat : Int), .slice A1 os2.length c1, .slice A2 xs2.length c2] 26 := by subst hW2; exact (Blk.new _ _ _).alloc _
  have hKb : Blk W2 (w.heap.size + 1) [.int .u16 (a.toNat : Int), .int .u16 (b.toNat : Int), .int .u32 (q.toNat : Int), .int .u32 (k.toNat : Int), .int .u8 (r.toNat : Int), .int .u8 (f.toNat : Int), .int .u16 (z.toNat : Int), .int .u16 (u.toNat : Int), .slice B1 os2.length d1, .slice B2 xs2.length d2] 26 := by
    subst hW2
    have := Blk.new (w.alloc (.cells #[.int .u16 (a.toNat : Int), .int .u16 (b.toNat : Int), .int .u32 (q.toNat : Int), .int .u32 (k.toNat : Int), .int .u8 (r.toNat : Int), .int .u8 (f.toNat : Int), .int .u16 (z.toNat : Int), .int .u16 (u.toNat : Int), .slice A1 os2.length c1, .slice A2 xs2.length c2] 26)) #[.int .u16 (a.toNat : Int), .int .u16 (b.toNat : Int), .int .u32 (q.toNat : Int), .int .u32 (k.toNat : Int), .int .u8 (r.toNat : Int), .int .u8 (f.toNat : Int), .int .u16 (z.toNat : Int), .int .u16 (u.toNat : Int), .slice B1 os2.length d1, .slice B2 xs2.length d2] 26
    simpa using this
  have HSa := fun (_ : Unit) => Lib.hid (hKa.get10)
  have r1 := h1.next hB2
  have r2 := h2.next hB2
  have r3 := h3.next hB2
  have r4 := h4.next hB2
  clear h1 h2 h3 h4
  go_enter Try.func13, Try.ntmps13
  go_wp2_with fail
  rw [← hW2]
  clear hW2
  refine (rsame_yes A1 B1 c1 d1 os2 W2 _ r1 r3).mono ?_
  rintro e w1 ⟨rfl, hd⟩
  replace hd := hd.bel
  have hB3 := bnext hB2 hd
  replace r2 := r2.next hd
  replace r4 := r4.next hd
  obtain ⟨p0, p1, p2, p3, p4, p5, p6, p7, p8, p9, -⟩ := (hKa.next hd).get10
  obtain ⟨q0, q1, q2, q3, q4, q5, q6, q7, q8, q9, -⟩ := (hKb.next hd).get10
  clear hd hKa hKb HSa
  go_wp2_with fail
  refine (rsame_yes A2 B2 c2 d2 xs2 w1 _ r2 r4).mono ?_
  rintro e w2 ⟨rfl, hd⟩
  go_wp2_with fail
  go_ret
  exact ⟨rfl, bnext hB3 hd.bel⟩
theorem tsame_zero (w : World) : Calls Try.prog 13 #[.agg #[.int .u16 0, .int .u16 0, .int .u32 0, .int .u32 0, .int .u8 0, .int .u8 0, .int .u16 0, .int .u16 0, .slice none 0 0, .slice none 0 0], .agg #[.int .u16 0, .int .u16 0, .int .u32 0, .int .u32 0, .int .u8 0, .int .u8 0, .int .u16 0, .int .u16 0, .slice none 0 0, .slice none 0 0]] w fun e w' => e = .returned (.bool true) ∧ Below w.heap.size w w' :=
  tsame_yes 0 0 0 0 0 0 0 0 none none none none 0 0 0 0 [] [] [] [] w (Rd.nil0 _ _ _) (Rd.nil0 _ _ _) (Rd.nil0 _ _ _) (Rd.nil0 _ _ _) rfl rfl
end Go.Proofs.Ytlceflfmdfoeiaa
