/- The walk of the statement on joining. -/
import Derived.Test.YteodjajjlgekcaaDoorPx4
namespace Go.Proofs.YteodjajjlgekcaaDoor
open Go.RowKit
set_option linter.unusedVariables false

theorem u32_sub (a b : UInt32) : ∃ v : UInt32, ((a.toNat : Int) - (b.toNat : Int)) % 4294967296 = (v.toNat : Int) := by
  refine ⟨UInt32.ofNat ((a.toNat + (4294967296 - b.toNat)) % 4294967296), ?_⟩
  have := a.toNat_lt
  have := b.toNat_lt
  simp
  omega
set_option maxRecDepth 10000 in
set_option maxHeartbeats 8000000 in
theorem ProxyJoins_w (s d : UInt32) (p q : UInt16) (r : UInt8) (b port : Int) (to : UInt16) (sa sb : UInt16) (sq sk : UInt32) (sr sf : UInt8) (sz su : UInt16) (A1 A2 : Option Addr) (n1 c1 n2 c2 : Nat) (fs fd : UInt32) (fp fq : UInt16) (fr : UInt8) (eb eh ea : Int) (ex ej : Bool) (et : UInt16) (es ei : UInt32) (iq : Int) (os xs : List UInt8) (w : World) (hS : SZ w) (hlc : n1 ≤ c1) (hcc : c1 ≤ 9223372036854775807) (hlc2 : n2 ≤ c2) (hcc2 : c2 ≤ 9223372036854775807) (hm : Hid (min n1 50 = os.length)) (hm2 : Hid (min n2 200 = xs.length)) :
    Calls Tryd.prog 7 #[.agg #[.int .u32 (s.toNat : Int), .int .u32 (d.toNat : Int), .int .u16 (p.toNat : Int), .int .u16 (q.toNat : Int), .int .u8 (r.toNat : Int)], .int .i64 b, .int .u16 port, .int .u16 (to.toNat : Int), .agg #[.int .u16 (sa.toNat : Int), .int .u16 (sb.toNat : Int), .int .u32 (sq.toNat : Int), .int .u32 (sk.toNat : Int), .int .u8 (sr.toNat : Int), .int .u8 (sf.toNat : Int), .int .u16 (sz.toNat : Int), .int .u16 (su.toNat : Int), .slice A1 n1 c1, .slice A2 n2 c2], .agg #[.int .u32 (fs.toNat : Int), .int .u32 (fd.toNat : Int), .int .u16 (fp.toNat : Int), .int .u16 (fq.toNat : Int), .int .u8 (fr.toNat : Int), .int .i64 eb, .int .i64 eh, .int .i64 ea, .bool ex, .bool ej, .int .u16 (et.toNat : Int), .int .u32 (es.toNat : Int), .int .u32 (ei.toNat : Int)], .int .i64 iq] w fun e w' => e = .returned (.bool true) ∧ Below w.heap.size w w' := by
  have HF := fun W => Lib.hid (tfew_any sa sb sq sk sr sf sz su A1 A2 n1 c1 n2 c2 os.length xs.length W hlc hcc hlc2 hcc2 hm hm2)
  obtain ⟨v0, g1⟩ := u32_pred sk
  obtain ⟨f0, g2⟩ := u32_pred sq
  obtain ⟨ei1, g3, -⟩ := u32_succ ei
  obtain ⟨es1, g4, -⟩ := u32_succ es
  obtain ⟨sq1, g5, -⟩ := u32_succ sq
  obtain ⟨dd, g6⟩ := u32_sub sq es
  have HOP := fun W => Lib.hid (popen_any s d p q r b port sa sb sq sk sr sf sz su A1 A2 os.length c1 xs.length c2 v0 f0 g1 g2 W)
  obtain ⟨z, HZ1, HZ2⟩ := size_u iq
  have HC : ∀ W, SZ W → Hid (Calls Tryd.prog 30 #[.agg #[.int .u32 (fs.toNat : Int), .int .u32 (fd.toNat : Int), .int .u16 (fp.toNat : Int), .int .u16 (fq.toNat : Int), .int .u8 (fr.toNat : Int), .int .i64 eb, .int .i64 eh, .int .i64 ea, .bool ex, .bool ej, .int .u16 (et.toNat : Int), .int .u32 (es.toNat : Int), .int .u32 (ei.toNat : Int)], .int .u16 (to.toNat : Int), .int .i64 iq] W fun e w' => ∃ L A c M B d, e = .returned (.agg #[.int .u16 (et.toNat : Int), .int .u16 (to.toNat : Int), .int .u32 (ei.toNat : Int), .int .u32 0, .int .u8 0, .int .u8 2, .int .u16 65535, .int .u16 0, .slice A L.length c, .slice B M.length d]) ∧ Hid (L = [2, 4] ++ be16 z) ∧ Hid (M = []) ∧ Rd bv w' w'.heap.size A c L ∧ Rd bv w' w'.heap.size B d M ∧ Below W.heap.size W w') := fun W hs =>
    (pcall_any fs fd fp fq fr eb eh ea ex ej et es ei to iq z HZ1 W hs).mono fun e w' he => by
      obtain ⟨L, A, c, rfl, HL, hr, hb⟩ := he
      exact ⟨L, A, c, [], none, 0, rfl, HL, rfl, hr, Rd.nil0 _ _ _, hb⟩
  have HRC : ∀ W, Hid (Calls Tryd.prog 31 #[.agg #[.int .u32 (fs.toNat : Int), .int .u32 (fd.toNat : Int), .int .u16 (fp.toNat : Int), .int .u16 (fq.toNat : Int), .int .u8 (fr.toNat : Int), .int .i64 eb, .int .i64 eh, .int .i64 ea, .bool ex, .bool ej, .int .u16 (et.toNat : Int), .int .u32 (es.toNat : Int), .int .u32 (ei.toNat : Int)], .int .u16 (to.toNat : Int), .int .i64 iq] W fun e w' => ∃ L A c M B d, e = .returned (.agg #[.int .u16 (et.toNat : Int), .int .u16 (to.toNat : Int), .int .u32 (ei.toNat : Int), .int .u32 0, .int .u8 0, .int .u8 2, .int .u16 65535, .int .u16 0, .slice A L.length c, .slice B M.length d]) ∧ Hid (L = [2, 4] ++ be16 z) ∧ Hid (M = []) ∧ Rd bv w' w'.heap.size A c L ∧ Rd bv w' w'.heap.size B d M ∧ Below W.heap.size W w') := fun W =>
    (rcall_any fs fd fp fq fr eb eh ea ex ej et es ei to iq z HZ2 W).mono fun e w' he => by
      obtain ⟨L, A, c, rfl, HL, hr, hb⟩ := he
      exact ⟨L, A, c, [], none, 0, rfl, HL, rfl, hr, Rd.nil0 _ _ _, hb⟩
  have HG := fun W => Lib.hid (pgreet_any fs fd fp fq fr eb eh ea ex ej et es ei to sa sb sq sk sr sf sz su A1 A2 os.length c1 xs.length c2 ei1 sq1 g3 g5 W)
  have HR := fun W => Lib.hid (prefuse_any fs fd fp fq fr eb eh ea ex ej et es ei ei1 es1 g3 g4 W)
  have HP1 := fun W => Lib.hid (rplain38_any (et.toNat : Int) (to.toNat : Int) (ei1.toNat : Int) (sq1.toNat : Int) 16 W)
  have HP2 := fun W => Lib.hid (rplain38_any (fq.toNat : Int) (fp.toNat : Int) (es1.toNat : Int) (ei1.toNat : Int) 20 W)
  obtain ⟨bj, HJR, HJ0, HJ1⟩ := join_both fs fd fp fq fr eb eh ea ex ej et es ei sa sb sq sk sr sf sz su A1 A2 os.length c1 xs.length c2 dd g6
  have HSM : ∀ W L11 A11 c11 M11 B11 d11 L15 A15 c15 M15 B15 d15, Rd bv W W.heap.size A11 c11 L11 → Rd bv W W.heap.size B11 d11 M11 → Rd bv W W.heap.size A15 c15 L15 → Rd bv W W.heap.size B15 d15 M15 → L15 = L11 → M15 = M11 → Hid (Calls Tryd.prog 25 #[.agg #[.int .u16 (et.toNat : Int), .int .u16 (to.toNat : Int), .int .u32 (ei.toNat : Int), .int .u32 0, .int .u8 0, .int .u8 2, .int .u16 65535, .int .u16 0, .slice A11 L11.length c11, .slice B11 M11.length d11], .agg #[.int .u16 (et.toNat : Int), .int .u16 (to.toNat : Int), .int .u32 (ei.toNat : Int), .int .u32 0, .int .u8 0, .int .u8 2, .int .u16 65535, .int .u16 0, .slice A15 L15.length c15, .slice B15 M15.length d15]] W fun e w' => e = .returned (.bool true) ∧ Below W.heap.size W w') := by
    intro W L3 A3 c3 M3 B3 d3 L7 A7 c7 M7 B7 d7 k1 k2 k3 k4 k5 k6
    obtain ⟨z8, ez8⟩ : ∃ x : UInt8, (x.toNat : Int) = 0 := ⟨0, rfl⟩
    obtain ⟨z16, ez16⟩ : ∃ x : UInt16, (x.toNat : Int) = 0 := ⟨0, rfl⟩
    obtain ⟨z32, ez32⟩ : ∃ x : UInt32, (x.toNat : Int) = 0 := ⟨0, rfl⟩
    obtain ⟨zf, ezf⟩ : ∃ x : UInt8, (x.toNat : Int) = 2 := ⟨2, rfl⟩
    obtain ⟨xff, exff⟩ : ∃ x : UInt16, (x.toNat : Int) = 65535 := ⟨65535, rfl⟩
    have h5 := tsame_yes et to ei z32 z8 zf xff z16 A3 B3 A7 B7 c3 d3 c7 d7 L3 M3 L7 M7 W k1 k2 k3 k4 k5 k6
    simp only [ez8, ez16, ez32, ezf, exff] at h5
    exact h5
  have HS1 : ∀ W, Hid (Calls Tryd.prog 25 #[.agg #[.int .u16 (et.toNat : Int), .int .u16 (to.toNat : Int), .int .u32 (ei1.toNat : Int), .int .u32 (sq1.toNat : Int), .int .u8 0, .int .u8 16, .int .u16 65535, .int .u16 0, .slice none 0 0, .slice none 0 0], .agg #[.int .u16 (et.toNat : Int), .int .u16 (to.toNat : Int), .int .u32 (ei1.toNat : Int), .int .u32 (sq1.toNat : Int), .int .u8 0, .int .u8 16, .int .u16 65535, .int .u16 0, .slice none 0 0, .slice none 0 0]] W fun e w' => e = .returned (.bool true) ∧ Below W.heap.size W w') := fun W => by
    obtain ⟨z8, ez8⟩ : ∃ x : UInt8, (x.toNat : Int) = 0 := ⟨0, rfl⟩
    obtain ⟨z16, ez16⟩ : ∃ x : UInt16, (x.toNat : Int) = 0 := ⟨0, rfl⟩
    obtain ⟨zf, ezf⟩ : ∃ x : UInt8, (x.toNat : Int) = 16 := ⟨16, rfl⟩
    obtain ⟨xff, exff⟩ : ∃ x : UInt16, (x.toNat : Int) = 65535 := ⟨65535, rfl⟩
    have h5 := tsame_yes et to ei1 sq1 z8 zf xff z16 none none none none 0 0 0 0 [] [] [] [] W (Rd.nil0 _ _ _) (Rd.nil0 _ _ _) (Rd.nil0 _ _ _) (Rd.nil0 _ _ _) rfl rfl
    simp only [ez8, ez16, ezf, exff, List.length_nil] at h5
    exact h5
  have HS2 : ∀ W, Hid (Calls Tryd.prog 25 #[.agg #[.int .u16 (fq.toNat : Int), .int .u16 (fp.toNat : Int), .int .u32 (es1.toNat : Int), .int .u32 (ei1.toNat : Int), .int .u8 0, .int .u8 20, .int .u16 65535, .int .u16 0, .slice none 0 0, .slice none 0 0], .agg #[.int .u16 (fq.toNat : Int), .int .u16 (fp.toNat : Int), .int .u32 (es1.toNat : Int), .int .u32 (ei1.toNat : Int), .int .u8 0, .int .u8 20, .int .u16 65535, .int .u16 0, .slice none 0 0, .slice none 0 0]] W fun e w' => e = .returned (.bool true) ∧ Below W.heap.size W w') := fun W => by
    obtain ⟨z8, ez8⟩ : ∃ x : UInt8, (x.toNat : Int) = 0 := ⟨0, rfl⟩
    obtain ⟨z16, ez16⟩ : ∃ x : UInt16, (x.toNat : Int) = 0 := ⟨0, rfl⟩
    obtain ⟨zf, ezf⟩ : ∃ x : UInt8, (x.toNat : Int) = 20 := ⟨20, rfl⟩
    obtain ⟨xff, exff⟩ : ∃ x : UInt16, (x.toNat : Int) = 65535 := ⟨65535, rfl⟩
    have h5 := tsame_yes fq fp es1 ei1 z8 zf xff z16 none none none none 0 0 0 0 [] [] [] [] W (Rd.nil0 _ _ _) (Rd.nil0 _ _ _) (Rd.nil0 _ _ _) (Rd.nil0 _ _ _) rfl rfl
    simp only [ez8, ez16, ezf, exff, List.length_nil] at h5
    exact h5
  have h1 := Lib.hid g3
  have h2 := Lib.hid g5
  have h3 := Lib.hid g4
  have h4 := Lib.hid g6
  clear hlc hcc hm hlc2 hcc2 hm2 HZ1 HZ2 g3 g4 g5 g6
  obtain ⟨V, hV⟩ : ∃ V, V = (((w.alloc (.cells #[.int .u32 (s.toNat : Int), .int .u32 (d.toNat : Int), .int .u16 (p.toNat : Int), .int .u16 (q.toNat : Int), .int .u8 (r.toNat : Int)] 28)).alloc (.cells #[.int .u16 (sa.toNat : Int), .int .u16 (sb.toNat : Int), .int .u32 (sq.toNat : Int), .int .u32 (sk.toNat : Int), .int .u8 (sr.toNat : Int), .int .u8 (sf.toNat : Int), .int .u16 (sz.toNat : Int), .int .u16 (su.toNat : Int), .slice A1 n1 c1, .slice A2 n2 c2] 44)).alloc (.cells #[.int .u32 (fs.toNat : Int), .int .u32 (fd.toNat : Int), .int .u16 (fp.toNat : Int), .int .u16 (fq.toNat : Int), .int .u8 (fr.toNat : Int), .int .i64 eb, .int .i64 eh, .int .i64 ea, .bool ex, .bool ej, .int .u16 (et.toNat : Int), .int .u32 (es.toNat : Int), .int .u32 (ei.toNat : Int)] 55)) := ⟨_, rfl⟩
  have hB : Below w.heap.size w V := by subst hV; exact (bnextA (bnextA (bnextA (Below.refl _ _) _) _) _)
  have KF : Blk V (w.heap.size) [.int .u32 (s.toNat : Int), .int .u32 (d.toNat : Int), .int .u16 (p.toNat : Int), .int .u16 (q.toNat : Int), .int .u8 (r.toNat : Int)] 28 := by subst hV; simpa using ((Blk.new w #[.int .u32 (s.toNat : Int), .int .u32 (d.toNat : Int), .int .u16 (p.toNat : Int), .int .u16 (q.toNat : Int), .int .u8 (r.toNat : Int)] 28).alloc (.cells #[.int .u16 (sa.toNat : Int), .int .u16 (sb.toNat : Int), .int .u32 (sq.toNat : Int), .int .u32 (sk.toNat : Int), .int .u8 (sr.toNat : Int), .int .u8 (sf.toNat : Int), .int .u16 (sz.toNat : Int), .int .u16 (su.toNat : Int), .slice A1 n1 c1, .slice A2 n2 c2] 44)).alloc (.cells #[.int .u32 (fs.toNat : Int), .int .u32 (fd.toNat : Int), .int .u16 (fp.toNat : Int), .int .u16 (fq.toNat : Int), .int .u8 (fr.toNat : Int), .int .i64 eb, .int .i64 eh, .int .i64 ea, .bool ex, .bool ej, .int .u16 (et.toNat : Int), .int .u32 (es.toNat : Int), .int .u32 (ei.toNat : Int)] 55)
  have KG : Blk V (w.heap.size + 1) [.int .u16 (sa.toNat : Int), .int .u16 (sb.toNat : Int), .int .u32 (sq.toNat : Int), .int .u32 (sk.toNat : Int), .int .u8 (sr.toNat : Int), .int .u8 (sf.toNat : Int), .int .u16 (sz.toNat : Int), .int .u16 (su.toNat : Int), .slice A1 n1 c1, .slice A2 n2 c2] 44 := by subst hV; simpa using (Blk.new (w.alloc (.cells #[.int .u32 (s.toNat : Int), .int .u32 (d.toNat : Int), .int .u16 (p.toNat : Int), .int .u16 (q.toNat : Int), .int .u8 (r.toNat : Int)] 28)) #[.int .u16 (sa.toNat : Int), .int .u16 (sb.toNat : Int), .int .u32 (sq.toNat : Int), .int .u32 (sk.toNat : Int), .int .u8 (sr.toNat : Int), .int .u8 (sf.toNat : Int), .int .u16 (sz.toNat : Int), .int .u16 (su.toNat : Int), .slice A1 n1 c1, .slice A2 n2 c2] 44).alloc (.cells #[.int .u32 (fs.toNat : Int), .int .u32 (fd.toNat : Int), .int .u16 (fp.toNat : Int), .int .u16 (fq.toNat : Int), .int .u8 (fr.toNat : Int), .int .i64 eb, .int .i64 eh, .int .i64 ea, .bool ex, .bool ej, .int .u16 (et.toNat : Int), .int .u32 (es.toNat : Int), .int .u32 (ei.toNat : Int)] 55)
  have KE : Blk V (w.heap.size + 2) [.int .u32 (fs.toNat : Int), .int .u32 (fd.toNat : Int), .int .u16 (fp.toNat : Int), .int .u16 (fq.toNat : Int), .int .u8 (fr.toNat : Int), .int .i64 eb, .int .i64 eh, .int .i64 ea, .bool ex, .bool ej, .int .u16 (et.toNat : Int), .int .u32 (es.toNat : Int), .int .u32 (ei.toNat : Int)] 55 := by subst hV; simpa using Blk.new ((w.alloc (.cells #[.int .u32 (s.toNat : Int), .int .u32 (d.toNat : Int), .int .u16 (p.toNat : Int), .int .u16 (q.toNat : Int), .int .u8 (r.toNat : Int)] 28)).alloc (.cells #[.int .u16 (sa.toNat : Int), .int .u16 (sb.toNat : Int), .int .u32 (sq.toNat : Int), .int .u32 (sk.toNat : Int), .int .u8 (sr.toNat : Int), .int .u8 (sf.toNat : Int), .int .u16 (sz.toNat : Int), .int .u16 (su.toNat : Int), .slice A1 n1 c1, .slice A2 n2 c2] 44)) #[.int .u32 (fs.toNat : Int), .int .u32 (fd.toNat : Int), .int .u16 (fp.toNat : Int), .int .u16 (fq.toNat : Int), .int .u8 (fr.toNat : Int), .int .i64 eb, .int .i64 eh, .int .i64 ea, .bool ex, .bool ej, .int .u16 (et.toNat : Int), .int .u32 (es.toNat : Int), .int .u32 (ei.toNat : Int)] 55
  obtain ⟨z0, z1, z2, z3, z4, z5, z6, z7, z8, z9, -⟩ := KG.get10
  go_enter Tryd.func7, Tryd.ntmps7
  go_wp2_with fail
  rw [← hV]
  clear hV
  refine (HF _).out.mono ?_
  rintro e w1 ⟨rfl, hb⟩
  replace hB := bnext hB hb
  replace KF := KF.next hb
  replace KG := KG.next hb
  replace KE := KE.next hb
  clear hb HF z0 z1 z2 z3 z4 z5 z6 z7 z8 z9
  obtain ⟨z0, z1, z2, z3, z4, z5, z6, z7, z8, z9, b0, b1, b2, b3, b4, b5, b6, b7, b8, b9⟩ := KG.get10
  have hBV := bset10 hB (show w.heap.size ≤ w.heap.size + 1 by omega) (.int .u16 (sa.toNat : Int)) (.int .u16 (sb.toNat : Int)) (.int .u32 (sq.toNat : Int)) (.int .u32 (sk.toNat : Int)) (.int .u8 (sr.toNat : Int)) (.int .u8 (sf.toNat : Int)) (.int .u16 (sz.toNat : Int)) (.int .u16 (su.toNat : Int)) (.slice A1 os.length c1) (.slice A2 xs.length c2)
  have KFV := KF.oth10 (g' := w.heap.size + 1) (by omega) (u0 := .int .u16 (sa.toNat : Int)) (u1 := .int .u16 (sb.toNat : Int)) (u2 := .int .u32 (sq.toNat : Int)) (u3 := .int .u32 (sk.toNat : Int)) (u4 := .int .u8 (sr.toNat : Int)) (u5 := .int .u8 (sf.toNat : Int)) (u6 := .int .u16 (sz.toNat : Int)) (u7 := .int .u16 (su.toNat : Int)) (u8 := .slice A1 os.length c1) (u9 := .slice A2 xs.length c2)
  have KEV := KE.oth10 (g' := w.heap.size + 1) (by omega) (u0 := .int .u16 (sa.toNat : Int)) (u1 := .int .u16 (sb.toNat : Int)) (u2 := .int .u32 (sq.toNat : Int)) (u3 := .int .u32 (sk.toNat : Int)) (u4 := .int .u8 (sr.toNat : Int)) (u5 := .int .u8 (sf.toNat : Int)) (u6 := .int .u16 (sz.toNat : Int)) (u7 := .int .u16 (su.toNat : Int)) (u8 := .slice A1 os.length c1) (u9 := .slice A2 xs.length c2)
  have KGV := KG.set10 (u0 := .int .u16 (sa.toNat : Int)) (u1 := .int .u16 (sb.toNat : Int)) (u2 := .int .u32 (sq.toNat : Int)) (u3 := .int .u32 (sk.toNat : Int)) (u4 := .int .u8 (sr.toNat : Int)) (u5 := .int .u8 (sf.toNat : Int)) (u6 := .int .u16 (sz.toNat : Int)) (u7 := .int .u16 (su.toNat : Int)) (u8 := .slice A1 os.length c1) (u9 := .slice A2 xs.length c2)
  simp only [setAll10] at hBV KFV KEV KGV
  have hlt0 := KE.lt
  clear KF KG KE hB
  obtain ⟨l0, l1, l2, l3, l4, -⟩ := KFV.get5
  obtain ⟨y0, y1, y2, y3, y4, y5, y6, y7, y8, y9, -⟩ := KGV.get10
  have hB := bnextA hBV (.cells #[.int .u32 (s.toNat : Int), .int .u32 (d.toNat : Int), .int .u16 (p.toNat : Int), .int .u16 (q.toNat : Int), .int .u8 (r.toNat : Int), .int .i64 b, .int .i64 1, .int .i64 0, .bool true, .bool false, .int .u16 port, .int .u32 (v0.toNat : Int), .int .u32 (f0.toNat : Int)] 55)
  have KW : Blk (((((((((((w1.setCell ⟨w.heap.size + 1, 0, none⟩ (.int .u16 (sa.toNat : Int))).setCell ⟨w.heap.size + 1, 1, none⟩ (.int .u16 (sb.toNat : Int))).setCell ⟨w.heap.size + 1, 2, none⟩ (.int .u32 (sq.toNat : Int))).setCell ⟨w.heap.size + 1, 3, none⟩ (.int .u32 (sk.toNat : Int))).setCell ⟨w.heap.size + 1, 4, none⟩ (.int .u8 (sr.toNat : Int))).setCell ⟨w.heap.size + 1, 5, none⟩ (.int .u8 (sf.toNat : Int))).setCell ⟨w.heap.size + 1, 6, none⟩ (.int .u16 (sz.toNat : Int))).setCell ⟨w.heap.size + 1, 7, none⟩ (.int .u16 (su.toNat : Int))).setCell ⟨w.heap.size + 1, 8, none⟩ (.slice A1 os.length c1)).setCell ⟨w.heap.size + 1, 9, none⟩ (.slice A2 xs.length c2)).alloc (.cells #[.int .u32 (s.toNat : Int), .int .u32 (d.toNat : Int), .int .u16 (p.toNat : Int), .int .u16 (q.toNat : Int), .int .u8 (r.toNat : Int), .int .i64 b, .int .i64 1, .int .i64 0, .bool true, .bool false, .int .u16 port, .int .u32 (v0.toNat : Int), .int .u32 (f0.toNat : Int)] 55)) w1.heap.size [.int .u32 (s.toNat : Int), .int .u32 (d.toNat : Int), .int .u16 (p.toNat : Int), .int .u16 (q.toNat : Int), .int .u8 (r.toNat : Int), .int .i64 b, .int .i64 1, .int .i64 0, .bool true, .bool false, .int .u16 port, .int .u32 (v0.toNat : Int), .int .u32 (f0.toNat : Int)] 55 := by simpa using Blk.new ((((((((((w1.setCell ⟨w.heap.size + 1, 0, none⟩ (.int .u16 (sa.toNat : Int))).setCell ⟨w.heap.size + 1, 1, none⟩ (.int .u16 (sb.toNat : Int))).setCell ⟨w.heap.size + 1, 2, none⟩ (.int .u32 (sq.toNat : Int))).setCell ⟨w.heap.size + 1, 3, none⟩ (.int .u32 (sk.toNat : Int))).setCell ⟨w.heap.size + 1, 4, none⟩ (.int .u8 (sr.toNat : Int))).setCell ⟨w.heap.size + 1, 5, none⟩ (.int .u8 (sf.toNat : Int))).setCell ⟨w.heap.size + 1, 6, none⟩ (.int .u16 (sz.toNat : Int))).setCell ⟨w.heap.size + 1, 7, none⟩ (.int .u16 (su.toNat : Int))).setCell ⟨w.heap.size + 1, 8, none⟩ (.slice A1 os.length c1)).setCell ⟨w.heap.size + 1, 9, none⟩ (.slice A2 xs.length c2)) #[.int .u32 (s.toNat : Int), .int .u32 (d.toNat : Int), .int .u16 (p.toNat : Int), .int .u16 (q.toNat : Int), .int .u8 (r.toNat : Int), .int .i64 b, .int .i64 1, .int .i64 0, .bool true, .bool false, .int .u16 port, .int .u32 (v0.toNat : Int), .int .u32 (f0.toNat : Int)] 55
  have KF := KFV.alloc (.cells #[.int .u32 (s.toNat : Int), .int .u32 (d.toNat : Int), .int .u16 (p.toNat : Int), .int .u16 (q.toNat : Int), .int .u8 (r.toNat : Int), .int .i64 b, .int .i64 1, .int .i64 0, .bool true, .bool false, .int .u16 port, .int .u32 (v0.toNat : Int), .int .u32 (f0.toNat : Int)] 55)
  have KE := KEV.alloc (.cells #[.int .u32 (s.toNat : Int), .int .u32 (d.toNat : Int), .int .u16 (p.toNat : Int), .int .u16 (q.toNat : Int), .int .u8 (r.toNat : Int), .int .i64 b, .int .i64 1, .int .i64 0, .bool true, .bool false, .int .u16 port, .int .u32 (v0.toNat : Int), .int .u32 (f0.toNat : Int)] 55)
  have KG := KGV.alloc (.cells #[.int .u32 (s.toNat : Int), .int .u32 (d.toNat : Int), .int .u16 (p.toNat : Int), .int .u16 (q.toNat : Int), .int .u8 (r.toNat : Int), .int .i64 b, .int .i64 1, .int .i64 0, .bool true, .bool false, .int .u16 port, .int .u32 (v0.toNat : Int), .int .u32 (f0.toNat : Int)] 55)
  have hlt : Hid (w.heap.size + 2 < (((((((((((w1.setCell ⟨w.heap.size + 1, 0, none⟩ (.int .u16 (sa.toNat : Int))).setCell ⟨w.heap.size + 1, 1, none⟩ (.int .u16 (sb.toNat : Int))).setCell ⟨w.heap.size + 1, 2, none⟩ (.int .u32 (sq.toNat : Int))).setCell ⟨w.heap.size + 1, 3, none⟩ (.int .u32 (sk.toNat : Int))).setCell ⟨w.heap.size + 1, 4, none⟩ (.int .u8 (sr.toNat : Int))).setCell ⟨w.heap.size + 1, 5, none⟩ (.int .u8 (sf.toNat : Int))).setCell ⟨w.heap.size + 1, 6, none⟩ (.int .u16 (sz.toNat : Int))).setCell ⟨w.heap.size + 1, 7, none⟩ (.int .u16 (su.toNat : Int))).setCell ⟨w.heap.size + 1, 8, none⟩ (.slice A1 os.length c1)).setCell ⟨w.heap.size + 1, 9, none⟩ (.slice A2 xs.length c2)).alloc (.cells #[.int .u32 (s.toNat : Int), .int .u32 (d.toNat : Int), .int .u16 (p.toNat : Int), .int .u16 (q.toNat : Int), .int .u8 (r.toNat : Int), .int .i64 b, .int .i64 1, .int .i64 0, .bool true, .bool false, .int .u16 port, .int .u32 (v0.toNat : Int), .int .u32 (f0.toNat : Int)] 55)).heap.size) := KE.lt
  clear KFV KEV KGV hBV hlt0
  go_wp2_with fail
  clear z0 z1 z2 z3 z4 z5 z6 z7 z8 z9 b0 b1 b2 b3 b4 b5 b6 b7 b8 b9 y0 y1 y2 y3 y4 y5 y6 y7 y8 y9 l0 l1 l2 l3 l4 g1 g2
  generalize ((((((((((w1.setCell ⟨w.heap.size + 1, 0, none⟩ (.int .u16 (sa.toNat : Int))).setCell ⟨w.heap.size + 1, 1, none⟩ (.int .u16 (sb.toNat : Int))).setCell ⟨w.heap.size + 1, 2, none⟩ (.int .u32 (sq.toNat : Int))).setCell ⟨w.heap.size + 1, 3, none⟩ (.int .u32 (sk.toNat : Int))).setCell ⟨w.heap.size + 1, 4, none⟩ (.int .u8 (sr.toNat : Int))).setCell ⟨w.heap.size + 1, 5, none⟩ (.int .u8 (sf.toNat : Int))).setCell ⟨w.heap.size + 1, 6, none⟩ (.int .u16 (sz.toNat : Int))).setCell ⟨w.heap.size + 1, 7, none⟩ (.int .u16 (su.toNat : Int))).setCell ⟨w.heap.size + 1, 8, none⟩ (.slice A1 os.length c1)).setCell ⟨w.heap.size + 1, 9, none⟩ (.slice A2 xs.length c2)).alloc (.cells #[.int .u32 (s.toNat : Int), .int .u32 (d.toNat : Int), .int .u16 (p.toNat : Int), .int .u16 (q.toNat : Int), .int .u8 (r.toNat : Int), .int .i64 b, .int .i64 1, .int .i64 0, .bool true, .bool false, .int .u16 port, .int .u32 (v0.toNat : Int), .int .u32 (f0.toNat : Int)] 55) = V3 at hB KF KG KE KW hlt ⊢
  generalize w1.heap.size = gt at *
  have hSV := hS.next hB
  refine region_put (by kernel_rfl) (by kernel_rfl) (by kernel_rfl) 116 rfl (by kernel_rfl) V3 (fun i v W => match i with
      | 0 => v = .agg #[.int .u32 (s.toNat : Int), .int .u32 (d.toNat : Int), .int .u16 (p.toNat : Int), .int .u16 (q.toNat : Int), .int .u8 (r.toNat : Int)]
      | 1 => v = .int .i64 b
      | 2 => v = .int .u16 port
      | 3 => v = .agg #[.int .u16 (sa.toNat : Int), .int .u16 (sb.toNat : Int), .int .u32 (sq.toNat : Int), .int .u32 (sk.toNat : Int), .int .u8 (sr.toNat : Int), .int .u8 (sf.toNat : Int), .int .u16 (sz.toNat : Int), .int .u16 (su.toNat : Int), .slice A1 os.length c1, .slice A2 xs.length c2]
      | 4 => v = .agg #[.int .u32 (s.toNat : Int), .int .u32 (d.toNat : Int), .int .u16 (p.toNat : Int), .int .u16 (q.toNat : Int), .int .u8 (r.toNat : Int), .int .i64 b, .int .i64 1, .int .i64 0, .bool true, .bool false, .int .u16 port, .int .u32 (v0.toNat : Int), .int .u32 (f0.toNat : Int)]
      | 5 => v = .agg #[.int .u32 (s.toNat : Int), .int .u32 (d.toNat : Int), .int .u16 (p.toNat : Int), .int .u16 (q.toNat : Int), .int .u8 (r.toNat : Int), .int .i64 b, .int .i64 1, .int .i64 0, .bool true, .bool false, .int .u16 port, .int .u32 (v0.toNat : Int), .int .u32 (f0.toNat : Int)]
      | 6 => v = .bool false
      | 7 => v = .bool false
      | 8 => v = .agg #[.int .u32 (fs.toNat : Int), .int .u32 (fd.toNat : Int), .int .u16 (fp.toNat : Int), .int .u16 (fq.toNat : Int), .int .u8 (fr.toNat : Int), .int .i64 eb, .int .i64 eh, .int .i64 ea, .bool ex, .bool ej, .int .u16 (et.toNat : Int), .int .u32 (es.toNat : Int), .int .u32 (ei.toNat : Int)]
      | 9 => v = .int .u16 (to.toNat : Int)
      | 10 => v = .int .i64 iq
      | 11 => ∃ L A c M B d, v = .agg #[.int .u16 (et.toNat : Int), .int .u16 (to.toNat : Int), .int .u32 (ei.toNat : Int), .int .u32 0, .int .u8 0, .int .u8 2, .int .u16 65535, .int .u16 0, .slice A L.length c, .slice B M.length d] ∧ Hid (L = [2, 4] ++ be16 z) ∧ Hid (M = []) ∧ Rd bv W W.heap.size A c L ∧ Rd bv W W.heap.size B d M
      | 12 => v = .agg #[.int .u32 (fs.toNat : Int), .int .u32 (fd.toNat : Int), .int .u16 (fp.toNat : Int), .int .u16 (fq.toNat : Int), .int .u8 (fr.toNat : Int), .int .i64 eb, .int .i64 eh, .int .i64 ea, .bool ex, .bool ej, .int .u16 (et.toNat : Int), .int .u32 (es.toNat : Int), .int .u32 (ei.toNat : Int)]
      | 13 => v = .int .u16 (to.toNat : Int)
      | 14 => v = .int .i64 iq
      | 15 => ∃ L A c M B d, v = .agg #[.int .u16 (et.toNat : Int), .int .u16 (to.toNat : Int), .int .u32 (ei.toNat : Int), .int .u32 0, .int .u8 0, .int .u8 2, .int .u16 65535, .int .u16 0, .slice A L.length c, .slice B M.length d] ∧ Hid (L = [2, 4] ++ be16 z) ∧ Hid (M = []) ∧ Rd bv W W.heap.size A c L ∧ Rd bv W W.heap.size B d M
      | 16 => v = .bool true
      | 17 => v = .bool false
      | 18 => v = .bool false
      | _ => True) (Below.refl _ _) ?_ ?_ ?_
  · intro i v W W' h hb
    match i, h with
    | 0, h => exact h
    | 1, h => exact h
    | 2, h => exact h
    | 3, h => exact h
    | 4, h => exact h
    | 5, h => exact h
    | 6, h => exact h
    | 7, h => exact h
    | 8, h => exact h
    | 9, h => exact h
    | 10, h => exact h
    | 11, h => obtain ⟨L, A, c, M, B, d, h1, h2, h3, h4, h5⟩ := h; exact ⟨L, A, c, M, B, d, h1, h2, h3, h4.next hb, h5.next hb⟩
    | 12, h => exact h
    | 13, h => exact h
    | 14, h => exact h
    | 15, h => obtain ⟨L, A, c, M, B, d, h1, h2, h3, h4, h5⟩ := h; exact ⟨L, A, c, M, B, d, h1, h2, h3, h4.next hb, h5.next hb⟩
    | 16, h => exact h
    | 17, h => exact h
    | 18, h => exact h
    | _ + 19, _ => trivial
  · intro i o uu W hoo hVW hd
    rcases i with _|_|_|_|_|_|_|_|_|_|_|_|_|_|_|_|_|_|_|i
    · obtain rfl := Option.some.inj hoo
      refine .inl ⟨wanted_none rfl, ?_⟩
      generalize hev : Act.eval _ = ev
      have ec : ∀ c, ev (.const c) = c := fun c => by rw [← hev]; rfl
      have e7 : ev (.tmp 7) = .pointer (some ⟨w.heap.size, 0, none⟩) := by rw [← hev]; exact eval_old (by kernel_rfl) 116 rfl (by decide) rfl
      clear hev hd
      exact .inl ⟨_, W, load_blk Tryd.underlying28 (by kernel_rfl) (KF.next hVW) rfl e7, rfl, Below.refl _ _⟩
    · obtain rfl := Option.some.inj hoo
      refine .inl ⟨wanted_none rfl, ?_⟩
      generalize hev : Act.eval _ = ev
      have ec : ∀ c, ev (.const c) = c := fun c => by rw [← hev]; rfl
      have e1 : ev (.tmp 1) = .int .i64 b := by rw [← hev]; exact eval_old (by kernel_rfl) 116 rfl (by decide) rfl
      clear hev hd
      exact .inl ⟨_, W, by go_simp, rfl, Below.refl _ _⟩
    · obtain rfl := Option.some.inj hoo
      refine .inl ⟨wanted_none rfl, ?_⟩
      generalize hev : Act.eval _ = ev
      have ec : ∀ c, ev (.const c) = c := fun c => by rw [← hev]; rfl
      have e2 : ev (.tmp 2) = .int .u16 port := by rw [← hev]; exact eval_old (by kernel_rfl) 116 rfl (by decide) rfl
      clear hev hd
      exact .inl ⟨_, W, by go_simp, rfl, Below.refl _ _⟩
    · obtain rfl := Option.some.inj hoo
      refine .inl ⟨wanted_none rfl, ?_⟩
      generalize hev : Act.eval _ = ev
      have ec : ∀ c, ev (.const c) = c := fun c => by rw [← hev]; rfl
      have e11 : ev (.tmp 11) = .pointer (some ⟨w.heap.size + 1, 0, none⟩) := by rw [← hev]; exact eval_old (by kernel_rfl) 116 rfl (by decide) rfl
      clear hev hd
      exact .inl ⟨_, W, load_blk Tryd.underlying44 (by kernel_rfl) (KG.next hVW) rfl e11, rfl, Below.refl _ _⟩
    · obtain rfl := Option.some.inj hoo
      have q0 : uu 0 = .agg #[.int .u32 (s.toNat : Int), .int .u32 (d.toNat : Int), .int .u16 (p.toNat : Int), .int .u16 (q.toNat : Int), .int .u8 (r.toNat : Int)] := hd 0 (by kernel_rfl)
      have q1 : uu 1 = .int .i64 b := hd 1 (by kernel_rfl)
      have q2 : uu 2 = .int .u16 port := hd 2 (by kernel_rfl)
      have q3 : uu 3 = .agg #[.int .u16 (sa.toNat : Int), .int .u16 (sb.toNat : Int), .int .u32 (sq.toNat : Int), .int .u32 (sk.toNat : Int), .int .u8 (sr.toNat : Int), .int .u8 (sf.toNat : Int), .int .u16 (sz.toNat : Int), .int .u16 (su.toNat : Int), .slice A1 os.length c1, .slice A2 xs.length c2] := hd 3 (by kernel_rfl)
      refine .inl ⟨wanted_none rfl, ?_⟩
      generalize hev : Act.eval _ = ev
      have ec : ∀ c, ev (.const c) = c := fun c => by rw [← hev]; rfl
      have ef : ∀ f, ev (.func f) = .func (.func f) #[] #[] := fun f => by rw [← hev]; rfl
      have e31 : ev (.tmp 31) = .agg #[.int .u32 (s.toNat : Int), .int .u32 (d.toNat : Int), .int .u16 (p.toNat : Int), .int .u16 (q.toNat : Int), .int .u8 (r.toNat : Int)] := by rw [← hev]; exact (eval_put (by kernel_rfl) 116 rfl (by decide)).trans q0
      have e32 : ev (.tmp 32) = .int .i64 b := by rw [← hev]; exact (eval_put (by kernel_rfl) 116 rfl (by decide)).trans q1
      have e33 : ev (.tmp 33) = .int .u16 port := by rw [← hev]; exact (eval_put (by kernel_rfl) 116 rfl (by decide)).trans q2
      have e34 : ev (.tmp 34) = .agg #[.int .u16 (sa.toNat : Int), .int .u16 (sb.toNat : Int), .int .u32 (sq.toNat : Int), .int .u32 (sk.toNat : Int), .int .u8 (sr.toNat : Int), .int .u8 (sf.toNat : Int), .int .u16 (sz.toNat : Int), .int .u16 (su.toNat : Int), .slice A1 os.length c1, .slice A2 xs.length c2] := by rw [← hev]; exact (eval_put (by kernel_rfl) 116 rfl (by decide)).trans q3
      clear hev hd q0 q1 q2 q3
      exact .inr ⟨_, _, _, by go_simp, (HOP W).out, fun e w' he => ⟨_, he.1, rfl, he.2⟩⟩
    · obtain rfl := Option.some.inj hoo
      refine .inl ⟨wanted_none rfl, ?_⟩
      generalize hev : Act.eval _ = ev
      have ec : ∀ c, ev (.const c) = c := fun c => by rw [← hev]; rfl
      have e15 : ev (.tmp 15) = .pointer (some ⟨gt, 0, none⟩) := by rw [← hev]; exact eval_old (by kernel_rfl) 116 rfl (by decide) rfl
      clear hev hd
      exact .inl ⟨_, W, load_blk Tryd.underlying55 (by kernel_rfl) (KW.next hVW) rfl e15, rfl, Below.refl _ _⟩
    · obtain rfl := Option.some.inj hoo
      have q4 : uu 4 = .agg #[.int .u32 (s.toNat : Int), .int .u32 (d.toNat : Int), .int .u16 (p.toNat : Int), .int .u16 (q.toNat : Int), .int .u8 (r.toNat : Int), .int .i64 b, .int .i64 1, .int .i64 0, .bool true, .bool false, .int .u16 port, .int .u32 (v0.toNat : Int), .int .u32 (f0.toNat : Int)] := hd 4 (by kernel_rfl)
      have q5 : uu 5 = .agg #[.int .u32 (s.toNat : Int), .int .u32 (d.toNat : Int), .int .u16 (p.toNat : Int), .int .u16 (q.toNat : Int), .int .u8 (r.toNat : Int), .int .i64 b, .int .i64 1, .int .i64 0, .bool true, .bool false, .int .u16 port, .int .u32 (v0.toNat : Int), .int .u32 (f0.toNat : Int)] := hd 5 (by kernel_rfl)
      refine .inl ⟨wanted_none rfl, ?_⟩
      generalize hev : Act.eval _ = ev
      have ec : ∀ c, ev (.const c) = c := fun c => by rw [← hev]; rfl
      have e35 : ev (.tmp 35) = .agg #[.int .u32 (s.toNat : Int), .int .u32 (d.toNat : Int), .int .u16 (p.toNat : Int), .int .u16 (q.toNat : Int), .int .u8 (r.toNat : Int), .int .i64 b, .int .i64 1, .int .i64 0, .bool true, .bool false, .int .u16 port, .int .u32 (v0.toNat : Int), .int .u32 (f0.toNat : Int)] := by rw [← hev]; exact (eval_put (by kernel_rfl) 116 rfl (by decide)).trans q4
      have e36 : ev (.tmp 36) = .agg #[.int .u32 (s.toNat : Int), .int .u32 (d.toNat : Int), .int .u16 (p.toNat : Int), .int .u16 (q.toNat : Int), .int .u8 (r.toNat : Int), .int .i64 b, .int .i64 1, .int .i64 0, .bool true, .bool false, .int .u16 port, .int .u32 (v0.toNat : Int), .int .u32 (f0.toNat : Int)] := by rw [← hev]; exact (eval_put (by kernel_rfl) 116 rfl (by decide)).trans q5
      clear hev hd q4 q5
      exact .inl ⟨_, W, by go_simp, rfl, Below.refl _ _⟩
    · obtain rfl := Option.some.inj hoo
      have q6 : uu 6 = .bool false := hd 6 (by kernel_rfl)
      refine .inl ⟨wanted_none rfl, ?_⟩
      generalize hev : Act.eval _ = ev
      have ec : ∀ c, ev (.const c) = c := fun c => by rw [← hev]; rfl
      have e37 : ev (.tmp 37) = .bool false := by rw [← hev]; exact (eval_put (by kernel_rfl) 116 rfl (by decide)).trans q6
      clear hev hd q6
      exact .inl ⟨_, W, by go_simp, rfl, Below.refl _ _⟩
    · obtain rfl := Option.some.inj hoo
      have q7 : uu 7 = .bool false := hd 7 (by kernel_rfl)
      refine .inl ⟨wanted_yes rfl (yielded_put (k := 38) (by kernel_rfl) (by kernel_rfl) 116 rfl (by decide) q7), ?_⟩
      generalize hev : Act.eval _ = ev
      have ec : ∀ c, ev (.const c) = c := fun c => by rw [← hev]; rfl
      have e12 : ev (.tmp 12) = .pointer (some ⟨w.heap.size + 2, 0, none⟩) := by rw [← hev]; exact eval_old (by kernel_rfl) 116 rfl (by decide) rfl
      clear hev hd q7
      exact .inl ⟨_, W, load_blk Tryd.underlying55 (by kernel_rfl) (KE.next hVW) rfl e12, rfl, Below.refl _ _⟩
    · obtain rfl := Option.some.inj hoo
      have q7 : uu 7 = .bool false := hd 7 (by kernel_rfl)
      refine .inl ⟨wanted_yes rfl (yielded_put (k := 38) (by kernel_rfl) (by kernel_rfl) 116 rfl (by decide) q7), ?_⟩
      generalize hev : Act.eval _ = ev
      have ec : ∀ c, ev (.const c) = c := fun c => by rw [← hev]; rfl
      have e3 : ev (.tmp 3) = .int .u16 (to.toNat : Int) := by rw [← hev]; exact eval_old (by kernel_rfl) 116 rfl (by decide) rfl
      clear hev hd q7
      exact .inl ⟨_, W, by go_simp, rfl, Below.refl _ _⟩
    · obtain rfl := Option.some.inj hoo
      have q7 : uu 7 = .bool false := hd 7 (by kernel_rfl)
      refine .inl ⟨wanted_yes rfl (yielded_put (k := 38) (by kernel_rfl) (by kernel_rfl) 116 rfl (by decide) q7), ?_⟩
      generalize hev : Act.eval _ = ev
      have ec : ∀ c, ev (.const c) = c := fun c => by rw [← hev]; rfl
      have e6 : ev (.tmp 6) = .int .i64 iq := by rw [← hev]; exact eval_old (by kernel_rfl) 116 rfl (by decide) rfl
      clear hev hd q7
      exact .inl ⟨_, W, by go_simp, rfl, Below.refl _ _⟩
    · obtain rfl := Option.some.inj hoo
      have q8 : uu 8 = .agg #[.int .u32 (fs.toNat : Int), .int .u32 (fd.toNat : Int), .int .u16 (fp.toNat : Int), .int .u16 (fq.toNat : Int), .int .u8 (fr.toNat : Int), .int .i64 eb, .int .i64 eh, .int .i64 ea, .bool ex, .bool ej, .int .u16 (et.toNat : Int), .int .u32 (es.toNat : Int), .int .u32 (ei.toNat : Int)] := hd 8 (by kernel_rfl)
      have q9 : uu 9 = .int .u16 (to.toNat : Int) := hd 9 (by kernel_rfl)
      have q10 : uu 10 = .int .i64 iq := hd 10 (by kernel_rfl)
      have q7 : uu 7 = .bool false := hd 7 (by kernel_rfl)
      refine .inl ⟨wanted_yes rfl (yielded_put (k := 38) (by kernel_rfl) (by kernel_rfl) 116 rfl (by decide) q7), ?_⟩
      generalize hev : Act.eval _ = ev
      have ec : ∀ c, ev (.const c) = c := fun c => by rw [← hev]; rfl
      have ef : ∀ f, ev (.func f) = .func (.func f) #[] #[] := fun f => by rw [← hev]; rfl
      have e39 : ev (.tmp 39) = .agg #[.int .u32 (fs.toNat : Int), .int .u32 (fd.toNat : Int), .int .u16 (fp.toNat : Int), .int .u16 (fq.toNat : Int), .int .u8 (fr.toNat : Int), .int .i64 eb, .int .i64 eh, .int .i64 ea, .bool ex, .bool ej, .int .u16 (et.toNat : Int), .int .u32 (es.toNat : Int), .int .u32 (ei.toNat : Int)] := by rw [← hev]; exact (eval_put (by kernel_rfl) 116 rfl (by decide)).trans q8
      have e40 : ev (.tmp 40) = .int .u16 (to.toNat : Int) := by rw [← hev]; exact (eval_put (by kernel_rfl) 116 rfl (by decide)).trans q9
      have e41 : ev (.tmp 41) = .int .i64 iq := by rw [← hev]; exact (eval_put (by kernel_rfl) 116 rfl (by decide)).trans q10
      clear hev hd q8 q9 q10 q7
      exact .inr ⟨_, _, _, by go_simp, (HC W (hSV.next hVW)).out, fun e w' he => by
        obtain ⟨L, A, c, M, B, d, rfl, HL, HM, hr, hs, hb⟩ := he
        exact ⟨_, rfl, ⟨L, A, c, M, B, d, rfl, HL, HM, hr, hs⟩, hb⟩⟩
    · obtain rfl := Option.some.inj hoo
      have q7 : uu 7 = .bool false := hd 7 (by kernel_rfl)
      refine .inl ⟨wanted_yes rfl (yielded_put (k := 38) (by kernel_rfl) (by kernel_rfl) 116 rfl (by decide) q7), ?_⟩
      generalize hev : Act.eval _ = ev
      have ec : ∀ c, ev (.const c) = c := fun c => by rw [← hev]; rfl
      have e12 : ev (.tmp 12) = .pointer (some ⟨w.heap.size + 2, 0, none⟩) := by rw [← hev]; exact eval_old (by kernel_rfl) 116 rfl (by decide) rfl
      clear hev hd q7
      exact .inl ⟨_, W, load_blk Tryd.underlying55 (by kernel_rfl) (KE.next hVW) rfl e12, rfl, Below.refl _ _⟩
    · obtain rfl := Option.some.inj hoo
      have q7 : uu 7 = .bool false := hd 7 (by kernel_rfl)
      refine .inl ⟨wanted_yes rfl (yielded_put (k := 38) (by kernel_rfl) (by kernel_rfl) 116 rfl (by decide) q7), ?_⟩
      generalize hev : Act.eval _ = ev
      have ec : ∀ c, ev (.const c) = c := fun c => by rw [← hev]; rfl
      have e3 : ev (.tmp 3) = .int .u16 (to.toNat : Int) := by rw [← hev]; exact eval_old (by kernel_rfl) 116 rfl (by decide) rfl
      clear hev hd q7
      exact .inl ⟨_, W, by go_simp, rfl, Below.refl _ _⟩
    · obtain rfl := Option.some.inj hoo
      have q7 : uu 7 = .bool false := hd 7 (by kernel_rfl)
      refine .inl ⟨wanted_yes rfl (yielded_put (k := 38) (by kernel_rfl) (by kernel_rfl) 116 rfl (by decide) q7), ?_⟩
      generalize hev : Act.eval _ = ev
      have ec : ∀ c, ev (.const c) = c := fun c => by rw [← hev]; rfl
      have e6 : ev (.tmp 6) = .int .i64 iq := by rw [← hev]; exact eval_old (by kernel_rfl) 116 rfl (by decide) rfl
      clear hev hd q7
      exact .inl ⟨_, W, by go_simp, rfl, Below.refl _ _⟩
    · obtain rfl := Option.some.inj hoo
      have q12 : uu 12 = .agg #[.int .u32 (fs.toNat : Int), .int .u32 (fd.toNat : Int), .int .u16 (fp.toNat : Int), .int .u16 (fq.toNat : Int), .int .u8 (fr.toNat : Int), .int .i64 eb, .int .i64 eh, .int .i64 ea, .bool ex, .bool ej, .int .u16 (et.toNat : Int), .int .u32 (es.toNat : Int), .int .u32 (ei.toNat : Int)] := hd 12 (by kernel_rfl)
      have q13 : uu 13 = .int .u16 (to.toNat : Int) := hd 13 (by kernel_rfl)
      have q14 : uu 14 = .int .i64 iq := hd 14 (by kernel_rfl)
      have q7 : uu 7 = .bool false := hd 7 (by kernel_rfl)
      refine .inl ⟨wanted_yes rfl (yielded_put (k := 38) (by kernel_rfl) (by kernel_rfl) 116 rfl (by decide) q7), ?_⟩
      generalize hev : Act.eval _ = ev
      have ec : ∀ c, ev (.const c) = c := fun c => by rw [← hev]; rfl
      have ef : ∀ f, ev (.func f) = .func (.func f) #[] #[] := fun f => by rw [← hev]; rfl
      have e43 : ev (.tmp 43) = .agg #[.int .u32 (fs.toNat : Int), .int .u32 (fd.toNat : Int), .int .u16 (fp.toNat : Int), .int .u16 (fq.toNat : Int), .int .u8 (fr.toNat : Int), .int .i64 eb, .int .i64 eh, .int .i64 ea, .bool ex, .bool ej, .int .u16 (et.toNat : Int), .int .u32 (es.toNat : Int), .int .u32 (ei.toNat : Int)] := by rw [← hev]; exact (eval_put (by kernel_rfl) 116 rfl (by decide)).trans q12
      have e44 : ev (.tmp 44) = .int .u16 (to.toNat : Int) := by rw [← hev]; exact (eval_put (by kernel_rfl) 116 rfl (by decide)).trans q13
      have e45 : ev (.tmp 45) = .int .i64 iq := by rw [← hev]; exact (eval_put (by kernel_rfl) 116 rfl (by decide)).trans q14
      clear hev hd q12 q13 q14 q7
      exact .inr ⟨_, _, _, by go_simp, (HRC W).out, fun e w' he => by
        obtain ⟨L, A, c, M, B, d, rfl, HL, HM, hr, hs, hb⟩ := he
        exact ⟨_, rfl, ⟨L, A, c, M, B, d, rfl, HL, HM, hr, hs⟩, hb⟩⟩
    · obtain rfl := Option.some.inj hoo
      obtain ⟨L11, A11, c11, M11, B11, d11, q11, HL11, HM11, r11, s11⟩ := hd 11 (by kernel_rfl)
      obtain ⟨L15, A15, c15, M15, B15, d15, q15, HL15, HM15, r15, s15⟩ := hd 15 (by kernel_rfl)
      have q7 : uu 7 = .bool false := hd 7 (by kernel_rfl)
      refine .inl ⟨wanted_yes rfl (yielded_put (k := 38) (by kernel_rfl) (by kernel_rfl) 116 rfl (by decide) q7), ?_⟩
      generalize hev : Act.eval _ = ev
      have ec : ∀ c, ev (.const c) = c := fun c => by rw [← hev]; rfl
      have ef : ∀ f, ev (.func f) = .func (.func f) #[] #[] := fun f => by rw [← hev]; rfl
      have e42 : ev (.tmp 42) = .agg #[.int .u16 (et.toNat : Int), .int .u16 (to.toNat : Int), .int .u32 (ei.toNat : Int), .int .u32 0, .int .u8 0, .int .u8 2, .int .u16 65535, .int .u16 0, .slice A11 L11.length c11, .slice B11 M11.length d11] := by rw [← hev]; exact (eval_put (by kernel_rfl) 116 rfl (by decide)).trans q11
      have e46 : ev (.tmp 46) = .agg #[.int .u16 (et.toNat : Int), .int .u16 (to.toNat : Int), .int .u32 (ei.toNat : Int), .int .u32 0, .int .u8 0, .int .u8 2, .int .u16 65535, .int .u16 0, .slice A15 L15.length c15, .slice B15 M15.length d15] := by rw [← hev]; exact (eval_put (by kernel_rfl) 116 rfl (by decide)).trans q15
      clear hev hd q11 q15 q7
      exact .inr ⟨_, _, _, by go_simp, (HSM W _ _ _ _ _ _ _ _ _ _ _ _ r11 s11 r15 s15 (HL15.out.trans HL11.out.symm) (HM15.out.trans HM11.out.symm)).out, fun e w' he => ⟨_, he.1, rfl, he.2⟩⟩
    · obtain rfl := Option.some.inj hoo
      have q16 : uu 16 = .bool true := hd 16 (by kernel_rfl)
      have q7 : uu 7 = .bool false := hd 7 (by kernel_rfl)
      refine .inl ⟨wanted_yes rfl (yielded_put (k := 38) (by kernel_rfl) (by kernel_rfl) 116 rfl (by decide) q7), ?_⟩
      generalize hev : Act.eval _ = ev
      have ec : ∀ c, ev (.const c) = c := fun c => by rw [← hev]; rfl
      have e47 : ev (.tmp 47) = .bool true := by rw [← hev]; exact (eval_put (by kernel_rfl) 116 rfl (by decide)).trans q16
      clear hev hd q16 q7
      exact .inl ⟨_, W, by go_simp, rfl, Below.refl _ _⟩
    · obtain rfl := Option.some.inj hoo
      have q7 : uu 7 = .bool false := hd 7 (by kernel_rfl)
      have q17 : uu 17 = .bool false := hd 17 (by kernel_rfl)
      refine .inl ⟨wanted_none rfl, ?_⟩
      generalize hev : Act.eval _ = ev
      have ec : ∀ c, ev (.const c) = c := fun c => by rw [← hev]; rfl
      have e38 : ev (.tmp 38) = .bool false := by rw [← hev]; exact (eval_put (by kernel_rfl) 116 rfl (by decide)).trans q7
      have e48 : ev (.tmp 48) = .bool false := by rw [← hev]; exact (eval_put (by kernel_rfl) 116 rfl (by decide)).trans q17
      clear hev hd q7 q17
      exact .inl ⟨_, W, by go_simp, rfl, Below.refl _ _⟩
    · simp at hoo
  · intro uu W hVW hall
    replace hB := hB.trans (hVW.mono hB.size)
    replace KE := KE.next hVW
    replace KG := KG.next hVW
    replace hlt : Hid (w.heap.size + 2 < W.heap.size) := Nat.lt_of_lt_of_le hlt.out hVW.size
    have q18 : uu 18 = .bool false := hall 18 (by decide)
    simp only [putAll, Act.put, Nat.reduceAdd, q18]
    simp only [List.setIfInBounds_toArray, List.set_cons_succ, List.set_cons_zero]
    generalize W = V4 at *
    clear hall hVW q18 HOP HC HRC HSM KF KW hSV
    go_wp2_with fail
    have HCC : ∀ W, Below V4.heap.size V4 W → (W.cell? ⟨w.heap.size + 2, 2, none⟩ = some (.int .u16 (fp.toNat : Int)) ∧ W.cell? ⟨w.heap.size + 2, 3, none⟩ = some (.int .u16 (fq.toNat : Int)) ∧ W.cell? ⟨w.heap.size + 2, 10, none⟩ = some (.int .u16 (et.toNat : Int)) ∧ W.cell? ⟨w.heap.size + 2, 11, none⟩ = some (.int .u32 (es.toNat : Int)) ∧ W.cell? ⟨w.heap.size + 2, 12, none⟩ = some (.int .u32 (ei.toNat : Int)) ∧ W.cell? ⟨w.heap.size + 1, 2, none⟩ = some (.int .u32 (sq.toNat : Int))) := by
      intro W h
      exact ⟨(KE.next h).cell 2, (KE.next h).cell 3, (KE.next h).cell 10, (KE.next h).cell 11, (KE.next h).cell 12, (KG.next h).cell 2⟩
    refine region_put (by kernel_rfl) (by kernel_rfl) (by kernel_rfl) 116 rfl (by kernel_rfl) V4 (fun i v W => match i with
        | 0 => v = .agg #[.int .u32 (fs.toNat : Int), .int .u32 (fd.toNat : Int), .int .u16 (fp.toNat : Int), .int .u16 (fq.toNat : Int), .int .u8 (fr.toNat : Int), .int .i64 eb, .int .i64 eh, .int .i64 ea, .bool ex, .bool ej, .int .u16 (et.toNat : Int), .int .u32 (es.toNat : Int), .int .u32 (ei.toNat : Int)]
        | 1 => v = .int .u16 (to.toNat : Int)
        | 2 => v = .agg #[.int .u16 (sa.toNat : Int), .int .u16 (sb.toNat : Int), .int .u32 (sq.toNat : Int), .int .u32 (sk.toNat : Int), .int .u8 (sr.toNat : Int), .int .u8 (sf.toNat : Int), .int .u16 (sz.toNat : Int), .int .u16 (su.toNat : Int), .slice A1 os.length c1, .slice A2 xs.length c2]
        | 3 => v = .agg #[.int .u16 (et.toNat : Int), .int .u16 (to.toNat : Int), .int .u32 (ei1.toNat : Int), .int .u32 (sq1.toNat : Int), .int .u8 0, .int .u8 16, .int .u16 65535, .int .u16 0, .slice none 0 0, .slice none 0 0]
        | 4 => v = .pointer (some ⟨w.heap.size + 2, 10, none⟩)
        | 5 => v = .int .u16 (et.toNat : Int)
        | 6 => v = .int .u16 (to.toNat : Int)
        | 7 => v = .pointer (some ⟨w.heap.size + 2, 12, none⟩)
        | 8 => v = .int .u32 (ei.toNat : Int)
        | 9 => v = .int .u32 (ei1.toNat : Int)
        | 10 => v = .pointer (some ⟨w.heap.size + 1, 2, none⟩)
        | 11 => v = .int .u32 (sq.toNat : Int)
        | 12 => v = .int .u32 (sq1.toNat : Int)
        | 13 => v = .agg #[.int .u16 (et.toNat : Int), .int .u16 (to.toNat : Int), .int .u32 (ei1.toNat : Int), .int .u32 (sq1.toNat : Int), .int .u8 0, .int .u8 16, .int .u16 65535, .int .u16 0, .slice none 0 0, .slice none 0 0]
        | 14 => v = .bool true
        | 15 => v = .bool false
        | 16 => v = .bool false
        | 17 => v = .agg #[.int .u32 (fs.toNat : Int), .int .u32 (fd.toNat : Int), .int .u16 (fp.toNat : Int), .int .u16 (fq.toNat : Int), .int .u8 (fr.toNat : Int), .int .i64 eb, .int .i64 eh, .int .i64 ea, .bool ex, .bool ej, .int .u16 (et.toNat : Int), .int .u32 (es.toNat : Int), .int .u32 (ei.toNat : Int)]
        | 18 => v = .agg #[.int .u16 (fq.toNat : Int), .int .u16 (fp.toNat : Int), .int .u32 (es1.toNat : Int), .int .u32 (ei1.toNat : Int), .int .u8 0, .int .u8 20, .int .u16 65535, .int .u16 0, .slice none 0 0, .slice none 0 0]
        | 19 => v = .pointer (some ⟨w.heap.size + 2, 0, none⟩)
        | 20 => v = .pointer (some ⟨w.heap.size + 2, 3, none⟩)
        | 21 => v = .int .u16 (fq.toNat : Int)
        | 22 => v = .pointer (some ⟨w.heap.size + 2, 0, none⟩)
        | 23 => v = .pointer (some ⟨w.heap.size + 2, 2, none⟩)
        | 24 => v = .int .u16 (fp.toNat : Int)
        | 25 => v = .pointer (some ⟨w.heap.size + 2, 11, none⟩)
        | 26 => v = .int .u32 (es.toNat : Int)
        | 27 => v = .int .u32 (es1.toNat : Int)
        | 28 => v = .pointer (some ⟨w.heap.size + 2, 12, none⟩)
        | 29 => v = .int .u32 (ei.toNat : Int)
        | 30 => v = .int .u32 (ei1.toNat : Int)
        | 31 => v = .agg #[.int .u16 (fq.toNat : Int), .int .u16 (fp.toNat : Int), .int .u32 (es1.toNat : Int), .int .u32 (ei1.toNat : Int), .int .u8 0, .int .u8 20, .int .u16 65535, .int .u16 0, .slice none 0 0, .slice none 0 0]
        | 32 => v = .bool true
        | 33 => v = .bool false
        | 34 => v = .bool false
        | _ => True) (Below.refl _ _) ?_ ?_ ?_
    · intro i v W W' h hb
      match i, h with
      | 0, h => exact h
      | 1, h => exact h
      | 2, h => exact h
      | 3, h => exact h
      | 4, h => exact h
      | 5, h => exact h
      | 6, h => exact h
      | 7, h => exact h
      | 8, h => exact h
      | 9, h => exact h
      | 10, h => exact h
      | 11, h => exact h
      | 12, h => exact h
      | 13, h => exact h
      | 14, h => exact h
      | 15, h => exact h
      | 16, h => exact h
      | 17, h => exact h
      | 18, h => exact h
      | 19, h => exact h
      | 20, h => exact h
      | 21, h => exact h
      | 22, h => exact h
      | 23, h => exact h
      | 24, h => exact h
      | 25, h => exact h
      | 26, h => exact h
      | 27, h => exact h
      | 28, h => exact h
      | 29, h => exact h
      | 30, h => exact h
      | 31, h => exact h
      | 32, h => exact h
      | 33, h => exact h
      | 34, h => exact h
      | _ + 35, _ => trivial
    · intro i o uu W hoo hVW hd
      rcases i with _|_|_|_|_|_|_|_|_|_|_|_|_|_|_|_|_|_|_|_|_|_|_|_|_|_|_|_|_|_|_|_|_|_|_|i
      · obtain rfl := Option.some.inj hoo
        refine .inl ⟨wanted_none rfl, ?_⟩
        generalize hev : Act.eval _ = ev
        have ec : ∀ c, ev (.const c) = c := fun c => by rw [← hev]; rfl
        have e12 : ev (.tmp 12) = .pointer (some ⟨w.heap.size + 2, 0, none⟩) := by rw [← hev]; exact eval_old (by kernel_rfl) 116 rfl (by decide) rfl
        clear hev hd
        exact .inl ⟨_, W, load_blk Tryd.underlying55 (by kernel_rfl) (KE.next hVW) rfl e12, rfl, Below.refl _ _⟩
      · obtain rfl := Option.some.inj hoo
        refine .inl ⟨wanted_none rfl, ?_⟩
        generalize hev : Act.eval _ = ev
        have ec : ∀ c, ev (.const c) = c := fun c => by rw [← hev]; rfl
        have e3 : ev (.tmp 3) = .int .u16 (to.toNat : Int) := by rw [← hev]; exact eval_old (by kernel_rfl) 116 rfl (by decide) rfl
        clear hev hd
        exact .inl ⟨_, W, by go_simp, rfl, Below.refl _ _⟩
      · obtain rfl := Option.some.inj hoo
        refine .inl ⟨wanted_none rfl, ?_⟩
        generalize hev : Act.eval _ = ev
        have ec : ∀ c, ev (.const c) = c := fun c => by rw [← hev]; rfl
        have e11 : ev (.tmp 11) = .pointer (some ⟨w.heap.size + 1, 0, none⟩) := by rw [← hev]; exact eval_old (by kernel_rfl) 116 rfl (by decide) rfl
        clear hev hd
        exact .inl ⟨_, W, load_blk Tryd.underlying44 (by kernel_rfl) (KG.next hVW) rfl e11, rfl, Below.refl _ _⟩
      · obtain rfl := Option.some.inj hoo
        have q0 : uu 0 = .agg #[.int .u32 (fs.toNat : Int), .int .u32 (fd.toNat : Int), .int .u16 (fp.toNat : Int), .int .u16 (fq.toNat : Int), .int .u8 (fr.toNat : Int), .int .i64 eb, .int .i64 eh, .int .i64 ea, .bool ex, .bool ej, .int .u16 (et.toNat : Int), .int .u32 (es.toNat : Int), .int .u32 (ei.toNat : Int)] := hd 0 (by kernel_rfl)
        have q1 : uu 1 = .int .u16 (to.toNat : Int) := hd 1 (by kernel_rfl)
        have q2 : uu 2 = .agg #[.int .u16 (sa.toNat : Int), .int .u16 (sb.toNat : Int), .int .u32 (sq.toNat : Int), .int .u32 (sk.toNat : Int), .int .u8 (sr.toNat : Int), .int .u8 (sf.toNat : Int), .int .u16 (sz.toNat : Int), .int .u16 (su.toNat : Int), .slice A1 os.length c1, .slice A2 xs.length c2] := hd 2 (by kernel_rfl)
        refine .inl ⟨wanted_none rfl, ?_⟩
        generalize hev : Act.eval _ = ev
        have ec : ∀ c, ev (.const c) = c := fun c => by rw [← hev]; rfl
        have ef : ∀ f, ev (.func f) = .func (.func f) #[] #[] := fun f => by rw [← hev]; rfl
        have e50 : ev (.tmp 50) = .agg #[.int .u32 (fs.toNat : Int), .int .u32 (fd.toNat : Int), .int .u16 (fp.toNat : Int), .int .u16 (fq.toNat : Int), .int .u8 (fr.toNat : Int), .int .i64 eb, .int .i64 eh, .int .i64 ea, .bool ex, .bool ej, .int .u16 (et.toNat : Int), .int .u32 (es.toNat : Int), .int .u32 (ei.toNat : Int)] := by rw [← hev]; exact (eval_put (by kernel_rfl) 116 rfl (by decide)).trans q0
        have e51 : ev (.tmp 51) = .int .u16 (to.toNat : Int) := by rw [← hev]; exact (eval_put (by kernel_rfl) 116 rfl (by decide)).trans q1
        have e52 : ev (.tmp 52) = .agg #[.int .u16 (sa.toNat : Int), .int .u16 (sb.toNat : Int), .int .u32 (sq.toNat : Int), .int .u32 (sk.toNat : Int), .int .u8 (sr.toNat : Int), .int .u8 (sf.toNat : Int), .int .u16 (sz.toNat : Int), .int .u16 (su.toNat : Int), .slice A1 os.length c1, .slice A2 xs.length c2] := by rw [← hev]; exact (eval_put (by kernel_rfl) 116 rfl (by decide)).trans q2
        clear hev hd q0 q1 q2
        exact .inr ⟨_, _, _, by go_simp, (HG W).out, fun e w' he => ⟨_, he.1, rfl, he.2⟩⟩
      · obtain rfl := Option.some.inj hoo
        refine .inl ⟨wanted_none rfl, ?_⟩
        generalize hev : Act.eval _ = ev
        have ec : ∀ c, ev (.const c) = c := fun c => by rw [← hev]; rfl
        have e12 : ev (.tmp 12) = .pointer (some ⟨w.heap.size + 2, 0, none⟩) := by rw [← hev]; exact eval_old (by kernel_rfl) 116 rfl (by decide) rfl
        clear hev hd
        exact .inl ⟨_, W, by go_simp, rfl, Below.refl _ _⟩
      · obtain rfl := Option.some.inj hoo
        have q4 : uu 4 = .pointer (some ⟨w.heap.size + 2, 10, none⟩) := hd 4 (by kernel_rfl)
        refine .inl ⟨wanted_none rfl, ?_⟩
        generalize hev : Act.eval _ = ev
        have ec : ∀ c, ev (.const c) = c := fun c => by rw [← hev]; rfl
        have e54 : ev (.tmp 54) = .pointer (some ⟨w.heap.size + 2, 10, none⟩) := by rw [← hev]; exact (eval_put (by kernel_rfl) 116 rfl (by decide)).trans q4
        clear hev hd q4
        obtain ⟨cc0, cc1, cc2, cc3, cc4, cc5⟩ := HCC W hVW
        exact .inl ⟨_, W, by go_simp, rfl, Below.refl _ _⟩
      · obtain rfl := Option.some.inj hoo
        refine .inl ⟨wanted_none rfl, ?_⟩
        generalize hev : Act.eval _ = ev
        have ec : ∀ c, ev (.const c) = c := fun c => by rw [← hev]; rfl
        have e3 : ev (.tmp 3) = .int .u16 (to.toNat : Int) := by rw [← hev]; exact eval_old (by kernel_rfl) 116 rfl (by decide) rfl
        clear hev hd
        exact .inl ⟨_, W, by go_simp, rfl, Below.refl _ _⟩
      · obtain rfl := Option.some.inj hoo
        refine .inl ⟨wanted_none rfl, ?_⟩
        generalize hev : Act.eval _ = ev
        have ec : ∀ c, ev (.const c) = c := fun c => by rw [← hev]; rfl
        have e12 : ev (.tmp 12) = .pointer (some ⟨w.heap.size + 2, 0, none⟩) := by rw [← hev]; exact eval_old (by kernel_rfl) 116 rfl (by decide) rfl
        clear hev hd
        exact .inl ⟨_, W, by go_simp, rfl, Below.refl _ _⟩
      · obtain rfl := Option.some.inj hoo
        have q7 : uu 7 = .pointer (some ⟨w.heap.size + 2, 12, none⟩) := hd 7 (by kernel_rfl)
        refine .inl ⟨wanted_none rfl, ?_⟩
        generalize hev : Act.eval _ = ev
        have ec : ∀ c, ev (.const c) = c := fun c => by rw [← hev]; rfl
        have e57 : ev (.tmp 57) = .pointer (some ⟨w.heap.size + 2, 12, none⟩) := by rw [← hev]; exact (eval_put (by kernel_rfl) 116 rfl (by decide)).trans q7
        clear hev hd q7
        obtain ⟨cc0, cc1, cc2, cc3, cc4, cc5⟩ := HCC W hVW
        exact .inl ⟨_, W, by go_simp, rfl, Below.refl _ _⟩
      · obtain rfl := Option.some.inj hoo
        have q8 : uu 8 = .int .u32 (ei.toNat : Int) := hd 8 (by kernel_rfl)
        refine .inl ⟨wanted_none rfl, ?_⟩
        generalize hev : Act.eval _ = ev
        have ec : ∀ c, ev (.const c) = c := fun c => by rw [← hev]; rfl
        have e58 : ev (.tmp 58) = .int .u32 (ei.toNat : Int) := by rw [← hev]; exact (eval_put (by kernel_rfl) 116 rfl (by decide)).trans q8
        clear hev hd q8
        have hh : IntKind.u32.wrap ((ei.toNat : Int) + 1) = (ei1.toNat : Int) := by rw [IntKind.wrap_u32]; exact h1.out
        exact .inl ⟨_, W, by go_simp, rfl, Below.refl _ _⟩
      · obtain rfl := Option.some.inj hoo
        refine .inl ⟨wanted_none rfl, ?_⟩
        generalize hev : Act.eval _ = ev
        have ec : ∀ c, ev (.const c) = c := fun c => by rw [← hev]; rfl
        have e11 : ev (.tmp 11) = .pointer (some ⟨w.heap.size + 1, 0, none⟩) := by rw [← hev]; exact eval_old (by kernel_rfl) 116 rfl (by decide) rfl
        clear hev hd
        exact .inl ⟨_, W, by go_simp, rfl, Below.refl _ _⟩
      · obtain rfl := Option.some.inj hoo
        have q10 : uu 10 = .pointer (some ⟨w.heap.size + 1, 2, none⟩) := hd 10 (by kernel_rfl)
        refine .inl ⟨wanted_none rfl, ?_⟩
        generalize hev : Act.eval _ = ev
        have ec : ∀ c, ev (.const c) = c := fun c => by rw [← hev]; rfl
        have e60 : ev (.tmp 60) = .pointer (some ⟨w.heap.size + 1, 2, none⟩) := by rw [← hev]; exact (eval_put (by kernel_rfl) 116 rfl (by decide)).trans q10
        clear hev hd q10
        obtain ⟨cc0, cc1, cc2, cc3, cc4, cc5⟩ := HCC W hVW
        exact .inl ⟨_, W, by go_simp, rfl, Below.refl _ _⟩
      · obtain rfl := Option.some.inj hoo
        have q11 : uu 11 = .int .u32 (sq.toNat : Int) := hd 11 (by kernel_rfl)
        refine .inl ⟨wanted_none rfl, ?_⟩
        generalize hev : Act.eval _ = ev
        have ec : ∀ c, ev (.const c) = c := fun c => by rw [← hev]; rfl
        have e61 : ev (.tmp 61) = .int .u32 (sq.toNat : Int) := by rw [← hev]; exact (eval_put (by kernel_rfl) 116 rfl (by decide)).trans q11
        clear hev hd q11
        have hh : IntKind.u32.wrap ((sq.toNat : Int) + 1) = (sq1.toNat : Int) := by rw [IntKind.wrap_u32]; exact h2.out
        exact .inl ⟨_, W, by go_simp, rfl, Below.refl _ _⟩
      · obtain rfl := Option.some.inj hoo
        have q5 : uu 5 = .int .u16 (et.toNat : Int) := hd 5 (by kernel_rfl)
        have q6 : uu 6 = .int .u16 (to.toNat : Int) := hd 6 (by kernel_rfl)
        have q9 : uu 9 = .int .u32 (ei1.toNat : Int) := hd 9 (by kernel_rfl)
        have q12 : uu 12 = .int .u32 (sq1.toNat : Int) := hd 12 (by kernel_rfl)
        refine .inl ⟨wanted_none rfl, ?_⟩
        generalize hev : Act.eval _ = ev
        have ec : ∀ c, ev (.const c) = c := fun c => by rw [← hev]; rfl
        have ef : ∀ f, ev (.func f) = .func (.func f) #[] #[] := fun f => by rw [← hev]; rfl
        have e55 : ev (.tmp 55) = .int .u16 (et.toNat : Int) := by rw [← hev]; exact (eval_put (by kernel_rfl) 116 rfl (by decide)).trans q5
        have e56 : ev (.tmp 56) = .int .u16 (to.toNat : Int) := by rw [← hev]; exact (eval_put (by kernel_rfl) 116 rfl (by decide)).trans q6
        have e59 : ev (.tmp 59) = .int .u32 (ei1.toNat : Int) := by rw [← hev]; exact (eval_put (by kernel_rfl) 116 rfl (by decide)).trans q9
        have e62 : ev (.tmp 62) = .int .u32 (sq1.toNat : Int) := by rw [← hev]; exact (eval_put (by kernel_rfl) 116 rfl (by decide)).trans q12
        clear hev hd q5 q6 q9 q12
        exact .inr ⟨_, _, _, by go_simp, (HP1 W).out, fun e w' he => ⟨_, he.1, rfl, he.2⟩⟩
      · obtain rfl := Option.some.inj hoo
        have q3 : uu 3 = .agg #[.int .u16 (et.toNat : Int), .int .u16 (to.toNat : Int), .int .u32 (ei1.toNat : Int), .int .u32 (sq1.toNat : Int), .int .u8 0, .int .u8 16, .int .u16 65535, .int .u16 0, .slice none 0 0, .slice none 0 0] := hd 3 (by kernel_rfl)
        have q13 : uu 13 = .agg #[.int .u16 (et.toNat : Int), .int .u16 (to.toNat : Int), .int .u32 (ei1.toNat : Int), .int .u32 (sq1.toNat : Int), .int .u8 0, .int .u8 16, .int .u16 65535, .int .u16 0, .slice none 0 0, .slice none 0 0] := hd 13 (by kernel_rfl)
        refine .inl ⟨wanted_none rfl, ?_⟩
        generalize hev : Act.eval _ = ev
        have ec : ∀ c, ev (.const c) = c := fun c => by rw [← hev]; rfl
        have ef : ∀ f, ev (.func f) = .func (.func f) #[] #[] := fun f => by rw [← hev]; rfl
        have e53 : ev (.tmp 53) = .agg #[.int .u16 (et.toNat : Int), .int .u16 (to.toNat : Int), .int .u32 (ei1.toNat : Int), .int .u32 (sq1.toNat : Int), .int .u8 0, .int .u8 16, .int .u16 65535, .int .u16 0, .slice none 0 0, .slice none 0 0] := by rw [← hev]; exact (eval_put (by kernel_rfl) 116 rfl (by decide)).trans q3
        have e63 : ev (.tmp 63) = .agg #[.int .u16 (et.toNat : Int), .int .u16 (to.toNat : Int), .int .u32 (ei1.toNat : Int), .int .u32 (sq1.toNat : Int), .int .u8 0, .int .u8 16, .int .u16 65535, .int .u16 0, .slice none 0 0, .slice none 0 0] := by rw [← hev]; exact (eval_put (by kernel_rfl) 116 rfl (by decide)).trans q13
        clear hev hd q3 q13
        exact .inr ⟨_, _, _, by go_simp, (HS1 W).out, fun e w' he => ⟨_, he.1, rfl, he.2⟩⟩
      · obtain rfl := Option.some.inj hoo
        have q14 : uu 14 = .bool true := hd 14 (by kernel_rfl)
        refine .inl ⟨wanted_none rfl, ?_⟩
        generalize hev : Act.eval _ = ev
        have ec : ∀ c, ev (.const c) = c := fun c => by rw [← hev]; rfl
        have e64 : ev (.tmp 64) = .bool true := by rw [← hev]; exact (eval_put (by kernel_rfl) 116 rfl (by decide)).trans q14
        clear hev hd q14
        exact .inl ⟨_, W, by go_simp, rfl, Below.refl _ _⟩
      · obtain rfl := Option.some.inj hoo
        have q15 : uu 15 = .bool false := hd 15 (by kernel_rfl)
        refine .inl ⟨wanted_none rfl, ?_⟩
        generalize hev : Act.eval _ = ev
        have ec : ∀ c, ev (.const c) = c := fun c => by rw [← hev]; rfl
        have e65 : ev (.tmp 65) = .bool false := by rw [← hev]; exact (eval_put (by kernel_rfl) 116 rfl (by decide)).trans q15
        clear hev hd q15
        exact .inl ⟨_, W, by go_simp, rfl, Below.refl _ _⟩
      · obtain rfl := Option.some.inj hoo
        have q16 : uu 16 = .bool false := hd 16 (by kernel_rfl)
        refine .inl ⟨wanted_yes rfl (yielded_put (k := 66) (by kernel_rfl) (by kernel_rfl) 116 rfl (by decide) q16), ?_⟩
        generalize hev : Act.eval _ = ev
        have ec : ∀ c, ev (.const c) = c := fun c => by rw [← hev]; rfl
        have e12 : ev (.tmp 12) = .pointer (some ⟨w.heap.size + 2, 0, none⟩) := by rw [← hev]; exact eval_old (by kernel_rfl) 116 rfl (by decide) rfl
        clear hev hd q16
        exact .inl ⟨_, W, load_blk Tryd.underlying55 (by kernel_rfl) (KE.next hVW) rfl e12, rfl, Below.refl _ _⟩
      · obtain rfl := Option.some.inj hoo
        have q17 : uu 17 = .agg #[.int .u32 (fs.toNat : Int), .int .u32 (fd.toNat : Int), .int .u16 (fp.toNat : Int), .int .u16 (fq.toNat : Int), .int .u8 (fr.toNat : Int), .int .i64 eb, .int .i64 eh, .int .i64 ea, .bool ex, .bool ej, .int .u16 (et.toNat : Int), .int .u32 (es.toNat : Int), .int .u32 (ei.toNat : Int)] := hd 17 (by kernel_rfl)
        have q16 : uu 16 = .bool false := hd 16 (by kernel_rfl)
        refine .inl ⟨wanted_yes rfl (yielded_put (k := 66) (by kernel_rfl) (by kernel_rfl) 116 rfl (by decide) q16), ?_⟩
        generalize hev : Act.eval _ = ev
        have ec : ∀ c, ev (.const c) = c := fun c => by rw [← hev]; rfl
        have ef : ∀ f, ev (.func f) = .func (.func f) #[] #[] := fun f => by rw [← hev]; rfl
        have e67 : ev (.tmp 67) = .agg #[.int .u32 (fs.toNat : Int), .int .u32 (fd.toNat : Int), .int .u16 (fp.toNat : Int), .int .u16 (fq.toNat : Int), .int .u8 (fr.toNat : Int), .int .i64 eb, .int .i64 eh, .int .i64 ea, .bool ex, .bool ej, .int .u16 (et.toNat : Int), .int .u32 (es.toNat : Int), .int .u32 (ei.toNat : Int)] := by rw [← hev]; exact (eval_put (by kernel_rfl) 116 rfl (by decide)).trans q17
        clear hev hd q17 q16
        exact .inr ⟨_, _, _, by go_simp, (HR W).out, fun e w' he => ⟨_, he.1, rfl, he.2⟩⟩
      · obtain rfl := Option.some.inj hoo
        have q16 : uu 16 = .bool false := hd 16 (by kernel_rfl)
        refine .inl ⟨wanted_yes rfl (yielded_put (k := 66) (by kernel_rfl) (by kernel_rfl) 116 rfl (by decide) q16), ?_⟩
        generalize hev : Act.eval _ = ev
        have ec : ∀ c, ev (.const c) = c := fun c => by rw [← hev]; rfl
        have e12 : ev (.tmp 12) = .pointer (some ⟨w.heap.size + 2, 0, none⟩) := by rw [← hev]; exact eval_old (by kernel_rfl) 116 rfl (by decide) rfl
        clear hev hd q16
        exact .inl ⟨_, W, by go_simp, rfl, Below.refl _ _⟩
      · obtain rfl := Option.some.inj hoo
        have q19 : uu 19 = .pointer (some ⟨w.heap.size + 2, 0, none⟩) := hd 19 (by kernel_rfl)
        have q16 : uu 16 = .bool false := hd 16 (by kernel_rfl)
        refine .inl ⟨wanted_yes rfl (yielded_put (k := 66) (by kernel_rfl) (by kernel_rfl) 116 rfl (by decide) q16), ?_⟩
        generalize hev : Act.eval _ = ev
        have ec : ∀ c, ev (.const c) = c := fun c => by rw [← hev]; rfl
        have e69 : ev (.tmp 69) = .pointer (some ⟨w.heap.size + 2, 0, none⟩) := by rw [← hev]; exact (eval_put (by kernel_rfl) 116 rfl (by decide)).trans q19
        clear hev hd q19 q16
        exact .inl ⟨_, W, by go_simp, rfl, Below.refl _ _⟩
      · obtain rfl := Option.some.inj hoo
        have q20 : uu 20 = .pointer (some ⟨w.heap.size + 2, 3, none⟩) := hd 20 (by kernel_rfl)
        have q16 : uu 16 = .bool false := hd 16 (by kernel_rfl)
        refine .inl ⟨wanted_yes rfl (yielded_put (k := 66) (by kernel_rfl) (by kernel_rfl) 116 rfl (by decide) q16), ?_⟩
        generalize hev : Act.eval _ = ev
        have ec : ∀ c, ev (.const c) = c := fun c => by rw [← hev]; rfl
        have e70 : ev (.tmp 70) = .pointer (some ⟨w.heap.size + 2, 3, none⟩) := by rw [← hev]; exact (eval_put (by kernel_rfl) 116 rfl (by decide)).trans q20
        clear hev hd q20 q16
        obtain ⟨cc0, cc1, cc2, cc3, cc4, cc5⟩ := HCC W hVW
        exact .inl ⟨_, W, by go_simp, rfl, Below.refl _ _⟩
      · obtain rfl := Option.some.inj hoo
        have q16 : uu 16 = .bool false := hd 16 (by kernel_rfl)
        refine .inl ⟨wanted_yes rfl (yielded_put (k := 66) (by kernel_rfl) (by kernel_rfl) 116 rfl (by decide) q16), ?_⟩
        generalize hev : Act.eval _ = ev
        have ec : ∀ c, ev (.const c) = c := fun c => by rw [← hev]; rfl
        have e12 : ev (.tmp 12) = .pointer (some ⟨w.heap.size + 2, 0, none⟩) := by rw [← hev]; exact eval_old (by kernel_rfl) 116 rfl (by decide) rfl
        clear hev hd q16
        exact .inl ⟨_, W, by go_simp, rfl, Below.refl _ _⟩
      · obtain rfl := Option.some.inj hoo
        have q22 : uu 22 = .pointer (some ⟨w.heap.size + 2, 0, none⟩) := hd 22 (by kernel_rfl)
        have q16 : uu 16 = .bool false := hd 16 (by kernel_rfl)
        refine .inl ⟨wanted_yes rfl (yielded_put (k := 66) (by kernel_rfl) (by kernel_rfl) 116 rfl (by decide) q16), ?_⟩
        generalize hev : Act.eval _ = ev
        have ec : ∀ c, ev (.const c) = c := fun c => by rw [← hev]; rfl
        have e72 : ev (.tmp 72) = .pointer (some ⟨w.heap.size + 2, 0, none⟩) := by rw [← hev]; exact (eval_put (by kernel_rfl) 116 rfl (by decide)).trans q22
        clear hev hd q22 q16
        exact .inl ⟨_, W, by go_simp, rfl, Below.refl _ _⟩
      · obtain rfl := Option.some.inj hoo
        have q23 : uu 23 = .pointer (some ⟨w.heap.size + 2, 2, none⟩) := hd 23 (by kernel_rfl)
        have q16 : uu 16 = .bool false := hd 16 (by kernel_rfl)
        refine .inl ⟨wanted_yes rfl (yielded_put (k := 66) (by kernel_rfl) (by kernel_rfl) 116 rfl (by decide) q16), ?_⟩
        generalize hev : Act.eval _ = ev
        have ec : ∀ c, ev (.const c) = c := fun c => by rw [← hev]; rfl
        have e73 : ev (.tmp 73) = .pointer (some ⟨w.heap.size + 2, 2, none⟩) := by rw [← hev]; exact (eval_put (by kernel_rfl) 116 rfl (by decide)).trans q23
        clear hev hd q23 q16
        obtain ⟨cc0, cc1, cc2, cc3, cc4, cc5⟩ := HCC W hVW
        exact .inl ⟨_, W, by go_simp, rfl, Below.refl _ _⟩
      · obtain rfl := Option.some.inj hoo
        have q16 : uu 16 = .bool false := hd 16 (by kernel_rfl)
        refine .inl ⟨wanted_yes rfl (yielded_put (k := 66) (by kernel_rfl) (by kernel_rfl) 116 rfl (by decide) q16), ?_⟩
        generalize hev : Act.eval _ = ev
        have ec : ∀ c, ev (.const c) = c := fun c => by rw [← hev]; rfl
        have e12 : ev (.tmp 12) = .pointer (some ⟨w.heap.size + 2, 0, none⟩) := by rw [← hev]; exact eval_old (by kernel_rfl) 116 rfl (by decide) rfl
        clear hev hd q16
        exact .inl ⟨_, W, by go_simp, rfl, Below.refl _ _⟩
      · obtain rfl := Option.some.inj hoo
        have q25 : uu 25 = .pointer (some ⟨w.heap.size + 2, 11, none⟩) := hd 25 (by kernel_rfl)
        have q16 : uu 16 = .bool false := hd 16 (by kernel_rfl)
        refine .inl ⟨wanted_yes rfl (yielded_put (k := 66) (by kernel_rfl) (by kernel_rfl) 116 rfl (by decide) q16), ?_⟩
        generalize hev : Act.eval _ = ev
        have ec : ∀ c, ev (.const c) = c := fun c => by rw [← hev]; rfl
        have e75 : ev (.tmp 75) = .pointer (some ⟨w.heap.size + 2, 11, none⟩) := by rw [← hev]; exact (eval_put (by kernel_rfl) 116 rfl (by decide)).trans q25
        clear hev hd q25 q16
        obtain ⟨cc0, cc1, cc2, cc3, cc4, cc5⟩ := HCC W hVW
        exact .inl ⟨_, W, by go_simp, rfl, Below.refl _ _⟩
      · obtain rfl := Option.some.inj hoo
        have q26 : uu 26 = .int .u32 (es.toNat : Int) := hd 26 (by kernel_rfl)
        have q16 : uu 16 = .bool false := hd 16 (by kernel_rfl)
        refine .inl ⟨wanted_yes rfl (yielded_put (k := 66) (by kernel_rfl) (by kernel_rfl) 116 rfl (by decide) q16), ?_⟩
        generalize hev : Act.eval _ = ev
        have ec : ∀ c, ev (.const c) = c := fun c => by rw [← hev]; rfl
        have e76 : ev (.tmp 76) = .int .u32 (es.toNat : Int) := by rw [← hev]; exact (eval_put (by kernel_rfl) 116 rfl (by decide)).trans q26
        clear hev hd q26 q16
        have hh : IntKind.u32.wrap ((es.toNat : Int) + 1) = (es1.toNat : Int) := by rw [IntKind.wrap_u32]; exact h3.out
        exact .inl ⟨_, W, by go_simp, rfl, Below.refl _ _⟩
      · obtain rfl := Option.some.inj hoo
        have q16 : uu 16 = .bool false := hd 16 (by kernel_rfl)
        refine .inl ⟨wanted_yes rfl (yielded_put (k := 66) (by kernel_rfl) (by kernel_rfl) 116 rfl (by decide) q16), ?_⟩
        generalize hev : Act.eval _ = ev
        have ec : ∀ c, ev (.const c) = c := fun c => by rw [← hev]; rfl
        have e12 : ev (.tmp 12) = .pointer (some ⟨w.heap.size + 2, 0, none⟩) := by rw [← hev]; exact eval_old (by kernel_rfl) 116 rfl (by decide) rfl
        clear hev hd q16
        exact .inl ⟨_, W, by go_simp, rfl, Below.refl _ _⟩
      · obtain rfl := Option.some.inj hoo
        have q28 : uu 28 = .pointer (some ⟨w.heap.size + 2, 12, none⟩) := hd 28 (by kernel_rfl)
        have q16 : uu 16 = .bool false := hd 16 (by kernel_rfl)
        refine .inl ⟨wanted_yes rfl (yielded_put (k := 66) (by kernel_rfl) (by kernel_rfl) 116 rfl (by decide) q16), ?_⟩
        generalize hev : Act.eval _ = ev
        have ec : ∀ c, ev (.const c) = c := fun c => by rw [← hev]; rfl
        have e78 : ev (.tmp 78) = .pointer (some ⟨w.heap.size + 2, 12, none⟩) := by rw [← hev]; exact (eval_put (by kernel_rfl) 116 rfl (by decide)).trans q28
        clear hev hd q28 q16
        obtain ⟨cc0, cc1, cc2, cc3, cc4, cc5⟩ := HCC W hVW
        exact .inl ⟨_, W, by go_simp, rfl, Below.refl _ _⟩
      · obtain rfl := Option.some.inj hoo
        have q29 : uu 29 = .int .u32 (ei.toNat : Int) := hd 29 (by kernel_rfl)
        have q16 : uu 16 = .bool false := hd 16 (by kernel_rfl)
        refine .inl ⟨wanted_yes rfl (yielded_put (k := 66) (by kernel_rfl) (by kernel_rfl) 116 rfl (by decide) q16), ?_⟩
        generalize hev : Act.eval _ = ev
        have ec : ∀ c, ev (.const c) = c := fun c => by rw [← hev]; rfl
        have e79 : ev (.tmp 79) = .int .u32 (ei.toNat : Int) := by rw [← hev]; exact (eval_put (by kernel_rfl) 116 rfl (by decide)).trans q29
        clear hev hd q29 q16
        have hh : IntKind.u32.wrap ((ei.toNat : Int) + 1) = (ei1.toNat : Int) := by rw [IntKind.wrap_u32]; exact h1.out
        exact .inl ⟨_, W, by go_simp, rfl, Below.refl _ _⟩
      · obtain rfl := Option.some.inj hoo
        have q21 : uu 21 = .int .u16 (fq.toNat : Int) := hd 21 (by kernel_rfl)
        have q24 : uu 24 = .int .u16 (fp.toNat : Int) := hd 24 (by kernel_rfl)
        have q27 : uu 27 = .int .u32 (es1.toNat : Int) := hd 27 (by kernel_rfl)
        have q30 : uu 30 = .int .u32 (ei1.toNat : Int) := hd 30 (by kernel_rfl)
        have q16 : uu 16 = .bool false := hd 16 (by kernel_rfl)
        refine .inl ⟨wanted_yes rfl (yielded_put (k := 66) (by kernel_rfl) (by kernel_rfl) 116 rfl (by decide) q16), ?_⟩
        generalize hev : Act.eval _ = ev
        have ec : ∀ c, ev (.const c) = c := fun c => by rw [← hev]; rfl
        have ef : ∀ f, ev (.func f) = .func (.func f) #[] #[] := fun f => by rw [← hev]; rfl
        have e71 : ev (.tmp 71) = .int .u16 (fq.toNat : Int) := by rw [← hev]; exact (eval_put (by kernel_rfl) 116 rfl (by decide)).trans q21
        have e74 : ev (.tmp 74) = .int .u16 (fp.toNat : Int) := by rw [← hev]; exact (eval_put (by kernel_rfl) 116 rfl (by decide)).trans q24
        have e77 : ev (.tmp 77) = .int .u32 (es1.toNat : Int) := by rw [← hev]; exact (eval_put (by kernel_rfl) 116 rfl (by decide)).trans q27
        have e80 : ev (.tmp 80) = .int .u32 (ei1.toNat : Int) := by rw [← hev]; exact (eval_put (by kernel_rfl) 116 rfl (by decide)).trans q30
        clear hev hd q21 q24 q27 q30 q16
        exact .inr ⟨_, _, _, by go_simp, (HP2 W).out, fun e w' he => ⟨_, he.1, rfl, he.2⟩⟩
      · obtain rfl := Option.some.inj hoo
        have q18 : uu 18 = .agg #[.int .u16 (fq.toNat : Int), .int .u16 (fp.toNat : Int), .int .u32 (es1.toNat : Int), .int .u32 (ei1.toNat : Int), .int .u8 0, .int .u8 20, .int .u16 65535, .int .u16 0, .slice none 0 0, .slice none 0 0] := hd 18 (by kernel_rfl)
        have q31 : uu 31 = .agg #[.int .u16 (fq.toNat : Int), .int .u16 (fp.toNat : Int), .int .u32 (es1.toNat : Int), .int .u32 (ei1.toNat : Int), .int .u8 0, .int .u8 20, .int .u16 65535, .int .u16 0, .slice none 0 0, .slice none 0 0] := hd 31 (by kernel_rfl)
        have q16 : uu 16 = .bool false := hd 16 (by kernel_rfl)
        refine .inl ⟨wanted_yes rfl (yielded_put (k := 66) (by kernel_rfl) (by kernel_rfl) 116 rfl (by decide) q16), ?_⟩
        generalize hev : Act.eval _ = ev
        have ec : ∀ c, ev (.const c) = c := fun c => by rw [← hev]; rfl
        have ef : ∀ f, ev (.func f) = .func (.func f) #[] #[] := fun f => by rw [← hev]; rfl
        have e68 : ev (.tmp 68) = .agg #[.int .u16 (fq.toNat : Int), .int .u16 (fp.toNat : Int), .int .u32 (es1.toNat : Int), .int .u32 (ei1.toNat : Int), .int .u8 0, .int .u8 20, .int .u16 65535, .int .u16 0, .slice none 0 0, .slice none 0 0] := by rw [← hev]; exact (eval_put (by kernel_rfl) 116 rfl (by decide)).trans q18
        have e81 : ev (.tmp 81) = .agg #[.int .u16 (fq.toNat : Int), .int .u16 (fp.toNat : Int), .int .u32 (es1.toNat : Int), .int .u32 (ei1.toNat : Int), .int .u8 0, .int .u8 20, .int .u16 65535, .int .u16 0, .slice none 0 0, .slice none 0 0] := by rw [← hev]; exact (eval_put (by kernel_rfl) 116 rfl (by decide)).trans q31
        clear hev hd q18 q31 q16
        exact .inr ⟨_, _, _, by go_simp, (HS2 W).out, fun e w' he => ⟨_, he.1, rfl, he.2⟩⟩
      · obtain rfl := Option.some.inj hoo
        have q32 : uu 32 = .bool true := hd 32 (by kernel_rfl)
        have q16 : uu 16 = .bool false := hd 16 (by kernel_rfl)
        refine .inl ⟨wanted_yes rfl (yielded_put (k := 66) (by kernel_rfl) (by kernel_rfl) 116 rfl (by decide) q16), ?_⟩
        generalize hev : Act.eval _ = ev
        have ec : ∀ c, ev (.const c) = c := fun c => by rw [← hev]; rfl
        have e82 : ev (.tmp 82) = .bool true := by rw [← hev]; exact (eval_put (by kernel_rfl) 116 rfl (by decide)).trans q32
        clear hev hd q32 q16
        exact .inl ⟨_, W, by go_simp, rfl, Below.refl _ _⟩
      · obtain rfl := Option.some.inj hoo
        have q16 : uu 16 = .bool false := hd 16 (by kernel_rfl)
        have q33 : uu 33 = .bool false := hd 33 (by kernel_rfl)
        refine .inl ⟨wanted_none rfl, ?_⟩
        generalize hev : Act.eval _ = ev
        have ec : ∀ c, ev (.const c) = c := fun c => by rw [← hev]; rfl
        have e66 : ev (.tmp 66) = .bool false := by rw [← hev]; exact (eval_put (by kernel_rfl) 116 rfl (by decide)).trans q16
        have e83 : ev (.tmp 83) = .bool false := by rw [← hev]; exact (eval_put (by kernel_rfl) 116 rfl (by decide)).trans q33
        clear hev hd q16 q33
        exact .inl ⟨_, W, by go_simp, rfl, Below.refl _ _⟩
      · simp at hoo
    · intro uu W hVW hall
      replace hB := hB.trans (hVW.mono hB.size)
      replace KE := KE.next hVW
      replace KG := KG.next hVW
      replace hlt : Hid (w.heap.size + 2 < W.heap.size) := Nat.lt_of_lt_of_le hlt.out hVW.size
      have q34 : uu 34 = .bool false := hall 34 (by decide)
      simp only [putAll, Act.put, Nat.reduceAdd, q34]
      simp only [List.setIfInBounds_toArray, List.set_cons_succ, List.set_cons_zero]
      generalize W = V5 at *
      clear hall hVW q34 HG HP1 HS1 HR HP2 HS2 HCC h1 h2 h3
      obtain ⟨e0, e1, e2, e3, e4, e5, e6, e7, e8, e9, e10, e11, e12, -⟩ := KE.get13
      obtain ⟨y0, y1, y2, y3, y4, y5, y6, y7, y8, y9, -⟩ := KG.get10
      go_wp2_with fail
      cases bj with
      | false =>
        clear HJ1
        refine (HJ0 rfl _).out.mono ?_
        rintro e w5 ⟨rfl, hb⟩
        replace hlt : Hid (w.heap.size + 2 < w5.heap.size) := Nat.lt_of_lt_of_le hlt.out hb.size
        replace hB := bnextA (bnext hB hb) (.cells #[.int .u32 (fs.toNat : Int), .int .u32 (fd.toNat : Int), .int .u16 (fp.toNat : Int), .int .u16 (fq.toNat : Int), .int .u8 (fr.toNat : Int), .int .i64 eb, .int .i64 eh, .int .i64 ea, .bool ex, .bool ej, .int .u16 (et.toNat : Int), .int .u32 (es.toNat : Int), .int .u32 (ei.toNat : Int)] 55)
        replace KE := (KE.next hb).alloc (.cells #[.int .u32 (fs.toNat : Int), .int .u32 (fd.toNat : Int), .int .u16 (fp.toNat : Int), .int .u16 (fq.toNat : Int), .int .u8 (fr.toNat : Int), .int .i64 eb, .int .i64 eh, .int .i64 ea, .bool ex, .bool ej, .int .u16 (et.toNat : Int), .int .u32 (es.toNat : Int), .int .u32 (ei.toNat : Int)] 55)
        replace KG := (KG.next hb).alloc (.cells #[.int .u32 (fs.toNat : Int), .int .u32 (fd.toNat : Int), .int .u16 (fp.toNat : Int), .int .u16 (fq.toNat : Int), .int .u8 (fr.toNat : Int), .int .i64 eb, .int .i64 eh, .int .i64 ea, .bool ex, .bool ej, .int .u16 (et.toNat : Int), .int .u32 (es.toNat : Int), .int .u32 (ei.toNat : Int)] 55)
        have KX := (Blk.new w5 #[.int .u32 (fs.toNat : Int), .int .u32 (fd.toNat : Int), .int .u16 (fp.toNat : Int), .int .u16 (fq.toNat : Int), .int .u8 (fr.toNat : Int), .int .i64 eb, .int .i64 eh, .int .i64 ea, .bool ex, .bool ej, .int .u16 (et.toNat : Int), .int .u32 (es.toNat : Int), .int .u32 (ei.toNat : Int)] 55).alloc (.cells #[.int .u32 (fs.toNat : Int), .int .u32 (fd.toNat : Int), .int .u16 (fp.toNat : Int), .int .u16 (fq.toNat : Int), .int .u8 (fr.toNat : Int), .int .i64 eb, .int .i64 eh, .int .i64 ea, .bool ex, .bool ej, .int .u16 (et.toNat : Int), .int .u32 (es.toNat : Int), .int .u32 (ei.toNat : Int)] 55)
        clear hb e0 e1 e2 e3 e4 e5 e6 e7 e8 e9 e10 e11 e12 y0 y1 y2 y3 y4 y5 y6 y7 y8 y9
        obtain ⟨e0, e1, e2, e3, e4, e5, e6, e7, e8, e9, e10, e11, e12, -⟩ := KE.get13
        replace hB := bnextA hB (.cells #[.int .u32 (fs.toNat : Int), .int .u32 (fd.toNat : Int), .int .u16 (fp.toNat : Int), .int .u16 (fq.toNat : Int), .int .u8 (fr.toNat : Int), .int .i64 eb, .int .i64 eh, .int .i64 ea, .bool ex, .bool ej, .int .u16 (et.toNat : Int), .int .u32 (es.toNat : Int), .int .u32 (ei.toNat : Int)] 55)
        replace KE := KE.alloc (.cells #[.int .u32 (fs.toNat : Int), .int .u32 (fd.toNat : Int), .int .u16 (fp.toNat : Int), .int .u16 (fq.toNat : Int), .int .u8 (fr.toNat : Int), .int .i64 eb, .int .i64 eh, .int .i64 ea, .bool ex, .bool ej, .int .u16 (et.toNat : Int), .int .u32 (es.toNat : Int), .int .u32 (ei.toNat : Int)] 55)
        replace KG := KG.alloc (.cells #[.int .u32 (fs.toNat : Int), .int .u32 (fd.toNat : Int), .int .u16 (fp.toNat : Int), .int .u16 (fq.toNat : Int), .int .u8 (fr.toNat : Int), .int .i64 eb, .int .i64 eh, .int .i64 ea, .bool ex, .bool ej, .int .u16 (et.toNat : Int), .int .u32 (es.toNat : Int), .int .u32 (ei.toNat : Int)] 55)
        have KY : Blk ((w5.alloc (.cells #[.int .u32 (fs.toNat : Int), .int .u32 (fd.toNat : Int), .int .u16 (fp.toNat : Int), .int .u16 (fq.toNat : Int), .int .u8 (fr.toNat : Int), .int .i64 eb, .int .i64 eh, .int .i64 ea, .bool ex, .bool ej, .int .u16 (et.toNat : Int), .int .u32 (es.toNat : Int), .int .u32 (ei.toNat : Int)] 55)).alloc (.cells #[.int .u32 (fs.toNat : Int), .int .u32 (fd.toNat : Int), .int .u16 (fp.toNat : Int), .int .u16 (fq.toNat : Int), .int .u8 (fr.toNat : Int), .int .i64 eb, .int .i64 eh, .int .i64 ea, .bool ex, .bool ej, .int .u16 (et.toNat : Int), .int .u32 (es.toNat : Int), .int .u32 (ei.toNat : Int)] 55)) (w5.heap.size + 1) [.int .u32 (fs.toNat : Int), .int .u32 (fd.toNat : Int), .int .u16 (fp.toNat : Int), .int .u16 (fq.toNat : Int), .int .u8 (fr.toNat : Int), .int .i64 eb, .int .i64 eh, .int .i64 ea, .bool ex, .bool ej, .int .u16 (et.toNat : Int), .int .u32 (es.toNat : Int), .int .u32 (ei.toNat : Int)] 55 := by simpa using Blk.new (w5.alloc (.cells #[.int .u32 (fs.toNat : Int), .int .u32 (fd.toNat : Int), .int .u16 (fp.toNat : Int), .int .u16 (fq.toNat : Int), .int .u8 (fr.toNat : Int), .int .i64 eb, .int .i64 eh, .int .i64 ea, .bool ex, .bool ej, .int .u16 (et.toNat : Int), .int .u32 (es.toNat : Int), .int .u32 (ei.toNat : Int)] 55)) #[.int .u32 (fs.toNat : Int), .int .u32 (fd.toNat : Int), .int .u16 (fp.toNat : Int), .int .u16 (fq.toNat : Int), .int .u8 (fr.toNat : Int), .int .i64 eb, .int .i64 eh, .int .i64 ea, .bool ex, .bool ej, .int .u16 (et.toNat : Int), .int .u32 (es.toNat : Int), .int .u32 (ei.toNat : Int)] 55
        obtain ⟨x0, x1, x2, x3, x4, x5, x6, x7, x8, x9, x10, x11, x12, -⟩ := KE.get13
        obtain ⟨y0, y1, y2, y3, y4, y5, y6, y7, y8, y9, -⟩ := KG.get10
        go_wp2_with fail
        clear e0 e1 e2 e3 e4 e5 e6 e7 e8 e9 e10 e11 e12 x0 x1 x2 x3 x4 x5 x6 x7 x8 x9 x10 x11 x12 y0 y1 y2 y3 y4 y5 y6 y7 y8 y9
        obtain ⟨V6, hV6⟩ : ∃ V6, V6 = (w5.alloc (.cells #[.int .u32 (fs.toNat : Int), .int .u32 (fd.toNat : Int), .int .u16 (fp.toNat : Int), .int .u16 (fq.toNat : Int), .int .u8 (fr.toNat : Int), .int .i64 eb, .int .i64 eh, .int .i64 ea, .bool ex, .bool ej, .int .u16 (et.toNat : Int), .int .u32 (es.toNat : Int), .int .u32 (ei.toNat : Int)] 55)).alloc (.cells #[.int .u32 (fs.toNat : Int), .int .u32 (fd.toNat : Int), .int .u16 (fp.toNat : Int), .int .u16 (fq.toNat : Int), .int .u8 (fr.toNat : Int), .int .i64 eb, .int .i64 eh, .int .i64 ea, .bool ex, .bool ej, .int .u16 (et.toNat : Int), .int .u32 (es.toNat : Int), .int .u32 (ei.toNat : Int)] 55) := ⟨_, rfl⟩
        rw [← hV6] at hB KE KG KX KY ⊢
        clear hV6
        have hxy : w5.heap.size ≠ w5.heap.size + 1 := by omega
        have hwy : w.heap.size + 2 < w5.heap.size + 1 := by have := hlt.out; omega
        generalize w5.heap.size + 1 = gy at *
        generalize w5.heap.size = gx at *
        refine (HJR _).out.mono ?_
        rintro e w6 ⟨rfl, hb⟩
        replace hB := bnext hB hb
        replace KE := KE.next hb
        replace KG := KG.next hb
        replace KX := KX.next hb
        replace KY := KY.next hb
        clear hb
        obtain ⟨x0, x1, x2, x3, x4, x5, x6, x7, x8, x9, x10, x11, x12, -⟩ := KX.get13
        obtain ⟨m0, m1, m2, m3, m4, m5, m6, m7, m8, m9, m10, m11, m12, -⟩ := KY.get13
        obtain ⟨e0, e1, e2, e3, e4, e5, e6, e7, e8, e9, e10, e11, e12, -⟩ := KE.get13
        obtain ⟨y0, y1, y2, y3, y4, y5, y6, y7, y8, y9, -⟩ := KG.get10
        go_wp2_with fail
        refine (HJR _).out.mono ?_
        rintro e w7 ⟨rfl, hb⟩
        replace hB := bnext hB hb
        clear hb KE KG KX KY x0 x1 x2 x3 x4 x5 x6 x7 x8 x9 x10 x11 x12 m0 m1 m2 m3 m4 m5 m6 m7 m8 m9 m10 m11 m12 e0 e1 e2 e3 e4 e5 e6 e7 e8 e9 e10 e11 e12 y0 y1 y2 y3 y4 y5 y6 y7 y8 y9
        go_wp2_with fail
        refine (lives38_any _ (hS.next hB)).mono ?_
        rintro e w8 ⟨rfl, hb⟩
        replace hB := bnext hB hb
        go_wp2_with fail
        go_ret
        exact ⟨rfl, hB⟩
      | true =>
        clear HJ0
        refine (HJ1 rfl _).out.mono ?_
        rintro e w5 ⟨rfl, hb⟩
        replace hlt : Hid (w.heap.size + 2 < w5.heap.size) := Nat.lt_of_lt_of_le hlt.out hb.size
        replace hB := bnextA (bnext hB hb) (.cells #[.int .u32 (fs.toNat : Int), .int .u32 (fd.toNat : Int), .int .u16 (fp.toNat : Int), .int .u16 (fq.toNat : Int), .int .u8 (fr.toNat : Int), .int .i64 eb, .int .i64 2, .int .i64 ea, .bool ex, .bool true, .int .u16 (et.toNat : Int), .int .u32 (dd.toNat : Int), .int .u32 (ei.toNat : Int)] 55)
        replace KE := (KE.next hb).alloc (.cells #[.int .u32 (fs.toNat : Int), .int .u32 (fd.toNat : Int), .int .u16 (fp.toNat : Int), .int .u16 (fq.toNat : Int), .int .u8 (fr.toNat : Int), .int .i64 eb, .int .i64 2, .int .i64 ea, .bool ex, .bool true, .int .u16 (et.toNat : Int), .int .u32 (dd.toNat : Int), .int .u32 (ei.toNat : Int)] 55)
        replace KG := (KG.next hb).alloc (.cells #[.int .u32 (fs.toNat : Int), .int .u32 (fd.toNat : Int), .int .u16 (fp.toNat : Int), .int .u16 (fq.toNat : Int), .int .u8 (fr.toNat : Int), .int .i64 eb, .int .i64 2, .int .i64 ea, .bool ex, .bool true, .int .u16 (et.toNat : Int), .int .u32 (dd.toNat : Int), .int .u32 (ei.toNat : Int)] 55)
        have KX := (Blk.new w5 #[.int .u32 (fs.toNat : Int), .int .u32 (fd.toNat : Int), .int .u16 (fp.toNat : Int), .int .u16 (fq.toNat : Int), .int .u8 (fr.toNat : Int), .int .i64 eb, .int .i64 2, .int .i64 ea, .bool ex, .bool true, .int .u16 (et.toNat : Int), .int .u32 (dd.toNat : Int), .int .u32 (ei.toNat : Int)] 55).alloc (.cells #[.int .u32 (fs.toNat : Int), .int .u32 (fd.toNat : Int), .int .u16 (fp.toNat : Int), .int .u16 (fq.toNat : Int), .int .u8 (fr.toNat : Int), .int .i64 eb, .int .i64 eh, .int .i64 ea, .bool ex, .bool ej, .int .u16 (et.toNat : Int), .int .u32 (es.toNat : Int), .int .u32 (ei.toNat : Int)] 55)
        clear hb e0 e1 e2 e3 e4 e5 e6 e7 e8 e9 e10 e11 e12 y0 y1 y2 y3 y4 y5 y6 y7 y8 y9
        obtain ⟨e0, e1, e2, e3, e4, e5, e6, e7, e8, e9, e10, e11, e12, -⟩ := KE.get13
        replace hB := bnextA hB (.cells #[.int .u32 (fs.toNat : Int), .int .u32 (fd.toNat : Int), .int .u16 (fp.toNat : Int), .int .u16 (fq.toNat : Int), .int .u8 (fr.toNat : Int), .int .i64 eb, .int .i64 eh, .int .i64 ea, .bool ex, .bool ej, .int .u16 (et.toNat : Int), .int .u32 (es.toNat : Int), .int .u32 (ei.toNat : Int)] 55)
        replace KE := KE.alloc (.cells #[.int .u32 (fs.toNat : Int), .int .u32 (fd.toNat : Int), .int .u16 (fp.toNat : Int), .int .u16 (fq.toNat : Int), .int .u8 (fr.toNat : Int), .int .i64 eb, .int .i64 eh, .int .i64 ea, .bool ex, .bool ej, .int .u16 (et.toNat : Int), .int .u32 (es.toNat : Int), .int .u32 (ei.toNat : Int)] 55)
        replace KG := KG.alloc (.cells #[.int .u32 (fs.toNat : Int), .int .u32 (fd.toNat : Int), .int .u16 (fp.toNat : Int), .int .u16 (fq.toNat : Int), .int .u8 (fr.toNat : Int), .int .i64 eb, .int .i64 eh, .int .i64 ea, .bool ex, .bool ej, .int .u16 (et.toNat : Int), .int .u32 (es.toNat : Int), .int .u32 (ei.toNat : Int)] 55)
        have KY : Blk ((w5.alloc (.cells #[.int .u32 (fs.toNat : Int), .int .u32 (fd.toNat : Int), .int .u16 (fp.toNat : Int), .int .u16 (fq.toNat : Int), .int .u8 (fr.toNat : Int), .int .i64 eb, .int .i64 2, .int .i64 ea, .bool ex, .bool true, .int .u16 (et.toNat : Int), .int .u32 (dd.toNat : Int), .int .u32 (ei.toNat : Int)] 55)).alloc (.cells #[.int .u32 (fs.toNat : Int), .int .u32 (fd.toNat : Int), .int .u16 (fp.toNat : Int), .int .u16 (fq.toNat : Int), .int .u8 (fr.toNat : Int), .int .i64 eb, .int .i64 eh, .int .i64 ea, .bool ex, .bool ej, .int .u16 (et.toNat : Int), .int .u32 (es.toNat : Int), .int .u32 (ei.toNat : Int)] 55)) (w5.heap.size + 1) [.int .u32 (fs.toNat : Int), .int .u32 (fd.toNat : Int), .int .u16 (fp.toNat : Int), .int .u16 (fq.toNat : Int), .int .u8 (fr.toNat : Int), .int .i64 eb, .int .i64 eh, .int .i64 ea, .bool ex, .bool ej, .int .u16 (et.toNat : Int), .int .u32 (es.toNat : Int), .int .u32 (ei.toNat : Int)] 55 := by simpa using Blk.new (w5.alloc (.cells #[.int .u32 (fs.toNat : Int), .int .u32 (fd.toNat : Int), .int .u16 (fp.toNat : Int), .int .u16 (fq.toNat : Int), .int .u8 (fr.toNat : Int), .int .i64 eb, .int .i64 2, .int .i64 ea, .bool ex, .bool true, .int .u16 (et.toNat : Int), .int .u32 (dd.toNat : Int), .int .u32 (ei.toNat : Int)] 55)) #[.int .u32 (fs.toNat : Int), .int .u32 (fd.toNat : Int), .int .u16 (fp.toNat : Int), .int .u16 (fq.toNat : Int), .int .u8 (fr.toNat : Int), .int .i64 eb, .int .i64 eh, .int .i64 ea, .bool ex, .bool ej, .int .u16 (et.toNat : Int), .int .u32 (es.toNat : Int), .int .u32 (ei.toNat : Int)] 55
        obtain ⟨x0, x1, x2, x3, x4, x5, x6, x7, x8, x9, x10, x11, x12, -⟩ := KE.get13
        obtain ⟨y0, y1, y2, y3, y4, y5, y6, y7, y8, y9, -⟩ := KG.get10
        go_wp2_with fail
        clear e0 e1 e2 e3 e4 e5 e6 e7 e8 e9 e10 e11 e12 x0 x1 x2 x3 x4 x5 x6 x7 x8 x9 x10 x11 x12 y0 y1 y2 y3 y4 y5 y6 y7 y8 y9
        obtain ⟨V6, hV6⟩ : ∃ V6, V6 = (w5.alloc (.cells #[.int .u32 (fs.toNat : Int), .int .u32 (fd.toNat : Int), .int .u16 (fp.toNat : Int), .int .u16 (fq.toNat : Int), .int .u8 (fr.toNat : Int), .int .i64 eb, .int .i64 2, .int .i64 ea, .bool ex, .bool true, .int .u16 (et.toNat : Int), .int .u32 (dd.toNat : Int), .int .u32 (ei.toNat : Int)] 55)).alloc (.cells #[.int .u32 (fs.toNat : Int), .int .u32 (fd.toNat : Int), .int .u16 (fp.toNat : Int), .int .u16 (fq.toNat : Int), .int .u8 (fr.toNat : Int), .int .i64 eb, .int .i64 eh, .int .i64 ea, .bool ex, .bool ej, .int .u16 (et.toNat : Int), .int .u32 (es.toNat : Int), .int .u32 (ei.toNat : Int)] 55) := ⟨_, rfl⟩
        rw [← hV6] at hB KE KG KX KY ⊢
        clear hV6
        have hxy : w5.heap.size ≠ w5.heap.size + 1 := by omega
        have hwy : w.heap.size + 2 < w5.heap.size + 1 := by have := hlt.out; omega
        generalize w5.heap.size + 1 = gy at *
        generalize w5.heap.size = gx at *
        refine (HJR _).out.mono ?_
        rintro e w6 ⟨rfl, hb⟩
        replace hB := bnext hB hb
        replace KE := KE.next hb
        replace KG := KG.next hb
        replace KX := KX.next hb
        replace KY := KY.next hb
        clear hb
        have d3 := h4.out
        obtain ⟨x0, x1, x2, x3, x4, x5, x6, x7, x8, x9, x10, x11, x12, -⟩ := KE.get13
        obtain ⟨y0, y1, y2, y3, y4, y5, y6, y7, y8, y9, -⟩ := KG.get10
        obtain ⟨m0, m1, m2, m3, m4, m5, m6, m7, m8, m9, m10, m11, m12, n0, n1, n2, n3, n4, n5, n6, n7, n8, n9, n10, n11, n12⟩ := KY.get13
        have hne1 : gy ≠ w.heap.size + 1 := by omega
        have hne2 : gy ≠ w.heap.size + 2 := by omega
        have hgy : w.heap.size ≤ gy := by omega
        clear x0 x1 x2 x3 x4 x5 x6 x7 x8 x9 x10 x12 y0 y1 y3 y4 y5 y6 y7 y8 y9
        go_wp2_with fail
        go_region
        have hB7 := (((hB.setCell (p := ⟨gy, 6, none⟩) hgy (.int .i64 2)).setCell (p := ⟨gy, 9, none⟩) hgy (.bool true)).setCell (p := ⟨gy, 11, none⟩) hgy (.int .u32 (dd.toNat : Int)))
        have hB8 : Below w.heap.size w ((((w6.setCell ⟨gy, 6, none⟩ (.int .i64 2)).setCell ⟨gy, 9, none⟩ (.bool true)).setCell ⟨gy, 11, none⟩ (.int .u32 (dd.toNat : Int))).drew) := ⟨hB7.os, hB7.tape, hB7.output, hB7.size, hB7.block⟩
        have KE8 := (((KE.other (g' := gy) hne2.symm 6 (.int .i64 2)).other (g' := gy) hne2.symm 9 (.bool true)).other (g' := gy) hne2.symm 11 (.int .u32 (dd.toNat : Int))).drew
        have KG8 := (((KG.other (g' := gy) hne1.symm 6 (.int .i64 2)).other (g' := gy) hne1.symm 9 (.bool true)).other (g' := gy) hne1.symm 11 (.int .u32 (dd.toNat : Int))).drew
        have KX8 := (((KX.other (g' := gy) hxy 6 (.int .i64 2)).other (g' := gy) hxy 9 (.bool true)).other (g' := gy) hxy 11 (.int .u32 (dd.toNat : Int))).drew
        have KY8 := (((KY.set 6 (.int .i64 2)).set 9 (.bool true)).set 11 (.int .u32 (dd.toNat : Int))).drew
        simp only [List.set_cons_succ, List.set_cons_zero] at KY8
        clear hB7 hB KE KG KX KY x11 y2 m0 m1 m2 m3 m4 m5 m6 m7 m8 m9 m10 m11 m12 n0 n1 n2 n3 n4 n5 n6 n7 n8 n9 n10 n11 n12 hne1 hne2 hgy d3
        generalize (((w6.setCell ⟨gy, 6, none⟩ (.int .i64 2)).setCell ⟨gy, 9, none⟩ (.bool true)).setCell ⟨gy, 11, none⟩ (.int .u32 (dd.toNat : Int))).drew = V8 at hB8 KE8 KG8 KX8 KY8 ⊢
        have hB := hB8
        have KE := KE8
        have KG := KG8
        have KX := KX8
        have KY := KY8
        clear hB8 KE8 KG8 KX8 KY8
        obtain ⟨x0, x1, x2, x3, x4, x5, x6, x7, x8, x9, x10, x11, x12, -⟩ := KX.get13
        obtain ⟨m0, m1, m2, m3, m4, m5, m6, m7, m8, m9, m10, m11, m12, -⟩ := KY.get13
        obtain ⟨e0, e1, e2, e3, e4, e5, e6, e7, e8, e9, e10, e11, e12, -⟩ := KE.get13
        obtain ⟨y0, y1, y2, y3, y4, y5, y6, y7, y8, y9, -⟩ := KG.get10
        go_wp2_with fail
        refine (HJR _).out.mono ?_
        rintro e w7 ⟨rfl, hb⟩
        replace hB := bnext hB hb
        clear hb KE KG KX KY x0 x1 x2 x3 x4 x5 x6 x7 x8 x9 x10 x11 x12 m0 m1 m2 m3 m4 m5 m6 m7 m8 m9 m10 m11 m12 e0 e1 e2 e3 e4 e5 e6 e7 e8 e9 e10 e11 e12 y0 y1 y2 y3 y4 y5 y6 y7 y8 y9
        go_wp2_with fail
        refine (lives38_any _ (hS.next hB)).mono ?_
        rintro e w8 ⟨rfl, hb⟩
        replace hB := bnext hB hb
        go_wp2_with fail
        go_ret
        exact ⟨rfl, hB⟩
theorem ProxyJoins_walk (a0_0 : Int) (a0_1 : Int) (a0_2 : Int) (a0_3 : Int) (a0_4 : Int) (a1 : Int) (a2 : Int) (a3 : Int) (a4_0 : Int) (a4_1 : Int) (a4_2 : Int) (a4_3 : Int) (a4_4 : Int) (a4_5 : Int) (a4_6 : Int) (a4_7 : Int) (a4_8 : Option Addr) (len4_8 cap4_8 : Nat) (z4_8 : List Int) (a4_9 : Option Addr) (len4_9 cap4_9 : Nat) (z4_9 : List Int) (a5_0_0 : Int) (a5_0_1 : Int) (a5_0_2 : Int) (a5_0_3 : Int) (a5_0_4 : Int) (a5_1 : Int) (a5_2 : Int) (a5_3 : Int) (a5_4 : Bool) (a5_5 : Bool) (a5_6 : Int) (a5_7 : Int) (a5_8 : Int) (a6 : Int) (w : World) (w0_0 : (Lit.int .u32 a0_0).wf = true) (w0_1 : (Lit.int .u32 a0_1).wf = true) (w0_2 : (Lit.int .u16 a0_2).wf = true) (w0_3 : (Lit.int .u16 a0_3).wf = true) (w0_4 : (Lit.int .u8 a0_4).wf = true) (w1 : (Lit.int .i64 a1).wf = true) (w2 : (Lit.int .u16 a2).wf = true) (w3 : (Lit.int .u16 a3).wf = true) (w4_0 : (Lit.int .u16 a4_0).wf = true) (w4_1 : (Lit.int .u16 a4_1).wf = true) (w4_2 : (Lit.int .u32 a4_2).wf = true) (w4_3 : (Lit.int .u32 a4_3).wf = true) (w4_4 : (Lit.int .u8 a4_4).wf = true) (w4_5 : (Lit.int .u8 a4_5).wf = true) (w4_6 : (Lit.int .u16 a4_6).wf = true) (w4_7 : (Lit.int .u16 a4_7).wf = true) (w4_8 : InRow .u8 w a4_8 len4_8 cap4_8 z4_8) (w4_9 : InRow .u8 w a4_9 len4_9 cap4_9 z4_9) (w5_0_0 : (Lit.int .u32 a5_0_0).wf = true) (w5_0_1 : (Lit.int .u32 a5_0_1).wf = true) (w5_0_2 : (Lit.int .u16 a5_0_2).wf = true) (w5_0_3 : (Lit.int .u16 a5_0_3).wf = true) (w5_0_4 : (Lit.int .u8 a5_0_4).wf = true) (w5_1 : (Lit.int .i64 a5_1).wf = true) (w5_2 : (Lit.int .i64 a5_2).wf = true) (w5_3 : (Lit.int .i64 a5_3).wf = true) (w5_6 : (Lit.int .u16 a5_6).wf = true) (w5_7 : (Lit.int .u32 a5_7).wf = true) (w5_8 : (Lit.int .u32 a5_8).wf = true) (w6 : (Lit.int .i64 a6).wf = true) (hS : SZ w) :
    Calls Tryd.prog 7 #[.agg #[.int .u32 a0_0, .int .u32 a0_1, .int .u16 a0_2, .int .u16 a0_3, .int .u8 a0_4], .int .i64 a1, .int .u16 a2, .int .u16 a3, .agg #[.int .u16 a4_0, .int .u16 a4_1, .int .u32 a4_2, .int .u32 a4_3, .int .u8 a4_4, .int .u8 a4_5, .int .u16 a4_6, .int .u16 a4_7, .slice a4_8 len4_8 cap4_8, .slice a4_9 len4_9 cap4_9], .agg #[.int .u32 a5_0_0, .int .u32 a5_0_1, .int .u16 a5_0_2, .int .u16 a5_0_3, .int .u8 a5_0_4, .int .i64 a5_1, .int .i64 a5_2, .int .i64 a5_3, .bool a5_4, .bool a5_5, .int .u16 a5_6, .int .u32 a5_7, .int .u32 a5_8], .int .i64 a6] w fun e w' => e = .returned (.bool true) ∧ Below w.heap.size w w' := by
  obtain ⟨s, rfl⟩ := u32_of w0_0
  obtain ⟨d, rfl⟩ := u32_of w0_1
  obtain ⟨p, rfl⟩ := u16_of w0_2
  obtain ⟨q, rfl⟩ := u16_of w0_3
  obtain ⟨r, rfl⟩ := u8_of w0_4
  obtain ⟨to, rfl⟩ := u16_of w3
  obtain ⟨sa, rfl⟩ := u16_of w4_0
  obtain ⟨sb, rfl⟩ := u16_of w4_1
  obtain ⟨sq, rfl⟩ := u32_of w4_2
  obtain ⟨sk, rfl⟩ := u32_of w4_3
  obtain ⟨sr, rfl⟩ := u8_of w4_4
  obtain ⟨sf, rfl⟩ := u8_of w4_5
  obtain ⟨sz, rfl⟩ := u16_of w4_6
  obtain ⟨su, rfl⟩ := u16_of w4_7
  obtain ⟨fs, rfl⟩ := u32_of w5_0_0
  obtain ⟨fd, rfl⟩ := u32_of w5_0_1
  obtain ⟨fp, rfl⟩ := u16_of w5_0_2
  obtain ⟨fq, rfl⟩ := u16_of w5_0_3
  obtain ⟨fr, rfl⟩ := u8_of w5_0_4
  obtain ⟨et, rfl⟩ := u16_of w5_6
  obtain ⟨es, rfl⟩ := u32_of w5_7
  obtain ⟨ei, rfl⟩ := u32_of w5_8
  obtain ⟨os, hol, ho0, hlc, hcc, hm⟩ := few_len w4_8 50
  obtain ⟨xs, hxl, hx0', hlc2, hcc2, hm2⟩ := few_len w4_9 200
  exact ProxyJoins_w s d p q r a1 a2 to sa sb sq sk sr sf sz su a4_8 a4_9 len4_8 cap4_8 len4_9 cap4_9 fs fd fp fq fr a5_1 a5_2 a5_3 a5_4 a5_5 et es ei a6 os xs w hS hlc hcc hlc2 hcc2 hm hm2
end Go.Proofs.YteodjajjlgekcaaDoor
