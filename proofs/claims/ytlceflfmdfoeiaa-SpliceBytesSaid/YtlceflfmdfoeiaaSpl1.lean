/- Contracts of package splice's Apply. -/
import Derived.Test.YtlceflfmdfoeiaaTcp6
import Derived.Test.YtlceflfmdfoeiaaShelf
import Derived.Test.YtlceflfmdfoeiaaKit3
import Derived.Test.YtlceflfmdfoeiaaReg2
namespace Go.Proofs.Ytlceflfmdfoeiaa
open Go.RowKit

theorem sclone_any (A : Option Addr) (c : Nat) (xs : List UInt8) (w : World) (B : Nat) (hr : Rd bv w B A c xs) (hl : xs.length ≤ 1000000) :
    Calls Try.prog 34 #[.slice A xs.length c] w fun e w' => ∃ v, e = .returned v ∧ Own bv w' w.heap.size 5 v xs ∧ Below w.heap.size w w' := by
  cases A with
  | none =>
    obtain rfl : xs = [] := by
      rcases xs with _ | ⟨y, ys⟩
      · rfl
      · obtain ⟨_, _, h', _⟩ := hr.2.2.2 (by simp)
        cases h'
    exact (Try.bytes_Clone_nil 0 c w).mono fun e w' ⟨he, hw⟩ => by subst hw; exact ⟨_, he, Own.nil0 _ _ _ _, Below.refl _ _⟩
  | some a =>
    have hmap : (xs.map fun x => (x.toNat : Int)).map (Value.int .u8) = xs.map bv := by rw [List.map_map]; rfl
    have h := Try.bytes_Clone_at a xs.length c (xs.map fun x => (x.toNat : Int)) w (by simp) (by omega) (fun i hi => hr.news i _ (by simp [hi, bv, List.getD]))
    rw [hmap] at h
    exact h.mono fun e w' ⟨v, he, ho, _, hb⟩ => ⟨v, he, ho, hb⟩

set_option maxHeartbeats 4000000 in
theorem apply_1 (s d : UInt32) (p p2 : UInt16) (ts ta : UInt32) (a b : UInt16) (q k : UInt32) (r f : UInt8) (z u : UInt16) (q2 k2 : UInt32) (hq : q2 = q + ts) (hk : k2 = k + ta) (hf : hasB f 16 = true) (A1 A2 : Option Addr) (c1 c2 : Nat) (os xs : List UInt8) (w : World) (h1 : Rd bv w w.heap.size A1 c1 os) (h2 : Rd bv w w.heap.size A2 c2 xs) (l1 : os.length ≤ 1000000) (l2 : xs.length ≤ 1000000) :
    Calls Try.prog 19 #[.agg #[.int .u32 (s.toNat : Int), .int .u32 (d.toNat : Int), .int .u16 (p.toNat : Int), .int .u16 (p2.toNat : Int), .int .u32 (ts.toNat : Int), .int .u32 (ta.toNat : Int)], .agg #[.int .u16 (a.toNat : Int), .int .u16 (b.toNat : Int), .int .u32 (q.toNat : Int), .int .u32 (k.toNat : Int), .int .u8 (r.toNat : Int), .int .u8 (f.toNat : Int), .int .u16 (z.toNat : Int), .int .u16 (u.toNat : Int), .slice A1 os.length c1, .slice A2 xs.length c2]] w fun e w' => ∃ L1 B1 d1 L2 B2 d2, e = .returned (.agg #[.int .u16 (p.toNat : Int), .int .u16 (p2.toNat : Int), .int .u32 (q2.toNat : Int), .int .u32 (k2.toNat : Int), .int .u8 (r.toNat : Int), .int .u8 (f.toNat : Int), .int .u16 (z.toNat : Int), .int .u16 (u.toNat : Int), .slice B1 L1.length d1, .slice B2 L2.length d2]) ∧ Hid (L1 = os) ∧ Hid (L2 = xs) ∧ Rd bv w' w'.heap.size B1 d1 L1 ∧ Rd bv w' w'.heap.size B2 d2 L2 ∧ Below w.heap.size w w' := by
  have wq : IntKind.u32.wrap ((q.toNat : Int) + (ts.toNat : Int)) = (q2.toNat : Int) := by rw [hq, IntKind.wrap_u32, UInt32.toNat_add]; omega
  have wk : IntKind.u32.wrap ((k.toNat : Int) + (ta.toNat : Int)) = (k2.toNat : Int) := by rw [hk, IntKind.wrap_u32, UInt32.toNat_add]; omega
  have HH := fun W => Lib.hid (thas_any p p2 q2 k r f z u A1 A2 os.length c1 xs.length c2 16 W)
  rw [hf] at HH
  clear hq hf hk
  obtain ⟨W1, hW1⟩ : ∃ W1, W1 = ((w.alloc (.cells #[.int .u32 (s.toNat : Int), .int .u32 (d.toNat : Int), .int .u16 (p.toNat : Int), .int .u16 (p2.toNat : Int), .int .u32 (ts.toNat : Int), .int .u32 (ta.toNat : Int)] 28)).alloc (.cells #[.int .u16 (a.toNat : Int), .int .u16 (b.toNat : Int), .int .u32 (q.toNat : Int), .int .u32 (k.toNat : Int), .int .u8 (r.toNat : Int), .int .u8 (f.toNat : Int), .int .u16 (z.toNat : Int), .int .u16 (u.toNat : Int), .slice A1 os.length c1, .slice A2 xs.length c2] 26)).alloc (.cells #[.int .u16 0, .int .u16 0, .int .u32 0, .int .u32 0, .int .u8 0, .int .u8 0, .int .u16 0, .int .u16 0, .slice none 0 0, .slice none 0 0] 26) := ⟨_, rfl⟩
  have hB : Below w.heap.size w W1 := by subst hW1; exact bnextA (bnextA (bnextA (Below.refl _ _) _) _) _
  have KT : Blk W1 w.heap.size [.int .u32 (s.toNat : Int), .int .u32 (d.toNat : Int), .int .u16 (p.toNat : Int), .int .u16 (p2.toNat : Int), .int .u32 (ts.toNat : Int), .int .u32 (ta.toNat : Int)] 28 := by subst hW1; exact ((Blk.new _ _ _).alloc _).alloc _
  have KS : Blk W1 (w.heap.size + 1) [.int .u16 (a.toNat : Int), .int .u16 (b.toNat : Int), .int .u32 (q.toNat : Int), .int .u32 (k.toNat : Int), .int .u8 (r.toNat : Int), .int .u8 (f.toNat : Int), .int .u16 (z.toNat : Int), .int .u16 (u.toNat : Int), .slice A1 os.length c1, .slice A2 xs.length c2] 26 := by
    subst hW1
    have := (Blk.new (w.alloc (.cells #[.int .u32 (s.toNat : Int), .int .u32 (d.toNat : Int), .int .u16 (p.toNat : Int), .int .u16 (p2.toNat : Int), .int .u32 (ts.toNat : Int), .int .u32 (ta.toNat : Int)] 28)) #[.int .u16 (a.toNat : Int), .int .u16 (b.toNat : Int), .int .u32 (q.toNat : Int), .int .u32 (k.toNat : Int), .int .u8 (r.toNat : Int), .int .u8 (f.toNat : Int), .int .u16 (z.toNat : Int), .int .u16 (u.toNat : Int), .slice A1 os.length c1, .slice A2 xs.length c2] 26).alloc (.cells #[.int .u16 0, .int .u16 0, .int .u32 0, .int .u32 0, .int .u8 0, .int .u8 0, .int .u16 0, .int .u16 0, .slice none 0 0, .slice none 0 0] 26)
    simpa using this
  have KR : Blk W1 (w.heap.size + 1 + 1) [.int .u16 0, .int .u16 0, .int .u32 0, .int .u32 0, .int .u8 0, .int .u8 0, .int .u16 0, .int .u16 0, .slice none 0 0, .slice none 0 0] 26 := by
    subst hW1
    have := Blk.new ((w.alloc (.cells #[.int .u32 (s.toNat : Int), .int .u32 (d.toNat : Int), .int .u16 (p.toNat : Int), .int .u16 (p2.toNat : Int), .int .u32 (ts.toNat : Int), .int .u32 (ta.toNat : Int)] 28)).alloc (.cells #[.int .u16 (a.toNat : Int), .int .u16 (b.toNat : Int), .int .u32 (q.toNat : Int), .int .u32 (k.toNat : Int), .int .u8 (r.toNat : Int), .int .u8 (f.toNat : Int), .int .u16 (z.toNat : Int), .int .u16 (u.toNat : Int), .slice A1 os.length c1, .slice A2 xs.length c2] 26)) #[.int .u16 0, .int .u16 0, .int .u32 0, .int .u32 0, .int .u8 0, .int .u8 0, .int .u16 0, .int .u16 0, .slice none 0 0, .slice none 0 0] 26
    simpa using this
  have H1 := Lib.hid h1
  have H2 := Lib.hid h2
  obtain ⟨t0, t1, t2, t3, t4, t5, -⟩ := KT.get6
  obtain ⟨x0, x1, x2, x3, x4, x5, x6, x7, x8, x9, y0, y1, y2, y3, y4, y5, y6, y7, y8, y9⟩ := KS.get10
  clear h1 h2
  go_enter Try.func19, Try.ntmps19
  go_wp2_with fail
  rw [← hW1]
  clear hW1
  go_region
  go_wp2_with fail
  refine (HH _).out.mono ?_
  rintro e w2 ⟨rfl, hb⟩
  replace hb := Below.undrew hb
  have hle : w.heap.size ≤ w.heap.size + 1 := Nat.le_succ _
  have hB2 := bnext (((hB.setCell (p := ⟨w.heap.size + 1, 0, none⟩) hle (.int .u16 (p.toNat : Int))).setCell (p := ⟨w.heap.size + 1, 1, none⟩) hle (.int .u16 (p2.toNat : Int))).setCell (p := ⟨w.heap.size + 1, 2, none⟩) hle (.int .u32 (q2.toNat : Int))) hb
  have KS2 : Blk w2 (w.heap.size + 1) [.int .u16 (p.toNat : Int), .int .u16 (p2.toNat : Int), .int .u32 (q2.toNat : Int), .int .u32 (k.toNat : Int), .int .u8 (r.toNat : Int), .int .u8 (f.toNat : Int), .int .u16 (z.toNat : Int), .int .u16 (u.toNat : Int), .slice A1 os.length c1, .slice A2 xs.length c2] 26 := (((KS.set 0 (.int .u16 (p.toNat : Int))).set 1 (.int .u16 (p2.toNat : Int))).set 2 (.int .u32 (q2.toNat : Int))).next hb
  have hne : w.heap.size + 1 + 1 ≠ w.heap.size + 1 := by omega
  have hne0 : w.heap.size ≠ w.heap.size + 1 := by omega
  have KR2 := (((KR.other hne 0 (.int .u16 (p.toNat : Int))).other hne 1 (.int .u16 (p2.toNat : Int))).other hne 2 (.int .u32 (q2.toNat : Int))).next hb
  have KT2 := (((KT.other hne0 0 (.int .u16 (p.toNat : Int))).other hne0 1 (.int .u16 (p2.toNat : Int))).other hne0 2 (.int .u32 (q2.toNat : Int))).next hb
  clear hb t0 t1 t2 t3 t4 t5 x0 x1 x2 x3 x4 x5 x6 x7 x8 x9 y0 y1 y2 y3 y4 y5 y6 y7 y8 y9 KS KR KT hB hne0 HH wq
  obtain ⟨t0, t1, t2, t3, t4, t5, -⟩ := KT2.get6
  obtain ⟨x0, x1, x2, x3, x4, x5, x6, x7, x8, x9, y0, y1, y2, y3, y4, y5, y6, y7, y8, y9⟩ := KS2.get10
  go_wp2_with fail
  replace hB2 := hB2.setCell (p := ⟨w.heap.size + 1, 3, none⟩) hle (.int .u32 (k2.toNat : Int))
  have KS3 : Blk (w2.setCell ⟨w.heap.size + 1, 3, none⟩ (.int .u32 (k2.toNat : Int))) (w.heap.size + 1) [.int .u16 (p.toNat : Int), .int .u16 (p2.toNat : Int), .int .u32 (q2.toNat : Int), .int .u32 (k2.toNat : Int), .int .u8 (r.toNat : Int), .int .u8 (f.toNat : Int), .int .u16 (z.toNat : Int), .int .u16 (u.toNat : Int), .slice A1 os.length c1, .slice A2 xs.length c2] 26 := KS2.set 3 (.int .u32 (k2.toNat : Int))
  have KR3 := KR2.other hne 3 (.int .u32 (k2.toNat : Int))
  generalize w2.setCell ⟨w.heap.size + 1, 3, none⟩ (.int .u32 (k2.toNat : Int)) = V at *
  clear t0 t1 t2 t3 t4 t5 x0 x1 x2 x3 x4 x5 x6 x7 x8 x9 y0 y1 y2 y3 y4 y5 y6 y7 y8 y9 KS2 KR2 KT2
  have r1 := Lib.hid (H1.out.next hB2)
  have r2 := Lib.hid (H2.out.next hB2)
  have HS : ∀ W, Below V.heap.size V W → (W.cell? ⟨w.heap.size + 1, 8, none⟩ = some (.slice A1 os.length c1) ∧ W.cell? ⟨w.heap.size + 1, 9, none⟩ = some (.slice A2 xs.length c2)) := by
    intro W h
    obtain ⟨x0, x1, x2, x3, x4, x5, x6, x7, x8, x9, -⟩ := (KS3.next h).get10
    exact ⟨x8, x9⟩
  have HF : ∀ W, Below V.heap.size V W → Hid (W.frozen? ⟨w.heap.size + 1, 8, none⟩ = false ∧ W.frozen? ⟨w.heap.size + 1, 9, none⟩ = false) := by
    intro W h
    exact ⟨(KS3.next h).frozen 8, (KS3.next h).frozen 9⟩
  obtain ⟨s8, s9⟩ := HS _ (Below.refl _ _)
  first | (go_region_with (first
      | (go_at_call 34; go_split_ands; (with_reducible refine (sclone_any A1 c1 os _ _ r1.out.drew l1).mono ?_); rintro e w3 ⟨v1, rfl, hown, hZ⟩; replace hZ : Below V.heap.size V w3 := Below.undrew hZ; obtain ⟨L1, B1, d1, HL1, rfl, -⟩ := hown.rdv; have hO1 := Lib.hid hown; clear hown; obtain ⟨y8, y9⟩ := HS _ hZ)
      | (go_at_call 34; go_split_ands; (with_reducible refine (sclone_any A2 c2 xs _ _ (r2.out.next hZ) l2).mono ?_); rintro e w4 ⟨v2, rfl, hown, hZb⟩; have hZ2 : Below V.heap.size V w4 := bnext hZ hZb; obtain ⟨L2, B2, d2, HL2, rfl, -⟩ := hown.rdv; have hO2 := Lib.hid hown; clear hown; obtain ⟨f8, f9⟩ := (HF _ hZ2).out)
      | fail)) | fail
  all_goals
    obtain ⟨x0, x1, x2, x3, x4, x5, x6, x7, x8, x9, -⟩ := (KS3.next hZ2).get10
    obtain ⟨m0, m1, m2, m3, m4, m5, m6, m7, m8, m9, n0, n1, n2, n3, n4, n5, n6, n7, n8, n9⟩ := (KR3.next hZ2).get10
    have hB5 := Lib.hid (bnext hB2 hZ2)
    have hlt1 := Lib.hid KS3.lt
    have hlt2 := Lib.hid KR3.lt
    have hsz := Lib.hid hZ.size
    have hO3 := Lib.hid (hO1.out.nextO hZb)
    clear HS HF KS3 KR3 s8 s9 y8 y9 hO1 hB2 hZ hZ2 hZb H1 H2 r1 r2
    go_wp2_with fail
    simp [bodyPost, results, Try.results19, go_sem, *]
    rw [← HL1.out] at hO3
    rw [← HL2.out] at hO2
    have g1 : w.heap.size + 1 < _ := Nat.lt_of_lt_of_le hlt1.out hsz.out
    have g2 : w.heap.size + 1 + 1 < _ := Nat.lt_of_lt_of_le hlt2.out hsz.out
    refine ⟨L1, B1, d1, L2, B2, d2, by simp, HL1, HL2, ?_, ?_, ?_⟩
    · exact by simpa [setAll10] using ((((hO3.out.setBelow (p := ⟨w.heap.size + 1, 8, none⟩) hlt1.out _).setBelow (p := ⟨w.heap.size + 1, 9, none⟩) hlt1.out _).set10 (g := w.heap.size + 1 + 1) hlt2.out _ _ _ _ _ _ _ _ _ _)).rdS
    · exact by simpa [setAll10] using ((((hO2.out.setBelow (p := ⟨w.heap.size + 1, 8, none⟩) g1 _).setBelow (p := ⟨w.heap.size + 1, 9, none⟩) g1 _).set10 (g := w.heap.size + 1 + 1) g2 _ _ _ _ _ _ _ _ _ _)).rdS
    · exact bset10 ((hB5.out.setCell (p := ⟨w.heap.size + 1, 8, none⟩) hle _).setCell (p := ⟨w.heap.size + 1, 9, none⟩) hle _) (Nat.le_trans hle (Nat.le_succ _)) _ _ _ _ _ _ _ _ _ _
set_option maxHeartbeats 4000000 in
theorem apply_0 (s d : UInt32) (p p2 : UInt16) (ts ta : UInt32) (a b : UInt16) (q k : UInt32) (r f : UInt8) (z u : UInt16) (q2 k2 : UInt32) (hq : q2 = q + ts) (hk : k = k2) (hf : hasB f 16 = false) (A1 A2 : Option Addr) (c1 c2 : Nat) (os xs : List UInt8) (w : World) (h1 : Rd bv w w.heap.size A1 c1 os) (h2 : Rd bv w w.heap.size A2 c2 xs) (l1 : os.length ≤ 1000000) (l2 : xs.length ≤ 1000000) :
    Calls Try.prog 19 #[.agg #[.int .u32 (s.toNat : Int), .int .u32 (d.toNat : Int), .int .u16 (p.toNat : Int), .int .u16 (p2.toNat : Int), .int .u32 (ts.toNat : Int), .int .u32 (ta.toNat : Int)], .agg #[.int .u16 (a.toNat : Int), .int .u16 (b.toNat : Int), .int .u32 (q.toNat : Int), .int .u32 (k.toNat : Int), .int .u8 (r.toNat : Int), .int .u8 (f.toNat : Int), .int .u16 (z.toNat : Int), .int .u16 (u.toNat : Int), .slice A1 os.length c1, .slice A2 xs.length c2]] w fun e w' => ∃ L1 B1 d1 L2 B2 d2, e = .returned (.agg #[.int .u16 (p.toNat : Int), .int .u16 (p2.toNat : Int), .int .u32 (q2.toNat : Int), .int .u32 (k2.toNat : Int), .int .u8 (r.toNat : Int), .int .u8 (f.toNat : Int), .int .u16 (z.toNat : Int), .int .u16 (u.toNat : Int), .slice B1 L1.length d1, .slice B2 L2.length d2]) ∧ Hid (L1 = os) ∧ Hid (L2 = xs) ∧ Rd bv w' w'.heap.size B1 d1 L1 ∧ Rd bv w' w'.heap.size B2 d2 L2 ∧ Below w.heap.size w w' := by
  have wq : IntKind.u32.wrap ((q.toNat : Int) + (ts.toNat : Int)) = (q2.toNat : Int) := by rw [hq, IntKind.wrap_u32, UInt32.toNat_add]; omega
  subst hk
  have HH := fun W => Lib.hid (thas_any p p2 q2 k r f z u A1 A2 os.length c1 xs.length c2 16 W)
  rw [hf] at HH
  clear hq hf
  obtain ⟨W1, hW1⟩ : ∃ W1, W1 = ((w.alloc (.cells #[.int .u32 (s.toNat : Int), .int .u32 (d.toNat : Int), .int .u16 (p.toNat : Int), .int .u16 (p2.toNat : Int), .int .u32 (ts.toNat : Int), .int .u32 (ta.toNat : Int)] 28)).alloc (.cells #[.int .u16 (a.toNat : Int), .int .u16 (b.toNat : Int), .int .u32 (q.toNat : Int), .int .u32 (k.toNat : Int), .int .u8 (r.toNat : Int), .int .u8 (f.toNat : Int), .int .u16 (z.toNat : Int), .int .u16 (u.toNat : Int), .slice A1 os.length c1, .slice A2 xs.length c2] 26)).alloc (.cells #[.int .u16 0, .int .u16 0, .int .u32 0, .int .u32 0, .int .u8 0, .int .u8 0, .int .u16 0, .int .u16 0, .slice none 0 0, .slice none 0 0] 26) := ⟨_, rfl⟩
  have hB : Below w.heap.size w W1 := by subst hW1; exact bnextA (bnextA (bnextA (Below.refl _ _) _) _) _
  have KT : Blk W1 w.heap.size [.int .u32 (s.toNat : Int), .int .u32 (d.toNat : Int), .int .u16 (p.toNat : Int), .int .u16 (p2.toNat : Int), .int .u32 (ts.toNat : Int), .int .u32 (ta.toNat : Int)] 28 := by subst hW1; exact ((Blk.new _ _ _).alloc _).alloc _
  have KS : Blk W1 (w.heap.size + 1) [.int .u16 (a.toNat : Int), .int .u16 (b.toNat : Int), .int .u32 (q.toNat : Int), .int .u32 (k.toNat : Int), .int .u8 (r.toNat : Int), .int .u8 (f.toNat : Int), .int .u16 (z.toNat : Int), .int .u16 (u.toNat : Int), .slice A1 os.length c1, .slice A2 xs.length c2] 26 := by
    subst hW1
    have := (Blk.new (w.alloc (.cells #[.int .u32 (s.toNat : Int), .int .u32 (d.toNat : Int), .int .u16 (p.toNat : Int), .int .u16 (p2.toNat : Int), .int .u32 (ts.toNat : Int), .int .u32 (ta.toNat : Int)] 28)) #[.int .u16 (a.toNat : Int), .int .u16 (b.toNat : Int), .int .u32 (q.toNat : Int), .int .u32 (k.toNat : Int), .int .u8 (r.toNat : Int), .int .u8 (f.toNat : Int), .int .u16 (z.toNat : Int), .int .u16 (u.toNat : Int), .slice A1 os.length c1, .slice A2 xs.length c2] 26).alloc (.cells #[.int .u16 0, .int .u16 0, .int .u32 0, .int .u32 0, .int .u8 0, .int .u8 0, .int .u16 0, .int .u16 0, .slice none 0 0, .slice none 0 0] 26)
    simpa using this
  have KR : Blk W1 (w.heap.size + 1 + 1) [.int .u16 0, .int .u16 0, .int .u32 0, .int .u32 0, .int .u8 0, .int .u8 0, .int .u16 0, .int .u16 0, .slice none 0 0, .slice none 0 0] 26 := by
    subst hW1
    have := Blk.new ((w.alloc (.cells #[.int .u32 (s.toNat : Int), .int .u32 (d.toNat : Int), .int .u16 (p.toNat : Int), .int .u16 (p2.toNat : Int), .int .u32 (ts.toNat : Int), .int .u32 (ta.toNat : Int)] 28)).alloc (.cells #[.int .u16 (a.toNat : Int), .int .u16 (b.toNat : Int), .int .u32 (q.toNat : Int), .int .u32 (k.toNat : Int), .int .u8 (r.toNat : Int), .int .u8 (f.toNat : Int), .int .u16 (z.toNat : Int), .int .u16 (u.toNat : Int), .slice A1 os.length c1, .slice A2 xs.length c2] 26)) #[.int .u16 0, .int .u16 0, .int .u32 0, .int .u32 0, .int .u8 0, .int .u8 0, .int .u16 0, .int .u16 0, .slice none 0 0, .slice none 0 0] 26
    simpa using this
  have H1 := Lib.hid h1
  have H2 := Lib.hid h2
  obtain ⟨t0, t1, t2, t3, t4, t5, -⟩ := KT.get6
  obtain ⟨x0, x1, x2, x3, x4, x5, x6, x7, x8, x9, y0, y1, y2, y3, y4, y5, y6, y7, y8, y9⟩ := KS.get10
  clear h1 h2
  go_enter Try.func19, Try.ntmps19
  go_wp2_with fail
  rw [← hW1]
  clear hW1
  go_region
  go_wp2_with fail
  refine (HH _).out.mono ?_
  rintro e w2 ⟨rfl, hb⟩
  replace hb := Below.undrew hb
  have hle : w.heap.size ≤ w.heap.size + 1 := Nat.le_succ _
  have hB2 := bnext (((hB.setCell (p := ⟨w.heap.size + 1, 0, none⟩) hle (.int .u16 (p.toNat : Int))).setCell (p := ⟨w.heap.size + 1, 1, none⟩) hle (.int .u16 (p2.toNat : Int))).setCell (p := ⟨w.heap.size + 1, 2, none⟩) hle (.int .u32 (q2.toNat : Int))) hb
  have KS2 : Blk w2 (w.heap.size + 1) [.int .u16 (p.toNat : Int), .int .u16 (p2.toNat : Int), .int .u32 (q2.toNat : Int), .int .u32 (k.toNat : Int), .int .u8 (r.toNat : Int), .int .u8 (f.toNat : Int), .int .u16 (z.toNat : Int), .int .u16 (u.toNat : Int), .slice A1 os.length c1, .slice A2 xs.length c2] 26 := (((KS.set 0 (.int .u16 (p.toNat : Int))).set 1 (.int .u16 (p2.toNat : Int))).set 2 (.int .u32 (q2.toNat : Int))).next hb
  have hne : w.heap.size + 1 + 1 ≠ w.heap.size + 1 := by omega
  have hne0 : w.heap.size ≠ w.heap.size + 1 := by omega
  have KR2 := (((KR.other hne 0 (.int .u16 (p.toNat : Int))).other hne 1 (.int .u16 (p2.toNat : Int))).other hne 2 (.int .u32 (q2.toNat : Int))).next hb
  have KT2 := (((KT.other hne0 0 (.int .u16 (p.toNat : Int))).other hne0 1 (.int .u16 (p2.toNat : Int))).other hne0 2 (.int .u32 (q2.toNat : Int))).next hb
  clear hb t0 t1 t2 t3 t4 t5 x0 x1 x2 x3 x4 x5 x6 x7 x8 x9 y0 y1 y2 y3 y4 y5 y6 y7 y8 y9 KS KR KT hB hne0 HH wq
  obtain ⟨t0, t1, t2, t3, t4, t5, -⟩ := KT2.get6
  obtain ⟨x0, x1, x2, x3, x4, x5, x6, x7, x8, x9, y0, y1, y2, y3, y4, y5, y6, y7, y8, y9⟩ := KS2.get10
  go_wp2_with fail
  have KS3 := KS2
  have KR3 := KR2
  generalize w2 = V at *
  clear t0 t1 t2 t3 t4 t5 x0 x1 x2 x3 x4 x5 x6 x7 x8 x9 y0 y1 y2 y3 y4 y5 y6 y7 y8 y9 KS2 KR2 KT2
  have r1 := Lib.hid (H1.out.next hB2)
  have r2 := Lib.hid (H2.out.next hB2)
  have HS : ∀ W, Below V.heap.size V W → (W.cell? ⟨w.heap.size + 1, 8, none⟩ = some (.slice A1 os.length c1) ∧ W.cell? ⟨w.heap.size + 1, 9, none⟩ = some (.slice A2 xs.length c2)) := by
    intro W h
    obtain ⟨x0, x1, x2, x3, x4, x5, x6, x7, x8, x9, -⟩ := (KS3.next h).get10
    exact ⟨x8, x9⟩
  have HF : ∀ W, Below V.heap.size V W → Hid (W.frozen? ⟨w.heap.size + 1, 8, none⟩ = false ∧ W.frozen? ⟨w.heap.size + 1, 9, none⟩ = false) := by
    intro W h
    exact ⟨(KS3.next h).frozen 8, (KS3.next h).frozen 9⟩
  obtain ⟨s8, s9⟩ := HS _ (Below.refl _ _)
  first | (go_region_with (first
      | (go_at_call 34; go_split_ands; (with_reducible refine (sclone_any A1 c1 os _ _ r1.out.drew l1).mono ?_); rintro e w3 ⟨v1, rfl, hown, hZ⟩; replace hZ : Below V.heap.size V w3 := Below.undrew hZ; obtain ⟨L1, B1, d1, HL1, rfl, -⟩ := hown.rdv; have hO1 := Lib.hid hown; clear hown; obtain ⟨y8, y9⟩ := HS _ hZ)
      | (go_at_call 34; go_split_ands; (with_reducible refine (sclone_any A2 c2 xs _ _ (r2.out.next hZ) l2).mono ?_); rintro e w4 ⟨v2, rfl, hown, hZb⟩; have hZ2 : Below V.heap.size V w4 := bnext hZ hZb; obtain ⟨L2, B2, d2, HL2, rfl, -⟩ := hown.rdv; have hO2 := Lib.hid hown; clear hown; obtain ⟨f8, f9⟩ := (HF _ hZ2).out)
      | fail)) | fail
  all_goals
    obtain ⟨x0, x1, x2, x3, x4, x5, x6, x7, x8, x9, -⟩ := (KS3.next hZ2).get10
    obtain ⟨m0, m1, m2, m3, m4, m5, m6, m7, m8, m9, n0, n1, n2, n3, n4, n5, n6, n7, n8, n9⟩ := (KR3.next hZ2).get10
    have hB5 := Lib.hid (bnext hB2 hZ2)
    have hlt1 := Lib.hid KS3.lt
    have hlt2 := Lib.hid KR3.lt
    have hsz := Lib.hid hZ.size
    have hO3 := Lib.hid (hO1.out.nextO hZb)
    clear HS HF KS3 KR3 s8 s9 y8 y9 hO1 hB2 hZ hZ2 hZb H1 H2 r1 r2
    go_wp2_with fail
    simp [bodyPost, results, Try.results19, go_sem, *]
    rw [← HL1.out] at hO3
    rw [← HL2.out] at hO2
    have g1 : w.heap.size + 1 < _ := Nat.lt_of_lt_of_le hlt1.out hsz.out
    have g2 : w.heap.size + 1 + 1 < _ := Nat.lt_of_lt_of_le hlt2.out hsz.out
    refine ⟨L1, B1, d1, L2, B2, d2, by simp, HL1, HL2, ?_, ?_, ?_⟩
    · exact by simpa [setAll10] using ((((hO3.out.setBelow (p := ⟨w.heap.size + 1, 8, none⟩) hlt1.out _).setBelow (p := ⟨w.heap.size + 1, 9, none⟩) hlt1.out _).set10 (g := w.heap.size + 1 + 1) hlt2.out _ _ _ _ _ _ _ _ _ _)).rdS
    · exact by simpa [setAll10] using ((((hO2.out.setBelow (p := ⟨w.heap.size + 1, 8, none⟩) g1 _).setBelow (p := ⟨w.heap.size + 1, 9, none⟩) g1 _).set10 (g := w.heap.size + 1 + 1) g2 _ _ _ _ _ _ _ _ _ _)).rdS
    · exact bset10 ((hB5.out.setCell (p := ⟨w.heap.size + 1, 8, none⟩) hle _).setCell (p := ⟨w.heap.size + 1, 9, none⟩) hle _) (Nat.le_trans hle (Nat.le_succ _)) _ _ _ _ _ _ _ _ _ _
end Go.Proofs.Ytlceflfmdfoeiaa
