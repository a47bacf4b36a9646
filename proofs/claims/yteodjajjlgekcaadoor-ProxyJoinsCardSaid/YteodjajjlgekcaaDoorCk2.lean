/- Contracts of Make on both sides. -/
import Derived.Test.YteodjajjlgekcaaDoorCk1
import Derived.Test.YteodjajjlgekcaaDoorFlow5
namespace Go.Proofs.YteodjajjlgekcaaDoor
open Go.RowKit

/-- The bytes ahead of the last two. -/
def ckB (s d : UInt32) (p q : UInt16) (r : UInt8) (isn : UInt32) : List UInt8 := fb s d p q r ++ be32 isn
theorem ckB_len (s d : UInt32) (p q : UInt16) (r : UInt8) (isn : UInt32) : (ckB s d p q r isn).length = 17 := by simp [ckB, fb, puts32, puts16, be32, be16]
theorem fb_len (s d : UInt32) (p q : UInt16) (r : UInt8) : (fb s d p q r).length = 13 := by simp [fb, puts32, puts16, be32, be16]
set_option maxHeartbeats 1000000 in
theorem cmake_any (lo hi : Nat) (h1 : lo < 18446744073709551616) (h2 : hi < 18446744073709551616) (s d : UInt32) (p q : UInt16) (r : UInt8) (isn : UInt32) (e i : Int) (E I : Nat) (hE : Hid (ckR e 32 = E)) (hI : Hid (ckR i 8 = I)) (N : Nat) (hN : Hid (ckN lo hi (ckB s d p q r isn) E I = N)) (w : World) :
    Calls Tryd.prog 9 #[.agg #[.int .u64 (lo : Int), .int .u64 (hi : Int)], .agg #[.int .u32 (s.toNat : Int), .int .u32 (d.toNat : Int), .int .u16 (p.toNat : Int), .int .u16 (q.toNat : Int), .int .u8 (r.toNat : Int)], .int .u32 (isn.toNat : Int), .int .i64 e, .int .i64 i] w fun e' w' => e' = .returned (.int .u32 (N : Int)) ∧ Below w.heap.size w w' := by
  have hE32 : E < 32 := by rw [← hE.out]; exact Nat.mod_lt _ (by decide)
  have hI8 : I < 8 := by rw [← hI.out]; exact Nat.mod_lt _ (by decide)
  have zE : IntKind.u8.wrap (E : Int) = ((UInt8.ofNat E).toNat : Int) := by rw [IntKind.wrap_u8]; simp
  have zI : IntKind.u8.wrap (I : Int) = ((UInt8.ofNat I).toNat : Int) := by rw [IntKind.wrap_u8]; simp
  have yE : IntKind.u32.wrap (E : Int) = (E : Int) := by rw [IntKind.wrap_u32]; omega
  have yI : IntKind.u32.wrap (I : Int) = (I : Int) := by rw [IntKind.wrap_u32]; omega
  have HE32 := Lib.hid hE32
  have HI8 := Lib.hid hI8
  clear hE32 hI8
  obtain ⟨V, hV⟩ : ∃ V, V = (w.alloc (.cells #[.int .u64 (lo : Int), .int .u64 (hi : Int)] 24)).alloc (.cells #[.int .u32 (s.toNat : Int), .int .u32 (d.toNat : Int), .int .u16 (p.toNat : Int), .int .u16 (q.toNat : Int), .int .u8 (r.toNat : Int)] 28) := ⟨_, rfl⟩
  have hB : Below w.heap.size w V := by subst hV; exact bnextA (bnextA (Below.refl _ _) _) _
  have K : Blk V w.heap.size [.int .u64 (lo : Int), .int .u64 (hi : Int)] 24 := by subst hV; exact (Blk.new _ _ _).alloc _
  have F : Blk V (w.heap.size + 1) [.int .u32 (s.toNat : Int), .int .u32 (d.toNat : Int), .int .u16 (p.toNat : Int), .int .u16 (q.toNat : Int), .int .u8 (r.toNat : Int)] 28 := by subst hV; simpa using Blk.new (w.alloc (.cells #[.int .u64 (lo : Int), .int .u64 (hi : Int)] 24)) #[.int .u32 (s.toNat : Int), .int .u32 (d.toNat : Int), .int .u16 (p.toNat : Int), .int .u16 (q.toNat : Int), .int .u8 (r.toNat : Int)] 28
  obtain ⟨f0, f1, f2, f3, f4, -⟩ := F.get5
  have R1 := fun W => cround_any e 32 (by decide) (by decide) 32 rfl W
  have R2 := fun W => cround_any i 8 (by decide) (by decide) 8 rfl W
  simp only [hE.out] at R1
  simp only [hI.out] at R2
  go_enter Tryd.func9, Tryd.ntmps9
  go_wp2_with fail
  rw [← hV]
  clear hV
  refine (R1 _).mono ?_
  rintro e1 w1 ⟨rfl, rfl⟩
  go_wp2_with fail
  refine (R2 _).mono ?_
  rintro e1 w1 ⟨rfl, rfl⟩
  clear R1 R2
  go_wp2_with fail
  refine (fbytes_any s d p q r _).mono ?_
  rintro e1 w1 ⟨L1, A1, c1, rfl, HL1, r1, hb⟩
  replace hB := bnext hB hb
  replace K := K.next hb
  clear f0 f1 f2 f3 f4 F hb
  go_wp2_with fail
  refine (put32_any A1 c1 L1 _ 1 [isn] _ (r1.nextA _) (lit32_at w1 _ [isn] rfl #[.int .u32 (isn.toNat : Int)] rfl _ (by simp)) (by rw [HL1.out]; simp [puts32, puts16, be32, be16]) (by simp)).mono ?_
  rintro e2 w2 ⟨v2, rfl, hown, hb, -⟩
  obtain ⟨L2, A2, c2, HL2, rfl, r2⟩ := hown.rdv
  have HL2' : Hid (L2 = ckB s d p q r isn) := by rw [Hid, HL2.out, HL1.out]; simp [ckB, fb, puts32]
  replace hB := bnext (bnextA hB _) hb
  replace K := (K.alloc _).next hb
  clear r1 HL1 HL2 hb hown
  go_wp2_with fail
  refine (join_any _ _ _ 2 [L2, [UInt8.ofNat E, UInt8.ofNat I]] (parts_at _ (by simp) (.cons (r2.nextA _) (.cons (lit_at w2 _ [UInt8.ofNat E, UInt8.ofNat I] rfl #[.int .u8 ((UInt8.ofNat E).toNat : Int), .int .u8 ((UInt8.ofNat I).toNat : Int)] rfl _ (by simp)) .nil)) _ rfl _) rfl (by decide) (by decide) (by rw [HL2'.out]; simp [ckB_len])).mono ?_
  rintro e3 w3 ⟨L3, A3, c3, rfl, HL3, r3, hb⟩
  have HL3' : Hid (L3 = ckB s d p q r isn ++ [UInt8.ofNat E, UInt8.ofNat I]) := by rw [Hid, HL3.out, HL2'.out]; simp
  replace hB := bnext (bnextA (bnextA hB _) _) hb
  replace K := ((K.alloc _).alloc _).next hb
  clear r2 HL2' HL3 hb zE zI
  obtain ⟨k0, k1, -⟩ := K.get2
  go_wp2_with fail
  refine (sum_sip lo hi h1 h2 A3 c3 L3 w3 r3 (by rw [HL3'.out]; simp [ckB_len])).mono ?_
  rintro e4 w4 ⟨rfl, hb⟩
  replace hB := bnext hB hb
  obtain ⟨S, hS⟩ : ∃ S, sipN lo hi L3 = S := ⟨_, rfl⟩
  have hS2 : S < 18446744073709551616 := by rw [← hS]; exact sipN_lt _ _ _ h1 h2
  rw [hS]
  have hm := ck_mask S hS2
  have hSm : S % 16777216 < 16777216 := Nat.mod_lt _ (by decide)
  have hw : IntKind.u32.wrap ((S % 16777216 : Nat) : Int) = ((S % 16777216 : Nat) : Int) := by rw [IntKind.wrap_u32]; omega
  have ho := ck_or E I (S % 16777216) HE32.out HI8.out hSm
  have hfin : E * 134217728 + I * 16777216 + S % 16777216 = N := by rw [← hN.out, ckN, ← HL3'.out, hS]
  clear hS hSm hS2 hb r3 HL3' k0 k1 K
  go_wp2_with fail
  go_ret
  exact ⟨ret_int (by rw [← hfin, ← ho]; simp [IntKind.wrap_u32]), hB⟩
set_option maxHeartbeats 1000000 in
theorem rmake_pp (lo hi : Nat) (h1 : lo < 18446744073709551616) (h2 : hi < 18446744073709551616) (s d : UInt32) (p q : UInt16) (r : UInt8) (isn : UInt32) (e : Nat) (i : Nat) (N : Nat) (hN : Hid (ckN lo hi (ckB s d p q r isn) (e % 32) (i % 8) = N)) (w : World) :
    Calls Tryd.prog 10 #[.agg #[.int .u64 (lo : Int), .int .u64 (hi : Int)], .agg #[.int .u32 (s.toNat : Int), .int .u32 (d.toNat : Int), .int .u16 (p.toNat : Int), .int .u16 (q.toNat : Int), .int .u8 (r.toNat : Int)], .int .u32 (isn.toNat : Int), .int .i64 (e : Int), .int .i64 (i : Int)] w fun e' w' => e' = .returned (.int .u32 (N : Int)) ∧ Below w.heap.size w w' := by
  obtain ⟨E, hE⟩ : ∃ E, e % 32 = E := ⟨_, rfl⟩
  have hE32 : E < 32 := by rw [← hE]; exact Nat.mod_lt _ (by decide)
  have a1 : decide ((e : Int) < 0) = false := by simp
  have xE : (e : Int) % 32 = (E : Int) := by rw [← hE]; simp
  have tE : (e : Int).tmod 32 = (E : Int) := by rw [Int.tmod_eq_emod_of_nonneg (by omega), xE]
  have zE : IntKind.u8.wrap (E : Int) = ((UInt8.ofNat E).toNat : Int) := by rw [IntKind.wrap_u8]; simp
  have yE : IntKind.u32.wrap (E : Int) = (E : Int) := by rw [IntKind.wrap_u32]; omega
  have mE : IntKind.u32.wrap ((E : Int) * 134217728) = (E : Int) * 134217728 := by rw [IntKind.wrap_u32]; omega
  have HE32 := Lib.hid hE32
  have HE := Lib.hid hE
  clear hE hE32
  obtain ⟨I, hI⟩ : ∃ I, i % 8 = I := ⟨_, rfl⟩
  have hI8 : I < 8 := by rw [← hI]; exact Nat.mod_lt _ (by decide)
  have a2 : decide ((i : Int) < 0) = false := by simp
  have xI : (i : Int) % 8 = (I : Int) := by rw [← hI]; simp
  have tI : (i : Int).tmod 8 = (I : Int) := by rw [Int.tmod_eq_emod_of_nonneg (by omega), xI]
  have zI : IntKind.u8.wrap (I : Int) = ((UInt8.ofNat I).toNat : Int) := by rw [IntKind.wrap_u8]; simp
  have yI : IntKind.u32.wrap (I : Int) = (I : Int) := by rw [IntKind.wrap_u32]; omega
  have mI : IntKind.u32.wrap ((I : Int) * 16777216) = (I : Int) * 16777216 := by rw [IntKind.wrap_u32]; omega
  have HI8 := Lib.hid hI8
  have HI := Lib.hid hI
  clear hI hI8
  obtain ⟨V, hV⟩ : ∃ V, V = (w.alloc (.cells #[.int .u64 (lo : Int), .int .u64 (hi : Int)] 24)).alloc (.cells #[.int .u32 (s.toNat : Int), .int .u32 (d.toNat : Int), .int .u16 (p.toNat : Int), .int .u16 (q.toNat : Int), .int .u8 (r.toNat : Int)] 28) := ⟨_, rfl⟩
  have hB : Below w.heap.size w V := by subst hV; exact bnextA (bnextA (Below.refl _ _) _) _
  have K : Blk V w.heap.size [.int .u64 (lo : Int), .int .u64 (hi : Int)] 24 := by subst hV; exact (Blk.new _ _ _).alloc _
  have F : Blk V (w.heap.size + 1) [.int .u32 (s.toNat : Int), .int .u32 (d.toNat : Int), .int .u16 (p.toNat : Int), .int .u16 (q.toNat : Int), .int .u8 (r.toNat : Int)] 28 := by subst hV; simpa using Blk.new (w.alloc (.cells #[.int .u64 (lo : Int), .int .u64 (hi : Int)] 24)) #[.int .u32 (s.toNat : Int), .int .u32 (d.toNat : Int), .int .u16 (p.toNat : Int), .int .u16 (q.toNat : Int), .int .u8 (r.toNat : Int)] 28
  obtain ⟨f0, f1, f2, f3, f4, -⟩ := F.get5
  go_enter Tryd.func10, Tryd.ntmps10
  go_wp2_with fail
  rw [← hV]
  clear hV
  refine (rfbytes_any s d p q r _).mono ?_
  rintro e1 w1 ⟨L1, A1, c1, rfl, HL1, r1, hb⟩
  replace hB := bnext hB hb
  replace K := K.next hb
  clear f0 f1 f2 f3 f4 F hb
  go_wp2_with fail
  refine (rput_any isn.toNat 4 _ isn.toNat_lt (by decide)).mono ?_
  rintro e2 w2 ⟨v2, rfl, hown, hb⟩
  obtain ⟨L2, A2, c2, HL2, rfl, r2⟩ := hown.rdv
  replace hB := bnext hB hb
  replace K := K.next hb
  replace r1 := r1.next hb
  clear hb hown
  go_wp2_with fail
  refine (radd_any A2 _ c2 2 L2 [UInt8.ofNat E, UInt8.ofNat I] _ (r2.nextA _) (lit_at w2 _ [UInt8.ofNat E, UInt8.ofNat I] rfl #[.int .u8 ((UInt8.ofNat E).toNat : Int), .int .u8 ((UInt8.ofNat I).toNat : Int)] rfl _ (by simp)) (by rw [HL2.out]; simp [putN_len])).mono ?_
  rintro e3 w3 ⟨v3, rfl, hown, hb⟩
  obtain ⟨L3, A3, c3, HL3, rfl, r3⟩ := hown.rdv
  replace hB := bnext (bnextA hB _) hb
  replace K := (K.alloc _).next hb
  replace r1 := (r1.nextA _).next hb
  clear hb hown r2
  go_wp2_with fail
  refine (radd_any A1 A3 c1 c3 L1 L3 _ r1 r3 (by rw [HL1.out, HL3.out, HL2.out]; simp [fb_len, putN_len])).mono ?_
  rintro e4 w4 ⟨v4, rfl, hown, hb⟩
  obtain ⟨L4, A4, c4, HL4, rfl, r4⟩ := hown.rdv
  have HL4' : Hid (L4 = ckB s d p q r isn ++ [UInt8.ofNat E, UInt8.ofNat I]) := by rw [Hid, HL4.out, HL3.out, HL2.out, HL1.out, ckB, be32_put]; simp
  replace hB := bnext hB hb
  replace K := K.next hb
  clear hb hown r3 r1 HL4 HL3 HL2 HL1
  obtain ⟨k0, k1, -⟩ := K.get2
  go_wp2_with fail
  refine (rsum_sip lo hi h1 h2 A4 c4 L4 w4 r4 (by rw [HL4'.out]; simp [ckB_len])).mono ?_
  rintro e5 w5 ⟨rfl, hb⟩
  replace hB := bnext hB hb
  obtain ⟨S, hS⟩ : ∃ S, sipN lo hi L4 = S := ⟨_, rfl⟩
  have hS2 : S < 18446744073709551616 := by rw [← hS]; exact sipN_lt _ _ _ h1 h2
  rw [hS]
  have hfin : (E : Int) * 134217728 + (I : Int) * 16777216 + ((S % 16777216 : Nat) : Int) = (N : Int) := by
    rw [← hN.out, ckN, ← hS, HL4'.out, HE.out, HI.out]
    simp
  have hSm : S % 16777216 < 16777216 := Nat.mod_lt _ (by decide)
  have u1 : (S : Int) % 16777216 = ((S % 16777216 : Nat) : Int) := by simp
  clear hS hS2 hb r4 HL4' k0 k1 K
  generalize S % 16777216 = T at *
  have hw : IntKind.u32.wrap (T : Int) = (T : Int) := by rw [IntKind.wrap_u32]; omega
  go_wp2_with fail
  go_ret
  have hE2 := HE32.out
  have hI2 := HI8.out
  exact ⟨ret_int (by first | omega | exact hfin), hB⟩
set_option maxHeartbeats 1000000 in
theorem rmake_pn (lo hi : Nat) (h1 : lo < 18446744073709551616) (h2 : hi < 18446744073709551616) (s d : UInt32) (p q : UInt16) (r : UInt8) (isn : UInt32) (e : Nat) (i : Int) (hi0 : i < 0) (N : Nat) (hN : Hid (ckN lo hi (ckB s d p q r isn) (e % 32) 0 = N)) (w : World) :
    Calls Tryd.prog 10 #[.agg #[.int .u64 (lo : Int), .int .u64 (hi : Int)], .agg #[.int .u32 (s.toNat : Int), .int .u32 (d.toNat : Int), .int .u16 (p.toNat : Int), .int .u16 (q.toNat : Int), .int .u8 (r.toNat : Int)], .int .u32 (isn.toNat : Int), .int .i64 (e : Int), .int .i64 i] w fun e' w' => e' = .returned (.int .u32 (N : Int)) ∧ Below w.heap.size w w' := by
  obtain ⟨E, hE⟩ : ∃ E, e % 32 = E := ⟨_, rfl⟩
  have hE32 : E < 32 := by rw [← hE]; exact Nat.mod_lt _ (by decide)
  have a1 : decide ((e : Int) < 0) = false := by simp
  have xE : (e : Int) % 32 = (E : Int) := by rw [← hE]; simp
  have tE : (e : Int).tmod 32 = (E : Int) := by rw [Int.tmod_eq_emod_of_nonneg (by omega), xE]
  have zE : IntKind.u8.wrap (E : Int) = ((UInt8.ofNat E).toNat : Int) := by rw [IntKind.wrap_u8]; simp
  have yE : IntKind.u32.wrap (E : Int) = (E : Int) := by rw [IntKind.wrap_u32]; omega
  have mE : IntKind.u32.wrap ((E : Int) * 134217728) = (E : Int) * 134217728 := by rw [IntKind.wrap_u32]; omega
  have HE32 := Lib.hid hE32
  have HE := Lib.hid hE
  clear hE hE32
  have a2 : decide (i < 0) = true := by simp [hi0]
  clear hi0
  obtain ⟨V, hV⟩ : ∃ V, V = (w.alloc (.cells #[.int .u64 (lo : Int), .int .u64 (hi : Int)] 24)).alloc (.cells #[.int .u32 (s.toNat : Int), .int .u32 (d.toNat : Int), .int .u16 (p.toNat : Int), .int .u16 (q.toNat : Int), .int .u8 (r.toNat : Int)] 28) := ⟨_, rfl⟩
  have hB : Below w.heap.size w V := by subst hV; exact bnextA (bnextA (Below.refl _ _) _) _
  have K : Blk V w.heap.size [.int .u64 (lo : Int), .int .u64 (hi : Int)] 24 := by subst hV; exact (Blk.new _ _ _).alloc _
  have F : Blk V (w.heap.size + 1) [.int .u32 (s.toNat : Int), .int .u32 (d.toNat : Int), .int .u16 (p.toNat : Int), .int .u16 (q.toNat : Int), .int .u8 (r.toNat : Int)] 28 := by subst hV; simpa using Blk.new (w.alloc (.cells #[.int .u64 (lo : Int), .int .u64 (hi : Int)] 24)) #[.int .u32 (s.toNat : Int), .int .u32 (d.toNat : Int), .int .u16 (p.toNat : Int), .int .u16 (q.toNat : Int), .int .u8 (r.toNat : Int)] 28
  obtain ⟨f0, f1, f2, f3, f4, -⟩ := F.get5
  go_enter Tryd.func10, Tryd.ntmps10
  go_wp2_with fail
  rw [← hV]
  clear hV
  refine (rfbytes_any s d p q r _).mono ?_
  rintro e1 w1 ⟨L1, A1, c1, rfl, HL1, r1, hb⟩
  replace hB := bnext hB hb
  replace K := K.next hb
  clear f0 f1 f2 f3 f4 F hb
  go_wp2_with fail
  refine (rput_any isn.toNat 4 _ isn.toNat_lt (by decide)).mono ?_
  rintro e2 w2 ⟨v2, rfl, hown, hb⟩
  obtain ⟨L2, A2, c2, HL2, rfl, r2⟩ := hown.rdv
  replace hB := bnext hB hb
  replace K := K.next hb
  replace r1 := r1.next hb
  clear hb hown
  go_wp2_with fail
  refine (radd_any A2 _ c2 2 L2 [UInt8.ofNat E, 0] _ (r2.nextA _) (lit_at w2 _ [UInt8.ofNat E, 0] rfl #[.int .u8 ((UInt8.ofNat E).toNat : Int), .int .u8 0] rfl _ (by simp)) (by rw [HL2.out]; simp [putN_len])).mono ?_
  rintro e3 w3 ⟨v3, rfl, hown, hb⟩
  obtain ⟨L3, A3, c3, HL3, rfl, r3⟩ := hown.rdv
  replace hB := bnext (bnextA hB _) hb
  replace K := (K.alloc _).next hb
  replace r1 := (r1.nextA _).next hb
  clear hb hown r2
  go_wp2_with fail
  refine (radd_any A1 A3 c1 c3 L1 L3 _ r1 r3 (by rw [HL1.out, HL3.out, HL2.out]; simp [fb_len, putN_len])).mono ?_
  rintro e4 w4 ⟨v4, rfl, hown, hb⟩
  obtain ⟨L4, A4, c4, HL4, rfl, r4⟩ := hown.rdv
  have HL4' : Hid (L4 = ckB s d p q r isn ++ [UInt8.ofNat E, 0]) := by rw [Hid, HL4.out, HL3.out, HL2.out, HL1.out, ckB, be32_put]; simp
  replace hB := bnext hB hb
  replace K := K.next hb
  clear hb hown r3 r1 HL4 HL3 HL2 HL1
  obtain ⟨k0, k1, -⟩ := K.get2
  go_wp2_with fail
  refine (rsum_sip lo hi h1 h2 A4 c4 L4 w4 r4 (by rw [HL4'.out]; simp [ckB_len])).mono ?_
  rintro e5 w5 ⟨rfl, hb⟩
  replace hB := bnext hB hb
  obtain ⟨S, hS⟩ : ∃ S, sipN lo hi L4 = S := ⟨_, rfl⟩
  have hS2 : S < 18446744073709551616 := by rw [← hS]; exact sipN_lt _ _ _ h1 h2
  rw [hS]
  have hfin : (E : Int) * 134217728 + 0 + ((S % 16777216 : Nat) : Int) = (N : Int) := by
    rw [← hN.out, ckN, ← hS, HL4'.out, HE.out]
    simp
  have hSm : S % 16777216 < 16777216 := Nat.mod_lt _ (by decide)
  have u1 : (S : Int) % 16777216 = ((S % 16777216 : Nat) : Int) := by simp
  clear hS hS2 hb r4 HL4' k0 k1 K
  generalize S % 16777216 = T at *
  have hw : IntKind.u32.wrap (T : Int) = (T : Int) := by rw [IntKind.wrap_u32]; omega
  go_wp2_with fail
  go_ret
  have hE2 := HE32.out
  exact ⟨ret_int (by first | omega | exact hfin), hB⟩
set_option maxHeartbeats 1000000 in
theorem rmake_np (lo hi : Nat) (h1 : lo < 18446744073709551616) (h2 : hi < 18446744073709551616) (s d : UInt32) (p q : UInt16) (r : UInt8) (isn : UInt32) (e : Int) (he : e < 0) (i : Nat) (N : Nat) (hN : Hid (ckN lo hi (ckB s d p q r isn) 0 (i % 8) = N)) (w : World) :
    Calls Tryd.prog 10 #[.agg #[.int .u64 (lo : Int), .int .u64 (hi : Int)], .agg #[.int .u32 (s.toNat : Int), .int .u32 (d.toNat : Int), .int .u16 (p.toNat : Int), .int .u16 (q.toNat : Int), .int .u8 (r.toNat : Int)], .int .u32 (isn.toNat : Int), .int .i64 e, .int .i64 (i : Int)] w fun e' w' => e' = .returned (.int .u32 (N : Int)) ∧ Below w.heap.size w w' := by
  have a1 : decide (e < 0) = true := by simp [he]
  clear he
  obtain ⟨I, hI⟩ : ∃ I, i % 8 = I := ⟨_, rfl⟩
  have hI8 : I < 8 := by rw [← hI]; exact Nat.mod_lt _ (by decide)
  have a2 : decide ((i : Int) < 0) = false := by simp
  have xI : (i : Int) % 8 = (I : Int) := by rw [← hI]; simp
  have tI : (i : Int).tmod 8 = (I : Int) := by rw [Int.tmod_eq_emod_of_nonneg (by omega), xI]
  have zI : IntKind.u8.wrap (I : Int) = ((UInt8.ofNat I).toNat : Int) := by rw [IntKind.wrap_u8]; simp
  have yI : IntKind.u32.wrap (I : Int) = (I : Int) := by rw [IntKind.wrap_u32]; omega
  have mI : IntKind.u32.wrap ((I : Int) * 16777216) = (I : Int) * 16777216 := by rw [IntKind.wrap_u32]; omega
  have HI8 := Lib.hid hI8
  have HI := Lib.hid hI
  clear hI hI8
  obtain ⟨V, hV⟩ : ∃ V, V = (w.alloc (.cells #[.int .u64 (lo : Int), .int .u64 (hi : Int)] 24)).alloc (.cells #[.int .u32 (s.toNat : Int), .int .u32 (d.toNat : Int), .int .u16 (p.toNat : Int), .int .u16 (q.toNat : Int), .int .u8 (r.toNat : Int)] 28) := ⟨_, rfl⟩
  have hB : Below w.heap.size w V := by subst hV; exact bnextA (bnextA (Below.refl _ _) _) _
  have K : Blk V w.heap.size [.int .u64 (lo : Int), .int .u64 (hi : Int)] 24 := by subst hV; exact (Blk.new _ _ _).alloc _
  have F : Blk V (w.heap.size + 1) [.int .u32 (s.toNat : Int), .int .u32 (d.toNat : Int), .int .u16 (p.toNat : Int), .int .u16 (q.toNat : Int), .int .u8 (r.toNat : Int)] 28 := by subst hV; simpa using Blk.new (w.alloc (.cells #[.int .u64 (lo : Int), .int .u64 (hi : Int)] 24)) #[.int .u32 (s.toNat : Int), .int .u32 (d.toNat : Int), .int .u16 (p.toNat : Int), .int .u16 (q.toNat : Int), .int .u8 (r.toNat : Int)] 28
  obtain ⟨f0, f1, f2, f3, f4, -⟩ := F.get5
  go_enter Tryd.func10, Tryd.ntmps10
  go_wp2_with fail
  rw [← hV]
  clear hV
  refine (rfbytes_any s d p q r _).mono ?_
  rintro e1 w1 ⟨L1, A1, c1, rfl, HL1, r1, hb⟩
  replace hB := bnext hB hb
  replace K := K.next hb
  clear f0 f1 f2 f3 f4 F hb
  go_wp2_with fail
  refine (rput_any isn.toNat 4 _ isn.toNat_lt (by decide)).mono ?_
  rintro e2 w2 ⟨v2, rfl, hown, hb⟩
  obtain ⟨L2, A2, c2, HL2, rfl, r2⟩ := hown.rdv
  replace hB := bnext hB hb
  replace K := K.next hb
  replace r1 := r1.next hb
  clear hb hown
  go_wp2_with fail
  refine (radd_any A2 _ c2 2 L2 [0, UInt8.ofNat I] _ (r2.nextA _) (lit_at w2 _ [0, UInt8.ofNat I] rfl #[.int .u8 0, .int .u8 ((UInt8.ofNat I).toNat : Int)] rfl _ (by simp)) (by rw [HL2.out]; simp [putN_len])).mono ?_
  rintro e3 w3 ⟨v3, rfl, hown, hb⟩
  obtain ⟨L3, A3, c3, HL3, rfl, r3⟩ := hown.rdv
  replace hB := bnext (bnextA hB _) hb
  replace K := (K.alloc _).next hb
  replace r1 := (r1.nextA _).next hb
  clear hb hown r2
  go_wp2_with fail
  refine (radd_any A1 A3 c1 c3 L1 L3 _ r1 r3 (by rw [HL1.out, HL3.out, HL2.out]; simp [fb_len, putN_len])).mono ?_
  rintro e4 w4 ⟨v4, rfl, hown, hb⟩
  obtain ⟨L4, A4, c4, HL4, rfl, r4⟩ := hown.rdv
  have HL4' : Hid (L4 = ckB s d p q r isn ++ [0, UInt8.ofNat I]) := by rw [Hid, HL4.out, HL3.out, HL2.out, HL1.out, ckB, be32_put]; simp
  replace hB := bnext hB hb
  replace K := K.next hb
  clear hb hown r3 r1 HL4 HL3 HL2 HL1
  obtain ⟨k0, k1, -⟩ := K.get2
  go_wp2_with fail
  refine (rsum_sip lo hi h1 h2 A4 c4 L4 w4 r4 (by rw [HL4'.out]; simp [ckB_len])).mono ?_
  rintro e5 w5 ⟨rfl, hb⟩
  replace hB := bnext hB hb
  obtain ⟨S, hS⟩ : ∃ S, sipN lo hi L4 = S := ⟨_, rfl⟩
  have hS2 : S < 18446744073709551616 := by rw [← hS]; exact sipN_lt _ _ _ h1 h2
  rw [hS]
  have hfin : 0 + (I : Int) * 16777216 + ((S % 16777216 : Nat) : Int) = (N : Int) := by
    rw [← hN.out, ckN, ← hS, HL4'.out, HI.out]
    simp
  have hSm : S % 16777216 < 16777216 := Nat.mod_lt _ (by decide)
  have u1 : (S : Int) % 16777216 = ((S % 16777216 : Nat) : Int) := by simp
  clear hS hS2 hb r4 HL4' k0 k1 K
  generalize S % 16777216 = T at *
  have hw : IntKind.u32.wrap (T : Int) = (T : Int) := by rw [IntKind.wrap_u32]; omega
  go_wp2_with fail
  go_ret
  have hI2 := HI8.out
  exact ⟨ret_int (by first | omega | exact hfin), hB⟩
set_option maxHeartbeats 1000000 in
theorem rmake_nn (lo hi : Nat) (h1 : lo < 18446744073709551616) (h2 : hi < 18446744073709551616) (s d : UInt32) (p q : UInt16) (r : UInt8) (isn : UInt32) (e : Int) (he : e < 0) (i : Int) (hi0 : i < 0) (N : Nat) (hN : Hid (ckN lo hi (ckB s d p q r isn) 0 0 = N)) (w : World) :
    Calls Tryd.prog 10 #[.agg #[.int .u64 (lo : Int), .int .u64 (hi : Int)], .agg #[.int .u32 (s.toNat : Int), .int .u32 (d.toNat : Int), .int .u16 (p.toNat : Int), .int .u16 (q.toNat : Int), .int .u8 (r.toNat : Int)], .int .u32 (isn.toNat : Int), .int .i64 e, .int .i64 i] w fun e' w' => e' = .returned (.int .u32 (N : Int)) ∧ Below w.heap.size w w' := by
  have a1 : decide (e < 0) = true := by simp [he]
  clear he
  have a2 : decide (i < 0) = true := by simp [hi0]
  clear hi0
  obtain ⟨V, hV⟩ : ∃ V, V = (w.alloc (.cells #[.int .u64 (lo : Int), .int .u64 (hi : Int)] 24)).alloc (.cells #[.int .u32 (s.toNat : Int), .int .u32 (d.toNat : Int), .int .u16 (p.toNat : Int), .int .u16 (q.toNat : Int), .int .u8 (r.toNat : Int)] 28) := ⟨_, rfl⟩
  have hB : Below w.heap.size w V := by subst hV; exact bnextA (bnextA (Below.refl _ _) _) _
  have K : Blk V w.heap.size [.int .u64 (lo : Int), .int .u64 (hi : Int)] 24 := by subst hV; exact (Blk.new _ _ _).alloc _
  have F : Blk V (w.heap.size + 1) [.int .u32 (s.toNat : Int), .int .u32 (d.toNat : Int), .int .u16 (p.toNat : Int), .int .u16 (q.toNat : Int), .int .u8 (r.toNat : Int)] 28 := by subst hV; simpa using Blk.new (w.alloc (.cells #[.int .u64 (lo : Int), .int .u64 (hi : Int)] 24)) #[.int .u32 (s.toNat : Int), .int .u32 (d.toNat : Int), .int .u16 (p.toNat : Int), .int .u16 (q.toNat : Int), .int .u8 (r.toNat : Int)] 28
  obtain ⟨f0, f1, f2, f3, f4, -⟩ := F.get5
  go_enter Tryd.func10, Tryd.ntmps10
  go_wp2_with fail
  rw [← hV]
  clear hV
  refine (rfbytes_any s d p q r _).mono ?_
  rintro e1 w1 ⟨L1, A1, c1, rfl, HL1, r1, hb⟩
  replace hB := bnext hB hb
  replace K := K.next hb
  clear f0 f1 f2 f3 f4 F hb
  go_wp2_with fail
  refine (rput_any isn.toNat 4 _ isn.toNat_lt (by decide)).mono ?_
  rintro e2 w2 ⟨v2, rfl, hown, hb⟩
  obtain ⟨L2, A2, c2, HL2, rfl, r2⟩ := hown.rdv
  replace hB := bnext hB hb
  replace K := K.next hb
  replace r1 := r1.next hb
  clear hb hown
  go_wp2_with fail
  refine (radd_any A2 _ c2 2 L2 [0, 0] _ (r2.nextA _) (lit_at w2 _ [0, 0] rfl #[.int .u8 0, .int .u8 0] rfl _ (by simp)) (by rw [HL2.out]; simp [putN_len])).mono ?_
  rintro e3 w3 ⟨v3, rfl, hown, hb⟩
  obtain ⟨L3, A3, c3, HL3, rfl, r3⟩ := hown.rdv
  replace hB := bnext (bnextA hB _) hb
  replace K := (K.alloc _).next hb
  replace r1 := (r1.nextA _).next hb
  clear hb hown r2
  go_wp2_with fail
  refine (radd_any A1 A3 c1 c3 L1 L3 _ r1 r3 (by rw [HL1.out, HL3.out, HL2.out]; simp [fb_len, putN_len])).mono ?_
  rintro e4 w4 ⟨v4, rfl, hown, hb⟩
  obtain ⟨L4, A4, c4, HL4, rfl, r4⟩ := hown.rdv
  have HL4' : Hid (L4 = ckB s d p q r isn ++ [0, 0]) := by rw [Hid, HL4.out, HL3.out, HL2.out, HL1.out, ckB, be32_put]; simp
  replace hB := bnext hB hb
  replace K := K.next hb
  clear hb hown r3 r1 HL4 HL3 HL2 HL1
  obtain ⟨k0, k1, -⟩ := K.get2
  go_wp2_with fail
  refine (rsum_sip lo hi h1 h2 A4 c4 L4 w4 r4 (by rw [HL4'.out]; simp [ckB_len])).mono ?_
  rintro e5 w5 ⟨rfl, hb⟩
  replace hB := bnext hB hb
  obtain ⟨S, hS⟩ : ∃ S, sipN lo hi L4 = S := ⟨_, rfl⟩
  have hS2 : S < 18446744073709551616 := by rw [← hS]; exact sipN_lt _ _ _ h1 h2
  rw [hS]
  have hfin : 0 + 0 + ((S % 16777216 : Nat) : Int) = (N : Int) := by
    rw [← hN.out, ckN, ← hS, HL4'.out]
    simp
  have hSm : S % 16777216 < 16777216 := Nat.mod_lt _ (by decide)
  have u1 : (S : Int) % 16777216 = ((S % 16777216 : Nat) : Int) := by simp
  clear hS hS2 hb r4 HL4' k0 k1 K
  generalize S % 16777216 = T at *
  have hw : IntKind.u32.wrap (T : Int) = (T : Int) := by rw [IntKind.wrap_u32]; omega
  go_wp2_with fail
  go_ret
  exact ⟨ret_int (by first | omega | exact hfin), hB⟩
end Go.Proofs.YteodjajjlgekcaaDoor
