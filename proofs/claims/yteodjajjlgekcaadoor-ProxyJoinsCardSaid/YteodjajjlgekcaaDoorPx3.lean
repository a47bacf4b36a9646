/- The reference's Plain, mss, Offer and Accept of layer 38. -/
import Derived.Test.YteodjajjlgekcaaDoorPx
namespace Go.Proofs.YteodjajjlgekcaaDoor
open Go.RowKit
set_option linter.unusedVariables false

theorem hasB_all : ∀ n, n < 256 → (((n &&& 16) == 16) = decide (n / 16 % 2 = 1)) ∧ (((n &&& 2) == 2) = decide (n / 2 % 2 = 1)) ∧ (((n &&& 4) == 4) = decide (n / 4 % 2 = 1)) := by decide +kernel
theorem bitB_16 (f : UInt8) : bitB f 16 = hasB f 16 := (hasB_all f.toNat f.toNat_lt).1.symm
theorem bitB_2 (f : UInt8) : bitB f 2 = hasB f 2 := (hasB_all f.toNat f.toNat_lt).2.1.symm
theorem bitB_4 (f : UInt8) : bitB f 4 = hasB f 4 := (hasB_all f.toNat f.toNat_lt).2.2.symm
theorem rmss38_any (z : UInt16) (w : World) : Calls Tryd.prog 55 #[.int .u16 (z.toNat : Int)] w fun e w' => ∃ L A c, e = .returned (.slice A L.length c) ∧ Hid (L = [2, 4] ++ be16 z) ∧ Rd bv w' w'.heap.size A c L ∧ Below w.heap.size w w' := by
  have hz := z.toNat_lt
  have z2 : ((z.toNat : Int) / 256) % 256 = (z.toNat : Int) / 256 := by omega
  have z3 : ((z.toNat : Int) % 256) % 256 = (z.toNat : Int) % 256 := by omega
  have hl : #[Value.int .u8 2, .int .u8 4, .int .u8 ((z.toNat : Int) / 256), .int .u8 ((z.toNat : Int) % 256)].toList = ([2, 4] ++ be16 z).map bv := by
    have h1 : z.toNat / 256 % 256 = z.toNat / 256 := by omega
    simp [be16, bv, h1]
  have HR := Lib.hid (lit_at w w.heap.size ([2, 4] ++ be16 z) rfl _ hl 5 (by simp [be16]))
  clear hl hz
  go_enter Tryd.func55, Tryd.ntmps55
  go_wp2_with fail
  simp [bodyPost, results, Tryd.results55, go_sem, *]
  exact ⟨[2, 4] ++ be16 z, some ⟨w.heap.size, 0, none⟩, 4, ⟨rfl, rfl, rfl⟩, Lib.hid rfl, by simpa [be16] using HR.out, bnextA (Below.refl _ _) _⟩
theorem rplain38_any (a b q k f : Int) (w : World) :
    Calls Tryd.prog 33 #[.int .u16 a, .int .u16 b, .int .u32 q, .int .u32 k, .int .u8 f] w fun e w' => e = .returned (.agg #[.int .u16 a, .int .u16 b, .int .u32 q, .int .u32 k, .int .u8 0, .int .u8 f, .int .u16 65535, .int .u16 0, .slice none 0 0, .slice none 0 0]) ∧ Below w.heap.size w w' := by
  go_enter Tryd.func33, Tryd.ntmps33
  go_wp2_with fail
  simp [bodyPost, results, Tryd.results33, go_sem]
  exact bnextA (Below.refl _ _) _
set_option maxHeartbeats 2000000 in
theorem roffer_any (lo hi lo2 hi2 : Nat) (h1 : lo < 18446744073709551616) (h2 : hi < 18446744073709551616) (ep : Int) (s d : UInt32) (p q : UInt16) (r : UInt8) (sa sb : UInt16) (sq sk : UInt32) (sr sf : UInt8) (sz su : UInt16) (A1 A2 : Option Addr) (os : List UInt8) (c1 n2 c2 : Nat) (R : List Opt × Nat) (hR : Runs os R 0 []) (hl : os.length ≤ 1000) (ix : Nat) (hio : offI (mssN R.1) = ix) (vv : UInt32) (hvv : ckN lo hi (ckB s d p q r sq) (ckR ep 32) ix = vv.toNat) (sq1 : UInt32) (hq : ((sq.toNat : Int) + 1) % 4294967296 = (sq1.toNat : Int)) (w : World) (hr : Rd bv w w.heap.size A1 c1 os) :
    Calls Tryd.prog 27 #[.agg #[.int .u64 (lo : Int), .int .u64 (hi : Int), .int .u64 (lo2 : Int), .int .u64 (hi2 : Int), .int .i64 ep], .agg #[.int .u32 (s.toNat : Int), .int .u32 (d.toNat : Int), .int .u16 (p.toNat : Int), .int .u16 (q.toNat : Int), .int .u8 (r.toNat : Int)], .agg #[.int .u16 (sa.toNat : Int), .int .u16 (sb.toNat : Int), .int .u32 (sq.toNat : Int), .int .u32 (sk.toNat : Int), .int .u8 (sr.toNat : Int), .int .u8 (sf.toNat : Int), .int .u16 (sz.toNat : Int), .int .u16 (su.toNat : Int), .slice A1 os.length c1, .slice A2 n2 c2]] w fun e w' => ∃ L AL cL, e = .returned (.agg #[.int .u16 (q.toNat : Int), .int .u16 (p.toNat : Int), .int .u32 (vv.toNat : Int), .int .u32 (sq1.toNat : Int), .int .u8 0, .int .u8 18, .int .u16 65535, .int .u16 0, .slice AL L.length cL, .slice none 0 0]) ∧ Hid (L = [2, 4] ++ be16 (szU ix)) ∧ Rd bv w' w'.heap.size AL cL L ∧ Below w.heap.size w w' := by
  have hi8 : ix < 8 := by rw [← hio]; exact offI_lt _
  obtain ⟨N, b, hm⟩ : ∃ n b, mssN R.1 = (n, b) := ⟨_, _, rfl⟩
  have hci : ckR (ix : Int) 8 = ix := by unfold ckR; simp; omega
  have HM := fun W h => Lib.hid (rmss_any A1 c1 os W h hl R hR N b hm)
  have HI : ∀ W, Hid (Calls Tryd.prog 14 #[.int .u16 (if b then (N : Int) else 536)] W fun e w' => e = .returned (.int .i64 (ix : Int)) ∧ Below W.heap.size W w') := fun W => by
    have h5 := rindex_any (if b then (N : Int) else 536) W
    rw [show idxN (if b then (N : Int) else 536) 8 = ix by rw [← hio, offI, hm]] at h5
    exact h5
  have HIS := fun W => Lib.hid (rmake_any lo hi h1 h2 s d p q r sq ep (ix : Int) vv.toNat (by rw [hci]; exact hvv) W)
  have HPL : ∀ W, Hid (Calls Tryd.prog 33 #[.int .u16 (q.toNat : Int), .int .u16 (p.toNat : Int), .int .u32 (vv.toNat : Int), .int .u32 (sq1.toNat : Int), .int .u8 18] W fun e w' => e = .returned (.agg #[.int .u16 (q.toNat : Int), .int .u16 (p.toNat : Int), .int .u32 (vv.toNat : Int), .int .u32 (sq1.toNat : Int), .int .u8 0, .int .u8 18, .int .u16 65535, .int .u16 0, .slice none 0 0, .slice none 0 0]) ∧ Below W.heap.size W w') := fun W => rplain38_any _ _ _ _ _ W
  have HSZ : ∀ W, Hid (Calls Tryd.prog 16 #[.int .i64 (ix : Int)] W fun e w' => e = .returned (.int .u16 ((szU ix).toNat : Int)) ∧ Below W.heap.size W w') := fun W => by
    have h5 := rsize_at ix hi8 W
    rw [szU_at ix hi8] at h5
    exact h5
  have HPM := fun W => Lib.hid (rmss38_any (szU ix) W)
  generalize szU ix = z at HSZ HPM ⊢
  have hq1 := Lib.hid hq
  clear hci hm hR hl hio hvv hq hi8
  obtain ⟨V, hV⟩ : ∃ V, V = ((((w.alloc (.cells #[.int .u64 (lo : Int), .int .u64 (hi : Int), .int .u64 (lo2 : Int), .int .u64 (hi2 : Int), .int .i64 ep] 46)).alloc (.cells #[.int .u32 (s.toNat : Int), .int .u32 (d.toNat : Int), .int .u16 (p.toNat : Int), .int .u16 (q.toNat : Int), .int .u8 (r.toNat : Int)] 28)).alloc (.cells #[.int .u16 (sa.toNat : Int), .int .u16 (sb.toNat : Int), .int .u32 (sq.toNat : Int), .int .u32 (sk.toNat : Int), .int .u8 (sr.toNat : Int), .int .u8 (sf.toNat : Int), .int .u16 (sz.toNat : Int), .int .u16 (su.toNat : Int), .slice A1 os.length c1, .slice A2 n2 c2] 44)).alloc (.cells #[.int .u16 0, .int .u16 0, .int .u32 0, .int .u32 0, .int .u8 0, .int .u8 0, .int .u16 0, .int .u16 0, .slice none 0 0, .slice none 0 0] 44)) := ⟨_, rfl⟩
  have hB : Below w.heap.size w V := by subst hV; exact (bnextA (bnextA (bnextA (bnextA (Below.refl _ _) _) _) _) _)
  have KS : Blk V (w.heap.size) [.int .u64 (lo : Int), .int .u64 (hi : Int), .int .u64 (lo2 : Int), .int .u64 (hi2 : Int), .int .i64 ep] 46 := by subst hV; simpa using (((Blk.new w #[.int .u64 (lo : Int), .int .u64 (hi : Int), .int .u64 (lo2 : Int), .int .u64 (hi2 : Int), .int .i64 ep] 46).alloc (.cells #[.int .u32 (s.toNat : Int), .int .u32 (d.toNat : Int), .int .u16 (p.toNat : Int), .int .u16 (q.toNat : Int), .int .u8 (r.toNat : Int)] 28)).alloc (.cells #[.int .u16 (sa.toNat : Int), .int .u16 (sb.toNat : Int), .int .u32 (sq.toNat : Int), .int .u32 (sk.toNat : Int), .int .u8 (sr.toNat : Int), .int .u8 (sf.toNat : Int), .int .u16 (sz.toNat : Int), .int .u16 (su.toNat : Int), .slice A1 os.length c1, .slice A2 n2 c2] 44)).alloc (.cells #[.int .u16 0, .int .u16 0, .int .u32 0, .int .u32 0, .int .u8 0, .int .u8 0, .int .u16 0, .int .u16 0, .slice none 0 0, .slice none 0 0] 44)
  have KF : Blk V (w.heap.size + 1) [.int .u32 (s.toNat : Int), .int .u32 (d.toNat : Int), .int .u16 (p.toNat : Int), .int .u16 (q.toNat : Int), .int .u8 (r.toNat : Int)] 28 := by subst hV; simpa using ((Blk.new (w.alloc (.cells #[.int .u64 (lo : Int), .int .u64 (hi : Int), .int .u64 (lo2 : Int), .int .u64 (hi2 : Int), .int .i64 ep] 46)) #[.int .u32 (s.toNat : Int), .int .u32 (d.toNat : Int), .int .u16 (p.toNat : Int), .int .u16 (q.toNat : Int), .int .u8 (r.toNat : Int)] 28).alloc (.cells #[.int .u16 (sa.toNat : Int), .int .u16 (sb.toNat : Int), .int .u32 (sq.toNat : Int), .int .u32 (sk.toNat : Int), .int .u8 (sr.toNat : Int), .int .u8 (sf.toNat : Int), .int .u16 (sz.toNat : Int), .int .u16 (su.toNat : Int), .slice A1 os.length c1, .slice A2 n2 c2] 44)).alloc (.cells #[.int .u16 0, .int .u16 0, .int .u32 0, .int .u32 0, .int .u8 0, .int .u8 0, .int .u16 0, .int .u16 0, .slice none 0 0, .slice none 0 0] 44)
  have KG : Blk V (w.heap.size + 2) [.int .u16 (sa.toNat : Int), .int .u16 (sb.toNat : Int), .int .u32 (sq.toNat : Int), .int .u32 (sk.toNat : Int), .int .u8 (sr.toNat : Int), .int .u8 (sf.toNat : Int), .int .u16 (sz.toNat : Int), .int .u16 (su.toNat : Int), .slice A1 os.length c1, .slice A2 n2 c2] 44 := by subst hV; simpa using (Blk.new ((w.alloc (.cells #[.int .u64 (lo : Int), .int .u64 (hi : Int), .int .u64 (lo2 : Int), .int .u64 (hi2 : Int), .int .i64 ep] 46)).alloc (.cells #[.int .u32 (s.toNat : Int), .int .u32 (d.toNat : Int), .int .u16 (p.toNat : Int), .int .u16 (q.toNat : Int), .int .u8 (r.toNat : Int)] 28)) #[.int .u16 (sa.toNat : Int), .int .u16 (sb.toNat : Int), .int .u32 (sq.toNat : Int), .int .u32 (sk.toNat : Int), .int .u8 (sr.toNat : Int), .int .u8 (sf.toNat : Int), .int .u16 (sz.toNat : Int), .int .u16 (su.toNat : Int), .slice A1 os.length c1, .slice A2 n2 c2] 44).alloc (.cells #[.int .u16 0, .int .u16 0, .int .u32 0, .int .u32 0, .int .u8 0, .int .u8 0, .int .u16 0, .int .u16 0, .slice none 0 0, .slice none 0 0] 44)
  have KZ : Blk V (w.heap.size + 3) [.int .u16 0, .int .u16 0, .int .u32 0, .int .u32 0, .int .u8 0, .int .u8 0, .int .u16 0, .int .u16 0, .slice none 0 0, .slice none 0 0] 44 := by subst hV; simpa using Blk.new (((w.alloc (.cells #[.int .u64 (lo : Int), .int .u64 (hi : Int), .int .u64 (lo2 : Int), .int .u64 (hi2 : Int), .int .i64 ep] 46)).alloc (.cells #[.int .u32 (s.toNat : Int), .int .u32 (d.toNat : Int), .int .u16 (p.toNat : Int), .int .u16 (q.toNat : Int), .int .u8 (r.toNat : Int)] 28)).alloc (.cells #[.int .u16 (sa.toNat : Int), .int .u16 (sb.toNat : Int), .int .u32 (sq.toNat : Int), .int .u32 (sk.toNat : Int), .int .u8 (sr.toNat : Int), .int .u8 (sf.toNat : Int), .int .u16 (sz.toNat : Int), .int .u16 (su.toNat : Int), .slice A1 os.length c1, .slice A2 n2 c2] 44)) #[.int .u16 0, .int .u16 0, .int .u32 0, .int .u32 0, .int .u8 0, .int .u8 0, .int .u16 0, .int .u16 0, .slice none 0 0, .slice none 0 0] 44
  have hZl : Hid (w.heap.size + 3 < V.heap.size) := KZ.lt
  have rV := hr.next hB
  obtain ⟨z0, z1, z2, z3, z4, z5, z6, z7, z8, z9, -⟩ := KG.get10
  go_enter Tryd.func27, Tryd.ntmps27
  go_wp2_with fail
  rw [← hV]
  clear hV hr
  refine (HM _ rV).out.mono ?_
  rintro e w1 ⟨rfl, hb⟩
  replace hB := bnext hB hb
  replace KS := KS.next hb
  replace KF := KF.next hb
  replace KG := KG.next hb
  replace KZ := KZ.next hb
  replace hZl : Hid (w.heap.size + 3 < w1.heap.size) := Nat.lt_of_lt_of_le hZl.out hb.size
  clear hb HM rV z0 z1 z2 z3 z4 z5 z6 z7 z8 z9
  cases b
  all_goals
    simp only [if_true, Bool.false_eq_true, if_false] at HI
    go_wp2_with fail
    refine (HI _).out.mono ?_
    rintro e w2 ⟨rfl, hb⟩
    replace hB := bnext hB hb
    replace KS := KS.next hb
    replace KF := KF.next hb
    replace KG := KG.next hb
    replace KZ := KZ.next hb
    replace hZl : Hid (w.heap.size + 3 < w2.heap.size) := Nat.lt_of_lt_of_le hZl.out hb.size
    clear hb HI
    go_wp2_with fail
    generalize w2 = V3 at *
    have HCC : ∀ W, Below V3.heap.size V3 W → (W.cell? ⟨w.heap.size + 1, 0, none⟩ = some (.int .u32 (s.toNat : Int)) ∧ W.cell? ⟨w.heap.size + 1, 1, none⟩ = some (.int .u32 (d.toNat : Int)) ∧ W.cell? ⟨w.heap.size + 1, 2, none⟩ = some (.int .u16 (p.toNat : Int)) ∧ W.cell? ⟨w.heap.size + 1, 3, none⟩ = some (.int .u16 (q.toNat : Int)) ∧ W.cell? ⟨w.heap.size + 1, 4, none⟩ = some (.int .u8 (r.toNat : Int)) ∧ W.cell? ⟨w.heap.size + 2, 2, none⟩ = some (.int .u32 (sq.toNat : Int)) ∧ W.cell? ⟨w.heap.size, 0, none⟩ = some (.int .u64 (lo : Int)) ∧ W.cell? ⟨w.heap.size, 1, none⟩ = some (.int .u64 (hi : Int)) ∧ W.cell? ⟨w.heap.size, 2, none⟩ = some (.int .u64 (lo2 : Int)) ∧ W.cell? ⟨w.heap.size, 3, none⟩ = some (.int .u64 (hi2 : Int)) ∧ W.cell? ⟨w.heap.size, 4, none⟩ = some (.int .i64 ep)) := by
      intro W h
      exact ⟨(KF.next h).cell 0, (KF.next h).cell 1, (KF.next h).cell 2, (KF.next h).cell 3, (KF.next h).cell 4, (KG.next h).cell 2, (KS.next h).cell 0, (KS.next h).cell 1, (KS.next h).cell 2, (KS.next h).cell 3, (KS.next h).cell 4⟩
    refine region_put_last (by kernel_rfl) (by kernel_rfl) (by kernel_rfl) 43 rfl (by kernel_rfl) V3 (fun i v W => match i with
        | 0 => v = .pointer (some ⟨w.heap.size + 1, 3, none⟩)
        | 1 => v = .int .u16 (q.toNat : Int)
        | 2 => v = .pointer (some ⟨w.heap.size + 1, 2, none⟩)
        | 3 => v = .int .u16 (p.toNat : Int)
        | 4 => v = .pointer (some ⟨w.heap.size, 0, none⟩)
        | 5 => v = .agg #[.int .u64 (lo : Int), .int .u64 (hi : Int)]
        | 6 => v = .agg #[.int .u32 (s.toNat : Int), .int .u32 (d.toNat : Int), .int .u16 (p.toNat : Int), .int .u16 (q.toNat : Int), .int .u8 (r.toNat : Int)]
        | 7 => v = .pointer (some ⟨w.heap.size + 2, 2, none⟩)
        | 8 => v = .int .u32 (sq.toNat : Int)
        | 9 => v = .pointer (some ⟨w.heap.size, 4, none⟩)
        | 10 => v = .int .i64 ep
        | 11 => v = .int .i64 (ix : Int)
        | 12 => v = .int .u32 (vv.toNat : Int)
        | 13 => v = .pointer (some ⟨w.heap.size + 2, 2, none⟩)
        | 14 => v = .int .u32 (sq.toNat : Int)
        | 15 => v = .int .u32 (sq1.toNat : Int)
        | 16 => v = .agg #[.int .u16 (q.toNat : Int), .int .u16 (p.toNat : Int), .int .u32 (vv.toNat : Int), .int .u32 (sq1.toNat : Int), .int .u8 0, .int .u8 18, .int .u16 65535, .int .u16 0, .slice none 0 0, .slice none 0 0]
        | 17 => ∃ g, v = .pointer (some ⟨g, 0, none⟩) ∧ V3.heap.size ≤ g ∧ Blk W g [.int .u16 0, .int .u16 0, .int .u32 0, .int .u32 0, .int .u8 0, .int .u8 0, .int .u16 0, .int .u16 0, .slice none 0 0, .slice none 0 0] 44
        | _ => True) (Below.refl _ _) 18 rfl (by kernel_rfl) (by intro o h; obtain rfl := Option.some.inj h; rfl) ?_ ?_ ?_
    · intro i v W W' h hb
      match i, h with
      | 0, h => exact h
      | 1, h => exact h
      | 2, h => exact h
      | 3, h => exact h
      | 4, h => exact h
      | 5, h => exact h
      | 6, h => exact h
      | 7, h => exact h
      | 8, h => exact h
      | 9, h => exact h
      | 10, h => exact h
      | 11, h => exact h
      | 12, h => exact h
      | 13, h => exact h
      | 14, h => exact h
      | 15, h => exact h
      | 16, h => exact h
      | 17, h => obtain ⟨g, h1, h2, h3⟩ := h; exact ⟨g, h1, h2, h3.next hb⟩
      | _ + 18, _ => trivial
    · intro i oo uu W him hoo hVW hd
      rcases i with _|_|_|_|_|_|_|_|_|_|_|_|_|_|_|_|_|_|i
      · obtain rfl := Option.some.inj hoo
        refine .inl ⟨wanted_none rfl, ?_⟩
        generalize hev : Act.eval _ = ev
        have ec : ∀ c, ev (.const c) = c := fun c => by rw [← hev]; rfl
        have e4 : ev (.tmp 4) = .pointer (some ⟨w.heap.size + 1, 0, none⟩) := by rw [← hev]; exact eval_old (by kernel_rfl) 43 rfl (by decide) rfl
        clear hev hd
        exact .inl ⟨_, W, by go_simp, rfl, Below.refl _ _⟩
      · obtain rfl := Option.some.inj hoo
        have q0 : uu 0 = .pointer (some ⟨w.heap.size + 1, 3, none⟩) := hd 0 (by kernel_rfl)
        refine .inl ⟨wanted_none rfl, ?_⟩
        generalize hev : Act.eval _ = ev
        have ec : ∀ c, ev (.const c) = c := fun c => by rw [← hev]; rfl
        have e21 : ev (.tmp 21) = .pointer (some ⟨w.heap.size + 1, 3, none⟩) := by rw [← hev]; exact (eval_put (by kernel_rfl) 43 rfl (by decide)).trans q0
        clear hev hd q0
        obtain ⟨cc0, cc1, cc2, cc3, cc4, cc5, cc6, cc7, cc8, cc9, cc10⟩ := HCC W hVW
        exact .inl ⟨_, W, by go_simp, rfl, Below.refl _ _⟩
      · obtain rfl := Option.some.inj hoo
        refine .inl ⟨wanted_none rfl, ?_⟩
        generalize hev : Act.eval _ = ev
        have ec : ∀ c, ev (.const c) = c := fun c => by rw [← hev]; rfl
        have e4 : ev (.tmp 4) = .pointer (some ⟨w.heap.size + 1, 0, none⟩) := by rw [← hev]; exact eval_old (by kernel_rfl) 43 rfl (by decide) rfl
        clear hev hd
        exact .inl ⟨_, W, by go_simp, rfl, Below.refl _ _⟩
      · obtain rfl := Option.some.inj hoo
        have q2 : uu 2 = .pointer (some ⟨w.heap.size + 1, 2, none⟩) := hd 2 (by kernel_rfl)
        refine .inl ⟨wanted_none rfl, ?_⟩
        generalize hev : Act.eval _ = ev
        have ec : ∀ c, ev (.const c) = c := fun c => by rw [← hev]; rfl
        have e23 : ev (.tmp 23) = .pointer (some ⟨w.heap.size + 1, 2, none⟩) := by rw [← hev]; exact (eval_put (by kernel_rfl) 43 rfl (by decide)).trans q2
        clear hev hd q2
        obtain ⟨cc0, cc1, cc2, cc3, cc4, cc5, cc6, cc7, cc8, cc9, cc10⟩ := HCC W hVW
        exact .inl ⟨_, W, by go_simp, rfl, Below.refl _ _⟩
      · obtain rfl := Option.some.inj hoo
        refine .inl ⟨wanted_none rfl, ?_⟩
        generalize hev : Act.eval _ = ev
        have ec : ∀ c, ev (.const c) = c := fun c => by rw [← hev]; rfl
        have e3 : ev (.tmp 3) = .pointer (some ⟨w.heap.size, 0, none⟩) := by rw [← hev]; exact eval_old (by kernel_rfl) 43 rfl (by decide) rfl
        clear hev hd
        exact .inl ⟨_, W, by go_simp, rfl, Below.refl _ _⟩
      · obtain rfl := Option.some.inj hoo
        have q4 : uu 4 = .pointer (some ⟨w.heap.size, 0, none⟩) := hd 4 (by kernel_rfl)
        refine .inl ⟨wanted_none rfl, ?_⟩
        generalize hev : Act.eval _ = ev
        have ec : ∀ c, ev (.const c) = c := fun c => by rw [← hev]; rfl
        have e25 : ev (.tmp 25) = .pointer (some ⟨w.heap.size, 0, none⟩) := by rw [← hev]; exact (eval_put (by kernel_rfl) 43 rfl (by decide)).trans q4
        clear hev hd q4
        obtain ⟨cc0, cc1, cc2, cc3, cc4, cc5, cc6, cc7, cc8, cc9, cc10⟩ := HCC W hVW
        exact .inl ⟨_, W, by go_simp, rfl, Below.refl _ _⟩
      · obtain rfl := Option.some.inj hoo
        refine .inl ⟨wanted_none rfl, ?_⟩
        generalize hev : Act.eval _ = ev
        have ec : ∀ c, ev (.const c) = c := fun c => by rw [← hev]; rfl
        have e4 : ev (.tmp 4) = .pointer (some ⟨w.heap.size + 1, 0, none⟩) := by rw [← hev]; exact eval_old (by kernel_rfl) 43 rfl (by decide) rfl
        clear hev hd
        exact .inl ⟨_, W, load_blk Tryd.underlying28 (by kernel_rfl) (KF.next hVW) rfl e4, rfl, Below.refl _ _⟩
      · obtain rfl := Option.some.inj hoo
        refine .inl ⟨wanted_none rfl, ?_⟩
        generalize hev : Act.eval _ = ev
        have ec : ∀ c, ev (.const c) = c := fun c => by rw [← hev]; rfl
        have e5 : ev (.tmp 5) = .pointer (some ⟨w.heap.size + 2, 0, none⟩) := by rw [← hev]; exact eval_old (by kernel_rfl) 43 rfl (by decide) rfl
        clear hev hd
        exact .inl ⟨_, W, by go_simp, rfl, Below.refl _ _⟩
      · obtain rfl := Option.some.inj hoo
        have q7 : uu 7 = .pointer (some ⟨w.heap.size + 2, 2, none⟩) := hd 7 (by kernel_rfl)
        refine .inl ⟨wanted_none rfl, ?_⟩
        generalize hev : Act.eval _ = ev
        have ec : ∀ c, ev (.const c) = c := fun c => by rw [← hev]; rfl
        have e28 : ev (.tmp 28) = .pointer (some ⟨w.heap.size + 2, 2, none⟩) := by rw [← hev]; exact (eval_put (by kernel_rfl) 43 rfl (by decide)).trans q7
        clear hev hd q7
        obtain ⟨cc0, cc1, cc2, cc3, cc4, cc5, cc6, cc7, cc8, cc9, cc10⟩ := HCC W hVW
        exact .inl ⟨_, W, by go_simp, rfl, Below.refl _ _⟩
      · obtain rfl := Option.some.inj hoo
        refine .inl ⟨wanted_none rfl, ?_⟩
        generalize hev : Act.eval _ = ev
        have ec : ∀ c, ev (.const c) = c := fun c => by rw [← hev]; rfl
        have e3 : ev (.tmp 3) = .pointer (some ⟨w.heap.size, 0, none⟩) := by rw [← hev]; exact eval_old (by kernel_rfl) 43 rfl (by decide) rfl
        clear hev hd
        exact .inl ⟨_, W, by go_simp, rfl, Below.refl _ _⟩
      · obtain rfl := Option.some.inj hoo
        have q9 : uu 9 = .pointer (some ⟨w.heap.size, 4, none⟩) := hd 9 (by kernel_rfl)
        refine .inl ⟨wanted_none rfl, ?_⟩
        generalize hev : Act.eval _ = ev
        have ec : ∀ c, ev (.const c) = c := fun c => by rw [← hev]; rfl
        have e30 : ev (.tmp 30) = .pointer (some ⟨w.heap.size, 4, none⟩) := by rw [← hev]; exact (eval_put (by kernel_rfl) 43 rfl (by decide)).trans q9
        clear hev hd q9
        obtain ⟨cc0, cc1, cc2, cc3, cc4, cc5, cc6, cc7, cc8, cc9, cc10⟩ := HCC W hVW
        exact .inl ⟨_, W, by go_simp, rfl, Below.refl _ _⟩
      · obtain rfl := Option.some.inj hoo
        refine .inl ⟨wanted_none rfl, ?_⟩
        generalize hev : Act.eval _ = ev
        have ec : ∀ c, ev (.const c) = c := fun c => by rw [← hev]; rfl
        have e9 : ev (.tmp 9) = .int .i64 (ix : Int) := by rw [← hev]; exact eval_old (by kernel_rfl) 43 rfl (by decide) rfl
        clear hev hd
        exact .inl ⟨_, W, by go_simp, rfl, Below.refl _ _⟩
      · obtain rfl := Option.some.inj hoo
        have q5 : uu 5 = .agg #[.int .u64 (lo : Int), .int .u64 (hi : Int)] := hd 5 (by kernel_rfl)
        have q6 : uu 6 = .agg #[.int .u32 (s.toNat : Int), .int .u32 (d.toNat : Int), .int .u16 (p.toNat : Int), .int .u16 (q.toNat : Int), .int .u8 (r.toNat : Int)] := hd 6 (by kernel_rfl)
        have q8 : uu 8 = .int .u32 (sq.toNat : Int) := hd 8 (by kernel_rfl)
        have q10 : uu 10 = .int .i64 ep := hd 10 (by kernel_rfl)
        have q11 : uu 11 = .int .i64 (ix : Int) := hd 11 (by kernel_rfl)
        refine .inl ⟨wanted_none rfl, ?_⟩
        generalize hev : Act.eval _ = ev
        have ec : ∀ c, ev (.const c) = c := fun c => by rw [← hev]; rfl
        have ef : ∀ f, ev (.func f) = .func (.func f) #[] #[] := fun f => by rw [← hev]; rfl
        have e26 : ev (.tmp 26) = .agg #[.int .u64 (lo : Int), .int .u64 (hi : Int)] := by rw [← hev]; exact (eval_put (by kernel_rfl) 43 rfl (by decide)).trans q5
        have e27 : ev (.tmp 27) = .agg #[.int .u32 (s.toNat : Int), .int .u32 (d.toNat : Int), .int .u16 (p.toNat : Int), .int .u16 (q.toNat : Int), .int .u8 (r.toNat : Int)] := by rw [← hev]; exact (eval_put (by kernel_rfl) 43 rfl (by decide)).trans q6
        have e29 : ev (.tmp 29) = .int .u32 (sq.toNat : Int) := by rw [← hev]; exact (eval_put (by kernel_rfl) 43 rfl (by decide)).trans q8
        have e31 : ev (.tmp 31) = .int .i64 ep := by rw [← hev]; exact (eval_put (by kernel_rfl) 43 rfl (by decide)).trans q10
        have e32 : ev (.tmp 32) = .int .i64 (ix : Int) := by rw [← hev]; exact (eval_put (by kernel_rfl) 43 rfl (by decide)).trans q11
        clear hev hd q5 q6 q8 q10 q11
        exact .inr ⟨_, _, _, by go_simp, (HIS W).out, fun e w' he => ⟨_, he.1, rfl, he.2⟩⟩
      · obtain rfl := Option.some.inj hoo
        refine .inl ⟨wanted_none rfl, ?_⟩
        generalize hev : Act.eval _ = ev
        have ec : ∀ c, ev (.const c) = c := fun c => by rw [← hev]; rfl
        have e5 : ev (.tmp 5) = .pointer (some ⟨w.heap.size + 2, 0, none⟩) := by rw [← hev]; exact eval_old (by kernel_rfl) 43 rfl (by decide) rfl
        clear hev hd
        exact .inl ⟨_, W, by go_simp, rfl, Below.refl _ _⟩
      · obtain rfl := Option.some.inj hoo
        have q13 : uu 13 = .pointer (some ⟨w.heap.size + 2, 2, none⟩) := hd 13 (by kernel_rfl)
        refine .inl ⟨wanted_none rfl, ?_⟩
        generalize hev : Act.eval _ = ev
        have ec : ∀ c, ev (.const c) = c := fun c => by rw [← hev]; rfl
        have e34 : ev (.tmp 34) = .pointer (some ⟨w.heap.size + 2, 2, none⟩) := by rw [← hev]; exact (eval_put (by kernel_rfl) 43 rfl (by decide)).trans q13
        clear hev hd q13
        obtain ⟨cc0, cc1, cc2, cc3, cc4, cc5, cc6, cc7, cc8, cc9, cc10⟩ := HCC W hVW
        exact .inl ⟨_, W, by go_simp, rfl, Below.refl _ _⟩
      · obtain rfl := Option.some.inj hoo
        have q14 : uu 14 = .int .u32 (sq.toNat : Int) := hd 14 (by kernel_rfl)
        refine .inl ⟨wanted_none rfl, ?_⟩
        generalize hev : Act.eval _ = ev
        have ec : ∀ c, ev (.const c) = c := fun c => by rw [← hev]; rfl
        have e35 : ev (.tmp 35) = .int .u32 (sq.toNat : Int) := by rw [← hev]; exact (eval_put (by kernel_rfl) 43 rfl (by decide)).trans q14
        clear hev hd q14
        have hh : IntKind.u32.wrap ((sq.toNat : Int) + 1) = (sq1.toNat : Int) := by rw [IntKind.wrap_u32]; exact hq1.out
        exact .inl ⟨_, W, by go_simp, rfl, Below.refl _ _⟩
      · obtain rfl := Option.some.inj hoo
        have q1 : uu 1 = .int .u16 (q.toNat : Int) := hd 1 (by kernel_rfl)
        have q3 : uu 3 = .int .u16 (p.toNat : Int) := hd 3 (by kernel_rfl)
        have q12 : uu 12 = .int .u32 (vv.toNat : Int) := hd 12 (by kernel_rfl)
        have q15 : uu 15 = .int .u32 (sq1.toNat : Int) := hd 15 (by kernel_rfl)
        refine .inl ⟨wanted_none rfl, ?_⟩
        generalize hev : Act.eval _ = ev
        have ec : ∀ c, ev (.const c) = c := fun c => by rw [← hev]; rfl
        have ef : ∀ f, ev (.func f) = .func (.func f) #[] #[] := fun f => by rw [← hev]; rfl
        have e22 : ev (.tmp 22) = .int .u16 (q.toNat : Int) := by rw [← hev]; exact (eval_put (by kernel_rfl) 43 rfl (by decide)).trans q1
        have e24 : ev (.tmp 24) = .int .u16 (p.toNat : Int) := by rw [← hev]; exact (eval_put (by kernel_rfl) 43 rfl (by decide)).trans q3
        have e33 : ev (.tmp 33) = .int .u32 (vv.toNat : Int) := by rw [← hev]; exact (eval_put (by kernel_rfl) 43 rfl (by decide)).trans q12
        have e36 : ev (.tmp 36) = .int .u32 (sq1.toNat : Int) := by rw [← hev]; exact (eval_put (by kernel_rfl) 43 rfl (by decide)).trans q15
        clear hev hd q1 q3 q12 q15
        exact .inr ⟨_, _, _, by go_simp, (HPL W).out, fun e w' he => ⟨_, he.1, rfl, he.2⟩⟩
      · obtain rfl := Option.some.inj hoo
        refine .inl ⟨wanted_none rfl, ?_⟩
        generalize hev : Act.eval _ = ev
        have ec : ∀ c, ev (.const c) = c := fun c => by rw [← hev]; rfl
        clear hev hd
        exact .inl ⟨_, W.alloc (.cells #[.int .u16 0, .int .u16 0, .int .u32 0, .int .u32 0, .int .u8 0, .int .u8 0, .int .u16 0, .int .u16 0, .slice none 0 0, .slice none 0 0] 44), by go_simp, ⟨W.heap.size, rfl, hVW.size, Blk.new W #[.int .u16 0, .int .u16 0, .int .u32 0, .int .u32 0, .int .u8 0, .int .u8 0, .int .u16 0, .int .u16 0, .slice none 0 0, .slice none 0 0] 44⟩, bnextA (Below.refl _ _) _⟩
      · omega
    · intro oo uu W hoo hVW hall
      obtain rfl := Option.some.inj hoo
      obtain ⟨g17, q17, hle17, hbk17⟩ := hall 17 (by decide)
      have q16 : uu 16 = .agg #[.int .u16 (q.toNat : Int), .int .u16 (p.toNat : Int), .int .u32 (vv.toNat : Int), .int .u32 (sq1.toNat : Int), .int .u8 0, .int .u8 18, .int .u16 65535, .int .u16 0, .slice none 0 0, .slice none 0 0] := hall 16 (by decide)
      refine ⟨wanted_none rfl, ?_⟩
      generalize hev : Act.eval _ = ev
      have ec : ∀ c, ev (.const c) = c := fun c => by rw [← hev]; rfl
      have e10 : ev (.tmp 10) = .pointer (some ⟨g17, 0, none⟩) := by rw [← hev]; exact (eval_put (by kernel_rfl) 43 rfl (by decide)).trans q17
      have e37 : ev (.tmp 37) = .agg #[.int .u16 (q.toNat : Int), .int .u16 (p.toNat : Int), .int .u32 (vv.toNat : Int), .int .u32 (sq1.toNat : Int), .int .u8 0, .int .u8 18, .int .u16 65535, .int .u16 0, .slice none 0 0, .slice none 0 0] := by rw [← hev]; exact (eval_put (by kernel_rfl) 43 rfl (by decide)).trans q16
      clear hev hall
      obtain ⟨m0, m1, m2, m3, m4, m5, m6, m7, m8, m9, n0, n1, n2, n3, n4, n5, n6, n7, n8, n9⟩ := hbk17.get10
      refine ⟨_, by (go_simp <;> rfl), ?_⟩
      simp only [putAll, Act.put, Nat.reduceAdd, q17]
      simp only [List.setIfInBounds_toArray, List.set_cons_succ, List.set_cons_zero]
      have hB4 := bset10 (hB.trans (hVW.mono hB.size)) (Nat.le_trans hB.size hle17) (.int .u16 (q.toNat : Int)) (.int .u16 (p.toNat : Int)) (.int .u32 (vv.toNat : Int)) (.int .u32 (sq1.toNat : Int)) (.int .u8 0) (.int .u8 18) (.int .u16 65535) (.int .u16 0) (.slice none 0 0) (.slice none 0 0)
      have KN := hbk17.set10 (u0 := .int .u16 (q.toNat : Int)) (u1 := .int .u16 (p.toNat : Int)) (u2 := .int .u32 (vv.toNat : Int)) (u3 := .int .u32 (sq1.toNat : Int)) (u4 := .int .u8 0) (u5 := .int .u8 18) (u6 := .int .u16 65535) (u7 := .int .u16 0) (u8 := .slice none 0 0) (u9 := .slice none 0 0)
      have hB5 := bset10 (B := V3.heap.size) hVW hle17 (.int .u16 (q.toNat : Int)) (.int .u16 (p.toNat : Int)) (.int .u32 (vv.toNat : Int)) (.int .u32 (sq1.toNat : Int)) (.int .u8 0) (.int .u8 18) (.int .u16 65535) (.int .u16 0) (.slice none 0 0) (.slice none 0 0)
      replace KZ := KZ.next hB5
      simp only [setAll10] at hB4 KN KZ
      have hne : w.heap.size + 3 ≠ g17 := by have := hZl.out; omega
      clear HCC hB hVW hB5 HIS HPL KS KF KG
      generalize ((((((((((W.setCell ⟨g17, 0, none⟩ (.int .u16 (q.toNat : Int))).setCell ⟨g17, 1, none⟩ (.int .u16 (p.toNat : Int))).setCell ⟨g17, 2, none⟩ (.int .u32 (vv.toNat : Int))).setCell ⟨g17, 3, none⟩ (.int .u32 (sq1.toNat : Int))).setCell ⟨g17, 4, none⟩ (.int .u8 0)).setCell ⟨g17, 5, none⟩ (.int .u8 18)).setCell ⟨g17, 6, none⟩ (.int .u16 65535)).setCell ⟨g17, 7, none⟩ (.int .u16 0)).setCell ⟨g17, 8, none⟩ (.slice none 0 0)).setCell ⟨g17, 9, none⟩ (.slice none 0 0)) = V4 at *
      clear hbk17 q17
      have hgle : w.heap.size ≤ g17 := by have := hZl.out; omega
      clear hle17
      generalize g17 = g at *
      go_wp2_with fail
      refine (HSZ _).out.mono ?_
      rintro e w5 ⟨rfl, hb⟩
      replace hB4 := bnext hB4 hb
      replace KN := KN.next hb
      replace KZ := KZ.next hb
      clear hb HSZ
      go_wp2_with fail
      refine (HPM _).out.mono ?_
      rintro e w6 ⟨L, AL, cL, rfl, HL, rL, hb⟩
      replace hB4 := bnext hB4 hb
      replace KN := KN.next hb
      replace KZ := KZ.next hb
      clear hb HPM
      obtain ⟨z0, z1, z2, z3, z4, z5, z6, z7, z8, z9, f0, f1, f2, f3, f4, f5, f6, f7, f8, f9⟩ := KN.get10
      obtain ⟨y0, y1, y2, y3, y4, y5, y6, y7, y8, y9, t0, t1, t2, t3, t4, t5, t6, t7, t8, t9⟩ := KZ.get10
      go_wp2_with fail
      have hl4 : L.length = 4 := by rw [HL.out]; rfl
      obtain ⟨bl, off, hA, hbl, hcl⟩ := byt_at rL (k := 0) (by omega)
      subst hA
      have hb1 := seg_apart KN rL hl4
      have hb2 := seg_apart KZ rL hl4
      have HRL := Lib.hid ((rL.sets hb1 8 (.slice (some ⟨bl, off, none⟩) L.length cL)).setsAll hb2 (.int .u16 (q.toNat : Int)) (.int .u16 (p.toNat : Int)) (.int .u32 (vv.toNat : Int)) (.int .u32 (sq1.toNat : Int)) (.int .u8 0) (.int .u8 18) (.int .u16 65535) (.int .u16 0) (.slice (some ⟨bl, off, none⟩) L.length cL) (.slice none 0 0))
      have HBB := Lib.hid (bset10 (hB4.setCell (p := ⟨g, 8, none⟩) hgle (.slice (some ⟨bl, off, none⟩) L.length cL)) (show w.heap.size ≤ w.heap.size + 3 by omega) (.int .u16 (q.toNat : Int)) (.int .u16 (p.toNat : Int)) (.int .u32 (vv.toNat : Int)) (.int .u32 (sq1.toNat : Int)) (.int .u8 0) (.int .u8 18) (.int .u16 65535) (.int .u16 0) (.slice (some ⟨bl, off, none⟩) L.length cL) (.slice none 0 0))
      clear hl4 hcl hb1 hb2 rL KN KZ hB4
      simp [bodyPost, results, Tryd.results27, go_sem, *]
      exact ⟨L, _, _, ⟨rfl, rfl, rfl⟩, HL, HRL.out, HBB.out⟩
set_option maxHeartbeats 1000000 in
theorem raccept_f16 (lo hi lo2 hi2 : Nat) (h1 : lo < 18446744073709551616) (h2 : hi < 18446744073709551616) (h3 : lo2 < 18446744073709551616) (h4 : hi2 < 18446744073709551616) (ep : Int) (s d : UInt32) (p q : UInt16) (r : UInt8) (sa sb : UInt16) (sq sk : UInt32) (sr sf : UInt8) (sz su : UInt16) (A1 A2 : Option Addr) (n1 c1 n2 c2 : Nat) (H1f : hasB sf 16 = false) (w : World) :
    Calls Tryd.prog 24 #[.agg #[.int .u64 (lo : Int), .int .u64 (hi : Int), .int .u64 (lo2 : Int), .int .u64 (hi2 : Int), .int .i64 ep], .agg #[.int .u32 (s.toNat : Int), .int .u32 (d.toNat : Int), .int .u16 (p.toNat : Int), .int .u16 (q.toNat : Int), .int .u8 (r.toNat : Int)], .agg #[.int .u16 (sa.toNat : Int), .int .u16 (sb.toNat : Int), .int .u32 (sq.toNat : Int), .int .u32 (sk.toNat : Int), .int .u8 (sr.toNat : Int), .int .u8 (sf.toNat : Int), .int .u16 (sz.toNat : Int), .int .u16 (su.toNat : Int), .slice A1 n1 c1, .slice A2 n2 c2]] w fun e w' => e = .returned (.tuple #[.int .i64 0, .bool false]) ∧ Below w.heap.size w w' := by
  have H1 : ∀ W, Hid (Calls Tryd.prog 49 #[.int .u8 (sf.toNat : Int), .int .i64 16] W fun e w' => e = .returned (.bool false) ∧ Below W.heap.size W w') := fun W => by
    have h := bw (rbit_any sf 16 16 rfl (by decide) (by decide) W)
    rw [bitB_16, H1f] at h
    exact h
  obtain ⟨V, hV⟩ : ∃ V, V = (((w.alloc (.cells #[.int .u64 (lo : Int), .int .u64 (hi : Int), .int .u64 (lo2 : Int), .int .u64 (hi2 : Int), .int .i64 ep] 46)).alloc (.cells #[.int .u32 (s.toNat : Int), .int .u32 (d.toNat : Int), .int .u16 (p.toNat : Int), .int .u16 (q.toNat : Int), .int .u8 (r.toNat : Int)] 28)).alloc (.cells #[.int .u16 (sa.toNat : Int), .int .u16 (sb.toNat : Int), .int .u32 (sq.toNat : Int), .int .u32 (sk.toNat : Int), .int .u8 (sr.toNat : Int), .int .u8 (sf.toNat : Int), .int .u16 (sz.toNat : Int), .int .u16 (su.toNat : Int), .slice A1 n1 c1, .slice A2 n2 c2] 44)) := ⟨_, rfl⟩
  have hB : Below w.heap.size w V := by subst hV; exact (bnextA (bnextA (bnextA (Below.refl _ _) _) _) _)
  have KS : Blk V (w.heap.size) [.int .u64 (lo : Int), .int .u64 (hi : Int), .int .u64 (lo2 : Int), .int .u64 (hi2 : Int), .int .i64 ep] 46 := by subst hV; simpa using ((Blk.new w #[.int .u64 (lo : Int), .int .u64 (hi : Int), .int .u64 (lo2 : Int), .int .u64 (hi2 : Int), .int .i64 ep] 46).alloc (.cells #[.int .u32 (s.toNat : Int), .int .u32 (d.toNat : Int), .int .u16 (p.toNat : Int), .int .u16 (q.toNat : Int), .int .u8 (r.toNat : Int)] 28)).alloc (.cells #[.int .u16 (sa.toNat : Int), .int .u16 (sb.toNat : Int), .int .u32 (sq.toNat : Int), .int .u32 (sk.toNat : Int), .int .u8 (sr.toNat : Int), .int .u8 (sf.toNat : Int), .int .u16 (sz.toNat : Int), .int .u16 (su.toNat : Int), .slice A1 n1 c1, .slice A2 n2 c2] 44)
  have KF : Blk V (w.heap.size + 1) [.int .u32 (s.toNat : Int), .int .u32 (d.toNat : Int), .int .u16 (p.toNat : Int), .int .u16 (q.toNat : Int), .int .u8 (r.toNat : Int)] 28 := by subst hV; simpa using (Blk.new (w.alloc (.cells #[.int .u64 (lo : Int), .int .u64 (hi : Int), .int .u64 (lo2 : Int), .int .u64 (hi2 : Int), .int .i64 ep] 46)) #[.int .u32 (s.toNat : Int), .int .u32 (d.toNat : Int), .int .u16 (p.toNat : Int), .int .u16 (q.toNat : Int), .int .u8 (r.toNat : Int)] 28).alloc (.cells #[.int .u16 (sa.toNat : Int), .int .u16 (sb.toNat : Int), .int .u32 (sq.toNat : Int), .int .u32 (sk.toNat : Int), .int .u8 (sr.toNat : Int), .int .u8 (sf.toNat : Int), .int .u16 (sz.toNat : Int), .int .u16 (su.toNat : Int), .slice A1 n1 c1, .slice A2 n2 c2] 44)
  have KG : Blk V (w.heap.size + 2) [.int .u16 (sa.toNat : Int), .int .u16 (sb.toNat : Int), .int .u32 (sq.toNat : Int), .int .u32 (sk.toNat : Int), .int .u8 (sr.toNat : Int), .int .u8 (sf.toNat : Int), .int .u16 (sz.toNat : Int), .int .u16 (su.toNat : Int), .slice A1 n1 c1, .slice A2 n2 c2] 44 := by subst hV; simpa using Blk.new ((w.alloc (.cells #[.int .u64 (lo : Int), .int .u64 (hi : Int), .int .u64 (lo2 : Int), .int .u64 (hi2 : Int), .int .i64 ep] 46)).alloc (.cells #[.int .u32 (s.toNat : Int), .int .u32 (d.toNat : Int), .int .u16 (p.toNat : Int), .int .u16 (q.toNat : Int), .int .u8 (r.toNat : Int)] 28)) #[.int .u16 (sa.toNat : Int), .int .u16 (sb.toNat : Int), .int .u32 (sq.toNat : Int), .int .u32 (sk.toNat : Int), .int .u8 (sr.toNat : Int), .int .u8 (sf.toNat : Int), .int .u16 (sz.toNat : Int), .int .u16 (su.toNat : Int), .slice A1 n1 c1, .slice A2 n2 c2] 44
  obtain ⟨z0, z1, z2, z3, z4, z5, z6, z7, z8, z9, -⟩ := KG.get10
  obtain ⟨k0, k1, k2, k3, k4, -⟩ := KS.get5
  obtain ⟨f0, f1, f2, f3, f4, -⟩ := KF.get5
  go_enter Tryd.func24, Tryd.ntmps24
  go_wp2_with fail
  rw [← hV]
  clear hV
  refine (H1 _).out.mono ?_
  rintro e w1 ⟨rfl, hb⟩
  replace hB := bnext hB hb
  replace KS := KS.next hb
  replace KF := KF.next hb
  replace KG := KG.next hb
  clear hb z0 z1 z2 z3 z4 z5 z6 z7 z8 z9 k0 k1 k2 k3 k4 f0 f1 f2 f3 f4
  obtain ⟨z0, z1, z2, z3, z4, z5, z6, z7, z8, z9, -⟩ := KG.get10
  obtain ⟨k0, k1, k2, k3, k4, -⟩ := KS.get5
  obtain ⟨f0, f1, f2, f3, f4, -⟩ := KF.get5
  go_wp2_with fail
  go_ret2
  exact ⟨rfl, hB⟩
set_option maxHeartbeats 1000000 in
theorem raccept_f2 (lo hi lo2 hi2 : Nat) (h1 : lo < 18446744073709551616) (h2 : hi < 18446744073709551616) (h3 : lo2 < 18446744073709551616) (h4 : hi2 < 18446744073709551616) (ep : Int) (s d : UInt32) (p q : UInt16) (r : UInt8) (sa sb : UInt16) (sq sk : UInt32) (sr sf : UInt8) (sz su : UInt16) (A1 A2 : Option Addr) (n1 c1 n2 c2 : Nat) (H1f : hasB sf 16 = true) (H2f : hasB sf 2 = true) (w : World) :
    Calls Tryd.prog 24 #[.agg #[.int .u64 (lo : Int), .int .u64 (hi : Int), .int .u64 (lo2 : Int), .int .u64 (hi2 : Int), .int .i64 ep], .agg #[.int .u32 (s.toNat : Int), .int .u32 (d.toNat : Int), .int .u16 (p.toNat : Int), .int .u16 (q.toNat : Int), .int .u8 (r.toNat : Int)], .agg #[.int .u16 (sa.toNat : Int), .int .u16 (sb.toNat : Int), .int .u32 (sq.toNat : Int), .int .u32 (sk.toNat : Int), .int .u8 (sr.toNat : Int), .int .u8 (sf.toNat : Int), .int .u16 (sz.toNat : Int), .int .u16 (su.toNat : Int), .slice A1 n1 c1, .slice A2 n2 c2]] w fun e w' => e = .returned (.tuple #[.int .i64 0, .bool false]) ∧ Below w.heap.size w w' := by
  have H1 : ∀ W, Hid (Calls Tryd.prog 49 #[.int .u8 (sf.toNat : Int), .int .i64 16] W fun e w' => e = .returned (.bool true) ∧ Below W.heap.size W w') := fun W => by
    have h := bw (rbit_any sf 16 16 rfl (by decide) (by decide) W)
    rw [bitB_16, H1f] at h
    exact h
  have H2 : ∀ W, Hid (Calls Tryd.prog 49 #[.int .u8 (sf.toNat : Int), .int .i64 2] W fun e w' => e = .returned (.bool true) ∧ Below W.heap.size W w') := fun W => by
    have h := bw (rbit_any sf 2 2 rfl (by decide) (by decide) W)
    rw [bitB_2, H2f] at h
    exact h
  obtain ⟨V, hV⟩ : ∃ V, V = (((w.alloc (.cells #[.int .u64 (lo : Int), .int .u64 (hi : Int), .int .u64 (lo2 : Int), .int .u64 (hi2 : Int), .int .i64 ep] 46)).alloc (.cells #[.int .u32 (s.toNat : Int), .int .u32 (d.toNat : Int), .int .u16 (p.toNat : Int), .int .u16 (q.toNat : Int), .int .u8 (r.toNat : Int)] 28)).alloc (.cells #[.int .u16 (sa.toNat : Int), .int .u16 (sb.toNat : Int), .int .u32 (sq.toNat : Int), .int .u32 (sk.toNat : Int), .int .u8 (sr.toNat : Int), .int .u8 (sf.toNat : Int), .int .u16 (sz.toNat : Int), .int .u16 (su.toNat : Int), .slice A1 n1 c1, .slice A2 n2 c2] 44)) := ⟨_, rfl⟩
  have hB : Below w.heap.size w V := by subst hV; exact (bnextA (bnextA (bnextA (Below.refl _ _) _) _) _)
  have KS : Blk V (w.heap.size) [.int .u64 (lo : Int), .int .u64 (hi : Int), .int .u64 (lo2 : Int), .int .u64 (hi2 : Int), .int .i64 ep] 46 := by subst hV; simpa using ((Blk.new w #[.int .u64 (lo : Int), .int .u64 (hi : Int), .int .u64 (lo2 : Int), .int .u64 (hi2 : Int), .int .i64 ep] 46).alloc (.cells #[.int .u32 (s.toNat : Int), .int .u32 (d.toNat : Int), .int .u16 (p.toNat : Int), .int .u16 (q.toNat : Int), .int .u8 (r.toNat : Int)] 28)).alloc (.cells #[.int .u16 (sa.toNat : Int), .int .u16 (sb.toNat : Int), .int .u32 (sq.toNat : Int), .int .u32 (sk.toNat : Int), .int .u8 (sr.toNat : Int), .int .u8 (sf.toNat : Int), .int .u16 (sz.toNat : Int), .int .u16 (su.toNat : Int), .slice A1 n1 c1, .slice A2 n2 c2] 44)
  have KF : Blk V (w.heap.size + 1) [.int .u32 (s.toNat : Int), .int .u32 (d.toNat : Int), .int .u16 (p.toNat : Int), .int .u16 (q.toNat : Int), .int .u8 (r.toNat : Int)] 28 := by subst hV; simpa using (Blk.new (w.alloc (.cells #[.int .u64 (lo : Int), .int .u64 (hi : Int), .int .u64 (lo2 : Int), .int .u64 (hi2 : Int), .int .i64 ep] 46)) #[.int .u32 (s.toNat : Int), .int .u32 (d.toNat : Int), .int .u16 (p.toNat : Int), .int .u16 (q.toNat : Int), .int .u8 (r.toNat : Int)] 28).alloc (.cells #[.int .u16 (sa.toNat : Int), .int .u16 (sb.toNat : Int), .int .u32 (sq.toNat : Int), .int .u32 (sk.toNat : Int), .int .u8 (sr.toNat : Int), .int .u8 (sf.toNat : Int), .int .u16 (sz.toNat : Int), .int .u16 (su.toNat : Int), .slice A1 n1 c1, .slice A2 n2 c2] 44)
  have KG : Blk V (w.heap.size + 2) [.int .u16 (sa.toNat : Int), .int .u16 (sb.toNat : Int), .int .u32 (sq.toNat : Int), .int .u32 (sk.toNat : Int), .int .u8 (sr.toNat : Int), .int .u8 (sf.toNat : Int), .int .u16 (sz.toNat : Int), .int .u16 (su.toNat : Int), .slice A1 n1 c1, .slice A2 n2 c2] 44 := by subst hV; simpa using Blk.new ((w.alloc (.cells #[.int .u64 (lo : Int), .int .u64 (hi : Int), .int .u64 (lo2 : Int), .int .u64 (hi2 : Int), .int .i64 ep] 46)).alloc (.cells #[.int .u32 (s.toNat : Int), .int .u32 (d.toNat : Int), .int .u16 (p.toNat : Int), .int .u16 (q.toNat : Int), .int .u8 (r.toNat : Int)] 28)) #[.int .u16 (sa.toNat : Int), .int .u16 (sb.toNat : Int), .int .u32 (sq.toNat : Int), .int .u32 (sk.toNat : Int), .int .u8 (sr.toNat : Int), .int .u8 (sf.toNat : Int), .int .u16 (sz.toNat : Int), .int .u16 (su.toNat : Int), .slice A1 n1 c1, .slice A2 n2 c2] 44
  obtain ⟨z0, z1, z2, z3, z4, z5, z6, z7, z8, z9, -⟩ := KG.get10
  obtain ⟨k0, k1, k2, k3, k4, -⟩ := KS.get5
  obtain ⟨f0, f1, f2, f3, f4, -⟩ := KF.get5
  go_enter Tryd.func24, Tryd.ntmps24
  go_wp2_with fail
  rw [← hV]
  clear hV
  refine (H1 _).out.mono ?_
  rintro e w1 ⟨rfl, hb⟩
  replace hB := bnext hB hb
  replace KS := KS.next hb
  replace KF := KF.next hb
  replace KG := KG.next hb
  clear hb z0 z1 z2 z3 z4 z5 z6 z7 z8 z9 k0 k1 k2 k3 k4 f0 f1 f2 f3 f4
  obtain ⟨z0, z1, z2, z3, z4, z5, z6, z7, z8, z9, -⟩ := KG.get10
  obtain ⟨k0, k1, k2, k3, k4, -⟩ := KS.get5
  obtain ⟨f0, f1, f2, f3, f4, -⟩ := KF.get5
  go_wp2_with fail
  refine (H2 _).out.mono ?_
  rintro e w1 ⟨rfl, hb⟩
  replace hB := bnext hB hb
  replace KS := KS.next hb
  replace KF := KF.next hb
  replace KG := KG.next hb
  clear hb z0 z1 z2 z3 z4 z5 z6 z7 z8 z9 k0 k1 k2 k3 k4 f0 f1 f2 f3 f4
  obtain ⟨z0, z1, z2, z3, z4, z5, z6, z7, z8, z9, -⟩ := KG.get10
  obtain ⟨k0, k1, k2, k3, k4, -⟩ := KS.get5
  obtain ⟨f0, f1, f2, f3, f4, -⟩ := KF.get5
  go_wp2_with fail
  go_ret2
  exact ⟨rfl, hB⟩
set_option maxHeartbeats 1000000 in
theorem raccept_f4 (lo hi lo2 hi2 : Nat) (h1 : lo < 18446744073709551616) (h2 : hi < 18446744073709551616) (h3 : lo2 < 18446744073709551616) (h4 : hi2 < 18446744073709551616) (ep : Int) (s d : UInt32) (p q : UInt16) (r : UInt8) (sa sb : UInt16) (sq sk : UInt32) (sr sf : UInt8) (sz su : UInt16) (A1 A2 : Option Addr) (n1 c1 n2 c2 : Nat) (H1f : hasB sf 16 = true) (H2f : hasB sf 2 = false) (H3f : hasB sf 4 = true) (w : World) :
    Calls Tryd.prog 24 #[.agg #[.int .u64 (lo : Int), .int .u64 (hi : Int), .int .u64 (lo2 : Int), .int .u64 (hi2 : Int), .int .i64 ep], .agg #[.int .u32 (s.toNat : Int), .int .u32 (d.toNat : Int), .int .u16 (p.toNat : Int), .int .u16 (q.toNat : Int), .int .u8 (r.toNat : Int)], .agg #[.int .u16 (sa.toNat : Int), .int .u16 (sb.toNat : Int), .int .u32 (sq.toNat : Int), .int .u32 (sk.toNat : Int), .int .u8 (sr.toNat : Int), .int .u8 (sf.toNat : Int), .int .u16 (sz.toNat : Int), .int .u16 (su.toNat : Int), .slice A1 n1 c1, .slice A2 n2 c2]] w fun e w' => e = .returned (.tuple #[.int .i64 0, .bool false]) ∧ Below w.heap.size w w' := by
  have H1 : ∀ W, Hid (Calls Tryd.prog 49 #[.int .u8 (sf.toNat : Int), .int .i64 16] W fun e w' => e = .returned (.bool true) ∧ Below W.heap.size W w') := fun W => by
    have h := bw (rbit_any sf 16 16 rfl (by decide) (by decide) W)
    rw [bitB_16, H1f] at h
    exact h
  have H2 : ∀ W, Hid (Calls Tryd.prog 49 #[.int .u8 (sf.toNat : Int), .int .i64 2] W fun e w' => e = .returned (.bool false) ∧ Below W.heap.size W w') := fun W => by
    have h := bw (rbit_any sf 2 2 rfl (by decide) (by decide) W)
    rw [bitB_2, H2f] at h
    exact h
  have H3 : ∀ W, Hid (Calls Tryd.prog 49 #[.int .u8 (sf.toNat : Int), .int .i64 4] W fun e w' => e = .returned (.bool true) ∧ Below W.heap.size W w') := fun W => by
    have h := bw (rbit_any sf 4 4 rfl (by decide) (by decide) W)
    rw [bitB_4, H3f] at h
    exact h
  obtain ⟨V, hV⟩ : ∃ V, V = (((w.alloc (.cells #[.int .u64 (lo : Int), .int .u64 (hi : Int), .int .u64 (lo2 : Int), .int .u64 (hi2 : Int), .int .i64 ep] 46)).alloc (.cells #[.int .u32 (s.toNat : Int), .int .u32 (d.toNat : Int), .int .u16 (p.toNat : Int), .int .u16 (q.toNat : Int), .int .u8 (r.toNat : Int)] 28)).alloc (.cells #[.int .u16 (sa.toNat : Int), .int .u16 (sb.toNat : Int), .int .u32 (sq.toNat : Int), .int .u32 (sk.toNat : Int), .int .u8 (sr.toNat : Int), .int .u8 (sf.toNat : Int), .int .u16 (sz.toNat : Int), .int .u16 (su.toNat : Int), .slice A1 n1 c1, .slice A2 n2 c2] 44)) := ⟨_, rfl⟩
  have hB : Below w.heap.size w V := by subst hV; exact (bnextA (bnextA (bnextA (Below.refl _ _) _) _) _)
  have KS : Blk V (w.heap.size) [.int .u64 (lo : Int), .int .u64 (hi : Int), .int .u64 (lo2 : Int), .int .u64 (hi2 : Int), .int .i64 ep] 46 := by subst hV; simpa using ((Blk.new w #[.int .u64 (lo : Int), .int .u64 (hi : Int), .int .u64 (lo2 : Int), .int .u64 (hi2 : Int), .int .i64 ep] 46).alloc (.cells #[.int .u32 (s.toNat : Int), .int .u32 (d.toNat : Int), .int .u16 (p.toNat : Int), .int .u16 (q.toNat : Int), .int .u8 (r.toNat : Int)] 28)).alloc (.cells #[.int .u16 (sa.toNat : Int), .int .u16 (sb.toNat : Int), .int .u32 (sq.toNat : Int), .int .u32 (sk.toNat : Int), .int .u8 (sr.toNat : Int), .int .u8 (sf.toNat : Int), .int .u16 (sz.toNat : Int), .int .u16 (su.toNat : Int), .slice A1 n1 c1, .slice A2 n2 c2] 44)
  have KF : Blk V (w.heap.size + 1) [.int .u32 (s.toNat : Int), .int .u32 (d.toNat : Int), .int .u16 (p.toNat : Int), .int .u16 (q.toNat : Int), .int .u8 (r.toNat : Int)] 28 := by subst hV; simpa using (Blk.new (w.alloc (.cells #[.int .u64 (lo : Int), .int .u64 (hi : Int), .int .u64 (lo2 : Int), .int .u64 (hi2 : Int), .int .i64 ep] 46)) #[.int .u32 (s.toNat : Int), .int .u32 (d.toNat : Int), .int .u16 (p.toNat : Int), .int .u16 (q.toNat : Int), .int .u8 (r.toNat : Int)] 28).alloc (.cells #[.int .u16 (sa.toNat : Int), .int .u16 (sb.toNat : Int), .int .u32 (sq.toNat : Int), .int .u32 (sk.toNat : Int), .int .u8 (sr.toNat : Int), .int .u8 (sf.toNat : Int), .int .u16 (sz.toNat : Int), .int .u16 (su.toNat : Int), .slice A1 n1 c1, .slice A2 n2 c2] 44)
  have KG : Blk V (w.heap.size + 2) [.int .u16 (sa.toNat : Int), .int .u16 (sb.toNat : Int), .int .u32 (sq.toNat : Int), .int .u32 (sk.toNat : Int), .int .u8 (sr.toNat : Int), .int .u8 (sf.toNat : Int), .int .u16 (sz.toNat : Int), .int .u16 (su.toNat : Int), .slice A1 n1 c1, .slice A2 n2 c2] 44 := by subst hV; simpa using Blk.new ((w.alloc (.cells #[.int .u64 (lo : Int), .int .u64 (hi : Int), .int .u64 (lo2 : Int), .int .u64 (hi2 : Int), .int .i64 ep] 46)).alloc (.cells #[.int .u32 (s.toNat : Int), .int .u32 (d.toNat : Int), .int .u16 (p.toNat : Int), .int .u16 (q.toNat : Int), .int .u8 (r.toNat : Int)] 28)) #[.int .u16 (sa.toNat : Int), .int .u16 (sb.toNat : Int), .int .u32 (sq.toNat : Int), .int .u32 (sk.toNat : Int), .int .u8 (sr.toNat : Int), .int .u8 (sf.toNat : Int), .int .u16 (sz.toNat : Int), .int .u16 (su.toNat : Int), .slice A1 n1 c1, .slice A2 n2 c2] 44
  obtain ⟨z0, z1, z2, z3, z4, z5, z6, z7, z8, z9, -⟩ := KG.get10
  obtain ⟨k0, k1, k2, k3, k4, -⟩ := KS.get5
  obtain ⟨f0, f1, f2, f3, f4, -⟩ := KF.get5
  go_enter Tryd.func24, Tryd.ntmps24
  go_wp2_with fail
  rw [← hV]
  clear hV
  refine (H1 _).out.mono ?_
  rintro e w1 ⟨rfl, hb⟩
  replace hB := bnext hB hb
  replace KS := KS.next hb
  replace KF := KF.next hb
  replace KG := KG.next hb
  clear hb z0 z1 z2 z3 z4 z5 z6 z7 z8 z9 k0 k1 k2 k3 k4 f0 f1 f2 f3 f4
  obtain ⟨z0, z1, z2, z3, z4, z5, z6, z7, z8, z9, -⟩ := KG.get10
  obtain ⟨k0, k1, k2, k3, k4, -⟩ := KS.get5
  obtain ⟨f0, f1, f2, f3, f4, -⟩ := KF.get5
  go_wp2_with fail
  refine (H2 _).out.mono ?_
  rintro e w1 ⟨rfl, hb⟩
  replace hB := bnext hB hb
  replace KS := KS.next hb
  replace KF := KF.next hb
  replace KG := KG.next hb
  clear hb z0 z1 z2 z3 z4 z5 z6 z7 z8 z9 k0 k1 k2 k3 k4 f0 f1 f2 f3 f4
  obtain ⟨z0, z1, z2, z3, z4, z5, z6, z7, z8, z9, -⟩ := KG.get10
  obtain ⟨k0, k1, k2, k3, k4, -⟩ := KS.get5
  obtain ⟨f0, f1, f2, f3, f4, -⟩ := KF.get5
  go_wp2_with fail
  refine (H3 _).out.mono ?_
  rintro e w1 ⟨rfl, hb⟩
  replace hB := bnext hB hb
  replace KS := KS.next hb
  replace KF := KF.next hb
  replace KG := KG.next hb
  clear hb z0 z1 z2 z3 z4 z5 z6 z7 z8 z9 k0 k1 k2 k3 k4 f0 f1 f2 f3 f4
  obtain ⟨z0, z1, z2, z3, z4, z5, z6, z7, z8, z9, -⟩ := KG.get10
  obtain ⟨k0, k1, k2, k3, k4, -⟩ := KS.get5
  obtain ⟨f0, f1, f2, f3, f4, -⟩ := KF.get5
  go_wp2_with fail
  go_ret2
  exact ⟨rfl, hB⟩
set_option maxHeartbeats 1000000 in
theorem raccept_r (lo hi lo2 hi2 : Nat) (h1 : lo < 18446744073709551616) (h2 : hi < 18446744073709551616) (h3 : lo2 < 18446744073709551616) (h4 : hi2 < 18446744073709551616) (ep : Int) (s d : UInt32) (p q : UInt16) (r : UInt8) (sa sb : UInt16) (sq sk : UInt32) (sr sf : UInt8) (sz su : UInt16) (A1 A2 : Option Addr) (n1 c1 n2 c2 : Nat) (H1f : hasB sf 16 = true) (H2f : hasB sf 2 = false) (H3f : hasB sf 4 = false) (sq0 : UInt32) (hq0 : ((sq.toNat : Int) - 1) % 4294967296 = (sq0.toNat : Int)) (y : Nat) (hy : ((sk.toNat : Int) - 1) % 4294967296 = (y : Int)) (hyl : y < 4294967296) (hep : ep ≤ 9223372036854775807) (b : Bool) (hbf : b = false) (hb0 : Hid (rightB lo hi lo2 hi2 ep (ckB s d p q r sq0) y = b)) (w : World) :
    Calls Tryd.prog 24 #[.agg #[.int .u64 (lo : Int), .int .u64 (hi : Int), .int .u64 (lo2 : Int), .int .u64 (hi2 : Int), .int .i64 ep], .agg #[.int .u32 (s.toNat : Int), .int .u32 (d.toNat : Int), .int .u16 (p.toNat : Int), .int .u16 (q.toNat : Int), .int .u8 (r.toNat : Int)], .agg #[.int .u16 (sa.toNat : Int), .int .u16 (sb.toNat : Int), .int .u32 (sq.toNat : Int), .int .u32 (sk.toNat : Int), .int .u8 (sr.toNat : Int), .int .u8 (sf.toNat : Int), .int .u16 (sz.toNat : Int), .int .u16 (su.toNat : Int), .slice A1 n1 c1, .slice A2 n2 c2]] w fun e w' => e = .returned (.tuple #[.int .i64 0, .bool false]) ∧ Below w.heap.size w w' := by
  have H1 : ∀ W, Hid (Calls Tryd.prog 49 #[.int .u8 (sf.toNat : Int), .int .i64 16] W fun e w' => e = .returned (.bool true) ∧ Below W.heap.size W w') := fun W => by
    have h := bw (rbit_any sf 16 16 rfl (by decide) (by decide) W)
    rw [bitB_16, H1f] at h
    exact h
  have H2 : ∀ W, Hid (Calls Tryd.prog 49 #[.int .u8 (sf.toNat : Int), .int .i64 2] W fun e w' => e = .returned (.bool false) ∧ Below W.heap.size W w') := fun W => by
    have h := bw (rbit_any sf 2 2 rfl (by decide) (by decide) W)
    rw [bitB_2, H2f] at h
    exact h
  have H3 : ∀ W, Hid (Calls Tryd.prog 49 #[.int .u8 (sf.toNat : Int), .int .i64 4] W fun e w' => e = .returned (.bool false) ∧ Below W.heap.size W w') := fun W => by
    have h := bw (rbit_any sf 4 4 rfl (by decide) (by decide) W)
    rw [bitB_4, H3f] at h
    exact h
  have e1 : ((sq.toNat : Int) - 1) % 4294967296 = (sq0.toNat : Int) := hq0
  have e2 : ((sk.toNat : Int) - 1) % 4294967296 = (y : Int) := hy
  have HRT := fun W => Lib.hid (rright_any lo hi lo2 hi2 h1 h2 h3 h4 ep hep s d p q r sq0 y hyl b hb0 W)
  clear hq0 hy hb0 hep
  subst hbf
  obtain ⟨V, hV⟩ : ∃ V, V = (((w.alloc (.cells #[.int .u64 (lo : Int), .int .u64 (hi : Int), .int .u64 (lo2 : Int), .int .u64 (hi2 : Int), .int .i64 ep] 46)).alloc (.cells #[.int .u32 (s.toNat : Int), .int .u32 (d.toNat : Int), .int .u16 (p.toNat : Int), .int .u16 (q.toNat : Int), .int .u8 (r.toNat : Int)] 28)).alloc (.cells #[.int .u16 (sa.toNat : Int), .int .u16 (sb.toNat : Int), .int .u32 (sq.toNat : Int), .int .u32 (sk.toNat : Int), .int .u8 (sr.toNat : Int), .int .u8 (sf.toNat : Int), .int .u16 (sz.toNat : Int), .int .u16 (su.toNat : Int), .slice A1 n1 c1, .slice A2 n2 c2] 44)) := ⟨_, rfl⟩
  have hB : Below w.heap.size w V := by subst hV; exact (bnextA (bnextA (bnextA (Below.refl _ _) _) _) _)
  have KS : Blk V (w.heap.size) [.int .u64 (lo : Int), .int .u64 (hi : Int), .int .u64 (lo2 : Int), .int .u64 (hi2 : Int), .int .i64 ep] 46 := by subst hV; simpa using ((Blk.new w #[.int .u64 (lo : Int), .int .u64 (hi : Int), .int .u64 (lo2 : Int), .int .u64 (hi2 : Int), .int .i64 ep] 46).alloc (.cells #[.int .u32 (s.toNat : Int), .int .u32 (d.toNat : Int), .int .u16 (p.toNat : Int), .int .u16 (q.toNat : Int), .int .u8 (r.toNat : Int)] 28)).alloc (.cells #[.int .u16 (sa.toNat : Int), .int .u16 (sb.toNat : Int), .int .u32 (sq.toNat : Int), .int .u32 (sk.toNat : Int), .int .u8 (sr.toNat : Int), .int .u8 (sf.toNat : Int), .int .u16 (sz.toNat : Int), .int .u16 (su.toNat : Int), .slice A1 n1 c1, .slice A2 n2 c2] 44)
  have KF : Blk V (w.heap.size + 1) [.int .u32 (s.toNat : Int), .int .u32 (d.toNat : Int), .int .u16 (p.toNat : Int), .int .u16 (q.toNat : Int), .int .u8 (r.toNat : Int)] 28 := by subst hV; simpa using (Blk.new (w.alloc (.cells #[.int .u64 (lo : Int), .int .u64 (hi : Int), .int .u64 (lo2 : Int), .int .u64 (hi2 : Int), .int .i64 ep] 46)) #[.int .u32 (s.toNat : Int), .int .u32 (d.toNat : Int), .int .u16 (p.toNat : Int), .int .u16 (q.toNat : Int), .int .u8 (r.toNat : Int)] 28).alloc (.cells #[.int .u16 (sa.toNat : Int), .int .u16 (sb.toNat : Int), .int .u32 (sq.toNat : Int), .int .u32 (sk.toNat : Int), .int .u8 (sr.toNat : Int), .int .u8 (sf.toNat : Int), .int .u16 (sz.toNat : Int), .int .u16 (su.toNat : Int), .slice A1 n1 c1, .slice A2 n2 c2] 44)
  have KG : Blk V (w.heap.size + 2) [.int .u16 (sa.toNat : Int), .int .u16 (sb.toNat : Int), .int .u32 (sq.toNat : Int), .int .u32 (sk.toNat : Int), .int .u8 (sr.toNat : Int), .int .u8 (sf.toNat : Int), .int .u16 (sz.toNat : Int), .int .u16 (su.toNat : Int), .slice A1 n1 c1, .slice A2 n2 c2] 44 := by subst hV; simpa using Blk.new ((w.alloc (.cells #[.int .u64 (lo : Int), .int .u64 (hi : Int), .int .u64 (lo2 : Int), .int .u64 (hi2 : Int), .int .i64 ep] 46)).alloc (.cells #[.int .u32 (s.toNat : Int), .int .u32 (d.toNat : Int), .int .u16 (p.toNat : Int), .int .u16 (q.toNat : Int), .int .u8 (r.toNat : Int)] 28)) #[.int .u16 (sa.toNat : Int), .int .u16 (sb.toNat : Int), .int .u32 (sq.toNat : Int), .int .u32 (sk.toNat : Int), .int .u8 (sr.toNat : Int), .int .u8 (sf.toNat : Int), .int .u16 (sz.toNat : Int), .int .u16 (su.toNat : Int), .slice A1 n1 c1, .slice A2 n2 c2] 44
  obtain ⟨z0, z1, z2, z3, z4, z5, z6, z7, z8, z9, -⟩ := KG.get10
  obtain ⟨k0, k1, k2, k3, k4, -⟩ := KS.get5
  obtain ⟨f0, f1, f2, f3, f4, -⟩ := KF.get5
  go_enter Tryd.func24, Tryd.ntmps24
  go_wp2_with fail
  rw [← hV]
  clear hV
  refine (H1 _).out.mono ?_
  rintro e w1 ⟨rfl, hb⟩
  replace hB := bnext hB hb
  replace KS := KS.next hb
  replace KF := KF.next hb
  replace KG := KG.next hb
  clear hb z0 z1 z2 z3 z4 z5 z6 z7 z8 z9 k0 k1 k2 k3 k4 f0 f1 f2 f3 f4
  obtain ⟨z0, z1, z2, z3, z4, z5, z6, z7, z8, z9, -⟩ := KG.get10
  obtain ⟨k0, k1, k2, k3, k4, -⟩ := KS.get5
  obtain ⟨f0, f1, f2, f3, f4, -⟩ := KF.get5
  go_wp2_with fail
  refine (H2 _).out.mono ?_
  rintro e w1 ⟨rfl, hb⟩
  replace hB := bnext hB hb
  replace KS := KS.next hb
  replace KF := KF.next hb
  replace KG := KG.next hb
  clear hb z0 z1 z2 z3 z4 z5 z6 z7 z8 z9 k0 k1 k2 k3 k4 f0 f1 f2 f3 f4
  obtain ⟨z0, z1, z2, z3, z4, z5, z6, z7, z8, z9, -⟩ := KG.get10
  obtain ⟨k0, k1, k2, k3, k4, -⟩ := KS.get5
  obtain ⟨f0, f1, f2, f3, f4, -⟩ := KF.get5
  go_wp2_with fail
  refine (H3 _).out.mono ?_
  rintro e w1 ⟨rfl, hb⟩
  replace hB := bnext hB hb
  replace KS := KS.next hb
  replace KF := KF.next hb
  replace KG := KG.next hb
  clear hb z0 z1 z2 z3 z4 z5 z6 z7 z8 z9 k0 k1 k2 k3 k4 f0 f1 f2 f3 f4
  obtain ⟨z0, z1, z2, z3, z4, z5, z6, z7, z8, z9, -⟩ := KG.get10
  obtain ⟨k0, k1, k2, k3, k4, -⟩ := KS.get5
  obtain ⟨f0, f1, f2, f3, f4, -⟩ := KF.get5
  go_wp2_with fail
  refine (HRT _).out.mono ?_
  rintro e w1 ⟨rfl, hb⟩
  replace hB := bnext hB hb
  replace KS := KS.next hb
  replace KF := KF.next hb
  replace KG := KG.next hb
  clear hb z0 z1 z2 z3 z4 z5 z6 z7 z8 z9 k0 k1 k2 k3 k4 f0 f1 f2 f3 f4
  obtain ⟨z0, z1, z2, z3, z4, z5, z6, z7, z8, z9, -⟩ := KG.get10
  obtain ⟨k0, k1, k2, k3, k4, -⟩ := KS.get5
  obtain ⟨f0, f1, f2, f3, f4, -⟩ := KF.get5
  go_wp2_with fail
  go_ret2
  exact ⟨rfl, hB⟩
set_option maxHeartbeats 1000000 in
theorem raccept_ok (lo hi lo2 hi2 : Nat) (h1 : lo < 18446744073709551616) (h2 : hi < 18446744073709551616) (h3 : lo2 < 18446744073709551616) (h4 : hi2 < 18446744073709551616) (ep : Int) (s d : UInt32) (p q : UInt16) (r : UInt8) (sa sb : UInt16) (sq sk : UInt32) (sr sf : UInt8) (sz su : UInt16) (A1 A2 : Option Addr) (n1 c1 n2 c2 : Nat) (H1f : hasB sf 16 = true) (H2f : hasB sf 2 = false) (H3f : hasB sf 4 = false) (sq0 : UInt32) (hq0 : ((sq.toNat : Int) - 1) % 4294967296 = (sq0.toNat : Int)) (y : Nat) (hy : ((sk.toNat : Int) - 1) % 4294967296 = (y : Int)) (hyl : y < 4294967296) (hep : ep ≤ 9223372036854775807) (b : Bool) (hbf : b = true) (hb0 : Hid (rightB lo hi lo2 hi2 ep (ckB s d p q r sq0) y = b)) (w : World) :
    Calls Tryd.prog 24 #[.agg #[.int .u64 (lo : Int), .int .u64 (hi : Int), .int .u64 (lo2 : Int), .int .u64 (hi2 : Int), .int .i64 ep], .agg #[.int .u32 (s.toNat : Int), .int .u32 (d.toNat : Int), .int .u16 (p.toNat : Int), .int .u16 (q.toNat : Int), .int .u8 (r.toNat : Int)], .agg #[.int .u16 (sa.toNat : Int), .int .u16 (sb.toNat : Int), .int .u32 (sq.toNat : Int), .int .u32 (sk.toNat : Int), .int .u8 (sr.toNat : Int), .int .u8 (sf.toNat : Int), .int .u16 (sz.toNat : Int), .int .u16 (su.toNat : Int), .slice A1 n1 c1, .slice A2 n2 c2]] w fun e w' => e = .returned (.tuple #[.int .i64 ((y / 16777216 % 8 : Nat) : Int), .bool true]) ∧ Below w.heap.size w w' := by
  have H1 : ∀ W, Hid (Calls Tryd.prog 49 #[.int .u8 (sf.toNat : Int), .int .i64 16] W fun e w' => e = .returned (.bool true) ∧ Below W.heap.size W w') := fun W => by
    have h := bw (rbit_any sf 16 16 rfl (by decide) (by decide) W)
    rw [bitB_16, H1f] at h
    exact h
  have H2 : ∀ W, Hid (Calls Tryd.prog 49 #[.int .u8 (sf.toNat : Int), .int .i64 2] W fun e w' => e = .returned (.bool false) ∧ Below W.heap.size W w') := fun W => by
    have h := bw (rbit_any sf 2 2 rfl (by decide) (by decide) W)
    rw [bitB_2, H2f] at h
    exact h
  have H3 : ∀ W, Hid (Calls Tryd.prog 49 #[.int .u8 (sf.toNat : Int), .int .i64 4] W fun e w' => e = .returned (.bool false) ∧ Below W.heap.size W w') := fun W => by
    have h := bw (rbit_any sf 4 4 rfl (by decide) (by decide) W)
    rw [bitB_4, H3f] at h
    exact h
  have e1 : ((sq.toNat : Int) - 1) % 4294967296 = (sq0.toNat : Int) := hq0
  have e2 : ((sk.toNat : Int) - 1) % 4294967296 = (y : Int) := hy
  have HRT := fun W => Lib.hid (rright_any lo hi lo2 hi2 h1 h2 h3 h4 ep hep s d p q r sq0 y hyl b hb0 W)
  clear hq0 hy hb0 hep
  subst hbf
  obtain ⟨V, hV⟩ : ∃ V, V = (((w.alloc (.cells #[.int .u64 (lo : Int), .int .u64 (hi : Int), .int .u64 (lo2 : Int), .int .u64 (hi2 : Int), .int .i64 ep] 46)).alloc (.cells #[.int .u32 (s.toNat : Int), .int .u32 (d.toNat : Int), .int .u16 (p.toNat : Int), .int .u16 (q.toNat : Int), .int .u8 (r.toNat : Int)] 28)).alloc (.cells #[.int .u16 (sa.toNat : Int), .int .u16 (sb.toNat : Int), .int .u32 (sq.toNat : Int), .int .u32 (sk.toNat : Int), .int .u8 (sr.toNat : Int), .int .u8 (sf.toNat : Int), .int .u16 (sz.toNat : Int), .int .u16 (su.toNat : Int), .slice A1 n1 c1, .slice A2 n2 c2] 44)) := ⟨_, rfl⟩
  have hB : Below w.heap.size w V := by subst hV; exact (bnextA (bnextA (bnextA (Below.refl _ _) _) _) _)
  have KS : Blk V (w.heap.size) [.int .u64 (lo : Int), .int .u64 (hi : Int), .int .u64 (lo2 : Int), .int .u64 (hi2 : Int), .int .i64 ep] 46 := by subst hV; simpa using ((Blk.new w #[.int .u64 (lo : Int), .int .u64 (hi : Int), .int .u64 (lo2 : Int), .int .u64 (hi2 : Int), .int .i64 ep] 46).alloc (.cells #[.int .u32 (s.toNat : Int), .int .u32 (d.toNat : Int), .int .u16 (p.toNat : Int), .int .u16 (q.toNat : Int), .int .u8 (r.toNat : Int)] 28)).alloc (.cells #[.int .u16 (sa.toNat : Int), .int .u16 (sb.toNat : Int), .int .u32 (sq.toNat : Int), .int .u32 (sk.toNat : Int), .int .u8 (sr.toNat : Int), .int .u8 (sf.toNat : Int), .int .u16 (sz.toNat : Int), .int .u16 (su.toNat : Int), .slice A1 n1 c1, .slice A2 n2 c2] 44)
  have KF : Blk V (w.heap.size + 1) [.int .u32 (s.toNat : Int), .int .u32 (d.toNat : Int), .int .u16 (p.toNat : Int), .int .u16 (q.toNat : Int), .int .u8 (r.toNat : Int)] 28 := by subst hV; simpa using (Blk.new (w.alloc (.cells #[.int .u64 (lo : Int), .int .u64 (hi : Int), .int .u64 (lo2 : Int), .int .u64 (hi2 : Int), .int .i64 ep] 46)) #[.int .u32 (s.toNat : Int), .int .u32 (d.toNat : Int), .int .u16 (p.toNat : Int), .int .u16 (q.toNat : Int), .int .u8 (r.toNat : Int)] 28).alloc (.cells #[.int .u16 (sa.toNat : Int), .int .u16 (sb.toNat : Int), .int .u32 (sq.toNat : Int), .int .u32 (sk.toNat : Int), .int .u8 (sr.toNat : Int), .int .u8 (sf.toNat : Int), .int .u16 (sz.toNat : Int), .int .u16 (su.toNat : Int), .slice A1 n1 c1, .slice A2 n2 c2] 44)
  have KG : Blk V (w.heap.size + 2) [.int .u16 (sa.toNat : Int), .int .u16 (sb.toNat : Int), .int .u32 (sq.toNat : Int), .int .u32 (sk.toNat : Int), .int .u8 (sr.toNat : Int), .int .u8 (sf.toNat : Int), .int .u16 (sz.toNat : Int), .int .u16 (su.toNat : Int), .slice A1 n1 c1, .slice A2 n2 c2] 44 := by subst hV; simpa using Blk.new ((w.alloc (.cells #[.int .u64 (lo : Int), .int .u64 (hi : Int), .int .u64 (lo2 : Int), .int .u64 (hi2 : Int), .int .i64 ep] 46)).alloc (.cells #[.int .u32 (s.toNat : Int), .int .u32 (d.toNat : Int), .int .u16 (p.toNat : Int), .int .u16 (q.toNat : Int), .int .u8 (r.toNat : Int)] 28)) #[.int .u16 (sa.toNat : Int), .int .u16 (sb.toNat : Int), .int .u32 (sq.toNat : Int), .int .u32 (sk.toNat : Int), .int .u8 (sr.toNat : Int), .int .u8 (sf.toNat : Int), .int .u16 (sz.toNat : Int), .int .u16 (su.toNat : Int), .slice A1 n1 c1, .slice A2 n2 c2] 44
  obtain ⟨z0, z1, z2, z3, z4, z5, z6, z7, z8, z9, -⟩ := KG.get10
  obtain ⟨k0, k1, k2, k3, k4, -⟩ := KS.get5
  obtain ⟨f0, f1, f2, f3, f4, -⟩ := KF.get5
  go_enter Tryd.func24, Tryd.ntmps24
  go_wp2_with fail
  rw [← hV]
  clear hV
  refine (H1 _).out.mono ?_
  rintro e w1 ⟨rfl, hb⟩
  replace hB := bnext hB hb
  replace KS := KS.next hb
  replace KF := KF.next hb
  replace KG := KG.next hb
  clear hb z0 z1 z2 z3 z4 z5 z6 z7 z8 z9 k0 k1 k2 k3 k4 f0 f1 f2 f3 f4
  obtain ⟨z0, z1, z2, z3, z4, z5, z6, z7, z8, z9, -⟩ := KG.get10
  obtain ⟨k0, k1, k2, k3, k4, -⟩ := KS.get5
  obtain ⟨f0, f1, f2, f3, f4, -⟩ := KF.get5
  go_wp2_with fail
  refine (H2 _).out.mono ?_
  rintro e w1 ⟨rfl, hb⟩
  replace hB := bnext hB hb
  replace KS := KS.next hb
  replace KF := KF.next hb
  replace KG := KG.next hb
  clear hb z0 z1 z2 z3 z4 z5 z6 z7 z8 z9 k0 k1 k2 k3 k4 f0 f1 f2 f3 f4
  obtain ⟨z0, z1, z2, z3, z4, z5, z6, z7, z8, z9, -⟩ := KG.get10
  obtain ⟨k0, k1, k2, k3, k4, -⟩ := KS.get5
  obtain ⟨f0, f1, f2, f3, f4, -⟩ := KF.get5
  go_wp2_with fail
  refine (H3 _).out.mono ?_
  rintro e w1 ⟨rfl, hb⟩
  replace hB := bnext hB hb
  replace KS := KS.next hb
  replace KF := KF.next hb
  replace KG := KG.next hb
  clear hb z0 z1 z2 z3 z4 z5 z6 z7 z8 z9 k0 k1 k2 k3 k4 f0 f1 f2 f3 f4
  obtain ⟨z0, z1, z2, z3, z4, z5, z6, z7, z8, z9, -⟩ := KG.get10
  obtain ⟨k0, k1, k2, k3, k4, -⟩ := KS.get5
  obtain ⟨f0, f1, f2, f3, f4, -⟩ := KF.get5
  go_wp2_with fail
  refine (HRT _).out.mono ?_
  rintro e w1 ⟨rfl, hb⟩
  replace hB := bnext hB hb
  replace KS := KS.next hb
  replace KF := KF.next hb
  replace KG := KG.next hb
  clear hb z0 z1 z2 z3 z4 z5 z6 z7 z8 z9 k0 k1 k2 k3 k4 f0 f1 f2 f3 f4
  obtain ⟨z0, z1, z2, z3, z4, z5, z6, z7, z8, z9, -⟩ := KG.get10
  obtain ⟨k0, k1, k2, k3, k4, -⟩ := KS.get5
  obtain ⟨f0, f1, f2, f3, f4, -⟩ := KF.get5
  go_wp2_with fail
  simp [bodyPost, results, Tryd.results24, go_sem]
  exact hB
theorem accept_both (lo hi lo2 hi2 : Nat) (h1 : lo < 18446744073709551616) (h2 : hi < 18446744073709551616) (h3 : lo2 < 18446744073709551616) (h4 : hi2 < 18446744073709551616) (ep : Int) (s d : UInt32) (p q : UInt16) (r : UInt8) (sa sb : UInt16) (sq sk : UInt32) (sr sf : UInt8) (sz su : UInt16) (A1 A2 : Option Addr) (n1 c1 n2 c2 : Nat) (hep : ep ≤ 9223372036854775807) : ∃ (I : Nat) (b : Bool), (∀ W, Hid (Calls Tryd.prog 23 #[.agg #[.int .u64 (lo : Int), .int .u64 (hi : Int), .int .u64 (lo2 : Int), .int .u64 (hi2 : Int), .int .i64 ep], .agg #[.int .u32 (s.toNat : Int), .int .u32 (d.toNat : Int), .int .u16 (p.toNat : Int), .int .u16 (q.toNat : Int), .int .u8 (r.toNat : Int)], .agg #[.int .u16 (sa.toNat : Int), .int .u16 (sb.toNat : Int), .int .u32 (sq.toNat : Int), .int .u32 (sk.toNat : Int), .int .u8 (sr.toNat : Int), .int .u8 (sf.toNat : Int), .int .u16 (sz.toNat : Int), .int .u16 (su.toNat : Int), .slice A1 n1 c1, .slice A2 n2 c2]] W fun e w' => e = .returned (.tuple #[.int .i64 (I : Int), .bool b]) ∧ Below W.heap.size W w')) ∧ (∀ W, Hid (Calls Tryd.prog 24 #[.agg #[.int .u64 (lo : Int), .int .u64 (hi : Int), .int .u64 (lo2 : Int), .int .u64 (hi2 : Int), .int .i64 ep], .agg #[.int .u32 (s.toNat : Int), .int .u32 (d.toNat : Int), .int .u16 (p.toNat : Int), .int .u16 (q.toNat : Int), .int .u8 (r.toNat : Int)], .agg #[.int .u16 (sa.toNat : Int), .int .u16 (sb.toNat : Int), .int .u32 (sq.toNat : Int), .int .u32 (sk.toNat : Int), .int .u8 (sr.toNat : Int), .int .u8 (sf.toNat : Int), .int .u16 (sz.toNat : Int), .int .u16 (su.toNat : Int), .slice A1 n1 c1, .slice A2 n2 c2]] W fun e w' => e = .returned (.tuple #[.int .i64 (I : Int), .bool b]) ∧ Below W.heap.size W w')) := by
  cases H1 : hasB sf 16
  · exact ⟨0, false, fun W => paccept_f16 lo hi lo2 hi2 h1 h2 h3 h4 ep s d p q r sa sb sq sk sr sf sz su A1 A2 n1 c1 n2 c2 H1 W, fun W => raccept_f16 lo hi lo2 hi2 h1 h2 h3 h4 ep s d p q r sa sb sq sk sr sf sz su A1 A2 n1 c1 n2 c2 H1 W⟩
  cases H2 : hasB sf 2 with
  | true => exact ⟨0, false, fun W => paccept_f2 lo hi lo2 hi2 h1 h2 h3 h4 ep s d p q r sa sb sq sk sr sf sz su A1 A2 n1 c1 n2 c2 H1 H2 W, fun W => raccept_f2 lo hi lo2 hi2 h1 h2 h3 h4 ep s d p q r sa sb sq sk sr sf sz su A1 A2 n1 c1 n2 c2 H1 H2 W⟩
  | false =>
  cases H3 : hasB sf 4 with
  | true => exact ⟨0, false, fun W => paccept_f4 lo hi lo2 hi2 h1 h2 h3 h4 ep s d p q r sa sb sq sk sr sf sz su A1 A2 n1 c1 n2 c2 H1 H2 H3 W, fun W => raccept_f4 lo hi lo2 hi2 h1 h2 h3 h4 ep s d p q r sa sb sq sk sr sf sz su A1 A2 n1 c1 n2 c2 H1 H2 H3 W⟩
  | false =>
  obtain ⟨sq0, hq0⟩ := u32_pred sq
  obtain ⟨v, hv⟩ := u32_pred sk
  cases hb : rightB lo hi lo2 hi2 ep (ckB s d p q r sq0) v.toNat
  · exact ⟨0, false, fun W => paccept_r lo hi lo2 hi2 h1 h2 h3 h4 ep s d p q r sa sb sq sk sr sf sz su A1 A2 n1 c1 n2 c2 H1 H2 H3 sq0 hq0 v.toNat hv v.toNat_lt hep false rfl hb W, fun W => raccept_r lo hi lo2 hi2 h1 h2 h3 h4 ep s d p q r sa sb sq sk sr sf sz su A1 A2 n1 c1 n2 c2 H1 H2 H3 sq0 hq0 v.toNat hv v.toNat_lt hep false rfl hb W⟩
  · exact ⟨_, true, fun W => paccept_ok lo hi lo2 hi2 h1 h2 h3 h4 ep s d p q r sa sb sq sk sr sf sz su A1 A2 n1 c1 n2 c2 H1 H2 H3 sq0 hq0 v.toNat hv v.toNat_lt hep true rfl hb W, fun W => raccept_ok lo hi lo2 hi2 h1 h2 h3 h4 ep s d p q r sa sb sq sk sr sf sz su A1 A2 n1 c1 n2 c2 H1 H2 H3 sq0 hq0 v.toNat hv v.toNat_lt hep true rfl hb W⟩
end Go.Proofs.YteodjajjlgekcaaDoor
