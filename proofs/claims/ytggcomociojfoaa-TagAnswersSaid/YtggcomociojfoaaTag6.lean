/- Contract of Parse, where it reads. -/
import Derived.Test.YtggcomociojfoaaTag4
namespace Go.Proofs.Ytggcomociojfoaa
open Go.RowKit

section
variable (lo hi : Nat) (h1 : lo < 18446744073709551616) (h2 : hi < 18446744073709551616)
include h1 h2
set_option maxHeartbeats 1000000 in
theorem rparse_ok (A : Option Addr) (c : Nat) (xs : List UInt8) (w : World) (hr : Rd bv w w.heap.size A c xs) (h28 : xs.length = 28) (hG : Hid (sgn lo hi (xs.take 20) = xs)) (N : Nat) (hN : Hid (n64 xs = N)) (x8 x11 x18 x19 : UInt8) (e8 : Hid (xs.getD 8 0 = x8)) (e11 : Hid (xs.getD 11 0 = x11)) (e18 : Hid (xs.getD 18 0 = x18)) (e19 : Hid (xs.getD 19 0 = x19)) (id : UInt16) (hid : beN ((xs.drop 9).take 2) = id.toNat) (a : UInt32) (ha : beN ((xs.drop 12).take 4) = a.toNat) (p : UInt16) (hp : beN ((xs.drop 16).take 2) = p.toNat) : Calls Try.prog 21 #[.agg #[.int .u64 (lo : Int), .int .u64 (hi : Int)], .slice A xs.length c] w fun e w' => e = .returned (.tuple #[.agg #[.int .u64 (N : Int), .int .i64 (x8.toNat : Int), .int .i64 (id.toNat : Int), .int .i64 (x11.toNat : Int), .int .u32 (a.toNat : Int), .int .u16 (p.toNat : Int), .int .u8 (x18.toNat : Int), .int .i64 (x19.toNat : Int)], .int .i64 0]) ∧ Below w.heap.size w w' := by
  obtain ⟨V, hV⟩ : ∃ V, V = (w.alloc (.cells #[.int .u64 (lo : Int), .int .u64 (hi : Int)] 35)).alloc (.cells #[.int .u64 0, .int .i64 0, .int .i64 0, .int .i64 0, .int .u32 0, .int .u16 0, .int .u8 0, .int .i64 0] 37) := ⟨_, rfl⟩
  have hB : Below w.heap.size w V := by subst hV; exact bnextA (bnextA (Below.refl _ _) _) _
  have K : Blk V w.heap.size [.int .u64 (lo : Int), .int .u64 (hi : Int)] 35 := by subst hV; exact (Blk.new _ _ _).alloc _
  have KR : Blk V (w.heap.size + 1) [.int .u64 0, .int .i64 0, .int .i64 0, .int .i64 0, .int .u32 0, .int .u16 0, .int .u8 0, .int .i64 0] 37 := by
    subst hV
    have := Blk.new (w.alloc (.cells #[.int .u64 (lo : Int), .int .u64 (hi : Int)] 35)) #[.int .u64 0, .int .i64 0, .int .i64 0, .int .i64 0, .int .u32 0, .int .u16 0, .int .u8 0, .int .i64 0] 37
    simpa using this
  have rV := hr.next hB
  have hlc := hr.len
  have hcc := hr.cap
  have q1 : (!((xs.length : Int) == 28)) = false := by simp; omega
  have q2 : ((xs.length : Int) == 28) = true := by simp; omega
  have q3 : ((xs.length : Int) != 28) = false := by simp; omega
  have hr0 := hr
  obtain ⟨b, off, hA, hb, hc⟩ := rV.at_ (k := 0) (by omega)
  subst hA
  have c8 := hc 8 (by omega)
  simp only [bv] at c8
  have c9 := hc 9 (by omega)
  simp only [bv] at c9
  have c10 := hc 10 (by omega)
  simp only [bv] at c10
  have c11 := hc 11 (by omega)
  simp only [bv] at c11
  have c16 := hc 16 (by omega)
  simp only [bv] at c16
  have c17 := hc 17 (by omega)
  simp only [bv] at c17
  have c18 := hc 18 (by omega)
  simp only [bv] at c18
  have c19 := hc 19 (by omega)
  simp only [bv] at c19
  rw [show xs[8] = x8 by rw [← e8.out]; simp [List.getD, show 8 < xs.length by omega]] at c8
  rw [show xs[11] = x11 by rw [← e11.out]; simp [List.getD, show 11 < xs.length by omega]] at c11
  rw [show xs[18] = x18 by rw [← e18.out]; simp [List.getD, show 18 < xs.length by omega]] at c18
  rw [show xs[19] = x19 by rw [← e19.out]; simp [List.getD, show 19 < xs.length by omega]] at c19
  generalize hx9 : xs[9] = x9 at c9
  generalize hx10 : xs[10] = x10 at c10
  generalize hx16 : xs[16] = x16 at c16
  generalize hx17 : xs[17] = x17 at c17
  have hid2 : x9.toNat * 256 + x10.toNat = id.toNat := by rw [← hid, take_two xs 9 (by omega), beN_two, hx9, hx10]
  have hp2 : x16.toNat * 256 + x17.toNat = p.toNat := by rw [← hp, take_two xs 16 (by omega), beN_two, hx16, hx17]
  have hidl := id.toNat_lt
  have hpl := p.toNat_lt
  clear hx9 hx10 hx16 hx17
  have HG := fun W (h : Rd bv W W.heap.size (some ⟨b, off, none⟩) c xs) => Lib.hid (rcount_any (some ⟨b, off, none⟩) c xs W h (by omega))
  rw [hN.out] at HG
  have HG12 := fun W (h : Rd bv W W.heap.size (some ⟨b, off, none⟩) c xs) => Lib.hid (rget4_yes (some ⟨b, off, none⟩) c xs 12 W _ h (by omega))
  rw [ha] at HG12
  obtain ⟨ys, hys⟩ : ∃ ys, xs.take 20 = ys := ⟨_, rfl⟩
  have rY := rV.take 20
  rw [hys] at hG rY
  have hyl : ys.length = 20 := by rw [← hys]; simp; omega
  have y1 : (20 : Int) ≤ (xs.length : Int) := by omega
  have y2 : (20 : Int) ≤ (c : Int) := by omega
  have HYL := Lib.hid hyl
  clear hys hr hyl
  have HCK : ∀ W, Below V.heap.size V W → (W.cell? ⟨w.heap.size, 0, none⟩ = some (.int .u64 (lo : Int)) ∧ W.cell? ⟨w.heap.size, 1, none⟩ = some (.int .u64 (hi : Int))) := by
    intro W h
    obtain ⟨p0, p1, -⟩ := (K.next h).get2
    exact ⟨p0, p1⟩
  have q8 : (8 : Int) < (xs.length : Int) := by omega
  have l8 : (8 : Int) < (xs.length : Int) := by omega
  have l9 : (9 : Int) < (xs.length : Int) := by omega
  have l10 : (10 : Int) < (xs.length : Int) := by omega
  have l11 : (11 : Int) < (xs.length : Int) := by omega
  have l16 : (16 : Int) < (xs.length : Int) := by omega
  have l17 : (17 : Int) < (xs.length : Int) := by omega
  have l18 : (18 : Int) < (xs.length : Int) := by omega
  have l19 : (19 : Int) < (xs.length : Int) := by omega
  clear e8 e11 e18 e19 hc
  clear h28
  go_enter Try.func21, Try.ntmps21
  go_wp2_with fail
  rw [← hV]
  clear hV K
  refine region_put (by kernel_rfl) (by kernel_rfl) (by kernel_rfl) 64 rfl (by kernel_rfl) V (fun i v W => match i with
      | 0 => v = .agg #[.int .u64 (lo : Int), .int .u64 (hi : Int)]
      | 1 => v = .slice (some ⟨b, off, none⟩) xs.length c
      | 2 => ∃ L A c, v = .slice A L.length c ∧ Hid (L = ys) ∧ Rd bv W W.heap.size A c L
      | 3 => ∃ L A c, v = .slice A L.length c ∧ Hid (L = sgn lo hi ys) ∧ Rd bv W W.heap.size A c L
      | 4 => ∃ L A c, v = .slice A L.length c ∧ Hid (L = xs) ∧ Rd bv W W.heap.size A c L
      | 5 => v = .bool true
      | 6 => v = .bool false
      | _ => True) (Below.refl _ _) ?_ ?_ ?_
  · intro i v W W' h hb
    match i, h with
    | 0, h => exact h
    | 1, h => exact h
    | 2, h => obtain ⟨L, A, c, h1, h2, h3⟩ := h; exact ⟨L, A, c, h1, h2, h3.next hb⟩
    | 3, h => obtain ⟨L, A, c, h1, h2, h3⟩ := h; exact ⟨L, A, c, h1, h2, h3.next hb⟩
    | 4, h => obtain ⟨L, A, c, h1, h2, h3⟩ := h; exact ⟨L, A, c, h1, h2, h3.next hb⟩
    | 5, h => exact h
    | 6, h => exact h
    | _ + 7, _ => trivial
  · intro i o uu W hoo hVW hd
    rcases i with _|_|_|_|_|_|_|i
    · obtain rfl := Option.some.inj hoo
      refine .inl ⟨wanted_none rfl, ?_⟩
      generalize hev : Act.eval _ = ev
      have ec : ∀ c, ev (.const c) = c := fun c => by rw [← hev]; rfl
      have e2 : ev (.tmp 2) = .pointer (some ⟨w.heap.size, 0, none⟩) := by rw [← hev]; exact eval_old (by kernel_rfl) 64 rfl (by decide) rfl
      clear hev hd
      obtain ⟨cc0, cc1⟩ := HCK W hVW
      exact .inl ⟨_, W, by go_simp, rfl, Below.refl _ _⟩
    · obtain rfl := Option.some.inj hoo
      refine .inl ⟨wanted_none rfl, ?_⟩
      generalize hev : Act.eval _ = ev
      have ec : ∀ c, ev (.const c) = c := fun c => by rw [← hev]; rfl
      have e1 : ev (.tmp 1) = .slice (some ⟨b, off, none⟩) xs.length c := by rw [← hev]; exact eval_old (by kernel_rfl) 64 rfl (by decide) rfl
      clear hev hd
      exact .inl ⟨_, W, by go_simp, rfl, Below.refl _ _⟩
    · obtain rfl := Option.some.inj hoo
      have q1 : uu 1 = .slice (some ⟨b, off, none⟩) xs.length c := hd 1 (by kernel_rfl)
      refine .inl ⟨wanted_none rfl, ?_⟩
      generalize hev : Act.eval _ = ev
      have ec : ∀ c, ev (.const c) = c := fun c => by rw [← hev]; rfl
      have e12 : ev (.tmp 12) = .slice (some ⟨b, off, none⟩) xs.length c := by rw [← hev]; exact (eval_put (by kernel_rfl) 64 rfl (by decide)).trans q1
      clear hev hd q1
      have hyl := HYL.out
      exact .inl ⟨.slice (some ⟨b, off, none⟩) ys.length c, W, by go_simp, ⟨ys, (some ⟨b, off, none⟩), c, rfl, rfl, (rY.next hVW)⟩, Below.refl _ _⟩
    · obtain rfl := Option.some.inj hoo
      have q0 : uu 0 = .agg #[.int .u64 (lo : Int), .int .u64 (hi : Int)] := hd 0 (by kernel_rfl)
      obtain ⟨L2, A2, c2, q2, HL2, r2⟩ := hd 2 (by kernel_rfl)
      refine .inl ⟨wanted_none rfl, ?_⟩
      generalize hev : Act.eval _ = ev
      have ec : ∀ c, ev (.const c) = c := fun c => by rw [← hev]; rfl
      have ef : ∀ f, ev (.func f) = .func (.func f) #[] #[] := fun f => by rw [← hev]; rfl
      have e11 : ev (.tmp 11) = .agg #[.int .u64 (lo : Int), .int .u64 (hi : Int)] := by rw [← hev]; exact (eval_put (by kernel_rfl) 64 rfl (by decide)).trans q0
      have e13 : ev (.tmp 13) = .slice A2 L2.length c2 := by rw [← hev]; exact (eval_put (by kernel_rfl) 64 rfl (by decide)).trans q2
      clear hev hd q0 q2
      exact .inr ⟨_, _, _, by go_simp, rsigned_any lo hi h1 h2 A2 c2 L2 W r2 (by have := HYL.out; rw [HL2.out]; omega), fun e w' he => by
        obtain ⟨L, A, c, rfl, HL, hr, hb⟩ := he
        exact ⟨_, rfl, ⟨L, A, c, rfl, (by rw [Hid, HL.out, HL2.out]), hr⟩, hb⟩⟩
    · obtain rfl := Option.some.inj hoo
      refine .inl ⟨wanted_none rfl, ?_⟩
      generalize hev : Act.eval _ = ev
      have ec : ∀ c, ev (.const c) = c := fun c => by rw [← hev]; rfl
      have e1 : ev (.tmp 1) = .slice (some ⟨b, off, none⟩) xs.length c := by rw [← hev]; exact eval_old (by kernel_rfl) 64 rfl (by decide) rfl
      clear hev hd
      exact .inl ⟨.slice (some ⟨b, off, none⟩) xs.length c, W, by go_simp, ⟨xs, (some ⟨b, off, none⟩), c, rfl, rfl, (rV.next hVW)⟩, Below.refl _ _⟩
    · obtain rfl := Option.some.inj hoo
      obtain ⟨L3, A3, c3, q3, HL3, r3⟩ := hd 3 (by kernel_rfl)
      obtain ⟨L4, A4, c4, q4, HL4, r4⟩ := hd 4 (by kernel_rfl)
      refine .inl ⟨wanted_none rfl, ?_⟩
      generalize hev : Act.eval _ = ev
      have ec : ∀ c, ev (.const c) = c := fun c => by rw [← hev]; rfl
      have ef : ∀ f, ev (.func f) = .func (.func f) #[] #[] := fun f => by rw [← hev]; rfl
      have e14 : ev (.tmp 14) = .slice A3 L3.length c3 := by rw [← hev]; exact (eval_put (by kernel_rfl) 64 rfl (by decide)).trans q3
      have e15 : ev (.tmp 15) = .slice A4 L4.length c4 := by rw [← hev]; exact (eval_put (by kernel_rfl) 64 rfl (by decide)).trans q4
      clear hev hd q3 q4
      exact .inr ⟨_, _, _, by go_simp, rsame_eq A3 A4 c3 c4 L3 L4 W _ r3 r4 (by rw [HL3.out, HL4.out]; exact hG.out), fun e w' he => ⟨_, he.1, rfl, he.2.bel⟩⟩
    · obtain rfl := Option.some.inj hoo
      have q5 : uu 5 = .bool true := hd 5 (by kernel_rfl)
      refine .inl ⟨wanted_none rfl, ?_⟩
      generalize hev : Act.eval _ = ev
      have ec : ∀ c, ev (.const c) = c := fun c => by rw [← hev]; rfl
      have e16 : ev (.tmp 16) = .bool true := by rw [← hev]; exact (eval_put (by kernel_rfl) 64 rfl (by decide)).trans q5
      clear hev hd q5
      exact .inl ⟨_, W, by go_simp, rfl, Below.refl _ _⟩
    · simp at hoo
  · intro uu W hVW hall
    have q6 : uu 6 = .bool false := hall 6 (by decide)
    have d8 := (hVW.cell (p := ⟨b, off + 8, none⟩) hb).trans c8
    have d9 := (hVW.cell (p := ⟨b, off + 9, none⟩) hb).trans c9
    have d10 := (hVW.cell (p := ⟨b, off + 10, none⟩) hb).trans c10
    have d11 := (hVW.cell (p := ⟨b, off + 11, none⟩) hb).trans c11
    have d16 := (hVW.cell (p := ⟨b, off + 16, none⟩) hb).trans c16
    have d17 := (hVW.cell (p := ⟨b, off + 17, none⟩) hb).trans c17
    have d18 := (hVW.cell (p := ⟨b, off + 18, none⟩) hb).trans c18
    have d19 := (hVW.cell (p := ⟨b, off + 19, none⟩) hb).trans c19
    have hb1 : b < W.heap.size := Nat.lt_of_lt_of_le hb hVW.size
    replace hB := hB.trans (hVW.mono hB.size)
    replace KR := KR.next hVW
    replace rV := rV.next hVW
    clear hall HCK hVW rY hG c8 c9 c10 c11 c16 c17 c18 c19 hb
    simp only [putAll, Act.put, Nat.reduceAdd, q6]
    simp only [List.setIfInBounds_toArray, List.set_cons_succ, List.set_cons_zero]
    clear q6
    have c8 := d8
    have c9 := d9
    have c10 := d10
    have c11 := d11
    have c16 := d16
    have c17 := d17
    have c18 := d18
    have c19 := d19
    have hb := hb1
    clear hb1 d8 d9 d10 d11 d16 d17 d18 d19
    generalize W = V1 at *
    have hRlt := KR.lt
    have HCC : ∀ W, Below V1.heap.size V1 W → (W.cell? ⟨b, off + 8, none⟩ = some (.int .u8 (x8.toNat : Int)) ∧ W.cell? ⟨b, off + 9, none⟩ = some (.int .u8 (x9.toNat : Int)) ∧ W.cell? ⟨b, off + 10, none⟩ = some (.int .u8 (x10.toNat : Int)) ∧ W.cell? ⟨b, off + 11, none⟩ = some (.int .u8 (x11.toNat : Int)) ∧ W.cell? ⟨b, off + 16, none⟩ = some (.int .u8 (x16.toNat : Int)) ∧ W.cell? ⟨b, off + 17, none⟩ = some (.int .u8 (x17.toNat : Int)) ∧ W.cell? ⟨b, off + 18, none⟩ = some (.int .u8 (x18.toNat : Int)) ∧ W.cell? ⟨b, off + 19, none⟩ = some (.int .u8 (x19.toNat : Int))) := by
      intro W h
      exact ⟨(h.cell (p := ⟨b, off + 8, none⟩) hb).trans c8, (h.cell (p := ⟨b, off + 9, none⟩) hb).trans c9, (h.cell (p := ⟨b, off + 10, none⟩) hb).trans c10, (h.cell (p := ⟨b, off + 11, none⟩) hb).trans c11, (h.cell (p := ⟨b, off + 16, none⟩) hb).trans c16, (h.cell (p := ⟨b, off + 17, none⟩) hb).trans c17, (h.cell (p := ⟨b, off + 18, none⟩) hb).trans c18, (h.cell (p := ⟨b, off + 19, none⟩) hb).trans c19⟩
    clear c8 c9 c10 c11 c16 c17 c18 c19 hb
    go_wp2_with fail
    refine region_put_last (by kernel_rfl) (by kernel_rfl) (by kernel_rfl) 64 rfl (by kernel_rfl) V1 (fun i v W => match i with
        | 0 => v = .slice (some ⟨b, off, none⟩) xs.length c
        | 1 => v = .int .u64 (N : Int)
        | 2 => v = .slice (some ⟨b, off, none⟩) xs.length c
        | 3 => v = .pointer (some ⟨b, off + 8, none⟩)
        | 4 => v = .int .u8 (x8.toNat : Int)
        | 5 => v = .int .i64 (x8.toNat : Int)
        | 6 => v = .slice (some ⟨b, off, none⟩) xs.length c
        | 7 => v = .pointer (some ⟨b, off + 9, none⟩)
        | 8 => v = .int .u8 (x9.toNat : Int)
        | 9 => v = .int .i64 (x9.toNat : Int)
        | 10 => v = .int .i64 ((x9.toNat : Int) * 256)
        | 11 => v = .slice (some ⟨b, off, none⟩) xs.length c
        | 12 => v = .pointer (some ⟨b, off + 10, none⟩)
        | 13 => v = .int .u8 (x10.toNat : Int)
        | 14 => v = .int .i64 (x10.toNat : Int)
        | 15 => v = .int .i64 (id.toNat : Int)
        | 16 => v = .slice (some ⟨b, off, none⟩) xs.length c
        | 17 => v = .pointer (some ⟨b, off + 11, none⟩)
        | 18 => v = .int .u8 (x11.toNat : Int)
        | 19 => v = .int .i64 (x11.toNat : Int)
        | 20 => v = .slice (some ⟨b, off, none⟩) xs.length c
        | 21 => v = .pointer (some ⟨b, off + 16, none⟩)
        | 22 => v = .int .u8 (x16.toNat : Int)
        | 23 => v = .int .u16 (x16.toNat : Int)
        | 24 => v = .int .u16 ((x16.toNat : Int) * 256)
        | 25 => v = .slice (some ⟨b, off, none⟩) xs.length c
        | 26 => v = .pointer (some ⟨b, off + 17, none⟩)
        | 27 => v = .int .u8 (x17.toNat : Int)
        | 28 => v = .int .u16 (x17.toNat : Int)
        | 29 => v = .int .u16 (p.toNat : Int)
        | 30 => v = .slice (some ⟨b, off, none⟩) xs.length c
        | 31 => v = .pointer (some ⟨b, off + 18, none⟩)
        | 32 => v = .int .u8 (x18.toNat : Int)
        | 33 => v = .slice (some ⟨b, off, none⟩) xs.length c
        | 34 => v = .pointer (some ⟨b, off + 19, none⟩)
        | 35 => v = .int .u8 (x19.toNat : Int)
        | 36 => v = .int .i64 (x19.toNat : Int)
        | 37 => v = .agg #[.int .u64 (N : Int), .int .i64 (x8.toNat : Int), .int .i64 (id.toNat : Int), .int .i64 (x11.toNat : Int), .int .u32 0, .int .u16 (p.toNat : Int), .int .u8 (x18.toNat : Int), .int .i64 (x19.toNat : Int)]
        | 38 => ∃ g, v = .pointer (some ⟨g, 0, none⟩) ∧ V1.heap.size ≤ g ∧ Blk W g [.int .u64 0, .int .i64 0, .int .i64 0, .int .i64 0, .int .u32 0, .int .u16 0, .int .u8 0, .int .i64 0] 37
        | _ => True) (Below.refl _ _) 39 rfl (by kernel_rfl) (by intro o h; obtain rfl := Option.some.inj h; rfl) ?_ ?_ ?_
    · intro i v W W' h hb
      match i, h with
      | 0, h => exact h
      | 1, h => exact h
      | 2, h => exact h
      | 3, h => exact h
      | 4, h => exact h
      | 5, h => exact h
      | 6, h => exact h
      | 7, h => exact h
      | 8, h => exact h
      | 9, h => exact h
      | 10, h => exact h
      | 11, h => exact h
      | 12, h => exact h
      | 13, h => exact h
      | 14, h => exact h
      | 15, h => exact h
      | 16, h => exact h
      | 17, h => exact h
      | 18, h => exact h
      | 19, h => exact h
      | 20, h => exact h
      | 21, h => exact h
      | 22, h => exact h
      | 23, h => exact h
      | 24, h => exact h
      | 25, h => exact h
      | 26, h => exact h
      | 27, h => exact h
      | 28, h => exact h
      | 29, h => exact h
      | 30, h => exact h
      | 31, h => exact h
      | 32, h => exact h
      | 33, h => exact h
      | 34, h => exact h
      | 35, h => exact h
      | 36, h => exact h
      | 37, h => exact h
      | 38, h => obtain ⟨g, h1, h2, h3⟩ := h; exact ⟨g, h1, h2, h3.next hb⟩
      | _ + 39, _ => trivial
    · intro i oo uu W him hoo hVW hd
      rcases i with _|_|_|_|_|_|_|_|_|_|_|_|_|_|_|_|_|_|_|_|_|_|_|_|_|_|_|_|_|_|_|_|_|_|_|_|_|_|_|i
      · obtain rfl := Option.some.inj hoo
        refine .inl ⟨wanted_none rfl, ?_⟩
        generalize hev : Act.eval _ = ev
        have ec : ∀ c, ev (.const c) = c := fun c => by rw [← hev]; rfl
        have e1 : ev (.tmp 1) = .slice (some ⟨b, off, none⟩) xs.length c := by rw [← hev]; exact eval_old (by kernel_rfl) 64 rfl (by decide) rfl
        clear hev hd
        exact .inl ⟨_, W, by go_simp, rfl, Below.refl _ _⟩
      · obtain rfl := Option.some.inj hoo
        have q0 : uu 0 = .slice (some ⟨b, off, none⟩) xs.length c := hd 0 (by kernel_rfl)
        refine .inl ⟨wanted_none rfl, ?_⟩
        generalize hev : Act.eval _ = ev
        have ec : ∀ c, ev (.const c) = c := fun c => by rw [← hev]; rfl
        have ef : ∀ f, ev (.func f) = .func (.func f) #[] #[] := fun f => by rw [← hev]; rfl
        have e19 : ev (.tmp 19) = .slice (some ⟨b, off, none⟩) xs.length c := by rw [← hev]; exact (eval_put (by kernel_rfl) 64 rfl (by decide)).trans q0
        clear hev hd q0
        exact .inr ⟨_, _, _, by go_simp, (HG W (rV.next hVW)).out, fun e w' he => ⟨_, he.1, rfl, he.2⟩⟩
      · obtain rfl := Option.some.inj hoo
        refine .inl ⟨wanted_none rfl, ?_⟩
        generalize hev : Act.eval _ = ev
        have ec : ∀ c, ev (.const c) = c := fun c => by rw [← hev]; rfl
        have e1 : ev (.tmp 1) = .slice (some ⟨b, off, none⟩) xs.length c := by rw [← hev]; exact eval_old (by kernel_rfl) 64 rfl (by decide) rfl
        clear hev hd
        exact .inl ⟨_, W, by go_simp, rfl, Below.refl _ _⟩
      · obtain rfl := Option.some.inj hoo
        have q2 : uu 2 = .slice (some ⟨b, off, none⟩) xs.length c := hd 2 (by kernel_rfl)
        refine .inl ⟨wanted_none rfl, ?_⟩
        generalize hev : Act.eval _ = ev
        have ec : ∀ c, ev (.const c) = c := fun c => by rw [← hev]; rfl
        have e21 : ev (.tmp 21) = .slice (some ⟨b, off, none⟩) xs.length c := by rw [← hev]; exact (eval_put (by kernel_rfl) 64 rfl (by decide)).trans q2
        clear hev hd q2
        exact .inl ⟨_, W, by go_simp, rfl, Below.refl _ _⟩
      · obtain rfl := Option.some.inj hoo
        have q3 : uu 3 = .pointer (some ⟨b, off + 8, none⟩) := hd 3 (by kernel_rfl)
        refine .inl ⟨wanted_none rfl, ?_⟩
        generalize hev : Act.eval _ = ev
        have ec : ∀ c, ev (.const c) = c := fun c => by rw [← hev]; rfl
        have e22 : ev (.tmp 22) = .pointer (some ⟨b, off + 8, none⟩) := by rw [← hev]; exact (eval_put (by kernel_rfl) 64 rfl (by decide)).trans q3
        clear hev hd q3
        obtain ⟨cc0, cc1, cc2, cc3, cc4, cc5, cc6, cc7⟩ := HCC W hVW
        exact .inl ⟨_, W, by go_simp, rfl, Below.refl _ _⟩
      · obtain rfl := Option.some.inj hoo
        have q4 : uu 4 = .int .u8 (x8.toNat : Int) := hd 4 (by kernel_rfl)
        refine .inl ⟨wanted_none rfl, ?_⟩
        generalize hev : Act.eval _ = ev
        have ec : ∀ c, ev (.const c) = c := fun c => by rw [← hev]; rfl
        have e23 : ev (.tmp 23) = .int .u8 (x8.toNat : Int) := by rw [← hev]; exact (eval_put (by kernel_rfl) 64 rfl (by decide)).trans q4
        clear hev hd q4
        have hh : IntKind.i64.wrap (x8.toNat : Int) = (x8.toNat : Int) := by rw [IntKind.wrap_i64]; have := x8.toNat_lt; omega
        exact .inl ⟨_, W, by go_simp, rfl, Below.refl _ _⟩
      · obtain rfl := Option.some.inj hoo
        refine .inl ⟨wanted_none rfl, ?_⟩
        generalize hev : Act.eval _ = ev
        have ec : ∀ c, ev (.const c) = c := fun c => by rw [← hev]; rfl
        have e1 : ev (.tmp 1) = .slice (some ⟨b, off, none⟩) xs.length c := by rw [← hev]; exact eval_old (by kernel_rfl) 64 rfl (by decide) rfl
        clear hev hd
        exact .inl ⟨_, W, by go_simp, rfl, Below.refl _ _⟩
      · obtain rfl := Option.some.inj hoo
        have q6 : uu 6 = .slice (some ⟨b, off, none⟩) xs.length c := hd 6 (by kernel_rfl)
        refine .inl ⟨wanted_none rfl, ?_⟩
        generalize hev : Act.eval _ = ev
        have ec : ∀ c, ev (.const c) = c := fun c => by rw [← hev]; rfl
        have e25 : ev (.tmp 25) = .slice (some ⟨b, off, none⟩) xs.length c := by rw [← hev]; exact (eval_put (by kernel_rfl) 64 rfl (by decide)).trans q6
        clear hev hd q6
        exact .inl ⟨_, W, by go_simp, rfl, Below.refl _ _⟩
      · obtain rfl := Option.some.inj hoo
        have q7 : uu 7 = .pointer (some ⟨b, off + 9, none⟩) := hd 7 (by kernel_rfl)
        refine .inl ⟨wanted_none rfl, ?_⟩
        generalize hev : Act.eval _ = ev
        have ec : ∀ c, ev (.const c) = c := fun c => by rw [← hev]; rfl
        have e26 : ev (.tmp 26) = .pointer (some ⟨b, off + 9, none⟩) := by rw [← hev]; exact (eval_put (by kernel_rfl) 64 rfl (by decide)).trans q7
        clear hev hd q7
        obtain ⟨cc0, cc1, cc2, cc3, cc4, cc5, cc6, cc7⟩ := HCC W hVW
        exact .inl ⟨_, W, by go_simp, rfl, Below.refl _ _⟩
      · obtain rfl := Option.some.inj hoo
        have q8 : uu 8 = .int .u8 (x9.toNat : Int) := hd 8 (by kernel_rfl)
        refine .inl ⟨wanted_none rfl, ?_⟩
        generalize hev : Act.eval _ = ev
        have ec : ∀ c, ev (.const c) = c := fun c => by rw [← hev]; rfl
        have e27 : ev (.tmp 27) = .int .u8 (x9.toNat : Int) := by rw [← hev]; exact (eval_put (by kernel_rfl) 64 rfl (by decide)).trans q8
        clear hev hd q8
        have hh : IntKind.i64.wrap (x9.toNat : Int) = (x9.toNat : Int) := by rw [IntKind.wrap_i64]; have := x9.toNat_lt; omega
        exact .inl ⟨_, W, by go_simp, rfl, Below.refl _ _⟩
      · obtain rfl := Option.some.inj hoo
        have q9 : uu 9 = .int .i64 (x9.toNat : Int) := hd 9 (by kernel_rfl)
        refine .inl ⟨wanted_none rfl, ?_⟩
        generalize hev : Act.eval _ = ev
        have ec : ∀ c, ev (.const c) = c := fun c => by rw [← hev]; rfl
        have e28 : ev (.tmp 28) = .int .i64 (x9.toNat : Int) := by rw [← hev]; exact (eval_put (by kernel_rfl) 64 rfl (by decide)).trans q9
        clear hev hd q9
        have hh : IntKind.i64.wrap ((x9.toNat : Int) * 256) = (x9.toNat : Int) * 256 := by rw [IntKind.wrap_i64]; have := x9.toNat_lt; omega
        exact .inl ⟨_, W, by go_simp, rfl, Below.refl _ _⟩
      · obtain rfl := Option.some.inj hoo
        refine .inl ⟨wanted_none rfl, ?_⟩
        generalize hev : Act.eval _ = ev
        have ec : ∀ c, ev (.const c) = c := fun c => by rw [← hev]; rfl
        have e1 : ev (.tmp 1) = .slice (some ⟨b, off, none⟩) xs.length c := by rw [← hev]; exact eval_old (by kernel_rfl) 64 rfl (by decide) rfl
        clear hev hd
        exact .inl ⟨_, W, by go_simp, rfl, Below.refl _ _⟩
      · obtain rfl := Option.some.inj hoo
        have q11 : uu 11 = .slice (some ⟨b, off, none⟩) xs.length c := hd 11 (by kernel_rfl)
        refine .inl ⟨wanted_none rfl, ?_⟩
        generalize hev : Act.eval _ = ev
        have ec : ∀ c, ev (.const c) = c := fun c => by rw [← hev]; rfl
        have e30 : ev (.tmp 30) = .slice (some ⟨b, off, none⟩) xs.length c := by rw [← hev]; exact (eval_put (by kernel_rfl) 64 rfl (by decide)).trans q11
        clear hev hd q11
        exact .inl ⟨_, W, by go_simp, rfl, Below.refl _ _⟩
      · obtain rfl := Option.some.inj hoo
        have q12 : uu 12 = .pointer (some ⟨b, off + 10, none⟩) := hd 12 (by kernel_rfl)
        refine .inl ⟨wanted_none rfl, ?_⟩
        generalize hev : Act.eval _ = ev
        have ec : ∀ c, ev (.const c) = c := fun c => by rw [← hev]; rfl
        have e31 : ev (.tmp 31) = .pointer (some ⟨b, off + 10, none⟩) := by rw [← hev]; exact (eval_put (by kernel_rfl) 64 rfl (by decide)).trans q12
        clear hev hd q12
        obtain ⟨cc0, cc1, cc2, cc3, cc4, cc5, cc6, cc7⟩ := HCC W hVW
        exact .inl ⟨_, W, by go_simp, rfl, Below.refl _ _⟩
      · obtain rfl := Option.some.inj hoo
        have q13 : uu 13 = .int .u8 (x10.toNat : Int) := hd 13 (by kernel_rfl)
        refine .inl ⟨wanted_none rfl, ?_⟩
        generalize hev : Act.eval _ = ev
        have ec : ∀ c, ev (.const c) = c := fun c => by rw [← hev]; rfl
        have e32 : ev (.tmp 32) = .int .u8 (x10.toNat : Int) := by rw [← hev]; exact (eval_put (by kernel_rfl) 64 rfl (by decide)).trans q13
        clear hev hd q13
        have hh : IntKind.i64.wrap (x10.toNat : Int) = (x10.toNat : Int) := by rw [IntKind.wrap_i64]; have := x10.toNat_lt; omega
        exact .inl ⟨_, W, by go_simp, rfl, Below.refl _ _⟩
      · obtain rfl := Option.some.inj hoo
        have q10 : uu 10 = .int .i64 ((x9.toNat : Int) * 256) := hd 10 (by kernel_rfl)
        have q14 : uu 14 = .int .i64 (x10.toNat : Int) := hd 14 (by kernel_rfl)
        refine .inl ⟨wanted_none rfl, ?_⟩
        generalize hev : Act.eval _ = ev
        have ec : ∀ c, ev (.const c) = c := fun c => by rw [← hev]; rfl
        have e29 : ev (.tmp 29) = .int .i64 ((x9.toNat : Int) * 256) := by rw [← hev]; exact (eval_put (by kernel_rfl) 64 rfl (by decide)).trans q10
        have e33 : ev (.tmp 33) = .int .i64 (x10.toNat : Int) := by rw [← hev]; exact (eval_put (by kernel_rfl) 64 rfl (by decide)).trans q14
        clear hev hd q10 q14
        have hh0 : (x9.toNat : Int) * 256 + (x10.toNat : Int) = (id.toNat : Int) := by omega
        have hh : IntKind.i64.wrap (id.toNat : Int) = (id.toNat : Int) := by rw [IntKind.wrap_i64]; omega
        exact .inl ⟨_, W, by go_simp, rfl, Below.refl _ _⟩
      · obtain rfl := Option.some.inj hoo
        refine .inl ⟨wanted_none rfl, ?_⟩
        generalize hev : Act.eval _ = ev
        have ec : ∀ c, ev (.const c) = c := fun c => by rw [← hev]; rfl
        have e1 : ev (.tmp 1) = .slice (some ⟨b, off, none⟩) xs.length c := by rw [← hev]; exact eval_old (by kernel_rfl) 64 rfl (by decide) rfl
        clear hev hd
        exact .inl ⟨_, W, by go_simp, rfl, Below.refl _ _⟩
      · obtain rfl := Option.some.inj hoo
        have q16 : uu 16 = .slice (some ⟨b, off, none⟩) xs.length c := hd 16 (by kernel_rfl)
        refine .inl ⟨wanted_none rfl, ?_⟩
        generalize hev : Act.eval _ = ev
        have ec : ∀ c, ev (.const c) = c := fun c => by rw [← hev]; rfl
        have e35 : ev (.tmp 35) = .slice (some ⟨b, off, none⟩) xs.length c := by rw [← hev]; exact (eval_put (by kernel_rfl) 64 rfl (by decide)).trans q16
        clear hev hd q16
        exact .inl ⟨_, W, by go_simp, rfl, Below.refl _ _⟩
      · obtain rfl := Option.some.inj hoo
        have q17 : uu 17 = .pointer (some ⟨b, off + 11, none⟩) := hd 17 (by kernel_rfl)
        refine .inl ⟨wanted_none rfl, ?_⟩
        generalize hev : Act.eval _ = ev
        have ec : ∀ c, ev (.const c) = c := fun c => by rw [← hev]; rfl
        have e36 : ev (.tmp 36) = .pointer (some ⟨b, off + 11, none⟩) := by rw [← hev]; exact (eval_put (by kernel_rfl) 64 rfl (by decide)).trans q17
        clear hev hd q17
        obtain ⟨cc0, cc1, cc2, cc3, cc4, cc5, cc6, cc7⟩ := HCC W hVW
        exact .inl ⟨_, W, by go_simp, rfl, Below.refl _ _⟩
      · obtain rfl := Option.some.inj hoo
        have q18 : uu 18 = .int .u8 (x11.toNat : Int) := hd 18 (by kernel_rfl)
        refine .inl ⟨wanted_none rfl, ?_⟩
        generalize hev : Act.eval _ = ev
        have ec : ∀ c, ev (.const c) = c := fun c => by rw [← hev]; rfl
        have e37 : ev (.tmp 37) = .int .u8 (x11.toNat : Int) := by rw [← hev]; exact (eval_put (by kernel_rfl) 64 rfl (by decide)).trans q18
        clear hev hd q18
        have hh : IntKind.i64.wrap (x11.toNat : Int) = (x11.toNat : Int) := by rw [IntKind.wrap_i64]; have := x11.toNat_lt; omega
        exact .inl ⟨_, W, by go_simp, rfl, Below.refl _ _⟩
      · obtain rfl := Option.some.inj hoo
        refine .inl ⟨wanted_none rfl, ?_⟩
        generalize hev : Act.eval _ = ev
        have ec : ∀ c, ev (.const c) = c := fun c => by rw [← hev]; rfl
        have e1 : ev (.tmp 1) = .slice (some ⟨b, off, none⟩) xs.length c := by rw [← hev]; exact eval_old (by kernel_rfl) 64 rfl (by decide) rfl
        clear hev hd
        exact .inl ⟨_, W, by go_simp, rfl, Below.refl _ _⟩
      · obtain rfl := Option.some.inj hoo
        have q20 : uu 20 = .slice (some ⟨b, off, none⟩) xs.length c := hd 20 (by kernel_rfl)
        refine .inl ⟨wanted_none rfl, ?_⟩
        generalize hev : Act.eval _ = ev
        have ec : ∀ c, ev (.const c) = c := fun c => by rw [← hev]; rfl
        have e39 : ev (.tmp 39) = .slice (some ⟨b, off, none⟩) xs.length c := by rw [← hev]; exact (eval_put (by kernel_rfl) 64 rfl (by decide)).trans q20
        clear hev hd q20
        exact .inl ⟨_, W, by go_simp, rfl, Below.refl _ _⟩
      · obtain rfl := Option.some.inj hoo
        have q21 : uu 21 = .pointer (some ⟨b, off + 16, none⟩) := hd 21 (by kernel_rfl)
        refine .inl ⟨wanted_none rfl, ?_⟩
        generalize hev : Act.eval _ = ev
        have ec : ∀ c, ev (.const c) = c := fun c => by rw [← hev]; rfl
        have e40 : ev (.tmp 40) = .pointer (some ⟨b, off + 16, none⟩) := by rw [← hev]; exact (eval_put (by kernel_rfl) 64 rfl (by decide)).trans q21
        clear hev hd q21
        obtain ⟨cc0, cc1, cc2, cc3, cc4, cc5, cc6, cc7⟩ := HCC W hVW
        exact .inl ⟨_, W, by go_simp, rfl, Below.refl _ _⟩
      · obtain rfl := Option.some.inj hoo
        have q22 : uu 22 = .int .u8 (x16.toNat : Int) := hd 22 (by kernel_rfl)
        refine .inl ⟨wanted_none rfl, ?_⟩
        generalize hev : Act.eval _ = ev
        have ec : ∀ c, ev (.const c) = c := fun c => by rw [← hev]; rfl
        have e41 : ev (.tmp 41) = .int .u8 (x16.toNat : Int) := by rw [← hev]; exact (eval_put (by kernel_rfl) 64 rfl (by decide)).trans q22
        clear hev hd q22
        have hh : IntKind.u16.wrap (x16.toNat : Int) = (x16.toNat : Int) := by rw [IntKind.wrap_u16]; have := x16.toNat_lt; omega
        exact .inl ⟨_, W, by go_simp, rfl, Below.refl _ _⟩
      · obtain rfl := Option.some.inj hoo
        have q23 : uu 23 = .int .u16 (x16.toNat : Int) := hd 23 (by kernel_rfl)
        refine .inl ⟨wanted_none rfl, ?_⟩
        generalize hev : Act.eval _ = ev
        have ec : ∀ c, ev (.const c) = c := fun c => by rw [← hev]; rfl
        have e42 : ev (.tmp 42) = .int .u16 (x16.toNat : Int) := by rw [← hev]; exact (eval_put (by kernel_rfl) 64 rfl (by decide)).trans q23
        clear hev hd q23
        have hh : IntKind.u16.wrap ((x16.toNat : Int) * 256) = (x16.toNat : Int) * 256 := by rw [IntKind.wrap_u16]; have := x16.toNat_lt; omega
        exact .inl ⟨_, W, by go_simp, rfl, Below.refl _ _⟩
      · obtain rfl := Option.some.inj hoo
        refine .inl ⟨wanted_none rfl, ?_⟩
        generalize hev : Act.eval _ = ev
        have ec : ∀ c, ev (.const c) = c := fun c => by rw [← hev]; rfl
        have e1 : ev (.tmp 1) = .slice (some ⟨b, off, none⟩) xs.length c := by rw [← hev]; exact eval_old (by kernel_rfl) 64 rfl (by decide) rfl
        clear hev hd
        exact .inl ⟨_, W, by go_simp, rfl, Below.refl _ _⟩
      · obtain rfl := Option.some.inj hoo
        have q25 : uu 25 = .slice (some ⟨b, off, none⟩) xs.length c := hd 25 (by kernel_rfl)
        refine .inl ⟨wanted_none rfl, ?_⟩
        generalize hev : Act.eval _ = ev
        have ec : ∀ c, ev (.const c) = c := fun c => by rw [← hev]; rfl
        have e44 : ev (.tmp 44) = .slice (some ⟨b, off, none⟩) xs.length c := by rw [← hev]; exact (eval_put (by kernel_rfl) 64 rfl (by decide)).trans q25
        clear hev hd q25
        exact .inl ⟨_, W, by go_simp, rfl, Below.refl _ _⟩
      · obtain rfl := Option.some.inj hoo
        have q26 : uu 26 = .pointer (some ⟨b, off + 17, none⟩) := hd 26 (by kernel_rfl)
        refine .inl ⟨wanted_none rfl, ?_⟩
        generalize hev : Act.eval _ = ev
        have ec : ∀ c, ev (.const c) = c := fun c => by rw [← hev]; rfl
        have e45 : ev (.tmp 45) = .pointer (some ⟨b, off + 17, none⟩) := by rw [← hev]; exact (eval_put (by kernel_rfl) 64 rfl (by decide)).trans q26
        clear hev hd q26
        obtain ⟨cc0, cc1, cc2, cc3, cc4, cc5, cc6, cc7⟩ := HCC W hVW
        exact .inl ⟨_, W, by go_simp, rfl, Below.refl _ _⟩
      · obtain rfl := Option.some.inj hoo
        have q27 : uu 27 = .int .u8 (x17.toNat : Int) := hd 27 (by kernel_rfl)
        refine .inl ⟨wanted_none rfl, ?_⟩
        generalize hev : Act.eval _ = ev
        have ec : ∀ c, ev (.const c) = c := fun c => by rw [← hev]; rfl
        have e46 : ev (.tmp 46) = .int .u8 (x17.toNat : Int) := by rw [← hev]; exact (eval_put (by kernel_rfl) 64 rfl (by decide)).trans q27
        clear hev hd q27
        have hh : IntKind.u16.wrap (x17.toNat : Int) = (x17.toNat : Int) := by rw [IntKind.wrap_u16]; have := x17.toNat_lt; omega
        exact .inl ⟨_, W, by go_simp, rfl, Below.refl _ _⟩
      · obtain rfl := Option.some.inj hoo
        have q24 : uu 24 = .int .u16 ((x16.toNat : Int) * 256) := hd 24 (by kernel_rfl)
        have q28 : uu 28 = .int .u16 (x17.toNat : Int) := hd 28 (by kernel_rfl)
        refine .inl ⟨wanted_none rfl, ?_⟩
        generalize hev : Act.eval _ = ev
        have ec : ∀ c, ev (.const c) = c := fun c => by rw [← hev]; rfl
        have e43 : ev (.tmp 43) = .int .u16 ((x16.toNat : Int) * 256) := by rw [← hev]; exact (eval_put (by kernel_rfl) 64 rfl (by decide)).trans q24
        have e47 : ev (.tmp 47) = .int .u16 (x17.toNat : Int) := by rw [← hev]; exact (eval_put (by kernel_rfl) 64 rfl (by decide)).trans q28
        clear hev hd q24 q28
        have hh0 : (x16.toNat : Int) * 256 + (x17.toNat : Int) = (p.toNat : Int) := by omega
        have hh : IntKind.u16.wrap (p.toNat : Int) = (p.toNat : Int) := by rw [IntKind.wrap_u16]; omega
        exact .inl ⟨_, W, by go_simp, rfl, Below.refl _ _⟩
      · obtain rfl := Option.some.inj hoo
        refine .inl ⟨wanted_none rfl, ?_⟩
        generalize hev : Act.eval _ = ev
        have ec : ∀ c, ev (.const c) = c := fun c => by rw [← hev]; rfl
        have e1 : ev (.tmp 1) = .slice (some ⟨b, off, none⟩) xs.length c := by rw [← hev]; exact eval_old (by kernel_rfl) 64 rfl (by decide) rfl
        clear hev hd
        exact .inl ⟨_, W, by go_simp, rfl, Below.refl _ _⟩
      · obtain rfl := Option.some.inj hoo
        have q30 : uu 30 = .slice (some ⟨b, off, none⟩) xs.length c := hd 30 (by kernel_rfl)
        refine .inl ⟨wanted_none rfl, ?_⟩
        generalize hev : Act.eval _ = ev
        have ec : ∀ c, ev (.const c) = c := fun c => by rw [← hev]; rfl
        have e49 : ev (.tmp 49) = .slice (some ⟨b, off, none⟩) xs.length c := by rw [← hev]; exact (eval_put (by kernel_rfl) 64 rfl (by decide)).trans q30
        clear hev hd q30
        exact .inl ⟨_, W, by go_simp, rfl, Below.refl _ _⟩
      · obtain rfl := Option.some.inj hoo
        have q31 : uu 31 = .pointer (some ⟨b, off + 18, none⟩) := hd 31 (by kernel_rfl)
        refine .inl ⟨wanted_none rfl, ?_⟩
        generalize hev : Act.eval _ = ev
        have ec : ∀ c, ev (.const c) = c := fun c => by rw [← hev]; rfl
        have e50 : ev (.tmp 50) = .pointer (some ⟨b, off + 18, none⟩) := by rw [← hev]; exact (eval_put (by kernel_rfl) 64 rfl (by decide)).trans q31
        clear hev hd q31
        obtain ⟨cc0, cc1, cc2, cc3, cc4, cc5, cc6, cc7⟩ := HCC W hVW
        exact .inl ⟨_, W, by go_simp, rfl, Below.refl _ _⟩
      · obtain rfl := Option.some.inj hoo
        refine .inl ⟨wanted_none rfl, ?_⟩
        generalize hev : Act.eval _ = ev
        have ec : ∀ c, ev (.const c) = c := fun c => by rw [← hev]; rfl
        have e1 : ev (.tmp 1) = .slice (some ⟨b, off, none⟩) xs.length c := by rw [← hev]; exact eval_old (by kernel_rfl) 64 rfl (by decide) rfl
        clear hev hd
        exact .inl ⟨_, W, by go_simp, rfl, Below.refl _ _⟩
      · obtain rfl := Option.some.inj hoo
        have q33 : uu 33 = .slice (some ⟨b, off, none⟩) xs.length c := hd 33 (by kernel_rfl)
        refine .inl ⟨wanted_none rfl, ?_⟩
        generalize hev : Act.eval _ = ev
        have ec : ∀ c, ev (.const c) = c := fun c => by rw [← hev]; rfl
        have e52 : ev (.tmp 52) = .slice (some ⟨b, off, none⟩) xs.length c := by rw [← hev]; exact (eval_put (by kernel_rfl) 64 rfl (by decide)).trans q33
        clear hev hd q33
        exact .inl ⟨_, W, by go_simp, rfl, Below.refl _ _⟩
      · obtain rfl := Option.some.inj hoo
        have q34 : uu 34 = .pointer (some ⟨b, off + 19, none⟩) := hd 34 (by kernel_rfl)
        refine .inl ⟨wanted_none rfl, ?_⟩
        generalize hev : Act.eval _ = ev
        have ec : ∀ c, ev (.const c) = c := fun c => by rw [← hev]; rfl
        have e53 : ev (.tmp 53) = .pointer (some ⟨b, off + 19, none⟩) := by rw [← hev]; exact (eval_put (by kernel_rfl) 64 rfl (by decide)).trans q34
        clear hev hd q34
        obtain ⟨cc0, cc1, cc2, cc3, cc4, cc5, cc6, cc7⟩ := HCC W hVW
        exact .inl ⟨_, W, by go_simp, rfl, Below.refl _ _⟩
      · obtain rfl := Option.some.inj hoo
        have q35 : uu 35 = .int .u8 (x19.toNat : Int) := hd 35 (by kernel_rfl)
        refine .inl ⟨wanted_none rfl, ?_⟩
        generalize hev : Act.eval _ = ev
        have ec : ∀ c, ev (.const c) = c := fun c => by rw [← hev]; rfl
        have e54 : ev (.tmp 54) = .int .u8 (x19.toNat : Int) := by rw [← hev]; exact (eval_put (by kernel_rfl) 64 rfl (by decide)).trans q35
        clear hev hd q35
        have hh : IntKind.i64.wrap (x19.toNat : Int) = (x19.toNat : Int) := by rw [IntKind.wrap_i64]; have := x19.toNat_lt; omega
        exact .inl ⟨_, W, by go_simp, rfl, Below.refl _ _⟩
      · obtain rfl := Option.some.inj hoo
        have q1 : uu 1 = .int .u64 (N : Int) := hd 1 (by kernel_rfl)
        have q5 : uu 5 = .int .i64 (x8.toNat : Int) := hd 5 (by kernel_rfl)
        have q15 : uu 15 = .int .i64 (id.toNat : Int) := hd 15 (by kernel_rfl)
        have q19 : uu 19 = .int .i64 (x11.toNat : Int) := hd 19 (by kernel_rfl)
        have q29 : uu 29 = .int .u16 (p.toNat : Int) := hd 29 (by kernel_rfl)
        have q32 : uu 32 = .int .u8 (x18.toNat : Int) := hd 32 (by kernel_rfl)
        have q36 : uu 36 = .int .i64 (x19.toNat : Int) := hd 36 (by kernel_rfl)
        refine .inl ⟨wanted_none rfl, ?_⟩
        generalize hev : Act.eval _ = ev
        have ec : ∀ c, ev (.const c) = c := fun c => by rw [← hev]; rfl
        have e20 : ev (.tmp 20) = .int .u64 (N : Int) := by rw [← hev]; exact (eval_put (by kernel_rfl) 64 rfl (by decide)).trans q1
        have e24 : ev (.tmp 24) = .int .i64 (x8.toNat : Int) := by rw [← hev]; exact (eval_put (by kernel_rfl) 64 rfl (by decide)).trans q5
        have e34 : ev (.tmp 34) = .int .i64 (id.toNat : Int) := by rw [← hev]; exact (eval_put (by kernel_rfl) 64 rfl (by decide)).trans q15
        have e38 : ev (.tmp 38) = .int .i64 (x11.toNat : Int) := by rw [← hev]; exact (eval_put (by kernel_rfl) 64 rfl (by decide)).trans q19
        have e48 : ev (.tmp 48) = .int .u16 (p.toNat : Int) := by rw [← hev]; exact (eval_put (by kernel_rfl) 64 rfl (by decide)).trans q29
        have e51 : ev (.tmp 51) = .int .u8 (x18.toNat : Int) := by rw [← hev]; exact (eval_put (by kernel_rfl) 64 rfl (by decide)).trans q32
        have e55 : ev (.tmp 55) = .int .i64 (x19.toNat : Int) := by rw [← hev]; exact (eval_put (by kernel_rfl) 64 rfl (by decide)).trans q36
        clear hev hd q1 q5 q15 q19 q29 q32 q36
        exact .inl ⟨_, W, by go_simp, rfl, Below.refl _ _⟩
      · obtain rfl := Option.some.inj hoo
        refine .inl ⟨wanted_none rfl, ?_⟩
        generalize hev : Act.eval _ = ev
        have ec : ∀ c, ev (.const c) = c := fun c => by rw [← hev]; rfl
        clear hev hd
        exact .inl ⟨_, W.alloc (.cells #[.int .u64 0, .int .i64 0, .int .i64 0, .int .i64 0, .int .u32 0, .int .u16 0, .int .u8 0, .int .i64 0] 37), by go_simp, ⟨W.heap.size, rfl, hVW.size, Blk.new W #[.int .u64 0, .int .i64 0, .int .i64 0, .int .i64 0, .int .u32 0, .int .u16 0, .int .u8 0, .int .i64 0] 37⟩, bnextA (Below.refl _ _) _⟩
      · omega
    · intro oo uu W hoo hVW hall
      obtain rfl := Option.some.inj hoo
      obtain ⟨g38, q38, hle38, hbk38⟩ := hall 38 (by decide)
      have q37 : uu 37 = .agg #[.int .u64 (N : Int), .int .i64 (x8.toNat : Int), .int .i64 (id.toNat : Int), .int .i64 (x11.toNat : Int), .int .u32 0, .int .u16 (p.toNat : Int), .int .u8 (x18.toNat : Int), .int .i64 (x19.toNat : Int)] := hall 37 (by decide)
      refine ⟨wanted_none rfl, ?_⟩
      generalize hev : Act.eval _ = ev
      have ec : ∀ c, ev (.const c) = c := fun c => by rw [← hev]; rfl
      have e6 : ev (.tmp 6) = .pointer (some ⟨g38, 0, none⟩) := by rw [← hev]; exact (eval_put (by kernel_rfl) 64 rfl (by decide)).trans q38
      have e56 : ev (.tmp 56) = .agg #[.int .u64 (N : Int), .int .i64 (x8.toNat : Int), .int .i64 (id.toNat : Int), .int .i64 (x11.toNat : Int), .int .u32 0, .int .u16 (p.toNat : Int), .int .u8 (x18.toNat : Int), .int .i64 (x19.toNat : Int)] := by rw [← hev]; exact (eval_put (by kernel_rfl) 64 rfl (by decide)).trans q37
      clear hev hall
      obtain ⟨k0, k1, k2, k3, k4, k5, k6, k7, f0, f1, f2, f3, f4, f5, f6, f7⟩ := hbk38.get8
      refine ⟨_, by (go_simp <;> rfl), ?_⟩
      have hle0 : w.heap.size ≤ g38 := Nat.le_trans hB.size hle38
      have hBV := bset8 (hB.trans (hVW.mono hB.size)) hle0 (.int .u64 (N : Int)) (.int .i64 (x8.toNat : Int)) (.int .i64 (id.toNat : Int)) (.int .i64 (x11.toNat : Int)) (.int .u32 0) (.int .u16 (p.toNat : Int)) (.int .u8 (x18.toNat : Int)) (.int .i64 (x19.toNat : Int))
      have KO := hbk38.set8 (u0 := .int .u64 (N : Int)) (u1 := .int .i64 (x8.toNat : Int)) (u2 := .int .i64 (id.toNat : Int)) (u3 := .int .i64 (x11.toNat : Int)) (u4 := .int .u32 0) (u5 := .int .u16 (p.toNat : Int)) (u6 := .int .u8 (x18.toNat : Int)) (u7 := .int .i64 (x19.toNat : Int))
      have hBU := bset8 (B := V1.heap.size) hVW hle38 (.int .u64 (N : Int)) (.int .i64 (x8.toNat : Int)) (.int .i64 (id.toNat : Int)) (.int .i64 (x11.toNat : Int)) (.int .u32 0) (.int .u16 (p.toNat : Int)) (.int .u8 (x18.toNat : Int)) (.int .i64 (x19.toNat : Int))
      replace KR := KR.next hBU
      replace rV := rV.next hBU
      have hgt : w.heap.size + 1 < g38 := Nat.lt_of_lt_of_le hRlt hle38
      clear hB hVW hBU hRlt
      simp only [putAll, Act.put, Nat.reduceAdd, q38]
      simp only [List.setIfInBounds_toArray, List.set_cons_succ, List.set_cons_zero]
      clear q38
      generalize ((((((((W.setCell ⟨g38, 0, none⟩ (.int .u64 (N : Int))).setCell ⟨g38, 1, none⟩ (.int .i64 (x8.toNat : Int))).setCell ⟨g38, 2, none⟩ (.int .i64 (id.toNat : Int))).setCell ⟨g38, 3, none⟩ (.int .i64 (x11.toNat : Int))).setCell ⟨g38, 4, none⟩ (.int .u32 0)).setCell ⟨g38, 5, none⟩ (.int .u16 (p.toNat : Int))).setCell ⟨g38, 6, none⟩ (.int .u8 (x18.toNat : Int))).setCell ⟨g38, 7, none⟩ (.int .i64 (x19.toNat : Int))) = V2 at *
      have hB := hBV
      clear hBV hbk38 hle38
      generalize g38 = g at *
      go_wp2_with fail
      refine (HG12 _ rV).out.mono ?_
      rintro e w3 ⟨rfl, rfl⟩
      obtain ⟨k0, k1, k2, k3, k4, k5, k6, k7, f0, f1, f2, f3, f4, f5, f6, f7⟩ := KO.get8
      obtain ⟨m0, m1, m2, m3, m4, m5, m6, m7, n0, n1, n2, n3, n4, n5, n6, n7⟩ := KR.get8
      have hne : ¬ w.heap.size + 1 = g := by omega
      have hne2 : ¬ g = w.heap.size + 1 := by omega
      have hle : w.heap.size ≤ w.heap.size + 1 := Nat.le_succ _
      have hB9 := bset8 (hB.setCell (p := ⟨g, 4, none⟩) hle0 (.int .u32 (a.toNat : Int))) hle (.int .u64 (N : Int)) (.int .i64 (x8.toNat : Int)) (.int .i64 (id.toNat : Int)) (.int .i64 (x11.toNat : Int)) (.int .u32 (a.toNat : Int)) (.int .u16 (p.toNat : Int)) (.int .u8 (x18.toNat : Int)) (.int .i64 (x19.toNat : Int))
      clear HG HG12 KO KR rV hr0 hB
      go_wp2_with fail
      simp [bodyPost, results, Try.results21, go_sem, *]
      try exact hB9
end
end Go.Proofs.Ytggcomociojfoaa
