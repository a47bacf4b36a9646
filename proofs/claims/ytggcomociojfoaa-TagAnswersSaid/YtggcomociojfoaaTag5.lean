/- Contract of Parse, where it reads. -/
import Derived.Test.YtggcomociojfoaaTag4
namespace Go.Proofs.Ytggcomociojfoaa
open Go.RowKit

section
variable (lo hi : Nat) (h1 : lo < 18446744073709551616) (h2 : hi < 18446744073709551616)
include h1 h2
set_option maxHeartbeats 1000000 in
theorem parse_ok (A : Option Addr) (c : Nat) (xs : List UInt8) (w : World) (hr : Rd bv w w.heap.size A c xs) (h28 : xs.length = 28) (hG : Hid ((xs == sgn lo hi (xs.take (xs.length - 8))) = true)) (N : Nat) (hN : Hid (n64 xs = N)) (x8 x11 x18 x19 : UInt8) (e8 : Hid (xs.getD 8 0 = x8)) (e11 : Hid (xs.getD 11 0 = x11)) (e18 : Hid (xs.getD 18 0 = x18)) (e19 : Hid (xs.getD 19 0 = x19)) (id : UInt16) (hid : beN ((xs.drop 9).take 2) = id.toNat) (a : UInt32) (ha : beN ((xs.drop 12).take 4) = a.toNat) (p : UInt16) (hp : beN ((xs.drop 16).take 2) = p.toNat) : Calls Try.prog 18 #[.agg #[.int .u64 (lo : Int), .int .u64 (hi : Int)], .slice A xs.length c] w fun e w' => e = .returned (.tuple #[.agg #[.int .u64 (N : Int), .int .i64 (x8.toNat : Int), .int .i64 (id.toNat : Int), .int .i64 (x11.toNat : Int), .int .u32 (a.toNat : Int), .int .u16 (p.toNat : Int), .int .u8 (x18.toNat : Int), .int .i64 (x19.toNat : Int)], .int .i64 0]) ∧ Below w.heap.size w w' := by
  obtain ⟨V, hV⟩ : ∃ V, V = (w.alloc (.cells #[.int .u64 (lo : Int), .int .u64 (hi : Int)] 35)).alloc (.cells #[.int .u64 0, .int .i64 0, .int .i64 0, .int .i64 0, .int .u32 0, .int .u16 0, .int .u8 0, .int .i64 0] 37) := ⟨_, rfl⟩
  have hB : Below w.heap.size w V := by subst hV; exact bnextA (bnextA (Below.refl _ _) _) _
  have K : Blk V w.heap.size [.int .u64 (lo : Int), .int .u64 (hi : Int)] 35 := by subst hV; exact (Blk.new _ _ _).alloc _
  have KR : Blk V (w.heap.size + 1) [.int .u64 0, .int .i64 0, .int .i64 0, .int .i64 0, .int .u32 0, .int .u16 0, .int .u8 0, .int .i64 0] 37 := by
    subst hV
    have := Blk.new (w.alloc (.cells #[.int .u64 (lo : Int), .int .u64 (hi : Int)] 35)) #[.int .u64 0, .int .i64 0, .int .i64 0, .int .i64 0, .int .u32 0, .int .u16 0, .int .u8 0, .int .i64 0] 37
    simpa using this
  have rV := hr.next hB
  have hlc := hr.len
  have hcc := hr.cap
  have q1 : (!((xs.length : Int) == 28)) = false := by simp; omega
  have q2 : ((xs.length : Int) == 28) = true := by simp; omega
  have q3 : ((xs.length : Int) != 28) = false := by simp; omega
  have HR := Lib.hid (right_any lo hi h1 h2 A c xs V rV (by omega) (by omega) true hG)
  have hr0 := hr
  obtain ⟨b, off, hA, hb, hc⟩ := rV.at_ (k := 0) (by omega)
  subst hA
  have c8 := hc 8 (by omega)
  simp only [bv] at c8
  have c9 := hc 9 (by omega)
  simp only [bv] at c9
  have c10 := hc 10 (by omega)
  simp only [bv] at c10
  have c11 := hc 11 (by omega)
  simp only [bv] at c11
  have c16 := hc 16 (by omega)
  simp only [bv] at c16
  have c17 := hc 17 (by omega)
  simp only [bv] at c17
  have c18 := hc 18 (by omega)
  simp only [bv] at c18
  have c19 := hc 19 (by omega)
  simp only [bv] at c19
  rw [show xs[8] = x8 by rw [← e8.out]; simp [List.getD, show 8 < xs.length by omega]] at c8
  rw [show xs[11] = x11 by rw [← e11.out]; simp [List.getD, show 11 < xs.length by omega]] at c11
  rw [show xs[18] = x18 by rw [← e18.out]; simp [List.getD, show 18 < xs.length by omega]] at c18
  rw [show xs[19] = x19 by rw [← e19.out]; simp [List.getD, show 19 < xs.length by omega]] at c19
  generalize hx9 : xs[9] = x9 at c9
  generalize hx10 : xs[10] = x10 at c10
  generalize hx16 : xs[16] = x16 at c16
  generalize hx17 : xs[17] = x17 at c17
  clear hx9 hx10 hx16 hx17
  have HG := fun W (h : Rd bv W W.heap.size (some ⟨b, off, none⟩) c xs) => Lib.hid (get64_any (some ⟨b, off, none⟩) c xs W h (by omega))
  rw [hN.out] at HG
  have HG9 := fun W (h : Rd bv W W.heap.size (some ⟨b, off, none⟩) c xs) => Lib.hid (get16_b (some ⟨b, off, none⟩) c xs 9 9 _ rfl W h (by omega) hid)
  have HG12 := fun W (h : Rd bv W W.heap.size (some ⟨b, off, none⟩) c xs) => Lib.hid (get32_b (some ⟨b, off, none⟩) c xs 12 12 _ rfl W h (by omega) ha)
  have HG16 := fun W (h : Rd bv W W.heap.size (some ⟨b, off, none⟩) c xs) => Lib.hid (get16_b (some ⟨b, off, none⟩) c xs 16 16 _ rfl W h (by omega) hp)
  have l8 : (8 : Int) < (xs.length : Int) := by omega
  have l9 : (9 : Int) < (xs.length : Int) := by omega
  have l10 : (10 : Int) < (xs.length : Int) := by omega
  have l11 : (11 : Int) < (xs.length : Int) := by omega
  have l16 : (16 : Int) < (xs.length : Int) := by omega
  have l17 : (17 : Int) < (xs.length : Int) := by omega
  have l18 : (18 : Int) < (xs.length : Int) := by omega
  have l19 : (19 : Int) < (xs.length : Int) := by omega
  obtain ⟨z0, z1, -⟩ := K.get2
  clear e8 e11 e18 e19 hc hr
  clear h28
  go_enter Try.func18, Try.ntmps18
  go_wp2_with fail
  rw [← hV]
  clear hV
  refine HR.out.mono ?_
  rintro e V1 ⟨rfl, hbel⟩
  have d8 := (hbel.cell (p := ⟨b, off + 8, none⟩) hb).trans c8
  have d9 := (hbel.cell (p := ⟨b, off + 9, none⟩) hb).trans c9
  have d10 := (hbel.cell (p := ⟨b, off + 10, none⟩) hb).trans c10
  have d11 := (hbel.cell (p := ⟨b, off + 11, none⟩) hb).trans c11
  have d16 := (hbel.cell (p := ⟨b, off + 16, none⟩) hb).trans c16
  have d17 := (hbel.cell (p := ⟨b, off + 17, none⟩) hb).trans c17
  have d18 := (hbel.cell (p := ⟨b, off + 18, none⟩) hb).trans c18
  have d19 := (hbel.cell (p := ⟨b, off + 19, none⟩) hb).trans c19
  have hb1 : b < V1.heap.size := Nat.lt_of_lt_of_le hb hbel.size
  replace hB := bnext hB hbel
  replace KR := KR.next hbel
  replace rV := rV.next hbel
  clear hbel HR K z0 z1 c8 c9 c10 c11 c16 c17 c18 c19 hb
  have c8 := d8
  have c9 := d9
  have c10 := d10
  have c11 := d11
  have c16 := d16
  have c17 := d17
  have c18 := d18
  have c19 := d19
  have hb := hb1
  clear hb1 d8 d9 d10 d11 d16 d17 d18 d19
  have hRlt := KR.lt
  have HCC : ∀ W, Below V1.heap.size V1 W → (W.cell? ⟨b, off + 8, none⟩ = some (.int .u8 (x8.toNat : Int)) ∧ W.cell? ⟨b, off + 9, none⟩ = some (.int .u8 (x9.toNat : Int)) ∧ W.cell? ⟨b, off + 10, none⟩ = some (.int .u8 (x10.toNat : Int)) ∧ W.cell? ⟨b, off + 11, none⟩ = some (.int .u8 (x11.toNat : Int)) ∧ W.cell? ⟨b, off + 16, none⟩ = some (.int .u8 (x16.toNat : Int)) ∧ W.cell? ⟨b, off + 17, none⟩ = some (.int .u8 (x17.toNat : Int)) ∧ W.cell? ⟨b, off + 18, none⟩ = some (.int .u8 (x18.toNat : Int)) ∧ W.cell? ⟨b, off + 19, none⟩ = some (.int .u8 (x19.toNat : Int))) := by
    intro W h
    exact ⟨(h.cell (p := ⟨b, off + 8, none⟩) hb).trans c8, (h.cell (p := ⟨b, off + 9, none⟩) hb).trans c9, (h.cell (p := ⟨b, off + 10, none⟩) hb).trans c10, (h.cell (p := ⟨b, off + 11, none⟩) hb).trans c11, (h.cell (p := ⟨b, off + 16, none⟩) hb).trans c16, (h.cell (p := ⟨b, off + 17, none⟩) hb).trans c17, (h.cell (p := ⟨b, off + 18, none⟩) hb).trans c18, (h.cell (p := ⟨b, off + 19, none⟩) hb).trans c19⟩
  clear c8 c9 c10 c11 c16 c17 c18 c19 hb
  go_wp2_with fail
  refine region_put_last (by kernel_rfl) (by kernel_rfl) (by kernel_rfl) 57 rfl (by kernel_rfl) V1 (fun i v W => match i with
      | 0 => v = .slice (some ⟨b, off, none⟩) xs.length c
      | 1 => v = .int .u64 (N : Int)
      | 2 => v = .slice (some ⟨b, off, none⟩) xs.length c
      | 3 => v = .pointer (some ⟨b, off + 8, none⟩)
      | 4 => v = .int .u8 (x8.toNat : Int)
      | 5 => v = .int .i64 (x8.toNat : Int)
      | 6 => v = .slice (some ⟨b, off, none⟩) xs.length c
      | 7 => v = .pointer (some ⟨b, off + 11, none⟩)
      | 8 => v = .int .u8 (x11.toNat : Int)
      | 9 => v = .int .i64 (x11.toNat : Int)
      | 10 => v = .slice (some ⟨b, off, none⟩) xs.length c
      | 11 => v = .pointer (some ⟨b, off + 18, none⟩)
      | 12 => v = .int .u8 (x18.toNat : Int)
      | 13 => v = .slice (some ⟨b, off, none⟩) xs.length c
      | 14 => v = .pointer (some ⟨b, off + 19, none⟩)
      | 15 => v = .int .u8 (x19.toNat : Int)
      | 16 => v = .int .i64 (x19.toNat : Int)
      | 17 => v = .agg #[.int .u64 (N : Int), .int .i64 (x8.toNat : Int), .int .i64 0, .int .i64 (x11.toNat : Int), .int .u32 0, .int .u16 0, .int .u8 (x18.toNat : Int), .int .i64 (x19.toNat : Int)]
      | 18 => ∃ g, v = .pointer (some ⟨g, 0, none⟩) ∧ V1.heap.size ≤ g ∧ Blk W g [.int .u64 0, .int .i64 0, .int .i64 0, .int .i64 0, .int .u32 0, .int .u16 0, .int .u8 0, .int .i64 0] 37
      | _ => True) (Below.refl _ _) 19 rfl (by kernel_rfl) (by intro o h; obtain rfl := Option.some.inj h; rfl) ?_ ?_ ?_
  · intro i v W W' h hb
    match i, h with
    | 0, h => exact h
    | 1, h => exact h
    | 2, h => exact h
    | 3, h => exact h
    | 4, h => exact h
    | 5, h => exact h
    | 6, h => exact h
    | 7, h => exact h
    | 8, h => exact h
    | 9, h => exact h
    | 10, h => exact h
    | 11, h => exact h
    | 12, h => exact h
    | 13, h => exact h
    | 14, h => exact h
    | 15, h => exact h
    | 16, h => exact h
    | 17, h => exact h
    | 18, h => obtain ⟨g, h1, h2, h3⟩ := h; exact ⟨g, h1, h2, h3.next hb⟩
    | _ + 19, _ => trivial
  · intro i oo uu W him hoo hVW hd
    rcases i with _|_|_|_|_|_|_|_|_|_|_|_|_|_|_|_|_|_|_|i
    · obtain rfl := Option.some.inj hoo
      refine .inl ⟨wanted_none rfl, ?_⟩
      generalize hev : Act.eval _ = ev
      have ec : ∀ c, ev (.const c) = c := fun c => by rw [← hev]; rfl
      have e1 : ev (.tmp 1) = .slice (some ⟨b, off, none⟩) xs.length c := by rw [← hev]; exact eval_old (by kernel_rfl) 57 rfl (by decide) rfl
      clear hev hd
      exact .inl ⟨_, W, by go_simp, rfl, Below.refl _ _⟩
    · obtain rfl := Option.some.inj hoo
      have q0 : uu 0 = .slice (some ⟨b, off, none⟩) xs.length c := hd 0 (by kernel_rfl)
      refine .inl ⟨wanted_none rfl, ?_⟩
      generalize hev : Act.eval _ = ev
      have ec : ∀ c, ev (.const c) = c := fun c => by rw [← hev]; rfl
      have ef : ∀ f, ev (.func f) = .func (.func f) #[] #[] := fun f => by rw [← hev]; rfl
      have e18 : ev (.tmp 18) = .slice (some ⟨b, off, none⟩) xs.length c := by rw [← hev]; exact (eval_put (by kernel_rfl) 57 rfl (by decide)).trans q0
      clear hev hd q0
      exact .inr ⟨_, _, _, by go_simp, (HG W (rV.next hVW)).out, fun e w' he => ⟨_, he.1, rfl, he.2⟩⟩
    · obtain rfl := Option.some.inj hoo
      refine .inl ⟨wanted_none rfl, ?_⟩
      generalize hev : Act.eval _ = ev
      have ec : ∀ c, ev (.const c) = c := fun c => by rw [← hev]; rfl
      have e1 : ev (.tmp 1) = .slice (some ⟨b, off, none⟩) xs.length c := by rw [← hev]; exact eval_old (by kernel_rfl) 57 rfl (by decide) rfl
      clear hev hd
      exact .inl ⟨_, W, by go_simp, rfl, Below.refl _ _⟩
    · obtain rfl := Option.some.inj hoo
      have q2 : uu 2 = .slice (some ⟨b, off, none⟩) xs.length c := hd 2 (by kernel_rfl)
      refine .inl ⟨wanted_none rfl, ?_⟩
      generalize hev : Act.eval _ = ev
      have ec : ∀ c, ev (.const c) = c := fun c => by rw [← hev]; rfl
      have e20 : ev (.tmp 20) = .slice (some ⟨b, off, none⟩) xs.length c := by rw [← hev]; exact (eval_put (by kernel_rfl) 57 rfl (by decide)).trans q2
      clear hev hd q2
      exact .inl ⟨_, W, by go_simp, rfl, Below.refl _ _⟩
    · obtain rfl := Option.some.inj hoo
      have q3 : uu 3 = .pointer (some ⟨b, off + 8, none⟩) := hd 3 (by kernel_rfl)
      refine .inl ⟨wanted_none rfl, ?_⟩
      generalize hev : Act.eval _ = ev
      have ec : ∀ c, ev (.const c) = c := fun c => by rw [← hev]; rfl
      have e21 : ev (.tmp 21) = .pointer (some ⟨b, off + 8, none⟩) := by rw [← hev]; exact (eval_put (by kernel_rfl) 57 rfl (by decide)).trans q3
      clear hev hd q3
      obtain ⟨cc0, cc1, cc2, cc3, cc4, cc5, cc6, cc7⟩ := HCC W hVW
      exact .inl ⟨_, W, by go_simp, rfl, Below.refl _ _⟩
    · obtain rfl := Option.some.inj hoo
      have q4 : uu 4 = .int .u8 (x8.toNat : Int) := hd 4 (by kernel_rfl)
      refine .inl ⟨wanted_none rfl, ?_⟩
      generalize hev : Act.eval _ = ev
      have ec : ∀ c, ev (.const c) = c := fun c => by rw [← hev]; rfl
      have e22 : ev (.tmp 22) = .int .u8 (x8.toNat : Int) := by rw [← hev]; exact (eval_put (by kernel_rfl) 57 rfl (by decide)).trans q4
      clear hev hd q4
      have hh : IntKind.i64.wrap (x8.toNat : Int) = (x8.toNat : Int) := by rw [IntKind.wrap_i64]; have := x8.toNat_lt; omega
      exact .inl ⟨_, W, by go_simp, rfl, Below.refl _ _⟩
    · obtain rfl := Option.some.inj hoo
      refine .inl ⟨wanted_none rfl, ?_⟩
      generalize hev : Act.eval _ = ev
      have ec : ∀ c, ev (.const c) = c := fun c => by rw [← hev]; rfl
      have e1 : ev (.tmp 1) = .slice (some ⟨b, off, none⟩) xs.length c := by rw [← hev]; exact eval_old (by kernel_rfl) 57 rfl (by decide) rfl
      clear hev hd
      exact .inl ⟨_, W, by go_simp, rfl, Below.refl _ _⟩
    · obtain rfl := Option.some.inj hoo
      have q6 : uu 6 = .slice (some ⟨b, off, none⟩) xs.length c := hd 6 (by kernel_rfl)
      refine .inl ⟨wanted_none rfl, ?_⟩
      generalize hev : Act.eval _ = ev
      have ec : ∀ c, ev (.const c) = c := fun c => by rw [← hev]; rfl
      have e24 : ev (.tmp 24) = .slice (some ⟨b, off, none⟩) xs.length c := by rw [← hev]; exact (eval_put (by kernel_rfl) 57 rfl (by decide)).trans q6
      clear hev hd q6
      exact .inl ⟨_, W, by go_simp, rfl, Below.refl _ _⟩
    · obtain rfl := Option.some.inj hoo
      have q7 : uu 7 = .pointer (some ⟨b, off + 11, none⟩) := hd 7 (by kernel_rfl)
      refine .inl ⟨wanted_none rfl, ?_⟩
      generalize hev : Act.eval _ = ev
      have ec : ∀ c, ev (.const c) = c := fun c => by rw [← hev]; rfl
      have e25 : ev (.tmp 25) = .pointer (some ⟨b, off + 11, none⟩) := by rw [← hev]; exact (eval_put (by kernel_rfl) 57 rfl (by decide)).trans q7
      clear hev hd q7
      obtain ⟨cc0, cc1, cc2, cc3, cc4, cc5, cc6, cc7⟩ := HCC W hVW
      exact .inl ⟨_, W, by go_simp, rfl, Below.refl _ _⟩
    · obtain rfl := Option.some.inj hoo
      have q8 : uu 8 = .int .u8 (x11.toNat : Int) := hd 8 (by kernel_rfl)
      refine .inl ⟨wanted_none rfl, ?_⟩
      generalize hev : Act.eval _ = ev
      have ec : ∀ c, ev (.const c) = c := fun c => by rw [← hev]; rfl
      have e26 : ev (.tmp 26) = .int .u8 (x11.toNat : Int) := by rw [← hev]; exact (eval_put (by kernel_rfl) 57 rfl (by decide)).trans q8
      clear hev hd q8
      have hh : IntKind.i64.wrap (x11.toNat : Int) = (x11.toNat : Int) := by rw [IntKind.wrap_i64]; have := x11.toNat_lt; omega
      exact .inl ⟨_, W, by go_simp, rfl, Below.refl _ _⟩
    · obtain rfl := Option.some.inj hoo
      refine .inl ⟨wanted_none rfl, ?_⟩
      generalize hev : Act.eval _ = ev
      have ec : ∀ c, ev (.const c) = c := fun c => by rw [← hev]; rfl
      have e1 : ev (.tmp 1) = .slice (some ⟨b, off, none⟩) xs.length c := by rw [← hev]; exact eval_old (by kernel_rfl) 57 rfl (by decide) rfl
      clear hev hd
      exact .inl ⟨_, W, by go_simp, rfl, Below.refl _ _⟩
    · obtain rfl := Option.some.inj hoo
      have q10 : uu 10 = .slice (some ⟨b, off, none⟩) xs.length c := hd 10 (by kernel_rfl)
      refine .inl ⟨wanted_none rfl, ?_⟩
      generalize hev : Act.eval _ = ev
      have ec : ∀ c, ev (.const c) = c := fun c => by rw [← hev]; rfl
      have e28 : ev (.tmp 28) = .slice (some ⟨b, off, none⟩) xs.length c := by rw [← hev]; exact (eval_put (by kernel_rfl) 57 rfl (by decide)).trans q10
      clear hev hd q10
      exact .inl ⟨_, W, by go_simp, rfl, Below.refl _ _⟩
    · obtain rfl := Option.some.inj hoo
      have q11 : uu 11 = .pointer (some ⟨b, off + 18, none⟩) := hd 11 (by kernel_rfl)
      refine .inl ⟨wanted_none rfl, ?_⟩
      generalize hev : Act.eval _ = ev
      have ec : ∀ c, ev (.const c) = c := fun c => by rw [← hev]; rfl
      have e29 : ev (.tmp 29) = .pointer (some ⟨b, off + 18, none⟩) := by rw [← hev]; exact (eval_put (by kernel_rfl) 57 rfl (by decide)).trans q11
      clear hev hd q11
      obtain ⟨cc0, cc1, cc2, cc3, cc4, cc5, cc6, cc7⟩ := HCC W hVW
      exact .inl ⟨_, W, by go_simp, rfl, Below.refl _ _⟩
    · obtain rfl := Option.some.inj hoo
      refine .inl ⟨wanted_none rfl, ?_⟩
      generalize hev : Act.eval _ = ev
      have ec : ∀ c, ev (.const c) = c := fun c => by rw [← hev]; rfl
      have e1 : ev (.tmp 1) = .slice (some ⟨b, off, none⟩) xs.length c := by rw [← hev]; exact eval_old (by kernel_rfl) 57 rfl (by decide) rfl
      clear hev hd
      exact .inl ⟨_, W, by go_simp, rfl, Below.refl _ _⟩
    · obtain rfl := Option.some.inj hoo
      have q13 : uu 13 = .slice (some ⟨b, off, none⟩) xs.length c := hd 13 (by kernel_rfl)
      refine .inl ⟨wanted_none rfl, ?_⟩
      generalize hev : Act.eval _ = ev
      have ec : ∀ c, ev (.const c) = c := fun c => by rw [← hev]; rfl
      have e31 : ev (.tmp 31) = .slice (some ⟨b, off, none⟩) xs.length c := by rw [← hev]; exact (eval_put (by kernel_rfl) 57 rfl (by decide)).trans q13
      clear hev hd q13
      exact .inl ⟨_, W, by go_simp, rfl, Below.refl _ _⟩
    · obtain rfl := Option.some.inj hoo
      have q14 : uu 14 = .pointer (some ⟨b, off + 19, none⟩) := hd 14 (by kernel_rfl)
      refine .inl ⟨wanted_none rfl, ?_⟩
      generalize hev : Act.eval _ = ev
      have ec : ∀ c, ev (.const c) = c := fun c => by rw [← hev]; rfl
      have e32 : ev (.tmp 32) = .pointer (some ⟨b, off + 19, none⟩) := by rw [← hev]; exact (eval_put (by kernel_rfl) 57 rfl (by decide)).trans q14
      clear hev hd q14
      obtain ⟨cc0, cc1, cc2, cc3, cc4, cc5, cc6, cc7⟩ := HCC W hVW
      exact .inl ⟨_, W, by go_simp, rfl, Below.refl _ _⟩
    · obtain rfl := Option.some.inj hoo
      have q15 : uu 15 = .int .u8 (x19.toNat : Int) := hd 15 (by kernel_rfl)
      refine .inl ⟨wanted_none rfl, ?_⟩
      generalize hev : Act.eval _ = ev
      have ec : ∀ c, ev (.const c) = c := fun c => by rw [← hev]; rfl
      have e33 : ev (.tmp 33) = .int .u8 (x19.toNat : Int) := by rw [← hev]; exact (eval_put (by kernel_rfl) 57 rfl (by decide)).trans q15
      clear hev hd q15
      have hh : IntKind.i64.wrap (x19.toNat : Int) = (x19.toNat : Int) := by rw [IntKind.wrap_i64]; have := x19.toNat_lt; omega
      exact .inl ⟨_, W, by go_simp, rfl, Below.refl _ _⟩
    · obtain rfl := Option.some.inj hoo
      have q1 : uu 1 = .int .u64 (N : Int) := hd 1 (by kernel_rfl)
      have q5 : uu 5 = .int .i64 (x8.toNat : Int) := hd 5 (by kernel_rfl)
      have q9 : uu 9 = .int .i64 (x11.toNat : Int) := hd 9 (by kernel_rfl)
      have q12 : uu 12 = .int .u8 (x18.toNat : Int) := hd 12 (by kernel_rfl)
      have q16 : uu 16 = .int .i64 (x19.toNat : Int) := hd 16 (by kernel_rfl)
      refine .inl ⟨wanted_none rfl, ?_⟩
      generalize hev : Act.eval _ = ev
      have ec : ∀ c, ev (.const c) = c := fun c => by rw [← hev]; rfl
      have e19 : ev (.tmp 19) = .int .u64 (N : Int) := by rw [← hev]; exact (eval_put (by kernel_rfl) 57 rfl (by decide)).trans q1
      have e23 : ev (.tmp 23) = .int .i64 (x8.toNat : Int) := by rw [← hev]; exact (eval_put (by kernel_rfl) 57 rfl (by decide)).trans q5
      have e27 : ev (.tmp 27) = .int .i64 (x11.toNat : Int) := by rw [← hev]; exact (eval_put (by kernel_rfl) 57 rfl (by decide)).trans q9
      have e30 : ev (.tmp 30) = .int .u8 (x18.toNat : Int) := by rw [← hev]; exact (eval_put (by kernel_rfl) 57 rfl (by decide)).trans q12
      have e34 : ev (.tmp 34) = .int .i64 (x19.toNat : Int) := by rw [← hev]; exact (eval_put (by kernel_rfl) 57 rfl (by decide)).trans q16
      clear hev hd q1 q5 q9 q12 q16
      exact .inl ⟨_, W, by go_simp, rfl, Below.refl _ _⟩
    · obtain rfl := Option.some.inj hoo
      refine .inl ⟨wanted_none rfl, ?_⟩
      generalize hev : Act.eval _ = ev
      have ec : ∀ c, ev (.const c) = c := fun c => by rw [← hev]; rfl
      clear hev hd
      exact .inl ⟨_, W.alloc (.cells #[.int .u64 0, .int .i64 0, .int .i64 0, .int .i64 0, .int .u32 0, .int .u16 0, .int .u8 0, .int .i64 0] 37), by go_simp, ⟨W.heap.size, rfl, hVW.size, Blk.new W #[.int .u64 0, .int .i64 0, .int .i64 0, .int .i64 0, .int .u32 0, .int .u16 0, .int .u8 0, .int .i64 0] 37⟩, bnextA (Below.refl _ _) _⟩
    · omega
  · intro oo uu W hoo hVW hall
    obtain rfl := Option.some.inj hoo
    obtain ⟨g18, q18, hle18, hbk18⟩ := hall 18 (by decide)
    have q17 : uu 17 = .agg #[.int .u64 (N : Int), .int .i64 (x8.toNat : Int), .int .i64 0, .int .i64 (x11.toNat : Int), .int .u32 0, .int .u16 0, .int .u8 (x18.toNat : Int), .int .i64 (x19.toNat : Int)] := hall 17 (by decide)
    refine ⟨wanted_none rfl, ?_⟩
    generalize hev : Act.eval _ = ev
    have ec : ∀ c, ev (.const c) = c := fun c => by rw [← hev]; rfl
    have e6 : ev (.tmp 6) = .pointer (some ⟨g18, 0, none⟩) := by rw [← hev]; exact (eval_put (by kernel_rfl) 57 rfl (by decide)).trans q18
    have e35 : ev (.tmp 35) = .agg #[.int .u64 (N : Int), .int .i64 (x8.toNat : Int), .int .i64 0, .int .i64 (x11.toNat : Int), .int .u32 0, .int .u16 0, .int .u8 (x18.toNat : Int), .int .i64 (x19.toNat : Int)] := by rw [← hev]; exact (eval_put (by kernel_rfl) 57 rfl (by decide)).trans q17
    clear hev hall
    obtain ⟨k0, k1, k2, k3, k4, k5, k6, k7, f0, f1, f2, f3, f4, f5, f6, f7⟩ := hbk18.get8
    refine ⟨_, by (go_simp <;> rfl), ?_⟩
    have hle0 : w.heap.size ≤ g18 := Nat.le_trans hB.size hle18
    have hBV := bset8 (hB.trans (hVW.mono hB.size)) hle0 (.int .u64 (N : Int)) (.int .i64 (x8.toNat : Int)) (.int .i64 0) (.int .i64 (x11.toNat : Int)) (.int .u32 0) (.int .u16 0) (.int .u8 (x18.toNat : Int)) (.int .i64 (x19.toNat : Int))
    have KO := hbk18.set8 (u0 := .int .u64 (N : Int)) (u1 := .int .i64 (x8.toNat : Int)) (u2 := .int .i64 0) (u3 := .int .i64 (x11.toNat : Int)) (u4 := .int .u32 0) (u5 := .int .u16 0) (u6 := .int .u8 (x18.toNat : Int)) (u7 := .int .i64 (x19.toNat : Int))
    have hBU := bset8 (B := V1.heap.size) hVW hle18 (.int .u64 (N : Int)) (.int .i64 (x8.toNat : Int)) (.int .i64 0) (.int .i64 (x11.toNat : Int)) (.int .u32 0) (.int .u16 0) (.int .u8 (x18.toNat : Int)) (.int .i64 (x19.toNat : Int))
    replace KR := KR.next hBU
    replace rV := rV.next hBU
    have hgt : w.heap.size + 1 < g18 := Nat.lt_of_lt_of_le hRlt hle18
    clear hB hVW hBU hRlt
    simp only [putAll, Act.put, Nat.reduceAdd, q18]
    simp only [List.setIfInBounds_toArray, List.set_cons_succ, List.set_cons_zero]
    clear q18
    generalize ((((((((W.setCell ⟨g18, 0, none⟩ (.int .u64 (N : Int))).setCell ⟨g18, 1, none⟩ (.int .i64 (x8.toNat : Int))).setCell ⟨g18, 2, none⟩ (.int .i64 0)).setCell ⟨g18, 3, none⟩ (.int .i64 (x11.toNat : Int))).setCell ⟨g18, 4, none⟩ (.int .u32 0)).setCell ⟨g18, 5, none⟩ (.int .u16 0)).setCell ⟨g18, 6, none⟩ (.int .u8 (x18.toNat : Int))).setCell ⟨g18, 7, none⟩ (.int .i64 (x19.toNat : Int))) = V2 at *
    have hB := hBV
    clear hBV hbk18 hle18
    generalize g18 = g at *
    go_wp2_with fail
    refine (HG9 _ rV).out.mono ?_
    rintro e w3 ⟨rfl, hbel⟩
    replace hB := bnext hB hbel
    replace KO := KO.next hbel
    replace KR := KR.next hbel
    replace rV := rV.next hbel
    clear hbel
    have hw9 : IntKind.i64.wrap (id.toNat : Int) = (id.toNat : Int) := by rw [IntKind.wrap_i64]; have := id.toNat_lt; omega
    obtain ⟨k0, k1, k2, k3, k4, k5, k6, k7, f0, f1, f2, f3, f4, f5, f6, f7⟩ := KO.get8
    go_wp2_with fail
    have hBn := hB.setCell (p := ⟨g, 2, none⟩) hle0 (.int .i64 (id.toNat : Int))
    have KRn := KR.other (g' := g) (by omega) 2 (.int .i64 (id.toNat : Int))
    have KOn := KO.set 2 (.int .i64 (id.toNat : Int))
    have rVn := hr0.next hBn
    clear k0 k1 k2 k3 k4 k5 k6 k7 f0 f1 f2 f3 f4 f5 f6 f7 hB KR KO rV
    have hB := hBn
    have KR := KRn
    have KO := KOn
    have rV := rVn
    clear hBn KRn KOn rVn
    refine (HG12 _ rV).out.mono ?_
    rintro e w4 ⟨rfl, hbel⟩
    replace hB := bnext hB hbel
    replace KO := KO.next hbel
    replace KR := KR.next hbel
    replace rV := rV.next hbel
    clear hbel
    obtain ⟨k0, k1, k2, k3, k4, k5, k6, k7, f0, f1, f2, f3, f4, f5, f6, f7⟩ := KO.get8
    go_wp2_with fail
    have hBn := hB.setCell (p := ⟨g, 4, none⟩) hle0 (.int .u32 (a.toNat : Int))
    have KRn := KR.other (g' := g) (by omega) 4 (.int .u32 (a.toNat : Int))
    have KOn := KO.set 4 (.int .u32 (a.toNat : Int))
    have rVn := hr0.next hBn
    clear k0 k1 k2 k3 k4 k5 k6 k7 f0 f1 f2 f3 f4 f5 f6 f7 hB KR KO rV
    have hB := hBn
    have KR := KRn
    have KO := KOn
    have rV := rVn
    clear hBn KRn KOn rVn
    refine (HG16 _ rV).out.mono ?_
    rintro e w5 ⟨rfl, hbel⟩
    replace hB := bnext hB hbel
    replace KO := KO.next hbel
    replace KR := KR.next hbel
    replace rV := rV.next hbel
    clear hbel
    obtain ⟨k0, k1, k2, k3, k4, k5, k6, k7, f0, f1, f2, f3, f4, f5, f6, f7⟩ := KO.get8
    obtain ⟨m0, m1, m2, m3, m4, m5, m6, m7, n0, n1, n2, n3, n4, n5, n6, n7⟩ := KR.get8
    have hne : ¬ w.heap.size + 1 = g := by omega
    have hne2 : ¬ g = w.heap.size + 1 := by omega
    have hle : w.heap.size ≤ w.heap.size + 1 := Nat.le_succ _
    have hB9 := bset8 (hB.setCell (p := ⟨g, 5, none⟩) hle0 (.int .u16 (p.toNat : Int))) hle (.int .u64 (N : Int)) (.int .i64 (x8.toNat : Int)) (.int .i64 (id.toNat : Int)) (.int .i64 (x11.toNat : Int)) (.int .u32 (a.toNat : Int)) (.int .u16 (p.toNat : Int)) (.int .u8 (x18.toNat : Int)) (.int .i64 (x19.toNat : Int))
    clear HG HG9 HG16 HG12 KO KR rV hr0 hB
    go_wp2_with fail
    simp [bodyPost, results, Try.results18, go_sem, *]
    try exact hB9
end
end Go.Proofs.Ytggcomociojfoaa
