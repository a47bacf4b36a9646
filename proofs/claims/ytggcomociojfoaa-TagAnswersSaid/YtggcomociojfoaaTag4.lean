/- Contracts of Parse on both sides. -/
import Derived.Test.YtggcomociojfoaaTag3
import Derived.Test.YtggcomociojfoaaReg2
namespace Go.Proofs.Ytggcomociojfoaa
open Go.RowKit

theorem get16_b (A : Option Addr) (c : Nat) (bs : List UInt8) (k : Nat) (K : Int) (n : Nat) (hK : K = (k : Int)) (w : World) (hb : Rd bv w w.heap.size A c bs) (h : k + 2 ≤ bs.length) (hn : beN ((bs.drop k).take 2) = n) :
    Calls Try.prog 50 #[.slice A bs.length c, .int .i64 K] w fun e w' => e = .returned (.tuple #[.int .u16 (n : Int), .bool true]) ∧ Below w.heap.size w w' := by
  subst hK hn
  exact (get16_yes A c bs k w _ hb h).mono fun e w' ⟨he, j, hw⟩ => ⟨he, by subst hw; exact below_drewN (Below.refl _ _) j⟩
theorem get32_b (A : Option Addr) (c : Nat) (bs : List UInt8) (k : Nat) (K : Int) (n : Nat) (hK : K = (k : Int)) (w : World) (hb : Rd bv w w.heap.size A c bs) (h : k + 4 ≤ bs.length) (hn : beN ((bs.drop k).take 4) = n) :
    Calls Try.prog 51 #[.slice A bs.length c, .int .i64 K] w fun e w' => e = .returned (.tuple #[.int .u32 (n : Int), .bool true]) ∧ Below w.heap.size w w' := by
  subst hK hn
  exact (get32_yes A c bs k w _ hb h).mono fun e w' ⟨he, j, hw⟩ => ⟨he, by subst hw; exact below_drewN (Below.refl _ _) j⟩
set_option maxHeartbeats 400000 in
theorem parse_form (lo hi : Nat) (A : Option Addr) (c : Nat) (xs : List UInt8) (w : World) (hr : Rd bv w w.heap.size A c xs) (hl : xs.length ≠ 28) : Calls Try.prog 18 #[.agg #[.int .u64 (lo : Int), .int .u64 (hi : Int)], .slice A xs.length c] w fun e w' => e = .returned (.tuple #[.agg #[.int .u64 0, .int .i64 0, .int .i64 0, .int .i64 0, .int .u32 0, .int .u16 0, .int .u8 0, .int .i64 0], .int .i64 3]) ∧ Below w.heap.size w w' := by
  have hlc := hr.len
  have hcc := hr.cap
  have q1 : (!((xs.length : Int) == 28)) = true := by simp; omega
  have q2 : ((xs.length : Int) == 28) = false := by simp; omega
  have q3 : ((xs.length : Int) != 28) = true := by simp; omega
  clear hr
  go_enter Try.func18, Try.ntmps18
  go_wp2_with fail
  simp [bodyPost, results, Try.results18, go_sem, *]
  exact bnextA (bnextA (Below.refl _ _) _) _
set_option maxHeartbeats 400000 in
theorem rparse_form (lo hi : Nat) (A : Option Addr) (c : Nat) (xs : List UInt8) (w : World) (hr : Rd bv w w.heap.size A c xs) (hl : xs.length ≠ 28) : Calls Try.prog 21 #[.agg #[.int .u64 (lo : Int), .int .u64 (hi : Int)], .slice A xs.length c] w fun e w' => e = .returned (.tuple #[.agg #[.int .u64 0, .int .i64 0, .int .i64 0, .int .i64 0, .int .u32 0, .int .u16 0, .int .u8 0, .int .i64 0], .int .i64 3]) ∧ Below w.heap.size w w' := by
  have hlc := hr.len
  have hcc := hr.cap
  have q1 : (!((xs.length : Int) == 28)) = true := by simp; omega
  have q2 : ((xs.length : Int) == 28) = false := by simp; omega
  have q3 : ((xs.length : Int) != 28) = true := by simp; omega
  clear hr
  go_enter Try.func21, Try.ntmps21
  go_wp2_with fail
  simp [bodyPost, results, Try.results21, go_sem, *]
  exact bnextA (bnextA (Below.refl _ _) _) _
section
variable (lo hi : Nat) (h1 : lo < 18446744073709551616) (h2 : hi < 18446744073709551616)
include h1 h2
set_option maxHeartbeats 400000 in
theorem parse_tag (A : Option Addr) (c : Nat) (xs : List UInt8) (w : World) (hr : Rd bv w w.heap.size A c xs) (h28 : xs.length = 28) (hG : Hid ((xs == sgn lo hi (xs.take (xs.length - 8))) = false)) : Calls Try.prog 18 #[.agg #[.int .u64 (lo : Int), .int .u64 (hi : Int)], .slice A xs.length c] w fun e w' => e = .returned (.tuple #[.agg #[.int .u64 0, .int .i64 0, .int .i64 0, .int .i64 0, .int .u32 0, .int .u16 0, .int .u8 0, .int .i64 0], .int .i64 12]) ∧ Below w.heap.size w w' := by
  obtain ⟨V, hV⟩ : ∃ V, V = (w.alloc (.cells #[.int .u64 (lo : Int), .int .u64 (hi : Int)] 35)).alloc (.cells #[.int .u64 0, .int .i64 0, .int .i64 0, .int .i64 0, .int .u32 0, .int .u16 0, .int .u8 0, .int .i64 0] 37) := ⟨_, rfl⟩
  have hB : Below w.heap.size w V := by subst hV; exact bnextA (bnextA (Below.refl _ _) _) _
  have K : Blk V w.heap.size [.int .u64 (lo : Int), .int .u64 (hi : Int)] 35 := by subst hV; exact (Blk.new _ _ _).alloc _
  have KR : Blk V (w.heap.size + 1) [.int .u64 0, .int .i64 0, .int .i64 0, .int .i64 0, .int .u32 0, .int .u16 0, .int .u8 0, .int .i64 0] 37 := by
    subst hV
    have := Blk.new (w.alloc (.cells #[.int .u64 (lo : Int), .int .u64 (hi : Int)] 35)) #[.int .u64 0, .int .i64 0, .int .i64 0, .int .i64 0, .int .u32 0, .int .u16 0, .int .u8 0, .int .i64 0] 37
    simpa using this
  have rV := hr.next hB
  have hlc := hr.len
  have hcc := hr.cap
  have q1 : (!((xs.length : Int) == 28)) = false := by simp; omega
  have q2 : ((xs.length : Int) == 28) = true := by simp; omega
  have q3 : ((xs.length : Int) != 28) = false := by simp; omega
  have HR := Lib.hid (right_any lo hi h1 h2 A c xs V rV (by omega) (by omega) false hG)
  obtain ⟨z0, z1, -⟩ := K.get2
  clear hr rV
  clear h28
  go_enter Try.func18, Try.ntmps18
  go_wp2_with fail
  rw [← hV]
  clear hV
  refine HR.out.mono ?_
  rintro e w1 ⟨rfl, hb⟩
  replace hB := bnext hB hb
  obtain ⟨k0, k1, k2, k3, k4, k5, k6, k7, f0, f1, f2, f3, f4, f5, f6, f7⟩ := (KR.next hb).get8
  have hle : w.heap.size ≤ w.heap.size + 1 := Nat.le_succ _
  clear hb HR KR K z0 z1
  go_wp2_with fail
  simp [bodyPost, results, Try.results18, go_sem, *]
  exact bset8 hB hle _ _ _ _ _ _ _ _
set_option maxHeartbeats 400000 in
theorem rparse_tag (A : Option Addr) (c : Nat) (xs : List UInt8) (w : World) (hr : Rd bv w w.heap.size A c xs) (h28 : xs.length = 28) (hG : Hid (sgn lo hi (xs.take 20) ≠ xs)) : Calls Try.prog 21 #[.agg #[.int .u64 (lo : Int), .int .u64 (hi : Int)], .slice A xs.length c] w fun e w' => e = .returned (.tuple #[.agg #[.int .u64 0, .int .i64 0, .int .i64 0, .int .i64 0, .int .u32 0, .int .u16 0, .int .u8 0, .int .i64 0], .int .i64 12]) ∧ Below w.heap.size w w' := by
  obtain ⟨V, hV⟩ : ∃ V, V = (w.alloc (.cells #[.int .u64 (lo : Int), .int .u64 (hi : Int)] 35)).alloc (.cells #[.int .u64 0, .int .i64 0, .int .i64 0, .int .i64 0, .int .u32 0, .int .u16 0, .int .u8 0, .int .i64 0] 37) := ⟨_, rfl⟩
  have hB : Below w.heap.size w V := by subst hV; exact bnextA (bnextA (Below.refl _ _) _) _
  have K : Blk V w.heap.size [.int .u64 (lo : Int), .int .u64 (hi : Int)] 35 := by subst hV; exact (Blk.new _ _ _).alloc _
  have KR : Blk V (w.heap.size + 1) [.int .u64 0, .int .i64 0, .int .i64 0, .int .i64 0, .int .u32 0, .int .u16 0, .int .u8 0, .int .i64 0] 37 := by
    subst hV
    have := Blk.new (w.alloc (.cells #[.int .u64 (lo : Int), .int .u64 (hi : Int)] 35)) #[.int .u64 0, .int .i64 0, .int .i64 0, .int .i64 0, .int .u32 0, .int .u16 0, .int .u8 0, .int .i64 0] 37
    simpa using this
  have rV := hr.next hB
  have hlc := hr.len
  have hcc := hr.cap
  have q1 : (!((xs.length : Int) == 28)) = false := by simp; omega
  have q2 : ((xs.length : Int) == 28) = true := by simp; omega
  have q3 : ((xs.length : Int) != 28) = false := by simp; omega
  obtain ⟨ys, hys⟩ : ∃ ys, xs.take 20 = ys := ⟨_, rfl⟩
  have rY := rV.take 20
  rw [hys] at hG rY
  have hyl : ys.length = 20 := by rw [← hys]; simp; omega
  have y1 : (20 : Int) ≤ (xs.length : Int) := by omega
  have y2 : (20 : Int) ≤ (c : Int) := by omega
  have HYL := Lib.hid hyl
  clear hys hr hyl
  have HCK : ∀ W, Below V.heap.size V W → (W.cell? ⟨w.heap.size, 0, none⟩ = some (.int .u64 (lo : Int)) ∧ W.cell? ⟨w.heap.size, 1, none⟩ = some (.int .u64 (hi : Int))) := by
    intro W h
    obtain ⟨p0, p1, -⟩ := (K.next h).get2
    exact ⟨p0, p1⟩
  clear h28
  go_enter Try.func21, Try.ntmps21
  go_wp2_with fail
  rw [← hV]
  clear hV
  refine region_put (by kernel_rfl) (by kernel_rfl) (by kernel_rfl) 64 rfl (by kernel_rfl) V (fun i v W => match i with
      | 0 => v = .agg #[.int .u64 (lo : Int), .int .u64 (hi : Int)]
      | 1 => v = .slice A xs.length c
      | 2 => ∃ L A c, v = .slice A L.length c ∧ Hid (L = ys) ∧ Rd bv W W.heap.size A c L
      | 3 => ∃ L A c, v = .slice A L.length c ∧ Hid (L = sgn lo hi ys) ∧ Rd bv W W.heap.size A c L
      | 4 => ∃ L A c, v = .slice A L.length c ∧ Hid (L = xs) ∧ Rd bv W W.heap.size A c L
      | 5 => v = .bool false
      | 6 => v = .bool true
      | _ => True) (Below.refl _ _) ?_ ?_ ?_
  · intro i v W W' h hb
    match i, h with
    | 0, h => exact h
    | 1, h => exact h
    | 2, h => obtain ⟨L, A, c, h1, h2, h3⟩ := h; exact ⟨L, A, c, h1, h2, h3.next hb⟩
    | 3, h => obtain ⟨L, A, c, h1, h2, h3⟩ := h; exact ⟨L, A, c, h1, h2, h3.next hb⟩
    | 4, h => obtain ⟨L, A, c, h1, h2, h3⟩ := h; exact ⟨L, A, c, h1, h2, h3.next hb⟩
    | 5, h => exact h
    | 6, h => exact h
    | _ + 7, _ => trivial
  · intro i o uu W hoo hVW hd
    rcases i with _|_|_|_|_|_|_|i
    · obtain rfl := Option.some.inj hoo
      refine .inl ⟨wanted_none rfl, ?_⟩
      generalize hev : Act.eval _ = ev
      have ec : ∀ c, ev (.const c) = c := fun c => by rw [← hev]; rfl
      have e2 : ev (.tmp 2) = .pointer (some ⟨w.heap.size, 0, none⟩) := by rw [← hev]; exact eval_old (by kernel_rfl) 64 rfl (by decide) rfl
      clear hev hd
      obtain ⟨cc0, cc1⟩ := HCK W hVW
      exact .inl ⟨_, W, by go_simp, rfl, Below.refl _ _⟩
    · obtain rfl := Option.some.inj hoo
      refine .inl ⟨wanted_none rfl, ?_⟩
      generalize hev : Act.eval _ = ev
      have ec : ∀ c, ev (.const c) = c := fun c => by rw [← hev]; rfl
      have e1 : ev (.tmp 1) = .slice A xs.length c := by rw [← hev]; exact eval_old (by kernel_rfl) 64 rfl (by decide) rfl
      clear hev hd
      exact .inl ⟨_, W, by go_simp, rfl, Below.refl _ _⟩
    · obtain rfl := Option.some.inj hoo
      have q1 : uu 1 = .slice A xs.length c := hd 1 (by kernel_rfl)
      refine .inl ⟨wanted_none rfl, ?_⟩
      generalize hev : Act.eval _ = ev
      have ec : ∀ c, ev (.const c) = c := fun c => by rw [← hev]; rfl
      have e12 : ev (.tmp 12) = .slice A xs.length c := by rw [← hev]; exact (eval_put (by kernel_rfl) 64 rfl (by decide)).trans q1
      clear hev hd q1
      have hyl := HYL.out
      exact .inl ⟨.slice A ys.length c, W, by go_simp, ⟨ys, A, c, rfl, rfl, (rY.next hVW)⟩, Below.refl _ _⟩
    · obtain rfl := Option.some.inj hoo
      have q0 : uu 0 = .agg #[.int .u64 (lo : Int), .int .u64 (hi : Int)] := hd 0 (by kernel_rfl)
      obtain ⟨L2, A2, c2, q2, HL2, r2⟩ := hd 2 (by kernel_rfl)
      refine .inl ⟨wanted_none rfl, ?_⟩
      generalize hev : Act.eval _ = ev
      have ec : ∀ c, ev (.const c) = c := fun c => by rw [← hev]; rfl
      have ef : ∀ f, ev (.func f) = .func (.func f) #[] #[] := fun f => by rw [← hev]; rfl
      have e11 : ev (.tmp 11) = .agg #[.int .u64 (lo : Int), .int .u64 (hi : Int)] := by rw [← hev]; exact (eval_put (by kernel_rfl) 64 rfl (by decide)).trans q0
      have e13 : ev (.tmp 13) = .slice A2 L2.length c2 := by rw [← hev]; exact (eval_put (by kernel_rfl) 64 rfl (by decide)).trans q2
      clear hev hd q0 q2
      exact .inr ⟨_, _, _, by go_simp, rsigned_any lo hi h1 h2 A2 c2 L2 W r2 (by have := HYL.out; rw [HL2.out]; omega), fun e w' he => by
        obtain ⟨L, A, c, rfl, HL, hr, hb⟩ := he
        exact ⟨_, rfl, ⟨L, A, c, rfl, (by rw [Hid, HL.out, HL2.out]), hr⟩, hb⟩⟩
    · obtain rfl := Option.some.inj hoo
      refine .inl ⟨wanted_none rfl, ?_⟩
      generalize hev : Act.eval _ = ev
      have ec : ∀ c, ev (.const c) = c := fun c => by rw [← hev]; rfl
      have e1 : ev (.tmp 1) = .slice A xs.length c := by rw [← hev]; exact eval_old (by kernel_rfl) 64 rfl (by decide) rfl
      clear hev hd
      exact .inl ⟨.slice A xs.length c, W, by go_simp, ⟨xs, A, c, rfl, rfl, (rV.next hVW)⟩, Below.refl _ _⟩
    · obtain rfl := Option.some.inj hoo
      obtain ⟨L3, A3, c3, q3, HL3, r3⟩ := hd 3 (by kernel_rfl)
      obtain ⟨L4, A4, c4, q4, HL4, r4⟩ := hd 4 (by kernel_rfl)
      refine .inl ⟨wanted_none rfl, ?_⟩
      generalize hev : Act.eval _ = ev
      have ec : ∀ c, ev (.const c) = c := fun c => by rw [← hev]; rfl
      have ef : ∀ f, ev (.func f) = .func (.func f) #[] #[] := fun f => by rw [← hev]; rfl
      have e14 : ev (.tmp 14) = .slice A3 L3.length c3 := by rw [← hev]; exact (eval_put (by kernel_rfl) 64 rfl (by decide)).trans q3
      have e15 : ev (.tmp 15) = .slice A4 L4.length c4 := by rw [← hev]; exact (eval_put (by kernel_rfl) 64 rfl (by decide)).trans q4
      clear hev hd q3 q4
      exact .inr ⟨_, _, _, by go_simp, rsame_no A3 A4 c3 c4 L3 L4 W _ r3 r4 (by rw [HL3.out, HL4.out]; exact hG.out), fun e w' he => ⟨_, he.1, rfl, he.2.bel⟩⟩
    · obtain rfl := Option.some.inj hoo
      have q5 : uu 5 = .bool false := hd 5 (by kernel_rfl)
      refine .inl ⟨wanted_none rfl, ?_⟩
      generalize hev : Act.eval _ = ev
      have ec : ∀ c, ev (.const c) = c := fun c => by rw [← hev]; rfl
      have e16 : ev (.tmp 16) = .bool false := by rw [← hev]; exact (eval_put (by kernel_rfl) 64 rfl (by decide)).trans q5
      clear hev hd q5
      exact .inl ⟨_, W, by go_simp, rfl, Below.refl _ _⟩
    · simp at hoo
  · intro uu W hVW hall
    have q6 : uu 6 = .bool true := hall 6 (by decide)
    replace hB := hB.trans (hVW.mono hB.size)
    obtain ⟨k0, k1, k2, k3, k4, k5, k6, k7, f0, f1, f2, f3, f4, f5, f6, f7⟩ := (KR.next hVW).get8
    have hle : w.heap.size ≤ w.heap.size + 1 := Nat.le_succ _
    clear hall HCK hVW
    simp only [putAll, Act.put, Nat.reduceAdd, q6]
    simp only [List.setIfInBounds_toArray, List.set_cons_succ, List.set_cons_zero]
    go_wp2_with fail
    simp [bodyPost, results, Try.results21, go_sem, *]
    exact bset8 hB hle _ _ _ _ _ _ _ _
end
end Go.Proofs.Ytggcomociojfoaa
