/- Contracts of the reference's Parse for datagrams. -/
import Derived.Test.YtkoamiefombilaaUdp4
import Derived.BigRegion
namespace Go.Proofs.Ytkoamiefombilaa
open Go.RowKit

theorem ruparse_short (s d : UInt32) (A : Option Addr) (c : Nat) (xs : List UInt8) (w : World) (hr : Rd bv w w.heap.size A c xs) (h8 : xs.length < 8) :
    Calls Try.prog 24 #[.int .u32 (s.toNat : Int), .int .u32 (d.toNat : Int), .slice A xs.length c] w fun e w' => e = .returned (.tuple #[.agg #[.int .u16 0, .int .u16 0, .bool false, .slice none 0 0], .int .i64 4]) ∧ Below w.heap.size w w' := by
  have hlc := hr.len
  have hcc := hr.cap
  go_enter Try.func24, Try.ntmps24
  go_wp2_with fail
  simp [bodyPost, results, Try.results24, go_sem]
  exact bnextA (Below.refl _ _) _

set_option maxHeartbeats 2000000 in
theorem ruparse_form (s d : UInt32) (A : Option Addr) (c : Nat) (xs : List UInt8) (w : World) (hr : Rd bv w w.heap.size A c xs) (h8 : 8 ≤ xs.length) (n : Nat) (hn : beN ((xs.drop 4).take 2) = n) (hn8 : n < 8) :
    Calls Try.prog 24 #[.int .u32 (s.toNat : Int), .int .u32 (d.toNat : Int), .slice A xs.length c] w fun e w' => e = .returned (.tuple #[.agg #[.int .u16 0, .int .u16 0, .bool false, .slice none 0 0], .int .i64 3]) ∧ Below w.heap.size w w' := by
  have hlc := hr.len
  have hcc := hr.cap
  have h2 := two_of xs 4 n (by omega) hn
  obtain ⟨b, off, rfl, hB, hcell⟩ := byt_at hr (k := 4) (by omega)
  obtain ⟨V0, hV0⟩ : ∃ V0, V0 = w.alloc (.cells #[.int .u16 0, .int .u16 0, .bool false, .slice none 0 0] 53) := ⟨_, rfl⟩
  have hb0 : Below w.heap.size w V0 := by rw [hV0]; exact bnextA (Below.refl _ _) _
  have k4 := (hb0.cell hB).trans (hcell 4 (by omega))
  have k5 := (hb0.cell hB).trans (hcell 5 (by omega))
  have hx4 := (xs[4]).toNat_lt
  have hx5 := (xs[5]).toNat_lt
  have i4 : (4 : Int) < (xs.length : Int) := by omega
  have i5 : (5 : Int) < (xs.length : Int) := by omega
  generalize xs[4] = x4 at *
  generalize xs[5] = x5 at *
  clear hcell hn hr
  have H2 := Lib.hid h2
  clear h2
  obtain ⟨p0, p1, p2, p3, f0, f1, f2, f3⟩ := blk4 (w := V0) (g := w.heap.size) (w0 := w) rfl (by rw [← hV0]; exact Below.refl _ _)
  go_enter Try.func24, Try.ntmps24
  go_wp2_with fail
  rw [← hV0]
  clear hV0
  go_quiet (fail)
  rw [H2.out]
  go_wp2_with fail
  simp [bodyPost, results, Try.results24, go_sem, *]
  exact bset4 (below_drewN hb0 _) (Nat.le_refl _) _ _ _ _

set_option maxHeartbeats 2000000 in
theorem ruparse_long (s d : UInt32) (A : Option Addr) (c : Nat) (xs : List UInt8) (w : World) (hr : Rd bv w w.heap.size A c xs) (h8 : 8 ≤ xs.length) (n : Nat) (hn : beN ((xs.drop 4).take 2) = n) (hn8 : 8 ≤ n) (hnl : xs.length < n) :
    Calls Try.prog 24 #[.int .u32 (s.toNat : Int), .int .u32 (d.toNat : Int), .slice A xs.length c] w fun e w' => e = .returned (.tuple #[.agg #[.int .u16 0, .int .u16 0, .bool false, .slice none 0 0], .int .i64 4]) ∧ Below w.heap.size w w' := by
  have hlc := hr.len
  have hcc := hr.cap
  have h2 := two_of xs 4 n (by omega) hn
  obtain ⟨b, off, rfl, hB, hcell⟩ := byt_at hr (k := 4) (by omega)
  obtain ⟨V0, hV0⟩ : ∃ V0, V0 = w.alloc (.cells #[.int .u16 0, .int .u16 0, .bool false, .slice none 0 0] 53) := ⟨_, rfl⟩
  have hb0 : Below w.heap.size w V0 := by rw [hV0]; exact bnextA (Below.refl _ _) _
  have k4 := (hb0.cell hB).trans (hcell 4 (by omega))
  have k5 := (hb0.cell hB).trans (hcell 5 (by omega))
  have hx4 := (xs[4]).toNat_lt
  have hx5 := (xs[5]).toNat_lt
  have i4 : (4 : Int) < (xs.length : Int) := by omega
  have i5 : (5 : Int) < (xs.length : Int) := by omega
  generalize xs[4] = x4 at *
  generalize xs[5] = x5 at *
  clear hcell hn hr
  have H2 := Lib.hid h2
  clear h2
  obtain ⟨p0, p1, p2, p3, f0, f1, f2, f3⟩ := blk4 (w := V0) (g := w.heap.size) (w0 := w) rfl (by rw [← hV0]; exact Below.refl _ _)
  go_enter Try.func24, Try.ntmps24
  go_wp2_with fail
  rw [← hV0]
  clear hV0
  go_quiet (fail)
  rw [H2.out]
  go_wp2_with fail
  simp [bodyPost, results, Try.results24, go_sem, *]
  exact bset4 (below_drewN hb0 _) (Nat.le_refl _) _ _ _ _

set_option maxHeartbeats 4000000 in
theorem ruparse_sum (s d : UInt32) (A : Option Addr) (c : Nat) (xs ts : List UInt8) (w : World) (hr : Rd bv w w.heap.size A c xs) (h8 : 8 ≤ xs.length) (hl : xs.length ≤ 1000000) (hn : beN ((xs.drop 4).take 2) = ts.length) (hn8 : 8 ≤ ts.length) (hnl : ts.length ≤ xs.length) (hts : xs.take ts.length = ts) (t : Nat) (ht : beN ((xs.drop 6).take 2) = t) (ht0 : t ≠ 0) (hN : onesN (uh s d 17 ts.length ++ ts) ≠ 65535) :
    Calls Try.prog 24 #[.int .u32 (s.toNat : Int), .int .u32 (d.toNat : Int), .slice A xs.length c] w fun e w' => e = .returned (.tuple #[.agg #[.int .u16 0, .int .u16 0, .bool false, .slice none 0 0], .int .i64 5]) ∧ Below w.heap.size w w' := by
  have hn16 : ts.length ≤ 65535 := by rw [← hn, take_two xs 4 (by omega), beN_two]; have := (xs[4]).toNat_lt; have := (xs[4+1]).toNat_lt; omega
  have hlc := hr.len
  have hcc := hr.cap
  have h2 := two_of xs 4 ts.length (by omega) hn
  obtain ⟨b, off, rfl, hB, hcell⟩ := byt_at hr (k := 4) (by omega)
  obtain ⟨V0, hV0⟩ : ∃ V0, V0 = w.alloc (.cells #[.int .u16 0, .int .u16 0, .bool false, .slice none 0 0] 53) := ⟨_, rfl⟩
  have hb0 : Below w.heap.size w V0 := by rw [hV0]; exact bnextA (Below.refl _ _) _
  have k4 := (hb0.cell hB).trans (hcell 4 (by omega))
  have k5 := (hb0.cell hB).trans (hcell 5 (by omega))
  have hx4 := (xs[4]).toNat_lt
  have hx5 := (xs[5]).toNat_lt
  have i4 : (4 : Int) < (xs.length : Int) := by omega
  have i5 : (5 : Int) < (xs.length : Int) := by omega
  have i6 : (6 : Int) < (xs.length : Int) := by omega
  have i7 : (7 : Int) < (xs.length : Int) := by omega
  have t2 := two_of xs 6 t (by omega) ht
  have hrt : Rd bv V0 V0.heap.size (some ⟨b, off, none⟩) c ts := by rw [← hts]; exact (hr.next hb0).take _
  have hr0 := hr.next hb0
  have hcut := fun W (h : Rd bv W W.heap.size (some ⟨b, off, none⟩) c xs) => rcut_yes (some ⟨b, off, none⟩) c xs 8 (ts.length - 8) W h (by omega) hl
  rw [show ((ts.length - 8 : Nat) : Int) = (ts.length : Int) - 8 by omega] at hcut
  have hCUT := fun W h => Lib.hid (hcut W h)
  have hh : ∀ W, Hid (Calls Try.prog 63 #[.int .u32 (s.toNat : Int), .int .u32 (d.toNat : Int), .int .u8 17, .int .i64 (ts.length : Int)] W fun e w' => ∃ L A c, e = .returned (.slice A L.length c) ∧ Hid (L = uh s d 17 ts.length) ∧ Rd bv w' w'.heap.size A c L ∧ Below W.heap.size W w') := fun W => ruhead_any s d 17 ts.length hn16 W
  have HCC : ∀ U, Below w.heap.size w U → ∀ j (_ : j < xs.length), U.cell? ⟨b, off + j, none⟩ = some (.int .u8 ((xs[j]).toNat : Int)) := fun U h j hj => (h.cell hB).trans (hcell j hj)
  have k6 := HCC _ hb0 6 (by omega)
  have k7 := HCC _ hb0 7 (by omega)
  generalize xs[4] = x4 at *
  generalize xs[5] = x5 at *
  generalize xs[6] = x6 at *
  generalize xs[7] = x7 at *
  have H2 := Lib.hid h2
  obtain ⟨N, hNe⟩ : ∃ N, onesN (uh s d 17 ts.length ++ ts) = N := ⟨_, rfl⟩
  rw [hNe] at hN
  have HN := fun (_ : Unit) => Lib.hid hNe
  have HNN : ∀ _ : Unit, (¬ ((N : Int) = 65535)) := fun _ => by first | exact hN | (have := hN; omega)
  clear hN hNe
  have hZ0 : Below V0.heap.size V0 V0 := Below.refl _ _
  have hRES : ∀ U, Below V0.heap.size V0 U → (U.cell? ⟨w.heap.size, 0, none⟩ = some (.int .u16 0) ∧ U.cell? ⟨w.heap.size, 1, none⟩ = some (.int .u16 0) ∧ U.cell? ⟨w.heap.size, 2, none⟩ = some (.bool false) ∧ U.cell? ⟨w.heap.size, 3, none⟩ = some (.slice none 0 0) ∧ U.frozen? ⟨w.heap.size, 0, none⟩ = false ∧ U.frozen? ⟨w.heap.size, 1, none⟩ = false ∧ U.frozen? ⟨w.heap.size, 2, none⟩ = false ∧ U.frozen? ⟨w.heap.size, 3, none⟩ = false) := by
    intro U h
    rw [hV0] at h
    exact blk4 rfl h
  have hs0 : w.heap.size < V0.heap.size := by rw [hV0]; simp
  clear hcell h2 hr hcut hn hts ht HCC
  have hcase : ((x6.toNat : Int) == 0) = false ∨ (((x6.toNat : Int) == 0) = true ∧ ((x7.toNat : Int) == 0) = false) := by
    by_cases h : x6.toNat = 0
    · right; constructor <;> simp <;> omega
    · left; simp; omega
  clear t2 ht0
  rcases hcase with q6 | ⟨q6, q7⟩
  · go_enter Try.func24, Try.ntmps24
    go_wp2_with fail
    rw [← hV0]
    clear hV0
    go_quiet (fail)
    rw [H2.out]
    go_wp2_with fail
    have hV0V := below_drewN hZ0 nq
    generalize V0.drewN nq = V at hV0V ⊢
    refine region_put (by kernel_rfl) (by kernel_rfl) (by kernel_rfl) 89 rfl (by kernel_rfl) V (fun i v W => match i with
        | 0 => v = .bool false
        | 1 => v = .bool true
        | 2 => v = .bool true
        | 3 => v = .int .u32 (s.toNat : Int)
        | 4 => v = .int .u32 (d.toNat : Int)
        | 5 => v = .int .i64 (ts.length : Int)
        | 6 => ∃ L A c, v = .slice A L.length c ∧ Hid (L = uh s d 17 ts.length) ∧ Rd bv W W.heap.size A c L
        | 7 => v = .slice (some ⟨b, off, none⟩) xs.length c
        | 8 => v = .int .i64 (ts.length : Int)
        | 9 => ∃ L A c, v = .slice A L.length c ∧ Hid (L = ts) ∧ Rd bv W W.heap.size A c L
        | 10 => ∃ L A c, v = .slice A L.length c ∧ Hid (L = uh s d 17 ts.length ++ ts) ∧ Rd bv W W.heap.size A c L
        | 11 => v = .int .i64 (N : Nat)
        | 12 => v = .bool true
        | 13 => v = .bool true
        | _ => True) (Below.refl _ _) ?_ ?_ ?_
    · intro i v W W' h hb
      match i, h with
      | 0, h => exact h
      | 1, h => exact h
      | 2, h => exact h
      | 3, h => exact h
      | 4, h => exact h
      | 5, h => exact h
      | 6, h => obtain ⟨L, A, c, h1, h2, h3⟩ := h; exact ⟨L, A, c, h1, h2, h3.next hb⟩
      | 7, h => exact h
      | 8, h => exact h
      | 9, h => obtain ⟨L, A, c, h1, h2, h3⟩ := h; exact ⟨L, A, c, h1, h2, h3.next hb⟩
      | 10, h => obtain ⟨L, A, c, h1, h2, h3⟩ := h; exact ⟨L, A, c, h1, h2, h3.next hb⟩
      | 11, h => exact h
      | 12, h => exact h
      | 13, h => exact h
      | _ + 14, _ => trivial
    · intro i o uu W ho hVW hd
      rcases i with _|_|_|_|_|_|_|_|_|_|_|_|_|_|i
      · obtain rfl := Option.some.inj ho
        refine .inl ⟨wanted_none rfl, ?_⟩
        generalize hev : Act.eval _ = ev
        have ec : ∀ c, ev (.const c) = c := fun c => by rw [← hev]; rfl
        have e9 : ev (.tmp 9) = .bool false := by rw [← hev]; exact eval_old (by kernel_rfl) 89 rfl (by decide) rfl
        clear hev hd
        exact .inl ⟨_, W, by go_simp, rfl, Below.refl _ _⟩
      · obtain rfl := Option.some.inj ho
        have q0 : uu 0 = .bool false := hd 0 (by kernel_rfl)
        refine .inl ⟨wanted_none rfl, ?_⟩
        generalize hev : Act.eval _ = ev
        have ec : ∀ c, ev (.const c) = c := fun c => by rw [← hev]; rfl
        have e44 : ev (.tmp 44) = .bool false := by rw [← hev]; exact (eval_put (by kernel_rfl) 89 rfl (by decide)).trans q0
        clear hev hd q0
        exact .inl ⟨_, W, by go_simp, rfl, Below.refl _ _⟩
      · obtain rfl := Option.some.inj ho
        have q1 : uu 1 = .bool true := hd 1 (by kernel_rfl)
        refine .inl ⟨wanted_none rfl, ?_⟩
        generalize hev : Act.eval _ = ev
        have ec : ∀ c, ev (.const c) = c := fun c => by rw [← hev]; rfl
        have e45 : ev (.tmp 45) = .bool true := by rw [← hev]; exact (eval_put (by kernel_rfl) 89 rfl (by decide)).trans q1
        clear hev hd q1
        exact .inl ⟨_, W, by go_simp, rfl, Below.refl _ _⟩
      · obtain rfl := Option.some.inj ho
        have q2 : uu 2 = .bool true := hd 2 (by kernel_rfl)
        refine .inl ⟨wanted_yes rfl (yielded_put (k := 46) (by kernel_rfl) (by kernel_rfl) 89 rfl (by decide) q2), ?_⟩
        generalize hev : Act.eval _ = ev
        have ec : ∀ c, ev (.const c) = c := fun c => by rw [← hev]; rfl
        have e0 : ev (.tmp 0) = .int .u32 (s.toNat : Int) := by rw [← hev]; exact eval_old (by kernel_rfl) 89 rfl (by decide) rfl
        clear hev hd q2
        exact .inl ⟨_, W, by go_simp, rfl, Below.refl _ _⟩
      · obtain rfl := Option.some.inj ho
        have q2 : uu 2 = .bool true := hd 2 (by kernel_rfl)
        refine .inl ⟨wanted_yes rfl (yielded_put (k := 46) (by kernel_rfl) (by kernel_rfl) 89 rfl (by decide) q2), ?_⟩
        generalize hev : Act.eval _ = ev
        have ec : ∀ c, ev (.const c) = c := fun c => by rw [← hev]; rfl
        have e1 : ev (.tmp 1) = .int .u32 (d.toNat : Int) := by rw [← hev]; exact eval_old (by kernel_rfl) 89 rfl (by decide) rfl
        clear hev hd q2
        exact .inl ⟨_, W, by go_simp, rfl, Below.refl _ _⟩
      · obtain rfl := Option.some.inj ho
        have q2 : uu 2 = .bool true := hd 2 (by kernel_rfl)
        refine .inl ⟨wanted_yes rfl (yielded_put (k := 46) (by kernel_rfl) (by kernel_rfl) 89 rfl (by decide) q2), ?_⟩
        generalize hev : Act.eval _ = ev
        have ec : ∀ c, ev (.const c) = c := fun c => by rw [← hev]; rfl
        have e8 : ev (.tmp 8) = .int .i64 (ts.length : Int) := by rw [← hev]; exact eval_old (by kernel_rfl) 89 rfl (by decide) rfl
        clear hev hd q2
        exact .inl ⟨_, W, by go_simp, rfl, Below.refl _ _⟩
      · obtain rfl := Option.some.inj ho
        have q3 : uu 3 = .int .u32 (s.toNat : Int) := hd 3 (by kernel_rfl)
        have q4 : uu 4 = .int .u32 (d.toNat : Int) := hd 4 (by kernel_rfl)
        have q5 : uu 5 = .int .i64 (ts.length : Int) := hd 5 (by kernel_rfl)
        have q2 : uu 2 = .bool true := hd 2 (by kernel_rfl)
        refine .inl ⟨wanted_yes rfl (yielded_put (k := 46) (by kernel_rfl) (by kernel_rfl) 89 rfl (by decide) q2), ?_⟩
        generalize hev : Act.eval _ = ev
        have ec : ∀ c, ev (.const c) = c := fun c => by rw [← hev]; rfl
        have ef : ∀ f, ev (.func f) = .func (.func f) #[] #[] := fun f => by rw [← hev]; rfl
        have e47 : ev (.tmp 47) = .int .u32 (s.toNat : Int) := by rw [← hev]; exact (eval_put (by kernel_rfl) 89 rfl (by decide)).trans q3
        have e48 : ev (.tmp 48) = .int .u32 (d.toNat : Int) := by rw [← hev]; exact (eval_put (by kernel_rfl) 89 rfl (by decide)).trans q4
        have e49 : ev (.tmp 49) = .int .i64 (ts.length : Int) := by rw [← hev]; exact (eval_put (by kernel_rfl) 89 rfl (by decide)).trans q5
        clear hev hd q3 q4 q5 q2
        exact .inr ⟨_, _, _, by go_simp, (hh W).out, fun e w' he => by
          obtain ⟨L, A, c, rfl, HL, hr, hb⟩ := he
          exact ⟨_, rfl, ⟨L, A, c, rfl, HL, hr⟩, hb⟩⟩
      · obtain rfl := Option.some.inj ho
        have q2 : uu 2 = .bool true := hd 2 (by kernel_rfl)
        refine .inl ⟨wanted_yes rfl (yielded_put (k := 46) (by kernel_rfl) (by kernel_rfl) 89 rfl (by decide) q2), ?_⟩
        generalize hev : Act.eval _ = ev
        have ec : ∀ c, ev (.const c) = c := fun c => by rw [← hev]; rfl
        have e2 : ev (.tmp 2) = .slice (some ⟨b, off, none⟩) xs.length c := by rw [← hev]; exact eval_old (by kernel_rfl) 89 rfl (by decide) rfl
        clear hev hd q2
        exact .inl ⟨_, W, by go_simp, rfl, Below.refl _ _⟩
      · obtain rfl := Option.some.inj ho
        have q2 : uu 2 = .bool true := hd 2 (by kernel_rfl)
        refine .inl ⟨wanted_yes rfl (yielded_put (k := 46) (by kernel_rfl) (by kernel_rfl) 89 rfl (by decide) q2), ?_⟩
        generalize hev : Act.eval _ = ev
        have ec : ∀ c, ev (.const c) = c := fun c => by rw [← hev]; rfl
        have e8 : ev (.tmp 8) = .int .i64 (ts.length : Int) := by rw [← hev]; exact eval_old (by kernel_rfl) 89 rfl (by decide) rfl
        clear hev hd q2
        exact .inl ⟨_, W, by go_simp, rfl, Below.refl _ _⟩
      · obtain rfl := Option.some.inj ho
        have q7 : uu 7 = .slice (some ⟨b, off, none⟩) xs.length c := hd 7 (by kernel_rfl)
        have q8 : uu 8 = .int .i64 (ts.length : Int) := hd 8 (by kernel_rfl)
        have q2 : uu 2 = .bool true := hd 2 (by kernel_rfl)
        refine .inl ⟨wanted_yes rfl (yielded_put (k := 46) (by kernel_rfl) (by kernel_rfl) 89 rfl (by decide) q2), ?_⟩
        generalize hev : Act.eval _ = ev
        have ec : ∀ c, ev (.const c) = c := fun c => by rw [← hev]; rfl
        have e51 : ev (.tmp 51) = .slice (some ⟨b, off, none⟩) xs.length c := by rw [← hev]; exact (eval_put (by kernel_rfl) 89 rfl (by decide)).trans q7
        have e52 : ev (.tmp 52) = .int .i64 (ts.length : Int) := by rw [← hev]; exact (eval_put (by kernel_rfl) 89 rfl (by decide)).trans q8
        clear hev hd q7 q8 q2
        have hcl : ts.length ≤ c := by omega
        exact .inl ⟨_, W, by go_simp, ⟨ts, (some ⟨b, off, none⟩), c, rfl, rfl, hrt.next (bnext hV0V hVW)⟩, Below.refl _ _⟩
      · obtain rfl := Option.some.inj ho
        obtain ⟨L6, A6, c6, q6, HL6, r6⟩ := hd 6 (by kernel_rfl)
        obtain ⟨L9, A9, c9, q9, HL9, r9⟩ := hd 9 (by kernel_rfl)
        have q2 : uu 2 = .bool true := hd 2 (by kernel_rfl)
        refine .inl ⟨wanted_yes rfl (yielded_put (k := 46) (by kernel_rfl) (by kernel_rfl) 89 rfl (by decide) q2), ?_⟩
        generalize hev : Act.eval _ = ev
        have ec : ∀ c, ev (.const c) = c := fun c => by rw [← hev]; rfl
        have ef : ∀ f, ev (.func f) = .func (.func f) #[] #[] := fun f => by rw [← hev]; rfl
        have e50 : ev (.tmp 50) = .slice A6 L6.length c6 := by rw [← hev]; exact (eval_put (by kernel_rfl) 89 rfl (by decide)).trans q6
        have e53 : ev (.tmp 53) = .slice A9 L9.length c9 := by rw [← hev]; exact (eval_put (by kernel_rfl) 89 rfl (by decide)).trans q9
        clear hev hd q6 q9 q2
        exact .inr ⟨_, _, _, by go_simp, radd_any _ _ _ _ L6 L9 W r6 r9 (by rw [HL6.out, HL9.out, uh_len]; omega), fun e w' he => by
          obtain ⟨v, rfl, hown, hb⟩ := he
          obtain ⟨L, A, c, HL, rfl, hr⟩ := hown.rdv
          exact ⟨_, rfl, ⟨L, A, c, rfl, by rw [Hid, HL.out, HL6.out, HL9.out], hr⟩, hb⟩⟩
      · obtain rfl := Option.some.inj ho
        obtain ⟨L10, A10, c10, q10, HL10, r10⟩ := hd 10 (by kernel_rfl)
        have q2 : uu 2 = .bool true := hd 2 (by kernel_rfl)
        refine .inl ⟨wanted_yes rfl (yielded_put (k := 46) (by kernel_rfl) (by kernel_rfl) 89 rfl (by decide) q2), ?_⟩
        generalize hev : Act.eval _ = ev
        have ec : ∀ c, ev (.const c) = c := fun c => by rw [← hev]; rfl
        have ef : ∀ f, ev (.func f) = .func (.func f) #[] #[] := fun f => by rw [← hev]; rfl
        have e54 : ev (.tmp 54) = .slice A10 L10.length c10 := by rw [← hev]; exact (eval_put (by kernel_rfl) 89 rfl (by decide)).trans q10
        clear hev hd q10 q2
        exact .inr ⟨_, _, _, by go_simp, rones_any _ _ L10 N W _ r10 (by rw [HL10.out]; simp [uh_len]; omega) (by rw [HL10.out]; exact (HN ()).out), fun e w' he => ⟨_, he.1, rfl, he.2 ▸ Below.refl _ _⟩⟩
      · obtain rfl := Option.some.inj ho
        have q11 : uu 11 = .int .i64 (N : Nat) := hd 11 (by kernel_rfl)
        have q2 : uu 2 = .bool true := hd 2 (by kernel_rfl)
        refine .inl ⟨wanted_yes rfl (yielded_put (k := 46) (by kernel_rfl) (by kernel_rfl) 89 rfl (by decide) q2), ?_⟩
        generalize hev : Act.eval _ = ev
        have ec : ∀ c, ev (.const c) = c := fun c => by rw [← hev]; rfl
        have e55 : ev (.tmp 55) = .int .i64 (N : Nat) := by rw [← hev]; exact (eval_put (by kernel_rfl) 89 rfl (by decide)).trans q11
        clear hev hd q11 q2
        have hnn := HNN ()
        exact .inl ⟨_, W, by go_simp, rfl, Below.refl _ _⟩
      · obtain rfl := Option.some.inj ho
        have q2 : uu 2 = .bool true := hd 2 (by kernel_rfl)
        have q12 : uu 12 = .bool true := hd 12 (by kernel_rfl)
        refine .inl ⟨wanted_none rfl, ?_⟩
        generalize hev : Act.eval _ = ev
        have ec : ∀ c, ev (.const c) = c := fun c => by rw [← hev]; rfl
        have e46 : ev (.tmp 46) = .bool true := by rw [← hev]; exact (eval_put (by kernel_rfl) 89 rfl (by decide)).trans q2
        have e56 : ev (.tmp 56) = .bool true := by rw [← hev]; exact (eval_put (by kernel_rfl) 89 rfl (by decide)).trans q12
        clear hev hd q2 q12
        exact .inl ⟨_, W, by go_simp, rfl, Below.refl _ _⟩
      · simp at ho
    · intro uu W hVW hall
      have q13 : uu 13 = .bool true := hall 13 (by decide)
      have hVV := bnext hV0V hVW
      clear hall hVW
      simp only [putAll, Act.put, Nat.reduceAdd, q13]
      simp only [List.setIfInBounds_toArray, List.set_cons_succ, List.set_cons_zero]
      clear hh hrt HN HNN
      obtain ⟨p0, p1, p2, p3, f0, f1, f2, f3⟩ := hRES _ hVV
      go_wp2_with fail
      simp [bodyPost, results, Try.results24, go_sem, *]
      exact bset4 (bnext hb0 hVV) (Nat.le_refl _) _ _ _ _
  · go_enter Try.func24, Try.ntmps24
    go_wp2_with fail
    rw [← hV0]
    clear hV0
    go_quiet (fail)
    rw [H2.out]
    go_wp2_with fail
    have hV0V := below_drewN hZ0 nq
    generalize V0.drewN nq = V at hV0V ⊢
    refine region_put (by kernel_rfl) (by kernel_rfl) (by kernel_rfl) 89 rfl (by kernel_rfl) V (fun i v W => match i with
        | 0 => v = .bool false
        | 1 => v = .bool true
        | 2 => v = .bool true
        | 3 => v = .int .u32 (s.toNat : Int)
        | 4 => v = .int .u32 (d.toNat : Int)
        | 5 => v = .int .i64 (ts.length : Int)
        | 6 => ∃ L A c, v = .slice A L.length c ∧ Hid (L = uh s d 17 ts.length) ∧ Rd bv W W.heap.size A c L
        | 7 => v = .slice (some ⟨b, off, none⟩) xs.length c
        | 8 => v = .int .i64 (ts.length : Int)
        | 9 => ∃ L A c, v = .slice A L.length c ∧ Hid (L = ts) ∧ Rd bv W W.heap.size A c L
        | 10 => ∃ L A c, v = .slice A L.length c ∧ Hid (L = uh s d 17 ts.length ++ ts) ∧ Rd bv W W.heap.size A c L
        | 11 => v = .int .i64 (N : Nat)
        | 12 => v = .bool true
        | 13 => v = .bool true
        | _ => True) (Below.refl _ _) ?_ ?_ ?_
    · intro i v W W' h hb
      match i, h with
      | 0, h => exact h
      | 1, h => exact h
      | 2, h => exact h
      | 3, h => exact h
      | 4, h => exact h
      | 5, h => exact h
      | 6, h => obtain ⟨L, A, c, h1, h2, h3⟩ := h; exact ⟨L, A, c, h1, h2, h3.next hb⟩
      | 7, h => exact h
      | 8, h => exact h
      | 9, h => obtain ⟨L, A, c, h1, h2, h3⟩ := h; exact ⟨L, A, c, h1, h2, h3.next hb⟩
      | 10, h => obtain ⟨L, A, c, h1, h2, h3⟩ := h; exact ⟨L, A, c, h1, h2, h3.next hb⟩
      | 11, h => exact h
      | 12, h => exact h
      | 13, h => exact h
      | _ + 14, _ => trivial
    · intro i o uu W ho hVW hd
      rcases i with _|_|_|_|_|_|_|_|_|_|_|_|_|_|i
      · obtain rfl := Option.some.inj ho
        refine .inl ⟨wanted_none rfl, ?_⟩
        generalize hev : Act.eval _ = ev
        have ec : ∀ c, ev (.const c) = c := fun c => by rw [← hev]; rfl
        have e9 : ev (.tmp 9) = .bool false := by rw [← hev]; exact eval_old (by kernel_rfl) 89 rfl (by decide) rfl
        clear hev hd
        exact .inl ⟨_, W, by go_simp, rfl, Below.refl _ _⟩
      · obtain rfl := Option.some.inj ho
        have q0 : uu 0 = .bool false := hd 0 (by kernel_rfl)
        refine .inl ⟨wanted_none rfl, ?_⟩
        generalize hev : Act.eval _ = ev
        have ec : ∀ c, ev (.const c) = c := fun c => by rw [← hev]; rfl
        have e44 : ev (.tmp 44) = .bool false := by rw [← hev]; exact (eval_put (by kernel_rfl) 89 rfl (by decide)).trans q0
        clear hev hd q0
        exact .inl ⟨_, W, by go_simp, rfl, Below.refl _ _⟩
      · obtain rfl := Option.some.inj ho
        have q1 : uu 1 = .bool true := hd 1 (by kernel_rfl)
        refine .inl ⟨wanted_none rfl, ?_⟩
        generalize hev : Act.eval _ = ev
        have ec : ∀ c, ev (.const c) = c := fun c => by rw [← hev]; rfl
        have e45 : ev (.tmp 45) = .bool true := by rw [← hev]; exact (eval_put (by kernel_rfl) 89 rfl (by decide)).trans q1
        clear hev hd q1
        exact .inl ⟨_, W, by go_simp, rfl, Below.refl _ _⟩
      · obtain rfl := Option.some.inj ho
        have q2 : uu 2 = .bool true := hd 2 (by kernel_rfl)
        refine .inl ⟨wanted_yes rfl (yielded_put (k := 46) (by kernel_rfl) (by kernel_rfl) 89 rfl (by decide) q2), ?_⟩
        generalize hev : Act.eval _ = ev
        have ec : ∀ c, ev (.const c) = c := fun c => by rw [← hev]; rfl
        have e0 : ev (.tmp 0) = .int .u32 (s.toNat : Int) := by rw [← hev]; exact eval_old (by kernel_rfl) 89 rfl (by decide) rfl
        clear hev hd q2
        exact .inl ⟨_, W, by go_simp, rfl, Below.refl _ _⟩
      · obtain rfl := Option.some.inj ho
        have q2 : uu 2 = .bool true := hd 2 (by kernel_rfl)
        refine .inl ⟨wanted_yes rfl (yielded_put (k := 46) (by kernel_rfl) (by kernel_rfl) 89 rfl (by decide) q2), ?_⟩
        generalize hev : Act.eval _ = ev
        have ec : ∀ c, ev (.const c) = c := fun c => by rw [← hev]; rfl
        have e1 : ev (.tmp 1) = .int .u32 (d.toNat : Int) := by rw [← hev]; exact eval_old (by kernel_rfl) 89 rfl (by decide) rfl
        clear hev hd q2
        exact .inl ⟨_, W, by go_simp, rfl, Below.refl _ _⟩
      · obtain rfl := Option.some.inj ho
        have q2 : uu 2 = .bool true := hd 2 (by kernel_rfl)
        refine .inl ⟨wanted_yes rfl (yielded_put (k := 46) (by kernel_rfl) (by kernel_rfl) 89 rfl (by decide) q2), ?_⟩
        generalize hev : Act.eval _ = ev
        have ec : ∀ c, ev (.const c) = c := fun c => by rw [← hev]; rfl
        have e8 : ev (.tmp 8) = .int .i64 (ts.length : Int) := by rw [← hev]; exact eval_old (by kernel_rfl) 89 rfl (by decide) rfl
        clear hev hd q2
        exact .inl ⟨_, W, by go_simp, rfl, Below.refl _ _⟩
      · obtain rfl := Option.some.inj ho
        have q3 : uu 3 = .int .u32 (s.toNat : Int) := hd 3 (by kernel_rfl)
        have q4 : uu 4 = .int .u32 (d.toNat : Int) := hd 4 (by kernel_rfl)
        have q5 : uu 5 = .int .i64 (ts.length : Int) := hd 5 (by kernel_rfl)
        have q2 : uu 2 = .bool true := hd 2 (by kernel_rfl)
        refine .inl ⟨wanted_yes rfl (yielded_put (k := 46) (by kernel_rfl) (by kernel_rfl) 89 rfl (by decide) q2), ?_⟩
        generalize hev : Act.eval _ = ev
        have ec : ∀ c, ev (.const c) = c := fun c => by rw [← hev]; rfl
        have ef : ∀ f, ev (.func f) = .func (.func f) #[] #[] := fun f => by rw [← hev]; rfl
        have e47 : ev (.tmp 47) = .int .u32 (s.toNat : Int) := by rw [← hev]; exact (eval_put (by kernel_rfl) 89 rfl (by decide)).trans q3
        have e48 : ev (.tmp 48) = .int .u32 (d.toNat : Int) := by rw [← hev]; exact (eval_put (by kernel_rfl) 89 rfl (by decide)).trans q4
        have e49 : ev (.tmp 49) = .int .i64 (ts.length : Int) := by rw [← hev]; exact (eval_put (by kernel_rfl) 89 rfl (by decide)).trans q5
        clear hev hd q3 q4 q5 q2
        exact .inr ⟨_, _, _, by go_simp, (hh W).out, fun e w' he => by
          obtain ⟨L, A, c, rfl, HL, hr, hb⟩ := he
          exact ⟨_, rfl, ⟨L, A, c, rfl, HL, hr⟩, hb⟩⟩
      · obtain rfl := Option.some.inj ho
        have q2 : uu 2 = .bool true := hd 2 (by kernel_rfl)
        refine .inl ⟨wanted_yes rfl (yielded_put (k := 46) (by kernel_rfl) (by kernel_rfl) 89 rfl (by decide) q2), ?_⟩
        generalize hev : Act.eval _ = ev
        have ec : ∀ c, ev (.const c) = c := fun c => by rw [← hev]; rfl
        have e2 : ev (.tmp 2) = .slice (some ⟨b, off, none⟩) xs.length c := by rw [← hev]; exact eval_old (by kernel_rfl) 89 rfl (by decide) rfl
        clear hev hd q2
        exact .inl ⟨_, W, by go_simp, rfl, Below.refl _ _⟩
      · obtain rfl := Option.some.inj ho
        have q2 : uu 2 = .bool true := hd 2 (by kernel_rfl)
        refine .inl ⟨wanted_yes rfl (yielded_put (k := 46) (by kernel_rfl) (by kernel_rfl) 89 rfl (by decide) q2), ?_⟩
        generalize hev : Act.eval _ = ev
        have ec : ∀ c, ev (.const c) = c := fun c => by rw [← hev]; rfl
        have e8 : ev (.tmp 8) = .int .i64 (ts.length : Int) := by rw [← hev]; exact eval_old (by kernel_rfl) 89 rfl (by decide) rfl
        clear hev hd q2
        exact .inl ⟨_, W, by go_simp, rfl, Below.refl _ _⟩
      · obtain rfl := Option.some.inj ho
        have q7 : uu 7 = .slice (some ⟨b, off, none⟩) xs.length c := hd 7 (by kernel_rfl)
        have q8 : uu 8 = .int .i64 (ts.length : Int) := hd 8 (by kernel_rfl)
        have q2 : uu 2 = .bool true := hd 2 (by kernel_rfl)
        refine .inl ⟨wanted_yes rfl (yielded_put (k := 46) (by kernel_rfl) (by kernel_rfl) 89 rfl (by decide) q2), ?_⟩
        generalize hev : Act.eval _ = ev
        have ec : ∀ c, ev (.const c) = c := fun c => by rw [← hev]; rfl
        have e51 : ev (.tmp 51) = .slice (some ⟨b, off, none⟩) xs.length c := by rw [← hev]; exact (eval_put (by kernel_rfl) 89 rfl (by decide)).trans q7
        have e52 : ev (.tmp 52) = .int .i64 (ts.length : Int) := by rw [← hev]; exact (eval_put (by kernel_rfl) 89 rfl (by decide)).trans q8
        clear hev hd q7 q8 q2
        have hcl : ts.length ≤ c := by omega
        exact .inl ⟨_, W, by go_simp, ⟨ts, (some ⟨b, off, none⟩), c, rfl, rfl, hrt.next (bnext hV0V hVW)⟩, Below.refl _ _⟩
      · obtain rfl := Option.some.inj ho
        obtain ⟨L6, A6, c6, q6, HL6, r6⟩ := hd 6 (by kernel_rfl)
        obtain ⟨L9, A9, c9, q9, HL9, r9⟩ := hd 9 (by kernel_rfl)
        have q2 : uu 2 = .bool true := hd 2 (by kernel_rfl)
        refine .inl ⟨wanted_yes rfl (yielded_put (k := 46) (by kernel_rfl) (by kernel_rfl) 89 rfl (by decide) q2), ?_⟩
        generalize hev : Act.eval _ = ev
        have ec : ∀ c, ev (.const c) = c := fun c => by rw [← hev]; rfl
        have ef : ∀ f, ev (.func f) = .func (.func f) #[] #[] := fun f => by rw [← hev]; rfl
        have e50 : ev (.tmp 50) = .slice A6 L6.length c6 := by rw [← hev]; exact (eval_put (by kernel_rfl) 89 rfl (by decide)).trans q6
        have e53 : ev (.tmp 53) = .slice A9 L9.length c9 := by rw [← hev]; exact (eval_put (by kernel_rfl) 89 rfl (by decide)).trans q9
        clear hev hd q6 q9 q2
        exact .inr ⟨_, _, _, by go_simp, radd_any _ _ _ _ L6 L9 W r6 r9 (by rw [HL6.out, HL9.out, uh_len]; omega), fun e w' he => by
          obtain ⟨v, rfl, hown, hb⟩ := he
          obtain ⟨L, A, c, HL, rfl, hr⟩ := hown.rdv
          exact ⟨_, rfl, ⟨L, A, c, rfl, by rw [Hid, HL.out, HL6.out, HL9.out], hr⟩, hb⟩⟩
      · obtain rfl := Option.some.inj ho
        obtain ⟨L10, A10, c10, q10, HL10, r10⟩ := hd 10 (by kernel_rfl)
        have q2 : uu 2 = .bool true := hd 2 (by kernel_rfl)
        refine .inl ⟨wanted_yes rfl (yielded_put (k := 46) (by kernel_rfl) (by kernel_rfl) 89 rfl (by decide) q2), ?_⟩
        generalize hev : Act.eval _ = ev
        have ec : ∀ c, ev (.const c) = c := fun c => by rw [← hev]; rfl
        have ef : ∀ f, ev (.func f) = .func (.func f) #[] #[] := fun f => by rw [← hev]; rfl
        have e54 : ev (.tmp 54) = .slice A10 L10.length c10 := by rw [← hev]; exact (eval_put (by kernel_rfl) 89 rfl (by decide)).trans q10
        clear hev hd q10 q2
        exact .inr ⟨_, _, _, by go_simp, rones_any _ _ L10 N W _ r10 (by rw [HL10.out]; simp [uh_len]; omega) (by rw [HL10.out]; exact (HN ()).out), fun e w' he => ⟨_, he.1, rfl, he.2 ▸ Below.refl _ _⟩⟩
      · obtain rfl := Option.some.inj ho
        have q11 : uu 11 = .int .i64 (N : Nat) := hd 11 (by kernel_rfl)
        have q2 : uu 2 = .bool true := hd 2 (by kernel_rfl)
        refine .inl ⟨wanted_yes rfl (yielded_put (k := 46) (by kernel_rfl) (by kernel_rfl) 89 rfl (by decide) q2), ?_⟩
        generalize hev : Act.eval _ = ev
        have ec : ∀ c, ev (.const c) = c := fun c => by rw [← hev]; rfl
        have e55 : ev (.tmp 55) = .int .i64 (N : Nat) := by rw [← hev]; exact (eval_put (by kernel_rfl) 89 rfl (by decide)).trans q11
        clear hev hd q11 q2
        have hnn := HNN ()
        exact .inl ⟨_, W, by go_simp, rfl, Below.refl _ _⟩
      · obtain rfl := Option.some.inj ho
        have q2 : uu 2 = .bool true := hd 2 (by kernel_rfl)
        have q12 : uu 12 = .bool true := hd 12 (by kernel_rfl)
        refine .inl ⟨wanted_none rfl, ?_⟩
        generalize hev : Act.eval _ = ev
        have ec : ∀ c, ev (.const c) = c := fun c => by rw [← hev]; rfl
        have e46 : ev (.tmp 46) = .bool true := by rw [← hev]; exact (eval_put (by kernel_rfl) 89 rfl (by decide)).trans q2
        have e56 : ev (.tmp 56) = .bool true := by rw [← hev]; exact (eval_put (by kernel_rfl) 89 rfl (by decide)).trans q12
        clear hev hd q2 q12
        exact .inl ⟨_, W, by go_simp, rfl, Below.refl _ _⟩
      · simp at ho
    · intro uu W hVW hall
      have q13 : uu 13 = .bool true := hall 13 (by decide)
      have hVV := bnext hV0V hVW
      clear hall hVW
      simp only [putAll, Act.put, Nat.reduceAdd, q13]
      simp only [List.setIfInBounds_toArray, List.set_cons_succ, List.set_cons_zero]
      clear hh hrt HN HNN
      obtain ⟨p0, p1, p2, p3, f0, f1, f2, f3⟩ := hRES _ hVV
      go_wp2_with fail
      simp [bodyPost, results, Try.results24, go_sem, *]
      exact bset4 (bnext hb0 hVV) (Nat.le_refl _) _ _ _ _

set_option maxHeartbeats 4000000 in
theorem ruparse_bare (s d : UInt32) (A : Option Addr) (c : Nat) (xs ts : List UInt8) (w : World) (hr : Rd bv w w.heap.size A c xs) (h8 : 8 ≤ xs.length) (hl : xs.length ≤ 1000000) (hn : beN ((xs.drop 4).take 2) = ts.length) (hn8 : 8 ≤ ts.length) (hnl : ts.length ≤ xs.length) (hts : xs.take ts.length = ts) (t : Nat) (ht : beN ((xs.drop 6).take 2) = t) (ht0 : t = 0) (a b' : Nat) (ha : beN ((xs.drop 0).take 2) = a) (hb : beN ((xs.drop 2).take 2) = b') :
    Calls Try.prog 24 #[.int .u32 (s.toNat : Int), .int .u32 (d.toNat : Int), .slice A xs.length c] w fun e w' => ∃ L A1 c1, e = .returned (.tuple #[.agg #[.int .u16 (a : Int), .int .u16 (b' : Int), .bool true, .slice A1 L.length c1], .int .i64 0]) ∧ Hid (L = (xs.drop 8).take (ts.length - 8)) ∧ Rd bv w' w'.heap.size A1 c1 L ∧ Below w.heap.size w w' := by
  have hn16 : ts.length ≤ 65535 := by rw [← hn, take_two xs 4 (by omega), beN_two]; have := (xs[4]).toNat_lt; have := (xs[4+1]).toNat_lt; omega
  have hlc := hr.len
  have hcc := hr.cap
  have h2 := two_of xs 4 ts.length (by omega) hn
  obtain ⟨b, off, rfl, hB, hcell⟩ := byt_at hr (k := 4) (by omega)
  obtain ⟨V0, hV0⟩ : ∃ V0, V0 = w.alloc (.cells #[.int .u16 0, .int .u16 0, .bool false, .slice none 0 0] 53) := ⟨_, rfl⟩
  have hb0 : Below w.heap.size w V0 := by rw [hV0]; exact bnextA (Below.refl _ _) _
  have k4 := (hb0.cell hB).trans (hcell 4 (by omega))
  have k5 := (hb0.cell hB).trans (hcell 5 (by omega))
  have hx4 := (xs[4]).toNat_lt
  have hx5 := (xs[5]).toNat_lt
  have i4 : (4 : Int) < (xs.length : Int) := by omega
  have i5 : (5 : Int) < (xs.length : Int) := by omega
  have i6 : (6 : Int) < (xs.length : Int) := by omega
  have i7 : (7 : Int) < (xs.length : Int) := by omega
  have t2 := two_of xs 6 t (by omega) ht
  have i1 : (1 : Int) < (xs.length : Int) := by omega
  have i2 : (2 : Int) < (xs.length : Int) := by omega
  have i3 : (3 : Int) < (xs.length : Int) := by omega
  have i0 : (0 : Int) < (xs.length : Int) := by omega
  have a2 := two_of xs 0 a (by omega) ha
  have b2 := two_of xs 2 b' (by omega) hb
  have hx0 := (xs[0]).toNat_lt
  have hx1 := (xs[1]).toNat_lt
  have hx2 := (xs[2]).toNat_lt
  have hx3 := (xs[3]).toNat_lt
  have hrt : Rd bv V0 V0.heap.size (some ⟨b, off, none⟩) c ts := by rw [← hts]; exact (hr.next hb0).take _
  have hr0 := hr.next hb0
  have hcut := fun W (h : Rd bv W W.heap.size (some ⟨b, off, none⟩) c xs) => rcut_yes (some ⟨b, off, none⟩) c xs 8 (ts.length - 8) W h (by omega) hl
  rw [show ((ts.length - 8 : Nat) : Int) = (ts.length : Int) - 8 by omega] at hcut
  have hCUT := fun W h => Lib.hid (hcut W h)
  have hh : ∀ W, Hid (Calls Try.prog 63 #[.int .u32 (s.toNat : Int), .int .u32 (d.toNat : Int), .int .u8 17, .int .i64 (ts.length : Int)] W fun e w' => ∃ L A c, e = .returned (.slice A L.length c) ∧ Hid (L = uh s d 17 ts.length) ∧ Rd bv w' w'.heap.size A c L ∧ Below W.heap.size W w') := fun W => ruhead_any s d 17 ts.length hn16 W
  have HCC : ∀ U, Below w.heap.size w U → ∀ j (_ : j < xs.length), U.cell? ⟨b, off + j, none⟩ = some (.int .u8 ((xs[j]).toNat : Int)) := fun U h j hj => (h.cell hB).trans (hcell j hj)
  have k6 := HCC _ hb0 6 (by omega)
  have k7 := HCC _ hb0 7 (by omega)
  have HC4 : ∀ U, Below w.heap.size w U → U.cell? ⟨b, off, none⟩ = some (.int .u8 ((xs[0]).toNat : Int)) ∧ U.cell? ⟨b, off + 1, none⟩ = some (.int .u8 ((xs[1]).toNat : Int)) ∧ U.cell? ⟨b, off + 2, none⟩ = some (.int .u8 ((xs[2]).toNat : Int)) ∧ U.cell? ⟨b, off + 3, none⟩ = some (.int .u8 ((xs[3]).toNat : Int)) :=
    fun U h => ⟨HCC U h 0 (by omega), HCC U h 1 (by omega), HCC U h 2 (by omega), HCC U h 3 (by omega)⟩
  generalize xs[0] = x0 at *
  generalize xs[1] = x1 at *
  generalize xs[2] = x2 at *
  generalize xs[3] = x3 at *
  have A2 := fun (_ : Unit) => Lib.hid a2
  have B2 := fun (_ : Unit) => Lib.hid b2
  clear a2 b2
  generalize xs[4] = x4 at *
  generalize xs[5] = x5 at *
  generalize xs[6] = x6 at *
  generalize xs[7] = x7 at *
  have H2 := Lib.hid h2
  have q6 : ((x6.toNat : Int) == 0) = true := by simp; omega
  have q7 : ((x7.toNat : Int) == 0) = true := by simp; omega
  clear t2 ht0
  have hZ0 : Below V0.heap.size V0 V0 := Below.refl _ _
  have hRES : ∀ U, Below V0.heap.size V0 U → (U.cell? ⟨w.heap.size, 0, none⟩ = some (.int .u16 0) ∧ U.cell? ⟨w.heap.size, 1, none⟩ = some (.int .u16 0) ∧ U.cell? ⟨w.heap.size, 2, none⟩ = some (.bool false) ∧ U.cell? ⟨w.heap.size, 3, none⟩ = some (.slice none 0 0) ∧ U.frozen? ⟨w.heap.size, 0, none⟩ = false ∧ U.frozen? ⟨w.heap.size, 1, none⟩ = false ∧ U.frozen? ⟨w.heap.size, 2, none⟩ = false ∧ U.frozen? ⟨w.heap.size, 3, none⟩ = false) := by
    intro U h
    rw [hV0] at h
    exact blk4 rfl h
  have hs0 : w.heap.size < V0.heap.size := by rw [hV0]; simp
  clear hcell h2 hr hcut hn hts ht HCC ha hb
  go_enter Try.func24, Try.ntmps24
  go_wp2_with fail
  rw [← hV0]
  clear hV0
  go_quiet (fail)
  rw [H2.out]
  go_wp2_with fail
  have hV0V := below_drewN hZ0 nq
  generalize V0.drewN nq = V at hV0V ⊢
  refine region_put (by kernel_rfl) (by kernel_rfl) (by kernel_rfl) 89 rfl (by kernel_rfl) V (fun i v W => match i with
      | 0 => v = .bool true
      | 1 => v = .bool false
      | 2 => v = .bool false
      | 3 => v = undef
      | 4 => v = undef
      | 5 => v = undef
      | 6 => v = undef
      | 7 => v = undef
      | 8 => v = undef
      | 9 => v = undef
      | 10 => v = undef
      | 11 => v = undef
      | 12 => v = undef
      | 13 => v = .bool false
      | _ => True) (Below.refl _ _) ?_ ?_ ?_
  · intro i v W W' h hb
    match i, h with
    | 0, h => exact h
    | 1, h => exact h
    | 2, h => exact h
    | 3, h => exact h
    | 4, h => exact h
    | 5, h => exact h
    | 6, h => exact h
    | 7, h => exact h
    | 8, h => exact h
    | 9, h => exact h
    | 10, h => exact h
    | 11, h => exact h
    | 12, h => exact h
    | 13, h => exact h
    | _ + 14, _ => trivial
  · intro i o uu W ho hVW hd
    rcases i with _|_|_|_|_|_|_|_|_|_|_|_|_|_|i
    · obtain rfl := Option.some.inj ho
      refine .inl ⟨wanted_none rfl, ?_⟩
      generalize hev : Act.eval _ = ev
      have ec : ∀ c, ev (.const c) = c := fun c => by rw [← hev]; rfl
      have e9 : ev (.tmp 9) = .bool true := by rw [← hev]; exact eval_old (by kernel_rfl) 89 rfl (by decide) rfl
      clear hev hd
      exact .inl ⟨_, W, by go_simp, rfl, Below.refl _ _⟩
    · obtain rfl := Option.some.inj ho
      have q0 : uu 0 = .bool true := hd 0 (by kernel_rfl)
      refine .inl ⟨wanted_none rfl, ?_⟩
      generalize hev : Act.eval _ = ev
      have ec : ∀ c, ev (.const c) = c := fun c => by rw [← hev]; rfl
      have e44 : ev (.tmp 44) = .bool true := by rw [← hev]; exact (eval_put (by kernel_rfl) 89 rfl (by decide)).trans q0
      clear hev hd q0
      exact .inl ⟨_, W, by go_simp, rfl, Below.refl _ _⟩
    · obtain rfl := Option.some.inj ho
      have q1 : uu 1 = .bool false := hd 1 (by kernel_rfl)
      refine .inl ⟨wanted_none rfl, ?_⟩
      generalize hev : Act.eval _ = ev
      have ec : ∀ c, ev (.const c) = c := fun c => by rw [← hev]; rfl
      have e45 : ev (.tmp 45) = .bool false := by rw [← hev]; exact (eval_put (by kernel_rfl) 89 rfl (by decide)).trans q1
      clear hev hd q1
      exact .inl ⟨_, W, by go_simp, rfl, Below.refl _ _⟩
    · obtain rfl := Option.some.inj ho
      have q2 : uu 2 = .bool false := hd 2 (by kernel_rfl)
      exact .inr ⟨wanted_no rfl (yielded_put (k := 46) (by kernel_rfl) (by kernel_rfl) 89 rfl (by decide) q2), rfl⟩
    · obtain rfl := Option.some.inj ho
      have q2 : uu 2 = .bool false := hd 2 (by kernel_rfl)
      exact .inr ⟨wanted_no rfl (yielded_put (k := 46) (by kernel_rfl) (by kernel_rfl) 89 rfl (by decide) q2), rfl⟩
    · obtain rfl := Option.some.inj ho
      have q2 : uu 2 = .bool false := hd 2 (by kernel_rfl)
      exact .inr ⟨wanted_no rfl (yielded_put (k := 46) (by kernel_rfl) (by kernel_rfl) 89 rfl (by decide) q2), rfl⟩
    · obtain rfl := Option.some.inj ho
      have q2 : uu 2 = .bool false := hd 2 (by kernel_rfl)
      exact .inr ⟨wanted_no rfl (yielded_put (k := 46) (by kernel_rfl) (by kernel_rfl) 89 rfl (by decide) q2), rfl⟩
    · obtain rfl := Option.some.inj ho
      have q2 : uu 2 = .bool false := hd 2 (by kernel_rfl)
      exact .inr ⟨wanted_no rfl (yielded_put (k := 46) (by kernel_rfl) (by kernel_rfl) 89 rfl (by decide) q2), rfl⟩
    · obtain rfl := Option.some.inj ho
      have q2 : uu 2 = .bool false := hd 2 (by kernel_rfl)
      exact .inr ⟨wanted_no rfl (yielded_put (k := 46) (by kernel_rfl) (by kernel_rfl) 89 rfl (by decide) q2), rfl⟩
    · obtain rfl := Option.some.inj ho
      have q2 : uu 2 = .bool false := hd 2 (by kernel_rfl)
      exact .inr ⟨wanted_no rfl (yielded_put (k := 46) (by kernel_rfl) (by kernel_rfl) 89 rfl (by decide) q2), rfl⟩
    · obtain rfl := Option.some.inj ho
      have q2 : uu 2 = .bool false := hd 2 (by kernel_rfl)
      exact .inr ⟨wanted_no rfl (yielded_put (k := 46) (by kernel_rfl) (by kernel_rfl) 89 rfl (by decide) q2), rfl⟩
    · obtain rfl := Option.some.inj ho
      have q2 : uu 2 = .bool false := hd 2 (by kernel_rfl)
      exact .inr ⟨wanted_no rfl (yielded_put (k := 46) (by kernel_rfl) (by kernel_rfl) 89 rfl (by decide) q2), rfl⟩
    · obtain rfl := Option.some.inj ho
      have q2 : uu 2 = .bool false := hd 2 (by kernel_rfl)
      exact .inr ⟨wanted_no rfl (yielded_put (k := 46) (by kernel_rfl) (by kernel_rfl) 89 rfl (by decide) q2), rfl⟩
    · obtain rfl := Option.some.inj ho
      have q2 : uu 2 = .bool false := hd 2 (by kernel_rfl)
      refine .inl ⟨wanted_none rfl, ?_⟩
      generalize hev : Act.eval _ = ev
      have ec : ∀ c, ev (.const c) = c := fun c => by rw [← hev]; rfl
      have e46 : ev (.tmp 46) = .bool false := by rw [← hev]; exact (eval_put (by kernel_rfl) 89 rfl (by decide)).trans q2
      clear hev hd q2
      exact .inl ⟨_, W, by go_simp, rfl, Below.refl _ _⟩
    · simp at ho
  · intro uu W hVW hall
    have q13 : uu 13 = .bool false := hall 13 (by decide)
    have hVV := bnext hV0V hVW
    clear hall hVW
    simp only [putAll, Act.put, Nat.reduceAdd, q13]
    simp only [List.setIfInBounds_toArray, List.set_cons_succ, List.set_cons_zero]
    clear hh hrt
    go_wp2_with fail
    refine (hCUT _ (hr0.next hVV)).out.mono ?_
    rintro e w5 ⟨v5, rfl, hown, hbel⟩
    obtain ⟨L5, A5, c5, HL5, rfl, -⟩ := hown.rdv
    have hsW := Nat.lt_of_lt_of_le hs0 hVV.size
    replace hVV := bnext hVV hbel
    have hO := Lib.hid hown
    have hB5 := bnext hb0 hVV
    clear hbel hown hCUT
    obtain ⟨m0, m1, m2, m3⟩ := HC4 _ hB5
    obtain ⟨p0, p1, p2, p3, f0, f1, f2, f3⟩ := hRES _ hVV
    clear HC4 hRES hVV
    go_wp2_with fail
    go_region
    rw [(A2 ()).out, (B2 ()).out]
    go_wp2_with fail
    simp [bodyPost, results, Try.results24, go_sem, *]
    rw [← HL5.out] at hO
    have hO4 := hO.out.set4 (g := w.heap.size) hsW (.int .u16 (a : Int)) (.int .u16 (b' : Int)) (.bool true) (.slice A5 L5.length c5)
    exact ⟨L5, A5, c5, ⟨rfl, rfl, rfl⟩, HL5, by simpa using hO4.drew.rdS, (bset4 hB5 (Nat.le_refl _) _ _ _ _).drew⟩

set_option maxHeartbeats 4000000 in
theorem ruparse_full (s d : UInt32) (A : Option Addr) (c : Nat) (xs ts : List UInt8) (w : World) (hr : Rd bv w w.heap.size A c xs) (h8 : 8 ≤ xs.length) (hl : xs.length ≤ 1000000) (hn : beN ((xs.drop 4).take 2) = ts.length) (hn8 : 8 ≤ ts.length) (hnl : ts.length ≤ xs.length) (hts : xs.take ts.length = ts) (t : Nat) (ht : beN ((xs.drop 6).take 2) = t) (ht0 : t ≠ 0) (hN : onesN (uh s d 17 ts.length ++ ts) = 65535) (a b' : Nat) (ha : beN ((xs.drop 0).take 2) = a) (hb : beN ((xs.drop 2).take 2) = b') :
    Calls Try.prog 24 #[.int .u32 (s.toNat : Int), .int .u32 (d.toNat : Int), .slice A xs.length c] w fun e w' => ∃ L A1 c1, e = .returned (.tuple #[.agg #[.int .u16 (a : Int), .int .u16 (b' : Int), .bool false, .slice A1 L.length c1], .int .i64 0]) ∧ Hid (L = (xs.drop 8).take (ts.length - 8)) ∧ Rd bv w' w'.heap.size A1 c1 L ∧ Below w.heap.size w w' := by
  have hn16 : ts.length ≤ 65535 := by rw [← hn, take_two xs 4 (by omega), beN_two]; have := (xs[4]).toNat_lt; have := (xs[4+1]).toNat_lt; omega
  have hlc := hr.len
  have hcc := hr.cap
  have h2 := two_of xs 4 ts.length (by omega) hn
  obtain ⟨b, off, rfl, hB, hcell⟩ := byt_at hr (k := 4) (by omega)
  obtain ⟨V0, hV0⟩ : ∃ V0, V0 = w.alloc (.cells #[.int .u16 0, .int .u16 0, .bool false, .slice none 0 0] 53) := ⟨_, rfl⟩
  have hb0 : Below w.heap.size w V0 := by rw [hV0]; exact bnextA (Below.refl _ _) _
  have k4 := (hb0.cell hB).trans (hcell 4 (by omega))
  have k5 := (hb0.cell hB).trans (hcell 5 (by omega))
  have hx4 := (xs[4]).toNat_lt
  have hx5 := (xs[5]).toNat_lt
  have i4 : (4 : Int) < (xs.length : Int) := by omega
  have i5 : (5 : Int) < (xs.length : Int) := by omega
  have i6 : (6 : Int) < (xs.length : Int) := by omega
  have i7 : (7 : Int) < (xs.length : Int) := by omega
  have t2 := two_of xs 6 t (by omega) ht
  have i1 : (1 : Int) < (xs.length : Int) := by omega
  have i2 : (2 : Int) < (xs.length : Int) := by omega
  have i3 : (3 : Int) < (xs.length : Int) := by omega
  have i0 : (0 : Int) < (xs.length : Int) := by omega
  have a2 := two_of xs 0 a (by omega) ha
  have b2 := two_of xs 2 b' (by omega) hb
  have hx0 := (xs[0]).toNat_lt
  have hx1 := (xs[1]).toNat_lt
  have hx2 := (xs[2]).toNat_lt
  have hx3 := (xs[3]).toNat_lt
  have hrt : Rd bv V0 V0.heap.size (some ⟨b, off, none⟩) c ts := by rw [← hts]; exact (hr.next hb0).take _
  have hr0 := hr.next hb0
  have hcut := fun W (h : Rd bv W W.heap.size (some ⟨b, off, none⟩) c xs) => rcut_yes (some ⟨b, off, none⟩) c xs 8 (ts.length - 8) W h (by omega) hl
  rw [show ((ts.length - 8 : Nat) : Int) = (ts.length : Int) - 8 by omega] at hcut
  have hCUT := fun W h => Lib.hid (hcut W h)
  have hh : ∀ W, Hid (Calls Try.prog 63 #[.int .u32 (s.toNat : Int), .int .u32 (d.toNat : Int), .int .u8 17, .int .i64 (ts.length : Int)] W fun e w' => ∃ L A c, e = .returned (.slice A L.length c) ∧ Hid (L = uh s d 17 ts.length) ∧ Rd bv w' w'.heap.size A c L ∧ Below W.heap.size W w') := fun W => ruhead_any s d 17 ts.length hn16 W
  have HCC : ∀ U, Below w.heap.size w U → ∀ j (_ : j < xs.length), U.cell? ⟨b, off + j, none⟩ = some (.int .u8 ((xs[j]).toNat : Int)) := fun U h j hj => (h.cell hB).trans (hcell j hj)
  have k6 := HCC _ hb0 6 (by omega)
  have k7 := HCC _ hb0 7 (by omega)
  have HC4 : ∀ U, Below w.heap.size w U → U.cell? ⟨b, off, none⟩ = some (.int .u8 ((xs[0]).toNat : Int)) ∧ U.cell? ⟨b, off + 1, none⟩ = some (.int .u8 ((xs[1]).toNat : Int)) ∧ U.cell? ⟨b, off + 2, none⟩ = some (.int .u8 ((xs[2]).toNat : Int)) ∧ U.cell? ⟨b, off + 3, none⟩ = some (.int .u8 ((xs[3]).toNat : Int)) :=
    fun U h => ⟨HCC U h 0 (by omega), HCC U h 1 (by omega), HCC U h 2 (by omega), HCC U h 3 (by omega)⟩
  generalize xs[0] = x0 at *
  generalize xs[1] = x1 at *
  generalize xs[2] = x2 at *
  generalize xs[3] = x3 at *
  have A2 := fun (_ : Unit) => Lib.hid a2
  have B2 := fun (_ : Unit) => Lib.hid b2
  clear a2 b2
  generalize xs[4] = x4 at *
  generalize xs[5] = x5 at *
  generalize xs[6] = x6 at *
  generalize xs[7] = x7 at *
  have H2 := Lib.hid h2
  obtain ⟨N, hNe⟩ : ∃ N, onesN (uh s d 17 ts.length ++ ts) = N := ⟨_, rfl⟩
  rw [hNe] at hN
  have HN := fun (_ : Unit) => Lib.hid hNe
  have HNN : ∀ _ : Unit, (N = 65535) := fun _ => by first | exact hN | (have := hN; omega)
  clear hN hNe
  have hZ0 : Below V0.heap.size V0 V0 := Below.refl _ _
  have hRES : ∀ U, Below V0.heap.size V0 U → (U.cell? ⟨w.heap.size, 0, none⟩ = some (.int .u16 0) ∧ U.cell? ⟨w.heap.size, 1, none⟩ = some (.int .u16 0) ∧ U.cell? ⟨w.heap.size, 2, none⟩ = some (.bool false) ∧ U.cell? ⟨w.heap.size, 3, none⟩ = some (.slice none 0 0) ∧ U.frozen? ⟨w.heap.size, 0, none⟩ = false ∧ U.frozen? ⟨w.heap.size, 1, none⟩ = false ∧ U.frozen? ⟨w.heap.size, 2, none⟩ = false ∧ U.frozen? ⟨w.heap.size, 3, none⟩ = false) := by
    intro U h
    rw [hV0] at h
    exact blk4 rfl h
  have hs0 : w.heap.size < V0.heap.size := by rw [hV0]; simp
  clear hcell h2 hr hcut hn hts ht HCC ha hb
  have hcase : ((x6.toNat : Int) == 0) = false ∨ (((x6.toNat : Int) == 0) = true ∧ ((x7.toNat : Int) == 0) = false) := by
    by_cases h : x6.toNat = 0
    · right; constructor <;> simp <;> omega
    · left; simp; omega
  clear t2 ht0
  rcases hcase with q6 | ⟨q6, q7⟩
  · go_enter Try.func24, Try.ntmps24
    go_wp2_with fail
    rw [← hV0]
    clear hV0
    go_quiet (fail)
    rw [H2.out]
    go_wp2_with fail
    have hV0V := below_drewN hZ0 nq
    generalize V0.drewN nq = V at hV0V ⊢
    refine region_put (by kernel_rfl) (by kernel_rfl) (by kernel_rfl) 89 rfl (by kernel_rfl) V (fun i v W => match i with
        | 0 => v = .bool false
        | 1 => v = .bool true
        | 2 => v = .bool true
        | 3 => v = .int .u32 (s.toNat : Int)
        | 4 => v = .int .u32 (d.toNat : Int)
        | 5 => v = .int .i64 (ts.length : Int)
        | 6 => ∃ L A c, v = .slice A L.length c ∧ Hid (L = uh s d 17 ts.length) ∧ Rd bv W W.heap.size A c L
        | 7 => v = .slice (some ⟨b, off, none⟩) xs.length c
        | 8 => v = .int .i64 (ts.length : Int)
        | 9 => ∃ L A c, v = .slice A L.length c ∧ Hid (L = ts) ∧ Rd bv W W.heap.size A c L
        | 10 => ∃ L A c, v = .slice A L.length c ∧ Hid (L = uh s d 17 ts.length ++ ts) ∧ Rd bv W W.heap.size A c L
        | 11 => v = .int .i64 (N : Nat)
        | 12 => v = .bool false
        | 13 => v = .bool false
        | _ => True) (Below.refl _ _) ?_ ?_ ?_
    · intro i v W W' h hb
      match i, h with
      | 0, h => exact h
      | 1, h => exact h
      | 2, h => exact h
      | 3, h => exact h
      | 4, h => exact h
      | 5, h => exact h
      | 6, h => obtain ⟨L, A, c, h1, h2, h3⟩ := h; exact ⟨L, A, c, h1, h2, h3.next hb⟩
      | 7, h => exact h
      | 8, h => exact h
      | 9, h => obtain ⟨L, A, c, h1, h2, h3⟩ := h; exact ⟨L, A, c, h1, h2, h3.next hb⟩
      | 10, h => obtain ⟨L, A, c, h1, h2, h3⟩ := h; exact ⟨L, A, c, h1, h2, h3.next hb⟩
      | 11, h => exact h
      | 12, h => exact h
      | 13, h => exact h
      | _ + 14, _ => trivial
    · intro i o uu W ho hVW hd
      rcases i with _|_|_|_|_|_|_|_|_|_|_|_|_|_|i
      · obtain rfl := Option.some.inj ho
        refine .inl ⟨wanted_none rfl, ?_⟩
        generalize hev : Act.eval _ = ev
        have ec : ∀ c, ev (.const c) = c := fun c => by rw [← hev]; rfl
        have e9 : ev (.tmp 9) = .bool false := by rw [← hev]; exact eval_old (by kernel_rfl) 89 rfl (by decide) rfl
        clear hev hd
        exact .inl ⟨_, W, by go_simp, rfl, Below.refl _ _⟩
      · obtain rfl := Option.some.inj ho
        have q0 : uu 0 = .bool false := hd 0 (by kernel_rfl)
        refine .inl ⟨wanted_none rfl, ?_⟩
        generalize hev : Act.eval _ = ev
        have ec : ∀ c, ev (.const c) = c := fun c => by rw [← hev]; rfl
        have e44 : ev (.tmp 44) = .bool false := by rw [← hev]; exact (eval_put (by kernel_rfl) 89 rfl (by decide)).trans q0
        clear hev hd q0
        exact .inl ⟨_, W, by go_simp, rfl, Below.refl _ _⟩
      · obtain rfl := Option.some.inj ho
        have q1 : uu 1 = .bool true := hd 1 (by kernel_rfl)
        refine .inl ⟨wanted_none rfl, ?_⟩
        generalize hev : Act.eval _ = ev
        have ec : ∀ c, ev (.const c) = c := fun c => by rw [← hev]; rfl
        have e45 : ev (.tmp 45) = .bool true := by rw [← hev]; exact (eval_put (by kernel_rfl) 89 rfl (by decide)).trans q1
        clear hev hd q1
        exact .inl ⟨_, W, by go_simp, rfl, Below.refl _ _⟩
      · obtain rfl := Option.some.inj ho
        have q2 : uu 2 = .bool true := hd 2 (by kernel_rfl)
        refine .inl ⟨wanted_yes rfl (yielded_put (k := 46) (by kernel_rfl) (by kernel_rfl) 89 rfl (by decide) q2), ?_⟩
        generalize hev : Act.eval _ = ev
        have ec : ∀ c, ev (.const c) = c := fun c => by rw [← hev]; rfl
        have e0 : ev (.tmp 0) = .int .u32 (s.toNat : Int) := by rw [← hev]; exact eval_old (by kernel_rfl) 89 rfl (by decide) rfl
        clear hev hd q2
        exact .inl ⟨_, W, by go_simp, rfl, Below.refl _ _⟩
      · obtain rfl := Option.some.inj ho
        have q2 : uu 2 = .bool true := hd 2 (by kernel_rfl)
        refine .inl ⟨wanted_yes rfl (yielded_put (k := 46) (by kernel_rfl) (by kernel_rfl) 89 rfl (by decide) q2), ?_⟩
        generalize hev : Act.eval _ = ev
        have ec : ∀ c, ev (.const c) = c := fun c => by rw [← hev]; rfl
        have e1 : ev (.tmp 1) = .int .u32 (d.toNat : Int) := by rw [← hev]; exact eval_old (by kernel_rfl) 89 rfl (by decide) rfl
        clear hev hd q2
        exact .inl ⟨_, W, by go_simp, rfl, Below.refl _ _⟩
      · obtain rfl := Option.some.inj ho
        have q2 : uu 2 = .bool true := hd 2 (by kernel_rfl)
        refine .inl ⟨wanted_yes rfl (yielded_put (k := 46) (by kernel_rfl) (by kernel_rfl) 89 rfl (by decide) q2), ?_⟩
        generalize hev : Act.eval _ = ev
        have ec : ∀ c, ev (.const c) = c := fun c => by rw [← hev]; rfl
        have e8 : ev (.tmp 8) = .int .i64 (ts.length : Int) := by rw [← hev]; exact eval_old (by kernel_rfl) 89 rfl (by decide) rfl
        clear hev hd q2
        exact .inl ⟨_, W, by go_simp, rfl, Below.refl _ _⟩
      · obtain rfl := Option.some.inj ho
        have q3 : uu 3 = .int .u32 (s.toNat : Int) := hd 3 (by kernel_rfl)
        have q4 : uu 4 = .int .u32 (d.toNat : Int) := hd 4 (by kernel_rfl)
        have q5 : uu 5 = .int .i64 (ts.length : Int) := hd 5 (by kernel_rfl)
        have q2 : uu 2 = .bool true := hd 2 (by kernel_rfl)
        refine .inl ⟨wanted_yes rfl (yielded_put (k := 46) (by kernel_rfl) (by kernel_rfl) 89 rfl (by decide) q2), ?_⟩
        generalize hev : Act.eval _ = ev
        have ec : ∀ c, ev (.const c) = c := fun c => by rw [← hev]; rfl
        have ef : ∀ f, ev (.func f) = .func (.func f) #[] #[] := fun f => by rw [← hev]; rfl
        have e47 : ev (.tmp 47) = .int .u32 (s.toNat : Int) := by rw [← hev]; exact (eval_put (by kernel_rfl) 89 rfl (by decide)).trans q3
        have e48 : ev (.tmp 48) = .int .u32 (d.toNat : Int) := by rw [← hev]; exact (eval_put (by kernel_rfl) 89 rfl (by decide)).trans q4
        have e49 : ev (.tmp 49) = .int .i64 (ts.length : Int) := by rw [← hev]; exact (eval_put (by kernel_rfl) 89 rfl (by decide)).trans q5
        clear hev hd q3 q4 q5 q2
        exact .inr ⟨_, _, _, by go_simp, (hh W).out, fun e w' he => by
          obtain ⟨L, A, c, rfl, HL, hr, hb⟩ := he
          exact ⟨_, rfl, ⟨L, A, c, rfl, HL, hr⟩, hb⟩⟩
      · obtain rfl := Option.some.inj ho
        have q2 : uu 2 = .bool true := hd 2 (by kernel_rfl)
        refine .inl ⟨wanted_yes rfl (yielded_put (k := 46) (by kernel_rfl) (by kernel_rfl) 89 rfl (by decide) q2), ?_⟩
        generalize hev : Act.eval _ = ev
        have ec : ∀ c, ev (.const c) = c := fun c => by rw [← hev]; rfl
        have e2 : ev (.tmp 2) = .slice (some ⟨b, off, none⟩) xs.length c := by rw [← hev]; exact eval_old (by kernel_rfl) 89 rfl (by decide) rfl
        clear hev hd q2
        exact .inl ⟨_, W, by go_simp, rfl, Below.refl _ _⟩
      · obtain rfl := Option.some.inj ho
        have q2 : uu 2 = .bool true := hd 2 (by kernel_rfl)
        refine .inl ⟨wanted_yes rfl (yielded_put (k := 46) (by kernel_rfl) (by kernel_rfl) 89 rfl (by decide) q2), ?_⟩
        generalize hev : Act.eval _ = ev
        have ec : ∀ c, ev (.const c) = c := fun c => by rw [← hev]; rfl
        have e8 : ev (.tmp 8) = .int .i64 (ts.length : Int) := by rw [← hev]; exact eval_old (by kernel_rfl) 89 rfl (by decide) rfl
        clear hev hd q2
        exact .inl ⟨_, W, by go_simp, rfl, Below.refl _ _⟩
      · obtain rfl := Option.some.inj ho
        have q7 : uu 7 = .slice (some ⟨b, off, none⟩) xs.length c := hd 7 (by kernel_rfl)
        have q8 : uu 8 = .int .i64 (ts.length : Int) := hd 8 (by kernel_rfl)
        have q2 : uu 2 = .bool true := hd 2 (by kernel_rfl)
        refine .inl ⟨wanted_yes rfl (yielded_put (k := 46) (by kernel_rfl) (by kernel_rfl) 89 rfl (by decide) q2), ?_⟩
        generalize hev : Act.eval _ = ev
        have ec : ∀ c, ev (.const c) = c := fun c => by rw [← hev]; rfl
        have e51 : ev (.tmp 51) = .slice (some ⟨b, off, none⟩) xs.length c := by rw [← hev]; exact (eval_put (by kernel_rfl) 89 rfl (by decide)).trans q7
        have e52 : ev (.tmp 52) = .int .i64 (ts.length : Int) := by rw [← hev]; exact (eval_put (by kernel_rfl) 89 rfl (by decide)).trans q8
        clear hev hd q7 q8 q2
        have hcl : ts.length ≤ c := by omega
        exact .inl ⟨_, W, by go_simp, ⟨ts, (some ⟨b, off, none⟩), c, rfl, rfl, hrt.next (bnext hV0V hVW)⟩, Below.refl _ _⟩
      · obtain rfl := Option.some.inj ho
        obtain ⟨L6, A6, c6, q6, HL6, r6⟩ := hd 6 (by kernel_rfl)
        obtain ⟨L9, A9, c9, q9, HL9, r9⟩ := hd 9 (by kernel_rfl)
        have q2 : uu 2 = .bool true := hd 2 (by kernel_rfl)
        refine .inl ⟨wanted_yes rfl (yielded_put (k := 46) (by kernel_rfl) (by kernel_rfl) 89 rfl (by decide) q2), ?_⟩
        generalize hev : Act.eval _ = ev
        have ec : ∀ c, ev (.const c) = c := fun c => by rw [← hev]; rfl
        have ef : ∀ f, ev (.func f) = .func (.func f) #[] #[] := fun f => by rw [← hev]; rfl
        have e50 : ev (.tmp 50) = .slice A6 L6.length c6 := by rw [← hev]; exact (eval_put (by kernel_rfl) 89 rfl (by decide)).trans q6
        have e53 : ev (.tmp 53) = .slice A9 L9.length c9 := by rw [← hev]; exact (eval_put (by kernel_rfl) 89 rfl (by decide)).trans q9
        clear hev hd q6 q9 q2
        exact .inr ⟨_, _, _, by go_simp, radd_any _ _ _ _ L6 L9 W r6 r9 (by rw [HL6.out, HL9.out, uh_len]; omega), fun e w' he => by
          obtain ⟨v, rfl, hown, hb⟩ := he
          obtain ⟨L, A, c, HL, rfl, hr⟩ := hown.rdv
          exact ⟨_, rfl, ⟨L, A, c, rfl, by rw [Hid, HL.out, HL6.out, HL9.out], hr⟩, hb⟩⟩
      · obtain rfl := Option.some.inj ho
        obtain ⟨L10, A10, c10, q10, HL10, r10⟩ := hd 10 (by kernel_rfl)
        have q2 : uu 2 = .bool true := hd 2 (by kernel_rfl)
        refine .inl ⟨wanted_yes rfl (yielded_put (k := 46) (by kernel_rfl) (by kernel_rfl) 89 rfl (by decide) q2), ?_⟩
        generalize hev : Act.eval _ = ev
        have ec : ∀ c, ev (.const c) = c := fun c => by rw [← hev]; rfl
        have ef : ∀ f, ev (.func f) = .func (.func f) #[] #[] := fun f => by rw [← hev]; rfl
        have e54 : ev (.tmp 54) = .slice A10 L10.length c10 := by rw [← hev]; exact (eval_put (by kernel_rfl) 89 rfl (by decide)).trans q10
        clear hev hd q10 q2
        exact .inr ⟨_, _, _, by go_simp, rones_any _ _ L10 N W _ r10 (by rw [HL10.out]; simp [uh_len]; omega) (by rw [HL10.out]; exact (HN ()).out), fun e w' he => ⟨_, he.1, rfl, he.2 ▸ Below.refl _ _⟩⟩
      · obtain rfl := Option.some.inj ho
        have q11 : uu 11 = .int .i64 (N : Nat) := hd 11 (by kernel_rfl)
        have q2 : uu 2 = .bool true := hd 2 (by kernel_rfl)
        refine .inl ⟨wanted_yes rfl (yielded_put (k := 46) (by kernel_rfl) (by kernel_rfl) 89 rfl (by decide) q2), ?_⟩
        generalize hev : Act.eval _ = ev
        have ec : ∀ c, ev (.const c) = c := fun c => by rw [← hev]; rfl
        have e55 : ev (.tmp 55) = .int .i64 (N : Nat) := by rw [← hev]; exact (eval_put (by kernel_rfl) 89 rfl (by decide)).trans q11
        clear hev hd q11 q2
        have hnn := HNN ()
        subst hnn
        exact .inl ⟨_, W, by go_simp, rfl, Below.refl _ _⟩
      · obtain rfl := Option.some.inj ho
        have q2 : uu 2 = .bool true := hd 2 (by kernel_rfl)
        have q12 : uu 12 = .bool false := hd 12 (by kernel_rfl)
        refine .inl ⟨wanted_none rfl, ?_⟩
        generalize hev : Act.eval _ = ev
        have ec : ∀ c, ev (.const c) = c := fun c => by rw [← hev]; rfl
        have e46 : ev (.tmp 46) = .bool true := by rw [← hev]; exact (eval_put (by kernel_rfl) 89 rfl (by decide)).trans q2
        have e56 : ev (.tmp 56) = .bool false := by rw [← hev]; exact (eval_put (by kernel_rfl) 89 rfl (by decide)).trans q12
        clear hev hd q2 q12
        exact .inl ⟨_, W, by go_simp, rfl, Below.refl _ _⟩
      · simp at ho
    · intro uu W hVW hall
      have q13 : uu 13 = .bool false := hall 13 (by decide)
      have hVV := bnext hV0V hVW
      clear hall hVW
      simp only [putAll, Act.put, Nat.reduceAdd, q13]
      simp only [List.setIfInBounds_toArray, List.set_cons_succ, List.set_cons_zero]
      clear hh hrt HN HNN
      go_wp2_with fail
      refine (hCUT _ (hr0.next hVV)).out.mono ?_
      rintro e w5 ⟨v5, rfl, hown, hbel⟩
      obtain ⟨L5, A5, c5, HL5, rfl, -⟩ := hown.rdv
      have hsW := Nat.lt_of_lt_of_le hs0 hVV.size
      replace hVV := bnext hVV hbel
      have hO := Lib.hid hown
      have hB5 := bnext hb0 hVV
      clear hbel hown hCUT
      obtain ⟨m0, m1, m2, m3⟩ := HC4 _ hB5
      obtain ⟨p0, p1, p2, p3, f0, f1, f2, f3⟩ := hRES _ hVV
      clear HC4 hRES hVV
      go_wp2_with fail
      go_region
      rw [(A2 ()).out, (B2 ()).out]
      go_wp2_with fail
      simp [bodyPost, results, Try.results24, go_sem, *]
      rw [← HL5.out] at hO
      have hO4 := hO.out.set4 (g := w.heap.size) hsW (.int .u16 (a : Int)) (.int .u16 (b' : Int)) (.bool false) (.slice A5 L5.length c5)
      exact ⟨L5, A5, c5, ⟨rfl, rfl, rfl⟩, HL5, by simpa using hO4.drew.rdS, (bset4 hB5 (Nat.le_refl _) _ _ _ _).drew⟩
  · go_enter Try.func24, Try.ntmps24
    go_wp2_with fail
    rw [← hV0]
    clear hV0
    go_quiet (fail)
    rw [H2.out]
    go_wp2_with fail
    have hV0V := below_drewN hZ0 nq
    generalize V0.drewN nq = V at hV0V ⊢
    refine region_put (by kernel_rfl) (by kernel_rfl) (by kernel_rfl) 89 rfl (by kernel_rfl) V (fun i v W => match i with
        | 0 => v = .bool false
        | 1 => v = .bool true
        | 2 => v = .bool true
        | 3 => v = .int .u32 (s.toNat : Int)
        | 4 => v = .int .u32 (d.toNat : Int)
        | 5 => v = .int .i64 (ts.length : Int)
        | 6 => ∃ L A c, v = .slice A L.length c ∧ Hid (L = uh s d 17 ts.length) ∧ Rd bv W W.heap.size A c L
        | 7 => v = .slice (some ⟨b, off, none⟩) xs.length c
        | 8 => v = .int .i64 (ts.length : Int)
        | 9 => ∃ L A c, v = .slice A L.length c ∧ Hid (L = ts) ∧ Rd bv W W.heap.size A c L
        | 10 => ∃ L A c, v = .slice A L.length c ∧ Hid (L = uh s d 17 ts.length ++ ts) ∧ Rd bv W W.heap.size A c L
        | 11 => v = .int .i64 (N : Nat)
        | 12 => v = .bool false
        | 13 => v = .bool false
        | _ => True) (Below.refl _ _) ?_ ?_ ?_
    · intro i v W W' h hb
      match i, h with
      | 0, h => exact h
      | 1, h => exact h
      | 2, h => exact h
      | 3, h => exact h
      | 4, h => exact h
      | 5, h => exact h
      | 6, h => obtain ⟨L, A, c, h1, h2, h3⟩ := h; exact ⟨L, A, c, h1, h2, h3.next hb⟩
      | 7, h => exact h
      | 8, h => exact h
      | 9, h => obtain ⟨L, A, c, h1, h2, h3⟩ := h; exact ⟨L, A, c, h1, h2, h3.next hb⟩
      | 10, h => obtain ⟨L, A, c, h1, h2, h3⟩ := h; exact ⟨L, A, c, h1, h2, h3.next hb⟩
      | 11, h => exact h
      | 12, h => exact h
      | 13, h => exact h
      | _ + 14, _ => trivial
    · intro i o uu W ho hVW hd
      rcases i with _|_|_|_|_|_|_|_|_|_|_|_|_|_|i
      · obtain rfl := Option.some.inj ho
        refine .inl ⟨wanted_none rfl, ?_⟩
        generalize hev : Act.eval _ = ev
        have ec : ∀ c, ev (.const c) = c := fun c => by rw [← hev]; rfl
        have e9 : ev (.tmp 9) = .bool false := by rw [← hev]; exact eval_old (by kernel_rfl) 89 rfl (by decide) rfl
        clear hev hd
        exact .inl ⟨_, W, by go_simp, rfl, Below.refl _ _⟩
      · obtain rfl := Option.some.inj ho
        have q0 : uu 0 = .bool false := hd 0 (by kernel_rfl)
        refine .inl ⟨wanted_none rfl, ?_⟩
        generalize hev : Act.eval _ = ev
        have ec : ∀ c, ev (.const c) = c := fun c => by rw [← hev]; rfl
        have e44 : ev (.tmp 44) = .bool false := by rw [← hev]; exact (eval_put (by kernel_rfl) 89 rfl (by decide)).trans q0
        clear hev hd q0
        exact .inl ⟨_, W, by go_simp, rfl, Below.refl _ _⟩
      · obtain rfl := Option.some.inj ho
        have q1 : uu 1 = .bool true := hd 1 (by kernel_rfl)
        refine .inl ⟨wanted_none rfl, ?_⟩
        generalize hev : Act.eval _ = ev
        have ec : ∀ c, ev (.const c) = c := fun c => by rw [← hev]; rfl
        have e45 : ev (.tmp 45) = .bool true := by rw [← hev]; exact (eval_put (by kernel_rfl) 89 rfl (by decide)).trans q1
        clear hev hd q1
        exact .inl ⟨_, W, by go_simp, rfl, Below.refl _ _⟩
      · obtain rfl := Option.some.inj ho
        have q2 : uu 2 = .bool true := hd 2 (by kernel_rfl)
        refine .inl ⟨wanted_yes rfl (yielded_put (k := 46) (by kernel_rfl) (by kernel_rfl) 89 rfl (by decide) q2), ?_⟩
        generalize hev : Act.eval _ = ev
        have ec : ∀ c, ev (.const c) = c := fun c => by rw [← hev]; rfl
        have e0 : ev (.tmp 0) = .int .u32 (s.toNat : Int) := by rw [← hev]; exact eval_old (by kernel_rfl) 89 rfl (by decide) rfl
        clear hev hd q2
        exact .inl ⟨_, W, by go_simp, rfl, Below.refl _ _⟩
      · obtain rfl := Option.some.inj ho
        have q2 : uu 2 = .bool true := hd 2 (by kernel_rfl)
        refine .inl ⟨wanted_yes rfl (yielded_put (k := 46) (by kernel_rfl) (by kernel_rfl) 89 rfl (by decide) q2), ?_⟩
        generalize hev : Act.eval _ = ev
        have ec : ∀ c, ev (.const c) = c := fun c => by rw [← hev]; rfl
        have e1 : ev (.tmp 1) = .int .u32 (d.toNat : Int) := by rw [← hev]; exact eval_old (by kernel_rfl) 89 rfl (by decide) rfl
        clear hev hd q2
        exact .inl ⟨_, W, by go_simp, rfl, Below.refl _ _⟩
      · obtain rfl := Option.some.inj ho
        have q2 : uu 2 = .bool true := hd 2 (by kernel_rfl)
        refine .inl ⟨wanted_yes rfl (yielded_put (k := 46) (by kernel_rfl) (by kernel_rfl) 89 rfl (by decide) q2), ?_⟩
        generalize hev : Act.eval _ = ev
        have ec : ∀ c, ev (.const c) = c := fun c => by rw [← hev]; rfl
        have e8 : ev (.tmp 8) = .int .i64 (ts.length : Int) := by rw [← hev]; exact eval_old (by kernel_rfl) 89 rfl (by decide) rfl
        clear hev hd q2
        exact .inl ⟨_, W, by go_simp, rfl, Below.refl _ _⟩
      · obtain rfl := Option.some.inj ho
        have q3 : uu 3 = .int .u32 (s.toNat : Int) := hd 3 (by kernel_rfl)
        have q4 : uu 4 = .int .u32 (d.toNat : Int) := hd 4 (by kernel_rfl)
        have q5 : uu 5 = .int .i64 (ts.length : Int) := hd 5 (by kernel_rfl)
        have q2 : uu 2 = .bool true := hd 2 (by kernel_rfl)
        refine .inl ⟨wanted_yes rfl (yielded_put (k := 46) (by kernel_rfl) (by kernel_rfl) 89 rfl (by decide) q2), ?_⟩
        generalize hev : Act.eval _ = ev
        have ec : ∀ c, ev (.const c) = c := fun c => by rw [← hev]; rfl
        have ef : ∀ f, ev (.func f) = .func (.func f) #[] #[] := fun f => by rw [← hev]; rfl
        have e47 : ev (.tmp 47) = .int .u32 (s.toNat : Int) := by rw [← hev]; exact (eval_put (by kernel_rfl) 89 rfl (by decide)).trans q3
        have e48 : ev (.tmp 48) = .int .u32 (d.toNat : Int) := by rw [← hev]; exact (eval_put (by kernel_rfl) 89 rfl (by decide)).trans q4
        have e49 : ev (.tmp 49) = .int .i64 (ts.length : Int) := by rw [← hev]; exact (eval_put (by kernel_rfl) 89 rfl (by decide)).trans q5
        clear hev hd q3 q4 q5 q2
        exact .inr ⟨_, _, _, by go_simp, (hh W).out, fun e w' he => by
          obtain ⟨L, A, c, rfl, HL, hr, hb⟩ := he
          exact ⟨_, rfl, ⟨L, A, c, rfl, HL, hr⟩, hb⟩⟩
      · obtain rfl := Option.some.inj ho
        have q2 : uu 2 = .bool true := hd 2 (by kernel_rfl)
        refine .inl ⟨wanted_yes rfl (yielded_put (k := 46) (by kernel_rfl) (by kernel_rfl) 89 rfl (by decide) q2), ?_⟩
        generalize hev : Act.eval _ = ev
        have ec : ∀ c, ev (.const c) = c := fun c => by rw [← hev]; rfl
        have e2 : ev (.tmp 2) = .slice (some ⟨b, off, none⟩) xs.length c := by rw [← hev]; exact eval_old (by kernel_rfl) 89 rfl (by decide) rfl
        clear hev hd q2
        exact .inl ⟨_, W, by go_simp, rfl, Below.refl _ _⟩
      · obtain rfl := Option.some.inj ho
        have q2 : uu 2 = .bool true := hd 2 (by kernel_rfl)
        refine .inl ⟨wanted_yes rfl (yielded_put (k := 46) (by kernel_rfl) (by kernel_rfl) 89 rfl (by decide) q2), ?_⟩
        generalize hev : Act.eval _ = ev
        have ec : ∀ c, ev (.const c) = c := fun c => by rw [← hev]; rfl
        have e8 : ev (.tmp 8) = .int .i64 (ts.length : Int) := by rw [← hev]; exact eval_old (by kernel_rfl) 89 rfl (by decide) rfl
        clear hev hd q2
        exact .inl ⟨_, W, by go_simp, rfl, Below.refl _ _⟩
      · obtain rfl := Option.some.inj ho
        have q7 : uu 7 = .slice (some ⟨b, off, none⟩) xs.length c := hd 7 (by kernel_rfl)
        have q8 : uu 8 = .int .i64 (ts.length : Int) := hd 8 (by kernel_rfl)
        have q2 : uu 2 = .bool true := hd 2 (by kernel_rfl)
        refine .inl ⟨wanted_yes rfl (yielded_put (k := 46) (by kernel_rfl) (by kernel_rfl) 89 rfl (by decide) q2), ?_⟩
        generalize hev : Act.eval _ = ev
        have ec : ∀ c, ev (.const c) = c := fun c => by rw [← hev]; rfl
        have e51 : ev (.tmp 51) = .slice (some ⟨b, off, none⟩) xs.length c := by rw [← hev]; exact (eval_put (by kernel_rfl) 89 rfl (by decide)).trans q7
        have e52 : ev (.tmp 52) = .int .i64 (ts.length : Int) := by rw [← hev]; exact (eval_put (by kernel_rfl) 89 rfl (by decide)).trans q8
        clear hev hd q7 q8 q2
        have hcl : ts.length ≤ c := by omega
        exact .inl ⟨_, W, by go_simp, ⟨ts, (some ⟨b, off, none⟩), c, rfl, rfl, hrt.next (bnext hV0V hVW)⟩, Below.refl _ _⟩
      · obtain rfl := Option.some.inj ho
        obtain ⟨L6, A6, c6, q6, HL6, r6⟩ := hd 6 (by kernel_rfl)
        obtain ⟨L9, A9, c9, q9, HL9, r9⟩ := hd 9 (by kernel_rfl)
        have q2 : uu 2 = .bool true := hd 2 (by kernel_rfl)
        refine .inl ⟨wanted_yes rfl (yielded_put (k := 46) (by kernel_rfl) (by kernel_rfl) 89 rfl (by decide) q2), ?_⟩
        generalize hev : Act.eval _ = ev
        have ec : ∀ c, ev (.const c) = c := fun c => by rw [← hev]; rfl
        have ef : ∀ f, ev (.func f) = .func (.func f) #[] #[] := fun f => by rw [← hev]; rfl
        have e50 : ev (.tmp 50) = .slice A6 L6.length c6 := by rw [← hev]; exact (eval_put (by kernel_rfl) 89 rfl (by decide)).trans q6
        have e53 : ev (.tmp 53) = .slice A9 L9.length c9 := by rw [← hev]; exact (eval_put (by kernel_rfl) 89 rfl (by decide)).trans q9
        clear hev hd q6 q9 q2
        exact .inr ⟨_, _, _, by go_simp, radd_any _ _ _ _ L6 L9 W r6 r9 (by rw [HL6.out, HL9.out, uh_len]; omega), fun e w' he => by
          obtain ⟨v, rfl, hown, hb⟩ := he
          obtain ⟨L, A, c, HL, rfl, hr⟩ := hown.rdv
          exact ⟨_, rfl, ⟨L, A, c, rfl, by rw [Hid, HL.out, HL6.out, HL9.out], hr⟩, hb⟩⟩
      · obtain rfl := Option.some.inj ho
        obtain ⟨L10, A10, c10, q10, HL10, r10⟩ := hd 10 (by kernel_rfl)
        have q2 : uu 2 = .bool true := hd 2 (by kernel_rfl)
        refine .inl ⟨wanted_yes rfl (yielded_put (k := 46) (by kernel_rfl) (by kernel_rfl) 89 rfl (by decide) q2), ?_⟩
        generalize hev : Act.eval _ = ev
        have ec : ∀ c, ev (.const c) = c := fun c => by rw [← hev]; rfl
        have ef : ∀ f, ev (.func f) = .func (.func f) #[] #[] := fun f => by rw [← hev]; rfl
        have e54 : ev (.tmp 54) = .slice A10 L10.length c10 := by rw [← hev]; exact (eval_put (by kernel_rfl) 89 rfl (by decide)).trans q10
        clear hev hd q10 q2
        exact .inr ⟨_, _, _, by go_simp, rones_any _ _ L10 N W _ r10 (by rw [HL10.out]; simp [uh_len]; omega) (by rw [HL10.out]; exact (HN ()).out), fun e w' he => ⟨_, he.1, rfl, he.2 ▸ Below.refl _ _⟩⟩
      · obtain rfl := Option.some.inj ho
        have q11 : uu 11 = .int .i64 (N : Nat) := hd 11 (by kernel_rfl)
        have q2 : uu 2 = .bool true := hd 2 (by kernel_rfl)
        refine .inl ⟨wanted_yes rfl (yielded_put (k := 46) (by kernel_rfl) (by kernel_rfl) 89 rfl (by decide) q2), ?_⟩
        generalize hev : Act.eval _ = ev
        have ec : ∀ c, ev (.const c) = c := fun c => by rw [← hev]; rfl
        have e55 : ev (.tmp 55) = .int .i64 (N : Nat) := by rw [← hev]; exact (eval_put (by kernel_rfl) 89 rfl (by decide)).trans q11
        clear hev hd q11 q2
        have hnn := HNN ()
        subst hnn
        exact .inl ⟨_, W, by go_simp, rfl, Below.refl _ _⟩
      · obtain rfl := Option.some.inj ho
        have q2 : uu 2 = .bool true := hd 2 (by kernel_rfl)
        have q12 : uu 12 = .bool false := hd 12 (by kernel_rfl)
        refine .inl ⟨wanted_none rfl, ?_⟩
        generalize hev : Act.eval _ = ev
        have ec : ∀ c, ev (.const c) = c := fun c => by rw [← hev]; rfl
        have e46 : ev (.tmp 46) = .bool true := by rw [← hev]; exact (eval_put (by kernel_rfl) 89 rfl (by decide)).trans q2
        have e56 : ev (.tmp 56) = .bool false := by rw [← hev]; exact (eval_put (by kernel_rfl) 89 rfl (by decide)).trans q12
        clear hev hd q2 q12
        exact .inl ⟨_, W, by go_simp, rfl, Below.refl _ _⟩
      · simp at ho
    · intro uu W hVW hall
      have q13 : uu 13 = .bool false := hall 13 (by decide)
      have hVV := bnext hV0V hVW
      clear hall hVW
      simp only [putAll, Act.put, Nat.reduceAdd, q13]
      simp only [List.setIfInBounds_toArray, List.set_cons_succ, List.set_cons_zero]
      clear hh hrt HN HNN
      go_wp2_with fail
      refine (hCUT _ (hr0.next hVV)).out.mono ?_
      rintro e w5 ⟨v5, rfl, hown, hbel⟩
      obtain ⟨L5, A5, c5, HL5, rfl, -⟩ := hown.rdv
      have hsW := Nat.lt_of_lt_of_le hs0 hVV.size
      replace hVV := bnext hVV hbel
      have hO := Lib.hid hown
      have hB5 := bnext hb0 hVV
      clear hbel hown hCUT
      obtain ⟨m0, m1, m2, m3⟩ := HC4 _ hB5
      obtain ⟨p0, p1, p2, p3, f0, f1, f2, f3⟩ := hRES _ hVV
      clear HC4 hRES hVV
      go_wp2_with fail
      go_region
      rw [(A2 ()).out, (B2 ()).out]
      go_wp2_with fail
      simp [bodyPost, results, Try.results24, go_sem, *]
      rw [← HL5.out] at hO
      have hO4 := hO.out.set4 (g := w.heap.size) hsW (.int .u16 (a : Int)) (.int .u16 (b' : Int)) (.bool false) (.slice A5 L5.length c5)
      exact ⟨L5, A5, c5, ⟨rfl, rfl, rfl⟩, HL5, by simpa using hO4.drew.rdS, (bset4 hB5 (Nat.le_refl _) _ _ _ _).drew⟩

end Go.Proofs.Ytkoamiefombilaa
