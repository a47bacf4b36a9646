/- The walk of FlowBytes. -/
import Derived.Test.YtggcomociojfoaaFlow5
namespace Go.Proofs.Ytggcomociojfoaa
open Go.RowKit

set_option maxRecDepth 4000 in
set_option maxHeartbeats 4000000 in
theorem fbytes_eq (s d : UInt32) (p q : UInt16) (r : UInt8) (w : World) : Calls Try.prog 3 #[.agg #[.int .u32 (s.toNat : Int), .int .u32 (d.toNat : Int), .int .u16 (p.toNat : Int), .int .u16 (q.toNat : Int), .int .u8 (r.toNat : Int)], .agg #[.int .u32 (s.toNat : Int), .int .u32 (d.toNat : Int), .int .u16 (p.toNat : Int), .int .u16 (q.toNat : Int), .int .u8 (r.toNat : Int)]] w fun e w' => e = .returned (.bool true) ∧ Below w.heap.size w w' := by
  have HC1 := fun W => Lib.hid (fcompare_any s d p q r s d p q r W)
  have HC2 := fun W => Lib.hid (rfcompare_any s d p q r s d p q r W)
  rw [cmp_self] at HC1 HC2
  have KA := (Blk.new w #[.int .u32 (s.toNat : Int), .int .u32 (d.toNat : Int), .int .u16 (p.toNat : Int), .int .u16 (q.toNat : Int), .int .u8 (r.toNat : Int)] 25).alloc (.cells #[.int .u32 (s.toNat : Int), .int .u32 (d.toNat : Int), .int .u16 (p.toNat : Int), .int .u16 (q.toNat : Int), .int .u8 (r.toNat : Int)] 25)
  have KB : Blk ((w.alloc (.cells #[.int .u32 (s.toNat : Int), .int .u32 (d.toNat : Int), .int .u16 (p.toNat : Int), .int .u16 (q.toNat : Int), .int .u8 (r.toNat : Int)] 25)).alloc (.cells #[.int .u32 (s.toNat : Int), .int .u32 (d.toNat : Int), .int .u16 (p.toNat : Int), .int .u16 (q.toNat : Int), .int .u8 (r.toNat : Int)] 25)) (w.heap.size + 1) [.int .u32 (s.toNat : Int), .int .u32 (d.toNat : Int), .int .u16 (p.toNat : Int), .int .u16 (q.toNat : Int), .int .u8 (r.toNat : Int)] 25 := by
    have := Blk.new (w.alloc (.cells #[.int .u32 (s.toNat : Int), .int .u32 (d.toNat : Int), .int .u16 (p.toNat : Int), .int .u16 (q.toNat : Int), .int .u8 (r.toNat : Int)] 25)) #[.int .u32 (s.toNat : Int), .int .u32 (d.toNat : Int), .int .u16 (p.toNat : Int), .int .u16 (q.toNat : Int), .int .u8 (r.toNat : Int)] 25
    simpa using this
  have hB := bnextA (bnextA (Below.refl w.heap.size w) (.cells #[.int .u32 (s.toNat : Int), .int .u32 (d.toNat : Int), .int .u16 (p.toNat : Int), .int .u16 (q.toNat : Int), .int .u8 (r.toNat : Int)] 25)) (.cells #[.int .u32 (s.toNat : Int), .int .u32 (d.toNat : Int), .int .u16 (p.toNat : Int), .int .u16 (q.toNat : Int), .int .u8 (r.toNat : Int)] 25)
  go_enter Try.func3, Try.ntmps3
  go_wp2_with fail
  generalize (w.alloc (.cells #[.int .u32 (s.toNat : Int), .int .u32 (d.toNat : Int), .int .u16 (p.toNat : Int), .int .u16 (q.toNat : Int), .int .u8 (r.toNat : Int)] 25)).alloc (.cells #[.int .u32 (s.toNat : Int), .int .u32 (d.toNat : Int), .int .u16 (p.toNat : Int), .int .u16 (q.toNat : Int), .int .u8 (r.toNat : Int)] 25) = V at *
  refine region_put (by kernel_rfl) (by kernel_rfl) (by kernel_rfl) 56 rfl (by kernel_rfl) V (fun i v W => match i with
      | 0 => v = .agg #[.int .u32 (s.toNat : Int), .int .u32 (d.toNat : Int), .int .u16 (p.toNat : Int), .int .u16 (q.toNat : Int), .int .u8 (r.toNat : Int)]
      | 1 => ∃ L A c, v = .slice A L.length c ∧ Hid (L = fb s d p q r) ∧ Rd bv W W.heap.size A c L
      | 2 => v = .agg #[.int .u32 (s.toNat : Int), .int .u32 (d.toNat : Int), .int .u16 (p.toNat : Int), .int .u16 (q.toNat : Int), .int .u8 (r.toNat : Int)]
      | 3 => ∃ L A c, v = .slice A L.length c ∧ Hid (L = fb s d p q r) ∧ Rd bv W W.heap.size A c L
      | 4 => v = .bool true
      | 5 => v = .bool false
      | 6 => v = .bool false
      | 7 => v = .agg #[.int .u32 (s.toNat : Int), .int .u32 (d.toNat : Int), .int .u16 (p.toNat : Int), .int .u16 (q.toNat : Int), .int .u8 (r.toNat : Int)]
      | 8 => v = .agg #[.int .u32 (s.toNat : Int), .int .u32 (d.toNat : Int), .int .u16 (p.toNat : Int), .int .u16 (q.toNat : Int), .int .u8 (r.toNat : Int)]
      | 9 => v = .int .i64 0
      | 10 => v = .agg #[.int .u32 (s.toNat : Int), .int .u32 (d.toNat : Int), .int .u16 (p.toNat : Int), .int .u16 (q.toNat : Int), .int .u8 (r.toNat : Int)]
      | 11 => v = .agg #[.int .u32 (s.toNat : Int), .int .u32 (d.toNat : Int), .int .u16 (p.toNat : Int), .int .u16 (q.toNat : Int), .int .u8 (r.toNat : Int)]
      | 12 => v = .int .i64 0
      | 13 => v = .bool false
      | 14 => v = .bool false
      | 15 => v = .bool false
      | 16 => v = .agg #[.int .u32 (s.toNat : Int), .int .u32 (d.toNat : Int), .int .u16 (p.toNat : Int), .int .u16 (q.toNat : Int), .int .u8 (r.toNat : Int)]
      | 17 => v = .agg #[.int .u32 (d.toNat : Int), .int .u32 (s.toNat : Int), .int .u16 (q.toNat : Int), .int .u16 (p.toNat : Int), .int .u8 (r.toNat : Int)]
      | 18 => v = .agg #[.int .u32 (s.toNat : Int), .int .u32 (d.toNat : Int), .int .u16 (p.toNat : Int), .int .u16 (q.toNat : Int), .int .u8 (r.toNat : Int)]
      | 19 => v = .agg #[.int .u32 (d.toNat : Int), .int .u32 (s.toNat : Int), .int .u16 (q.toNat : Int), .int .u16 (p.toNat : Int), .int .u8 (r.toNat : Int)]
      | 20 => v = .bool false
      | 21 => v = .bool false
      | _ => True) (Below.refl _ _) ?_ ?_ ?_
  · intro i v W W' h hb
    match i, h with
    | 0, h => exact h
    | 1, h => obtain ⟨L, A, c, h1, h2, h3⟩ := h; exact ⟨L, A, c, h1, h2, h3.next hb⟩
    | 2, h => exact h
    | 3, h => obtain ⟨L, A, c, h1, h2, h3⟩ := h; exact ⟨L, A, c, h1, h2, h3.next hb⟩
    | 4, h => exact h
    | 5, h => exact h
    | 6, h => exact h
    | 7, h => exact h
    | 8, h => exact h
    | 9, h => exact h
    | 10, h => exact h
    | 11, h => exact h
    | 12, h => exact h
    | 13, h => exact h
    | 14, h => exact h
    | 15, h => exact h
    | 16, h => exact h
    | 17, h => exact h
    | 18, h => exact h
    | 19, h => exact h
    | 20, h => exact h
    | 21, h => exact h
    | _ + 22, _ => trivial
  · intro i o uu W hoo hVW hd
    rcases i with _|_|_|_|_|_|_|_|_|_|_|_|_|_|_|_|_|_|_|_|_|_|i
    · obtain rfl := Option.some.inj hoo
      refine .inl ⟨wanted_none rfl, ?_⟩
      generalize hev : Act.eval _ = ev
      have ec : ∀ c, ev (.const c) = c := fun c => by rw [← hev]; rfl
      have e2 : ev (.tmp 2) = .pointer (some ⟨w.heap.size, 0, none⟩) := by rw [← hev]; exact eval_old (by kernel_rfl) 56 rfl (by decide) rfl
      clear hev hd
      exact .inl ⟨_, W, load_blk Try.underlying25 (by kernel_rfl) (KA.next hVW) rfl e2, rfl, Below.refl _ _⟩
    · obtain rfl := Option.some.inj hoo
      have q0 : uu 0 = .agg #[.int .u32 (s.toNat : Int), .int .u32 (d.toNat : Int), .int .u16 (p.toNat : Int), .int .u16 (q.toNat : Int), .int .u8 (r.toNat : Int)] := hd 0 (by kernel_rfl)
      refine .inl ⟨wanted_none rfl, ?_⟩
      generalize hev : Act.eval _ = ev
      have ec : ∀ c, ev (.const c) = c := fun c => by rw [← hev]; rfl
      have ef : ∀ f, ev (.func f) = .func (.func f) #[] #[] := fun f => by rw [← hev]; rfl
      have e5 : ev (.tmp 5) = .agg #[.int .u32 (s.toNat : Int), .int .u32 (d.toNat : Int), .int .u16 (p.toNat : Int), .int .u16 (q.toNat : Int), .int .u8 (r.toNat : Int)] := by rw [← hev]; exact (eval_put (by kernel_rfl) 56 rfl (by decide)).trans q0
      clear hev hd q0
      exact .inr ⟨_, _, _, by go_simp, fbytes_any s d p q r W, fun e w' he => by
        obtain ⟨L, A, c, rfl, HL, hr, hb⟩ := he
        exact ⟨_, rfl, ⟨L, A, c, rfl, HL, hr⟩, hb⟩⟩
    · obtain rfl := Option.some.inj hoo
      refine .inl ⟨wanted_none rfl, ?_⟩
      generalize hev : Act.eval _ = ev
      have ec : ∀ c, ev (.const c) = c := fun c => by rw [← hev]; rfl
      have e2 : ev (.tmp 2) = .pointer (some ⟨w.heap.size, 0, none⟩) := by rw [← hev]; exact eval_old (by kernel_rfl) 56 rfl (by decide) rfl
      clear hev hd
      exact .inl ⟨_, W, load_blk Try.underlying25 (by kernel_rfl) (KA.next hVW) rfl e2, rfl, Below.refl _ _⟩
    · obtain rfl := Option.some.inj hoo
      have q2 : uu 2 = .agg #[.int .u32 (s.toNat : Int), .int .u32 (d.toNat : Int), .int .u16 (p.toNat : Int), .int .u16 (q.toNat : Int), .int .u8 (r.toNat : Int)] := hd 2 (by kernel_rfl)
      refine .inl ⟨wanted_none rfl, ?_⟩
      generalize hev : Act.eval _ = ev
      have ec : ∀ c, ev (.const c) = c := fun c => by rw [← hev]; rfl
      have ef : ∀ f, ev (.func f) = .func (.func f) #[] #[] := fun f => by rw [← hev]; rfl
      have e7 : ev (.tmp 7) = .agg #[.int .u32 (s.toNat : Int), .int .u32 (d.toNat : Int), .int .u16 (p.toNat : Int), .int .u16 (q.toNat : Int), .int .u8 (r.toNat : Int)] := by rw [← hev]; exact (eval_put (by kernel_rfl) 56 rfl (by decide)).trans q2
      clear hev hd q2
      exact .inr ⟨_, _, _, by go_simp, rfbytes_any s d p q r W, fun e w' he => by
        obtain ⟨L, A, c, rfl, HL, hr, hb⟩ := he
        exact ⟨_, rfl, ⟨L, A, c, rfl, HL, hr⟩, hb⟩⟩
    · obtain rfl := Option.some.inj hoo
      obtain ⟨L1, A1, c1, q1, HL1, r1⟩ := hd 1 (by kernel_rfl)
      obtain ⟨L3, A3, c3, q3, HL3, r3⟩ := hd 3 (by kernel_rfl)
      refine .inl ⟨wanted_none rfl, ?_⟩
      generalize hev : Act.eval _ = ev
      have ec : ∀ c, ev (.const c) = c := fun c => by rw [← hev]; rfl
      have ef : ∀ f, ev (.func f) = .func (.func f) #[] #[] := fun f => by rw [← hev]; rfl
      have e6 : ev (.tmp 6) = .slice A1 L1.length c1 := by rw [← hev]; exact (eval_put (by kernel_rfl) 56 rfl (by decide)).trans q1
      have e8 : ev (.tmp 8) = .slice A3 L3.length c3 := by rw [← hev]; exact (eval_put (by kernel_rfl) 56 rfl (by decide)).trans q3
      clear hev hd q1 q3
      exact .inr ⟨_, _, _, by go_simp, rsame_eq _ _ _ _ L1 L3 W _ r1 r3 (by rw [HL1.out, HL3.out]), fun e w' he => ⟨_, he.1, rfl, he.2.bel⟩⟩
    · obtain rfl := Option.some.inj hoo
      have q4 : uu 4 = .bool true := hd 4 (by kernel_rfl)
      refine .inl ⟨wanted_none rfl, ?_⟩
      generalize hev : Act.eval _ = ev
      have ec : ∀ c, ev (.const c) = c := fun c => by rw [← hev]; rfl
      have e9 : ev (.tmp 9) = .bool true := by rw [← hev]; exact (eval_put (by kernel_rfl) 56 rfl (by decide)).trans q4
      clear hev hd q4
      exact .inl ⟨_, W, by go_simp, rfl, Below.refl _ _⟩
    · obtain rfl := Option.some.inj hoo
      have q5 : uu 5 = .bool false := hd 5 (by kernel_rfl)
      refine .inl ⟨wanted_none rfl, ?_⟩
      generalize hev : Act.eval _ = ev
      have ec : ∀ c, ev (.const c) = c := fun c => by rw [← hev]; rfl
      have e10 : ev (.tmp 10) = .bool false := by rw [← hev]; exact (eval_put (by kernel_rfl) 56 rfl (by decide)).trans q5
      clear hev hd q5
      exact .inl ⟨_, W, by go_simp, rfl, Below.refl _ _⟩
    · obtain rfl := Option.some.inj hoo
      have q6 : uu 6 = .bool false := hd 6 (by kernel_rfl)
      refine .inl ⟨wanted_yes rfl (yielded_put (k := 11) (by kernel_rfl) (by kernel_rfl) 56 rfl (by decide) q6), ?_⟩
      generalize hev : Act.eval _ = ev
      have ec : ∀ c, ev (.const c) = c := fun c => by rw [← hev]; rfl
      have e2 : ev (.tmp 2) = .pointer (some ⟨w.heap.size, 0, none⟩) := by rw [← hev]; exact eval_old (by kernel_rfl) 56 rfl (by decide) rfl
      clear hev hd q6
      exact .inl ⟨_, W, load_blk Try.underlying25 (by kernel_rfl) (KA.next hVW) rfl e2, rfl, Below.refl _ _⟩
    · obtain rfl := Option.some.inj hoo
      have q6 : uu 6 = .bool false := hd 6 (by kernel_rfl)
      refine .inl ⟨wanted_yes rfl (yielded_put (k := 11) (by kernel_rfl) (by kernel_rfl) 56 rfl (by decide) q6), ?_⟩
      generalize hev : Act.eval _ = ev
      have ec : ∀ c, ev (.const c) = c := fun c => by rw [← hev]; rfl
      have e3 : ev (.tmp 3) = .pointer (some ⟨w.heap.size + 1, 0, none⟩) := by rw [← hev]; exact eval_old (by kernel_rfl) 56 rfl (by decide) rfl
      clear hev hd q6
      exact .inl ⟨_, W, load_blk Try.underlying25 (by kernel_rfl) (KB.next hVW) rfl e3, rfl, Below.refl _ _⟩
    · obtain rfl := Option.some.inj hoo
      have q7 : uu 7 = .agg #[.int .u32 (s.toNat : Int), .int .u32 (d.toNat : Int), .int .u16 (p.toNat : Int), .int .u16 (q.toNat : Int), .int .u8 (r.toNat : Int)] := hd 7 (by kernel_rfl)
      have q8 : uu 8 = .agg #[.int .u32 (s.toNat : Int), .int .u32 (d.toNat : Int), .int .u16 (p.toNat : Int), .int .u16 (q.toNat : Int), .int .u8 (r.toNat : Int)] := hd 8 (by kernel_rfl)
      have q6 : uu 6 = .bool false := hd 6 (by kernel_rfl)
      refine .inl ⟨wanted_yes rfl (yielded_put (k := 11) (by kernel_rfl) (by kernel_rfl) 56 rfl (by decide) q6), ?_⟩
      generalize hev : Act.eval _ = ev
      have ec : ∀ c, ev (.const c) = c := fun c => by rw [← hev]; rfl
      have ef : ∀ f, ev (.func f) = .func (.func f) #[] #[] := fun f => by rw [← hev]; rfl
      have e12 : ev (.tmp 12) = .agg #[.int .u32 (s.toNat : Int), .int .u32 (d.toNat : Int), .int .u16 (p.toNat : Int), .int .u16 (q.toNat : Int), .int .u8 (r.toNat : Int)] := by rw [← hev]; exact (eval_put (by kernel_rfl) 56 rfl (by decide)).trans q7
      have e13 : ev (.tmp 13) = .agg #[.int .u32 (s.toNat : Int), .int .u32 (d.toNat : Int), .int .u16 (p.toNat : Int), .int .u16 (q.toNat : Int), .int .u8 (r.toNat : Int)] := by rw [← hev]; exact (eval_put (by kernel_rfl) 56 rfl (by decide)).trans q8
      clear hev hd q7 q8 q6
      exact .inr ⟨_, _, _, by go_simp, (HC1 W).out, fun e w' he => ⟨_, he.1, rfl, he.2⟩⟩
    · obtain rfl := Option.some.inj hoo
      have q6 : uu 6 = .bool false := hd 6 (by kernel_rfl)
      refine .inl ⟨wanted_yes rfl (yielded_put (k := 11) (by kernel_rfl) (by kernel_rfl) 56 rfl (by decide) q6), ?_⟩
      generalize hev : Act.eval _ = ev
      have ec : ∀ c, ev (.const c) = c := fun c => by rw [← hev]; rfl
      have e2 : ev (.tmp 2) = .pointer (some ⟨w.heap.size, 0, none⟩) := by rw [← hev]; exact eval_old (by kernel_rfl) 56 rfl (by decide) rfl
      clear hev hd q6
      exact .inl ⟨_, W, load_blk Try.underlying25 (by kernel_rfl) (KA.next hVW) rfl e2, rfl, Below.refl _ _⟩
    · obtain rfl := Option.some.inj hoo
      have q6 : uu 6 = .bool false := hd 6 (by kernel_rfl)
      refine .inl ⟨wanted_yes rfl (yielded_put (k := 11) (by kernel_rfl) (by kernel_rfl) 56 rfl (by decide) q6), ?_⟩
      generalize hev : Act.eval _ = ev
      have ec : ∀ c, ev (.const c) = c := fun c => by rw [← hev]; rfl
      have e3 : ev (.tmp 3) = .pointer (some ⟨w.heap.size + 1, 0, none⟩) := by rw [← hev]; exact eval_old (by kernel_rfl) 56 rfl (by decide) rfl
      clear hev hd q6
      exact .inl ⟨_, W, load_blk Try.underlying25 (by kernel_rfl) (KB.next hVW) rfl e3, rfl, Below.refl _ _⟩
    · obtain rfl := Option.some.inj hoo
      have q10 : uu 10 = .agg #[.int .u32 (s.toNat : Int), .int .u32 (d.toNat : Int), .int .u16 (p.toNat : Int), .int .u16 (q.toNat : Int), .int .u8 (r.toNat : Int)] := hd 10 (by kernel_rfl)
      have q11 : uu 11 = .agg #[.int .u32 (s.toNat : Int), .int .u32 (d.toNat : Int), .int .u16 (p.toNat : Int), .int .u16 (q.toNat : Int), .int .u8 (r.toNat : Int)] := hd 11 (by kernel_rfl)
      have q6 : uu 6 = .bool false := hd 6 (by kernel_rfl)
      refine .inl ⟨wanted_yes rfl (yielded_put (k := 11) (by kernel_rfl) (by kernel_rfl) 56 rfl (by decide) q6), ?_⟩
      generalize hev : Act.eval _ = ev
      have ec : ∀ c, ev (.const c) = c := fun c => by rw [← hev]; rfl
      have ef : ∀ f, ev (.func f) = .func (.func f) #[] #[] := fun f => by rw [← hev]; rfl
      have e15 : ev (.tmp 15) = .agg #[.int .u32 (s.toNat : Int), .int .u32 (d.toNat : Int), .int .u16 (p.toNat : Int), .int .u16 (q.toNat : Int), .int .u8 (r.toNat : Int)] := by rw [← hev]; exact (eval_put (by kernel_rfl) 56 rfl (by decide)).trans q10
      have e16 : ev (.tmp 16) = .agg #[.int .u32 (s.toNat : Int), .int .u32 (d.toNat : Int), .int .u16 (p.toNat : Int), .int .u16 (q.toNat : Int), .int .u8 (r.toNat : Int)] := by rw [← hev]; exact (eval_put (by kernel_rfl) 56 rfl (by decide)).trans q11
      clear hev hd q10 q11 q6
      exact .inr ⟨_, _, _, by go_simp, (HC2 W).out, fun e w' he => ⟨_, he.1, rfl, he.2⟩⟩
    · obtain rfl := Option.some.inj hoo
      have q9 : uu 9 = .int .i64 0 := hd 9 (by kernel_rfl)
      have q12 : uu 12 = .int .i64 0 := hd 12 (by kernel_rfl)
      have q6 : uu 6 = .bool false := hd 6 (by kernel_rfl)
      refine .inl ⟨wanted_yes rfl (yielded_put (k := 11) (by kernel_rfl) (by kernel_rfl) 56 rfl (by decide) q6), ?_⟩
      generalize hev : Act.eval _ = ev
      have ec : ∀ c, ev (.const c) = c := fun c => by rw [← hev]; rfl
      have e14 : ev (.tmp 14) = .int .i64 0 := by rw [← hev]; exact (eval_put (by kernel_rfl) 56 rfl (by decide)).trans q9
      have e17 : ev (.tmp 17) = .int .i64 0 := by rw [← hev]; exact (eval_put (by kernel_rfl) 56 rfl (by decide)).trans q12
      clear hev hd q9 q12 q6
      exact .inl ⟨_, W, by go_simp, rfl, Below.refl _ _⟩
    · obtain rfl := Option.some.inj hoo
      have q6 : uu 6 = .bool false := hd 6 (by kernel_rfl)
      have q13 : uu 13 = .bool false := hd 13 (by kernel_rfl)
      refine .inl ⟨wanted_none rfl, ?_⟩
      generalize hev : Act.eval _ = ev
      have ec : ∀ c, ev (.const c) = c := fun c => by rw [← hev]; rfl
      have e11 : ev (.tmp 11) = .bool false := by rw [← hev]; exact (eval_put (by kernel_rfl) 56 rfl (by decide)).trans q6
      have e18 : ev (.tmp 18) = .bool false := by rw [← hev]; exact (eval_put (by kernel_rfl) 56 rfl (by decide)).trans q13
      clear hev hd q6 q13
      exact .inl ⟨_, W, by go_simp, rfl, Below.refl _ _⟩
    · obtain rfl := Option.some.inj hoo
      have q14 : uu 14 = .bool false := hd 14 (by kernel_rfl)
      refine .inl ⟨wanted_none rfl, ?_⟩
      generalize hev : Act.eval _ = ev
      have ec : ∀ c, ev (.const c) = c := fun c => by rw [← hev]; rfl
      have e19 : ev (.tmp 19) = .bool false := by rw [← hev]; exact (eval_put (by kernel_rfl) 56 rfl (by decide)).trans q14
      clear hev hd q14
      exact .inl ⟨_, W, by go_simp, rfl, Below.refl _ _⟩
    · obtain rfl := Option.some.inj hoo
      have q15 : uu 15 = .bool false := hd 15 (by kernel_rfl)
      refine .inl ⟨wanted_yes rfl (yielded_put (k := 20) (by kernel_rfl) (by kernel_rfl) 56 rfl (by decide) q15), ?_⟩
      generalize hev : Act.eval _ = ev
      have ec : ∀ c, ev (.const c) = c := fun c => by rw [← hev]; rfl
      have e2 : ev (.tmp 2) = .pointer (some ⟨w.heap.size, 0, none⟩) := by rw [← hev]; exact eval_old (by kernel_rfl) 56 rfl (by decide) rfl
      clear hev hd q15
      exact .inl ⟨_, W, load_blk Try.underlying25 (by kernel_rfl) (KA.next hVW) rfl e2, rfl, Below.refl _ _⟩
    · obtain rfl := Option.some.inj hoo
      have q16 : uu 16 = .agg #[.int .u32 (s.toNat : Int), .int .u32 (d.toNat : Int), .int .u16 (p.toNat : Int), .int .u16 (q.toNat : Int), .int .u8 (r.toNat : Int)] := hd 16 (by kernel_rfl)
      have q15 : uu 15 = .bool false := hd 15 (by kernel_rfl)
      refine .inl ⟨wanted_yes rfl (yielded_put (k := 20) (by kernel_rfl) (by kernel_rfl) 56 rfl (by decide) q15), ?_⟩
      generalize hev : Act.eval _ = ev
      have ec : ∀ c, ev (.const c) = c := fun c => by rw [← hev]; rfl
      have ef : ∀ f, ev (.func f) = .func (.func f) #[] #[] := fun f => by rw [← hev]; rfl
      have e21 : ev (.tmp 21) = .agg #[.int .u32 (s.toNat : Int), .int .u32 (d.toNat : Int), .int .u16 (p.toNat : Int), .int .u16 (q.toNat : Int), .int .u8 (r.toNat : Int)] := by rw [← hev]; exact (eval_put (by kernel_rfl) 56 rfl (by decide)).trans q16
      clear hev hd q16 q15
      exact .inr ⟨_, _, _, by go_simp, fback_any s d p q r W, fun e w' he => ⟨_, he.1, rfl, he.2⟩⟩
    · obtain rfl := Option.some.inj hoo
      have q15 : uu 15 = .bool false := hd 15 (by kernel_rfl)
      refine .inl ⟨wanted_yes rfl (yielded_put (k := 20) (by kernel_rfl) (by kernel_rfl) 56 rfl (by decide) q15), ?_⟩
      generalize hev : Act.eval _ = ev
      have ec : ∀ c, ev (.const c) = c := fun c => by rw [← hev]; rfl
      have e2 : ev (.tmp 2) = .pointer (some ⟨w.heap.size, 0, none⟩) := by rw [← hev]; exact eval_old (by kernel_rfl) 56 rfl (by decide) rfl
      clear hev hd q15
      exact .inl ⟨_, W, load_blk Try.underlying25 (by kernel_rfl) (KA.next hVW) rfl e2, rfl, Below.refl _ _⟩
    · obtain rfl := Option.some.inj hoo
      have q18 : uu 18 = .agg #[.int .u32 (s.toNat : Int), .int .u32 (d.toNat : Int), .int .u16 (p.toNat : Int), .int .u16 (q.toNat : Int), .int .u8 (r.toNat : Int)] := hd 18 (by kernel_rfl)
      have q15 : uu 15 = .bool false := hd 15 (by kernel_rfl)
      refine .inl ⟨wanted_yes rfl (yielded_put (k := 20) (by kernel_rfl) (by kernel_rfl) 56 rfl (by decide) q15), ?_⟩
      generalize hev : Act.eval _ = ev
      have ec : ∀ c, ev (.const c) = c := fun c => by rw [← hev]; rfl
      have ef : ∀ f, ev (.func f) = .func (.func f) #[] #[] := fun f => by rw [← hev]; rfl
      have e23 : ev (.tmp 23) = .agg #[.int .u32 (s.toNat : Int), .int .u32 (d.toNat : Int), .int .u16 (p.toNat : Int), .int .u16 (q.toNat : Int), .int .u8 (r.toNat : Int)] := by rw [← hev]; exact (eval_put (by kernel_rfl) 56 rfl (by decide)).trans q18
      clear hev hd q18 q15
      exact .inr ⟨_, _, _, by go_simp, rfback_any s d p q r W, fun e w' he => ⟨_, he.1, rfl, he.2⟩⟩
    · obtain rfl := Option.some.inj hoo
      have q17 : uu 17 = .agg #[.int .u32 (d.toNat : Int), .int .u32 (s.toNat : Int), .int .u16 (q.toNat : Int), .int .u16 (p.toNat : Int), .int .u8 (r.toNat : Int)] := hd 17 (by kernel_rfl)
      have q19 : uu 19 = .agg #[.int .u32 (d.toNat : Int), .int .u32 (s.toNat : Int), .int .u16 (q.toNat : Int), .int .u16 (p.toNat : Int), .int .u8 (r.toNat : Int)] := hd 19 (by kernel_rfl)
      have q15 : uu 15 = .bool false := hd 15 (by kernel_rfl)
      refine .inl ⟨wanted_yes rfl (yielded_put (k := 20) (by kernel_rfl) (by kernel_rfl) 56 rfl (by decide) q15), ?_⟩
      generalize hev : Act.eval _ = ev
      have ec : ∀ c, ev (.const c) = c := fun c => by rw [← hev]; rfl
      have e22 : ev (.tmp 22) = .agg #[.int .u32 (d.toNat : Int), .int .u32 (s.toNat : Int), .int .u16 (q.toNat : Int), .int .u16 (p.toNat : Int), .int .u8 (r.toNat : Int)] := by rw [← hev]; exact (eval_put (by kernel_rfl) 56 rfl (by decide)).trans q17
      have e24 : ev (.tmp 24) = .agg #[.int .u32 (d.toNat : Int), .int .u32 (s.toNat : Int), .int .u16 (q.toNat : Int), .int .u16 (p.toNat : Int), .int .u8 (r.toNat : Int)] := by rw [← hev]; exact (eval_put (by kernel_rfl) 56 rfl (by decide)).trans q19
      clear hev hd q17 q19 q15
      exact .inl ⟨_, W, by go_simp, rfl, Below.refl _ _⟩
    · obtain rfl := Option.some.inj hoo
      have q15 : uu 15 = .bool false := hd 15 (by kernel_rfl)
      have q20 : uu 20 = .bool false := hd 20 (by kernel_rfl)
      refine .inl ⟨wanted_none rfl, ?_⟩
      generalize hev : Act.eval _ = ev
      have ec : ∀ c, ev (.const c) = c := fun c => by rw [← hev]; rfl
      have e20 : ev (.tmp 20) = .bool false := by rw [← hev]; exact (eval_put (by kernel_rfl) 56 rfl (by decide)).trans q15
      have e25 : ev (.tmp 25) = .bool false := by rw [← hev]; exact (eval_put (by kernel_rfl) 56 rfl (by decide)).trans q20
      clear hev hd q15 q20
      exact .inl ⟨_, W, by go_simp, rfl, Below.refl _ _⟩
    · simp at hoo
  · intro uu W hVW hall
    have q21 : uu 21 = .bool false := hall 21 (by decide)
    replace hB := hB.trans (hVW.mono hB.size)
    replace KA := KA.next hVW
    replace KB := KB.next hVW
    clear hall hVW
    simp only [putAll, Act.put, Nat.reduceAdd, q21]
    simp only [List.setIfInBounds_toArray, List.set_cons_succ, List.set_cons_zero]
    clear q21
    generalize W = V2 at *
    go_wp2_with fail
    refine region_put (by kernel_rfl) (by kernel_rfl) (by kernel_rfl) 56 rfl (by kernel_rfl) V2 (fun i v W => match i with
        | 0 => v = .agg #[.int .u32 (s.toNat : Int), .int .u32 (d.toNat : Int), .int .u16 (p.toNat : Int), .int .u16 (q.toNat : Int), .int .u8 (r.toNat : Int)]
        | 1 => ∃ L A c, v = .slice A L.length c ∧ Hid (L = fb s d p q r) ∧ Rd bv W W.heap.size A c L
        | 2 => v = .agg #[.int .u32 (s.toNat : Int), .int .u32 (d.toNat : Int), .int .u16 (p.toNat : Int), .int .u16 (q.toNat : Int), .int .u8 (r.toNat : Int)]
        | 3 => ∃ L A c, v = .slice A L.length c ∧ Hid (L = fb s d p q r) ∧ Rd bv W W.heap.size A c L
        | 4 => v = .bool true
        | 5 => v = .agg #[.int .u32 (s.toNat : Int), .int .u32 (d.toNat : Int), .int .u16 (p.toNat : Int), .int .u16 (q.toNat : Int), .int .u8 (r.toNat : Int)]
        | 6 => v = .agg #[.int .u32 (s.toNat : Int), .int .u32 (d.toNat : Int), .int .u16 (p.toNat : Int), .int .u16 (q.toNat : Int), .int .u8 (r.toNat : Int)]
        | 7 => v = .bool true
        | 8 => v = .bool true
        | 9 => v = .bool true
        | 10 => v = .agg #[.int .u32 (s.toNat : Int), .int .u32 (d.toNat : Int), .int .u16 (p.toNat : Int), .int .u16 (q.toNat : Int), .int .u8 (r.toNat : Int)]
        | 11 => v = .agg #[.int .u32 (s.toNat : Int), .int .u32 (d.toNat : Int), .int .u16 (p.toNat : Int), .int .u16 (q.toNat : Int), .int .u8 (r.toNat : Int)]
        | 12 => v = .int .i64 0
        | 13 => v = .bool true
        | 14 => v = .agg #[.int .u32 (s.toNat : Int), .int .u32 (d.toNat : Int), .int .u16 (p.toNat : Int), .int .u16 (q.toNat : Int), .int .u8 (r.toNat : Int)]
        | 15 => v = .agg #[.int .u32 (s.toNat : Int), .int .u32 (d.toNat : Int), .int .u16 (p.toNat : Int), .int .u16 (q.toNat : Int), .int .u8 (r.toNat : Int)]
        | 16 => v = .bool true
        | 17 => v = .bool true
        | 18 => v = .bool true
        | 19 => v = .bool true
        | 20 => v = .agg #[.int .u32 (s.toNat : Int), .int .u32 (d.toNat : Int), .int .u16 (p.toNat : Int), .int .u16 (q.toNat : Int), .int .u8 (r.toNat : Int)]
        | 21 => v = .agg #[.int .u32 (d.toNat : Int), .int .u32 (s.toNat : Int), .int .u16 (q.toNat : Int), .int .u16 (p.toNat : Int), .int .u8 (r.toNat : Int)]
        | 22 => v = .agg #[.int .u32 (s.toNat : Int), .int .u32 (d.toNat : Int), .int .u16 (p.toNat : Int), .int .u16 (q.toNat : Int), .int .u8 (r.toNat : Int)]
        | 23 => v = .agg #[.int .u32 (s.toNat : Int), .int .u32 (d.toNat : Int), .int .u16 (p.toNat : Int), .int .u16 (q.toNat : Int), .int .u8 (r.toNat : Int)]
        | 24 => v = .bool true
        | 25 => v = .bool true
        | 26 => v = .bool true
        | 27 => v = .bool true
        | 28 => v = .bool true
        | 29 => v = .bool true
        | _ => True) (Below.refl _ _) ?_ ?_ ?_
    · intro i v W W' h hb
      match i, h with
      | 0, h => exact h
      | 1, h => obtain ⟨L, A, c, h1, h2, h3⟩ := h; exact ⟨L, A, c, h1, h2, h3.next hb⟩
      | 2, h => exact h
      | 3, h => obtain ⟨L, A, c, h1, h2, h3⟩ := h; exact ⟨L, A, c, h1, h2, h3.next hb⟩
      | 4, h => exact h
      | 5, h => exact h
      | 6, h => exact h
      | 7, h => exact h
      | 8, h => exact h
      | 9, h => exact h
      | 10, h => exact h
      | 11, h => exact h
      | 12, h => exact h
      | 13, h => exact h
      | 14, h => exact h
      | 15, h => exact h
      | 16, h => exact h
      | 17, h => exact h
      | 18, h => exact h
      | 19, h => exact h
      | 20, h => exact h
      | 21, h => exact h
      | 22, h => exact h
      | 23, h => exact h
      | 24, h => exact h
      | 25, h => exact h
      | 26, h => exact h
      | 27, h => exact h
      | 28, h => exact h
      | 29, h => exact h
      | _ + 30, _ => trivial
    · intro i o uu W hoo hVW hd
      rcases i with _|_|_|_|_|_|_|_|_|_|_|_|_|_|_|_|_|_|_|_|_|_|_|_|_|_|_|_|_|_|i
      · obtain rfl := Option.some.inj hoo
        refine .inl ⟨wanted_none rfl, ?_⟩
        generalize hev : Act.eval _ = ev
        have ec : ∀ c, ev (.const c) = c := fun c => by rw [← hev]; rfl
        have e2 : ev (.tmp 2) = .pointer (some ⟨w.heap.size, 0, none⟩) := by rw [← hev]; exact eval_old (by kernel_rfl) 56 rfl (by decide) rfl
        clear hev hd
        exact .inl ⟨_, W, load_blk Try.underlying25 (by kernel_rfl) (KA.next hVW) rfl e2, rfl, Below.refl _ _⟩
      · obtain rfl := Option.some.inj hoo
        have q0 : uu 0 = .agg #[.int .u32 (s.toNat : Int), .int .u32 (d.toNat : Int), .int .u16 (p.toNat : Int), .int .u16 (q.toNat : Int), .int .u8 (r.toNat : Int)] := hd 0 (by kernel_rfl)
        refine .inl ⟨wanted_none rfl, ?_⟩
        generalize hev : Act.eval _ = ev
        have ec : ∀ c, ev (.const c) = c := fun c => by rw [← hev]; rfl
        have ef : ∀ f, ev (.func f) = .func (.func f) #[] #[] := fun f => by rw [← hev]; rfl
        have e27 : ev (.tmp 27) = .agg #[.int .u32 (s.toNat : Int), .int .u32 (d.toNat : Int), .int .u16 (p.toNat : Int), .int .u16 (q.toNat : Int), .int .u8 (r.toNat : Int)] := by rw [← hev]; exact (eval_put (by kernel_rfl) 56 rfl (by decide)).trans q0
        clear hev hd q0
        exact .inr ⟨_, _, _, by go_simp, fbytes_any s d p q r W, fun e w' he => by
          obtain ⟨L, A, c, rfl, HL, hr, hb⟩ := he
          exact ⟨_, rfl, ⟨L, A, c, rfl, HL, hr⟩, hb⟩⟩
      · obtain rfl := Option.some.inj hoo
        refine .inl ⟨wanted_none rfl, ?_⟩
        generalize hev : Act.eval _ = ev
        have ec : ∀ c, ev (.const c) = c := fun c => by rw [← hev]; rfl
        have e3 : ev (.tmp 3) = .pointer (some ⟨w.heap.size + 1, 0, none⟩) := by rw [← hev]; exact eval_old (by kernel_rfl) 56 rfl (by decide) rfl
        clear hev hd
        exact .inl ⟨_, W, load_blk Try.underlying25 (by kernel_rfl) (KB.next hVW) rfl e3, rfl, Below.refl _ _⟩
      · obtain rfl := Option.some.inj hoo
        have q2 : uu 2 = .agg #[.int .u32 (s.toNat : Int), .int .u32 (d.toNat : Int), .int .u16 (p.toNat : Int), .int .u16 (q.toNat : Int), .int .u8 (r.toNat : Int)] := hd 2 (by kernel_rfl)
        refine .inl ⟨wanted_none rfl, ?_⟩
        generalize hev : Act.eval _ = ev
        have ec : ∀ c, ev (.const c) = c := fun c => by rw [← hev]; rfl
        have ef : ∀ f, ev (.func f) = .func (.func f) #[] #[] := fun f => by rw [← hev]; rfl
        have e29 : ev (.tmp 29) = .agg #[.int .u32 (s.toNat : Int), .int .u32 (d.toNat : Int), .int .u16 (p.toNat : Int), .int .u16 (q.toNat : Int), .int .u8 (r.toNat : Int)] := by rw [← hev]; exact (eval_put (by kernel_rfl) 56 rfl (by decide)).trans q2
        clear hev hd q2
        exact .inr ⟨_, _, _, by go_simp, fbytes_any s d p q r W, fun e w' he => by
          obtain ⟨L, A, c, rfl, HL, hr, hb⟩ := he
          exact ⟨_, rfl, ⟨L, A, c, rfl, HL, hr⟩, hb⟩⟩
      · obtain rfl := Option.some.inj hoo
        obtain ⟨L1, A1, c1, q1, HL1, r1⟩ := hd 1 (by kernel_rfl)
        obtain ⟨L3, A3, c3, q3, HL3, r3⟩ := hd 3 (by kernel_rfl)
        refine .inl ⟨wanted_none rfl, ?_⟩
        generalize hev : Act.eval _ = ev
        have ec : ∀ c, ev (.const c) = c := fun c => by rw [← hev]; rfl
        have ef : ∀ f, ev (.func f) = .func (.func f) #[] #[] := fun f => by rw [← hev]; rfl
        have e28 : ev (.tmp 28) = .slice A1 L1.length c1 := by rw [← hev]; exact (eval_put (by kernel_rfl) 56 rfl (by decide)).trans q1
        have e30 : ev (.tmp 30) = .slice A3 L3.length c3 := by rw [← hev]; exact (eval_put (by kernel_rfl) 56 rfl (by decide)).trans q3
        clear hev hd q1 q3
        exact .inr ⟨_, _, _, by go_simp, rsame_eq _ _ _ _ L1 L3 W _ r1 r3 (by rw [HL1.out, HL3.out]), fun e w' he => ⟨_, he.1, rfl, he.2.bel⟩⟩
      · obtain rfl := Option.some.inj hoo
        refine .inl ⟨wanted_none rfl, ?_⟩
        generalize hev : Act.eval _ = ev
        have ec : ∀ c, ev (.const c) = c := fun c => by rw [← hev]; rfl
        have e2 : ev (.tmp 2) = .pointer (some ⟨w.heap.size, 0, none⟩) := by rw [← hev]; exact eval_old (by kernel_rfl) 56 rfl (by decide) rfl
        clear hev hd
        exact .inl ⟨_, W, load_blk Try.underlying25 (by kernel_rfl) (KA.next hVW) rfl e2, rfl, Below.refl _ _⟩
      · obtain rfl := Option.some.inj hoo
        refine .inl ⟨wanted_none rfl, ?_⟩
        generalize hev : Act.eval _ = ev
        have ec : ∀ c, ev (.const c) = c := fun c => by rw [← hev]; rfl
        have e3 : ev (.tmp 3) = .pointer (some ⟨w.heap.size + 1, 0, none⟩) := by rw [← hev]; exact eval_old (by kernel_rfl) 56 rfl (by decide) rfl
        clear hev hd
        exact .inl ⟨_, W, load_blk Try.underlying25 (by kernel_rfl) (KB.next hVW) rfl e3, rfl, Below.refl _ _⟩
      · obtain rfl := Option.some.inj hoo
        have q5 : uu 5 = .agg #[.int .u32 (s.toNat : Int), .int .u32 (d.toNat : Int), .int .u16 (p.toNat : Int), .int .u16 (q.toNat : Int), .int .u8 (r.toNat : Int)] := hd 5 (by kernel_rfl)
        have q6 : uu 6 = .agg #[.int .u32 (s.toNat : Int), .int .u32 (d.toNat : Int), .int .u16 (p.toNat : Int), .int .u16 (q.toNat : Int), .int .u8 (r.toNat : Int)] := hd 6 (by kernel_rfl)
        refine .inl ⟨wanted_none rfl, ?_⟩
        generalize hev : Act.eval _ = ev
        have ec : ∀ c, ev (.const c) = c := fun c => by rw [← hev]; rfl
        have e32 : ev (.tmp 32) = .agg #[.int .u32 (s.toNat : Int), .int .u32 (d.toNat : Int), .int .u16 (p.toNat : Int), .int .u16 (q.toNat : Int), .int .u8 (r.toNat : Int)] := by rw [← hev]; exact (eval_put (by kernel_rfl) 56 rfl (by decide)).trans q5
        have e33 : ev (.tmp 33) = .agg #[.int .u32 (s.toNat : Int), .int .u32 (d.toNat : Int), .int .u16 (p.toNat : Int), .int .u16 (q.toNat : Int), .int .u8 (r.toNat : Int)] := by rw [← hev]; exact (eval_put (by kernel_rfl) 56 rfl (by decide)).trans q6
        clear hev hd q5 q6
        exact .inl ⟨_, W, by go_simp, rfl, Below.refl _ _⟩
      · obtain rfl := Option.some.inj hoo
        have q4 : uu 4 = .bool true := hd 4 (by kernel_rfl)
        have q7 : uu 7 = .bool true := hd 7 (by kernel_rfl)
        refine .inl ⟨wanted_none rfl, ?_⟩
        generalize hev : Act.eval _ = ev
        have ec : ∀ c, ev (.const c) = c := fun c => by rw [← hev]; rfl
        have e31 : ev (.tmp 31) = .bool true := by rw [← hev]; exact (eval_put (by kernel_rfl) 56 rfl (by decide)).trans q4
        have e34 : ev (.tmp 34) = .bool true := by rw [← hev]; exact (eval_put (by kernel_rfl) 56 rfl (by decide)).trans q7
        clear hev hd q4 q7
        exact .inl ⟨_, W, by go_simp, rfl, Below.refl _ _⟩
      · obtain rfl := Option.some.inj hoo
        have q8 : uu 8 = .bool true := hd 8 (by kernel_rfl)
        refine .inl ⟨wanted_none rfl, ?_⟩
        generalize hev : Act.eval _ = ev
        have ec : ∀ c, ev (.const c) = c := fun c => by rw [← hev]; rfl
        have e35 : ev (.tmp 35) = .bool true := by rw [← hev]; exact (eval_put (by kernel_rfl) 56 rfl (by decide)).trans q8
        clear hev hd q8
        exact .inl ⟨_, W, by go_simp, rfl, Below.refl _ _⟩
      · obtain rfl := Option.some.inj hoo
        have q9 : uu 9 = .bool true := hd 9 (by kernel_rfl)
        refine .inl ⟨wanted_yes rfl (yielded_put (k := 36) (by kernel_rfl) (by kernel_rfl) 56 rfl (by decide) q9), ?_⟩
        generalize hev : Act.eval _ = ev
        have ec : ∀ c, ev (.const c) = c := fun c => by rw [← hev]; rfl
        have e2 : ev (.tmp 2) = .pointer (some ⟨w.heap.size, 0, none⟩) := by rw [← hev]; exact eval_old (by kernel_rfl) 56 rfl (by decide) rfl
        clear hev hd q9
        exact .inl ⟨_, W, load_blk Try.underlying25 (by kernel_rfl) (KA.next hVW) rfl e2, rfl, Below.refl _ _⟩
      · obtain rfl := Option.some.inj hoo
        have q9 : uu 9 = .bool true := hd 9 (by kernel_rfl)
        refine .inl ⟨wanted_yes rfl (yielded_put (k := 36) (by kernel_rfl) (by kernel_rfl) 56 rfl (by decide) q9), ?_⟩
        generalize hev : Act.eval _ = ev
        have ec : ∀ c, ev (.const c) = c := fun c => by rw [← hev]; rfl
        have e3 : ev (.tmp 3) = .pointer (some ⟨w.heap.size + 1, 0, none⟩) := by rw [← hev]; exact eval_old (by kernel_rfl) 56 rfl (by decide) rfl
        clear hev hd q9
        exact .inl ⟨_, W, load_blk Try.underlying25 (by kernel_rfl) (KB.next hVW) rfl e3, rfl, Below.refl _ _⟩
      · obtain rfl := Option.some.inj hoo
        have q10 : uu 10 = .agg #[.int .u32 (s.toNat : Int), .int .u32 (d.toNat : Int), .int .u16 (p.toNat : Int), .int .u16 (q.toNat : Int), .int .u8 (r.toNat : Int)] := hd 10 (by kernel_rfl)
        have q11 : uu 11 = .agg #[.int .u32 (s.toNat : Int), .int .u32 (d.toNat : Int), .int .u16 (p.toNat : Int), .int .u16 (q.toNat : Int), .int .u8 (r.toNat : Int)] := hd 11 (by kernel_rfl)
        have q9 : uu 9 = .bool true := hd 9 (by kernel_rfl)
        refine .inl ⟨wanted_yes rfl (yielded_put (k := 36) (by kernel_rfl) (by kernel_rfl) 56 rfl (by decide) q9), ?_⟩
        generalize hev : Act.eval _ = ev
        have ec : ∀ c, ev (.const c) = c := fun c => by rw [← hev]; rfl
        have ef : ∀ f, ev (.func f) = .func (.func f) #[] #[] := fun f => by rw [← hev]; rfl
        have e37 : ev (.tmp 37) = .agg #[.int .u32 (s.toNat : Int), .int .u32 (d.toNat : Int), .int .u16 (p.toNat : Int), .int .u16 (q.toNat : Int), .int .u8 (r.toNat : Int)] := by rw [← hev]; exact (eval_put (by kernel_rfl) 56 rfl (by decide)).trans q10
        have e38 : ev (.tmp 38) = .agg #[.int .u32 (s.toNat : Int), .int .u32 (d.toNat : Int), .int .u16 (p.toNat : Int), .int .u16 (q.toNat : Int), .int .u8 (r.toNat : Int)] := by rw [← hev]; exact (eval_put (by kernel_rfl) 56 rfl (by decide)).trans q11
        clear hev hd q10 q11 q9
        exact .inr ⟨_, _, _, by go_simp, (HC1 W).out, fun e w' he => ⟨_, he.1, rfl, he.2⟩⟩
      · obtain rfl := Option.some.inj hoo
        have q12 : uu 12 = .int .i64 0 := hd 12 (by kernel_rfl)
        have q9 : uu 9 = .bool true := hd 9 (by kernel_rfl)
        refine .inl ⟨wanted_yes rfl (yielded_put (k := 36) (by kernel_rfl) (by kernel_rfl) 56 rfl (by decide) q9), ?_⟩
        generalize hev : Act.eval _ = ev
        have ec : ∀ c, ev (.const c) = c := fun c => by rw [← hev]; rfl
        have e39 : ev (.tmp 39) = .int .i64 0 := by rw [← hev]; exact (eval_put (by kernel_rfl) 56 rfl (by decide)).trans q12
        clear hev hd q12 q9
        exact .inl ⟨_, W, by go_simp, rfl, Below.refl _ _⟩
      · obtain rfl := Option.some.inj hoo
        have q9 : uu 9 = .bool true := hd 9 (by kernel_rfl)
        refine .inl ⟨wanted_yes rfl (yielded_put (k := 36) (by kernel_rfl) (by kernel_rfl) 56 rfl (by decide) q9), ?_⟩
        generalize hev : Act.eval _ = ev
        have ec : ∀ c, ev (.const c) = c := fun c => by rw [← hev]; rfl
        have e2 : ev (.tmp 2) = .pointer (some ⟨w.heap.size, 0, none⟩) := by rw [← hev]; exact eval_old (by kernel_rfl) 56 rfl (by decide) rfl
        clear hev hd q9
        exact .inl ⟨_, W, load_blk Try.underlying25 (by kernel_rfl) (KA.next hVW) rfl e2, rfl, Below.refl _ _⟩
      · obtain rfl := Option.some.inj hoo
        have q9 : uu 9 = .bool true := hd 9 (by kernel_rfl)
        refine .inl ⟨wanted_yes rfl (yielded_put (k := 36) (by kernel_rfl) (by kernel_rfl) 56 rfl (by decide) q9), ?_⟩
        generalize hev : Act.eval _ = ev
        have ec : ∀ c, ev (.const c) = c := fun c => by rw [← hev]; rfl
        have e3 : ev (.tmp 3) = .pointer (some ⟨w.heap.size + 1, 0, none⟩) := by rw [← hev]; exact eval_old (by kernel_rfl) 56 rfl (by decide) rfl
        clear hev hd q9
        exact .inl ⟨_, W, load_blk Try.underlying25 (by kernel_rfl) (KB.next hVW) rfl e3, rfl, Below.refl _ _⟩
      · obtain rfl := Option.some.inj hoo
        have q14 : uu 14 = .agg #[.int .u32 (s.toNat : Int), .int .u32 (d.toNat : Int), .int .u16 (p.toNat : Int), .int .u16 (q.toNat : Int), .int .u8 (r.toNat : Int)] := hd 14 (by kernel_rfl)
        have q15 : uu 15 = .agg #[.int .u32 (s.toNat : Int), .int .u32 (d.toNat : Int), .int .u16 (p.toNat : Int), .int .u16 (q.toNat : Int), .int .u8 (r.toNat : Int)] := hd 15 (by kernel_rfl)
        have q9 : uu 9 = .bool true := hd 9 (by kernel_rfl)
        refine .inl ⟨wanted_yes rfl (yielded_put (k := 36) (by kernel_rfl) (by kernel_rfl) 56 rfl (by decide) q9), ?_⟩
        generalize hev : Act.eval _ = ev
        have ec : ∀ c, ev (.const c) = c := fun c => by rw [← hev]; rfl
        have e41 : ev (.tmp 41) = .agg #[.int .u32 (s.toNat : Int), .int .u32 (d.toNat : Int), .int .u16 (p.toNat : Int), .int .u16 (q.toNat : Int), .int .u8 (r.toNat : Int)] := by rw [← hev]; exact (eval_put (by kernel_rfl) 56 rfl (by decide)).trans q14
        have e42 : ev (.tmp 42) = .agg #[.int .u32 (s.toNat : Int), .int .u32 (d.toNat : Int), .int .u16 (p.toNat : Int), .int .u16 (q.toNat : Int), .int .u8 (r.toNat : Int)] := by rw [← hev]; exact (eval_put (by kernel_rfl) 56 rfl (by decide)).trans q15
        clear hev hd q14 q15 q9
        exact .inl ⟨_, W, by go_simp, rfl, Below.refl _ _⟩
      · obtain rfl := Option.some.inj hoo
        have q13 : uu 13 = .bool true := hd 13 (by kernel_rfl)
        have q16 : uu 16 = .bool true := hd 16 (by kernel_rfl)
        have q9 : uu 9 = .bool true := hd 9 (by kernel_rfl)
        refine .inl ⟨wanted_yes rfl (yielded_put (k := 36) (by kernel_rfl) (by kernel_rfl) 56 rfl (by decide) q9), ?_⟩
        generalize hev : Act.eval _ = ev
        have ec : ∀ c, ev (.const c) = c := fun c => by rw [← hev]; rfl
        have e40 : ev (.tmp 40) = .bool true := by rw [← hev]; exact (eval_put (by kernel_rfl) 56 rfl (by decide)).trans q13
        have e43 : ev (.tmp 43) = .bool true := by rw [← hev]; exact (eval_put (by kernel_rfl) 56 rfl (by decide)).trans q16
        clear hev hd q13 q16 q9
        exact .inl ⟨_, W, by go_simp, rfl, Below.refl _ _⟩
      · obtain rfl := Option.some.inj hoo
        have q9 : uu 9 = .bool true := hd 9 (by kernel_rfl)
        have q17 : uu 17 = .bool true := hd 17 (by kernel_rfl)
        refine .inl ⟨wanted_none rfl, ?_⟩
        generalize hev : Act.eval _ = ev
        have ec : ∀ c, ev (.const c) = c := fun c => by rw [← hev]; rfl
        have e36 : ev (.tmp 36) = .bool true := by rw [← hev]; exact (eval_put (by kernel_rfl) 56 rfl (by decide)).trans q9
        have e44 : ev (.tmp 44) = .bool true := by rw [← hev]; exact (eval_put (by kernel_rfl) 56 rfl (by decide)).trans q17
        clear hev hd q9 q17
        exact .inl ⟨_, W, by go_simp, rfl, Below.refl _ _⟩
      · obtain rfl := Option.some.inj hoo
        have q18 : uu 18 = .bool true := hd 18 (by kernel_rfl)
        refine .inl ⟨wanted_none rfl, ?_⟩
        generalize hev : Act.eval _ = ev
        have ec : ∀ c, ev (.const c) = c := fun c => by rw [← hev]; rfl
        have e45 : ev (.tmp 45) = .bool true := by rw [← hev]; exact (eval_put (by kernel_rfl) 56 rfl (by decide)).trans q18
        clear hev hd q18
        exact .inl ⟨_, W, by go_simp, rfl, Below.refl _ _⟩
      · obtain rfl := Option.some.inj hoo
        have q19 : uu 19 = .bool true := hd 19 (by kernel_rfl)
        refine .inl ⟨wanted_yes rfl (yielded_put (k := 46) (by kernel_rfl) (by kernel_rfl) 56 rfl (by decide) q19), ?_⟩
        generalize hev : Act.eval _ = ev
        have ec : ∀ c, ev (.const c) = c := fun c => by rw [← hev]; rfl
        have e2 : ev (.tmp 2) = .pointer (some ⟨w.heap.size, 0, none⟩) := by rw [← hev]; exact eval_old (by kernel_rfl) 56 rfl (by decide) rfl
        clear hev hd q19
        exact .inl ⟨_, W, load_blk Try.underlying25 (by kernel_rfl) (KA.next hVW) rfl e2, rfl, Below.refl _ _⟩
      · obtain rfl := Option.some.inj hoo
        have q20 : uu 20 = .agg #[.int .u32 (s.toNat : Int), .int .u32 (d.toNat : Int), .int .u16 (p.toNat : Int), .int .u16 (q.toNat : Int), .int .u8 (r.toNat : Int)] := hd 20 (by kernel_rfl)
        have q19 : uu 19 = .bool true := hd 19 (by kernel_rfl)
        refine .inl ⟨wanted_yes rfl (yielded_put (k := 46) (by kernel_rfl) (by kernel_rfl) 56 rfl (by decide) q19), ?_⟩
        generalize hev : Act.eval _ = ev
        have ec : ∀ c, ev (.const c) = c := fun c => by rw [← hev]; rfl
        have ef : ∀ f, ev (.func f) = .func (.func f) #[] #[] := fun f => by rw [← hev]; rfl
        have e47 : ev (.tmp 47) = .agg #[.int .u32 (s.toNat : Int), .int .u32 (d.toNat : Int), .int .u16 (p.toNat : Int), .int .u16 (q.toNat : Int), .int .u8 (r.toNat : Int)] := by rw [← hev]; exact (eval_put (by kernel_rfl) 56 rfl (by decide)).trans q20
        clear hev hd q20 q19
        exact .inr ⟨_, _, _, by go_simp, fback_any s d p q r W, fun e w' he => ⟨_, he.1, rfl, he.2⟩⟩
      · obtain rfl := Option.some.inj hoo
        have q21 : uu 21 = .agg #[.int .u32 (d.toNat : Int), .int .u32 (s.toNat : Int), .int .u16 (q.toNat : Int), .int .u16 (p.toNat : Int), .int .u8 (r.toNat : Int)] := hd 21 (by kernel_rfl)
        have q19 : uu 19 = .bool true := hd 19 (by kernel_rfl)
        refine .inl ⟨wanted_yes rfl (yielded_put (k := 46) (by kernel_rfl) (by kernel_rfl) 56 rfl (by decide) q19), ?_⟩
        generalize hev : Act.eval _ = ev
        have ec : ∀ c, ev (.const c) = c := fun c => by rw [← hev]; rfl
        have ef : ∀ f, ev (.func f) = .func (.func f) #[] #[] := fun f => by rw [← hev]; rfl
        have e48 : ev (.tmp 48) = .agg #[.int .u32 (d.toNat : Int), .int .u32 (s.toNat : Int), .int .u16 (q.toNat : Int), .int .u16 (p.toNat : Int), .int .u8 (r.toNat : Int)] := by rw [← hev]; exact (eval_put (by kernel_rfl) 56 rfl (by decide)).trans q21
        clear hev hd q21 q19
        exact .inr ⟨_, _, _, by go_simp, fback_any d s q p r W, fun e w' he => ⟨_, he.1, rfl, he.2⟩⟩
      · obtain rfl := Option.some.inj hoo
        have q19 : uu 19 = .bool true := hd 19 (by kernel_rfl)
        refine .inl ⟨wanted_yes rfl (yielded_put (k := 46) (by kernel_rfl) (by kernel_rfl) 56 rfl (by decide) q19), ?_⟩
        generalize hev : Act.eval _ = ev
        have ec : ∀ c, ev (.const c) = c := fun c => by rw [← hev]; rfl
        have e2 : ev (.tmp 2) = .pointer (some ⟨w.heap.size, 0, none⟩) := by rw [← hev]; exact eval_old (by kernel_rfl) 56 rfl (by decide) rfl
        clear hev hd q19
        exact .inl ⟨_, W, load_blk Try.underlying25 (by kernel_rfl) (KA.next hVW) rfl e2, rfl, Below.refl _ _⟩
      · obtain rfl := Option.some.inj hoo
        have q22 : uu 22 = .agg #[.int .u32 (s.toNat : Int), .int .u32 (d.toNat : Int), .int .u16 (p.toNat : Int), .int .u16 (q.toNat : Int), .int .u8 (r.toNat : Int)] := hd 22 (by kernel_rfl)
        have q23 : uu 23 = .agg #[.int .u32 (s.toNat : Int), .int .u32 (d.toNat : Int), .int .u16 (p.toNat : Int), .int .u16 (q.toNat : Int), .int .u8 (r.toNat : Int)] := hd 23 (by kernel_rfl)
        have q19 : uu 19 = .bool true := hd 19 (by kernel_rfl)
        refine .inl ⟨wanted_yes rfl (yielded_put (k := 46) (by kernel_rfl) (by kernel_rfl) 56 rfl (by decide) q19), ?_⟩
        generalize hev : Act.eval _ = ev
        have ec : ∀ c, ev (.const c) = c := fun c => by rw [← hev]; rfl
        have e49 : ev (.tmp 49) = .agg #[.int .u32 (s.toNat : Int), .int .u32 (d.toNat : Int), .int .u16 (p.toNat : Int), .int .u16 (q.toNat : Int), .int .u8 (r.toNat : Int)] := by rw [← hev]; exact (eval_put (by kernel_rfl) 56 rfl (by decide)).trans q22
        have e50 : ev (.tmp 50) = .agg #[.int .u32 (s.toNat : Int), .int .u32 (d.toNat : Int), .int .u16 (p.toNat : Int), .int .u16 (q.toNat : Int), .int .u8 (r.toNat : Int)] := by rw [← hev]; exact (eval_put (by kernel_rfl) 56 rfl (by decide)).trans q23
        clear hev hd q22 q23 q19
        exact .inl ⟨_, W, by go_simp, rfl, Below.refl _ _⟩
      · obtain rfl := Option.some.inj hoo
        have q19 : uu 19 = .bool true := hd 19 (by kernel_rfl)
        have q24 : uu 24 = .bool true := hd 24 (by kernel_rfl)
        refine .inl ⟨wanted_none rfl, ?_⟩
        generalize hev : Act.eval _ = ev
        have ec : ∀ c, ev (.const c) = c := fun c => by rw [← hev]; rfl
        have e46 : ev (.tmp 46) = .bool true := by rw [← hev]; exact (eval_put (by kernel_rfl) 56 rfl (by decide)).trans q19
        have e51 : ev (.tmp 51) = .bool true := by rw [← hev]; exact (eval_put (by kernel_rfl) 56 rfl (by decide)).trans q24
        clear hev hd q19 q24
        exact .inl ⟨_, W, by go_simp, rfl, Below.refl _ _⟩
      · obtain rfl := Option.some.inj hoo
        have q25 : uu 25 = .bool true := hd 25 (by kernel_rfl)
        refine .inl ⟨wanted_none rfl, ?_⟩
        generalize hev : Act.eval _ = ev
        have ec : ∀ c, ev (.const c) = c := fun c => by rw [← hev]; rfl
        have e52 : ev (.tmp 52) = .bool true := by rw [← hev]; exact (eval_put (by kernel_rfl) 56 rfl (by decide)).trans q25
        clear hev hd q25
        exact .inl ⟨_, W, by go_simp, rfl, Below.refl _ _⟩
      · obtain rfl := Option.some.inj hoo
        have q26 : uu 26 = .bool true := hd 26 (by kernel_rfl)
        refine .inl ⟨wanted_yes rfl (yielded_put (k := 53) (by kernel_rfl) (by kernel_rfl) 56 rfl (by decide) q26), ?_⟩
        generalize hev : Act.eval _ = ev
        have ec : ∀ c, ev (.const c) = c := fun c => by rw [← hev]; rfl
        have ef : ∀ f, ev (.func f) = .func (.func f) #[] #[] := fun f => by rw [← hev]; rfl
        clear hev hd q26
        exact .inr ⟨_, _, _, by go_simp, flives_any W, fun e w' he => ⟨_, he.1, rfl, he.2⟩⟩
      · obtain rfl := Option.some.inj hoo
        have q26 : uu 26 = .bool true := hd 26 (by kernel_rfl)
        have q27 : uu 27 = .bool true := hd 27 (by kernel_rfl)
        refine .inl ⟨wanted_none rfl, ?_⟩
        generalize hev : Act.eval _ = ev
        have ec : ∀ c, ev (.const c) = c := fun c => by rw [← hev]; rfl
        have e53 : ev (.tmp 53) = .bool true := by rw [← hev]; exact (eval_put (by kernel_rfl) 56 rfl (by decide)).trans q26
        have e54 : ev (.tmp 54) = .bool true := by rw [← hev]; exact (eval_put (by kernel_rfl) 56 rfl (by decide)).trans q27
        clear hev hd q26 q27
        exact .inl ⟨_, W, by go_simp, rfl, Below.refl _ _⟩
      · obtain rfl := Option.some.inj hoo
        have q28 : uu 28 = .bool true := hd 28 (by kernel_rfl)
        refine .inl ⟨wanted_none rfl, ?_⟩
        generalize hev : Act.eval _ = ev
        have ec : ∀ c, ev (.const c) = c := fun c => by rw [← hev]; rfl
        have e55 : ev (.tmp 55) = .bool true := by rw [← hev]; exact (eval_put (by kernel_rfl) 56 rfl (by decide)).trans q28
        clear hev hd q28
        exact .inl ⟨_, W, by go_simp, rfl, Below.refl _ _⟩
      · simp at hoo
    · intro uu W hVW hall
      have q29 : uu 29 = .bool true := hall 29 (by decide)
      replace hB := hB.trans (hVW.mono hB.size)
      clear hall hVW
      simp only [putAll, Act.put, Nat.reduceAdd, q29]
      simp only [List.setIfInBounds_toArray, List.set_cons_succ, List.set_cons_zero]
      go_wp2_with fail
      go_ret
      exact ⟨rfl, hB⟩
set_option maxRecDepth 4000 in
set_option maxHeartbeats 4000000 in
theorem fbytes_ne (s d : UInt32) (p q : UInt16) (r : UInt8) (s1 d1 : UInt32) (p1 q1 : UInt16) (r1 : UInt8) (hne : ¬ (s = s1 ∧ d = d1 ∧ p = p1 ∧ q = q1 ∧ r = r1)) (w : World) : Calls Try.prog 3 #[.agg #[.int .u32 (s.toNat : Int), .int .u32 (d.toNat : Int), .int .u16 (p.toNat : Int), .int .u16 (q.toNat : Int), .int .u8 (r.toNat : Int)], .agg #[.int .u32 (s1.toNat : Int), .int .u32 (d1.toNat : Int), .int .u16 (p1.toNat : Int), .int .u16 (q1.toNat : Int), .int .u8 (r1.toNat : Int)]] w fun e w' => e = .returned (.bool true) ∧ Below w.heap.size w w' := by
  have HC1 := fun W => Lib.hid (fcompare_any s d p q r s1 d1 p1 q1 r1 W)
  have HC2 := fun W => Lib.hid (rfcompare_any s d p q r s1 d1 p1 q1 r1 W)
  have hx : [s.toNat, d.toNat, p.toNat, q.toNat, r.toNat] ≠ [s1.toNat, d1.toNat, p1.toNat, q1.toNat, r1.toNat] := by
    intro h
    simp only [List.cons.injEq, UInt32.toNat_inj, UInt16.toNat_inj, UInt8.toNat_inj, and_true] at h
    exact hne h
  have hc : Lib.compareBytes (fb s d p q r) (fb s1 d1 p1 q1 r1) ≠ 0 := by
    rw [cmp_flow]
    exact fun h => hx ((cmpL_zero [s.toNat, d.toNat, p.toNat, q.toNat, r.toNat] [s1.toNat, d1.toNat, p1.toNat, q1.toNat, r1.toNat] rfl).mp h)
  have HNE : Hid (fb s d p q r ≠ fb s1 d1 p1 q1 r1) := by
    intro h
    rw [h] at hc
    exact hc (cmp_self _)
  generalize Lib.compareBytes (fb s d p q r) (fb s1 d1 p1 q1 r1) = C at HC1 HC2 hc
  have HC0 : Hid ((C == 0) = false) := by simpa [Hid] using hc
  have HNS : Hid ((s.toNat : Int) = (s1.toNat : Int) → (d.toNat : Int) = (d1.toNat : Int) → (p.toNat : Int) = (p1.toNat : Int) → (q.toNat : Int) = (q1.toNat : Int) → ¬ (r.toNat : Int) = (r1.toNat : Int)) := by
    simp only [Hid, Int.natCast_inj, UInt32.toNat_inj, UInt16.toNat_inj, UInt8.toNat_inj]
    exact fun h1 h2 h3 h4 h5 => hne ⟨h1, h2, h3, h4, h5⟩
  clear hx hc hne
  have KA := (Blk.new w #[.int .u32 (s.toNat : Int), .int .u32 (d.toNat : Int), .int .u16 (p.toNat : Int), .int .u16 (q.toNat : Int), .int .u8 (r.toNat : Int)] 25).alloc (.cells #[.int .u32 (s1.toNat : Int), .int .u32 (d1.toNat : Int), .int .u16 (p1.toNat : Int), .int .u16 (q1.toNat : Int), .int .u8 (r1.toNat : Int)] 25)
  have KB : Blk ((w.alloc (.cells #[.int .u32 (s.toNat : Int), .int .u32 (d.toNat : Int), .int .u16 (p.toNat : Int), .int .u16 (q.toNat : Int), .int .u8 (r.toNat : Int)] 25)).alloc (.cells #[.int .u32 (s1.toNat : Int), .int .u32 (d1.toNat : Int), .int .u16 (p1.toNat : Int), .int .u16 (q1.toNat : Int), .int .u8 (r1.toNat : Int)] 25)) (w.heap.size + 1) [.int .u32 (s1.toNat : Int), .int .u32 (d1.toNat : Int), .int .u16 (p1.toNat : Int), .int .u16 (q1.toNat : Int), .int .u8 (r1.toNat : Int)] 25 := by
    have := Blk.new (w.alloc (.cells #[.int .u32 (s.toNat : Int), .int .u32 (d.toNat : Int), .int .u16 (p.toNat : Int), .int .u16 (q.toNat : Int), .int .u8 (r.toNat : Int)] 25)) #[.int .u32 (s1.toNat : Int), .int .u32 (d1.toNat : Int), .int .u16 (p1.toNat : Int), .int .u16 (q1.toNat : Int), .int .u8 (r1.toNat : Int)] 25
    simpa using this
  have hB := bnextA (bnextA (Below.refl w.heap.size w) (.cells #[.int .u32 (s.toNat : Int), .int .u32 (d.toNat : Int), .int .u16 (p.toNat : Int), .int .u16 (q.toNat : Int), .int .u8 (r.toNat : Int)] 25)) (.cells #[.int .u32 (s1.toNat : Int), .int .u32 (d1.toNat : Int), .int .u16 (p1.toNat : Int), .int .u16 (q1.toNat : Int), .int .u8 (r1.toNat : Int)] 25)
  go_enter Try.func3, Try.ntmps3
  go_wp2_with fail
  generalize (w.alloc (.cells #[.int .u32 (s.toNat : Int), .int .u32 (d.toNat : Int), .int .u16 (p.toNat : Int), .int .u16 (q.toNat : Int), .int .u8 (r.toNat : Int)] 25)).alloc (.cells #[.int .u32 (s1.toNat : Int), .int .u32 (d1.toNat : Int), .int .u16 (p1.toNat : Int), .int .u16 (q1.toNat : Int), .int .u8 (r1.toNat : Int)] 25) = V at *
  refine region_put (by kernel_rfl) (by kernel_rfl) (by kernel_rfl) 56 rfl (by kernel_rfl) V (fun i v W => match i with
      | 0 => v = .agg #[.int .u32 (s.toNat : Int), .int .u32 (d.toNat : Int), .int .u16 (p.toNat : Int), .int .u16 (q.toNat : Int), .int .u8 (r.toNat : Int)]
      | 1 => ∃ L A c, v = .slice A L.length c ∧ Hid (L = fb s d p q r) ∧ Rd bv W W.heap.size A c L
      | 2 => v = .agg #[.int .u32 (s.toNat : Int), .int .u32 (d.toNat : Int), .int .u16 (p.toNat : Int), .int .u16 (q.toNat : Int), .int .u8 (r.toNat : Int)]
      | 3 => ∃ L A c, v = .slice A L.length c ∧ Hid (L = fb s d p q r) ∧ Rd bv W W.heap.size A c L
      | 4 => v = .bool true
      | 5 => v = .bool false
      | 6 => v = .bool false
      | 7 => v = .agg #[.int .u32 (s.toNat : Int), .int .u32 (d.toNat : Int), .int .u16 (p.toNat : Int), .int .u16 (q.toNat : Int), .int .u8 (r.toNat : Int)]
      | 8 => v = .agg #[.int .u32 (s1.toNat : Int), .int .u32 (d1.toNat : Int), .int .u16 (p1.toNat : Int), .int .u16 (q1.toNat : Int), .int .u8 (r1.toNat : Int)]
      | 9 => v = .int .i64 C
      | 10 => v = .agg #[.int .u32 (s.toNat : Int), .int .u32 (d.toNat : Int), .int .u16 (p.toNat : Int), .int .u16 (q.toNat : Int), .int .u8 (r.toNat : Int)]
      | 11 => v = .agg #[.int .u32 (s1.toNat : Int), .int .u32 (d1.toNat : Int), .int .u16 (p1.toNat : Int), .int .u16 (q1.toNat : Int), .int .u8 (r1.toNat : Int)]
      | 12 => v = .int .i64 C
      | 13 => v = .bool false
      | 14 => v = .bool false
      | 15 => v = .bool false
      | 16 => v = .agg #[.int .u32 (s.toNat : Int), .int .u32 (d.toNat : Int), .int .u16 (p.toNat : Int), .int .u16 (q.toNat : Int), .int .u8 (r.toNat : Int)]
      | 17 => v = .agg #[.int .u32 (d.toNat : Int), .int .u32 (s.toNat : Int), .int .u16 (q.toNat : Int), .int .u16 (p.toNat : Int), .int .u8 (r.toNat : Int)]
      | 18 => v = .agg #[.int .u32 (s.toNat : Int), .int .u32 (d.toNat : Int), .int .u16 (p.toNat : Int), .int .u16 (q.toNat : Int), .int .u8 (r.toNat : Int)]
      | 19 => v = .agg #[.int .u32 (d.toNat : Int), .int .u32 (s.toNat : Int), .int .u16 (q.toNat : Int), .int .u16 (p.toNat : Int), .int .u8 (r.toNat : Int)]
      | 20 => v = .bool false
      | 21 => v = .bool false
      | _ => True) (Below.refl _ _) ?_ ?_ ?_
  · intro i v W W' h hb
    match i, h with
    | 0, h => exact h
    | 1, h => obtain ⟨L, A, c, h1, h2, h3⟩ := h; exact ⟨L, A, c, h1, h2, h3.next hb⟩
    | 2, h => exact h
    | 3, h => obtain ⟨L, A, c, h1, h2, h3⟩ := h; exact ⟨L, A, c, h1, h2, h3.next hb⟩
    | 4, h => exact h
    | 5, h => exact h
    | 6, h => exact h
    | 7, h => exact h
    | 8, h => exact h
    | 9, h => exact h
    | 10, h => exact h
    | 11, h => exact h
    | 12, h => exact h
    | 13, h => exact h
    | 14, h => exact h
    | 15, h => exact h
    | 16, h => exact h
    | 17, h => exact h
    | 18, h => exact h
    | 19, h => exact h
    | 20, h => exact h
    | 21, h => exact h
    | _ + 22, _ => trivial
  · intro i o uu W hoo hVW hd
    rcases i with _|_|_|_|_|_|_|_|_|_|_|_|_|_|_|_|_|_|_|_|_|_|i
    · obtain rfl := Option.some.inj hoo
      refine .inl ⟨wanted_none rfl, ?_⟩
      generalize hev : Act.eval _ = ev
      have ec : ∀ c, ev (.const c) = c := fun c => by rw [← hev]; rfl
      have e2 : ev (.tmp 2) = .pointer (some ⟨w.heap.size, 0, none⟩) := by rw [← hev]; exact eval_old (by kernel_rfl) 56 rfl (by decide) rfl
      clear hev hd
      exact .inl ⟨_, W, load_blk Try.underlying25 (by kernel_rfl) (KA.next hVW) rfl e2, rfl, Below.refl _ _⟩
    · obtain rfl := Option.some.inj hoo
      have q0 : uu 0 = .agg #[.int .u32 (s.toNat : Int), .int .u32 (d.toNat : Int), .int .u16 (p.toNat : Int), .int .u16 (q.toNat : Int), .int .u8 (r.toNat : Int)] := hd 0 (by kernel_rfl)
      refine .inl ⟨wanted_none rfl, ?_⟩
      generalize hev : Act.eval _ = ev
      have ec : ∀ c, ev (.const c) = c := fun c => by rw [← hev]; rfl
      have ef : ∀ f, ev (.func f) = .func (.func f) #[] #[] := fun f => by rw [← hev]; rfl
      have e5 : ev (.tmp 5) = .agg #[.int .u32 (s.toNat : Int), .int .u32 (d.toNat : Int), .int .u16 (p.toNat : Int), .int .u16 (q.toNat : Int), .int .u8 (r.toNat : Int)] := by rw [← hev]; exact (eval_put (by kernel_rfl) 56 rfl (by decide)).trans q0
      clear hev hd q0
      exact .inr ⟨_, _, _, by go_simp, fbytes_any s d p q r W, fun e w' he => by
        obtain ⟨L, A, c, rfl, HL, hr, hb⟩ := he
        exact ⟨_, rfl, ⟨L, A, c, rfl, HL, hr⟩, hb⟩⟩
    · obtain rfl := Option.some.inj hoo
      refine .inl ⟨wanted_none rfl, ?_⟩
      generalize hev : Act.eval _ = ev
      have ec : ∀ c, ev (.const c) = c := fun c => by rw [← hev]; rfl
      have e2 : ev (.tmp 2) = .pointer (some ⟨w.heap.size, 0, none⟩) := by rw [← hev]; exact eval_old (by kernel_rfl) 56 rfl (by decide) rfl
      clear hev hd
      exact .inl ⟨_, W, load_blk Try.underlying25 (by kernel_rfl) (KA.next hVW) rfl e2, rfl, Below.refl _ _⟩
    · obtain rfl := Option.some.inj hoo
      have q2 : uu 2 = .agg #[.int .u32 (s.toNat : Int), .int .u32 (d.toNat : Int), .int .u16 (p.toNat : Int), .int .u16 (q.toNat : Int), .int .u8 (r.toNat : Int)] := hd 2 (by kernel_rfl)
      refine .inl ⟨wanted_none rfl, ?_⟩
      generalize hev : Act.eval _ = ev
      have ec : ∀ c, ev (.const c) = c := fun c => by rw [← hev]; rfl
      have ef : ∀ f, ev (.func f) = .func (.func f) #[] #[] := fun f => by rw [← hev]; rfl
      have e7 : ev (.tmp 7) = .agg #[.int .u32 (s.toNat : Int), .int .u32 (d.toNat : Int), .int .u16 (p.toNat : Int), .int .u16 (q.toNat : Int), .int .u8 (r.toNat : Int)] := by rw [← hev]; exact (eval_put (by kernel_rfl) 56 rfl (by decide)).trans q2
      clear hev hd q2
      exact .inr ⟨_, _, _, by go_simp, rfbytes_any s d p q r W, fun e w' he => by
        obtain ⟨L, A, c, rfl, HL, hr, hb⟩ := he
        exact ⟨_, rfl, ⟨L, A, c, rfl, HL, hr⟩, hb⟩⟩
    · obtain rfl := Option.some.inj hoo
      obtain ⟨L1, A1, c1, q1, HL1, r1⟩ := hd 1 (by kernel_rfl)
      obtain ⟨L3, A3, c3, q3, HL3, r3⟩ := hd 3 (by kernel_rfl)
      refine .inl ⟨wanted_none rfl, ?_⟩
      generalize hev : Act.eval _ = ev
      have ec : ∀ c, ev (.const c) = c := fun c => by rw [← hev]; rfl
      have ef : ∀ f, ev (.func f) = .func (.func f) #[] #[] := fun f => by rw [← hev]; rfl
      have e6 : ev (.tmp 6) = .slice A1 L1.length c1 := by rw [← hev]; exact (eval_put (by kernel_rfl) 56 rfl (by decide)).trans q1
      have e8 : ev (.tmp 8) = .slice A3 L3.length c3 := by rw [← hev]; exact (eval_put (by kernel_rfl) 56 rfl (by decide)).trans q3
      clear hev hd q1 q3
      exact .inr ⟨_, _, _, by go_simp, rsame_eq _ _ _ _ L1 L3 W _ r1 r3 (by rw [HL1.out, HL3.out]), fun e w' he => ⟨_, he.1, rfl, he.2.bel⟩⟩
    · obtain rfl := Option.some.inj hoo
      have q4 : uu 4 = .bool true := hd 4 (by kernel_rfl)
      refine .inl ⟨wanted_none rfl, ?_⟩
      generalize hev : Act.eval _ = ev
      have ec : ∀ c, ev (.const c) = c := fun c => by rw [← hev]; rfl
      have e9 : ev (.tmp 9) = .bool true := by rw [← hev]; exact (eval_put (by kernel_rfl) 56 rfl (by decide)).trans q4
      clear hev hd q4
      exact .inl ⟨_, W, by go_simp, rfl, Below.refl _ _⟩
    · obtain rfl := Option.some.inj hoo
      have q5 : uu 5 = .bool false := hd 5 (by kernel_rfl)
      refine .inl ⟨wanted_none rfl, ?_⟩
      generalize hev : Act.eval _ = ev
      have ec : ∀ c, ev (.const c) = c := fun c => by rw [← hev]; rfl
      have e10 : ev (.tmp 10) = .bool false := by rw [← hev]; exact (eval_put (by kernel_rfl) 56 rfl (by decide)).trans q5
      clear hev hd q5
      exact .inl ⟨_, W, by go_simp, rfl, Below.refl _ _⟩
    · obtain rfl := Option.some.inj hoo
      have q6 : uu 6 = .bool false := hd 6 (by kernel_rfl)
      refine .inl ⟨wanted_yes rfl (yielded_put (k := 11) (by kernel_rfl) (by kernel_rfl) 56 rfl (by decide) q6), ?_⟩
      generalize hev : Act.eval _ = ev
      have ec : ∀ c, ev (.const c) = c := fun c => by rw [← hev]; rfl
      have e2 : ev (.tmp 2) = .pointer (some ⟨w.heap.size, 0, none⟩) := by rw [← hev]; exact eval_old (by kernel_rfl) 56 rfl (by decide) rfl
      clear hev hd q6
      exact .inl ⟨_, W, load_blk Try.underlying25 (by kernel_rfl) (KA.next hVW) rfl e2, rfl, Below.refl _ _⟩
    · obtain rfl := Option.some.inj hoo
      have q6 : uu 6 = .bool false := hd 6 (by kernel_rfl)
      refine .inl ⟨wanted_yes rfl (yielded_put (k := 11) (by kernel_rfl) (by kernel_rfl) 56 rfl (by decide) q6), ?_⟩
      generalize hev : Act.eval _ = ev
      have ec : ∀ c, ev (.const c) = c := fun c => by rw [← hev]; rfl
      have e3 : ev (.tmp 3) = .pointer (some ⟨w.heap.size + 1, 0, none⟩) := by rw [← hev]; exact eval_old (by kernel_rfl) 56 rfl (by decide) rfl
      clear hev hd q6
      exact .inl ⟨_, W, load_blk Try.underlying25 (by kernel_rfl) (KB.next hVW) rfl e3, rfl, Below.refl _ _⟩
    · obtain rfl := Option.some.inj hoo
      have q7 : uu 7 = .agg #[.int .u32 (s.toNat : Int), .int .u32 (d.toNat : Int), .int .u16 (p.toNat : Int), .int .u16 (q.toNat : Int), .int .u8 (r.toNat : Int)] := hd 7 (by kernel_rfl)
      have q8 : uu 8 = .agg #[.int .u32 (s1.toNat : Int), .int .u32 (d1.toNat : Int), .int .u16 (p1.toNat : Int), .int .u16 (q1.toNat : Int), .int .u8 (r1.toNat : Int)] := hd 8 (by kernel_rfl)
      have q6 : uu 6 = .bool false := hd 6 (by kernel_rfl)
      refine .inl ⟨wanted_yes rfl (yielded_put (k := 11) (by kernel_rfl) (by kernel_rfl) 56 rfl (by decide) q6), ?_⟩
      generalize hev : Act.eval _ = ev
      have ec : ∀ c, ev (.const c) = c := fun c => by rw [← hev]; rfl
      have ef : ∀ f, ev (.func f) = .func (.func f) #[] #[] := fun f => by rw [← hev]; rfl
      have e12 : ev (.tmp 12) = .agg #[.int .u32 (s.toNat : Int), .int .u32 (d.toNat : Int), .int .u16 (p.toNat : Int), .int .u16 (q.toNat : Int), .int .u8 (r.toNat : Int)] := by rw [← hev]; exact (eval_put (by kernel_rfl) 56 rfl (by decide)).trans q7
      have e13 : ev (.tmp 13) = .agg #[.int .u32 (s1.toNat : Int), .int .u32 (d1.toNat : Int), .int .u16 (p1.toNat : Int), .int .u16 (q1.toNat : Int), .int .u8 (r1.toNat : Int)] := by rw [← hev]; exact (eval_put (by kernel_rfl) 56 rfl (by decide)).trans q8
      clear hev hd q7 q8 q6
      exact .inr ⟨_, _, _, by go_simp, (HC1 W).out, fun e w' he => ⟨_, he.1, rfl, he.2⟩⟩
    · obtain rfl := Option.some.inj hoo
      have q6 : uu 6 = .bool false := hd 6 (by kernel_rfl)
      refine .inl ⟨wanted_yes rfl (yielded_put (k := 11) (by kernel_rfl) (by kernel_rfl) 56 rfl (by decide) q6), ?_⟩
      generalize hev : Act.eval _ = ev
      have ec : ∀ c, ev (.const c) = c := fun c => by rw [← hev]; rfl
      have e2 : ev (.tmp 2) = .pointer (some ⟨w.heap.size, 0, none⟩) := by rw [← hev]; exact eval_old (by kernel_rfl) 56 rfl (by decide) rfl
      clear hev hd q6
      exact .inl ⟨_, W, load_blk Try.underlying25 (by kernel_rfl) (KA.next hVW) rfl e2, rfl, Below.refl _ _⟩
    · obtain rfl := Option.some.inj hoo
      have q6 : uu 6 = .bool false := hd 6 (by kernel_rfl)
      refine .inl ⟨wanted_yes rfl (yielded_put (k := 11) (by kernel_rfl) (by kernel_rfl) 56 rfl (by decide) q6), ?_⟩
      generalize hev : Act.eval _ = ev
      have ec : ∀ c, ev (.const c) = c := fun c => by rw [← hev]; rfl
      have e3 : ev (.tmp 3) = .pointer (some ⟨w.heap.size + 1, 0, none⟩) := by rw [← hev]; exact eval_old (by kernel_rfl) 56 rfl (by decide) rfl
      clear hev hd q6
      exact .inl ⟨_, W, load_blk Try.underlying25 (by kernel_rfl) (KB.next hVW) rfl e3, rfl, Below.refl _ _⟩
    · obtain rfl := Option.some.inj hoo
      have q10 : uu 10 = .agg #[.int .u32 (s.toNat : Int), .int .u32 (d.toNat : Int), .int .u16 (p.toNat : Int), .int .u16 (q.toNat : Int), .int .u8 (r.toNat : Int)] := hd 10 (by kernel_rfl)
      have q11 : uu 11 = .agg #[.int .u32 (s1.toNat : Int), .int .u32 (d1.toNat : Int), .int .u16 (p1.toNat : Int), .int .u16 (q1.toNat : Int), .int .u8 (r1.toNat : Int)] := hd 11 (by kernel_rfl)
      have q6 : uu 6 = .bool false := hd 6 (by kernel_rfl)
      refine .inl ⟨wanted_yes rfl (yielded_put (k := 11) (by kernel_rfl) (by kernel_rfl) 56 rfl (by decide) q6), ?_⟩
      generalize hev : Act.eval _ = ev
      have ec : ∀ c, ev (.const c) = c := fun c => by rw [← hev]; rfl
      have ef : ∀ f, ev (.func f) = .func (.func f) #[] #[] := fun f => by rw [← hev]; rfl
      have e15 : ev (.tmp 15) = .agg #[.int .u32 (s.toNat : Int), .int .u32 (d.toNat : Int), .int .u16 (p.toNat : Int), .int .u16 (q.toNat : Int), .int .u8 (r.toNat : Int)] := by rw [← hev]; exact (eval_put (by kernel_rfl) 56 rfl (by decide)).trans q10
      have e16 : ev (.tmp 16) = .agg #[.int .u32 (s1.toNat : Int), .int .u32 (d1.toNat : Int), .int .u16 (p1.toNat : Int), .int .u16 (q1.toNat : Int), .int .u8 (r1.toNat : Int)] := by rw [← hev]; exact (eval_put (by kernel_rfl) 56 rfl (by decide)).trans q11
      clear hev hd q10 q11 q6
      exact .inr ⟨_, _, _, by go_simp, (HC2 W).out, fun e w' he => ⟨_, he.1, rfl, he.2⟩⟩
    · obtain rfl := Option.some.inj hoo
      have q9 : uu 9 = .int .i64 C := hd 9 (by kernel_rfl)
      have q12 : uu 12 = .int .i64 C := hd 12 (by kernel_rfl)
      have q6 : uu 6 = .bool false := hd 6 (by kernel_rfl)
      refine .inl ⟨wanted_yes rfl (yielded_put (k := 11) (by kernel_rfl) (by kernel_rfl) 56 rfl (by decide) q6), ?_⟩
      generalize hev : Act.eval _ = ev
      have ec : ∀ c, ev (.const c) = c := fun c => by rw [← hev]; rfl
      have e14 : ev (.tmp 14) = .int .i64 C := by rw [← hev]; exact (eval_put (by kernel_rfl) 56 rfl (by decide)).trans q9
      have e17 : ev (.tmp 17) = .int .i64 C := by rw [← hev]; exact (eval_put (by kernel_rfl) 56 rfl (by decide)).trans q12
      clear hev hd q9 q12 q6
      exact .inl ⟨_, W, by go_simp, rfl, Below.refl _ _⟩
    · obtain rfl := Option.some.inj hoo
      have q6 : uu 6 = .bool false := hd 6 (by kernel_rfl)
      have q13 : uu 13 = .bool false := hd 13 (by kernel_rfl)
      refine .inl ⟨wanted_none rfl, ?_⟩
      generalize hev : Act.eval _ = ev
      have ec : ∀ c, ev (.const c) = c := fun c => by rw [← hev]; rfl
      have e11 : ev (.tmp 11) = .bool false := by rw [← hev]; exact (eval_put (by kernel_rfl) 56 rfl (by decide)).trans q6
      have e18 : ev (.tmp 18) = .bool false := by rw [← hev]; exact (eval_put (by kernel_rfl) 56 rfl (by decide)).trans q13
      clear hev hd q6 q13
      exact .inl ⟨_, W, by go_simp, rfl, Below.refl _ _⟩
    · obtain rfl := Option.some.inj hoo
      have q14 : uu 14 = .bool false := hd 14 (by kernel_rfl)
      refine .inl ⟨wanted_none rfl, ?_⟩
      generalize hev : Act.eval _ = ev
      have ec : ∀ c, ev (.const c) = c := fun c => by rw [← hev]; rfl
      have e19 : ev (.tmp 19) = .bool false := by rw [← hev]; exact (eval_put (by kernel_rfl) 56 rfl (by decide)).trans q14
      clear hev hd q14
      exact .inl ⟨_, W, by go_simp, rfl, Below.refl _ _⟩
    · obtain rfl := Option.some.inj hoo
      have q15 : uu 15 = .bool false := hd 15 (by kernel_rfl)
      refine .inl ⟨wanted_yes rfl (yielded_put (k := 20) (by kernel_rfl) (by kernel_rfl) 56 rfl (by decide) q15), ?_⟩
      generalize hev : Act.eval _ = ev
      have ec : ∀ c, ev (.const c) = c := fun c => by rw [← hev]; rfl
      have e2 : ev (.tmp 2) = .pointer (some ⟨w.heap.size, 0, none⟩) := by rw [← hev]; exact eval_old (by kernel_rfl) 56 rfl (by decide) rfl
      clear hev hd q15
      exact .inl ⟨_, W, load_blk Try.underlying25 (by kernel_rfl) (KA.next hVW) rfl e2, rfl, Below.refl _ _⟩
    · obtain rfl := Option.some.inj hoo
      have q16 : uu 16 = .agg #[.int .u32 (s.toNat : Int), .int .u32 (d.toNat : Int), .int .u16 (p.toNat : Int), .int .u16 (q.toNat : Int), .int .u8 (r.toNat : Int)] := hd 16 (by kernel_rfl)
      have q15 : uu 15 = .bool false := hd 15 (by kernel_rfl)
      refine .inl ⟨wanted_yes rfl (yielded_put (k := 20) (by kernel_rfl) (by kernel_rfl) 56 rfl (by decide) q15), ?_⟩
      generalize hev : Act.eval _ = ev
      have ec : ∀ c, ev (.const c) = c := fun c => by rw [← hev]; rfl
      have ef : ∀ f, ev (.func f) = .func (.func f) #[] #[] := fun f => by rw [← hev]; rfl
      have e21 : ev (.tmp 21) = .agg #[.int .u32 (s.toNat : Int), .int .u32 (d.toNat : Int), .int .u16 (p.toNat : Int), .int .u16 (q.toNat : Int), .int .u8 (r.toNat : Int)] := by rw [← hev]; exact (eval_put (by kernel_rfl) 56 rfl (by decide)).trans q16
      clear hev hd q16 q15
      exact .inr ⟨_, _, _, by go_simp, fback_any s d p q r W, fun e w' he => ⟨_, he.1, rfl, he.2⟩⟩
    · obtain rfl := Option.some.inj hoo
      have q15 : uu 15 = .bool false := hd 15 (by kernel_rfl)
      refine .inl ⟨wanted_yes rfl (yielded_put (k := 20) (by kernel_rfl) (by kernel_rfl) 56 rfl (by decide) q15), ?_⟩
      generalize hev : Act.eval _ = ev
      have ec : ∀ c, ev (.const c) = c := fun c => by rw [← hev]; rfl
      have e2 : ev (.tmp 2) = .pointer (some ⟨w.heap.size, 0, none⟩) := by rw [← hev]; exact eval_old (by kernel_rfl) 56 rfl (by decide) rfl
      clear hev hd q15
      exact .inl ⟨_, W, load_blk Try.underlying25 (by kernel_rfl) (KA.next hVW) rfl e2, rfl, Below.refl _ _⟩
    · obtain rfl := Option.some.inj hoo
      have q18 : uu 18 = .agg #[.int .u32 (s.toNat : Int), .int .u32 (d.toNat : Int), .int .u16 (p.toNat : Int), .int .u16 (q.toNat : Int), .int .u8 (r.toNat : Int)] := hd 18 (by kernel_rfl)
      have q15 : uu 15 = .bool false := hd 15 (by kernel_rfl)
      refine .inl ⟨wanted_yes rfl (yielded_put (k := 20) (by kernel_rfl) (by kernel_rfl) 56 rfl (by decide) q15), ?_⟩
      generalize hev : Act.eval _ = ev
      have ec : ∀ c, ev (.const c) = c := fun c => by rw [← hev]; rfl
      have ef : ∀ f, ev (.func f) = .func (.func f) #[] #[] := fun f => by rw [← hev]; rfl
      have e23 : ev (.tmp 23) = .agg #[.int .u32 (s.toNat : Int), .int .u32 (d.toNat : Int), .int .u16 (p.toNat : Int), .int .u16 (q.toNat : Int), .int .u8 (r.toNat : Int)] := by rw [← hev]; exact (eval_put (by kernel_rfl) 56 rfl (by decide)).trans q18
      clear hev hd q18 q15
      exact .inr ⟨_, _, _, by go_simp, rfback_any s d p q r W, fun e w' he => ⟨_, he.1, rfl, he.2⟩⟩
    · obtain rfl := Option.some.inj hoo
      have q17 : uu 17 = .agg #[.int .u32 (d.toNat : Int), .int .u32 (s.toNat : Int), .int .u16 (q.toNat : Int), .int .u16 (p.toNat : Int), .int .u8 (r.toNat : Int)] := hd 17 (by kernel_rfl)
      have q19 : uu 19 = .agg #[.int .u32 (d.toNat : Int), .int .u32 (s.toNat : Int), .int .u16 (q.toNat : Int), .int .u16 (p.toNat : Int), .int .u8 (r.toNat : Int)] := hd 19 (by kernel_rfl)
      have q15 : uu 15 = .bool false := hd 15 (by kernel_rfl)
      refine .inl ⟨wanted_yes rfl (yielded_put (k := 20) (by kernel_rfl) (by kernel_rfl) 56 rfl (by decide) q15), ?_⟩
      generalize hev : Act.eval _ = ev
      have ec : ∀ c, ev (.const c) = c := fun c => by rw [← hev]; rfl
      have e22 : ev (.tmp 22) = .agg #[.int .u32 (d.toNat : Int), .int .u32 (s.toNat : Int), .int .u16 (q.toNat : Int), .int .u16 (p.toNat : Int), .int .u8 (r.toNat : Int)] := by rw [← hev]; exact (eval_put (by kernel_rfl) 56 rfl (by decide)).trans q17
      have e24 : ev (.tmp 24) = .agg #[.int .u32 (d.toNat : Int), .int .u32 (s.toNat : Int), .int .u16 (q.toNat : Int), .int .u16 (p.toNat : Int), .int .u8 (r.toNat : Int)] := by rw [← hev]; exact (eval_put (by kernel_rfl) 56 rfl (by decide)).trans q19
      clear hev hd q17 q19 q15
      exact .inl ⟨_, W, by go_simp, rfl, Below.refl _ _⟩
    · obtain rfl := Option.some.inj hoo
      have q15 : uu 15 = .bool false := hd 15 (by kernel_rfl)
      have q20 : uu 20 = .bool false := hd 20 (by kernel_rfl)
      refine .inl ⟨wanted_none rfl, ?_⟩
      generalize hev : Act.eval _ = ev
      have ec : ∀ c, ev (.const c) = c := fun c => by rw [← hev]; rfl
      have e20 : ev (.tmp 20) = .bool false := by rw [← hev]; exact (eval_put (by kernel_rfl) 56 rfl (by decide)).trans q15
      have e25 : ev (.tmp 25) = .bool false := by rw [← hev]; exact (eval_put (by kernel_rfl) 56 rfl (by decide)).trans q20
      clear hev hd q15 q20
      exact .inl ⟨_, W, by go_simp, rfl, Below.refl _ _⟩
    · simp at hoo
  · intro uu W hVW hall
    have q21 : uu 21 = .bool false := hall 21 (by decide)
    replace hB := hB.trans (hVW.mono hB.size)
    replace KA := KA.next hVW
    replace KB := KB.next hVW
    clear hall hVW
    simp only [putAll, Act.put, Nat.reduceAdd, q21]
    simp only [List.setIfInBounds_toArray, List.set_cons_succ, List.set_cons_zero]
    clear q21
    generalize W = V2 at *
    go_wp2_with fail
    refine region_put (by kernel_rfl) (by kernel_rfl) (by kernel_rfl) 56 rfl (by kernel_rfl) V2 (fun i v W => match i with
        | 0 => v = .agg #[.int .u32 (s.toNat : Int), .int .u32 (d.toNat : Int), .int .u16 (p.toNat : Int), .int .u16 (q.toNat : Int), .int .u8 (r.toNat : Int)]
        | 1 => ∃ L A c, v = .slice A L.length c ∧ Hid (L = fb s d p q r) ∧ Rd bv W W.heap.size A c L
        | 2 => v = .agg #[.int .u32 (s1.toNat : Int), .int .u32 (d1.toNat : Int), .int .u16 (p1.toNat : Int), .int .u16 (q1.toNat : Int), .int .u8 (r1.toNat : Int)]
        | 3 => ∃ L A c, v = .slice A L.length c ∧ Hid (L = fb s1 d1 p1 q1 r1) ∧ Rd bv W W.heap.size A c L
        | 4 => v = .bool false
        | 5 => v = .agg #[.int .u32 (s.toNat : Int), .int .u32 (d.toNat : Int), .int .u16 (p.toNat : Int), .int .u16 (q.toNat : Int), .int .u8 (r.toNat : Int)]
        | 6 => v = .agg #[.int .u32 (s1.toNat : Int), .int .u32 (d1.toNat : Int), .int .u16 (p1.toNat : Int), .int .u16 (q1.toNat : Int), .int .u8 (r1.toNat : Int)]
        | 7 => v = .bool false
        | 8 => v = .bool true
        | 9 => v = .bool true
        | 10 => v = .agg #[.int .u32 (s.toNat : Int), .int .u32 (d.toNat : Int), .int .u16 (p.toNat : Int), .int .u16 (q.toNat : Int), .int .u8 (r.toNat : Int)]
        | 11 => v = .agg #[.int .u32 (s1.toNat : Int), .int .u32 (d1.toNat : Int), .int .u16 (p1.toNat : Int), .int .u16 (q1.toNat : Int), .int .u8 (r1.toNat : Int)]
        | 12 => v = .int .i64 C
        | 13 => v = .bool false
        | 14 => v = .agg #[.int .u32 (s.toNat : Int), .int .u32 (d.toNat : Int), .int .u16 (p.toNat : Int), .int .u16 (q.toNat : Int), .int .u8 (r.toNat : Int)]
        | 15 => v = .agg #[.int .u32 (s1.toNat : Int), .int .u32 (d1.toNat : Int), .int .u16 (p1.toNat : Int), .int .u16 (q1.toNat : Int), .int .u8 (r1.toNat : Int)]
        | 16 => v = .bool false
        | 17 => v = .bool true
        | 18 => v = .bool true
        | 19 => v = .bool true
        | 20 => v = .agg #[.int .u32 (s.toNat : Int), .int .u32 (d.toNat : Int), .int .u16 (p.toNat : Int), .int .u16 (q.toNat : Int), .int .u8 (r.toNat : Int)]
        | 21 => v = .agg #[.int .u32 (d.toNat : Int), .int .u32 (s.toNat : Int), .int .u16 (q.toNat : Int), .int .u16 (p.toNat : Int), .int .u8 (r.toNat : Int)]
        | 22 => v = .agg #[.int .u32 (s.toNat : Int), .int .u32 (d.toNat : Int), .int .u16 (p.toNat : Int), .int .u16 (q.toNat : Int), .int .u8 (r.toNat : Int)]
        | 23 => v = .agg #[.int .u32 (s.toNat : Int), .int .u32 (d.toNat : Int), .int .u16 (p.toNat : Int), .int .u16 (q.toNat : Int), .int .u8 (r.toNat : Int)]
        | 24 => v = .bool true
        | 25 => v = .bool true
        | 26 => v = .bool true
        | 27 => v = .bool true
        | 28 => v = .bool true
        | 29 => v = .bool true
        | _ => True) (Below.refl _ _) ?_ ?_ ?_
    · intro i v W W' h hb
      match i, h with
      | 0, h => exact h
      | 1, h => obtain ⟨L, A, c, h1, h2, h3⟩ := h; exact ⟨L, A, c, h1, h2, h3.next hb⟩
      | 2, h => exact h
      | 3, h => obtain ⟨L, A, c, h1, h2, h3⟩ := h; exact ⟨L, A, c, h1, h2, h3.next hb⟩
      | 4, h => exact h
      | 5, h => exact h
      | 6, h => exact h
      | 7, h => exact h
      | 8, h => exact h
      | 9, h => exact h
      | 10, h => exact h
      | 11, h => exact h
      | 12, h => exact h
      | 13, h => exact h
      | 14, h => exact h
      | 15, h => exact h
      | 16, h => exact h
      | 17, h => exact h
      | 18, h => exact h
      | 19, h => exact h
      | 20, h => exact h
      | 21, h => exact h
      | 22, h => exact h
      | 23, h => exact h
      | 24, h => exact h
      | 25, h => exact h
      | 26, h => exact h
      | 27, h => exact h
      | 28, h => exact h
      | 29, h => exact h
      | _ + 30, _ => trivial
    · intro i o uu W hoo hVW hd
      rcases i with _|_|_|_|_|_|_|_|_|_|_|_|_|_|_|_|_|_|_|_|_|_|_|_|_|_|_|_|_|_|i
      · obtain rfl := Option.some.inj hoo
        refine .inl ⟨wanted_none rfl, ?_⟩
        generalize hev : Act.eval _ = ev
        have ec : ∀ c, ev (.const c) = c := fun c => by rw [← hev]; rfl
        have e2 : ev (.tmp 2) = .pointer (some ⟨w.heap.size, 0, none⟩) := by rw [← hev]; exact eval_old (by kernel_rfl) 56 rfl (by decide) rfl
        clear hev hd
        exact .inl ⟨_, W, load_blk Try.underlying25 (by kernel_rfl) (KA.next hVW) rfl e2, rfl, Below.refl _ _⟩
      · obtain rfl := Option.some.inj hoo
        have q0 : uu 0 = .agg #[.int .u32 (s.toNat : Int), .int .u32 (d.toNat : Int), .int .u16 (p.toNat : Int), .int .u16 (q.toNat : Int), .int .u8 (r.toNat : Int)] := hd 0 (by kernel_rfl)
        refine .inl ⟨wanted_none rfl, ?_⟩
        generalize hev : Act.eval _ = ev
        have ec : ∀ c, ev (.const c) = c := fun c => by rw [← hev]; rfl
        have ef : ∀ f, ev (.func f) = .func (.func f) #[] #[] := fun f => by rw [← hev]; rfl
        have e27 : ev (.tmp 27) = .agg #[.int .u32 (s.toNat : Int), .int .u32 (d.toNat : Int), .int .u16 (p.toNat : Int), .int .u16 (q.toNat : Int), .int .u8 (r.toNat : Int)] := by rw [← hev]; exact (eval_put (by kernel_rfl) 56 rfl (by decide)).trans q0
        clear hev hd q0
        exact .inr ⟨_, _, _, by go_simp, fbytes_any s d p q r W, fun e w' he => by
          obtain ⟨L, A, c, rfl, HL, hr, hb⟩ := he
          exact ⟨_, rfl, ⟨L, A, c, rfl, HL, hr⟩, hb⟩⟩
      · obtain rfl := Option.some.inj hoo
        refine .inl ⟨wanted_none rfl, ?_⟩
        generalize hev : Act.eval _ = ev
        have ec : ∀ c, ev (.const c) = c := fun c => by rw [← hev]; rfl
        have e3 : ev (.tmp 3) = .pointer (some ⟨w.heap.size + 1, 0, none⟩) := by rw [← hev]; exact eval_old (by kernel_rfl) 56 rfl (by decide) rfl
        clear hev hd
        exact .inl ⟨_, W, load_blk Try.underlying25 (by kernel_rfl) (KB.next hVW) rfl e3, rfl, Below.refl _ _⟩
      · obtain rfl := Option.some.inj hoo
        have q2 : uu 2 = .agg #[.int .u32 (s1.toNat : Int), .int .u32 (d1.toNat : Int), .int .u16 (p1.toNat : Int), .int .u16 (q1.toNat : Int), .int .u8 (r1.toNat : Int)] := hd 2 (by kernel_rfl)
        refine .inl ⟨wanted_none rfl, ?_⟩
        generalize hev : Act.eval _ = ev
        have ec : ∀ c, ev (.const c) = c := fun c => by rw [← hev]; rfl
        have ef : ∀ f, ev (.func f) = .func (.func f) #[] #[] := fun f => by rw [← hev]; rfl
        have e29 : ev (.tmp 29) = .agg #[.int .u32 (s1.toNat : Int), .int .u32 (d1.toNat : Int), .int .u16 (p1.toNat : Int), .int .u16 (q1.toNat : Int), .int .u8 (r1.toNat : Int)] := by rw [← hev]; exact (eval_put (by kernel_rfl) 56 rfl (by decide)).trans q2
        clear hev hd q2
        exact .inr ⟨_, _, _, by go_simp, fbytes_any s1 d1 p1 q1 r1 W, fun e w' he => by
          obtain ⟨L, A, c, rfl, HL, hr, hb⟩ := he
          exact ⟨_, rfl, ⟨L, A, c, rfl, HL, hr⟩, hb⟩⟩
      · obtain rfl := Option.some.inj hoo
        obtain ⟨L1, A1, c1, q1, HL1, r1⟩ := hd 1 (by kernel_rfl)
        obtain ⟨L3, A3, c3, q3, HL3, r3⟩ := hd 3 (by kernel_rfl)
        refine .inl ⟨wanted_none rfl, ?_⟩
        generalize hev : Act.eval _ = ev
        have ec : ∀ c, ev (.const c) = c := fun c => by rw [← hev]; rfl
        have ef : ∀ f, ev (.func f) = .func (.func f) #[] #[] := fun f => by rw [← hev]; rfl
        have e28 : ev (.tmp 28) = .slice A1 L1.length c1 := by rw [← hev]; exact (eval_put (by kernel_rfl) 56 rfl (by decide)).trans q1
        have e30 : ev (.tmp 30) = .slice A3 L3.length c3 := by rw [← hev]; exact (eval_put (by kernel_rfl) 56 rfl (by decide)).trans q3
        clear hev hd q1 q3
        exact .inr ⟨_, _, _, by go_simp, rsame_no _ _ _ _ L1 L3 W _ r1 r3 (by rw [HL1.out, HL3.out]; exact HNE.out), fun e w' he => ⟨_, he.1, rfl, he.2.bel⟩⟩
      · obtain rfl := Option.some.inj hoo
        refine .inl ⟨wanted_none rfl, ?_⟩
        generalize hev : Act.eval _ = ev
        have ec : ∀ c, ev (.const c) = c := fun c => by rw [← hev]; rfl
        have e2 : ev (.tmp 2) = .pointer (some ⟨w.heap.size, 0, none⟩) := by rw [← hev]; exact eval_old (by kernel_rfl) 56 rfl (by decide) rfl
        clear hev hd
        exact .inl ⟨_, W, load_blk Try.underlying25 (by kernel_rfl) (KA.next hVW) rfl e2, rfl, Below.refl _ _⟩
      · obtain rfl := Option.some.inj hoo
        refine .inl ⟨wanted_none rfl, ?_⟩
        generalize hev : Act.eval _ = ev
        have ec : ∀ c, ev (.const c) = c := fun c => by rw [← hev]; rfl
        have e3 : ev (.tmp 3) = .pointer (some ⟨w.heap.size + 1, 0, none⟩) := by rw [← hev]; exact eval_old (by kernel_rfl) 56 rfl (by decide) rfl
        clear hev hd
        exact .inl ⟨_, W, load_blk Try.underlying25 (by kernel_rfl) (KB.next hVW) rfl e3, rfl, Below.refl _ _⟩
      · obtain rfl := Option.some.inj hoo
        have q5 : uu 5 = .agg #[.int .u32 (s.toNat : Int), .int .u32 (d.toNat : Int), .int .u16 (p.toNat : Int), .int .u16 (q.toNat : Int), .int .u8 (r.toNat : Int)] := hd 5 (by kernel_rfl)
        have q6 : uu 6 = .agg #[.int .u32 (s1.toNat : Int), .int .u32 (d1.toNat : Int), .int .u16 (p1.toNat : Int), .int .u16 (q1.toNat : Int), .int .u8 (r1.toNat : Int)] := hd 6 (by kernel_rfl)
        refine .inl ⟨wanted_none rfl, ?_⟩
        generalize hev : Act.eval _ = ev
        have ec : ∀ c, ev (.const c) = c := fun c => by rw [← hev]; rfl
        have e32 : ev (.tmp 32) = .agg #[.int .u32 (s.toNat : Int), .int .u32 (d.toNat : Int), .int .u16 (p.toNat : Int), .int .u16 (q.toNat : Int), .int .u8 (r.toNat : Int)] := by rw [← hev]; exact (eval_put (by kernel_rfl) 56 rfl (by decide)).trans q5
        have e33 : ev (.tmp 33) = .agg #[.int .u32 (s1.toNat : Int), .int .u32 (d1.toNat : Int), .int .u16 (p1.toNat : Int), .int .u16 (q1.toNat : Int), .int .u8 (r1.toNat : Int)] := by rw [← hev]; exact (eval_put (by kernel_rfl) 56 rfl (by decide)).trans q6
        clear hev hd q5 q6
        exact .inl ⟨_, W, by go_simp; exact HNS.out, rfl, Below.refl _ _⟩
      · obtain rfl := Option.some.inj hoo
        have q4 : uu 4 = .bool false := hd 4 (by kernel_rfl)
        have q7 : uu 7 = .bool false := hd 7 (by kernel_rfl)
        refine .inl ⟨wanted_none rfl, ?_⟩
        generalize hev : Act.eval _ = ev
        have ec : ∀ c, ev (.const c) = c := fun c => by rw [← hev]; rfl
        have e31 : ev (.tmp 31) = .bool false := by rw [← hev]; exact (eval_put (by kernel_rfl) 56 rfl (by decide)).trans q4
        have e34 : ev (.tmp 34) = .bool false := by rw [← hev]; exact (eval_put (by kernel_rfl) 56 rfl (by decide)).trans q7
        clear hev hd q4 q7
        exact .inl ⟨_, W, by go_simp, rfl, Below.refl _ _⟩
      · obtain rfl := Option.some.inj hoo
        have q8 : uu 8 = .bool true := hd 8 (by kernel_rfl)
        refine .inl ⟨wanted_none rfl, ?_⟩
        generalize hev : Act.eval _ = ev
        have ec : ∀ c, ev (.const c) = c := fun c => by rw [← hev]; rfl
        have e35 : ev (.tmp 35) = .bool true := by rw [← hev]; exact (eval_put (by kernel_rfl) 56 rfl (by decide)).trans q8
        clear hev hd q8
        exact .inl ⟨_, W, by go_simp, rfl, Below.refl _ _⟩
      · obtain rfl := Option.some.inj hoo
        have q9 : uu 9 = .bool true := hd 9 (by kernel_rfl)
        refine .inl ⟨wanted_yes rfl (yielded_put (k := 36) (by kernel_rfl) (by kernel_rfl) 56 rfl (by decide) q9), ?_⟩
        generalize hev : Act.eval _ = ev
        have ec : ∀ c, ev (.const c) = c := fun c => by rw [← hev]; rfl
        have e2 : ev (.tmp 2) = .pointer (some ⟨w.heap.size, 0, none⟩) := by rw [← hev]; exact eval_old (by kernel_rfl) 56 rfl (by decide) rfl
        clear hev hd q9
        exact .inl ⟨_, W, load_blk Try.underlying25 (by kernel_rfl) (KA.next hVW) rfl e2, rfl, Below.refl _ _⟩
      · obtain rfl := Option.some.inj hoo
        have q9 : uu 9 = .bool true := hd 9 (by kernel_rfl)
        refine .inl ⟨wanted_yes rfl (yielded_put (k := 36) (by kernel_rfl) (by kernel_rfl) 56 rfl (by decide) q9), ?_⟩
        generalize hev : Act.eval _ = ev
        have ec : ∀ c, ev (.const c) = c := fun c => by rw [← hev]; rfl
        have e3 : ev (.tmp 3) = .pointer (some ⟨w.heap.size + 1, 0, none⟩) := by rw [← hev]; exact eval_old (by kernel_rfl) 56 rfl (by decide) rfl
        clear hev hd q9
        exact .inl ⟨_, W, load_blk Try.underlying25 (by kernel_rfl) (KB.next hVW) rfl e3, rfl, Below.refl _ _⟩
      · obtain rfl := Option.some.inj hoo
        have q10 : uu 10 = .agg #[.int .u32 (s.toNat : Int), .int .u32 (d.toNat : Int), .int .u16 (p.toNat : Int), .int .u16 (q.toNat : Int), .int .u8 (r.toNat : Int)] := hd 10 (by kernel_rfl)
        have q11 : uu 11 = .agg #[.int .u32 (s1.toNat : Int), .int .u32 (d1.toNat : Int), .int .u16 (p1.toNat : Int), .int .u16 (q1.toNat : Int), .int .u8 (r1.toNat : Int)] := hd 11 (by kernel_rfl)
        have q9 : uu 9 = .bool true := hd 9 (by kernel_rfl)
        refine .inl ⟨wanted_yes rfl (yielded_put (k := 36) (by kernel_rfl) (by kernel_rfl) 56 rfl (by decide) q9), ?_⟩
        generalize hev : Act.eval _ = ev
        have ec : ∀ c, ev (.const c) = c := fun c => by rw [← hev]; rfl
        have ef : ∀ f, ev (.func f) = .func (.func f) #[] #[] := fun f => by rw [← hev]; rfl
        have e37 : ev (.tmp 37) = .agg #[.int .u32 (s.toNat : Int), .int .u32 (d.toNat : Int), .int .u16 (p.toNat : Int), .int .u16 (q.toNat : Int), .int .u8 (r.toNat : Int)] := by rw [← hev]; exact (eval_put (by kernel_rfl) 56 rfl (by decide)).trans q10
        have e38 : ev (.tmp 38) = .agg #[.int .u32 (s1.toNat : Int), .int .u32 (d1.toNat : Int), .int .u16 (p1.toNat : Int), .int .u16 (q1.toNat : Int), .int .u8 (r1.toNat : Int)] := by rw [← hev]; exact (eval_put (by kernel_rfl) 56 rfl (by decide)).trans q11
        clear hev hd q10 q11 q9
        exact .inr ⟨_, _, _, by go_simp, (HC1 W).out, fun e w' he => ⟨_, he.1, rfl, he.2⟩⟩
      · obtain rfl := Option.some.inj hoo
        have q12 : uu 12 = .int .i64 C := hd 12 (by kernel_rfl)
        have q9 : uu 9 = .bool true := hd 9 (by kernel_rfl)
        refine .inl ⟨wanted_yes rfl (yielded_put (k := 36) (by kernel_rfl) (by kernel_rfl) 56 rfl (by decide) q9), ?_⟩
        generalize hev : Act.eval _ = ev
        have ec : ∀ c, ev (.const c) = c := fun c => by rw [← hev]; rfl
        have e39 : ev (.tmp 39) = .int .i64 C := by rw [← hev]; exact (eval_put (by kernel_rfl) 56 rfl (by decide)).trans q12
        clear hev hd q12 q9
        have hh := HC0.out
        exact .inl ⟨_, W, by go_simp, rfl, Below.refl _ _⟩
      · obtain rfl := Option.some.inj hoo
        have q9 : uu 9 = .bool true := hd 9 (by kernel_rfl)
        refine .inl ⟨wanted_yes rfl (yielded_put (k := 36) (by kernel_rfl) (by kernel_rfl) 56 rfl (by decide) q9), ?_⟩
        generalize hev : Act.eval _ = ev
        have ec : ∀ c, ev (.const c) = c := fun c => by rw [← hev]; rfl
        have e2 : ev (.tmp 2) = .pointer (some ⟨w.heap.size, 0, none⟩) := by rw [← hev]; exact eval_old (by kernel_rfl) 56 rfl (by decide) rfl
        clear hev hd q9
        exact .inl ⟨_, W, load_blk Try.underlying25 (by kernel_rfl) (KA.next hVW) rfl e2, rfl, Below.refl _ _⟩
      · obtain rfl := Option.some.inj hoo
        have q9 : uu 9 = .bool true := hd 9 (by kernel_rfl)
        refine .inl ⟨wanted_yes rfl (yielded_put (k := 36) (by kernel_rfl) (by kernel_rfl) 56 rfl (by decide) q9), ?_⟩
        generalize hev : Act.eval _ = ev
        have ec : ∀ c, ev (.const c) = c := fun c => by rw [← hev]; rfl
        have e3 : ev (.tmp 3) = .pointer (some ⟨w.heap.size + 1, 0, none⟩) := by rw [← hev]; exact eval_old (by kernel_rfl) 56 rfl (by decide) rfl
        clear hev hd q9
        exact .inl ⟨_, W, load_blk Try.underlying25 (by kernel_rfl) (KB.next hVW) rfl e3, rfl, Below.refl _ _⟩
      · obtain rfl := Option.some.inj hoo
        have q14 : uu 14 = .agg #[.int .u32 (s.toNat : Int), .int .u32 (d.toNat : Int), .int .u16 (p.toNat : Int), .int .u16 (q.toNat : Int), .int .u8 (r.toNat : Int)] := hd 14 (by kernel_rfl)
        have q15 : uu 15 = .agg #[.int .u32 (s1.toNat : Int), .int .u32 (d1.toNat : Int), .int .u16 (p1.toNat : Int), .int .u16 (q1.toNat : Int), .int .u8 (r1.toNat : Int)] := hd 15 (by kernel_rfl)
        have q9 : uu 9 = .bool true := hd 9 (by kernel_rfl)
        refine .inl ⟨wanted_yes rfl (yielded_put (k := 36) (by kernel_rfl) (by kernel_rfl) 56 rfl (by decide) q9), ?_⟩
        generalize hev : Act.eval _ = ev
        have ec : ∀ c, ev (.const c) = c := fun c => by rw [← hev]; rfl
        have e41 : ev (.tmp 41) = .agg #[.int .u32 (s.toNat : Int), .int .u32 (d.toNat : Int), .int .u16 (p.toNat : Int), .int .u16 (q.toNat : Int), .int .u8 (r.toNat : Int)] := by rw [← hev]; exact (eval_put (by kernel_rfl) 56 rfl (by decide)).trans q14
        have e42 : ev (.tmp 42) = .agg #[.int .u32 (s1.toNat : Int), .int .u32 (d1.toNat : Int), .int .u16 (p1.toNat : Int), .int .u16 (q1.toNat : Int), .int .u8 (r1.toNat : Int)] := by rw [← hev]; exact (eval_put (by kernel_rfl) 56 rfl (by decide)).trans q15
        clear hev hd q14 q15 q9
        exact .inl ⟨_, W, by go_simp; exact HNS.out, rfl, Below.refl _ _⟩
      · obtain rfl := Option.some.inj hoo
        have q13 : uu 13 = .bool false := hd 13 (by kernel_rfl)
        have q16 : uu 16 = .bool false := hd 16 (by kernel_rfl)
        have q9 : uu 9 = .bool true := hd 9 (by kernel_rfl)
        refine .inl ⟨wanted_yes rfl (yielded_put (k := 36) (by kernel_rfl) (by kernel_rfl) 56 rfl (by decide) q9), ?_⟩
        generalize hev : Act.eval _ = ev
        have ec : ∀ c, ev (.const c) = c := fun c => by rw [← hev]; rfl
        have e40 : ev (.tmp 40) = .bool false := by rw [← hev]; exact (eval_put (by kernel_rfl) 56 rfl (by decide)).trans q13
        have e43 : ev (.tmp 43) = .bool false := by rw [← hev]; exact (eval_put (by kernel_rfl) 56 rfl (by decide)).trans q16
        clear hev hd q13 q16 q9
        exact .inl ⟨_, W, by go_simp, rfl, Below.refl _ _⟩
      · obtain rfl := Option.some.inj hoo
        have q9 : uu 9 = .bool true := hd 9 (by kernel_rfl)
        have q17 : uu 17 = .bool true := hd 17 (by kernel_rfl)
        refine .inl ⟨wanted_none rfl, ?_⟩
        generalize hev : Act.eval _ = ev
        have ec : ∀ c, ev (.const c) = c := fun c => by rw [← hev]; rfl
        have e36 : ev (.tmp 36) = .bool true := by rw [← hev]; exact (eval_put (by kernel_rfl) 56 rfl (by decide)).trans q9
        have e44 : ev (.tmp 44) = .bool true := by rw [← hev]; exact (eval_put (by kernel_rfl) 56 rfl (by decide)).trans q17
        clear hev hd q9 q17
        exact .inl ⟨_, W, by go_simp, rfl, Below.refl _ _⟩
      · obtain rfl := Option.some.inj hoo
        have q18 : uu 18 = .bool true := hd 18 (by kernel_rfl)
        refine .inl ⟨wanted_none rfl, ?_⟩
        generalize hev : Act.eval _ = ev
        have ec : ∀ c, ev (.const c) = c := fun c => by rw [← hev]; rfl
        have e45 : ev (.tmp 45) = .bool true := by rw [← hev]; exact (eval_put (by kernel_rfl) 56 rfl (by decide)).trans q18
        clear hev hd q18
        exact .inl ⟨_, W, by go_simp, rfl, Below.refl _ _⟩
      · obtain rfl := Option.some.inj hoo
        have q19 : uu 19 = .bool true := hd 19 (by kernel_rfl)
        refine .inl ⟨wanted_yes rfl (yielded_put (k := 46) (by kernel_rfl) (by kernel_rfl) 56 rfl (by decide) q19), ?_⟩
        generalize hev : Act.eval _ = ev
        have ec : ∀ c, ev (.const c) = c := fun c => by rw [← hev]; rfl
        have e2 : ev (.tmp 2) = .pointer (some ⟨w.heap.size, 0, none⟩) := by rw [← hev]; exact eval_old (by kernel_rfl) 56 rfl (by decide) rfl
        clear hev hd q19
        exact .inl ⟨_, W, load_blk Try.underlying25 (by kernel_rfl) (KA.next hVW) rfl e2, rfl, Below.refl _ _⟩
      · obtain rfl := Option.some.inj hoo
        have q20 : uu 20 = .agg #[.int .u32 (s.toNat : Int), .int .u32 (d.toNat : Int), .int .u16 (p.toNat : Int), .int .u16 (q.toNat : Int), .int .u8 (r.toNat : Int)] := hd 20 (by kernel_rfl)
        have q19 : uu 19 = .bool true := hd 19 (by kernel_rfl)
        refine .inl ⟨wanted_yes rfl (yielded_put (k := 46) (by kernel_rfl) (by kernel_rfl) 56 rfl (by decide) q19), ?_⟩
        generalize hev : Act.eval _ = ev
        have ec : ∀ c, ev (.const c) = c := fun c => by rw [← hev]; rfl
        have ef : ∀ f, ev (.func f) = .func (.func f) #[] #[] := fun f => by rw [← hev]; rfl
        have e47 : ev (.tmp 47) = .agg #[.int .u32 (s.toNat : Int), .int .u32 (d.toNat : Int), .int .u16 (p.toNat : Int), .int .u16 (q.toNat : Int), .int .u8 (r.toNat : Int)] := by rw [← hev]; exact (eval_put (by kernel_rfl) 56 rfl (by decide)).trans q20
        clear hev hd q20 q19
        exact .inr ⟨_, _, _, by go_simp, fback_any s d p q r W, fun e w' he => ⟨_, he.1, rfl, he.2⟩⟩
      · obtain rfl := Option.some.inj hoo
        have q21 : uu 21 = .agg #[.int .u32 (d.toNat : Int), .int .u32 (s.toNat : Int), .int .u16 (q.toNat : Int), .int .u16 (p.toNat : Int), .int .u8 (r.toNat : Int)] := hd 21 (by kernel_rfl)
        have q19 : uu 19 = .bool true := hd 19 (by kernel_rfl)
        refine .inl ⟨wanted_yes rfl (yielded_put (k := 46) (by kernel_rfl) (by kernel_rfl) 56 rfl (by decide) q19), ?_⟩
        generalize hev : Act.eval _ = ev
        have ec : ∀ c, ev (.const c) = c := fun c => by rw [← hev]; rfl
        have ef : ∀ f, ev (.func f) = .func (.func f) #[] #[] := fun f => by rw [← hev]; rfl
        have e48 : ev (.tmp 48) = .agg #[.int .u32 (d.toNat : Int), .int .u32 (s.toNat : Int), .int .u16 (q.toNat : Int), .int .u16 (p.toNat : Int), .int .u8 (r.toNat : Int)] := by rw [← hev]; exact (eval_put (by kernel_rfl) 56 rfl (by decide)).trans q21
        clear hev hd q21 q19
        exact .inr ⟨_, _, _, by go_simp, fback_any d s q p r W, fun e w' he => ⟨_, he.1, rfl, he.2⟩⟩
      · obtain rfl := Option.some.inj hoo
        have q19 : uu 19 = .bool true := hd 19 (by kernel_rfl)
        refine .inl ⟨wanted_yes rfl (yielded_put (k := 46) (by kernel_rfl) (by kernel_rfl) 56 rfl (by decide) q19), ?_⟩
        generalize hev : Act.eval _ = ev
        have ec : ∀ c, ev (.const c) = c := fun c => by rw [← hev]; rfl
        have e2 : ev (.tmp 2) = .pointer (some ⟨w.heap.size, 0, none⟩) := by rw [← hev]; exact eval_old (by kernel_rfl) 56 rfl (by decide) rfl
        clear hev hd q19
        exact .inl ⟨_, W, load_blk Try.underlying25 (by kernel_rfl) (KA.next hVW) rfl e2, rfl, Below.refl _ _⟩
      · obtain rfl := Option.some.inj hoo
        have q22 : uu 22 = .agg #[.int .u32 (s.toNat : Int), .int .u32 (d.toNat : Int), .int .u16 (p.toNat : Int), .int .u16 (q.toNat : Int), .int .u8 (r.toNat : Int)] := hd 22 (by kernel_rfl)
        have q23 : uu 23 = .agg #[.int .u32 (s.toNat : Int), .int .u32 (d.toNat : Int), .int .u16 (p.toNat : Int), .int .u16 (q.toNat : Int), .int .u8 (r.toNat : Int)] := hd 23 (by kernel_rfl)
        have q19 : uu 19 = .bool true := hd 19 (by kernel_rfl)
        refine .inl ⟨wanted_yes rfl (yielded_put (k := 46) (by kernel_rfl) (by kernel_rfl) 56 rfl (by decide) q19), ?_⟩
        generalize hev : Act.eval _ = ev
        have ec : ∀ c, ev (.const c) = c := fun c => by rw [← hev]; rfl
        have e49 : ev (.tmp 49) = .agg #[.int .u32 (s.toNat : Int), .int .u32 (d.toNat : Int), .int .u16 (p.toNat : Int), .int .u16 (q.toNat : Int), .int .u8 (r.toNat : Int)] := by rw [← hev]; exact (eval_put (by kernel_rfl) 56 rfl (by decide)).trans q22
        have e50 : ev (.tmp 50) = .agg #[.int .u32 (s.toNat : Int), .int .u32 (d.toNat : Int), .int .u16 (p.toNat : Int), .int .u16 (q.toNat : Int), .int .u8 (r.toNat : Int)] := by rw [← hev]; exact (eval_put (by kernel_rfl) 56 rfl (by decide)).trans q23
        clear hev hd q22 q23 q19
        exact .inl ⟨_, W, by go_simp, rfl, Below.refl _ _⟩
      · obtain rfl := Option.some.inj hoo
        have q19 : uu 19 = .bool true := hd 19 (by kernel_rfl)
        have q24 : uu 24 = .bool true := hd 24 (by kernel_rfl)
        refine .inl ⟨wanted_none rfl, ?_⟩
        generalize hev : Act.eval _ = ev
        have ec : ∀ c, ev (.const c) = c := fun c => by rw [← hev]; rfl
        have e46 : ev (.tmp 46) = .bool true := by rw [← hev]; exact (eval_put (by kernel_rfl) 56 rfl (by decide)).trans q19
        have e51 : ev (.tmp 51) = .bool true := by rw [← hev]; exact (eval_put (by kernel_rfl) 56 rfl (by decide)).trans q24
        clear hev hd q19 q24
        exact .inl ⟨_, W, by go_simp, rfl, Below.refl _ _⟩
      · obtain rfl := Option.some.inj hoo
        have q25 : uu 25 = .bool true := hd 25 (by kernel_rfl)
        refine .inl ⟨wanted_none rfl, ?_⟩
        generalize hev : Act.eval _ = ev
        have ec : ∀ c, ev (.const c) = c := fun c => by rw [← hev]; rfl
        have e52 : ev (.tmp 52) = .bool true := by rw [← hev]; exact (eval_put (by kernel_rfl) 56 rfl (by decide)).trans q25
        clear hev hd q25
        exact .inl ⟨_, W, by go_simp, rfl, Below.refl _ _⟩
      · obtain rfl := Option.some.inj hoo
        have q26 : uu 26 = .bool true := hd 26 (by kernel_rfl)
        refine .inl ⟨wanted_yes rfl (yielded_put (k := 53) (by kernel_rfl) (by kernel_rfl) 56 rfl (by decide) q26), ?_⟩
        generalize hev : Act.eval _ = ev
        have ec : ∀ c, ev (.const c) = c := fun c => by rw [← hev]; rfl
        have ef : ∀ f, ev (.func f) = .func (.func f) #[] #[] := fun f => by rw [← hev]; rfl
        clear hev hd q26
        exact .inr ⟨_, _, _, by go_simp, flives_any W, fun e w' he => ⟨_, he.1, rfl, he.2⟩⟩
      · obtain rfl := Option.some.inj hoo
        have q26 : uu 26 = .bool true := hd 26 (by kernel_rfl)
        have q27 : uu 27 = .bool true := hd 27 (by kernel_rfl)
        refine .inl ⟨wanted_none rfl, ?_⟩
        generalize hev : Act.eval _ = ev
        have ec : ∀ c, ev (.const c) = c := fun c => by rw [← hev]; rfl
        have e53 : ev (.tmp 53) = .bool true := by rw [← hev]; exact (eval_put (by kernel_rfl) 56 rfl (by decide)).trans q26
        have e54 : ev (.tmp 54) = .bool true := by rw [← hev]; exact (eval_put (by kernel_rfl) 56 rfl (by decide)).trans q27
        clear hev hd q26 q27
        exact .inl ⟨_, W, by go_simp, rfl, Below.refl _ _⟩
      · obtain rfl := Option.some.inj hoo
        have q28 : uu 28 = .bool true := hd 28 (by kernel_rfl)
        refine .inl ⟨wanted_none rfl, ?_⟩
        generalize hev : Act.eval _ = ev
        have ec : ∀ c, ev (.const c) = c := fun c => by rw [← hev]; rfl
        have e55 : ev (.tmp 55) = .bool true := by rw [← hev]; exact (eval_put (by kernel_rfl) 56 rfl (by decide)).trans q28
        clear hev hd q28
        exact .inl ⟨_, W, by go_simp, rfl, Below.refl _ _⟩
      · simp at hoo
    · intro uu W hVW hall
      have q29 : uu 29 = .bool true := hall 29 (by decide)
      replace hB := hB.trans (hVW.mono hB.size)
      clear hall hVW
      simp only [putAll, Act.put, Nat.reduceAdd, q29]
      simp only [List.setIfInBounds_toArray, List.set_cons_succ, List.set_cons_zero]
      go_wp2_with fail
      go_ret
      exact ⟨rfl, hB⟩
theorem FlowBytes_walk (x0 x1 x2 x3 x4 y0 y1 y2 y3 y4 : Int) (w : World) (u0 : (Lit.int .u32 x0).wf = true) (u1 : (Lit.int .u32 x1).wf = true) (u2 : (Lit.int .u16 x2).wf = true) (u3 : (Lit.int .u16 x3).wf = true) (u4 : (Lit.int .u8 x4).wf = true) (v0 : (Lit.int .u32 y0).wf = true) (v1 : (Lit.int .u32 y1).wf = true) (v2 : (Lit.int .u16 y2).wf = true) (v3 : (Lit.int .u16 y3).wf = true) (v4 : (Lit.int .u8 y4).wf = true) :
    Calls Try.prog 3 #[.agg #[.int .u32 x0, .int .u32 x1, .int .u16 x2, .int .u16 x3, .int .u8 x4], .agg #[.int .u32 y0, .int .u32 y1, .int .u16 y2, .int .u16 y3, .int .u8 y4]] w fun e w' => e = .returned (.bool true) ∧ Below w.heap.size w w' := by
  obtain ⟨s, rfl⟩ := u32_of u0
  obtain ⟨d, rfl⟩ := u32_of u1
  obtain ⟨p, rfl⟩ := u16_of u2
  obtain ⟨q, rfl⟩ := u16_of u3
  obtain ⟨r, rfl⟩ := u8_of u4
  obtain ⟨s1, rfl⟩ := u32_of v0
  obtain ⟨d1, rfl⟩ := u32_of v1
  obtain ⟨p1, rfl⟩ := u16_of v2
  obtain ⟨q1, rfl⟩ := u16_of v3
  obtain ⟨r1, rfl⟩ := u8_of v4
  by_cases h : s = s1 ∧ d = d1 ∧ p = p1 ∧ q = q1 ∧ r = r1
  · obtain ⟨rfl, rfl, rfl, rfl, rfl⟩ := h
    exact fbytes_eq s d p q r w
  · exact fbytes_ne s d p q r s1 d1 p1 q1 r1 h w
end Go.Proofs.Ytggcomociojfoaa
