/- Contract of flow.Bytes. -/
import Derived.Test.YteodjajjlgekcaaDoorOct6
import Derived.Test.YteodjajjlgekcaaDoorReg
namespace Go.Proofs.YteodjajjlgekcaaDoor
open Go.RowKit

theorem Parts.next {w w' : World} {B g : Nat} {ls : List (List UInt8)} (h : Parts w B g ls) (hg : g < w.heap.size) (hB : B ≤ w.heap.size) (hb : Below w.heap.size w w') : Parts w' B g ls := by
  obtain ⟨vs, h1, h2⟩ := h
  exact ⟨vs, h1.keep (hb.mono hB), fun i v hv => (hb.cell hg).trans (h2 i v hv)⟩

set_option maxHeartbeats 2000000 in
theorem fbytes_any (s d : UInt32) (sp dp : UInt16) (pr : UInt8) (w : World) : Calls Tryd.prog 40 #[.agg #[.int .u32 (s.toNat : Int), .int .u32 (d.toNat : Int), .int .u16 (sp.toNat : Int), .int .u16 (dp.toNat : Int), .int .u8 (pr.toNat : Int)]] w fun e w' => ∃ L A c, e = .returned (.slice A L.length c) ∧ Hid (L = puts32 [s, d] ++ (puts16 [sp, dp] ++ [pr])) ∧ Rd bv w' w'.heap.size A c L ∧ Below w.heap.size w w' := by
  have hBk := Blk.new w #[.int .u32 (s.toNat : Int), .int .u32 (d.toNat : Int), .int .u16 (sp.toNat : Int), .int .u16 (dp.toNat : Int), .int .u8 (pr.toNat : Int)] 28
  have hBV := bnextA (Below.refl w.heap.size w) (.cells #[.int .u32 (s.toNat : Int), .int .u32 (d.toNat : Int), .int .u16 (sp.toNat : Int), .int .u16 (dp.toNat : Int), .int .u8 (pr.toNat : Int)] 28)
  go_enter Tryd.func40, Tryd.ntmps40
  go_wp2_with fail
  generalize hV : w.alloc (.cells #[.int .u32 (s.toNat : Int), .int .u32 (d.toNat : Int), .int .u16 (sp.toNat : Int), .int .u16 (dp.toNat : Int), .int .u8 (pr.toNat : Int)] 28) = V at hBk hBV ⊢
  clear hV
  have hC : ∀ W, Below V.heap.size V W → W.cell? ⟨w.heap.size, 0, none⟩ = some (.int .u32 (s.toNat : Int)) ∧ W.cell? ⟨w.heap.size, 1, none⟩ = some (.int .u32 (d.toNat : Int)) ∧ W.cell? ⟨w.heap.size, 2, none⟩ = some (.int .u16 (sp.toNat : Int)) ∧ W.cell? ⟨w.heap.size, 3, none⟩ = some (.int .u16 (dp.toNat : Int)) ∧ W.cell? ⟨w.heap.size, 4, none⟩ = some (.int .u8 (pr.toNat : Int)) := by
    intro W h
    have h2 := hBk.next h
    exact ⟨h2.cell 0, h2.cell 1, h2.cell 2, h2.cell 3, h2.cell 4⟩
  refine region_put (by kernel_rfl) (by kernel_rfl) (by kernel_rfl) 20 rfl (by kernel_rfl) V (fun i v W => match i with
      | 0 => v = .pointer (some ⟨w.heap.size, 0, none⟩)
      | 1 => v = .int .u32 (s.toNat : Int)
      | 2 => v = .pointer (some ⟨w.heap.size, 1, none⟩)
      | 3 => v = .int .u32 (d.toNat : Int)
      | 4 => ∃ A, v = .slice A 2 2 ∧ Rd wv W W.heap.size A 2 [s, d]
      | 5 => ∃ L A c, v = .slice A L.length c ∧ Hid (L = puts32 [s, d]) ∧ Rd bv W W.heap.size A c L
      | 6 => v = .pointer (some ⟨w.heap.size, 2, none⟩)
      | 7 => v = .int .u16 (sp.toNat : Int)
      | 8 => v = .pointer (some ⟨w.heap.size, 3, none⟩)
      | 9 => v = .int .u16 (dp.toNat : Int)
      | 10 => ∃ A, v = .slice A 2 2 ∧ Rd hv W W.heap.size A 2 [sp, dp]
      | 11 => ∃ L A c, v = .slice A L.length c ∧ Hid (L = puts16 [sp, dp]) ∧ Rd bv W W.heap.size A c L
      | 12 => v = .pointer (some ⟨w.heap.size, 4, none⟩)
      | 13 => v = .int .u8 (pr.toNat : Int)
      | 14 => ∃ A, v = .slice A 1 1 ∧ Rd bv W W.heap.size A 1 [pr]
      | 15 => ∃ g L1 L2, v = .slice (some ⟨g, 0, none⟩) 3 3 ∧ Hid (L1 = puts32 [s, d]) ∧ Hid (L2 = puts16 [sp, dp]) ∧ g < W.heap.size ∧ ∃ B, B ≤ W.heap.size ∧ Parts W B g [L1, L2, [pr]]
      | 16 => ∃ L A c, v = .slice A L.length c ∧ Hid (L = puts32 [s, d] ++ (puts16 [sp, dp] ++ [pr])) ∧ Rd bv W W.heap.size A c L
      | 17 => ∃ L A c, v = .slice A L.length c ∧ Hid (L = puts32 [s, d] ++ (puts16 [sp, dp] ++ [pr])) ∧ Rd bv W W.heap.size A c L
      | _ => True) (Below.refl _ _) ?_ ?_ ?_
  · intro i v W W' h hb
    match i, h with
    | 0, h => exact h
    | 1, h => exact h
    | 2, h => exact h
    | 3, h => exact h
    | 4, h => obtain ⟨A, h1, h2⟩ := h; exact ⟨A, h1, h2.next hb⟩
    | 5, h => obtain ⟨L, A, c, h1, h2, h3⟩ := h; exact ⟨L, A, c, h1, h2, h3.next hb⟩
    | 6, h => exact h
    | 7, h => exact h
    | 8, h => exact h
    | 9, h => exact h
    | 10, h => obtain ⟨A, h1, h2⟩ := h; exact ⟨A, h1, h2.next hb⟩
    | 11, h => obtain ⟨L, A, c, h1, h2, h3⟩ := h; exact ⟨L, A, c, h1, h2, h3.next hb⟩
    | 12, h => exact h
    | 13, h => exact h
    | 14, h => obtain ⟨A, h1, h2⟩ := h; exact ⟨A, h1, h2.next hb⟩
    | 15, h => obtain ⟨g, L1, L2, h1, h2, h3, h4, B, h5, h6⟩ := h; exact ⟨g, L1, L2, h1, h2, h3, Nat.lt_of_lt_of_le h4 hb.size, B, Nat.le_trans h5 hb.size, h6.next h4 h5 hb⟩
    | 16, h => obtain ⟨L, A, c, h1, h2, h3⟩ := h; exact ⟨L, A, c, h1, h2, h3.next hb⟩
    | 17, h => obtain ⟨L, A, c, h1, h2, h3⟩ := h; exact ⟨L, A, c, h1, h2, h3.next hb⟩
    | _ + 18, _ => trivial
  · intro i o uu W ho hVW hd
    rcases i with _|_|_|_|_|_|_|_|_|_|_|_|_|_|_|_|_|_|i
    · obtain rfl := Option.some.inj ho
      refine .inl ⟨wanted_none rfl, ?_⟩
      generalize hev : Act.eval _ = ev
      have ec : ∀ c, ev (.const c) = c := fun c => by rw [← hev]; rfl
      have ef : ∀ f, ev (.func f) = .func (.func f) #[] #[] := fun f => by rw [← hev]; rfl
      have e1 : ev (.tmp 1) = .pointer (some ⟨w.heap.size, 0, none⟩) := by rw [← hev]; exact eval_old (by kernel_rfl) 20 rfl (by decide) rfl
      exact .inl ⟨_, W, by go_simp, rfl, Below.refl _ _⟩
    · obtain rfl := Option.some.inj ho
      refine .inl ⟨wanted_none rfl, ?_⟩
      have q0 : uu 0 = .pointer (some ⟨w.heap.size, 0, none⟩) := hd 0 (by kernel_rfl)
      generalize hev : Act.eval _ = ev
      have ec : ∀ c, ev (.const c) = c := fun c => by rw [← hev]; rfl
      have ef : ∀ f, ev (.func f) = .func (.func f) #[] #[] := fun f => by rw [← hev]; rfl
      have e3 : ev (.tmp 3) = .pointer (some ⟨w.heap.size, 0, none⟩) := by rw [← hev]; exact (eval_put (by kernel_rfl) 20 rfl (by decide)).trans q0
      obtain ⟨cc0, cc1, cc2, cc3, cc4⟩ := hC W hVW
      exact .inl ⟨_, W, by go_simp, rfl, Below.refl _ _⟩
    · obtain rfl := Option.some.inj ho
      refine .inl ⟨wanted_none rfl, ?_⟩
      generalize hev : Act.eval _ = ev
      have ec : ∀ c, ev (.const c) = c := fun c => by rw [← hev]; rfl
      have ef : ∀ f, ev (.func f) = .func (.func f) #[] #[] := fun f => by rw [← hev]; rfl
      have e1 : ev (.tmp 1) = .pointer (some ⟨w.heap.size, 0, none⟩) := by rw [← hev]; exact eval_old (by kernel_rfl) 20 rfl (by decide) rfl
      exact .inl ⟨_, W, by go_simp, rfl, Below.refl _ _⟩
    · obtain rfl := Option.some.inj ho
      refine .inl ⟨wanted_none rfl, ?_⟩
      have q2 : uu 2 = .pointer (some ⟨w.heap.size, 1, none⟩) := hd 2 (by kernel_rfl)
      generalize hev : Act.eval _ = ev
      have ec : ∀ c, ev (.const c) = c := fun c => by rw [← hev]; rfl
      have ef : ∀ f, ev (.func f) = .func (.func f) #[] #[] := fun f => by rw [← hev]; rfl
      have e5 : ev (.tmp 5) = .pointer (some ⟨w.heap.size, 1, none⟩) := by rw [← hev]; exact (eval_put (by kernel_rfl) 20 rfl (by decide)).trans q2
      obtain ⟨cc0, cc1, cc2, cc3, cc4⟩ := hC W hVW
      exact .inl ⟨_, W, by go_simp, rfl, Below.refl _ _⟩
    · obtain rfl := Option.some.inj ho
      refine .inl ⟨wanted_none rfl, ?_⟩
      have q1 : uu 1 = .int .u32 (s.toNat : Int) := hd 1 (by kernel_rfl)
      have q3 : uu 3 = .int .u32 (d.toNat : Int) := hd 3 (by kernel_rfl)
      generalize hev : Act.eval _ = ev
      have ec : ∀ c, ev (.const c) = c := fun c => by rw [← hev]; rfl
      have ef : ∀ f, ev (.func f) = .func (.func f) #[] #[] := fun f => by rw [← hev]; rfl
      have e4 : ev (.tmp 4) = .int .u32 (s.toNat : Int) := by rw [← hev]; exact (eval_put (by kernel_rfl) 20 rfl (by decide)).trans q1
      have e6 : ev (.tmp 6) = .int .u32 (d.toNat : Int) := by rw [← hev]; exact (eval_put (by kernel_rfl) 20 rfl (by decide)).trans q3
      exact .inl ⟨_, W.alloc (.cells #[.int .u32 (s.toNat : Int), .int .u32 (d.toNat : Int)] 25), by go_simp, ⟨_, rfl, lit32_at W _ [s, d] rfl #[.int .u32 (s.toNat : Int), .int .u32 (d.toNat : Int)] rfl _ (by simp)⟩, bnextA (Below.refl _ _) _⟩
    · obtain rfl := Option.some.inj ho
      refine .inl ⟨wanted_none rfl, ?_⟩
      obtain ⟨A4, q4, r4⟩ := hd 4 (by kernel_rfl)
      generalize hev : Act.eval _ = ev
      have ec : ∀ c, ev (.const c) = c := fun c => by rw [← hev]; rfl
      have ef : ∀ f, ev (.func f) = .func (.func f) #[] #[] := fun f => by rw [← hev]; rfl
      have e7 : ev (.tmp 7) = .slice A4 2 2 := by rw [← hev]; exact (eval_put (by kernel_rfl) 20 rfl (by decide)).trans q4
      exact .inr ⟨_, _, _, by go_simp, put32_nil A4 2 [s, d] W r4 (by simp), fun e w' he => by
        obtain ⟨L, A, c, rfl, HL, hr, hb⟩ := he
        exact ⟨_, rfl, ⟨L, A, c, rfl, HL, hr⟩, hb⟩⟩
    · obtain rfl := Option.some.inj ho
      refine .inl ⟨wanted_none rfl, ?_⟩
      generalize hev : Act.eval _ = ev
      have ec : ∀ c, ev (.const c) = c := fun c => by rw [← hev]; rfl
      have ef : ∀ f, ev (.func f) = .func (.func f) #[] #[] := fun f => by rw [← hev]; rfl
      have e1 : ev (.tmp 1) = .pointer (some ⟨w.heap.size, 0, none⟩) := by rw [← hev]; exact eval_old (by kernel_rfl) 20 rfl (by decide) rfl
      exact .inl ⟨_, W, by go_simp, rfl, Below.refl _ _⟩
    · obtain rfl := Option.some.inj ho
      refine .inl ⟨wanted_none rfl, ?_⟩
      have q6 : uu 6 = .pointer (some ⟨w.heap.size, 2, none⟩) := hd 6 (by kernel_rfl)
      generalize hev : Act.eval _ = ev
      have ec : ∀ c, ev (.const c) = c := fun c => by rw [← hev]; rfl
      have ef : ∀ f, ev (.func f) = .func (.func f) #[] #[] := fun f => by rw [← hev]; rfl
      have e9 : ev (.tmp 9) = .pointer (some ⟨w.heap.size, 2, none⟩) := by rw [← hev]; exact (eval_put (by kernel_rfl) 20 rfl (by decide)).trans q6
      obtain ⟨cc0, cc1, cc2, cc3, cc4⟩ := hC W hVW
      exact .inl ⟨_, W, by go_simp, rfl, Below.refl _ _⟩
    · obtain rfl := Option.some.inj ho
      refine .inl ⟨wanted_none rfl, ?_⟩
      generalize hev : Act.eval _ = ev
      have ec : ∀ c, ev (.const c) = c := fun c => by rw [← hev]; rfl
      have ef : ∀ f, ev (.func f) = .func (.func f) #[] #[] := fun f => by rw [← hev]; rfl
      have e1 : ev (.tmp 1) = .pointer (some ⟨w.heap.size, 0, none⟩) := by rw [← hev]; exact eval_old (by kernel_rfl) 20 rfl (by decide) rfl
      exact .inl ⟨_, W, by go_simp, rfl, Below.refl _ _⟩
    · obtain rfl := Option.some.inj ho
      refine .inl ⟨wanted_none rfl, ?_⟩
      have q8 : uu 8 = .pointer (some ⟨w.heap.size, 3, none⟩) := hd 8 (by kernel_rfl)
      generalize hev : Act.eval _ = ev
      have ec : ∀ c, ev (.const c) = c := fun c => by rw [← hev]; rfl
      have ef : ∀ f, ev (.func f) = .func (.func f) #[] #[] := fun f => by rw [← hev]; rfl
      have e11 : ev (.tmp 11) = .pointer (some ⟨w.heap.size, 3, none⟩) := by rw [← hev]; exact (eval_put (by kernel_rfl) 20 rfl (by decide)).trans q8
      obtain ⟨cc0, cc1, cc2, cc3, cc4⟩ := hC W hVW
      exact .inl ⟨_, W, by go_simp, rfl, Below.refl _ _⟩
    · obtain rfl := Option.some.inj ho
      refine .inl ⟨wanted_none rfl, ?_⟩
      have q7 : uu 7 = .int .u16 (sp.toNat : Int) := hd 7 (by kernel_rfl)
      have q9 : uu 9 = .int .u16 (dp.toNat : Int) := hd 9 (by kernel_rfl)
      generalize hev : Act.eval _ = ev
      have ec : ∀ c, ev (.const c) = c := fun c => by rw [← hev]; rfl
      have ef : ∀ f, ev (.func f) = .func (.func f) #[] #[] := fun f => by rw [← hev]; rfl
      have e10 : ev (.tmp 10) = .int .u16 (sp.toNat : Int) := by rw [← hev]; exact (eval_put (by kernel_rfl) 20 rfl (by decide)).trans q7
      have e12 : ev (.tmp 12) = .int .u16 (dp.toNat : Int) := by rw [← hev]; exact (eval_put (by kernel_rfl) 20 rfl (by decide)).trans q9
      exact .inl ⟨_, W.alloc (.cells #[.int .u16 (sp.toNat : Int), .int .u16 (dp.toNat : Int)] 26), by go_simp, ⟨_, rfl, lit16_at W _ [sp, dp] rfl #[.int .u16 (sp.toNat : Int), .int .u16 (dp.toNat : Int)] rfl _ (by simp)⟩, bnextA (Below.refl _ _) _⟩
    · obtain rfl := Option.some.inj ho
      refine .inl ⟨wanted_none rfl, ?_⟩
      obtain ⟨A10, q10, r10⟩ := hd 10 (by kernel_rfl)
      generalize hev : Act.eval _ = ev
      have ec : ∀ c, ev (.const c) = c := fun c => by rw [← hev]; rfl
      have ef : ∀ f, ev (.func f) = .func (.func f) #[] #[] := fun f => by rw [← hev]; rfl
      have e13 : ev (.tmp 13) = .slice A10 2 2 := by rw [← hev]; exact (eval_put (by kernel_rfl) 20 rfl (by decide)).trans q10
      exact .inr ⟨_, _, _, by go_simp, put16_nil A10 2 [sp, dp] W r10 (by simp), fun e w' he => by
        obtain ⟨L, A, c, rfl, HL, hr, hb⟩ := he
        exact ⟨_, rfl, ⟨L, A, c, rfl, HL, hr⟩, hb⟩⟩
    · obtain rfl := Option.some.inj ho
      refine .inl ⟨wanted_none rfl, ?_⟩
      generalize hev : Act.eval _ = ev
      have ec : ∀ c, ev (.const c) = c := fun c => by rw [← hev]; rfl
      have ef : ∀ f, ev (.func f) = .func (.func f) #[] #[] := fun f => by rw [← hev]; rfl
      have e1 : ev (.tmp 1) = .pointer (some ⟨w.heap.size, 0, none⟩) := by rw [← hev]; exact eval_old (by kernel_rfl) 20 rfl (by decide) rfl
      exact .inl ⟨_, W, by go_simp, rfl, Below.refl _ _⟩
    · obtain rfl := Option.some.inj ho
      refine .inl ⟨wanted_none rfl, ?_⟩
      have q12 : uu 12 = .pointer (some ⟨w.heap.size, 4, none⟩) := hd 12 (by kernel_rfl)
      generalize hev : Act.eval _ = ev
      have ec : ∀ c, ev (.const c) = c := fun c => by rw [← hev]; rfl
      have ef : ∀ f, ev (.func f) = .func (.func f) #[] #[] := fun f => by rw [← hev]; rfl
      have e15 : ev (.tmp 15) = .pointer (some ⟨w.heap.size, 4, none⟩) := by rw [← hev]; exact (eval_put (by kernel_rfl) 20 rfl (by decide)).trans q12
      obtain ⟨cc0, cc1, cc2, cc3, cc4⟩ := hC W hVW
      exact .inl ⟨_, W, by go_simp, rfl, Below.refl _ _⟩
    · obtain rfl := Option.some.inj ho
      refine .inl ⟨wanted_none rfl, ?_⟩
      have q13 : uu 13 = .int .u8 (pr.toNat : Int) := hd 13 (by kernel_rfl)
      generalize hev : Act.eval _ = ev
      have ec : ∀ c, ev (.const c) = c := fun c => by rw [← hev]; rfl
      have ef : ∀ f, ev (.func f) = .func (.func f) #[] #[] := fun f => by rw [← hev]; rfl
      have e16 : ev (.tmp 16) = .int .u8 (pr.toNat : Int) := by rw [← hev]; exact (eval_put (by kernel_rfl) 20 rfl (by decide)).trans q13
      exact .inl ⟨_, W.alloc (.cells #[.int .u8 (pr.toNat : Int)] 5), by go_simp, ⟨_, rfl, lit_at W _ [pr] rfl #[.int .u8 (pr.toNat : Int)] rfl _ (by simp)⟩, bnextA (Below.refl _ _) _⟩
    · obtain rfl := Option.some.inj ho
      refine .inl ⟨wanted_none rfl, ?_⟩
      obtain ⟨L1, A5, c5, q5, HL1, r5⟩ := hd 5 (by kernel_rfl)
      obtain ⟨L2, A11, c11, q11, HL2, r11⟩ := hd 11 (by kernel_rfl)
      obtain ⟨A14, q14, r14⟩ := hd 14 (by kernel_rfl)
      generalize hev : Act.eval _ = ev
      have ec : ∀ c, ev (.const c) = c := fun c => by rw [← hev]; rfl
      have ef : ∀ f, ev (.func f) = .func (.func f) #[] #[] := fun f => by rw [← hev]; rfl
      have e8 : ev (.tmp 8) = .slice A5 L1.length c5 := by rw [← hev]; exact (eval_put (by kernel_rfl) 20 rfl (by decide)).trans q5
      have e14 : ev (.tmp 14) = .slice A11 L2.length c11 := by rw [← hev]; exact (eval_put (by kernel_rfl) 20 rfl (by decide)).trans q11
      have e17 : ev (.tmp 17) = .slice A14 1 1 := by rw [← hev]; exact (eval_put (by kernel_rfl) 20 rfl (by decide)).trans q14
      exact .inl ⟨_, W.alloc (.cells #[.slice A5 L1.length c5, .slice A11 L2.length c11, .slice A14 1 1] 42), by go_simp, ⟨W.heap.size, L1, L2, rfl, HL1, HL2, by simp, W.heap.size, by simp, parts_at _ rfl (.cons r5 (.cons r11 (.cons r14 .nil))) _ rfl _⟩, bnextA (Below.refl _ _) _⟩
    · obtain rfl := Option.some.inj ho
      refine .inl ⟨wanted_none rfl, ?_⟩
      obtain ⟨g, L1, L2, q15, HL1, HL2, hg, B, hBB, hP⟩ := hd 15 (by kernel_rfl)
      generalize hev : Act.eval _ = ev
      have ec : ∀ c, ev (.const c) = c := fun c => by rw [← hev]; rfl
      have ef : ∀ f, ev (.func f) = .func (.func f) #[] #[] := fun f => by rw [← hev]; rfl
      have e18 : ev (.tmp 18) = .slice (some ⟨g, 0, none⟩) 3 3 := by rw [← hev]; exact (eval_put (by kernel_rfl) 20 rfl (by decide)).trans q15
      exact .inr ⟨_, _, _, by go_simp, join_any W B g 3 [L1, L2, [pr]] hP rfl (by omega) (by omega) (by simp [HL1.out, HL2.out, puts16_len, puts32_len]), fun e w' he => by
        obtain ⟨L, A, c, rfl, HL, hr, hb⟩ := he
        exact ⟨_, rfl, ⟨L, A, c, rfl, by rw [Hid, HL.out, HL1.out, HL2.out]; simp, hr⟩, hb⟩⟩
    · obtain rfl := Option.some.inj ho
      refine .inl ⟨wanted_none rfl, ?_⟩
      obtain ⟨L, A, c, q16, HL, r⟩ := hd 16 (by kernel_rfl)
      generalize hev : Act.eval _ = ev
      have ec : ∀ c, ev (.const c) = c := fun c => by rw [← hev]; rfl
      have ef : ∀ f, ev (.func f) = .func (.func f) #[] #[] := fun f => by rw [← hev]; rfl
      have e19 : ev (.tmp 19) = .slice A L.length c := by rw [← hev]; exact (eval_put (by kernel_rfl) 20 rfl (by decide)).trans q16
      exact .inl ⟨_, W, by go_simp, ⟨L, A, c, rfl, HL, r⟩, Below.refl _ _⟩
    · simp at ho
  · intro uu W hVW hall
    obtain ⟨L, A, c, q17, HL, r⟩ := hall 17 (by decide)
    go_wp2_with fail
    refine bodyPost_ret (results_tmp rfl _ _ _) (putAll_defers _ _ _ _) ?_
    refine ⟨L, A, c, congrArg Ending.returned (Eq.trans (b := uu 17) (by kernel_rfl) q17), HL, r, hBV.trans (hVW.mono hBV.size)⟩
end Go.Proofs.YteodjajjlgekcaaDoor
