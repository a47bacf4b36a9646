/- Contracts of Back on both sides, of the reference's Bytes and Compare. -/
import Derived.Test.YteodjajjlgekcaaDoorFlow4
import Derived.Test.YteodjajjlgekcaaDoorRef1
import Derived.Test.YteodjajjlgekcaaDoorReg3
import Derived.Deep.Onto
namespace Go.Proofs.YteodjajjlgekcaaDoor
open Go.RowKit

theorem Blk.get5 {w : World} {g : Nat} {e : TypeId} {v0 v1 v2 v3 v4 : Value} (h : Blk w g [v0, v1, v2, v3, v4] e) : w.cell? ⟨g, 0, none⟩ = some v0 ∧ w.cell? ⟨g, 1, none⟩ = some v1 ∧ w.cell? ⟨g, 2, none⟩ = some v2 ∧ w.cell? ⟨g, 3, none⟩ = some v3 ∧ w.cell? ⟨g, 4, none⟩ = some v4 ∧ w.frozen? ⟨g, 0, none⟩ = false := ⟨h.cell 0, h.cell 1, h.cell 2, h.cell 3, h.cell 4, h.frozen 0⟩
set_option maxHeartbeats 2000000 in
theorem rfbytes_any (s d : UInt32) (p q : UInt16) (r : UInt8) (w : World) : Calls Tryd.prog 43 #[.agg #[.int .u32 (s.toNat : Int), .int .u32 (d.toNat : Int), .int .u16 (p.toNat : Int), .int .u16 (q.toNat : Int), .int .u8 (r.toNat : Int)]] w fun e w' => ∃ L A c, e = .returned (.slice A L.length c) ∧ Hid (L = fb s d p q r) ∧ Rd bv w' w'.heap.size A c L ∧ Below w.heap.size w w' := by
  obtain ⟨i0, hi0, hz0, hz1, hz2⟩ := info_parts info_u8
  have RP : ∀ (n size : Nat) W, n < 4294967296 → size ≤ 1000 → Hid (Calls Tryd.prog 44 #[.int .u32 n, .int .i64 size] W fun e w' => ∃ L A c, e = .returned (.slice A L.length c) ∧ Hid (L = putN size n) ∧ Rd bv w' w'.heap.size A c L ∧ Below W.heap.size W w') := by
    intro n size W h1 h2
    refine (rput_any n size W h1 h2).mono ?_
    rintro e w' ⟨v, rfl, hown, hb⟩
    obtain ⟨L, A, c, HL, rfl, hr⟩ := hown.rdv
    exact ⟨L, A, c, rfl, HL, hr, hb⟩
  have RO : ∀ A1 A2 c1 c2 (xs ys : List UInt8) W, Rd bv W W.heap.size A1 c1 xs → Rd bv W W.heap.size A2 c2 ys → xs.length + ys.length ≤ 1000000 → Hid (Calls Tryd.prog 42 #[.slice A1 xs.length c1, .slice A2 ys.length c2] W fun e w' => ∃ L A c, e = .returned (.slice A L.length c) ∧ Hid (L = xs ++ ys) ∧ Own bv w' W.heap.size 5 (.slice A L.length c) L ∧ Below W.heap.size W w') := by
    intro A1 A2 c1 c2 xs ys W g1 g2 g3
    refine (radd_any A1 A2 c1 c2 xs ys W g1 g2 (by omega)).mono ?_
    rintro e w' ⟨v, rfl, hown, hb⟩
    obtain ⟨L, A, c, HL, rfl, hr⟩ := hown.rdv
    exact ⟨L, A, c, rfl, HL, by rw [← HL.out] at hown; exact hown, hb⟩
  have RA : ∀ A1 A2 c1 c2 (xs ys : List UInt8) W, Rd bv W W.heap.size A1 c1 xs → Rd bv W W.heap.size A2 c2 ys → xs.length + ys.length ≤ 1000000 → Hid (Calls Tryd.prog 42 #[.slice A1 xs.length c1, .slice A2 ys.length c2] W fun e w' => ∃ L A c, e = .returned (.slice A L.length c) ∧ Hid (L = xs ++ ys) ∧ Rd bv w' w'.heap.size A c L ∧ Below W.heap.size W w') := by
    intro A1 A2 c1 c2 xs ys W g1 g2 g3
    refine (RO A1 A2 c1 c2 xs ys W g1 g2 g3).out.mono ?_
    rintro e w' ⟨L, A, c, rfl, HL, hown, hb⟩
    exact ⟨L, A, c, rfl, HL, hown.rdS, hb⟩
  have K := Blk.new w #[.int .u32 (s.toNat : Int), .int .u32 (d.toNat : Int), .int .u16 (p.toNat : Int), .int .u16 (q.toNat : Int), .int .u8 (r.toNat : Int)] 28
  have hB := bnextA (Below.refl w.heap.size w) (.cells #[.int .u32 (s.toNat : Int), .int .u32 (d.toNat : Int), .int .u16 (p.toNat : Int), .int .u16 (q.toNat : Int), .int .u8 (r.toNat : Int)] 28)
  go_enter Tryd.func43, Tryd.ntmps43
  go_wp2_with fail
  generalize w.alloc (.cells #[.int .u32 (s.toNat : Int), .int .u32 (d.toNat : Int), .int .u16 (p.toNat : Int), .int .u16 (q.toNat : Int), .int .u8 (r.toNat : Int)] 28) = V at *
  have HCC : ∀ W, Below V.heap.size V W → (W.cell? ⟨w.heap.size, 0, none⟩ = some (.int .u32 (s.toNat : Int)) ∧ W.cell? ⟨w.heap.size, 1, none⟩ = some (.int .u32 (d.toNat : Int)) ∧ W.cell? ⟨w.heap.size, 2, none⟩ = some (.int .u16 (p.toNat : Int)) ∧ W.cell? ⟨w.heap.size, 3, none⟩ = some (.int .u16 (q.toNat : Int)) ∧ W.cell? ⟨w.heap.size, 4, none⟩ = some (.int .u8 (r.toNat : Int))) := by
    intro W h
    exact ⟨(K.next h).cell 0, (K.next h).cell 1, (K.next h).cell 2, (K.next h).cell 3, (K.next h).cell 4⟩
  refine region_put (by kernel_rfl) (by kernel_rfl) (by kernel_rfl) 27 rfl (by kernel_rfl) V (fun i v W => match i with
      | 0 => v = .pointer (some ⟨w.heap.size, 0, none⟩)
      | 1 => v = .int .u32 (s.toNat : Int)
      | 2 => ∃ L A c, v = .slice A L.length c ∧ Hid (L = putN 4 s.toNat) ∧ Rd bv W W.heap.size A c L
      | 3 => v = .pointer (some ⟨w.heap.size, 1, none⟩)
      | 4 => v = .int .u32 (d.toNat : Int)
      | 5 => ∃ L A c, v = .slice A L.length c ∧ Hid (L = putN 4 d.toNat) ∧ Rd bv W W.heap.size A c L
      | 6 => ∃ L A c, v = .slice A L.length c ∧ Hid (L = putN 4 s.toNat ++ putN 4 d.toNat) ∧ Rd bv W W.heap.size A c L
      | 7 => ∃ L A c, v = .slice A L.length c ∧ Hid (L = putN 4 s.toNat ++ putN 4 d.toNat) ∧ Rd bv W W.heap.size A c L
      | _ => True) (Below.refl _ _) ?_ ?_ ?_
  · intro i v W W' h hb
    match i, h with
    | 0, h => exact h
    | 1, h => exact h
    | 2, h => obtain ⟨L, A, c, h1, h2, h3⟩ := h; exact ⟨L, A, c, h1, h2, h3.next hb⟩
    | 3, h => exact h
    | 4, h => exact h
    | 5, h => obtain ⟨L, A, c, h1, h2, h3⟩ := h; exact ⟨L, A, c, h1, h2, h3.next hb⟩
    | 6, h => obtain ⟨L, A, c, h1, h2, h3⟩ := h; exact ⟨L, A, c, h1, h2, h3.next hb⟩
    | 7, h => obtain ⟨L, A, c, h1, h2, h3⟩ := h; exact ⟨L, A, c, h1, h2, h3.next hb⟩
    | _ + 8, _ => trivial
  · intro i o uu W hoo hVW hd
    rcases i with _|_|_|_|_|_|_|_|i
    · obtain rfl := Option.some.inj hoo
      refine .inl ⟨wanted_none rfl, ?_⟩
      generalize hev : Act.eval _ = ev
      have ec : ∀ c, ev (.const c) = c := fun c => by rw [← hev]; rfl
      have e1 : ev (.tmp 1) = .pointer (some ⟨w.heap.size, 0, none⟩) := by rw [← hev]; exact eval_old (by kernel_rfl) 27 rfl (by decide) rfl
      clear hev hd
      exact .inl ⟨_, W, by go_simp, rfl, Below.refl _ _⟩
    · obtain rfl := Option.some.inj hoo
      have q0 : uu 0 = .pointer (some ⟨w.heap.size, 0, none⟩) := hd 0 (by kernel_rfl)
      refine .inl ⟨wanted_none rfl, ?_⟩
      generalize hev : Act.eval _ = ev
      have ec : ∀ c, ev (.const c) = c := fun c => by rw [← hev]; rfl
      have e4 : ev (.tmp 4) = .pointer (some ⟨w.heap.size, 0, none⟩) := by rw [← hev]; exact (eval_put (by kernel_rfl) 27 rfl (by decide)).trans q0
      clear hev hd q0
      obtain ⟨cc0, cc1, cc2, cc3, cc4⟩ := HCC W hVW
      exact .inl ⟨_, W, by go_simp, rfl, Below.refl _ _⟩
    · obtain rfl := Option.some.inj hoo
      have q1 : uu 1 = .int .u32 (s.toNat : Int) := hd 1 (by kernel_rfl)
      refine .inl ⟨wanted_none rfl, ?_⟩
      generalize hev : Act.eval _ = ev
      have ec : ∀ c, ev (.const c) = c := fun c => by rw [← hev]; rfl
      have ef : ∀ f, ev (.func f) = .func (.func f) #[] #[] := fun f => by rw [← hev]; rfl
      have e5 : ev (.tmp 5) = .int .u32 (s.toNat : Int) := by rw [← hev]; exact (eval_put (by kernel_rfl) 27 rfl (by decide)).trans q1
      clear hev hd q1
      exact .inr ⟨_, _, _, by go_simp, (RP s.toNat 4 W (by have := s.toNat_lt; omega) (by omega)).out, fun e w' he => by
        obtain ⟨L, A, c, rfl, HL, hr, hb⟩ := he
        exact ⟨_, rfl, ⟨L, A, c, rfl, HL, hr⟩, hb⟩⟩
    · obtain rfl := Option.some.inj hoo
      refine .inl ⟨wanted_none rfl, ?_⟩
      generalize hev : Act.eval _ = ev
      have ec : ∀ c, ev (.const c) = c := fun c => by rw [← hev]; rfl
      have e1 : ev (.tmp 1) = .pointer (some ⟨w.heap.size, 0, none⟩) := by rw [← hev]; exact eval_old (by kernel_rfl) 27 rfl (by decide) rfl
      clear hev hd
      exact .inl ⟨_, W, by go_simp, rfl, Below.refl _ _⟩
    · obtain rfl := Option.some.inj hoo
      have q3 : uu 3 = .pointer (some ⟨w.heap.size, 1, none⟩) := hd 3 (by kernel_rfl)
      refine .inl ⟨wanted_none rfl, ?_⟩
      generalize hev : Act.eval _ = ev
      have ec : ∀ c, ev (.const c) = c := fun c => by rw [← hev]; rfl
      have e7 : ev (.tmp 7) = .pointer (some ⟨w.heap.size, 1, none⟩) := by rw [← hev]; exact (eval_put (by kernel_rfl) 27 rfl (by decide)).trans q3
      clear hev hd q3
      obtain ⟨cc0, cc1, cc2, cc3, cc4⟩ := HCC W hVW
      exact .inl ⟨_, W, by go_simp, rfl, Below.refl _ _⟩
    · obtain rfl := Option.some.inj hoo
      have q4 : uu 4 = .int .u32 (d.toNat : Int) := hd 4 (by kernel_rfl)
      refine .inl ⟨wanted_none rfl, ?_⟩
      generalize hev : Act.eval _ = ev
      have ec : ∀ c, ev (.const c) = c := fun c => by rw [← hev]; rfl
      have ef : ∀ f, ev (.func f) = .func (.func f) #[] #[] := fun f => by rw [← hev]; rfl
      have e8 : ev (.tmp 8) = .int .u32 (d.toNat : Int) := by rw [← hev]; exact (eval_put (by kernel_rfl) 27 rfl (by decide)).trans q4
      clear hev hd q4
      exact .inr ⟨_, _, _, by go_simp, (RP d.toNat 4 W (by have := d.toNat_lt; omega) (by omega)).out, fun e w' he => by
        obtain ⟨L, A, c, rfl, HL, hr, hb⟩ := he
        exact ⟨_, rfl, ⟨L, A, c, rfl, HL, hr⟩, hb⟩⟩
    · obtain rfl := Option.some.inj hoo
      obtain ⟨L2, A2, c2, q2, HL2, r2⟩ := hd 2 (by kernel_rfl)
      obtain ⟨L5, A5, c5, q5, HL5, r5⟩ := hd 5 (by kernel_rfl)
      refine .inl ⟨wanted_none rfl, ?_⟩
      generalize hev : Act.eval _ = ev
      have ec : ∀ c, ev (.const c) = c := fun c => by rw [← hev]; rfl
      have ef : ∀ f, ev (.func f) = .func (.func f) #[] #[] := fun f => by rw [← hev]; rfl
      have e6 : ev (.tmp 6) = .slice A2 L2.length c2 := by rw [← hev]; exact (eval_put (by kernel_rfl) 27 rfl (by decide)).trans q2
      have e9 : ev (.tmp 9) = .slice A5 L5.length c5 := by rw [← hev]; exact (eval_put (by kernel_rfl) 27 rfl (by decide)).trans q5
      clear hev hd q2 q5
      exact .inr ⟨_, _, _, by go_simp, (RA _ _ _ _ L2 L5 W r2 r5 (by rw [HL2.out, HL5.out]; simp [putN_len])).out, fun e w' he => by
        obtain ⟨L, A, c, rfl, HL, hr, hb⟩ := he
        exact ⟨_, rfl, ⟨L, A, c, rfl, (by rw [Hid, HL.out, HL2.out, HL5.out]), hr⟩, hb⟩⟩
    · obtain rfl := Option.some.inj hoo
      obtain ⟨L6, A6, c6, q6, HL6, r6⟩ := hd 6 (by kernel_rfl)
      refine .inl ⟨wanted_none rfl, ?_⟩
      generalize hev : Act.eval _ = ev
      have ec : ∀ c, ev (.const c) = c := fun c => by rw [← hev]; rfl
      have e10 : ev (.tmp 10) = .slice A6 L6.length c6 := by rw [← hev]; exact (eval_put (by kernel_rfl) 27 rfl (by decide)).trans q6
      clear hev hd q6
      exact .inl ⟨_, W, by go_simp, ⟨L6, A6, c6, rfl, HL6, r6⟩, Below.refl _ _⟩
    · simp at hoo
  · intro uu W hVW hall
    have q7 : ∃ L A c, uu 7 = .slice A L.length c ∧ Hid (L = putN 4 s.toNat ++ putN 4 d.toNat) ∧ Rd bv W W.heap.size A c L := hall 7 (by decide)
    obtain ⟨L7, A7, c7, q7, HL7, r7⟩ := q7
    replace hB := hB.trans (hVW.mono hB.size)
    replace K := K.next hVW
    clear hall HCC hVW
    simp only [putAll, Act.put, Nat.reduceAdd, q7]
    simp only [List.setIfInBounds_toArray, List.set_cons_succ, List.set_cons_zero]
    clear q7
    generalize W = V2 at *
    have HCC : ∀ W, Below V2.heap.size V2 W → (W.cell? ⟨w.heap.size, 0, none⟩ = some (.int .u32 (s.toNat : Int)) ∧ W.cell? ⟨w.heap.size, 1, none⟩ = some (.int .u32 (d.toNat : Int)) ∧ W.cell? ⟨w.heap.size, 2, none⟩ = some (.int .u16 (p.toNat : Int)) ∧ W.cell? ⟨w.heap.size, 3, none⟩ = some (.int .u16 (q.toNat : Int)) ∧ W.cell? ⟨w.heap.size, 4, none⟩ = some (.int .u8 (r.toNat : Int))) := by
      intro W h
      exact ⟨(K.next h).cell 0, (K.next h).cell 1, (K.next h).cell 2, (K.next h).cell 3, (K.next h).cell 4⟩
    go_wp2_with fail
    refine region_putD (by kernel_rfl) (by kernel_rfl) (by kernel_rfl) 27 rfl (by kernel_rfl) V2 (fun i v W => match i with
        | 0 => ∃ L A c, v = .slice A L.length c ∧ Hid (L = L7) ∧ Rd bv W W.heap.size A c L
        | 1 => v = .pointer (some ⟨w.heap.size, 2, none⟩)
        | 2 => v = .int .u16 (p.toNat : Int)
        | 3 => v = .int .u32 (p.toNat : Int)
        | 4 => ∃ L A c, v = .slice A L.length c ∧ Hid (L = putN 2 p.toNat) ∧ Rd bv W W.heap.size A c L
        | 5 => v = .pointer (some ⟨w.heap.size, 3, none⟩)
        | 6 => v = .int .u16 (q.toNat : Int)
        | 7 => v = .int .u32 (q.toNat : Int)
        | 8 => ∃ L A c, v = .slice A L.length c ∧ Hid (L = putN 2 q.toNat) ∧ Rd bv W W.heap.size A c L
        | 9 => ∃ L A c, v = .slice A L.length c ∧ Hid (L = putN 2 p.toNat ++ putN 2 q.toNat) ∧ Rd bv W W.heap.size A c L
        | 10 => ∃ L A c, v = .slice A L.length c ∧ Hid (L = putN 4 s.toNat ++ putN 4 d.toNat ++ (putN 2 p.toNat ++ putN 2 q.toNat)) ∧ Own bv W V2.heap.size 5 (.slice A L.length c) L
        | 11 => ∃ L A c, v = .slice A L.length c ∧ Hid (L = putN 4 s.toNat ++ putN 4 d.toNat ++ (putN 2 p.toNat ++ putN 2 q.toNat)) ∧ Own bv W V2.heap.size 5 (.slice A L.length c) L
        | _ => True) (Below.refl _ _) ?_ ?_ ?_
    · intro i v W W' h hb
      match i, h with
      | 0, h => obtain ⟨L, A, c, h1, h2, h3⟩ := h; exact ⟨L, A, c, h1, h2, h3.next hb⟩
      | 1, h => exact h
      | 2, h => exact h
      | 3, h => exact h
      | 4, h => obtain ⟨L, A, c, h1, h2, h3⟩ := h; exact ⟨L, A, c, h1, h2, h3.next hb⟩
      | 5, h => exact h
      | 6, h => exact h
      | 7, h => exact h
      | 8, h => obtain ⟨L, A, c, h1, h2, h3⟩ := h; exact ⟨L, A, c, h1, h2, h3.next hb⟩
      | 9, h => obtain ⟨L, A, c, h1, h2, h3⟩ := h; exact ⟨L, A, c, h1, h2, h3.next hb⟩
      | 10, h => obtain ⟨L, A, c, h1, h2, h3⟩ := h; exact ⟨L, A, c, h1, h2, h3.nextO hb⟩
      | 11, h => obtain ⟨L, A, c, h1, h2, h3⟩ := h; exact ⟨L, A, c, h1, h2, h3.nextO hb⟩
      | _ + 12, _ => trivial
    · intro i o uu W hoo hVW hd hold
      rcases i with _|_|_|_|_|_|_|_|_|_|_|_|i
      · obtain rfl := Option.some.inj hoo
        refine .inl ⟨wanted_none rfl, ?_⟩
        generalize hev : Act.eval _ = ev
        have ec : ∀ c, ev (.const c) = c := fun c => by rw [← hev]; rfl
        have e3 : ev (.tmp 3) = .slice A7 L7.length c7 := by rw [← hev]; exact (eval_put (by kernel_rfl) 27 rfl (by decide)).trans (hold 11 3 _ (by kernel_rfl) (by kernel_rfl) rfl)
        clear hev hd hold
        exact .inl ⟨.slice A7 L7.length c7, W, by go_simp, ⟨L7, A7, c7, rfl, rfl, (r7.next hVW)⟩, Below.refl _ _⟩
      · obtain rfl := Option.some.inj hoo
        refine .inl ⟨wanted_none rfl, ?_⟩
        generalize hev : Act.eval _ = ev
        have ec : ∀ c, ev (.const c) = c := fun c => by rw [← hev]; rfl
        have e1 : ev (.tmp 1) = .pointer (some ⟨w.heap.size, 0, none⟩) := by rw [← hev]; exact eval_old (by kernel_rfl) 27 rfl (by decide) rfl
        clear hev hd hold
        exact .inl ⟨_, W, by go_simp, rfl, Below.refl _ _⟩
      · obtain rfl := Option.some.inj hoo
        have q1 : uu 1 = .pointer (some ⟨w.heap.size, 2, none⟩) := hd 1 (by kernel_rfl)
        refine .inl ⟨wanted_none rfl, ?_⟩
        generalize hev : Act.eval _ = ev
        have ec : ∀ c, ev (.const c) = c := fun c => by rw [← hev]; rfl
        have e12 : ev (.tmp 12) = .pointer (some ⟨w.heap.size, 2, none⟩) := by rw [← hev]; exact (eval_put (by kernel_rfl) 27 rfl (by decide)).trans q1
        clear hev hd hold q1
        obtain ⟨cc0, cc1, cc2, cc3, cc4⟩ := HCC W hVW
        exact .inl ⟨_, W, by go_simp, rfl, Below.refl _ _⟩
      · obtain rfl := Option.some.inj hoo
        have q2 : uu 2 = .int .u16 (p.toNat : Int) := hd 2 (by kernel_rfl)
        refine .inl ⟨wanted_none rfl, ?_⟩
        generalize hev : Act.eval _ = ev
        have ec : ∀ c, ev (.const c) = c := fun c => by rw [← hev]; rfl
        have e13 : ev (.tmp 13) = .int .u16 (p.toNat : Int) := by rw [← hev]; exact (eval_put (by kernel_rfl) 27 rfl (by decide)).trans q2
        clear hev hd hold q2
        have hh : IntKind.u32.wrap (p.toNat : Int) = (p.toNat : Int) := by rw [IntKind.wrap_u32]; have := p.toNat_lt; omega
        exact .inl ⟨_, W, by go_simp, rfl, Below.refl _ _⟩
      · obtain rfl := Option.some.inj hoo
        have q3 : uu 3 = .int .u32 (p.toNat : Int) := hd 3 (by kernel_rfl)
        refine .inl ⟨wanted_none rfl, ?_⟩
        generalize hev : Act.eval _ = ev
        have ec : ∀ c, ev (.const c) = c := fun c => by rw [← hev]; rfl
        have ef : ∀ f, ev (.func f) = .func (.func f) #[] #[] := fun f => by rw [← hev]; rfl
        have e14 : ev (.tmp 14) = .int .u32 (p.toNat : Int) := by rw [← hev]; exact (eval_put (by kernel_rfl) 27 rfl (by decide)).trans q3
        clear hev hd hold q3
        exact .inr ⟨_, _, _, by go_simp, (RP p.toNat 2 W (by have := p.toNat_lt; omega) (by omega)).out, fun e w' he => by
          obtain ⟨L, A, c, rfl, HL, hr, hb⟩ := he
          exact ⟨_, rfl, ⟨L, A, c, rfl, HL, hr⟩, hb⟩⟩
      · obtain rfl := Option.some.inj hoo
        refine .inl ⟨wanted_none rfl, ?_⟩
        generalize hev : Act.eval _ = ev
        have ec : ∀ c, ev (.const c) = c := fun c => by rw [← hev]; rfl
        have e1 : ev (.tmp 1) = .pointer (some ⟨w.heap.size, 0, none⟩) := by rw [← hev]; exact eval_old (by kernel_rfl) 27 rfl (by decide) rfl
        clear hev hd hold
        exact .inl ⟨_, W, by go_simp, rfl, Below.refl _ _⟩
      · obtain rfl := Option.some.inj hoo
        have q5 : uu 5 = .pointer (some ⟨w.heap.size, 3, none⟩) := hd 5 (by kernel_rfl)
        refine .inl ⟨wanted_none rfl, ?_⟩
        generalize hev : Act.eval _ = ev
        have ec : ∀ c, ev (.const c) = c := fun c => by rw [← hev]; rfl
        have e16 : ev (.tmp 16) = .pointer (some ⟨w.heap.size, 3, none⟩) := by rw [← hev]; exact (eval_put (by kernel_rfl) 27 rfl (by decide)).trans q5
        clear hev hd hold q5
        obtain ⟨cc0, cc1, cc2, cc3, cc4⟩ := HCC W hVW
        exact .inl ⟨_, W, by go_simp, rfl, Below.refl _ _⟩
      · obtain rfl := Option.some.inj hoo
        have q6 : uu 6 = .int .u16 (q.toNat : Int) := hd 6 (by kernel_rfl)
        refine .inl ⟨wanted_none rfl, ?_⟩
        generalize hev : Act.eval _ = ev
        have ec : ∀ c, ev (.const c) = c := fun c => by rw [← hev]; rfl
        have e17 : ev (.tmp 17) = .int .u16 (q.toNat : Int) := by rw [← hev]; exact (eval_put (by kernel_rfl) 27 rfl (by decide)).trans q6
        clear hev hd hold q6
        have hh : IntKind.u32.wrap (q.toNat : Int) = (q.toNat : Int) := by rw [IntKind.wrap_u32]; have := q.toNat_lt; omega
        exact .inl ⟨_, W, by go_simp, rfl, Below.refl _ _⟩
      · obtain rfl := Option.some.inj hoo
        have q7 : uu 7 = .int .u32 (q.toNat : Int) := hd 7 (by kernel_rfl)
        refine .inl ⟨wanted_none rfl, ?_⟩
        generalize hev : Act.eval _ = ev
        have ec : ∀ c, ev (.const c) = c := fun c => by rw [← hev]; rfl
        have ef : ∀ f, ev (.func f) = .func (.func f) #[] #[] := fun f => by rw [← hev]; rfl
        have e18 : ev (.tmp 18) = .int .u32 (q.toNat : Int) := by rw [← hev]; exact (eval_put (by kernel_rfl) 27 rfl (by decide)).trans q7
        clear hev hd hold q7
        exact .inr ⟨_, _, _, by go_simp, (RP q.toNat 2 W (by have := q.toNat_lt; omega) (by omega)).out, fun e w' he => by
          obtain ⟨L, A, c, rfl, HL, hr, hb⟩ := he
          exact ⟨_, rfl, ⟨L, A, c, rfl, HL, hr⟩, hb⟩⟩
      · obtain rfl := Option.some.inj hoo
        obtain ⟨L4, A4, c4, q4, HL4, r4⟩ := hd 4 (by kernel_rfl)
        obtain ⟨L8, A8, c8, q8, HL8, r8⟩ := hd 8 (by kernel_rfl)
        refine .inl ⟨wanted_none rfl, ?_⟩
        generalize hev : Act.eval _ = ev
        have ec : ∀ c, ev (.const c) = c := fun c => by rw [← hev]; rfl
        have ef : ∀ f, ev (.func f) = .func (.func f) #[] #[] := fun f => by rw [← hev]; rfl
        have e15 : ev (.tmp 15) = .slice A4 L4.length c4 := by rw [← hev]; exact (eval_put (by kernel_rfl) 27 rfl (by decide)).trans q4
        have e19 : ev (.tmp 19) = .slice A8 L8.length c8 := by rw [← hev]; exact (eval_put (by kernel_rfl) 27 rfl (by decide)).trans q8
        clear hev hd hold q4 q8
        exact .inr ⟨_, _, _, by go_simp, (RA _ _ _ _ L4 L8 W r4 r8 (by rw [HL4.out, HL8.out]; simp [putN_len])).out, fun e w' he => by
          obtain ⟨L, A, c, rfl, HL, hr, hb⟩ := he
          exact ⟨_, rfl, ⟨L, A, c, rfl, (by rw [Hid, HL.out, HL4.out, HL8.out]), hr⟩, hb⟩⟩
      · obtain rfl := Option.some.inj hoo
        obtain ⟨L0, A0, c0, q0, HL0, r0⟩ := hd 0 (by kernel_rfl)
        obtain ⟨L9, A9, c9, q9, HL9, r9⟩ := hd 9 (by kernel_rfl)
        refine .inl ⟨wanted_none rfl, ?_⟩
        generalize hev : Act.eval _ = ev
        have ec : ∀ c, ev (.const c) = c := fun c => by rw [← hev]; rfl
        have ef : ∀ f, ev (.func f) = .func (.func f) #[] #[] := fun f => by rw [← hev]; rfl
        have e11 : ev (.tmp 11) = .slice A0 L0.length c0 := by rw [← hev]; exact (eval_put (by kernel_rfl) 27 rfl (by decide)).trans q0
        have e20 : ev (.tmp 20) = .slice A9 L9.length c9 := by rw [← hev]; exact (eval_put (by kernel_rfl) 27 rfl (by decide)).trans q9
        clear hev hd hold q0 q9
        exact .inr ⟨_, _, _, by go_simp, (RO _ _ _ _ L0 L9 W r0 r9 (by rw [HL0.out, HL9.out, HL7.out]; simp [putN_len])).out, fun e w' he => by
          obtain ⟨L, A, c, rfl, HL, hr, hb⟩ := he
          exact ⟨_, rfl, ⟨L, A, c, rfl, (by rw [Hid, HL.out, HL0.out, HL7.out, HL9.out]), hr.mono hVW.size⟩, hb⟩⟩
      · obtain rfl := Option.some.inj hoo
        obtain ⟨L10, A10, c10, q10, HL10, r10⟩ := hd 10 (by kernel_rfl)
        refine .inl ⟨wanted_none rfl, ?_⟩
        generalize hev : Act.eval _ = ev
        have ec : ∀ c, ev (.const c) = c := fun c => by rw [← hev]; rfl
        have e21 : ev (.tmp 21) = .slice A10 L10.length c10 := by rw [← hev]; exact (eval_put (by kernel_rfl) 27 rfl (by decide)).trans q10
        clear hev hd hold q10
        exact .inl ⟨_, W, by go_simp, ⟨L10, A10, c10, rfl, HL10, r10⟩, Below.refl _ _⟩
      · simp at hoo
    · intro uu W hVW hall
      have q11 : ∃ L A c, uu 11 = .slice A L.length c ∧ Hid (L = putN 4 s.toNat ++ putN 4 d.toNat ++ (putN 2 p.toNat ++ putN 2 q.toNat)) ∧ Own bv W V2.heap.size 5 (.slice A L.length c) L := hall 11 (by decide)
      obtain ⟨L11, A11, c11, q11, HL11, r11⟩ := q11
      replace K := K.next hVW
      have hsz := hVW.size
      clear hall HCC
      simp only [putAll, Act.put, Nat.reduceAdd, q11]
      simp only [List.setIfInBounds_toArray, List.set_cons_succ, List.set_cons_zero]
      obtain ⟨f0, f1, f2, f3, f4, -⟩ := K.get5
      have hl11 : L11.length = 12 := by rw [HL11.out]; simp [putN_len]
      clear q11 RP RA RO HL7 r7
      go_wp2_with (at_builtin; (refine wpList_append_rd rfl (.tmp 22) (.tmp 25) _ rfl bv V2.heap.size 5 i0 _ 1 Tryd.underlying42 hi0 hz0 hz1 hz2 rfl bv_one _ _ rfl (r11.alloc _) (W.heap.size + 1) (some ⟨W.heap.size, 0, none⟩) 1 [r] rfl (rd_lit W _ _ [r] rfl (by simp)) (by simp only [List.length_cons, List.length_nil]; omega) (by simp only [List.length_cons, List.length_nil]; omega) (by simp only [World.size_alloc]; omega) V2 (hVW.alloc (by omega) _) ?_); intro v3 w3 hown3 hb3 hnn3)
      go_ret
      obtain ⟨L, A, c, HL, rfl, hr⟩ := hown3.rdv
      refine ⟨L, A, c, rfl, ?_, hr, hB.trans (hb3.mono hB.size)⟩
      rw [Hid, HL.out, HL11.out]
      simp [fb, puts32, puts16, be32_put, be16_put]
def cmpL : List Nat → List Nat → Int
  | x :: X, y :: Y => if x < y then -1 else if y < x then 1 else cmpL X Y
  | _, _ => 0
theorem cmp_self (a : List UInt8) : Lib.compareBytes a a = 0 := by
  have := cmp_anti a a
  omega
theorem cmp_app (l m : List UInt8) : ∀ a b : List UInt8, a.length = b.length → Lib.compareBytes (a ++ l) (b ++ m) = if Lib.compareBytes a b = 0 then Lib.compareBytes l m else Lib.compareBytes a b
  | [], [], _ => by simp [Lib.compareBytes]
  | [], _ :: _, h => by simp at h
  | _ :: _, [], h => by simp at h
  | x :: a, y :: b, h => by
    have ih := cmp_app l m a b (by simpa using h)
    simp only [List.cons_append, Lib.compareBytes]
    by_cases h1 : x < y
    · simp [h1]
    · by_cases h2 : y < x
      · simp [h1, h2]
      · simp only [if_neg h1, if_neg h2]
        exact ih
def sg (x y : Nat) : Int := if x < y then -1 else if y < x then 1 else 0
theorem cmp4 (a0 a1 a2 a3 b0 b1 b2 b3 : UInt8) (x y : Nat) (hx : x = a0.toNat * 16777216 + a1.toNat * 65536 + a2.toNat * 256 + a3.toNat) (hy : y = b0.toNat * 16777216 + b1.toNat * 65536 + b2.toNat * 256 + b3.toNat) : Lib.compareBytes [a0, a1, a2, a3] [b0, b1, b2, b3] = sg x y := by
  have h0 := a0.toNat_lt
  have h1 := a1.toNat_lt
  have h2 := a2.toNat_lt
  have h3 := a3.toNat_lt
  have g0 := b0.toNat_lt
  have g1 := b1.toNat_lt
  have g2 := b2.toNat_lt
  have g3 := b3.toNat_lt
  simp only [Lib.compareBytes, UInt8.lt_iff_toNat_lt, sg]
  generalize a0.toNat = A0 at *
  generalize a1.toNat = A1 at *
  generalize a2.toNat = A2 at *
  generalize a3.toNat = A3 at *
  generalize b0.toNat = B0 at *
  generalize b1.toNat = B1 at *
  generalize b2.toNat = B2 at *
  generalize b3.toNat = B3 at *
  (repeat' split) <;> omega
theorem cmp2 (a0 a1 b0 b1 : UInt8) (x y : Nat) (hx : x = a0.toNat * 256 + a1.toNat) (hy : y = b0.toNat * 256 + b1.toNat) : Lib.compareBytes [a0, a1] [b0, b1] = sg x y := by
  have h0 := a0.toNat_lt
  have h1 := a1.toNat_lt
  have g0 := b0.toNat_lt
  have g1 := b1.toNat_lt
  simp only [Lib.compareBytes, UInt8.lt_iff_toNat_lt, sg]
  generalize a0.toNat = A0 at *
  generalize a1.toNat = A1 at *
  generalize b0.toNat = B0 at *
  generalize b1.toNat = B1 at *
  (repeat' split) <;> omega
theorem cmp32 (x y : UInt32) : Lib.compareBytes (putN 4 x.toNat) (putN 4 y.toNat) = sg x.toNat y.toNat := by
  have := x.toNat_lt
  have := y.toNat_lt
  rw [putN_four, putN_four]
  exact cmp4 _ _ _ _ _ _ _ _ _ _ (by simp; omega) (by simp; omega)
theorem cmp16 (x y : UInt16) : Lib.compareBytes (putN 2 x.toNat) (putN 2 y.toNat) = sg x.toNat y.toNat := by
  have := x.toNat_lt
  have := y.toNat_lt
  rw [putN_two, putN_two]
  exact cmp2 _ _ _ _ _ _ (by simp; omega) (by simp; omega)
theorem cmp8 (x y : UInt8) : Lib.compareBytes [x] [y] = sg x.toNat y.toNat := by
  simp only [Lib.compareBytes, UInt8.lt_iff_toNat_lt, sg]
theorem sg_cons (x y : Nat) (X Y : List Nat) : cmpL (x :: X) (y :: Y) = if sg x y = 0 then cmpL X Y else sg x y := by
  simp only [cmpL, sg]
  (repeat' split) <;> first | rfl | omega
theorem cmp_flow (s d s1 d1 : UInt32) (p q p1 q1 : UInt16) (r r1 : UInt8) : Lib.compareBytes (fb s d p q r) (fb s1 d1 p1 q1 r1) = cmpL [s.toNat, d.toNat, p.toNat, q.toNat, r.toNat] [s1.toNat, d1.toNat, p1.toNat, q1.toNat, r1.toNat] := by
  have e : ∀ (s d : UInt32) (p q : UInt16) (r : UInt8), fb s d p q r = putN 4 s.toNat ++ (putN 4 d.toNat ++ (putN 2 p.toNat ++ (putN 2 q.toNat ++ [r]))) := by
    intro s d p q r
    simp [fb, puts32, puts16, be32_put, be16_put]
  rw [e, e, cmp_app _ _ _ _ (by simp [putN_len]), cmp_app _ _ _ _ (by simp [putN_len]), cmp_app _ _ _ _ (by simp [putN_len]), cmp_app _ _ _ _ (by simp [putN_len]), cmp32, cmp32, cmp16, cmp16, cmp8, sg_cons, sg_cons, sg_cons, sg_cons, sg_cons]
  have : ∀ z : Int, (if z = 0 then cmpL [] [] else z) = z := by intro z; simp only [cmpL]; split <;> omega
  rw [this]
theorem cmpL_first : ∀ X Y : List Nat, X.length = Y.length → ∃ K, K ≤ X.length ∧ (∀ j, j < K → X.getD j 0 = Y.getD j 0) ∧ ((K = X.length ∧ cmpL X Y = 0) ∨ (K < X.length ∧ X.getD K 0 < Y.getD K 0 ∧ cmpL X Y = -1) ∨ (K < X.length ∧ Y.getD K 0 < X.getD K 0 ∧ cmpL X Y = 1))
  | [], [], _ => ⟨0, by simp, by simp, .inl ⟨rfl, rfl⟩⟩
  | [], _ :: _, h => by simp at h
  | _ :: _, [], h => by simp at h
  | x :: X, y :: Y, h => by
    by_cases h1 : x < y
    · exact ⟨0, by simp, by simp, .inr (.inl ⟨by simp, by simpa using h1, by simp [cmpL, h1]⟩)⟩
    · by_cases h2 : y < x
      · exact ⟨0, by simp, by simp, .inr (.inr ⟨by simp, by simpa using h2, by simp [cmpL, h1, h2]⟩)⟩
      · have hxy : x = y := by omega
        obtain ⟨K, hK, hE, hD⟩ := cmpL_first X Y (by simpa using h)
        refine ⟨K + 1, by simpa using hK, fun j hj => ?_, ?_⟩
        · cases j with
          | zero => simpa using hxy
          | succ j => simpa using hE j (by omega)
        · simpa [cmpL, h1, h2] using hD
theorem cmpL_zero (X Y : List Nat) (h : X.length = Y.length) : cmpL X Y = 0 ↔ X = Y := by
  constructor
  · intro h0
    obtain ⟨K, hK, hE, hD⟩ := cmpL_first X Y h
    rcases hD with ⟨h1, -⟩ | ⟨-, -, h1⟩ | ⟨-, -, h1⟩
    · apply List.ext_getElem h
      intro i h2 h3
      have := hE i (by omega)
      simpa [List.getD, h2, h3] using this
    · omega
    · omega
  · intro h0
    subst h0
    clear h
    induction X with
    | nil => rfl
    | cons x X ih => simp [cmpL, ih]
end Go.Proofs.YteodjajjlgekcaaDoor
