/- The walk of SipParts. -/
import Derived.Test.YtiokofpmmlbncabLaw13a
import Derived.Test.YtiokofpmmlbncabRef1
namespace Go.Proofs.Ytiokofpmmlbncab
open Go.RowKit

set_option maxRecDepth 10000 in
set_option maxHeartbeats 8000000 in
theorem SipParts_walk (a0_0 a0_1 : Int) (a1 : Option Addr) (len1 cap1 : Nat) (z1 : List Int) (a2 : Option Addr) (len2 cap2 : Nat) (z2 : List Int) (w : World) (w0 : (Lit.int .u64 a0_0).wf = true) (w1 : (Lit.int .u64 a0_1).wf = true) (w2 : InRow .u8 w a1 len1 cap1 z1) (w3 : InRow .u8 w a2 len2 cap2 z2) :
    Calls Try.prog 12 #[.agg #[.int .u64 a0_0, .int .u64 a0_1], .slice a1 len1 cap1, .slice a2 len2 cap2] w fun e w' => e = .returned (.bool true) ∧ Below w.heap.size w w' := by
  obtain ⟨lo, rfl, h1⟩ := u64_nat w0
  obtain ⟨hi, rfl, h2⟩ := u64_nat w1
  obtain ⟨xs, hxl, ha, HFa⟩ := few_all w2 100 (by omega)
  obtain ⟨ys, hyl, hb, HFb⟩ := few_all w3 100 (by omega)
  clear w0 w1 w2 w3
  obtain ⟨i0, hi0, hz0, hz1, hz2⟩ := info_parts info_u8
  have HA : ∀ W, Rd bv W W.heap.size a1 cap1 xs → Rd bv W W.heap.size a2 cap2 ys → Hid (Calls Try.prog 28 #[.slice a1 xs.length cap1, .slice a2 ys.length cap2] W fun e w' => ∃ L A c, e = .returned (.slice A L.length c) ∧ Hid (L = xs ++ ys) ∧ Rd bv w' w'.heap.size A c L ∧ Below W.heap.size W w') := by
    intro W g1 g2
    refine (radd_any a1 a2 cap1 cap2 xs ys W g1 g2 (by omega)).mono ?_
    rintro e w' ⟨v, rfl, hown, hb⟩
    obtain ⟨L, A, c, HL, rfl, hr⟩ := hown.rdv
    exact ⟨L, A, c, rfl, HL, hr, hb⟩
  have P1 := fun W (h : Rd bv W W.heap.size a1 cap1 xs) => Lib.hid (rsum_sip lo hi h1 h2 a1 cap1 xs W h (by omega))
  have P2 := fun W (h : Rd bv W W.heap.size a2 cap2 ys) => Lib.hid (rsum_sip lo hi h1 h2 a2 cap2 ys W h (by omega))
  have Q1 : ∀ A c Y, Y = xs → ∀ W, Rd bv W W.heap.size A c Y → Hid (Calls Try.prog 45 #[.agg #[.int .u64 (lo : Int), .int .u64 (hi : Int)], .slice A Y.length c] W fun e w' => e = .returned (.int .u64 (sipN lo hi xs : Nat)) ∧ Below W.heap.size W w') := by
    intro A c Y hY W h
    subst hY
    exact sum_sip lo hi h1 h2 A c _ W h (by omega)
  have Q2 : ∀ A c Y, Y = ys → ∀ W, Rd bv W W.heap.size A c Y → Hid (Calls Try.prog 45 #[.agg #[.int .u64 (lo : Int), .int .u64 (hi : Int)], .slice A Y.length c] W fun e w' => e = .returned (.int .u64 (sipN lo hi ys : Nat)) ∧ Below W.heap.size W w') := by
    intro A c Y hY W h
    subst hY
    exact sum_sip lo hi h1 h2 A c _ W h (by omega)
  generalize sipN lo hi xs = S1 at *
  generalize sipN lo hi ys = S2 at *
  have hB := bnextA (Below.refl w.heap.size w) (.cells #[.int .u64 (lo : Int), .int .u64 (hi : Int)] 81)
  have K := Blk.new w #[.int .u64 (lo : Int), .int .u64 (hi : Int)] 81
  replace ha := ha.nextA (.cells #[.int .u64 (lo : Int), .int .u64 (hi : Int)] 81)
  replace hb := hb.nextA (.cells #[.int .u64 (lo : Int), .int .u64 (hi : Int)] 81)
  go_enter Try.func12, Try.ntmps12
  go_wp2_with fail
  refine (HFa _).out.mono ?_
  rintro e wz ⟨rfl, rfl⟩
  go_wp2_with fail
  refine (HFb _).out.mono ?_
  rintro e wz ⟨rfl, rfl⟩
  go_wp2_with fail
  refine (HA _ ha hb).out.mono ?_
  rintro e V ⟨L, A3, c3, rfl, HL, rL, hbb⟩
  replace hB := bnext hB hbb
  replace ha := ha.next hbb
  replace hb := hb.next hbb
  replace K := K.next hbb
  have hLl : L.length = xs.length + ys.length := by rw [HL.out]; simp
  have ra := rL.take xs.length
  rw [show L.take xs.length = xs by rw [HL.out]; simp] at ra
  have hx1 : (xs.length : Int) ≤ (L.length : Int) := by omega
  have hx2 : (xs.length : Int) ≤ (c3 : Int) := by have := rL.len; omega
  obtain ⟨A4, c4, -, hsl⟩ := rL.slice_l Try.underlying22 hi0 hz1 xs.length (xs.length : Int) rfl (by omega)
  rw [show L.length - xs.length = ys.length by omega] at hsl
  have r4a : ∀ W, Rd bv W W.heap.size A3 c3 L → Rd bv W W.heap.size A4 c4 ys := by
    intro W h
    obtain ⟨A5, c5, h5, hs5⟩ := h.slice_l Try.underlying22 hi0 hz1 xs.length (xs.length : Int) rfl (by omega)
    rw [show L.length - xs.length = ys.length by omega] at hs5
    have he := (hsl W).symm.trans (hs5 W)
    rw [show L.drop xs.length = ys by rw [HL.out]; simp] at h5
    simp only [Result.ok.injEq, Value.slice.injEq, true_and, and_true] at he
    rw [he.1, he.2]
    exact h5
  clear hbb HFa HFb hLl hxl hyl h1 h2
  have HS : ∀ W, Below V.heap.size V W → (W.cell? ⟨w.heap.size, 0, none⟩ = some (.int .u64 (lo : Int)) ∧ W.cell? ⟨w.heap.size, 1, none⟩ = some (.int .u64 (hi : Int))) := by
    intro W h
    obtain ⟨p0, p1, -⟩ := (K.next h).get2
    exact ⟨p0, p1⟩
  go_wp2_with fail
  refine region_put (by kernel_rfl) (by kernel_rfl) (by kernel_rfl) 51 rfl (by kernel_rfl) V (fun i v W => match i with
      | 0 => v = .agg #[.int .u64 (lo : Int), .int .u64 (hi : Int)]
      | 1 => v = .slice A3 L.length c3
      | 2 => v = .slice a1 xs.length cap1
      | 3 => v = .int .i64 (xs.length : Int)
      | 4 => ∃ L A c, v = .slice A L.length c ∧ Hid (L = xs) ∧ Rd bv W W.heap.size A c L
      | 5 => v = .int .u64 (S1 : Int)
      | 6 => v = .int .u64 (S1 : Int)
      | _ => True) (Below.refl _ _) ?_ ?_ ?_
  · intro i v W W' h hb
    match i, h with
    | 0, h => exact h
    | 1, h => exact h
    | 2, h => exact h
    | 3, h => exact h
    | 4, h => obtain ⟨L, A, c, h1, h2, h3⟩ := h; exact ⟨L, A, c, h1, h2, h3.next hb⟩
    | 5, h => exact h
    | 6, h => exact h
    | _ + 7, _ => trivial
  · intro i o uu W hoo hVW hd
    rcases i with _|_|_|_|_|_|_|i
    · obtain rfl := Option.some.inj hoo
      refine .inl ⟨wanted_none rfl, ?_⟩
      generalize hev : Act.eval _ = ev
      have ec : ∀ c, ev (.const c) = c := fun c => by rw [← hev]; rfl
      have e3 : ev (.tmp 3) = .pointer (some ⟨w.heap.size, 0, none⟩) := by rw [← hev]; exact eval_old (by kernel_rfl) 51 rfl (by decide) rfl
      clear hev hd
      obtain ⟨cc0, cc1⟩ := HS W hVW
      exact .inl ⟨_, W, by go_simp, rfl, Below.refl _ _⟩
    · obtain rfl := Option.some.inj hoo
      refine .inl ⟨wanted_none rfl, ?_⟩
      generalize hev : Act.eval _ = ev
      have ec : ∀ c, ev (.const c) = c := fun c => by rw [← hev]; rfl
      have e7 : ev (.tmp 7) = .slice A3 L.length c3 := by rw [← hev]; exact eval_old (by kernel_rfl) 51 rfl (by decide) rfl
      clear hev hd
      exact .inl ⟨_, W, by go_simp, rfl, Below.refl _ _⟩
    · obtain rfl := Option.some.inj hoo
      refine .inl ⟨wanted_none rfl, ?_⟩
      generalize hev : Act.eval _ = ev
      have ec : ∀ c, ev (.const c) = c := fun c => by rw [← hev]; rfl
      have e1 : ev (.tmp 1) = .slice a1 xs.length cap1 := by rw [← hev]; exact eval_old (by kernel_rfl) 51 rfl (by decide) rfl
      clear hev hd
      exact .inl ⟨_, W, by go_simp, rfl, Below.refl _ _⟩
    · obtain rfl := Option.some.inj hoo
      have q2 : uu 2 = .slice a1 xs.length cap1 := hd 2 (by kernel_rfl)
      refine .inl ⟨wanted_none rfl, ?_⟩
      generalize hev : Act.eval _ = ev
      have ec : ∀ c, ev (.const c) = c := fun c => by rw [← hev]; rfl
      have e19 : ev (.tmp 19) = .slice a1 xs.length cap1 := by rw [← hev]; exact (eval_put (by kernel_rfl) 51 rfl (by decide)).trans q2
      clear hev hd q2
      exact .inl ⟨_, W, by go_simp, rfl, Below.refl _ _⟩
    · obtain rfl := Option.some.inj hoo
      have q1 : uu 1 = .slice A3 L.length c3 := hd 1 (by kernel_rfl)
      have q3 : uu 3 = .int .i64 (xs.length : Int) := hd 3 (by kernel_rfl)
      refine .inl ⟨wanted_none rfl, ?_⟩
      generalize hev : Act.eval _ = ev
      have ec : ∀ c, ev (.const c) = c := fun c => by rw [← hev]; rfl
      have e18 : ev (.tmp 18) = .slice A3 L.length c3 := by rw [← hev]; exact (eval_put (by kernel_rfl) 51 rfl (by decide)).trans q1
      have e20 : ev (.tmp 20) = .int .i64 (xs.length : Int) := by rw [← hev]; exact (eval_put (by kernel_rfl) 51 rfl (by decide)).trans q3
      clear hev hd q1 q3
      exact .inl ⟨.slice A3 xs.length c3, W, by go_simp, ⟨xs, A3, c3, rfl, rfl, (ra.next hVW)⟩, Below.refl _ _⟩
    · obtain rfl := Option.some.inj hoo
      have q0 : uu 0 = .agg #[.int .u64 (lo : Int), .int .u64 (hi : Int)] := hd 0 (by kernel_rfl)
      obtain ⟨L4, A4, c4, q4, HL4, r4⟩ := hd 4 (by kernel_rfl)
      refine .inl ⟨wanted_none rfl, ?_⟩
      generalize hev : Act.eval _ = ev
      have ec : ∀ c, ev (.const c) = c := fun c => by rw [← hev]; rfl
      have ef : ∀ f, ev (.func f) = .func (.func f) #[] #[] := fun f => by rw [← hev]; rfl
      have e17 : ev (.tmp 17) = .agg #[.int .u64 (lo : Int), .int .u64 (hi : Int)] := by rw [← hev]; exact (eval_put (by kernel_rfl) 51 rfl (by decide)).trans q0
      have e21 : ev (.tmp 21) = .slice A4 L4.length c4 := by rw [← hev]; exact (eval_put (by kernel_rfl) 51 rfl (by decide)).trans q4
      clear hev hd q0 q4
      exact .inr ⟨_, _, _, by go_simp, (Q1 _ _ L4 HL4.out W r4).out, fun e w' he => ⟨_, he.1, rfl, he.2⟩⟩
    · obtain rfl := Option.some.inj hoo
      have q5 : uu 5 = .int .u64 (S1 : Int) := hd 5 (by kernel_rfl)
      refine .inl ⟨wanted_none rfl, ?_⟩
      generalize hev : Act.eval _ = ev
      have ec : ∀ c, ev (.const c) = c := fun c => by rw [← hev]; rfl
      have e22 : ev (.tmp 22) = .int .u64 (S1 : Int) := by rw [← hev]; exact (eval_put (by kernel_rfl) 51 rfl (by decide)).trans q5
      clear hev hd q5
      exact .inl ⟨_, W, by go_simp, rfl, Below.refl _ _⟩
    · simp at hoo
  · intro uu W hVW hall
    have q6 : uu 6 = .int .u64 (S1 : Int) := hall 6 (by decide)
    replace hB := hB.trans (hVW.mono hB.size)
    replace ha := ha.next hVW
    replace hb := hb.next hVW
    replace rL := rL.next hVW
    replace K := K.next hVW
    clear hall HS hVW
    simp only [putAll, Act.put, Nat.reduceAdd, q6]
    simp only [List.setIfInBounds_toArray, List.set_cons_succ, List.set_cons_zero]
    clear q6
    generalize W = V2 at *
    go_wp2_with fail
    have rd := r4a V2 rL
    have HS : ∀ W, Below V2.heap.size V2 W → (W.cell? ⟨w.heap.size, 0, none⟩ = some (.int .u64 (lo : Int)) ∧ W.cell? ⟨w.heap.size, 1, none⟩ = some (.int .u64 (hi : Int))) := by
      intro W h
      obtain ⟨p0, p1, -⟩ := (K.next h).get2
      exact ⟨p0, p1⟩
    refine region_put (by kernel_rfl) (by kernel_rfl) (by kernel_rfl) 51 rfl (by kernel_rfl) V2 (fun i v W => match i with
        | 0 => v = .agg #[.int .u64 (lo : Int), .int .u64 (hi : Int)]
        | 1 => v = .slice A3 L.length c3
        | 2 => v = .slice a1 xs.length cap1
        | 3 => v = .int .i64 (xs.length : Int)
        | 4 => ∃ L A c, v = .slice A L.length c ∧ Hid (L = ys) ∧ Rd bv W W.heap.size A c L
        | 5 => v = .int .u64 (S2 : Int)
        | 6 => v = .int .u64 (S2 : Int)
        | _ => True) (Below.refl _ _) ?_ ?_ ?_
    · intro i v W W' h hb
      match i, h with
      | 0, h => exact h
      | 1, h => exact h
      | 2, h => exact h
      | 3, h => exact h
      | 4, h => obtain ⟨L, A, c, h1, h2, h3⟩ := h; exact ⟨L, A, c, h1, h2, h3.next hb⟩
      | 5, h => exact h
      | 6, h => exact h
      | _ + 7, _ => trivial
    · intro i o uu W hoo hVW hd
      rcases i with _|_|_|_|_|_|_|i
      · obtain rfl := Option.some.inj hoo
        refine .inl ⟨wanted_none rfl, ?_⟩
        generalize hev : Act.eval _ = ev
        have ec : ∀ c, ev (.const c) = c := fun c => by rw [← hev]; rfl
        have e3 : ev (.tmp 3) = .pointer (some ⟨w.heap.size, 0, none⟩) := by rw [← hev]; exact eval_old (by kernel_rfl) 51 rfl (by decide) rfl
        clear hev hd
        obtain ⟨cc0, cc1⟩ := HS W hVW
        exact .inl ⟨_, W, by go_simp, rfl, Below.refl _ _⟩
      · obtain rfl := Option.some.inj hoo
        refine .inl ⟨wanted_none rfl, ?_⟩
        generalize hev : Act.eval _ = ev
        have ec : ∀ c, ev (.const c) = c := fun c => by rw [← hev]; rfl
        have e7 : ev (.tmp 7) = .slice A3 L.length c3 := by rw [← hev]; exact eval_old (by kernel_rfl) 51 rfl (by decide) rfl
        clear hev hd
        exact .inl ⟨_, W, by go_simp, rfl, Below.refl _ _⟩
      · obtain rfl := Option.some.inj hoo
        refine .inl ⟨wanted_none rfl, ?_⟩
        generalize hev : Act.eval _ = ev
        have ec : ∀ c, ev (.const c) = c := fun c => by rw [← hev]; rfl
        have e1 : ev (.tmp 1) = .slice a1 xs.length cap1 := by rw [← hev]; exact eval_old (by kernel_rfl) 51 rfl (by decide) rfl
        clear hev hd
        exact .inl ⟨_, W, by go_simp, rfl, Below.refl _ _⟩
      · obtain rfl := Option.some.inj hoo
        have q2 : uu 2 = .slice a1 xs.length cap1 := hd 2 (by kernel_rfl)
        refine .inl ⟨wanted_none rfl, ?_⟩
        generalize hev : Act.eval _ = ev
        have ec : ∀ c, ev (.const c) = c := fun c => by rw [← hev]; rfl
        have e25 : ev (.tmp 25) = .slice a1 xs.length cap1 := by rw [← hev]; exact (eval_put (by kernel_rfl) 51 rfl (by decide)).trans q2
        clear hev hd q2
        exact .inl ⟨_, W, by go_simp, rfl, Below.refl _ _⟩
      · obtain rfl := Option.some.inj hoo
        have q1 : uu 1 = .slice A3 L.length c3 := hd 1 (by kernel_rfl)
        have q3 : uu 3 = .int .i64 (xs.length : Int) := hd 3 (by kernel_rfl)
        refine .inl ⟨wanted_none rfl, ?_⟩
        generalize hev : Act.eval _ = ev
        have ec : ∀ c, ev (.const c) = c := fun c => by rw [← hev]; rfl
        have e24 : ev (.tmp 24) = .slice A3 L.length c3 := by rw [← hev]; exact (eval_put (by kernel_rfl) 51 rfl (by decide)).trans q1
        have e26 : ev (.tmp 26) = .int .i64 (xs.length : Int) := by rw [← hev]; exact (eval_put (by kernel_rfl) 51 rfl (by decide)).trans q3
        clear hev hd q1 q3
        exact .inl ⟨.slice A4 ys.length c4, W, by go_simp, ⟨ys, A4, c4, rfl, rfl, (rd.next hVW)⟩, Below.refl _ _⟩
      · obtain rfl := Option.some.inj hoo
        have q0 : uu 0 = .agg #[.int .u64 (lo : Int), .int .u64 (hi : Int)] := hd 0 (by kernel_rfl)
        obtain ⟨L4, A4, c4, q4, HL4, r4⟩ := hd 4 (by kernel_rfl)
        refine .inl ⟨wanted_none rfl, ?_⟩
        generalize hev : Act.eval _ = ev
        have ec : ∀ c, ev (.const c) = c := fun c => by rw [← hev]; rfl
        have ef : ∀ f, ev (.func f) = .func (.func f) #[] #[] := fun f => by rw [← hev]; rfl
        have e23 : ev (.tmp 23) = .agg #[.int .u64 (lo : Int), .int .u64 (hi : Int)] := by rw [← hev]; exact (eval_put (by kernel_rfl) 51 rfl (by decide)).trans q0
        have e27 : ev (.tmp 27) = .slice A4 L4.length c4 := by rw [← hev]; exact (eval_put (by kernel_rfl) 51 rfl (by decide)).trans q4
        clear hev hd q0 q4
        exact .inr ⟨_, _, _, by go_simp, (Q2 _ _ L4 HL4.out W r4).out, fun e w' he => ⟨_, he.1, rfl, he.2⟩⟩
      · obtain rfl := Option.some.inj hoo
        have q5 : uu 5 = .int .u64 (S2 : Int) := hd 5 (by kernel_rfl)
        refine .inl ⟨wanted_none rfl, ?_⟩
        generalize hev : Act.eval _ = ev
        have ec : ∀ c, ev (.const c) = c := fun c => by rw [← hev]; rfl
        have e28 : ev (.tmp 28) = .int .u64 (S2 : Int) := by rw [← hev]; exact (eval_put (by kernel_rfl) 51 rfl (by decide)).trans q5
        clear hev hd q5
        exact .inl ⟨_, W, by go_simp, rfl, Below.refl _ _⟩
      · simp at hoo
    · intro uu W hVW hall
      have q6 : uu 6 = .int .u64 (S2 : Int) := hall 6 (by decide)
      replace hB := hB.trans (hVW.mono hB.size)
      replace ha := ha.next hVW
      replace hb := hb.next hVW
      replace rL := rL.next hVW
      replace K := K.next hVW
      clear hall HS hVW
      simp only [putAll, Act.put, Nat.reduceAdd, q6]
      simp only [List.setIfInBounds_toArray, List.set_cons_succ, List.set_cons_zero]
      clear q6
      generalize W = V3 at *
      obtain ⟨z0, z1, -⟩ := K.get2
      go_wp2_with fail
      refine (P1 _ ha).out.mono ?_
      rintro e V4 ⟨rfl, hbb⟩
      replace hB := bnext hB hbb
      replace ha := ha.next hbb
      replace hb := hb.next hbb
      replace rL := rL.next hbb
      replace K := K.next hbb
      clear hbb z0 z1
      obtain ⟨z0, z1, -⟩ := K.get2
      clear P1
      go_wp2_with fail
      refine (P2 _ hb).out.mono ?_
      rintro e V5 ⟨rfl, hbb⟩
      replace hB := bnext hB hbb
      replace ha := ha.next hbb
      replace hb := hb.next hbb
      replace rL := rL.next hbb
      replace K := K.next hbb
      clear hbb z0 z1
      obtain ⟨z0, z1, -⟩ := K.get2
      clear P2
      go_wp2_with fail
      refine (HA _ ha hb).out.mono ?_
      rintro e V6 ⟨L2, A5, c5, rfl, HL2, r5, hbb⟩
      replace hB := bnext hB hbb
      replace ha := ha.next hbb
      replace hb := hb.next hbb
      replace rL := rL.next hbb
      replace K := K.next hbb
      clear hbb z0 z1
      obtain ⟨z0, z1, -⟩ := K.get2
      go_wp2_with fail
      refine (rsame_eq _ _ _ _ L L2 _ _ rL r5 (by rw [HL.out, HL2.out])).mono ?_
      rintro e V7 ⟨rfl, hd⟩
      have hbb := hd.bel
      replace hB := bnext hB hbb
      go_wp2_with fail
      refine (lives13_any _).mono ?_
      rintro e V8 ⟨rfl, hbb⟩
      replace hB := bnext hB hbb
      go_wp2_with fail
      go_ret
      exact ⟨rfl, hB⟩
end Go.Proofs.Ytiokofpmmlbncab
