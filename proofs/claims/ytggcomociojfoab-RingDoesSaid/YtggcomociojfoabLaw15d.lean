/- The walk of RingDoes. -/
import Derived.Test.YtggcomociojfoabRing6
import Derived.Test.YtggcomociojfoabLaw15o
import Derived.Deep.RegionHeld3
namespace Go.Proofs.Ytggcomociojfoab
open Go.RowKit

theorem St.bel0 {w0 w : World} {g h G n E : Nat} (s : St w0 g h G n E w) : Below w0.heap.size w0 w := by
  obtain ⟨nx, p, r, buf, vp, vr, ps, rs, ever, work, R, Q, C, he, hb⟩ := s
  exact hb
theorem St.belowS {w0 w w' : World} {g h G n E : Nat} (s : St w0 g h G n E w) (hb : Below w.heap.size w w') : St w0 g h G n E w' := by
  obtain ⟨nx, p, r, buf, vp, vr, ps, rs, ever, work, R, Q, C, he, hb0⟩ := s
  exact ⟨nx, p, r, buf, vp, vr, ps, rs, ever, work, R.below hb, Q.next hb, C, he, bnext hb0 hb⟩
theorem ring_cells {w : World} {g n : Nat} {vp vr : Value} {ps rs : List Int} {ever work p r nx : Nat} {buf : List Int} (Q : Rr w g n vp vr ps rs ever work) (C : Co n buf nx p r ps rs ever) : w.cell? ⟨g, 0, none⟩ = some (.int .i64 (n : Int)) ∧ (∃ A c, w.cell? ⟨g, 1, none⟩ = some (.slice A p c)) ∧ ∃ A c, w.cell? ⟨g, 2, none⟩ = some (.slice A r c) := by
  obtain ⟨c0, c1, c2, -⟩ := rr_cells Q.bg
  obtain ⟨A, c, rfl, -, -⟩ := Q.op
  obtain ⟨A', c', rfl, -, -⟩ := Q.or_
  rw [C.hp] at c1
  rw [C.hr] at c2
  exact ⟨c0, ⟨A, c, c1⟩, ⟨A', c', c2⟩⟩
theorem st_new (w0 w : World) (G N : Nat) (R : Rg w (w0.heap.size + 1) w0.heap.size N (List.replicate N 0) 0 0 0) (Q : Rr w G N (.slice none 0 0) (.slice none 0 0) [] [] 0 0) (hb : Below w0.heap.size w0 w) : St w0 (w0.heap.size + 1) w0.heap.size G N 0 w :=
  ⟨0, 0, 0, _, _, _, [], [], 0, 0, R, Q, ⟨rfl, rfl, by simp, fun t ht => by omega⟩, Nat.le_refl _, hb⟩
set_option maxRecDepth 10000 in
set_option maxHeartbeats 8000000 in
theorem RingDoes_walk (a0 : Int) (a1 : Option Addr) (len1 cap1 : Nat) (a2 : Int) (w : World) (_w0 : (Lit.int .i64 a0).wf = true) (w1 : InPairs w a1 len1 cap1) (_w2 : (Lit.int .i64 a2).wf = true) :
    Calls Try.prog 5 #[.int .i64 a0, .slice a1 len1 cap1, .int .i64 a2] w fun e w' => e = .returned (.bool true) ∧ Below w.heap.size w w' := by
  obtain ⟨hlc, hcc, hat⟩ := pairs_at w1
  have HAT := Lib.hid hat
  have HN1 := Lib.hid (rnew_c a0 w)
  have HN2 := fun W => Lib.hid (rrnew_c a0 W)
  generalize clampN a0 = N at *
  clear hat w1
  go_enter Try.func5, Try.ntmps5
  go_wp2_with fail
  refine HN1.out.mono ?_
  rintro e v1 ⟨rfl, hB1, R1⟩
  go_wp2_with fail
  refine (HN2 _).out.mono ?_
  rintro e V ⟨rfl, hb, Q1⟩
  have hG1 : w.heap.size + 1 < v1.heap.size := R1.bg.lt
  have hG0 : w.heap.size < v1.heap.size := by omega
  have S0 := st_new w V v1.heap.size N (R1.below hb) Q1 (bnext hB1 hb)
  have hN1 := R1.n1
  have RV := R1.below hb
  have HSZ := fun W (h : Below V.heap.size V W) => Lib.hid (rsize_any (RV.below h))
  have HCC : ∀ W, Below V.heap.size V W → (W.cell? ⟨v1.heap.size, 0, none⟩ = some (.int .i64 (N : Int)) ∧ W.cell? ⟨v1.heap.size, 3, none⟩ = some (.int .i64 0)) := fun W h => ⟨(Q1.bg.next h).cell 0, (Q1.bg.next h).cell 3⟩
  clear HN1 HN2 hB1 hb R1 Q1 RV
  generalize v1.heap.size = G at *
  go_wp2_with fail
  refine region_put (by kernel_rfl) (by kernel_rfl) (by kernel_rfl) 176 rfl (by kernel_rfl) V (fun i v W => match i with
      | 0 => v = .pointer (some ⟨w.heap.size + 1, 0, none⟩)
      | 1 => v = .bool false
      | 2 => v = .bool false
      | 3 => v = .pointer (some ⟨w.heap.size + 1, 0, none⟩)
      | 4 => v = .int .i64 (N : Int)
      | 5 => v = .pointer (some ⟨G, 0, none⟩)
      | 6 => v = .pointer (some ⟨G, 0, none⟩)
      | 7 => v = .pointer (some ⟨G, 0, none⟩)
      | 8 => v = .int .i64 (N : Int)
      | 9 => v = .bool false
      | 10 => v = .bool false
      | _ => True) (Below.refl _ _) ?_ ?_ ?_
  · intro i v W W' h hb
    match i, h with
    | 0, h => exact h
    | 1, h => exact h
    | 2, h => exact h
    | 3, h => exact h
    | 4, h => exact h
    | 5, h => exact h
    | 6, h => exact h
    | 7, h => exact h
    | 8, h => exact h
    | 9, h => exact h
    | 10, h => exact h
    | _ + 11, _ => trivial
  · intro i o uu W hoo hVW hd
    rcases i with _|_|_|_|_|_|_|_|_|_|_|i
    · obtain rfl := Option.some.inj hoo
      refine .inl ⟨wanted_none rfl, ?_⟩
      generalize hev : Act.eval _ = ev
      have ec : ∀ c, ev (.const c) = c := fun c => by rw [← hev]; rfl
      have e7 : ev (.tmp 7) = .pointer (some ⟨w.heap.size + 1, 0, none⟩) := by rw [← hev]; exact eval_old (by kernel_rfl) 176 rfl (by decide) rfl
      clear hev hd
      exact .inl ⟨_, W, by go_simp, rfl, Below.refl _ _⟩
    · obtain rfl := Option.some.inj hoo
      have q0 : uu 0 = .pointer (some ⟨w.heap.size + 1, 0, none⟩) := hd 0 (by kernel_rfl)
      refine .inl ⟨wanted_none rfl, ?_⟩
      generalize hev : Act.eval _ = ev
      have ec : ∀ c, ev (.const c) = c := fun c => by rw [← hev]; rfl
      have e22 : ev (.tmp 22) = .pointer (some ⟨w.heap.size + 1, 0, none⟩) := by rw [← hev]; exact (eval_put (by kernel_rfl) 176 rfl (by decide)).trans q0
      clear hev hd q0
      exact .inl ⟨_, W, by go_simp, rfl, Below.refl _ _⟩
    · obtain rfl := Option.some.inj hoo
      have q1 : uu 1 = .bool false := hd 1 (by kernel_rfl)
      refine .inl ⟨wanted_none rfl, ?_⟩
      generalize hev : Act.eval _ = ev
      have ec : ∀ c, ev (.const c) = c := fun c => by rw [← hev]; rfl
      have e23 : ev (.tmp 23) = .bool false := by rw [← hev]; exact (eval_put (by kernel_rfl) 176 rfl (by decide)).trans q1
      clear hev hd q1
      exact .inl ⟨_, W, by go_simp, rfl, Below.refl _ _⟩
    · obtain rfl := Option.some.inj hoo
      have q2 : uu 2 = .bool false := hd 2 (by kernel_rfl)
      refine .inl ⟨wanted_yes rfl (yielded_put (k := 24) (by kernel_rfl) (by kernel_rfl) 176 rfl (by decide) q2), ?_⟩
      generalize hev : Act.eval _ = ev
      have ec : ∀ c, ev (.const c) = c := fun c => by rw [← hev]; rfl
      have e7 : ev (.tmp 7) = .pointer (some ⟨w.heap.size + 1, 0, none⟩) := by rw [← hev]; exact eval_old (by kernel_rfl) 176 rfl (by decide) rfl
      clear hev hd q2
      exact .inl ⟨_, W, by go_simp, rfl, Below.refl _ _⟩
    · obtain rfl := Option.some.inj hoo
      have q3 : uu 3 = .pointer (some ⟨w.heap.size + 1, 0, none⟩) := hd 3 (by kernel_rfl)
      have q2 : uu 2 = .bool false := hd 2 (by kernel_rfl)
      refine .inl ⟨wanted_yes rfl (yielded_put (k := 24) (by kernel_rfl) (by kernel_rfl) 176 rfl (by decide) q2), ?_⟩
      generalize hev : Act.eval _ = ev
      have ec : ∀ c, ev (.const c) = c := fun c => by rw [← hev]; rfl
      have ef : ∀ f, ev (.func f) = .func (.func f) #[] #[] := fun f => by rw [← hev]; rfl
      have e25 : ev (.tmp 25) = .pointer (some ⟨w.heap.size + 1, 0, none⟩) := by rw [← hev]; exact (eval_put (by kernel_rfl) 176 rfl (by decide)).trans q3
      clear hev hd q3 q2
      exact .inr ⟨_, _, _, by go_simp, (HSZ W hVW).out, fun e w' he => ⟨_, he.1, rfl, he.2 ▸ Below.refl _ _⟩⟩
    · obtain rfl := Option.some.inj hoo
      have q2 : uu 2 = .bool false := hd 2 (by kernel_rfl)
      refine .inl ⟨wanted_yes rfl (yielded_put (k := 24) (by kernel_rfl) (by kernel_rfl) 176 rfl (by decide) q2), ?_⟩
      generalize hev : Act.eval _ = ev
      have ec : ∀ c, ev (.const c) = c := fun c => by rw [← hev]; rfl
      have e8 : ev (.tmp 8) = .pointer (some ⟨G, 0, none⟩) := by rw [← hev]; exact eval_old (by kernel_rfl) 176 rfl (by decide) rfl
      clear hev hd q2
      exact .inl ⟨_, W, by go_simp, rfl, Below.refl _ _⟩
    · obtain rfl := Option.some.inj hoo
      have q5 : uu 5 = .pointer (some ⟨G, 0, none⟩) := hd 5 (by kernel_rfl)
      have q2 : uu 2 = .bool false := hd 2 (by kernel_rfl)
      refine .inl ⟨wanted_yes rfl (yielded_put (k := 24) (by kernel_rfl) (by kernel_rfl) 176 rfl (by decide) q2), ?_⟩
      generalize hev : Act.eval _ = ev
      have ec : ∀ c, ev (.const c) = c := fun c => by rw [← hev]; rfl
      have e27 : ev (.tmp 27) = .pointer (some ⟨G, 0, none⟩) := by rw [← hev]; exact (eval_put (by kernel_rfl) 176 rfl (by decide)).trans q5
      clear hev hd q5 q2
      exact .inl ⟨_, W, by go_simp, rfl, Below.refl _ _⟩
    · obtain rfl := Option.some.inj hoo
      have q6 : uu 6 = .pointer (some ⟨G, 0, none⟩) := hd 6 (by kernel_rfl)
      have q2 : uu 2 = .bool false := hd 2 (by kernel_rfl)
      refine .inl ⟨wanted_yes rfl (yielded_put (k := 24) (by kernel_rfl) (by kernel_rfl) 176 rfl (by decide) q2), ?_⟩
      generalize hev : Act.eval _ = ev
      have ec : ∀ c, ev (.const c) = c := fun c => by rw [← hev]; rfl
      have e28 : ev (.tmp 28) = .pointer (some ⟨G, 0, none⟩) := by rw [← hev]; exact (eval_put (by kernel_rfl) 176 rfl (by decide)).trans q6
      clear hev hd q6 q2
      exact .inl ⟨_, W, by go_simp, rfl, Below.refl _ _⟩
    · obtain rfl := Option.some.inj hoo
      have q7 : uu 7 = .pointer (some ⟨G, 0, none⟩) := hd 7 (by kernel_rfl)
      have q2 : uu 2 = .bool false := hd 2 (by kernel_rfl)
      refine .inl ⟨wanted_yes rfl (yielded_put (k := 24) (by kernel_rfl) (by kernel_rfl) 176 rfl (by decide) q2), ?_⟩
      generalize hev : Act.eval _ = ev
      have ec : ∀ c, ev (.const c) = c := fun c => by rw [← hev]; rfl
      have e29 : ev (.tmp 29) = .pointer (some ⟨G, 0, none⟩) := by rw [← hev]; exact (eval_put (by kernel_rfl) 176 rfl (by decide)).trans q7
      clear hev hd q7 q2
      obtain ⟨cc0, cc1⟩ := HCC W hVW
      exact .inl ⟨_, W, by go_simp, rfl, Below.refl _ _⟩
    · obtain rfl := Option.some.inj hoo
      have q4 : uu 4 = .int .i64 (N : Int) := hd 4 (by kernel_rfl)
      have q8 : uu 8 = .int .i64 (N : Int) := hd 8 (by kernel_rfl)
      have q2 : uu 2 = .bool false := hd 2 (by kernel_rfl)
      refine .inl ⟨wanted_yes rfl (yielded_put (k := 24) (by kernel_rfl) (by kernel_rfl) 176 rfl (by decide) q2), ?_⟩
      generalize hev : Act.eval _ = ev
      have ec : ∀ c, ev (.const c) = c := fun c => by rw [← hev]; rfl
      have e26 : ev (.tmp 26) = .int .i64 (N : Int) := by rw [← hev]; exact (eval_put (by kernel_rfl) 176 rfl (by decide)).trans q4
      have e30 : ev (.tmp 30) = .int .i64 (N : Int) := by rw [← hev]; exact (eval_put (by kernel_rfl) 176 rfl (by decide)).trans q8
      clear hev hd q4 q8 q2
      exact .inl ⟨_, W, by go_simp, rfl, Below.refl _ _⟩
    · obtain rfl := Option.some.inj hoo
      have q2 : uu 2 = .bool false := hd 2 (by kernel_rfl)
      have q9 : uu 9 = .bool false := hd 9 (by kernel_rfl)
      refine .inl ⟨wanted_none rfl, ?_⟩
      generalize hev : Act.eval _ = ev
      have ec : ∀ c, ev (.const c) = c := fun c => by rw [← hev]; rfl
      have e24 : ev (.tmp 24) = .bool false := by rw [← hev]; exact (eval_put (by kernel_rfl) 176 rfl (by decide)).trans q2
      have e31 : ev (.tmp 31) = .bool false := by rw [← hev]; exact (eval_put (by kernel_rfl) 176 rfl (by decide)).trans q9
      clear hev hd q2 q9
      exact .inl ⟨_, W, by go_simp, rfl, Below.refl _ _⟩
    · simp at hoo
  · intro uu W hVW hall
    have q10 : uu 10 = .bool false := hall 10 (by decide)
    replace S0 := S0.belowS hVW
    clear hall HCC hVW
    simp only [putAll, Act.put, Nat.reduceAdd, q10]
    simp only [List.setIfInBounds_toArray, List.set_cons_succ, List.set_cons_zero]
    clear q10
    generalize W = V2 at *
    go_wp2_with fail
    clear HSZ
    have hE : 0 ≤ 0 := Nat.le_refl _
    go_loopw [9, 10, 11, 12, 13, 14, 15, 16, 17] (fun i _ _ _ _ _ _ _ _ wr => ∃ j : Nat, j ≤ len1 ∧ j ≤ 80 ∧ i = .int .i64 j ∧ St w (w.heap.size + 1) w.heap.size G N j wr) (fun i _ _ _ _ _ _ _ _ _ => 80 - (intOf i).toNat)
    case atStart => exact ⟨0, by omega, by omega, rfl, S0⟩
    case round =>
      obtain ⟨j, hj, hj80, rfl, S⟩ := hrel
      have hbw := S.bel0
      by_cases hlt : j < len1
      · by_cases hlt80 : j < 80
        · obtain ⟨b, off, rfl, hbl, k, kn, c0, c1, -, -⟩ := HAT.out j hlt
          have c0w := (hbw.cell (p := ⟨b, off + j * 2, none⟩) hbl).trans c0
          have c1w := (hbw.cell (p := ⟨b, off + j * 2 + 1, none⟩) hbl).trans c1
          have hn1 : w.heap.size ≤ w.heap.size + 1 := Nat.le_succ _
          have hq1 : (j : Int) < (len1 : Int) := by omega
          by_cases k0 : k = 0
          · subst k0
            obtain ⟨bb, M, hA, hMb, hB⟩ := post_both (S.belowS (Below.refl _ _).drew) (by omega) (Nat.le_refl _) hn1 hG1 hG0 kn
            have HA := Lib.hid hA
            have HMB := Lib.hid hMb
            have HB := Lib.hid hB
            have HS0 := Lib.hid S
            clear hA hMb hB S c0
            go_wp2_with fail
            go_region_held3 (fun W => W.cell? ⟨b, off + j * 2 + 1, none⟩ = some (.int .i64 kn)) (first | exact c1w | exact c1y | exact c1x) (first | (go_at_call 21; go_split_ands; (with_reducible refine HA.out.mono ?_); rintro e wx ⟨rfl, hM⟩; have hbx := HMB.out wx hM; have c1x := (hbx.cell (p := ⟨b, off + j * 2 + 1, none⟩) hbl).trans c1) | (go_at_call 22; go_split_ands; (with_reducible refine (HB.out wx hM).mono ?_); rintro e wq ⟨rfl, hS⟩; have HS := Lib.hid hS; have c1y := (hS.bel0.cell (p := ⟨b, off + j * 2 + 1, none⟩) hbl).trans c1) | fail)
            clear c1x c1y hbx hM HA HB HMB HS0 c0w c1w hS
            have hbq : Below w.heap.size w wq := HS.out.bel0
            obtain ⟨xn, bn, hnext⟩ := next_both HS.out
            obtain ⟨nx, p, r, buf, vp, vr, ps, rs, ever, work, R, Q, C, -, -⟩ := HS.out
            have HC := fun W (hd : Drawn wq W) => Lib.hid (ring_cells (Q.drawn hd) C)
            have hpr := R.prn
            obtain ⟨m, hm⟩ : ∃ m, N - p - r = m := ⟨_, rfl⟩
            have f1 : (N : Int) - (p : Int) - (r : Int) = (m : Int) := by omega
            have f3 : (N : Int) - (p : Int) = ((N - p : Nat) : Int) := by omega
            have f4 : IntKind.i64.wrap ((N - p : Nat) : Int) = ((N - p : Nat) : Int) := by rw [IntKind.wrap_i64]; have := R.n64; omega
            have f5 : ((N - p : Nat) : Int) - (r : Int) = (m : Int) := by omega
            have f6 : IntKind.i64.wrap (m : Int) = (m : Int) := by rw [IntKind.wrap_i64]; have := R.n64; omega
            obtain ⟨np, hnp⟩ : ∃ np, N - p = np := ⟨_, rfl⟩
            rw [hnp] at f3 f4 f5
            clear f1
            go_wp2_with fail
            refine ((hnext _ (Drawn.refl _)).1).out.mono ?_
            rintro e v1 ⟨rfl, hd1⟩
            go_wp2_with fail
            refine ((hnext _ hd1).2).out.mono ?_
            rintro e v2 ⟨rfl, rfl⟩
            clear hnext
            obtain ⟨g0, ⟨A1, d1, g1⟩, ⟨A2, d2, g2⟩⟩ := (HC _ hd1).out
            have HS1 := Lib.hid (HS.out.drawn hd1)
            have RV := R.drawn hd1
            have QG := (Q.drawn hd1).bg.lt
            have cI := (hd1.below (B := w.heap.size)).cell (p := ⟨b, off + j * 2 + 1, none⟩) hbl |>.trans ((hbq.cell (p := ⟨b, off + j * 2 + 1, none⟩) hbl).trans c1)
            have hbv : b < v1.heap.size := Nat.lt_of_lt_of_le hbl HS1.out.bel0.size
            clear R Q C HC hd1 hbq HS
            obtain ⟨b1, hown1⟩ := own_bel HS1.out a2
            obtain ⟨b2, hown2⟩ := own_bel HS1.out kn
            have T1 := fun W (h : Below v1.heap.size v1 W) => Lib.hid (rposted_any (RV.below h))
            have T2 := fun W (h : Below v1.heap.size v1 W) => Lib.hid (rready_any (RV.below h))
            have T3 := fun W (h : Below v1.heap.size v1 W) => Lib.hid (rroom_any (RV.below h))
            rw [hm] at T3
            have HCC : ∀ W, Below v1.heap.size v1 W → (W.cell? ⟨G, 0, none⟩ = some (.int .i64 (N : Int)) ∧ W.cell? ⟨G, 1, none⟩ = some (.slice A1 p d1) ∧ W.cell? ⟨G, 2, none⟩ = some (.slice A2 r d2) ∧ W.cell? ⟨b, off + j * 2 + 1, none⟩ = some (.int .i64 kn)) := by
              intro W h
              exact ⟨(h.cell (p := ⟨G, 0, none⟩) QG).trans g0, (h.cell (p := ⟨G, 1, none⟩) QG).trans g1, (h.cell (p := ⟨G, 2, none⟩) QG).trans g2, (h.cell (p := ⟨b, off + j * 2 + 1, none⟩) hbv).trans cI⟩
            have HF := Lib.hid (And.intro f3 (And.intro f4 (And.intro f5 f6)))
            clear RV hm hnp hpr g0 g1 g2 cI hbv QG f3 f4 f5 f6
            go_wp2_with fail
            refine region_put (by kernel_rfl) (by kernel_rfl) (by kernel_rfl) 176 rfl (by kernel_rfl) v1 (fun i v W => match i with
                | 0 => v = .int .i64 xn
                | 1 => v = .int .i64 xn
                | 2 => v = .bool false
                | 3 => v = .bool false
                | 4 => v = .bool bn
                | 5 => v = .bool bn
                | 6 => v = .bool false
                | 7 => v = .bool false
                | 8 => v = .bool false
                | 9 => v = .pointer (some ⟨w.heap.size + 1, 0, none⟩)
                | 10 => v = .int .i64 (p : Int)
                | 11 => v = .pointer (some ⟨G, 0, none⟩)
                | 12 => v = .pointer (some ⟨G, 0, none⟩)
                | 13 => v = .pointer (some ⟨G, 1, none⟩)
                | 14 => v = .slice A1 p d1
                | 15 => v = .int .i64 (p : Int)
                | 16 => v = .bool false
                | 17 => v = .bool false
                | 18 => v = .bool false
                | 19 => v = .pointer (some ⟨w.heap.size + 1, 0, none⟩)
                | 20 => v = .int .i64 (r : Int)
                | 21 => v = .pointer (some ⟨G, 0, none⟩)
                | 22 => v = .pointer (some ⟨G, 0, none⟩)
                | 23 => v = .pointer (some ⟨G, 2, none⟩)
                | 24 => v = .slice A2 r d2
                | 25 => v = .int .i64 (r : Int)
                | 26 => v = .bool false
                | 27 => v = .bool false
                | 28 => v = .bool false
                | 29 => v = .pointer (some ⟨w.heap.size + 1, 0, none⟩)
                | 30 => v = .int .i64 (m : Int)
                | 31 => v = .pointer (some ⟨G, 0, none⟩)
                | 32 => v = .pointer (some ⟨G, 0, none⟩)
                | 33 => v = .pointer (some ⟨G, 0, none⟩)
                | 34 => v = .int .i64 (N : Int)
                | 35 => v = .pointer (some ⟨G, 0, none⟩)
                | 36 => v = .pointer (some ⟨G, 0, none⟩)
                | 37 => v = .pointer (some ⟨G, 1, none⟩)
                | 38 => v = .slice A1 p d1
                | 39 => v = .int .i64 (p : Int)
                | 40 => v = .int .i64 (np : Int)
                | 41 => v = .pointer (some ⟨G, 0, none⟩)
                | 42 => v = .pointer (some ⟨G, 0, none⟩)
                | 43 => v = .pointer (some ⟨G, 2, none⟩)
                | 44 => v = .slice A2 r d2
                | 45 => v = .int .i64 (r : Int)
                | 46 => v = .int .i64 (m : Int)
                | 47 => v = .bool false
                | 48 => v = .bool false
                | 49 => v = .bool false
                | 50 => v = .pointer (some ⟨w.heap.size + 1, 0, none⟩)
                | 51 => v = .int .i64 a2
                | 52 => v = .bool b1
                | 53 => v = .pointer (some ⟨G, 0, none⟩)
                | 54 => v = .int .i64 a2
                | 55 => v = .bool b1
                | 56 => v = .bool false
                | 57 => v = .bool false
                | 58 => v = .bool false
                | 59 => v = .pointer (some ⟨w.heap.size + 1, 0, none⟩)
                | 60 => v = .slice (some ⟨b, off, none⟩) len1 cap1
                | 61 => v = .int .i64 (j : Int)
                | 62 => v = .pointer (some ⟨b, off + j * 2, none⟩)
                | 63 => v = .pointer (some ⟨b, off + j * 2 + 1, none⟩)
                | 64 => v = .int .i64 kn
                | 65 => v = .bool b2
                | 66 => v = .pointer (some ⟨G, 0, none⟩)
                | 67 => v = .slice (some ⟨b, off, none⟩) len1 cap1
                | 68 => v = .int .i64 (j : Int)
                | 69 => v = .pointer (some ⟨b, off + j * 2, none⟩)
                | 70 => v = .pointer (some ⟨b, off + j * 2 + 1, none⟩)
                | 71 => v = .int .i64 kn
                | 72 => v = .bool b2
                | 73 => v = .bool false
                | 74 => v = .bool false
                | _ => True) (Below.refl _ _) ?_ ?_ ?_
            · intro i v W W' h hb
              match i, h with
              | 0, h => exact h
              | 1, h => exact h
              | 2, h => exact h
              | 3, h => exact h
              | 4, h => exact h
              | 5, h => exact h
              | 6, h => exact h
              | 7, h => exact h
              | 8, h => exact h
              | 9, h => exact h
              | 10, h => exact h
              | 11, h => exact h
              | 12, h => exact h
              | 13, h => exact h
              | 14, h => exact h
              | 15, h => exact h
              | 16, h => exact h
              | 17, h => exact h
              | 18, h => exact h
              | 19, h => exact h
              | 20, h => exact h
              | 21, h => exact h
              | 22, h => exact h
              | 23, h => exact h
              | 24, h => exact h
              | 25, h => exact h
              | 26, h => exact h
              | 27, h => exact h
              | 28, h => exact h
              | 29, h => exact h
              | 30, h => exact h
              | 31, h => exact h
              | 32, h => exact h
              | 33, h => exact h
              | 34, h => exact h
              | 35, h => exact h
              | 36, h => exact h
              | 37, h => exact h
              | 38, h => exact h
              | 39, h => exact h
              | 40, h => exact h
              | 41, h => exact h
              | 42, h => exact h
              | 43, h => exact h
              | 44, h => exact h
              | 45, h => exact h
              | 46, h => exact h
              | 47, h => exact h
              | 48, h => exact h
              | 49, h => exact h
              | 50, h => exact h
              | 51, h => exact h
              | 52, h => exact h
              | 53, h => exact h
              | 54, h => exact h
              | 55, h => exact h
              | 56, h => exact h
              | 57, h => exact h
              | 58, h => exact h
              | 59, h => exact h
              | 60, h => exact h
              | 61, h => exact h
              | 62, h => exact h
              | 63, h => exact h
              | 64, h => exact h
              | 65, h => exact h
              | 66, h => exact h
              | 67, h => exact h
              | 68, h => exact h
              | 69, h => exact h
              | 70, h => exact h
              | 71, h => exact h
              | 72, h => exact h
              | 73, h => exact h
              | 74, h => exact h
              | _ + 75, _ => trivial
            · intro i o uu W hoo hVW hd
              rcases i with _|_|_|_|_|_|_|_|_|_|_|_|_|_|_|_|_|_|_|_|_|_|_|_|_|_|_|_|_|_|_|_|_|_|_|_|_|_|_|_|_|_|_|_|_|_|_|_|_|_|_|_|_|_|_|_|_|_|_|_|_|_|_|_|_|_|_|_|_|_|_|_|_|_|_|i
              · obtain rfl := Option.some.inj hoo
                refine .inl ⟨wanted_none rfl, ?_⟩
                generalize hev : Act.eval _ = ev
                have ec : ∀ c, ev (.const c) = c := fun c => by rw [← hev]; rfl
                have e14 : ev (.tmp 14) = .int .i64 xn := by rw [← hev]; exact eval_old (by kernel_rfl) 176 rfl (by decide) rfl
                clear hev hd
                exact .inl ⟨_, W, by go_simp, rfl, Below.refl _ _⟩
              · obtain rfl := Option.some.inj hoo
                refine .inl ⟨wanted_none rfl, ?_⟩
                generalize hev : Act.eval _ = ev
                have ec : ∀ c, ev (.const c) = c := fun c => by rw [← hev]; rfl
                have e16 : ev (.tmp 16) = .int .i64 xn := by rw [← hev]; exact eval_old (by kernel_rfl) 176 rfl (by decide) rfl
                clear hev hd
                exact .inl ⟨_, W, by go_simp, rfl, Below.refl _ _⟩
              · obtain rfl := Option.some.inj hoo
                have q0 : uu 0 = .int .i64 xn := hd 0 (by kernel_rfl)
                have q1 : uu 1 = .int .i64 xn := hd 1 (by kernel_rfl)
                refine .inl ⟨wanted_none rfl, ?_⟩
                generalize hev : Act.eval _ = ev
                have ec : ∀ c, ev (.const c) = c := fun c => by rw [← hev]; rfl
                have e100 : ev (.tmp 100) = .int .i64 xn := by rw [← hev]; exact (eval_put (by kernel_rfl) 176 rfl (by decide)).trans q0
                have e101 : ev (.tmp 101) = .int .i64 xn := by rw [← hev]; exact (eval_put (by kernel_rfl) 176 rfl (by decide)).trans q1
                clear hev hd q0 q1
                exact .inl ⟨_, W, by go_simp, rfl, Below.refl _ _⟩
              · obtain rfl := Option.some.inj hoo
                have q2 : uu 2 = .bool false := hd 2 (by kernel_rfl)
                refine .inl ⟨wanted_none rfl, ?_⟩
                generalize hev : Act.eval _ = ev
                have ec : ∀ c, ev (.const c) = c := fun c => by rw [← hev]; rfl
                have e102 : ev (.tmp 102) = .bool false := by rw [← hev]; exact (eval_put (by kernel_rfl) 176 rfl (by decide)).trans q2
                clear hev hd q2
                exact .inl ⟨_, W, by go_simp, rfl, Below.refl _ _⟩
              · obtain rfl := Option.some.inj hoo
                have q3 : uu 3 = .bool false := hd 3 (by kernel_rfl)
                refine .inl ⟨wanted_yes rfl (yielded_put (k := 103) (by kernel_rfl) (by kernel_rfl) 176 rfl (by decide) q3), ?_⟩
                generalize hev : Act.eval _ = ev
                have ec : ∀ c, ev (.const c) = c := fun c => by rw [← hev]; rfl
                have e15 : ev (.tmp 15) = .bool bn := by rw [← hev]; exact eval_old (by kernel_rfl) 176 rfl (by decide) rfl
                clear hev hd q3
                exact .inl ⟨_, W, by go_simp, rfl, Below.refl _ _⟩
              · obtain rfl := Option.some.inj hoo
                have q3 : uu 3 = .bool false := hd 3 (by kernel_rfl)
                refine .inl ⟨wanted_yes rfl (yielded_put (k := 103) (by kernel_rfl) (by kernel_rfl) 176 rfl (by decide) q3), ?_⟩
                generalize hev : Act.eval _ = ev
                have ec : ∀ c, ev (.const c) = c := fun c => by rw [← hev]; rfl
                have e17 : ev (.tmp 17) = .bool bn := by rw [← hev]; exact eval_old (by kernel_rfl) 176 rfl (by decide) rfl
                clear hev hd q3
                exact .inl ⟨_, W, by go_simp, rfl, Below.refl _ _⟩
              · obtain rfl := Option.some.inj hoo
                have q4 : uu 4 = .bool bn := hd 4 (by kernel_rfl)
                have q5 : uu 5 = .bool bn := hd 5 (by kernel_rfl)
                have q3 : uu 3 = .bool false := hd 3 (by kernel_rfl)
                refine .inl ⟨wanted_yes rfl (yielded_put (k := 103) (by kernel_rfl) (by kernel_rfl) 176 rfl (by decide) q3), ?_⟩
                generalize hev : Act.eval _ = ev
                have ec : ∀ c, ev (.const c) = c := fun c => by rw [← hev]; rfl
                have e104 : ev (.tmp 104) = .bool bn := by rw [← hev]; exact (eval_put (by kernel_rfl) 176 rfl (by decide)).trans q4
                have e105 : ev (.tmp 105) = .bool bn := by rw [← hev]; exact (eval_put (by kernel_rfl) 176 rfl (by decide)).trans q5
                clear hev hd q4 q5 q3
                exact .inl ⟨_, W, by go_simp, rfl, Below.refl _ _⟩
              · obtain rfl := Option.some.inj hoo
                have q3 : uu 3 = .bool false := hd 3 (by kernel_rfl)
                have q6 : uu 6 = .bool false := hd 6 (by kernel_rfl)
                refine .inl ⟨wanted_none rfl, ?_⟩
                generalize hev : Act.eval _ = ev
                have ec : ∀ c, ev (.const c) = c := fun c => by rw [← hev]; rfl
                have e103 : ev (.tmp 103) = .bool false := by rw [← hev]; exact (eval_put (by kernel_rfl) 176 rfl (by decide)).trans q3
                have e106 : ev (.tmp 106) = .bool false := by rw [← hev]; exact (eval_put (by kernel_rfl) 176 rfl (by decide)).trans q6
                clear hev hd q3 q6
                exact .inl ⟨_, W, by go_simp, rfl, Below.refl _ _⟩
              · obtain rfl := Option.some.inj hoo
                have q7 : uu 7 = .bool false := hd 7 (by kernel_rfl)
                refine .inl ⟨wanted_none rfl, ?_⟩
                generalize hev : Act.eval _ = ev
                have ec : ∀ c, ev (.const c) = c := fun c => by rw [← hev]; rfl
                have e107 : ev (.tmp 107) = .bool false := by rw [← hev]; exact (eval_put (by kernel_rfl) 176 rfl (by decide)).trans q7
                clear hev hd q7
                exact .inl ⟨_, W, by go_simp, rfl, Below.refl _ _⟩
              · obtain rfl := Option.some.inj hoo
                have q8 : uu 8 = .bool false := hd 8 (by kernel_rfl)
                refine .inl ⟨wanted_yes rfl (yielded_put (k := 108) (by kernel_rfl) (by kernel_rfl) 176 rfl (by decide) q8), ?_⟩
                generalize hev : Act.eval _ = ev
                have ec : ∀ c, ev (.const c) = c := fun c => by rw [← hev]; rfl
                have e7 : ev (.tmp 7) = .pointer (some ⟨w.heap.size + 1, 0, none⟩) := by rw [← hev]; exact eval_old (by kernel_rfl) 176 rfl (by decide) rfl
                clear hev hd q8
                exact .inl ⟨_, W, by go_simp, rfl, Below.refl _ _⟩
              · obtain rfl := Option.some.inj hoo
                have q9 : uu 9 = .pointer (some ⟨w.heap.size + 1, 0, none⟩) := hd 9 (by kernel_rfl)
                have q8 : uu 8 = .bool false := hd 8 (by kernel_rfl)
                refine .inl ⟨wanted_yes rfl (yielded_put (k := 108) (by kernel_rfl) (by kernel_rfl) 176 rfl (by decide) q8), ?_⟩
                generalize hev : Act.eval _ = ev
                have ec : ∀ c, ev (.const c) = c := fun c => by rw [← hev]; rfl
                have ef : ∀ f, ev (.func f) = .func (.func f) #[] #[] := fun f => by rw [← hev]; rfl
                have e109 : ev (.tmp 109) = .pointer (some ⟨w.heap.size + 1, 0, none⟩) := by rw [← hev]; exact (eval_put (by kernel_rfl) 176 rfl (by decide)).trans q9
                clear hev hd q9 q8
                exact .inr ⟨_, _, _, by go_simp, (T1 W hVW).out, fun e w' he => ⟨_, he.1, rfl, he.2 ▸ Below.refl _ _⟩⟩
              · obtain rfl := Option.some.inj hoo
                have q8 : uu 8 = .bool false := hd 8 (by kernel_rfl)
                refine .inl ⟨wanted_yes rfl (yielded_put (k := 108) (by kernel_rfl) (by kernel_rfl) 176 rfl (by decide) q8), ?_⟩
                generalize hev : Act.eval _ = ev
                have ec : ∀ c, ev (.const c) = c := fun c => by rw [← hev]; rfl
                have e8 : ev (.tmp 8) = .pointer (some ⟨G, 0, none⟩) := by rw [← hev]; exact eval_old (by kernel_rfl) 176 rfl (by decide) rfl
                clear hev hd q8
                exact .inl ⟨_, W, by go_simp, rfl, Below.refl _ _⟩
              · obtain rfl := Option.some.inj hoo
                have q11 : uu 11 = .pointer (some ⟨G, 0, none⟩) := hd 11 (by kernel_rfl)
                have q8 : uu 8 = .bool false := hd 8 (by kernel_rfl)
                refine .inl ⟨wanted_yes rfl (yielded_put (k := 108) (by kernel_rfl) (by kernel_rfl) 176 rfl (by decide) q8), ?_⟩
                generalize hev : Act.eval _ = ev
                have ec : ∀ c, ev (.const c) = c := fun c => by rw [← hev]; rfl
                have e111 : ev (.tmp 111) = .pointer (some ⟨G, 0, none⟩) := by rw [← hev]; exact (eval_put (by kernel_rfl) 176 rfl (by decide)).trans q11
                clear hev hd q11 q8
                exact .inl ⟨_, W, by go_simp, rfl, Below.refl _ _⟩
              · obtain rfl := Option.some.inj hoo
                have q12 : uu 12 = .pointer (some ⟨G, 0, none⟩) := hd 12 (by kernel_rfl)
                have q8 : uu 8 = .bool false := hd 8 (by kernel_rfl)
                refine .inl ⟨wanted_yes rfl (yielded_put (k := 108) (by kernel_rfl) (by kernel_rfl) 176 rfl (by decide) q8), ?_⟩
                generalize hev : Act.eval _ = ev
                have ec : ∀ c, ev (.const c) = c := fun c => by rw [← hev]; rfl
                have e112 : ev (.tmp 112) = .pointer (some ⟨G, 0, none⟩) := by rw [← hev]; exact (eval_put (by kernel_rfl) 176 rfl (by decide)).trans q12
                clear hev hd q12 q8
                exact .inl ⟨_, W, by go_simp, rfl, Below.refl _ _⟩
              · obtain rfl := Option.some.inj hoo
                have q13 : uu 13 = .pointer (some ⟨G, 1, none⟩) := hd 13 (by kernel_rfl)
                have q8 : uu 8 = .bool false := hd 8 (by kernel_rfl)
                refine .inl ⟨wanted_yes rfl (yielded_put (k := 108) (by kernel_rfl) (by kernel_rfl) 176 rfl (by decide) q8), ?_⟩
                generalize hev : Act.eval _ = ev
                have ec : ∀ c, ev (.const c) = c := fun c => by rw [← hev]; rfl
                have e113 : ev (.tmp 113) = .pointer (some ⟨G, 1, none⟩) := by rw [← hev]; exact (eval_put (by kernel_rfl) 176 rfl (by decide)).trans q13
                clear hev hd q13 q8
                obtain ⟨cc0, cc1, cc2, cc3⟩ := HCC W hVW
                exact .inl ⟨_, W, by go_simp, rfl, Below.refl _ _⟩
              · obtain rfl := Option.some.inj hoo
                have q14 : uu 14 = .slice A1 p d1 := hd 14 (by kernel_rfl)
                have q8 : uu 8 = .bool false := hd 8 (by kernel_rfl)
                refine .inl ⟨wanted_yes rfl (yielded_put (k := 108) (by kernel_rfl) (by kernel_rfl) 176 rfl (by decide) q8), ?_⟩
                generalize hev : Act.eval _ = ev
                have ec : ∀ c, ev (.const c) = c := fun c => by rw [← hev]; rfl
                have e114 : ev (.tmp 114) = .slice A1 p d1 := by rw [← hev]; exact (eval_put (by kernel_rfl) 176 rfl (by decide)).trans q14
                clear hev hd q14 q8
                exact .inl ⟨_, W, by go_simp, rfl, Below.refl _ _⟩
              · obtain rfl := Option.some.inj hoo
                have q10 : uu 10 = .int .i64 (p : Int) := hd 10 (by kernel_rfl)
                have q15 : uu 15 = .int .i64 (p : Int) := hd 15 (by kernel_rfl)
                have q8 : uu 8 = .bool false := hd 8 (by kernel_rfl)
                refine .inl ⟨wanted_yes rfl (yielded_put (k := 108) (by kernel_rfl) (by kernel_rfl) 176 rfl (by decide) q8), ?_⟩
                generalize hev : Act.eval _ = ev
                have ec : ∀ c, ev (.const c) = c := fun c => by rw [← hev]; rfl
                have e110 : ev (.tmp 110) = .int .i64 (p : Int) := by rw [← hev]; exact (eval_put (by kernel_rfl) 176 rfl (by decide)).trans q10
                have e115 : ev (.tmp 115) = .int .i64 (p : Int) := by rw [← hev]; exact (eval_put (by kernel_rfl) 176 rfl (by decide)).trans q15
                clear hev hd q10 q15 q8
                exact .inl ⟨_, W, by go_simp, rfl, Below.refl _ _⟩
              · obtain rfl := Option.some.inj hoo
                have q8 : uu 8 = .bool false := hd 8 (by kernel_rfl)
                have q16 : uu 16 = .bool false := hd 16 (by kernel_rfl)
                refine .inl ⟨wanted_none rfl, ?_⟩
                generalize hev : Act.eval _ = ev
                have ec : ∀ c, ev (.const c) = c := fun c => by rw [← hev]; rfl
                have e108 : ev (.tmp 108) = .bool false := by rw [← hev]; exact (eval_put (by kernel_rfl) 176 rfl (by decide)).trans q8
                have e116 : ev (.tmp 116) = .bool false := by rw [← hev]; exact (eval_put (by kernel_rfl) 176 rfl (by decide)).trans q16
                clear hev hd q8 q16
                exact .inl ⟨_, W, by go_simp, rfl, Below.refl _ _⟩
              · obtain rfl := Option.some.inj hoo
                have q17 : uu 17 = .bool false := hd 17 (by kernel_rfl)
                refine .inl ⟨wanted_none rfl, ?_⟩
                generalize hev : Act.eval _ = ev
                have ec : ∀ c, ev (.const c) = c := fun c => by rw [← hev]; rfl
                have e117 : ev (.tmp 117) = .bool false := by rw [← hev]; exact (eval_put (by kernel_rfl) 176 rfl (by decide)).trans q17
                clear hev hd q17
                exact .inl ⟨_, W, by go_simp, rfl, Below.refl _ _⟩
              · obtain rfl := Option.some.inj hoo
                have q18 : uu 18 = .bool false := hd 18 (by kernel_rfl)
                refine .inl ⟨wanted_yes rfl (yielded_put (k := 118) (by kernel_rfl) (by kernel_rfl) 176 rfl (by decide) q18), ?_⟩
                generalize hev : Act.eval _ = ev
                have ec : ∀ c, ev (.const c) = c := fun c => by rw [← hev]; rfl
                have e7 : ev (.tmp 7) = .pointer (some ⟨w.heap.size + 1, 0, none⟩) := by rw [← hev]; exact eval_old (by kernel_rfl) 176 rfl (by decide) rfl
                clear hev hd q18
                exact .inl ⟨_, W, by go_simp, rfl, Below.refl _ _⟩
              · obtain rfl := Option.some.inj hoo
                have q19 : uu 19 = .pointer (some ⟨w.heap.size + 1, 0, none⟩) := hd 19 (by kernel_rfl)
                have q18 : uu 18 = .bool false := hd 18 (by kernel_rfl)
                refine .inl ⟨wanted_yes rfl (yielded_put (k := 118) (by kernel_rfl) (by kernel_rfl) 176 rfl (by decide) q18), ?_⟩
                generalize hev : Act.eval _ = ev
                have ec : ∀ c, ev (.const c) = c := fun c => by rw [← hev]; rfl
                have ef : ∀ f, ev (.func f) = .func (.func f) #[] #[] := fun f => by rw [← hev]; rfl
                have e119 : ev (.tmp 119) = .pointer (some ⟨w.heap.size + 1, 0, none⟩) := by rw [← hev]; exact (eval_put (by kernel_rfl) 176 rfl (by decide)).trans q19
                clear hev hd q19 q18
                exact .inr ⟨_, _, _, by go_simp, (T2 W hVW).out, fun e w' he => ⟨_, he.1, rfl, he.2 ▸ Below.refl _ _⟩⟩
              · obtain rfl := Option.some.inj hoo
                have q18 : uu 18 = .bool false := hd 18 (by kernel_rfl)
                refine .inl ⟨wanted_yes rfl (yielded_put (k := 118) (by kernel_rfl) (by kernel_rfl) 176 rfl (by decide) q18), ?_⟩
                generalize hev : Act.eval _ = ev
                have ec : ∀ c, ev (.const c) = c := fun c => by rw [← hev]; rfl
                have e8 : ev (.tmp 8) = .pointer (some ⟨G, 0, none⟩) := by rw [← hev]; exact eval_old (by kernel_rfl) 176 rfl (by decide) rfl
                clear hev hd q18
                exact .inl ⟨_, W, by go_simp, rfl, Below.refl _ _⟩
              · obtain rfl := Option.some.inj hoo
                have q21 : uu 21 = .pointer (some ⟨G, 0, none⟩) := hd 21 (by kernel_rfl)
                have q18 : uu 18 = .bool false := hd 18 (by kernel_rfl)
                refine .inl ⟨wanted_yes rfl (yielded_put (k := 118) (by kernel_rfl) (by kernel_rfl) 176 rfl (by decide) q18), ?_⟩
                generalize hev : Act.eval _ = ev
                have ec : ∀ c, ev (.const c) = c := fun c => by rw [← hev]; rfl
                have e121 : ev (.tmp 121) = .pointer (some ⟨G, 0, none⟩) := by rw [← hev]; exact (eval_put (by kernel_rfl) 176 rfl (by decide)).trans q21
                clear hev hd q21 q18
                exact .inl ⟨_, W, by go_simp, rfl, Below.refl _ _⟩
              · obtain rfl := Option.some.inj hoo
                have q22 : uu 22 = .pointer (some ⟨G, 0, none⟩) := hd 22 (by kernel_rfl)
                have q18 : uu 18 = .bool false := hd 18 (by kernel_rfl)
                refine .inl ⟨wanted_yes rfl (yielded_put (k := 118) (by kernel_rfl) (by kernel_rfl) 176 rfl (by decide) q18), ?_⟩
                generalize hev : Act.eval _ = ev
                have ec : ∀ c, ev (.const c) = c := fun c => by rw [← hev]; rfl
                have e122 : ev (.tmp 122) = .pointer (some ⟨G, 0, none⟩) := by rw [← hev]; exact (eval_put (by kernel_rfl) 176 rfl (by decide)).trans q22
                clear hev hd q22 q18
                exact .inl ⟨_, W, by go_simp, rfl, Below.refl _ _⟩
              · obtain rfl := Option.some.inj hoo
                have q23 : uu 23 = .pointer (some ⟨G, 2, none⟩) := hd 23 (by kernel_rfl)
                have q18 : uu 18 = .bool false := hd 18 (by kernel_rfl)
                refine .inl ⟨wanted_yes rfl (yielded_put (k := 118) (by kernel_rfl) (by kernel_rfl) 176 rfl (by decide) q18), ?_⟩
                generalize hev : Act.eval _ = ev
                have ec : ∀ c, ev (.const c) = c := fun c => by rw [← hev]; rfl
                have e123 : ev (.tmp 123) = .pointer (some ⟨G, 2, none⟩) := by rw [← hev]; exact (eval_put (by kernel_rfl) 176 rfl (by decide)).trans q23
                clear hev hd q23 q18
                obtain ⟨cc0, cc1, cc2, cc3⟩ := HCC W hVW
                exact .inl ⟨_, W, by go_simp, rfl, Below.refl _ _⟩
              · obtain rfl := Option.some.inj hoo
                have q24 : uu 24 = .slice A2 r d2 := hd 24 (by kernel_rfl)
                have q18 : uu 18 = .bool false := hd 18 (by kernel_rfl)
                refine .inl ⟨wanted_yes rfl (yielded_put (k := 118) (by kernel_rfl) (by kernel_rfl) 176 rfl (by decide) q18), ?_⟩
                generalize hev : Act.eval _ = ev
                have ec : ∀ c, ev (.const c) = c := fun c => by rw [← hev]; rfl
                have e124 : ev (.tmp 124) = .slice A2 r d2 := by rw [← hev]; exact (eval_put (by kernel_rfl) 176 rfl (by decide)).trans q24
                clear hev hd q24 q18
                exact .inl ⟨_, W, by go_simp, rfl, Below.refl _ _⟩
              · obtain rfl := Option.some.inj hoo
                have q20 : uu 20 = .int .i64 (r : Int) := hd 20 (by kernel_rfl)
                have q25 : uu 25 = .int .i64 (r : Int) := hd 25 (by kernel_rfl)
                have q18 : uu 18 = .bool false := hd 18 (by kernel_rfl)
                refine .inl ⟨wanted_yes rfl (yielded_put (k := 118) (by kernel_rfl) (by kernel_rfl) 176 rfl (by decide) q18), ?_⟩
                generalize hev : Act.eval _ = ev
                have ec : ∀ c, ev (.const c) = c := fun c => by rw [← hev]; rfl
                have e120 : ev (.tmp 120) = .int .i64 (r : Int) := by rw [← hev]; exact (eval_put (by kernel_rfl) 176 rfl (by decide)).trans q20
                have e125 : ev (.tmp 125) = .int .i64 (r : Int) := by rw [← hev]; exact (eval_put (by kernel_rfl) 176 rfl (by decide)).trans q25
                clear hev hd q20 q25 q18
                exact .inl ⟨_, W, by go_simp, rfl, Below.refl _ _⟩
              · obtain rfl := Option.some.inj hoo
                have q18 : uu 18 = .bool false := hd 18 (by kernel_rfl)
                have q26 : uu 26 = .bool false := hd 26 (by kernel_rfl)
                refine .inl ⟨wanted_none rfl, ?_⟩
                generalize hev : Act.eval _ = ev
                have ec : ∀ c, ev (.const c) = c := fun c => by rw [← hev]; rfl
                have e118 : ev (.tmp 118) = .bool false := by rw [← hev]; exact (eval_put (by kernel_rfl) 176 rfl (by decide)).trans q18
                have e126 : ev (.tmp 126) = .bool false := by rw [← hev]; exact (eval_put (by kernel_rfl) 176 rfl (by decide)).trans q26
                clear hev hd q18 q26
                exact .inl ⟨_, W, by go_simp, rfl, Below.refl _ _⟩
              · obtain rfl := Option.some.inj hoo
                have q27 : uu 27 = .bool false := hd 27 (by kernel_rfl)
                refine .inl ⟨wanted_none rfl, ?_⟩
                generalize hev : Act.eval _ = ev
                have ec : ∀ c, ev (.const c) = c := fun c => by rw [← hev]; rfl
                have e127 : ev (.tmp 127) = .bool false := by rw [← hev]; exact (eval_put (by kernel_rfl) 176 rfl (by decide)).trans q27
                clear hev hd q27
                exact .inl ⟨_, W, by go_simp, rfl, Below.refl _ _⟩
              · obtain rfl := Option.some.inj hoo
                have q28 : uu 28 = .bool false := hd 28 (by kernel_rfl)
                refine .inl ⟨wanted_yes rfl (yielded_put (k := 128) (by kernel_rfl) (by kernel_rfl) 176 rfl (by decide) q28), ?_⟩
                generalize hev : Act.eval _ = ev
                have ec : ∀ c, ev (.const c) = c := fun c => by rw [← hev]; rfl
                have e7 : ev (.tmp 7) = .pointer (some ⟨w.heap.size + 1, 0, none⟩) := by rw [← hev]; exact eval_old (by kernel_rfl) 176 rfl (by decide) rfl
                clear hev hd q28
                exact .inl ⟨_, W, by go_simp, rfl, Below.refl _ _⟩
              · obtain rfl := Option.some.inj hoo
                have q29 : uu 29 = .pointer (some ⟨w.heap.size + 1, 0, none⟩) := hd 29 (by kernel_rfl)
                have q28 : uu 28 = .bool false := hd 28 (by kernel_rfl)
                refine .inl ⟨wanted_yes rfl (yielded_put (k := 128) (by kernel_rfl) (by kernel_rfl) 176 rfl (by decide) q28), ?_⟩
                generalize hev : Act.eval _ = ev
                have ec : ∀ c, ev (.const c) = c := fun c => by rw [← hev]; rfl
                have ef : ∀ f, ev (.func f) = .func (.func f) #[] #[] := fun f => by rw [← hev]; rfl
                have e129 : ev (.tmp 129) = .pointer (some ⟨w.heap.size + 1, 0, none⟩) := by rw [← hev]; exact (eval_put (by kernel_rfl) 176 rfl (by decide)).trans q29
                clear hev hd q29 q28
                exact .inr ⟨_, _, _, by go_simp, (T3 W hVW).out, fun e w' he => ⟨_, he.1, rfl, he.2 ▸ Below.refl _ _⟩⟩
              · obtain rfl := Option.some.inj hoo
                have q28 : uu 28 = .bool false := hd 28 (by kernel_rfl)
                refine .inl ⟨wanted_yes rfl (yielded_put (k := 128) (by kernel_rfl) (by kernel_rfl) 176 rfl (by decide) q28), ?_⟩
                generalize hev : Act.eval _ = ev
                have ec : ∀ c, ev (.const c) = c := fun c => by rw [← hev]; rfl
                have e8 : ev (.tmp 8) = .pointer (some ⟨G, 0, none⟩) := by rw [← hev]; exact eval_old (by kernel_rfl) 176 rfl (by decide) rfl
                clear hev hd q28
                exact .inl ⟨_, W, by go_simp, rfl, Below.refl _ _⟩
              · obtain rfl := Option.some.inj hoo
                have q31 : uu 31 = .pointer (some ⟨G, 0, none⟩) := hd 31 (by kernel_rfl)
                have q28 : uu 28 = .bool false := hd 28 (by kernel_rfl)
                refine .inl ⟨wanted_yes rfl (yielded_put (k := 128) (by kernel_rfl) (by kernel_rfl) 176 rfl (by decide) q28), ?_⟩
                generalize hev : Act.eval _ = ev
                have ec : ∀ c, ev (.const c) = c := fun c => by rw [← hev]; rfl
                have e131 : ev (.tmp 131) = .pointer (some ⟨G, 0, none⟩) := by rw [← hev]; exact (eval_put (by kernel_rfl) 176 rfl (by decide)).trans q31
                clear hev hd q31 q28
                exact .inl ⟨_, W, by go_simp, rfl, Below.refl _ _⟩
              · obtain rfl := Option.some.inj hoo
                have q32 : uu 32 = .pointer (some ⟨G, 0, none⟩) := hd 32 (by kernel_rfl)
                have q28 : uu 28 = .bool false := hd 28 (by kernel_rfl)
                refine .inl ⟨wanted_yes rfl (yielded_put (k := 128) (by kernel_rfl) (by kernel_rfl) 176 rfl (by decide) q28), ?_⟩
                generalize hev : Act.eval _ = ev
                have ec : ∀ c, ev (.const c) = c := fun c => by rw [← hev]; rfl
                have e132 : ev (.tmp 132) = .pointer (some ⟨G, 0, none⟩) := by rw [← hev]; exact (eval_put (by kernel_rfl) 176 rfl (by decide)).trans q32
                clear hev hd q32 q28
                exact .inl ⟨_, W, by go_simp, rfl, Below.refl _ _⟩
              · obtain rfl := Option.some.inj hoo
                have q33 : uu 33 = .pointer (some ⟨G, 0, none⟩) := hd 33 (by kernel_rfl)
                have q28 : uu 28 = .bool false := hd 28 (by kernel_rfl)
                refine .inl ⟨wanted_yes rfl (yielded_put (k := 128) (by kernel_rfl) (by kernel_rfl) 176 rfl (by decide) q28), ?_⟩
                generalize hev : Act.eval _ = ev
                have ec : ∀ c, ev (.const c) = c := fun c => by rw [← hev]; rfl
                have e133 : ev (.tmp 133) = .pointer (some ⟨G, 0, none⟩) := by rw [← hev]; exact (eval_put (by kernel_rfl) 176 rfl (by decide)).trans q33
                clear hev hd q33 q28
                obtain ⟨cc0, cc1, cc2, cc3⟩ := HCC W hVW
                exact .inl ⟨_, W, by go_simp, rfl, Below.refl _ _⟩
              · obtain rfl := Option.some.inj hoo
                have q28 : uu 28 = .bool false := hd 28 (by kernel_rfl)
                refine .inl ⟨wanted_yes rfl (yielded_put (k := 128) (by kernel_rfl) (by kernel_rfl) 176 rfl (by decide) q28), ?_⟩
                generalize hev : Act.eval _ = ev
                have ec : ∀ c, ev (.const c) = c := fun c => by rw [← hev]; rfl
                have e8 : ev (.tmp 8) = .pointer (some ⟨G, 0, none⟩) := by rw [← hev]; exact eval_old (by kernel_rfl) 176 rfl (by decide) rfl
                clear hev hd q28
                exact .inl ⟨_, W, by go_simp, rfl, Below.refl _ _⟩
              · obtain rfl := Option.some.inj hoo
                have q35 : uu 35 = .pointer (some ⟨G, 0, none⟩) := hd 35 (by kernel_rfl)
                have q28 : uu 28 = .bool false := hd 28 (by kernel_rfl)
                refine .inl ⟨wanted_yes rfl (yielded_put (k := 128) (by kernel_rfl) (by kernel_rfl) 176 rfl (by decide) q28), ?_⟩
                generalize hev : Act.eval _ = ev
                have ec : ∀ c, ev (.const c) = c := fun c => by rw [← hev]; rfl
                have e135 : ev (.tmp 135) = .pointer (some ⟨G, 0, none⟩) := by rw [← hev]; exact (eval_put (by kernel_rfl) 176 rfl (by decide)).trans q35
                clear hev hd q35 q28
                exact .inl ⟨_, W, by go_simp, rfl, Below.refl _ _⟩
              · obtain rfl := Option.some.inj hoo
                have q36 : uu 36 = .pointer (some ⟨G, 0, none⟩) := hd 36 (by kernel_rfl)
                have q28 : uu 28 = .bool false := hd 28 (by kernel_rfl)
                refine .inl ⟨wanted_yes rfl (yielded_put (k := 128) (by kernel_rfl) (by kernel_rfl) 176 rfl (by decide) q28), ?_⟩
                generalize hev : Act.eval _ = ev
                have ec : ∀ c, ev (.const c) = c := fun c => by rw [← hev]; rfl
                have e136 : ev (.tmp 136) = .pointer (some ⟨G, 0, none⟩) := by rw [← hev]; exact (eval_put (by kernel_rfl) 176 rfl (by decide)).trans q36
                clear hev hd q36 q28
                exact .inl ⟨_, W, by go_simp, rfl, Below.refl _ _⟩
              · obtain rfl := Option.some.inj hoo
                have q37 : uu 37 = .pointer (some ⟨G, 1, none⟩) := hd 37 (by kernel_rfl)
                have q28 : uu 28 = .bool false := hd 28 (by kernel_rfl)
                refine .inl ⟨wanted_yes rfl (yielded_put (k := 128) (by kernel_rfl) (by kernel_rfl) 176 rfl (by decide) q28), ?_⟩
                generalize hev : Act.eval _ = ev
                have ec : ∀ c, ev (.const c) = c := fun c => by rw [← hev]; rfl
                have e137 : ev (.tmp 137) = .pointer (some ⟨G, 1, none⟩) := by rw [← hev]; exact (eval_put (by kernel_rfl) 176 rfl (by decide)).trans q37
                clear hev hd q37 q28
                obtain ⟨cc0, cc1, cc2, cc3⟩ := HCC W hVW
                exact .inl ⟨_, W, by go_simp, rfl, Below.refl _ _⟩
              · obtain rfl := Option.some.inj hoo
                have q38 : uu 38 = .slice A1 p d1 := hd 38 (by kernel_rfl)
                have q28 : uu 28 = .bool false := hd 28 (by kernel_rfl)
                refine .inl ⟨wanted_yes rfl (yielded_put (k := 128) (by kernel_rfl) (by kernel_rfl) 176 rfl (by decide) q28), ?_⟩
                generalize hev : Act.eval _ = ev
                have ec : ∀ c, ev (.const c) = c := fun c => by rw [← hev]; rfl
                have e138 : ev (.tmp 138) = .slice A1 p d1 := by rw [← hev]; exact (eval_put (by kernel_rfl) 176 rfl (by decide)).trans q38
                clear hev hd q38 q28
                exact .inl ⟨_, W, by go_simp, rfl, Below.refl _ _⟩
              · obtain rfl := Option.some.inj hoo
                have q34 : uu 34 = .int .i64 (N : Int) := hd 34 (by kernel_rfl)
                have q39 : uu 39 = .int .i64 (p : Int) := hd 39 (by kernel_rfl)
                have q28 : uu 28 = .bool false := hd 28 (by kernel_rfl)
                refine .inl ⟨wanted_yes rfl (yielded_put (k := 128) (by kernel_rfl) (by kernel_rfl) 176 rfl (by decide) q28), ?_⟩
                generalize hev : Act.eval _ = ev
                have ec : ∀ c, ev (.const c) = c := fun c => by rw [← hev]; rfl
                have e134 : ev (.tmp 134) = .int .i64 (N : Int) := by rw [← hev]; exact (eval_put (by kernel_rfl) 176 rfl (by decide)).trans q34
                have e139 : ev (.tmp 139) = .int .i64 (p : Int) := by rw [← hev]; exact (eval_put (by kernel_rfl) 176 rfl (by decide)).trans q39
                clear hev hd q34 q39 q28
                have hh := HF.out.1
                have hh2 := HF.out.2.1
                exact .inl ⟨_, W, by go_simp, rfl, Below.refl _ _⟩
              · obtain rfl := Option.some.inj hoo
                have q28 : uu 28 = .bool false := hd 28 (by kernel_rfl)
                refine .inl ⟨wanted_yes rfl (yielded_put (k := 128) (by kernel_rfl) (by kernel_rfl) 176 rfl (by decide) q28), ?_⟩
                generalize hev : Act.eval _ = ev
                have ec : ∀ c, ev (.const c) = c := fun c => by rw [← hev]; rfl
                have e8 : ev (.tmp 8) = .pointer (some ⟨G, 0, none⟩) := by rw [← hev]; exact eval_old (by kernel_rfl) 176 rfl (by decide) rfl
                clear hev hd q28
                exact .inl ⟨_, W, by go_simp, rfl, Below.refl _ _⟩
              · obtain rfl := Option.some.inj hoo
                have q41 : uu 41 = .pointer (some ⟨G, 0, none⟩) := hd 41 (by kernel_rfl)
                have q28 : uu 28 = .bool false := hd 28 (by kernel_rfl)
                refine .inl ⟨wanted_yes rfl (yielded_put (k := 128) (by kernel_rfl) (by kernel_rfl) 176 rfl (by decide) q28), ?_⟩
                generalize hev : Act.eval _ = ev
                have ec : ∀ c, ev (.const c) = c := fun c => by rw [← hev]; rfl
                have e141 : ev (.tmp 141) = .pointer (some ⟨G, 0, none⟩) := by rw [← hev]; exact (eval_put (by kernel_rfl) 176 rfl (by decide)).trans q41
                clear hev hd q41 q28
                exact .inl ⟨_, W, by go_simp, rfl, Below.refl _ _⟩
              · obtain rfl := Option.some.inj hoo
                have q42 : uu 42 = .pointer (some ⟨G, 0, none⟩) := hd 42 (by kernel_rfl)
                have q28 : uu 28 = .bool false := hd 28 (by kernel_rfl)
                refine .inl ⟨wanted_yes rfl (yielded_put (k := 128) (by kernel_rfl) (by kernel_rfl) 176 rfl (by decide) q28), ?_⟩
                generalize hev : Act.eval _ = ev
                have ec : ∀ c, ev (.const c) = c := fun c => by rw [← hev]; rfl
                have e142 : ev (.tmp 142) = .pointer (some ⟨G, 0, none⟩) := by rw [← hev]; exact (eval_put (by kernel_rfl) 176 rfl (by decide)).trans q42
                clear hev hd q42 q28
                exact .inl ⟨_, W, by go_simp, rfl, Below.refl _ _⟩
              · obtain rfl := Option.some.inj hoo
                have q43 : uu 43 = .pointer (some ⟨G, 2, none⟩) := hd 43 (by kernel_rfl)
                have q28 : uu 28 = .bool false := hd 28 (by kernel_rfl)
                refine .inl ⟨wanted_yes rfl (yielded_put (k := 128) (by kernel_rfl) (by kernel_rfl) 176 rfl (by decide) q28), ?_⟩
                generalize hev : Act.eval _ = ev
                have ec : ∀ c, ev (.const c) = c := fun c => by rw [← hev]; rfl
                have e143 : ev (.tmp 143) = .pointer (some ⟨G, 2, none⟩) := by rw [← hev]; exact (eval_put (by kernel_rfl) 176 rfl (by decide)).trans q43
                clear hev hd q43 q28
                obtain ⟨cc0, cc1, cc2, cc3⟩ := HCC W hVW
                exact .inl ⟨_, W, by go_simp, rfl, Below.refl _ _⟩
              · obtain rfl := Option.some.inj hoo
                have q44 : uu 44 = .slice A2 r d2 := hd 44 (by kernel_rfl)
                have q28 : uu 28 = .bool false := hd 28 (by kernel_rfl)
                refine .inl ⟨wanted_yes rfl (yielded_put (k := 128) (by kernel_rfl) (by kernel_rfl) 176 rfl (by decide) q28), ?_⟩
                generalize hev : Act.eval _ = ev
                have ec : ∀ c, ev (.const c) = c := fun c => by rw [← hev]; rfl
                have e144 : ev (.tmp 144) = .slice A2 r d2 := by rw [← hev]; exact (eval_put (by kernel_rfl) 176 rfl (by decide)).trans q44
                clear hev hd q44 q28
                exact .inl ⟨_, W, by go_simp, rfl, Below.refl _ _⟩
              · obtain rfl := Option.some.inj hoo
                have q40 : uu 40 = .int .i64 (np : Int) := hd 40 (by kernel_rfl)
                have q45 : uu 45 = .int .i64 (r : Int) := hd 45 (by kernel_rfl)
                have q28 : uu 28 = .bool false := hd 28 (by kernel_rfl)
                refine .inl ⟨wanted_yes rfl (yielded_put (k := 128) (by kernel_rfl) (by kernel_rfl) 176 rfl (by decide) q28), ?_⟩
                generalize hev : Act.eval _ = ev
                have ec : ∀ c, ev (.const c) = c := fun c => by rw [← hev]; rfl
                have e140 : ev (.tmp 140) = .int .i64 (np : Int) := by rw [← hev]; exact (eval_put (by kernel_rfl) 176 rfl (by decide)).trans q40
                have e145 : ev (.tmp 145) = .int .i64 (r : Int) := by rw [← hev]; exact (eval_put (by kernel_rfl) 176 rfl (by decide)).trans q45
                clear hev hd q40 q45 q28
                have hh := HF.out.2.2.1
                have hh2 := HF.out.2.2.2
                exact .inl ⟨_, W, by go_simp, rfl, Below.refl _ _⟩
              · obtain rfl := Option.some.inj hoo
                have q30 : uu 30 = .int .i64 (m : Int) := hd 30 (by kernel_rfl)
                have q46 : uu 46 = .int .i64 (m : Int) := hd 46 (by kernel_rfl)
                have q28 : uu 28 = .bool false := hd 28 (by kernel_rfl)
                refine .inl ⟨wanted_yes rfl (yielded_put (k := 128) (by kernel_rfl) (by kernel_rfl) 176 rfl (by decide) q28), ?_⟩
                generalize hev : Act.eval _ = ev
                have ec : ∀ c, ev (.const c) = c := fun c => by rw [← hev]; rfl
                have e130 : ev (.tmp 130) = .int .i64 (m : Int) := by rw [← hev]; exact (eval_put (by kernel_rfl) 176 rfl (by decide)).trans q30
                have e146 : ev (.tmp 146) = .int .i64 (m : Int) := by rw [← hev]; exact (eval_put (by kernel_rfl) 176 rfl (by decide)).trans q46
                clear hev hd q30 q46 q28
                exact .inl ⟨_, W, by go_simp, rfl, Below.refl _ _⟩
              · obtain rfl := Option.some.inj hoo
                have q28 : uu 28 = .bool false := hd 28 (by kernel_rfl)
                have q47 : uu 47 = .bool false := hd 47 (by kernel_rfl)
                refine .inl ⟨wanted_none rfl, ?_⟩
                generalize hev : Act.eval _ = ev
                have ec : ∀ c, ev (.const c) = c := fun c => by rw [← hev]; rfl
                have e128 : ev (.tmp 128) = .bool false := by rw [← hev]; exact (eval_put (by kernel_rfl) 176 rfl (by decide)).trans q28
                have e147 : ev (.tmp 147) = .bool false := by rw [← hev]; exact (eval_put (by kernel_rfl) 176 rfl (by decide)).trans q47
                clear hev hd q28 q47
                exact .inl ⟨_, W, by go_simp, rfl, Below.refl _ _⟩
              · obtain rfl := Option.some.inj hoo
                have q48 : uu 48 = .bool false := hd 48 (by kernel_rfl)
                refine .inl ⟨wanted_none rfl, ?_⟩
                generalize hev : Act.eval _ = ev
                have ec : ∀ c, ev (.const c) = c := fun c => by rw [← hev]; rfl
                have e148 : ev (.tmp 148) = .bool false := by rw [← hev]; exact (eval_put (by kernel_rfl) 176 rfl (by decide)).trans q48
                clear hev hd q48
                exact .inl ⟨_, W, by go_simp, rfl, Below.refl _ _⟩
              · obtain rfl := Option.some.inj hoo
                have q49 : uu 49 = .bool false := hd 49 (by kernel_rfl)
                refine .inl ⟨wanted_yes rfl (yielded_put (k := 149) (by kernel_rfl) (by kernel_rfl) 176 rfl (by decide) q49), ?_⟩
                generalize hev : Act.eval _ = ev
                have ec : ∀ c, ev (.const c) = c := fun c => by rw [← hev]; rfl
                have e7 : ev (.tmp 7) = .pointer (some ⟨w.heap.size + 1, 0, none⟩) := by rw [← hev]; exact eval_old (by kernel_rfl) 176 rfl (by decide) rfl
                clear hev hd q49
                exact .inl ⟨_, W, by go_simp, rfl, Below.refl _ _⟩
              · obtain rfl := Option.some.inj hoo
                have q49 : uu 49 = .bool false := hd 49 (by kernel_rfl)
                refine .inl ⟨wanted_yes rfl (yielded_put (k := 149) (by kernel_rfl) (by kernel_rfl) 176 rfl (by decide) q49), ?_⟩
                generalize hev : Act.eval _ = ev
                have ec : ∀ c, ev (.const c) = c := fun c => by rw [← hev]; rfl
                have e2 : ev (.tmp 2) = .int .i64 a2 := by rw [← hev]; exact eval_old (by kernel_rfl) 176 rfl (by decide) rfl
                clear hev hd q49
                exact .inl ⟨_, W, by go_simp, rfl, Below.refl _ _⟩
              · obtain rfl := Option.some.inj hoo
                have q50 : uu 50 = .pointer (some ⟨w.heap.size + 1, 0, none⟩) := hd 50 (by kernel_rfl)
                have q51 : uu 51 = .int .i64 a2 := hd 51 (by kernel_rfl)
                have q49 : uu 49 = .bool false := hd 49 (by kernel_rfl)
                refine .inl ⟨wanted_yes rfl (yielded_put (k := 149) (by kernel_rfl) (by kernel_rfl) 176 rfl (by decide) q49), ?_⟩
                generalize hev : Act.eval _ = ev
                have ec : ∀ c, ev (.const c) = c := fun c => by rw [← hev]; rfl
                have ef : ∀ f, ev (.func f) = .func (.func f) #[] #[] := fun f => by rw [← hev]; rfl
                have e150 : ev (.tmp 150) = .pointer (some ⟨w.heap.size + 1, 0, none⟩) := by rw [← hev]; exact (eval_put (by kernel_rfl) 176 rfl (by decide)).trans q50
                have e151 : ev (.tmp 151) = .int .i64 a2 := by rw [← hev]; exact (eval_put (by kernel_rfl) 176 rfl (by decide)).trans q51
                clear hev hd q50 q51 q49
                exact .inr ⟨_, _, _, by go_simp, ((hown1 W hVW).1).out, fun e w' he => ⟨_, he.1, rfl, he.2.bel⟩⟩
              · obtain rfl := Option.some.inj hoo
                have q49 : uu 49 = .bool false := hd 49 (by kernel_rfl)
                refine .inl ⟨wanted_yes rfl (yielded_put (k := 149) (by kernel_rfl) (by kernel_rfl) 176 rfl (by decide) q49), ?_⟩
                generalize hev : Act.eval _ = ev
                have ec : ∀ c, ev (.const c) = c := fun c => by rw [← hev]; rfl
                have e8 : ev (.tmp 8) = .pointer (some ⟨G, 0, none⟩) := by rw [← hev]; exact eval_old (by kernel_rfl) 176 rfl (by decide) rfl
                clear hev hd q49
                exact .inl ⟨_, W, by go_simp, rfl, Below.refl _ _⟩
              · obtain rfl := Option.some.inj hoo
                have q49 : uu 49 = .bool false := hd 49 (by kernel_rfl)
                refine .inl ⟨wanted_yes rfl (yielded_put (k := 149) (by kernel_rfl) (by kernel_rfl) 176 rfl (by decide) q49), ?_⟩
                generalize hev : Act.eval _ = ev
                have ec : ∀ c, ev (.const c) = c := fun c => by rw [← hev]; rfl
                have e2 : ev (.tmp 2) = .int .i64 a2 := by rw [← hev]; exact eval_old (by kernel_rfl) 176 rfl (by decide) rfl
                clear hev hd q49
                exact .inl ⟨_, W, by go_simp, rfl, Below.refl _ _⟩
              · obtain rfl := Option.some.inj hoo
                have q53 : uu 53 = .pointer (some ⟨G, 0, none⟩) := hd 53 (by kernel_rfl)
                have q54 : uu 54 = .int .i64 a2 := hd 54 (by kernel_rfl)
                have q49 : uu 49 = .bool false := hd 49 (by kernel_rfl)
                refine .inl ⟨wanted_yes rfl (yielded_put (k := 149) (by kernel_rfl) (by kernel_rfl) 176 rfl (by decide) q49), ?_⟩
                generalize hev : Act.eval _ = ev
                have ec : ∀ c, ev (.const c) = c := fun c => by rw [← hev]; rfl
                have ef : ∀ f, ev (.func f) = .func (.func f) #[] #[] := fun f => by rw [← hev]; rfl
                have e153 : ev (.tmp 153) = .pointer (some ⟨G, 0, none⟩) := by rw [← hev]; exact (eval_put (by kernel_rfl) 176 rfl (by decide)).trans q53
                have e154 : ev (.tmp 154) = .int .i64 a2 := by rw [← hev]; exact (eval_put (by kernel_rfl) 176 rfl (by decide)).trans q54
                clear hev hd q53 q54 q49
                exact .inr ⟨_, _, _, by go_simp, ((hown1 W hVW).2).out, fun e w' he => ⟨_, he.1, rfl, he.2 ▸ Below.refl _ _⟩⟩
              · obtain rfl := Option.some.inj hoo
                have q52 : uu 52 = .bool b1 := hd 52 (by kernel_rfl)
                have q55 : uu 55 = .bool b1 := hd 55 (by kernel_rfl)
                have q49 : uu 49 = .bool false := hd 49 (by kernel_rfl)
                refine .inl ⟨wanted_yes rfl (yielded_put (k := 149) (by kernel_rfl) (by kernel_rfl) 176 rfl (by decide) q49), ?_⟩
                generalize hev : Act.eval _ = ev
                have ec : ∀ c, ev (.const c) = c := fun c => by rw [← hev]; rfl
                have e152 : ev (.tmp 152) = .bool b1 := by rw [← hev]; exact (eval_put (by kernel_rfl) 176 rfl (by decide)).trans q52
                have e155 : ev (.tmp 155) = .bool b1 := by rw [← hev]; exact (eval_put (by kernel_rfl) 176 rfl (by decide)).trans q55
                clear hev hd q52 q55 q49
                exact .inl ⟨_, W, by go_simp, rfl, Below.refl _ _⟩
              · obtain rfl := Option.some.inj hoo
                have q49 : uu 49 = .bool false := hd 49 (by kernel_rfl)
                have q56 : uu 56 = .bool false := hd 56 (by kernel_rfl)
                refine .inl ⟨wanted_none rfl, ?_⟩
                generalize hev : Act.eval _ = ev
                have ec : ∀ c, ev (.const c) = c := fun c => by rw [← hev]; rfl
                have e149 : ev (.tmp 149) = .bool false := by rw [← hev]; exact (eval_put (by kernel_rfl) 176 rfl (by decide)).trans q49
                have e156 : ev (.tmp 156) = .bool false := by rw [← hev]; exact (eval_put (by kernel_rfl) 176 rfl (by decide)).trans q56
                clear hev hd q49 q56
                exact .inl ⟨_, W, by go_simp, rfl, Below.refl _ _⟩
              · obtain rfl := Option.some.inj hoo
                have q57 : uu 57 = .bool false := hd 57 (by kernel_rfl)
                refine .inl ⟨wanted_none rfl, ?_⟩
                generalize hev : Act.eval _ = ev
                have ec : ∀ c, ev (.const c) = c := fun c => by rw [← hev]; rfl
                have e157 : ev (.tmp 157) = .bool false := by rw [← hev]; exact (eval_put (by kernel_rfl) 176 rfl (by decide)).trans q57
                clear hev hd q57
                exact .inl ⟨_, W, by go_simp, rfl, Below.refl _ _⟩
              · obtain rfl := Option.some.inj hoo
                have q58 : uu 58 = .bool false := hd 58 (by kernel_rfl)
                refine .inl ⟨wanted_yes rfl (yielded_put (k := 158) (by kernel_rfl) (by kernel_rfl) 176 rfl (by decide) q58), ?_⟩
                generalize hev : Act.eval _ = ev
                have ec : ∀ c, ev (.const c) = c := fun c => by rw [← hev]; rfl
                have e7 : ev (.tmp 7) = .pointer (some ⟨w.heap.size + 1, 0, none⟩) := by rw [← hev]; exact eval_old (by kernel_rfl) 176 rfl (by decide) rfl
                clear hev hd q58
                exact .inl ⟨_, W, by go_simp, rfl, Below.refl _ _⟩
              · obtain rfl := Option.some.inj hoo
                have q58 : uu 58 = .bool false := hd 58 (by kernel_rfl)
                refine .inl ⟨wanted_yes rfl (yielded_put (k := 158) (by kernel_rfl) (by kernel_rfl) 176 rfl (by decide) q58), ?_⟩
                generalize hev : Act.eval _ = ev
                have ec : ∀ c, ev (.const c) = c := fun c => by rw [← hev]; rfl
                have e1 : ev (.tmp 1) = .slice (some ⟨b, off, none⟩) len1 cap1 := by rw [← hev]; exact eval_old (by kernel_rfl) 176 rfl (by decide) rfl
                clear hev hd q58
                exact .inl ⟨_, W, by go_simp, rfl, Below.refl _ _⟩
              · obtain rfl := Option.some.inj hoo
                have q58 : uu 58 = .bool false := hd 58 (by kernel_rfl)
                refine .inl ⟨wanted_yes rfl (yielded_put (k := 158) (by kernel_rfl) (by kernel_rfl) 176 rfl (by decide) q58), ?_⟩
                generalize hev : Act.eval _ = ev
                have ec : ∀ c, ev (.const c) = c := fun c => by rw [← hev]; rfl
                have e9 : ev (.tmp 9) = .int .i64 (j : Int) := by rw [← hev]; exact eval_old (by kernel_rfl) 176 rfl (by decide) rfl
                clear hev hd q58
                exact .inl ⟨_, W, by go_simp, rfl, Below.refl _ _⟩
              · obtain rfl := Option.some.inj hoo
                have q60 : uu 60 = .slice (some ⟨b, off, none⟩) len1 cap1 := hd 60 (by kernel_rfl)
                have q61 : uu 61 = .int .i64 (j : Int) := hd 61 (by kernel_rfl)
                have q58 : uu 58 = .bool false := hd 58 (by kernel_rfl)
                refine .inl ⟨wanted_yes rfl (yielded_put (k := 158) (by kernel_rfl) (by kernel_rfl) 176 rfl (by decide) q58), ?_⟩
                generalize hev : Act.eval _ = ev
                have ec : ∀ c, ev (.const c) = c := fun c => by rw [← hev]; rfl
                have e160 : ev (.tmp 160) = .slice (some ⟨b, off, none⟩) len1 cap1 := by rw [← hev]; exact (eval_put (by kernel_rfl) 176 rfl (by decide)).trans q60
                have e161 : ev (.tmp 161) = .int .i64 (j : Int) := by rw [← hev]; exact (eval_put (by kernel_rfl) 176 rfl (by decide)).trans q61
                clear hev hd q60 q61 q58
                exact .inl ⟨_, W, by go_simp, rfl, Below.refl _ _⟩
              · obtain rfl := Option.some.inj hoo
                have q62 : uu 62 = .pointer (some ⟨b, off + j * 2, none⟩) := hd 62 (by kernel_rfl)
                have q58 : uu 58 = .bool false := hd 58 (by kernel_rfl)
                refine .inl ⟨wanted_yes rfl (yielded_put (k := 158) (by kernel_rfl) (by kernel_rfl) 176 rfl (by decide) q58), ?_⟩
                generalize hev : Act.eval _ = ev
                have ec : ∀ c, ev (.const c) = c := fun c => by rw [← hev]; rfl
                have e162 : ev (.tmp 162) = .pointer (some ⟨b, off + j * 2, none⟩) := by rw [← hev]; exact (eval_put (by kernel_rfl) 176 rfl (by decide)).trans q62
                clear hev hd q62 q58
                exact .inl ⟨_, W, by go_simp, rfl, Below.refl _ _⟩
              · obtain rfl := Option.some.inj hoo
                have q63 : uu 63 = .pointer (some ⟨b, off + j * 2 + 1, none⟩) := hd 63 (by kernel_rfl)
                have q58 : uu 58 = .bool false := hd 58 (by kernel_rfl)
                refine .inl ⟨wanted_yes rfl (yielded_put (k := 158) (by kernel_rfl) (by kernel_rfl) 176 rfl (by decide) q58), ?_⟩
                generalize hev : Act.eval _ = ev
                have ec : ∀ c, ev (.const c) = c := fun c => by rw [← hev]; rfl
                have e163 : ev (.tmp 163) = .pointer (some ⟨b, off + j * 2 + 1, none⟩) := by rw [← hev]; exact (eval_put (by kernel_rfl) 176 rfl (by decide)).trans q63
                clear hev hd q63 q58
                obtain ⟨cc0, cc1, cc2, cc3⟩ := HCC W hVW
                exact .inl ⟨_, W, by go_simp, rfl, Below.refl _ _⟩
              · obtain rfl := Option.some.inj hoo
                have q59 : uu 59 = .pointer (some ⟨w.heap.size + 1, 0, none⟩) := hd 59 (by kernel_rfl)
                have q64 : uu 64 = .int .i64 kn := hd 64 (by kernel_rfl)
                have q58 : uu 58 = .bool false := hd 58 (by kernel_rfl)
                refine .inl ⟨wanted_yes rfl (yielded_put (k := 158) (by kernel_rfl) (by kernel_rfl) 176 rfl (by decide) q58), ?_⟩
                generalize hev : Act.eval _ = ev
                have ec : ∀ c, ev (.const c) = c := fun c => by rw [← hev]; rfl
                have ef : ∀ f, ev (.func f) = .func (.func f) #[] #[] := fun f => by rw [← hev]; rfl
                have e159 : ev (.tmp 159) = .pointer (some ⟨w.heap.size + 1, 0, none⟩) := by rw [← hev]; exact (eval_put (by kernel_rfl) 176 rfl (by decide)).trans q59
                have e164 : ev (.tmp 164) = .int .i64 kn := by rw [← hev]; exact (eval_put (by kernel_rfl) 176 rfl (by decide)).trans q64
                clear hev hd q59 q64 q58
                exact .inr ⟨_, _, _, by go_simp, ((hown2 W hVW).1).out, fun e w' he => ⟨_, he.1, rfl, he.2.bel⟩⟩
              · obtain rfl := Option.some.inj hoo
                have q58 : uu 58 = .bool false := hd 58 (by kernel_rfl)
                refine .inl ⟨wanted_yes rfl (yielded_put (k := 158) (by kernel_rfl) (by kernel_rfl) 176 rfl (by decide) q58), ?_⟩
                generalize hev : Act.eval _ = ev
                have ec : ∀ c, ev (.const c) = c := fun c => by rw [← hev]; rfl
                have e8 : ev (.tmp 8) = .pointer (some ⟨G, 0, none⟩) := by rw [← hev]; exact eval_old (by kernel_rfl) 176 rfl (by decide) rfl
                clear hev hd q58
                exact .inl ⟨_, W, by go_simp, rfl, Below.refl _ _⟩
              · obtain rfl := Option.some.inj hoo
                have q58 : uu 58 = .bool false := hd 58 (by kernel_rfl)
                refine .inl ⟨wanted_yes rfl (yielded_put (k := 158) (by kernel_rfl) (by kernel_rfl) 176 rfl (by decide) q58), ?_⟩
                generalize hev : Act.eval _ = ev
                have ec : ∀ c, ev (.const c) = c := fun c => by rw [← hev]; rfl
                have e1 : ev (.tmp 1) = .slice (some ⟨b, off, none⟩) len1 cap1 := by rw [← hev]; exact eval_old (by kernel_rfl) 176 rfl (by decide) rfl
                clear hev hd q58
                exact .inl ⟨_, W, by go_simp, rfl, Below.refl _ _⟩
              · obtain rfl := Option.some.inj hoo
                have q58 : uu 58 = .bool false := hd 58 (by kernel_rfl)
                refine .inl ⟨wanted_yes rfl (yielded_put (k := 158) (by kernel_rfl) (by kernel_rfl) 176 rfl (by decide) q58), ?_⟩
                generalize hev : Act.eval _ = ev
                have ec : ∀ c, ev (.const c) = c := fun c => by rw [← hev]; rfl
                have e9 : ev (.tmp 9) = .int .i64 (j : Int) := by rw [← hev]; exact eval_old (by kernel_rfl) 176 rfl (by decide) rfl
                clear hev hd q58
                exact .inl ⟨_, W, by go_simp, rfl, Below.refl _ _⟩
              · obtain rfl := Option.some.inj hoo
                have q67 : uu 67 = .slice (some ⟨b, off, none⟩) len1 cap1 := hd 67 (by kernel_rfl)
                have q68 : uu 68 = .int .i64 (j : Int) := hd 68 (by kernel_rfl)
                have q58 : uu 58 = .bool false := hd 58 (by kernel_rfl)
                refine .inl ⟨wanted_yes rfl (yielded_put (k := 158) (by kernel_rfl) (by kernel_rfl) 176 rfl (by decide) q58), ?_⟩
                generalize hev : Act.eval _ = ev
                have ec : ∀ c, ev (.const c) = c := fun c => by rw [← hev]; rfl
                have e167 : ev (.tmp 167) = .slice (some ⟨b, off, none⟩) len1 cap1 := by rw [← hev]; exact (eval_put (by kernel_rfl) 176 rfl (by decide)).trans q67
                have e168 : ev (.tmp 168) = .int .i64 (j : Int) := by rw [← hev]; exact (eval_put (by kernel_rfl) 176 rfl (by decide)).trans q68
                clear hev hd q67 q68 q58
                exact .inl ⟨_, W, by go_simp, rfl, Below.refl _ _⟩
              · obtain rfl := Option.some.inj hoo
                have q69 : uu 69 = .pointer (some ⟨b, off + j * 2, none⟩) := hd 69 (by kernel_rfl)
                have q58 : uu 58 = .bool false := hd 58 (by kernel_rfl)
                refine .inl ⟨wanted_yes rfl (yielded_put (k := 158) (by kernel_rfl) (by kernel_rfl) 176 rfl (by decide) q58), ?_⟩
                generalize hev : Act.eval _ = ev
                have ec : ∀ c, ev (.const c) = c := fun c => by rw [← hev]; rfl
                have e169 : ev (.tmp 169) = .pointer (some ⟨b, off + j * 2, none⟩) := by rw [← hev]; exact (eval_put (by kernel_rfl) 176 rfl (by decide)).trans q69
                clear hev hd q69 q58
                exact .inl ⟨_, W, by go_simp, rfl, Below.refl _ _⟩
              · obtain rfl := Option.some.inj hoo
                have q70 : uu 70 = .pointer (some ⟨b, off + j * 2 + 1, none⟩) := hd 70 (by kernel_rfl)
                have q58 : uu 58 = .bool false := hd 58 (by kernel_rfl)
                refine .inl ⟨wanted_yes rfl (yielded_put (k := 158) (by kernel_rfl) (by kernel_rfl) 176 rfl (by decide) q58), ?_⟩
                generalize hev : Act.eval _ = ev
                have ec : ∀ c, ev (.const c) = c := fun c => by rw [← hev]; rfl
                have e170 : ev (.tmp 170) = .pointer (some ⟨b, off + j * 2 + 1, none⟩) := by rw [← hev]; exact (eval_put (by kernel_rfl) 176 rfl (by decide)).trans q70
                clear hev hd q70 q58
                obtain ⟨cc0, cc1, cc2, cc3⟩ := HCC W hVW
                exact .inl ⟨_, W, by go_simp, rfl, Below.refl _ _⟩
              · obtain rfl := Option.some.inj hoo
                have q66 : uu 66 = .pointer (some ⟨G, 0, none⟩) := hd 66 (by kernel_rfl)
                have q71 : uu 71 = .int .i64 kn := hd 71 (by kernel_rfl)
                have q58 : uu 58 = .bool false := hd 58 (by kernel_rfl)
                refine .inl ⟨wanted_yes rfl (yielded_put (k := 158) (by kernel_rfl) (by kernel_rfl) 176 rfl (by decide) q58), ?_⟩
                generalize hev : Act.eval _ = ev
                have ec : ∀ c, ev (.const c) = c := fun c => by rw [← hev]; rfl
                have ef : ∀ f, ev (.func f) = .func (.func f) #[] #[] := fun f => by rw [← hev]; rfl
                have e166 : ev (.tmp 166) = .pointer (some ⟨G, 0, none⟩) := by rw [← hev]; exact (eval_put (by kernel_rfl) 176 rfl (by decide)).trans q66
                have e171 : ev (.tmp 171) = .int .i64 kn := by rw [← hev]; exact (eval_put (by kernel_rfl) 176 rfl (by decide)).trans q71
                clear hev hd q66 q71 q58
                exact .inr ⟨_, _, _, by go_simp, ((hown2 W hVW).2).out, fun e w' he => ⟨_, he.1, rfl, he.2 ▸ Below.refl _ _⟩⟩
              · obtain rfl := Option.some.inj hoo
                have q65 : uu 65 = .bool b2 := hd 65 (by kernel_rfl)
                have q72 : uu 72 = .bool b2 := hd 72 (by kernel_rfl)
                have q58 : uu 58 = .bool false := hd 58 (by kernel_rfl)
                refine .inl ⟨wanted_yes rfl (yielded_put (k := 158) (by kernel_rfl) (by kernel_rfl) 176 rfl (by decide) q58), ?_⟩
                generalize hev : Act.eval _ = ev
                have ec : ∀ c, ev (.const c) = c := fun c => by rw [← hev]; rfl
                have e165 : ev (.tmp 165) = .bool b2 := by rw [← hev]; exact (eval_put (by kernel_rfl) 176 rfl (by decide)).trans q65
                have e172 : ev (.tmp 172) = .bool b2 := by rw [← hev]; exact (eval_put (by kernel_rfl) 176 rfl (by decide)).trans q72
                clear hev hd q65 q72 q58
                exact .inl ⟨_, W, by go_simp, rfl, Below.refl _ _⟩
              · obtain rfl := Option.some.inj hoo
                have q58 : uu 58 = .bool false := hd 58 (by kernel_rfl)
                have q73 : uu 73 = .bool false := hd 73 (by kernel_rfl)
                refine .inl ⟨wanted_none rfl, ?_⟩
                generalize hev : Act.eval _ = ev
                have ec : ∀ c, ev (.const c) = c := fun c => by rw [← hev]; rfl
                have e158 : ev (.tmp 158) = .bool false := by rw [← hev]; exact (eval_put (by kernel_rfl) 176 rfl (by decide)).trans q58
                have e173 : ev (.tmp 173) = .bool false := by rw [← hev]; exact (eval_put (by kernel_rfl) 176 rfl (by decide)).trans q73
                clear hev hd q58 q73
                exact .inl ⟨_, W, by go_simp, rfl, Below.refl _ _⟩
              · simp at hoo
            · intro uu W hVW hall
              have q74 : uu 74 = .bool false := hall 74 (by decide)
              have HS2 := HS1.out.belowS hVW
              clear hall HCC hVW T1 T2 T3 hown1 hown2
              rw [List.toList_toArray]
              simp [putAll, Act.put, q74]
              clear q74
              go_wp2_with fail
              go_roundw
              case rel => exact ⟨j + 1, by omega, by omega, by go_num, HS2⟩
              case measure => simp [intOf]; omega
          · have e0 : (k == 0) = false := by simpa using k0
            by_cases k1 : k = 1
            · subst k1
              obtain ⟨bb, M, hA, hMb, hB⟩ := done_both S (Nat.le_refl _) hn1 hG1 hG0
              have HA := Lib.hid hA
              have HB := Lib.hid hB
              clear hA hMb hB S c0
              go_wp2_with fail
              refine HA.out.mono ?_
              rintro e wx ⟨rfl, hM⟩
              go_wp2_with fail
              refine (HB.out wx hM).mono ?_
              rintro e wq ⟨rfl, hS⟩
              have HS := Lib.hid (hS.more (Nat.le_succ j))
              clear hM HA HB c0w c1w hS e0
              have hbq : Below w.heap.size w wq := HS.out.bel0
              obtain ⟨xn, bn, hnext⟩ := next_both HS.out
              obtain ⟨nx, p, r, buf, vp, vr, ps, rs, ever, work, R, Q, C, -, -⟩ := HS.out
              have HC := fun W (hd : Drawn wq W) => Lib.hid (ring_cells (Q.drawn hd) C)
              have hpr := R.prn
              obtain ⟨m, hm⟩ : ∃ m, N - p - r = m := ⟨_, rfl⟩
              have f1 : (N : Int) - (p : Int) - (r : Int) = (m : Int) := by omega
              have f3 : (N : Int) - (p : Int) = ((N - p : Nat) : Int) := by omega
              have f4 : IntKind.i64.wrap ((N - p : Nat) : Int) = ((N - p : Nat) : Int) := by rw [IntKind.wrap_i64]; have := R.n64; omega
              have f5 : ((N - p : Nat) : Int) - (r : Int) = (m : Int) := by omega
              have f6 : IntKind.i64.wrap (m : Int) = (m : Int) := by rw [IntKind.wrap_i64]; have := R.n64; omega
              obtain ⟨np, hnp⟩ : ∃ np, N - p = np := ⟨_, rfl⟩
              rw [hnp] at f3 f4 f5
              clear f1
              go_wp2_with fail
              refine ((hnext _ (Drawn.refl _)).1).out.mono ?_
              rintro e v1 ⟨rfl, hd1⟩
              go_wp2_with fail
              refine ((hnext _ hd1).2).out.mono ?_
              rintro e v2 ⟨rfl, rfl⟩
              clear hnext
              obtain ⟨g0, ⟨A1, d1, g1⟩, ⟨A2, d2, g2⟩⟩ := (HC _ hd1).out
              have HS1 := Lib.hid (HS.out.drawn hd1)
              have RV := R.drawn hd1
              have QG := (Q.drawn hd1).bg.lt
              have cI := (hd1.below (B := w.heap.size)).cell (p := ⟨b, off + j * 2 + 1, none⟩) hbl |>.trans ((hbq.cell (p := ⟨b, off + j * 2 + 1, none⟩) hbl).trans c1)
              have hbv : b < v1.heap.size := Nat.lt_of_lt_of_le hbl HS1.out.bel0.size
              clear R Q C HC hd1 hbq HS
              obtain ⟨b1, hown1⟩ := own_bel HS1.out a2
              obtain ⟨b2, hown2⟩ := own_bel HS1.out kn
              have T1 := fun W (h : Below v1.heap.size v1 W) => Lib.hid (rposted_any (RV.below h))
              have T2 := fun W (h : Below v1.heap.size v1 W) => Lib.hid (rready_any (RV.below h))
              have T3 := fun W (h : Below v1.heap.size v1 W) => Lib.hid (rroom_any (RV.below h))
              rw [hm] at T3
              have HCC : ∀ W, Below v1.heap.size v1 W → (W.cell? ⟨G, 0, none⟩ = some (.int .i64 (N : Int)) ∧ W.cell? ⟨G, 1, none⟩ = some (.slice A1 p d1) ∧ W.cell? ⟨G, 2, none⟩ = some (.slice A2 r d2) ∧ W.cell? ⟨b, off + j * 2 + 1, none⟩ = some (.int .i64 kn)) := by
                intro W h
                exact ⟨(h.cell (p := ⟨G, 0, none⟩) QG).trans g0, (h.cell (p := ⟨G, 1, none⟩) QG).trans g1, (h.cell (p := ⟨G, 2, none⟩) QG).trans g2, (h.cell (p := ⟨b, off + j * 2 + 1, none⟩) hbv).trans cI⟩
              have HF := Lib.hid (And.intro f3 (And.intro f4 (And.intro f5 f6)))
              clear RV hm hnp hpr g0 g1 g2 cI hbv QG f3 f4 f5 f6
              go_wp2_with fail
              refine region_put (by kernel_rfl) (by kernel_rfl) (by kernel_rfl) 176 rfl (by kernel_rfl) v1 (fun i v W => match i with
                  | 0 => v = .int .i64 xn
                  | 1 => v = .int .i64 xn
                  | 2 => v = .bool false
                  | 3 => v = .bool false
                  | 4 => v = .bool bn
                  | 5 => v = .bool bn
                  | 6 => v = .bool false
                  | 7 => v = .bool false
                  | 8 => v = .bool false
                  | 9 => v = .pointer (some ⟨w.heap.size + 1, 0, none⟩)
                  | 10 => v = .int .i64 (p : Int)
                  | 11 => v = .pointer (some ⟨G, 0, none⟩)
                  | 12 => v = .pointer (some ⟨G, 0, none⟩)
                  | 13 => v = .pointer (some ⟨G, 1, none⟩)
                  | 14 => v = .slice A1 p d1
                  | 15 => v = .int .i64 (p : Int)
                  | 16 => v = .bool false
                  | 17 => v = .bool false
                  | 18 => v = .bool false
                  | 19 => v = .pointer (some ⟨w.heap.size + 1, 0, none⟩)
                  | 20 => v = .int .i64 (r : Int)
                  | 21 => v = .pointer (some ⟨G, 0, none⟩)
                  | 22 => v = .pointer (some ⟨G, 0, none⟩)
                  | 23 => v = .pointer (some ⟨G, 2, none⟩)
                  | 24 => v = .slice A2 r d2
                  | 25 => v = .int .i64 (r : Int)
                  | 26 => v = .bool false
                  | 27 => v = .bool false
                  | 28 => v = .bool false
                  | 29 => v = .pointer (some ⟨w.heap.size + 1, 0, none⟩)
                  | 30 => v = .int .i64 (m : Int)
                  | 31 => v = .pointer (some ⟨G, 0, none⟩)
                  | 32 => v = .pointer (some ⟨G, 0, none⟩)
                  | 33 => v = .pointer (some ⟨G, 0, none⟩)
                  | 34 => v = .int .i64 (N : Int)
                  | 35 => v = .pointer (some ⟨G, 0, none⟩)
                  | 36 => v = .pointer (some ⟨G, 0, none⟩)
                  | 37 => v = .pointer (some ⟨G, 1, none⟩)
                  | 38 => v = .slice A1 p d1
                  | 39 => v = .int .i64 (p : Int)
                  | 40 => v = .int .i64 (np : Int)
                  | 41 => v = .pointer (some ⟨G, 0, none⟩)
                  | 42 => v = .pointer (some ⟨G, 0, none⟩)
                  | 43 => v = .pointer (some ⟨G, 2, none⟩)
                  | 44 => v = .slice A2 r d2
                  | 45 => v = .int .i64 (r : Int)
                  | 46 => v = .int .i64 (m : Int)
                  | 47 => v = .bool false
                  | 48 => v = .bool false
                  | 49 => v = .bool false
                  | 50 => v = .pointer (some ⟨w.heap.size + 1, 0, none⟩)
                  | 51 => v = .int .i64 a2
                  | 52 => v = .bool b1
                  | 53 => v = .pointer (some ⟨G, 0, none⟩)
                  | 54 => v = .int .i64 a2
                  | 55 => v = .bool b1
                  | 56 => v = .bool false
                  | 57 => v = .bool false
                  | 58 => v = .bool false
                  | 59 => v = .pointer (some ⟨w.heap.size + 1, 0, none⟩)
                  | 60 => v = .slice (some ⟨b, off, none⟩) len1 cap1
                  | 61 => v = .int .i64 (j : Int)
                  | 62 => v = .pointer (some ⟨b, off + j * 2, none⟩)
                  | 63 => v = .pointer (some ⟨b, off + j * 2 + 1, none⟩)
                  | 64 => v = .int .i64 kn
                  | 65 => v = .bool b2
                  | 66 => v = .pointer (some ⟨G, 0, none⟩)
                  | 67 => v = .slice (some ⟨b, off, none⟩) len1 cap1
                  | 68 => v = .int .i64 (j : Int)
                  | 69 => v = .pointer (some ⟨b, off + j * 2, none⟩)
                  | 70 => v = .pointer (some ⟨b, off + j * 2 + 1, none⟩)
                  | 71 => v = .int .i64 kn
                  | 72 => v = .bool b2
                  | 73 => v = .bool false
                  | 74 => v = .bool false
                  | _ => True) (Below.refl _ _) ?_ ?_ ?_
              · intro i v W W' h hb
                match i, h with
                | 0, h => exact h
                | 1, h => exact h
                | 2, h => exact h
                | 3, h => exact h
                | 4, h => exact h
                | 5, h => exact h
                | 6, h => exact h
                | 7, h => exact h
                | 8, h => exact h
                | 9, h => exact h
                | 10, h => exact h
                | 11, h => exact h
                | 12, h => exact h
                | 13, h => exact h
                | 14, h => exact h
                | 15, h => exact h
                | 16, h => exact h
                | 17, h => exact h
                | 18, h => exact h
                | 19, h => exact h
                | 20, h => exact h
                | 21, h => exact h
                | 22, h => exact h
                | 23, h => exact h
                | 24, h => exact h
                | 25, h => exact h
                | 26, h => exact h
                | 27, h => exact h
                | 28, h => exact h
                | 29, h => exact h
                | 30, h => exact h
                | 31, h => exact h
                | 32, h => exact h
                | 33, h => exact h
                | 34, h => exact h
                | 35, h => exact h
                | 36, h => exact h
                | 37, h => exact h
                | 38, h => exact h
                | 39, h => exact h
                | 40, h => exact h
                | 41, h => exact h
                | 42, h => exact h
                | 43, h => exact h
                | 44, h => exact h
                | 45, h => exact h
                | 46, h => exact h
                | 47, h => exact h
                | 48, h => exact h
                | 49, h => exact h
                | 50, h => exact h
                | 51, h => exact h
                | 52, h => exact h
                | 53, h => exact h
                | 54, h => exact h
                | 55, h => exact h
                | 56, h => exact h
                | 57, h => exact h
                | 58, h => exact h
                | 59, h => exact h
                | 60, h => exact h
                | 61, h => exact h
                | 62, h => exact h
                | 63, h => exact h
                | 64, h => exact h
                | 65, h => exact h
                | 66, h => exact h
                | 67, h => exact h
                | 68, h => exact h
                | 69, h => exact h
                | 70, h => exact h
                | 71, h => exact h
                | 72, h => exact h
                | 73, h => exact h
                | 74, h => exact h
                | _ + 75, _ => trivial
              · intro i o uu W hoo hVW hd
                rcases i with _|_|_|_|_|_|_|_|_|_|_|_|_|_|_|_|_|_|_|_|_|_|_|_|_|_|_|_|_|_|_|_|_|_|_|_|_|_|_|_|_|_|_|_|_|_|_|_|_|_|_|_|_|_|_|_|_|_|_|_|_|_|_|_|_|_|_|_|_|_|_|_|_|_|_|i
                · obtain rfl := Option.some.inj hoo
                  refine .inl ⟨wanted_none rfl, ?_⟩
                  generalize hev : Act.eval _ = ev
                  have ec : ∀ c, ev (.const c) = c := fun c => by rw [← hev]; rfl
                  have e14 : ev (.tmp 14) = .int .i64 xn := by rw [← hev]; exact eval_old (by kernel_rfl) 176 rfl (by decide) rfl
                  clear hev hd
                  exact .inl ⟨_, W, by go_simp, rfl, Below.refl _ _⟩
                · obtain rfl := Option.some.inj hoo
                  refine .inl ⟨wanted_none rfl, ?_⟩
                  generalize hev : Act.eval _ = ev
                  have ec : ∀ c, ev (.const c) = c := fun c => by rw [← hev]; rfl
                  have e16 : ev (.tmp 16) = .int .i64 xn := by rw [← hev]; exact eval_old (by kernel_rfl) 176 rfl (by decide) rfl
                  clear hev hd
                  exact .inl ⟨_, W, by go_simp, rfl, Below.refl _ _⟩
                · obtain rfl := Option.some.inj hoo
                  have q0 : uu 0 = .int .i64 xn := hd 0 (by kernel_rfl)
                  have q1 : uu 1 = .int .i64 xn := hd 1 (by kernel_rfl)
                  refine .inl ⟨wanted_none rfl, ?_⟩
                  generalize hev : Act.eval _ = ev
                  have ec : ∀ c, ev (.const c) = c := fun c => by rw [← hev]; rfl
                  have e100 : ev (.tmp 100) = .int .i64 xn := by rw [← hev]; exact (eval_put (by kernel_rfl) 176 rfl (by decide)).trans q0
                  have e101 : ev (.tmp 101) = .int .i64 xn := by rw [← hev]; exact (eval_put (by kernel_rfl) 176 rfl (by decide)).trans q1
                  clear hev hd q0 q1
                  exact .inl ⟨_, W, by go_simp, rfl, Below.refl _ _⟩
                · obtain rfl := Option.some.inj hoo
                  have q2 : uu 2 = .bool false := hd 2 (by kernel_rfl)
                  refine .inl ⟨wanted_none rfl, ?_⟩
                  generalize hev : Act.eval _ = ev
                  have ec : ∀ c, ev (.const c) = c := fun c => by rw [← hev]; rfl
                  have e102 : ev (.tmp 102) = .bool false := by rw [← hev]; exact (eval_put (by kernel_rfl) 176 rfl (by decide)).trans q2
                  clear hev hd q2
                  exact .inl ⟨_, W, by go_simp, rfl, Below.refl _ _⟩
                · obtain rfl := Option.some.inj hoo
                  have q3 : uu 3 = .bool false := hd 3 (by kernel_rfl)
                  refine .inl ⟨wanted_yes rfl (yielded_put (k := 103) (by kernel_rfl) (by kernel_rfl) 176 rfl (by decide) q3), ?_⟩
                  generalize hev : Act.eval _ = ev
                  have ec : ∀ c, ev (.const c) = c := fun c => by rw [← hev]; rfl
                  have e15 : ev (.tmp 15) = .bool bn := by rw [← hev]; exact eval_old (by kernel_rfl) 176 rfl (by decide) rfl
                  clear hev hd q3
                  exact .inl ⟨_, W, by go_simp, rfl, Below.refl _ _⟩
                · obtain rfl := Option.some.inj hoo
                  have q3 : uu 3 = .bool false := hd 3 (by kernel_rfl)
                  refine .inl ⟨wanted_yes rfl (yielded_put (k := 103) (by kernel_rfl) (by kernel_rfl) 176 rfl (by decide) q3), ?_⟩
                  generalize hev : Act.eval _ = ev
                  have ec : ∀ c, ev (.const c) = c := fun c => by rw [← hev]; rfl
                  have e17 : ev (.tmp 17) = .bool bn := by rw [← hev]; exact eval_old (by kernel_rfl) 176 rfl (by decide) rfl
                  clear hev hd q3
                  exact .inl ⟨_, W, by go_simp, rfl, Below.refl _ _⟩
                · obtain rfl := Option.some.inj hoo
                  have q4 : uu 4 = .bool bn := hd 4 (by kernel_rfl)
                  have q5 : uu 5 = .bool bn := hd 5 (by kernel_rfl)
                  have q3 : uu 3 = .bool false := hd 3 (by kernel_rfl)
                  refine .inl ⟨wanted_yes rfl (yielded_put (k := 103) (by kernel_rfl) (by kernel_rfl) 176 rfl (by decide) q3), ?_⟩
                  generalize hev : Act.eval _ = ev
                  have ec : ∀ c, ev (.const c) = c := fun c => by rw [← hev]; rfl
                  have e104 : ev (.tmp 104) = .bool bn := by rw [← hev]; exact (eval_put (by kernel_rfl) 176 rfl (by decide)).trans q4
                  have e105 : ev (.tmp 105) = .bool bn := by rw [← hev]; exact (eval_put (by kernel_rfl) 176 rfl (by decide)).trans q5
                  clear hev hd q4 q5 q3
                  exact .inl ⟨_, W, by go_simp, rfl, Below.refl _ _⟩
                · obtain rfl := Option.some.inj hoo
                  have q3 : uu 3 = .bool false := hd 3 (by kernel_rfl)
                  have q6 : uu 6 = .bool false := hd 6 (by kernel_rfl)
                  refine .inl ⟨wanted_none rfl, ?_⟩
                  generalize hev : Act.eval _ = ev
                  have ec : ∀ c, ev (.const c) = c := fun c => by rw [← hev]; rfl
                  have e103 : ev (.tmp 103) = .bool false := by rw [← hev]; exact (eval_put (by kernel_rfl) 176 rfl (by decide)).trans q3
                  have e106 : ev (.tmp 106) = .bool false := by rw [← hev]; exact (eval_put (by kernel_rfl) 176 rfl (by decide)).trans q6
                  clear hev hd q3 q6
                  exact .inl ⟨_, W, by go_simp, rfl, Below.refl _ _⟩
                · obtain rfl := Option.some.inj hoo
                  have q7 : uu 7 = .bool false := hd 7 (by kernel_rfl)
                  refine .inl ⟨wanted_none rfl, ?_⟩
                  generalize hev : Act.eval _ = ev
                  have ec : ∀ c, ev (.const c) = c := fun c => by rw [← hev]; rfl
                  have e107 : ev (.tmp 107) = .bool false := by rw [← hev]; exact (eval_put (by kernel_rfl) 176 rfl (by decide)).trans q7
                  clear hev hd q7
                  exact .inl ⟨_, W, by go_simp, rfl, Below.refl _ _⟩
                · obtain rfl := Option.some.inj hoo
                  have q8 : uu 8 = .bool false := hd 8 (by kernel_rfl)
                  refine .inl ⟨wanted_yes rfl (yielded_put (k := 108) (by kernel_rfl) (by kernel_rfl) 176 rfl (by decide) q8), ?_⟩
                  generalize hev : Act.eval _ = ev
                  have ec : ∀ c, ev (.const c) = c := fun c => by rw [← hev]; rfl
                  have e7 : ev (.tmp 7) = .pointer (some ⟨w.heap.size + 1, 0, none⟩) := by rw [← hev]; exact eval_old (by kernel_rfl) 176 rfl (by decide) rfl
                  clear hev hd q8
                  exact .inl ⟨_, W, by go_simp, rfl, Below.refl _ _⟩
                · obtain rfl := Option.some.inj hoo
                  have q9 : uu 9 = .pointer (some ⟨w.heap.size + 1, 0, none⟩) := hd 9 (by kernel_rfl)
                  have q8 : uu 8 = .bool false := hd 8 (by kernel_rfl)
                  refine .inl ⟨wanted_yes rfl (yielded_put (k := 108) (by kernel_rfl) (by kernel_rfl) 176 rfl (by decide) q8), ?_⟩
                  generalize hev : Act.eval _ = ev
                  have ec : ∀ c, ev (.const c) = c := fun c => by rw [← hev]; rfl
                  have ef : ∀ f, ev (.func f) = .func (.func f) #[] #[] := fun f => by rw [← hev]; rfl
                  have e109 : ev (.tmp 109) = .pointer (some ⟨w.heap.size + 1, 0, none⟩) := by rw [← hev]; exact (eval_put (by kernel_rfl) 176 rfl (by decide)).trans q9
                  clear hev hd q9 q8
                  exact .inr ⟨_, _, _, by go_simp, (T1 W hVW).out, fun e w' he => ⟨_, he.1, rfl, he.2 ▸ Below.refl _ _⟩⟩
                · obtain rfl := Option.some.inj hoo
                  have q8 : uu 8 = .bool false := hd 8 (by kernel_rfl)
                  refine .inl ⟨wanted_yes rfl (yielded_put (k := 108) (by kernel_rfl) (by kernel_rfl) 176 rfl (by decide) q8), ?_⟩
                  generalize hev : Act.eval _ = ev
                  have ec : ∀ c, ev (.const c) = c := fun c => by rw [← hev]; rfl
                  have e8 : ev (.tmp 8) = .pointer (some ⟨G, 0, none⟩) := by rw [← hev]; exact eval_old (by kernel_rfl) 176 rfl (by decide) rfl
                  clear hev hd q8
                  exact .inl ⟨_, W, by go_simp, rfl, Below.refl _ _⟩
                · obtain rfl := Option.some.inj hoo
                  have q11 : uu 11 = .pointer (some ⟨G, 0, none⟩) := hd 11 (by kernel_rfl)
                  have q8 : uu 8 = .bool false := hd 8 (by kernel_rfl)
                  refine .inl ⟨wanted_yes rfl (yielded_put (k := 108) (by kernel_rfl) (by kernel_rfl) 176 rfl (by decide) q8), ?_⟩
                  generalize hev : Act.eval _ = ev
                  have ec : ∀ c, ev (.const c) = c := fun c => by rw [← hev]; rfl
                  have e111 : ev (.tmp 111) = .pointer (some ⟨G, 0, none⟩) := by rw [← hev]; exact (eval_put (by kernel_rfl) 176 rfl (by decide)).trans q11
                  clear hev hd q11 q8
                  exact .inl ⟨_, W, by go_simp, rfl, Below.refl _ _⟩
                · obtain rfl := Option.some.inj hoo
                  have q12 : uu 12 = .pointer (some ⟨G, 0, none⟩) := hd 12 (by kernel_rfl)
                  have q8 : uu 8 = .bool false := hd 8 (by kernel_rfl)
                  refine .inl ⟨wanted_yes rfl (yielded_put (k := 108) (by kernel_rfl) (by kernel_rfl) 176 rfl (by decide) q8), ?_⟩
                  generalize hev : Act.eval _ = ev
                  have ec : ∀ c, ev (.const c) = c := fun c => by rw [← hev]; rfl
                  have e112 : ev (.tmp 112) = .pointer (some ⟨G, 0, none⟩) := by rw [← hev]; exact (eval_put (by kernel_rfl) 176 rfl (by decide)).trans q12
                  clear hev hd q12 q8
                  exact .inl ⟨_, W, by go_simp, rfl, Below.refl _ _⟩
                · obtain rfl := Option.some.inj hoo
                  have q13 : uu 13 = .pointer (some ⟨G, 1, none⟩) := hd 13 (by kernel_rfl)
                  have q8 : uu 8 = .bool false := hd 8 (by kernel_rfl)
                  refine .inl ⟨wanted_yes rfl (yielded_put (k := 108) (by kernel_rfl) (by kernel_rfl) 176 rfl (by decide) q8), ?_⟩
                  generalize hev : Act.eval _ = ev
                  have ec : ∀ c, ev (.const c) = c := fun c => by rw [← hev]; rfl
                  have e113 : ev (.tmp 113) = .pointer (some ⟨G, 1, none⟩) := by rw [← hev]; exact (eval_put (by kernel_rfl) 176 rfl (by decide)).trans q13
                  clear hev hd q13 q8
                  obtain ⟨cc0, cc1, cc2, cc3⟩ := HCC W hVW
                  exact .inl ⟨_, W, by go_simp, rfl, Below.refl _ _⟩
                · obtain rfl := Option.some.inj hoo
                  have q14 : uu 14 = .slice A1 p d1 := hd 14 (by kernel_rfl)
                  have q8 : uu 8 = .bool false := hd 8 (by kernel_rfl)
                  refine .inl ⟨wanted_yes rfl (yielded_put (k := 108) (by kernel_rfl) (by kernel_rfl) 176 rfl (by decide) q8), ?_⟩
                  generalize hev : Act.eval _ = ev
                  have ec : ∀ c, ev (.const c) = c := fun c => by rw [← hev]; rfl
                  have e114 : ev (.tmp 114) = .slice A1 p d1 := by rw [← hev]; exact (eval_put (by kernel_rfl) 176 rfl (by decide)).trans q14
                  clear hev hd q14 q8
                  exact .inl ⟨_, W, by go_simp, rfl, Below.refl _ _⟩
                · obtain rfl := Option.some.inj hoo
                  have q10 : uu 10 = .int .i64 (p : Int) := hd 10 (by kernel_rfl)
                  have q15 : uu 15 = .int .i64 (p : Int) := hd 15 (by kernel_rfl)
                  have q8 : uu 8 = .bool false := hd 8 (by kernel_rfl)
                  refine .inl ⟨wanted_yes rfl (yielded_put (k := 108) (by kernel_rfl) (by kernel_rfl) 176 rfl (by decide) q8), ?_⟩
                  generalize hev : Act.eval _ = ev
                  have ec : ∀ c, ev (.const c) = c := fun c => by rw [← hev]; rfl
                  have e110 : ev (.tmp 110) = .int .i64 (p : Int) := by rw [← hev]; exact (eval_put (by kernel_rfl) 176 rfl (by decide)).trans q10
                  have e115 : ev (.tmp 115) = .int .i64 (p : Int) := by rw [← hev]; exact (eval_put (by kernel_rfl) 176 rfl (by decide)).trans q15
                  clear hev hd q10 q15 q8
                  exact .inl ⟨_, W, by go_simp, rfl, Below.refl _ _⟩
                · obtain rfl := Option.some.inj hoo
                  have q8 : uu 8 = .bool false := hd 8 (by kernel_rfl)
                  have q16 : uu 16 = .bool false := hd 16 (by kernel_rfl)
                  refine .inl ⟨wanted_none rfl, ?_⟩
                  generalize hev : Act.eval _ = ev
                  have ec : ∀ c, ev (.const c) = c := fun c => by rw [← hev]; rfl
                  have e108 : ev (.tmp 108) = .bool false := by rw [← hev]; exact (eval_put (by kernel_rfl) 176 rfl (by decide)).trans q8
                  have e116 : ev (.tmp 116) = .bool false := by rw [← hev]; exact (eval_put (by kernel_rfl) 176 rfl (by decide)).trans q16
                  clear hev hd q8 q16
                  exact .inl ⟨_, W, by go_simp, rfl, Below.refl _ _⟩
                · obtain rfl := Option.some.inj hoo
                  have q17 : uu 17 = .bool false := hd 17 (by kernel_rfl)
                  refine .inl ⟨wanted_none rfl, ?_⟩
                  generalize hev : Act.eval _ = ev
                  have ec : ∀ c, ev (.const c) = c := fun c => by rw [← hev]; rfl
                  have e117 : ev (.tmp 117) = .bool false := by rw [← hev]; exact (eval_put (by kernel_rfl) 176 rfl (by decide)).trans q17
                  clear hev hd q17
                  exact .inl ⟨_, W, by go_simp, rfl, Below.refl _ _⟩
                · obtain rfl := Option.some.inj hoo
                  have q18 : uu 18 = .bool false := hd 18 (by kernel_rfl)
                  refine .inl ⟨wanted_yes rfl (yielded_put (k := 118) (by kernel_rfl) (by kernel_rfl) 176 rfl (by decide) q18), ?_⟩
                  generalize hev : Act.eval _ = ev
                  have ec : ∀ c, ev (.const c) = c := fun c => by rw [← hev]; rfl
                  have e7 : ev (.tmp 7) = .pointer (some ⟨w.heap.size + 1, 0, none⟩) := by rw [← hev]; exact eval_old (by kernel_rfl) 176 rfl (by decide) rfl
                  clear hev hd q18
                  exact .inl ⟨_, W, by go_simp, rfl, Below.refl _ _⟩
                · obtain rfl := Option.some.inj hoo
                  have q19 : uu 19 = .pointer (some ⟨w.heap.size + 1, 0, none⟩) := hd 19 (by kernel_rfl)
                  have q18 : uu 18 = .bool false := hd 18 (by kernel_rfl)
                  refine .inl ⟨wanted_yes rfl (yielded_put (k := 118) (by kernel_rfl) (by kernel_rfl) 176 rfl (by decide) q18), ?_⟩
                  generalize hev : Act.eval _ = ev
                  have ec : ∀ c, ev (.const c) = c := fun c => by rw [← hev]; rfl
                  have ef : ∀ f, ev (.func f) = .func (.func f) #[] #[] := fun f => by rw [← hev]; rfl
                  have e119 : ev (.tmp 119) = .pointer (some ⟨w.heap.size + 1, 0, none⟩) := by rw [← hev]; exact (eval_put (by kernel_rfl) 176 rfl (by decide)).trans q19
                  clear hev hd q19 q18
                  exact .inr ⟨_, _, _, by go_simp, (T2 W hVW).out, fun e w' he => ⟨_, he.1, rfl, he.2 ▸ Below.refl _ _⟩⟩
                · obtain rfl := Option.some.inj hoo
                  have q18 : uu 18 = .bool false := hd 18 (by kernel_rfl)
                  refine .inl ⟨wanted_yes rfl (yielded_put (k := 118) (by kernel_rfl) (by kernel_rfl) 176 rfl (by decide) q18), ?_⟩
                  generalize hev : Act.eval _ = ev
                  have ec : ∀ c, ev (.const c) = c := fun c => by rw [← hev]; rfl
                  have e8 : ev (.tmp 8) = .pointer (some ⟨G, 0, none⟩) := by rw [← hev]; exact eval_old (by kernel_rfl) 176 rfl (by decide) rfl
                  clear hev hd q18
                  exact .inl ⟨_, W, by go_simp, rfl, Below.refl _ _⟩
                · obtain rfl := Option.some.inj hoo
                  have q21 : uu 21 = .pointer (some ⟨G, 0, none⟩) := hd 21 (by kernel_rfl)
                  have q18 : uu 18 = .bool false := hd 18 (by kernel_rfl)
                  refine .inl ⟨wanted_yes rfl (yielded_put (k := 118) (by kernel_rfl) (by kernel_rfl) 176 rfl (by decide) q18), ?_⟩
                  generalize hev : Act.eval _ = ev
                  have ec : ∀ c, ev (.const c) = c := fun c => by rw [← hev]; rfl
                  have e121 : ev (.tmp 121) = .pointer (some ⟨G, 0, none⟩) := by rw [← hev]; exact (eval_put (by kernel_rfl) 176 rfl (by decide)).trans q21
                  clear hev hd q21 q18
                  exact .inl ⟨_, W, by go_simp, rfl, Below.refl _ _⟩
                · obtain rfl := Option.some.inj hoo
                  have q22 : uu 22 = .pointer (some ⟨G, 0, none⟩) := hd 22 (by kernel_rfl)
                  have q18 : uu 18 = .bool false := hd 18 (by kernel_rfl)
                  refine .inl ⟨wanted_yes rfl (yielded_put (k := 118) (by kernel_rfl) (by kernel_rfl) 176 rfl (by decide) q18), ?_⟩
                  generalize hev : Act.eval _ = ev
                  have ec : ∀ c, ev (.const c) = c := fun c => by rw [← hev]; rfl
                  have e122 : ev (.tmp 122) = .pointer (some ⟨G, 0, none⟩) := by rw [← hev]; exact (eval_put (by kernel_rfl) 176 rfl (by decide)).trans q22
                  clear hev hd q22 q18
                  exact .inl ⟨_, W, by go_simp, rfl, Below.refl _ _⟩
                · obtain rfl := Option.some.inj hoo
                  have q23 : uu 23 = .pointer (some ⟨G, 2, none⟩) := hd 23 (by kernel_rfl)
                  have q18 : uu 18 = .bool false := hd 18 (by kernel_rfl)
                  refine .inl ⟨wanted_yes rfl (yielded_put (k := 118) (by kernel_rfl) (by kernel_rfl) 176 rfl (by decide) q18), ?_⟩
                  generalize hev : Act.eval _ = ev
                  have ec : ∀ c, ev (.const c) = c := fun c => by rw [← hev]; rfl
                  have e123 : ev (.tmp 123) = .pointer (some ⟨G, 2, none⟩) := by rw [← hev]; exact (eval_put (by kernel_rfl) 176 rfl (by decide)).trans q23
                  clear hev hd q23 q18
                  obtain ⟨cc0, cc1, cc2, cc3⟩ := HCC W hVW
                  exact .inl ⟨_, W, by go_simp, rfl, Below.refl _ _⟩
                · obtain rfl := Option.some.inj hoo
                  have q24 : uu 24 = .slice A2 r d2 := hd 24 (by kernel_rfl)
                  have q18 : uu 18 = .bool false := hd 18 (by kernel_rfl)
                  refine .inl ⟨wanted_yes rfl (yielded_put (k := 118) (by kernel_rfl) (by kernel_rfl) 176 rfl (by decide) q18), ?_⟩
                  generalize hev : Act.eval _ = ev
                  have ec : ∀ c, ev (.const c) = c := fun c => by rw [← hev]; rfl
                  have e124 : ev (.tmp 124) = .slice A2 r d2 := by rw [← hev]; exact (eval_put (by kernel_rfl) 176 rfl (by decide)).trans q24
                  clear hev hd q24 q18
                  exact .inl ⟨_, W, by go_simp, rfl, Below.refl _ _⟩
                · obtain rfl := Option.some.inj hoo
                  have q20 : uu 20 = .int .i64 (r : Int) := hd 20 (by kernel_rfl)
                  have q25 : uu 25 = .int .i64 (r : Int) := hd 25 (by kernel_rfl)
                  have q18 : uu 18 = .bool false := hd 18 (by kernel_rfl)
                  refine .inl ⟨wanted_yes rfl (yielded_put (k := 118) (by kernel_rfl) (by kernel_rfl) 176 rfl (by decide) q18), ?_⟩
                  generalize hev : Act.eval _ = ev
                  have ec : ∀ c, ev (.const c) = c := fun c => by rw [← hev]; rfl
                  have e120 : ev (.tmp 120) = .int .i64 (r : Int) := by rw [← hev]; exact (eval_put (by kernel_rfl) 176 rfl (by decide)).trans q20
                  have e125 : ev (.tmp 125) = .int .i64 (r : Int) := by rw [← hev]; exact (eval_put (by kernel_rfl) 176 rfl (by decide)).trans q25
                  clear hev hd q20 q25 q18
                  exact .inl ⟨_, W, by go_simp, rfl, Below.refl _ _⟩
                · obtain rfl := Option.some.inj hoo
                  have q18 : uu 18 = .bool false := hd 18 (by kernel_rfl)
                  have q26 : uu 26 = .bool false := hd 26 (by kernel_rfl)
                  refine .inl ⟨wanted_none rfl, ?_⟩
                  generalize hev : Act.eval _ = ev
                  have ec : ∀ c, ev (.const c) = c := fun c => by rw [← hev]; rfl
                  have e118 : ev (.tmp 118) = .bool false := by rw [← hev]; exact (eval_put (by kernel_rfl) 176 rfl (by decide)).trans q18
                  have e126 : ev (.tmp 126) = .bool false := by rw [← hev]; exact (eval_put (by kernel_rfl) 176 rfl (by decide)).trans q26
                  clear hev hd q18 q26
                  exact .inl ⟨_, W, by go_simp, rfl, Below.refl _ _⟩
                · obtain rfl := Option.some.inj hoo
                  have q27 : uu 27 = .bool false := hd 27 (by kernel_rfl)
                  refine .inl ⟨wanted_none rfl, ?_⟩
                  generalize hev : Act.eval _ = ev
                  have ec : ∀ c, ev (.const c) = c := fun c => by rw [← hev]; rfl
                  have e127 : ev (.tmp 127) = .bool false := by rw [← hev]; exact (eval_put (by kernel_rfl) 176 rfl (by decide)).trans q27
                  clear hev hd q27
                  exact .inl ⟨_, W, by go_simp, rfl, Below.refl _ _⟩
                · obtain rfl := Option.some.inj hoo
                  have q28 : uu 28 = .bool false := hd 28 (by kernel_rfl)
                  refine .inl ⟨wanted_yes rfl (yielded_put (k := 128) (by kernel_rfl) (by kernel_rfl) 176 rfl (by decide) q28), ?_⟩
                  generalize hev : Act.eval _ = ev
                  have ec : ∀ c, ev (.const c) = c := fun c => by rw [← hev]; rfl
                  have e7 : ev (.tmp 7) = .pointer (some ⟨w.heap.size + 1, 0, none⟩) := by rw [← hev]; exact eval_old (by kernel_rfl) 176 rfl (by decide) rfl
                  clear hev hd q28
                  exact .inl ⟨_, W, by go_simp, rfl, Below.refl _ _⟩
                · obtain rfl := Option.some.inj hoo
                  have q29 : uu 29 = .pointer (some ⟨w.heap.size + 1, 0, none⟩) := hd 29 (by kernel_rfl)
                  have q28 : uu 28 = .bool false := hd 28 (by kernel_rfl)
                  refine .inl ⟨wanted_yes rfl (yielded_put (k := 128) (by kernel_rfl) (by kernel_rfl) 176 rfl (by decide) q28), ?_⟩
                  generalize hev : Act.eval _ = ev
                  have ec : ∀ c, ev (.const c) = c := fun c => by rw [← hev]; rfl
                  have ef : ∀ f, ev (.func f) = .func (.func f) #[] #[] := fun f => by rw [← hev]; rfl
                  have e129 : ev (.tmp 129) = .pointer (some ⟨w.heap.size + 1, 0, none⟩) := by rw [← hev]; exact (eval_put (by kernel_rfl) 176 rfl (by decide)).trans q29
                  clear hev hd q29 q28
                  exact .inr ⟨_, _, _, by go_simp, (T3 W hVW).out, fun e w' he => ⟨_, he.1, rfl, he.2 ▸ Below.refl _ _⟩⟩
                · obtain rfl := Option.some.inj hoo
                  have q28 : uu 28 = .bool false := hd 28 (by kernel_rfl)
                  refine .inl ⟨wanted_yes rfl (yielded_put (k := 128) (by kernel_rfl) (by kernel_rfl) 176 rfl (by decide) q28), ?_⟩
                  generalize hev : Act.eval _ = ev
                  have ec : ∀ c, ev (.const c) = c := fun c => by rw [← hev]; rfl
                  have e8 : ev (.tmp 8) = .pointer (some ⟨G, 0, none⟩) := by rw [← hev]; exact eval_old (by kernel_rfl) 176 rfl (by decide) rfl
                  clear hev hd q28
                  exact .inl ⟨_, W, by go_simp, rfl, Below.refl _ _⟩
                · obtain rfl := Option.some.inj hoo
                  have q31 : uu 31 = .pointer (some ⟨G, 0, none⟩) := hd 31 (by kernel_rfl)
                  have q28 : uu 28 = .bool false := hd 28 (by kernel_rfl)
                  refine .inl ⟨wanted_yes rfl (yielded_put (k := 128) (by kernel_rfl) (by kernel_rfl) 176 rfl (by decide) q28), ?_⟩
                  generalize hev : Act.eval _ = ev
                  have ec : ∀ c, ev (.const c) = c := fun c => by rw [← hev]; rfl
                  have e131 : ev (.tmp 131) = .pointer (some ⟨G, 0, none⟩) := by rw [← hev]; exact (eval_put (by kernel_rfl) 176 rfl (by decide)).trans q31
                  clear hev hd q31 q28
                  exact .inl ⟨_, W, by go_simp, rfl, Below.refl _ _⟩
                · obtain rfl := Option.some.inj hoo
                  have q32 : uu 32 = .pointer (some ⟨G, 0, none⟩) := hd 32 (by kernel_rfl)
                  have q28 : uu 28 = .bool false := hd 28 (by kernel_rfl)
                  refine .inl ⟨wanted_yes rfl (yielded_put (k := 128) (by kernel_rfl) (by kernel_rfl) 176 rfl (by decide) q28), ?_⟩
                  generalize hev : Act.eval _ = ev
                  have ec : ∀ c, ev (.const c) = c := fun c => by rw [← hev]; rfl
                  have e132 : ev (.tmp 132) = .pointer (some ⟨G, 0, none⟩) := by rw [← hev]; exact (eval_put (by kernel_rfl) 176 rfl (by decide)).trans q32
                  clear hev hd q32 q28
                  exact .inl ⟨_, W, by go_simp, rfl, Below.refl _ _⟩
                · obtain rfl := Option.some.inj hoo
                  have q33 : uu 33 = .pointer (some ⟨G, 0, none⟩) := hd 33 (by kernel_rfl)
                  have q28 : uu 28 = .bool false := hd 28 (by kernel_rfl)
                  refine .inl ⟨wanted_yes rfl (yielded_put (k := 128) (by kernel_rfl) (by kernel_rfl) 176 rfl (by decide) q28), ?_⟩
                  generalize hev : Act.eval _ = ev
                  have ec : ∀ c, ev (.const c) = c := fun c => by rw [← hev]; rfl
                  have e133 : ev (.tmp 133) = .pointer (some ⟨G, 0, none⟩) := by rw [← hev]; exact (eval_put (by kernel_rfl) 176 rfl (by decide)).trans q33
                  clear hev hd q33 q28
                  obtain ⟨cc0, cc1, cc2, cc3⟩ := HCC W hVW
                  exact .inl ⟨_, W, by go_simp, rfl, Below.refl _ _⟩
                · obtain rfl := Option.some.inj hoo
                  have q28 : uu 28 = .bool false := hd 28 (by kernel_rfl)
                  refine .inl ⟨wanted_yes rfl (yielded_put (k := 128) (by kernel_rfl) (by kernel_rfl) 176 rfl (by decide) q28), ?_⟩
                  generalize hev : Act.eval _ = ev
                  have ec : ∀ c, ev (.const c) = c := fun c => by rw [← hev]; rfl
                  have e8 : ev (.tmp 8) = .pointer (some ⟨G, 0, none⟩) := by rw [← hev]; exact eval_old (by kernel_rfl) 176 rfl (by decide) rfl
                  clear hev hd q28
                  exact .inl ⟨_, W, by go_simp, rfl, Below.refl _ _⟩
                · obtain rfl := Option.some.inj hoo
                  have q35 : uu 35 = .pointer (some ⟨G, 0, none⟩) := hd 35 (by kernel_rfl)
                  have q28 : uu 28 = .bool false := hd 28 (by kernel_rfl)
                  refine .inl ⟨wanted_yes rfl (yielded_put (k := 128) (by kernel_rfl) (by kernel_rfl) 176 rfl (by decide) q28), ?_⟩
                  generalize hev : Act.eval _ = ev
                  have ec : ∀ c, ev (.const c) = c := fun c => by rw [← hev]; rfl
                  have e135 : ev (.tmp 135) = .pointer (some ⟨G, 0, none⟩) := by rw [← hev]; exact (eval_put (by kernel_rfl) 176 rfl (by decide)).trans q35
                  clear hev hd q35 q28
                  exact .inl ⟨_, W, by go_simp, rfl, Below.refl _ _⟩
                · obtain rfl := Option.some.inj hoo
                  have q36 : uu 36 = .pointer (some ⟨G, 0, none⟩) := hd 36 (by kernel_rfl)
                  have q28 : uu 28 = .bool false := hd 28 (by kernel_rfl)
                  refine .inl ⟨wanted_yes rfl (yielded_put (k := 128) (by kernel_rfl) (by kernel_rfl) 176 rfl (by decide) q28), ?_⟩
                  generalize hev : Act.eval _ = ev
                  have ec : ∀ c, ev (.const c) = c := fun c => by rw [← hev]; rfl
                  have e136 : ev (.tmp 136) = .pointer (some ⟨G, 0, none⟩) := by rw [← hev]; exact (eval_put (by kernel_rfl) 176 rfl (by decide)).trans q36
                  clear hev hd q36 q28
                  exact .inl ⟨_, W, by go_simp, rfl, Below.refl _ _⟩
                · obtain rfl := Option.some.inj hoo
                  have q37 : uu 37 = .pointer (some ⟨G, 1, none⟩) := hd 37 (by kernel_rfl)
                  have q28 : uu 28 = .bool false := hd 28 (by kernel_rfl)
                  refine .inl ⟨wanted_yes rfl (yielded_put (k := 128) (by kernel_rfl) (by kernel_rfl) 176 rfl (by decide) q28), ?_⟩
                  generalize hev : Act.eval _ = ev
                  have ec : ∀ c, ev (.const c) = c := fun c => by rw [← hev]; rfl
                  have e137 : ev (.tmp 137) = .pointer (some ⟨G, 1, none⟩) := by rw [← hev]; exact (eval_put (by kernel_rfl) 176 rfl (by decide)).trans q37
                  clear hev hd q37 q28
                  obtain ⟨cc0, cc1, cc2, cc3⟩ := HCC W hVW
                  exact .inl ⟨_, W, by go_simp, rfl, Below.refl _ _⟩
                · obtain rfl := Option.some.inj hoo
                  have q38 : uu 38 = .slice A1 p d1 := hd 38 (by kernel_rfl)
                  have q28 : uu 28 = .bool false := hd 28 (by kernel_rfl)
                  refine .inl ⟨wanted_yes rfl (yielded_put (k := 128) (by kernel_rfl) (by kernel_rfl) 176 rfl (by decide) q28), ?_⟩
                  generalize hev : Act.eval _ = ev
                  have ec : ∀ c, ev (.const c) = c := fun c => by rw [← hev]; rfl
                  have e138 : ev (.tmp 138) = .slice A1 p d1 := by rw [← hev]; exact (eval_put (by kernel_rfl) 176 rfl (by decide)).trans q38
                  clear hev hd q38 q28
                  exact .inl ⟨_, W, by go_simp, rfl, Below.refl _ _⟩
                · obtain rfl := Option.some.inj hoo
                  have q34 : uu 34 = .int .i64 (N : Int) := hd 34 (by kernel_rfl)
                  have q39 : uu 39 = .int .i64 (p : Int) := hd 39 (by kernel_rfl)
                  have q28 : uu 28 = .bool false := hd 28 (by kernel_rfl)
                  refine .inl ⟨wanted_yes rfl (yielded_put (k := 128) (by kernel_rfl) (by kernel_rfl) 176 rfl (by decide) q28), ?_⟩
                  generalize hev : Act.eval _ = ev
                  have ec : ∀ c, ev (.const c) = c := fun c => by rw [← hev]; rfl
                  have e134 : ev (.tmp 134) = .int .i64 (N : Int) := by rw [← hev]; exact (eval_put (by kernel_rfl) 176 rfl (by decide)).trans q34
                  have e139 : ev (.tmp 139) = .int .i64 (p : Int) := by rw [← hev]; exact (eval_put (by kernel_rfl) 176 rfl (by decide)).trans q39
                  clear hev hd q34 q39 q28
                  have hh := HF.out.1
                  have hh2 := HF.out.2.1
                  exact .inl ⟨_, W, by go_simp, rfl, Below.refl _ _⟩
                · obtain rfl := Option.some.inj hoo
                  have q28 : uu 28 = .bool false := hd 28 (by kernel_rfl)
                  refine .inl ⟨wanted_yes rfl (yielded_put (k := 128) (by kernel_rfl) (by kernel_rfl) 176 rfl (by decide) q28), ?_⟩
                  generalize hev : Act.eval _ = ev
                  have ec : ∀ c, ev (.const c) = c := fun c => by rw [← hev]; rfl
                  have e8 : ev (.tmp 8) = .pointer (some ⟨G, 0, none⟩) := by rw [← hev]; exact eval_old (by kernel_rfl) 176 rfl (by decide) rfl
                  clear hev hd q28
                  exact .inl ⟨_, W, by go_simp, rfl, Below.refl _ _⟩
                · obtain rfl := Option.some.inj hoo
                  have q41 : uu 41 = .pointer (some ⟨G, 0, none⟩) := hd 41 (by kernel_rfl)
                  have q28 : uu 28 = .bool false := hd 28 (by kernel_rfl)
                  refine .inl ⟨wanted_yes rfl (yielded_put (k := 128) (by kernel_rfl) (by kernel_rfl) 176 rfl (by decide) q28), ?_⟩
                  generalize hev : Act.eval _ = ev
                  have ec : ∀ c, ev (.const c) = c := fun c => by rw [← hev]; rfl
                  have e141 : ev (.tmp 141) = .pointer (some ⟨G, 0, none⟩) := by rw [← hev]; exact (eval_put (by kernel_rfl) 176 rfl (by decide)).trans q41
                  clear hev hd q41 q28
                  exact .inl ⟨_, W, by go_simp, rfl, Below.refl _ _⟩
                · obtain rfl := Option.some.inj hoo
                  have q42 : uu 42 = .pointer (some ⟨G, 0, none⟩) := hd 42 (by kernel_rfl)
                  have q28 : uu 28 = .bool false := hd 28 (by kernel_rfl)
                  refine .inl ⟨wanted_yes rfl (yielded_put (k := 128) (by kernel_rfl) (by kernel_rfl) 176 rfl (by decide) q28), ?_⟩
                  generalize hev : Act.eval _ = ev
                  have ec : ∀ c, ev (.const c) = c := fun c => by rw [← hev]; rfl
                  have e142 : ev (.tmp 142) = .pointer (some ⟨G, 0, none⟩) := by rw [← hev]; exact (eval_put (by kernel_rfl) 176 rfl (by decide)).trans q42
                  clear hev hd q42 q28
                  exact .inl ⟨_, W, by go_simp, rfl, Below.refl _ _⟩
                · obtain rfl := Option.some.inj hoo
                  have q43 : uu 43 = .pointer (some ⟨G, 2, none⟩) := hd 43 (by kernel_rfl)
                  have q28 : uu 28 = .bool false := hd 28 (by kernel_rfl)
                  refine .inl ⟨wanted_yes rfl (yielded_put (k := 128) (by kernel_rfl) (by kernel_rfl) 176 rfl (by decide) q28), ?_⟩
                  generalize hev : Act.eval _ = ev
                  have ec : ∀ c, ev (.const c) = c := fun c => by rw [← hev]; rfl
                  have e143 : ev (.tmp 143) = .pointer (some ⟨G, 2, none⟩) := by rw [← hev]; exact (eval_put (by kernel_rfl) 176 rfl (by decide)).trans q43
                  clear hev hd q43 q28
                  obtain ⟨cc0, cc1, cc2, cc3⟩ := HCC W hVW
                  exact .inl ⟨_, W, by go_simp, rfl, Below.refl _ _⟩
                · obtain rfl := Option.some.inj hoo
                  have q44 : uu 44 = .slice A2 r d2 := hd 44 (by kernel_rfl)
                  have q28 : uu 28 = .bool false := hd 28 (by kernel_rfl)
                  refine .inl ⟨wanted_yes rfl (yielded_put (k := 128) (by kernel_rfl) (by kernel_rfl) 176 rfl (by decide) q28), ?_⟩
                  generalize hev : Act.eval _ = ev
                  have ec : ∀ c, ev (.const c) = c := fun c => by rw [← hev]; rfl
                  have e144 : ev (.tmp 144) = .slice A2 r d2 := by rw [← hev]; exact (eval_put (by kernel_rfl) 176 rfl (by decide)).trans q44
                  clear hev hd q44 q28
                  exact .inl ⟨_, W, by go_simp, rfl, Below.refl _ _⟩
                · obtain rfl := Option.some.inj hoo
                  have q40 : uu 40 = .int .i64 (np : Int) := hd 40 (by kernel_rfl)
                  have q45 : uu 45 = .int .i64 (r : Int) := hd 45 (by kernel_rfl)
                  have q28 : uu 28 = .bool false := hd 28 (by kernel_rfl)
                  refine .inl ⟨wanted_yes rfl (yielded_put (k := 128) (by kernel_rfl) (by kernel_rfl) 176 rfl (by decide) q28), ?_⟩
                  generalize hev : Act.eval _ = ev
                  have ec : ∀ c, ev (.const c) = c := fun c => by rw [← hev]; rfl
                  have e140 : ev (.tmp 140) = .int .i64 (np : Int) := by rw [← hev]; exact (eval_put (by kernel_rfl) 176 rfl (by decide)).trans q40
                  have e145 : ev (.tmp 145) = .int .i64 (r : Int) := by rw [← hev]; exact (eval_put (by kernel_rfl) 176 rfl (by decide)).trans q45
                  clear hev hd q40 q45 q28
                  have hh := HF.out.2.2.1
                  have hh2 := HF.out.2.2.2
                  exact .inl ⟨_, W, by go_simp, rfl, Below.refl _ _⟩
                · obtain rfl := Option.some.inj hoo
                  have q30 : uu 30 = .int .i64 (m : Int) := hd 30 (by kernel_rfl)
                  have q46 : uu 46 = .int .i64 (m : Int) := hd 46 (by kernel_rfl)
                  have q28 : uu 28 = .bool false := hd 28 (by kernel_rfl)
                  refine .inl ⟨wanted_yes rfl (yielded_put (k := 128) (by kernel_rfl) (by kernel_rfl) 176 rfl (by decide) q28), ?_⟩
                  generalize hev : Act.eval _ = ev
                  have ec : ∀ c, ev (.const c) = c := fun c => by rw [← hev]; rfl
                  have e130 : ev (.tmp 130) = .int .i64 (m : Int) := by rw [← hev]; exact (eval_put (by kernel_rfl) 176 rfl (by decide)).trans q30
                  have e146 : ev (.tmp 146) = .int .i64 (m : Int) := by rw [← hev]; exact (eval_put (by kernel_rfl) 176 rfl (by decide)).trans q46
                  clear hev hd q30 q46 q28
                  exact .inl ⟨_, W, by go_simp, rfl, Below.refl _ _⟩
                · obtain rfl := Option.some.inj hoo
                  have q28 : uu 28 = .bool false := hd 28 (by kernel_rfl)
                  have q47 : uu 47 = .bool false := hd 47 (by kernel_rfl)
                  refine .inl ⟨wanted_none rfl, ?_⟩
                  generalize hev : Act.eval _ = ev
                  have ec : ∀ c, ev (.const c) = c := fun c => by rw [← hev]; rfl
                  have e128 : ev (.tmp 128) = .bool false := by rw [← hev]; exact (eval_put (by kernel_rfl) 176 rfl (by decide)).trans q28
                  have e147 : ev (.tmp 147) = .bool false := by rw [← hev]; exact (eval_put (by kernel_rfl) 176 rfl (by decide)).trans q47
                  clear hev hd q28 q47
                  exact .inl ⟨_, W, by go_simp, rfl, Below.refl _ _⟩
                · obtain rfl := Option.some.inj hoo
                  have q48 : uu 48 = .bool false := hd 48 (by kernel_rfl)
                  refine .inl ⟨wanted_none rfl, ?_⟩
                  generalize hev : Act.eval _ = ev
                  have ec : ∀ c, ev (.const c) = c := fun c => by rw [← hev]; rfl
                  have e148 : ev (.tmp 148) = .bool false := by rw [← hev]; exact (eval_put (by kernel_rfl) 176 rfl (by decide)).trans q48
                  clear hev hd q48
                  exact .inl ⟨_, W, by go_simp, rfl, Below.refl _ _⟩
                · obtain rfl := Option.some.inj hoo
                  have q49 : uu 49 = .bool false := hd 49 (by kernel_rfl)
                  refine .inl ⟨wanted_yes rfl (yielded_put (k := 149) (by kernel_rfl) (by kernel_rfl) 176 rfl (by decide) q49), ?_⟩
                  generalize hev : Act.eval _ = ev
                  have ec : ∀ c, ev (.const c) = c := fun c => by rw [← hev]; rfl
                  have e7 : ev (.tmp 7) = .pointer (some ⟨w.heap.size + 1, 0, none⟩) := by rw [← hev]; exact eval_old (by kernel_rfl) 176 rfl (by decide) rfl
                  clear hev hd q49
                  exact .inl ⟨_, W, by go_simp, rfl, Below.refl _ _⟩
                · obtain rfl := Option.some.inj hoo
                  have q49 : uu 49 = .bool false := hd 49 (by kernel_rfl)
                  refine .inl ⟨wanted_yes rfl (yielded_put (k := 149) (by kernel_rfl) (by kernel_rfl) 176 rfl (by decide) q49), ?_⟩
                  generalize hev : Act.eval _ = ev
                  have ec : ∀ c, ev (.const c) = c := fun c => by rw [← hev]; rfl
                  have e2 : ev (.tmp 2) = .int .i64 a2 := by rw [← hev]; exact eval_old (by kernel_rfl) 176 rfl (by decide) rfl
                  clear hev hd q49
                  exact .inl ⟨_, W, by go_simp, rfl, Below.refl _ _⟩
                · obtain rfl := Option.some.inj hoo
                  have q50 : uu 50 = .pointer (some ⟨w.heap.size + 1, 0, none⟩) := hd 50 (by kernel_rfl)
                  have q51 : uu 51 = .int .i64 a2 := hd 51 (by kernel_rfl)
                  have q49 : uu 49 = .bool false := hd 49 (by kernel_rfl)
                  refine .inl ⟨wanted_yes rfl (yielded_put (k := 149) (by kernel_rfl) (by kernel_rfl) 176 rfl (by decide) q49), ?_⟩
                  generalize hev : Act.eval _ = ev
                  have ec : ∀ c, ev (.const c) = c := fun c => by rw [← hev]; rfl
                  have ef : ∀ f, ev (.func f) = .func (.func f) #[] #[] := fun f => by rw [← hev]; rfl
                  have e150 : ev (.tmp 150) = .pointer (some ⟨w.heap.size + 1, 0, none⟩) := by rw [← hev]; exact (eval_put (by kernel_rfl) 176 rfl (by decide)).trans q50
                  have e151 : ev (.tmp 151) = .int .i64 a2 := by rw [← hev]; exact (eval_put (by kernel_rfl) 176 rfl (by decide)).trans q51
                  clear hev hd q50 q51 q49
                  exact .inr ⟨_, _, _, by go_simp, ((hown1 W hVW).1).out, fun e w' he => ⟨_, he.1, rfl, he.2.bel⟩⟩
                · obtain rfl := Option.some.inj hoo
                  have q49 : uu 49 = .bool false := hd 49 (by kernel_rfl)
                  refine .inl ⟨wanted_yes rfl (yielded_put (k := 149) (by kernel_rfl) (by kernel_rfl) 176 rfl (by decide) q49), ?_⟩
                  generalize hev : Act.eval _ = ev
                  have ec : ∀ c, ev (.const c) = c := fun c => by rw [← hev]; rfl
                  have e8 : ev (.tmp 8) = .pointer (some ⟨G, 0, none⟩) := by rw [← hev]; exact eval_old (by kernel_rfl) 176 rfl (by decide) rfl
                  clear hev hd q49
                  exact .inl ⟨_, W, by go_simp, rfl, Below.refl _ _⟩
                · obtain rfl := Option.some.inj hoo
                  have q49 : uu 49 = .bool false := hd 49 (by kernel_rfl)
                  refine .inl ⟨wanted_yes rfl (yielded_put (k := 149) (by kernel_rfl) (by kernel_rfl) 176 rfl (by decide) q49), ?_⟩
                  generalize hev : Act.eval _ = ev
                  have ec : ∀ c, ev (.const c) = c := fun c => by rw [← hev]; rfl
                  have e2 : ev (.tmp 2) = .int .i64 a2 := by rw [← hev]; exact eval_old (by kernel_rfl) 176 rfl (by decide) rfl
                  clear hev hd q49
                  exact .inl ⟨_, W, by go_simp, rfl, Below.refl _ _⟩
                · obtain rfl := Option.some.inj hoo
                  have q53 : uu 53 = .pointer (some ⟨G, 0, none⟩) := hd 53 (by kernel_rfl)
                  have q54 : uu 54 = .int .i64 a2 := hd 54 (by kernel_rfl)
                  have q49 : uu 49 = .bool false := hd 49 (by kernel_rfl)
                  refine .inl ⟨wanted_yes rfl (yielded_put (k := 149) (by kernel_rfl) (by kernel_rfl) 176 rfl (by decide) q49), ?_⟩
                  generalize hev : Act.eval _ = ev
                  have ec : ∀ c, ev (.const c) = c := fun c => by rw [← hev]; rfl
                  have ef : ∀ f, ev (.func f) = .func (.func f) #[] #[] := fun f => by rw [← hev]; rfl
                  have e153 : ev (.tmp 153) = .pointer (some ⟨G, 0, none⟩) := by rw [← hev]; exact (eval_put (by kernel_rfl) 176 rfl (by decide)).trans q53
                  have e154 : ev (.tmp 154) = .int .i64 a2 := by rw [← hev]; exact (eval_put (by kernel_rfl) 176 rfl (by decide)).trans q54
                  clear hev hd q53 q54 q49
                  exact .inr ⟨_, _, _, by go_simp, ((hown1 W hVW).2).out, fun e w' he => ⟨_, he.1, rfl, he.2 ▸ Below.refl _ _⟩⟩
                · obtain rfl := Option.some.inj hoo
                  have q52 : uu 52 = .bool b1 := hd 52 (by kernel_rfl)
                  have q55 : uu 55 = .bool b1 := hd 55 (by kernel_rfl)
                  have q49 : uu 49 = .bool false := hd 49 (by kernel_rfl)
                  refine .inl ⟨wanted_yes rfl (yielded_put (k := 149) (by kernel_rfl) (by kernel_rfl) 176 rfl (by decide) q49), ?_⟩
                  generalize hev : Act.eval _ = ev
                  have ec : ∀ c, ev (.const c) = c := fun c => by rw [← hev]; rfl
                  have e152 : ev (.tmp 152) = .bool b1 := by rw [← hev]; exact (eval_put (by kernel_rfl) 176 rfl (by decide)).trans q52
                  have e155 : ev (.tmp 155) = .bool b1 := by rw [← hev]; exact (eval_put (by kernel_rfl) 176 rfl (by decide)).trans q55
                  clear hev hd q52 q55 q49
                  exact .inl ⟨_, W, by go_simp, rfl, Below.refl _ _⟩
                · obtain rfl := Option.some.inj hoo
                  have q49 : uu 49 = .bool false := hd 49 (by kernel_rfl)
                  have q56 : uu 56 = .bool false := hd 56 (by kernel_rfl)
                  refine .inl ⟨wanted_none rfl, ?_⟩
                  generalize hev : Act.eval _ = ev
                  have ec : ∀ c, ev (.const c) = c := fun c => by rw [← hev]; rfl
                  have e149 : ev (.tmp 149) = .bool false := by rw [← hev]; exact (eval_put (by kernel_rfl) 176 rfl (by decide)).trans q49
                  have e156 : ev (.tmp 156) = .bool false := by rw [← hev]; exact (eval_put (by kernel_rfl) 176 rfl (by decide)).trans q56
                  clear hev hd q49 q56
                  exact .inl ⟨_, W, by go_simp, rfl, Below.refl _ _⟩
                · obtain rfl := Option.some.inj hoo
                  have q57 : uu 57 = .bool false := hd 57 (by kernel_rfl)
                  refine .inl ⟨wanted_none rfl, ?_⟩
                  generalize hev : Act.eval _ = ev
                  have ec : ∀ c, ev (.const c) = c := fun c => by rw [← hev]; rfl
                  have e157 : ev (.tmp 157) = .bool false := by rw [← hev]; exact (eval_put (by kernel_rfl) 176 rfl (by decide)).trans q57
                  clear hev hd q57
                  exact .inl ⟨_, W, by go_simp, rfl, Below.refl _ _⟩
                · obtain rfl := Option.some.inj hoo
                  have q58 : uu 58 = .bool false := hd 58 (by kernel_rfl)
                  refine .inl ⟨wanted_yes rfl (yielded_put (k := 158) (by kernel_rfl) (by kernel_rfl) 176 rfl (by decide) q58), ?_⟩
                  generalize hev : Act.eval _ = ev
                  have ec : ∀ c, ev (.const c) = c := fun c => by rw [← hev]; rfl
                  have e7 : ev (.tmp 7) = .pointer (some ⟨w.heap.size + 1, 0, none⟩) := by rw [← hev]; exact eval_old (by kernel_rfl) 176 rfl (by decide) rfl
                  clear hev hd q58
                  exact .inl ⟨_, W, by go_simp, rfl, Below.refl _ _⟩
                · obtain rfl := Option.some.inj hoo
                  have q58 : uu 58 = .bool false := hd 58 (by kernel_rfl)
                  refine .inl ⟨wanted_yes rfl (yielded_put (k := 158) (by kernel_rfl) (by kernel_rfl) 176 rfl (by decide) q58), ?_⟩
                  generalize hev : Act.eval _ = ev
                  have ec : ∀ c, ev (.const c) = c := fun c => by rw [← hev]; rfl
                  have e1 : ev (.tmp 1) = .slice (some ⟨b, off, none⟩) len1 cap1 := by rw [← hev]; exact eval_old (by kernel_rfl) 176 rfl (by decide) rfl
                  clear hev hd q58
                  exact .inl ⟨_, W, by go_simp, rfl, Below.refl _ _⟩
                · obtain rfl := Option.some.inj hoo
                  have q58 : uu 58 = .bool false := hd 58 (by kernel_rfl)
                  refine .inl ⟨wanted_yes rfl (yielded_put (k := 158) (by kernel_rfl) (by kernel_rfl) 176 rfl (by decide) q58), ?_⟩
                  generalize hev : Act.eval _ = ev
                  have ec : ∀ c, ev (.const c) = c := fun c => by rw [← hev]; rfl
                  have e9 : ev (.tmp 9) = .int .i64 (j : Int) := by rw [← hev]; exact eval_old (by kernel_rfl) 176 rfl (by decide) rfl
                  clear hev hd q58
                  exact .inl ⟨_, W, by go_simp, rfl, Below.refl _ _⟩
                · obtain rfl := Option.some.inj hoo
                  have q60 : uu 60 = .slice (some ⟨b, off, none⟩) len1 cap1 := hd 60 (by kernel_rfl)
                  have q61 : uu 61 = .int .i64 (j : Int) := hd 61 (by kernel_rfl)
                  have q58 : uu 58 = .bool false := hd 58 (by kernel_rfl)
                  refine .inl ⟨wanted_yes rfl (yielded_put (k := 158) (by kernel_rfl) (by kernel_rfl) 176 rfl (by decide) q58), ?_⟩
                  generalize hev : Act.eval _ = ev
                  have ec : ∀ c, ev (.const c) = c := fun c => by rw [← hev]; rfl
                  have e160 : ev (.tmp 160) = .slice (some ⟨b, off, none⟩) len1 cap1 := by rw [← hev]; exact (eval_put (by kernel_rfl) 176 rfl (by decide)).trans q60
                  have e161 : ev (.tmp 161) = .int .i64 (j : Int) := by rw [← hev]; exact (eval_put (by kernel_rfl) 176 rfl (by decide)).trans q61
                  clear hev hd q60 q61 q58
                  exact .inl ⟨_, W, by go_simp, rfl, Below.refl _ _⟩
                · obtain rfl := Option.some.inj hoo
                  have q62 : uu 62 = .pointer (some ⟨b, off + j * 2, none⟩) := hd 62 (by kernel_rfl)
                  have q58 : uu 58 = .bool false := hd 58 (by kernel_rfl)
                  refine .inl ⟨wanted_yes rfl (yielded_put (k := 158) (by kernel_rfl) (by kernel_rfl) 176 rfl (by decide) q58), ?_⟩
                  generalize hev : Act.eval _ = ev
                  have ec : ∀ c, ev (.const c) = c := fun c => by rw [← hev]; rfl
                  have e162 : ev (.tmp 162) = .pointer (some ⟨b, off + j * 2, none⟩) := by rw [← hev]; exact (eval_put (by kernel_rfl) 176 rfl (by decide)).trans q62
                  clear hev hd q62 q58
                  exact .inl ⟨_, W, by go_simp, rfl, Below.refl _ _⟩
                · obtain rfl := Option.some.inj hoo
                  have q63 : uu 63 = .pointer (some ⟨b, off + j * 2 + 1, none⟩) := hd 63 (by kernel_rfl)
                  have q58 : uu 58 = .bool false := hd 58 (by kernel_rfl)
                  refine .inl ⟨wanted_yes rfl (yielded_put (k := 158) (by kernel_rfl) (by kernel_rfl) 176 rfl (by decide) q58), ?_⟩
                  generalize hev : Act.eval _ = ev
                  have ec : ∀ c, ev (.const c) = c := fun c => by rw [← hev]; rfl
                  have e163 : ev (.tmp 163) = .pointer (some ⟨b, off + j * 2 + 1, none⟩) := by rw [← hev]; exact (eval_put (by kernel_rfl) 176 rfl (by decide)).trans q63
                  clear hev hd q63 q58
                  obtain ⟨cc0, cc1, cc2, cc3⟩ := HCC W hVW
                  exact .inl ⟨_, W, by go_simp, rfl, Below.refl _ _⟩
                · obtain rfl := Option.some.inj hoo
                  have q59 : uu 59 = .pointer (some ⟨w.heap.size + 1, 0, none⟩) := hd 59 (by kernel_rfl)
                  have q64 : uu 64 = .int .i64 kn := hd 64 (by kernel_rfl)
                  have q58 : uu 58 = .bool false := hd 58 (by kernel_rfl)
                  refine .inl ⟨wanted_yes rfl (yielded_put (k := 158) (by kernel_rfl) (by kernel_rfl) 176 rfl (by decide) q58), ?_⟩
                  generalize hev : Act.eval _ = ev
                  have ec : ∀ c, ev (.const c) = c := fun c => by rw [← hev]; rfl
                  have ef : ∀ f, ev (.func f) = .func (.func f) #[] #[] := fun f => by rw [← hev]; rfl
                  have e159 : ev (.tmp 159) = .pointer (some ⟨w.heap.size + 1, 0, none⟩) := by rw [← hev]; exact (eval_put (by kernel_rfl) 176 rfl (by decide)).trans q59
                  have e164 : ev (.tmp 164) = .int .i64 kn := by rw [← hev]; exact (eval_put (by kernel_rfl) 176 rfl (by decide)).trans q64
                  clear hev hd q59 q64 q58
                  exact .inr ⟨_, _, _, by go_simp, ((hown2 W hVW).1).out, fun e w' he => ⟨_, he.1, rfl, he.2.bel⟩⟩
                · obtain rfl := Option.some.inj hoo
                  have q58 : uu 58 = .bool false := hd 58 (by kernel_rfl)
                  refine .inl ⟨wanted_yes rfl (yielded_put (k := 158) (by kernel_rfl) (by kernel_rfl) 176 rfl (by decide) q58), ?_⟩
                  generalize hev : Act.eval _ = ev
                  have ec : ∀ c, ev (.const c) = c := fun c => by rw [← hev]; rfl
                  have e8 : ev (.tmp 8) = .pointer (some ⟨G, 0, none⟩) := by rw [← hev]; exact eval_old (by kernel_rfl) 176 rfl (by decide) rfl
                  clear hev hd q58
                  exact .inl ⟨_, W, by go_simp, rfl, Below.refl _ _⟩
                · obtain rfl := Option.some.inj hoo
                  have q58 : uu 58 = .bool false := hd 58 (by kernel_rfl)
                  refine .inl ⟨wanted_yes rfl (yielded_put (k := 158) (by kernel_rfl) (by kernel_rfl) 176 rfl (by decide) q58), ?_⟩
                  generalize hev : Act.eval _ = ev
                  have ec : ∀ c, ev (.const c) = c := fun c => by rw [← hev]; rfl
                  have e1 : ev (.tmp 1) = .slice (some ⟨b, off, none⟩) len1 cap1 := by rw [← hev]; exact eval_old (by kernel_rfl) 176 rfl (by decide) rfl
                  clear hev hd q58
                  exact .inl ⟨_, W, by go_simp, rfl, Below.refl _ _⟩
                · obtain rfl := Option.some.inj hoo
                  have q58 : uu 58 = .bool false := hd 58 (by kernel_rfl)
                  refine .inl ⟨wanted_yes rfl (yielded_put (k := 158) (by kernel_rfl) (by kernel_rfl) 176 rfl (by decide) q58), ?_⟩
                  generalize hev : Act.eval _ = ev
                  have ec : ∀ c, ev (.const c) = c := fun c => by rw [← hev]; rfl
                  have e9 : ev (.tmp 9) = .int .i64 (j : Int) := by rw [← hev]; exact eval_old (by kernel_rfl) 176 rfl (by decide) rfl
                  clear hev hd q58
                  exact .inl ⟨_, W, by go_simp, rfl, Below.refl _ _⟩
                · obtain rfl := Option.some.inj hoo
                  have q67 : uu 67 = .slice (some ⟨b, off, none⟩) len1 cap1 := hd 67 (by kernel_rfl)
                  have q68 : uu 68 = .int .i64 (j : Int) := hd 68 (by kernel_rfl)
                  have q58 : uu 58 = .bool false := hd 58 (by kernel_rfl)
                  refine .inl ⟨wanted_yes rfl (yielded_put (k := 158) (by kernel_rfl) (by kernel_rfl) 176 rfl (by decide) q58), ?_⟩
                  generalize hev : Act.eval _ = ev
                  have ec : ∀ c, ev (.const c) = c := fun c => by rw [← hev]; rfl
                  have e167 : ev (.tmp 167) = .slice (some ⟨b, off, none⟩) len1 cap1 := by rw [← hev]; exact (eval_put (by kernel_rfl) 176 rfl (by decide)).trans q67
                  have e168 : ev (.tmp 168) = .int .i64 (j : Int) := by rw [← hev]; exact (eval_put (by kernel_rfl) 176 rfl (by decide)).trans q68
                  clear hev hd q67 q68 q58
                  exact .inl ⟨_, W, by go_simp, rfl, Below.refl _ _⟩
                · obtain rfl := Option.some.inj hoo
                  have q69 : uu 69 = .pointer (some ⟨b, off + j * 2, none⟩) := hd 69 (by kernel_rfl)
                  have q58 : uu 58 = .bool false := hd 58 (by kernel_rfl)
                  refine .inl ⟨wanted_yes rfl (yielded_put (k := 158) (by kernel_rfl) (by kernel_rfl) 176 rfl (by decide) q58), ?_⟩
                  generalize hev : Act.eval _ = ev
                  have ec : ∀ c, ev (.const c) = c := fun c => by rw [← hev]; rfl
                  have e169 : ev (.tmp 169) = .pointer (some ⟨b, off + j * 2, none⟩) := by rw [← hev]; exact (eval_put (by kernel_rfl) 176 rfl (by decide)).trans q69
                  clear hev hd q69 q58
                  exact .inl ⟨_, W, by go_simp, rfl, Below.refl _ _⟩
                · obtain rfl := Option.some.inj hoo
                  have q70 : uu 70 = .pointer (some ⟨b, off + j * 2 + 1, none⟩) := hd 70 (by kernel_rfl)
                  have q58 : uu 58 = .bool false := hd 58 (by kernel_rfl)
                  refine .inl ⟨wanted_yes rfl (yielded_put (k := 158) (by kernel_rfl) (by kernel_rfl) 176 rfl (by decide) q58), ?_⟩
                  generalize hev : Act.eval _ = ev
                  have ec : ∀ c, ev (.const c) = c := fun c => by rw [← hev]; rfl
                  have e170 : ev (.tmp 170) = .pointer (some ⟨b, off + j * 2 + 1, none⟩) := by rw [← hev]; exact (eval_put (by kernel_rfl) 176 rfl (by decide)).trans q70
                  clear hev hd q70 q58
                  obtain ⟨cc0, cc1, cc2, cc3⟩ := HCC W hVW
                  exact .inl ⟨_, W, by go_simp, rfl, Below.refl _ _⟩
                · obtain rfl := Option.some.inj hoo
                  have q66 : uu 66 = .pointer (some ⟨G, 0, none⟩) := hd 66 (by kernel_rfl)
                  have q71 : uu 71 = .int .i64 kn := hd 71 (by kernel_rfl)
                  have q58 : uu 58 = .bool false := hd 58 (by kernel_rfl)
                  refine .inl ⟨wanted_yes rfl (yielded_put (k := 158) (by kernel_rfl) (by kernel_rfl) 176 rfl (by decide) q58), ?_⟩
                  generalize hev : Act.eval _ = ev
                  have ec : ∀ c, ev (.const c) = c := fun c => by rw [← hev]; rfl
                  have ef : ∀ f, ev (.func f) = .func (.func f) #[] #[] := fun f => by rw [← hev]; rfl
                  have e166 : ev (.tmp 166) = .pointer (some ⟨G, 0, none⟩) := by rw [← hev]; exact (eval_put (by kernel_rfl) 176 rfl (by decide)).trans q66
                  have e171 : ev (.tmp 171) = .int .i64 kn := by rw [← hev]; exact (eval_put (by kernel_rfl) 176 rfl (by decide)).trans q71
                  clear hev hd q66 q71 q58
                  exact .inr ⟨_, _, _, by go_simp, ((hown2 W hVW).2).out, fun e w' he => ⟨_, he.1, rfl, he.2 ▸ Below.refl _ _⟩⟩
                · obtain rfl := Option.some.inj hoo
                  have q65 : uu 65 = .bool b2 := hd 65 (by kernel_rfl)
                  have q72 : uu 72 = .bool b2 := hd 72 (by kernel_rfl)
                  have q58 : uu 58 = .bool false := hd 58 (by kernel_rfl)
                  refine .inl ⟨wanted_yes rfl (yielded_put (k := 158) (by kernel_rfl) (by kernel_rfl) 176 rfl (by decide) q58), ?_⟩
                  generalize hev : Act.eval _ = ev
                  have ec : ∀ c, ev (.const c) = c := fun c => by rw [← hev]; rfl
                  have e165 : ev (.tmp 165) = .bool b2 := by rw [← hev]; exact (eval_put (by kernel_rfl) 176 rfl (by decide)).trans q65
                  have e172 : ev (.tmp 172) = .bool b2 := by rw [← hev]; exact (eval_put (by kernel_rfl) 176 rfl (by decide)).trans q72
                  clear hev hd q65 q72 q58
                  exact .inl ⟨_, W, by go_simp, rfl, Below.refl _ _⟩
                · obtain rfl := Option.some.inj hoo
                  have q58 : uu 58 = .bool false := hd 58 (by kernel_rfl)
                  have q73 : uu 73 = .bool false := hd 73 (by kernel_rfl)
                  refine .inl ⟨wanted_none rfl, ?_⟩
                  generalize hev : Act.eval _ = ev
                  have ec : ∀ c, ev (.const c) = c := fun c => by rw [← hev]; rfl
                  have e158 : ev (.tmp 158) = .bool false := by rw [← hev]; exact (eval_put (by kernel_rfl) 176 rfl (by decide)).trans q58
                  have e173 : ev (.tmp 173) = .bool false := by rw [← hev]; exact (eval_put (by kernel_rfl) 176 rfl (by decide)).trans q73
                  clear hev hd q58 q73
                  exact .inl ⟨_, W, by go_simp, rfl, Below.refl _ _⟩
                · simp at hoo
              · intro uu W hVW hall
                have q74 : uu 74 = .bool false := hall 74 (by decide)
                have HS2 := HS1.out.belowS hVW
                clear hall HCC hVW T1 T2 T3 hown1 hown2
                rw [List.toList_toArray]
                simp [putAll, Act.put, q74]
                clear q74
                go_wp2_with fail
                go_roundw
                case rel => exact ⟨j + 1, by omega, by omega, by go_num, HS2⟩
                case measure => simp [intOf]; omega
            · have e1 : (k == 1) = false := by simpa using k1
              obtain ⟨xx, bb, M, hA, hMb, hB⟩ := reap_both S (Nat.le_refl _) hn1 hG1 hG0
              have HA := Lib.hid hA
              have HB := Lib.hid hB
              clear hA hMb hB S c0
              go_wp2_with fail
              refine HA.out.mono ?_
              rintro e wx ⟨rfl, hM⟩
              go_wp2_with fail
              refine (HB.out wx hM).mono ?_
              rintro e wq ⟨rfl, hS⟩
              have HS := Lib.hid (hS.more (Nat.le_succ j))
              clear hM HA HB c0w c1w hS e0 e1 k0 k1
              have hbq : Below w.heap.size w wq := HS.out.bel0
              obtain ⟨xn, bn, hnext⟩ := next_both HS.out
              obtain ⟨nx, p, r, buf, vp, vr, ps, rs, ever, work, R, Q, C, -, -⟩ := HS.out
              have HC := fun W (hd : Drawn wq W) => Lib.hid (ring_cells (Q.drawn hd) C)
              have hpr := R.prn
              obtain ⟨m, hm⟩ : ∃ m, N - p - r = m := ⟨_, rfl⟩
              have f1 : (N : Int) - (p : Int) - (r : Int) = (m : Int) := by omega
              have f3 : (N : Int) - (p : Int) = ((N - p : Nat) : Int) := by omega
              have f4 : IntKind.i64.wrap ((N - p : Nat) : Int) = ((N - p : Nat) : Int) := by rw [IntKind.wrap_i64]; have := R.n64; omega
              have f5 : ((N - p : Nat) : Int) - (r : Int) = (m : Int) := by omega
              have f6 : IntKind.i64.wrap (m : Int) = (m : Int) := by rw [IntKind.wrap_i64]; have := R.n64; omega
              obtain ⟨np, hnp⟩ : ∃ np, N - p = np := ⟨_, rfl⟩
              rw [hnp] at f3 f4 f5
              clear f1
              go_wp2_with fail
              refine ((hnext _ (Drawn.refl _)).1).out.mono ?_
              rintro e v1 ⟨rfl, hd1⟩
              go_wp2_with fail
              refine ((hnext _ hd1).2).out.mono ?_
              rintro e v2 ⟨rfl, rfl⟩
              clear hnext
              obtain ⟨g0, ⟨A1, d1, g1⟩, ⟨A2, d2, g2⟩⟩ := (HC _ hd1).out
              have HS1 := Lib.hid (HS.out.drawn hd1)
              have RV := R.drawn hd1
              have QG := (Q.drawn hd1).bg.lt
              have cI := (hd1.below (B := w.heap.size)).cell (p := ⟨b, off + j * 2 + 1, none⟩) hbl |>.trans ((hbq.cell (p := ⟨b, off + j * 2 + 1, none⟩) hbl).trans c1)
              have hbv : b < v1.heap.size := Nat.lt_of_lt_of_le hbl HS1.out.bel0.size
              clear R Q C HC hd1 hbq HS
              obtain ⟨b1, hown1⟩ := own_bel HS1.out a2
              obtain ⟨b2, hown2⟩ := own_bel HS1.out kn
              have T1 := fun W (h : Below v1.heap.size v1 W) => Lib.hid (rposted_any (RV.below h))
              have T2 := fun W (h : Below v1.heap.size v1 W) => Lib.hid (rready_any (RV.below h))
              have T3 := fun W (h : Below v1.heap.size v1 W) => Lib.hid (rroom_any (RV.below h))
              rw [hm] at T3
              have HCC : ∀ W, Below v1.heap.size v1 W → (W.cell? ⟨G, 0, none⟩ = some (.int .i64 (N : Int)) ∧ W.cell? ⟨G, 1, none⟩ = some (.slice A1 p d1) ∧ W.cell? ⟨G, 2, none⟩ = some (.slice A2 r d2) ∧ W.cell? ⟨b, off + j * 2 + 1, none⟩ = some (.int .i64 kn)) := by
                intro W h
                exact ⟨(h.cell (p := ⟨G, 0, none⟩) QG).trans g0, (h.cell (p := ⟨G, 1, none⟩) QG).trans g1, (h.cell (p := ⟨G, 2, none⟩) QG).trans g2, (h.cell (p := ⟨b, off + j * 2 + 1, none⟩) hbv).trans cI⟩
              have HF := Lib.hid (And.intro f3 (And.intro f4 (And.intro f5 f6)))
              clear RV hm hnp hpr g0 g1 g2 cI hbv QG f3 f4 f5 f6
              go_wp2_with fail
              refine region_put (by kernel_rfl) (by kernel_rfl) (by kernel_rfl) 176 rfl (by kernel_rfl) v1 (fun i v W => match i with
                  | 0 => v = .int .i64 xn
                  | 1 => v = .int .i64 xn
                  | 2 => v = .bool false
                  | 3 => v = .bool false
                  | 4 => v = .bool bn
                  | 5 => v = .bool bn
                  | 6 => v = .bool false
                  | 7 => v = .bool false
                  | 8 => v = .bool false
                  | 9 => v = .pointer (some ⟨w.heap.size + 1, 0, none⟩)
                  | 10 => v = .int .i64 (p : Int)
                  | 11 => v = .pointer (some ⟨G, 0, none⟩)
                  | 12 => v = .pointer (some ⟨G, 0, none⟩)
                  | 13 => v = .pointer (some ⟨G, 1, none⟩)
                  | 14 => v = .slice A1 p d1
                  | 15 => v = .int .i64 (p : Int)
                  | 16 => v = .bool false
                  | 17 => v = .bool false
                  | 18 => v = .bool false
                  | 19 => v = .pointer (some ⟨w.heap.size + 1, 0, none⟩)
                  | 20 => v = .int .i64 (r : Int)
                  | 21 => v = .pointer (some ⟨G, 0, none⟩)
                  | 22 => v = .pointer (some ⟨G, 0, none⟩)
                  | 23 => v = .pointer (some ⟨G, 2, none⟩)
                  | 24 => v = .slice A2 r d2
                  | 25 => v = .int .i64 (r : Int)
                  | 26 => v = .bool false
                  | 27 => v = .bool false
                  | 28 => v = .bool false
                  | 29 => v = .pointer (some ⟨w.heap.size + 1, 0, none⟩)
                  | 30 => v = .int .i64 (m : Int)
                  | 31 => v = .pointer (some ⟨G, 0, none⟩)
                  | 32 => v = .pointer (some ⟨G, 0, none⟩)
                  | 33 => v = .pointer (some ⟨G, 0, none⟩)
                  | 34 => v = .int .i64 (N : Int)
                  | 35 => v = .pointer (some ⟨G, 0, none⟩)
                  | 36 => v = .pointer (some ⟨G, 0, none⟩)
                  | 37 => v = .pointer (some ⟨G, 1, none⟩)
                  | 38 => v = .slice A1 p d1
                  | 39 => v = .int .i64 (p : Int)
                  | 40 => v = .int .i64 (np : Int)
                  | 41 => v = .pointer (some ⟨G, 0, none⟩)
                  | 42 => v = .pointer (some ⟨G, 0, none⟩)
                  | 43 => v = .pointer (some ⟨G, 2, none⟩)
                  | 44 => v = .slice A2 r d2
                  | 45 => v = .int .i64 (r : Int)
                  | 46 => v = .int .i64 (m : Int)
                  | 47 => v = .bool false
                  | 48 => v = .bool false
                  | 49 => v = .bool false
                  | 50 => v = .pointer (some ⟨w.heap.size + 1, 0, none⟩)
                  | 51 => v = .int .i64 a2
                  | 52 => v = .bool b1
                  | 53 => v = .pointer (some ⟨G, 0, none⟩)
                  | 54 => v = .int .i64 a2
                  | 55 => v = .bool b1
                  | 56 => v = .bool false
                  | 57 => v = .bool false
                  | 58 => v = .bool false
                  | 59 => v = .pointer (some ⟨w.heap.size + 1, 0, none⟩)
                  | 60 => v = .slice (some ⟨b, off, none⟩) len1 cap1
                  | 61 => v = .int .i64 (j : Int)
                  | 62 => v = .pointer (some ⟨b, off + j * 2, none⟩)
                  | 63 => v = .pointer (some ⟨b, off + j * 2 + 1, none⟩)
                  | 64 => v = .int .i64 kn
                  | 65 => v = .bool b2
                  | 66 => v = .pointer (some ⟨G, 0, none⟩)
                  | 67 => v = .slice (some ⟨b, off, none⟩) len1 cap1
                  | 68 => v = .int .i64 (j : Int)
                  | 69 => v = .pointer (some ⟨b, off + j * 2, none⟩)
                  | 70 => v = .pointer (some ⟨b, off + j * 2 + 1, none⟩)
                  | 71 => v = .int .i64 kn
                  | 72 => v = .bool b2
                  | 73 => v = .bool false
                  | 74 => v = .bool false
                  | _ => True) (Below.refl _ _) ?_ ?_ ?_
              · intro i v W W' h hb
                match i, h with
                | 0, h => exact h
                | 1, h => exact h
                | 2, h => exact h
                | 3, h => exact h
                | 4, h => exact h
                | 5, h => exact h
                | 6, h => exact h
                | 7, h => exact h
                | 8, h => exact h
                | 9, h => exact h
                | 10, h => exact h
                | 11, h => exact h
                | 12, h => exact h
                | 13, h => exact h
                | 14, h => exact h
                | 15, h => exact h
                | 16, h => exact h
                | 17, h => exact h
                | 18, h => exact h
                | 19, h => exact h
                | 20, h => exact h
                | 21, h => exact h
                | 22, h => exact h
                | 23, h => exact h
                | 24, h => exact h
                | 25, h => exact h
                | 26, h => exact h
                | 27, h => exact h
                | 28, h => exact h
                | 29, h => exact h
                | 30, h => exact h
                | 31, h => exact h
                | 32, h => exact h
                | 33, h => exact h
                | 34, h => exact h
                | 35, h => exact h
                | 36, h => exact h
                | 37, h => exact h
                | 38, h => exact h
                | 39, h => exact h
                | 40, h => exact h
                | 41, h => exact h
                | 42, h => exact h
                | 43, h => exact h
                | 44, h => exact h
                | 45, h => exact h
                | 46, h => exact h
                | 47, h => exact h
                | 48, h => exact h
                | 49, h => exact h
                | 50, h => exact h
                | 51, h => exact h
                | 52, h => exact h
                | 53, h => exact h
                | 54, h => exact h
                | 55, h => exact h
                | 56, h => exact h
                | 57, h => exact h
                | 58, h => exact h
                | 59, h => exact h
                | 60, h => exact h
                | 61, h => exact h
                | 62, h => exact h
                | 63, h => exact h
                | 64, h => exact h
                | 65, h => exact h
                | 66, h => exact h
                | 67, h => exact h
                | 68, h => exact h
                | 69, h => exact h
                | 70, h => exact h
                | 71, h => exact h
                | 72, h => exact h
                | 73, h => exact h
                | 74, h => exact h
                | _ + 75, _ => trivial
              · intro i o uu W hoo hVW hd
                rcases i with _|_|_|_|_|_|_|_|_|_|_|_|_|_|_|_|_|_|_|_|_|_|_|_|_|_|_|_|_|_|_|_|_|_|_|_|_|_|_|_|_|_|_|_|_|_|_|_|_|_|_|_|_|_|_|_|_|_|_|_|_|_|_|_|_|_|_|_|_|_|_|_|_|_|_|i
                · obtain rfl := Option.some.inj hoo
                  refine .inl ⟨wanted_none rfl, ?_⟩
                  generalize hev : Act.eval _ = ev
                  have ec : ∀ c, ev (.const c) = c := fun c => by rw [← hev]; rfl
                  have e14 : ev (.tmp 14) = .int .i64 xn := by rw [← hev]; exact eval_old (by kernel_rfl) 176 rfl (by decide) rfl
                  clear hev hd
                  exact .inl ⟨_, W, by go_simp, rfl, Below.refl _ _⟩
                · obtain rfl := Option.some.inj hoo
                  refine .inl ⟨wanted_none rfl, ?_⟩
                  generalize hev : Act.eval _ = ev
                  have ec : ∀ c, ev (.const c) = c := fun c => by rw [← hev]; rfl
                  have e16 : ev (.tmp 16) = .int .i64 xn := by rw [← hev]; exact eval_old (by kernel_rfl) 176 rfl (by decide) rfl
                  clear hev hd
                  exact .inl ⟨_, W, by go_simp, rfl, Below.refl _ _⟩
                · obtain rfl := Option.some.inj hoo
                  have q0 : uu 0 = .int .i64 xn := hd 0 (by kernel_rfl)
                  have q1 : uu 1 = .int .i64 xn := hd 1 (by kernel_rfl)
                  refine .inl ⟨wanted_none rfl, ?_⟩
                  generalize hev : Act.eval _ = ev
                  have ec : ∀ c, ev (.const c) = c := fun c => by rw [← hev]; rfl
                  have e100 : ev (.tmp 100) = .int .i64 xn := by rw [← hev]; exact (eval_put (by kernel_rfl) 176 rfl (by decide)).trans q0
                  have e101 : ev (.tmp 101) = .int .i64 xn := by rw [← hev]; exact (eval_put (by kernel_rfl) 176 rfl (by decide)).trans q1
                  clear hev hd q0 q1
                  exact .inl ⟨_, W, by go_simp, rfl, Below.refl _ _⟩
                · obtain rfl := Option.some.inj hoo
                  have q2 : uu 2 = .bool false := hd 2 (by kernel_rfl)
                  refine .inl ⟨wanted_none rfl, ?_⟩
                  generalize hev : Act.eval _ = ev
                  have ec : ∀ c, ev (.const c) = c := fun c => by rw [← hev]; rfl
                  have e102 : ev (.tmp 102) = .bool false := by rw [← hev]; exact (eval_put (by kernel_rfl) 176 rfl (by decide)).trans q2
                  clear hev hd q2
                  exact .inl ⟨_, W, by go_simp, rfl, Below.refl _ _⟩
                · obtain rfl := Option.some.inj hoo
                  have q3 : uu 3 = .bool false := hd 3 (by kernel_rfl)
                  refine .inl ⟨wanted_yes rfl (yielded_put (k := 103) (by kernel_rfl) (by kernel_rfl) 176 rfl (by decide) q3), ?_⟩
                  generalize hev : Act.eval _ = ev
                  have ec : ∀ c, ev (.const c) = c := fun c => by rw [← hev]; rfl
                  have e15 : ev (.tmp 15) = .bool bn := by rw [← hev]; exact eval_old (by kernel_rfl) 176 rfl (by decide) rfl
                  clear hev hd q3
                  exact .inl ⟨_, W, by go_simp, rfl, Below.refl _ _⟩
                · obtain rfl := Option.some.inj hoo
                  have q3 : uu 3 = .bool false := hd 3 (by kernel_rfl)
                  refine .inl ⟨wanted_yes rfl (yielded_put (k := 103) (by kernel_rfl) (by kernel_rfl) 176 rfl (by decide) q3), ?_⟩
                  generalize hev : Act.eval _ = ev
                  have ec : ∀ c, ev (.const c) = c := fun c => by rw [← hev]; rfl
                  have e17 : ev (.tmp 17) = .bool bn := by rw [← hev]; exact eval_old (by kernel_rfl) 176 rfl (by decide) rfl
                  clear hev hd q3
                  exact .inl ⟨_, W, by go_simp, rfl, Below.refl _ _⟩
                · obtain rfl := Option.some.inj hoo
                  have q4 : uu 4 = .bool bn := hd 4 (by kernel_rfl)
                  have q5 : uu 5 = .bool bn := hd 5 (by kernel_rfl)
                  have q3 : uu 3 = .bool false := hd 3 (by kernel_rfl)
                  refine .inl ⟨wanted_yes rfl (yielded_put (k := 103) (by kernel_rfl) (by kernel_rfl) 176 rfl (by decide) q3), ?_⟩
                  generalize hev : Act.eval _ = ev
                  have ec : ∀ c, ev (.const c) = c := fun c => by rw [← hev]; rfl
                  have e104 : ev (.tmp 104) = .bool bn := by rw [← hev]; exact (eval_put (by kernel_rfl) 176 rfl (by decide)).trans q4
                  have e105 : ev (.tmp 105) = .bool bn := by rw [← hev]; exact (eval_put (by kernel_rfl) 176 rfl (by decide)).trans q5
                  clear hev hd q4 q5 q3
                  exact .inl ⟨_, W, by go_simp, rfl, Below.refl _ _⟩
                · obtain rfl := Option.some.inj hoo
                  have q3 : uu 3 = .bool false := hd 3 (by kernel_rfl)
                  have q6 : uu 6 = .bool false := hd 6 (by kernel_rfl)
                  refine .inl ⟨wanted_none rfl, ?_⟩
                  generalize hev : Act.eval _ = ev
                  have ec : ∀ c, ev (.const c) = c := fun c => by rw [← hev]; rfl
                  have e103 : ev (.tmp 103) = .bool false := by rw [← hev]; exact (eval_put (by kernel_rfl) 176 rfl (by decide)).trans q3
                  have e106 : ev (.tmp 106) = .bool false := by rw [← hev]; exact (eval_put (by kernel_rfl) 176 rfl (by decide)).trans q6
                  clear hev hd q3 q6
                  exact .inl ⟨_, W, by go_simp, rfl, Below.refl _ _⟩
                · obtain rfl := Option.some.inj hoo
                  have q7 : uu 7 = .bool false := hd 7 (by kernel_rfl)
                  refine .inl ⟨wanted_none rfl, ?_⟩
                  generalize hev : Act.eval _ = ev
                  have ec : ∀ c, ev (.const c) = c := fun c => by rw [← hev]; rfl
                  have e107 : ev (.tmp 107) = .bool false := by rw [← hev]; exact (eval_put (by kernel_rfl) 176 rfl (by decide)).trans q7
                  clear hev hd q7
                  exact .inl ⟨_, W, by go_simp, rfl, Below.refl _ _⟩
                · obtain rfl := Option.some.inj hoo
                  have q8 : uu 8 = .bool false := hd 8 (by kernel_rfl)
                  refine .inl ⟨wanted_yes rfl (yielded_put (k := 108) (by kernel_rfl) (by kernel_rfl) 176 rfl (by decide) q8), ?_⟩
                  generalize hev : Act.eval _ = ev
                  have ec : ∀ c, ev (.const c) = c := fun c => by rw [← hev]; rfl
                  have e7 : ev (.tmp 7) = .pointer (some ⟨w.heap.size + 1, 0, none⟩) := by rw [← hev]; exact eval_old (by kernel_rfl) 176 rfl (by decide) rfl
                  clear hev hd q8
                  exact .inl ⟨_, W, by go_simp, rfl, Below.refl _ _⟩
                · obtain rfl := Option.some.inj hoo
                  have q9 : uu 9 = .pointer (some ⟨w.heap.size + 1, 0, none⟩) := hd 9 (by kernel_rfl)
                  have q8 : uu 8 = .bool false := hd 8 (by kernel_rfl)
                  refine .inl ⟨wanted_yes rfl (yielded_put (k := 108) (by kernel_rfl) (by kernel_rfl) 176 rfl (by decide) q8), ?_⟩
                  generalize hev : Act.eval _ = ev
                  have ec : ∀ c, ev (.const c) = c := fun c => by rw [← hev]; rfl
                  have ef : ∀ f, ev (.func f) = .func (.func f) #[] #[] := fun f => by rw [← hev]; rfl
                  have e109 : ev (.tmp 109) = .pointer (some ⟨w.heap.size + 1, 0, none⟩) := by rw [← hev]; exact (eval_put (by kernel_rfl) 176 rfl (by decide)).trans q9
                  clear hev hd q9 q8
                  exact .inr ⟨_, _, _, by go_simp, (T1 W hVW).out, fun e w' he => ⟨_, he.1, rfl, he.2 ▸ Below.refl _ _⟩⟩
                · obtain rfl := Option.some.inj hoo
                  have q8 : uu 8 = .bool false := hd 8 (by kernel_rfl)
                  refine .inl ⟨wanted_yes rfl (yielded_put (k := 108) (by kernel_rfl) (by kernel_rfl) 176 rfl (by decide) q8), ?_⟩
                  generalize hev : Act.eval _ = ev
                  have ec : ∀ c, ev (.const c) = c := fun c => by rw [← hev]; rfl
                  have e8 : ev (.tmp 8) = .pointer (some ⟨G, 0, none⟩) := by rw [← hev]; exact eval_old (by kernel_rfl) 176 rfl (by decide) rfl
                  clear hev hd q8
                  exact .inl ⟨_, W, by go_simp, rfl, Below.refl _ _⟩
                · obtain rfl := Option.some.inj hoo
                  have q11 : uu 11 = .pointer (some ⟨G, 0, none⟩) := hd 11 (by kernel_rfl)
                  have q8 : uu 8 = .bool false := hd 8 (by kernel_rfl)
                  refine .inl ⟨wanted_yes rfl (yielded_put (k := 108) (by kernel_rfl) (by kernel_rfl) 176 rfl (by decide) q8), ?_⟩
                  generalize hev : Act.eval _ = ev
                  have ec : ∀ c, ev (.const c) = c := fun c => by rw [← hev]; rfl
                  have e111 : ev (.tmp 111) = .pointer (some ⟨G, 0, none⟩) := by rw [← hev]; exact (eval_put (by kernel_rfl) 176 rfl (by decide)).trans q11
                  clear hev hd q11 q8
                  exact .inl ⟨_, W, by go_simp, rfl, Below.refl _ _⟩
                · obtain rfl := Option.some.inj hoo
                  have q12 : uu 12 = .pointer (some ⟨G, 0, none⟩) := hd 12 (by kernel_rfl)
                  have q8 : uu 8 = .bool false := hd 8 (by kernel_rfl)
                  refine .inl ⟨wanted_yes rfl (yielded_put (k := 108) (by kernel_rfl) (by kernel_rfl) 176 rfl (by decide) q8), ?_⟩
                  generalize hev : Act.eval _ = ev
                  have ec : ∀ c, ev (.const c) = c := fun c => by rw [← hev]; rfl
                  have e112 : ev (.tmp 112) = .pointer (some ⟨G, 0, none⟩) := by rw [← hev]; exact (eval_put (by kernel_rfl) 176 rfl (by decide)).trans q12
                  clear hev hd q12 q8
                  exact .inl ⟨_, W, by go_simp, rfl, Below.refl _ _⟩
                · obtain rfl := Option.some.inj hoo
                  have q13 : uu 13 = .pointer (some ⟨G, 1, none⟩) := hd 13 (by kernel_rfl)
                  have q8 : uu 8 = .bool false := hd 8 (by kernel_rfl)
                  refine .inl ⟨wanted_yes rfl (yielded_put (k := 108) (by kernel_rfl) (by kernel_rfl) 176 rfl (by decide) q8), ?_⟩
                  generalize hev : Act.eval _ = ev
                  have ec : ∀ c, ev (.const c) = c := fun c => by rw [← hev]; rfl
                  have e113 : ev (.tmp 113) = .pointer (some ⟨G, 1, none⟩) := by rw [← hev]; exact (eval_put (by kernel_rfl) 176 rfl (by decide)).trans q13
                  clear hev hd q13 q8
                  obtain ⟨cc0, cc1, cc2, cc3⟩ := HCC W hVW
                  exact .inl ⟨_, W, by go_simp, rfl, Below.refl _ _⟩
                · obtain rfl := Option.some.inj hoo
                  have q14 : uu 14 = .slice A1 p d1 := hd 14 (by kernel_rfl)
                  have q8 : uu 8 = .bool false := hd 8 (by kernel_rfl)
                  refine .inl ⟨wanted_yes rfl (yielded_put (k := 108) (by kernel_rfl) (by kernel_rfl) 176 rfl (by decide) q8), ?_⟩
                  generalize hev : Act.eval _ = ev
                  have ec : ∀ c, ev (.const c) = c := fun c => by rw [← hev]; rfl
                  have e114 : ev (.tmp 114) = .slice A1 p d1 := by rw [← hev]; exact (eval_put (by kernel_rfl) 176 rfl (by decide)).trans q14
                  clear hev hd q14 q8
                  exact .inl ⟨_, W, by go_simp, rfl, Below.refl _ _⟩
                · obtain rfl := Option.some.inj hoo
                  have q10 : uu 10 = .int .i64 (p : Int) := hd 10 (by kernel_rfl)
                  have q15 : uu 15 = .int .i64 (p : Int) := hd 15 (by kernel_rfl)
                  have q8 : uu 8 = .bool false := hd 8 (by kernel_rfl)
                  refine .inl ⟨wanted_yes rfl (yielded_put (k := 108) (by kernel_rfl) (by kernel_rfl) 176 rfl (by decide) q8), ?_⟩
                  generalize hev : Act.eval _ = ev
                  have ec : ∀ c, ev (.const c) = c := fun c => by rw [← hev]; rfl
                  have e110 : ev (.tmp 110) = .int .i64 (p : Int) := by rw [← hev]; exact (eval_put (by kernel_rfl) 176 rfl (by decide)).trans q10
                  have e115 : ev (.tmp 115) = .int .i64 (p : Int) := by rw [← hev]; exact (eval_put (by kernel_rfl) 176 rfl (by decide)).trans q15
                  clear hev hd q10 q15 q8
                  exact .inl ⟨_, W, by go_simp, rfl, Below.refl _ _⟩
                · obtain rfl := Option.some.inj hoo
                  have q8 : uu 8 = .bool false := hd 8 (by kernel_rfl)
                  have q16 : uu 16 = .bool false := hd 16 (by kernel_rfl)
                  refine .inl ⟨wanted_none rfl, ?_⟩
                  generalize hev : Act.eval _ = ev
                  have ec : ∀ c, ev (.const c) = c := fun c => by rw [← hev]; rfl
                  have e108 : ev (.tmp 108) = .bool false := by rw [← hev]; exact (eval_put (by kernel_rfl) 176 rfl (by decide)).trans q8
                  have e116 : ev (.tmp 116) = .bool false := by rw [← hev]; exact (eval_put (by kernel_rfl) 176 rfl (by decide)).trans q16
                  clear hev hd q8 q16
                  exact .inl ⟨_, W, by go_simp, rfl, Below.refl _ _⟩
                · obtain rfl := Option.some.inj hoo
                  have q17 : uu 17 = .bool false := hd 17 (by kernel_rfl)
                  refine .inl ⟨wanted_none rfl, ?_⟩
                  generalize hev : Act.eval _ = ev
                  have ec : ∀ c, ev (.const c) = c := fun c => by rw [← hev]; rfl
                  have e117 : ev (.tmp 117) = .bool false := by rw [← hev]; exact (eval_put (by kernel_rfl) 176 rfl (by decide)).trans q17
                  clear hev hd q17
                  exact .inl ⟨_, W, by go_simp, rfl, Below.refl _ _⟩
                · obtain rfl := Option.some.inj hoo
                  have q18 : uu 18 = .bool false := hd 18 (by kernel_rfl)
                  refine .inl ⟨wanted_yes rfl (yielded_put (k := 118) (by kernel_rfl) (by kernel_rfl) 176 rfl (by decide) q18), ?_⟩
                  generalize hev : Act.eval _ = ev
                  have ec : ∀ c, ev (.const c) = c := fun c => by rw [← hev]; rfl
                  have e7 : ev (.tmp 7) = .pointer (some ⟨w.heap.size + 1, 0, none⟩) := by rw [← hev]; exact eval_old (by kernel_rfl) 176 rfl (by decide) rfl
                  clear hev hd q18
                  exact .inl ⟨_, W, by go_simp, rfl, Below.refl _ _⟩
                · obtain rfl := Option.some.inj hoo
                  have q19 : uu 19 = .pointer (some ⟨w.heap.size + 1, 0, none⟩) := hd 19 (by kernel_rfl)
                  have q18 : uu 18 = .bool false := hd 18 (by kernel_rfl)
                  refine .inl ⟨wanted_yes rfl (yielded_put (k := 118) (by kernel_rfl) (by kernel_rfl) 176 rfl (by decide) q18), ?_⟩
                  generalize hev : Act.eval _ = ev
                  have ec : ∀ c, ev (.const c) = c := fun c => by rw [← hev]; rfl
                  have ef : ∀ f, ev (.func f) = .func (.func f) #[] #[] := fun f => by rw [← hev]; rfl
                  have e119 : ev (.tmp 119) = .pointer (some ⟨w.heap.size + 1, 0, none⟩) := by rw [← hev]; exact (eval_put (by kernel_rfl) 176 rfl (by decide)).trans q19
                  clear hev hd q19 q18
                  exact .inr ⟨_, _, _, by go_simp, (T2 W hVW).out, fun e w' he => ⟨_, he.1, rfl, he.2 ▸ Below.refl _ _⟩⟩
                · obtain rfl := Option.some.inj hoo
                  have q18 : uu 18 = .bool false := hd 18 (by kernel_rfl)
                  refine .inl ⟨wanted_yes rfl (yielded_put (k := 118) (by kernel_rfl) (by kernel_rfl) 176 rfl (by decide) q18), ?_⟩
                  generalize hev : Act.eval _ = ev
                  have ec : ∀ c, ev (.const c) = c := fun c => by rw [← hev]; rfl
                  have e8 : ev (.tmp 8) = .pointer (some ⟨G, 0, none⟩) := by rw [← hev]; exact eval_old (by kernel_rfl) 176 rfl (by decide) rfl
                  clear hev hd q18
                  exact .inl ⟨_, W, by go_simp, rfl, Below.refl _ _⟩
                · obtain rfl := Option.some.inj hoo
                  have q21 : uu 21 = .pointer (some ⟨G, 0, none⟩) := hd 21 (by kernel_rfl)
                  have q18 : uu 18 = .bool false := hd 18 (by kernel_rfl)
                  refine .inl ⟨wanted_yes rfl (yielded_put (k := 118) (by kernel_rfl) (by kernel_rfl) 176 rfl (by decide) q18), ?_⟩
                  generalize hev : Act.eval _ = ev
                  have ec : ∀ c, ev (.const c) = c := fun c => by rw [← hev]; rfl
                  have e121 : ev (.tmp 121) = .pointer (some ⟨G, 0, none⟩) := by rw [← hev]; exact (eval_put (by kernel_rfl) 176 rfl (by decide)).trans q21
                  clear hev hd q21 q18
                  exact .inl ⟨_, W, by go_simp, rfl, Below.refl _ _⟩
                · obtain rfl := Option.some.inj hoo
                  have q22 : uu 22 = .pointer (some ⟨G, 0, none⟩) := hd 22 (by kernel_rfl)
                  have q18 : uu 18 = .bool false := hd 18 (by kernel_rfl)
                  refine .inl ⟨wanted_yes rfl (yielded_put (k := 118) (by kernel_rfl) (by kernel_rfl) 176 rfl (by decide) q18), ?_⟩
                  generalize hev : Act.eval _ = ev
                  have ec : ∀ c, ev (.const c) = c := fun c => by rw [← hev]; rfl
                  have e122 : ev (.tmp 122) = .pointer (some ⟨G, 0, none⟩) := by rw [← hev]; exact (eval_put (by kernel_rfl) 176 rfl (by decide)).trans q22
                  clear hev hd q22 q18
                  exact .inl ⟨_, W, by go_simp, rfl, Below.refl _ _⟩
                · obtain rfl := Option.some.inj hoo
                  have q23 : uu 23 = .pointer (some ⟨G, 2, none⟩) := hd 23 (by kernel_rfl)
                  have q18 : uu 18 = .bool false := hd 18 (by kernel_rfl)
                  refine .inl ⟨wanted_yes rfl (yielded_put (k := 118) (by kernel_rfl) (by kernel_rfl) 176 rfl (by decide) q18), ?_⟩
                  generalize hev : Act.eval _ = ev
                  have ec : ∀ c, ev (.const c) = c := fun c => by rw [← hev]; rfl
                  have e123 : ev (.tmp 123) = .pointer (some ⟨G, 2, none⟩) := by rw [← hev]; exact (eval_put (by kernel_rfl) 176 rfl (by decide)).trans q23
                  clear hev hd q23 q18
                  obtain ⟨cc0, cc1, cc2, cc3⟩ := HCC W hVW
                  exact .inl ⟨_, W, by go_simp, rfl, Below.refl _ _⟩
                · obtain rfl := Option.some.inj hoo
                  have q24 : uu 24 = .slice A2 r d2 := hd 24 (by kernel_rfl)
                  have q18 : uu 18 = .bool false := hd 18 (by kernel_rfl)
                  refine .inl ⟨wanted_yes rfl (yielded_put (k := 118) (by kernel_rfl) (by kernel_rfl) 176 rfl (by decide) q18), ?_⟩
                  generalize hev : Act.eval _ = ev
                  have ec : ∀ c, ev (.const c) = c := fun c => by rw [← hev]; rfl
                  have e124 : ev (.tmp 124) = .slice A2 r d2 := by rw [← hev]; exact (eval_put (by kernel_rfl) 176 rfl (by decide)).trans q24
                  clear hev hd q24 q18
                  exact .inl ⟨_, W, by go_simp, rfl, Below.refl _ _⟩
                · obtain rfl := Option.some.inj hoo
                  have q20 : uu 20 = .int .i64 (r : Int) := hd 20 (by kernel_rfl)
                  have q25 : uu 25 = .int .i64 (r : Int) := hd 25 (by kernel_rfl)
                  have q18 : uu 18 = .bool false := hd 18 (by kernel_rfl)
                  refine .inl ⟨wanted_yes rfl (yielded_put (k := 118) (by kernel_rfl) (by kernel_rfl) 176 rfl (by decide) q18), ?_⟩
                  generalize hev : Act.eval _ = ev
                  have ec : ∀ c, ev (.const c) = c := fun c => by rw [← hev]; rfl
                  have e120 : ev (.tmp 120) = .int .i64 (r : Int) := by rw [← hev]; exact (eval_put (by kernel_rfl) 176 rfl (by decide)).trans q20
                  have e125 : ev (.tmp 125) = .int .i64 (r : Int) := by rw [← hev]; exact (eval_put (by kernel_rfl) 176 rfl (by decide)).trans q25
                  clear hev hd q20 q25 q18
                  exact .inl ⟨_, W, by go_simp, rfl, Below.refl _ _⟩
                · obtain rfl := Option.some.inj hoo
                  have q18 : uu 18 = .bool false := hd 18 (by kernel_rfl)
                  have q26 : uu 26 = .bool false := hd 26 (by kernel_rfl)
                  refine .inl ⟨wanted_none rfl, ?_⟩
                  generalize hev : Act.eval _ = ev
                  have ec : ∀ c, ev (.const c) = c := fun c => by rw [← hev]; rfl
                  have e118 : ev (.tmp 118) = .bool false := by rw [← hev]; exact (eval_put (by kernel_rfl) 176 rfl (by decide)).trans q18
                  have e126 : ev (.tmp 126) = .bool false := by rw [← hev]; exact (eval_put (by kernel_rfl) 176 rfl (by decide)).trans q26
                  clear hev hd q18 q26
                  exact .inl ⟨_, W, by go_simp, rfl, Below.refl _ _⟩
                · obtain rfl := Option.some.inj hoo
                  have q27 : uu 27 = .bool false := hd 27 (by kernel_rfl)
                  refine .inl ⟨wanted_none rfl, ?_⟩
                  generalize hev : Act.eval _ = ev
                  have ec : ∀ c, ev (.const c) = c := fun c => by rw [← hev]; rfl
                  have e127 : ev (.tmp 127) = .bool false := by rw [← hev]; exact (eval_put (by kernel_rfl) 176 rfl (by decide)).trans q27
                  clear hev hd q27
                  exact .inl ⟨_, W, by go_simp, rfl, Below.refl _ _⟩
                · obtain rfl := Option.some.inj hoo
                  have q28 : uu 28 = .bool false := hd 28 (by kernel_rfl)
                  refine .inl ⟨wanted_yes rfl (yielded_put (k := 128) (by kernel_rfl) (by kernel_rfl) 176 rfl (by decide) q28), ?_⟩
                  generalize hev : Act.eval _ = ev
                  have ec : ∀ c, ev (.const c) = c := fun c => by rw [← hev]; rfl
                  have e7 : ev (.tmp 7) = .pointer (some ⟨w.heap.size + 1, 0, none⟩) := by rw [← hev]; exact eval_old (by kernel_rfl) 176 rfl (by decide) rfl
                  clear hev hd q28
                  exact .inl ⟨_, W, by go_simp, rfl, Below.refl _ _⟩
                · obtain rfl := Option.some.inj hoo
                  have q29 : uu 29 = .pointer (some ⟨w.heap.size + 1, 0, none⟩) := hd 29 (by kernel_rfl)
                  have q28 : uu 28 = .bool false := hd 28 (by kernel_rfl)
                  refine .inl ⟨wanted_yes rfl (yielded_put (k := 128) (by kernel_rfl) (by kernel_rfl) 176 rfl (by decide) q28), ?_⟩
                  generalize hev : Act.eval _ = ev
                  have ec : ∀ c, ev (.const c) = c := fun c => by rw [← hev]; rfl
                  have ef : ∀ f, ev (.func f) = .func (.func f) #[] #[] := fun f => by rw [← hev]; rfl
                  have e129 : ev (.tmp 129) = .pointer (some ⟨w.heap.size + 1, 0, none⟩) := by rw [← hev]; exact (eval_put (by kernel_rfl) 176 rfl (by decide)).trans q29
                  clear hev hd q29 q28
                  exact .inr ⟨_, _, _, by go_simp, (T3 W hVW).out, fun e w' he => ⟨_, he.1, rfl, he.2 ▸ Below.refl _ _⟩⟩
                · obtain rfl := Option.some.inj hoo
                  have q28 : uu 28 = .bool false := hd 28 (by kernel_rfl)
                  refine .inl ⟨wanted_yes rfl (yielded_put (k := 128) (by kernel_rfl) (by kernel_rfl) 176 rfl (by decide) q28), ?_⟩
                  generalize hev : Act.eval _ = ev
                  have ec : ∀ c, ev (.const c) = c := fun c => by rw [← hev]; rfl
                  have e8 : ev (.tmp 8) = .pointer (some ⟨G, 0, none⟩) := by rw [← hev]; exact eval_old (by kernel_rfl) 176 rfl (by decide) rfl
                  clear hev hd q28
                  exact .inl ⟨_, W, by go_simp, rfl, Below.refl _ _⟩
                · obtain rfl := Option.some.inj hoo
                  have q31 : uu 31 = .pointer (some ⟨G, 0, none⟩) := hd 31 (by kernel_rfl)
                  have q28 : uu 28 = .bool false := hd 28 (by kernel_rfl)
                  refine .inl ⟨wanted_yes rfl (yielded_put (k := 128) (by kernel_rfl) (by kernel_rfl) 176 rfl (by decide) q28), ?_⟩
                  generalize hev : Act.eval _ = ev
                  have ec : ∀ c, ev (.const c) = c := fun c => by rw [← hev]; rfl
                  have e131 : ev (.tmp 131) = .pointer (some ⟨G, 0, none⟩) := by rw [← hev]; exact (eval_put (by kernel_rfl) 176 rfl (by decide)).trans q31
                  clear hev hd q31 q28
                  exact .inl ⟨_, W, by go_simp, rfl, Below.refl _ _⟩
                · obtain rfl := Option.some.inj hoo
                  have q32 : uu 32 = .pointer (some ⟨G, 0, none⟩) := hd 32 (by kernel_rfl)
                  have q28 : uu 28 = .bool false := hd 28 (by kernel_rfl)
                  refine .inl ⟨wanted_yes rfl (yielded_put (k := 128) (by kernel_rfl) (by kernel_rfl) 176 rfl (by decide) q28), ?_⟩
                  generalize hev : Act.eval _ = ev
                  have ec : ∀ c, ev (.const c) = c := fun c => by rw [← hev]; rfl
                  have e132 : ev (.tmp 132) = .pointer (some ⟨G, 0, none⟩) := by rw [← hev]; exact (eval_put (by kernel_rfl) 176 rfl (by decide)).trans q32
                  clear hev hd q32 q28
                  exact .inl ⟨_, W, by go_simp, rfl, Below.refl _ _⟩
                · obtain rfl := Option.some.inj hoo
                  have q33 : uu 33 = .pointer (some ⟨G, 0, none⟩) := hd 33 (by kernel_rfl)
                  have q28 : uu 28 = .bool false := hd 28 (by kernel_rfl)
                  refine .inl ⟨wanted_yes rfl (yielded_put (k := 128) (by kernel_rfl) (by kernel_rfl) 176 rfl (by decide) q28), ?_⟩
                  generalize hev : Act.eval _ = ev
                  have ec : ∀ c, ev (.const c) = c := fun c => by rw [← hev]; rfl
                  have e133 : ev (.tmp 133) = .pointer (some ⟨G, 0, none⟩) := by rw [← hev]; exact (eval_put (by kernel_rfl) 176 rfl (by decide)).trans q33
                  clear hev hd q33 q28
                  obtain ⟨cc0, cc1, cc2, cc3⟩ := HCC W hVW
                  exact .inl ⟨_, W, by go_simp, rfl, Below.refl _ _⟩
                · obtain rfl := Option.some.inj hoo
                  have q28 : uu 28 = .bool false := hd 28 (by kernel_rfl)
                  refine .inl ⟨wanted_yes rfl (yielded_put (k := 128) (by kernel_rfl) (by kernel_rfl) 176 rfl (by decide) q28), ?_⟩
                  generalize hev : Act.eval _ = ev
                  have ec : ∀ c, ev (.const c) = c := fun c => by rw [← hev]; rfl
                  have e8 : ev (.tmp 8) = .pointer (some ⟨G, 0, none⟩) := by rw [← hev]; exact eval_old (by kernel_rfl) 176 rfl (by decide) rfl
                  clear hev hd q28
                  exact .inl ⟨_, W, by go_simp, rfl, Below.refl _ _⟩
                · obtain rfl := Option.some.inj hoo
                  have q35 : uu 35 = .pointer (some ⟨G, 0, none⟩) := hd 35 (by kernel_rfl)
                  have q28 : uu 28 = .bool false := hd 28 (by kernel_rfl)
                  refine .inl ⟨wanted_yes rfl (yielded_put (k := 128) (by kernel_rfl) (by kernel_rfl) 176 rfl (by decide) q28), ?_⟩
                  generalize hev : Act.eval _ = ev
                  have ec : ∀ c, ev (.const c) = c := fun c => by rw [← hev]; rfl
                  have e135 : ev (.tmp 135) = .pointer (some ⟨G, 0, none⟩) := by rw [← hev]; exact (eval_put (by kernel_rfl) 176 rfl (by decide)).trans q35
                  clear hev hd q35 q28
                  exact .inl ⟨_, W, by go_simp, rfl, Below.refl _ _⟩
                · obtain rfl := Option.some.inj hoo
                  have q36 : uu 36 = .pointer (some ⟨G, 0, none⟩) := hd 36 (by kernel_rfl)
                  have q28 : uu 28 = .bool false := hd 28 (by kernel_rfl)
                  refine .inl ⟨wanted_yes rfl (yielded_put (k := 128) (by kernel_rfl) (by kernel_rfl) 176 rfl (by decide) q28), ?_⟩
                  generalize hev : Act.eval _ = ev
                  have ec : ∀ c, ev (.const c) = c := fun c => by rw [← hev]; rfl
                  have e136 : ev (.tmp 136) = .pointer (some ⟨G, 0, none⟩) := by rw [← hev]; exact (eval_put (by kernel_rfl) 176 rfl (by decide)).trans q36
                  clear hev hd q36 q28
                  exact .inl ⟨_, W, by go_simp, rfl, Below.refl _ _⟩
                · obtain rfl := Option.some.inj hoo
                  have q37 : uu 37 = .pointer (some ⟨G, 1, none⟩) := hd 37 (by kernel_rfl)
                  have q28 : uu 28 = .bool false := hd 28 (by kernel_rfl)
                  refine .inl ⟨wanted_yes rfl (yielded_put (k := 128) (by kernel_rfl) (by kernel_rfl) 176 rfl (by decide) q28), ?_⟩
                  generalize hev : Act.eval _ = ev
                  have ec : ∀ c, ev (.const c) = c := fun c => by rw [← hev]; rfl
                  have e137 : ev (.tmp 137) = .pointer (some ⟨G, 1, none⟩) := by rw [← hev]; exact (eval_put (by kernel_rfl) 176 rfl (by decide)).trans q37
                  clear hev hd q37 q28
                  obtain ⟨cc0, cc1, cc2, cc3⟩ := HCC W hVW
                  exact .inl ⟨_, W, by go_simp, rfl, Below.refl _ _⟩
                · obtain rfl := Option.some.inj hoo
                  have q38 : uu 38 = .slice A1 p d1 := hd 38 (by kernel_rfl)
                  have q28 : uu 28 = .bool false := hd 28 (by kernel_rfl)
                  refine .inl ⟨wanted_yes rfl (yielded_put (k := 128) (by kernel_rfl) (by kernel_rfl) 176 rfl (by decide) q28), ?_⟩
                  generalize hev : Act.eval _ = ev
                  have ec : ∀ c, ev (.const c) = c := fun c => by rw [← hev]; rfl
                  have e138 : ev (.tmp 138) = .slice A1 p d1 := by rw [← hev]; exact (eval_put (by kernel_rfl) 176 rfl (by decide)).trans q38
                  clear hev hd q38 q28
                  exact .inl ⟨_, W, by go_simp, rfl, Below.refl _ _⟩
                · obtain rfl := Option.some.inj hoo
                  have q34 : uu 34 = .int .i64 (N : Int) := hd 34 (by kernel_rfl)
                  have q39 : uu 39 = .int .i64 (p : Int) := hd 39 (by kernel_rfl)
                  have q28 : uu 28 = .bool false := hd 28 (by kernel_rfl)
                  refine .inl ⟨wanted_yes rfl (yielded_put (k := 128) (by kernel_rfl) (by kernel_rfl) 176 rfl (by decide) q28), ?_⟩
                  generalize hev : Act.eval _ = ev
                  have ec : ∀ c, ev (.const c) = c := fun c => by rw [← hev]; rfl
                  have e134 : ev (.tmp 134) = .int .i64 (N : Int) := by rw [← hev]; exact (eval_put (by kernel_rfl) 176 rfl (by decide)).trans q34
                  have e139 : ev (.tmp 139) = .int .i64 (p : Int) := by rw [← hev]; exact (eval_put (by kernel_rfl) 176 rfl (by decide)).trans q39
                  clear hev hd q34 q39 q28
                  have hh := HF.out.1
                  have hh2 := HF.out.2.1
                  exact .inl ⟨_, W, by go_simp, rfl, Below.refl _ _⟩
                · obtain rfl := Option.some.inj hoo
                  have q28 : uu 28 = .bool false := hd 28 (by kernel_rfl)
                  refine .inl ⟨wanted_yes rfl (yielded_put (k := 128) (by kernel_rfl) (by kernel_rfl) 176 rfl (by decide) q28), ?_⟩
                  generalize hev : Act.eval _ = ev
                  have ec : ∀ c, ev (.const c) = c := fun c => by rw [← hev]; rfl
                  have e8 : ev (.tmp 8) = .pointer (some ⟨G, 0, none⟩) := by rw [← hev]; exact eval_old (by kernel_rfl) 176 rfl (by decide) rfl
                  clear hev hd q28
                  exact .inl ⟨_, W, by go_simp, rfl, Below.refl _ _⟩
                · obtain rfl := Option.some.inj hoo
                  have q41 : uu 41 = .pointer (some ⟨G, 0, none⟩) := hd 41 (by kernel_rfl)
                  have q28 : uu 28 = .bool false := hd 28 (by kernel_rfl)
                  refine .inl ⟨wanted_yes rfl (yielded_put (k := 128) (by kernel_rfl) (by kernel_rfl) 176 rfl (by decide) q28), ?_⟩
                  generalize hev : Act.eval _ = ev
                  have ec : ∀ c, ev (.const c) = c := fun c => by rw [← hev]; rfl
                  have e141 : ev (.tmp 141) = .pointer (some ⟨G, 0, none⟩) := by rw [← hev]; exact (eval_put (by kernel_rfl) 176 rfl (by decide)).trans q41
                  clear hev hd q41 q28
                  exact .inl ⟨_, W, by go_simp, rfl, Below.refl _ _⟩
                · obtain rfl := Option.some.inj hoo
                  have q42 : uu 42 = .pointer (some ⟨G, 0, none⟩) := hd 42 (by kernel_rfl)
                  have q28 : uu 28 = .bool false := hd 28 (by kernel_rfl)
                  refine .inl ⟨wanted_yes rfl (yielded_put (k := 128) (by kernel_rfl) (by kernel_rfl) 176 rfl (by decide) q28), ?_⟩
                  generalize hev : Act.eval _ = ev
                  have ec : ∀ c, ev (.const c) = c := fun c => by rw [← hev]; rfl
                  have e142 : ev (.tmp 142) = .pointer (some ⟨G, 0, none⟩) := by rw [← hev]; exact (eval_put (by kernel_rfl) 176 rfl (by decide)).trans q42
                  clear hev hd q42 q28
                  exact .inl ⟨_, W, by go_simp, rfl, Below.refl _ _⟩
                · obtain rfl := Option.some.inj hoo
                  have q43 : uu 43 = .pointer (some ⟨G, 2, none⟩) := hd 43 (by kernel_rfl)
                  have q28 : uu 28 = .bool false := hd 28 (by kernel_rfl)
                  refine .inl ⟨wanted_yes rfl (yielded_put (k := 128) (by kernel_rfl) (by kernel_rfl) 176 rfl (by decide) q28), ?_⟩
                  generalize hev : Act.eval _ = ev
                  have ec : ∀ c, ev (.const c) = c := fun c => by rw [← hev]; rfl
                  have e143 : ev (.tmp 143) = .pointer (some ⟨G, 2, none⟩) := by rw [← hev]; exact (eval_put (by kernel_rfl) 176 rfl (by decide)).trans q43
                  clear hev hd q43 q28
                  obtain ⟨cc0, cc1, cc2, cc3⟩ := HCC W hVW
                  exact .inl ⟨_, W, by go_simp, rfl, Below.refl _ _⟩
                · obtain rfl := Option.some.inj hoo
                  have q44 : uu 44 = .slice A2 r d2 := hd 44 (by kernel_rfl)
                  have q28 : uu 28 = .bool false := hd 28 (by kernel_rfl)
                  refine .inl ⟨wanted_yes rfl (yielded_put (k := 128) (by kernel_rfl) (by kernel_rfl) 176 rfl (by decide) q28), ?_⟩
                  generalize hev : Act.eval _ = ev
                  have ec : ∀ c, ev (.const c) = c := fun c => by rw [← hev]; rfl
                  have e144 : ev (.tmp 144) = .slice A2 r d2 := by rw [← hev]; exact (eval_put (by kernel_rfl) 176 rfl (by decide)).trans q44
                  clear hev hd q44 q28
                  exact .inl ⟨_, W, by go_simp, rfl, Below.refl _ _⟩
                · obtain rfl := Option.some.inj hoo
                  have q40 : uu 40 = .int .i64 (np : Int) := hd 40 (by kernel_rfl)
                  have q45 : uu 45 = .int .i64 (r : Int) := hd 45 (by kernel_rfl)
                  have q28 : uu 28 = .bool false := hd 28 (by kernel_rfl)
                  refine .inl ⟨wanted_yes rfl (yielded_put (k := 128) (by kernel_rfl) (by kernel_rfl) 176 rfl (by decide) q28), ?_⟩
                  generalize hev : Act.eval _ = ev
                  have ec : ∀ c, ev (.const c) = c := fun c => by rw [← hev]; rfl
                  have e140 : ev (.tmp 140) = .int .i64 (np : Int) := by rw [← hev]; exact (eval_put (by kernel_rfl) 176 rfl (by decide)).trans q40
                  have e145 : ev (.tmp 145) = .int .i64 (r : Int) := by rw [← hev]; exact (eval_put (by kernel_rfl) 176 rfl (by decide)).trans q45
                  clear hev hd q40 q45 q28
                  have hh := HF.out.2.2.1
                  have hh2 := HF.out.2.2.2
                  exact .inl ⟨_, W, by go_simp, rfl, Below.refl _ _⟩
                · obtain rfl := Option.some.inj hoo
                  have q30 : uu 30 = .int .i64 (m : Int) := hd 30 (by kernel_rfl)
                  have q46 : uu 46 = .int .i64 (m : Int) := hd 46 (by kernel_rfl)
                  have q28 : uu 28 = .bool false := hd 28 (by kernel_rfl)
                  refine .inl ⟨wanted_yes rfl (yielded_put (k := 128) (by kernel_rfl) (by kernel_rfl) 176 rfl (by decide) q28), ?_⟩
                  generalize hev : Act.eval _ = ev
                  have ec : ∀ c, ev (.const c) = c := fun c => by rw [← hev]; rfl
                  have e130 : ev (.tmp 130) = .int .i64 (m : Int) := by rw [← hev]; exact (eval_put (by kernel_rfl) 176 rfl (by decide)).trans q30
                  have e146 : ev (.tmp 146) = .int .i64 (m : Int) := by rw [← hev]; exact (eval_put (by kernel_rfl) 176 rfl (by decide)).trans q46
                  clear hev hd q30 q46 q28
                  exact .inl ⟨_, W, by go_simp, rfl, Below.refl _ _⟩
                · obtain rfl := Option.some.inj hoo
                  have q28 : uu 28 = .bool false := hd 28 (by kernel_rfl)
                  have q47 : uu 47 = .bool false := hd 47 (by kernel_rfl)
                  refine .inl ⟨wanted_none rfl, ?_⟩
                  generalize hev : Act.eval _ = ev
                  have ec : ∀ c, ev (.const c) = c := fun c => by rw [← hev]; rfl
                  have e128 : ev (.tmp 128) = .bool false := by rw [← hev]; exact (eval_put (by kernel_rfl) 176 rfl (by decide)).trans q28
                  have e147 : ev (.tmp 147) = .bool false := by rw [← hev]; exact (eval_put (by kernel_rfl) 176 rfl (by decide)).trans q47
                  clear hev hd q28 q47
                  exact .inl ⟨_, W, by go_simp, rfl, Below.refl _ _⟩
                · obtain rfl := Option.some.inj hoo
                  have q48 : uu 48 = .bool false := hd 48 (by kernel_rfl)
                  refine .inl ⟨wanted_none rfl, ?_⟩
                  generalize hev : Act.eval _ = ev
                  have ec : ∀ c, ev (.const c) = c := fun c => by rw [← hev]; rfl
                  have e148 : ev (.tmp 148) = .bool false := by rw [← hev]; exact (eval_put (by kernel_rfl) 176 rfl (by decide)).trans q48
                  clear hev hd q48
                  exact .inl ⟨_, W, by go_simp, rfl, Below.refl _ _⟩
                · obtain rfl := Option.some.inj hoo
                  have q49 : uu 49 = .bool false := hd 49 (by kernel_rfl)
                  refine .inl ⟨wanted_yes rfl (yielded_put (k := 149) (by kernel_rfl) (by kernel_rfl) 176 rfl (by decide) q49), ?_⟩
                  generalize hev : Act.eval _ = ev
                  have ec : ∀ c, ev (.const c) = c := fun c => by rw [← hev]; rfl
                  have e7 : ev (.tmp 7) = .pointer (some ⟨w.heap.size + 1, 0, none⟩) := by rw [← hev]; exact eval_old (by kernel_rfl) 176 rfl (by decide) rfl
                  clear hev hd q49
                  exact .inl ⟨_, W, by go_simp, rfl, Below.refl _ _⟩
                · obtain rfl := Option.some.inj hoo
                  have q49 : uu 49 = .bool false := hd 49 (by kernel_rfl)
                  refine .inl ⟨wanted_yes rfl (yielded_put (k := 149) (by kernel_rfl) (by kernel_rfl) 176 rfl (by decide) q49), ?_⟩
                  generalize hev : Act.eval _ = ev
                  have ec : ∀ c, ev (.const c) = c := fun c => by rw [← hev]; rfl
                  have e2 : ev (.tmp 2) = .int .i64 a2 := by rw [← hev]; exact eval_old (by kernel_rfl) 176 rfl (by decide) rfl
                  clear hev hd q49
                  exact .inl ⟨_, W, by go_simp, rfl, Below.refl _ _⟩
                · obtain rfl := Option.some.inj hoo
                  have q50 : uu 50 = .pointer (some ⟨w.heap.size + 1, 0, none⟩) := hd 50 (by kernel_rfl)
                  have q51 : uu 51 = .int .i64 a2 := hd 51 (by kernel_rfl)
                  have q49 : uu 49 = .bool false := hd 49 (by kernel_rfl)
                  refine .inl ⟨wanted_yes rfl (yielded_put (k := 149) (by kernel_rfl) (by kernel_rfl) 176 rfl (by decide) q49), ?_⟩
                  generalize hev : Act.eval _ = ev
                  have ec : ∀ c, ev (.const c) = c := fun c => by rw [← hev]; rfl
                  have ef : ∀ f, ev (.func f) = .func (.func f) #[] #[] := fun f => by rw [← hev]; rfl
                  have e150 : ev (.tmp 150) = .pointer (some ⟨w.heap.size + 1, 0, none⟩) := by rw [← hev]; exact (eval_put (by kernel_rfl) 176 rfl (by decide)).trans q50
                  have e151 : ev (.tmp 151) = .int .i64 a2 := by rw [← hev]; exact (eval_put (by kernel_rfl) 176 rfl (by decide)).trans q51
                  clear hev hd q50 q51 q49
                  exact .inr ⟨_, _, _, by go_simp, ((hown1 W hVW).1).out, fun e w' he => ⟨_, he.1, rfl, he.2.bel⟩⟩
                · obtain rfl := Option.some.inj hoo
                  have q49 : uu 49 = .bool false := hd 49 (by kernel_rfl)
                  refine .inl ⟨wanted_yes rfl (yielded_put (k := 149) (by kernel_rfl) (by kernel_rfl) 176 rfl (by decide) q49), ?_⟩
                  generalize hev : Act.eval _ = ev
                  have ec : ∀ c, ev (.const c) = c := fun c => by rw [← hev]; rfl
                  have e8 : ev (.tmp 8) = .pointer (some ⟨G, 0, none⟩) := by rw [← hev]; exact eval_old (by kernel_rfl) 176 rfl (by decide) rfl
                  clear hev hd q49
                  exact .inl ⟨_, W, by go_simp, rfl, Below.refl _ _⟩
                · obtain rfl := Option.some.inj hoo
                  have q49 : uu 49 = .bool false := hd 49 (by kernel_rfl)
                  refine .inl ⟨wanted_yes rfl (yielded_put (k := 149) (by kernel_rfl) (by kernel_rfl) 176 rfl (by decide) q49), ?_⟩
                  generalize hev : Act.eval _ = ev
                  have ec : ∀ c, ev (.const c) = c := fun c => by rw [← hev]; rfl
                  have e2 : ev (.tmp 2) = .int .i64 a2 := by rw [← hev]; exact eval_old (by kernel_rfl) 176 rfl (by decide) rfl
                  clear hev hd q49
                  exact .inl ⟨_, W, by go_simp, rfl, Below.refl _ _⟩
                · obtain rfl := Option.some.inj hoo
                  have q53 : uu 53 = .pointer (some ⟨G, 0, none⟩) := hd 53 (by kernel_rfl)
                  have q54 : uu 54 = .int .i64 a2 := hd 54 (by kernel_rfl)
                  have q49 : uu 49 = .bool false := hd 49 (by kernel_rfl)
                  refine .inl ⟨wanted_yes rfl (yielded_put (k := 149) (by kernel_rfl) (by kernel_rfl) 176 rfl (by decide) q49), ?_⟩
                  generalize hev : Act.eval _ = ev
                  have ec : ∀ c, ev (.const c) = c := fun c => by rw [← hev]; rfl
                  have ef : ∀ f, ev (.func f) = .func (.func f) #[] #[] := fun f => by rw [← hev]; rfl
                  have e153 : ev (.tmp 153) = .pointer (some ⟨G, 0, none⟩) := by rw [← hev]; exact (eval_put (by kernel_rfl) 176 rfl (by decide)).trans q53
                  have e154 : ev (.tmp 154) = .int .i64 a2 := by rw [← hev]; exact (eval_put (by kernel_rfl) 176 rfl (by decide)).trans q54
                  clear hev hd q53 q54 q49
                  exact .inr ⟨_, _, _, by go_simp, ((hown1 W hVW).2).out, fun e w' he => ⟨_, he.1, rfl, he.2 ▸ Below.refl _ _⟩⟩
                · obtain rfl := Option.some.inj hoo
                  have q52 : uu 52 = .bool b1 := hd 52 (by kernel_rfl)
                  have q55 : uu 55 = .bool b1 := hd 55 (by kernel_rfl)
                  have q49 : uu 49 = .bool false := hd 49 (by kernel_rfl)
                  refine .inl ⟨wanted_yes rfl (yielded_put (k := 149) (by kernel_rfl) (by kernel_rfl) 176 rfl (by decide) q49), ?_⟩
                  generalize hev : Act.eval _ = ev
                  have ec : ∀ c, ev (.const c) = c := fun c => by rw [← hev]; rfl
                  have e152 : ev (.tmp 152) = .bool b1 := by rw [← hev]; exact (eval_put (by kernel_rfl) 176 rfl (by decide)).trans q52
                  have e155 : ev (.tmp 155) = .bool b1 := by rw [← hev]; exact (eval_put (by kernel_rfl) 176 rfl (by decide)).trans q55
                  clear hev hd q52 q55 q49
                  exact .inl ⟨_, W, by go_simp, rfl, Below.refl _ _⟩
                · obtain rfl := Option.some.inj hoo
                  have q49 : uu 49 = .bool false := hd 49 (by kernel_rfl)
                  have q56 : uu 56 = .bool false := hd 56 (by kernel_rfl)
                  refine .inl ⟨wanted_none rfl, ?_⟩
                  generalize hev : Act.eval _ = ev
                  have ec : ∀ c, ev (.const c) = c := fun c => by rw [← hev]; rfl
                  have e149 : ev (.tmp 149) = .bool false := by rw [← hev]; exact (eval_put (by kernel_rfl) 176 rfl (by decide)).trans q49
                  have e156 : ev (.tmp 156) = .bool false := by rw [← hev]; exact (eval_put (by kernel_rfl) 176 rfl (by decide)).trans q56
                  clear hev hd q49 q56
                  exact .inl ⟨_, W, by go_simp, rfl, Below.refl _ _⟩
                · obtain rfl := Option.some.inj hoo
                  have q57 : uu 57 = .bool false := hd 57 (by kernel_rfl)
                  refine .inl ⟨wanted_none rfl, ?_⟩
                  generalize hev : Act.eval _ = ev
                  have ec : ∀ c, ev (.const c) = c := fun c => by rw [← hev]; rfl
                  have e157 : ev (.tmp 157) = .bool false := by rw [← hev]; exact (eval_put (by kernel_rfl) 176 rfl (by decide)).trans q57
                  clear hev hd q57
                  exact .inl ⟨_, W, by go_simp, rfl, Below.refl _ _⟩
                · obtain rfl := Option.some.inj hoo
                  have q58 : uu 58 = .bool false := hd 58 (by kernel_rfl)
                  refine .inl ⟨wanted_yes rfl (yielded_put (k := 158) (by kernel_rfl) (by kernel_rfl) 176 rfl (by decide) q58), ?_⟩
                  generalize hev : Act.eval _ = ev
                  have ec : ∀ c, ev (.const c) = c := fun c => by rw [← hev]; rfl
                  have e7 : ev (.tmp 7) = .pointer (some ⟨w.heap.size + 1, 0, none⟩) := by rw [← hev]; exact eval_old (by kernel_rfl) 176 rfl (by decide) rfl
                  clear hev hd q58
                  exact .inl ⟨_, W, by go_simp, rfl, Below.refl _ _⟩
                · obtain rfl := Option.some.inj hoo
                  have q58 : uu 58 = .bool false := hd 58 (by kernel_rfl)
                  refine .inl ⟨wanted_yes rfl (yielded_put (k := 158) (by kernel_rfl) (by kernel_rfl) 176 rfl (by decide) q58), ?_⟩
                  generalize hev : Act.eval _ = ev
                  have ec : ∀ c, ev (.const c) = c := fun c => by rw [← hev]; rfl
                  have e1 : ev (.tmp 1) = .slice (some ⟨b, off, none⟩) len1 cap1 := by rw [← hev]; exact eval_old (by kernel_rfl) 176 rfl (by decide) rfl
                  clear hev hd q58
                  exact .inl ⟨_, W, by go_simp, rfl, Below.refl _ _⟩
                · obtain rfl := Option.some.inj hoo
                  have q58 : uu 58 = .bool false := hd 58 (by kernel_rfl)
                  refine .inl ⟨wanted_yes rfl (yielded_put (k := 158) (by kernel_rfl) (by kernel_rfl) 176 rfl (by decide) q58), ?_⟩
                  generalize hev : Act.eval _ = ev
                  have ec : ∀ c, ev (.const c) = c := fun c => by rw [← hev]; rfl
                  have e9 : ev (.tmp 9) = .int .i64 (j : Int) := by rw [← hev]; exact eval_old (by kernel_rfl) 176 rfl (by decide) rfl
                  clear hev hd q58
                  exact .inl ⟨_, W, by go_simp, rfl, Below.refl _ _⟩
                · obtain rfl := Option.some.inj hoo
                  have q60 : uu 60 = .slice (some ⟨b, off, none⟩) len1 cap1 := hd 60 (by kernel_rfl)
                  have q61 : uu 61 = .int .i64 (j : Int) := hd 61 (by kernel_rfl)
                  have q58 : uu 58 = .bool false := hd 58 (by kernel_rfl)
                  refine .inl ⟨wanted_yes rfl (yielded_put (k := 158) (by kernel_rfl) (by kernel_rfl) 176 rfl (by decide) q58), ?_⟩
                  generalize hev : Act.eval _ = ev
                  have ec : ∀ c, ev (.const c) = c := fun c => by rw [← hev]; rfl
                  have e160 : ev (.tmp 160) = .slice (some ⟨b, off, none⟩) len1 cap1 := by rw [← hev]; exact (eval_put (by kernel_rfl) 176 rfl (by decide)).trans q60
                  have e161 : ev (.tmp 161) = .int .i64 (j : Int) := by rw [← hev]; exact (eval_put (by kernel_rfl) 176 rfl (by decide)).trans q61
                  clear hev hd q60 q61 q58
                  exact .inl ⟨_, W, by go_simp, rfl, Below.refl _ _⟩
                · obtain rfl := Option.some.inj hoo
                  have q62 : uu 62 = .pointer (some ⟨b, off + j * 2, none⟩) := hd 62 (by kernel_rfl)
                  have q58 : uu 58 = .bool false := hd 58 (by kernel_rfl)
                  refine .inl ⟨wanted_yes rfl (yielded_put (k := 158) (by kernel_rfl) (by kernel_rfl) 176 rfl (by decide) q58), ?_⟩
                  generalize hev : Act.eval _ = ev
                  have ec : ∀ c, ev (.const c) = c := fun c => by rw [← hev]; rfl
                  have e162 : ev (.tmp 162) = .pointer (some ⟨b, off + j * 2, none⟩) := by rw [← hev]; exact (eval_put (by kernel_rfl) 176 rfl (by decide)).trans q62
                  clear hev hd q62 q58
                  exact .inl ⟨_, W, by go_simp, rfl, Below.refl _ _⟩
                · obtain rfl := Option.some.inj hoo
                  have q63 : uu 63 = .pointer (some ⟨b, off + j * 2 + 1, none⟩) := hd 63 (by kernel_rfl)
                  have q58 : uu 58 = .bool false := hd 58 (by kernel_rfl)
                  refine .inl ⟨wanted_yes rfl (yielded_put (k := 158) (by kernel_rfl) (by kernel_rfl) 176 rfl (by decide) q58), ?_⟩
                  generalize hev : Act.eval _ = ev
                  have ec : ∀ c, ev (.const c) = c := fun c => by rw [← hev]; rfl
                  have e163 : ev (.tmp 163) = .pointer (some ⟨b, off + j * 2 + 1, none⟩) := by rw [← hev]; exact (eval_put (by kernel_rfl) 176 rfl (by decide)).trans q63
                  clear hev hd q63 q58
                  obtain ⟨cc0, cc1, cc2, cc3⟩ := HCC W hVW
                  exact .inl ⟨_, W, by go_simp, rfl, Below.refl _ _⟩
                · obtain rfl := Option.some.inj hoo
                  have q59 : uu 59 = .pointer (some ⟨w.heap.size + 1, 0, none⟩) := hd 59 (by kernel_rfl)
                  have q64 : uu 64 = .int .i64 kn := hd 64 (by kernel_rfl)
                  have q58 : uu 58 = .bool false := hd 58 (by kernel_rfl)
                  refine .inl ⟨wanted_yes rfl (yielded_put (k := 158) (by kernel_rfl) (by kernel_rfl) 176 rfl (by decide) q58), ?_⟩
                  generalize hev : Act.eval _ = ev
                  have ec : ∀ c, ev (.const c) = c := fun c => by rw [← hev]; rfl
                  have ef : ∀ f, ev (.func f) = .func (.func f) #[] #[] := fun f => by rw [← hev]; rfl
                  have e159 : ev (.tmp 159) = .pointer (some ⟨w.heap.size + 1, 0, none⟩) := by rw [← hev]; exact (eval_put (by kernel_rfl) 176 rfl (by decide)).trans q59
                  have e164 : ev (.tmp 164) = .int .i64 kn := by rw [← hev]; exact (eval_put (by kernel_rfl) 176 rfl (by decide)).trans q64
                  clear hev hd q59 q64 q58
                  exact .inr ⟨_, _, _, by go_simp, ((hown2 W hVW).1).out, fun e w' he => ⟨_, he.1, rfl, he.2.bel⟩⟩
                · obtain rfl := Option.some.inj hoo
                  have q58 : uu 58 = .bool false := hd 58 (by kernel_rfl)
                  refine .inl ⟨wanted_yes rfl (yielded_put (k := 158) (by kernel_rfl) (by kernel_rfl) 176 rfl (by decide) q58), ?_⟩
                  generalize hev : Act.eval _ = ev
                  have ec : ∀ c, ev (.const c) = c := fun c => by rw [← hev]; rfl
                  have e8 : ev (.tmp 8) = .pointer (some ⟨G, 0, none⟩) := by rw [← hev]; exact eval_old (by kernel_rfl) 176 rfl (by decide) rfl
                  clear hev hd q58
                  exact .inl ⟨_, W, by go_simp, rfl, Below.refl _ _⟩
                · obtain rfl := Option.some.inj hoo
                  have q58 : uu 58 = .bool false := hd 58 (by kernel_rfl)
                  refine .inl ⟨wanted_yes rfl (yielded_put (k := 158) (by kernel_rfl) (by kernel_rfl) 176 rfl (by decide) q58), ?_⟩
                  generalize hev : Act.eval _ = ev
                  have ec : ∀ c, ev (.const c) = c := fun c => by rw [← hev]; rfl
                  have e1 : ev (.tmp 1) = .slice (some ⟨b, off, none⟩) len1 cap1 := by rw [← hev]; exact eval_old (by kernel_rfl) 176 rfl (by decide) rfl
                  clear hev hd q58
                  exact .inl ⟨_, W, by go_simp, rfl, Below.refl _ _⟩
                · obtain rfl := Option.some.inj hoo
                  have q58 : uu 58 = .bool false := hd 58 (by kernel_rfl)
                  refine .inl ⟨wanted_yes rfl (yielded_put (k := 158) (by kernel_rfl) (by kernel_rfl) 176 rfl (by decide) q58), ?_⟩
                  generalize hev : Act.eval _ = ev
                  have ec : ∀ c, ev (.const c) = c := fun c => by rw [← hev]; rfl
                  have e9 : ev (.tmp 9) = .int .i64 (j : Int) := by rw [← hev]; exact eval_old (by kernel_rfl) 176 rfl (by decide) rfl
                  clear hev hd q58
                  exact .inl ⟨_, W, by go_simp, rfl, Below.refl _ _⟩
                · obtain rfl := Option.some.inj hoo
                  have q67 : uu 67 = .slice (some ⟨b, off, none⟩) len1 cap1 := hd 67 (by kernel_rfl)
                  have q68 : uu 68 = .int .i64 (j : Int) := hd 68 (by kernel_rfl)
                  have q58 : uu 58 = .bool false := hd 58 (by kernel_rfl)
                  refine .inl ⟨wanted_yes rfl (yielded_put (k := 158) (by kernel_rfl) (by kernel_rfl) 176 rfl (by decide) q58), ?_⟩
                  generalize hev : Act.eval _ = ev
                  have ec : ∀ c, ev (.const c) = c := fun c => by rw [← hev]; rfl
                  have e167 : ev (.tmp 167) = .slice (some ⟨b, off, none⟩) len1 cap1 := by rw [← hev]; exact (eval_put (by kernel_rfl) 176 rfl (by decide)).trans q67
                  have e168 : ev (.tmp 168) = .int .i64 (j : Int) := by rw [← hev]; exact (eval_put (by kernel_rfl) 176 rfl (by decide)).trans q68
                  clear hev hd q67 q68 q58
                  exact .inl ⟨_, W, by go_simp, rfl, Below.refl _ _⟩
                · obtain rfl := Option.some.inj hoo
                  have q69 : uu 69 = .pointer (some ⟨b, off + j * 2, none⟩) := hd 69 (by kernel_rfl)
                  have q58 : uu 58 = .bool false := hd 58 (by kernel_rfl)
                  refine .inl ⟨wanted_yes rfl (yielded_put (k := 158) (by kernel_rfl) (by kernel_rfl) 176 rfl (by decide) q58), ?_⟩
                  generalize hev : Act.eval _ = ev
                  have ec : ∀ c, ev (.const c) = c := fun c => by rw [← hev]; rfl
                  have e169 : ev (.tmp 169) = .pointer (some ⟨b, off + j * 2, none⟩) := by rw [← hev]; exact (eval_put (by kernel_rfl) 176 rfl (by decide)).trans q69
                  clear hev hd q69 q58
                  exact .inl ⟨_, W, by go_simp, rfl, Below.refl _ _⟩
                · obtain rfl := Option.some.inj hoo
                  have q70 : uu 70 = .pointer (some ⟨b, off + j * 2 + 1, none⟩) := hd 70 (by kernel_rfl)
                  have q58 : uu 58 = .bool false := hd 58 (by kernel_rfl)
                  refine .inl ⟨wanted_yes rfl (yielded_put (k := 158) (by kernel_rfl) (by kernel_rfl) 176 rfl (by decide) q58), ?_⟩
                  generalize hev : Act.eval _ = ev
                  have ec : ∀ c, ev (.const c) = c := fun c => by rw [← hev]; rfl
                  have e170 : ev (.tmp 170) = .pointer (some ⟨b, off + j * 2 + 1, none⟩) := by rw [← hev]; exact (eval_put (by kernel_rfl) 176 rfl (by decide)).trans q70
                  clear hev hd q70 q58
                  obtain ⟨cc0, cc1, cc2, cc3⟩ := HCC W hVW
                  exact .inl ⟨_, W, by go_simp, rfl, Below.refl _ _⟩
                · obtain rfl := Option.some.inj hoo
                  have q66 : uu 66 = .pointer (some ⟨G, 0, none⟩) := hd 66 (by kernel_rfl)
                  have q71 : uu 71 = .int .i64 kn := hd 71 (by kernel_rfl)
                  have q58 : uu 58 = .bool false := hd 58 (by kernel_rfl)
                  refine .inl ⟨wanted_yes rfl (yielded_put (k := 158) (by kernel_rfl) (by kernel_rfl) 176 rfl (by decide) q58), ?_⟩
                  generalize hev : Act.eval _ = ev
                  have ec : ∀ c, ev (.const c) = c := fun c => by rw [← hev]; rfl
                  have ef : ∀ f, ev (.func f) = .func (.func f) #[] #[] := fun f => by rw [← hev]; rfl
                  have e166 : ev (.tmp 166) = .pointer (some ⟨G, 0, none⟩) := by rw [← hev]; exact (eval_put (by kernel_rfl) 176 rfl (by decide)).trans q66
                  have e171 : ev (.tmp 171) = .int .i64 kn := by rw [← hev]; exact (eval_put (by kernel_rfl) 176 rfl (by decide)).trans q71
                  clear hev hd q66 q71 q58
                  exact .inr ⟨_, _, _, by go_simp, ((hown2 W hVW).2).out, fun e w' he => ⟨_, he.1, rfl, he.2 ▸ Below.refl _ _⟩⟩
                · obtain rfl := Option.some.inj hoo
                  have q65 : uu 65 = .bool b2 := hd 65 (by kernel_rfl)
                  have q72 : uu 72 = .bool b2 := hd 72 (by kernel_rfl)
                  have q58 : uu 58 = .bool false := hd 58 (by kernel_rfl)
                  refine .inl ⟨wanted_yes rfl (yielded_put (k := 158) (by kernel_rfl) (by kernel_rfl) 176 rfl (by decide) q58), ?_⟩
                  generalize hev : Act.eval _ = ev
                  have ec : ∀ c, ev (.const c) = c := fun c => by rw [← hev]; rfl
                  have e165 : ev (.tmp 165) = .bool b2 := by rw [← hev]; exact (eval_put (by kernel_rfl) 176 rfl (by decide)).trans q65
                  have e172 : ev (.tmp 172) = .bool b2 := by rw [← hev]; exact (eval_put (by kernel_rfl) 176 rfl (by decide)).trans q72
                  clear hev hd q65 q72 q58
                  exact .inl ⟨_, W, by go_simp, rfl, Below.refl _ _⟩
                · obtain rfl := Option.some.inj hoo
                  have q58 : uu 58 = .bool false := hd 58 (by kernel_rfl)
                  have q73 : uu 73 = .bool false := hd 73 (by kernel_rfl)
                  refine .inl ⟨wanted_none rfl, ?_⟩
                  generalize hev : Act.eval _ = ev
                  have ec : ∀ c, ev (.const c) = c := fun c => by rw [← hev]; rfl
                  have e158 : ev (.tmp 158) = .bool false := by rw [← hev]; exact (eval_put (by kernel_rfl) 176 rfl (by decide)).trans q58
                  have e173 : ev (.tmp 173) = .bool false := by rw [← hev]; exact (eval_put (by kernel_rfl) 176 rfl (by decide)).trans q73
                  clear hev hd q58 q73
                  exact .inl ⟨_, W, by go_simp, rfl, Below.refl _ _⟩
                · simp at hoo
              · intro uu W hVW hall
                have q74 : uu 74 = .bool false := hall 74 (by decide)
                have HS2 := HS1.out.belowS hVW
                clear hall HCC hVW T1 T2 T3 hown1 hown2
                rw [List.toList_toArray]
                simp [putAll, Act.put, q74]
                clear q74
                go_wp2_with fail
                go_roundw
                case rel => exact ⟨j + 1, by omega, by omega, by go_num, HS2⟩
                case measure => simp [intOf]; omega
        · have : j = 80 := by omega
          subst this
          go_wp2_with fail
          refine (ringlives_any _).mono ?_
          rintro e w8 ⟨rfl, hb⟩
          go_wp2_with fail
          go_ret
          exact ⟨rfl, bnext hbw hb⟩
      · have : j = len1 := by omega
        subst this
        go_wp2_with fail
        refine (ringlives_any _).mono ?_
        rintro e w8 ⟨rfl, hb⟩
        go_wp2_with fail
        go_ret
        exact ⟨rfl, bnext hbw hb⟩
end Go.Proofs.Ytggcomociojfoab
