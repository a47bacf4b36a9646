/- The walk of the statement on probes in two parts. -/
import Derived.Test.YtbcofkiefompgaaLaw20b
namespace Go.Proofs.Ytbcofkiefompgaa
open Go.RowKit

theorem info_bool : (Try.prog.info? 4).map (fun i => (i.zero, i.size, i.bytes)) = some (some (.bool false), 1, 1) := by kernel_rfl
theorem bb_one (x : Bool) : (bb x).oneCell' = true := rfl
theorem own_empty (w : World) (e : TypeId) : Own bb (w.alloc (.cells #[] e)) w.heap.size e (.slice (some ⟨w.heap.size, 0, none⟩) 0 0) [] :=
  ⟨rfl, .inr ⟨w.heap.size, 0, #[], rfl, Nat.le_refl _, by show (w.heap.push _)[w.heap.size]? = _; simp, Nat.le_refl _, by simp [maxLen], rfl, rfl⟩⟩

theorem next_step (r f : Int) (s : Bool × Nat × Nat) (x : Bool) (t : Bool × Nat × Nat) (ht : stepS r f s x = t) (h1 : s.2.1 ≤ 1000) (h2 : s.2.2 ≤ 1000) (W : World) :
    Calls Try.prog 55 #[.agg #[.bool s.1, .int .i64 (s.2.1 : Nat), .int .i64 (s.2.2 : Nat)], .bool x, .int .i64 r, .int .i64 f] W fun e w' => e = .returned (.agg #[.bool t.1, .int .i64 (t.2.1 : Nat), .int .i64 (t.2.2 : Nat)]) ∧ Below W.heap.size W w' := by
  obtain ⟨u, g, b⟩ := s
  simp only at h1 h2 ⊢
  cases x
  · have := next_bad u g b r f W (by omega) _ (moreN_nat b (by omega)) t.1 (by
      rw [← ht]
      by_cases h : ((b + 1 : Nat) : Int) < f
      · simp only [stepS]; rw [if_pos h]; simp; omega
      · simp only [stepS]; rw [if_neg h]; simp; omega)
    have e1 : t.2 = (0, b + 1) := by rw [← ht]; rfl
    rw [e1]
    exact this
  · have := next_good u g b r f W (by omega) _ (moreN_nat g (by omega)) t.1 (by
      rw [← ht]
      by_cases h : ((g + 1 : Nat) : Int) < r
      · simp only [stepS]; rw [if_pos h]; simp; omega
      · simp only [stepS]; rw [if_neg h]; simp; omega)
    have e1 : t.2 = (g + 1, 0) := by rw [← ht]; rfl
    rw [e1]
    exact this

set_option maxHeartbeats 4000000 in
theorem ScoreParts_walk (a0 : Option Addr) (len0 cap0 : Nat) (a1 : Option Addr) (len1 cap1 : Nat) (a2 a3 : Int) (w : World) (w0 : InBools w a0 len0 cap0) (w1 : InBools w a1 len1 cap1) (_w2 : (Lit.int .i64 a2).wf = true) (_w3 : (Lit.int .i64 a3).wf = true) :
    Calls Try.prog 12 #[.slice a0 len0 cap0, .slice a1 len1 cap1, .int .i64 a2, .int .i64 a3] w fun e w' => e = .returned (.bool true) ∧ Below w.heap.size w w' := by
  obtain ⟨l1, hl1, ha, HFa⟩ := bfew_row w0 40 (by omega)
  obtain ⟨l2, hl2, hb, HFb⟩ := bfew_row w1 40 (by omega)
  clear w0 w1 _w2 _w3
  have OF := fun l A c W (h : Rd bb W W.heap.size A c l) (hl : l.length ≤ 1000) => ofs_any l A c a2 a3 W h hl
  obtain ⟨⟨u0, g0, b0⟩, hs⟩ : ∃ s, foldS a2 a3 l1 = s := ⟨_, rfl⟩
  have hOA := OF l1 a0 cap0 w ha (by omega)
  rw [hs] at hOA
  simp only at hOA
  have hac := ha.len
  have hbc := hb.len
  have hacc := ha.cap
  have hbcc := hb.cap
  go_enter Try.func12, Try.ntmps12
  go_wp2_with fail
  refine (HFa.out).mono ?_
  rintro e w_1 ⟨rfl, rfl⟩
  go_wp2_with fail
  refine (HFb.out).mono ?_
  rintro e w_1 ⟨rfl, rfl⟩
  go_wp2_with fail
  refine hOA.mono ?_
  rintro e w1 ⟨rfl, hbel⟩
  have hBk := Blk.new w1 #[.bool u0, .int .i64 (g0 : Nat), .int .i64 (b0 : Nat)] 68
  have hB1 := bnextA (bnext (Below.refl w.heap.size w) hbel) (.cells #[.bool u0, .int .i64 (g0 : Nat), .int .i64 (b0 : Nat)] 68)
  have hGle : w.heap.size ≤ w1.heap.size := hbel.size
  go_wp2_with fail
  generalize hV : w1.alloc (.cells #[.bool u0, .int .i64 (g0 : Nat), .int .i64 (b0 : Nat)] 68) = V at hBk hB1 ⊢
  clear hV hOA HFa HFb hbel
  generalize w1.heap.size = G at hBk hGle ⊢
  have HS := Lib.hid hs
  clear hs
  go_loopw [10] (fun i wr => ∃ j : Nat, j ≤ l2.length ∧ i = .int .i64 j ∧ Below w.heap.size w wr ∧ ∃ (u : Bool) (g b : Nat), Blk wr G [.bool u, .int .i64 (g : Nat), .int .i64 (b : Nat)] 68 ∧ Hid (foldS a2 a3 (l1 ++ l2.take j) = (u, g, b))) (fun i _ => l2.length - (intOf i).toNat)
  case atStart => exact ⟨0, by omega, rfl, hB1, u0, g0, b0, hBk, by simpa [Hid] using HS.out⟩
  case round =>
    obtain ⟨j, hj, rfl, hbw, u, g, bd, hS, HU⟩ := hrel
    by_cases hlt : j < l2.length
    · obtain ⟨bl, off, rfl, hBB, hcell⟩ := hb.at_ (k := j) hlt
      have c0 := (hbw.cell (p := ⟨bl, off + j, none⟩) hBB).trans (hcell j hlt)
      have hle := foldS_le a2 a3 (l1 ++ l2.take j)
      rw [HU.out] at hle
      simp only [List.length_append, List.length_take] at hle
      obtain ⟨⟨u2, g2, b2⟩, hst⟩ : ∃ t, stepS a2 a3 (u, g, bd) l2[j] = t := ⟨_, rfl⟩
      have hnew : foldS a2 a3 (l1 ++ l2.take (j + 1)) = (u2, g2, b2) := by
        rw [take_one l2 j hlt, ← List.append_assoc, foldS_snoc, HU.out, hst]
      have NX := fun W => next_step a2 a3 (u, g, bd) l2[j] _ hst (by simp only; omega) (by simp only; omega) W
      have HN := Lib.hid hnew
      clear hnew hst HU hcell
      generalize l2[j] = x at c0 NX
      simp only [bb] at c0
      simp only at NX
      have hblt : bl < wr.heap.size := Nat.lt_of_lt_of_le hBB hbw.size
      have hC : ∀ W, Below wr.heap.size wr W → W.cell? ⟨G, 0, none⟩ = some (.bool u) ∧ W.cell? ⟨G, 1, none⟩ = some (.int .i64 (g : Nat)) ∧ W.cell? ⟨G, 2, none⟩ = some (.int .i64 (bd : Nat)) ∧ W.cell? ⟨bl, off + j, none⟩ = some (.bool x) := by
        intro W h
        obtain ⟨p0, p1, p2, -⟩ := (hS.next h).get3
        exact ⟨p0, p1, p2, (h.cell (p := ⟨bl, off + j, none⟩) hblt).trans c0⟩
      go_wp2_with fail
      refine region_vals_last (by kernel_rfl) (by kernel_rfl) (by kernel_rfl) 49 rfl (by kernel_rfl) wr (Below.refl _ _) [.agg #[.bool u, .int .i64 (g : Nat), .int .i64 (bd : Nat)], .slice (some ⟨bl, off, none⟩) l2.length cap1, .int .i64 j, .pointer (some ⟨bl, off + j, none⟩), .bool x, .int .i64 a2, .int .i64 a3, .agg #[.bool u2, .int .i64 (g2 : Nat), .int .i64 (b2 : Nat)], undef] rfl 8 rfl (by kernel_rfl) (fun W' => Below w.heap.size w W' ∧ Blk W' G [.bool u2, .int .i64 (g2 : Nat), .int .i64 (b2 : Nat)] 68) ?_ ?_
      · intro i o uu W xx ho hx hVW hd
        rcases i with _|_|_|_|_|_|_|_|_|i
        · obtain rfl := Option.some.inj ho
          obtain rfl := Option.some.inj hx
          refine .inl ⟨wanted_none rfl, ?_⟩
          generalize hev : Act.eval _ = ev
          have ec : ∀ c, ev (.const c) = c := fun c => by rw [← hev]; rfl
          have e9 : ev (.tmp 9) = .pointer (some ⟨G, 0, none⟩) := by rw [← hev]; exact eval_old (by kernel_rfl) 49 rfl (by decide) rfl
          clear hev hd
          obtain ⟨cc0, cc1, cc2, cc3⟩ := hC W hVW
          exact .inl ⟨W, .inl (by go_simp), by rw [if_neg (by decide)]; exact Below.refl _ _⟩
        · obtain rfl := Option.some.inj ho
          obtain rfl := Option.some.inj hx
          refine .inl ⟨wanted_none rfl, ?_⟩
          generalize hev : Act.eval _ = ev
          have ec : ∀ c, ev (.const c) = c := fun c => by rw [← hev]; rfl
          have e1 : ev (.tmp 1) = .slice (some ⟨bl, off, none⟩) l2.length cap1 := by rw [← hev]; exact eval_old (by kernel_rfl) 49 rfl (by decide) rfl
          clear hev hd
          exact .inl ⟨W, .inl (by go_simp), by rw [if_neg (by decide)]; exact Below.refl _ _⟩
        · obtain rfl := Option.some.inj ho
          obtain rfl := Option.some.inj hx
          refine .inl ⟨wanted_none rfl, ?_⟩
          generalize hev : Act.eval _ = ev
          have ec : ∀ c, ev (.const c) = c := fun c => by rw [← hev]; rfl
          have e10 : ev (.tmp 10) = .int .i64 j := by rw [← hev]; exact eval_old (by kernel_rfl) 49 rfl (by decide) rfl
          clear hev hd
          exact .inl ⟨W, .inl (by go_simp), by rw [if_neg (by decide)]; exact Below.refl _ _⟩
        · obtain rfl := Option.some.inj ho
          obtain rfl := Option.some.inj hx
          have q1 : uu 1 = .slice (some ⟨bl, off, none⟩) l2.length cap1 := hd 1 (by kernel_rfl) _ rfl
          have q2 : uu 2 = .int .i64 j := hd 2 (by kernel_rfl) _ rfl
          refine .inl ⟨wanted_none rfl, ?_⟩
          generalize hev : Act.eval _ = ev
          have ec : ∀ c, ev (.const c) = c := fun c => by rw [← hev]; rfl
          have e27 : ev (.tmp 27) = .slice (some ⟨bl, off, none⟩) l2.length cap1 := by rw [← hev]; exact (eval_put (by kernel_rfl) 49 rfl (by decide)).trans q1
          have e28 : ev (.tmp 28) = .int .i64 j := by rw [← hev]; exact (eval_put (by kernel_rfl) 49 rfl (by decide)).trans q2
          clear hev hd q1 q2
          exact .inl ⟨W, .inl (by go_simp), by rw [if_neg (by decide)]; exact Below.refl _ _⟩
        · obtain rfl := Option.some.inj ho
          obtain rfl := Option.some.inj hx
          have q3 : uu 3 = .pointer (some ⟨bl, off + j, none⟩) := hd 3 (by kernel_rfl) _ rfl
          refine .inl ⟨wanted_none rfl, ?_⟩
          generalize hev : Act.eval _ = ev
          have ec : ∀ c, ev (.const c) = c := fun c => by rw [← hev]; rfl
          have e29 : ev (.tmp 29) = .pointer (some ⟨bl, off + j, none⟩) := by rw [← hev]; exact (eval_put (by kernel_rfl) 49 rfl (by decide)).trans q3
          clear hev hd q3
          obtain ⟨cc0, cc1, cc2, cc3⟩ := hC W hVW
          exact .inl ⟨W, .inl (by go_simp), by rw [if_neg (by decide)]; exact Below.refl _ _⟩
        · obtain rfl := Option.some.inj ho
          obtain rfl := Option.some.inj hx
          refine .inl ⟨wanted_none rfl, ?_⟩
          generalize hev : Act.eval _ = ev
          have ec : ∀ c, ev (.const c) = c := fun c => by rw [← hev]; rfl
          have e2 : ev (.tmp 2) = .int .i64 a2 := by rw [← hev]; exact eval_old (by kernel_rfl) 49 rfl (by decide) rfl
          clear hev hd
          exact .inl ⟨W, .inl (by go_simp), by rw [if_neg (by decide)]; exact Below.refl _ _⟩
        · obtain rfl := Option.some.inj ho
          obtain rfl := Option.some.inj hx
          refine .inl ⟨wanted_none rfl, ?_⟩
          generalize hev : Act.eval _ = ev
          have ec : ∀ c, ev (.const c) = c := fun c => by rw [← hev]; rfl
          have e3 : ev (.tmp 3) = .int .i64 a3 := by rw [← hev]; exact eval_old (by kernel_rfl) 49 rfl (by decide) rfl
          clear hev hd
          exact .inl ⟨W, .inl (by go_simp), by rw [if_neg (by decide)]; exact Below.refl _ _⟩
        · obtain rfl := Option.some.inj ho
          obtain rfl := Option.some.inj hx
          have q0 : uu 0 = .agg #[.bool u, .int .i64 (g : Nat), .int .i64 (bd : Nat)] := hd 0 (by kernel_rfl) _ rfl
          have q4 : uu 4 = .bool x := hd 4 (by kernel_rfl) _ rfl
          have q5 : uu 5 = .int .i64 a2 := hd 5 (by kernel_rfl) _ rfl
          have q6 : uu 6 = .int .i64 a3 := hd 6 (by kernel_rfl) _ rfl
          refine .inl ⟨wanted_none rfl, ?_⟩
          generalize hev : Act.eval _ = ev
          have ec : ∀ c, ev (.const c) = c := fun c => by rw [← hev]; rfl
          have ef : ∀ f, ev (.func f) = .func (.func f) #[] #[] := fun f => by rw [← hev]; rfl
          have e26 : ev (.tmp 26) = .agg #[.bool u, .int .i64 (g : Nat), .int .i64 (bd : Nat)] := by rw [← hev]; exact (eval_put (by kernel_rfl) 49 rfl (by decide)).trans q0
          have e30 : ev (.tmp 30) = .bool x := by rw [← hev]; exact (eval_put (by kernel_rfl) 49 rfl (by decide)).trans q4
          have e31 : ev (.tmp 31) = .int .i64 a2 := by rw [← hev]; exact (eval_put (by kernel_rfl) 49 rfl (by decide)).trans q5
          have e32 : ev (.tmp 32) = .int .i64 a3 := by rw [← hev]; exact (eval_put (by kernel_rfl) 49 rfl (by decide)).trans q6
          clear hev hd q0 q4 q5 q6
          exact .inr ⟨by decide, _, _, by go_simp, NX W⟩
        · obtain rfl := Option.some.inj ho
          obtain rfl := Option.some.inj hx
          have q7 : uu 7 = .agg #[.bool u2, .int .i64 (g2 : Nat), .int .i64 (b2 : Nat)] := hd 7 (by kernel_rfl) _ rfl
          refine .inl ⟨wanted_none rfl, ?_⟩
          generalize hev : Act.eval _ = ev
          have ec : ∀ c, ev (.const c) = c := fun c => by rw [← hev]; rfl
          have e9 : ev (.tmp 9) = .pointer (some ⟨G, 0, none⟩) := by rw [← hev]; exact eval_old (by kernel_rfl) 49 rfl (by decide) rfl
          have e33 : ev (.tmp 33) = .agg #[.bool u2, .int .i64 (g2 : Nat), .int .i64 (b2 : Nat)] := by rw [← hev]; exact (eval_put (by kernel_rfl) 49 rfl (by decide)).trans q7
          clear hev hd q7
          obtain ⟨-, -, -, f0, f1, f2⟩ := (hS.next hVW).get3
          obtain ⟨cc0, cc1, cc2, cc3⟩ := hC W hVW
          exact .inl ⟨_, .inr ⟨by (go_simp <;> rfl), rfl⟩, by rw [if_pos rfl]; exact ⟨bset3 (hbw.trans (hVW.mono hbw.size)) hGle _ _ _, (hS.next hVW).set3⟩⟩
        · simp at ho
      · intro W hR
        obtain ⟨hB6, hS6⟩ := hR
        simp only [putAll, Act.put]
        go_wp2_with fail
        go_roundw
        case rel => exact ⟨j + 1, by omega, by go_num, hB6, u2, g2, b2, hS6, HN⟩
        case measure => simp [intOf]; omega
    · have : j = l2.length := by omega
      subst this
      rw [List.take_length] at HU
      have hBr := Below.refl wr.heap.size wr
      have har := (ha.below hbw).more hbw.size
      have hbr := (hb.below hbw).more hbw.size
      obtain ⟨i0, hi0, hz0, hz1, hz2⟩ := info_parts info_bool
      go_wp2_with (first
        | (at_builtin; (refine wpList_append_rd rfl (.tmp 35) (.tmp 36) _ rfl bb wr.heap.size 4 i0 _ 1 Try.underlying65 hi0 hz0 hz1 hz2 rfl bb_one _ _ rfl (own_empty wr 4) _ a0 cap0 l1 rfl (har.nextA _) (by simp only [List.length_nil]; omega) (by simp only [List.length_nil]; omega) (by simp) wr (bnextA hBr _) ?_); intro v1 wA hownA hbA hnn)
        | (at_builtin; (refine wpList_append_rd rfl (.tmp 37) (.tmp 38) _ rfl bb wr.heap.size 4 i0 _ 1 Try.underlying65 hi0 hz0 hz1 hz2 rfl bb_one _ _ rfl hownA _ a1 cap1 l2 rfl (hbr.below hbA) (by simp only [List.length_nil, List.length_append]; omega) (by simp only [List.length_nil, List.length_append]; omega) hbA.size wr hbA ?_); intro v2 wB hownB hbB hnn2)
        | fail)
      obtain ⟨LB, AB, cB, HLB, rfl, rB⟩ := hownB.rdv
      have hLB : LB = l1 ++ l2 := by rw [HLB.out]; simp
      have OL := fun W (h : Rd bb W W.heap.size AB cB LB) => OF LB AB cB W h (by rw [hLB]; simp; omega)
      have hfL : foldS a2 a3 LB = (u, g, bd) := by rw [hLB, HU.out]
      rw [hfL] at OL
      simp only at OL
      have hSB := hS.below hbB hS.lt
      have hC : ∀ W, Below wB.heap.size wB W → W.cell? ⟨G, 0, none⟩ = some (.bool u) ∧ W.cell? ⟨G, 1, none⟩ = some (.int .i64 (g : Nat)) ∧ W.cell? ⟨G, 2, none⟩ = some (.int .i64 (bd : Nat)) := by
        intro W h
        obtain ⟨p0, p1, p2, -⟩ := (hSB.next h).get3
        exact ⟨p0, p1, p2⟩
      go_wp2_with fail
      refine region_vals (by kernel_rfl) (by kernel_rfl) (by kernel_rfl) 49 rfl (by kernel_rfl) wB (Below.refl _ _) [.agg #[.bool u, .int .i64 (g : Nat), .int .i64 (bd : Nat)], .slice AB LB.length cB, .int .i64 a2, .int .i64 a3, .agg #[.bool u, .int .i64 (g : Nat), .int .i64 (bd : Nat)], .bool true, .bool true, .bool true, .bool true, .bool true] rfl ?_ ?_
      · intro i o uu W xx ho hx hVW hd
        rcases i with _|_|_|_|_|_|_|_|_|_|i
        · obtain rfl := Option.some.inj ho
          obtain rfl := Option.some.inj hx
          refine .inl ⟨wanted_none rfl, ?_⟩
          generalize hev : Act.eval _ = ev
          have ec : ∀ c, ev (.const c) = c := fun c => by rw [← hev]; rfl
          have e9 : ev (.tmp 9) = .pointer (some ⟨G, 0, none⟩) := by rw [← hev]; exact eval_old (by kernel_rfl) 49 rfl (by decide) rfl
          clear hev hd
          obtain ⟨cc0, cc1, cc2⟩ := hC W hVW
          exact .inl ⟨W, by go_simp, Below.refl _ _⟩
        · obtain rfl := Option.some.inj ho
          obtain rfl := Option.some.inj hx
          refine .inl ⟨wanted_none rfl, ?_⟩
          generalize hev : Act.eval _ = ev
          have ec : ∀ c, ev (.const c) = c := fun c => by rw [← hev]; rfl
          have e11 : ev (.tmp 11) = .slice AB LB.length cB := by rw [← hev]; exact eval_old (by kernel_rfl) 49 rfl (by decide) rfl
          clear hev hd
          exact .inl ⟨W, by go_simp, Below.refl _ _⟩
        · obtain rfl := Option.some.inj ho
          obtain rfl := Option.some.inj hx
          refine .inl ⟨wanted_none rfl, ?_⟩
          generalize hev : Act.eval _ = ev
          have ec : ∀ c, ev (.const c) = c := fun c => by rw [← hev]; rfl
          have e2 : ev (.tmp 2) = .int .i64 a2 := by rw [← hev]; exact eval_old (by kernel_rfl) 49 rfl (by decide) rfl
          clear hev hd
          exact .inl ⟨W, by go_simp, Below.refl _ _⟩
        · obtain rfl := Option.some.inj ho
          obtain rfl := Option.some.inj hx
          refine .inl ⟨wanted_none rfl, ?_⟩
          generalize hev : Act.eval _ = ev
          have ec : ∀ c, ev (.const c) = c := fun c => by rw [← hev]; rfl
          have e3 : ev (.tmp 3) = .int .i64 a3 := by rw [← hev]; exact eval_old (by kernel_rfl) 49 rfl (by decide) rfl
          clear hev hd
          exact .inl ⟨W, by go_simp, Below.refl _ _⟩
        · obtain rfl := Option.some.inj ho
          obtain rfl := Option.some.inj hx
          have q1 : uu 1 = .slice AB LB.length cB := hd 1 (by kernel_rfl) _ rfl
          have q2 : uu 2 = .int .i64 a2 := hd 2 (by kernel_rfl) _ rfl
          have q3 : uu 3 = .int .i64 a3 := hd 3 (by kernel_rfl) _ rfl
          refine .inl ⟨wanted_none rfl, ?_⟩
          generalize hev : Act.eval _ = ev
          have ec : ∀ c, ev (.const c) = c := fun c => by rw [← hev]; rfl
          have ef : ∀ f, ev (.func f) = .func (.func f) #[] #[] := fun f => by rw [← hev]; rfl
          have e41 : ev (.tmp 41) = .slice AB LB.length cB := by rw [← hev]; exact (eval_put (by kernel_rfl) 49 rfl (by decide)).trans q1
          have e42 : ev (.tmp 42) = .int .i64 a2 := by rw [← hev]; exact (eval_put (by kernel_rfl) 49 rfl (by decide)).trans q2
          have e43 : ev (.tmp 43) = .int .i64 a3 := by rw [← hev]; exact (eval_put (by kernel_rfl) 49 rfl (by decide)).trans q3
          clear hev hd q1 q2 q3
          exact .inr ⟨_, _, by go_simp, OL W (rB.next hVW)⟩
        · obtain rfl := Option.some.inj ho
          obtain rfl := Option.some.inj hx
          have q0 : uu 0 = .agg #[.bool u, .int .i64 (g : Nat), .int .i64 (bd : Nat)] := hd 0 (by kernel_rfl) _ rfl
          have q4 : uu 4 = .agg #[.bool u, .int .i64 (g : Nat), .int .i64 (bd : Nat)] := hd 4 (by kernel_rfl) _ rfl
          refine .inl ⟨wanted_none rfl, ?_⟩
          generalize hev : Act.eval _ = ev
          have ec : ∀ c, ev (.const c) = c := fun c => by rw [← hev]; rfl
          have e40 : ev (.tmp 40) = .agg #[.bool u, .int .i64 (g : Nat), .int .i64 (bd : Nat)] := by rw [← hev]; exact (eval_put (by kernel_rfl) 49 rfl (by decide)).trans q0
          have e44 : ev (.tmp 44) = .agg #[.bool u, .int .i64 (g : Nat), .int .i64 (bd : Nat)] := by rw [← hev]; exact (eval_put (by kernel_rfl) 49 rfl (by decide)).trans q4
          clear hev hd q0 q4
          exact .inl ⟨W, by go_simp, Below.refl _ _⟩
        · obtain rfl := Option.some.inj ho
          obtain rfl := Option.some.inj hx
          have q5 : uu 5 = .bool true := hd 5 (by kernel_rfl) _ rfl
          refine .inl ⟨wanted_none rfl, ?_⟩
          generalize hev : Act.eval _ = ev
          have ec : ∀ c, ev (.const c) = c := fun c => by rw [← hev]; rfl
          have e45 : ev (.tmp 45) = .bool true := by rw [← hev]; exact (eval_put (by kernel_rfl) 49 rfl (by decide)).trans q5
          clear hev hd q5
          exact .inl ⟨W, by go_simp, Below.refl _ _⟩
        · obtain rfl := Option.some.inj ho
          obtain rfl := Option.some.inj hx
          have q6 : uu 6 = .bool true := hd 6 (by kernel_rfl) _ rfl
          refine .inl ⟨wanted_yes rfl (yielded_put (k := 46) (by kernel_rfl) (by kernel_rfl) 49 rfl (by decide) q6), ?_⟩
          generalize hev : Act.eval _ = ev
          have ec : ∀ c, ev (.const c) = c := fun c => by rw [← hev]; rfl
          have ef : ∀ f, ev (.func f) = .func (.func f) #[] #[] := fun f => by rw [← hev]; rfl
          clear hev hd q6
          exact .inr ⟨_, _, by go_simp, slives_any W⟩
        · obtain rfl := Option.some.inj ho
          obtain rfl := Option.some.inj hx
          have q6 : uu 6 = .bool true := hd 6 (by kernel_rfl) _ rfl
          have q7 : uu 7 = .bool true := hd 7 (by kernel_rfl) _ rfl
          refine .inl ⟨wanted_none rfl, ?_⟩
          generalize hev : Act.eval _ = ev
          have ec : ∀ c, ev (.const c) = c := fun c => by rw [← hev]; rfl
          have e46 : ev (.tmp 46) = .bool true := by rw [← hev]; exact (eval_put (by kernel_rfl) 49 rfl (by decide)).trans q6
          have e47 : ev (.tmp 47) = .bool true := by rw [← hev]; exact (eval_put (by kernel_rfl) 49 rfl (by decide)).trans q7
          clear hev hd q6 q7
          exact .inl ⟨W, by go_simp, Below.refl _ _⟩
        · obtain rfl := Option.some.inj ho
          obtain rfl := Option.some.inj hx
          have q8 : uu 8 = .bool true := hd 8 (by kernel_rfl) _ rfl
          refine .inl ⟨wanted_none rfl, ?_⟩
          generalize hev : Act.eval _ = ev
          have ec : ∀ c, ev (.const c) = c := fun c => by rw [← hev]; rfl
          have e48 : ev (.tmp 48) = .bool true := by rw [← hev]; exact (eval_put (by kernel_rfl) 49 rfl (by decide)).trans q8
          clear hev hd q8
          exact .inl ⟨W, by go_simp, Below.refl _ _⟩
        · simp at ho
      · intro W hVW
        go_wp2_with fail
        refine bodyPost_ret (results_tmp rfl _ _ _) (putAll_defers _ _ _ _) ?_
        exact ⟨congrArg Ending.returned (by kernel_rfl), (hbw.trans (hbB.mono hbw.size)).trans (hVW.mono (Nat.le_trans hbw.size hbB.size))⟩
end Go.Proofs.Ytbcofkiefompgaa
