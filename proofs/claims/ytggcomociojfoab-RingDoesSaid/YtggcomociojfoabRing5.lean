/- Contracts of the reference's ring. -/
import Derived.Test.YtggcomociojfoabRing4
import Derived.Test.YtggcomociojfoabPool2
namespace Go.Proofs.Ytggcomociojfoab
open Go.RowKit

def clampN (m : Int) : Nat := if m < 1 then 1 else if 64 < m then 64 else m.toNat
theorem clampN_bd (m : Int) : 1 ≤ clampN m ∧ clampN m ≤ 64 := by unfold clampN; split <;> (try split) <;> omega
theorem rnew_c (m : Int) (w : World) : Calls Try.prog 18 #[.int .i64 m] w fun e w' => e = .returned (.pointer (some ⟨w.heap.size + 1, 0, none⟩)) ∧ Below w.heap.size w w' ∧ Rg w' (w.heap.size + 1) w.heap.size (clampN m) (List.replicate (clampN m) 0) 0 0 0 := by
  by_cases h1 : m < 1
  · rw [show clampN m = 1 by simp [clampN, h1]]
    exact rnew_lo m h1 w
  · by_cases h2 : 64 < m
    · rw [show clampN m = 64 by simp [clampN, h1, h2]]
      exact rnew_hi m h1 h2 w
    · obtain ⟨N, rfl⟩ : ∃ N : Nat, m = (N : Int) := ⟨m.toNat, by omega⟩
      rw [show clampN (N : Int) = N by simp only [clampN, if_neg h1, if_neg h2]; omega]
      exact rnew_mid N (by omega) (by omega) w
theorem Row.nil (w : World) (g : Nat) : Row w g (.slice none 0 0) [] := ⟨none, 0, rfl, Rd.nil0 _ _ _, by simp⟩
theorem rrnew_c (m : Int) (w : World) : Calls Try.prog 19 #[.int .i64 m] w fun e w' => e = .returned (.pointer (some ⟨w.heap.size, 0, none⟩)) ∧ Below w.heap.size w w' ∧ Rr w' w.heap.size (clampN m) (.slice none 0 0) (.slice none 0 0) [] [] 0 0 := by
  have HC := Lib.hid (rin_any m 1 64 w)
  have hbd := clampN_bd m
  have he : (if m < 1 then (1 : Int) else if 64 < m then 64 else m) = (clampN m : Int) := by unfold clampN; split <;> (try split) <;> omega
  rw [he] at HC
  generalize clampN m = N at *
  clear he
  go_enter Try.func19, Try.ntmps19
  go_wp2_with fail
  refine HC.out.mono ?_
  rintro e w1 ⟨rfl, rfl⟩
  go_wp2_with fail
  go_ret
  exact ⟨rfl, bnextA (Below.refl _ _) _, ⟨Blk.new w _ _, Row.nil _ _, Row.nil _ _, hbd.2, by simp, by simp, by omega⟩⟩
theorem Row.tail1 {P : Program} {t e : TypeId} (ht : P.underlying t = some (.slice e)) {i : TypeInfo} (hi : P.info? e = some i) (hs : i.size = 1) {w : World} {g : Nat} {A : Option Addr} {c : Nat} {x : Int} {xs : List Int} (h : Rd iv w w.heap.size A c (x :: xs)) (hg : ∀ a : Addr, A = some a → g < a.block) :
    ∃ A2 c2, Rd iv w w.heap.size A2 c2 xs ∧ (∀ a : Addr, A2 = some a → g < a.block) ∧ ∀ W, (Instr.slice t (.slice A (xs.length + 1) c) (some (.int .i64 1)) none none).run P W = .ok (.slice A2 xs.length c2) W := by
  have hcut := h.cut 1 xs.length (by simp; omega)
  rw [List.take_of_length_le (by simp)] at hcut
  refine ⟨_, _, hcut, fun a ha => ?_, fun W => ?_⟩
  · cases A with
    | none => split at ha <;> simp at ha
    | some b =>
      have hb := hg b rfl
      split at ha
      · injection ha with ha; rw [← ha]; exact hb
      · simp only [Option.map_some] at ha
        injection ha with ha
        rw [← ha]
        unfold Addr.add
        split <;> exact hb
  · have hl := h.len
    have he : P.elem t = e := by simp [Program.elem, ht]
    have ht' : P.underlying t = some (.slice (P.elem t)) := by rw [he]; exact ht
    have h2 := run_slice_l W t A (xs.length + 1) c ht' .i64 1 (by omega) (by simp at hl; omega)
    rw [he] at h2
    have h3 : (Instr.slice t (.slice A (xs.length + 1) c) (some (.int .i64 1)) none none).run P W = _ := h2
    rw [h3]
    simp [sizeOf, typeInfo, hi, hs, sliced]

section
variable {w : World} {g n : Nat} {vp vr : Value} {ps rs : List Int} {ever work : Nat}
theorem rrpost_full (R : Rr w g n vp vr ps rs ever work) (hf : n ≤ ps.length + rs.length) (i : Int) : Calls Try.prog 22 #[.pointer (some ⟨g, 0, none⟩), .int .i64 i] w fun e w' => e = .returned (.bool false) ∧ Drawn w w' := by
  obtain ⟨c0, c1, c2, c3, c4, -⟩ := rr_cells R.bg
  obtain ⟨A, c, rfl, hr, -⟩ := R.op
  obtain ⟨A', c', rfl, hr', -⟩ := R.or_
  obtain ⟨P, hP⟩ : ∃ P, ps.length = P := ⟨_, rfl⟩
  obtain ⟨Q, hQ⟩ : ∃ Q, rs.length = Q := ⟨_, rfl⟩
  obtain ⟨S, hS⟩ : ∃ S, P + Q = S := ⟨_, rfl⟩
  have h64 := R.n64
  have hpr := R.pr
  rw [hP, hQ] at hf hpr
  rw [hP] at c1
  rw [hQ] at c2
  have e1 : (P : Int) + (Q : Int) = (S : Int) := by omega
  have e2 : IntKind.i64.wrap (S : Int) = (S : Int) := by rw [IntKind.wrap_i64]; omega
  have e3 : decide (n ≤ S) = true := by simp; omega
  have e4 : decide (S < n) = false := by simp; omega
  clear R hr hr' hP hQ hS hf hpr
  go_enter Try.func22, Try.ntmps22
  go_wp2_with fail
  go_quiet (fail)
  go_wp2_with fail
  go_ret
  exact ⟨rfl, _, rfl⟩
set_option maxHeartbeats 1000000 in
theorem rrpost_ok (R : Rr w g n vp vr ps rs ever work) (hf : ps.length + rs.length < n) (he : ever + 1 ≤ 100) (i : Int) : Calls Try.prog 22 #[.pointer (some ⟨g, 0, none⟩), .int .i64 i] w fun e w' => e = .returned (.bool true) ∧ Off g g w w' ∧ ∃ vp', Rr w' g n vp' vr (ps ++ [i]) rs (ever + 1) work := by
  obtain ⟨i0, hi0, hz0, hz1, hz2⟩ := info_parts info_i64
  have hR := R
  obtain ⟨c0, c1, c2, c3, c4, -⟩ := rr_cells R.bg
  obtain ⟨A, c, rfl, hr, hga⟩ := R.op
  obtain ⟨A', c', rfl, hr', hga'⟩ := R.or_
  obtain ⟨P, hP⟩ : ∃ P, ps.length = P := ⟨_, rfl⟩
  obtain ⟨Q, hQ⟩ : ∃ Q, rs.length = Q := ⟨_, rfl⟩
  obtain ⟨S, hS⟩ : ∃ S, P + Q = S := ⟨_, rfl⟩
  have h64 := R.n64
  have hpr := R.pr
  have hgl := R.bg.lt
  rw [hP, hQ] at hf hpr
  rw [hP] at c1
  rw [hQ] at c2
  have e1 : (P : Int) + (Q : Int) = (S : Int) := by omega
  have e2 : IntKind.i64.wrap (S : Int) = (S : Int) := by rw [IntKind.wrap_i64]; omega
  have e3 : decide (n ≤ S) = false := by simp; omega
  have e4 : decide (S < n) = true := by simp; omega
  obtain ⟨E1, hE1⟩ : ∃ E1, ever + 1 = E1 := ⟨_, rfl⟩
  rw [hE1]
  have e5 : (ever : Int) + 1 = (E1 : Int) := by omega
  have e6 : IntKind.i64.wrap (E1 : Int) = (E1 : Int) := by rw [IntKind.wrap_i64]; omega
  have HP2 := Lib.hid hP
  have hQ2 := Lib.hid hQ
  have hsum : ps.length + 1 + rs.length ≤ n := by omega
  have HSUM := Lib.hid hsum
  clear R hr' hS hf hP hQ hsum
  go_enter Try.func22, Try.ntmps22
  go_wp2_with fail
  go_quiet (fail)
  have hVd : Below w.heap.size w (w.drewN nq) := below_drewN (Below.refl _ _) _
  clear c0 c1 c2 c3 c4 e1 e2
  obtain ⟨c0, c1, c2, c3, c4, f1, f2, f3, f4⟩ := rr_cells ((hR.bg.next hVd).alloc (.cells #[] 3))
  rw [HP2.out] at c1
  have hown0 : Own iv ((w.drewN nq).alloc (.cells #[] 3)) w.heap.size 3 (.slice (some ⟨w.heap.size, 0, none⟩) 0 0) [] := World.ownsRow_lit (w.drewN nq) #[] 0 (Nat.le_refl _) (by unfold maxLen; omega) rfl
  have hb0 : Below w.heap.size w ((w.drewN nq).alloc (.cells #[] 3)) := bnextA hVd _
  have hrA := hr.next hb0
  have HA : Hid (ps.length ≤ 64) := by have := HP2.out; rw [Hid]; omega
  have hr2 : Rd iv ((w.drewN nq).alloc (.cells #[] 3)) ((w.drewN nq).alloc (.cells #[] 3)).heap.size A c ps := hrA
  have hsl : (.slice A P c : Value) = .slice A ps.length c := by rw [HP2.out]
  go_wp2_with (first
    | (at_builtin; refine wpList_append_rd rfl (.tmp 23) (.tmp 27) _ rfl iv w.heap.size 3 i0 _ 8 Try.underlying61 hi0 hz0 hz1 hz2 rfl iv_one _ _ rfl hown0 _ A c ps (by first | rfl | exact hsl) hr2 (by simp only [List.length_nil]; omega) (by simp only [List.length_nil]; omega) (hb0).size w (hb0) ?_; intro v1 w1 hown1 hb1 hnn1; obtain ⟨c0b, c1b, c2b, c3b, c4b, f1b, f2b, f3b, f4b⟩ := rr_cells (hR.bg.next (hb1.trans (bnextA (Below.refl w1.heap.size w1) (.cells #[.int .i64 i] 3) |>.mono hb1.size))); clear c0 c1 c2 c3 c4 f1 f2 f3 f4; skip)
    | (at_builtin; refine wpList_append_rd rfl (.tmp 30) (.tmp 32) _ rfl iv w.heap.size 3 i0 _ 8 Try.underlying61 hi0 hz0 hz1 hz2 rfl iv_one _ _ rfl (hown1.alloc (.cells #[.int .i64 i] 3)) _ (some ⟨w1.heap.size, 0, none⟩) 1 [i] rfl (rd_lit w1 _ _ [i] rfl (by simp)) (by simp only [List.length_cons, List.length_nil, List.nil_append]; omega) (by simp only [List.length_cons, List.length_nil, List.nil_append]; omega) (hb1.alloc hb1.size _).size w (hb1.alloc hb1.size _) ?_; intro v2 w2 hown2 hb2 hnn2; obtain ⟨L2, A2, c2, HL2, rfl, -⟩ := hown2.rdv; obtain ⟨c0d, c1d, c2d, c3d, c4d, f1d, f2d, f3d, f4d⟩ := rr_cells (hR.bg.next hb2); clear c0b c1b c2b c3b c4b f1b f2b f3b f4b)
    | fail)
  go_ret
  have hL : L2 = ps ++ [i] := by rw [HL2.out]; simp
  subst hL
  have O1 := ((Off.of (g := g) (h := g) hb2).setCell (p := ⟨g, 1, none⟩) (.inl rfl) (.slice A2 (ps ++ [i]).length c2)).setCell (p := ⟨g, 3, none⟩) (.inl rfl) (.int .i64 (E1 : Int))
  have hq : [] ++ ps ++ [i] = ps ++ [i] := by simp
  rw [hq] at hown2
  have hrow := ((hown2.setBelow (p := ⟨g, 1, none⟩) hgl (.slice A2 (ps ++ [i]).length c2)).setBelow (p := ⟨g, 3, none⟩) hgl (.int .i64 (E1 : Int))).rdS
  refine ⟨rfl, O1, _, ⟨((hR.bg.next hb2).set 1 (.slice A2 (ps ++ [i]).length c2)).set 3 (.int .i64 (E1 : Int)), ⟨A2, c2, rfl, hrow, fun a ha => ?_⟩, hR.or_.off O1 (Nat.le_refl _) (Nat.le_refl _), hR.n64, by have := HSUM.out; simp; omega, ?_, by omega⟩⟩
  · subst ha
    have := (World.ownsRow.lt hown2 a.block rfl).1
    omega
  · have := hR.ew
    simp
    omega
theorem rrdone_none (R : Rr w g n vp vr [] rs ever work) : Calls Try.prog 24 #[.pointer (some ⟨g, 0, none⟩)] w fun e w' => e = .returned (.bool false) ∧ w = w' := by
  obtain ⟨c0, c1, -⟩ := rr_cells R.bg
  obtain ⟨A, c, rfl, hr, -⟩ := R.op
  simp only [List.length_nil] at c1
  have hrc := hr.cap
  clear R hr
  go_enter Try.func24, Try.ntmps24
  go_wp2_with fail
  go_ret
  exact ⟨rfl, rfl⟩
set_option maxHeartbeats 1000000 in
theorem rrdone_ok {x : Int} {xs : List Int} (R : Rr w g n vp vr (x :: xs) rs ever work) : Calls Try.prog 24 #[.pointer (some ⟨g, 0, none⟩)] w fun e w' => e = .returned (.bool true) ∧ Off g g w w' ∧ ∃ vp' vr', Rr w' g n vp' vr' xs (rs ++ [x]) ever (work + 1) := by
  obtain ⟨i0, hi0, hz0, hz1, hz2⟩ := info_parts info_i64
  have hR := R
  obtain ⟨A, c, rfl, hr, hga⟩ := R.op
  obtain ⟨A', c', rfl, hr', hga'⟩ := R.or_
  have h64 := R.n64
  have hpr := R.pr
  have hgl := R.bg.lt
  have hew := R.ew
  have he8 := R.e80
  obtain ⟨A1, c1', hrt, hgt, hsl⟩ := Row.tail1 Try.underlying61 hi0 hz1 hr hga
  obtain ⟨b, off, hA, hbl, hc⟩ := hr.at_ (k := 0) (by simp)
  subst hA
  have cx := hc 0 (by simp)
  simp only [List.getElem_cons_zero, iv, Nat.add_zero] at cx
  have hlc := hr.len
  have hcc := hr.cap
  obtain ⟨P, hP⟩ : ∃ P, xs.length = P := ⟨_, rfl⟩
  obtain ⟨P1, hP1⟩ : ∃ P1, (x :: xs).length = P1 := ⟨_, rfl⟩
  have hP2 : P1 = P + 1 := by rw [← hP1, ← hP]; simp
  rw [hP1] at hlc hpr hew
  rw [hP] at hsl
  rw [← hP2] at hsl
  have hP0 : 0 < P1 := by omega
  clear hP2
  obtain ⟨E1, hE1⟩ : ∃ E1, work + 1 = E1 := ⟨_, rfl⟩
  rw [hE1]
  have e5 : (work : Int) + 1 = (E1 : Int) := by omega
  have e6 : IntKind.i64.wrap (E1 : Int) = (E1 : Int) := by rw [IntKind.wrap_i64]; omega
  have hz : ((P1 : Int) == 0) = false := by simp; omega
  have hq0 : (0 : Int) < (P1 : Int) := by omega
  have hown0 : Own iv (w.alloc (.cells #[] 3)) w.heap.size 3 (.slice (some ⟨w.heap.size, 0, none⟩) 0 0) [] := World.ownsRow_lit w #[] 0 (Nat.le_refl _) (by unfold maxLen; omega) rfl
  have hb0 : Below w.heap.size w (w.alloc (.cells #[] 3)) := bnextA (Below.refl _ _) _
  have hr2 := hr'.next hb0
  obtain ⟨c0, c1, c2, c3, c4, f1, f2, f3, f4⟩ := rr_cells hR.bg
  obtain ⟨c0a, c1a, c2a, c3a, c4a, f1a, f2a, f3a, f4a⟩ := rr_cells (hR.bg.alloc (.cells #[] 3))
  rw [hP1] at c1 c1a
  have HPP := Lib.hid hP
  have HP1 := Lib.hid hP1
  have HPR := Lib.hid hpr
  have HEW := Lib.hid hew
  clear R hr hc hP hP1 hpr hew
  have hrs : Hid (rs.length ≤ 64) := by have := HPR.out; rw [Hid]; omega
  go_enter Try.func24, Try.ntmps24
  go_wp2_with (first
    | (at_builtin; refine wpList_append_rd rfl (.tmp 11) (.tmp 15) _ rfl iv w.heap.size 3 i0 _ 8 Try.underlying61 hi0 hz0 hz1 hz2 rfl iv_one _ _ rfl hown0 _ A' c' rs rfl hr2 (by simp only [List.length_nil]; have := hrs.out; omega) (by simp only [List.length_nil]; have := hrs.out; omega) (hb0).size w (hb0) ?_; intro v1 w1 hown1 hb1 hnn1; obtain ⟨c0b, c1b, c2b, c3b, c4b, f1b, f2b, f3b, f4b⟩ := rr_cells (hR.bg.next hb1); have cxb := (hb1.cell (p := ⟨b, off, none⟩) hbl).trans cx; rw [HP1.out] at c1b; clear c0 c1 c2 c3 c4 f1 f2 f3 f4 c0a c1a c2a c3a c4a f1a f2a f3a f4a cx)
    | (at_builtin; refine wpList_append_rd rfl (.tmp 18) (.tmp 25) _ rfl iv w.heap.size 3 i0 _ 8 Try.underlying61 hi0 hz0 hz1 hz2 rfl iv_one _ _ rfl (hown1.alloc (.cells #[.int .i64 x] 3)) _ (some ⟨w1.heap.size, 0, none⟩) 1 [x] rfl (rd_lit w1 _ _ [x] rfl (by simp)) (by simp only [List.length_cons, List.length_nil, List.nil_append]; have := hrs.out; omega) (by simp only [List.length_cons, List.length_nil, List.nil_append]; have := hrs.out; omega) (hb1.alloc hb1.size _).size w (hb1.alloc hb1.size _) ?_; intro v2 w2 hown2 hb2 hnn2; obtain ⟨L2, A2, c2, HL2, rfl, -⟩ := hown2.rdv; obtain ⟨c0d, c1d, c2d, c3d, c4d, f1d, f2d, f3d, f4d⟩ := rr_cells (hR.bg.next hb2); rw [HP1.out] at c1d; clear c0b c1b c2b c3b c4b f1b f2b f3b f4b cxb)
    | fail)
  go_ret
  have hL : L2 = rs ++ [x] := by rw [HL2.out]; simp
  subst hL
  have O1 := (((Off.of (g := g) (h := g) hb2).setCell (p := ⟨g, 2, none⟩) (.inl rfl) (.slice A2 (rs ++ [x]).length c2)).setCell (p := ⟨g, 1, none⟩) (.inl rfl) (.slice A1 P c1')).setCell (p := ⟨g, 4, none⟩) (.inl rfl) (.int .i64 (E1 : Int))
  have hq : [] ++ rs ++ [x] = rs ++ [x] := by simp
  rw [hq] at hown2
  have hrow := (((hown2.setBelow (p := ⟨g, 2, none⟩) hgl (.slice A2 (rs ++ [x]).length c2)).setBelow (p := ⟨g, 1, none⟩) hgl (.slice A1 P c1')).setBelow (p := ⟨g, 4, none⟩) hgl (.int .i64 (E1 : Int))).rdS
  have hpost : Row w g (.slice A1 P c1') xs := ⟨A1, c1', by rw [HPP.out], hrt, hgt⟩
  refine ⟨rfl, O1, _, _, ⟨(((hR.bg.next hb2).set 2 (.slice A2 (rs ++ [x]).length c2)).set 1 (.slice A1 P c1')).set 4 (.int .i64 (E1 : Int)), hpost.off O1 (Nat.le_refl _) (Nat.le_refl _), ⟨A2, c2, rfl, hrow, fun a ha => ?_⟩, hR.n64, by have := hR.pr; simp at this ⊢; omega, ?_, hR.e80⟩⟩
  · subst ha
    have := (World.ownsRow.lt hown2 a.block rfl).1
    omega
  · have := hR.ew
    simp at this
    omega
set_option maxHeartbeats 1000000 in
theorem rrreap_ok {x : Int} {xs : List Int} (R : Rr w g n vp vr ps (x :: xs) ever work) : Calls Try.prog 26 #[.pointer (some ⟨g, 0, none⟩)] w fun e w' => e = .returned (.tuple #[.int .i64 x, .bool true]) ∧ Off g g w w' ∧ ∃ vr', Rr w' g n vp vr' ps xs ever work := by
  obtain ⟨i0, hi0, hz0, hz1, hz2⟩ := info_parts info_i64
  have hR := R
  obtain ⟨A, c, rfl, hr, hga⟩ := R.op
  obtain ⟨A', c', rfl, hr', hga'⟩ := R.or_
  have h64 := R.n64
  have hpr := R.pr
  obtain ⟨A1, c1', hrt, hgt, hsl⟩ := Row.tail1 Try.underlying61 hi0 hz1 hr' hga'
  obtain ⟨b, off, hA, hbl, hc⟩ := hr'.at_ (k := 0) (by simp)
  subst hA
  have cx := hc 0 (by simp)
  simp only [List.getElem_cons_zero, iv, Nat.add_zero] at cx
  have hlc := hr'.len
  have hcc := hr'.cap
  obtain ⟨P, hP⟩ : ∃ P, xs.length = P := ⟨_, rfl⟩
  obtain ⟨P1, hP1⟩ : ∃ P1, (x :: xs).length = P1 := ⟨_, rfl⟩
  have hP2 : P1 = P + 1 := by rw [← hP1, ← hP]; simp
  rw [hP1] at hlc hpr
  rw [hP] at hsl
  rw [← hP2] at hsl
  have hP0 : 0 < P1 := by omega
  have hz : ((P1 : Int) == 0) = false := by simp; omega
  have hq0 : (0 : Int) < (P1 : Int) := by omega
  clear hP2
  obtain ⟨c0, c1, c2, c3, c4, f1, f2, f3, f4⟩ := rr_cells hR.bg
  rw [hP1] at c2
  have HPP := Lib.hid hP
  clear R hr hc hP hP1 hpr hr' hga
  go_enter Try.func26, Try.ntmps26
  go_wp2_with fail
  go_ret2
  have O1 := (Off.refl g g w).setCell (p := ⟨g, 2, none⟩) (.inl rfl) (.slice A1 P c1')
  have hpost : Row w g (.slice A1 P c1') xs := ⟨A1, c1', by rw [HPP.out], hrt, hgt⟩
  exact ⟨rfl, O1, _, ⟨hR.bg.set 2 (.slice A1 P c1'), hR.op.off O1 (Nat.le_refl _) (Nat.le_refl _), hpost.off O1 (Nat.le_refl _) (Nat.le_refl _), hR.n64, by have := hR.pr; simp at this; omega, hR.ew, hR.e80⟩⟩
theorem rrown_no (R : Rr w g n vp vr ps rs ever work) (hn : 1 ≤ n) (k : Int) (hk : ∀ i, work ≤ i → i < ever → ((i % n : Nat) : Int) ≠ k) : Calls Try.prog 33 #[.pointer (some ⟨g, 0, none⟩), .int .i64 k] w fun e w' => e = .returned (.bool false) ∧ w = w' := by
  obtain ⟨c0, c1, c2, c3, c4, -⟩ := rr_cells R.bg
  have he8 := R.e80
  have hew := R.ew
  have h64 := R.n64
  have y1 : ((n : Int) == 0) = false := by simp; omega
  have y2 : (n : Int) ≠ 0 := by omega
  have y3 : ¬ n = 0 := by omega
  clear R
  go_enter Try.func33, Try.ntmps33
  go_wp2_with fail
  go_loop [5] (fun i => ∃ j : Nat, work ≤ j ∧ j ≤ ever ∧ i = .int .i64 j) (fun i => ever - (intOf i).toNat)
  case atStart => exact ⟨work, by omega, by omega, rfl⟩
  case round =>
    obtain ⟨j, hj1, hj2, rfl⟩ := hrel
    by_cases hlt : j < ever
    · have d1 : decide (j < ever) = true := by simp [hlt]
      obtain ⟨s, hs⟩ : ∃ s, j % n = s := ⟨_, rfl⟩
      have z3 : (j : Int).tmod (n : Int) = (s : Int) := by rw [Int.tmod_eq_emod_of_nonneg (by omega), ← hs]; simp
      have z6 : (j : Int) % (n : Int) = (s : Int) := by rw [← hs]; simp
      have hne := hk j hj1 hlt
      rw [hs] at hne
      have z7 : ((s : Int) == k) = false := by simpa using hne
      clear hne hs hk
      go_wp2_with fail
      go_round
      case rel => exact ⟨j + 1, by omega, by omega, by go_num⟩
      case measure => simp [intOf]; omega
    · have d1 : decide (j < ever) = false := by simp [hlt]
      clear hk
      go_wp2_with fail
      go_ret
      exact ⟨rfl, rfl⟩
theorem rrown_yes (R : Rr w g n vp vr ps rs ever work) (hn : 1 ≤ n) (k I : Nat) (hI1 : work ≤ I) (hI2 : I < ever) (hIk : I % n = k) (hk : ∀ i, work ≤ i → i < I → i % n ≠ k) : Calls Try.prog 33 #[.pointer (some ⟨g, 0, none⟩), .int .i64 (k : Int)] w fun e w' => e = .returned (.bool true) ∧ w = w' := by
  obtain ⟨c0, c1, c2, c3, c4, -⟩ := rr_cells R.bg
  have he8 := R.e80
  have h64 := R.n64
  have y1 : ((n : Int) == 0) = false := by simp; omega
  have y2 : (n : Int) ≠ 0 := by omega
  have y3 : ¬ n = 0 := by omega
  clear R
  go_enter Try.func33, Try.ntmps33
  go_wp2_with fail
  go_loop [5] (fun i => ∃ j : Nat, work ≤ j ∧ j ≤ I ∧ i = .int .i64 j) (fun i => ever - (intOf i).toNat)
  case atStart => exact ⟨work, by omega, by omega, rfl⟩
  case round =>
    obtain ⟨j, hj1, hj2, rfl⟩ := hrel
    have d1 : decide (j < ever) = true := by simp; omega
    by_cases hlt : j < I
    · obtain ⟨s, hs⟩ : ∃ s, j % n = s := ⟨_, rfl⟩
      have z3 : (j : Int).tmod (n : Int) = (s : Int) := by rw [Int.tmod_eq_emod_of_nonneg (by omega), ← hs]; simp
      have z6 : (j : Int) % (n : Int) = (s : Int) := by rw [← hs]; simp
      have hne := hk j hj1 hlt
      rw [hs] at hne
      have z7 : ((s : Int) == (k : Int)) = false := by simp; omega
      clear hne hs hk hIk
      go_wp2_with fail
      go_round
      case rel => exact ⟨j + 1, by omega, by omega, by go_num⟩
      case measure => simp [intOf]; omega
    · have hjI : j = I := by omega
      subst hjI
      obtain ⟨s, hs⟩ : ∃ s, j % n = s := ⟨_, rfl⟩
      have z3 : (j : Int).tmod (n : Int) = (s : Int) := by rw [Int.tmod_eq_emod_of_nonneg (by omega), ← hs]; simp
      have z6 : (j : Int) % (n : Int) = (s : Int) := by rw [← hs]; simp
      rw [hs] at hIk
      subst hIk
      clear hs hk
      go_wp2_with fail
      go_ret
      exact ⟨rfl, rfl⟩
end
end Go.Proofs.Ytggcomociojfoab
