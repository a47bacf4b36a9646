/- Contracts of the reference's MSS and Same. -/
import Derived.Test.YteodjajjlgekcaaOpt4
namespace Go.Proofs.Yteodjajjlgekcaa
open Go.RowKit
set_option linter.unusedVariables false

set_option maxHeartbeats 1000000 in
theorem rosame_yes (A B : Option Addr) (c1 c2 : Nat) (l : List Opt) (w : World) (h1 : Os w w.heap.size A c1 l) (h2 : Os w w.heap.size B c2 l) (hl : l.length ≤ 1000000) :
    Calls Try.prog 14 #[.slice A l.length c1, .slice B l.length c2] w fun e w' => e = .returned (.bool true) ∧ Below w.heap.size w w' := by
  have q1 := h1.len
  have q2 := h1.cap
  have q3 := h2.len
  have q4 := h2.cap
  have H1 := Lib.hid h1
  have H2 := Lib.hid h2
  clear h1 h2
  go_enter Try.func14, Try.ntmps14
  go_wp2_with fail
  go_loopw [5] (fun i wr => ∃ j : Nat, j ≤ l.length ∧ i = .int .i64 j ∧ Below w.heap.size w wr) (fun i _ => l.length - (intOf i).toNat)
  case atStart => exact ⟨0, by omega, rfl, Below.refl _ _⟩
  case round =>
    obtain ⟨j, hj, rfl, hbw⟩ := hrel
    by_cases hlt : j < l.length
    · obtain ⟨b1, o1, A3, c3, hA, hb1, u0, u1, hd1⟩ := (H1.out.next hbw).at_ j hlt
      obtain ⟨b2, o2, A4, c4, hB, hb2, v0, v1, hd2⟩ := (H2.out.next hbw).at_ j hlt
      subst hA hB
      have HJ : Hid (j < l.length) := hlt
      generalize l[j] = kd at u0 u1 v0 v1 hd1 hd2
      obtain ⟨k, d⟩ := kd
      simp only at u0 u1 v0 v1 hd1 hd2
      have hx : (j : Int) < (l.length : Int) := by omega
      have HCC : ∀ W, Below wr.heap.size wr W → (W.cell? ⟨b1, o1 + j * 2, none⟩ = some (.int .u8 (k.toNat : Int)) ∧ W.cell? ⟨b1, o1 + j * 2 + 1, none⟩ = some (.slice A3 d.length c3) ∧ W.cell? ⟨b2, o2 + j * 2, none⟩ = some (.int .u8 (k.toNat : Int)) ∧ W.cell? ⟨b2, o2 + j * 2 + 1, none⟩ = some (.slice A4 d.length c4)) := by
        intro W h
        exact ⟨(h.cell (p := ⟨b1, o1 + j * 2, none⟩) hb1).trans u0, (h.cell (p := ⟨b1, o1 + j * 2 + 1, none⟩) hb1).trans u1, (h.cell (p := ⟨b2, o2 + j * 2, none⟩) hb2).trans v0, (h.cell (p := ⟨b2, o2 + j * 2 + 1, none⟩) hb2).trans v1⟩
      have HSM : ∀ W, Below wr.heap.size wr W → Hid (Calls Try.prog 20 #[.slice A3 d.length c3, .slice A4 d.length c4] W fun e w' => e = .returned (.bool true) ∧ Below W.heap.size W w') := fun W h => (rsame_yes A3 A4 c3 c4 d W W.heap.size (hd1.next h) (hd2.next h)).mono fun e w' h => ⟨h.1, h.2.bel⟩
      clear H1 H2 hd1 hd2 u0 u1 v0 v1
      go_wp2_with fail
      refine region_put (by kernel_rfl) (by kernel_rfl) (by kernel_rfl) 42 rfl (by kernel_rfl) wr (fun i v W => match i with
          | 0 => v = .slice (some ⟨b1, o1, none⟩) l.length c1
          | 1 => v = .int .i64 (j : Int)
          | 2 => v = .pointer (some ⟨b1, o1 + j * 2, none⟩)
          | 3 => v = .pointer (some ⟨b1, o1 + j * 2, none⟩)
          | 4 => v = .int .u8 (k.toNat : Int)
          | 5 => v = .slice (some ⟨b2, o2, none⟩) l.length c2
          | 6 => v = .int .i64 (j : Int)
          | 7 => v = .pointer (some ⟨b2, o2 + j * 2, none⟩)
          | 8 => v = .pointer (some ⟨b2, o2 + j * 2, none⟩)
          | 9 => v = .int .u8 (k.toNat : Int)
          | 10 => v = .bool false
          | 11 => v = .bool false
          | 12 => v = .slice (some ⟨b1, o1, none⟩) l.length c1
          | 13 => v = .int .i64 (j : Int)
          | 14 => v = .pointer (some ⟨b1, o1 + j * 2, none⟩)
          | 15 => v = .pointer (some ⟨b1, o1 + j * 2 + 1, none⟩)
          | 16 => v = .slice A3 d.length c3
          | 17 => v = .slice (some ⟨b2, o2, none⟩) l.length c2
          | 18 => v = .int .i64 (j : Int)
          | 19 => v = .pointer (some ⟨b2, o2 + j * 2, none⟩)
          | 20 => v = .pointer (some ⟨b2, o2 + j * 2 + 1, none⟩)
          | 21 => v = .slice A4 d.length c4
          | 22 => v = .bool true
          | 23 => v = .bool false
          | 24 => v = .bool false
          | _ => True) (Below.refl _ _) ?_ ?_ ?_
      · intro i v W W' h hb
        match i, h with
        | 0, h => exact h
        | 1, h => exact h
        | 2, h => exact h
        | 3, h => exact h
        | 4, h => exact h
        | 5, h => exact h
        | 6, h => exact h
        | 7, h => exact h
        | 8, h => exact h
        | 9, h => exact h
        | 10, h => exact h
        | 11, h => exact h
        | 12, h => exact h
        | 13, h => exact h
        | 14, h => exact h
        | 15, h => exact h
        | 16, h => exact h
        | 17, h => exact h
        | 18, h => exact h
        | 19, h => exact h
        | 20, h => exact h
        | 21, h => exact h
        | 22, h => exact h
        | 23, h => exact h
        | 24, h => exact h
        | _ + 25, _ => trivial
      · intro i o uu W hoo hVW hd
        rcases i with _|_|_|_|_|_|_|_|_|_|_|_|_|_|_|_|_|_|_|_|_|_|_|_|_|i
        · obtain rfl := Option.some.inj hoo
          refine .inl ⟨wanted_none rfl, ?_⟩
          generalize hev : Act.eval _ = ev
          have ec : ∀ c, ev (.const c) = c := fun c => by rw [← hev]; rfl
          have e0 : ev (.tmp 0) = .slice (some ⟨b1, o1, none⟩) l.length c1 := by rw [← hev]; exact eval_old (by kernel_rfl) 42 rfl (by decide) rfl
          clear hev hd
          exact .inl ⟨_, W, by go_simp, rfl, Below.refl _ _⟩
        · obtain rfl := Option.some.inj hoo
          refine .inl ⟨wanted_none rfl, ?_⟩
          generalize hev : Act.eval _ = ev
          have ec : ∀ c, ev (.const c) = c := fun c => by rw [← hev]; rfl
          have e5 : ev (.tmp 5) = .int .i64 (j : Int) := by rw [← hev]; exact eval_old (by kernel_rfl) 42 rfl (by decide) rfl
          clear hev hd
          exact .inl ⟨_, W, by go_simp, rfl, Below.refl _ _⟩
        · obtain rfl := Option.some.inj hoo
          have q0 : uu 0 = .slice (some ⟨b1, o1, none⟩) l.length c1 := hd 0 (by kernel_rfl)
          have q1 : uu 1 = .int .i64 (j : Int) := hd 1 (by kernel_rfl)
          refine .inl ⟨wanted_none rfl, ?_⟩
          generalize hev : Act.eval _ = ev
          have ec : ∀ c, ev (.const c) = c := fun c => by rw [← hev]; rfl
          have e17 : ev (.tmp 17) = .slice (some ⟨b1, o1, none⟩) l.length c1 := by rw [← hev]; exact (eval_put (by kernel_rfl) 42 rfl (by decide)).trans q0
          have e18 : ev (.tmp 18) = .int .i64 (j : Int) := by rw [← hev]; exact (eval_put (by kernel_rfl) 42 rfl (by decide)).trans q1
          clear hev hd q0 q1
          have hh := hx
          exact .inl ⟨_, W, by go_simp, rfl, Below.refl _ _⟩
        · obtain rfl := Option.some.inj hoo
          have q2 : uu 2 = .pointer (some ⟨b1, o1 + j * 2, none⟩) := hd 2 (by kernel_rfl)
          refine .inl ⟨wanted_none rfl, ?_⟩
          generalize hev : Act.eval _ = ev
          have ec : ∀ c, ev (.const c) = c := fun c => by rw [← hev]; rfl
          have e19 : ev (.tmp 19) = .pointer (some ⟨b1, o1 + j * 2, none⟩) := by rw [← hev]; exact (eval_put (by kernel_rfl) 42 rfl (by decide)).trans q2
          clear hev hd q2
          have hh := hx
          exact .inl ⟨_, W, by go_simp, rfl, Below.refl _ _⟩
        · obtain rfl := Option.some.inj hoo
          have q3 : uu 3 = .pointer (some ⟨b1, o1 + j * 2, none⟩) := hd 3 (by kernel_rfl)
          refine .inl ⟨wanted_none rfl, ?_⟩
          generalize hev : Act.eval _ = ev
          have ec : ∀ c, ev (.const c) = c := fun c => by rw [← hev]; rfl
          have e20 : ev (.tmp 20) = .pointer (some ⟨b1, o1 + j * 2, none⟩) := by rw [← hev]; exact (eval_put (by kernel_rfl) 42 rfl (by decide)).trans q3
          clear hev hd q3
          obtain ⟨cc0, cc1, cc2, cc3⟩ := HCC W hVW
          exact .inl ⟨_, W, by go_simp, rfl, Below.refl _ _⟩
        · obtain rfl := Option.some.inj hoo
          refine .inl ⟨wanted_none rfl, ?_⟩
          generalize hev : Act.eval _ = ev
          have ec : ∀ c, ev (.const c) = c := fun c => by rw [← hev]; rfl
          have e1 : ev (.tmp 1) = .slice (some ⟨b2, o2, none⟩) l.length c2 := by rw [← hev]; exact eval_old (by kernel_rfl) 42 rfl (by decide) rfl
          clear hev hd
          exact .inl ⟨_, W, by go_simp, rfl, Below.refl _ _⟩
        · obtain rfl := Option.some.inj hoo
          refine .inl ⟨wanted_none rfl, ?_⟩
          generalize hev : Act.eval _ = ev
          have ec : ∀ c, ev (.const c) = c := fun c => by rw [← hev]; rfl
          have e5 : ev (.tmp 5) = .int .i64 (j : Int) := by rw [← hev]; exact eval_old (by kernel_rfl) 42 rfl (by decide) rfl
          clear hev hd
          exact .inl ⟨_, W, by go_simp, rfl, Below.refl _ _⟩
        · obtain rfl := Option.some.inj hoo
          have q5 : uu 5 = .slice (some ⟨b2, o2, none⟩) l.length c2 := hd 5 (by kernel_rfl)
          have q6 : uu 6 = .int .i64 (j : Int) := hd 6 (by kernel_rfl)
          refine .inl ⟨wanted_none rfl, ?_⟩
          generalize hev : Act.eval _ = ev
          have ec : ∀ c, ev (.const c) = c := fun c => by rw [← hev]; rfl
          have e22 : ev (.tmp 22) = .slice (some ⟨b2, o2, none⟩) l.length c2 := by rw [← hev]; exact (eval_put (by kernel_rfl) 42 rfl (by decide)).trans q5
          have e23 : ev (.tmp 23) = .int .i64 (j : Int) := by rw [← hev]; exact (eval_put (by kernel_rfl) 42 rfl (by decide)).trans q6
          clear hev hd q5 q6
          have hh := hx
          exact .inl ⟨_, W, by go_simp, rfl, Below.refl _ _⟩
        · obtain rfl := Option.some.inj hoo
          have q7 : uu 7 = .pointer (some ⟨b2, o2 + j * 2, none⟩) := hd 7 (by kernel_rfl)
          refine .inl ⟨wanted_none rfl, ?_⟩
          generalize hev : Act.eval _ = ev
          have ec : ∀ c, ev (.const c) = c := fun c => by rw [← hev]; rfl
          have e24 : ev (.tmp 24) = .pointer (some ⟨b2, o2 + j * 2, none⟩) := by rw [← hev]; exact (eval_put (by kernel_rfl) 42 rfl (by decide)).trans q7
          clear hev hd q7
          have hh := hx
          exact .inl ⟨_, W, by go_simp, rfl, Below.refl _ _⟩
        · obtain rfl := Option.some.inj hoo
          have q8 : uu 8 = .pointer (some ⟨b2, o2 + j * 2, none⟩) := hd 8 (by kernel_rfl)
          refine .inl ⟨wanted_none rfl, ?_⟩
          generalize hev : Act.eval _ = ev
          have ec : ∀ c, ev (.const c) = c := fun c => by rw [← hev]; rfl
          have e25 : ev (.tmp 25) = .pointer (some ⟨b2, o2 + j * 2, none⟩) := by rw [← hev]; exact (eval_put (by kernel_rfl) 42 rfl (by decide)).trans q8
          clear hev hd q8
          obtain ⟨cc0, cc1, cc2, cc3⟩ := HCC W hVW
          exact .inl ⟨_, W, by go_simp, rfl, Below.refl _ _⟩
        · obtain rfl := Option.some.inj hoo
          have q4 : uu 4 = .int .u8 (k.toNat : Int) := hd 4 (by kernel_rfl)
          have q9 : uu 9 = .int .u8 (k.toNat : Int) := hd 9 (by kernel_rfl)
          refine .inl ⟨wanted_none rfl, ?_⟩
          generalize hev : Act.eval _ = ev
          have ec : ∀ c, ev (.const c) = c := fun c => by rw [← hev]; rfl
          have e21 : ev (.tmp 21) = .int .u8 (k.toNat : Int) := by rw [← hev]; exact (eval_put (by kernel_rfl) 42 rfl (by decide)).trans q4
          have e26 : ev (.tmp 26) = .int .u8 (k.toNat : Int) := by rw [← hev]; exact (eval_put (by kernel_rfl) 42 rfl (by decide)).trans q9
          clear hev hd q4 q9
          exact .inl ⟨_, W, by go_simp, rfl, Below.refl _ _⟩
        · obtain rfl := Option.some.inj hoo
          have q10 : uu 10 = .bool false := hd 10 (by kernel_rfl)
          refine .inl ⟨wanted_none rfl, ?_⟩
          generalize hev : Act.eval _ = ev
          have ec : ∀ c, ev (.const c) = c := fun c => by rw [← hev]; rfl
          have e27 : ev (.tmp 27) = .bool false := by rw [← hev]; exact (eval_put (by kernel_rfl) 42 rfl (by decide)).trans q10
          clear hev hd q10
          exact .inl ⟨_, W, by go_simp, rfl, Below.refl _ _⟩
        · obtain rfl := Option.some.inj hoo
          have q11 : uu 11 = .bool false := hd 11 (by kernel_rfl)
          refine .inl ⟨wanted_yes rfl (yielded_put (k := 28) (by kernel_rfl) (by kernel_rfl) 42 rfl (by decide) q11), ?_⟩
          generalize hev : Act.eval _ = ev
          have ec : ∀ c, ev (.const c) = c := fun c => by rw [← hev]; rfl
          have e0 : ev (.tmp 0) = .slice (some ⟨b1, o1, none⟩) l.length c1 := by rw [← hev]; exact eval_old (by kernel_rfl) 42 rfl (by decide) rfl
          clear hev hd q11
          exact .inl ⟨_, W, by go_simp, rfl, Below.refl _ _⟩
        · obtain rfl := Option.some.inj hoo
          have q11 : uu 11 = .bool false := hd 11 (by kernel_rfl)
          refine .inl ⟨wanted_yes rfl (yielded_put (k := 28) (by kernel_rfl) (by kernel_rfl) 42 rfl (by decide) q11), ?_⟩
          generalize hev : Act.eval _ = ev
          have ec : ∀ c, ev (.const c) = c := fun c => by rw [← hev]; rfl
          have e5 : ev (.tmp 5) = .int .i64 (j : Int) := by rw [← hev]; exact eval_old (by kernel_rfl) 42 rfl (by decide) rfl
          clear hev hd q11
          exact .inl ⟨_, W, by go_simp, rfl, Below.refl _ _⟩
        · obtain rfl := Option.some.inj hoo
          have q12 : uu 12 = .slice (some ⟨b1, o1, none⟩) l.length c1 := hd 12 (by kernel_rfl)
          have q13 : uu 13 = .int .i64 (j : Int) := hd 13 (by kernel_rfl)
          have q11 : uu 11 = .bool false := hd 11 (by kernel_rfl)
          refine .inl ⟨wanted_yes rfl (yielded_put (k := 28) (by kernel_rfl) (by kernel_rfl) 42 rfl (by decide) q11), ?_⟩
          generalize hev : Act.eval _ = ev
          have ec : ∀ c, ev (.const c) = c := fun c => by rw [← hev]; rfl
          have e29 : ev (.tmp 29) = .slice (some ⟨b1, o1, none⟩) l.length c1 := by rw [← hev]; exact (eval_put (by kernel_rfl) 42 rfl (by decide)).trans q12
          have e30 : ev (.tmp 30) = .int .i64 (j : Int) := by rw [← hev]; exact (eval_put (by kernel_rfl) 42 rfl (by decide)).trans q13
          clear hev hd q12 q13 q11
          have hh := hx
          exact .inl ⟨_, W, by go_simp, rfl, Below.refl _ _⟩
        · obtain rfl := Option.some.inj hoo
          have q14 : uu 14 = .pointer (some ⟨b1, o1 + j * 2, none⟩) := hd 14 (by kernel_rfl)
          have q11 : uu 11 = .bool false := hd 11 (by kernel_rfl)
          refine .inl ⟨wanted_yes rfl (yielded_put (k := 28) (by kernel_rfl) (by kernel_rfl) 42 rfl (by decide) q11), ?_⟩
          generalize hev : Act.eval _ = ev
          have ec : ∀ c, ev (.const c) = c := fun c => by rw [← hev]; rfl
          have e31 : ev (.tmp 31) = .pointer (some ⟨b1, o1 + j * 2, none⟩) := by rw [← hev]; exact (eval_put (by kernel_rfl) 42 rfl (by decide)).trans q14
          clear hev hd q14 q11
          exact .inl ⟨_, W, by go_simp, rfl, Below.refl _ _⟩
        · obtain rfl := Option.some.inj hoo
          have q15 : uu 15 = .pointer (some ⟨b1, o1 + j * 2 + 1, none⟩) := hd 15 (by kernel_rfl)
          have q11 : uu 11 = .bool false := hd 11 (by kernel_rfl)
          refine .inl ⟨wanted_yes rfl (yielded_put (k := 28) (by kernel_rfl) (by kernel_rfl) 42 rfl (by decide) q11), ?_⟩
          generalize hev : Act.eval _ = ev
          have ec : ∀ c, ev (.const c) = c := fun c => by rw [← hev]; rfl
          have e32 : ev (.tmp 32) = .pointer (some ⟨b1, o1 + j * 2 + 1, none⟩) := by rw [← hev]; exact (eval_put (by kernel_rfl) 42 rfl (by decide)).trans q15
          clear hev hd q15 q11
          obtain ⟨cc0, cc1, cc2, cc3⟩ := HCC W hVW
          exact .inl ⟨_, W, by go_simp, rfl, Below.refl _ _⟩
        · obtain rfl := Option.some.inj hoo
          have q11 : uu 11 = .bool false := hd 11 (by kernel_rfl)
          refine .inl ⟨wanted_yes rfl (yielded_put (k := 28) (by kernel_rfl) (by kernel_rfl) 42 rfl (by decide) q11), ?_⟩
          generalize hev : Act.eval _ = ev
          have ec : ∀ c, ev (.const c) = c := fun c => by rw [← hev]; rfl
          have e1 : ev (.tmp 1) = .slice (some ⟨b2, o2, none⟩) l.length c2 := by rw [← hev]; exact eval_old (by kernel_rfl) 42 rfl (by decide) rfl
          clear hev hd q11
          exact .inl ⟨_, W, by go_simp, rfl, Below.refl _ _⟩
        · obtain rfl := Option.some.inj hoo
          have q11 : uu 11 = .bool false := hd 11 (by kernel_rfl)
          refine .inl ⟨wanted_yes rfl (yielded_put (k := 28) (by kernel_rfl) (by kernel_rfl) 42 rfl (by decide) q11), ?_⟩
          generalize hev : Act.eval _ = ev
          have ec : ∀ c, ev (.const c) = c := fun c => by rw [← hev]; rfl
          have e5 : ev (.tmp 5) = .int .i64 (j : Int) := by rw [← hev]; exact eval_old (by kernel_rfl) 42 rfl (by decide) rfl
          clear hev hd q11
          exact .inl ⟨_, W, by go_simp, rfl, Below.refl _ _⟩
        · obtain rfl := Option.some.inj hoo
          have q17 : uu 17 = .slice (some ⟨b2, o2, none⟩) l.length c2 := hd 17 (by kernel_rfl)
          have q18 : uu 18 = .int .i64 (j : Int) := hd 18 (by kernel_rfl)
          have q11 : uu 11 = .bool false := hd 11 (by kernel_rfl)
          refine .inl ⟨wanted_yes rfl (yielded_put (k := 28) (by kernel_rfl) (by kernel_rfl) 42 rfl (by decide) q11), ?_⟩
          generalize hev : Act.eval _ = ev
          have ec : ∀ c, ev (.const c) = c := fun c => by rw [← hev]; rfl
          have e34 : ev (.tmp 34) = .slice (some ⟨b2, o2, none⟩) l.length c2 := by rw [← hev]; exact (eval_put (by kernel_rfl) 42 rfl (by decide)).trans q17
          have e35 : ev (.tmp 35) = .int .i64 (j : Int) := by rw [← hev]; exact (eval_put (by kernel_rfl) 42 rfl (by decide)).trans q18
          clear hev hd q17 q18 q11
          have hh := hx
          exact .inl ⟨_, W, by go_simp, rfl, Below.refl _ _⟩
        · obtain rfl := Option.some.inj hoo
          have q19 : uu 19 = .pointer (some ⟨b2, o2 + j * 2, none⟩) := hd 19 (by kernel_rfl)
          have q11 : uu 11 = .bool false := hd 11 (by kernel_rfl)
          refine .inl ⟨wanted_yes rfl (yielded_put (k := 28) (by kernel_rfl) (by kernel_rfl) 42 rfl (by decide) q11), ?_⟩
          generalize hev : Act.eval _ = ev
          have ec : ∀ c, ev (.const c) = c := fun c => by rw [← hev]; rfl
          have e36 : ev (.tmp 36) = .pointer (some ⟨b2, o2 + j * 2, none⟩) := by rw [← hev]; exact (eval_put (by kernel_rfl) 42 rfl (by decide)).trans q19
          clear hev hd q19 q11
          exact .inl ⟨_, W, by go_simp, rfl, Below.refl _ _⟩
        · obtain rfl := Option.some.inj hoo
          have q20 : uu 20 = .pointer (some ⟨b2, o2 + j * 2 + 1, none⟩) := hd 20 (by kernel_rfl)
          have q11 : uu 11 = .bool false := hd 11 (by kernel_rfl)
          refine .inl ⟨wanted_yes rfl (yielded_put (k := 28) (by kernel_rfl) (by kernel_rfl) 42 rfl (by decide) q11), ?_⟩
          generalize hev : Act.eval _ = ev
          have ec : ∀ c, ev (.const c) = c := fun c => by rw [← hev]; rfl
          have e37 : ev (.tmp 37) = .pointer (some ⟨b2, o2 + j * 2 + 1, none⟩) := by rw [← hev]; exact (eval_put (by kernel_rfl) 42 rfl (by decide)).trans q20
          clear hev hd q20 q11
          obtain ⟨cc0, cc1, cc2, cc3⟩ := HCC W hVW
          exact .inl ⟨_, W, by go_simp, rfl, Below.refl _ _⟩
        · obtain rfl := Option.some.inj hoo
          have q16 : uu 16 = .slice A3 d.length c3 := hd 16 (by kernel_rfl)
          have q21 : uu 21 = .slice A4 d.length c4 := hd 21 (by kernel_rfl)
          have q11 : uu 11 = .bool false := hd 11 (by kernel_rfl)
          refine .inl ⟨wanted_yes rfl (yielded_put (k := 28) (by kernel_rfl) (by kernel_rfl) 42 rfl (by decide) q11), ?_⟩
          generalize hev : Act.eval _ = ev
          have ec : ∀ c, ev (.const c) = c := fun c => by rw [← hev]; rfl
          have ef : ∀ f, ev (.func f) = .func (.func f) #[] #[] := fun f => by rw [← hev]; rfl
          have e33 : ev (.tmp 33) = .slice A3 d.length c3 := by rw [← hev]; exact (eval_put (by kernel_rfl) 42 rfl (by decide)).trans q16
          have e38 : ev (.tmp 38) = .slice A4 d.length c4 := by rw [← hev]; exact (eval_put (by kernel_rfl) 42 rfl (by decide)).trans q21
          clear hev hd q16 q21 q11
          exact .inr ⟨_, _, _, by go_simp, (HSM W hVW).out, fun e w' he => ⟨_, he.1, rfl, he.2⟩⟩
        · obtain rfl := Option.some.inj hoo
          have q22 : uu 22 = .bool true := hd 22 (by kernel_rfl)
          have q11 : uu 11 = .bool false := hd 11 (by kernel_rfl)
          refine .inl ⟨wanted_yes rfl (yielded_put (k := 28) (by kernel_rfl) (by kernel_rfl) 42 rfl (by decide) q11), ?_⟩
          generalize hev : Act.eval _ = ev
          have ec : ∀ c, ev (.const c) = c := fun c => by rw [← hev]; rfl
          have e39 : ev (.tmp 39) = .bool true := by rw [← hev]; exact (eval_put (by kernel_rfl) 42 rfl (by decide)).trans q22
          clear hev hd q22 q11
          exact .inl ⟨_, W, by go_simp, rfl, Below.refl _ _⟩
        · obtain rfl := Option.some.inj hoo
          have q11 : uu 11 = .bool false := hd 11 (by kernel_rfl)
          have q23 : uu 23 = .bool false := hd 23 (by kernel_rfl)
          refine .inl ⟨wanted_none rfl, ?_⟩
          generalize hev : Act.eval _ = ev
          have ec : ∀ c, ev (.const c) = c := fun c => by rw [← hev]; rfl
          have e28 : ev (.tmp 28) = .bool false := by rw [← hev]; exact (eval_put (by kernel_rfl) 42 rfl (by decide)).trans q11
          have e40 : ev (.tmp 40) = .bool false := by rw [← hev]; exact (eval_put (by kernel_rfl) 42 rfl (by decide)).trans q23
          clear hev hd q11 q23
          exact .inl ⟨_, W, by go_simp, rfl, Below.refl _ _⟩
        · simp at hoo
      · intro uu W hVW hall
        have hBw2 := hbw.trans (hVW.mono hbw.size)
        have q24 : uu 24 = .bool false := hall 24 (by decide)
        clear hall HCC hVW HSM
        simp only [putAll, Act.put, Nat.reduceAdd, q24]
        simp only [List.setIfInBounds_toArray, List.set_cons_succ, List.set_cons_zero]
        clear q24
        have hjl := HJ.out
        go_wp2_with fail
        go_roundw
        case rel => exact ⟨j + 1, by omega, by go_num, hBw2⟩
        case measure => simp [intOf]; omega
    · obtain rfl : j = l.length := by omega
      clear H1 H2
      go_wp2_with fail
      go_ret
      exact ⟨rfl, hbw⟩
theorem beN_pair (d : List UInt8) (h : d.length = 2) : ∃ x y, d = [x, y] := by
  match d, h with
  | [x, y], _ => exact ⟨x, y, rfl⟩
set_option maxHeartbeats 1000000 in
theorem rmss_any (A : Option Addr) (c : Nat) (xs : List UInt8) (w : World) (hr : Rd bv w w.heap.size A c xs) (hl : xs.length ≤ 1000) (R : List Opt × Nat) (hR0 : Runs xs R 0 []) (n : Nat) (b : Bool) (hm : Hid (mssN R.1 = (n, b))) :
    Calls Try.prog 13 #[.slice A xs.length c] w fun e w' => e = .returned (.tuple #[.int .u16 (n : Int), .bool b]) ∧ Below w.heap.size w w' := by
  have HL := runs_len xs R 0 [] hR0 (by simp) (by omega)
  have HE := runs_err xs R 0 [] hR0
  obtain ⟨l, r⟩ := R
  have HC := Lib.hid (ropt_of A c xs w hr hl (l, r) hR0)
  simp only at HL hm HC HE
  clear hR0
  go_enter Try.func13, Try.ntmps13
  go_wp2_with fail
  refine HC.out.mono ?_
  rintro e1 w1 ⟨A2, c2, rfl, hos, hb1⟩
  have hB := bnext (Below.refl w.heap.size w) hb1
  have hlc := hos.len
  have hcc := hos.cap
  have HO := Lib.hid hos
  have HEE := Lib.hid HE
  clear HC hb1 hr hl hos HE
  go_wp2_with fail
  go_loopw [6] (fun i wr => ∃ j : Nat, j ≤ l.length ∧ i = .int .i64 j ∧ Hid (mssN (l.drop j) = (n, b)) ∧ Below w1.heap.size w1 wr) (fun i _ => l.length - (intOf i).toNat)
  case atStart => exact ⟨0, by omega, rfl, by simpa using hm, Below.refl _ _⟩
  case round =>
    obtain ⟨j, hj, rfl, hmj, hbw⟩ := hrel
    have hBw := hB.trans (hbw.mono hB.size)
    clear hm
    by_cases hlt : j < l.length
    · obtain ⟨bl, off, A3, c3, hA, hbl, c0, c1, hd⟩ := (HO.out.next hbw).at_ j hlt
      subst hA
      obtain rfl : r = 0 := by
        rcases HEE.out with h | h
        · exact h
        · rw [h] at hlt; simp at hlt
      have hm2 := hmj.out
      rw [mss_drop l j hlt] at hm2
      have hjl : Hid (j < l.length) := hlt
      generalize l[j] = kd at c0 c1 hd hm2
      obtain ⟨k, d⟩ := kd
      simp only at c0 c1 hd hm2
      clear hmj HO HEE
      have HBW := Lib.hid hBw
      by_cases h2 : k.toNat = 2
      · have a1 : ((k.toNat : Int) == 2) = true := by simp; omega
        by_cases h3 : d.length = 2
        · rw [if_pos ⟨h2, h3⟩] at hm2
          obtain ⟨x, y, rfl⟩ := beN_pair d h3
          rw [beN_two] at hm2
          injection hm2 with hn hb
          subst hb
          obtain ⟨bd, od, rfl, hbd, hdc⟩ := byt_at hd (k := 0) (by simp)
          have e0 : wr.cell? ⟨bd, od, none⟩ = some (.int .u8 (x.toNat : Int)) := hdc 0 (by simp)
          have e1 : wr.cell? ⟨bd, od + 1, none⟩ = some (.int .u8 (y.toNat : Int)) := hdc 1 (by simp)
          simp only [List.length_cons, List.length_nil] at c1
          have hx := x.toNat_lt
          have hy := y.toNat_lt
          have HN := Lib.hid hn
          have HXY : Hid (x.toNat < 256 ∧ y.toNat < 256) := ⟨hx, hy⟩
          clear h2 h3 hn hdc hd hx hy
          go_wp2_with fail
          first | (go_quiet (fail)) | fail
          go_wp2_with fail
          go_ret2
          have hz : IntKind.u16.wrap (IntKind.u16.wrap (IntKind.u16.wrap (x.toNat : Int) * 256) + IntKind.u16.wrap (y.toNat : Int)) = (n : Int) := by
            simp only [IntKind.wrap_u16]
            rw [← HN.out]
            have := HXY.out
            omega
          exact ⟨by show Ending.returned (.tuple #[.int .u16 (IntKind.u16.wrap (IntKind.u16.wrap (IntKind.u16.wrap (x.toNat : Int) * 256) + IntKind.u16.wrap (y.toNat : Int))), .bool true]) = _; rw [hz], below_drewN HBW.out _⟩
        · rw [if_neg (fun h => h3 h.2)] at hm2
          have a2 : ((d.length : Int) == 2) = false := by simp; omega
          have hm3 := Lib.hid hm2
          clear h2 hm2 h3 hd
          go_wp2_with fail
          go_roundw
          case rel => have := hjl.out; exact ⟨j + 1, by omega, by go_num, hm3, hbw⟩
          case measure => have := hjl.out; simp [intOf]; omega
      · have a1 : ((k.toNat : Int) == 2) = false := by simp; omega
        rw [if_neg (fun h => h2 h.1)] at hm2
        have hm3 := Lib.hid hm2
        clear h2 hm2 hd
        go_wp2_with fail
        go_roundw
        case rel => have := hjl.out; exact ⟨j + 1, by omega, by go_num, hm3, hbw⟩
        case measure => have := hjl.out; simp [intOf]; omega
    · obtain rfl : j = l.length := by omega
      have hm2 := hmj.out
      rw [List.drop_length, mssN] at hm2
      injection hm2 with hn hb
      subst hn hb
      clear hmj HO HEE
      go_wp2_with fail
      go_ret2
      exact ⟨rfl, hBw⟩
end Go.Proofs.Yteodjajjlgekcaa
