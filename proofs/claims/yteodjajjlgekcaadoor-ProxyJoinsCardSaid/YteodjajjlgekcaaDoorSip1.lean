/- Contracts of sip's turn and take. -/
import Derived.Test.YteodjajjlgekcaaDoorSip0
import Derived.Test.YteodjajjlgekcaaDoorReg4
namespace Go.Proofs.YteodjajjlgekcaaDoor
open Go.RowKit

abbrev Four := Nat × Nat × Nat × Nat
def add64 (a b : Nat) : Nat := (a + b) % 18446744073709551616
/-- One round. -/
def rnd (s : Four) : Four :=
  let a1 := add64 s.1 s.2.1
  let b1 := rolN s.2.1 13 ^^^ a1
  let a2 := rolN a1 32
  let c1 := add64 s.2.2.1 s.2.2.2
  let d1 := rolN s.2.2.2 16 ^^^ c1
  let a3 := add64 a2 d1
  let d2 := rolN d1 21 ^^^ a3
  let c2 := add64 c1 b1
  let b2 := rolN b1 17 ^^^ c2
  (a3, b2, rolN c2 32, d2)
def rndN (s : Four) : Nat → Four
  | 0 => s
  | j + 1 => rnd (rndN s j)
def fine (s : Four) : Prop := s.1 < 18446744073709551616 ∧ s.2.1 < 18446744073709551616 ∧ s.2.2.1 < 18446744073709551616 ∧ s.2.2.2 < 18446744073709551616
theorem add64_lt (a b : Nat) : add64 a b < 18446744073709551616 := Nat.mod_lt _ (by omega)
theorem xor64_lt (a b : Nat) (ha : a < 18446744073709551616) (hb : b < 18446744073709551616) : a ^^^ b < 18446744073709551616 := by
  have := Nat.xor_lt_two_pow (n := 64) ha hb
  exact this
theorem rnd_fine (s : Four) (h : fine s) : fine (rnd s) := by
  obtain ⟨h1, h2, h3, h4⟩ := h
  refine ⟨add64_lt _ _, xor64_lt _ _ (rolN_lt _ (xor64_lt _ _ (rolN_lt _ h2 _) (add64_lt _ _)) _) (add64_lt _ _), rolN_lt _ (add64_lt _ _) _, xor64_lt _ _ (rolN_lt _ (xor64_lt _ _ (rolN_lt _ h4 _) (add64_lt _ _)) _) (add64_lt _ _)⟩
theorem rndN_fine (s : Four) (h : fine s) (j : Nat) : fine (rndN s j) := by
  induction j with
  | zero => exact h
  | succ j ih => exact rnd_fine _ ih
def st (s : Four) : List Value := [.int .u64 (s.1 : Int), .int .u64 (s.2.1 : Int), .int .u64 (s.2.2.1 : Int), .int .u64 (s.2.2.2 : Int)]
theorem wrap_add (a b : Nat) : IntKind.u64.wrap ((a : Int) + (b : Int)) = ((add64 a b : Nat) : Int) := by rw [wrap_u64s, add64]; omega

set_option maxHeartbeats 16000000 in
set_option maxRecDepth 20000 in
theorem turn_sip (g n : Nat) (s : Four) (hs : fine s) (hn : n ≤ 8) (w : World) (K0 : Blk w g (st s) 90) (B : Nat) (hBg : B ≤ g) :
    Calls Tryd.prog 61 #[.pointer (some ⟨g, 0, none⟩), .int .i64 n] w fun e w' => e = .returned (.tuple #[]) ∧ Blk w' g (st (rndN s n)) 90 ∧ Below B w w' := by
  have HK0 := Lib.hid K0
  clear K0
  go_enter Tryd.func61, Tryd.ntmps61
  go_wp2_with fail
  go_loopw [5] (fun i wr => ∃ j : Nat, j ≤ n ∧ i = .int .i64 j ∧ Hid (Blk wr g (st (rndN s j)) 90) ∧ Below B w wr) (fun i _ => n - (intOf i).toNat)
  case atStart => exact ⟨0, by omega, rfl, HK0, Below.refl _ _⟩
  case round =>
    obtain ⟨j, hj, rfl, HK, hB⟩ := hrel
    by_cases hlt : j < n
    · have hfj := rndN_fine s hs j
      have HST := Lib.hid (show rndN s (j + 1) = rnd (rndN s j) from rfl)
      clear HK0
      generalize rndN s j = S at *
      obtain ⟨a, b, c, d⟩ := S
      obtain ⟨la, lb, lc, ld⟩ := hfj
      simp only at la lb lc ld
      have K : Blk wr g [.int .u64 (a : Int), .int .u64 (b : Int), .int .u64 (c : Int), .int .u64 (d : Int)] 90 := HK.out
      clear HK
      generalize wr = V0 at *
      obtain ⟨z0, z1, z2, z3, y0, y1, y2, y3⟩ := K.get4
      have hw := wrap_add a b
      obtain ⟨a1, ha1⟩ : ∃ a1, add64 a b = a1 := ⟨_, rfl⟩
      have la1 := add64_lt a b
      rw [ha1] at hw la1
      have z0d : V0.drew.cell? ⟨g, 0, none⟩ = _ := z0
      have z1d : V0.drew.cell? ⟨g, 1, none⟩ = _ := z1
      have z2d : V0.drew.cell? ⟨g, 2, none⟩ = _ := z2
      have z3d : V0.drew.cell? ⟨g, 3, none⟩ = _ := z3
      have fid : V0.drew.frozen? ⟨g, 0, none⟩ = _ := y0
      go_wp2_with fail
      go_region
      replace K := (K.set 0 (.int .u64 (a1 : Int))).drew
      replace hB := (hB.setCell (p := ⟨g, 0, none⟩) hBg (.int .u64 (a1 : Int))).drew
      replace ha1 := Lib.hid ha1
      clear z0 z1 z2 z3 y0 y1 y2 y3 z0d z1d z2d z3d fid hw
      generalize (V0.setCell ⟨g, 0, none⟩ (.int .u64 (a1 : Int))).drew = V1 at *
      obtain ⟨rb1, hrb1⟩ : ∃ rb1, rolN b 13 = rb1 := ⟨_, rfl⟩
      have lrb1 := rolN_lt b lb 13
      have hr := fun W => rot13 b lb W
      rw [hrb1] at lrb1
      simp only [hrb1] at hr
      obtain ⟨b1, hb1⟩ : ∃ b1, rb1 ^^^ a1 = b1 := ⟨_, rfl⟩
      have lb1 := xor64_lt rb1 a1 lrb1 la1
      have HXR : ∀ _ : Unit, bits BinOp.xor IntKind.u64 (rb1 : Int) (a1 : Int) = (b1 : Int) := fun _ => by rw [u64_xor_nat _ _ lrb1 la1, hb1]
      rw [hb1] at lb1
      have HCC : ∀ W, Below V1.heap.size V1 W → (W.cell? ⟨g, 0, none⟩ = some (.int .u64 (a1 : Int)) ∧ W.cell? ⟨g, 1, none⟩ = some (.int .u64 (b : Int)) ∧ W.cell? ⟨g, 2, none⟩ = some (.int .u64 (c : Int)) ∧ W.cell? ⟨g, 3, none⟩ = some (.int .u64 (d : Int))) := by
        intro W h
        obtain ⟨z0, z1, z2, z3, -⟩ := (K.next h).get4
        exact ⟨z0, z1, z2, z3⟩
      go_wp2_with fail
      refine region_put_end (by kernel_rfl) (by kernel_rfl) (by kernel_rfl) 120 rfl (by kernel_rfl) V1 (fun i v W => match i with
          | 0 => v = .pointer (some ⟨g, 0, none⟩)
          | 1 => v = .pointer (some ⟨g, 0, none⟩)
          | 2 => v = .pointer (some ⟨g, 0, none⟩)
          | 3 => v = .pointer (some ⟨g, 1, none⟩)
          | 4 => v = .int .u64 (b : Int)
          | 5 => v = .int .u64 (rb1 : Int)
          | 6 => v = .pointer (some ⟨g, 0, none⟩)
          | 7 => v = .pointer (some ⟨g, 0, none⟩)
          | 8 => v = .pointer (some ⟨g, 0, none⟩)
          | 9 => v = .int .u64 (a1 : Int)
          | 10 => v = .int .u64 (b1 : Int)
          | 11 => v = .pointer (some ⟨g, 0, none⟩)
          | 12 => v = .pointer (some ⟨g, 1, none⟩)
          | _ => True) (Below.refl _ _) 13 rfl (by kernel_rfl) (by intro o h; obtain rfl := Option.some.inj h; rfl) ?_ ?_ ?_
      · intro i v W W' h hb
        match i, h with
        | 0, h => exact h
        | 1, h => exact h
        | 2, h => exact h
        | 3, h => exact h
        | 4, h => exact h
        | 5, h => exact h
        | 6, h => exact h
        | 7, h => exact h
        | 8, h => exact h
        | 9, h => exact h
        | 10, h => exact h
        | 11, h => exact h
        | 12, h => exact h
        | _ + 13, _ => trivial
      · intro i oo uu W him hoo hVW hd
        rcases i with _|_|_|_|_|_|_|_|_|_|_|_|_|i
        · obtain rfl := Option.some.inj hoo
          refine .inl ⟨wanted_none rfl, ?_⟩
          generalize hev : Act.eval _ = ev
          have ec : ∀ c, ev (.const c) = c := fun c => by rw [← hev]; rfl
          have e0 : ev (.tmp 0) = .pointer (some ⟨g, 0, none⟩) := by rw [← hev]; exact eval_old (by kernel_rfl) 120 rfl (by decide) rfl
          clear hev hd
          exact .inl ⟨_, W, by go_simp, rfl, Below.refl _ _⟩
        · obtain rfl := Option.some.inj hoo
          refine .inl ⟨wanted_none rfl, ?_⟩
          generalize hev : Act.eval _ = ev
          have ec : ∀ c, ev (.const c) = c := fun c => by rw [← hev]; rfl
          have e0 : ev (.tmp 0) = .pointer (some ⟨g, 0, none⟩) := by rw [← hev]; exact eval_old (by kernel_rfl) 120 rfl (by decide) rfl
          clear hev hd
          exact .inl ⟨_, W, by go_simp, rfl, Below.refl _ _⟩
        · obtain rfl := Option.some.inj hoo
          have q1 : uu 1 = .pointer (some ⟨g, 0, none⟩) := hd 1 (by kernel_rfl)
          refine .inl ⟨wanted_none rfl, ?_⟩
          generalize hev : Act.eval _ = ev
          have ec : ∀ c, ev (.const c) = c := fun c => by rw [← hev]; rfl
          have e19 : ev (.tmp 19) = .pointer (some ⟨g, 0, none⟩) := by rw [← hev]; exact (eval_put (by kernel_rfl) 120 rfl (by decide)).trans q1
          clear hev hd q1
          exact .inl ⟨_, W, by go_simp, rfl, Below.refl _ _⟩
        · obtain rfl := Option.some.inj hoo
          have q2 : uu 2 = .pointer (some ⟨g, 0, none⟩) := hd 2 (by kernel_rfl)
          refine .inl ⟨wanted_none rfl, ?_⟩
          generalize hev : Act.eval _ = ev
          have ec : ∀ c, ev (.const c) = c := fun c => by rw [← hev]; rfl
          have e20 : ev (.tmp 20) = .pointer (some ⟨g, 0, none⟩) := by rw [← hev]; exact (eval_put (by kernel_rfl) 120 rfl (by decide)).trans q2
          clear hev hd q2
          exact .inl ⟨_, W, by go_simp, rfl, Below.refl _ _⟩
        · obtain rfl := Option.some.inj hoo
          have q3 : uu 3 = .pointer (some ⟨g, 1, none⟩) := hd 3 (by kernel_rfl)
          refine .inl ⟨wanted_none rfl, ?_⟩
          generalize hev : Act.eval _ = ev
          have ec : ∀ c, ev (.const c) = c := fun c => by rw [← hev]; rfl
          have e21 : ev (.tmp 21) = .pointer (some ⟨g, 1, none⟩) := by rw [← hev]; exact (eval_put (by kernel_rfl) 120 rfl (by decide)).trans q3
          clear hev hd q3
          obtain ⟨cc0, cc1, cc2, cc3⟩ := HCC W hVW
          exact .inl ⟨_, W, by go_simp, rfl, Below.refl _ _⟩
        · obtain rfl := Option.some.inj hoo
          have q4 : uu 4 = .int .u64 (b : Int) := hd 4 (by kernel_rfl)
          refine .inl ⟨wanted_none rfl, ?_⟩
          generalize hev : Act.eval _ = ev
          have ec : ∀ c, ev (.const c) = c := fun c => by rw [← hev]; rfl
          have ef : ∀ f, ev (.func f) = .func (.func f) #[] #[] := fun f => by rw [← hev]; rfl
          have e22 : ev (.tmp 22) = .int .u64 (b : Int) := by rw [← hev]; exact (eval_put (by kernel_rfl) 120 rfl (by decide)).trans q4
          clear hev hd q4
          exact .inr ⟨_, _, _, by go_simp, hr W, fun e w' he => ⟨_, he.1, rfl, he.2 ▸ Below.refl _ _⟩⟩
        · obtain rfl := Option.some.inj hoo
          refine .inl ⟨wanted_none rfl, ?_⟩
          generalize hev : Act.eval _ = ev
          have ec : ∀ c, ev (.const c) = c := fun c => by rw [← hev]; rfl
          have e0 : ev (.tmp 0) = .pointer (some ⟨g, 0, none⟩) := by rw [← hev]; exact eval_old (by kernel_rfl) 120 rfl (by decide) rfl
          clear hev hd
          exact .inl ⟨_, W, by go_simp, rfl, Below.refl _ _⟩
        · obtain rfl := Option.some.inj hoo
          have q6 : uu 6 = .pointer (some ⟨g, 0, none⟩) := hd 6 (by kernel_rfl)
          refine .inl ⟨wanted_none rfl, ?_⟩
          generalize hev : Act.eval _ = ev
          have ec : ∀ c, ev (.const c) = c := fun c => by rw [← hev]; rfl
          have e24 : ev (.tmp 24) = .pointer (some ⟨g, 0, none⟩) := by rw [← hev]; exact (eval_put (by kernel_rfl) 120 rfl (by decide)).trans q6
          clear hev hd q6
          exact .inl ⟨_, W, by go_simp, rfl, Below.refl _ _⟩
        · obtain rfl := Option.some.inj hoo
          have q7 : uu 7 = .pointer (some ⟨g, 0, none⟩) := hd 7 (by kernel_rfl)
          refine .inl ⟨wanted_none rfl, ?_⟩
          generalize hev : Act.eval _ = ev
          have ec : ∀ c, ev (.const c) = c := fun c => by rw [← hev]; rfl
          have e25 : ev (.tmp 25) = .pointer (some ⟨g, 0, none⟩) := by rw [← hev]; exact (eval_put (by kernel_rfl) 120 rfl (by decide)).trans q7
          clear hev hd q7
          exact .inl ⟨_, W, by go_simp, rfl, Below.refl _ _⟩
        · obtain rfl := Option.some.inj hoo
          have q8 : uu 8 = .pointer (some ⟨g, 0, none⟩) := hd 8 (by kernel_rfl)
          refine .inl ⟨wanted_none rfl, ?_⟩
          generalize hev : Act.eval _ = ev
          have ec : ∀ c, ev (.const c) = c := fun c => by rw [← hev]; rfl
          have e26 : ev (.tmp 26) = .pointer (some ⟨g, 0, none⟩) := by rw [← hev]; exact (eval_put (by kernel_rfl) 120 rfl (by decide)).trans q8
          clear hev hd q8
          obtain ⟨cc0, cc1, cc2, cc3⟩ := HCC W hVW
          exact .inl ⟨_, W, by go_simp, rfl, Below.refl _ _⟩
        · obtain rfl := Option.some.inj hoo
          have q5 : uu 5 = .int .u64 (rb1 : Int) := hd 5 (by kernel_rfl)
          have q9 : uu 9 = .int .u64 (a1 : Int) := hd 9 (by kernel_rfl)
          refine .inl ⟨wanted_none rfl, ?_⟩
          generalize hev : Act.eval _ = ev
          have ec : ∀ c, ev (.const c) = c := fun c => by rw [← hev]; rfl
          have e23 : ev (.tmp 23) = .int .u64 (rb1 : Int) := by rw [← hev]; exact (eval_put (by kernel_rfl) 120 rfl (by decide)).trans q5
          have e27 : ev (.tmp 27) = .int .u64 (a1 : Int) := by rw [← hev]; exact (eval_put (by kernel_rfl) 120 rfl (by decide)).trans q9
          clear hev hd q5 q9
          have hh := HXR ()
          exact .inl ⟨_, W, by go_simp, rfl, Below.refl _ _⟩
        · obtain rfl := Option.some.inj hoo
          have q0 : uu 0 = .pointer (some ⟨g, 0, none⟩) := hd 0 (by kernel_rfl)
          refine .inl ⟨wanted_none rfl, ?_⟩
          generalize hev : Act.eval _ = ev
          have ec : ∀ c, ev (.const c) = c := fun c => by rw [← hev]; rfl
          have e18 : ev (.tmp 18) = .pointer (some ⟨g, 0, none⟩) := by rw [← hev]; exact (eval_put (by kernel_rfl) 120 rfl (by decide)).trans q0
          clear hev hd q0
          exact .inl ⟨_, W, by go_simp, rfl, Below.refl _ _⟩
        · obtain rfl := Option.some.inj hoo
          have q11 : uu 11 = .pointer (some ⟨g, 0, none⟩) := hd 11 (by kernel_rfl)
          refine .inl ⟨wanted_none rfl, ?_⟩
          generalize hev : Act.eval _ = ev
          have ec : ∀ c, ev (.const c) = c := fun c => by rw [← hev]; rfl
          have e29 : ev (.tmp 29) = .pointer (some ⟨g, 0, none⟩) := by rw [← hev]; exact (eval_put (by kernel_rfl) 120 rfl (by decide)).trans q11
          clear hev hd q11
          exact .inl ⟨_, W, by go_simp, rfl, Below.refl _ _⟩
        · omega
      · intro oo uu W hoo hVW hall
        obtain rfl := Option.some.inj hoo
        have q12 : uu 12 = .pointer (some ⟨g, 1, none⟩) := hall 12 (by decide)
        have q10 : uu 10 = .int .u64 (b1 : Int) := hall 10 (by decide)
        refine ⟨wanted_none rfl, ?_⟩
        generalize hev : Act.eval _ = ev
        have ec : ∀ c, ev (.const c) = c := fun c => by rw [← hev]; rfl
        have e30 : ev (.tmp 30) = .pointer (some ⟨g, 1, none⟩) := by rw [← hev]; exact (eval_put (by kernel_rfl) 120 rfl (by decide)).trans q12
        have e28 : ev (.tmp 28) = .int .u64 (b1 : Int) := by rw [← hev]; exact (eval_put (by kernel_rfl) 120 rfl (by decide)).trans q10
        clear hev hall
        obtain ⟨z0, z1, z2, z3, y0, y1, y2, y3⟩ := (K.next hVW).get4
        refine ⟨_, by (go_simp <;> rfl), ?_⟩
        replace hB := (hB.trans (hVW.mono (Nat.le_trans hBg (Nat.le_of_lt K.lt)))).setCell (p := ⟨g, 1, none⟩) hBg (.int .u64 (b1 : Int))
        replace K := (K.next hVW).set 1 (.int .u64 (b1 : Int))
        replace hb1 := Lib.hid hb1
        replace hrb1 := Lib.hid hrb1
        clear HCC hr HXR hVW hoo
        simp only [putAll, Act.put, Nat.reduceAdd]
        simp only [List.setIfInBounds_toArray, List.set_cons_succ, List.set_cons_zero]
        generalize W.setCell ⟨g, 1, none⟩ (.int .u64 (b1 : Int)) = V2 at *
        obtain ⟨z0, z1, z2, z3, y0, y1, y2, y3⟩ := K.get4
        obtain ⟨a2, ha2⟩ : ∃ a2, rolN a1 32 = a2 := ⟨_, rfl⟩
        have la2 := rolN_lt a1 la1 32
        have hr := fun W => rot32 a1 la1 W
        rw [ha2] at la2
        simp only [ha2] at hr
        go_wp2_with fail
        refine (hr _).mono ?_
        rintro e wz ⟨rfl, rfl⟩
        go_wp2_with fail
        replace K := K.set 0 (.int .u64 (a2 : Int))
        replace hB := hB.setCell (p := ⟨g, 0, none⟩) hBg (.int .u64 (a2 : Int))
        replace ha2 := Lib.hid ha2
        clear z0 z1 z2 z3 y0 y1 y2 y3 hr
        generalize V2.setCell ⟨g, 0, none⟩ (.int .u64 (a2 : Int)) = V3 at *
        obtain ⟨z0, z1, z2, z3, y0, y1, y2, y3⟩ := K.get4
        have hw := wrap_add c d
        obtain ⟨c1, hc1⟩ : ∃ c1, add64 c d = c1 := ⟨_, rfl⟩
        have lc1 := add64_lt c d
        rw [hc1] at hw lc1
        have z0d : V3.drew.cell? ⟨g, 0, none⟩ = _ := z0
        have z1d : V3.drew.cell? ⟨g, 1, none⟩ = _ := z1
        have z2d : V3.drew.cell? ⟨g, 2, none⟩ = _ := z2
        have z3d : V3.drew.cell? ⟨g, 3, none⟩ = _ := z3
        have fid : V3.drew.frozen? ⟨g, 2, none⟩ = _ := y2
        go_wp2_with fail
        go_region
        replace K := (K.set 2 (.int .u64 (c1 : Int))).drew
        replace hB := (hB.setCell (p := ⟨g, 2, none⟩) hBg (.int .u64 (c1 : Int))).drew
        replace hc1 := Lib.hid hc1
        clear z0 z1 z2 z3 y0 y1 y2 y3 z0d z1d z2d z3d fid hw
        generalize (V3.setCell ⟨g, 2, none⟩ (.int .u64 (c1 : Int))).drew = V4 at *
        obtain ⟨rd1, hrd1⟩ : ∃ rd1, rolN d 16 = rd1 := ⟨_, rfl⟩
        have lrd1 := rolN_lt d ld 16
        have hr := fun W => rot16 d ld W
        rw [hrd1] at lrd1
        simp only [hrd1] at hr
        obtain ⟨d1, hd1⟩ : ∃ d1, rd1 ^^^ c1 = d1 := ⟨_, rfl⟩
        have ld1 := xor64_lt rd1 c1 lrd1 lc1
        have HXR : ∀ _ : Unit, bits BinOp.xor IntKind.u64 (rd1 : Int) (c1 : Int) = (d1 : Int) := fun _ => by rw [u64_xor_nat _ _ lrd1 lc1, hd1]
        rw [hd1] at ld1
        have HCC : ∀ W, Below V4.heap.size V4 W → (W.cell? ⟨g, 0, none⟩ = some (.int .u64 (a2 : Int)) ∧ W.cell? ⟨g, 1, none⟩ = some (.int .u64 (b1 : Int)) ∧ W.cell? ⟨g, 2, none⟩ = some (.int .u64 (c1 : Int)) ∧ W.cell? ⟨g, 3, none⟩ = some (.int .u64 (d : Int))) := by
          intro W h
          obtain ⟨z0, z1, z2, z3, -⟩ := (K.next h).get4
          exact ⟨z0, z1, z2, z3⟩
        go_wp2_with fail
        refine region_put_end (by kernel_rfl) (by kernel_rfl) (by kernel_rfl) 120 rfl (by kernel_rfl) V4 (fun i v W => match i with
            | 0 => v = .pointer (some ⟨g, 0, none⟩)
            | 1 => v = .pointer (some ⟨g, 0, none⟩)
            | 2 => v = .pointer (some ⟨g, 0, none⟩)
            | 3 => v = .pointer (some ⟨g, 3, none⟩)
            | 4 => v = .int .u64 (d : Int)
            | 5 => v = .int .u64 (rd1 : Int)
            | 6 => v = .pointer (some ⟨g, 0, none⟩)
            | 7 => v = .pointer (some ⟨g, 0, none⟩)
            | 8 => v = .pointer (some ⟨g, 2, none⟩)
            | 9 => v = .int .u64 (c1 : Int)
            | 10 => v = .int .u64 (d1 : Int)
            | 11 => v = .pointer (some ⟨g, 0, none⟩)
            | 12 => v = .pointer (some ⟨g, 3, none⟩)
            | _ => True) (Below.refl _ _) 13 rfl (by kernel_rfl) (by intro o h; obtain rfl := Option.some.inj h; rfl) ?_ ?_ ?_
        · intro i v W W' h hb
          match i, h with
          | 0, h => exact h
          | 1, h => exact h
          | 2, h => exact h
          | 3, h => exact h
          | 4, h => exact h
          | 5, h => exact h
          | 6, h => exact h
          | 7, h => exact h
          | 8, h => exact h
          | 9, h => exact h
          | 10, h => exact h
          | 11, h => exact h
          | 12, h => exact h
          | _ + 13, _ => trivial
        · intro i oo uu W him hoo hVW hd
          rcases i with _|_|_|_|_|_|_|_|_|_|_|_|_|i
          · obtain rfl := Option.some.inj hoo
            refine .inl ⟨wanted_none rfl, ?_⟩
            generalize hev : Act.eval _ = ev
            have ec : ∀ c, ev (.const c) = c := fun c => by rw [← hev]; rfl
            have e0 : ev (.tmp 0) = .pointer (some ⟨g, 0, none⟩) := by rw [← hev]; exact eval_old (by kernel_rfl) 120 rfl (by decide) rfl
            clear hev hd
            exact .inl ⟨_, W, by go_simp, rfl, Below.refl _ _⟩
          · obtain rfl := Option.some.inj hoo
            refine .inl ⟨wanted_none rfl, ?_⟩
            generalize hev : Act.eval _ = ev
            have ec : ∀ c, ev (.const c) = c := fun c => by rw [← hev]; rfl
            have e0 : ev (.tmp 0) = .pointer (some ⟨g, 0, none⟩) := by rw [← hev]; exact eval_old (by kernel_rfl) 120 rfl (by decide) rfl
            clear hev hd
            exact .inl ⟨_, W, by go_simp, rfl, Below.refl _ _⟩
          · obtain rfl := Option.some.inj hoo
            have q1 : uu 1 = .pointer (some ⟨g, 0, none⟩) := hd 1 (by kernel_rfl)
            refine .inl ⟨wanted_none rfl, ?_⟩
            generalize hev : Act.eval _ = ev
            have ec : ∀ c, ev (.const c) = c := fun c => by rw [← hev]; rfl
            have e51 : ev (.tmp 51) = .pointer (some ⟨g, 0, none⟩) := by rw [← hev]; exact (eval_put (by kernel_rfl) 120 rfl (by decide)).trans q1
            clear hev hd q1
            exact .inl ⟨_, W, by go_simp, rfl, Below.refl _ _⟩
          · obtain rfl := Option.some.inj hoo
            have q2 : uu 2 = .pointer (some ⟨g, 0, none⟩) := hd 2 (by kernel_rfl)
            refine .inl ⟨wanted_none rfl, ?_⟩
            generalize hev : Act.eval _ = ev
            have ec : ∀ c, ev (.const c) = c := fun c => by rw [← hev]; rfl
            have e52 : ev (.tmp 52) = .pointer (some ⟨g, 0, none⟩) := by rw [← hev]; exact (eval_put (by kernel_rfl) 120 rfl (by decide)).trans q2
            clear hev hd q2
            exact .inl ⟨_, W, by go_simp, rfl, Below.refl _ _⟩
          · obtain rfl := Option.some.inj hoo
            have q3 : uu 3 = .pointer (some ⟨g, 3, none⟩) := hd 3 (by kernel_rfl)
            refine .inl ⟨wanted_none rfl, ?_⟩
            generalize hev : Act.eval _ = ev
            have ec : ∀ c, ev (.const c) = c := fun c => by rw [← hev]; rfl
            have e53 : ev (.tmp 53) = .pointer (some ⟨g, 3, none⟩) := by rw [← hev]; exact (eval_put (by kernel_rfl) 120 rfl (by decide)).trans q3
            clear hev hd q3
            obtain ⟨cc0, cc1, cc2, cc3⟩ := HCC W hVW
            exact .inl ⟨_, W, by go_simp, rfl, Below.refl _ _⟩
          · obtain rfl := Option.some.inj hoo
            have q4 : uu 4 = .int .u64 (d : Int) := hd 4 (by kernel_rfl)
            refine .inl ⟨wanted_none rfl, ?_⟩
            generalize hev : Act.eval _ = ev
            have ec : ∀ c, ev (.const c) = c := fun c => by rw [← hev]; rfl
            have ef : ∀ f, ev (.func f) = .func (.func f) #[] #[] := fun f => by rw [← hev]; rfl
            have e54 : ev (.tmp 54) = .int .u64 (d : Int) := by rw [← hev]; exact (eval_put (by kernel_rfl) 120 rfl (by decide)).trans q4
            clear hev hd q4
            exact .inr ⟨_, _, _, by go_simp, hr W, fun e w' he => ⟨_, he.1, rfl, he.2 ▸ Below.refl _ _⟩⟩
          · obtain rfl := Option.some.inj hoo
            refine .inl ⟨wanted_none rfl, ?_⟩
            generalize hev : Act.eval _ = ev
            have ec : ∀ c, ev (.const c) = c := fun c => by rw [← hev]; rfl
            have e0 : ev (.tmp 0) = .pointer (some ⟨g, 0, none⟩) := by rw [← hev]; exact eval_old (by kernel_rfl) 120 rfl (by decide) rfl
            clear hev hd
            exact .inl ⟨_, W, by go_simp, rfl, Below.refl _ _⟩
          · obtain rfl := Option.some.inj hoo
            have q6 : uu 6 = .pointer (some ⟨g, 0, none⟩) := hd 6 (by kernel_rfl)
            refine .inl ⟨wanted_none rfl, ?_⟩
            generalize hev : Act.eval _ = ev
            have ec : ∀ c, ev (.const c) = c := fun c => by rw [← hev]; rfl
            have e56 : ev (.tmp 56) = .pointer (some ⟨g, 0, none⟩) := by rw [← hev]; exact (eval_put (by kernel_rfl) 120 rfl (by decide)).trans q6
            clear hev hd q6
            exact .inl ⟨_, W, by go_simp, rfl, Below.refl _ _⟩
          · obtain rfl := Option.some.inj hoo
            have q7 : uu 7 = .pointer (some ⟨g, 0, none⟩) := hd 7 (by kernel_rfl)
            refine .inl ⟨wanted_none rfl, ?_⟩
            generalize hev : Act.eval _ = ev
            have ec : ∀ c, ev (.const c) = c := fun c => by rw [← hev]; rfl
            have e57 : ev (.tmp 57) = .pointer (some ⟨g, 0, none⟩) := by rw [← hev]; exact (eval_put (by kernel_rfl) 120 rfl (by decide)).trans q7
            clear hev hd q7
            exact .inl ⟨_, W, by go_simp, rfl, Below.refl _ _⟩
          · obtain rfl := Option.some.inj hoo
            have q8 : uu 8 = .pointer (some ⟨g, 2, none⟩) := hd 8 (by kernel_rfl)
            refine .inl ⟨wanted_none rfl, ?_⟩
            generalize hev : Act.eval _ = ev
            have ec : ∀ c, ev (.const c) = c := fun c => by rw [← hev]; rfl
            have e58 : ev (.tmp 58) = .pointer (some ⟨g, 2, none⟩) := by rw [← hev]; exact (eval_put (by kernel_rfl) 120 rfl (by decide)).trans q8
            clear hev hd q8
            obtain ⟨cc0, cc1, cc2, cc3⟩ := HCC W hVW
            exact .inl ⟨_, W, by go_simp, rfl, Below.refl _ _⟩
          · obtain rfl := Option.some.inj hoo
            have q5 : uu 5 = .int .u64 (rd1 : Int) := hd 5 (by kernel_rfl)
            have q9 : uu 9 = .int .u64 (c1 : Int) := hd 9 (by kernel_rfl)
            refine .inl ⟨wanted_none rfl, ?_⟩
            generalize hev : Act.eval _ = ev
            have ec : ∀ c, ev (.const c) = c := fun c => by rw [← hev]; rfl
            have e55 : ev (.tmp 55) = .int .u64 (rd1 : Int) := by rw [← hev]; exact (eval_put (by kernel_rfl) 120 rfl (by decide)).trans q5
            have e59 : ev (.tmp 59) = .int .u64 (c1 : Int) := by rw [← hev]; exact (eval_put (by kernel_rfl) 120 rfl (by decide)).trans q9
            clear hev hd q5 q9
            have hh := HXR ()
            exact .inl ⟨_, W, by go_simp, rfl, Below.refl _ _⟩
          · obtain rfl := Option.some.inj hoo
            have q0 : uu 0 = .pointer (some ⟨g, 0, none⟩) := hd 0 (by kernel_rfl)
            refine .inl ⟨wanted_none rfl, ?_⟩
            generalize hev : Act.eval _ = ev
            have ec : ∀ c, ev (.const c) = c := fun c => by rw [← hev]; rfl
            have e50 : ev (.tmp 50) = .pointer (some ⟨g, 0, none⟩) := by rw [← hev]; exact (eval_put (by kernel_rfl) 120 rfl (by decide)).trans q0
            clear hev hd q0
            exact .inl ⟨_, W, by go_simp, rfl, Below.refl _ _⟩
          · obtain rfl := Option.some.inj hoo
            have q11 : uu 11 = .pointer (some ⟨g, 0, none⟩) := hd 11 (by kernel_rfl)
            refine .inl ⟨wanted_none rfl, ?_⟩
            generalize hev : Act.eval _ = ev
            have ec : ∀ c, ev (.const c) = c := fun c => by rw [← hev]; rfl
            have e61 : ev (.tmp 61) = .pointer (some ⟨g, 0, none⟩) := by rw [← hev]; exact (eval_put (by kernel_rfl) 120 rfl (by decide)).trans q11
            clear hev hd q11
            exact .inl ⟨_, W, by go_simp, rfl, Below.refl _ _⟩
          · omega
        · intro oo uu W hoo hVW hall
          obtain rfl := Option.some.inj hoo
          have q12 : uu 12 = .pointer (some ⟨g, 3, none⟩) := hall 12 (by decide)
          have q10 : uu 10 = .int .u64 (d1 : Int) := hall 10 (by decide)
          refine ⟨wanted_none rfl, ?_⟩
          generalize hev : Act.eval _ = ev
          have ec : ∀ c, ev (.const c) = c := fun c => by rw [← hev]; rfl
          have e62 : ev (.tmp 62) = .pointer (some ⟨g, 3, none⟩) := by rw [← hev]; exact (eval_put (by kernel_rfl) 120 rfl (by decide)).trans q12
          have e60 : ev (.tmp 60) = .int .u64 (d1 : Int) := by rw [← hev]; exact (eval_put (by kernel_rfl) 120 rfl (by decide)).trans q10
          clear hev hall
          obtain ⟨z0, z1, z2, z3, y0, y1, y2, y3⟩ := (K.next hVW).get4
          refine ⟨_, by (go_simp <;> rfl), ?_⟩
          replace hB := (hB.trans (hVW.mono (Nat.le_trans hBg (Nat.le_of_lt K.lt)))).setCell (p := ⟨g, 3, none⟩) hBg (.int .u64 (d1 : Int))
          replace K := (K.next hVW).set 3 (.int .u64 (d1 : Int))
          replace hd1 := Lib.hid hd1
          replace hrd1 := Lib.hid hrd1
          clear HCC hr HXR hVW hoo
          simp only [putAll, Act.put, Nat.reduceAdd]
          simp only [List.setIfInBounds_toArray, List.set_cons_succ, List.set_cons_zero]
          generalize W.setCell ⟨g, 3, none⟩ (.int .u64 (d1 : Int)) = V5 at *
          obtain ⟨z0, z1, z2, z3, y0, y1, y2, y3⟩ := K.get4
          have hw := wrap_add a2 d1
          obtain ⟨a3, ha3⟩ : ∃ a3, add64 a2 d1 = a3 := ⟨_, rfl⟩
          have la3 := add64_lt a2 d1
          rw [ha3] at hw la3
          have z0d : V5.drew.cell? ⟨g, 0, none⟩ = _ := z0
          have z1d : V5.drew.cell? ⟨g, 1, none⟩ = _ := z1
          have z2d : V5.drew.cell? ⟨g, 2, none⟩ = _ := z2
          have z3d : V5.drew.cell? ⟨g, 3, none⟩ = _ := z3
          have fid : V5.drew.frozen? ⟨g, 0, none⟩ = _ := y0
          go_wp2_with fail
          go_region
          replace K := (K.set 0 (.int .u64 (a3 : Int))).drew
          replace hB := (hB.setCell (p := ⟨g, 0, none⟩) hBg (.int .u64 (a3 : Int))).drew
          replace ha3 := Lib.hid ha3
          clear z0 z1 z2 z3 y0 y1 y2 y3 z0d z1d z2d z3d fid hw
          generalize (V5.setCell ⟨g, 0, none⟩ (.int .u64 (a3 : Int))).drew = V6 at *
          obtain ⟨rd2, hrd2⟩ : ∃ rd2, rolN d1 21 = rd2 := ⟨_, rfl⟩
          have lrd2 := rolN_lt d1 ld1 21
          have hr := fun W => rot21 d1 ld1 W
          rw [hrd2] at lrd2
          simp only [hrd2] at hr
          obtain ⟨d2, hd2⟩ : ∃ d2, rd2 ^^^ a3 = d2 := ⟨_, rfl⟩
          have ld2 := xor64_lt rd2 a3 lrd2 la3
          have HXR : ∀ _ : Unit, bits BinOp.xor IntKind.u64 (rd2 : Int) (a3 : Int) = (d2 : Int) := fun _ => by rw [u64_xor_nat _ _ lrd2 la3, hd2]
          rw [hd2] at ld2
          have HCC : ∀ W, Below V6.heap.size V6 W → (W.cell? ⟨g, 0, none⟩ = some (.int .u64 (a3 : Int)) ∧ W.cell? ⟨g, 1, none⟩ = some (.int .u64 (b1 : Int)) ∧ W.cell? ⟨g, 2, none⟩ = some (.int .u64 (c1 : Int)) ∧ W.cell? ⟨g, 3, none⟩ = some (.int .u64 (d1 : Int))) := by
            intro W h
            obtain ⟨z0, z1, z2, z3, -⟩ := (K.next h).get4
            exact ⟨z0, z1, z2, z3⟩
          go_wp2_with fail
          refine region_put_end (by kernel_rfl) (by kernel_rfl) (by kernel_rfl) 120 rfl (by kernel_rfl) V6 (fun i v W => match i with
              | 0 => v = .pointer (some ⟨g, 0, none⟩)
              | 1 => v = .pointer (some ⟨g, 0, none⟩)
              | 2 => v = .pointer (some ⟨g, 0, none⟩)
              | 3 => v = .pointer (some ⟨g, 3, none⟩)
              | 4 => v = .int .u64 (d1 : Int)
              | 5 => v = .int .u64 (rd2 : Int)
              | 6 => v = .pointer (some ⟨g, 0, none⟩)
              | 7 => v = .pointer (some ⟨g, 0, none⟩)
              | 8 => v = .pointer (some ⟨g, 0, none⟩)
              | 9 => v = .int .u64 (a3 : Int)
              | 10 => v = .int .u64 (d2 : Int)
              | 11 => v = .pointer (some ⟨g, 0, none⟩)
              | 12 => v = .pointer (some ⟨g, 3, none⟩)
              | _ => True) (Below.refl _ _) 13 rfl (by kernel_rfl) (by intro o h; obtain rfl := Option.some.inj h; rfl) ?_ ?_ ?_
          · intro i v W W' h hb
            match i, h with
            | 0, h => exact h
            | 1, h => exact h
            | 2, h => exact h
            | 3, h => exact h
            | 4, h => exact h
            | 5, h => exact h
            | 6, h => exact h
            | 7, h => exact h
            | 8, h => exact h
            | 9, h => exact h
            | 10, h => exact h
            | 11, h => exact h
            | 12, h => exact h
            | _ + 13, _ => trivial
          · intro i oo uu W him hoo hVW hd
            rcases i with _|_|_|_|_|_|_|_|_|_|_|_|_|i
            · obtain rfl := Option.some.inj hoo
              refine .inl ⟨wanted_none rfl, ?_⟩
              generalize hev : Act.eval _ = ev
              have ec : ∀ c, ev (.const c) = c := fun c => by rw [← hev]; rfl
              have e0 : ev (.tmp 0) = .pointer (some ⟨g, 0, none⟩) := by rw [← hev]; exact eval_old (by kernel_rfl) 120 rfl (by decide) rfl
              clear hev hd
              exact .inl ⟨_, W, by go_simp, rfl, Below.refl _ _⟩
            · obtain rfl := Option.some.inj hoo
              refine .inl ⟨wanted_none rfl, ?_⟩
              generalize hev : Act.eval _ = ev
              have ec : ∀ c, ev (.const c) = c := fun c => by rw [← hev]; rfl
              have e0 : ev (.tmp 0) = .pointer (some ⟨g, 0, none⟩) := by rw [← hev]; exact eval_old (by kernel_rfl) 120 rfl (by decide) rfl
              clear hev hd
              exact .inl ⟨_, W, by go_simp, rfl, Below.refl _ _⟩
            · obtain rfl := Option.some.inj hoo
              have q1 : uu 1 = .pointer (some ⟨g, 0, none⟩) := hd 1 (by kernel_rfl)
              refine .inl ⟨wanted_none rfl, ?_⟩
              generalize hev : Act.eval _ = ev
              have ec : ∀ c, ev (.const c) = c := fun c => by rw [← hev]; rfl
              have e75 : ev (.tmp 75) = .pointer (some ⟨g, 0, none⟩) := by rw [← hev]; exact (eval_put (by kernel_rfl) 120 rfl (by decide)).trans q1
              clear hev hd q1
              exact .inl ⟨_, W, by go_simp, rfl, Below.refl _ _⟩
            · obtain rfl := Option.some.inj hoo
              have q2 : uu 2 = .pointer (some ⟨g, 0, none⟩) := hd 2 (by kernel_rfl)
              refine .inl ⟨wanted_none rfl, ?_⟩
              generalize hev : Act.eval _ = ev
              have ec : ∀ c, ev (.const c) = c := fun c => by rw [← hev]; rfl
              have e76 : ev (.tmp 76) = .pointer (some ⟨g, 0, none⟩) := by rw [← hev]; exact (eval_put (by kernel_rfl) 120 rfl (by decide)).trans q2
              clear hev hd q2
              exact .inl ⟨_, W, by go_simp, rfl, Below.refl _ _⟩
            · obtain rfl := Option.some.inj hoo
              have q3 : uu 3 = .pointer (some ⟨g, 3, none⟩) := hd 3 (by kernel_rfl)
              refine .inl ⟨wanted_none rfl, ?_⟩
              generalize hev : Act.eval _ = ev
              have ec : ∀ c, ev (.const c) = c := fun c => by rw [← hev]; rfl
              have e77 : ev (.tmp 77) = .pointer (some ⟨g, 3, none⟩) := by rw [← hev]; exact (eval_put (by kernel_rfl) 120 rfl (by decide)).trans q3
              clear hev hd q3
              obtain ⟨cc0, cc1, cc2, cc3⟩ := HCC W hVW
              exact .inl ⟨_, W, by go_simp, rfl, Below.refl _ _⟩
            · obtain rfl := Option.some.inj hoo
              have q4 : uu 4 = .int .u64 (d1 : Int) := hd 4 (by kernel_rfl)
              refine .inl ⟨wanted_none rfl, ?_⟩
              generalize hev : Act.eval _ = ev
              have ec : ∀ c, ev (.const c) = c := fun c => by rw [← hev]; rfl
              have ef : ∀ f, ev (.func f) = .func (.func f) #[] #[] := fun f => by rw [← hev]; rfl
              have e78 : ev (.tmp 78) = .int .u64 (d1 : Int) := by rw [← hev]; exact (eval_put (by kernel_rfl) 120 rfl (by decide)).trans q4
              clear hev hd q4
              exact .inr ⟨_, _, _, by go_simp, hr W, fun e w' he => ⟨_, he.1, rfl, he.2 ▸ Below.refl _ _⟩⟩
            · obtain rfl := Option.some.inj hoo
              refine .inl ⟨wanted_none rfl, ?_⟩
              generalize hev : Act.eval _ = ev
              have ec : ∀ c, ev (.const c) = c := fun c => by rw [← hev]; rfl
              have e0 : ev (.tmp 0) = .pointer (some ⟨g, 0, none⟩) := by rw [← hev]; exact eval_old (by kernel_rfl) 120 rfl (by decide) rfl
              clear hev hd
              exact .inl ⟨_, W, by go_simp, rfl, Below.refl _ _⟩
            · obtain rfl := Option.some.inj hoo
              have q6 : uu 6 = .pointer (some ⟨g, 0, none⟩) := hd 6 (by kernel_rfl)
              refine .inl ⟨wanted_none rfl, ?_⟩
              generalize hev : Act.eval _ = ev
              have ec : ∀ c, ev (.const c) = c := fun c => by rw [← hev]; rfl
              have e80 : ev (.tmp 80) = .pointer (some ⟨g, 0, none⟩) := by rw [← hev]; exact (eval_put (by kernel_rfl) 120 rfl (by decide)).trans q6
              clear hev hd q6
              exact .inl ⟨_, W, by go_simp, rfl, Below.refl _ _⟩
            · obtain rfl := Option.some.inj hoo
              have q7 : uu 7 = .pointer (some ⟨g, 0, none⟩) := hd 7 (by kernel_rfl)
              refine .inl ⟨wanted_none rfl, ?_⟩
              generalize hev : Act.eval _ = ev
              have ec : ∀ c, ev (.const c) = c := fun c => by rw [← hev]; rfl
              have e81 : ev (.tmp 81) = .pointer (some ⟨g, 0, none⟩) := by rw [← hev]; exact (eval_put (by kernel_rfl) 120 rfl (by decide)).trans q7
              clear hev hd q7
              exact .inl ⟨_, W, by go_simp, rfl, Below.refl _ _⟩
            · obtain rfl := Option.some.inj hoo
              have q8 : uu 8 = .pointer (some ⟨g, 0, none⟩) := hd 8 (by kernel_rfl)
              refine .inl ⟨wanted_none rfl, ?_⟩
              generalize hev : Act.eval _ = ev
              have ec : ∀ c, ev (.const c) = c := fun c => by rw [← hev]; rfl
              have e82 : ev (.tmp 82) = .pointer (some ⟨g, 0, none⟩) := by rw [← hev]; exact (eval_put (by kernel_rfl) 120 rfl (by decide)).trans q8
              clear hev hd q8
              obtain ⟨cc0, cc1, cc2, cc3⟩ := HCC W hVW
              exact .inl ⟨_, W, by go_simp, rfl, Below.refl _ _⟩
            · obtain rfl := Option.some.inj hoo
              have q5 : uu 5 = .int .u64 (rd2 : Int) := hd 5 (by kernel_rfl)
              have q9 : uu 9 = .int .u64 (a3 : Int) := hd 9 (by kernel_rfl)
              refine .inl ⟨wanted_none rfl, ?_⟩
              generalize hev : Act.eval _ = ev
              have ec : ∀ c, ev (.const c) = c := fun c => by rw [← hev]; rfl
              have e79 : ev (.tmp 79) = .int .u64 (rd2 : Int) := by rw [← hev]; exact (eval_put (by kernel_rfl) 120 rfl (by decide)).trans q5
              have e83 : ev (.tmp 83) = .int .u64 (a3 : Int) := by rw [← hev]; exact (eval_put (by kernel_rfl) 120 rfl (by decide)).trans q9
              clear hev hd q5 q9
              have hh := HXR ()
              exact .inl ⟨_, W, by go_simp, rfl, Below.refl _ _⟩
            · obtain rfl := Option.some.inj hoo
              have q0 : uu 0 = .pointer (some ⟨g, 0, none⟩) := hd 0 (by kernel_rfl)
              refine .inl ⟨wanted_none rfl, ?_⟩
              generalize hev : Act.eval _ = ev
              have ec : ∀ c, ev (.const c) = c := fun c => by rw [← hev]; rfl
              have e74 : ev (.tmp 74) = .pointer (some ⟨g, 0, none⟩) := by rw [← hev]; exact (eval_put (by kernel_rfl) 120 rfl (by decide)).trans q0
              clear hev hd q0
              exact .inl ⟨_, W, by go_simp, rfl, Below.refl _ _⟩
            · obtain rfl := Option.some.inj hoo
              have q11 : uu 11 = .pointer (some ⟨g, 0, none⟩) := hd 11 (by kernel_rfl)
              refine .inl ⟨wanted_none rfl, ?_⟩
              generalize hev : Act.eval _ = ev
              have ec : ∀ c, ev (.const c) = c := fun c => by rw [← hev]; rfl
              have e85 : ev (.tmp 85) = .pointer (some ⟨g, 0, none⟩) := by rw [← hev]; exact (eval_put (by kernel_rfl) 120 rfl (by decide)).trans q11
              clear hev hd q11
              exact .inl ⟨_, W, by go_simp, rfl, Below.refl _ _⟩
            · omega
          · intro oo uu W hoo hVW hall
            obtain rfl := Option.some.inj hoo
            have q12 : uu 12 = .pointer (some ⟨g, 3, none⟩) := hall 12 (by decide)
            have q10 : uu 10 = .int .u64 (d2 : Int) := hall 10 (by decide)
            refine ⟨wanted_none rfl, ?_⟩
            generalize hev : Act.eval _ = ev
            have ec : ∀ c, ev (.const c) = c := fun c => by rw [← hev]; rfl
            have e86 : ev (.tmp 86) = .pointer (some ⟨g, 3, none⟩) := by rw [← hev]; exact (eval_put (by kernel_rfl) 120 rfl (by decide)).trans q12
            have e84 : ev (.tmp 84) = .int .u64 (d2 : Int) := by rw [← hev]; exact (eval_put (by kernel_rfl) 120 rfl (by decide)).trans q10
            clear hev hall
            obtain ⟨z0, z1, z2, z3, y0, y1, y2, y3⟩ := (K.next hVW).get4
            refine ⟨_, by (go_simp <;> rfl), ?_⟩
            replace hB := (hB.trans (hVW.mono (Nat.le_trans hBg (Nat.le_of_lt K.lt)))).setCell (p := ⟨g, 3, none⟩) hBg (.int .u64 (d2 : Int))
            replace K := (K.next hVW).set 3 (.int .u64 (d2 : Int))
            replace hd2 := Lib.hid hd2
            replace hrd2 := Lib.hid hrd2
            clear HCC hr HXR hVW hoo
            simp only [putAll, Act.put, Nat.reduceAdd]
            simp only [List.setIfInBounds_toArray, List.set_cons_succ, List.set_cons_zero]
            generalize W.setCell ⟨g, 3, none⟩ (.int .u64 (d2 : Int)) = V7 at *
            obtain ⟨z0, z1, z2, z3, y0, y1, y2, y3⟩ := K.get4
            have hw := wrap_add c1 b1
            obtain ⟨c2, hc2⟩ : ∃ c2, add64 c1 b1 = c2 := ⟨_, rfl⟩
            have lc2 := add64_lt c1 b1
            rw [hc2] at hw lc2
            have z0d : V7.drew.cell? ⟨g, 0, none⟩ = _ := z0
            have z1d : V7.drew.cell? ⟨g, 1, none⟩ = _ := z1
            have z2d : V7.drew.cell? ⟨g, 2, none⟩ = _ := z2
            have z3d : V7.drew.cell? ⟨g, 3, none⟩ = _ := z3
            have fid : V7.drew.frozen? ⟨g, 2, none⟩ = _ := y2
            go_wp2_with fail
            go_region
            replace K := (K.set 2 (.int .u64 (c2 : Int))).drew
            replace hB := (hB.setCell (p := ⟨g, 2, none⟩) hBg (.int .u64 (c2 : Int))).drew
            replace hc2 := Lib.hid hc2
            clear z0 z1 z2 z3 y0 y1 y2 y3 z0d z1d z2d z3d fid hw
            generalize (V7.setCell ⟨g, 2, none⟩ (.int .u64 (c2 : Int))).drew = V8 at *
            obtain ⟨rb2, hrb2⟩ : ∃ rb2, rolN b1 17 = rb2 := ⟨_, rfl⟩
            have lrb2 := rolN_lt b1 lb1 17
            have hr := fun W => rot17 b1 lb1 W
            rw [hrb2] at lrb2
            simp only [hrb2] at hr
            obtain ⟨b2, hb2⟩ : ∃ b2, rb2 ^^^ c2 = b2 := ⟨_, rfl⟩
            have lb2 := xor64_lt rb2 c2 lrb2 lc2
            have HXR : ∀ _ : Unit, bits BinOp.xor IntKind.u64 (rb2 : Int) (c2 : Int) = (b2 : Int) := fun _ => by rw [u64_xor_nat _ _ lrb2 lc2, hb2]
            rw [hb2] at lb2
            have HCC : ∀ W, Below V8.heap.size V8 W → (W.cell? ⟨g, 0, none⟩ = some (.int .u64 (a3 : Int)) ∧ W.cell? ⟨g, 1, none⟩ = some (.int .u64 (b1 : Int)) ∧ W.cell? ⟨g, 2, none⟩ = some (.int .u64 (c2 : Int)) ∧ W.cell? ⟨g, 3, none⟩ = some (.int .u64 (d2 : Int))) := by
              intro W h
              obtain ⟨z0, z1, z2, z3, -⟩ := (K.next h).get4
              exact ⟨z0, z1, z2, z3⟩
            go_wp2_with fail
            refine region_put_end (by kernel_rfl) (by kernel_rfl) (by kernel_rfl) 120 rfl (by kernel_rfl) V8 (fun i v W => match i with
                | 0 => v = .pointer (some ⟨g, 0, none⟩)
                | 1 => v = .pointer (some ⟨g, 0, none⟩)
                | 2 => v = .pointer (some ⟨g, 0, none⟩)
                | 3 => v = .pointer (some ⟨g, 1, none⟩)
                | 4 => v = .int .u64 (b1 : Int)
                | 5 => v = .int .u64 (rb2 : Int)
                | 6 => v = .pointer (some ⟨g, 0, none⟩)
                | 7 => v = .pointer (some ⟨g, 0, none⟩)
                | 8 => v = .pointer (some ⟨g, 2, none⟩)
                | 9 => v = .int .u64 (c2 : Int)
                | 10 => v = .int .u64 (b2 : Int)
                | 11 => v = .pointer (some ⟨g, 0, none⟩)
                | 12 => v = .pointer (some ⟨g, 1, none⟩)
                | _ => True) (Below.refl _ _) 13 rfl (by kernel_rfl) (by intro o h; obtain rfl := Option.some.inj h; rfl) ?_ ?_ ?_
            · intro i v W W' h hb
              match i, h with
              | 0, h => exact h
              | 1, h => exact h
              | 2, h => exact h
              | 3, h => exact h
              | 4, h => exact h
              | 5, h => exact h
              | 6, h => exact h
              | 7, h => exact h
              | 8, h => exact h
              | 9, h => exact h
              | 10, h => exact h
              | 11, h => exact h
              | 12, h => exact h
              | _ + 13, _ => trivial
            · intro i oo uu W him hoo hVW hd
              rcases i with _|_|_|_|_|_|_|_|_|_|_|_|_|i
              · obtain rfl := Option.some.inj hoo
                refine .inl ⟨wanted_none rfl, ?_⟩
                generalize hev : Act.eval _ = ev
                have ec : ∀ c, ev (.const c) = c := fun c => by rw [← hev]; rfl
                have e0 : ev (.tmp 0) = .pointer (some ⟨g, 0, none⟩) := by rw [← hev]; exact eval_old (by kernel_rfl) 120 rfl (by decide) rfl
                clear hev hd
                exact .inl ⟨_, W, by go_simp, rfl, Below.refl _ _⟩
              · obtain rfl := Option.some.inj hoo
                refine .inl ⟨wanted_none rfl, ?_⟩
                generalize hev : Act.eval _ = ev
                have ec : ∀ c, ev (.const c) = c := fun c => by rw [← hev]; rfl
                have e0 : ev (.tmp 0) = .pointer (some ⟨g, 0, none⟩) := by rw [← hev]; exact eval_old (by kernel_rfl) 120 rfl (by decide) rfl
                clear hev hd
                exact .inl ⟨_, W, by go_simp, rfl, Below.refl _ _⟩
              · obtain rfl := Option.some.inj hoo
                have q1 : uu 1 = .pointer (some ⟨g, 0, none⟩) := hd 1 (by kernel_rfl)
                refine .inl ⟨wanted_none rfl, ?_⟩
                generalize hev : Act.eval _ = ev
                have ec : ∀ c, ev (.const c) = c := fun c => by rw [← hev]; rfl
                have e99 : ev (.tmp 99) = .pointer (some ⟨g, 0, none⟩) := by rw [← hev]; exact (eval_put (by kernel_rfl) 120 rfl (by decide)).trans q1
                clear hev hd q1
                exact .inl ⟨_, W, by go_simp, rfl, Below.refl _ _⟩
              · obtain rfl := Option.some.inj hoo
                have q2 : uu 2 = .pointer (some ⟨g, 0, none⟩) := hd 2 (by kernel_rfl)
                refine .inl ⟨wanted_none rfl, ?_⟩
                generalize hev : Act.eval _ = ev
                have ec : ∀ c, ev (.const c) = c := fun c => by rw [← hev]; rfl
                have e100 : ev (.tmp 100) = .pointer (some ⟨g, 0, none⟩) := by rw [← hev]; exact (eval_put (by kernel_rfl) 120 rfl (by decide)).trans q2
                clear hev hd q2
                exact .inl ⟨_, W, by go_simp, rfl, Below.refl _ _⟩
              · obtain rfl := Option.some.inj hoo
                have q3 : uu 3 = .pointer (some ⟨g, 1, none⟩) := hd 3 (by kernel_rfl)
                refine .inl ⟨wanted_none rfl, ?_⟩
                generalize hev : Act.eval _ = ev
                have ec : ∀ c, ev (.const c) = c := fun c => by rw [← hev]; rfl
                have e101 : ev (.tmp 101) = .pointer (some ⟨g, 1, none⟩) := by rw [← hev]; exact (eval_put (by kernel_rfl) 120 rfl (by decide)).trans q3
                clear hev hd q3
                obtain ⟨cc0, cc1, cc2, cc3⟩ := HCC W hVW
                exact .inl ⟨_, W, by go_simp, rfl, Below.refl _ _⟩
              · obtain rfl := Option.some.inj hoo
                have q4 : uu 4 = .int .u64 (b1 : Int) := hd 4 (by kernel_rfl)
                refine .inl ⟨wanted_none rfl, ?_⟩
                generalize hev : Act.eval _ = ev
                have ec : ∀ c, ev (.const c) = c := fun c => by rw [← hev]; rfl
                have ef : ∀ f, ev (.func f) = .func (.func f) #[] #[] := fun f => by rw [← hev]; rfl
                have e102 : ev (.tmp 102) = .int .u64 (b1 : Int) := by rw [← hev]; exact (eval_put (by kernel_rfl) 120 rfl (by decide)).trans q4
                clear hev hd q4
                exact .inr ⟨_, _, _, by go_simp, hr W, fun e w' he => ⟨_, he.1, rfl, he.2 ▸ Below.refl _ _⟩⟩
              · obtain rfl := Option.some.inj hoo
                refine .inl ⟨wanted_none rfl, ?_⟩
                generalize hev : Act.eval _ = ev
                have ec : ∀ c, ev (.const c) = c := fun c => by rw [← hev]; rfl
                have e0 : ev (.tmp 0) = .pointer (some ⟨g, 0, none⟩) := by rw [← hev]; exact eval_old (by kernel_rfl) 120 rfl (by decide) rfl
                clear hev hd
                exact .inl ⟨_, W, by go_simp, rfl, Below.refl _ _⟩
              · obtain rfl := Option.some.inj hoo
                have q6 : uu 6 = .pointer (some ⟨g, 0, none⟩) := hd 6 (by kernel_rfl)
                refine .inl ⟨wanted_none rfl, ?_⟩
                generalize hev : Act.eval _ = ev
                have ec : ∀ c, ev (.const c) = c := fun c => by rw [← hev]; rfl
                have e104 : ev (.tmp 104) = .pointer (some ⟨g, 0, none⟩) := by rw [← hev]; exact (eval_put (by kernel_rfl) 120 rfl (by decide)).trans q6
                clear hev hd q6
                exact .inl ⟨_, W, by go_simp, rfl, Below.refl _ _⟩
              · obtain rfl := Option.some.inj hoo
                have q7 : uu 7 = .pointer (some ⟨g, 0, none⟩) := hd 7 (by kernel_rfl)
                refine .inl ⟨wanted_none rfl, ?_⟩
                generalize hev : Act.eval _ = ev
                have ec : ∀ c, ev (.const c) = c := fun c => by rw [← hev]; rfl
                have e105 : ev (.tmp 105) = .pointer (some ⟨g, 0, none⟩) := by rw [← hev]; exact (eval_put (by kernel_rfl) 120 rfl (by decide)).trans q7
                clear hev hd q7
                exact .inl ⟨_, W, by go_simp, rfl, Below.refl _ _⟩
              · obtain rfl := Option.some.inj hoo
                have q8 : uu 8 = .pointer (some ⟨g, 2, none⟩) := hd 8 (by kernel_rfl)
                refine .inl ⟨wanted_none rfl, ?_⟩
                generalize hev : Act.eval _ = ev
                have ec : ∀ c, ev (.const c) = c := fun c => by rw [← hev]; rfl
                have e106 : ev (.tmp 106) = .pointer (some ⟨g, 2, none⟩) := by rw [← hev]; exact (eval_put (by kernel_rfl) 120 rfl (by decide)).trans q8
                clear hev hd q8
                obtain ⟨cc0, cc1, cc2, cc3⟩ := HCC W hVW
                exact .inl ⟨_, W, by go_simp, rfl, Below.refl _ _⟩
              · obtain rfl := Option.some.inj hoo
                have q5 : uu 5 = .int .u64 (rb2 : Int) := hd 5 (by kernel_rfl)
                have q9 : uu 9 = .int .u64 (c2 : Int) := hd 9 (by kernel_rfl)
                refine .inl ⟨wanted_none rfl, ?_⟩
                generalize hev : Act.eval _ = ev
                have ec : ∀ c, ev (.const c) = c := fun c => by rw [← hev]; rfl
                have e103 : ev (.tmp 103) = .int .u64 (rb2 : Int) := by rw [← hev]; exact (eval_put (by kernel_rfl) 120 rfl (by decide)).trans q5
                have e107 : ev (.tmp 107) = .int .u64 (c2 : Int) := by rw [← hev]; exact (eval_put (by kernel_rfl) 120 rfl (by decide)).trans q9
                clear hev hd q5 q9
                have hh := HXR ()
                exact .inl ⟨_, W, by go_simp, rfl, Below.refl _ _⟩
              · obtain rfl := Option.some.inj hoo
                have q0 : uu 0 = .pointer (some ⟨g, 0, none⟩) := hd 0 (by kernel_rfl)
                refine .inl ⟨wanted_none rfl, ?_⟩
                generalize hev : Act.eval _ = ev
                have ec : ∀ c, ev (.const c) = c := fun c => by rw [← hev]; rfl
                have e98 : ev (.tmp 98) = .pointer (some ⟨g, 0, none⟩) := by rw [← hev]; exact (eval_put (by kernel_rfl) 120 rfl (by decide)).trans q0
                clear hev hd q0
                exact .inl ⟨_, W, by go_simp, rfl, Below.refl _ _⟩
              · obtain rfl := Option.some.inj hoo
                have q11 : uu 11 = .pointer (some ⟨g, 0, none⟩) := hd 11 (by kernel_rfl)
                refine .inl ⟨wanted_none rfl, ?_⟩
                generalize hev : Act.eval _ = ev
                have ec : ∀ c, ev (.const c) = c := fun c => by rw [← hev]; rfl
                have e109 : ev (.tmp 109) = .pointer (some ⟨g, 0, none⟩) := by rw [← hev]; exact (eval_put (by kernel_rfl) 120 rfl (by decide)).trans q11
                clear hev hd q11
                exact .inl ⟨_, W, by go_simp, rfl, Below.refl _ _⟩
              · omega
            · intro oo uu W hoo hVW hall
              obtain rfl := Option.some.inj hoo
              have q12 : uu 12 = .pointer (some ⟨g, 1, none⟩) := hall 12 (by decide)
              have q10 : uu 10 = .int .u64 (b2 : Int) := hall 10 (by decide)
              refine ⟨wanted_none rfl, ?_⟩
              generalize hev : Act.eval _ = ev
              have ec : ∀ c, ev (.const c) = c := fun c => by rw [← hev]; rfl
              have e110 : ev (.tmp 110) = .pointer (some ⟨g, 1, none⟩) := by rw [← hev]; exact (eval_put (by kernel_rfl) 120 rfl (by decide)).trans q12
              have e108 : ev (.tmp 108) = .int .u64 (b2 : Int) := by rw [← hev]; exact (eval_put (by kernel_rfl) 120 rfl (by decide)).trans q10
              clear hev hall
              obtain ⟨z0, z1, z2, z3, y0, y1, y2, y3⟩ := (K.next hVW).get4
              refine ⟨_, by (go_simp <;> rfl), ?_⟩
              replace hB := (hB.trans (hVW.mono (Nat.le_trans hBg (Nat.le_of_lt K.lt)))).setCell (p := ⟨g, 1, none⟩) hBg (.int .u64 (b2 : Int))
              replace K := (K.next hVW).set 1 (.int .u64 (b2 : Int))
              replace hb2 := Lib.hid hb2
              replace hrb2 := Lib.hid hrb2
              clear HCC hr HXR hVW hoo
              simp only [putAll, Act.put, Nat.reduceAdd]
              simp only [List.setIfInBounds_toArray, List.set_cons_succ, List.set_cons_zero]
              generalize W.setCell ⟨g, 1, none⟩ (.int .u64 (b2 : Int)) = V9 at *
              obtain ⟨z0, z1, z2, z3, y0, y1, y2, y3⟩ := K.get4
              obtain ⟨c3, hc3⟩ : ∃ c3, rolN c2 32 = c3 := ⟨_, rfl⟩
              have lc3 := rolN_lt c2 lc2 32
              have hr := fun W => rot32 c2 lc2 W
              rw [hc3] at lc3
              simp only [hc3] at hr
              go_wp2_with fail
              refine (hr _).mono ?_
              rintro e wz ⟨rfl, rfl⟩
              go_wp2_with fail
              replace K := K.set 2 (.int .u64 (c3 : Int))
              replace hB := hB.setCell (p := ⟨g, 2, none⟩) hBg (.int .u64 (c3 : Int))
              replace hc3 := Lib.hid hc3
              clear z0 z1 z2 z3 y0 y1 y2 y3 hr
              generalize V9.setCell ⟨g, 2, none⟩ (.int .u64 (c3 : Int)) = V10 at *
              go_wp2_with fail
              go_roundw
              case rel =>
                refine ⟨j + 1, by omega, by go_num, ?_, hB⟩
                rw [HST.out]
                have e : rnd (a, b, c, d) = (a3, b2, c3, d2) := by
                  simp only [rnd, ha1.out, hrb1.out, hb1.out, ha2.out, hc1.out, hrd1.out, hd1.out, ha3.out, hrd2.out, hd2.out, hc2.out, hrb2.out, hb2.out, hc3.out]
                rw [e]
                exact Lib.hid K
              case measure => simp [intOf]; omega
    · have : j = n := by omega
      subst this
      go_wp2_with fail
      simp [bodyPost, results, Tryd.results61, go_sem]
      exact ⟨HK.out, hB⟩
end Go.Proofs.YteodjajjlgekcaaDoor
