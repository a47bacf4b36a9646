/- The walk of SipSums. -/
import Derived.Test.YtiokofpmmlbncabSip7
namespace Go.Proofs.Ytiokofpmmlbncab
open Go.RowKit

set_option maxHeartbeats 4000000 in
theorem SipSums_0 (lo hi : Nat) (h1 : lo < 18446744073709551616) (h2 : hi < 18446744073709551616) (a1 : Option Addr) (len1 cap1 : Nat) (xs : List UInt8) (hxl : xs.length ≤ 1000000) (w : World) (ha : Rd bv w w.heap.size a1 cap1 xs) (HFa : ∀ W, Hid (Calls Try.prog 14 #[.slice a1 len1 cap1, .int .i64 300] W fun e w' => e = .returned (.slice a1 xs.length cap1) ∧ W = w'))
    (a2 : Int) (hn : a2 < 1) :
    Calls Try.prog 11 #[.agg #[.int .u64 (lo : Int), .int .u64 (hi : Int)], .slice a1 len1 cap1, .int .i64 a2] w fun e w' => e = .returned (.bool true) ∧ Below w.heap.size w w' := by
  have P1 := fun W (h : Rd bv W W.heap.size a1 cap1 xs) => Lib.hid (sum_sip lo hi h1 h2 a1 cap1 xs W h hxl)
  have P2 := fun W (h : Rd bv W W.heap.size a1 cap1 xs) => Lib.hid (rsum_sip lo hi h1 h2 a1 cap1 xs W h hxl)
  have P3 := fun W (_ : Rd bv W W.heap.size a1 cap1 xs) => Lib.hid (sip_under_0 lo hi h1 h2 a1 cap1 xs a2 hn W)
  have P4 := fun W (_ : Rd bv W W.heap.size a1 cap1 xs) => Lib.hid (linkboyref13_under_0 lo hi h1 h2 a1 cap1 xs a2 hn W)
  generalize sipN lo hi xs = S at *
  clear hxl
  have hB := bnextA (Below.refl w.heap.size w) (.cells #[.int .u64 (lo : Int), .int .u64 (hi : Int)] 81)
  have K := Blk.new w #[.int .u64 (lo : Int), .int .u64 (hi : Int)] 81
  obtain ⟨z0, z1, -⟩ := K.get2
  replace ha := ha.nextA (.cells #[.int .u64 (lo : Int), .int .u64 (hi : Int)] 81)
  go_enter Try.func11, Try.ntmps11
  go_wp2_with fail
  refine (HFa _).out.mono ?_
  rintro e wz ⟨rfl, rfl⟩
  go_wp2_with fail
  refine (P3 _ ha).out.mono ?_
  rintro e V ⟨rfl, hb⟩
  replace hB := bnext hB hb
  replace ha := ha.next hb
  have K2 := K.next hb
  have HS : ∀ W, Below V.heap.size V W → (W.cell? ⟨w.heap.size, 0, none⟩ = some (.int .u64 (lo : Int)) ∧ W.cell? ⟨w.heap.size, 1, none⟩ = some (.int .u64 (hi : Int))) := by
    intro W h
    obtain ⟨p0, p1, -⟩ := (K2.next h).get2
    exact ⟨p0, p1⟩
  clear hb K K2 z0 z1 P3 HFa
  go_wp2_with fail
  refine region_put (by kernel_rfl) (by kernel_rfl) (by kernel_rfl) 45 rfl (by kernel_rfl) V (fun i v W => match i with
      | 0 => v = .agg #[.int .u64 (lo : Int), .int .u64 (hi : Int)]
      | 1 => v = .slice a1 xs.length cap1
      | 2 => v = .int .u64 (S : Int)
      | 3 => v = .agg #[.int .u64 (lo : Int), .int .u64 (hi : Int)]
      | 4 => v = .slice a1 xs.length cap1
      | 5 => v = .int .u64 (S : Int)
      | 6 => v = .bool true
      | 7 => v = .bool true
      | 8 => v = .int .i64 0
      | 9 => v = .agg #[.int .u64 (lo : Int), .int .u64 (hi : Int)]
      | 10 => v = .slice a1 xs.length cap1
      | 11 => v = .int .i64 a2
      | 12 => v = .int .i64 0
      | 13 => v = .bool true
      | 14 => v = .bool true
      | 15 => v = .bool true
      | 16 => v = .int .i64 a2
      | 17 => v = .bool true
      | 18 => v = .bool true
      | 19 => v = undef
      | 20 => v = undef
      | 21 => v = undef
      | 22 => v = undef
      | 23 => v = undef
      | 24 => v = undef
      | 25 => v = undef
      | 26 => v = .bool true
      | 27 => v = .bool true
      | 28 => v = .bool true
      | 29 => v = .bool true
      | 30 => v = .bool true
      | 31 => v = .bool true
      | _ => True) (Below.refl _ _) ?_ ?_ ?_
  · intro i v W W' h hb
    match i, h with
    | 0, h => exact h
    | 1, h => exact h
    | 2, h => exact h
    | 3, h => exact h
    | 4, h => exact h
    | 5, h => exact h
    | 6, h => exact h
    | 7, h => exact h
    | 8, h => exact h
    | 9, h => exact h
    | 10, h => exact h
    | 11, h => exact h
    | 12, h => exact h
    | 13, h => exact h
    | 14, h => exact h
    | 15, h => exact h
    | 16, h => exact h
    | 17, h => exact h
    | 18, h => exact h
    | 19, h => exact h
    | 20, h => exact h
    | 21, h => exact h
    | 22, h => exact h
    | 23, h => exact h
    | 24, h => exact h
    | 25, h => exact h
    | 26, h => exact h
    | 27, h => exact h
    | 28, h => exact h
    | 29, h => exact h
    | 30, h => exact h
    | 31, h => exact h
    | _ + 32, _ => trivial
  · intro i o uu W hoo hVW hd
    rcases i with _|_|_|_|_|_|_|_|_|_|_|_|_|_|_|_|_|_|_|_|_|_|_|_|_|_|_|_|_|_|_|_|i
    · obtain rfl := Option.some.inj hoo
      refine .inl ⟨wanted_none rfl, ?_⟩
      generalize hev : Act.eval _ = ev
      have ec : ∀ c, ev (.const c) = c := fun c => by rw [← hev]; rfl
      have e3 : ev (.tmp 3) = .pointer (some ⟨w.heap.size, 0, none⟩) := by rw [← hev]; exact eval_old (by kernel_rfl) 45 rfl (by decide) rfl
      clear hev hd
      obtain ⟨cc0, cc1⟩ := HS W hVW
      exact .inl ⟨_, W, by go_simp, rfl, Below.refl _ _⟩
    · obtain rfl := Option.some.inj hoo
      refine .inl ⟨wanted_none rfl, ?_⟩
      generalize hev : Act.eval _ = ev
      have ec : ∀ c, ev (.const c) = c := fun c => by rw [← hev]; rfl
      have e1 : ev (.tmp 1) = .slice a1 xs.length cap1 := by rw [← hev]; exact eval_old (by kernel_rfl) 45 rfl (by decide) rfl
      clear hev hd
      exact .inl ⟨_, W, by go_simp, rfl, Below.refl _ _⟩
    · obtain rfl := Option.some.inj hoo
      have q0 : uu 0 = .agg #[.int .u64 (lo : Int), .int .u64 (hi : Int)] := hd 0 (by kernel_rfl)
      have q1 : uu 1 = .slice a1 xs.length cap1 := hd 1 (by kernel_rfl)
      refine .inl ⟨wanted_none rfl, ?_⟩
      generalize hev : Act.eval _ = ev
      have ec : ∀ c, ev (.const c) = c := fun c => by rw [← hev]; rfl
      have ef : ∀ f, ev (.func f) = .func (.func f) #[] #[] := fun f => by rw [← hev]; rfl
      have e14 : ev (.tmp 14) = .agg #[.int .u64 (lo : Int), .int .u64 (hi : Int)] := by rw [← hev]; exact (eval_put (by kernel_rfl) 45 rfl (by decide)).trans q0
      have e15 : ev (.tmp 15) = .slice a1 xs.length cap1 := by rw [← hev]; exact (eval_put (by kernel_rfl) 45 rfl (by decide)).trans q1
      clear hev hd q0 q1
      exact .inr ⟨_, _, _, by go_simp, (P1 W (ha.next hVW)).out, fun e w' he => ⟨_, he.1, rfl, he.2⟩⟩
    · obtain rfl := Option.some.inj hoo
      refine .inl ⟨wanted_none rfl, ?_⟩
      generalize hev : Act.eval _ = ev
      have ec : ∀ c, ev (.const c) = c := fun c => by rw [← hev]; rfl
      have e3 : ev (.tmp 3) = .pointer (some ⟨w.heap.size, 0, none⟩) := by rw [← hev]; exact eval_old (by kernel_rfl) 45 rfl (by decide) rfl
      clear hev hd
      obtain ⟨cc0, cc1⟩ := HS W hVW
      exact .inl ⟨_, W, by go_simp, rfl, Below.refl _ _⟩
    · obtain rfl := Option.some.inj hoo
      refine .inl ⟨wanted_none rfl, ?_⟩
      generalize hev : Act.eval _ = ev
      have ec : ∀ c, ev (.const c) = c := fun c => by rw [← hev]; rfl
      have e1 : ev (.tmp 1) = .slice a1 xs.length cap1 := by rw [← hev]; exact eval_old (by kernel_rfl) 45 rfl (by decide) rfl
      clear hev hd
      exact .inl ⟨_, W, by go_simp, rfl, Below.refl _ _⟩
    · obtain rfl := Option.some.inj hoo
      have q3 : uu 3 = .agg #[.int .u64 (lo : Int), .int .u64 (hi : Int)] := hd 3 (by kernel_rfl)
      have q4 : uu 4 = .slice a1 xs.length cap1 := hd 4 (by kernel_rfl)
      refine .inl ⟨wanted_none rfl, ?_⟩
      generalize hev : Act.eval _ = ev
      have ec : ∀ c, ev (.const c) = c := fun c => by rw [← hev]; rfl
      have ef : ∀ f, ev (.func f) = .func (.func f) #[] #[] := fun f => by rw [← hev]; rfl
      have e17 : ev (.tmp 17) = .agg #[.int .u64 (lo : Int), .int .u64 (hi : Int)] := by rw [← hev]; exact (eval_put (by kernel_rfl) 45 rfl (by decide)).trans q3
      have e18 : ev (.tmp 18) = .slice a1 xs.length cap1 := by rw [← hev]; exact (eval_put (by kernel_rfl) 45 rfl (by decide)).trans q4
      clear hev hd q3 q4
      exact .inr ⟨_, _, _, by go_simp, (P2 W (ha.next hVW)).out, fun e w' he => ⟨_, he.1, rfl, he.2⟩⟩
    · obtain rfl := Option.some.inj hoo
      have q2 : uu 2 = .int .u64 (S : Int) := hd 2 (by kernel_rfl)
      have q5 : uu 5 = .int .u64 (S : Int) := hd 5 (by kernel_rfl)
      refine .inl ⟨wanted_none rfl, ?_⟩
      generalize hev : Act.eval _ = ev
      have ec : ∀ c, ev (.const c) = c := fun c => by rw [← hev]; rfl
      have e16 : ev (.tmp 16) = .int .u64 (S : Int) := by rw [← hev]; exact (eval_put (by kernel_rfl) 45 rfl (by decide)).trans q2
      have e19 : ev (.tmp 19) = .int .u64 (S : Int) := by rw [← hev]; exact (eval_put (by kernel_rfl) 45 rfl (by decide)).trans q5
      clear hev hd q2 q5
      exact .inl ⟨_, W, by go_simp, rfl, Below.refl _ _⟩
    · obtain rfl := Option.some.inj hoo
      have q6 : uu 6 = .bool true := hd 6 (by kernel_rfl)
      refine .inl ⟨wanted_none rfl, ?_⟩
      generalize hev : Act.eval _ = ev
      have ec : ∀ c, ev (.const c) = c := fun c => by rw [← hev]; rfl
      have e20 : ev (.tmp 20) = .bool true := by rw [← hev]; exact (eval_put (by kernel_rfl) 45 rfl (by decide)).trans q6
      clear hev hd q6
      exact .inl ⟨_, W, by go_simp, rfl, Below.refl _ _⟩
    · obtain rfl := Option.some.inj hoo
      have q7 : uu 7 = .bool true := hd 7 (by kernel_rfl)
      refine .inl ⟨wanted_yes rfl (yielded_put (k := 21) (by kernel_rfl) (by kernel_rfl) 45 rfl (by decide) q7), ?_⟩
      generalize hev : Act.eval _ = ev
      have ec : ∀ c, ev (.const c) = c := fun c => by rw [← hev]; rfl
      have e7 : ev (.tmp 7) = .int .i64 0 := by rw [← hev]; exact eval_old (by kernel_rfl) 45 rfl (by decide) rfl
      clear hev hd q7
      exact .inl ⟨_, W, by go_simp, rfl, Below.refl _ _⟩
    · obtain rfl := Option.some.inj hoo
      have q7 : uu 7 = .bool true := hd 7 (by kernel_rfl)
      refine .inl ⟨wanted_yes rfl (yielded_put (k := 21) (by kernel_rfl) (by kernel_rfl) 45 rfl (by decide) q7), ?_⟩
      generalize hev : Act.eval _ = ev
      have ec : ∀ c, ev (.const c) = c := fun c => by rw [← hev]; rfl
      have e3 : ev (.tmp 3) = .pointer (some ⟨w.heap.size, 0, none⟩) := by rw [← hev]; exact eval_old (by kernel_rfl) 45 rfl (by decide) rfl
      clear hev hd q7
      obtain ⟨cc0, cc1⟩ := HS W hVW
      exact .inl ⟨_, W, by go_simp, rfl, Below.refl _ _⟩
    · obtain rfl := Option.some.inj hoo
      have q7 : uu 7 = .bool true := hd 7 (by kernel_rfl)
      refine .inl ⟨wanted_yes rfl (yielded_put (k := 21) (by kernel_rfl) (by kernel_rfl) 45 rfl (by decide) q7), ?_⟩
      generalize hev : Act.eval _ = ev
      have ec : ∀ c, ev (.const c) = c := fun c => by rw [← hev]; rfl
      have e1 : ev (.tmp 1) = .slice a1 xs.length cap1 := by rw [← hev]; exact eval_old (by kernel_rfl) 45 rfl (by decide) rfl
      clear hev hd q7
      exact .inl ⟨_, W, by go_simp, rfl, Below.refl _ _⟩
    · obtain rfl := Option.some.inj hoo
      have q7 : uu 7 = .bool true := hd 7 (by kernel_rfl)
      refine .inl ⟨wanted_yes rfl (yielded_put (k := 21) (by kernel_rfl) (by kernel_rfl) 45 rfl (by decide) q7), ?_⟩
      generalize hev : Act.eval _ = ev
      have ec : ∀ c, ev (.const c) = c := fun c => by rw [← hev]; rfl
      have e2 : ev (.tmp 2) = .int .i64 a2 := by rw [← hev]; exact eval_old (by kernel_rfl) 45 rfl (by decide) rfl
      clear hev hd q7
      exact .inl ⟨_, W, by go_simp, rfl, Below.refl _ _⟩
    · obtain rfl := Option.some.inj hoo
      have q9 : uu 9 = .agg #[.int .u64 (lo : Int), .int .u64 (hi : Int)] := hd 9 (by kernel_rfl)
      have q10 : uu 10 = .slice a1 xs.length cap1 := hd 10 (by kernel_rfl)
      have q11 : uu 11 = .int .i64 a2 := hd 11 (by kernel_rfl)
      have q7 : uu 7 = .bool true := hd 7 (by kernel_rfl)
      refine .inl ⟨wanted_yes rfl (yielded_put (k := 21) (by kernel_rfl) (by kernel_rfl) 45 rfl (by decide) q7), ?_⟩
      generalize hev : Act.eval _ = ev
      have ec : ∀ c, ev (.const c) = c := fun c => by rw [← hev]; rfl
      have ef : ∀ f, ev (.func f) = .func (.func f) #[] #[] := fun f => by rw [← hev]; rfl
      have e23 : ev (.tmp 23) = .agg #[.int .u64 (lo : Int), .int .u64 (hi : Int)] := by rw [← hev]; exact (eval_put (by kernel_rfl) 45 rfl (by decide)).trans q9
      have e24 : ev (.tmp 24) = .slice a1 xs.length cap1 := by rw [← hev]; exact (eval_put (by kernel_rfl) 45 rfl (by decide)).trans q10
      have e25 : ev (.tmp 25) = .int .i64 a2 := by rw [← hev]; exact (eval_put (by kernel_rfl) 45 rfl (by decide)).trans q11
      clear hev hd q9 q10 q11 q7
      exact .inr ⟨_, _, _, by go_simp, (P4 W (ha.next hVW)).out, fun e w' he => ⟨_, he.1, rfl, he.2⟩⟩
    · obtain rfl := Option.some.inj hoo
      have q8 : uu 8 = .int .i64 0 := hd 8 (by kernel_rfl)
      have q12 : uu 12 = .int .i64 0 := hd 12 (by kernel_rfl)
      have q7 : uu 7 = .bool true := hd 7 (by kernel_rfl)
      refine .inl ⟨wanted_yes rfl (yielded_put (k := 21) (by kernel_rfl) (by kernel_rfl) 45 rfl (by decide) q7), ?_⟩
      generalize hev : Act.eval _ = ev
      have ec : ∀ c, ev (.const c) = c := fun c => by rw [← hev]; rfl
      have e22 : ev (.tmp 22) = .int .i64 0 := by rw [← hev]; exact (eval_put (by kernel_rfl) 45 rfl (by decide)).trans q8
      have e26 : ev (.tmp 26) = .int .i64 0 := by rw [← hev]; exact (eval_put (by kernel_rfl) 45 rfl (by decide)).trans q12
      clear hev hd q8 q12 q7
      exact .inl ⟨_, W, by go_simp, rfl, Below.refl _ _⟩
    · obtain rfl := Option.some.inj hoo
      have q7 : uu 7 = .bool true := hd 7 (by kernel_rfl)
      have q13 : uu 13 = .bool true := hd 13 (by kernel_rfl)
      refine .inl ⟨wanted_none rfl, ?_⟩
      generalize hev : Act.eval _ = ev
      have ec : ∀ c, ev (.const c) = c := fun c => by rw [← hev]; rfl
      have e21 : ev (.tmp 21) = .bool true := by rw [← hev]; exact (eval_put (by kernel_rfl) 45 rfl (by decide)).trans q7
      have e27 : ev (.tmp 27) = .bool true := by rw [← hev]; exact (eval_put (by kernel_rfl) 45 rfl (by decide)).trans q13
      clear hev hd q7 q13
      exact .inl ⟨_, W, by go_simp, rfl, Below.refl _ _⟩
    · obtain rfl := Option.some.inj hoo
      have q14 : uu 14 = .bool true := hd 14 (by kernel_rfl)
      refine .inl ⟨wanted_none rfl, ?_⟩
      generalize hev : Act.eval _ = ev
      have ec : ∀ c, ev (.const c) = c := fun c => by rw [← hev]; rfl
      have e28 : ev (.tmp 28) = .bool true := by rw [← hev]; exact (eval_put (by kernel_rfl) 45 rfl (by decide)).trans q14
      clear hev hd q14
      exact .inl ⟨_, W, by go_simp, rfl, Below.refl _ _⟩
    · obtain rfl := Option.some.inj hoo
      have q15 : uu 15 = .bool true := hd 15 (by kernel_rfl)
      refine .inl ⟨wanted_yes rfl (yielded_put (k := 29) (by kernel_rfl) (by kernel_rfl) 45 rfl (by decide) q15), ?_⟩
      generalize hev : Act.eval _ = ev
      have ec : ∀ c, ev (.const c) = c := fun c => by rw [← hev]; rfl
      have e2 : ev (.tmp 2) = .int .i64 a2 := by rw [← hev]; exact eval_old (by kernel_rfl) 45 rfl (by decide) rfl
      clear hev hd q15
      exact .inl ⟨_, W, by go_simp, rfl, Below.refl _ _⟩
    · obtain rfl := Option.some.inj hoo
      have q16 : uu 16 = .int .i64 a2 := hd 16 (by kernel_rfl)
      have q15 : uu 15 = .bool true := hd 15 (by kernel_rfl)
      refine .inl ⟨wanted_yes rfl (yielded_put (k := 29) (by kernel_rfl) (by kernel_rfl) 45 rfl (by decide) q15), ?_⟩
      generalize hev : Act.eval _ = ev
      have ec : ∀ c, ev (.const c) = c := fun c => by rw [← hev]; rfl
      have e30 : ev (.tmp 30) = .int .i64 a2 := by rw [← hev]; exact (eval_put (by kernel_rfl) 45 rfl (by decide)).trans q16
      clear hev hd q16 q15
      exact .inl ⟨_, W, by go_simp, rfl, Below.refl _ _⟩
    · obtain rfl := Option.some.inj hoo
      have q17 : uu 17 = .bool true := hd 17 (by kernel_rfl)
      have q15 : uu 15 = .bool true := hd 15 (by kernel_rfl)
      refine .inl ⟨wanted_yes rfl (yielded_put (k := 29) (by kernel_rfl) (by kernel_rfl) 45 rfl (by decide) q15), ?_⟩
      generalize hev : Act.eval _ = ev
      have ec : ∀ c, ev (.const c) = c := fun c => by rw [← hev]; rfl
      have e31 : ev (.tmp 31) = .bool true := by rw [← hev]; exact (eval_put (by kernel_rfl) 45 rfl (by decide)).trans q17
      clear hev hd q17 q15
      exact .inl ⟨_, W, by go_simp, rfl, Below.refl _ _⟩
    · obtain rfl := Option.some.inj hoo
      have q18 : uu 18 = .bool true := hd 18 (by kernel_rfl)
      exact .inr ⟨wanted_no rfl (yielded_put (k := 32) (by kernel_rfl) (by kernel_rfl) 45 rfl (by decide) q18), rfl⟩
    · obtain rfl := Option.some.inj hoo
      have q18 : uu 18 = .bool true := hd 18 (by kernel_rfl)
      exact .inr ⟨wanted_no rfl (yielded_put (k := 32) (by kernel_rfl) (by kernel_rfl) 45 rfl (by decide) q18), rfl⟩
    · obtain rfl := Option.some.inj hoo
      have q18 : uu 18 = .bool true := hd 18 (by kernel_rfl)
      exact .inr ⟨wanted_no rfl (yielded_put (k := 32) (by kernel_rfl) (by kernel_rfl) 45 rfl (by decide) q18), rfl⟩
    · obtain rfl := Option.some.inj hoo
      have q21 : uu 21 = undef := hd 21 (by kernel_rfl)
      exact .inr ⟨wanted_un rfl (yielded_un (k := 35) (by kernel_rfl) (by kernel_rfl) 45 rfl (by decide) q21), rfl⟩
    · obtain rfl := Option.some.inj hoo
      have q21 : uu 21 = undef := hd 21 (by kernel_rfl)
      exact .inr ⟨wanted_un rfl (yielded_un (k := 35) (by kernel_rfl) (by kernel_rfl) 45 rfl (by decide) q21), rfl⟩
    · obtain rfl := Option.some.inj hoo
      have q21 : uu 21 = undef := hd 21 (by kernel_rfl)
      exact .inr ⟨wanted_un rfl (yielded_un (k := 35) (by kernel_rfl) (by kernel_rfl) 45 rfl (by decide) q21), rfl⟩
    · obtain rfl := Option.some.inj hoo
      have q18 : uu 18 = .bool true := hd 18 (by kernel_rfl)
      exact .inr ⟨wanted_no rfl (yielded_put (k := 32) (by kernel_rfl) (by kernel_rfl) 45 rfl (by decide) q18), rfl⟩
    · obtain rfl := Option.some.inj hoo
      have q18 : uu 18 = .bool true := hd 18 (by kernel_rfl)
      have q15 : uu 15 = .bool true := hd 15 (by kernel_rfl)
      refine .inl ⟨wanted_yes rfl (yielded_put (k := 29) (by kernel_rfl) (by kernel_rfl) 45 rfl (by decide) q15), ?_⟩
      generalize hev : Act.eval _ = ev
      have ec : ∀ c, ev (.const c) = c := fun c => by rw [← hev]; rfl
      have e32 : ev (.tmp 32) = .bool true := by rw [← hev]; exact (eval_put (by kernel_rfl) 45 rfl (by decide)).trans q18
      clear hev hd q18 q15
      exact .inl ⟨_, W, by go_simp, rfl, Below.refl _ _⟩
    · obtain rfl := Option.some.inj hoo
      have q15 : uu 15 = .bool true := hd 15 (by kernel_rfl)
      have q26 : uu 26 = .bool true := hd 26 (by kernel_rfl)
      refine .inl ⟨wanted_none rfl, ?_⟩
      generalize hev : Act.eval _ = ev
      have ec : ∀ c, ev (.const c) = c := fun c => by rw [← hev]; rfl
      have e29 : ev (.tmp 29) = .bool true := by rw [← hev]; exact (eval_put (by kernel_rfl) 45 rfl (by decide)).trans q15
      have e40 : ev (.tmp 40) = .bool true := by rw [← hev]; exact (eval_put (by kernel_rfl) 45 rfl (by decide)).trans q26
      clear hev hd q15 q26
      exact .inl ⟨_, W, by go_simp, rfl, Below.refl _ _⟩
    · obtain rfl := Option.some.inj hoo
      have q27 : uu 27 = .bool true := hd 27 (by kernel_rfl)
      refine .inl ⟨wanted_none rfl, ?_⟩
      generalize hev : Act.eval _ = ev
      have ec : ∀ c, ev (.const c) = c := fun c => by rw [← hev]; rfl
      have e41 : ev (.tmp 41) = .bool true := by rw [← hev]; exact (eval_put (by kernel_rfl) 45 rfl (by decide)).trans q27
      clear hev hd q27
      exact .inl ⟨_, W, by go_simp, rfl, Below.refl _ _⟩
    · obtain rfl := Option.some.inj hoo
      have q28 : uu 28 = .bool true := hd 28 (by kernel_rfl)
      refine .inl ⟨wanted_yes rfl (yielded_put (k := 42) (by kernel_rfl) (by kernel_rfl) 45 rfl (by decide) q28), ?_⟩
      generalize hev : Act.eval _ = ev
      have ec : ∀ c, ev (.const c) = c := fun c => by rw [← hev]; rfl
      have ef : ∀ f, ev (.func f) = .func (.func f) #[] #[] := fun f => by rw [← hev]; rfl
      clear hev hd q28
      exact .inr ⟨_, _, _, by go_simp, lives13_any W, fun e w' he => ⟨_, he.1, rfl, he.2⟩⟩
    · obtain rfl := Option.some.inj hoo
      have q28 : uu 28 = .bool true := hd 28 (by kernel_rfl)
      have q29 : uu 29 = .bool true := hd 29 (by kernel_rfl)
      refine .inl ⟨wanted_none rfl, ?_⟩
      generalize hev : Act.eval _ = ev
      have ec : ∀ c, ev (.const c) = c := fun c => by rw [← hev]; rfl
      have e42 : ev (.tmp 42) = .bool true := by rw [← hev]; exact (eval_put (by kernel_rfl) 45 rfl (by decide)).trans q28
      have e43 : ev (.tmp 43) = .bool true := by rw [← hev]; exact (eval_put (by kernel_rfl) 45 rfl (by decide)).trans q29
      clear hev hd q28 q29
      exact .inl ⟨_, W, by go_simp, rfl, Below.refl _ _⟩
    · obtain rfl := Option.some.inj hoo
      have q30 : uu 30 = .bool true := hd 30 (by kernel_rfl)
      refine .inl ⟨wanted_none rfl, ?_⟩
      generalize hev : Act.eval _ = ev
      have ec : ∀ c, ev (.const c) = c := fun c => by rw [← hev]; rfl
      have e44 : ev (.tmp 44) = .bool true := by rw [← hev]; exact (eval_put (by kernel_rfl) 45 rfl (by decide)).trans q30
      clear hev hd q30
      exact .inl ⟨_, W, by go_simp, rfl, Below.refl _ _⟩
    · simp at hoo
  · intro uu W hVW hall
    have q31 : uu 31 = .bool true := hall 31 (by decide)
    replace hB := hB.trans (hVW.mono hB.size)
    clear hall HS hVW
    simp only [putAll, Act.put, Nat.reduceAdd, q31]
    simp only [List.setIfInBounds_toArray, List.set_cons_succ, List.set_cons_zero]
    go_wp2_with fail
    go_ret
    exact ⟨rfl, hB⟩

set_option maxHeartbeats 4000000 in
theorem SipSums_1 (lo hi : Nat) (h1 : lo < 18446744073709551616) (h2 : hi < 18446744073709551616) (a1 : Option Addr) (len1 cap1 : Nat) (xs : List UInt8) (hxl : xs.length ≤ 1000000) (w : World) (ha : Rd bv w w.heap.size a1 cap1 xs) (HFa : ∀ W, Hid (Calls Try.prog 14 #[.slice a1 len1 cap1, .int .i64 300] W fun e w' => e = .returned (.slice a1 xs.length cap1) ∧ W = w'))
    (n : Nat) (hn : 1 ≤ n) (hm : n ≤ 9223372036854775807) :
    Calls Try.prog 11 #[.agg #[.int .u64 (lo : Int), .int .u64 (hi : Int)], .slice a1 len1 cap1, .int .i64 (n : Int)] w fun e w' => e = .returned (.bool true) ∧ Below w.heap.size w w' := by
  have P1 := fun W (h : Rd bv W W.heap.size a1 cap1 xs) => Lib.hid (sum_sip lo hi h1 h2 a1 cap1 xs W h hxl)
  have P2 := fun W (h : Rd bv W W.heap.size a1 cap1 xs) => Lib.hid (rsum_sip lo hi h1 h2 a1 cap1 xs W h hxl)
  obtain ⟨r, hr⟩ : ∃ r, sipN lo hi xs % n = r := ⟨_, rfl⟩
  have hrn : (r : Int) < (n : Int) := by have := Nat.mod_lt (sipN lo hi xs) (show 0 < n by omega); omega
  have hn1 : ¬ (n : Int) < 1 := by omega
  have P3 := fun W (h : Rd bv W W.heap.size a1 cap1 xs) => Lib.hid (sip_under_1 lo hi h1 h2 a1 cap1 xs n r hn hm (Lib.hid hr) W h hxl)
  have P4 := fun W (h : Rd bv W W.heap.size a1 cap1 xs) => Lib.hid (linkboyref13_under_1 lo hi h1 h2 a1 cap1 xs n r hn hm (Lib.hid hr) W h hxl)
  clear hr hn
  generalize sipN lo hi xs = S at *
  clear hxl
  have hB := bnextA (Below.refl w.heap.size w) (.cells #[.int .u64 (lo : Int), .int .u64 (hi : Int)] 81)
  have K := Blk.new w #[.int .u64 (lo : Int), .int .u64 (hi : Int)] 81
  obtain ⟨z0, z1, -⟩ := K.get2
  replace ha := ha.nextA (.cells #[.int .u64 (lo : Int), .int .u64 (hi : Int)] 81)
  go_enter Try.func11, Try.ntmps11
  go_wp2_with fail
  refine (HFa _).out.mono ?_
  rintro e wz ⟨rfl, rfl⟩
  go_wp2_with fail
  refine (P3 _ ha).out.mono ?_
  rintro e V ⟨rfl, hb⟩
  replace hB := bnext hB hb
  replace ha := ha.next hb
  have K2 := K.next hb
  have HS : ∀ W, Below V.heap.size V W → (W.cell? ⟨w.heap.size, 0, none⟩ = some (.int .u64 (lo : Int)) ∧ W.cell? ⟨w.heap.size, 1, none⟩ = some (.int .u64 (hi : Int))) := by
    intro W h
    obtain ⟨p0, p1, -⟩ := (K2.next h).get2
    exact ⟨p0, p1⟩
  clear hb K K2 z0 z1 P3 HFa
  go_wp2_with fail
  refine region_put (by kernel_rfl) (by kernel_rfl) (by kernel_rfl) 45 rfl (by kernel_rfl) V (fun i v W => match i with
      | 0 => v = .agg #[.int .u64 (lo : Int), .int .u64 (hi : Int)]
      | 1 => v = .slice a1 xs.length cap1
      | 2 => v = .int .u64 (S : Int)
      | 3 => v = .agg #[.int .u64 (lo : Int), .int .u64 (hi : Int)]
      | 4 => v = .slice a1 xs.length cap1
      | 5 => v = .int .u64 (S : Int)
      | 6 => v = .bool true
      | 7 => v = .bool true
      | 8 => v = .int .i64 (r : Int)
      | 9 => v = .agg #[.int .u64 (lo : Int), .int .u64 (hi : Int)]
      | 10 => v = .slice a1 xs.length cap1
      | 11 => v = .int .i64 (n : Int)
      | 12 => v = .int .i64 (r : Int)
      | 13 => v = .bool true
      | 14 => v = .bool true
      | 15 => v = .bool true
      | 16 => v = .int .i64 (n : Int)
      | 17 => v = .bool false
      | 18 => v = .bool false
      | 19 => v = .int .i64 (r : Int)
      | 20 => v = .bool true
      | 21 => v = .bool true
      | 22 => v = .int .i64 (r : Int)
      | 23 => v = .int .i64 (n : Int)
      | 24 => v = .bool true
      | 25 => v = .bool true
      | 26 => v = .bool true
      | 27 => v = .bool true
      | 28 => v = .bool true
      | 29 => v = .bool true
      | 30 => v = .bool true
      | 31 => v = .bool true
      | _ => True) (Below.refl _ _) ?_ ?_ ?_
  · intro i v W W' h hb
    match i, h with
    | 0, h => exact h
    | 1, h => exact h
    | 2, h => exact h
    | 3, h => exact h
    | 4, h => exact h
    | 5, h => exact h
    | 6, h => exact h
    | 7, h => exact h
    | 8, h => exact h
    | 9, h => exact h
    | 10, h => exact h
    | 11, h => exact h
    | 12, h => exact h
    | 13, h => exact h
    | 14, h => exact h
    | 15, h => exact h
    | 16, h => exact h
    | 17, h => exact h
    | 18, h => exact h
    | 19, h => exact h
    | 20, h => exact h
    | 21, h => exact h
    | 22, h => exact h
    | 23, h => exact h
    | 24, h => exact h
    | 25, h => exact h
    | 26, h => exact h
    | 27, h => exact h
    | 28, h => exact h
    | 29, h => exact h
    | 30, h => exact h
    | 31, h => exact h
    | _ + 32, _ => trivial
  · intro i o uu W hoo hVW hd
    rcases i with _|_|_|_|_|_|_|_|_|_|_|_|_|_|_|_|_|_|_|_|_|_|_|_|_|_|_|_|_|_|_|_|i
    · obtain rfl := Option.some.inj hoo
      refine .inl ⟨wanted_none rfl, ?_⟩
      generalize hev : Act.eval _ = ev
      have ec : ∀ c, ev (.const c) = c := fun c => by rw [← hev]; rfl
      have e3 : ev (.tmp 3) = .pointer (some ⟨w.heap.size, 0, none⟩) := by rw [← hev]; exact eval_old (by kernel_rfl) 45 rfl (by decide) rfl
      clear hev hd
      obtain ⟨cc0, cc1⟩ := HS W hVW
      exact .inl ⟨_, W, by go_simp, rfl, Below.refl _ _⟩
    · obtain rfl := Option.some.inj hoo
      refine .inl ⟨wanted_none rfl, ?_⟩
      generalize hev : Act.eval _ = ev
      have ec : ∀ c, ev (.const c) = c := fun c => by rw [← hev]; rfl
      have e1 : ev (.tmp 1) = .slice a1 xs.length cap1 := by rw [← hev]; exact eval_old (by kernel_rfl) 45 rfl (by decide) rfl
      clear hev hd
      exact .inl ⟨_, W, by go_simp, rfl, Below.refl _ _⟩
    · obtain rfl := Option.some.inj hoo
      have q0 : uu 0 = .agg #[.int .u64 (lo : Int), .int .u64 (hi : Int)] := hd 0 (by kernel_rfl)
      have q1 : uu 1 = .slice a1 xs.length cap1 := hd 1 (by kernel_rfl)
      refine .inl ⟨wanted_none rfl, ?_⟩
      generalize hev : Act.eval _ = ev
      have ec : ∀ c, ev (.const c) = c := fun c => by rw [← hev]; rfl
      have ef : ∀ f, ev (.func f) = .func (.func f) #[] #[] := fun f => by rw [← hev]; rfl
      have e14 : ev (.tmp 14) = .agg #[.int .u64 (lo : Int), .int .u64 (hi : Int)] := by rw [← hev]; exact (eval_put (by kernel_rfl) 45 rfl (by decide)).trans q0
      have e15 : ev (.tmp 15) = .slice a1 xs.length cap1 := by rw [← hev]; exact (eval_put (by kernel_rfl) 45 rfl (by decide)).trans q1
      clear hev hd q0 q1
      exact .inr ⟨_, _, _, by go_simp, (P1 W (ha.next hVW)).out, fun e w' he => ⟨_, he.1, rfl, he.2⟩⟩
    · obtain rfl := Option.some.inj hoo
      refine .inl ⟨wanted_none rfl, ?_⟩
      generalize hev : Act.eval _ = ev
      have ec : ∀ c, ev (.const c) = c := fun c => by rw [← hev]; rfl
      have e3 : ev (.tmp 3) = .pointer (some ⟨w.heap.size, 0, none⟩) := by rw [← hev]; exact eval_old (by kernel_rfl) 45 rfl (by decide) rfl
      clear hev hd
      obtain ⟨cc0, cc1⟩ := HS W hVW
      exact .inl ⟨_, W, by go_simp, rfl, Below.refl _ _⟩
    · obtain rfl := Option.some.inj hoo
      refine .inl ⟨wanted_none rfl, ?_⟩
      generalize hev : Act.eval _ = ev
      have ec : ∀ c, ev (.const c) = c := fun c => by rw [← hev]; rfl
      have e1 : ev (.tmp 1) = .slice a1 xs.length cap1 := by rw [← hev]; exact eval_old (by kernel_rfl) 45 rfl (by decide) rfl
      clear hev hd
      exact .inl ⟨_, W, by go_simp, rfl, Below.refl _ _⟩
    · obtain rfl := Option.some.inj hoo
      have q3 : uu 3 = .agg #[.int .u64 (lo : Int), .int .u64 (hi : Int)] := hd 3 (by kernel_rfl)
      have q4 : uu 4 = .slice a1 xs.length cap1 := hd 4 (by kernel_rfl)
      refine .inl ⟨wanted_none rfl, ?_⟩
      generalize hev : Act.eval _ = ev
      have ec : ∀ c, ev (.const c) = c := fun c => by rw [← hev]; rfl
      have ef : ∀ f, ev (.func f) = .func (.func f) #[] #[] := fun f => by rw [← hev]; rfl
      have e17 : ev (.tmp 17) = .agg #[.int .u64 (lo : Int), .int .u64 (hi : Int)] := by rw [← hev]; exact (eval_put (by kernel_rfl) 45 rfl (by decide)).trans q3
      have e18 : ev (.tmp 18) = .slice a1 xs.length cap1 := by rw [← hev]; exact (eval_put (by kernel_rfl) 45 rfl (by decide)).trans q4
      clear hev hd q3 q4
      exact .inr ⟨_, _, _, by go_simp, (P2 W (ha.next hVW)).out, fun e w' he => ⟨_, he.1, rfl, he.2⟩⟩
    · obtain rfl := Option.some.inj hoo
      have q2 : uu 2 = .int .u64 (S : Int) := hd 2 (by kernel_rfl)
      have q5 : uu 5 = .int .u64 (S : Int) := hd 5 (by kernel_rfl)
      refine .inl ⟨wanted_none rfl, ?_⟩
      generalize hev : Act.eval _ = ev
      have ec : ∀ c, ev (.const c) = c := fun c => by rw [← hev]; rfl
      have e16 : ev (.tmp 16) = .int .u64 (S : Int) := by rw [← hev]; exact (eval_put (by kernel_rfl) 45 rfl (by decide)).trans q2
      have e19 : ev (.tmp 19) = .int .u64 (S : Int) := by rw [← hev]; exact (eval_put (by kernel_rfl) 45 rfl (by decide)).trans q5
      clear hev hd q2 q5
      exact .inl ⟨_, W, by go_simp, rfl, Below.refl _ _⟩
    · obtain rfl := Option.some.inj hoo
      have q6 : uu 6 = .bool true := hd 6 (by kernel_rfl)
      refine .inl ⟨wanted_none rfl, ?_⟩
      generalize hev : Act.eval _ = ev
      have ec : ∀ c, ev (.const c) = c := fun c => by rw [← hev]; rfl
      have e20 : ev (.tmp 20) = .bool true := by rw [← hev]; exact (eval_put (by kernel_rfl) 45 rfl (by decide)).trans q6
      clear hev hd q6
      exact .inl ⟨_, W, by go_simp, rfl, Below.refl _ _⟩
    · obtain rfl := Option.some.inj hoo
      have q7 : uu 7 = .bool true := hd 7 (by kernel_rfl)
      refine .inl ⟨wanted_yes rfl (yielded_put (k := 21) (by kernel_rfl) (by kernel_rfl) 45 rfl (by decide) q7), ?_⟩
      generalize hev : Act.eval _ = ev
      have ec : ∀ c, ev (.const c) = c := fun c => by rw [← hev]; rfl
      have e7 : ev (.tmp 7) = .int .i64 (r : Int) := by rw [← hev]; exact eval_old (by kernel_rfl) 45 rfl (by decide) rfl
      clear hev hd q7
      exact .inl ⟨_, W, by go_simp, rfl, Below.refl _ _⟩
    · obtain rfl := Option.some.inj hoo
      have q7 : uu 7 = .bool true := hd 7 (by kernel_rfl)
      refine .inl ⟨wanted_yes rfl (yielded_put (k := 21) (by kernel_rfl) (by kernel_rfl) 45 rfl (by decide) q7), ?_⟩
      generalize hev : Act.eval _ = ev
      have ec : ∀ c, ev (.const c) = c := fun c => by rw [← hev]; rfl
      have e3 : ev (.tmp 3) = .pointer (some ⟨w.heap.size, 0, none⟩) := by rw [← hev]; exact eval_old (by kernel_rfl) 45 rfl (by decide) rfl
      clear hev hd q7
      obtain ⟨cc0, cc1⟩ := HS W hVW
      exact .inl ⟨_, W, by go_simp, rfl, Below.refl _ _⟩
    · obtain rfl := Option.some.inj hoo
      have q7 : uu 7 = .bool true := hd 7 (by kernel_rfl)
      refine .inl ⟨wanted_yes rfl (yielded_put (k := 21) (by kernel_rfl) (by kernel_rfl) 45 rfl (by decide) q7), ?_⟩
      generalize hev : Act.eval _ = ev
      have ec : ∀ c, ev (.const c) = c := fun c => by rw [← hev]; rfl
      have e1 : ev (.tmp 1) = .slice a1 xs.length cap1 := by rw [← hev]; exact eval_old (by kernel_rfl) 45 rfl (by decide) rfl
      clear hev hd q7
      exact .inl ⟨_, W, by go_simp, rfl, Below.refl _ _⟩
    · obtain rfl := Option.some.inj hoo
      have q7 : uu 7 = .bool true := hd 7 (by kernel_rfl)
      refine .inl ⟨wanted_yes rfl (yielded_put (k := 21) (by kernel_rfl) (by kernel_rfl) 45 rfl (by decide) q7), ?_⟩
      generalize hev : Act.eval _ = ev
      have ec : ∀ c, ev (.const c) = c := fun c => by rw [← hev]; rfl
      have e2 : ev (.tmp 2) = .int .i64 (n : Int) := by rw [← hev]; exact eval_old (by kernel_rfl) 45 rfl (by decide) rfl
      clear hev hd q7
      exact .inl ⟨_, W, by go_simp, rfl, Below.refl _ _⟩
    · obtain rfl := Option.some.inj hoo
      have q9 : uu 9 = .agg #[.int .u64 (lo : Int), .int .u64 (hi : Int)] := hd 9 (by kernel_rfl)
      have q10 : uu 10 = .slice a1 xs.length cap1 := hd 10 (by kernel_rfl)
      have q11 : uu 11 = .int .i64 (n : Int) := hd 11 (by kernel_rfl)
      have q7 : uu 7 = .bool true := hd 7 (by kernel_rfl)
      refine .inl ⟨wanted_yes rfl (yielded_put (k := 21) (by kernel_rfl) (by kernel_rfl) 45 rfl (by decide) q7), ?_⟩
      generalize hev : Act.eval _ = ev
      have ec : ∀ c, ev (.const c) = c := fun c => by rw [← hev]; rfl
      have ef : ∀ f, ev (.func f) = .func (.func f) #[] #[] := fun f => by rw [← hev]; rfl
      have e23 : ev (.tmp 23) = .agg #[.int .u64 (lo : Int), .int .u64 (hi : Int)] := by rw [← hev]; exact (eval_put (by kernel_rfl) 45 rfl (by decide)).trans q9
      have e24 : ev (.tmp 24) = .slice a1 xs.length cap1 := by rw [← hev]; exact (eval_put (by kernel_rfl) 45 rfl (by decide)).trans q10
      have e25 : ev (.tmp 25) = .int .i64 (n : Int) := by rw [← hev]; exact (eval_put (by kernel_rfl) 45 rfl (by decide)).trans q11
      clear hev hd q9 q10 q11 q7
      exact .inr ⟨_, _, _, by go_simp, (P4 W (ha.next hVW)).out, fun e w' he => ⟨_, he.1, rfl, he.2⟩⟩
    · obtain rfl := Option.some.inj hoo
      have q8 : uu 8 = .int .i64 (r : Int) := hd 8 (by kernel_rfl)
      have q12 : uu 12 = .int .i64 (r : Int) := hd 12 (by kernel_rfl)
      have q7 : uu 7 = .bool true := hd 7 (by kernel_rfl)
      refine .inl ⟨wanted_yes rfl (yielded_put (k := 21) (by kernel_rfl) (by kernel_rfl) 45 rfl (by decide) q7), ?_⟩
      generalize hev : Act.eval _ = ev
      have ec : ∀ c, ev (.const c) = c := fun c => by rw [← hev]; rfl
      have e22 : ev (.tmp 22) = .int .i64 (r : Int) := by rw [← hev]; exact (eval_put (by kernel_rfl) 45 rfl (by decide)).trans q8
      have e26 : ev (.tmp 26) = .int .i64 (r : Int) := by rw [← hev]; exact (eval_put (by kernel_rfl) 45 rfl (by decide)).trans q12
      clear hev hd q8 q12 q7
      exact .inl ⟨_, W, by go_simp, rfl, Below.refl _ _⟩
    · obtain rfl := Option.some.inj hoo
      have q7 : uu 7 = .bool true := hd 7 (by kernel_rfl)
      have q13 : uu 13 = .bool true := hd 13 (by kernel_rfl)
      refine .inl ⟨wanted_none rfl, ?_⟩
      generalize hev : Act.eval _ = ev
      have ec : ∀ c, ev (.const c) = c := fun c => by rw [← hev]; rfl
      have e21 : ev (.tmp 21) = .bool true := by rw [← hev]; exact (eval_put (by kernel_rfl) 45 rfl (by decide)).trans q7
      have e27 : ev (.tmp 27) = .bool true := by rw [← hev]; exact (eval_put (by kernel_rfl) 45 rfl (by decide)).trans q13
      clear hev hd q7 q13
      exact .inl ⟨_, W, by go_simp, rfl, Below.refl _ _⟩
    · obtain rfl := Option.some.inj hoo
      have q14 : uu 14 = .bool true := hd 14 (by kernel_rfl)
      refine .inl ⟨wanted_none rfl, ?_⟩
      generalize hev : Act.eval _ = ev
      have ec : ∀ c, ev (.const c) = c := fun c => by rw [← hev]; rfl
      have e28 : ev (.tmp 28) = .bool true := by rw [← hev]; exact (eval_put (by kernel_rfl) 45 rfl (by decide)).trans q14
      clear hev hd q14
      exact .inl ⟨_, W, by go_simp, rfl, Below.refl _ _⟩
    · obtain rfl := Option.some.inj hoo
      have q15 : uu 15 = .bool true := hd 15 (by kernel_rfl)
      refine .inl ⟨wanted_yes rfl (yielded_put (k := 29) (by kernel_rfl) (by kernel_rfl) 45 rfl (by decide) q15), ?_⟩
      generalize hev : Act.eval _ = ev
      have ec : ∀ c, ev (.const c) = c := fun c => by rw [← hev]; rfl
      have e2 : ev (.tmp 2) = .int .i64 (n : Int) := by rw [← hev]; exact eval_old (by kernel_rfl) 45 rfl (by decide) rfl
      clear hev hd q15
      exact .inl ⟨_, W, by go_simp, rfl, Below.refl _ _⟩
    · obtain rfl := Option.some.inj hoo
      have q16 : uu 16 = .int .i64 (n : Int) := hd 16 (by kernel_rfl)
      have q15 : uu 15 = .bool true := hd 15 (by kernel_rfl)
      refine .inl ⟨wanted_yes rfl (yielded_put (k := 29) (by kernel_rfl) (by kernel_rfl) 45 rfl (by decide) q15), ?_⟩
      generalize hev : Act.eval _ = ev
      have ec : ∀ c, ev (.const c) = c := fun c => by rw [← hev]; rfl
      have e30 : ev (.tmp 30) = .int .i64 (n : Int) := by rw [← hev]; exact (eval_put (by kernel_rfl) 45 rfl (by decide)).trans q16
      clear hev hd q16 q15
      exact .inl ⟨_, W, by go_simp, rfl, Below.refl _ _⟩
    · obtain rfl := Option.some.inj hoo
      have q17 : uu 17 = .bool false := hd 17 (by kernel_rfl)
      have q15 : uu 15 = .bool true := hd 15 (by kernel_rfl)
      refine .inl ⟨wanted_yes rfl (yielded_put (k := 29) (by kernel_rfl) (by kernel_rfl) 45 rfl (by decide) q15), ?_⟩
      generalize hev : Act.eval _ = ev
      have ec : ∀ c, ev (.const c) = c := fun c => by rw [← hev]; rfl
      have e31 : ev (.tmp 31) = .bool false := by rw [← hev]; exact (eval_put (by kernel_rfl) 45 rfl (by decide)).trans q17
      clear hev hd q17 q15
      exact .inl ⟨_, W, by go_simp, rfl, Below.refl _ _⟩
    · obtain rfl := Option.some.inj hoo
      have q18 : uu 18 = .bool false := hd 18 (by kernel_rfl)
      refine .inl ⟨wanted_yes rfl (yielded_put (k := 32) (by kernel_rfl) (by kernel_rfl) 45 rfl (by decide) q18), ?_⟩
      generalize hev : Act.eval _ = ev
      have ec : ∀ c, ev (.const c) = c := fun c => by rw [← hev]; rfl
      have e7 : ev (.tmp 7) = .int .i64 (r : Int) := by rw [← hev]; exact eval_old (by kernel_rfl) 45 rfl (by decide) rfl
      clear hev hd q18
      exact .inl ⟨_, W, by go_simp, rfl, Below.refl _ _⟩
    · obtain rfl := Option.some.inj hoo
      have q19 : uu 19 = .int .i64 (r : Int) := hd 19 (by kernel_rfl)
      have q18 : uu 18 = .bool false := hd 18 (by kernel_rfl)
      refine .inl ⟨wanted_yes rfl (yielded_put (k := 32) (by kernel_rfl) (by kernel_rfl) 45 rfl (by decide) q18), ?_⟩
      generalize hev : Act.eval _ = ev
      have ec : ∀ c, ev (.const c) = c := fun c => by rw [← hev]; rfl
      have e33 : ev (.tmp 33) = .int .i64 (r : Int) := by rw [← hev]; exact (eval_put (by kernel_rfl) 45 rfl (by decide)).trans q19
      clear hev hd q19 q18
      exact .inl ⟨_, W, by go_simp, rfl, Below.refl _ _⟩
    · obtain rfl := Option.some.inj hoo
      have q20 : uu 20 = .bool true := hd 20 (by kernel_rfl)
      have q18 : uu 18 = .bool false := hd 18 (by kernel_rfl)
      refine .inl ⟨wanted_yes rfl (yielded_put (k := 32) (by kernel_rfl) (by kernel_rfl) 45 rfl (by decide) q18), ?_⟩
      generalize hev : Act.eval _ = ev
      have ec : ∀ c, ev (.const c) = c := fun c => by rw [← hev]; rfl
      have e34 : ev (.tmp 34) = .bool true := by rw [← hev]; exact (eval_put (by kernel_rfl) 45 rfl (by decide)).trans q20
      clear hev hd q20 q18
      exact .inl ⟨_, W, by go_simp, rfl, Below.refl _ _⟩
    · obtain rfl := Option.some.inj hoo
      have q21 : uu 21 = .bool true := hd 21 (by kernel_rfl)
      refine .inl ⟨wanted_yes rfl (yielded_put (k := 35) (by kernel_rfl) (by kernel_rfl) 45 rfl (by decide) q21), ?_⟩
      generalize hev : Act.eval _ = ev
      have ec : ∀ c, ev (.const c) = c := fun c => by rw [← hev]; rfl
      have e7 : ev (.tmp 7) = .int .i64 (r : Int) := by rw [← hev]; exact eval_old (by kernel_rfl) 45 rfl (by decide) rfl
      clear hev hd q21
      exact .inl ⟨_, W, by go_simp, rfl, Below.refl _ _⟩
    · obtain rfl := Option.some.inj hoo
      have q21 : uu 21 = .bool true := hd 21 (by kernel_rfl)
      refine .inl ⟨wanted_yes rfl (yielded_put (k := 35) (by kernel_rfl) (by kernel_rfl) 45 rfl (by decide) q21), ?_⟩
      generalize hev : Act.eval _ = ev
      have ec : ∀ c, ev (.const c) = c := fun c => by rw [← hev]; rfl
      have e2 : ev (.tmp 2) = .int .i64 (n : Int) := by rw [← hev]; exact eval_old (by kernel_rfl) 45 rfl (by decide) rfl
      clear hev hd q21
      exact .inl ⟨_, W, by go_simp, rfl, Below.refl _ _⟩
    · obtain rfl := Option.some.inj hoo
      have q22 : uu 22 = .int .i64 (r : Int) := hd 22 (by kernel_rfl)
      have q23 : uu 23 = .int .i64 (n : Int) := hd 23 (by kernel_rfl)
      have q21 : uu 21 = .bool true := hd 21 (by kernel_rfl)
      refine .inl ⟨wanted_yes rfl (yielded_put (k := 35) (by kernel_rfl) (by kernel_rfl) 45 rfl (by decide) q21), ?_⟩
      generalize hev : Act.eval _ = ev
      have ec : ∀ c, ev (.const c) = c := fun c => by rw [← hev]; rfl
      have e36 : ev (.tmp 36) = .int .i64 (r : Int) := by rw [← hev]; exact (eval_put (by kernel_rfl) 45 rfl (by decide)).trans q22
      have e37 : ev (.tmp 37) = .int .i64 (n : Int) := by rw [← hev]; exact (eval_put (by kernel_rfl) 45 rfl (by decide)).trans q23
      clear hev hd q22 q23 q21
      exact .inl ⟨_, W, by go_simp, rfl, Below.refl _ _⟩
    · obtain rfl := Option.some.inj hoo
      have q21 : uu 21 = .bool true := hd 21 (by kernel_rfl)
      have q24 : uu 24 = .bool true := hd 24 (by kernel_rfl)
      have q18 : uu 18 = .bool false := hd 18 (by kernel_rfl)
      refine .inl ⟨wanted_yes rfl (yielded_put (k := 32) (by kernel_rfl) (by kernel_rfl) 45 rfl (by decide) q18), ?_⟩
      generalize hev : Act.eval _ = ev
      have ec : ∀ c, ev (.const c) = c := fun c => by rw [← hev]; rfl
      have e35 : ev (.tmp 35) = .bool true := by rw [← hev]; exact (eval_put (by kernel_rfl) 45 rfl (by decide)).trans q21
      have e38 : ev (.tmp 38) = .bool true := by rw [← hev]; exact (eval_put (by kernel_rfl) 45 rfl (by decide)).trans q24
      clear hev hd q21 q24 q18
      exact .inl ⟨_, W, by go_simp, rfl, Below.refl _ _⟩
    · obtain rfl := Option.some.inj hoo
      have q18 : uu 18 = .bool false := hd 18 (by kernel_rfl)
      have q25 : uu 25 = .bool true := hd 25 (by kernel_rfl)
      have q15 : uu 15 = .bool true := hd 15 (by kernel_rfl)
      refine .inl ⟨wanted_yes rfl (yielded_put (k := 29) (by kernel_rfl) (by kernel_rfl) 45 rfl (by decide) q15), ?_⟩
      generalize hev : Act.eval _ = ev
      have ec : ∀ c, ev (.const c) = c := fun c => by rw [← hev]; rfl
      have e32 : ev (.tmp 32) = .bool false := by rw [← hev]; exact (eval_put (by kernel_rfl) 45 rfl (by decide)).trans q18
      have e39 : ev (.tmp 39) = .bool true := by rw [← hev]; exact (eval_put (by kernel_rfl) 45 rfl (by decide)).trans q25
      clear hev hd q18 q25 q15
      exact .inl ⟨_, W, by go_simp, rfl, Below.refl _ _⟩
    · obtain rfl := Option.some.inj hoo
      have q15 : uu 15 = .bool true := hd 15 (by kernel_rfl)
      have q26 : uu 26 = .bool true := hd 26 (by kernel_rfl)
      refine .inl ⟨wanted_none rfl, ?_⟩
      generalize hev : Act.eval _ = ev
      have ec : ∀ c, ev (.const c) = c := fun c => by rw [← hev]; rfl
      have e29 : ev (.tmp 29) = .bool true := by rw [← hev]; exact (eval_put (by kernel_rfl) 45 rfl (by decide)).trans q15
      have e40 : ev (.tmp 40) = .bool true := by rw [← hev]; exact (eval_put (by kernel_rfl) 45 rfl (by decide)).trans q26
      clear hev hd q15 q26
      exact .inl ⟨_, W, by go_simp, rfl, Below.refl _ _⟩
    · obtain rfl := Option.some.inj hoo
      have q27 : uu 27 = .bool true := hd 27 (by kernel_rfl)
      refine .inl ⟨wanted_none rfl, ?_⟩
      generalize hev : Act.eval _ = ev
      have ec : ∀ c, ev (.const c) = c := fun c => by rw [← hev]; rfl
      have e41 : ev (.tmp 41) = .bool true := by rw [← hev]; exact (eval_put (by kernel_rfl) 45 rfl (by decide)).trans q27
      clear hev hd q27
      exact .inl ⟨_, W, by go_simp, rfl, Below.refl _ _⟩
    · obtain rfl := Option.some.inj hoo
      have q28 : uu 28 = .bool true := hd 28 (by kernel_rfl)
      refine .inl ⟨wanted_yes rfl (yielded_put (k := 42) (by kernel_rfl) (by kernel_rfl) 45 rfl (by decide) q28), ?_⟩
      generalize hev : Act.eval _ = ev
      have ec : ∀ c, ev (.const c) = c := fun c => by rw [← hev]; rfl
      have ef : ∀ f, ev (.func f) = .func (.func f) #[] #[] := fun f => by rw [← hev]; rfl
      clear hev hd q28
      exact .inr ⟨_, _, _, by go_simp, lives13_any W, fun e w' he => ⟨_, he.1, rfl, he.2⟩⟩
    · obtain rfl := Option.some.inj hoo
      have q28 : uu 28 = .bool true := hd 28 (by kernel_rfl)
      have q29 : uu 29 = .bool true := hd 29 (by kernel_rfl)
      refine .inl ⟨wanted_none rfl, ?_⟩
      generalize hev : Act.eval _ = ev
      have ec : ∀ c, ev (.const c) = c := fun c => by rw [← hev]; rfl
      have e42 : ev (.tmp 42) = .bool true := by rw [← hev]; exact (eval_put (by kernel_rfl) 45 rfl (by decide)).trans q28
      have e43 : ev (.tmp 43) = .bool true := by rw [← hev]; exact (eval_put (by kernel_rfl) 45 rfl (by decide)).trans q29
      clear hev hd q28 q29
      exact .inl ⟨_, W, by go_simp, rfl, Below.refl _ _⟩
    · obtain rfl := Option.some.inj hoo
      have q30 : uu 30 = .bool true := hd 30 (by kernel_rfl)
      refine .inl ⟨wanted_none rfl, ?_⟩
      generalize hev : Act.eval _ = ev
      have ec : ∀ c, ev (.const c) = c := fun c => by rw [← hev]; rfl
      have e44 : ev (.tmp 44) = .bool true := by rw [← hev]; exact (eval_put (by kernel_rfl) 45 rfl (by decide)).trans q30
      clear hev hd q30
      exact .inl ⟨_, W, by go_simp, rfl, Below.refl _ _⟩
    · simp at hoo
  · intro uu W hVW hall
    have q31 : uu 31 = .bool true := hall 31 (by decide)
    replace hB := hB.trans (hVW.mono hB.size)
    clear hall HS hVW
    simp only [putAll, Act.put, Nat.reduceAdd, q31]
    simp only [List.setIfInBounds_toArray, List.set_cons_succ, List.set_cons_zero]
    go_wp2_with fail
    go_ret
    exact ⟨rfl, hB⟩

/-- The first so many bytes, at any world. -/
theorem few_all {k : IntKind} {a : Option Addr} {len cap : Nat} {zs : List Int} {w : World} (h : InRow k w a len cap zs) (m : Nat) (hm : m ≤ 1000000) (hk : k = .u8 := by rfl) : ∃ bs : List UInt8, bs.length ≤ m ∧ Rd bv w w.heap.size a cap bs ∧
    ∀ W, Hid (Calls Try.prog 14 #[.slice a len cap, .int .i64 m] W fun e w' => e = .returned (.slice a bs.length cap) ∧ W = w') := by
  subst hk
  obtain ⟨bs0, rfl, hb0⟩ := row_rd h
  have hf := fun W => Lib.hid (few_le a bs0.length cap m W hb0.len hb0.cap hm)
  have hmin : min bs0.length m = (bs0.take m).length := by simp [Nat.min_comm]
  rw [hmin] at hf
  exact ⟨bs0.take m, by simp; omega, hb0.take m, hf⟩
theorem SipSums_walk (a0_0 a0_1 : Int) (a1 : Option Addr) (len1 cap1 : Nat) (z1 : List Int) (a2 : Int) (w : World) (w0 : (Lit.int .u64 a0_0).wf = true) (w1 : (Lit.int .u64 a0_1).wf = true) (w2 : InRow .u8 w a1 len1 cap1 z1) (w3 : (Lit.int .i64 a2).wf = true) :
    Calls Try.prog 11 #[.agg #[.int .u64 a0_0, .int .u64 a0_1], .slice a1 len1 cap1, .int .i64 a2] w fun e w' => e = .returned (.bool true) ∧ Below w.heap.size w w' := by
  obtain ⟨lo, rfl, h1⟩ := u64_nat w0
  obtain ⟨hi, rfl, h2⟩ := u64_nat w1
  obtain ⟨xs, hxl, ha, HFa⟩ := few_all w2 300 (by omega)
  by_cases hn : a2 < 1
  · exact SipSums_0 lo hi h1 h2 a1 len1 cap1 xs (by omega) w ha HFa a2 hn
  · have hm := i64_of w3
    obtain ⟨n, rfl⟩ : ∃ n : Nat, a2 = n := ⟨a2.toNat, by omega⟩
    exact SipSums_1 lo hi h1 h2 a1 len1 cap1 xs (by omega) w ha HFa n (by omega) (by omega)
end Go.Proofs.Ytiokofpmmlbncab
