/- The walk of the statement on phases. -/
import Derived.Test.YtbcofkiefompgaaPhase2
import Derived.Test.YtbcofkiefompgaaReg
namespace Go.Proofs.Ytbcofkiefompgaa
open Go.RowKit

theorem pureC {P : Program} {f : Nat} {args : Array Value} {w : World} {v : Value} (h : Calls P f args w fun e w' => e = .returned v ∧ w = w') : Calls P f args w fun e w' => e = .returned v ∧ Below w.heap.size w w' :=
  h.mono fun _ _ he => ⟨he.1, by rw [← he.2]; exact Below.refl _ _⟩

set_option maxHeartbeats 4000000 in
theorem goes_any (cs : Array Value) (hcs : cs.size = 40) (x1 x2 x3 x4 a1 : Int) (h1 : cs[32]? = some (.int .i64 x1)) (h2 : cs[33]? = some (.int .i64 x2)) (h3 : cs[34]? = some (.int .i64 x3)) (h4 : cs[35]? = some (.int .i64 x4)) (n : Nat) (hn : n < 256) (w : World) :
    Calls Try.prog 13 #[.agg cs, .int .i64 a1, .int .u8 n] w fun e w' => e = .returned (.bool true) ∧ Below w.heap.size w w' := by
  obtain ⟨r, f, s, a, hfl⟩ := fl_of n hn
  have hBk := Blk.new w cs 82
  have hBV := bnextA (Below.refl w.heap.size w) (.cells cs 82)
  have HW1 := fun W => wait_any cs a1 x1 x2 x3 x4 h1 h2 h3 h4 W
  have HW2 := fun W => rwait_any cs a1 x1 x2 x3 x4 h1 h2 h3 h4 W
  obtain ⟨wt, hwt⟩ : ∃ x, waitP a1 x1 x2 x3 x4 = x := ⟨_, rfl⟩
  rw [hwt] at HW1 HW2
  clear hwt h1 h2 h3 h4
  go_enter Try.func13, Try.ntmps13
  go_wp2_with fail
  generalize hV : w.alloc (.cells cs 82) = V at hBk hBV ⊢
  clear hV
  refine region_vals (by kernel_rfl) (by kernel_rfl) (by kernel_rfl) 40 rfl (by kernel_rfl) V (Below.refl _ _) [.int .u8 n, .int .i64 (firstP r f s a), .int .u8 n, .int .i64 (firstP r f s a), .bool true, .bool true, .int .i64 a1, .int .u8 n, .int .i64 (nextP a1 r f s a), .int .i64 a1, .int .u8 n, .int .i64 (nextP a1 r f s a), .bool true, .bool true, .bool true, .agg cs, .int .i64 a1, .int .i64 wt, .agg cs, .int .i64 a1, .int .i64 wt, .bool true, .bool true, .bool true, .int .i64 a1, .string (wordP a1), .int .i64 a1, .string (wordP a1), .bool true, .bool true, .bool true, .bool true, .bool true, .bool true] rfl ?_ ?_
  · intro i o uu W xx ho hx hVW hd
    rcases i with _|_|_|_|_|_|_|_|_|_|_|_|_|_|_|_|_|_|_|_|_|_|_|_|_|_|_|_|_|_|_|_|_|_|i
    · obtain rfl := Option.some.inj ho
      obtain rfl := Option.some.inj hx
      refine .inl ⟨wanted_none rfl, ?_⟩
      generalize hev : Act.eval _ = ev
      have ec : ∀ c, ev (.const c) = c := fun c => by rw [← hev]; rfl
      have e2 : ev (.tmp 2) = .int .u8 n := by rw [← hev]; exact eval_old (by kernel_rfl) 40 rfl (by decide) rfl
      clear hev hd
      exact .inl ⟨W, by go_simp, Below.refl _ _⟩
    · obtain rfl := Option.some.inj ho
      obtain rfl := Option.some.inj hx
      have q0 : uu 0 = .int .u8 n := hd 0 (by kernel_rfl) _ rfl
      refine .inl ⟨wanted_none rfl, ?_⟩
      generalize hev : Act.eval _ = ev
      have ec : ∀ c, ev (.const c) = c := fun c => by rw [← hev]; rfl
      have ef : ∀ f, ev (.func f) = .func (.func f) #[] #[] := fun f => by rw [← hev]; rfl
      have e7 : ev (.tmp 7) = .int .u8 n := by rw [← hev]; exact (eval_put (by kernel_rfl) 40 rfl (by decide)).trans q0
      clear hev hd q0
      exact .inr ⟨_, _, by go_simp, pureC (first_any n r f s a hfl W)⟩
    · obtain rfl := Option.some.inj ho
      obtain rfl := Option.some.inj hx
      refine .inl ⟨wanted_none rfl, ?_⟩
      generalize hev : Act.eval _ = ev
      have ec : ∀ c, ev (.const c) = c := fun c => by rw [← hev]; rfl
      have e2 : ev (.tmp 2) = .int .u8 n := by rw [← hev]; exact eval_old (by kernel_rfl) 40 rfl (by decide) rfl
      clear hev hd
      exact .inl ⟨W, by go_simp, Below.refl _ _⟩
    · obtain rfl := Option.some.inj ho
      obtain rfl := Option.some.inj hx
      have q2 : uu 2 = .int .u8 n := hd 2 (by kernel_rfl) _ rfl
      refine .inl ⟨wanted_none rfl, ?_⟩
      generalize hev : Act.eval _ = ev
      have ec : ∀ c, ev (.const c) = c := fun c => by rw [← hev]; rfl
      have ef : ∀ f, ev (.func f) = .func (.func f) #[] #[] := fun f => by rw [← hev]; rfl
      have e9 : ev (.tmp 9) = .int .u8 n := by rw [← hev]; exact (eval_put (by kernel_rfl) 40 rfl (by decide)).trans q2
      clear hev hd q2
      exact .inr ⟨_, _, by go_simp, pureC (rfirst_any n r f s a hfl W)⟩
    · obtain rfl := Option.some.inj ho
      obtain rfl := Option.some.inj hx
      have q1 : uu 1 = .int .i64 (firstP r f s a) := hd 1 (by kernel_rfl) _ rfl
      have q3 : uu 3 = .int .i64 (firstP r f s a) := hd 3 (by kernel_rfl) _ rfl
      refine .inl ⟨wanted_none rfl, ?_⟩
      generalize hev : Act.eval _ = ev
      have ec : ∀ c, ev (.const c) = c := fun c => by rw [← hev]; rfl
      have e8 : ev (.tmp 8) = .int .i64 (firstP r f s a) := by rw [← hev]; exact (eval_put (by kernel_rfl) 40 rfl (by decide)).trans q1
      have e10 : ev (.tmp 10) = .int .i64 (firstP r f s a) := by rw [← hev]; exact (eval_put (by kernel_rfl) 40 rfl (by decide)).trans q3
      clear hev hd q1 q3
      exact .inl ⟨W, by go_simp, Below.refl _ _⟩
    · obtain rfl := Option.some.inj ho
      obtain rfl := Option.some.inj hx
      have q4 : uu 4 = .bool true := hd 4 (by kernel_rfl) _ rfl
      refine .inl ⟨wanted_none rfl, ?_⟩
      generalize hev : Act.eval _ = ev
      have ec : ∀ c, ev (.const c) = c := fun c => by rw [← hev]; rfl
      have e11 : ev (.tmp 11) = .bool true := by rw [← hev]; exact (eval_put (by kernel_rfl) 40 rfl (by decide)).trans q4
      clear hev hd q4
      exact .inl ⟨W, by go_simp, Below.refl _ _⟩
    · obtain rfl := Option.some.inj ho
      obtain rfl := Option.some.inj hx
      have q5 : uu 5 = .bool true := hd 5 (by kernel_rfl) _ rfl
      refine .inl ⟨wanted_yes rfl (yielded_put (k := 12) (by kernel_rfl) (by kernel_rfl) 40 rfl (by decide) q5), ?_⟩
      generalize hev : Act.eval _ = ev
      have ec : ∀ c, ev (.const c) = c := fun c => by rw [← hev]; rfl
      have e1 : ev (.tmp 1) = .int .i64 a1 := by rw [← hev]; exact eval_old (by kernel_rfl) 40 rfl (by decide) rfl
      clear hev hd q5
      exact .inl ⟨W, by go_simp, Below.refl _ _⟩
    · obtain rfl := Option.some.inj ho
      obtain rfl := Option.some.inj hx
      have q5 : uu 5 = .bool true := hd 5 (by kernel_rfl) _ rfl
      refine .inl ⟨wanted_yes rfl (yielded_put (k := 12) (by kernel_rfl) (by kernel_rfl) 40 rfl (by decide) q5), ?_⟩
      generalize hev : Act.eval _ = ev
      have ec : ∀ c, ev (.const c) = c := fun c => by rw [← hev]; rfl
      have e2 : ev (.tmp 2) = .int .u8 n := by rw [← hev]; exact eval_old (by kernel_rfl) 40 rfl (by decide) rfl
      clear hev hd q5
      exact .inl ⟨W, by go_simp, Below.refl _ _⟩
    · obtain rfl := Option.some.inj ho
      obtain rfl := Option.some.inj hx
      have q6 : uu 6 = .int .i64 a1 := hd 6 (by kernel_rfl) _ rfl
      have q7 : uu 7 = .int .u8 n := hd 7 (by kernel_rfl) _ rfl
      have q5 : uu 5 = .bool true := hd 5 (by kernel_rfl) _ rfl
      refine .inl ⟨wanted_yes rfl (yielded_put (k := 12) (by kernel_rfl) (by kernel_rfl) 40 rfl (by decide) q5), ?_⟩
      generalize hev : Act.eval _ = ev
      have ec : ∀ c, ev (.const c) = c := fun c => by rw [← hev]; rfl
      have ef : ∀ f, ev (.func f) = .func (.func f) #[] #[] := fun f => by rw [← hev]; rfl
      have e13 : ev (.tmp 13) = .int .i64 a1 := by rw [← hev]; exact (eval_put (by kernel_rfl) 40 rfl (by decide)).trans q6
      have e14 : ev (.tmp 14) = .int .u8 n := by rw [← hev]; exact (eval_put (by kernel_rfl) 40 rfl (by decide)).trans q7
      clear hev hd q6 q7 q5
      exact .inr ⟨_, _, by go_simp, pureC (nextq_any a1 n r f s a hfl W)⟩
    · obtain rfl := Option.some.inj ho
      obtain rfl := Option.some.inj hx
      have q5 : uu 5 = .bool true := hd 5 (by kernel_rfl) _ rfl
      refine .inl ⟨wanted_yes rfl (yielded_put (k := 12) (by kernel_rfl) (by kernel_rfl) 40 rfl (by decide) q5), ?_⟩
      generalize hev : Act.eval _ = ev
      have ec : ∀ c, ev (.const c) = c := fun c => by rw [← hev]; rfl
      have e1 : ev (.tmp 1) = .int .i64 a1 := by rw [← hev]; exact eval_old (by kernel_rfl) 40 rfl (by decide) rfl
      clear hev hd q5
      exact .inl ⟨W, by go_simp, Below.refl _ _⟩
    · obtain rfl := Option.some.inj ho
      obtain rfl := Option.some.inj hx
      have q5 : uu 5 = .bool true := hd 5 (by kernel_rfl) _ rfl
      refine .inl ⟨wanted_yes rfl (yielded_put (k := 12) (by kernel_rfl) (by kernel_rfl) 40 rfl (by decide) q5), ?_⟩
      generalize hev : Act.eval _ = ev
      have ec : ∀ c, ev (.const c) = c := fun c => by rw [← hev]; rfl
      have e2 : ev (.tmp 2) = .int .u8 n := by rw [← hev]; exact eval_old (by kernel_rfl) 40 rfl (by decide) rfl
      clear hev hd q5
      exact .inl ⟨W, by go_simp, Below.refl _ _⟩
    · obtain rfl := Option.some.inj ho
      obtain rfl := Option.some.inj hx
      have q9 : uu 9 = .int .i64 a1 := hd 9 (by kernel_rfl) _ rfl
      have q10 : uu 10 = .int .u8 n := hd 10 (by kernel_rfl) _ rfl
      have q5 : uu 5 = .bool true := hd 5 (by kernel_rfl) _ rfl
      refine .inl ⟨wanted_yes rfl (yielded_put (k := 12) (by kernel_rfl) (by kernel_rfl) 40 rfl (by decide) q5), ?_⟩
      generalize hev : Act.eval _ = ev
      have ec : ∀ c, ev (.const c) = c := fun c => by rw [← hev]; rfl
      have ef : ∀ f, ev (.func f) = .func (.func f) #[] #[] := fun f => by rw [← hev]; rfl
      have e16 : ev (.tmp 16) = .int .i64 a1 := by rw [← hev]; exact (eval_put (by kernel_rfl) 40 rfl (by decide)).trans q9
      have e17 : ev (.tmp 17) = .int .u8 n := by rw [← hev]; exact (eval_put (by kernel_rfl) 40 rfl (by decide)).trans q10
      clear hev hd q9 q10 q5
      exact .inr ⟨_, _, by go_simp, pureC (rnextq_any a1 n r f s a hfl W)⟩
    · obtain rfl := Option.some.inj ho
      obtain rfl := Option.some.inj hx
      have q8 : uu 8 = .int .i64 (nextP a1 r f s a) := hd 8 (by kernel_rfl) _ rfl
      have q11 : uu 11 = .int .i64 (nextP a1 r f s a) := hd 11 (by kernel_rfl) _ rfl
      have q5 : uu 5 = .bool true := hd 5 (by kernel_rfl) _ rfl
      refine .inl ⟨wanted_yes rfl (yielded_put (k := 12) (by kernel_rfl) (by kernel_rfl) 40 rfl (by decide) q5), ?_⟩
      generalize hev : Act.eval _ = ev
      have ec : ∀ c, ev (.const c) = c := fun c => by rw [← hev]; rfl
      have e15 : ev (.tmp 15) = .int .i64 (nextP a1 r f s a) := by rw [← hev]; exact (eval_put (by kernel_rfl) 40 rfl (by decide)).trans q8
      have e18 : ev (.tmp 18) = .int .i64 (nextP a1 r f s a) := by rw [← hev]; exact (eval_put (by kernel_rfl) 40 rfl (by decide)).trans q11
      clear hev hd q8 q11 q5
      exact .inl ⟨W, by go_simp, Below.refl _ _⟩
    · obtain rfl := Option.some.inj ho
      obtain rfl := Option.some.inj hx
      have q5 : uu 5 = .bool true := hd 5 (by kernel_rfl) _ rfl
      have q12 : uu 12 = .bool true := hd 12 (by kernel_rfl) _ rfl
      refine .inl ⟨wanted_none rfl, ?_⟩
      generalize hev : Act.eval _ = ev
      have ec : ∀ c, ev (.const c) = c := fun c => by rw [← hev]; rfl
      have e12 : ev (.tmp 12) = .bool true := by rw [← hev]; exact (eval_put (by kernel_rfl) 40 rfl (by decide)).trans q5
      have e19 : ev (.tmp 19) = .bool true := by rw [← hev]; exact (eval_put (by kernel_rfl) 40 rfl (by decide)).trans q12
      clear hev hd q5 q12
      exact .inl ⟨W, by go_simp, Below.refl _ _⟩
    · obtain rfl := Option.some.inj ho
      obtain rfl := Option.some.inj hx
      have q13 : uu 13 = .bool true := hd 13 (by kernel_rfl) _ rfl
      refine .inl ⟨wanted_none rfl, ?_⟩
      generalize hev : Act.eval _ = ev
      have ec : ∀ c, ev (.const c) = c := fun c => by rw [← hev]; rfl
      have e20 : ev (.tmp 20) = .bool true := by rw [← hev]; exact (eval_put (by kernel_rfl) 40 rfl (by decide)).trans q13
      clear hev hd q13
      exact .inl ⟨W, by go_simp, Below.refl _ _⟩
    · obtain rfl := Option.some.inj ho
      obtain rfl := Option.some.inj hx
      have q14 : uu 14 = .bool true := hd 14 (by kernel_rfl) _ rfl
      refine .inl ⟨wanted_yes rfl (yielded_put (k := 21) (by kernel_rfl) (by kernel_rfl) 40 rfl (by decide) q14), ?_⟩
      generalize hev : Act.eval _ = ev
      have ec : ∀ c, ev (.const c) = c := fun c => by rw [← hev]; rfl
      have e3 : ev (.tmp 3) = .pointer (some ⟨w.heap.size, 0, none⟩) := by rw [← hev]; exact eval_old (by kernel_rfl) 40 rfl (by decide) rfl
      clear hev hd q14
      exact .inl ⟨W, load_blk Try.underlying82 (by rw [hcs]; kernel_rfl) (hBk.next hVW) rfl e3, Below.refl _ _⟩
    · obtain rfl := Option.some.inj ho
      obtain rfl := Option.some.inj hx
      have q14 : uu 14 = .bool true := hd 14 (by kernel_rfl) _ rfl
      refine .inl ⟨wanted_yes rfl (yielded_put (k := 21) (by kernel_rfl) (by kernel_rfl) 40 rfl (by decide) q14), ?_⟩
      generalize hev : Act.eval _ = ev
      have ec : ∀ c, ev (.const c) = c := fun c => by rw [← hev]; rfl
      have e1 : ev (.tmp 1) = .int .i64 a1 := by rw [← hev]; exact eval_old (by kernel_rfl) 40 rfl (by decide) rfl
      clear hev hd q14
      exact .inl ⟨W, by go_simp, Below.refl _ _⟩
    · obtain rfl := Option.some.inj ho
      obtain rfl := Option.some.inj hx
      have q15 : uu 15 = .agg cs := hd 15 (by kernel_rfl) _ rfl
      have q16 : uu 16 = .int .i64 a1 := hd 16 (by kernel_rfl) _ rfl
      have q14 : uu 14 = .bool true := hd 14 (by kernel_rfl) _ rfl
      refine .inl ⟨wanted_yes rfl (yielded_put (k := 21) (by kernel_rfl) (by kernel_rfl) 40 rfl (by decide) q14), ?_⟩
      generalize hev : Act.eval _ = ev
      have ec : ∀ c, ev (.const c) = c := fun c => by rw [← hev]; rfl
      have ef : ∀ f, ev (.func f) = .func (.func f) #[] #[] := fun f => by rw [← hev]; rfl
      have e22 : ev (.tmp 22) = .agg cs := by rw [← hev]; exact (eval_put (by kernel_rfl) 40 rfl (by decide)).trans q15
      have e23 : ev (.tmp 23) = .int .i64 a1 := by rw [← hev]; exact (eval_put (by kernel_rfl) 40 rfl (by decide)).trans q16
      clear hev hd q15 q16 q14
      exact .inr ⟨_, _, by go_simp, HW1 W⟩
    · obtain rfl := Option.some.inj ho
      obtain rfl := Option.some.inj hx
      have q14 : uu 14 = .bool true := hd 14 (by kernel_rfl) _ rfl
      refine .inl ⟨wanted_yes rfl (yielded_put (k := 21) (by kernel_rfl) (by kernel_rfl) 40 rfl (by decide) q14), ?_⟩
      generalize hev : Act.eval _ = ev
      have ec : ∀ c, ev (.const c) = c := fun c => by rw [← hev]; rfl
      have e3 : ev (.tmp 3) = .pointer (some ⟨w.heap.size, 0, none⟩) := by rw [← hev]; exact eval_old (by kernel_rfl) 40 rfl (by decide) rfl
      clear hev hd q14
      exact .inl ⟨W, load_blk Try.underlying82 (by rw [hcs]; kernel_rfl) (hBk.next hVW) rfl e3, Below.refl _ _⟩
    · obtain rfl := Option.some.inj ho
      obtain rfl := Option.some.inj hx
      have q14 : uu 14 = .bool true := hd 14 (by kernel_rfl) _ rfl
      refine .inl ⟨wanted_yes rfl (yielded_put (k := 21) (by kernel_rfl) (by kernel_rfl) 40 rfl (by decide) q14), ?_⟩
      generalize hev : Act.eval _ = ev
      have ec : ∀ c, ev (.const c) = c := fun c => by rw [← hev]; rfl
      have e1 : ev (.tmp 1) = .int .i64 a1 := by rw [← hev]; exact eval_old (by kernel_rfl) 40 rfl (by decide) rfl
      clear hev hd q14
      exact .inl ⟨W, by go_simp, Below.refl _ _⟩
    · obtain rfl := Option.some.inj ho
      obtain rfl := Option.some.inj hx
      have q18 : uu 18 = .agg cs := hd 18 (by kernel_rfl) _ rfl
      have q19 : uu 19 = .int .i64 a1 := hd 19 (by kernel_rfl) _ rfl
      have q14 : uu 14 = .bool true := hd 14 (by kernel_rfl) _ rfl
      refine .inl ⟨wanted_yes rfl (yielded_put (k := 21) (by kernel_rfl) (by kernel_rfl) 40 rfl (by decide) q14), ?_⟩
      generalize hev : Act.eval _ = ev
      have ec : ∀ c, ev (.const c) = c := fun c => by rw [← hev]; rfl
      have ef : ∀ f, ev (.func f) = .func (.func f) #[] #[] := fun f => by rw [← hev]; rfl
      have e25 : ev (.tmp 25) = .agg cs := by rw [← hev]; exact (eval_put (by kernel_rfl) 40 rfl (by decide)).trans q18
      have e26 : ev (.tmp 26) = .int .i64 a1 := by rw [← hev]; exact (eval_put (by kernel_rfl) 40 rfl (by decide)).trans q19
      clear hev hd q18 q19 q14
      exact .inr ⟨_, _, by go_simp, HW2 W⟩
    · obtain rfl := Option.some.inj ho
      obtain rfl := Option.some.inj hx
      have q17 : uu 17 = .int .i64 wt := hd 17 (by kernel_rfl) _ rfl
      have q20 : uu 20 = .int .i64 wt := hd 20 (by kernel_rfl) _ rfl
      have q14 : uu 14 = .bool true := hd 14 (by kernel_rfl) _ rfl
      refine .inl ⟨wanted_yes rfl (yielded_put (k := 21) (by kernel_rfl) (by kernel_rfl) 40 rfl (by decide) q14), ?_⟩
      generalize hev : Act.eval _ = ev
      have ec : ∀ c, ev (.const c) = c := fun c => by rw [← hev]; rfl
      have e24 : ev (.tmp 24) = .int .i64 wt := by rw [← hev]; exact (eval_put (by kernel_rfl) 40 rfl (by decide)).trans q17
      have e27 : ev (.tmp 27) = .int .i64 wt := by rw [← hev]; exact (eval_put (by kernel_rfl) 40 rfl (by decide)).trans q20
      clear hev hd q17 q20 q14
      exact .inl ⟨W, by go_simp, Below.refl _ _⟩
    · obtain rfl := Option.some.inj ho
      obtain rfl := Option.some.inj hx
      have q14 : uu 14 = .bool true := hd 14 (by kernel_rfl) _ rfl
      have q21 : uu 21 = .bool true := hd 21 (by kernel_rfl) _ rfl
      refine .inl ⟨wanted_none rfl, ?_⟩
      generalize hev : Act.eval _ = ev
      have ec : ∀ c, ev (.const c) = c := fun c => by rw [← hev]; rfl
      have e21 : ev (.tmp 21) = .bool true := by rw [← hev]; exact (eval_put (by kernel_rfl) 40 rfl (by decide)).trans q14
      have e28 : ev (.tmp 28) = .bool true := by rw [← hev]; exact (eval_put (by kernel_rfl) 40 rfl (by decide)).trans q21
      clear hev hd q14 q21
      exact .inl ⟨W, by go_simp, Below.refl _ _⟩
    · obtain rfl := Option.some.inj ho
      obtain rfl := Option.some.inj hx
      have q22 : uu 22 = .bool true := hd 22 (by kernel_rfl) _ rfl
      refine .inl ⟨wanted_none rfl, ?_⟩
      generalize hev : Act.eval _ = ev
      have ec : ∀ c, ev (.const c) = c := fun c => by rw [← hev]; rfl
      have e29 : ev (.tmp 29) = .bool true := by rw [← hev]; exact (eval_put (by kernel_rfl) 40 rfl (by decide)).trans q22
      clear hev hd q22
      exact .inl ⟨W, by go_simp, Below.refl _ _⟩
    · obtain rfl := Option.some.inj ho
      obtain rfl := Option.some.inj hx
      have q23 : uu 23 = .bool true := hd 23 (by kernel_rfl) _ rfl
      refine .inl ⟨wanted_yes rfl (yielded_put (k := 30) (by kernel_rfl) (by kernel_rfl) 40 rfl (by decide) q23), ?_⟩
      generalize hev : Act.eval _ = ev
      have ec : ∀ c, ev (.const c) = c := fun c => by rw [← hev]; rfl
      have e1 : ev (.tmp 1) = .int .i64 a1 := by rw [← hev]; exact eval_old (by kernel_rfl) 40 rfl (by decide) rfl
      clear hev hd q23
      exact .inl ⟨W, by go_simp, Below.refl _ _⟩
    · obtain rfl := Option.some.inj ho
      obtain rfl := Option.some.inj hx
      have q24 : uu 24 = .int .i64 a1 := hd 24 (by kernel_rfl) _ rfl
      have q23 : uu 23 = .bool true := hd 23 (by kernel_rfl) _ rfl
      refine .inl ⟨wanted_yes rfl (yielded_put (k := 30) (by kernel_rfl) (by kernel_rfl) 40 rfl (by decide) q23), ?_⟩
      generalize hev : Act.eval _ = ev
      have ec : ∀ c, ev (.const c) = c := fun c => by rw [← hev]; rfl
      have ef : ∀ f, ev (.func f) = .func (.func f) #[] #[] := fun f => by rw [← hev]; rfl
      have e31 : ev (.tmp 31) = .int .i64 a1 := by rw [← hev]; exact (eval_put (by kernel_rfl) 40 rfl (by decide)).trans q24
      clear hev hd q24 q23
      exact .inr ⟨_, _, by go_simp, word_any a1 W⟩
    · obtain rfl := Option.some.inj ho
      obtain rfl := Option.some.inj hx
      have q23 : uu 23 = .bool true := hd 23 (by kernel_rfl) _ rfl
      refine .inl ⟨wanted_yes rfl (yielded_put (k := 30) (by kernel_rfl) (by kernel_rfl) 40 rfl (by decide) q23), ?_⟩
      generalize hev : Act.eval _ = ev
      have ec : ∀ c, ev (.const c) = c := fun c => by rw [← hev]; rfl
      have e1 : ev (.tmp 1) = .int .i64 a1 := by rw [← hev]; exact eval_old (by kernel_rfl) 40 rfl (by decide) rfl
      clear hev hd q23
      exact .inl ⟨W, by go_simp, Below.refl _ _⟩
    · obtain rfl := Option.some.inj ho
      obtain rfl := Option.some.inj hx
      have q26 : uu 26 = .int .i64 a1 := hd 26 (by kernel_rfl) _ rfl
      have q23 : uu 23 = .bool true := hd 23 (by kernel_rfl) _ rfl
      refine .inl ⟨wanted_yes rfl (yielded_put (k := 30) (by kernel_rfl) (by kernel_rfl) 40 rfl (by decide) q23), ?_⟩
      generalize hev : Act.eval _ = ev
      have ec : ∀ c, ev (.const c) = c := fun c => by rw [← hev]; rfl
      have ef : ∀ f, ev (.func f) = .func (.func f) #[] #[] := fun f => by rw [← hev]; rfl
      have e33 : ev (.tmp 33) = .int .i64 a1 := by rw [← hev]; exact (eval_put (by kernel_rfl) 40 rfl (by decide)).trans q26
      clear hev hd q26 q23
      exact .inr ⟨_, _, by go_simp, rword_any a1 W⟩
    · obtain rfl := Option.some.inj ho
      obtain rfl := Option.some.inj hx
      have q25 : uu 25 = .string (wordP a1) := hd 25 (by kernel_rfl) _ rfl
      have q27 : uu 27 = .string (wordP a1) := hd 27 (by kernel_rfl) _ rfl
      have q23 : uu 23 = .bool true := hd 23 (by kernel_rfl) _ rfl
      refine .inl ⟨wanted_yes rfl (yielded_put (k := 30) (by kernel_rfl) (by kernel_rfl) 40 rfl (by decide) q23), ?_⟩
      generalize hev : Act.eval _ = ev
      have ec : ∀ c, ev (.const c) = c := fun c => by rw [← hev]; rfl
      have e32 : ev (.tmp 32) = .string (wordP a1) := by rw [← hev]; exact (eval_put (by kernel_rfl) 40 rfl (by decide)).trans q25
      have e34 : ev (.tmp 34) = .string (wordP a1) := by rw [← hev]; exact (eval_put (by kernel_rfl) 40 rfl (by decide)).trans q27
      clear hev hd q25 q27 q23
      exact .inl ⟨W, by go_simp, Below.refl _ _⟩
    · obtain rfl := Option.some.inj ho
      obtain rfl := Option.some.inj hx
      have q23 : uu 23 = .bool true := hd 23 (by kernel_rfl) _ rfl
      have q28 : uu 28 = .bool true := hd 28 (by kernel_rfl) _ rfl
      refine .inl ⟨wanted_none rfl, ?_⟩
      generalize hev : Act.eval _ = ev
      have ec : ∀ c, ev (.const c) = c := fun c => by rw [← hev]; rfl
      have e30 : ev (.tmp 30) = .bool true := by rw [← hev]; exact (eval_put (by kernel_rfl) 40 rfl (by decide)).trans q23
      have e35 : ev (.tmp 35) = .bool true := by rw [← hev]; exact (eval_put (by kernel_rfl) 40 rfl (by decide)).trans q28
      clear hev hd q23 q28
      exact .inl ⟨W, by go_simp, Below.refl _ _⟩
    · obtain rfl := Option.some.inj ho
      obtain rfl := Option.some.inj hx
      have q29 : uu 29 = .bool true := hd 29 (by kernel_rfl) _ rfl
      refine .inl ⟨wanted_none rfl, ?_⟩
      generalize hev : Act.eval _ = ev
      have ec : ∀ c, ev (.const c) = c := fun c => by rw [← hev]; rfl
      have e36 : ev (.tmp 36) = .bool true := by rw [← hev]; exact (eval_put (by kernel_rfl) 40 rfl (by decide)).trans q29
      clear hev hd q29
      exact .inl ⟨W, by go_simp, Below.refl _ _⟩
    · obtain rfl := Option.some.inj ho
      obtain rfl := Option.some.inj hx
      have q30 : uu 30 = .bool true := hd 30 (by kernel_rfl) _ rfl
      refine .inl ⟨wanted_yes rfl (yielded_put (k := 37) (by kernel_rfl) (by kernel_rfl) 40 rfl (by decide) q30), ?_⟩
      generalize hev : Act.eval _ = ev
      have ec : ∀ c, ev (.const c) = c := fun c => by rw [← hev]; rfl
      have ef : ∀ f, ev (.func f) = .func (.func f) #[] #[] := fun f => by rw [← hev]; rfl
      clear hev hd q30
      exact .inr ⟨_, _, by go_simp, plives_any W⟩
    · obtain rfl := Option.some.inj ho
      obtain rfl := Option.some.inj hx
      have q30 : uu 30 = .bool true := hd 30 (by kernel_rfl) _ rfl
      have q31 : uu 31 = .bool true := hd 31 (by kernel_rfl) _ rfl
      refine .inl ⟨wanted_none rfl, ?_⟩
      generalize hev : Act.eval _ = ev
      have ec : ∀ c, ev (.const c) = c := fun c => by rw [← hev]; rfl
      have e37 : ev (.tmp 37) = .bool true := by rw [← hev]; exact (eval_put (by kernel_rfl) 40 rfl (by decide)).trans q30
      have e38 : ev (.tmp 38) = .bool true := by rw [← hev]; exact (eval_put (by kernel_rfl) 40 rfl (by decide)).trans q31
      clear hev hd q30 q31
      exact .inl ⟨W, by go_simp, Below.refl _ _⟩
    · obtain rfl := Option.some.inj ho
      obtain rfl := Option.some.inj hx
      have q32 : uu 32 = .bool true := hd 32 (by kernel_rfl) _ rfl
      refine .inl ⟨wanted_none rfl, ?_⟩
      generalize hev : Act.eval _ = ev
      have ec : ∀ c, ev (.const c) = c := fun c => by rw [← hev]; rfl
      have e39 : ev (.tmp 39) = .bool true := by rw [← hev]; exact (eval_put (by kernel_rfl) 40 rfl (by decide)).trans q32
      clear hev hd q32
      exact .inl ⟨W, by go_simp, Below.refl _ _⟩
    · simp at ho
  · intro W hVW
    go_wp2_with fail
    refine bodyPost_ret (results_tmp rfl _ _ _) (putAll_defers _ _ _ _) ?_
    exact ⟨congrArg Ending.returned (by kernel_rfl), hBV.trans (hVW.mono hBV.size)⟩
set_option maxRecDepth 8000 in
set_option maxHeartbeats 4000000 in
theorem PhaseGoes_walk (a0_0_0_0 : Int) (a0_0_0_1 : Int) (a0_0_0_2 : Int) (a0_0_0_3 : Int) (a0_0_0_4 : Int) (a0_0_0_5 : Int) (a0_0_1_0 : Int) (a0_0_1_1 : Int) (a0_0_1_2 : Int) (a0_0_1_3 : Int) (a0_0_1_4 : Int) (a0_0_1_5 : Int) (a0_1_0 : Int) (a0_1_1 : Int) (a0_2_0 : Int) (a0_2_1 : Int) (a0_3 : Int) (a0_4 : Int) (a0_5_0 : Int) (a0_5_1 : Int) (a0_6_0 : Int) (a0_6_1 : Int) (a0_7 : Int) (a0_8 : Int) (a0_9 : Int) (a0_10 : Int) (a0_11 : Int) (a0_12 : Int) (a0_13 : Int) (a0_14 : Int) (a0_15 : Int) (a0_16 : Int) (a0_17 : Int) (a0_18 : Int) (a0_19 : Int) (a0_20 : Int) (a0_21 : Int) (a0_22 : Int) (a0_23 : Int) (a0_24 : Int) (a1 a2 : Int) (w : World) (_w0_0_0_0 : (Lit.int .u8 a0_0_0_0).wf = true) (_w0_0_0_1 : (Lit.int .u8 a0_0_0_1).wf = true) (_w0_0_0_2 : (Lit.int .u8 a0_0_0_2).wf = true) (_w0_0_0_3 : (Lit.int .u8 a0_0_0_3).wf = true) (_w0_0_0_4 : (Lit.int .u8 a0_0_0_4).wf = true) (_w0_0_0_5 : (Lit.int .u8 a0_0_0_5).wf = true) (_w0_0_1_0 : (Lit.int .u8 a0_0_1_0).wf = true) (_w0_0_1_1 : (Lit.int .u8 a0_0_1_1).wf = true) (_w0_0_1_2 : (Lit.int .u8 a0_0_1_2).wf = true) (_w0_0_1_3 : (Lit.int .u8 a0_0_1_3).wf = true) (_w0_0_1_4 : (Lit.int .u8 a0_0_1_4).wf = true) (_w0_0_1_5 : (Lit.int .u8 a0_0_1_5).wf = true) (_w0_1_0 : (Lit.int .u32 a0_1_0).wf = true) (_w0_1_1 : (Lit.int .u32 a0_1_1).wf = true) (_w0_2_0 : (Lit.int .i64 a0_2_0).wf = true) (_w0_2_1 : (Lit.int .i64 a0_2_1).wf = true) (_w0_3 : (Lit.int .u32 a0_3).wf = true) (_w0_4 : (Lit.int .i64 a0_4).wf = true) (_w0_5_0 : (Lit.int .u64 a0_5_0).wf = true) (_w0_5_1 : (Lit.int .u64 a0_5_1).wf = true) (_w0_6_0 : (Lit.int .u64 a0_6_0).wf = true) (_w0_6_1 : (Lit.int .u64 a0_6_1).wf = true) (_w0_7 : (Lit.int .u16 a0_7).wf = true) (_w0_8 : (Lit.int .i64 a0_8).wf = true) (_w0_9 : (Lit.int .i64 a0_9).wf = true) (_w0_10 : (Lit.int .i64 a0_10).wf = true) (_w0_11 : (Lit.int .i64 a0_11).wf = true) (_w0_12 : (Lit.int .i64 a0_12).wf = true) (_w0_13 : (Lit.int .i64 a0_13).wf = true) (_w0_14 : (Lit.int .i64 a0_14).wf = true) (_w0_15 : (Lit.int .i64 a0_15).wf = true) (_w0_16 : (Lit.int .i64 a0_16).wf = true) (_w0_17 : (Lit.int .i64 a0_17).wf = true) (_w0_18 : (Lit.int .i64 a0_18).wf = true) (_w0_19 : (Lit.int .i64 a0_19).wf = true) (_w0_20 : (Lit.int .i64 a0_20).wf = true) (_w0_21 : (Lit.int .i64 a0_21).wf = true) (_w0_22 : (Lit.int .i64 a0_22).wf = true) (_w0_23 : (Lit.int .i64 a0_23).wf = true) (_w0_24 : (Lit.int .i64 a0_24).wf = true) (_w1 : (Lit.int .i64 a1).wf = true) (w2 : (Lit.int .u8 a2).wf = true) :
    Calls Try.prog 13 #[.agg #[.int .u8 a0_0_0_0, .int .u8 a0_0_0_1, .int .u8 a0_0_0_2, .int .u8 a0_0_0_3, .int .u8 a0_0_0_4, .int .u8 a0_0_0_5, .int .u8 a0_0_1_0, .int .u8 a0_0_1_1, .int .u8 a0_0_1_2, .int .u8 a0_0_1_3, .int .u8 a0_0_1_4, .int .u8 a0_0_1_5, .int .u32 a0_1_0, .int .u32 a0_1_1, .int .i64 a0_2_0, .int .i64 a0_2_1, .int .u32 a0_3, .int .i64 a0_4, .int .u64 a0_5_0, .int .u64 a0_5_1, .int .u64 a0_6_0, .int .u64 a0_6_1, .int .u16 a0_7, .int .i64 a0_8, .int .i64 a0_9, .int .i64 a0_10, .int .i64 a0_11, .int .i64 a0_12, .int .i64 a0_13, .int .i64 a0_14, .int .i64 a0_15, .int .i64 a0_16, .int .i64 a0_17, .int .i64 a0_18, .int .i64 a0_19, .int .i64 a0_20, .int .i64 a0_21, .int .i64 a0_22, .int .i64 a0_23, .int .i64 a0_24], .int .i64 a1, .int .u8 a2] w fun e w' => e = .returned (.bool true) ∧ Below w.heap.size w w' := by
  obtain ⟨n, rfl, hn⟩ := u8_nat w2
  have h0 : (#[.int .u8 a0_0_0_0, .int .u8 a0_0_0_1, .int .u8 a0_0_0_2, .int .u8 a0_0_0_3, .int .u8 a0_0_0_4, .int .u8 a0_0_0_5, .int .u8 a0_0_1_0, .int .u8 a0_0_1_1, .int .u8 a0_0_1_2, .int .u8 a0_0_1_3, .int .u8 a0_0_1_4, .int .u8 a0_0_1_5, .int .u32 a0_1_0, .int .u32 a0_1_1, .int .i64 a0_2_0, .int .i64 a0_2_1, .int .u32 a0_3, .int .i64 a0_4, .int .u64 a0_5_0, .int .u64 a0_5_1, .int .u64 a0_6_0, .int .u64 a0_6_1, .int .u16 a0_7, .int .i64 a0_8, .int .i64 a0_9, .int .i64 a0_10, .int .i64 a0_11, .int .i64 a0_12, .int .i64 a0_13, .int .i64 a0_14, .int .i64 a0_15, .int .i64 a0_16, .int .i64 a0_17, .int .i64 a0_18, .int .i64 a0_19, .int .i64 a0_20, .int .i64 a0_21, .int .i64 a0_22, .int .i64 a0_23, .int .i64 a0_24] : Array Value).size = 40 := by kernel_rfl
  have h1 : ∀ cs : Array Value, cs = #[.int .u8 a0_0_0_0, .int .u8 a0_0_0_1, .int .u8 a0_0_0_2, .int .u8 a0_0_0_3, .int .u8 a0_0_0_4, .int .u8 a0_0_0_5, .int .u8 a0_0_1_0, .int .u8 a0_0_1_1, .int .u8 a0_0_1_2, .int .u8 a0_0_1_3, .int .u8 a0_0_1_4, .int .u8 a0_0_1_5, .int .u32 a0_1_0, .int .u32 a0_1_1, .int .i64 a0_2_0, .int .i64 a0_2_1, .int .u32 a0_3, .int .i64 a0_4, .int .u64 a0_5_0, .int .u64 a0_5_1, .int .u64 a0_6_0, .int .u64 a0_6_1, .int .u16 a0_7, .int .i64 a0_8, .int .i64 a0_9, .int .i64 a0_10, .int .i64 a0_11, .int .i64 a0_12, .int .i64 a0_13, .int .i64 a0_14, .int .i64 a0_15, .int .i64 a0_16, .int .i64 a0_17, .int .i64 a0_18, .int .i64 a0_19, .int .i64 a0_20, .int .i64 a0_21, .int .i64 a0_22, .int .i64 a0_23, .int .i64 a0_24] → cs[32]? = some (.int .i64 a0_17) ∧ cs[33]? = some (.int .i64 a0_18) ∧ cs[34]? = some (.int .i64 a0_19) ∧ cs[35]? = some (.int .i64 a0_20) := by
    intro cs h
    subst h
    simp
  obtain ⟨q1, q2, q3, q4⟩ := h1 _ rfl
  exact goes_any _ h0 _ _ _ _ a1 q1 q2 q3 q4 n hn w
end Go.Proofs.Ytbcofkiefompgaa
