/- The walks of the statements on score. -/
import Derived.Test.YtbcofkiefompgaaLaw20
import Derived.Test.YtbcofkiefompgaaReg
import Derived.Deep.RegionHeld3
namespace Go.Proofs.Ytbcofkiefompgaa
open Go.RowKit

theorem pureC {P : Program} {f : Nat} {args : Array Value} {w : World} {v : Value} (h : Calls P f args w fun e w' => e = .returned v ∧ w = w') : Calls P f args w fun e w' => e = .returned v ∧ Below w.heap.size w w' :=
  h.mono fun _ _ he => ⟨he.1, by rw [← he.2]; exact Below.refl _ _⟩
theorem norm_of (n : Int) (h : n ≤ 9223372036854775807) : ∃ r : Nat, (if n < 1 then 1 else n) = (r : Int) ∧ 1 ≤ r ∧ r ≤ 9223372036854775807 := by
  by_cases h1 : n < 1
  · exact ⟨1, by rw [if_pos h1]; rfl, by omega, by omega⟩
  · exact ⟨n.toNat, by rw [if_neg h1]; omega, by omega, by omega⟩
theorem foldS_norm (rise fall : Int) (r f : Nat) (hr : (if rise < 1 then 1 else rise) = (r : Int)) (hf : (if fall < 1 then 1 else fall) = (f : Int)) (l : List Bool) : foldS rise fall l = foldS r f l := by
  have : stepS rise fall = stepS r f := by
    funext s g
    unfold stepS
    have h1 : (rise ≤ ((s.2.1 + 1 : Nat) : Int)) = ((r : Int) ≤ ((s.2.1 + 1 : Nat) : Int)) := by rw [← hr]; apply propext; split <;> omega
    have h2 : (fall ≤ ((s.2.2 + 1 : Nat) : Int)) = ((f : Int) ≤ ((s.2.2 + 1 : Nat) : Int)) := by rw [← hf]; apply propext; split <;> omega
    simp only [h1, h2]
  unfold foldS
  rw [this]

set_option maxHeartbeats 4000000 in
theorem ScoreOf_walk (a0 : Option Addr) (len0 cap0 : Nat) (a1 a2 : Int) (w : World) (w0 : InBools w a0 len0 cap0) (w1 : (Lit.int .i64 a1).wf = true) (w2 : (Lit.int .i64 a2).wf = true) :
    Calls Try.prog 10 #[.slice a0 len0 cap0, .int .i64 a1, .int .i64 a2] w fun e w' => e = .returned (.bool true) ∧ Below w.heap.size w w' := by
  obtain ⟨l, hll, ha, HFa⟩ := bfew_row w0 60 (by omega)
  obtain ⟨r, hr, hr1, hr2⟩ := norm_of a1 (i64_of w1).2
  obtain ⟨f, hf, hf1, hf2⟩ := norm_of a2 (i64_of w2).2
  have hup := foldS_up r f hr1 hf1 l
  rw [← foldS_norm a1 a2 r f hr hf l] at hup
  have hlong := foldS_long a1 a2 l
  have OF := fun W (h : Rd bb W W.heap.size a0 cap0 l) => ofs_any l a0 cap0 a1 a2 W h (by omega)
  obtain ⟨⟨u, g, b⟩, hs⟩ : ∃ s, foldS a1 a2 l = s := ⟨_, rfl⟩
  rw [hs] at hup hlong OF
  simp only at hup hlong OF
  have UP := fun W (h : Rd bb W W.heap.size a0 cap0 l) => rup_any l a0 cap0 a1 a2 W h (by omega) r f hr hf hr2 hf2 u hup
  have R1 := fun W (h : Rd bb W W.heap.size a0 cap0 l) => rlong_any l a0 cap0 true W h (by omega) g hlong.1.symm
  have R2 := fun W (h : Rd bb W W.heap.size a0 cap0 l) => rlong_any l a0 cap0 false W h (by omega) b hlong.2.symm
  have S1 := fun W (h : Rd bb W W.heap.size a0 cap0 l) => slong_any l a0 cap0 true W h (by omega) g hlong.1.symm
  have S2 := fun W (h : Rd bb W W.heap.size a0 cap0 l) => slong_any l a0 cap0 false W h (by omega) b hlong.2.symm
  clear w0 w1 w2 hr hf hr1 hf1 hr2 hf2 hup hlong hs
  have hlc := ha.len
  have hcc := ha.cap
  go_enter Try.func10, Try.ntmps10
  go_wp2_with fail
  refine (HFa.out).mono ?_
  rintro e w_1 ⟨rfl, rfl⟩
  go_wp2_with fail
  refine (OF _ ha).mono ?_
  rintro e w1 ⟨rfl, hbel⟩
  have hB := bnext (Below.refl w.heap.size w) hbel
  have ha1 := ha.next hbel
  have hBk := Blk.new w1 #[.bool u, .int .i64 (g : Nat), .int .i64 (b : Nat)] 68
  have ha2 := ha1.nextA (.cells #[.bool u, .int .i64 (g : Nat), .int .i64 (b : Nat)] 68)
  have hB2 := bnextA hB (.cells #[.bool u, .int .i64 (g : Nat), .int .i64 (b : Nat)] 68)
  go_wp2_with fail
  generalize w1.alloc (.cells #[.bool u, .int .i64 (g : Nat), .int .i64 (b : Nat)] 68) = V at hBk ha2 hB2 ⊢
  obtain ⟨p0, p1, p2, f0, f1, f2⟩ := hBk.get3
  have hlt := hBk.lt
  clear ha ha1 hBk OF HFa hbel hB f0 f1 f2
  --REGION
  have hC : ∀ W, Below V.heap.size V W → W.cell? ⟨w1.heap.size, 0, none⟩ = some (.bool u) ∧ W.cell? ⟨w1.heap.size, 1, none⟩ = some (.int .i64 (g : Nat)) ∧ W.cell? ⟨w1.heap.size, 2, none⟩ = some (.int .i64 (b : Nat)) := fun W h => ⟨(h.cell hlt).trans p0, (h.cell hlt).trans p1, (h.cell hlt).trans p2⟩
  refine region_vals (by kernel_rfl) (by kernel_rfl) (by kernel_rfl) 52 rfl (by kernel_rfl) V (Below.refl _ _) [.pointer (some ⟨w1.heap.size, 0, none⟩), .bool u, .slice a0 l.length cap0, .int .i64 a1, .int .i64 a2, .bool u, .bool true, .bool true, .pointer (some ⟨w1.heap.size, 1, none⟩), .int .i64 (g : Nat), .slice a0 l.length cap0, .int .i64 (g : Nat), .bool true, .bool true, .bool true, .pointer (some ⟨w1.heap.size, 2, none⟩), .int .i64 (b : Nat), .slice a0 l.length cap0, .int .i64 (b : Nat), .bool true, .bool true, .bool true, .slice a0 l.length cap0, .int .i64 (g : Nat), .pointer (some ⟨w1.heap.size, 1, none⟩), .int .i64 (g : Nat), .bool true, .bool true, .bool true, .slice a0 l.length cap0, .int .i64 (b : Nat), .pointer (some ⟨w1.heap.size, 2, none⟩), .int .i64 (b : Nat), .bool true, .bool true, .bool true, .bool true, .bool true, .bool true] rfl ?_ ?_
  · intro i o uu W x ho hx hVW hd
    rcases i with _|_|_|_|_|_|_|_|_|_|_|_|_|_|_|_|_|_|_|_|_|_|_|_|_|_|_|_|_|_|_|_|_|_|_|_|_|_|_|i
    · obtain rfl := Option.some.inj ho
      obtain rfl := Option.some.inj hx
      refine .inl ⟨wanted_none rfl, ?_⟩
      generalize hev : Act.eval _ = ev
      have ec : ∀ c, ev (.const c) = c := fun c => by rw [← hev]; rfl
      have e7 : ev (.tmp 7) = .pointer (some ⟨w1.heap.size, 0, none⟩) := by rw [← hev]; exact eval_old (by kernel_rfl) 52 rfl (by decide) rfl
      clear hev hd
      exact .inl ⟨W, by go_simp, Below.refl _ _⟩
    · obtain rfl := Option.some.inj ho
      obtain rfl := Option.some.inj hx
      have q0 : uu 0 = .pointer (some ⟨w1.heap.size, 0, none⟩) := hd 0 (by kernel_rfl) _ rfl
      refine .inl ⟨wanted_none rfl, ?_⟩
      generalize hev : Act.eval _ = ev
      have ec : ∀ c, ev (.const c) = c := fun c => by rw [← hev]; rfl
      have e14 : ev (.tmp 14) = .pointer (some ⟨w1.heap.size, 0, none⟩) := by rw [← hev]; exact (eval_put (by kernel_rfl) 52 rfl (by decide)).trans q0
      clear hev hd q0
      obtain ⟨cc0, cc1, cc2⟩ := hC W hVW
      exact .inl ⟨W, by go_simp, Below.refl _ _⟩
    · obtain rfl := Option.some.inj ho
      obtain rfl := Option.some.inj hx
      refine .inl ⟨wanted_none rfl, ?_⟩
      generalize hev : Act.eval _ = ev
      have ec : ∀ c, ev (.const c) = c := fun c => by rw [← hev]; rfl
      have e0 : ev (.tmp 0) = .slice a0 l.length cap0 := by rw [← hev]; exact eval_old (by kernel_rfl) 52 rfl (by decide) rfl
      clear hev hd
      exact .inl ⟨W, by go_simp, Below.refl _ _⟩
    · obtain rfl := Option.some.inj ho
      obtain rfl := Option.some.inj hx
      refine .inl ⟨wanted_none rfl, ?_⟩
      generalize hev : Act.eval _ = ev
      have ec : ∀ c, ev (.const c) = c := fun c => by rw [← hev]; rfl
      have e1 : ev (.tmp 1) = .int .i64 a1 := by rw [← hev]; exact eval_old (by kernel_rfl) 52 rfl (by decide) rfl
      clear hev hd
      exact .inl ⟨W, by go_simp, Below.refl _ _⟩
    · obtain rfl := Option.some.inj ho
      obtain rfl := Option.some.inj hx
      refine .inl ⟨wanted_none rfl, ?_⟩
      generalize hev : Act.eval _ = ev
      have ec : ∀ c, ev (.const c) = c := fun c => by rw [← hev]; rfl
      have e2 : ev (.tmp 2) = .int .i64 a2 := by rw [← hev]; exact eval_old (by kernel_rfl) 52 rfl (by decide) rfl
      clear hev hd
      exact .inl ⟨W, by go_simp, Below.refl _ _⟩
    · obtain rfl := Option.some.inj ho
      obtain rfl := Option.some.inj hx
      have q2 : uu 2 = .slice a0 l.length cap0 := hd 2 (by kernel_rfl) _ rfl
      have q3 : uu 3 = .int .i64 a1 := hd 3 (by kernel_rfl) _ rfl
      have q4 : uu 4 = .int .i64 a2 := hd 4 (by kernel_rfl) _ rfl
      refine .inl ⟨wanted_none rfl, ?_⟩
      generalize hev : Act.eval _ = ev
      have ec : ∀ c, ev (.const c) = c := fun c => by rw [← hev]; rfl
      have ef : ∀ f, ev (.func f) = .func (.func f) #[] #[] := fun f => by rw [← hev]; rfl
      have e16 : ev (.tmp 16) = .slice a0 l.length cap0 := by rw [← hev]; exact (eval_put (by kernel_rfl) 52 rfl (by decide)).trans q2
      have e17 : ev (.tmp 17) = .int .i64 a1 := by rw [← hev]; exact (eval_put (by kernel_rfl) 52 rfl (by decide)).trans q3
      have e18 : ev (.tmp 18) = .int .i64 a2 := by rw [← hev]; exact (eval_put (by kernel_rfl) 52 rfl (by decide)).trans q4
      clear hev hd q2 q3 q4
      exact .inr ⟨_, _, by go_simp, pureC (UP W (ha2.next hVW))⟩
    · obtain rfl := Option.some.inj ho
      obtain rfl := Option.some.inj hx
      have q1 : uu 1 = .bool u := hd 1 (by kernel_rfl) _ rfl
      have q5 : uu 5 = .bool u := hd 5 (by kernel_rfl) _ rfl
      refine .inl ⟨wanted_none rfl, ?_⟩
      generalize hev : Act.eval _ = ev
      have ec : ∀ c, ev (.const c) = c := fun c => by rw [← hev]; rfl
      have e15 : ev (.tmp 15) = .bool u := by rw [← hev]; exact (eval_put (by kernel_rfl) 52 rfl (by decide)).trans q1
      have e19 : ev (.tmp 19) = .bool u := by rw [← hev]; exact (eval_put (by kernel_rfl) 52 rfl (by decide)).trans q5
      clear hev hd q1 q5
      exact .inl ⟨W, by go_simp, Below.refl _ _⟩
    · obtain rfl := Option.some.inj ho
      obtain rfl := Option.some.inj hx
      have q6 : uu 6 = .bool true := hd 6 (by kernel_rfl) _ rfl
      refine .inl ⟨wanted_none rfl, ?_⟩
      generalize hev : Act.eval _ = ev
      have ec : ∀ c, ev (.const c) = c := fun c => by rw [← hev]; rfl
      have e20 : ev (.tmp 20) = .bool true := by rw [← hev]; exact (eval_put (by kernel_rfl) 52 rfl (by decide)).trans q6
      clear hev hd q6
      exact .inl ⟨W, by go_simp, Below.refl _ _⟩
    · obtain rfl := Option.some.inj ho
      obtain rfl := Option.some.inj hx
      have q7 : uu 7 = .bool true := hd 7 (by kernel_rfl) _ rfl
      refine .inl ⟨wanted_yes rfl (yielded_put (k := 21) (by kernel_rfl) (by kernel_rfl) 52 rfl (by decide) q7), ?_⟩
      generalize hev : Act.eval _ = ev
      have ec : ∀ c, ev (.const c) = c := fun c => by rw [← hev]; rfl
      have e7 : ev (.tmp 7) = .pointer (some ⟨w1.heap.size, 0, none⟩) := by rw [← hev]; exact eval_old (by kernel_rfl) 52 rfl (by decide) rfl
      clear hev hd q7
      exact .inl ⟨W, by go_simp, Below.refl _ _⟩
    · obtain rfl := Option.some.inj ho
      obtain rfl := Option.some.inj hx
      have q8 : uu 8 = .pointer (some ⟨w1.heap.size, 1, none⟩) := hd 8 (by kernel_rfl) _ rfl
      have q7 : uu 7 = .bool true := hd 7 (by kernel_rfl) _ rfl
      refine .inl ⟨wanted_yes rfl (yielded_put (k := 21) (by kernel_rfl) (by kernel_rfl) 52 rfl (by decide) q7), ?_⟩
      generalize hev : Act.eval _ = ev
      have ec : ∀ c, ev (.const c) = c := fun c => by rw [← hev]; rfl
      have e22 : ev (.tmp 22) = .pointer (some ⟨w1.heap.size, 1, none⟩) := by rw [← hev]; exact (eval_put (by kernel_rfl) 52 rfl (by decide)).trans q8
      clear hev hd q8 q7
      obtain ⟨cc0, cc1, cc2⟩ := hC W hVW
      exact .inl ⟨W, by go_simp, Below.refl _ _⟩
    · obtain rfl := Option.some.inj ho
      obtain rfl := Option.some.inj hx
      have q7 : uu 7 = .bool true := hd 7 (by kernel_rfl) _ rfl
      refine .inl ⟨wanted_yes rfl (yielded_put (k := 21) (by kernel_rfl) (by kernel_rfl) 52 rfl (by decide) q7), ?_⟩
      generalize hev : Act.eval _ = ev
      have ec : ∀ c, ev (.const c) = c := fun c => by rw [← hev]; rfl
      have e0 : ev (.tmp 0) = .slice a0 l.length cap0 := by rw [← hev]; exact eval_old (by kernel_rfl) 52 rfl (by decide) rfl
      clear hev hd q7
      exact .inl ⟨W, by go_simp, Below.refl _ _⟩
    · obtain rfl := Option.some.inj ho
      obtain rfl := Option.some.inj hx
      have q10 : uu 10 = .slice a0 l.length cap0 := hd 10 (by kernel_rfl) _ rfl
      have q7 : uu 7 = .bool true := hd 7 (by kernel_rfl) _ rfl
      refine .inl ⟨wanted_yes rfl (yielded_put (k := 21) (by kernel_rfl) (by kernel_rfl) 52 rfl (by decide) q7), ?_⟩
      generalize hev : Act.eval _ = ev
      have ec : ∀ c, ev (.const c) = c := fun c => by rw [← hev]; rfl
      have ef : ∀ f, ev (.func f) = .func (.func f) #[] #[] := fun f => by rw [← hev]; rfl
      have e24 : ev (.tmp 24) = .slice a0 l.length cap0 := by rw [← hev]; exact (eval_put (by kernel_rfl) 52 rfl (by decide)).trans q10
      clear hev hd q10 q7
      exact .inr ⟨_, _, by go_simp, pureC (R1 W (ha2.next hVW))⟩
    · obtain rfl := Option.some.inj ho
      obtain rfl := Option.some.inj hx
      have q9 : uu 9 = .int .i64 (g : Nat) := hd 9 (by kernel_rfl) _ rfl
      have q11 : uu 11 = .int .i64 (g : Nat) := hd 11 (by kernel_rfl) _ rfl
      have q7 : uu 7 = .bool true := hd 7 (by kernel_rfl) _ rfl
      refine .inl ⟨wanted_yes rfl (yielded_put (k := 21) (by kernel_rfl) (by kernel_rfl) 52 rfl (by decide) q7), ?_⟩
      generalize hev : Act.eval _ = ev
      have ec : ∀ c, ev (.const c) = c := fun c => by rw [← hev]; rfl
      have e23 : ev (.tmp 23) = .int .i64 (g : Nat) := by rw [← hev]; exact (eval_put (by kernel_rfl) 52 rfl (by decide)).trans q9
      have e25 : ev (.tmp 25) = .int .i64 (g : Nat) := by rw [← hev]; exact (eval_put (by kernel_rfl) 52 rfl (by decide)).trans q11
      clear hev hd q9 q11 q7
      exact .inl ⟨W, by go_simp, Below.refl _ _⟩
    · obtain rfl := Option.some.inj ho
      obtain rfl := Option.some.inj hx
      have q7 : uu 7 = .bool true := hd 7 (by kernel_rfl) _ rfl
      have q12 : uu 12 = .bool true := hd 12 (by kernel_rfl) _ rfl
      refine .inl ⟨wanted_none rfl, ?_⟩
      generalize hev : Act.eval _ = ev
      have ec : ∀ c, ev (.const c) = c := fun c => by rw [← hev]; rfl
      have e21 : ev (.tmp 21) = .bool true := by rw [← hev]; exact (eval_put (by kernel_rfl) 52 rfl (by decide)).trans q7
      have e26 : ev (.tmp 26) = .bool true := by rw [← hev]; exact (eval_put (by kernel_rfl) 52 rfl (by decide)).trans q12
      clear hev hd q7 q12
      exact .inl ⟨W, by go_simp, Below.refl _ _⟩
    · obtain rfl := Option.some.inj ho
      obtain rfl := Option.some.inj hx
      have q13 : uu 13 = .bool true := hd 13 (by kernel_rfl) _ rfl
      refine .inl ⟨wanted_none rfl, ?_⟩
      generalize hev : Act.eval _ = ev
      have ec : ∀ c, ev (.const c) = c := fun c => by rw [← hev]; rfl
      have e27 : ev (.tmp 27) = .bool true := by rw [← hev]; exact (eval_put (by kernel_rfl) 52 rfl (by decide)).trans q13
      clear hev hd q13
      exact .inl ⟨W, by go_simp, Below.refl _ _⟩
    · obtain rfl := Option.some.inj ho
      obtain rfl := Option.some.inj hx
      have q14 : uu 14 = .bool true := hd 14 (by kernel_rfl) _ rfl
      refine .inl ⟨wanted_yes rfl (yielded_put (k := 28) (by kernel_rfl) (by kernel_rfl) 52 rfl (by decide) q14), ?_⟩
      generalize hev : Act.eval _ = ev
      have ec : ∀ c, ev (.const c) = c := fun c => by rw [← hev]; rfl
      have e7 : ev (.tmp 7) = .pointer (some ⟨w1.heap.size, 0, none⟩) := by rw [← hev]; exact eval_old (by kernel_rfl) 52 rfl (by decide) rfl
      clear hev hd q14
      exact .inl ⟨W, by go_simp, Below.refl _ _⟩
    · obtain rfl := Option.some.inj ho
      obtain rfl := Option.some.inj hx
      have q15 : uu 15 = .pointer (some ⟨w1.heap.size, 2, none⟩) := hd 15 (by kernel_rfl) _ rfl
      have q14 : uu 14 = .bool true := hd 14 (by kernel_rfl) _ rfl
      refine .inl ⟨wanted_yes rfl (yielded_put (k := 28) (by kernel_rfl) (by kernel_rfl) 52 rfl (by decide) q14), ?_⟩
      generalize hev : Act.eval _ = ev
      have ec : ∀ c, ev (.const c) = c := fun c => by rw [← hev]; rfl
      have e29 : ev (.tmp 29) = .pointer (some ⟨w1.heap.size, 2, none⟩) := by rw [← hev]; exact (eval_put (by kernel_rfl) 52 rfl (by decide)).trans q15
      clear hev hd q15 q14
      obtain ⟨cc0, cc1, cc2⟩ := hC W hVW
      exact .inl ⟨W, by go_simp, Below.refl _ _⟩
    · obtain rfl := Option.some.inj ho
      obtain rfl := Option.some.inj hx
      have q14 : uu 14 = .bool true := hd 14 (by kernel_rfl) _ rfl
      refine .inl ⟨wanted_yes rfl (yielded_put (k := 28) (by kernel_rfl) (by kernel_rfl) 52 rfl (by decide) q14), ?_⟩
      generalize hev : Act.eval _ = ev
      have ec : ∀ c, ev (.const c) = c := fun c => by rw [← hev]; rfl
      have e0 : ev (.tmp 0) = .slice a0 l.length cap0 := by rw [← hev]; exact eval_old (by kernel_rfl) 52 rfl (by decide) rfl
      clear hev hd q14
      exact .inl ⟨W, by go_simp, Below.refl _ _⟩
    · obtain rfl := Option.some.inj ho
      obtain rfl := Option.some.inj hx
      have q17 : uu 17 = .slice a0 l.length cap0 := hd 17 (by kernel_rfl) _ rfl
      have q14 : uu 14 = .bool true := hd 14 (by kernel_rfl) _ rfl
      refine .inl ⟨wanted_yes rfl (yielded_put (k := 28) (by kernel_rfl) (by kernel_rfl) 52 rfl (by decide) q14), ?_⟩
      generalize hev : Act.eval _ = ev
      have ec : ∀ c, ev (.const c) = c := fun c => by rw [← hev]; rfl
      have ef : ∀ f, ev (.func f) = .func (.func f) #[] #[] := fun f => by rw [← hev]; rfl
      have e31 : ev (.tmp 31) = .slice a0 l.length cap0 := by rw [← hev]; exact (eval_put (by kernel_rfl) 52 rfl (by decide)).trans q17
      clear hev hd q17 q14
      exact .inr ⟨_, _, by go_simp, pureC (R2 W (ha2.next hVW))⟩
    · obtain rfl := Option.some.inj ho
      obtain rfl := Option.some.inj hx
      have q16 : uu 16 = .int .i64 (b : Nat) := hd 16 (by kernel_rfl) _ rfl
      have q18 : uu 18 = .int .i64 (b : Nat) := hd 18 (by kernel_rfl) _ rfl
      have q14 : uu 14 = .bool true := hd 14 (by kernel_rfl) _ rfl
      refine .inl ⟨wanted_yes rfl (yielded_put (k := 28) (by kernel_rfl) (by kernel_rfl) 52 rfl (by decide) q14), ?_⟩
      generalize hev : Act.eval _ = ev
      have ec : ∀ c, ev (.const c) = c := fun c => by rw [← hev]; rfl
      have e30 : ev (.tmp 30) = .int .i64 (b : Nat) := by rw [← hev]; exact (eval_put (by kernel_rfl) 52 rfl (by decide)).trans q16
      have e32 : ev (.tmp 32) = .int .i64 (b : Nat) := by rw [← hev]; exact (eval_put (by kernel_rfl) 52 rfl (by decide)).trans q18
      clear hev hd q16 q18 q14
      exact .inl ⟨W, by go_simp, Below.refl _ _⟩
    · obtain rfl := Option.some.inj ho
      obtain rfl := Option.some.inj hx
      have q14 : uu 14 = .bool true := hd 14 (by kernel_rfl) _ rfl
      have q19 : uu 19 = .bool true := hd 19 (by kernel_rfl) _ rfl
      refine .inl ⟨wanted_none rfl, ?_⟩
      generalize hev : Act.eval _ = ev
      have ec : ∀ c, ev (.const c) = c := fun c => by rw [← hev]; rfl
      have e28 : ev (.tmp 28) = .bool true := by rw [← hev]; exact (eval_put (by kernel_rfl) 52 rfl (by decide)).trans q14
      have e33 : ev (.tmp 33) = .bool true := by rw [← hev]; exact (eval_put (by kernel_rfl) 52 rfl (by decide)).trans q19
      clear hev hd q14 q19
      exact .inl ⟨W, by go_simp, Below.refl _ _⟩
    · obtain rfl := Option.some.inj ho
      obtain rfl := Option.some.inj hx
      have q20 : uu 20 = .bool true := hd 20 (by kernel_rfl) _ rfl
      refine .inl ⟨wanted_none rfl, ?_⟩
      generalize hev : Act.eval _ = ev
      have ec : ∀ c, ev (.const c) = c := fun c => by rw [← hev]; rfl
      have e34 : ev (.tmp 34) = .bool true := by rw [← hev]; exact (eval_put (by kernel_rfl) 52 rfl (by decide)).trans q20
      clear hev hd q20
      exact .inl ⟨W, by go_simp, Below.refl _ _⟩
    · obtain rfl := Option.some.inj ho
      obtain rfl := Option.some.inj hx
      have q21 : uu 21 = .bool true := hd 21 (by kernel_rfl) _ rfl
      refine .inl ⟨wanted_yes rfl (yielded_put (k := 35) (by kernel_rfl) (by kernel_rfl) 52 rfl (by decide) q21), ?_⟩
      generalize hev : Act.eval _ = ev
      have ec : ∀ c, ev (.const c) = c := fun c => by rw [← hev]; rfl
      have e0 : ev (.tmp 0) = .slice a0 l.length cap0 := by rw [← hev]; exact eval_old (by kernel_rfl) 52 rfl (by decide) rfl
      clear hev hd q21
      exact .inl ⟨W, by go_simp, Below.refl _ _⟩
    · obtain rfl := Option.some.inj ho
      obtain rfl := Option.some.inj hx
      have q22 : uu 22 = .slice a0 l.length cap0 := hd 22 (by kernel_rfl) _ rfl
      have q21 : uu 21 = .bool true := hd 21 (by kernel_rfl) _ rfl
      refine .inl ⟨wanted_yes rfl (yielded_put (k := 35) (by kernel_rfl) (by kernel_rfl) 52 rfl (by decide) q21), ?_⟩
      generalize hev : Act.eval _ = ev
      have ec : ∀ c, ev (.const c) = c := fun c => by rw [← hev]; rfl
      have ef : ∀ f, ev (.func f) = .func (.func f) #[] #[] := fun f => by rw [← hev]; rfl
      have e36 : ev (.tmp 36) = .slice a0 l.length cap0 := by rw [← hev]; exact (eval_put (by kernel_rfl) 52 rfl (by decide)).trans q22
      clear hev hd q22 q21
      exact .inr ⟨_, _, by go_simp, pureC (S1 W (ha2.next hVW))⟩
    · obtain rfl := Option.some.inj ho
      obtain rfl := Option.some.inj hx
      have q21 : uu 21 = .bool true := hd 21 (by kernel_rfl) _ rfl
      refine .inl ⟨wanted_yes rfl (yielded_put (k := 35) (by kernel_rfl) (by kernel_rfl) 52 rfl (by decide) q21), ?_⟩
      generalize hev : Act.eval _ = ev
      have ec : ∀ c, ev (.const c) = c := fun c => by rw [← hev]; rfl
      have e7 : ev (.tmp 7) = .pointer (some ⟨w1.heap.size, 0, none⟩) := by rw [← hev]; exact eval_old (by kernel_rfl) 52 rfl (by decide) rfl
      clear hev hd q21
      exact .inl ⟨W, by go_simp, Below.refl _ _⟩
    · obtain rfl := Option.some.inj ho
      obtain rfl := Option.some.inj hx
      have q24 : uu 24 = .pointer (some ⟨w1.heap.size, 1, none⟩) := hd 24 (by kernel_rfl) _ rfl
      have q21 : uu 21 = .bool true := hd 21 (by kernel_rfl) _ rfl
      refine .inl ⟨wanted_yes rfl (yielded_put (k := 35) (by kernel_rfl) (by kernel_rfl) 52 rfl (by decide) q21), ?_⟩
      generalize hev : Act.eval _ = ev
      have ec : ∀ c, ev (.const c) = c := fun c => by rw [← hev]; rfl
      have e38 : ev (.tmp 38) = .pointer (some ⟨w1.heap.size, 1, none⟩) := by rw [← hev]; exact (eval_put (by kernel_rfl) 52 rfl (by decide)).trans q24
      clear hev hd q24 q21
      obtain ⟨cc0, cc1, cc2⟩ := hC W hVW
      exact .inl ⟨W, by go_simp, Below.refl _ _⟩
    · obtain rfl := Option.some.inj ho
      obtain rfl := Option.some.inj hx
      have q23 : uu 23 = .int .i64 (g : Nat) := hd 23 (by kernel_rfl) _ rfl
      have q25 : uu 25 = .int .i64 (g : Nat) := hd 25 (by kernel_rfl) _ rfl
      have q21 : uu 21 = .bool true := hd 21 (by kernel_rfl) _ rfl
      refine .inl ⟨wanted_yes rfl (yielded_put (k := 35) (by kernel_rfl) (by kernel_rfl) 52 rfl (by decide) q21), ?_⟩
      generalize hev : Act.eval _ = ev
      have ec : ∀ c, ev (.const c) = c := fun c => by rw [← hev]; rfl
      have e37 : ev (.tmp 37) = .int .i64 (g : Nat) := by rw [← hev]; exact (eval_put (by kernel_rfl) 52 rfl (by decide)).trans q23
      have e39 : ev (.tmp 39) = .int .i64 (g : Nat) := by rw [← hev]; exact (eval_put (by kernel_rfl) 52 rfl (by decide)).trans q25
      clear hev hd q23 q25 q21
      exact .inl ⟨W, by go_simp, Below.refl _ _⟩
    · obtain rfl := Option.some.inj ho
      obtain rfl := Option.some.inj hx
      have q21 : uu 21 = .bool true := hd 21 (by kernel_rfl) _ rfl
      have q26 : uu 26 = .bool true := hd 26 (by kernel_rfl) _ rfl
      refine .inl ⟨wanted_none rfl, ?_⟩
      generalize hev : Act.eval _ = ev
      have ec : ∀ c, ev (.const c) = c := fun c => by rw [← hev]; rfl
      have e35 : ev (.tmp 35) = .bool true := by rw [← hev]; exact (eval_put (by kernel_rfl) 52 rfl (by decide)).trans q21
      have e40 : ev (.tmp 40) = .bool true := by rw [← hev]; exact (eval_put (by kernel_rfl) 52 rfl (by decide)).trans q26
      clear hev hd q21 q26
      exact .inl ⟨W, by go_simp, Below.refl _ _⟩
    · obtain rfl := Option.some.inj ho
      obtain rfl := Option.some.inj hx
      have q27 : uu 27 = .bool true := hd 27 (by kernel_rfl) _ rfl
      refine .inl ⟨wanted_none rfl, ?_⟩
      generalize hev : Act.eval _ = ev
      have ec : ∀ c, ev (.const c) = c := fun c => by rw [← hev]; rfl
      have e41 : ev (.tmp 41) = .bool true := by rw [← hev]; exact (eval_put (by kernel_rfl) 52 rfl (by decide)).trans q27
      clear hev hd q27
      exact .inl ⟨W, by go_simp, Below.refl _ _⟩
    · obtain rfl := Option.some.inj ho
      obtain rfl := Option.some.inj hx
      have q28 : uu 28 = .bool true := hd 28 (by kernel_rfl) _ rfl
      refine .inl ⟨wanted_yes rfl (yielded_put (k := 42) (by kernel_rfl) (by kernel_rfl) 52 rfl (by decide) q28), ?_⟩
      generalize hev : Act.eval _ = ev
      have ec : ∀ c, ev (.const c) = c := fun c => by rw [← hev]; rfl
      have e0 : ev (.tmp 0) = .slice a0 l.length cap0 := by rw [← hev]; exact eval_old (by kernel_rfl) 52 rfl (by decide) rfl
      clear hev hd q28
      exact .inl ⟨W, by go_simp, Below.refl _ _⟩
    · obtain rfl := Option.some.inj ho
      obtain rfl := Option.some.inj hx
      have q29 : uu 29 = .slice a0 l.length cap0 := hd 29 (by kernel_rfl) _ rfl
      have q28 : uu 28 = .bool true := hd 28 (by kernel_rfl) _ rfl
      refine .inl ⟨wanted_yes rfl (yielded_put (k := 42) (by kernel_rfl) (by kernel_rfl) 52 rfl (by decide) q28), ?_⟩
      generalize hev : Act.eval _ = ev
      have ec : ∀ c, ev (.const c) = c := fun c => by rw [← hev]; rfl
      have ef : ∀ f, ev (.func f) = .func (.func f) #[] #[] := fun f => by rw [← hev]; rfl
      have e43 : ev (.tmp 43) = .slice a0 l.length cap0 := by rw [← hev]; exact (eval_put (by kernel_rfl) 52 rfl (by decide)).trans q29
      clear hev hd q29 q28
      exact .inr ⟨_, _, by go_simp, pureC (S2 W (ha2.next hVW))⟩
    · obtain rfl := Option.some.inj ho
      obtain rfl := Option.some.inj hx
      have q28 : uu 28 = .bool true := hd 28 (by kernel_rfl) _ rfl
      refine .inl ⟨wanted_yes rfl (yielded_put (k := 42) (by kernel_rfl) (by kernel_rfl) 52 rfl (by decide) q28), ?_⟩
      generalize hev : Act.eval _ = ev
      have ec : ∀ c, ev (.const c) = c := fun c => by rw [← hev]; rfl
      have e7 : ev (.tmp 7) = .pointer (some ⟨w1.heap.size, 0, none⟩) := by rw [← hev]; exact eval_old (by kernel_rfl) 52 rfl (by decide) rfl
      clear hev hd q28
      exact .inl ⟨W, by go_simp, Below.refl _ _⟩
    · obtain rfl := Option.some.inj ho
      obtain rfl := Option.some.inj hx
      have q31 : uu 31 = .pointer (some ⟨w1.heap.size, 2, none⟩) := hd 31 (by kernel_rfl) _ rfl
      have q28 : uu 28 = .bool true := hd 28 (by kernel_rfl) _ rfl
      refine .inl ⟨wanted_yes rfl (yielded_put (k := 42) (by kernel_rfl) (by kernel_rfl) 52 rfl (by decide) q28), ?_⟩
      generalize hev : Act.eval _ = ev
      have ec : ∀ c, ev (.const c) = c := fun c => by rw [← hev]; rfl
      have e45 : ev (.tmp 45) = .pointer (some ⟨w1.heap.size, 2, none⟩) := by rw [← hev]; exact (eval_put (by kernel_rfl) 52 rfl (by decide)).trans q31
      clear hev hd q31 q28
      obtain ⟨cc0, cc1, cc2⟩ := hC W hVW
      exact .inl ⟨W, by go_simp, Below.refl _ _⟩
    · obtain rfl := Option.some.inj ho
      obtain rfl := Option.some.inj hx
      have q30 : uu 30 = .int .i64 (b : Nat) := hd 30 (by kernel_rfl) _ rfl
      have q32 : uu 32 = .int .i64 (b : Nat) := hd 32 (by kernel_rfl) _ rfl
      have q28 : uu 28 = .bool true := hd 28 (by kernel_rfl) _ rfl
      refine .inl ⟨wanted_yes rfl (yielded_put (k := 42) (by kernel_rfl) (by kernel_rfl) 52 rfl (by decide) q28), ?_⟩
      generalize hev : Act.eval _ = ev
      have ec : ∀ c, ev (.const c) = c := fun c => by rw [← hev]; rfl
      have e44 : ev (.tmp 44) = .int .i64 (b : Nat) := by rw [← hev]; exact (eval_put (by kernel_rfl) 52 rfl (by decide)).trans q30
      have e46 : ev (.tmp 46) = .int .i64 (b : Nat) := by rw [← hev]; exact (eval_put (by kernel_rfl) 52 rfl (by decide)).trans q32
      clear hev hd q30 q32 q28
      exact .inl ⟨W, by go_simp, Below.refl _ _⟩
    · obtain rfl := Option.some.inj ho
      obtain rfl := Option.some.inj hx
      have q28 : uu 28 = .bool true := hd 28 (by kernel_rfl) _ rfl
      have q33 : uu 33 = .bool true := hd 33 (by kernel_rfl) _ rfl
      refine .inl ⟨wanted_none rfl, ?_⟩
      generalize hev : Act.eval _ = ev
      have ec : ∀ c, ev (.const c) = c := fun c => by rw [← hev]; rfl
      have e42 : ev (.tmp 42) = .bool true := by rw [← hev]; exact (eval_put (by kernel_rfl) 52 rfl (by decide)).trans q28
      have e47 : ev (.tmp 47) = .bool true := by rw [← hev]; exact (eval_put (by kernel_rfl) 52 rfl (by decide)).trans q33
      clear hev hd q28 q33
      exact .inl ⟨W, by go_simp, Below.refl _ _⟩
    · obtain rfl := Option.some.inj ho
      obtain rfl := Option.some.inj hx
      have q34 : uu 34 = .bool true := hd 34 (by kernel_rfl) _ rfl
      refine .inl ⟨wanted_none rfl, ?_⟩
      generalize hev : Act.eval _ = ev
      have ec : ∀ c, ev (.const c) = c := fun c => by rw [← hev]; rfl
      have e48 : ev (.tmp 48) = .bool true := by rw [← hev]; exact (eval_put (by kernel_rfl) 52 rfl (by decide)).trans q34
      clear hev hd q34
      exact .inl ⟨W, by go_simp, Below.refl _ _⟩
    · obtain rfl := Option.some.inj ho
      obtain rfl := Option.some.inj hx
      have q35 : uu 35 = .bool true := hd 35 (by kernel_rfl) _ rfl
      refine .inl ⟨wanted_yes rfl (yielded_put (k := 49) (by kernel_rfl) (by kernel_rfl) 52 rfl (by decide) q35), ?_⟩
      generalize hev : Act.eval _ = ev
      have ec : ∀ c, ev (.const c) = c := fun c => by rw [← hev]; rfl
      have ef : ∀ f, ev (.func f) = .func (.func f) #[] #[] := fun f => by rw [← hev]; rfl
      clear hev hd q35
      exact .inr ⟨_, _, by go_simp, slives_any W⟩
    · obtain rfl := Option.some.inj ho
      obtain rfl := Option.some.inj hx
      have q35 : uu 35 = .bool true := hd 35 (by kernel_rfl) _ rfl
      have q36 : uu 36 = .bool true := hd 36 (by kernel_rfl) _ rfl
      refine .inl ⟨wanted_none rfl, ?_⟩
      generalize hev : Act.eval _ = ev
      have ec : ∀ c, ev (.const c) = c := fun c => by rw [← hev]; rfl
      have e49 : ev (.tmp 49) = .bool true := by rw [← hev]; exact (eval_put (by kernel_rfl) 52 rfl (by decide)).trans q35
      have e50 : ev (.tmp 50) = .bool true := by rw [← hev]; exact (eval_put (by kernel_rfl) 52 rfl (by decide)).trans q36
      clear hev hd q35 q36
      exact .inl ⟨W, by go_simp, Below.refl _ _⟩
    · obtain rfl := Option.some.inj ho
      obtain rfl := Option.some.inj hx
      have q37 : uu 37 = .bool true := hd 37 (by kernel_rfl) _ rfl
      refine .inl ⟨wanted_none rfl, ?_⟩
      generalize hev : Act.eval _ = ev
      have ec : ∀ c, ev (.const c) = c := fun c => by rw [← hev]; rfl
      have e51 : ev (.tmp 51) = .bool true := by rw [← hev]; exact (eval_put (by kernel_rfl) 52 rfl (by decide)).trans q37
      clear hev hd q37
      exact .inl ⟨W, by go_simp, Below.refl _ _⟩
    · simp at ho
  · intro W hVW
    go_wp2_with fail
    refine bodyPost_ret (results_tmp rfl _ _ _) (putAll_defers _ _ _ _) ?_
    exact ⟨congrArg Ending.returned (by kernel_rfl), hB2.trans (hVW.mono hB2.size)⟩
end Go.Proofs.Ytbcofkiefompgaa
