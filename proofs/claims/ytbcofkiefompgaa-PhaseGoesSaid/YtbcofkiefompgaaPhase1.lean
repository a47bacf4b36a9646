/- Contracts of package phase and of the reference's functions. -/
import Derived.Test.YtbcofkiefompgaaBlk
import Derived.Test.YtbcofkiefompgaaNum
import Derived.Test.YtbcofkiefompgaaProg
import Derived.BigQuiet
import Derived.Deep.QuietTactic
import Derived.Outline
import Derived.RegionTactic
namespace Go.Proofs.Ytbcofkiefompgaa
open Go.RowKit

/-- The four flags of a byte: RST, FIN, SYN, ACK. -/
structure Fl (n : Nat) (r f s a : Bool) : Prop where
  lt : n < 256
  r1 : bits BinOp.and IntKind.u8 (n : Int) 4 = (if r then 4 else 0)
  f1 : bits BinOp.and IntKind.u8 (n : Int) 1 = (if f then 1 else 0)
  s1 : bits BinOp.and IntKind.u8 (n : Int) 2 = (if s then 2 else 0)
  a1 : bits BinOp.and IntKind.u8 (n : Int) 16 = (if a then 16 else 0)
  r2 : n / 4 % 2 = (if r then 1 else 0)
  f2 : n / 1 % 2 = (if f then 1 else 0)
  s2 : n / 2 % 2 = (if s then 1 else 0)
  a2 : n / 16 % 2 = (if a then 1 else 0)
theorem and_bits : ∀ n : Fin 256, n.val &&& 4 = 4 * (n.val / 4 % 2) ∧ n.val &&& 1 = n.val / 1 % 2 ∧ n.val &&& 2 = 2 * (n.val / 2 % 2) ∧ n.val &&& 16 = 16 * (n.val / 16 % 2) := by decide +kernel
theorem fl_of (n : Nat) (h : n < 256) : ∃ r f s a, Fl n r f s a := by
  obtain ⟨h4, h1, h2, h16⟩ := and_bits ⟨n, h⟩
  simp only at h4 h1 h2 h16
  have b4 := u8_and_nat n 4 h (by omega)
  have b1 := u8_and_nat n 1 h (by omega)
  have b2 := u8_and_nat n 2 h (by omega)
  have b16 := u8_and_nat n 16 h (by omega)
  rw [h4] at b4; rw [h1] at b1; rw [h2] at b2; rw [h16] at b16
  have one : ∀ m : Nat, ∃ b : Bool, m % 2 = if b then 1 else 0 := fun m => by
    rcases Nat.mod_two_eq_zero_or_one m with h | h
    · exact ⟨false, by simp [h]⟩
    · exact ⟨true, by simp [h]⟩
  obtain ⟨r, hr⟩ := one (n / 4)
  obtain ⟨f, hf⟩ := one (n / 1)
  obtain ⟨s, hs⟩ := one (n / 2)
  obtain ⟨a, ha⟩ := one (n / 16)
  refine ⟨r, f, s, a, h, ?_, ?_, ?_, ?_, hr, hf, hs, ha⟩
  · rw [hr] at b4; refine b4.trans ?_; cases r <;> rfl
  · rw [hf] at b1; refine b1.trans ?_; cases f <;> rfl
  · rw [hs] at b2; refine b2.trans ?_; cases s <;> rfl
  · rw [ha] at b16; refine b16.trans ?_; cases a <;> rfl

def beginsP (s a : Bool) : Bool := s && !a
def firstP (r f s a : Bool) : Int := if r then 5 else if f then 3 else if s && !a then 1 else 2
def nextP (p : Int) (r f s a : Bool) : Int :=
  if p = 1 then (if r then 5 else if f then 3 else if a then 2 else 1)
  else if p = 2 then (if r then 5 else if f then 3 else 2)
  else if p = 3 then (if r then 5 else if f then 3 else if s && !a then 1 else 3)
  else p


theorem bit4_any (n : Nat) (b : Bool) (hn : n < 256) (hb : n / 4 % 2 = if b then 1 else 0) (w : World) : Calls Try.prog 80 #[.int .u8 n, .int .i64 4] w fun e w' => e = .returned (.bool b) ∧ w = w' := by
  have hc : IntKind.i64.wrap (n : Int) = (n : Int) := by rw [IntKind.wrap_i64]; omega
  have hd : (n : Int) / 4 % 2 = (if b then 1 else 0) := by cases b <;> simp at hb ⊢ <;> omega
  cases b
  all_goals
    simp at hd
    go_enter Try.func80, Try.ntmps80
    go_wp2
    go_ret
    exact ⟨by first | rfl | simp [hd], rfl⟩


theorem bit1_any (n : Nat) (b : Bool) (hn : n < 256) (hb : n / 1 % 2 = if b then 1 else 0) (w : World) : Calls Try.prog 80 #[.int .u8 n, .int .i64 1] w fun e w' => e = .returned (.bool b) ∧ w = w' := by
  have hc : IntKind.i64.wrap (n : Int) = (n : Int) := by rw [IntKind.wrap_i64]; omega
  have hd : (n : Int) / 1 % 2 = (if b then 1 else 0) := by cases b <;> simp at hb ⊢ <;> omega
  cases b
  all_goals
    simp at hd
    go_enter Try.func80, Try.ntmps80
    go_wp2
    go_ret
    exact ⟨by first | rfl | simp [hd], rfl⟩


theorem bit2_any (n : Nat) (b : Bool) (hn : n < 256) (hb : n / 2 % 2 = if b then 1 else 0) (w : World) : Calls Try.prog 80 #[.int .u8 n, .int .i64 2] w fun e w' => e = .returned (.bool b) ∧ w = w' := by
  have hc : IntKind.i64.wrap (n : Int) = (n : Int) := by rw [IntKind.wrap_i64]; omega
  have hd : (n : Int) / 2 % 2 = (if b then 1 else 0) := by cases b <;> simp at hb ⊢ <;> omega
  cases b
  all_goals
    simp at hd
    go_enter Try.func80, Try.ntmps80
    go_wp2
    go_ret
    exact ⟨by first | rfl | simp [hd], rfl⟩


theorem bit16_any (n : Nat) (b : Bool) (hn : n < 256) (hb : n / 16 % 2 = if b then 1 else 0) (w : World) : Calls Try.prog 80 #[.int .u8 n, .int .i64 16] w fun e w' => e = .returned (.bool b) ∧ w = w' := by
  have hc : IntKind.i64.wrap (n : Int) = (n : Int) := by rw [IntKind.wrap_i64]; omega
  have hd : (n : Int) / 16 % 2 = (if b then 1 else 0) := by cases b <;> simp at hb ⊢ <;> omega
  cases b
  all_goals
    simp at hd
    go_enter Try.func80, Try.ntmps80
    go_wp2
    go_ret
    exact ⟨by first | rfl | simp [hd], rfl⟩


theorem begins_any (n : Nat) (r f s a : Bool) (h : Fl n r f s a) (w : World) : Calls Try.prog 79 #[.int .u8 n] w fun e w' => e = .returned (.bool (beginsP s a)) ∧ w = w' := by
  have hs := h.s1
  have ha := h.a1
  have hn := h.lt
  cases s <;> cases a
  all_goals
    simp at hs ha
    go_enter Try.func79, Try.ntmps79
    go_wp2
    go_ret
    exact ⟨rfl, rfl⟩

theorem first_any (n : Nat) (r f s a : Bool) (h : Fl n r f s a) (w : World) : Calls Try.prog 56 #[.int .u8 n] w fun e w' => e = .returned (.int .i64 (firstP r f s a)) ∧ w = w' := by
  have HB := fun W => Lib.hid (begins_any n r f s a h W)
  have hr := h.r1
  have hf := h.f1
  have hn := h.lt
  cases r
  · cases f
    · obtain ⟨b, hb⟩ : ∃ b, beginsP s a = b := ⟨_, rfl⟩
      rw [hb] at HB
      have hv : firstP false false s a = if b then 1 else 2 := by rw [← hb]; rfl
      rw [hv]
      clear hb hv
      simp at hr hf
      go_enter Try.func56, Try.ntmps56
      go_wp2_with fail
      refine (HB _).out.mono ?_
      rintro e w1 ⟨rfl, rfl⟩
      cases b
      all_goals
        go_wp2_with fail
        go_ret
        exact ⟨rfl, rfl⟩
    · simp at hr hf
      go_enter Try.func56, Try.ntmps56
      go_wp2
      go_ret
      exact ⟨rfl, rfl⟩
  · simp at hr
    go_enter Try.func56, Try.ntmps56
    go_wp2
    go_ret
    exact ⟨rfl, rfl⟩

theorem rfirst_any (n : Nat) (r f s a : Bool) (h : Fl n r f s a) (w : World) : Calls Try.prog 57 #[.int .u8 n] w fun e w' => e = .returned (.int .i64 (firstP r f s a)) ∧ w = w' := by
  have B4 := fun W => Lib.hid (bit4_any n r h.lt h.r2 W)
  have B1 := fun W => Lib.hid (bit1_any n f h.lt h.f2 W)
  have B2 := fun W => Lib.hid (bit2_any n s h.lt h.s2 W)
  have B16 := fun W => Lib.hid (bit16_any n a h.lt h.a2 W)
  clear h
  go_enter Try.func57, Try.ntmps57
  go_wp2_with fail
  refine (B4 _).out.mono ?_
  rintro e w1 ⟨rfl, rfl⟩
  cases r
  · go_wp2_with fail
    refine (B1 _).out.mono ?_
    rintro e w1 ⟨rfl, rfl⟩
    cases f
    · go_wp2_with fail
      refine (B2 _).out.mono ?_
      rintro e w1 ⟨rfl, rfl⟩
      cases s
      · go_wp2_with fail
        go_ret
        exact ⟨rfl, rfl⟩
      · go_wp2_with fail
        refine (B16 _).out.mono ?_
        rintro e w1 ⟨rfl, rfl⟩
        cases a
        all_goals
          go_wp2_with fail
          go_ret
          exact ⟨rfl, rfl⟩
    · go_wp2_with fail
      go_ret
      exact ⟨rfl, rfl⟩
  · go_wp2_with fail
    go_ret
    exact ⟨rfl, rfl⟩

theorem next_other (p : Int) (n : Nat) (r f s a : Bool) (h : ¬ p = 1 ∧ ¬ p = 2 ∧ ¬ p = 3) (w : World) : Calls Try.prog 58 #[.int .i64 p, .int .u8 n] w fun e w' => e = .returned (.int .i64 (nextP p r f s a)) ∧ w = w' := by
  obtain ⟨h1, h2, h3⟩ := h
  have hv : nextP p r f s a = p := by unfold nextP; rw [if_neg h1, if_neg h2, if_neg h3]
  rw [hv]
  clear hv
  have e1 : (p != 1) = true := by simpa using h1
  have e2 : (p != 2) = true := by simpa using h2
  have e3 : (p != 3) = true := by simpa using h3
  clear h1 h2 h3
  go_enter Try.func58, Try.ntmps58
  go_wp2
  go_ret
  exact ⟨rfl, rfl⟩
theorem rnext_other (p : Int) (n : Nat) (r f s a : Bool) (h : ¬ p = 1 ∧ ¬ p = 2 ∧ ¬ p = 3) (w : World) : Calls Try.prog 59 #[.int .i64 p, .int .u8 n] w fun e w' => e = .returned (.int .i64 (nextP p r f s a)) ∧ w = w' := by
  obtain ⟨h1, h2, h3⟩ := h
  have hv : nextP p r f s a = p := by unfold nextP; rw [if_neg h1, if_neg h2, if_neg h3]
  rw [hv]
  clear hv
  have e1 : (p != 1) = true := by simpa using h1
  have e2 : (p != 2) = true := by simpa using h2
  have e3 : (p != 3) = true := by simpa using h3
  clear h1 h2 h3
  go_enter Try.func59, Try.ntmps59
  go_wp2
  go_ret
  exact ⟨rfl, rfl⟩


theorem next_1 (n : Nat) (r f s a : Bool) (h : Fl n r f s a) (w : World) : Calls Try.prog 58 #[.int .i64 1, .int .u8 n] w fun e w' => e = .returned (.int .i64 (nextP 1 r f s a)) ∧ w = w' := by
  have HB := fun W => Lib.hid (begins_any n r f s a h W)
  have hr := h.r1
  have hf := h.f1
  have ha := h.a1
  have hn := h.lt
  clear h
  cases r
  · cases f
    · cases s <;> cases a
      all_goals
        simp at hr hf ha
        go_enter Try.func58, Try.ntmps58
        go_wp2_with fail
        refine (HB _).out.mono ?_
        rintro e w1 ⟨rfl, rfl⟩
        simp only [beginsP]
        go_wp2_with fail
        go_ret
        exact ⟨rfl, rfl⟩
    · simp at hr hf
      go_enter Try.func58, Try.ntmps58
      go_wp2
      go_ret
      exact ⟨rfl, rfl⟩
  · simp at hr
    go_enter Try.func58, Try.ntmps58
    go_wp2
    go_ret
    exact ⟨rfl, rfl⟩
theorem rnext_1 (n : Nat) (r f s a : Bool) (h : Fl n r f s a) (w : World) : Calls Try.prog 59 #[.int .i64 1, .int .u8 n] w fun e w' => e = .returned (.int .i64 (nextP 1 r f s a)) ∧ w = w' := by
  have B4 := fun W => Lib.hid (bit4_any n r h.lt h.r2 W)
  have B1 := fun W => Lib.hid (bit1_any n f h.lt h.f2 W)
  have B2 := fun W => Lib.hid (bit2_any n s h.lt h.s2 W)
  have B16 := fun W => Lib.hid (bit16_any n a h.lt h.a2 W)
  clear h
  go_enter Try.func59, Try.ntmps59
  go_wp2_with fail
  refine (B4 _).out.mono ?_
  rintro e w1 ⟨rfl, rfl⟩
  cases r
  · go_wp2_with fail
    refine (B1 _).out.mono ?_
    rintro e w1 ⟨rfl, rfl⟩
    cases f
    · go_wp2_with fail
      refine (B2 _).out.mono ?_
      rintro e w1 ⟨rfl, rfl⟩
      cases s
      · go_wp2_with fail
        refine (B16 _).out.mono ?_
        rintro e w1 ⟨rfl, rfl⟩
        cases a
        all_goals
          go_wp2_with fail
          go_ret
          exact ⟨rfl, rfl⟩
      · go_wp2_with fail
        refine (B16 _).out.mono ?_
        rintro e w1 ⟨rfl, rfl⟩
        cases a
        · go_wp2_with fail
          go_ret
          exact ⟨rfl, rfl⟩
        · go_wp2_with fail
          refine (B16 _).out.mono ?_
          rintro e w1 ⟨rfl, rfl⟩
          go_wp2_with fail
          go_ret
          exact ⟨rfl, rfl⟩
    · go_wp2_with fail
      go_ret
      exact ⟨rfl, rfl⟩
  · go_wp2_with fail
    go_ret
    exact ⟨rfl, rfl⟩


theorem next_2 (n : Nat) (r f s a : Bool) (h : Fl n r f s a) (w : World) : Calls Try.prog 58 #[.int .i64 2, .int .u8 n] w fun e w' => e = .returned (.int .i64 (nextP 2 r f s a)) ∧ w = w' := by
  have HB := fun W => Lib.hid (begins_any n r f s a h W)
  have hr := h.r1
  have hf := h.f1
  have ha := h.a1
  have hn := h.lt
  clear h
  cases r
  · cases f
    · cases s <;> cases a
      all_goals
        simp at hr hf ha
        go_enter Try.func58, Try.ntmps58
        go_wp2_with fail
        refine (HB _).out.mono ?_
        rintro e w1 ⟨rfl, rfl⟩
        simp only [beginsP]
        go_wp2_with fail
        go_ret
        exact ⟨rfl, rfl⟩
    · simp at hr hf
      go_enter Try.func58, Try.ntmps58
      go_wp2
      go_ret
      exact ⟨rfl, rfl⟩
  · simp at hr
    go_enter Try.func58, Try.ntmps58
    go_wp2
    go_ret
    exact ⟨rfl, rfl⟩
theorem rnext_2 (n : Nat) (r f s a : Bool) (h : Fl n r f s a) (w : World) : Calls Try.prog 59 #[.int .i64 2, .int .u8 n] w fun e w' => e = .returned (.int .i64 (nextP 2 r f s a)) ∧ w = w' := by
  have B4 := fun W => Lib.hid (bit4_any n r h.lt h.r2 W)
  have B1 := fun W => Lib.hid (bit1_any n f h.lt h.f2 W)
  have B2 := fun W => Lib.hid (bit2_any n s h.lt h.s2 W)
  have B16 := fun W => Lib.hid (bit16_any n a h.lt h.a2 W)
  clear h
  go_enter Try.func59, Try.ntmps59
  go_wp2_with fail
  refine (B4 _).out.mono ?_
  rintro e w1 ⟨rfl, rfl⟩
  cases r
  · go_wp2_with fail
    refine (B1 _).out.mono ?_
    rintro e w1 ⟨rfl, rfl⟩
    cases f
    · go_wp2_with fail
      refine (B2 _).out.mono ?_
      rintro e w1 ⟨rfl, rfl⟩
      cases s
      · go_wp2_with fail
        refine (B16 _).out.mono ?_
        rintro e w1 ⟨rfl, rfl⟩
        cases a
        all_goals
          go_wp2_with fail
          go_ret
          exact ⟨rfl, rfl⟩
      · go_wp2_with fail
        refine (B16 _).out.mono ?_
        rintro e w1 ⟨rfl, rfl⟩
        cases a
        · go_wp2_with fail
          go_ret
          exact ⟨rfl, rfl⟩
        · go_wp2_with fail
          refine (B16 _).out.mono ?_
          rintro e w1 ⟨rfl, rfl⟩
          go_wp2_with fail
          go_ret
          exact ⟨rfl, rfl⟩
    · go_wp2_with fail
      go_ret
      exact ⟨rfl, rfl⟩
  · go_wp2_with fail
    go_ret
    exact ⟨rfl, rfl⟩


theorem next_3 (n : Nat) (r f s a : Bool) (h : Fl n r f s a) (w : World) : Calls Try.prog 58 #[.int .i64 3, .int .u8 n] w fun e w' => e = .returned (.int .i64 (nextP 3 r f s a)) ∧ w = w' := by
  have HB := fun W => Lib.hid (begins_any n r f s a h W)
  have hr := h.r1
  have hf := h.f1
  have ha := h.a1
  have hn := h.lt
  clear h
  cases r
  · cases f
    · cases s <;> cases a
      all_goals
        simp at hr hf ha
        go_enter Try.func58, Try.ntmps58
        go_wp2_with fail
        refine (HB _).out.mono ?_
        rintro e w1 ⟨rfl, rfl⟩
        simp only [beginsP]
        go_wp2_with fail
        go_ret
        exact ⟨rfl, rfl⟩
    · simp at hr hf
      go_enter Try.func58, Try.ntmps58
      go_wp2
      go_ret
      exact ⟨rfl, rfl⟩
  · simp at hr
    go_enter Try.func58, Try.ntmps58
    go_wp2
    go_ret
    exact ⟨rfl, rfl⟩
theorem rnext_3 (n : Nat) (r f s a : Bool) (h : Fl n r f s a) (w : World) : Calls Try.prog 59 #[.int .i64 3, .int .u8 n] w fun e w' => e = .returned (.int .i64 (nextP 3 r f s a)) ∧ w = w' := by
  have B4 := fun W => Lib.hid (bit4_any n r h.lt h.r2 W)
  have B1 := fun W => Lib.hid (bit1_any n f h.lt h.f2 W)
  have B2 := fun W => Lib.hid (bit2_any n s h.lt h.s2 W)
  have B16 := fun W => Lib.hid (bit16_any n a h.lt h.a2 W)
  clear h
  go_enter Try.func59, Try.ntmps59
  go_wp2_with fail
  refine (B4 _).out.mono ?_
  rintro e w1 ⟨rfl, rfl⟩
  cases r
  · go_wp2_with fail
    refine (B1 _).out.mono ?_
    rintro e w1 ⟨rfl, rfl⟩
    cases f
    · go_wp2_with fail
      refine (B2 _).out.mono ?_
      rintro e w1 ⟨rfl, rfl⟩
      cases s
      · go_wp2_with fail
        refine (B16 _).out.mono ?_
        rintro e w1 ⟨rfl, rfl⟩
        cases a
        all_goals
          go_wp2_with fail
          go_ret
          exact ⟨rfl, rfl⟩
      · go_wp2_with fail
        refine (B16 _).out.mono ?_
        rintro e w1 ⟨rfl, rfl⟩
        cases a
        · go_wp2_with fail
          go_ret
          exact ⟨rfl, rfl⟩
        · go_wp2_with fail
          refine (B16 _).out.mono ?_
          rintro e w1 ⟨rfl, rfl⟩
          go_wp2_with fail
          go_ret
          exact ⟨rfl, rfl⟩
    · go_wp2_with fail
      go_ret
      exact ⟨rfl, rfl⟩
  · go_wp2_with fail
    go_ret
    exact ⟨rfl, rfl⟩


theorem nextq_any (p : Int) (n : Nat) (r f s a : Bool) (h : Fl n r f s a) (w : World) : Calls Try.prog 58 #[.int .i64 p, .int .u8 n] w fun e w' => e = .returned (.int .i64 (nextP p r f s a)) ∧ w = w' := by
  by_cases h1 : p = 1
  · subst h1; exact next_1 n r f s a h w
  · by_cases h2 : p = 2
    · subst h2; exact next_2 n r f s a h w
    · by_cases h3 : p = 3
      · subst h3; exact next_3 n r f s a h w
      · exact next_other p n r f s a ⟨h1, h2, h3⟩ w
theorem rnextq_any (p : Int) (n : Nat) (r f s a : Bool) (h : Fl n r f s a) (w : World) : Calls Try.prog 59 #[.int .i64 p, .int .u8 n] w fun e w' => e = .returned (.int .i64 (nextP p r f s a)) ∧ w = w' := by
  by_cases h1 : p = 1
  · subst h1; exact rnext_1 n r f s a h w
  · by_cases h2 : p = 2
    · subst h2; exact rnext_2 n r f s a h w
    · by_cases h3 : p = 3
      · subst h3; exact rnext_3 n r f s a h w
      · exact rnext_other p n r f s a ⟨h1, h2, h3⟩ w
end Go.Proofs.Ytbcofkiefompgaa
