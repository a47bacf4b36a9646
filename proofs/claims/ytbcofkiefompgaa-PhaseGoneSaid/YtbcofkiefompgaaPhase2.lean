/- Contracts of phase.Wait, Word and of the reference's; lives. -/
import Derived.Test.YtbcofkiefompgaaPhase1
namespace Go.Proofs.Ytbcofkiefompgaa
open Go.RowKit

def waitP (p x1 x2 x3 x4 : Int) : Int := if p = 1 then x1 else if p = 2 then x2 else if p = 3 then x3 else if p = 4 then x4 else 0
def wordP (p : Int) : ByteArray := if p = 1 then ⟨#[111, 112, 101, 110, 105, 110, 103]⟩ else if p = 2 then ⟨#[111, 112, 101, 110]⟩ else if p = 3 then ⟨#[99, 108, 111, 115, 105, 110, 103]⟩ else if p = 4 then ⟨#[108, 111, 111, 115, 101]⟩ else if p = 5 then ⟨#[103, 111, 110, 101]⟩ else ⟨#[]⟩

theorem wait_1 (cs : Array Value) (x1 x2 x3 x4 : Int) (h1 : cs[32]? = some (.int .i64 x1)) (_h2 : cs[33]? = some (.int .i64 x2)) (_h3 : cs[34]? = some (.int .i64 x3)) (_h4 : cs[35]? = some (.int .i64 x4)) (w : World) :
    Calls Try.prog 60 #[.agg cs, .int .i64 1] w fun e w' => e = .returned (.int .i64 x1) ∧ Below w.heap.size w w' := by
  have hB := bnextA (Below.refl w.heap.size w) (.cells cs 82)
  go_enter Try.func60, Try.ntmps60
  go_wp2_with fail
  go_ret
  exact ⟨rfl, by first | exact hB | exact bnextA hB _⟩

theorem wait_2 (cs : Array Value) (x1 x2 x3 x4 : Int) (_h1 : cs[32]? = some (.int .i64 x1)) (h2 : cs[33]? = some (.int .i64 x2)) (_h3 : cs[34]? = some (.int .i64 x3)) (_h4 : cs[35]? = some (.int .i64 x4)) (w : World) :
    Calls Try.prog 60 #[.agg cs, .int .i64 2] w fun e w' => e = .returned (.int .i64 x2) ∧ Below w.heap.size w w' := by
  have hB := bnextA (Below.refl w.heap.size w) (.cells cs 82)
  go_enter Try.func60, Try.ntmps60
  go_wp2_with fail
  go_ret
  exact ⟨rfl, by first | exact hB | exact bnextA hB _⟩

theorem wait_3 (cs : Array Value) (x1 x2 x3 x4 : Int) (_h1 : cs[32]? = some (.int .i64 x1)) (_h2 : cs[33]? = some (.int .i64 x2)) (h3 : cs[34]? = some (.int .i64 x3)) (_h4 : cs[35]? = some (.int .i64 x4)) (w : World) :
    Calls Try.prog 60 #[.agg cs, .int .i64 3] w fun e w' => e = .returned (.int .i64 x3) ∧ Below w.heap.size w w' := by
  have hB := bnextA (Below.refl w.heap.size w) (.cells cs 82)
  go_enter Try.func60, Try.ntmps60
  go_wp2_with fail
  go_ret
  exact ⟨rfl, by first | exact hB | exact bnextA hB _⟩

theorem wait_4 (cs : Array Value) (x1 x2 x3 x4 : Int) (_h1 : cs[32]? = some (.int .i64 x1)) (_h2 : cs[33]? = some (.int .i64 x2)) (_h3 : cs[34]? = some (.int .i64 x3)) (h4 : cs[35]? = some (.int .i64 x4)) (w : World) :
    Calls Try.prog 60 #[.agg cs, .int .i64 4] w fun e w' => e = .returned (.int .i64 x4) ∧ Below w.heap.size w w' := by
  have hB := bnextA (Below.refl w.heap.size w) (.cells cs 82)
  go_enter Try.func60, Try.ntmps60
  go_wp2_with fail
  go_ret
  exact ⟨rfl, by first | exact hB | exact bnextA hB _⟩

theorem wait_lo (cs : Array Value) (p : Int) (h : p < 1) (w : World) :
    Calls Try.prog 60 #[.agg cs, .int .i64 p] w fun e w' => e = .returned (.int .i64 0) ∧ Below w.heap.size w w' := by
  have hB := bnextA (Below.refl w.heap.size w) (.cells cs 82)
  have e1 : (p == 1) = false := by simp; omega
  have e2 : (p == 2) = false := by simp; omega
  have e3 : (p == 3) = false := by simp; omega
  have e4 : (p == 4) = false := by simp; omega
  go_enter Try.func60, Try.ntmps60
  go_wp2_with fail
  go_ret
  exact ⟨rfl, by first | exact hB | exact bnextA hB _⟩

theorem wait_hi (cs : Array Value) (p : Int) (h : 4 < p) (w : World) :
    Calls Try.prog 60 #[.agg cs, .int .i64 p] w fun e w' => e = .returned (.int .i64 0) ∧ Below w.heap.size w w' := by
  have hB := bnextA (Below.refl w.heap.size w) (.cells cs 82)
  have e1 : (p == 1) = false := by simp; omega
  have e2 : (p == 2) = false := by simp; omega
  have e3 : (p == 3) = false := by simp; omega
  have e4 : (p == 4) = false := by simp; omega
  go_enter Try.func60, Try.ntmps60
  go_wp2_with fail
  go_ret
  exact ⟨rfl, by first | exact hB | exact bnextA hB _⟩

theorem wait_any (cs : Array Value) (p x1 x2 x3 x4 : Int) (h1 : cs[32]? = some (.int .i64 x1)) (h2 : cs[33]? = some (.int .i64 x2)) (h3 : cs[34]? = some (.int .i64 x3)) (h4 : cs[35]? = some (.int .i64 x4)) (w : World) :
    Calls Try.prog 60 #[.agg cs, .int .i64 p] w fun e w' => e = .returned (.int .i64 (waitP p x1 x2 x3 x4)) ∧ Below w.heap.size w w' := by
  unfold waitP
  by_cases c1 : p = 1
  · subst c1; exact wait_1 cs x1 x2 x3 x4 h1 h2 h3 h4 w
  · by_cases c2 : p = 2
    · subst c2; exact wait_2 cs x1 x2 x3 x4 h1 h2 h3 h4 w
    · by_cases c3 : p = 3
      · subst c3; exact wait_3 cs x1 x2 x3 x4 h1 h2 h3 h4 w
      · by_cases c4 : p = 4
        · subst c4; exact wait_4 cs x1 x2 x3 x4 h1 h2 h3 h4 w
        · rw [if_neg c1, if_neg c2, if_neg c3, if_neg c4]
          rcases Int.lt_or_le p 1 with h | h
          · exact wait_lo cs p h w
          · exact wait_hi cs p (by omega) w

theorem rwait_1 (cs : Array Value) (x1 x2 x3 x4 : Int) (h1 : cs[32]? = some (.int .i64 x1)) (_h2 : cs[33]? = some (.int .i64 x2)) (_h3 : cs[34]? = some (.int .i64 x3)) (_h4 : cs[35]? = some (.int .i64 x4)) (w : World) :
    Calls Try.prog 61 #[.agg cs, .int .i64 1] w fun e w' => e = .returned (.int .i64 x1) ∧ Below w.heap.size w w' := by
  have hB := bnextA (Below.refl w.heap.size w) (.cells cs 82)
  go_enter Try.func61, Try.ntmps61
  go_wp2_with fail
  go_ret
  exact ⟨rfl, by first | exact hB | exact bnextA hB _⟩

theorem rwait_2 (cs : Array Value) (x1 x2 x3 x4 : Int) (_h1 : cs[32]? = some (.int .i64 x1)) (h2 : cs[33]? = some (.int .i64 x2)) (_h3 : cs[34]? = some (.int .i64 x3)) (_h4 : cs[35]? = some (.int .i64 x4)) (w : World) :
    Calls Try.prog 61 #[.agg cs, .int .i64 2] w fun e w' => e = .returned (.int .i64 x2) ∧ Below w.heap.size w w' := by
  have hB := bnextA (Below.refl w.heap.size w) (.cells cs 82)
  go_enter Try.func61, Try.ntmps61
  go_wp2_with fail
  go_ret
  exact ⟨rfl, by first | exact hB | exact bnextA hB _⟩

theorem rwait_3 (cs : Array Value) (x1 x2 x3 x4 : Int) (_h1 : cs[32]? = some (.int .i64 x1)) (_h2 : cs[33]? = some (.int .i64 x2)) (h3 : cs[34]? = some (.int .i64 x3)) (_h4 : cs[35]? = some (.int .i64 x4)) (w : World) :
    Calls Try.prog 61 #[.agg cs, .int .i64 3] w fun e w' => e = .returned (.int .i64 x3) ∧ Below w.heap.size w w' := by
  have hB := bnextA (Below.refl w.heap.size w) (.cells cs 82)
  go_enter Try.func61, Try.ntmps61
  go_wp2_with fail
  go_ret
  exact ⟨rfl, by first | exact hB | exact bnextA hB _⟩

theorem rwait_4 (cs : Array Value) (x1 x2 x3 x4 : Int) (_h1 : cs[32]? = some (.int .i64 x1)) (_h2 : cs[33]? = some (.int .i64 x2)) (_h3 : cs[34]? = some (.int .i64 x3)) (h4 : cs[35]? = some (.int .i64 x4)) (w : World) :
    Calls Try.prog 61 #[.agg cs, .int .i64 4] w fun e w' => e = .returned (.int .i64 x4) ∧ Below w.heap.size w w' := by
  have hB := bnextA (Below.refl w.heap.size w) (.cells cs 82)
  go_enter Try.func61, Try.ntmps61
  go_wp2_with fail
  go_ret
  exact ⟨rfl, by first | exact hB | exact bnextA hB _⟩

theorem rwait_lo (cs : Array Value) (p : Int) (h : p < 1) (w : World) :
    Calls Try.prog 61 #[.agg cs, .int .i64 p] w fun e w' => e = .returned (.int .i64 0) ∧ Below w.heap.size w w' := by
  have hB := bnextA (Below.refl w.heap.size w) (.cells cs 82)
  have e1 : (p == 1) = false := by simp; omega
  have e2 : (p == 2) = false := by simp; omega
  have e3 : (p == 3) = false := by simp; omega
  have e4 : (p == 4) = false := by simp; omega
  go_enter Try.func61, Try.ntmps61
  go_wp2_with fail
  go_ret
  exact ⟨rfl, by first | exact hB | exact bnextA hB _⟩

theorem rwait_hi (cs : Array Value) (p : Int) (h : 4 < p) (w : World) :
    Calls Try.prog 61 #[.agg cs, .int .i64 p] w fun e w' => e = .returned (.int .i64 0) ∧ Below w.heap.size w w' := by
  have hB := bnextA (Below.refl w.heap.size w) (.cells cs 82)
  have e1 : (p == 1) = false := by simp; omega
  have e2 : (p == 2) = false := by simp; omega
  have e3 : (p == 3) = false := by simp; omega
  have e4 : (p == 4) = false := by simp; omega
  go_enter Try.func61, Try.ntmps61
  go_wp2_with fail
  go_ret
  exact ⟨rfl, by first | exact hB | exact bnextA hB _⟩

theorem rwait_any (cs : Array Value) (p x1 x2 x3 x4 : Int) (h1 : cs[32]? = some (.int .i64 x1)) (h2 : cs[33]? = some (.int .i64 x2)) (h3 : cs[34]? = some (.int .i64 x3)) (h4 : cs[35]? = some (.int .i64 x4)) (w : World) :
    Calls Try.prog 61 #[.agg cs, .int .i64 p] w fun e w' => e = .returned (.int .i64 (waitP p x1 x2 x3 x4)) ∧ Below w.heap.size w w' := by
  unfold waitP
  by_cases c1 : p = 1
  · subst c1; exact rwait_1 cs x1 x2 x3 x4 h1 h2 h3 h4 w
  · by_cases c2 : p = 2
    · subst c2; exact rwait_2 cs x1 x2 x3 x4 h1 h2 h3 h4 w
    · by_cases c3 : p = 3
      · subst c3; exact rwait_3 cs x1 x2 x3 x4 h1 h2 h3 h4 w
      · by_cases c4 : p = 4
        · subst c4; exact rwait_4 cs x1 x2 x3 x4 h1 h2 h3 h4 w
        · rw [if_neg c1, if_neg c2, if_neg c3, if_neg c4]
          rcases Int.lt_or_le p 1 with h | h
          · exact rwait_lo cs p h w
          · exact rwait_hi cs p (by omega) w

theorem word_1 (w : World) : Calls Try.prog 62 #[.int .i64 1] w fun e w' => e = .returned (.string ⟨#[111, 112, 101, 110, 105, 110, 103]⟩) ∧ Below w.heap.size w w' := by
  go_enter Try.func62, Try.ntmps62
  go_wp2_with fail
  go_ret
  exact ⟨rfl, by first | exact Below.refl _ _ | exact bnextA (Below.refl _ _) _⟩

theorem word_2 (w : World) : Calls Try.prog 62 #[.int .i64 2] w fun e w' => e = .returned (.string ⟨#[111, 112, 101, 110]⟩) ∧ Below w.heap.size w w' := by
  go_enter Try.func62, Try.ntmps62
  go_wp2_with fail
  go_ret
  exact ⟨rfl, by first | exact Below.refl _ _ | exact bnextA (Below.refl _ _) _⟩

theorem word_3 (w : World) : Calls Try.prog 62 #[.int .i64 3] w fun e w' => e = .returned (.string ⟨#[99, 108, 111, 115, 105, 110, 103]⟩) ∧ Below w.heap.size w w' := by
  go_enter Try.func62, Try.ntmps62
  go_wp2_with fail
  go_ret
  exact ⟨rfl, by first | exact Below.refl _ _ | exact bnextA (Below.refl _ _) _⟩

theorem word_4 (w : World) : Calls Try.prog 62 #[.int .i64 4] w fun e w' => e = .returned (.string ⟨#[108, 111, 111, 115, 101]⟩) ∧ Below w.heap.size w w' := by
  go_enter Try.func62, Try.ntmps62
  go_wp2_with fail
  go_ret
  exact ⟨rfl, by first | exact Below.refl _ _ | exact bnextA (Below.refl _ _) _⟩

theorem word_5 (w : World) : Calls Try.prog 62 #[.int .i64 5] w fun e w' => e = .returned (.string ⟨#[103, 111, 110, 101]⟩) ∧ Below w.heap.size w w' := by
  go_enter Try.func62, Try.ntmps62
  go_wp2_with fail
  go_ret
  exact ⟨rfl, by first | exact Below.refl _ _ | exact bnextA (Below.refl _ _) _⟩

theorem word_lo (p : Int) (h : p < 1) (w : World) : Calls Try.prog 62 #[.int .i64 p] w fun e w' => e = .returned (.string ⟨#[]⟩) ∧ Below w.heap.size w w' := by
  have e1 : (p == 1) = false := by simp; omega
  have e2 : (p == 2) = false := by simp; omega
  have e3 : (p == 3) = false := by simp; omega
  have e4 : (p == 4) = false := by simp; omega
  have e5 : (p == 5) = false := by simp; omega
  go_enter Try.func62, Try.ntmps62
  go_wp2_with fail
  go_ret
  exact ⟨rfl, Below.refl _ _⟩

theorem word_hi (p : Int) (h : 5 < p) (w : World) : Calls Try.prog 62 #[.int .i64 p] w fun e w' => e = .returned (.string ⟨#[]⟩) ∧ Below w.heap.size w w' := by
  have e1 : (p == 1) = false := by simp; omega
  have e2 : (p == 2) = false := by simp; omega
  have e3 : (p == 3) = false := by simp; omega
  have e4 : (p == 4) = false := by simp; omega
  have e5 : (p == 5) = false := by simp; omega
  go_enter Try.func62, Try.ntmps62
  go_wp2_with fail
  go_ret
  exact ⟨rfl, Below.refl _ _⟩

theorem word_any (p : Int) (w : World) : Calls Try.prog 62 #[.int .i64 p] w fun e w' => e = .returned (.string (wordP p)) ∧ Below w.heap.size w w' := by
  unfold wordP
  by_cases c1 : p = 1
  · subst c1; exact word_1 w
  · by_cases c2 : p = 2
    · subst c2; exact word_2 w
    · by_cases c3 : p = 3
      · subst c3; exact word_3 w
      · by_cases c4 : p = 4
        · subst c4; exact word_4 w
        · by_cases c5 : p = 5
          · subst c5; exact word_5 w
          · rw [if_neg c1, if_neg c2, if_neg c3, if_neg c4, if_neg c5]
            rcases Int.lt_or_le p 1 with h | h
            · exact word_lo p h w
            · exact word_hi p (by omega) w

theorem rword_1 (w : World) : Calls Try.prog 63 #[.int .i64 1] w fun e w' => e = .returned (.string ⟨#[111, 112, 101, 110, 105, 110, 103]⟩) ∧ Below w.heap.size w w' := by
  go_enter Try.func63, Try.ntmps63
  go_wp2_with fail
  go_ret
  exact ⟨rfl, by first | exact Below.refl _ _ | exact bnextA (Below.refl _ _) _⟩

theorem rword_2 (w : World) : Calls Try.prog 63 #[.int .i64 2] w fun e w' => e = .returned (.string ⟨#[111, 112, 101, 110]⟩) ∧ Below w.heap.size w w' := by
  go_enter Try.func63, Try.ntmps63
  go_wp2_with fail
  go_ret
  exact ⟨rfl, by first | exact Below.refl _ _ | exact bnextA (Below.refl _ _) _⟩

theorem rword_3 (w : World) : Calls Try.prog 63 #[.int .i64 3] w fun e w' => e = .returned (.string ⟨#[99, 108, 111, 115, 105, 110, 103]⟩) ∧ Below w.heap.size w w' := by
  go_enter Try.func63, Try.ntmps63
  go_wp2_with fail
  go_ret
  exact ⟨rfl, by first | exact Below.refl _ _ | exact bnextA (Below.refl _ _) _⟩

theorem rword_4 (w : World) : Calls Try.prog 63 #[.int .i64 4] w fun e w' => e = .returned (.string ⟨#[108, 111, 111, 115, 101]⟩) ∧ Below w.heap.size w w' := by
  go_enter Try.func63, Try.ntmps63
  go_wp2_with fail
  go_ret
  exact ⟨rfl, by first | exact Below.refl _ _ | exact bnextA (Below.refl _ _) _⟩

theorem rword_5 (w : World) : Calls Try.prog 63 #[.int .i64 5] w fun e w' => e = .returned (.string ⟨#[103, 111, 110, 101]⟩) ∧ Below w.heap.size w w' := by
  go_enter Try.func63, Try.ntmps63
  go_wp2_with fail
  go_ret
  exact ⟨rfl, by first | exact Below.refl _ _ | exact bnextA (Below.refl _ _) _⟩

theorem rword_lo (p : Int) (h : p < 1) (w : World) : Calls Try.prog 63 #[.int .i64 p] w fun e w' => e = .returned (.string ⟨#[]⟩) ∧ Below w.heap.size w w' := by
  have e1 : (p == 1) = false := by simp; omega
  have e2 : (p == 2) = false := by simp; omega
  have e3 : (p == 3) = false := by simp; omega
  have e4 : (p == 4) = false := by simp; omega
  have e5 : (p == 5) = false := by simp; omega
  go_enter Try.func63, Try.ntmps63
  go_wp2_with fail
  go_ret
  exact ⟨rfl, Below.refl _ _⟩

theorem rword_hi (p : Int) (h : 5 < p) (w : World) : Calls Try.prog 63 #[.int .i64 p] w fun e w' => e = .returned (.string ⟨#[]⟩) ∧ Below w.heap.size w w' := by
  have e1 : (p == 1) = false := by simp; omega
  have e2 : (p == 2) = false := by simp; omega
  have e3 : (p == 3) = false := by simp; omega
  have e4 : (p == 4) = false := by simp; omega
  have e5 : (p == 5) = false := by simp; omega
  go_enter Try.func63, Try.ntmps63
  go_wp2_with fail
  go_ret
  exact ⟨rfl, Below.refl _ _⟩

theorem rword_any (p : Int) (w : World) : Calls Try.prog 63 #[.int .i64 p] w fun e w' => e = .returned (.string (wordP p)) ∧ Below w.heap.size w w' := by
  unfold wordP
  by_cases c1 : p = 1
  · subst c1; exact rword_1 w
  · by_cases c2 : p = 2
    · subst c2; exact rword_2 w
    · by_cases c3 : p = 3
      · subst c3; exact rword_3 w
      · by_cases c4 : p = 4
        · subst c4; exact rword_4 w
        · by_cases c5 : p = 5
          · subst c5; exact rword_5 w
          · rw [if_neg c1, if_neg c2, if_neg c3, if_neg c4, if_neg c5]
            rcases Int.lt_or_le p 1 with h | h
            · exact rword_lo p h w
            · exact rword_hi p (by omega) w


theorem plives_any (w : World) : Calls Try.prog 64 #[] w fun e w' => e = .returned (.bool true) ∧ Below w.heap.size w w' := by
  have f2 : Fl 2 false false true false := ⟨by omega, by kernel_rfl, by kernel_rfl, by kernel_rfl, by kernel_rfl, rfl, rfl, rfl, rfl⟩
  have f16 : Fl 16 false false false true := ⟨by omega, by kernel_rfl, by kernel_rfl, by kernel_rfl, by kernel_rfl, rfl, rfl, rfl, rfl⟩
  have f17 : Fl 17 false true false true := ⟨by omega, by kernel_rfl, by kernel_rfl, by kernel_rfl, by kernel_rfl, rfl, rfl, rfl, rfl⟩
  have F1 : ∀ W, Hid (Calls Try.prog 56 #[.int .u8 2] W fun e w' => e = .returned (.int .i64 1) ∧ W = w') := fun W => first_any 2 _ _ _ _ f2 W
  have N1 : ∀ W, Hid (Calls Try.prog 58 #[.int .i64 1, .int .u8 16] W fun e w' => e = .returned (.int .i64 2) ∧ W = w') := fun W => nextq_any 1 16 _ _ _ _ f16 W
  have N2 : ∀ W, Hid (Calls Try.prog 58 #[.int .i64 2, .int .u8 17] W fun e w' => e = .returned (.int .i64 3) ∧ W = w') := fun W => nextq_any 2 17 _ _ _ _ f17 W
  have W1 := fun W => Lib.hid (word_5 W)
  clear f2 f16 f17
  go_enter Try.func64, Try.ntmps64
  go_wp2_with fail
  refine (F1 _).out.mono ?_
  rintro e w1 ⟨rfl, rfl⟩
  go_wp2_with fail
  refine (N1 _).out.mono ?_
  rintro e w1 ⟨rfl, rfl⟩
  go_wp2_with fail
  refine (N2 _).out.mono ?_
  rintro e w1 ⟨rfl, rfl⟩
  go_wp2_with fail
  refine (W1 _).out.mono ?_
  rintro e w1 ⟨rfl, hb⟩
  go_wp2_with fail
  go_ret
  exact ⟨rfl, hb⟩
end Go.Proofs.Ytbcofkiefompgaa
