/- Contracts of Prime and Start on both sides. -/
import Derived.Test.YtggcomociojfoaaTag2
namespace Go.Proofs.Ytggcomociojfoaa
open Go.RowKit

/-- A small prime. -/
def primeN (m : Nat) : Bool := (List.range m).all fun d => decide (d < 2) || m % d != 0
def pI (m : Int) : Bool := decide (2 ≤ m) && decide (m ≤ 251) && primeN m.toNat
def chkP (m : Nat) : Bool := (primeN m && (List.range 16).all (fun d => decide (d < 2) || decide (m < d * d) || m % d != 0)) || (!primeN m && (List.range 16).any (fun D => decide (2 ≤ D) && decide (D * D ≤ m) && m % D == 0 && (List.range D).all (fun d => decide (d < 2) || m % d != 0)))
theorem chk_all : (List.range 252).all (fun m => decide (m < 2) || chkP m) = true := by decide +kernel
theorem prime_cases (m : Nat) (h2 : 2 ≤ m) (hm : m ≤ 251) : (primeN m = true ∧ (∀ d, d < 16 → 2 ≤ d → d * d ≤ m → m % d ≠ 0) ∧ (∀ d, d < m → 2 ≤ d → m % d ≠ 0)) ∨ (primeN m = false ∧ ∃ D, 2 ≤ D ∧ D * D ≤ m ∧ m % D = 0 ∧ ∀ d, d < D → 2 ≤ d → m % d ≠ 0) := by
  have h := List.all_eq_true.1 chk_all m (by simp; omega)
  simp only [Bool.or_eq_true, decide_eq_true_eq] at h
  rcases h with h | h
  · omega
  · unfold chkP at h
    simp only [Bool.or_eq_true, Bool.and_eq_true, Bool.not_eq_true', List.all_eq_true, List.any_eq_true, List.mem_range, decide_eq_true_eq, bne_iff_ne, beq_iff_eq] at h
    rcases h with ⟨h, h16⟩ | ⟨h, D, -, ⟨⟨hD2, hDD⟩, hDm⟩, hD⟩
    · refine .inl ⟨h, fun d h1 h2 h3 => ?_, fun d h1 h2 => ?_⟩
      · rcases h16 d h1 with (h4 | h4) | h4
        · omega
        · omega
        · exact h4
      · unfold primeN at h
        simp only [Bool.or_eq_true, List.all_eq_true, List.mem_range, decide_eq_true_eq, bne_iff_ne] at h
        rcases h d h1 with h4 | h4
        · omega
        · exact h4
    · refine .inr ⟨h, D, hD2, hDD, hDm, fun d h1 h2 => ?_⟩
      rcases hD d h1 with h4 | h4
      · omega
      · exact h4
theorem prime_lo (m : Int) (h : m < 2) (w : World) : Calls Try.prog 28 #[.int .i64 m] w fun e w' => e = .returned (.bool false) ∧ w = w' := by
  have a1 : decide (m < 2) = true := by simp [h]
  go_enter Try.func28, Try.ntmps28
  go_wp2_with fail
  go_ret
  exact ⟨rfl, rfl⟩
theorem prime_hi (m : Int) (h0 : ¬ m < 2) (h : 251 < m) (w : World) : Calls Try.prog 28 #[.int .i64 m] w fun e w' => e = .returned (.bool false) ∧ w = w' := by
  have a1 : decide (m < 2) = false := by simp [h0]
  have a2 : decide (251 < m) = true := by simp [h]
  go_enter Try.func28, Try.ntmps28
  go_wp2_with fail
  go_ret
  exact ⟨rfl, rfl⟩
theorem prime_yes (m : Nat) (h2 : 2 ≤ m) (hm : m ≤ 251) (hp : ∀ d, d < 16 → 2 ≤ d → d * d ≤ m → m % d ≠ 0) (w : World) : Calls Try.prog 28 #[.int .i64 (m : Int)] w fun e w' => e = .returned (.bool true) ∧ w = w' := by
  have a1 : decide ((m : Int) < 2) = false := by simp; omega
  have a2 : decide (251 < (m : Int)) = false := by simp; omega
  go_enter Try.func28, Try.ntmps28
  go_wp2_with fail
  clear a1 a2
  go_loop [3] (fun i => ∃ j : Nat, 2 ≤ j ∧ j ≤ 16 ∧ i = .int .i64 j) (fun i => 16 + 1 - (intOf i).toNat)
  case atStart => exact ⟨2, by omega, by omega, rfl⟩
  case round =>
    obtain ⟨j, hj2, hj, rfl⟩ := hrel
    obtain ⟨q, hq⟩ : ∃ q, j * j = q := ⟨_, rfl⟩
    have hqb : q ≤ 256 := by rw [← hq]; exact Nat.mul_le_mul (show j ≤ 16 by omega) (show j ≤ 16 by omega)
    have z1 : (j : Int) * (j : Int) = (q : Int) := by rw [← hq]; simp
    have z2 : IntKind.i64.wrap (q : Int) = (q : Int) := by rw [IntKind.wrap_i64]; omega
    by_cases hlt : j * j ≤ m
    · have z0 : decide (q ≤ m) = true := by simp; omega
      have hj16 : j < 16 := by
        rcases Nat.lt_or_ge j 16 with h | h
        · exact h
        · have := Nat.mul_le_mul h h
          omega
      obtain ⟨s, hs⟩ : ∃ s, m % j = s := ⟨_, rfl⟩
      have z3 : (m : Int).tmod (j : Int) = (s : Int) := by rw [Int.tmod_eq_emod_of_nonneg (by omega), ← hs]; simp
      have z4 : ((j : Int) == 0) = false := by simp; omega
      have z5 : (j : Int) ≠ 0 := by omega
      have z6 : (m : Int) % (j : Int) = (s : Int) := by rw [← hs]; simp
      have hnz := hp j hj16 hj2 hlt
      rw [hs] at hnz
      have z7 : ((s : Int) == 0) = false := by simp; omega
      clear hs hnz hp hq hlt
      go_wp2_with fail
      go_round
      case rel => exact ⟨j + 1, by omega, by omega, by go_num⟩
      case measure => simp [intOf]; omega
    · have z0 : decide (q ≤ m) = false := by simp; omega
      clear hp hq hlt
      go_wp2_with fail
      go_ret
      exact ⟨rfl, rfl⟩
theorem prime_no (m D : Nat) (hm : m ≤ 251) (hD2 : 2 ≤ D) (hDD : D * D ≤ m) (hDm : m % D = 0) (hp : ∀ d, d < D → 2 ≤ d → m % d ≠ 0) (w : World) : Calls Try.prog 28 #[.int .i64 (m : Int)] w fun e w' => e = .returned (.bool false) ∧ w = w' := by
  have hD16 : D < 16 := by
    rcases Nat.lt_or_ge D 16 with h | h
    · exact h
    · have := Nat.mul_le_mul h h
      omega
  have hm4 : 4 ≤ m := Nat.le_trans (Nat.mul_le_mul hD2 hD2) hDD
  have hDlt : D < m := by
    have := Nat.mul_le_mul hD2 (Nat.le_refl D)
    omega
  have a1 : decide ((m : Int) < 2) = false := by simp; omega
  have a2 : decide (251 < (m : Int)) = false := by simp; omega
  go_enter Try.func28, Try.ntmps28
  go_wp2_with fail
  clear a1 a2
  go_loop [3] (fun i => ∃ j : Nat, 2 ≤ j ∧ j ≤ D ∧ i = .int .i64 j) (fun i => 16 - (intOf i).toNat)
  case atStart => exact ⟨2, by omega, by omega, rfl⟩
  case round =>
    obtain ⟨j, hj2, hj, rfl⟩ := hrel
    have hlt : j * j ≤ m := Nat.le_trans (Nat.mul_le_mul hj hj) hDD
    obtain ⟨q, hq⟩ : ∃ q, j * j = q := ⟨_, rfl⟩
    have hqb : q ≤ 256 := by rw [← hq]; exact Nat.mul_le_mul (show j ≤ 16 by omega) (show j ≤ 16 by omega)
    have z1 : (j : Int) * (j : Int) = (q : Int) := by rw [← hq]; simp
    have z2 : IntKind.i64.wrap (q : Int) = (q : Int) := by rw [IntKind.wrap_i64]; omega
    have z0 : decide (q ≤ m) = true := by simp; omega
    obtain ⟨s, hs⟩ : ∃ s, m % j = s := ⟨_, rfl⟩
    have z3 : (m : Int).tmod (j : Int) = (s : Int) := by rw [Int.tmod_eq_emod_of_nonneg (by omega), ← hs]; simp
    have z4 : ((j : Int) == 0) = false := by simp; omega
    have z5 : (j : Int) ≠ 0 := by omega
    have z6 : (m : Int) % (j : Int) = (s : Int) := by rw [← hs]; simp
    by_cases hjD : j < D
    · have hnz := hp j hjD hj2
      rw [hs] at hnz
      have z7 : ((s : Int) == 0) = false := by simp; omega
      clear hs hnz hp hlt hDD hDm hq
      go_wp2_with fail
      go_round
      case rel => exact ⟨j + 1, by omega, by omega, by go_num⟩
      case measure => simp [intOf]; omega
    · have hjD' : j = D := by omega
      subst hjD'
      rw [hDm] at hs
      subst hs
      clear hp hlt hDD hDm hq
      go_wp2_with fail
      go_ret
      exact ⟨rfl, rfl⟩
theorem prime_any (m : Int) (w : World) : Calls Try.prog 28 #[.int .i64 m] w fun e w' => e = .returned (.bool (pI m)) ∧ w = w' := by
  by_cases h0 : m < 2
  · rw [show pI m = false by simp [pI]; omega]
    exact prime_lo m h0 w
  · by_cases h1 : 251 < m
    · rw [show pI m = false by simp [pI]; omega]
      exact prime_hi m h0 h1 w
    · obtain ⟨n, rfl⟩ : ∃ n : Nat, m = (n : Int) := ⟨m.toNat, by omega⟩
      rcases prime_cases n (by omega) (by omega) with ⟨hp, hq, hr⟩ | ⟨hp, D, h2, hDD, hDm, hq⟩
      · rw [show pI (n : Int) = true by simp [pI, hp]; omega]
        exact prime_yes n (by omega) (by omega) hq w
      · rw [show pI (n : Int) = false by simp [pI, hp]]
        exact prime_no n D (by omega) h2 hDD hDm hq w
theorem rprime_lo (m : Int) (h : m < 2) (w : World) : Calls Try.prog 27 #[.int .i64 m] w fun e w' => e = .returned (.bool false) ∧ w = w' := by
  have a1 : decide (m < 2) = true := by simp [h]
  go_enter Try.func27, Try.ntmps27
  go_wp2_with fail
  go_ret
  exact ⟨rfl, rfl⟩
theorem rprime_hi (m : Int) (h0 : ¬ m < 2) (h : 251 < m) (w : World) : Calls Try.prog 27 #[.int .i64 m] w fun e w' => e = .returned (.bool false) ∧ w = w' := by
  have a1 : decide (m < 2) = false := by simp [h0]
  have a2 : decide (251 < m) = true := by simp [h]
  go_enter Try.func27, Try.ntmps27
  go_wp2_with fail
  go_ret
  exact ⟨rfl, rfl⟩
theorem rprime_yes (m : Nat) (h2 : 2 ≤ m) (hm : m ≤ 251) (hp : ∀ d, d < m → 2 ≤ d → m % d ≠ 0) (w : World) : Calls Try.prog 27 #[.int .i64 (m : Int)] w fun e w' => e = .returned (.bool true) ∧ w = w' := by
  have a1 : decide ((m : Int) < 2) = false := by simp; omega
  have a2 : decide (251 < (m : Int)) = false := by simp; omega
  go_enter Try.func27, Try.ntmps27
  go_wp2_with fail
  clear a1 a2
  go_loop [3] (fun i => ∃ j : Nat, 2 ≤ j ∧ j ≤ m ∧ i = .int .i64 j) (fun i => m + 1 - (intOf i).toNat)
  case atStart => exact ⟨2, by omega, by omega, rfl⟩
  case round =>
    obtain ⟨j, hj2, hj, rfl⟩ := hrel
    by_cases hlt : j < m
    · have z0 : decide (j < m) = true := by simp; omega
      obtain ⟨s, hs⟩ : ∃ s, m % j = s := ⟨_, rfl⟩
      have z3 : (m : Int).tmod (j : Int) = (s : Int) := by rw [Int.tmod_eq_emod_of_nonneg (by omega), ← hs]; simp
      have z4 : ((j : Int) == 0) = false := by simp; omega
      have z5 : (j : Int) ≠ 0 := by omega
      have z6 : (m : Int) % (j : Int) = (s : Int) := by rw [← hs]; simp
      have hnz := hp j hlt hj2
      rw [hs] at hnz
      have z7 : ((s : Int) == 0) = false := by simp; omega
      clear hs hnz hp
      go_wp2_with fail
      go_round
      case rel => exact ⟨j + 1, by omega, by omega, by go_num⟩
      case measure => simp [intOf]; omega
    · have z0 : decide (j < m) = false := by simp; omega
      clear hp
      go_wp2_with fail
      go_ret
      exact ⟨rfl, rfl⟩
theorem rprime_no (m D : Nat) (hm : m ≤ 251) (hD2 : 2 ≤ D) (hDD : D * D ≤ m) (hDm : m % D = 0) (hp : ∀ d, d < D → 2 ≤ d → m % d ≠ 0) (w : World) : Calls Try.prog 27 #[.int .i64 (m : Int)] w fun e w' => e = .returned (.bool false) ∧ w = w' := by
  have hD16 : D < 16 := by
    rcases Nat.lt_or_ge D 16 with h | h
    · exact h
    · have := Nat.mul_le_mul h h
      omega
  have hm4 : 4 ≤ m := Nat.le_trans (Nat.mul_le_mul hD2 hD2) hDD
  have hDlt : D < m := by
    have := Nat.mul_le_mul hD2 (Nat.le_refl D)
    omega
  have a1 : decide ((m : Int) < 2) = false := by simp; omega
  have a2 : decide (251 < (m : Int)) = false := by simp; omega
  go_enter Try.func27, Try.ntmps27
  go_wp2_with fail
  clear a1 a2
  go_loop [3] (fun i => ∃ j : Nat, 2 ≤ j ∧ j ≤ D ∧ i = .int .i64 j) (fun i => 16 - (intOf i).toNat)
  case atStart => exact ⟨2, by omega, by omega, rfl⟩
  case round =>
    obtain ⟨j, hj2, hj, rfl⟩ := hrel
    have hlt : j < m := by omega
    have z0 : decide (j < m) = true := by simp; omega
    obtain ⟨s, hs⟩ : ∃ s, m % j = s := ⟨_, rfl⟩
    have z3 : (m : Int).tmod (j : Int) = (s : Int) := by rw [Int.tmod_eq_emod_of_nonneg (by omega), ← hs]; simp
    have z4 : ((j : Int) == 0) = false := by simp; omega
    have z5 : (j : Int) ≠ 0 := by omega
    have z6 : (m : Int) % (j : Int) = (s : Int) := by rw [← hs]; simp
    by_cases hjD : j < D
    · have hnz := hp j hjD hj2
      rw [hs] at hnz
      have z7 : ((s : Int) == 0) = false := by simp; omega
      clear hs hnz hp hlt hDD hDm
      go_wp2_with fail
      go_round
      case rel => exact ⟨j + 1, by omega, by omega, by go_num⟩
      case measure => simp [intOf]; omega
    · have hjD' : j = D := by omega
      subst hjD'
      rw [hDm] at hs
      subst hs
      clear hp hlt hDD hDm
      go_wp2_with fail
      go_ret
      exact ⟨rfl, rfl⟩
theorem rprime_any (m : Int) (w : World) : Calls Try.prog 27 #[.int .i64 m] w fun e w' => e = .returned (.bool (pI m)) ∧ w = w' := by
  by_cases h0 : m < 2
  · rw [show pI m = false by simp [pI]; omega]
    exact rprime_lo m h0 w
  · by_cases h1 : 251 < m
    · rw [show pI m = false by simp [pI]; omega]
      exact rprime_hi m h0 h1 w
    · obtain ⟨n, rfl⟩ : ∃ n : Nat, m = (n : Int) := ⟨m.toNat, by omega⟩
      rcases prime_cases n (by omega) (by omega) with ⟨hp, hq, hr⟩ | ⟨hp, D, h2, hDD, hDm, hq⟩
      · rw [show pI (n : Int) = true by simp [pI, hp]; omega]
        exact rprime_yes n (by omega) (by omega) hr w
      · rw [show pI (n : Int) = false by simp [pI, hp]]
        exact rprime_no n D (by omega) h2 hDD hDm hq w
theorem start_no (lo hi : Nat) (id m : Int) (hp : pI m = false) (w : World) : Calls Try.prog 26 #[.agg #[.int .u64 (lo : Int), .int .u64 (hi : Int)], .int .i64 id, .int .i64 m] w fun e w' => e = .returned (.tuple #[.int .i64 0, .int .i64 0]) ∧ Below w.heap.size w w' := by
  have HP := fun W => Lib.hid (prime_any m W)
  rw [hp] at HP
  clear hp
  go_enter Try.func26, Try.ntmps26
  go_wp2_with fail
  refine (HP _).out.mono ?_
  rintro e w1 ⟨rfl, rfl⟩
  go_wp2_with fail
  go_ret2
  exact ⟨rfl, bnextA (Below.refl _ _) _⟩
set_option maxHeartbeats 1000000 in
theorem start_ok (lo hi : Nat) (h1 : lo < 18446744073709551616) (h2 : hi < 18446744073709551616) (id : Int) (iw : UInt32) (hid : IntKind.u32.wrap id = (iw.toNat : Int)) (m F T : Nat) (hm2 : 2 ≤ m) (hm : m ≤ 251) (hp : pI (m : Int) = true) (hF : sipN lo hi (puts32 [iw, 0]) % m = F) (hT : sipN lo hi (puts32 [iw, 1]) % (m - 1) + 1 = T) (w : World) :
    Calls Try.prog 26 #[.agg #[.int .u64 (lo : Int), .int .u64 (hi : Int)], .int .i64 id, .int .i64 (m : Int)] w fun e w' => e = .returned (.tuple #[.int .i64 (F : Int), .int .i64 (T : Int)]) ∧ Below w.heap.size w w' := by
  have HP := fun W => Lib.hid (prime_any (m : Int) W)
  rw [hp] at HP
  obtain ⟨m1, hm1⟩ : ∃ m1, m - 1 = m1 := ⟨_, rfl⟩
  rw [hm1] at hT
  obtain ⟨T0, hT0⟩ : ∃ T0, sipN lo hi (puts32 [iw, 1]) % m1 = T0 := ⟨_, rfl⟩
  rw [hT0] at hT
  have hT0l : T0 < m1 := by rw [← hT0]; exact Nat.mod_lt _ (by omega)
  have HF : ∀ A c (L : List UInt8) W, L = puts32 [iw, 0] → Rd bv W W.heap.size A c L → Hid (Calls Try.prog 55 #[.agg #[.int .u64 (lo : Int), .int .u64 (hi : Int)], .slice A L.length c, .int .i64 (m : Int)] W fun e w' => e = .returned (.int .i64 (F : Int)) ∧ Below W.heap.size W w') := by
    intro A c L W hL hr
    exact sip_under_1 lo hi h1 h2 A c L m F (by omega) (by omega) (by rw [Hid, hL, hF]) W hr (by rw [hL, puts32_len]; simp)
  have HT : ∀ A c (L : List UInt8) W, L = puts32 [iw, 1] → Rd bv W W.heap.size A c L → Hid (Calls Try.prog 55 #[.agg #[.int .u64 (lo : Int), .int .u64 (hi : Int)], .slice A L.length c, .int .i64 (m1 : Int)] W fun e w' => e = .returned (.int .i64 (T0 : Int)) ∧ Below W.heap.size W w') := by
    intro A c L W hL hr
    exact sip_under_1 lo hi h1 h2 A c L m1 T0 (by omega) (by omega) (by rw [Hid, hL, hT0]) W hr (by rw [hL, puts32_len]; simp)
  have HM : Hid ((m : Int) - 1 = (m1 : Int)) := by rw [Hid]; omega
  have HM2 : Hid (IntKind.i64.wrap (m1 : Int) = (m1 : Int)) := by rw [Hid, IntKind.wrap_i64]; omega
  have HT1 : Hid ((T0 : Int) + 1 = (T : Int)) := by rw [Hid]; omega
  have HT2 : Hid (IntKind.i64.wrap (T : Int) = (T : Int)) := by rw [Hid, IntKind.wrap_i64]; omega
  obtain ⟨V, hV⟩ : ∃ V, V = w.alloc (.cells #[.int .u64 (lo : Int), .int .u64 (hi : Int)] 35) := ⟨_, rfl⟩
  have hB : Below w.heap.size w V := by subst hV; exact bnextA (Below.refl _ _) _
  have K : Blk V w.heap.size [.int .u64 (lo : Int), .int .u64 (hi : Int)] 35 := by subst hV; exact Blk.new _ _ _
  have HCC : ∀ W, Below V.heap.size V W → (W.cell? ⟨w.heap.size, 0, none⟩ = some (.int .u64 (lo : Int)) ∧ W.cell? ⟨w.heap.size, 1, none⟩ = some (.int .u64 (hi : Int))) := by
    intro W h
    obtain ⟨p0, p1, -⟩ := (K.next h).get2
    exact ⟨p0, p1⟩
  clear hp hF hT hT0 hm1 hT0l
  go_enter Try.func26, Try.ntmps26
  go_wp2_with fail
  rw [← hV]
  clear hV
  refine (HP _).out.mono ?_
  rintro e w1 ⟨rfl, rfl⟩
  clear HP
  go_wp2_with fail
  refine region_put (by kernel_rfl) (by kernel_rfl) (by kernel_rfl) 31 rfl (by kernel_rfl) V (fun i v W => match i with
      | 0 => v = .agg #[.int .u64 (lo : Int), .int .u64 (hi : Int)]
      | 1 => v = .int .i64 id
      | 2 => v = .int .u32 (iw.toNat : Int)
      | 3 => ∃ A, v = .slice A 2 2 ∧ Rd wv W W.heap.size A 2 [iw, 0]
      | 4 => ∃ L A c, v = .slice A L.length c ∧ Hid (L = puts32 [iw, 0]) ∧ Rd bv W W.heap.size A c L
      | 5 => v = .int .i64 (m : Int)
      | 6 => v = .int .i64 (F : Int)
      | 7 => v = .int .i64 (F : Int)
      | _ => True) (Below.refl _ _) ?_ ?_ ?_
  · intro i v W W' h hb
    match i, h with
    | 0, h => exact h
    | 1, h => exact h
    | 2, h => exact h
    | 3, h => obtain ⟨A, h1, h2⟩ := h; exact ⟨A, h1, h2.next hb⟩
    | 4, h => obtain ⟨L, A, c, h1, h2, h3⟩ := h; exact ⟨L, A, c, h1, h2, h3.next hb⟩
    | 5, h => exact h
    | 6, h => exact h
    | 7, h => exact h
    | _ + 8, _ => trivial
  · intro i o uu W hoo hVW hd
    rcases i with _|_|_|_|_|_|_|_|i
    · obtain rfl := Option.some.inj hoo
      refine .inl ⟨wanted_none rfl, ?_⟩
      generalize hev : Act.eval _ = ev
      have ec : ∀ c, ev (.const c) = c := fun c => by rw [← hev]; rfl
      have e3 : ev (.tmp 3) = .pointer (some ⟨w.heap.size, 0, none⟩) := by rw [← hev]; exact eval_old (by kernel_rfl) 31 rfl (by decide) rfl
      clear hev hd
      obtain ⟨cc0, cc1⟩ := HCC W hVW
      exact .inl ⟨_, W, by go_simp, rfl, Below.refl _ _⟩
    · obtain rfl := Option.some.inj hoo
      refine .inl ⟨wanted_none rfl, ?_⟩
      generalize hev : Act.eval _ = ev
      have ec : ∀ c, ev (.const c) = c := fun c => by rw [← hev]; rfl
      have e1 : ev (.tmp 1) = .int .i64 id := by rw [← hev]; exact eval_old (by kernel_rfl) 31 rfl (by decide) rfl
      clear hev hd
      exact .inl ⟨_, W, by go_simp, rfl, Below.refl _ _⟩
    · obtain rfl := Option.some.inj hoo
      have q1 : uu 1 = .int .i64 id := hd 1 (by kernel_rfl)
      refine .inl ⟨wanted_none rfl, ?_⟩
      generalize hev : Act.eval _ = ev
      have ec : ∀ c, ev (.const c) = c := fun c => by rw [← hev]; rfl
      have e14 : ev (.tmp 14) = .int .i64 id := by rw [← hev]; exact (eval_put (by kernel_rfl) 31 rfl (by decide)).trans q1
      clear hev hd q1
      have hh := hid
      exact .inl ⟨_, W, by go_simp, rfl, Below.refl _ _⟩
    · obtain rfl := Option.some.inj hoo
      have q2 : uu 2 = .int .u32 (iw.toNat : Int) := hd 2 (by kernel_rfl)
      refine .inl ⟨wanted_none rfl, ?_⟩
      generalize hev : Act.eval _ = ev
      have ec : ∀ c, ev (.const c) = c := fun c => by rw [← hev]; rfl
      have e15 : ev (.tmp 15) = .int .u32 (iw.toNat : Int) := by rw [← hev]; exact (eval_put (by kernel_rfl) 31 rfl (by decide)).trans q2
      clear hev hd q2
      exact .inl ⟨_, W.alloc (.cells #[.int .u32 (iw.toNat : Int), .int .u32 0] 22), by go_simp, ⟨_, rfl, lit32_at W _ [iw, 0] rfl #[.int .u32 (iw.toNat : Int), .int .u32 0] (rfl) _ (by simp)⟩, bnextA (Below.refl _ _) _⟩
    · obtain rfl := Option.some.inj hoo
      obtain ⟨A3, q3, r3⟩ := hd 3 (by kernel_rfl)
      refine .inl ⟨wanted_none rfl, ?_⟩
      generalize hev : Act.eval _ = ev
      have ec : ∀ c, ev (.const c) = c := fun c => by rw [← hev]; rfl
      have ef : ∀ f, ev (.func f) = .func (.func f) #[] #[] := fun f => by rw [← hev]; rfl
      have e16 : ev (.tmp 16) = .slice A3 2 2 := by rw [← hev]; exact (eval_put (by kernel_rfl) 31 rfl (by decide)).trans q3
      clear hev hd q3
      exact .inr ⟨_, _, _, by go_simp, put32_nil A3 2 [iw, 0] W r3 (by simp), fun e w' he => by
        obtain ⟨L, A, c, rfl, HL, hr, hb⟩ := he
        exact ⟨_, rfl, ⟨L, A, c, rfl, HL, hr⟩, hb⟩⟩
    · obtain rfl := Option.some.inj hoo
      refine .inl ⟨wanted_none rfl, ?_⟩
      generalize hev : Act.eval _ = ev
      have ec : ∀ c, ev (.const c) = c := fun c => by rw [← hev]; rfl
      have e2 : ev (.tmp 2) = .int .i64 (m : Int) := by rw [← hev]; exact eval_old (by kernel_rfl) 31 rfl (by decide) rfl
      clear hev hd
      exact .inl ⟨_, W, by go_simp, rfl, Below.refl _ _⟩
    · obtain rfl := Option.some.inj hoo
      have q0 : uu 0 = .agg #[.int .u64 (lo : Int), .int .u64 (hi : Int)] := hd 0 (by kernel_rfl)
      obtain ⟨L4, A4, c4, q4, HL4, r4⟩ := hd 4 (by kernel_rfl)
      have q5 : uu 5 = .int .i64 (m : Int) := hd 5 (by kernel_rfl)
      refine .inl ⟨wanted_none rfl, ?_⟩
      generalize hev : Act.eval _ = ev
      have ec : ∀ c, ev (.const c) = c := fun c => by rw [← hev]; rfl
      have ef : ∀ f, ev (.func f) = .func (.func f) #[] #[] := fun f => by rw [← hev]; rfl
      have e13 : ev (.tmp 13) = .agg #[.int .u64 (lo : Int), .int .u64 (hi : Int)] := by rw [← hev]; exact (eval_put (by kernel_rfl) 31 rfl (by decide)).trans q0
      have e17 : ev (.tmp 17) = .slice A4 L4.length c4 := by rw [← hev]; exact (eval_put (by kernel_rfl) 31 rfl (by decide)).trans q4
      have e18 : ev (.tmp 18) = .int .i64 (m : Int) := by rw [← hev]; exact (eval_put (by kernel_rfl) 31 rfl (by decide)).trans q5
      clear hev hd q0 q4 q5
      exact .inr ⟨_, _, _, by go_simp, (HF A4 c4 L4 W HL4.out r4).out, fun e w' he => ⟨_, he.1, rfl, he.2⟩⟩
    · obtain rfl := Option.some.inj hoo
      have q6 : uu 6 = .int .i64 (F : Int) := hd 6 (by kernel_rfl)
      refine .inl ⟨wanted_none rfl, ?_⟩
      generalize hev : Act.eval _ = ev
      have ec : ∀ c, ev (.const c) = c := fun c => by rw [← hev]; rfl
      have e19 : ev (.tmp 19) = .int .i64 (F : Int) := by rw [← hev]; exact (eval_put (by kernel_rfl) 31 rfl (by decide)).trans q6
      clear hev hd q6
      exact .inl ⟨_, W, by go_simp, rfl, Below.refl _ _⟩
    · simp at hoo
  · intro uu W hVW hall
    have q7 : uu 7 = .int .i64 (F : Int) := hall 7 (by decide)
    replace hB := hB.trans (hVW.mono hB.size)
    replace K := K.next hVW
    clear hall HCC hVW
    simp only [putAll, Act.put, Nat.reduceAdd, q7]
    simp only [List.setIfInBounds_toArray, List.set_cons_succ, List.set_cons_zero]
    clear q7
    generalize W = V2 at *
    have HCC : ∀ W, Below V2.heap.size V2 W → (W.cell? ⟨w.heap.size, 0, none⟩ = some (.int .u64 (lo : Int)) ∧ W.cell? ⟨w.heap.size, 1, none⟩ = some (.int .u64 (hi : Int))) := by
      intro W h
      obtain ⟨p0, p1, -⟩ := (K.next h).get2
      exact ⟨p0, p1⟩
    go_wp2_with fail
    refine region_put (by kernel_rfl) (by kernel_rfl) (by kernel_rfl) 31 rfl (by kernel_rfl) V2 (fun i v W => match i with
        | 0 => v = .agg #[.int .u64 (lo : Int), .int .u64 (hi : Int)]
        | 1 => v = .int .i64 id
        | 2 => v = .int .u32 (iw.toNat : Int)
        | 3 => ∃ A, v = .slice A 2 2 ∧ Rd wv W W.heap.size A 2 [iw, 1]
        | 4 => ∃ L A c, v = .slice A L.length c ∧ Hid (L = puts32 [iw, 1]) ∧ Rd bv W W.heap.size A c L
        | 5 => v = .int .i64 (m : Int)
        | 6 => v = .int .i64 (m1 : Int)
        | 7 => v = .int .i64 (T0 : Int)
        | 8 => v = .int .i64 (T : Int)
        | 9 => v = .int .i64 (T : Int)
        | _ => True) (Below.refl _ _) ?_ ?_ ?_
    · intro i v W W' h hb
      match i, h with
      | 0, h => exact h
      | 1, h => exact h
      | 2, h => exact h
      | 3, h => obtain ⟨A, h1, h2⟩ := h; exact ⟨A, h1, h2.next hb⟩
      | 4, h => obtain ⟨L, A, c, h1, h2, h3⟩ := h; exact ⟨L, A, c, h1, h2, h3.next hb⟩
      | 5, h => exact h
      | 6, h => exact h
      | 7, h => exact h
      | 8, h => exact h
      | 9, h => exact h
      | _ + 10, _ => trivial
    · intro i o uu W hoo hVW hd
      rcases i with _|_|_|_|_|_|_|_|_|_|i
      · obtain rfl := Option.some.inj hoo
        refine .inl ⟨wanted_none rfl, ?_⟩
        generalize hev : Act.eval _ = ev
        have ec : ∀ c, ev (.const c) = c := fun c => by rw [← hev]; rfl
        have e3 : ev (.tmp 3) = .pointer (some ⟨w.heap.size, 0, none⟩) := by rw [← hev]; exact eval_old (by kernel_rfl) 31 rfl (by decide) rfl
        clear hev hd
        obtain ⟨cc0, cc1⟩ := HCC W hVW
        exact .inl ⟨_, W, by go_simp, rfl, Below.refl _ _⟩
      · obtain rfl := Option.some.inj hoo
        refine .inl ⟨wanted_none rfl, ?_⟩
        generalize hev : Act.eval _ = ev
        have ec : ∀ c, ev (.const c) = c := fun c => by rw [← hev]; rfl
        have e1 : ev (.tmp 1) = .int .i64 id := by rw [← hev]; exact eval_old (by kernel_rfl) 31 rfl (by decide) rfl
        clear hev hd
        exact .inl ⟨_, W, by go_simp, rfl, Below.refl _ _⟩
      · obtain rfl := Option.some.inj hoo
        have q1 : uu 1 = .int .i64 id := hd 1 (by kernel_rfl)
        refine .inl ⟨wanted_none rfl, ?_⟩
        generalize hev : Act.eval _ = ev
        have ec : ∀ c, ev (.const c) = c := fun c => by rw [← hev]; rfl
        have e21 : ev (.tmp 21) = .int .i64 id := by rw [← hev]; exact (eval_put (by kernel_rfl) 31 rfl (by decide)).trans q1
        clear hev hd q1
        have hh := hid
        exact .inl ⟨_, W, by go_simp, rfl, Below.refl _ _⟩
      · obtain rfl := Option.some.inj hoo
        have q2 : uu 2 = .int .u32 (iw.toNat : Int) := hd 2 (by kernel_rfl)
        refine .inl ⟨wanted_none rfl, ?_⟩
        generalize hev : Act.eval _ = ev
        have ec : ∀ c, ev (.const c) = c := fun c => by rw [← hev]; rfl
        have e22 : ev (.tmp 22) = .int .u32 (iw.toNat : Int) := by rw [← hev]; exact (eval_put (by kernel_rfl) 31 rfl (by decide)).trans q2
        clear hev hd q2
        exact .inl ⟨_, W.alloc (.cells #[.int .u32 (iw.toNat : Int), .int .u32 1] 22), by go_simp, ⟨_, rfl, lit32_at W _ [iw, 1] rfl #[.int .u32 (iw.toNat : Int), .int .u32 1] (rfl) _ (by simp)⟩, bnextA (Below.refl _ _) _⟩
      · obtain rfl := Option.some.inj hoo
        obtain ⟨A3, q3, r3⟩ := hd 3 (by kernel_rfl)
        refine .inl ⟨wanted_none rfl, ?_⟩
        generalize hev : Act.eval _ = ev
        have ec : ∀ c, ev (.const c) = c := fun c => by rw [← hev]; rfl
        have ef : ∀ f, ev (.func f) = .func (.func f) #[] #[] := fun f => by rw [← hev]; rfl
        have e23 : ev (.tmp 23) = .slice A3 2 2 := by rw [← hev]; exact (eval_put (by kernel_rfl) 31 rfl (by decide)).trans q3
        clear hev hd q3
        exact .inr ⟨_, _, _, by go_simp, put32_nil A3 2 [iw, 1] W r3 (by simp), fun e w' he => by
          obtain ⟨L, A, c, rfl, HL, hr, hb⟩ := he
          exact ⟨_, rfl, ⟨L, A, c, rfl, HL, hr⟩, hb⟩⟩
      · obtain rfl := Option.some.inj hoo
        refine .inl ⟨wanted_none rfl, ?_⟩
        generalize hev : Act.eval _ = ev
        have ec : ∀ c, ev (.const c) = c := fun c => by rw [← hev]; rfl
        have e2 : ev (.tmp 2) = .int .i64 (m : Int) := by rw [← hev]; exact eval_old (by kernel_rfl) 31 rfl (by decide) rfl
        clear hev hd
        exact .inl ⟨_, W, by go_simp, rfl, Below.refl _ _⟩
      · obtain rfl := Option.some.inj hoo
        have q5 : uu 5 = .int .i64 (m : Int) := hd 5 (by kernel_rfl)
        refine .inl ⟨wanted_none rfl, ?_⟩
        generalize hev : Act.eval _ = ev
        have ec : ∀ c, ev (.const c) = c := fun c => by rw [← hev]; rfl
        have e25 : ev (.tmp 25) = .int .i64 (m : Int) := by rw [← hev]; exact (eval_put (by kernel_rfl) 31 rfl (by decide)).trans q5
        clear hev hd q5
        have hh := HM.out
        have hh2 := HM2.out
        exact .inl ⟨_, W, by go_simp, rfl, Below.refl _ _⟩
      · obtain rfl := Option.some.inj hoo
        have q0 : uu 0 = .agg #[.int .u64 (lo : Int), .int .u64 (hi : Int)] := hd 0 (by kernel_rfl)
        obtain ⟨L4, A4, c4, q4, HL4, r4⟩ := hd 4 (by kernel_rfl)
        have q6 : uu 6 = .int .i64 (m1 : Int) := hd 6 (by kernel_rfl)
        refine .inl ⟨wanted_none rfl, ?_⟩
        generalize hev : Act.eval _ = ev
        have ec : ∀ c, ev (.const c) = c := fun c => by rw [← hev]; rfl
        have ef : ∀ f, ev (.func f) = .func (.func f) #[] #[] := fun f => by rw [← hev]; rfl
        have e20 : ev (.tmp 20) = .agg #[.int .u64 (lo : Int), .int .u64 (hi : Int)] := by rw [← hev]; exact (eval_put (by kernel_rfl) 31 rfl (by decide)).trans q0
        have e24 : ev (.tmp 24) = .slice A4 L4.length c4 := by rw [← hev]; exact (eval_put (by kernel_rfl) 31 rfl (by decide)).trans q4
        have e26 : ev (.tmp 26) = .int .i64 (m1 : Int) := by rw [← hev]; exact (eval_put (by kernel_rfl) 31 rfl (by decide)).trans q6
        clear hev hd q0 q4 q6
        exact .inr ⟨_, _, _, by go_simp, (HT A4 c4 L4 W HL4.out r4).out, fun e w' he => ⟨_, he.1, rfl, he.2⟩⟩
      · obtain rfl := Option.some.inj hoo
        have q7 : uu 7 = .int .i64 (T0 : Int) := hd 7 (by kernel_rfl)
        refine .inl ⟨wanted_none rfl, ?_⟩
        generalize hev : Act.eval _ = ev
        have ec : ∀ c, ev (.const c) = c := fun c => by rw [← hev]; rfl
        have e27 : ev (.tmp 27) = .int .i64 (T0 : Int) := by rw [← hev]; exact (eval_put (by kernel_rfl) 31 rfl (by decide)).trans q7
        clear hev hd q7
        have hh := HT1.out
        have hh2 := HT2.out
        exact .inl ⟨_, W, by go_simp, rfl, Below.refl _ _⟩
      · obtain rfl := Option.some.inj hoo
        have q8 : uu 8 = .int .i64 (T : Int) := hd 8 (by kernel_rfl)
        refine .inl ⟨wanted_none rfl, ?_⟩
        generalize hev : Act.eval _ = ev
        have ec : ∀ c, ev (.const c) = c := fun c => by rw [← hev]; rfl
        have e28 : ev (.tmp 28) = .int .i64 (T : Int) := by rw [← hev]; exact (eval_put (by kernel_rfl) 31 rfl (by decide)).trans q8
        clear hev hd q8
        exact .inl ⟨_, W, by go_simp, rfl, Below.refl _ _⟩
      · simp at hoo
    · intro uu W hVW hall
      have q9 : uu 9 = .int .i64 (T : Int) := hall 9 (by decide)
      replace hB := hB.trans (hVW.mono hB.size)
      replace K := K.next hVW
      clear hall HCC hVW
      simp only [putAll, Act.put, Nat.reduceAdd, q9]
      simp only [List.setIfInBounds_toArray, List.set_cons_succ, List.set_cons_zero]
      clear q9
      generalize W = V3 at *
      go_wp2_with fail
      go_ret2
      exact ⟨rfl, hB⟩
set_option maxHeartbeats 1000000 in
theorem rstart_ok (lo hi : Nat) (h1 : lo < 18446744073709551616) (h2 : hi < 18446744073709551616) (id : Int) (iw : UInt32) (hid : IntKind.u32.wrap id = (iw.toNat : Int)) (m F T : Nat) (hm2 : 2 ≤ m) (hm : m ≤ 251) (hF : sipN lo hi (puts32 [iw, 0]) % m = F) (hT : sipN lo hi (puts32 [iw, 1]) % (m - 1) + 1 = T) (w : World) :
    Calls Try.prog 56 #[.agg #[.int .u64 (lo : Int), .int .u64 (hi : Int)], .int .i64 id, .int .i64 (m : Int)] w fun e w' => e = .returned (.tuple #[.int .i64 (F : Int), .int .i64 (T : Int)]) ∧ Below w.heap.size w w' := by
  obtain ⟨m1, hm1⟩ : ∃ m1, m - 1 = m1 := ⟨_, rfl⟩
  rw [hm1] at hT
  obtain ⟨S0, hS0⟩ : ∃ S0, sipN lo hi (puts32 [iw, 0]) = S0 := ⟨_, rfl⟩
  obtain ⟨S1, hS1⟩ : ∃ S1, sipN lo hi (puts32 [iw, 1]) = S1 := ⟨_, rfl⟩
  rw [hS0] at hF
  rw [hS1] at hT
  obtain ⟨T0, hT0⟩ : ∃ T0, S1 % m1 = T0 := ⟨_, rfl⟩
  rw [hT0] at hT
  have hT0l : T0 < m1 := by rw [← hT0]; exact Nat.mod_lt _ (by omega)
  have hFl : F < m := by rw [← hF]; exact Nat.mod_lt _ (by omega)
  have HS0 : ∀ A c (L : List UInt8) W, L = puts32 [iw, 0] → Rd bv W W.heap.size A c L → Hid (Calls Try.prog 57 #[.agg #[.int .u64 (lo : Int), .int .u64 (hi : Int)], .slice A L.length c] W fun e w' => e = .returned (.int .u64 (S0 : Int)) ∧ Below W.heap.size W w') := by
    intro A c L W hL hr
    have h := rsum_sip lo hi h1 h2 A c L W hr (by rw [hL, puts32_len]; simp)
    rw [show sipN lo hi L = S0 by rw [hL, hS0]] at h
    exact h
  have HS1 : ∀ A c (L : List UInt8) W, L = puts32 [iw, 1] → Rd bv W W.heap.size A c L → Hid (Calls Try.prog 57 #[.agg #[.int .u64 (lo : Int), .int .u64 (hi : Int)], .slice A L.length c] W fun e w' => e = .returned (.int .u64 (S1 : Int)) ∧ Below W.heap.size W w') := by
    intro A c L W hL hr
    have h := rsum_sip lo hi h1 h2 A c L W hr (by rw [hL, puts32_len]; simp)
    rw [show sipN lo hi L = S1 by rw [hL, hS1]] at h
    exact h
  have HPU : ∀ W, Hid (Calls Try.prog 40 #[.int .u32 (iw.toNat : Int), .int .i64 4] W fun e w' => ∃ L A c, e = .returned (.slice A L.length c) ∧ Hid (L = putN 4 iw.toNat) ∧ Rd bv w' w'.heap.size A c L ∧ Below W.heap.size W w') := by
    intro W
    refine (rput_any iw.toNat 4 W (by have := iw.toNat_lt; omega) (by omega)).mono ?_
    rintro e w' ⟨v, rfl, hown, hb⟩
    obtain ⟨L, A, c, HL, rfl, hr⟩ := hown.rdv
    exact ⟨L, A, c, rfl, HL, hr, hb⟩
  have HZ0 : Hid (putN 4 iw.toNat ++ [0, 0, 0, 0] = puts32 [iw, 0]) := by simp [Hid, puts32, be32_put, putN_four]
  have HZ1 : Hid (putN 4 iw.toNat ++ [0, 0, 0, 1] = puts32 [iw, 1]) := by simp [Hid, puts32, be32_put, putN_four]
  have HM : Hid ((m : Int) - 1 = (m1 : Int)) := by rw [Hid]; omega
  have HM2 : Hid (IntKind.i64.wrap (m1 : Int) = (m1 : Int)) := by rw [Hid, IntKind.wrap_i64]; omega
  have HT1 : Hid ((T0 : Int) + 1 = (T : Int)) := by rw [Hid]; omega
  have HT2 : Hid (IntKind.i64.wrap (T : Int) = (T : Int)) := by rw [Hid, IntKind.wrap_i64]; omega
  have HW1 : Hid (IntKind.u64.wrap (m : Int) = (m : Int)) := by rw [Hid, wrap_u64s]; omega
  have HW2 : Hid (IntKind.i64.wrap (F : Int) = (F : Int)) := by rw [Hid, IntKind.wrap_i64]; omega
  have HW3 : Hid (IntKind.u64.wrap (m1 : Int) = (m1 : Int)) := by rw [Hid, wrap_u64s]; omega
  have HW4 : Hid (IntKind.i64.wrap (T0 : Int) = (T0 : Int)) := by rw [Hid, IntKind.wrap_i64]; omega
  have HF : ∀ _ : Unit, ((S0 : Int).tmod (m : Int) = (F : Int)) ∧ ((S0 : Int) % (m : Int) = (F : Int)) := by
    intro _
    rw [Int.tmod_eq_emod_of_nonneg (by omega), ← hF]
    simp
  have HT : ∀ _ : Unit, ((S1 : Int).tmod (m1 : Int) = (T0 : Int)) ∧ ((S1 : Int) % (m1 : Int) = (T0 : Int)) := by
    intro _
    rw [Int.tmod_eq_emod_of_nonneg (by omega), ← hT0]
    simp
  have HNZ : Hid (((m : Int) == 0) = false) := by simp [Hid]; omega
  have HNZ2 : Hid ((m : Int) ≠ 0) := by simp [Hid]; omega
  have HNZ3 : Hid (¬ m = 0) := by rw [Hid]; omega
  have HNY3 : Hid (¬ m1 = 0) := by rw [Hid]; omega
  have HNY : Hid (((m1 : Int) == 0) = false) := by simp [Hid]; omega
  have HNY2 : Hid ((m1 : Int) ≠ 0) := by simp [Hid]; omega
  obtain ⟨V0, hV⟩ : ∃ V, V = w.alloc (.cells #[.int .u64 (lo : Int), .int .u64 (hi : Int)] 35) := ⟨_, rfl⟩
  have hB : Below w.heap.size w V0 := by subst hV; exact bnextA (Below.refl _ _) _
  have K : Blk V0 w.heap.size [.int .u64 (lo : Int), .int .u64 (hi : Int)] 35 := by subst hV; exact Blk.new _ _ _
  clear hF hT hT0 hm1 hT0l hS0 hS1 hFl
  go_enter Try.func56, Try.ntmps56
  go_wp2_with fail
  rw [← hV]
  clear hV
  refine (HPU _).out.mono ?_
  rintro e V ⟨L8, A8, c8, rfl, H8, r8, hb⟩
  replace hB := bnext hB hb
  replace K := K.next hb
  clear hb HPU
  have HCC : ∀ W, Below V.heap.size V W → (W.cell? ⟨w.heap.size, 0, none⟩ = some (.int .u64 (lo : Int)) ∧ W.cell? ⟨w.heap.size, 1, none⟩ = some (.int .u64 (hi : Int))) := by
    intro W h
    obtain ⟨p0, p1, -⟩ := (K.next h).get2
    exact ⟨p0, p1⟩
  go_wp2_with fail
  refine region_put (by kernel_rfl) (by kernel_rfl) (by kernel_rfl) 34 rfl (by kernel_rfl) V (fun i v W => match i with
      | 0 => v = .agg #[.int .u64 (lo : Int), .int .u64 (hi : Int)]
      | 1 => ∃ L A c, v = .slice A L.length c ∧ Hid (L = L8) ∧ Rd bv W W.heap.size A c L
      | 2 => ∃ A, v = .slice A 4 4 ∧ Rd bv W W.heap.size A 4 [0, 0, 0, 0]
      | 3 => ∃ L A c, v = .slice A L.length c ∧ Hid (L = puts32 [iw, 0]) ∧ Rd bv W W.heap.size A c L
      | 4 => v = .int .u64 (S0 : Int)
      | 5 => v = .int .i64 (m : Int)
      | 6 => v = .int .u64 (m : Int)
      | 7 => v = .int .u64 (F : Int)
      | 8 => v = .int .i64 (F : Int)
      | 9 => v = .int .i64 (F : Int)
      | _ => True) (Below.refl _ _) ?_ ?_ ?_
  · intro i v W W' h hb
    match i, h with
    | 0, h => exact h
    | 1, h => obtain ⟨L, A, c, h1, h2, h3⟩ := h; exact ⟨L, A, c, h1, h2, h3.next hb⟩
    | 2, h => obtain ⟨A, h1, h2⟩ := h; exact ⟨A, h1, h2.next hb⟩
    | 3, h => obtain ⟨L, A, c, h1, h2, h3⟩ := h; exact ⟨L, A, c, h1, h2, h3.next hb⟩
    | 4, h => exact h
    | 5, h => exact h
    | 6, h => exact h
    | 7, h => exact h
    | 8, h => exact h
    | 9, h => exact h
    | _ + 10, _ => trivial
  · intro i o uu W hoo hVW hd
    rcases i with _|_|_|_|_|_|_|_|_|_|i
    · obtain rfl := Option.some.inj hoo
      refine .inl ⟨wanted_none rfl, ?_⟩
      generalize hev : Act.eval _ = ev
      have ec : ∀ c, ev (.const c) = c := fun c => by rw [← hev]; rfl
      have e3 : ev (.tmp 3) = .pointer (some ⟨w.heap.size, 0, none⟩) := by rw [← hev]; exact eval_old (by kernel_rfl) 34 rfl (by decide) rfl
      clear hev hd
      obtain ⟨cc0, cc1⟩ := HCC W hVW
      exact .inl ⟨_, W, by go_simp, rfl, Below.refl _ _⟩
    · obtain rfl := Option.some.inj hoo
      refine .inl ⟨wanted_none rfl, ?_⟩
      generalize hev : Act.eval _ = ev
      have ec : ∀ c, ev (.const c) = c := fun c => by rw [← hev]; rfl
      have e8 : ev (.tmp 8) = .slice A8 L8.length c8 := by rw [← hev]; exact eval_old (by kernel_rfl) 34 rfl (by decide) rfl
      clear hev hd
      exact .inl ⟨.slice A8 L8.length c8, W, by go_simp, ⟨L8, A8, c8, rfl, rfl, (r8.next hVW)⟩, Below.refl _ _⟩
    · obtain rfl := Option.some.inj hoo
      refine .inl ⟨wanted_none rfl, ?_⟩
      generalize hev : Act.eval _ = ev
      have ec : ∀ c, ev (.const c) = c := fun c => by rw [← hev]; rfl
      clear hev hd
      exact .inl ⟨_, W.alloc (.cells #[.int .u8 0, .int .u8 0, .int .u8 0, .int .u8 0] 5), by go_simp, ⟨_, rfl, lit_at W _ [0, 0, 0, 0] rfl #[.int .u8 0, .int .u8 0, .int .u8 0, .int .u8 0] (rfl) _ (by simp)⟩, bnextA (Below.refl _ _) _⟩
    · obtain rfl := Option.some.inj hoo
      obtain ⟨L1, A1, c1, q1, HL1, r1⟩ := hd 1 (by kernel_rfl)
      obtain ⟨A2, q2, r2⟩ := hd 2 (by kernel_rfl)
      refine .inl ⟨wanted_none rfl, ?_⟩
      generalize hev : Act.eval _ = ev
      have ec : ∀ c, ev (.const c) = c := fun c => by rw [← hev]; rfl
      have ef : ∀ f, ev (.func f) = .func (.func f) #[] #[] := fun f => by rw [← hev]; rfl
      have e14 : ev (.tmp 14) = .slice A1 L1.length c1 := by rw [← hev]; exact (eval_put (by kernel_rfl) 34 rfl (by decide)).trans q1
      have e15 : ev (.tmp 15) = .slice A2 4 4 := by rw [← hev]; exact (eval_put (by kernel_rfl) 34 rfl (by decide)).trans q2
      clear hev hd q1 q2
      exact .inr ⟨_, _, _, by go_simp, radd_row A1 A2 c1 4 L1 [0, 0, 0, 0] W r1 r2 (by rw [HL1.out, H8.out, putN_len]; simp), fun e w' he => by
        obtain ⟨L, A, c, rfl, HL, hr, hb⟩ := he
        exact ⟨_, rfl, ⟨L, A, c, rfl, (by rw [Hid, HL.out, HL1.out, H8.out, HZ0.out]), hr⟩, hb⟩⟩
    · obtain rfl := Option.some.inj hoo
      have q0 : uu 0 = .agg #[.int .u64 (lo : Int), .int .u64 (hi : Int)] := hd 0 (by kernel_rfl)
      obtain ⟨L3, A3, c3, q3, HL3, r3⟩ := hd 3 (by kernel_rfl)
      refine .inl ⟨wanted_none rfl, ?_⟩
      generalize hev : Act.eval _ = ev
      have ec : ∀ c, ev (.const c) = c := fun c => by rw [← hev]; rfl
      have ef : ∀ f, ev (.func f) = .func (.func f) #[] #[] := fun f => by rw [← hev]; rfl
      have e13 : ev (.tmp 13) = .agg #[.int .u64 (lo : Int), .int .u64 (hi : Int)] := by rw [← hev]; exact (eval_put (by kernel_rfl) 34 rfl (by decide)).trans q0
      have e16 : ev (.tmp 16) = .slice A3 L3.length c3 := by rw [← hev]; exact (eval_put (by kernel_rfl) 34 rfl (by decide)).trans q3
      clear hev hd q0 q3
      exact .inr ⟨_, _, _, by go_simp, (HS0 A3 c3 L3 W HL3.out r3).out, fun e w' he => ⟨_, he.1, rfl, he.2⟩⟩
    · obtain rfl := Option.some.inj hoo
      refine .inl ⟨wanted_none rfl, ?_⟩
      generalize hev : Act.eval _ = ev
      have ec : ∀ c, ev (.const c) = c := fun c => by rw [← hev]; rfl
      have e2 : ev (.tmp 2) = .int .i64 (m : Int) := by rw [← hev]; exact eval_old (by kernel_rfl) 34 rfl (by decide) rfl
      clear hev hd
      exact .inl ⟨_, W, by go_simp, rfl, Below.refl _ _⟩
    · obtain rfl := Option.some.inj hoo
      have q5 : uu 5 = .int .i64 (m : Int) := hd 5 (by kernel_rfl)
      refine .inl ⟨wanted_none rfl, ?_⟩
      generalize hev : Act.eval _ = ev
      have ec : ∀ c, ev (.const c) = c := fun c => by rw [← hev]; rfl
      have e18 : ev (.tmp 18) = .int .i64 (m : Int) := by rw [← hev]; exact (eval_put (by kernel_rfl) 34 rfl (by decide)).trans q5
      clear hev hd q5
      have hh := HW1.out
      exact .inl ⟨_, W, by go_simp, rfl, Below.refl _ _⟩
    · obtain rfl := Option.some.inj hoo
      have q4 : uu 4 = .int .u64 (S0 : Int) := hd 4 (by kernel_rfl)
      have q6 : uu 6 = .int .u64 (m : Int) := hd 6 (by kernel_rfl)
      refine .inl ⟨wanted_none rfl, ?_⟩
      generalize hev : Act.eval _ = ev
      have ec : ∀ c, ev (.const c) = c := fun c => by rw [← hev]; rfl
      have e17 : ev (.tmp 17) = .int .u64 (S0 : Int) := by rw [← hev]; exact (eval_put (by kernel_rfl) 34 rfl (by decide)).trans q4
      have e19 : ev (.tmp 19) = .int .u64 (m : Int) := by rw [← hev]; exact (eval_put (by kernel_rfl) 34 rfl (by decide)).trans q6
      clear hev hd q4 q6
      have hh := (HF ()).1
      have hh2 := (HF ()).2
      have hh3 := HNZ.out
      have hh4 := HNZ2.out
      have hh5 := HNZ3.out
      exact .inl ⟨_, W, by go_simp, rfl, Below.refl _ _⟩
    · obtain rfl := Option.some.inj hoo
      have q7 : uu 7 = .int .u64 (F : Int) := hd 7 (by kernel_rfl)
      refine .inl ⟨wanted_none rfl, ?_⟩
      generalize hev : Act.eval _ = ev
      have ec : ∀ c, ev (.const c) = c := fun c => by rw [← hev]; rfl
      have e20 : ev (.tmp 20) = .int .u64 (F : Int) := by rw [← hev]; exact (eval_put (by kernel_rfl) 34 rfl (by decide)).trans q7
      clear hev hd q7
      have hh := HW2.out
      exact .inl ⟨_, W, by go_simp, rfl, Below.refl _ _⟩
    · obtain rfl := Option.some.inj hoo
      have q8 : uu 8 = .int .i64 (F : Int) := hd 8 (by kernel_rfl)
      refine .inl ⟨wanted_none rfl, ?_⟩
      generalize hev : Act.eval _ = ev
      have ec : ∀ c, ev (.const c) = c := fun c => by rw [← hev]; rfl
      have e21 : ev (.tmp 21) = .int .i64 (F : Int) := by rw [← hev]; exact (eval_put (by kernel_rfl) 34 rfl (by decide)).trans q8
      clear hev hd q8
      exact .inl ⟨_, W, by go_simp, rfl, Below.refl _ _⟩
    · simp at hoo
  · intro uu W hVW hall
    have q9 : uu 9 = .int .i64 (F : Int) := hall 9 (by decide)
    replace r8 := r8.next hVW
    replace hB := hB.trans (hVW.mono hB.size)
    replace K := K.next hVW
    clear hall HCC hVW
    simp only [putAll, Act.put, Nat.reduceAdd, q9]
    simp only [List.setIfInBounds_toArray, List.set_cons_succ, List.set_cons_zero]
    clear q9
    generalize W = V2 at *
    have HCC : ∀ W, Below V2.heap.size V2 W → (W.cell? ⟨w.heap.size, 0, none⟩ = some (.int .u64 (lo : Int)) ∧ W.cell? ⟨w.heap.size, 1, none⟩ = some (.int .u64 (hi : Int))) := by
      intro W h
      obtain ⟨p0, p1, -⟩ := (K.next h).get2
      exact ⟨p0, p1⟩
    go_wp2_with fail
    refine region_put (by kernel_rfl) (by kernel_rfl) (by kernel_rfl) 34 rfl (by kernel_rfl) V2 (fun i v W => match i with
        | 0 => v = .int .i64 (F : Int)
        | 1 => v = .agg #[.int .u64 (lo : Int), .int .u64 (hi : Int)]
        | 2 => ∃ L A c, v = .slice A L.length c ∧ Hid (L = L8) ∧ Rd bv W W.heap.size A c L
        | 3 => ∃ A, v = .slice A 4 4 ∧ Rd bv W W.heap.size A 4 [0, 0, 0, 1]
        | 4 => ∃ L A c, v = .slice A L.length c ∧ Hid (L = puts32 [iw, 1]) ∧ Rd bv W W.heap.size A c L
        | 5 => v = .int .u64 (S1 : Int)
        | 6 => v = .int .i64 (m : Int)
        | 7 => v = .int .i64 (m1 : Int)
        | 8 => v = .int .u64 (m1 : Int)
        | 9 => v = .int .u64 (T0 : Int)
        | 10 => v = .int .i64 (T0 : Int)
        | 11 => v = .int .i64 (T : Int)
        | 12 => v = .int .i64 (F : Int)
        | 13 => v = .int .i64 (T : Int)
        | _ => True) (Below.refl _ _) ?_ ?_ ?_
    · intro i v W W' h hb
      match i, h with
      | 0, h => exact h
      | 1, h => exact h
      | 2, h => obtain ⟨L, A, c, h1, h2, h3⟩ := h; exact ⟨L, A, c, h1, h2, h3.next hb⟩
      | 3, h => obtain ⟨A, h1, h2⟩ := h; exact ⟨A, h1, h2.next hb⟩
      | 4, h => obtain ⟨L, A, c, h1, h2, h3⟩ := h; exact ⟨L, A, c, h1, h2, h3.next hb⟩
      | 5, h => exact h
      | 6, h => exact h
      | 7, h => exact h
      | 8, h => exact h
      | 9, h => exact h
      | 10, h => exact h
      | 11, h => exact h
      | 12, h => exact h
      | 13, h => exact h
      | _ + 14, _ => trivial
    · intro i o uu W hoo hVW hd
      rcases i with _|_|_|_|_|_|_|_|_|_|_|_|_|_|i
      · obtain rfl := Option.some.inj hoo
        refine .inl ⟨wanted_none rfl, ?_⟩
        generalize hev : Act.eval _ = ev
        have ec : ∀ c, ev (.const c) = c := fun c => by rw [← hev]; rfl
        have e9 : ev (.tmp 9) = .int .i64 (F : Int) := by rw [← hev]; exact eval_old (by kernel_rfl) 34 rfl (by decide) rfl
        clear hev hd
        exact .inl ⟨_, W, by go_simp, rfl, Below.refl _ _⟩
      · obtain rfl := Option.some.inj hoo
        refine .inl ⟨wanted_none rfl, ?_⟩
        generalize hev : Act.eval _ = ev
        have ec : ∀ c, ev (.const c) = c := fun c => by rw [← hev]; rfl
        have e3 : ev (.tmp 3) = .pointer (some ⟨w.heap.size, 0, none⟩) := by rw [← hev]; exact eval_old (by kernel_rfl) 34 rfl (by decide) rfl
        clear hev hd
        obtain ⟨cc0, cc1⟩ := HCC W hVW
        exact .inl ⟨_, W, by go_simp, rfl, Below.refl _ _⟩
      · obtain rfl := Option.some.inj hoo
        refine .inl ⟨wanted_none rfl, ?_⟩
        generalize hev : Act.eval _ = ev
        have ec : ∀ c, ev (.const c) = c := fun c => by rw [← hev]; rfl
        have e8 : ev (.tmp 8) = .slice A8 L8.length c8 := by rw [← hev]; exact eval_old (by kernel_rfl) 34 rfl (by decide) rfl
        clear hev hd
        exact .inl ⟨.slice A8 L8.length c8, W, by go_simp, ⟨L8, A8, c8, rfl, rfl, (r8.next hVW)⟩, Below.refl _ _⟩
      · obtain rfl := Option.some.inj hoo
        refine .inl ⟨wanted_none rfl, ?_⟩
        generalize hev : Act.eval _ = ev
        have ec : ∀ c, ev (.const c) = c := fun c => by rw [← hev]; rfl
        clear hev hd
        exact .inl ⟨_, W.alloc (.cells #[.int .u8 0, .int .u8 0, .int .u8 0, .int .u8 1] 5), by go_simp, ⟨_, rfl, lit_at W _ [0, 0, 0, 1] rfl #[.int .u8 0, .int .u8 0, .int .u8 0, .int .u8 1] (rfl) _ (by simp)⟩, bnextA (Below.refl _ _) _⟩
      · obtain rfl := Option.some.inj hoo
        obtain ⟨L2, A2, c2, q2, HL2, r2⟩ := hd 2 (by kernel_rfl)
        obtain ⟨A3, q3, r3⟩ := hd 3 (by kernel_rfl)
        refine .inl ⟨wanted_none rfl, ?_⟩
        generalize hev : Act.eval _ = ev
        have ec : ∀ c, ev (.const c) = c := fun c => by rw [← hev]; rfl
        have ef : ∀ f, ev (.func f) = .func (.func f) #[] #[] := fun f => by rw [← hev]; rfl
        have e24 : ev (.tmp 24) = .slice A2 L2.length c2 := by rw [← hev]; exact (eval_put (by kernel_rfl) 34 rfl (by decide)).trans q2
        have e25 : ev (.tmp 25) = .slice A3 4 4 := by rw [← hev]; exact (eval_put (by kernel_rfl) 34 rfl (by decide)).trans q3
        clear hev hd q2 q3
        exact .inr ⟨_, _, _, by go_simp, radd_row A2 A3 c2 4 L2 [0, 0, 0, 1] W r2 r3 (by rw [HL2.out, H8.out, putN_len]; simp), fun e w' he => by
          obtain ⟨L, A, c, rfl, HL, hr, hb⟩ := he
          exact ⟨_, rfl, ⟨L, A, c, rfl, (by rw [Hid, HL.out, HL2.out, H8.out, HZ1.out]), hr⟩, hb⟩⟩
      · obtain rfl := Option.some.inj hoo
        have q1 : uu 1 = .agg #[.int .u64 (lo : Int), .int .u64 (hi : Int)] := hd 1 (by kernel_rfl)
        obtain ⟨L4, A4, c4, q4, HL4, r4⟩ := hd 4 (by kernel_rfl)
        refine .inl ⟨wanted_none rfl, ?_⟩
        generalize hev : Act.eval _ = ev
        have ec : ∀ c, ev (.const c) = c := fun c => by rw [← hev]; rfl
        have ef : ∀ f, ev (.func f) = .func (.func f) #[] #[] := fun f => by rw [← hev]; rfl
        have e23 : ev (.tmp 23) = .agg #[.int .u64 (lo : Int), .int .u64 (hi : Int)] := by rw [← hev]; exact (eval_put (by kernel_rfl) 34 rfl (by decide)).trans q1
        have e26 : ev (.tmp 26) = .slice A4 L4.length c4 := by rw [← hev]; exact (eval_put (by kernel_rfl) 34 rfl (by decide)).trans q4
        clear hev hd q1 q4
        exact .inr ⟨_, _, _, by go_simp, (HS1 A4 c4 L4 W HL4.out r4).out, fun e w' he => ⟨_, he.1, rfl, he.2⟩⟩
      · obtain rfl := Option.some.inj hoo
        refine .inl ⟨wanted_none rfl, ?_⟩
        generalize hev : Act.eval _ = ev
        have ec : ∀ c, ev (.const c) = c := fun c => by rw [← hev]; rfl
        have e2 : ev (.tmp 2) = .int .i64 (m : Int) := by rw [← hev]; exact eval_old (by kernel_rfl) 34 rfl (by decide) rfl
        clear hev hd
        exact .inl ⟨_, W, by go_simp, rfl, Below.refl _ _⟩
      · obtain rfl := Option.some.inj hoo
        have q6 : uu 6 = .int .i64 (m : Int) := hd 6 (by kernel_rfl)
        refine .inl ⟨wanted_none rfl, ?_⟩
        generalize hev : Act.eval _ = ev
        have ec : ∀ c, ev (.const c) = c := fun c => by rw [← hev]; rfl
        have e28 : ev (.tmp 28) = .int .i64 (m : Int) := by rw [← hev]; exact (eval_put (by kernel_rfl) 34 rfl (by decide)).trans q6
        clear hev hd q6
        have hh := HM.out
        have hh2 := HM2.out
        exact .inl ⟨_, W, by go_simp, rfl, Below.refl _ _⟩
      · obtain rfl := Option.some.inj hoo
        have q7 : uu 7 = .int .i64 (m1 : Int) := hd 7 (by kernel_rfl)
        refine .inl ⟨wanted_none rfl, ?_⟩
        generalize hev : Act.eval _ = ev
        have ec : ∀ c, ev (.const c) = c := fun c => by rw [← hev]; rfl
        have e29 : ev (.tmp 29) = .int .i64 (m1 : Int) := by rw [← hev]; exact (eval_put (by kernel_rfl) 34 rfl (by decide)).trans q7
        clear hev hd q7
        have hh := HW3.out
        exact .inl ⟨_, W, by go_simp, rfl, Below.refl _ _⟩
      · obtain rfl := Option.some.inj hoo
        have q5 : uu 5 = .int .u64 (S1 : Int) := hd 5 (by kernel_rfl)
        have q8 : uu 8 = .int .u64 (m1 : Int) := hd 8 (by kernel_rfl)
        refine .inl ⟨wanted_none rfl, ?_⟩
        generalize hev : Act.eval _ = ev
        have ec : ∀ c, ev (.const c) = c := fun c => by rw [← hev]; rfl
        have e27 : ev (.tmp 27) = .int .u64 (S1 : Int) := by rw [← hev]; exact (eval_put (by kernel_rfl) 34 rfl (by decide)).trans q5
        have e30 : ev (.tmp 30) = .int .u64 (m1 : Int) := by rw [← hev]; exact (eval_put (by kernel_rfl) 34 rfl (by decide)).trans q8
        clear hev hd q5 q8
        have hh := (HT ()).1
        have hh2 := (HT ()).2
        have hh3 := HNY.out
        have hh4 := HNY2.out
        have hh5 := HNY3.out
        exact .inl ⟨_, W, by go_simp, rfl, Below.refl _ _⟩
      · obtain rfl := Option.some.inj hoo
        have q9 : uu 9 = .int .u64 (T0 : Int) := hd 9 (by kernel_rfl)
        refine .inl ⟨wanted_none rfl, ?_⟩
        generalize hev : Act.eval _ = ev
        have ec : ∀ c, ev (.const c) = c := fun c => by rw [← hev]; rfl
        have e31 : ev (.tmp 31) = .int .u64 (T0 : Int) := by rw [← hev]; exact (eval_put (by kernel_rfl) 34 rfl (by decide)).trans q9
        clear hev hd q9
        have hh := HW4.out
        exact .inl ⟨_, W, by go_simp, rfl, Below.refl _ _⟩
      · obtain rfl := Option.some.inj hoo
        have q10 : uu 10 = .int .i64 (T0 : Int) := hd 10 (by kernel_rfl)
        refine .inl ⟨wanted_none rfl, ?_⟩
        generalize hev : Act.eval _ = ev
        have ec : ∀ c, ev (.const c) = c := fun c => by rw [← hev]; rfl
        have e32 : ev (.tmp 32) = .int .i64 (T0 : Int) := by rw [← hev]; exact (eval_put (by kernel_rfl) 34 rfl (by decide)).trans q10
        clear hev hd q10
        have hh := HT1.out
        have hh2 := HT2.out
        exact .inl ⟨_, W, by go_simp, rfl, Below.refl _ _⟩
      · obtain rfl := Option.some.inj hoo
        have q0 : uu 0 = .int .i64 (F : Int) := hd 0 (by kernel_rfl)
        refine .inl ⟨wanted_none rfl, ?_⟩
        generalize hev : Act.eval _ = ev
        have ec : ∀ c, ev (.const c) = c := fun c => by rw [← hev]; rfl
        have e22 : ev (.tmp 22) = .int .i64 (F : Int) := by rw [← hev]; exact (eval_put (by kernel_rfl) 34 rfl (by decide)).trans q0
        clear hev hd q0
        exact .inl ⟨_, W, by go_simp, rfl, Below.refl _ _⟩
      · obtain rfl := Option.some.inj hoo
        have q11 : uu 11 = .int .i64 (T : Int) := hd 11 (by kernel_rfl)
        refine .inl ⟨wanted_none rfl, ?_⟩
        generalize hev : Act.eval _ = ev
        have ec : ∀ c, ev (.const c) = c := fun c => by rw [← hev]; rfl
        have e33 : ev (.tmp 33) = .int .i64 (T : Int) := by rw [← hev]; exact (eval_put (by kernel_rfl) 34 rfl (by decide)).trans q11
        clear hev hd q11
        exact .inl ⟨_, W, by go_simp, rfl, Below.refl _ _⟩
      · simp at hoo
    · intro uu W hVW hall
      have q12 : uu 12 = .int .i64 (F : Int) := hall 12 (by decide)
      have q13 : uu 13 = .int .i64 (T : Int) := hall 13 (by decide)
      replace hB := hB.trans (hVW.mono hB.size)
      replace K := K.next hVW
      clear hall HCC hVW
      simp only [putAll, Act.put, Nat.reduceAdd, q12, q13]
      simp only [List.setIfInBounds_toArray, List.set_cons_succ, List.set_cons_zero]
      clear q12 q13
      generalize W = V3 at *
      go_wp2_with fail
      go_ret2
      exact ⟨rfl, hB⟩
end Go.Proofs.Ytggcomociojfoaa
