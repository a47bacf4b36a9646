/- Contracts of Row, At and Same on both sides, and of the law's lives. -/
import Derived.Test.YtggcomociojfoaaPerm1
namespace Go.Proofs.Ytggcomociojfoaa
open Go.RowKit

def iv (x : Int) : Value := .int .i64 x
theorem iv_one (x : Int) : (iv x).oneCell' = true := rfl
theorem info_i64 : (Try.prog.info? 3).map (fun i => (i.zero, i.size, i.bytes)) = some (some (.int .i64 0), 1, 8) := by kernel_rfl
/-- All places, from F on by T. -/
def rowN (F T m : Nat) : List Int := (List.range m).map fun j => (((F + j * T) % m : Nat) : Int)
theorem rowN_len (F T m : Nat) : (rowN F T m).length = m := by simp [rowN]
theorem rowN_at (F T m j : Nat) (hj : j < m) : (rowN F T m)[j]? = some (((F + j * T) % m : Nat) : Int) := by simp [rowN, hj]
theorem row_set (R : List Int) (m j : Nat) (hR : R.length = m) (hj : j < m) (x : Int) (hx : R[j]? = some x) : (R.take j ++ List.replicate (m - j) 0).set j x = R.take (j + 1) ++ List.replicate (m - (j + 1)) 0 := by
  have h1 : m - j = (m - (j + 1)) + 1 := by omega
  have h2 : (R.take j).length = j := by simp; omega
  rw [h1, List.replicate_succ, List.set_append, if_neg (by omega), h2, Nat.sub_self, List.set_cons_zero, List.take_add_one, hx]
  simp
theorem prow_no (lo hi : Nat) (id m : Int) (hp : pI m = false) (w : World) : Calls Try.prog 29 #[.agg #[.int .u64 (lo : Int), .int .u64 (hi : Int)], .int .i64 id, .int .i64 m] w fun e w' => e = .returned (.slice none 0 0) ∧ Below w.heap.size w w' := by
  have HP := fun W => Lib.hid (prime_any m W)
  rw [hp] at HP
  clear hp
  go_enter Try.func29, Try.ntmps29
  go_wp2_with fail
  refine (HP _).out.mono ?_
  rintro e w1 ⟨rfl, rfl⟩
  go_wp2_with fail
  go_ret
  exact ⟨rfl, bnextA (Below.refl _ _) _⟩
set_option maxHeartbeats 2000000 in
theorem prow_ok (lo hi : Nat) (h1 : lo < 18446744073709551616) (h2 : hi < 18446744073709551616) (id : Int) (iw : UInt32) (hid : IntKind.u32.wrap id = (iw.toNat : Int)) (m F T : Nat) (hm2 : 2 ≤ m) (hm : m ≤ 251) (hp : pI (m : Int) = true) (hF : sipN lo hi (puts32 [iw, 0]) % m = F) (hT : sipN lo hi (puts32 [iw, 1]) % (m - 1) + 1 = T) (w : World) : Calls Try.prog 29 #[.agg #[.int .u64 (lo : Int), .int .u64 (hi : Int)], .int .i64 id, .int .i64 (m : Int)] w fun e w' => ∃ L A c, e = .returned (.slice A L.length c) ∧ Hid (L = rowN F T m) ∧ Rd iv w' w'.heap.size A c L ∧ Below w.heap.size w w' := by
  obtain ⟨i0, hi0, hz0, hz1, hz2⟩ := info_parts info_i64
  have HP := fun W => Lib.hid (prime_any (m : Int) W)
  rw [hp] at HP
  have HS := fun W => Lib.hid (start_ok lo hi h1 h2 id iw hid m F T hm2 hm hp hF hT W)
  have hFl : F < m := by rw [← hF]; exact Nat.mod_lt _ (by omega)
  have hTl : T ≤ 251 := by
    have := Nat.mod_lt (sipN lo hi (puts32 [iw, 1])) (show 0 < m - 1 by omega)
    omega
  obtain ⟨V, hV⟩ : ∃ V, V = w.alloc (.cells #[.int .u64 (lo : Int), .int .u64 (hi : Int)] 35) := ⟨_, rfl⟩
  have hB : Below w.heap.size w V := by subst hV; exact bnextA (Below.refl _ _) _
  have K : Blk V w.heap.size [.int .u64 (lo : Int), .int .u64 (hi : Int)] 35 := by subst hV; exact Blk.new _ _ _
  obtain ⟨z0, z1, -⟩ := K.get2
  clear hp hF hT K
  go_enter Try.func29, Try.ntmps29
  go_wp2_with fail
  rw [← hV]
  clear hV
  refine (HP _).out.mono ?_
  rintro e w1 ⟨rfl, rfl⟩
  go_wp2_with fail
  refine (HS _).out.mono ?_
  rintro e w2 ⟨rfl, hb⟩
  replace hB := bnext hB hb
  clear HP HS hb z0 z1
  have hszw := hB.size
  go_wp2_with (at_make; go_loud (refine wpList_make_full _ rfl _ _ _ rfl w.heap.size 3 i0 _ 1 Try.underlying59 hi0 hz0 hz1 _ _ _ _ m rfl rfl rfl rfl (by rw [hz2]; omega) (by unfold maxLen; omega) hszw ?_); intro w3 hown1 hg1)
  have hb3 : Below w.heap.size w w3 := hB.grown hg1 hszw (by simp)
  have HO : Hid (Own iv w3 w.heap.size 3 (.slice (some ⟨w2.heap.size, 0, none⟩) m m) (List.replicate m (0 : Int))) := by
    have := hown1
    simp only [Value.cells, Nat.mul_one, toList_madeCells_one] at this
    simpa [Own, iv, Hid] using this
  have hRl := rowN_len F T m
  have HST : Hid ((rowN F T m).take 0 ++ List.replicate (m - 0) 0 = List.replicate m (0 : Int)) := by simp [Hid]
  generalize w2.heap.size = g at *
  clear hown1 hg1 hszw hB
  go_loopw [10, 25] (fun _ i wr => ∃ j : Nat, j ≤ m ∧ i = .int .i64 j ∧ Hid (Own iv wr w.heap.size 3 (.slice (some ⟨g, 0, none⟩) m m) ((rowN F T m).take j ++ List.replicate (m - j) 0)) ∧ Below w.heap.size w wr) (fun _ i _ => m - (intOf i).toNat)
  case atStart => exact ⟨0, by omega, rfl, by rw [HST.out]; exact HO, hb3⟩
  case round =>
    obtain ⟨j, hj, rfl, HO2, hbw⟩ := hrel
    by_cases hlt : j < m
    · have d1 : decide (j < m) = true := by simp [hlt]
      obtain ⟨p, hpe⟩ : ∃ p, j * T = p := ⟨_, rfl⟩
      have hpb : p ≤ 63001 := by rw [← hpe]; exact Nat.le_trans (Nat.mul_le_mul (show j ≤ 251 by omega) (show T ≤ 251 by omega)) (by omega)
      obtain ⟨s, hse⟩ : ∃ s, F + p = s := ⟨_, rfl⟩
      obtain ⟨r, hre⟩ : ∃ r, s % m = r := ⟨_, rfl⟩
      have z1 : (j : Int) * (T : Int) = (p : Int) := by rw [← hpe]; simp
      have z2 : IntKind.i64.wrap (p : Int) = (p : Int) := by rw [IntKind.wrap_i64]; omega
      have z3 : (F : Int) + (p : Int) = (s : Int) := by omega
      have z4 : IntKind.i64.wrap (s : Int) = (s : Int) := by rw [IntKind.wrap_i64]; omega
      have z5 : (s : Int).tmod (m : Int) = (r : Int) := by rw [Int.tmod_eq_emod_of_nonneg (by omega), ← hre]; simp
      have z6 : (s : Int) % (m : Int) = (r : Int) := by rw [← hre]; simp
      have z7 : ((m : Int) == 0) = false := by simp; omega
      have z8 : (m : Int) ≠ 0 := by omega
      have z9 : ¬ m = 0 := by omega
      have hrow := rowN_at F T m j hlt
      rw [hpe, hse, hre] at hrow
      obtain ⟨⟨u0, hc0⟩, hfz, hown3, hbase⟩ := HO2.out.store (by simp [hRl]; omega) j hlt (r : Int) (.int .i64 (r : Int)) rfl
      rw [row_set _ m j hRl hlt (r : Int) hrow] at hown3
      have HO3 := Lib.hid hown3
      have hb4 := hbw.setCell (p := ⟨g, j, none⟩) hbase (.int .i64 (r : Int))
      clear hown3 HO2 HO hrow hpe hse hre hRl HST
      go_wp2_with fail
      go_roundw
      case rel => exact ⟨j + 1, by omega, by go_num, HO3, hb4⟩
      case measure => simp [intOf]; omega
    · have : j = m := by omega
      subst this
      have d1 : decide (j < j) = false := by simp
      have HX : Hid ((rowN F T j).take j ++ List.replicate (j - j) 0 = rowN F T j) := by simp [Hid, List.take_of_length_le (Nat.le_of_eq hRl)]
      have HO3 := HO2.out
      rw [HX.out] at HO3
      have HO4 := Lib.hid HO3
      clear HO3 HO2 HO HST
      go_wp2_with fail
      go_ret
      obtain ⟨L, A, c, HL, he, hr⟩ := HO4.out.rdv
      exact ⟨L, A, c, congrArg Ending.returned he, HL, hr, hbw⟩
set_option maxHeartbeats 2000000 in
theorem rrow_ok (lo hi : Nat) (h1 : lo < 18446744073709551616) (h2 : hi < 18446744073709551616) (id : Int) (iw : UInt32) (hid : IntKind.u32.wrap id = (iw.toNat : Int)) (m F T : Nat) (hm2 : 2 ≤ m) (hm : m ≤ 251) (hp : pI (m : Int) = true) (hF : sipN lo hi (puts32 [iw, 0]) % m = F) (hT : sipN lo hi (puts32 [iw, 1]) % (m - 1) + 1 = T) (w : World) : Calls Try.prog 35 #[.agg #[.int .u64 (lo : Int), .int .u64 (hi : Int)], .int .i64 id, .int .i64 (m : Int)] w fun e w' => ∃ L A c, e = .returned (.slice A L.length c) ∧ Hid (L = rowN F T m) ∧ Rd iv w' w'.heap.size A c L ∧ Below w.heap.size w w' := by
  obtain ⟨i0, hi0, hz0, hz1, hz2⟩ := info_parts info_i64
  have HP := fun W => Lib.hid (rprime_any (m : Int) W)
  rw [hp] at HP
  have HS := fun W => Lib.hid (rstart_ok lo hi h1 h2 id iw hid m F T hm2 hm hF hT W)
  have hFl : F < m := by rw [← hF]; exact Nat.mod_lt _ (by omega)
  have hTl : T ≤ 251 := by
    have := Nat.mod_lt (sipN lo hi (puts32 [iw, 1])) (show 0 < m - 1 by omega)
    omega
  have hRl := rowN_len F T m
  obtain ⟨V, hV⟩ : ∃ V, V = w.alloc (.cells #[.int .u64 (lo : Int), .int .u64 (hi : Int)] 35) := ⟨_, rfl⟩
  have hB : Below w.heap.size w V := by subst hV; exact bnextA (Below.refl _ _) _
  have K : Blk V w.heap.size [.int .u64 (lo : Int), .int .u64 (hi : Int)] 35 := by subst hV; exact Blk.new _ _ _
  obtain ⟨z0, z1, -⟩ := (K.alloc (.cells #[] 3)).get2
  have hVs : V.heap.size = w.heap.size + 1 := by rw [hV]; simp
  have hown0 : Own iv (V.alloc (.cells #[] 3)) w.heap.size 3 (.slice (some ⟨w.heap.size + 1, 0, none⟩) 0 0) [] := by
    rw [← hVs]
    exact World.ownsRow_lit V #[] 0 hB.size (by unfold maxLen; omega) rfl
  clear hVs
  have hB0 := hB.alloc hB.size (.cells #[] 3)
  clear hp hF hT K
  go_enter Try.func35, Try.ntmps35
  go_wp2_with fail
  rw [← hV]
  clear hV
  refine (HP _).out.mono ?_
  rintro e w1 ⟨rfl, rfl⟩
  go_wp2_with fail
  refine (HS _).out.mono ?_
  rintro e w2 ⟨rfl, hb⟩
  replace hB0 := bnext hB0 hb
  have HO := Lib.hid (hown0.nextO hb)
  clear HP HS hb z0 z1 hown0 hB
  go_wp2_with fail
  go_loopw [7, 10] (fun v i wr => ∃ j : Nat, j ≤ m ∧ i = .int .i64 j ∧ Hid (Own iv wr w.heap.size 3 v ((rowN F T m).take j)) ∧ Below w.heap.size w wr) (fun _ i _ => m - (intOf i).toNat)
  case atStart => exact ⟨0, by omega, rfl, by rw [List.take_zero]; exact HO, hB0⟩
  case round =>
    obtain ⟨j, hj, rfl, HO2, hbw⟩ := hrel
    by_cases hlt : j < m
    · have d1 : decide (j < m) = true := by simp [hlt]
      obtain ⟨p, hpe⟩ : ∃ p, j * T = p := ⟨_, rfl⟩
      have hpb : p ≤ 63001 := by rw [← hpe]; exact Nat.le_trans (Nat.mul_le_mul (show j ≤ 251 by omega) (show T ≤ 251 by omega)) (by omega)
      obtain ⟨s, hse⟩ : ∃ s, F + p = s := ⟨_, rfl⟩
      obtain ⟨r, hre⟩ : ∃ r, s % m = r := ⟨_, rfl⟩
      have z1 : (j : Int) * (T : Int) = (p : Int) := by rw [← hpe]; simp
      have z2 : IntKind.i64.wrap (p : Int) = (p : Int) := by rw [IntKind.wrap_i64]; omega
      have z3 : (F : Int) + (p : Int) = (s : Int) := by omega
      have z4 : IntKind.i64.wrap (s : Int) = (s : Int) := by rw [IntKind.wrap_i64]; omega
      have z5 : (s : Int).tmod (m : Int) = (r : Int) := by rw [Int.tmod_eq_emod_of_nonneg (by omega), ← hre]; simp
      have z6 : (s : Int) % (m : Int) = (r : Int) := by rw [← hre]; simp
      have z7 : ((m : Int) == 0) = false := by simp; omega
      have z8 : (m : Int) ≠ 0 := by omega
      have z9 : ¬ m = 0 := by omega
      have hrow := rowN_at F T m j hlt
      rw [hpe, hse, hre] at hrow
      have HT : Hid ((rowN F T m).take (j + 1) = (rowN F T m).take j ++ [(r : Int)]) := by
        rw [Hid, List.take_add_one, hrow]
        rfl
      have hlen : ((rowN F T m).take j).length + 1 ≤ 300 := by simp [hRl]; omega
      have hszw := hbw.size
      clear HO hrow hpe hse hre hRl
      go_wp2_with (at_builtin; go_loud (refine wpList_append_rd rfl (.tmp 28) (.tmp 36) _ rfl iv w.heap.size 3 i0 _ 8 Try.underlying59 hi0 hz0 hz1 hz2 rfl iv_one _ _ rfl (HO2.out.alloc _) (wr.heap.size + 1) (some ⟨wr.heap.size, 0, none⟩) 1 [(r : Int)] rfl (rd_lit wr _ _ [(r : Int)] rfl (by simp)) (by simp only [List.length_cons, List.length_nil]; omega) (by simp only [List.length_cons, List.length_nil]; omega) (by simp; omega) w (hbw.alloc hszw _) ?_); intro v2 w2 hown2 hb2 hnn)
      go_roundw
      case rel => exact ⟨j + 1, by omega, by go_num, by rw [HT.out]; exact hown2, hb2⟩
      case measure => simp [intOf]; omega
    · have : j = m := by omega
      subst this
      have d1 : decide (j < j) = false := by simp
      have HX : Hid ((rowN F T j).take j = rowN F T j) := by simp [Hid, List.take_of_length_le (Nat.le_of_eq hRl)]
      have HO3 := HO2.out
      rw [HX.out] at HO3
      have HO4 := Lib.hid HO3
      clear HO3 HO2 HO
      go_wp2_with fail
      go_ret
      obtain ⟨L, A, c, HL, he, hr⟩ := HO4.out.rdv
      exact ⟨L, A, c, congrArg Ending.returned he, HL, hr, hbw⟩
theorem pat_no (lo hi : Nat) (id m j : Int) (hp : pI m = false) (w : World) : Calls Try.prog 30 #[.agg #[.int .u64 (lo : Int), .int .u64 (hi : Int)], .int .i64 id, .int .i64 m, .int .i64 j] w fun e w' => e = .returned (.int .i64 0) ∧ Below w.heap.size w w' := by
  have HR := fun W => Lib.hid (prow_no lo hi id m hp W)
  obtain ⟨V, hV⟩ : ∃ V, V = w.alloc (.cells #[.int .u64 (lo : Int), .int .u64 (hi : Int)] 35) := ⟨_, rfl⟩
  have hB : Below w.heap.size w V := by subst hV; exact bnextA (Below.refl _ _) _
  have K : Blk V w.heap.size [.int .u64 (lo : Int), .int .u64 (hi : Int)] 35 := by subst hV; exact Blk.new _ _ _
  obtain ⟨y0, y1, -⟩ := K.get2
  clear hp K
  by_cases h0 : j < 0
  · have d0 : decide (j < 0) = true := by simp [h0]
    clear h0
    go_enter Try.func30, Try.ntmps30
    go_wp2_with fail
    rw [← hV]
    clear hV
    refine (HR _).out.mono ?_
    rintro e w1 ⟨rfl, hb⟩
    replace hB := bnext hB hb
    clear hb y0 y1 HR
    go_wp2_with fail
    go_ret
    exact ⟨rfl, hB⟩
  · have d0 : decide (j < 0) = false := by simp [h0]
    have d1 : decide (0 ≤ j) = true := by simp; omega
    clear h0
    go_enter Try.func30, Try.ntmps30
    go_wp2_with fail
    rw [← hV]
    clear hV
    refine (HR _).out.mono ?_
    rintro e w1 ⟨rfl, hb⟩
    replace hB := bnext hB hb
    clear hb y0 y1 HR
    go_wp2_with fail
    go_ret
    exact ⟨rfl, hB⟩
set_option maxHeartbeats 1000000 in
theorem pat_out (lo hi : Nat) (h1 : lo < 18446744073709551616) (h2 : hi < 18446744073709551616) (id : Int) (iw : UInt32) (hid : IntKind.u32.wrap id = (iw.toNat : Int)) (m F T : Nat) (hm2 : 2 ≤ m) (hm : m ≤ 251) (hp : pI (m : Int) = true) (hF : sipN lo hi (puts32 [iw, 0]) % m = F) (hT : sipN lo hi (puts32 [iw, 1]) % (m - 1) + 1 = T) (j : Int) (hj : j < 0 ∨ (m : Int) ≤ j) (w : World) : Calls Try.prog 30 #[.agg #[.int .u64 (lo : Int), .int .u64 (hi : Int)], .int .i64 id, .int .i64 (m : Int), .int .i64 j] w fun e w' => e = .returned (.int .i64 0) ∧ Below w.heap.size w w' := by
  have HR : ∀ W, Hid (Calls Try.prog 29 #[.agg #[.int .u64 (lo : Int), .int .u64 (hi : Int)], .int .i64 id, .int .i64 (m : Int)] W fun e w' => ∃ (A : Option Addr) (c : Nat), e = .returned (.slice A m c) ∧ Below W.heap.size W w') := by
    intro W
    refine (prow_ok lo hi h1 h2 id iw hid m F T hm2 hm hp hF hT W).mono ?_
    rintro e w' ⟨L, A, c, rfl, HL, -, hb⟩
    exact ⟨A, c, by rw [show L.length = m by rw [HL.out, rowN_len]], hb⟩
  obtain ⟨V, hV⟩ : ∃ V, V = w.alloc (.cells #[.int .u64 (lo : Int), .int .u64 (hi : Int)] 35) := ⟨_, rfl⟩
  have hB : Below w.heap.size w V := by subst hV; exact bnextA (Below.refl _ _) _
  have K : Blk V w.heap.size [.int .u64 (lo : Int), .int .u64 (hi : Int)] 35 := by subst hV; exact Blk.new _ _ _
  obtain ⟨y0, y1, -⟩ := K.get2
  clear hp hF hT K
  by_cases h0 : j < 0
  · have d0 : decide (j < 0) = true := by simp [h0]
    clear h0 hj
    go_enter Try.func30, Try.ntmps30
    go_wp2_with fail
    rw [← hV]
    clear hV
    refine (HR _).out.mono ?_
    rintro e w1 ⟨A, c, rfl, hb⟩
    replace hB := bnext hB hb
    clear hb y0 y1 HR
    go_wp2_with fail
    go_ret
    exact ⟨rfl, hB⟩
  · have d0 : decide (j < 0) = false := by simp [h0]
    have d1 : decide ((m : Int) ≤ j) = true := by simp; omega
    clear h0 hj
    go_enter Try.func30, Try.ntmps30
    go_wp2_with fail
    rw [← hV]
    clear hV
    refine (HR _).out.mono ?_
    rintro e w1 ⟨A, c, rfl, hb⟩
    replace hB := bnext hB hb
    clear hb y0 y1 HR
    go_wp2_with fail
    go_ret
    exact ⟨rfl, hB⟩
set_option maxHeartbeats 1000000 in
theorem pat_ok (lo hi : Nat) (h1 : lo < 18446744073709551616) (h2 : hi < 18446744073709551616) (id : Int) (iw : UInt32) (hid : IntKind.u32.wrap id = (iw.toNat : Int)) (m F T : Nat) (hm2 : 2 ≤ m) (hm : m ≤ 251) (hp : pI (m : Int) = true) (hF : sipN lo hi (puts32 [iw, 0]) % m = F) (hT : sipN lo hi (puts32 [iw, 1]) % (m - 1) + 1 = T) (j : Nat) (hj : j < m) (w : World) : Calls Try.prog 30 #[.agg #[.int .u64 (lo : Int), .int .u64 (hi : Int)], .int .i64 id, .int .i64 (m : Int), .int .i64 (j : Int)] w fun e w' => e = .returned (.int .i64 (((F + j * T) % m : Nat) : Int)) ∧ Below w.heap.size w w' := by
  obtain ⟨r, hre⟩ : ∃ r, (F + j * T) % m = r := ⟨_, rfl⟩
  have HR : ∀ W, Hid (Calls Try.prog 29 #[.agg #[.int .u64 (lo : Int), .int .u64 (hi : Int)], .int .i64 id, .int .i64 (m : Int)] W fun e w' => ∃ (b off c : Nat), e = .returned (.slice (some ⟨b, off, none⟩) m c) ∧ Hid (w'.cell? ⟨b, off + j, none⟩ = some (.int .i64 (r : Int))) ∧ Hid (m ≤ c ∧ c ≤ 9223372036854775807) ∧ Below W.heap.size W w') := by
    intro W
    refine (prow_ok lo hi h1 h2 id iw hid m F T hm2 hm hp hF hT W).mono ?_
    rintro e w' ⟨L, A, c, rfl, HL, hr, hb⟩
    have hl : L.length = m := by rw [HL.out, rowN_len]
    obtain ⟨b, off, rfl, -, hc⟩ := hr.at_ (k := j) (by omega)
    have h0 := hc j (by omega)
    have hx : L[j] = (r : Int) := by
      have h := rowN_at F T m j hj
      rw [← HL.out, hre] at h
      exact (List.getElem?_eq_some_iff.1 h).2
    rw [hx] at h0
    have hlc := hr.len
    have hcc := hr.cap
    rw [hl]
    rw [hl] at hlc
    exact ⟨b, off, c, rfl, h0, ⟨hlc, hcc⟩, hb⟩
  rw [hre]
  have d0 : decide ((j : Int) < 0) = false := by simp
  have d1 : decide (m ≤ j) = false := by simp; omega
  have d2 : (j : Int) < (m : Int) := by omega
  obtain ⟨V, hV⟩ : ∃ V, V = w.alloc (.cells #[.int .u64 (lo : Int), .int .u64 (hi : Int)] 35) := ⟨_, rfl⟩
  have hB : Below w.heap.size w V := by subst hV; exact bnextA (Below.refl _ _) _
  have K : Blk V w.heap.size [.int .u64 (lo : Int), .int .u64 (hi : Int)] 35 := by subst hV; exact Blk.new _ _ _
  obtain ⟨y0, y1, -⟩ := K.get2
  clear hp hF hT K hre
  go_enter Try.func30, Try.ntmps30
  go_wp2_with fail
  rw [← hV]
  clear hV
  refine (HR _).out.mono ?_
  rintro e w1 ⟨b, off, c, rfl, h0, h1', hb⟩
  replace hB := bnext hB hb
  have hc0 := h0.out
  have hc1 := h1'.out.1
  have hc2 := h1'.out.2
  clear hb y0 y1 HR h0 h1'
  go_wp2_with fail
  go_ret
  exact ⟨rfl, hB⟩
theorem rat_out (lo hi : Nat) (id : Int) (m : Nat) (j : Int) (hj : j < 0 ∨ (m : Int) ≤ j) (hp : pI (m : Int) = true) (w : World) : Calls Try.prog 32 #[.agg #[.int .u64 (lo : Int), .int .u64 (hi : Int)], .int .i64 id, .int .i64 (m : Int), .int .i64 j] w fun e w' => e = .returned (.int .i64 0) ∧ Below w.heap.size w w' := by
  have HP := fun W => Lib.hid (rprime_any (m : Int) W)
  rw [hp] at HP
  clear hp
  by_cases h0 : j < 0
  · have d0 : decide (j < 0) = true := by simp [h0]
    clear hj h0
    go_enter Try.func32, Try.ntmps32
    go_wp2_with fail
    refine (HP _).out.mono ?_
    rintro e w1 ⟨rfl, rfl⟩
    go_wp2_with fail
    go_ret
    exact ⟨rfl, bnextA (Below.refl _ _) _⟩
  · have d0 : decide (j < 0) = false := by simp [h0]
    have d1 : decide ((m : Int) ≤ j) = true := by simp; omega
    clear hj h0
    go_enter Try.func32, Try.ntmps32
    go_wp2_with fail
    refine (HP _).out.mono ?_
    rintro e w1 ⟨rfl, rfl⟩
    go_wp2_with fail
    go_ret
    exact ⟨rfl, bnextA (Below.refl _ _) _⟩
set_option maxHeartbeats 1000000 in
theorem rat_ok (lo hi : Nat) (h1 : lo < 18446744073709551616) (h2 : hi < 18446744073709551616) (id : Int) (iw : UInt32) (hid : IntKind.u32.wrap id = (iw.toNat : Int)) (m F T : Nat) (hm2 : 2 ≤ m) (hm : m ≤ 251) (hp : pI (m : Int) = true) (hF : sipN lo hi (puts32 [iw, 0]) % m = F) (hT : sipN lo hi (puts32 [iw, 1]) % (m - 1) + 1 = T) (j : Nat) (hj : j < m) (w : World) : Calls Try.prog 32 #[.agg #[.int .u64 (lo : Int), .int .u64 (hi : Int)], .int .i64 id, .int .i64 (m : Int), .int .i64 (j : Int)] w fun e w' => e = .returned (.int .i64 (((F + j * T) % m : Nat) : Int)) ∧ Below w.heap.size w w' := by
  have HP := fun W => Lib.hid (rprime_any (m : Int) W)
  rw [hp] at HP
  have HS := fun W => Lib.hid (rstart_ok lo hi h1 h2 id iw hid m F T hm2 hm hF hT W)
  have hFl : F < m := by rw [← hF]; exact Nat.mod_lt _ (by omega)
  have hTl : T ≤ 251 := by
    have := Nat.mod_lt (sipN lo hi (puts32 [iw, 1])) (show 0 < m - 1 by omega)
    omega
  obtain ⟨p, hpe⟩ : ∃ p, j * T = p := ⟨_, rfl⟩
  have hpb : p ≤ 63001 := by rw [← hpe]; exact Nat.le_trans (Nat.mul_le_mul (show j ≤ 251 by omega) (show T ≤ 251 by omega)) (by omega)
  obtain ⟨s, hse⟩ : ∃ s, F + p = s := ⟨_, rfl⟩
  obtain ⟨r, hre⟩ : ∃ r, s % m = r := ⟨_, rfl⟩
  have z1 : (j : Int) * (T : Int) = (p : Int) := by rw [← hpe]; simp
  have z2 : IntKind.i64.wrap (p : Int) = (p : Int) := by rw [IntKind.wrap_i64]; omega
  have z3 : (F : Int) + (p : Int) = (s : Int) := by omega
  have z4 : IntKind.i64.wrap (s : Int) = (s : Int) := by rw [IntKind.wrap_i64]; omega
  have z5 : (s : Int).tmod (m : Int) = (r : Int) := by rw [Int.tmod_eq_emod_of_nonneg (by omega), ← hre]; simp
  have z6 : (s : Int) % (m : Int) = (r : Int) := by rw [← hre]; simp
  have z7 : ((m : Int) == 0) = false := by simp; omega
  have z8 : (m : Int) ≠ 0 := by omega
  have z9 : ¬ m = 0 := by omega
  rw [hpe, hse, hre]
  have d0 : decide ((j : Int) < 0) = false := by simp
  have d1 : decide (m ≤ j) = false := by simp; omega
  obtain ⟨V, hV⟩ : ∃ V, V = w.alloc (.cells #[.int .u64 (lo : Int), .int .u64 (hi : Int)] 35) := ⟨_, rfl⟩
  have hB : Below w.heap.size w V := by subst hV; exact bnextA (Below.refl _ _) _
  have K : Blk V w.heap.size [.int .u64 (lo : Int), .int .u64 (hi : Int)] 35 := by subst hV; exact Blk.new _ _ _
  obtain ⟨y0, y1, -⟩ := K.get2
  clear hp hF hT K hpe hse hre
  go_enter Try.func32, Try.ntmps32
  go_wp2_with fail
  rw [← hV]
  clear hV
  refine (HP _).out.mono ?_
  rintro e w1 ⟨rfl, rfl⟩
  go_wp2_with fail
  refine (HS _).out.mono ?_
  rintro e w2 ⟨rfl, hb⟩
  replace hB := bnext hB hb
  clear HP HS hb y0 y1
  go_wp2_with fail
  go_ret
  exact ⟨rfl, hB⟩
theorem isame_eq (A1 A2 : Option Addr) (c1 c2 : Nat) (xs ys : List Int) (w : World) (B : Nat) (h1 : Rd iv w B A1 c1 xs) (h2 : Rd iv w B A2 c2 ys) (he : xs = ys) :
    Calls Try.prog 34 #[.slice A1 xs.length c1, .slice A2 ys.length c2] w fun e w' => e = .returned (.bool true) ∧ Drawn w w' := by
  subst he
  have hl := h1.len
  have hc := h1.cap
  go_enter Try.func34, Try.ntmps34
  go_wp2
  go_loopw [5] (fun i wr => ∃ j : Nat, j ≤ xs.length ∧ i = .int .i64 j ∧ Drawn w wr) (fun i _ => xs.length - (intOf i).toNat)
  case atStart => exact ⟨0, by omega, rfl, Drawn.refl _⟩
  case round =>
    obtain ⟨j, hj, rfl, hd⟩ := hrel
    by_cases hlt : j < xs.length
    · obtain ⟨b1, o1, rfl, hB1, hcell1⟩ := (h1.drawn hd).at_ (k := j) hlt
      obtain ⟨b2, o2, rfl, hB2, hcell2⟩ := (h2.drawn hd).at_ (k := j) hlt
      have k1 := hcell1 j hlt
      have k2 := hcell2 j hlt
      simp only [iv] at k1 k2
      generalize xs[j] = x at k1 k2
      clear hcell1 hcell2 h1 h2
      go_wp2_with fail
      go_quiet (fail)
      go_wp2
      go_roundw
      case rel => exact ⟨j + 1, by omega, by go_num, hd.step _⟩
      case measure => simp [intOf]; omega
    · go_wp2
      go_ret
      exact ⟨rfl, hd⟩
set_option maxHeartbeats 1000000 in
theorem lives18_any (w : World) : Calls Try.prog 31 #[] w fun e w' => e = .returned (.bool true) ∧ Below w.heap.size w w' := by
  obtain ⟨lo, el, hl⟩ : ∃ x : Nat, (x : Int) = 0 ∧ x < 18446744073709551616 := ⟨0, rfl, by omega⟩
  have hid : IntKind.u32.wrap 1 = ((1 : UInt32).toNat : Int) := by rw [IntKind.wrap_u32]; rfl
  have H1 : ∀ W, Hid (Calls Try.prog 26 #[.agg #[.int .u64 0, .int .u64 0], .int .i64 1, .int .i64 2] W fun e w' => ∃ F : Int, e = .returned (.tuple #[.int .i64 F, .int .i64 1]) ∧ Below W.heap.size W w') := by
    intro W
    have h := start_ok lo lo hl hl 1 1 hid 2 _ 1 (by omega) (by omega) (by decide) rfl (by simp [Nat.mod_one]) W
    simp only [el] at h
    exact h.mono fun e w' ⟨he, hb⟩ => ⟨_, he, hb⟩
  have H2 : ∀ W, Hid (Calls Try.prog 29 #[.agg #[.int .u64 0, .int .u64 0], .int .i64 1, .int .i64 7] W fun e w' => ∃ (A : Option Addr) (c : Nat), e = .returned (.slice A 7 c) ∧ Below W.heap.size W w') := by
    intro W
    have h := prow_ok lo lo hl hl 1 1 hid 7 _ _ (by omega) (by omega) (by decide) rfl rfl W
    simp only [el] at h
    refine h.mono ?_
    rintro e w' ⟨L, A, c, rfl, HL, -, hb⟩
    exact ⟨A, c, by rw [show L.length = 7 by rw [HL.out, rowN_len]], hb⟩
  have H3 : ∀ W, Hid (Calls Try.prog 28 #[.int .i64 251] W fun e w' => e = .returned (.bool true) ∧ W = w') := by
    intro W
    have h := prime_any 251 W
    rw [show pI 251 = true by decide +kernel] at h
    exact h
  clear el hl hid
  go_enter Try.func31, Try.ntmps31
  go_wp2_with fail
  refine (H1 _).out.mono ?_
  rintro e w1 ⟨F, rfl, hb⟩
  have hB := bnext (Below.refl w.heap.size w) hb
  go_wp2_with fail
  refine (H2 _).out.mono ?_
  rintro e w2 ⟨A, c, rfl, hb2⟩
  replace hB := bnext hB hb2
  go_wp2_with fail
  refine (H3 _).out.mono ?_
  rintro e w3 ⟨rfl, rfl⟩
  go_wp2_with fail
  go_ret
  exact ⟨rfl, hB⟩
end Go.Proofs.Ytggcomociojfoaa
