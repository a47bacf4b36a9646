/- The walk of PermRows. -/
import Derived.Test.YtggcomociojfoaaPerm2
namespace Go.Proofs.Ytggcomociojfoaa
open Go.RowKit

theorem permrows_no (lo hi : Nat) (id m j : Int) (hp : pI m = false) (w : World) : Calls Try.prog 7 #[.agg #[.int .u64 (lo : Int), .int .u64 (hi : Int)], .int .i64 id, .int .i64 m, .int .i64 j] w fun e w' => e = .returned (.bool true) ∧ Below w.heap.size w w' := by
  have HP := fun W => Lib.hid (prime_any m W)
  have HPR := fun W => Lib.hid (rprime_any m W)
  rw [hp] at HP HPR
  have HS := fun W => Lib.hid (start_no lo hi id m hp W)
  have HR := fun W => Lib.hid (prow_no lo hi id m hp W)
  have HA := fun W => Lib.hid (pat_no lo hi id m j hp W)
  clear hp
  obtain ⟨V0, hV⟩ : ∃ V, V = w.alloc (.cells #[.int .u64 (lo : Int), .int .u64 (hi : Int)] 35) := ⟨_, rfl⟩
  have hB : Below w.heap.size w V0 := by subst hV; exact bnextA (Below.refl _ _) _
  have K : Blk V0 w.heap.size [.int .u64 (lo : Int), .int .u64 (hi : Int)] 35 := by subst hV; exact Blk.new _ _ _
  obtain ⟨y0, y1, -⟩ := K.get2
  go_enter Try.func7, Try.ntmps7
  go_wp2_with fail
  rw [← hV]
  clear hV
  refine (HS _).out.mono ?_
  rintro e w1 ⟨rfl, hb⟩
  replace hB := bnext hB hb
  replace K := K.next hb
  clear hb y0 y1
  obtain ⟨y0, y1, -⟩ := K.get2
  go_wp2_with fail
  refine (HPR _).out.mono ?_
  rintro e w2 ⟨rfl, rfl⟩
  go_wp2_with fail
  refine (HP _).out.mono ?_
  rintro e w2 ⟨rfl, rfl⟩
  clear HS HP HPR
  go_wp2_with fail
  refine (HR _).out.mono ?_
  rintro e w2 ⟨rfl, hb⟩
  replace hB := bnext hB hb
  replace K := K.next hb
  clear hb y0 y1
  obtain ⟨y0, y1, -⟩ := K.get2
  go_wp2_with fail
  refine (HA _).out.mono ?_
  rintro e w3 ⟨rfl, hb⟩
  replace hB := bnext hB hb
  replace K := K.next hb
  clear hb y0 y1
  go_wp2_with fail
  refine (lives18_any _).mono ?_
  rintro e w4 ⟨rfl, hb⟩
  replace hB := bnext hB hb
  go_wp2_with fail
  go_ret
  exact ⟨rfl, hB⟩
set_option maxRecDepth 10000 in
set_option maxHeartbeats 4000000 in
theorem permrows_two (lo hi : Nat) (h1 : lo < 18446744073709551616) (h2 : hi < 18446744073709551616) (id : Int) (iw : UInt32) (hid : IntKind.u32.wrap id = (iw.toNat : Int)) (m F T : Nat) (hm2 : 2 ≤ m) (hm : m ≤ 251) (h22 : m = 2) (hp : pI (m : Int) = true) (hF : sipN lo hi (puts32 [iw, 0]) % m = F) (hT : sipN lo hi (puts32 [iw, 1]) % (m - 1) + 1 = T) (b3 b2 b1 b0 : UInt8) (hiw : be32 iw = [b3, b2, b1, b0]) (s3 : ∀ _ : Unit, (id / 16777216 % 256 = (b3.toNat : Int)) ∧ (id / 65536 % 256 = (b2.toNat : Int)) ∧ (id / 256 % 256 = (b1.toNat : Int)) ∧ (id % 256 = (b0.toNat : Int))) (j x : Int)
    (HPA : ∀ W, Hid (Calls Try.prog 30 #[.agg #[.int .u64 (lo : Int), .int .u64 (hi : Int)], .int .i64 id, .int .i64 (m : Int), .int .i64 j] W fun e w' => e = .returned (.int .i64 x) ∧ Below W.heap.size W w')) (HRA : ∀ W, Hid (Calls Try.prog 32 #[.agg #[.int .u64 (lo : Int), .int .u64 (hi : Int)], .int .i64 id, .int .i64 (m : Int), .int .i64 j] W fun e w' => e = .returned (.int .i64 x) ∧ Below W.heap.size W w')) (w : World) :
    Calls Try.prog 7 #[.agg #[.int .u64 (lo : Int), .int .u64 (hi : Int)], .int .i64 id, .int .i64 (m : Int), .int .i64 j] w fun e w' => e = .returned (.bool true) ∧ Below w.heap.size w w' := by
  have HP := fun W => Lib.hid (prime_any (m : Int) W)
  have HPR := fun W => Lib.hid (rprime_any (m : Int) W)
  rw [hp] at HP HPR
  have HS := fun W => Lib.hid (start_ok lo hi h1 h2 id iw hid m F T hm2 hm hp hF hT W)
  have HR1 := fun W => Lib.hid (prow_ok lo hi h1 h2 id iw hid m F T hm2 hm hp hF hT W)
  have HR2 := fun W => Lib.hid (rrow_ok lo hi h1 h2 id iw hid m F T hm2 hm hp hF hT W)
  have hFl : F < m := by rw [← hF]; exact Nat.mod_lt _ (by omega)
  have HA0 : ∀ W, Hid (Calls Try.prog 32 #[.agg #[.int .u64 (lo : Int), .int .u64 (hi : Int)], .int .i64 id, .int .i64 (m : Int), .int .i64 0] W fun e w' => e = .returned (.int .i64 (F : Int)) ∧ Below W.heap.size W w') := by
    intro W
    have h := rat_ok lo hi h1 h2 id iw hid m F T hm2 hm hp hF hT 0 (by omega) W
    rw [Nat.zero_mul, Nat.add_zero, Nat.mod_eq_of_lt hFl] at h
    exact h
  obtain ⟨m1, hm1⟩ : ∃ m1, m - 1 = m1 := ⟨_, rfl⟩
  rw [hm1] at hT
  obtain ⟨T0, hT0⟩ : ∃ T0, sipN lo hi (puts32 [iw, 1]) % m1 = T0 := ⟨_, rfl⟩
  rw [hT0] at hT
  have hT0l : T0 < m1 := by rw [← hT0]; exact Nat.mod_lt _ (by omega)
  have hlit : puts32 [iw, 1] = [b3, b2, b1, b0, 0, 0, 0, 1] := by
    simp only [puts32, List.flatMap_cons, List.flatMap_nil, hiw, List.append_nil]
    rfl
  rw [hlit] at hT0
  have HU : ∀ {G : Nat} W, Rd bv W W.heap.size (some ⟨G, 0, none⟩) 8 [b3, b2, b1, b0, 0, 0, 0, 1] → Hid (Calls Try.prog 33 #[.agg #[.int .u64 (lo : Int), .int .u64 (hi : Int)], .slice (some ⟨G, 0, none⟩) 8 8, .int .i64 (m1 : Int)] W fun e w' => e = .returned (.int .i64 (T0 : Int)) ∧ Below W.heap.size W w') := by
    intro G W hr
    exact linkboyref13_under_1 lo hi h1 h2 (some ⟨G, 0, none⟩) 8 [b3, b2, b1, b0, 0, 0, 0, 1] m1 T0 (by omega) (by omega) (by rw [Hid, hT0]) W hr (by simp)
  have HM : Hid ((m : Int) - 1 = (m1 : Int)) := by rw [Hid]; omega
  have HM2 : Hid (IntKind.i64.wrap (m1 : Int) = (m1 : Int)) := by rw [Hid, IntKind.wrap_i64]; omega
  have HT1 : Hid ((T0 : Int) + 1 = (T : Int)) := by rw [Hid]; omega
  have HT2 : Hid (IntKind.i64.wrap (T : Int) = (T : Int)) := by rw [Hid, IntKind.wrap_i64]; omega
  have HM3 : Hid (((m : Int) == 2) = true) := by rw [Hid]; simp; omega
  have HM4 : Hid (((m : Int) != 2) = false) := by rw [Hid]; simp; omega
  have HT3 : Hid (((T : Int) == 1) = true) := by rw [Hid]; simp; omega
  obtain ⟨V0, hV⟩ : ∃ V, V = w.alloc (.cells #[.int .u64 (lo : Int), .int .u64 (hi : Int)] 35) := ⟨_, rfl⟩
  have hB : Below w.heap.size w V0 := by subst hV; exact bnextA (Below.refl _ _) _
  have K : Blk V0 w.heap.size [.int .u64 (lo : Int), .int .u64 (hi : Int)] 35 := by subst hV; exact Blk.new _ _ _
  obtain ⟨y0, y1, -⟩ := K.get2
  clear hp hF hT hT0 hm1 hT0l hFl h22 hlit hiw hid
  go_enter Try.func7, Try.ntmps7
  go_wp2_with fail
  rw [← hV]
  clear hV
  refine (HS _).out.mono ?_
  rintro e w1 ⟨rfl, hb⟩
  replace hB := bnext hB hb
  replace K := K.next hb
  clear hb y0 y1
  clear HS
  go_wp2_with fail
  refine (HPR _).out.mono ?_
  rintro e w2 ⟨rfl, rfl⟩
  clear HPR
  obtain ⟨t3, t2, t1, t0⟩ := s3 ()
  have t3b : IntKind.u8.wrap (id / 16777216) = (b3.toNat : Int) := by rw [IntKind.wrap_u8]; exact t3
  have t2b : IntKind.u8.wrap (id / 65536) = (b2.toNat : Int) := by rw [IntKind.wrap_u8]; exact t2
  have t1b : IntKind.u8.wrap (id / 256) = (b1.toNat : Int) := by rw [IntKind.wrap_u8]; exact t1
  have t0b : IntKind.u8.wrap id = (b0.toNat : Int) := by rw [IntKind.wrap_u8]; exact t0
  have t3c : IntKind.u8.wrap (id >>> 24) = (b3.toNat : Int) := by rw [IntKind.wrap_u8, Int.shiftRight_eq_div_pow]; exact t3
  have t2c : IntKind.u8.wrap (id >>> 16) = (b2.toNat : Int) := by rw [IntKind.wrap_u8, Int.shiftRight_eq_div_pow]; exact t2
  have t1c : IntKind.u8.wrap (id >>> 8) = (b1.toNat : Int) := by rw [IntKind.wrap_u8, Int.shiftRight_eq_div_pow]; exact t1
  have t3d : id >>> 24 % 256 = (b3.toNat : Int) := by rw [Int.shiftRight_eq_div_pow]; exact t3
  have t2d : id >>> 16 % 256 = (b2.toNat : Int) := by rw [Int.shiftRight_eq_div_pow]; exact t2
  have t1d : id >>> 8 % 256 = (b1.toNat : Int) := by rw [Int.shiftRight_eq_div_pow]; exact t1
  go_wp2_with fail
  clear t0 t1 t2 t3 t0b t1b t2b t3b t1c t2c t3c t1d t2d t3d s3
  have rB := lit_at w1 w1.heap.size [b3, b2, b1, b0, 0, 0, 0, 1] rfl #[.int .u8 (b3.toNat : Int), .int .u8 (b2.toNat : Int), .int .u8 (b1.toNat : Int), .int .u8 (b0.toNat : Int), .int .u8 0, .int .u8 0, .int .u8 0, .int .u8 1] rfl 5 (by simp)
  replace hB := bnextA hB (.cells #[.int .u8 (b3.toNat : Int), .int .u8 (b2.toNat : Int), .int .u8 (b1.toNat : Int), .int .u8 (b0.toNat : Int), .int .u8 0, .int .u8 0, .int .u8 0, .int .u8 1] 5)
  replace K := K.alloc (.cells #[.int .u8 (b3.toNat : Int), .int .u8 (b2.toNat : Int), .int .u8 (b1.toNat : Int), .int .u8 (b0.toNat : Int), .int .u8 0, .int .u8 0, .int .u8 0, .int .u8 1] 5)
  generalize w1.alloc (.cells #[.int .u8 (b3.toNat : Int), .int .u8 (b2.toNat : Int), .int .u8 (b1.toNat : Int), .int .u8 (b0.toNat : Int), .int .u8 0, .int .u8 0, .int .u8 0, .int .u8 1] 5) = V at *
  generalize w1.heap.size = G at *
  have HCC : ∀ W, Below V.heap.size V W → (W.cell? ⟨w.heap.size, 0, none⟩ = some (.int .u64 (lo : Int)) ∧ W.cell? ⟨w.heap.size, 1, none⟩ = some (.int .u64 (hi : Int))) := by
    intro W h
    obtain ⟨p0, p1, -⟩ := (K.next h).get2
    exact ⟨p0, p1⟩
  refine region_put (by kernel_rfl) (by kernel_rfl) (by kernel_rfl) 119 rfl (by kernel_rfl) V (fun i v W => match i with
      | 0 => v = .int .i64 (m : Int)
      | 1 => v = .bool true
      | 2 => v = .bool true
      | 3 => v = .int .i64 (F : Int)
      | 4 => v = .agg #[.int .u64 (lo : Int), .int .u64 (hi : Int)]
      | 5 => v = .int .i64 id
      | 6 => v = .int .i64 (m : Int)
      | 7 => v = .int .i64 (F : Int)
      | 8 => v = .bool true
      | 9 => v = .bool true
      | 10 => v = .bool true
      | 11 => v = .int .i64 (T : Int)
      | 12 => v = .agg #[.int .u64 (lo : Int), .int .u64 (hi : Int)]
      | 13 => v = .slice (some ⟨G, 0, none⟩) 8 8
      | 14 => v = .int .i64 (m : Int)
      | 15 => v = .int .i64 (m1 : Int)
      | 16 => v = .int .i64 (T0 : Int)
      | 17 => v = .int .i64 (T : Int)
      | 18 => v = .bool true
      | 19 => v = .bool true
      | 20 => v = .bool true
      | 21 => v = .int .i64 (m : Int)
      | 22 => v = .bool false
      | 23 => v = .bool false
      | 24 => v = .int .i64 (T : Int)
      | 25 => v = .bool true
      | 26 => v = .bool true
      | 27 => v = .bool true
      | 28 => v = .bool true
      | 29 => v = .agg #[.int .u64 (lo : Int), .int .u64 (hi : Int)]
      | 30 => v = .int .i64 id
      | 31 => v = .int .i64 (m : Int)
      | 32 => ∃ L A c, v = .slice A L.length c ∧ Hid (L = rowN F T m) ∧ Rd iv W W.heap.size A c L
      | 33 => v = .agg #[.int .u64 (lo : Int), .int .u64 (hi : Int)]
      | 34 => v = .int .i64 id
      | 35 => v = .int .i64 (m : Int)
      | 36 => ∃ L A c, v = .slice A L.length c ∧ Hid (L = rowN F T m) ∧ Rd iv W W.heap.size A c L
      | 37 => v = .bool true
      | 38 => v = .bool true
      | 39 => v = .bool true
      | 40 => v = .agg #[.int .u64 (lo : Int), .int .u64 (hi : Int)]
      | 41 => v = .int .i64 id
      | 42 => v = .int .i64 (m : Int)
      | 43 => v = .int .i64 j
      | 44 => v = .int .i64 x
      | 45 => v = .agg #[.int .u64 (lo : Int), .int .u64 (hi : Int)]
      | 46 => v = .int .i64 id
      | 47 => v = .int .i64 (m : Int)
      | 48 => v = .int .i64 j
      | 49 => v = .int .i64 x
      | 50 => v = .bool true
      | 51 => v = .bool true
      | 52 => v = .bool true
      | 53 => v = .bool true
      | 54 => v = .bool true
      | 55 => v = .bool true
      | _ => True) (Below.refl _ _) ?_ ?_ ?_
  · intro i v W W' h hb
    match i, h with
    | 0, h => exact h
    | 1, h => exact h
    | 2, h => exact h
    | 3, h => exact h
    | 4, h => exact h
    | 5, h => exact h
    | 6, h => exact h
    | 7, h => exact h
    | 8, h => exact h
    | 9, h => exact h
    | 10, h => exact h
    | 11, h => exact h
    | 12, h => exact h
    | 13, h => exact h
    | 14, h => exact h
    | 15, h => exact h
    | 16, h => exact h
    | 17, h => exact h
    | 18, h => exact h
    | 19, h => exact h
    | 20, h => exact h
    | 21, h => exact h
    | 22, h => exact h
    | 23, h => exact h
    | 24, h => exact h
    | 25, h => exact h
    | 26, h => exact h
    | 27, h => exact h
    | 28, h => exact h
    | 29, h => exact h
    | 30, h => exact h
    | 31, h => exact h
    | 32, h => obtain ⟨L, A, c, h1, h2, h3⟩ := h; exact ⟨L, A, c, h1, h2, h3.next hb⟩
    | 33, h => exact h
    | 34, h => exact h
    | 35, h => exact h
    | 36, h => obtain ⟨L, A, c, h1, h2, h3⟩ := h; exact ⟨L, A, c, h1, h2, h3.next hb⟩
    | 37, h => exact h
    | 38, h => exact h
    | 39, h => exact h
    | 40, h => exact h
    | 41, h => exact h
    | 42, h => exact h
    | 43, h => exact h
    | 44, h => exact h
    | 45, h => exact h
    | 46, h => exact h
    | 47, h => exact h
    | 48, h => exact h
    | 49, h => exact h
    | 50, h => exact h
    | 51, h => exact h
    | 52, h => exact h
    | 53, h => exact h
    | 54, h => exact h
    | 55, h => exact h
    | _ + 56, _ => trivial
  · intro i o uu W hoo hVW hd
    rcases i with _|_|_|_|_|_|_|_|_|_|_|_|_|_|_|_|_|_|_|_|_|_|_|_|_|_|_|_|_|_|_|_|_|_|_|_|_|_|_|_|_|_|_|_|_|_|_|_|_|_|_|_|_|_|_|_|i
    · obtain rfl := Option.some.inj hoo
      refine .inl ⟨wanted_none rfl, ?_⟩
      generalize hev : Act.eval _ = ev
      have ec : ∀ c, ev (.const c) = c := fun c => by rw [← hev]; rfl
      have e2 : ev (.tmp 2) = .int .i64 (m : Int) := by rw [← hev]; exact eval_old (by kernel_rfl) 119 rfl (by decide) rfl
      clear hev hd
      exact .inl ⟨_, W, by go_simp, rfl, Below.refl _ _⟩
    · obtain rfl := Option.some.inj hoo
      have q0 : uu 0 = .int .i64 (m : Int) := hd 0 (by kernel_rfl)
      refine .inl ⟨wanted_none rfl, ?_⟩
      generalize hev : Act.eval _ = ev
      have ec : ∀ c, ev (.const c) = c := fun c => by rw [← hev]; rfl
      have ef : ∀ f, ev (.func f) = .func (.func f) #[] #[] := fun f => by rw [← hev]; rfl
      have e64 : ev (.tmp 64) = .int .i64 (m : Int) := by rw [← hev]; exact (eval_put (by kernel_rfl) 119 rfl (by decide)).trans q0
      clear hev hd q0
      exact .inr ⟨_, _, _, by go_simp, (HP W).out, fun e w' he => ⟨_, he.1, rfl, he.2 ▸ Below.refl _ _⟩⟩
    · obtain rfl := Option.some.inj hoo
      have q1 : uu 1 = .bool true := hd 1 (by kernel_rfl)
      refine .inl ⟨wanted_none rfl, ?_⟩
      generalize hev : Act.eval _ = ev
      have ec : ∀ c, ev (.const c) = c := fun c => by rw [← hev]; rfl
      have e65 : ev (.tmp 65) = .bool true := by rw [← hev]; exact (eval_put (by kernel_rfl) 119 rfl (by decide)).trans q1
      clear hev hd q1
      exact .inl ⟨_, W, by go_simp, rfl, Below.refl _ _⟩
    · obtain rfl := Option.some.inj hoo
      have q2 : uu 2 = .bool true := hd 2 (by kernel_rfl)
      refine .inl ⟨wanted_yes rfl (yielded_put (k := 66) (by kernel_rfl) (by kernel_rfl) 119 rfl (by decide) q2), ?_⟩
      generalize hev : Act.eval _ = ev
      have ec : ∀ c, ev (.const c) = c := fun c => by rw [← hev]; rfl
      have e9 : ev (.tmp 9) = .int .i64 (F : Int) := by rw [← hev]; exact eval_old (by kernel_rfl) 119 rfl (by decide) rfl
      clear hev hd q2
      exact .inl ⟨_, W, by go_simp, rfl, Below.refl _ _⟩
    · obtain rfl := Option.some.inj hoo
      have q2 : uu 2 = .bool true := hd 2 (by kernel_rfl)
      refine .inl ⟨wanted_yes rfl (yielded_put (k := 66) (by kernel_rfl) (by kernel_rfl) 119 rfl (by decide) q2), ?_⟩
      generalize hev : Act.eval _ = ev
      have ec : ∀ c, ev (.const c) = c := fun c => by rw [← hev]; rfl
      have e4 : ev (.tmp 4) = .pointer (some ⟨w.heap.size, 0, none⟩) := by rw [← hev]; exact eval_old (by kernel_rfl) 119 rfl (by decide) rfl
      clear hev hd q2
      obtain ⟨cc0, cc1⟩ := HCC W hVW
      exact .inl ⟨_, W, by go_simp, rfl, Below.refl _ _⟩
    · obtain rfl := Option.some.inj hoo
      have q2 : uu 2 = .bool true := hd 2 (by kernel_rfl)
      refine .inl ⟨wanted_yes rfl (yielded_put (k := 66) (by kernel_rfl) (by kernel_rfl) 119 rfl (by decide) q2), ?_⟩
      generalize hev : Act.eval _ = ev
      have ec : ∀ c, ev (.const c) = c := fun c => by rw [← hev]; rfl
      have e1 : ev (.tmp 1) = .int .i64 id := by rw [← hev]; exact eval_old (by kernel_rfl) 119 rfl (by decide) rfl
      clear hev hd q2
      exact .inl ⟨_, W, by go_simp, rfl, Below.refl _ _⟩
    · obtain rfl := Option.some.inj hoo
      have q2 : uu 2 = .bool true := hd 2 (by kernel_rfl)
      refine .inl ⟨wanted_yes rfl (yielded_put (k := 66) (by kernel_rfl) (by kernel_rfl) 119 rfl (by decide) q2), ?_⟩
      generalize hev : Act.eval _ = ev
      have ec : ∀ c, ev (.const c) = c := fun c => by rw [← hev]; rfl
      have e2 : ev (.tmp 2) = .int .i64 (m : Int) := by rw [← hev]; exact eval_old (by kernel_rfl) 119 rfl (by decide) rfl
      clear hev hd q2
      exact .inl ⟨_, W, by go_simp, rfl, Below.refl _ _⟩
    · obtain rfl := Option.some.inj hoo
      have q4 : uu 4 = .agg #[.int .u64 (lo : Int), .int .u64 (hi : Int)] := hd 4 (by kernel_rfl)
      have q5 : uu 5 = .int .i64 id := hd 5 (by kernel_rfl)
      have q6 : uu 6 = .int .i64 (m : Int) := hd 6 (by kernel_rfl)
      have q2 : uu 2 = .bool true := hd 2 (by kernel_rfl)
      refine .inl ⟨wanted_yes rfl (yielded_put (k := 66) (by kernel_rfl) (by kernel_rfl) 119 rfl (by decide) q2), ?_⟩
      generalize hev : Act.eval _ = ev
      have ec : ∀ c, ev (.const c) = c := fun c => by rw [← hev]; rfl
      have ef : ∀ f, ev (.func f) = .func (.func f) #[] #[] := fun f => by rw [← hev]; rfl
      have e68 : ev (.tmp 68) = .agg #[.int .u64 (lo : Int), .int .u64 (hi : Int)] := by rw [← hev]; exact (eval_put (by kernel_rfl) 119 rfl (by decide)).trans q4
      have e69 : ev (.tmp 69) = .int .i64 id := by rw [← hev]; exact (eval_put (by kernel_rfl) 119 rfl (by decide)).trans q5
      have e70 : ev (.tmp 70) = .int .i64 (m : Int) := by rw [← hev]; exact (eval_put (by kernel_rfl) 119 rfl (by decide)).trans q6
      clear hev hd q4 q5 q6 q2
      exact .inr ⟨_, _, _, by go_simp, (HA0 W).out, fun e w' he => ⟨_, he.1, rfl, he.2⟩⟩
    · obtain rfl := Option.some.inj hoo
      have q3 : uu 3 = .int .i64 (F : Int) := hd 3 (by kernel_rfl)
      have q7 : uu 7 = .int .i64 (F : Int) := hd 7 (by kernel_rfl)
      have q2 : uu 2 = .bool true := hd 2 (by kernel_rfl)
      refine .inl ⟨wanted_yes rfl (yielded_put (k := 66) (by kernel_rfl) (by kernel_rfl) 119 rfl (by decide) q2), ?_⟩
      generalize hev : Act.eval _ = ev
      have ec : ∀ c, ev (.const c) = c := fun c => by rw [← hev]; rfl
      have e67 : ev (.tmp 67) = .int .i64 (F : Int) := by rw [← hev]; exact (eval_put (by kernel_rfl) 119 rfl (by decide)).trans q3
      have e71 : ev (.tmp 71) = .int .i64 (F : Int) := by rw [← hev]; exact (eval_put (by kernel_rfl) 119 rfl (by decide)).trans q7
      clear hev hd q3 q7 q2
      exact .inl ⟨_, W, by go_simp, rfl, Below.refl _ _⟩
    · obtain rfl := Option.some.inj hoo
      have q2 : uu 2 = .bool true := hd 2 (by kernel_rfl)
      have q8 : uu 8 = .bool true := hd 8 (by kernel_rfl)
      refine .inl ⟨wanted_none rfl, ?_⟩
      generalize hev : Act.eval _ = ev
      have ec : ∀ c, ev (.const c) = c := fun c => by rw [← hev]; rfl
      have e66 : ev (.tmp 66) = .bool true := by rw [← hev]; exact (eval_put (by kernel_rfl) 119 rfl (by decide)).trans q2
      have e72 : ev (.tmp 72) = .bool true := by rw [← hev]; exact (eval_put (by kernel_rfl) 119 rfl (by decide)).trans q8
      clear hev hd q2 q8
      exact .inl ⟨_, W, by go_simp, rfl, Below.refl _ _⟩
    · obtain rfl := Option.some.inj hoo
      have q9 : uu 9 = .bool true := hd 9 (by kernel_rfl)
      refine .inl ⟨wanted_none rfl, ?_⟩
      generalize hev : Act.eval _ = ev
      have ec : ∀ c, ev (.const c) = c := fun c => by rw [← hev]; rfl
      have e73 : ev (.tmp 73) = .bool true := by rw [← hev]; exact (eval_put (by kernel_rfl) 119 rfl (by decide)).trans q9
      clear hev hd q9
      exact .inl ⟨_, W, by go_simp, rfl, Below.refl _ _⟩
    · obtain rfl := Option.some.inj hoo
      have q10 : uu 10 = .bool true := hd 10 (by kernel_rfl)
      refine .inl ⟨wanted_yes rfl (yielded_put (k := 74) (by kernel_rfl) (by kernel_rfl) 119 rfl (by decide) q10), ?_⟩
      generalize hev : Act.eval _ = ev
      have ec : ∀ c, ev (.const c) = c := fun c => by rw [← hev]; rfl
      have e10 : ev (.tmp 10) = .int .i64 (T : Int) := by rw [← hev]; exact eval_old (by kernel_rfl) 119 rfl (by decide) rfl
      clear hev hd q10
      exact .inl ⟨_, W, by go_simp, rfl, Below.refl _ _⟩
    · obtain rfl := Option.some.inj hoo
      have q10 : uu 10 = .bool true := hd 10 (by kernel_rfl)
      refine .inl ⟨wanted_yes rfl (yielded_put (k := 74) (by kernel_rfl) (by kernel_rfl) 119 rfl (by decide) q10), ?_⟩
      generalize hev : Act.eval _ = ev
      have ec : ∀ c, ev (.const c) = c := fun c => by rw [← hev]; rfl
      have e4 : ev (.tmp 4) = .pointer (some ⟨w.heap.size, 0, none⟩) := by rw [← hev]; exact eval_old (by kernel_rfl) 119 rfl (by decide) rfl
      clear hev hd q10
      obtain ⟨cc0, cc1⟩ := HCC W hVW
      exact .inl ⟨_, W, by go_simp, rfl, Below.refl _ _⟩
    · obtain rfl := Option.some.inj hoo
      have q10 : uu 10 = .bool true := hd 10 (by kernel_rfl)
      refine .inl ⟨wanted_yes rfl (yielded_put (k := 74) (by kernel_rfl) (by kernel_rfl) 119 rfl (by decide) q10), ?_⟩
      generalize hev : Act.eval _ = ev
      have ec : ∀ c, ev (.const c) = c := fun c => by rw [← hev]; rfl
      have e11 : ev (.tmp 11) = .slice (some ⟨G, 0, none⟩) 8 8 := by rw [← hev]; exact eval_old (by kernel_rfl) 119 rfl (by decide) rfl
      clear hev hd q10
      exact .inl ⟨_, W, by go_simp, rfl, Below.refl _ _⟩
    · obtain rfl := Option.some.inj hoo
      have q10 : uu 10 = .bool true := hd 10 (by kernel_rfl)
      refine .inl ⟨wanted_yes rfl (yielded_put (k := 74) (by kernel_rfl) (by kernel_rfl) 119 rfl (by decide) q10), ?_⟩
      generalize hev : Act.eval _ = ev
      have ec : ∀ c, ev (.const c) = c := fun c => by rw [← hev]; rfl
      have e2 : ev (.tmp 2) = .int .i64 (m : Int) := by rw [← hev]; exact eval_old (by kernel_rfl) 119 rfl (by decide) rfl
      clear hev hd q10
      exact .inl ⟨_, W, by go_simp, rfl, Below.refl _ _⟩
    · obtain rfl := Option.some.inj hoo
      have q14 : uu 14 = .int .i64 (m : Int) := hd 14 (by kernel_rfl)
      have q10 : uu 10 = .bool true := hd 10 (by kernel_rfl)
      refine .inl ⟨wanted_yes rfl (yielded_put (k := 74) (by kernel_rfl) (by kernel_rfl) 119 rfl (by decide) q10), ?_⟩
      generalize hev : Act.eval _ = ev
      have ec : ∀ c, ev (.const c) = c := fun c => by rw [← hev]; rfl
      have e78 : ev (.tmp 78) = .int .i64 (m : Int) := by rw [← hev]; exact (eval_put (by kernel_rfl) 119 rfl (by decide)).trans q14
      clear hev hd q14 q10
      have hh := HM.out
      have hh2 := HM2.out
      exact .inl ⟨_, W, by go_simp, rfl, Below.refl _ _⟩
    · obtain rfl := Option.some.inj hoo
      have q12 : uu 12 = .agg #[.int .u64 (lo : Int), .int .u64 (hi : Int)] := hd 12 (by kernel_rfl)
      have q13 : uu 13 = .slice (some ⟨G, 0, none⟩) 8 8 := hd 13 (by kernel_rfl)
      have q15 : uu 15 = .int .i64 (m1 : Int) := hd 15 (by kernel_rfl)
      have q10 : uu 10 = .bool true := hd 10 (by kernel_rfl)
      refine .inl ⟨wanted_yes rfl (yielded_put (k := 74) (by kernel_rfl) (by kernel_rfl) 119 rfl (by decide) q10), ?_⟩
      generalize hev : Act.eval _ = ev
      have ec : ∀ c, ev (.const c) = c := fun c => by rw [← hev]; rfl
      have ef : ∀ f, ev (.func f) = .func (.func f) #[] #[] := fun f => by rw [← hev]; rfl
      have e76 : ev (.tmp 76) = .agg #[.int .u64 (lo : Int), .int .u64 (hi : Int)] := by rw [← hev]; exact (eval_put (by kernel_rfl) 119 rfl (by decide)).trans q12
      have e77 : ev (.tmp 77) = .slice (some ⟨G, 0, none⟩) 8 8 := by rw [← hev]; exact (eval_put (by kernel_rfl) 119 rfl (by decide)).trans q13
      have e79 : ev (.tmp 79) = .int .i64 (m1 : Int) := by rw [← hev]; exact (eval_put (by kernel_rfl) 119 rfl (by decide)).trans q15
      clear hev hd q12 q13 q15 q10
      exact .inr ⟨_, _, _, by go_simp, (HU W (rB.next hVW)).out, fun e w' he => ⟨_, he.1, rfl, he.2⟩⟩
    · obtain rfl := Option.some.inj hoo
      have q16 : uu 16 = .int .i64 (T0 : Int) := hd 16 (by kernel_rfl)
      have q10 : uu 10 = .bool true := hd 10 (by kernel_rfl)
      refine .inl ⟨wanted_yes rfl (yielded_put (k := 74) (by kernel_rfl) (by kernel_rfl) 119 rfl (by decide) q10), ?_⟩
      generalize hev : Act.eval _ = ev
      have ec : ∀ c, ev (.const c) = c := fun c => by rw [← hev]; rfl
      have e80 : ev (.tmp 80) = .int .i64 (T0 : Int) := by rw [← hev]; exact (eval_put (by kernel_rfl) 119 rfl (by decide)).trans q16
      clear hev hd q16 q10
      have hh := HT1.out
      have hh2 := HT2.out
      exact .inl ⟨_, W, by go_simp, rfl, Below.refl _ _⟩
    · obtain rfl := Option.some.inj hoo
      have q11 : uu 11 = .int .i64 (T : Int) := hd 11 (by kernel_rfl)
      have q17 : uu 17 = .int .i64 (T : Int) := hd 17 (by kernel_rfl)
      have q10 : uu 10 = .bool true := hd 10 (by kernel_rfl)
      refine .inl ⟨wanted_yes rfl (yielded_put (k := 74) (by kernel_rfl) (by kernel_rfl) 119 rfl (by decide) q10), ?_⟩
      generalize hev : Act.eval _ = ev
      have ec : ∀ c, ev (.const c) = c := fun c => by rw [← hev]; rfl
      have e75 : ev (.tmp 75) = .int .i64 (T : Int) := by rw [← hev]; exact (eval_put (by kernel_rfl) 119 rfl (by decide)).trans q11
      have e81 : ev (.tmp 81) = .int .i64 (T : Int) := by rw [← hev]; exact (eval_put (by kernel_rfl) 119 rfl (by decide)).trans q17
      clear hev hd q11 q17 q10
      exact .inl ⟨_, W, by go_simp, rfl, Below.refl _ _⟩
    · obtain rfl := Option.some.inj hoo
      have q10 : uu 10 = .bool true := hd 10 (by kernel_rfl)
      have q18 : uu 18 = .bool true := hd 18 (by kernel_rfl)
      refine .inl ⟨wanted_none rfl, ?_⟩
      generalize hev : Act.eval _ = ev
      have ec : ∀ c, ev (.const c) = c := fun c => by rw [← hev]; rfl
      have e74 : ev (.tmp 74) = .bool true := by rw [← hev]; exact (eval_put (by kernel_rfl) 119 rfl (by decide)).trans q10
      have e82 : ev (.tmp 82) = .bool true := by rw [← hev]; exact (eval_put (by kernel_rfl) 119 rfl (by decide)).trans q18
      clear hev hd q10 q18
      exact .inl ⟨_, W, by go_simp, rfl, Below.refl _ _⟩
    · obtain rfl := Option.some.inj hoo
      have q19 : uu 19 = .bool true := hd 19 (by kernel_rfl)
      refine .inl ⟨wanted_none rfl, ?_⟩
      generalize hev : Act.eval _ = ev
      have ec : ∀ c, ev (.const c) = c := fun c => by rw [← hev]; rfl
      have e83 : ev (.tmp 83) = .bool true := by rw [← hev]; exact (eval_put (by kernel_rfl) 119 rfl (by decide)).trans q19
      clear hev hd q19
      exact .inl ⟨_, W, by go_simp, rfl, Below.refl _ _⟩
    · obtain rfl := Option.some.inj hoo
      have q20 : uu 20 = .bool true := hd 20 (by kernel_rfl)
      refine .inl ⟨wanted_yes rfl (yielded_put (k := 84) (by kernel_rfl) (by kernel_rfl) 119 rfl (by decide) q20), ?_⟩
      generalize hev : Act.eval _ = ev
      have ec : ∀ c, ev (.const c) = c := fun c => by rw [← hev]; rfl
      have e2 : ev (.tmp 2) = .int .i64 (m : Int) := by rw [← hev]; exact eval_old (by kernel_rfl) 119 rfl (by decide) rfl
      clear hev hd q20
      exact .inl ⟨_, W, by go_simp, rfl, Below.refl _ _⟩
    · obtain rfl := Option.some.inj hoo
      have q21 : uu 21 = .int .i64 (m : Int) := hd 21 (by kernel_rfl)
      have q20 : uu 20 = .bool true := hd 20 (by kernel_rfl)
      refine .inl ⟨wanted_yes rfl (yielded_put (k := 84) (by kernel_rfl) (by kernel_rfl) 119 rfl (by decide) q20), ?_⟩
      generalize hev : Act.eval _ = ev
      have ec : ∀ c, ev (.const c) = c := fun c => by rw [← hev]; rfl
      have e85 : ev (.tmp 85) = .int .i64 (m : Int) := by rw [← hev]; exact (eval_put (by kernel_rfl) 119 rfl (by decide)).trans q21
      clear hev hd q21 q20
      have hh := HM3.out
      have hh2 := HM4.out
      exact .inl ⟨_, W, by go_simp, rfl, Below.refl _ _⟩
    · obtain rfl := Option.some.inj hoo
      have q22 : uu 22 = .bool false := hd 22 (by kernel_rfl)
      have q20 : uu 20 = .bool true := hd 20 (by kernel_rfl)
      refine .inl ⟨wanted_yes rfl (yielded_put (k := 84) (by kernel_rfl) (by kernel_rfl) 119 rfl (by decide) q20), ?_⟩
      generalize hev : Act.eval _ = ev
      have ec : ∀ c, ev (.const c) = c := fun c => by rw [← hev]; rfl
      have e86 : ev (.tmp 86) = .bool false := by rw [← hev]; exact (eval_put (by kernel_rfl) 119 rfl (by decide)).trans q22
      clear hev hd q22 q20
      exact .inl ⟨_, W, by go_simp, rfl, Below.refl _ _⟩
    · obtain rfl := Option.some.inj hoo
      have q23 : uu 23 = .bool false := hd 23 (by kernel_rfl)
      refine .inl ⟨wanted_yes rfl (yielded_put (k := 87) (by kernel_rfl) (by kernel_rfl) 119 rfl (by decide) q23), ?_⟩
      generalize hev : Act.eval _ = ev
      have ec : ∀ c, ev (.const c) = c := fun c => by rw [← hev]; rfl
      have e10 : ev (.tmp 10) = .int .i64 (T : Int) := by rw [← hev]; exact eval_old (by kernel_rfl) 119 rfl (by decide) rfl
      clear hev hd q23
      exact .inl ⟨_, W, by go_simp, rfl, Below.refl _ _⟩
    · obtain rfl := Option.some.inj hoo
      have q24 : uu 24 = .int .i64 (T : Int) := hd 24 (by kernel_rfl)
      have q23 : uu 23 = .bool false := hd 23 (by kernel_rfl)
      refine .inl ⟨wanted_yes rfl (yielded_put (k := 87) (by kernel_rfl) (by kernel_rfl) 119 rfl (by decide) q23), ?_⟩
      generalize hev : Act.eval _ = ev
      have ec : ∀ c, ev (.const c) = c := fun c => by rw [← hev]; rfl
      have e88 : ev (.tmp 88) = .int .i64 (T : Int) := by rw [← hev]; exact (eval_put (by kernel_rfl) 119 rfl (by decide)).trans q24
      clear hev hd q24 q23
      have hh := HT3.out
      exact .inl ⟨_, W, by go_simp, rfl, Below.refl _ _⟩
    · obtain rfl := Option.some.inj hoo
      have q23 : uu 23 = .bool false := hd 23 (by kernel_rfl)
      have q25 : uu 25 = .bool true := hd 25 (by kernel_rfl)
      have q20 : uu 20 = .bool true := hd 20 (by kernel_rfl)
      refine .inl ⟨wanted_yes rfl (yielded_put (k := 84) (by kernel_rfl) (by kernel_rfl) 119 rfl (by decide) q20), ?_⟩
      generalize hev : Act.eval _ = ev
      have ec : ∀ c, ev (.const c) = c := fun c => by rw [← hev]; rfl
      have e87 : ev (.tmp 87) = .bool false := by rw [← hev]; exact (eval_put (by kernel_rfl) 119 rfl (by decide)).trans q23
      have e89 : ev (.tmp 89) = .bool true := by rw [← hev]; exact (eval_put (by kernel_rfl) 119 rfl (by decide)).trans q25
      clear hev hd q23 q25 q20
      exact .inl ⟨_, W, by go_simp, rfl, Below.refl _ _⟩
    · obtain rfl := Option.some.inj hoo
      have q20 : uu 20 = .bool true := hd 20 (by kernel_rfl)
      have q26 : uu 26 = .bool true := hd 26 (by kernel_rfl)
      refine .inl ⟨wanted_none rfl, ?_⟩
      generalize hev : Act.eval _ = ev
      have ec : ∀ c, ev (.const c) = c := fun c => by rw [← hev]; rfl
      have e84 : ev (.tmp 84) = .bool true := by rw [← hev]; exact (eval_put (by kernel_rfl) 119 rfl (by decide)).trans q20
      have e90 : ev (.tmp 90) = .bool true := by rw [← hev]; exact (eval_put (by kernel_rfl) 119 rfl (by decide)).trans q26
      clear hev hd q20 q26
      exact .inl ⟨_, W, by go_simp, rfl, Below.refl _ _⟩
    · obtain rfl := Option.some.inj hoo
      have q27 : uu 27 = .bool true := hd 27 (by kernel_rfl)
      refine .inl ⟨wanted_none rfl, ?_⟩
      generalize hev : Act.eval _ = ev
      have ec : ∀ c, ev (.const c) = c := fun c => by rw [← hev]; rfl
      have e91 : ev (.tmp 91) = .bool true := by rw [← hev]; exact (eval_put (by kernel_rfl) 119 rfl (by decide)).trans q27
      clear hev hd q27
      exact .inl ⟨_, W, by go_simp, rfl, Below.refl _ _⟩
    · obtain rfl := Option.some.inj hoo
      have q28 : uu 28 = .bool true := hd 28 (by kernel_rfl)
      refine .inl ⟨wanted_yes rfl (yielded_put (k := 92) (by kernel_rfl) (by kernel_rfl) 119 rfl (by decide) q28), ?_⟩
      generalize hev : Act.eval _ = ev
      have ec : ∀ c, ev (.const c) = c := fun c => by rw [← hev]; rfl
      have e4 : ev (.tmp 4) = .pointer (some ⟨w.heap.size, 0, none⟩) := by rw [← hev]; exact eval_old (by kernel_rfl) 119 rfl (by decide) rfl
      clear hev hd q28
      obtain ⟨cc0, cc1⟩ := HCC W hVW
      exact .inl ⟨_, W, by go_simp, rfl, Below.refl _ _⟩
    · obtain rfl := Option.some.inj hoo
      have q28 : uu 28 = .bool true := hd 28 (by kernel_rfl)
      refine .inl ⟨wanted_yes rfl (yielded_put (k := 92) (by kernel_rfl) (by kernel_rfl) 119 rfl (by decide) q28), ?_⟩
      generalize hev : Act.eval _ = ev
      have ec : ∀ c, ev (.const c) = c := fun c => by rw [← hev]; rfl
      have e1 : ev (.tmp 1) = .int .i64 id := by rw [← hev]; exact eval_old (by kernel_rfl) 119 rfl (by decide) rfl
      clear hev hd q28
      exact .inl ⟨_, W, by go_simp, rfl, Below.refl _ _⟩
    · obtain rfl := Option.some.inj hoo
      have q28 : uu 28 = .bool true := hd 28 (by kernel_rfl)
      refine .inl ⟨wanted_yes rfl (yielded_put (k := 92) (by kernel_rfl) (by kernel_rfl) 119 rfl (by decide) q28), ?_⟩
      generalize hev : Act.eval _ = ev
      have ec : ∀ c, ev (.const c) = c := fun c => by rw [← hev]; rfl
      have e2 : ev (.tmp 2) = .int .i64 (m : Int) := by rw [← hev]; exact eval_old (by kernel_rfl) 119 rfl (by decide) rfl
      clear hev hd q28
      exact .inl ⟨_, W, by go_simp, rfl, Below.refl _ _⟩
    · obtain rfl := Option.some.inj hoo
      have q29 : uu 29 = .agg #[.int .u64 (lo : Int), .int .u64 (hi : Int)] := hd 29 (by kernel_rfl)
      have q30 : uu 30 = .int .i64 id := hd 30 (by kernel_rfl)
      have q31 : uu 31 = .int .i64 (m : Int) := hd 31 (by kernel_rfl)
      have q28 : uu 28 = .bool true := hd 28 (by kernel_rfl)
      refine .inl ⟨wanted_yes rfl (yielded_put (k := 92) (by kernel_rfl) (by kernel_rfl) 119 rfl (by decide) q28), ?_⟩
      generalize hev : Act.eval _ = ev
      have ec : ∀ c, ev (.const c) = c := fun c => by rw [← hev]; rfl
      have ef : ∀ f, ev (.func f) = .func (.func f) #[] #[] := fun f => by rw [← hev]; rfl
      have e93 : ev (.tmp 93) = .agg #[.int .u64 (lo : Int), .int .u64 (hi : Int)] := by rw [← hev]; exact (eval_put (by kernel_rfl) 119 rfl (by decide)).trans q29
      have e94 : ev (.tmp 94) = .int .i64 id := by rw [← hev]; exact (eval_put (by kernel_rfl) 119 rfl (by decide)).trans q30
      have e95 : ev (.tmp 95) = .int .i64 (m : Int) := by rw [← hev]; exact (eval_put (by kernel_rfl) 119 rfl (by decide)).trans q31
      clear hev hd q29 q30 q31 q28
      exact .inr ⟨_, _, _, by go_simp, (HR1 W).out, fun e w' he => by
        obtain ⟨L, A, c, rfl, HL, hr, hb⟩ := he
        exact ⟨_, rfl, ⟨L, A, c, rfl, HL, hr⟩, hb⟩⟩
    · obtain rfl := Option.some.inj hoo
      have q28 : uu 28 = .bool true := hd 28 (by kernel_rfl)
      refine .inl ⟨wanted_yes rfl (yielded_put (k := 92) (by kernel_rfl) (by kernel_rfl) 119 rfl (by decide) q28), ?_⟩
      generalize hev : Act.eval _ = ev
      have ec : ∀ c, ev (.const c) = c := fun c => by rw [← hev]; rfl
      have e4 : ev (.tmp 4) = .pointer (some ⟨w.heap.size, 0, none⟩) := by rw [← hev]; exact eval_old (by kernel_rfl) 119 rfl (by decide) rfl
      clear hev hd q28
      obtain ⟨cc0, cc1⟩ := HCC W hVW
      exact .inl ⟨_, W, by go_simp, rfl, Below.refl _ _⟩
    · obtain rfl := Option.some.inj hoo
      have q28 : uu 28 = .bool true := hd 28 (by kernel_rfl)
      refine .inl ⟨wanted_yes rfl (yielded_put (k := 92) (by kernel_rfl) (by kernel_rfl) 119 rfl (by decide) q28), ?_⟩
      generalize hev : Act.eval _ = ev
      have ec : ∀ c, ev (.const c) = c := fun c => by rw [← hev]; rfl
      have e1 : ev (.tmp 1) = .int .i64 id := by rw [← hev]; exact eval_old (by kernel_rfl) 119 rfl (by decide) rfl
      clear hev hd q28
      exact .inl ⟨_, W, by go_simp, rfl, Below.refl _ _⟩
    · obtain rfl := Option.some.inj hoo
      have q28 : uu 28 = .bool true := hd 28 (by kernel_rfl)
      refine .inl ⟨wanted_yes rfl (yielded_put (k := 92) (by kernel_rfl) (by kernel_rfl) 119 rfl (by decide) q28), ?_⟩
      generalize hev : Act.eval _ = ev
      have ec : ∀ c, ev (.const c) = c := fun c => by rw [← hev]; rfl
      have e2 : ev (.tmp 2) = .int .i64 (m : Int) := by rw [← hev]; exact eval_old (by kernel_rfl) 119 rfl (by decide) rfl
      clear hev hd q28
      exact .inl ⟨_, W, by go_simp, rfl, Below.refl _ _⟩
    · obtain rfl := Option.some.inj hoo
      have q33 : uu 33 = .agg #[.int .u64 (lo : Int), .int .u64 (hi : Int)] := hd 33 (by kernel_rfl)
      have q34 : uu 34 = .int .i64 id := hd 34 (by kernel_rfl)
      have q35 : uu 35 = .int .i64 (m : Int) := hd 35 (by kernel_rfl)
      have q28 : uu 28 = .bool true := hd 28 (by kernel_rfl)
      refine .inl ⟨wanted_yes rfl (yielded_put (k := 92) (by kernel_rfl) (by kernel_rfl) 119 rfl (by decide) q28), ?_⟩
      generalize hev : Act.eval _ = ev
      have ec : ∀ c, ev (.const c) = c := fun c => by rw [← hev]; rfl
      have ef : ∀ f, ev (.func f) = .func (.func f) #[] #[] := fun f => by rw [← hev]; rfl
      have e97 : ev (.tmp 97) = .agg #[.int .u64 (lo : Int), .int .u64 (hi : Int)] := by rw [← hev]; exact (eval_put (by kernel_rfl) 119 rfl (by decide)).trans q33
      have e98 : ev (.tmp 98) = .int .i64 id := by rw [← hev]; exact (eval_put (by kernel_rfl) 119 rfl (by decide)).trans q34
      have e99 : ev (.tmp 99) = .int .i64 (m : Int) := by rw [← hev]; exact (eval_put (by kernel_rfl) 119 rfl (by decide)).trans q35
      clear hev hd q33 q34 q35 q28
      exact .inr ⟨_, _, _, by go_simp, (HR2 W).out, fun e w' he => by
        obtain ⟨L, A, c, rfl, HL, hr, hb⟩ := he
        exact ⟨_, rfl, ⟨L, A, c, rfl, HL, hr⟩, hb⟩⟩
    · obtain rfl := Option.some.inj hoo
      obtain ⟨L32, A32, c32, q32, HL32, r32⟩ := hd 32 (by kernel_rfl)
      obtain ⟨L36, A36, c36, q36, HL36, r36⟩ := hd 36 (by kernel_rfl)
      have q28 : uu 28 = .bool true := hd 28 (by kernel_rfl)
      refine .inl ⟨wanted_yes rfl (yielded_put (k := 92) (by kernel_rfl) (by kernel_rfl) 119 rfl (by decide) q28), ?_⟩
      generalize hev : Act.eval _ = ev
      have ec : ∀ c, ev (.const c) = c := fun c => by rw [← hev]; rfl
      have ef : ∀ f, ev (.func f) = .func (.func f) #[] #[] := fun f => by rw [← hev]; rfl
      have e96 : ev (.tmp 96) = .slice A32 L32.length c32 := by rw [← hev]; exact (eval_put (by kernel_rfl) 119 rfl (by decide)).trans q32
      have e100 : ev (.tmp 100) = .slice A36 L36.length c36 := by rw [← hev]; exact (eval_put (by kernel_rfl) 119 rfl (by decide)).trans q36
      clear hev hd q32 q36 q28
      exact .inr ⟨_, _, _, by go_simp, isame_eq A32 A36 c32 c36 L32 L36 W _ r32 r36 (by rw [HL32.out, HL36.out]), fun e w' he => ⟨_, he.1, rfl, he.2.bel⟩⟩
    · obtain rfl := Option.some.inj hoo
      have q28 : uu 28 = .bool true := hd 28 (by kernel_rfl)
      have q37 : uu 37 = .bool true := hd 37 (by kernel_rfl)
      refine .inl ⟨wanted_none rfl, ?_⟩
      generalize hev : Act.eval _ = ev
      have ec : ∀ c, ev (.const c) = c := fun c => by rw [← hev]; rfl
      have e92 : ev (.tmp 92) = .bool true := by rw [← hev]; exact (eval_put (by kernel_rfl) 119 rfl (by decide)).trans q28
      have e101 : ev (.tmp 101) = .bool true := by rw [← hev]; exact (eval_put (by kernel_rfl) 119 rfl (by decide)).trans q37
      clear hev hd q28 q37
      exact .inl ⟨_, W, by go_simp, rfl, Below.refl _ _⟩
    · obtain rfl := Option.some.inj hoo
      have q38 : uu 38 = .bool true := hd 38 (by kernel_rfl)
      refine .inl ⟨wanted_none rfl, ?_⟩
      generalize hev : Act.eval _ = ev
      have ec : ∀ c, ev (.const c) = c := fun c => by rw [← hev]; rfl
      have e102 : ev (.tmp 102) = .bool true := by rw [← hev]; exact (eval_put (by kernel_rfl) 119 rfl (by decide)).trans q38
      clear hev hd q38
      exact .inl ⟨_, W, by go_simp, rfl, Below.refl _ _⟩
    · obtain rfl := Option.some.inj hoo
      have q39 : uu 39 = .bool true := hd 39 (by kernel_rfl)
      refine .inl ⟨wanted_yes rfl (yielded_put (k := 103) (by kernel_rfl) (by kernel_rfl) 119 rfl (by decide) q39), ?_⟩
      generalize hev : Act.eval _ = ev
      have ec : ∀ c, ev (.const c) = c := fun c => by rw [← hev]; rfl
      have e4 : ev (.tmp 4) = .pointer (some ⟨w.heap.size, 0, none⟩) := by rw [← hev]; exact eval_old (by kernel_rfl) 119 rfl (by decide) rfl
      clear hev hd q39
      obtain ⟨cc0, cc1⟩ := HCC W hVW
      exact .inl ⟨_, W, by go_simp, rfl, Below.refl _ _⟩
    · obtain rfl := Option.some.inj hoo
      have q39 : uu 39 = .bool true := hd 39 (by kernel_rfl)
      refine .inl ⟨wanted_yes rfl (yielded_put (k := 103) (by kernel_rfl) (by kernel_rfl) 119 rfl (by decide) q39), ?_⟩
      generalize hev : Act.eval _ = ev
      have ec : ∀ c, ev (.const c) = c := fun c => by rw [← hev]; rfl
      have e1 : ev (.tmp 1) = .int .i64 id := by rw [← hev]; exact eval_old (by kernel_rfl) 119 rfl (by decide) rfl
      clear hev hd q39
      exact .inl ⟨_, W, by go_simp, rfl, Below.refl _ _⟩
    · obtain rfl := Option.some.inj hoo
      have q39 : uu 39 = .bool true := hd 39 (by kernel_rfl)
      refine .inl ⟨wanted_yes rfl (yielded_put (k := 103) (by kernel_rfl) (by kernel_rfl) 119 rfl (by decide) q39), ?_⟩
      generalize hev : Act.eval _ = ev
      have ec : ∀ c, ev (.const c) = c := fun c => by rw [← hev]; rfl
      have e2 : ev (.tmp 2) = .int .i64 (m : Int) := by rw [← hev]; exact eval_old (by kernel_rfl) 119 rfl (by decide) rfl
      clear hev hd q39
      exact .inl ⟨_, W, by go_simp, rfl, Below.refl _ _⟩
    · obtain rfl := Option.some.inj hoo
      have q39 : uu 39 = .bool true := hd 39 (by kernel_rfl)
      refine .inl ⟨wanted_yes rfl (yielded_put (k := 103) (by kernel_rfl) (by kernel_rfl) 119 rfl (by decide) q39), ?_⟩
      generalize hev : Act.eval _ = ev
      have ec : ∀ c, ev (.const c) = c := fun c => by rw [← hev]; rfl
      have e3 : ev (.tmp 3) = .int .i64 j := by rw [← hev]; exact eval_old (by kernel_rfl) 119 rfl (by decide) rfl
      clear hev hd q39
      exact .inl ⟨_, W, by go_simp, rfl, Below.refl _ _⟩
    · obtain rfl := Option.some.inj hoo
      have q40 : uu 40 = .agg #[.int .u64 (lo : Int), .int .u64 (hi : Int)] := hd 40 (by kernel_rfl)
      have q41 : uu 41 = .int .i64 id := hd 41 (by kernel_rfl)
      have q42 : uu 42 = .int .i64 (m : Int) := hd 42 (by kernel_rfl)
      have q43 : uu 43 = .int .i64 j := hd 43 (by kernel_rfl)
      have q39 : uu 39 = .bool true := hd 39 (by kernel_rfl)
      refine .inl ⟨wanted_yes rfl (yielded_put (k := 103) (by kernel_rfl) (by kernel_rfl) 119 rfl (by decide) q39), ?_⟩
      generalize hev : Act.eval _ = ev
      have ec : ∀ c, ev (.const c) = c := fun c => by rw [← hev]; rfl
      have ef : ∀ f, ev (.func f) = .func (.func f) #[] #[] := fun f => by rw [← hev]; rfl
      have e104 : ev (.tmp 104) = .agg #[.int .u64 (lo : Int), .int .u64 (hi : Int)] := by rw [← hev]; exact (eval_put (by kernel_rfl) 119 rfl (by decide)).trans q40
      have e105 : ev (.tmp 105) = .int .i64 id := by rw [← hev]; exact (eval_put (by kernel_rfl) 119 rfl (by decide)).trans q41
      have e106 : ev (.tmp 106) = .int .i64 (m : Int) := by rw [← hev]; exact (eval_put (by kernel_rfl) 119 rfl (by decide)).trans q42
      have e107 : ev (.tmp 107) = .int .i64 j := by rw [← hev]; exact (eval_put (by kernel_rfl) 119 rfl (by decide)).trans q43
      clear hev hd q40 q41 q42 q43 q39
      exact .inr ⟨_, _, _, by go_simp, (HPA W).out, fun e w' he => ⟨_, he.1, rfl, he.2⟩⟩
    · obtain rfl := Option.some.inj hoo
      have q39 : uu 39 = .bool true := hd 39 (by kernel_rfl)
      refine .inl ⟨wanted_yes rfl (yielded_put (k := 103) (by kernel_rfl) (by kernel_rfl) 119 rfl (by decide) q39), ?_⟩
      generalize hev : Act.eval _ = ev
      have ec : ∀ c, ev (.const c) = c := fun c => by rw [← hev]; rfl
      have e4 : ev (.tmp 4) = .pointer (some ⟨w.heap.size, 0, none⟩) := by rw [← hev]; exact eval_old (by kernel_rfl) 119 rfl (by decide) rfl
      clear hev hd q39
      obtain ⟨cc0, cc1⟩ := HCC W hVW
      exact .inl ⟨_, W, by go_simp, rfl, Below.refl _ _⟩
    · obtain rfl := Option.some.inj hoo
      have q39 : uu 39 = .bool true := hd 39 (by kernel_rfl)
      refine .inl ⟨wanted_yes rfl (yielded_put (k := 103) (by kernel_rfl) (by kernel_rfl) 119 rfl (by decide) q39), ?_⟩
      generalize hev : Act.eval _ = ev
      have ec : ∀ c, ev (.const c) = c := fun c => by rw [← hev]; rfl
      have e1 : ev (.tmp 1) = .int .i64 id := by rw [← hev]; exact eval_old (by kernel_rfl) 119 rfl (by decide) rfl
      clear hev hd q39
      exact .inl ⟨_, W, by go_simp, rfl, Below.refl _ _⟩
    · obtain rfl := Option.some.inj hoo
      have q39 : uu 39 = .bool true := hd 39 (by kernel_rfl)
      refine .inl ⟨wanted_yes rfl (yielded_put (k := 103) (by kernel_rfl) (by kernel_rfl) 119 rfl (by decide) q39), ?_⟩
      generalize hev : Act.eval _ = ev
      have ec : ∀ c, ev (.const c) = c := fun c => by rw [← hev]; rfl
      have e2 : ev (.tmp 2) = .int .i64 (m : Int) := by rw [← hev]; exact eval_old (by kernel_rfl) 119 rfl (by decide) rfl
      clear hev hd q39
      exact .inl ⟨_, W, by go_simp, rfl, Below.refl _ _⟩
    · obtain rfl := Option.some.inj hoo
      have q39 : uu 39 = .bool true := hd 39 (by kernel_rfl)
      refine .inl ⟨wanted_yes rfl (yielded_put (k := 103) (by kernel_rfl) (by kernel_rfl) 119 rfl (by decide) q39), ?_⟩
      generalize hev : Act.eval _ = ev
      have ec : ∀ c, ev (.const c) = c := fun c => by rw [← hev]; rfl
      have e3 : ev (.tmp 3) = .int .i64 j := by rw [← hev]; exact eval_old (by kernel_rfl) 119 rfl (by decide) rfl
      clear hev hd q39
      exact .inl ⟨_, W, by go_simp, rfl, Below.refl _ _⟩
    · obtain rfl := Option.some.inj hoo
      have q45 : uu 45 = .agg #[.int .u64 (lo : Int), .int .u64 (hi : Int)] := hd 45 (by kernel_rfl)
      have q46 : uu 46 = .int .i64 id := hd 46 (by kernel_rfl)
      have q47 : uu 47 = .int .i64 (m : Int) := hd 47 (by kernel_rfl)
      have q48 : uu 48 = .int .i64 j := hd 48 (by kernel_rfl)
      have q39 : uu 39 = .bool true := hd 39 (by kernel_rfl)
      refine .inl ⟨wanted_yes rfl (yielded_put (k := 103) (by kernel_rfl) (by kernel_rfl) 119 rfl (by decide) q39), ?_⟩
      generalize hev : Act.eval _ = ev
      have ec : ∀ c, ev (.const c) = c := fun c => by rw [← hev]; rfl
      have ef : ∀ f, ev (.func f) = .func (.func f) #[] #[] := fun f => by rw [← hev]; rfl
      have e109 : ev (.tmp 109) = .agg #[.int .u64 (lo : Int), .int .u64 (hi : Int)] := by rw [← hev]; exact (eval_put (by kernel_rfl) 119 rfl (by decide)).trans q45
      have e110 : ev (.tmp 110) = .int .i64 id := by rw [← hev]; exact (eval_put (by kernel_rfl) 119 rfl (by decide)).trans q46
      have e111 : ev (.tmp 111) = .int .i64 (m : Int) := by rw [← hev]; exact (eval_put (by kernel_rfl) 119 rfl (by decide)).trans q47
      have e112 : ev (.tmp 112) = .int .i64 j := by rw [← hev]; exact (eval_put (by kernel_rfl) 119 rfl (by decide)).trans q48
      clear hev hd q45 q46 q47 q48 q39
      exact .inr ⟨_, _, _, by go_simp, (HRA W).out, fun e w' he => ⟨_, he.1, rfl, he.2⟩⟩
    · obtain rfl := Option.some.inj hoo
      have q44 : uu 44 = .int .i64 x := hd 44 (by kernel_rfl)
      have q49 : uu 49 = .int .i64 x := hd 49 (by kernel_rfl)
      have q39 : uu 39 = .bool true := hd 39 (by kernel_rfl)
      refine .inl ⟨wanted_yes rfl (yielded_put (k := 103) (by kernel_rfl) (by kernel_rfl) 119 rfl (by decide) q39), ?_⟩
      generalize hev : Act.eval _ = ev
      have ec : ∀ c, ev (.const c) = c := fun c => by rw [← hev]; rfl
      have e108 : ev (.tmp 108) = .int .i64 x := by rw [← hev]; exact (eval_put (by kernel_rfl) 119 rfl (by decide)).trans q44
      have e113 : ev (.tmp 113) = .int .i64 x := by rw [← hev]; exact (eval_put (by kernel_rfl) 119 rfl (by decide)).trans q49
      clear hev hd q44 q49 q39
      exact .inl ⟨_, W, by go_simp, rfl, Below.refl _ _⟩
    · obtain rfl := Option.some.inj hoo
      have q39 : uu 39 = .bool true := hd 39 (by kernel_rfl)
      have q50 : uu 50 = .bool true := hd 50 (by kernel_rfl)
      refine .inl ⟨wanted_none rfl, ?_⟩
      generalize hev : Act.eval _ = ev
      have ec : ∀ c, ev (.const c) = c := fun c => by rw [← hev]; rfl
      have e103 : ev (.tmp 103) = .bool true := by rw [← hev]; exact (eval_put (by kernel_rfl) 119 rfl (by decide)).trans q39
      have e114 : ev (.tmp 114) = .bool true := by rw [← hev]; exact (eval_put (by kernel_rfl) 119 rfl (by decide)).trans q50
      clear hev hd q39 q50
      exact .inl ⟨_, W, by go_simp, rfl, Below.refl _ _⟩
    · obtain rfl := Option.some.inj hoo
      have q51 : uu 51 = .bool true := hd 51 (by kernel_rfl)
      refine .inl ⟨wanted_none rfl, ?_⟩
      generalize hev : Act.eval _ = ev
      have ec : ∀ c, ev (.const c) = c := fun c => by rw [← hev]; rfl
      have e115 : ev (.tmp 115) = .bool true := by rw [← hev]; exact (eval_put (by kernel_rfl) 119 rfl (by decide)).trans q51
      clear hev hd q51
      exact .inl ⟨_, W, by go_simp, rfl, Below.refl _ _⟩
    · obtain rfl := Option.some.inj hoo
      have q52 : uu 52 = .bool true := hd 52 (by kernel_rfl)
      refine .inl ⟨wanted_yes rfl (yielded_put (k := 116) (by kernel_rfl) (by kernel_rfl) 119 rfl (by decide) q52), ?_⟩
      generalize hev : Act.eval _ = ev
      have ec : ∀ c, ev (.const c) = c := fun c => by rw [← hev]; rfl
      have ef : ∀ f, ev (.func f) = .func (.func f) #[] #[] := fun f => by rw [← hev]; rfl
      clear hev hd q52
      exact .inr ⟨_, _, _, by go_simp, lives18_any W, fun e w' he => ⟨_, he.1, rfl, he.2⟩⟩
    · obtain rfl := Option.some.inj hoo
      have q52 : uu 52 = .bool true := hd 52 (by kernel_rfl)
      have q53 : uu 53 = .bool true := hd 53 (by kernel_rfl)
      refine .inl ⟨wanted_none rfl, ?_⟩
      generalize hev : Act.eval _ = ev
      have ec : ∀ c, ev (.const c) = c := fun c => by rw [← hev]; rfl
      have e116 : ev (.tmp 116) = .bool true := by rw [← hev]; exact (eval_put (by kernel_rfl) 119 rfl (by decide)).trans q52
      have e117 : ev (.tmp 117) = .bool true := by rw [← hev]; exact (eval_put (by kernel_rfl) 119 rfl (by decide)).trans q53
      clear hev hd q52 q53
      exact .inl ⟨_, W, by go_simp, rfl, Below.refl _ _⟩
    · obtain rfl := Option.some.inj hoo
      have q54 : uu 54 = .bool true := hd 54 (by kernel_rfl)
      refine .inl ⟨wanted_none rfl, ?_⟩
      generalize hev : Act.eval _ = ev
      have ec : ∀ c, ev (.const c) = c := fun c => by rw [← hev]; rfl
      have e118 : ev (.tmp 118) = .bool true := by rw [← hev]; exact (eval_put (by kernel_rfl) 119 rfl (by decide)).trans q54
      clear hev hd q54
      exact .inl ⟨_, W, by go_simp, rfl, Below.refl _ _⟩
    · simp at hoo
  · intro uu W hVW hall
    have q55 : uu 55 = .bool true := hall 55 (by decide)
    replace hB := hB.trans (hVW.mono hB.size)
    clear hall HCC hVW
    simp only [putAll, Act.put, Nat.reduceAdd, q55]
    simp only [List.setIfInBounds_toArray, List.set_cons_succ, List.set_cons_zero]
    go_wp2_with fail
    go_ret
    exact ⟨rfl, hB⟩
set_option maxRecDepth 10000 in
set_option maxHeartbeats 4000000 in
theorem permrows_any (lo hi : Nat) (h1 : lo < 18446744073709551616) (h2 : hi < 18446744073709551616) (id : Int) (iw : UInt32) (hid : IntKind.u32.wrap id = (iw.toNat : Int)) (m F T : Nat) (hm2 : 2 ≤ m) (hm : m ≤ 251) (h22 : m ≠ 2) (hp : pI (m : Int) = true) (hF : sipN lo hi (puts32 [iw, 0]) % m = F) (hT : sipN lo hi (puts32 [iw, 1]) % (m - 1) + 1 = T) (b3 b2 b1 b0 : UInt8) (hiw : be32 iw = [b3, b2, b1, b0]) (s3 : ∀ _ : Unit, (id / 16777216 % 256 = (b3.toNat : Int)) ∧ (id / 65536 % 256 = (b2.toNat : Int)) ∧ (id / 256 % 256 = (b1.toNat : Int)) ∧ (id % 256 = (b0.toNat : Int))) (j x : Int)
    (HPA : ∀ W, Hid (Calls Try.prog 30 #[.agg #[.int .u64 (lo : Int), .int .u64 (hi : Int)], .int .i64 id, .int .i64 (m : Int), .int .i64 j] W fun e w' => e = .returned (.int .i64 x) ∧ Below W.heap.size W w')) (HRA : ∀ W, Hid (Calls Try.prog 32 #[.agg #[.int .u64 (lo : Int), .int .u64 (hi : Int)], .int .i64 id, .int .i64 (m : Int), .int .i64 j] W fun e w' => e = .returned (.int .i64 x) ∧ Below W.heap.size W w')) (w : World) :
    Calls Try.prog 7 #[.agg #[.int .u64 (lo : Int), .int .u64 (hi : Int)], .int .i64 id, .int .i64 (m : Int), .int .i64 j] w fun e w' => e = .returned (.bool true) ∧ Below w.heap.size w w' := by
  have HP := fun W => Lib.hid (prime_any (m : Int) W)
  have HPR := fun W => Lib.hid (rprime_any (m : Int) W)
  rw [hp] at HP HPR
  have HS := fun W => Lib.hid (start_ok lo hi h1 h2 id iw hid m F T hm2 hm hp hF hT W)
  have HR1 := fun W => Lib.hid (prow_ok lo hi h1 h2 id iw hid m F T hm2 hm hp hF hT W)
  have HR2 := fun W => Lib.hid (rrow_ok lo hi h1 h2 id iw hid m F T hm2 hm hp hF hT W)
  have hFl : F < m := by rw [← hF]; exact Nat.mod_lt _ (by omega)
  have HA0 : ∀ W, Hid (Calls Try.prog 32 #[.agg #[.int .u64 (lo : Int), .int .u64 (hi : Int)], .int .i64 id, .int .i64 (m : Int), .int .i64 0] W fun e w' => e = .returned (.int .i64 (F : Int)) ∧ Below W.heap.size W w') := by
    intro W
    have h := rat_ok lo hi h1 h2 id iw hid m F T hm2 hm hp hF hT 0 (by omega) W
    rw [Nat.zero_mul, Nat.add_zero, Nat.mod_eq_of_lt hFl] at h
    exact h
  obtain ⟨m1, hm1⟩ : ∃ m1, m - 1 = m1 := ⟨_, rfl⟩
  rw [hm1] at hT
  obtain ⟨T0, hT0⟩ : ∃ T0, sipN lo hi (puts32 [iw, 1]) % m1 = T0 := ⟨_, rfl⟩
  rw [hT0] at hT
  have hT0l : T0 < m1 := by rw [← hT0]; exact Nat.mod_lt _ (by omega)
  have hlit : puts32 [iw, 1] = [b3, b2, b1, b0, 0, 0, 0, 1] := by
    simp only [puts32, List.flatMap_cons, List.flatMap_nil, hiw, List.append_nil]
    rfl
  rw [hlit] at hT0
  have HU : ∀ {G : Nat} W, Rd bv W W.heap.size (some ⟨G, 0, none⟩) 8 [b3, b2, b1, b0, 0, 0, 0, 1] → Hid (Calls Try.prog 33 #[.agg #[.int .u64 (lo : Int), .int .u64 (hi : Int)], .slice (some ⟨G, 0, none⟩) 8 8, .int .i64 (m1 : Int)] W fun e w' => e = .returned (.int .i64 (T0 : Int)) ∧ Below W.heap.size W w') := by
    intro G W hr
    exact linkboyref13_under_1 lo hi h1 h2 (some ⟨G, 0, none⟩) 8 [b3, b2, b1, b0, 0, 0, 0, 1] m1 T0 (by omega) (by omega) (by rw [Hid, hT0]) W hr (by simp)
  have HM : Hid ((m : Int) - 1 = (m1 : Int)) := by rw [Hid]; omega
  have HM2 : Hid (IntKind.i64.wrap (m1 : Int) = (m1 : Int)) := by rw [Hid, IntKind.wrap_i64]; omega
  have HT1 : Hid ((T0 : Int) + 1 = (T : Int)) := by rw [Hid]; omega
  have HT2 : Hid (IntKind.i64.wrap (T : Int) = (T : Int)) := by rw [Hid, IntKind.wrap_i64]; omega
  have HM3 : Hid (((m : Int) == 2) = false) := by rw [Hid]; simp; omega
  have HM4 : Hid (((m : Int) != 2) = true) := by rw [Hid]; simp; omega

  obtain ⟨V0, hV⟩ : ∃ V, V = w.alloc (.cells #[.int .u64 (lo : Int), .int .u64 (hi : Int)] 35) := ⟨_, rfl⟩
  have hB : Below w.heap.size w V0 := by subst hV; exact bnextA (Below.refl _ _) _
  have K : Blk V0 w.heap.size [.int .u64 (lo : Int), .int .u64 (hi : Int)] 35 := by subst hV; exact Blk.new _ _ _
  obtain ⟨y0, y1, -⟩ := K.get2
  clear hp hF hT hT0 hm1 hT0l hFl h22 hlit hiw hid
  go_enter Try.func7, Try.ntmps7
  go_wp2_with fail
  rw [← hV]
  clear hV
  refine (HS _).out.mono ?_
  rintro e w1 ⟨rfl, hb⟩
  replace hB := bnext hB hb
  replace K := K.next hb
  clear hb y0 y1
  clear HS
  go_wp2_with fail
  refine (HPR _).out.mono ?_
  rintro e w2 ⟨rfl, rfl⟩
  clear HPR
  obtain ⟨t3, t2, t1, t0⟩ := s3 ()
  have t3b : IntKind.u8.wrap (id / 16777216) = (b3.toNat : Int) := by rw [IntKind.wrap_u8]; exact t3
  have t2b : IntKind.u8.wrap (id / 65536) = (b2.toNat : Int) := by rw [IntKind.wrap_u8]; exact t2
  have t1b : IntKind.u8.wrap (id / 256) = (b1.toNat : Int) := by rw [IntKind.wrap_u8]; exact t1
  have t0b : IntKind.u8.wrap id = (b0.toNat : Int) := by rw [IntKind.wrap_u8]; exact t0
  have t3c : IntKind.u8.wrap (id >>> 24) = (b3.toNat : Int) := by rw [IntKind.wrap_u8, Int.shiftRight_eq_div_pow]; exact t3
  have t2c : IntKind.u8.wrap (id >>> 16) = (b2.toNat : Int) := by rw [IntKind.wrap_u8, Int.shiftRight_eq_div_pow]; exact t2
  have t1c : IntKind.u8.wrap (id >>> 8) = (b1.toNat : Int) := by rw [IntKind.wrap_u8, Int.shiftRight_eq_div_pow]; exact t1
  have t3d : id >>> 24 % 256 = (b3.toNat : Int) := by rw [Int.shiftRight_eq_div_pow]; exact t3
  have t2d : id >>> 16 % 256 = (b2.toNat : Int) := by rw [Int.shiftRight_eq_div_pow]; exact t2
  have t1d : id >>> 8 % 256 = (b1.toNat : Int) := by rw [Int.shiftRight_eq_div_pow]; exact t1
  go_wp2_with fail
  clear t0 t1 t2 t3 t0b t1b t2b t3b t1c t2c t3c t1d t2d t3d s3
  have rB := lit_at w1 w1.heap.size [b3, b2, b1, b0, 0, 0, 0, 1] rfl #[.int .u8 (b3.toNat : Int), .int .u8 (b2.toNat : Int), .int .u8 (b1.toNat : Int), .int .u8 (b0.toNat : Int), .int .u8 0, .int .u8 0, .int .u8 0, .int .u8 1] rfl 5 (by simp)
  replace hB := bnextA hB (.cells #[.int .u8 (b3.toNat : Int), .int .u8 (b2.toNat : Int), .int .u8 (b1.toNat : Int), .int .u8 (b0.toNat : Int), .int .u8 0, .int .u8 0, .int .u8 0, .int .u8 1] 5)
  replace K := K.alloc (.cells #[.int .u8 (b3.toNat : Int), .int .u8 (b2.toNat : Int), .int .u8 (b1.toNat : Int), .int .u8 (b0.toNat : Int), .int .u8 0, .int .u8 0, .int .u8 0, .int .u8 1] 5)
  generalize w1.alloc (.cells #[.int .u8 (b3.toNat : Int), .int .u8 (b2.toNat : Int), .int .u8 (b1.toNat : Int), .int .u8 (b0.toNat : Int), .int .u8 0, .int .u8 0, .int .u8 0, .int .u8 1] 5) = V at *
  generalize w1.heap.size = G at *
  have HCC : ∀ W, Below V.heap.size V W → (W.cell? ⟨w.heap.size, 0, none⟩ = some (.int .u64 (lo : Int)) ∧ W.cell? ⟨w.heap.size, 1, none⟩ = some (.int .u64 (hi : Int))) := by
    intro W h
    obtain ⟨p0, p1, -⟩ := (K.next h).get2
    exact ⟨p0, p1⟩
  refine region_put (by kernel_rfl) (by kernel_rfl) (by kernel_rfl) 119 rfl (by kernel_rfl) V (fun i v W => match i with
      | 0 => v = .int .i64 (m : Int)
      | 1 => v = .bool true
      | 2 => v = .bool true
      | 3 => v = .int .i64 (F : Int)
      | 4 => v = .agg #[.int .u64 (lo : Int), .int .u64 (hi : Int)]
      | 5 => v = .int .i64 id
      | 6 => v = .int .i64 (m : Int)
      | 7 => v = .int .i64 (F : Int)
      | 8 => v = .bool true
      | 9 => v = .bool true
      | 10 => v = .bool true
      | 11 => v = .int .i64 (T : Int)
      | 12 => v = .agg #[.int .u64 (lo : Int), .int .u64 (hi : Int)]
      | 13 => v = .slice (some ⟨G, 0, none⟩) 8 8
      | 14 => v = .int .i64 (m : Int)
      | 15 => v = .int .i64 (m1 : Int)
      | 16 => v = .int .i64 (T0 : Int)
      | 17 => v = .int .i64 (T : Int)
      | 18 => v = .bool true
      | 19 => v = .bool true
      | 20 => v = .bool true
      | 21 => v = .int .i64 (m : Int)
      | 22 => v = .bool true
      | 23 => v = .bool true
      | 24 => v = undef
      | 25 => v = undef
      | 26 => v = .bool true
      | 27 => v = .bool true
      | 28 => v = .bool true
      | 29 => v = .agg #[.int .u64 (lo : Int), .int .u64 (hi : Int)]
      | 30 => v = .int .i64 id
      | 31 => v = .int .i64 (m : Int)
      | 32 => ∃ L A c, v = .slice A L.length c ∧ Hid (L = rowN F T m) ∧ Rd iv W W.heap.size A c L
      | 33 => v = .agg #[.int .u64 (lo : Int), .int .u64 (hi : Int)]
      | 34 => v = .int .i64 id
      | 35 => v = .int .i64 (m : Int)
      | 36 => ∃ L A c, v = .slice A L.length c ∧ Hid (L = rowN F T m) ∧ Rd iv W W.heap.size A c L
      | 37 => v = .bool true
      | 38 => v = .bool true
      | 39 => v = .bool true
      | 40 => v = .agg #[.int .u64 (lo : Int), .int .u64 (hi : Int)]
      | 41 => v = .int .i64 id
      | 42 => v = .int .i64 (m : Int)
      | 43 => v = .int .i64 j
      | 44 => v = .int .i64 x
      | 45 => v = .agg #[.int .u64 (lo : Int), .int .u64 (hi : Int)]
      | 46 => v = .int .i64 id
      | 47 => v = .int .i64 (m : Int)
      | 48 => v = .int .i64 j
      | 49 => v = .int .i64 x
      | 50 => v = .bool true
      | 51 => v = .bool true
      | 52 => v = .bool true
      | 53 => v = .bool true
      | 54 => v = .bool true
      | 55 => v = .bool true
      | _ => True) (Below.refl _ _) ?_ ?_ ?_
  · intro i v W W' h hb
    match i, h with
    | 0, h => exact h
    | 1, h => exact h
    | 2, h => exact h
    | 3, h => exact h
    | 4, h => exact h
    | 5, h => exact h
    | 6, h => exact h
    | 7, h => exact h
    | 8, h => exact h
    | 9, h => exact h
    | 10, h => exact h
    | 11, h => exact h
    | 12, h => exact h
    | 13, h => exact h
    | 14, h => exact h
    | 15, h => exact h
    | 16, h => exact h
    | 17, h => exact h
    | 18, h => exact h
    | 19, h => exact h
    | 20, h => exact h
    | 21, h => exact h
    | 22, h => exact h
    | 23, h => exact h
    | 24, h => exact h
    | 25, h => exact h
    | 26, h => exact h
    | 27, h => exact h
    | 28, h => exact h
    | 29, h => exact h
    | 30, h => exact h
    | 31, h => exact h
    | 32, h => obtain ⟨L, A, c, h1, h2, h3⟩ := h; exact ⟨L, A, c, h1, h2, h3.next hb⟩
    | 33, h => exact h
    | 34, h => exact h
    | 35, h => exact h
    | 36, h => obtain ⟨L, A, c, h1, h2, h3⟩ := h; exact ⟨L, A, c, h1, h2, h3.next hb⟩
    | 37, h => exact h
    | 38, h => exact h
    | 39, h => exact h
    | 40, h => exact h
    | 41, h => exact h
    | 42, h => exact h
    | 43, h => exact h
    | 44, h => exact h
    | 45, h => exact h
    | 46, h => exact h
    | 47, h => exact h
    | 48, h => exact h
    | 49, h => exact h
    | 50, h => exact h
    | 51, h => exact h
    | 52, h => exact h
    | 53, h => exact h
    | 54, h => exact h
    | 55, h => exact h
    | _ + 56, _ => trivial
  · intro i o uu W hoo hVW hd
    rcases i with _|_|_|_|_|_|_|_|_|_|_|_|_|_|_|_|_|_|_|_|_|_|_|_|_|_|_|_|_|_|_|_|_|_|_|_|_|_|_|_|_|_|_|_|_|_|_|_|_|_|_|_|_|_|_|_|i
    · obtain rfl := Option.some.inj hoo
      refine .inl ⟨wanted_none rfl, ?_⟩
      generalize hev : Act.eval _ = ev
      have ec : ∀ c, ev (.const c) = c := fun c => by rw [← hev]; rfl
      have e2 : ev (.tmp 2) = .int .i64 (m : Int) := by rw [← hev]; exact eval_old (by kernel_rfl) 119 rfl (by decide) rfl
      clear hev hd
      exact .inl ⟨_, W, by go_simp, rfl, Below.refl _ _⟩
    · obtain rfl := Option.some.inj hoo
      have q0 : uu 0 = .int .i64 (m : Int) := hd 0 (by kernel_rfl)
      refine .inl ⟨wanted_none rfl, ?_⟩
      generalize hev : Act.eval _ = ev
      have ec : ∀ c, ev (.const c) = c := fun c => by rw [← hev]; rfl
      have ef : ∀ f, ev (.func f) = .func (.func f) #[] #[] := fun f => by rw [← hev]; rfl
      have e64 : ev (.tmp 64) = .int .i64 (m : Int) := by rw [← hev]; exact (eval_put (by kernel_rfl) 119 rfl (by decide)).trans q0
      clear hev hd q0
      exact .inr ⟨_, _, _, by go_simp, (HP W).out, fun e w' he => ⟨_, he.1, rfl, he.2 ▸ Below.refl _ _⟩⟩
    · obtain rfl := Option.some.inj hoo
      have q1 : uu 1 = .bool true := hd 1 (by kernel_rfl)
      refine .inl ⟨wanted_none rfl, ?_⟩
      generalize hev : Act.eval _ = ev
      have ec : ∀ c, ev (.const c) = c := fun c => by rw [← hev]; rfl
      have e65 : ev (.tmp 65) = .bool true := by rw [← hev]; exact (eval_put (by kernel_rfl) 119 rfl (by decide)).trans q1
      clear hev hd q1
      exact .inl ⟨_, W, by go_simp, rfl, Below.refl _ _⟩
    · obtain rfl := Option.some.inj hoo
      have q2 : uu 2 = .bool true := hd 2 (by kernel_rfl)
      refine .inl ⟨wanted_yes rfl (yielded_put (k := 66) (by kernel_rfl) (by kernel_rfl) 119 rfl (by decide) q2), ?_⟩
      generalize hev : Act.eval _ = ev
      have ec : ∀ c, ev (.const c) = c := fun c => by rw [← hev]; rfl
      have e9 : ev (.tmp 9) = .int .i64 (F : Int) := by rw [← hev]; exact eval_old (by kernel_rfl) 119 rfl (by decide) rfl
      clear hev hd q2
      exact .inl ⟨_, W, by go_simp, rfl, Below.refl _ _⟩
    · obtain rfl := Option.some.inj hoo
      have q2 : uu 2 = .bool true := hd 2 (by kernel_rfl)
      refine .inl ⟨wanted_yes rfl (yielded_put (k := 66) (by kernel_rfl) (by kernel_rfl) 119 rfl (by decide) q2), ?_⟩
      generalize hev : Act.eval _ = ev
      have ec : ∀ c, ev (.const c) = c := fun c => by rw [← hev]; rfl
      have e4 : ev (.tmp 4) = .pointer (some ⟨w.heap.size, 0, none⟩) := by rw [← hev]; exact eval_old (by kernel_rfl) 119 rfl (by decide) rfl
      clear hev hd q2
      obtain ⟨cc0, cc1⟩ := HCC W hVW
      exact .inl ⟨_, W, by go_simp, rfl, Below.refl _ _⟩
    · obtain rfl := Option.some.inj hoo
      have q2 : uu 2 = .bool true := hd 2 (by kernel_rfl)
      refine .inl ⟨wanted_yes rfl (yielded_put (k := 66) (by kernel_rfl) (by kernel_rfl) 119 rfl (by decide) q2), ?_⟩
      generalize hev : Act.eval _ = ev
      have ec : ∀ c, ev (.const c) = c := fun c => by rw [← hev]; rfl
      have e1 : ev (.tmp 1) = .int .i64 id := by rw [← hev]; exact eval_old (by kernel_rfl) 119 rfl (by decide) rfl
      clear hev hd q2
      exact .inl ⟨_, W, by go_simp, rfl, Below.refl _ _⟩
    · obtain rfl := Option.some.inj hoo
      have q2 : uu 2 = .bool true := hd 2 (by kernel_rfl)
      refine .inl ⟨wanted_yes rfl (yielded_put (k := 66) (by kernel_rfl) (by kernel_rfl) 119 rfl (by decide) q2), ?_⟩
      generalize hev : Act.eval _ = ev
      have ec : ∀ c, ev (.const c) = c := fun c => by rw [← hev]; rfl
      have e2 : ev (.tmp 2) = .int .i64 (m : Int) := by rw [← hev]; exact eval_old (by kernel_rfl) 119 rfl (by decide) rfl
      clear hev hd q2
      exact .inl ⟨_, W, by go_simp, rfl, Below.refl _ _⟩
    · obtain rfl := Option.some.inj hoo
      have q4 : uu 4 = .agg #[.int .u64 (lo : Int), .int .u64 (hi : Int)] := hd 4 (by kernel_rfl)
      have q5 : uu 5 = .int .i64 id := hd 5 (by kernel_rfl)
      have q6 : uu 6 = .int .i64 (m : Int) := hd 6 (by kernel_rfl)
      have q2 : uu 2 = .bool true := hd 2 (by kernel_rfl)
      refine .inl ⟨wanted_yes rfl (yielded_put (k := 66) (by kernel_rfl) (by kernel_rfl) 119 rfl (by decide) q2), ?_⟩
      generalize hev : Act.eval _ = ev
      have ec : ∀ c, ev (.const c) = c := fun c => by rw [← hev]; rfl
      have ef : ∀ f, ev (.func f) = .func (.func f) #[] #[] := fun f => by rw [← hev]; rfl
      have e68 : ev (.tmp 68) = .agg #[.int .u64 (lo : Int), .int .u64 (hi : Int)] := by rw [← hev]; exact (eval_put (by kernel_rfl) 119 rfl (by decide)).trans q4
      have e69 : ev (.tmp 69) = .int .i64 id := by rw [← hev]; exact (eval_put (by kernel_rfl) 119 rfl (by decide)).trans q5
      have e70 : ev (.tmp 70) = .int .i64 (m : Int) := by rw [← hev]; exact (eval_put (by kernel_rfl) 119 rfl (by decide)).trans q6
      clear hev hd q4 q5 q6 q2
      exact .inr ⟨_, _, _, by go_simp, (HA0 W).out, fun e w' he => ⟨_, he.1, rfl, he.2⟩⟩
    · obtain rfl := Option.some.inj hoo
      have q3 : uu 3 = .int .i64 (F : Int) := hd 3 (by kernel_rfl)
      have q7 : uu 7 = .int .i64 (F : Int) := hd 7 (by kernel_rfl)
      have q2 : uu 2 = .bool true := hd 2 (by kernel_rfl)
      refine .inl ⟨wanted_yes rfl (yielded_put (k := 66) (by kernel_rfl) (by kernel_rfl) 119 rfl (by decide) q2), ?_⟩
      generalize hev : Act.eval _ = ev
      have ec : ∀ c, ev (.const c) = c := fun c => by rw [← hev]; rfl
      have e67 : ev (.tmp 67) = .int .i64 (F : Int) := by rw [← hev]; exact (eval_put (by kernel_rfl) 119 rfl (by decide)).trans q3
      have e71 : ev (.tmp 71) = .int .i64 (F : Int) := by rw [← hev]; exact (eval_put (by kernel_rfl) 119 rfl (by decide)).trans q7
      clear hev hd q3 q7 q2
      exact .inl ⟨_, W, by go_simp, rfl, Below.refl _ _⟩
    · obtain rfl := Option.some.inj hoo
      have q2 : uu 2 = .bool true := hd 2 (by kernel_rfl)
      have q8 : uu 8 = .bool true := hd 8 (by kernel_rfl)
      refine .inl ⟨wanted_none rfl, ?_⟩
      generalize hev : Act.eval _ = ev
      have ec : ∀ c, ev (.const c) = c := fun c => by rw [← hev]; rfl
      have e66 : ev (.tmp 66) = .bool true := by rw [← hev]; exact (eval_put (by kernel_rfl) 119 rfl (by decide)).trans q2
      have e72 : ev (.tmp 72) = .bool true := by rw [← hev]; exact (eval_put (by kernel_rfl) 119 rfl (by decide)).trans q8
      clear hev hd q2 q8
      exact .inl ⟨_, W, by go_simp, rfl, Below.refl _ _⟩
    · obtain rfl := Option.some.inj hoo
      have q9 : uu 9 = .bool true := hd 9 (by kernel_rfl)
      refine .inl ⟨wanted_none rfl, ?_⟩
      generalize hev : Act.eval _ = ev
      have ec : ∀ c, ev (.const c) = c := fun c => by rw [← hev]; rfl
      have e73 : ev (.tmp 73) = .bool true := by rw [← hev]; exact (eval_put (by kernel_rfl) 119 rfl (by decide)).trans q9
      clear hev hd q9
      exact .inl ⟨_, W, by go_simp, rfl, Below.refl _ _⟩
    · obtain rfl := Option.some.inj hoo
      have q10 : uu 10 = .bool true := hd 10 (by kernel_rfl)
      refine .inl ⟨wanted_yes rfl (yielded_put (k := 74) (by kernel_rfl) (by kernel_rfl) 119 rfl (by decide) q10), ?_⟩
      generalize hev : Act.eval _ = ev
      have ec : ∀ c, ev (.const c) = c := fun c => by rw [← hev]; rfl
      have e10 : ev (.tmp 10) = .int .i64 (T : Int) := by rw [← hev]; exact eval_old (by kernel_rfl) 119 rfl (by decide) rfl
      clear hev hd q10
      exact .inl ⟨_, W, by go_simp, rfl, Below.refl _ _⟩
    · obtain rfl := Option.some.inj hoo
      have q10 : uu 10 = .bool true := hd 10 (by kernel_rfl)
      refine .inl ⟨wanted_yes rfl (yielded_put (k := 74) (by kernel_rfl) (by kernel_rfl) 119 rfl (by decide) q10), ?_⟩
      generalize hev : Act.eval _ = ev
      have ec : ∀ c, ev (.const c) = c := fun c => by rw [← hev]; rfl
      have e4 : ev (.tmp 4) = .pointer (some ⟨w.heap.size, 0, none⟩) := by rw [← hev]; exact eval_old (by kernel_rfl) 119 rfl (by decide) rfl
      clear hev hd q10
      obtain ⟨cc0, cc1⟩ := HCC W hVW
      exact .inl ⟨_, W, by go_simp, rfl, Below.refl _ _⟩
    · obtain rfl := Option.some.inj hoo
      have q10 : uu 10 = .bool true := hd 10 (by kernel_rfl)
      refine .inl ⟨wanted_yes rfl (yielded_put (k := 74) (by kernel_rfl) (by kernel_rfl) 119 rfl (by decide) q10), ?_⟩
      generalize hev : Act.eval _ = ev
      have ec : ∀ c, ev (.const c) = c := fun c => by rw [← hev]; rfl
      have e11 : ev (.tmp 11) = .slice (some ⟨G, 0, none⟩) 8 8 := by rw [← hev]; exact eval_old (by kernel_rfl) 119 rfl (by decide) rfl
      clear hev hd q10
      exact .inl ⟨_, W, by go_simp, rfl, Below.refl _ _⟩
    · obtain rfl := Option.some.inj hoo
      have q10 : uu 10 = .bool true := hd 10 (by kernel_rfl)
      refine .inl ⟨wanted_yes rfl (yielded_put (k := 74) (by kernel_rfl) (by kernel_rfl) 119 rfl (by decide) q10), ?_⟩
      generalize hev : Act.eval _ = ev
      have ec : ∀ c, ev (.const c) = c := fun c => by rw [← hev]; rfl
      have e2 : ev (.tmp 2) = .int .i64 (m : Int) := by rw [← hev]; exact eval_old (by kernel_rfl) 119 rfl (by decide) rfl
      clear hev hd q10
      exact .inl ⟨_, W, by go_simp, rfl, Below.refl _ _⟩
    · obtain rfl := Option.some.inj hoo
      have q14 : uu 14 = .int .i64 (m : Int) := hd 14 (by kernel_rfl)
      have q10 : uu 10 = .bool true := hd 10 (by kernel_rfl)
      refine .inl ⟨wanted_yes rfl (yielded_put (k := 74) (by kernel_rfl) (by kernel_rfl) 119 rfl (by decide) q10), ?_⟩
      generalize hev : Act.eval _ = ev
      have ec : ∀ c, ev (.const c) = c := fun c => by rw [← hev]; rfl
      have e78 : ev (.tmp 78) = .int .i64 (m : Int) := by rw [← hev]; exact (eval_put (by kernel_rfl) 119 rfl (by decide)).trans q14
      clear hev hd q14 q10
      have hh := HM.out
      have hh2 := HM2.out
      exact .inl ⟨_, W, by go_simp, rfl, Below.refl _ _⟩
    · obtain rfl := Option.some.inj hoo
      have q12 : uu 12 = .agg #[.int .u64 (lo : Int), .int .u64 (hi : Int)] := hd 12 (by kernel_rfl)
      have q13 : uu 13 = .slice (some ⟨G, 0, none⟩) 8 8 := hd 13 (by kernel_rfl)
      have q15 : uu 15 = .int .i64 (m1 : Int) := hd 15 (by kernel_rfl)
      have q10 : uu 10 = .bool true := hd 10 (by kernel_rfl)
      refine .inl ⟨wanted_yes rfl (yielded_put (k := 74) (by kernel_rfl) (by kernel_rfl) 119 rfl (by decide) q10), ?_⟩
      generalize hev : Act.eval _ = ev
      have ec : ∀ c, ev (.const c) = c := fun c => by rw [← hev]; rfl
      have ef : ∀ f, ev (.func f) = .func (.func f) #[] #[] := fun f => by rw [← hev]; rfl
      have e76 : ev (.tmp 76) = .agg #[.int .u64 (lo : Int), .int .u64 (hi : Int)] := by rw [← hev]; exact (eval_put (by kernel_rfl) 119 rfl (by decide)).trans q12
      have e77 : ev (.tmp 77) = .slice (some ⟨G, 0, none⟩) 8 8 := by rw [← hev]; exact (eval_put (by kernel_rfl) 119 rfl (by decide)).trans q13
      have e79 : ev (.tmp 79) = .int .i64 (m1 : Int) := by rw [← hev]; exact (eval_put (by kernel_rfl) 119 rfl (by decide)).trans q15
      clear hev hd q12 q13 q15 q10
      exact .inr ⟨_, _, _, by go_simp, (HU W (rB.next hVW)).out, fun e w' he => ⟨_, he.1, rfl, he.2⟩⟩
    · obtain rfl := Option.some.inj hoo
      have q16 : uu 16 = .int .i64 (T0 : Int) := hd 16 (by kernel_rfl)
      have q10 : uu 10 = .bool true := hd 10 (by kernel_rfl)
      refine .inl ⟨wanted_yes rfl (yielded_put (k := 74) (by kernel_rfl) (by kernel_rfl) 119 rfl (by decide) q10), ?_⟩
      generalize hev : Act.eval _ = ev
      have ec : ∀ c, ev (.const c) = c := fun c => by rw [← hev]; rfl
      have e80 : ev (.tmp 80) = .int .i64 (T0 : Int) := by rw [← hev]; exact (eval_put (by kernel_rfl) 119 rfl (by decide)).trans q16
      clear hev hd q16 q10
      have hh := HT1.out
      have hh2 := HT2.out
      exact .inl ⟨_, W, by go_simp, rfl, Below.refl _ _⟩
    · obtain rfl := Option.some.inj hoo
      have q11 : uu 11 = .int .i64 (T : Int) := hd 11 (by kernel_rfl)
      have q17 : uu 17 = .int .i64 (T : Int) := hd 17 (by kernel_rfl)
      have q10 : uu 10 = .bool true := hd 10 (by kernel_rfl)
      refine .inl ⟨wanted_yes rfl (yielded_put (k := 74) (by kernel_rfl) (by kernel_rfl) 119 rfl (by decide) q10), ?_⟩
      generalize hev : Act.eval _ = ev
      have ec : ∀ c, ev (.const c) = c := fun c => by rw [← hev]; rfl
      have e75 : ev (.tmp 75) = .int .i64 (T : Int) := by rw [← hev]; exact (eval_put (by kernel_rfl) 119 rfl (by decide)).trans q11
      have e81 : ev (.tmp 81) = .int .i64 (T : Int) := by rw [← hev]; exact (eval_put (by kernel_rfl) 119 rfl (by decide)).trans q17
      clear hev hd q11 q17 q10
      exact .inl ⟨_, W, by go_simp, rfl, Below.refl _ _⟩
    · obtain rfl := Option.some.inj hoo
      have q10 : uu 10 = .bool true := hd 10 (by kernel_rfl)
      have q18 : uu 18 = .bool true := hd 18 (by kernel_rfl)
      refine .inl ⟨wanted_none rfl, ?_⟩
      generalize hev : Act.eval _ = ev
      have ec : ∀ c, ev (.const c) = c := fun c => by rw [← hev]; rfl
      have e74 : ev (.tmp 74) = .bool true := by rw [← hev]; exact (eval_put (by kernel_rfl) 119 rfl (by decide)).trans q10
      have e82 : ev (.tmp 82) = .bool true := by rw [← hev]; exact (eval_put (by kernel_rfl) 119 rfl (by decide)).trans q18
      clear hev hd q10 q18
      exact .inl ⟨_, W, by go_simp, rfl, Below.refl _ _⟩
    · obtain rfl := Option.some.inj hoo
      have q19 : uu 19 = .bool true := hd 19 (by kernel_rfl)
      refine .inl ⟨wanted_none rfl, ?_⟩
      generalize hev : Act.eval _ = ev
      have ec : ∀ c, ev (.const c) = c := fun c => by rw [← hev]; rfl
      have e83 : ev (.tmp 83) = .bool true := by rw [← hev]; exact (eval_put (by kernel_rfl) 119 rfl (by decide)).trans q19
      clear hev hd q19
      exact .inl ⟨_, W, by go_simp, rfl, Below.refl _ _⟩
    · obtain rfl := Option.some.inj hoo
      have q20 : uu 20 = .bool true := hd 20 (by kernel_rfl)
      refine .inl ⟨wanted_yes rfl (yielded_put (k := 84) (by kernel_rfl) (by kernel_rfl) 119 rfl (by decide) q20), ?_⟩
      generalize hev : Act.eval _ = ev
      have ec : ∀ c, ev (.const c) = c := fun c => by rw [← hev]; rfl
      have e2 : ev (.tmp 2) = .int .i64 (m : Int) := by rw [← hev]; exact eval_old (by kernel_rfl) 119 rfl (by decide) rfl
      clear hev hd q20
      exact .inl ⟨_, W, by go_simp, rfl, Below.refl _ _⟩
    · obtain rfl := Option.some.inj hoo
      have q21 : uu 21 = .int .i64 (m : Int) := hd 21 (by kernel_rfl)
      have q20 : uu 20 = .bool true := hd 20 (by kernel_rfl)
      refine .inl ⟨wanted_yes rfl (yielded_put (k := 84) (by kernel_rfl) (by kernel_rfl) 119 rfl (by decide) q20), ?_⟩
      generalize hev : Act.eval _ = ev
      have ec : ∀ c, ev (.const c) = c := fun c => by rw [← hev]; rfl
      have e85 : ev (.tmp 85) = .int .i64 (m : Int) := by rw [← hev]; exact (eval_put (by kernel_rfl) 119 rfl (by decide)).trans q21
      clear hev hd q21 q20
      have hh := HM3.out
      have hh2 := HM4.out
      exact .inl ⟨_, W, by go_simp, rfl, Below.refl _ _⟩
    · obtain rfl := Option.some.inj hoo
      have q22 : uu 22 = .bool true := hd 22 (by kernel_rfl)
      have q20 : uu 20 = .bool true := hd 20 (by kernel_rfl)
      refine .inl ⟨wanted_yes rfl (yielded_put (k := 84) (by kernel_rfl) (by kernel_rfl) 119 rfl (by decide) q20), ?_⟩
      generalize hev : Act.eval _ = ev
      have ec : ∀ c, ev (.const c) = c := fun c => by rw [← hev]; rfl
      have e86 : ev (.tmp 86) = .bool true := by rw [← hev]; exact (eval_put (by kernel_rfl) 119 rfl (by decide)).trans q22
      clear hev hd q22 q20
      exact .inl ⟨_, W, by go_simp, rfl, Below.refl _ _⟩
    · obtain rfl := Option.some.inj hoo
      have q23 : uu 23 = .bool true := hd 23 (by kernel_rfl)
      exact .inr ⟨wanted_no rfl (yielded_put (k := 87) (by kernel_rfl) (by kernel_rfl) 119 rfl (by decide) q23), rfl⟩
    · obtain rfl := Option.some.inj hoo
      have q23 : uu 23 = .bool true := hd 23 (by kernel_rfl)
      exact .inr ⟨wanted_no rfl (yielded_put (k := 87) (by kernel_rfl) (by kernel_rfl) 119 rfl (by decide) q23), rfl⟩
    · obtain rfl := Option.some.inj hoo
      have q23 : uu 23 = .bool true := hd 23 (by kernel_rfl)
      have q20 : uu 20 = .bool true := hd 20 (by kernel_rfl)
      refine .inl ⟨wanted_yes rfl (yielded_put (k := 84) (by kernel_rfl) (by kernel_rfl) 119 rfl (by decide) q20), ?_⟩
      generalize hev : Act.eval _ = ev
      have ec : ∀ c, ev (.const c) = c := fun c => by rw [← hev]; rfl
      have e87 : ev (.tmp 87) = .bool true := by rw [← hev]; exact (eval_put (by kernel_rfl) 119 rfl (by decide)).trans q23
      clear hev hd q23 q20
      exact .inl ⟨_, W, by go_simp, rfl, Below.refl _ _⟩
    · obtain rfl := Option.some.inj hoo
      have q20 : uu 20 = .bool true := hd 20 (by kernel_rfl)
      have q26 : uu 26 = .bool true := hd 26 (by kernel_rfl)
      refine .inl ⟨wanted_none rfl, ?_⟩
      generalize hev : Act.eval _ = ev
      have ec : ∀ c, ev (.const c) = c := fun c => by rw [← hev]; rfl
      have e84 : ev (.tmp 84) = .bool true := by rw [← hev]; exact (eval_put (by kernel_rfl) 119 rfl (by decide)).trans q20
      have e90 : ev (.tmp 90) = .bool true := by rw [← hev]; exact (eval_put (by kernel_rfl) 119 rfl (by decide)).trans q26
      clear hev hd q20 q26
      exact .inl ⟨_, W, by go_simp, rfl, Below.refl _ _⟩
    · obtain rfl := Option.some.inj hoo
      have q27 : uu 27 = .bool true := hd 27 (by kernel_rfl)
      refine .inl ⟨wanted_none rfl, ?_⟩
      generalize hev : Act.eval _ = ev
      have ec : ∀ c, ev (.const c) = c := fun c => by rw [← hev]; rfl
      have e91 : ev (.tmp 91) = .bool true := by rw [← hev]; exact (eval_put (by kernel_rfl) 119 rfl (by decide)).trans q27
      clear hev hd q27
      exact .inl ⟨_, W, by go_simp, rfl, Below.refl _ _⟩
    · obtain rfl := Option.some.inj hoo
      have q28 : uu 28 = .bool true := hd 28 (by kernel_rfl)
      refine .inl ⟨wanted_yes rfl (yielded_put (k := 92) (by kernel_rfl) (by kernel_rfl) 119 rfl (by decide) q28), ?_⟩
      generalize hev : Act.eval _ = ev
      have ec : ∀ c, ev (.const c) = c := fun c => by rw [← hev]; rfl
      have e4 : ev (.tmp 4) = .pointer (some ⟨w.heap.size, 0, none⟩) := by rw [← hev]; exact eval_old (by kernel_rfl) 119 rfl (by decide) rfl
      clear hev hd q28
      obtain ⟨cc0, cc1⟩ := HCC W hVW
      exact .inl ⟨_, W, by go_simp, rfl, Below.refl _ _⟩
    · obtain rfl := Option.some.inj hoo
      have q28 : uu 28 = .bool true := hd 28 (by kernel_rfl)
      refine .inl ⟨wanted_yes rfl (yielded_put (k := 92) (by kernel_rfl) (by kernel_rfl) 119 rfl (by decide) q28), ?_⟩
      generalize hev : Act.eval _ = ev
      have ec : ∀ c, ev (.const c) = c := fun c => by rw [← hev]; rfl
      have e1 : ev (.tmp 1) = .int .i64 id := by rw [← hev]; exact eval_old (by kernel_rfl) 119 rfl (by decide) rfl
      clear hev hd q28
      exact .inl ⟨_, W, by go_simp, rfl, Below.refl _ _⟩
    · obtain rfl := Option.some.inj hoo
      have q28 : uu 28 = .bool true := hd 28 (by kernel_rfl)
      refine .inl ⟨wanted_yes rfl (yielded_put (k := 92) (by kernel_rfl) (by kernel_rfl) 119 rfl (by decide) q28), ?_⟩
      generalize hev : Act.eval _ = ev
      have ec : ∀ c, ev (.const c) = c := fun c => by rw [← hev]; rfl
      have e2 : ev (.tmp 2) = .int .i64 (m : Int) := by rw [← hev]; exact eval_old (by kernel_rfl) 119 rfl (by decide) rfl
      clear hev hd q28
      exact .inl ⟨_, W, by go_simp, rfl, Below.refl _ _⟩
    · obtain rfl := Option.some.inj hoo
      have q29 : uu 29 = .agg #[.int .u64 (lo : Int), .int .u64 (hi : Int)] := hd 29 (by kernel_rfl)
      have q30 : uu 30 = .int .i64 id := hd 30 (by kernel_rfl)
      have q31 : uu 31 = .int .i64 (m : Int) := hd 31 (by kernel_rfl)
      have q28 : uu 28 = .bool true := hd 28 (by kernel_rfl)
      refine .inl ⟨wanted_yes rfl (yielded_put (k := 92) (by kernel_rfl) (by kernel_rfl) 119 rfl (by decide) q28), ?_⟩
      generalize hev : Act.eval _ = ev
      have ec : ∀ c, ev (.const c) = c := fun c => by rw [← hev]; rfl
      have ef : ∀ f, ev (.func f) = .func (.func f) #[] #[] := fun f => by rw [← hev]; rfl
      have e93 : ev (.tmp 93) = .agg #[.int .u64 (lo : Int), .int .u64 (hi : Int)] := by rw [← hev]; exact (eval_put (by kernel_rfl) 119 rfl (by decide)).trans q29
      have e94 : ev (.tmp 94) = .int .i64 id := by rw [← hev]; exact (eval_put (by kernel_rfl) 119 rfl (by decide)).trans q30
      have e95 : ev (.tmp 95) = .int .i64 (m : Int) := by rw [← hev]; exact (eval_put (by kernel_rfl) 119 rfl (by decide)).trans q31
      clear hev hd q29 q30 q31 q28
      exact .inr ⟨_, _, _, by go_simp, (HR1 W).out, fun e w' he => by
        obtain ⟨L, A, c, rfl, HL, hr, hb⟩ := he
        exact ⟨_, rfl, ⟨L, A, c, rfl, HL, hr⟩, hb⟩⟩
    · obtain rfl := Option.some.inj hoo
      have q28 : uu 28 = .bool true := hd 28 (by kernel_rfl)
      refine .inl ⟨wanted_yes rfl (yielded_put (k := 92) (by kernel_rfl) (by kernel_rfl) 119 rfl (by decide) q28), ?_⟩
      generalize hev : Act.eval _ = ev
      have ec : ∀ c, ev (.const c) = c := fun c => by rw [← hev]; rfl
      have e4 : ev (.tmp 4) = .pointer (some ⟨w.heap.size, 0, none⟩) := by rw [← hev]; exact eval_old (by kernel_rfl) 119 rfl (by decide) rfl
      clear hev hd q28
      obtain ⟨cc0, cc1⟩ := HCC W hVW
      exact .inl ⟨_, W, by go_simp, rfl, Below.refl _ _⟩
    · obtain rfl := Option.some.inj hoo
      have q28 : uu 28 = .bool true := hd 28 (by kernel_rfl)
      refine .inl ⟨wanted_yes rfl (yielded_put (k := 92) (by kernel_rfl) (by kernel_rfl) 119 rfl (by decide) q28), ?_⟩
      generalize hev : Act.eval _ = ev
      have ec : ∀ c, ev (.const c) = c := fun c => by rw [← hev]; rfl
      have e1 : ev (.tmp 1) = .int .i64 id := by rw [← hev]; exact eval_old (by kernel_rfl) 119 rfl (by decide) rfl
      clear hev hd q28
      exact .inl ⟨_, W, by go_simp, rfl, Below.refl _ _⟩
    · obtain rfl := Option.some.inj hoo
      have q28 : uu 28 = .bool true := hd 28 (by kernel_rfl)
      refine .inl ⟨wanted_yes rfl (yielded_put (k := 92) (by kernel_rfl) (by kernel_rfl) 119 rfl (by decide) q28), ?_⟩
      generalize hev : Act.eval _ = ev
      have ec : ∀ c, ev (.const c) = c := fun c => by rw [← hev]; rfl
      have e2 : ev (.tmp 2) = .int .i64 (m : Int) := by rw [← hev]; exact eval_old (by kernel_rfl) 119 rfl (by decide) rfl
      clear hev hd q28
      exact .inl ⟨_, W, by go_simp, rfl, Below.refl _ _⟩
    · obtain rfl := Option.some.inj hoo
      have q33 : uu 33 = .agg #[.int .u64 (lo : Int), .int .u64 (hi : Int)] := hd 33 (by kernel_rfl)
      have q34 : uu 34 = .int .i64 id := hd 34 (by kernel_rfl)
      have q35 : uu 35 = .int .i64 (m : Int) := hd 35 (by kernel_rfl)
      have q28 : uu 28 = .bool true := hd 28 (by kernel_rfl)
      refine .inl ⟨wanted_yes rfl (yielded_put (k := 92) (by kernel_rfl) (by kernel_rfl) 119 rfl (by decide) q28), ?_⟩
      generalize hev : Act.eval _ = ev
      have ec : ∀ c, ev (.const c) = c := fun c => by rw [← hev]; rfl
      have ef : ∀ f, ev (.func f) = .func (.func f) #[] #[] := fun f => by rw [← hev]; rfl
      have e97 : ev (.tmp 97) = .agg #[.int .u64 (lo : Int), .int .u64 (hi : Int)] := by rw [← hev]; exact (eval_put (by kernel_rfl) 119 rfl (by decide)).trans q33
      have e98 : ev (.tmp 98) = .int .i64 id := by rw [← hev]; exact (eval_put (by kernel_rfl) 119 rfl (by decide)).trans q34
      have e99 : ev (.tmp 99) = .int .i64 (m : Int) := by rw [← hev]; exact (eval_put (by kernel_rfl) 119 rfl (by decide)).trans q35
      clear hev hd q33 q34 q35 q28
      exact .inr ⟨_, _, _, by go_simp, (HR2 W).out, fun e w' he => by
        obtain ⟨L, A, c, rfl, HL, hr, hb⟩ := he
        exact ⟨_, rfl, ⟨L, A, c, rfl, HL, hr⟩, hb⟩⟩
    · obtain rfl := Option.some.inj hoo
      obtain ⟨L32, A32, c32, q32, HL32, r32⟩ := hd 32 (by kernel_rfl)
      obtain ⟨L36, A36, c36, q36, HL36, r36⟩ := hd 36 (by kernel_rfl)
      have q28 : uu 28 = .bool true := hd 28 (by kernel_rfl)
      refine .inl ⟨wanted_yes rfl (yielded_put (k := 92) (by kernel_rfl) (by kernel_rfl) 119 rfl (by decide) q28), ?_⟩
      generalize hev : Act.eval _ = ev
      have ec : ∀ c, ev (.const c) = c := fun c => by rw [← hev]; rfl
      have ef : ∀ f, ev (.func f) = .func (.func f) #[] #[] := fun f => by rw [← hev]; rfl
      have e96 : ev (.tmp 96) = .slice A32 L32.length c32 := by rw [← hev]; exact (eval_put (by kernel_rfl) 119 rfl (by decide)).trans q32
      have e100 : ev (.tmp 100) = .slice A36 L36.length c36 := by rw [← hev]; exact (eval_put (by kernel_rfl) 119 rfl (by decide)).trans q36
      clear hev hd q32 q36 q28
      exact .inr ⟨_, _, _, by go_simp, isame_eq A32 A36 c32 c36 L32 L36 W _ r32 r36 (by rw [HL32.out, HL36.out]), fun e w' he => ⟨_, he.1, rfl, he.2.bel⟩⟩
    · obtain rfl := Option.some.inj hoo
      have q28 : uu 28 = .bool true := hd 28 (by kernel_rfl)
      have q37 : uu 37 = .bool true := hd 37 (by kernel_rfl)
      refine .inl ⟨wanted_none rfl, ?_⟩
      generalize hev : Act.eval _ = ev
      have ec : ∀ c, ev (.const c) = c := fun c => by rw [← hev]; rfl
      have e92 : ev (.tmp 92) = .bool true := by rw [← hev]; exact (eval_put (by kernel_rfl) 119 rfl (by decide)).trans q28
      have e101 : ev (.tmp 101) = .bool true := by rw [← hev]; exact (eval_put (by kernel_rfl) 119 rfl (by decide)).trans q37
      clear hev hd q28 q37
      exact .inl ⟨_, W, by go_simp, rfl, Below.refl _ _⟩
    · obtain rfl := Option.some.inj hoo
      have q38 : uu 38 = .bool true := hd 38 (by kernel_rfl)
      refine .inl ⟨wanted_none rfl, ?_⟩
      generalize hev : Act.eval _ = ev
      have ec : ∀ c, ev (.const c) = c := fun c => by rw [← hev]; rfl
      have e102 : ev (.tmp 102) = .bool true := by rw [← hev]; exact (eval_put (by kernel_rfl) 119 rfl (by decide)).trans q38
      clear hev hd q38
      exact .inl ⟨_, W, by go_simp, rfl, Below.refl _ _⟩
    · obtain rfl := Option.some.inj hoo
      have q39 : uu 39 = .bool true := hd 39 (by kernel_rfl)
      refine .inl ⟨wanted_yes rfl (yielded_put (k := 103) (by kernel_rfl) (by kernel_rfl) 119 rfl (by decide) q39), ?_⟩
      generalize hev : Act.eval _ = ev
      have ec : ∀ c, ev (.const c) = c := fun c => by rw [← hev]; rfl
      have e4 : ev (.tmp 4) = .pointer (some ⟨w.heap.size, 0, none⟩) := by rw [← hev]; exact eval_old (by kernel_rfl) 119 rfl (by decide) rfl
      clear hev hd q39
      obtain ⟨cc0, cc1⟩ := HCC W hVW
      exact .inl ⟨_, W, by go_simp, rfl, Below.refl _ _⟩
    · obtain rfl := Option.some.inj hoo
      have q39 : uu 39 = .bool true := hd 39 (by kernel_rfl)
      refine .inl ⟨wanted_yes rfl (yielded_put (k := 103) (by kernel_rfl) (by kernel_rfl) 119 rfl (by decide) q39), ?_⟩
      generalize hev : Act.eval _ = ev
      have ec : ∀ c, ev (.const c) = c := fun c => by rw [← hev]; rfl
      have e1 : ev (.tmp 1) = .int .i64 id := by rw [← hev]; exact eval_old (by kernel_rfl) 119 rfl (by decide) rfl
      clear hev hd q39
      exact .inl ⟨_, W, by go_simp, rfl, Below.refl _ _⟩
    · obtain rfl := Option.some.inj hoo
      have q39 : uu 39 = .bool true := hd 39 (by kernel_rfl)
      refine .inl ⟨wanted_yes rfl (yielded_put (k := 103) (by kernel_rfl) (by kernel_rfl) 119 rfl (by decide) q39), ?_⟩
      generalize hev : Act.eval _ = ev
      have ec : ∀ c, ev (.const c) = c := fun c => by rw [← hev]; rfl
      have e2 : ev (.tmp 2) = .int .i64 (m : Int) := by rw [← hev]; exact eval_old (by kernel_rfl) 119 rfl (by decide) rfl
      clear hev hd q39
      exact .inl ⟨_, W, by go_simp, rfl, Below.refl _ _⟩
    · obtain rfl := Option.some.inj hoo
      have q39 : uu 39 = .bool true := hd 39 (by kernel_rfl)
      refine .inl ⟨wanted_yes rfl (yielded_put (k := 103) (by kernel_rfl) (by kernel_rfl) 119 rfl (by decide) q39), ?_⟩
      generalize hev : Act.eval _ = ev
      have ec : ∀ c, ev (.const c) = c := fun c => by rw [← hev]; rfl
      have e3 : ev (.tmp 3) = .int .i64 j := by rw [← hev]; exact eval_old (by kernel_rfl) 119 rfl (by decide) rfl
      clear hev hd q39
      exact .inl ⟨_, W, by go_simp, rfl, Below.refl _ _⟩
    · obtain rfl := Option.some.inj hoo
      have q40 : uu 40 = .agg #[.int .u64 (lo : Int), .int .u64 (hi : Int)] := hd 40 (by kernel_rfl)
      have q41 : uu 41 = .int .i64 id := hd 41 (by kernel_rfl)
      have q42 : uu 42 = .int .i64 (m : Int) := hd 42 (by kernel_rfl)
      have q43 : uu 43 = .int .i64 j := hd 43 (by kernel_rfl)
      have q39 : uu 39 = .bool true := hd 39 (by kernel_rfl)
      refine .inl ⟨wanted_yes rfl (yielded_put (k := 103) (by kernel_rfl) (by kernel_rfl) 119 rfl (by decide) q39), ?_⟩
      generalize hev : Act.eval _ = ev
      have ec : ∀ c, ev (.const c) = c := fun c => by rw [← hev]; rfl
      have ef : ∀ f, ev (.func f) = .func (.func f) #[] #[] := fun f => by rw [← hev]; rfl
      have e104 : ev (.tmp 104) = .agg #[.int .u64 (lo : Int), .int .u64 (hi : Int)] := by rw [← hev]; exact (eval_put (by kernel_rfl) 119 rfl (by decide)).trans q40
      have e105 : ev (.tmp 105) = .int .i64 id := by rw [← hev]; exact (eval_put (by kernel_rfl) 119 rfl (by decide)).trans q41
      have e106 : ev (.tmp 106) = .int .i64 (m : Int) := by rw [← hev]; exact (eval_put (by kernel_rfl) 119 rfl (by decide)).trans q42
      have e107 : ev (.tmp 107) = .int .i64 j := by rw [← hev]; exact (eval_put (by kernel_rfl) 119 rfl (by decide)).trans q43
      clear hev hd q40 q41 q42 q43 q39
      exact .inr ⟨_, _, _, by go_simp, (HPA W).out, fun e w' he => ⟨_, he.1, rfl, he.2⟩⟩
    · obtain rfl := Option.some.inj hoo
      have q39 : uu 39 = .bool true := hd 39 (by kernel_rfl)
      refine .inl ⟨wanted_yes rfl (yielded_put (k := 103) (by kernel_rfl) (by kernel_rfl) 119 rfl (by decide) q39), ?_⟩
      generalize hev : Act.eval _ = ev
      have ec : ∀ c, ev (.const c) = c := fun c => by rw [← hev]; rfl
      have e4 : ev (.tmp 4) = .pointer (some ⟨w.heap.size, 0, none⟩) := by rw [← hev]; exact eval_old (by kernel_rfl) 119 rfl (by decide) rfl
      clear hev hd q39
      obtain ⟨cc0, cc1⟩ := HCC W hVW
      exact .inl ⟨_, W, by go_simp, rfl, Below.refl _ _⟩
    · obtain rfl := Option.some.inj hoo
      have q39 : uu 39 = .bool true := hd 39 (by kernel_rfl)
      refine .inl ⟨wanted_yes rfl (yielded_put (k := 103) (by kernel_rfl) (by kernel_rfl) 119 rfl (by decide) q39), ?_⟩
      generalize hev : Act.eval _ = ev
      have ec : ∀ c, ev (.const c) = c := fun c => by rw [← hev]; rfl
      have e1 : ev (.tmp 1) = .int .i64 id := by rw [← hev]; exact eval_old (by kernel_rfl) 119 rfl (by decide) rfl
      clear hev hd q39
      exact .inl ⟨_, W, by go_simp, rfl, Below.refl _ _⟩
    · obtain rfl := Option.some.inj hoo
      have q39 : uu 39 = .bool true := hd 39 (by kernel_rfl)
      refine .inl ⟨wanted_yes rfl (yielded_put (k := 103) (by kernel_rfl) (by kernel_rfl) 119 rfl (by decide) q39), ?_⟩
      generalize hev : Act.eval _ = ev
      have ec : ∀ c, ev (.const c) = c := fun c => by rw [← hev]; rfl
      have e2 : ev (.tmp 2) = .int .i64 (m : Int) := by rw [← hev]; exact eval_old (by kernel_rfl) 119 rfl (by decide) rfl
      clear hev hd q39
      exact .inl ⟨_, W, by go_simp, rfl, Below.refl _ _⟩
    · obtain rfl := Option.some.inj hoo
      have q39 : uu 39 = .bool true := hd 39 (by kernel_rfl)
      refine .inl ⟨wanted_yes rfl (yielded_put (k := 103) (by kernel_rfl) (by kernel_rfl) 119 rfl (by decide) q39), ?_⟩
      generalize hev : Act.eval _ = ev
      have ec : ∀ c, ev (.const c) = c := fun c => by rw [← hev]; rfl
      have e3 : ev (.tmp 3) = .int .i64 j := by rw [← hev]; exact eval_old (by kernel_rfl) 119 rfl (by decide) rfl
      clear hev hd q39
      exact .inl ⟨_, W, by go_simp, rfl, Below.refl _ _⟩
    · obtain rfl := Option.some.inj hoo
      have q45 : uu 45 = .agg #[.int .u64 (lo : Int), .int .u64 (hi : Int)] := hd 45 (by kernel_rfl)
      have q46 : uu 46 = .int .i64 id := hd 46 (by kernel_rfl)
      have q47 : uu 47 = .int .i64 (m : Int) := hd 47 (by kernel_rfl)
      have q48 : uu 48 = .int .i64 j := hd 48 (by kernel_rfl)
      have q39 : uu 39 = .bool true := hd 39 (by kernel_rfl)
      refine .inl ⟨wanted_yes rfl (yielded_put (k := 103) (by kernel_rfl) (by kernel_rfl) 119 rfl (by decide) q39), ?_⟩
      generalize hev : Act.eval _ = ev
      have ec : ∀ c, ev (.const c) = c := fun c => by rw [← hev]; rfl
      have ef : ∀ f, ev (.func f) = .func (.func f) #[] #[] := fun f => by rw [← hev]; rfl
      have e109 : ev (.tmp 109) = .agg #[.int .u64 (lo : Int), .int .u64 (hi : Int)] := by rw [← hev]; exact (eval_put (by kernel_rfl) 119 rfl (by decide)).trans q45
      have e110 : ev (.tmp 110) = .int .i64 id := by rw [← hev]; exact (eval_put (by kernel_rfl) 119 rfl (by decide)).trans q46
      have e111 : ev (.tmp 111) = .int .i64 (m : Int) := by rw [← hev]; exact (eval_put (by kernel_rfl) 119 rfl (by decide)).trans q47
      have e112 : ev (.tmp 112) = .int .i64 j := by rw [← hev]; exact (eval_put (by kernel_rfl) 119 rfl (by decide)).trans q48
      clear hev hd q45 q46 q47 q48 q39
      exact .inr ⟨_, _, _, by go_simp, (HRA W).out, fun e w' he => ⟨_, he.1, rfl, he.2⟩⟩
    · obtain rfl := Option.some.inj hoo
      have q44 : uu 44 = .int .i64 x := hd 44 (by kernel_rfl)
      have q49 : uu 49 = .int .i64 x := hd 49 (by kernel_rfl)
      have q39 : uu 39 = .bool true := hd 39 (by kernel_rfl)
      refine .inl ⟨wanted_yes rfl (yielded_put (k := 103) (by kernel_rfl) (by kernel_rfl) 119 rfl (by decide) q39), ?_⟩
      generalize hev : Act.eval _ = ev
      have ec : ∀ c, ev (.const c) = c := fun c => by rw [← hev]; rfl
      have e108 : ev (.tmp 108) = .int .i64 x := by rw [← hev]; exact (eval_put (by kernel_rfl) 119 rfl (by decide)).trans q44
      have e113 : ev (.tmp 113) = .int .i64 x := by rw [← hev]; exact (eval_put (by kernel_rfl) 119 rfl (by decide)).trans q49
      clear hev hd q44 q49 q39
      exact .inl ⟨_, W, by go_simp, rfl, Below.refl _ _⟩
    · obtain rfl := Option.some.inj hoo
      have q39 : uu 39 = .bool true := hd 39 (by kernel_rfl)
      have q50 : uu 50 = .bool true := hd 50 (by kernel_rfl)
      refine .inl ⟨wanted_none rfl, ?_⟩
      generalize hev : Act.eval _ = ev
      have ec : ∀ c, ev (.const c) = c := fun c => by rw [← hev]; rfl
      have e103 : ev (.tmp 103) = .bool true := by rw [← hev]; exact (eval_put (by kernel_rfl) 119 rfl (by decide)).trans q39
      have e114 : ev (.tmp 114) = .bool true := by rw [← hev]; exact (eval_put (by kernel_rfl) 119 rfl (by decide)).trans q50
      clear hev hd q39 q50
      exact .inl ⟨_, W, by go_simp, rfl, Below.refl _ _⟩
    · obtain rfl := Option.some.inj hoo
      have q51 : uu 51 = .bool true := hd 51 (by kernel_rfl)
      refine .inl ⟨wanted_none rfl, ?_⟩
      generalize hev : Act.eval _ = ev
      have ec : ∀ c, ev (.const c) = c := fun c => by rw [← hev]; rfl
      have e115 : ev (.tmp 115) = .bool true := by rw [← hev]; exact (eval_put (by kernel_rfl) 119 rfl (by decide)).trans q51
      clear hev hd q51
      exact .inl ⟨_, W, by go_simp, rfl, Below.refl _ _⟩
    · obtain rfl := Option.some.inj hoo
      have q52 : uu 52 = .bool true := hd 52 (by kernel_rfl)
      refine .inl ⟨wanted_yes rfl (yielded_put (k := 116) (by kernel_rfl) (by kernel_rfl) 119 rfl (by decide) q52), ?_⟩
      generalize hev : Act.eval _ = ev
      have ec : ∀ c, ev (.const c) = c := fun c => by rw [← hev]; rfl
      have ef : ∀ f, ev (.func f) = .func (.func f) #[] #[] := fun f => by rw [← hev]; rfl
      clear hev hd q52
      exact .inr ⟨_, _, _, by go_simp, lives18_any W, fun e w' he => ⟨_, he.1, rfl, he.2⟩⟩
    · obtain rfl := Option.some.inj hoo
      have q52 : uu 52 = .bool true := hd 52 (by kernel_rfl)
      have q53 : uu 53 = .bool true := hd 53 (by kernel_rfl)
      refine .inl ⟨wanted_none rfl, ?_⟩
      generalize hev : Act.eval _ = ev
      have ec : ∀ c, ev (.const c) = c := fun c => by rw [← hev]; rfl
      have e116 : ev (.tmp 116) = .bool true := by rw [← hev]; exact (eval_put (by kernel_rfl) 119 rfl (by decide)).trans q52
      have e117 : ev (.tmp 117) = .bool true := by rw [← hev]; exact (eval_put (by kernel_rfl) 119 rfl (by decide)).trans q53
      clear hev hd q52 q53
      exact .inl ⟨_, W, by go_simp, rfl, Below.refl _ _⟩
    · obtain rfl := Option.some.inj hoo
      have q54 : uu 54 = .bool true := hd 54 (by kernel_rfl)
      refine .inl ⟨wanted_none rfl, ?_⟩
      generalize hev : Act.eval _ = ev
      have ec : ∀ c, ev (.const c) = c := fun c => by rw [← hev]; rfl
      have e118 : ev (.tmp 118) = .bool true := by rw [← hev]; exact (eval_put (by kernel_rfl) 119 rfl (by decide)).trans q54
      clear hev hd q54
      exact .inl ⟨_, W, by go_simp, rfl, Below.refl _ _⟩
    · simp at hoo
  · intro uu W hVW hall
    have q55 : uu 55 = .bool true := hall 55 (by decide)
    replace hB := hB.trans (hVW.mono hB.size)
    clear hall HCC hVW
    simp only [putAll, Act.put, Nat.reduceAdd, q55]
    simp only [List.setIfInBounds_toArray, List.set_cons_succ, List.set_cons_zero]
    go_wp2_with fail
    go_ret
    exact ⟨rfl, hB⟩
theorem PermRows_walk (a0_0 a0_1 id m j : Int) (w : World) (w0 : (Lit.int .u64 a0_0).wf = true) (w1 : (Lit.int .u64 a0_1).wf = true) (_w2 : (Lit.int .i64 id).wf = true) (_w3 : (Lit.int .i64 m).wf = true) (_w4 : (Lit.int .i64 j).wf = true) :
    Calls Try.prog 7 #[.agg #[.int .u64 a0_0, .int .u64 a0_1], .int .i64 id, .int .i64 m, .int .i64 j] w fun e w' => e = .returned (.bool true) ∧ Below w.heap.size w w' := by
  obtain ⟨lo, rfl, h1⟩ := u64_nat w0
  obtain ⟨hi, rfl, h2⟩ := u64_nat w1
  cases hp : pI m
  · exact permrows_no lo hi id m j hp w
  · have hb : 2 ≤ m ∧ m ≤ 251 := by
      simp only [pI, Bool.and_eq_true, decide_eq_true_eq] at hp
      exact hp.1
    obtain ⟨n, rfl⟩ : ∃ n : Nat, m = (n : Int) := ⟨m.toNat, by omega⟩
    have hn2 : 2 ≤ n := by omega
    have hn : n ≤ 251 := by omega
    obtain ⟨iw, hiw⟩ : ∃ iw : UInt32, (iw.toNat : Int) = id % 4294967296 := ⟨UInt32.ofNat (id % 4294967296).toNat, by simp; omega⟩
    have hid : IntKind.u32.wrap id = (iw.toNat : Int) := by rw [IntKind.wrap_u32, hiw]
    have hil := iw.toNat_lt
    have h4 : ∀ _ : Unit, (id / 16777216 % 256 = ((UInt8.ofNat (iw.toNat / 16777216)).toNat : Int)) ∧ (id / 65536 % 256 = ((UInt8.ofNat (iw.toNat / 65536 % 256)).toNat : Int)) ∧ (id / 256 % 256 = ((UInt8.ofNat (iw.toNat / 256 % 256)).toNat : Int)) ∧ (id % 256 = ((UInt8.ofNat (iw.toNat % 256)).toNat : Int)) := by
      intro _
      simp only [UInt8.toNat_ofNat']
      refine ⟨?_, ?_, ?_, ?_⟩ <;> omega
    obtain ⟨x, HPA, HRA⟩ : ∃ x : Int, (∀ W, Hid (Calls Try.prog 30 #[.agg #[.int .u64 (lo : Int), .int .u64 (hi : Int)], .int .i64 id, .int .i64 (n : Int), .int .i64 j] W fun e w' => e = .returned (.int .i64 x) ∧ Below W.heap.size W w')) ∧ (∀ W, Hid (Calls Try.prog 32 #[.agg #[.int .u64 (lo : Int), .int .u64 (hi : Int)], .int .i64 id, .int .i64 (n : Int), .int .i64 j] W fun e w' => e = .returned (.int .i64 x) ∧ Below W.heap.size W w')) := by
      by_cases hj : j < 0 ∨ (n : Int) ≤ j
      · exact ⟨0, fun W => pat_out lo hi h1 h2 id iw hid n _ _ hn2 hn hp rfl rfl j hj W, fun W => rat_out lo hi id n j hj hp W⟩
      · obtain ⟨k, rfl⟩ : ∃ k : Nat, j = (k : Int) := ⟨j.toNat, by omega⟩
        exact ⟨_, fun W => pat_ok lo hi h1 h2 id iw hid n _ _ hn2 hn hp rfl rfl k (by omega) W, fun W => rat_ok lo hi h1 h2 id iw hid n _ _ hn2 hn hp rfl rfl k (by omega) W⟩
    by_cases h22 : n = 2
    · exact permrows_two lo hi h1 h2 id iw hid n _ _ hn2 hn h22 hp rfl rfl _ _ _ _ rfl h4 j x HPA HRA w
    · exact permrows_any lo hi h1 h2 id iw hid n _ _ hn2 hn h22 hp rfl rfl _ _ _ _ rfl h4 j x HPA HRA w
end Go.Proofs.Ytggcomociojfoaa
