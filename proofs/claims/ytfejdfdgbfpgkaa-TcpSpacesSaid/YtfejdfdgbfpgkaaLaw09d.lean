/- The walk of the statement on flags and numbers. -/
import Derived.Test.YtfejdfdgbfpgkaaLaw09
import Derived.Test.YtfejdfdgbfpgkaaReg
namespace Go.Proofs.Ytfejdfdgbfpgkaa
open Go.RowKit

def allB (f g : UInt8) (j : Nat) : Bool := (List.range j).all fun i => !bitB g (2 ^ i) || bitB f (2 ^ i)
theorem allB_succ (f g : UInt8) (j : Nat) : allB f g (j + 1) = (allB f g j && (!bitB g (2 ^ j) || bitB f (2 ^ j))) := by
  simp [allB, List.range_succ]
theorem bitB_test (f : UInt8) (i : Nat) : bitB f (2 ^ i) = f.toNat.testBit i := by
  rw [bitB, Nat.testBit_eq_decide_div_mod_eq]
theorem allB_has (f g : UInt8) : hasB f g = allB f g 8 := by
  have hg := g.toNat_lt
  rw [Bool.eq_iff_iff]
  simp only [hasB, beq_iff_eq, allB, List.all_eq_true, List.mem_range, bitB_test]
  constructor
  · intro h i _
    have := congrArg (fun n => Nat.testBit n i) h
    simp only [Nat.testBit_and] at this
    cases hi : g.toNat.testBit i <;> cases hf : f.toNat.testBit i <;> simp_all
  · intro h
    apply Nat.eq_of_testBit_eq
    intro i
    rw [Nat.testBit_and]
    rcases Nat.lt_or_ge i 8 with hi | hi
    · have := h i hi
      cases hi : g.toNat.testBit i <;> cases hf : f.toNat.testBit i <;> simp_all
    · have h0 : g.toNat.testBit i = false := Nat.testBit_lt_two_pow (Nat.lt_of_lt_of_le (by simpa using hg) (Nat.pow_le_pow_right (by omega) hi))
      rw [h0, Bool.and_false]

set_option maxHeartbeats 8000000 in
theorem TcpSpaces_walk (y0 y1 y2 y3 y4 y5 y6 y7 : Int) (a8 : Option Addr) (len8 cap8 : Nat) (z8 : List Int) (a9 : Option Addr) (len9 cap9 : Nat) (z9 : List Int) (x1 : Int) (w : World) (v0 : (Lit.int .u16 y0).wf = true) (v1 : (Lit.int .u16 y1).wf = true) (v2 : (Lit.int .u32 y2).wf = true) (v3 : (Lit.int .u32 y3).wf = true) (v4 : (Lit.int .u8 y4).wf = true) (v5 : (Lit.int .u8 y5).wf = true) (v6 : (Lit.int .u16 y6).wf = true) (v7 : (Lit.int .u16 y7).wf = true) (w8 : InRow .u8 w a8 len8 cap8 z8) (w9 : InRow .u8 w a9 len9 cap9 z9) (w1 : (Lit.int .u8 x1).wf = true) :
    Calls Try.prog 9 #[.agg #[.int .u16 y0, .int .u16 y1, .int .u32 y2, .int .u32 y3, .int .u8 y4, .int .u8 y5, .int .u16 y6, .int .u16 y7, .slice a8 len8 cap8, .slice a9 len9 cap9], .int .u8 x1] w fun e w' => e = .returned (.bool true) ∧ Below w.heap.size w w' := by
  obtain ⟨a, rfl⟩ := u16_of v0
  obtain ⟨b, rfl⟩ := u16_of v1
  obtain ⟨q, rfl⟩ := u32_of v2
  obtain ⟨k, rfl⟩ := u32_of v3
  obtain ⟨r, rfl⟩ := u8_of v4
  obtain ⟨f, rfl⟩ := u8_of v5
  obtain ⟨z, rfl⟩ := u16_of v6
  obtain ⟨u, rfl⟩ := u16_of v7
  obtain ⟨g, rfl⟩ := u8_of w1
  obtain ⟨os, hol, -, hlc, hcc, hm⟩ := few_len w8 50
  obtain ⟨xs, hxl, -, hlc2, hcc2, hm2⟩ := few_len w9 200
  clear v0 v1 v2 v3 v4 v5 v6 v7 w8 w9 w1
  have HF := fun W => Lib.hid (tfew_any a b q k r f z u a8 a9 len8 cap8 len9 cap9 os.length xs.length W hlc hcc hlc2 hcc2 hm hm2)
  clear hlc hcc hm hlc2 hcc2 hm2
  have HSAME : ∀ W, Hid (Calls Try.prog 32 #[.agg #[.int .u16 (a.toNat : Int), .int .u16 (b.toNat : Int), .int .u32 (q.toNat : Int), .int .u32 (k.toNat : Int), .int .u8 0, .int .u8 (g.toNat : Int), .int .u16 65535, .int .u16 0, .slice none 0 0, .slice none 0 0], .agg #[.int .u16 (a.toNat : Int), .int .u16 (b.toNat : Int), .int .u32 (q.toNat : Int), .int .u32 (k.toNat : Int), .int .u8 0, .int .u8 (g.toNat : Int), .int .u16 65535, .int .u16 0, .slice none 0 0, .slice none 0 0]] W fun e w' => e = .returned (.bool true) ∧ Below W.heap.size W w') := by
    intro W
    obtain ⟨r0, er⟩ : ∃ a : UInt8, (a.toNat : Int) = 0 := ⟨0, rfl⟩
    obtain ⟨z0, ez⟩ : ∃ a : UInt16, (a.toNat : Int) = 65535 := ⟨65535, rfl⟩
    obtain ⟨u0, eu⟩ : ∃ a : UInt16, (a.toNat : Int) = 0 := ⟨0, rfl⟩
    obtain ⟨l0, hl0⟩ : ∃ l : List UInt8, l.length = 0 := ⟨[], rfl⟩
    have hn : Rd bv W W.heap.size none 0 l0 := by rw [List.eq_nil_of_length_eq_zero hl0]; exact Rd.nil0 _ _ _
    have h := tsame_yes a b q k r0 g z0 u0 none none none none 0 0 0 0 l0 l0 l0 l0 W hn hn hn hn rfl rfl
    simp only [er, ez, eu, hl0] at h
    exact h
  have HPL : ∀ W, Hid (Calls Try.prog 39 #[.int .u16 (a.toNat : Int), .int .u16 (b.toNat : Int), .int .u32 (q.toNat : Int), .int .u32 (k.toNat : Int), .int .u8 (g.toNat : Int)] W fun e w' => e = .returned (.agg #[.int .u16 (a.toNat : Int), .int .u16 (b.toNat : Int), .int .u32 (q.toNat : Int), .int .u32 (k.toNat : Int), .int .u8 0, .int .u8 (g.toNat : Int), .int .u16 65535, .int .u16 0, .slice none 0 0, .slice none 0 0]) ∧ Below W.heap.size W w') := fun W => tplain_any a b q k g W
  have H1 := fun W => Lib.hid (thas_any a b q k r f z u a8 a9 os.length cap8 xs.length cap9 g W)
  have H2 := fun W => Lib.hid (tspace_any a b q k r f z u a8 a9 os.length cap8 xs.length cap9 (by omega) W)
  have H3 := fun W => Lib.hid (rspace_any a b q k r f z u a8 a9 os.length cap8 xs.length cap9 (by omega) W)
  have H4 := fun W => Lib.hid (tnext_any a b q k r f z u a8 a9 os.length cap8 xs.length cap9 (by omega) W)
  rw [allB_has] at H1
  have hX : xs.length + sp f ≤ 1000 := by unfold sp; split <;> split <;> omega
  have hq := q.toNat_lt
  obtain ⟨Y, hY⟩ : ∃ Y, (q.toNat + (xs.length + sp f)) % 4294967296 = Y := ⟨_, rfl⟩
  have hw : IntKind.u32.wrap ((q.toNat : Int) + ((xs.length + sp f : Nat) : Int)) = (Y : Int) := by rw [IntKind.wrap_u32, ← hY]; omega
  rw [hY] at H4
  generalize xs.length + sp f = X at H2 H3 hw hX
  have HW := fun (_ : Unit) => Lib.hid hw
  clear hw hY hX
  go_enter Try.func9, Try.ntmps9
  go_wp2_with fail
  refine (HF _).out.mono ?_
  rintro e w_1 ⟨rfl, hbel⟩
  have hB := bnext (bnextA (Below.refl w.heap.size w) _) hbel
  have hK := (Blk.new w #[.int .u16 (a.toNat : Int), .int .u16 (b.toNat : Int), .int .u32 (q.toNat : Int), .int .u32 (k.toNat : Int), .int .u8 (r.toNat : Int), .int .u8 (f.toNat : Int), .int .u16 (z.toNat : Int), .int .u16 (u.toNat : Int), .slice a8 len8 cap8, .slice a9 len9 cap9] 53).next hbel
  obtain ⟨p0, p1, p2, p3, p4, p5, p6, p7, p8, p9, g0, g1, g2, g3, g4, g5, g6, g7, g8, g9⟩ := hK.get10
  clear hbel HF
  go_wp2_with fail
  have hBV := bset10 hB (Nat.le_refl _) (.int .u16 (a.toNat : Int)) (.int .u16 (b.toNat : Int)) (.int .u32 (q.toNat : Int)) (.int .u32 (k.toNat : Int)) (.int .u8 (r.toNat : Int)) (.int .u8 (f.toNat : Int)) (.int .u16 (z.toNat : Int)) (.int .u16 (u.toNat : Int)) (.slice a8 os.length cap8) (.slice a9 xs.length cap9)
  have hKV := hK.set10 (u0 := .int .u16 (a.toNat : Int)) (u1 := .int .u16 (b.toNat : Int)) (u2 := .int .u32 (q.toNat : Int)) (u3 := .int .u32 (k.toNat : Int)) (u4 := .int .u8 (r.toNat : Int)) (u5 := .int .u8 (f.toNat : Int)) (u6 := .int .u16 (z.toNat : Int)) (u7 := .int .u16 (u.toNat : Int)) (u8 := .slice a8 os.length cap8) (u9 := .slice a9 xs.length cap9)
  simp only [setAll10] at hBV hKV
  clear p0 p1 p2 p3 p4 p5 p6 p7 p8 p9 g0 g1 g2 g3 g4 g5 g6 g7 g8 g9 hB hK
  generalize ((((((((((w_1.setCell ⟨w.heap.size, 0, none⟩ (.int .u16 (a.toNat : Int))).setCell ⟨w.heap.size, 1, none⟩ (.int .u16 (b.toNat : Int))).setCell ⟨w.heap.size, 2, none⟩ (.int .u32 (q.toNat : Int))).setCell ⟨w.heap.size, 3, none⟩ (.int .u32 (k.toNat : Int))).setCell ⟨w.heap.size, 4, none⟩ (.int .u8 (r.toNat : Int))).setCell ⟨w.heap.size, 5, none⟩ (.int .u8 (f.toNat : Int))).setCell ⟨w.heap.size, 6, none⟩ (.int .u16 (z.toNat : Int))).setCell ⟨w.heap.size, 7, none⟩ (.int .u16 (u.toNat : Int))).setCell ⟨w.heap.size, 8, none⟩ (.slice a8 os.length cap8)).setCell ⟨w.heap.size, 9, none⟩ (.slice a9 xs.length cap9)) = V at hBV hKV ⊢
  obtain ⟨p0, p1, p2, p3, p4, p5, p6, p7, p8, p9, -⟩ := hKV.get10
  go_loop [5, 6] (fun x i => ∃ j n : Nat, j ≤ 8 ∧ Hid (n = 2 ^ j) ∧ 1 ≤ n ∧ n ≤ 256 ∧ i = .int .i64 n ∧ x = .bool (allB f g j)) (fun _ i => 256 - (intOf i).toNat)
  case atStart => exact ⟨0, 1, by omega, rfl, by omega, by omega, rfl, rfl⟩
  case round =>
    obtain ⟨j, n, hj, HN, hn1, hn2, rfl, rfl⟩ := hrel
    by_cases hlt : n ≤ 128
    · have hj8 : j < 8 := by
        rcases Nat.lt_or_ge j 8 with h | h
        · exact h
        · have : j = 8 := by omega
          subst this
          have := HN.out
          omega
      have HN2 : Hid (n * 2 = 2 ^ (j + 1)) := by rw [Hid, HN.out, Nat.pow_succ]
      have hb1 := fun W => Lib.hid (rbit_any g n (n : Int) rfl (by omega) hlt W)
      have hb2 := fun W => Lib.hid (rbit_any f n (n : Int) rfl (by omega) hlt W)
      have hs := allB_succ f g j
      rw [← HN.out] at hs
      have hm2 : IntKind.i64.wrap ((n : Int) * 2) = (n : Int) * 2 := by rw [IntKind.wrap_i64]; omega
      cases hA : allB f g j
      · rw [hA, Bool.false_and] at hs
        have HSS := Lib.hid hs
        clear hs hb1 hb2 hA
        go_wp2_with fail
        go_round
        case rel => exact ⟨j + 1, n * 2, by omega, HN2, by omega, by omega, by go_num, by rw [HSS.out]⟩
        case measure => simp [intOf]; omega
      · cases hG : bitB g n
        · rw [hA, hG] at hs
          rw [hG] at hb1
          have HSS : Hid (allB f g (j + 1) = true) := hs
          clear hs hb2 hA hG
          go_wp2_with fail
          refine (hb1 _).out.mono ?_
          rintro e w1 ⟨rfl, rfl⟩
          go_wp2_with fail
          go_round
          case rel => exact ⟨j + 1, n * 2, by omega, HN2, by omega, by omega, by go_num, by rw [HSS.out]⟩
          case measure => simp [intOf]; omega
        · rw [hA, hG] at hs
          rw [hG] at hb1
          have HSS : Hid (allB f g (j + 1) = bitB f n) := by rw [Hid, hs]; simp
          clear hs hA hG
          go_wp2_with fail
          refine (hb1 _).out.mono ?_
          rintro e w1 ⟨rfl, rfl⟩
          go_wp2_with fail
          refine (hb2 _).out.mono ?_
          rintro e w1 ⟨rfl, rfl⟩
          go_wp2_with fail
          go_round
          case rel => exact ⟨j + 1, n * 2, by omega, HN2, by omega, by omega, by go_num, by rw [HSS.out]⟩
          case measure => simp [intOf]; omega
    · have hj8 : j = 8 := by
        rcases Nat.lt_or_ge j 8 with h | h
        · have h1 := HN.out
          have h2 : 2 ^ j ≤ 2 ^ 7 := Nat.pow_le_pow_right (by omega) (by omega)
          have h3 : (2 : Nat) ^ 7 = 128 := rfl
          omega
        · omega
      subst hj8
      clear HN
      generalize allB f g 8 = B at H1 ⊢
      go_wp2_with fail
      refine (HPL _).out.mono ?_
      rintro e w1 ⟨rfl, hbel⟩
      replace hBV := bnext hBV hbel
      replace hKV := hKV.next hbel
      clear p0 p1 p2 p3 p4 p5 p6 p7 p8 p9
      obtain ⟨p0, p1, p2, p3, p4, p5, p6, p7, p8, p9, -⟩ := hKV.get10
      have hlt := hKV.lt
      clear hbel HPL
      go_wp2_with fail
      refine (HSAME _).out.mono ?_
      rintro e w2 ⟨rfl, hbel⟩
      replace hBV := bnext (bnextA hBV _) hbel
      replace hKV := (hKV.alloc _).next hbel
      clear p0 p1 p2 p3 p4 p5 p6 p7 p8 p9 hlt hbel HSAME
      obtain ⟨p0, p1, p2, p3, p4, p5, p6, p7, p8, p9, -⟩ := hKV.get10
      go_wp2_with fail
      clear p0 p1 p2 p3 p4 p5 p6 p7 p8 p9
      have hC : ∀ W, Below w2.heap.size w2 W → (W.cell? ⟨w.heap.size, 0, none⟩ = some (.int .u16 (a.toNat : Int)) ∧ W.cell? ⟨w.heap.size, 1, none⟩ = some (.int .u16 (b.toNat : Int)) ∧ W.cell? ⟨w.heap.size, 2, none⟩ = some (.int .u32 (q.toNat : Int)) ∧ W.cell? ⟨w.heap.size, 3, none⟩ = some (.int .u32 (k.toNat : Int)) ∧ W.cell? ⟨w.heap.size, 4, none⟩ = some (.int .u8 (r.toNat : Int)) ∧ W.cell? ⟨w.heap.size, 5, none⟩ = some (.int .u8 (f.toNat : Int)) ∧ W.cell? ⟨w.heap.size, 6, none⟩ = some (.int .u16 (z.toNat : Int)) ∧ W.cell? ⟨w.heap.size, 7, none⟩ = some (.int .u16 (u.toNat : Int)) ∧ W.cell? ⟨w.heap.size, 8, none⟩ = some (.slice a8 os.length cap8) ∧ W.cell? ⟨w.heap.size, 9, none⟩ = some (.slice a9 xs.length cap9)) := by
        intro W h
        obtain ⟨p0, p1, p2, p3, p4, p5, p6, p7, p8, p9, -⟩ := (hKV.next h).get10
        exact ⟨p0, p1, p2, p3, p4, p5, p6, p7, p8, p9⟩

      refine region_vals (by kernel_rfl) (by kernel_rfl) (by kernel_rfl) 75 rfl (by kernel_rfl) w2 (Below.refl _ _) [.agg #[.int .u16 (a.toNat : Int), .int .u16 (b.toNat : Int), .int .u32 (q.toNat : Int), .int .u32 (k.toNat : Int), .int .u8 (r.toNat : Int), .int .u8 (f.toNat : Int), .int .u16 (z.toNat : Int), .int .u16 (u.toNat : Int), .slice a8 os.length cap8, .slice a9 xs.length cap9], .int .u8 (g.toNat : Int), .bool B, .bool B, .bool true, .bool true, .agg #[.int .u16 (a.toNat : Int), .int .u16 (b.toNat : Int), .int .u32 (q.toNat : Int), .int .u32 (k.toNat : Int), .int .u8 (r.toNat : Int), .int .u8 (f.toNat : Int), .int .u16 (z.toNat : Int), .int .u16 (u.toNat : Int), .slice a8 os.length cap8, .slice a9 xs.length cap9], .int .u32 (X : Nat), .agg #[.int .u16 (a.toNat : Int), .int .u16 (b.toNat : Int), .int .u32 (q.toNat : Int), .int .u32 (k.toNat : Int), .int .u8 (r.toNat : Int), .int .u8 (f.toNat : Int), .int .u16 (z.toNat : Int), .int .u16 (u.toNat : Int), .slice a8 os.length cap8, .slice a9 xs.length cap9], .int .u32 (X : Nat), .bool true, .bool true, .bool true, .agg #[.int .u16 (a.toNat : Int), .int .u16 (b.toNat : Int), .int .u32 (q.toNat : Int), .int .u32 (k.toNat : Int), .int .u8 (r.toNat : Int), .int .u8 (f.toNat : Int), .int .u16 (z.toNat : Int), .int .u16 (u.toNat : Int), .slice a8 os.length cap8, .slice a9 xs.length cap9], .int .u32 (Y : Nat), .pointer (some ⟨w.heap.size, 2, none⟩), .int .u32 (q.toNat : Int), .agg #[.int .u16 (a.toNat : Int), .int .u16 (b.toNat : Int), .int .u32 (q.toNat : Int), .int .u32 (k.toNat : Int), .int .u8 (r.toNat : Int), .int .u8 (f.toNat : Int), .int .u16 (z.toNat : Int), .int .u16 (u.toNat : Int), .slice a8 os.length cap8, .slice a9 xs.length cap9], .int .u32 (X : Nat), .int .u32 (Y : Nat), .bool true, .bool true, .bool true, .bool true, .bool true, .bool true] rfl ?_ ?_
      · intro i o uu W xx ho hx hVW hd
        rcases i with _|_|_|_|_|_|_|_|_|_|_|_|_|_|_|_|_|_|_|_|_|_|_|_|_|_|i
        · obtain rfl := Option.some.inj ho
          obtain rfl := Option.some.inj hx
          refine .inl ⟨wanted_none rfl, ?_⟩
          generalize hev : Act.eval _ = ev
          have ec : ∀ c, ev (.const c) = c := fun c => by rw [← hev]; rfl
          have e2 : ev (.tmp 2) = .pointer (some ⟨w.heap.size, 0, none⟩) := by rw [← hev]; exact eval_old (by kernel_rfl) 75 rfl (by decide) rfl
          clear hev hd
          obtain ⟨cc0, cc1, cc2, cc3, cc4, cc5, cc6, cc7, cc8, cc9⟩ := hC W hVW
          exact .inl ⟨W, by go_simp, Below.refl _ _⟩
        · obtain rfl := Option.some.inj ho
          obtain rfl := Option.some.inj hx
          refine .inl ⟨wanted_none rfl, ?_⟩
          generalize hev : Act.eval _ = ev
          have ec : ∀ c, ev (.const c) = c := fun c => by rw [← hev]; rfl
          have e1 : ev (.tmp 1) = .int .u8 (g.toNat : Int) := by rw [← hev]; exact eval_old (by kernel_rfl) 75 rfl (by decide) rfl
          clear hev hd
          exact .inl ⟨W, by go_simp, Below.refl _ _⟩
        · obtain rfl := Option.some.inj ho
          obtain rfl := Option.some.inj hx
          have q0 : uu 0 = .agg #[.int .u16 (a.toNat : Int), .int .u16 (b.toNat : Int), .int .u32 (q.toNat : Int), .int .u32 (k.toNat : Int), .int .u8 (r.toNat : Int), .int .u8 (f.toNat : Int), .int .u16 (z.toNat : Int), .int .u16 (u.toNat : Int), .slice a8 os.length cap8, .slice a9 xs.length cap9] := hd 0 (by kernel_rfl) _ rfl
          have q1 : uu 1 = .int .u8 (g.toNat : Int) := hd 1 (by kernel_rfl) _ rfl
          refine .inl ⟨wanted_none rfl, ?_⟩
          generalize hev : Act.eval _ = ev
          have ec : ∀ c, ev (.const c) = c := fun c => by rw [← hev]; rfl
          have ef : ∀ f, ev (.func f) = .func (.func f) #[] #[] := fun f => by rw [← hev]; rfl
          have e50 : ev (.tmp 50) = .agg #[.int .u16 (a.toNat : Int), .int .u16 (b.toNat : Int), .int .u32 (q.toNat : Int), .int .u32 (k.toNat : Int), .int .u8 (r.toNat : Int), .int .u8 (f.toNat : Int), .int .u16 (z.toNat : Int), .int .u16 (u.toNat : Int), .slice a8 os.length cap8, .slice a9 xs.length cap9] := by rw [← hev]; exact (eval_put (by kernel_rfl) 75 rfl (by decide)).trans q0
          have e51 : ev (.tmp 51) = .int .u8 (g.toNat : Int) := by rw [← hev]; exact (eval_put (by kernel_rfl) 75 rfl (by decide)).trans q1
          clear hev hd q0 q1
          exact .inr ⟨_, _, by go_simp, (H1 W).out⟩
        · obtain rfl := Option.some.inj ho
          obtain rfl := Option.some.inj hx
          refine .inl ⟨wanted_none rfl, ?_⟩
          generalize hev : Act.eval _ = ev
          have ec : ∀ c, ev (.const c) = c := fun c => by rw [← hev]; rfl
          have e5 : ev (.tmp 5) = .bool B := by rw [← hev]; exact eval_old (by kernel_rfl) 75 rfl (by decide) rfl
          clear hev hd
          exact .inl ⟨W, by go_simp, Below.refl _ _⟩
        · obtain rfl := Option.some.inj ho
          obtain rfl := Option.some.inj hx
          have q2 : uu 2 = .bool B := hd 2 (by kernel_rfl) _ rfl
          have q3 : uu 3 = .bool B := hd 3 (by kernel_rfl) _ rfl
          refine .inl ⟨wanted_none rfl, ?_⟩
          generalize hev : Act.eval _ = ev
          have ec : ∀ c, ev (.const c) = c := fun c => by rw [← hev]; rfl
          have e52 : ev (.tmp 52) = .bool B := by rw [← hev]; exact (eval_put (by kernel_rfl) 75 rfl (by decide)).trans q2
          have e53 : ev (.tmp 53) = .bool B := by rw [← hev]; exact (eval_put (by kernel_rfl) 75 rfl (by decide)).trans q3
          clear hev hd q2 q3
          exact .inl ⟨W, by go_simp, Below.refl _ _⟩
        · obtain rfl := Option.some.inj ho
          obtain rfl := Option.some.inj hx
          have q4 : uu 4 = .bool true := hd 4 (by kernel_rfl) _ rfl
          refine .inl ⟨wanted_none rfl, ?_⟩
          generalize hev : Act.eval _ = ev
          have ec : ∀ c, ev (.const c) = c := fun c => by rw [← hev]; rfl
          have e54 : ev (.tmp 54) = .bool true := by rw [← hev]; exact (eval_put (by kernel_rfl) 75 rfl (by decide)).trans q4
          clear hev hd q4
          exact .inl ⟨W, by go_simp, Below.refl _ _⟩
        · obtain rfl := Option.some.inj ho
          obtain rfl := Option.some.inj hx
          have q5 : uu 5 = .bool true := hd 5 (by kernel_rfl) _ rfl
          refine .inl ⟨wanted_yes rfl (yielded_put (k := 55) (by kernel_rfl) (by kernel_rfl) 75 rfl (by decide) q5), ?_⟩
          generalize hev : Act.eval _ = ev
          have ec : ∀ c, ev (.const c) = c := fun c => by rw [← hev]; rfl
          have e2 : ev (.tmp 2) = .pointer (some ⟨w.heap.size, 0, none⟩) := by rw [← hev]; exact eval_old (by kernel_rfl) 75 rfl (by decide) rfl
          clear hev hd q5
          obtain ⟨cc0, cc1, cc2, cc3, cc4, cc5, cc6, cc7, cc8, cc9⟩ := hC W hVW
          exact .inl ⟨W, by go_simp, Below.refl _ _⟩
        · obtain rfl := Option.some.inj ho
          obtain rfl := Option.some.inj hx
          have q6 : uu 6 = .agg #[.int .u16 (a.toNat : Int), .int .u16 (b.toNat : Int), .int .u32 (q.toNat : Int), .int .u32 (k.toNat : Int), .int .u8 (r.toNat : Int), .int .u8 (f.toNat : Int), .int .u16 (z.toNat : Int), .int .u16 (u.toNat : Int), .slice a8 os.length cap8, .slice a9 xs.length cap9] := hd 6 (by kernel_rfl) _ rfl
          have q5 : uu 5 = .bool true := hd 5 (by kernel_rfl) _ rfl
          refine .inl ⟨wanted_yes rfl (yielded_put (k := 55) (by kernel_rfl) (by kernel_rfl) 75 rfl (by decide) q5), ?_⟩
          generalize hev : Act.eval _ = ev
          have ec : ∀ c, ev (.const c) = c := fun c => by rw [← hev]; rfl
          have ef : ∀ f, ev (.func f) = .func (.func f) #[] #[] := fun f => by rw [← hev]; rfl
          have e56 : ev (.tmp 56) = .agg #[.int .u16 (a.toNat : Int), .int .u16 (b.toNat : Int), .int .u32 (q.toNat : Int), .int .u32 (k.toNat : Int), .int .u8 (r.toNat : Int), .int .u8 (f.toNat : Int), .int .u16 (z.toNat : Int), .int .u16 (u.toNat : Int), .slice a8 os.length cap8, .slice a9 xs.length cap9] := by rw [← hev]; exact (eval_put (by kernel_rfl) 75 rfl (by decide)).trans q6
          clear hev hd q6 q5
          exact .inr ⟨_, _, by go_simp, (H2 W).out⟩
        · obtain rfl := Option.some.inj ho
          obtain rfl := Option.some.inj hx
          have q5 : uu 5 = .bool true := hd 5 (by kernel_rfl) _ rfl
          refine .inl ⟨wanted_yes rfl (yielded_put (k := 55) (by kernel_rfl) (by kernel_rfl) 75 rfl (by decide) q5), ?_⟩
          generalize hev : Act.eval _ = ev
          have ec : ∀ c, ev (.const c) = c := fun c => by rw [← hev]; rfl
          have e2 : ev (.tmp 2) = .pointer (some ⟨w.heap.size, 0, none⟩) := by rw [← hev]; exact eval_old (by kernel_rfl) 75 rfl (by decide) rfl
          clear hev hd q5
          obtain ⟨cc0, cc1, cc2, cc3, cc4, cc5, cc6, cc7, cc8, cc9⟩ := hC W hVW
          exact .inl ⟨W, by go_simp, Below.refl _ _⟩
        · obtain rfl := Option.some.inj ho
          obtain rfl := Option.some.inj hx
          have q8 : uu 8 = .agg #[.int .u16 (a.toNat : Int), .int .u16 (b.toNat : Int), .int .u32 (q.toNat : Int), .int .u32 (k.toNat : Int), .int .u8 (r.toNat : Int), .int .u8 (f.toNat : Int), .int .u16 (z.toNat : Int), .int .u16 (u.toNat : Int), .slice a8 os.length cap8, .slice a9 xs.length cap9] := hd 8 (by kernel_rfl) _ rfl
          have q5 : uu 5 = .bool true := hd 5 (by kernel_rfl) _ rfl
          refine .inl ⟨wanted_yes rfl (yielded_put (k := 55) (by kernel_rfl) (by kernel_rfl) 75 rfl (by decide) q5), ?_⟩
          generalize hev : Act.eval _ = ev
          have ec : ∀ c, ev (.const c) = c := fun c => by rw [← hev]; rfl
          have ef : ∀ f, ev (.func f) = .func (.func f) #[] #[] := fun f => by rw [← hev]; rfl
          have e58 : ev (.tmp 58) = .agg #[.int .u16 (a.toNat : Int), .int .u16 (b.toNat : Int), .int .u32 (q.toNat : Int), .int .u32 (k.toNat : Int), .int .u8 (r.toNat : Int), .int .u8 (f.toNat : Int), .int .u16 (z.toNat : Int), .int .u16 (u.toNat : Int), .slice a8 os.length cap8, .slice a9 xs.length cap9] := by rw [← hev]; exact (eval_put (by kernel_rfl) 75 rfl (by decide)).trans q8
          clear hev hd q8 q5
          exact .inr ⟨_, _, by go_simp, (H3 W).out⟩
        · obtain rfl := Option.some.inj ho
          obtain rfl := Option.some.inj hx
          have q7 : uu 7 = .int .u32 (X : Nat) := hd 7 (by kernel_rfl) _ rfl
          have q9 : uu 9 = .int .u32 (X : Nat) := hd 9 (by kernel_rfl) _ rfl
          have q5 : uu 5 = .bool true := hd 5 (by kernel_rfl) _ rfl
          refine .inl ⟨wanted_yes rfl (yielded_put (k := 55) (by kernel_rfl) (by kernel_rfl) 75 rfl (by decide) q5), ?_⟩
          generalize hev : Act.eval _ = ev
          have ec : ∀ c, ev (.const c) = c := fun c => by rw [← hev]; rfl
          have e57 : ev (.tmp 57) = .int .u32 (X : Nat) := by rw [← hev]; exact (eval_put (by kernel_rfl) 75 rfl (by decide)).trans q7
          have e59 : ev (.tmp 59) = .int .u32 (X : Nat) := by rw [← hev]; exact (eval_put (by kernel_rfl) 75 rfl (by decide)).trans q9
          clear hev hd q7 q9 q5
          exact .inl ⟨W, by go_simp, Below.refl _ _⟩
        · obtain rfl := Option.some.inj ho
          obtain rfl := Option.some.inj hx
          have q5 : uu 5 = .bool true := hd 5 (by kernel_rfl) _ rfl
          have q10 : uu 10 = .bool true := hd 10 (by kernel_rfl) _ rfl
          refine .inl ⟨wanted_none rfl, ?_⟩
          generalize hev : Act.eval _ = ev
          have ec : ∀ c, ev (.const c) = c := fun c => by rw [← hev]; rfl
          have e55 : ev (.tmp 55) = .bool true := by rw [← hev]; exact (eval_put (by kernel_rfl) 75 rfl (by decide)).trans q5
          have e60 : ev (.tmp 60) = .bool true := by rw [← hev]; exact (eval_put (by kernel_rfl) 75 rfl (by decide)).trans q10
          clear hev hd q5 q10
          exact .inl ⟨W, by go_simp, Below.refl _ _⟩
        · obtain rfl := Option.some.inj ho
          obtain rfl := Option.some.inj hx
          have q11 : uu 11 = .bool true := hd 11 (by kernel_rfl) _ rfl
          refine .inl ⟨wanted_none rfl, ?_⟩
          generalize hev : Act.eval _ = ev
          have ec : ∀ c, ev (.const c) = c := fun c => by rw [← hev]; rfl
          have e61 : ev (.tmp 61) = .bool true := by rw [← hev]; exact (eval_put (by kernel_rfl) 75 rfl (by decide)).trans q11
          clear hev hd q11
          exact .inl ⟨W, by go_simp, Below.refl _ _⟩
        · obtain rfl := Option.some.inj ho
          obtain rfl := Option.some.inj hx
          have q12 : uu 12 = .bool true := hd 12 (by kernel_rfl) _ rfl
          refine .inl ⟨wanted_yes rfl (yielded_put (k := 62) (by kernel_rfl) (by kernel_rfl) 75 rfl (by decide) q12), ?_⟩
          generalize hev : Act.eval _ = ev
          have ec : ∀ c, ev (.const c) = c := fun c => by rw [← hev]; rfl
          have e2 : ev (.tmp 2) = .pointer (some ⟨w.heap.size, 0, none⟩) := by rw [← hev]; exact eval_old (by kernel_rfl) 75 rfl (by decide) rfl
          clear hev hd q12
          obtain ⟨cc0, cc1, cc2, cc3, cc4, cc5, cc6, cc7, cc8, cc9⟩ := hC W hVW
          exact .inl ⟨W, by go_simp, Below.refl _ _⟩
        · obtain rfl := Option.some.inj ho
          obtain rfl := Option.some.inj hx
          have q13 : uu 13 = .agg #[.int .u16 (a.toNat : Int), .int .u16 (b.toNat : Int), .int .u32 (q.toNat : Int), .int .u32 (k.toNat : Int), .int .u8 (r.toNat : Int), .int .u8 (f.toNat : Int), .int .u16 (z.toNat : Int), .int .u16 (u.toNat : Int), .slice a8 os.length cap8, .slice a9 xs.length cap9] := hd 13 (by kernel_rfl) _ rfl
          have q12 : uu 12 = .bool true := hd 12 (by kernel_rfl) _ rfl
          refine .inl ⟨wanted_yes rfl (yielded_put (k := 62) (by kernel_rfl) (by kernel_rfl) 75 rfl (by decide) q12), ?_⟩
          generalize hev : Act.eval _ = ev
          have ec : ∀ c, ev (.const c) = c := fun c => by rw [← hev]; rfl
          have ef : ∀ f, ev (.func f) = .func (.func f) #[] #[] := fun f => by rw [← hev]; rfl
          have e63 : ev (.tmp 63) = .agg #[.int .u16 (a.toNat : Int), .int .u16 (b.toNat : Int), .int .u32 (q.toNat : Int), .int .u32 (k.toNat : Int), .int .u8 (r.toNat : Int), .int .u8 (f.toNat : Int), .int .u16 (z.toNat : Int), .int .u16 (u.toNat : Int), .slice a8 os.length cap8, .slice a9 xs.length cap9] := by rw [← hev]; exact (eval_put (by kernel_rfl) 75 rfl (by decide)).trans q13
          clear hev hd q13 q12
          exact .inr ⟨_, _, by go_simp, (H4 W).out⟩
        · obtain rfl := Option.some.inj ho
          obtain rfl := Option.some.inj hx
          have q12 : uu 12 = .bool true := hd 12 (by kernel_rfl) _ rfl
          refine .inl ⟨wanted_yes rfl (yielded_put (k := 62) (by kernel_rfl) (by kernel_rfl) 75 rfl (by decide) q12), ?_⟩
          generalize hev : Act.eval _ = ev
          have ec : ∀ c, ev (.const c) = c := fun c => by rw [← hev]; rfl
          have e2 : ev (.tmp 2) = .pointer (some ⟨w.heap.size, 0, none⟩) := by rw [← hev]; exact eval_old (by kernel_rfl) 75 rfl (by decide) rfl
          clear hev hd q12
          exact .inl ⟨W, by go_simp, Below.refl _ _⟩
        · obtain rfl := Option.some.inj ho
          obtain rfl := Option.some.inj hx
          have q15 : uu 15 = .pointer (some ⟨w.heap.size, 2, none⟩) := hd 15 (by kernel_rfl) _ rfl
          have q12 : uu 12 = .bool true := hd 12 (by kernel_rfl) _ rfl
          refine .inl ⟨wanted_yes rfl (yielded_put (k := 62) (by kernel_rfl) (by kernel_rfl) 75 rfl (by decide) q12), ?_⟩
          generalize hev : Act.eval _ = ev
          have ec : ∀ c, ev (.const c) = c := fun c => by rw [← hev]; rfl
          have e65 : ev (.tmp 65) = .pointer (some ⟨w.heap.size, 2, none⟩) := by rw [← hev]; exact (eval_put (by kernel_rfl) 75 rfl (by decide)).trans q15
          clear hev hd q15 q12
          obtain ⟨cc0, cc1, cc2, cc3, cc4, cc5, cc6, cc7, cc8, cc9⟩ := hC W hVW
          exact .inl ⟨W, by go_simp, Below.refl _ _⟩
        · obtain rfl := Option.some.inj ho
          obtain rfl := Option.some.inj hx
          have q12 : uu 12 = .bool true := hd 12 (by kernel_rfl) _ rfl
          refine .inl ⟨wanted_yes rfl (yielded_put (k := 62) (by kernel_rfl) (by kernel_rfl) 75 rfl (by decide) q12), ?_⟩
          generalize hev : Act.eval _ = ev
          have ec : ∀ c, ev (.const c) = c := fun c => by rw [← hev]; rfl
          have e2 : ev (.tmp 2) = .pointer (some ⟨w.heap.size, 0, none⟩) := by rw [← hev]; exact eval_old (by kernel_rfl) 75 rfl (by decide) rfl
          clear hev hd q12
          obtain ⟨cc0, cc1, cc2, cc3, cc4, cc5, cc6, cc7, cc8, cc9⟩ := hC W hVW
          exact .inl ⟨W, by go_simp, Below.refl _ _⟩
        · obtain rfl := Option.some.inj ho
          obtain rfl := Option.some.inj hx
          have q17 : uu 17 = .agg #[.int .u16 (a.toNat : Int), .int .u16 (b.toNat : Int), .int .u32 (q.toNat : Int), .int .u32 (k.toNat : Int), .int .u8 (r.toNat : Int), .int .u8 (f.toNat : Int), .int .u16 (z.toNat : Int), .int .u16 (u.toNat : Int), .slice a8 os.length cap8, .slice a9 xs.length cap9] := hd 17 (by kernel_rfl) _ rfl
          have q12 : uu 12 = .bool true := hd 12 (by kernel_rfl) _ rfl
          refine .inl ⟨wanted_yes rfl (yielded_put (k := 62) (by kernel_rfl) (by kernel_rfl) 75 rfl (by decide) q12), ?_⟩
          generalize hev : Act.eval _ = ev
          have ec : ∀ c, ev (.const c) = c := fun c => by rw [← hev]; rfl
          have ef : ∀ f, ev (.func f) = .func (.func f) #[] #[] := fun f => by rw [← hev]; rfl
          have e67 : ev (.tmp 67) = .agg #[.int .u16 (a.toNat : Int), .int .u16 (b.toNat : Int), .int .u32 (q.toNat : Int), .int .u32 (k.toNat : Int), .int .u8 (r.toNat : Int), .int .u8 (f.toNat : Int), .int .u16 (z.toNat : Int), .int .u16 (u.toNat : Int), .slice a8 os.length cap8, .slice a9 xs.length cap9] := by rw [← hev]; exact (eval_put (by kernel_rfl) 75 rfl (by decide)).trans q17
          clear hev hd q17 q12
          exact .inr ⟨_, _, by go_simp, (H3 W).out⟩
        · obtain rfl := Option.some.inj ho
          obtain rfl := Option.some.inj hx
          have q16 : uu 16 = .int .u32 (q.toNat : Int) := hd 16 (by kernel_rfl) _ rfl
          have q18 : uu 18 = .int .u32 (X : Nat) := hd 18 (by kernel_rfl) _ rfl
          have q12 : uu 12 = .bool true := hd 12 (by kernel_rfl) _ rfl
          refine .inl ⟨wanted_yes rfl (yielded_put (k := 62) (by kernel_rfl) (by kernel_rfl) 75 rfl (by decide) q12), ?_⟩
          generalize hev : Act.eval _ = ev
          have ec : ∀ c, ev (.const c) = c := fun c => by rw [← hev]; rfl
          have e66 : ev (.tmp 66) = .int .u32 (q.toNat : Int) := by rw [← hev]; exact (eval_put (by kernel_rfl) 75 rfl (by decide)).trans q16
          have e68 : ev (.tmp 68) = .int .u32 (X : Nat) := by rw [← hev]; exact (eval_put (by kernel_rfl) 75 rfl (by decide)).trans q18
          clear hev hd q16 q18 q12
          have hw := (HW ()).out
          exact .inl ⟨W, by go_simp, Below.refl _ _⟩
        · obtain rfl := Option.some.inj ho
          obtain rfl := Option.some.inj hx
          have q14 : uu 14 = .int .u32 (Y : Nat) := hd 14 (by kernel_rfl) _ rfl
          have q19 : uu 19 = .int .u32 (Y : Nat) := hd 19 (by kernel_rfl) _ rfl
          have q12 : uu 12 = .bool true := hd 12 (by kernel_rfl) _ rfl
          refine .inl ⟨wanted_yes rfl (yielded_put (k := 62) (by kernel_rfl) (by kernel_rfl) 75 rfl (by decide) q12), ?_⟩
          generalize hev : Act.eval _ = ev
          have ec : ∀ c, ev (.const c) = c := fun c => by rw [← hev]; rfl
          have e64 : ev (.tmp 64) = .int .u32 (Y : Nat) := by rw [← hev]; exact (eval_put (by kernel_rfl) 75 rfl (by decide)).trans q14
          have e69 : ev (.tmp 69) = .int .u32 (Y : Nat) := by rw [← hev]; exact (eval_put (by kernel_rfl) 75 rfl (by decide)).trans q19
          clear hev hd q14 q19 q12
          exact .inl ⟨W, by go_simp, Below.refl _ _⟩
        · obtain rfl := Option.some.inj ho
          obtain rfl := Option.some.inj hx
          have q12 : uu 12 = .bool true := hd 12 (by kernel_rfl) _ rfl
          have q20 : uu 20 = .bool true := hd 20 (by kernel_rfl) _ rfl
          refine .inl ⟨wanted_none rfl, ?_⟩
          generalize hev : Act.eval _ = ev
          have ec : ∀ c, ev (.const c) = c := fun c => by rw [← hev]; rfl
          have e62 : ev (.tmp 62) = .bool true := by rw [← hev]; exact (eval_put (by kernel_rfl) 75 rfl (by decide)).trans q12
          have e70 : ev (.tmp 70) = .bool true := by rw [← hev]; exact (eval_put (by kernel_rfl) 75 rfl (by decide)).trans q20
          clear hev hd q12 q20
          exact .inl ⟨W, by go_simp, Below.refl _ _⟩
        · obtain rfl := Option.some.inj ho
          obtain rfl := Option.some.inj hx
          have q21 : uu 21 = .bool true := hd 21 (by kernel_rfl) _ rfl
          refine .inl ⟨wanted_none rfl, ?_⟩
          generalize hev : Act.eval _ = ev
          have ec : ∀ c, ev (.const c) = c := fun c => by rw [← hev]; rfl
          have e71 : ev (.tmp 71) = .bool true := by rw [← hev]; exact (eval_put (by kernel_rfl) 75 rfl (by decide)).trans q21
          clear hev hd q21
          exact .inl ⟨W, by go_simp, Below.refl _ _⟩
        · obtain rfl := Option.some.inj ho
          obtain rfl := Option.some.inj hx
          have q22 : uu 22 = .bool true := hd 22 (by kernel_rfl) _ rfl
          refine .inl ⟨wanted_yes rfl (yielded_put (k := 72) (by kernel_rfl) (by kernel_rfl) 75 rfl (by decide) q22), ?_⟩
          generalize hev : Act.eval _ = ev
          have ec : ∀ c, ev (.const c) = c := fun c => by rw [← hev]; rfl
          have ef : ∀ f, ev (.func f) = .func (.func f) #[] #[] := fun f => by rw [← hev]; rfl
          clear hev hd q22
          exact .inr ⟨_, _, by go_simp, (lives09_any W)⟩
        · obtain rfl := Option.some.inj ho
          obtain rfl := Option.some.inj hx
          have q22 : uu 22 = .bool true := hd 22 (by kernel_rfl) _ rfl
          have q23 : uu 23 = .bool true := hd 23 (by kernel_rfl) _ rfl
          refine .inl ⟨wanted_none rfl, ?_⟩
          generalize hev : Act.eval _ = ev
          have ec : ∀ c, ev (.const c) = c := fun c => by rw [← hev]; rfl
          have e72 : ev (.tmp 72) = .bool true := by rw [← hev]; exact (eval_put (by kernel_rfl) 75 rfl (by decide)).trans q22
          have e73 : ev (.tmp 73) = .bool true := by rw [← hev]; exact (eval_put (by kernel_rfl) 75 rfl (by decide)).trans q23
          clear hev hd q22 q23
          exact .inl ⟨W, by go_simp, Below.refl _ _⟩
        · obtain rfl := Option.some.inj ho
          obtain rfl := Option.some.inj hx
          have q24 : uu 24 = .bool true := hd 24 (by kernel_rfl) _ rfl
          refine .inl ⟨wanted_none rfl, ?_⟩
          generalize hev : Act.eval _ = ev
          have ec : ∀ c, ev (.const c) = c := fun c => by rw [← hev]; rfl
          have e74 : ev (.tmp 74) = .bool true := by rw [← hev]; exact (eval_put (by kernel_rfl) 75 rfl (by decide)).trans q24
          clear hev hd q24
          exact .inl ⟨W, by go_simp, Below.refl _ _⟩
        · simp at ho
      · intro W hVW
        go_wp2_with fail
        refine bodyPost_ret (results_tmp rfl _ _ _) (putAll_defers _ _ _ _) ?_
        exact ⟨congrArg Ending.returned (by kernel_rfl), hBV.trans (hVW.mono hBV.size)⟩

end Go.Proofs.Ytfejdfdgbfpgkaa
