/- Contracts of the reference's round. -/
import Derived.Test.YteodjajjlgekcaaDoorSip2
import Derived.BigQuiet
import Derived.Deep.QuietTactic
namespace Go.Proofs.YteodjajjlgekcaaDoor
open Go.RowKit

set_option maxHeartbeats 4000000 in
theorem rround_any (a b c d : Nat) (_la : a < 18446744073709551616) (lb : b < 18446744073709551616) (_lc : c < 18446744073709551616) (ld : d < 18446744073709551616) (w : World) :
    Calls Tryd.prog 62 #[.agg #[.int .u64 (a : Int), .int .u64 (b : Int), .int .u64 (c : Int), .int .u64 (d : Int)]] w fun e w' => ∃ p q r u : Nat, e = .returned (.agg #[.int .u64 (p : Int), .int .u64 (q : Int), .int .u64 (r : Int), .int .u64 (u : Int)]) ∧ Hid (rnd (a, b, c, d) = (p, q, r, u)) ∧ Below w.heap.size w w' := by
  obtain ⟨a1, ha1⟩ : ∃ a1, add64 a b = a1 := ⟨_, rfl⟩
  have la1 := add64_lt a b
  have wa1 := wrap_add a b
  rw [ha1] at la1 wa1
  replace ha1 := Lib.hid ha1
  obtain ⟨rb1, hrb1⟩ : ∃ rb1, rolN b 13 = rb1 := ⟨_, rfl⟩
  have lrb1 := rolN_lt b lb 13
  have crb1 := fun W => Lib.hid (by_any b 13 lb (by omega) W)
  rw [hrb1] at lrb1
  simp only [hrb1] at crb1
  replace hrb1 := Lib.hid hrb1
  obtain ⟨b1, hb1⟩ : ∃ b1, rb1 ^^^ a1 = b1 := ⟨_, rfl⟩
  have lb1 := xor64_lt rb1 a1 lrb1 la1
  have xb1 : bits BinOp.xor IntKind.u64 (rb1 : Int) (a1 : Int) = (b1 : Int) := by rw [u64_xor_nat _ _ lrb1 la1, hb1]
  rw [hb1] at lb1
  replace hb1 := Lib.hid hb1
  obtain ⟨a2, ha2⟩ : ∃ a2, rolN a1 32 = a2 := ⟨_, rfl⟩
  have la2 := rolN_lt a1 la1 32
  have ca2 := fun W => Lib.hid (by_any a1 32 la1 (by omega) W)
  rw [ha2] at la2
  simp only [ha2] at ca2
  replace ha2 := Lib.hid ha2
  obtain ⟨c1, hc1⟩ : ∃ c1, add64 c d = c1 := ⟨_, rfl⟩
  have lc1 := add64_lt c d
  have wc1 := wrap_add c d
  rw [hc1] at lc1 wc1
  replace hc1 := Lib.hid hc1
  obtain ⟨rd1, hrd1⟩ : ∃ rd1, rolN d 16 = rd1 := ⟨_, rfl⟩
  have lrd1 := rolN_lt d ld 16
  have crd1 := fun W => Lib.hid (by_any d 16 ld (by omega) W)
  rw [hrd1] at lrd1
  simp only [hrd1] at crd1
  replace hrd1 := Lib.hid hrd1
  obtain ⟨d1, hd1⟩ : ∃ d1, rd1 ^^^ c1 = d1 := ⟨_, rfl⟩
  have ld1 := xor64_lt rd1 c1 lrd1 lc1
  have xd1 : bits BinOp.xor IntKind.u64 (rd1 : Int) (c1 : Int) = (d1 : Int) := by rw [u64_xor_nat _ _ lrd1 lc1, hd1]
  rw [hd1] at ld1
  replace hd1 := Lib.hid hd1
  obtain ⟨a3, ha3⟩ : ∃ a3, add64 a2 d1 = a3 := ⟨_, rfl⟩
  have la3 := add64_lt a2 d1
  have wa3 := wrap_add a2 d1
  rw [ha3] at la3 wa3
  replace ha3 := Lib.hid ha3
  obtain ⟨rd2, hrd2⟩ : ∃ rd2, rolN d1 21 = rd2 := ⟨_, rfl⟩
  have lrd2 := rolN_lt d1 ld1 21
  have crd2 := fun W => Lib.hid (by_any d1 21 ld1 (by omega) W)
  rw [hrd2] at lrd2
  simp only [hrd2] at crd2
  replace hrd2 := Lib.hid hrd2
  obtain ⟨d2, hd2⟩ : ∃ d2, rd2 ^^^ a3 = d2 := ⟨_, rfl⟩
  have ld2 := xor64_lt rd2 a3 lrd2 la3
  have xd2 : bits BinOp.xor IntKind.u64 (rd2 : Int) (a3 : Int) = (d2 : Int) := by rw [u64_xor_nat _ _ lrd2 la3, hd2]
  rw [hd2] at ld2
  replace hd2 := Lib.hid hd2
  obtain ⟨c2, hc2⟩ : ∃ c2, add64 c1 b1 = c2 := ⟨_, rfl⟩
  have lc2 := add64_lt c1 b1
  have wc2 := wrap_add c1 b1
  rw [hc2] at lc2 wc2
  replace hc2 := Lib.hid hc2
  obtain ⟨rb2, hrb2⟩ : ∃ rb2, rolN b1 17 = rb2 := ⟨_, rfl⟩
  have lrb2 := rolN_lt b1 lb1 17
  have crb2 := fun W => Lib.hid (by_any b1 17 lb1 (by omega) W)
  rw [hrb2] at lrb2
  simp only [hrb2] at crb2
  replace hrb2 := Lib.hid hrb2
  obtain ⟨b2, hb2⟩ : ∃ b2, rb2 ^^^ c2 = b2 := ⟨_, rfl⟩
  have lb2 := xor64_lt rb2 c2 lrb2 lc2
  have xb2 : bits BinOp.xor IntKind.u64 (rb2 : Int) (c2 : Int) = (b2 : Int) := by rw [u64_xor_nat _ _ lrb2 lc2, hb2]
  rw [hb2] at lb2
  replace hb2 := Lib.hid hb2
  obtain ⟨c3, hc3⟩ : ∃ c3, rolN c2 32 = c3 := ⟨_, rfl⟩
  have lc3 := rolN_lt c2 lc2 32
  have cc3 := fun W => Lib.hid (by_any c2 32 lc2 (by omega) W)
  rw [hc3] at lc3
  simp only [hc3] at cc3
  replace hc3 := Lib.hid hc3
  have HR : Hid (rnd (a, b, c, d) = (a3, b2, c3, d2)) := by
    rw [Hid]
    simp only [rnd, ha1.out, hrb1.out, hb1.out, ha2.out, hc1.out, hrd1.out, hd1.out, ha3.out, hrd2.out, hd2.out, hc2.out, hrb2.out, hb2.out, hc3.out]
  have hB := bnextA (bnextA (Below.refl w.heap.size w) (.cells #[.int .u64 (a : Int), .int .u64 (b : Int), .int .u64 (c : Int), .int .u64 (d : Int)] 94)) (.cells #[.int .u64 0, .int .u64 0, .int .u64 0, .int .u64 0] 94)
  obtain ⟨z0, z1, z2, z3, -⟩ := ((Blk.new w #[.int .u64 (a : Int), .int .u64 (b : Int), .int .u64 (c : Int), .int .u64 (d : Int)] 94).alloc (.cells #[.int .u64 0, .int .u64 0, .int .u64 0, .int .u64 0] 94)).get4
  go_enter Tryd.func62, Tryd.ntmps62
  go_wp2_with fail
  --REGION
  go_quiet (fail)
  go_wp2_with fail
  refine (crb1 _).out.mono ?_
  rintro e wz ⟨rfl, rfl⟩
  go_wp2_with fail
  refine (ca2 _).out.mono ?_
  rintro e wz ⟨rfl, rfl⟩
  go_wp2_with fail
  refine (crd1 _).out.mono ?_
  rintro e wz ⟨rfl, rfl⟩
  go_wp2_with fail
  refine (crd2 _).out.mono ?_
  rintro e wz ⟨rfl, rfl⟩
  go_wp2_with fail
  refine (crb2 _).out.mono ?_
  rintro e wz ⟨rfl, rfl⟩
  go_wp2_with fail
  refine (cc3 _).out.mono ?_
  rintro e wz ⟨rfl, rfl⟩
  go_wp2_with fail
  simp [bodyPost, results, Tryd.results62, go_sem, *]
  exact ⟨a3, b2, c3, d2, ⟨rfl, rfl, rfl, rfl⟩, HR, ((((below_drewN hB nq).setCell (p := ⟨w.heap.size + 1, 0, none⟩) (Nat.le_succ _) _).setCell (p := ⟨w.heap.size + 1, 1, none⟩) (Nat.le_succ _) _).setCell (p := ⟨w.heap.size + 1, 2, none⟩) (Nat.le_succ _) _).setCell (p := ⟨w.heap.size + 1, 3, none⟩) (Nat.le_succ _) _⟩
end Go.Proofs.YteodjajjlgekcaaDoor
