/- Contracts of Opposite and of the law's lives; the walk of SpliceBack. -/
import Derived.Test.YtlceflfmdfoeiaaSpl1
import Derived.Test.YtlceflfmdfoeiaaReg4
namespace Go.Proofs.Ytlceflfmdfoeiaa
open Go.RowKit

set_option maxHeartbeats 4000000 in
theorem lives28_any (w : World) : Calls Try.prog 7 #[] w fun e w' => e = .returned (.bool true) ∧ Below w.heap.size w w' := by
  have H1 : ∀ W, Hid (Calls Try.prog 19 #[.agg #[.int .u32 0, .int .u32 0, .int .u16 0, .int .u16 0, .int .u32 5, .int .u32 6], .agg #[.int .u16 0, .int .u16 0, .int .u32 4294967295, .int .u32 1, .int .u8 0, .int .u8 16, .int .u16 0, .int .u16 0, .slice none 0 0, .slice none 0 0]] W fun e w' => ∃ n1 B1 d1 n2 B2 d2, e = .returned (.agg #[.int .u16 0, .int .u16 0, .int .u32 4, .int .u32 7, .int .u8 0, .int .u8 16, .int .u16 0, .int .u16 0, .slice B1 n1 d1, .slice B2 n2 d2]) ∧ Below W.heap.size W w') := by
    intro W
    obtain ⟨z, ez⟩ : ∃ a : UInt32, (a.toNat : Int) = 0 := ⟨0, rfl⟩
    obtain ⟨y, ey⟩ : ∃ a : UInt16, (a.toNat : Int) = 0 := ⟨0, rfl⟩
    obtain ⟨r, er⟩ : ∃ a : UInt8, (a.toNat : Int) = 0 := ⟨0, rfl⟩
    obtain ⟨f, ef, hf⟩ : ∃ a : UInt8, (a.toNat : Int) = 16 ∧ hasB a 16 = true := ⟨16, rfl, by decide⟩
    obtain ⟨ts, q, q2, e1, e2, e3, hq⟩ : ∃ a b c : UInt32, (a.toNat : Int) = 5 ∧ (b.toNat : Int) = 4294967295 ∧ (c.toNat : Int) = 4 ∧ c = b + a := ⟨5, 4294967295, 4, rfl, rfl, rfl, by decide⟩
    obtain ⟨ta, k, k2, e4, e5, e6, hk⟩ : ∃ a b c : UInt32, (a.toNat : Int) = 6 ∧ (b.toNat : Int) = 1 ∧ (c.toNat : Int) = 7 ∧ c = b + a := ⟨6, 1, 7, rfl, rfl, rfl, by decide⟩
    obtain ⟨l0, hl0⟩ : ∃ l : List UInt8, l.length = 0 := ⟨[], rfl⟩
    have hn : Rd bv W W.heap.size none 0 l0 := by rw [List.eq_nil_of_length_eq_zero hl0]; exact Rd.nil0 _ _ _
    have h := apply_1 z z y y ts ta y y q k r f y y q2 k2 hq hk hf none none 0 0 l0 l0 W hn hn (by omega) (by omega)
    simp only [ez, ey, er, ef, e1, e2, e3, e4, e5, e6, hl0] at h
    refine h.mono ?_
    rintro e w' ⟨L1, B1, d1, L2, B2, d2, rfl, -, -, -, -, hb⟩
    exact ⟨_, _, _, _, _, _, rfl, hb⟩
  go_enter Try.func7, Try.ntmps7
  go_wp2_with fail
  refine (H1 _).out.mono ?_
  rintro e w1 ⟨n1, B1, d1, n2, B2, d2, rfl, hb⟩
  have hB := bnext (Below.refl w.heap.size w) hb
  clear H1 hb
  go_wp2_with fail
  go_ret
  exact ⟨rfl, bnextA hB _⟩

theorem neg_of (x : UInt32) : ∃ y : UInt32, (x.toNat + y.toNat) % 4294967296 = 0 ∧ ∀ z : UInt32, z + x + y = z := by
  have hx := x.toNat_lt
  refine ⟨UInt32.ofNat ((4294967296 - x.toNat) % 4294967296), ?_, fun z => ?_⟩
  · simp
    omega
  · have hz := z.toNat_lt
    apply UInt32.toNat_inj.mp
    rw [UInt32.toNat_add, UInt32.toNat_add]
    simp
    omega
end Go.Proofs.Ytlceflfmdfoeiaa
