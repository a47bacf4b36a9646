/- The walk of the statement on which flow a packet is of. -/
import Derived.Test.YtbcofkiefompgaaFlow2
namespace Go.Proofs.Ytbcofkiefompgaa
open Go.RowKit

theorem of_both (v0 v1 v2 v5 v9 : Value) (mf : Bool) (off pr s d : Int) (A : Option Addr) (c : Nat) (xs : List UInt8) (hlc : xs.length ≤ c) (hcc : c ≤ 9223372036854775807) : ∃ (f0 f1 f2 f3 f4 e : Int),
    (∀ W, Rd bv W W.heap.size A c xs → Calls Try.prog 21 #[.agg #[v0, v1, v2, .bool mf, .int .u16 off, v5, .int .u8 pr, .int .u32 s, .int .u32 d, v9, .slice A xs.length c]] W fun r w' => r = .returned (.tuple #[.agg #[.int .u32 f0, .int .u32 f1, .int .u16 f2, .int .u16 f3, .int .u8 f4], .int .i64 e]) ∧ Below W.heap.size W w') ∧
    (∀ W, Rd bv W W.heap.size A c xs → Calls Try.prog 22 #[.agg #[v0, v1, v2, .bool mf, .int .u16 off, v5, .int .u8 pr, .int .u32 s, .int .u32 d, v9, .slice A xs.length c]] W fun r w' => r = .returned (.tuple #[.agg #[.int .u32 f0, .int .u32 f1, .int .u16 f2, .int .u16 f3, .int .u8 f4], .int .i64 e]) ∧ Below W.heap.size W w') := by
  cases mf
  · cases ho : ((off : Int) != 0)
    · by_cases h6 : pr = 6
      · subst h6
        by_cases h4 : xs.length < 4
        · exact ⟨0, 0, 0, 0, 0, 4, fun W _ => fof_short6 v0 v1 v2 v5 v9 off s d A xs.length c ho h4 hlc hcc W, fun W _ => rof_short6 v0 v1 v2 v5 v9 off s d A xs.length c ho h4 hlc hcc W⟩
        · exact ⟨_, _, _, _, _, _, fun W h => fof_ok6 v0 v1 v2 v5 v9 off s d A c xs ho W h (by omega), fun W h => rof_ok6 v0 v1 v2 v5 v9 off s d A c xs ho W h (by omega)⟩
      · by_cases h17 : pr = 17
        · subst h17
          by_cases h4 : xs.length < 4
          · exact ⟨0, 0, 0, 0, 0, 4, fun W _ => fof_short17 v0 v1 v2 v5 v9 off s d A xs.length c ho h4 hlc hcc W, fun W _ => rof_short17 v0 v1 v2 v5 v9 off s d A xs.length c ho h4 hlc hcc W⟩
          · exact ⟨_, _, _, _, _, _, fun W h => fof_ok17 v0 v1 v2 v5 v9 off s d A c xs ho W h (by omega), fun W h => rof_ok17 v0 v1 v2 v5 v9 off s d A c xs ho W h (by omega)⟩
        · have k6 : ((pr : Int) != 6) = true := by simpa using h6
          have k17 : ((pr : Int) != 17) = true := by simpa using h17
          exact ⟨0, 0, 0, 0, 0, 3, fun W _ => fof_form v0 v1 v2 v5 v9 off pr s d _ ho k6 k17 W, fun W _ => rof_form v0 v1 v2 v5 v9 off pr s d _ ho k6 k17 W⟩
    · exact ⟨0, 0, 0, 0, 0, 11, fun W _ => fof_off v0 v1 v2 v5 v9 off pr s d _ ho W, fun W _ => rof_off v0 v1 v2 v5 v9 off pr s d _ ho W⟩
  · exact ⟨0, 0, 0, 0, 0, 11, fun W _ => fof_mf v0 v1 v2 v5 v9 off pr s d _ W, fun W _ => rof_mf v0 v1 v2 v5 v9 off pr s d _ W⟩

theorem bset11 {B : Nat} {w0 w : World} (hB : Below B w0 w) {g : Nat} (hg : B ≤ g) (v0 v1 v2 v3 v4 v5 v6 v7 v8 v9 v10 : Value) : Below B w0 (((((((((((w.setCell ⟨g, 0, none⟩ v0).setCell ⟨g, 1, none⟩ v1).setCell ⟨g, 2, none⟩ v2).setCell ⟨g, 3, none⟩ v3).setCell ⟨g, 4, none⟩ v4).setCell ⟨g, 5, none⟩ v5).setCell ⟨g, 6, none⟩ v6).setCell ⟨g, 7, none⟩ v7).setCell ⟨g, 8, none⟩ v8).setCell ⟨g, 9, none⟩ v9).setCell ⟨g, 10, none⟩ v10) :=
  ((((((((((hB.setCell hg v0).setCell hg v1).setCell hg v2).setCell hg v3).setCell hg v4).setCell hg v5).setCell hg v6).setCell hg v7).setCell hg v8).setCell hg v9).setCell hg v10

theorem pfew_any (t0 t1 : Int) (t2 t3 : Bool) (t4 t5 t6 t7 t8 : Int) (oa : Option Addr) (on oc : Nat) (A : Option Addr) (n c : Nat) (w : World) (ho : on ≤ oc) (hoc : oc ≤ 9223372036854775807) (hn : n ≤ c) (hc : c ≤ 9223372036854775807) :
    Calls Try.prog 20 #[.agg #[.int .u8 t0, .int .u16 t1, .bool t2, .bool t3, .int .u16 t4, .int .u8 t5, .int .u8 t6, .int .u32 t7, .int .u32 t8, .slice oa on oc, .slice A n c]] w fun e w' => e = .returned (.agg #[.int .u8 t0, .int .u16 t1, .bool t2, .bool t3, .int .u16 t4, .int .u8 t5, .int .u8 t6, .int .u32 t7, .int .u32 t8, .slice oa (min on 50) oc, .slice A (min n 300) c]) ∧ Below w.heap.size w w' := by
  have F1 := fun W => Lib.hid (few_le oa on oc 50 W ho hoc (by omega))
  have F2 := fun W => Lib.hid (few_le A n c 300 W hn hc (by omega))
  generalize min on 50 = m1 at F1 ⊢
  generalize min n 300 = m2 at F2 ⊢
  go_enter Try.func20, Try.ntmps20
  go_wp2_with fail
  refine (F1 _).out.mono ?_
  rintro e w1 ⟨rfl, rfl⟩
  go_wp2_with fail
  refine (F2 _).out.mono ?_
  rintro e w1 ⟨rfl, rfl⟩
  go_wp2_with fail
  simp [bodyPost, results, Try.results20, go_sem, *]
  exact bnextA (bnextA (Below.refl _ _) _) _
end Go.Proofs.Ytbcofkiefompgaa
