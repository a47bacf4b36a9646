/- The walk of ArpPuts, whole. -/
import Derived.Test.YtiokofpmmlbncabLaw05ql
import Derived.Test.YtiokofpmmlbncabLaw05qg
import Derived.Test.YtiokofpmmlbncabLaw05qu
import Derived.Test.YtiokofpmmlbncabLaw05qk
namespace Go.Proofs.Ytiokofpmmlbncab
open Go.RowKit

theorem ArpPuts_walk (y0 y1 y2 y3 y4 y5 y6 y7 y8 y9 y10 y11 y12 y13 y14 : Int) (a1 : Option Addr) (len1 cap1 : Nat) (z1 : List Int) (w : World) (v0 : (Lit.int .u16 y0).wf = true) (v1 : (Lit.int .u8 y1).wf = true) (v2 : (Lit.int .u8 y2).wf = true) (v3 : (Lit.int .u8 y3).wf = true) (v4 : (Lit.int .u8 y4).wf = true) (v5 : (Lit.int .u8 y5).wf = true) (v6 : (Lit.int .u8 y6).wf = true) (v7 : (Lit.int .u32 y7).wf = true) (v8 : (Lit.int .u8 y8).wf = true) (v9 : (Lit.int .u8 y9).wf = true) (v10 : (Lit.int .u8 y10).wf = true) (v11 : (Lit.int .u8 y11).wf = true) (v12 : (Lit.int .u8 y12).wf = true) (v13 : (Lit.int .u8 y13).wf = true) (v14 : (Lit.int .u32 y14).wf = true) (w1 : InRow .u8 w a1 len1 cap1 z1) :
    Calls Try.prog 6 #[.agg #[.int .u16 y0, .int .u8 y1, .int .u8 y2, .int .u8 y3, .int .u8 y4, .int .u8 y5, .int .u8 y6, .int .u32 y7, .int .u8 y8, .int .u8 y9, .int .u8 y10, .int .u8 y11, .int .u8 y12, .int .u8 y13, .int .u32 y14], .slice a1 len1 cap1] w fun e w' => e = .returned (.bool true) ∧ Below w.heap.size w w' := by
  obtain ⟨o, rfl⟩ := u16_of v0
  obtain ⟨m0, rfl⟩ := u8_of v1
  obtain ⟨m1, rfl⟩ := u8_of v2
  obtain ⟨m2, rfl⟩ := u8_of v3
  obtain ⟨m3, rfl⟩ := u8_of v4
  obtain ⟨m4, rfl⟩ := u8_of v5
  obtain ⟨m5, rfl⟩ := u8_of v6
  obtain ⟨s, rfl⟩ := u32_of v7
  obtain ⟨n0, rfl⟩ := u8_of v8
  obtain ⟨n1, rfl⟩ := u8_of v9
  obtain ⟨n2, rfl⟩ := u8_of v10
  obtain ⟨n3, rfl⟩ := u8_of v11
  obtain ⟨n4, rfl⟩ := u8_of v12
  obtain ⟨n5, rfl⟩ := u8_of v13
  obtain ⟨d, rfl⟩ := u32_of v14
  obtain ⟨ys, rfl, hz⟩ := row_rd w1
  by_cases h1 : o.toNat < 1
  · exact ArpPuts_l o m0 m1 m2 m3 m4 m5 s n0 n1 n2 n3 n4 n5 d a1 cap1 ys _ (by simp; omega) rfl w hz (Lib.hid (by simp; omega))
  · by_cases h2 : 2 < o.toNat
    · exact ArpPuts_g o m0 m1 m2 m3 m4 m5 s n0 n1 n2 n3 n4 n5 d a1 cap1 ys _ (by simp; omega) rfl w hz (Lib.hid (by simp; omega)) (Lib.hid (by simp; omega))
    · cases hu : uniB m0 m1 m2 m3 m4 m5
      · exact ArpPuts_u o m0 m1 m2 m3 m4 m5 s n0 n1 n2 n3 n4 n5 d a1 cap1 ys _ (by simp; omega) rfl w hz (Lib.hid (by simp; omega)) (Lib.hid (by simp; omega)) (Lib.hid hu)
      · exact ArpPuts_k o m0 m1 m2 m3 m4 m5 s n0 n1 n2 n3 n4 n5 d a1 cap1 ys _ (by simp; omega) rfl w hz (Lib.hid (by simp; omega)) (Lib.hid (by simp; omega)) (Lib.hid hu)
end Go.Proofs.Ytiokofpmmlbncab
