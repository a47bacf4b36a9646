/- The walk of the statement on ether.Put. -/
import Derived.Test.YtbilgpciphpieaaLaw04
namespace Go.Proofs.Ytbilgpciphpieaa
open Go.RowKit

theorem few_len4 {k : IntKind} {a : Option Addr} {len cap : Nat} {zs : List Int} {w : World} (h : InRow k w a len cap zs) (m : Nat) (hk : k = .u8 := by rfl) :
    ∃ bs : List UInt8, bs.length ≤ m ∧ Rd bv w w.heap.size a cap bs ∧ len ≤ cap ∧ cap ≤ 9223372036854775807 ∧ Hid (min len m = bs.length) := by
  subst hk
  obtain ⟨bs0, rfl, hb0⟩ := row_rd h
  exact ⟨bs0.take m, by simp; omega, hb0.take m, hb0.len, hb0.cap, by simp [Hid, Nat.min_comm]⟩
theorem carry14 {w w' : World} {g : Nat} {v0 v1 v2 v3 v4 v5 v6 v7 v8 v9 v10 v11 v12 v13 : Value} (h : w.cell? ⟨g, 0, none⟩ = some v0 ∧ w.cell? ⟨g, 1, none⟩ = some v1 ∧ w.cell? ⟨g, 2, none⟩ = some v2 ∧ w.cell? ⟨g, 3, none⟩ = some v3 ∧ w.cell? ⟨g, 4, none⟩ = some v4 ∧ w.cell? ⟨g, 5, none⟩ = some v5 ∧ w.cell? ⟨g, 6, none⟩ = some v6 ∧ w.cell? ⟨g, 7, none⟩ = some v7 ∧ w.cell? ⟨g, 8, none⟩ = some v8 ∧ w.cell? ⟨g, 9, none⟩ = some v9 ∧ w.cell? ⟨g, 10, none⟩ = some v10 ∧ w.cell? ⟨g, 11, none⟩ = some v11 ∧ w.cell? ⟨g, 12, none⟩ = some v12 ∧ w.cell? ⟨g, 13, none⟩ = some v13) (hg : g < w.heap.size) (hb : Below w.heap.size w w') :
    w'.cell? ⟨g, 0, none⟩ = some v0 ∧ w'.cell? ⟨g, 1, none⟩ = some v1 ∧ w'.cell? ⟨g, 2, none⟩ = some v2 ∧ w'.cell? ⟨g, 3, none⟩ = some v3 ∧ w'.cell? ⟨g, 4, none⟩ = some v4 ∧ w'.cell? ⟨g, 5, none⟩ = some v5 ∧ w'.cell? ⟨g, 6, none⟩ = some v6 ∧ w'.cell? ⟨g, 7, none⟩ = some v7 ∧ w'.cell? ⟨g, 8, none⟩ = some v8 ∧ w'.cell? ⟨g, 9, none⟩ = some v9 ∧ w'.cell? ⟨g, 10, none⟩ = some v10 ∧ w'.cell? ⟨g, 11, none⟩ = some v11 ∧ w'.cell? ⟨g, 12, none⟩ = some v12 ∧ w'.cell? ⟨g, 13, none⟩ = some v13 := by
  obtain ⟨h0, h1, h2, h3, h4, h5, h6, h7, h8, h9, h10, h11, h12, h13⟩ := h
  exact ⟨(hb.cell hg).trans h0, (hb.cell hg).trans h1, (hb.cell hg).trans h2, (hb.cell hg).trans h3, (hb.cell hg).trans h4, (hb.cell hg).trans h5, (hb.cell hg).trans h6, (hb.cell hg).trans h7, (hb.cell hg).trans h8, (hb.cell hg).trans h9, (hb.cell hg).trans h10, (hb.cell hg).trans h11, (hb.cell hg).trans h12, (hb.cell hg).trans h13⟩
theorem set14_cells {w : World} {g : Nat} {u0 u1 u2 u3 u4 u5 u6 u7 u8 u9 u10 u11 u12 u13 : Value} (c0 : w.cell? ⟨g, 0, none⟩ = some u0) ( c1 : w.cell? ⟨g, 1, none⟩ = some u1) ( c2 : w.cell? ⟨g, 2, none⟩ = some u2) ( c3 : w.cell? ⟨g, 3, none⟩ = some u3) ( c4 : w.cell? ⟨g, 4, none⟩ = some u4) ( c5 : w.cell? ⟨g, 5, none⟩ = some u5) ( c6 : w.cell? ⟨g, 6, none⟩ = some u6) ( c7 : w.cell? ⟨g, 7, none⟩ = some u7) ( c8 : w.cell? ⟨g, 8, none⟩ = some u8) ( c9 : w.cell? ⟨g, 9, none⟩ = some u9) ( c10 : w.cell? ⟨g, 10, none⟩ = some u10) ( c11 : w.cell? ⟨g, 11, none⟩ = some u11) ( c12 : w.cell? ⟨g, 12, none⟩ = some u12) ( c13 : w.cell? ⟨g, 13, none⟩ = some u13) (v0 v1 v2 v3 v4 v5 v6 v7 v8 v9 v10 v11 v12 v13 : Value) :
    ((((((((((((((w.setCell ⟨g, 0, none⟩ v0).setCell ⟨g, 1, none⟩ v1).setCell ⟨g, 2, none⟩ v2).setCell ⟨g, 3, none⟩ v3).setCell ⟨g, 4, none⟩ v4).setCell ⟨g, 5, none⟩ v5).setCell ⟨g, 6, none⟩ v6).setCell ⟨g, 7, none⟩ v7).setCell ⟨g, 8, none⟩ v8).setCell ⟨g, 9, none⟩ v9).setCell ⟨g, 10, none⟩ v10).setCell ⟨g, 11, none⟩ v11).setCell ⟨g, 12, none⟩ v12).setCell ⟨g, 13, none⟩ v13).cell? ⟨g, 0, none⟩ = some v0 ∧ ((((((((((((((w.setCell ⟨g, 0, none⟩ v0).setCell ⟨g, 1, none⟩ v1).setCell ⟨g, 2, none⟩ v2).setCell ⟨g, 3, none⟩ v3).setCell ⟨g, 4, none⟩ v4).setCell ⟨g, 5, none⟩ v5).setCell ⟨g, 6, none⟩ v6).setCell ⟨g, 7, none⟩ v7).setCell ⟨g, 8, none⟩ v8).setCell ⟨g, 9, none⟩ v9).setCell ⟨g, 10, none⟩ v10).setCell ⟨g, 11, none⟩ v11).setCell ⟨g, 12, none⟩ v12).setCell ⟨g, 13, none⟩ v13).cell? ⟨g, 1, none⟩ = some v1 ∧ ((((((((((((((w.setCell ⟨g, 0, none⟩ v0).setCell ⟨g, 1, none⟩ v1).setCell ⟨g, 2, none⟩ v2).setCell ⟨g, 3, none⟩ v3).setCell ⟨g, 4, none⟩ v4).setCell ⟨g, 5, none⟩ v5).setCell ⟨g, 6, none⟩ v6).setCell ⟨g, 7, none⟩ v7).setCell ⟨g, 8, none⟩ v8).setCell ⟨g, 9, none⟩ v9).setCell ⟨g, 10, none⟩ v10).setCell ⟨g, 11, none⟩ v11).setCell ⟨g, 12, none⟩ v12).setCell ⟨g, 13, none⟩ v13).cell? ⟨g, 2, none⟩ = some v2 ∧ ((((((((((((((w.setCell ⟨g, 0, none⟩ v0).setCell ⟨g, 1, none⟩ v1).setCell ⟨g, 2, none⟩ v2).setCell ⟨g, 3, none⟩ v3).setCell ⟨g, 4, none⟩ v4).setCell ⟨g, 5, none⟩ v5).setCell ⟨g, 6, none⟩ v6).setCell ⟨g, 7, none⟩ v7).setCell ⟨g, 8, none⟩ v8).setCell ⟨g, 9, none⟩ v9).setCell ⟨g, 10, none⟩ v10).setCell ⟨g, 11, none⟩ v11).setCell ⟨g, 12, none⟩ v12).setCell ⟨g, 13, none⟩ v13).cell? ⟨g, 3, none⟩ = some v3 ∧ ((((((((((((((w.setCell ⟨g, 0, none⟩ v0).setCell ⟨g, 1, none⟩ v1).setCell ⟨g, 2, none⟩ v2).setCell ⟨g, 3, none⟩ v3).setCell ⟨g, 4, none⟩ v4).setCell ⟨g, 5, none⟩ v5).setCell ⟨g, 6, none⟩ v6).setCell ⟨g, 7, none⟩ v7).setCell ⟨g, 8, none⟩ v8).setCell ⟨g, 9, none⟩ v9).setCell ⟨g, 10, none⟩ v10).setCell ⟨g, 11, none⟩ v11).setCell ⟨g, 12, none⟩ v12).setCell ⟨g, 13, none⟩ v13).cell? ⟨g, 4, none⟩ = some v4 ∧ ((((((((((((((w.setCell ⟨g, 0, none⟩ v0).setCell ⟨g, 1, none⟩ v1).setCell ⟨g, 2, none⟩ v2).setCell ⟨g, 3, none⟩ v3).setCell ⟨g, 4, none⟩ v4).setCell ⟨g, 5, none⟩ v5).setCell ⟨g, 6, none⟩ v6).setCell ⟨g, 7, none⟩ v7).setCell ⟨g, 8, none⟩ v8).setCell ⟨g, 9, none⟩ v9).setCell ⟨g, 10, none⟩ v10).setCell ⟨g, 11, none⟩ v11).setCell ⟨g, 12, none⟩ v12).setCell ⟨g, 13, none⟩ v13).cell? ⟨g, 5, none⟩ = some v5 ∧ ((((((((((((((w.setCell ⟨g, 0, none⟩ v0).setCell ⟨g, 1, none⟩ v1).setCell ⟨g, 2, none⟩ v2).setCell ⟨g, 3, none⟩ v3).setCell ⟨g, 4, none⟩ v4).setCell ⟨g, 5, none⟩ v5).setCell ⟨g, 6, none⟩ v6).setCell ⟨g, 7, none⟩ v7).setCell ⟨g, 8, none⟩ v8).setCell ⟨g, 9, none⟩ v9).setCell ⟨g, 10, none⟩ v10).setCell ⟨g, 11, none⟩ v11).setCell ⟨g, 12, none⟩ v12).setCell ⟨g, 13, none⟩ v13).cell? ⟨g, 6, none⟩ = some v6 ∧ ((((((((((((((w.setCell ⟨g, 0, none⟩ v0).setCell ⟨g, 1, none⟩ v1).setCell ⟨g, 2, none⟩ v2).setCell ⟨g, 3, none⟩ v3).setCell ⟨g, 4, none⟩ v4).setCell ⟨g, 5, none⟩ v5).setCell ⟨g, 6, none⟩ v6).setCell ⟨g, 7, none⟩ v7).setCell ⟨g, 8, none⟩ v8).setCell ⟨g, 9, none⟩ v9).setCell ⟨g, 10, none⟩ v10).setCell ⟨g, 11, none⟩ v11).setCell ⟨g, 12, none⟩ v12).setCell ⟨g, 13, none⟩ v13).cell? ⟨g, 7, none⟩ = some v7 ∧ ((((((((((((((w.setCell ⟨g, 0, none⟩ v0).setCell ⟨g, 1, none⟩ v1).setCell ⟨g, 2, none⟩ v2).setCell ⟨g, 3, none⟩ v3).setCell ⟨g, 4, none⟩ v4).setCell ⟨g, 5, none⟩ v5).setCell ⟨g, 6, none⟩ v6).setCell ⟨g, 7, none⟩ v7).setCell ⟨g, 8, none⟩ v8).setCell ⟨g, 9, none⟩ v9).setCell ⟨g, 10, none⟩ v10).setCell ⟨g, 11, none⟩ v11).setCell ⟨g, 12, none⟩ v12).setCell ⟨g, 13, none⟩ v13).cell? ⟨g, 8, none⟩ = some v8 ∧ ((((((((((((((w.setCell ⟨g, 0, none⟩ v0).setCell ⟨g, 1, none⟩ v1).setCell ⟨g, 2, none⟩ v2).setCell ⟨g, 3, none⟩ v3).setCell ⟨g, 4, none⟩ v4).setCell ⟨g, 5, none⟩ v5).setCell ⟨g, 6, none⟩ v6).setCell ⟨g, 7, none⟩ v7).setCell ⟨g, 8, none⟩ v8).setCell ⟨g, 9, none⟩ v9).setCell ⟨g, 10, none⟩ v10).setCell ⟨g, 11, none⟩ v11).setCell ⟨g, 12, none⟩ v12).setCell ⟨g, 13, none⟩ v13).cell? ⟨g, 9, none⟩ = some v9 ∧ ((((((((((((((w.setCell ⟨g, 0, none⟩ v0).setCell ⟨g, 1, none⟩ v1).setCell ⟨g, 2, none⟩ v2).setCell ⟨g, 3, none⟩ v3).setCell ⟨g, 4, none⟩ v4).setCell ⟨g, 5, none⟩ v5).setCell ⟨g, 6, none⟩ v6).setCell ⟨g, 7, none⟩ v7).setCell ⟨g, 8, none⟩ v8).setCell ⟨g, 9, none⟩ v9).setCell ⟨g, 10, none⟩ v10).setCell ⟨g, 11, none⟩ v11).setCell ⟨g, 12, none⟩ v12).setCell ⟨g, 13, none⟩ v13).cell? ⟨g, 10, none⟩ = some v10 ∧ ((((((((((((((w.setCell ⟨g, 0, none⟩ v0).setCell ⟨g, 1, none⟩ v1).setCell ⟨g, 2, none⟩ v2).setCell ⟨g, 3, none⟩ v3).setCell ⟨g, 4, none⟩ v4).setCell ⟨g, 5, none⟩ v5).setCell ⟨g, 6, none⟩ v6).setCell ⟨g, 7, none⟩ v7).setCell ⟨g, 8, none⟩ v8).setCell ⟨g, 9, none⟩ v9).setCell ⟨g, 10, none⟩ v10).setCell ⟨g, 11, none⟩ v11).setCell ⟨g, 12, none⟩ v12).setCell ⟨g, 13, none⟩ v13).cell? ⟨g, 11, none⟩ = some v11 ∧ ((((((((((((((w.setCell ⟨g, 0, none⟩ v0).setCell ⟨g, 1, none⟩ v1).setCell ⟨g, 2, none⟩ v2).setCell ⟨g, 3, none⟩ v3).setCell ⟨g, 4, none⟩ v4).setCell ⟨g, 5, none⟩ v5).setCell ⟨g, 6, none⟩ v6).setCell ⟨g, 7, none⟩ v7).setCell ⟨g, 8, none⟩ v8).setCell ⟨g, 9, none⟩ v9).setCell ⟨g, 10, none⟩ v10).setCell ⟨g, 11, none⟩ v11).setCell ⟨g, 12, none⟩ v12).setCell ⟨g, 13, none⟩ v13).cell? ⟨g, 12, none⟩ = some v12 ∧ ((((((((((((((w.setCell ⟨g, 0, none⟩ v0).setCell ⟨g, 1, none⟩ v1).setCell ⟨g, 2, none⟩ v2).setCell ⟨g, 3, none⟩ v3).setCell ⟨g, 4, none⟩ v4).setCell ⟨g, 5, none⟩ v5).setCell ⟨g, 6, none⟩ v6).setCell ⟨g, 7, none⟩ v7).setCell ⟨g, 8, none⟩ v8).setCell ⟨g, 9, none⟩ v9).setCell ⟨g, 10, none⟩ v10).setCell ⟨g, 11, none⟩ v11).setCell ⟨g, 12, none⟩ v12).setCell ⟨g, 13, none⟩ v13).cell? ⟨g, 13, none⟩ = some v13 := by
  simp [go_sem, *]
theorem bset14 {B : Nat} {w0 w : World} (hB : Below B w0 w) {g : Nat} (hg : B ≤ g) (v0 v1 v2 v3 v4 v5 v6 v7 v8 v9 v10 v11 v12 v13 : Value) : Below B w0 ((((((((((((((w.setCell ⟨g, 0, none⟩ v0).setCell ⟨g, 1, none⟩ v1).setCell ⟨g, 2, none⟩ v2).setCell ⟨g, 3, none⟩ v3).setCell ⟨g, 4, none⟩ v4).setCell ⟨g, 5, none⟩ v5).setCell ⟨g, 6, none⟩ v6).setCell ⟨g, 7, none⟩ v7).setCell ⟨g, 8, none⟩ v8).setCell ⟨g, 9, none⟩ v9).setCell ⟨g, 10, none⟩ v10).setCell ⟨g, 11, none⟩ v11).setCell ⟨g, 12, none⟩ v12).setCell ⟨g, 13, none⟩ v13) :=
  ((((((((((((((hB.setCell (p := ⟨_, 0, none⟩) hg _).setCell (p := ⟨_, 1, none⟩) hg _).setCell (p := ⟨_, 2, none⟩) hg _).setCell (p := ⟨_, 3, none⟩) hg _).setCell (p := ⟨_, 4, none⟩) hg _).setCell (p := ⟨_, 5, none⟩) hg _).setCell (p := ⟨_, 6, none⟩) hg _).setCell (p := ⟨_, 7, none⟩) hg _).setCell (p := ⟨_, 8, none⟩) hg _).setCell (p := ⟨_, 9, none⟩) hg _).setCell (p := ⟨_, 10, none⟩) hg _).setCell (p := ⟨_, 11, none⟩) hg _).setCell (p := ⟨_, 12, none⟩) hg _).setCell (p := ⟨_, 13, none⟩) hg _)

theorem beN_be16 (t : UInt16) : beN (be16 t) = t.toNat := by
  have := t.toNat_lt
  rw [be16, beN_two]
  simp
  omega
theorem put_facts {L xs : List UInt8} {t : UInt16} {x0 x1 x2 x3 x4 x5 x6 x7 x8 x9 x10 x11 : UInt8} (h : L = [x0, x1, x2, x3, x4, x5] ++ ([x6, x7, x8, x9, x10, x11] ++ (be16 t ++ xs))) :
    L.take 12 = [x0, x1, x2, x3, x4, x5, x6, x7, x8, x9, x10, x11] ∧ beN ((L.drop 12).take 2) = t.toNat ∧ L.drop 14 = xs ∧ L.length = 14 + xs.length := by
  subst h
  refine ⟨rfl, beN_be16 t, rfl, ?_⟩
  simp [be16]
  omega

set_option maxRecDepth 8000 in
set_option maxHeartbeats 2000000 in
theorem EtherPuts_walk (x0 x1 x2 x3 x4 x5 x6 x7 x8 x9 x10 x11 x12 : Int) (a13 : Option Addr) (len13 cap13 : Nat) (z13 : List Int) (w : World) (w0 : (Lit.int .u8 x0).wf = true) (w1 : (Lit.int .u8 x1).wf = true) (w2 : (Lit.int .u8 x2).wf = true) (w3 : (Lit.int .u8 x3).wf = true) (w4 : (Lit.int .u8 x4).wf = true) (w5 : (Lit.int .u8 x5).wf = true) (w6 : (Lit.int .u8 x6).wf = true) (w7 : (Lit.int .u8 x7).wf = true) (w8 : (Lit.int .u8 x8).wf = true) (w9 : (Lit.int .u8 x9).wf = true) (w10 : (Lit.int .u8 x10).wf = true) (w11 : (Lit.int .u8 x11).wf = true) (w12 : (Lit.int .u16 x12).wf = true) (w13 : InRow .u8 w a13 len13 cap13 z13) :
    Calls Try.prog 8 #[.agg #[.int .u8 x0, .int .u8 x1, .int .u8 x2, .int .u8 x3, .int .u8 x4, .int .u8 x5, .int .u8 x6, .int .u8 x7, .int .u8 x8, .int .u8 x9, .int .u8 x10, .int .u8 x11, .int .u16 x12, .slice a13 len13 cap13]] w fun e w' => e = .returned (.bool true) ∧ Below w.heap.size w w' := by
  obtain ⟨x0, rfl⟩ := u8_of w0
  obtain ⟨x1, rfl⟩ := u8_of w1
  obtain ⟨x2, rfl⟩ := u8_of w2
  obtain ⟨x3, rfl⟩ := u8_of w3
  obtain ⟨x4, rfl⟩ := u8_of w4
  obtain ⟨x5, rfl⟩ := u8_of w5
  obtain ⟨x6, rfl⟩ := u8_of w6
  obtain ⟨x7, rfl⟩ := u8_of w7
  obtain ⟨x8, rfl⟩ := u8_of w8
  obtain ⟨x9, rfl⟩ := u8_of w9
  obtain ⟨x10, rfl⟩ := u8_of w10
  obtain ⟨x11, rfl⟩ := u8_of w11
  obtain ⟨t, rfl⟩ := u16_of w12
  obtain ⟨xs, hxl, ha, hlc, hcc, hm⟩ := few_len4 w13 300
  have ha0 := ha
  clear w0 w1 w2 w3 w4 w5 w6 w7 w8 w9 w10 w11 w12 w13
  have HF := Lib.hid (fun W => efew_any x0 x1 x2 x3 x4 x5 x6 x7 x8 x9 x10 x11 t.toNat a13 len13 cap13 xs.length W hlc hcc hm)
  clear hlc hcc hm
  have HP := fun (W : World) (h : Rd bv W W.heap.size a13 cap13 xs) => Lib.hid (eput_any x0 x1 x2 x3 x4 x5 x6 x7 x8 x9 x10 x11 t a13 cap13 xs W h (by omega))
  have HR := fun (W : World) (h : Rd bv W W.heap.size a13 cap13 xs) => Lib.hid (rput_eth x0 x1 x2 x3 x4 x5 x6 x7 x8 x9 x10 x11 t a13 cap13 xs W h (by omega))
  by_cases h15 : t.toNat < 1536
  · have h15b : decide ((t.toNat : Int) < 1536) = true := by simp; omega
    go_enter Try.func8, Try.ntmps8
    go_wp2_with fail
    refine (HF.out _).mono ?_
    rintro e w_1 ⟨rfl, hbel⟩
    have hB := bnext (bnextA (Below.refl w.heap.size w) _) hbel
    replace ha := (ha.nextA _).next hbel
    have p0 := (blk rfl hbel 0).1
    have q0 := (blk rfl hbel 0).2
    have p1 := (blk rfl hbel 1).1
    have q1 := (blk rfl hbel 1).2
    have p2 := (blk rfl hbel 2).1
    have q2 := (blk rfl hbel 2).2
    have p3 := (blk rfl hbel 3).1
    have q3 := (blk rfl hbel 3).2
    have p4 := (blk rfl hbel 4).1
    have q4 := (blk rfl hbel 4).2
    have p5 := (blk rfl hbel 5).1
    have q5 := (blk rfl hbel 5).2
    have p6 := (blk rfl hbel 6).1
    have q6 := (blk rfl hbel 6).2
    have p7 := (blk rfl hbel 7).1
    have q7 := (blk rfl hbel 7).2
    have p8 := (blk rfl hbel 8).1
    have q8 := (blk rfl hbel 8).2
    have p9 := (blk rfl hbel 9).1
    have q9 := (blk rfl hbel 9).2
    have p10 := (blk rfl hbel 10).1
    have q10 := (blk rfl hbel 10).2
    have p11 := (blk rfl hbel 11).1
    have q11 := (blk rfl hbel 11).2
    have p12 := (blk rfl hbel 12).1
    have q12 := (blk rfl hbel 12).2
    have p13 := (blk rfl hbel 13).1
    have q13 := (blk rfl hbel 13).2
    simp at p0 p1 p2 p3 p4 p5 p6 p7 p8 p9 p10 p11 p12 p13
    have hlt : w.heap.size < w_1.heap.size := by have := hbel.size; simp at this; omega
    clear hbel
    go_wp2_with fail
    have hS := set14_cells p0 p1 p2 p3 p4 p5 p6 p7 p8 p9 p10 p11 p12 p13 (.int .u8 (x0.toNat : Int)) (.int .u8 (x1.toNat : Int)) (.int .u8 (x2.toNat : Int)) (.int .u8 (x3.toNat : Int)) (.int .u8 (x4.toNat : Int)) (.int .u8 (x5.toNat : Int)) (.int .u8 (x6.toNat : Int)) (.int .u8 (x7.toNat : Int)) (.int .u8 (x8.toNat : Int)) (.int .u8 (x9.toNat : Int)) (.int .u8 (x10.toNat : Int)) (.int .u8 (x11.toNat : Int)) (.int .u16 (t.toNat : Int)) (.slice a13 xs.length cap13)
    have hBV := bset14 hB (Nat.le_refl _) (.int .u8 (x0.toNat : Int)) (.int .u8 (x1.toNat : Int)) (.int .u8 (x2.toNat : Int)) (.int .u8 (x3.toNat : Int)) (.int .u8 (x4.toNat : Int)) (.int .u8 (x5.toNat : Int)) (.int .u8 (x6.toNat : Int)) (.int .u8 (x7.toNat : Int)) (.int .u8 (x8.toNat : Int)) (.int .u8 (x9.toNat : Int)) (.int .u8 (x10.toNat : Int)) (.int .u8 (x11.toNat : Int)) (.int .u16 (t.toNat : Int)) (.slice a13 xs.length cap13)
    have hsz : w.heap.size < ((((((((((((((w_1.setCell ⟨w.heap.size, 0, none⟩ (.int .u8 (x0.toNat : Int))).setCell ⟨w.heap.size, 1, none⟩ (.int .u8 (x1.toNat : Int))).setCell ⟨w.heap.size, 2, none⟩ (.int .u8 (x2.toNat : Int))).setCell ⟨w.heap.size, 3, none⟩ (.int .u8 (x3.toNat : Int))).setCell ⟨w.heap.size, 4, none⟩ (.int .u8 (x4.toNat : Int))).setCell ⟨w.heap.size, 5, none⟩ (.int .u8 (x5.toNat : Int))).setCell ⟨w.heap.size, 6, none⟩ (.int .u8 (x6.toNat : Int))).setCell ⟨w.heap.size, 7, none⟩ (.int .u8 (x7.toNat : Int))).setCell ⟨w.heap.size, 8, none⟩ (.int .u8 (x8.toNat : Int))).setCell ⟨w.heap.size, 9, none⟩ (.int .u8 (x9.toNat : Int))).setCell ⟨w.heap.size, 10, none⟩ (.int .u8 (x10.toNat : Int))).setCell ⟨w.heap.size, 11, none⟩ (.int .u8 (x11.toNat : Int))).setCell ⟨w.heap.size, 12, none⟩ (.int .u16 (t.toNat : Int))).setCell ⟨w.heap.size, 13, none⟩ (.slice a13 xs.length cap13)).heap.size := by simpa using hlt
    clear p0 p1 p2 p3 p4 p5 p6 p7 p8 p9 p10 p11 p12 p13 q0 q1 q2 q3 q4 q5 q6 q7 q8 q9 q10 q11 q12 q13 hlt ha hB
    generalize ((((((((((((((w_1.setCell ⟨w.heap.size, 0, none⟩ (.int .u8 (x0.toNat : Int))).setCell ⟨w.heap.size, 1, none⟩ (.int .u8 (x1.toNat : Int))).setCell ⟨w.heap.size, 2, none⟩ (.int .u8 (x2.toNat : Int))).setCell ⟨w.heap.size, 3, none⟩ (.int .u8 (x3.toNat : Int))).setCell ⟨w.heap.size, 4, none⟩ (.int .u8 (x4.toNat : Int))).setCell ⟨w.heap.size, 5, none⟩ (.int .u8 (x5.toNat : Int))).setCell ⟨w.heap.size, 6, none⟩ (.int .u8 (x6.toNat : Int))).setCell ⟨w.heap.size, 7, none⟩ (.int .u8 (x7.toNat : Int))).setCell ⟨w.heap.size, 8, none⟩ (.int .u8 (x8.toNat : Int))).setCell ⟨w.heap.size, 9, none⟩ (.int .u8 (x9.toNat : Int))).setCell ⟨w.heap.size, 10, none⟩ (.int .u8 (x10.toNat : Int))).setCell ⟨w.heap.size, 11, none⟩ (.int .u8 (x11.toNat : Int))).setCell ⟨w.heap.size, 12, none⟩ (.int .u16 (t.toNat : Int))).setCell ⟨w.heap.size, 13, none⟩ (.slice a13 xs.length cap13)) = V at hS hBV hsz ⊢
    have ha := ha0.next hBV
    have hB := hBV
    have HS := Lib.hid hS
    clear hS hBV ha0
    refine (HP V ha).out.mono ?_
    rintro e w_2 ⟨L2, A2, c2, rfl, HL2, r2, hbel⟩
    replace hB := bnext hB hbel
    replace ha := ha.next hbel
    replace HS := Lib.hid (carry14 HS.out hsz hbel)
    replace hsz := Nat.lt_of_lt_of_le hsz hbel.size
    clear hbel
    obtain ⟨s0, s1, s2, s3, s4, s5, s6, s7, s8, s9, s10, s11, s12, s13⟩ := HS.out
    go_wp2_with fail
    refine (HR _ ha).out.mono ?_
    rintro e w_3 ⟨L3, A3, c3, rfl, HL3, r3, hbel⟩
    replace hB := bnext hB hbel
    replace ha := ha.next hbel
    replace r2 := r2.next hbel
    replace HS := Lib.hid (carry14 HS.out hsz hbel)
    replace hsz := Nat.lt_of_lt_of_le hsz hbel.size
    clear hbel s0 s1 s2 s3 s4 s5 s6 s7 s8 s9 s10 s11 s12 s13
    go_wp2_with fail
    refine (rsame_eq _ _ _ _ L2 L3 _ _ r2 r3 (by rw [HL2.out, HL3.out]; rfl)).mono ?_
    rintro e w_4 ⟨rfl, hbel⟩
    replace hbel := hbel.bel
    replace hB := bnext hB hbel
    replace ha := ha.next hbel
    replace r2 := r2.next hbel
    replace HS := Lib.hid (carry14 HS.out hsz hbel)
    replace hsz := Nat.lt_of_lt_of_le hsz hbel.size
    clear hbel r3
    go_wp2_with fail
    obtain ⟨g12, gT, -, gL⟩ := put_facts HL2.out
    refine (eparse_form _ _ L2 _ r2 (by omega) (by omega) t.toNat gT h15 x0 x1 x2 x3 x4 x5 x6 x7 x8 x9 x10 x11 g12).mono ?_
    rintro e w_5 ⟨rfl, hbel⟩
    replace hB := bnext hB hbel
    replace HS := Lib.hid (carry14 HS.out hsz hbel)
    replace hsz := Nat.lt_of_lt_of_le hsz hbel.size
    clear hbel r2 ha g12 gT gL
    obtain ⟨s0, s1, s2, s3, s4, s5, s6, s7, s8, s9, s10, s11, s12, s13⟩ := HS.out
    go_wp2_with fail
    refine (esame_zero _).mono ?_
    rintro e w_6 ⟨rfl, hbel⟩
    first | replace hB := bnext (bnextA hB _) hbel | replace hB := bnext (bnextA (bnextA hB _) _) hbel | replace hB := bnext hB hbel
    clear hbel s0 s1 s2 s3 s4 s5 s6 s7 s8 s9 s10 s11 s12 s13
    go_wp2_with fail
    go_wp2_with (go_at_call 32; refine (lives04_any _).mono ?_; rintro e wl ⟨rfl, hbel⟩)
    go_ret
    exact ⟨rfl, bnext hB hbel⟩
  · have h15b : decide ((t.toNat : Int) < 1536) = false := by simp; omega
    go_enter Try.func8, Try.ntmps8
    go_wp2_with fail
    refine (HF.out _).mono ?_
    rintro e w_1 ⟨rfl, hbel⟩
    have hB := bnext (bnextA (Below.refl w.heap.size w) _) hbel
    replace ha := (ha.nextA _).next hbel
    have p0 := (blk rfl hbel 0).1
    have q0 := (blk rfl hbel 0).2
    have p1 := (blk rfl hbel 1).1
    have q1 := (blk rfl hbel 1).2
    have p2 := (blk rfl hbel 2).1
    have q2 := (blk rfl hbel 2).2
    have p3 := (blk rfl hbel 3).1
    have q3 := (blk rfl hbel 3).2
    have p4 := (blk rfl hbel 4).1
    have q4 := (blk rfl hbel 4).2
    have p5 := (blk rfl hbel 5).1
    have q5 := (blk rfl hbel 5).2
    have p6 := (blk rfl hbel 6).1
    have q6 := (blk rfl hbel 6).2
    have p7 := (blk rfl hbel 7).1
    have q7 := (blk rfl hbel 7).2
    have p8 := (blk rfl hbel 8).1
    have q8 := (blk rfl hbel 8).2
    have p9 := (blk rfl hbel 9).1
    have q9 := (blk rfl hbel 9).2
    have p10 := (blk rfl hbel 10).1
    have q10 := (blk rfl hbel 10).2
    have p11 := (blk rfl hbel 11).1
    have q11 := (blk rfl hbel 11).2
    have p12 := (blk rfl hbel 12).1
    have q12 := (blk rfl hbel 12).2
    have p13 := (blk rfl hbel 13).1
    have q13 := (blk rfl hbel 13).2
    simp at p0 p1 p2 p3 p4 p5 p6 p7 p8 p9 p10 p11 p12 p13
    have hlt : w.heap.size < w_1.heap.size := by have := hbel.size; simp at this; omega
    clear hbel
    go_wp2_with fail
    have hS := set14_cells p0 p1 p2 p3 p4 p5 p6 p7 p8 p9 p10 p11 p12 p13 (.int .u8 (x0.toNat : Int)) (.int .u8 (x1.toNat : Int)) (.int .u8 (x2.toNat : Int)) (.int .u8 (x3.toNat : Int)) (.int .u8 (x4.toNat : Int)) (.int .u8 (x5.toNat : Int)) (.int .u8 (x6.toNat : Int)) (.int .u8 (x7.toNat : Int)) (.int .u8 (x8.toNat : Int)) (.int .u8 (x9.toNat : Int)) (.int .u8 (x10.toNat : Int)) (.int .u8 (x11.toNat : Int)) (.int .u16 (t.toNat : Int)) (.slice a13 xs.length cap13)
    have hBV := bset14 hB (Nat.le_refl _) (.int .u8 (x0.toNat : Int)) (.int .u8 (x1.toNat : Int)) (.int .u8 (x2.toNat : Int)) (.int .u8 (x3.toNat : Int)) (.int .u8 (x4.toNat : Int)) (.int .u8 (x5.toNat : Int)) (.int .u8 (x6.toNat : Int)) (.int .u8 (x7.toNat : Int)) (.int .u8 (x8.toNat : Int)) (.int .u8 (x9.toNat : Int)) (.int .u8 (x10.toNat : Int)) (.int .u8 (x11.toNat : Int)) (.int .u16 (t.toNat : Int)) (.slice a13 xs.length cap13)
    have hsz : w.heap.size < ((((((((((((((w_1.setCell ⟨w.heap.size, 0, none⟩ (.int .u8 (x0.toNat : Int))).setCell ⟨w.heap.size, 1, none⟩ (.int .u8 (x1.toNat : Int))).setCell ⟨w.heap.size, 2, none⟩ (.int .u8 (x2.toNat : Int))).setCell ⟨w.heap.size, 3, none⟩ (.int .u8 (x3.toNat : Int))).setCell ⟨w.heap.size, 4, none⟩ (.int .u8 (x4.toNat : Int))).setCell ⟨w.heap.size, 5, none⟩ (.int .u8 (x5.toNat : Int))).setCell ⟨w.heap.size, 6, none⟩ (.int .u8 (x6.toNat : Int))).setCell ⟨w.heap.size, 7, none⟩ (.int .u8 (x7.toNat : Int))).setCell ⟨w.heap.size, 8, none⟩ (.int .u8 (x8.toNat : Int))).setCell ⟨w.heap.size, 9, none⟩ (.int .u8 (x9.toNat : Int))).setCell ⟨w.heap.size, 10, none⟩ (.int .u8 (x10.toNat : Int))).setCell ⟨w.heap.size, 11, none⟩ (.int .u8 (x11.toNat : Int))).setCell ⟨w.heap.size, 12, none⟩ (.int .u16 (t.toNat : Int))).setCell ⟨w.heap.size, 13, none⟩ (.slice a13 xs.length cap13)).heap.size := by simpa using hlt
    clear p0 p1 p2 p3 p4 p5 p6 p7 p8 p9 p10 p11 p12 p13 q0 q1 q2 q3 q4 q5 q6 q7 q8 q9 q10 q11 q12 q13 hlt ha hB
    generalize ((((((((((((((w_1.setCell ⟨w.heap.size, 0, none⟩ (.int .u8 (x0.toNat : Int))).setCell ⟨w.heap.size, 1, none⟩ (.int .u8 (x1.toNat : Int))).setCell ⟨w.heap.size, 2, none⟩ (.int .u8 (x2.toNat : Int))).setCell ⟨w.heap.size, 3, none⟩ (.int .u8 (x3.toNat : Int))).setCell ⟨w.heap.size, 4, none⟩ (.int .u8 (x4.toNat : Int))).setCell ⟨w.heap.size, 5, none⟩ (.int .u8 (x5.toNat : Int))).setCell ⟨w.heap.size, 6, none⟩ (.int .u8 (x6.toNat : Int))).setCell ⟨w.heap.size, 7, none⟩ (.int .u8 (x7.toNat : Int))).setCell ⟨w.heap.size, 8, none⟩ (.int .u8 (x8.toNat : Int))).setCell ⟨w.heap.size, 9, none⟩ (.int .u8 (x9.toNat : Int))).setCell ⟨w.heap.size, 10, none⟩ (.int .u8 (x10.toNat : Int))).setCell ⟨w.heap.size, 11, none⟩ (.int .u8 (x11.toNat : Int))).setCell ⟨w.heap.size, 12, none⟩ (.int .u16 (t.toNat : Int))).setCell ⟨w.heap.size, 13, none⟩ (.slice a13 xs.length cap13)) = V at hS hBV hsz ⊢
    have ha := ha0.next hBV
    have hB := hBV
    have HS := Lib.hid hS
    clear hS hBV ha0
    refine (HP V ha).out.mono ?_
    rintro e w_2 ⟨L2, A2, c2, rfl, HL2, r2, hbel⟩
    replace hB := bnext hB hbel
    replace ha := ha.next hbel
    replace HS := Lib.hid (carry14 HS.out hsz hbel)
    replace hsz := Nat.lt_of_lt_of_le hsz hbel.size
    clear hbel
    obtain ⟨s0, s1, s2, s3, s4, s5, s6, s7, s8, s9, s10, s11, s12, s13⟩ := HS.out
    go_wp2_with fail
    refine (HR _ ha).out.mono ?_
    rintro e w_3 ⟨L3, A3, c3, rfl, HL3, r3, hbel⟩
    replace hB := bnext hB hbel
    replace ha := ha.next hbel
    replace r2 := r2.next hbel
    replace HS := Lib.hid (carry14 HS.out hsz hbel)
    replace hsz := Nat.lt_of_lt_of_le hsz hbel.size
    clear hbel s0 s1 s2 s3 s4 s5 s6 s7 s8 s9 s10 s11 s12 s13
    go_wp2_with fail
    refine (rsame_eq _ _ _ _ L2 L3 _ _ r2 r3 (by rw [HL2.out, HL3.out]; rfl)).mono ?_
    rintro e w_4 ⟨rfl, hbel⟩
    replace hbel := hbel.bel
    replace hB := bnext hB hbel
    replace ha := ha.next hbel
    replace r2 := r2.next hbel
    replace HS := Lib.hid (carry14 HS.out hsz hbel)
    replace hsz := Nat.lt_of_lt_of_le hsz hbel.size
    clear hbel r3
    go_wp2_with fail
    obtain ⟨g12, gT, g14, gL⟩ := put_facts HL2.out
    refine (eparse_ok _ _ L2 _ r2 (by omega) (by omega) t.toNat gT (by omega) x0 x1 x2 x3 x4 x5 x6 x7 x8 x9 x10 x11 g12).mono ?_
    rintro e w_5 ⟨L5, A5, c5, rfl, HL5, r5, hbel⟩
    have hE := Lib.hid (HL5.out.trans g14)
    replace hB := bnext hB hbel
    replace ha := ha.next hbel
    replace HS := Lib.hid (carry14 HS.out hsz hbel)
    replace hsz := Nat.lt_of_lt_of_le hsz hbel.size
    clear hbel r2 g12 gT gL g14
    obtain ⟨s0, s1, s2, s3, s4, s5, s6, s7, s8, s9, s10, s11, s12, s13⟩ := HS.out
    go_wp2_with fail
    refine (esame_eq x0 x1 x2 x3 x4 x5 x6 x7 x8 x9 x10 x11 t.toNat _ _ _ _ L5 xs _ (r5.nextA _) (ha.nextA _) hE.out).mono ?_
    rintro e w_6 ⟨rfl, hbel⟩
    first | replace hB := bnext (bnextA hB _) hbel | replace hB := bnext (bnextA (bnextA hB _) _) hbel | replace hB := bnext hB hbel
    clear hbel s0 s1 s2 s3 s4 s5 s6 s7 s8 s9 s10 s11 s12 s13
    go_wp2_with fail
    go_wp2_with (go_at_call 32; refine (lives04_any _).mono ?_; rintro e wl ⟨rfl, hbel⟩)
    go_ret
    exact ⟨rfl, bnext hB hbel⟩
end Go.Proofs.Ytbilgpciphpieaa
