/- The walk of the statement on which flow a message tells of. -/
import Derived.Test.YtkoamiefombilaaQuo5
import Derived.Test.YtkoamiefombilaaIcmp2
namespace Go.Proofs.Ytkoamiefombilaa
open Go.RowKit

set_option maxHeartbeats 8000000 in
set_option maxRecDepth 4000 in
theorem lives12_any (w : World) : Calls Try.prog 13 #[] w fun e w' => e = .returned (.bool true) ∧ Below w.heap.size w w' := by
  obtain ⟨tos, e0⟩ : ∃ a : UInt8, (a.toNat : Int) = 0 := ⟨0, rfl⟩
  obtain ⟨id, e1⟩ : ∃ a : UInt16, (a.toNat : Int) = 0 := ⟨0, rfl⟩
  obtain ⟨fo, e4⟩ : ∃ a : UInt16, (a.toNat : Int) = 0 := ⟨0, rfl⟩
  obtain ⟨ttl, e5⟩ : ∃ a : UInt8, (a.toNat : Int) = 0 := ⟨0, rfl⟩
  obtain ⟨pr, e6⟩ : ∃ a : UInt8, (a.toNat : Int) = 6 := ⟨6, rfl⟩
  obtain ⟨s, e7⟩ : ∃ a : UInt32, (a.toNat : Int) = 1 := ⟨1, rfl⟩
  obtain ⟨d, e8⟩ : ∃ a : UInt32, (a.toNat : Int) = 2 := ⟨2, rfl⟩
  obtain ⟨ty, t0⟩ : ∃ a : UInt8, (a.toNat : Int) = 3 := ⟨3, rfl⟩
  obtain ⟨co, t1⟩ : ∃ a : UInt8, (a.toNat : Int) = 1 := ⟨1, rfl⟩
  obtain ⟨re, t2⟩ : ∃ a : UInt32, (a.toNat : Int) = 0 := ⟨0, rfl⟩
  obtain ⟨ty8, t3⟩ : ∃ a : UInt8, (a.toNat : Int) = 8 := ⟨8, rfl⟩
  obtain ⟨h8, eh⟩ : ∃ a : UInt8, a.toNat = 69 := ⟨69, rfl⟩
  obtain ⟨os, ho⟩ : ∃ l : List UInt8, l.length = 0 := ⟨[], rfl⟩
  obtain ⟨xs, hxs⟩ : ∃ l : List UInt8, l = [0, 10, 0, 20] := ⟨_, rfl⟩
  have hx : xs.length = 4 := by rw [hxs]; rfl
  obtain ⟨N, hN⟩ : ∃ N, onesN (ih h8 tos (20 + os.length + xs.length) id (wdN false false fo) ttl pr 0 s d os) = N := ⟨_, rfl⟩
  have H2 : ∀ A2 c2 W (_ : Rd bv W W.heap.size A2 c2 xs), Hid (Calls Try.prog 15 #[.agg #[.int .u8 0, .int .u16 0, .bool false, .bool false, .int .u16 0, .int .u8 0, .int .u8 6, .int .u32 1, .int .u32 2, .slice none 0 0, .slice A2 4 c2]] W fun e w' => ∃ L A c, e = .returned (.tuple #[.slice A L.length c, .int .i64 0]) ∧ Hid (L = ih h8 tos (20 + os.length + xs.length) id (wdN false false fo) ttl pr (65535 - N) s d os ++ xs) ∧ Rd bv w' w'.heap.size A c L ∧ Below W.heap.size W w') := by
    intro A2 c2 W g
    have h := pput_ok tos id false false fo ttl pr s d none A2 0 c2 os xs W (by rw [List.eq_nil_of_length_eq_zero ho]; exact Rd.nil0 _ _ _) g (by omega) (by omega) (by omega) (by omega) h8 (by omega) N hN
    simp only [e0, e1, e4, e5, e6, e7, e8] at h
    rw [ho, hx] at h
    rw [ho, hx]
    exact h
  have H4 : ∀ L A c W (_ : L = ih h8 tos (20 + os.length + xs.length) id (wdN false false fo) ttl pr (65535 - N) s d os ++ xs) (_ : Rd bv W W.heap.size A c L), Hid (Calls Try.prog 17 #[.int .u8 3, .int .u8 1, .int .u32 0, .slice A L.length c] W fun e w' => ∃ P A1 c1, e = .returned (.agg #[.int .u8 3, .int .u8 1, .int .u32 0, .slice A1 P.length c1]) ∧ Hid (P = L.take 28) ∧ Rd bv w' w'.heap.size A1 c1 P ∧ Below W.heap.size W w') := by
    intro L A c W hL g
    have h := ifailed_any ty co re A c L W g (by rw [hL, List.length_append, ih_len]; omega)
    simp only [t0, t1, t2] at h
    exact h
  have H3 : ∀ L P A c W (_ : L = ih h8 tos (20 + os.length + xs.length) id (wdN false false fo) ttl pr (65535 - N) s d os ++ xs) (_ : P = L.take 28) (_ : Rd bv W W.heap.size A c P), Hid (Calls Try.prog 11 #[.agg #[.int .u8 3, .int .u8 1, .int .u32 0, .slice A P.length c]] W fun e w' => e = .returned (.tuple #[.agg #[.int .u32 1, .int .u32 2, .int .u16 10, .int .u16 20, .int .u8 6], .int .i64 0]) ∧ Below W.heap.size W w') := by
    intro L P A c W hL hP g
    have ho' := List.eq_nil_of_length_eq_zero ho
    subst ho'
    have h := qof_put ty co re (by simp; omega) h8 tos _ id false false fo ttl pr N s d xs P xs eh (by omega) hN (by rw [hP, hL]) (by rw [List.take_of_length_le (by omega)]) 1 2 10 20 6 0 (fun v0 v1 v2 v5 v9 A c W g => by
      have h := fof_ok6 v0 v1 v2 v5 v9 (fo.toNat : Int) (s.toNat : Int) (d.toNat : Int) A c xs (by simp; omega) W g (by omega)
      rw [e6]
      simp only [e7, e8] at h ⊢
      subst hxs
      exact h) A c W g
    simp only [t0, t1, t2] at h
    exact h
  have H5 : ∀ L A c W (_ : Rd bv W W.heap.size A c L), Hid (Calls Try.prog 11 #[.agg #[.int .u8 8, .int .u8 0, .int .u32 0, .slice A L.length c]] W fun e w' => e = .returned (.tuple #[.agg #[.int .u32 0, .int .u32 0, .int .u16 0, .int .u16 0, .int .u8 0], .int .i64 10]) ∧ Below W.heap.size W w') := by
    intro L A c W g
    have h := qof_state ty8 tos re A c L W g (by simp; omega)
    simp only [t3, e0, t2] at h
    exact h
  clear hN e0 e1 e4 e5 e6 e7 e8 t0 t1 t2 t3 eh ho hx
  go_enter Try.func13, Try.ntmps13
  go_wp2_with fail
  have hr7 : Rd bv (w.alloc (.cells #[.int .u8 0, .int .u8 10, .int .u8 0, .int .u8 20] 5)) (w.alloc (.cells #[.int .u8 0, .int .u8 10, .int .u8 0, .int .u8 20] 5)).heap.size (some ⟨w.heap.size, 0, none⟩) 4 xs := by
    rw [hxs]; exact lit_at w w.heap.size [0, 10, 0, 20] rfl #[.int .u8 0, .int .u8 10, .int .u8 0, .int .u8 20] rfl _ (by simp)
  refine (H2 _ _ _ hr7).out.mono ?_
  rintro e w1 ⟨L, A, c, rfl, HL, r, hbel⟩
  have hB := bnext (bnextA (Below.refl w.heap.size w) _) hbel
  clear hbel H2 hr7
  go_wp2_with fail
  refine (H4 L A c _ HL.out r).out.mono ?_
  rintro e w2 ⟨P, A2, c2, rfl, HP, r2, hbel⟩
  replace hB := bnext hB hbel
  replace r := r.next hbel
  clear hbel H4
  go_wp2_with fail
  refine (H3 L P A2 c2 _ HL.out HP.out r2).out.mono ?_
  rintro e w3 ⟨rfl, hbel⟩
  replace hB := bnext hB hbel
  replace r := r.next hbel
  clear hbel H3 r2
  go_wp2_with fail
  refine (H5 L A c _ (r.nextA _)).out.mono ?_
  rintro e w4 ⟨rfl, hbel⟩
  have hF := (Blk.new w3 #[.int .u32 1, .int .u32 2, .int .u16 10, .int .u16 20, .int .u8 6] 29).next hbel
  have hlt := hF.lt
  replace hB := bnext (bnextA hB _) hbel
  obtain ⟨p0, p1, p2, p3, p4, -⟩ := fl_cells hF
  clear hbel H5 r
  go_wp2_with fail
  go_ret
  exact ⟨rfl, bnextA hB _⟩


set_option maxRecDepth 4000 in
set_option maxHeartbeats 2000000 in
theorem QuoteOf_walk (x0 x1 x2 : Int) (a3 : Option Addr) (len3 cap3 : Nat) (z3 : List Int) (w : World) (w0 : (Lit.int .u8 x0).wf = true) (w1 : (Lit.int .u8 x1).wf = true) (w2 : (Lit.int .u32 x2).wf = true) (w3 : InRow .u8 w a3 len3 cap3 z3) :
    Calls Try.prog 3 #[.agg #[.int .u8 x0, .int .u8 x1, .int .u32 x2, .slice a3 len3 cap3]] w fun e w' => e = .returned (.bool true) ∧ Below w.heap.size w w' := by
  obtain ⟨ty, rfl⟩ := u8_of w0
  obtain ⟨co, rfl⟩ := u8_of w1
  obtain ⟨re, rfl⟩ := u32_of w2
  obtain ⟨xs, hxl, ha, hlc, hcc, hm⟩ := few_len w3 200
  have ha0 := ha
  clear w0 w1 w2 w3
  have HF := Lib.hid (fun W => ifew_any ty co re a3 len3 cap3 xs.length W hlc hcc hm)
  obtain ⟨f0, f1, f2, f3, f4, er, HO1, HO2⟩ := quote_both ty co re a3 cap3 xs (by omega)
  have HO1 := Lib.hid HO1
  have HO2 := Lib.hid HO2
  clear hlc hcc hm
  go_enter Try.func3, Try.ntmps3
  go_wp2_with fail
  refine (HF.out _).mono ?_
  rintro e w_1 ⟨rfl, hbel⟩
  have hB := bnext (bnextA (Below.refl w.heap.size w) _) hbel
  obtain ⟨p0, p1, p2, p3, q0, q1, q2, q3⟩ := blk4 rfl hbel
  have hlt : w.heap.size < w_1.heap.size := by have := hbel.size; simp at this; omega
  clear hbel HF ha
  go_wp2_with fail
  have hS := set4_cells p0 p1 p2 p3 (.int .u8 (ty.toNat : Int)) (.int .u8 (co.toNat : Int)) (.int .u32 (re.toNat : Int)) (.slice a3 xs.length cap3)
  have hBV := bset4 hB (Nat.le_refl _) (.int .u8 (ty.toNat : Int)) (.int .u8 (co.toNat : Int)) (.int .u32 (re.toNat : Int)) (.slice a3 xs.length cap3)
  have hsz : w.heap.size < ((((w_1.setCell ⟨w.heap.size, 0, none⟩ (.int .u8 (ty.toNat : Int))).setCell ⟨w.heap.size, 1, none⟩ (.int .u8 (co.toNat : Int))).setCell ⟨w.heap.size, 2, none⟩ (.int .u32 (re.toNat : Int))).setCell ⟨w.heap.size, 3, none⟩ (.slice a3 xs.length cap3)).heap.size := by simpa using hlt
  clear p0 p1 p2 p3 q0 q1 q2 q3 hlt hB
  generalize ((((w_1.setCell ⟨w.heap.size, 0, none⟩ (.int .u8 (ty.toNat : Int))).setCell ⟨w.heap.size, 1, none⟩ (.int .u8 (co.toNat : Int))).setCell ⟨w.heap.size, 2, none⟩ (.int .u32 (re.toNat : Int))).setCell ⟨w.heap.size, 3, none⟩ (.slice a3 xs.length cap3)) = V at hS hBV hsz ⊢
  have ha := ha0.next hBV
  have hB := hBV
  have HS := Lib.hid hS
  clear hS hBV ha0
  refine (HO1.out V ha).mono ?_
  rintro e w_2 ⟨rfl, hbel⟩
  replace hB := bnext hB hbel
  replace ha := ha.next hbel
  replace HS := Lib.hid (carry4 HS.out hsz hbel)
  replace hsz := Nat.lt_of_lt_of_le hsz hbel.size
  clear hbel HO1
  obtain ⟨p0, p1, p2, p3⟩ := HS.out
  go_wp2_with fail
  have hF := Blk.new w_2 #[.int .u32 f0, .int .u32 f1, .int .u16 f2, .int .u16 f3, .int .u8 f4] 29
  replace hB := bnextA hB (.cells #[.int .u32 f0, .int .u32 f1, .int .u16 f2, .int .u16 f3, .int .u8 f4] 29)
  replace ha := ha.nextA (.cells #[.int .u32 f0, .int .u32 f1, .int .u16 f2, .int .u16 f3, .int .u8 f4] 29)
  generalize w_2.heap.size = G at hF ⊢
  generalize w_2.alloc (.cells #[.int .u32 f0, .int .u32 f1, .int .u16 f2, .int .u16 f3, .int .u8 f4] 29) = V2 at hF hB ha ⊢
  clear p0 p1 p2 p3 HS hsz
  refine (HO2.out V2 ha).mono ?_
  rintro e w3 ⟨rfl, hbel⟩
  replace hB := bnext hB hbel
  replace hF := hF.next hbel
  clear hbel HO2 ha
  have hlt5 := hF.lt
  obtain ⟨g0, g1, g2, g3, g4, k0, k1, k2, k3, k4⟩ := fl_cells hF
  go_wp2_with fail
  refine (lives12_any _).mono ?_
  rintro e w6 ⟨rfl, hb⟩
  go_wp2_with fail
  go_ret
  exact ⟨rfl, bnext (bnextA hB _) hb⟩
end Go.Proofs.Ytkoamiefombilaa
