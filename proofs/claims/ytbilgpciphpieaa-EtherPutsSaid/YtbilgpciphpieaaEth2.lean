/- Contracts of the reference's answers for package ether: Mac and Put. -/
import Derived.Test.YtbilgpciphpieaaEth1
import Derived.Test.YtbilgpciphpieaaInv
namespace Go.Proofs.Ytbilgpciphpieaa
open Go.RowKit

theorem rmac_any (m0 m1 m2 m3 m4 m5 : UInt8) (w : World) :
    Calls Try.prog 44 #[.agg #[.int .u8 (m0.toNat : Int), .int .u8 (m1.toNat : Int), .int .u8 (m2.toNat : Int), .int .u8 (m3.toNat : Int), .int .u8 (m4.toNat : Int), .int .u8 (m5.toNat : Int)]] w fun e w' => ∃ L A c, e = .returned (.slice A L.length c) ∧ Hid (L = [m0, m1, m2, m3, m4, m5]) ∧ Rd bv w' w'.heap.size A c L ∧ Below w.heap.size w w' := by
  obtain ⟨i0, hi0, hz0, hz1, hz2⟩ := info_parts info_u8
  obtain ⟨W1, hW1⟩ : ∃ W1, W1 = w.alloc (.cells #[.int .u8 (m0.toNat : Int), .int .u8 (m1.toNat : Int), .int .u8 (m2.toNat : Int), .int .u8 (m3.toNat : Int), .int .u8 (m4.toNat : Int), .int .u8 (m5.toNat : Int)] 47) := ⟨_, rfl⟩
  have hB1 : Below w.heap.size w W1 := by subst hW1; exact bnextA (Below.refl _ _) _
  have hcell : ∀ j (hj : j < 6), W1.cell? ⟨w.heap.size, j, none⟩ = some (bv ([m0, m1, m2, m3, m4, m5][j])) := by
    subst hW1
    intro j hj
    match j, hj with | 0, _ | 1, _ | 2, _ | 3, _ | 4, _ | 5, _ => simp [bv]
  have hlt : w.heap.size < W1.heap.size := by subst hW1; simp
  have HSZ := Lib.hid (show W1.heap.size = w.heap.size + 1 by subst hW1; simp)
  have hml : ([m0, m1, m2, m3, m4, m5] : List UInt8).length = 6 := rfl
  obtain ⟨ms, hms⟩ : ∃ ms, [m0, m1, m2, m3, m4, m5] = ms := ⟨_, rfl⟩
  rw [hms] at hml ⊢
  replace hcell : ∀ j (hj : j < ms.length), W1.cell? ⟨w.heap.size, j, none⟩ = some (.int .u8 (ms[j].toNat : Int)) := by
    subst hms; exact hcell
  clear hms
  have HML := Lib.hid hml
  have hown0 : Own bv (W1.alloc (.cells #[] 5)) W1.heap.size 5 (.slice (some ⟨W1.heap.size, 0, none⟩) 0 0) [] := World.ownsRow_lit W1 #[] 0 (Nat.le_refl _) (by unfold maxLen; omega) rfl
  have hb0 : Below W1.heap.size W1 (W1.alloc (.cells #[] 5)) := (Below.refl _ _).alloc (Nat.le_refl _) _
  have HO0 := Lib.hid hown0
  clear hown0
  go_enter Try.func44, Try.ntmps44
  go_wp2_with fail
  rw [← hW1]
  clear hW1
  go_loopw [3, 4] (fun v i wr => ∃ j : Nat, j ≤ 6 ∧ i = .int .i64 j ∧ Hid (Own bv wr W1.heap.size 5 v (ms.take j)) ∧ Below W1.heap.size W1 wr) (fun _ i _ => 6 - (intOf i).toNat)
  case atStart => exact ⟨0, by omega, rfl, by rw [← HSZ.out]; exact HO0, hb0⟩
  case round =>
    obtain ⟨j, hj, rfl, HO2, hbw⟩ := hrel
    by_cases hlt6 : j < 6
    · have c0 := (hbw.cell (p := ⟨w.heap.size, j, none⟩) hlt).trans (hcell j (by omega))
      have HT := Lib.hid (take_one ms j (by omega))
      have hlen : (ms.take j).length + 1 ≤ 10 := by simp; omega
      have hszw := hbw.size
      clear hcell HO0
      generalize ms[j] = x at c0 HT
      go_wp2_with (at_builtin; go_loud (refine wpList_append_rd rfl (.tmp 10) (.tmp 14) _ rfl bv W1.heap.size 5 i0 _ 1 Try.underlying22 hi0 hz0 hz1 hz2 rfl bv_one _ _ rfl (HO2.out.alloc _) (wr.heap.size + 1) (some ⟨wr.heap.size, 0, none⟩) 1 [x] rfl (rd_lit wr _ _ [x] rfl (by simp)) (by simp only [List.length_cons, List.length_nil]; omega) (by simp only [List.length_cons, List.length_nil]; omega) (by simp; omega) W1 (hbw.alloc hszw _) ?_); intro v2 w2 hown2 hb2 hnn)
      go_roundw
      case rel => exact ⟨j + 1, by omega, by go_num, by rw [HT.out]; exact hown2, hb2⟩
      case measure => simp [intOf]; omega
    · have : j = 6 := by omega
      subst this
      have hO := HO2.out
      rw [List.take_of_length_le (by omega)] at hO
      obtain ⟨L, A, c, HL, rfl, hr⟩ := hO.rdv
      clear HO2 hO
      go_wp2
      go_ret
      exact ⟨L, A, c, rfl, HL, hr, bnext hB1 hbw⟩

set_option maxHeartbeats 1000000 in
theorem rput_eth (d0 d1 d2 d3 d4 d5 s0 s1 s2 s3 s4 s5 : UInt8) (t : UInt16) (A : Option Addr) (c : Nat) (data : List UInt8) (w : World) (hr : Rd bv w w.heap.size A c data) (hl : data.length ≤ 1000000) :
    Calls Try.prog 34 #[.agg #[.int .u8 (d0.toNat : Int), .int .u8 (d1.toNat : Int), .int .u8 (d2.toNat : Int), .int .u8 (d3.toNat : Int), .int .u8 (d4.toNat : Int), .int .u8 (d5.toNat : Int), .int .u8 (s0.toNat : Int), .int .u8 (s1.toNat : Int), .int .u8 (s2.toNat : Int), .int .u8 (s3.toNat : Int), .int .u8 (s4.toNat : Int), .int .u8 (s5.toNat : Int), .int .u16 (t.toNat : Int), .slice A data.length c]] w fun e w' => ∃ L A' c', e = .returned (.slice A' L.length c') ∧ Hid (L = ([d0, d1, d2, d3, d4, d5] ++ [s0, s1, s2, s3, s4, s5]) ++ (be16 t ++ data)) ∧ Rd bv w' w'.heap.size A' c' L ∧ Below w.heap.size w w' := by
  obtain ⟨V, hV⟩ : ∃ V, V = w.alloc (.cells #[.int .u8 (d0.toNat : Int), .int .u8 (d1.toNat : Int), .int .u8 (d2.toNat : Int), .int .u8 (d3.toNat : Int), .int .u8 (d4.toNat : Int), .int .u8 (d5.toNat : Int), .int .u8 (s0.toNat : Int), .int .u8 (s1.toNat : Int), .int .u8 (s2.toNat : Int), .int .u8 (s3.toNat : Int), .int .u8 (s4.toNat : Int), .int .u8 (s5.toNat : Int), .int .u16 (t.toNat : Int), .slice A data.length c] 49) := ⟨_, rfl⟩
  have hB : Below w.heap.size w V := by subst hV; exact bnextA (Below.refl _ _) _
  have hdat : Rd bv V V.heap.size A c data := by subst hV; exact hr.nextA _
  have hcell : ∀ W, Below V.heap.size V W → ∀ j, W.cell? ⟨w.heap.size, j, none⟩ = (#[.int .u8 (d0.toNat : Int), .int .u8 (d1.toNat : Int), .int .u8 (d2.toNat : Int), .int .u8 (d3.toNat : Int), .int .u8 (d4.toNat : Int), .int .u8 (d5.toNat : Int), .int .u8 (s0.toNat : Int), .int .u8 (s1.toNat : Int), .int .u8 (s2.toNat : Int), .int .u8 (s3.toNat : Int), .int .u8 (s4.toNat : Int), .int .u8 (s5.toNat : Int), .int .u16 (t.toNat : Int), .slice A data.length c] : Array Value)[j]? := by
    intro W h j
    subst hV
    exact (blk rfl h j).1
  go_enter Try.func34, Try.ntmps34
  go_wp2_with fail
  rw [← hV]
  clear hV hr
  refine region_inv (by kernel_rfl) (by kernel_rfl) (by kernel_rfl) (fun u => { tmps := #[.agg #[.int .u8 (d0.toNat : Int), .int .u8 (d1.toNat : Int), .int .u8 (d2.toNat : Int), .int .u8 (d3.toNat : Int), .int .u8 (d4.toNat : Int), .int .u8 (d5.toNat : Int), .int .u8 (s0.toNat : Int), .int .u8 (s1.toNat : Int), .int .u8 (s2.toNat : Int), .int .u8 (s3.toNat : Int), .int .u8 (s4.toNat : Int), .int .u8 (s5.toNat : Int), .int .u16 (t.toNat : Int), .slice A data.length c], .pointer (some ⟨w.heap.size, 0, none⟩), u 15, u 0, u 1, u 2, u 3, u 4, u 5, u 6, u 7, u 8, u 9, u 10, u 11, u 12, u 13, u 14], defers := [] }) (fun i => if i = 15 then .slice none 0 0 else undef) V (fun i v W => match i with
      | 0 => v = .pointer (some ⟨w.heap.size, 0, none⟩)
      | 1 => v = .agg #[.int .u8 (d0.toNat : Int), .int .u8 (d1.toNat : Int), .int .u8 (d2.toNat : Int), .int .u8 (d3.toNat : Int), .int .u8 (d4.toNat : Int), .int .u8 (d5.toNat : Int)]
      | 2 => ∃ L A c, v = .slice A L.length c ∧ Hid (L = [d0, d1, d2, d3, d4, d5]) ∧ Rd bv W W.heap.size A c L
      | 3 => v = .pointer (some ⟨w.heap.size, 6, none⟩)
      | 4 => v = .agg #[.int .u8 (s0.toNat : Int), .int .u8 (s1.toNat : Int), .int .u8 (s2.toNat : Int), .int .u8 (s3.toNat : Int), .int .u8 (s4.toNat : Int), .int .u8 (s5.toNat : Int)]
      | 5 => ∃ L A c, v = .slice A L.length c ∧ Hid (L = [s0, s1, s2, s3, s4, s5]) ∧ Rd bv W W.heap.size A c L
      | 6 => ∃ L A c, v = .slice A L.length c ∧ Hid (L = [d0, d1, d2, d3, d4, d5] ++ [s0, s1, s2, s3, s4, s5]) ∧ Rd bv W W.heap.size A c L
      | 7 => v = .pointer (some ⟨w.heap.size, 12, none⟩)
      | 8 => v = .int .u16 (t.toNat : Int)
      | 9 => v = .int .u32 (t.toNat : Int)
      | 10 => ∃ L A c, v = .slice A L.length c ∧ Hid (L = be16 t) ∧ Rd bv W W.heap.size A c L
      | 11 => v = .pointer (some ⟨w.heap.size, 13, none⟩)
      | 12 => v = .slice A data.length c
      | 13 => ∃ L A c, v = .slice A L.length c ∧ Hid (L = be16 t ++ data) ∧ Rd bv W W.heap.size A c L
      | 14 => ∃ L A c, v = .slice A L.length c ∧ Hid (L = ([d0, d1, d2, d3, d4, d5] ++ [s0, s1, s2, s3, s4, s5]) ++ (be16 t ++ data)) ∧ Rd bv W W.heap.size A c L
      | 15 => ∃ L A c, v = .slice A L.length c ∧ Hid (L = ([d0, d1, d2, d3, d4, d5] ++ [s0, s1, s2, s3, s4, s5]) ++ (be16 t ++ data)) ∧ Rd bv W W.heap.size A c L
      | _ => True) rfl (Below.refl _ _) ?_ ?_ ?_ ?_
  · intro i v W W' h hb
    match i, h with
    | 0, h | 1, h | 3, h | 4, h | 7, h | 8, h | 9, h | 11, h | 12, h => exact h
    | 2, h | 5, h | 6, h | 10, h | 13, h | 14, h | 15, h => obtain ⟨L, A, c, h1, h2, h3⟩ := h; exact ⟨L, A, c, h1, h2, h3.next hb⟩
    | _ + 16, _ => trivial
  · intro i o u v ho
    rcases i with _|_|_|_|_|_|_|_|_|_|_|_|_|_|_|_|i
    all_goals first | (obtain rfl := Option.some.inj ho; rfl) | (simp at ho)
  · intro i o u W K ho hVW hd hK
    rcases i with _|_|_|_|_|_|_|_|_|_|_|_|_|_|_|_|i
    · obtain rfl := Option.some.inj ho
      exact op_run (w' := W) (by go_simp) (hK _ _ rfl (Below.refl _ _))
    · obtain rfl := Option.some.inj ho
      have q0 : u 0 = _ := hd 0 (by kernel_rfl)
      have c0 := hcell W hVW 0
      have c1 := hcell W hVW 1
      have c2 := hcell W hVW 2
      have c3 := hcell W hVW 3
      have c4 := hcell W hVW 4
      have c5 := hcell W hVW 5
      simp at c0 c1 c2 c3 c4 c5
      exact op_run (w' := W) (by go_simp) (hK _ _ rfl (Below.refl _ _))
    · obtain rfl := Option.some.inj ho
      have q1 : u 1 = _ := hd 1 (by kernel_rfl)
      exact op_call (by go_simp) (rmac_any d0 d1 d2 d3 d4 d5 W) (fun e w' ⟨L, A, c, he, HL, hr, hb⟩ => ⟨_, he, hK _ _ ⟨L, A, c, rfl, HL, hr⟩ hb⟩)
    · obtain rfl := Option.some.inj ho
      exact op_run (w' := W) (by go_simp) (hK _ _ rfl (Below.refl _ _))
    · obtain rfl := Option.some.inj ho
      have q0 : u 3 = _ := hd 3 (by kernel_rfl)
      have c6 := hcell W hVW 6
      have c7 := hcell W hVW 7
      have c8 := hcell W hVW 8
      have c9 := hcell W hVW 9
      have c10 := hcell W hVW 10
      have c11 := hcell W hVW 11
      simp at c6 c7 c8 c9 c10 c11
      exact op_run (w' := W) (by go_simp) (hK _ _ rfl (Below.refl _ _))
    · obtain rfl := Option.some.inj ho
      have q1 : u 4 = _ := hd 4 (by kernel_rfl)
      exact op_call (by go_simp) (rmac_any s0 s1 s2 s3 s4 s5 W) (fun e w' ⟨L, A, c, he, HL, hr, hb⟩ => ⟨_, he, hK _ _ ⟨L, A, c, rfl, HL, hr⟩ hb⟩)
    · obtain rfl := Option.some.inj ho
      obtain ⟨L1, A1, c1, e1, H1, r1⟩ := hd 2 (by kernel_rfl)
      obtain ⟨L2, A2, c2, e2, H2, r2⟩ := hd 5 (by kernel_rfl)
      refine op_call (by go_simp) (radd_any A1 A2 c1 c2 L1 L2 W r1 r2 (by rw [H1.out, H2.out]; simp)) ?_
      rintro e w' ⟨v, rfl, ho, hb⟩
      obtain ⟨L, A3, c3, HL, rfl, hr⟩ := ho.rdv
      exact ⟨_, rfl, hK _ _ ⟨L, A3, c3, rfl, by rw [Hid, HL.out, H1.out, H2.out], hr⟩ hb⟩
    · obtain rfl := Option.some.inj ho
      exact op_run (w' := W) (by go_simp) (hK _ _ rfl (Below.refl _ _))
    · obtain rfl := Option.some.inj ho
      have q0 : u 7 = _ := hd 7 (by kernel_rfl)
      have c12 := hcell W hVW 12
      simp at c12
      exact op_run (w' := W) (by go_simp) (hK _ _ rfl (Below.refl _ _))
    · obtain rfl := Option.some.inj ho
      have q0 : u 8 = _ := hd 8 (by kernel_rfl)
      have ht := t.toNat_lt
      have hw : IntKind.u32.wrap (t.toNat : Int) = (t.toNat : Int) := by rw [IntKind.wrap_u32']; omega
      exact op_run (w' := W) (by go_simp) (hK _ _ rfl (Below.refl _ _))
    · obtain rfl := Option.some.inj ho
      have q0 : u 9 = _ := hd 9 (by kernel_rfl)
      have ht := t.toNat_lt
      refine op_call (by go_simp) (rput_any t.toNat 2 W (by omega) (by omega)) ?_
      rintro e w' ⟨v, rfl, ho, hb⟩
      obtain ⟨L, A3, c3, HL, rfl, hr⟩ := ho.rdv
      exact ⟨_, rfl, hK _ _ ⟨L, A3, c3, rfl, by rw [Hid, HL.out, be16_put], hr⟩ hb⟩
    · obtain rfl := Option.some.inj ho
      exact op_run (w' := W) (by go_simp) (hK _ _ rfl (Below.refl _ _))
    · obtain rfl := Option.some.inj ho
      have q0 : u 11 = _ := hd 11 (by kernel_rfl)
      have c13 := hcell W hVW 13
      simp at c13
      exact op_run (w' := W) (by go_simp) (hK _ _ rfl (Below.refl _ _))
    · obtain rfl := Option.some.inj ho
      obtain ⟨L1, A1, c1, e1, H1, r1⟩ := hd 10 (by kernel_rfl)
      have e2 : u 12 = _ := hd 12 (by kernel_rfl)
      refine op_call (by go_simp) (radd_any A1 A c1 c L1 data W r1 (hdat.next hVW) (by rw [H1.out]; simp [be16]; omega)) ?_
      rintro e w' ⟨v, rfl, ho, hb⟩
      obtain ⟨L, A3, c3, HL, rfl, hr⟩ := ho.rdv
      exact ⟨_, rfl, hK _ _ ⟨L, A3, c3, rfl, by rw [Hid, HL.out, H1.out], hr⟩ hb⟩
    · obtain rfl := Option.some.inj ho
      obtain ⟨L1, A1, c1, e1, H1, r1⟩ := hd 6 (by kernel_rfl)
      obtain ⟨L2, A2, c2, e2, H2, r2⟩ := hd 13 (by kernel_rfl)
      refine op_call (by go_simp) (radd_any A1 A2 c1 c2 L1 L2 W r1 r2 (by rw [H1.out, H2.out]; simp [be16]; omega)) ?_
      rintro e w' ⟨v, rfl, ho, hb⟩
      obtain ⟨L, A3, c3, HL, rfl, hr⟩ := ho.rdv
      exact ⟨_, rfl, hK _ _ ⟨L, A3, c3, rfl, by rw [Hid, HL.out, H1.out, H2.out], hr⟩ hb⟩
    · obtain rfl := Option.some.inj ho
      obtain ⟨L1, A1, c1, e1, H1, r1⟩ := hd 14 (by kernel_rfl)
      exact op_run (w' := W) (by go_simp) (hK _ _ ⟨L1, A1, c1, rfl, H1, r1⟩ (Below.refl _ _))
    · simp at ho
  · intro u W hVW hall
    obtain ⟨L1, A1, c1, e1, H1, r1⟩ := hall 15 (by decide)
    rw [e1]
    go_wp2_with fail
    go_ret
    exact ⟨L1, A1, c1, rfl, H1, r1, bnext hB hVW⟩
end Go.Proofs.Ytbilgpciphpieaa
