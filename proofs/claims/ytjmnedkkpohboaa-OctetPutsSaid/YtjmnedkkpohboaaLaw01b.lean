/- The walk of the statement on octet.Put16, Put32 and Set16. -/
import Derived.Test.YtjmnedkkpohboaaOct3
import Derived.Test.YtjmnedkkpohboaaOct4
import Derived.Test.YtjmnedkkpohboaaRef1
namespace Go.Proofs.Ytjmnedkkpohboaa
open Go.RowKit

theorem puts16_two (x : UInt16) (k : UInt32) : puts16 [x, UInt16.ofNat (k.toNat % 65536)] = putN 2 x.toNat ++ putN 2 (k.toNat % 65536) := by
  simp [puts16, be16_put]
theorem set_two (bs : List UInt8) (p : Nat) (x y : UInt8) (h : p + 2 ≤ bs.length) : (bs.set p x).set (p + 1) y = bs.take p ++ ([x, y] ++ bs.drop (p + 2)) := by
  apply List.ext_getElem?
  intro j
  rcases Nat.lt_trichotomy j p with hj | hj | hj
  · rw [List.getElem?_set_ne (by omega), List.getElem?_set_ne (by omega), List.getElem?_append_left (by simp; omega), List.getElem?_take, if_pos hj]
  · subst hj
    rw [List.getElem?_set_ne (by omega), List.getElem?_set_self (by omega), List.getElem?_append_right (by simp; omega)]
    simp [Nat.min_eq_left (by omega : j ≤ bs.length)]
  · rw [List.getElem?_append_right (by simp; omega)]
    have hm : (bs.take p).length = p := by simp; omega
    rw [hm]
    by_cases h1 : j = p + 1
    · subst h1
      rw [List.getElem?_set_self (by simp; omega), show p + 1 - p = 1 by omega]
      rfl
    · rw [List.getElem?_set_ne (by omega), List.getElem?_set_ne (by omega), List.getElem?_append_right (by simp; omega), List.getElem?_drop]
      simp
      congr 1
      omega
theorem cut_head (bs : List UInt8) (p : Nat) : (bs.drop 0).take p = bs.take p := rfl
theorem cut_tail (bs : List UInt8) (p : Nat) : (bs.drop (p + 2)).take (bs.length - p - 2) = bs.drop (p + 2) := by
  rw [List.take_of_length_le (by simp; omega)]
theorem puts32_two (x y : UInt32) : puts32 [x, y] = putN 4 x.toNat ++ putN 4 y.toNat := by
  simp [puts32, be32_put]

set_option maxHeartbeats 2000000 in
theorem OctetPuts_walk (a0 : Option Addr) (len0 cap0 : Nat) (z0 : List Int) (a1 a2 a3 a4 : Int) (w : World) (w0 : InRow .u8 w a0 len0 cap0 z0) (w1 : (Lit.int .i64 a1).wf = true) (w2 : (Lit.int .u16 a2).wf = true) (w3 : (Lit.int .u32 a3).wf = true) (w4 : (Lit.int .u32 a4).wf = true) :
    Calls Try.prog 4 #[.slice a0 len0 cap0, .int .i64 a1, .int .u16 a2, .int .u32 a3, .int .u32 a4] w fun e w' => e = .returned (.bool true) ∧ Below w.heap.size w w' := by
  obtain ⟨bs0, rfl, hb0⟩ := row_rd w0
  have hlc := hb0.len
  have hcc := hb0.cap
  have hb := hb0.take 300
  have ha := i64_of w1
  obtain ⟨n, rfl⟩ := u16_of w2
  obtain ⟨k, rfl⟩ := u32_of w3
  obtain ⟨m, rfl⟩ := u32_of w4
  have hmin : min bs0.length 300 = (bs0.take 300).length := by simp [Nat.min_comm]
  have hbl : (bs0.take 300).length ≤ 300 := by simp; omega
  have HF := few_any a0 bs0.length cap0 w hlc hcc
  rw [hmin] at HF
  clear hb0 w0 w1 w2 w3 w4
  generalize bs0.take 300 = bs at hb hmin hbl HF
  have HF := Lib.hid HF
  clear hmin hlc hcc
  have hn := u16_le n
  have hk := u32_le k
  have hm := u32_le m
  have HL16 := Lib.hid (show (#[.int .u16 (n.toNat : Int), .int .u16 (IntKind.u16.wrap (k.toNat : Int))] : Array Value).toList = [n, UInt16.ofNat (k.toNat % 65536)].map hv by simp [hv, IntKind.wrap_u16])
  have H16 := Lib.hid (show bs ++ puts16 [n, UInt16.ofNat (k.toNat % 65536)] = bs ++ (putN 2 n.toNat ++ putN 2 (k.toNat % 65536)) by rw [puts16_two])
  by_cases h2 : a1 < 0 ∨ (bs.length : Int) < a1 + 2
  · go_enter Try.func4, Try.ntmps4
    go_wp2_with fail
    refine HF.out.mono ?_; rintro e w1 ⟨rfl, rfl⟩
    go_wp2_with fail
    refine (put16_any _ _ bs _ 2 [n, UInt16.ofNat (k.toNat % 65536)] _ (hb.nextA _) (by simpa using (rd_lit w #[.int .u16 (n.toNat : Int), .int .u16 (IntKind.u16.wrap (k.toNat : Int))] 24 [n, UInt16.ofNat (k.toNat % 65536)] HL16.out (by simp))) (by omega) (by simp)).mono ?_
    rintro e w1 ⟨v1, rfl, hown1, hbel1, -⟩
    rw [H16.out] at hown1
    obtain ⟨L1, A1, c1, HL1, rfl, hr1⟩ := hown1.rdv
    have hB1 := bnext (bnextA (Below.refl w.heap.size w) _) hbel1
    have hbs1 := (hb.nextA _).next hbel1
    clear hown1 hbel1
    go_wp2_with fail
    refine (rput_any n.toNat 2 _ (by omega) (by omega)).mono ?_
    rintro e w2 ⟨v2, rfl, hown2, hbel2⟩
    obtain ⟨L2, A2, c2, HL2, rfl, hr2⟩ := hown2.rdv
    have hB2 := bnext hB1 hbel2
    have hbs2 := hbs1.next hbel2
    have hr1 := hr1.next hbel2
    clear hown2 hbel2 hB1 hbs1
    go_wp2_with fail
    refine (rput_any (k.toNat % 65536) 2 _ (by omega) (by omega)).mono ?_
    rintro e w3 ⟨v3, rfl, hown3, hbel3⟩
    obtain ⟨L3, A3, c3, HL3, rfl, hr3⟩ := hown3.rdv
    have hB3 := bnext hB2 hbel3
    have hbs3 := hbs2.next hbel3
    have hr1 := hr1.next hbel3
    have hr2 := hr2.next hbel3
    clear hown3 hbel3 hB2 hbs2
    go_wp2_with fail
    refine (radd_any _ _ _ _ _ _ _ hr2 hr3 (by rw [HL2.out, HL3.out]; simp [putN_len])).mono ?_
    rintro e w4 ⟨v4, rfl, hown4, hbel4⟩
    obtain ⟨L4, A4, c4, HL4, rfl, hr4⟩ := hown4.rdv
    have hB4 := bnext hB3 hbel4
    have hbs4 := hbs3.next hbel4
    have hr1 := hr1.next hbel4
    clear hown4 hbel4 hB3 hbs3 hr2 hr3
    go_wp2_with fail
    refine (radd_any _ _ _ _ _ _ _ hbs4 hr4 (by rw [HL4.out, HL2.out, HL3.out]; simp [putN_len]; omega)).mono ?_
    rintro e w5 ⟨v5, rfl, hown5, hbel5⟩
    obtain ⟨L5, A5, c5, HL5, rfl, hr5⟩ := hown5.rdv
    have hB5 := bnext hB4 hbel5
    have hbs5 := hbs4.next hbel5
    have hr1 := hr1.next hbel5
    clear hown5 hbel5 hB4 hbs4 hr4
    go_wp2_with fail
    refine (rsame_eq _ _ _ _ _ _ _ _ hr1 hr5 (by rw [HL1.out, HL5.out, HL4.out, HL2.out, HL3.out])).mono ?_
    rintro e w6 ⟨rfl, hd6⟩
    have hB6 := bnextD hB5 hd6
    have hbs6 := hbs5.nextD hd6
    clear hd6 hB5 hbs5 hr1 hr5
    go_wp2_with fail
    refine (put32_any _ _ bs _ 2 [k, m] _ (hbs6.nextA _) (by simpa using (rd_lit w6 #[.int .u32 (k.toNat : Int), .int .u32 (m.toNat : Int)] 27 [k, m] rfl (by simp))) (by omega) (by simp)).mono ?_
    rintro e w7 ⟨v7, rfl, hown7, hbel7, -⟩
    rw [puts32_two] at hown7
    obtain ⟨L7, A7, c7, HL7, rfl, hr7⟩ := hown7.rdv
    have hB7 := bnext (bnextA hB6 _) hbel7
    have hbs7 := (hbs6.nextA _).next hbel7
    clear hown7 hbel7 hB6 hbs6
    go_wp2_with fail
    refine (rput_any k.toNat 4 _ (by omega) (by omega)).mono ?_
    rintro e w8 ⟨v8, rfl, hown8, hbel8⟩
    obtain ⟨L8, A8, c8, HL8, rfl, hr8⟩ := hown8.rdv
    have hB8 := bnext hB7 hbel8
    have hbs8 := hbs7.next hbel8
    have hr7 := hr7.next hbel8
    clear hown8 hbel8 hB7 hbs7
    go_wp2_with fail
    refine (rput_any m.toNat 4 _ (by omega) (by omega)).mono ?_
    rintro e w9 ⟨v9, rfl, hown9, hbel9⟩
    obtain ⟨L9, A9, c9, HL9, rfl, hr9⟩ := hown9.rdv
    have hB9 := bnext hB8 hbel9
    have hbs9 := hbs8.next hbel9
    have hr7 := hr7.next hbel9
    have hr8 := hr8.next hbel9
    clear hown9 hbel9 hB8 hbs8
    go_wp2_with fail
    refine (radd_any _ _ _ _ _ _ _ hr8 hr9 (by rw [HL8.out, HL9.out]; simp [putN_len])).mono ?_
    rintro e w10 ⟨v10, rfl, hown10, hbel10⟩
    obtain ⟨L10, A10, c10, HL10, rfl, hr10⟩ := hown10.rdv
    have hB10 := bnext hB9 hbel10
    have hbs10 := hbs9.next hbel10
    have hr7 := hr7.next hbel10
    clear hown10 hbel10 hB9 hbs9 hr8 hr9
    go_wp2_with fail
    refine (radd_any _ _ _ _ _ _ _ hbs10 hr10 (by rw [HL10.out, HL8.out, HL9.out]; simp [putN_len]; omega)).mono ?_
    rintro e w11 ⟨v11, rfl, hown11, hbel11⟩
    obtain ⟨L11, A11, c11, HL11, rfl, hr11⟩ := hown11.rdv
    have hB11 := bnext hB10 hbel11
    have hbs11 := hbs10.next hbel11
    have hr7 := hr7.next hbel11
    clear hown11 hbel11 hB10 hbs10 hr10
    go_wp2_with fail
    refine (rsame_eq _ _ _ _ _ _ _ _ hr7 hr11 (by rw [HL7.out, HL11.out, HL10.out, HL8.out, HL9.out])).mono ?_
    rintro e w12 ⟨rfl, hd12⟩
    have hB12 := bnextD hB11 hd12
    have hbs12 := hbs11.nextD hd12
    clear hd12 hB11 hbs11 hr7 hr11
    go_wp2_with fail
    refine (set16_no _ _ _ _ _ _ (by omega) ha.2 h2).mono ?_
    rintro e w13 ⟨rfl, rfl⟩
    go_wp2_with fail
    refine (rget_no _ _ _ _ 2 _ (by omega) (by omega) (by omega) (by omega)).mono ?_
    rintro e w14 ⟨rfl, rfl⟩
    go_wp2_with (go_at_call 11; refine (lives_any _).mono ?_; rintro e w15 ⟨rfl, hbel⟩)
    go_ret
    exact ⟨rfl, bnext hB12 hbel⟩
  · obtain ⟨p, rfl⟩ : ∃ p : Nat, a1 = p := ⟨a1.toNat, by omega⟩
    go_enter Try.func4, Try.ntmps4
    go_wp2_with fail
    refine HF.out.mono ?_; rintro e w1 ⟨rfl, rfl⟩
    go_wp2_with fail
    refine (put16_any _ _ bs _ 2 [n, UInt16.ofNat (k.toNat % 65536)] _ (hb.nextA _) (by simpa using (rd_lit w #[.int .u16 (n.toNat : Int), .int .u16 (IntKind.u16.wrap (k.toNat : Int))] 24 [n, UInt16.ofNat (k.toNat % 65536)] HL16.out (by simp))) (by omega) (by simp)).mono ?_
    rintro e w1 ⟨v1, rfl, hown1, hbel1, -⟩
    rw [H16.out] at hown1
    obtain ⟨L1, A1, c1, HL1, rfl, hr1⟩ := hown1.rdv
    have hB1 := bnext (bnextA (Below.refl w.heap.size w) _) hbel1
    have hbs1 := (hb.nextA _).next hbel1
    clear hown1 hbel1
    go_wp2_with fail
    refine (rput_any n.toNat 2 _ (by omega) (by omega)).mono ?_
    rintro e w2 ⟨v2, rfl, hown2, hbel2⟩
    obtain ⟨L2, A2, c2, HL2, rfl, hr2⟩ := hown2.rdv
    have hB2 := bnext hB1 hbel2
    have hbs2 := hbs1.next hbel2
    have hr1 := hr1.next hbel2
    clear hown2 hbel2 hB1 hbs1
    go_wp2_with fail
    refine (rput_any (k.toNat % 65536) 2 _ (by omega) (by omega)).mono ?_
    rintro e w3 ⟨v3, rfl, hown3, hbel3⟩
    obtain ⟨L3, A3, c3, HL3, rfl, hr3⟩ := hown3.rdv
    have hB3 := bnext hB2 hbel3
    have hbs3 := hbs2.next hbel3
    have hr1 := hr1.next hbel3
    have hr2 := hr2.next hbel3
    clear hown3 hbel3 hB2 hbs2
    go_wp2_with fail
    refine (radd_any _ _ _ _ _ _ _ hr2 hr3 (by rw [HL2.out, HL3.out]; simp [putN_len])).mono ?_
    rintro e w4 ⟨v4, rfl, hown4, hbel4⟩
    obtain ⟨L4, A4, c4, HL4, rfl, hr4⟩ := hown4.rdv
    have hB4 := bnext hB3 hbel4
    have hbs4 := hbs3.next hbel4
    have hr1 := hr1.next hbel4
    clear hown4 hbel4 hB3 hbs3 hr2 hr3
    go_wp2_with fail
    refine (radd_any _ _ _ _ _ _ _ hbs4 hr4 (by rw [HL4.out, HL2.out, HL3.out]; simp [putN_len]; omega)).mono ?_
    rintro e w5 ⟨v5, rfl, hown5, hbel5⟩
    obtain ⟨L5, A5, c5, HL5, rfl, hr5⟩ := hown5.rdv
    have hB5 := bnext hB4 hbel5
    have hbs5 := hbs4.next hbel5
    have hr1 := hr1.next hbel5
    clear hown5 hbel5 hB4 hbs4 hr4
    go_wp2_with fail
    refine (rsame_eq _ _ _ _ _ _ _ _ hr1 hr5 (by rw [HL1.out, HL5.out, HL4.out, HL2.out, HL3.out])).mono ?_
    rintro e w6 ⟨rfl, hd6⟩
    have hB6 := bnextD hB5 hd6
    have hbs6 := hbs5.nextD hd6
    clear hd6 hB5 hbs5 hr1 hr5
    go_wp2_with fail
    refine (put32_any _ _ bs _ 2 [k, m] _ (hbs6.nextA _) (by simpa using (rd_lit w6 #[.int .u32 (k.toNat : Int), .int .u32 (m.toNat : Int)] 27 [k, m] rfl (by simp))) (by omega) (by simp)).mono ?_
    rintro e w7 ⟨v7, rfl, hown7, hbel7, -⟩
    rw [puts32_two] at hown7
    obtain ⟨L7, A7, c7, HL7, rfl, hr7⟩ := hown7.rdv
    have hB7 := bnext (bnextA hB6 _) hbel7
    have hbs7 := (hbs6.nextA _).next hbel7
    clear hown7 hbel7 hB6 hbs6
    go_wp2_with fail
    refine (rput_any k.toNat 4 _ (by omega) (by omega)).mono ?_
    rintro e w8 ⟨v8, rfl, hown8, hbel8⟩
    obtain ⟨L8, A8, c8, HL8, rfl, hr8⟩ := hown8.rdv
    have hB8 := bnext hB7 hbel8
    have hbs8 := hbs7.next hbel8
    have hr7 := hr7.next hbel8
    clear hown8 hbel8 hB7 hbs7
    go_wp2_with fail
    refine (rput_any m.toNat 4 _ (by omega) (by omega)).mono ?_
    rintro e w9 ⟨v9, rfl, hown9, hbel9⟩
    obtain ⟨L9, A9, c9, HL9, rfl, hr9⟩ := hown9.rdv
    have hB9 := bnext hB8 hbel9
    have hbs9 := hbs8.next hbel9
    have hr7 := hr7.next hbel9
    have hr8 := hr8.next hbel9
    clear hown9 hbel9 hB8 hbs8
    go_wp2_with fail
    refine (radd_any _ _ _ _ _ _ _ hr8 hr9 (by rw [HL8.out, HL9.out]; simp [putN_len])).mono ?_
    rintro e w10 ⟨v10, rfl, hown10, hbel10⟩
    obtain ⟨L10, A10, c10, HL10, rfl, hr10⟩ := hown10.rdv
    have hB10 := bnext hB9 hbel10
    have hbs10 := hbs9.next hbel10
    have hr7 := hr7.next hbel10
    clear hown10 hbel10 hB9 hbs9 hr8 hr9
    go_wp2_with fail
    refine (radd_any _ _ _ _ _ _ _ hbs10 hr10 (by rw [HL10.out, HL8.out, HL9.out]; simp [putN_len]; omega)).mono ?_
    rintro e w11 ⟨v11, rfl, hown11, hbel11⟩
    obtain ⟨L11, A11, c11, HL11, rfl, hr11⟩ := hown11.rdv
    have hB11 := bnext hB10 hbel11
    have hbs11 := hbs10.next hbel11
    have hr7 := hr7.next hbel11
    clear hown11 hbel11 hB10 hbs10 hr10
    go_wp2_with fail
    refine (rsame_eq _ _ _ _ _ _ _ _ hr7 hr11 (by rw [HL7.out, HL11.out, HL10.out, HL8.out, HL9.out])).mono ?_
    rintro e w12 ⟨rfl, hd12⟩
    have hB12 := bnextD hB11 hd12
    have hbs12 := hbs11.nextD hd12
    clear hd12 hB11 hbs11 hr7 hr11
    go_wp2_with fail
    refine (set16_yes _ _ bs p n _ hbs12 (by omega) (by omega)).mono ?_
    rintro e w13 ⟨v13, rfl, hown13, hbel13⟩
    obtain ⟨L13, A13, c13, HL13, rfl, hr13⟩ := hown13.rdv
    have hB13 := bnext hB12 hbel13
    have hbs13 := hbs12.next hbel13
    clear hown13 hbel13 hB12 hbs12
    go_wp2_with fail
    refine (rget2_yes _ _ bs p _ _ hbs13 (by omega)).mono ?_
    rintro e w14 ⟨rfl, rfl⟩
    go_wp2_with fail
    refine (rcut_of _ _ bs _ _ 0 p _ hbs13 rfl rfl (by omega) (by omega)).mono ?_
    rintro e w15 ⟨v15, rfl, hown15, hbel15⟩
    obtain ⟨L15, A15, c15, HL15, rfl, hr15⟩ := hown15.rdv
    have hB15 := bnext hB13 hbel15
    have hbs15 := hbs13.next hbel15
    have hr13 := hr13.next hbel15
    clear hown15 hbel15 hB13 hbs13
    go_wp2_with fail
    refine (rcut_of _ _ bs _ _ (p + 2) (bs.length - p - 2) _ hbs15 (by omega) (by omega) (by omega) (by omega)).mono ?_
    rintro e w16 ⟨v16, rfl, hown16, hbel16⟩
    obtain ⟨L16, A16, c16, HL16b, rfl, hr16⟩ := hown16.rdv
    have hB16 := bnext hB15 hbel16
    have hr13 := hr13.next hbel16
    have hr15 := hr15.next hbel16
    clear hown16 hbel16 hB15 hbs15
    go_wp2_with fail
    refine (rput_any n.toNat 2 _ (by omega) (by omega)).mono ?_
    rintro e w17 ⟨v17, rfl, hown17, hbel17⟩
    obtain ⟨L17, A17, c17, HL17, rfl, hr17⟩ := hown17.rdv
    have hB17 := bnext hB16 hbel17
    have hr13 := hr13.next hbel17
    have hr15 := hr15.next hbel17
    have hr16 := hr16.next hbel17
    clear hown17 hbel17 hB16
    go_wp2_with fail
    refine (radd_any _ _ _ _ _ _ _ hr17 hr16 (by rw [HL17.out, HL16b.out]; simp [putN_len]; omega)).mono ?_
    rintro e w18 ⟨v18, rfl, hown18, hbel18⟩
    obtain ⟨L18, A18, c18, HL18, rfl, hr18⟩ := hown18.rdv
    have hB18 := bnext hB17 hbel18
    have hr13 := hr13.next hbel18
    have hr15 := hr15.next hbel18
    clear hown18 hbel18 hB17 hr16 hr17
    go_wp2_with fail
    refine (radd_any _ _ _ _ _ _ _ hr15 hr18 (by rw [HL15.out, HL18.out, HL17.out, HL16b.out]; simp [putN_len]; omega)).mono ?_
    rintro e w19 ⟨v19, rfl, hown19, hbel19⟩
    obtain ⟨L19, A19, c19, HL19, rfl, hr19⟩ := hown19.rdv
    have hB19 := bnext hB18 hbel19
    have hr13 := hr13.next hbel19
    clear hown19 hbel19 hB18 hr15 hr18
    go_wp2_with fail
    refine (rsame_eq _ _ _ _ _ _ _ _ hr13 hr19 (by rw [HL13.out, HL19.out, HL18.out, HL17.out, HL16b.out, HL15.out, cut_head, cut_tail, set_two _ _ _ _ (by omega), ← be16_put]; rfl)).mono ?_
    rintro e w20 ⟨rfl, hd20⟩
    have hB20 := bnextD hB19 hd20
    clear hd20 hB19 hr13 hr19
    go_wp2_with (go_at_call 11; refine (lives_any _).mono ?_; rintro e w15 ⟨rfl, hbel⟩)
    go_ret
    exact ⟨rfl, bnext hB20 hbel⟩
end Go.Proofs.Ytjmnedkkpohboaa
