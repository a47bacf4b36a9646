/- Contracts of topt.one, of topt.Put where options may be, of PutMSS; the law's lives. -/
import Derived.Test.YteodjajjlgekcaaDoorOpt5
import Derived.Test.YteodjajjlgekcaaDoorOct6
namespace Go.Proofs.YteodjajjlgekcaaDoor
open Go.RowKit
set_option linter.unusedVariables false

def encO (o : Opt) : List UInt8 := if o.1.toNat = 1 then [1] else o.1 :: UInt8.ofNat (o.2.length + 2) :: o.2
def okO (o : Opt) : Prop := o.1.toNat ≠ 0 ∧ (o.1.toNat = 1 → o.2.length = 0) ∧ o.2.length ≤ 38
instance (o : Opt) : Decidable (okO o) := by unfold okO; infer_instance
/-- The bytes of options behind some, or none. -/
def putF (b : List UInt8) : List Opt → Option (List UInt8)
  | [] => some b
  | o :: t => if okO o then (if 40 < (b ++ encO o).length then none else putF (b ++ encO o) t) else none
theorem put_drop (b : List UInt8) (l : List Opt) (i : Nat) (h : i < l.length) : putF b (l.drop i) = if okO l[i] then (if 40 < (b ++ encO l[i]).length then none else putF (b ++ encO l[i]) (l.drop (i + 1))) else none := by
  rw [List.drop_eq_getElem_cons h, putF]
theorem enc_len (o : Opt) (h : okO o) : (encO o).length ≤ 40 := by
  unfold encO
  have := h.2.2
  split <;> simp <;> omega
theorem tone_any (k : UInt8) (d : List UInt8) (A : Option Addr) (c : Nat) (w : World) (hr : Rd bv w w.heap.size A c d) (hok : okO (k, d)) :
    Calls Tryd.prog 72 #[.agg #[.int .u8 (k.toNat : Int), .slice A d.length c]] w fun e w' => ∃ L A2 c2, e = .returned (.slice A2 L.length c2) ∧ Hid (L = encO (k, d)) ∧ Rd bv w' w'.heap.size A2 c2 L ∧ Below w.heap.size w w' := by
  have hB := bnextA (Below.refl w.heap.size w) (.cells #[.int .u8 (k.toNat : Int), .slice A d.length c] 101)
  obtain ⟨k0, k1, -⟩ := (Blk.new w #[.int .u8 (k.toNat : Int), .slice A d.length c] 101).get2
  have hd38 := hok.2.2
  simp only at hd38
  by_cases h1 : k.toNat = 1
  · have a1 : ((k.toNat : Int) == 1) = true := by simp; omega
    have hL : Hid (([1] : List UInt8) = encO (k, d)) := by rw [Hid, encO, if_pos h1]
    have hr2 := lit_at (w.alloc (.cells #[.int .u8 (k.toNat : Int), .slice A d.length c] 101)) (w.heap.size + 1) [1] (by simp) #[.int .u8 1] rfl 5 (by simp)
    have HR2 := Lib.hid hr2
    clear h1 hr2 hok
    go_enter Tryd.func72, Tryd.ntmps72
    go_wp2_with fail
    go_ret
    exact ⟨[1], _, _, rfl, hL, HR2.out, bnextA hB _⟩
  · have a1 : ((k.toNat : Int) == 1) = false := by simp; omega
    have z1 : IntKind.u8.wrap (2 + (d.length : Int)) = ((UInt8.ofNat (d.length + 2)).toNat : Int) := by rw [IntKind.wrap_u8]; simp; omega
    have z2 : wrap64 (2 + (d.length : Int)) = 2 + (d.length : Int) := by unfold wrap64; omega
    generalize hq : UInt8.ofNat (d.length + 2) = q at z1
    obtain ⟨m, hm⟩ : ∃ m : Int, 2 + (d.length : Int) = m := ⟨_, rfl⟩
    rw [hm] at z1 z2
    have hL : Hid (k :: q :: d = encO (k, d)) := by rw [Hid, encO, if_neg h1, hq]
    have hP := Lib.hid (fun (W : World) (hd : Rd bv W W.heap.size A c d) => parts_at (w := W.alloc (.cells #[.int .u8 (k.toNat : Int), .int .u8 (q.toNat : Int)] 5)) (W.heap.size + 1) (by simp) (.cons (lit_at W W.heap.size [k, q] rfl #[.int .u8 (k.toNat : Int), .int .u8 (q.toNat : Int)] rfl 5 (by simp)) (.cons (hd.nextA (.cells #[.int .u8 (k.toNat : Int), .int .u8 (q.toNat : Int)] 5)) .nil)) #[.slice (some ⟨W.heap.size, 0, none⟩) 2 2, .slice A d.length c] rfl 42)
    have HX := Lib.hid (hP.out _ (hr.nextA (.cells #[.int .u8 (k.toNat : Int), .slice A d.length c] 101)))
    have hlen : ([[k, q], d] : List (List UInt8)).flatten.length ≤ 1000000000 := by simp; omega
    have HJ := Lib.hid (join_any _ _ _ 2 [[k, q], d] HX.out rfl (by decide) (by decide) hlen)
    have hsz : (w.alloc (.cells #[.int .u8 (k.toNat : Int), .slice A d.length c] 101)).heap.size = w.heap.size + 1 := by simp
    rw [hsz] at HJ
    clear h1 hq hok hr hP hd38 hlen HX hsz
    go_enter Tryd.func72, Tryd.ntmps72
    go_wp2_with fail
    refine HJ.out.mono ?_
    rintro e w1 ⟨L, A2, c2, rfl, HL, r, hb⟩
    have hBB := bnext (bnextA (bnextA hB _) _) hb
    clear HJ hb
    go_wp2_with fail
    go_ret
    exact ⟨L, A2, c2, rfl, by rw [Hid, HL.out, ← hL.out]; simp, r, hBB⟩
theorem trep_0 (A : Option Addr) (len c : Nat) (w : World) :
    Calls Tryd.prog 73 #[.slice A len c, .int .i64 0] w fun e w' => ∃ A2 c2, e = .returned (.slice A2 0 c2) ∧ Rd bv w' w'.heap.size A2 c2 [] ∧ Below w.heap.size w w' := by
  go_enter Tryd.func73, Tryd.ntmps73
  go_wp2_with fail
  go_ret
  exact ⟨_, _, rfl, Rd.empty _ _ _ _ _ (by omega) (fun h => by cases h), bnextA (Below.refl _ _) _⟩
theorem neg_mask (n : Nat) (h : n ≤ 40) : bits BinOp.and IntKind.i64 (-(n : Int)) 3 = (((4 - n % 4) % 4 : Nat) : Int) := by
  have hall : ∀ n : Nat, n < 41 → bits BinOp.and IntKind.i64 (-(n : Int)) 3 = (((4 - n % 4) % 4 : Nat) : Int) := by decide +kernel
  exact hall n (by omega)
set_option maxHeartbeats 2000000 in
theorem tput_ok (A : Option Addr) (c : Nat) (l : List Opt) (w : World) (ho : Os w w.heap.size A c l) (hl : l.length ≤ 1000) (B : List UInt8) (hP : putF [] l = some B) (m : Nat) (hm : (4 - B.length % 4) % 4 = m)
    (HREP : ∀ W A1 c1, Rd bv W W.heap.size A1 c1 [1] → Hid (Calls Tryd.prog 73 #[.slice A1 1 c1, .int .i64 (m : Int)] W fun e w' => ∃ L A2 c2, e = .returned (.slice A2 L.length c2) ∧ Hid (L = List.replicate m 1) ∧ Rd bv w' w'.heap.size A2 c2 L ∧ Below W.heap.size W w')) :
    Calls Tryd.prog 65 #[.slice A l.length c] w fun e w' => ∃ L A2 c2, e = .returned (.tuple #[.slice A2 L.length c2, .int .i64 0]) ∧ Hid (L = B ++ List.replicate m 1) ∧ Rd bv w' w'.heap.size A2 c2 L ∧ Below w.heap.size w w' := by
  have q1 := ho.len
  have q2 := ho.cap
  have HO := Lib.hid ho
  have HP := Lib.hid hP
  have HM := Lib.hid hm
  clear ho hP hm
  go_enter Tryd.func65, Tryd.ntmps65
  go_wp2_with fail
  go_loopw [4, 9] (fun v i wr => ∃ (j : Nat) (L : List UInt8) (A2 : Option Addr) (c2 : Nat), j ≤ l.length ∧ i = .int .i64 j ∧ v = .slice A2 L.length c2 ∧ Hid (Rd bv wr wr.heap.size A2 c2 L) ∧ Hid (L.length ≤ 40) ∧ Hid (putF L (l.drop j) = some B) ∧ Below w.heap.size w wr) (fun _ i _ => l.length - (intOf i).toNat)
  case atStart => exact ⟨0, [], none, 0, by omega, rfl, rfl, Rd.nil0 _ _ _, by simp [Hid], by simpa using HP, Below.refl _ _⟩
  case round =>
    obtain ⟨j, L, A2, c2, hj, rfl, rfl, HR, HL40, HPj, hbw⟩ := hrel
    by_cases hlt : j < l.length
    · obtain ⟨bl, off, A3, c3, hA, hbl, u0, u1, hd⟩ := (HO.out.next hbw).at_ j hlt
      subst hA
      have hp := HPj.out
      rw [put_drop L l j hlt] at hp
      have HJ : Hid (j < l.length) := hlt
      generalize l[j] = kd at u0 u1 hd hp
      obtain ⟨k, d⟩ := kd
      simp only at u0 u1 hd
      by_cases hok : okO (k, d)
      case neg => rw [if_neg hok] at hp; cases hp
      rw [if_pos hok] at hp
      by_cases h40 : 40 < (L ++ encO (k, d)).length
      case pos => rw [if_pos h40] at hp; cases hp
      rw [if_neg h40] at hp
      have hX := bnextA (Below.refl wr.heap.size wr) (.cells #[.int .u8 (k.toNat : Int), .slice A3 d.length c3] 101)
      obtain ⟨k0, k1, -⟩ := (Blk.new wr #[.int .u8 (k.toNat : Int), .slice A3 d.length c3] 101).get2
      have HT := Lib.hid (tone_any k d A3 c3 _ (hd.nextA (.cells #[.int .u8 (k.toNat : Int), .slice A3 d.length c3] 101)) hok)
      have a1 : ((k.toNat : Int) == 0) = false := by have := hok.1; simp only at this; simp; omega
      have a4 : ¬ 38 < d.length := by have := hok.2.2; simp only at this; omega
      have HP2 := Lib.hid hp
      have H40 := Lib.hid h40
      have tail : ∀ (Q : Prop), (((k.toNat : Int) == 1) = true → ¬ 0 < d.length → Q) → (((k.toNat : Int) == 1) = false → Q) → Q := by
        intro Q f1 f2
        by_cases h1 : k.toNat = 1
        · exact f1 (by simp; omega) (by have := hok.2.1 h1; simp only at this; omega)
        · exact f2 (by simp; omega)
      clear hok h40 hp hd HPj
      have HR1 := HR.out.nextA (.cells #[.int .u8 (k.toNat : Int), .slice A3 d.length c3] 101)
      have HB1 := hbw.trans (hX.mono hbw.size)
      have HLL := HL40.out
      refine tail _ (fun a2 a3 => ?_) (fun a2 => ?_)
      all_goals
        clear tail
        go_wp2_with fail
        refine HT.out.mono ?_
        rintro e1 w1 ⟨L1, A4, c4, rfl, HL1, r1, hb1⟩
        have hBB := bnext HB1 hb1
        have rL := HR1.next hb1
        have h42 : ([L, L1] : List (List UInt8)).flatten.length ≤ 1000000000 := by
          have := H40.out
          rw [← HL1.out] at this
          simp at this ⊢
          omega
        have hJN := Lib.hid (join_any _ _ _ 2 [L, L1] (parts_at (w := w1) w1.heap.size rfl (.cons rL (.cons r1 .nil)) #[.slice A2 L.length c2, .slice A4 L1.length c4] rfl 42) rfl (by decide) (by decide) h42)
        clear HT hb1 HR1 HB1 h42 rL r1 k0 k1 u0 u1
        go_wp2_with fail
        refine hJN.out.mono ?_
        rintro e2 w2 ⟨L2, A5, c5, rfl, HL2, r2, hb2⟩
        have HL2' : Hid (L2 = L ++ encO (k, d)) := by rw [Hid, HL2.out, HL1.out]; simp
        have hn40 : ¬ 40 < L2.length := by rw [HL2'.out]; exact H40.out
        have hB2 := bnext (bnextA hBB _) hb2
        have HR2 := Lib.hid r2
        clear hJN hb2 HL2 r2
        go_wp2_with fail
        go_roundw
        case rel => have := HJ.out; exact ⟨j + 1, L2, A5, c5, by omega, by go_num, rfl, HR2, by rw [Hid]; omega, by rw [HL2'.out]; exact HP2, hB2⟩
        case measure => have := HJ.out; simp [intOf]; omega
    · obtain rfl : j = l.length := by omega
      have hp := HPj.out
      rw [List.drop_length, putF] at hp
      injection hp with hp
      subst hp
      have hL40 := HL40.out
      have z1 : wrap64 (-(L.length : Int)) = -(L.length : Int) := by unfold wrap64; omega
      have z2 := neg_mask L.length hL40
      rw [HM.out] at z2
      have hm3 : Hid (m ≤ 3) := by have := HM.out; rw [Hid]; omega
      have rL := HR.out.nextA (.cells #[.int .u8 1] 5)
      have HRP := Lib.hid (HREP _ _ _ (lit_at wr wr.heap.size [1] rfl #[.int .u8 1] rfl 5 (by simp))).out
      clear HO HP HM HL40 HPj HR
      go_wp2_with fail
      refine HRP.out.mono ?_
      rintro e1 w1 ⟨L1, A4, c4, rfl, HL1, r1, hb1⟩
      have hBB := bnext (bnextA hbw (.cells #[.int .u8 1] 5)) hb1
      replace rL := rL.next hb1
      have hm4 : L1.length ≤ 1000 := by rw [HL1.out, List.length_replicate]; exact Nat.le_trans hm3.out (by decide)
      have h42 : ([L, L1] : List (List UInt8)).flatten.length ≤ 1000000000 := by simp; omega
      have hJN := Lib.hid (join_any _ _ _ 2 [L, L1] (parts_at (w := w1) w1.heap.size rfl (.cons rL (.cons r1 .nil)) #[.slice A2 L.length c2, .slice A4 L1.length c4] rfl 42) rfl (by decide) (by decide) h42)
      clear hb1 h42 rL r1 HRP HREP z1 z2 hm4
      go_wp2_with fail
      refine hJN.out.mono ?_
      rintro e2 w2 ⟨L2, A5, c5, rfl, HL2, r2, hb2⟩
      have hB2 := bnext (bnextA hBB _) hb2
      have HR2 := Lib.hid r2
      clear hJN hb2 r2
      go_wp2_with fail
      go_ret2
      exact ⟨L2, A5, c5, rfl, by rw [Hid, HL2.out, HL1.out]; simp, HR2.out, hB2⟩
end Go.Proofs.YteodjajjlgekcaaDoor
