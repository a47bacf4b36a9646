/- Contracts of MSS (both sides), Without, and of the reference's Same. -/
import Derived.Test.YteodjajjlgekcaaDoorOpt3
import Derived.Test.YteodjajjlgekcaaDoorGet
import Derived.Test.YteodjajjlgekcaaDoorReg3
namespace Go.Proofs.YteodjajjlgekcaaDoor
open Go.RowKit
set_option linter.unusedVariables false

/-- The greatest segment that options tell. -/
def mssN : List Opt → Nat × Bool
  | [] => (0, false)
  | o :: t => if o.1.toNat = 2 ∧ o.2.length = 2 then (beN o.2, true) else mssN t
def usN (l : List Opt) : Bool := l.all fun o => decide (o.1.toNat ≤ 4)
theorem runs_err (xs : List UInt8) (R : List Opt × Nat) : ∀ j l, Runs xs R j l → R.2 = 0 ∨ R.1 = [] := by
  intro j l h
  induction h with
  | fin h e => exact .inl (by rw [e])
  | zero h h0 e => exact .inl (by rw [e])
  | one h h0 t ih => exact ih
  | short h h0 h1 h2 e => exact .inr (by rw [e])
  | form h h0 h1 h2 e => exact .inr (by rw [e])
  | over h h0 h1 h2 h3 e => exact .inr (by rw [e])
  | opt h h0 h1 h2 h3 t ih => exact ih
theorem runs_small (xs : List UInt8) (R : List Opt × Nat) : ∀ j l, Runs xs R j l → R.2 ≤ 4 := by
  intro j l h
  induction h with
  | fin h e => rw [e]; simp
  | zero h h0 e => rw [e]; simp
  | one h h0 t ih => exact ih
  | short h h0 h1 h2 e => rw [e]; simp
  | form h h0 h1 h2 e => rw [e]; simp
  | over h h0 h1 h2 h3 e => rw [e]; simp
  | opt h h0 h1 h2 h3 t ih => exact ih
theorem mss_drop (l : List Opt) (i : Nat) (h : i < l.length) : mssN (l.drop i) = if l[i].1.toNat = 2 ∧ l[i].2.length = 2 then (beN l[i].2, true) else mssN (l.drop (i + 1)) := by
  rw [List.drop_eq_getElem_cons h, mssN]
theorem us_drop (l : List Opt) (i : Nat) (h : i < l.length) : usN (l.drop i) = (decide (l[i].1.toNat ≤ 4) && usN (l.drop (i + 1))) := by
  rw [List.drop_eq_getElem_cons h, usN, List.all_cons]
  rfl
set_option maxHeartbeats 1000000 in
theorem tmss_any (A : Option Addr) (c : Nat) (xs : List UInt8) (w : World) (hr : Rd bv w w.heap.size A c xs) (hl : xs.length ≤ 1000) (R : List Opt × Nat) (hR0 : Runs xs R 0 []) (n : Nat) (b : Bool) (hm : Hid (mssN R.1 = (n, b))) :
    Calls Tryd.prog 51 #[.slice A xs.length c] w fun e w' => e = .returned (.tuple #[.int .u16 (n : Int), .bool b]) ∧ Below w.heap.size w w' := by
  have HL := runs_len xs R 0 [] hR0 (by simp) (by omega)
  obtain ⟨l, r⟩ := R
  have HC := Lib.hid (topt_of A c xs w hr hl (l, r) hR0)
  simp only at HL hm HC
  clear hR0
  go_enter Tryd.func51, Tryd.ntmps51
  go_wp2_with fail
  refine HC.out.mono ?_
  rintro e1 w1 ⟨A2, c2, rfl, hos, hb1⟩
  have hB := bnext (Below.refl w.heap.size w) hb1
  have hlc := hos.len
  have hcc := hos.cap
  have HO := Lib.hid hos
  clear HC hb1 hr hl hos
  go_wp2_with fail
  go_loopw [15] (fun i wr => ∃ j : Nat, j ≤ l.length ∧ i = .int .i64 j ∧ Hid (mssN (l.drop j) = (n, b)) ∧ Below w1.heap.size w1 wr) (fun i _ => l.length - (intOf i).toNat)
  case atStart => exact ⟨0, by omega, rfl, by simpa using hm, Below.refl _ _⟩
  case round =>
    obtain ⟨j, hj, rfl, hmj, hbw⟩ := hrel
    have hBw := hB.trans (hbw.mono hB.size)
    clear hm
    by_cases hlt : j < l.length
    · obtain ⟨bl, off, A3, c3, hA, hbl, c0, c1, hd⟩ := (HO.out.next hbw).at_ j hlt
      subst hA
      have hm2 := hmj.out
      rw [mss_drop l j hlt] at hm2
      have hjl : Hid (j < l.length) := hlt
      generalize l[j] = kd at c0 c1 hd hm2
      obtain ⟨k, d⟩ := kd
      simp only at c0 c1 hd hm2
      clear hmj HO
      have hX := bnextA hBw (.cells #[.int .u8 (k.toNat : Int), .slice A3 d.length c3] 101)
      have hX2 := bnextA (Below.refl wr.heap.size wr) (.cells #[.int .u8 (k.toNat : Int), .slice A3 d.length c3] 101)
      obtain ⟨k0, k1, -⟩ := (Blk.new wr #[.int .u8 (k.toNat : Int), .slice A3 d.length c3] 101).get2
      by_cases h2 : k.toNat = 2
      · have a1 : ((k.toNat : Int) == 2) = true := by simp; omega
        by_cases h3 : d.length = 2
        · rw [if_pos ⟨h2, h3⟩] at hm2
          have a2 : ((d.length : Int) == 2) = true := by simp; omega
          injection hm2 with hn hb
          subst hb
          have HG := Lib.hid (get16_b A3 c3 d 0 0 n rfl _ (hd.nextA (.cells #[.int .u8 (k.toNat : Int), .slice A3 d.length c3] 101)) (by omega) (by rw [List.drop_zero, List.take_of_length_le (by omega)]; exact hn))
          have hBX := Lib.hid hX
          clear h2 h3 hn hX hX2 hd
          go_wp2_with fail
          refine HG.out.mono ?_
          rintro e2 w2 ⟨rfl, hb2⟩
          have hX := hBX.out
          clear HG
          go_wp2_with fail
          go_ret2
          exact ⟨rfl, bnext hX hb2⟩
        · rw [if_neg (fun h => h3 h.2)] at hm2
          have a2 : ((d.length : Int) == 2) = false := by simp; omega
          have hm3 := Lib.hid hm2
          clear h2 hm2 h3
          go_wp2_with fail
          go_roundw
          case rel => have := hjl.out; exact ⟨j + 1, by omega, by go_num, hm3, hbw.trans (hX2.mono hbw.size)⟩
          case measure => have := hjl.out; simp [intOf]; omega
      · have a1 : ((k.toNat : Int) == 2) = false := by simp; omega
        rw [if_neg (fun h => h2 h.1)] at hm2
        have hm3 := Lib.hid hm2
        clear h2 hm2
        go_wp2_with fail
        go_roundw
        case rel => have := hjl.out; exact ⟨j + 1, by omega, by go_num, hm3, hbw.trans (hX2.mono hbw.size)⟩
        case measure => have := hjl.out; simp [intOf]; omega
    · obtain rfl : j = l.length := by omega
      have hm2 := hmj.out
      rw [List.drop_length, mssN] at hm2
      injection hm2 with hn hb
      subst hn hb
      clear hmj HO
      go_wp2_with fail
      go_ret2
      exact ⟨rfl, hBw⟩
end Go.Proofs.YteodjajjlgekcaaDoor
