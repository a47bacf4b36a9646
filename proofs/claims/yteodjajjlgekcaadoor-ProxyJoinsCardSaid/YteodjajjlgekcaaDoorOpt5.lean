/- Contracts of the reference's MSS and Same. -/
import Derived.Test.YteodjajjlgekcaaDoorOpt4
namespace Go.Proofs.YteodjajjlgekcaaDoor
open Go.RowKit
set_option linter.unusedVariables false

theorem beN_pair (d : List UInt8) (h : d.length = 2) : ∃ x y, d = [x, y] := by
  match d, h with
  | [x, y], _ => exact ⟨x, y, rfl⟩
set_option maxHeartbeats 1000000 in
theorem rmss_any (A : Option Addr) (c : Nat) (xs : List UInt8) (w : World) (hr : Rd bv w w.heap.size A c xs) (hl : xs.length ≤ 1000) (R : List Opt × Nat) (hR0 : Runs xs R 0 []) (n : Nat) (b : Bool) (hm : Hid (mssN R.1 = (n, b))) :
    Calls Tryd.prog 54 #[.slice A xs.length c] w fun e w' => e = .returned (.tuple #[.int .u16 (n : Int), .bool b]) ∧ Below w.heap.size w w' := by
  have HL := runs_len xs R 0 [] hR0 (by simp) (by omega)
  have HE := runs_err xs R 0 [] hR0
  obtain ⟨l, r⟩ := R
  have HC := Lib.hid (ropt_of A c xs w hr hl (l, r) hR0)
  simp only at HL hm HC HE
  clear hR0
  go_enter Tryd.func54, Tryd.ntmps54
  go_wp2_with fail
  refine HC.out.mono ?_
  rintro e1 w1 ⟨A2, c2, rfl, hos, hb1⟩
  have hB := bnext (Below.refl w.heap.size w) hb1
  have hlc := hos.len
  have hcc := hos.cap
  have HO := Lib.hid hos
  have HEE := Lib.hid HE
  clear HC hb1 hr hl hos HE
  go_wp2_with fail
  go_loopw [6] (fun i wr => ∃ j : Nat, j ≤ l.length ∧ i = .int .i64 j ∧ Hid (mssN (l.drop j) = (n, b)) ∧ Below w1.heap.size w1 wr) (fun i _ => l.length - (intOf i).toNat)
  case atStart => exact ⟨0, by omega, rfl, by simpa using hm, Below.refl _ _⟩
  case round =>
    obtain ⟨j, hj, rfl, hmj, hbw⟩ := hrel
    have hBw := hB.trans (hbw.mono hB.size)
    clear hm
    by_cases hlt : j < l.length
    · obtain ⟨bl, off, A3, c3, hA, hbl, c0, c1, hd⟩ := (HO.out.next hbw).at_ j hlt
      subst hA
      obtain rfl : r = 0 := by
        rcases HEE.out with h | h
        · exact h
        · rw [h] at hlt; simp at hlt
      have hm2 := hmj.out
      rw [mss_drop l j hlt] at hm2
      have hjl : Hid (j < l.length) := hlt
      generalize l[j] = kd at c0 c1 hd hm2
      obtain ⟨k, d⟩ := kd
      simp only at c0 c1 hd hm2
      clear hmj HO HEE
      have HBW := Lib.hid hBw
      by_cases h2 : k.toNat = 2
      · have a1 : ((k.toNat : Int) == 2) = true := by simp; omega
        by_cases h3 : d.length = 2
        · rw [if_pos ⟨h2, h3⟩] at hm2
          obtain ⟨x, y, rfl⟩ := beN_pair d h3
          rw [beN_two] at hm2
          injection hm2 with hn hb
          subst hb
          obtain ⟨bd, od, rfl, hbd, hdc⟩ := byt_at hd (k := 0) (by simp)
          have e0 : wr.cell? ⟨bd, od, none⟩ = some (.int .u8 (x.toNat : Int)) := hdc 0 (by simp)
          have e1 : wr.cell? ⟨bd, od + 1, none⟩ = some (.int .u8 (y.toNat : Int)) := hdc 1 (by simp)
          simp only [List.length_cons, List.length_nil] at c1
          have hx := x.toNat_lt
          have hy := y.toNat_lt
          have HN := Lib.hid hn
          have HXY : Hid (x.toNat < 256 ∧ y.toNat < 256) := ⟨hx, hy⟩
          clear h2 h3 hn hdc hd hx hy
          go_wp2_with fail
          first | (go_quiet (fail)) | fail
          go_wp2_with fail
          go_ret2
          have hz : IntKind.u16.wrap (IntKind.u16.wrap (IntKind.u16.wrap (x.toNat : Int) * 256) + IntKind.u16.wrap (y.toNat : Int)) = (n : Int) := by
            simp only [IntKind.wrap_u16]
            rw [← HN.out]
            have := HXY.out
            omega
          exact ⟨by show Ending.returned (.tuple #[.int .u16 (IntKind.u16.wrap (IntKind.u16.wrap (IntKind.u16.wrap (x.toNat : Int) * 256) + IntKind.u16.wrap (y.toNat : Int))), .bool true]) = _; rw [hz], below_drewN HBW.out _⟩
        · rw [if_neg (fun h => h3 h.2)] at hm2
          have a2 : ((d.length : Int) == 2) = false := by simp; omega
          have hm3 := Lib.hid hm2
          clear h2 hm2 h3 hd
          go_wp2_with fail
          go_roundw
          case rel => have := hjl.out; exact ⟨j + 1, by omega, by go_num, hm3, hbw⟩
          case measure => have := hjl.out; simp [intOf]; omega
      · have a1 : ((k.toNat : Int) == 2) = false := by simp; omega
        rw [if_neg (fun h => h2 h.1)] at hm2
        have hm3 := Lib.hid hm2
        clear h2 hm2 hd
        go_wp2_with fail
        go_roundw
        case rel => have := hjl.out; exact ⟨j + 1, by omega, by go_num, hm3, hbw⟩
        case measure => have := hjl.out; simp [intOf]; omega
    · obtain rfl : j = l.length := by omega
      have hm2 := hmj.out
      rw [List.drop_length, mssN] at hm2
      injection hm2 with hn hb
      subst hn hb
      clear hmj HO HEE
      go_wp2_with fail
      go_ret2
      exact ⟨rfl, hBw⟩
end Go.Proofs.YteodjajjlgekcaaDoor
