/- The walks of the statements of layer 1: the Go text returns true whatever it is handed, and writes nothing that was there. -/
import Derived.Test.YtjmnedkkpohboaaOct3
namespace Go.Proofs.Ytjmnedkkpohboaa
open Go.RowKit

theorem OctetGets_walk (a0 : Option Addr) (len0 cap0 : Nat) (z0 : List Int) (a1 : Int) (w : World) (w0 : InRow .u8 w a0 len0 cap0 z0) (w1 : (Lit.int .i64 a1).wf = true) :
    Calls Try.prog 3 #[.slice a0 len0 cap0, .int .i64 a1] w fun e w' => e = .returned (.bool true) ∧ Below w.heap.size w w' := by
  obtain ⟨bs0, rfl, hb0⟩ := row_rd w0
  have hlc := hb0.len
  have hcc := hb0.cap
  have hb := hb0.take 300
  have ha : a1 ≤ 9223372036854775807 := by
    simp [Lit.wf, IntKind.min, IntKind.max, IntKind.signed, IntKind.bits] at w1; omega
  have hmin : min bs0.length 300 = (bs0.take 300).length := by simp [Nat.min_comm]
  have hbl : (bs0.take 300).length ≤ 300 := by simp; omega
  have HF := few_any a0 bs0.length cap0 w hlc hcc
  rw [hmin] at HF
  clear hb0 w0 w1
  generalize bs0.take 300 = bs at hb hmin hbl HF
  have HF := Lib.hid HF
  clear hmin
  by_cases h2 : a1 < 0 ∨ (bs.length : Int) < a1 + 2
  · go_enter Try.func3, Try.ntmps3
    go_wp2_with (first
      | (go_at_call 7; refine HF.out.mono ?_; rintro e w1 ⟨rfl, rfl⟩)
      | (go_at_call 8; refine (get16_no _ _ _ _ _ (by omega) ha h2).mono ?_; rintro e w1 ⟨rfl, rfl⟩)
      | (go_at_call 10; refine (get32_no _ _ _ _ _ (by omega) ha (by omega)).mono ?_; rintro e w1 ⟨rfl, rfl⟩)
      | (go_at_call 9; refine (rget_no _ _ _ _ _ _ (by omega) (by omega) (by omega) (by omega)).mono ?_; rintro e w1 ⟨rfl, rfl⟩)
      | (go_at_call 11; refine (lives_any _).mono ?_; rintro e w1 ⟨rfl, hbel⟩))
    go_ret
    exact ⟨rfl, hbel⟩
  · obtain ⟨k, rfl⟩ : ∃ k : Nat, a1 = k := ⟨a1.toNat, by omega⟩
    have hx2 := beN_lt ((bs.drop k).take 2)
    by_cases h4 : (k : Int) < 0 ∨ (bs.length : Int) < k + 4
    · go_enter Try.func3, Try.ntmps3
      go_wp2_with fail
      refine HF.out.mono ?_; rintro e w1 ⟨rfl, rfl⟩
      go_wp2_with fail
      refine (get16_yes _ _ bs k _ _ hb (by omega)).mono ?_; rintro e w1 ⟨rfl, nd, rfl⟩
      go_wp2_with fail
      refine (rget2_yes _ _ bs k _ _ (hb.drewN nd) (by omega)).mono ?_; rintro e w1 ⟨rfl, rfl⟩
      go_wp2_with fail
      refine (get32_no _ _ _ _ _ (by omega) ha h4).mono ?_; rintro e w1 ⟨rfl, rfl⟩
      go_wp2_with fail
      refine (rget_no _ _ _ _ 4 _ (by omega) (by omega) (by omega) (by omega)).mono ?_; rintro e w1 ⟨rfl, rfl⟩
      go_wp2_with (go_at_call 11; refine (lives_any _).mono ?_; rintro e w1 ⟨rfl, hbel⟩)
      go_ret
      exact ⟨rfl, (below_drewN (Below.refl _ _) nd).trans hbel⟩
    · go_enter Try.func3, Try.ntmps3
      go_wp2_with fail
      refine HF.out.mono ?_; rintro e w1 ⟨rfl, rfl⟩
      go_wp2_with fail
      refine (get16_yes _ _ bs k _ _ hb (by omega)).mono ?_; rintro e w1 ⟨rfl, nd, rfl⟩
      go_wp2_with fail
      refine (rget2_yes _ _ bs k _ _ (hb.drewN nd) (by omega)).mono ?_; rintro e w1 ⟨rfl, rfl⟩
      go_wp2_with fail
      refine (get32_yes _ _ bs k _ _ (hb.drewN nd) (by omega)).mono ?_; rintro e w1 ⟨rfl, nd2, rfl⟩
      go_wp2_with fail
      refine (rget4_yes _ _ bs k _ _ (hb.drewN _) (by omega)).mono ?_; rintro e w1 ⟨rfl, rfl⟩
      go_wp2_with (go_at_call 11; refine (lives_any _).mono ?_; rintro e w1 ⟨rfl, hbel⟩)
      go_ret
      exact ⟨rfl, (below_drewN (Below.refl _ _) _).trans hbel⟩
end Go.Proofs.Ytjmnedkkpohboaa
