/- Contracts of package octet's readers and of the reference's reader. -/
import Derived.Test.YteodjajjlgekcaaDoorProg
import Derived.Test.YteodjajjlgekcaaDoorMem
import Derived.Test.YteodjajjlgekcaaDoorNum
import Derived.BigQuiet
import Derived.Deep.QuietTactic
import Derived.Outline
import Derived.RegionTactic
namespace Go.Proofs.YteodjajjlgekcaaDoor
open Go.RowKit

theorem few_any (A : Option Addr) (n c : Nat) (w : World) (h : n ≤ c) (hc : c ≤ 9223372036854775807) :
    Calls Tryd.prog 47 #[.slice A n c, .int .i64 300] w fun e w' => e = .returned (.slice A (min n 300) c) ∧ w = w' := by
  by_cases h3 : 300 < n
  · go_enter Tryd.func47, Tryd.ntmps47
    go_wp2
    go_ret
    exact ⟨by rw [Nat.min_eq_right (by omega)]; rfl, rfl⟩
  · go_enter Tryd.func47, Tryd.ntmps47
    go_wp2
    go_ret
    exact ⟨by rw [Nat.min_eq_left (by omega)]; rfl, rfl⟩

theorem has_yes (A : Option Addr) (len c : Nat) (at_ n : Int) (w : World) (hc : len ≤ 9223372036854775807) (h0 : 0 ≤ at_) (h1 : 0 ≤ n) (h : at_ + n ≤ len) :
    Calls Tryd.prog 71 #[.slice A len c, .int .i64 at_, .int .i64 n] w fun e w' => e = .returned (.bool true) ∧ w = w' := by
  have hd : decide (n ≤ (len : Int) - at_) = true := by simp; omega
  go_enter Tryd.func71, Tryd.ntmps71
  go_wp2
  go_ret
  exact ⟨rfl, rfl⟩

theorem has_no (A : Option Addr) (len c : Nat) (at_ n : Int) (w : World) (hc : len ≤ 9223372036854775807) (ha : at_ ≤ 9223372036854775807) (h : at_ < 0 ∨ n < 0 ∨ (len : Int) < at_ + n) :
    Calls Tryd.prog 71 #[.slice A len c, .int .i64 at_, .int .i64 n] w fun e w' => e = .returned (.bool false) ∧ w = w' := by
  by_cases h0 : at_ < 0
  · have hd : decide (0 ≤ at_) = false := by simp; omega
    go_enter Tryd.func71, Tryd.ntmps71
    go_wp2
    go_ret
    exact ⟨rfl, rfl⟩
  · have hd0 : decide (0 ≤ at_) = true := by simp; omega
    have g0 : 0 ≤ at_ := by omega
    by_cases h1 : n < 0
    · have hd : decide (0 ≤ n) = false := by simp; omega
      go_enter Tryd.func71, Tryd.ntmps71
      go_wp2
      go_ret
      exact ⟨rfl, rfl⟩
    · have hd : decide (n ≤ (len : Int) - at_) = false := by simp; omega
      go_enter Tryd.func71, Tryd.ntmps71
      go_wp2
      go_ret
      exact ⟨rfl, rfl⟩

theorem get16_no (A : Option Addr) (len c : Nat) (at_ : Int) (w : World) (hc : len ≤ 9223372036854775807) (ha : at_ ≤ 9223372036854775807) (h : at_ < 0 ∨ (len : Int) < at_ + 2) :
    Calls Tryd.prog 64 #[.slice A len c, .int .i64 at_] w fun e w' => e = .returned (.tuple #[.int .u16 0, .bool false]) ∧ w = w' := by
  have hn : at_ < 0 ∨ (2 : Int) < 0 ∨ (len : Int) < at_ + 2 := by omega
  go_enter Tryd.func64, Tryd.ntmps64
  go_wp2_with (go_at_call 71; refine (has_no _ _ _ _ _ _ hc ha hn).mono ?_; rintro e w' ⟨rfl, rfl⟩)
  go_ret2
  exact ⟨rfl, rfl⟩

theorem get16_yes (A : Option Addr) (c : Nat) (bs : List UInt8) (k : Nat) (w : World) (B : Nat) (hb : Rd bv w B A c bs) (h : k + 2 ≤ bs.length) :
    Calls Tryd.prog 64 #[.slice A bs.length c, .int .i64 k] w fun e w' => e = .returned (.tuple #[.int .u16 (beN ((bs.drop k).take 2) : Nat), .bool true]) ∧ ∃ j, w' = w.drewN j := by
  have hc := hb.len
  have hc2 := hb.cap
  obtain ⟨b, off, rfl, hB, hcell⟩ := byt_at hb (k := k) (by omega)
  have c0 := hcell k (by omega)
  have c1 := hcell (k + 1) (by omega)
  rw [take_two bs k h, beN_two, ← or16]
  generalize bs[k] = x0 at c0 ⊢
  generalize bs[k+1] = x1 at c1 ⊢
  generalize bs.length = n at h hc ⊢
  clear hcell hb
  go_enter Tryd.func64, Tryd.ntmps64
  go_wp2_with (go_at_call 71; refine (has_yes _ _ _ _ _ _ (by omega) (by omega) (by omega) (by omega)).mono ?_; rintro e w' ⟨rfl, rfl⟩)
  go_quiet (fail)
  go_wp2
  go_ret2
  exact ⟨rfl, _, rfl⟩

end Go.Proofs.YteodjajjlgekcaaDoor
