/- Contracts of package octet's readers and of the reference's reader. -/
import Derived.Test.YteodjajjlgekcaaProg
import Derived.Test.YteodjajjlgekcaaMem
import Derived.Test.YteodjajjlgekcaaNum
import Derived.BigQuiet
import Derived.Deep.QuietTactic
import Derived.Outline
import Derived.RegionTactic
namespace Go.Proofs.Yteodjajjlgekcaa
open Go.RowKit

theorem few_any (A : Option Addr) (n c : Nat) (w : World) (h : n ≤ c) (hc : c ≤ 9223372036854775807) :
    Calls Try.prog 9 #[.slice A n c, .int .i64 300] w fun e w' => e = .returned (.slice A (min n 300) c) ∧ w = w' := by
  by_cases h3 : 300 < n
  · go_enter Try.func9, Try.ntmps9
    go_wp2
    go_ret
    exact ⟨by rw [Nat.min_eq_right (by omega)]; rfl, rfl⟩
  · go_enter Try.func9, Try.ntmps9
    go_wp2
    go_ret
    exact ⟨by rw [Nat.min_eq_left (by omega)]; rfl, rfl⟩

theorem has_yes (A : Option Addr) (len c : Nat) (at_ n : Int) (w : World) (hc : len ≤ 9223372036854775807) (h0 : 0 ≤ at_) (h1 : 0 ≤ n) (h : at_ + n ≤ len) :
    Calls Try.prog 62 #[.slice A len c, .int .i64 at_, .int .i64 n] w fun e w' => e = .returned (.bool true) ∧ w = w' := by
  have hd : decide (n ≤ (len : Int) - at_) = true := by simp; omega
  go_enter Try.func62, Try.ntmps62
  go_wp2
  go_ret
  exact ⟨rfl, rfl⟩

theorem has_no (A : Option Addr) (len c : Nat) (at_ n : Int) (w : World) (hc : len ≤ 9223372036854775807) (ha : at_ ≤ 9223372036854775807) (h : at_ < 0 ∨ n < 0 ∨ (len : Int) < at_ + n) :
    Calls Try.prog 62 #[.slice A len c, .int .i64 at_, .int .i64 n] w fun e w' => e = .returned (.bool false) ∧ w = w' := by
  by_cases h0 : at_ < 0
  · have hd : decide (0 ≤ at_) = false := by simp; omega
    go_enter Try.func62, Try.ntmps62
    go_wp2
    go_ret
    exact ⟨rfl, rfl⟩
  · have hd0 : decide (0 ≤ at_) = true := by simp; omega
    have g0 : 0 ≤ at_ := by omega
    by_cases h1 : n < 0
    · have hd : decide (0 ≤ n) = false := by simp; omega
      go_enter Try.func62, Try.ntmps62
      go_wp2
      go_ret
      exact ⟨rfl, rfl⟩
    · have hd : decide (n ≤ (len : Int) - at_) = false := by simp; omega
      go_enter Try.func62, Try.ntmps62
      go_wp2
      go_ret
      exact ⟨rfl, rfl⟩

theorem get16_no (A : Option Addr) (len c : Nat) (at_ : Int) (w : World) (hc : len ≤ 9223372036854775807) (ha : at_ ≤ 9223372036854775807) (h : at_ < 0 ∨ (len : Int) < at_ + 2) :
    Calls Try.prog 41 #[.slice A len c, .int .i64 at_] w fun e w' => e = .returned (.tuple #[.int .u16 0, .bool false]) ∧ w = w' := by
  have hn : at_ < 0 ∨ (2 : Int) < 0 ∨ (len : Int) < at_ + 2 := by omega
  go_enter Try.func41, Try.ntmps41
  go_wp2_with (go_at_call 62; refine (has_no _ _ _ _ _ _ hc ha hn).mono ?_; rintro e w' ⟨rfl, rfl⟩)
  go_ret2
  exact ⟨rfl, rfl⟩

theorem get16_yes (A : Option Addr) (c : Nat) (bs : List UInt8) (k : Nat) (w : World) (B : Nat) (hb : Rd bv w B A c bs) (h : k + 2 ≤ bs.length) :
    Calls Try.prog 41 #[.slice A bs.length c, .int .i64 k] w fun e w' => e = .returned (.tuple #[.int .u16 (beN ((bs.drop k).take 2) : Nat), .bool true]) ∧ ∃ j, w' = w.drewN j := by
  have hc := hb.len
  have hc2 := hb.cap
  obtain ⟨b, off, rfl, hB, hcell⟩ := byt_at hb (k := k) (by omega)
  have c0 := hcell k (by omega)
  have c1 := hcell (k + 1) (by omega)
  rw [take_two bs k h, beN_two, ← or16]
  generalize bs[k] = x0 at c0 ⊢
  generalize bs[k+1] = x1 at c1 ⊢
  generalize bs.length = n at h hc ⊢
  clear hcell hb
  go_enter Try.func41, Try.ntmps41
  go_wp2_with (go_at_call 62; refine (has_yes _ _ _ _ _ _ (by omega) (by omega) (by omega) (by omega)).mono ?_; rintro e w' ⟨rfl, rfl⟩)
  go_quiet (fail)
  go_wp2
  go_ret2
  exact ⟨rfl, _, rfl⟩

theorem get32_no (A : Option Addr) (len c : Nat) (at_ : Int) (w : World) (hc : len ≤ 9223372036854775807) (ha : at_ ≤ 9223372036854775807) (h : at_ < 0 ∨ (len : Int) < at_ + 4) :
    Calls Try.prog 82 #[.slice A len c, .int .i64 at_] w fun e w' => e = .returned (.tuple #[.int .u32 0, .bool false]) ∧ w = w' := by
  have hn : at_ < 0 ∨ (4 : Int) < 0 ∨ (len : Int) < at_ + 4 := by omega
  go_enter Try.func82, Try.ntmps82
  go_wp2_with (go_at_call 62; refine (has_no _ _ _ _ _ _ hc ha hn).mono ?_; rintro e w' ⟨rfl, rfl⟩)
  go_ret2
  exact ⟨rfl, rfl⟩

theorem get32_yes (A : Option Addr) (c : Nat) (bs : List UInt8) (k : Nat) (w : World) (B : Nat) (hb : Rd bv w B A c bs) (h : k + 4 ≤ bs.length) :
    Calls Try.prog 82 #[.slice A bs.length c, .int .i64 k] w fun e w' => e = .returned (.tuple #[.int .u32 (beN ((bs.drop k).take 4) : Nat), .bool true]) ∧ ∃ j, w' = w.drewN j := by
  have hc := hb.len
  have hc2 := hb.cap
  obtain ⟨b, off, rfl, hB, hcell⟩ := byt_at hb (k := k) (by omega)
  have c0 := hcell k (by omega)
  have c1 := hcell (k + 1) (by omega)
  have c2 := hcell (k + 2) (by omega)
  have c3 := hcell (k + 3) (by omega)
  rw [take_four bs k h, beN_four, ← or32]
  generalize bs[k] = x0 at c0 ⊢
  generalize bs[k+1] = x1 at c1 ⊢
  generalize bs[k+2] = x2 at c2 ⊢
  generalize bs[k+3] = x3 at c3 ⊢
  generalize bs.length = n at h hc ⊢
  clear hcell hb
  go_enter Try.func82, Try.ntmps82
  go_wp2_with (go_at_call 62; refine (has_yes _ _ _ _ _ _ (by omega) (by omega) (by omega) (by omega)).mono ?_; rintro e w' ⟨rfl, rfl⟩)
  go_quiet (fail)
  go_wp2
  go_ret2
  exact ⟨rfl, _, rfl⟩

theorem rget_no (A : Option Addr) (len c : Nat) (at_ n : Int) (w : World) (hc : len ≤ 9223372036854775807) (_hn : 0 ≤ n) (_hn2 : n ≤ 9223372036854775807) (h : at_ < 0 ∨ (len : Int) < at_ + n) :
    Calls Try.prog 70 #[.slice A len c, .int .i64 at_, .int .i64 n] w fun e w' => e = .returned (.tuple #[.int .u32 0, .bool false]) ∧ w = w' := by
  by_cases h0 : at_ < 0
  · have hd : decide (at_ < 0) = true := by simp; omega
    go_enter Try.func70, Try.ntmps70
    go_wp2
    go_ret2
    exact ⟨rfl, rfl⟩
  · have hd : decide (at_ < 0) = false := by simp; omega
    have g0 : 0 ≤ at_ := by omega
    by_cases h1 : (len : Int) < at_
    · have hd1 : decide ((len : Int) < at_) = true := by simp; omega
      go_enter Try.func70, Try.ntmps70
      go_wp2
      go_ret2
      exact ⟨rfl, rfl⟩
    · have hd1 : decide ((len : Int) < at_) = false := by simp; omega
      have hd2 : decide ((len : Int) - at_ < n) = true := by simp; omega
      go_enter Try.func70, Try.ntmps70
      go_wp2
      go_ret2
      exact ⟨rfl, rfl⟩

theorem rget_yes (A : Option Addr) (c : Nat) (bs : List UInt8) (k n : Nat) (w : World) (B : Nat) (hb : Rd bv w B A c bs) (h : k + n ≤ bs.length) :
    Calls Try.prog 70 #[.slice A bs.length c, .int .i64 k, .int .i64 n] w fun e w' => e = .returned (.tuple #[.int .u32 (beN ((bs.drop k).take n) : Nat), .bool true]) ∧ w = w' := by
  have hc := hb.len
  have hc2 := hb.cap
  have hd : decide ((k : Int) < 0) = false := by simp
  have hd1 : decide ((bs.length : Int) < k) = false := by simp; omega
  have hd2 : decide ((bs.length : Int) - k < n) = false := by simp; omega
  go_enter Try.func70, Try.ntmps70
  go_wp2
  go_loop [8, 9] (fun x i => ∃ j : Nat, j ≤ n ∧ i = .int .i64 j ∧ x = .int .u32 (beN ((bs.drop k).take j) : Nat)) (fun _ i => n - (intOf i).toNat)
  case atStart => exact ⟨0, by omega, rfl, rfl⟩
  case round =>
    obtain ⟨j, hj, rfl, rfl⟩ := hrel
    by_cases hlt : j < n
    · obtain ⟨b, off, rfl, hB, hcell⟩ := byt_at hb (k := k) (by omega)
      have c0 := hcell (k + j) (by omega)
      have hs := take_next bs k j (by omega)
      have HS := Lib.hid hs
      have hbN := beN_lt ((bs.drop k).take j)
      have hx := (bs[k+j]).toNat_lt
      have HX := Lib.hid (beN_snoc ((bs.drop k).take j) bs[k+j])
      clear hcell hb hs
      generalize bs[k+j] = x at c0 hx HS HX
      go_wp2
      go_round
      case rel => exact ⟨j + 1, by omega, by go_num, by rw [HS.out, HX.out]; congr 1; omega⟩
      case measure => simp [intOf]; omega
    · go_wp2
      go_ret2
      have : j = n := by omega
      subst this
      exact ⟨rfl, rfl⟩

theorem rget2_yes (A : Option Addr) (c : Nat) (bs : List UInt8) (k : Nat) (w : World) (B : Nat) (hb : Rd bv w B A c bs) (h : k + 2 ≤ bs.length) :
    Calls Try.prog 70 #[.slice A bs.length c, .int .i64 k, .int .i64 2] w fun e w' => e = .returned (.tuple #[.int .u32 (beN ((bs.drop k).take 2) : Nat), .bool true]) ∧ w = w' :=
  rget_yes A c bs k 2 w B hb h
theorem rget4_yes (A : Option Addr) (c : Nat) (bs : List UInt8) (k : Nat) (w : World) (B : Nat) (hb : Rd bv w B A c bs) (h : k + 4 ≤ bs.length) :
    Calls Try.prog 70 #[.slice A bs.length c, .int .i64 k, .int .i64 4] w fun e w' => e = .returned (.tuple #[.int .u32 (beN ((bs.drop k).take 4) : Nat), .bool true]) ∧ w = w' :=
  rget_yes A c bs k 4 w B hb h
end Go.Proofs.Yteodjajjlgekcaa
