/- Contracts of package octet's Set16, Cut, Same. -/
import Derived.Test.YtlceflfmdfoeiaaOct1
import Derived.Test.YtlceflfmdfoeiaaOct2
namespace Go.Proofs.Ytlceflfmdfoeiaa
open Go.RowKit

theorem set16_no (A : Option Addr) (len c : Nat) (at_ n : Int) (w : World) (hc : len ≤ 9223372036854775807) (ha : at_ ≤ 9223372036854775807) (h : at_ < 0 ∨ (len : Int) < at_ + 2) :
    Calls Try.prog 27 #[.slice A len c, .int .i64 at_, .int .u16 n] w fun e w' => e = .returned (.tuple #[.slice none 0 0, .bool false]) ∧ w = w' := by
  have hn : at_ < 0 ∨ (2 : Int) < 0 ∨ (len : Int) < at_ + 2 := by omega
  go_enter Try.func27, Try.ntmps27
  go_wp2_with (go_at_call 39; refine (has_no _ _ _ _ _ _ hc ha hn).mono ?_; rintro e w' ⟨rfl, rfl⟩)
  go_ret2
  exact ⟨rfl, rfl⟩

theorem set16_yes (A : Option Addr) (c : Nat) (bs : List UInt8) (k : Nat) (n : UInt16) (w : World) (hb : Rd bv w w.heap.size A c bs) (h : k + 2 ≤ bs.length) (hl : bs.length ≤ 1000000) :
    Calls Try.prog 27 #[.slice A bs.length c, .int .i64 k, .int .u16 n.toNat] w fun e w' => ∃ v, e = .returned (.tuple #[v, .bool true]) ∧
      Own bv w' w.heap.size 5 v ((bs.set k (UInt8.ofNat (n.toNat / 256))).set (k + 1) (UInt8.ofNat (n.toNat % 256))) ∧ Below w.heap.size w w' := by
  have hc := hb.len
  have hc2 := hb.cap
  go_enter Try.func27, Try.ntmps27
  go_wp2_with fail
  refine (has_yes _ _ _ _ _ _ (by omega) (by omega) (by omega) (by omega)).mono ?_; rintro e w' ⟨rfl, rfl⟩
  go_wp2_with fail
  refine (fresh_any A c bs 0 _ hb (by omega)).mono ?_; rintro e w1 ⟨v1, rfl, hown1, hbel1, hnn1⟩
  obtain ⟨g, cap, rfl, hg, hcap⟩ := hown1.some_ hnn1
  obtain ⟨⟨u1, hu1⟩, hf1, ho1, _⟩ := hown1.store rfl k (by omega) (UInt8.ofNat (n.toNat / 256)) (.int .u8 ((n.toNat : Int) / 256)) (by simp only [bv, ofNat_div16])
  obtain ⟨⟨u2, hu2⟩, hf2, ho2, _⟩ := hown1.store rfl (k + 1) (by omega) (UInt8.ofNat (n.toNat % 256)) (.int .u8 ((n.toNat : Int) % 256)) (by simp only [bv, ofNat_mod])
  have hr := u16_le n
  go_wp2_with fail
  go_ret2
  obtain ⟨_, _, ho3, _⟩ := ho1.store (by simp) (k + 1) (by omega) (UInt8.ofNat (n.toNat % 256)) (.int .u8 ((n.toNat : Int) % 256)) (by simp only [bv, ofNat_mod])
  exact ⟨_, rfl, ho3, (hbel1.setCell (p := ⟨g, k, none⟩) hg _).setCell (p := ⟨g, k + 1, none⟩) hg _⟩

theorem cut_no (A : Option Addr) (len c : Nat) (at_ n : Int) (w : World) (hc : len ≤ 9223372036854775807) (ha : at_ ≤ 9223372036854775807) (h : at_ < 0 ∨ n < 0 ∨ (len : Int) < at_ + n) :
    Calls Try.prog 38 #[.slice A len c, .int .i64 at_, .int .i64 n] w fun e w' => e = .returned (.tuple #[.slice none 0 0, .bool false]) ∧ w = w' := by
  go_enter Try.func38, Try.ntmps38
  go_wp2_with (go_at_call 39; refine (has_no _ _ _ _ _ _ hc ha h).mono ?_; rintro e w' ⟨rfl, rfl⟩)
  go_ret2
  exact ⟨rfl, rfl⟩

theorem cut_yes (A : Option Addr) (c : Nat) (bs : List UInt8) (k n : Nat) (w : World) (hb : Rd bv w w.heap.size A c bs) (h : k + n ≤ bs.length) (hl : bs.length ≤ 1000000) :
    Calls Try.prog 38 #[.slice A bs.length c, .int .i64 k, .int .i64 n] w fun e w' => ∃ v, e = .returned (.tuple #[v, .bool true]) ∧ Own bv w' w.heap.size 5 v ((bs.drop k).take n) ∧ Below w.heap.size w w' := by
  have hc := hb.len
  have hc2 := hb.cap
  obtain ⟨i0, hi0, hz0, hz1, hz2⟩ := info_parts info_u8
  obtain ⟨A2, c2, hrd2, hsl⟩ := hb.slice_lh Try.underlying24 hi0 hz1 k n h
  have hlen : ((bs.drop k).take n).length = n := by simp; omega
  have HL := Lib.hid hlen
  clear hlen
  go_enter Try.func38, Try.ntmps38
  go_wp2_with fail
  refine (has_yes _ _ _ _ _ _ (by omega) (by omega) (by omega) (by omega)).mono ?_; rintro e w' ⟨rfl, rfl⟩
  go_wp2_with fail
  have hf := fresh_any A2 c2 ((bs.drop k).take n) 0 _ hrd2 (by have := HL.out; omega)
  rw [HL.out] at hf
  refine hf.mono ?_; rintro e w1 ⟨v1, rfl, hown1, hbel1, hnn1⟩
  clear hf
  go_wp2_with fail
  go_ret2
  exact ⟨_, rfl, hown1, hbel1⟩

end Go.Proofs.Ytlceflfmdfoeiaa
