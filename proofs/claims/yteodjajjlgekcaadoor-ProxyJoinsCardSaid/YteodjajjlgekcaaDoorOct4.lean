/- Contracts of package octet's Set16, Cut, Same. -/
import Derived.Test.YteodjajjlgekcaaDoorOct1
import Derived.Test.YteodjajjlgekcaaDoorOct2
namespace Go.Proofs.YteodjajjlgekcaaDoor
open Go.RowKit

theorem cut_no (A : Option Addr) (len c : Nat) (at_ n : Int) (w : World) (hc : len ≤ 9223372036854775807) (ha : at_ ≤ 9223372036854775807) (h : at_ < 0 ∨ n < 0 ∨ (len : Int) < at_ + n) :
    Calls Tryd.prog 75 #[.slice A len c, .int .i64 at_, .int .i64 n] w fun e w' => e = .returned (.tuple #[.slice none 0 0, .bool false]) ∧ w = w' := by
  go_enter Tryd.func75, Tryd.ntmps75
  go_wp2_with (go_at_call 71; refine (has_no _ _ _ _ _ _ hc ha h).mono ?_; rintro e w' ⟨rfl, rfl⟩)
  go_ret2
  exact ⟨rfl, rfl⟩

theorem cut_yes (A : Option Addr) (c : Nat) (bs : List UInt8) (k n : Nat) (w : World) (hb : Rd bv w w.heap.size A c bs) (h : k + n ≤ bs.length) (hl : bs.length ≤ 1000000) :
    Calls Tryd.prog 75 #[.slice A bs.length c, .int .i64 k, .int .i64 n] w fun e w' => ∃ v, e = .returned (.tuple #[v, .bool true]) ∧ Own bv w' w.heap.size 5 v ((bs.drop k).take n) ∧ Below w.heap.size w w' := by
  have hc := hb.len
  have hc2 := hb.cap
  obtain ⟨i0, hi0, hz0, hz1, hz2⟩ := info_parts info_u8
  obtain ⟨A2, c2, hrd2, hsl⟩ := hb.slice_lh Tryd.underlying42 hi0 hz1 k n h
  have hlen : ((bs.drop k).take n).length = n := by simp; omega
  have HL := Lib.hid hlen
  clear hlen
  go_enter Tryd.func75, Tryd.ntmps75
  go_wp2_with fail
  refine (has_yes _ _ _ _ _ _ (by omega) (by omega) (by omega) (by omega)).mono ?_; rintro e w' ⟨rfl, rfl⟩
  go_wp2_with fail
  have hf := fresh_any A2 c2 ((bs.drop k).take n) 0 _ hrd2 (by have := HL.out; omega)
  rw [HL.out] at hf
  refine hf.mono ?_; rintro e w1 ⟨v1, rfl, hown1, hbel1, hnn1⟩
  clear hf
  go_wp2_with fail
  go_ret2
  exact ⟨_, rfl, hown1, hbel1⟩

end Go.Proofs.YteodjajjlgekcaaDoor
