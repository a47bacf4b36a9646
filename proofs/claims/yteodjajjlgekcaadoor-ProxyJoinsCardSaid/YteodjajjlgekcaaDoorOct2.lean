/- Contracts of package octet's makers: fresh, Put16, Put32, Hex. -/
import Derived.Test.YteodjajjlgekcaaDoorProg
import Derived.Test.YteodjajjlgekcaaDoorMem
import Derived.Test.YteodjajjlgekcaaDoorNum
import Derived.BigQuiet
import Derived.Deep.QuietTactic
import Derived.Outline
import Derived.RegionTactic
import Derived.Deep.RegionLaw
namespace Go.Proofs.YteodjajjlgekcaaDoor
open Go.RowKit

theorem info_u8 : (Tryd.prog.info? 5).map (fun i => (i.zero, i.size, i.bytes)) = some (some (.int .u8 0), 1, 1) := by kernel_rfl
theorem bv_one (x : UInt8) : (bv x).oneCell' = true := rfl

theorem fresh_any (A : Option Addr) (c : Nat) (bs : List UInt8) (more : Nat) (w : World) (hb : Rd bv w w.heap.size A c bs) (hl : bs.length + more ≤ 1000000000) :
    Calls Tryd.prog 57 #[.slice A bs.length c, .int .i64 more] w fun e w' => ∃ v, e = .returned v ∧ Own bv w' w.heap.size 5 v bs ∧ Below w.heap.size w w' ∧ v ≠ .slice none 0 0 := by
  obtain ⟨i0, hi0, hz0, hz1, hz2⟩ := info_parts info_u8
  go_enter Tryd.func57, Tryd.ntmps57
  go_wp2_with (first
    | (at_make; go_loud (refine wpList_make_own _ rfl _ _ _ rfl w.heap.size 5 i0 _ 1 Tryd.underlying42 hi0 hz0 hz1 _ _ _ (bs.length + more) rfl rfl (by omega) (by rw [hz2]; omega) (by unfold maxLen; omega) (Nat.le_refl _) ?_); intro w1 hown1 hg1)
    | (at_builtin; go_loud (refine wpList_append_rd rfl (.tmp 9) (.tmp 10) _ rfl bv w.heap.size 5 i0 _ 1 Tryd.underlying42 hi0 hz0 hz1 hz2 rfl bv_one _ [] rfl hown1 w.heap.size A c bs rfl (hb.below ((Below.refl _ _).grown hg1 (Nat.le_refl _) (by simp))) (by simp; omega) (by simp; omega) hg1.size w ((Below.refl _ _).grown hg1 (Nat.le_refl _) (by simp)) ?_); intro v2 w2 hown2 hb2 hnn))
  go_ret
  exact ⟨v2, rfl, hown2, hb2, fun h => by cases hnn h⟩

theorem put16_any (A : Option Addr) (c : Nat) (bs : List UInt8) (A2 : Option Addr) (c2 : Nat) (xs : List UInt16) (w : World) (hb : Rd bv w w.heap.size A c bs) (hx : Rd hv w w.heap.size A2 c2 xs)
    (hl : bs.length ≤ 1000000) (hl2 : xs.length ≤ 1000000) :
    Calls Tryd.prog 58 #[.slice A bs.length c, .slice A2 xs.length c2] w fun e w' => ∃ v, e = .returned v ∧ Own bv w' w.heap.size 5 v (bs ++ puts16 xs) ∧ Below w.heap.size w w' ∧ v ≠ .slice none 0 0 := by
  obtain ⟨i0, hi0, hz0, hz1, hz2⟩ := info_parts info_u8
  have hc2 := hx.len
  have hc3 := hx.cap
  go_enter Tryd.func58, Tryd.ntmps58
  go_wp2_with (go_at_call 57; go_loud (refine (fresh_any A c bs (2 * xs.length) _ hb (by omega)).mono ?_); rintro e w1 ⟨v1, rfl, hown1, hbel1, hnn1⟩)
  have HO := Lib.hid hown1
  have HN := Lib.hid hnn1
  clear hown1 hnn1
  go_loopw [5, 15] (fun v i wr => ∃ j : Nat, j ≤ xs.length ∧ i = .int .i64 j ∧ Hid (Own bv wr w.heap.size 5 v (bs ++ puts16 (xs.take j))) ∧ Below w.heap.size w wr ∧ Hid (v ≠ .slice none 0 0)) (fun _ i _ => xs.length - (intOf i).toNat)
  case atStart => exact ⟨0, by omega, rfl, by simpa [puts16] using HO, hbel1, HN⟩
  case round =>
    obtain ⟨j, hj, rfl, HO2, hbw, HN2⟩ := hrel
    by_cases hlt : j < xs.length
    · obtain ⟨b, off, rfl, hB, hcell⟩ := (hx.below hbw).at_ (k := j) hlt
      have c0 := hcell j hlt
      unfold hv at c0
      have HT := Lib.hid (take_one xs j hlt)
      have hr := u16_le xs[j]
      have hlen : (bs ++ puts16 (xs.take j)).length + 2 ≤ 10000000 := by
        rw [List.length_append, puts16_len, List.length_take]; omega
      have hszw := hbw.size
      clear hcell hb hx HO HN
      generalize xs[j] = x at c0 HT hr
      have HL := Lib.hid (show (#[.int .u8 ((x.toNat : Int) / 256), .int .u8 ((x.toNat : Int) % 256)] : Array Value).toList = (be16 x).map bv by simp only [be16, bv, List.map, ofNat_div16, ofNat_mod])
      go_wp2_with (at_builtin; (refine wpList_append_rd rfl (.tmp 19) (.tmp 25) _ rfl bv w.heap.size 5 i0 _ 1 Tryd.underlying42 hi0 hz0 hz1 hz2 rfl bv_one _ _ rfl (HO2.out.alloc _) (wr.heap.size + 1) (some ⟨wr.heap.size, 0, none⟩) 2 (be16 x) rfl (rd_lit wr _ _ (be16 x) HL.out (by simp [be16])) (by simp only [be16, List.length_cons, List.length_nil]; omega) (by simp only [be16, List.length_cons, List.length_nil]; omega) (by simp; omega) w (hbw.alloc hszw _) ?_); intro v2 w2 hown2 hb2 hnn)
      go_roundw
      case rel => exact ⟨j + 1, by omega, by go_num, by rw [HT.out, puts16_snoc, ← List.append_assoc]; exact hown2, hb2, fun h => HN2.out (hnn h)⟩
      case measure => simp [intOf]; omega
    · go_wp2
      go_ret
      have : j = xs.length := by omega
      subst this
      exact ⟨_, rfl, by simpa using HO2.out, hbw, HN2.out⟩
theorem put32_any (A : Option Addr) (c : Nat) (bs : List UInt8) (A2 : Option Addr) (c2 : Nat) (xs : List UInt32) (w : World) (hb : Rd bv w w.heap.size A c bs) (hx : Rd wv w w.heap.size A2 c2 xs)
    (hl : bs.length ≤ 1000000) (hl2 : xs.length ≤ 1000000) :
    Calls Tryd.prog 39 #[.slice A bs.length c, .slice A2 xs.length c2] w fun e w' => ∃ v, e = .returned v ∧ Own bv w' w.heap.size 5 v (bs ++ puts32 xs) ∧ Below w.heap.size w w' ∧ v ≠ .slice none 0 0 := by
  obtain ⟨i0, hi0, hz0, hz1, hz2⟩ := info_parts info_u8
  have hc2 := hx.len
  have hc3 := hx.cap
  go_enter Tryd.func39, Tryd.ntmps39
  go_wp2_with (go_at_call 57; go_loud (refine (fresh_any A c bs (4 * xs.length) _ hb (by omega)).mono ?_); rintro e w1 ⟨v1, rfl, hown1, hbel1, hnn1⟩)
  have HO := Lib.hid hown1
  have HN := Lib.hid hnn1
  clear hown1 hnn1
  go_loopw [5, 15] (fun v i wr => ∃ j : Nat, j ≤ xs.length ∧ i = .int .i64 j ∧ Hid (Own bv wr w.heap.size 5 v (bs ++ puts32 (xs.take j))) ∧ Below w.heap.size w wr ∧ Hid (v ≠ .slice none 0 0)) (fun _ i _ => xs.length - (intOf i).toNat)
  case atStart => exact ⟨0, by omega, rfl, by simpa [puts32] using HO, hbel1, HN⟩
  case round =>
    obtain ⟨j, hj, rfl, HO2, hbw, HN2⟩ := hrel
    by_cases hlt : j < xs.length
    · obtain ⟨b, off, rfl, hB, hcell⟩ := (hx.below hbw).at_ (k := j) hlt
      have c0 := hcell j hlt
      unfold wv at c0
      have HT := Lib.hid (take_one xs j hlt)
      have hr := u32_le xs[j]
      have hlen : (bs ++ puts32 (xs.take j)).length + 4 ≤ 10000000 := by
        rw [List.length_append, puts32_len, List.length_take]; omega
      have hszw := hbw.size
      clear hcell hb hx HO HN
      generalize xs[j] = x at c0 HT hr
      have HL := Lib.hid (show (#[.int .u8 ((x.toNat : Int) / 16777216), .int .u8 ((x.toNat : Int) / 65536 % 256), .int .u8 ((x.toNat : Int) / 256 % 256), .int .u8 ((x.toNat : Int) % 256)] : Array Value).toList = (be32 x).map bv by simp only [be32, bv, List.map, ofNat_div32, ofNat_mod]; rfl)
      go_wp2_with (at_builtin; (refine wpList_append_rd rfl (.tmp 19) (.tmp 31) _ rfl bv w.heap.size 5 i0 _ 1 Tryd.underlying42 hi0 hz0 hz1 hz2 rfl bv_one _ _ rfl (HO2.out.alloc _) (wr.heap.size + 1) (some ⟨wr.heap.size, 0, none⟩) 4 (be32 x) rfl (rd_lit wr _ _ (be32 x) HL.out (by simp [be32])) (by simp only [be32, List.length_cons, List.length_nil]; omega) (by simp only [be32, List.length_cons, List.length_nil]; omega) (by simp; omega) w (hbw.alloc hszw _) ?_); intro v2 w2 hown2 hb2 hnn)
      go_roundw
      case rel => exact ⟨j + 1, by omega, by go_num, by rw [HT.out, puts32_snoc, ← List.append_assoc]; exact hown2, hb2, fun h => HN2.out (hnn h)⟩
      case measure => simp [intOf]; omega
    · go_wp2
      go_ret
      have : j = xs.length := by omega
      subst this
      exact ⟨_, rfl, by simpa using HO2.out, hbw, HN2.out⟩

theorem fig_at : ∀ k (h : k < 16), (⟨#[48, 49, 50, 51, 52, 53, 54, 55, 56, 57, 97, 98, 99, 100, 101, 102]⟩ : ByteArray)[k]'h = fig k := by decide
theorem idx_fig (k : Nat) (h : k < 16) (w : World) :
    (Instr.index 9 (.string ⟨#[48, 49, 50, 51, 52, 53, 54, 55, 56, 57, 97, 98, 99, 100, 101, 102]⟩) (.int .u8 (k : Int))).run Tryd.prog w = .ok (.int .u8 ((fig k).toNat : Int)) w := by
  have hk : (k : Int) < 16 := by omega
  have h0 : (0 : Int) ≤ k := by omega
  go_simp
  rw [← fig_at k h]
theorem and15 (x : UInt8) : bits BinOp.and IntKind.u8 (x.toNat : Int) 15 = ((x.toNat % 16 : Nat) : Int) := by
  have hx := x.toNat_lt
  rw [show (15 : Int) = ((15 : Nat) : Int) from rfl, u8_and_nat _ _ (by omega) (by omega), nat_mask4]

end Go.Proofs.YteodjajjlgekcaaDoor
