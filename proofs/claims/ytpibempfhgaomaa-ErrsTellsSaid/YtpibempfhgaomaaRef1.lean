/- Contracts of the reference's helpers on bytes: Same, Add, Put, Cut. -/
import Derived.Test.YtpibempfhgaomaaOct1
import Derived.Test.YtpibempfhgaomaaOct2
namespace Go.Proofs.Ytpibempfhgaomaa
open Go.RowKit

/-- Where two lists of one length first differ. -/
theorem first_diff : ∀ (xs bs : List UInt8), xs.length = bs.length → xs ≠ bs → ∃ k, k < xs.length ∧ xs.take k = bs.take k ∧ xs.getD k 0 ≠ bs.getD k 0
  | [], [], _, h => absurd rfl h
  | a :: xs, b :: bs, hl, h => by
    by_cases hab : a = b
    · subst hab
      obtain ⟨k, h1, h2, h3⟩ := first_diff xs bs (by simpa using hl) (by simpa using h)
      exact ⟨k + 1, by simp; omega, by simp [h2], by simpa using h3⟩
    · exact ⟨0, by simp, rfl, by simpa using hab⟩

theorem radd_any (A1 A2 : Option Addr) (c1 c2 : Nat) (xs bs : List UInt8) (w : World) (h1 : Rd bv w w.heap.size A1 c1 xs) (h2 : Rd bv w w.heap.size A2 c2 bs) (hl : xs.length + bs.length ≤ 1000000000) :
    Calls Try.prog 15 #[.slice A1 xs.length c1, .slice A2 bs.length c2] w fun e w' => ∃ v, e = .returned v ∧ Own bv w' w.heap.size 5 v (xs ++ bs) ∧ Below w.heap.size w w' := by
  obtain ⟨i0, hi0, hz0, hz1, hz2⟩ := info_parts info_u8
  have hown0 : Own bv (w.alloc (.cells #[] 5)) w.heap.size 5 (.slice (some ⟨w.heap.size, 0, none⟩) 0 0) [] := World.ownsRow_lit w #[] 0 (Nat.le_refl _) (by unfold maxLen; omega) rfl
  have hb0 : Below w.heap.size w (w.alloc (.cells #[] 5)) := (Below.refl _ _).alloc (Nat.le_refl _) _
  go_enter Try.func15, Try.ntmps15
  go_wp2_with (first
    | (at_builtin; refine wpList_append_rd rfl (.tmp 7) (.tmp 8) _ rfl bv w.heap.size 5 i0 _ 1 Try.underlying34 hi0 hz0 hz1 hz2 rfl bv_one _ [] rfl hown0 w.heap.size A1 c1 xs rfl (h1.below hb0) (by simp; omega) (by simp; omega) (by simp) w hb0 ?_; intro v1 w1 hown1 hb1 hnn1)
    | (at_builtin; refine wpList_append_rd rfl (.tmp 10) (.tmp 11) _ rfl bv w.heap.size 5 i0 _ 1 Try.underlying34 hi0 hz0 hz1 hz2 rfl bv_one _ _ rfl hown1 w.heap.size A2 c2 bs rfl (h2.below hb1) (by simp; omega) (by simp; omega) hb1.size w hb1 ?_; intro v2 w2 hown2 hb2 hnn2))
  go_ret
  exact ⟨v2, rfl, by simpa using hown2, hb2⟩

/-- A number as so many bytes, the last ones of it. -/
def putN : Nat → Nat → List UInt8
  | 0, _ => []
  | s + 1, n => putN s (n / 256) ++ [UInt8.ofNat (n % 256)]
theorem putN_len (s n : Nat) : (putN s n).length = s := by
  induction s generalizing n with
  | zero => rfl
  | succ s ih => simp [putN, ih]
theorem put_step (size k n : Nat) (xs : List UInt8) (hk : k < size) (hl : xs.length = size) (L : List UInt8) (h : putN (size - k) n ++ xs.drop (size - k) = L) :
    putN (size - (k + 1)) (n / 256) ++ (xs.set (size - 1 - k) (UInt8.ofNat (n % 256))).drop (size - (k + 1)) = L := by
  obtain ⟨s, hs⟩ : ∃ s, size - k = s + 1 := ⟨size - k - 1, by omega⟩
  rw [hs] at h
  rw [show size - 1 - k = s by omega, show size - (k + 1) = s by omega, ← h, putN]
  rw [List.drop_set, if_neg (by omega)]
  rw [List.drop_eq_getElem_cons (by omega : s < xs.length)]
  simp
  rw [List.drop_eq_getElem_cons (by omega : s < xs.length)]
  rfl

theorem putN_two (n : Nat) : putN 2 n = [UInt8.ofNat (n / 256 % 256), UInt8.ofNat (n % 256)] := rfl
theorem putN_four (n : Nat) : putN 4 n = [UInt8.ofNat (n / 256 / 256 / 256 % 256), UInt8.ofNat (n / 256 / 256 % 256), UInt8.ofNat (n / 256 % 256), UInt8.ofNat (n % 256)] := rfl
theorem be16_put (x : UInt16) : be16 x = putN 2 x.toNat := by
  have := x.toNat_lt
  rw [putN_two, be16, show x.toNat / 256 % 256 = x.toNat / 256 by omega]
theorem be32_put (x : UInt32) : be32 x = putN 4 x.toNat := by
  have := x.toNat_lt
  rw [putN_four, be32, show x.toNat / 256 / 256 / 256 % 256 = x.toNat / 16777216 by omega, show x.toNat / 256 / 256 % 256 = x.toNat / 65536 % 256 by omega]

theorem rput_any (n size : Nat) (w : World) (hn : n < 4294967296) (hs : size ≤ 1000) :
    Calls Try.prog 36 #[.int .u32 n, .int .i64 size] w fun e w' => ∃ v, e = .returned v ∧ Own bv w' w.heap.size 5 v (putN size n) ∧ Below w.heap.size w w' := by
  obtain ⟨i0, hi0, hz0, hz1, hz2⟩ := info_parts info_u8
  go_enter Try.func36, Try.ntmps36
  go_wp2_with (at_make; go_loud (refine wpList_make_full _ rfl _ _ _ rfl w.heap.size 5 i0 _ 1 Try.underlying34 hi0 hz0 hz1 _ _ _ _ size rfl rfl rfl rfl (by rw [hz2]; omega) (by unfold maxLen; omega) (Nat.le_refl _) ?_); intro w1 hown1 hg1)
  have hbel1 : Below w.heap.size w w1 := (Below.refl _ _).grown hg1 (Nat.le_refl _) (by simp)
  have HO : Hid (Own bv w1 w.heap.size 5 (.slice (some ⟨w.heap.size, 0, none⟩) size size) (List.replicate size (0 : UInt8))) := by
    have := hown1
    simp only [Value.cells, Nat.mul_one, toList_madeCells_one] at this
    simpa [Own, bv, Hid] using this
  clear hown1 hg1
  go_loopw [0, 6] (fun nv i wr => ∃ (k m : Nat) (xs : List UInt8), k ≤ size ∧ i = .int .i64 k ∧ nv = .int .u32 m ∧ m < 4294967296 ∧ Hid (xs.length = size) ∧ Hid (putN (size - k) m ++ xs.drop (size - k) = putN size n) ∧ Hid (Own bv wr w.heap.size 5 (.slice (some ⟨w.heap.size, 0, none⟩) size size) xs) ∧ Below w.heap.size w wr) (fun _ i _ => size - (intOf i).toNat)
  case atStart => exact ⟨0, n, List.replicate size 0, by omega, rfl, rfl, hn, by simp [Hid], by simp [Hid], HO, hbel1⟩
  case round =>
    obtain ⟨k, m, xs, hk, rfl, rfl, hm, HL, HP, HO2, hbw⟩ := hrel
    by_cases hlt : k < size
    · obtain ⟨⟨u0, hc0⟩, hfz, hown3, _⟩ := HO2.out.store HL.out (size - 1 - k) (by omega) (UInt8.ofNat (m % 256)) (.int .u8 ((m : Int) % 256)) (by simp [bv])
      have HO3 := Lib.hid hown3
      have hb3 := hbw.setCell (p := ⟨w.heap.size, size - 1 - k, none⟩) (Nat.le_refl _) (.int .u8 ((m : Int) % 256))
      have HP3 := Lib.hid (put_step size k m xs hlt HL.out _ HP.out)
      have HL3 : Hid ((xs.set (size - 1 - k) (UInt8.ofNat (m % 256))).length = size) := by simpa [Hid] using HL.out
      clear hown3 HP HO2 HO HL
      go_wp2
      go_roundw
      case rel => exact ⟨k + 1, m / 256, _, by omega, by go_num, by go_num, by omega, HL3, HP3, HO3, hb3⟩
      case measure => simp [intOf]; omega
    · have : k = size := by omega
      subst this
      have hx : xs = putN k n := by simpa [putN] using HP.out
      have HX := Lib.hid hx
      clear hx
      go_wp2
      go_ret
      exact ⟨_, rfl, by rw [← HX.out]; exact HO2.out, hbw⟩

end Go.Proofs.Ytpibempfhgaomaa
