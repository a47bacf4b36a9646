/- Contracts of the reference's helpers on bytes: Same, Add, Put, Cut. -/
import Derived.Test.YteodjajjlgekcaaDoorOct1
import Derived.Test.YteodjajjlgekcaaDoorOct2
namespace Go.Proofs.YteodjajjlgekcaaDoor
open Go.RowKit

theorem rsame_yes (A1 A2 : Option Addr) (c1 c2 : Nat) (bs : List UInt8) (w : World) (B : Nat) (h1 : Rd bv w B A1 c1 bs) (h2 : Rd bv w B A2 c2 bs) :
    Calls Tryd.prog 50 #[.slice A1 bs.length c1, .slice A2 bs.length c2] w fun e w' => e = .returned (.bool true) ∧ Drawn w w' := by
  have hl := h1.len
  have hc := h1.cap
  go_enter Tryd.func50, Tryd.ntmps50
  go_wp2
  go_loopw [5] (fun i wr => ∃ j : Nat, j ≤ bs.length ∧ i = .int .i64 j ∧ Drawn w wr) (fun i _ => bs.length - (intOf i).toNat)
  case atStart => exact ⟨0, by omega, rfl, Drawn.refl _⟩
  case round =>
    obtain ⟨j, hj, rfl, hd⟩ := hrel
    by_cases hlt : j < bs.length
    · obtain ⟨b1, o1, rfl, hB1, hcell1⟩ := byt_at (h1.drawn hd) (k := j) hlt
      obtain ⟨b2, o2, rfl, hB2, hcell2⟩ := byt_at (h2.drawn hd) (k := j) hlt
      have k1 := hcell1 j hlt
      have k2 := hcell2 j hlt
      generalize bs[j] = x at k1 k2
      clear hcell1 hcell2 h1 h2
      go_wp2_with fail
      go_quiet (fail)
      go_wp2
      go_roundw
      case rel => exact ⟨j + 1, by omega, by go_num, hd.step _⟩
      case measure => simp [intOf]; omega
    · go_wp2
      go_ret
      exact ⟨rfl, hd⟩

theorem rsame_eq (A1 A2 : Option Addr) (c1 c2 : Nat) (xs bs : List UInt8) (w : World) (B : Nat) (h1 : Rd bv w B A1 c1 xs) (h2 : Rd bv w B A2 c2 bs) (he : xs = bs) :
    Calls Tryd.prog 50 #[.slice A1 xs.length c1, .slice A2 bs.length c2] w fun e w' => e = .returned (.bool true) ∧ Drawn w w' := by
  subst he
  exact rsame_yes A1 A2 c1 c2 xs w B h1 h2

/-- Where two lists of one length first differ. -/
theorem first_diff : ∀ (xs bs : List UInt8), xs.length = bs.length → xs ≠ bs → ∃ k, k < xs.length ∧ xs.take k = bs.take k ∧ xs.getD k 0 ≠ bs.getD k 0
  | [], [], _, h => absurd rfl h
  | a :: xs, b :: bs, hl, h => by
    by_cases hab : a = b
    · subst hab
      obtain ⟨k, h1, h2, h3⟩ := first_diff xs bs (by simpa using hl) (by simpa using h)
      exact ⟨k + 1, by simp; omega, by simp [h2], by simpa using h3⟩
    · exact ⟨0, by simp, rfl, by simpa using hab⟩

theorem rsame_no (A1 A2 : Option Addr) (c1 c2 : Nat) (xs bs : List UInt8) (w : World) (B : Nat) (h1 : Rd bv w B A1 c1 xs) (h2 : Rd bv w B A2 c2 bs) (hne : xs ≠ bs) :
    Calls Tryd.prog 50 #[.slice A1 xs.length c1, .slice A2 bs.length c2] w fun e w' => e = .returned (.bool false) ∧ Drawn w w' := by
  have hl := h1.len
  have hc := h1.cap
  by_cases hlen : xs.length = bs.length
  · obtain ⟨d, hd1, hd2, hd3⟩ := first_diff xs bs hlen hne
    have HL := Lib.hid hlen
    have HD := Lib.hid hd2
    have HD3 := Lib.hid hd3
    rw [← hlen]
    clear hlen hd2 hd3
    go_enter Tryd.func50, Tryd.ntmps50
    go_wp2
    go_loopw [5] (fun i wr => ∃ j : Nat, j ≤ d ∧ i = .int .i64 j ∧ Drawn w wr) (fun i _ => xs.length - (intOf i).toNat)
    case atStart => exact ⟨0, by omega, rfl, Drawn.refl _⟩
    case round =>
      obtain ⟨j, hj, rfl, hd⟩ := hrel
      have hlt : j < xs.length := by omega
      have hlt2 : j < bs.length := by have := HL.out; omega
      obtain ⟨b1, o1, rfl, hB1, hcell1⟩ := byt_at (h1.drawn hd) (k := j) hlt
      obtain ⟨b2, o2, rfl, hB2, hcell2⟩ := byt_at (h2.drawn hd) (k := j) hlt2
      have k1 := hcell1 j hlt
      have k2 := hcell2 j hlt2
      by_cases hjd : j < d
      · have hx : xs[j] = bs[j] := by
          have h := congrArg (fun l => l[j]?) HD.out
          simpa [hjd, hlt, hlt2] using h
        rw [← hx] at k2
        generalize xs[j] = x at k1 k2
        clear hcell1 hcell2 h1 h2 hx
        go_wp2_with fail
        go_quiet (fail)
        go_wp2
        go_roundw
        case rel => exact ⟨j + 1, by omega, by go_num, hd.step _⟩
        case measure => simp [intOf]; omega
      · have hjd' : j = d := by omega
        have hx : xs[j] ≠ bs[j] := by
          subst hjd'
          simpa [List.getD, hlt, hlt2] using HD3.out
        generalize xs[j] = x at k1 hx
        generalize bs[j] = y at k2 hx
        have hxy : (!((x.toNat : Int) == (y.toNat : Int))) = true := by
          simp; intro h; exact hx (UInt8.toNat_inj.1 (by omega))
        have hxy2 : ((x.toNat : Int) == (y.toNat : Int)) = false := by simpa using hxy
        clear hcell1 hcell2 h1 h2 hx hjd'
        go_wp2_with fail
        go_quiet (fail)
        go_wp2
        go_ret
        exact ⟨rfl, hd.step _⟩
  · go_enter Tryd.func50, Tryd.ntmps50
    go_wp2
    go_ret
    exact ⟨rfl, Drawn.refl _⟩

theorem radd_any (A1 A2 : Option Addr) (c1 c2 : Nat) (xs bs : List UInt8) (w : World) (h1 : Rd bv w w.heap.size A1 c1 xs) (h2 : Rd bv w w.heap.size A2 c2 bs) (hl : xs.length + bs.length ≤ 1000000000) :
    Calls Tryd.prog 42 #[.slice A1 xs.length c1, .slice A2 bs.length c2] w fun e w' => ∃ v, e = .returned v ∧ Own bv w' w.heap.size 5 v (xs ++ bs) ∧ Below w.heap.size w w' := by
  obtain ⟨i0, hi0, hz0, hz1, hz2⟩ := info_parts info_u8
  have hown0 : Own bv (w.alloc (.cells #[] 5)) w.heap.size 5 (.slice (some ⟨w.heap.size, 0, none⟩) 0 0) [] := World.ownsRow_lit w #[] 0 (Nat.le_refl _) (by unfold maxLen; omega) rfl
  have hb0 : Below w.heap.size w (w.alloc (.cells #[] 5)) := (Below.refl _ _).alloc (Nat.le_refl _) _
  go_enter Tryd.func42, Tryd.ntmps42
  go_wp2_with (first
    | (at_builtin; refine wpList_append_rd rfl (.tmp 7) (.tmp 8) _ rfl bv w.heap.size 5 i0 _ 1 Tryd.underlying42 hi0 hz0 hz1 hz2 rfl bv_one _ [] rfl hown0 w.heap.size A1 c1 xs rfl (h1.below hb0) (by simp; omega) (by simp; omega) (by simp) w hb0 ?_; intro v1 w1 hown1 hb1 hnn1)
    | (at_builtin; refine wpList_append_rd rfl (.tmp 10) (.tmp 11) _ rfl bv w.heap.size 5 i0 _ 1 Tryd.underlying42 hi0 hz0 hz1 hz2 rfl bv_one _ _ rfl hown1 w.heap.size A2 c2 bs rfl (h2.below hb1) (by simp; omega) (by simp; omega) hb1.size w hb1 ?_; intro v2 w2 hown2 hb2 hnn2))
  go_ret
  exact ⟨v2, rfl, by simpa using hown2, hb2⟩

/-- A number as so many bytes, the last ones of it. -/
def putN : Nat → Nat → List UInt8
  | 0, _ => []
  | s + 1, n => putN s (n / 256) ++ [UInt8.ofNat (n % 256)]
theorem putN_len (s n : Nat) : (putN s n).length = s := by
  induction s generalizing n with
  | zero => rfl
  | succ s ih => simp [putN, ih]
theorem put_step (size k n : Nat) (xs : List UInt8) (hk : k < size) (hl : xs.length = size) (L : List UInt8) (h : putN (size - k) n ++ xs.drop (size - k) = L) :
    putN (size - (k + 1)) (n / 256) ++ (xs.set (size - 1 - k) (UInt8.ofNat (n % 256))).drop (size - (k + 1)) = L := by
  obtain ⟨s, hs⟩ : ∃ s, size - k = s + 1 := ⟨size - k - 1, by omega⟩
  rw [hs] at h
  rw [show size - 1 - k = s by omega, show size - (k + 1) = s by omega, ← h, putN]
  rw [List.drop_set, if_neg (by omega)]
  rw [List.drop_eq_getElem_cons (by omega : s < xs.length)]
  simp
  rw [List.drop_eq_getElem_cons (by omega : s < xs.length)]
  rfl

theorem putN_two (n : Nat) : putN 2 n = [UInt8.ofNat (n / 256 % 256), UInt8.ofNat (n % 256)] := rfl
theorem putN_four (n : Nat) : putN 4 n = [UInt8.ofNat (n / 256 / 256 / 256 % 256), UInt8.ofNat (n / 256 / 256 % 256), UInt8.ofNat (n / 256 % 256), UInt8.ofNat (n % 256)] := rfl
theorem be16_put (x : UInt16) : be16 x = putN 2 x.toNat := by
  have := x.toNat_lt
  rw [putN_two, be16, show x.toNat / 256 % 256 = x.toNat / 256 by omega]
theorem be32_put (x : UInt32) : be32 x = putN 4 x.toNat := by
  have := x.toNat_lt
  rw [putN_four, be32, show x.toNat / 256 / 256 / 256 % 256 = x.toNat / 16777216 by omega, show x.toNat / 256 / 256 % 256 = x.toNat / 65536 % 256 by omega]

theorem rput_any (n size : Nat) (w : World) (hn : n < 4294967296) (hs : size ≤ 1000) :
    Calls Tryd.prog 44 #[.int .u32 n, .int .i64 size] w fun e w' => ∃ v, e = .returned v ∧ Own bv w' w.heap.size 5 v (putN size n) ∧ Below w.heap.size w w' := by
  obtain ⟨i0, hi0, hz0, hz1, hz2⟩ := info_parts info_u8
  go_enter Tryd.func44, Tryd.ntmps44
  go_wp2_with (at_make; go_loud (refine wpList_make_full _ rfl _ _ _ rfl w.heap.size 5 i0 _ 1 Tryd.underlying42 hi0 hz0 hz1 _ _ _ _ size rfl rfl rfl rfl (by rw [hz2]; omega) (by unfold maxLen; omega) (Nat.le_refl _) ?_); intro w1 hown1 hg1)
  have hbel1 : Below w.heap.size w w1 := (Below.refl _ _).grown hg1 (Nat.le_refl _) (by simp)
  have HO : Hid (Own bv w1 w.heap.size 5 (.slice (some ⟨w.heap.size, 0, none⟩) size size) (List.replicate size (0 : UInt8))) := by
    have := hown1
    simp only [Value.cells, Nat.mul_one, toList_madeCells_one] at this
    simpa [Own, bv, Hid] using this
  clear hown1 hg1
  go_loopw [0, 6] (fun nv i wr => ∃ (k m : Nat) (xs : List UInt8), k ≤ size ∧ i = .int .i64 k ∧ nv = .int .u32 m ∧ m < 4294967296 ∧ Hid (xs.length = size) ∧ Hid (putN (size - k) m ++ xs.drop (size - k) = putN size n) ∧ Hid (Own bv wr w.heap.size 5 (.slice (some ⟨w.heap.size, 0, none⟩) size size) xs) ∧ Below w.heap.size w wr) (fun _ i _ => size - (intOf i).toNat)
  case atStart => exact ⟨0, n, List.replicate size 0, by omega, rfl, rfl, hn, by simp [Hid], by simp [Hid], HO, hbel1⟩
  case round =>
    obtain ⟨k, m, xs, hk, rfl, rfl, hm, HL, HP, HO2, hbw⟩ := hrel
    by_cases hlt : k < size
    · obtain ⟨⟨u0, hc0⟩, hfz, hown3, _⟩ := HO2.out.store HL.out (size - 1 - k) (by omega) (UInt8.ofNat (m % 256)) (.int .u8 ((m : Int) % 256)) (by simp [bv])
      have HO3 := Lib.hid hown3
      have hb3 := hbw.setCell (p := ⟨w.heap.size, size - 1 - k, none⟩) (Nat.le_refl _) (.int .u8 ((m : Int) % 256))
      have HP3 := Lib.hid (put_step size k m xs hlt HL.out _ HP.out)
      have HL3 : Hid ((xs.set (size - 1 - k) (UInt8.ofNat (m % 256))).length = size) := by simpa [Hid] using HL.out
      clear hown3 HP HO2 HO HL
      go_wp2
      go_roundw
      case rel => exact ⟨k + 1, m / 256, _, by omega, by go_num, by go_num, by omega, HL3, HP3, HO3, hb3⟩
      case measure => simp [intOf]; omega
    · have : k = size := by omega
      subst this
      have hx : xs = putN k n := by simpa [putN] using HP.out
      have HX := Lib.hid hx
      clear hx
      go_wp2
      go_ret
      exact ⟨_, rfl, by rw [← HX.out]; exact HO2.out, hbw⟩

theorem rcut_no (A : Option Addr) (len c : Nat) (at_ n : Int) (w : World) (hc : len ≤ 9223372036854775807) (h : at_ < 0 ∨ n < 0 ∨ (len : Int) < at_ + n) :
    Calls Tryd.prog 74 #[.slice A len c, .int .i64 at_, .int .i64 n] w fun e w' => e = .returned (.tuple #[.slice none 0 0, .bool false]) ∧ w = w' := by
  by_cases h0 : at_ < 0
  · have hd : decide (at_ < 0) = true := by simp; omega
    go_enter Tryd.func74, Tryd.ntmps74
    go_wp2
    go_ret2
    exact ⟨rfl, rfl⟩
  · have hd : decide (at_ < 0) = false := by simp; omega
    have g0 : 0 ≤ at_ := by omega
    by_cases hn : n < 0
    · have hd1 : decide (n < 0) = true := by simp; omega
      go_enter Tryd.func74, Tryd.ntmps74
      go_wp2
      go_ret2
      exact ⟨rfl, rfl⟩
    · have hd1 : decide (n < 0) = false := by simp; omega
      by_cases h1 : (len : Int) < at_
      · have hd2 : decide ((len : Int) < at_) = true := by simp; omega
        go_enter Tryd.func74, Tryd.ntmps74
        go_wp2
        go_ret2
        exact ⟨rfl, rfl⟩
      · have hd2 : decide ((len : Int) < at_) = false := by simp; omega
        have hd3 : decide ((len : Int) - at_ < n) = true := by simp; omega
        go_enter Tryd.func74, Tryd.ntmps74
        go_wp2
        go_ret2
        exact ⟨rfl, rfl⟩

theorem rcut_yes (A : Option Addr) (c : Nat) (bs : List UInt8) (k n : Nat) (w : World) (hb : Rd bv w w.heap.size A c bs) (h : k + n ≤ bs.length) (hl : bs.length ≤ 1000000) :
    Calls Tryd.prog 74 #[.slice A bs.length c, .int .i64 k, .int .i64 n] w fun e w' => ∃ v, e = .returned (.tuple #[v, .bool true]) ∧ Own bv w' w.heap.size 5 v ((bs.drop k).take n) ∧ Below w.heap.size w w' := by
  obtain ⟨i0, hi0, hz0, hz1, hz2⟩ := info_parts info_u8
  have hc := hb.len
  have hc2 := hb.cap
  have hd : decide ((k : Int) < 0) = false := by simp
  have hd0 : decide ((n : Int) < 0) = false := by simp
  have hd1 : decide (bs.length < k) = false := by simp; omega
  have hd2 : decide ((bs.length : Int) - k < n) = false := by simp; omega
  have hown0 : Own bv (w.alloc (.cells #[] 5)) w.heap.size 5 (.slice (some ⟨w.heap.size, 0, none⟩) 0 0) [] := World.ownsRow_lit w #[] 0 (Nat.le_refl _) (by unfold maxLen; omega) rfl
  have hb0 : Below w.heap.size w (w.alloc (.cells #[] 5)) := (Below.refl _ _).alloc (Nat.le_refl _) _
  have HO0 := Lib.hid hown0
  clear hown0
  go_enter Tryd.func74, Tryd.ntmps74
  go_wp2
  go_loopw [8, 9] (fun v i wr => ∃ j : Nat, j ≤ n ∧ i = .int .i64 j ∧ Hid (Own bv wr w.heap.size 5 v ((bs.drop k).take j)) ∧ Below w.heap.size w wr) (fun _ i _ => n - (intOf i).toNat)
  case atStart => exact ⟨0, by omega, rfl, HO0, hb0⟩
  case round =>
    obtain ⟨j, hj, rfl, HO2, hbw⟩ := hrel
    by_cases hlt : j < n
    · obtain ⟨b, off, rfl, hB, hcell⟩ := byt_at (hb.below hbw) (k := k) (by omega)
      have c0 := hcell (k + j) (by omega)
      have HT := Lib.hid (take_next bs k j (by omega))
      have hlen : ((bs.drop k).take j).length + 1 ≤ 10000000 := by simp; omega
      have hszw := hbw.size
      clear hcell hb HO0
      generalize bs[k+j] = x at c0 HT
      go_wp2_with (at_builtin; go_loud (refine wpList_append_rd rfl (.tmp 36) (.tmp 43) _ rfl bv w.heap.size 5 i0 _ 1 Tryd.underlying42 hi0 hz0 hz1 hz2 rfl bv_one _ _ rfl (HO2.out.alloc _) (wr.heap.size + 1) (some ⟨wr.heap.size, 0, none⟩) 1 [x] rfl (rd_lit wr _ _ [x] rfl (by simp)) (by simp only [List.length_cons, List.length_nil]; omega) (by simp only [List.length_cons, List.length_nil]; omega) (by simp; omega) w (hbw.alloc hszw _) ?_); intro v2 w2 hown2 hb2 hnn)
      go_roundw
      case rel => exact ⟨j + 1, by omega, by go_num, by rw [HT.out]; exact hown2, hb2⟩
      case measure => simp [intOf]; omega
    · have : j = n := by omega
      subst this
      go_wp2
      go_ret2
      exact ⟨_, rfl, HO2.out, hbw⟩

theorem rcut_of (A : Option Addr) (c : Nat) (bs : List UInt8) (a d : Int) (k n : Nat) (w : World) (hb : Rd bv w w.heap.size A c bs) (hk : a = k) (hn : d = n) (h : k + n ≤ bs.length) (hl : bs.length ≤ 1000000) :
    Calls Tryd.prog 74 #[.slice A bs.length c, .int .i64 a, .int .i64 d] w fun e w' => ∃ v, e = .returned (.tuple #[v, .bool true]) ∧ Own bv w' w.heap.size 5 v ((bs.drop k).take n) ∧ Below w.heap.size w w' := by
  subst hk hn
  exact rcut_yes A c bs k n w hb h hl

end Go.Proofs.YteodjajjlgekcaaDoor
