/- Contracts of octet.Unhex and of the reference's Hex and Unhex. -/
import Derived.Test.YtjmnedkkpohboaaOct2
import Derived.Test.YtjmnedkkpohboaaRef1
import Derived.WalkSmall
namespace Go.Proofs.Ytjmnedkkpohboaa
open Go.RowKit

theorem rfig_any (n : Nat) (w : World) (h : n < 16) :
    Calls Try.prog 31 #[.int .u8 n] w fun e w' => e = .returned (.int .u8 ((fig n).toNat : Int)) ∧ w = w' := by
  by_cases h1 : n < 10
  · have hf : ((fig n).toNat : Int) = 48 + n := by
      have : ∀ k, k < 10 → ((fig k).toNat : Int) = 48 + k := by decide
      exact this n h1
    rw [hf]
    clear hf
    go_enter Try.func31, Try.ntmps31
    go_wp2
    go_ret
    exact ⟨rfl, rfl⟩
  · have hf : ((fig n).toNat : Int) = 97 + n - 10 := by
      have : ∀ k, k < 16 → ¬ k < 10 → ((fig k).toNat : Int) = 97 + k - 10 := by decide
      exact this n h h1
    rw [hf]
    clear hf
    go_enter Try.func31, Try.ntmps31
    go_wp2
    go_ret
    exact ⟨rfl, rfl⟩

theorem hex1_snoc (xs : List UInt8) (x : UInt8) (L : List UInt8) (h : L = hexs xs) : (L ++ [fig (x.toNat / 16)]) ++ [fig (x.toNat % 16)] = hexs (xs ++ [x]) := by
  rw [hexs_snoc, h, List.append_assoc]; rfl

theorem rhex_any (A : Option Addr) (c : Nat) (bs : List UInt8) (w : World) (hb : Rd bv w w.heap.size A c bs) (hl : bs.length ≤ 1000000) :
    Calls Try.prog 25 #[.slice A bs.length c] w fun e w' => e = .returned (.string ⟨(hexs bs).toArray⟩) ∧ Below w.heap.size w w' := by
  obtain ⟨i0, hi0, hz0, hz1, hz2⟩ := info_parts info_u8
  have hc2 := hb.len
  have hc3 := hb.cap
  have hown0 : Own bv (w.alloc (.cells #[] 5)) w.heap.size 5 (.slice (some ⟨w.heap.size, 0, none⟩) 0 0) [] := World.ownsRow_lit w #[] 0 (Nat.le_refl _) (by unfold maxLen; omega) rfl
  have hb0 : Below w.heap.size w (w.alloc (.cells #[] 5)) := (Below.refl _ _).alloc (Nat.le_refl _) _
  have HO0 := Lib.hid hown0
  clear hown0
  go_enter Try.func25, Try.ntmps25
  go_wp2
  go_loopw [3, 4] (fun v i wr => ∃ j : Nat, j ≤ bs.length ∧ i = .int .i64 j ∧ Hid (Own bv wr w.heap.size 5 v (hexs (bs.take j))) ∧ Below w.heap.size w wr) (fun _ i _ => bs.length - (intOf i).toNat)
  case atStart => exact ⟨0, by omega, rfl, HO0, hb0⟩
  case round =>
    obtain ⟨j, hj, rfl, HO2, hbw⟩ := hrel
    by_cases hlt : j < bs.length
    · obtain ⟨b, off, rfl, hB, hcell⟩ := byt_at (hb.below hbw) (k := j) hlt
      have c0 := hcell j hlt
      have c0w := (hbw.cell (p := ⟨b, off + j, none⟩) hB).symm.trans c0
      have HT := Lib.hid (take_one bs j hlt)
      have hr := u8_le bs[j]
      have hlen : (hexs (bs.take j)).length + 2 ≤ 10000000 := by
        rw [hexs_len, List.length_take]; omega
      have hszw := hbw.size
      clear hcell hb HO0
      generalize bs[j] = x at c0 c0w HT hr
      obtain ⟨L, hL⟩ : ∃ L, L = hexs (bs.take j) := ⟨_, rfl⟩
      rw [← hL] at HO2 hlen
      have HL := Lib.hid hL
      clear hL
      have f1 : Calls Try.prog 31 #[.int .u8 ((x.toNat : Int) / 16)] wr fun e w' => e = .returned (.int .u8 ((fig (x.toNat / 16)).toNat : Int)) ∧ wr = w' := rfig_any (x.toNat / 16) wr (by omega)
      have F1 := Lib.hid f1
      clear f1
      go_wp2_with fail
      refine F1.out.mono ?_; rintro e w' ⟨rfl, rfl⟩
      go_wp2_with (at_builtin; (refine wpList_append_rd rfl (.tmp 12) (.tmp 19) _ rfl bv w.heap.size 5 i0 _ 1 Try.underlying22 hi0 hz0 hz1 hz2 rfl bv_one _ _ rfl (HO2.out.alloc _) (wr.heap.size + 1) (some ⟨wr.heap.size, 0, none⟩) 1 [fig (x.toNat / 16)] rfl (rd_lit wr _ _ [fig (x.toNat / 16)] rfl (by simp)) (by simp only [List.length_cons, List.length_nil]; omega) (by simp only [List.length_cons, List.length_nil]; omega) (by simp; omega) w (hbw.alloc hszw _) ?_); intro v2 w2 hown2 hb2 hnn; have c1 := (hb2.cell (p := ⟨b, off + j, none⟩) hB).trans c0w; have HO3 := Lib.hid hown2; clear hown2 hnn)
      have hszw2 := hb2.size
      have f2 : Calls Try.prog 31 #[.int .u8 ((x.toNat : Int) % 16)] w2 fun e w' => e = .returned (.int .u8 ((fig (x.toNat % 16)).toNat : Int)) ∧ w2 = w' := rfig_any (x.toNat % 16) w2 (by omega)
      refine f2.mono ?_; rintro e w' ⟨rfl, rfl⟩
      clear f2
      go_wp2_with (at_builtin; (refine wpList_append_rd rfl (.tmp 21) (.tmp 28) _ rfl bv w.heap.size 5 i0 _ 1 Try.underlying22 hi0 hz0 hz1 hz2 rfl bv_one _ _ rfl (HO3.out.alloc _) (w2.heap.size + 1) (some ⟨w2.heap.size, 0, none⟩) 1 [fig (x.toNat % 16)] rfl (rd_lit w2 _ _ [fig (x.toNat % 16)] rfl (by simp)) (by simp only [List.length_cons, List.length_nil, List.length_append]; omega) (by simp only [List.length_cons, List.length_nil, List.length_append]; omega) (by simp; omega) w (hb2.alloc hszw2 _) ?_); intro v3 w3 hown3 hb3 hnn)
      have HO4 := Lib.hid hown3
      clear hown3 hnn
      go_wp2
      go_roundw
      case rel => exact ⟨j + 1, by omega, by go_num, by rw [HT.out, ← hex1_snoc _ _ _ HL.out]; exact HO4, hb3⟩
      case measure => simp [intOf]; omega
    · have : j = bs.length := by omega
      subst this
      have hO := HO2.out
      rw [List.take_length] at hO
      clear HO2
      obtain ⟨A', c', rfl, hrd⟩ := hO.rd
      have hcv := conv_rd (P := Try.prog) 22 5 Try.underlying22 Try.underlying5 hrd
      go_wp2
      go_ret
      exact ⟨rfl, hbw⟩

theorem figure_yes (c : UInt8) (w : World) (h : val c < 16) :
    Calls Try.prog 30 #[.int .i32 (c.toNat : Int)] w fun e w' => e = .returned (.tuple #[.int .u8 (val c : Int), .bool true]) ∧ w = w' := by
  have hv := (val_of c).1 h
  have hlt := c.toNat_lt
  generalize c.toNat = n at hv hlt
  generalize val c = m at h hv
  by_cases h1 : n ≤ 57
  · have hm : (m : Int) = n - 48 := by omega
    rw [hm]
    have d1 : decide ((48 : Int) ≤ n) = true := by simp; omega
    have d2 : decide ((n : Int) ≤ 57) = true := by simp; omega
    have b0 : 48 ≤ n := by omega
    clear hm hv h
    go_enter Try.func30, Try.ntmps30
    go_wp2
    go_ret2
    exact ⟨rfl, rfl⟩
  · have hm : (m : Int) = n - 97 + 10 := by omega
    rw [hm]
    have d1 : decide ((48 : Int) ≤ n) = true := by simp; omega
    have d2 : decide ((n : Int) ≤ 57) = false := by simp; omega
    have d3 : decide ((97 : Int) ≤ n) = true := by simp; omega
    have d4 : decide ((n : Int) ≤ 102) = true := by simp; omega
    have b0 : 97 ≤ n := by omega
    have b1 : n ≤ 102 := by omega
    clear hm hv h
    go_enter Try.func30, Try.ntmps30
    go_wp2
    go_ret2
    exact ⟨rfl, rfl⟩

theorem figure_no (r : Int) (w : World) (h0 : 0 ≤ r) (h1 : r ≤ 2147483647) (h2 : ¬ (48 ≤ r ∧ r ≤ 57)) (h3 : ¬ (97 ≤ r ∧ r ≤ 102)) :
    Calls Try.prog 30 #[.int .i32 r] w fun e w' => e = .returned (.tuple #[.int .u8 0, .bool false]) ∧ w = w' := by
  by_cases a : r < 48
  · have d1 : decide ((48 : Int) ≤ r) = false := by simp; omega
    have d3 : decide ((97 : Int) ≤ r) = false := by simp; omega
    clear h2 h3
    go_enter Try.func30, Try.ntmps30
    go_wp2
    go_ret2
    exact ⟨rfl, rfl⟩
  · have d1 : decide ((48 : Int) ≤ r) = true := by simp; omega
    have d2 : decide (r ≤ 57) = false := by simp; omega
    by_cases b : r < 97
    · have d3 : decide ((97 : Int) ≤ r) = false := by simp; omega
      clear h2 h3
      go_enter Try.func30, Try.ntmps30
      go_wp2
      go_ret2
      exact ⟨rfl, rfl⟩
    · have d3 : decide ((97 : Int) ≤ r) = true := by simp; omega
      have d4 : decide (r ≤ 102) = false := by simp; omega
      clear h2 h3
      go_enter Try.func30, Try.ntmps30
      go_wp2
      go_ret2
      exact ⟨rfl, rfl⟩

/-- What Unhex comes to. -/
def UnhexEnd (l : List UInt8) (B : Nat) (e : Ending) (w' : World) : Prop :=
  (good l = true ∧ ∃ v, e = .returned (.tuple #[v, .int .i64 0]) ∧ Own bv w' B 5 v (pairs l)) ∨ (good l = false ∧ e = .returned (.tuple #[.slice none 0 0, .int .i64 3]))

/-- When the count is odd, the high half is the last figure's. -/
def OddIs (odd : Bool) (l : List UInt8) (j h : Nat) : Prop := odd = true → ∃ hj : j - 1 < l.length, h = val l[j - 1]
theorem pairs_odd (l : List UInt8) (j h : Nat) (hj : j < l.length) (hodd : j % 2 = 1) (hh : OddIs true l j h) : pairs (l.take (j + 1)) = pairs (l.take j) ++ [UInt8.ofNat (h * 16 + val l[j])] := by
  obtain ⟨h1, rfl⟩ := hh rfl
  obtain ⟨k, rfl⟩ : ∃ k, j = k + 1 := ⟨j - 1, by omega⟩
  simp only [Nat.add_sub_cancel] at h1 ⊢
  have hev : (l.take k).length % 2 = 0 := by rw [List.length_take]; omega
  rw [take_one l (k + 1) hj, take_one l k h1, List.append_assoc]
  show pairs (l.take k ++ [l[k], l[k + 1]]) = _
  rw [pairs_two _ _ _ hev, pairs_one _ _ hev]

theorem or4 (a b : Nat) (ha : a < 16) (hb : b < 16) : bits BinOp.or IntKind.u8 (IntKind.u8.wrap ((a : Int) * 16)) (b : Int) = ((a * 16 + b : Nat) : Int) := by
  rw [IntKind.wrap_u8, show ((a : Int) * 16) % 256 = ((a * 16 : Nat) : Int) by omega, u8_or_nat _ _ (by omega) (by omega), nat_join 4 _ _ (by omega) (by omega)]

set_option maxHeartbeats 1000000 in
theorem unhex_any (s : ByteArray) (w : World) (hl : s.size ≤ 1000000) :
    Calls Try.prog 22 #[.string s] w fun e w' => UnhexEnd s.data.toList w.heap.size e w' ∧ Below w.heap.size w w' := by
  obtain ⟨i0, hi0, hz0, hz1, hz2⟩ := info_parts info_u8
  obtain ⟨l, hl0⟩ : ∃ l, l = s.data.toList := ⟨_, rfl⟩
  have hls : l.length = s.size := by rw [hl0, Array.length_toList]; rfl
  have hget : ∀ j (h : j < s.size), l[j]? = some s[j] := by
    intro j h; subst hl0
    rw [Array.getElem?_toList, Array.getElem?_eq_getElem h]; rfl
  rw [← hl0]
  have HLS := Lib.hid hls
  have HG := Lib.hid hget
  clear hl0 hls hget
  go_enter Try.func22, Try.ntmps22
  go_wp2_with (at_make; go_loud (refine wpList_make_own _ rfl _ _ _ rfl w.heap.size 5 i0 _ 1 Try.underlying22 hi0 hz0 hz1 _ _ _ (s.size / 2) rfl rfl (by omega) (by rw [hz2]; omega) (by unfold maxLen; omega) (Nat.le_refl _) ?_); intro w1 hown1 hg1)
  have hbel1 : Below w.heap.size w w1 := (Below.refl _ _).grown hg1 (Nat.le_refl _) (by simp)
  obtain ⟨K, hK⟩ : ∃ K, K = w1.heap.size := ⟨_, rfl⟩
  have hKB : w.heap.size ≤ K := by rw [hK]; exact hbel1.size
  have HO : Hid (Own bv (w1.iter s 0) w.heap.size 5 (.slice (some ⟨w.heap.size, 0, none⟩) 0 (s.size / 2)) []) := World.ownsRow.alloc hown1 _
  have HI : Hid ((w1.iter s 0).heap[K]? = some (.stringIter s 0)) := by rw [hK]; exact World.iter_heap w1 s 0
  have hb2 : Below w.heap.size w (w1.iter s 0) := hbel1.alloc hbel1.size _
  rw [← hK]
  have HKK := Lib.hid hK
  clear hown1 hg1 hK
  go_loopw [4, 5, 6] (fun v hi od wr => ∃ (j h : Nat) (odd : Bool), j ≤ s.size ∧ h < 16 ∧ hi = .int .u8 h ∧ od = .bool odd ∧ Hid (wr.heap[K]? = some (.stringIter s j)) ∧ Hid (odd = decide (j % 2 = 1)) ∧ Hid (OddIs odd l j h) ∧ Hid (allFig (l.take j) = true) ∧
      Hid (Own bv wr w.heap.size 5 v (pairs (l.take j))) ∧ Below w.heap.size w wr) (fun _ _ _ wr => s.size - wr.iterPos K)
  case atStart => exact ⟨0, 0, false, by omega, by omega, rfl, rfl, HI, rfl, fun h => by simp at h, rfl, HO, hb2⟩
  case round =>
    obtain ⟨j, h, odd, hj, hh, rfl, rfl, HI2, HODD, HH, HA, HO2, hbw⟩ := hrel
    by_cases hlt : j < s.size
    · have hlj : j < l.length := by rw [HLS.out]; exact hlt
      have hcj : l[j] = s[j] := by
        have := HG.out j hlt
        rw [List.getElem?_eq_getElem hlj] at this
        exact Option.some.inj this
      by_cases hv : val s[j] < 16
      · have hvr := (val_of s[j]).1 hv
        have hnx := fun ty => Lib.run_next_ascii_at (P := Try.prog) wr K s j ty HI2.out hlt (by omega)
        have hwI := Lib.iterAt_heap wr K s j (j + 1) HI2.out
        have hwO := HO2.out.iterAt HI2.out (j + 1)
        have hwB := Lib.below_iterAt hbw hKB s (j + 1)
        obtain ⟨w2, hw2⟩ : ∃ w2, w2 = wr.iterAt K s (j + 1) := ⟨_, rfl⟩
        rw [← hw2] at hwI hwO hwB hnx
        have HWI := Lib.hid hwI
        have HWO := Lib.hid hwO
        have HT := Lib.hid (take_one l j hlj)
        rw [hcj] at HT
        have HCJ := Lib.hid hcj
        have HA2 : Hid (allFig (l.take (j + 1)) = true) := by
          have := allFig_snoc (l.take j) s[j] HA.out hv
          rw [← HT.out] at this
          exact this
        have hpos : Hid (w2.iterPos K = j + 1) := iterPos_of hwI
        have hpos0 : Hid (wr.iterPos K = j) := iterPos_of HI2.out
        have hszw := hwB.size
        have hKw : K < w2.heap.size := (Array.getElem?_eq_some_iff.1 hwI).1
        clear hw2 hwI hwO hcj hvr
        have HF := Lib.hid (figure_yes s[j] w2 hv)
        have hcu := u8_le s[j]
        cases odd with
        | false =>
          have hev : (l.take j).length % 2 = 0 := by
            have := HODD.out
            simp at this
            rw [List.length_take]; omega
          have HP : Hid (pairs (l.take (j + 1)) = pairs (l.take j)) := by
            show _ = _
            rw [HT.out, pairs_one _ _ hev]
          have HO3 : Hid (true = decide ((j + 1) % 2 = 1)) := by
            have := HODD.out
            simp at this
            simp [Hid]; omega
          have HH3 : Hid (OddIs true l (j + 1) (val s[j])) := fun _ => ⟨hlj, by rw [← HCJ.out]; rfl⟩
          generalize s[j] = c at hnx HF hcu hv HH3
          clear hev
          go_wp2_with (go_at_call 30; refine HF.out.mono ?_; rintro e w' ⟨rfl, rfl⟩)
          go_roundw
          case rel => exact ⟨j + 1, val c, true, by omega, hv, rfl, rfl, HWI, HO3, HH3, HA2, by rw [HP.out]; exact HWO, hwB⟩
          case measure => rw [hpos.out, hpos0.out]; omega
        | true =>
          have hod : j % 2 = 1 := by
            have := HODD.out
            simp at this
            omega
          have HP : Hid (pairs (l.take (j + 1)) = pairs (l.take j) ++ [UInt8.ofNat (h * 16 + val s[j])]) := by
            show _ = _
            rw [pairs_odd l j h hlj hod HH.out, HCJ.out]
          have HO3 : Hid (false = decide ((j + 1) % 2 = 1)) := by
            simp [Hid]; omega
          have HH3 : Hid (OddIs false l (j + 1) (val s[j])) := fun h => by simp at h
          have hlen : (pairs (l.take j)).length + 1 ≤ 10000000 := by
            have := pairs_len (l.take j)
            rw [List.length_take] at this
            omega
          generalize s[j] = c at hnx HF hcu hv HH3 HP
          have hvv : val c < 16 := hv
          obtain ⟨m, hm⟩ : ∃ m, m = val c := ⟨_, rfl⟩
          rw [← hm] at HF hv HP HH3 hvv
          have HM := Lib.hid hm
          clear hod hm hv
          obtain ⟨y, hy⟩ : ∃ y, y = UInt8.ofNat (h * 16 + m) := ⟨_, rfl⟩
          rw [← hy] at HP
          have hyv : ((y.toNat : Nat) : Int) = bits BinOp.or IntKind.u8 ((h : Int) * 16) (m : Int) := by
            have := or4 h m hh hvv
            rw [IntKind.wrap_u8, show ((h : Int) * 16) % 256 = (h : Int) * 16 by omega] at this
            rw [this, hy]
            simp
            omega
          have HL := Lib.hid (show (#[.int .u8 (bits BinOp.or IntKind.u8 ((h : Int) * 16) (m : Int))] : Array Value).toList = [y].map bv by simp [bv, hyv])
          clear hy hyv
          have hIA : (w2.alloc (.cells #[.int .u8 (bits BinOp.or IntKind.u8 ((h : Int) * 16) (m : Int))] 5)).heap[K]? = some (.stringIter s (j + 1)) := (Below.heap_alloc w2 _ K hKw).trans HWI.out
          have HIA := Lib.hid hIA
          clear hIA
          go_wp2_with (first
            | (go_at_call 30; refine HF.out.mono ?_; rintro e w' ⟨rfl, rfl⟩)
            | (at_builtin; (refine wpList_append_rdk rfl (.tmp 28) (.tmp 33) _ rfl bv w.heap.size 5 i0 _ 1 Try.underlying22 hi0 hz0 hz1 hz2 rfl bv_one _ _ rfl (HWO.out.alloc _) (w2.heap.size + 1) (some ⟨w2.heap.size, 0, none⟩) 1 [y] rfl (rd_lit w2 _ _ [y] HL.out (by simp)) (by simp only [List.length_cons, List.length_nil]; omega) (by simp only [List.length_cons, List.length_nil]; omega) (by simp; omega) w (hwB.alloc hszw _) ?_); intro v3 w3 hown3 hb3 hnn hkept; have hI3 := hkept K _ HIA.out (by simp) (fun _ _ e => by cases e); have HI3 := Lib.hid hI3; have hpos3 : Hid (w3.iterPos K = j + 1) := iterPos_of hI3; have HO3b := Lib.hid hown3; clear hkept hI3 hown3 hnn))
          go_roundw
          case rel => exact ⟨j + 1, m, false, by omega, hvv, rfl, rfl, HI3, HO3, HH3, HA2, by rw [HP.out]; exact HO3b, hb3⟩
          case measure => rw [hpos3.out, hpos0.out]; omega
      · have hvr := (val_of s[j]).2 hv
        have hg : good l = false := allFig_not hlj (by rw [hcj]; exact hv)
        have HE : ∀ W, UnhexEnd l w.heap.size (.returned (.tuple #[.slice none 0 0, .int .i64 3])) W := fun W => Or.inr ⟨hg, rfl⟩
        have HE := Lib.hid HE
        have hnx := fun ty => Lib.run_next_any_at (P := Try.prog) wr K s j ty HI2.out hlt
        have hrune : 0 ≤ ((Utf8.decode s j).1 : Int) ∧ ((Utf8.decode s j).1 : Int) ≤ 2147483647 ∧ ¬ (48 ≤ ((Utf8.decode s j).1 : Int) ∧ ((Utf8.decode s j).1 : Int) ≤ 57) ∧ ¬ (97 ≤ ((Utf8.decode s j).1 : Int) ∧ ((Utf8.decode s j).1 : Int) ≤ 102) := by
          have hle := decode_le s j
          by_cases ha : s[j].toNat < 128
          · rw [decode_ascii s j hlt ha]
            simp only
            omega
          · have := (decode_high s j hlt (by omega)).1
            omega
        generalize (Utf8.decode s j).1 = r at hnx hrune
        have hwB := Lib.below_iterAt hbw hKB s (j + (Utf8.decode s j).2)
        obtain ⟨w2, hw2⟩ : ∃ w2, w2 = wr.iterAt K s (j + (Utf8.decode s j).2) := ⟨_, rfl⟩
        rw [← hw2] at hwB hnx
        have HF := Lib.hid (figure_no (r : Int) w2 hrune.1 hrune.2.1 hrune.2.2.1 hrune.2.2.2)
        clear hw2 hrune hvr hg hcj hv
        go_wp2_with (go_at_call 30; refine HF.out.mono ?_; rintro e w' ⟨rfl, rfl⟩)
        go_ret2
        exact ⟨HE.out _, hwB⟩
    · have hnx := fun ty => Lib.run_next_end_at (P := Try.prog) wr K s j ty HI2.out hlt
      have hjl : j = s.size := by omega
      have HJ := Lib.hid hjl
      have htk : l.take j = l := List.take_of_length_le (by rw [HLS.out]; omega)
      rw [htk] at HA HO2
      clear hjl htk
      cases odd with
      | false =>
        have hg : good l = true := by
          have := HODD.out
          simp at this
          simp [good, HA.out, HLS.out]
          have := HJ.out
          omega
        have HE : ∀ W, Own bv W w.heap.size 5 u4 (pairs l) → UnhexEnd l w.heap.size (.returned (.tuple #[u4, .int .i64 0])) W := fun W h => Or.inl ⟨hg, u4, rfl, h⟩
        have HE := Lib.hid HE
        clear hg
        go_wp2
        go_ret2
        exact ⟨HE.out _ HO2.out, hbw⟩
      | true =>
        have hg : good l = false := by
          have := HODD.out
          simp at this
          simp [good, HLS.out]
          have := HJ.out
          omega
        have HE : ∀ W, UnhexEnd l w.heap.size (.returned (.tuple #[.slice none 0 0, .int .i64 3])) W := fun W => Or.inr ⟨hg, rfl⟩
        have HE := Lib.hid HE
        clear hg
        go_wp2
        go_ret2
        exact ⟨HE.out _, hbw⟩
end Go.Proofs.Ytjmnedkkpohboaa
