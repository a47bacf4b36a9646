/- Contracts of package sum, and of the reference's helper Few. -/
import Derived.Test.YteodjajjlgekcaaOct6
import Derived.Test.YteodjajjlgekcaaSumN
namespace Go.Proofs.Yteodjajjlgekcaa
open Go.RowKit

theorem few_le (A : Option Addr) (n c m : Nat) (w : World) (h : n ≤ c) (_hc : c ≤ 9223372036854775807) (hm : m ≤ 1000000) :
    Calls Try.prog 9 #[.slice A n c, .int .i64 m] w fun e w' => e = .returned (.slice A (min n m) c) ∧ w = w' := by
  by_cases h3 : m < n
  · go_enter Try.func9, Try.ntmps9
    go_wp2
    go_ret
    exact ⟨by rw [Nat.min_eq_right (by omega)]; rfl, rfl⟩
  · go_enter Try.func9, Try.ntmps9
    go_wp2
    go_ret
    exact ⟨by rw [Nat.min_eq_left (by omega)]; rfl, rfl⟩
theorem few_row {k : IntKind} {a : Option Addr} {len cap : Nat} {zs : List Int} {w : World} (h : InRow k w a len cap zs) (m : Nat) (hm : m ≤ 1000000) (hk : k = .u8 := by rfl) : ∃ bs : List UInt8, bs.length ≤ m ∧ Rd bv w w.heap.size a cap bs ∧
    Hid (Calls Try.prog 9 #[.slice a len cap, .int .i64 m] w fun e w' => e = .returned (.slice a bs.length cap) ∧ w = w') := by
  subst hk
  obtain ⟨bs0, rfl, hb0⟩ := row_rd h
  have hf := few_le a bs0.length cap m w hb0.len hb0.cap hm
  have hmin : min bs0.length m = (bs0.take m).length := by simp [Nat.min_comm]
  rw [hmin] at hf
  exact ⟨bs0.take m, by simp; omega, hb0.take m, hf⟩
theorem few_rd {B : Nat} {A : Option Addr} {c : Nat} {xs : List UInt8} {w : World} (h : Rd bv w B A c xs) (m : Nat) (hm : m ≤ 1000000) :
    Calls Try.prog 9 #[.slice A xs.length c, .int .i64 m] w fun e w' => e = .returned (.slice A (xs.take m).length c) ∧ w = w' := by
  have hf := few_le A xs.length c m w h.len h.cap hm
  have hmin : min xs.length m = (xs.take m).length := by simp [Nat.min_comm]
  rwa [hmin] at hf

theorem fold_any (n : Nat) (w : World) (hn : n < 18446744073709551616) :
    Calls Try.prog 95 #[.int .u64 n] w fun e w' => e = .returned (.int .u16 (foldN n : Nat)) ∧ w = w' := by
  go_enter Try.func95, Try.ntmps95
  go_wp2
  go_loop [0] (fun x => ∃ m : Nat, m < 18446744073709551616 ∧ x = .int .u64 m ∧ Hid (foldN m = foldN n)) (fun x => (intOf x).toNat)
  case atStart => exact ⟨n, hn, rfl, rfl⟩
  case round =>
    obtain ⟨m, hm, rfl, HM⟩ := hrel
    by_cases hlt : 65535 < m
    · have hv := fold_step_val m hm
      have HV := Lib.hid hv
      clear hv
      go_wp2
      go_round
      case rel => exact ⟨m / 65536 + m % 65536, by omega, by rw [HV.out], by rw [Hid, foldN_step m hlt]; exact HM.out⟩
      case measure => rw [HV.out]; simp [intOf]; omega
    · have hx : ((IntKind.u16.wrap (m : Int)) : Int) = ((foldN n : Nat) : Int) := by
        rw [IntKind.wrap_u16, ← HM.out, foldN_id (by omega)]; omega
      have HX := Lib.hid hx
      clear hx
      go_wp2
      go_ret
      refine ⟨?_, rfl⟩
      exact ret_int (by rw [← HX.out]; first | rfl | (rw [IntKind.wrap_u16]; omega))

theorem sones_any (w : World) (B g n : Nat) (ls : List (List UInt8)) (N : Nat) (h : Parts w B g ls) (hn : ls.length = n) (hn1 : 1 ≤ n) (hn2 : n ≤ 1000) (hl : ls.flatten.length ≤ 100000000) (hN : onesN ls.flatten = N) :
    Calls Try.prog 94 #[.slice (some ⟨g, 0, none⟩) n n] w fun e w' => e = .returned (.int .u16 (N : Nat)) ∧ Below w.heap.size w w' := by
  have hj := join_any w B g n ls h hn hn1 hn2 (by omega)
  have HJ := Lib.hid hj
  have HN := Lib.hid hN
  have HLL := Lib.hid hl
  clear hj h hN hn hl
  go_enter Try.func94, Try.ntmps94
  go_wp2_with fail
  refine HJ.out.mono ?_
  rintro e w1 ⟨L, A, c, rfl, HL, hr, hb1⟩
  have hL : L.length ≤ 100000000 := by rw [HL.out]; exact HLL.out
  have hN2 : Hid (onesN L = N) := by rw [Hid, HL.out]; exact HN.out
  have hlc := hr.len
  have hcc := hr.cap
  clear HJ HN HL HLL
  go_wp2_with fail
  go_loop [3, 9] (fun x i => ∃ j : Nat, j ≤ L.length ∧ i = .int .i64 j ∧ x = .int .u64 (wsum (L.take j) : Nat)) (fun _ i => L.length - (intOf i).toNat)
  case atStart => exact ⟨0, by omega, rfl, rfl⟩
  case round =>
    obtain ⟨j, hj, rfl, rfl⟩ := hrel
    by_cases hlt : j < L.length
    · obtain ⟨b, off, rfl, hB, hcell⟩ := byt_at hr (k := j) hlt
      have c0 := hcell j hlt
      have hT := take_one L j hlt
      have hS := wsum_snoc (L.take j) L[j]
      rw [← hT, List.length_take, Nat.min_eq_left hj] at hS
      have hle := wsum_le (L.take j)
      rw [List.length_take, Nat.min_eq_left hj] at hle
      have hx := (L[j]).toNat_lt
      have HS := Lib.hid hS
      clear hT hS hcell hr
      generalize L[j] = x at c0 HS hx
      generalize wsum (L.take j) = m at HS hle
      by_cases hpar : j % 2 = 0
      · have hp : ((j : Int) % 2 == 0) = true := by simp; omega
        go_wp2
        go_round
        case rel => exact ⟨j + 1, by omega, by go_num, by rw [HS.out, if_pos hpar]; go_num⟩
        case measure => simp [intOf]; omega
      · have hp : ((j : Int) % 2 == 0) = false := by simp; omega
        go_wp2
        go_round
        case rel => exact ⟨j + 1, by omega, by go_num, by rw [HS.out, if_neg hpar]; go_num⟩
        case measure => simp [intOf]; omega
    · have : j = L.length := by omega
      subst this
      have hle := wsum_le L
      rw [List.take_length]
      have hN3 : foldN (wsum L) = N := hN2.out
      have HN3 := Lib.hid hN3
      clear hN3 hN2 hr
      generalize wsum L = m at HN3 hle
      go_wp2_with fail
      refine (fold_any m _ (by omega)).mono ?_
      rintro e w2 ⟨rfl, rfl⟩
      rw [HN3.out]
      go_wp2_with fail
      go_ret
      exact ⟨rfl, hb1⟩

theorem sright_any (w : World) (B g n : Nat) (ls : List (List UInt8)) (N : Nat) (h : Parts w B g ls) (hn : ls.length = n) (hn1 : 1 ≤ n) (hn2 : n ≤ 1000) (hl : ls.flatten.length ≤ 100000000) (hN : onesN ls.flatten = N) :
    Calls Try.prog 93 #[.slice (some ⟨g, 0, none⟩) n n] w fun e w' => e = .returned (.bool ((N : Int) == 65535)) ∧ Below w.heap.size w w' := by
  have HJ := Lib.hid (sones_any w B g n ls N h hn hn1 hn2 hl hN)
  clear h hN hn hl
  go_enter Try.func93, Try.ntmps93
  go_wp2_with fail
  refine HJ.out.mono ?_
  rintro e w1 ⟨rfl, hb⟩
  go_wp2_with fail
  go_ret
  exact ⟨rfl, hb⟩

theorem sright_yes (w : World) (B g n : Nat) (ls : List (List UInt8)) (h : Parts w B g ls) (hn : ls.length = n) (hn1 : 1 ≤ n) (hn2 : n ≤ 1000) (hl : ls.flatten.length ≤ 100000000) (hN : onesN ls.flatten = 65535) :
    Calls Try.prog 93 #[.slice (some ⟨g, 0, none⟩) n n] w fun e w' => e = .returned (.bool true) ∧ Below w.heap.size w w' :=
  (sright_any w B g n ls 65535 h hn hn1 hn2 hl hN).mono fun _ _ ⟨he, hb⟩ => ⟨he, hb⟩
theorem sright_no (w : World) (B g n : Nat) (ls : List (List UInt8)) (h : Parts w B g ls) (hn : ls.length = n) (hn1 : 1 ≤ n) (hn2 : n ≤ 1000) (hl : ls.flatten.length ≤ 100000000) (hN : onesN ls.flatten ≠ 65535) :
    Calls Try.prog 93 #[.slice (some ⟨g, 0, none⟩) n n] w fun e w' => e = .returned (.bool false) ∧ Below w.heap.size w w' :=
  (sright_any w B g n ls _ h hn hn1 hn2 hl rfl).mono fun _ _ ⟨he, hb⟩ => ⟨by rw [he]; congr 2; simp; omega, hb⟩

end Go.Proofs.Yteodjajjlgekcaa
