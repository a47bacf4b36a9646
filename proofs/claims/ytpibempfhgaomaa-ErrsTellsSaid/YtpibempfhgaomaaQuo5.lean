/- Which flow a message tells of: both sides; a message about a packet. -/
import Derived.Test.YtpibempfhgaomaaQuo4
import Derived.Test.YtpibempfhgaomaaIp8
namespace Go.Proofs.Ytpibempfhgaomaa
open Go.RowKit

theorem two_nat' (L : List UInt8) (k : Nat) (h : k + 2 ≤ L.length) : beN ((L.drop k).take 2) = L[k].toNat * 256 + L[k + 1].toNat := by
  have := two_of L k _ h rfl
  omega

theorem fof_okP (v0 v1 v2 v5 v9 : Value) (off s d : Int) (A : Option Addr) (c : Nat) (xs : List UInt8) (ho : ((off : Int) != 0) = false) (w : World) (hr : Rd bv w w.heap.size A c xs) (h4 : 4 ≤ xs.length) (pr : UInt8) :
    pr.toNat = 6 ∨ pr.toNat = 17 → Calls Try.prog 27 #[.agg #[v0, v1, v2, .bool false, .int .u16 off, v5, .int .u8 (pr.toNat : Int), .int .u32 s, .int .u32 d, v9, .slice A xs.length c]] w fun e w' => e = .returned (.tuple #[.agg #[.int .u32 s, .int .u32 d, .int .u16 ((xs[0].toNat * 256 + xs[1].toNat : Nat) : Int), .int .u16 ((xs[2].toNat * 256 + xs[3].toNat : Nat) : Int), .int .u8 (pr.toNat : Int)], .int .i64 0]) ∧ Below w.heap.size w w' := by
  have h6 := fof_ok6 v0 v1 v2 v5 v9 off s d A c xs ho w hr h4
  have h17 := fof_ok17 v0 v1 v2 v5 v9 off s d A c xs ho w hr h4
  generalize pr.toNat = q
  rintro (rfl | rfl)
  · exact h6
  · exact h17
/-- A packet's flow, by its data or by their beginning. -/
theorem flow_two (M : Bool) (fo : UInt16) (pr : UInt8) (s d : UInt32) (xs ys : List UInt8) (hy : ys = xs.take 8) : ∃ f0 f1 f2 f3 f4 er : Int,
    (∀ v0 v1 v2 v5 v9 A c W, Rd bv W W.heap.size A c xs → Calls Try.prog 27 #[.agg #[v0, v1, v2, .bool M, .int .u16 (fo.toNat : Int), v5, .int .u8 (pr.toNat : Int), .int .u32 (s.toNat : Int), .int .u32 (d.toNat : Int), v9, .slice A xs.length c]] W fun e w' => e = .returned (.tuple #[.agg #[.int .u32 f0, .int .u32 f1, .int .u16 f2, .int .u16 f3, .int .u8 f4], .int .i64 er]) ∧ Below W.heap.size W w') ∧
    (∀ v0 v1 v2 v5 v9 A c W, Rd bv W W.heap.size A c ys → Calls Try.prog 27 #[.agg #[v0, v1, v2, .bool M, .int .u16 (fo.toNat : Int), v5, .int .u8 (pr.toNat : Int), .int .u32 (s.toNat : Int), .int .u32 (d.toNat : Int), v9, .slice A ys.length c]] W fun e w' => e = .returned (.tuple #[.agg #[.int .u32 f0, .int .u32 f1, .int .u16 f2, .int .u16 f3, .int .u8 f4], .int .i64 er]) ∧ Below W.heap.size W w') := by
  have hyl : ys.length = min 8 xs.length := by rw [hy]; simp
  cases M
  · cases ho : (((fo.toNat : Int)) != 0)
    · by_cases hp : pr.toNat = 6 ∨ pr.toNat = 17
      · by_cases h4 : xs.length < 4
        · refine ⟨0, 0, 0, 0, 0, 4, fun v0 v1 v2 v5 v9 A c W h => ?_, fun v0 v1 v2 v5 v9 A c W h => ?_⟩
          · rcases hp with hp | hp
            · rw [hp]; exact fof_short6 _ _ _ _ _ _ _ _ A _ c ho h4 h.len h.cap W
            · rw [hp]; exact fof_short17 _ _ _ _ _ _ _ _ A _ c ho h4 h.len h.cap W
          · rcases hp with hp | hp
            · rw [hp]; exact fof_short6 _ _ _ _ _ _ _ _ A _ c ho (by omega) h.len h.cap W
            · rw [hp]; exact fof_short17 _ _ _ _ _ _ _ _ A _ c ho (by omega) h.len h.cap W
        · have g0 : ys[0] = xs[0] := by simp [hy]
          have g1 : ys[1] = xs[1] := by simp [hy]
          have g2 : ys[2] = xs[2] := by simp [hy]
          have g3 : ys[3] = xs[3] := by simp [hy]
          refine ⟨(s.toNat : Int), (d.toNat : Int), ((xs[0].toNat * 256 + xs[1].toNat : Nat) : Int), ((xs[2].toNat * 256 + xs[3].toNat : Nat) : Int), (pr.toNat : Int), 0, fun v0 v1 v2 v5 v9 A c W h => ?_, fun v0 v1 v2 v5 v9 A c W h => ?_⟩
          · exact fof_okP _ _ _ _ _ _ _ _ A c _ ho W h (by omega) pr hp
          · have := fof_okP v0 v1 v2 v5 v9 _ (s.toNat : Int) (d.toNat : Int) A c _ ho W h (by omega) pr hp
            rw [g0, g1, g2, g3] at this
            exact this
      · have k6 : ((pr.toNat : Int) != 6) = true := by simp; omega
        have k17 : ((pr.toNat : Int) != 17) = true := by simp; omega
        exact ⟨0, 0, 0, 0, 0, 3, fun v0 v1 v2 v5 v9 A c W h => fof_form _ _ _ _ _ _ _ _ _ _ ho k6 k17 W, fun v0 v1 v2 v5 v9 A c W h => fof_form _ _ _ _ _ _ _ _ _ _ ho k6 k17 W⟩
    · exact ⟨0, 0, 0, 0, 0, 11, fun v0 v1 v2 v5 v9 A c W h => fof_off _ _ _ _ _ _ _ _ _ _ ho W, fun v0 v1 v2 v5 v9 A c W h => fof_off _ _ _ _ _ _ _ _ _ _ ho W⟩
  · exact ⟨0, 0, 0, 0, 0, 11, fun v0 v1 v2 v5 v9 A c W h => fof_mf _ _ _ _ _ _ _ _ _ _ W, fun v0 v1 v2 v5 v9 A c W h => fof_mf _ _ _ _ _ _ _ _ _ _ W⟩

/-- What a message about a packet without options tells. -/
theorem qof_put (ty co : UInt8) (re : UInt32) (hab : decide (ty.toNat = 3 ∨ ty.toNat = 11 ∨ ty.toNat = 12) = true) (h tos : UInt8) (al : Nat) (id : UInt16) (D M : Bool) (fo : UInt16) (ttl pr : UInt8) (N : Nat) (s d : UInt32) (xs P ys : List UInt8) (hh : h.toNat = 69) (hfo : fo.toNat ≤ 8191) (hN : onesN (ih h tos al id (wdN D M fo) ttl pr 0 s d []) = N) (hP : P = (ih h tos al id (wdN D M fo) ttl pr (65535 - N) s d [] ++ xs).take 28) (hy : ys = xs.take 8) (f0 f1 f2 f3 f4 er : Int)
    (HF : ∀ v0 v1 v2 v5 v9 A c W, Rd bv W W.heap.size A c ys → Calls Try.prog 27 #[.agg #[v0, v1, v2, .bool M, .int .u16 (fo.toNat : Int), v5, .int .u8 (pr.toNat : Int), .int .u32 (s.toNat : Int), .int .u32 (d.toNat : Int), v9, .slice A ys.length c]] W fun e w' => e = .returned (.tuple #[.agg #[.int .u32 f0, .int .u32 f1, .int .u16 f2, .int .u16 f3, .int .u8 f4], .int .i64 er]) ∧ Below W.heap.size W w')
    (A : Option Addr) (c : Nat) (w : World) (hr : Rd bv w w.heap.size A c P) :
    Calls Try.prog 9 #[.agg #[.int .u8 (ty.toNat : Int), .int .u8 (co.toNat : Int), .int .u32 (re.toNat : Int), .slice A P.length c]] w fun e w' => e = .returned (.tuple #[.agg #[.int .u32 f0, .int .u32 f1, .int .u16 f2, .int .u16 f3, .int .u8 f4], .int .i64 er]) ∧ Below w.heap.size w w' := by
  obtain ⟨w1, w2, w3, w4⟩ := wdN_le D M fo hfo
  obtain ⟨wd, hwd⟩ : ∃ wd, wdN D M fo = wd := ⟨_, rfl⟩
  rw [hwd] at w1 w2 w3 w4 hN hP
  have hIH : (ih h tos al id wd ttl pr (65535 - N) s d []).length = 20 := ih_len _ _ _ _ _ _ _ _ _ _ _
  have hP2 : P = ih h tos al id wd ttl pr (65535 - N) s d [] ++ ys := by
    rw [hP, hy, List.take_append, hIH, List.take_of_length_le (by omega)]
  have hyl : ys.length ≤ 8 := by rw [hy]; simp; omega
  have hlen : P.length = 20 + ys.length := by rw [hP2, List.length_append, hIH]
  have e0 : P[0] = h := (List.getElem_of_eq hP2 _).trans rfl
  have e9 : P[9] = pr := (List.getElem_of_eq hP2 _).trans rfl
  have g6 : beN ((P.drop 6).take 2) = wd := by rw [hP2]; exact two_nat wd (by omega)
  have g12 : beN ((P.drop 12).take 4) = s.toNat := by rw [hP2]; exact be32_four s
  have g16 : beN ((P.drop 16).take 4) = d.toNat := by rw [hP2]; exact be32_four d
  have ht : P.take (4 * 5) = ih h tos al id wd ttl pr (65535 - N) s d [] := by rw [hP2, List.take_left' hIH]
  have hon : onesN (P.take (4 * 5)) = 65535 := by rw [ht]; exact ih_ones h tos _ id wd ttl pr s d [] N hN
  have hd : P.drop (4 * 5) = ys := by rw [hP2, List.drop_left' hIH]
  refine qof_go ty co re A c P w hr hab (by omega) 5 (by rw [e0, hh]) (by omega) (by omega) (by omega) (by omega) hon wd g6 M w3 fo w4 pr e9 s d g12 g16 f0 f1 f2 f3 f4 er ?_
  rw [hd]
  exact fun A' c' W hW => Lib.hid (HF _ _ _ _ _ A' c' W hW)
end Go.Proofs.Ytpibempfhgaomaa
