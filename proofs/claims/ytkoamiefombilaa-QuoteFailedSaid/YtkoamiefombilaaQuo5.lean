/- Which flow a message tells of: both sides; a message about a packet. -/
import Derived.Test.YtkoamiefombilaaQuo4
import Derived.Test.YtkoamiefombilaaIp8
namespace Go.Proofs.Ytkoamiefombilaa
open Go.RowKit

theorem rget2_n (A : Option Addr) (c : Nat) (xs : List UInt8) (k x : Nat) (h : k + 2 ≤ xs.length) (hx : beN ((xs.drop k).take 2) = x) : ∀ W, Rd bv W W.heap.size A c xs → Hid (Calls Try.prog 48 #[.slice A xs.length c, .int .i64 (k : Int), .int .i64 2] W fun e w' => e = .returned (.tuple #[.int .u32 (x : Int), .bool true]) ∧ W = w') := by
  intro W h1
  have := rget2_yes A c xs k W _ h1 h
  rwa [hx] at this
theorem rget4_n (A : Option Addr) (c : Nat) (xs : List UInt8) (k : Nat) (s : UInt32) (h : k + 4 ≤ xs.length) (hs : beN ((xs.drop k).take 4) = s.toNat) : ∀ W, Rd bv W W.heap.size A c xs → Hid (Calls Try.prog 48 #[.slice A xs.length c, .int .i64 (k : Int), .int .i64 4] W fun e w' => e = .returned (.tuple #[.int .u32 (s.toNat : Int), .bool true]) ∧ W = w') := by
  intro W h1
  have := rget4_yes A c xs k W _ h1 h
  rwa [hs] at this
theorem rget_none (A : Option Addr) (c : Nat) (xs : List UInt8) (k : Nat) (hc : xs.length ≤ 1000000) (h : xs.length < k + 2) : ∀ W, Rd bv W W.heap.size A c xs → Hid (Calls Try.prog 48 #[.slice A xs.length c, .int .i64 (k : Int), .int .i64 2] W fun e w' => e = .returned (.tuple #[.int .u32 ((0 : Nat) : Int), .bool false]) ∧ W = w') :=
  fun W _ => rget_no A xs.length c k 2 W (by omega) (by omega) (by omega) (.inr (by omega))
theorem two_nat' (L : List UInt8) (k : Nat) (h : k + 2 ≤ L.length) : beN ((L.drop k).take 2) = L[k].toNat * 256 + L[k + 1].toNat := by
  have := two_of L k _ h rfl
  omega

theorem quote_both (ty co : UInt8) (re : UInt32) (A : Option Addr) (c : Nat) (xs : List UInt8) (hxl : xs.length ≤ 1000000) : ∃ f0 f1 f2 f3 f4 er : Int,
    (∀ W, Rd bv W W.heap.size A c xs → Calls Try.prog 11 #[.agg #[.int .u8 (ty.toNat : Int), .int .u8 (co.toNat : Int), .int .u32 (re.toNat : Int), .slice A xs.length c]] W fun e w' => e = .returned (.tuple #[.agg #[.int .u32 f0, .int .u32 f1, .int .u16 f2, .int .u16 f3, .int .u8 f4], .int .i64 er]) ∧ Below W.heap.size W w') ∧
    (∀ W, Rd bv W W.heap.size A c xs → Calls Try.prog 12 #[.agg #[.int .u8 (ty.toNat : Int), .int .u8 (co.toNat : Int), .int .u32 (re.toNat : Int), .slice A xs.length c]] W fun e w' => e = .returned (.tuple #[.agg #[.int .u32 f0, .int .u32 f1, .int .u16 f2, .int .u16 f3, .int .u8 f4], .int .i64 er]) ∧ Below W.heap.size W w') := by
  cases hab : decide (ty.toNat = 3 ∨ ty.toNat = 11 ∨ ty.toNat = 12)
  · exact ⟨0, 0, 0, 0, 0, 10, fun W h => qof_state ty co re A c xs W h hab, fun W h => rq_state ty co re A c xs W h hab⟩
  have ht := tells_of ty hab
  by_cases h20 : xs.length < 20
  · exact ⟨0, 0, 0, 0, 0, 4, fun W h => qof_short ty co re A c xs W h hab h20, fun W h => rq_short ty co re A c xs W h ht h20⟩
  have h20' : 20 ≤ xs.length := by omega
  have hb := (xs[0]).toNat_lt
  by_cases hm1 : (xs[0]).toNat < 69
  · refine ⟨0, 0, 0, 0, 0, 3, fun W h => qof_form0 ty co re A c xs W h hab h20' hm1, fun W h => ?_⟩
    by_cases h4 : (xs[0]).toNat / 16 = 4
    · exact rq_form1 ty co re A c xs W h ht h20' h4 (by omega)
    · exact rq_form0 ty co re A c xs W h ht h20' h4
  by_cases hm2 : 79 < (xs[0]).toNat
  · exact ⟨0, 0, 0, 0, 0, 3, fun W h => qof_form1 ty co re A c xs W h hab h20' hm2, fun W h => rq_form0 ty co re A c xs W h ht h20' (by omega)⟩
  obtain ⟨m, hm⟩ : ∃ m, (xs[0]).toNat = 64 + m := ⟨(xs[0]).toNat - 64, by omega⟩
  have hm5 : 5 ≤ m := by omega
  have hm15 : m ≤ 15 := by omega
  by_cases hl : xs.length < 4 * m
  · exact ⟨0, 0, 0, 0, 0, 4, fun W h => qof_long ty co re A c xs W h hab h20' m hm hm5 hm15 hl, fun W h => rq_long ty co re A c xs W h ht h20' m hm hm5 hm15 hl⟩
  have hl' : 4 * m ≤ xs.length := by omega
  by_cases hN : onesN (xs.take (4 * m)) = 65535
  · obtain ⟨fl, hfl⟩ : ∃ fl, beN ((xs.drop 6).take 2) = fl := ⟨_, rfl⟩
    have hfl16 : fl ≤ 65535 := by rw [← hfl]; exact two_lt xs 6 (by omega)
    obtain ⟨fo, hf0⟩ : ∃ fo : UInt16, fl % 8192 = fo.toNat := ⟨UInt16.ofNat (fl % 8192), by rw [UInt16.ofNat_id _ (by omega)]⟩
    obtain ⟨s, hs⟩ := ip_u32 xs 12
    obtain ⟨d, hd⟩ := ip_u32 xs 16
    obtain ⟨pr, h9⟩ : ∃ pr, xs[9] = pr := ⟨_, rfl⟩
    have Q : ∀ f0 f1 f2 f3 f4 er, (∀ A' c' W, Rd bv W W.heap.size A' c' (xs.drop (4 * m)) → Calls Try.prog 16 #[.agg #[.int .u8 0, .int .u16 0, .bool false, .bool (decide (fl / 8192 % 2 = 1)), .int .u16 (fo.toNat : Int), .int .u8 0, .int .u8 (pr.toNat : Int), .int .u32 (s.toNat : Int), .int .u32 (d.toNat : Int), .slice none 0 0, .slice A' (xs.drop (4 * m)).length c']] W fun e w' => e = .returned (.tuple #[.agg #[.int .u32 f0, .int .u32 f1, .int .u16 f2, .int .u16 f3, .int .u8 f4], .int .i64 er]) ∧ Below W.heap.size W w') → ∀ W, Rd bv W W.heap.size A c xs → Calls Try.prog 11 #[.agg #[.int .u8 (ty.toNat : Int), .int .u8 (co.toNat : Int), .int .u32 (re.toNat : Int), .slice A xs.length c]] W fun e w' => e = .returned (.tuple #[.agg #[.int .u32 f0, .int .u32 f1, .int .u16 f2, .int .u16 f3, .int .u8 f4], .int .i64 er]) ∧ Below W.heap.size W w' :=
      fun f0 f1 f2 f3 f4 er HF W h => qof_go ty co re A c xs W h hab h20' m hm hm5 hm15 hl' hxl hN fl hfl _ rfl fo hf0 pr h9 s d hs hd f0 f1 f2 f3 f4 er (fun A' c' W h => Lib.hid (HF A' c' W h))
    by_cases hw : fl % 16384 = 0
    · have hM : decide (fl / 8192 % 2 = 1) = false := by simp; omega
      have ho : (((fo.toNat : Int)) != 0) = false := by simp; omega
      rw [hM] at Q
      by_cases hp : pr.toNat = 6 ∨ pr.toNat = 17
      · have hpp := ported_of pr hp
        by_cases h4 : xs.length < 4 * m + 4
        · have hln : (xs.drop (4 * m)).length < 4 := by simp; omega
          refine ⟨0, 0, 0, 0, 0, 4, Q _ _ _ _ _ _ fun A' c' W h => ?_, fun W h => ?_⟩
          · rcases hp with hp | hp
            · rw [hp]; exact fof_short6 _ _ _ _ _ _ _ _ A' _ c' ho hln h.len h.cap W
            · rw [hp]; exact fof_short17 _ _ _ _ _ _ _ _ A' _ c' ho hln h.len h.cap W
          · by_cases h2 : xs.length < 4 * m + 2
            · exact rq_none ty co re A c xs W h ht h20' m hm hm5 hm15 hl' hxl hN fl hfl hw pr h9 hpp (4 * m) (4 * m + 2) rfl rfl 0 0 false false rfl (rget_none A c xs _ hxl (by omega)) (rget_none A c xs _ hxl (by omega))
            · exact rq_none ty co re A c xs W h ht h20' m hm hm5 hm15 hl' hxl hN fl hfl hw pr h9 hpp (4 * m) (4 * m + 2) rfl rfl _ 0 true false rfl (rget2_n A c xs _ _ (by omega) rfl) (rget_none A c xs _ hxl (by omega))
        · have hln : 4 ≤ (xs.drop (4 * m)).length := by simp; omega
          have e1 := two_nat' (xs.drop (4 * m)) 0 (by omega)
          have e2 := two_nat' (xs.drop (4 * m)) 2 (by omega)
          rw [List.drop_zero] at e1
          rw [List.drop_drop] at e2
          have b1 := two_lt xs (4 * m) (by omega)
          have b2 := two_lt xs (4 * m + 2) (by omega)
          refine ⟨_, _, _, _, _, _, Q _ _ ((beN ((xs.drop (4 * m)).take 2) : Nat) : Int) ((beN ((xs.drop (4 * m + 2)).take 2) : Nat) : Int) (pr.toNat : Int) 0 fun A' c' W h => ?_, fun W h => rq_ok ty co re A c xs W h ht h20' m hm hm5 hm15 hl' hxl hN fl hfl hw pr h9 hpp (4 * m) (4 * m + 2) rfl rfl _ _ s d b1 b2 (rget2_n A c xs _ _ (by omega) rfl) (rget2_n A c xs _ _ (by omega) rfl) (rget4_n A c xs 12 s (by omega) hs) (rget4_n A c xs 16 d (by omega) hd)⟩
          rw [e1, e2]
          rcases hp with hp | hp
          · rw [hp]; exact fof_ok6 _ _ _ _ _ _ _ _ A' c' _ ho W h hln
          · rw [hp]; exact fof_ok17 _ _ _ _ _ _ _ _ A' c' _ ho W h hln
      · have k6 : ((pr.toNat : Int) != 6) = true := by simp; omega
        have k17 : ((pr.toNat : Int) != 17) = true := by simp; omega
        exact ⟨0, 0, 0, 0, 0, 3, Q _ _ _ _ _ _ fun A' c' W h => fof_form _ _ _ _ _ _ _ _ _ _ ho k6 k17 W, fun W h => rq_form ty co re A c xs W h ht h20' m hm hm5 hm15 hl' hxl hN fl hfl hw pr h9 (by omega) (by omega)⟩
    · refine ⟨0, 0, 0, 0, 0, 11, Q _ _ _ _ _ _ fun A' c' W h => ?_, fun W h => rq_range ty co re A c xs W h ht h20' m hm hm5 hm15 hl' hxl hN fl hfl hw⟩
      cases hM : decide (fl / 8192 % 2 = 1)
      · have ho : (((fo.toNat : Int)) != 0) = true := by
          have := of_decide_eq_false hM
          simp; omega
        exact fof_off _ _ _ _ _ _ _ _ _ _ ho W
      · exact fof_mf _ _ _ _ _ _ _ _ _ _ W
  · exact ⟨0, 0, 0, 0, 0, 5, fun W h => qof_sum ty co re A c xs W h hab h20' m hm hm5 hm15 hl' hxl hN, fun W h => rq_sum ty co re A c xs W h ht h20' m hm hm5 hm15 hl' hxl hN⟩

theorem fof_okP (v0 v1 v2 v5 v9 : Value) (off s d : Int) (A : Option Addr) (c : Nat) (xs : List UInt8) (ho : ((off : Int) != 0) = false) (w : World) (hr : Rd bv w w.heap.size A c xs) (h4 : 4 ≤ xs.length) (pr : UInt8) :
    pr.toNat = 6 ∨ pr.toNat = 17 → Calls Try.prog 16 #[.agg #[v0, v1, v2, .bool false, .int .u16 off, v5, .int .u8 (pr.toNat : Int), .int .u32 s, .int .u32 d, v9, .slice A xs.length c]] w fun e w' => e = .returned (.tuple #[.agg #[.int .u32 s, .int .u32 d, .int .u16 ((xs[0].toNat * 256 + xs[1].toNat : Nat) : Int), .int .u16 ((xs[2].toNat * 256 + xs[3].toNat : Nat) : Int), .int .u8 (pr.toNat : Int)], .int .i64 0]) ∧ Below w.heap.size w w' := by
  have h6 := fof_ok6 v0 v1 v2 v5 v9 off s d A c xs ho w hr h4
  have h17 := fof_ok17 v0 v1 v2 v5 v9 off s d A c xs ho w hr h4
  generalize pr.toNat = q
  rintro (rfl | rfl)
  · exact h6
  · exact h17
/-- A packet's flow, by its data or by their beginning. -/
theorem flow_two (M : Bool) (fo : UInt16) (pr : UInt8) (s d : UInt32) (xs ys : List UInt8) (hy : ys = xs.take 8) : ∃ f0 f1 f2 f3 f4 er : Int,
    (∀ v0 v1 v2 v5 v9 A c W, Rd bv W W.heap.size A c xs → Calls Try.prog 16 #[.agg #[v0, v1, v2, .bool M, .int .u16 (fo.toNat : Int), v5, .int .u8 (pr.toNat : Int), .int .u32 (s.toNat : Int), .int .u32 (d.toNat : Int), v9, .slice A xs.length c]] W fun e w' => e = .returned (.tuple #[.agg #[.int .u32 f0, .int .u32 f1, .int .u16 f2, .int .u16 f3, .int .u8 f4], .int .i64 er]) ∧ Below W.heap.size W w') ∧
    (∀ v0 v1 v2 v5 v9 A c W, Rd bv W W.heap.size A c ys → Calls Try.prog 16 #[.agg #[v0, v1, v2, .bool M, .int .u16 (fo.toNat : Int), v5, .int .u8 (pr.toNat : Int), .int .u32 (s.toNat : Int), .int .u32 (d.toNat : Int), v9, .slice A ys.length c]] W fun e w' => e = .returned (.tuple #[.agg #[.int .u32 f0, .int .u32 f1, .int .u16 f2, .int .u16 f3, .int .u8 f4], .int .i64 er]) ∧ Below W.heap.size W w') := by
  have hyl : ys.length = min 8 xs.length := by rw [hy]; simp
  cases M
  · cases ho : (((fo.toNat : Int)) != 0)
    · by_cases hp : pr.toNat = 6 ∨ pr.toNat = 17
      · by_cases h4 : xs.length < 4
        · refine ⟨0, 0, 0, 0, 0, 4, fun v0 v1 v2 v5 v9 A c W h => ?_, fun v0 v1 v2 v5 v9 A c W h => ?_⟩
          · rcases hp with hp | hp
            · rw [hp]; exact fof_short6 _ _ _ _ _ _ _ _ A _ c ho h4 h.len h.cap W
            · rw [hp]; exact fof_short17 _ _ _ _ _ _ _ _ A _ c ho h4 h.len h.cap W
          · rcases hp with hp | hp
            · rw [hp]; exact fof_short6 _ _ _ _ _ _ _ _ A _ c ho (by omega) h.len h.cap W
            · rw [hp]; exact fof_short17 _ _ _ _ _ _ _ _ A _ c ho (by omega) h.len h.cap W
        · have g0 : ys[0] = xs[0] := by simp [hy]
          have g1 : ys[1] = xs[1] := by simp [hy]
          have g2 : ys[2] = xs[2] := by simp [hy]
          have g3 : ys[3] = xs[3] := by simp [hy]
          refine ⟨(s.toNat : Int), (d.toNat : Int), ((xs[0].toNat * 256 + xs[1].toNat : Nat) : Int), ((xs[2].toNat * 256 + xs[3].toNat : Nat) : Int), (pr.toNat : Int), 0, fun v0 v1 v2 v5 v9 A c W h => ?_, fun v0 v1 v2 v5 v9 A c W h => ?_⟩
          · exact fof_okP _ _ _ _ _ _ _ _ A c _ ho W h (by omega) pr hp
          · have := fof_okP v0 v1 v2 v5 v9 _ (s.toNat : Int) (d.toNat : Int) A c _ ho W h (by omega) pr hp
            rw [g0, g1, g2, g3] at this
            exact this
      · have k6 : ((pr.toNat : Int) != 6) = true := by simp; omega
        have k17 : ((pr.toNat : Int) != 17) = true := by simp; omega
        exact ⟨0, 0, 0, 0, 0, 3, fun v0 v1 v2 v5 v9 A c W h => fof_form _ _ _ _ _ _ _ _ _ _ ho k6 k17 W, fun v0 v1 v2 v5 v9 A c W h => fof_form _ _ _ _ _ _ _ _ _ _ ho k6 k17 W⟩
    · exact ⟨0, 0, 0, 0, 0, 11, fun v0 v1 v2 v5 v9 A c W h => fof_off _ _ _ _ _ _ _ _ _ _ ho W, fun v0 v1 v2 v5 v9 A c W h => fof_off _ _ _ _ _ _ _ _ _ _ ho W⟩
  · exact ⟨0, 0, 0, 0, 0, 11, fun v0 v1 v2 v5 v9 A c W h => fof_mf _ _ _ _ _ _ _ _ _ _ W, fun v0 v1 v2 v5 v9 A c W h => fof_mf _ _ _ _ _ _ _ _ _ _ W⟩

/-- What a message about a packet without options tells. -/
theorem qof_put (ty co : UInt8) (re : UInt32) (hab : decide (ty.toNat = 3 ∨ ty.toNat = 11 ∨ ty.toNat = 12) = true) (h tos : UInt8) (al : Nat) (id : UInt16) (D M : Bool) (fo : UInt16) (ttl pr : UInt8) (N : Nat) (s d : UInt32) (xs P ys : List UInt8) (hh : h.toNat = 69) (hfo : fo.toNat ≤ 8191) (hN : onesN (ih h tos al id (wdN D M fo) ttl pr 0 s d []) = N) (hP : P = (ih h tos al id (wdN D M fo) ttl pr (65535 - N) s d [] ++ xs).take 28) (hy : ys = xs.take 8) (f0 f1 f2 f3 f4 er : Int)
    (HF : ∀ v0 v1 v2 v5 v9 A c W, Rd bv W W.heap.size A c ys → Calls Try.prog 16 #[.agg #[v0, v1, v2, .bool M, .int .u16 (fo.toNat : Int), v5, .int .u8 (pr.toNat : Int), .int .u32 (s.toNat : Int), .int .u32 (d.toNat : Int), v9, .slice A ys.length c]] W fun e w' => e = .returned (.tuple #[.agg #[.int .u32 f0, .int .u32 f1, .int .u16 f2, .int .u16 f3, .int .u8 f4], .int .i64 er]) ∧ Below W.heap.size W w')
    (A : Option Addr) (c : Nat) (w : World) (hr : Rd bv w w.heap.size A c P) :
    Calls Try.prog 11 #[.agg #[.int .u8 (ty.toNat : Int), .int .u8 (co.toNat : Int), .int .u32 (re.toNat : Int), .slice A P.length c]] w fun e w' => e = .returned (.tuple #[.agg #[.int .u32 f0, .int .u32 f1, .int .u16 f2, .int .u16 f3, .int .u8 f4], .int .i64 er]) ∧ Below w.heap.size w w' := by
  obtain ⟨w1, w2, w3, w4⟩ := wdN_le D M fo hfo
  obtain ⟨wd, hwd⟩ : ∃ wd, wdN D M fo = wd := ⟨_, rfl⟩
  rw [hwd] at w1 w2 w3 w4 hN hP
  have hIH : (ih h tos al id wd ttl pr (65535 - N) s d []).length = 20 := ih_len _ _ _ _ _ _ _ _ _ _ _
  have hP2 : P = ih h tos al id wd ttl pr (65535 - N) s d [] ++ ys := by
    rw [hP, hy, List.take_append, hIH, List.take_of_length_le (by omega)]
  have hyl : ys.length ≤ 8 := by rw [hy]; simp; omega
  have hlen : P.length = 20 + ys.length := by rw [hP2, List.length_append, hIH]
  have e0 : P[0] = h := (List.getElem_of_eq hP2 _).trans rfl
  have e9 : P[9] = pr := (List.getElem_of_eq hP2 _).trans rfl
  have g6 : beN ((P.drop 6).take 2) = wd := by rw [hP2]; exact two_nat wd (by omega)
  have g12 : beN ((P.drop 12).take 4) = s.toNat := by rw [hP2]; exact be32_four s
  have g16 : beN ((P.drop 16).take 4) = d.toNat := by rw [hP2]; exact be32_four d
  have ht : P.take (4 * 5) = ih h tos al id wd ttl pr (65535 - N) s d [] := by rw [hP2, List.take_left' hIH]
  have hon : onesN (P.take (4 * 5)) = 65535 := by rw [ht]; exact ih_ones h tos _ id wd ttl pr s d [] N hN
  have hd : P.drop (4 * 5) = ys := by rw [hP2, List.drop_left' hIH]
  refine qof_go ty co re A c P w hr hab (by omega) 5 (by rw [e0, hh]) (by omega) (by omega) (by omega) (by omega) hon wd g6 M w3 fo w4 pr e9 s d g12 g16 f0 f1 f2 f3 f4 er ?_
  rw [hd]
  exact fun A' c' W hW => Lib.hid (HF _ _ _ _ _ A' c' W hW)
end Go.Proofs.Ytkoamiefombilaa
