/- Contracts of icmp.Put and of the reference's. -/
import Derived.Test.YtkmjpjhlkakdhaaIcmp2
namespace Go.Proofs.Ytkmjpjhlkakdhaa
open Go.RowKit

theorem set16_nat (A : Option Addr) (c : Nat) (bs : List UInt8) (k s : Nat) (w : World) (hb : Rd bv w w.heap.size A c bs) (h : k + 2 ≤ bs.length) (hl : bs.length ≤ 1000000) (hs : s < 65536) :
    Calls Try.prog 66 #[.slice A bs.length c, .int .i64 k, .int .u16 s] w fun e w' => ∃ L A2 c2, e = .returned (.tuple #[.slice A2 L.length c2, .bool true]) ∧
      Hid (L = (bs.set k (UInt8.ofNat (s / 256))).set (k + 1) (UInt8.ofNat (s % 256))) ∧ Rd bv w' w'.heap.size A2 c2 L ∧ Below w.heap.size w w' := by
  have e : (UInt16.ofNat s).toNat = s := by simp; omega
  have hc := set16_yes A c bs k (UInt16.ofNat s) w hb h hl
  rw [e] at hc
  refine hc.mono ?_
  rintro e w' ⟨v, rfl, ho, hb⟩
  obtain ⟨L, A2, c2, HL, rfl, hr⟩ := ho.rdv
  exact ⟨L, A2, c2, rfl, HL, hr, hb⟩

theorem p32a (W : World) (g : Nat) (re : UInt32) (t : TypeId) (hg : g = W.heap.size) : Calls Try.prog 57 #[.slice none 0 0, .slice (some ⟨g, 0, none⟩) 1 1] (W.alloc (.cells #[.int .u32 (re.toNat : Int)] t)).drew fun r w' =>
    ∃ L A c, r = .returned (.slice A L.length c) ∧ Hid (L = be32 re) ∧ Rd bv w' w'.heap.size A c L ∧ Below (W.alloc (.cells #[.int .u32 (re.toNat : Int)] t)).heap.size (W.alloc (.cells #[.int .u32 (re.toNat : Int)] t)) w' := by
  subst hg
  refine (put32_nil _ _ [re] _ (lit32_at W _ [re] rfl #[.int .u32 (re.toNat : Int)] rfl t (by simp)).drew (by simp)).mono ?_
  rintro e w1 ⟨L1, A1, c1, rfl, HL1, h32, hbel⟩
  exact ⟨L1, A1, c1, rfl, by rw [Hid, HL1.out]; simp [puts32], h32, Below.undrew hbel⟩
theorem p32b (W : World) (g : Nat) (re : UInt32) (t : TypeId) (o : Obj) (hg : g = W.heap.size) : Calls Try.prog 57 #[.slice none 0 0, .slice (some ⟨g, 0, none⟩) 1 1] ((W.alloc (.cells #[.int .u32 (re.toNat : Int)] t)).alloc o).drew fun r w' =>
    ∃ L A c, r = .returned (.slice A L.length c) ∧ Hid (L = be32 re) ∧ Rd bv w' w'.heap.size A c L ∧ Below ((W.alloc (.cells #[.int .u32 (re.toNat : Int)] t)).alloc o).heap.size ((W.alloc (.cells #[.int .u32 (re.toNat : Int)] t)).alloc o) w' := by
  subst hg
  refine (put32_nil _ _ [re] _ ((lit32_at W _ [re] rfl #[.int .u32 (re.toNat : Int)] rfl t (by simp)).nextA o).drew (by simp)).mono ?_
  rintro e w1 ⟨L1, A1, c1, rfl, HL1, h32, hbel⟩
  exact ⟨L1, A1, c1, rfl, by rw [Hid, HL1.out]; simp [puts32], h32, Below.undrew hbel⟩

theorem iput_any (ty co : UInt8) (re : UInt32) (A : Option Addr) (c : Nat) (xs : List UInt8) (w : World) (hr : Rd bv w w.heap.size A c xs) (hl : xs.length ≤ 100000) (N : Nat) (hN : onesN ([ty, co, 0, 0] ++ (be32 re ++ xs)) = N) :
    Calls Try.prog 43 #[.agg #[.int .u8 (ty.toNat : Int), .int .u8 (co.toNat : Int), .int .u32 (re.toNat : Int), .slice A xs.length c]] w fun e w' => ∃ L A1 c1, e = .returned (.slice A1 L.length c1) ∧ Hid (L = [ty, co, UInt8.ofNat ((65535 - N) / 256), UInt8.ofNat ((65535 - N) % 256)] ++ (be32 re ++ xs)) ∧ Rd bv w' w'.heap.size A1 c1 L ∧ Below w.heap.size w w' := by
  have hN65 : N ≤ 65535 := by rw [← hN]; exact onesN_le _
  have HN := Lib.hid hN
  clear hN
  obtain ⟨W1, hW1⟩ : ∃ W1, W1 = w.alloc (.cells #[.int .u8 (ty.toNat : Int), .int .u8 (co.toNat : Int), .int .u32 (re.toNat : Int), .slice A xs.length c] 70) := ⟨_, rfl⟩
  have hr1 : Rd bv W1 W1.heap.size A c xs := by subst hW1; exact hr.nextA _
  have hB1 : Below w.heap.size w W1 := by subst hW1; exact bnextA (Below.refl _ _) _
  have HS : ∀ W, Below W1.heap.size W1 W → (W.cell? ⟨w.heap.size, 0, none⟩ = some (.int .u8 (ty.toNat : Int)) ∧ W.cell? ⟨w.heap.size, 1, none⟩ = some (.int .u8 (co.toNat : Int)) ∧ W.cell? ⟨w.heap.size, 2, none⟩ = some (.int .u32 (re.toNat : Int)) ∧ W.cell? ⟨w.heap.size, 3, none⟩ = some (.slice A xs.length c) ∧ Below W1.heap.size W1 W) := by
    intro W h
    subst hW1
    have hq := blk4 rfl h
    exact ⟨hq.1, hq.2.1, hq.2.2.1, hq.2.2.2.1, h⟩
  clear hr
  go_enter Try.func43, Try.ntmps43
  go_wp2_with fail
  rw [← hW1]
  clear hW1
  go_region_held3 (fun W => W.cell? ⟨w.heap.size, 0, none⟩ = some (.int .u8 (ty.toNat : Int)) ∧ W.cell? ⟨w.heap.size, 1, none⟩ = some (.int .u8 (co.toNat : Int)) ∧ W.cell? ⟨w.heap.size, 2, none⟩ = some (.int .u32 (re.toNat : Int)) ∧ W.cell? ⟨w.heap.size, 3, none⟩ = some (.slice A xs.length c) ∧ Below W1.heap.size W1 W)
    (first
      | (go_split_ands; exact HS _ (bnextA (by assumption) _))
      | (go_split_ands; exact HS _ hq)
      | exact HS _ (Below.refl _ _).drew)
    (first
      | (go_at_call 57; go_split_ands; (with_reducible refine (p32a W1 _ re _ rfl).mono ?_); rintro e w1 ⟨L1, A1, c1, rfl, HL1, h32, hbel⟩; have hq := bnext (bnextA (Below.refl W1.heap.size W1) _) hbel)
      | (go_at_call 57; go_split_ands; (with_reducible refine (p32a (W1.alloc (.cells #[.int .u8 (ty.toNat : Int), .int .u8 (co.toNat : Int), .int .u8 0, .int .u8 0] 5)) _ re _ (by simp)).mono ?_); rintro e w1 ⟨L1, A1, c1, rfl, HL1, h32, hbel⟩; have hq := bnext (bnextA (bnextA (Below.refl W1.heap.size W1) _) _) hbel; have h4 := ((lit_at W1 W1.heap.size [ty, co, 0, 0] rfl #[.int .u8 (ty.toNat : Int), .int .u8 (co.toNat : Int), .int .u8 0, .int .u8 0] rfl 5 (by simp)).nextA _).next hbel)
      | (go_at_call 57; go_split_ands; (with_reducible refine (p32b W1 _ re _ (.cells #[.int .u8 (ty.toNat : Int), .int .u8 (co.toNat : Int), .int .u8 0, .int .u8 0] 5) rfl).mono ?_); rintro e w1 ⟨L1, A1, c1, rfl, HL1, h32, hbel⟩; have hq := bnext (bnextA (bnextA (Below.refl W1.heap.size W1) _) _) hbel; have h4 := (lit_at (W1.alloc (.cells #[.int .u32 (re.toNat : Int)] 27)) (W1.heap.size + 1) [ty, co, 0, 0] (by simp) #[.int .u8 (ty.toNat : Int), .int .u8 (co.toNat : Int), .int .u8 0, .int .u8 0] rfl 5 (by simp)).next hbel)
      | (go_at_call 55; go_split_ands; refine (join_any _ _ _ 3 [[ty, co, 0, 0], L1, xs] (parts_at _ rfl (.cons h4 (.cons h32 (.cons (hr1.next hq) .nil))) _ rfl _) rfl (by omega) (by omega) (by simp [HL1.out, be32]; omega)).mono ?_; rintro e w2 ⟨L2, A2, c2, rfl, HL2, hr2, hbel⟩; replace hq := bnext (bnextA hq _) hbel)
      | (go_at_call 55; go_split_ands; refine (join_any _ _ _ 3 [[ty, co, 0, 0], L1, xs] (parts_at _ (by simp) (.cons (lit_at w1 _ [ty, co, 0, 0] rfl #[.int .u8 (ty.toNat : Int), .int .u8 (co.toNat : Int), .int .u8 0, .int .u8 0] rfl 5 (by simp)) (.cons (h32.nextA _) (.cons ((hr1.next hq).nextA _) .nil))) _ rfl _) rfl (by omega) (by omega) (by simp [HL1.out, be32]; omega)).mono ?_; rintro e w2 ⟨L2, A2, c2, rfl, HL2, hr2, hbel⟩; replace hq := bnext (bnextA (bnextA hq _) _) hbel)
      | fail)
  all_goals
    have hL2 : L2 = [ty, co, 0, 0] ++ (be32 re ++ xs) := by rw [HL2.out, HL1.out]; simp
    have hlen : 8 ≤ L2.length ∧ L2.length ≤ 200000 := by rw [hL2]; simp [be32]; omega
    have HL := Lib.hid hL2
    clear hL2
    have hB2 := bnext hB1 hq
    clear hr1 hq
    go_wp2_with fail
    refine (sof_any _ _ _ 1 [L2] N (parts_lit (.cons hr2 .nil) _ rfl _) rfl (by omega) (by omega) (by simp; omega) (by simpa [HL.out] using HN.out)).mono ?_
    rintro e w3 ⟨rfl, hbel3⟩
    have hr3 := (hr2.nextA _).next hbel3
    have hB3 := bnext (bnextA hB2 _) hbel3
    go_wp2_with fail
    refine (set16_nat _ _ L2 2 (65535 - N) _ hr3 (by omega) (by omega) (by omega)).mono ?_
    rintro e w4 ⟨L4, A4, c4, rfl, HL4, hr4, hbel4⟩
    have hB4 := bnext hB3 hbel4
    clear hbel3 hbel4 hr2 hr3
    go_wp2_with fail
    go_ret
    exact ⟨L4, A4, c4, rfl, by rw [Hid, HL4.out, HL.out]; rfl, hr4, hB4⟩

theorem riput_any (ty co : UInt8) (re : UInt32) (A : Option Addr) (c : Nat) (xs : List UInt8) (w : World) (hr : Rd bv w w.heap.size A c xs) (hl : xs.length ≤ 100000) (N : Nat) (hN : onesN ([ty, co, 0, 0] ++ (be32 re ++ xs)) = N) :
    Calls Try.prog 44 #[.agg #[.int .u8 (ty.toNat : Int), .int .u8 (co.toNat : Int), .int .u32 (re.toNat : Int), .slice A xs.length c]] w fun e w' => ∃ L A1 c1, e = .returned (.slice A1 L.length c1) ∧ Hid (L = [ty, co, UInt8.ofNat ((65535 - N) / 256), UInt8.ofNat ((65535 - N) % 256)] ++ (be32 re ++ xs)) ∧ Rd bv w' w'.heap.size A1 c1 L ∧ Below w.heap.size w w' := by
  have hN65 : N ≤ 65535 := by rw [← hN]; exact onesN_le _
  have hre := re.toNat_lt
  have HN := Lib.hid hN
  clear hN
  obtain ⟨s, hs⟩ : ∃ s, 65535 - N = s := ⟨_, rfl⟩
  have hs65 : s ≤ 65535 := by omega
  rw [hs]
  have HSS := Lib.hid hs
  clear hs
  obtain ⟨W1, hW1⟩ : ∃ W1, W1 = w.alloc (.cells #[.int .u8 (ty.toNat : Int), .int .u8 (co.toNat : Int), .int .u32 (re.toNat : Int), .slice A xs.length c] 70) := ⟨_, rfl⟩
  have hr1 : Rd bv W1 W1.heap.size A c xs := by subst hW1; exact hr.nextA _
  have hB1 : Below w.heap.size w W1 := by subst hW1; exact bnextA (Below.refl _ _) _
  have HS : ∀ W, Below W1.heap.size W1 W → (W.cell? ⟨w.heap.size, 0, none⟩ = some (.int .u8 (ty.toNat : Int)) ∧ W.cell? ⟨w.heap.size, 1, none⟩ = some (.int .u8 (co.toNat : Int)) ∧ W.cell? ⟨w.heap.size, 2, none⟩ = some (.int .u32 (re.toNat : Int)) ∧ W.cell? ⟨w.heap.size, 3, none⟩ = some (.slice A xs.length c) ∧ Below W1.heap.size W1 W) := by
    intro W h
    subst hW1
    have hq := blk4 rfl h
    exact ⟨hq.1, hq.2.1, hq.2.2.1, hq.2.2.2.1, h⟩
  have HP : ∀ W, Hid (Calls Try.prog 59 #[.int .u32 (re.toNat : Int), .int .i64 4] W fun e w' => ∃ L A2 c2, e = .returned (.slice A2 L.length c2) ∧ Hid (L = be32 re) ∧ Rd bv w' w'.heap.size A2 c2 L ∧ Below W.heap.size W w') := by
    intro W
    refine (rput_any re.toNat 4 W hre (by omega)).mono ?_
    rintro e w' ⟨v, rfl, ho, hb⟩
    obtain ⟨L, A2, c2, HL, rfl, hr⟩ := ho.rdv
    exact ⟨L, A2, c2, rfl, by rw [Hid, HL.out, be32_put], hr, hb⟩
  have HA : ∀ (A1 A2 : Option Addr) (c1 c2 : Nat) (us vs : List UInt8) (W : World), Rd bv W W.heap.size A1 c1 us → Rd bv W W.heap.size A2 c2 vs → us.length + vs.length ≤ 1000000 → Hid (Calls Try.prog 21 #[.slice A1 us.length c1, .slice A2 vs.length c2] W fun e w' => ∃ L A3 c3, e = .returned (.slice A3 L.length c3) ∧ Hid (L = us ++ vs) ∧ Rd bv w' w'.heap.size A3 c3 L ∧ Below W.heap.size W w') := by
    intro A1 A2 c1 c2 us vs W h1 h2 hl
    refine (radd_any A1 A2 c1 c2 us vs W h1 h2 (by omega)).mono ?_
    rintro e w' ⟨v, rfl, ho, hb⟩
    obtain ⟨L, A2, c2, HL, rfl, hr⟩ := ho.rdv
    exact ⟨L, A2, c2, rfl, HL, hr, hb⟩
  have HA4 : ∀ (A1 A2 : Option Addr) (c2 : Nat) (us vs : List UInt8) (W : World), us.length = 4 → Rd bv W W.heap.size A1 4 us → Rd bv W W.heap.size A2 c2 vs → vs.length ≤ 500000 → Hid (Calls Try.prog 21 #[.slice A1 4 4, .slice A2 vs.length c2] W fun e w' => ∃ L A3 c3, e = .returned (.slice A3 L.length c3) ∧ Hid (L = us ++ vs) ∧ Rd bv w' w'.heap.size A3 c3 L ∧ Below W.heap.size W w') := by
    intro A1 A2 c2 us vs W h4 h1 h2 hl
    have := HA A1 A2 4 c2 us vs W h1 h2 (by omega)
    rwa [h4] at this
  clear hr
  go_enter Try.func44, Try.ntmps44
  go_wp2_with fail
  rw [← hW1]
  clear hW1
  go_region_held3 (fun W => W.cell? ⟨w.heap.size, 0, none⟩ = some (.int .u8 (ty.toNat : Int)) ∧ W.cell? ⟨w.heap.size, 1, none⟩ = some (.int .u8 (co.toNat : Int)) ∧ W.cell? ⟨w.heap.size, 2, none⟩ = some (.int .u32 (re.toNat : Int)) ∧ W.cell? ⟨w.heap.size, 3, none⟩ = some (.slice A xs.length c) ∧ Below W1.heap.size W1 W)
    (first
      | (go_split_ands; exact HS _ hq)
      | (go_split_ands; exact HS _ (bnextA (by assumption) _))
      | exact HS _ (Below.refl _ _).drew)
    (first
      | (go_at_call 59; go_split_ands; (with_reducible refine (HP W1.drew).out.mono ?_); rintro e w1 ⟨L1, A1, c1, rfl, HL1, h32, hbel⟩; have hq : Below W1.heap.size W1 w1 := Below.undrew hbel)
      | (go_at_call 59; go_split_ands; (with_reducible refine (HP (W1.alloc (.cells #[.int .u8 (ty.toNat : Int), .int .u8 (co.toNat : Int), .int .u8 0, .int .u8 0] 5)).drew).out.mono ?_); rintro e w1 ⟨L1, A1, c1, rfl, HL1, h32, hbel⟩; have hq : Below W1.heap.size W1 w1 := bnext (bnextA (Below.refl W1.heap.size W1) _) (Below.undrew hbel); replace hbel := Below.undrew hbel; have h4 : Rd bv w1 w1.heap.size (some ⟨W1.heap.size, 0, none⟩) 4 [ty, co, 0, 0] := (lit_at W1 W1.heap.size [ty, co, 0, 0] rfl #[.int .u8 (ty.toNat : Int), .int .u8 (co.toNat : Int), .int .u8 0, .int .u8 0] rfl 5 (by simp)).next hbel)
      | (go_at_call 21; go_split_ands; (with_reducible refine (HA _ _ _ _ L2 xs w2 hr2 (hr1.next hq) (by simp [HL2.out, HL1.out, be32]; omega)).out.mono ?_); rintro e w3 ⟨L3, A3, c3, rfl, HL3, hr3, hbel⟩; replace hq := bnext hq hbel)
      | (go_at_call 21; go_split_ands; (with_reducible refine (HA4 _ _ _ [ty, co, 0, 0] L1 w1 rfl h4 h32 (by simp [HL1.out, be32])).out.mono ?_); rintro e w2 ⟨L2, A2, c2, rfl, HL2, hr2, hbel⟩; replace hq := bnext hq hbel)
      | (go_at_call 21; go_split_ands; have h4 : Rd bv (w1.alloc (.cells #[.int .u8 (ty.toNat : Int), .int .u8 (co.toNat : Int), .int .u8 0, .int .u8 0] 5)) (w1.alloc (.cells #[.int .u8 (ty.toNat : Int), .int .u8 (co.toNat : Int), .int .u8 0, .int .u8 0] 5)).heap.size (some ⟨w1.heap.size, 0, none⟩) 4 [ty, co, 0, 0] := (lit_at w1 _ [ty, co, 0, 0] rfl #[.int .u8 (ty.toNat : Int), .int .u8 (co.toNat : Int), .int .u8 0, .int .u8 0] rfl 5 (by simp)); (refine (HA4 _ _ _ [ty, co, 0, 0] L1 (w1.alloc (.cells #[.int .u8 (ty.toNat : Int), .int .u8 (co.toNat : Int), .int .u8 0, .int .u8 0] 5)) rfl h4 (h32.nextA _) (by simp [HL1.out, be32])).out.mono ?_); rintro e w2 ⟨L2, A2, c2, rfl, HL2, hr2, hbel⟩; replace hq := bnext (bnextA hq _) hbel)
      | fail)
  all_goals
    have hL3 : L3 = [ty, co, 0, 0] ++ (be32 re ++ xs) := by rw [HL3.out, HL2.out, HL1.out]; simp
    have hlen : 8 ≤ L3.length ∧ L3.length ≤ 200000 := by rw [hL3]; simp [be32]; omega
    have HL := Lib.hid hL3
    obtain ⟨i0, hi0, hz0, hz1, hz2⟩ := info_parts info_u8
    obtain ⟨A5, c5, hr5, hsl⟩ := hr3.slice_l Try.underlying22 hi0 hz1 4 4 rfl (by omega)
    have hln5 : L3.length - 4 = (L3.drop 4).length := by simp
    rw [hln5] at hsl
    have hd4 : L3.drop 4 = be32 re ++ xs := by rw [hL3]; rfl
    have HD4 := Lib.hid hd4
    have hle5 : (L3.drop 4).length ≤ 200000 := by simp; omega
    obtain ⟨L5, hL5⟩ : ∃ L5, L3.drop 4 = L5 := ⟨_, rfl⟩
    rw [hL5] at hsl hr5 HD4 hle5
    have hro := rof_any A3 c3 L3 N w3 _ hr3 (by omega) (by rw [hL3]; exact HN.out)
    rw [HSS.out] at hro
    have HRO := Lib.hid hro
    clear hL3 hln5 hd4 hL5 hi0 hz0 hz1 hz2 hro HP h32 hr2
    have hX : IntKind.u8.wrap (IntKind.i64.wrap ((s : Int) / 256)) = ((UInt8.ofNat (s / 256)).toNat : Int) := by
      simp [IntKind.wrap, IntKind.bits, IntKind.signed]; omega
    have hY : IntKind.u8.wrap ((s : Int).tmod 256) = ((UInt8.ofNat (s % 256)).toNat : Int) := by
      rw [Int.tmod_eq_emod_of_nonneg (by omega)]
      simp [IntKind.wrap, IntKind.bits, IntKind.signed]
    have h4f : Rd bv (w3.alloc (.cells #[.int .u8 (ty.toNat : Int), .int .u8 (co.toNat : Int), .int .u8 (IntKind.u8.wrap (IntKind.i64.wrap ((s : Int) / 256))), .int .u8 (IntKind.u8.wrap ((s : Int).tmod 256))] 5)).drew (w3.alloc (.cells #[.int .u8 (ty.toNat : Int), .int .u8 (co.toNat : Int), .int .u8 (IntKind.u8.wrap (IntKind.i64.wrap ((s : Int) / 256))), .int .u8 (IntKind.u8.wrap ((s : Int).tmod 256))] 5)).drew.heap.size (some ⟨w3.heap.size, 0, none⟩) 4 [ty, co, UInt8.ofNat (s / 256), UInt8.ofNat (s % 256)] := (lit_at w3 _ [ty, co, UInt8.ofNat (s / 256), UInt8.ofNat (s % 256)] rfl #[.int .u8 (ty.toNat : Int), .int .u8 (co.toNat : Int), .int .u8 (IntKind.u8.wrap (IntKind.i64.wrap ((s : Int) / 256))), .int .u8 (IntKind.u8.wrap ((s : Int).tmod 256))] (by rw [hX, hY]; rfl) 5 (by simp)).drew
    have h5f : Rd bv (w3.alloc (.cells #[.int .u8 (ty.toNat : Int), .int .u8 (co.toNat : Int), .int .u8 (IntKind.u8.wrap (IntKind.i64.wrap ((s : Int) / 256))), .int .u8 (IntKind.u8.wrap ((s : Int).tmod 256))] 5)).drew (w3.alloc (.cells #[.int .u8 (ty.toNat : Int), .int .u8 (co.toNat : Int), .int .u8 (IntKind.u8.wrap (IntKind.i64.wrap ((s : Int) / 256))), .int .u8 (IntKind.u8.wrap ((s : Int).tmod 256))] 5)).drew.heap.size A5 c5 L5 := (hr5.nextA _).drew
    have HADD := Lib.hid (HA4 _ _ _ [ty, co, UInt8.ofNat (s / 256), UInt8.ofNat (s % 256)] L5 _ rfl h4f h5f (by omega)).out
    clear h4f h5f hX hY HA4 HA
    go_wp2_with fail
    refine HRO.out.mono ?_
    rintro e w' ⟨rfl, rfl⟩
    go_wp2_with fail
    go_region_held3 (fun W => W.cell? ⟨w.heap.size, 0, none⟩ = some (.int .u8 (ty.toNat : Int)) ∧ W.cell? ⟨w.heap.size, 1, none⟩ = some (.int .u8 (co.toNat : Int)) ∧ W.cell? ⟨w.heap.size, 2, none⟩ = some (.int .u32 (re.toNat : Int)) ∧ W.cell? ⟨w.heap.size, 3, none⟩ = some (.slice A xs.length c) ∧ Below W1.heap.size W1 W)
      (first
        | (go_split_ands; exact HS _ hq6)
        | (go_split_ands; exact HS _ (bnextA (by assumption) _))
        | exact HS _ hq.drew)
      (first
        | (go_at_call 21; go_split_ands; (with_reducible refine HADD.out.mono ?_); rintro e w6 ⟨L6, A6, c6, rfl, HL6, hr6, hbel⟩; have hq6 : Below W1.heap.size W1 w6 := bnext (bnextA hq _) (Below.undrew hbel))
        | fail)
    go_wp2_with fail
    go_ret
    exact ⟨L6, A6, c6, rfl, by rw [Hid, HL6.out, HD4.out]; rfl, hr6, bnext hB1 hq6⟩
end Go.Proofs.Ytkmjpjhlkakdhaa
