/- Contracts of icmp.Put and of the reference's. -/
import Derived.Test.YtpibempfhgaomaaIcmp2
namespace Go.Proofs.Ytpibempfhgaomaa
open Go.RowKit

theorem set16_nat (A : Option Addr) (c : Nat) (bs : List UInt8) (k s : Nat) (w : World) (hb : Rd bv w w.heap.size A c bs) (h : k + 2 ≤ bs.length) (hl : bs.length ≤ 1000000) (hs : s < 65536) :
    Calls Try.prog 31 #[.slice A bs.length c, .int .i64 k, .int .u16 s] w fun e w' => ∃ L A2 c2, e = .returned (.tuple #[.slice A2 L.length c2, .bool true]) ∧
      Hid (L = (bs.set k (UInt8.ofNat (s / 256))).set (k + 1) (UInt8.ofNat (s % 256))) ∧ Rd bv w' w'.heap.size A2 c2 L ∧ Below w.heap.size w w' := by
  have e : (UInt16.ofNat s).toNat = s := by simp; omega
  have hc := set16_yes A c bs k (UInt16.ofNat s) w hb h hl
  rw [e] at hc
  refine hc.mono ?_
  rintro e w' ⟨v, rfl, ho, hb⟩
  obtain ⟨L, A2, c2, HL, rfl, hr⟩ := ho.rdv
  exact ⟨L, A2, c2, rfl, HL, hr, hb⟩

theorem p32a (W : World) (g : Nat) (re : UInt32) (t : TypeId) (hg : g = W.heap.size) : Calls Try.prog 46 #[.slice none 0 0, .slice (some ⟨g, 0, none⟩) 1 1] (W.alloc (.cells #[.int .u32 (re.toNat : Int)] t)).drew fun r w' =>
    ∃ L A c, r = .returned (.slice A L.length c) ∧ Hid (L = be32 re) ∧ Rd bv w' w'.heap.size A c L ∧ Below (W.alloc (.cells #[.int .u32 (re.toNat : Int)] t)).heap.size (W.alloc (.cells #[.int .u32 (re.toNat : Int)] t)) w' := by
  subst hg
  refine (put32_nil _ _ [re] _ (lit32_at W _ [re] rfl #[.int .u32 (re.toNat : Int)] rfl t (by simp)).drew (by simp)).mono ?_
  rintro e w1 ⟨L1, A1, c1, rfl, HL1, h32, hbel⟩
  exact ⟨L1, A1, c1, rfl, by rw [Hid, HL1.out]; simp [puts32], h32, Below.undrew hbel⟩
theorem p32b (W : World) (g : Nat) (re : UInt32) (t : TypeId) (o : Obj) (hg : g = W.heap.size) : Calls Try.prog 46 #[.slice none 0 0, .slice (some ⟨g, 0, none⟩) 1 1] ((W.alloc (.cells #[.int .u32 (re.toNat : Int)] t)).alloc o).drew fun r w' =>
    ∃ L A c, r = .returned (.slice A L.length c) ∧ Hid (L = be32 re) ∧ Rd bv w' w'.heap.size A c L ∧ Below ((W.alloc (.cells #[.int .u32 (re.toNat : Int)] t)).alloc o).heap.size ((W.alloc (.cells #[.int .u32 (re.toNat : Int)] t)).alloc o) w' := by
  subst hg
  refine (put32_nil _ _ [re] _ ((lit32_at W _ [re] rfl #[.int .u32 (re.toNat : Int)] rfl t (by simp)).nextA o).drew (by simp)).mono ?_
  rintro e w1 ⟨L1, A1, c1, rfl, HL1, h32, hbel⟩
  exact ⟨L1, A1, c1, rfl, by rw [Hid, HL1.out]; simp [puts32], h32, Below.undrew hbel⟩

theorem iput_any (ty co : UInt8) (re : UInt32) (A : Option Addr) (c : Nat) (xs : List UInt8) (w : World) (hr : Rd bv w w.heap.size A c xs) (hl : xs.length ≤ 100000) (N : Nat) (hN : onesN ([ty, co, 0, 0] ++ (be32 re ++ xs)) = N) :
    Calls Try.prog 42 #[.agg #[.int .u8 (ty.toNat : Int), .int .u8 (co.toNat : Int), .int .u32 (re.toNat : Int), .slice A xs.length c]] w fun e w' => ∃ L A1 c1, e = .returned (.slice A1 L.length c1) ∧ Hid (L = [ty, co, UInt8.ofNat ((65535 - N) / 256), UInt8.ofNat ((65535 - N) % 256)] ++ (be32 re ++ xs)) ∧ Rd bv w' w'.heap.size A1 c1 L ∧ Below w.heap.size w w' := by
  have hN65 : N ≤ 65535 := by rw [← hN]; exact onesN_le _
  have HN := Lib.hid hN
  clear hN
  obtain ⟨W1, hW1⟩ : ∃ W1, W1 = w.alloc (.cells #[.int .u8 (ty.toNat : Int), .int .u8 (co.toNat : Int), .int .u32 (re.toNat : Int), .slice A xs.length c] 44) := ⟨_, rfl⟩
  have hr1 : Rd bv W1 W1.heap.size A c xs := by subst hW1; exact hr.nextA _
  have hB1 : Below w.heap.size w W1 := by subst hW1; exact bnextA (Below.refl _ _) _
  have HS : ∀ W, Below W1.heap.size W1 W → (W.cell? ⟨w.heap.size, 0, none⟩ = some (.int .u8 (ty.toNat : Int)) ∧ W.cell? ⟨w.heap.size, 1, none⟩ = some (.int .u8 (co.toNat : Int)) ∧ W.cell? ⟨w.heap.size, 2, none⟩ = some (.int .u32 (re.toNat : Int)) ∧ W.cell? ⟨w.heap.size, 3, none⟩ = some (.slice A xs.length c) ∧ Below W1.heap.size W1 W) := by
    intro W h
    subst hW1
    have hq := blk4 rfl h
    exact ⟨hq.1, hq.2.1, hq.2.2.1, hq.2.2.2.1, h⟩
  clear hr
  go_enter Try.func42, Try.ntmps42
  go_wp2_with fail
  rw [← hW1]
  clear hW1
  go_region_held3 (fun W => W.cell? ⟨w.heap.size, 0, none⟩ = some (.int .u8 (ty.toNat : Int)) ∧ W.cell? ⟨w.heap.size, 1, none⟩ = some (.int .u8 (co.toNat : Int)) ∧ W.cell? ⟨w.heap.size, 2, none⟩ = some (.int .u32 (re.toNat : Int)) ∧ W.cell? ⟨w.heap.size, 3, none⟩ = some (.slice A xs.length c) ∧ Below W1.heap.size W1 W)
    (first
      | (go_split_ands; exact HS _ (bnextA (by assumption) _))
      | (go_split_ands; exact HS _ hq)
      | exact HS _ (Below.refl _ _).drew)
    (first
      | (go_at_call 46; go_split_ands; (with_reducible refine (p32a W1 _ re _ rfl).mono ?_); rintro e w1 ⟨L1, A1, c1, rfl, HL1, h32, hbel⟩; have hq := bnext (bnextA (Below.refl W1.heap.size W1) _) hbel)
      | (go_at_call 46; go_split_ands; (with_reducible refine (p32a (W1.alloc (.cells #[.int .u8 (ty.toNat : Int), .int .u8 (co.toNat : Int), .int .u8 0, .int .u8 0] 5)) _ re _ (by simp)).mono ?_); rintro e w1 ⟨L1, A1, c1, rfl, HL1, h32, hbel⟩; have hq := bnext (bnextA (bnextA (Below.refl W1.heap.size W1) _) _) hbel; have h4 := ((lit_at W1 W1.heap.size [ty, co, 0, 0] rfl #[.int .u8 (ty.toNat : Int), .int .u8 (co.toNat : Int), .int .u8 0, .int .u8 0] rfl 5 (by simp)).nextA _).next hbel)
      | (go_at_call 46; go_split_ands; (with_reducible refine (p32b W1 _ re _ (.cells #[.int .u8 (ty.toNat : Int), .int .u8 (co.toNat : Int), .int .u8 0, .int .u8 0] 5) rfl).mono ?_); rintro e w1 ⟨L1, A1, c1, rfl, HL1, h32, hbel⟩; have hq := bnext (bnextA (bnextA (Below.refl W1.heap.size W1) _) _) hbel; have h4 := (lit_at (W1.alloc (.cells #[.int .u32 (re.toNat : Int)] 25)) (W1.heap.size + 1) [ty, co, 0, 0] (by simp) #[.int .u8 (ty.toNat : Int), .int .u8 (co.toNat : Int), .int .u8 0, .int .u8 0] rfl 5 (by simp)).next hbel)
      | (go_at_call 33; go_split_ands; refine (join_any _ _ _ 3 [[ty, co, 0, 0], L1, xs] (parts_at _ rfl (.cons h4 (.cons h32 (.cons (hr1.next hq) .nil))) _ rfl _) rfl (by omega) (by omega) (by simp [HL1.out, be32]; omega)).mono ?_; rintro e w2 ⟨L2, A2, c2, rfl, HL2, hr2, hbel⟩; replace hq := bnext (bnextA hq _) hbel)
      | (go_at_call 33; go_split_ands; refine (join_any _ _ _ 3 [[ty, co, 0, 0], L1, xs] (parts_at _ (by simp) (.cons (lit_at w1 _ [ty, co, 0, 0] rfl #[.int .u8 (ty.toNat : Int), .int .u8 (co.toNat : Int), .int .u8 0, .int .u8 0] rfl 5 (by simp)) (.cons (h32.nextA _) (.cons ((hr1.next hq).nextA _) .nil))) _ rfl _) rfl (by omega) (by omega) (by simp [HL1.out, be32]; omega)).mono ?_; rintro e w2 ⟨L2, A2, c2, rfl, HL2, hr2, hbel⟩; replace hq := bnext (bnextA (bnextA hq _) _) hbel)
      | fail)
  all_goals
    have hL2 : L2 = [ty, co, 0, 0] ++ (be32 re ++ xs) := by rw [HL2.out, HL1.out]; simp
    have hlen : 8 ≤ L2.length ∧ L2.length ≤ 200000 := by rw [hL2]; simp [be32]; omega
    have HL := Lib.hid hL2
    clear hL2
    have hB2 := bnext hB1 hq
    clear hr1 hq
    go_wp2_with fail
    refine (sof_any _ _ _ 1 [L2] N (parts_lit (.cons hr2 .nil) _ rfl _) rfl (by omega) (by omega) (by simp; omega) (by simpa [HL.out] using HN.out)).mono ?_
    rintro e w3 ⟨rfl, hbel3⟩
    have hr3 := (hr2.nextA _).next hbel3
    have hB3 := bnext (bnextA hB2 _) hbel3
    go_wp2_with fail
    refine (set16_nat _ _ L2 2 (65535 - N) _ hr3 (by omega) (by omega) (by omega)).mono ?_
    rintro e w4 ⟨L4, A4, c4, rfl, HL4, hr4, hbel4⟩
    have hB4 := bnext hB3 hbel4
    clear hbel3 hbel4 hr2 hr3
    go_wp2_with fail
    go_ret
    exact ⟨L4, A4, c4, rfl, by rw [Hid, HL4.out, HL.out]; rfl, hr4, hB4⟩

end Go.Proofs.Ytpibempfhgaomaa
