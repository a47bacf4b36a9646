/- Contracts of package icmp's makers and of the reference's. -/
import Derived.Test.YtpibempfhgaomaaIcmp1
namespace Go.Proofs.Ytpibempfhgaomaa
open Go.RowKit

theorem clone_any (A : Option Addr) (c : Nat) (xs : List UInt8) (w : World) (B : Nat) (hr : Rd bv w B A c xs) (hl : xs.length ≤ 1000000) :
    Calls Try.prog 35 #[.slice A xs.length c] w fun e w' => ∃ v, e = .returned v ∧ Own bv w' w.heap.size 5 v xs ∧ Below w.heap.size w w' := by
  cases A with
  | none =>
    obtain rfl : xs = [] := by
      rcases xs with _ | ⟨y, ys⟩
      · rfl
      · obtain ⟨_, _, h', _⟩ := hr.2.2.2 (by simp)
        cases h'
    exact (Try.bytes_Clone_nil 0 c w).mono fun e w' ⟨he, hw⟩ => by subst hw; exact ⟨_, he, Own.nil0 _ _ _ _, Below.refl _ _⟩
  | some a =>
    have hmap : (xs.map fun x => (x.toNat : Int)).map (Value.int .u8) = xs.map bv := by rw [List.map_map]; rfl
    have h := Try.bytes_Clone_at a xs.length c (xs.map fun x => (x.toNat : Int)) w (by simp) (by omega) (fun i hi => hr.news i _ (by simp [hi, bv, List.getD]))
    rw [hmap] at h
    exact h.mono fun e w' ⟨v, he, ho, _, hb⟩ => ⟨v, he, ho, hb⟩

theorem iabout_any (ty co : UInt8) (re : UInt32) (v : Value) (hv : ∃ A n c, v = .slice A n c) (w : World) :
    Calls Try.prog 26 #[.agg #[.int .u8 (ty.toNat : Int), .int .u8 (co.toNat : Int), .int .u32 (re.toNat : Int), v]] w fun e w' =>
      e = .returned (.bool (decide (ty.toNat = 3 ∨ ty.toNat = 11 ∨ ty.toNat = 12))) ∧ Below w.heap.size w w' := by
  obtain ⟨A, n, c, rfl⟩ := hv
  by_cases h3 : ty.toNat = 3
  · have k3 : ((ty.toNat : Int) == 3) = true := by rw [h3]; rfl
    rw [decide_eq_true (Or.inl h3)]
    clear h3
    go_enter Try.func26, Try.ntmps26
    go_wp2_with fail
    go_ret
    exact ⟨rfl, bnextA (Below.refl _ _) _⟩
  · have k3 : ((ty.toNat : Int) == 3) = false := by simp; omega
    by_cases h11 : ty.toNat = 11
    · have k11 : ((ty.toNat : Int) == 11) = true := by rw [h11]; rfl
      rw [decide_eq_true (Or.inr (Or.inl h11))]
      clear h3 h11
      go_enter Try.func26, Try.ntmps26
      go_wp2_with fail
      go_ret
      exact ⟨rfl, bnextA (Below.refl _ _) _⟩
    · have k11 : ((ty.toNat : Int) == 11) = false := by simp; omega
      have hd : (decide (ty.toNat = 3 ∨ ty.toNat = 11 ∨ ty.toNat = 12)) = ((ty.toNat : Int) == 12) := by
        rw [Bool.eq_iff_iff]; simp; omega
      rw [hd]
      clear h3 h11 hd
      go_enter Try.func26, Try.ntmps26
      go_wp2_with fail
      go_ret
      exact ⟨rfl, bnextA (Below.refl _ _) _⟩

theorem ifailed_any (ty co : UInt8) (re : UInt32) (A : Option Addr) (c : Nat) (xs : List UInt8) (w : World) (hr : Rd bv w w.heap.size A c xs) (hl : xs.length ≤ 1000000) :
    Calls Try.prog 22 #[.int .u8 (ty.toNat : Int), .int .u8 (co.toNat : Int), .int .u32 (re.toNat : Int), .slice A xs.length c] w fun e w' => ∃ L A1 c1, e = .returned (.agg #[.int .u8 (ty.toNat : Int), .int .u8 (co.toNat : Int), .int .u32 (re.toNat : Int), .slice A1 L.length c1]) ∧ Hid (L = xs.take 28) ∧ Rd bv w' w'.heap.size A1 c1 L ∧ Below w.heap.size w w' := by
  have hlc := hr.len
  have hcc := hr.cap
  go_enter Try.func22, Try.ntmps22
  go_wp2_with fail
  have hcut := cut_yes A c xs 0 (min xs.length 28) _ (hr.nextA (.cells #[.int .u8 0, .int .u8 0, .int .u32 0, .slice none 0 0] 44)) (by omega) hl
  rw [List.drop_zero, show xs.take (min xs.length 28) = xs.take 28 by rw [List.take_eq_take_iff]; omega, show ((min xs.length 28 : Nat) : Int) = min (xs.length : Int) 28 by omega] at hcut
  refine hcut.mono ?_
  clear hcut
  rintro e w1 ⟨v1, rfl, hown, hZ⟩
  obtain ⟨L1, A1, c1, HL1, rfl, -⟩ := hown.rdv
  obtain ⟨c0, c1', c2, c3, f0, f1, f2, f3⟩ := blk4 rfl hZ
  have hB := bnext (bnextA (Below.refl w.heap.size w) _) hZ
  have hO := Lib.hid hown
  clear hown hZ
  go_wp2_with fail
  simp [bodyPost, results, Try.results22, go_sem, *]
  rw [← HL1.out] at hO
  exact ⟨L1, A1, c1, ⟨rfl, rfl, rfl⟩, HL1, by simpa using (hO.out.set4 (g := w.heap.size) (by simp) _ _ _ _).rdS, bset4 hB (Nat.le_refl _) _ _ _ _⟩

theorem iask_any (id sq : UInt16) (A : Option Addr) (c : Nat) (xs : List UInt8) (w : World) (hr : Rd bv w w.heap.size A c xs) (hl : xs.length ≤ 1000000) :
    Calls Try.prog 13 #[.int .u16 (id.toNat : Int), .int .u16 (sq.toNat : Int), .slice A xs.length c] w fun e w' => ∃ L A1 c1, e = .returned (.agg #[.int .u8 8, .int .u8 0, .int .u32 ((id.toNat * 65536 + sq.toNat : Nat) : Int), .slice A1 L.length c1]) ∧ Hid (L = xs) ∧ Rd bv w' w'.heap.size A1 c1 L ∧ Below w.heap.size w w' := by
  have h1 := id.toNat_lt
  have h2 := sq.toNat_lt
  have hor : bits BinOp.or IntKind.u32 ((id.toNat : Int) % 4294967296 * 65536 % 4294967296) ((sq.toNat : Int) % 4294967296) = ((id.toNat * 65536 + sq.toNat : Nat) : Int) := by
    rw [show (id.toNat : Int) % 4294967296 * 65536 % 4294967296 = ((id.toNat * 65536 : Nat) : Int) by omega, show (sq.toNat : Int) % 4294967296 = (sq.toNat : Int) by omega, u32_or_nat _ _ (by omega) (by omega), nat_join 16 _ _ (by omega) (by omega)]
  have hor2 : bits BinOp.or IntKind.u32 ((id.toNat : Int) * 65536) (sq.toNat : Int) = ((id.toNat * 65536 + sq.toNat : Nat) : Int) := by
    rw [show (id.toNat : Int) * 65536 = ((id.toNat * 65536 : Nat) : Int) by omega, u32_or_nat _ _ (by omega) (by omega), nat_join 16 _ _ (by omega) (by omega)]
  obtain ⟨R, hR⟩ : ∃ R : Nat, id.toNat * 65536 + sq.toNat = R := ⟨_, rfl⟩
  rw [hR] at hor hor2 ⊢
  clear hR
  go_enter Try.func13, Try.ntmps13
  go_wp2_with fail
  refine (clone_any A c xs _ _ (hr.nextA _) hl).mono ?_
  rintro e w1 ⟨v1, rfl, hown, hZ⟩
  obtain ⟨L1, A1, c1, HL1, rfl, -⟩ := hown.rdv
  obtain ⟨c0, c1', c2, c3, f0, f1, f2, f3⟩ := blk4 rfl hZ
  have hB := bnext (bnextA (Below.refl w.heap.size w) _) hZ
  have hO := Lib.hid hown
  clear hown hZ
  go_wp2_with fail
  simp [bodyPost, results, Try.results13, go_sem, *]
  rw [← HL1.out] at hO
  exact ⟨L1, A1, c1, ⟨rfl, rfl, rfl⟩, HL1, by simpa using (hO.out.set4 (g := w.heap.size) (by simp) _ _ _ _).rdS, bset4 hB (Nat.le_refl _) _ _ _ _⟩

theorem ianswer_any (ty co : UInt8) (re : UInt32) (A : Option Addr) (c : Nat) (xs : List UInt8) (w : World) (hr : Rd bv w w.heap.size A c xs) (hl : xs.length ≤ 1000000) :
    Calls Try.prog 34 #[.agg #[.int .u8 (ty.toNat : Int), .int .u8 (co.toNat : Int), .int .u32 (re.toNat : Int), .slice A xs.length c]] w fun e w' => ∃ L A1 c1, e = .returned (.agg #[.int .u8 0, .int .u8 (co.toNat : Int), .int .u32 (re.toNat : Int), .slice A1 L.length c1]) ∧ Hid (L = xs) ∧ Rd bv w' w'.heap.size A1 c1 L ∧ Below w.heap.size w w' := by
  obtain ⟨W2, hW2⟩ : ∃ W2, W2 = (w.alloc (.cells #[.int .u8 (ty.toNat : Int), .int .u8 (co.toNat : Int), .int .u32 (re.toNat : Int), .slice A xs.length c] 44)).alloc (.cells #[.int .u8 0, .int .u8 0, .int .u32 0, .slice none 0 0] 44) := ⟨_, rfl⟩
  have hr2 : Rd bv W2 W2.heap.size A c xs := by subst hW2; exact (hr.nextA _).nextA _
  have hB2 : Below w.heap.size w W2 := by subst hW2; exact bnextA (bnextA (Below.refl _ _) _) _
  have hsz : W2.heap.size = w.heap.size + 1 + 1 := by subst hW2; simp
  have HS : ∀ W, Below W2.heap.size W2 W → (W.cell? ⟨w.heap.size, 1, none⟩ = some (.int .u8 (co.toNat : Int)) ∧ W.cell? ⟨w.heap.size, 2, none⟩ = some (.int .u32 (re.toNat : Int)) ∧ W.cell? ⟨w.heap.size, 3, none⟩ = some (.slice A xs.length c)) := by
    intro W h
    subst hW2
    have hY := bnext (bnextA (Below.refl (w.alloc (.cells #[.int .u8 (ty.toNat : Int), .int .u8 (co.toNat : Int), .int .u32 (re.toNat : Int), .slice A xs.length c] 44)).heap.size _) _) h
    have hq := blk4 rfl hY
    exact ⟨hq.2.1, hq.2.2.1, hq.2.2.2.1⟩
  have HR : ∀ W, Below W2.heap.size W2 W → Hid (W.cell? ⟨w.heap.size + 1, 0, none⟩ = some (.int .u8 0) ∧ W.cell? ⟨w.heap.size + 1, 1, none⟩ = some (.int .u8 0) ∧ W.cell? ⟨w.heap.size + 1, 2, none⟩ = some (.int .u32 0) ∧ W.cell? ⟨w.heap.size + 1, 3, none⟩ = some (.slice none 0 0) ∧
      W.frozen? ⟨w.heap.size + 1, 0, none⟩ = false ∧ W.frozen? ⟨w.heap.size + 1, 1, none⟩ = false ∧ W.frozen? ⟨w.heap.size + 1, 2, none⟩ = false ∧ W.frozen? ⟨w.heap.size + 1, 3, none⟩ = false) := by
    intro W h
    subst hW2
    exact blk4 (by simp) h
  have HSZ := Lib.hid hsz
  clear hsz hr
  go_enter Try.func34, Try.ntmps34
  go_wp2_with fail
  rw [← hW2]
  clear hW2
  go_region_held3 (fun W => W.cell? ⟨w.heap.size, 1, none⟩ = some (.int .u8 (co.toNat : Int)) ∧ W.cell? ⟨w.heap.size, 2, none⟩ = some (.int .u32 (re.toNat : Int)) ∧ W.cell? ⟨w.heap.size, 3, none⟩ = some (.slice A xs.length c))
    (first
      | exact HS _ hZ
      | ((try go_split_ands); simp [go_sem, *]; done)
      | exact HS _ (Below.refl _ _).drew)
    (first
      | (go_at_call 35; go_split_ands; go_loud (refine (clone_any A c xs _ _ hr2.drew hl).mono ?_); rintro e w1 ⟨v1, rfl, hown, hZ⟩; replace hZ : Below W2.heap.size W2 w1 := Below.undrew hZ; obtain ⟨L1, A1, c1, HL1, rfl, -⟩ := hown.rdv; have hO := Lib.hid hown; clear hown; obtain ⟨c0, c1', c2, c3, f0, f1, f2, f3⟩ := (HR _ hZ).out))
  go_wp2_with fail
  have hB := bnext hB2 hZ
  obtain ⟨c0, c1', c2, c3, f0, f1, f2, f3⟩ := (HR _ hZ).out
  simp [bodyPost, results, Try.results34, go_sem, *]
  rw [← HL1.out] at hO
  have hlt : w.heap.size + 1 < W2.heap.size := by have := HSZ.out; omega
  exact ⟨L1, A1, c1, ⟨rfl, rfl, rfl⟩, HL1, by simpa using (hO.out.set4 (g := w.heap.size + 1) (by simpa using hlt) _ _ _ _).rdS, bset4 hB (Nat.le_succ _) _ _ _ _⟩
end Go.Proofs.Ytpibempfhgaomaa
