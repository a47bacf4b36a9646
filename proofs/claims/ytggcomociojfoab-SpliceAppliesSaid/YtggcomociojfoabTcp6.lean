/- Contracts of tcp.Has, Space, Next, the reference's Bit, Space; what tcp.Put put is read by Parse. -/
import Derived.Test.YtggcomociojfoabTcp4
namespace Go.Proofs.Ytggcomociojfoab
open Go.RowKit

def hasB (f g : UInt8) : Bool := (f.toNat &&& g.toNat) == g.toNat
def sp (f : UInt8) : Nat := (if hasB f 2 then 1 else 0) + (if hasB f 1 then 1 else 0)
theorem hasB_int (f g : UInt8) : (bits BinOp.and IntKind.u8 (f.toNat : Int) (g.toNat : Int) == (g.toNat : Int)) = hasB f g := by
  have h1 := f.toNat_lt
  have h2 := g.toNat_lt
  rw [u8_and_nat _ _ (by omega) (by omega), hasB, Bool.eq_iff_iff]
  simp only [beq_iff_eq]
  exact Int.natCast_inj
theorem hasB_two : ∀ n, n < 256 → (((n &&& 2) == 2) = decide (n / 2 % 2 = 1)) := by decide +kernel
theorem hasB_one : ∀ n, n < 256 → (((n &&& 1) == 1) = decide (n / 1 % 2 = 1)) := by decide +kernel
theorem thas_any (a b : UInt16) (q k : UInt32) (r f : UInt8) (z u : UInt16) (A1 A2 : Option Addr) (n1 c1 n c2 : Nat) (g : UInt8) (w : World) :
    Calls Try.prog 49 #[.agg #[.int .u16 (a.toNat : Int), .int .u16 (b.toNat : Int), .int .u32 (q.toNat : Int), .int .u32 (k.toNat : Int), .int .u8 (r.toNat : Int), .int .u8 (f.toNat : Int), .int .u16 (z.toNat : Int), .int .u16 (u.toNat : Int), .slice A1 n1 c1, .slice A2 n c2], .int .u8 (g.toNat : Int)] w fun e w' => e = .returned (.bool (hasB f g)) ∧ Below w.heap.size w w' := by
  have hb := hasB_int f g
  generalize hasB f g = B at hb ⊢
  go_enter Try.func49, Try.ntmps49
  go_wp2_with fail
  go_ret
  exact ⟨by first | rfl | (rw [← hb]; rfl), bnextA (Below.refl _ _) _⟩

theorem tspace_any (a b : UInt16) (q k : UInt32) (r f : UInt8) (z u : UInt16) (A1 A2 : Option Addr) (n1 c1 n c2 : Nat) (hn : n ≤ 1000000) (w : World) :
    Calls Try.prog 17 #[.agg #[.int .u16 (a.toNat : Int), .int .u16 (b.toNat : Int), .int .u32 (q.toNat : Int), .int .u32 (k.toNat : Int), .int .u8 (r.toNat : Int), .int .u8 (f.toNat : Int), .int .u16 (z.toNat : Int), .int .u16 (u.toNat : Int), .slice A1 n1 c1, .slice A2 n c2]] w fun e w' => e = .returned (.int .u32 ((n + sp f : Nat) : Int)) ∧ Below w.heap.size w w' := by
  have HS := fun W => Lib.hid (thas_any a b q k r f z u A1 A2 n1 c1 n c2 2 W)
  have HF := fun W => Lib.hid (thas_any a b q k r f z u A1 A2 n1 c1 n c2 1 W)
  unfold sp
  cases h2 : hasB f 2 <;> cases h1 : hasB f 1
  all_goals
    rw [h2] at HS
    rw [h1] at HF
    clear h1 h2
    go_enter Try.func17, Try.ntmps17
    go_wp2_with fail
    refine (HS _).out.mono ?_
    rintro e w1 ⟨rfl, hbel⟩
    have hB := bnext (bnextA (Below.refl w.heap.size w) _) hbel
    obtain ⟨p0, p1, p2, p3, p4, p5, p6, p7, p8, p9, -⟩ := ((Blk.new w #[.int .u16 (a.toNat : Int), .int .u16 (b.toNat : Int), .int .u32 (q.toNat : Int), .int .u32 (k.toNat : Int), .int .u8 (r.toNat : Int), .int .u8 (f.toNat : Int), .int .u16 (z.toNat : Int), .int .u16 (u.toNat : Int), .slice A1 n1 c1, .slice A2 n c2] 40).next hbel).get10
    clear hbel
    go_wp2_with fail
    refine (HF _).out.mono ?_
    rintro e w2 ⟨rfl, hbel⟩
    replace hB := bnext hB hbel
    clear hbel
    go_wp2_with fail
    go_ret
    exact ⟨ret_int (by first | rfl | omega | (simp; done) | (simp; omega)), hB⟩

theorem tnext_any (a b : UInt16) (q k : UInt32) (r f : UInt8) (z u : UInt16) (A1 A2 : Option Addr) (n1 c1 n c2 : Nat) (hn : n ≤ 1000000) (w : World) :
    Calls Try.prog 16 #[.agg #[.int .u16 (a.toNat : Int), .int .u16 (b.toNat : Int), .int .u32 (q.toNat : Int), .int .u32 (k.toNat : Int), .int .u8 (r.toNat : Int), .int .u8 (f.toNat : Int), .int .u16 (z.toNat : Int), .int .u16 (u.toNat : Int), .slice A1 n1 c1, .slice A2 n c2]] w fun e w' => e = .returned (.int .u32 ((((q.toNat + (n + sp f)) % 4294967296 : Nat)) : Int)) ∧ Below w.heap.size w w' := by
  have hq := q.toNat_lt
  have hsp : sp f ≤ 2 := by unfold sp; split <;> split <;> omega
  have HS := fun W => Lib.hid (tspace_any a b q k r f z u A1 A2 n1 c1 n c2 hn W)
  have hK := Blk.new w #[.int .u16 (a.toNat : Int), .int .u16 (b.toNat : Int), .int .u32 (q.toNat : Int), .int .u32 (k.toNat : Int), .int .u8 (r.toNat : Int), .int .u8 (f.toNat : Int), .int .u16 (z.toNat : Int), .int .u16 (u.toNat : Int), .slice A1 n1 c1, .slice A2 n c2] 40
  have hB := bnextA (Below.refl w.heap.size w) (.cells #[.int .u16 (a.toNat : Int), .int .u16 (b.toNat : Int), .int .u32 (q.toNat : Int), .int .u32 (k.toNat : Int), .int .u8 (r.toNat : Int), .int .u8 (f.toNat : Int), .int .u16 (z.toNat : Int), .int .u16 (u.toNat : Int), .slice A1 n1 c1, .slice A2 n c2] 40)
  generalize n + sp f = X at HS ⊢
  have hw : IntKind.u32.wrap ((q.toNat : Int) + (X : Int)) = (((q.toNat + X) % 4294967296 : Nat) : Int) := by rw [IntKind.wrap_u32]; omega
  have HW := Lib.hid hw
  clear hw
  go_enter Try.func16, Try.ntmps16
  go_wp2_with fail
  generalize hV : w.alloc (.cells #[.int .u16 (a.toNat : Int), .int .u16 (b.toNat : Int), .int .u32 (q.toNat : Int), .int .u32 (k.toNat : Int), .int .u8 (r.toNat : Int), .int .u8 (f.toNat : Int), .int .u16 (z.toNat : Int), .int .u16 (u.toNat : Int), .slice A1 n1 c1, .slice A2 n c2] 40) = V at hK hB ⊢
  clear hV
  have HC : ∀ W, Below V.heap.size V W → (W.cell? ⟨w.heap.size, 0, none⟩ = some (.int .u16 (a.toNat : Int)) ∧ W.cell? ⟨w.heap.size, 1, none⟩ = some (.int .u16 (b.toNat : Int)) ∧ W.cell? ⟨w.heap.size, 2, none⟩ = some (.int .u32 (q.toNat : Int)) ∧ W.cell? ⟨w.heap.size, 3, none⟩ = some (.int .u32 (k.toNat : Int)) ∧ W.cell? ⟨w.heap.size, 4, none⟩ = some (.int .u8 (r.toNat : Int)) ∧ W.cell? ⟨w.heap.size, 5, none⟩ = some (.int .u8 (f.toNat : Int)) ∧ W.cell? ⟨w.heap.size, 6, none⟩ = some (.int .u16 (z.toNat : Int)) ∧ W.cell? ⟨w.heap.size, 7, none⟩ = some (.int .u16 (u.toNat : Int)) ∧ W.cell? ⟨w.heap.size, 8, none⟩ = some (.slice A1 n1 c1) ∧ W.cell? ⟨w.heap.size, 9, none⟩ = some (.slice A2 n c2) ∧ Below V.heap.size V W) := by
    intro W h
    obtain ⟨p0, p1, p2, p3, p4, p5, p6, p7, p8, p9, -⟩ := (hK.next h).get10
    exact ⟨p0, p1, p2, p3, p4, p5, p6, p7, p8, p9, h⟩
  go_region_held3 (fun W => W.cell? ⟨w.heap.size, 0, none⟩ = some (.int .u16 (a.toNat : Int)) ∧ W.cell? ⟨w.heap.size, 1, none⟩ = some (.int .u16 (b.toNat : Int)) ∧ W.cell? ⟨w.heap.size, 2, none⟩ = some (.int .u32 (q.toNat : Int)) ∧ W.cell? ⟨w.heap.size, 3, none⟩ = some (.int .u32 (k.toNat : Int)) ∧ W.cell? ⟨w.heap.size, 4, none⟩ = some (.int .u8 (r.toNat : Int)) ∧ W.cell? ⟨w.heap.size, 5, none⟩ = some (.int .u8 (f.toNat : Int)) ∧ W.cell? ⟨w.heap.size, 6, none⟩ = some (.int .u16 (z.toNat : Int)) ∧ W.cell? ⟨w.heap.size, 7, none⟩ = some (.int .u16 (u.toNat : Int)) ∧ W.cell? ⟨w.heap.size, 8, none⟩ = some (.slice A1 n1 c1) ∧ W.cell? ⟨w.heap.size, 9, none⟩ = some (.slice A2 n c2) ∧ Below V.heap.size V W)
    (first
      | exact HC _ hq1
      | exact HC _ (Below.refl _ _).drew
      | exact HC _ (Below.refl _ _))
    (first
      | (go_at_call 17; go_split_ands; (with_reducible refine (HS _).out.mono ?_); rintro e w1 ⟨rfl, hbel⟩; have hq1 : Below V.heap.size V w1 := Below.undrew hbel)
      | fail)
  go_wp2_with fail
  go_ret
  exact ⟨ret_int (by first | exact HW.out | rfl | (have := HW.out; simpa using this)), bnext hB hq1⟩

def bitB (f : UInt8) (k : Nat) : Bool := decide (f.toNat / k % 2 = 1)
theorem rbit_any (f : UInt8) (k : Nat) (K : Int) (hK : K = (k : Int)) (hk : 0 < k) (hk2 : k ≤ 128) (w : World) :
    Calls Try.prog 51 #[.int .u8 (f.toNat : Int), .int .i64 K] w fun e w' => e = .returned (.bool (bitB f k)) ∧ w = w' := by
  subst hK
  have hf := f.toNat_lt
  have hd : (f.toNat : Int).tdiv (k : Int) = ((f.toNat / k : Nat) : Int) := by rw [Int.tdiv_eq_ediv_of_nonneg (by omega)]; rfl
  have hle : f.toNat / k ≤ f.toNat := Nat.div_le_self _ _
  have hz : ((k : Int) == 0) = false := by simp; omega
  have hz2 : ¬ (k : Int) = 0 := by omega
  have hz3 : ¬ k = 0 := by omega
  have hb : ((((f.toNat / k : Nat) : Int) % 2) == 1) = bitB f k := by
    unfold bitB
    rw [Bool.eq_iff_iff]
    generalize f.toNat / k = y
    simp
    omega
  generalize bitB f k = B at hb ⊢
  generalize f.toNat / k = y at hd hle hb
  go_enter Try.func51, Try.ntmps51
  go_wp2_with fail
  go_ret
  exact ⟨by first | rfl | (rw [← hb]; rfl), rfl⟩
theorem bitB_two (f : UInt8) : bitB f 2 = hasB f 2 := (hasB_two f.toNat f.toNat_lt).symm
theorem bitB_one (f : UInt8) : bitB f 1 = hasB f 1 := (hasB_one f.toNat f.toNat_lt).symm

theorem be16_two (x : UInt16) : beN (be16 x) = x.toNat := by
  have := x.toNat_lt
  rw [be16, beN_two]
  simp
  omega
theorem be32_four (x : UInt32) : beN (be32 x) = x.toNat := by
  have := x.toNat_lt
  rw [be32, beN_four]
  simp
  omega
theorem tb_ones (s d : UInt32) (a b : UInt16) (q k : UInt32) (h f : UInt8) (z u : UInt16) (os xs : List UInt8) (N : Nat) (hN : onesN (uh s d 6 (20 + os.length + xs.length) ++ tb a b q k h f z u 0 os xs) = N) : onesN (uh s d 6 (20 + os.length + xs.length) ++ tb a b q k h f z u (65535 - N) os xs) = 65535 := by
  have hle : N ≤ 65535 := by rw [← hN]; exact onesN_le _
  have h1 := fills_right (uh s d 6 (20 + os.length + xs.length) ++ (be16 a ++ (be16 b ++ (be32 q ++ (be32 k ++ ([h, f] ++ be16 z)))))) (be16 u ++ (os ++ xs)) (65535 - N) (by simp [uh_len, be16, be32]) (by rw [← hN]; simp [tb, be16])
  rw [show (65535 - N) / 256 % 256 = (65535 - N) / 256 by omega] at h1
  refine Eq.trans (congrArg onesN ?_) h1
  rw [tb, be16_ofNat (65535 - N) (by omega)]
  simp
end Go.Proofs.Ytggcomociojfoab
