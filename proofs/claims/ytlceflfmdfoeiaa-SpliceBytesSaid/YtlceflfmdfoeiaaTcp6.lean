/- Contracts of tcp.Has, Space, Next, the reference's Bit, Space; what tcp.Put put is read by Parse. -/
import Derived.Test.YtlceflfmdfoeiaaTcp4
namespace Go.Proofs.Ytlceflfmdfoeiaa
open Go.RowKit

def hasB (f g : UInt8) : Bool := (f.toNat &&& g.toNat) == g.toNat
def sp (f : UInt8) : Nat := (if hasB f 2 then 1 else 0) + (if hasB f 1 then 1 else 0)
theorem hasB_int (f g : UInt8) : (bits BinOp.and IntKind.u8 (f.toNat : Int) (g.toNat : Int) == (g.toNat : Int)) = hasB f g := by
  have h1 := f.toNat_lt
  have h2 := g.toNat_lt
  rw [u8_and_nat _ _ (by omega) (by omega), hasB, Bool.eq_iff_iff]
  simp only [beq_iff_eq]
  exact Int.natCast_inj
theorem hasB_two : ∀ n, n < 256 → (((n &&& 2) == 2) = decide (n / 2 % 2 = 1)) := by decide +kernel
theorem hasB_one : ∀ n, n < 256 → (((n &&& 1) == 1) = decide (n / 1 % 2 = 1)) := by decide +kernel
theorem thas_any (a b : UInt16) (q k : UInt32) (r f : UInt8) (z u : UInt16) (A1 A2 : Option Addr) (n1 c1 n c2 : Nat) (g : UInt8) (w : World) :
    Calls Try.prog 33 #[.agg #[.int .u16 (a.toNat : Int), .int .u16 (b.toNat : Int), .int .u32 (q.toNat : Int), .int .u32 (k.toNat : Int), .int .u8 (r.toNat : Int), .int .u8 (f.toNat : Int), .int .u16 (z.toNat : Int), .int .u16 (u.toNat : Int), .slice A1 n1 c1, .slice A2 n c2], .int .u8 (g.toNat : Int)] w fun e w' => e = .returned (.bool (hasB f g)) ∧ Below w.heap.size w w' := by
  have hb := hasB_int f g
  generalize hasB f g = B at hb ⊢
  go_enter Try.func33, Try.ntmps33
  go_wp2_with fail
  go_ret
  exact ⟨by first | rfl | (rw [← hb]; rfl), bnextA (Below.refl _ _) _⟩

def bitB (f : UInt8) (k : Nat) : Bool := decide (f.toNat / k % 2 = 1)
theorem rbit_any (f : UInt8) (k : Nat) (K : Int) (hK : K = (k : Int)) (hk : 0 < k) (hk2 : k ≤ 128) (w : World) :
    Calls Try.prog 28 #[.int .u8 (f.toNat : Int), .int .i64 K] w fun e w' => e = .returned (.bool (bitB f k)) ∧ w = w' := by
  subst hK
  have hf := f.toNat_lt
  have hd : (f.toNat : Int).tdiv (k : Int) = ((f.toNat / k : Nat) : Int) := by rw [Int.tdiv_eq_ediv_of_nonneg (by omega)]; rfl
  have hle : f.toNat / k ≤ f.toNat := Nat.div_le_self _ _
  have hz : ((k : Int) == 0) = false := by simp; omega
  have hz2 : ¬ (k : Int) = 0 := by omega
  have hz3 : ¬ k = 0 := by omega
  have hb : ((((f.toNat / k : Nat) : Int) % 2) == 1) = bitB f k := by
    unfold bitB
    rw [Bool.eq_iff_iff]
    generalize f.toNat / k = y
    simp
    omega
  generalize bitB f k = B at hb ⊢
  generalize f.toNat / k = y at hd hle hb
  go_enter Try.func28, Try.ntmps28
  go_wp2_with fail
  go_ret
  exact ⟨by first | rfl | (rw [← hb]; rfl), rfl⟩
theorem bitB_two (f : UInt8) : bitB f 2 = hasB f 2 := (hasB_two f.toNat f.toNat_lt).symm
theorem bitB_one (f : UInt8) : bitB f 1 = hasB f 1 := (hasB_one f.toNat f.toNat_lt).symm

theorem be16_two (x : UInt16) : beN (be16 x) = x.toNat := by
  have := x.toNat_lt
  rw [be16, beN_two]
  simp
  omega
theorem be32_four (x : UInt32) : beN (be32 x) = x.toNat := by
  have := x.toNat_lt
  rw [be32, beN_four]
  simp
  omega
theorem tb_ones (s d : UInt32) (a b : UInt16) (q k : UInt32) (h f : UInt8) (z u : UInt16) (os xs : List UInt8) (N : Nat) (hN : onesN (uh s d 6 (20 + os.length + xs.length) ++ tb a b q k h f z u 0 os xs) = N) : onesN (uh s d 6 (20 + os.length + xs.length) ++ tb a b q k h f z u (65535 - N) os xs) = 65535 := by
  have hle : N ≤ 65535 := by rw [← hN]; exact onesN_le _
  have h1 := fills_right (uh s d 6 (20 + os.length + xs.length) ++ (be16 a ++ (be16 b ++ (be32 q ++ (be32 k ++ ([h, f] ++ be16 z)))))) (be16 u ++ (os ++ xs)) (65535 - N) (by simp [uh_len, be16, be32]) (by rw [← hN]; simp [tb, be16])
  rw [show (65535 - N) / 256 % 256 = (65535 - N) / 256 by omega] at h1
  refine Eq.trans (congrArg onesN ?_) h1
  rw [tb, be16_ofNat (65535 - N) (by omega)]
  simp
theorem tparse_put (s d : UInt32) (a b : UInt16) (q k : UInt32) (r f : UInt8) (z u : UInt16) (os xs P : List UInt8) (h : UInt8) (N : Nat) (hr : r.toNat ≤ 15) (hh : h.toNat = (5 + os.length / 4) * 16 + r.toNat) (ho4 : os.length % 4 = 0) (ho : os.length ≤ 40) (hl : 20 + os.length + xs.length ≤ 65535)
    (hN : onesN (uh s d 6 (20 + os.length + xs.length) ++ tb a b q k h f z u 0 os xs) = N) (hP : P = tb a b q k h f z u (65535 - N) os xs) (A : Option Addr) (c : Nat) (w : World) (hrd : Rd bv w w.heap.size A c P) :
    Calls Try.prog 20 #[.int .u32 (s.toNat : Int), .int .u32 (d.toNat : Int), .slice A P.length c] w fun e w' => ∃ Lo Ao co Lx Ax cx, e = .returned (.tuple #[.agg #[.int .u16 (a.toNat : Int), .int .u16 (b.toNat : Int), .int .u32 (q.toNat : Int), .int .u32 (k.toNat : Int), .int .u8 (r.toNat : Int), .int .u8 (f.toNat : Int), .int .u16 (z.toNat : Int), .int .u16 (u.toNat : Int), .slice Ao Lo.length co, .slice Ax Lx.length cx], .int .i64 0]) ∧ Hid (Lo = os) ∧ Hid (Lx = xs) ∧ Rd bv w' w'.heap.size Ao co Lo ∧ Rd bv w' w'.heap.size Ax cx Lx ∧ Below w.heap.size w w' := by
  have hlen : P.length = 20 + os.length + xs.length := by rw [hP, tb_len]
  have e12 : P[12] = h := (List.getElem_of_eq hP _).trans rfl
  have e13 : P[13] = f := (List.getElem_of_eq hP _).trans rfl
  have hm : (P[12]).toNat / 16 = 5 + os.length / 4 := by rw [e12, hh]; omega
  have hr4 : (P[12]).toNat % 16 = r.toNat := by rw [e12, hh]; omega
  have h1 : onesN (uh s d 6 P.length ++ P) = 65535 := by
    rw [hlen, hP]; exact tb_ones s d a b q k h f z u os xs N hN
  have g0 : beN ((P.drop 0).take 2) = a.toNat := by rw [hP]; exact be16_two a
  have g2 : beN ((P.drop 2).take 2) = b.toNat := by rw [hP]; exact be16_two b
  have g4 : beN ((P.drop 4).take 4) = q.toNat := by rw [hP]; exact be32_four q
  have g8 : beN ((P.drop 8).take 4) = k.toNat := by rw [hP]; exact be32_four k
  have g14 : beN ((P.drop 14).take 2) = z.toNat := by rw [hP]; exact be16_two z
  have g18 : beN ((P.drop 18).take 2) = u.toNat := by rw [hP]; exact be16_two u
  have hc := tparse_ok s d A c P w hrd (by omega) (5 + os.length / 4) hm (by omega) (by omega) (by omega) h1 a b q k r f z u g0 g2 g4 g8 hr4 e13 g14 g18
  have h20 : (P.drop 20).take (4 * (5 + os.length / 4) - 20) = os := by
    rw [show 4 * (5 + os.length / 4) - 20 = os.length by omega, hP]
    exact List.take_left' rfl
  have h20' : P.drop 20 = os ++ xs := by rw [hP]; rfl
  have hdx : P.drop (4 * (5 + os.length / 4)) = xs := by
    rw [show 4 * (5 + os.length / 4) = 20 + os.length by omega, ← List.drop_drop, h20', List.drop_left' rfl]
  rw [h20, hdx] at hc
  exact hc
end Go.Proofs.Ytlceflfmdfoeiaa
