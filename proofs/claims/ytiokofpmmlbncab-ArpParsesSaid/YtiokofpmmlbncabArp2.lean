/- Contracts of arp.Parse, and what it leans on. -/
import Derived.Test.YtiokofpmmlbncabArp1
import Derived.Test.YtiokofpmmlbncabEth5
import Derived.Test.YtiokofpmmlbncabIp3
import Derived.Laws.CopyOwn
namespace Go.Proofs.Ytiokofpmmlbncab
open Go.RowKit

theorem eqmac2 (x0 x1 x2 x3 x4 x5 y0 y1 y2 y3 y4 y5 : Int) (w : World) :
    (Op.equalIn 9999 45 (.agg #[.int .u8 x0, .int .u8 x1, .int .u8 x2, .int .u8 x3, .int .u8 x4, .int .u8 x5]) (.agg #[.int .u8 y0, .int .u8 y1, .int .u8 y2, .int .u8 y3, .int .u8 y4, .int .u8 y5])).run Try.prog w = .ok (x0 == y0 && (x1 == y1 && (x2 == y2 && (x3 == y3 && (x4 == y4 && x5 == y5))))) w :=
  run_equalIn_mac Try.prog w 9997 45 5 (by kernel_rfl) (by kernel_rfl) u8sz x0 x1 x2 x3 x4 x5 y0 y1 y2 y3 y4 y5
@[go_sem] theorem eqarp (x0 x1 x2 x3 x4 x5 x6 x7 x8 x9 x10 x11 x12 x13 x14 : Int) (w : World) :
    (Op.equalIn 10000 47 (.agg #[.int .u16 x0, .int .u8 x1, .int .u8 x2, .int .u8 x3, .int .u8 x4, .int .u8 x5, .int .u8 x6, .int .u32 x7, .int .u8 x8, .int .u8 x9, .int .u8 x10, .int .u8 x11, .int .u8 x12, .int .u8 x13, .int .u32 x14]) (.agg #[.int .u16 x0, .int .u8 x1, .int .u8 x2, .int .u8 x3, .int .u8 x4, .int .u8 x5, .int .u8 x6, .int .u32 x7, .int .u8 x8, .int .u8 x9, .int .u8 x10, .int .u8 x11, .int .u8 x12, .int .u8 x13, .int .u32 x14])).run Try.prog w = .ok true w := by
  have hS : Try.prog.underlying 47 = some (.struct (Try.prog.fieldsOf 47)) := by kernel_rfl
  have hp : Try.prog.stoodInHeld 47 = false := by kernel_rfl
  have em := eqmac2
  rw [show (10000 : Nat) = 9999 + 1 from rfl, run_equalIn_agg w 9999 47 _ _ hS hp]
  simp only [Program.fieldsOf, Try.underlying47]
  go_simp
/-- Is an address that of one? -/
def uniB (m0 m1 m2 m3 m4 m5 : UInt8) : Bool := decide (m0.toNat % 2 = 0) && !((m0.toNat : Int) == 0 && ((m1.toNat : Int) == 0 && ((m2.toNat : Int) == 0 && ((m3.toNat : Int) == 0 && ((m4.toNat : Int) == 0 && (m5.toNat : Int) == 0)))))
theorem and_one (x : UInt8) : bits BinOp.and IntKind.u8 (x.toNat : Int) 1 = ((x.toNat % 2 : Nat) : Int) := by
  rw [show (1 : Int) = ((1 : Nat) : Int) from rfl, u8_and_nat _ _ (by have := x.toNat_lt; omega) (by omega), show (1 : Nat) = 2 ^ 1 - 1 from rfl, Nat.and_two_pow_sub_one_eq_mod]
theorem agroup_any (m0 m1 m2 m3 m4 m5 : UInt8) (w : World) : Calls Try.prog 72 #[.agg #[.int .u8 (m0.toNat : Int), .int .u8 (m1.toNat : Int), .int .u8 (m2.toNat : Int), .int .u8 (m3.toNat : Int), .int .u8 (m4.toNat : Int), .int .u8 (m5.toNat : Int)]] w fun e w' => e = .returned (.bool (!decide (m0.toNat % 2 = 0))) ∧ Below w.heap.size w w' := by
  have ha := and_one m0
  by_cases h : m0.toNat % 2 = 0
  · have h2 : ((m0.toNat % 2 : Nat) : Int) = 0 := by omega
    rw [h2] at ha
    have hd : (!decide (m0.toNat % 2 = 0)) = false := by simp [h]
    rw [hd]
    go_enter Try.func72, Try.ntmps72
    go_wp2_with fail
    go_ret
    exact ⟨rfl, bnextA (Below.refl _ _) _⟩
  · have h2 : ((m0.toNat % 2 : Nat) : Int) = 1 := by omega
    rw [h2] at ha
    have hd : (!decide (m0.toNat % 2 = 0)) = true := by simp [h]
    rw [hd]
    go_enter Try.func72, Try.ntmps72
    go_wp2_with fail
    go_ret
    exact ⟨rfl, bnextA (Below.refl _ _) _⟩
theorem auni_any (m0 m1 m2 m3 m4 m5 : UInt8) (w : World) : Calls Try.prog 29 #[.agg #[.int .u8 (m0.toNat : Int), .int .u8 (m1.toNat : Int), .int .u8 (m2.toNat : Int), .int .u8 (m3.toNat : Int), .int .u8 (m4.toNat : Int), .int .u8 (m5.toNat : Int)]] w fun e w' => e = .returned (.bool (uniB m0 m1 m2 m3 m4 m5)) ∧ Below w.heap.size w w' := by
  have HG := fun W => Lib.hid (agroup_any m0 m1 m2 m3 m4 m5 W)
  obtain ⟨Zb, hZb⟩ : ∃ Zb, ((m0.toNat : Int) == 0 && ((m1.toNat : Int) == 0 && ((m2.toNat : Int) == 0 && ((m3.toNat : Int) == 0 && ((m4.toNat : Int) == 0 && (m5.toNat : Int) == 0))))) = Zb := ⟨_, rfl⟩
  obtain ⟨E, hE⟩ : ∃ E, decide (m0.toNat % 2 = 0) = E := ⟨_, rfl⟩
  have hU : uniB m0 m1 m2 m3 m4 m5 = (E && !Zb) := by rw [uniB, hZb, hE]
  rw [hE] at HG
  rw [hU]
  have HZ : ∀ W, (Op.equalIn 10000 45 (.agg #[.int .u8 (m0.toNat : Int), .int .u8 (m1.toNat : Int), .int .u8 (m2.toNat : Int), .int .u8 (m3.toNat : Int), .int .u8 (m4.toNat : Int), .int .u8 (m5.toNat : Int)]) (.agg #[.int .u8 0, .int .u8 0, .int .u8 0, .int .u8 0, .int .u8 0, .int .u8 0])).run Try.prog W = .ok Zb W := fun W => by rw [eqmac, hZb]
  clear hZb hE hU
  cases E
  · go_enter Try.func29, Try.ntmps29
    go_wp2_with fail
    refine (HG _).out.mono ?_
    rintro e w1 ⟨rfl, hb⟩
    go_wp2_with fail
    go_ret
    exact ⟨rfl, bnext (bnextA (Below.refl _ _) _) hb⟩
  · go_enter Try.func29, Try.ntmps29
    go_wp2_with fail
    refine (HG _).out.mono ?_
    rintro e w1 ⟨rfl, hb⟩
    obtain ⟨p0, p1, p2, p3, p4, p5, -⟩ := ((Blk.new w #[.int .u8 (m0.toNat : Int), .int .u8 (m1.toNat : Int), .int .u8 (m2.toNat : Int), .int .u8 (m3.toNat : Int), .int .u8 (m4.toNat : Int), .int .u8 (m5.toNat : Int)] 45).next hb).get6
    go_wp2_with fail
    go_ret
    exact ⟨rfl, bnext (bnextA (Below.refl _ _) _) hb⟩
theorem same_eq2 (A1 A2 : Option Addr) (c1 c2 : Nat) (xs bs : List UInt8) (w : World) (B : Nat) (h1 : Rd bv w B A1 c1 xs) (h2 : Rd bv w B A2 c2 bs) (he : xs = bs) :
    Calls Try.prog 65 #[.slice A1 xs.length c1, .slice A2 bs.length c2] w fun e w' => e = .returned (.bool true) ∧ w = w' := by
  subst he
  exact same_yes _ _ _ _ _ w B h1 h2
/-- A copy of n bytes into a block of the call's own. -/
theorem copyB {W : World} {g b off o sLen sCap n : Nat} {cs : List Value} {e : TypeId} (K : Blk W g cs e) (src : List Value) (hn : src.length = n) (hs : n ≤ sLen) (ho : o + n ≤ cs.length) (hsrc : ∀ j v, src[j]? = some v → W.cell? ((⟨b, off, none⟩ : Addr).add j) = some v) (h1 : ∀ v ∈ src, v.oneCell' = true) (cs1 : List Value) (hcs : cs.take o ++ src ++ cs.drop (o + n) = cs1) :
    (Builtin.copy_ #[22, 22] 3 #[.slice (some ⟨g, o, none⟩) n n, .slice (some ⟨b, off, none⟩) sLen sCap]).run Try.prog W = .ok (goInt n) (W.setRow g cs1.toArray) ∧ Blk (W.setRow g cs1.toArray) g cs1 e := by
  obtain ⟨i0, hi0, hz0, hz1, hz2⟩ := info_parts info_u8
  subst hn hcs
  have hmin : src.length = Nat.min sLen src.length := (Nat.min_eq_right hs).symm
  have hrow := run_copy_row (P := Try.prog) W 22 22 3 5 g o src.length src.length ⟨b, off, none⟩ sLen sCap cs.toArray e src Try.underlying22 (by rw [hi0]; exact congrArg some hz1) K hmin hsrc (by simpa using ho) h1
  exact ⟨hrow, setRow_heap W g cs.toArray _ e (0, 0) K⟩
theorem Blk.rowO {w : World} {g g' : Nat} {cs : List Value} {e : TypeId} (h : Blk w g cs e) (hne : g ≠ g') (cs' : Array Value) : Blk (w.setRow g' cs') g cs e := by
  unfold Blk
  rw [setRow_other w g' g cs' hne]
  exact h
theorem six_src {w : World} {B : Nat} {b off c : Nat} {xs : List UInt8} (hr : Rd bv w B (some ⟨b, off, none⟩) c xs) (x0 x1 x2 x3 x4 x5 : UInt8) (hx : xs.take 6 = [x0, x1, x2, x3, x4, x5]) : ∀ j v, ([.int .u8 (x0.toNat : Int), .int .u8 (x1.toNat : Int), .int .u8 (x2.toNat : Int), .int .u8 (x3.toNat : Int), .int .u8 (x4.toNat : Int), .int .u8 (x5.toNat : Int)] : List Value)[j]? = some v → w.cell? ((⟨b, off, none⟩ : Addr).add j) = some v := by
  have hl : 6 ≤ xs.length := by have := congrArg List.length hx; simp at this; omega
  have hN := hr.news
  intro j v h
  have hj : j < 6 := by
    rcases Nat.lt_or_ge j 6 with h' | h'
    · exact h'
    · rw [List.getElem?_eq_none (by simpa using h')] at h; cases h
  refine hN j v ?_
  rw [← h]
  have : (xs.map bv)[j]? = ((xs.take 6).map bv)[j]? := by simp [hj]
  rw [this, hx]
  rfl

theorem aparse_short (A : Option Addr) (c : Nat) (xs : List UInt8) (w : World) (hr : Rd bv w w.heap.size A c xs) (h8 : xs.length < 28) :
    Calls Try.prog 23 #[.slice A xs.length c] w fun e w' => e = .returned (.tuple #[.agg #[.int .u16 0, .int .u8 0, .int .u8 0, .int .u8 0, .int .u8 0, .int .u8 0, .int .u8 0, .int .u32 0, .int .u8 0, .int .u8 0, .int .u8 0, .int .u8 0, .int .u8 0, .int .u8 0, .int .u32 0], .int .i64 4]) ∧ Below w.heap.size w w' := by
  have hlc := hr.len
  have hcc := hr.cap
  obtain ⟨p0, p1, p2, p3, p4, p5, p6, p7, p8, p9, p10, p11, p12, p13, p14, f0, f1, f2, f3, f4, f5, f6, f7, f8, f9, f10, f11, f12, f13, f14⟩ := (Blk.new w #[.int .u16 0, .int .u8 0, .int .u8 0, .int .u8 0, .int .u8 0, .int .u8 0, .int .u8 0, .int .u32 0, .int .u8 0, .int .u8 0, .int .u8 0, .int .u8 0, .int .u8 0, .int .u8 0, .int .u32 0] 47).get15
  go_enter Try.func23, Try.ntmps23
  go_wp2_with fail
  simp [bodyPost, results, Try.results23, go_sem, *]
  exact bnextA (Below.refl _ _) _

end Go.Proofs.Ytiokofpmmlbncab
