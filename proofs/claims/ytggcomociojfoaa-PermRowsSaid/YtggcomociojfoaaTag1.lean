/- Contracts of package tag's numbers, sums and tests, and of the reference's. -/
import Derived.Test.YtggcomociojfoaaSip7
import Derived.Test.YtggcomociojfoaaOct6
import Derived.Test.YtggcomociojfoaaRef1
namespace Go.Proofs.Ytggcomociojfoaa
open Go.RowKit

/-- Eight bytes of a number. -/
def b64 (n : Nat) : List UInt8 := putN 4 (n / 4294967296) ++ putN 4 (n % 4294967296)
theorem b64_len (n : Nat) : (b64 n).length = 8 := by simp [b64, putN_len]
/-- Bytes with their sum. -/
def sgn (lo hi : Nat) (xs : List UInt8) : List UInt8 := xs ++ b64 (sipN lo hi xs)
theorem sgn_len (lo hi : Nat) (xs : List UInt8) : (sgn lo hi xs).length = xs.length + 8 := by simp [sgn, b64_len]
/-- The number of the first eight bytes. -/
def n64 (xs : List UInt8) : Nat := beN (xs.take 4) * 4294967296 + beN ((xs.drop 4).take 4)

theorem put64_any (n : Nat) (hn : n < 18446744073709551616) (w : World) : Calls Try.prog 44 #[.int .u64 n] w fun e w' => ∃ L A c, e = .returned (.slice A L.length c) ∧ Hid (L = b64 n) ∧ Rd bv w' w'.heap.size A c L ∧ Below w.heap.size w w' := by
  obtain ⟨h, hh⟩ : ∃ h : UInt32, h.toNat = n / 4294967296 := ⟨UInt32.ofNat (n / 4294967296), by simp; omega⟩
  obtain ⟨l, hl⟩ : ∃ l : UInt32, l.toNat = n % 4294967296 := ⟨UInt32.ofNat (n % 4294967296), by simp⟩
  have e1 : IntKind.u32.wrap (n : Int) = (l.toNat : Int) := by rw [IntKind.wrap_u32]; omega
  have e2 : IntKind.u32.wrap ((n : Int) / 4294967296) = (h.toNat : Int) := by rw [IntKind.wrap_u32]; omega
  have e3 : IntKind.u32.wrap ((n : Int) >>> 32) = (h.toNat : Int) := by rw [IntKind.wrap_u32, Int.shiftRight_eq_div_pow]; simp; omega
  have HP := Lib.hid (put32_nil (some ⟨w.heap.size, 0, none⟩) 2 [h, l] (w.alloc (.cells #[.int .u32 (h.toNat : Int), .int .u32 (l.toNat : Int)] 22)) (lit32_at w w.heap.size [h, l] rfl #[.int .u32 (h.toNat : Int), .int .u32 (l.toNat : Int)] rfl 22 (by simp)) (by simp))
  have HB : Hid (puts32 [h, l] = b64 n) := by simp [Hid, puts32, b64, be32_put, hh, hl]
  clear hh hl
  go_enter Try.func44, Try.ntmps44
  go_wp2_with fail
  refine HP.out.mono ?_
  rintro e w1 ⟨L, A, c, rfl, HL, r, hb⟩
  have hB := bnext (bnextA (Below.refl w.heap.size w) _) hb
  go_wp2_with fail
  go_ret
  exact ⟨L, A, c, rfl, by rw [Hid, HL.out, HB.out], r, hB⟩

theorem rlong_any (n : Nat) (hn : n < 18446744073709551616) (w : World) : Calls Try.prog 46 #[.int .u64 n] w fun e w' => ∃ L A c, e = .returned (.slice A L.length c) ∧ Hid (L = b64 n) ∧ Rd bv w' w'.heap.size A c L ∧ Below w.heap.size w w' := by
  obtain ⟨h, hh⟩ : ∃ h : Nat, n / 4294967296 = h := ⟨_, rfl⟩
  obtain ⟨l, hl⟩ : ∃ l : Nat, n % 4294967296 = l := ⟨_, rfl⟩
  have e1 : (n : Int).tdiv 4294967296 = (h : Int) := by rw [Int.tdiv_eq_ediv_of_nonneg (by omega)]; omega
  have e2 : (n : Int).tmod 4294967296 = (l : Int) := by rw [Int.tmod_eq_emod_of_nonneg (by omega)]; omega
  have e3 : IntKind.u32.wrap (h : Int) = (h : Int) := by rw [IntKind.wrap_u32]; omega
  have e4 : IntKind.u32.wrap (l : Int) = (l : Int) := by rw [IntKind.wrap_u32]; omega
  have hh2 : h < 4294967296 := by omega
  have hl2 : l < 4294967296 := by omega
  have RP : ∀ (m : Nat) W, m < 4294967296 → Hid (Calls Try.prog 40 #[.int .u32 m, .int .i64 4] W fun e w' => ∃ L A c, e = .returned (.slice A L.length c) ∧ Hid (L = putN 4 m) ∧ Rd bv w' w'.heap.size A c L ∧ Below W.heap.size W w') := by
    intro m W h1
    refine (rput_any m 4 W h1 (by omega)).mono ?_
    rintro e w' ⟨v, rfl, hown, hb⟩
    obtain ⟨L, A, c, HL, rfl, hr⟩ := hown.rdv
    exact ⟨L, A, c, rfl, HL, hr, hb⟩
  have HB : Hid (putN 4 h ++ putN 4 l = b64 n) := by rw [Hid, b64, hh, hl]
  clear hh hl
  go_enter Try.func46, Try.ntmps46
  go_wp2_with fail
  refine (RP h _ hh2).out.mono ?_
  rintro e w1 ⟨L1, A1, c1, rfl, HL1, r1, hb1⟩
  go_wp2_with fail
  refine (RP l _ hl2).out.mono ?_
  rintro e w2 ⟨L2, A2, c2, rfl, HL2, r2, hb2⟩
  go_wp2_with fail
  refine (radd_any A1 A2 c1 c2 L1 L2 _ (r1.next hb2) r2 (by rw [HL1.out, HL2.out]; simp [putN_len])).mono ?_
  rintro e w3 ⟨v, rfl, hown, hb3⟩
  obtain ⟨L, A, c, HL, rfl, hr⟩ := hown.rdv
  go_wp2_with fail
  go_ret
  exact ⟨L, A, c, rfl, by rw [Hid, HL.out, HL1.out, HL2.out, HB.out], hr, bnext (bnext hb1 hb2) hb3⟩

section
variable (lo hi : Nat) (h1 : lo < 18446744073709551616) (h2 : hi < 18446744073709551616)
include h1 h2
theorem signed_any (A : Option Addr) (c : Nat) (xs : List UInt8) (w : World) (hr : Rd bv w w.heap.size A c xs) (hl : xs.length ≤ 1000) :
    Calls Try.prog 45 #[.agg #[.int .u64 (lo : Int), .int .u64 (hi : Int)], .slice A xs.length c] w fun e w' => ∃ L A c, e = .returned (.slice A L.length c) ∧ Hid (L = sgn lo hi xs) ∧ Rd bv w' w'.heap.size A c L ∧ Below w.heap.size w w' := by
  obtain ⟨V, hV⟩ : ∃ V, V = w.alloc (.cells #[.int .u64 (lo : Int), .int .u64 (hi : Int)] 35) := ⟨_, rfl⟩
  have hB : Below w.heap.size w V := by subst hV; exact bnextA (Below.refl _ _) _
  have rV := hr.next hB
  have HS := Lib.hid (sum_sip lo hi h1 h2 A c xs V rV (by omega))
  obtain ⟨S, hS⟩ : ∃ S, sipN lo hi xs = S := ⟨_, rfl⟩
  have hS2 : S < 18446744073709551616 := by rw [← hS]; exact sipN_lt lo hi xs h1 h2
  rw [hS] at HS
  have HG : Hid (sgn lo hi xs = xs ++ b64 S) := by rw [Hid, sgn, hS]
  clear hS hr
  go_enter Try.func45, Try.ntmps45
  go_wp2_with fail
  rw [← hV]
  clear hV
  refine HS.out.mono ?_
  rintro e w1 ⟨rfl, hb1⟩
  clear HS
  go_wp2_with fail
  refine (put64_any S hS2 _).mono ?_
  rintro e w2 ⟨L2, A2, c2, rfl, HL2, r2, hb2⟩
  have hl2 : Hid (L2.length = 8) := by rw [Hid, HL2.out, b64_len]
  go_wp2_with fail
  refine (join_any _ w2.heap.size w2.heap.size 2 [xs, L2] (parts_at _ rfl (.cons ((rV.next hb1).next hb2) (.cons r2 .nil)) #[.slice A xs.length c, .slice A2 L2.length c2] rfl _) rfl (by omega) (by omega) (by have := hl2.out; simp; omega)).mono ?_
  rintro e w3 ⟨L3, A3, c3, rfl, HL3, r3, hb3⟩
  go_wp2_with fail
  go_ret
  exact ⟨L3, A3, c3, rfl, by rw [Hid, HL3.out, HG.out, ← HL2.out]; simp, r3, bnext (bnextA (bnext (bnext hB hb1) hb2) _) hb3⟩
theorem rsigned_any (A : Option Addr) (c : Nat) (xs : List UInt8) (w : World) (hr : Rd bv w w.heap.size A c xs) (hl : xs.length ≤ 1000) :
    Calls Try.prog 47 #[.agg #[.int .u64 (lo : Int), .int .u64 (hi : Int)], .slice A xs.length c] w fun e w' => ∃ L A c, e = .returned (.slice A L.length c) ∧ Hid (L = sgn lo hi xs) ∧ Rd bv w' w'.heap.size A c L ∧ Below w.heap.size w w' := by
  obtain ⟨V, hV⟩ : ∃ V, V = w.alloc (.cells #[.int .u64 (lo : Int), .int .u64 (hi : Int)] 35) := ⟨_, rfl⟩
  have hB : Below w.heap.size w V := by subst hV; exact bnextA (Below.refl _ _) _
  have rV := hr.next hB
  have HS := Lib.hid (rsum_sip lo hi h1 h2 A c xs V rV (by omega))
  obtain ⟨S, hS⟩ : ∃ S, sipN lo hi xs = S := ⟨_, rfl⟩
  have hS2 : S < 18446744073709551616 := by rw [← hS]; exact sipN_lt lo hi xs h1 h2
  rw [hS] at HS
  have HG : Hid (sgn lo hi xs = xs ++ b64 S) := by rw [Hid, sgn, hS]
  clear hS hr
  go_enter Try.func47, Try.ntmps47
  go_wp2_with fail
  rw [← hV]
  clear hV
  refine HS.out.mono ?_
  rintro e w1 ⟨rfl, hb1⟩
  clear HS
  go_wp2_with fail
  refine (rlong_any S hS2 _).mono ?_
  rintro e w2 ⟨L2, A2, c2, rfl, HL2, r2, hb2⟩
  have hl2 : Hid (L2.length = 8) := by rw [Hid, HL2.out, b64_len]
  go_wp2_with fail
  refine (radd_any A A2 c c2 xs L2 _ ((rV.next hb1).next hb2) r2 (by have := hl2.out; omega)).mono ?_
  rintro e w3 ⟨v, rfl, hown, hb3⟩
  obtain ⟨L3, A3, c3, HL3, rfl, r3⟩ := hown.rdv
  go_wp2_with fail
  go_ret
  exact ⟨L3, A3, c3, rfl, by rw [Hid, HL3.out, HG.out, ← HL2.out], r3, bnext (bnext (bnext hB hb1) hb2) hb3⟩
end

/-- octet.Same, whatever rows. -/
theorem osame_any (A1 A2 : Option Addr) (c1 c2 : Nat) (xs ys : List UInt8) (B : Bool) (hB : (xs == ys) = B) (w : World) (g1 : Rd bv w w.heap.size A1 c1 xs) (g2 : Rd bv w w.heap.size A2 c2 ys) :
    Calls Try.prog 63 #[.slice A1 xs.length c1, .slice A2 ys.length c2] w fun e w' => e = .returned (.bool B) ∧ Below w.heap.size w w' := by
  have HI : ∀ (A : Option Addr) (c : Nat) (zs : List UInt8), Rd bv w w.heap.size A c zs → Lib.BytesIn w A zs.length (zs.map fun x => (x.toNat : Int)) := by
    intro A c zs hr
    intro hn
    obtain ⟨b, off, rfl, -, hc⟩ := hr.at_ (k := 0) hn
    refine ⟨b, off, rfl, fun i hi => ?_⟩
    rw [hc i hi]
    simp [bv, List.getD, hi]
  have h := Try.bytes_Equal_all A1 A2 xs.length c1 ys.length c2 (xs.map fun x => (x.toNat : Int)) (ys.map fun x => (x.toNat : Int)) w (by simp) (by simp) (HI _ _ _ g1) (HI _ _ _ g2)
  have hb : (Lib.bytesOf (xs.map fun x => (x.toNat : Int)) == Lib.bytesOf (ys.map fun x => (x.toNat : Int))) = B := by
    rw [← hB]
    have e : ∀ zs : List UInt8, Lib.bytesOf (zs.map fun x => (x.toNat : Int)) = zs := by
      intro zs
      simp only [Lib.bytesOf, List.map_map]
      refine (List.map_congr_left (g := id) fun y _ => ?_).trans (List.map_id _)
      simp
    rw [e, e]
  rw [hb] at h
  have H := Lib.hid h
  clear h hb HI g1 g2 hB
  go_enter Try.func63, Try.ntmps63
  go_wp2_with fail
  refine H.out.mono ?_
  rintro e w1 ⟨rfl, rfl⟩
  go_wp2_with fail
  go_ret
  exact ⟨rfl, Below.refl _ _⟩

theorem within_any (n m : Int) (b : Bool) (hb : (decide (0 ≤ n) && decide (n ≤ m)) = b) (w : World) : Calls Try.prog 43 #[.int .i64 n, .int .i64 m] w fun e w' => e = .returned (.bool b) ∧ w = w' := by
  by_cases h0 : 0 ≤ n
  · have e0 : decide (0 ≤ n) = true := by simp [h0]
    rw [e0, Bool.true_and] at hb
    clear h0
    go_enter Try.func43, Try.ntmps43
    go_wp2_with fail
    go_ret
    exact ⟨rfl, rfl⟩
  · have e0 : decide (0 ≤ n) = false := by simp [h0]
    rw [e0, Bool.false_and] at hb
    subst hb
    clear h0
    go_enter Try.func43, Try.ntmps43
    go_wp2_with fail
    go_ret
    exact ⟨rfl, rfl⟩
end Go.Proofs.Ytggcomociojfoaa
