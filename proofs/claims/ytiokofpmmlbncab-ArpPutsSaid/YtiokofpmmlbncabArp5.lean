/- Contracts of arp.Parse and the reference's Parse, whole. -/
import Derived.Test.YtiokofpmmlbncabArp31
import Derived.Test.YtiokofpmmlbncabArp32
import Derived.Test.YtiokofpmmlbncabArp33
import Derived.Test.YtiokofpmmlbncabArp41
import Derived.Test.YtiokofpmmlbncabArp42
import Derived.Test.YtiokofpmmlbncabArp43
import Derived.Test.YtiokofpmmlbncabArp44
import Derived.Test.YtiokofpmmlbncabArp45
import Derived.Test.YtiokofpmmlbncabArp46
import Derived.Test.YtiokofpmmlbncabIp6
namespace Go.Proofs.Ytiokofpmmlbncab
open Go.RowKit

theorem aparse_q (A : Option Addr) (c : Nat) (xs : List UInt8) (w : World) (hr : Rd bv w w.heap.size A c xs) (h28 : 28 ≤ xs.length) (hl : xs.length ≤ 1000000) (o : UInt16) (m0 m1 m2 m3 m4 m5 : UInt8) (s : UInt32) (n0 n1 n2 n3 n4 n5 : UInt8) (d : UInt32) (ho : beN ((xs.drop 6).take 2) = o.toNat) (hm : (xs.drop 8).take 6 = [m0, m1, m2, m3, m4, m5]) (hs : beN ((xs.drop 14).take 4) = s.toNat) (hn : (xs.drop 18).take 6 = [n0, n1, n2, n3, n4, n5]) (hd : beN ((xs.drop 24).take 4) = d.toNat)
    (Q : Ending → World → Prop) (HG : Hid ((xs.take 6 = [0, 1, 8, 0, 6, 4] ∧ (o.toNat = 1 ∨ o.toNat = 2) ∧ uniB m0 m1 m2 m3 m4 m5 = true) → ∀ w', Below w.heap.size w w' → Q (.returned (.tuple #[.agg #[.int .u16 (o.toNat : Int), .int .u8 (m0.toNat : Int), .int .u8 (m1.toNat : Int), .int .u8 (m2.toNat : Int), .int .u8 (m3.toNat : Int), .int .u8 (m4.toNat : Int), .int .u8 (m5.toNat : Int), .int .u32 (s.toNat : Int), .int .u8 (n0.toNat : Int), .int .u8 (n1.toNat : Int), .int .u8 (n2.toNat : Int), .int .u8 (n3.toNat : Int), .int .u8 (n4.toNat : Int), .int .u8 (n5.toNat : Int), .int .u32 (d.toNat : Int)], .int .i64 0])) w')) (HE : Hid (¬ (xs.take 6 = [0, 1, 8, 0, 6, 4] ∧ (o.toNat = 1 ∨ o.toNat = 2) ∧ uniB m0 m1 m2 m3 m4 m5 = true) → ∀ w', Below w.heap.size w w' → Q (.returned (.tuple #[.agg #[.int .u16 0, .int .u8 0, .int .u8 0, .int .u8 0, .int .u8 0, .int .u8 0, .int .u8 0, .int .u32 0, .int .u8 0, .int .u8 0, .int .u8 0, .int .u8 0, .int .u8 0, .int .u8 0, .int .u32 0], .int .i64 3])) w')) : Calls Try.prog 23 #[.slice A xs.length c] w Q := by
  by_cases h1 : o.toNat = 1
  · rw [h1] at ho HG HE
    exact aparse_q1 A c xs w hr h28 hl m0 m1 m2 m3 m4 m5 s n0 n1 n2 n3 n4 n5 d ho hm hs hn hd Q HG HE
  · by_cases h2 : o.toNat = 2
    · rw [h2] at ho HG HE
      exact aparse_q2 A c xs w hr h28 hl m0 m1 m2 m3 m4 m5 s n0 n1 n2 n3 n4 n5 d ho hm hs hn hd Q HG HE
    · exact aparse_q3 A c xs w hr h28 hl o m0 m1 m2 m3 m4 m5 s n0 n1 n2 n3 n4 n5 d ho hm hs hn hd (Lib.hid ⟨h1, h2⟩) Q HE
theorem rarp_q (A : Option Addr) (c : Nat) (xs : List UInt8) (w : World) (hr : Rd bv w w.heap.size A c xs) (h28 : 28 ≤ xs.length) (hl : xs.length ≤ 1000000) (o : UInt16) (m0 m1 m2 m3 m4 m5 : UInt8) (s : UInt32) (n0 n1 n2 n3 n4 n5 : UInt8) (d : UInt32) (ho : beN ((xs.drop 6).take 2) = o.toNat) (hm : (xs.drop 8).take 6 = [m0, m1, m2, m3, m4, m5]) (hs : beN ((xs.drop 14).take 4) = s.toNat) (hn : (xs.drop 18).take 6 = [n0, n1, n2, n3, n4, n5]) (hd : beN ((xs.drop 24).take 4) = d.toNat)
    (Q : Ending → World → Prop) (HG : Hid ((xs.take 6 = [0, 1, 8, 0, 6, 4] ∧ (o.toNat = 1 ∨ o.toNat = 2) ∧ uniB m0 m1 m2 m3 m4 m5 = true) → ∀ w', Below w.heap.size w w' → Q (.returned (.tuple #[.agg #[.int .u16 (o.toNat : Int), .int .u8 (m0.toNat : Int), .int .u8 (m1.toNat : Int), .int .u8 (m2.toNat : Int), .int .u8 (m3.toNat : Int), .int .u8 (m4.toNat : Int), .int .u8 (m5.toNat : Int), .int .u32 (s.toNat : Int), .int .u8 (n0.toNat : Int), .int .u8 (n1.toNat : Int), .int .u8 (n2.toNat : Int), .int .u8 (n3.toNat : Int), .int .u8 (n4.toNat : Int), .int .u8 (n5.toNat : Int), .int .u32 (d.toNat : Int)], .int .i64 0])) w')) (HE : Hid (¬ (xs.take 6 = [0, 1, 8, 0, 6, 4] ∧ (o.toNat = 1 ∨ o.toNat = 2) ∧ uniB m0 m1 m2 m3 m4 m5 = true) → ∀ w', Below w.heap.size w w' → Q (.returned (.tuple #[.agg #[.int .u16 0, .int .u8 0, .int .u8 0, .int .u8 0, .int .u8 0, .int .u8 0, .int .u8 0, .int .u32 0, .int .u8 0, .int .u8 0, .int .u8 0, .int .u8 0, .int .u8 0, .int .u8 0, .int .u32 0], .int .i64 3])) w')) : Calls Try.prog 24 #[.slice A xs.length c] w Q := by
  by_cases h1 : arpB o m0 m1 m2 m3 m4 m5 s n0 n1 n2 n3 n4 n5 d = xs.take 28
  · by_cases h2 : o.toNat < 1
    · exact rarp_q2 A c xs w hr h28 hl o m0 m1 m2 m3 m4 m5 s n0 n1 n2 n3 n4 n5 d ho hm hs hn hd (Lib.hid ⟨h1, h2⟩) Q HE
    · by_cases h3 : 2 < o.toNat
      · exact rarp_q3 A c xs w hr h28 hl o m0 m1 m2 m3 m4 m5 s n0 n1 n2 n3 n4 n5 d ho hm hs hn hd (Lib.hid ⟨h1, h3⟩) Q HE
      · by_cases h4 : m0.toNat % 2 = 1
        · exact rarp_q4 A c xs w hr h28 hl o m0 m1 m2 m3 m4 m5 s n0 n1 n2 n3 n4 n5 d ho hm hs hn hd (Lib.hid ⟨h1, ⟨by omega, by omega⟩, h4⟩) Q HE
        · by_cases h5 : macS [m0, m1, m2, m3, m4, m5] 6 = 0
          · exact rarp_q5 A c xs w hr h28 hl o m0 m1 m2 m3 m4 m5 s n0 n1 n2 n3 n4 n5 d ho hm hs hn hd (Lib.hid ⟨h1, ⟨by omega, by omega⟩, by omega, h5⟩) Q HE
          · exact rarp_q6 A c xs w hr h28 hl o m0 m1 m2 m3 m4 m5 s n0 n1 n2 n3 n4 n5 d ho hm hs hn hd (Lib.hid ⟨h1, ⟨by omega, by omega⟩, by omega, h5⟩) Q HG
  · exact rarp_q1 A c xs w hr h28 hl o m0 m1 m2 m3 m4 m5 s n0 n1 n2 n3 n4 n5 d ho hm hs hn hd (Lib.hid h1) Q HE
theorem six_of (xs : List UInt8) (k : Nat) (h : k + 6 ≤ xs.length) : ∃ a b c d e f, (xs.drop k).take 6 = [a, b, c, d, e, f] := by
  have hl : ((xs.drop k).take 6).length = 6 := by simp; omega
  generalize (xs.drop k).take 6 = l at hl
  match l, hl with
  | [a, b, c, d, e, f], _ => exact ⟨a, b, c, d, e, f, rfl⟩
theorem arp_u16 (xs : List UInt8) (k : Nat) (h : k + 2 ≤ xs.length) : ∃ a : UInt16, beN ((xs.drop k).take 2) = a.toNat := by
  refine ⟨UInt16.ofNat (beN ((xs.drop k).take 2)), ?_⟩
  rw [UInt16.ofNat_id _ (two_lt xs k h)]
theorem arp_u32 (xs : List UInt8) (k : Nat) : ∃ a : UInt32, beN ((xs.drop k).take 4) = a.toNat := by
  refine ⟨UInt32.ofNat (beN ((xs.drop k).take 4)), ?_⟩
  have := beN_lt ((xs.drop k).take 4)
  simp
  omega
/-- Any bytes: too few, none, or a packet: what both readers answer. -/
theorem arp_split (xs : List UInt8) (hl : xs.length ≤ 1000000) :
    (∃ e0 : Int, (e0 = 3 ∨ e0 = 4) ∧ ∀ A c w, Rd bv w w.heap.size A c xs → (Calls Try.prog 23 #[.slice A xs.length c] w fun e w' => e = .returned (.tuple #[.agg #[.int .u16 0, .int .u8 0, .int .u8 0, .int .u8 0, .int .u8 0, .int .u8 0, .int .u8 0, .int .u32 0, .int .u8 0, .int .u8 0, .int .u8 0, .int .u8 0, .int .u8 0, .int .u8 0, .int .u32 0], .int .i64 e0]) ∧ Below w.heap.size w w') ∧ (Calls Try.prog 24 #[.slice A xs.length c] w fun e w' => e = .returned (.tuple #[.agg #[.int .u16 0, .int .u8 0, .int .u8 0, .int .u8 0, .int .u8 0, .int .u8 0, .int .u8 0, .int .u32 0, .int .u8 0, .int .u8 0, .int .u8 0, .int .u8 0, .int .u8 0, .int .u8 0, .int .u32 0], .int .i64 e0]) ∧ Below w.heap.size w w')) ∨
    (∃ o m0 m1 m2 m3 m4 m5 s n0 n1 n2 n3 n4 n5 d, arpB o m0 m1 m2 m3 m4 m5 s n0 n1 n2 n3 n4 n5 d = xs.take 28 ∧ 28 ≤ xs.length ∧ (o.toNat = 1 ∨ o.toNat = 2) ∧ uniB m0 m1 m2 m3 m4 m5 = true ∧ ∀ A c w, Rd bv w w.heap.size A c xs → (Calls Try.prog 23 #[.slice A xs.length c] w fun e w' => e = .returned (.tuple #[.agg #[.int .u16 (o.toNat : Int), .int .u8 (m0.toNat : Int), .int .u8 (m1.toNat : Int), .int .u8 (m2.toNat : Int), .int .u8 (m3.toNat : Int), .int .u8 (m4.toNat : Int), .int .u8 (m5.toNat : Int), .int .u32 (s.toNat : Int), .int .u8 (n0.toNat : Int), .int .u8 (n1.toNat : Int), .int .u8 (n2.toNat : Int), .int .u8 (n3.toNat : Int), .int .u8 (n4.toNat : Int), .int .u8 (n5.toNat : Int), .int .u32 (d.toNat : Int)], .int .i64 0]) ∧ Below w.heap.size w w') ∧ (Calls Try.prog 24 #[.slice A xs.length c] w fun e w' => e = .returned (.tuple #[.agg #[.int .u16 (o.toNat : Int), .int .u8 (m0.toNat : Int), .int .u8 (m1.toNat : Int), .int .u8 (m2.toNat : Int), .int .u8 (m3.toNat : Int), .int .u8 (m4.toNat : Int), .int .u8 (m5.toNat : Int), .int .u32 (s.toNat : Int), .int .u8 (n0.toNat : Int), .int .u8 (n1.toNat : Int), .int .u8 (n2.toNat : Int), .int .u8 (n3.toNat : Int), .int .u8 (n4.toNat : Int), .int .u8 (n5.toNat : Int), .int .u32 (d.toNat : Int)], .int .i64 0]) ∧ Below w.heap.size w w')) := by
  by_cases h28 : xs.length < 28
  · exact .inl ⟨4, .inr rfl, fun A c w hr => ⟨aparse_short A c xs w hr h28, rarp_short A c xs w hr h28⟩⟩
  have h28' : 28 ≤ xs.length := by omega
  obtain ⟨o, ho⟩ := arp_u16 xs 6 (by omega)
  obtain ⟨m0, m1, m2, m3, m4, m5, hm⟩ := six_of xs 8 (by omega)
  obtain ⟨s, hs⟩ := arp_u32 xs 14
  obtain ⟨n0, n1, n2, n3, n4, n5, hn⟩ := six_of xs 18 (by omega)
  obtain ⟨d, hd⟩ := arp_u32 xs 24
  by_cases hg : (xs.take 6 = [0, 1, 8, 0, 6, 4] ∧ (o.toNat = 1 ∨ o.toNat = 2) ∧ uniB m0 m1 m2 m3 m4 m5 = true)
  · refine .inr ⟨o, m0, m1, m2, m3, m4, m5, s, n0, n1, n2, n3, n4, n5, d, (arp_same xs h28' hl o m0 m1 m2 m3 m4 m5 s n0 n1 n2 n3 n4 n5 d ho hm hs hn hd).2 hg.1, h28', hg.2.1, hg.2.2, fun A c w hr => ⟨?_, ?_⟩⟩
    · exact aparse_q A c xs w hr h28' hl o m0 m1 m2 m3 m4 m5 s n0 n1 n2 n3 n4 n5 d ho hm hs hn hd _ (Lib.hid fun _ w' hb => ⟨rfl, hb⟩) (Lib.hid fun h => absurd hg h)
    · exact rarp_q A c xs w hr h28' hl o m0 m1 m2 m3 m4 m5 s n0 n1 n2 n3 n4 n5 d ho hm hs hn hd _ (Lib.hid fun _ w' hb => ⟨rfl, hb⟩) (Lib.hid fun h => absurd hg h)
  · refine .inl ⟨3, .inl rfl, fun A c w hr => ⟨?_, ?_⟩⟩
    · exact aparse_q A c xs w hr h28' hl o m0 m1 m2 m3 m4 m5 s n0 n1 n2 n3 n4 n5 d ho hm hs hn hd _ (Lib.hid fun h => absurd h hg) (Lib.hid fun _ w' hb => ⟨rfl, hb⟩)
    · exact rarp_q A c xs w hr h28' hl o m0 m1 m2 m3 m4 m5 s n0 n1 n2 n3 n4 n5 d ho hm hs hn hd _ (Lib.hid fun h => absurd h hg) (Lib.hid fun _ w' hb => ⟨rfl, hb⟩)
/-- What was put, with anything behind, is read, or refused. -/
theorem aparse_put (o : UInt16) (m0 m1 m2 m3 m4 m5 : UInt8) (s : UInt32) (n0 n1 n2 n3 n4 n5 : UInt8) (d : UInt32) (zs xs : List UInt8) (hz : zs.length ≤ 1000) (hx : xs = arpB o m0 m1 m2 m3 m4 m5 s n0 n1 n2 n3 n4 n5 d ++ zs) (A : Option Addr) (c : Nat) (w : World) (hr : Rd bv w w.heap.size A c xs) :
    (((o.toNat = 1 ∨ o.toNat = 2) ∧ uniB m0 m1 m2 m3 m4 m5 = true) → Calls Try.prog 23 #[.slice A xs.length c] w fun e w' => e = .returned (.tuple #[.agg #[.int .u16 (o.toNat : Int), .int .u8 (m0.toNat : Int), .int .u8 (m1.toNat : Int), .int .u8 (m2.toNat : Int), .int .u8 (m3.toNat : Int), .int .u8 (m4.toNat : Int), .int .u8 (m5.toNat : Int), .int .u32 (s.toNat : Int), .int .u8 (n0.toNat : Int), .int .u8 (n1.toNat : Int), .int .u8 (n2.toNat : Int), .int .u8 (n3.toNat : Int), .int .u8 (n4.toNat : Int), .int .u8 (n5.toNat : Int), .int .u32 (d.toNat : Int)], .int .i64 0]) ∧ Below w.heap.size w w') ∧ (¬ ((o.toNat = 1 ∨ o.toNat = 2) ∧ uniB m0 m1 m2 m3 m4 m5 = true) → Calls Try.prog 23 #[.slice A xs.length c] w fun e w' => e = .returned (.tuple #[.agg #[.int .u16 0, .int .u8 0, .int .u8 0, .int .u8 0, .int .u8 0, .int .u8 0, .int .u8 0, .int .u32 0, .int .u8 0, .int .u8 0, .int .u8 0, .int .u8 0, .int .u8 0, .int .u8 0, .int .u32 0], .int .i64 3]) ∧ Below w.heap.size w w') := by
  have hlen : xs.length = 28 + zs.length := by rw [hx, List.length_append, arpB_len]
  have ho : beN ((xs.drop 6).take 2) = o.toNat := by rw [hx]; exact be16_two o
  have hm : (xs.drop 8).take 6 = [m0, m1, m2, m3, m4, m5] := by rw [hx]; rfl
  have hs : beN ((xs.drop 14).take 4) = s.toNat := by rw [hx]; exact be32_four s
  have hn : (xs.drop 18).take 6 = [n0, n1, n2, n3, n4, n5] := by rw [hx]; rfl
  have hd : beN ((xs.drop 24).take 4) = d.toNat := by rw [hx]; exact be32_four d
  have h6 : xs.take 6 = [0, 1, 8, 0, 6, 4] := by rw [hx]; rfl
  refine ⟨fun hg => ?_, fun hg => ?_⟩
  · exact aparse_q A c xs w hr (by omega) (by omega) o m0 m1 m2 m3 m4 m5 s n0 n1 n2 n3 n4 n5 d ho hm hs hn hd _ (Lib.hid fun _ w' hb => ⟨rfl, hb⟩) (Lib.hid fun h => absurd ⟨h6, hg⟩ h)
  · exact aparse_q A c xs w hr (by omega) (by omega) o m0 m1 m2 m3 m4 m5 s n0 n1 n2 n3 n4 n5 d ho hm hs hn hd _ (Lib.hid fun h => absurd h.2 hg) (Lib.hid fun _ w' hb => ⟨rfl, hb⟩)

end Go.Proofs.Ytiokofpmmlbncab
