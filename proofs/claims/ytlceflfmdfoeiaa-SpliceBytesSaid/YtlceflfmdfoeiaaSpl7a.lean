/- What six turns of a segment's sum come to. -/
import Derived.Test.YtlceflfmdfoeiaaTcp1
import Derived.Test.YtlceflfmdfoeiaaSum1
namespace Go.Proofs.Ytlceflfmdfoeiaa
open Go.RowKit

/-- A sum's complement, turned by one number, and by a number of four bytes. -/
def T1 (N o x : Nat) : Nat := foldN (N + (65535 - o) + x)
def T2 (N o x : Nat) : Nat := T1 (T1 N (o / 65536) (x / 65536)) (o % 65536) (x % 65536)
theorem T1_fold (S o x : Nat) : T1 (foldN S) o x = foldN (S + (65535 - o) + x) := by
  rw [T1, Nat.add_assoc, foldN_add, Nat.add_assoc]
theorem T2_fold (S o x : Nat) : T2 (foldN S) o x = foldN (S + (65535 - o / 65536) + x / 65536 + (65535 - o % 65536) + x % 65536) := by
  rw [T2, T1_fold, T1_fold]
theorem w16 (x : UInt16) (l : List UInt8) : wsum (be16 x ++ l) = x.toNat + wsum l := by
  have := x.toNat_lt
  simp [be16, wsum]
  omega
theorem w32 (x : UInt32) (l : List UInt8) : wsum (be32 x ++ l) = x.toNat / 65536 + x.toNat % 65536 + wsum l := by
  have := x.toNat_lt
  simp [be32, wsum]
  omega
theorem six_turns (s d ts td : UInt32) (a b tp tp2 : UInt16) (q k q2 k2 : UInt32) (h f : UInt8) (z u : UInt16) (n : Nat) (os xs : List UInt8) :
    T2 (T2 (T1 (T1 (T2 (T2 (onesN (uh s d 6 n ++ tb a b q k h f z u 0 os xs)) s.toNat ts.toNat) d.toNat td.toNat) a.toNat tp.toNat) b.toNat tp2.toNat) q.toNat q2.toNat) k.toNat k2.toNat = onesN (uh ts td 6 n ++ tb tp tp2 q2 k2 h f z u 0 os xs) := by
  have hw : ∀ (s d : UInt32) (a b : UInt16) (q k : UInt32), wsum (uh s d 6 n ++ tb a b q k h f z u 0 os xs) = (s.toNat / 65536 + s.toNat % 65536) + (d.toNat / 65536 + d.toNat % 65536) + a.toNat + b.toNat + (q.toNat / 65536 + q.toNat % 65536) + (k.toNat / 65536 + k.toNat % 65536) + (6 + wsum (be16 (UInt16.ofNat n) ++ ([h, f] ++ (be16 z ++ (be16 (UInt16.ofNat 0) ++ (be16 u ++ (os ++ xs))))))) := by
    intro s d a b q k
    have e : ∀ l : List UInt8, wsum ([h, f] ++ l) = h.toNat * 256 + f.toNat + wsum l := fun l => by simp [wsum]
    have e0 : ∀ l : List UInt8, wsum ([0, 6] ++ l) = 6 + wsum l := fun l => by simp [wsum]
    simp only [uh, tb, List.append_assoc]
    simp only [w32, w16, e, e0]
    omega
  have := s.toNat_lt
  have := d.toNat_lt
  have := a.toNat_lt
  have := b.toNat_lt
  have := q.toNat_lt
  have := k.toNat_lt
  unfold onesN
  rw [hw, hw]
  generalize wsum (be16 (UInt16.ofNat n) ++ ([h, f] ++ (be16 z ++ (be16 (UInt16.ofNat 0) ++ (be16 u ++ (os ++ xs)))))) = R
  rw [T2_fold, T2_fold, T1_fold, T1_fold, T2_fold, T2_fold]
  generalize s.toNat = s at *
  generalize d.toNat = d at *
  generalize a.toNat = a at *
  generalize b.toNat = b at *
  generalize q.toNat = q at *
  generalize k.toNat = k at *
  exact foldN_eq (by omega) (by omega)
end Go.Proofs.Ytlceflfmdfoeiaa
