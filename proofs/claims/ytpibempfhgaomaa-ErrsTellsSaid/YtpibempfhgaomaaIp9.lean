/- Contracts of ipv4.Turn. -/
import Derived.Test.YtpibempfhgaomaaIp8
namespace Go.Proofs.Ytpibempfhgaomaa
open Go.RowKit

theorem own_ne {α : Type} {f : α → Value} {w : World} {base : Nat} {e : TypeId} {v : Value} {xs : List α} (h : Own f w base e v xs) (hx : 0 < xs.length) : v ≠ .slice none 0 0 := by
  intro hv
  obtain ⟨A, c, hv2, -⟩ := h.rd
  rw [hv] at hv2
  injection hv2 with _ h2 _
  omega
theorem cut_b (A : Option Addr) (c : Nat) (bs : List UInt8) (K Z : Int) (k n : Nat) (hK : K = (k : Int)) (hZ : Z = (n : Int)) (w : World) (hb : Rd bv w w.heap.size A c bs) (h : k + n ≤ bs.length) (hl : bs.length ≤ 1000000) :
    Calls Try.prog 20 #[.slice A bs.length c, .int .i64 K, .int .i64 Z] w fun e w' => ∃ v, e = .returned (.tuple #[v, .bool true]) ∧ Own bv w' w.heap.size 5 v ((bs.drop k).take n) ∧ Below w.heap.size w w' := by
  subst hK hZ
  exact cut_yes A c bs k n w hb h hl
theorem set16_b (A : Option Addr) (c : Nat) (bs : List UInt8) (K : Int) (k : Nat) (hK : K = (k : Int)) (Z : Nat) (hZ : Z ≤ 65535) (w : World) (hb : Rd bv w w.heap.size A c bs) (h : k + 2 ≤ bs.length) (hl : bs.length ≤ 1000000) :
    Calls Try.prog 31 #[.slice A bs.length c, .int .i64 K, .int .u16 (Z : Int)] w fun e w' => ∃ v, e = .returned (.tuple #[v, .bool true]) ∧
      Own bv w' w.heap.size 5 v ((bs.set k (UInt8.ofNat (Z / 256))).set (k + 1) (UInt8.ofNat (Z % 256))) ∧ Below w.heap.size w w' := by
  subst hK
  have := set16_yes A c bs k (UInt16.ofNat Z) w hb h hl
  rwa [UInt16.ofNat_id Z hZ] at this

theorem ip_sets (h tos : UInt8) (al : Nat) (id : UInt16) (fl : Nat) (ttl pr : UInt8) (S : Nat) (s d : UInt32) (os dat : List UInt8) (t : UInt8) (Z : Nat) (hZ : Z ≤ 65535) :
    (((ih h tos al id fl ttl pr S s d os ++ dat).set 8 t).set 10 (UInt8.ofNat (Z / 256))).set 11 (UInt8.ofNat (Z % 256)) = ih h tos al id fl t pr Z s d os ++ dat := by
  rw [ih, ih, be16_ofNat Z hZ]
  rfl
end Go.Proofs.Ytpibempfhgaomaa
