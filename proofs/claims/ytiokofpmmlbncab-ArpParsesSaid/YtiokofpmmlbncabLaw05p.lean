/- The walk of ArpParses, whole. -/
import Derived.Test.YtiokofpmmlbncabLaw05e0
import Derived.Test.YtiokofpmmlbncabLaw05e3
import Derived.Test.YtiokofpmmlbncabLaw05e4
namespace Go.Proofs.Ytiokofpmmlbncab
open Go.RowKit

theorem ArpParses_walk (a0 : Option Addr) (len0 cap0 : Nat) (z0 : List Int) (w : World) (w0 : InRow .u8 w a0 len0 cap0 z0) :
    Calls Try.prog 5 #[.slice a0 len0 cap0] w fun e w' => e = .returned (.bool true) ∧ Below w.heap.size w w' := by
  obtain ⟨xs, hxl, ha, HFa⟩ := few_row w0 300 (by omega)
  rcases arp_split xs (by omega) with ⟨e0, he, hb⟩ | ⟨o, m0, m1, m2, m3, m4, m5, s, n0, n1, n2, n3, n4, n5, d, hby, h28, -, -, hb⟩
  · rcases he with rfl | rfl
    · exact ArpParses_3 a0 len0 cap0 xs w ha HFa (fun W h => Lib.hid (hb a0 cap0 W h).1) (fun W h => Lib.hid (hb a0 cap0 W h).2)
    · exact ArpParses_4 a0 len0 cap0 xs w ha HFa (fun W h => Lib.hid (hb a0 cap0 W h).1) (fun W h => Lib.hid (hb a0 cap0 W h).2)
  · exact ArpParses_0 a0 len0 cap0 xs w ha HFa o m0 m1 m2 m3 m4 m5 s n0 n1 n2 n3 n4 n5 d (fun W h => Lib.hid (hb a0 cap0 W h).1) (fun W h => Lib.hid (hb a0 cap0 W h).2) (xs.take 28) rfl (by simp; omega) (Lib.hid hby) (by have := ha.len; omega)
end Go.Proofs.Ytiokofpmmlbncab
