/- The walk of the statement on what any thing is. -/
import Derived.Test.YtkoamiefombilaaRecv2
import Derived.Test.YtkoamiefombilaaReg4
import Derived.Test.YtkoamiefombilaaReg6
import Derived.Test.YtkoamiefombilaaKit3
namespace Go.Proofs.Ytkoamiefombilaa
open Go.RowKit

theorem Blk.setl4 {w : World} {g : Nat} {e : TypeId} {v0 v1 v2 v3 : Value} (h : Blk w g [v0, v1, v2, v3] e) (u0 u1 u2 u3 : Value) : Blk ((((w.setCell ⟨g, 0, none⟩ u0).setCell ⟨g, 1, none⟩ u1).setCell ⟨g, 2, none⟩ u2).setCell ⟨g, 3, none⟩ u3) g [u0, u1, u2, u3] e := (((h.set 0 u0).set 1 u1).set 2 u2).set 3 u3
theorem Blk.othl4 {w : World} {g g' : Nat} {e : TypeId} {cs : List Value} (h : Blk w g cs e) (hne : g ≠ g') (u0 u1 u2 u3 : Value) : Blk ((((w.setCell ⟨g', 0, none⟩ u0).setCell ⟨g', 1, none⟩ u1).setCell ⟨g', 2, none⟩ u2).setCell ⟨g', 3, none⟩ u3) g cs e := (((h.other hne 0 u0).other hne 1 u1).other hne 2 u2).other hne 3 u3

set_option maxHeartbeats 16000000 in
set_option maxRecDepth 20000 in
theorem recv_kinds (ty co : UInt8) (re : UInt32) (ai : Option Addr) (ni ci : Nat) (xi : List UInt8) (a b : UInt16) (g : Bool) (ad : Option Addr) (nd cd : Nat) (xd : List UInt8) (sa sb : UInt16) (sq sk : UInt32) (sr sf : UInt8) (sz su : UInt16) (ao ax : Option Addr) (no co2 nx cx : Nat) (os xs : List UInt8) (op m0 m1 m2 m3 m4 m5 s k0 k1 k2 k3 k4 k5 d : Int) (ptos : UInt8) (pid : UInt16) (pD pM : Bool) (pfo : UInt16) (pttl ppr : UInt8) (ps pd : UInt32) (ap aq : Option Addr) (np cp nq cq : Nat) (ps1 ps2 : List UInt8) (n5 : Int) (w : World) (ri : Rd bv w w.heap.size ai ci xi) (rd : Rd bv w w.heap.size ad cd xd) (ro : Rd bv w w.heap.size ao co2 os) (rx : Rd bv w w.heap.size ax cx xs)
    (HFI : ∀ W, Hid (Calls Try.prog 10 #[.agg #[.int .u8 (ty.toNat : Int), .int .u8 (co.toNat : Int), .int .u32 (re.toNat : Int), .slice ai ni ci]] W fun e w' => e = .returned (.agg #[.int .u8 (ty.toNat : Int), .int .u8 (co.toNat : Int), .int .u32 (re.toNat : Int), .slice ai xi.length ci]) ∧ Below W.heap.size W w'))
    (HFD : ∀ W, Hid (Calls Try.prog 30 #[.agg #[.int .u16 (a.toNat : Int), .int .u16 (b.toNat : Int), .bool g, .slice ad nd cd]] W fun e w' => e = .returned (.agg #[.int .u16 (a.toNat : Int), .int .u16 (b.toNat : Int), .bool g, .slice ad xd.length cd]) ∧ Below W.heap.size W w'))
    (HFS : ∀ W, Hid (Calls Try.prog 31 #[.agg #[.int .u16 (sa.toNat : Int), .int .u16 (sb.toNat : Int), .int .u32 (sq.toNat : Int), .int .u32 (sk.toNat : Int), .int .u8 (sr.toNat : Int), .int .u8 (sf.toNat : Int), .int .u16 (sz.toNat : Int), .int .u16 (su.toNat : Int), .slice ao no co2, .slice ax nx cx]] W fun e w' => e = .returned (.agg #[.int .u16 (sa.toNat : Int), .int .u16 (sb.toNat : Int), .int .u32 (sq.toNat : Int), .int .u32 (sk.toNat : Int), .int .u8 (sr.toNat : Int), .int .u8 (sf.toNat : Int), .int .u16 (sz.toNat : Int), .int .u16 (su.toNat : Int), .slice ao os.length co2, .slice ax xs.length cx]) ∧ Below W.heap.size W w'))
    (HFP : ∀ W, Hid (Calls Try.prog 14 #[.agg #[.int .u8 (ptos.toNat : Int), .int .u16 (pid.toNat : Int), .bool pD, .bool pM, .int .u16 (pfo.toNat : Int), .int .u8 (pttl.toNat : Int), .int .u8 (ppr.toNat : Int), .int .u32 (ps.toNat : Int), .int .u32 (pd.toNat : Int), .slice ap np cp, .slice aq nq cq]] W fun e w' => e = .returned (.agg #[.int .u8 (ptos.toNat : Int), .int .u16 (pid.toNat : Int), .bool pD, .bool pM, .int .u16 (pfo.toNat : Int), .int .u8 (pttl.toNat : Int), .int .u8 (ppr.toNat : Int), .int .u32 (ps.toNat : Int), .int .u32 (pd.toNat : Int), .slice ap ps1.length cp, .slice aq ps2.length cq]) ∧ Below W.heap.size W w')) :
    Calls Try.prog 6 #[.agg #[.int .u8 (ty.toNat : Int), .int .u8 (co.toNat : Int), .int .u32 (re.toNat : Int), .slice ai ni ci], .agg #[.int .u16 (a.toNat : Int), .int .u16 (b.toNat : Int), .bool g, .slice ad nd cd], .agg #[.int .u16 (sa.toNat : Int), .int .u16 (sb.toNat : Int), .int .u32 (sq.toNat : Int), .int .u32 (sk.toNat : Int), .int .u8 (sr.toNat : Int), .int .u8 (sf.toNat : Int), .int .u16 (sz.toNat : Int), .int .u16 (su.toNat : Int), .slice ao no co2, .slice ax nx cx], .agg #[.int .u16 op, .int .u8 m0, .int .u8 m1, .int .u8 m2, .int .u8 m3, .int .u8 m4, .int .u8 m5, .int .u32 s, .int .u8 k0, .int .u8 k1, .int .u8 k2, .int .u8 k3, .int .u8 k4, .int .u8 k5, .int .u32 d], .agg #[.int .u8 (ptos.toNat : Int), .int .u16 (pid.toNat : Int), .bool pD, .bool pM, .int .u16 (pfo.toNat : Int), .int .u8 (pttl.toNat : Int), .int .u8 (ppr.toNat : Int), .int .u32 (ps.toNat : Int), .int .u32 (pd.toNat : Int), .slice ap np cp, .slice aq nq cq], .int .i64 n5] w fun e w' => e = .returned (.bool true) ∧ Below w.heap.size w w' := by
  obtain ⟨V, hV⟩ : ∃ V, V = ((((w.alloc (.cells #[.int .u8 (ty.toNat : Int), .int .u8 (co.toNat : Int), .int .u32 (re.toNat : Int), .slice ai ni ci] 25)).alloc (.cells #[.int .u16 (a.toNat : Int), .int .u16 (b.toNat : Int), .bool g, .slice ad nd cd] 53)).alloc (.cells #[.int .u16 (sa.toNat : Int), .int .u16 (sb.toNat : Int), .int .u32 (sq.toNat : Int), .int .u32 (sk.toNat : Int), .int .u8 (sr.toNat : Int), .int .u8 (sf.toNat : Int), .int .u16 (sz.toNat : Int), .int .u16 (su.toNat : Int), .slice ao no co2, .slice ax nx cx] 59)).alloc (.cells #[.int .u16 op, .int .u8 m0, .int .u8 m1, .int .u8 m2, .int .u8 m3, .int .u8 m4, .int .u8 m5, .int .u32 s, .int .u8 k0, .int .u8 k1, .int .u8 k2, .int .u8 k3, .int .u8 k4, .int .u8 k5, .int .u32 d] 68)).alloc (.cells #[.int .u8 (ptos.toNat : Int), .int .u16 (pid.toNat : Int), .bool pD, .bool pM, .int .u16 (pfo.toNat : Int), .int .u8 (pttl.toNat : Int), .int .u8 (ppr.toNat : Int), .int .u32 (ps.toNat : Int), .int .u32 (pd.toNat : Int), .slice ap np cp, .slice aq nq cq] 38) := ⟨_, rfl⟩
  have hB : Below w.heap.size w V := by subst hV; exact bnextA (bnextA (bnextA (bnextA (bnextA (Below.refl _ _) _) _) _) _) _
  have KI : Blk V w.heap.size [.int .u8 (ty.toNat : Int), .int .u8 (co.toNat : Int), .int .u32 (re.toNat : Int), .slice ai ni ci] 25 := by
    subst hV
    have := ((((Blk.new w #[.int .u8 (ty.toNat : Int), .int .u8 (co.toNat : Int), .int .u32 (re.toNat : Int), .slice ai ni ci] 25).alloc (.cells #[.int .u16 (a.toNat : Int), .int .u16 (b.toNat : Int), .bool g, .slice ad nd cd] 53)).alloc (.cells #[.int .u16 (sa.toNat : Int), .int .u16 (sb.toNat : Int), .int .u32 (sq.toNat : Int), .int .u32 (sk.toNat : Int), .int .u8 (sr.toNat : Int), .int .u8 (sf.toNat : Int), .int .u16 (sz.toNat : Int), .int .u16 (su.toNat : Int), .slice ao no co2, .slice ax nx cx] 59)).alloc (.cells #[.int .u16 op, .int .u8 m0, .int .u8 m1, .int .u8 m2, .int .u8 m3, .int .u8 m4, .int .u8 m5, .int .u32 s, .int .u8 k0, .int .u8 k1, .int .u8 k2, .int .u8 k3, .int .u8 k4, .int .u8 k5, .int .u32 d] 68)).alloc (.cells #[.int .u8 (ptos.toNat : Int), .int .u16 (pid.toNat : Int), .bool pD, .bool pM, .int .u16 (pfo.toNat : Int), .int .u8 (pttl.toNat : Int), .int .u8 (ppr.toNat : Int), .int .u32 (ps.toNat : Int), .int .u32 (pd.toNat : Int), .slice ap np cp, .slice aq nq cq] 38)
    simpa using this
  have KD : Blk V (w.heap.size + 1) [.int .u16 (a.toNat : Int), .int .u16 (b.toNat : Int), .bool g, .slice ad nd cd] 53 := by
    subst hV
    have := (((Blk.new (w.alloc (.cells #[.int .u8 (ty.toNat : Int), .int .u8 (co.toNat : Int), .int .u32 (re.toNat : Int), .slice ai ni ci] 25)) #[.int .u16 (a.toNat : Int), .int .u16 (b.toNat : Int), .bool g, .slice ad nd cd] 53).alloc (.cells #[.int .u16 (sa.toNat : Int), .int .u16 (sb.toNat : Int), .int .u32 (sq.toNat : Int), .int .u32 (sk.toNat : Int), .int .u8 (sr.toNat : Int), .int .u8 (sf.toNat : Int), .int .u16 (sz.toNat : Int), .int .u16 (su.toNat : Int), .slice ao no co2, .slice ax nx cx] 59)).alloc (.cells #[.int .u16 op, .int .u8 m0, .int .u8 m1, .int .u8 m2, .int .u8 m3, .int .u8 m4, .int .u8 m5, .int .u32 s, .int .u8 k0, .int .u8 k1, .int .u8 k2, .int .u8 k3, .int .u8 k4, .int .u8 k5, .int .u32 d] 68)).alloc (.cells #[.int .u8 (ptos.toNat : Int), .int .u16 (pid.toNat : Int), .bool pD, .bool pM, .int .u16 (pfo.toNat : Int), .int .u8 (pttl.toNat : Int), .int .u8 (ppr.toNat : Int), .int .u32 (ps.toNat : Int), .int .u32 (pd.toNat : Int), .slice ap np cp, .slice aq nq cq] 38)
    simpa using this
  have KS : Blk V (w.heap.size + 2) [.int .u16 (sa.toNat : Int), .int .u16 (sb.toNat : Int), .int .u32 (sq.toNat : Int), .int .u32 (sk.toNat : Int), .int .u8 (sr.toNat : Int), .int .u8 (sf.toNat : Int), .int .u16 (sz.toNat : Int), .int .u16 (su.toNat : Int), .slice ao no co2, .slice ax nx cx] 59 := by
    subst hV
    have := ((Blk.new ((w.alloc (.cells #[.int .u8 (ty.toNat : Int), .int .u8 (co.toNat : Int), .int .u32 (re.toNat : Int), .slice ai ni ci] 25)).alloc (.cells #[.int .u16 (a.toNat : Int), .int .u16 (b.toNat : Int), .bool g, .slice ad nd cd] 53)) #[.int .u16 (sa.toNat : Int), .int .u16 (sb.toNat : Int), .int .u32 (sq.toNat : Int), .int .u32 (sk.toNat : Int), .int .u8 (sr.toNat : Int), .int .u8 (sf.toNat : Int), .int .u16 (sz.toNat : Int), .int .u16 (su.toNat : Int), .slice ao no co2, .slice ax nx cx] 59).alloc (.cells #[.int .u16 op, .int .u8 m0, .int .u8 m1, .int .u8 m2, .int .u8 m3, .int .u8 m4, .int .u8 m5, .int .u32 s, .int .u8 k0, .int .u8 k1, .int .u8 k2, .int .u8 k3, .int .u8 k4, .int .u8 k5, .int .u32 d] 68)).alloc (.cells #[.int .u8 (ptos.toNat : Int), .int .u16 (pid.toNat : Int), .bool pD, .bool pM, .int .u16 (pfo.toNat : Int), .int .u8 (pttl.toNat : Int), .int .u8 (ppr.toNat : Int), .int .u32 (ps.toNat : Int), .int .u32 (pd.toNat : Int), .slice ap np cp, .slice aq nq cq] 38)
    simpa using this
  have KA : Blk V (w.heap.size + 3) [.int .u16 op, .int .u8 m0, .int .u8 m1, .int .u8 m2, .int .u8 m3, .int .u8 m4, .int .u8 m5, .int .u32 s, .int .u8 k0, .int .u8 k1, .int .u8 k2, .int .u8 k3, .int .u8 k4, .int .u8 k5, .int .u32 d] 68 := by
    subst hV
    have := (Blk.new (((w.alloc (.cells #[.int .u8 (ty.toNat : Int), .int .u8 (co.toNat : Int), .int .u32 (re.toNat : Int), .slice ai ni ci] 25)).alloc (.cells #[.int .u16 (a.toNat : Int), .int .u16 (b.toNat : Int), .bool g, .slice ad nd cd] 53)).alloc (.cells #[.int .u16 (sa.toNat : Int), .int .u16 (sb.toNat : Int), .int .u32 (sq.toNat : Int), .int .u32 (sk.toNat : Int), .int .u8 (sr.toNat : Int), .int .u8 (sf.toNat : Int), .int .u16 (sz.toNat : Int), .int .u16 (su.toNat : Int), .slice ao no co2, .slice ax nx cx] 59)) #[.int .u16 op, .int .u8 m0, .int .u8 m1, .int .u8 m2, .int .u8 m3, .int .u8 m4, .int .u8 m5, .int .u32 s, .int .u8 k0, .int .u8 k1, .int .u8 k2, .int .u8 k3, .int .u8 k4, .int .u8 k5, .int .u32 d] 68).alloc (.cells #[.int .u8 (ptos.toNat : Int), .int .u16 (pid.toNat : Int), .bool pD, .bool pM, .int .u16 (pfo.toNat : Int), .int .u8 (pttl.toNat : Int), .int .u8 (ppr.toNat : Int), .int .u32 (ps.toNat : Int), .int .u32 (pd.toNat : Int), .slice ap np cp, .slice aq nq cq] 38)
    simpa using this
  have KP : Blk V (w.heap.size + 4) [.int .u8 (ptos.toNat : Int), .int .u16 (pid.toNat : Int), .bool pD, .bool pM, .int .u16 (pfo.toNat : Int), .int .u8 (pttl.toNat : Int), .int .u8 (ppr.toNat : Int), .int .u32 (ps.toNat : Int), .int .u32 (pd.toNat : Int), .slice ap np cp, .slice aq nq cq] 38 := by
    subst hV
    have := Blk.new ((((w.alloc (.cells #[.int .u8 (ty.toNat : Int), .int .u8 (co.toNat : Int), .int .u32 (re.toNat : Int), .slice ai ni ci] 25)).alloc (.cells #[.int .u16 (a.toNat : Int), .int .u16 (b.toNat : Int), .bool g, .slice ad nd cd] 53)).alloc (.cells #[.int .u16 (sa.toNat : Int), .int .u16 (sb.toNat : Int), .int .u32 (sq.toNat : Int), .int .u32 (sk.toNat : Int), .int .u8 (sr.toNat : Int), .int .u8 (sf.toNat : Int), .int .u16 (sz.toNat : Int), .int .u16 (su.toNat : Int), .slice ao no co2, .slice ax nx cx] 59)).alloc (.cells #[.int .u16 op, .int .u8 m0, .int .u8 m1, .int .u8 m2, .int .u8 m3, .int .u8 m4, .int .u8 m5, .int .u32 s, .int .u8 k0, .int .u8 k1, .int .u8 k2, .int .u8 k3, .int .u8 k4, .int .u8 k5, .int .u32 d] 68)) #[.int .u8 (ptos.toNat : Int), .int .u16 (pid.toNat : Int), .bool pD, .bool pM, .int .u16 (pfo.toNat : Int), .int .u8 (pttl.toNat : Int), .int .u8 (ppr.toNat : Int), .int .u32 (ps.toNat : Int), .int .u32 (pd.toNat : Int), .slice ap np cp, .slice aq nq cq] 38
    simpa using this
  go_enter Try.func6, Try.ntmps6
  go_wp2_with fail
  rw [← hV]
  clear hV
  refine region_put_tail (by kernel_rfl) (by kernel_rfl) (by kernel_rfl) 81 rfl (by kernel_rfl) V (fun i v W => match i with
      | 0 => v = .agg #[.int .u8 (ty.toNat : Int), .int .u8 (co.toNat : Int), .int .u32 (re.toNat : Int), .slice ai ni ci]
      | 1 => v = .agg #[.int .u8 (ty.toNat : Int), .int .u8 (co.toNat : Int), .int .u32 (re.toNat : Int), .slice ai xi.length ci]
      | 2 => v = .agg #[.int .u16 (a.toNat : Int), .int .u16 (b.toNat : Int), .bool g, .slice ad nd cd]
      | 3 => v = .agg #[.int .u16 (a.toNat : Int), .int .u16 (b.toNat : Int), .bool g, .slice ad xd.length cd]
      | 4 => v = .agg #[.int .u16 (sa.toNat : Int), .int .u16 (sb.toNat : Int), .int .u32 (sq.toNat : Int), .int .u32 (sk.toNat : Int), .int .u8 (sr.toNat : Int), .int .u8 (sf.toNat : Int), .int .u16 (sz.toNat : Int), .int .u16 (su.toNat : Int), .slice ao no co2, .slice ax nx cx]
      | 5 => v = .agg #[.int .u16 (sa.toNat : Int), .int .u16 (sb.toNat : Int), .int .u32 (sq.toNat : Int), .int .u32 (sk.toNat : Int), .int .u8 (sr.toNat : Int), .int .u8 (sf.toNat : Int), .int .u16 (sz.toNat : Int), .int .u16 (su.toNat : Int), .slice ao os.length co2, .slice ax xs.length cx]
      | 6 => v = .agg #[.int .u8 (ptos.toNat : Int), .int .u16 (pid.toNat : Int), .bool pD, .bool pM, .int .u16 (pfo.toNat : Int), .int .u8 (pttl.toNat : Int), .int .u8 (ppr.toNat : Int), .int .u32 (ps.toNat : Int), .int .u32 (pd.toNat : Int), .slice ap np cp, .slice aq nq cq]
      | 7 => v = .agg #[.int .u8 (ptos.toNat : Int), .int .u16 (pid.toNat : Int), .bool pD, .bool pM, .int .u16 (pfo.toNat : Int), .int .u8 (pttl.toNat : Int), .int .u8 (ppr.toNat : Int), .int .u32 (ps.toNat : Int), .int .u32 (pd.toNat : Int), .slice ap ps1.length cp, .slice aq ps2.length cq]
      | _ => True) (Below.refl _ _) 8 4 (by decide) rfl (fun _ => false) (fun _ _ => rfl) (by kernel_rfl) (fun q uu W => match q with
      | 0 => (uu 1 = .agg #[.int .u8 (ty.toNat : Int), .int .u8 (co.toNat : Int), .int .u32 (re.toNat : Int), .slice ai xi.length ci] ∧ uu 3 = .agg #[.int .u16 (a.toNat : Int), .int .u16 (b.toNat : Int), .bool g, .slice ad xd.length cd] ∧ uu 5 = .agg #[.int .u16 (sa.toNat : Int), .int .u16 (sb.toNat : Int), .int .u32 (sq.toNat : Int), .int .u32 (sk.toNat : Int), .int .u8 (sr.toNat : Int), .int .u8 (sf.toNat : Int), .int .u16 (sz.toNat : Int), .int .u16 (su.toNat : Int), .slice ao os.length co2, .slice ax xs.length cx] ∧ uu 7 = .agg #[.int .u8 (ptos.toNat : Int), .int .u16 (pid.toNat : Int), .bool pD, .bool pM, .int .u16 (pfo.toNat : Int), .int .u8 (pttl.toNat : Int), .int .u8 (ppr.toNat : Int), .int .u32 (ps.toNat : Int), .int .u32 (pd.toNat : Int), .slice ap ps1.length cp, .slice aq ps2.length cq]) ∧ Below w.heap.size w W ∧ Blk W w.heap.size [.int .u8 (ty.toNat : Int), .int .u8 (co.toNat : Int), .int .u32 (re.toNat : Int), .slice ai ni ci] 25 ∧ Blk W (w.heap.size + 1) [.int .u16 (a.toNat : Int), .int .u16 (b.toNat : Int), .bool g, .slice ad nd cd] 53 ∧ Blk W (w.heap.size + 2) [.int .u16 (sa.toNat : Int), .int .u16 (sb.toNat : Int), .int .u32 (sq.toNat : Int), .int .u32 (sk.toNat : Int), .int .u8 (sr.toNat : Int), .int .u8 (sf.toNat : Int), .int .u16 (sz.toNat : Int), .int .u16 (su.toNat : Int), .slice ao no co2, .slice ax nx cx] 59 ∧ Blk W (w.heap.size + 3) [.int .u16 op, .int .u8 m0, .int .u8 m1, .int .u8 m2, .int .u8 m3, .int .u8 m4, .int .u8 m5, .int .u32 s, .int .u8 k0, .int .u8 k1, .int .u8 k2, .int .u8 k3, .int .u8 k4, .int .u8 k5, .int .u32 d] 68 ∧ Blk W (w.heap.size + 4) [.int .u8 (ptos.toNat : Int), .int .u16 (pid.toNat : Int), .bool pD, .bool pM, .int .u16 (pfo.toNat : Int), .int .u8 (pttl.toNat : Int), .int .u8 (ppr.toNat : Int), .int .u32 (ps.toNat : Int), .int .u32 (pd.toNat : Int), .slice ap np cp, .slice aq nq cq] 38
      | 1 => (uu 1 = .agg #[.int .u8 (ty.toNat : Int), .int .u8 (co.toNat : Int), .int .u32 (re.toNat : Int), .slice ai xi.length ci] ∧ uu 3 = .agg #[.int .u16 (a.toNat : Int), .int .u16 (b.toNat : Int), .bool g, .slice ad xd.length cd] ∧ uu 5 = .agg #[.int .u16 (sa.toNat : Int), .int .u16 (sb.toNat : Int), .int .u32 (sq.toNat : Int), .int .u32 (sk.toNat : Int), .int .u8 (sr.toNat : Int), .int .u8 (sf.toNat : Int), .int .u16 (sz.toNat : Int), .int .u16 (su.toNat : Int), .slice ao os.length co2, .slice ax xs.length cx] ∧ uu 7 = .agg #[.int .u8 (ptos.toNat : Int), .int .u16 (pid.toNat : Int), .bool pD, .bool pM, .int .u16 (pfo.toNat : Int), .int .u8 (pttl.toNat : Int), .int .u8 (ppr.toNat : Int), .int .u32 (ps.toNat : Int), .int .u32 (pd.toNat : Int), .slice ap ps1.length cp, .slice aq ps2.length cq]) ∧ Below w.heap.size w W ∧ Blk W w.heap.size [.int .u8 (ty.toNat : Int), .int .u8 (co.toNat : Int), .int .u32 (re.toNat : Int), .slice ai xi.length ci] 25 ∧ Blk W (w.heap.size + 1) [.int .u16 (a.toNat : Int), .int .u16 (b.toNat : Int), .bool g, .slice ad nd cd] 53 ∧ Blk W (w.heap.size + 2) [.int .u16 (sa.toNat : Int), .int .u16 (sb.toNat : Int), .int .u32 (sq.toNat : Int), .int .u32 (sk.toNat : Int), .int .u8 (sr.toNat : Int), .int .u8 (sf.toNat : Int), .int .u16 (sz.toNat : Int), .int .u16 (su.toNat : Int), .slice ao no co2, .slice ax nx cx] 59 ∧ Blk W (w.heap.size + 3) [.int .u16 op, .int .u8 m0, .int .u8 m1, .int .u8 m2, .int .u8 m3, .int .u8 m4, .int .u8 m5, .int .u32 s, .int .u8 k0, .int .u8 k1, .int .u8 k2, .int .u8 k3, .int .u8 k4, .int .u8 k5, .int .u32 d] 68 ∧ Blk W (w.heap.size + 4) [.int .u8 (ptos.toNat : Int), .int .u16 (pid.toNat : Int), .bool pD, .bool pM, .int .u16 (pfo.toNat : Int), .int .u8 (pttl.toNat : Int), .int .u8 (ppr.toNat : Int), .int .u32 (ps.toNat : Int), .int .u32 (pd.toNat : Int), .slice ap np cp, .slice aq nq cq] 38
      | 2 => (uu 1 = .agg #[.int .u8 (ty.toNat : Int), .int .u8 (co.toNat : Int), .int .u32 (re.toNat : Int), .slice ai xi.length ci] ∧ uu 3 = .agg #[.int .u16 (a.toNat : Int), .int .u16 (b.toNat : Int), .bool g, .slice ad xd.length cd] ∧ uu 5 = .agg #[.int .u16 (sa.toNat : Int), .int .u16 (sb.toNat : Int), .int .u32 (sq.toNat : Int), .int .u32 (sk.toNat : Int), .int .u8 (sr.toNat : Int), .int .u8 (sf.toNat : Int), .int .u16 (sz.toNat : Int), .int .u16 (su.toNat : Int), .slice ao os.length co2, .slice ax xs.length cx] ∧ uu 7 = .agg #[.int .u8 (ptos.toNat : Int), .int .u16 (pid.toNat : Int), .bool pD, .bool pM, .int .u16 (pfo.toNat : Int), .int .u8 (pttl.toNat : Int), .int .u8 (ppr.toNat : Int), .int .u32 (ps.toNat : Int), .int .u32 (pd.toNat : Int), .slice ap ps1.length cp, .slice aq ps2.length cq]) ∧ Below w.heap.size w W ∧ Blk W w.heap.size [.int .u8 (ty.toNat : Int), .int .u8 (co.toNat : Int), .int .u32 (re.toNat : Int), .slice ai xi.length ci] 25 ∧ Blk W (w.heap.size + 1) [.int .u16 (a.toNat : Int), .int .u16 (b.toNat : Int), .bool g, .slice ad xd.length cd] 53 ∧ Blk W (w.heap.size + 2) [.int .u16 (sa.toNat : Int), .int .u16 (sb.toNat : Int), .int .u32 (sq.toNat : Int), .int .u32 (sk.toNat : Int), .int .u8 (sr.toNat : Int), .int .u8 (sf.toNat : Int), .int .u16 (sz.toNat : Int), .int .u16 (su.toNat : Int), .slice ao no co2, .slice ax nx cx] 59 ∧ Blk W (w.heap.size + 3) [.int .u16 op, .int .u8 m0, .int .u8 m1, .int .u8 m2, .int .u8 m3, .int .u8 m4, .int .u8 m5, .int .u32 s, .int .u8 k0, .int .u8 k1, .int .u8 k2, .int .u8 k3, .int .u8 k4, .int .u8 k5, .int .u32 d] 68 ∧ Blk W (w.heap.size + 4) [.int .u8 (ptos.toNat : Int), .int .u16 (pid.toNat : Int), .bool pD, .bool pM, .int .u16 (pfo.toNat : Int), .int .u8 (pttl.toNat : Int), .int .u8 (ppr.toNat : Int), .int .u32 (ps.toNat : Int), .int .u32 (pd.toNat : Int), .slice ap np cp, .slice aq nq cq] 38
      | 3 => (uu 1 = .agg #[.int .u8 (ty.toNat : Int), .int .u8 (co.toNat : Int), .int .u32 (re.toNat : Int), .slice ai xi.length ci] ∧ uu 3 = .agg #[.int .u16 (a.toNat : Int), .int .u16 (b.toNat : Int), .bool g, .slice ad xd.length cd] ∧ uu 5 = .agg #[.int .u16 (sa.toNat : Int), .int .u16 (sb.toNat : Int), .int .u32 (sq.toNat : Int), .int .u32 (sk.toNat : Int), .int .u8 (sr.toNat : Int), .int .u8 (sf.toNat : Int), .int .u16 (sz.toNat : Int), .int .u16 (su.toNat : Int), .slice ao os.length co2, .slice ax xs.length cx] ∧ uu 7 = .agg #[.int .u8 (ptos.toNat : Int), .int .u16 (pid.toNat : Int), .bool pD, .bool pM, .int .u16 (pfo.toNat : Int), .int .u8 (pttl.toNat : Int), .int .u8 (ppr.toNat : Int), .int .u32 (ps.toNat : Int), .int .u32 (pd.toNat : Int), .slice ap ps1.length cp, .slice aq ps2.length cq]) ∧ Below w.heap.size w W ∧ Blk W w.heap.size [.int .u8 (ty.toNat : Int), .int .u8 (co.toNat : Int), .int .u32 (re.toNat : Int), .slice ai xi.length ci] 25 ∧ Blk W (w.heap.size + 1) [.int .u16 (a.toNat : Int), .int .u16 (b.toNat : Int), .bool g, .slice ad xd.length cd] 53 ∧ Blk W (w.heap.size + 2) [.int .u16 (sa.toNat : Int), .int .u16 (sb.toNat : Int), .int .u32 (sq.toNat : Int), .int .u32 (sk.toNat : Int), .int .u8 (sr.toNat : Int), .int .u8 (sf.toNat : Int), .int .u16 (sz.toNat : Int), .int .u16 (su.toNat : Int), .slice ao os.length co2, .slice ax xs.length cx] 59 ∧ Blk W (w.heap.size + 3) [.int .u16 op, .int .u8 m0, .int .u8 m1, .int .u8 m2, .int .u8 m3, .int .u8 m4, .int .u8 m5, .int .u32 s, .int .u8 k0, .int .u8 k1, .int .u8 k2, .int .u8 k3, .int .u8 k4, .int .u8 k5, .int .u32 d] 68 ∧ Blk W (w.heap.size + 4) [.int .u8 (ptos.toNat : Int), .int .u16 (pid.toNat : Int), .bool pD, .bool pM, .int .u16 (pfo.toNat : Int), .int .u8 (pttl.toNat : Int), .int .u8 (ppr.toNat : Int), .int .u32 (ps.toNat : Int), .int .u32 (pd.toNat : Int), .slice ap np cp, .slice aq nq cq] 38
      | 4 => (uu 1 = .agg #[.int .u8 (ty.toNat : Int), .int .u8 (co.toNat : Int), .int .u32 (re.toNat : Int), .slice ai xi.length ci] ∧ uu 3 = .agg #[.int .u16 (a.toNat : Int), .int .u16 (b.toNat : Int), .bool g, .slice ad xd.length cd] ∧ uu 5 = .agg #[.int .u16 (sa.toNat : Int), .int .u16 (sb.toNat : Int), .int .u32 (sq.toNat : Int), .int .u32 (sk.toNat : Int), .int .u8 (sr.toNat : Int), .int .u8 (sf.toNat : Int), .int .u16 (sz.toNat : Int), .int .u16 (su.toNat : Int), .slice ao os.length co2, .slice ax xs.length cx] ∧ uu 7 = .agg #[.int .u8 (ptos.toNat : Int), .int .u16 (pid.toNat : Int), .bool pD, .bool pM, .int .u16 (pfo.toNat : Int), .int .u8 (pttl.toNat : Int), .int .u8 (ppr.toNat : Int), .int .u32 (ps.toNat : Int), .int .u32 (pd.toNat : Int), .slice ap ps1.length cp, .slice aq ps2.length cq]) ∧ Below w.heap.size w W ∧ Blk W w.heap.size [.int .u8 (ty.toNat : Int), .int .u8 (co.toNat : Int), .int .u32 (re.toNat : Int), .slice ai xi.length ci] 25 ∧ Blk W (w.heap.size + 1) [.int .u16 (a.toNat : Int), .int .u16 (b.toNat : Int), .bool g, .slice ad xd.length cd] 53 ∧ Blk W (w.heap.size + 2) [.int .u16 (sa.toNat : Int), .int .u16 (sb.toNat : Int), .int .u32 (sq.toNat : Int), .int .u32 (sk.toNat : Int), .int .u8 (sr.toNat : Int), .int .u8 (sf.toNat : Int), .int .u16 (sz.toNat : Int), .int .u16 (su.toNat : Int), .slice ao os.length co2, .slice ax xs.length cx] 59 ∧ Blk W (w.heap.size + 3) [.int .u16 op, .int .u8 m0, .int .u8 m1, .int .u8 m2, .int .u8 m3, .int .u8 m4, .int .u8 m5, .int .u32 s, .int .u8 k0, .int .u8 k1, .int .u8 k2, .int .u8 k3, .int .u8 k4, .int .u8 k5, .int .u32 d] 68 ∧ Blk W (w.heap.size + 4) [.int .u8 (ptos.toNat : Int), .int .u16 (pid.toNat : Int), .bool pD, .bool pM, .int .u16 (pfo.toNat : Int), .int .u8 (pttl.toNat : Int), .int .u8 (ppr.toNat : Int), .int .u32 (ps.toNat : Int), .int .u32 (pd.toNat : Int), .slice ap ps1.length cp, .slice aq ps2.length cq] 38
      | _ => True) ?_ ?_ ?_ ?_ ?_ ?_ ?_ ?_
  · intro i v W W' h hb
    match i, h with
    | 0, h => exact h
    | 1, h => exact h
    | 2, h => exact h
    | 3, h => exact h
    | 4, h => exact h
    | 5, h => exact h
    | 6, h => exact h
    | 7, h => exact h
    | _ + 8, _ => trivial
  · intro i oo uu W him hoo hVW hd hold
    rcases i with _|_|_|_|_|_|_|_|i
    · obtain rfl := Option.some.inj hoo
      refine .inl ⟨wanted_none rfl, ?_⟩
      generalize hev : Act.eval _ = ev
      have ec : ∀ c, ev (.const c) = c := fun c => by rw [← hev]; rfl
      have e6 : ev (.tmp 6) = .pointer (some ⟨w.heap.size, 0, none⟩) := by rw [← hev]; exact eval_old (by kernel_rfl) 81 rfl (by decide) rfl
      clear hev hd hold
      exact .inl ⟨_, W, load_blk Try.underlying25 (by kernel_rfl) (KI.next hVW) rfl e6, rfl, Below.refl _ _⟩
    · obtain rfl := Option.some.inj hoo
      have q0 : uu 0 = .agg #[.int .u8 (ty.toNat : Int), .int .u8 (co.toNat : Int), .int .u32 (re.toNat : Int), .slice ai ni ci] := hd 0 (by kernel_rfl)
      refine .inl ⟨wanted_none rfl, ?_⟩
      generalize hev : Act.eval _ = ev
      have ec : ∀ c, ev (.const c) = c := fun c => by rw [← hev]; rfl
      have ef : ∀ f, ev (.func f) = .func (.func f) #[] #[] := fun f => by rw [← hev]; rfl
      have e14 : ev (.tmp 14) = .agg #[.int .u8 (ty.toNat : Int), .int .u8 (co.toNat : Int), .int .u32 (re.toNat : Int), .slice ai ni ci] := by rw [← hev]; exact (eval_put (by kernel_rfl) 81 rfl (by decide)).trans q0
      clear hev hd hold q0
      exact .inr ⟨_, _, _, by go_simp, (HFI W).out, fun e w' he => ⟨_, he.1, rfl, he.2⟩⟩
    · obtain rfl := Option.some.inj hoo
      refine .inl ⟨wanted_none rfl, ?_⟩
      generalize hev : Act.eval _ = ev
      have ec : ∀ c, ev (.const c) = c := fun c => by rw [← hev]; rfl
      have e7 : ev (.tmp 7) = .pointer (some ⟨w.heap.size + 1, 0, none⟩) := by rw [← hev]; exact eval_old (by kernel_rfl) 81 rfl (by decide) rfl
      clear hev hd hold
      exact .inl ⟨_, W, load_blk Try.underlying53 (by kernel_rfl) (KD.next hVW) rfl e7, rfl, Below.refl _ _⟩
    · obtain rfl := Option.some.inj hoo
      have q2 : uu 2 = .agg #[.int .u16 (a.toNat : Int), .int .u16 (b.toNat : Int), .bool g, .slice ad nd cd] := hd 2 (by kernel_rfl)
      refine .inl ⟨wanted_none rfl, ?_⟩
      generalize hev : Act.eval _ = ev
      have ec : ∀ c, ev (.const c) = c := fun c => by rw [← hev]; rfl
      have ef : ∀ f, ev (.func f) = .func (.func f) #[] #[] := fun f => by rw [← hev]; rfl
      have e16 : ev (.tmp 16) = .agg #[.int .u16 (a.toNat : Int), .int .u16 (b.toNat : Int), .bool g, .slice ad nd cd] := by rw [← hev]; exact (eval_put (by kernel_rfl) 81 rfl (by decide)).trans q2
      clear hev hd hold q2
      exact .inr ⟨_, _, _, by go_simp, (HFD W).out, fun e w' he => ⟨_, he.1, rfl, he.2⟩⟩
    · obtain rfl := Option.some.inj hoo
      refine .inl ⟨wanted_none rfl, ?_⟩
      generalize hev : Act.eval _ = ev
      have ec : ∀ c, ev (.const c) = c := fun c => by rw [← hev]; rfl
      have e8 : ev (.tmp 8) = .pointer (some ⟨w.heap.size + 2, 0, none⟩) := by rw [← hev]; exact eval_old (by kernel_rfl) 81 rfl (by decide) rfl
      clear hev hd hold
      exact .inl ⟨_, W, load_blk Try.underlying59 (by kernel_rfl) (KS.next hVW) rfl e8, rfl, Below.refl _ _⟩
    · obtain rfl := Option.some.inj hoo
      have q4 : uu 4 = .agg #[.int .u16 (sa.toNat : Int), .int .u16 (sb.toNat : Int), .int .u32 (sq.toNat : Int), .int .u32 (sk.toNat : Int), .int .u8 (sr.toNat : Int), .int .u8 (sf.toNat : Int), .int .u16 (sz.toNat : Int), .int .u16 (su.toNat : Int), .slice ao no co2, .slice ax nx cx] := hd 4 (by kernel_rfl)
      refine .inl ⟨wanted_none rfl, ?_⟩
      generalize hev : Act.eval _ = ev
      have ec : ∀ c, ev (.const c) = c := fun c => by rw [← hev]; rfl
      have ef : ∀ f, ev (.func f) = .func (.func f) #[] #[] := fun f => by rw [← hev]; rfl
      have e18 : ev (.tmp 18) = .agg #[.int .u16 (sa.toNat : Int), .int .u16 (sb.toNat : Int), .int .u32 (sq.toNat : Int), .int .u32 (sk.toNat : Int), .int .u8 (sr.toNat : Int), .int .u8 (sf.toNat : Int), .int .u16 (sz.toNat : Int), .int .u16 (su.toNat : Int), .slice ao no co2, .slice ax nx cx] := by rw [← hev]; exact (eval_put (by kernel_rfl) 81 rfl (by decide)).trans q4
      clear hev hd hold q4
      exact .inr ⟨_, _, _, by go_simp, (HFS W).out, fun e w' he => ⟨_, he.1, rfl, he.2⟩⟩
    · obtain rfl := Option.some.inj hoo
      refine .inl ⟨wanted_none rfl, ?_⟩
      generalize hev : Act.eval _ = ev
      have ec : ∀ c, ev (.const c) = c := fun c => by rw [← hev]; rfl
      have e10 : ev (.tmp 10) = .pointer (some ⟨w.heap.size + 4, 0, none⟩) := by rw [← hev]; exact eval_old (by kernel_rfl) 81 rfl (by decide) rfl
      clear hev hd hold
      exact .inl ⟨_, W, load_blk Try.underlying38 (by kernel_rfl) (KP.next hVW) rfl e10, rfl, Below.refl _ _⟩
    · obtain rfl := Option.some.inj hoo
      have q6 : uu 6 = .agg #[.int .u8 (ptos.toNat : Int), .int .u16 (pid.toNat : Int), .bool pD, .bool pM, .int .u16 (pfo.toNat : Int), .int .u8 (pttl.toNat : Int), .int .u8 (ppr.toNat : Int), .int .u32 (ps.toNat : Int), .int .u32 (pd.toNat : Int), .slice ap np cp, .slice aq nq cq] := hd 6 (by kernel_rfl)
      refine .inl ⟨wanted_none rfl, ?_⟩
      generalize hev : Act.eval _ = ev
      have ec : ∀ c, ev (.const c) = c := fun c => by rw [← hev]; rfl
      have ef : ∀ f, ev (.func f) = .func (.func f) #[] #[] := fun f => by rw [← hev]; rfl
      have e20 : ev (.tmp 20) = .agg #[.int .u8 (ptos.toNat : Int), .int .u16 (pid.toNat : Int), .bool pD, .bool pM, .int .u16 (pfo.toNat : Int), .int .u8 (pttl.toNat : Int), .int .u8 (ppr.toNat : Int), .int .u32 (ps.toNat : Int), .int .u32 (pd.toNat : Int), .slice ap np cp, .slice aq nq cq] := by rw [← hev]; exact (eval_put (by kernel_rfl) 81 rfl (by decide)).trans q6
      clear hev hd hold q6
      exact .inr ⟨_, _, _, by go_simp, (HFP W).out, fun e w' he => ⟨_, he.1, rfl, he.2⟩⟩
    · omega
  · exact fun _ _ _ _ h => by cases h
  · exact fun _ _ _ _ h => by cases h
  · exact fun _ _ _ _ _ h => by cases h
  · intro uu W hVW hall
    exact ⟨⟨hall 1 (by decide) rfl, hall 3 (by decide) rfl, hall 5 (by decide) rfl, hall 7 (by decide) rfl⟩, hB.trans (hVW.mono hB.size), KI.next hVW, KD.next hVW, KS.next hVW, KA.next hVW, KP.next hVW⟩
  · intro q oo uu W hq hoo hS hdl
    rcases q with _|_|_|_|q
    · obtain rfl := Option.some.inj hoo
      have hS : (uu 1 = .agg #[.int .u8 (ty.toNat : Int), .int .u8 (co.toNat : Int), .int .u32 (re.toNat : Int), .slice ai xi.length ci] ∧ uu 3 = .agg #[.int .u16 (a.toNat : Int), .int .u16 (b.toNat : Int), .bool g, .slice ad xd.length cd] ∧ uu 5 = .agg #[.int .u16 (sa.toNat : Int), .int .u16 (sb.toNat : Int), .int .u32 (sq.toNat : Int), .int .u32 (sk.toNat : Int), .int .u8 (sr.toNat : Int), .int .u8 (sf.toNat : Int), .int .u16 (sz.toNat : Int), .int .u16 (su.toNat : Int), .slice ao os.length co2, .slice ax xs.length cx] ∧ uu 7 = .agg #[.int .u8 (ptos.toNat : Int), .int .u16 (pid.toNat : Int), .bool pD, .bool pM, .int .u16 (pfo.toNat : Int), .int .u8 (pttl.toNat : Int), .int .u8 (ppr.toNat : Int), .int .u32 (ps.toNat : Int), .int .u32 (pd.toNat : Int), .slice ap ps1.length cp, .slice aq ps2.length cq]) ∧ Below w.heap.size w W ∧ Blk W w.heap.size [.int .u8 (ty.toNat : Int), .int .u8 (co.toNat : Int), .int .u32 (re.toNat : Int), .slice ai ni ci] 25 ∧ Blk W (w.heap.size + 1) [.int .u16 (a.toNat : Int), .int .u16 (b.toNat : Int), .bool g, .slice ad nd cd] 53 ∧ Blk W (w.heap.size + 2) [.int .u16 (sa.toNat : Int), .int .u16 (sb.toNat : Int), .int .u32 (sq.toNat : Int), .int .u32 (sk.toNat : Int), .int .u8 (sr.toNat : Int), .int .u8 (sf.toNat : Int), .int .u16 (sz.toNat : Int), .int .u16 (su.toNat : Int), .slice ao no co2, .slice ax nx cx] 59 ∧ Blk W (w.heap.size + 3) [.int .u16 op, .int .u8 m0, .int .u8 m1, .int .u8 m2, .int .u8 m3, .int .u8 m4, .int .u8 m5, .int .u32 s, .int .u8 k0, .int .u8 k1, .int .u8 k2, .int .u8 k3, .int .u8 k4, .int .u8 k5, .int .u32 d] 68 ∧ Blk W (w.heap.size + 4) [.int .u8 (ptos.toNat : Int), .int .u16 (pid.toNat : Int), .bool pD, .bool pM, .int .u16 (pfo.toNat : Int), .int .u8 (pttl.toNat : Int), .int .u8 (ppr.toNat : Int), .int .u32 (ps.toNat : Int), .int .u32 (pd.toNat : Int), .slice ap np cp, .slice aq nq cq] 38 := hS
      obtain ⟨⟨q1, q3, q5, q7⟩, hBW, KI, KD, KS, KA, KP⟩ := hS
      refine ⟨wanted_none rfl, ?_⟩
      generalize hev : Act.eval _ = ev
      have ec : ∀ c, ev (.const c) = c := fun c => by rw [← hev]; rfl
      have e6 : ev (.tmp 6) = .pointer (some ⟨w.heap.size, 0, none⟩) := by rw [← hev]; exact eval_old (by kernel_rfl) 81 rfl (by decide) rfl
      have e15 : ev (.tmp 15) = .agg #[.int .u8 (ty.toNat : Int), .int .u8 (co.toNat : Int), .int .u32 (re.toNat : Int), .slice ai xi.length ci] := by rw [← hev]; exact (eval_put (by kernel_rfl) 81 rfl (by decide)).trans q1
      clear hev hdl
      obtain ⟨m0, m1, m2, m3, k0, k1, k2, k3⟩ := KI.get4
      refine .inl ⟨_, by (go_simp <;> rfl), rfl, ?_⟩
      exact ⟨⟨q1, q3, q5, q7⟩, bset4 hBW (by omega) (.int .u8 (ty.toNat : Int)) (.int .u8 (co.toNat : Int)) (.int .u32 (re.toNat : Int)) (.slice ai xi.length ci), (KI).setl4 (.int .u8 (ty.toNat : Int)) (.int .u8 (co.toNat : Int)) (.int .u32 (re.toNat : Int)) (.slice ai xi.length ci), (KD).othl4 (by omega) (.int .u8 (ty.toNat : Int)) (.int .u8 (co.toNat : Int)) (.int .u32 (re.toNat : Int)) (.slice ai xi.length ci), (KS).othl4 (by omega) (.int .u8 (ty.toNat : Int)) (.int .u8 (co.toNat : Int)) (.int .u32 (re.toNat : Int)) (.slice ai xi.length ci), (KA).othl4 (by omega) (.int .u8 (ty.toNat : Int)) (.int .u8 (co.toNat : Int)) (.int .u32 (re.toNat : Int)) (.slice ai xi.length ci), (KP).othl4 (by omega) (.int .u8 (ty.toNat : Int)) (.int .u8 (co.toNat : Int)) (.int .u32 (re.toNat : Int)) (.slice ai xi.length ci)⟩
    · obtain rfl := Option.some.inj hoo
      have hS : (uu 1 = .agg #[.int .u8 (ty.toNat : Int), .int .u8 (co.toNat : Int), .int .u32 (re.toNat : Int), .slice ai xi.length ci] ∧ uu 3 = .agg #[.int .u16 (a.toNat : Int), .int .u16 (b.toNat : Int), .bool g, .slice ad xd.length cd] ∧ uu 5 = .agg #[.int .u16 (sa.toNat : Int), .int .u16 (sb.toNat : Int), .int .u32 (sq.toNat : Int), .int .u32 (sk.toNat : Int), .int .u8 (sr.toNat : Int), .int .u8 (sf.toNat : Int), .int .u16 (sz.toNat : Int), .int .u16 (su.toNat : Int), .slice ao os.length co2, .slice ax xs.length cx] ∧ uu 7 = .agg #[.int .u8 (ptos.toNat : Int), .int .u16 (pid.toNat : Int), .bool pD, .bool pM, .int .u16 (pfo.toNat : Int), .int .u8 (pttl.toNat : Int), .int .u8 (ppr.toNat : Int), .int .u32 (ps.toNat : Int), .int .u32 (pd.toNat : Int), .slice ap ps1.length cp, .slice aq ps2.length cq]) ∧ Below w.heap.size w W ∧ Blk W w.heap.size [.int .u8 (ty.toNat : Int), .int .u8 (co.toNat : Int), .int .u32 (re.toNat : Int), .slice ai xi.length ci] 25 ∧ Blk W (w.heap.size + 1) [.int .u16 (a.toNat : Int), .int .u16 (b.toNat : Int), .bool g, .slice ad nd cd] 53 ∧ Blk W (w.heap.size + 2) [.int .u16 (sa.toNat : Int), .int .u16 (sb.toNat : Int), .int .u32 (sq.toNat : Int), .int .u32 (sk.toNat : Int), .int .u8 (sr.toNat : Int), .int .u8 (sf.toNat : Int), .int .u16 (sz.toNat : Int), .int .u16 (su.toNat : Int), .slice ao no co2, .slice ax nx cx] 59 ∧ Blk W (w.heap.size + 3) [.int .u16 op, .int .u8 m0, .int .u8 m1, .int .u8 m2, .int .u8 m3, .int .u8 m4, .int .u8 m5, .int .u32 s, .int .u8 k0, .int .u8 k1, .int .u8 k2, .int .u8 k3, .int .u8 k4, .int .u8 k5, .int .u32 d] 68 ∧ Blk W (w.heap.size + 4) [.int .u8 (ptos.toNat : Int), .int .u16 (pid.toNat : Int), .bool pD, .bool pM, .int .u16 (pfo.toNat : Int), .int .u8 (pttl.toNat : Int), .int .u8 (ppr.toNat : Int), .int .u32 (ps.toNat : Int), .int .u32 (pd.toNat : Int), .slice ap np cp, .slice aq nq cq] 38 := hS
      obtain ⟨⟨q1, q3, q5, q7⟩, hBW, KI, KD, KS, KA, KP⟩ := hS
      refine ⟨wanted_none rfl, ?_⟩
      generalize hev : Act.eval _ = ev
      have ec : ∀ c, ev (.const c) = c := fun c => by rw [← hev]; rfl
      have e7 : ev (.tmp 7) = .pointer (some ⟨w.heap.size + 1, 0, none⟩) := by rw [← hev]; exact eval_old (by kernel_rfl) 81 rfl (by decide) rfl
      have e17 : ev (.tmp 17) = .agg #[.int .u16 (a.toNat : Int), .int .u16 (b.toNat : Int), .bool g, .slice ad xd.length cd] := by rw [← hev]; exact (eval_put (by kernel_rfl) 81 rfl (by decide)).trans q3
      clear hev hdl
      obtain ⟨m0, m1, m2, m3, k0, k1, k2, k3⟩ := KD.get4
      refine .inl ⟨_, by (go_simp <;> rfl), rfl, ?_⟩
      exact ⟨⟨q1, q3, q5, q7⟩, bset4 hBW (by omega) (.int .u16 (a.toNat : Int)) (.int .u16 (b.toNat : Int)) (.bool g) (.slice ad xd.length cd), (KI).othl4 (by omega) (.int .u16 (a.toNat : Int)) (.int .u16 (b.toNat : Int)) (.bool g) (.slice ad xd.length cd), (KD).setl4 (.int .u16 (a.toNat : Int)) (.int .u16 (b.toNat : Int)) (.bool g) (.slice ad xd.length cd), (KS).othl4 (by omega) (.int .u16 (a.toNat : Int)) (.int .u16 (b.toNat : Int)) (.bool g) (.slice ad xd.length cd), (KA).othl4 (by omega) (.int .u16 (a.toNat : Int)) (.int .u16 (b.toNat : Int)) (.bool g) (.slice ad xd.length cd), (KP).othl4 (by omega) (.int .u16 (a.toNat : Int)) (.int .u16 (b.toNat : Int)) (.bool g) (.slice ad xd.length cd)⟩
    · obtain rfl := Option.some.inj hoo
      have hS : (uu 1 = .agg #[.int .u8 (ty.toNat : Int), .int .u8 (co.toNat : Int), .int .u32 (re.toNat : Int), .slice ai xi.length ci] ∧ uu 3 = .agg #[.int .u16 (a.toNat : Int), .int .u16 (b.toNat : Int), .bool g, .slice ad xd.length cd] ∧ uu 5 = .agg #[.int .u16 (sa.toNat : Int), .int .u16 (sb.toNat : Int), .int .u32 (sq.toNat : Int), .int .u32 (sk.toNat : Int), .int .u8 (sr.toNat : Int), .int .u8 (sf.toNat : Int), .int .u16 (sz.toNat : Int), .int .u16 (su.toNat : Int), .slice ao os.length co2, .slice ax xs.length cx] ∧ uu 7 = .agg #[.int .u8 (ptos.toNat : Int), .int .u16 (pid.toNat : Int), .bool pD, .bool pM, .int .u16 (pfo.toNat : Int), .int .u8 (pttl.toNat : Int), .int .u8 (ppr.toNat : Int), .int .u32 (ps.toNat : Int), .int .u32 (pd.toNat : Int), .slice ap ps1.length cp, .slice aq ps2.length cq]) ∧ Below w.heap.size w W ∧ Blk W w.heap.size [.int .u8 (ty.toNat : Int), .int .u8 (co.toNat : Int), .int .u32 (re.toNat : Int), .slice ai xi.length ci] 25 ∧ Blk W (w.heap.size + 1) [.int .u16 (a.toNat : Int), .int .u16 (b.toNat : Int), .bool g, .slice ad xd.length cd] 53 ∧ Blk W (w.heap.size + 2) [.int .u16 (sa.toNat : Int), .int .u16 (sb.toNat : Int), .int .u32 (sq.toNat : Int), .int .u32 (sk.toNat : Int), .int .u8 (sr.toNat : Int), .int .u8 (sf.toNat : Int), .int .u16 (sz.toNat : Int), .int .u16 (su.toNat : Int), .slice ao no co2, .slice ax nx cx] 59 ∧ Blk W (w.heap.size + 3) [.int .u16 op, .int .u8 m0, .int .u8 m1, .int .u8 m2, .int .u8 m3, .int .u8 m4, .int .u8 m5, .int .u32 s, .int .u8 k0, .int .u8 k1, .int .u8 k2, .int .u8 k3, .int .u8 k4, .int .u8 k5, .int .u32 d] 68 ∧ Blk W (w.heap.size + 4) [.int .u8 (ptos.toNat : Int), .int .u16 (pid.toNat : Int), .bool pD, .bool pM, .int .u16 (pfo.toNat : Int), .int .u8 (pttl.toNat : Int), .int .u8 (ppr.toNat : Int), .int .u32 (ps.toNat : Int), .int .u32 (pd.toNat : Int), .slice ap np cp, .slice aq nq cq] 38 := hS
      obtain ⟨⟨q1, q3, q5, q7⟩, hBW, KI, KD, KS, KA, KP⟩ := hS
      refine ⟨wanted_none rfl, ?_⟩
      generalize hev : Act.eval _ = ev
      have ec : ∀ c, ev (.const c) = c := fun c => by rw [← hev]; rfl
      have e8 : ev (.tmp 8) = .pointer (some ⟨w.heap.size + 2, 0, none⟩) := by rw [← hev]; exact eval_old (by kernel_rfl) 81 rfl (by decide) rfl
      have e19 : ev (.tmp 19) = .agg #[.int .u16 (sa.toNat : Int), .int .u16 (sb.toNat : Int), .int .u32 (sq.toNat : Int), .int .u32 (sk.toNat : Int), .int .u8 (sr.toNat : Int), .int .u8 (sf.toNat : Int), .int .u16 (sz.toNat : Int), .int .u16 (su.toNat : Int), .slice ao os.length co2, .slice ax xs.length cx] := by rw [← hev]; exact (eval_put (by kernel_rfl) 81 rfl (by decide)).trans q5
      clear hev hdl
      obtain ⟨m0, m1, m2, m3, m4, m5, m6, m7, m8, m9, k0, k1, k2, k3, k4, k5, k6, k7, k8, k9⟩ := KS.get10
      refine .inl ⟨_, by (go_simp <;> rfl), rfl, ?_⟩
      exact ⟨⟨q1, q3, q5, q7⟩, bset10 hBW (by omega) (.int .u16 (sa.toNat : Int)) (.int .u16 (sb.toNat : Int)) (.int .u32 (sq.toNat : Int)) (.int .u32 (sk.toNat : Int)) (.int .u8 (sr.toNat : Int)) (.int .u8 (sf.toNat : Int)) (.int .u16 (sz.toNat : Int)) (.int .u16 (su.toNat : Int)) (.slice ao os.length co2) (.slice ax xs.length cx), (KI).oth10 (by omega) (u0 := .int .u16 (sa.toNat : Int)) (u1 := .int .u16 (sb.toNat : Int)) (u2 := .int .u32 (sq.toNat : Int)) (u3 := .int .u32 (sk.toNat : Int)) (u4 := .int .u8 (sr.toNat : Int)) (u5 := .int .u8 (sf.toNat : Int)) (u6 := .int .u16 (sz.toNat : Int)) (u7 := .int .u16 (su.toNat : Int)) (u8 := .slice ao os.length co2) (u9 := .slice ax xs.length cx), (KD).oth10 (by omega) (u0 := .int .u16 (sa.toNat : Int)) (u1 := .int .u16 (sb.toNat : Int)) (u2 := .int .u32 (sq.toNat : Int)) (u3 := .int .u32 (sk.toNat : Int)) (u4 := .int .u8 (sr.toNat : Int)) (u5 := .int .u8 (sf.toNat : Int)) (u6 := .int .u16 (sz.toNat : Int)) (u7 := .int .u16 (su.toNat : Int)) (u8 := .slice ao os.length co2) (u9 := .slice ax xs.length cx), (KS).set10 (u0 := .int .u16 (sa.toNat : Int)) (u1 := .int .u16 (sb.toNat : Int)) (u2 := .int .u32 (sq.toNat : Int)) (u3 := .int .u32 (sk.toNat : Int)) (u4 := .int .u8 (sr.toNat : Int)) (u5 := .int .u8 (sf.toNat : Int)) (u6 := .int .u16 (sz.toNat : Int)) (u7 := .int .u16 (su.toNat : Int)) (u8 := .slice ao os.length co2) (u9 := .slice ax xs.length cx), (KA).oth10 (by omega) (u0 := .int .u16 (sa.toNat : Int)) (u1 := .int .u16 (sb.toNat : Int)) (u2 := .int .u32 (sq.toNat : Int)) (u3 := .int .u32 (sk.toNat : Int)) (u4 := .int .u8 (sr.toNat : Int)) (u5 := .int .u8 (sf.toNat : Int)) (u6 := .int .u16 (sz.toNat : Int)) (u7 := .int .u16 (su.toNat : Int)) (u8 := .slice ao os.length co2) (u9 := .slice ax xs.length cx), (KP).oth10 (by omega) (u0 := .int .u16 (sa.toNat : Int)) (u1 := .int .u16 (sb.toNat : Int)) (u2 := .int .u32 (sq.toNat : Int)) (u3 := .int .u32 (sk.toNat : Int)) (u4 := .int .u8 (sr.toNat : Int)) (u5 := .int .u8 (sf.toNat : Int)) (u6 := .int .u16 (sz.toNat : Int)) (u7 := .int .u16 (su.toNat : Int)) (u8 := .slice ao os.length co2) (u9 := .slice ax xs.length cx)⟩
    · obtain rfl := Option.some.inj hoo
      have hS : (uu 1 = .agg #[.int .u8 (ty.toNat : Int), .int .u8 (co.toNat : Int), .int .u32 (re.toNat : Int), .slice ai xi.length ci] ∧ uu 3 = .agg #[.int .u16 (a.toNat : Int), .int .u16 (b.toNat : Int), .bool g, .slice ad xd.length cd] ∧ uu 5 = .agg #[.int .u16 (sa.toNat : Int), .int .u16 (sb.toNat : Int), .int .u32 (sq.toNat : Int), .int .u32 (sk.toNat : Int), .int .u8 (sr.toNat : Int), .int .u8 (sf.toNat : Int), .int .u16 (sz.toNat : Int), .int .u16 (su.toNat : Int), .slice ao os.length co2, .slice ax xs.length cx] ∧ uu 7 = .agg #[.int .u8 (ptos.toNat : Int), .int .u16 (pid.toNat : Int), .bool pD, .bool pM, .int .u16 (pfo.toNat : Int), .int .u8 (pttl.toNat : Int), .int .u8 (ppr.toNat : Int), .int .u32 (ps.toNat : Int), .int .u32 (pd.toNat : Int), .slice ap ps1.length cp, .slice aq ps2.length cq]) ∧ Below w.heap.size w W ∧ Blk W w.heap.size [.int .u8 (ty.toNat : Int), .int .u8 (co.toNat : Int), .int .u32 (re.toNat : Int), .slice ai xi.length ci] 25 ∧ Blk W (w.heap.size + 1) [.int .u16 (a.toNat : Int), .int .u16 (b.toNat : Int), .bool g, .slice ad xd.length cd] 53 ∧ Blk W (w.heap.size + 2) [.int .u16 (sa.toNat : Int), .int .u16 (sb.toNat : Int), .int .u32 (sq.toNat : Int), .int .u32 (sk.toNat : Int), .int .u8 (sr.toNat : Int), .int .u8 (sf.toNat : Int), .int .u16 (sz.toNat : Int), .int .u16 (su.toNat : Int), .slice ao os.length co2, .slice ax xs.length cx] 59 ∧ Blk W (w.heap.size + 3) [.int .u16 op, .int .u8 m0, .int .u8 m1, .int .u8 m2, .int .u8 m3, .int .u8 m4, .int .u8 m5, .int .u32 s, .int .u8 k0, .int .u8 k1, .int .u8 k2, .int .u8 k3, .int .u8 k4, .int .u8 k5, .int .u32 d] 68 ∧ Blk W (w.heap.size + 4) [.int .u8 (ptos.toNat : Int), .int .u16 (pid.toNat : Int), .bool pD, .bool pM, .int .u16 (pfo.toNat : Int), .int .u8 (pttl.toNat : Int), .int .u8 (ppr.toNat : Int), .int .u32 (ps.toNat : Int), .int .u32 (pd.toNat : Int), .slice ap np cp, .slice aq nq cq] 38 := hS
      obtain ⟨⟨q1, q3, q5, q7⟩, hBW, KI, KD, KS, KA, KP⟩ := hS
      refine ⟨wanted_none rfl, ?_⟩
      generalize hev : Act.eval _ = ev
      have ec : ∀ c, ev (.const c) = c := fun c => by rw [← hev]; rfl
      have e10 : ev (.tmp 10) = .pointer (some ⟨w.heap.size + 4, 0, none⟩) := by rw [← hev]; exact eval_old (by kernel_rfl) 81 rfl (by decide) rfl
      have e21 : ev (.tmp 21) = .agg #[.int .u8 (ptos.toNat : Int), .int .u16 (pid.toNat : Int), .bool pD, .bool pM, .int .u16 (pfo.toNat : Int), .int .u8 (pttl.toNat : Int), .int .u8 (ppr.toNat : Int), .int .u32 (ps.toNat : Int), .int .u32 (pd.toNat : Int), .slice ap ps1.length cp, .slice aq ps2.length cq] := by rw [← hev]; exact (eval_put (by kernel_rfl) 81 rfl (by decide)).trans q7
      clear hev hdl
      obtain ⟨m0, m1, m2, m3, m4, m5, m6, m7, m8, m9, m10, k0, k1, k2, k3, k4, k5, k6, k7, k8, k9, k10⟩ := KP.get11
      refine .inl ⟨_, by (go_simp <;> rfl), rfl, ?_⟩
      exact ⟨⟨q1, q3, q5, q7⟩, bset11 hBW (by omega) (.int .u8 (ptos.toNat : Int)) (.int .u16 (pid.toNat : Int)) (.bool pD) (.bool pM) (.int .u16 (pfo.toNat : Int)) (.int .u8 (pttl.toNat : Int)) (.int .u8 (ppr.toNat : Int)) (.int .u32 (ps.toNat : Int)) (.int .u32 (pd.toNat : Int)) (.slice ap ps1.length cp) (.slice aq ps2.length cq), (KI).oth11 (by omega) (u0 := .int .u8 (ptos.toNat : Int)) (u1 := .int .u16 (pid.toNat : Int)) (u2 := .bool pD) (u3 := .bool pM) (u4 := .int .u16 (pfo.toNat : Int)) (u5 := .int .u8 (pttl.toNat : Int)) (u6 := .int .u8 (ppr.toNat : Int)) (u7 := .int .u32 (ps.toNat : Int)) (u8 := .int .u32 (pd.toNat : Int)) (u9 := .slice ap ps1.length cp) (u10 := .slice aq ps2.length cq), (KD).oth11 (by omega) (u0 := .int .u8 (ptos.toNat : Int)) (u1 := .int .u16 (pid.toNat : Int)) (u2 := .bool pD) (u3 := .bool pM) (u4 := .int .u16 (pfo.toNat : Int)) (u5 := .int .u8 (pttl.toNat : Int)) (u6 := .int .u8 (ppr.toNat : Int)) (u7 := .int .u32 (ps.toNat : Int)) (u8 := .int .u32 (pd.toNat : Int)) (u9 := .slice ap ps1.length cp) (u10 := .slice aq ps2.length cq), (KS).oth11 (by omega) (u0 := .int .u8 (ptos.toNat : Int)) (u1 := .int .u16 (pid.toNat : Int)) (u2 := .bool pD) (u3 := .bool pM) (u4 := .int .u16 (pfo.toNat : Int)) (u5 := .int .u8 (pttl.toNat : Int)) (u6 := .int .u8 (ppr.toNat : Int)) (u7 := .int .u32 (ps.toNat : Int)) (u8 := .int .u32 (pd.toNat : Int)) (u9 := .slice ap ps1.length cp) (u10 := .slice aq ps2.length cq), (KA).oth11 (by omega) (u0 := .int .u8 (ptos.toNat : Int)) (u1 := .int .u16 (pid.toNat : Int)) (u2 := .bool pD) (u3 := .bool pM) (u4 := .int .u16 (pfo.toNat : Int)) (u5 := .int .u8 (pttl.toNat : Int)) (u6 := .int .u8 (ppr.toNat : Int)) (u7 := .int .u32 (ps.toNat : Int)) (u8 := .int .u32 (pd.toNat : Int)) (u9 := .slice ap ps1.length cp) (u10 := .slice aq ps2.length cq), (KP).set11 (u0 := .int .u8 (ptos.toNat : Int)) (u1 := .int .u16 (pid.toNat : Int)) (u2 := .bool pD) (u3 := .bool pM) (u4 := .int .u16 (pfo.toNat : Int)) (u5 := .int .u8 (pttl.toNat : Int)) (u6 := .int .u8 (ppr.toNat : Int)) (u7 := .int .u32 (ps.toNat : Int)) (u8 := .int .u32 (pd.toNat : Int)) (u9 := .slice ap ps1.length cp) (u10 := .slice aq ps2.length cq)⟩
    · omega
  · intro uu W hS hlast
    have hS : (uu 1 = .agg #[.int .u8 (ty.toNat : Int), .int .u8 (co.toNat : Int), .int .u32 (re.toNat : Int), .slice ai xi.length ci] ∧ uu 3 = .agg #[.int .u16 (a.toNat : Int), .int .u16 (b.toNat : Int), .bool g, .slice ad xd.length cd] ∧ uu 5 = .agg #[.int .u16 (sa.toNat : Int), .int .u16 (sb.toNat : Int), .int .u32 (sq.toNat : Int), .int .u32 (sk.toNat : Int), .int .u8 (sr.toNat : Int), .int .u8 (sf.toNat : Int), .int .u16 (sz.toNat : Int), .int .u16 (su.toNat : Int), .slice ao os.length co2, .slice ax xs.length cx] ∧ uu 7 = .agg #[.int .u8 (ptos.toNat : Int), .int .u16 (pid.toNat : Int), .bool pD, .bool pM, .int .u16 (pfo.toNat : Int), .int .u8 (pttl.toNat : Int), .int .u8 (ppr.toNat : Int), .int .u32 (ps.toNat : Int), .int .u32 (pd.toNat : Int), .slice ap ps1.length cp, .slice aq ps2.length cq]) ∧ Below w.heap.size w W ∧ Blk W w.heap.size [.int .u8 (ty.toNat : Int), .int .u8 (co.toNat : Int), .int .u32 (re.toNat : Int), .slice ai xi.length ci] 25 ∧ Blk W (w.heap.size + 1) [.int .u16 (a.toNat : Int), .int .u16 (b.toNat : Int), .bool g, .slice ad xd.length cd] 53 ∧ Blk W (w.heap.size + 2) [.int .u16 (sa.toNat : Int), .int .u16 (sb.toNat : Int), .int .u32 (sq.toNat : Int), .int .u32 (sk.toNat : Int), .int .u8 (sr.toNat : Int), .int .u8 (sf.toNat : Int), .int .u16 (sz.toNat : Int), .int .u16 (su.toNat : Int), .slice ao os.length co2, .slice ax xs.length cx] 59 ∧ Blk W (w.heap.size + 3) [.int .u16 op, .int .u8 m0, .int .u8 m1, .int .u8 m2, .int .u8 m3, .int .u8 m4, .int .u8 m5, .int .u32 s, .int .u8 k0, .int .u8 k1, .int .u8 k2, .int .u8 k3, .int .u8 k4, .int .u8 k5, .int .u32 d] 68 ∧ Blk W (w.heap.size + 4) [.int .u8 (ptos.toNat : Int), .int .u16 (pid.toNat : Int), .bool pD, .bool pM, .int .u16 (pfo.toNat : Int), .int .u8 (pttl.toNat : Int), .int .u8 (ppr.toNat : Int), .int .u32 (ps.toNat : Int), .int .u32 (pd.toNat : Int), .slice ap ps1.length cp, .slice aq ps2.length cq] 38 := hS
    obtain ⟨⟨q1, q3, q5, q7⟩, hBW, KI, KD, KS, KA, KP⟩ := hS
    clear HFI HFD HFS HFP q1 q3 q5 q7
    have hB := hBW
    clear hBW
    simp only [putAll, Act.put, Nat.reduceAdd]
    simp only [List.setIfInBounds_toArray, List.set_cons_succ, List.set_cons_zero]
    generalize W = V1 at *
    obtain ⟨p0, p1, p2, p3, pf0, pf1, pf2, pf3⟩ := KI.get4
    go_wp2_with fail
    refine (kind_icmp ty co re ai ci xi _).mono ?_
    rintro e w_n ⟨rfl, hbel⟩
    replace hB := bnext hB hbel
    replace KI := KI.next hbel
    replace KD := KD.next hbel
    replace KS := KS.next hbel
    replace KA := KA.next hbel
    replace KP := KP.next hbel
    clear hbel p0 p1 p2 p3 pf0 pf1 pf2 pf3
    obtain ⟨p0, p1, p2, p3, pf0, pf1, pf2, pf3⟩ := KD.get4
    go_wp2_with fail
    refine (kind_dg a b g ad cd xd _).mono ?_
    rintro e w_n ⟨rfl, hbel⟩
    replace hB := bnext hB hbel
    replace KI := KI.next hbel
    replace KD := KD.next hbel
    replace KS := KS.next hbel
    replace KA := KA.next hbel
    replace KP := KP.next hbel
    clear hbel p0 p1 p2 p3 pf0 pf1 pf2 pf3
    obtain ⟨p0, p1, p2, p3, p4, p5, p6, p7, p8, p9, pf0, pf1, pf2, pf3, pf4, pf5, pf6, pf7, pf8, pf9⟩ := KS.get10
    go_wp2_with fail
    refine (kind_sg sa sb sq sk sr sf sz su ao ax co2 cx os xs _).mono ?_
    rintro e w_n ⟨rfl, hbel⟩
    replace hB := bnext hB hbel
    replace KI := KI.next hbel
    replace KD := KD.next hbel
    replace KS := KS.next hbel
    replace KA := KA.next hbel
    replace KP := KP.next hbel
    clear hbel p0 p1 p2 p3 p4 p5 p6 p7 p8 p9 pf0 pf1 pf2 pf3 pf4 pf5 pf6 pf7 pf8 pf9
    obtain ⟨p0, p1, p2, p3, p4, p5, p6, p7, p8, p9, p10, p11, p12, p13, p14, pf0, pf1, pf2, pf3, pf4, pf5, pf6, pf7, pf8, pf9, pf10, pf11, pf12, pf13, pf14⟩ := KA.get15
    go_wp2_with fail
    refine (kind_arp op m0 m1 m2 m3 m4 m5 s k0 k1 k2 k3 k4 k5 d _).mono ?_
    rintro e w_n ⟨rfl, hbel⟩
    replace hB := bnext hB hbel
    replace KI := KI.next hbel
    replace KD := KD.next hbel
    replace KS := KS.next hbel
    replace KA := KA.next hbel
    replace KP := KP.next hbel
    clear hbel p0 p1 p2 p3 p4 p5 p6 p7 p8 p9 p10 p11 p12 p13 p14 pf0 pf1 pf2 pf3 pf4 pf5 pf6 pf7 pf8 pf9 pf10 pf11 pf12 pf13 pf14
    obtain ⟨p0, p1, p2, p3, p4, p5, p6, p7, p8, p9, p10, pf0, pf1, pf2, pf3, pf4, pf5, pf6, pf7, pf8, pf9, pf10⟩ := KP.get11
    go_wp2_with fail
    refine (kind_pk ptos pid pD pM pfo pttl ppr ps pd ap aq cp cq ps1 ps2 _).mono ?_
    rintro e w_n ⟨rfl, hbel⟩
    replace hB := bnext hB hbel
    replace KI := KI.next hbel
    replace KD := KD.next hbel
    replace KS := KS.next hbel
    replace KA := KA.next hbel
    replace KP := KP.next hbel
    clear hbel p0 p1 p2 p3 p4 p5 p6 p7 p8 p9 p10 pf0 pf1 pf2 pf3 pf4 pf5 pf6 pf7 pf8 pf9 pf10
    go_wp2_with fail
    refine (kind_int n5 _).mono ?_
    rintro e w_n ⟨rfl, hbel⟩
    replace hB := bnext hB hbel
    replace KI := KI.next hbel
    replace KD := KD.next hbel
    replace KS := KS.next hbel
    replace KA := KA.next hbel
    replace KP := KP.next hbel
    clear hbel KA KP
    go_wp2_with fail
    replace ri := ri.next hB
    replace rd := rd.next hB
    replace ro := ro.next hB
    replace rx := rx.next hB
    refine region_put (by kernel_rfl) (by kernel_rfl) (by kernel_rfl) 81 rfl (by kernel_rfl) w_n (fun i v W => match i with
        | 0 => v = .bool true
        | 1 => v = .bool true
        | 2 => v = .agg #[.int .u8 (ty.toNat : Int), .int .u8 (co.toNat : Int), .int .u32 (re.toNat : Int), .slice ai xi.length ci]
        | 3 => v = .iface 25 (.agg #[.int .u8 (ty.toNat : Int), .int .u8 (co.toNat : Int), .int .u32 (re.toNat : Int), .slice ai xi.length ci])
        | 4 => v = .agg #[.int .u8 (ty.toNat : Int), .int .u8 (co.toNat : Int), .int .u32 (re.toNat : Int), .slice ai xi.length ci]
        | 5 => v = .agg #[.int .u8 (ty.toNat : Int), .int .u8 (co.toNat : Int), .int .u32 (re.toNat : Int), .slice ai xi.length ci]
        | 6 => v = .bool true
        | 7 => v = .bool true
        | 8 => v = .bool true
        | 9 => v = .agg #[.int .u16 (a.toNat : Int), .int .u16 (b.toNat : Int), .bool g, .slice ad xd.length cd]
        | 10 => v = .iface 53 (.agg #[.int .u16 (a.toNat : Int), .int .u16 (b.toNat : Int), .bool g, .slice ad xd.length cd])
        | 11 => v = .agg #[.int .u16 (a.toNat : Int), .int .u16 (b.toNat : Int), .bool g, .slice ad xd.length cd]
        | 12 => v = .agg #[.int .u16 (a.toNat : Int), .int .u16 (b.toNat : Int), .bool g, .slice ad xd.length cd]
        | 13 => v = .bool true
        | 14 => v = .bool true
        | 15 => v = .bool true
        | 16 => v = .agg #[.int .u16 (sa.toNat : Int), .int .u16 (sb.toNat : Int), .int .u32 (sq.toNat : Int), .int .u32 (sk.toNat : Int), .int .u8 (sr.toNat : Int), .int .u8 (sf.toNat : Int), .int .u16 (sz.toNat : Int), .int .u16 (su.toNat : Int), .slice ao os.length co2, .slice ax xs.length cx]
        | 17 => v = .iface 59 (.agg #[.int .u16 (sa.toNat : Int), .int .u16 (sb.toNat : Int), .int .u32 (sq.toNat : Int), .int .u32 (sk.toNat : Int), .int .u8 (sr.toNat : Int), .int .u8 (sf.toNat : Int), .int .u16 (sz.toNat : Int), .int .u16 (su.toNat : Int), .slice ao os.length co2, .slice ax xs.length cx])
        | 18 => v = .agg #[.int .u16 (sa.toNat : Int), .int .u16 (sb.toNat : Int), .int .u32 (sq.toNat : Int), .int .u32 (sk.toNat : Int), .int .u8 (sr.toNat : Int), .int .u8 (sf.toNat : Int), .int .u16 (sz.toNat : Int), .int .u16 (su.toNat : Int), .slice ao os.length co2, .slice ax xs.length cx]
        | 19 => v = .agg #[.int .u16 (sa.toNat : Int), .int .u16 (sb.toNat : Int), .int .u32 (sq.toNat : Int), .int .u32 (sk.toNat : Int), .int .u8 (sr.toNat : Int), .int .u8 (sf.toNat : Int), .int .u16 (sz.toNat : Int), .int .u16 (su.toNat : Int), .slice ao os.length co2, .slice ax xs.length cx]
        | 20 => v = .bool true
        | 21 => v = .bool true
        | 22 => v = .bool true
        | 23 => v = .bool true
        | 24 => v = .bool true
        | 25 => v = .bool true
        | _ => True) (Below.refl _ _) ?_ ?_ ?_
    · intro i v W W' h hb
      match i, h with
      | 0, h => exact h
      | 1, h => exact h
      | 2, h => exact h
      | 3, h => exact h
      | 4, h => exact h
      | 5, h => exact h
      | 6, h => exact h
      | 7, h => exact h
      | 8, h => exact h
      | 9, h => exact h
      | 10, h => exact h
      | 11, h => exact h
      | 12, h => exact h
      | 13, h => exact h
      | 14, h => exact h
      | 15, h => exact h
      | 16, h => exact h
      | 17, h => exact h
      | 18, h => exact h
      | 19, h => exact h
      | 20, h => exact h
      | 21, h => exact h
      | 22, h => exact h
      | 23, h => exact h
      | 24, h => exact h
      | 25, h => exact h
      | _ + 26, _ => trivial
    · intro i o uu W hoo hVW hd
      rcases i with _|_|_|_|_|_|_|_|_|_|_|_|_|_|_|_|_|_|_|_|_|_|_|_|_|_|i
      · obtain rfl := Option.some.inj hoo
        refine .inl ⟨wanted_none rfl, ?_⟩
        generalize hev : Act.eval _ = ev
        have ec : ∀ c, ev (.const c) = c := fun c => by rw [← hev]; rfl
        have e13 : ev (.tmp 13) = .bool true := by rw [← hev]; exact eval_old (by kernel_rfl) 81 rfl (by decide) rfl
        clear hev hd
        exact .inl ⟨_, W, by go_simp, rfl, Below.refl _ _⟩
      · obtain rfl := Option.some.inj hoo
        have q0 : uu 0 = .bool true := hd 0 (by kernel_rfl)
        refine .inl ⟨wanted_none rfl, ?_⟩
        generalize hev : Act.eval _ = ev
        have ec : ∀ c, ev (.const c) = c := fun c => by rw [← hev]; rfl
        have e56 : ev (.tmp 56) = .bool true := by rw [← hev]; exact (eval_put (by kernel_rfl) 81 rfl (by decide)).trans q0
        clear hev hd q0
        exact .inl ⟨_, W, by go_simp, rfl, Below.refl _ _⟩
      · obtain rfl := Option.some.inj hoo
        have q1 : uu 1 = .bool true := hd 1 (by kernel_rfl)
        refine .inl ⟨wanted_yes rfl (yielded_put (k := 57) (by kernel_rfl) (by kernel_rfl) 81 rfl (by decide) q1), ?_⟩
        generalize hev : Act.eval _ = ev
        have ec : ∀ c, ev (.const c) = c := fun c => by rw [← hev]; rfl
        have e6 : ev (.tmp 6) = .pointer (some ⟨w.heap.size, 0, none⟩) := by rw [← hev]; exact eval_old (by kernel_rfl) 81 rfl (by decide) rfl
        clear hev hd q1
        exact .inl ⟨_, W, load_blk Try.underlying25 (by kernel_rfl) (KI.next hVW) rfl e6, rfl, Below.refl _ _⟩
      · obtain rfl := Option.some.inj hoo
        have q2 : uu 2 = .agg #[.int .u8 (ty.toNat : Int), .int .u8 (co.toNat : Int), .int .u32 (re.toNat : Int), .slice ai xi.length ci] := hd 2 (by kernel_rfl)
        have q1 : uu 1 = .bool true := hd 1 (by kernel_rfl)
        refine .inl ⟨wanted_yes rfl (yielded_put (k := 57) (by kernel_rfl) (by kernel_rfl) 81 rfl (by decide) q1), ?_⟩
        generalize hev : Act.eval _ = ev
        have ec : ∀ c, ev (.const c) = c := fun c => by rw [← hev]; rfl
        have e58 : ev (.tmp 58) = .agg #[.int .u8 (ty.toNat : Int), .int .u8 (co.toNat : Int), .int .u32 (re.toNat : Int), .slice ai xi.length ci] := by rw [← hev]; exact (eval_put (by kernel_rfl) 81 rfl (by decide)).trans q2
        clear hev hd q2 q1
        exact .inl ⟨_, W, by go_simp, rfl, Below.refl _ _⟩
      · obtain rfl := Option.some.inj hoo
        have q3 : uu 3 = .iface 25 (.agg #[.int .u8 (ty.toNat : Int), .int .u8 (co.toNat : Int), .int .u32 (re.toNat : Int), .slice ai xi.length ci]) := hd 3 (by kernel_rfl)
        have q1 : uu 1 = .bool true := hd 1 (by kernel_rfl)
        refine .inl ⟨wanted_yes rfl (yielded_put (k := 57) (by kernel_rfl) (by kernel_rfl) 81 rfl (by decide) q1), ?_⟩
        generalize hev : Act.eval _ = ev
        have ec : ∀ c, ev (.const c) = c := fun c => by rw [← hev]; rfl
        have ef : ∀ f, ev (.func f) = .func (.func f) #[] #[] := fun f => by rw [← hev]; rfl
        have e59 : ev (.tmp 59) = .iface 25 (.agg #[.int .u8 (ty.toNat : Int), .int .u8 (co.toNat : Int), .int .u32 (re.toNat : Int), .slice ai xi.length ci]) := by rw [← hev]; exact (eval_put (by kernel_rfl) 81 rfl (by decide)).trans q3
        clear hev hd q3 q1
        exact .inr ⟨_, _, _, by go_simp, must_icmp ty co re ai ci xi W, fun e w' he => ⟨_, he.1, rfl, he.2⟩⟩
      · obtain rfl := Option.some.inj hoo
        have q1 : uu 1 = .bool true := hd 1 (by kernel_rfl)
        refine .inl ⟨wanted_yes rfl (yielded_put (k := 57) (by kernel_rfl) (by kernel_rfl) 81 rfl (by decide) q1), ?_⟩
        generalize hev : Act.eval _ = ev
        have ec : ∀ c, ev (.const c) = c := fun c => by rw [← hev]; rfl
        have e6 : ev (.tmp 6) = .pointer (some ⟨w.heap.size, 0, none⟩) := by rw [← hev]; exact eval_old (by kernel_rfl) 81 rfl (by decide) rfl
        clear hev hd q1
        exact .inl ⟨_, W, load_blk Try.underlying25 (by kernel_rfl) (KI.next hVW) rfl e6, rfl, Below.refl _ _⟩
      · obtain rfl := Option.some.inj hoo
        have q4 : uu 4 = .agg #[.int .u8 (ty.toNat : Int), .int .u8 (co.toNat : Int), .int .u32 (re.toNat : Int), .slice ai xi.length ci] := hd 4 (by kernel_rfl)
        have q5 : uu 5 = .agg #[.int .u8 (ty.toNat : Int), .int .u8 (co.toNat : Int), .int .u32 (re.toNat : Int), .slice ai xi.length ci] := hd 5 (by kernel_rfl)
        have q1 : uu 1 = .bool true := hd 1 (by kernel_rfl)
        refine .inl ⟨wanted_yes rfl (yielded_put (k := 57) (by kernel_rfl) (by kernel_rfl) 81 rfl (by decide) q1), ?_⟩
        generalize hev : Act.eval _ = ev
        have ec : ∀ c, ev (.const c) = c := fun c => by rw [← hev]; rfl
        have ef : ∀ f, ev (.func f) = .func (.func f) #[] #[] := fun f => by rw [← hev]; rfl
        have e60 : ev (.tmp 60) = .agg #[.int .u8 (ty.toNat : Int), .int .u8 (co.toNat : Int), .int .u32 (re.toNat : Int), .slice ai xi.length ci] := by rw [← hev]; exact (eval_put (by kernel_rfl) 81 rfl (by decide)).trans q4
        have e61 : ev (.tmp 61) = .agg #[.int .u8 (ty.toNat : Int), .int .u8 (co.toNat : Int), .int .u32 (re.toNat : Int), .slice ai xi.length ci] := by rw [← hev]; exact (eval_put (by kernel_rfl) 81 rfl (by decide)).trans q5
        clear hev hd q4 q5 q1
        exact .inr ⟨_, _, _, by go_simp, isame_yes ty co re ai ai ci ci xi W (ri.next hVW) (ri.next hVW), fun e w' he => ⟨_, he.1, rfl, he.2⟩⟩
      · obtain rfl := Option.some.inj hoo
        have q1 : uu 1 = .bool true := hd 1 (by kernel_rfl)
        have q6 : uu 6 = .bool true := hd 6 (by kernel_rfl)
        refine .inl ⟨wanted_none rfl, ?_⟩
        generalize hev : Act.eval _ = ev
        have ec : ∀ c, ev (.const c) = c := fun c => by rw [← hev]; rfl
        have e57 : ev (.tmp 57) = .bool true := by rw [← hev]; exact (eval_put (by kernel_rfl) 81 rfl (by decide)).trans q1
        have e62 : ev (.tmp 62) = .bool true := by rw [← hev]; exact (eval_put (by kernel_rfl) 81 rfl (by decide)).trans q6
        clear hev hd q1 q6
        exact .inl ⟨_, W, by go_simp, rfl, Below.refl _ _⟩
      · obtain rfl := Option.some.inj hoo
        have q7 : uu 7 = .bool true := hd 7 (by kernel_rfl)
        refine .inl ⟨wanted_none rfl, ?_⟩
        generalize hev : Act.eval _ = ev
        have ec : ∀ c, ev (.const c) = c := fun c => by rw [← hev]; rfl
        have e63 : ev (.tmp 63) = .bool true := by rw [← hev]; exact (eval_put (by kernel_rfl) 81 rfl (by decide)).trans q7
        clear hev hd q7
        exact .inl ⟨_, W, by go_simp, rfl, Below.refl _ _⟩
      · obtain rfl := Option.some.inj hoo
        have q8 : uu 8 = .bool true := hd 8 (by kernel_rfl)
        refine .inl ⟨wanted_yes rfl (yielded_put (k := 64) (by kernel_rfl) (by kernel_rfl) 81 rfl (by decide) q8), ?_⟩
        generalize hev : Act.eval _ = ev
        have ec : ∀ c, ev (.const c) = c := fun c => by rw [← hev]; rfl
        have e7 : ev (.tmp 7) = .pointer (some ⟨w.heap.size + 1, 0, none⟩) := by rw [← hev]; exact eval_old (by kernel_rfl) 81 rfl (by decide) rfl
        clear hev hd q8
        exact .inl ⟨_, W, load_blk Try.underlying53 (by kernel_rfl) (KD.next hVW) rfl e7, rfl, Below.refl _ _⟩
      · obtain rfl := Option.some.inj hoo
        have q9 : uu 9 = .agg #[.int .u16 (a.toNat : Int), .int .u16 (b.toNat : Int), .bool g, .slice ad xd.length cd] := hd 9 (by kernel_rfl)
        have q8 : uu 8 = .bool true := hd 8 (by kernel_rfl)
        refine .inl ⟨wanted_yes rfl (yielded_put (k := 64) (by kernel_rfl) (by kernel_rfl) 81 rfl (by decide) q8), ?_⟩
        generalize hev : Act.eval _ = ev
        have ec : ∀ c, ev (.const c) = c := fun c => by rw [← hev]; rfl
        have e65 : ev (.tmp 65) = .agg #[.int .u16 (a.toNat : Int), .int .u16 (b.toNat : Int), .bool g, .slice ad xd.length cd] := by rw [← hev]; exact (eval_put (by kernel_rfl) 81 rfl (by decide)).trans q9
        clear hev hd q9 q8
        exact .inl ⟨_, W, by go_simp, rfl, Below.refl _ _⟩
      · obtain rfl := Option.some.inj hoo
        have q10 : uu 10 = .iface 53 (.agg #[.int .u16 (a.toNat : Int), .int .u16 (b.toNat : Int), .bool g, .slice ad xd.length cd]) := hd 10 (by kernel_rfl)
        have q8 : uu 8 = .bool true := hd 8 (by kernel_rfl)
        refine .inl ⟨wanted_yes rfl (yielded_put (k := 64) (by kernel_rfl) (by kernel_rfl) 81 rfl (by decide) q8), ?_⟩
        generalize hev : Act.eval _ = ev
        have ec : ∀ c, ev (.const c) = c := fun c => by rw [← hev]; rfl
        have ef : ∀ f, ev (.func f) = .func (.func f) #[] #[] := fun f => by rw [← hev]; rfl
        have e66 : ev (.tmp 66) = .iface 53 (.agg #[.int .u16 (a.toNat : Int), .int .u16 (b.toNat : Int), .bool g, .slice ad xd.length cd]) := by rw [← hev]; exact (eval_put (by kernel_rfl) 81 rfl (by decide)).trans q10
        clear hev hd q10 q8
        exact .inr ⟨_, _, _, by go_simp, must_dg a b g ad cd xd W, fun e w' he => ⟨_, he.1, rfl, he.2⟩⟩
      · obtain rfl := Option.some.inj hoo
        have q8 : uu 8 = .bool true := hd 8 (by kernel_rfl)
        refine .inl ⟨wanted_yes rfl (yielded_put (k := 64) (by kernel_rfl) (by kernel_rfl) 81 rfl (by decide) q8), ?_⟩
        generalize hev : Act.eval _ = ev
        have ec : ∀ c, ev (.const c) = c := fun c => by rw [← hev]; rfl
        have e7 : ev (.tmp 7) = .pointer (some ⟨w.heap.size + 1, 0, none⟩) := by rw [← hev]; exact eval_old (by kernel_rfl) 81 rfl (by decide) rfl
        clear hev hd q8
        exact .inl ⟨_, W, load_blk Try.underlying53 (by kernel_rfl) (KD.next hVW) rfl e7, rfl, Below.refl _ _⟩
      · obtain rfl := Option.some.inj hoo
        have q11 : uu 11 = .agg #[.int .u16 (a.toNat : Int), .int .u16 (b.toNat : Int), .bool g, .slice ad xd.length cd] := hd 11 (by kernel_rfl)
        have q12 : uu 12 = .agg #[.int .u16 (a.toNat : Int), .int .u16 (b.toNat : Int), .bool g, .slice ad xd.length cd] := hd 12 (by kernel_rfl)
        have q8 : uu 8 = .bool true := hd 8 (by kernel_rfl)
        refine .inl ⟨wanted_yes rfl (yielded_put (k := 64) (by kernel_rfl) (by kernel_rfl) 81 rfl (by decide) q8), ?_⟩
        generalize hev : Act.eval _ = ev
        have ec : ∀ c, ev (.const c) = c := fun c => by rw [← hev]; rfl
        have ef : ∀ f, ev (.func f) = .func (.func f) #[] #[] := fun f => by rw [← hev]; rfl
        have e67 : ev (.tmp 67) = .agg #[.int .u16 (a.toNat : Int), .int .u16 (b.toNat : Int), .bool g, .slice ad xd.length cd] := by rw [← hev]; exact (eval_put (by kernel_rfl) 81 rfl (by decide)).trans q11
        have e68 : ev (.tmp 68) = .agg #[.int .u16 (a.toNat : Int), .int .u16 (b.toNat : Int), .bool g, .slice ad xd.length cd] := by rw [← hev]; exact (eval_put (by kernel_rfl) 81 rfl (by decide)).trans q12
        clear hev hd q11 q12 q8
        exact .inr ⟨_, _, _, by go_simp, usame_yes a b g ad ad cd cd xd xd W (rd.next hVW) (rd.next hVW) rfl, fun e w' he => ⟨_, he.1, rfl, he.2⟩⟩
      · obtain rfl := Option.some.inj hoo
        have q8 : uu 8 = .bool true := hd 8 (by kernel_rfl)
        have q13 : uu 13 = .bool true := hd 13 (by kernel_rfl)
        refine .inl ⟨wanted_none rfl, ?_⟩
        generalize hev : Act.eval _ = ev
        have ec : ∀ c, ev (.const c) = c := fun c => by rw [← hev]; rfl
        have e64 : ev (.tmp 64) = .bool true := by rw [← hev]; exact (eval_put (by kernel_rfl) 81 rfl (by decide)).trans q8
        have e69 : ev (.tmp 69) = .bool true := by rw [← hev]; exact (eval_put (by kernel_rfl) 81 rfl (by decide)).trans q13
        clear hev hd q8 q13
        exact .inl ⟨_, W, by go_simp, rfl, Below.refl _ _⟩
      · obtain rfl := Option.some.inj hoo
        have q14 : uu 14 = .bool true := hd 14 (by kernel_rfl)
        refine .inl ⟨wanted_none rfl, ?_⟩
        generalize hev : Act.eval _ = ev
        have ec : ∀ c, ev (.const c) = c := fun c => by rw [← hev]; rfl
        have e70 : ev (.tmp 70) = .bool true := by rw [← hev]; exact (eval_put (by kernel_rfl) 81 rfl (by decide)).trans q14
        clear hev hd q14
        exact .inl ⟨_, W, by go_simp, rfl, Below.refl _ _⟩
      · obtain rfl := Option.some.inj hoo
        have q15 : uu 15 = .bool true := hd 15 (by kernel_rfl)
        refine .inl ⟨wanted_yes rfl (yielded_put (k := 71) (by kernel_rfl) (by kernel_rfl) 81 rfl (by decide) q15), ?_⟩
        generalize hev : Act.eval _ = ev
        have ec : ∀ c, ev (.const c) = c := fun c => by rw [← hev]; rfl
        have e8 : ev (.tmp 8) = .pointer (some ⟨w.heap.size + 2, 0, none⟩) := by rw [← hev]; exact eval_old (by kernel_rfl) 81 rfl (by decide) rfl
        clear hev hd q15
        exact .inl ⟨_, W, load_blk Try.underlying59 (by kernel_rfl) (KS.next hVW) rfl e8, rfl, Below.refl _ _⟩
      · obtain rfl := Option.some.inj hoo
        have q16 : uu 16 = .agg #[.int .u16 (sa.toNat : Int), .int .u16 (sb.toNat : Int), .int .u32 (sq.toNat : Int), .int .u32 (sk.toNat : Int), .int .u8 (sr.toNat : Int), .int .u8 (sf.toNat : Int), .int .u16 (sz.toNat : Int), .int .u16 (su.toNat : Int), .slice ao os.length co2, .slice ax xs.length cx] := hd 16 (by kernel_rfl)
        have q15 : uu 15 = .bool true := hd 15 (by kernel_rfl)
        refine .inl ⟨wanted_yes rfl (yielded_put (k := 71) (by kernel_rfl) (by kernel_rfl) 81 rfl (by decide) q15), ?_⟩
        generalize hev : Act.eval _ = ev
        have ec : ∀ c, ev (.const c) = c := fun c => by rw [← hev]; rfl
        have e72 : ev (.tmp 72) = .agg #[.int .u16 (sa.toNat : Int), .int .u16 (sb.toNat : Int), .int .u32 (sq.toNat : Int), .int .u32 (sk.toNat : Int), .int .u8 (sr.toNat : Int), .int .u8 (sf.toNat : Int), .int .u16 (sz.toNat : Int), .int .u16 (su.toNat : Int), .slice ao os.length co2, .slice ax xs.length cx] := by rw [← hev]; exact (eval_put (by kernel_rfl) 81 rfl (by decide)).trans q16
        clear hev hd q16 q15
        exact .inl ⟨_, W, by go_simp, rfl, Below.refl _ _⟩
      · obtain rfl := Option.some.inj hoo
        have q17 : uu 17 = .iface 59 (.agg #[.int .u16 (sa.toNat : Int), .int .u16 (sb.toNat : Int), .int .u32 (sq.toNat : Int), .int .u32 (sk.toNat : Int), .int .u8 (sr.toNat : Int), .int .u8 (sf.toNat : Int), .int .u16 (sz.toNat : Int), .int .u16 (su.toNat : Int), .slice ao os.length co2, .slice ax xs.length cx]) := hd 17 (by kernel_rfl)
        have q15 : uu 15 = .bool true := hd 15 (by kernel_rfl)
        refine .inl ⟨wanted_yes rfl (yielded_put (k := 71) (by kernel_rfl) (by kernel_rfl) 81 rfl (by decide) q15), ?_⟩
        generalize hev : Act.eval _ = ev
        have ec : ∀ c, ev (.const c) = c := fun c => by rw [← hev]; rfl
        have ef : ∀ f, ev (.func f) = .func (.func f) #[] #[] := fun f => by rw [← hev]; rfl
        have e73 : ev (.tmp 73) = .iface 59 (.agg #[.int .u16 (sa.toNat : Int), .int .u16 (sb.toNat : Int), .int .u32 (sq.toNat : Int), .int .u32 (sk.toNat : Int), .int .u8 (sr.toNat : Int), .int .u8 (sf.toNat : Int), .int .u16 (sz.toNat : Int), .int .u16 (su.toNat : Int), .slice ao os.length co2, .slice ax xs.length cx]) := by rw [← hev]; exact (eval_put (by kernel_rfl) 81 rfl (by decide)).trans q17
        clear hev hd q17 q15
        exact .inr ⟨_, _, _, by go_simp, must_sg sa sb sq sk sr sf sz su ao ax co2 cx os xs W, fun e w' he => ⟨_, he.1, rfl, he.2⟩⟩
      · obtain rfl := Option.some.inj hoo
        have q15 : uu 15 = .bool true := hd 15 (by kernel_rfl)
        refine .inl ⟨wanted_yes rfl (yielded_put (k := 71) (by kernel_rfl) (by kernel_rfl) 81 rfl (by decide) q15), ?_⟩
        generalize hev : Act.eval _ = ev
        have ec : ∀ c, ev (.const c) = c := fun c => by rw [← hev]; rfl
        have e8 : ev (.tmp 8) = .pointer (some ⟨w.heap.size + 2, 0, none⟩) := by rw [← hev]; exact eval_old (by kernel_rfl) 81 rfl (by decide) rfl
        clear hev hd q15
        exact .inl ⟨_, W, load_blk Try.underlying59 (by kernel_rfl) (KS.next hVW) rfl e8, rfl, Below.refl _ _⟩
      · obtain rfl := Option.some.inj hoo
        have q18 : uu 18 = .agg #[.int .u16 (sa.toNat : Int), .int .u16 (sb.toNat : Int), .int .u32 (sq.toNat : Int), .int .u32 (sk.toNat : Int), .int .u8 (sr.toNat : Int), .int .u8 (sf.toNat : Int), .int .u16 (sz.toNat : Int), .int .u16 (su.toNat : Int), .slice ao os.length co2, .slice ax xs.length cx] := hd 18 (by kernel_rfl)
        have q19 : uu 19 = .agg #[.int .u16 (sa.toNat : Int), .int .u16 (sb.toNat : Int), .int .u32 (sq.toNat : Int), .int .u32 (sk.toNat : Int), .int .u8 (sr.toNat : Int), .int .u8 (sf.toNat : Int), .int .u16 (sz.toNat : Int), .int .u16 (su.toNat : Int), .slice ao os.length co2, .slice ax xs.length cx] := hd 19 (by kernel_rfl)
        have q15 : uu 15 = .bool true := hd 15 (by kernel_rfl)
        refine .inl ⟨wanted_yes rfl (yielded_put (k := 71) (by kernel_rfl) (by kernel_rfl) 81 rfl (by decide) q15), ?_⟩
        generalize hev : Act.eval _ = ev
        have ec : ∀ c, ev (.const c) = c := fun c => by rw [← hev]; rfl
        have ef : ∀ f, ev (.func f) = .func (.func f) #[] #[] := fun f => by rw [← hev]; rfl
        have e74 : ev (.tmp 74) = .agg #[.int .u16 (sa.toNat : Int), .int .u16 (sb.toNat : Int), .int .u32 (sq.toNat : Int), .int .u32 (sk.toNat : Int), .int .u8 (sr.toNat : Int), .int .u8 (sf.toNat : Int), .int .u16 (sz.toNat : Int), .int .u16 (su.toNat : Int), .slice ao os.length co2, .slice ax xs.length cx] := by rw [← hev]; exact (eval_put (by kernel_rfl) 81 rfl (by decide)).trans q18
        have e75 : ev (.tmp 75) = .agg #[.int .u16 (sa.toNat : Int), .int .u16 (sb.toNat : Int), .int .u32 (sq.toNat : Int), .int .u32 (sk.toNat : Int), .int .u8 (sr.toNat : Int), .int .u8 (sf.toNat : Int), .int .u16 (sz.toNat : Int), .int .u16 (su.toNat : Int), .slice ao os.length co2, .slice ax xs.length cx] := by rw [← hev]; exact (eval_put (by kernel_rfl) 81 rfl (by decide)).trans q19
        clear hev hd q18 q19 q15
        exact .inr ⟨_, _, _, by go_simp, tsame_yes sa sb sq sk sr sf sz su ao ax ao ax co2 cx co2 cx os xs os xs W (ro.next hVW) (rx.next hVW) (ro.next hVW) (rx.next hVW) rfl rfl, fun e w' he => ⟨_, he.1, rfl, he.2⟩⟩
      · obtain rfl := Option.some.inj hoo
        have q15 : uu 15 = .bool true := hd 15 (by kernel_rfl)
        have q20 : uu 20 = .bool true := hd 20 (by kernel_rfl)
        refine .inl ⟨wanted_none rfl, ?_⟩
        generalize hev : Act.eval _ = ev
        have ec : ∀ c, ev (.const c) = c := fun c => by rw [← hev]; rfl
        have e71 : ev (.tmp 71) = .bool true := by rw [← hev]; exact (eval_put (by kernel_rfl) 81 rfl (by decide)).trans q15
        have e76 : ev (.tmp 76) = .bool true := by rw [← hev]; exact (eval_put (by kernel_rfl) 81 rfl (by decide)).trans q20
        clear hev hd q15 q20
        exact .inl ⟨_, W, by go_simp, rfl, Below.refl _ _⟩
      · obtain rfl := Option.some.inj hoo
        have q21 : uu 21 = .bool true := hd 21 (by kernel_rfl)
        refine .inl ⟨wanted_none rfl, ?_⟩
        generalize hev : Act.eval _ = ev
        have ec : ∀ c, ev (.const c) = c := fun c => by rw [← hev]; rfl
        have e77 : ev (.tmp 77) = .bool true := by rw [← hev]; exact (eval_put (by kernel_rfl) 81 rfl (by decide)).trans q21
        clear hev hd q21
        exact .inl ⟨_, W, by go_simp, rfl, Below.refl _ _⟩
      · obtain rfl := Option.some.inj hoo
        have q22 : uu 22 = .bool true := hd 22 (by kernel_rfl)
        refine .inl ⟨wanted_yes rfl (yielded_put (k := 78) (by kernel_rfl) (by kernel_rfl) 81 rfl (by decide) q22), ?_⟩
        generalize hev : Act.eval _ = ev
        have ec : ∀ c, ev (.const c) = c := fun c => by rw [← hev]; rfl
        have ef : ∀ f, ev (.func f) = .func (.func f) #[] #[] := fun f => by rw [← hev]; rfl
        clear hev hd q22
        exact .inr ⟨_, _, _, by go_simp, lives26_any W, fun e w' he => ⟨_, he.1, rfl, he.2⟩⟩
      · obtain rfl := Option.some.inj hoo
        have q22 : uu 22 = .bool true := hd 22 (by kernel_rfl)
        have q23 : uu 23 = .bool true := hd 23 (by kernel_rfl)
        refine .inl ⟨wanted_none rfl, ?_⟩
        generalize hev : Act.eval _ = ev
        have ec : ∀ c, ev (.const c) = c := fun c => by rw [← hev]; rfl
        have e78 : ev (.tmp 78) = .bool true := by rw [← hev]; exact (eval_put (by kernel_rfl) 81 rfl (by decide)).trans q22
        have e79 : ev (.tmp 79) = .bool true := by rw [← hev]; exact (eval_put (by kernel_rfl) 81 rfl (by decide)).trans q23
        clear hev hd q22 q23
        exact .inl ⟨_, W, by go_simp, rfl, Below.refl _ _⟩
      · obtain rfl := Option.some.inj hoo
        have q24 : uu 24 = .bool true := hd 24 (by kernel_rfl)
        refine .inl ⟨wanted_none rfl, ?_⟩
        generalize hev : Act.eval _ = ev
        have ec : ∀ c, ev (.const c) = c := fun c => by rw [← hev]; rfl
        have e80 : ev (.tmp 80) = .bool true := by rw [← hev]; exact (eval_put (by kernel_rfl) 81 rfl (by decide)).trans q24
        clear hev hd q24
        exact .inl ⟨_, W, by go_simp, rfl, Below.refl _ _⟩
      · simp at hoo
    · intro uu W hVW hall
      have q25 : uu 25 = .bool true := hall 25 (by decide)
      replace hB := hB.trans (hVW.mono hB.size)
      clear hall hVW KI KD KS ri rd ro rx
      simp only [putAll, Act.put, Nat.reduceAdd, q25]
      simp only [List.setIfInBounds_toArray, List.set_cons_succ, List.set_cons_zero]
      go_wp2_with fail
      go_ret
      exact ⟨rfl, hB⟩

theorem RecvKinds_walk (a0_0 : Int) (a0_1 : Int) (a0_2 : Int) (a0_3 : Option Addr) (len0_3 cap0_3 : Nat) (z0_3 : List Int) (a1_0 : Int) (a1_1 : Int) (a1_2 : Bool) (a1_3 : Option Addr) (len1_3 cap1_3 : Nat) (z1_3 : List Int) (a2_0 : Int) (a2_1 : Int) (a2_2 : Int) (a2_3 : Int) (a2_4 : Int) (a2_5 : Int) (a2_6 : Int) (a2_7 : Int) (a2_8 : Option Addr) (len2_8 cap2_8 : Nat) (z2_8 : List Int) (a2_9 : Option Addr) (len2_9 cap2_9 : Nat) (z2_9 : List Int) (a3_0 : Int) (a3_1_0 : Int) (a3_1_1 : Int) (a3_1_2 : Int) (a3_1_3 : Int) (a3_1_4 : Int) (a3_1_5 : Int) (a3_2 : Int) (a3_3_0 : Int) (a3_3_1 : Int) (a3_3_2 : Int) (a3_3_3 : Int) (a3_3_4 : Int) (a3_3_5 : Int) (a3_4 : Int) (a4_0 : Int) (a4_1 : Int) (a4_2 : Bool) (a4_3 : Bool) (a4_4 : Int) (a4_5 : Int) (a4_6 : Int) (a4_7 : Int) (a4_8 : Int) (a4_9 : Option Addr) (len4_9 cap4_9 : Nat) (z4_9 : List Int) (a4_10 : Option Addr) (len4_10 cap4_10 : Nat) (z4_10 : List Int) (a5 : Int) (w : World) (w0_0 : (Lit.int .u8 a0_0).wf = true) (w0_1 : (Lit.int .u8 a0_1).wf = true) (w0_2 : (Lit.int .u32 a0_2).wf = true) (w0_3 : InRow .u8 w a0_3 len0_3 cap0_3 z0_3) (w1_0 : (Lit.int .u16 a1_0).wf = true) (w1_1 : (Lit.int .u16 a1_1).wf = true) (w1_3 : InRow .u8 w a1_3 len1_3 cap1_3 z1_3) (w2_0 : (Lit.int .u16 a2_0).wf = true) (w2_1 : (Lit.int .u16 a2_1).wf = true) (w2_2 : (Lit.int .u32 a2_2).wf = true) (w2_3 : (Lit.int .u32 a2_3).wf = true) (w2_4 : (Lit.int .u8 a2_4).wf = true) (w2_5 : (Lit.int .u8 a2_5).wf = true) (w2_6 : (Lit.int .u16 a2_6).wf = true) (w2_7 : (Lit.int .u16 a2_7).wf = true) (w2_8 : InRow .u8 w a2_8 len2_8 cap2_8 z2_8) (w2_9 : InRow .u8 w a2_9 len2_9 cap2_9 z2_9) (_w3_0 : (Lit.int .u16 a3_0).wf = true) (_w3_1_0 : (Lit.int .u8 a3_1_0).wf = true) (_w3_1_1 : (Lit.int .u8 a3_1_1).wf = true) (_w3_1_2 : (Lit.int .u8 a3_1_2).wf = true) (_w3_1_3 : (Lit.int .u8 a3_1_3).wf = true) (_w3_1_4 : (Lit.int .u8 a3_1_4).wf = true) (_w3_1_5 : (Lit.int .u8 a3_1_5).wf = true) (_w3_2 : (Lit.int .u32 a3_2).wf = true) (_w3_3_0 : (Lit.int .u8 a3_3_0).wf = true) (_w3_3_1 : (Lit.int .u8 a3_3_1).wf = true) (_w3_3_2 : (Lit.int .u8 a3_3_2).wf = true) (_w3_3_3 : (Lit.int .u8 a3_3_3).wf = true) (_w3_3_4 : (Lit.int .u8 a3_3_4).wf = true) (_w3_3_5 : (Lit.int .u8 a3_3_5).wf = true) (_w3_4 : (Lit.int .u32 a3_4).wf = true) (w4_0 : (Lit.int .u8 a4_0).wf = true) (w4_1 : (Lit.int .u16 a4_1).wf = true) (w4_4 : (Lit.int .u16 a4_4).wf = true) (w4_5 : (Lit.int .u8 a4_5).wf = true) (w4_6 : (Lit.int .u8 a4_6).wf = true) (w4_7 : (Lit.int .u32 a4_7).wf = true) (w4_8 : (Lit.int .u32 a4_8).wf = true) (w4_9 : InRow .u8 w a4_9 len4_9 cap4_9 z4_9) (w4_10 : InRow .u8 w a4_10 len4_10 cap4_10 z4_10) (_w5 : (Lit.int .i64 a5).wf = true) :
    Calls Try.prog 6 #[.agg #[.int .u8 a0_0, .int .u8 a0_1, .int .u32 a0_2, .slice a0_3 len0_3 cap0_3], .agg #[.int .u16 a1_0, .int .u16 a1_1, .bool a1_2, .slice a1_3 len1_3 cap1_3], .agg #[.int .u16 a2_0, .int .u16 a2_1, .int .u32 a2_2, .int .u32 a2_3, .int .u8 a2_4, .int .u8 a2_5, .int .u16 a2_6, .int .u16 a2_7, .slice a2_8 len2_8 cap2_8, .slice a2_9 len2_9 cap2_9], .agg #[.int .u16 a3_0, .int .u8 a3_1_0, .int .u8 a3_1_1, .int .u8 a3_1_2, .int .u8 a3_1_3, .int .u8 a3_1_4, .int .u8 a3_1_5, .int .u32 a3_2, .int .u8 a3_3_0, .int .u8 a3_3_1, .int .u8 a3_3_2, .int .u8 a3_3_3, .int .u8 a3_3_4, .int .u8 a3_3_5, .int .u32 a3_4], .agg #[.int .u8 a4_0, .int .u16 a4_1, .bool a4_2, .bool a4_3, .int .u16 a4_4, .int .u8 a4_5, .int .u8 a4_6, .int .u32 a4_7, .int .u32 a4_8, .slice a4_9 len4_9 cap4_9, .slice a4_10 len4_10 cap4_10], .int .i64 a5] w fun e w' => e = .returned (.bool true) ∧ Below w.heap.size w w' := by
  obtain ⟨ty, rfl⟩ := u8_of w0_0
  obtain ⟨co, rfl⟩ := u8_of w0_1
  obtain ⟨re, rfl⟩ := u32_of w0_2
  obtain ⟨xi, -, ri, hl1, hc1, hm1⟩ := few_len w0_3 200
  obtain ⟨a, rfl⟩ := u16_of w1_0
  obtain ⟨b, rfl⟩ := u16_of w1_1
  obtain ⟨xd, -, rd, hl2, hc2, hm2⟩ := few_len w1_3 200
  obtain ⟨sa, rfl⟩ := u16_of w2_0
  obtain ⟨sb, rfl⟩ := u16_of w2_1
  obtain ⟨sq, rfl⟩ := u32_of w2_2
  obtain ⟨sk, rfl⟩ := u32_of w2_3
  obtain ⟨sr, rfl⟩ := u8_of w2_4
  obtain ⟨sf, rfl⟩ := u8_of w2_5
  obtain ⟨sz, rfl⟩ := u16_of w2_6
  obtain ⟨su, rfl⟩ := u16_of w2_7
  obtain ⟨os, -, ro, hl3, hc3, hm3⟩ := few_len w2_8 50
  obtain ⟨xs, -, rx, hl4, hc4, hm4⟩ := few_len w2_9 200
  obtain ⟨ptos, rfl⟩ := u8_of w4_0
  obtain ⟨pid, rfl⟩ := u16_of w4_1
  obtain ⟨pfo, rfl⟩ := u16_of w4_4
  obtain ⟨pttl, rfl⟩ := u8_of w4_5
  obtain ⟨ppr, rfl⟩ := u8_of w4_6
  obtain ⟨ps, rfl⟩ := u32_of w4_7
  obtain ⟨pd, rfl⟩ := u32_of w4_8
  obtain ⟨ps1, -, -, hl5, hc5, hm5⟩ := few_len w4_9 50
  obtain ⟨ps2, -, -, hl6, hc6, hm6⟩ := few_len w4_10 300
  exact recv_kinds ty co re a0_3 len0_3 cap0_3 xi a b a1_2 a1_3 len1_3 cap1_3 xd sa sb sq sk sr sf sz su a2_8 a2_9 len2_8 cap2_8 len2_9 cap2_9 os xs a3_0 a3_1_0 a3_1_1 a3_1_2 a3_1_3 a3_1_4 a3_1_5 a3_2 a3_3_0 a3_3_1 a3_3_2 a3_3_3 a3_3_4 a3_3_5 a3_4 ptos pid a4_2 a4_3 pfo pttl ppr ps pd a4_9 a4_10 len4_9 cap4_9 len4_10 cap4_10 ps1 ps2 a5 w ri rd ro rx
    (fun W => Lib.hid (ifew_any ty co re a0_3 len0_3 cap0_3 xi.length W hl1 hc1 hm1))
    (fun W => Lib.hid (ufew_any a b a1_2 a1_3 len1_3 cap1_3 xd.length W hl2 hc2 hm2))
    (fun W => Lib.hid (tfew_any sa sb sq sk sr sf sz su a2_8 a2_9 len2_8 cap2_8 len2_9 cap2_9 os.length xs.length W hl3 hc3 hl4 hc4 hm3 hm4))
    (fun W => Lib.hid (pfew_any ptos pid a4_2 a4_3 pfo pttl ppr ps pd a4_9 a4_10 len4_9 cap4_9 len4_10 cap4_10 ps1.length ps2.length W hl5 hc5 hl6 hc6 hm5 hm6))
end Go.Proofs.Ytkoamiefombilaa
