/- Contracts of package ring, on the ring's two blocks. -/
import Derived.Test.YtggcomociojfoabBlk
import Derived.Test.YtggcomociojfoabReg
import Derived.Test.YtggcomociojfoabProg
import Derived.Laws.Small
import Derived.Laws.OwnMore
import Derived.OwnWalk
import Derived.BigQuiet
import Derived.Deep.QuietTactic
import Derived.Outline
import Derived.RegionTactic
namespace Go.Proofs.Ytggcomociojfoab
open Go.RowKit

def iv (x : Int) : Value := .int .i64 x
/-- The ring's block g and its row h: next, posted, ready. -/
structure Rg (w : World) (g h n : Nat) (buf : List Int) (nx p r : Nat) : Prop where
  bg : Blk w g [.slice (some ⟨h, 0, none⟩) n n, .int .i64 nx, .int .i64 p, .int .i64 r] 88
  bh : Blk w h (buf.map iv) 3
  ne : g ≠ h
  len : buf.length = n
  n1 : 1 ≤ n
  n64 : n ≤ 64
  nxn : nx < n
  prn : p + r ≤ n
theorem Rg.drew {w : World} {g h n : Nat} {buf : List Int} {nx p r : Nat} (R : Rg w g h n buf nx p r) : Rg w.drew g h n buf nx p r := ⟨R.bg, R.bh, R.ne, R.len, R.n1, R.n64, R.nxn, R.prn⟩
theorem Rg.below {w w' : World} {g h n : Nat} {buf : List Int} {nx p r : Nat} (R : Rg w g h n buf nx p r) (hb : Below w.heap.size w w') : Rg w' g h n buf nx p r := ⟨R.bg.next hb, R.bh.next hb, R.ne, R.len, R.n1, R.n64, R.nxn, R.prn⟩

section
variable {w : World} {g h n : Nat} {buf : List Int} {nx p r : Nat}
theorem rsize_any (R : Rg w g h n buf nx p r) : Calls Try.prog 20 #[.pointer (some ⟨g, 0, none⟩)] w fun e w' => e = .returned (.int .i64 n) ∧ w = w' := by
  obtain ⟨c0, c1, c2, c3, -⟩ := R.bg.get4
  go_enter Try.func20, Try.ntmps20
  go_wp2
  go_ret
  exact ⟨rfl, rfl⟩
theorem rposted_any (R : Rg w g h n buf nx p r) : Calls Try.prog 29 #[.pointer (some ⟨g, 0, none⟩)] w fun e w' => e = .returned (.int .i64 p) ∧ w = w' := by
  obtain ⟨c0, c1, c2, c3, -⟩ := R.bg.get4
  go_enter Try.func29, Try.ntmps29
  go_wp2
  go_ret
  exact ⟨rfl, rfl⟩
theorem rready_any (R : Rg w g h n buf nx p r) : Calls Try.prog 30 #[.pointer (some ⟨g, 0, none⟩)] w fun e w' => e = .returned (.int .i64 r) ∧ w = w' := by
  obtain ⟨c0, c1, c2, c3, -⟩ := R.bg.get4
  go_enter Try.func30, Try.ntmps30
  go_wp2
  go_ret
  exact ⟨rfl, rfl⟩
theorem rroom_any (R : Rg w g h n buf nx p r) : Calls Try.prog 31 #[.pointer (some ⟨g, 0, none⟩)] w fun e w' => e = .returned (.int .i64 ((n - p - r : Nat) : Int)) ∧ w = w' := by
  have h1 := R.n64
  have h2 := R.prn
  have C1 := Lib.hid (rsize_any R)
  have C2 := Lib.hid (rposted_any R)
  have C3 := Lib.hid (rready_any R)
  have he : (n : Int) - (p : Int) - (r : Int) = ((n - p - r : Nat) : Int) := by omega
  rw [← he]
  clear he R
  go_enter Try.func31, Try.ntmps31
  go_wp2_with fail
  refine C1.out.mono ?_
  rintro e w1 ⟨rfl, rfl⟩
  go_wp2_with fail
  refine C2.out.mono ?_
  rintro e w1 ⟨rfl, rfl⟩
  go_wp2_with fail
  refine C3.out.mono ?_
  rintro e w1 ⟨rfl, rfl⟩
  go_wp2_with fail
  go_ret
  exact ⟨rfl, rfl⟩
theorem rpost_full (R : Rg w g h n buf nx p r) (hf : p + r = n) (i : Int) : Calls Try.prog 21 #[.pointer (some ⟨g, 0, none⟩), .int .i64 i] w fun e w' => e = .returned (.bool false) ∧ w = w' := by
  have C1 := rroom_any R
  rw [show n - p - r = 0 by omega] at C1
  have C1 := Lib.hid C1
  clear R
  go_enter Try.func21, Try.ntmps21
  go_wp2_with fail
  refine C1.out.mono ?_
  rintro e w1 ⟨rfl, rfl⟩
  go_wp2_with fail
  go_ret
  exact ⟨rfl, rfl⟩
theorem rpost_ok (R : Rg w g h n buf nx p r) (hf : p + r < n) (i : Int) (B : Nat) (hg : B ≤ g) (hh : B ≤ h) : Calls Try.prog 21 #[.pointer (some ⟨g, 0, none⟩), .int .i64 i] w fun e w' => e = .returned (.bool true) ∧ Below B w w' ∧ Rg w' g h n (buf.set nx i) ((nx + 1) % n) (p + 1) r := by
  have C1 := Lib.hid (rroom_any R)
  obtain ⟨m, hm⟩ : ∃ m, n - p - r = m := ⟨_, rfl⟩
  rw [hm] at C1
  have hz : ((m : Int) == 0) = false := beq_eq_false_iff_ne.mpr (by omega)
  have h64 := R.n64
  have hnx := R.nxn
  obtain ⟨c0, c1, c2, c3, f0, f1, f2, f3⟩ := R.bg.get4
  go_enter Try.func21, Try.ntmps21
  go_wp2_with fail
  refine C1.out.mono ?_
  rintro e w1 ⟨rfl, rfl⟩
  have ch := R.bh.cell nx
  have fh := R.bh.frozen nx
  rw [List.getElem?_map, List.getElem?_eq_getElem (by rw [R.len]; exact hnx)] at ch
  simp only [Option.map_some, iv] at ch
  go_wp2_with fail
  have c0d : w.drew.cell? ⟨g, 0, none⟩ = _ := c0
  have c1d : w.drew.cell? ⟨g, 1, none⟩ = _ := c1
  have chd : w.drew.cell? ⟨h, nx, none⟩ = _ := ch
  have fhd : w.drew.frozen? ⟨h, nx, none⟩ = _ := fh
  go_region
  have bg1 : Blk (w.setCell ⟨h, nx, none⟩ (.int .i64 i)).drew g _ 88 := R.bg.other R.ne nx (.int .i64 i)
  have bh1 : Blk (w.setCell ⟨h, nx, none⟩ (.int .i64 i)).drew h ((buf.set nx i).map iv) 3 := by
    have := R.bh.set nx (.int .i64 i)
    rw [show (.int .i64 i : Value) = iv i from rfl, ← List.map_set] at this
    exact this
  have hB1 : Below B w (w.setCell ⟨h, nx, none⟩ (.int .i64 i)).drew := ((Below.refl B w).setCell (p := ⟨h, nx, none⟩) hh _).drew
  clear ch fh chd fhd c0d c1d c0 c1 c2 c3 f0 f1 f2 f3
  generalize (w.setCell ⟨h, nx, none⟩ (.int .i64 i)).drew = V at bg1 bh1 hB1 ⊢
  obtain ⟨c0, c1, c2, c3, f0, f1, f2, f3⟩ := bg1.get4
  have c0d : V.drew.cell? ⟨g, 0, none⟩ = _ := c0
  have c1d : V.drew.cell? ⟨g, 1, none⟩ = _ := c1
  have f1d : V.drew.frozen? ⟨g, 1, none⟩ = _ := f1
  have hn1 := R.n1
  have hnz : ((n : Int) == 0) = false := beq_eq_false_iff_ne.mpr (by omega)
  go_wp2_with fail
  go_region
  obtain ⟨q, hq⟩ : ∃ q, (nx + 1) % n = q := ⟨_, rfl⟩
  have hqi : ((nx : Int) + 1) % (n : Int) = (q : Int) := by rw [← hq]; simp
  have hqn : q < n := by rw [← hq]; exact Nat.mod_lt _ (by omega)
  rw [hqi]
  have bg2 : Blk (V.setCell ⟨g, 1, none⟩ (.int .i64 q)).drew g [.slice (some ⟨h, 0, none⟩) n n, .int .i64 q, .int .i64 p, .int .i64 r] 88 := bg1.set 1 (.int .i64 q)
  have bh2 : Blk (V.setCell ⟨g, 1, none⟩ (.int .i64 q)).drew h ((buf.set nx i).map iv) 3 := bh1.other (Ne.symm R.ne) 1 (.int .i64 q)
  have hB2 : Below B w (V.setCell ⟨g, 1, none⟩ (.int .i64 q)).drew := (hB1.setCell (p := ⟨g, 1, none⟩) hg _).drew
  clear c0 c1 c2 c3 f0 f1 f2 f3 c0d c1d f1d bg1 bh1 hB1
  generalize (V.setCell ⟨g, 1, none⟩ (.int .i64 q)).drew = V2 at bg2 bh2 hB2 ⊢
  obtain ⟨c0, c1, c2, c3, f0, f1, f2, f3⟩ := bg2.get4
  have hpr := R.prn
  obtain ⟨P1, hP1⟩ : ∃ P1, p + 1 = P1 := ⟨_, rfl⟩
  have hp1 : ((p : Int) + 1) = (P1 : Int) := by omega
  go_wp2_with fail
  go_ret
  rw [hP1]
  refine ⟨rfl, hB2.setCell (p := ⟨g, 2, none⟩) hg _, ?_⟩
  rw [hq]
  exact ⟨bg2.set 2 (.int .i64 (P1 : Int)), bh2.other (Ne.symm R.ne) 2 _, R.ne, by simp [R.len], R.n1, R.n64, hqn, by omega⟩

theorem rdone_none (R : Rg w g h n buf nx 0 r) : Calls Try.prog 23 #[.pointer (some ⟨g, 0, none⟩)] w fun e w' => e = .returned (.bool false) ∧ w = w' := by
  have C1 := Lib.hid (rposted_any R)
  clear R
  go_enter Try.func23, Try.ntmps23
  go_wp2_with fail
  refine C1.out.mono ?_
  rintro e w1 ⟨rfl, rfl⟩
  go_wp2_with fail
  go_ret
  exact ⟨rfl, rfl⟩
theorem rdone_ok (R : Rg w g h n buf nx (p + 1) r) (B : Nat) (hg : B ≤ g) : Calls Try.prog 23 #[.pointer (some ⟨g, 0, none⟩)] w fun e w' => e = .returned (.bool true) ∧ Below B w w' ∧ Rg w' g h n buf nx p (r + 1) := by
  have C1 := Lib.hid (rposted_any R)
  have h64 := R.n64
  have hpr := R.prn
  obtain ⟨c0, c1, c2, c3, f0, f1, f2, f3⟩ := R.bg.get4
  have hz : (((p + 1 : Nat) : Int) == 0) = false := beq_eq_false_iff_ne.mpr (by omega)
  have hp1 : ((p + 1 : Nat) : Int) - 1 = (p : Int) := by omega
  obtain ⟨P1, hP1⟩ : ∃ P1, p + 1 = P1 := ⟨_, rfl⟩
  rw [hP1] at C1 c2 hz hp1
  go_enter Try.func23, Try.ntmps23
  go_wp2_with fail
  refine C1.out.mono ?_
  rintro e w1 ⟨rfl, rfl⟩
  go_wp2_with fail
  go_ret
  have b1 : Blk (w.setCell ⟨g, 2, none⟩ (.int .i64 p)) g [.slice (some ⟨h, 0, none⟩) n n, .int .i64 nx, .int .i64 p, .int .i64 r] 88 := R.bg.set 2 (.int .i64 p)
  refine ⟨rfl, ((Below.refl B w).setCell (p := ⟨g, 2, none⟩) hg _).setCell (p := ⟨g, 3, none⟩) hg _, ?_⟩
  exact ⟨b1.set 3 (.int .i64 ((r + 1 : Nat) : Int)), (R.bh.other (Ne.symm R.ne) 2 _).other (Ne.symm R.ne) 3 _, R.ne, R.len, R.n1, R.n64, R.nxn, by omega⟩

theorem rbefore_any (R : Rg w g h n buf nx p r) (k q : Nat) (hk : k ≤ n) (hq : (nx + n - k) % n = q) (x : Int) (hx : buf[q]? = some x) : Calls Try.prog 53 #[.pointer (some ⟨g, 0, none⟩), .int .i64 k] w fun e w' => e = .returned (.int .i64 x) ∧ Drawn w w' := by
  have h64 := R.n64
  have hn1 := R.n1
  have hnx := R.nxn
  obtain ⟨c0, c1, c2, c3, f0, f1, f2, f3⟩ := R.bg.get4
  have ch := R.bh.cell q
  rw [List.getElem?_map, hx] at ch
  simp only [Option.map_some, iv] at ch
  have hqi : ((nx : Int) - (k : Int) + (n : Int)) % (n : Int) = (q : Int) := by
    rw [← hq, show (nx : Int) - (k : Int) + (n : Int) = ((nx + n - k : Nat) : Int) by omega]
    exact (Int.natCast_emod _ _).symm
  have hqn : q < n := by rw [← hq]; exact Nat.mod_lt _ (by omega)
  have hnz : ((n : Int) == 0) = false := beq_eq_false_iff_ne.mpr (by omega)
  go_enter Try.func53, Try.ntmps53
  go_wp2_with fail
  go_quiet (fail)
  go_wp2_with fail
  go_ret
  exact ⟨rfl, _, rfl⟩

theorem drawn_from {w w' : World} {k : Nat} (h : Drawn (w.drewN k) w') : ∃ n, w' = w.drewN n := by
  obtain ⟨m, rfl⟩ := h
  exact ⟨k + m, World.drewN_drewN _ _ _⟩
theorem Rg.drewN {w : World} {g h n : Nat} {buf : List Int} {nx p r : Nat} (R : Rg w g h n buf nx p r) (k : Nat) : Rg (w.drewN k) g h n buf nx p r := ⟨R.bg, R.bh, R.ne, R.len, R.n1, R.n64, R.nxn, R.prn⟩
theorem rreap_none (R : Rg w g h n buf nx p 0) : Calls Try.prog 25 #[.pointer (some ⟨g, 0, none⟩)] w fun e w' => e = .returned (.tuple #[.int .i64 0, .bool false]) ∧ w = w' := by
  have C1 := Lib.hid (rready_any R)
  clear R
  go_enter Try.func25, Try.ntmps25
  go_wp2_with fail
  refine C1.out.mono ?_
  rintro e w1 ⟨rfl, rfl⟩
  go_wp2_with fail
  go_ret2
  exact ⟨rfl, rfl⟩
theorem rreap_ok (R : Rg w g h n buf nx p (r + 1)) (q : Nat) (hq : (nx + n - (p + (r + 1))) % n = q) (x : Int) (hx : buf[q]? = some x) (B : Nat) (hg : B ≤ g) : Calls Try.prog 25 #[.pointer (some ⟨g, 0, none⟩)] w fun e w' => e = .returned (.tuple #[.int .i64 x, .bool true]) ∧ Below B w w' ∧ Rg w' g h n buf nx p r := by
  have C1 := Lib.hid (rready_any R)
  have h64 := R.n64
  have hpr := R.prn
  obtain ⟨c0, c1, c2, c3, f0, f1, f2, f3⟩ := R.bg.get4
  have hz : (((r + 1 : Nat) : Int) == 0) = false := beq_eq_false_iff_ne.mpr (by omega)
  have hr1 : ((r + 1 : Nat) : Int) - 1 = (r : Int) := by omega
  have CB := fun k => Lib.hid (rbefore_any (R.drewN k) (p + (r + 1)) q (by omega) hq x hx)
  obtain ⟨K, hK⟩ : ∃ K, p + (r + 1) = K := ⟨_, rfl⟩
  have hKi : (p : Int) + ((r + 1 : Nat) : Int) = (K : Int) := by omega
  rw [hK] at CB hpr
  obtain ⟨R1, hR1⟩ : ∃ R1, r + 1 = R1 := ⟨_, rfl⟩
  rw [hR1] at C1 c3 hz hr1 hKi
  clear hK hq hx
  go_enter Try.func25, Try.ntmps25
  go_wp2_with fail
  refine C1.out.mono ?_
  rintro e w1 ⟨rfl, rfl⟩
  go_wp2_with fail
  go_quiet ((go_at_call 53; exact (CB _).out.mono fun _ _ hh => ⟨hh.1, drawn_from hh.2⟩))
  go_wp2_with fail
  go_ret2
  refine ⟨rfl, (below_drewN (Below.refl B w) _).setCell (p := ⟨g, 3, none⟩) hg _, ?_⟩
  exact ⟨(R.drewN _).bg.set 3 (.int .i64 r), (R.drewN _).bh.other (Ne.symm R.ne) 3 _, R.ne, R.len, R.n1, R.n64, R.nxn, by omega⟩
theorem rnext_none (R : Rg w g h n buf nx 0 r) : Calls Try.prog 27 #[.pointer (some ⟨g, 0, none⟩)] w fun e w' => e = .returned (.tuple #[.int .i64 0, .bool false]) ∧ w = w' := by
  have C1 := Lib.hid (rposted_any R)
  clear R
  go_enter Try.func27, Try.ntmps27
  go_wp2_with fail
  refine C1.out.mono ?_
  rintro e w1 ⟨rfl, rfl⟩
  go_wp2_with fail
  go_ret2
  exact ⟨rfl, rfl⟩
theorem rown_any (R : Rg w g h n buf nx p r) (k q : Nat) (hk : k < n) (hq : (nx + n - 1 - k) % n = q) (b : Bool) (hb : decide (q < p) = b) : Calls Try.prog 32 #[.pointer (some ⟨g, 0, none⟩), .int .i64 k] w fun e w' => e = .returned (.bool b) ∧ Drawn w w' := by
  have C1 := Lib.hid (rsize_any R)
  have h64 := R.n64
  have hn1 := R.n1
  have hnx := R.nxn
  obtain ⟨c0, c1, c2, c3, f0, f1, f2, f3⟩ := R.bg.get4
  have hqi : ((nx : Int) - 1 - (k : Int) + (n : Int)) % (n : Int) = (q : Int) := by
    rw [← hq, show (nx : Int) - 1 - (k : Int) + (n : Int) = ((nx + n - 1 - k : Nat) : Int) by omega]
    exact (Int.natCast_emod _ _).symm
  have hnz : ((n : Int) == 0) = false := beq_eq_false_iff_ne.mpr (by omega)
  have hqn : q < n := by rw [← hq]; exact Nat.mod_lt _ (by omega)
  clear hq
  go_enter Try.func32, Try.ntmps32
  go_wp2_with fail
  refine C1.out.mono ?_
  rintro e w1 ⟨rfl, rfl⟩
  go_wp2_with fail
  go_quiet (fail)
  go_wp2_with fail
  go_ret
  subst hb
  exact ⟨rfl, _, rfl⟩
theorem made_rep (n : Nat) : (madeCells (Value.int .i64 0).cells (n * 1)).toList = (List.replicate n (0 : Int)).map iv := by
  rw [Nat.mul_one]
  show (madeCells #[.int .i64 0] n).toList = _
  rw [toList_madeCells_one]
  simp [iv]
theorem wpList_make_blk {P : Program} (w : World) {ops : Array Oper} {rest : List Oper} {o : Oper} {a : Act} {Q : Exit → Act → World → Prop}
    (hg : o.guard = none) (l c : Operand) (t : TypeId) (hop : o.op = Op.makeSlice t l c)
    (e : TypeId) (i : TypeInfo) (h1 : P.underlying t = some (.slice e)) (h2 : P.info? e = some i) (h3 : i.zero = some (.int .i64 0)) (h4 : i.size = 1) (h5 : i.bytes = 8)
    (L C : Int) (n : Nat) (hl : a.eval l = .int .i64 L) (hc : a.eval c = .int .i64 C) (hL : L = (n : Int)) (hC : C = (n : Int)) (hn : n ≤ 1000000)
    (hK : Blk (w.alloc (.cells (madeCells (Value.int .i64 0).cells (n * 1)) e)) w.heap.size ((List.replicate n (0 : Int)).map iv) e → wpList P ops Q rest (a.put o.dst (.slice (some ⟨w.heap.size, 0, none⟩) n n)) (w.alloc (.cells (madeCells (Value.int .i64 0).cells (n * 1)) e))) :
    wpList P ops Q (o :: rest) a w := by
  refine wpList_plain hg fun K hK' => ?_
  have hrun := run_make (P := P) w t e i (.int .i64 0) h1 h2 h3 .i64 .i64 (n : Int) (n : Int) (by omega) (Int.le_refl _) (by rw [h5]; omega) (by omega)
  rw [h4] at hrun
  subst hL
  subst hC
  unfold Oper.wp
  simp only [Int.toNat_natCast] at hrun
  simp [execOp, hop, hl, hc, hrun, Result.andThen]
  have hb := Blk.new w (madeCells (Value.int .i64 0).cells (n * 1)) e
  rw [made_rep] at hb
  have := hK hb
  simp at this
  exact hK' _ _ this
end
end Go.Proofs.Ytggcomociojfoab
