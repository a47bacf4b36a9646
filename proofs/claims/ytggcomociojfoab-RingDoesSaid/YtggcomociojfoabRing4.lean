/- What a ring's deeds leave as it was; the device's next buffer; descriptors that there are not. -/
import Derived.Test.YtggcomociojfoabRing3
import Derived.Test.YtggcomociojfoabRing2
namespace Go.Proofs.Ytggcomociojfoab
open Go.RowKit

/-- All blocks that were there are as they were, but two. -/
structure Off (g h : Nat) (w w' : World) : Prop where
  os : w'.os = w.os
  tape : w'.tape = w.tape
  output : w'.output = w.output
  size : w.heap.size ≤ w'.heap.size
  block : ∀ k, k < w.heap.size → k ≠ g → k ≠ h → w'.heap[k]? = w.heap[k]?
theorem Off.refl (g h : Nat) (w : World) : Off g h w w := ⟨rfl, rfl, rfl, Nat.le_refl _, fun _ _ _ _ => rfl⟩
theorem Off.of {g h : Nat} {w w' : World} (hb : Below w.heap.size w w') : Off g h w w' := ⟨hb.os, hb.tape, hb.output, hb.size, fun k hk _ _ => hb.block k hk⟩
theorem Off.trans {g h : Nat} {a b c : World} (x : Off g h a b) (y : Off g h b c) : Off g h a c := ⟨y.os.trans x.os, y.tape.trans x.tape, y.output.trans x.output, Nat.le_trans x.size y.size, fun k hk h1 h2 => (y.block k (Nat.lt_of_lt_of_le hk x.size) h1 h2).trans (x.block k hk h1 h2)⟩
theorem Off.drewN {g h : Nat} {a b : World} (x : Off g h a b) (n : Nat) : Off g h a (b.drewN n) := x.trans (Off.of (below_drewN (Below.refl _ _) n))
theorem Off.drew {g h : Nat} {a b : World} (x : Off g h a b) : Off g h a b.drew := x.trans (Off.of (Below.refl _ _).drew)
theorem Off.setCell {g h : Nat} {a b : World} (x : Off g h a b) {p : Addr} (hp : p.block = g ∨ p.block = h) (u : Value) : Off g h a (b.setCell p u) := by
  have y := (Below.refl 0 b).setCell (p := p) (Nat.zero_le _) u
  refine x.trans ⟨y.os, y.tape, y.output, y.size, fun k _ h1 h2 => Below.heap_setCell b p u k ?_⟩
  rcases hp with hp | hp <;> omega
theorem Off.bel {g h : Nat} {a b : World} (x : Off g h a b) {B : Nat} (h1 : B ≤ g) (h2 : B ≤ h) (h3 : B ≤ a.heap.size) : Below B a b := ⟨x.os, x.tape, x.output, x.size, fun k hk => x.block k (by omega) (by omega) (by omega)⟩
theorem Blk.off {g h k : Nat} {w w' : World} {cs : List Value} {e : TypeId} (b : Blk w k cs e) (x : Off g h w w') (h1 : k ≠ g) (h2 : k ≠ h) : Blk w' k cs e := by
  have hlt := b.lt
  unfold Blk at b ⊢
  rw [x.block k hlt h1 h2]
  exact b
theorem Row.off {g h k : Nat} {w w' : World} {v : Value} {xs : List Int} (r : Row w k v xs) (x : Off g h w w') (h1 : g ≤ k) (h2 : h ≤ k) : Row w' k v xs := by
  obtain ⟨A, c, rfl, ⟨r1, r2, r3, r4⟩, hk⟩ := r
  refine ⟨A, c, rfl, ⟨r1, r2, r3, fun hn => ?_⟩, hk⟩
  obtain ⟨b, off, rfl, hb, hc⟩ := r4 hn
  refine ⟨b, off, rfl, Nat.lt_of_lt_of_le hb x.size, fun j hj => ?_⟩
  have hkb := hk _ rfl
  simp only at hkb
  have he := x.block b hb (by omega) (by omega)
  have h0 := hc j hj
  unfold World.cell? at h0 ⊢
  simp only [he]
  exact h0
theorem Rg.off {g h k : Nat} {w w' : World} {n : Nat} {buf : List Int} {nx p r : Nat} (R : Rg w g h n buf nx p r) (x : Off k k w w') (h1 : g ≠ k) (h2 : h ≠ k) : Rg w' g h n buf nx p r := ⟨R.bg.off x h1 h1, R.bh.off x h2 h2, R.ne, R.len, R.n1, R.n64, R.nxn, R.prn⟩
theorem Rr.off {g h k : Nat} {w w' : World} {n : Nat} {vp vr : Value} {ps rs : List Int} {ever work : Nat} (R : Rr w k n vp vr ps rs ever work) (x : Off g h w w') (h1 : g < k) (h2 : h < k) : Rr w' k n vp vr ps rs ever work := ⟨R.bg.off x (by omega) (by omega), R.op.off x (by omega) (by omega), R.or_.off x (by omega) (by omega), R.n64, R.pr, R.ew, R.e80⟩

section
variable {w : World} {g h n : Nat} {buf : List Int} {nx p r : Nat}
theorem rpost_off (R : Rg w g h n buf nx p r) (hf : p + r < n) (i : Int) : Calls Try.prog 21 #[.pointer (some ⟨g, 0, none⟩), .int .i64 i] w fun e w' => e = .returned (.bool true) ∧ Off g h w w' ∧ Rg w' g h n (buf.set nx i) ((nx + 1) % n) (p + 1) r := by
  have C1 := Lib.hid (rroom_any R)
  obtain ⟨m, hm⟩ : ∃ m, n - p - r = m := ⟨_, rfl⟩
  rw [hm] at C1
  have hz : ((m : Int) == 0) = false := beq_eq_false_iff_ne.mpr (by omega)
  have h64 := R.n64
  have hnx := R.nxn
  obtain ⟨c0, c1, c2, c3, f0, f1, f2, f3⟩ := R.bg.get4
  go_enter Try.func21, Try.ntmps21
  go_wp2_with fail
  refine C1.out.mono ?_
  rintro e w1 ⟨rfl, rfl⟩
  have ch := R.bh.cell nx
  have fh := R.bh.frozen nx
  rw [List.getElem?_map, List.getElem?_eq_getElem (by rw [R.len]; exact hnx)] at ch
  simp only [Option.map_some, iv] at ch
  go_wp2_with fail
  have c0d : w.drew.cell? ⟨g, 0, none⟩ = _ := c0
  have c1d : w.drew.cell? ⟨g, 1, none⟩ = _ := c1
  have chd : w.drew.cell? ⟨h, nx, none⟩ = _ := ch
  have fhd : w.drew.frozen? ⟨h, nx, none⟩ = _ := fh
  go_region
  have bg1 : Blk (w.setCell ⟨h, nx, none⟩ (.int .i64 i)).drew g _ 88 := R.bg.other R.ne nx (.int .i64 i)
  have bh1 : Blk (w.setCell ⟨h, nx, none⟩ (.int .i64 i)).drew h ((buf.set nx i).map iv) 3 := by
    have := R.bh.set nx (.int .i64 i)
    rw [show (.int .i64 i : Value) = iv i from rfl, ← List.map_set] at this
    exact this
  have hB1 : Off g h w (w.setCell ⟨h, nx, none⟩ (.int .i64 i)).drew := ((Off.refl g h w).setCell (p := ⟨h, nx, none⟩) (.inr rfl) _).drew
  clear ch fh chd fhd c0d c1d c0 c1 c2 c3 f0 f1 f2 f3
  generalize (w.setCell ⟨h, nx, none⟩ (.int .i64 i)).drew = V at bg1 bh1 hB1 ⊢
  obtain ⟨c0, c1, c2, c3, f0, f1, f2, f3⟩ := bg1.get4
  have c0d : V.drew.cell? ⟨g, 0, none⟩ = _ := c0
  have c1d : V.drew.cell? ⟨g, 1, none⟩ = _ := c1
  have f1d : V.drew.frozen? ⟨g, 1, none⟩ = _ := f1
  have hn1 := R.n1
  have hnz : ((n : Int) == 0) = false := beq_eq_false_iff_ne.mpr (by omega)
  go_wp2_with fail
  go_region
  obtain ⟨q, hq⟩ : ∃ q, (nx + 1) % n = q := ⟨_, rfl⟩
  have hqi : ((nx : Int) + 1) % (n : Int) = (q : Int) := by rw [← hq]; simp
  have hqn : q < n := by rw [← hq]; exact Nat.mod_lt _ (by omega)
  rw [hqi]
  have bg2 : Blk (V.setCell ⟨g, 1, none⟩ (.int .i64 q)).drew g [.slice (some ⟨h, 0, none⟩) n n, .int .i64 q, .int .i64 p, .int .i64 r] 88 := bg1.set 1 (.int .i64 q)
  have bh2 : Blk (V.setCell ⟨g, 1, none⟩ (.int .i64 q)).drew h ((buf.set nx i).map iv) 3 := bh1.other (Ne.symm R.ne) 1 (.int .i64 q)
  have hB2 : Off g h w (V.setCell ⟨g, 1, none⟩ (.int .i64 q)).drew := (hB1.setCell (p := ⟨g, 1, none⟩) (.inl rfl) _).drew
  clear c0 c1 c2 c3 f0 f1 f2 f3 c0d c1d f1d bg1 bh1 hB1
  generalize (V.setCell ⟨g, 1, none⟩ (.int .i64 q)).drew = V2 at bg2 bh2 hB2 ⊢
  obtain ⟨c0, c1, c2, c3, f0, f1, f2, f3⟩ := bg2.get4
  have hpr := R.prn
  obtain ⟨P1, hP1⟩ : ∃ P1, p + 1 = P1 := ⟨_, rfl⟩
  have hp1 : ((p : Int) + 1) = (P1 : Int) := by omega
  go_wp2_with fail
  go_ret
  rw [hP1]
  refine ⟨rfl, hB2.setCell (p := ⟨g, 2, none⟩) (.inl rfl) _, ?_⟩
  rw [hq]
  exact ⟨bg2.set 2 (.int .i64 (P1 : Int)), bh2.other (Ne.symm R.ne) 2 _, R.ne, by simp [R.len], R.n1, R.n64, hqn, by omega⟩

theorem rdone_off (R : Rg w g h n buf nx (p + 1) r) : Calls Try.prog 23 #[.pointer (some ⟨g, 0, none⟩)] w fun e w' => e = .returned (.bool true) ∧ Off g h w w' ∧ Rg w' g h n buf nx p (r + 1) := by
  have C1 := Lib.hid (rposted_any R)
  have h64 := R.n64
  have hpr := R.prn
  obtain ⟨c0, c1, c2, c3, f0, f1, f2, f3⟩ := R.bg.get4
  have hz : (((p + 1 : Nat) : Int) == 0) = false := beq_eq_false_iff_ne.mpr (by omega)
  have hp1 : ((p + 1 : Nat) : Int) - 1 = (p : Int) := by omega
  obtain ⟨P1, hP1⟩ : ∃ P1, p + 1 = P1 := ⟨_, rfl⟩
  rw [hP1] at C1 c2 hz hp1
  go_enter Try.func23, Try.ntmps23
  go_wp2_with fail
  refine C1.out.mono ?_
  rintro e w1 ⟨rfl, rfl⟩
  go_wp2_with fail
  go_ret
  have b1 : Blk (w.setCell ⟨g, 2, none⟩ (.int .i64 p)) g [.slice (some ⟨h, 0, none⟩) n n, .int .i64 nx, .int .i64 p, .int .i64 r] 88 := R.bg.set 2 (.int .i64 p)
  refine ⟨rfl, ((Off.refl g h w).setCell (p := ⟨g, 2, none⟩) (.inl rfl) _).setCell (p := ⟨g, 3, none⟩) (.inl rfl) _, ?_⟩
  exact ⟨b1.set 3 (.int .i64 ((r + 1 : Nat) : Int)), (R.bh.other (Ne.symm R.ne) 2 _).other (Ne.symm R.ne) 3 _, R.ne, R.len, R.n1, R.n64, R.nxn, by omega⟩

theorem rreap_off (R : Rg w g h n buf nx p (r + 1)) (q : Nat) (hq : (nx + n - (p + (r + 1))) % n = q) (x : Int) (hx : buf[q]? = some x) : Calls Try.prog 25 #[.pointer (some ⟨g, 0, none⟩)] w fun e w' => e = .returned (.tuple #[.int .i64 x, .bool true]) ∧ Off g h w w' ∧ Rg w' g h n buf nx p r := by
  have C1 := Lib.hid (rready_any R)
  have h64 := R.n64
  have hpr := R.prn
  obtain ⟨c0, c1, c2, c3, f0, f1, f2, f3⟩ := R.bg.get4
  have hz : (((r + 1 : Nat) : Int) == 0) = false := beq_eq_false_iff_ne.mpr (by omega)
  have hr1 : ((r + 1 : Nat) : Int) - 1 = (r : Int) := by omega
  have CB := fun k => Lib.hid (rbefore_any (R.drewN k) (p + (r + 1)) q (by omega) hq x hx)
  obtain ⟨K, hK⟩ : ∃ K, p + (r + 1) = K := ⟨_, rfl⟩
  have hKi : (p : Int) + ((r + 1 : Nat) : Int) = (K : Int) := by omega
  rw [hK] at CB hpr
  obtain ⟨R1, hR1⟩ : ∃ R1, r + 1 = R1 := ⟨_, rfl⟩
  rw [hR1] at C1 c3 hz hr1 hKi
  clear hK hq hx
  go_enter Try.func25, Try.ntmps25
  go_wp2_with fail
  refine C1.out.mono ?_
  rintro e w1 ⟨rfl, rfl⟩
  go_wp2_with fail
  go_quiet ((go_at_call 53; exact (CB _).out.mono fun _ _ hh => ⟨hh.1, drawn_from hh.2⟩))
  go_wp2_with fail
  go_ret2
  refine ⟨rfl, ((Off.refl g h w).drewN _).setCell (p := ⟨g, 3, none⟩) (.inl rfl) _, ?_⟩
  exact ⟨(R.drewN _).bg.set 3 (.int .i64 r), (R.drewN _).bh.other (Ne.symm R.ne) 3 _, R.ne, R.len, R.n1, R.n64, R.nxn, by omega⟩

theorem rnext_ok (R : Rg w g h n buf nx (p + 1) r) (q : Nat) (hq : (nx + n - (p + 1)) % n = q) (x : Int) (hx : buf[q]? = some x) : Calls Try.prog 27 #[.pointer (some ⟨g, 0, none⟩)] w fun e w' => e = .returned (.tuple #[.int .i64 x, .bool true]) ∧ Drawn w w' := by
  have C1 := Lib.hid (rposted_any R)
  have hpr := R.prn
  obtain ⟨c0, c1, c2, c3, f0, f1, f2, f3⟩ := R.bg.get4
  have hz : (((p + 1 : Nat) : Int) == 0) = false := beq_eq_false_iff_ne.mpr (by omega)
  have CB := Lib.hid (rbefore_any R (p + 1) q (by omega) hq x hx)
  obtain ⟨P1, hP1⟩ : ∃ P1, p + 1 = P1 := ⟨_, rfl⟩
  rw [hP1] at C1 c2 hz CB
  clear hq hx R hpr hP1
  go_enter Try.func27, Try.ntmps27
  go_wp2_with fail
  refine C1.out.mono ?_
  rintro e w1 ⟨rfl, rfl⟩
  go_wp2_with fail
  refine CB.out.mono ?_
  rintro e w1 ⟨rfl, hd⟩
  go_wp2_with fail
  go_ret2
  exact ⟨rfl, hd⟩
theorem rown_out (R : Rg w g h n buf nx p r) (k : Int) (hk : k < 0 ∨ (n : Int) ≤ k) : Calls Try.prog 32 #[.pointer (some ⟨g, 0, none⟩), .int .i64 k] w fun e w' => e = .returned (.bool false) ∧ w = w' := by
  have C1 := Lib.hid (rsize_any R)
  clear R
  by_cases h0 : k < 0
  · have d0 : decide (k < 0) = true := by simp [h0]
    clear h0 hk
    go_enter Try.func32, Try.ntmps32
    go_wp2_with fail
    refine C1.out.mono ?_
    rintro e w1 ⟨rfl, rfl⟩
    go_wp2_with fail
    go_ret
    exact ⟨rfl, rfl⟩
  · have d0 : decide (k < 0) = false := by simp [h0]
    have d1 : decide ((n : Int) ≤ k) = true := by simp; omega
    clear h0 hk
    go_enter Try.func32, Try.ntmps32
    go_wp2_with fail
    refine C1.out.mono ?_
    rintro e w1 ⟨rfl, rfl⟩
    go_wp2_with fail
    go_ret
    exact ⟨rfl, rfl⟩
end
end Go.Proofs.Ytggcomociojfoab
