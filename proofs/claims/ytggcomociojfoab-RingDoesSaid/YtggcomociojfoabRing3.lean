/- Contracts of the reference's ring: two rows, and how many were ever posted, and worked off. -/
import Derived.Test.YtggcomociojfoabPool2
import Derived.Test.YtggcomociojfoabRef1
namespace Go.Proofs.Ytggcomociojfoab
open Go.RowKit

/-- A row behind block g. -/
def Row (w : World) (g : Nat) (v : Value) (xs : List Int) : Prop := ∃ A c, v = .slice A xs.length c ∧ Rd iv w w.heap.size A c xs ∧ ∀ a : Addr, A = some a → g < a.block
theorem Row.next {w w' : World} {g : Nat} {v : Value} {xs : List Int} (h : Row w g v xs) (hb : Below w.heap.size w w') : Row w' g v xs := by
  obtain ⟨A, c, h1, h2, h3⟩ := h
  exact ⟨A, c, h1, h2.next hb, h3⟩
theorem Row.tail {w : World} {g : Nat} {A : Option Addr} {n c : Nat} {x : Int} {xs : List Int} (h : Rd iv w w.heap.size A c (x :: xs)) (hg : ∀ a : Addr, A = some a → g < a.block) (hn : (x :: xs).length = n) :
    ∃ b off, A = some ⟨b, off, none⟩ ∧ Row w g (.slice (some ⟨b, off + 1, none⟩) (n - 1) (c - 1)) xs := by
  subst hn
  obtain ⟨b, off, rfl, hb, hc⟩ := h.at_ (k := 0) (by simp)
  have hl := h.len
  have hcap := h.cap
  refine ⟨b, off, rfl, some ⟨b, off + 1, none⟩, c - 1, by simp, ⟨by simp at hl ⊢; omega, by omega, (fun hh => by cases hh), fun _ => ⟨b, off + 1, rfl, hb, fun j hj => ?_⟩⟩, fun a ha => ?_⟩
  · have := hc (j + 1) (by simp; omega)
    rw [show off + (j + 1) = off + 1 + j by omega] at this
    simpa using this
  · injection ha with ha
    rw [← ha]
    exact hg ⟨b, off, none⟩ rfl
/-- The reference's ring: its block g; the rows of those posted and those ready. -/
structure Rr (w : World) (g n : Nat) (vp vr : Value) (ps rs : List Int) (ever work : Nat) : Prop where
  bg : Blk w g [.int .i64 n, vp, vr, .int .i64 ever, .int .i64 work] 63
  op : Row w g vp ps
  or_ : Row w g vr rs
  n64 : n ≤ 64
  pr : ps.length + rs.length ≤ n
  ew : ever = work + ps.length
  e80 : ever ≤ 100
theorem Rr.next {w w' : World} {g n : Nat} {vp vr : Value} {ps rs : List Int} {ever work : Nat} (R : Rr w g n vp vr ps rs ever work) (hb : Below w.heap.size w w') : Rr w' g n vp vr ps rs ever work :=
  ⟨R.bg.next hb, R.op.next hb, R.or_.next hb, R.n64, R.pr, R.ew, R.e80⟩
theorem rr_cells {W : World} {g : Nat} {e : TypeId} {v0 v1 v2 v3 v4 : Value} (h : Blk W g [v0, v1, v2, v3, v4] e) : W.cell? ⟨g, 0, none⟩ = some v0 ∧ W.cell? ⟨g, 1, none⟩ = some v1 ∧ W.cell? ⟨g, 2, none⟩ = some v2 ∧ W.cell? ⟨g, 3, none⟩ = some v3 ∧ W.cell? ⟨g, 4, none⟩ = some v4 ∧ W.frozen? ⟨g, 1, none⟩ = false ∧ W.frozen? ⟨g, 2, none⟩ = false ∧ W.frozen? ⟨g, 3, none⟩ = false ∧ W.frozen? ⟨g, 4, none⟩ = false := ⟨h.cell 0, h.cell 1, h.cell 2, h.cell 3, h.cell 4, h.frozen 1, h.frozen 2, h.frozen 3, h.frozen 4⟩

section
variable {w : World} {g n : Nat} {vp vr : Value} {ps rs : List Int} {ever work : Nat}
theorem rrnext_none (R : Rr w g n vp vr [] rs ever work) : Calls Try.prog 28 #[.pointer (some ⟨g, 0, none⟩)] w fun e w' => e = .returned (.tuple #[.int .i64 0, .bool false]) ∧ w = w' := by
  obtain ⟨c0, c1, -⟩ := rr_cells R.bg
  obtain ⟨A, c, rfl, hr, -⟩ := R.op
  simp only [List.length_nil] at c1
  have hrc := hr.cap
  clear R hr
  go_enter Try.func28, Try.ntmps28
  go_wp2_with fail
  go_ret2
  exact ⟨rfl, rfl⟩
theorem rrnext_ok {x : Int} {xs : List Int} (R : Rr w g n vp vr (x :: xs) rs ever work) : Calls Try.prog 28 #[.pointer (some ⟨g, 0, none⟩)] w fun e w' => e = .returned (.tuple #[.int .i64 x, .bool true]) ∧ w = w' := by
  obtain ⟨c0, c1, -⟩ := rr_cells R.bg
  have h64 := R.n64
  have hpr := R.pr
  obtain ⟨A, c, rfl, hr, -⟩ := R.op
  have hrc := hr.cap
  have hrl := hr.len
  obtain ⟨b, off, rfl, hb, hc⟩ := hr.at_ (k := 0) (by simp)
  have c2 := hc 0 (by simp)
  simp only [List.getElem_cons_zero, iv, Nat.add_zero] at c2
  obtain ⟨m, hm⟩ : ∃ m, (x :: xs).length = m := ⟨_, rfl⟩
  have hm1 : 1 ≤ m := by rw [← hm]; simp
  rw [hm] at c1 hrl
  have hz : ((m : Int) == 0) = false := beq_eq_false_iff_ne.mpr (by omega)
  clear R hr hc hm hpr
  go_enter Try.func28, Try.ntmps28
  go_wp2_with fail
  go_ret2
  exact ⟨rfl, rfl⟩
theorem rrreap_none (R : Rr w g n vp vr ps [] ever work) : Calls Try.prog 26 #[.pointer (some ⟨g, 0, none⟩)] w fun e w' => e = .returned (.tuple #[.int .i64 0, .bool false]) ∧ w = w' := by
  obtain ⟨c0, c1, c2, -⟩ := rr_cells R.bg
  obtain ⟨A, c, rfl, hr, -⟩ := R.or_
  simp only [List.length_nil] at c2
  have hrc := hr.cap
  clear R hr
  go_enter Try.func26, Try.ntmps26
  go_wp2_with fail
  go_ret2
  exact ⟨rfl, rfl⟩
end
end Go.Proofs.Ytggcomociojfoab
