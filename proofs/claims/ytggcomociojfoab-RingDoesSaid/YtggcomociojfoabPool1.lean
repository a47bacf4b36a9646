/- Contracts of package pool: New, Take, Give, Free, on the pool's blocks. -/
import Derived.Test.YtggcomociojfoabRing2
namespace Go.Proofs.Ytggcomociojfoab
open Go.RowKit

/-- The buffers' block: which are taken, what they hold. -/
def Bufs (w : World) (hb n : Nat) (tk : Nat → Bool) (hv : Nat → Value) : Prop := ∃ cs, Blk w hb cs 95 ∧ ∀ i, i < n → cs[i * 2]? = some (.bool (tk i)) ∧ cs[i * 2 + 1]? = some (hv i)
/-- The pool's block g, its buffers' block hb, the row of free ones. -/
structure Pl (w : World) (g hb n : Nat) (vf : Value) (free : List Int) (tk : Nat → Bool) (hv : Nat → Value) : Prop where
  bg : Blk w g [vf, .slice (some ⟨hb, 0, none⟩) n n] 93
  bf : Bufs w hb n tk hv
  own : Own iv w (g + 1) 3 vf free
  lt : hb < g
  n256 : n ≤ 256
  fl : free.length ≤ 256
  fr : ∀ x ∈ free, 0 ≤ x ∧ x < n
theorem Bufs.below {w w' : World} {B hb n : Nat} {tk : Nat → Bool} {hv : Nat → Value} (h : Bufs w hb n tk hv) (hb2 : Below B w w') (hlt : hb < B) : Bufs w' hb n tk hv := by
  obtain ⟨cs, h1, h2⟩ := h
  exact ⟨cs, h1.below hb2 hlt, h2⟩
theorem Bufs.other {w : World} {hb n g : Nat} {tk : Nat → Bool} {hv : Nat → Value} (h : Bufs w hb n tk hv) (hne : hb ≠ g) (j : Nat) (v : Value) : Bufs (w.setCell ⟨g, j, none⟩ v) hb n tk hv := by
  obtain ⟨cs, h1, h2⟩ := h
  exact ⟨cs, h1.other hne j v, h2⟩
theorem Bufs.setTk {w : World} {hb n : Nat} {tk : Nat → Bool} {hv : Nat → Value} (h : Bufs w hb n tk hv) (k : Nat) (b : Bool) : Bufs (w.setCell ⟨hb, k * 2, none⟩ (.bool b)) hb n (fun i => if i = k then b else tk i) hv := by
  obtain ⟨cs, h1, h2⟩ := h
  refine ⟨_, h1.set _ _, fun i hi => ?_⟩
  obtain ⟨q1, q2⟩ := h2 i hi
  refine ⟨?_, by rw [List.getElem?_set_ne (by omega)]; exact q2⟩
  by_cases hik : i = k
  · subst hik
    have : i * 2 < cs.length := (List.getElem?_eq_some_iff.1 q1).1
    rw [List.getElem?_set_self this]
    simp
  · rw [List.getElem?_set_ne (by omega)]
    simp only [if_neg hik]
    exact q1
theorem Bufs.setHv {w : World} {hb n : Nat} {tk : Nat → Bool} {hv : Nat → Value} (h : Bufs w hb n tk hv) (k : Nat) (v : Value) : Bufs (w.setCell ⟨hb, k * 2 + 1, none⟩ v) hb n tk (fun i => if i = k then v else hv i) := by
  obtain ⟨cs, h1, h2⟩ := h
  refine ⟨_, h1.set _ _, fun i hi => ?_⟩
  obtain ⟨q1, q2⟩ := h2 i hi
  refine ⟨by rw [List.getElem?_set_ne (by omega)]; exact q1, ?_⟩
  by_cases hik : i = k
  · subst hik
    have : i * 2 + 1 < cs.length := (List.getElem?_eq_some_iff.1 q2).1
    rw [List.getElem?_set_self this]
    simp
  · rw [List.getElem?_set_ne (by omega)]
    simp only [if_neg hik]
    exact q2
theorem Bufs.at_ {w : World} {hb n : Nat} {tk : Nat → Bool} {hv : Nat → Value} (h : Bufs w hb n tk hv) (k : Nat) (hk : k < n) : w.cell? ⟨hb, k * 2, none⟩ = some (.bool (tk k)) ∧ w.cell? ⟨hb, k * 2 + 1, none⟩ = some (hv k) ∧ w.frozen? ⟨hb, k * 2, none⟩ = false ∧ w.frozen? ⟨hb, k * 2 + 1, none⟩ = false := by
  obtain ⟨cs, h1, h2⟩ := h
  exact ⟨(h1.cell _).trans (h2 k hk).1, (h1.cell _).trans (h2 k hk).2, h1.frozen _, h1.frozen _⟩
theorem Own.dropLast {α : Type} {f : α → Value} {w : World} {base : Nat} {e : TypeId} {A : Option Addr} {n c : Nat} {xs : List α} (h : Own f w base e (.slice A (n + 1) c) xs) (hl : xs.length = n + 1) : Own f w base e (.slice A n c) (xs.take n) := by
  obtain ⟨h1, h2⟩ := h
  refine ⟨by simp, ?_⟩
  rcases h2 with ⟨h2, -⟩ | ⟨g, cap, cur, hv, hb, hg, hn, hc, hs, ht⟩
  · injection h2 with _ h2; omega
  · injection hv with e1 e2 e3
    subst e1 e3
    refine .inr ⟨g, c, cur, by simp; omega, hb, hg, by simp; omega, hc, hs, ?_⟩
    simp only [Nat.mul_one] at ht ⊢
    have := congrArg (List.take n) ht
    rw [List.take_take] at this
    simp only [List.length_take]
    rw [show min n xs.length = min n xs.length from rfl, List.map_take]
    rw [← this]

section
variable {w : World} {g hb n : Nat} {vf : Value} {free : List Int} {tk : Nat → Bool} {hv : Nat → Value}
theorem pfree_any (R : Pl w g hb n vf free tk hv) : Calls Try.prog 45 #[.pointer (some ⟨g, 0, none⟩)] w fun e w' => e = .returned (.int .i64 free.length) ∧ w = w' := by
  obtain ⟨c0, c1, -⟩ := R.bg.get2
  obtain ⟨A, c, hvf, hr⟩ := R.own.rd
  have hrl := hr.len
  have hrc := hr.cap
  rw [hvf] at c0
  clear R hvf hr
  go_enter Try.func45, Try.ntmps45
  go_wp2
  go_ret
  exact ⟨rfl, rfl⟩
theorem ptake_none (R : Pl w g hb n vf [] tk hv) : Calls Try.prog 38 #[.pointer (some ⟨g, 0, none⟩)] w fun e w' => e = .returned (.tuple #[.int .i64 0, .bool false]) ∧ w = w' := by
  obtain ⟨c0, c1, -⟩ := R.bg.get2
  obtain ⟨A, c, hvf, hr⟩ := R.own.rd
  have hrc := hr.cap
  rw [hvf] at c0
  simp only [List.length_nil] at c0
  clear R hvf hr
  go_enter Try.func38, Try.ntmps38
  go_wp2
  go_ret2
  exact ⟨rfl, rfl⟩
theorem ptake_ok {xs : List Int} {i : Nat} (R : Pl w g hb n vf (xs ++ [(i : Int)]) tk hv) (hi : i < n) (B : Nat) (hBh : B ≤ hb) : Calls Try.prog 38 #[.pointer (some ⟨g, 0, none⟩)] w fun e w' => e = .returned (.tuple #[.int .i64 i, .bool true]) ∧ Below B w w' ∧ ∃ vf', Pl w' g hb n vf' xs (fun j => if j = i then true else tk j) hv := by
  obtain ⟨c0, c1, f0, f1⟩ := R.bg.get2
  have hfl := R.fl
  have hlt := R.lt
  have hn256 := R.n256
  obtain ⟨m, hm⟩ : ∃ m, xs.length = m := ⟨_, rfl⟩
  obtain ⟨A, c, hvf, hr⟩ := R.own.rd
  have hown := R.own
  rw [hvf] at hown c0
  simp only [List.length_append, List.length_singleton, hm] at hown c0 hfl
  have hrl := hr.len
  have hrc := hr.cap
  simp only [List.length_append, List.length_singleton, hm] at hrl
  obtain ⟨bl, off, rfl, hbl, hcell⟩ := hr.at_ (k := m) (by simp [hm])
  have ci := hcell m (by simp [hm])
  have hgi : (xs ++ [(i : Int)])[m]'(by simp [hm]) = (i : Int) := by simp [← hm]
  rw [hgi] at ci
  simp only [iv] at ci
  have hne : bl ≠ g := by
    obtain ⟨g', cap', hv', hge, -⟩ := R.own.some_ (by rw [hvf]; simp)
    rw [hvf] at hv'
    injection hv' with hv' _ _
    injection hv' with hv'
    injection hv' with hv' _ _
    omega
  obtain ⟨t0, t1, tf0, tf1⟩ := R.bf.at_ i hi
  have hz : (((m : Int) + 1) == 0) = false := beq_eq_false_iff_ne.mpr (by omega)
  have hm1 : (m : Int) + 1 - 1 = (m : Int) := by omega
  have hdrop := hown.dropLast (by simp [hm])
  have htake : (xs ++ [(i : Int)]).take m = xs := by rw [← hm]; simp
  rw [htake] at hdrop
  clear hgi hcell hr hown htake
  have HO := Lib.hid hdrop
  clear hdrop
  go_enter Try.func38, Try.ntmps38
  go_wp2_with fail
  go_ret2
  refine ⟨rfl, ((Below.refl B w).setCell (p := ⟨g, 0, none⟩) (by show B ≤ g; omega) _).setCell (p := ⟨hb, i * 2, none⟩) hBh _, .slice (some ⟨bl, off, none⟩) m c, ?_⟩
  exact ⟨(R.bg.set 0 _).other (by omega) _ _, (R.bf.other (by omega) 0 _).setTk i true, (HO.out.setBelow (p := ⟨g, 0, none⟩) (by show g < g + 1; omega) _).setBelow (p := ⟨hb, i * 2, none⟩) (by show hb < g + 1; omega) _, R.lt, R.n256, by omega, fun x hx => R.fr x (List.mem_append_left _ hx)⟩
end
end Go.Proofs.Ytggcomociojfoab
