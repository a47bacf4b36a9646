/- Rows of options in memory: what they read as, a row of the call's own, append. -/
import Derived.Test.YteodjajjlgekcaaDoorOct2
import Derived.Test.YteodjajjlgekcaaDoorBlk
namespace Go.Proofs.YteodjajjlgekcaaDoor
open Go.RowKit

abbrev Opt := UInt8 × List UInt8
/-- The cells of options, each datum a row of which P tells. -/
inductive OV (P : Option Addr → Nat → List UInt8 → Prop) : List Value → List Opt → Prop
  | nil : OV P [] []
  | cons {A : Option Addr} {c : Nat} {k : UInt8} {d : List UInt8} {vs : List Value} {l : List Opt} (h : P A c d) (t : OV P vs l) : OV P (.int .u8 (k.toNat : Int) :: .slice A d.length c :: vs) ((k, d) :: l)
section
variable {P Q : Option Addr → Nat → List UInt8 → Prop} {vs : List Value} {l : List Opt}
theorem OV.len (h : OV P vs l) : vs.length = l.length * 2 := by
  induction h with
  | nil => rfl
  | cons _ _ ih => simp only [List.length_cons, ih]; omega
theorem OV.mono (h : OV P vs l) (hm : ∀ A c d, P A c d → Q A c d) : OV Q vs l := by
  induction h with
  | nil => exact .nil
  | cons h _ ih => exact .cons (hm _ _ _ h) ih
theorem OV.snoc (h : OV P vs l) {A : Option Addr} {c : Nat} {k : UInt8} {d : List UInt8} (hp : P A c d) : OV P (vs ++ [.int .u8 (k.toNat : Int), .slice A d.length c]) (l ++ [(k, d)]) := by
  induction h with
  | nil => exact .cons hp .nil
  | cons h _ ih => exact .cons h ih
theorem OV.get (h : OV P vs l) : ∀ i (hi : i < l.length), ∃ A c, vs[i * 2]? = some (.int .u8 (l[i].1.toNat : Int)) ∧ vs[i * 2 + 1]? = some (.slice A l[i].2.length c) ∧ P A c l[i].2 := by
  induction h with
  | nil => intro i hi; simp at hi
  | cons h _ ih =>
    intro i hi
    rcases i with _ | i
    · exact ⟨_, _, rfl, rfl, h⟩
    · obtain ⟨A, c, h1, h2, h3⟩ := ih i (by simpa using hi)
      refine ⟨A, c, ?_, ?_, h3⟩
      · rw [show (i + 1) * 2 = i * 2 + 1 + 1 by omega]; simpa using h1
      · rw [show (i + 1) * 2 + 1 = i * 2 + 1 + 1 + 1 by omega]; simpa using h2
theorem OV.one (h : OV P vs l) : ∀ u ∈ vs, u.oneCell' = true := by
  induction h with
  | nil => intro u hu; cases hu
  | cons h _ ih =>
    intro u hu
    simp only [List.mem_cons] at hu
    rcases hu with rfl | rfl | hu
    · rfl
    · rfl
    · exact ih u hu
theorem OV.take (h : OV P vs l) : ∀ n, OV P (vs.take (n * 2)) (l.take n) := by
  induction h with
  | nil => intro n; simp; exact .nil
  | cons h _ ih =>
    intro n
    rcases n with _ | n
    · simp; exact .nil
    · rw [show (n + 1) * 2 = n * 2 + 1 + 1 by omega]
      simp only [List.take_succ_cons]
      exact .cons h (ih n)
end
/-- The slice '.slice A l.length c' reads as the options l. -/
def Os (w : World) (B : Nat) (A : Option Addr) (c : Nat) (l : List Opt) : Prop :=
  l.length ≤ c ∧ c ≤ 9223372036854775807 ∧ (A = none → c = 0) ∧ (0 < l.length → ∃ b off vs, A = some ⟨b, off, none⟩ ∧ b < B ∧ OV (fun A c d => Rd bv w B A c d) vs l ∧ ∀ (j : Nat) u, vs[j]? = some u → w.cell? ⟨b, off + j, none⟩ = some u)
theorem Os.len {w : World} {B : Nat} {A : Option Addr} {c : Nat} {l : List Opt} (h : Os w B A c l) : l.length ≤ c := h.1
theorem Os.cap {w : World} {B : Nat} {A : Option Addr} {c : Nat} {l : List Opt} (h : Os w B A c l) : c ≤ 9223372036854775807 := h.2.1
theorem Os.nil0 (w : World) (B : Nat) : Os w B none 0 [] := ⟨by simp, by omega, fun _ => rfl, fun h => by simp at h⟩
theorem Os.next {w w' : World} {A : Option Addr} {c : Nat} {l : List Opt} (h : Os w w.heap.size A c l) (hb : Below w.heap.size w w') : Os w' w'.heap.size A c l :=
  ⟨h.1, h.2.1, h.2.2.1, fun hn => by
    obtain ⟨b, off, vs, e, hlt, hv, hc⟩ := h.2.2.2 hn
    exact ⟨b, off, vs, e, Nat.lt_of_lt_of_le hlt hb.size, hv.mono fun A c d h => h.next hb, fun j u hj => (hb.cell hlt).trans (hc j u hj)⟩⟩
theorem Os.nextA {w : World} {A : Option Addr} {c : Nat} {l : List Opt} (h : Os w w.heap.size A c l) (o : Obj) : Os (w.alloc o) (w.alloc o).heap.size A c l := h.next ((Below.refl _ _).alloc (Nat.le_refl _) o)
theorem Os.at_ {w : World} {B : Nat} {A : Option Addr} {c : Nat} {l : List Opt} (h : Os w B A c l) (i : Nat) (hi : i < l.length) :
    ∃ b off A2 c2, A = some ⟨b, off, none⟩ ∧ b < B ∧ w.cell? ⟨b, off + i * 2, none⟩ = some (.int .u8 (l[i].1.toNat : Int)) ∧ w.cell? ⟨b, off + i * 2 + 1, none⟩ = some (.slice A2 l[i].2.length c2) ∧ Rd bv w B A2 c2 l[i].2 := by
  obtain ⟨b, off, vs, e, hlt, hv, hc⟩ := h.2.2.2 (by omega)
  obtain ⟨A2, c2, h1, h2, h3⟩ := hv.get i hi
  exact ⟨b, off, A2, c2, e, hlt, hc _ _ h1, by rw [Nat.add_assoc]; exact hc _ _ h2, h3⟩
theorem Os.take {w : World} {B : Nat} {A : Option Addr} {c : Nat} {l : List Opt} (h : Os w B A c l) (n : Nat) : Os w B A c (l.take n) := by
  refine ⟨by have := h.1; simp; omega, h.2.1, h.2.2.1, fun hn => ?_⟩
  obtain ⟨b, off, vs, e, hlt, hv, hc⟩ := h.2.2.2 (by simp at hn; omega)
  refine ⟨b, off, _, e, hlt, hv.take n, fun j u hj => hc j u ?_⟩
  rw [List.getElem?_take] at hj
  split at hj
  · exact hj
  · cases hj

/-- A datum of an option of a row that the call owns: a row of its own, or one that was there. -/
def KD (w : World) (base : Nat) (A : Option Addr) (c : Nat) (d : List UInt8) : Prop := Own bv w base 5 (.slice A d.length c) d ∨ Rd bv w base A c d
theorem Own.others {α : Type} {f : α → Value} {w w' : World} {base : Nat} {e e' : TypeId} {v : Value} {xs : List α} (h : Own f w base e v xs) (ho : Lib.OthersKept e' none w w') (hne : e ≠ e') : Own f w' base e v xs := by
  refine ⟨h.1, ?_⟩
  rcases h.2 with h2 | ⟨g, cap, cur, h1, h2, h3, h4⟩
  · exact .inl h2
  · exact .inr ⟨g, cap, cur, h1, h2, ho g _ h3 (by simp) (fun c fz hc => by injection hc with _ hc _; exact hne hc), h4⟩
theorem KD.others {w w' : World} {base : Nat} {A : Option Addr} {c : Nat} {d : List UInt8} (h : KD w base A c d) (ho : Lib.OthersKept 101 none w w') (hb : Below base w w') : KD w' base A c d := by
  rcases h with h | h
  · exact .inl (h.others ho (by decide))
  · exact .inr (h.below hb)
theorem KD.next {w w' : World} {base : Nat} {A : Option Addr} {c : Nat} {d : List UInt8} (h : KD w base A c d) (hb : Below w.heap.size w w') (hB : base ≤ w.heap.size) : KD w' base A c d := by
  rcases h with h | h
  · exact .inl (h.nextO hb)
  · exact .inr (h.below (hb.mono hB))
theorem KD.rd {w : World} {base : Nat} {A : Option Addr} {c : Nat} {d : List UInt8} (h : KD w base A c d) (hB : base ≤ w.heap.size) : Rd bv w w.heap.size A c d := by
  rcases h with h | h
  · exact h.rdS
  · exact h.more hB
/-- A row of options of the call's own. -/
def OwnO (w : World) (base : Nat) (v : Value) (l : List Opt) : Prop := ∃ vs, w.ownsRow base 101 2 v l.length vs ∧ OV (KD w base) vs l
theorem OwnO.nil0 (w : World) (base : Nat) : OwnO w base (.slice none 0 0) [] := ⟨[], World.ownsRow_nil w base _ 2, .nil⟩
theorem OwnO.nextO {w w' : World} {base : Nat} {v : Value} {l : List Opt} (h : OwnO w base v l) (hb : Below w.heap.size w w') (hB : base ≤ w.heap.size) : OwnO w' base v l := by
  obtain ⟨vs, h1, h2⟩ := h
  refine ⟨vs, ?_, h2.mono fun A c d h => h.next hb hB⟩
  refine World.ownsRow.kept (row := none) h1 ⟨hb.os, hb.tape, hb.output, hb.size, fun k hk _ => hb.block k hk⟩ ?_
  cases hv : v.ownBlock with
  | none => exact Or.inl rfl
  | some g => exact Or.inr (by simp)
theorem OwnO.os {w : World} {base : Nat} {v : Value} {l : List Opt} (h : OwnO w base v l) (hB : base ≤ w.heap.size) : ∃ A c, v = .slice A l.length c ∧ Os w w.heap.size A c l := by
  obtain ⟨vs, h1, h2⟩ := h
  have hl := h2.len
  rcases h1.2 with ⟨rfl, hn⟩ | ⟨g, cap, cur, rfl, _, hg, hnc, hcm, _, ht⟩
  · obtain rfl := List.eq_nil_of_length_eq_zero hn
    exact ⟨none, 0, rfl, Os.nil0 _ _⟩
  · refine ⟨some ⟨g, 0, none⟩, cap, rfl, hnc, by simpa [maxLen] using hcm, fun hh => by simp at hh, fun _ => ⟨g, 0, vs, rfl, ?_, h2.mono fun A c d h => h.rd hB, fun j u hj => ?_⟩⟩
    · rcases Nat.lt_or_ge g w.heap.size with hlt | hge
      · exact hlt
      · rw [Array.getElem?_eq_none hge] at hg; cases hg
    · have h3 := h1.cells (g := g) rfl j u hj
      rw [addr_add] at h3
      exact h3
section
variable {P : Program} {w : World}
/-- append of one option onto a row of the call's own; the new one lies in a literal's block. -/
theorem wpList_append_opt {ops : Array Oper} {rest : List Oper} {o : Oper} {a : Act} {Q : Exit → Act → World → Prop} (hgd : o.guard = none) (s x : Operand) (t : TypeId)
    (ho : o.op = .call { callee := .builtin .append, args := #[s, x], argTypes := #[t, t] })
    (base : Nat) (i : TypeInfo) (z : Value) (bytes : Nat) (ht : P.underlying t = some (.slice 101)) (hi : P.info? 101 = some i) (hz : i.zero = some z)
    (hsize : i.size = 2) (hby : i.bytes = bytes) (hzs : z.cells.size = 2)
    (v : Value) (l : List Opt) (hs : a.eval s = v) (hown : OwnO w base v l)
    (g : Nat) (A : Option Addr) (c : Nat) (k : UInt8) (d : List UInt8) (hx : a.eval x = .slice (some ⟨g, 0, none⟩) 1 1) (hk : KD w base A c d) (hg : Blk w g [.int .u8 (k.toNat : Int), .slice A d.length c] 101)
    (h63 : l.length + 1 ≤ 1000000000) (hbytes : bytes ≤ 1000) (hbase : base ≤ w.heap.size)
    (w0 : World) (hb : Below base w0 w)
    (h : ∀ v' w', OwnO w' base v' (l ++ [(k, d)]) → Below base w0 w' → wpList P ops Q rest (a.put o.dst v') w') : wpList P ops Q (o :: rest) a w := by
  obtain ⟨vs, h1, h2⟩ := hown
  refine wpList_append_own w hgd s x t ho base 101 i z 2 bytes ht hi hz hsize hby hzs (by omega) v l.length vs hs h1 ⟨g, 0, none⟩ 1 1 [.int .u8 (k.toNat : Int), .slice A d.length c] hx (by simp) ?_ ?_ (by unfold maxLen; omega) ?_ hbase ?_
  · intro j u hj
    have := hg.cell j
    rw [hj] at this
    rw [← this, addr_add]
    simp
  · intro u hu
    simp only [List.mem_cons, List.not_mem_nil, or_false] at hu
    rcases hu with rfl | rfl <;> rfl
  · exact Nat.le_trans (Nat.mul_le_mul (show l.length + 1 ≤ 100000000000 by omega) hbytes) (by decide)
  · intro v' w' g1 g2 _
    have hbw : Below base w w' := (Below.refl _ _).grown g2 hbase fun k hk => (World.ownsRow.lt h1 k hk).1
    have hoth : Lib.OthersKept 101 none w w' := (Lib.OthersKept.refl _ _ _).grown g2 (by
      intro gg hgg
      rcases h1.2 with ⟨rfl, _⟩ | ⟨g', cap, cur, rfl, _, hgg', _⟩
      · simp [Value.ownBlock] at hgg
      · simp [Value.ownBlock] at hgg
        subst hgg
        exact ⟨cur, _, hgg'⟩)
    refine h v' w' ⟨_, by simpa using g1, (h2.mono fun A c d h => h.others hoth hbw).snoc (hk.others hoth hbw)⟩ (hb.trans hbw)
end
end Go.Proofs.YteodjajjlgekcaaDoor
