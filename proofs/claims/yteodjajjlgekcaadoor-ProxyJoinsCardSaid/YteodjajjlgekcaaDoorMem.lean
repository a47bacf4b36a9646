/- Plain words and lemmas on memory for the walks of this seat: a slice of one-cell elements that reads as a list, a row of the call's own, append and make on such rows. Nothing of the program's own code is named here. -/
import Derived.WalkKit
import Derived.ProofKit
import Derived.Lib.Hide
import Derived.Deep.QuietTactic
import Derived.Deep.Draws
import Derived.Laws.AppendOwnNone
import Derived.RegionTactic
import Derived.Laws.BytesArg
import Derived.Lib.OthersKept
namespace Go.Proofs.YteodjajjlgekcaaDoor
open Go.RowKit

def bv (x : UInt8) : Value := .int .u8 (x.toNat : Int)
def hv (x : UInt16) : Value := .int .u16 (x.toNat : Int)
def wv (x : UInt32) : Value := .int .u32 (x.toNat : Int)

/-- The slice value '.slice A xs.length c' reads as the list xs, cell by cell by f, and lies below block B. -/
def Rd {α : Type} (f : α → Value) (w : World) (B : Nat) (A : Option Addr) (c : Nat) (xs : List α) : Prop :=
  xs.length ≤ c ∧ c ≤ 9223372036854775807 ∧ (A = none → c = 0) ∧
    (0 < xs.length → ∃ b off, A = some ⟨b, off, none⟩ ∧ b < B ∧ ∀ j (_ : j < xs.length), w.cell? ⟨b, off + j, none⟩ = some (f xs[j]))

theorem u8_le (x : UInt8) : 0 ≤ (x.toNat : Int) ∧ (x.toNat : Int) ≤ 255 := by
  have := x.toNat_lt; omega
theorem u16_le (x : UInt16) : 0 ≤ (x.toNat : Int) ∧ (x.toNat : Int) ≤ 65535 := by
  have := x.toNat_lt; omega
theorem u32_le (x : UInt32) : 0 ≤ (x.toNat : Int) ∧ (x.toNat : Int) ≤ 4294967295 := by
  have := x.toNat_lt; omega

section
variable {α : Type} {f : α → Value} {w w' : World} {B B' : Nat} {A : Option Addr} {c : Nat} {xs : List α}
theorem Rd.len (h : Rd f w B A c xs) : xs.length ≤ c := h.1
theorem Rd.cap (h : Rd f w B A c xs) : c ≤ 9223372036854775807 := h.2.1
theorem Rd.nil0 (f : α → Value) (w : World) (B : Nat) : Rd f w B none 0 [] := ⟨by simp, by omega, fun _ => rfl, fun h => by simp at h⟩
theorem Rd.empty (f : α → Value) (w : World) (B : Nat) (A : Option Addr) (c : Nat) (hc : c ≤ 9223372036854775807) (hn : A = none → c = 0) : Rd f w B A c [] := ⟨by simp, hc, hn, fun h => by simp at h⟩
theorem Rd.keep (h : Rd f w B A c xs) (hk : ∀ p : Addr, p.block < B → w'.cell? p = w.cell? p) : Rd f w' B A c xs :=
  ⟨h.1, h.2.1, h.2.2.1, fun hn => by
    obtain ⟨b, off, e, hb, hc⟩ := h.2.2.2 hn
    exact ⟨b, off, e, hb, fun j hj => (hk _ hb).trans (hc j hj)⟩⟩
theorem Rd.more (h : Rd f w B A c xs) (hB : B ≤ B') : Rd f w B' A c xs :=
  ⟨h.1, h.2.1, h.2.2.1, fun hn => by
    obtain ⟨b, off, e, hb, hc⟩ := h.2.2.2 hn
    exact ⟨b, off, e, by omega, hc⟩⟩
theorem Rd.below (h : Rd f w B A c xs) (hb : Below B w w') : Rd f w' B A c xs := h.keep fun _ hp => hb.cell hp
theorem Rd.drew (h : Rd f w B A c xs) : Rd f w.drew B A c xs := h
theorem Rd.drewN (h : Rd f w B A c xs) (k : Nat) : Rd f (w.drewN k) B A c xs := h
theorem Rd.take (h : Rd f w B A c xs) (n : Nat) : Rd f w B A c (xs.take n) := by
  refine ⟨by have := h.1; simp; omega, h.2.1, h.2.2.1, fun hn => ?_⟩
  obtain ⟨b, off, e, hb, hc⟩ := h.2.2.2 (by simp at hn; omega)
  refine ⟨b, off, e, hb, fun j hj => ?_⟩
  rw [hc j (by simp at hj; omega)]
  simp
theorem Rd.at_ (h : Rd f w B A c xs) {k : Nat} (hk : k < xs.length) : ∃ b off, A = some ⟨b, off, none⟩ ∧ b < B ∧ ∀ j (_ : j < xs.length), w.cell? ⟨b, off + j, none⟩ = some (f xs[j]) :=
  h.2.2.2 (by omega)
theorem Rd.news {a : Addr} (h : Rd f w B (some a) c xs) : ∀ j u, (xs.map f)[j]? = some u → w.cell? (a.add j) = some u := by
  intro j u hj
  have hlt : j < xs.length := by
    rcases Nat.lt_or_ge j xs.length with h' | h'
    · exact h'
    · rw [List.getElem?_eq_none (by simpa using h')] at hj; cases hj
  obtain ⟨b, off, e, _, hc⟩ := h.2.2.2 (by omega)
  injection e with e
  subst e
  have hj' : f xs[j] = u := by simpa [hlt] using hj
  rw [← hj', ← hc j hlt]
  simp only [Addr.add]
  split
  · next h0 => simp [h0]
  · rfl
end

/-- The bytes of an argument, in the walk's own spelling. -/
theorem byt_at {w : World} {B : Nat} {A : Option Addr} {c : Nat} {bs : List UInt8} (h : Rd bv w B A c bs) {k : Nat} (hk : k < bs.length) :
    ∃ b off, A = some ⟨b, off, none⟩ ∧ b < B ∧ ∀ j (_ : j < bs.length), w.cell? ⟨b, off + j, none⟩ = some (.int .u8 ((bs[j]).toNat : Int)) := h.at_ hk

theorem below_drewN {B : Nat} {a w : World} (h : Below B a w) (n : Nat) : Below B a (w.drewN n) := ⟨h.os, h.tape, h.output, h.size, h.block⟩

/-- w' is w but for draws. -/
def Drawn (w w' : World) : Prop := ∃ n, w' = w.drewN n
theorem Drawn.refl (w : World) : Drawn w w := ⟨0, rfl⟩
theorem Drawn.step {w w' : World} (h : Drawn w w') (n : Nat) : Drawn w (w'.drewN n) := by
  obtain ⟨k, rfl⟩ := h
  exact ⟨k + n, World.drewN_drewN _ _ _⟩
theorem Drawn.trans {a b c : World} (h : Drawn a b) (h' : Drawn b c) : Drawn a c := by
  obtain ⟨n, rfl⟩ := h'
  exact h.step n
theorem Drawn.below {B : Nat} {w w' : World} (h : Drawn w w') : Below B w w' := by
  obtain ⟨k, rfl⟩ := h
  exact below_drewN (Below.refl _ _) k
theorem Drawn.bel {w w' : World} (h : Drawn w w') : Below w.heap.size w w' := h.below
theorem Drawn.size {w w' : World} (h : Drawn w w') : w'.heap.size = w.heap.size := by
  obtain ⟨k, rfl⟩ := h; rfl
theorem Rd.drawn {α : Type} {f : α → Value} {w w' : World} {B : Nat} {A : Option Addr} {c : Nat} {xs : List α} (h : Rd f w B A c xs) (hd : Drawn w w') : Rd f w' B A c xs := by
  obtain ⟨k, rfl⟩ := hd; exact h

/-- On to the next world: what was read stays read, below the new world's size. -/
theorem Rd.next {α : Type} {f : α → Value} {w w' : World} {A : Option Addr} {c : Nat} {xs : List α} (h : Rd f w w.heap.size A c xs) (hb : Below w.heap.size w w') : Rd f w' w'.heap.size A c xs := (h.below hb).more hb.size
theorem Rd.nextA {α : Type} {f : α → Value} {w : World} {A : Option Addr} {c : Nat} {xs : List α} (h : Rd f w w.heap.size A c xs) (o : Obj) : Rd f (w.alloc o) (w.alloc o).heap.size A c xs := h.next ((Below.refl _ _).alloc (Nat.le_refl _) o)
theorem Rd.nextD {α : Type} {f : α → Value} {w w' : World} {A : Option Addr} {c : Nat} {xs : List α} (h : Rd f w w.heap.size A c xs) (hd : Drawn w w') : Rd f w' w'.heap.size A c xs := h.next hd.below
theorem bnext {w0 w w' : World} (h : Below w0.heap.size w0 w) (hb : Below w.heap.size w w') : Below w0.heap.size w0 w' := h.trans (hb.mono h.size)
theorem bnextA {w0 w : World} (h : Below w0.heap.size w0 w) (o : Obj) : Below w0.heap.size w0 (w.alloc o) := h.alloc h.size o
theorem bnextD {w0 w w' : World} (h : Below w0.heap.size w0 w) (hd : Drawn w w') : Below w0.heap.size w0 w' := h.trans hd.below

theorem u16_of {a : Int} (h : (Lit.int .u16 a).wf = true) : ∃ x : UInt16, a = (x.toNat : Int) := by
  simp [Lit.wf, IntKind.min, IntKind.max, IntKind.signed, IntKind.bits] at h
  exact ⟨UInt16.ofNat a.toNat, by simp; omega⟩
theorem u32_of {a : Int} (h : (Lit.int .u32 a).wf = true) : ∃ x : UInt32, a = (x.toNat : Int) := by
  simp [Lit.wf, IntKind.min, IntKind.max, IntKind.signed, IntKind.bits] at h
  exact ⟨UInt32.ofNat a.toNat, by simp; omega⟩
theorem u8_of {a : Int} (h : (Lit.int .u8 a).wf = true) : ∃ x : UInt8, a = (x.toNat : Int) := by
  simp [Lit.wf, IntKind.min, IntKind.max, IntKind.signed, IntKind.bits] at h
  exact ⟨UInt8.ofNat a.toNat, by simp; omega⟩
/-- The cells of a block that the call laid, in a later world. -/
theorem blk {w0 w : World} {g : Nat} {cs : Array Value} {e : TypeId} (hg : g = w0.heap.size) (hb : Below (w0.alloc (.cells cs e)).heap.size (w0.alloc (.cells cs e)) w) (j : Nat) : w.cell? ⟨g, j, none⟩ = cs[j]? ∧ w.frozen? ⟨g, j, none⟩ = false := by
  subst hg
  have hlt : (⟨w0.heap.size, j, none⟩ : Addr).block < (w0.alloc (.cells cs e)).heap.size := by simp
  exact ⟨(hb.cell hlt).trans (by simp), (hb.frozen hlt).trans (by simp)⟩
theorem Below.undrew {B : Nat} {w w' : World} (h : Below B w.drew w') : Below B w w' := ⟨h.os, h.tape, h.output, h.size, h.block⟩
theorem u64_nat {a : Int} (h : (Lit.int .u64 a).wf = true) : ∃ n : Nat, a = (n : Int) ∧ n < 18446744073709551616 := by
  simp [Lit.wf, IntKind.min, IntKind.max, IntKind.signed, IntKind.bits] at h
  exact ⟨a.toNat, by omega, by omega⟩
theorem u32_nat {a : Int} (h : (Lit.int .u32 a).wf = true) : ∃ n : Nat, a = (n : Int) ∧ n < 4294967296 := by
  simp [Lit.wf, IntKind.min, IntKind.max, IntKind.signed, IntKind.bits] at h
  exact ⟨a.toNat, by omega, by omega⟩
theorem u16_nat {a : Int} (h : (Lit.int .u16 a).wf = true) : ∃ n : Nat, a = (n : Int) ∧ n < 65536 := by
  simp [Lit.wf, IntKind.min, IntKind.max, IntKind.signed, IntKind.bits] at h
  exact ⟨a.toNat, by omega, by omega⟩
theorem u8_nat {a : Int} (h : (Lit.int .u8 a).wf = true) : ∃ n : Nat, a = (n : Int) ∧ n < 256 := by
  simp [Lit.wf, IntKind.min, IntKind.max, IntKind.signed, IntKind.bits] at h
  exact ⟨a.toNat, by omega, by omega⟩
theorem i64_of {a : Int} (h : (Lit.int .i64 a).wf = true) : -9223372036854775808 ≤ a ∧ a ≤ 9223372036854775807 := by
  simp [Lit.wf, IntKind.min, IntKind.max, IntKind.signed, IntKind.bits] at h
  omega

/-- What a law's walk is told of a slice of integers that came in. -/
def InRow (k : IntKind) (w : World) (a : Option Addr) (len cap : Nat) (zs : List Int) : Prop :=
  (a = none ∧ len = 0 ∧ cap = 0 ∧ zs = []) ∨
  ∃ x, a = some x ∧ len ≤ cap ∧ cap ≤ maxLen ∧ zs.length = cap ∧ (∀ i, i < zs.length → w.cell? (x.add i) = some (.int k (zs.getD i 0))) ∧ ∀ n ∈ zs, (Lit.int k n).wf = true
theorem row_rd {w : World} {a : Option Addr} {len cap : Nat} {zs : List Int} (h : InRow .u8 w a len cap zs) : ∃ bs : List UInt8, bs.length = len ∧ Rd bv w w.heap.size a cap bs := by
  rcases h with ⟨rfl, rfl, rfl, rfl⟩ | ⟨x, rfl, hl, hm, hz, hc, hw⟩
  · exact ⟨[], rfl, Rd.nil0 _ _ _⟩
  · refine ⟨(zs.take len).map fun n => UInt8.ofNat n.toNat, by simp; omega, by simp; omega, by simpa [maxLen] using hm, fun hh => by simp at hh, fun hn => ?_⟩
    have h0 : 0 < zs.length := by simp at hn; omega
    obtain ⟨b, off, spot⟩ := x
    have hc0 := hc 0 h0
    obtain rfl : spot = none := by simpa [Addr.add] using World.cell?_spot hc0
    refine ⟨b, off, rfl, World.block_lt_of_cell? w ⟨b, off, none⟩ (by simpa [Addr.add] using hc0), fun j hj => ?_⟩
    have hj' : j < zs.length := by simp at hj; omega
    have hcj := hc j hj'
    have he : (⟨b, off, none⟩ : Addr).add j = ⟨b, off + j, none⟩ := by
      simp only [Addr.add]
      split
      · next h0 => rw [h0]; rfl
      · rfl
    rw [he] at hcj
    rw [hcj]
    have hmem : zs[j] ∈ zs := List.getElem_mem hj'
    have hwf := hw _ hmem
    have hb : 0 ≤ zs[j] ∧ zs[j] ≤ 255 := by
      simp [Lit.wf, IntKind.min, IntKind.max, IntKind.signed, IntKind.bits] at hwf
      omega
    simp [bv, hj', List.getD]
    omega

/-- A row of the call's own (in a block from base on, or nil). -/
def Own {α : Type} (f : α → Value) (w : World) (base : Nat) (e : TypeId) (v : Value) (xs : List α) : Prop := w.ownsRow base e 1 v xs.length (xs.map f)

section
variable {α : Type} {f : α → Value} {w w' : World} {base : Nat} {e : TypeId} {v : Value} {xs : List α}
theorem Own.nil0 (f : α → Value) (w : World) (base : Nat) (e : TypeId) : Own f w base e (.slice none 0 0) [] := World.ownsRow_nil w base e 1
theorem Own.drew (h : Own f w base e v xs) : Own f w.drew base e v xs := h
theorem Own.drewN (h : Own f w base e v xs) (k : Nat) : Own f (w.drewN k) base e v xs := h
theorem Own.alloc (h : Own f w base e v xs) (o : Obj) : Own f (w.alloc o) base e v xs := World.ownsRow.alloc h o
theorem Own.rd (h : Own f w base e v xs) : ∃ A c, v = .slice A xs.length c ∧ Rd f w w.heap.size A c xs := by
  rcases h.2 with ⟨rfl, hn⟩ | ⟨g, cap, cur, rfl, _, hg, hnc, hcm, _, ht⟩
  · obtain rfl := List.eq_nil_of_length_eq_zero hn
    exact ⟨none, 0, rfl, Rd.nil0 _ _ _⟩
  · refine ⟨some ⟨g, 0, none⟩, cap, rfl, hnc, by simpa [maxLen] using hcm, fun hh => by simp at hh, fun _ => ⟨g, 0, rfl, ?_, fun j hj => ?_⟩⟩
    · rcases Nat.lt_or_ge g w.heap.size with hlt | hge
      · exact hlt
      · rw [Array.getElem?_eq_none hge] at hg; cases hg
    · have := World.ownsRow.cellAt (g := g) (cap := cap) h j (by omega)
      rw [Nat.zero_add, this]
      simp [hj]
/-- The same, the list behind a name of its own (so that the walk does not write its length out). -/
theorem Own.rdv (h : Own f w base e v xs) : ∃ L A c, Hid (L = xs) ∧ v = .slice A L.length c ∧ Rd f w w.heap.size A c L := by
  obtain ⟨A, c, hv, hr⟩ := h.rd
  exact ⟨xs, A, c, rfl, hv, hr⟩
theorem Own.kept {B : Nat} (h : Own f w base e v xs) (hb : Below B w w') (hB : w.heap.size ≤ B) : Own f w' base e v xs := by
  refine World.ownsRow.kept (row := none) h ⟨hb.os, hb.tape, hb.output, hb.size, fun k hk _ => hb.block k (by omega)⟩ ?_
  cases hv : v.ownBlock with
  | none => exact Or.inl rfl
  | some g => exact Or.inr (by simp)
theorem Own.below (h : Own f w base e v xs) {w0 : World} (hb : Below base w0 w) (hg : w.grownBy w' v.ownBlock) (hB : base ≤ w.heap.size) : Below base w0 w' :=
  hb.grown hg hB fun k hk => (World.ownsRow.lt h k hk).1
end

theorem Own.drawn {α : Type} {f : α → Value} {w w' : World} {base : Nat} {e : TypeId} {v : Value} {xs : List α} (h : Own f w base e v xs) (hd : Drawn w w') : Own f w' base e v xs := by
  obtain ⟨n, rfl⟩ := hd
  exact h
theorem Own.kind {α : Type} {f : α → Value} {w : World} {base : Nat} {e : TypeId} {v : Value} {xs : List α} (h : Own f w base e v xs) : ∀ g, v.ownBlock = some g → ∃ c fz, w.heap[g]? = some (.cells c e fz) := by
  intro g hg
  rcases h.2 with ⟨rfl, _⟩ | ⟨g', cap, cur, rfl, _, hgg, _⟩
  · simp [Value.ownBlock] at hg
  · simp [Value.ownBlock] at hg
    subst hg
    exact ⟨cur, _, hgg⟩
theorem Own.iterAt {α : Type} {f : α → Value} {w : World} {base : Nat} {e : TypeId} {v : Value} {xs : List α} (h : Own f w base e v xs) {k : Nat} {s : ByteArray} {p : Nat} (hk : w.heap[k]? = some (.stringIter s p)) (p' : Nat) : Own f (w.iterAt k s p') base e v xs := by
  refine ⟨h.1, ?_⟩
  rcases h.2 with h2 | ⟨g, cap, cur, a, b, c, d⟩
  · exact .inl h2
  · refine .inr ⟨g, cap, cur, a, b, ?_, d⟩
    rw [Lib.iterAt_other _ _ _ _ _ (fun hg => by rw [hg, hk] at c; cases c)]
    exact c
theorem Own.some_ {α : Type} {f : α → Value} {w : World} {base : Nat} {e : TypeId} {v : Value} {xs : List α} (h : Own f w base e v xs) (hv : v ≠ .slice none 0 0) :
    ∃ g cap, v = .slice (some ⟨g, 0, none⟩) xs.length cap ∧ base ≤ g ∧ xs.length ≤ cap := by
  rcases h.2 with ⟨rfl, _⟩ | ⟨g, cap, cur, rfl, hb, _, hnc, _⟩
  · exact absurd rfl hv
  · exact ⟨g, cap, rfl, hb, hnc⟩

/-- A store into a row of the call's own. -/
theorem Own.store {α : Type} {f : α → Value} {w : World} {base : Nat} {e : TypeId} {g n cap : Nat} {xs : List α} (h : Own f w base e (.slice (some ⟨g, 0, none⟩) n cap) xs) (hn : xs.length = n)
    (j : Nat) (hj : j < n) (x : α) (V : Value) (hV : V = f x) :
    (∃ u, w.cell? ⟨g, j, none⟩ = some u) ∧ w.frozen? ⟨g, j, none⟩ = false ∧ Own f (w.setCell ⟨g, j, none⟩ V) base e (.slice (some ⟨g, 0, none⟩) n cap) (xs.set j x) ∧ base ≤ g := by
  subst hV
  subst hn
  have hl := World.ownsRow.lt h g rfl
  refine ⟨⟨f xs[j], ?_⟩, World.ownsRow.frozenAt h j, ?_, hl.1⟩
  · rw [World.ownsRow.cellAt h j (by omega)]
    simp [hj]
  · have := (World.ownsRow.stored h j (f x)).1
    unfold Own
    simpa using this

theorem Own.setBelow {α : Type} {f : α → Value} {w : World} {base : Nat} {e : TypeId} {v : Value} {xs : List α} (h : Own f w base e v xs) {p : Addr} (hp : p.block < base) (u : Value) : Own f (w.setCell p u) base e v xs := ownsRow_setCell_below h hp u
theorem Own.rdS {α : Type} {f : α → Value} {w : World} {base : Nat} {e : TypeId} {A : Option Addr} {c : Nat} {xs : List α} (h : Own f w base e (.slice A xs.length c) xs) : Rd f w w.heap.size A c xs := by
  obtain ⟨A', c', hv, hr⟩ := h.rd
  injection hv with h1 _ h3
  subst h1 h3
  exact hr
theorem Own.nextO {α : Type} {f : α → Value} {w w' : World} {base : Nat} {e : TypeId} {v : Value} {xs : List α} (h : Own f w base e v xs) (hb : Below w.heap.size w w') : Own f w' base e v xs := h.kept hb (Nat.le_refl _)
/-- New cells laid by a literal. -/
theorem rd_lit {α : Type} {f : α → Value} (w : World) (cs : Array Value) (e : TypeId) (xs : List α) (h : cs.toList = xs.map f) (hl : xs.length ≤ 9223372036854775807) :
    Rd f (w.alloc (.cells cs e)) (w.heap.size + 1) (some ⟨w.heap.size, 0, none⟩) xs.length xs := by
  refine ⟨Nat.le_refl _, hl, fun hh => by simp at hh, fun _ => ⟨w.heap.size, 0, rfl, by omega, fun j hj => ?_⟩⟩
  rw [Nat.zero_add]
  have : cs[j]? = some (f xs[j]) := by
    rw [← Array.getElem?_toList, h]; simp [hj]
  simpa using this

section
variable {P : Program} {w : World}
theorem oneCell_map {α : Type} {f : α → Value} (hf : ∀ x, (f x).oneCell' = true) (xs : List α) : ∀ u ∈ xs.map f, u.oneCell' = true := by
  intro u hu
  obtain ⟨x, _, rfl⟩ := List.mem_map.1 hu
  exact hf x

theorem run_append_rd (t ty : TypeId) {α : Type} (f : α → Value) (base : Nat) (e : TypeId) (i : TypeInfo) (z : Value) (bytes : Nat) (ht : P.underlying t = some (.slice e)) (hi : P.info? e = some i) (hz : i.zero = some z)
    (hsize : i.size = 1) (hby : i.bytes = bytes) (hzs : z.cells.size = 1) (hf : ∀ x, (f x).oneCell' = true)
    (v : Value) (xs : List α) (hown : Own f w base e v xs)
    (B : Nat) (A : Option Addr) (c : Nat) (ys : List α) (hr : Rd f w B A c ys)
    (h63 : xs.length + ys.length ≤ 9223372036854775807) (hbytes : (xs.length + ys.length) * bytes ≤ 140737488355328) (hbase : base ≤ w.heap.size)
    (w0 : World) (hb : Below base w0 w) :
    ∃ v' w', (Builtin.append_ #[t, t] ty #[v, .slice A ys.length c]).run P w = .ok v' w' ∧ Own f w' base e v' (xs ++ ys) ∧ Below base w0 w' ∧ (v' = .slice none 0 0 → v = .slice none 0 0) ∧ Lib.OthersKept e none w w' := by
  cases A with
  | none =>
    obtain rfl : ys = [] := by
      rcases ys with _ | ⟨y, ys⟩
      · rfl
      · obtain ⟨_, _, h', _⟩ := hr.2.2.2 (by simp)
        cases h'
    obtain rfl := hr.2.2.1 rfl
    exact ⟨v, w, run_append_owned_none w base t ty e i 1 ht hi v xs.length (xs.map f) hown, by simpa using hown, hb, id, Lib.OthersKept.refl _ _ _⟩
  | some ad =>
    obtain ⟨v', w', hrun, h1, h2, h3⟩ := run_append_own (P := P) w base t ty e i z 1 bytes ht hi hz hsize hby hzs (by omega) v xs.length (xs.map f) hown ad ys.length c (ys.map f) (by simp) hr.news (oneCell_map hf ys)
      (by simpa [maxLen] using h63) hbytes hbase
    refine ⟨v', w', hrun, ?_, Own.below hown hb h2 hbase, fun hv => (h3.1 hv).1, (Lib.OthersKept.refl _ _ _).grown h2 hown.kind⟩
    unfold Own
    simpa using h1

theorem wp_append_rdk {o : Oper} {a : Act} {K : Act → World → Prop} {Q : Exit → Act → World → Prop} (s x : Operand) (t : TypeId)
    (ho : o.op = .call { callee := .builtin .append, args := #[s, x], argTypes := #[t, t] })
    {α : Type} (f : α → Value) (base : Nat) (e : TypeId) (i : TypeInfo) (z : Value) (bytes : Nat) (ht : P.underlying t = some (.slice e)) (hi : P.info? e = some i) (hz : i.zero = some z)
    (hsize : i.size = 1) (hby : i.bytes = bytes) (hzs : z.cells.size = 1) (hf : ∀ x, (f x).oneCell' = true)
    (v : Value) (xs : List α) (hs : a.eval s = v) (hown : Own f w base e v xs)
    (B : Nat) (A : Option Addr) (c : Nat) (ys : List α) (hx : a.eval x = .slice A ys.length c) (hr : Rd f w B A c ys)
    (h63 : xs.length + ys.length ≤ 9223372036854775807) (hbytes : (xs.length + ys.length) * bytes ≤ 140737488355328) (hbase : base ≤ w.heap.size)
    (w0 : World) (hb : Below base w0 w)
    (h : ∀ v' w', Own f w' base e v' (xs ++ ys) → Below base w0 w' → (v' = .slice none 0 0 → v = .slice none 0 0) → Lib.OthersKept e none w w' → K (a.put o.dst v') w') : o.wp P a w K Q := by
  obtain ⟨v', w', hrun, h1, h2, h3, h4⟩ := run_append_rd (P := P) (w := w) t o.type f base e i z bytes ht hi hz hsize hby hzs hf v xs hown B A c ys hr h63 hbytes hbase w0 hb
  unfold Oper.wp execOp
  simp only [ho, resolve, invoke, builtin, Sem.run_bind, Sem.run_pure, Result.andThen_ok, List.map_toArray, List.map_cons, List.map_nil, hs, hx, hrun]
  exact h v' w' h1 h2 h3 h4

/-- append onto a row of the call's own; the source is nil, empty or not. -/
theorem wp_append_rd {o : Oper} {a : Act} {K : Act → World → Prop} {Q : Exit → Act → World → Prop} (s x : Operand) (t : TypeId)
    (ho : o.op = .call { callee := .builtin .append, args := #[s, x], argTypes := #[t, t] })
    {α : Type} (f : α → Value) (base : Nat) (e : TypeId) (i : TypeInfo) (z : Value) (bytes : Nat) (ht : P.underlying t = some (.slice e)) (hi : P.info? e = some i) (hz : i.zero = some z)
    (hsize : i.size = 1) (hby : i.bytes = bytes) (hzs : z.cells.size = 1) (hf : ∀ x, (f x).oneCell' = true)
    (v : Value) (xs : List α) (hs : a.eval s = v) (hown : Own f w base e v xs)
    (B : Nat) (A : Option Addr) (c : Nat) (ys : List α) (hx : a.eval x = .slice A ys.length c) (hr : Rd f w B A c ys)
    (h63 : xs.length + ys.length ≤ 9223372036854775807) (hbytes : (xs.length + ys.length) * bytes ≤ 140737488355328) (hbase : base ≤ w.heap.size)
    (w0 : World) (hb : Below base w0 w)
    (h : ∀ v' w', Own f w' base e v' (xs ++ ys) → Below base w0 w' → (v' = .slice none 0 0 → v = .slice none 0 0) → K (a.put o.dst v') w') : o.wp P a w K Q := by
  obtain ⟨v', w', hrun, h1, h2, h3, _⟩ := run_append_rd (P := P) (w := w) t o.type f base e i z bytes ht hi hz hsize hby hzs hf v xs hown B A c ys hr h63 hbytes hbase w0 hb
  unfold Oper.wp execOp
  simp only [ho, resolve, invoke, builtin, Sem.run_bind, Sem.run_pure, Result.andThen_ok, List.map_toArray, List.map_cons, List.map_nil, hs, hx, hrun]
  exact h v' w' h1 h2 h3

/-- append onto a row of the call's own; the source is nil, empty or not. -/
theorem wpList_append_rd {ops : Array Oper} {rest : List Oper} {o : Oper} {a : Act} {Q : Exit → Act → World → Prop} (hgd : o.guard = none) (s x : Operand) (t : TypeId)
    (ho : o.op = .call { callee := .builtin .append, args := #[s, x], argTypes := #[t, t] })
    {α : Type} (f : α → Value) (base : Nat) (e : TypeId) (i : TypeInfo) (z : Value) (bytes : Nat) (ht : P.underlying t = some (.slice e)) (hi : P.info? e = some i) (hz : i.zero = some z)
    (hsize : i.size = 1) (hby : i.bytes = bytes) (hzs : z.cells.size = 1) (hf : ∀ x, (f x).oneCell' = true)
    (v : Value) (xs : List α) (hs : a.eval s = v) (hown : Own f w base e v xs)
    (B : Nat) (A : Option Addr) (c : Nat) (ys : List α) (hx : a.eval x = .slice A ys.length c) (hr : Rd f w B A c ys)
    (h63 : xs.length + ys.length ≤ 9223372036854775807) (hbytes : (xs.length + ys.length) * bytes ≤ 140737488355328) (hbase : base ≤ w.heap.size)
    (w0 : World) (hb : Below base w0 w)
    (h : ∀ v' w', Own f w' base e v' (xs ++ ys) → Below base w0 w' → (v' = .slice none 0 0 → v = .slice none 0 0) → wpList P ops Q rest (a.put o.dst v') w') : wpList P ops Q (o :: rest) a w :=
  wpList_plain hgd fun _ hK => wp_append_rd s x t ho f base e i z bytes ht hi hz hsize hby hzs hf v xs hs hown B A c ys hx hr h63 hbytes hbase w0 hb fun v' w' h1 h2 h3 => hK _ _ (h v' w' h1 h2 h3)

/-- append, and what holds no such cells is kept. -/
theorem wpList_append_rdk {ops : Array Oper} {rest : List Oper} {o : Oper} {a : Act} {Q : Exit → Act → World → Prop} (hgd : o.guard = none) (s x : Operand) (t : TypeId)
    (ho : o.op = .call { callee := .builtin .append, args := #[s, x], argTypes := #[t, t] })
    {α : Type} (f : α → Value) (base : Nat) (e : TypeId) (i : TypeInfo) (z : Value) (bytes : Nat) (ht : P.underlying t = some (.slice e)) (hi : P.info? e = some i) (hz : i.zero = some z)
    (hsize : i.size = 1) (hby : i.bytes = bytes) (hzs : z.cells.size = 1) (hf : ∀ x, (f x).oneCell' = true)
    (v : Value) (xs : List α) (hs : a.eval s = v) (hown : Own f w base e v xs)
    (B : Nat) (A : Option Addr) (c : Nat) (ys : List α) (hx : a.eval x = .slice A ys.length c) (hr : Rd f w B A c ys)
    (h63 : xs.length + ys.length ≤ 9223372036854775807) (hbytes : (xs.length + ys.length) * bytes ≤ 140737488355328) (hbase : base ≤ w.heap.size)
    (w0 : World) (hb : Below base w0 w)
    (h : ∀ v' w', Own f w' base e v' (xs ++ ys) → Below base w0 w' → (v' = .slice none 0 0 → v = .slice none 0 0) → Lib.OthersKept e none w w' → wpList P ops Q rest (a.put o.dst v') w') : wpList P ops Q (o :: rest) a w :=
  wpList_plain hgd fun _ hK => wp_append_rdk s x t ho f base e i z bytes ht hi hz hsize hby hzs hf v xs hs hown B A c ys hx hr h63 hbytes hbase w0 hb fun v' w' h1 h2 h3 h4 => hK _ _ (h v' w' h1 h2 h3 h4)

/-- The same as one step of a region that draws its order. -/
theorem step_append_rd {ops : Array Oper} {o : Oper} {a : Act} {K : Act → World → Prop} {Q : Exit → Act → World → Prop} {E : Prop} (hgd : o.guard = none) (s x : Operand) (t : TypeId)
    (ho : o.op = .call { callee := .builtin .append, args := #[s, x], argTypes := #[t, t] })
    {α : Type} (f : α → Value) (base : Nat) (e : TypeId) (i : TypeInfo) (z : Value) (bytes : Nat) (ht : P.underlying t = some (.slice e)) (hi : P.info? e = some i) (hz : i.zero = some z)
    (hsize : i.size = 1) (hby : i.bytes = bytes) (hzs : z.cells.size = 1) (hf : ∀ x, (f x).oneCell' = true)
    (v : Value) (xs : List α) (hs : a.eval s = v) (hown : Own f w base e v xs)
    (B : Nat) (A : Option Addr) (c : Nat) (ys : List α) (hx : a.eval x = .slice A ys.length c) (hr : Rd f w B A c ys)
    (h63 : xs.length + ys.length ≤ 9223372036854775807) (hbytes : (xs.length + ys.length) * bytes ≤ 140737488355328) (hbase : base ≤ w.heap.size)
    (w0 : World) (hb : Below base w0 w)
    (h : ∀ v' w', Own f w' base e v' (xs ++ ys) → Below base w0 w' → (v' = .slice none 0 0 → v = .slice none 0 0) → K (a.put o.dst v') w') : if Region.wanted o (yielded ops a.tmps) = true then Oper.wp P o a w K Q else E := by
  have hw : Region.wanted o (yielded ops a.tmps) = true := by simp [Region.wanted, hgd]
  rw [if_pos hw]
  exact wp_append_rd s x t ho f base e i z bytes ht hi hz hsize hby hzs hf v xs hs hown B A c ys hx hr h63 hbytes hbase w0 hb h

/-- string(b) for a slice of bytes that reads as bs. -/
theorem conv_rd (src e : TypeId) (hs : P.underlying src = some (.slice e)) (he : P.underlying e = some (.int .u8)) {B : Nat} {A : Option Addr} {c : Nat} {bs : List UInt8} (h : Rd bv w B A c bs) :
    ∀ dst, P.underlying dst = some .string → (convert src dst (.slice A bs.length c)).run P w = .ok (.string ⟨bs.toArray⟩) w := by
  intro dst hd
  cases A with
  | none =>
    obtain rfl : bs = [] := by
      rcases bs with _ | ⟨y, ys⟩
      · rfl
      · obtain ⟨_, _, h', _⟩ := h.2.2.2 (by simp)
        cases h'
    exact run_convert_bytes_nil w src e hs he _ _ dst hd
  | some a =>
    rw [run_convert_bytes_string w src dst e _ _ _ hs he hd]
    have hl : (loadCells a bs.length).run P w = .ok ((bs.map fun x => (x.toNat : Int)).map (Value.int .u8)).toArray w := by
      have := run_loadCells_list (P := P) w a ((bs.map fun x => (x.toNat : Int)).map (Value.int .u8)) (fun j v hj => h.news j v (by simpa [bv] using hj))
      simpa using this
    rw [run_bytesToString w a _ c _ hl, foldl_push_bytes]
    have hid : bs.map ((fun n : Int => UInt8.ofNat n.toNat) ∘ fun x : UInt8 => (x.toNat : Int)) = bs := by
      rw [List.map_congr_left (g := id) (by intro x _; simp), List.map_id]
    simp [hid, ByteArray.empty, ByteArray.emptyWithCapacity]
    rfl

theorem addr_add (b off i : Nat) : (⟨b, off, none⟩ : Addr).add i = ⟨b, off + i, none⟩ := by
  simp only [Addr.add]
  split
  · next h0 => rw [h0]; rfl
  · rfl

theorem Rd.cut {α : Type} {f : α → Value} {B : Nat} {A : Option Addr} {c : Nat} {xs : List α} (h : Rd f w B A c xs) (k n : Nat) (hk : k + n ≤ xs.length) :
    Rd f w B (if c = k then A else A.map (·.add k)) (c - k) ((xs.drop k).take n) := by
  have hl := h.len
  refine ⟨by simp; omega, by have := h.cap; omega, fun hn => ?_, fun hn => ?_⟩
  · by_cases hc : c = k
    · omega
    · rw [if_neg hc] at hn
      cases A with
      | none => have := h.2.2.1 rfl; omega
      | some a => simp at hn
  · have hn' : 0 < n ∧ k < xs.length := by simp at hn; omega
    obtain ⟨b, off, rfl, hb, hcell⟩ := h.2.2.2 (by omega)
    rw [if_neg (by omega)]
    refine ⟨b, off + k, by simp [addr_add], hb, fun j hj => ?_⟩
    have hj' : k + j < xs.length := by simp at hj; omega
    have := hcell (k + j) hj'
    rw [← Nat.add_assoc] at this
    rw [this]
    simp

/-- b[k:k+n] of a slice that reads as a list. -/
theorem Rd.slice_lh {t e : TypeId} (ht : P.underlying t = some (.slice e)) {i : TypeInfo} (hi : P.info? e = some i) (hs : i.size = 1) {α : Type} {f : α → Value} {B : Nat} {A : Option Addr} {c : Nat} {xs : List α}
    (h : Rd f w B A c xs) (k n : Nat) (hk : k + n ≤ xs.length) :
    ∃ A2 c2, Rd f w B A2 c2 ((xs.drop k).take n) ∧ ∀ W, (Instr.slice t (.slice A xs.length c) (some (.int .i64 (k : Int))) (some (.int .i64 ((k : Int) + (n : Int)))) none).run P W = .ok (.slice A2 n c2) W := by
  refine ⟨_, _, h.cut k n hk, fun W => ?_⟩
  have hl := h.len
  have he : P.elem t = e := by simp [Program.elem, ht]
  have ht' : P.underlying t = some (.slice (P.elem t)) := by rw [he]; exact ht
  rw [run_slice_lh W t A xs.length c ht' .i64 .i64 k (k + n) (by omega) (by omega) (by omega), he]
  simp [sizeOf, typeInfo, hi, hs, sliced]
  omega

/-- b[k:] of a slice that reads as a list. -/
theorem Rd.slice_l {t e : TypeId} (ht : P.underlying t = some (.slice e)) {i : TypeInfo} (hi : P.info? e = some i) (hs : i.size = 1) {α : Type} {f : α → Value} {B : Nat} {A : Option Addr} {c : Nat} {xs : List α}
    (h : Rd f w B A c xs) (k : Nat) (K : Int) (hK : K = k) (hk : k ≤ xs.length) :
    ∃ A2 c2, Rd f w B A2 c2 (xs.drop k) ∧ ∀ W, (Instr.slice t (.slice A xs.length c) (some (.int .i64 K)) none none).run P W = .ok (.slice A2 (xs.length - k) c2) W := by
  subst hK
  have hcut := h.cut k (xs.length - k) (by omega)
  rw [List.take_of_length_le (by simp)] at hcut
  refine ⟨_, _, hcut, fun W => ?_⟩
  have hl := h.len
  have he : P.elem t = e := by simp [Program.elem, ht]
  have ht' : P.underlying t = some (.slice (P.elem t)) := by rw [he]; exact ht
  rw [run_slice_l W t A xs.length c ht' .i64 k (by omega) (by omega), he]
  simp [sizeOf, typeInfo, hi, hs, sliced]
end
end Go.Proofs.YteodjajjlgekcaaDoor
