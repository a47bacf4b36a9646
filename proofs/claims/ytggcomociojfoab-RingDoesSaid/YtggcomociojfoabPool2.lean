/- Contracts of package pool: taken, Give, New; the statement's lives. -/
import Derived.Test.YtggcomociojfoabPool1
namespace Go.Proofs.Ytggcomociojfoab
open Go.RowKit

theorem iv_one (x : Int) : (iv x).oneCell' = true := rfl
section
variable {w : World} {g hb n : Nat} {vf : Value} {free : List Int} {tk : Nat → Bool} {hv : Nat → Value}
theorem ptaken_any (R : Pl w g hb n vf free tk hv) (i : Nat) (hi : i < n) : Calls Try.prog 54 #[.pointer (some ⟨g, 0, none⟩), .int .i64 i] w fun e w' => e = .returned (.bool (tk i)) ∧ w = w' := by
  obtain ⟨c0, c1, f0, f1⟩ := R.bg.get2
  have hn256 := R.n256
  obtain ⟨t0, t1, tf0, tf1⟩ := R.bf.at_ i hi
  generalize tk i = b at t0 ⊢
  clear R
  go_enter Try.func54, Try.ntmps54
  go_wp2
  go_ret
  exact ⟨rfl, rfl⟩
theorem pgive_ok {i : Nat} (R : Pl w g hb n vf free tk hv) (hi : i < n) (ht : tk i = true) (hfl : free.length < 256) (B : Nat) (hBh : B ≤ hb) : Calls Try.prog 40 #[.pointer (some ⟨g, 0, none⟩), .int .i64 i] w fun e w' => e = .returned (.bool true) ∧ Below B w w' ∧ ∃ vf', Pl w' g hb n vf' (free ++ [(i : Int)]) (fun j => if j = i then false else tk j) (fun j => if j = i then .slice none 0 0 else hv j) := by
  obtain ⟨i0, hi0, hz0, hz1, hz2⟩ := info_parts info_i64
  have T := ptaken_any R i hi
  rw [ht] at T
  have HT := Lib.hid T
  clear T
  obtain ⟨c0, c1, f0, f1⟩ := R.bg.get2
  have hlt := R.lt
  have hn256 := R.n256
  obtain ⟨t0, t1, tf0, tf1⟩ := R.bf.at_ i hi
  have hgl := R.bg.lt
  have hw1 : Below B w ((w.setCell ⟨hb, i * 2, none⟩ (.bool false)).setCell ⟨hb, i * 2 + 1, none⟩ (.slice none 0 0)) := ((Below.refl B w).setCell (p := ⟨hb, i * 2, none⟩) hBh _).setCell (p := ⟨hb, i * 2 + 1, none⟩) hBh _
  have bf1 := (R.bf.setTk i false).setHv i (.slice none 0 0)
  have bg1 := (R.bg.other (g' := hb) (by omega) (i * 2) (.bool false)).other (g' := hb) (by omega) (i * 2 + 1) (.slice none 0 0)
  have ow1 := (R.own.setBelow (p := ⟨hb, i * 2, none⟩) (by show hb < g + 1; omega) (.bool false)).setBelow (p := ⟨hb, i * 2 + 1, none⟩) (by show hb < g + 1; omega) (.slice none 0 0)
  have HFR := Lib.hid R.fr
  have HO := Lib.hid ow1
  clear ow1
  have hsz : ((w.setCell ⟨hb, i * 2, none⟩ (.bool false)).setCell ⟨hb, i * 2 + 1, none⟩ (.slice none 0 0)).heap.size = w.heap.size := by simp [World.setCell]
  have hrl : Rd iv (((w.setCell ⟨hb, i * 2, none⟩ (.bool false)).setCell ⟨hb, i * 2 + 1, none⟩ (.slice none 0 0)).alloc (.cells #[.int .i64 (i : Int)] 3)) (w.heap.size + 1) (some ⟨w.heap.size, 0, none⟩) 1 [(i : Int)] := by
    have := rd_lit (f := iv) ((w.setCell ⟨hb, i * 2, none⟩ (.bool false)).setCell ⟨hb, i * 2 + 1, none⟩ (.slice none 0 0)) #[.int .i64 (i : Int)] 3 [(i : Int)] rfl (by simp)
    rw [hsz] at this
    exact this
  have hbs : g + 1 ≤ (((w.setCell ⟨hb, i * 2, none⟩ (.bool false)).setCell ⟨hb, i * 2 + 1, none⟩ (.slice none 0 0)).alloc (.cells #[.int .i64 (i : Int)] 3)).heap.size := by simp [World.setCell]; omega
  have hbl : Below (g + 1) ((w.setCell ⟨hb, i * 2, none⟩ (.bool false)).setCell ⟨hb, i * 2 + 1, none⟩ (.slice none 0 0)) (((w.setCell ⟨hb, i * 2, none⟩ (.bool false)).setCell ⟨hb, i * 2 + 1, none⟩ (.slice none 0 0)).alloc (.cells #[.int .i64 (i : Int)] 3)) := (Below.refl _ _).alloc (by rw [hsz]; omega) _
  go_enter Try.func40, Try.ntmps40
  go_wp2_with fail
  refine HT.out.mono ?_
  rintro e w9 ⟨rfl, rfl⟩
  clear HT
  go_wp2_with (at_builtin; go_loud (refine wpList_append_rd rfl (.tmp 20) (.tmp 22) _ rfl iv (g + 1) 3 i0 _ 8 Try.underlying61 hi0 hz0 hz1 hz2 rfl iv_one _ _ rfl (HO.out.alloc _) _ (some ⟨w.heap.size, 0, none⟩) 1 [(i : Int)] rfl hrl (by simp only [List.length_cons, List.length_nil]; omega) (by simp only [List.length_cons, List.length_nil]; omega) hbs _ hbl ?_); intro v2 w2 hown2 hb2 hnn; have bg2 := bg1.below hb2 (by omega); have bf2 := bf1.below hb2 (by omega); have hB2 := hw1.trans (hb2.mono (by omega)); obtain ⟨d0, d1, e0, e1⟩ := bg2.get2; clear hnn hsz hrl hbs hbl bg1 bf1 HO c0 c1 f0 f1 t0 t1 tf0 tf1 hw1 hb2 R ht; obtain ⟨L2, A2, c2, HL2, rfl, -⟩ := hown2.rdv; have HO2 := Lib.hid hown2; clear hown2)
  go_ret
  refine ⟨rfl, hB2.setCell (p := ⟨g, 0, none⟩) (by show B ≤ g; omega) _, .slice A2 L2.length c2, ?_⟩
  exact ⟨bg2.set 0 _, bf2.other (by omega) 0 _, HO2.out.setBelow (p := ⟨g, 0, none⟩) (by show g < g + 1; omega) _, hlt, hn256, by simp; omega, fun x hx => by
    rcases List.mem_append.1 hx with h | h
    · exact HFR.out x h
    · rw [List.mem_singleton.1 h]; omega⟩
end
theorem wpList_make_any {P : Program} (w : World) {ops : Array Oper} {rest : List Oper} {o : Oper} {a : Act} {Q : Exit → Act → World → Prop}
    (hg : o.guard = none) (l c : Operand) (t : TypeId) (hop : o.op = Op.makeSlice t l c)
    (e : TypeId) (i : TypeInfo) (z : Value) (sz by_ : Nat) (h1 : P.underlying t = some (.slice e)) (h2 : P.info? e = some i) (h3 : i.zero = some z) (h4 : i.size = sz) (h5 : i.bytes = by_) (hby : by_ ≤ 1000)
    (L C : Int) (n : Nat) (hl : a.eval l = .int .i64 L) (hc : a.eval c = .int .i64 C) (hL : L = (n : Int)) (hC : C = (n : Int)) (hn : n ≤ 1000000)
    (hK : wpList P ops Q rest (a.put o.dst (.slice (some ⟨w.heap.size, 0, none⟩) n n)) (w.alloc (.cells (madeCells z.cells (n * sz)) e))) :
    wpList P ops Q (o :: rest) a w := by
  refine wpList_plain hg fun K hK' => ?_
  have hrun := run_make (P := P) w t e i z h1 h2 h3 .i64 .i64 (n : Int) (n : Int) (by omega) (Int.le_refl _) (by rw [h5]; have : (by_ : Int) * (n : Int) ≤ 1000 * 1000000 := Int.mul_le_mul (by omega) (by omega) (by omega) (by omega); omega) (by omega)
  rw [h4] at hrun
  subst hL
  subst hC
  unfold Oper.wp
  simp only [Int.toNat_natCast] at hrun
  simp only [execOp, hop, hl, hc, hrun, Sem.run_bind, Result.andThen]
  exact hK' _ _ hK
theorem made_bufs (N : Nat) : ∀ i, i < N → (madeCells #[.bool false, .slice none 0 0] (N * 2)).toList[i * 2]? = some (.bool false) ∧ (madeCells #[.bool false, .slice none 0 0] (N * 2)).toList[i * 2 + 1]? = some (.slice none 0 0) := by
  intro i hi
  have h1 : i * 2 < N * 2 := by omega
  have h2 : i * 2 + 1 < N * 2 := by omega
  constructor
  · simp [madeCells, h1]
  · have : (i * 2 + 1) % 2 = 1 := by omega
    simp [madeCells, h2, this]
end Go.Proofs.Ytggcomociojfoab
