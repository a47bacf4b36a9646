/- Reg2 Law10p Udp1 Tcp1 Tcp4 Tcp6 Px1 Px2 in one text. -/
import Derived.Test.YteodjajjlgekcaaDoorReg
import Derived.Test.YteodjajjlgekcaaDoorOpt6
import Derived.Test.YteodjajjlgekcaaDoorKit
import Derived.Test.YteodjajjlgekcaaDoorKit2
import Derived.Test.YteodjajjlgekcaaDoorGet
import Derived.BigRegion
import Derived.Test.YteodjajjlgekcaaDoorCk4
import Derived.Test.YteodjajjlgekcaaDoorLaw27
/- A region that draws its order and whose last operation, which waits for all others, stores into a block that is there: by one fact for each other operation. Nothing of the program's own code is named here. -/
namespace Go.Proofs.YteodjajjlgekcaaDoor
open Go.RowKit

section
variable {P : Program} {ops : Array Oper} {Q : Exit → Act → World → Prop}

theorem region_put_last {id : Nat} {a : Act} {w : World} (hm : P.follows .mixedOrders = true)
    (htopo : (List.range ops.size).all (fun i => (ops[i]?).all fun o => o.after.all fun e => !Region.binds .any e || decide (e.on < i)) = true)
    (hdist : (List.range ops.size).all (fun i => (ops[i]?).all fun o => o.dst.all fun k => slotAt ops.toList k 0 == some i) = true)
    (n : Nat) (hn : a.tmps.size = n)
    (hin : ops.all (fun o => o.dst.all fun k => decide (k < n)) = true)
    (V : World) (Phi : Nat → Value → World → Prop)
    (hV : Below V.heap.size V w)
    (m : Nat) (hlast : ops.size = m + 1)
    (hlo : (ops[m]?).all (fun o => (List.range m).all fun i => o.after.any fun e => e.on == i && Region.binds .any e) = true)
    (hdn : ∀ o, ops[m]? = some o → o.dst = none)
    (hstab : ∀ i v w w', Phi i v w → Below w.heap.size w w' → Phi i v w')
    (hop : ∀ (i : Nat) o u w, i < m → ops[i]? = some o → Below V.heap.size V w → (∀ j, (o.after.any fun e => e.on == j && Region.binds .any e) = true → Phi j (u j) w) →
      (Region.wanted o (yielded ops (putAll u ops.toList 0 a).tmps) = true ∧
        ((∃ v w', (execOp (putAll u ops.toList 0 a).eval o).run P w = .ok (.value v) w' ∧ Phi i v w' ∧ Below w.heap.size w w') ∨
        (∃ f args post, (execOp (putAll u ops.toList 0 a).eval o).run P w = .ok (.enter f args) w ∧ Calls P f args w post ∧ ∀ e w', post e w' → ∃ v, e = .returned v ∧ Phi i v w' ∧ Below w.heap.size w w'))) ∨
      (Region.wanted o (yielded ops (putAll u ops.toList 0 a).tmps) = false ∧ Phi i undef w))
    (hfin : ∀ o u w, ops[m]? = some o → Below V.heap.size V w → (∀ i, i < m → Phi i (u i) w) → Region.wanted o (yielded ops (putAll u ops.toList 0 a).tmps) = true ∧
      ∃ w', (execOp (putAll u ops.toList 0 a).eval o).run P w = .ok .skip w' ∧ Q .normal (putAll u ops.toList 0 a) w') : (Code.region id ops true).wp P Q a w := by
  have ht : ∀ (i : Nat) o, ops[i]? = some o → ∀ e ∈ o.after, Region.binds .any e = true → e.on < i := by
    intro i o ho e he hb
    have hlt : i < ops.size := (Array.getElem?_eq_some_iff.1 ho).1
    have h1 := List.all_eq_true.1 htopo i (by simpa using hlt)
    rw [ho] at h1
    simp only [Option.all_some] at h1
    have h2 := (Array.all_eq_true_iff_forall_mem.1 h1) e he
    simpa [hb] using h2
  have hput := putAll_put (ops := ops) (a := a) hdist n hn hin
  have hini := putAll_ini (ops := ops) (a := a) hdist n hn hin
  refine wp_region_any hm ?_
  refine wpAny_inv ht (fun l a' w => l.size = ops.size ∧ (l.getD m false = true → ∀ i, i < ops.size → l.getD i true = true) ∧ if l.getD m false = true then Q .normal a' w else ∃ u, a' = putAll u ops.toList 0 a ∧ Below V.heap.size V w ∧ ∀ i, i < ops.size → l.getD i true = true → Phi i (u i) w) ?_ ?_ _ _ _ _ (by simp) ?_ ⟨by simp, fun h => by simp [hlast] at h, ?_⟩
  · rintro i o l a' w ho ⟨hl, hmall, hinv⟩ _ h0 hd
    have hlt : i < ops.size := (Array.getElem?_eq_some_iff.1 ho).1
    have hnm : l.getD m false = false := by
      cases h : l.getD m false with
      | false => rfl
      | true => rw [hmall h i hlt] at h0; cases h0
    rw [hnm] at hinv
    simp only [Bool.false_eq_true, if_false] at hinv
    obtain ⟨u, rfl, hb, hphi⟩ := hinv
    unfold wpOp
    simp only [ho]
    by_cases him : i = m
    · subst him
      have hall : ∀ j, j < i → l.getD j true = true := by
        intro j hj
        rw [ho] at hlo
        simp only [Option.all_some] at hlo
        have h1 := List.all_eq_true.1 hlo j (by simpa using hj)
        obtain ⟨k, hk, hej⟩ := Array.any_eq_true.1 h1
        obtain ⟨e, he0⟩ : ∃ e, o.after[k] = e := ⟨_, rfl⟩
        have he : e ∈ o.after := by rw [← he0]; exact Array.getElem_mem hk
        rw [he0] at hej
        simp only [Bool.and_eq_true, beq_iff_eq] at hej
        have h2 := hd e he hej.2
        have hsz : j < l.size := by omega
        rw [hej.1] at h2
        simpa [hsz] using h2
      obtain ⟨hw, w', hr, hq⟩ := hfin o u w ho hb fun j hj => hphi j (by omega) (hall j hj)
      rw [if_pos hw]
      refine .inl (op_skip hr ⟨by simpa using hl, fun _ j hj => ?_, ?_⟩)
      · rw [getD_set l i j (by omega) true]
        by_cases hji : j = i
        · rw [if_pos hji]
        · rw [if_neg hji]; exact hall j (by omega)
      · rw [getD_set l i i (by omega) false, if_pos rfl, if_pos rfl, hdn o ho]
        exact hq
    · have him' : i < m := by omega
      have hdep : ∀ j, (o.after.any fun e => e.on == j && Region.binds .any e) = true → Phi j (u j) w := by
        intro j hj
        obtain ⟨k, hk, hej⟩ := Array.any_eq_true.1 hj
        obtain ⟨e, he0⟩ : ∃ e, o.after[k] = e := ⟨_, rfl⟩
        have he : e ∈ o.after := by rw [← he0]; exact Array.getElem_mem hk
        rw [he0] at hej
        simp only [Bool.and_eq_true, beq_iff_eq] at hej
        obtain ⟨rfl, hbe⟩ := hej
        have h1 := ht i o ho e he hbe
        have h2 := hd e he hbe
        have hsz : e.on < l.size := by omega
        exact hphi _ (by omega) (by simpa [hsz] using h2)
      have hstep : ∀ v w', Phi i v w' → Below w.heap.size w w' → (l.setIfInBounds i true).size = ops.size ∧ ((l.setIfInBounds i true).getD m false = true → ∀ j, j < ops.size → (l.setIfInBounds i true).getD j true = true) ∧ if (l.setIfInBounds i true).getD m false = true then Q .normal ((putAll u ops.toList 0 a).put o.dst v) w' else ∃ u', (putAll u ops.toList 0 a).put o.dst v = putAll u' ops.toList 0 a ∧ Below V.heap.size V w' ∧ ∀ j, j < ops.size → (l.setIfInBounds i true).getD j true = true → Phi j (u' j) w' := by
        intro v w' hv hbw
        have hm0 : (l.setIfInBounds i true).getD m false = false := by rw [getD_set l i m (by omega) false, if_neg (Ne.symm him), hnm]
        refine ⟨by simpa using hl, fun h => (by rw [hm0] at h; cases h), ?_⟩
        rw [hm0]
        simp only [Bool.false_eq_true, if_false]
        refine ⟨_, hput i o u v ho, hb.trans (hbw.mono hb.size), fun j hj hlj => ?_⟩
        by_cases hji : j = i
        · subst hji; rw [if_pos rfl]; exact hv
        · rw [if_neg hji]
          rw [getD_set l i j (by omega) true, if_neg hji] at hlj
          exact hstab _ _ _ _ (hphi j hj hlj) hbw
      rcases hop i o u w him' ho hb hdep with ⟨hw, h⟩ | ⟨hw, h⟩
      · rw [if_pos hw]
        refine .inl ?_
        rcases h with ⟨v, w', hr, hp, hbw⟩ | ⟨f, args, post, hr, hc, hk⟩
        · exact op_run hr (hstep v w' hp hbw)
        · exact op_call hr hc fun e w' he => by
            obtain ⟨v, rfl, hp, hbw⟩ := hk e w' he
            exact ⟨v, rfl, hstep v w' hp hbw⟩
      · rw [if_neg (by rw [hw]; simp)]
        exact hstep undef w h (Below.refl _ _)
  · rintro l a' w ⟨hl, -, hinv⟩ hall
    have hml : m < l.size := by omega
    have := hall m (by omega)
    have hm2 : l.getD m false = true := by simpa [hml] using this
    rw [if_pos hm2] at hinv
    exact hinv
  · exact Nat.le_trans (List.length_filter_le _ _) (by simp)
  · rw [if_neg (by simp [hlast])]
    exact ⟨_, hini, hV.drew, fun i hi hl => by simp [hi] at hl⟩
end
end Go.Proofs.YteodjajjlgekcaaDoor

/- The contract of topt.PutMSS. -/
namespace Go.Proofs.YteodjajjlgekcaaDoor
open Go.RowKit
set_option linter.unusedVariables false

theorem os_one {w : World} {g B : Nat} {k : UInt8} {A : Option Addr} {c : Nat} {d : List UInt8} (hg : Blk w g [.int .u8 (k.toNat : Int), .slice A d.length c] 101) (hd : Rd bv w B A c d) (hB : g < B) : Os w B (some ⟨g, 0, none⟩) 1 [(k, d)] := by
  refine ⟨?_, ?_, ?_, ?_⟩
  · simp
  · omega
  · intro h
    cases h
  · intro _
    exact ⟨g, 0, _, rfl, hB, .cons hd .nil, fun j u hj => by rw [Nat.zero_add, hg.cell]; exact hj⟩
theorem trep_zero (W : World) (A1 : Option Addr) (c1 : Nat) (_h : Rd bv W W.heap.size A1 c1 [1]) : Hid (Calls Tryd.prog 73 #[.slice A1 1 c1, .int .i64 ((0 : Nat) : Int)] W fun e w' => ∃ L A2 c2, e = .returned (.slice A2 L.length c2) ∧ Hid (L = List.replicate 0 1) ∧ Rd bv w' w'.heap.size A2 c2 L ∧ Below W.heap.size W w') :=
  (trep_0 A1 1 c1 W).mono fun e w' ⟨A2, c2, he, hr, hb⟩ => ⟨[], A2, c2, he, rfl, hr, hb⟩
theorem tputmss_any (n : UInt16) (w : World) :
    Calls Tryd.prog 53 #[.int .u16 (n.toNat : Int)] w fun e w' => ∃ L A c, e = .returned (.slice A L.length c) ∧ Hid (L = [2, 4] ++ be16 n) ∧ Rd bv w' w'.heap.size A c L ∧ Below w.heap.size w w' := by
  have H1 := Lib.hid (put16_nil (some ⟨w.heap.size, 0, none⟩) 1 [n] _ (lit16_at w w.heap.size [n] rfl #[.int .u16 (n.toNat : Int)] rfl 26 (by simp)) (by simp))
  go_enter Tryd.func53, Tryd.ntmps53
  go_wp2_with fail
  refine H1.out.mono ?_
  rintro e w1 ⟨L, A, c, rfl, HL, r, hb⟩
  have hB := bnextA (bnext (bnextA (Below.refl w.heap.size w) _) hb) (.cells #[.int .u8 2, .slice A L.length c] 101)
  have hd : L = be16 n := by rw [HL.out]; simp [puts16]
  have hl : L.length = 2 := by rw [hd]; rfl
  have hos : Os (w1.alloc (.cells #[.int .u8 2, .slice A L.length c] 101)) (w1.alloc (.cells #[.int .u8 2, .slice A L.length c] 101)).heap.size (some ⟨w1.heap.size, 0, none⟩) 1 [(2, L)] := os_one (k := 2) (Blk.new w1 #[.int .u8 2, .slice A L.length c] 101) (r.nextA (.cells #[.int .u8 2, .slice A L.length c] 101)) (by simp)
  have hP : putF [] [((2 : UInt8), L)] = some ([2, 4] ++ L) := by
    have h1 : okO (2, L) := ⟨by simp, fun h => by simp at h, by simp only; omega⟩
    have h2 : encO (2, L) = [2, 4] ++ L := by rw [encO]; simp [hl]
    rw [putF, if_pos h1, h2, if_neg (by simp; omega), putF]
    rfl
  have H2 := Lib.hid (tput_ok _ _ _ _ hos (by simp) _ hP 0 (by simp [hl]) trep_zero)
  have HD := Lib.hid hd
  clear hb H1 hos hP hl hd HL
  go_wp2_with fail
  refine H2.out.mono ?_
  rintro e w2 ⟨L2, A2, c2, rfl, HL2, r2, hb2⟩
  go_wp2_with fail
  go_ret
  exact ⟨L2, A2, c2, rfl, by rw [Hid, HL2.out, HD.out]; simp, r2, bnext hB hb2⟩
end Go.Proofs.YteodjajjlgekcaaDoor

/- Contracts of package udp's makers and of the reference's answers for them. -/
namespace Go.Proofs.YteodjajjlgekcaaDoor
open Go.RowKit

/-- A false head's bytes; a datagram's. -/
def uh (s d : UInt32) (p : UInt8) (n : Nat) : List UInt8 := be32 s ++ (be32 d ++ ([0, p] ++ be16 (UInt16.ofNat n)))
theorem uh_len (s d : UInt32) (p : UInt8) (n : Nat) : (uh s d p n).length = 12 := by simp [uh, be32, be16]
def ub (a b : UInt16) (s : Nat) (xs : List UInt8) : List UInt8 := be16 a ++ (be16 b ++ (be16 (UInt16.ofNat (8 + xs.length)) ++ (be16 (UInt16.ofNat s) ++ xs)))
theorem ub_len (a b : UInt16) (s : Nat) (xs : List UInt8) : (ub a b s xs).length = 8 + xs.length := by simp [ub, be16]; omega

theorem ruh_eq (s d : UInt32) (p : UInt8) (n : Nat) (hn : n ≤ 65535) : (putN 4 s.toNat ++ putN 4 d.toNat) ++ [0, p, UInt8.ofNat (n / 256 % 256), UInt8.ofNat (n % 256)] = uh s d p n := by
  rw [uh, be16_ofNat n hn, be32_put, be32_put, show n / 256 % 256 = n / 256 by omega]
  simp
end Go.Proofs.YteodjajjlgekcaaDoor

/- Contracts of package tcp's small functions, and of the reference's answers for them. -/
namespace Go.Proofs.YteodjajjlgekcaaDoor
open Go.RowKit

/-- A segment's bytes. -/
def tb (a b : UInt16) (q k : UInt32) (h f : UInt8) (z u : UInt16) (x : Nat) (os xs : List UInt8) : List UInt8 := be16 a ++ (be16 b ++ (be32 q ++ (be32 k ++ ([h, f] ++ (be16 z ++ (be16 (UInt16.ofNat x) ++ (be16 u ++ (os ++ xs))))))))
theorem tb_len (a b : UInt16) (q k : UInt32) (h f : UInt8) (z u : UInt16) (x : Nat) (os xs : List UInt8) : (tb a b q k h f z u x os xs).length = 20 + os.length + xs.length := by simp [tb, be16, be32]; omega

theorem tplain_any (a b : UInt16) (q k : UInt32) (f : UInt8) (w : World) :
    Calls Tryd.prog 52 #[.int .u16 (a.toNat : Int), .int .u16 (b.toNat : Int), .int .u32 (q.toNat : Int), .int .u32 (k.toNat : Int), .int .u8 (f.toNat : Int)] w fun e w' => e = .returned (.agg #[.int .u16 (a.toNat : Int), .int .u16 (b.toNat : Int), .int .u32 (q.toNat : Int), .int .u32 (k.toNat : Int), .int .u8 0, .int .u8 (f.toNat : Int), .int .u16 65535, .int .u16 0, .slice none 0 0, .slice none 0 0]) ∧ Below w.heap.size w w' := by
  go_enter Tryd.func52, Tryd.ntmps52
  go_wp2_with fail
  simp [bodyPost, results, Tryd.results52, go_sem]
  exact bnextA (Below.refl _ _) _

theorem tfew_any (a b : UInt16) (q k : UInt32) (r f : UInt8) (z u : UInt16) (A1 A2 : Option Addr) (n1 c1 n2 c2 m1 m2 : Nat) (w : World) (g1 : n1 ≤ c1) (g2 : c1 ≤ 9223372036854775807) (g3 : n2 ≤ c2) (g4 : c2 ≤ 9223372036854775807) (hm1 : Hid (min n1 50 = m1)) (hm2 : Hid (min n2 200 = m2)) :
    Calls Tryd.prog 22 #[.agg #[.int .u16 (a.toNat : Int), .int .u16 (b.toNat : Int), .int .u32 (q.toNat : Int), .int .u32 (k.toNat : Int), .int .u8 (r.toNat : Int), .int .u8 (f.toNat : Int), .int .u16 (z.toNat : Int), .int .u16 (u.toNat : Int), .slice A1 n1 c1, .slice A2 n2 c2]] w fun e w' =>
      e = .returned (.agg #[.int .u16 (a.toNat : Int), .int .u16 (b.toNat : Int), .int .u32 (q.toNat : Int), .int .u32 (k.toNat : Int), .int .u8 (r.toNat : Int), .int .u8 (f.toNat : Int), .int .u16 (z.toNat : Int), .int .u16 (u.toNat : Int), .slice A1 m1 c1, .slice A2 m2 c2]) ∧ Below w.heap.size w w' := by
  have hf : ∀ W, Calls Tryd.prog 47 #[.slice A1 n1 c1, .int .i64 50] W fun e w' => e = .returned (.slice A1 m1 c1) ∧ W = w' := by
    intro W
    have := few_le A1 n1 c1 50 W g1 g2 (by omega)
    rw [hm1.out] at this
    exact this
  have hg : ∀ W, Calls Tryd.prog 47 #[.slice A2 n2 c2, .int .i64 200] W fun e w' => e = .returned (.slice A2 m2 c2) ∧ W = w' := by
    intro W
    have := few_le A2 n2 c2 200 W g3 g4 (by omega)
    rw [hm2.out] at this
    exact this
  have HF := Lib.hid hf
  have HG := Lib.hid hg
  clear hf hm1 hg hm2
  go_enter Tryd.func22, Tryd.ntmps22
  go_wp2_with fail
  refine (HF.out _).mono ?_
  rintro e w1 ⟨rfl, rfl⟩
  go_wp2_with fail
  refine (HG.out _).mono ?_
  rintro e w1 ⟨rfl, rfl⟩
  go_wp2_with fail
  simp [bodyPost, results, Tryd.results22, go_sem]
  exact bnextA (bnextA (Below.refl _ _) _) _

set_option maxHeartbeats 1000000 in
theorem tsame_yes (a b : UInt16) (q k : UInt32) (r f : UInt8) (z u : UInt16) (A1 A2 B1 B2 : Option Addr) (c1 c2 d1 d2 : Nat) (os xs os2 xs2 : List UInt8) (w : World) (h1 : Rd bv w w.heap.size A1 c1 os) (h2 : Rd bv w w.heap.size A2 c2 xs) (h3 : Rd bv w w.heap.size B1 d1 os2) (h4 : Rd bv w w.heap.size B2 d2 xs2) (ho : os2 = os) (hx : xs2 = xs) :
    Calls Tryd.prog 25 #[.agg #[.int .u16 (a.toNat : Int), .int .u16 (b.toNat : Int), .int .u32 (q.toNat : Int), .int .u32 (k.toNat : Int), .int .u8 (r.toNat : Int), .int .u8 (f.toNat : Int), .int .u16 (z.toNat : Int), .int .u16 (u.toNat : Int), .slice A1 os.length c1, .slice A2 xs.length c2], .agg #[.int .u16 (a.toNat : Int), .int .u16 (b.toNat : Int), .int .u32 (q.toNat : Int), .int .u32 (k.toNat : Int), .int .u8 (r.toNat : Int), .int .u8 (f.toNat : Int), .int .u16 (z.toNat : Int), .int .u16 (u.toNat : Int), .slice B1 os2.length d1, .slice B2 xs2.length d2]] w fun e w' => e = .returned (.bool true) ∧ Below w.heap.size w w' := by
  subst ho hx
  obtain ⟨W2, hW2⟩ : ∃ W2, W2 = (w.alloc (.cells #[.int .u16 (a.toNat : Int), .int .u16 (b.toNat : Int), .int .u32 (q.toNat : Int), .int .u32 (k.toNat : Int), .int .u8 (r.toNat : Int), .int .u8 (f.toNat : Int), .int .u16 (z.toNat : Int), .int .u16 (u.toNat : Int), .slice A1 os2.length c1, .slice A2 xs2.length c2] 44)).alloc (.cells #[.int .u16 (a.toNat : Int), .int .u16 (b.toNat : Int), .int .u32 (q.toNat : Int), .int .u32 (k.toNat : Int), .int .u8 (r.toNat : Int), .int .u8 (f.toNat : Int), .int .u16 (z.toNat : Int), .int .u16 (u.toNat : Int), .slice B1 os2.length d1, .slice B2 xs2.length d2] 44) := ⟨_, rfl⟩
  have hB2 : Below w.heap.size w W2 := by subst hW2; exact bnextA (bnextA (Below.refl _ _) _) _
  have hKa : Blk W2 w.heap.size [.int .u16 (a.toNat : Int), .int .u16 (b.toNat : Int), .int .u32 (q.toNat : Int), .int .u32 (k.toNat : Int), .int .u8 (r.toNat : Int), .int .u8 (f.toNat : Int), .int .u16 (z.toNat : Int), .int .u16 (u.toNat : Int), .slice A1 os2.length c1, .slice A2 xs2.length c2] 44 := by subst hW2; exact (Blk.new _ _ _).alloc _
  have hKb : Blk W2 (w.heap.size + 1) [.int .u16 (a.toNat : Int), .int .u16 (b.toNat : Int), .int .u32 (q.toNat : Int), .int .u32 (k.toNat : Int), .int .u8 (r.toNat : Int), .int .u8 (f.toNat : Int), .int .u16 (z.toNat : Int), .int .u16 (u.toNat : Int), .slice B1 os2.length d1, .slice B2 xs2.length d2] 44 := by
    subst hW2
    have := Blk.new (w.alloc (.cells #[.int .u16 (a.toNat : Int), .int .u16 (b.toNat : Int), .int .u32 (q.toNat : Int), .int .u32 (k.toNat : Int), .int .u8 (r.toNat : Int), .int .u8 (f.toNat : Int), .int .u16 (z.toNat : Int), .int .u16 (u.toNat : Int), .slice A1 os2.length c1, .slice A2 xs2.length c2] 44)) #[.int .u16 (a.toNat : Int), .int .u16 (b.toNat : Int), .int .u32 (q.toNat : Int), .int .u32 (k.toNat : Int), .int .u8 (r.toNat : Int), .int .u8 (f.toNat : Int), .int .u16 (z.toNat : Int), .int .u16 (u.toNat : Int), .slice B1 os2.length d1, .slice B2 xs2.length d2] 44
    simpa using this
  have HSa := fun (_ : Unit) => Lib.hid (hKa.get10)
  have r1 := h1.next hB2
  have r2 := h2.next hB2
  have r3 := h3.next hB2
  have r4 := h4.next hB2
  clear h1 h2 h3 h4
  go_enter Tryd.func25, Tryd.ntmps25
  go_wp2_with fail
  rw [← hW2]
  clear hW2
  refine (rsame_yes A1 B1 c1 d1 os2 W2 _ r1 r3).mono ?_
  rintro e w1 ⟨rfl, hd⟩
  replace hd := hd.bel
  have hB3 := bnext hB2 hd
  replace r2 := r2.next hd
  replace r4 := r4.next hd
  obtain ⟨p0, p1, p2, p3, p4, p5, p6, p7, p8, p9, -⟩ := (hKa.next hd).get10
  obtain ⟨q0, q1, q2, q3, q4, q5, q6, q7, q8, q9, -⟩ := (hKb.next hd).get10
  clear hd hKa hKb HSa
  go_wp2_with fail
  refine (rsame_yes A2 B2 c2 d2 xs2 w1 _ r2 r4).mono ?_
  rintro e w2 ⟨rfl, hd⟩
  go_wp2_with fail
  go_ret
  exact ⟨rfl, bnext hB3 hd.bel⟩
theorem tsame_zero (w : World) : Calls Tryd.prog 25 #[.agg #[.int .u16 0, .int .u16 0, .int .u32 0, .int .u32 0, .int .u8 0, .int .u8 0, .int .u16 0, .int .u16 0, .slice none 0 0, .slice none 0 0], .agg #[.int .u16 0, .int .u16 0, .int .u32 0, .int .u32 0, .int .u8 0, .int .u8 0, .int .u16 0, .int .u16 0, .slice none 0 0, .slice none 0 0]] w fun e w' => e = .returned (.bool true) ∧ Below w.heap.size w w' :=
  tsame_yes 0 0 0 0 0 0 0 0 none none none none 0 0 0 0 [] [] [] [] w (Rd.nil0 _ _ _) (Rd.nil0 _ _ _) (Rd.nil0 _ _ _) (Rd.nil0 _ _ _) rfl rfl
end Go.Proofs.YteodjajjlgekcaaDoor

/- Contracts of tcp.Parse. -/
namespace Go.Proofs.YteodjajjlgekcaaDoor
open Go.RowKit

end Go.Proofs.YteodjajjlgekcaaDoor

/- Contracts of tcp.Has, Space, Next, the reference's Bit, Space; what tcp.Put put is read by Parse. -/
namespace Go.Proofs.YteodjajjlgekcaaDoor
open Go.RowKit

def hasB (f g : UInt8) : Bool := (f.toNat &&& g.toNat) == g.toNat
def sp (f : UInt8) : Nat := (if hasB f 2 then 1 else 0) + (if hasB f 1 then 1 else 0)
theorem hasB_int (f g : UInt8) : (bits BinOp.and IntKind.u8 (f.toNat : Int) (g.toNat : Int) == (g.toNat : Int)) = hasB f g := by
  have h1 := f.toNat_lt
  have h2 := g.toNat_lt
  rw [u8_and_nat _ _ (by omega) (by omega), hasB, Bool.eq_iff_iff]
  simp only [beq_iff_eq]
  exact Int.natCast_inj
theorem hasB_two : ∀ n, n < 256 → (((n &&& 2) == 2) = decide (n / 2 % 2 = 1)) := by decide +kernel
theorem hasB_one : ∀ n, n < 256 → (((n &&& 1) == 1) = decide (n / 1 % 2 = 1)) := by decide +kernel
theorem thas_any (a b : UInt16) (q k : UInt32) (r f : UInt8) (z u : UInt16) (A1 A2 : Option Addr) (n1 c1 n c2 : Nat) (g : UInt8) (w : World) :
    Calls Tryd.prog 48 #[.agg #[.int .u16 (a.toNat : Int), .int .u16 (b.toNat : Int), .int .u32 (q.toNat : Int), .int .u32 (k.toNat : Int), .int .u8 (r.toNat : Int), .int .u8 (f.toNat : Int), .int .u16 (z.toNat : Int), .int .u16 (u.toNat : Int), .slice A1 n1 c1, .slice A2 n c2], .int .u8 (g.toNat : Int)] w fun e w' => e = .returned (.bool (hasB f g)) ∧ Below w.heap.size w w' := by
  have hb := hasB_int f g
  generalize hasB f g = B at hb ⊢
  go_enter Tryd.func48, Tryd.ntmps48
  go_wp2_with fail
  go_ret
  exact ⟨by first | rfl | (rw [← hb]; rfl), bnextA (Below.refl _ _) _⟩

def bitB (f : UInt8) (k : Nat) : Bool := decide (f.toNat / k % 2 = 1)
theorem rbit_any (f : UInt8) (k : Nat) (K : Int) (hK : K = (k : Int)) (hk : 0 < k) (hk2 : k ≤ 128) (w : World) :
    Calls Tryd.prog 49 #[.int .u8 (f.toNat : Int), .int .i64 K] w fun e w' => e = .returned (.bool (bitB f k)) ∧ w = w' := by
  subst hK
  have hf := f.toNat_lt
  have hd : (f.toNat : Int).tdiv (k : Int) = ((f.toNat / k : Nat) : Int) := by rw [Int.tdiv_eq_ediv_of_nonneg (by omega)]; rfl
  have hle : f.toNat / k ≤ f.toNat := Nat.div_le_self _ _
  have hz : ((k : Int) == 0) = false := by simp; omega
  have hz2 : ¬ (k : Int) = 0 := by omega
  have hz3 : ¬ k = 0 := by omega
  have hb : ((((f.toNat / k : Nat) : Int) % 2) == 1) = bitB f k := by
    unfold bitB
    rw [Bool.eq_iff_iff]
    generalize f.toNat / k = y
    simp
    omega
  generalize bitB f k = B at hb ⊢
  generalize f.toNat / k = y at hd hle hb
  go_enter Tryd.func49, Tryd.ntmps49
  go_wp2_with fail
  go_ret
  exact ⟨by first | rfl | (rw [← hb]; rfl), rfl⟩
theorem bitB_two (f : UInt8) : bitB f 2 = hasB f 2 := (hasB_two f.toNat f.toNat_lt).symm
theorem bitB_one (f : UInt8) : bitB f 1 = hasB f 1 := (hasB_one f.toNat f.toNat_lt).symm

theorem be16_two (x : UInt16) : beN (be16 x) = x.toNat := by
  have := x.toNat_lt
  rw [be16, beN_two]
  simp
  omega
theorem be32_four (x : UInt32) : beN (be32 x) = x.toNat := by
  have := x.toNat_lt
  rw [be32, beN_four]
  simp
  omega
theorem tb_ones (s d : UInt32) (a b : UInt16) (q k : UInt32) (h f : UInt8) (z u : UInt16) (os xs : List UInt8) (N : Nat) (hN : onesN (uh s d 6 (20 + os.length + xs.length) ++ tb a b q k h f z u 0 os xs) = N) : onesN (uh s d 6 (20 + os.length + xs.length) ++ tb a b q k h f z u (65535 - N) os xs) = 65535 := by
  have hle : N ≤ 65535 := by rw [← hN]; exact onesN_le _
  have h1 := fills_right (uh s d 6 (20 + os.length + xs.length) ++ (be16 a ++ (be16 b ++ (be32 q ++ (be32 k ++ ([h, f] ++ be16 z)))))) (be16 u ++ (os ++ xs)) (65535 - N) (by simp [uh_len, be16, be32]) (by rw [← hN]; simp [tb, be16])
  rw [show (65535 - N) / 256 % 256 = (65535 - N) / 256 by omega] at h1
  refine Eq.trans (congrArg onesN ?_) h1
  rw [tb, be16_ofNat (65535 - N) (by omega)]
  simp
end Go.Proofs.YteodjajjlgekcaaDoor

/- Contracts of proxy.Offer, Accept, Open. -/
namespace Go.Proofs.YteodjajjlgekcaaDoor
open Go.RowKit
set_option linter.unusedVariables false

theorem Rd.sets {α : Type} {f : α → Value} {w : World} {B bl off c : Nat} {xs : List α} (h : Rd f w B (some ⟨bl, off, none⟩) c xs) {g : Nat} (hne : bl ≠ g) (j : Nat) (v : Value) : Rd f (w.setCell ⟨g, j, none⟩ v) B (some ⟨bl, off, none⟩) c xs := by
  refine ⟨h.1, h.2.1, h.2.2.1, fun hn => ?_⟩
  obtain ⟨b, o, e, hb, hc⟩ := h.2.2.2 hn
  injection e with e
  injection e with e1 e2 _
  subst e1 e2
  have hcc : ∀ i (hi : i < xs.length), (w.setCell ⟨g, j, none⟩ v).cell? ⟨bl, off + i, none⟩ = some (f xs[i]) := fun i hi => by
    rw [World.cell?_setCell_far _ _ _ _ (show g ≠ bl from fun h => hne h.symm)]
    exact hc i hi
  exact ⟨bl, off, rfl, hb, hcc⟩
theorem Rd.setsAll {α : Type} {f : α → Value} {w : World} {B bl off c : Nat} {xs : List α} (h : Rd f w B (some ⟨bl, off, none⟩) c xs) {g : Nat} (hne : bl ≠ g) (v0 v1 v2 v3 v4 v5 v6 v7 v8 v9 : Value) : Rd f (setAll10 w g v0 v1 v2 v3 v4 v5 v6 v7 v8 v9) B (some ⟨bl, off, none⟩) c xs :=
  ((((((((((h.sets hne 0 v0).sets hne 1 v1).sets hne 2 v2).sets hne 3 v3).sets hne 4 v4).sets hne 5 v5).sets hne 6 v6).sets hne 7 v7).sets hne 8 v8).sets hne 9 v9)
/-- Four bytes in a row lie in no segment's block. -/
theorem seg_apart {w : World} {g : Nat} {e : TypeId} {a b c d r f z u : Int} {A1 A2 : Option Addr} {n1 c1 n2 c2 : Nat} (K : Blk w g [.int .u16 a, .int .u16 b, .int .u32 c, .int .u32 d, .int .u8 r, .int .u8 f, .int .u16 z, .int .u16 u, .slice A1 n1 c1, .slice A2 n2 c2] e) {B bl off cc : Nat} {L : List UInt8} (hr : Rd bv w B (some ⟨bl, off, none⟩) cc L) (hl : L.length = 4) : bl ≠ g := by
  rintro rfl
  obtain ⟨b', off', he, _, hc⟩ := hr.at_ (k := 0) (by omega)
  injection he with he
  injection he with h1 h2 _
  subst h1 h2
  have q0 := hc 0 (by omega)
  have q1 := hc 1 (by omega)
  have q2 := hc 2 (by omega)
  rw [K.cell] at q0 q1 q2
  have ho : off = 0 ∨ off = 1 ∨ off = 2 ∨ off = 3 ∨ off = 4 ∨ off = 5 ∨ off = 6 ∨ off = 7 ∨ off = 8 ∨ off = 9 ∨ 10 ≤ off := by omega
  rcases ho with rfl | rfl | rfl | rfl | rfl | rfl | rfl | rfl | rfl | rfl | ho
  all_goals try (simp [bv] at q0)
  all_goals try (simp [bv] at q1)
  all_goals try (simp [bv] at q2)
  rw [List.getElem?_eq_none (by simp; omega)] at q0
  cases q0
/-- The place of the size that is offered to one who tells (n, b). -/
def offI (m : Nat × Bool) : Nat := idxN (if m.2 then (m.1 : Int) else 536) 8
theorem offI_lt (m : Nat × Bool) : offI m < 8 := idxN_lt _ 8 (by decide)
def szU (i : Nat) : UInt16 := UInt16.ofNat (szL.getD i 0).toNat
theorem szU_at (i : Nat) (h : i < 8) : szL[i]'(by simpa [szL] using h) = ((szU i).toNat : Int) := by
  have h8 : i = 0 ∨ i = 1 ∨ i = 2 ∨ i = 3 ∨ i = 4 ∨ i = 5 ∨ i = 6 ∨ i = 7 := by omega
  rcases h8 with rfl | rfl | rfl | rfl | rfl | rfl | rfl | rfl <;> rfl
set_option maxHeartbeats 2000000 in
theorem poffer_any (lo hi lo2 hi2 : Nat) (h1 : lo < 18446744073709551616) (h2 : hi < 18446744073709551616) (ep : Int) (s d : UInt32) (p q : UInt16) (r : UInt8) (sa sb : UInt16) (sq sk : UInt32) (sr sf : UInt8) (sz su : UInt16) (A1 A2 : Option Addr) (os : List UInt8) (c1 n2 c2 : Nat) (R : List Opt × Nat) (hR : Runs os R 0 []) (hl : os.length ≤ 1000) (ix : Nat) (hio : offI (mssN R.1) = ix) (vv : UInt32) (hvv : ckN lo hi (ckB s d p q r sq) (ckR ep 32) ix = vv.toNat) (sq1 : UInt32) (hq : ((sq.toNat : Int) + 1) % 4294967296 = (sq1.toNat : Int)) (w : World) (hr : Rd bv w w.heap.size A1 c1 os) (hS : SZ w) :
    Calls Tryd.prog 26 #[.agg #[.int .u64 (lo : Int), .int .u64 (hi : Int), .int .u64 (lo2 : Int), .int .u64 (hi2 : Int), .int .i64 ep], .agg #[.int .u32 (s.toNat : Int), .int .u32 (d.toNat : Int), .int .u16 (p.toNat : Int), .int .u16 (q.toNat : Int), .int .u8 (r.toNat : Int)], .agg #[.int .u16 (sa.toNat : Int), .int .u16 (sb.toNat : Int), .int .u32 (sq.toNat : Int), .int .u32 (sk.toNat : Int), .int .u8 (sr.toNat : Int), .int .u8 (sf.toNat : Int), .int .u16 (sz.toNat : Int), .int .u16 (su.toNat : Int), .slice A1 os.length c1, .slice A2 n2 c2]] w fun e w' => ∃ L AL cL, e = .returned (.agg #[.int .u16 (q.toNat : Int), .int .u16 (p.toNat : Int), .int .u32 (vv.toNat : Int), .int .u32 (sq1.toNat : Int), .int .u8 0, .int .u8 18, .int .u16 65535, .int .u16 0, .slice AL L.length cL, .slice none 0 0]) ∧ Hid (L = [2, 4] ++ be16 (szU ix)) ∧ Rd bv w' w'.heap.size AL cL L ∧ Below w.heap.size w w' := by
  have hi8 : ix < 8 := by rw [← hio]; exact offI_lt _
  obtain ⟨N, b, hm⟩ : ∃ n b, mssN R.1 = (n, b) := ⟨_, _, rfl⟩
  have hci : ckR (ix : Int) 8 = ix := by unfold ckR; simp; omega
  have HM := fun W h => Lib.hid (tmss_any A1 c1 os W h hl R hR N b hm)
  have HI : ∀ W, SZ W → Hid (Calls Tryd.prog 13 #[.int .u16 (if b then (N : Int) else 536)] W fun e w' => e = .returned (.int .i64 (ix : Int)) ∧ Below W.heap.size W w') := fun W h => by
    have h5 := (cindex_any (if b then (N : Int) else 536) W h).mono fun e w' h => (⟨h.1, by rw [← h.2]; exact Below.refl _ _⟩ : e = _ ∧ Below W.heap.size W w')
    rw [show idxN (if b then (N : Int) else 536) 8 = ix by rw [← hio, offI, hm]] at h5
    exact h5
  have HIS := fun W => Lib.hid (cissue_any lo hi lo2 hi2 ep h1 h2 s d p q r sq (ix : Int) vv.toNat (by rw [hci]; exact hvv) W)
  have HPL : ∀ W, Hid (Calls Tryd.prog 52 #[.int .u16 (q.toNat : Int), .int .u16 (p.toNat : Int), .int .u32 (vv.toNat : Int), .int .u32 (sq1.toNat : Int), .int .u8 18] W fun e w' => e = .returned (.agg #[.int .u16 (q.toNat : Int), .int .u16 (p.toNat : Int), .int .u32 (vv.toNat : Int), .int .u32 (sq1.toNat : Int), .int .u8 0, .int .u8 18, .int .u16 65535, .int .u16 0, .slice none 0 0, .slice none 0 0]) ∧ Below W.heap.size W w') := fun W => tplain_any q p vv sq1 18 W
  have HSZ : ∀ W, SZ W → Hid (Calls Tryd.prog 15 #[.int .i64 (ix : Int)] W fun e w' => e = .returned (.int .u16 ((szU ix).toNat : Int)) ∧ Below W.heap.size W w') := fun W h => by
    have h5 := (csize_at ix hi8 W h).mono fun e w' h => (⟨h.1, by rw [← h.2]; exact Below.refl _ _⟩ : e = _ ∧ Below W.heap.size W w')
    rw [szU_at ix hi8] at h5
    exact h5
  have HPM := fun W => Lib.hid (tputmss_any (szU ix) W)
  generalize szU ix = z at HSZ HPM ⊢
  have hq1 := Lib.hid hq
  clear hci hm hR hl hio hvv hq hi8
  obtain ⟨V, hV⟩ : ∃ V, V = ((((w.alloc (.cells #[.int .u64 (lo : Int), .int .u64 (hi : Int), .int .u64 (lo2 : Int), .int .u64 (hi2 : Int), .int .i64 ep] 36)).alloc (.cells #[.int .u32 (s.toNat : Int), .int .u32 (d.toNat : Int), .int .u16 (p.toNat : Int), .int .u16 (q.toNat : Int), .int .u8 (r.toNat : Int)] 28)).alloc (.cells #[.int .u16 (sa.toNat : Int), .int .u16 (sb.toNat : Int), .int .u32 (sq.toNat : Int), .int .u32 (sk.toNat : Int), .int .u8 (sr.toNat : Int), .int .u8 (sf.toNat : Int), .int .u16 (sz.toNat : Int), .int .u16 (su.toNat : Int), .slice A1 os.length c1, .slice A2 n2 c2] 44)).alloc (.cells #[.int .u16 0, .int .u16 0, .int .u32 0, .int .u32 0, .int .u8 0, .int .u8 0, .int .u16 0, .int .u16 0, .slice none 0 0, .slice none 0 0] 44)) := ⟨_, rfl⟩
  have hB : Below w.heap.size w V := by subst hV; exact (bnextA (bnextA (bnextA (bnextA (Below.refl _ _) _) _) _) _)
  have KS : Blk V (w.heap.size) [.int .u64 (lo : Int), .int .u64 (hi : Int), .int .u64 (lo2 : Int), .int .u64 (hi2 : Int), .int .i64 ep] 36 := by subst hV; simpa using (((Blk.new w #[.int .u64 (lo : Int), .int .u64 (hi : Int), .int .u64 (lo2 : Int), .int .u64 (hi2 : Int), .int .i64 ep] 36).alloc (.cells #[.int .u32 (s.toNat : Int), .int .u32 (d.toNat : Int), .int .u16 (p.toNat : Int), .int .u16 (q.toNat : Int), .int .u8 (r.toNat : Int)] 28)).alloc (.cells #[.int .u16 (sa.toNat : Int), .int .u16 (sb.toNat : Int), .int .u32 (sq.toNat : Int), .int .u32 (sk.toNat : Int), .int .u8 (sr.toNat : Int), .int .u8 (sf.toNat : Int), .int .u16 (sz.toNat : Int), .int .u16 (su.toNat : Int), .slice A1 os.length c1, .slice A2 n2 c2] 44)).alloc (.cells #[.int .u16 0, .int .u16 0, .int .u32 0, .int .u32 0, .int .u8 0, .int .u8 0, .int .u16 0, .int .u16 0, .slice none 0 0, .slice none 0 0] 44)
  have KF : Blk V (w.heap.size + 1) [.int .u32 (s.toNat : Int), .int .u32 (d.toNat : Int), .int .u16 (p.toNat : Int), .int .u16 (q.toNat : Int), .int .u8 (r.toNat : Int)] 28 := by subst hV; simpa using ((Blk.new (w.alloc (.cells #[.int .u64 (lo : Int), .int .u64 (hi : Int), .int .u64 (lo2 : Int), .int .u64 (hi2 : Int), .int .i64 ep] 36)) #[.int .u32 (s.toNat : Int), .int .u32 (d.toNat : Int), .int .u16 (p.toNat : Int), .int .u16 (q.toNat : Int), .int .u8 (r.toNat : Int)] 28).alloc (.cells #[.int .u16 (sa.toNat : Int), .int .u16 (sb.toNat : Int), .int .u32 (sq.toNat : Int), .int .u32 (sk.toNat : Int), .int .u8 (sr.toNat : Int), .int .u8 (sf.toNat : Int), .int .u16 (sz.toNat : Int), .int .u16 (su.toNat : Int), .slice A1 os.length c1, .slice A2 n2 c2] 44)).alloc (.cells #[.int .u16 0, .int .u16 0, .int .u32 0, .int .u32 0, .int .u8 0, .int .u8 0, .int .u16 0, .int .u16 0, .slice none 0 0, .slice none 0 0] 44)
  have KG : Blk V (w.heap.size + 2) [.int .u16 (sa.toNat : Int), .int .u16 (sb.toNat : Int), .int .u32 (sq.toNat : Int), .int .u32 (sk.toNat : Int), .int .u8 (sr.toNat : Int), .int .u8 (sf.toNat : Int), .int .u16 (sz.toNat : Int), .int .u16 (su.toNat : Int), .slice A1 os.length c1, .slice A2 n2 c2] 44 := by subst hV; simpa using (Blk.new ((w.alloc (.cells #[.int .u64 (lo : Int), .int .u64 (hi : Int), .int .u64 (lo2 : Int), .int .u64 (hi2 : Int), .int .i64 ep] 36)).alloc (.cells #[.int .u32 (s.toNat : Int), .int .u32 (d.toNat : Int), .int .u16 (p.toNat : Int), .int .u16 (q.toNat : Int), .int .u8 (r.toNat : Int)] 28)) #[.int .u16 (sa.toNat : Int), .int .u16 (sb.toNat : Int), .int .u32 (sq.toNat : Int), .int .u32 (sk.toNat : Int), .int .u8 (sr.toNat : Int), .int .u8 (sf.toNat : Int), .int .u16 (sz.toNat : Int), .int .u16 (su.toNat : Int), .slice A1 os.length c1, .slice A2 n2 c2] 44).alloc (.cells #[.int .u16 0, .int .u16 0, .int .u32 0, .int .u32 0, .int .u8 0, .int .u8 0, .int .u16 0, .int .u16 0, .slice none 0 0, .slice none 0 0] 44)
  have KZ : Blk V (w.heap.size + 3) [.int .u16 0, .int .u16 0, .int .u32 0, .int .u32 0, .int .u8 0, .int .u8 0, .int .u16 0, .int .u16 0, .slice none 0 0, .slice none 0 0] 44 := by subst hV; simpa using Blk.new (((w.alloc (.cells #[.int .u64 (lo : Int), .int .u64 (hi : Int), .int .u64 (lo2 : Int), .int .u64 (hi2 : Int), .int .i64 ep] 36)).alloc (.cells #[.int .u32 (s.toNat : Int), .int .u32 (d.toNat : Int), .int .u16 (p.toNat : Int), .int .u16 (q.toNat : Int), .int .u8 (r.toNat : Int)] 28)).alloc (.cells #[.int .u16 (sa.toNat : Int), .int .u16 (sb.toNat : Int), .int .u32 (sq.toNat : Int), .int .u32 (sk.toNat : Int), .int .u8 (sr.toNat : Int), .int .u8 (sf.toNat : Int), .int .u16 (sz.toNat : Int), .int .u16 (su.toNat : Int), .slice A1 os.length c1, .slice A2 n2 c2] 44)) #[.int .u16 0, .int .u16 0, .int .u32 0, .int .u32 0, .int .u8 0, .int .u8 0, .int .u16 0, .int .u16 0, .slice none 0 0, .slice none 0 0] 44
  have hZl : Hid (w.heap.size + 3 < V.heap.size) := KZ.lt
  have rV := hr.next hB
  replace hS := hS.next hB
  obtain ⟨z0, z1, z2, z3, z4, z5, z6, z7, z8, z9, -⟩ := KG.get10
  go_enter Tryd.func26, Tryd.ntmps26
  go_wp2_with fail
  rw [← hV]
  clear hV hr
  refine (HM _ rV).out.mono ?_
  rintro e w1 ⟨rfl, hb⟩
  replace hB := bnext hB hb
  replace KS := KS.next hb
  replace KF := KF.next hb
  replace KG := KG.next hb
  replace KZ := KZ.next hb
  replace hS := hS.next hb
  replace hZl : Hid (w.heap.size + 3 < w1.heap.size) := Nat.lt_of_lt_of_le hZl.out hb.size
  clear hb HM rV z0 z1 z2 z3 z4 z5 z6 z7 z8 z9
  cases b
  all_goals
    simp only [if_true, Bool.false_eq_true, if_false] at HI
    go_wp2_with fail
    refine (HI _ hS).out.mono ?_
    rintro e w2 ⟨rfl, hb⟩
    replace hB := bnext hB hb
    replace KS := KS.next hb
    replace KF := KF.next hb
    replace KG := KG.next hb
    replace KZ := KZ.next hb
    replace hS := hS.next hb
    replace hZl : Hid (w.heap.size + 3 < w2.heap.size) := Nat.lt_of_lt_of_le hZl.out hb.size
    clear hb HI
    go_wp2_with fail
    generalize w2 = V3 at *
    have HCC : ∀ W, Below V3.heap.size V3 W → (W.cell? ⟨w.heap.size + 1, 0, none⟩ = some (.int .u32 (s.toNat : Int)) ∧ W.cell? ⟨w.heap.size + 1, 1, none⟩ = some (.int .u32 (d.toNat : Int)) ∧ W.cell? ⟨w.heap.size + 1, 2, none⟩ = some (.int .u16 (p.toNat : Int)) ∧ W.cell? ⟨w.heap.size + 1, 3, none⟩ = some (.int .u16 (q.toNat : Int)) ∧ W.cell? ⟨w.heap.size + 1, 4, none⟩ = some (.int .u8 (r.toNat : Int)) ∧ W.cell? ⟨w.heap.size + 2, 2, none⟩ = some (.int .u32 (sq.toNat : Int))) := by
      intro W h
      exact ⟨(KF.next h).cell 0, (KF.next h).cell 1, (KF.next h).cell 2, (KF.next h).cell 3, (KF.next h).cell 4, (KG.next h).cell 2⟩
    refine region_put_last (by kernel_rfl) (by kernel_rfl) (by kernel_rfl) 40 rfl (by kernel_rfl) V3 (fun i v W => match i with
        | 0 => v = .pointer (some ⟨w.heap.size + 1, 3, none⟩)
        | 1 => v = .int .u16 (q.toNat : Int)
        | 2 => v = .pointer (some ⟨w.heap.size + 1, 2, none⟩)
        | 3 => v = .int .u16 (p.toNat : Int)
        | 4 => v = .agg #[.int .u64 (lo : Int), .int .u64 (hi : Int), .int .u64 (lo2 : Int), .int .u64 (hi2 : Int), .int .i64 ep]
        | 5 => v = .agg #[.int .u32 (s.toNat : Int), .int .u32 (d.toNat : Int), .int .u16 (p.toNat : Int), .int .u16 (q.toNat : Int), .int .u8 (r.toNat : Int)]
        | 6 => v = .pointer (some ⟨w.heap.size + 2, 2, none⟩)
        | 7 => v = .int .u32 (sq.toNat : Int)
        | 8 => v = .int .i64 (ix : Int)
        | 9 => v = .int .u32 (vv.toNat : Int)
        | 10 => v = .pointer (some ⟨w.heap.size + 2, 2, none⟩)
        | 11 => v = .int .u32 (sq.toNat : Int)
        | 12 => v = .int .u32 (sq1.toNat : Int)
        | 13 => v = .agg #[.int .u16 (q.toNat : Int), .int .u16 (p.toNat : Int), .int .u32 (vv.toNat : Int), .int .u32 (sq1.toNat : Int), .int .u8 0, .int .u8 18, .int .u16 65535, .int .u16 0, .slice none 0 0, .slice none 0 0]
        | 14 => ∃ g, v = .pointer (some ⟨g, 0, none⟩) ∧ V3.heap.size ≤ g ∧ Blk W g [.int .u16 0, .int .u16 0, .int .u32 0, .int .u32 0, .int .u8 0, .int .u8 0, .int .u16 0, .int .u16 0, .slice none 0 0, .slice none 0 0] 44
        | _ => True) (Below.refl _ _) 15 rfl (by kernel_rfl) (by intro o h; obtain rfl := Option.some.inj h; rfl) ?_ ?_ ?_
    · intro i v W W' h hb
      match i, h with
      | 0, h => exact h
      | 1, h => exact h
      | 2, h => exact h
      | 3, h => exact h
      | 4, h => exact h
      | 5, h => exact h
      | 6, h => exact h
      | 7, h => exact h
      | 8, h => exact h
      | 9, h => exact h
      | 10, h => exact h
      | 11, h => exact h
      | 12, h => exact h
      | 13, h => exact h
      | 14, h => obtain ⟨g, h1, h2, h3⟩ := h; exact ⟨g, h1, h2, h3.next hb⟩
      | _ + 15, _ => trivial
    · intro i oo uu W him hoo hVW hd
      rcases i with _|_|_|_|_|_|_|_|_|_|_|_|_|_|_|i
      · obtain rfl := Option.some.inj hoo
        refine .inl ⟨wanted_none rfl, ?_⟩
        generalize hev : Act.eval _ = ev
        have ec : ∀ c, ev (.const c) = c := fun c => by rw [← hev]; rfl
        have e4 : ev (.tmp 4) = .pointer (some ⟨w.heap.size + 1, 0, none⟩) := by rw [← hev]; exact eval_old (by kernel_rfl) 40 rfl (by decide) rfl
        clear hev hd
        exact .inl ⟨_, W, by go_simp, rfl, Below.refl _ _⟩
      · obtain rfl := Option.some.inj hoo
        have q0 : uu 0 = .pointer (some ⟨w.heap.size + 1, 3, none⟩) := hd 0 (by kernel_rfl)
        refine .inl ⟨wanted_none rfl, ?_⟩
        generalize hev : Act.eval _ = ev
        have ec : ∀ c, ev (.const c) = c := fun c => by rw [← hev]; rfl
        have e21 : ev (.tmp 21) = .pointer (some ⟨w.heap.size + 1, 3, none⟩) := by rw [← hev]; exact (eval_put (by kernel_rfl) 40 rfl (by decide)).trans q0
        clear hev hd q0
        obtain ⟨cc0, cc1, cc2, cc3, cc4, cc5⟩ := HCC W hVW
        exact .inl ⟨_, W, by go_simp, rfl, Below.refl _ _⟩
      · obtain rfl := Option.some.inj hoo
        refine .inl ⟨wanted_none rfl, ?_⟩
        generalize hev : Act.eval _ = ev
        have ec : ∀ c, ev (.const c) = c := fun c => by rw [← hev]; rfl
        have e4 : ev (.tmp 4) = .pointer (some ⟨w.heap.size + 1, 0, none⟩) := by rw [← hev]; exact eval_old (by kernel_rfl) 40 rfl (by decide) rfl
        clear hev hd
        exact .inl ⟨_, W, by go_simp, rfl, Below.refl _ _⟩
      · obtain rfl := Option.some.inj hoo
        have q2 : uu 2 = .pointer (some ⟨w.heap.size + 1, 2, none⟩) := hd 2 (by kernel_rfl)
        refine .inl ⟨wanted_none rfl, ?_⟩
        generalize hev : Act.eval _ = ev
        have ec : ∀ c, ev (.const c) = c := fun c => by rw [← hev]; rfl
        have e23 : ev (.tmp 23) = .pointer (some ⟨w.heap.size + 1, 2, none⟩) := by rw [← hev]; exact (eval_put (by kernel_rfl) 40 rfl (by decide)).trans q2
        clear hev hd q2
        obtain ⟨cc0, cc1, cc2, cc3, cc4, cc5⟩ := HCC W hVW
        exact .inl ⟨_, W, by go_simp, rfl, Below.refl _ _⟩
      · obtain rfl := Option.some.inj hoo
        refine .inl ⟨wanted_none rfl, ?_⟩
        generalize hev : Act.eval _ = ev
        have ec : ∀ c, ev (.const c) = c := fun c => by rw [← hev]; rfl
        have e3 : ev (.tmp 3) = .pointer (some ⟨w.heap.size, 0, none⟩) := by rw [← hev]; exact eval_old (by kernel_rfl) 40 rfl (by decide) rfl
        clear hev hd
        exact .inl ⟨_, W, load_blk Tryd.underlying36 (by kernel_rfl) (KS.next hVW) rfl e3, rfl, Below.refl _ _⟩
      · obtain rfl := Option.some.inj hoo
        refine .inl ⟨wanted_none rfl, ?_⟩
        generalize hev : Act.eval _ = ev
        have ec : ∀ c, ev (.const c) = c := fun c => by rw [← hev]; rfl
        have e4 : ev (.tmp 4) = .pointer (some ⟨w.heap.size + 1, 0, none⟩) := by rw [← hev]; exact eval_old (by kernel_rfl) 40 rfl (by decide) rfl
        clear hev hd
        exact .inl ⟨_, W, load_blk Tryd.underlying28 (by kernel_rfl) (KF.next hVW) rfl e4, rfl, Below.refl _ _⟩
      · obtain rfl := Option.some.inj hoo
        refine .inl ⟨wanted_none rfl, ?_⟩
        generalize hev : Act.eval _ = ev
        have ec : ∀ c, ev (.const c) = c := fun c => by rw [← hev]; rfl
        have e5 : ev (.tmp 5) = .pointer (some ⟨w.heap.size + 2, 0, none⟩) := by rw [← hev]; exact eval_old (by kernel_rfl) 40 rfl (by decide) rfl
        clear hev hd
        exact .inl ⟨_, W, by go_simp, rfl, Below.refl _ _⟩
      · obtain rfl := Option.some.inj hoo
        have q6 : uu 6 = .pointer (some ⟨w.heap.size + 2, 2, none⟩) := hd 6 (by kernel_rfl)
        refine .inl ⟨wanted_none rfl, ?_⟩
        generalize hev : Act.eval _ = ev
        have ec : ∀ c, ev (.const c) = c := fun c => by rw [← hev]; rfl
        have e27 : ev (.tmp 27) = .pointer (some ⟨w.heap.size + 2, 2, none⟩) := by rw [← hev]; exact (eval_put (by kernel_rfl) 40 rfl (by decide)).trans q6
        clear hev hd q6
        obtain ⟨cc0, cc1, cc2, cc3, cc4, cc5⟩ := HCC W hVW
        exact .inl ⟨_, W, by go_simp, rfl, Below.refl _ _⟩
      · obtain rfl := Option.some.inj hoo
        refine .inl ⟨wanted_none rfl, ?_⟩
        generalize hev : Act.eval _ = ev
        have ec : ∀ c, ev (.const c) = c := fun c => by rw [← hev]; rfl
        have e9 : ev (.tmp 9) = .int .i64 (ix : Int) := by rw [← hev]; exact eval_old (by kernel_rfl) 40 rfl (by decide) rfl
        clear hev hd
        exact .inl ⟨_, W, by go_simp, rfl, Below.refl _ _⟩
      · obtain rfl := Option.some.inj hoo
        have q4 : uu 4 = .agg #[.int .u64 (lo : Int), .int .u64 (hi : Int), .int .u64 (lo2 : Int), .int .u64 (hi2 : Int), .int .i64 ep] := hd 4 (by kernel_rfl)
        have q5 : uu 5 = .agg #[.int .u32 (s.toNat : Int), .int .u32 (d.toNat : Int), .int .u16 (p.toNat : Int), .int .u16 (q.toNat : Int), .int .u8 (r.toNat : Int)] := hd 5 (by kernel_rfl)
        have q7 : uu 7 = .int .u32 (sq.toNat : Int) := hd 7 (by kernel_rfl)
        have q8 : uu 8 = .int .i64 (ix : Int) := hd 8 (by kernel_rfl)
        refine .inl ⟨wanted_none rfl, ?_⟩
        generalize hev : Act.eval _ = ev
        have ec : ∀ c, ev (.const c) = c := fun c => by rw [← hev]; rfl
        have ef : ∀ f, ev (.func f) = .func (.func f) #[] #[] := fun f => by rw [← hev]; rfl
        have e25 : ev (.tmp 25) = .agg #[.int .u64 (lo : Int), .int .u64 (hi : Int), .int .u64 (lo2 : Int), .int .u64 (hi2 : Int), .int .i64 ep] := by rw [← hev]; exact (eval_put (by kernel_rfl) 40 rfl (by decide)).trans q4
        have e26 : ev (.tmp 26) = .agg #[.int .u32 (s.toNat : Int), .int .u32 (d.toNat : Int), .int .u16 (p.toNat : Int), .int .u16 (q.toNat : Int), .int .u8 (r.toNat : Int)] := by rw [← hev]; exact (eval_put (by kernel_rfl) 40 rfl (by decide)).trans q5
        have e28 : ev (.tmp 28) = .int .u32 (sq.toNat : Int) := by rw [← hev]; exact (eval_put (by kernel_rfl) 40 rfl (by decide)).trans q7
        have e29 : ev (.tmp 29) = .int .i64 (ix : Int) := by rw [← hev]; exact (eval_put (by kernel_rfl) 40 rfl (by decide)).trans q8
        clear hev hd q4 q5 q7 q8
        exact .inr ⟨_, _, _, by go_simp, (HIS W).out, fun e w' he => ⟨_, he.1, rfl, he.2⟩⟩
      · obtain rfl := Option.some.inj hoo
        refine .inl ⟨wanted_none rfl, ?_⟩
        generalize hev : Act.eval _ = ev
        have ec : ∀ c, ev (.const c) = c := fun c => by rw [← hev]; rfl
        have e5 : ev (.tmp 5) = .pointer (some ⟨w.heap.size + 2, 0, none⟩) := by rw [← hev]; exact eval_old (by kernel_rfl) 40 rfl (by decide) rfl
        clear hev hd
        exact .inl ⟨_, W, by go_simp, rfl, Below.refl _ _⟩
      · obtain rfl := Option.some.inj hoo
        have q10 : uu 10 = .pointer (some ⟨w.heap.size + 2, 2, none⟩) := hd 10 (by kernel_rfl)
        refine .inl ⟨wanted_none rfl, ?_⟩
        generalize hev : Act.eval _ = ev
        have ec : ∀ c, ev (.const c) = c := fun c => by rw [← hev]; rfl
        have e31 : ev (.tmp 31) = .pointer (some ⟨w.heap.size + 2, 2, none⟩) := by rw [← hev]; exact (eval_put (by kernel_rfl) 40 rfl (by decide)).trans q10
        clear hev hd q10
        obtain ⟨cc0, cc1, cc2, cc3, cc4, cc5⟩ := HCC W hVW
        exact .inl ⟨_, W, by go_simp, rfl, Below.refl _ _⟩
      · obtain rfl := Option.some.inj hoo
        have q11 : uu 11 = .int .u32 (sq.toNat : Int) := hd 11 (by kernel_rfl)
        refine .inl ⟨wanted_none rfl, ?_⟩
        generalize hev : Act.eval _ = ev
        have ec : ∀ c, ev (.const c) = c := fun c => by rw [← hev]; rfl
        have e32 : ev (.tmp 32) = .int .u32 (sq.toNat : Int) := by rw [← hev]; exact (eval_put (by kernel_rfl) 40 rfl (by decide)).trans q11
        clear hev hd q11
        have hh : IntKind.u32.wrap ((sq.toNat : Int) + 1) = (sq1.toNat : Int) := by rw [IntKind.wrap_u32]; exact hq1.out
        exact .inl ⟨_, W, by go_simp, rfl, Below.refl _ _⟩
      · obtain rfl := Option.some.inj hoo
        have q1 : uu 1 = .int .u16 (q.toNat : Int) := hd 1 (by kernel_rfl)
        have q3 : uu 3 = .int .u16 (p.toNat : Int) := hd 3 (by kernel_rfl)
        have q9 : uu 9 = .int .u32 (vv.toNat : Int) := hd 9 (by kernel_rfl)
        have q12 : uu 12 = .int .u32 (sq1.toNat : Int) := hd 12 (by kernel_rfl)
        refine .inl ⟨wanted_none rfl, ?_⟩
        generalize hev : Act.eval _ = ev
        have ec : ∀ c, ev (.const c) = c := fun c => by rw [← hev]; rfl
        have ef : ∀ f, ev (.func f) = .func (.func f) #[] #[] := fun f => by rw [← hev]; rfl
        have e22 : ev (.tmp 22) = .int .u16 (q.toNat : Int) := by rw [← hev]; exact (eval_put (by kernel_rfl) 40 rfl (by decide)).trans q1
        have e24 : ev (.tmp 24) = .int .u16 (p.toNat : Int) := by rw [← hev]; exact (eval_put (by kernel_rfl) 40 rfl (by decide)).trans q3
        have e30 : ev (.tmp 30) = .int .u32 (vv.toNat : Int) := by rw [← hev]; exact (eval_put (by kernel_rfl) 40 rfl (by decide)).trans q9
        have e33 : ev (.tmp 33) = .int .u32 (sq1.toNat : Int) := by rw [← hev]; exact (eval_put (by kernel_rfl) 40 rfl (by decide)).trans q12
        clear hev hd q1 q3 q9 q12
        exact .inr ⟨_, _, _, by go_simp, (HPL W).out, fun e w' he => ⟨_, he.1, rfl, he.2⟩⟩
      · obtain rfl := Option.some.inj hoo
        refine .inl ⟨wanted_none rfl, ?_⟩
        generalize hev : Act.eval _ = ev
        have ec : ∀ c, ev (.const c) = c := fun c => by rw [← hev]; rfl
        clear hev hd
        exact .inl ⟨_, W.alloc (.cells #[.int .u16 0, .int .u16 0, .int .u32 0, .int .u32 0, .int .u8 0, .int .u8 0, .int .u16 0, .int .u16 0, .slice none 0 0, .slice none 0 0] 44), by go_simp, ⟨W.heap.size, rfl, hVW.size, Blk.new W #[.int .u16 0, .int .u16 0, .int .u32 0, .int .u32 0, .int .u8 0, .int .u8 0, .int .u16 0, .int .u16 0, .slice none 0 0, .slice none 0 0] 44⟩, bnextA (Below.refl _ _) _⟩
      · omega
    · intro oo uu W hoo hVW hall
      obtain rfl := Option.some.inj hoo
      obtain ⟨g14, q14, hle14, hbk14⟩ := hall 14 (by decide)
      have q13 : uu 13 = .agg #[.int .u16 (q.toNat : Int), .int .u16 (p.toNat : Int), .int .u32 (vv.toNat : Int), .int .u32 (sq1.toNat : Int), .int .u8 0, .int .u8 18, .int .u16 65535, .int .u16 0, .slice none 0 0, .slice none 0 0] := hall 13 (by decide)
      refine ⟨wanted_none rfl, ?_⟩
      generalize hev : Act.eval _ = ev
      have ec : ∀ c, ev (.const c) = c := fun c => by rw [← hev]; rfl
      have e10 : ev (.tmp 10) = .pointer (some ⟨g14, 0, none⟩) := by rw [← hev]; exact (eval_put (by kernel_rfl) 40 rfl (by decide)).trans q14
      have e34 : ev (.tmp 34) = .agg #[.int .u16 (q.toNat : Int), .int .u16 (p.toNat : Int), .int .u32 (vv.toNat : Int), .int .u32 (sq1.toNat : Int), .int .u8 0, .int .u8 18, .int .u16 65535, .int .u16 0, .slice none 0 0, .slice none 0 0] := by rw [← hev]; exact (eval_put (by kernel_rfl) 40 rfl (by decide)).trans q13
      clear hev hall
      obtain ⟨m0, m1, m2, m3, m4, m5, m6, m7, m8, m9, n0, n1, n2, n3, n4, n5, n6, n7, n8, n9⟩ := hbk14.get10
      refine ⟨_, by (go_simp <;> rfl), ?_⟩
      simp only [putAll, Act.put, Nat.reduceAdd, q14]
      simp only [List.setIfInBounds_toArray, List.set_cons_succ, List.set_cons_zero]
      have hB4 := bset10 (hB.trans (hVW.mono hB.size)) (Nat.le_trans hB.size hle14) (.int .u16 (q.toNat : Int)) (.int .u16 (p.toNat : Int)) (.int .u32 (vv.toNat : Int)) (.int .u32 (sq1.toNat : Int)) (.int .u8 0) (.int .u8 18) (.int .u16 65535) (.int .u16 0) (.slice none 0 0) (.slice none 0 0)
      have KN := hbk14.set10 (u0 := .int .u16 (q.toNat : Int)) (u1 := .int .u16 (p.toNat : Int)) (u2 := .int .u32 (vv.toNat : Int)) (u3 := .int .u32 (sq1.toNat : Int)) (u4 := .int .u8 0) (u5 := .int .u8 18) (u6 := .int .u16 65535) (u7 := .int .u16 0) (u8 := .slice none 0 0) (u9 := .slice none 0 0)
      have hB5 := bset10 (B := V3.heap.size) hVW hle14 (.int .u16 (q.toNat : Int)) (.int .u16 (p.toNat : Int)) (.int .u32 (vv.toNat : Int)) (.int .u32 (sq1.toNat : Int)) (.int .u8 0) (.int .u8 18) (.int .u16 65535) (.int .u16 0) (.slice none 0 0) (.slice none 0 0)
      replace KZ := KZ.next hB5
      replace hS := hS.next hB5
      simp only [setAll10] at hB4 KN KZ hS
      have hne : w.heap.size + 3 ≠ g14 := by have := hZl.out; omega
      clear HCC hB hVW hB5 HIS HPL KS KF KG
      generalize ((((((((((W.setCell ⟨g14, 0, none⟩ (.int .u16 (q.toNat : Int))).setCell ⟨g14, 1, none⟩ (.int .u16 (p.toNat : Int))).setCell ⟨g14, 2, none⟩ (.int .u32 (vv.toNat : Int))).setCell ⟨g14, 3, none⟩ (.int .u32 (sq1.toNat : Int))).setCell ⟨g14, 4, none⟩ (.int .u8 0)).setCell ⟨g14, 5, none⟩ (.int .u8 18)).setCell ⟨g14, 6, none⟩ (.int .u16 65535)).setCell ⟨g14, 7, none⟩ (.int .u16 0)).setCell ⟨g14, 8, none⟩ (.slice none 0 0)).setCell ⟨g14, 9, none⟩ (.slice none 0 0)) = V4 at *
      clear hbk14 q14
      have hgle : w.heap.size ≤ g14 := by have := hZl.out; omega
      clear hle14
      generalize g14 = g at *
      go_wp2_with fail
      refine (HSZ _ hS).out.mono ?_
      rintro e w5 ⟨rfl, hb⟩
      replace hB4 := bnext hB4 hb
      replace KN := KN.next hb
      replace KZ := KZ.next hb
      clear hb HSZ hS
      go_wp2_with fail
      refine (HPM _).out.mono ?_
      rintro e w6 ⟨L, AL, cL, rfl, HL, rL, hb⟩
      replace hB4 := bnext hB4 hb
      replace KN := KN.next hb
      replace KZ := KZ.next hb
      clear hb HPM
      obtain ⟨z0, z1, z2, z3, z4, z5, z6, z7, z8, z9, f0, f1, f2, f3, f4, f5, f6, f7, f8, f9⟩ := KN.get10
      obtain ⟨y0, y1, y2, y3, y4, y5, y6, y7, y8, y9, t0, t1, t2, t3, t4, t5, t6, t7, t8, t9⟩ := KZ.get10
      go_wp2_with fail
      have hl4 : L.length = 4 := by rw [HL.out]; rfl
      obtain ⟨bl, off, hA, hbl, hcl⟩ := byt_at rL (k := 0) (by omega)
      subst hA
      have hb1 := seg_apart KN rL hl4
      have hb2 := seg_apart KZ rL hl4
      have HRL := Lib.hid ((rL.sets hb1 8 (.slice (some ⟨bl, off, none⟩) L.length cL)).setsAll hb2 (.int .u16 (q.toNat : Int)) (.int .u16 (p.toNat : Int)) (.int .u32 (vv.toNat : Int)) (.int .u32 (sq1.toNat : Int)) (.int .u8 0) (.int .u8 18) (.int .u16 65535) (.int .u16 0) (.slice (some ⟨bl, off, none⟩) L.length cL) (.slice none 0 0))
      have HBB := Lib.hid (bset10 (hB4.setCell (p := ⟨g, 8, none⟩) hgle (.slice (some ⟨bl, off, none⟩) L.length cL)) (show w.heap.size ≤ w.heap.size + 3 by omega) (.int .u16 (q.toNat : Int)) (.int .u16 (p.toNat : Int)) (.int .u32 (vv.toNat : Int)) (.int .u32 (sq1.toNat : Int)) (.int .u8 0) (.int .u8 18) (.int .u16 65535) (.int .u16 0) (.slice (some ⟨bl, off, none⟩) L.length cL) (.slice none 0 0))
      clear hl4 hcl hb1 hb2 rL KN KZ hB4
      simp [bodyPost, results, Tryd.results26, go_sem, *]
      exact ⟨L, _, _, ⟨rfl, rfl, rfl⟩, HL, HRL.out, HBB.out⟩
set_option maxHeartbeats 1000000 in
theorem paccept_f16 (lo hi lo2 hi2 : Nat) (h1 : lo < 18446744073709551616) (h2 : hi < 18446744073709551616) (h3 : lo2 < 18446744073709551616) (h4 : hi2 < 18446744073709551616) (ep : Int) (s d : UInt32) (p q : UInt16) (r : UInt8) (sa sb : UInt16) (sq sk : UInt32) (sr sf : UInt8) (sz su : UInt16) (A1 A2 : Option Addr) (n1 c1 n2 c2 : Nat) (H1f : hasB sf 16 = false) (w : World) :
    Calls Tryd.prog 23 #[.agg #[.int .u64 (lo : Int), .int .u64 (hi : Int), .int .u64 (lo2 : Int), .int .u64 (hi2 : Int), .int .i64 ep], .agg #[.int .u32 (s.toNat : Int), .int .u32 (d.toNat : Int), .int .u16 (p.toNat : Int), .int .u16 (q.toNat : Int), .int .u8 (r.toNat : Int)], .agg #[.int .u16 (sa.toNat : Int), .int .u16 (sb.toNat : Int), .int .u32 (sq.toNat : Int), .int .u32 (sk.toNat : Int), .int .u8 (sr.toNat : Int), .int .u8 (sf.toNat : Int), .int .u16 (sz.toNat : Int), .int .u16 (su.toNat : Int), .slice A1 n1 c1, .slice A2 n2 c2]] w fun e w' => e = .returned (.tuple #[.int .i64 0, .bool false]) ∧ Below w.heap.size w w' := by
  have H1 : ∀ W, Hid (Calls Tryd.prog 48 #[.agg #[.int .u16 (sa.toNat : Int), .int .u16 (sb.toNat : Int), .int .u32 (sq.toNat : Int), .int .u32 (sk.toNat : Int), .int .u8 (sr.toNat : Int), .int .u8 (sf.toNat : Int), .int .u16 (sz.toNat : Int), .int .u16 (su.toNat : Int), .slice A1 n1 c1, .slice A2 n2 c2], .int .u8 16] W fun e w' => e = .returned (.bool false) ∧ Below W.heap.size W w') := fun W => by
    have h := thas_any sa sb sq sk sr sf sz su A1 A2 n1 c1 n2 c2 16 W
    rw [H1f] at h
    exact h
  obtain ⟨V, hV⟩ : ∃ V, V = (((w.alloc (.cells #[.int .u64 (lo : Int), .int .u64 (hi : Int), .int .u64 (lo2 : Int), .int .u64 (hi2 : Int), .int .i64 ep] 36)).alloc (.cells #[.int .u32 (s.toNat : Int), .int .u32 (d.toNat : Int), .int .u16 (p.toNat : Int), .int .u16 (q.toNat : Int), .int .u8 (r.toNat : Int)] 28)).alloc (.cells #[.int .u16 (sa.toNat : Int), .int .u16 (sb.toNat : Int), .int .u32 (sq.toNat : Int), .int .u32 (sk.toNat : Int), .int .u8 (sr.toNat : Int), .int .u8 (sf.toNat : Int), .int .u16 (sz.toNat : Int), .int .u16 (su.toNat : Int), .slice A1 n1 c1, .slice A2 n2 c2] 44)) := ⟨_, rfl⟩
  have hB : Below w.heap.size w V := by subst hV; exact (bnextA (bnextA (bnextA (Below.refl _ _) _) _) _)
  have KS : Blk V (w.heap.size) [.int .u64 (lo : Int), .int .u64 (hi : Int), .int .u64 (lo2 : Int), .int .u64 (hi2 : Int), .int .i64 ep] 36 := by subst hV; simpa using ((Blk.new w #[.int .u64 (lo : Int), .int .u64 (hi : Int), .int .u64 (lo2 : Int), .int .u64 (hi2 : Int), .int .i64 ep] 36).alloc (.cells #[.int .u32 (s.toNat : Int), .int .u32 (d.toNat : Int), .int .u16 (p.toNat : Int), .int .u16 (q.toNat : Int), .int .u8 (r.toNat : Int)] 28)).alloc (.cells #[.int .u16 (sa.toNat : Int), .int .u16 (sb.toNat : Int), .int .u32 (sq.toNat : Int), .int .u32 (sk.toNat : Int), .int .u8 (sr.toNat : Int), .int .u8 (sf.toNat : Int), .int .u16 (sz.toNat : Int), .int .u16 (su.toNat : Int), .slice A1 n1 c1, .slice A2 n2 c2] 44)
  have KF : Blk V (w.heap.size + 1) [.int .u32 (s.toNat : Int), .int .u32 (d.toNat : Int), .int .u16 (p.toNat : Int), .int .u16 (q.toNat : Int), .int .u8 (r.toNat : Int)] 28 := by subst hV; simpa using (Blk.new (w.alloc (.cells #[.int .u64 (lo : Int), .int .u64 (hi : Int), .int .u64 (lo2 : Int), .int .u64 (hi2 : Int), .int .i64 ep] 36)) #[.int .u32 (s.toNat : Int), .int .u32 (d.toNat : Int), .int .u16 (p.toNat : Int), .int .u16 (q.toNat : Int), .int .u8 (r.toNat : Int)] 28).alloc (.cells #[.int .u16 (sa.toNat : Int), .int .u16 (sb.toNat : Int), .int .u32 (sq.toNat : Int), .int .u32 (sk.toNat : Int), .int .u8 (sr.toNat : Int), .int .u8 (sf.toNat : Int), .int .u16 (sz.toNat : Int), .int .u16 (su.toNat : Int), .slice A1 n1 c1, .slice A2 n2 c2] 44)
  have KG : Blk V (w.heap.size + 2) [.int .u16 (sa.toNat : Int), .int .u16 (sb.toNat : Int), .int .u32 (sq.toNat : Int), .int .u32 (sk.toNat : Int), .int .u8 (sr.toNat : Int), .int .u8 (sf.toNat : Int), .int .u16 (sz.toNat : Int), .int .u16 (su.toNat : Int), .slice A1 n1 c1, .slice A2 n2 c2] 44 := by subst hV; simpa using Blk.new ((w.alloc (.cells #[.int .u64 (lo : Int), .int .u64 (hi : Int), .int .u64 (lo2 : Int), .int .u64 (hi2 : Int), .int .i64 ep] 36)).alloc (.cells #[.int .u32 (s.toNat : Int), .int .u32 (d.toNat : Int), .int .u16 (p.toNat : Int), .int .u16 (q.toNat : Int), .int .u8 (r.toNat : Int)] 28)) #[.int .u16 (sa.toNat : Int), .int .u16 (sb.toNat : Int), .int .u32 (sq.toNat : Int), .int .u32 (sk.toNat : Int), .int .u8 (sr.toNat : Int), .int .u8 (sf.toNat : Int), .int .u16 (sz.toNat : Int), .int .u16 (su.toNat : Int), .slice A1 n1 c1, .slice A2 n2 c2] 44
  obtain ⟨z0, z1, z2, z3, z4, z5, z6, z7, z8, z9, -⟩ := KG.get10
  obtain ⟨k0, k1, k2, k3, k4, -⟩ := KS.get5
  obtain ⟨f0, f1, f2, f3, f4, -⟩ := KF.get5
  go_enter Tryd.func23, Tryd.ntmps23
  go_wp2_with fail
  rw [← hV]
  clear hV
  refine (H1 _).out.mono ?_
  rintro e w1 ⟨rfl, hb⟩
  replace hB := bnext hB hb
  replace KS := KS.next hb
  replace KF := KF.next hb
  replace KG := KG.next hb
  clear hb z0 z1 z2 z3 z4 z5 z6 z7 z8 z9 k0 k1 k2 k3 k4 f0 f1 f2 f3 f4
  obtain ⟨z0, z1, z2, z3, z4, z5, z6, z7, z8, z9, -⟩ := KG.get10
  obtain ⟨k0, k1, k2, k3, k4, -⟩ := KS.get5
  obtain ⟨f0, f1, f2, f3, f4, -⟩ := KF.get5
  go_wp2_with fail
  go_ret2
  exact ⟨rfl, hB⟩
set_option maxHeartbeats 1000000 in
theorem paccept_f2 (lo hi lo2 hi2 : Nat) (h1 : lo < 18446744073709551616) (h2 : hi < 18446744073709551616) (h3 : lo2 < 18446744073709551616) (h4 : hi2 < 18446744073709551616) (ep : Int) (s d : UInt32) (p q : UInt16) (r : UInt8) (sa sb : UInt16) (sq sk : UInt32) (sr sf : UInt8) (sz su : UInt16) (A1 A2 : Option Addr) (n1 c1 n2 c2 : Nat) (H1f : hasB sf 16 = true) (H2f : hasB sf 2 = true) (w : World) :
    Calls Tryd.prog 23 #[.agg #[.int .u64 (lo : Int), .int .u64 (hi : Int), .int .u64 (lo2 : Int), .int .u64 (hi2 : Int), .int .i64 ep], .agg #[.int .u32 (s.toNat : Int), .int .u32 (d.toNat : Int), .int .u16 (p.toNat : Int), .int .u16 (q.toNat : Int), .int .u8 (r.toNat : Int)], .agg #[.int .u16 (sa.toNat : Int), .int .u16 (sb.toNat : Int), .int .u32 (sq.toNat : Int), .int .u32 (sk.toNat : Int), .int .u8 (sr.toNat : Int), .int .u8 (sf.toNat : Int), .int .u16 (sz.toNat : Int), .int .u16 (su.toNat : Int), .slice A1 n1 c1, .slice A2 n2 c2]] w fun e w' => e = .returned (.tuple #[.int .i64 0, .bool false]) ∧ Below w.heap.size w w' := by
  have H1 : ∀ W, Hid (Calls Tryd.prog 48 #[.agg #[.int .u16 (sa.toNat : Int), .int .u16 (sb.toNat : Int), .int .u32 (sq.toNat : Int), .int .u32 (sk.toNat : Int), .int .u8 (sr.toNat : Int), .int .u8 (sf.toNat : Int), .int .u16 (sz.toNat : Int), .int .u16 (su.toNat : Int), .slice A1 n1 c1, .slice A2 n2 c2], .int .u8 16] W fun e w' => e = .returned (.bool true) ∧ Below W.heap.size W w') := fun W => by
    have h := thas_any sa sb sq sk sr sf sz su A1 A2 n1 c1 n2 c2 16 W
    rw [H1f] at h
    exact h
  have H2 : ∀ W, Hid (Calls Tryd.prog 48 #[.agg #[.int .u16 (sa.toNat : Int), .int .u16 (sb.toNat : Int), .int .u32 (sq.toNat : Int), .int .u32 (sk.toNat : Int), .int .u8 (sr.toNat : Int), .int .u8 (sf.toNat : Int), .int .u16 (sz.toNat : Int), .int .u16 (su.toNat : Int), .slice A1 n1 c1, .slice A2 n2 c2], .int .u8 2] W fun e w' => e = .returned (.bool true) ∧ Below W.heap.size W w') := fun W => by
    have h := thas_any sa sb sq sk sr sf sz su A1 A2 n1 c1 n2 c2 2 W
    rw [H2f] at h
    exact h
  obtain ⟨V, hV⟩ : ∃ V, V = (((w.alloc (.cells #[.int .u64 (lo : Int), .int .u64 (hi : Int), .int .u64 (lo2 : Int), .int .u64 (hi2 : Int), .int .i64 ep] 36)).alloc (.cells #[.int .u32 (s.toNat : Int), .int .u32 (d.toNat : Int), .int .u16 (p.toNat : Int), .int .u16 (q.toNat : Int), .int .u8 (r.toNat : Int)] 28)).alloc (.cells #[.int .u16 (sa.toNat : Int), .int .u16 (sb.toNat : Int), .int .u32 (sq.toNat : Int), .int .u32 (sk.toNat : Int), .int .u8 (sr.toNat : Int), .int .u8 (sf.toNat : Int), .int .u16 (sz.toNat : Int), .int .u16 (su.toNat : Int), .slice A1 n1 c1, .slice A2 n2 c2] 44)) := ⟨_, rfl⟩
  have hB : Below w.heap.size w V := by subst hV; exact (bnextA (bnextA (bnextA (Below.refl _ _) _) _) _)
  have KS : Blk V (w.heap.size) [.int .u64 (lo : Int), .int .u64 (hi : Int), .int .u64 (lo2 : Int), .int .u64 (hi2 : Int), .int .i64 ep] 36 := by subst hV; simpa using ((Blk.new w #[.int .u64 (lo : Int), .int .u64 (hi : Int), .int .u64 (lo2 : Int), .int .u64 (hi2 : Int), .int .i64 ep] 36).alloc (.cells #[.int .u32 (s.toNat : Int), .int .u32 (d.toNat : Int), .int .u16 (p.toNat : Int), .int .u16 (q.toNat : Int), .int .u8 (r.toNat : Int)] 28)).alloc (.cells #[.int .u16 (sa.toNat : Int), .int .u16 (sb.toNat : Int), .int .u32 (sq.toNat : Int), .int .u32 (sk.toNat : Int), .int .u8 (sr.toNat : Int), .int .u8 (sf.toNat : Int), .int .u16 (sz.toNat : Int), .int .u16 (su.toNat : Int), .slice A1 n1 c1, .slice A2 n2 c2] 44)
  have KF : Blk V (w.heap.size + 1) [.int .u32 (s.toNat : Int), .int .u32 (d.toNat : Int), .int .u16 (p.toNat : Int), .int .u16 (q.toNat : Int), .int .u8 (r.toNat : Int)] 28 := by subst hV; simpa using (Blk.new (w.alloc (.cells #[.int .u64 (lo : Int), .int .u64 (hi : Int), .int .u64 (lo2 : Int), .int .u64 (hi2 : Int), .int .i64 ep] 36)) #[.int .u32 (s.toNat : Int), .int .u32 (d.toNat : Int), .int .u16 (p.toNat : Int), .int .u16 (q.toNat : Int), .int .u8 (r.toNat : Int)] 28).alloc (.cells #[.int .u16 (sa.toNat : Int), .int .u16 (sb.toNat : Int), .int .u32 (sq.toNat : Int), .int .u32 (sk.toNat : Int), .int .u8 (sr.toNat : Int), .int .u8 (sf.toNat : Int), .int .u16 (sz.toNat : Int), .int .u16 (su.toNat : Int), .slice A1 n1 c1, .slice A2 n2 c2] 44)
  have KG : Blk V (w.heap.size + 2) [.int .u16 (sa.toNat : Int), .int .u16 (sb.toNat : Int), .int .u32 (sq.toNat : Int), .int .u32 (sk.toNat : Int), .int .u8 (sr.toNat : Int), .int .u8 (sf.toNat : Int), .int .u16 (sz.toNat : Int), .int .u16 (su.toNat : Int), .slice A1 n1 c1, .slice A2 n2 c2] 44 := by subst hV; simpa using Blk.new ((w.alloc (.cells #[.int .u64 (lo : Int), .int .u64 (hi : Int), .int .u64 (lo2 : Int), .int .u64 (hi2 : Int), .int .i64 ep] 36)).alloc (.cells #[.int .u32 (s.toNat : Int), .int .u32 (d.toNat : Int), .int .u16 (p.toNat : Int), .int .u16 (q.toNat : Int), .int .u8 (r.toNat : Int)] 28)) #[.int .u16 (sa.toNat : Int), .int .u16 (sb.toNat : Int), .int .u32 (sq.toNat : Int), .int .u32 (sk.toNat : Int), .int .u8 (sr.toNat : Int), .int .u8 (sf.toNat : Int), .int .u16 (sz.toNat : Int), .int .u16 (su.toNat : Int), .slice A1 n1 c1, .slice A2 n2 c2] 44
  obtain ⟨z0, z1, z2, z3, z4, z5, z6, z7, z8, z9, -⟩ := KG.get10
  obtain ⟨k0, k1, k2, k3, k4, -⟩ := KS.get5
  obtain ⟨f0, f1, f2, f3, f4, -⟩ := KF.get5
  go_enter Tryd.func23, Tryd.ntmps23
  go_wp2_with fail
  rw [← hV]
  clear hV
  refine (H1 _).out.mono ?_
  rintro e w1 ⟨rfl, hb⟩
  replace hB := bnext hB hb
  replace KS := KS.next hb
  replace KF := KF.next hb
  replace KG := KG.next hb
  clear hb z0 z1 z2 z3 z4 z5 z6 z7 z8 z9 k0 k1 k2 k3 k4 f0 f1 f2 f3 f4
  obtain ⟨z0, z1, z2, z3, z4, z5, z6, z7, z8, z9, -⟩ := KG.get10
  obtain ⟨k0, k1, k2, k3, k4, -⟩ := KS.get5
  obtain ⟨f0, f1, f2, f3, f4, -⟩ := KF.get5
  go_wp2_with fail
  refine (H2 _).out.mono ?_
  rintro e w1 ⟨rfl, hb⟩
  replace hB := bnext hB hb
  replace KS := KS.next hb
  replace KF := KF.next hb
  replace KG := KG.next hb
  clear hb z0 z1 z2 z3 z4 z5 z6 z7 z8 z9 k0 k1 k2 k3 k4 f0 f1 f2 f3 f4
  obtain ⟨z0, z1, z2, z3, z4, z5, z6, z7, z8, z9, -⟩ := KG.get10
  obtain ⟨k0, k1, k2, k3, k4, -⟩ := KS.get5
  obtain ⟨f0, f1, f2, f3, f4, -⟩ := KF.get5
  go_wp2_with fail
  go_ret2
  exact ⟨rfl, hB⟩
set_option maxHeartbeats 1000000 in
theorem paccept_f4 (lo hi lo2 hi2 : Nat) (h1 : lo < 18446744073709551616) (h2 : hi < 18446744073709551616) (h3 : lo2 < 18446744073709551616) (h4 : hi2 < 18446744073709551616) (ep : Int) (s d : UInt32) (p q : UInt16) (r : UInt8) (sa sb : UInt16) (sq sk : UInt32) (sr sf : UInt8) (sz su : UInt16) (A1 A2 : Option Addr) (n1 c1 n2 c2 : Nat) (H1f : hasB sf 16 = true) (H2f : hasB sf 2 = false) (H3f : hasB sf 4 = true) (w : World) :
    Calls Tryd.prog 23 #[.agg #[.int .u64 (lo : Int), .int .u64 (hi : Int), .int .u64 (lo2 : Int), .int .u64 (hi2 : Int), .int .i64 ep], .agg #[.int .u32 (s.toNat : Int), .int .u32 (d.toNat : Int), .int .u16 (p.toNat : Int), .int .u16 (q.toNat : Int), .int .u8 (r.toNat : Int)], .agg #[.int .u16 (sa.toNat : Int), .int .u16 (sb.toNat : Int), .int .u32 (sq.toNat : Int), .int .u32 (sk.toNat : Int), .int .u8 (sr.toNat : Int), .int .u8 (sf.toNat : Int), .int .u16 (sz.toNat : Int), .int .u16 (su.toNat : Int), .slice A1 n1 c1, .slice A2 n2 c2]] w fun e w' => e = .returned (.tuple #[.int .i64 0, .bool false]) ∧ Below w.heap.size w w' := by
  have H1 : ∀ W, Hid (Calls Tryd.prog 48 #[.agg #[.int .u16 (sa.toNat : Int), .int .u16 (sb.toNat : Int), .int .u32 (sq.toNat : Int), .int .u32 (sk.toNat : Int), .int .u8 (sr.toNat : Int), .int .u8 (sf.toNat : Int), .int .u16 (sz.toNat : Int), .int .u16 (su.toNat : Int), .slice A1 n1 c1, .slice A2 n2 c2], .int .u8 16] W fun e w' => e = .returned (.bool true) ∧ Below W.heap.size W w') := fun W => by
    have h := thas_any sa sb sq sk sr sf sz su A1 A2 n1 c1 n2 c2 16 W
    rw [H1f] at h
    exact h
  have H2 : ∀ W, Hid (Calls Tryd.prog 48 #[.agg #[.int .u16 (sa.toNat : Int), .int .u16 (sb.toNat : Int), .int .u32 (sq.toNat : Int), .int .u32 (sk.toNat : Int), .int .u8 (sr.toNat : Int), .int .u8 (sf.toNat : Int), .int .u16 (sz.toNat : Int), .int .u16 (su.toNat : Int), .slice A1 n1 c1, .slice A2 n2 c2], .int .u8 2] W fun e w' => e = .returned (.bool false) ∧ Below W.heap.size W w') := fun W => by
    have h := thas_any sa sb sq sk sr sf sz su A1 A2 n1 c1 n2 c2 2 W
    rw [H2f] at h
    exact h
  have H3 : ∀ W, Hid (Calls Tryd.prog 48 #[.agg #[.int .u16 (sa.toNat : Int), .int .u16 (sb.toNat : Int), .int .u32 (sq.toNat : Int), .int .u32 (sk.toNat : Int), .int .u8 (sr.toNat : Int), .int .u8 (sf.toNat : Int), .int .u16 (sz.toNat : Int), .int .u16 (su.toNat : Int), .slice A1 n1 c1, .slice A2 n2 c2], .int .u8 4] W fun e w' => e = .returned (.bool true) ∧ Below W.heap.size W w') := fun W => by
    have h := thas_any sa sb sq sk sr sf sz su A1 A2 n1 c1 n2 c2 4 W
    rw [H3f] at h
    exact h
  obtain ⟨V, hV⟩ : ∃ V, V = (((w.alloc (.cells #[.int .u64 (lo : Int), .int .u64 (hi : Int), .int .u64 (lo2 : Int), .int .u64 (hi2 : Int), .int .i64 ep] 36)).alloc (.cells #[.int .u32 (s.toNat : Int), .int .u32 (d.toNat : Int), .int .u16 (p.toNat : Int), .int .u16 (q.toNat : Int), .int .u8 (r.toNat : Int)] 28)).alloc (.cells #[.int .u16 (sa.toNat : Int), .int .u16 (sb.toNat : Int), .int .u32 (sq.toNat : Int), .int .u32 (sk.toNat : Int), .int .u8 (sr.toNat : Int), .int .u8 (sf.toNat : Int), .int .u16 (sz.toNat : Int), .int .u16 (su.toNat : Int), .slice A1 n1 c1, .slice A2 n2 c2] 44)) := ⟨_, rfl⟩
  have hB : Below w.heap.size w V := by subst hV; exact (bnextA (bnextA (bnextA (Below.refl _ _) _) _) _)
  have KS : Blk V (w.heap.size) [.int .u64 (lo : Int), .int .u64 (hi : Int), .int .u64 (lo2 : Int), .int .u64 (hi2 : Int), .int .i64 ep] 36 := by subst hV; simpa using ((Blk.new w #[.int .u64 (lo : Int), .int .u64 (hi : Int), .int .u64 (lo2 : Int), .int .u64 (hi2 : Int), .int .i64 ep] 36).alloc (.cells #[.int .u32 (s.toNat : Int), .int .u32 (d.toNat : Int), .int .u16 (p.toNat : Int), .int .u16 (q.toNat : Int), .int .u8 (r.toNat : Int)] 28)).alloc (.cells #[.int .u16 (sa.toNat : Int), .int .u16 (sb.toNat : Int), .int .u32 (sq.toNat : Int), .int .u32 (sk.toNat : Int), .int .u8 (sr.toNat : Int), .int .u8 (sf.toNat : Int), .int .u16 (sz.toNat : Int), .int .u16 (su.toNat : Int), .slice A1 n1 c1, .slice A2 n2 c2] 44)
  have KF : Blk V (w.heap.size + 1) [.int .u32 (s.toNat : Int), .int .u32 (d.toNat : Int), .int .u16 (p.toNat : Int), .int .u16 (q.toNat : Int), .int .u8 (r.toNat : Int)] 28 := by subst hV; simpa using (Blk.new (w.alloc (.cells #[.int .u64 (lo : Int), .int .u64 (hi : Int), .int .u64 (lo2 : Int), .int .u64 (hi2 : Int), .int .i64 ep] 36)) #[.int .u32 (s.toNat : Int), .int .u32 (d.toNat : Int), .int .u16 (p.toNat : Int), .int .u16 (q.toNat : Int), .int .u8 (r.toNat : Int)] 28).alloc (.cells #[.int .u16 (sa.toNat : Int), .int .u16 (sb.toNat : Int), .int .u32 (sq.toNat : Int), .int .u32 (sk.toNat : Int), .int .u8 (sr.toNat : Int), .int .u8 (sf.toNat : Int), .int .u16 (sz.toNat : Int), .int .u16 (su.toNat : Int), .slice A1 n1 c1, .slice A2 n2 c2] 44)
  have KG : Blk V (w.heap.size + 2) [.int .u16 (sa.toNat : Int), .int .u16 (sb.toNat : Int), .int .u32 (sq.toNat : Int), .int .u32 (sk.toNat : Int), .int .u8 (sr.toNat : Int), .int .u8 (sf.toNat : Int), .int .u16 (sz.toNat : Int), .int .u16 (su.toNat : Int), .slice A1 n1 c1, .slice A2 n2 c2] 44 := by subst hV; simpa using Blk.new ((w.alloc (.cells #[.int .u64 (lo : Int), .int .u64 (hi : Int), .int .u64 (lo2 : Int), .int .u64 (hi2 : Int), .int .i64 ep] 36)).alloc (.cells #[.int .u32 (s.toNat : Int), .int .u32 (d.toNat : Int), .int .u16 (p.toNat : Int), .int .u16 (q.toNat : Int), .int .u8 (r.toNat : Int)] 28)) #[.int .u16 (sa.toNat : Int), .int .u16 (sb.toNat : Int), .int .u32 (sq.toNat : Int), .int .u32 (sk.toNat : Int), .int .u8 (sr.toNat : Int), .int .u8 (sf.toNat : Int), .int .u16 (sz.toNat : Int), .int .u16 (su.toNat : Int), .slice A1 n1 c1, .slice A2 n2 c2] 44
  obtain ⟨z0, z1, z2, z3, z4, z5, z6, z7, z8, z9, -⟩ := KG.get10
  obtain ⟨k0, k1, k2, k3, k4, -⟩ := KS.get5
  obtain ⟨f0, f1, f2, f3, f4, -⟩ := KF.get5
  go_enter Tryd.func23, Tryd.ntmps23
  go_wp2_with fail
  rw [← hV]
  clear hV
  refine (H1 _).out.mono ?_
  rintro e w1 ⟨rfl, hb⟩
  replace hB := bnext hB hb
  replace KS := KS.next hb
  replace KF := KF.next hb
  replace KG := KG.next hb
  clear hb z0 z1 z2 z3 z4 z5 z6 z7 z8 z9 k0 k1 k2 k3 k4 f0 f1 f2 f3 f4
  obtain ⟨z0, z1, z2, z3, z4, z5, z6, z7, z8, z9, -⟩ := KG.get10
  obtain ⟨k0, k1, k2, k3, k4, -⟩ := KS.get5
  obtain ⟨f0, f1, f2, f3, f4, -⟩ := KF.get5
  go_wp2_with fail
  refine (H2 _).out.mono ?_
  rintro e w1 ⟨rfl, hb⟩
  replace hB := bnext hB hb
  replace KS := KS.next hb
  replace KF := KF.next hb
  replace KG := KG.next hb
  clear hb z0 z1 z2 z3 z4 z5 z6 z7 z8 z9 k0 k1 k2 k3 k4 f0 f1 f2 f3 f4
  obtain ⟨z0, z1, z2, z3, z4, z5, z6, z7, z8, z9, -⟩ := KG.get10
  obtain ⟨k0, k1, k2, k3, k4, -⟩ := KS.get5
  obtain ⟨f0, f1, f2, f3, f4, -⟩ := KF.get5
  go_wp2_with fail
  refine (H3 _).out.mono ?_
  rintro e w1 ⟨rfl, hb⟩
  replace hB := bnext hB hb
  replace KS := KS.next hb
  replace KF := KF.next hb
  replace KG := KG.next hb
  clear hb z0 z1 z2 z3 z4 z5 z6 z7 z8 z9 k0 k1 k2 k3 k4 f0 f1 f2 f3 f4
  obtain ⟨z0, z1, z2, z3, z4, z5, z6, z7, z8, z9, -⟩ := KG.get10
  obtain ⟨k0, k1, k2, k3, k4, -⟩ := KS.get5
  obtain ⟨f0, f1, f2, f3, f4, -⟩ := KF.get5
  go_wp2_with fail
  go_ret2
  exact ⟨rfl, hB⟩
set_option maxHeartbeats 1000000 in
theorem paccept_r (lo hi lo2 hi2 : Nat) (h1 : lo < 18446744073709551616) (h2 : hi < 18446744073709551616) (h3 : lo2 < 18446744073709551616) (h4 : hi2 < 18446744073709551616) (ep : Int) (s d : UInt32) (p q : UInt16) (r : UInt8) (sa sb : UInt16) (sq sk : UInt32) (sr sf : UInt8) (sz su : UInt16) (A1 A2 : Option Addr) (n1 c1 n2 c2 : Nat) (H1f : hasB sf 16 = true) (H2f : hasB sf 2 = false) (H3f : hasB sf 4 = false) (sq0 : UInt32) (hq0 : ((sq.toNat : Int) - 1) % 4294967296 = (sq0.toNat : Int)) (y : Nat) (hy : ((sk.toNat : Int) - 1) % 4294967296 = (y : Int)) (hyl : y < 4294967296) (hep : ep ≤ 9223372036854775807) (b : Bool) (hbf : b = false) (hb0 : Hid (rightB lo hi lo2 hi2 ep (ckB s d p q r sq0) y = b)) (w : World) :
    Calls Tryd.prog 23 #[.agg #[.int .u64 (lo : Int), .int .u64 (hi : Int), .int .u64 (lo2 : Int), .int .u64 (hi2 : Int), .int .i64 ep], .agg #[.int .u32 (s.toNat : Int), .int .u32 (d.toNat : Int), .int .u16 (p.toNat : Int), .int .u16 (q.toNat : Int), .int .u8 (r.toNat : Int)], .agg #[.int .u16 (sa.toNat : Int), .int .u16 (sb.toNat : Int), .int .u32 (sq.toNat : Int), .int .u32 (sk.toNat : Int), .int .u8 (sr.toNat : Int), .int .u8 (sf.toNat : Int), .int .u16 (sz.toNat : Int), .int .u16 (su.toNat : Int), .slice A1 n1 c1, .slice A2 n2 c2]] w fun e w' => e = .returned (.tuple #[.int .i64 0, .bool false]) ∧ Below w.heap.size w w' := by
  have H1 : ∀ W, Hid (Calls Tryd.prog 48 #[.agg #[.int .u16 (sa.toNat : Int), .int .u16 (sb.toNat : Int), .int .u32 (sq.toNat : Int), .int .u32 (sk.toNat : Int), .int .u8 (sr.toNat : Int), .int .u8 (sf.toNat : Int), .int .u16 (sz.toNat : Int), .int .u16 (su.toNat : Int), .slice A1 n1 c1, .slice A2 n2 c2], .int .u8 16] W fun e w' => e = .returned (.bool true) ∧ Below W.heap.size W w') := fun W => by
    have h := thas_any sa sb sq sk sr sf sz su A1 A2 n1 c1 n2 c2 16 W
    rw [H1f] at h
    exact h
  have H2 : ∀ W, Hid (Calls Tryd.prog 48 #[.agg #[.int .u16 (sa.toNat : Int), .int .u16 (sb.toNat : Int), .int .u32 (sq.toNat : Int), .int .u32 (sk.toNat : Int), .int .u8 (sr.toNat : Int), .int .u8 (sf.toNat : Int), .int .u16 (sz.toNat : Int), .int .u16 (su.toNat : Int), .slice A1 n1 c1, .slice A2 n2 c2], .int .u8 2] W fun e w' => e = .returned (.bool false) ∧ Below W.heap.size W w') := fun W => by
    have h := thas_any sa sb sq sk sr sf sz su A1 A2 n1 c1 n2 c2 2 W
    rw [H2f] at h
    exact h
  have H3 : ∀ W, Hid (Calls Tryd.prog 48 #[.agg #[.int .u16 (sa.toNat : Int), .int .u16 (sb.toNat : Int), .int .u32 (sq.toNat : Int), .int .u32 (sk.toNat : Int), .int .u8 (sr.toNat : Int), .int .u8 (sf.toNat : Int), .int .u16 (sz.toNat : Int), .int .u16 (su.toNat : Int), .slice A1 n1 c1, .slice A2 n2 c2], .int .u8 4] W fun e w' => e = .returned (.bool false) ∧ Below W.heap.size W w') := fun W => by
    have h := thas_any sa sb sq sk sr sf sz su A1 A2 n1 c1 n2 c2 4 W
    rw [H3f] at h
    exact h
  have e1 : ((sq.toNat : Int) - 1) % 4294967296 = (sq0.toNat : Int) := hq0
  have e2 : ((sk.toNat : Int) - 1) % 4294967296 = (y : Int) := hy
  have HRT := fun W => Lib.hid (cright_any lo hi lo2 hi2 ep h1 h2 h3 h4 hep s d p q r sq0 y hyl b hb0 W)
  clear hq0 hy hb0 hep
  subst hbf
  obtain ⟨V, hV⟩ : ∃ V, V = (((w.alloc (.cells #[.int .u64 (lo : Int), .int .u64 (hi : Int), .int .u64 (lo2 : Int), .int .u64 (hi2 : Int), .int .i64 ep] 36)).alloc (.cells #[.int .u32 (s.toNat : Int), .int .u32 (d.toNat : Int), .int .u16 (p.toNat : Int), .int .u16 (q.toNat : Int), .int .u8 (r.toNat : Int)] 28)).alloc (.cells #[.int .u16 (sa.toNat : Int), .int .u16 (sb.toNat : Int), .int .u32 (sq.toNat : Int), .int .u32 (sk.toNat : Int), .int .u8 (sr.toNat : Int), .int .u8 (sf.toNat : Int), .int .u16 (sz.toNat : Int), .int .u16 (su.toNat : Int), .slice A1 n1 c1, .slice A2 n2 c2] 44)) := ⟨_, rfl⟩
  have hB : Below w.heap.size w V := by subst hV; exact (bnextA (bnextA (bnextA (Below.refl _ _) _) _) _)
  have KS : Blk V (w.heap.size) [.int .u64 (lo : Int), .int .u64 (hi : Int), .int .u64 (lo2 : Int), .int .u64 (hi2 : Int), .int .i64 ep] 36 := by subst hV; simpa using ((Blk.new w #[.int .u64 (lo : Int), .int .u64 (hi : Int), .int .u64 (lo2 : Int), .int .u64 (hi2 : Int), .int .i64 ep] 36).alloc (.cells #[.int .u32 (s.toNat : Int), .int .u32 (d.toNat : Int), .int .u16 (p.toNat : Int), .int .u16 (q.toNat : Int), .int .u8 (r.toNat : Int)] 28)).alloc (.cells #[.int .u16 (sa.toNat : Int), .int .u16 (sb.toNat : Int), .int .u32 (sq.toNat : Int), .int .u32 (sk.toNat : Int), .int .u8 (sr.toNat : Int), .int .u8 (sf.toNat : Int), .int .u16 (sz.toNat : Int), .int .u16 (su.toNat : Int), .slice A1 n1 c1, .slice A2 n2 c2] 44)
  have KF : Blk V (w.heap.size + 1) [.int .u32 (s.toNat : Int), .int .u32 (d.toNat : Int), .int .u16 (p.toNat : Int), .int .u16 (q.toNat : Int), .int .u8 (r.toNat : Int)] 28 := by subst hV; simpa using (Blk.new (w.alloc (.cells #[.int .u64 (lo : Int), .int .u64 (hi : Int), .int .u64 (lo2 : Int), .int .u64 (hi2 : Int), .int .i64 ep] 36)) #[.int .u32 (s.toNat : Int), .int .u32 (d.toNat : Int), .int .u16 (p.toNat : Int), .int .u16 (q.toNat : Int), .int .u8 (r.toNat : Int)] 28).alloc (.cells #[.int .u16 (sa.toNat : Int), .int .u16 (sb.toNat : Int), .int .u32 (sq.toNat : Int), .int .u32 (sk.toNat : Int), .int .u8 (sr.toNat : Int), .int .u8 (sf.toNat : Int), .int .u16 (sz.toNat : Int), .int .u16 (su.toNat : Int), .slice A1 n1 c1, .slice A2 n2 c2] 44)
  have KG : Blk V (w.heap.size + 2) [.int .u16 (sa.toNat : Int), .int .u16 (sb.toNat : Int), .int .u32 (sq.toNat : Int), .int .u32 (sk.toNat : Int), .int .u8 (sr.toNat : Int), .int .u8 (sf.toNat : Int), .int .u16 (sz.toNat : Int), .int .u16 (su.toNat : Int), .slice A1 n1 c1, .slice A2 n2 c2] 44 := by subst hV; simpa using Blk.new ((w.alloc (.cells #[.int .u64 (lo : Int), .int .u64 (hi : Int), .int .u64 (lo2 : Int), .int .u64 (hi2 : Int), .int .i64 ep] 36)).alloc (.cells #[.int .u32 (s.toNat : Int), .int .u32 (d.toNat : Int), .int .u16 (p.toNat : Int), .int .u16 (q.toNat : Int), .int .u8 (r.toNat : Int)] 28)) #[.int .u16 (sa.toNat : Int), .int .u16 (sb.toNat : Int), .int .u32 (sq.toNat : Int), .int .u32 (sk.toNat : Int), .int .u8 (sr.toNat : Int), .int .u8 (sf.toNat : Int), .int .u16 (sz.toNat : Int), .int .u16 (su.toNat : Int), .slice A1 n1 c1, .slice A2 n2 c2] 44
  obtain ⟨z0, z1, z2, z3, z4, z5, z6, z7, z8, z9, -⟩ := KG.get10
  obtain ⟨k0, k1, k2, k3, k4, -⟩ := KS.get5
  obtain ⟨f0, f1, f2, f3, f4, -⟩ := KF.get5
  go_enter Tryd.func23, Tryd.ntmps23
  go_wp2_with fail
  rw [← hV]
  clear hV
  refine (H1 _).out.mono ?_
  rintro e w1 ⟨rfl, hb⟩
  replace hB := bnext hB hb
  replace KS := KS.next hb
  replace KF := KF.next hb
  replace KG := KG.next hb
  clear hb z0 z1 z2 z3 z4 z5 z6 z7 z8 z9 k0 k1 k2 k3 k4 f0 f1 f2 f3 f4
  obtain ⟨z0, z1, z2, z3, z4, z5, z6, z7, z8, z9, -⟩ := KG.get10
  obtain ⟨k0, k1, k2, k3, k4, -⟩ := KS.get5
  obtain ⟨f0, f1, f2, f3, f4, -⟩ := KF.get5
  go_wp2_with fail
  refine (H2 _).out.mono ?_
  rintro e w1 ⟨rfl, hb⟩
  replace hB := bnext hB hb
  replace KS := KS.next hb
  replace KF := KF.next hb
  replace KG := KG.next hb
  clear hb z0 z1 z2 z3 z4 z5 z6 z7 z8 z9 k0 k1 k2 k3 k4 f0 f1 f2 f3 f4
  obtain ⟨z0, z1, z2, z3, z4, z5, z6, z7, z8, z9, -⟩ := KG.get10
  obtain ⟨k0, k1, k2, k3, k4, -⟩ := KS.get5
  obtain ⟨f0, f1, f2, f3, f4, -⟩ := KF.get5
  go_wp2_with fail
  refine (H3 _).out.mono ?_
  rintro e w1 ⟨rfl, hb⟩
  replace hB := bnext hB hb
  replace KS := KS.next hb
  replace KF := KF.next hb
  replace KG := KG.next hb
  clear hb z0 z1 z2 z3 z4 z5 z6 z7 z8 z9 k0 k1 k2 k3 k4 f0 f1 f2 f3 f4
  obtain ⟨z0, z1, z2, z3, z4, z5, z6, z7, z8, z9, -⟩ := KG.get10
  obtain ⟨k0, k1, k2, k3, k4, -⟩ := KS.get5
  obtain ⟨f0, f1, f2, f3, f4, -⟩ := KF.get5
  go_wp2_with fail
  refine (HRT _).out.mono ?_
  rintro e w1 ⟨rfl, hb⟩
  replace hB := bnext hB hb
  replace KS := KS.next hb
  replace KF := KF.next hb
  replace KG := KG.next hb
  clear hb z0 z1 z2 z3 z4 z5 z6 z7 z8 z9 k0 k1 k2 k3 k4 f0 f1 f2 f3 f4
  obtain ⟨z0, z1, z2, z3, z4, z5, z6, z7, z8, z9, -⟩ := KG.get10
  obtain ⟨k0, k1, k2, k3, k4, -⟩ := KS.get5
  obtain ⟨f0, f1, f2, f3, f4, -⟩ := KF.get5
  go_wp2_with fail
  go_ret2
  exact ⟨rfl, hB⟩
set_option maxHeartbeats 1000000 in
theorem paccept_ok (lo hi lo2 hi2 : Nat) (h1 : lo < 18446744073709551616) (h2 : hi < 18446744073709551616) (h3 : lo2 < 18446744073709551616) (h4 : hi2 < 18446744073709551616) (ep : Int) (s d : UInt32) (p q : UInt16) (r : UInt8) (sa sb : UInt16) (sq sk : UInt32) (sr sf : UInt8) (sz su : UInt16) (A1 A2 : Option Addr) (n1 c1 n2 c2 : Nat) (H1f : hasB sf 16 = true) (H2f : hasB sf 2 = false) (H3f : hasB sf 4 = false) (sq0 : UInt32) (hq0 : ((sq.toNat : Int) - 1) % 4294967296 = (sq0.toNat : Int)) (y : Nat) (hy : ((sk.toNat : Int) - 1) % 4294967296 = (y : Int)) (hyl : y < 4294967296) (hep : ep ≤ 9223372036854775807) (b : Bool) (hbf : b = true) (hb0 : Hid (rightB lo hi lo2 hi2 ep (ckB s d p q r sq0) y = b)) (w : World) :
    Calls Tryd.prog 23 #[.agg #[.int .u64 (lo : Int), .int .u64 (hi : Int), .int .u64 (lo2 : Int), .int .u64 (hi2 : Int), .int .i64 ep], .agg #[.int .u32 (s.toNat : Int), .int .u32 (d.toNat : Int), .int .u16 (p.toNat : Int), .int .u16 (q.toNat : Int), .int .u8 (r.toNat : Int)], .agg #[.int .u16 (sa.toNat : Int), .int .u16 (sb.toNat : Int), .int .u32 (sq.toNat : Int), .int .u32 (sk.toNat : Int), .int .u8 (sr.toNat : Int), .int .u8 (sf.toNat : Int), .int .u16 (sz.toNat : Int), .int .u16 (su.toNat : Int), .slice A1 n1 c1, .slice A2 n2 c2]] w fun e w' => e = .returned (.tuple #[.int .i64 ((y / 16777216 % 8 : Nat) : Int), .bool true]) ∧ Below w.heap.size w w' := by
  have H1 : ∀ W, Hid (Calls Tryd.prog 48 #[.agg #[.int .u16 (sa.toNat : Int), .int .u16 (sb.toNat : Int), .int .u32 (sq.toNat : Int), .int .u32 (sk.toNat : Int), .int .u8 (sr.toNat : Int), .int .u8 (sf.toNat : Int), .int .u16 (sz.toNat : Int), .int .u16 (su.toNat : Int), .slice A1 n1 c1, .slice A2 n2 c2], .int .u8 16] W fun e w' => e = .returned (.bool true) ∧ Below W.heap.size W w') := fun W => by
    have h := thas_any sa sb sq sk sr sf sz su A1 A2 n1 c1 n2 c2 16 W
    rw [H1f] at h
    exact h
  have H2 : ∀ W, Hid (Calls Tryd.prog 48 #[.agg #[.int .u16 (sa.toNat : Int), .int .u16 (sb.toNat : Int), .int .u32 (sq.toNat : Int), .int .u32 (sk.toNat : Int), .int .u8 (sr.toNat : Int), .int .u8 (sf.toNat : Int), .int .u16 (sz.toNat : Int), .int .u16 (su.toNat : Int), .slice A1 n1 c1, .slice A2 n2 c2], .int .u8 2] W fun e w' => e = .returned (.bool false) ∧ Below W.heap.size W w') := fun W => by
    have h := thas_any sa sb sq sk sr sf sz su A1 A2 n1 c1 n2 c2 2 W
    rw [H2f] at h
    exact h
  have H3 : ∀ W, Hid (Calls Tryd.prog 48 #[.agg #[.int .u16 (sa.toNat : Int), .int .u16 (sb.toNat : Int), .int .u32 (sq.toNat : Int), .int .u32 (sk.toNat : Int), .int .u8 (sr.toNat : Int), .int .u8 (sf.toNat : Int), .int .u16 (sz.toNat : Int), .int .u16 (su.toNat : Int), .slice A1 n1 c1, .slice A2 n2 c2], .int .u8 4] W fun e w' => e = .returned (.bool false) ∧ Below W.heap.size W w') := fun W => by
    have h := thas_any sa sb sq sk sr sf sz su A1 A2 n1 c1 n2 c2 4 W
    rw [H3f] at h
    exact h
  have e1 : ((sq.toNat : Int) - 1) % 4294967296 = (sq0.toNat : Int) := hq0
  have e2 : ((sk.toNat : Int) - 1) % 4294967296 = (y : Int) := hy
  have HRT := fun W => Lib.hid (cright_any lo hi lo2 hi2 ep h1 h2 h3 h4 hep s d p q r sq0 y hyl b hb0 W)
  clear hq0 hy hb0 hep
  subst hbf
  obtain ⟨V, hV⟩ : ∃ V, V = (((w.alloc (.cells #[.int .u64 (lo : Int), .int .u64 (hi : Int), .int .u64 (lo2 : Int), .int .u64 (hi2 : Int), .int .i64 ep] 36)).alloc (.cells #[.int .u32 (s.toNat : Int), .int .u32 (d.toNat : Int), .int .u16 (p.toNat : Int), .int .u16 (q.toNat : Int), .int .u8 (r.toNat : Int)] 28)).alloc (.cells #[.int .u16 (sa.toNat : Int), .int .u16 (sb.toNat : Int), .int .u32 (sq.toNat : Int), .int .u32 (sk.toNat : Int), .int .u8 (sr.toNat : Int), .int .u8 (sf.toNat : Int), .int .u16 (sz.toNat : Int), .int .u16 (su.toNat : Int), .slice A1 n1 c1, .slice A2 n2 c2] 44)) := ⟨_, rfl⟩
  have hB : Below w.heap.size w V := by subst hV; exact (bnextA (bnextA (bnextA (Below.refl _ _) _) _) _)
  have KS : Blk V (w.heap.size) [.int .u64 (lo : Int), .int .u64 (hi : Int), .int .u64 (lo2 : Int), .int .u64 (hi2 : Int), .int .i64 ep] 36 := by subst hV; simpa using ((Blk.new w #[.int .u64 (lo : Int), .int .u64 (hi : Int), .int .u64 (lo2 : Int), .int .u64 (hi2 : Int), .int .i64 ep] 36).alloc (.cells #[.int .u32 (s.toNat : Int), .int .u32 (d.toNat : Int), .int .u16 (p.toNat : Int), .int .u16 (q.toNat : Int), .int .u8 (r.toNat : Int)] 28)).alloc (.cells #[.int .u16 (sa.toNat : Int), .int .u16 (sb.toNat : Int), .int .u32 (sq.toNat : Int), .int .u32 (sk.toNat : Int), .int .u8 (sr.toNat : Int), .int .u8 (sf.toNat : Int), .int .u16 (sz.toNat : Int), .int .u16 (su.toNat : Int), .slice A1 n1 c1, .slice A2 n2 c2] 44)
  have KF : Blk V (w.heap.size + 1) [.int .u32 (s.toNat : Int), .int .u32 (d.toNat : Int), .int .u16 (p.toNat : Int), .int .u16 (q.toNat : Int), .int .u8 (r.toNat : Int)] 28 := by subst hV; simpa using (Blk.new (w.alloc (.cells #[.int .u64 (lo : Int), .int .u64 (hi : Int), .int .u64 (lo2 : Int), .int .u64 (hi2 : Int), .int .i64 ep] 36)) #[.int .u32 (s.toNat : Int), .int .u32 (d.toNat : Int), .int .u16 (p.toNat : Int), .int .u16 (q.toNat : Int), .int .u8 (r.toNat : Int)] 28).alloc (.cells #[.int .u16 (sa.toNat : Int), .int .u16 (sb.toNat : Int), .int .u32 (sq.toNat : Int), .int .u32 (sk.toNat : Int), .int .u8 (sr.toNat : Int), .int .u8 (sf.toNat : Int), .int .u16 (sz.toNat : Int), .int .u16 (su.toNat : Int), .slice A1 n1 c1, .slice A2 n2 c2] 44)
  have KG : Blk V (w.heap.size + 2) [.int .u16 (sa.toNat : Int), .int .u16 (sb.toNat : Int), .int .u32 (sq.toNat : Int), .int .u32 (sk.toNat : Int), .int .u8 (sr.toNat : Int), .int .u8 (sf.toNat : Int), .int .u16 (sz.toNat : Int), .int .u16 (su.toNat : Int), .slice A1 n1 c1, .slice A2 n2 c2] 44 := by subst hV; simpa using Blk.new ((w.alloc (.cells #[.int .u64 (lo : Int), .int .u64 (hi : Int), .int .u64 (lo2 : Int), .int .u64 (hi2 : Int), .int .i64 ep] 36)).alloc (.cells #[.int .u32 (s.toNat : Int), .int .u32 (d.toNat : Int), .int .u16 (p.toNat : Int), .int .u16 (q.toNat : Int), .int .u8 (r.toNat : Int)] 28)) #[.int .u16 (sa.toNat : Int), .int .u16 (sb.toNat : Int), .int .u32 (sq.toNat : Int), .int .u32 (sk.toNat : Int), .int .u8 (sr.toNat : Int), .int .u8 (sf.toNat : Int), .int .u16 (sz.toNat : Int), .int .u16 (su.toNat : Int), .slice A1 n1 c1, .slice A2 n2 c2] 44
  obtain ⟨z0, z1, z2, z3, z4, z5, z6, z7, z8, z9, -⟩ := KG.get10
  obtain ⟨k0, k1, k2, k3, k4, -⟩ := KS.get5
  obtain ⟨f0, f1, f2, f3, f4, -⟩ := KF.get5
  go_enter Tryd.func23, Tryd.ntmps23
  go_wp2_with fail
  rw [← hV]
  clear hV
  refine (H1 _).out.mono ?_
  rintro e w1 ⟨rfl, hb⟩
  replace hB := bnext hB hb
  replace KS := KS.next hb
  replace KF := KF.next hb
  replace KG := KG.next hb
  clear hb z0 z1 z2 z3 z4 z5 z6 z7 z8 z9 k0 k1 k2 k3 k4 f0 f1 f2 f3 f4
  obtain ⟨z0, z1, z2, z3, z4, z5, z6, z7, z8, z9, -⟩ := KG.get10
  obtain ⟨k0, k1, k2, k3, k4, -⟩ := KS.get5
  obtain ⟨f0, f1, f2, f3, f4, -⟩ := KF.get5
  go_wp2_with fail
  refine (H2 _).out.mono ?_
  rintro e w1 ⟨rfl, hb⟩
  replace hB := bnext hB hb
  replace KS := KS.next hb
  replace KF := KF.next hb
  replace KG := KG.next hb
  clear hb z0 z1 z2 z3 z4 z5 z6 z7 z8 z9 k0 k1 k2 k3 k4 f0 f1 f2 f3 f4
  obtain ⟨z0, z1, z2, z3, z4, z5, z6, z7, z8, z9, -⟩ := KG.get10
  obtain ⟨k0, k1, k2, k3, k4, -⟩ := KS.get5
  obtain ⟨f0, f1, f2, f3, f4, -⟩ := KF.get5
  go_wp2_with fail
  refine (H3 _).out.mono ?_
  rintro e w1 ⟨rfl, hb⟩
  replace hB := bnext hB hb
  replace KS := KS.next hb
  replace KF := KF.next hb
  replace KG := KG.next hb
  clear hb z0 z1 z2 z3 z4 z5 z6 z7 z8 z9 k0 k1 k2 k3 k4 f0 f1 f2 f3 f4
  obtain ⟨z0, z1, z2, z3, z4, z5, z6, z7, z8, z9, -⟩ := KG.get10
  obtain ⟨k0, k1, k2, k3, k4, -⟩ := KS.get5
  obtain ⟨f0, f1, f2, f3, f4, -⟩ := KF.get5
  go_wp2_with fail
  refine (HRT _).out.mono ?_
  rintro e w1 ⟨rfl, hb⟩
  replace hB := bnext hB hb
  replace KS := KS.next hb
  replace KF := KF.next hb
  replace KG := KG.next hb
  clear hb z0 z1 z2 z3 z4 z5 z6 z7 z8 z9 k0 k1 k2 k3 k4 f0 f1 f2 f3 f4
  obtain ⟨z0, z1, z2, z3, z4, z5, z6, z7, z8, z9, -⟩ := KG.get10
  obtain ⟨k0, k1, k2, k3, k4, -⟩ := KS.get5
  obtain ⟨f0, f1, f2, f3, f4, -⟩ := KF.get5
  go_wp2_with fail
  refine (cplace_any y hyl _).mono ?_
  rintro e w1 ⟨rfl, rfl⟩
  go_wp2_with fail
  go_ret2
  exact ⟨rfl, hB⟩
end Go.Proofs.YteodjajjlgekcaaDoor

/- Contracts of proxy.Open and of layer 38's lives. -/
namespace Go.Proofs.YteodjajjlgekcaaDoor
open Go.RowKit
set_option linter.unusedVariables false

theorem u32_succ (v : UInt32) : ∃ v1 : UInt32, ((v.toNat : Int) + 1) % 4294967296 = (v1.toNat : Int) ∧ ((v1.toNat : Int) - 1) % 4294967296 = (v.toNat : Int) := by
  refine ⟨UInt32.ofNat ((v.toNat + 1) % 4294967296), ?_, ?_⟩
  · have := v.toNat_lt
    simp <;> omega
  · have := v.toNat_lt
    simp
    omega
theorem u32_pred (v : UInt32) : ∃ v1 : UInt32, ((v.toNat : Int) - 1) % 4294967296 = (v1.toNat : Int) := by
  refine ⟨UInt32.ofNat ((v.toNat + 4294967295) % 4294967296), ?_⟩
  have := v.toNat_lt
  simp
  omega
set_option maxHeartbeats 1000000 in
theorem popen_any (s d : UInt32) (p q : UInt16) (r : UInt8) (b port : Int) (sa sb : UInt16) (sq sk : UInt32) (sr sf : UInt8) (sz su : UInt16) (A1 A2 : Option Addr) (n1 c1 n2 c2 : Nat) (v0 f0 : UInt32) (e1 : ((sk.toNat : Int) - 1) % 4294967296 = (v0.toNat : Int)) (e2 : ((sq.toNat : Int) - 1) % 4294967296 = (f0.toNat : Int)) (w : World) :
    Calls Tryd.prog 29 #[.agg #[.int .u32 (s.toNat : Int), .int .u32 (d.toNat : Int), .int .u16 (p.toNat : Int), .int .u16 (q.toNat : Int), .int .u8 (r.toNat : Int)], .int .i64 b, .int .u16 port, .agg #[.int .u16 (sa.toNat : Int), .int .u16 (sb.toNat : Int), .int .u32 (sq.toNat : Int), .int .u32 (sk.toNat : Int), .int .u8 (sr.toNat : Int), .int .u8 (sf.toNat : Int), .int .u16 (sz.toNat : Int), .int .u16 (su.toNat : Int), .slice A1 n1 c1, .slice A2 n2 c2]] w fun e w' => e = .returned (.agg #[.int .u32 (s.toNat : Int), .int .u32 (d.toNat : Int), .int .u16 (p.toNat : Int), .int .u16 (q.toNat : Int), .int .u8 (r.toNat : Int), .int .i64 b, .int .i64 1, .int .i64 0, .bool true, .bool false, .int .u16 port, .int .u32 (v0.toNat : Int), .int .u32 (f0.toNat : Int)]) ∧ Below w.heap.size w w' := by
  obtain ⟨V, hV⟩ : ∃ V, V = (((w.alloc (.cells #[.int .u32 (s.toNat : Int), .int .u32 (d.toNat : Int), .int .u16 (p.toNat : Int), .int .u16 (q.toNat : Int), .int .u8 (r.toNat : Int)] 28)).alloc (.cells #[.int .u16 (sa.toNat : Int), .int .u16 (sb.toNat : Int), .int .u32 (sq.toNat : Int), .int .u32 (sk.toNat : Int), .int .u8 (sr.toNat : Int), .int .u8 (sf.toNat : Int), .int .u16 (sz.toNat : Int), .int .u16 (su.toNat : Int), .slice A1 n1 c1, .slice A2 n2 c2] 44)).alloc (.cells #[.int .u32 0, .int .u32 0, .int .u16 0, .int .u16 0, .int .u8 0, .int .i64 0, .int .i64 0, .int .i64 0, .bool false, .bool false, .int .u16 0, .int .u32 0, .int .u32 0] 55)) := ⟨_, rfl⟩
  have hB : Below w.heap.size w V := by subst hV; exact (bnextA (bnextA (bnextA (Below.refl _ _) _) _) _)
  have KF : Blk V (w.heap.size) [.int .u32 (s.toNat : Int), .int .u32 (d.toNat : Int), .int .u16 (p.toNat : Int), .int .u16 (q.toNat : Int), .int .u8 (r.toNat : Int)] 28 := by subst hV; simpa using ((Blk.new w #[.int .u32 (s.toNat : Int), .int .u32 (d.toNat : Int), .int .u16 (p.toNat : Int), .int .u16 (q.toNat : Int), .int .u8 (r.toNat : Int)] 28).alloc (.cells #[.int .u16 (sa.toNat : Int), .int .u16 (sb.toNat : Int), .int .u32 (sq.toNat : Int), .int .u32 (sk.toNat : Int), .int .u8 (sr.toNat : Int), .int .u8 (sf.toNat : Int), .int .u16 (sz.toNat : Int), .int .u16 (su.toNat : Int), .slice A1 n1 c1, .slice A2 n2 c2] 44)).alloc (.cells #[.int .u32 0, .int .u32 0, .int .u16 0, .int .u16 0, .int .u8 0, .int .i64 0, .int .i64 0, .int .i64 0, .bool false, .bool false, .int .u16 0, .int .u32 0, .int .u32 0] 55)
  have KG : Blk V (w.heap.size + 1) [.int .u16 (sa.toNat : Int), .int .u16 (sb.toNat : Int), .int .u32 (sq.toNat : Int), .int .u32 (sk.toNat : Int), .int .u8 (sr.toNat : Int), .int .u8 (sf.toNat : Int), .int .u16 (sz.toNat : Int), .int .u16 (su.toNat : Int), .slice A1 n1 c1, .slice A2 n2 c2] 44 := by subst hV; simpa using (Blk.new (w.alloc (.cells #[.int .u32 (s.toNat : Int), .int .u32 (d.toNat : Int), .int .u16 (p.toNat : Int), .int .u16 (q.toNat : Int), .int .u8 (r.toNat : Int)] 28)) #[.int .u16 (sa.toNat : Int), .int .u16 (sb.toNat : Int), .int .u32 (sq.toNat : Int), .int .u32 (sk.toNat : Int), .int .u8 (sr.toNat : Int), .int .u8 (sf.toNat : Int), .int .u16 (sz.toNat : Int), .int .u16 (su.toNat : Int), .slice A1 n1 c1, .slice A2 n2 c2] 44).alloc (.cells #[.int .u32 0, .int .u32 0, .int .u16 0, .int .u16 0, .int .u8 0, .int .i64 0, .int .i64 0, .int .i64 0, .bool false, .bool false, .int .u16 0, .int .u32 0, .int .u32 0] 55)
  have KE : Blk V (w.heap.size + 2) [.int .u32 0, .int .u32 0, .int .u16 0, .int .u16 0, .int .u8 0, .int .i64 0, .int .i64 0, .int .i64 0, .bool false, .bool false, .int .u16 0, .int .u32 0, .int .u32 0] 55 := by subst hV; simpa using Blk.new ((w.alloc (.cells #[.int .u32 (s.toNat : Int), .int .u32 (d.toNat : Int), .int .u16 (p.toNat : Int), .int .u16 (q.toNat : Int), .int .u8 (r.toNat : Int)] 28)).alloc (.cells #[.int .u16 (sa.toNat : Int), .int .u16 (sb.toNat : Int), .int .u32 (sq.toNat : Int), .int .u32 (sk.toNat : Int), .int .u8 (sr.toNat : Int), .int .u8 (sf.toNat : Int), .int .u16 (sz.toNat : Int), .int .u16 (su.toNat : Int), .slice A1 n1 c1, .slice A2 n2 c2] 44)) #[.int .u32 0, .int .u32 0, .int .u16 0, .int .u16 0, .int .u8 0, .int .i64 0, .int .i64 0, .int .i64 0, .bool false, .bool false, .int .u16 0, .int .u32 0, .int .u32 0] 55
  obtain ⟨z0, z1, z2, z3, z4, z5, z6, z7, z8, z9, -⟩ := KG.get10
  obtain ⟨f0, f1, f2, f3, f4, -⟩ := KF.get5
  go_enter Tryd.func29, Tryd.ntmps29
  go_wp2_with fail
  simp [bodyPost, results, Tryd.results29, go_sem, *]
  exact bnextA (bnextA (bnextA (Below.refl w.heap.size w) _) _) _
set_option maxHeartbeats 2000000 in
theorem lives38_any (w : World) (hS : SZ w) : Calls Tryd.prog 28 #[] w fun e w' => e = .returned (.bool true) ∧ Below w.heap.size w w' := by
  obtain ⟨z, ez, hz⟩ : ∃ x : Nat, (x : Int) = 0 ∧ x < 18446744073709551616 := ⟨0, rfl, by omega⟩
  obtain ⟨a1, ea1⟩ : ∃ x : UInt32, (x.toNat : Int) = 1 := ⟨1, rfl⟩
  obtain ⟨a2, ea2⟩ : ∃ x : UInt32, (x.toNat : Int) = 2 := ⟨2, rfl⟩
  obtain ⟨a3, ea3⟩ : ∃ x : UInt16, (x.toNat : Int) = 3 := ⟨3, rfl⟩
  obtain ⟨a80, ea80⟩ : ∃ x : UInt16, (x.toNat : Int) = 80 := ⟨80, rfl⟩
  obtain ⟨a6, ea6⟩ : ∃ x : UInt8, (x.toNat : Int) = 6 := ⟨6, rfl⟩
  obtain ⟨q9, eq9⟩ : ∃ x : UInt32, (x.toNat : Int) = 9 := ⟨9, rfl⟩
  obtain ⟨q10, eq10⟩ : ∃ x : UInt32, (x.toNat : Int) = 10 := ⟨10, rfl⟩
  obtain ⟨z32, ez32⟩ : ∃ x : UInt32, (x.toNat : Int) = 0 := ⟨0, rfl⟩
  obtain ⟨z16, ez16⟩ : ∃ x : UInt16, (x.toNat : Int) = 0 := ⟨0, rfl⟩
  obtain ⟨z8, ez8⟩ : ∃ x : UInt8, (x.toNat : Int) = 0 := ⟨0, rfl⟩
  obtain ⟨x2, ex2⟩ : ∃ x : UInt8, (x.toNat : Int) = 2 := ⟨2, rfl⟩
  obtain ⟨x16, ex16, g16, g2, g4⟩ : ∃ x : UInt8, (x.toNat : Int) = 16 ∧ hasB x 16 = true ∧ hasB x 2 = false ∧ hasB x 4 = false := ⟨16, rfl, by decide, by decide, by decide⟩
  have hr1 : ckR 0 32 = 0 := rfl
  obtain ⟨vv, hvv⟩ : ∃ vv : UInt32, ckN z z (ckB a1 a2 a3 a80 a6 q9) (ckR 0 32) 1 = vv.toNat := ⟨UInt32.ofNat (ckN z z (ckB a1 a2 a3 a80 a6 q9) (ckR 0 32) 1), by have := ckN_lt z z (ckB a1 a2 a3 a80 a6 q9) (ckR 0 32) 1 (by decide) (by decide); simp; omega⟩
  obtain ⟨v1, hv1, hv2⟩ := u32_succ vv
  have H1 : ∀ W, SZ W → Hid (Calls Tryd.prog 26 #[.agg #[.int .u64 0, .int .u64 0, .int .u64 0, .int .u64 0, .int .i64 0], .agg #[.int .u32 1, .int .u32 2, .int .u16 3, .int .u16 80, .int .u8 6], .agg #[.int .u16 3, .int .u16 80, .int .u32 9, .int .u32 0, .int .u8 0, .int .u8 2, .int .u16 0, .int .u16 0, .slice none 0 0, .slice none 0 0]] W fun e w' => ∃ L AL cL, e = .returned (.agg #[.int .u16 80, .int .u16 3, .int .u32 (vv.toNat : Int), .int .u32 10, .int .u8 0, .int .u8 18, .int .u16 65535, .int .u16 0, .slice AL 4 cL, .slice none 0 0]) ∧ Hid (L.length = 4) ∧ Rd bv w' w'.heap.size AL cL L ∧ Below W.heap.size W w') := by
    intro W h
    have h5 := poffer_any z z z z hz hz 0 a1 a2 a3 a80 a6 a3 a80 q9 z32 z8 x2 z16 z16 none none [] 0 0 0 ([], 0) (.fin (by simp) rfl) (by simp) 1 (by simp [offI, mssN, idxN, szL]) vv hvv q10 (by rw [eq9, eq10]; rfl) W (Rd.nil0 _ _ _) h
    simp only [ez, ea1, ea2, ea3, ea80, ea6, eq9, eq10, ez32, ez16, ez8, ex2, List.length_nil] at h5
    exact h5.mono fun e w' he => by
      obtain ⟨L, AL, cL, rfl, HL, hr, hb⟩ := he
      have hl : L.length = 4 := by rw [HL.out]; rfl
      exact ⟨L, AL, cL, by rw [hl], hl, hr, hb⟩
  have H2 : ∀ W, Hid (Calls Tryd.prog 23 #[.agg #[.int .u64 0, .int .u64 0, .int .u64 0, .int .u64 0, .int .i64 0], .agg #[.int .u32 1, .int .u32 2, .int .u16 3, .int .u16 80, .int .u8 6], .agg #[.int .u16 3, .int .u16 80, .int .u32 10, .int .u32 (v1.toNat : Int), .int .u8 0, .int .u8 16, .int .u16 0, .int .u16 0, .slice none 0 0, .slice none 0 0]] W fun e w' => e = .returned (.tuple #[.int .i64 1, .bool true]) ∧ Below W.heap.size W w') := by
    intro W
    have h5 := paccept_ok z z z z hz hz hz hz 0 a1 a2 a3 a80 a6 a3 a80 q10 v1 z8 x16 z16 z16 none none 0 0 0 0 g16 g2 g4 q9 (by rw [eq9, eq10]; rfl) vv.toNat hv2 vv.toNat_lt (by omega) true rfl (by rw [← hvv]; exact right_now _ _ _ _ _ _ _ (by decide)) W
    rw [show vv.toNat / 16777216 % 8 = 1 by rw [← hvv]; exact ckN_i _ _ _ _ _ (by decide)] at h5
    simp only [ez, ea1, ea2, ea3, ea80, ea6, eq10, ez16, ez8, ex16] at h5
    exact h5
  clear hvv hv2 hr1 g16 g2 g4 ex16 ex2 ea1 ea2 ea3 ea80 ea6 eq9 eq10 ez32 ez16 ez8 ez hz
  obtain ⟨V, hV⟩ : ∃ V, V = w.alloc (.cells #[.int .u32 1, .int .u32 2, .int .u16 3, .int .u16 80, .int .u8 6] 28) := ⟨_, rfl⟩
  have hB : Below w.heap.size w V := by subst hV; exact bnextA (Below.refl _ _) _
  have K : Blk V w.heap.size [.int .u32 1, .int .u32 2, .int .u16 3, .int .u16 80, .int .u8 6] 28 := by subst hV; exact Blk.new _ _ _
  obtain ⟨f0, f1, f2, f3, f4, -⟩ := K.get5
  go_enter Tryd.func28, Tryd.ntmps28
  go_wp2_with fail
  rw [← hV]
  clear hV
  refine (H1 _ (hS.next hB)).out.mono ?_
  rintro e w1 ⟨L, AL, cL, rfl, -, -, hb⟩
  replace hB := bnextA (bnext hB hb) (.cells #[.int .u16 80, .int .u16 3, .int .u32 (vv.toNat : Int), .int .u32 10, .int .u8 0, .int .u8 18, .int .u16 65535, .int .u16 0, .slice AL 4 cL, .slice none 0 0] 44)
  replace K := (K.next hb).alloc (.cells #[.int .u16 80, .int .u16 3, .int .u32 (vv.toNat : Int), .int .u32 10, .int .u8 0, .int .u8 18, .int .u16 65535, .int .u16 0, .slice AL 4 cL, .slice none 0 0] 44)
  have KO := Blk.new w1 #[.int .u16 80, .int .u16 3, .int .u32 (vv.toNat : Int), .int .u32 10, .int .u8 0, .int .u8 18, .int .u16 65535, .int .u16 0, .slice AL 4 cL, .slice none 0 0] 44
  clear hb f0 f1 f2 f3 f4
  obtain ⟨f0, f1, f2, f3, f4, -⟩ := K.get5
  obtain ⟨z0, z1, z2, z3, z4, z5, z6, z7, z8, z9, -⟩ := KO.get10
  go_wp2_with fail
  refine (H2 _).out.mono ?_
  rintro e w2 ⟨rfl, hb⟩
  replace hB := bnext hB hb
  replace KO := KO.next hb
  clear hb f0 f1 f2 f3 f4 z0 z1 z2 z3 z4 z5 z6 z7 z8 z9
  obtain ⟨z0, z1, z2, z3, z4, z5, z6, z7, z8, z9, -⟩ := KO.get10
  go_wp2_with fail
  go_ret
  exact ⟨rfl, hB⟩
end Go.Proofs.YteodjajjlgekcaaDoor
