/- Which options bytes are; contracts of topt.first and topt.Of. -/
import Derived.Test.YteodjajjlgekcaaDoorOpt1
import Derived.Test.YteodjajjlgekcaaDoorOct4
namespace Go.Proofs.YteodjajjlgekcaaDoor
open Go.RowKit
set_option linter.unusedVariables false

/-- From a place on, behind some options: which answer comes of it. -/
inductive Runs (xs : List UInt8) (R : List Opt × Nat) : Nat → List Opt → Prop
  | fin {j : Nat} {l : List Opt} (h : xs.length ≤ j) (e : R = (l, 0)) : Runs xs R j l
  | zero {j : Nat} {l : List Opt} (h : j < xs.length) (h0 : xs[j] = 0) (e : R = (l, 0)) : Runs xs R j l
  | one {j : Nat} {l : List Opt} (h : j < xs.length) (h0 : xs[j] = 1) (t : Runs xs R (j + 1) (l ++ [(1, [])])) : Runs xs R j l
  | short {j : Nat} {l : List Opt} (h : j < xs.length) (h0 : xs[j] ≠ 0) (h1 : xs[j] ≠ 1) (h2 : xs.length ≤ j + 1) (e : R = ([], 4)) : Runs xs R j l
  | form {j : Nat} {l : List Opt} (h : j + 1 < xs.length) (h0 : xs[j] ≠ 0) (h1 : xs[j] ≠ 1) (h2 : xs[j + 1].toNat < 2) (e : R = ([], 3)) : Runs xs R j l
  | over {j : Nat} {l : List Opt} (h : j + 1 < xs.length) (h0 : xs[j] ≠ 0) (h1 : xs[j] ≠ 1) (h2 : 2 ≤ xs[j + 1].toNat) (h3 : xs.length < j + xs[j + 1].toNat) (e : R = ([], 4)) : Runs xs R j l
  | opt {j : Nat} {l : List Opt} (h : j + 1 < xs.length) (h0 : xs[j] ≠ 0) (h1 : xs[j] ≠ 1) (h2 : 2 ≤ xs[j + 1].toNat) (h3 : j + xs[j + 1].toNat ≤ xs.length) (t : Runs xs R (j + xs[j + 1].toNat) (l ++ [(xs[j], (xs.drop (j + 2)).take (xs[j + 1].toNat - 2))])) : Runs xs R j l
theorem runs_some (xs : List UInt8) : ∀ n j l, xs.length - j ≤ n → ∃ R, Runs xs R j l := by
  intro n
  induction n with
  | zero => exact fun j l h => ⟨_, .fin (by omega) rfl⟩
  | succ n ih =>
    intro j l h
    by_cases hj : j < xs.length
    · by_cases h0 : xs[j] = 0
      · exact ⟨_, .zero hj h0 rfl⟩
      · by_cases h1 : xs[j] = 1
        · obtain ⟨R, hR⟩ := ih (j + 1) (l ++ [(1, [])]) (by omega)
          exact ⟨R, .one hj h1 hR⟩
        · by_cases h2 : j + 1 < xs.length
          · by_cases h3 : 2 ≤ xs[j + 1].toNat
            · by_cases h4 : j + xs[j + 1].toNat ≤ xs.length
              · obtain ⟨R, hR⟩ := ih (j + xs[j + 1].toNat) (l ++ [(xs[j], (xs.drop (j + 2)).take (xs[j + 1].toNat - 2))]) (by omega)
                exact ⟨R, .opt h2 h0 h1 h3 h4 hR⟩
              · exact ⟨_, .over h2 h0 h1 h3 (by omega) rfl⟩
            · exact ⟨_, .form h2 h0 h1 (by omega) rfl⟩
          · exact ⟨_, .short hj h0 h1 (by omega) rfl⟩
    · exact ⟨_, .fin (by omega) rfl⟩
/-- A list has no more options than bytes. -/
theorem runs_len (xs : List UInt8) (R : List Opt × Nat) : ∀ j l, Runs xs R j l → l.length ≤ j → j ≤ xs.length → R.1.length ≤ xs.length := by
  intro j l h
  induction h with
  | fin h e => intro h1 h2; rw [e]; simp; omega
  | zero h h0 e => intro h1 h2; rw [e]; simp; omega
  | one h h0 t ih => intro h1 h2; exact ih (by simp; omega) (by omega)
  | short h h0 h1 h2 e => intro _ _; rw [e]; simp
  | form h h0 h1 h2 e => intro _ _; rw [e]; simp
  | over h h0 h1 h2 h3 e => intro _ _; rw [e]; simp
  | opt h h0 h1 h2 h3 t ih => intro _ _; exact ih (by simp; omega) (by omega)

theorem u8_ne {x : UInt8} {n : Nat} (hn : n < 256) (h : x ≠ UInt8.ofNat n) : ((x.toNat : Int) == (n : Int)) = false := by
  simp only [beq_eq_false_iff_ne, ne_eq]
  intro h2
  apply h
  have h3 : x.toNat = n := by omega
  rw [← h3]
  simp
theorem Own.less {α : Type} {f : α → Value} {w : World} {base base' : Nat} {e : TypeId} {v : Value} {xs : List α} (h : Own f w base e v xs) (hb : base' ≤ base) : Own f w base' e v xs := by
  refine ⟨h.1, ?_⟩
  rcases h.2 with h2 | ⟨g, cap, cur, h1, h2, h3⟩
  · exact .inl h2
  · exact .inr ⟨g, cap, cur, h1, Nat.le_trans hb h2, h3⟩
theorem tfirst_one (A : Option Addr) (c : Nat) (ys : List UInt8) (w : World) (hr : Rd bv w w.heap.size A c ys) (hl : 0 < ys.length) (h1 : ys[0] = 1) :
    Calls Tryd.prog 70 #[.slice A ys.length c] w fun e w' => e = .returned (.tuple #[.agg #[.int .u8 1, .slice none 0 0], .int .i64 1, .int .i64 0]) ∧ Below w.heap.size w w' := by
  obtain ⟨b, off, rfl, hb, hc⟩ := byt_at hr (k := 0) hl
  have c0 := hc 0 hl
  rw [h1] at c0
  have c1 : w.cell? ⟨b, off + 0, none⟩ = some (.int .u8 1) := c0
  simp only [Nat.add_zero] at c1
  have hl2 : (0 : Int) < (ys.length : Int) := by omega
  clear hc c0 hr h1
  go_enter Tryd.func70, Tryd.ntmps70
  go_wp2_with fail
  simp [bodyPost, results, Tryd.results70, go_sem, *]
  exact bnextA (Below.refl w.heap.size w) _
theorem tfirst_short (A : Option Addr) (c : Nat) (k : UInt8) (w : World) (hr : Rd bv w w.heap.size A c [k]) (h1 : k ≠ 1) :
    Calls Tryd.prog 70 #[.slice A 1 c] w fun e w' => e = .returned (.tuple #[.agg #[.int .u8 0, .slice none 0 0], .int .i64 0, .int .i64 4]) ∧ Below w.heap.size w w' := by
  obtain ⟨b, off, rfl, hb, hc⟩ := byt_at hr (k := 0) (by simp)
  have c1 : w.cell? ⟨b, off, none⟩ = some (.int .u8 (k.toNat : Int)) := hc 0 (by simp)
  have a1 : ((k.toNat : Int) == 1) = false := u8_ne (n := 1) (by decide) h1
  clear hc hr h1
  go_enter Tryd.func70, Tryd.ntmps70
  go_wp2_with fail
  simp [bodyPost, results, Tryd.results70, go_sem, *]
  exact bnextA (Below.refl w.heap.size w) _
theorem cut_of (A : Option Addr) (c : Nat) (bs : List UInt8) (a d : Int) (k n : Nat) (w : World) (hb : Rd bv w w.heap.size A c bs) (hk : a = k) (hn : d = n) (h : k + n ≤ bs.length) (hl : bs.length ≤ 1000000) :
    Calls Tryd.prog 75 #[.slice A bs.length c, .int .i64 a, .int .i64 d] w fun e w' => ∃ v, e = .returned (.tuple #[v, .bool true]) ∧ Own bv w' w.heap.size 5 v ((bs.drop k).take n) ∧ Below w.heap.size w w' := by
  subst hk hn
  exact cut_yes A c bs k n w hb h hl
theorem tfirst_form (A : Option Addr) (c : Nat) (ys : List UInt8) (w : World) (hr : Rd bv w w.heap.size A c ys) (hl : 1 < ys.length) (hl2 : ys.length ≤ 1000000) (k n : UInt8) (hk : ys[0] = k) (hn : ys[1] = n) (h1 : k ≠ 1) (h2 : n.toNat < 2) :
    Calls Tryd.prog 70 #[.slice A ys.length c] w fun e w' => e = .returned (.tuple #[.agg #[.int .u8 0, .slice none 0 0], .int .i64 0, .int .i64 3]) ∧ Below w.heap.size w w' := by
  obtain ⟨b, off, rfl, hb, hc⟩ := byt_at hr (k := 0) (by omega)
  have c0 : w.cell? ⟨b, off, none⟩ = some (.int .u8 (k.toNat : Int)) := by rw [← hk]; exact hc 0 (by omega)
  have c1 : w.cell? ⟨b, off + 1, none⟩ = some (.int .u8 (n.toNat : Int)) := by rw [← hn]; exact hc 1 hl
  have a1 : ((k.toNat : Int) == 1) = false := u8_ne (n := 1) (by decide) h1
  have q1 : (0 : Int) < (ys.length : Int) := by omega
  have q2 : (1 : Int) < (ys.length : Int) := by omega
  have a2 : decide ((ys.length : Int) < 2) = false := by simp; omega
  have z0 : wrap64 (n.toNat : Int) = (n.toNat : Int) := by unfold wrap64; have := n.toNat_lt; omega
  have a3 : decide ((n.toNat : Int) < 2) = true := by simp; omega
  clear hc h1 hk hn
  clear hr h2
  go_enter Tryd.func70, Tryd.ntmps70
  go_wp2_with fail
  simp [bodyPost, results, Tryd.results70, go_sem, *]
  exact bnextA (Below.refl w.heap.size w) _
theorem tfirst_over (A : Option Addr) (c : Nat) (ys : List UInt8) (w : World) (hr : Rd bv w w.heap.size A c ys) (hl : 1 < ys.length) (hl2 : ys.length ≤ 1000000) (k n : UInt8) (hk : ys[0] = k) (hn : ys[1] = n) (h1 : k ≠ 1) (h2 : 2 ≤ n.toNat) (h3 : ys.length < n.toNat) :
    Calls Tryd.prog 70 #[.slice A ys.length c] w fun e w' => e = .returned (.tuple #[.agg #[.int .u8 0, .slice none 0 0], .int .i64 0, .int .i64 4]) ∧ Below w.heap.size w w' := by
  obtain ⟨b, off, rfl, hb, hc⟩ := byt_at hr (k := 0) (by omega)
  have c0 : w.cell? ⟨b, off, none⟩ = some (.int .u8 (k.toNat : Int)) := by rw [← hk]; exact hc 0 (by omega)
  have c1 : w.cell? ⟨b, off + 1, none⟩ = some (.int .u8 (n.toNat : Int)) := by rw [← hn]; exact hc 1 hl
  have a1 : ((k.toNat : Int) == 1) = false := u8_ne (n := 1) (by decide) h1
  have q1 : (0 : Int) < (ys.length : Int) := by omega
  have q2 : (1 : Int) < (ys.length : Int) := by omega
  have a2 : decide ((ys.length : Int) < 2) = false := by simp; omega
  have z0 : wrap64 (n.toNat : Int) = (n.toNat : Int) := by unfold wrap64; have := n.toNat_lt; omega
  have a3 : decide ((n.toNat : Int) < 2) = false := by simp; omega
  obtain ⟨m, hm⟩ : ∃ m, n.toNat = m + 2 := ⟨n.toNat - 2, by omega⟩
  have z1 : wrap64 ((n.toNat : Int) - 2) = (m : Int) := by unfold wrap64; have := n.toNat_lt; omega
  have HC := fun W => Lib.hid (cut_no (some ⟨b, off, none⟩) ys.length c 2 (m : Int) W (by omega) (by omega) (.inr (.inr (by omega))))
  clear hm h2 h3
  clear hc h1 hk hn
  have hBA := bnextA (Below.refl w.heap.size w) (.cells #[.int .u8 0, .slice none 0 0] 101)
  clear hr
  go_enter Tryd.func70, Tryd.ntmps70
  go_wp2_with fail
  refine (HC _).out.mono ?_
  rintro e w1 ⟨rfl, rfl⟩
  clear HC
  go_wp2_with fail
  simp [bodyPost, results, Tryd.results70, go_sem, *]
theorem tfirst_ok (A : Option Addr) (c : Nat) (ys : List UInt8) (w : World) (hr : Rd bv w w.heap.size A c ys) (hl : 1 < ys.length) (hl2 : ys.length ≤ 1000000) (k n : UInt8) (hk : ys[0] = k) (hn : ys[1] = n) (h1 : k ≠ 1) (h2 : 2 ≤ n.toNat) (h3 : n.toNat ≤ ys.length) (D : List UInt8) (hD : Hid ((ys.drop 2).take (n.toNat - 2) = D)) :
    Calls Tryd.prog 70 #[.slice A ys.length c] w fun e w' => ∃ v, e = .returned (.tuple #[.agg #[.int .u8 (k.toNat : Int), v], .int .i64 (n.toNat : Int), .int .i64 0]) ∧ Own bv w' w.heap.size 5 v D ∧ Below w.heap.size w w' := by
  obtain ⟨b, off, rfl, hb, hc⟩ := byt_at hr (k := 0) (by omega)
  have c0 : w.cell? ⟨b, off, none⟩ = some (.int .u8 (k.toNat : Int)) := by rw [← hk]; exact hc 0 (by omega)
  have c1 : w.cell? ⟨b, off + 1, none⟩ = some (.int .u8 (n.toNat : Int)) := by rw [← hn]; exact hc 1 hl
  have a1 : ((k.toNat : Int) == 1) = false := u8_ne (n := 1) (by decide) h1
  have q1 : (0 : Int) < (ys.length : Int) := by omega
  have q2 : (1 : Int) < (ys.length : Int) := by omega
  have a2 : decide ((ys.length : Int) < 2) = false := by simp; omega
  have z0 : wrap64 (n.toNat : Int) = (n.toNat : Int) := by unfold wrap64; have := n.toNat_lt; omega
  have a3 : decide ((n.toNat : Int) < 2) = false := by simp; omega
  obtain ⟨m, hm⟩ : ∃ m, n.toNat = m + 2 := ⟨n.toNat - 2, by omega⟩
  have z1 : wrap64 ((n.toNat : Int) - 2) = (m : Int) := by unfold wrap64; have := n.toNat_lt; omega
  have HCm := fun W (hW : Rd bv W W.heap.size (some ⟨b, off, none⟩) c ys) => Lib.hid (cut_of (some ⟨b, off, none⟩) c ys 2 (m : Int) 2 m W hW rfl rfl (by omega) hl2)
  have hmm : Hid (n.toNat - 2 = m) := by rw [Hid]; omega
  clear hm h2 h3
  clear hc h1 hk hn
  have hV : ∃ V, V = w.alloc (.cells #[.int .u8 0, .slice none 0 0] 101) := ⟨_, rfl⟩
  obtain ⟨V, hV⟩ := hV
  have hB : Below w.heap.size w V := by subst hV; exact bnextA (Below.refl _ _) _
  have K : Blk V w.heap.size [.int .u8 0, .slice none 0 0] 101 := by subst hV; exact Blk.new _ _ _
  have rV := hr.next hB
  have hVl : w.heap.size < V.heap.size := by subst hV; simp
  rw [hmm.out] at hD
  go_enter Tryd.func70, Tryd.ntmps70
  go_wp2_with fail
  rw [← hV]
  refine (HCm _ rV).out.mono ?_
  rintro e w1 ⟨v, rfl, hown, hb1⟩
  have K1 := K.next hb1
  obtain ⟨L, A2, c2, HL, rfl, -⟩ := hown.rdv
  obtain rfl : L = D := by rw [HL.out, hD.out]
  rw [← HL.out] at hown
  have hBB := bnext hB hb1
  have c0' : w1.cell? ⟨b, off, none⟩ = some (.int .u8 (k.toNat : Int)) := (hBB.cell (p := ⟨b, off, none⟩) hb).trans c0
  obtain ⟨k0, k1, k2, k3⟩ := K1.get2
  have HO := Lib.hid hown
  have hne : b ≠ w.heap.size := by omega
  clear HCm rV hV hown hb1 K hr
  go_wp2_with fail
  simp [bodyPost, results, Tryd.results70, go_sem, *]
  exact ⟨((HO.out.setBelow (p := ⟨w.heap.size, 0, none⟩) hVl _).setBelow (p := ⟨w.heap.size, 1, none⟩) hVl _).less hB.size, (hBB.setCell (p := ⟨w.heap.size, 0, none⟩) (Nat.le_refl _) _).setCell (p := ⟨w.heap.size, 1, none⟩) (Nat.le_refl _) _⟩
end Go.Proofs.YteodjajjlgekcaaDoor
