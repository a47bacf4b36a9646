/- Plain arithmetic on bytes and numbers, for the walks of this seat. Nothing of the program's own code is named here. -/
import Derived.WalkKit
import Derived.Laws.BitsAllLaws
namespace Go.Proofs.YteodjajjlgekcaaDoor
open Go.RowKit

/-- The number that a row of bytes is, the first one foremost, cut to 32 bits. -/
def beN (l : List UInt8) : Nat := l.foldl (fun a x => (a * 256 + x.toNat) % 4294967296) 0
theorem beN_lt (l : List UInt8) : beN l < 4294967296 := by
  unfold beN
  rcases List.eq_nil_or_concat l with rfl | ⟨l', x, rfl⟩
  · simp
  · simp [List.foldl_append]; omega
theorem beN_snoc (l : List UInt8) (x : UInt8) : beN (l ++ [x]) = (beN l * 256 + x.toNat) % 4294967296 := by
  unfold beN; simp [List.foldl_append]
theorem beN_two (x y : UInt8) : beN [x, y] = x.toNat * 256 + y.toNat := by
  have := x.toNat_lt; have := y.toNat_lt
  simp [beN]; omega
theorem beN_four (a b c d : UInt8) : beN [a, b, c, d] = a.toNat * 16777216 + b.toNat * 65536 + c.toNat * 256 + d.toNat := by
  have := a.toNat_lt; have := b.toNat_lt; have := c.toNat_lt; have := d.toNat_lt
  simp [beN]; omega

theorem or16 (x y : UInt8) : bits BinOp.or IntKind.u16 (IntKind.u16.wrap (IntKind.u16.wrap (x.toNat : Int) * 256)) (IntKind.u16.wrap (y.toNat : Int)) = ((x.toNat * 256 + y.toNat : Nat) : Int) := by
  have hx := x.toNat_lt; have hy := y.toNat_lt
  rw [IntKind.wrap_u16, IntKind.wrap_u16, IntKind.wrap_u16]
  have e1 : ((x.toNat : Int) % 65536 * 256) % 65536 = ((x.toNat * 256 : Nat) : Int) := by omega
  have e2 : (y.toNat : Int) % 65536 = (y.toNat : Int) := by omega
  rw [e1, e2, u16_or_nat _ _ (by omega) (by omega), nat_join 8 _ _ (by omega) (by omega)]

theorem or32 (a b c d : UInt8) :
    bits BinOp.or IntKind.u32 (bits BinOp.or IntKind.u32 (bits BinOp.or IntKind.u32 (IntKind.u32.wrap (IntKind.u32.wrap (a.toNat : Int) * 16777216)) (IntKind.u32.wrap (IntKind.u32.wrap (b.toNat : Int) * 65536)))
      (IntKind.u32.wrap (IntKind.u32.wrap (c.toNat : Int) * 256))) (IntKind.u32.wrap (d.toNat : Int)) = ((a.toNat * 16777216 + b.toNat * 65536 + c.toNat * 256 + d.toNat : Nat) : Int) := by
  have ha := a.toNat_lt; have hb := b.toNat_lt; have hc := c.toNat_lt; have hd := d.toNat_lt
  simp only [IntKind.wrap_u32]
  have e1 : ((a.toNat : Int) % 4294967296 * 16777216) % 4294967296 = ((a.toNat * 16777216 : Nat) : Int) := by omega
  have e2 : ((b.toNat : Int) % 4294967296 * 65536) % 4294967296 = ((b.toNat * 65536 : Nat) : Int) := by omega
  have e3 : ((c.toNat : Int) % 4294967296 * 256) % 4294967296 = ((c.toNat * 256 : Nat) : Int) := by omega
  have e4 : (d.toNat : Int) % 4294967296 = (d.toNat : Int) := by omega
  rw [e1, e2, e3, e4, u32_or_nat _ _ (by omega) (by omega), nat_join 24 _ _ (by omega) (by omega), u32_or_nat _ _ (by omega) (by omega), nat_join 16 _ _ (by omega) (by omega),
    u32_or_nat _ _ (by omega) (by omega), nat_join 8 _ _ (by omega) (by omega)]

theorem take_two (bs : List UInt8) (k : Nat) (h : k + 2 ≤ bs.length) : (bs.drop k).take 2 = [bs[k], bs[k+1]] := by
  rw [List.drop_eq_getElem_cons (by omega), List.drop_eq_getElem_cons (by omega)]; rfl
theorem take_four (bs : List UInt8) (k : Nat) (h : k + 4 ≤ bs.length) : (bs.drop k).take 4 = [bs[k], bs[k+1], bs[k+2], bs[k+3]] := by
  rw [List.drop_eq_getElem_cons (by omega), List.drop_eq_getElem_cons (by omega), List.drop_eq_getElem_cons (by omega), List.drop_eq_getElem_cons (by omega)]; rfl
theorem take_next (bs : List UInt8) (k i : Nat) (h : k + i < bs.length) : (bs.drop k).take (i + 1) = (bs.drop k).take i ++ [bs[k + i]] := by
  rw [List.take_succ_eq_append_getElem (by simp; omega)]; simp
/-- The two bytes of a number of 16 bits; the four of one of 32. -/
def be16 (x : UInt16) : List UInt8 := [UInt8.ofNat (x.toNat / 256), UInt8.ofNat (x.toNat % 256)]
def be32 (x : UInt32) : List UInt8 := [UInt8.ofNat (x.toNat / 16777216), UInt8.ofNat (x.toNat / 65536 % 256), UInt8.ofNat (x.toNat / 256 % 256), UInt8.ofNat (x.toNat % 256)]
def puts16 (l : List UInt16) : List UInt8 := l.flatMap be16
def puts32 (l : List UInt32) : List UInt8 := l.flatMap be32
theorem puts16_snoc (l : List UInt16) (x : UInt16) : puts16 (l ++ [x]) = puts16 l ++ be16 x := by simp [puts16]
theorem puts32_snoc (l : List UInt32) (x : UInt32) : puts32 (l ++ [x]) = puts32 l ++ be32 x := by simp [puts32]
theorem puts16_len (l : List UInt16) : (puts16 l).length = 2 * l.length := by
  induction l with
  | nil => rfl
  | cons x l ih => simp only [puts16, List.flatMap_cons, List.length_append, List.length_cons] at ih ⊢; rw [ih]; simp [be16]; omega
theorem puts32_len (l : List UInt32) : (puts32 l).length = 4 * l.length := by
  induction l with
  | nil => rfl
  | cons x l ih => simp only [puts32, List.flatMap_cons, List.length_append, List.length_cons] at ih ⊢; rw [ih]; simp [be32]; omega
theorem take_one {α : Type} (xs : List α) (k : Nat) (h : k < xs.length) : xs.take (k + 1) = xs.take k ++ [xs[k]] := by
  rw [List.take_succ_eq_append_getElem h]
theorem ofNat_div16 (x : UInt16) : ((UInt8.ofNat (x.toNat / 256)).toNat : Int) = (x.toNat : Int) / 256 := by
  have := x.toNat_lt
  simp; omega
theorem ofNat_mod (n : Nat) : ((UInt8.ofNat (n % 256)).toNat : Int) = (n : Int) % 256 := by
  simp
theorem ofNat_div32 (x : UInt32) : ((UInt8.ofNat (x.toNat / 16777216)).toNat : Int) = (x.toNat : Int) / 16777216 := by
  have := x.toNat_lt
  simp; omega
theorem ofNat_divmod (n k : Nat) : ((UInt8.ofNat (n / k % 256)).toNat : Int) = (n : Int) / k % 256 := by
  simp
/-- The figure of a number below 16; the text of bytes, as bytes. -/
def figs : List UInt8 := [48, 49, 50, 51, 52, 53, 54, 55, 56, 57, 97, 98, 99, 100, 101, 102]
def fig (n : Nat) : UInt8 := figs.getD n 0
def hex1 (x : UInt8) : List UInt8 := [fig (x.toNat / 16), fig (x.toNat % 16)]
def hexs (l : List UInt8) : List UInt8 := l.flatMap hex1
theorem hexs_snoc (l : List UInt8) (x : UInt8) : hexs (l ++ [x]) = hexs l ++ hex1 x := by simp [hexs]
theorem hexs_len (l : List UInt8) : (hexs l).length = 2 * l.length := by
  induction l with
  | nil => rfl
  | cons x l ih => simp only [hexs, List.flatMap_cons, List.length_append, List.length_cons] at ih ⊢; rw [ih]; simp [hex1]; omega
/-- The number that a figure is, 16 for what is none. -/
def look (c : UInt8) : Nat → Nat
  | 0 => 16
  | f + 1 => if c = fig f then f else look c f
def val (c : UInt8) : Nat := look c 16
def pairs : List UInt8 → List UInt8
  | x :: y :: r => UInt8.ofNat (val x * 16 + val y) :: pairs r
  | _ => []
def allFig (l : List UInt8) : Bool := l.all fun c => decide (val c < 16)
def good (l : List UInt8) : Bool := l.length % 2 == 0 && allFig l
theorem val_range : ∀ n, n < 256 → (val (UInt8.ofNat n) < 16 → (48 ≤ n ∧ n ≤ 57 ∧ val (UInt8.ofNat n) = n - 48) ∨ (97 ≤ n ∧ n ≤ 102 ∧ val (UInt8.ofNat n) = n - 87)) ∧ (¬ val (UInt8.ofNat n) < 16 → ¬ (48 ≤ n ∧ n ≤ 57) ∧ ¬ (97 ≤ n ∧ n ≤ 102)) := by
  decide +kernel
theorem val_of (c : UInt8) : (val c < 16 → (48 ≤ c.toNat ∧ c.toNat ≤ 57 ∧ val c = c.toNat - 48) ∨ (97 ≤ c.toNat ∧ c.toNat ≤ 102 ∧ val c = c.toNat - 87)) ∧ (¬ val c < 16 → ¬ (48 ≤ c.toNat ∧ c.toNat ≤ 57) ∧ ¬ (97 ≤ c.toNat ∧ c.toNat ≤ 102)) := by
  have := val_range c.toNat c.toNat_lt
  simpa using this
theorem look_le (c : UInt8) (f : Nat) (h : f ≤ 16) : look c f ≤ 16 := by
  induction f with
  | zero => simp [look]
  | succ f ih => simp only [look]; split; omega; exact ih (by omega)
theorem val_le (c : UInt8) : val c ≤ 16 := look_le c 16 (Nat.le_refl _)
theorem pairs_two (l : List UInt8) (x y : UInt8) (h : l.length % 2 = 0) : pairs (l ++ [x, y]) = pairs l ++ [UInt8.ofNat (val x * 16 + val y)] := by
  induction l using pairs.induct with
  | case1 a b r ih =>
    have : r.length % 2 = 0 := by simp at h; omega
    simp [pairs, ih this]
  | case2 l hl =>
    match l, hl with
    | [], _ => rfl
    | [a], _ => simp at h
    | a :: b :: r, hl => exact absurd rfl (hl a b r)
theorem pairs_one (l : List UInt8) (x : UInt8) (h : l.length % 2 = 0) : pairs (l ++ [x]) = pairs l := by
  induction l using pairs.induct with
  | case1 a b r ih =>
    have : r.length % 2 = 0 := by simp at h; omega
    simp [pairs, ih this]
  | case2 l hl =>
    match l, hl with
    | [], _ => rfl
    | [a], _ => simp at h
    | a :: b :: r, hl => exact absurd rfl (hl a b r)
theorem pairs_len (l : List UInt8) : (pairs l).length ≤ l.length := by
  induction l using pairs.induct with
  | case1 a b r ih => simp [pairs]; omega
  | case2 l hl => rw [pairs]; simp; exact hl
theorem allFig_not {l : List UInt8} {j : Nat} (hj : j < l.length) (h : ¬ val l[j] < 16) : good l = false := by
  have : allFig l = false := by
    rw [Bool.eq_false_iff]
    intro ha
    have := List.all_eq_true.1 ha l[j] (List.getElem_mem hj)
    simp at this
    omega
  simp [good, this]
theorem allFig_snoc (l : List UInt8) (x : UInt8) (h : allFig l = true) (hx : val x < 16) : allFig (l ++ [x]) = true := by
  simp [allFig] at h ⊢
  exact ⟨h, hx⟩
theorem ret_int {k : IntKind} {a b : Int} (h : a = b) : Ending.returned (.int k a) = .returned (.int k b) := by rw [h]
end Go.Proofs.YteodjajjlgekcaaDoor
