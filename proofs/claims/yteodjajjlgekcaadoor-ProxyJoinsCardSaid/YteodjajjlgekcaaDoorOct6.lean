/- Contract of package octet's Join for any row of parts, by the library's own contract of bytes.Join. -/
import Derived.Test.YteodjajjlgekcaaDoorOct5
namespace Go.Proofs.YteodjajjlgekcaaDoor
open Go.RowKit

/-- Slice values that read as rows of bytes, one for one. -/
inductive PV (w : World) (B : Nat) : List Value → List (List UInt8) → Prop
  | nil : PV w B [] []
  | cons {A : Option Addr} {c : Nat} {l : List UInt8} {vs : List Value} {ls : List (List UInt8)} (h : Rd bv w B A c l) (t : PV w B vs ls) : PV w B (.slice A l.length c :: vs) (l :: ls)
theorem PV.len {w : World} {B : Nat} {vs : List Value} {ls : List (List UInt8)} (h : PV w B vs ls) : vs.length = ls.length := by
  induction h with
  | nil => rfl
  | cons _ _ ih => simp [ih]
theorem PV.get {w : World} {B : Nat} {vs : List Value} {ls : List (List UInt8)} (h : PV w B vs ls) : ∀ (i : Nat) v l, vs[i]? = some v → ls[i]? = some l → ∃ A c, v = .slice A l.length c ∧ Rd bv w B A c l := by
  induction h with
  | nil => intro i v l hv; simp at hv
  | cons h0 _ ih =>
    intro i v l hv hl
    cases i with
    | zero => simp at hv hl; subst hv hl; exact ⟨_, _, rfl, h0⟩
    | succ i => exact ih i v l (by simpa using hv) (by simpa using hl)
theorem PV.keep {w w' : World} {B : Nat} {vs : List Value} {ls : List (List UInt8)} (h : PV w B vs ls) (hb : Below B w w') : PV w' B vs ls := by
  induction h with
  | nil => exact .nil
  | cons h0 _ ih => exact .cons (h0.below hb) ih
/-- n slice values from the beginning of block g on, each reading as one of ls. -/
def Parts (w : World) (B g : Nat) (ls : List (List UInt8)) : Prop := ∃ vs, PV w B vs ls ∧ ∀ (i : Nat) v, vs[i]? = some v → w.cell? ⟨g, i, none⟩ = some v
theorem parts_at {w : World} {vs : List Value} {ls : List (List UInt8)} (g : Nat) (hg : g = w.heap.size) (h : PV w w.heap.size vs ls) (cs : Array Value) (hc : cs.toList = vs) (e : TypeId) : Parts (w.alloc (.cells cs e)) w.heap.size g ls := by
  subst hg
  refine ⟨vs, h.keep ((Below.refl _ _).alloc (Nat.le_refl _) _), fun i v hv => ?_⟩
  subst hc
  simpa using hv
theorem parts_lit {w : World} {vs : List Value} {ls : List (List UInt8)} (h : PV w w.heap.size vs ls) (cs : Array Value) (hc : cs.toList = vs) (e : TypeId) : Parts (w.alloc (.cells cs e)) w.heap.size w.heap.size ls := parts_at _ rfl h cs hc e
/-- A literal of bytes, at whatever block. -/
theorem lit_at (w : World) (g : Nat) (xs : List UInt8) (hg : g = w.heap.size) (cs : Array Value) (h : cs.toList = xs.map bv) (e : TypeId) (hl : xs.length ≤ 9223372036854775807) : Rd bv (w.alloc (.cells cs e)) (w.alloc (.cells cs e)).heap.size (some ⟨g, 0, none⟩) xs.length xs := by
  subst hg
  simpa using rd_lit w cs e xs h hl
theorem lit16_at (w : World) (g : Nat) (xs : List UInt16) (hg : g = w.heap.size) (cs : Array Value) (h : cs.toList = xs.map hv) (e : TypeId) (hl : xs.length ≤ 9223372036854775807) : Rd hv (w.alloc (.cells cs e)) (w.alloc (.cells cs e)).heap.size (some ⟨g, 0, none⟩) xs.length xs := by
  subst hg
  simpa using rd_lit w cs e xs h hl
theorem lit32_at (w : World) (g : Nat) (xs : List UInt32) (hg : g = w.heap.size) (cs : Array Value) (h : cs.toList = xs.map wv) (e : TypeId) (hl : xs.length ≤ 9223372036854775807) : Rd wv (w.alloc (.cells cs e)) (w.alloc (.cells cs e)).heap.size (some ⟨g, 0, none⟩) xs.length xs := by
  subst hg
  simpa using rd_lit w cs e xs h hl
theorem put16_nil (A2 : Option Addr) (c2 : Nat) (xs : List UInt16) (w : World) (hx : Rd hv w w.heap.size A2 c2 xs) (hl2 : xs.length ≤ 1000000) :
    Calls Tryd.prog 58 #[.slice none 0 0, .slice A2 xs.length c2] w fun e w' => ∃ L A c, e = .returned (.slice A L.length c) ∧ Hid (L = puts16 xs) ∧ Rd bv w' w'.heap.size A c L ∧ Below w.heap.size w w' :=
  (put16_any none 0 [] A2 c2 xs w (Rd.nil0 _ _ _) hx (by simp) hl2).mono fun e w' ⟨v, he, ho, hb, _⟩ => by
    obtain ⟨L, A, c, HL, rfl, hr⟩ := ho.rdv
    exact ⟨L, A, c, he, HL, hr, hb⟩
theorem put32_nil (A2 : Option Addr) (c2 : Nat) (xs : List UInt32) (w : World) (hx : Rd wv w w.heap.size A2 c2 xs) (hl2 : xs.length ≤ 1000000) :
    Calls Tryd.prog 39 #[.slice none 0 0, .slice A2 xs.length c2] w fun e w' => ∃ L A c, e = .returned (.slice A L.length c) ∧ Hid (L = puts32 xs) ∧ Rd bv w' w'.heap.size A c L ∧ Below w.heap.size w w' :=
  (put32_any none 0 [] A2 c2 xs w (Rd.nil0 _ _ _) hx (by simp) hl2).mono fun e w' ⟨v, he, ho, hb, _⟩ => by
    obtain ⟨L, A, c, HL, rfl, hr⟩ := ho.rdv
    exact ⟨L, A, c, he, HL, hr, hb⟩
theorem Parts.more {w : World} {B B' g : Nat} {ls : List (List UInt8)} (h : Parts w B g ls) (hB : B ≤ B') : Parts w B' g ls := by
  obtain ⟨vs, hp, hc⟩ := h
  refine ⟨vs, ?_, hc⟩
  clear hc
  induction hp with
  | nil => exact .nil
  | cons h0 _ ih => exact .cons (h0.more hB) ih
theorem intercalate_nil : ∀ ls : List (List UInt8), Lib.join ls [] = ls.flatten := by
  intro ls
  unfold Lib.join
  induction ls with
  | nil => rfl
  | cons a l ih =>
    cases l with
    | nil => simp [List.intercalate]
    | cons b r =>
      have h : List.intercalate ([] : List UInt8) (a :: b :: r) = a ++ List.intercalate [] (b :: r) := rfl
      rw [h, ih]; rfl
theorem lens_flatten (ls : List (List UInt8)) : Lib.lens ls = ls.flatten.length := by
  rw [List.length_flatten]; rfl

theorem join_any (w : World) (B g n : Nat) (ls : List (List UInt8)) (h : Parts w B g ls) (hn : ls.length = n) (hn1 : 1 ≤ n) (hn2 : n ≤ 1000) (hl : ls.flatten.length ≤ 1000000000) :
    Calls Tryd.prog 38 #[.slice (some ⟨g, 0, none⟩) n n] w fun e w' => ∃ L A c, e = .returned (.slice A L.length c) ∧ Hid (L = ls.flatten) ∧ Rd bv w' w'.heap.size A c L ∧ Below w.heap.size w w' := by
  obtain ⟨vs, hp, hc⟩ := h
  rcases Nat.lt_or_ge 1 n with h2 | h2
  · have hP : Lib.PartsAt w ⟨g, 0, none⟩ vs ls := by
      refine ⟨hp.len, fun i v hv => ?_, fun i v l hv hl => ?_⟩
      · rw [addr_add, Nat.zero_add]; exact hc i v hv
      · obtain ⟨A, c, rfl, hr⟩ := hp.get i v l hv hl
        exact rd_holds hr
    have hlb : Lib.lens ls + ([] : List UInt8).length * (n - 1) ≤ 140737488355328 := by
      have h0 : ([] : List UInt8).length * (n - 1) = 0 := by simp
      rw [lens_flatten, h0]; omega
    have hj := Tryd.bytes_Join_many g 0 n n vs ls (.slice none 0 0) [] w hn h2 hP (Nat.le_refl _) ⟨none, 0, rfl, fun _ => rfl, fun a ha => by cases ha⟩ (by omega) hlb
    rw [intercalate_nil] at hj
    obtain ⟨L0, hL0⟩ : ∃ L, L = ls.flatten := ⟨_, rfl⟩
    rw [← hL0] at hj
    have HJ := Lib.hid hj
    have HL0 := Lib.hid hL0
    clear hj hP hc hp hl hL0
    go_enter Tryd.func38, Tryd.ntmps38
    go_wp2_with (go_at_call 56; refine HJ.out.mono ?_; rintro e w1 ⟨v1, rfl, hf1, hb1⟩; obtain ⟨A, c, rfl, hr⟩ := fresh_rd hf1)
    go_ret
    exact ⟨L0, A, c, rfl, HL0, hr, hb1⟩
  · obtain rfl : n = 1 := by omega
    match ls, hn, vs, hp, hc with
    | [l], _, [v], hp, hc =>
      obtain ⟨A, c, rfl, hr⟩ := hp.get 0 v l rfl rfl
      have h0 := hc 0 _ rfl
      by_cases hl0 : l.length = 0
      · obtain rfl := List.eq_nil_of_length_eq_zero hl0
        have hj := Tryd.bytes_Join_one_empty g 0 1 A c (.slice none 0 0) w h0
        have HJ := Lib.hid hj
        clear hj hp hc hl h0 hr
        go_enter Tryd.func38, Tryd.ntmps38
        go_wp2_with (go_at_call 56; refine HJ.out.mono ?_; rintro e w1 ⟨rfl, rfl⟩)
        go_ret
        exact ⟨[], none, 0, rfl, rfl, Rd.nil0 _ _ _, Below.refl _ _⟩
      · obtain ⟨b, off, rfl, hB, hcell⟩ := hr.2.2.2 (by omega)
        have hl' : l.length ≤ 1000000000 := by simpa using hl
        have hj := Tryd.bytes_Join_one g 0 1 ⟨b, off, none⟩ c l (.slice none 0 0) w h0 (fun i x hx => hr.news i (bv x) (by simp [hx])) (by omega) (by omega)
        have HJ := Lib.hid hj
        clear hj hp hc hl h0 hr hcell hl'
        go_enter Tryd.func38, Tryd.ntmps38
        go_wp2_with (go_at_call 56; refine HJ.out.mono ?_; rintro e w1 ⟨v1, rfl, hf1, hb1⟩; obtain ⟨A, c, rfl, hr⟩ := fresh_rd hf1)
        go_ret
        exact ⟨_, A, c, rfl, by simp [Hid], hr, hb1⟩
    | [l], _, [], hp, _ => exact absurd hp.len (by simp)
    | [l], _, _ :: _ :: _, hp, _ => exact absurd hp.len (by simp)
end Go.Proofs.YteodjajjlgekcaaDoor
