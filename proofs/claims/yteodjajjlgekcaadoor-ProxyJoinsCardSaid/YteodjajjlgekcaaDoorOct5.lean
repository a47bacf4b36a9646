/- Contracts of package octet's Join, by the library's own contract of bytes.Join. -/
import Derived.Shelf.Bytes.SlJoin
import Derived.Test.YteodjajjlgekcaaDoorOct2
import Derived.Test.YteodjajjlgekcaaDoorShelf
namespace Go.Proofs.YteodjajjlgekcaaDoor
open Go.RowKit

theorem fresh_rd {B : Nat} {w : World} {v : Value} {l : List UInt8} (h : Lib.FreshBytes B w v l) : ∃ A c, v = .slice A l.length c ∧ Rd bv w w.heap.size A c l := by
  obtain ⟨g, cap, zs, rfl, _, hlc, hcm, hz, hr, hb, hc, _⟩ := h
  refine ⟨_, _, rfl, hlc, by simpa [maxLen] using hcm, fun hh => by simp at hh, fun hn => ⟨g, 0, rfl, World.block_lt_of_cell? w ⟨g, 0, none⟩ (hc 0 (by omega)), fun j hj => ?_⟩⟩
  rw [Nat.zero_add, hc j (by omega)]
  have hjz : j < zs.length := by omega
  have hm := hr zs[j] (List.getElem_mem hjz)
  have hlj : l[j] = UInt8.ofNat zs[j].toNat := by
    have : l[j]? = (Lib.bytesOf (zs.take l.length))[j]? := by rw [hb]
    rw [List.getElem?_eq_getElem hj] at this
    simp [Lib.bytesOf, hj, hjz] at this
    exact this
  rw [hlj]
  simp [bv, List.getD, hjz]
  omega

theorem rd_holds {w : World} {B : Nat} {A : Option Addr} {c : Nat} {l : List UInt8} (h : Rd bv w B A c l) : Lib.HoldsBytes w (.slice A l.length c) l := by
  refine ⟨A, c, rfl, fun hA => ?_, fun a hA i x hx => ?_⟩
  · subst hA
    rcases l with _ | ⟨y, ys⟩
    · rfl
    · obtain ⟨_, _, h', _⟩ := h.2.2.2 (by simp)
      cases h'
  · subst hA
    have := h.news i (bv x) (by simp [hx])
    exact this

theorem join3_any (A1 A2 : Option Addr) (c1 c2 : Nat) (xs ys : List UInt8) (w : World) (h1 : Rd bv w w.heap.size A1 c1 xs) (h2 : Rd bv w w.heap.size A2 c2 ys) (g : Nat)
    (k0 : w.cell? ⟨g, 0, none⟩ = some (.slice A1 xs.length c1)) (k1 : w.cell? ⟨g, 1, none⟩ = some (.slice A2 ys.length c2)) (k2 : w.cell? ⟨g, 2, none⟩ = some (.slice A1 xs.length c1)) (hl : xs.length + ys.length ≤ 1000000) :
    Calls Tryd.prog 38 #[.slice (some ⟨g, 0, none⟩) 3 3] w fun e w' => ∃ L A c, e = .returned (.slice A L.length c) ∧ Hid (L = xs ++ (ys ++ xs)) ∧ Rd bv w' w'.heap.size A c L ∧ Below w.heap.size w w' := by
  have hP : Lib.PartsAt w ⟨g, 0, none⟩ [.slice A1 xs.length c1, .slice A2 ys.length c2, .slice A1 xs.length c1] [xs, ys, xs] := by
    refine ⟨rfl, fun i v hv => ?_, fun i v l hv hl => ?_⟩
    · rw [addr_add, Nat.zero_add]
      match i, hv with
      | 0, hv => simp at hv; subst hv; exact k0
      | 1, hv => simp at hv; subst hv; exact k1
      | 2, hv => simp at hv; subst hv; exact k2
      | i + 3, hv => simp at hv
    · match i, hv, hl with
      | 0, hv, hl => simp at hv hl; subst hv hl; exact rd_holds h1
      | 1, hv, hl => simp at hv hl; subst hv hl; exact rd_holds h2
      | 2, hv, hl => simp at hv hl; subst hv hl; exact rd_holds h1
      | i + 3, hv, hl => simp at hv
  have hj := Tryd.bytes_Join_many g 0 3 3 _ [xs, ys, xs] (.slice none 0 0) [] w rfl (by decide) hP (by decide) ⟨none, 0, rfl, fun _ => rfl, fun a ha => by cases ha⟩ (by decide) (by simp [Lib.lens]; omega)
  have HJ := Lib.hid hj
  clear hj hP k0 k1 k2 h1 h2
  go_enter Tryd.func38, Tryd.ntmps38
  go_wp2_with (go_at_call 56; refine HJ.out.mono ?_; rintro e w1 ⟨v1, rfl, hf1, hb1⟩; obtain ⟨A, c, rfl, hr⟩ := fresh_rd hf1)
  go_ret
  exact ⟨_, A, c, rfl, by simp [Hid, Lib.join, List.intercalate], hr, hb1⟩

theorem join0_any (w : World) : Calls Tryd.prog 38 #[.slice none 0 0] w fun e w' => e = .returned (.slice (some ⟨w.heap.size, 0, none⟩) 0 0) ∧ Below w.heap.size w w' := by
  have hj := Tryd.bytes_Join_none none 0 (.slice none 0 0) w
  have HJ := Lib.hid hj
  clear hj
  go_enter Tryd.func38, Tryd.ntmps38
  go_wp2_with (go_at_call 56; refine HJ.out.mono ?_; rintro e w1 ⟨rfl, rfl⟩)
  go_ret
  exact ⟨rfl, (Below.refl _ _).alloc (Nat.le_refl _) _⟩
end Go.Proofs.YteodjajjlgekcaaDoor
