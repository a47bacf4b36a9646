/- Contracts of ether.Parse. -/
import Derived.Test.YtiokofpmmlbncabEth2
import Derived.Test.YtiokofpmmlbncabOct4
namespace Go.Proofs.Ytiokofpmmlbncab
open Go.RowKit

theorem drop_len14 (xs : List UInt8) : ((xs.drop 14).take (xs.length - 14)) = xs.drop 14 := by
  rw [List.take_of_length_le (by simp)]
theorem modify_push {α : Type} (a : Array α) (x : α) (f : α → α) : (a.push x).modify a.size f = a.push (f x) := by
  apply Array.ext_getElem?
  intro i
  rw [Array.getElem?_modify, Array.getElem?_push, Array.getElem?_push]
  by_cases h : a.size = i
  · subst h; simp
  · rw [if_neg h, if_neg (fun h' => h h'.symm), if_neg (fun h' => h h'.symm)]
theorem setRow_alloc (w : World) (cs0 cs1 : Array Value) (e : TypeId) : (w.alloc (.cells cs0 e)).setRow w.heap.size cs1 = w.alloc (.cells cs1 e) := by
  unfold World.setRow World.alloc
  simp only [modify_push]
/-- Six bytes of a block that is new, by a copy. -/
theorem copy6 (w1 : World) (g o sLen sCap b off : Nat) (cs0 cs1 : Array Value) (e : TypeId) (src : List Value) (hg : g = w1.heap.size) (h6 : src.length = 6) (hs : 6 ≤ sLen) (ho : o + 6 ≤ cs0.size)
    (hcs : (cs0.toList.take o ++ src ++ cs0.toList.drop (o + 6)).toArray = cs1)
    (hsrc : ∀ j v, src[j]? = some v → (w1.alloc (.cells cs0 e)).cell? ((⟨b, off, none⟩ : Addr).add j) = some v) (h1 : ∀ v ∈ src, v.oneCell' = true) :
    (Builtin.copy_ #[22, 22] 3 #[.slice (some ⟨g, o, none⟩) 6 6, .slice (some ⟨b, off, none⟩) sLen sCap]).run Try.prog (w1.alloc (.cells cs0 e)) = .ok (goInt 6) (w1.alloc (.cells cs1 e)) := by
  obtain ⟨i0, hi0, hz0, hz1, hz2⟩ := info_parts info_u8
  subst hg
  have hmin : src.length = Nat.min sLen 6 := by rw [h6]; exact (Nat.min_eq_right hs).symm
  have hcs2 : (cs0.toList.take o ++ src ++ cs0.toList.drop (o + src.length)).toArray = cs1 := by rw [h6]; exact hcs
  have hrow := run_copy_row (P := Try.prog) (w1.alloc (.cells cs0 e)) 22 22 3 5 w1.heap.size o 6 6 ⟨b, off, none⟩ sLen sCap cs0 e src Try.underlying22 (by rw [hi0]; exact congrArg some hz1) (MapKept.heap_alloc w1 _).1 hmin hsrc (by omega) h1
  rw [hrow, h6]
  rw [h6] at hcs2
  rw [hcs2, setRow_alloc]
  rfl

end Go.Proofs.Ytiokofpmmlbncab
