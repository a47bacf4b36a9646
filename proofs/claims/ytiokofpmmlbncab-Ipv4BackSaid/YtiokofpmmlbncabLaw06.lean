/- The walks of the statements on package ipv4: what is read. -/
import Derived.Test.YtiokofpmmlbncabIp5
import Derived.Test.YtiokofpmmlbncabIp6
namespace Go.Proofs.Ytiokofpmmlbncab
open Go.RowKit

set_option maxHeartbeats 2000000 in
theorem lives06_any (w : World) : Calls Try.prog 16 #[] w fun e w' => e = .returned (.bool true) ∧ Below w.heap.size w w' := by
  obtain ⟨tos, e0⟩ : ∃ a : UInt8, (a.toNat : Int) = 0 := ⟨0, rfl⟩
  obtain ⟨id, e1⟩ : ∃ a : UInt16, (a.toNat : Int) = 0 := ⟨0, rfl⟩
  obtain ⟨fo, e4⟩ : ∃ a : UInt16, (a.toNat : Int) = 0 := ⟨0, rfl⟩
  obtain ⟨ttl, e5⟩ : ∃ a : UInt8, (a.toNat : Int) = 9 := ⟨9, rfl⟩
  obtain ⟨pr, e6⟩ : ∃ a : UInt8, (a.toNat : Int) = 17 := ⟨17, rfl⟩
  obtain ⟨s, e7⟩ : ∃ a : UInt32, (a.toNat : Int) = 1 := ⟨1, rfl⟩
  obtain ⟨d, e8⟩ : ∃ a : UInt32, (a.toNat : Int) = 2 := ⟨2, rfl⟩
  obtain ⟨h8, eh⟩ : ∃ a : UInt8, a.toNat = 69 := ⟨69, rfl⟩
  obtain ⟨os, ho⟩ : ∃ l : List UInt8, l.length = 0 := ⟨[], rfl⟩
  obtain ⟨xs, hxs⟩ : ∃ l : List UInt8, l = [7] := ⟨_, rfl⟩
  have hx : xs.length = 1 := by rw [hxs]; rfl
  obtain ⟨N, hN⟩ : ∃ N, onesN (ih h8 tos (20 + os.length + xs.length) id (wdN false false fo) ttl pr 0 s d os) = N := ⟨_, rfl⟩
  have H2 : ∀ A2 c2 W (_ : Rd bv W W.heap.size A2 c2 xs), Hid (Calls Try.prog 18 #[.agg #[.int .u8 0, .int .u16 0, .bool false, .bool false, .int .u16 0, .int .u8 9, .int .u8 17, .int .u32 1, .int .u32 2, .slice none 0 0, .slice A2 1 c2]] W fun e w' => ∃ L A c, e = .returned (.tuple #[.slice A L.length c, .int .i64 0]) ∧ Hid (L = ih h8 tos (20 + os.length + xs.length) id (wdN false false fo) ttl pr (65535 - N) s d os ++ xs) ∧ Rd bv w' w'.heap.size A c L ∧ Below W.heap.size W w') := by
    intro A2 c2 W g
    have h := pput_ok tos id false false fo ttl pr s d none A2 0 c2 os xs W (by rw [List.eq_nil_of_length_eq_zero ho]; exact Rd.nil0 _ _ _) g (by omega) (by omega) (by omega) (by omega) h8 (by omega) N hN
    simp only [e0, e1, e4, e5, e6, e7, e8] at h
    rw [ho, hx] at h
    rw [ho, hx]
    exact h
  have H3 : ∀ (P : List UInt8) (_ : P = ih h8 tos (20 + os.length + xs.length) id (wdN false false fo) ttl pr (65535 - N) s d os ++ xs) A c W (_ : Rd bv W W.heap.size A c P), Hid (Calls Try.prog 15 #[.slice A P.length c] W fun e w' => ∃ Lo Ao co Lx Ax cx, e = .returned (.tuple #[.agg #[.int .u8 0, .int .u16 0, .bool false, .bool false, .int .u16 0, .int .u8 9, .int .u8 17, .int .u32 1, .int .u32 2, .slice Ao Lo.length co, .slice Ax Lx.length cx], .int .i64 0]) ∧ Hid (Lo = os) ∧ Hid (Lx = xs) ∧ Rd bv w' w'.heap.size Ao co Lo ∧ Rd bv w' w'.heap.size Ax cx Lx ∧ Below W.heap.size W w') := by
    intro P hP A c W g
    have h := pparse_put tos id false false fo ttl pr s d os xs [] P h8 N (by omega) (by omega) (by omega) (by omega) (by simp) (by omega) hN (by rw [hP, List.append_nil]) A c W g
    simp only [e0, e1, e4, e5, e6, e7, e8] at h
    exact h
  have HLT : ∀ L : List UInt8, L = ih h8 tos (20 + os.length + xs.length) id (wdN false false fo) ttl pr (65535 - N) s d os ++ xs → L.length = 21 := fun L h => by rw [h, List.length_append, ih_len, ho, hx]
  have HL0 : ∀ L : List UInt8, L = ih h8 tos (20 + os.length + xs.length) id (wdN false false fo) ttl pr (65535 - N) s d os ++ xs → ∃ h : 0 < L.length, (L[0].toNat : Int) = 69 := fun L h => by
    have hl := HLT L h
    refine ⟨by omega, ?_⟩
    have : L[0] = h8 := (List.getElem_of_eq h _).trans rfl
    rw [this, eh]; rfl
  have HX1 : ∀ L : List UInt8, L = xs → L.length = 1 := fun L h => by rw [h, hx]
  clear hN e0 e1 e4 e5 e6 e7 e8 eh ho hx
  go_enter Try.func16, Try.ntmps16
  go_wp2_with fail
  have hr7 : Rd bv (w.alloc (.cells #[.int .u8 7] 5)) (w.alloc (.cells #[.int .u8 7] 5)).heap.size (some ⟨w.heap.size, 0, none⟩) 1 xs := by
    rw [hxs]; exact lit_at w w.heap.size [7] rfl #[.int .u8 7] rfl _ (by simp)
  refine (H2 _ _ _ hr7).out.mono ?_
  rintro e w1 ⟨L, A, c, rfl, HL, r, hbel⟩
  have hB := bnext (bnextA (Below.refl w.heap.size w) _) hbel
  have hlen := HLT L HL.out
  obtain ⟨hp, h0⟩ := HL0 L HL.out
  clear hbel H2 hr7
  go_wp2_with fail
  have h3 := H3 L HL.out _ _ _ r
  rw [hlen] at h3
  refine h3.out.mono ?_
  rintro e w2 ⟨Lo, Ao, co, Lx, Ax, cx, rfl, HLo, HLx, -, -, hbel⟩
  have hlx := HX1 Lx HLx.out
  replace hB := bnext hB hbel
  obtain ⟨b0, off, rfl, hb0, hc0⟩ := byt_at (r.next hbel) (k := 0) hp
  have k0 := hc0 0 hp
  rw [h0, Nat.add_zero] at k0
  have hi0 : (0 : Int) < 21 := by omega
  clear hbel H3 r h3 hc0
  go_wp2_with fail
  go_ret
  exact ⟨rfl, bnextA hB _⟩

theorem u16_be (xs : List UInt8) (k : Nat) (h : k + 2 ≤ xs.length) : ∃ a : UInt16, beN ((xs.drop k).take 2) = a.toNat := by
  refine ⟨UInt16.ofNat (beN ((xs.drop k).take 2)), ?_⟩
  rw [UInt16.ofNat_id _ (two_lt xs k h)]
theorem u32_be (xs : List UInt8) (k : Nat) : ∃ a : UInt32, beN ((xs.drop k).take 4) = a.toNat := by
  refine ⟨UInt32.ofNat (beN ((xs.drop k).take 4)), ?_⟩
  have := beN_lt ((xs.drop k).take 4)
  simp
  omega
end Go.Proofs.Ytiokofpmmlbncab
