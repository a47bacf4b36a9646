/- Contracts of whole and of the reference's Own for package tun. -/
import Derived.Test.YtkoamiefombilaaIp8
import Derived.Test.YtkoamiefombilaaIp9
import Derived.Test.YtkoamiefombilaaReg2
import Derived.Test.YtkoamiefombilaaReg4
namespace Go.Proofs.Ytkoamiefombilaa
open Go.RowKit

theorem Rd.othr {α : Type} {f : α → Value} {w : World} {B b off c g : Nat} {xs : List α} (h : Rd f w B (some ⟨b, off, none⟩) c xs) (hne : b ≠ g) (i : Nat) (v : Value) : Rd f (w.setCell ⟨g, i, none⟩ v) B (some ⟨b, off, none⟩) c xs := by
  refine ⟨h.1, h.2.1, h.2.2.1, fun hn => ?_⟩
  obtain ⟨b', off', e, hb, hc⟩ := h.2.2.2 hn
  injection e with e
  injection e with e1 e2 e3
  subst e1 e2
  refine ⟨b, off, rfl, hb, fun j hj => ?_⟩
  rw [← hc j hj]
  unfold World.cell?
  rw [Below.heap_setCell w ⟨g, i, none⟩ v b hne]
/-- b[:n] of a slice that reads as a list. -/
theorem Rd.slice_h {P : Program} {w : World} {t e : TypeId} (ht : P.underlying t = some (.slice e)) {i : TypeInfo} (hi : P.info? e = some i) (hs : i.size = 1) {α : Type} {f : α → Value} {B : Nat} {A : Option Addr} {c : Nat} {xs : List α}
    (h : Rd f w B A c xs) (n : Nat) (N : Int) (hN : N = n) (hn : n ≤ xs.length) (W : World) : (Instr.slice t (.slice A xs.length c) none (some (.int .i64 N)) none).run P W = .ok (.slice A n c) W := by
  subst hN
  have hl := h.len
  have he : P.elem t = e := by simp [Program.elem, ht]
  have ht' : P.underlying t = some (.slice (P.elem t)) := by rw [he]; exact ht
  rw [run_slice_h W t A xs.length c ht' .i64 n (by omega) (by omega), he]
  have ha : (if c = 0 then A else A.map (fun x => x.add (0 * 1))) = A := by
    split
    · rfl
    · cases A <;> simp [Addr.add]
  simp [sizeOf, typeInfo, hi, hs, sliced] at ha ⊢
  exact ha

set_option maxHeartbeats 4000000 in
theorem twhole_any (tos : UInt8) (id : UInt16) (D M : Bool) (fo : UInt16) (ttl pr : UInt8) (s d : UInt32) (A1 A2 : Option Addr) (n1 c1 n2 c2 : Nat) (A : Option Addr) (c : Nat) (xs : List UInt8) (al : Nat) (w : World) (hr : Rd bv w w.heap.size A c xs) (h1 : n1 ≤ 1000000) (hk : 20 + n1 + n2 = al) (hal : al ≤ xs.length) (hl : xs.length ≤ 1000000) :
    Calls Try.prog 64 #[.agg #[.int .u8 (tos.toNat : Int), .int .u16 (id.toNat : Int), .bool D, .bool M, .int .u16 (fo.toNat : Int), .int .u8 (ttl.toNat : Int), .int .u8 (pr.toNat : Int), .int .u32 (s.toNat : Int), .int .u32 (d.toNat : Int), .slice A1 n1 c1, .slice A2 n2 c2], .slice A xs.length c] w fun e w' => ∃ L A1 c1, e = .returned (.slice A1 L.length c1) ∧ Hid (L = xs.take al) ∧ Rd bv w' w'.heap.size A1 c1 L ∧ Below w.heap.size w w' := by
  have hlc := hr.len
  have hcc := hr.cap
  obtain ⟨W1, hW1⟩ : ∃ W1, W1 = w.alloc (.cells #[.int .u8 (tos.toNat : Int), .int .u16 (id.toNat : Int), .bool D, .bool M, .int .u16 (fo.toNat : Int), .int .u8 (ttl.toNat : Int), .int .u8 (pr.toNat : Int), .int .u32 (s.toNat : Int), .int .u32 (d.toNat : Int), .slice A1 n1 c1, .slice A2 n2 c2] 38) := ⟨_, rfl⟩
  have hB1 : Below w.heap.size w W1 := by subst hW1; exact bnextA (Below.refl _ _) _
  have hK1 : Blk W1 w.heap.size [.int .u8 (tos.toNat : Int), .int .u16 (id.toNat : Int), .bool D, .bool M, .int .u16 (fo.toNat : Int), .int .u8 (ttl.toNat : Int), .int .u8 (pr.toNat : Int), .int .u32 (s.toNat : Int), .int .u32 (d.toNat : Int), .slice A1 n1 c1, .slice A2 n2 c2] 38 := by subst hW1; exact Blk.new _ _ _
  have HS : ∀ W, Below W1.heap.size W1 W → (W.cell? ⟨w.heap.size, 10, none⟩ = some (.slice A2 n2 c2) ∧ W.cell? ⟨w.heap.size, 9, none⟩ = some (.slice A1 n1 c1)) := fun W h => ⟨(hK1.next h).cell 10, (hK1.next h).cell 9⟩
  replace hr := hr.next hB1
  have wa : IntKind.i64.wrap (20 + (n1 : Int) + (n2 : Int)) = (al : Int) := by rw [IntKind.wrap_i64]; omega
  have HZ := fun W => Lib.hid (psize_any tos id D M fo ttl pr s d A1 A2 n1 c1 n2 c2 W h1)
  have HC : ∀ W, Rd bv W W.heap.size A c xs → Hid (Calls Try.prog 56 #[.slice A xs.length c, .int .i64 0, .int .i64 (al : Int)] W fun e w' => ∃ L A1 c1, e = .returned (.tuple #[.slice A1 L.length c1, .bool true]) ∧ Hid (L = xs.take al) ∧ Rd bv w' w'.heap.size A1 c1 L ∧ Below W.heap.size W w') := by
    intro W g
    refine Lib.hid ((cut_b A c xs 0 al 0 al rfl rfl W g (by omega) hl).mono ?_)
    rintro e w' ⟨v, rfl, ho, hb⟩
    obtain ⟨L, A1, c1, HL, rfl, hrd⟩ := ho.rdv
    exact ⟨L, A1, c1, rfl, HL, hrd, hb⟩
  go_enter Try.func64, Try.ntmps64
  go_wp2_with fail
  rw [← hW1]
  clear hW1
  refine region_put (by kernel_rfl) (by kernel_rfl) (by kernel_rfl) 19 rfl (by kernel_rfl) W1 (fun i v W => match i with
      | 0 => v = .slice A xs.length c
      | 1 => v = .agg #[.int .u8 (tos.toNat : Int), .int .u16 (id.toNat : Int), .bool D, .bool M, .int .u16 (fo.toNat : Int), .int .u8 (ttl.toNat : Int), .int .u8 (pr.toNat : Int), .int .u32 (s.toNat : Int), .int .u32 (d.toNat : Int), .slice A1 n1 c1, .slice A2 n2 c2]
      | 2 => v = .int .i64 (20 + (n1 : Int))
      | 3 => v = .pointer (some ⟨w.heap.size, 10, none⟩)
      | 4 => v = .slice A2 n2 c2
      | 5 => v = .int .i64 (n2 : Int)
      | 6 => v = .int .i64 (al : Int)
      | 7 => ∃ L A c, v = .tuple #[.slice A L.length c, .bool true] ∧ Hid (L = xs.take al) ∧ Rd bv W W.heap.size A c L
      | 8 => ∃ L A c, v = .tuple #[.slice A L.length c, .bool true] ∧ Hid (L = xs.take al) ∧ Rd bv W W.heap.size A c L
      | 9 => ∃ L A c, v = .slice A L.length c ∧ Hid (L = xs.take al) ∧ Rd bv W W.heap.size A c L
      | 10 => v = .bool true
      | 11 => ∃ L A c, v = .slice A L.length c ∧ Hid (L = xs.take al) ∧ Rd bv W W.heap.size A c L
      | 12 => v = .bool true
      | _ => True) (Below.refl _ _) ?_ ?_ ?_
  · intro i v W W' h hb
    match i, h with
    | 0, h => exact h
    | 1, h => exact h
    | 2, h => exact h
    | 3, h => exact h
    | 4, h => exact h
    | 5, h => exact h
    | 6, h => exact h
    | 7, h => obtain ⟨L, A, c, h1, h2, h3⟩ := h; exact ⟨L, A, c, h1, h2, h3.next hb⟩
    | 8, h => obtain ⟨L, A, c, h1, h2, h3⟩ := h; exact ⟨L, A, c, h1, h2, h3.next hb⟩
    | 9, h => obtain ⟨L, A, c, h1, h2, h3⟩ := h; exact ⟨L, A, c, h1, h2, h3.next hb⟩
    | 10, h => exact h
    | 11, h => obtain ⟨L, A, c, h1, h2, h3⟩ := h; exact ⟨L, A, c, h1, h2, h3.next hb⟩
    | 12, h => exact h
    | _ + 13, _ => trivial
  · intro i o uu W hoo hVW hd
    rcases i with _|_|_|_|_|_|_|_|_|_|_|_|_|i
    · obtain rfl := Option.some.inj hoo
      refine .inl ⟨wanted_none rfl, ?_⟩
      generalize hev : Act.eval _ = ev
      have ec : ∀ c, ev (.const c) = c := fun c => by rw [← hev]; rfl
      have e1 : ev (.tmp 1) = .slice A xs.length c := by rw [← hev]; exact eval_old (by kernel_rfl) 19 rfl (by decide) rfl
      clear hev hd
      exact .inl ⟨_, W, by go_simp, rfl, Below.refl _ _⟩
    · obtain rfl := Option.some.inj hoo
      refine .inl ⟨wanted_none rfl, ?_⟩
      generalize hev : Act.eval _ = ev
      have ec : ∀ c, ev (.const c) = c := fun c => by rw [← hev]; rfl
      have e2 : ev (.tmp 2) = .pointer (some ⟨w.heap.size, 0, none⟩) := by rw [← hev]; exact eval_old (by kernel_rfl) 19 rfl (by decide) rfl
      clear hev hd
      exact .inl ⟨_, W, load_blk Try.underlying38 (by kernel_rfl) (hK1.next hVW) rfl e2, rfl, Below.refl _ _⟩
    · obtain rfl := Option.some.inj hoo
      have q1 : uu 1 = .agg #[.int .u8 (tos.toNat : Int), .int .u16 (id.toNat : Int), .bool D, .bool M, .int .u16 (fo.toNat : Int), .int .u8 (ttl.toNat : Int), .int .u8 (pr.toNat : Int), .int .u32 (s.toNat : Int), .int .u32 (d.toNat : Int), .slice A1 n1 c1, .slice A2 n2 c2] := hd 1 (by kernel_rfl)
      refine .inl ⟨wanted_none rfl, ?_⟩
      generalize hev : Act.eval _ = ev
      have ec : ∀ c, ev (.const c) = c := fun c => by rw [← hev]; rfl
      have ef : ∀ f, ev (.func f) = .func (.func f) #[] #[] := fun f => by rw [← hev]; rfl
      have e9 : ev (.tmp 9) = .agg #[.int .u8 (tos.toNat : Int), .int .u16 (id.toNat : Int), .bool D, .bool M, .int .u16 (fo.toNat : Int), .int .u8 (ttl.toNat : Int), .int .u8 (pr.toNat : Int), .int .u32 (s.toNat : Int), .int .u32 (d.toNat : Int), .slice A1 n1 c1, .slice A2 n2 c2] := by rw [← hev]; exact (eval_put (by kernel_rfl) 19 rfl (by decide)).trans q1
      clear hev hd q1
      exact .inr ⟨_, _, _, by go_simp, (HZ W).out, fun e w' he => ⟨_, he.1, rfl, he.2⟩⟩
    · obtain rfl := Option.some.inj hoo
      refine .inl ⟨wanted_none rfl, ?_⟩
      generalize hev : Act.eval _ = ev
      have ec : ∀ c, ev (.const c) = c := fun c => by rw [← hev]; rfl
      have e2 : ev (.tmp 2) = .pointer (some ⟨w.heap.size, 0, none⟩) := by rw [← hev]; exact eval_old (by kernel_rfl) 19 rfl (by decide) rfl
      clear hev hd
      exact .inl ⟨_, W, by go_simp, rfl, Below.refl _ _⟩
    · obtain rfl := Option.some.inj hoo
      have q3 : uu 3 = .pointer (some ⟨w.heap.size, 10, none⟩) := hd 3 (by kernel_rfl)
      refine .inl ⟨wanted_none rfl, ?_⟩
      generalize hev : Act.eval _ = ev
      have ec : ∀ c, ev (.const c) = c := fun c => by rw [← hev]; rfl
      have e11 : ev (.tmp 11) = .pointer (some ⟨w.heap.size, 10, none⟩) := by rw [← hev]; exact (eval_put (by kernel_rfl) 19 rfl (by decide)).trans q3
      clear hev hd q3
      obtain ⟨cc0, cc1⟩ := HS W hVW
      exact .inl ⟨_, W, by go_simp, rfl, Below.refl _ _⟩
    · obtain rfl := Option.some.inj hoo
      have q4 : uu 4 = .slice A2 n2 c2 := hd 4 (by kernel_rfl)
      refine .inl ⟨wanted_none rfl, ?_⟩
      generalize hev : Act.eval _ = ev
      have ec : ∀ c, ev (.const c) = c := fun c => by rw [← hev]; rfl
      have e12 : ev (.tmp 12) = .slice A2 n2 c2 := by rw [← hev]; exact (eval_put (by kernel_rfl) 19 rfl (by decide)).trans q4
      clear hev hd q4
      exact .inl ⟨_, W, by go_simp, rfl, Below.refl _ _⟩
    · obtain rfl := Option.some.inj hoo
      have q2 : uu 2 = .int .i64 (20 + (n1 : Int)) := hd 2 (by kernel_rfl)
      have q5 : uu 5 = .int .i64 (n2 : Int) := hd 5 (by kernel_rfl)
      refine .inl ⟨wanted_none rfl, ?_⟩
      generalize hev : Act.eval _ = ev
      have ec : ∀ c, ev (.const c) = c := fun c => by rw [← hev]; rfl
      have e10 : ev (.tmp 10) = .int .i64 (20 + (n1 : Int)) := by rw [← hev]; exact (eval_put (by kernel_rfl) 19 rfl (by decide)).trans q2
      have e13 : ev (.tmp 13) = .int .i64 (n2 : Int) := by rw [← hev]; exact (eval_put (by kernel_rfl) 19 rfl (by decide)).trans q5
      clear hev hd q2 q5
      exact .inl ⟨_, W, by go_simp, rfl, Below.refl _ _⟩
    · obtain rfl := Option.some.inj hoo
      have q0 : uu 0 = .slice A xs.length c := hd 0 (by kernel_rfl)
      have q6 : uu 6 = .int .i64 (al : Int) := hd 6 (by kernel_rfl)
      refine .inl ⟨wanted_none rfl, ?_⟩
      generalize hev : Act.eval _ = ev
      have ec : ∀ c, ev (.const c) = c := fun c => by rw [← hev]; rfl
      have ef : ∀ f, ev (.func f) = .func (.func f) #[] #[] := fun f => by rw [← hev]; rfl
      have e8 : ev (.tmp 8) = .slice A xs.length c := by rw [← hev]; exact (eval_put (by kernel_rfl) 19 rfl (by decide)).trans q0
      have e14 : ev (.tmp 14) = .int .i64 (al : Int) := by rw [← hev]; exact (eval_put (by kernel_rfl) 19 rfl (by decide)).trans q6
      clear hev hd q0 q6
      exact .inr ⟨_, _, _, by go_simp, (HC W (hr.next hVW)).out, fun e w' he => by
        obtain ⟨L, A, c, rfl, HL, hr, hb⟩ := he
        exact ⟨_, rfl, ⟨L, A, c, rfl, HL, hr⟩, hb⟩⟩
    · obtain rfl := Option.some.inj hoo
      obtain ⟨L7, A7, c7, q7, HL7, r7⟩ := hd 7 (by kernel_rfl)
      refine .inl ⟨wanted_none rfl, ?_⟩
      generalize hev : Act.eval _ = ev
      have ec : ∀ c, ev (.const c) = c := fun c => by rw [← hev]; rfl
      have e15 : ev (.tmp 15) = .tuple #[.slice A7 L7.length c7, .bool true] := by rw [← hev]; exact (eval_put (by kernel_rfl) 19 rfl (by decide)).trans q7
      clear hev hd q7
      exact .inl ⟨_, W, by go_simp, ⟨L7, A7, c7, rfl, HL7, r7⟩, Below.refl _ _⟩
    · obtain rfl := Option.some.inj hoo
      obtain ⟨L8, A8, c8, q8, HL8, r8⟩ := hd 8 (by kernel_rfl)
      refine .inl ⟨wanted_none rfl, ?_⟩
      generalize hev : Act.eval _ = ev
      have ec : ∀ c, ev (.const c) = c := fun c => by rw [← hev]; rfl
      have e7 : ev (.tmp 7) = .tuple #[.slice A8 L8.length c8, .bool true] := by rw [← hev]; exact (eval_put (by kernel_rfl) 19 rfl (by decide)).trans q8
      clear hev hd q8
      exact .inl ⟨_, W, by go_simp, ⟨L8, A8, c8, rfl, HL8, r8⟩, Below.refl _ _⟩
    · obtain rfl := Option.some.inj hoo
      obtain ⟨L8, A8, c8, q8, HL8, r8⟩ := hd 8 (by kernel_rfl)
      refine .inl ⟨wanted_none rfl, ?_⟩
      generalize hev : Act.eval _ = ev
      have ec : ∀ c, ev (.const c) = c := fun c => by rw [← hev]; rfl
      have e7 : ev (.tmp 7) = .tuple #[.slice A8 L8.length c8, .bool true] := by rw [← hev]; exact (eval_put (by kernel_rfl) 19 rfl (by decide)).trans q8
      clear hev hd q8
      exact .inl ⟨_, W, by go_simp, rfl, Below.refl _ _⟩
    · obtain rfl := Option.some.inj hoo
      obtain ⟨L9, A9, c9, q9, HL9, r9⟩ := hd 9 (by kernel_rfl)
      refine .inl ⟨wanted_none rfl, ?_⟩
      generalize hev : Act.eval _ = ev
      have ec : ∀ c, ev (.const c) = c := fun c => by rw [← hev]; rfl
      have e16 : ev (.tmp 16) = .slice A9 L9.length c9 := by rw [← hev]; exact (eval_put (by kernel_rfl) 19 rfl (by decide)).trans q9
      clear hev hd q9
      exact .inl ⟨_, W, by go_simp, ⟨L9, A9, c9, rfl, HL9, r9⟩, Below.refl _ _⟩
    · obtain rfl := Option.some.inj hoo
      have q10 : uu 10 = .bool true := hd 10 (by kernel_rfl)
      refine .inl ⟨wanted_none rfl, ?_⟩
      generalize hev : Act.eval _ = ev
      have ec : ∀ c, ev (.const c) = c := fun c => by rw [← hev]; rfl
      have e17 : ev (.tmp 17) = .bool true := by rw [← hev]; exact (eval_put (by kernel_rfl) 19 rfl (by decide)).trans q10
      clear hev hd q10
      exact .inl ⟨_, W, by go_simp, rfl, Below.refl _ _⟩
    · simp at hoo
  · intro uu W hVW hall
    obtain ⟨L9, A9, c9, q9, HL9, r9⟩ := hall 9 (by decide)
    have q11 : ∃ L A c, uu 11 = .slice A L.length c ∧ Hid (L = xs.take al) ∧ Rd bv W W.heap.size A c L := hall 11 (by decide)
    obtain ⟨L, A3, c3, q11, HL, r3⟩ := q11
    replace hB1 := hB1.trans (hVW.mono hB1.size)
    clear hall HS HZ HC q9 HL9 r9 hVW
    simp only [putAll, Act.put, Nat.reduceAdd, q11]
    simp only [List.setIfInBounds_toArray, List.set_cons_succ, List.set_cons_zero]
    clear q11
    go_wp2_with fail
    go_ret
    exact ⟨L, A3, c3, rfl, HL, r3, hB1⟩

theorem own_bad (e0 : Int) (he : ((e0 : Int) != 0) = true) (A : Option Addr) (c : Nat) (xs : List UInt8) (w : World) (HP : Hid (Calls Try.prog 85 #[.slice A xs.length c] w fun e w' => e = .returned (.tuple #[.agg #[.int .u8 0, .int .u16 0, .bool false, .bool false, .int .u16 0, .int .u8 0, .int .u8 0, .int .u32 0, .int .u32 0, .slice none 0 0, .slice none 0 0], .int .i64 e0]) ∧ Below w.heap.size w w')) :
    Calls Try.prog 66 #[.slice A xs.length c] w fun e w' => e = .returned (.tuple #[.slice none 0 0, .int .i64 e0]) ∧ Below w.heap.size w w' := by
  go_enter Try.func66, Try.ntmps66
  go_wp2_with fail
  refine HP.out.mono ?_
  rintro e w2 ⟨rfl, hbel⟩
  have hB := bnext (Below.refl w.heap.size w) hbel
  clear hbel HP
  go_wp2_with fail
  go_ret2
  exact ⟨rfl, bnextA hB _⟩

set_option maxHeartbeats 4000000 in
theorem own_ok {m fl al : Nat} {tos : UInt8} {id : UInt16} {D M : Bool} {fo : UInt16} {ttl pr : UInt8} {s d : UInt32} (A : Option Addr) (c : Nat) (xs : List UInt8) (w : World) (hr : Rd bv w w.heap.size A c xs) (hl : xs.length ≤ 1000000) (hk : IpOk xs m fl al tos id D M fo ttl pr s d) :
    Calls Try.prog 66 #[.slice A xs.length c] w fun e w' => ∃ L A1 c1, e = .returned (.tuple #[.slice A1 L.length c1, .int .i64 0]) ∧ Hid (L = xs.take al) ∧ Rd bv w' w'.heap.size A1 c1 L ∧ Below w.heap.size w w' := by
  have hlc := hr.len
  have hcc := hr.cap
  obtain ⟨i0, hi0, hz0, hz1, hz2⟩ := info_parts info_u8
  have h20 := hk.h20
  have hov := hk.hov
  have HP := fun W (g : Rd bv W W.heap.size A c xs) => Lib.hid (hk.rparse hl A c W g)
  have h2 := two_of xs 2 _ (by omega) hk.hal
  obtain ⟨x2, e2⟩ : ∃ x, xs[2] = x := ⟨_, rfl⟩
  obtain ⟨x3, e3⟩ : ∃ x, xs[3] = x := ⟨_, rfl⟩
  simp only [Nat.reduceAdd, e2, e3] at h2
  have l2 := x2.toNat_lt
  have l3 := x3.toNat_lt
  obtain ⟨b0, off, rfl, hb0, hc0⟩ := byt_at hr (k := 0) (by omega)
  have HSL := hr.slice_h Try.underlying23 hi0 hz1 al (al : Int) rfl hov
  have hta : (xs.take al).length = al := by simp; omega
  have HA : ∀ W A' c' L, Rd bv W W.heap.size A' c' L → Hid (L = xs.take al) → Hid (Calls Try.prog 41 #[.slice A' L.length c', .slice none 0 0] W fun e w' => ∃ L A1 c1, e = .returned (.slice A1 L.length c1) ∧ Hid (L = xs.take al) ∧ Rd bv w' w'.heap.size A1 c1 L ∧ Below W.heap.size W w') := by
    intro W A' c' L g HL
    have hLl : L.length ≤ 1000000 := by rw [HL.out, hta]; omega
    refine Lib.hid ((radd_any A' none c' 0 L [] W g (Rd.nil0 _ _ _) (by simp; omega)).mono ?_)
    rintro e w' ⟨v, rfl, ho, hb⟩
    rw [List.append_nil, HL.out] at ho
    obtain ⟨L, A1, c1, HL, rfl, hrd⟩ := ho.rdv
    exact ⟨L, A1, c1, rfl, HL, hrd, hb⟩
  clear hk hc0
  go_enter Try.func66, Try.ntmps66
  go_wp2_with fail
  refine (HP _ hr).out.mono ?_
  rintro e w2 ⟨Lo, Ao, co, Lx, Ax, cx, rfl, -, -, -, -, hbel⟩
  have hB := bnextA (bnext (Below.refl w.heap.size w) hbel) (.cells #[.int .u8 (tos.toNat : Int), .int .u16 (id.toNat : Int), .bool D, .bool M, .int .u16 (fo.toNat : Int), .int .u8 (ttl.toNat : Int), .int .u8 (pr.toNat : Int), .int .u32 (s.toNat : Int), .int .u32 (d.toNat : Int), .slice Ao Lo.length co, .slice Ax Lx.length cx] 38)
  replace hr := (hr.next hbel).nextA (.cells #[.int .u8 (tos.toNat : Int), .int .u16 (id.toNat : Int), .bool D, .bool M, .int .u16 (fo.toNat : Int), .int .u8 (ttl.toNat : Int), .int .u8 (pr.toNat : Int), .int .u32 (s.toNat : Int), .int .u32 (d.toNat : Int), .slice Ao Lo.length co, .slice Ax Lx.length cx] 38)
  clear hbel HP
  go_wp2_with fail
  generalize w2.alloc (.cells #[.int .u8 (tos.toNat : Int), .int .u16 (id.toNat : Int), .bool D, .bool M, .int .u16 (fo.toNat : Int), .int .u8 (ttl.toNat : Int), .int .u8 (pr.toNat : Int), .int .u32 (s.toNat : Int), .int .u32 (d.toNat : Int), .slice Ao Lo.length co, .slice Ax Lx.length cx] 38) = V at *
  have d2 : 2 < xs.length := by omega
  have d3 : 3 < xs.length := by omega
  have i2 : (2 : Int) < (xs.length : Int) := by omega
  have i3 : (3 : Int) < (xs.length : Int) := by omega
  have w1 : IntKind.i64.wrap ((x2.toNat : Int)) = (x2.toNat : Int) := by rw [IntKind.wrap_i64]; omega
  have w3 : IntKind.i64.wrap ((x3.toNat : Int)) = (x3.toNat : Int) := by rw [IntKind.wrap_i64]; omega
  have w4 : IntKind.i64.wrap ((x2.toNat : Int) * 256) = (x2.toNat : Int) * 256 := by rw [IntKind.wrap_i64]; omega
  have w5 : IntKind.i64.wrap ((x2.toNat : Int) * 256 + (x3.toNat : Int)) = (al : Int) := by rw [IntKind.wrap_i64]; omega
  have HCC : ∀ W, Below V.heap.size V W → (W.cell? ⟨b0, off + 2, none⟩ = some (.int .u8 (x2.toNat : Int)) ∧ W.cell? ⟨b0, off + 3, none⟩ = some (.int .u8 (x3.toNat : Int))) := by
    intro W h
    obtain ⟨b1, off1, hA, -, hc⟩ := byt_at (hr.next h) (k := 0) (by omega)
    obtain ⟨rfl, rfl⟩ : b0 = b1 ∧ off = off1 := by injection hA with hA; injection hA with h1 h2; exact ⟨h1, h2⟩
    exact ⟨(hc 2 (by omega)).trans (by rw [e2]), (hc 3 (by omega)).trans (by rw [e3])⟩
  clear e2 e3 h2
  refine region_put (by kernel_rfl) (by kernel_rfl) (by kernel_rfl) 27 rfl (by kernel_rfl) V (fun i v W => match i with
      | 0 => v = .slice (some ⟨b0, off, none⟩) xs.length c
      | 1 => v = .slice (some ⟨b0, off, none⟩) xs.length c
      | 2 => v = .pointer (some ⟨b0, off + 2, none⟩)
      | 3 => v = .int .u8 (x2.toNat : Int)
      | 4 => v = .int .i64 (x2.toNat : Int)
      | 5 => v = .int .i64 ((x2.toNat : Int) * 256)
      | 6 => v = .slice (some ⟨b0, off, none⟩) xs.length c
      | 7 => v = .pointer (some ⟨b0, off + 3, none⟩)
      | 8 => v = .int .u8 (x3.toNat : Int)
      | 9 => v = .int .i64 (x3.toNat : Int)
      | 10 => v = .int .i64 (al : Int)
      | 11 => ∃ L A c, v = .slice A L.length c ∧ Hid (L = xs.take al) ∧ Rd bv W W.heap.size A c L
      | 12 => ∃ L A c, v = .slice A L.length c ∧ Hid (L = xs.take al) ∧ Rd bv W W.heap.size A c L
      | 13 => ∃ L A c, v = .slice A L.length c ∧ Hid (L = xs.take al) ∧ Rd bv W W.heap.size A c L
      | 14 => v = .int .i64 0
      | _ => True) (Below.refl _ _) ?_ ?_ ?_
  · intro i v W W' h hb
    match i, h with
    | 0, h => exact h
    | 1, h => exact h
    | 2, h => exact h
    | 3, h => exact h
    | 4, h => exact h
    | 5, h => exact h
    | 6, h => exact h
    | 7, h => exact h
    | 8, h => exact h
    | 9, h => exact h
    | 10, h => exact h
    | 11, h => obtain ⟨L, A, c, h1, h2, h3⟩ := h; exact ⟨L, A, c, h1, h2, h3.next hb⟩
    | 12, h => obtain ⟨L, A, c, h1, h2, h3⟩ := h; exact ⟨L, A, c, h1, h2, h3.next hb⟩
    | 13, h => obtain ⟨L, A, c, h1, h2, h3⟩ := h; exact ⟨L, A, c, h1, h2, h3.next hb⟩
    | 14, h => exact h
    | _ + 15, _ => trivial
  · intro i o uu W hoo hVW hd
    rcases i with _|_|_|_|_|_|_|_|_|_|_|_|_|_|_|i
    · obtain rfl := Option.some.inj hoo
      refine .inl ⟨wanted_none rfl, ?_⟩
      generalize hev : Act.eval _ = ev
      have ec : ∀ c, ev (.const c) = c := fun c => by rw [← hev]; rfl
      have e0 : ev (.tmp 0) = .slice (some ⟨b0, off, none⟩) xs.length c := by rw [← hev]; exact eval_old (by kernel_rfl) 27 rfl (by decide) rfl
      clear hev hd
      exact .inl ⟨_, W, by go_simp, rfl, Below.refl _ _⟩
    · obtain rfl := Option.some.inj hoo
      refine .inl ⟨wanted_none rfl, ?_⟩
      generalize hev : Act.eval _ = ev
      have ec : ∀ c, ev (.const c) = c := fun c => by rw [← hev]; rfl
      have e0 : ev (.tmp 0) = .slice (some ⟨b0, off, none⟩) xs.length c := by rw [← hev]; exact eval_old (by kernel_rfl) 27 rfl (by decide) rfl
      clear hev hd
      exact .inl ⟨_, W, by go_simp, rfl, Below.refl _ _⟩
    · obtain rfl := Option.some.inj hoo
      have q1 : uu 1 = .slice (some ⟨b0, off, none⟩) xs.length c := hd 1 (by kernel_rfl)
      refine .inl ⟨wanted_none rfl, ?_⟩
      generalize hev : Act.eval _ = ev
      have ec : ∀ c, ev (.const c) = c := fun c => by rw [← hev]; rfl
      have e15 : ev (.tmp 15) = .slice (some ⟨b0, off, none⟩) xs.length c := by rw [← hev]; exact (eval_put (by kernel_rfl) 27 rfl (by decide)).trans q1
      clear hev hd q1
      exact .inl ⟨_, W, by go_simp, rfl, Below.refl _ _⟩
    · obtain rfl := Option.some.inj hoo
      have q2 : uu 2 = .pointer (some ⟨b0, off + 2, none⟩) := hd 2 (by kernel_rfl)
      refine .inl ⟨wanted_none rfl, ?_⟩
      generalize hev : Act.eval _ = ev
      have ec : ∀ c, ev (.const c) = c := fun c => by rw [← hev]; rfl
      have e16 : ev (.tmp 16) = .pointer (some ⟨b0, off + 2, none⟩) := by rw [← hev]; exact (eval_put (by kernel_rfl) 27 rfl (by decide)).trans q2
      clear hev hd q2
      obtain ⟨cc0, cc1⟩ := HCC W hVW
      exact .inl ⟨_, W, by go_simp, rfl, Below.refl _ _⟩
    · obtain rfl := Option.some.inj hoo
      have q3 : uu 3 = .int .u8 (x2.toNat : Int) := hd 3 (by kernel_rfl)
      refine .inl ⟨wanted_none rfl, ?_⟩
      generalize hev : Act.eval _ = ev
      have ec : ∀ c, ev (.const c) = c := fun c => by rw [← hev]; rfl
      have e17 : ev (.tmp 17) = .int .u8 (x2.toNat : Int) := by rw [← hev]; exact (eval_put (by kernel_rfl) 27 rfl (by decide)).trans q3
      clear hev hd q3
      exact .inl ⟨_, W, by go_simp, rfl, Below.refl _ _⟩
    · obtain rfl := Option.some.inj hoo
      have q4 : uu 4 = .int .i64 (x2.toNat : Int) := hd 4 (by kernel_rfl)
      refine .inl ⟨wanted_none rfl, ?_⟩
      generalize hev : Act.eval _ = ev
      have ec : ∀ c, ev (.const c) = c := fun c => by rw [← hev]; rfl
      have e18 : ev (.tmp 18) = .int .i64 (x2.toNat : Int) := by rw [← hev]; exact (eval_put (by kernel_rfl) 27 rfl (by decide)).trans q4
      clear hev hd q4
      exact .inl ⟨_, W, by go_simp, rfl, Below.refl _ _⟩
    · obtain rfl := Option.some.inj hoo
      refine .inl ⟨wanted_none rfl, ?_⟩
      generalize hev : Act.eval _ = ev
      have ec : ∀ c, ev (.const c) = c := fun c => by rw [← hev]; rfl
      have e0 : ev (.tmp 0) = .slice (some ⟨b0, off, none⟩) xs.length c := by rw [← hev]; exact eval_old (by kernel_rfl) 27 rfl (by decide) rfl
      clear hev hd
      exact .inl ⟨_, W, by go_simp, rfl, Below.refl _ _⟩
    · obtain rfl := Option.some.inj hoo
      have q6 : uu 6 = .slice (some ⟨b0, off, none⟩) xs.length c := hd 6 (by kernel_rfl)
      refine .inl ⟨wanted_none rfl, ?_⟩
      generalize hev : Act.eval _ = ev
      have ec : ∀ c, ev (.const c) = c := fun c => by rw [← hev]; rfl
      have e20 : ev (.tmp 20) = .slice (some ⟨b0, off, none⟩) xs.length c := by rw [← hev]; exact (eval_put (by kernel_rfl) 27 rfl (by decide)).trans q6
      clear hev hd q6
      exact .inl ⟨_, W, by go_simp, rfl, Below.refl _ _⟩
    · obtain rfl := Option.some.inj hoo
      have q7 : uu 7 = .pointer (some ⟨b0, off + 3, none⟩) := hd 7 (by kernel_rfl)
      refine .inl ⟨wanted_none rfl, ?_⟩
      generalize hev : Act.eval _ = ev
      have ec : ∀ c, ev (.const c) = c := fun c => by rw [← hev]; rfl
      have e21 : ev (.tmp 21) = .pointer (some ⟨b0, off + 3, none⟩) := by rw [← hev]; exact (eval_put (by kernel_rfl) 27 rfl (by decide)).trans q7
      clear hev hd q7
      obtain ⟨cc0, cc1⟩ := HCC W hVW
      exact .inl ⟨_, W, by go_simp, rfl, Below.refl _ _⟩
    · obtain rfl := Option.some.inj hoo
      have q8 : uu 8 = .int .u8 (x3.toNat : Int) := hd 8 (by kernel_rfl)
      refine .inl ⟨wanted_none rfl, ?_⟩
      generalize hev : Act.eval _ = ev
      have ec : ∀ c, ev (.const c) = c := fun c => by rw [← hev]; rfl
      have e22 : ev (.tmp 22) = .int .u8 (x3.toNat : Int) := by rw [← hev]; exact (eval_put (by kernel_rfl) 27 rfl (by decide)).trans q8
      clear hev hd q8
      exact .inl ⟨_, W, by go_simp, rfl, Below.refl _ _⟩
    · obtain rfl := Option.some.inj hoo
      have q5 : uu 5 = .int .i64 ((x2.toNat : Int) * 256) := hd 5 (by kernel_rfl)
      have q9 : uu 9 = .int .i64 (x3.toNat : Int) := hd 9 (by kernel_rfl)
      refine .inl ⟨wanted_none rfl, ?_⟩
      generalize hev : Act.eval _ = ev
      have ec : ∀ c, ev (.const c) = c := fun c => by rw [← hev]; rfl
      have e19 : ev (.tmp 19) = .int .i64 ((x2.toNat : Int) * 256) := by rw [← hev]; exact (eval_put (by kernel_rfl) 27 rfl (by decide)).trans q5
      have e23 : ev (.tmp 23) = .int .i64 (x3.toNat : Int) := by rw [← hev]; exact (eval_put (by kernel_rfl) 27 rfl (by decide)).trans q9
      clear hev hd q5 q9
      exact .inl ⟨_, W, by go_simp, rfl, Below.refl _ _⟩
    · obtain rfl := Option.some.inj hoo
      have q0 : uu 0 = .slice (some ⟨b0, off, none⟩) xs.length c := hd 0 (by kernel_rfl)
      have q10 : uu 10 = .int .i64 (al : Int) := hd 10 (by kernel_rfl)
      refine .inl ⟨wanted_none rfl, ?_⟩
      generalize hev : Act.eval _ = ev
      have ec : ∀ c, ev (.const c) = c := fun c => by rw [← hev]; rfl
      have e14 : ev (.tmp 14) = .slice (some ⟨b0, off, none⟩) xs.length c := by rw [← hev]; exact (eval_put (by kernel_rfl) 27 rfl (by decide)).trans q0
      have e24 : ev (.tmp 24) = .int .i64 (al : Int) := by rw [← hev]; exact (eval_put (by kernel_rfl) 27 rfl (by decide)).trans q10
      clear hev hd q0 q10
      have hsl := HSL W
      exact .inl ⟨.slice (some ⟨b0, off, none⟩) al c, W, by go_simp, ⟨(xs.take al), (some ⟨b0, off, none⟩), c, by rw [hta], Lib.hid rfl, ((hr.next hVW).take al)⟩, Below.refl _ _⟩
    · obtain rfl := Option.some.inj hoo
      obtain ⟨L11, A11, c11, q11, HL11, r11⟩ := hd 11 (by kernel_rfl)
      refine .inl ⟨wanted_none rfl, ?_⟩
      generalize hev : Act.eval _ = ev
      have ec : ∀ c, ev (.const c) = c := fun c => by rw [← hev]; rfl
      have ef : ∀ f, ev (.func f) = .func (.func f) #[] #[] := fun f => by rw [← hev]; rfl
      have e25 : ev (.tmp 25) = .slice A11 L11.length c11 := by rw [← hev]; exact (eval_put (by kernel_rfl) 27 rfl (by decide)).trans q11
      clear hev hd q11
      exact .inr ⟨_, _, _, by go_simp, (HA W _ _ _ r11 HL11).out, fun e w' he => by
        obtain ⟨L, A, c, rfl, HL, hr, hb⟩ := he
        exact ⟨_, rfl, ⟨L, A, c, rfl, HL, hr⟩, hb⟩⟩
    · obtain rfl := Option.some.inj hoo
      obtain ⟨L12, A12, c12, q12, HL12, r12⟩ := hd 12 (by kernel_rfl)
      refine .inl ⟨wanted_none rfl, ?_⟩
      generalize hev : Act.eval _ = ev
      have ec : ∀ c, ev (.const c) = c := fun c => by rw [← hev]; rfl
      have e26 : ev (.tmp 26) = .slice A12 L12.length c12 := by rw [← hev]; exact (eval_put (by kernel_rfl) 27 rfl (by decide)).trans q12
      clear hev hd q12
      exact .inl ⟨_, W, by go_simp, ⟨L12, A12, c12, rfl, HL12, r12⟩, Below.refl _ _⟩
    · obtain rfl := Option.some.inj hoo
      refine .inl ⟨wanted_none rfl, ?_⟩
      generalize hev : Act.eval _ = ev
      have ec : ∀ c, ev (.const c) = c := fun c => by rw [← hev]; rfl
      clear hev hd
      exact .inl ⟨_, W, by go_simp, rfl, Below.refl _ _⟩
    · simp at hoo
  · intro uu W hVW hall
    have q13 : ∃ L A c, uu 13 = .slice A L.length c ∧ Hid (L = xs.take al) ∧ Rd bv W W.heap.size A c L := hall 13 (by decide)
    obtain ⟨L, A3, c3, q13, HL, r3⟩ := q13
    have q14 : uu 14 = .int .i64 0 := hall 14 (by decide)
    replace hB := hB.trans (hVW.mono hB.size)
    clear hall HCC HA HSL hVW
    simp only [putAll, Act.put, Nat.reduceAdd, q13, q14]
    simp only [List.setIfInBounds_toArray, List.set_cons_succ, List.set_cons_zero]
    clear q13 q14
    go_wp2_with fail
    go_ret2
    exact ⟨L, A3, c3, rfl, HL, r3, hB⟩

end Go.Proofs.Ytkoamiefombilaa
