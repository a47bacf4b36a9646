/- Contract of the reference's Wrap, where all goes well. -/
import Derived.Test.YtkoamiefombilaaTun1
import Derived.Test.YtkoamiefombilaaReg6
namespace Go.Proofs.Ytkoamiefombilaa
open Go.RowKit

set_option maxHeartbeats 8000000 in
set_option maxRecDepth 10000 in
theorem rwrap_ok (cs : Array Value) (_hcz : cs.size = 40) (b1 : UInt32) (h13 : cs.toList[13]? = some (.int .u32 (b1.toNat : Int))) (mtu : Int) (h17 : cs.toList[17]? = some (.int .i64 mtu)) (to : UInt32) (nid : UInt16) {m fl al : Nat} {tos : UInt8} {id : UInt16} {D M : Bool} {fo : UInt16} {ttl pr : UInt8} {s d : UInt32} (A : Option Addr) (c : Nat) (xs : List UInt8) (w : World) (hr : Rd bv w w.heap.size A c xs) (hl : xs.length ≤ 1000000) (hk : IpOk xs m fl al tos id D M fo ttl pr s d) (hm : (al : Int) + 20 ≤ mtu) :
    Calls Try.prog 34 #[.agg cs, .slice A xs.length c, .int .u32 (to.toNat : Int), .int .u16 (nid.toNat : Int)] w fun e w' => ∃ L A1 c1, e = .returned (.tuple #[.agg #[.int .u8 (tos.toNat : Int), .int .u16 (nid.toNat : Int), .bool D, .bool false, .int .u16 0, .int .u8 64, .int .u8 4, .int .u32 (b1.toNat : Int), .int .u32 (to.toNat : Int), .slice none 0 0, .slice A1 L.length c1], .int .i64 0]) ∧ Hid (L = xs.take al) ∧ Rd bv w' w'.heap.size A1 c1 L ∧ Below w.heap.size w w' := by
  have hlc := hr.len
  have hcc := hr.cap
  obtain ⟨W1, hW1⟩ : ∃ W1, W1 = (w.alloc (.cells cs 79)).alloc (.cells #[.int .u8 0, .int .u16 0, .bool false, .bool false, .int .u16 0, .int .u8 0, .int .u8 0, .int .u32 0, .int .u32 0, .slice none 0 0, .slice none 0 0] 38) := ⟨_, rfl⟩
  have hB : Below w.heap.size w W1 := by subst hW1; exact bnextA (bnextA (Below.refl _ _) _) _
  have KC : Blk W1 w.heap.size cs.toList 79 := by subst hW1; exact (Blk.new _ _ _).alloc _
  have KR : Blk W1 (w.heap.size + 1) [.int .u8 0, .int .u16 0, .bool false, .bool false, .int .u16 0, .int .u8 0, .int .u8 0, .int .u32 0, .int .u32 0, .slice none 0 0, .slice none 0 0] 38 := by
    subst hW1
    have := Blk.new (w.alloc (.cells cs 79)) #[.int .u8 0, .int .u16 0, .bool false, .bool false, .int .u16 0, .int .u8 0, .int .u8 0, .int .u32 0, .int .u32 0, .slice none 0 0, .slice none 0 0] 38
    simpa using this
  replace hr := hr.next hB
  have h20 := hk.h20
  have hov := hk.hov
  have hla := hk.hla
  have hm5 := hk.hm5
  have HO := fun W (g : Rd bv W W.heap.size A c xs) => Lib.hid (own_ok A c xs W g hl hk)
  have hfl := two_of xs 6 _ (by omega) hk.hfl
  have hhi := hk.hhi
  have hD := hk.hD
  obtain ⟨x6, e6⟩ : ∃ x, xs[6] = x := ⟨_, rfl⟩
  have e1 := hk.ht
  simp only [Nat.reduceAdd, e6] at hfl
  have l6 := x6.toNat_lt
  have l7 := (xs[7]).toNat_lt
  obtain ⟨q, hq⟩ : ∃ q, x6.toNat / 64 = q := ⟨_, rfl⟩
  obtain ⟨r, hr2⟩ : ∃ r, q % 2 = r := ⟨_, rfl⟩
  have t1 : (x6.toNat : Int).tdiv 64 = (q : Int) := by rw [Int.tdiv_eq_ediv_of_nonneg (by omega)]; omega
  have t2 : (q : Int).tmod 2 = (r : Int) := by rw [Int.tmod_eq_emod_of_nonneg (by omega)]; omega
  have t3 : IntKind.u8.wrap (q : Int) = (q : Int) := by simp [IntKind.wrap, IntKind.bits, IntKind.signed]; omega
  have t4 : IntKind.u8.wrap (r : Int) = (r : Int) := by simp [IntKind.wrap, IntKind.bits, IntKind.signed]; omega
  have t5 : ((r : Int) == 1) = D := by
    rw [← hD, Bool.eq_iff_iff]; simp; omega
  obtain ⟨b0, off, rfl, hb0, hc0⟩ := byt_at hr (k := 0) (by omega)
  have HX := Lib.hid (And.intro ((hc0 1 (by omega)).trans (by rw [e1])) ((hc0 6 (by omega)).trans (by rw [e6])))
  have d1 : 1 < xs.length := by omega
  have d6 : 6 < xs.length := by omega
  have i1 : (1 : Int) < (xs.length : Int) := by omega
  have i6 : (6 : Int) < (xs.length : Int) := by omega
  have HT := Lib.hid (And.intro t1 (And.intro t2 (And.intro t3 (And.intro t4 t5))))
  clear hc0 e1 e6 hfl hhi hD l6 l7 hq hr2 t1 t2 t3 t4 t5
  clear hk
  go_enter Try.func34, Try.ntmps34
  go_wp2_with fail
  rw [← hW1]
  clear hW1
  refine (HO _ hr).out.mono ?_
  rintro e w2 ⟨L, A3, c3, rfl, HL, r3, hbel⟩
  have hLl : L.length = al := by rw [HL.out, List.length_take]; omega
  replace hB := bnext hB hbel
  replace KR := KR.next hbel
  replace KC := KC.next hbel
  have hb2 := Nat.lt_of_lt_of_le hb0 hbel.size
  obtain ⟨k1, k6⟩ := HX.out
  replace k1 := (hbel.cell (p := ⟨b0, off + 1, none⟩) hb0).trans k1
  replace k6 := (hbel.cell (p := ⟨b0, off + 6, none⟩) hb0).trans k6
  clear hbel HO hr
  have c13 := (KC.cell 13).trans h13
  have c17 := (KC.cell 17).trans h17
  have wa : IntKind.i64.wrap ((L.length : Int) + 20) = (al : Int) + 20 := by rw [hLl, IntKind.wrap_i64]; omega
  have hd1 : decide ((al : Int) + 20 > mtu) = false := by simp; omega
  have hd2 : decide (mtu < (al : Int) + 20) = false := by simp; omega
  obtain ⟨p0, p1, p2, p3, p4, p5, p6, p7, p8, p9, p10, g0, g1, g2, g3, g4, g5, g6, g7, g8, g9, g10⟩ := KR.get11
  have HLl := Lib.hid hLl
  clear hLl
  obtain ⟨b3, off3, rfl, -, hc3⟩ := byt_at r3 (k := 0) (by have := HLl.out; omega)
  have hne3 : b3 ≠ w.heap.size + 1 := by
    rintro rfl
    have h1 := hc3 11 (by have := HLl.out; omega)
    rw [KR.cell, List.getElem?_eq_none (by simp)] at h1
    cases h1
  obtain ⟨t1, t2, t3, t4, t5⟩ := HT.out
  clear hc3 HT HX hm
  have HCC : ∀ W, Below w2.heap.size w2 W → (W.cell? ⟨b0, off + 1, none⟩ = some (.int .u8 (tos.toNat : Int)) ∧ W.cell? ⟨b0, off + 6, none⟩ = some (.int .u8 (x6.toNat : Int)) ∧ W.cell? ⟨w.heap.size, 13, none⟩ = some (.int .u32 (b1.toNat : Int))) := by
    intro W h
    exact ⟨(h.cell (p := ⟨b0, off + 1, none⟩) hb2).trans k1, (h.cell (p := ⟨b0, off + 6, none⟩) hb2).trans k6, ((KC.next h).cell 13).trans h13⟩
  go_wp2_with fail
  clear c13 c17 p0 p1 p2 p3 p4 p5 p6 p7 p8 p9 p10 g0 g1 g2 g3 g4 g5 g6 g7 g8 g9 g10 wa hd1 hd2 k1 k6
  refine region_put_tail (by kernel_rfl) (by kernel_rfl) (by kernel_rfl) 44 rfl (by kernel_rfl) w2 (fun i v W => match i with
      | 0 => v = .slice (some ⟨b0, off, none⟩) xs.length c
      | 1 => v = .pointer (some ⟨b0, off + 1, none⟩)
      | 2 => v = .int .u8 (tos.toNat : Int)
      | 3 => v = .int .u16 (nid.toNat : Int)
      | 4 => v = .slice (some ⟨b0, off, none⟩) xs.length c
      | 5 => v = .pointer (some ⟨b0, off + 6, none⟩)
      | 6 => v = .int .u8 (x6.toNat : Int)
      | 7 => v = .int .u8 (q : Int)
      | 8 => v = .int .u8 (r : Int)
      | 9 => v = .bool D
      | 10 => v = .pointer (some ⟨w.heap.size, 12, none⟩)
      | 11 => v = .pointer (some ⟨w.heap.size, 13, none⟩)
      | 12 => v = .int .u32 (b1.toNat : Int)
      | 13 => v = .int .u32 (to.toNat : Int)
      | 14 => v = .slice (some ⟨b3, off3, none⟩) L.length c3
      | 15 => v = .agg #[.int .u8 (tos.toNat : Int), .int .u16 (nid.toNat : Int), .bool D, .bool false, .int .u16 0, .int .u8 64, .int .u8 4, .int .u32 (b1.toNat : Int), .int .u32 (to.toNat : Int), .slice none 0 0, .slice (some ⟨b3, off3, none⟩) L.length c3]
      | _ => True) (Below.refl _ _) 16 2 (by decide) rfl (fun _ => false) (fun _ _ => rfl) (by kernel_rfl) (fun q uu W => match q with
      | 0 => uu 15 = .agg #[.int .u8 (tos.toNat : Int), .int .u16 (nid.toNat : Int), .bool D, .bool false, .int .u16 0, .int .u8 64, .int .u8 4, .int .u32 (b1.toNat : Int), .int .u32 (to.toNat : Int), .slice none 0 0, .slice (some ⟨b3, off3, none⟩) L.length c3] ∧ Below w2.heap.size w2 W
      | 1 => Below w.heap.size w W ∧ Blk W (w.heap.size + 1) [.int .u8 (tos.toNat : Int), .int .u16 (nid.toNat : Int), .bool D, .bool false, .int .u16 0, .int .u8 64, .int .u8 4, .int .u32 (b1.toNat : Int), .int .u32 (to.toNat : Int), .slice none 0 0, .slice (some ⟨b3, off3, none⟩) L.length c3] 38 ∧ Rd bv W w2.heap.size (some ⟨b3, off3, none⟩) c3 L ∧ w2.heap.size ≤ W.heap.size
      | 2 => uu 17 = .int .i64 0 ∧ Below w.heap.size w W ∧ Blk W (w.heap.size + 1) [.int .u8 (tos.toNat : Int), .int .u16 (nid.toNat : Int), .bool D, .bool false, .int .u16 0, .int .u8 64, .int .u8 4, .int .u32 (b1.toNat : Int), .int .u32 (to.toNat : Int), .slice none 0 0, .slice (some ⟨b3, off3, none⟩) L.length c3] 38 ∧ Rd bv W w2.heap.size (some ⟨b3, off3, none⟩) c3 L ∧ w2.heap.size ≤ W.heap.size
      | _ => True) ?_ ?_ ?_ ?_ ?_ ?_ ?_ ?_
  · intro i v W W' h hb
    match i, h with
    | 0, h => exact h
    | 1, h => exact h
    | 2, h => exact h
    | 3, h => exact h
    | 4, h => exact h
    | 5, h => exact h
    | 6, h => exact h
    | 7, h => exact h
    | 8, h => exact h
    | 9, h => exact h
    | 10, h => exact h
    | 11, h => exact h
    | 12, h => exact h
    | 13, h => exact h
    | 14, h => exact h
    | 15, h => exact h
    | _ + 16, _ => trivial
  · intro i oo uu W him hoo hVW hd hold
    rcases i with _|_|_|_|_|_|_|_|_|_|_|_|_|_|_|_|i
    · obtain rfl := Option.some.inj hoo
      refine .inl ⟨wanted_none rfl, ?_⟩
      generalize hev : Act.eval _ = ev
      have ec : ∀ c, ev (.const c) = c := fun c => by rw [← hev]; rfl
      have e1 : ev (.tmp 1) = .slice (some ⟨b0, off, none⟩) xs.length c := by rw [← hev]; exact eval_old (by kernel_rfl) 44 rfl (by decide) rfl
      clear hev hd hold
      exact .inl ⟨_, W, by go_simp, rfl, Below.refl _ _⟩
    · obtain rfl := Option.some.inj hoo
      have q0 : uu 0 = .slice (some ⟨b0, off, none⟩) xs.length c := hd 0 (by kernel_rfl)
      refine .inl ⟨wanted_none rfl, ?_⟩
      generalize hev : Act.eval _ = ev
      have ec : ∀ c, ev (.const c) = c := fun c => by rw [← hev]; rfl
      have e28 : ev (.tmp 28) = .slice (some ⟨b0, off, none⟩) xs.length c := by rw [← hev]; exact (eval_put (by kernel_rfl) 44 rfl (by decide)).trans q0
      clear hev hd hold q0
      exact .inl ⟨_, W, by go_simp, rfl, Below.refl _ _⟩
    · obtain rfl := Option.some.inj hoo
      have q1 : uu 1 = .pointer (some ⟨b0, off + 1, none⟩) := hd 1 (by kernel_rfl)
      refine .inl ⟨wanted_none rfl, ?_⟩
      generalize hev : Act.eval _ = ev
      have ec : ∀ c, ev (.const c) = c := fun c => by rw [← hev]; rfl
      have e29 : ev (.tmp 29) = .pointer (some ⟨b0, off + 1, none⟩) := by rw [← hev]; exact (eval_put (by kernel_rfl) 44 rfl (by decide)).trans q1
      clear hev hd hold q1
      obtain ⟨cc0, cc1, cc2⟩ := HCC W hVW
      exact .inl ⟨_, W, by go_simp, rfl, Below.refl _ _⟩
    · obtain rfl := Option.some.inj hoo
      refine .inl ⟨wanted_none rfl, ?_⟩
      generalize hev : Act.eval _ = ev
      have ec : ∀ c, ev (.const c) = c := fun c => by rw [← hev]; rfl
      have e3 : ev (.tmp 3) = .int .u16 (nid.toNat : Int) := by rw [← hev]; exact eval_old (by kernel_rfl) 44 rfl (by decide) rfl
      clear hev hd hold
      exact .inl ⟨_, W, by go_simp, rfl, Below.refl _ _⟩
    · obtain rfl := Option.some.inj hoo
      refine .inl ⟨wanted_none rfl, ?_⟩
      generalize hev : Act.eval _ = ev
      have ec : ∀ c, ev (.const c) = c := fun c => by rw [← hev]; rfl
      have e1 : ev (.tmp 1) = .slice (some ⟨b0, off, none⟩) xs.length c := by rw [← hev]; exact eval_old (by kernel_rfl) 44 rfl (by decide) rfl
      clear hev hd hold
      exact .inl ⟨_, W, by go_simp, rfl, Below.refl _ _⟩
    · obtain rfl := Option.some.inj hoo
      have q4 : uu 4 = .slice (some ⟨b0, off, none⟩) xs.length c := hd 4 (by kernel_rfl)
      refine .inl ⟨wanted_none rfl, ?_⟩
      generalize hev : Act.eval _ = ev
      have ec : ∀ c, ev (.const c) = c := fun c => by rw [← hev]; rfl
      have e32 : ev (.tmp 32) = .slice (some ⟨b0, off, none⟩) xs.length c := by rw [← hev]; exact (eval_put (by kernel_rfl) 44 rfl (by decide)).trans q4
      clear hev hd hold q4
      exact .inl ⟨_, W, by go_simp, rfl, Below.refl _ _⟩
    · obtain rfl := Option.some.inj hoo
      have q5 : uu 5 = .pointer (some ⟨b0, off + 6, none⟩) := hd 5 (by kernel_rfl)
      refine .inl ⟨wanted_none rfl, ?_⟩
      generalize hev : Act.eval _ = ev
      have ec : ∀ c, ev (.const c) = c := fun c => by rw [← hev]; rfl
      have e33 : ev (.tmp 33) = .pointer (some ⟨b0, off + 6, none⟩) := by rw [← hev]; exact (eval_put (by kernel_rfl) 44 rfl (by decide)).trans q5
      clear hev hd hold q5
      obtain ⟨cc0, cc1, cc2⟩ := HCC W hVW
      exact .inl ⟨_, W, by go_simp, rfl, Below.refl _ _⟩
    · obtain rfl := Option.some.inj hoo
      have q6 : uu 6 = .int .u8 (x6.toNat : Int) := hd 6 (by kernel_rfl)
      refine .inl ⟨wanted_none rfl, ?_⟩
      generalize hev : Act.eval _ = ev
      have ec : ∀ c, ev (.const c) = c := fun c => by rw [← hev]; rfl
      have e34 : ev (.tmp 34) = .int .u8 (x6.toNat : Int) := by rw [← hev]; exact (eval_put (by kernel_rfl) 44 rfl (by decide)).trans q6
      clear hev hd hold q6
      exact .inl ⟨_, W, by go_simp, rfl, Below.refl _ _⟩
    · obtain rfl := Option.some.inj hoo
      have q7 : uu 7 = .int .u8 (q : Int) := hd 7 (by kernel_rfl)
      refine .inl ⟨wanted_none rfl, ?_⟩
      generalize hev : Act.eval _ = ev
      have ec : ∀ c, ev (.const c) = c := fun c => by rw [← hev]; rfl
      have e35 : ev (.tmp 35) = .int .u8 (q : Int) := by rw [← hev]; exact (eval_put (by kernel_rfl) 44 rfl (by decide)).trans q7
      clear hev hd hold q7
      exact .inl ⟨_, W, by go_simp, rfl, Below.refl _ _⟩
    · obtain rfl := Option.some.inj hoo
      have q8 : uu 8 = .int .u8 (r : Int) := hd 8 (by kernel_rfl)
      refine .inl ⟨wanted_none rfl, ?_⟩
      generalize hev : Act.eval _ = ev
      have ec : ∀ c, ev (.const c) = c := fun c => by rw [← hev]; rfl
      have e36 : ev (.tmp 36) = .int .u8 (r : Int) := by rw [← hev]; exact (eval_put (by kernel_rfl) 44 rfl (by decide)).trans q8
      clear hev hd hold q8
      exact .inl ⟨_, W, by go_simp, rfl, Below.refl _ _⟩
    · obtain rfl := Option.some.inj hoo
      refine .inl ⟨wanted_none rfl, ?_⟩
      generalize hev : Act.eval _ = ev
      have ec : ∀ c, ev (.const c) = c := fun c => by rw [← hev]; rfl
      have e4 : ev (.tmp 4) = .pointer (some ⟨w.heap.size, 0, none⟩) := by rw [← hev]; exact eval_old (by kernel_rfl) 44 rfl (by decide) rfl
      clear hev hd hold
      exact .inl ⟨_, W, by go_simp, rfl, Below.refl _ _⟩
    · obtain rfl := Option.some.inj hoo
      have q10 : uu 10 = .pointer (some ⟨w.heap.size, 12, none⟩) := hd 10 (by kernel_rfl)
      refine .inl ⟨wanted_none rfl, ?_⟩
      generalize hev : Act.eval _ = ev
      have ec : ∀ c, ev (.const c) = c := fun c => by rw [← hev]; rfl
      have e38 : ev (.tmp 38) = .pointer (some ⟨w.heap.size, 12, none⟩) := by rw [← hev]; exact (eval_put (by kernel_rfl) 44 rfl (by decide)).trans q10
      clear hev hd hold q10
      exact .inl ⟨_, W, by go_simp, rfl, Below.refl _ _⟩
    · obtain rfl := Option.some.inj hoo
      have q11 : uu 11 = .pointer (some ⟨w.heap.size, 13, none⟩) := hd 11 (by kernel_rfl)
      refine .inl ⟨wanted_none rfl, ?_⟩
      generalize hev : Act.eval _ = ev
      have ec : ∀ c, ev (.const c) = c := fun c => by rw [← hev]; rfl
      have e39 : ev (.tmp 39) = .pointer (some ⟨w.heap.size, 13, none⟩) := by rw [← hev]; exact (eval_put (by kernel_rfl) 44 rfl (by decide)).trans q11
      clear hev hd hold q11
      obtain ⟨cc0, cc1, cc2⟩ := HCC W hVW
      exact .inl ⟨_, W, by go_simp, rfl, Below.refl _ _⟩
    · obtain rfl := Option.some.inj hoo
      refine .inl ⟨wanted_none rfl, ?_⟩
      generalize hev : Act.eval _ = ev
      have ec : ∀ c, ev (.const c) = c := fun c => by rw [← hev]; rfl
      have e2 : ev (.tmp 2) = .int .u32 (to.toNat : Int) := by rw [← hev]; exact eval_old (by kernel_rfl) 44 rfl (by decide) rfl
      clear hev hd hold
      exact .inl ⟨_, W, by go_simp, rfl, Below.refl _ _⟩
    · obtain rfl := Option.some.inj hoo
      refine .inl ⟨wanted_none rfl, ?_⟩
      generalize hev : Act.eval _ = ev
      have ec : ∀ c, ev (.const c) = c := fun c => by rw [← hev]; rfl
      have e10 : ev (.tmp 10) = .slice (some ⟨b3, off3, none⟩) L.length c3 := by rw [← hev]; exact eval_old (by kernel_rfl) 44 rfl (by decide) rfl
      clear hev hd hold
      exact .inl ⟨_, W, by go_simp, rfl, Below.refl _ _⟩
    · obtain rfl := Option.some.inj hoo
      have q2 : uu 2 = .int .u8 (tos.toNat : Int) := hd 2 (by kernel_rfl)
      have q3 : uu 3 = .int .u16 (nid.toNat : Int) := hd 3 (by kernel_rfl)
      have q9 : uu 9 = .bool D := hd 9 (by kernel_rfl)
      have q12 : uu 12 = .int .u32 (b1.toNat : Int) := hd 12 (by kernel_rfl)
      have q13 : uu 13 = .int .u32 (to.toNat : Int) := hd 13 (by kernel_rfl)
      have q14 : uu 14 = .slice (some ⟨b3, off3, none⟩) L.length c3 := hd 14 (by kernel_rfl)
      refine .inl ⟨wanted_none rfl, ?_⟩
      generalize hev : Act.eval _ = ev
      have ec : ∀ c, ev (.const c) = c := fun c => by rw [← hev]; rfl
      have e30 : ev (.tmp 30) = .int .u8 (tos.toNat : Int) := by rw [← hev]; exact (eval_put (by kernel_rfl) 44 rfl (by decide)).trans q2
      have e31 : ev (.tmp 31) = .int .u16 (nid.toNat : Int) := by rw [← hev]; exact (eval_put (by kernel_rfl) 44 rfl (by decide)).trans q3
      have e37 : ev (.tmp 37) = .bool D := by rw [← hev]; exact (eval_put (by kernel_rfl) 44 rfl (by decide)).trans q9
      have e40 : ev (.tmp 40) = .int .u32 (b1.toNat : Int) := by rw [← hev]; exact (eval_put (by kernel_rfl) 44 rfl (by decide)).trans q12
      have e41 : ev (.tmp 41) = .int .u32 (to.toNat : Int) := by rw [← hev]; exact (eval_put (by kernel_rfl) 44 rfl (by decide)).trans q13
      have e42 : ev (.tmp 42) = .slice (some ⟨b3, off3, none⟩) L.length c3 := by rw [← hev]; exact (eval_put (by kernel_rfl) 44 rfl (by decide)).trans q14
      clear hev hd hold q2 q3 q9 q12 q13 q14
      exact .inl ⟨_, W, by go_simp, rfl, Below.refl _ _⟩
    · omega
  · exact fun _ _ _ _ h => by cases h
  · exact fun _ _ _ _ h => by cases h
  · exact fun _ _ _ _ _ h => by cases h
  · intro uu W hVW hall
    exact ⟨hall 15 (by decide) rfl, hVW⟩
  · intro q oo uu W hq hoo hS hdl
    rcases q with _|_|q
    · obtain rfl := Option.some.inj hoo
      have hS : uu 15 = .agg #[.int .u8 (tos.toNat : Int), .int .u16 (nid.toNat : Int), .bool D, .bool false, .int .u16 0, .int .u8 64, .int .u8 4, .int .u32 (b1.toNat : Int), .int .u32 (to.toNat : Int), .slice none 0 0, .slice (some ⟨b3, off3, none⟩) L.length c3] ∧ Below w2.heap.size w2 W := hS
      obtain ⟨q15, hBW⟩ := hS
      refine ⟨wanted_none rfl, ?_⟩
      generalize hev : Act.eval _ = ev
      have ec : ∀ c, ev (.const c) = c := fun c => by rw [← hev]; rfl
      have e8 : ev (.tmp 8) = .pointer (some ⟨w.heap.size + 1, 0, none⟩) := by rw [← hev]; exact eval_old (by kernel_rfl) 44 rfl (by decide) rfl
      have e43 : ev (.tmp 43) = .agg #[.int .u8 (tos.toNat : Int), .int .u16 (nid.toNat : Int), .bool D, .bool false, .int .u16 0, .int .u8 64, .int .u8 4, .int .u32 (b1.toNat : Int), .int .u32 (to.toNat : Int), .slice none 0 0, .slice (some ⟨b3, off3, none⟩) L.length c3] := by rw [← hev]; exact (eval_put (by kernel_rfl) 44 rfl (by decide)).trans q15
      clear hev hdl
      obtain ⟨m0, m1, m2, m3, m4, m5, m6, m7, m8, m9, m10, k0, k1, k2, k3, k4, k5, k6, k7, k8, k9, k10⟩ := (KR.next hBW).get11
      refine .inl ⟨_, by (go_simp <;> rfl), rfl, ?_⟩
      exact ⟨bset11 (hB.trans (hBW.mono hB.size)) (Nat.le_succ _) (.int .u8 (tos.toNat : Int)) (.int .u16 (nid.toNat : Int)) (.bool D) (.bool false) (.int .u16 0) (.int .u8 64) (.int .u8 4) (.int .u32 (b1.toNat : Int)) (.int .u32 (to.toNat : Int)) (.slice none 0 0) (.slice (some ⟨b3, off3, none⟩) L.length c3), (KR.next hBW).set11 (u0 := .int .u8 (tos.toNat : Int)) (u1 := .int .u16 (nid.toNat : Int)) (u2 := .bool D) (u3 := .bool false) (u4 := .int .u16 0) (u5 := .int .u8 64) (u6 := .int .u8 4) (u7 := .int .u32 (b1.toNat : Int)) (u8 := .int .u32 (to.toNat : Int)) (u9 := .slice none 0 0) (u10 := .slice (some ⟨b3, off3, none⟩) L.length c3), ((((((((((((r3.below hBW).othr hne3 0 (.int .u8 (tos.toNat : Int))).othr hne3 1 (.int .u16 (nid.toNat : Int))).othr hne3 2 (.bool D)).othr hne3 3 (.bool false)).othr hne3 4 (.int .u16 0)).othr hne3 5 (.int .u8 64)).othr hne3 6 (.int .u8 4)).othr hne3 7 (.int .u32 (b1.toNat : Int))).othr hne3 8 (.int .u32 (to.toNat : Int))).othr hne3 9 (.slice none 0 0)).othr hne3 10 (.slice (some ⟨b3, off3, none⟩) L.length c3)), by simpa using hBW.size⟩
    · obtain rfl := Option.some.inj hoo
      have hS : Below w.heap.size w W ∧ Blk W (w.heap.size + 1) [.int .u8 (tos.toNat : Int), .int .u16 (nid.toNat : Int), .bool D, .bool false, .int .u16 0, .int .u8 64, .int .u8 4, .int .u32 (b1.toNat : Int), .int .u32 (to.toNat : Int), .slice none 0 0, .slice (some ⟨b3, off3, none⟩) L.length c3] 38 ∧ Rd bv W w2.heap.size (some ⟨b3, off3, none⟩) c3 L ∧ w2.heap.size ≤ W.heap.size := hS
      obtain ⟨h1, h2, h3, h4⟩ := hS
      refine ⟨wanted_none rfl, ?_⟩
      generalize hev : Act.eval _ = ev
      have ec : ∀ c, ev (.const c) = c := fun c => by rw [← hev]; rfl
      clear hev hdl
      refine .inr ⟨_, _, by (go_simp; exact ⟨rfl, rfl⟩), ?_⟩
      exact ⟨rfl, h1, h2, h3, h4⟩
    · omega
  · intro uu W hS hlast
    have hS : uu 17 = .int .i64 0 ∧ Below w.heap.size w W ∧ Blk W (w.heap.size + 1) [.int .u8 (tos.toNat : Int), .int .u16 (nid.toNat : Int), .bool D, .bool false, .int .u16 0, .int .u8 64, .int .u8 4, .int .u32 (b1.toNat : Int), .int .u32 (to.toNat : Int), .slice none 0 0, .slice (some ⟨b3, off3, none⟩) L.length c3] 38 ∧ Rd bv W w2.heap.size (some ⟨b3, off3, none⟩) c3 L ∧ w2.heap.size ≤ W.heap.size := hS
    obtain ⟨q17, hB8, K8, r6, hsz⟩ := hS
    have r7 := r6.more hsz
    clear r3 KC KR hB HCC r6 hsz
    simp only [putAll, Act.put, Nat.reduceAdd, q17]
    simp only [List.setIfInBounds_toArray, List.set_cons_succ, List.set_cons_zero]
    clear q17
    obtain ⟨p0, p1, p2, p3, p4, p5, p6, p7, p8, p9, p10, -⟩ := K8.get11
    go_wp2_with fail
    simp [bodyPost, results, Try.results34, go_sem, *]
    exact ⟨L, some ⟨b3, off3, none⟩, c3, ⟨rfl, rfl, rfl⟩, HL, r7⟩

end Go.Proofs.Ytkoamiefombilaa
