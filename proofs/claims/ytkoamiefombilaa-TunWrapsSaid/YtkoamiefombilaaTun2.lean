/- Contracts of tun.Wrap. -/
import Derived.Test.YtkoamiefombilaaTun1
namespace Go.Proofs.Ytkoamiefombilaa
open Go.RowKit

set_option maxHeartbeats 4000000 in
theorem twrap_bad (cs : Array Value) (_hcz : cs.size = 40) (b1 : UInt32) (_h13 : cs.toList[13]? = some (.int .u32 (b1.toNat : Int))) (mtu : Int) (_h17 : cs.toList[17]? = some (.int .i64 mtu)) (to : UInt32) (nid : UInt16) (e0 : Int) (he : ((e0 : Int) != 0) = true) (A : Option Addr) (c : Nat) (xs : List UInt8) (w : World) (hr : Rd bv w w.heap.size A c xs) (HP : ∀ W, Rd bv W W.heap.size A c xs → Hid (Calls Try.prog 42 #[.slice A xs.length c] W fun e w' => e = .returned (.tuple #[.agg #[.int .u8 0, .int .u16 0, .bool false, .bool false, .int .u16 0, .int .u8 0, .int .u8 0, .int .u32 0, .int .u32 0, .slice none 0 0, .slice none 0 0], .int .i64 e0]) ∧ Below W.heap.size W w')) :
    Calls Try.prog 33 #[.agg cs, .slice A xs.length c, .int .u32 (to.toNat : Int), .int .u16 (nid.toNat : Int)] w fun e w' => e = .returned (.tuple #[.agg #[.int .u8 0, .int .u16 0, .bool false, .bool false, .int .u16 0, .int .u8 0, .int .u8 0, .int .u32 0, .int .u32 0, .slice none 0 0, .slice none 0 0], .int .i64 e0]) ∧ Below w.heap.size w w' := by
  have hlc := hr.len
  have hcc := hr.cap
  obtain ⟨W1, hW1⟩ : ∃ W1, W1 = (w.alloc (.cells cs 79)).alloc (.cells #[.int .u8 0, .int .u16 0, .bool false, .bool false, .int .u16 0, .int .u8 0, .int .u8 0, .int .u32 0, .int .u32 0, .slice none 0 0, .slice none 0 0] 38) := ⟨_, rfl⟩
  have hB : Below w.heap.size w W1 := by subst hW1; exact bnextA (bnextA (Below.refl _ _) _) _
  have KC : Blk W1 w.heap.size cs.toList 79 := by subst hW1; exact (Blk.new _ _ _).alloc _
  have KR : Blk W1 (w.heap.size + 1) [.int .u8 0, .int .u16 0, .bool false, .bool false, .int .u16 0, .int .u8 0, .int .u8 0, .int .u32 0, .int .u32 0, .slice none 0 0, .slice none 0 0] 38 := by
    subst hW1
    have := Blk.new (w.alloc (.cells cs 79)) #[.int .u8 0, .int .u16 0, .bool false, .bool false, .int .u16 0, .int .u8 0, .int .u8 0, .int .u32 0, .int .u32 0, .slice none 0 0, .slice none 0 0] 38
    simpa using this
  replace hr := hr.next hB
  clear KC
  go_enter Try.func33, Try.ntmps33
  go_wp2_with fail
  rw [← hW1]
  clear hW1
  refine (HP _ hr).out.mono ?_
  rintro e w2 ⟨rfl, hbel⟩
  replace hB := bnextA (bnext hB hbel) (.cells #[.int .u8 0, .int .u16 0, .bool false, .bool false, .int .u16 0, .int .u8 0, .int .u8 0, .int .u32 0, .int .u32 0, .slice none 0 0, .slice none 0 0] 38)
  replace KR := (KR.next hbel).alloc (.cells #[.int .u8 0, .int .u16 0, .bool false, .bool false, .int .u16 0, .int .u8 0, .int .u8 0, .int .u32 0, .int .u32 0, .slice none 0 0, .slice none 0 0] 38)
  clear hbel HP hr
  obtain ⟨p0, p1, p2, p3, p4, p5, p6, p7, p8, p9, p10, g0, g1, g2, g3, g4, g5, g6, g7, g8, g9, g10⟩ := KR.get11
  go_wp2_with fail
  simp [bodyPost, results, Try.results33, go_sem, *]
  try exact bset11 hB (Nat.le_succ _) (.int .u8 0) (.int .u16 0) (.bool false) (.bool false) (.int .u16 0) (.int .u8 0) (.int .u8 0) (.int .u32 0) (.int .u32 0) (.slice none 0 0) (.slice none 0 0)

set_option maxHeartbeats 8000000 in
set_option maxRecDepth 10000 in
theorem twrap_ok (cs : Array Value) (_hcz : cs.size = 40) (b1 : UInt32) (h13 : cs.toList[13]? = some (.int .u32 (b1.toNat : Int))) (mtu : Int) (h17 : cs.toList[17]? = some (.int .i64 mtu)) (to : UInt32) (nid : UInt16) {m fl al : Nat} {tos : UInt8} {id : UInt16} {D M : Bool} {fo : UInt16} {ttl pr : UInt8} {s d : UInt32} (A : Option Addr) (c : Nat) (xs : List UInt8) (w : World) (hr : Rd bv w w.heap.size A c xs) (hl : xs.length ≤ 1000000) (hk : IpOk xs m fl al tos id D M fo ttl pr s d) (hm : (al : Int) + 20 ≤ mtu) :
    Calls Try.prog 33 #[.agg cs, .slice A xs.length c, .int .u32 (to.toNat : Int), .int .u16 (nid.toNat : Int)] w fun e w' => ∃ L A1 c1, e = .returned (.tuple #[.agg #[.int .u8 (tos.toNat : Int), .int .u16 (nid.toNat : Int), .bool D, .bool false, .int .u16 0, .int .u8 64, .int .u8 4, .int .u32 (b1.toNat : Int), .int .u32 (to.toNat : Int), .slice none 0 0, .slice A1 L.length c1], .int .i64 0]) ∧ Hid (L = xs.take al) ∧ Rd bv w' w'.heap.size A1 c1 L ∧ Below w.heap.size w w' := by
  have hlc := hr.len
  have hcc := hr.cap
  obtain ⟨W1, hW1⟩ : ∃ W1, W1 = (w.alloc (.cells cs 79)).alloc (.cells #[.int .u8 0, .int .u16 0, .bool false, .bool false, .int .u16 0, .int .u8 0, .int .u8 0, .int .u32 0, .int .u32 0, .slice none 0 0, .slice none 0 0] 38) := ⟨_, rfl⟩
  have hB : Below w.heap.size w W1 := by subst hW1; exact bnextA (bnextA (Below.refl _ _) _) _
  have KC : Blk W1 w.heap.size cs.toList 79 := by subst hW1; exact (Blk.new _ _ _).alloc _
  have KR : Blk W1 (w.heap.size + 1) [.int .u8 0, .int .u16 0, .bool false, .bool false, .int .u16 0, .int .u8 0, .int .u8 0, .int .u32 0, .int .u32 0, .slice none 0 0, .slice none 0 0] 38 := by
    subst hW1
    have := Blk.new (w.alloc (.cells cs 79)) #[.int .u8 0, .int .u16 0, .bool false, .bool false, .int .u16 0, .int .u8 0, .int .u8 0, .int .u32 0, .int .u32 0, .slice none 0 0, .slice none 0 0] 38
    simpa using this
  replace hr := hr.next hB
  have h20 := hk.h20
  have hov := hk.hov
  have hm5 := hk.hm5
  have hm15 := hk.hm15
  have hla := hk.hla
  have hlL := hk.hl
  have HP := fun W (g : Rd bv W W.heap.size A c xs) => Lib.hid (hk.parse hl A c W g)
  have HW0 : ∀ W Ao co n1 Ax cx n2 (_ : n1 = 4 * m - 20) (_ : n2 = al - 4 * m), Rd bv W W.heap.size A c xs → Hid (Calls Try.prog 64 #[.agg #[.int .u8 (tos.toNat : Int), .int .u16 (id.toNat : Int), .bool D, .bool M, .int .u16 (fo.toNat : Int), .int .u8 (ttl.toNat : Int), .int .u8 (pr.toNat : Int), .int .u32 (s.toNat : Int), .int .u32 (d.toNat : Int), .slice Ao n1 co, .slice Ax n2 cx], .slice A xs.length c] W fun e w' => ∃ L A1 c1, e = .returned (.slice A1 L.length c1) ∧ Hid (L = xs.take al) ∧ Rd bv w' w'.heap.size A1 c1 L ∧ Below W.heap.size W w') := by
    intro W Ao co n1 Ax cx n2 h1 h2 g
    exact Lib.hid (twhole_any tos id D M fo ttl pr s d Ao Ax n1 co n2 cx A c xs al W g (by omega) (by omega) hov hl)
  have HZ0 : ∀ W A' n' c', Hid (Calls Try.prog 65 #[.agg #[.int .u8 (tos.toNat : Int), .int .u16 (nid.toNat : Int), .bool D, .bool false, .int .u16 0, .int .u8 64, .int .u8 4, .int .u32 (b1.toNat : Int), .int .u32 (to.toNat : Int), .slice none 0 0, .slice A' n' c']] W fun e w' => e = .returned (.int .i64 20) ∧ Below W.heap.size W w') := by
    intro W A' n' c'
    obtain ⟨z16, hz16⟩ : ∃ a : UInt16, (a.toNat : Int) = 0 := ⟨0, rfl⟩
    obtain ⟨t64, ht64⟩ : ∃ a : UInt8, (a.toNat : Int) = 64 := ⟨64, rfl⟩
    obtain ⟨p4, hp4⟩ : ∃ a : UInt8, (a.toNat : Int) = 4 := ⟨4, rfl⟩
    have h := psize_any tos nid D false z16 t64 p4 b1 to none A' 0 0 n' c' W (by omega)
    simp only [hz16, ht64, hp4] at h
    exact Lib.hid h
  have hlo : (xs.drop 20).length ≥ 4 * m - 20 := by simp; omega
  have hlx : (xs.drop (4 * m)).length ≥ al - 4 * m := by simp; omega
  clear hk
  go_enter Try.func33, Try.ntmps33
  go_wp2_with fail
  rw [← hW1]
  clear hW1
  refine (HP _ hr).out.mono ?_
  rintro e w2 ⟨Lo, Ao, co, Lx, Ax, cx, rfl, HLo, HLx, -, -, hbel⟩
  have HW := fun W g => HW0 W Ao co Lo.length Ax cx Lx.length (by rw [HLo.out, List.length_take]; omega) (by rw [HLx.out, List.length_take]; omega) g
  replace hB := bnextA (bnext hB hbel) (.cells #[.int .u8 (tos.toNat : Int), .int .u16 (id.toNat : Int), .bool D, .bool M, .int .u16 (fo.toNat : Int), .int .u8 (ttl.toNat : Int), .int .u8 (pr.toNat : Int), .int .u32 (s.toNat : Int), .int .u32 (d.toNat : Int), .slice Ao Lo.length co, .slice Ax Lx.length cx] 38)
  replace KC := (KC.next hbel).alloc (.cells #[.int .u8 (tos.toNat : Int), .int .u16 (id.toNat : Int), .bool D, .bool M, .int .u16 (fo.toNat : Int), .int .u8 (ttl.toNat : Int), .int .u8 (pr.toNat : Int), .int .u32 (s.toNat : Int), .int .u32 (d.toNat : Int), .slice Ao Lo.length co, .slice Ax Lx.length cx] 38)
  replace KR := (KR.next hbel).alloc (.cells #[.int .u8 (tos.toNat : Int), .int .u16 (id.toNat : Int), .bool D, .bool M, .int .u16 (fo.toNat : Int), .int .u8 (ttl.toNat : Int), .int .u8 (pr.toNat : Int), .int .u32 (s.toNat : Int), .int .u32 (d.toNat : Int), .slice Ao Lo.length co, .slice Ax Lx.length cx] 38)
  have KI := Blk.new w2 #[.int .u8 (tos.toNat : Int), .int .u16 (id.toNat : Int), .bool D, .bool M, .int .u16 (fo.toNat : Int), .int .u8 (ttl.toNat : Int), .int .u8 (pr.toNat : Int), .int .u32 (s.toNat : Int), .int .u32 (d.toNat : Int), .slice Ao Lo.length co, .slice Ax Lx.length cx] 38
  replace hr := (hr.next hbel).nextA (.cells #[.int .u8 (tos.toNat : Int), .int .u16 (id.toNat : Int), .bool D, .bool M, .int .u16 (fo.toNat : Int), .int .u8 (ttl.toNat : Int), .int .u8 (pr.toNat : Int), .int .u32 (s.toNat : Int), .int .u32 (d.toNat : Int), .slice Ao Lo.length co, .slice Ax Lx.length cx] 38)
  clear hbel HP HW0 HLo HLx hlo hlx
  go_wp2_with fail
  generalize w2.heap.size = gi at *
  generalize w2.alloc (.cells #[.int .u8 (tos.toNat : Int), .int .u16 (id.toNat : Int), .bool D, .bool M, .int .u16 (fo.toNat : Int), .int .u8 (ttl.toNat : Int), .int .u8 (pr.toNat : Int), .int .u32 (s.toNat : Int), .int .u32 (d.toNat : Int), .slice Ao Lo.length co, .slice Ax Lx.length cx] 38) = V at *
  have hlt1 := KR.lt
  have HCC : ∀ W, Below V.heap.size V W → (W.cell? ⟨gi, 0, none⟩ = some (.int .u8 (tos.toNat : Int)) ∧ W.cell? ⟨gi, 2, none⟩ = some (.bool D) ∧ W.cell? ⟨w.heap.size, 13, none⟩ = some (.int .u32 (b1.toNat : Int))) := by
    intro W h
    exact ⟨(KI.next h).cell 0, (KI.next h).cell 2, ((KC.next h).cell 13).trans h13⟩
  refine region_put_last (by kernel_rfl) (by kernel_rfl) (by kernel_rfl) 46 rfl (by kernel_rfl) V (fun i v W => match i with
      | 0 => v = .pointer (some ⟨gi, 0, none⟩)
      | 1 => v = .int .u8 (tos.toNat : Int)
      | 2 => v = .int .u16 (nid.toNat : Int)
      | 3 => v = .pointer (some ⟨gi, 2, none⟩)
      | 4 => v = .bool D
      | 5 => v = .pointer (some ⟨w.heap.size, 12, none⟩)
      | 6 => v = .pointer (some ⟨w.heap.size, 13, none⟩)
      | 7 => v = .int .u32 (b1.toNat : Int)
      | 8 => v = .int .u32 (to.toNat : Int)
      | 9 => v = .agg #[.int .u8 (tos.toNat : Int), .int .u16 (id.toNat : Int), .bool D, .bool M, .int .u16 (fo.toNat : Int), .int .u8 (ttl.toNat : Int), .int .u8 (pr.toNat : Int), .int .u32 (s.toNat : Int), .int .u32 (d.toNat : Int), .slice Ao Lo.length co, .slice Ax Lx.length cx]
      | 10 => v = .slice A xs.length c
      | 11 => ∃ L A c, v = .slice A L.length c ∧ Hid (L = xs.take al) ∧ Rd bv W W.heap.size A c L
      | 12 => ∃ L A c, v = .agg #[.int .u8 (tos.toNat : Int), .int .u16 (nid.toNat : Int), .bool D, .bool false, .int .u16 0, .int .u8 64, .int .u8 4, .int .u32 (b1.toNat : Int), .int .u32 (to.toNat : Int), .slice none 0 0, .slice A L.length c] ∧ Hid (L = xs.take al) ∧ Rd bv W W.heap.size A c L
      | 13 => ∃ g, v = .pointer (some ⟨g, 0, none⟩) ∧ V.heap.size ≤ g ∧ Blk W g [.int .u8 0, .int .u16 0, .bool false, .bool false, .int .u16 0, .int .u8 0, .int .u8 0, .int .u32 0, .int .u32 0, .slice none 0 0, .slice none 0 0] 38
      | _ => True) (Below.refl _ _) 14 rfl (by kernel_rfl) (by intro o h; obtain rfl := Option.some.inj h; rfl) ?_ ?_ ?_
  · intro i v W W' h hb
    match i, h with
    | 0, h => exact h
    | 1, h => exact h
    | 2, h => exact h
    | 3, h => exact h
    | 4, h => exact h
    | 5, h => exact h
    | 6, h => exact h
    | 7, h => exact h
    | 8, h => exact h
    | 9, h => exact h
    | 10, h => exact h
    | 11, h => obtain ⟨L, A, c, h1, h2, h3⟩ := h; exact ⟨L, A, c, h1, h2, h3.next hb⟩
    | 12, h => obtain ⟨L, A, c, h1, h2, h3⟩ := h; exact ⟨L, A, c, h1, h2, h3.next hb⟩
    | 13, h => obtain ⟨g, h1, h2, h3⟩ := h; exact ⟨g, h1, h2, h3.next hb⟩
    | _ + 14, _ => trivial
  · intro i oo uu W him hoo hVW hd
    rcases i with _|_|_|_|_|_|_|_|_|_|_|_|_|_|i
    · obtain rfl := Option.some.inj hoo
      refine .inl ⟨wanted_none rfl, ?_⟩
      generalize hev : Act.eval _ = ev
      have ec : ∀ c, ev (.const c) = c := fun c => by rw [← hev]; rfl
      have e10 : ev (.tmp 10) = .pointer (some ⟨gi, 0, none⟩) := by rw [← hev]; exact eval_old (by kernel_rfl) 46 rfl (by decide) rfl
      clear hev hd
      exact .inl ⟨_, W, by go_simp, rfl, Below.refl _ _⟩
    · obtain rfl := Option.some.inj hoo
      have q0 : uu 0 = .pointer (some ⟨gi, 0, none⟩) := hd 0 (by kernel_rfl)
      refine .inl ⟨wanted_none rfl, ?_⟩
      generalize hev : Act.eval _ = ev
      have ec : ∀ c, ev (.const c) = c := fun c => by rw [← hev]; rfl
      have e22 : ev (.tmp 22) = .pointer (some ⟨gi, 0, none⟩) := by rw [← hev]; exact (eval_put (by kernel_rfl) 46 rfl (by decide)).trans q0
      clear hev hd q0
      obtain ⟨cc0, cc1, cc2⟩ := HCC W hVW
      exact .inl ⟨_, W, by go_simp, rfl, Below.refl _ _⟩
    · obtain rfl := Option.some.inj hoo
      refine .inl ⟨wanted_none rfl, ?_⟩
      generalize hev : Act.eval _ = ev
      have ec : ∀ c, ev (.const c) = c := fun c => by rw [← hev]; rfl
      have e3 : ev (.tmp 3) = .int .u16 (nid.toNat : Int) := by rw [← hev]; exact eval_old (by kernel_rfl) 46 rfl (by decide) rfl
      clear hev hd
      exact .inl ⟨_, W, by go_simp, rfl, Below.refl _ _⟩
    · obtain rfl := Option.some.inj hoo
      refine .inl ⟨wanted_none rfl, ?_⟩
      generalize hev : Act.eval _ = ev
      have ec : ∀ c, ev (.const c) = c := fun c => by rw [← hev]; rfl
      have e10 : ev (.tmp 10) = .pointer (some ⟨gi, 0, none⟩) := by rw [← hev]; exact eval_old (by kernel_rfl) 46 rfl (by decide) rfl
      clear hev hd
      exact .inl ⟨_, W, by go_simp, rfl, Below.refl _ _⟩
    · obtain rfl := Option.some.inj hoo
      have q3 : uu 3 = .pointer (some ⟨gi, 2, none⟩) := hd 3 (by kernel_rfl)
      refine .inl ⟨wanted_none rfl, ?_⟩
      generalize hev : Act.eval _ = ev
      have ec : ∀ c, ev (.const c) = c := fun c => by rw [← hev]; rfl
      have e25 : ev (.tmp 25) = .pointer (some ⟨gi, 2, none⟩) := by rw [← hev]; exact (eval_put (by kernel_rfl) 46 rfl (by decide)).trans q3
      clear hev hd q3
      obtain ⟨cc0, cc1, cc2⟩ := HCC W hVW
      exact .inl ⟨_, W, by go_simp, rfl, Below.refl _ _⟩
    · obtain rfl := Option.some.inj hoo
      refine .inl ⟨wanted_none rfl, ?_⟩
      generalize hev : Act.eval _ = ev
      have ec : ∀ c, ev (.const c) = c := fun c => by rw [← hev]; rfl
      have e4 : ev (.tmp 4) = .pointer (some ⟨w.heap.size, 0, none⟩) := by rw [← hev]; exact eval_old (by kernel_rfl) 46 rfl (by decide) rfl
      clear hev hd
      exact .inl ⟨_, W, by go_simp, rfl, Below.refl _ _⟩
    · obtain rfl := Option.some.inj hoo
      have q5 : uu 5 = .pointer (some ⟨w.heap.size, 12, none⟩) := hd 5 (by kernel_rfl)
      refine .inl ⟨wanted_none rfl, ?_⟩
      generalize hev : Act.eval _ = ev
      have ec : ∀ c, ev (.const c) = c := fun c => by rw [← hev]; rfl
      have e27 : ev (.tmp 27) = .pointer (some ⟨w.heap.size, 12, none⟩) := by rw [← hev]; exact (eval_put (by kernel_rfl) 46 rfl (by decide)).trans q5
      clear hev hd q5
      exact .inl ⟨_, W, by go_simp, rfl, Below.refl _ _⟩
    · obtain rfl := Option.some.inj hoo
      have q6 : uu 6 = .pointer (some ⟨w.heap.size, 13, none⟩) := hd 6 (by kernel_rfl)
      refine .inl ⟨wanted_none rfl, ?_⟩
      generalize hev : Act.eval _ = ev
      have ec : ∀ c, ev (.const c) = c := fun c => by rw [← hev]; rfl
      have e28 : ev (.tmp 28) = .pointer (some ⟨w.heap.size, 13, none⟩) := by rw [← hev]; exact (eval_put (by kernel_rfl) 46 rfl (by decide)).trans q6
      clear hev hd q6
      obtain ⟨cc0, cc1, cc2⟩ := HCC W hVW
      exact .inl ⟨_, W, by go_simp, rfl, Below.refl _ _⟩
    · obtain rfl := Option.some.inj hoo
      refine .inl ⟨wanted_none rfl, ?_⟩
      generalize hev : Act.eval _ = ev
      have ec : ∀ c, ev (.const c) = c := fun c => by rw [← hev]; rfl
      have e2 : ev (.tmp 2) = .int .u32 (to.toNat : Int) := by rw [← hev]; exact eval_old (by kernel_rfl) 46 rfl (by decide) rfl
      clear hev hd
      exact .inl ⟨_, W, by go_simp, rfl, Below.refl _ _⟩
    · obtain rfl := Option.some.inj hoo
      refine .inl ⟨wanted_none rfl, ?_⟩
      generalize hev : Act.eval _ = ev
      have ec : ∀ c, ev (.const c) = c := fun c => by rw [← hev]; rfl
      have e10 : ev (.tmp 10) = .pointer (some ⟨gi, 0, none⟩) := by rw [← hev]; exact eval_old (by kernel_rfl) 46 rfl (by decide) rfl
      clear hev hd
      exact .inl ⟨_, W, load_blk Try.underlying38 (by kernel_rfl) (KI.next hVW) rfl e10, rfl, Below.refl _ _⟩
    · obtain rfl := Option.some.inj hoo
      refine .inl ⟨wanted_none rfl, ?_⟩
      generalize hev : Act.eval _ = ev
      have ec : ∀ c, ev (.const c) = c := fun c => by rw [← hev]; rfl
      have e1 : ev (.tmp 1) = .slice A xs.length c := by rw [← hev]; exact eval_old (by kernel_rfl) 46 rfl (by decide) rfl
      clear hev hd
      exact .inl ⟨_, W, by go_simp, rfl, Below.refl _ _⟩
    · obtain rfl := Option.some.inj hoo
      have q9 : uu 9 = .agg #[.int .u8 (tos.toNat : Int), .int .u16 (id.toNat : Int), .bool D, .bool M, .int .u16 (fo.toNat : Int), .int .u8 (ttl.toNat : Int), .int .u8 (pr.toNat : Int), .int .u32 (s.toNat : Int), .int .u32 (d.toNat : Int), .slice Ao Lo.length co, .slice Ax Lx.length cx] := hd 9 (by kernel_rfl)
      have q10 : uu 10 = .slice A xs.length c := hd 10 (by kernel_rfl)
      refine .inl ⟨wanted_none rfl, ?_⟩
      generalize hev : Act.eval _ = ev
      have ec : ∀ c, ev (.const c) = c := fun c => by rw [← hev]; rfl
      have ef : ∀ f, ev (.func f) = .func (.func f) #[] #[] := fun f => by rw [← hev]; rfl
      have e31 : ev (.tmp 31) = .agg #[.int .u8 (tos.toNat : Int), .int .u16 (id.toNat : Int), .bool D, .bool M, .int .u16 (fo.toNat : Int), .int .u8 (ttl.toNat : Int), .int .u8 (pr.toNat : Int), .int .u32 (s.toNat : Int), .int .u32 (d.toNat : Int), .slice Ao Lo.length co, .slice Ax Lx.length cx] := by rw [← hev]; exact (eval_put (by kernel_rfl) 46 rfl (by decide)).trans q9
      have e32 : ev (.tmp 32) = .slice A xs.length c := by rw [← hev]; exact (eval_put (by kernel_rfl) 46 rfl (by decide)).trans q10
      clear hev hd q9 q10
      exact .inr ⟨_, _, _, by go_simp, (HW W (hr.next hVW)).out, fun e w' he => by
        obtain ⟨L, A, c, rfl, HL, hr, hb⟩ := he
        exact ⟨_, rfl, ⟨L, A, c, rfl, HL, hr⟩, hb⟩⟩
    · obtain rfl := Option.some.inj hoo
      have q1 : uu 1 = .int .u8 (tos.toNat : Int) := hd 1 (by kernel_rfl)
      have q2 : uu 2 = .int .u16 (nid.toNat : Int) := hd 2 (by kernel_rfl)
      have q4 : uu 4 = .bool D := hd 4 (by kernel_rfl)
      have q7 : uu 7 = .int .u32 (b1.toNat : Int) := hd 7 (by kernel_rfl)
      have q8 : uu 8 = .int .u32 (to.toNat : Int) := hd 8 (by kernel_rfl)
      obtain ⟨L11, A11, c11, q11, HL11, r11⟩ := hd 11 (by kernel_rfl)
      refine .inl ⟨wanted_none rfl, ?_⟩
      generalize hev : Act.eval _ = ev
      have ec : ∀ c, ev (.const c) = c := fun c => by rw [← hev]; rfl
      have e23 : ev (.tmp 23) = .int .u8 (tos.toNat : Int) := by rw [← hev]; exact (eval_put (by kernel_rfl) 46 rfl (by decide)).trans q1
      have e24 : ev (.tmp 24) = .int .u16 (nid.toNat : Int) := by rw [← hev]; exact (eval_put (by kernel_rfl) 46 rfl (by decide)).trans q2
      have e26 : ev (.tmp 26) = .bool D := by rw [← hev]; exact (eval_put (by kernel_rfl) 46 rfl (by decide)).trans q4
      have e29 : ev (.tmp 29) = .int .u32 (b1.toNat : Int) := by rw [← hev]; exact (eval_put (by kernel_rfl) 46 rfl (by decide)).trans q7
      have e30 : ev (.tmp 30) = .int .u32 (to.toNat : Int) := by rw [← hev]; exact (eval_put (by kernel_rfl) 46 rfl (by decide)).trans q8
      have e33 : ev (.tmp 33) = .slice A11 L11.length c11 := by rw [← hev]; exact (eval_put (by kernel_rfl) 46 rfl (by decide)).trans q11
      clear hev hd q1 q2 q4 q7 q8 q11
      exact .inl ⟨_, W, by go_simp, ⟨L11, A11, c11, rfl, HL11, r11⟩, Below.refl _ _⟩
    · obtain rfl := Option.some.inj hoo
      refine .inl ⟨wanted_none rfl, ?_⟩
      generalize hev : Act.eval _ = ev
      have ec : ∀ c, ev (.const c) = c := fun c => by rw [← hev]; rfl
      clear hev hd
      exact .inl ⟨_, W.alloc (.cells #[.int .u8 0, .int .u16 0, .bool false, .bool false, .int .u16 0, .int .u8 0, .int .u8 0, .int .u32 0, .int .u32 0, .slice none 0 0, .slice none 0 0] 38), by go_simp, ⟨W.heap.size, rfl, hVW.size, Blk.new W #[.int .u8 0, .int .u16 0, .bool false, .bool false, .int .u16 0, .int .u8 0, .int .u8 0, .int .u32 0, .int .u32 0, .slice none 0 0, .slice none 0 0] 38⟩, bnextA (Below.refl _ _) _⟩
    · omega
  · intro oo uu W hoo hVW hall
    obtain rfl := Option.some.inj hoo
    obtain ⟨g13, q13, hle13, hbk13⟩ := hall 13 (by decide)
    obtain ⟨L12, A12, c12, q12, HL12, r12⟩ := hall 12 (by decide)
    refine ⟨wanted_none rfl, ?_⟩
    generalize hev : Act.eval _ = ev
    have ec : ∀ c, ev (.const c) = c := fun c => by rw [← hev]; rfl
    have e12 : ev (.tmp 12) = .pointer (some ⟨g13, 0, none⟩) := by rw [← hev]; exact (eval_put (by kernel_rfl) 46 rfl (by decide)).trans q13
    have e34 : ev (.tmp 34) = .agg #[.int .u8 (tos.toNat : Int), .int .u16 (nid.toNat : Int), .bool D, .bool false, .int .u16 0, .int .u8 64, .int .u8 4, .int .u32 (b1.toNat : Int), .int .u32 (to.toNat : Int), .slice none 0 0, .slice A12 L12.length c12] := by rw [← hev]; exact (eval_put (by kernel_rfl) 46 rfl (by decide)).trans q12
    clear hev hall
    obtain ⟨m0, m1, m2, m3, m4, m5, m6, m7, m8, m9, m10, k0, k1, k2, k3, k4, k5, k6, k7, k8, k9, k10⟩ := hbk13.get11
    refine ⟨_, by (go_simp <;> rfl), ?_⟩
    clear HCC
    simp only [putAll, Act.put, Nat.reduceAdd, q13]
    simp only [List.setIfInBounds_toArray, List.set_cons_succ, List.set_cons_zero]
    have hL12 : L12.length = al := by rw [HL12.out]; simp; omega
    obtain ⟨b12, off12, rfl, -, hc12⟩ := byt_at r12 (k := 0) (by omega)
    have hneb : b12 ≠ g13 := by
      rintro rfl
      have h1 := hc12 11 (by omega)
      rw [hbk13.cell, List.getElem?_eq_none (by simp)] at h1
      cases h1
    have hWU := bset11 hVW hle13 (.int .u8 (tos.toNat : Int)) (.int .u16 (nid.toNat : Int)) (.bool D) (.bool false) (.int .u16 0) (.int .u8 64) (.int .u8 4) (.int .u32 (b1.toNat : Int)) (.int .u32 (to.toNat : Int)) (.slice none 0 0) (.slice (some ⟨b12, off12, none⟩) L12.length c12)
    have KP := hbk13.set11 (u0 := .int .u8 (tos.toNat : Int)) (u1 := .int .u16 (nid.toNat : Int)) (u2 := .bool D) (u3 := .bool false) (u4 := .int .u16 0) (u5 := .int .u8 64) (u6 := .int .u8 4) (u7 := .int .u32 (b1.toNat : Int)) (u8 := .int .u32 (to.toNat : Int)) (u9 := .slice none 0 0) (u10 := .slice (some ⟨b12, off12, none⟩) L12.length c12)
    have r13 := (((((((((((r12.othr hneb 0 (.int .u8 (tos.toNat : Int))).othr hneb 1 (.int .u16 (nid.toNat : Int))).othr hneb 2 (.bool D)).othr hneb 3 (.bool false)).othr hneb 4 (.int .u16 0)).othr hneb 5 (.int .u8 64)).othr hneb 6 (.int .u8 4)).othr hneb 7 (.int .u32 (b1.toNat : Int))).othr hneb 8 (.int .u32 (to.toNat : Int))).othr hneb 9 (.slice none 0 0)).othr hneb 10 (.slice (some ⟨b12, off12, none⟩) L12.length c12))
    replace KC := KC.next hWU
    replace KR := KR.next hWU
    replace hB := hB.trans (hWU.mono hB.size)
    have hgl := Nat.lt_of_lt_of_le hlt1 hle13
    have hgp := KP.lt
    clear hc12 hbk13 r12 hVW hWU KI hr HW q12 q13
    simp only [setAll11] at KP KC KR hB hgp
    have r12 : Rd bv (((((((((((W.setCell ⟨g13, 0, none⟩ (.int .u8 (tos.toNat : Int))).setCell ⟨g13, 1, none⟩ (.int .u16 (nid.toNat : Int))).setCell ⟨g13, 2, none⟩ (.bool D)).setCell ⟨g13, 3, none⟩ (.bool false)).setCell ⟨g13, 4, none⟩ (.int .u16 0)).setCell ⟨g13, 5, none⟩ (.int .u8 64)).setCell ⟨g13, 6, none⟩ (.int .u8 4)).setCell ⟨g13, 7, none⟩ (.int .u32 (b1.toNat : Int))).setCell ⟨g13, 8, none⟩ (.int .u32 (to.toNat : Int))).setCell ⟨g13, 9, none⟩ (.slice none 0 0)).setCell ⟨g13, 10, none⟩ (.slice (some ⟨b12, off12, none⟩) L12.length c12)) ((((((((((((W.setCell ⟨g13, 0, none⟩ (.int .u8 (tos.toNat : Int))).setCell ⟨g13, 1, none⟩ (.int .u16 (nid.toNat : Int))).setCell ⟨g13, 2, none⟩ (.bool D)).setCell ⟨g13, 3, none⟩ (.bool false)).setCell ⟨g13, 4, none⟩ (.int .u16 0)).setCell ⟨g13, 5, none⟩ (.int .u8 64)).setCell ⟨g13, 6, none⟩ (.int .u8 4)).setCell ⟨g13, 7, none⟩ (.int .u32 (b1.toNat : Int))).setCell ⟨g13, 8, none⟩ (.int .u32 (to.toNat : Int))).setCell ⟨g13, 9, none⟩ (.slice none 0 0)).setCell ⟨g13, 10, none⟩ (.slice (some ⟨b12, off12, none⟩) L12.length c12))).heap.size (some ⟨b12, off12, none⟩) c12 L12 := by simpa using r13
    clear r13
    generalize (((((((((((W.setCell ⟨g13, 0, none⟩ (.int .u8 (tos.toNat : Int))).setCell ⟨g13, 1, none⟩ (.int .u16 (nid.toNat : Int))).setCell ⟨g13, 2, none⟩ (.bool D)).setCell ⟨g13, 3, none⟩ (.bool false)).setCell ⟨g13, 4, none⟩ (.int .u16 0)).setCell ⟨g13, 5, none⟩ (.int .u8 64)).setCell ⟨g13, 6, none⟩ (.int .u8 4)).setCell ⟨g13, 7, none⟩ (.int .u32 (b1.toNat : Int))).setCell ⟨g13, 8, none⟩ (.int .u32 (to.toNat : Int))).setCell ⟨g13, 9, none⟩ (.slice none 0 0)).setCell ⟨g13, 10, none⟩ (.slice (some ⟨b12, off12, none⟩) L12.length c12)) = V2 at *
    have wa : IntKind.i64.wrap (20 + (L12.length : Int)) = 20 + (al : Int) := by rw [hL12, IntKind.wrap_i64]; omega
    have hd1 : decide (20 + (al : Int) > mtu) = false := by simp; omega
    have hd2 : decide (mtu < 20 + (al : Int)) = false := by simp; omega
    have HL12l := Lib.hid hL12
    clear hL12
    have HZ : ∀ W, Hid (Calls Try.prog 65 #[.agg #[.int .u8 (tos.toNat : Int), .int .u16 (nid.toNat : Int), .bool D, .bool false, .int .u16 0, .int .u8 64, .int .u8 4, .int .u32 (b1.toNat : Int), .int .u32 (to.toNat : Int), .slice none 0 0, .slice (some ⟨b12, off12, none⟩) L12.length c12]] W fun e w' => e = .returned (.int .i64 20) ∧ Below W.heap.size W w') := fun W => HZ0 W (some ⟨b12, off12, none⟩) L12.length c12
    clear HZ0
    have HS5 : ∀ W, Below V2.heap.size V2 W → (W.cell? ⟨g13, 10, none⟩ = some (.slice (some ⟨b12, off12, none⟩) L12.length c12) ∧ W.cell? ⟨w.heap.size, 17, none⟩ = some (.int .i64 mtu)) := by
      intro W h
      exact ⟨(KP.next h).cell 10, ((KC.next h).cell 17).trans h17⟩
    go_wp2_with fail
    refine region_put (by kernel_rfl) (by kernel_rfl) (by kernel_rfl) 46 rfl (by kernel_rfl) V2 (fun i v W => match i with
        | 0 => v = .agg #[.int .u8 (tos.toNat : Int), .int .u16 (nid.toNat : Int), .bool D, .bool false, .int .u16 0, .int .u8 64, .int .u8 4, .int .u32 (b1.toNat : Int), .int .u32 (to.toNat : Int), .slice none 0 0, .slice (some ⟨b12, off12, none⟩) L12.length c12]
        | 1 => v = .int .i64 20
        | 2 => v = .pointer (some ⟨g13, 10, none⟩)
        | 3 => v = .slice (some ⟨b12, off12, none⟩) L12.length c12
        | 4 => v = .int .i64 (L12.length : Int)
        | 5 => v = .int .i64 (20 + (al : Int))
        | 6 => v = .pointer (some ⟨w.heap.size, 17, none⟩)
        | 7 => v = .int .i64 mtu
        | 8 => v = .bool false
        | _ => True) (Below.refl _ _) ?_ ?_ ?_
    · intro i v W W' h hb
      match i, h with
      | 0, h => exact h
      | 1, h => exact h
      | 2, h => exact h
      | 3, h => exact h
      | 4, h => exact h
      | 5, h => exact h
      | 6, h => exact h
      | 7, h => exact h
      | 8, h => exact h
      | _ + 9, _ => trivial
    · intro i o uu W hoo hVW hd
      rcases i with _|_|_|_|_|_|_|_|_|i
      · obtain rfl := Option.some.inj hoo
        refine .inl ⟨wanted_none rfl, ?_⟩
        generalize hev : Act.eval _ = ev
        have ec : ∀ c, ev (.const c) = c := fun c => by rw [← hev]; rfl
        have e12 : ev (.tmp 12) = .pointer (some ⟨g13, 0, none⟩) := by rw [← hev]; exact eval_old (by kernel_rfl) 46 rfl (by decide) rfl
        clear hev hd
        exact .inl ⟨_, W, load_blk Try.underlying38 (by kernel_rfl) (KP.next hVW) rfl e12, rfl, Below.refl _ _⟩
      · obtain rfl := Option.some.inj hoo
        have q0 : uu 0 = .agg #[.int .u8 (tos.toNat : Int), .int .u16 (nid.toNat : Int), .bool D, .bool false, .int .u16 0, .int .u8 64, .int .u8 4, .int .u32 (b1.toNat : Int), .int .u32 (to.toNat : Int), .slice none 0 0, .slice (some ⟨b12, off12, none⟩) L12.length c12] := hd 0 (by kernel_rfl)
        refine .inl ⟨wanted_none rfl, ?_⟩
        generalize hev : Act.eval _ = ev
        have ec : ∀ c, ev (.const c) = c := fun c => by rw [← hev]; rfl
        have ef : ∀ f, ev (.func f) = .func (.func f) #[] #[] := fun f => by rw [← hev]; rfl
        have e35 : ev (.tmp 35) = .agg #[.int .u8 (tos.toNat : Int), .int .u16 (nid.toNat : Int), .bool D, .bool false, .int .u16 0, .int .u8 64, .int .u8 4, .int .u32 (b1.toNat : Int), .int .u32 (to.toNat : Int), .slice none 0 0, .slice (some ⟨b12, off12, none⟩) L12.length c12] := by rw [← hev]; exact (eval_put (by kernel_rfl) 46 rfl (by decide)).trans q0
        clear hev hd q0
        exact .inr ⟨_, _, _, by go_simp, (HZ W).out, fun e w' he => ⟨_, he.1, rfl, he.2⟩⟩
      · obtain rfl := Option.some.inj hoo
        refine .inl ⟨wanted_none rfl, ?_⟩
        generalize hev : Act.eval _ = ev
        have ec : ∀ c, ev (.const c) = c := fun c => by rw [← hev]; rfl
        have e12 : ev (.tmp 12) = .pointer (some ⟨g13, 0, none⟩) := by rw [← hev]; exact eval_old (by kernel_rfl) 46 rfl (by decide) rfl
        clear hev hd
        exact .inl ⟨_, W, by go_simp, rfl, Below.refl _ _⟩
      · obtain rfl := Option.some.inj hoo
        have q2 : uu 2 = .pointer (some ⟨g13, 10, none⟩) := hd 2 (by kernel_rfl)
        refine .inl ⟨wanted_none rfl, ?_⟩
        generalize hev : Act.eval _ = ev
        have ec : ∀ c, ev (.const c) = c := fun c => by rw [← hev]; rfl
        have e37 : ev (.tmp 37) = .pointer (some ⟨g13, 10, none⟩) := by rw [← hev]; exact (eval_put (by kernel_rfl) 46 rfl (by decide)).trans q2
        clear hev hd q2
        obtain ⟨cc0, cc1⟩ := HS5 W hVW
        exact .inl ⟨_, W, by go_simp, rfl, Below.refl _ _⟩
      · obtain rfl := Option.some.inj hoo
        have q3 : uu 3 = .slice (some ⟨b12, off12, none⟩) L12.length c12 := hd 3 (by kernel_rfl)
        refine .inl ⟨wanted_none rfl, ?_⟩
        generalize hev : Act.eval _ = ev
        have ec : ∀ c, ev (.const c) = c := fun c => by rw [← hev]; rfl
        have e38 : ev (.tmp 38) = .slice (some ⟨b12, off12, none⟩) L12.length c12 := by rw [← hev]; exact (eval_put (by kernel_rfl) 46 rfl (by decide)).trans q3
        clear hev hd q3
        exact .inl ⟨_, W, by go_simp, rfl, Below.refl _ _⟩
      · obtain rfl := Option.some.inj hoo
        have q1 : uu 1 = .int .i64 20 := hd 1 (by kernel_rfl)
        have q4 : uu 4 = .int .i64 (L12.length : Int) := hd 4 (by kernel_rfl)
        refine .inl ⟨wanted_none rfl, ?_⟩
        generalize hev : Act.eval _ = ev
        have ec : ∀ c, ev (.const c) = c := fun c => by rw [← hev]; rfl
        have e36 : ev (.tmp 36) = .int .i64 20 := by rw [← hev]; exact (eval_put (by kernel_rfl) 46 rfl (by decide)).trans q1
        have e39 : ev (.tmp 39) = .int .i64 (L12.length : Int) := by rw [← hev]; exact (eval_put (by kernel_rfl) 46 rfl (by decide)).trans q4
        clear hev hd q1 q4
        exact .inl ⟨_, W, by go_simp, rfl, Below.refl _ _⟩
      · obtain rfl := Option.some.inj hoo
        refine .inl ⟨wanted_none rfl, ?_⟩
        generalize hev : Act.eval _ = ev
        have ec : ∀ c, ev (.const c) = c := fun c => by rw [← hev]; rfl
        have e4 : ev (.tmp 4) = .pointer (some ⟨w.heap.size, 0, none⟩) := by rw [← hev]; exact eval_old (by kernel_rfl) 46 rfl (by decide) rfl
        clear hev hd
        exact .inl ⟨_, W, by go_simp, rfl, Below.refl _ _⟩
      · obtain rfl := Option.some.inj hoo
        have q6 : uu 6 = .pointer (some ⟨w.heap.size, 17, none⟩) := hd 6 (by kernel_rfl)
        refine .inl ⟨wanted_none rfl, ?_⟩
        generalize hev : Act.eval _ = ev
        have ec : ∀ c, ev (.const c) = c := fun c => by rw [← hev]; rfl
        have e41 : ev (.tmp 41) = .pointer (some ⟨w.heap.size, 17, none⟩) := by rw [← hev]; exact (eval_put (by kernel_rfl) 46 rfl (by decide)).trans q6
        clear hev hd q6
        obtain ⟨cc0, cc1⟩ := HS5 W hVW
        exact .inl ⟨_, W, by go_simp, rfl, Below.refl _ _⟩
      · obtain rfl := Option.some.inj hoo
        have q5 : uu 5 = .int .i64 (20 + (al : Int)) := hd 5 (by kernel_rfl)
        have q7 : uu 7 = .int .i64 mtu := hd 7 (by kernel_rfl)
        refine .inl ⟨wanted_none rfl, ?_⟩
        generalize hev : Act.eval _ = ev
        have ec : ∀ c, ev (.const c) = c := fun c => by rw [← hev]; rfl
        have e40 : ev (.tmp 40) = .int .i64 (20 + (al : Int)) := by rw [← hev]; exact (eval_put (by kernel_rfl) 46 rfl (by decide)).trans q5
        have e42 : ev (.tmp 42) = .int .i64 mtu := by rw [← hev]; exact (eval_put (by kernel_rfl) 46 rfl (by decide)).trans q7
        clear hev hd q5 q7
        exact .inl ⟨_, W, by go_simp, rfl, Below.refl _ _⟩
      · simp at hoo
    · intro uu W hVW hall
      have q8 : uu 8 = .bool false := hall 8 (by decide)
      replace hB := hB.trans (hVW.mono hB.size)
      replace KR := KR.next hVW
      replace KP := KP.next hVW
      replace r12 := r12.next hVW
      clear hall HS5 hVW HZ KC
      simp only [putAll, Act.put, Nat.reduceAdd, q8]
      simp only [List.setIfInBounds_toArray, List.set_cons_succ, List.set_cons_zero]
      clear q8
      obtain ⟨p0, p1, p2, p3, p4, p5, p6, p7, p8, p9, p10, g0, g1, g2, g3, g4, g5, g6, g7, g8, g9, g10⟩ := KR.get11
      obtain ⟨t0, t1, t2, t3, t4, t5, t6, t7, t8, t9, t10, s0, s1, s2, s3, s4, s5, s6, s7, s8, s9, s10⟩ := KP.get11
      have hne1 : ¬ w.heap.size + 1 = g13 := by omega
      have hne2 : ¬ g13 = w.heap.size + 1 := by omega
      have hL12 := HL12l.out
      have hne3 : b12 ≠ w.heap.size + 1 := by
        rintro rfl
        obtain ⟨b1, off1, hA, -, hc⟩ := byt_at r12 (k := 11) (by omega)
        obtain ⟨rfl, rfl⟩ : w.heap.size + 1 = b1 ∧ off12 = off1 := by injection hA with hA; injection hA with h1 h2; exact ⟨h1, h2⟩
        have := hc 11 (by omega)
        rw [KR.cell, List.getElem?_eq_none (by simp)] at this
        cases this
      clear KR KP hL12
      go_wp2_with fail
      simp [bodyPost, results, Try.results33, go_sem, *]
      have r6 := (((((((((((r12.othr hne3 0 (.int .u8 (tos.toNat : Int))).othr hne3 1 (.int .u16 (nid.toNat : Int))).othr hne3 2 (.bool D)).othr hne3 3 (.bool false)).othr hne3 4 (.int .u16 0)).othr hne3 5 (.int .u8 64)).othr hne3 6 (.int .u8 4)).othr hne3 7 (.int .u32 (b1.toNat : Int))).othr hne3 8 (.int .u32 (to.toNat : Int))).othr hne3 9 (.slice none 0 0)).othr hne3 10 (.slice (some ⟨b12, off12, none⟩) L12.length c12))
      exact ⟨L12, some ⟨b12, off12, none⟩, c12, ⟨rfl, rfl, rfl⟩, HL12, by simpa using r6, bset11 hB (Nat.le_succ _) (.int .u8 (tos.toNat : Int)) (.int .u16 (nid.toNat : Int)) (.bool D) (.bool false) (.int .u16 0) (.int .u8 64) (.int .u8 4) (.int .u32 (b1.toNat : Int)) (.int .u32 (to.toNat : Int)) (.slice none 0 0) (.slice (some ⟨b12, off12, none⟩) L12.length c12)⟩

set_option maxHeartbeats 8000000 in
set_option maxRecDepth 10000 in
theorem twrap_big (cs : Array Value) (_hcz : cs.size = 40) (b1 : UInt32) (h13 : cs.toList[13]? = some (.int .u32 (b1.toNat : Int))) (mtu : Int) (h17 : cs.toList[17]? = some (.int .i64 mtu)) (to : UInt32) (nid : UInt16) {m fl al : Nat} {tos : UInt8} {id : UInt16} {D M : Bool} {fo : UInt16} {ttl pr : UInt8} {s d : UInt32} (A : Option Addr) (c : Nat) (xs : List UInt8) (w : World) (hr : Rd bv w w.heap.size A c xs) (hl : xs.length ≤ 1000000) (hk : IpOk xs m fl al tos id D M fo ttl pr s d) (hm : mtu < (al : Int) + 20) :
    Calls Try.prog 33 #[.agg cs, .slice A xs.length c, .int .u32 (to.toNat : Int), .int .u16 (nid.toNat : Int)] w fun e w' => e = .returned (.tuple #[.agg #[.int .u8 0, .int .u16 0, .bool false, .bool false, .int .u16 0, .int .u8 0, .int .u8 0, .int .u32 0, .int .u32 0, .slice none 0 0, .slice none 0 0], .int .i64 14]) ∧ Below w.heap.size w w' := by
  have hlc := hr.len
  have hcc := hr.cap
  obtain ⟨W1, hW1⟩ : ∃ W1, W1 = (w.alloc (.cells cs 79)).alloc (.cells #[.int .u8 0, .int .u16 0, .bool false, .bool false, .int .u16 0, .int .u8 0, .int .u8 0, .int .u32 0, .int .u32 0, .slice none 0 0, .slice none 0 0] 38) := ⟨_, rfl⟩
  have hB : Below w.heap.size w W1 := by subst hW1; exact bnextA (bnextA (Below.refl _ _) _) _
  have KC : Blk W1 w.heap.size cs.toList 79 := by subst hW1; exact (Blk.new _ _ _).alloc _
  have KR : Blk W1 (w.heap.size + 1) [.int .u8 0, .int .u16 0, .bool false, .bool false, .int .u16 0, .int .u8 0, .int .u8 0, .int .u32 0, .int .u32 0, .slice none 0 0, .slice none 0 0] 38 := by
    subst hW1
    have := Blk.new (w.alloc (.cells cs 79)) #[.int .u8 0, .int .u16 0, .bool false, .bool false, .int .u16 0, .int .u8 0, .int .u8 0, .int .u32 0, .int .u32 0, .slice none 0 0, .slice none 0 0] 38
    simpa using this
  replace hr := hr.next hB
  have h20 := hk.h20
  have hov := hk.hov
  have hm5 := hk.hm5
  have hm15 := hk.hm15
  have hla := hk.hla
  have hlL := hk.hl
  have HP := fun W (g : Rd bv W W.heap.size A c xs) => Lib.hid (hk.parse hl A c W g)
  have HW0 : ∀ W Ao co n1 Ax cx n2 (_ : n1 = 4 * m - 20) (_ : n2 = al - 4 * m), Rd bv W W.heap.size A c xs → Hid (Calls Try.prog 64 #[.agg #[.int .u8 (tos.toNat : Int), .int .u16 (id.toNat : Int), .bool D, .bool M, .int .u16 (fo.toNat : Int), .int .u8 (ttl.toNat : Int), .int .u8 (pr.toNat : Int), .int .u32 (s.toNat : Int), .int .u32 (d.toNat : Int), .slice Ao n1 co, .slice Ax n2 cx], .slice A xs.length c] W fun e w' => ∃ L A1 c1, e = .returned (.slice A1 L.length c1) ∧ Hid (L = xs.take al) ∧ Rd bv w' w'.heap.size A1 c1 L ∧ Below W.heap.size W w') := by
    intro W Ao co n1 Ax cx n2 h1 h2 g
    exact Lib.hid (twhole_any tos id D M fo ttl pr s d Ao Ax n1 co n2 cx A c xs al W g (by omega) (by omega) hov hl)
  have HZ0 : ∀ W A' n' c', Hid (Calls Try.prog 65 #[.agg #[.int .u8 (tos.toNat : Int), .int .u16 (nid.toNat : Int), .bool D, .bool false, .int .u16 0, .int .u8 64, .int .u8 4, .int .u32 (b1.toNat : Int), .int .u32 (to.toNat : Int), .slice none 0 0, .slice A' n' c']] W fun e w' => e = .returned (.int .i64 20) ∧ Below W.heap.size W w') := by
    intro W A' n' c'
    obtain ⟨z16, hz16⟩ : ∃ a : UInt16, (a.toNat : Int) = 0 := ⟨0, rfl⟩
    obtain ⟨t64, ht64⟩ : ∃ a : UInt8, (a.toNat : Int) = 64 := ⟨64, rfl⟩
    obtain ⟨p4, hp4⟩ : ∃ a : UInt8, (a.toNat : Int) = 4 := ⟨4, rfl⟩
    have h := psize_any tos nid D false z16 t64 p4 b1 to none A' 0 0 n' c' W (by omega)
    simp only [hz16, ht64, hp4] at h
    exact Lib.hid h
  have hlo : (xs.drop 20).length ≥ 4 * m - 20 := by simp; omega
  have hlx : (xs.drop (4 * m)).length ≥ al - 4 * m := by simp; omega
  clear hk
  go_enter Try.func33, Try.ntmps33
  go_wp2_with fail
  rw [← hW1]
  clear hW1
  refine (HP _ hr).out.mono ?_
  rintro e w2 ⟨Lo, Ao, co, Lx, Ax, cx, rfl, HLo, HLx, -, -, hbel⟩
  have HW := fun W g => HW0 W Ao co Lo.length Ax cx Lx.length (by rw [HLo.out, List.length_take]; omega) (by rw [HLx.out, List.length_take]; omega) g
  replace hB := bnextA (bnext hB hbel) (.cells #[.int .u8 (tos.toNat : Int), .int .u16 (id.toNat : Int), .bool D, .bool M, .int .u16 (fo.toNat : Int), .int .u8 (ttl.toNat : Int), .int .u8 (pr.toNat : Int), .int .u32 (s.toNat : Int), .int .u32 (d.toNat : Int), .slice Ao Lo.length co, .slice Ax Lx.length cx] 38)
  replace KC := (KC.next hbel).alloc (.cells #[.int .u8 (tos.toNat : Int), .int .u16 (id.toNat : Int), .bool D, .bool M, .int .u16 (fo.toNat : Int), .int .u8 (ttl.toNat : Int), .int .u8 (pr.toNat : Int), .int .u32 (s.toNat : Int), .int .u32 (d.toNat : Int), .slice Ao Lo.length co, .slice Ax Lx.length cx] 38)
  replace KR := (KR.next hbel).alloc (.cells #[.int .u8 (tos.toNat : Int), .int .u16 (id.toNat : Int), .bool D, .bool M, .int .u16 (fo.toNat : Int), .int .u8 (ttl.toNat : Int), .int .u8 (pr.toNat : Int), .int .u32 (s.toNat : Int), .int .u32 (d.toNat : Int), .slice Ao Lo.length co, .slice Ax Lx.length cx] 38)
  have KI := Blk.new w2 #[.int .u8 (tos.toNat : Int), .int .u16 (id.toNat : Int), .bool D, .bool M, .int .u16 (fo.toNat : Int), .int .u8 (ttl.toNat : Int), .int .u8 (pr.toNat : Int), .int .u32 (s.toNat : Int), .int .u32 (d.toNat : Int), .slice Ao Lo.length co, .slice Ax Lx.length cx] 38
  replace hr := (hr.next hbel).nextA (.cells #[.int .u8 (tos.toNat : Int), .int .u16 (id.toNat : Int), .bool D, .bool M, .int .u16 (fo.toNat : Int), .int .u8 (ttl.toNat : Int), .int .u8 (pr.toNat : Int), .int .u32 (s.toNat : Int), .int .u32 (d.toNat : Int), .slice Ao Lo.length co, .slice Ax Lx.length cx] 38)
  clear hbel HP HW0 HLo HLx hlo hlx
  go_wp2_with fail
  generalize w2.heap.size = gi at *
  generalize w2.alloc (.cells #[.int .u8 (tos.toNat : Int), .int .u16 (id.toNat : Int), .bool D, .bool M, .int .u16 (fo.toNat : Int), .int .u8 (ttl.toNat : Int), .int .u8 (pr.toNat : Int), .int .u32 (s.toNat : Int), .int .u32 (d.toNat : Int), .slice Ao Lo.length co, .slice Ax Lx.length cx] 38) = V at *
  have hlt1 := KR.lt
  have HCC : ∀ W, Below V.heap.size V W → (W.cell? ⟨gi, 0, none⟩ = some (.int .u8 (tos.toNat : Int)) ∧ W.cell? ⟨gi, 2, none⟩ = some (.bool D) ∧ W.cell? ⟨w.heap.size, 13, none⟩ = some (.int .u32 (b1.toNat : Int))) := by
    intro W h
    exact ⟨(KI.next h).cell 0, (KI.next h).cell 2, ((KC.next h).cell 13).trans h13⟩
  refine region_put_last (by kernel_rfl) (by kernel_rfl) (by kernel_rfl) 46 rfl (by kernel_rfl) V (fun i v W => match i with
      | 0 => v = .pointer (some ⟨gi, 0, none⟩)
      | 1 => v = .int .u8 (tos.toNat : Int)
      | 2 => v = .int .u16 (nid.toNat : Int)
      | 3 => v = .pointer (some ⟨gi, 2, none⟩)
      | 4 => v = .bool D
      | 5 => v = .pointer (some ⟨w.heap.size, 12, none⟩)
      | 6 => v = .pointer (some ⟨w.heap.size, 13, none⟩)
      | 7 => v = .int .u32 (b1.toNat : Int)
      | 8 => v = .int .u32 (to.toNat : Int)
      | 9 => v = .agg #[.int .u8 (tos.toNat : Int), .int .u16 (id.toNat : Int), .bool D, .bool M, .int .u16 (fo.toNat : Int), .int .u8 (ttl.toNat : Int), .int .u8 (pr.toNat : Int), .int .u32 (s.toNat : Int), .int .u32 (d.toNat : Int), .slice Ao Lo.length co, .slice Ax Lx.length cx]
      | 10 => v = .slice A xs.length c
      | 11 => ∃ L A c, v = .slice A L.length c ∧ Hid (L = xs.take al) ∧ Rd bv W W.heap.size A c L
      | 12 => ∃ L A c, v = .agg #[.int .u8 (tos.toNat : Int), .int .u16 (nid.toNat : Int), .bool D, .bool false, .int .u16 0, .int .u8 64, .int .u8 4, .int .u32 (b1.toNat : Int), .int .u32 (to.toNat : Int), .slice none 0 0, .slice A L.length c] ∧ Hid (L = xs.take al) ∧ Rd bv W W.heap.size A c L
      | 13 => ∃ g, v = .pointer (some ⟨g, 0, none⟩) ∧ V.heap.size ≤ g ∧ Blk W g [.int .u8 0, .int .u16 0, .bool false, .bool false, .int .u16 0, .int .u8 0, .int .u8 0, .int .u32 0, .int .u32 0, .slice none 0 0, .slice none 0 0] 38
      | _ => True) (Below.refl _ _) 14 rfl (by kernel_rfl) (by intro o h; obtain rfl := Option.some.inj h; rfl) ?_ ?_ ?_
  · intro i v W W' h hb
    match i, h with
    | 0, h => exact h
    | 1, h => exact h
    | 2, h => exact h
    | 3, h => exact h
    | 4, h => exact h
    | 5, h => exact h
    | 6, h => exact h
    | 7, h => exact h
    | 8, h => exact h
    | 9, h => exact h
    | 10, h => exact h
    | 11, h => obtain ⟨L, A, c, h1, h2, h3⟩ := h; exact ⟨L, A, c, h1, h2, h3.next hb⟩
    | 12, h => obtain ⟨L, A, c, h1, h2, h3⟩ := h; exact ⟨L, A, c, h1, h2, h3.next hb⟩
    | 13, h => obtain ⟨g, h1, h2, h3⟩ := h; exact ⟨g, h1, h2, h3.next hb⟩
    | _ + 14, _ => trivial
  · intro i oo uu W him hoo hVW hd
    rcases i with _|_|_|_|_|_|_|_|_|_|_|_|_|_|i
    · obtain rfl := Option.some.inj hoo
      refine .inl ⟨wanted_none rfl, ?_⟩
      generalize hev : Act.eval _ = ev
      have ec : ∀ c, ev (.const c) = c := fun c => by rw [← hev]; rfl
      have e10 : ev (.tmp 10) = .pointer (some ⟨gi, 0, none⟩) := by rw [← hev]; exact eval_old (by kernel_rfl) 46 rfl (by decide) rfl
      clear hev hd
      exact .inl ⟨_, W, by go_simp, rfl, Below.refl _ _⟩
    · obtain rfl := Option.some.inj hoo
      have q0 : uu 0 = .pointer (some ⟨gi, 0, none⟩) := hd 0 (by kernel_rfl)
      refine .inl ⟨wanted_none rfl, ?_⟩
      generalize hev : Act.eval _ = ev
      have ec : ∀ c, ev (.const c) = c := fun c => by rw [← hev]; rfl
      have e22 : ev (.tmp 22) = .pointer (some ⟨gi, 0, none⟩) := by rw [← hev]; exact (eval_put (by kernel_rfl) 46 rfl (by decide)).trans q0
      clear hev hd q0
      obtain ⟨cc0, cc1, cc2⟩ := HCC W hVW
      exact .inl ⟨_, W, by go_simp, rfl, Below.refl _ _⟩
    · obtain rfl := Option.some.inj hoo
      refine .inl ⟨wanted_none rfl, ?_⟩
      generalize hev : Act.eval _ = ev
      have ec : ∀ c, ev (.const c) = c := fun c => by rw [← hev]; rfl
      have e3 : ev (.tmp 3) = .int .u16 (nid.toNat : Int) := by rw [← hev]; exact eval_old (by kernel_rfl) 46 rfl (by decide) rfl
      clear hev hd
      exact .inl ⟨_, W, by go_simp, rfl, Below.refl _ _⟩
    · obtain rfl := Option.some.inj hoo
      refine .inl ⟨wanted_none rfl, ?_⟩
      generalize hev : Act.eval _ = ev
      have ec : ∀ c, ev (.const c) = c := fun c => by rw [← hev]; rfl
      have e10 : ev (.tmp 10) = .pointer (some ⟨gi, 0, none⟩) := by rw [← hev]; exact eval_old (by kernel_rfl) 46 rfl (by decide) rfl
      clear hev hd
      exact .inl ⟨_, W, by go_simp, rfl, Below.refl _ _⟩
    · obtain rfl := Option.some.inj hoo
      have q3 : uu 3 = .pointer (some ⟨gi, 2, none⟩) := hd 3 (by kernel_rfl)
      refine .inl ⟨wanted_none rfl, ?_⟩
      generalize hev : Act.eval _ = ev
      have ec : ∀ c, ev (.const c) = c := fun c => by rw [← hev]; rfl
      have e25 : ev (.tmp 25) = .pointer (some ⟨gi, 2, none⟩) := by rw [← hev]; exact (eval_put (by kernel_rfl) 46 rfl (by decide)).trans q3
      clear hev hd q3
      obtain ⟨cc0, cc1, cc2⟩ := HCC W hVW
      exact .inl ⟨_, W, by go_simp, rfl, Below.refl _ _⟩
    · obtain rfl := Option.some.inj hoo
      refine .inl ⟨wanted_none rfl, ?_⟩
      generalize hev : Act.eval _ = ev
      have ec : ∀ c, ev (.const c) = c := fun c => by rw [← hev]; rfl
      have e4 : ev (.tmp 4) = .pointer (some ⟨w.heap.size, 0, none⟩) := by rw [← hev]; exact eval_old (by kernel_rfl) 46 rfl (by decide) rfl
      clear hev hd
      exact .inl ⟨_, W, by go_simp, rfl, Below.refl _ _⟩
    · obtain rfl := Option.some.inj hoo
      have q5 : uu 5 = .pointer (some ⟨w.heap.size, 12, none⟩) := hd 5 (by kernel_rfl)
      refine .inl ⟨wanted_none rfl, ?_⟩
      generalize hev : Act.eval _ = ev
      have ec : ∀ c, ev (.const c) = c := fun c => by rw [← hev]; rfl
      have e27 : ev (.tmp 27) = .pointer (some ⟨w.heap.size, 12, none⟩) := by rw [← hev]; exact (eval_put (by kernel_rfl) 46 rfl (by decide)).trans q5
      clear hev hd q5
      exact .inl ⟨_, W, by go_simp, rfl, Below.refl _ _⟩
    · obtain rfl := Option.some.inj hoo
      have q6 : uu 6 = .pointer (some ⟨w.heap.size, 13, none⟩) := hd 6 (by kernel_rfl)
      refine .inl ⟨wanted_none rfl, ?_⟩
      generalize hev : Act.eval _ = ev
      have ec : ∀ c, ev (.const c) = c := fun c => by rw [← hev]; rfl
      have e28 : ev (.tmp 28) = .pointer (some ⟨w.heap.size, 13, none⟩) := by rw [← hev]; exact (eval_put (by kernel_rfl) 46 rfl (by decide)).trans q6
      clear hev hd q6
      obtain ⟨cc0, cc1, cc2⟩ := HCC W hVW
      exact .inl ⟨_, W, by go_simp, rfl, Below.refl _ _⟩
    · obtain rfl := Option.some.inj hoo
      refine .inl ⟨wanted_none rfl, ?_⟩
      generalize hev : Act.eval _ = ev
      have ec : ∀ c, ev (.const c) = c := fun c => by rw [← hev]; rfl
      have e2 : ev (.tmp 2) = .int .u32 (to.toNat : Int) := by rw [← hev]; exact eval_old (by kernel_rfl) 46 rfl (by decide) rfl
      clear hev hd
      exact .inl ⟨_, W, by go_simp, rfl, Below.refl _ _⟩
    · obtain rfl := Option.some.inj hoo
      refine .inl ⟨wanted_none rfl, ?_⟩
      generalize hev : Act.eval _ = ev
      have ec : ∀ c, ev (.const c) = c := fun c => by rw [← hev]; rfl
      have e10 : ev (.tmp 10) = .pointer (some ⟨gi, 0, none⟩) := by rw [← hev]; exact eval_old (by kernel_rfl) 46 rfl (by decide) rfl
      clear hev hd
      exact .inl ⟨_, W, load_blk Try.underlying38 (by kernel_rfl) (KI.next hVW) rfl e10, rfl, Below.refl _ _⟩
    · obtain rfl := Option.some.inj hoo
      refine .inl ⟨wanted_none rfl, ?_⟩
      generalize hev : Act.eval _ = ev
      have ec : ∀ c, ev (.const c) = c := fun c => by rw [← hev]; rfl
      have e1 : ev (.tmp 1) = .slice A xs.length c := by rw [← hev]; exact eval_old (by kernel_rfl) 46 rfl (by decide) rfl
      clear hev hd
      exact .inl ⟨_, W, by go_simp, rfl, Below.refl _ _⟩
    · obtain rfl := Option.some.inj hoo
      have q9 : uu 9 = .agg #[.int .u8 (tos.toNat : Int), .int .u16 (id.toNat : Int), .bool D, .bool M, .int .u16 (fo.toNat : Int), .int .u8 (ttl.toNat : Int), .int .u8 (pr.toNat : Int), .int .u32 (s.toNat : Int), .int .u32 (d.toNat : Int), .slice Ao Lo.length co, .slice Ax Lx.length cx] := hd 9 (by kernel_rfl)
      have q10 : uu 10 = .slice A xs.length c := hd 10 (by kernel_rfl)
      refine .inl ⟨wanted_none rfl, ?_⟩
      generalize hev : Act.eval _ = ev
      have ec : ∀ c, ev (.const c) = c := fun c => by rw [← hev]; rfl
      have ef : ∀ f, ev (.func f) = .func (.func f) #[] #[] := fun f => by rw [← hev]; rfl
      have e31 : ev (.tmp 31) = .agg #[.int .u8 (tos.toNat : Int), .int .u16 (id.toNat : Int), .bool D, .bool M, .int .u16 (fo.toNat : Int), .int .u8 (ttl.toNat : Int), .int .u8 (pr.toNat : Int), .int .u32 (s.toNat : Int), .int .u32 (d.toNat : Int), .slice Ao Lo.length co, .slice Ax Lx.length cx] := by rw [← hev]; exact (eval_put (by kernel_rfl) 46 rfl (by decide)).trans q9
      have e32 : ev (.tmp 32) = .slice A xs.length c := by rw [← hev]; exact (eval_put (by kernel_rfl) 46 rfl (by decide)).trans q10
      clear hev hd q9 q10
      exact .inr ⟨_, _, _, by go_simp, (HW W (hr.next hVW)).out, fun e w' he => by
        obtain ⟨L, A, c, rfl, HL, hr, hb⟩ := he
        exact ⟨_, rfl, ⟨L, A, c, rfl, HL, hr⟩, hb⟩⟩
    · obtain rfl := Option.some.inj hoo
      have q1 : uu 1 = .int .u8 (tos.toNat : Int) := hd 1 (by kernel_rfl)
      have q2 : uu 2 = .int .u16 (nid.toNat : Int) := hd 2 (by kernel_rfl)
      have q4 : uu 4 = .bool D := hd 4 (by kernel_rfl)
      have q7 : uu 7 = .int .u32 (b1.toNat : Int) := hd 7 (by kernel_rfl)
      have q8 : uu 8 = .int .u32 (to.toNat : Int) := hd 8 (by kernel_rfl)
      obtain ⟨L11, A11, c11, q11, HL11, r11⟩ := hd 11 (by kernel_rfl)
      refine .inl ⟨wanted_none rfl, ?_⟩
      generalize hev : Act.eval _ = ev
      have ec : ∀ c, ev (.const c) = c := fun c => by rw [← hev]; rfl
      have e23 : ev (.tmp 23) = .int .u8 (tos.toNat : Int) := by rw [← hev]; exact (eval_put (by kernel_rfl) 46 rfl (by decide)).trans q1
      have e24 : ev (.tmp 24) = .int .u16 (nid.toNat : Int) := by rw [← hev]; exact (eval_put (by kernel_rfl) 46 rfl (by decide)).trans q2
      have e26 : ev (.tmp 26) = .bool D := by rw [← hev]; exact (eval_put (by kernel_rfl) 46 rfl (by decide)).trans q4
      have e29 : ev (.tmp 29) = .int .u32 (b1.toNat : Int) := by rw [← hev]; exact (eval_put (by kernel_rfl) 46 rfl (by decide)).trans q7
      have e30 : ev (.tmp 30) = .int .u32 (to.toNat : Int) := by rw [← hev]; exact (eval_put (by kernel_rfl) 46 rfl (by decide)).trans q8
      have e33 : ev (.tmp 33) = .slice A11 L11.length c11 := by rw [← hev]; exact (eval_put (by kernel_rfl) 46 rfl (by decide)).trans q11
      clear hev hd q1 q2 q4 q7 q8 q11
      exact .inl ⟨_, W, by go_simp, ⟨L11, A11, c11, rfl, HL11, r11⟩, Below.refl _ _⟩
    · obtain rfl := Option.some.inj hoo
      refine .inl ⟨wanted_none rfl, ?_⟩
      generalize hev : Act.eval _ = ev
      have ec : ∀ c, ev (.const c) = c := fun c => by rw [← hev]; rfl
      clear hev hd
      exact .inl ⟨_, W.alloc (.cells #[.int .u8 0, .int .u16 0, .bool false, .bool false, .int .u16 0, .int .u8 0, .int .u8 0, .int .u32 0, .int .u32 0, .slice none 0 0, .slice none 0 0] 38), by go_simp, ⟨W.heap.size, rfl, hVW.size, Blk.new W #[.int .u8 0, .int .u16 0, .bool false, .bool false, .int .u16 0, .int .u8 0, .int .u8 0, .int .u32 0, .int .u32 0, .slice none 0 0, .slice none 0 0] 38⟩, bnextA (Below.refl _ _) _⟩
    · omega
  · intro oo uu W hoo hVW hall
    obtain rfl := Option.some.inj hoo
    obtain ⟨g13, q13, hle13, hbk13⟩ := hall 13 (by decide)
    obtain ⟨L12, A12, c12, q12, HL12, r12⟩ := hall 12 (by decide)
    refine ⟨wanted_none rfl, ?_⟩
    generalize hev : Act.eval _ = ev
    have ec : ∀ c, ev (.const c) = c := fun c => by rw [← hev]; rfl
    have e12 : ev (.tmp 12) = .pointer (some ⟨g13, 0, none⟩) := by rw [← hev]; exact (eval_put (by kernel_rfl) 46 rfl (by decide)).trans q13
    have e34 : ev (.tmp 34) = .agg #[.int .u8 (tos.toNat : Int), .int .u16 (nid.toNat : Int), .bool D, .bool false, .int .u16 0, .int .u8 64, .int .u8 4, .int .u32 (b1.toNat : Int), .int .u32 (to.toNat : Int), .slice none 0 0, .slice A12 L12.length c12] := by rw [← hev]; exact (eval_put (by kernel_rfl) 46 rfl (by decide)).trans q12
    clear hev hall
    obtain ⟨m0, m1, m2, m3, m4, m5, m6, m7, m8, m9, m10, k0, k1, k2, k3, k4, k5, k6, k7, k8, k9, k10⟩ := hbk13.get11
    refine ⟨_, by (go_simp <;> rfl), ?_⟩
    clear HCC
    simp only [putAll, Act.put, Nat.reduceAdd, q13]
    simp only [List.setIfInBounds_toArray, List.set_cons_succ, List.set_cons_zero]
    have hL12 : L12.length = al := by rw [HL12.out]; simp; omega
    obtain ⟨b12, off12, rfl, -, hc12⟩ := byt_at r12 (k := 0) (by omega)
    have hneb : b12 ≠ g13 := by
      rintro rfl
      have h1 := hc12 11 (by omega)
      rw [hbk13.cell, List.getElem?_eq_none (by simp)] at h1
      cases h1
    have hWU := bset11 hVW hle13 (.int .u8 (tos.toNat : Int)) (.int .u16 (nid.toNat : Int)) (.bool D) (.bool false) (.int .u16 0) (.int .u8 64) (.int .u8 4) (.int .u32 (b1.toNat : Int)) (.int .u32 (to.toNat : Int)) (.slice none 0 0) (.slice (some ⟨b12, off12, none⟩) L12.length c12)
    have KP := hbk13.set11 (u0 := .int .u8 (tos.toNat : Int)) (u1 := .int .u16 (nid.toNat : Int)) (u2 := .bool D) (u3 := .bool false) (u4 := .int .u16 0) (u5 := .int .u8 64) (u6 := .int .u8 4) (u7 := .int .u32 (b1.toNat : Int)) (u8 := .int .u32 (to.toNat : Int)) (u9 := .slice none 0 0) (u10 := .slice (some ⟨b12, off12, none⟩) L12.length c12)
    have r13 := (((((((((((r12.othr hneb 0 (.int .u8 (tos.toNat : Int))).othr hneb 1 (.int .u16 (nid.toNat : Int))).othr hneb 2 (.bool D)).othr hneb 3 (.bool false)).othr hneb 4 (.int .u16 0)).othr hneb 5 (.int .u8 64)).othr hneb 6 (.int .u8 4)).othr hneb 7 (.int .u32 (b1.toNat : Int))).othr hneb 8 (.int .u32 (to.toNat : Int))).othr hneb 9 (.slice none 0 0)).othr hneb 10 (.slice (some ⟨b12, off12, none⟩) L12.length c12))
    replace KC := KC.next hWU
    replace KR := KR.next hWU
    replace hB := hB.trans (hWU.mono hB.size)
    have hgl := Nat.lt_of_lt_of_le hlt1 hle13
    have hgp := KP.lt
    clear hc12 hbk13 r12 hVW hWU KI hr HW q12 q13
    simp only [setAll11] at KP KC KR hB hgp
    have r12 : Rd bv (((((((((((W.setCell ⟨g13, 0, none⟩ (.int .u8 (tos.toNat : Int))).setCell ⟨g13, 1, none⟩ (.int .u16 (nid.toNat : Int))).setCell ⟨g13, 2, none⟩ (.bool D)).setCell ⟨g13, 3, none⟩ (.bool false)).setCell ⟨g13, 4, none⟩ (.int .u16 0)).setCell ⟨g13, 5, none⟩ (.int .u8 64)).setCell ⟨g13, 6, none⟩ (.int .u8 4)).setCell ⟨g13, 7, none⟩ (.int .u32 (b1.toNat : Int))).setCell ⟨g13, 8, none⟩ (.int .u32 (to.toNat : Int))).setCell ⟨g13, 9, none⟩ (.slice none 0 0)).setCell ⟨g13, 10, none⟩ (.slice (some ⟨b12, off12, none⟩) L12.length c12)) ((((((((((((W.setCell ⟨g13, 0, none⟩ (.int .u8 (tos.toNat : Int))).setCell ⟨g13, 1, none⟩ (.int .u16 (nid.toNat : Int))).setCell ⟨g13, 2, none⟩ (.bool D)).setCell ⟨g13, 3, none⟩ (.bool false)).setCell ⟨g13, 4, none⟩ (.int .u16 0)).setCell ⟨g13, 5, none⟩ (.int .u8 64)).setCell ⟨g13, 6, none⟩ (.int .u8 4)).setCell ⟨g13, 7, none⟩ (.int .u32 (b1.toNat : Int))).setCell ⟨g13, 8, none⟩ (.int .u32 (to.toNat : Int))).setCell ⟨g13, 9, none⟩ (.slice none 0 0)).setCell ⟨g13, 10, none⟩ (.slice (some ⟨b12, off12, none⟩) L12.length c12))).heap.size (some ⟨b12, off12, none⟩) c12 L12 := by simpa using r13
    clear r13
    generalize (((((((((((W.setCell ⟨g13, 0, none⟩ (.int .u8 (tos.toNat : Int))).setCell ⟨g13, 1, none⟩ (.int .u16 (nid.toNat : Int))).setCell ⟨g13, 2, none⟩ (.bool D)).setCell ⟨g13, 3, none⟩ (.bool false)).setCell ⟨g13, 4, none⟩ (.int .u16 0)).setCell ⟨g13, 5, none⟩ (.int .u8 64)).setCell ⟨g13, 6, none⟩ (.int .u8 4)).setCell ⟨g13, 7, none⟩ (.int .u32 (b1.toNat : Int))).setCell ⟨g13, 8, none⟩ (.int .u32 (to.toNat : Int))).setCell ⟨g13, 9, none⟩ (.slice none 0 0)).setCell ⟨g13, 10, none⟩ (.slice (some ⟨b12, off12, none⟩) L12.length c12)) = V2 at *
    have wa : IntKind.i64.wrap (20 + (L12.length : Int)) = 20 + (al : Int) := by rw [hL12, IntKind.wrap_i64]; omega
    have hd1 : decide (20 + (al : Int) > mtu) = true := by simp; omega
    have hd2 : decide (mtu < 20 + (al : Int)) = true := by simp; omega
    have HL12l := Lib.hid hL12
    clear hL12
    have HZ : ∀ W, Hid (Calls Try.prog 65 #[.agg #[.int .u8 (tos.toNat : Int), .int .u16 (nid.toNat : Int), .bool D, .bool false, .int .u16 0, .int .u8 64, .int .u8 4, .int .u32 (b1.toNat : Int), .int .u32 (to.toNat : Int), .slice none 0 0, .slice (some ⟨b12, off12, none⟩) L12.length c12]] W fun e w' => e = .returned (.int .i64 20) ∧ Below W.heap.size W w') := fun W => HZ0 W (some ⟨b12, off12, none⟩) L12.length c12
    clear HZ0
    have HS5 : ∀ W, Below V2.heap.size V2 W → (W.cell? ⟨g13, 10, none⟩ = some (.slice (some ⟨b12, off12, none⟩) L12.length c12) ∧ W.cell? ⟨w.heap.size, 17, none⟩ = some (.int .i64 mtu)) := by
      intro W h
      exact ⟨(KP.next h).cell 10, ((KC.next h).cell 17).trans h17⟩
    go_wp2_with fail
    refine region_put (by kernel_rfl) (by kernel_rfl) (by kernel_rfl) 46 rfl (by kernel_rfl) V2 (fun i v W => match i with
        | 0 => v = .agg #[.int .u8 (tos.toNat : Int), .int .u16 (nid.toNat : Int), .bool D, .bool false, .int .u16 0, .int .u8 64, .int .u8 4, .int .u32 (b1.toNat : Int), .int .u32 (to.toNat : Int), .slice none 0 0, .slice (some ⟨b12, off12, none⟩) L12.length c12]
        | 1 => v = .int .i64 20
        | 2 => v = .pointer (some ⟨g13, 10, none⟩)
        | 3 => v = .slice (some ⟨b12, off12, none⟩) L12.length c12
        | 4 => v = .int .i64 (L12.length : Int)
        | 5 => v = .int .i64 (20 + (al : Int))
        | 6 => v = .pointer (some ⟨w.heap.size, 17, none⟩)
        | 7 => v = .int .i64 mtu
        | 8 => v = .bool true
        | _ => True) (Below.refl _ _) ?_ ?_ ?_
    · intro i v W W' h hb
      match i, h with
      | 0, h => exact h
      | 1, h => exact h
      | 2, h => exact h
      | 3, h => exact h
      | 4, h => exact h
      | 5, h => exact h
      | 6, h => exact h
      | 7, h => exact h
      | 8, h => exact h
      | _ + 9, _ => trivial
    · intro i o uu W hoo hVW hd
      rcases i with _|_|_|_|_|_|_|_|_|i
      · obtain rfl := Option.some.inj hoo
        refine .inl ⟨wanted_none rfl, ?_⟩
        generalize hev : Act.eval _ = ev
        have ec : ∀ c, ev (.const c) = c := fun c => by rw [← hev]; rfl
        have e12 : ev (.tmp 12) = .pointer (some ⟨g13, 0, none⟩) := by rw [← hev]; exact eval_old (by kernel_rfl) 46 rfl (by decide) rfl
        clear hev hd
        exact .inl ⟨_, W, load_blk Try.underlying38 (by kernel_rfl) (KP.next hVW) rfl e12, rfl, Below.refl _ _⟩
      · obtain rfl := Option.some.inj hoo
        have q0 : uu 0 = .agg #[.int .u8 (tos.toNat : Int), .int .u16 (nid.toNat : Int), .bool D, .bool false, .int .u16 0, .int .u8 64, .int .u8 4, .int .u32 (b1.toNat : Int), .int .u32 (to.toNat : Int), .slice none 0 0, .slice (some ⟨b12, off12, none⟩) L12.length c12] := hd 0 (by kernel_rfl)
        refine .inl ⟨wanted_none rfl, ?_⟩
        generalize hev : Act.eval _ = ev
        have ec : ∀ c, ev (.const c) = c := fun c => by rw [← hev]; rfl
        have ef : ∀ f, ev (.func f) = .func (.func f) #[] #[] := fun f => by rw [← hev]; rfl
        have e35 : ev (.tmp 35) = .agg #[.int .u8 (tos.toNat : Int), .int .u16 (nid.toNat : Int), .bool D, .bool false, .int .u16 0, .int .u8 64, .int .u8 4, .int .u32 (b1.toNat : Int), .int .u32 (to.toNat : Int), .slice none 0 0, .slice (some ⟨b12, off12, none⟩) L12.length c12] := by rw [← hev]; exact (eval_put (by kernel_rfl) 46 rfl (by decide)).trans q0
        clear hev hd q0
        exact .inr ⟨_, _, _, by go_simp, (HZ W).out, fun e w' he => ⟨_, he.1, rfl, he.2⟩⟩
      · obtain rfl := Option.some.inj hoo
        refine .inl ⟨wanted_none rfl, ?_⟩
        generalize hev : Act.eval _ = ev
        have ec : ∀ c, ev (.const c) = c := fun c => by rw [← hev]; rfl
        have e12 : ev (.tmp 12) = .pointer (some ⟨g13, 0, none⟩) := by rw [← hev]; exact eval_old (by kernel_rfl) 46 rfl (by decide) rfl
        clear hev hd
        exact .inl ⟨_, W, by go_simp, rfl, Below.refl _ _⟩
      · obtain rfl := Option.some.inj hoo
        have q2 : uu 2 = .pointer (some ⟨g13, 10, none⟩) := hd 2 (by kernel_rfl)
        refine .inl ⟨wanted_none rfl, ?_⟩
        generalize hev : Act.eval _ = ev
        have ec : ∀ c, ev (.const c) = c := fun c => by rw [← hev]; rfl
        have e37 : ev (.tmp 37) = .pointer (some ⟨g13, 10, none⟩) := by rw [← hev]; exact (eval_put (by kernel_rfl) 46 rfl (by decide)).trans q2
        clear hev hd q2
        obtain ⟨cc0, cc1⟩ := HS5 W hVW
        exact .inl ⟨_, W, by go_simp, rfl, Below.refl _ _⟩
      · obtain rfl := Option.some.inj hoo
        have q3 : uu 3 = .slice (some ⟨b12, off12, none⟩) L12.length c12 := hd 3 (by kernel_rfl)
        refine .inl ⟨wanted_none rfl, ?_⟩
        generalize hev : Act.eval _ = ev
        have ec : ∀ c, ev (.const c) = c := fun c => by rw [← hev]; rfl
        have e38 : ev (.tmp 38) = .slice (some ⟨b12, off12, none⟩) L12.length c12 := by rw [← hev]; exact (eval_put (by kernel_rfl) 46 rfl (by decide)).trans q3
        clear hev hd q3
        exact .inl ⟨_, W, by go_simp, rfl, Below.refl _ _⟩
      · obtain rfl := Option.some.inj hoo
        have q1 : uu 1 = .int .i64 20 := hd 1 (by kernel_rfl)
        have q4 : uu 4 = .int .i64 (L12.length : Int) := hd 4 (by kernel_rfl)
        refine .inl ⟨wanted_none rfl, ?_⟩
        generalize hev : Act.eval _ = ev
        have ec : ∀ c, ev (.const c) = c := fun c => by rw [← hev]; rfl
        have e36 : ev (.tmp 36) = .int .i64 20 := by rw [← hev]; exact (eval_put (by kernel_rfl) 46 rfl (by decide)).trans q1
        have e39 : ev (.tmp 39) = .int .i64 (L12.length : Int) := by rw [← hev]; exact (eval_put (by kernel_rfl) 46 rfl (by decide)).trans q4
        clear hev hd q1 q4
        exact .inl ⟨_, W, by go_simp, rfl, Below.refl _ _⟩
      · obtain rfl := Option.some.inj hoo
        refine .inl ⟨wanted_none rfl, ?_⟩
        generalize hev : Act.eval _ = ev
        have ec : ∀ c, ev (.const c) = c := fun c => by rw [← hev]; rfl
        have e4 : ev (.tmp 4) = .pointer (some ⟨w.heap.size, 0, none⟩) := by rw [← hev]; exact eval_old (by kernel_rfl) 46 rfl (by decide) rfl
        clear hev hd
        exact .inl ⟨_, W, by go_simp, rfl, Below.refl _ _⟩
      · obtain rfl := Option.some.inj hoo
        have q6 : uu 6 = .pointer (some ⟨w.heap.size, 17, none⟩) := hd 6 (by kernel_rfl)
        refine .inl ⟨wanted_none rfl, ?_⟩
        generalize hev : Act.eval _ = ev
        have ec : ∀ c, ev (.const c) = c := fun c => by rw [← hev]; rfl
        have e41 : ev (.tmp 41) = .pointer (some ⟨w.heap.size, 17, none⟩) := by rw [← hev]; exact (eval_put (by kernel_rfl) 46 rfl (by decide)).trans q6
        clear hev hd q6
        obtain ⟨cc0, cc1⟩ := HS5 W hVW
        exact .inl ⟨_, W, by go_simp, rfl, Below.refl _ _⟩
      · obtain rfl := Option.some.inj hoo
        have q5 : uu 5 = .int .i64 (20 + (al : Int)) := hd 5 (by kernel_rfl)
        have q7 : uu 7 = .int .i64 mtu := hd 7 (by kernel_rfl)
        refine .inl ⟨wanted_none rfl, ?_⟩
        generalize hev : Act.eval _ = ev
        have ec : ∀ c, ev (.const c) = c := fun c => by rw [← hev]; rfl
        have e40 : ev (.tmp 40) = .int .i64 (20 + (al : Int)) := by rw [← hev]; exact (eval_put (by kernel_rfl) 46 rfl (by decide)).trans q5
        have e42 : ev (.tmp 42) = .int .i64 mtu := by rw [← hev]; exact (eval_put (by kernel_rfl) 46 rfl (by decide)).trans q7
        clear hev hd q5 q7
        exact .inl ⟨_, W, by go_simp, rfl, Below.refl _ _⟩
      · simp at hoo
    · intro uu W hVW hall
      have q8 : uu 8 = .bool true := hall 8 (by decide)
      replace hB := hB.trans (hVW.mono hB.size)
      replace KR := KR.next hVW
      replace KP := KP.next hVW
      replace r12 := r12.next hVW
      clear hall HS5 hVW HZ KC
      simp only [putAll, Act.put, Nat.reduceAdd, q8]
      simp only [List.setIfInBounds_toArray, List.set_cons_succ, List.set_cons_zero]
      clear q8
      obtain ⟨p0, p1, p2, p3, p4, p5, p6, p7, p8, p9, p10, g0, g1, g2, g3, g4, g5, g6, g7, g8, g9, g10⟩ := KR.get11
      obtain ⟨t0, t1, t2, t3, t4, t5, t6, t7, t8, t9, t10, s0, s1, s2, s3, s4, s5, s6, s7, s8, s9, s10⟩ := KP.get11
      have hne1 : ¬ w.heap.size + 1 = g13 := by omega
      have hne2 : ¬ g13 = w.heap.size + 1 := by omega
      have hL12 := HL12l.out
      have hne3 : b12 ≠ w.heap.size + 1 := by
        rintro rfl
        obtain ⟨b1, off1, hA, -, hc⟩ := byt_at r12 (k := 11) (by omega)
        obtain ⟨rfl, rfl⟩ : w.heap.size + 1 = b1 ∧ off12 = off1 := by injection hA with hA; injection hA with h1 h2; exact ⟨h1, h2⟩
        have := hc 11 (by omega)
        rw [KR.cell, List.getElem?_eq_none (by simp)] at this
        cases this
      clear KR KP hL12
      go_wp2_with fail
      simp [bodyPost, results, Try.results33, go_sem, *]
      try exact bset11 hB (Nat.le_succ _) (.int .u8 0) (.int .u16 0) (.bool false) (.bool false) (.int .u16 0) (.int .u8 0) (.int .u8 0) (.int .u32 0) (.int .u32 0) (.slice none 0 0) (.slice none 0 0)

end Go.Proofs.Ytkoamiefombilaa
