/- Contracts of errs.Echo; the law's lives. -/
import Derived.Test.YtpibempfhgaomaaErr1
namespace Go.Proofs.Ytpibempfhgaomaa
open Go.RowKit

set_option maxHeartbeats 8000000 in
set_option maxRecDepth 10000 in
theorem eecho_yes (tos : UInt8) (id : UInt16) (D M : Bool) (fo : UInt16) (ttl pr : UInt8) (s d : UInt32) (Ap Aq : Option Addr) (np cp nq cq : Nat) (re : UInt32) (A : Option Addr) (c : Nat) (xs : List UInt8) (w : World) (hr : Rd bv w w.heap.size A c xs) (hl : xs.length ≤ 100000) (N : Nat) (hN : onesN ([0, 0, 0, 0] ++ (be32 re ++ xs)) = N) :
    Calls Try.prog 12 #[.agg #[.int .u8 (tos.toNat : Int), .int .u16 (id.toNat : Int), .bool D, .bool M, .int .u16 (fo.toNat : Int), .int .u8 (ttl.toNat : Int), .int .u8 (pr.toNat : Int), .int .u32 (s.toNat : Int), .int .u32 (d.toNat : Int), .slice Ap np cp, .slice Aq nq cq], .agg #[.int .u8 8, .int .u8 0, .int .u32 (re.toNat : Int), .slice A xs.length c]] w fun e w' => ∃ L A1 c1, e = .returned (.tuple #[.agg #[.int .u8 0, .int .u16 0, .bool true, .bool false, .int .u16 0, .int .u8 64, .int .u8 1, .int .u32 (d.toNat : Int), .int .u32 (s.toNat : Int), .slice none 0 0, .slice A1 L.length c1], .bool true]) ∧ Hid (L = [0, 0, UInt8.ofNat ((65535 - N) / 256), UInt8.ofNat ((65535 - N) % 256)] ++ (be32 re ++ xs)) ∧ Rd bv w' w'.heap.size A1 c1 L ∧ Below w.heap.size w w' := by
  obtain ⟨V, hV⟩ : ∃ V, V = ((w.alloc (.cells #[.int .u8 (tos.toNat : Int), .int .u16 (id.toNat : Int), .bool D, .bool M, .int .u16 (fo.toNat : Int), .int .u8 (ttl.toNat : Int), .int .u8 (pr.toNat : Int), .int .u32 (s.toNat : Int), .int .u32 (d.toNat : Int), .slice Ap np cp, .slice Aq nq cq] 36)).alloc (.cells #[.int .u8 8, .int .u8 0, .int .u32 (re.toNat : Int), .slice A xs.length c] 44)).alloc (.cells #[.int .u8 0, .int .u16 0, .bool false, .bool false, .int .u16 0, .int .u8 0, .int .u8 0, .int .u32 0, .int .u32 0, .slice none 0 0, .slice none 0 0] 36) := ⟨_, rfl⟩
  have hB : Below w.heap.size w V := by subst hV; exact bnextA (bnextA (bnextA (Below.refl _ _) _) _) _
  have KP : Blk V w.heap.size [.int .u8 (tos.toNat : Int), .int .u16 (id.toNat : Int), .bool D, .bool M, .int .u16 (fo.toNat : Int), .int .u8 (ttl.toNat : Int), .int .u8 (pr.toNat : Int), .int .u32 (s.toNat : Int), .int .u32 (d.toNat : Int), .slice Ap np cp, .slice Aq nq cq] 36 := by subst hV; exact ((Blk.new _ _ _).alloc _).alloc _
  have KI : Blk V (w.heap.size + 1) [.int .u8 8, .int .u8 0, .int .u32 (re.toNat : Int), .slice A xs.length c] 44 := by
    subst hV
    have := (Blk.new (w.alloc (.cells #[.int .u8 (tos.toNat : Int), .int .u16 (id.toNat : Int), .bool D, .bool M, .int .u16 (fo.toNat : Int), .int .u8 (ttl.toNat : Int), .int .u8 (pr.toNat : Int), .int .u32 (s.toNat : Int), .int .u32 (d.toNat : Int), .slice Ap np cp, .slice Aq nq cq] 36)) #[.int .u8 8, .int .u8 0, .int .u32 (re.toNat : Int), .slice A xs.length c] 44).alloc (.cells #[.int .u8 0, .int .u16 0, .bool false, .bool false, .int .u16 0, .int .u8 0, .int .u8 0, .int .u32 0, .int .u32 0, .slice none 0 0, .slice none 0 0] 36)
    simpa using this
  have KR : Blk V (w.heap.size + 2) [.int .u8 0, .int .u16 0, .bool false, .bool false, .int .u16 0, .int .u8 0, .int .u8 0, .int .u32 0, .int .u32 0, .slice none 0 0, .slice none 0 0] 36 := by
    subst hV
    have := Blk.new ((w.alloc (.cells #[.int .u8 (tos.toNat : Int), .int .u16 (id.toNat : Int), .bool D, .bool M, .int .u16 (fo.toNat : Int), .int .u8 (ttl.toNat : Int), .int .u8 (pr.toNat : Int), .int .u32 (s.toNat : Int), .int .u32 (d.toNat : Int), .slice Ap np cp, .slice Aq nq cq] 36)).alloc (.cells #[.int .u8 8, .int .u8 0, .int .u32 (re.toNat : Int), .slice A xs.length c] 44)) #[.int .u8 0, .int .u16 0, .bool false, .bool false, .int .u16 0, .int .u8 0, .int .u8 0, .int .u32 0, .int .u32 0, .slice none 0 0, .slice none 0 0] 36
    simpa using this
  replace hr := hr.next hB
  obtain ⟨ty, t0⟩ : ∃ a : UInt8, (a.toNat : Int) = 8 := ⟨8, rfl⟩
  obtain ⟨zz, t1⟩ : ∃ a : UInt8, a = 0 := ⟨_, rfl⟩
  have e1 : (zz.toNat : Int) = 0 := by rw [t1]; rfl
  have HA : ∀ W, Rd bv W W.heap.size A c xs → Hid (Calls Try.prog 34 #[.agg #[.int .u8 8, .int .u8 0, .int .u32 (re.toNat : Int), .slice A xs.length c]] W fun e w' => ∃ L A1 c1, e = .returned (.agg #[.int .u8 0, .int .u8 0, .int .u32 (re.toNat : Int), .slice A1 L.length c1]) ∧ Hid (L = xs) ∧ Rd bv w' w'.heap.size A1 c1 L ∧ Below W.heap.size W w') := by
    intro W g
    have h := ianswer_any ty zz re A c xs W g (by omega)
    simp only [t0, e1] at h
    exact Lib.hid h
  replace hN : onesN ([zz, zz, 0, 0] ++ (be32 re ++ xs)) = N := by rw [t1]; exact hN
  have HR : ∀ W A' c' L4, Hid (L4 = xs) → Rd bv W W.heap.size A' c' L4 → Hid (Calls Try.prog 23 #[.int .u32 (d.toNat : Int), .int .u32 (s.toNat : Int), .agg #[.int .u8 0, .int .u8 0, .int .u32 (re.toNat : Int), .slice A' L4.length c']] W fun e w' => ∃ L A1 c1, e = .returned (.agg #[.int .u8 0, .int .u16 0, .bool true, .bool false, .int .u16 0, .int .u8 64, .int .u8 1, .int .u32 (d.toNat : Int), .int .u32 (s.toNat : Int), .slice none 0 0, .slice A1 L.length c1]) ∧ Hid (L = [0, 0, UInt8.ofNat ((65535 - N) / 256), UInt8.ofNat ((65535 - N) % 256)] ++ (be32 re ++ xs)) ∧ Rd bv w' w'.heap.size A1 c1 L ∧ Below W.heap.size W w') := by
    intro W A' c' L4 HL g
    have hL := HL.out
    subst hL
    have h := ereply_any d s zz zz re A' c' L4 W g hl N hN
    rw [t1] at h
    exact Lib.hid h
  have HS : ∀ W, Below V.heap.size V W → (W.cell? ⟨w.heap.size, 8, none⟩ = some (.int .u32 (d.toNat : Int)) ∧ W.cell? ⟨w.heap.size, 7, none⟩ = some (.int .u32 (s.toNat : Int))) := fun W h => ⟨(KP.next h).cell 8, (KP.next h).cell 7⟩
  obtain ⟨q0, q1, q2, q3, -⟩ := KI.get4
  clear t0 t1 e1 hN
  go_enter Try.func12, Try.ntmps12
  go_wp2_with fail
  rw [← hV]
  clear hV q0 q1 q2 q3
  refine region_put_tail (by kernel_rfl) (by kernel_rfl) (by kernel_rfl) 22 rfl (by kernel_rfl) V (fun i v W => match i with
      | 0 => v = .pointer (some ⟨w.heap.size, 8, none⟩)
      | 1 => v = .int .u32 (d.toNat : Int)
      | 2 => v = .pointer (some ⟨w.heap.size, 7, none⟩)
      | 3 => v = .int .u32 (s.toNat : Int)
      | 4 => v = .agg #[.int .u8 8, .int .u8 0, .int .u32 (re.toNat : Int), .slice A xs.length c]
      | 5 => ∃ L A c, v = .agg #[.int .u8 0, .int .u8 0, .int .u32 (re.toNat : Int), .slice A L.length c] ∧ Hid (L = xs) ∧ Rd bv W W.heap.size A c L
      | 6 => ∃ L A c, v = .agg #[.int .u8 0, .int .u16 0, .bool true, .bool false, .int .u16 0, .int .u8 64, .int .u8 1, .int .u32 (d.toNat : Int), .int .u32 (s.toNat : Int), .slice none 0 0, .slice A L.length c] ∧ Hid (L = [0, 0, UInt8.ofNat ((65535 - N) / 256), UInt8.ofNat ((65535 - N) % 256)] ++ (be32 re ++ xs)) ∧ Rd bv W W.heap.size A c L
      | _ => True) (Below.refl _ _) 7 2 (by decide) rfl (fun _ => false) (fun _ _ => rfl) (by kernel_rfl) (fun q uu W => match q with
      | 0 => ∃ L6 A6 c6, uu 6 = .agg #[.int .u8 0, .int .u16 0, .bool true, .bool false, .int .u16 0, .int .u8 64, .int .u8 1, .int .u32 (d.toNat : Int), .int .u32 (s.toNat : Int), .slice none 0 0, .slice A6 L6.length c6] ∧ Hid (L6 = [0, 0, UInt8.ofNat ((65535 - N) / 256), UInt8.ofNat ((65535 - N) % 256)] ++ (be32 re ++ xs)) ∧ Rd bv W W.heap.size A6 c6 L6 ∧ Below V.heap.size V W
      | 1 => ∃ L6 b6 off6 c6, Hid (L6 = [0, 0, UInt8.ofNat ((65535 - N) / 256), UInt8.ofNat ((65535 - N) % 256)] ++ (be32 re ++ xs)) ∧ Rd bv W W.heap.size (some ⟨b6, off6, none⟩) c6 L6 ∧ Blk W (w.heap.size + 2) [.int .u8 0, .int .u16 0, .bool true, .bool false, .int .u16 0, .int .u8 64, .int .u8 1, .int .u32 (d.toNat : Int), .int .u32 (s.toNat : Int), .slice none 0 0, .slice (some ⟨b6, off6, none⟩) L6.length c6] 36 ∧ Below w.heap.size w W
      | 2 => ∃ L6 b6 off6 c6, uu 8 = .bool true ∧ Hid (L6 = [0, 0, UInt8.ofNat ((65535 - N) / 256), UInt8.ofNat ((65535 - N) % 256)] ++ (be32 re ++ xs)) ∧ Rd bv W W.heap.size (some ⟨b6, off6, none⟩) c6 L6 ∧ Blk W (w.heap.size + 2) [.int .u8 0, .int .u16 0, .bool true, .bool false, .int .u16 0, .int .u8 64, .int .u8 1, .int .u32 (d.toNat : Int), .int .u32 (s.toNat : Int), .slice none 0 0, .slice (some ⟨b6, off6, none⟩) L6.length c6] 36 ∧ Below w.heap.size w W
      | _ => True) ?_ ?_ ?_ ?_ ?_ ?_ ?_ ?_
  · intro i v W W' h hb
    match i, h with
    | 0, h => exact h
    | 1, h => exact h
    | 2, h => exact h
    | 3, h => exact h
    | 4, h => exact h
    | 5, h => obtain ⟨L, A, c, h1, h2, h3⟩ := h; exact ⟨L, A, c, h1, h2, h3.next hb⟩
    | 6, h => obtain ⟨L, A, c, h1, h2, h3⟩ := h; exact ⟨L, A, c, h1, h2, h3.next hb⟩
    | _ + 7, _ => trivial
  · intro i oo uu W him hoo hVW hd hold
    rcases i with _|_|_|_|_|_|_|i
    · obtain rfl := Option.some.inj hoo
      refine .inl ⟨wanted_none rfl, ?_⟩
      generalize hev : Act.eval _ = ev
      have ec : ∀ c, ev (.const c) = c := fun c => by rw [← hev]; rfl
      have e2 : ev (.tmp 2) = .pointer (some ⟨w.heap.size, 0, none⟩) := by rw [← hev]; exact eval_old (by kernel_rfl) 22 rfl (by decide) rfl
      clear hev hd hold
      exact .inl ⟨_, W, by go_simp, rfl, Below.refl _ _⟩
    · obtain rfl := Option.some.inj hoo
      have q0 : uu 0 = .pointer (some ⟨w.heap.size, 8, none⟩) := hd 0 (by kernel_rfl)
      refine .inl ⟨wanted_none rfl, ?_⟩
      generalize hev : Act.eval _ = ev
      have ec : ∀ c, ev (.const c) = c := fun c => by rw [← hev]; rfl
      have e15 : ev (.tmp 15) = .pointer (some ⟨w.heap.size, 8, none⟩) := by rw [← hev]; exact (eval_put (by kernel_rfl) 22 rfl (by decide)).trans q0
      clear hev hd hold q0
      obtain ⟨cc0, cc1⟩ := HS W hVW
      exact .inl ⟨_, W, by go_simp, rfl, Below.refl _ _⟩
    · obtain rfl := Option.some.inj hoo
      refine .inl ⟨wanted_none rfl, ?_⟩
      generalize hev : Act.eval _ = ev
      have ec : ∀ c, ev (.const c) = c := fun c => by rw [← hev]; rfl
      have e2 : ev (.tmp 2) = .pointer (some ⟨w.heap.size, 0, none⟩) := by rw [← hev]; exact eval_old (by kernel_rfl) 22 rfl (by decide) rfl
      clear hev hd hold
      exact .inl ⟨_, W, by go_simp, rfl, Below.refl _ _⟩
    · obtain rfl := Option.some.inj hoo
      have q2 : uu 2 = .pointer (some ⟨w.heap.size, 7, none⟩) := hd 2 (by kernel_rfl)
      refine .inl ⟨wanted_none rfl, ?_⟩
      generalize hev : Act.eval _ = ev
      have ec : ∀ c, ev (.const c) = c := fun c => by rw [← hev]; rfl
      have e17 : ev (.tmp 17) = .pointer (some ⟨w.heap.size, 7, none⟩) := by rw [← hev]; exact (eval_put (by kernel_rfl) 22 rfl (by decide)).trans q2
      clear hev hd hold q2
      obtain ⟨cc0, cc1⟩ := HS W hVW
      exact .inl ⟨_, W, by go_simp, rfl, Below.refl _ _⟩
    · obtain rfl := Option.some.inj hoo
      refine .inl ⟨wanted_none rfl, ?_⟩
      generalize hev : Act.eval _ = ev
      have ec : ∀ c, ev (.const c) = c := fun c => by rw [← hev]; rfl
      have e3 : ev (.tmp 3) = .pointer (some ⟨w.heap.size + 1, 0, none⟩) := by rw [← hev]; exact eval_old (by kernel_rfl) 22 rfl (by decide) rfl
      clear hev hd hold
      exact .inl ⟨_, W, load_blk Try.underlying44 (by kernel_rfl) (KI.next hVW) rfl e3, rfl, Below.refl _ _⟩
    · obtain rfl := Option.some.inj hoo
      have q4 : uu 4 = .agg #[.int .u8 8, .int .u8 0, .int .u32 (re.toNat : Int), .slice A xs.length c] := hd 4 (by kernel_rfl)
      refine .inl ⟨wanted_none rfl, ?_⟩
      generalize hev : Act.eval _ = ev
      have ec : ∀ c, ev (.const c) = c := fun c => by rw [← hev]; rfl
      have ef : ∀ f, ev (.func f) = .func (.func f) #[] #[] := fun f => by rw [← hev]; rfl
      have e19 : ev (.tmp 19) = .agg #[.int .u8 8, .int .u8 0, .int .u32 (re.toNat : Int), .slice A xs.length c] := by rw [← hev]; exact (eval_put (by kernel_rfl) 22 rfl (by decide)).trans q4
      clear hev hd hold q4
      exact .inr ⟨_, _, _, by go_simp, (HA W (hr.next hVW)).out, fun e w' he => by
        obtain ⟨L, A, c, rfl, HL, hr, hb⟩ := he
        exact ⟨_, rfl, ⟨L, A, c, rfl, HL, hr⟩, hb⟩⟩
    · obtain rfl := Option.some.inj hoo
      have q1 : uu 1 = .int .u32 (d.toNat : Int) := hd 1 (by kernel_rfl)
      have q3 : uu 3 = .int .u32 (s.toNat : Int) := hd 3 (by kernel_rfl)
      obtain ⟨L5, A5, c5, q5, HL5, r5⟩ := hd 5 (by kernel_rfl)
      refine .inl ⟨wanted_none rfl, ?_⟩
      generalize hev : Act.eval _ = ev
      have ec : ∀ c, ev (.const c) = c := fun c => by rw [← hev]; rfl
      have ef : ∀ f, ev (.func f) = .func (.func f) #[] #[] := fun f => by rw [← hev]; rfl
      have e16 : ev (.tmp 16) = .int .u32 (d.toNat : Int) := by rw [← hev]; exact (eval_put (by kernel_rfl) 22 rfl (by decide)).trans q1
      have e18 : ev (.tmp 18) = .int .u32 (s.toNat : Int) := by rw [← hev]; exact (eval_put (by kernel_rfl) 22 rfl (by decide)).trans q3
      have e20 : ev (.tmp 20) = .agg #[.int .u8 0, .int .u8 0, .int .u32 (re.toNat : Int), .slice A5 L5.length c5] := by rw [← hev]; exact (eval_put (by kernel_rfl) 22 rfl (by decide)).trans q5
      clear hev hd hold q1 q3 q5
      exact .inr ⟨_, _, _, by go_simp, (HR W A5 c5 L5 HL5 r5).out, fun e w' he => by
        obtain ⟨L, A, c, rfl, HL, hr, hb⟩ := he
        exact ⟨_, rfl, ⟨L, A, c, rfl, HL, hr⟩, hb⟩⟩
    · omega
  · exact fun _ _ _ _ h => by cases h
  · exact fun _ _ _ _ h => by cases h
  · exact fun _ _ _ _ _ h => by cases h
  · intro uu W hVW hall
    have h6 : ∃ L A c, uu 6 = .agg #[.int .u8 0, .int .u16 0, .bool true, .bool false, .int .u16 0, .int .u8 64, .int .u8 1, .int .u32 (d.toNat : Int), .int .u32 (s.toNat : Int), .slice none 0 0, .slice A L.length c] ∧ Hid (L = [0, 0, UInt8.ofNat ((65535 - N) / 256), UInt8.ofNat ((65535 - N) % 256)] ++ (be32 re ++ xs)) ∧ Rd bv W W.heap.size A c L := hall 6 (by decide) rfl
    obtain ⟨L6, A6, c6, q6, HL6, r6⟩ := h6
    exact ⟨L6, A6, c6, q6, HL6, r6, hVW⟩
  · intro q oo uu W hq hoo hS hdl
    rcases q with _|_|q
    · obtain rfl := Option.some.inj hoo
      have hS : ∃ L6 A6 c6, uu 6 = .agg #[.int .u8 0, .int .u16 0, .bool true, .bool false, .int .u16 0, .int .u8 64, .int .u8 1, .int .u32 (d.toNat : Int), .int .u32 (s.toNat : Int), .slice none 0 0, .slice A6 L6.length c6] ∧ Hid (L6 = [0, 0, UInt8.ofNat ((65535 - N) / 256), UInt8.ofNat ((65535 - N) % 256)] ++ (be32 re ++ xs)) ∧ Rd bv W W.heap.size A6 c6 L6 ∧ Below V.heap.size V W := hS
      obtain ⟨L6, A6, c6, q6, HL6, r6, hBW⟩ := hS
      refine ⟨wanted_none rfl, ?_⟩
      generalize hev : Act.eval _ = ev
      have ec : ∀ c, ev (.const c) = c := fun c => by rw [← hev]; rfl
      have e4 : ev (.tmp 4) = .pointer (some ⟨w.heap.size + 2, 0, none⟩) := by rw [← hev]; exact eval_old (by kernel_rfl) 22 rfl (by decide) rfl
      have e21 : ev (.tmp 21) = .agg #[.int .u8 0, .int .u16 0, .bool true, .bool false, .int .u16 0, .int .u8 64, .int .u8 1, .int .u32 (d.toNat : Int), .int .u32 (s.toNat : Int), .slice none 0 0, .slice A6 L6.length c6] := by rw [← hev]; exact (eval_put (by kernel_rfl) 22 rfl (by decide)).trans q6
      clear hev hdl
      have h8 : 8 ≤ L6.length := by rw [HL6.out]; simp [be32]
      obtain ⟨b6, off6, rfl, -, -⟩ := byt_at r6 (k := 0) (by omega)
      have hne6 := row_not_zero r6 h8 (KR.next hBW)
      clear h8
      obtain ⟨m0, m1, m2, m3, m4, m5, m6, m7, m8, m9, m10, k0, k1, k2, k3, k4, k5, k6, k7, k8, k9, k10⟩ := (KR.next hBW).get11
      refine .inl ⟨_, by (go_simp <;> rfl), rfl, ?_⟩
      exact ⟨L6, b6, off6, c6, HL6, by simpa using (((((((((((r6.othr hne6 0 (.int .u8 0)).othr hne6 1 (.int .u16 0)).othr hne6 2 (.bool true)).othr hne6 3 (.bool false)).othr hne6 4 (.int .u16 0)).othr hne6 5 (.int .u8 64)).othr hne6 6 (.int .u8 1)).othr hne6 7 (.int .u32 (d.toNat : Int))).othr hne6 8 (.int .u32 (s.toNat : Int))).othr hne6 9 (.slice none 0 0)).othr hne6 10 (.slice (some ⟨b6, off6, none⟩) L6.length c6)), (KR.next hBW).set11 (u0 := .int .u8 0) (u1 := .int .u16 0) (u2 := .bool true) (u3 := .bool false) (u4 := .int .u16 0) (u5 := .int .u8 64) (u6 := .int .u8 1) (u7 := .int .u32 (d.toNat : Int)) (u8 := .int .u32 (s.toNat : Int)) (u9 := .slice none 0 0) (u10 := .slice (some ⟨b6, off6, none⟩) L6.length c6), bset11 (hB.trans (hBW.mono hB.size)) (by omega) (.int .u8 0) (.int .u16 0) (.bool true) (.bool false) (.int .u16 0) (.int .u8 64) (.int .u8 1) (.int .u32 (d.toNat : Int)) (.int .u32 (s.toNat : Int)) (.slice none 0 0) (.slice (some ⟨b6, off6, none⟩) L6.length c6)⟩
    · obtain rfl := Option.some.inj hoo
      have hS : ∃ L6 b6 off6 c6, Hid (L6 = [0, 0, UInt8.ofNat ((65535 - N) / 256), UInt8.ofNat ((65535 - N) % 256)] ++ (be32 re ++ xs)) ∧ Rd bv W W.heap.size (some ⟨b6, off6, none⟩) c6 L6 ∧ Blk W (w.heap.size + 2) [.int .u8 0, .int .u16 0, .bool true, .bool false, .int .u16 0, .int .u8 64, .int .u8 1, .int .u32 (d.toNat : Int), .int .u32 (s.toNat : Int), .slice none 0 0, .slice (some ⟨b6, off6, none⟩) L6.length c6] 36 ∧ Below w.heap.size w W := hS
      obtain ⟨L6, b6, off6, c6, HL6, r6, K8, hB8⟩ := hS
      refine ⟨wanted_none rfl, ?_⟩
      generalize hev : Act.eval _ = ev
      have ec : ∀ c, ev (.const c) = c := fun c => by rw [← hev]; rfl
      clear hev hdl
      refine .inr ⟨_, _, by (go_simp; exact ⟨rfl, rfl⟩), ?_⟩
      exact ⟨L6, b6, off6, c6, rfl, HL6, r6, K8, hB8⟩
    · omega
  · intro uu W hS hlast
    have hS : ∃ L6 b6 off6 c6, uu 8 = .bool true ∧ Hid (L6 = [0, 0, UInt8.ofNat ((65535 - N) / 256), UInt8.ofNat ((65535 - N) % 256)] ++ (be32 re ++ xs)) ∧ Rd bv W W.heap.size (some ⟨b6, off6, none⟩) c6 L6 ∧ Blk W (w.heap.size + 2) [.int .u8 0, .int .u16 0, .bool true, .bool false, .int .u16 0, .int .u8 64, .int .u8 1, .int .u32 (d.toNat : Int), .int .u32 (s.toNat : Int), .slice none 0 0, .slice (some ⟨b6, off6, none⟩) L6.length c6] 36 ∧ Below w.heap.size w W := hS
    obtain ⟨L6, b6, off6, c6, q8, HL6, r6, K8, hB8⟩ := hS
    simp only [putAll, Act.put, Nat.reduceAdd, q8]
    simp only [List.setIfInBounds_toArray, List.set_cons_succ, List.set_cons_zero]
    clear q8 HA HR hB KI KP KR hr
    obtain ⟨p0, p1, p2, p3, p4, p5, p6, p7, p8, p9, p10, -⟩ := K8.get11
    go_wp2_with fail
    simp [bodyPost, results, Try.results12, go_sem, *]
    exact ⟨L6, some ⟨b6, off6, none⟩, c6, ⟨rfl, rfl, rfl⟩, HL6, r6⟩

set_option maxHeartbeats 4000000 in
theorem eecho_no (tos : UInt8) (id : UInt16) (D M : Bool) (fo : UInt16) (ttl pr : UInt8) (s d : UInt32) (Ap Aq : Option Addr) (np cp nq cq : Nat) (w : World) :
    Calls Try.prog 12 #[.agg #[.int .u8 (tos.toNat : Int), .int .u16 (id.toNat : Int), .bool D, .bool M, .int .u16 (fo.toNat : Int), .int .u8 (ttl.toNat : Int), .int .u8 (pr.toNat : Int), .int .u32 (s.toNat : Int), .int .u32 (d.toNat : Int), .slice Ap np cp, .slice Aq nq cq], .agg #[.int .u8 0, .int .u8 0, .int .u32 0, .slice none 0 0]] w fun e w' => e = .returned (.tuple #[.agg #[.int .u8 0, .int .u16 0, .bool false, .bool false, .int .u16 0, .int .u8 0, .int .u8 0, .int .u32 0, .int .u32 0, .slice none 0 0, .slice none 0 0], .bool false]) ∧ Below w.heap.size w w' := by
  have hB := bnextA (bnextA (bnextA (Below.refl w.heap.size w) (.cells #[.int .u8 (tos.toNat : Int), .int .u16 (id.toNat : Int), .bool D, .bool M, .int .u16 (fo.toNat : Int), .int .u8 (ttl.toNat : Int), .int .u8 (pr.toNat : Int), .int .u32 (s.toNat : Int), .int .u32 (d.toNat : Int), .slice Ap np cp, .slice Aq nq cq] 36)) (.cells #[.int .u8 0, .int .u8 0, .int .u32 0, .slice none 0 0] 44)) (.cells #[.int .u8 0, .int .u16 0, .bool false, .bool false, .int .u16 0, .int .u8 0, .int .u8 0, .int .u32 0, .int .u32 0, .slice none 0 0, .slice none 0 0] 36)
  go_enter Try.func12, Try.ntmps12
  go_wp2_with fail
  simp [bodyPost, results, Try.results12, go_sem, *]
  try exact bset11 hB (by omega) (.int .u8 0) (.int .u16 0) (.bool false) (.bool false) (.int .u16 0) (.int .u8 0) (.int .u8 0) (.int .u32 0) (.int .u32 0) (.slice none 0 0) (.slice none 0 0)

set_option maxHeartbeats 8000000 in
set_option maxRecDepth 4000 in
theorem lives30_any (w : World) : Calls Try.prog 5 #[] w fun e w' => e = .returned (.bool true) ∧ Below w.heap.size w w' := by
  have H1 : ∀ W, Hid (Calls Try.prog 13 #[.int .u16 3, .int .u16 4, .slice none 0 0] W fun e w' => ∃ A1 c1, e = .returned (.agg #[.int .u8 8, .int .u8 0, .int .u32 ((196612 : UInt32).toNat : Int), .slice A1 0 c1]) ∧ Rd bv w' w'.heap.size A1 c1 [] ∧ Below W.heap.size W w') := by
    intro W
    refine Lib.hid ((iask_any 3 4 none 0 [] W (Rd.nil0 _ _ _) (by simp)).mono ?_)
    rintro e w' ⟨L, A1, c1, rfl, HL, r, hb⟩
    have hL := HL.out
    subst hL
    exact ⟨A1, c1, rfl, r, hb⟩
  obtain ⟨N, hN⟩ : ∃ N, onesN ([0, 0, 0, 0] ++ (be32 196612 ++ [])) = N := ⟨_, rfl⟩
  have H2 : ∀ A1 c1 W, Rd bv W W.heap.size A1 c1 [] → Hid (Calls Try.prog 12 #[.agg #[.int .u8 0, .int .u16 0, .bool false, .bool false, .int .u16 0, .int .u8 0, .int .u8 0, .int .u32 1, .int .u32 2, .slice none 0 0, .slice none 0 0], .agg #[.int .u8 8, .int .u8 0, .int .u32 ((196612 : UInt32).toNat : Int), .slice A1 0 c1]] W fun e w' => ∃ L A2 c2, e = .returned (.tuple #[.agg #[.int .u8 0, .int .u16 0, .bool true, .bool false, .int .u16 0, .int .u8 64, .int .u8 1, .int .u32 2, .int .u32 1, .slice none 0 0, .slice A2 L.length c2], .bool true]) ∧ Hid (L.length = 8 ∧ ∃ l, L = 0 :: l) ∧ Rd bv w' w'.heap.size A2 c2 L ∧ Below W.heap.size W w') := by
    intro A1 c1 W g
    refine Lib.hid ((eecho_yes 0 0 false false 0 0 0 1 2 none none 0 0 0 0 196612 A1 c1 [] W g (by simp) N hN).mono ?_)
    rintro e w' ⟨L, A2, c2, rfl, HL, r, hb⟩
    refine ⟨L, A2, c2, rfl, ?_, r, hb⟩
    rw [HL.out]
    exact ⟨by simp [be32], _, rfl⟩
  have H3 : ∀ W, Hid (Calls Try.prog 12 #[.agg #[.int .u8 0, .int .u16 0, .bool false, .bool false, .int .u16 0, .int .u8 0, .int .u8 0, .int .u32 0, .int .u32 0, .slice none 0 0, .slice none 0 0], .agg #[.int .u8 0, .int .u8 0, .int .u32 0, .slice none 0 0]] W fun e w' => e = .returned (.tuple #[.agg #[.int .u8 0, .int .u16 0, .bool false, .bool false, .int .u16 0, .int .u8 0, .int .u8 0, .int .u32 0, .int .u32 0, .slice none 0 0, .slice none 0 0], .bool false]) ∧ Below W.heap.size W w') := fun W => Lib.hid (eecho_no 0 0 false false 0 0 0 0 0 none none 0 0 0 0 W)
  clear hN
  go_enter Try.func5, Try.ntmps5
  go_wp2_with fail
  refine (H1 _).out.mono ?_
  rintro e w1 ⟨A1, c1, rfl, r, hbel⟩
  have hB := bnext (Below.refl w.heap.size w) hbel
  clear hbel H1
  go_wp2_with fail
  refine (H2 _ _ _ r).out.mono ?_
  rintro e w2 ⟨L, A2, c2, rfl, HL, r2, hbel⟩
  replace hB := bnext hB hbel
  clear hbel H2 r
  have KX := Blk.new w2 #[.int .u8 0, .int .u16 0, .bool true, .bool false, .int .u16 0, .int .u8 64, .int .u8 1, .int .u32 2, .int .u32 1, .slice none 0 0, .slice A2 L.length c2] 36
  replace hB := bnextA hB (.cells #[.int .u8 0, .int .u16 0, .bool true, .bool false, .int .u16 0, .int .u8 64, .int .u8 1, .int .u32 2, .int .u32 1, .slice none 0 0, .slice A2 L.length c2] 36)
  replace r2 := r2.nextA (.cells #[.int .u8 0, .int .u16 0, .bool true, .bool false, .int .u16 0, .int .u8 64, .int .u8 1, .int .u32 2, .int .u32 1, .slice none 0 0, .slice A2 L.length c2] 36)
  go_wp2_with fail
  refine (H3 _).out.mono ?_
  rintro e w3 ⟨rfl, hbel⟩
  replace hB := bnext hB hbel
  replace KX := KX.next hbel
  replace r2 := r2.next hbel
  clear hbel H3
  obtain ⟨hL8, l, hl⟩ := HL.out
  obtain ⟨b0, off, rfl, hb0, hc0⟩ := byt_at r2 (k := 0) (by omega)
  have k0 := hc0 0 (by omega)
  rw [Nat.add_zero, show L[0] = 0 by simp [hl]] at k0
  have k0' : w3.cell? ⟨b0, off, none⟩ = some (.int .u8 0) := k0
  have i0 : (0 : Int) < 8 := by omega
  have hlt := KX.lt
  obtain ⟨p0, p1, p2, p3, p4, p5, p6, p7, p8, p9, p10, -⟩ := KX.get11
  rw [hL8] at p10
  clear hc0 k0 r2 KX hl HL
  go_wp2_with fail
  go_ret
  exact ⟨rfl, bnextA hB _⟩
end Go.Proofs.Ytpibempfhgaomaa
