/- The walk of the statement on which packet bears any other one, and what any one bears. -/
import Derived.Test.YtkoamiefombilaaLaw29
import Derived.Test.YtkoamiefombilaaTun5
namespace Go.Proofs.Ytkoamiefombilaa
open Go.RowKit

set_option maxHeartbeats 16000000 in
set_option maxRecDepth 20000 in
theorem tun_wraps (cs : Array Value) (hcz : cs.size = 40) (b1 : UInt32) (h13 : cs.toList[13]? = some (.int .u32 (b1.toNat : Int))) (mtu0 : Int) (h17 : cs.toList[17]? = some (.int .i64 mtu0)) (tos : UInt8) (id : UInt16) (D M : Bool) (fo : UInt16) (ttl pr : UInt8) (s d : UInt32) (a1 a8 a9 : Option Addr) (len1 cap1 len8 cap8 len9 cap9 : Nat) (xs os ys : List UInt8) (to : UInt32) (nid : UInt16) (w : World) (hxl : xs.length ≤ 400) (hyl : ys.length ≤ 300) (hx0 : Rd bv w w.heap.size a1 cap1 xs) (hy0 : Rd bv w w.heap.size a9 cap9 ys)
    (HF : ∀ W, Hid (Calls Try.prog 14 #[.agg #[.int .u8 (tos.toNat : Int), .int .u16 (id.toNat : Int), .bool D, .bool M, .int .u16 (fo.toNat : Int), .int .u8 (ttl.toNat : Int), .int .u8 (pr.toNat : Int), .int .u32 (s.toNat : Int), .int .u32 (d.toNat : Int), .slice a8 len8 cap8, .slice a9 len9 cap9]] W fun e w' => e = .returned (.agg #[.int .u8 (tos.toNat : Int), .int .u16 (id.toNat : Int), .bool D, .bool M, .int .u16 (fo.toNat : Int), .int .u8 (ttl.toNat : Int), .int .u8 (pr.toNat : Int), .int .u32 (s.toNat : Int), .int .u32 (d.toNat : Int), .slice a8 os.length cap8, .slice a9 ys.length cap9]) ∧ Below W.heap.size W w'))
    (HFb : ∀ W, Hid (Calls Try.prog 32 #[.slice a1 len1 cap1, .int .i64 400] W fun e w' => e = .returned (.slice a1 xs.length cap1) ∧ Below W.heap.size W w')) :
    Calls Try.prog 7 #[.agg cs, .slice a1 len1 cap1, .int .u32 (to.toNat : Int), .int .u16 (nid.toNat : Int), .agg #[.int .u8 (tos.toNat : Int), .int .u16 (id.toNat : Int), .bool D, .bool M, .int .u16 (fo.toNat : Int), .int .u8 (ttl.toNat : Int), .int .u8 (pr.toNat : Int), .int .u32 (s.toNat : Int), .int .u32 (d.toNat : Int), .slice a8 len8 cap8, .slice a9 len9 cap9]] w fun e w' => e = .returned (.bool true) ∧ Below w.heap.size w w' := by
  obtain ⟨q0, q1, q2, q3, q4, q5, q6, q7, q8, Q1, er1, HW1, HW2⟩ := twrap_both cs hcz b1 h13 mtu0 h17 to nid xs (by omega)
  obtain ⟨Q2, er2, HO1, HO2⟩ := topen_both tos id D M fo ttl pr s d ys (by omega)
  have HW1 := fun A c W h => Lib.hid (HW1 A c W h)
  have HW2 := fun A c W h => Lib.hid (HW2 A c W h)
  have HO1 := fun A1 n1 c1 A c W h => Lib.hid (HO1 A1 n1 c1 A c W h)
  have HO2 := fun A1 n1 c1 A c W h => Lib.hid (HO2 A1 n1 c1 A c W h)
  clear h13 h17 hxl hyl
  obtain ⟨V, hV⟩ : ∃ V, V = (w.alloc (.cells cs 79)).alloc (.cells #[.int .u8 (tos.toNat : Int), .int .u16 (id.toNat : Int), .bool D, .bool M, .int .u16 (fo.toNat : Int), .int .u8 (ttl.toNat : Int), .int .u8 (pr.toNat : Int), .int .u32 (s.toNat : Int), .int .u32 (d.toNat : Int), .slice a8 len8 cap8, .slice a9 len9 cap9] 38) := ⟨_, rfl⟩
  have hB : Below w.heap.size w V := by subst hV; exact bnextA (bnextA (Below.refl _ _) _) _
  have KC : Blk V w.heap.size cs.toList 79 := by subst hV; exact (Blk.new _ _ _).alloc _
  have hK : Blk V (w.heap.size + 1) [.int .u8 (tos.toNat : Int), .int .u16 (id.toNat : Int), .bool D, .bool M, .int .u16 (fo.toNat : Int), .int .u8 (ttl.toNat : Int), .int .u8 (pr.toNat : Int), .int .u32 (s.toNat : Int), .int .u32 (d.toNat : Int), .slice a8 len8 cap8, .slice a9 len9 cap9] 38 := by
    subst hV
    have := Blk.new (w.alloc (.cells cs 79)) #[.int .u8 (tos.toNat : Int), .int .u16 (id.toNat : Int), .bool D, .bool M, .int .u16 (fo.toNat : Int), .int .u8 (ttl.toNat : Int), .int .u8 (pr.toNat : Int), .int .u32 (s.toNat : Int), .int .u32 (d.toNat : Int), .slice a8 len8 cap8, .slice a9 len9 cap9] 38
    simpa using this
  go_enter Try.func7, Try.ntmps7
  go_wp2_with fail
  rw [← hV]
  clear hV
  refine region_put_tail (by kernel_rfl) (by kernel_rfl) (by kernel_rfl) 70 rfl (by kernel_rfl) V (fun i v W => match i with
      | 0 => v = .slice a1 len1 cap1
      | 1 => v = .slice a1 xs.length cap1
      | 2 => v = .agg #[.int .u8 (tos.toNat : Int), .int .u16 (id.toNat : Int), .bool D, .bool M, .int .u16 (fo.toNat : Int), .int .u8 (ttl.toNat : Int), .int .u8 (pr.toNat : Int), .int .u32 (s.toNat : Int), .int .u32 (d.toNat : Int), .slice a8 len8 cap8, .slice a9 len9 cap9]
      | 3 => v = .agg #[.int .u8 (tos.toNat : Int), .int .u16 (id.toNat : Int), .bool D, .bool M, .int .u16 (fo.toNat : Int), .int .u8 (ttl.toNat : Int), .int .u8 (pr.toNat : Int), .int .u32 (s.toNat : Int), .int .u32 (d.toNat : Int), .slice a8 os.length cap8, .slice a9 ys.length cap9]
      | 4 => v = .slice a1 xs.length cap1
      | _ => True) (Below.refl _ _) 5 1 (by decide) rfl (fun _ => false) (fun _ _ => rfl) (by kernel_rfl) (fun q uu W => match q with
      | 0 => uu 3 = .agg #[.int .u8 (tos.toNat : Int), .int .u16 (id.toNat : Int), .bool D, .bool M, .int .u16 (fo.toNat : Int), .int .u8 (ttl.toNat : Int), .int .u8 (pr.toNat : Int), .int .u32 (s.toNat : Int), .int .u32 (d.toNat : Int), .slice a8 os.length cap8, .slice a9 ys.length cap9] ∧ uu 4 = .slice a1 xs.length cap1 ∧ Below V.heap.size V W
      | 1 => uu 4 = .slice a1 xs.length cap1 ∧ Below w.heap.size w W ∧ Blk W (w.heap.size + 1) [.int .u8 (tos.toNat : Int), .int .u16 (id.toNat : Int), .bool D, .bool M, .int .u16 (fo.toNat : Int), .int .u8 (ttl.toNat : Int), .int .u8 (pr.toNat : Int), .int .u32 (s.toNat : Int), .int .u32 (d.toNat : Int), .slice a8 os.length cap8, .slice a9 ys.length cap9] 38 ∧ Blk W w.heap.size cs.toList 79
      | _ => True) ?_ ?_ ?_ ?_ ?_ ?_ ?_ ?_
  · intro i v W W' h hb
    match i, h with
    | 0, h => exact h
    | 1, h => exact h
    | 2, h => exact h
    | 3, h => exact h
    | 4, h => exact h
    | _ + 5, _ => trivial
  · intro i oo uu W him hoo hVW hd hold
    rcases i with _|_|_|_|_|i
    · obtain rfl := Option.some.inj hoo
      refine .inl ⟨wanted_none rfl, ?_⟩
      generalize hev : Act.eval _ = ev
      have ec : ∀ c, ev (.const c) = c := fun c => by rw [← hev]; rfl
      have e1 : ev (.tmp 1) = .slice a1 len1 cap1 := by rw [← hev]; exact (eval_put (by kernel_rfl) 70 rfl (by decide)).trans (hold 4 1 _ (by kernel_rfl) (by kernel_rfl) rfl)
      clear hev hd hold
      exact .inl ⟨_, W, by go_simp, rfl, Below.refl _ _⟩
    · obtain rfl := Option.some.inj hoo
      have q0 : uu 0 = .slice a1 len1 cap1 := hd 0 (by kernel_rfl)
      refine .inl ⟨wanted_none rfl, ?_⟩
      generalize hev : Act.eval _ = ev
      have ec : ∀ c, ev (.const c) = c := fun c => by rw [← hev]; rfl
      have ef : ∀ f, ev (.func f) = .func (.func f) #[] #[] := fun f => by rw [← hev]; rfl
      have e19 : ev (.tmp 19) = .slice a1 len1 cap1 := by rw [← hev]; exact (eval_put (by kernel_rfl) 70 rfl (by decide)).trans q0
      clear hev hd hold q0
      exact .inr ⟨_, _, _, by go_simp, (HFb W).out, fun e w' he => ⟨_, he.1, rfl, he.2⟩⟩
    · obtain rfl := Option.some.inj hoo
      refine .inl ⟨wanted_none rfl, ?_⟩
      generalize hev : Act.eval _ = ev
      have ec : ∀ c, ev (.const c) = c := fun c => by rw [← hev]; rfl
      have e9 : ev (.tmp 9) = .pointer (some ⟨w.heap.size + 1, 0, none⟩) := by rw [← hev]; exact eval_old (by kernel_rfl) 70 rfl (by decide) rfl
      clear hev hd hold
      exact .inl ⟨_, W, load_blk Try.underlying38 (by kernel_rfl) (hK.next hVW) rfl e9, rfl, Below.refl _ _⟩
    · obtain rfl := Option.some.inj hoo
      have q2 : uu 2 = .agg #[.int .u8 (tos.toNat : Int), .int .u16 (id.toNat : Int), .bool D, .bool M, .int .u16 (fo.toNat : Int), .int .u8 (ttl.toNat : Int), .int .u8 (pr.toNat : Int), .int .u32 (s.toNat : Int), .int .u32 (d.toNat : Int), .slice a8 len8 cap8, .slice a9 len9 cap9] := hd 2 (by kernel_rfl)
      refine .inl ⟨wanted_none rfl, ?_⟩
      generalize hev : Act.eval _ = ev
      have ec : ∀ c, ev (.const c) = c := fun c => by rw [← hev]; rfl
      have ef : ∀ f, ev (.func f) = .func (.func f) #[] #[] := fun f => by rw [← hev]; rfl
      have e21 : ev (.tmp 21) = .agg #[.int .u8 (tos.toNat : Int), .int .u16 (id.toNat : Int), .bool D, .bool M, .int .u16 (fo.toNat : Int), .int .u8 (ttl.toNat : Int), .int .u8 (pr.toNat : Int), .int .u32 (s.toNat : Int), .int .u32 (d.toNat : Int), .slice a8 len8 cap8, .slice a9 len9 cap9] := by rw [← hev]; exact (eval_put (by kernel_rfl) 70 rfl (by decide)).trans q2
      clear hev hd hold q2
      exact .inr ⟨_, _, _, by go_simp, (HF W).out, fun e w' he => ⟨_, he.1, rfl, he.2⟩⟩
    · obtain rfl := Option.some.inj hoo
      have q1 : uu 1 = .slice a1 xs.length cap1 := hd 1 (by kernel_rfl)
      refine .inl ⟨wanted_none rfl, ?_⟩
      generalize hev : Act.eval _ = ev
      have ec : ∀ c, ev (.const c) = c := fun c => by rw [← hev]; rfl
      have e20 : ev (.tmp 20) = .slice a1 xs.length cap1 := by rw [← hev]; exact (eval_put (by kernel_rfl) 70 rfl (by decide)).trans q1
      clear hev hd hold q1
      exact .inl ⟨_, W, by go_simp, rfl, Below.refl _ _⟩
    · omega
  · exact fun _ _ _ _ h => by cases h
  · exact fun _ _ _ _ h => by cases h
  · exact fun _ _ _ _ _ h => by cases h
  · intro uu W hVW hall
    exact ⟨hall 3 (by decide) rfl, hall 4 (by decide) rfl, hVW⟩
  · intro q oo uu W hq hoo hS hdl
    rcases q with _|q
    · obtain rfl := Option.some.inj hoo
      have hS : uu 3 = .agg #[.int .u8 (tos.toNat : Int), .int .u16 (id.toNat : Int), .bool D, .bool M, .int .u16 (fo.toNat : Int), .int .u8 (ttl.toNat : Int), .int .u8 (pr.toNat : Int), .int .u32 (s.toNat : Int), .int .u32 (d.toNat : Int), .slice a8 os.length cap8, .slice a9 ys.length cap9] ∧ uu 4 = .slice a1 xs.length cap1 ∧ Below V.heap.size V W := hS
      obtain ⟨q3, q4, hBW⟩ := hS
      refine ⟨wanted_none rfl, ?_⟩
      generalize hev : Act.eval _ = ev
      have ec : ∀ c, ev (.const c) = c := fun c => by rw [← hev]; rfl
      have e9 : ev (.tmp 9) = .pointer (some ⟨w.heap.size + 1, 0, none⟩) := by rw [← hev]; exact eval_old (by kernel_rfl) 70 rfl (by decide) rfl
      have e22 : ev (.tmp 22) = .agg #[.int .u8 (tos.toNat : Int), .int .u16 (id.toNat : Int), .bool D, .bool M, .int .u16 (fo.toNat : Int), .int .u8 (ttl.toNat : Int), .int .u8 (pr.toNat : Int), .int .u32 (s.toNat : Int), .int .u32 (d.toNat : Int), .slice a8 os.length cap8, .slice a9 ys.length cap9] := by rw [← hev]; exact (eval_put (by kernel_rfl) 70 rfl (by decide)).trans q3
      clear hev hdl
      obtain ⟨m0, m1, m2, m3, m4, m5, m6, m7, m8, m9, m10, k0, k1, k2, k3, k4, k5, k6, k7, k8, k9, k10⟩ := (hK.next hBW).get11
      refine .inl ⟨_, by (go_simp <;> rfl), rfl, ?_⟩
      exact ⟨q4, bset11 (hB.trans (hBW.mono hB.size)) (Nat.le_succ _) (.int .u8 (tos.toNat : Int)) (.int .u16 (id.toNat : Int)) (.bool D) (.bool M) (.int .u16 (fo.toNat : Int)) (.int .u8 (ttl.toNat : Int)) (.int .u8 (pr.toNat : Int)) (.int .u32 (s.toNat : Int)) (.int .u32 (d.toNat : Int)) (.slice a8 os.length cap8) (.slice a9 ys.length cap9), (hK.next hBW).set11 (u0 := .int .u8 (tos.toNat : Int)) (u1 := .int .u16 (id.toNat : Int)) (u2 := .bool D) (u3 := .bool M) (u4 := .int .u16 (fo.toNat : Int)) (u5 := .int .u8 (ttl.toNat : Int)) (u6 := .int .u8 (pr.toNat : Int)) (u7 := .int .u32 (s.toNat : Int)) (u8 := .int .u32 (d.toNat : Int)) (u9 := .slice a8 os.length cap8) (u10 := .slice a9 ys.length cap9), (KC.next hBW).oth11 (by omega) (u0 := .int .u8 (tos.toNat : Int)) (u1 := .int .u16 (id.toNat : Int)) (u2 := .bool D) (u3 := .bool M) (u4 := .int .u16 (fo.toNat : Int)) (u5 := .int .u8 (ttl.toNat : Int)) (u6 := .int .u8 (pr.toNat : Int)) (u7 := .int .u32 (s.toNat : Int)) (u8 := .int .u32 (d.toNat : Int)) (u9 := .slice a8 os.length cap8) (u10 := .slice a9 ys.length cap9)⟩
    · omega
  · intro uu W hS hlast
    have hS : uu 4 = .slice a1 xs.length cap1 ∧ Below w.heap.size w W ∧ Blk W (w.heap.size + 1) [.int .u8 (tos.toNat : Int), .int .u16 (id.toNat : Int), .bool D, .bool M, .int .u16 (fo.toNat : Int), .int .u8 (ttl.toNat : Int), .int .u8 (pr.toNat : Int), .int .u32 (s.toNat : Int), .int .u32 (d.toNat : Int), .slice a8 os.length cap8, .slice a9 ys.length cap9] 38 ∧ Blk W w.heap.size cs.toList 79 := hS
    obtain ⟨q4, hBW, hKW, KCW⟩ := hS
    have hB := hBW
    have hK := hKW
    have KC := KCW
    have hx := hx0.next hB
    have hy := hy0.next hB
    clear HF HFb hBW hKW KCW hx0 hy0
    simp only [putAll, Act.put, Nat.reduceAdd, q4]
    simp only [List.setIfInBounds_toArray, List.set_cons_succ, List.set_cons_zero]
    clear q4
    generalize W = V1 at *
    go_wp2_with (with_reducible refine wpList_ldblk Try.underlying79 (by rw [hcz]; kernel_rfl) KC rfl ?_)
    refine (HW1 _ _ _ hx).out.mono ?_
    rintro e w_n ⟨L1, A1, c1, rfl, HL1, r1, hbel⟩
    replace hB := bnext hB hbel
    replace hx := hx.next hbel
    replace hy := hy.next hbel
    replace KC := KC.next hbel
    replace hK := hK.next hbel
    clear hbel
    have hX1 := Blk.new w_n #[.int .u8 (q0.toNat : Int), .int .u16 (q1.toNat : Int), .bool q2, .bool q3, .int .u16 (q4.toNat : Int), .int .u8 (q5.toNat : Int), .int .u8 (q6.toNat : Int), .int .u32 (q7.toNat : Int), .int .u32 (q8.toNat : Int), .slice none 0 0, .slice A1 L1.length c1] 38
    replace hB := bnextA hB (.cells #[.int .u8 (q0.toNat : Int), .int .u16 (q1.toNat : Int), .bool q2, .bool q3, .int .u16 (q4.toNat : Int), .int .u8 (q5.toNat : Int), .int .u8 (q6.toNat : Int), .int .u32 (q7.toNat : Int), .int .u32 (q8.toNat : Int), .slice none 0 0, .slice A1 L1.length c1] 38)
    replace hx := hx.nextA (.cells #[.int .u8 (q0.toNat : Int), .int .u16 (q1.toNat : Int), .bool q2, .bool q3, .int .u16 (q4.toNat : Int), .int .u8 (q5.toNat : Int), .int .u8 (q6.toNat : Int), .int .u32 (q7.toNat : Int), .int .u32 (q8.toNat : Int), .slice none 0 0, .slice A1 L1.length c1] 38)
    replace hy := hy.nextA (.cells #[.int .u8 (q0.toNat : Int), .int .u16 (q1.toNat : Int), .bool q2, .bool q3, .int .u16 (q4.toNat : Int), .int .u8 (q5.toNat : Int), .int .u8 (q6.toNat : Int), .int .u32 (q7.toNat : Int), .int .u32 (q8.toNat : Int), .slice none 0 0, .slice A1 L1.length c1] 38)
    replace r1 := r1.nextA (.cells #[.int .u8 (q0.toNat : Int), .int .u16 (q1.toNat : Int), .bool q2, .bool q3, .int .u16 (q4.toNat : Int), .int .u8 (q5.toNat : Int), .int .u8 (q6.toNat : Int), .int .u32 (q7.toNat : Int), .int .u32 (q8.toNat : Int), .slice none 0 0, .slice A1 L1.length c1] 38)
    replace KC := KC.alloc (.cells #[.int .u8 (q0.toNat : Int), .int .u16 (q1.toNat : Int), .bool q2, .bool q3, .int .u16 (q4.toNat : Int), .int .u8 (q5.toNat : Int), .int .u8 (q6.toNat : Int), .int .u32 (q7.toNat : Int), .int .u32 (q8.toNat : Int), .slice none 0 0, .slice A1 L1.length c1] 38)
    replace hK := hK.alloc (.cells #[.int .u8 (q0.toNat : Int), .int .u16 (q1.toNat : Int), .bool q2, .bool q3, .int .u16 (q4.toNat : Int), .int .u8 (q5.toNat : Int), .int .u8 (q6.toNat : Int), .int .u32 (q7.toNat : Int), .int .u32 (q8.toNat : Int), .slice none 0 0, .slice A1 L1.length c1] 38)
    clear HW1
    go_wp2_with (with_reducible refine wpList_ldblk Try.underlying79 (by rw [hcz]; kernel_rfl) KC rfl ?_)
    generalize w_n.heap.size = G11 at *
    generalize w_n.alloc (.cells #[.int .u8 (q0.toNat : Int), .int .u16 (q1.toNat : Int), .bool q2, .bool q3, .int .u16 (q4.toNat : Int), .int .u8 (q5.toNat : Int), .int .u8 (q6.toNat : Int), .int .u32 (q7.toNat : Int), .int .u32 (q8.toNat : Int), .slice none 0 0, .slice A1 L1.length c1] 38) = V2 at *
    refine (HW2 _ _ _ hx).out.mono ?_
    rintro e w_n ⟨L2, A2, c2, rfl, HL2, r2, hbel⟩
    replace hB := bnext hB hbel
    replace hy := hy.next hbel
    replace hK := hK.next hbel
    replace hX1 := hX1.next hbel
    replace r1 := r1.next hbel
    clear hbel
    have hX2 := Blk.new w_n #[.int .u8 (q0.toNat : Int), .int .u16 (q1.toNat : Int), .bool q2, .bool q3, .int .u16 (q4.toNat : Int), .int .u8 (q5.toNat : Int), .int .u8 (q6.toNat : Int), .int .u32 (q7.toNat : Int), .int .u32 (q8.toNat : Int), .slice none 0 0, .slice A2 L2.length c2] 38
    replace hB := bnextA hB (.cells #[.int .u8 (q0.toNat : Int), .int .u16 (q1.toNat : Int), .bool q2, .bool q3, .int .u16 (q4.toNat : Int), .int .u8 (q5.toNat : Int), .int .u8 (q6.toNat : Int), .int .u32 (q7.toNat : Int), .int .u32 (q8.toNat : Int), .slice none 0 0, .slice A2 L2.length c2] 38)
    replace hy := hy.nextA (.cells #[.int .u8 (q0.toNat : Int), .int .u16 (q1.toNat : Int), .bool q2, .bool q3, .int .u16 (q4.toNat : Int), .int .u8 (q5.toNat : Int), .int .u8 (q6.toNat : Int), .int .u32 (q7.toNat : Int), .int .u32 (q8.toNat : Int), .slice none 0 0, .slice A2 L2.length c2] 38)
    replace r1 := r1.nextA (.cells #[.int .u8 (q0.toNat : Int), .int .u16 (q1.toNat : Int), .bool q2, .bool q3, .int .u16 (q4.toNat : Int), .int .u8 (q5.toNat : Int), .int .u8 (q6.toNat : Int), .int .u32 (q7.toNat : Int), .int .u32 (q8.toNat : Int), .slice none 0 0, .slice A2 L2.length c2] 38)
    replace r2 := r2.nextA (.cells #[.int .u8 (q0.toNat : Int), .int .u16 (q1.toNat : Int), .bool q2, .bool q3, .int .u16 (q4.toNat : Int), .int .u8 (q5.toNat : Int), .int .u8 (q6.toNat : Int), .int .u32 (q7.toNat : Int), .int .u32 (q8.toNat : Int), .slice none 0 0, .slice A2 L2.length c2] 38)
    replace hK := hK.alloc (.cells #[.int .u8 (q0.toNat : Int), .int .u16 (q1.toNat : Int), .bool q2, .bool q3, .int .u16 (q4.toNat : Int), .int .u8 (q5.toNat : Int), .int .u8 (q6.toNat : Int), .int .u32 (q7.toNat : Int), .int .u32 (q8.toNat : Int), .slice none 0 0, .slice A2 L2.length c2] 38)
    replace hX1 := hX1.alloc (.cells #[.int .u8 (q0.toNat : Int), .int .u16 (q1.toNat : Int), .bool q2, .bool q3, .int .u16 (q4.toNat : Int), .int .u8 (q5.toNat : Int), .int .u8 (q6.toNat : Int), .int .u32 (q7.toNat : Int), .int .u32 (q8.toNat : Int), .slice none 0 0, .slice A2 L2.length c2] 38)
    clear HW2 hx
    have hlt := hK.lt
    obtain ⟨p0, p1, p2, p3, p4, p5, p6, p7, p8, p9, p10, -⟩ := hK.get11
    go_wp2_with fail
    clear p0 p1 p2 p3 p4 p5 p6 p7 p8 p9 p10 hlt
    generalize w_n.heap.size = G13 at *
    generalize w_n.alloc (.cells #[.int .u8 (q0.toNat : Int), .int .u16 (q1.toNat : Int), .bool q2, .bool q3, .int .u16 (q4.toNat : Int), .int .u8 (q5.toNat : Int), .int .u8 (q6.toNat : Int), .int .u32 (q7.toNat : Int), .int .u32 (q8.toNat : Int), .slice none 0 0, .slice A2 L2.length c2] 38) = V3 at *
    refine (HO1 _ _ _ _ _ _ hy).out.mono ?_
    rintro e w_n ⟨L3, A3, c3, rfl, HL3, r3, hbel⟩
    replace hB := bnext hB hbel
    replace hy := hy.next hbel
    replace hK := hK.next hbel
    replace hX1 := hX1.next hbel
    replace hX2 := hX2.next hbel
    replace r1 := r1.next hbel
    replace r2 := r2.next hbel
    clear hbel
    have hlt := hK.lt
    obtain ⟨p0, p1, p2, p3, p4, p5, p6, p7, p8, p9, p10, -⟩ := hK.get11
    go_wp2_with fail
    clear p0 p1 p2 p3 p4 p5 p6 p7 p8 p9 p10 hlt HO1
    refine (HO2 _ _ _ _ _ _ hy).out.mono ?_
    rintro e w_n ⟨L4, A4, c4, rfl, HL4, r4, hbel⟩
    replace hB := bnext hB hbel
    replace hX1 := hX1.next hbel
    replace hX2 := hX2.next hbel
    replace r1 := r1.next hbel
    replace r2 := r2.next hbel
    replace r3 := r3.next hbel
    clear hbel
    clear HO2 hy hK
    obtain ⟨p0, p1, p2, p3, p4, p5, p6, p7, p8, p9, p10, -⟩ := hX1.get11
    obtain ⟨t0, t1, t2, t3, t4, t5, t6, t7, t8, t9, t10, -⟩ := hX2.get11
    go_wp2_with fail
    clear p0 p1 p2 p3 p4 p5 p6 p7 p8 p9 p10 t0 t1 t2 t3 t4 t5 t6 t7 t8 t9 t10 hX1 hX2
    refine (psame_yes q0 q1 q2 q3 q4 q5 q6 q7 q8 none A1 none A2 0 c1 0 c2 [] L1 [] L2 _ (Rd.nil0 _ _ _) r1 (Rd.nil0 _ _ _) r2 rfl (by rw [HL1.out, HL2.out])).mono ?_
    rintro e w_n ⟨rfl, hbel⟩
    replace hB := bnext hB hbel
    replace r3 := r3.next hbel
    replace r4 := r4.next hbel
    clear hbel r1 r2
    go_wp2_with fail
    refine (rsame_eq _ _ _ _ L3 L4 _ _ r3 r4 (by rw [HL3.out, HL4.out])).mono ?_
    rintro e w6 ⟨rfl, hd⟩
    replace hB := bnext hB hd.bel
    clear hd r3 r4
    go_wp2_with fail
    refine (lives29_any _).mono ?_
    rintro e wl ⟨rfl, hbel⟩
    replace hB := bnext hB hbel
    go_wp2_with fail
    go_ret
    exact ⟨rfl, hB⟩

theorem TunWraps_walk (a0_0_0_0 : Int) (a0_0_0_1 : Int) (a0_0_0_2 : Int) (a0_0_0_3 : Int) (a0_0_0_4 : Int) (a0_0_0_5 : Int) (a0_0_1_0 : Int) (a0_0_1_1 : Int) (a0_0_1_2 : Int) (a0_0_1_3 : Int) (a0_0_1_4 : Int) (a0_0_1_5 : Int) (a0_1_0 : Int) (a0_1_1 : Int) (a0_2_0 : Int) (a0_2_1 : Int) (a0_3 : Int) (a0_4 : Int) (a0_5_0 : Int) (a0_5_1 : Int) (a0_6_0 : Int) (a0_6_1 : Int) (a0_7 : Int) (a0_8 : Int) (a0_9 : Int) (a0_10 : Int) (a0_11 : Int) (a0_12 : Int) (a0_13 : Int) (a0_14 : Int) (a0_15 : Int) (a0_16 : Int) (a0_17 : Int) (a0_18 : Int) (a0_19 : Int) (a0_20 : Int) (a0_21 : Int) (a0_22 : Int) (a0_23 : Int) (a0_24 : Int) (a1 : Option Addr) (len1 cap1 : Nat) (z1 : List Int) (a2 : Int) (a3 : Int) (a4_0 : Int) (a4_1 : Int) (a4_2 : Bool) (a4_3 : Bool) (a4_4 : Int) (a4_5 : Int) (a4_6 : Int) (a4_7 : Int) (a4_8 : Int) (a4_9 : Option Addr) (len4_9 cap4_9 : Nat) (z4_9 : List Int) (a4_10 : Option Addr) (len4_10 cap4_10 : Nat) (z4_10 : List Int) (w : World) (_w0_0_0_0 : (Lit.int .u8 a0_0_0_0).wf = true) (_w0_0_0_1 : (Lit.int .u8 a0_0_0_1).wf = true) (_w0_0_0_2 : (Lit.int .u8 a0_0_0_2).wf = true) (_w0_0_0_3 : (Lit.int .u8 a0_0_0_3).wf = true) (_w0_0_0_4 : (Lit.int .u8 a0_0_0_4).wf = true) (_w0_0_0_5 : (Lit.int .u8 a0_0_0_5).wf = true) (_w0_0_1_0 : (Lit.int .u8 a0_0_1_0).wf = true) (_w0_0_1_1 : (Lit.int .u8 a0_0_1_1).wf = true) (_w0_0_1_2 : (Lit.int .u8 a0_0_1_2).wf = true) (_w0_0_1_3 : (Lit.int .u8 a0_0_1_3).wf = true) (_w0_0_1_4 : (Lit.int .u8 a0_0_1_4).wf = true) (_w0_0_1_5 : (Lit.int .u8 a0_0_1_5).wf = true) (_w0_1_0 : (Lit.int .u32 a0_1_0).wf = true) (w0_1_1 : (Lit.int .u32 a0_1_1).wf = true) (_w0_2_0 : (Lit.int .i64 a0_2_0).wf = true) (_w0_2_1 : (Lit.int .i64 a0_2_1).wf = true) (_w0_3 : (Lit.int .u32 a0_3).wf = true) (_w0_4 : (Lit.int .i64 a0_4).wf = true) (_w0_5_0 : (Lit.int .u64 a0_5_0).wf = true) (_w0_5_1 : (Lit.int .u64 a0_5_1).wf = true) (_w0_6_0 : (Lit.int .u64 a0_6_0).wf = true) (_w0_6_1 : (Lit.int .u64 a0_6_1).wf = true) (_w0_7 : (Lit.int .u16 a0_7).wf = true) (_w0_8 : (Lit.int .i64 a0_8).wf = true) (_w0_9 : (Lit.int .i64 a0_9).wf = true) (_w0_10 : (Lit.int .i64 a0_10).wf = true) (_w0_11 : (Lit.int .i64 a0_11).wf = true) (_w0_12 : (Lit.int .i64 a0_12).wf = true) (_w0_13 : (Lit.int .i64 a0_13).wf = true) (_w0_14 : (Lit.int .i64 a0_14).wf = true) (_w0_15 : (Lit.int .i64 a0_15).wf = true) (_w0_16 : (Lit.int .i64 a0_16).wf = true) (_w0_17 : (Lit.int .i64 a0_17).wf = true) (_w0_18 : (Lit.int .i64 a0_18).wf = true) (_w0_19 : (Lit.int .i64 a0_19).wf = true) (_w0_20 : (Lit.int .i64 a0_20).wf = true) (_w0_21 : (Lit.int .i64 a0_21).wf = true) (_w0_22 : (Lit.int .i64 a0_22).wf = true) (_w0_23 : (Lit.int .i64 a0_23).wf = true) (_w0_24 : (Lit.int .i64 a0_24).wf = true) (w1 : InRow .u8 w a1 len1 cap1 z1) (w2 : (Lit.int .u32 a2).wf = true) (w3 : (Lit.int .u16 a3).wf = true) (w4_0 : (Lit.int .u8 a4_0).wf = true) (w4_1 : (Lit.int .u16 a4_1).wf = true) (w4_4 : (Lit.int .u16 a4_4).wf = true) (w4_5 : (Lit.int .u8 a4_5).wf = true) (w4_6 : (Lit.int .u8 a4_6).wf = true) (w4_7 : (Lit.int .u32 a4_7).wf = true) (w4_8 : (Lit.int .u32 a4_8).wf = true) (w4_9 : InRow .u8 w a4_9 len4_9 cap4_9 z4_9) (w4_10 : InRow .u8 w a4_10 len4_10 cap4_10 z4_10) :
    Calls Try.prog 7 #[.agg #[.int .u8 a0_0_0_0, .int .u8 a0_0_0_1, .int .u8 a0_0_0_2, .int .u8 a0_0_0_3, .int .u8 a0_0_0_4, .int .u8 a0_0_0_5, .int .u8 a0_0_1_0, .int .u8 a0_0_1_1, .int .u8 a0_0_1_2, .int .u8 a0_0_1_3, .int .u8 a0_0_1_4, .int .u8 a0_0_1_5, .int .u32 a0_1_0, .int .u32 a0_1_1, .int .i64 a0_2_0, .int .i64 a0_2_1, .int .u32 a0_3, .int .i64 a0_4, .int .u64 a0_5_0, .int .u64 a0_5_1, .int .u64 a0_6_0, .int .u64 a0_6_1, .int .u16 a0_7, .int .i64 a0_8, .int .i64 a0_9, .int .i64 a0_10, .int .i64 a0_11, .int .i64 a0_12, .int .i64 a0_13, .int .i64 a0_14, .int .i64 a0_15, .int .i64 a0_16, .int .i64 a0_17, .int .i64 a0_18, .int .i64 a0_19, .int .i64 a0_20, .int .i64 a0_21, .int .i64 a0_22, .int .i64 a0_23, .int .i64 a0_24], .slice a1 len1 cap1, .int .u32 a2, .int .u16 a3, .agg #[.int .u8 a4_0, .int .u16 a4_1, .bool a4_2, .bool a4_3, .int .u16 a4_4, .int .u8 a4_5, .int .u8 a4_6, .int .u32 a4_7, .int .u32 a4_8, .slice a4_9 len4_9 cap4_9, .slice a4_10 len4_10 cap4_10]] w fun e w' => e = .returned (.bool true) ∧ Below w.heap.size w w' := by
  obtain ⟨tos, rfl⟩ := u8_of w4_0
  obtain ⟨id, rfl⟩ := u16_of w4_1
  obtain ⟨fo, rfl⟩ := u16_of w4_4
  obtain ⟨ttl, rfl⟩ := u8_of w4_5
  obtain ⟨pr, rfl⟩ := u8_of w4_6
  obtain ⟨s, rfl⟩ := u32_of w4_7
  obtain ⟨d, rfl⟩ := u32_of w4_8
  obtain ⟨to, rfl⟩ := u32_of w2
  obtain ⟨nid, rfl⟩ := u16_of w3
  obtain ⟨os, hol, ho0, hlc, hcc, hm⟩ := few_len w4_9 50
  obtain ⟨ys, hyl, hy0, hlc2, hcc2, hm2⟩ := few_len w4_10 300
  obtain ⟨xs, hxl, hx0, hlz, hcz0, hmz⟩ := few_len w1 400
  have HFb : ∀ W, Hid (Calls Try.prog 32 #[.slice a1 len1 cap1, .int .i64 400] W fun e w' => e = .returned (.slice a1 xs.length cap1) ∧ Below W.heap.size W w') := by
    intro W
    have := few_le a1 len1 cap1 400 W hlz hcz0 (by omega)
    rw [hmz.out] at this
    exact this.mono fun e w' h => ⟨h.1, h.2 ▸ Below.refl _ _⟩
  have HF := fun W => Lib.hid (pfew_any tos id a4_2 a4_3 fo ttl pr s d a4_9 a4_10 len4_9 cap4_9 len4_10 cap4_10 os.length ys.length W hlc hcc hlc2 hcc2 hm hm2)
  obtain ⟨b1, rfl⟩ := u32_of w0_1_1
  obtain ⟨cs, hcv⟩ : ∃ cs : Array Value, cs = #[.int .u8 a0_0_0_0, .int .u8 a0_0_0_1, .int .u8 a0_0_0_2, .int .u8 a0_0_0_3, .int .u8 a0_0_0_4, .int .u8 a0_0_0_5, .int .u8 a0_0_1_0, .int .u8 a0_0_1_1, .int .u8 a0_0_1_2, .int .u8 a0_0_1_3, .int .u8 a0_0_1_4, .int .u8 a0_0_1_5, .int .u32 a0_1_0, .int .u32 (b1.toNat : Int), .int .i64 a0_2_0, .int .i64 a0_2_1, .int .u32 a0_3, .int .i64 a0_4, .int .u64 a0_5_0, .int .u64 a0_5_1, .int .u64 a0_6_0, .int .u64 a0_6_1, .int .u16 a0_7, .int .i64 a0_8, .int .i64 a0_9, .int .i64 a0_10, .int .i64 a0_11, .int .i64 a0_12, .int .i64 a0_13, .int .i64 a0_14, .int .i64 a0_15, .int .i64 a0_16, .int .i64 a0_17, .int .i64 a0_18, .int .i64 a0_19, .int .i64 a0_20, .int .i64 a0_21, .int .i64 a0_22, .int .i64 a0_23, .int .i64 a0_24] := ⟨_, rfl⟩
  have hcz : cs.size = 40 := by rw [hcv]; rfl
  have h13 : cs.toList[13]? = some (.int .u32 (b1.toNat : Int)) := by rw [hcv]; rfl
  have h17 : cs.toList[17]? = some (.int .i64 a0_4) := by rw [hcv]; rfl
  rw [← hcv]
  clear hcv
  exact tun_wraps cs hcz b1 h13 a0_4 h17 tos id a4_2 a4_3 fo ttl pr s d a1 a4_9 a4_10 len1 cap1 len4_9 cap4_9 len4_10 cap4_10 xs os ys to nid w hxl hyl hx0 hy0 HF HFb
end Go.Proofs.Ytkoamiefombilaa
