/- The walks of the statements on cookies. -/
import Derived.Test.YteodjajjlgekcaaDoorCk4
namespace Go.Proofs.YteodjajjlgekcaaDoor
open Go.RowKit
set_option linter.unusedVariables false

theorem bw {P : Program} {f : Nat} {args : Array Value} {W : World} {v : Value} (h : Calls P f args W fun e w' => e = .returned v ∧ W = w') : Calls P f args W fun e w' => e = .returned v ∧ Below W.heap.size W w' :=
  h.mono fun e w' h => ⟨h.1, by rw [← h.2]; exact Below.refl _ _⟩
theorem idx_1460 : idxN 1460 8 = 7 := by simp [idxN, szL]
theorem idx_100 : idxN 100 8 = 0 := by simp [idxN, szL]
set_option maxHeartbeats 1000000 in
theorem lives27_any (w : World) (hS : SZ w) : Calls Tryd.prog 17 #[] w fun e w' => e = .returned (.bool true) ∧ Below w.heap.size w w' := by
  obtain ⟨lo, el, hl⟩ : ∃ x : Nat, (x : Int) = 1 ∧ x < 18446744073709551616 := ⟨1, rfl, by omega⟩
  obtain ⟨z, ez, hz⟩ : ∃ x : Nat, (x : Int) = 0 ∧ x < 18446744073709551616 := ⟨0, rfl, by omega⟩
  obtain ⟨s, es⟩ : ∃ x : UInt32, (x.toNat : Int) = 1 := ⟨1, rfl⟩
  obtain ⟨z32, e32⟩ : ∃ x : UInt32, (x.toNat : Int) = 0 := ⟨0, rfl⟩
  obtain ⟨z16, e16⟩ : ∃ x : UInt16, (x.toNat : Int) = 0 := ⟨0, rfl⟩
  obtain ⟨z8, e8⟩ : ∃ x : UInt8, (x.toNat : Int) = 0 := ⟨0, rfl⟩
  obtain ⟨isn, ei⟩ : ∃ x : UInt32, (x.toNat : Int) = 7 := ⟨7, rfl⟩
  obtain ⟨N, hN⟩ : ∃ N, ckN lo z (ckB s z32 z16 z16 z8 isn) 1 5 = N := ⟨_, rfl⟩
  have hNl : N < 4294967296 := by rw [← hN]; exact ckN_lt _ _ _ _ _ (by decide) (by decide)
  have hr1 : ckR 33 32 = 1 := rfl
  have hr2 : ckR 5 8 = 5 := rfl
  have H1 : ∀ W, Hid (Calls Tryd.prog 20 #[.agg #[.int .u64 1, .int .u64 0, .int .u64 0, .int .u64 0, .int .i64 33], .agg #[.int .u32 1, .int .u32 0, .int .u16 0, .int .u16 0, .int .u8 0], .int .u32 7, .int .i64 5] W fun e w' => e = .returned (.int .u32 (N : Int)) ∧ Below W.heap.size W w') := by
    intro W
    have h := cissue_any lo z z z 33 hl hz s z32 z16 z16 z8 isn 5 N (by rw [hr1, hr2]; exact hN) W
    simp only [el, ez, es, e32, e16, e8, ei] at h
    exact h
  have H6 : ∀ W, Hid (Calls Tryd.prog 18 #[.agg #[.int .u64 1, .int .u64 0, .int .u64 0, .int .u64 0, .int .i64 33], .agg #[.int .u32 1, .int .u32 0, .int .u16 0, .int .u16 0, .int .u8 0], .int .u32 7, .int .u32 (N : Int)] W fun e w' => e = .returned (.bool true) ∧ Below W.heap.size W w') := by
    intro W
    have h := cright_any lo z z z 33 hl hz hz hz (by omega) s z32 z16 z16 z8 isn N hNl true (by rw [← hN, ← hr1]; exact right_now _ _ _ _ _ _ _ (by decide)) W
    simp only [el, ez, es, e32, e16, e8, ei] at h
    exact h
  have H2 : ∀ W, SZ W → Hid (Calls Tryd.prog 13 #[.int .u16 1460] W fun e w' => e = .returned (.int .i64 7) ∧ Below W.heap.size W w') := fun W h => by
    have h := bw (cindex_any 1460 W h)
    rw [idx_1460] at h
    exact h
  have H3 : ∀ W, SZ W → Hid (Calls Tryd.prog 13 #[.int .u16 100] W fun e w' => e = .returned (.int .i64 0) ∧ Below W.heap.size W w') := fun W h => by
    have h := bw (cindex_any 100 W h)
    rw [idx_100] at h
    exact h
  have H4 : ∀ W, Hid (Calls Tryd.prog 11 #[.int .u32 (N : Int)] W fun e w' => e = .returned (.int .i64 1) ∧ Below W.heap.size W w') := fun W => by
    have h := bw (cepoch_any N hNl W)
    rw [show N / 134217728 = 1 by rw [← hN]; exact ckN_e _ _ _ _ _ (by decide)] at h
    exact h
  have H5 : ∀ W, Hid (Calls Tryd.prog 12 #[.int .u32 (N : Int)] W fun e w' => e = .returned (.int .i64 5) ∧ Below W.heap.size W w') := fun W => by
    have h := bw (cplace_any N hNl W)
    rw [show N / 16777216 % 8 = 5 by rw [← hN]; exact ckN_i _ _ _ _ _ (by decide)] at h
    exact h
  clear hN hNl hr1 hr2 el ez es e32 e16 e8 ei hl hz
  obtain ⟨V, hV⟩ : ∃ V, V = w.alloc (.cells #[.int .u64 1, .int .u64 0, .int .u64 0, .int .u64 0, .int .i64 33] 36) := ⟨_, rfl⟩
  have hB : Below w.heap.size w V := by subst hV; exact bnextA (Below.refl _ _) _
  have K : Blk V w.heap.size [.int .u64 1, .int .u64 0, .int .u64 0, .int .u64 0, .int .i64 33] 36 := by subst hV; exact Blk.new _ _ _
  replace hS := hS.next hB
  obtain ⟨k0, k1, k2, k3, k4, -⟩ := K.get5
  go_enter Tryd.func17, Tryd.ntmps17
  go_wp2_with fail
  rw [← hV]
  clear hV
  refine (H1 _).out.mono ?_
  rintro e w1 ⟨rfl, hb⟩
  replace hB := bnext hB hb
  replace K := K.next hb
  replace hS := hS.next hb
  clear hb k0 k1 k2 k3 k4
  obtain ⟨k0, k1, k2, k3, k4, -⟩ := K.get5
  go_wp2_with fail
  refine (H2 _ hS).out.mono ?_
  rintro e w1 ⟨rfl, hb⟩
  replace hB := bnext hB hb
  replace K := K.next hb
  replace hS := hS.next hb
  clear hb k0 k1 k2 k3 k4
  obtain ⟨k0, k1, k2, k3, k4, -⟩ := K.get5
  go_wp2_with fail
  refine (H3 _ hS).out.mono ?_
  rintro e w1 ⟨rfl, hb⟩
  replace hB := bnext hB hb
  replace K := K.next hb
  replace hS := hS.next hb
  clear hb k0 k1 k2 k3 k4
  obtain ⟨k0, k1, k2, k3, k4, -⟩ := K.get5
  go_wp2_with fail
  refine (H4 _).out.mono ?_
  rintro e w1 ⟨rfl, hb⟩
  replace hB := bnext hB hb
  replace K := K.next hb
  replace hS := hS.next hb
  clear hb k0 k1 k2 k3 k4
  obtain ⟨k0, k1, k2, k3, k4, -⟩ := K.get5
  go_wp2_with fail
  refine (H5 _).out.mono ?_
  rintro e w1 ⟨rfl, hb⟩
  replace hB := bnext hB hb
  replace K := K.next hb
  replace hS := hS.next hb
  clear hb k0 k1 k2 k3 k4
  obtain ⟨k0, k1, k2, k3, k4, -⟩ := K.get5
  go_wp2_with fail
  refine (H6 _).out.mono ?_
  rintro e w1 ⟨rfl, hb⟩
  replace hB := bnext hB hb
  go_wp2_with fail
  go_ret
  exact ⟨rfl, hB⟩
set_option maxHeartbeats 1000000 in
theorem CookieRight_w (lo hi lo2 hi2 : Nat) (h1 : lo < 18446744073709551616) (h2 : hi < 18446744073709551616) (h3 : lo2 < 18446744073709551616) (h4 : hi2 < 18446744073709551616) (ep : Int) (hm : ep ≤ 9223372036854775807) (s d : UInt32) (p q : UInt16) (r : UInt8) (isn : UInt32) (y : Nat) (hv : y < 4294967296) (w : World) (hS : SZ w) :
    Calls Tryd.prog 4 #[.agg #[.int .u64 (lo : Int), .int .u64 (hi : Int), .int .u64 (lo2 : Int), .int .u64 (hi2 : Int), .int .i64 ep], .agg #[.int .u32 (s.toNat : Int), .int .u32 (d.toNat : Int), .int .u16 (p.toNat : Int), .int .u16 (q.toNat : Int), .int .u8 (r.toNat : Int)], .int .u32 (isn.toNat : Int), .int .u32 (y : Int)] w fun e w' => e = .returned (.bool true) ∧ Below w.heap.size w w' := by
  obtain ⟨b, hb⟩ : ∃ b, rightB lo hi lo2 hi2 ep (ckB s d p q r isn) y = b := ⟨_, rfl⟩
  have HR1 := fun W => Lib.hid (cright_any lo hi lo2 hi2 ep h1 h2 h3 h4 hm s d p q r isn y hv b hb W)
  have HR2 := fun W => Lib.hid (rright_any lo hi lo2 hi2 h1 h2 h3 h4 ep hm s d p q r isn y hv b hb W)
  clear hb hm hv
  obtain ⟨V, hV⟩ : ∃ V, V = (w.alloc (.cells #[.int .u64 (lo : Int), .int .u64 (hi : Int), .int .u64 (lo2 : Int), .int .u64 (hi2 : Int), .int .i64 ep] 36)).alloc (.cells #[.int .u32 (s.toNat : Int), .int .u32 (d.toNat : Int), .int .u16 (p.toNat : Int), .int .u16 (q.toNat : Int), .int .u8 (r.toNat : Int)] 28) := ⟨_, rfl⟩
  have hB : Below w.heap.size w V := by subst hV; exact bnextA (bnextA (Below.refl _ _) _) _
  have K : Blk V w.heap.size [.int .u64 (lo : Int), .int .u64 (hi : Int), .int .u64 (lo2 : Int), .int .u64 (hi2 : Int), .int .i64 ep] 36 := by subst hV; exact (Blk.new _ _ _).alloc _
  have F : Blk V (w.heap.size + 1) [.int .u32 (s.toNat : Int), .int .u32 (d.toNat : Int), .int .u16 (p.toNat : Int), .int .u16 (q.toNat : Int), .int .u8 (r.toNat : Int)] 28 := by subst hV; simpa using Blk.new (w.alloc (.cells #[.int .u64 (lo : Int), .int .u64 (hi : Int), .int .u64 (lo2 : Int), .int .u64 (hi2 : Int), .int .i64 ep] 36)) #[.int .u32 (s.toNat : Int), .int .u32 (d.toNat : Int), .int .u16 (p.toNat : Int), .int .u16 (q.toNat : Int), .int .u8 (r.toNat : Int)] 28
  replace hS := hS.next hB
  have HCC : ∀ W, Below V.heap.size V W → (W.cell? ⟨w.heap.size, 0, none⟩ = some (.int .u64 (lo : Int)) ∧ W.cell? ⟨w.heap.size, 1, none⟩ = some (.int .u64 (hi : Int)) ∧ W.cell? ⟨w.heap.size, 2, none⟩ = some (.int .u64 (lo2 : Int)) ∧ W.cell? ⟨w.heap.size, 3, none⟩ = some (.int .u64 (hi2 : Int)) ∧ W.cell? ⟨w.heap.size, 4, none⟩ = some (.int .i64 ep)) := by
    intro W h
    obtain ⟨k0, k1, k2, k3, k4, -⟩ := (K.next h).get5
    exact ⟨k0, k1, k2, k3, k4⟩
  go_enter Tryd.func4, Tryd.ntmps4
  go_wp2_with fail
  rw [← hV]
  clear hV
  refine region_put (by kernel_rfl) (by kernel_rfl) (by kernel_rfl) 28 rfl (by kernel_rfl) V (fun i v W => match i with
      | 0 => v = .agg #[.int .u64 (lo : Int), .int .u64 (hi : Int), .int .u64 (lo2 : Int), .int .u64 (hi2 : Int), .int .i64 ep]
      | 1 => v = .agg #[.int .u32 (s.toNat : Int), .int .u32 (d.toNat : Int), .int .u16 (p.toNat : Int), .int .u16 (q.toNat : Int), .int .u8 (r.toNat : Int)]
      | 2 => v = .int .u32 (isn.toNat : Int)
      | 3 => v = .int .u32 (y : Int)
      | 4 => v = .bool b
      | 5 => v = .pointer (some ⟨w.heap.size, 0, none⟩)
      | 6 => v = .agg #[.int .u64 (lo : Int), .int .u64 (hi : Int)]
      | 7 => v = .pointer (some ⟨w.heap.size, 2, none⟩)
      | 8 => v = .agg #[.int .u64 (lo2 : Int), .int .u64 (hi2 : Int)]
      | 9 => v = .pointer (some ⟨w.heap.size, 4, none⟩)
      | 10 => v = .int .i64 ep
      | 11 => v = .agg #[.int .u32 (s.toNat : Int), .int .u32 (d.toNat : Int), .int .u16 (p.toNat : Int), .int .u16 (q.toNat : Int), .int .u8 (r.toNat : Int)]
      | 12 => v = .int .u32 (isn.toNat : Int)
      | 13 => v = .int .u32 (y : Int)
      | 14 => v = .bool b
      | 15 => v = .bool true
      | 16 => v = .bool true
      | 17 => v = .bool true
      | 18 => v = .bool true
      | 19 => v = .bool true
      | _ => True) (Below.refl _ _) ?_ ?_ ?_
  · intro i v W W' h hb
    match i, h with
    | 0, h => exact h
    | 1, h => exact h
    | 2, h => exact h
    | 3, h => exact h
    | 4, h => exact h
    | 5, h => exact h
    | 6, h => exact h
    | 7, h => exact h
    | 8, h => exact h
    | 9, h => exact h
    | 10, h => exact h
    | 11, h => exact h
    | 12, h => exact h
    | 13, h => exact h
    | 14, h => exact h
    | 15, h => exact h
    | 16, h => exact h
    | 17, h => exact h
    | 18, h => exact h
    | 19, h => exact h
    | _ + 20, _ => trivial
  · intro i o uu W hoo hVW hd
    rcases i with _|_|_|_|_|_|_|_|_|_|_|_|_|_|_|_|_|_|_|_|i
    · obtain rfl := Option.some.inj hoo
      refine .inl ⟨wanted_none rfl, ?_⟩
      generalize hev : Act.eval _ = ev
      have ec : ∀ c, ev (.const c) = c := fun c => by rw [← hev]; rfl
      have e4 : ev (.tmp 4) = .pointer (some ⟨w.heap.size, 0, none⟩) := by rw [← hev]; exact eval_old (by kernel_rfl) 28 rfl (by decide) rfl
      clear hev hd
      exact .inl ⟨_, W, load_blk Tryd.underlying36 (by kernel_rfl) (K.next hVW) rfl e4, rfl, Below.refl _ _⟩
    · obtain rfl := Option.some.inj hoo
      refine .inl ⟨wanted_none rfl, ?_⟩
      generalize hev : Act.eval _ = ev
      have ec : ∀ c, ev (.const c) = c := fun c => by rw [← hev]; rfl
      have e5 : ev (.tmp 5) = .pointer (some ⟨w.heap.size + 1, 0, none⟩) := by rw [← hev]; exact eval_old (by kernel_rfl) 28 rfl (by decide) rfl
      clear hev hd
      exact .inl ⟨_, W, load_blk Tryd.underlying28 (by kernel_rfl) (F.next hVW) rfl e5, rfl, Below.refl _ _⟩
    · obtain rfl := Option.some.inj hoo
      refine .inl ⟨wanted_none rfl, ?_⟩
      generalize hev : Act.eval _ = ev
      have ec : ∀ c, ev (.const c) = c := fun c => by rw [← hev]; rfl
      have e2 : ev (.tmp 2) = .int .u32 (isn.toNat : Int) := by rw [← hev]; exact eval_old (by kernel_rfl) 28 rfl (by decide) rfl
      clear hev hd
      exact .inl ⟨_, W, by go_simp, rfl, Below.refl _ _⟩
    · obtain rfl := Option.some.inj hoo
      refine .inl ⟨wanted_none rfl, ?_⟩
      generalize hev : Act.eval _ = ev
      have ec : ∀ c, ev (.const c) = c := fun c => by rw [← hev]; rfl
      have e3 : ev (.tmp 3) = .int .u32 (y : Int) := by rw [← hev]; exact eval_old (by kernel_rfl) 28 rfl (by decide) rfl
      clear hev hd
      exact .inl ⟨_, W, by go_simp, rfl, Below.refl _ _⟩
    · obtain rfl := Option.some.inj hoo
      have q0 : uu 0 = .agg #[.int .u64 (lo : Int), .int .u64 (hi : Int), .int .u64 (lo2 : Int), .int .u64 (hi2 : Int), .int .i64 ep] := hd 0 (by kernel_rfl)
      have q1 : uu 1 = .agg #[.int .u32 (s.toNat : Int), .int .u32 (d.toNat : Int), .int .u16 (p.toNat : Int), .int .u16 (q.toNat : Int), .int .u8 (r.toNat : Int)] := hd 1 (by kernel_rfl)
      have q2 : uu 2 = .int .u32 (isn.toNat : Int) := hd 2 (by kernel_rfl)
      have q3 : uu 3 = .int .u32 (y : Int) := hd 3 (by kernel_rfl)
      refine .inl ⟨wanted_none rfl, ?_⟩
      generalize hev : Act.eval _ = ev
      have ec : ∀ c, ev (.const c) = c := fun c => by rw [← hev]; rfl
      have ef : ∀ f, ev (.func f) = .func (.func f) #[] #[] := fun f => by rw [← hev]; rfl
      have e9 : ev (.tmp 9) = .agg #[.int .u64 (lo : Int), .int .u64 (hi : Int), .int .u64 (lo2 : Int), .int .u64 (hi2 : Int), .int .i64 ep] := by rw [← hev]; exact (eval_put (by kernel_rfl) 28 rfl (by decide)).trans q0
      have e10 : ev (.tmp 10) = .agg #[.int .u32 (s.toNat : Int), .int .u32 (d.toNat : Int), .int .u16 (p.toNat : Int), .int .u16 (q.toNat : Int), .int .u8 (r.toNat : Int)] := by rw [← hev]; exact (eval_put (by kernel_rfl) 28 rfl (by decide)).trans q1
      have e11 : ev (.tmp 11) = .int .u32 (isn.toNat : Int) := by rw [← hev]; exact (eval_put (by kernel_rfl) 28 rfl (by decide)).trans q2
      have e12 : ev (.tmp 12) = .int .u32 (y : Int) := by rw [← hev]; exact (eval_put (by kernel_rfl) 28 rfl (by decide)).trans q3
      clear hev hd q0 q1 q2 q3
      exact .inr ⟨_, _, _, by go_simp, (HR1 W).out, fun e w' he => ⟨_, he.1, rfl, he.2⟩⟩
    · obtain rfl := Option.some.inj hoo
      refine .inl ⟨wanted_none rfl, ?_⟩
      generalize hev : Act.eval _ = ev
      have ec : ∀ c, ev (.const c) = c := fun c => by rw [← hev]; rfl
      have e4 : ev (.tmp 4) = .pointer (some ⟨w.heap.size, 0, none⟩) := by rw [← hev]; exact eval_old (by kernel_rfl) 28 rfl (by decide) rfl
      clear hev hd
      exact .inl ⟨_, W, by go_simp, rfl, Below.refl _ _⟩
    · obtain rfl := Option.some.inj hoo
      have q5 : uu 5 = .pointer (some ⟨w.heap.size, 0, none⟩) := hd 5 (by kernel_rfl)
      refine .inl ⟨wanted_none rfl, ?_⟩
      generalize hev : Act.eval _ = ev
      have ec : ∀ c, ev (.const c) = c := fun c => by rw [← hev]; rfl
      have e14 : ev (.tmp 14) = .pointer (some ⟨w.heap.size, 0, none⟩) := by rw [← hev]; exact (eval_put (by kernel_rfl) 28 rfl (by decide)).trans q5
      clear hev hd q5
      obtain ⟨cc0, cc1, cc2, cc3, cc4⟩ := HCC W hVW
      exact .inl ⟨_, W, by go_simp, rfl, Below.refl _ _⟩
    · obtain rfl := Option.some.inj hoo
      refine .inl ⟨wanted_none rfl, ?_⟩
      generalize hev : Act.eval _ = ev
      have ec : ∀ c, ev (.const c) = c := fun c => by rw [← hev]; rfl
      have e4 : ev (.tmp 4) = .pointer (some ⟨w.heap.size, 0, none⟩) := by rw [← hev]; exact eval_old (by kernel_rfl) 28 rfl (by decide) rfl
      clear hev hd
      exact .inl ⟨_, W, by go_simp, rfl, Below.refl _ _⟩
    · obtain rfl := Option.some.inj hoo
      have q7 : uu 7 = .pointer (some ⟨w.heap.size, 2, none⟩) := hd 7 (by kernel_rfl)
      refine .inl ⟨wanted_none rfl, ?_⟩
      generalize hev : Act.eval _ = ev
      have ec : ∀ c, ev (.const c) = c := fun c => by rw [← hev]; rfl
      have e16 : ev (.tmp 16) = .pointer (some ⟨w.heap.size, 2, none⟩) := by rw [← hev]; exact (eval_put (by kernel_rfl) 28 rfl (by decide)).trans q7
      clear hev hd q7
      obtain ⟨cc0, cc1, cc2, cc3, cc4⟩ := HCC W hVW
      exact .inl ⟨_, W, by go_simp, rfl, Below.refl _ _⟩
    · obtain rfl := Option.some.inj hoo
      refine .inl ⟨wanted_none rfl, ?_⟩
      generalize hev : Act.eval _ = ev
      have ec : ∀ c, ev (.const c) = c := fun c => by rw [← hev]; rfl
      have e4 : ev (.tmp 4) = .pointer (some ⟨w.heap.size, 0, none⟩) := by rw [← hev]; exact eval_old (by kernel_rfl) 28 rfl (by decide) rfl
      clear hev hd
      exact .inl ⟨_, W, by go_simp, rfl, Below.refl _ _⟩
    · obtain rfl := Option.some.inj hoo
      have q9 : uu 9 = .pointer (some ⟨w.heap.size, 4, none⟩) := hd 9 (by kernel_rfl)
      refine .inl ⟨wanted_none rfl, ?_⟩
      generalize hev : Act.eval _ = ev
      have ec : ∀ c, ev (.const c) = c := fun c => by rw [← hev]; rfl
      have e18 : ev (.tmp 18) = .pointer (some ⟨w.heap.size, 4, none⟩) := by rw [← hev]; exact (eval_put (by kernel_rfl) 28 rfl (by decide)).trans q9
      clear hev hd q9
      obtain ⟨cc0, cc1, cc2, cc3, cc4⟩ := HCC W hVW
      exact .inl ⟨_, W, by go_simp, rfl, Below.refl _ _⟩
    · obtain rfl := Option.some.inj hoo
      refine .inl ⟨wanted_none rfl, ?_⟩
      generalize hev : Act.eval _ = ev
      have ec : ∀ c, ev (.const c) = c := fun c => by rw [← hev]; rfl
      have e5 : ev (.tmp 5) = .pointer (some ⟨w.heap.size + 1, 0, none⟩) := by rw [← hev]; exact eval_old (by kernel_rfl) 28 rfl (by decide) rfl
      clear hev hd
      exact .inl ⟨_, W, load_blk Tryd.underlying28 (by kernel_rfl) (F.next hVW) rfl e5, rfl, Below.refl _ _⟩
    · obtain rfl := Option.some.inj hoo
      refine .inl ⟨wanted_none rfl, ?_⟩
      generalize hev : Act.eval _ = ev
      have ec : ∀ c, ev (.const c) = c := fun c => by rw [← hev]; rfl
      have e2 : ev (.tmp 2) = .int .u32 (isn.toNat : Int) := by rw [← hev]; exact eval_old (by kernel_rfl) 28 rfl (by decide) rfl
      clear hev hd
      exact .inl ⟨_, W, by go_simp, rfl, Below.refl _ _⟩
    · obtain rfl := Option.some.inj hoo
      refine .inl ⟨wanted_none rfl, ?_⟩
      generalize hev : Act.eval _ = ev
      have ec : ∀ c, ev (.const c) = c := fun c => by rw [← hev]; rfl
      have e3 : ev (.tmp 3) = .int .u32 (y : Int) := by rw [← hev]; exact eval_old (by kernel_rfl) 28 rfl (by decide) rfl
      clear hev hd
      exact .inl ⟨_, W, by go_simp, rfl, Below.refl _ _⟩
    · obtain rfl := Option.some.inj hoo
      have q6 : uu 6 = .agg #[.int .u64 (lo : Int), .int .u64 (hi : Int)] := hd 6 (by kernel_rfl)
      have q8 : uu 8 = .agg #[.int .u64 (lo2 : Int), .int .u64 (hi2 : Int)] := hd 8 (by kernel_rfl)
      have q10 : uu 10 = .int .i64 ep := hd 10 (by kernel_rfl)
      have q11 : uu 11 = .agg #[.int .u32 (s.toNat : Int), .int .u32 (d.toNat : Int), .int .u16 (p.toNat : Int), .int .u16 (q.toNat : Int), .int .u8 (r.toNat : Int)] := hd 11 (by kernel_rfl)
      have q12 : uu 12 = .int .u32 (isn.toNat : Int) := hd 12 (by kernel_rfl)
      have q13 : uu 13 = .int .u32 (y : Int) := hd 13 (by kernel_rfl)
      refine .inl ⟨wanted_none rfl, ?_⟩
      generalize hev : Act.eval _ = ev
      have ec : ∀ c, ev (.const c) = c := fun c => by rw [← hev]; rfl
      have ef : ∀ f, ev (.func f) = .func (.func f) #[] #[] := fun f => by rw [← hev]; rfl
      have e15 : ev (.tmp 15) = .agg #[.int .u64 (lo : Int), .int .u64 (hi : Int)] := by rw [← hev]; exact (eval_put (by kernel_rfl) 28 rfl (by decide)).trans q6
      have e17 : ev (.tmp 17) = .agg #[.int .u64 (lo2 : Int), .int .u64 (hi2 : Int)] := by rw [← hev]; exact (eval_put (by kernel_rfl) 28 rfl (by decide)).trans q8
      have e19 : ev (.tmp 19) = .int .i64 ep := by rw [← hev]; exact (eval_put (by kernel_rfl) 28 rfl (by decide)).trans q10
      have e20 : ev (.tmp 20) = .agg #[.int .u32 (s.toNat : Int), .int .u32 (d.toNat : Int), .int .u16 (p.toNat : Int), .int .u16 (q.toNat : Int), .int .u8 (r.toNat : Int)] := by rw [← hev]; exact (eval_put (by kernel_rfl) 28 rfl (by decide)).trans q11
      have e21 : ev (.tmp 21) = .int .u32 (isn.toNat : Int) := by rw [← hev]; exact (eval_put (by kernel_rfl) 28 rfl (by decide)).trans q12
      have e22 : ev (.tmp 22) = .int .u32 (y : Int) := by rw [← hev]; exact (eval_put (by kernel_rfl) 28 rfl (by decide)).trans q13
      clear hev hd q6 q8 q10 q11 q12 q13
      exact .inr ⟨_, _, _, by go_simp, (HR2 W).out, fun e w' he => ⟨_, he.1, rfl, he.2⟩⟩
    · obtain rfl := Option.some.inj hoo
      have q4 : uu 4 = .bool b := hd 4 (by kernel_rfl)
      have q14 : uu 14 = .bool b := hd 14 (by kernel_rfl)
      refine .inl ⟨wanted_none rfl, ?_⟩
      generalize hev : Act.eval _ = ev
      have ec : ∀ c, ev (.const c) = c := fun c => by rw [← hev]; rfl
      have e13 : ev (.tmp 13) = .bool b := by rw [← hev]; exact (eval_put (by kernel_rfl) 28 rfl (by decide)).trans q4
      have e23 : ev (.tmp 23) = .bool b := by rw [← hev]; exact (eval_put (by kernel_rfl) 28 rfl (by decide)).trans q14
      clear hev hd q4 q14
      exact .inl ⟨_, W, by go_simp, rfl, Below.refl _ _⟩
    · obtain rfl := Option.some.inj hoo
      have q15 : uu 15 = .bool true := hd 15 (by kernel_rfl)
      refine .inl ⟨wanted_none rfl, ?_⟩
      generalize hev : Act.eval _ = ev
      have ec : ∀ c, ev (.const c) = c := fun c => by rw [← hev]; rfl
      have e24 : ev (.tmp 24) = .bool true := by rw [← hev]; exact (eval_put (by kernel_rfl) 28 rfl (by decide)).trans q15
      clear hev hd q15
      exact .inl ⟨_, W, by go_simp, rfl, Below.refl _ _⟩
    · obtain rfl := Option.some.inj hoo
      have q16 : uu 16 = .bool true := hd 16 (by kernel_rfl)
      refine .inl ⟨wanted_yes rfl (yielded_put (k := 25) (by kernel_rfl) (by kernel_rfl) 28 rfl (by decide) q16), ?_⟩
      generalize hev : Act.eval _ = ev
      have ec : ∀ c, ev (.const c) = c := fun c => by rw [← hev]; rfl
      have ef : ∀ f, ev (.func f) = .func (.func f) #[] #[] := fun f => by rw [← hev]; rfl
      clear hev hd q16
      exact .inr ⟨_, _, _, by go_simp, lives27_any W (hS.next hVW), fun e w' he => ⟨_, he.1, rfl, he.2⟩⟩
    · obtain rfl := Option.some.inj hoo
      have q16 : uu 16 = .bool true := hd 16 (by kernel_rfl)
      have q17 : uu 17 = .bool true := hd 17 (by kernel_rfl)
      refine .inl ⟨wanted_none rfl, ?_⟩
      generalize hev : Act.eval _ = ev
      have ec : ∀ c, ev (.const c) = c := fun c => by rw [← hev]; rfl
      have e25 : ev (.tmp 25) = .bool true := by rw [← hev]; exact (eval_put (by kernel_rfl) 28 rfl (by decide)).trans q16
      have e26 : ev (.tmp 26) = .bool true := by rw [← hev]; exact (eval_put (by kernel_rfl) 28 rfl (by decide)).trans q17
      clear hev hd q16 q17
      exact .inl ⟨_, W, by go_simp, rfl, Below.refl _ _⟩
    · obtain rfl := Option.some.inj hoo
      have q18 : uu 18 = .bool true := hd 18 (by kernel_rfl)
      refine .inl ⟨wanted_none rfl, ?_⟩
      generalize hev : Act.eval _ = ev
      have ec : ∀ c, ev (.const c) = c := fun c => by rw [← hev]; rfl
      have e27 : ev (.tmp 27) = .bool true := by rw [← hev]; exact (eval_put (by kernel_rfl) 28 rfl (by decide)).trans q18
      clear hev hd q18
      exact .inl ⟨_, W, by go_simp, rfl, Below.refl _ _⟩
    · simp at hoo
  · intro uu W hVW hall
    replace hB := hB.trans (hVW.mono hB.size)
    have q19 : uu 19 = .bool true := hall 19 (by decide)
    simp only [putAll, Act.put, Nat.reduceAdd, q19]
    simp only [List.setIfInBounds_toArray, List.set_cons_succ, List.set_cons_zero]
    go_wp2_with fail
    go_ret
    exact ⟨rfl, hB⟩
set_option maxHeartbeats 1000000 in
theorem CookieLasts_lo (lo hi lo2 hi2 : Nat) (h1 : lo < 18446744073709551616) (h2 : hi < 18446744073709551616) (h3 : lo2 < 18446744073709551616) (h4 : hi2 < 18446744073709551616) (ep : Int) (h0 : ep < 0) (s d : UInt32) (p q : UInt16) (r : UInt8) (isn : UInt32) (i : Int) (x0 x1 : Nat) (w : World) (hS : SZ w) :
    Calls Tryd.prog 5 #[.agg #[.int .u64 (lo : Int), .int .u64 (hi : Int), .int .u64 (lo2 : Int), .int .u64 (hi2 : Int), .int .i64 ep], .agg #[.int .u32 (s.toNat : Int), .int .u32 (d.toNat : Int), .int .u16 (p.toNat : Int), .int .u16 (q.toNat : Int), .int .u8 (r.toNat : Int)], .int .u32 (isn.toNat : Int), .int .i64 i, .agg #[.int .u64 (x0 : Int), .int .u64 (x1 : Int)]] w fun e w' => e = .returned (.bool true) ∧ Below w.heap.size w w' := by
  have a1 : decide (ep < 0) = true := by simp [h0]
  clear h0
  obtain ⟨V, hV⟩ : ∃ V, V = ((w.alloc (.cells #[.int .u64 (lo : Int), .int .u64 (hi : Int), .int .u64 (lo2 : Int), .int .u64 (hi2 : Int), .int .i64 ep] 36)).alloc (.cells #[.int .u32 (s.toNat : Int), .int .u32 (d.toNat : Int), .int .u16 (p.toNat : Int), .int .u16 (q.toNat : Int), .int .u8 (r.toNat : Int)] 28)).alloc (.cells #[.int .u64 (x0 : Int), .int .u64 (x1 : Int)] 24) := ⟨_, rfl⟩
  have hB : Below w.heap.size w V := by subst hV; exact bnextA (bnextA (bnextA (Below.refl _ _) _) _) _
  have K : Blk V w.heap.size [.int .u64 (lo : Int), .int .u64 (hi : Int), .int .u64 (lo2 : Int), .int .u64 (hi2 : Int), .int .i64 ep] 36 := by subst hV; exact ((Blk.new _ _ _).alloc _).alloc _
  have F : Blk V (w.heap.size + 1) [.int .u32 (s.toNat : Int), .int .u32 (d.toNat : Int), .int .u16 (p.toNat : Int), .int .u16 (q.toNat : Int), .int .u8 (r.toNat : Int)] 28 := by subst hV; simpa using (Blk.new (w.alloc (.cells #[.int .u64 (lo : Int), .int .u64 (hi : Int), .int .u64 (lo2 : Int), .int .u64 (hi2 : Int), .int .i64 ep] 36)) #[.int .u32 (s.toNat : Int), .int .u32 (d.toNat : Int), .int .u16 (p.toNat : Int), .int .u16 (q.toNat : Int), .int .u8 (r.toNat : Int)] 28).alloc (.cells #[.int .u64 (x0 : Int), .int .u64 (x1 : Int)] 24)
  have X : Blk V (w.heap.size + 2) [.int .u64 (x0 : Int), .int .u64 (x1 : Int)] 24 := by subst hV; simpa using Blk.new ((w.alloc (.cells #[.int .u64 (lo : Int), .int .u64 (hi : Int), .int .u64 (lo2 : Int), .int .u64 (hi2 : Int), .int .i64 ep] 36)).alloc (.cells #[.int .u32 (s.toNat : Int), .int .u32 (d.toNat : Int), .int .u16 (p.toNat : Int), .int .u16 (q.toNat : Int), .int .u8 (r.toNat : Int)] 28)) #[.int .u64 (x0 : Int), .int .u64 (x1 : Int)] 24
  replace hS := hS.next hB
  obtain ⟨k0, k1, k2, k3, k4, -⟩ := K.get5
  obtain ⟨f0, f1, f2, f3, f4, -⟩ := F.get5
  obtain ⟨y0, y1, -⟩ := X.get2
  clear K F X
  go_enter Tryd.func5, Tryd.ntmps5
  go_wp2_with fail
  rw [← hV]
  clear hV
  refine (lives27_any _ hS).mono ?_
  rintro e w1 ⟨rfl, hb⟩
  replace hB := bnext hB hb
  go_wp2_with fail
  go_ret
  exact ⟨rfl, hB⟩
set_option maxHeartbeats 1000000 in
theorem CookieLasts_hi (lo hi lo2 hi2 : Nat) (h1 : lo < 18446744073709551616) (h2 : hi < 18446744073709551616) (h3 : lo2 < 18446744073709551616) (h4 : hi2 < 18446744073709551616) (ep : Int) (h0 : ¬ ep < 0) (h9 : 1073741823 < ep) (s d : UInt32) (p q : UInt16) (r : UInt8) (isn : UInt32) (i : Int) (x0 x1 : Nat) (w : World) (hS : SZ w) :
    Calls Tryd.prog 5 #[.agg #[.int .u64 (lo : Int), .int .u64 (hi : Int), .int .u64 (lo2 : Int), .int .u64 (hi2 : Int), .int .i64 ep], .agg #[.int .u32 (s.toNat : Int), .int .u32 (d.toNat : Int), .int .u16 (p.toNat : Int), .int .u16 (q.toNat : Int), .int .u8 (r.toNat : Int)], .int .u32 (isn.toNat : Int), .int .i64 i, .agg #[.int .u64 (x0 : Int), .int .u64 (x1 : Int)]] w fun e w' => e = .returned (.bool true) ∧ Below w.heap.size w w' := by
  have a1 : decide (ep < 0) = false := by simp [h0]
  have a2 : decide (1073741823 < ep) = true := by simp [h9]
  clear h0 h9
  obtain ⟨V, hV⟩ : ∃ V, V = ((w.alloc (.cells #[.int .u64 (lo : Int), .int .u64 (hi : Int), .int .u64 (lo2 : Int), .int .u64 (hi2 : Int), .int .i64 ep] 36)).alloc (.cells #[.int .u32 (s.toNat : Int), .int .u32 (d.toNat : Int), .int .u16 (p.toNat : Int), .int .u16 (q.toNat : Int), .int .u8 (r.toNat : Int)] 28)).alloc (.cells #[.int .u64 (x0 : Int), .int .u64 (x1 : Int)] 24) := ⟨_, rfl⟩
  have hB : Below w.heap.size w V := by subst hV; exact bnextA (bnextA (bnextA (Below.refl _ _) _) _) _
  have K : Blk V w.heap.size [.int .u64 (lo : Int), .int .u64 (hi : Int), .int .u64 (lo2 : Int), .int .u64 (hi2 : Int), .int .i64 ep] 36 := by subst hV; exact ((Blk.new _ _ _).alloc _).alloc _
  have F : Blk V (w.heap.size + 1) [.int .u32 (s.toNat : Int), .int .u32 (d.toNat : Int), .int .u16 (p.toNat : Int), .int .u16 (q.toNat : Int), .int .u8 (r.toNat : Int)] 28 := by subst hV; simpa using (Blk.new (w.alloc (.cells #[.int .u64 (lo : Int), .int .u64 (hi : Int), .int .u64 (lo2 : Int), .int .u64 (hi2 : Int), .int .i64 ep] 36)) #[.int .u32 (s.toNat : Int), .int .u32 (d.toNat : Int), .int .u16 (p.toNat : Int), .int .u16 (q.toNat : Int), .int .u8 (r.toNat : Int)] 28).alloc (.cells #[.int .u64 (x0 : Int), .int .u64 (x1 : Int)] 24)
  have X : Blk V (w.heap.size + 2) [.int .u64 (x0 : Int), .int .u64 (x1 : Int)] 24 := by subst hV; simpa using Blk.new ((w.alloc (.cells #[.int .u64 (lo : Int), .int .u64 (hi : Int), .int .u64 (lo2 : Int), .int .u64 (hi2 : Int), .int .i64 ep] 36)).alloc (.cells #[.int .u32 (s.toNat : Int), .int .u32 (d.toNat : Int), .int .u16 (p.toNat : Int), .int .u16 (q.toNat : Int), .int .u8 (r.toNat : Int)] 28)) #[.int .u64 (x0 : Int), .int .u64 (x1 : Int)] 24
  replace hS := hS.next hB
  obtain ⟨k0, k1, k2, k3, k4, -⟩ := K.get5
  obtain ⟨f0, f1, f2, f3, f4, -⟩ := F.get5
  obtain ⟨y0, y1, -⟩ := X.get2
  clear K F X
  go_enter Tryd.func5, Tryd.ntmps5
  go_wp2_with fail
  rw [← hV]
  clear hV
  refine (lives27_any _ hS).mono ?_
  rintro e w1 ⟨rfl, hb⟩
  replace hB := bnext hB hb
  go_wp2_with fail
  go_ret
  exact ⟨rfl, hB⟩
set_option maxHeartbeats 2000000 in
theorem CookieLasts_ok (lo hi lo2 hi2 : Nat) (h1 : lo < 18446744073709551616) (h2 : hi < 18446744073709551616) (h3 : lo2 < 18446744073709551616) (h4 : hi2 < 18446744073709551616) (ep : Int) (h0 : 0 ≤ ep) (h9 : ep ≤ 1073741823) (s d : UInt32) (p q : UInt16) (r : UInt8) (isn : UInt32) (i : Int) (x0 x1 : Nat) (hx0 : x0 < 18446744073709551616) (hx1 : x1 < 18446744073709551616) (w : World) (hS : SZ w) :
    Calls Tryd.prog 5 #[.agg #[.int .u64 (lo : Int), .int .u64 (hi : Int), .int .u64 (lo2 : Int), .int .u64 (hi2 : Int), .int .i64 ep], .agg #[.int .u32 (s.toNat : Int), .int .u32 (d.toNat : Int), .int .u16 (p.toNat : Int), .int .u16 (q.toNat : Int), .int .u8 (r.toNat : Int)], .int .u32 (isn.toNat : Int), .int .i64 i, .agg #[.int .u64 (x0 : Int), .int .u64 (x1 : Int)]] w fun e w' => e = .returned (.bool true) ∧ Below w.heap.size w w' := by
  have hi8 : ckR i 8 < 8 := Nat.mod_lt _ (by decide)
  obtain ⟨N, hN⟩ : ∃ N, ckN lo hi (ckB s d p q r isn) (ckR ep 32) (ckR i 8) = N := ⟨_, rfl⟩
  have hNl : N < 4294967296 := by rw [← hN]; exact ckN_lt _ _ _ _ _ (Nat.mod_lt _ (by decide)) hi8
  have H1 := fun W => Lib.hid (cissue_any lo hi lo2 hi2 ep h1 h2 s d p q r isn i N hN W)
  have H2 := fun W => Lib.hid (cfresh_any lo hi lo2 hi2 ep (x0 : Int) (x1 : Int) h0 h9 W)
  have H3 := fun W => Lib.hid (cright_any lo hi lo2 hi2 ep h1 h2 h3 h4 (by omega) s d p q r isn N hNl true (by rw [← hN]; exact right_now _ _ _ _ _ _ _ hi8) W)
  have H4 := fun W => Lib.hid (cright_any x0 x1 lo hi (ep + 1) hx0 hx1 h1 h2 (by omega) s d p q r isn N hNl true (by rw [← hN]; exact right_last _ _ _ _ _ _ _ hi8 h0) W)
  have H5 := fun W => Lib.hid (rmake_any lo hi h1 h2 s d p q r isn ep i N hN W)
  have a1 : decide (ep < 0) = false := by simp; omega
  have a2 : decide (1073741823 < ep) = false := by simp; omega
  have a3 : wrap64 (ep + 1) = ep + 1 := by unfold wrap64; omega
  obtain ⟨ep1, he1⟩ : ∃ x, ep + 1 = x := ⟨_, rfl⟩
  simp only [he1] at H2 H4 a3
  have HE1 := Lib.hid he1
  have A3 := Lib.hid a3
  clear hN hNl hi8 h0 h9 he1 a3
  obtain ⟨V, hV⟩ : ∃ V, V = ((w.alloc (.cells #[.int .u64 (lo : Int), .int .u64 (hi : Int), .int .u64 (lo2 : Int), .int .u64 (hi2 : Int), .int .i64 ep] 36)).alloc (.cells #[.int .u32 (s.toNat : Int), .int .u32 (d.toNat : Int), .int .u16 (p.toNat : Int), .int .u16 (q.toNat : Int), .int .u8 (r.toNat : Int)] 28)).alloc (.cells #[.int .u64 (x0 : Int), .int .u64 (x1 : Int)] 24) := ⟨_, rfl⟩
  have hB : Below w.heap.size w V := by subst hV; exact bnextA (bnextA (bnextA (Below.refl _ _) _) _) _
  have K : Blk V w.heap.size [.int .u64 (lo : Int), .int .u64 (hi : Int), .int .u64 (lo2 : Int), .int .u64 (hi2 : Int), .int .i64 ep] 36 := by subst hV; exact ((Blk.new _ _ _).alloc _).alloc _
  have F : Blk V (w.heap.size + 1) [.int .u32 (s.toNat : Int), .int .u32 (d.toNat : Int), .int .u16 (p.toNat : Int), .int .u16 (q.toNat : Int), .int .u8 (r.toNat : Int)] 28 := by subst hV; simpa using (Blk.new (w.alloc (.cells #[.int .u64 (lo : Int), .int .u64 (hi : Int), .int .u64 (lo2 : Int), .int .u64 (hi2 : Int), .int .i64 ep] 36)) #[.int .u32 (s.toNat : Int), .int .u32 (d.toNat : Int), .int .u16 (p.toNat : Int), .int .u16 (q.toNat : Int), .int .u8 (r.toNat : Int)] 28).alloc (.cells #[.int .u64 (x0 : Int), .int .u64 (x1 : Int)] 24)
  have X : Blk V (w.heap.size + 2) [.int .u64 (x0 : Int), .int .u64 (x1 : Int)] 24 := by subst hV; simpa using Blk.new ((w.alloc (.cells #[.int .u64 (lo : Int), .int .u64 (hi : Int), .int .u64 (lo2 : Int), .int .u64 (hi2 : Int), .int .i64 ep] 36)).alloc (.cells #[.int .u32 (s.toNat : Int), .int .u32 (d.toNat : Int), .int .u16 (p.toNat : Int), .int .u16 (q.toNat : Int), .int .u8 (r.toNat : Int)] 28)) #[.int .u64 (x0 : Int), .int .u64 (x1 : Int)] 24
  replace hS := hS.next hB
  obtain ⟨k0, k1, k2, k3, k4, -⟩ := K.get5
  obtain ⟨f0, f1, f2, f3, f4, -⟩ := F.get5
  obtain ⟨y0, y1, -⟩ := X.get2
  go_enter Tryd.func5, Tryd.ntmps5
  go_wp2_with fail
  rw [← hV]
  clear hV
  refine (H1 _).out.mono ?_
  rintro e w1 ⟨rfl, hb⟩
  replace hB := bnext hB hb
  replace K := K.next hb
  replace F := F.next hb
  replace X := X.next hb
  replace hS := hS.next hb
  clear hb k0 k1 k2 k3 k4 f0 f1 f2 f3 f4 y0 y1
  obtain ⟨k0, k1, k2, k3, k4, -⟩ := K.get5
  obtain ⟨f0, f1, f2, f3, f4, -⟩ := F.get5
  obtain ⟨y0, y1, -⟩ := X.get2
  go_wp2_with fail
  refine (H2 _).out.mono ?_
  rintro e w1 ⟨rfl, hb⟩
  replace hB := bnextA (bnext hB hb) (.cells #[.int .u64 (x0 : Int), .int .u64 (x1 : Int), .int .u64 (lo : Int), .int .u64 (hi : Int), .int .i64 ep1] 36)
  replace K := (K.next hb).alloc (.cells #[.int .u64 (x0 : Int), .int .u64 (x1 : Int), .int .u64 (lo : Int), .int .u64 (hi : Int), .int .i64 ep1] 36)
  replace F := (F.next hb).alloc (.cells #[.int .u64 (x0 : Int), .int .u64 (x1 : Int), .int .u64 (lo : Int), .int .u64 (hi : Int), .int .i64 ep1] 36)
  replace X := (X.next hb).alloc (.cells #[.int .u64 (x0 : Int), .int .u64 (x1 : Int), .int .u64 (lo : Int), .int .u64 (hi : Int), .int .i64 ep1] 36)
  replace hS := (hS.next hb).nextA (.cells #[.int .u64 (x0 : Int), .int .u64 (x1 : Int), .int .u64 (lo : Int), .int .u64 (hi : Int), .int .i64 ep1] 36)
  have T := Blk.new w1 #[.int .u64 (x0 : Int), .int .u64 (x1 : Int), .int .u64 (lo : Int), .int .u64 (hi : Int), .int .i64 ep1] 36
  clear hb k0 k1 k2 k3 k4 f0 f1 f2 f3 f4 y0 y1
  obtain ⟨k0, k1, k2, k3, k4, -⟩ := K.get5
  obtain ⟨f0, f1, f2, f3, f4, -⟩ := F.get5
  obtain ⟨y0, y1, -⟩ := X.get2
  obtain ⟨t0, t1, t2, t3, t4, -⟩ := T.get5
  go_wp2_with fail
  refine (H3 _).out.mono ?_
  rintro e w1 ⟨rfl, hb⟩
  replace hB := bnext hB hb
  replace K := K.next hb
  replace F := F.next hb
  replace X := X.next hb
  replace hS := hS.next hb
  replace T := T.next hb
  clear hb k0 k1 k2 k3 k4 f0 f1 f2 f3 f4 y0 y1 t0 t1 t2 t3 t4
  obtain ⟨k0, k1, k2, k3, k4, -⟩ := K.get5
  obtain ⟨f0, f1, f2, f3, f4, -⟩ := F.get5
  obtain ⟨y0, y1, -⟩ := X.get2
  obtain ⟨t0, t1, t2, t3, t4, -⟩ := T.get5
  go_wp2_with fail
  refine (H4 _).out.mono ?_
  rintro e w1 ⟨rfl, hb⟩
  replace hB := bnext hB hb
  replace K := K.next hb
  replace F := F.next hb
  replace X := X.next hb
  replace hS := hS.next hb
  replace T := T.next hb
  clear hb k0 k1 k2 k3 k4 f0 f1 f2 f3 f4 y0 y1 t0 t1 t2 t3 t4
  obtain ⟨k0, k1, k2, k3, k4, -⟩ := K.get5
  obtain ⟨f0, f1, f2, f3, f4, -⟩ := F.get5
  obtain ⟨y0, y1, -⟩ := X.get2
  obtain ⟨t0, t1, t2, t3, t4, -⟩ := T.get5
  have hh1 := HE1.out
  have hh2 := A3.out
  go_wp2_with fail
  refine (H5 _).out.mono ?_
  rintro e w1 ⟨rfl, hb⟩
  replace hB := bnext hB hb
  replace K := K.next hb
  replace F := F.next hb
  replace X := X.next hb
  replace hS := hS.next hb
  replace T := T.next hb
  clear hb k0 k1 k2 k3 k4 f0 f1 f2 f3 f4 y0 y1 t0 t1 t2 t3 t4
  obtain ⟨k0, k1, k2, k3, k4, -⟩ := K.get5
  obtain ⟨f0, f1, f2, f3, f4, -⟩ := F.get5
  obtain ⟨y0, y1, -⟩ := X.get2
  obtain ⟨t0, t1, t2, t3, t4, -⟩ := T.get5
  go_wp2_with fail
  refine (lives27_any _ hS).mono ?_
  rintro e w1 ⟨rfl, hb⟩
  replace hB := bnext hB hb
  go_wp2_with fail
  go_ret
  exact ⟨rfl, hB⟩
theorem size_both (i : Int) : ∃ x : Int, (∀ W, SZ W → Hid (Calls Tryd.prog 15 #[.int .i64 i] W fun e w' => e = .returned (.int .u16 x) ∧ Below W.heap.size W w')) ∧ (∀ W, Hid (Calls Tryd.prog 16 #[.int .i64 i] W fun e w' => e = .returned (.int .u16 x) ∧ Below W.heap.size W w')) := by
  by_cases h : i < 0 ∨ 8 ≤ i
  · exact ⟨0, fun W _ => bw (csize_no i h W), fun W => rsize_no i h W⟩
  · obtain ⟨k, rfl⟩ : ∃ k : Nat, i = (k : Int) := ⟨i.toNat, by omega⟩
    have hk : k < 8 := by omega
    exact ⟨szL[k]'(by simpa [szL] using hk), fun W hS => bw (csize_at k hk W hS), fun W => rsize_at k hk W⟩
set_option maxHeartbeats 2000000 in
theorem CookieMakes_w (lo hi : Nat) (h1 : lo < 18446744073709551616) (h2 : hi < 18446744073709551616) (s d : UInt32) (p q : UInt16) (r : UInt8) (isn : UInt32) (ep i n : Int) (w : World) (hS : SZ w) :
    Calls Tryd.prog 3 #[.agg #[.int .u64 (lo : Int), .int .u64 (hi : Int)], .agg #[.int .u32 (s.toNat : Int), .int .u32 (d.toNat : Int), .int .u16 (p.toNat : Int), .int .u16 (q.toNat : Int), .int .u8 (r.toNat : Int)], .int .u32 (isn.toNat : Int), .int .i64 ep, .int .i64 i, .int .u16 n] w fun e w' => e = .returned (.bool true) ∧ Below w.heap.size w w' := by
  have he8 : ckR ep 32 < 32 := Nat.mod_lt _ (by decide)
  have hi8 : ckR i 8 < 8 := Nat.mod_lt _ (by decide)
  obtain ⟨N, hN⟩ : ∃ N, ckN lo hi (ckB s d p q r isn) (ckR ep 32) (ckR i 8) = N := ⟨_, rfl⟩
  have hNl : N < 4294967296 := by rw [← hN]; exact ckN_lt _ _ _ _ _ he8 hi8
  have H1 := fun W => Lib.hid (cmake_any lo hi h1 h2 s d p q r isn ep i _ _ rfl rfl N hN W)
  have H2 := fun W => Lib.hid (rmake_any lo hi h1 h2 s d p q r isn ep i N hN W)
  have H3 := fun W => Lib.hid (bw (cepoch_any N hNl W))
  have H4 := fun W => Lib.hid (bw (cplace_any N hNl W))
  obtain ⟨E, hE⟩ : ∃ E, N / 134217728 = E := ⟨_, rfl⟩
  obtain ⟨I, hI⟩ : ∃ I, N / 16777216 % 8 = I := ⟨_, rfl⟩
  simp only [hE] at H3
  simp only [hI] at H4
  have z0 : (E : Int) % 4294967296 = (E : Int) := by omega
  have z1 : (N : Int) / 134217728 = (E : Int) := by omega
  have z2 : (N : Int) / 16777216 % 8 = (I : Int) := by omega
  have H5 := fun W hS => Lib.hid (bw (cindex_any n W hS))
  have H6 := fun W => Lib.hid (rindex_any n W)
  generalize idxN n 8 = M at H5 H6
  obtain ⟨x, H7, H8⟩ := size_both i
  obtain ⟨x2, -, H9⟩ := size_both (i.tmod 8)
  have H10 := fun W hS => Lib.hid (bw (cindex_any x2 W hS))
  generalize idxN x2 8 = M2 at H10
  have z3 : decide ((0 : Int) ≤ (M2 : Int)) = true := by simp
  clear hN hNl he8 hi8 hE hI
  obtain ⟨V, hV⟩ : ∃ V, V = (w.alloc (.cells #[.int .u64 (lo : Int), .int .u64 (hi : Int)] 24)).alloc (.cells #[.int .u32 (s.toNat : Int), .int .u32 (d.toNat : Int), .int .u16 (p.toNat : Int), .int .u16 (q.toNat : Int), .int .u8 (r.toNat : Int)] 28) := ⟨_, rfl⟩
  have hB : Below w.heap.size w V := by subst hV; exact bnextA (bnextA (Below.refl _ _) _) _
  have K : Blk V w.heap.size [.int .u64 (lo : Int), .int .u64 (hi : Int)] 24 := by subst hV; exact (Blk.new _ _ _).alloc _
  have F : Blk V (w.heap.size + 1) [.int .u32 (s.toNat : Int), .int .u32 (d.toNat : Int), .int .u16 (p.toNat : Int), .int .u16 (q.toNat : Int), .int .u8 (r.toNat : Int)] 28 := by subst hV; simpa using Blk.new (w.alloc (.cells #[.int .u64 (lo : Int), .int .u64 (hi : Int)] 24)) #[.int .u32 (s.toNat : Int), .int .u32 (d.toNat : Int), .int .u16 (p.toNat : Int), .int .u16 (q.toNat : Int), .int .u8 (r.toNat : Int)] 28
  replace hS := hS.next hB
  obtain ⟨k0, k1, -⟩ := K.get2
  obtain ⟨f0, f1, f2, f3, f4, -⟩ := F.get5
  go_enter Tryd.func3, Tryd.ntmps3
  go_wp2_with fail
  rw [← hV]
  clear hV
  refine (H1 _).out.mono ?_
  rintro e w1 ⟨rfl, hb⟩
  replace hB := bnext hB hb
  replace K := K.next hb
  replace F := F.next hb
  replace hS := hS.next hb
  clear hb k0 k1 f0 f1 f2 f3 f4
  obtain ⟨k0, k1, -⟩ := K.get2
  obtain ⟨f0, f1, f2, f3, f4, -⟩ := F.get5
  go_wp2_with fail
  refine (H2 _).out.mono ?_
  rintro e w1 ⟨rfl, hb⟩
  replace hB := bnext hB hb
  replace K := K.next hb
  replace F := F.next hb
  replace hS := hS.next hb
  clear hb k0 k1 f0 f1 f2 f3 f4
  obtain ⟨k0, k1, -⟩ := K.get2
  obtain ⟨f0, f1, f2, f3, f4, -⟩ := F.get5
  go_wp2_with fail
  refine (H3 _).out.mono ?_
  rintro e w1 ⟨rfl, hb⟩
  replace hB := bnext hB hb
  replace K := K.next hb
  replace F := F.next hb
  replace hS := hS.next hb
  clear hb k0 k1 f0 f1 f2 f3 f4
  obtain ⟨k0, k1, -⟩ := K.get2
  obtain ⟨f0, f1, f2, f3, f4, -⟩ := F.get5
  go_wp2_with fail
  refine (H4 _).out.mono ?_
  rintro e w1 ⟨rfl, hb⟩
  replace hB := bnext hB hb
  replace K := K.next hb
  replace F := F.next hb
  replace hS := hS.next hb
  clear hb k0 k1 f0 f1 f2 f3 f4
  obtain ⟨k0, k1, -⟩ := K.get2
  obtain ⟨f0, f1, f2, f3, f4, -⟩ := F.get5
  go_wp2_with fail
  refine (H5 _ hS).out.mono ?_
  rintro e w1 ⟨rfl, hb⟩
  replace hB := bnext hB hb
  replace K := K.next hb
  replace F := F.next hb
  replace hS := hS.next hb
  clear hb k0 k1 f0 f1 f2 f3 f4
  obtain ⟨k0, k1, -⟩ := K.get2
  obtain ⟨f0, f1, f2, f3, f4, -⟩ := F.get5
  go_wp2_with fail
  refine (H6 _).out.mono ?_
  rintro e w1 ⟨rfl, hb⟩
  replace hB := bnext hB hb
  replace K := K.next hb
  replace F := F.next hb
  replace hS := hS.next hb
  clear hb k0 k1 f0 f1 f2 f3 f4
  obtain ⟨k0, k1, -⟩ := K.get2
  obtain ⟨f0, f1, f2, f3, f4, -⟩ := F.get5
  go_wp2_with fail
  refine (H7 _ hS).out.mono ?_
  rintro e w1 ⟨rfl, hb⟩
  replace hB := bnext hB hb
  replace K := K.next hb
  replace F := F.next hb
  replace hS := hS.next hb
  clear hb k0 k1 f0 f1 f2 f3 f4
  obtain ⟨k0, k1, -⟩ := K.get2
  obtain ⟨f0, f1, f2, f3, f4, -⟩ := F.get5
  go_wp2_with fail
  refine (H8 _).out.mono ?_
  rintro e w1 ⟨rfl, hb⟩
  replace hB := bnext hB hb
  replace K := K.next hb
  replace F := F.next hb
  replace hS := hS.next hb
  clear hb k0 k1 f0 f1 f2 f3 f4
  obtain ⟨k0, k1, -⟩ := K.get2
  obtain ⟨f0, f1, f2, f3, f4, -⟩ := F.get5
  go_wp2_with fail
  refine (H9 _).out.mono ?_
  rintro e w1 ⟨rfl, hb⟩
  replace hB := bnext hB hb
  replace K := K.next hb
  replace F := F.next hb
  replace hS := hS.next hb
  clear hb k0 k1 f0 f1 f2 f3 f4
  obtain ⟨k0, k1, -⟩ := K.get2
  obtain ⟨f0, f1, f2, f3, f4, -⟩ := F.get5
  go_wp2_with fail
  refine (H10 _ hS).out.mono ?_
  rintro e w1 ⟨rfl, hb⟩
  replace hB := bnext hB hb
  replace K := K.next hb
  replace F := F.next hb
  replace hS := hS.next hb
  clear hb k0 k1 f0 f1 f2 f3 f4
  obtain ⟨k0, k1, -⟩ := K.get2
  obtain ⟨f0, f1, f2, f3, f4, -⟩ := F.get5
  go_wp2_with fail
  refine (lives27_any _ hS).mono ?_
  rintro e w1 ⟨rfl, hb⟩
  replace hB := bnext hB hb
  go_wp2_with fail
  go_ret
  exact ⟨rfl, hB⟩
theorem CookieMakes_walk (a0_0 : Int) (a0_1 : Int) (a1_0 : Int) (a1_1 : Int) (a1_2 : Int) (a1_3 : Int) (a1_4 : Int) (a2 : Int) (a3 : Int) (a4 : Int) (a5 : Int) (w : World) (w0_0 : (Lit.int .u64 a0_0).wf = true) (w0_1 : (Lit.int .u64 a0_1).wf = true) (w1_0 : (Lit.int .u32 a1_0).wf = true) (w1_1 : (Lit.int .u32 a1_1).wf = true) (w1_2 : (Lit.int .u16 a1_2).wf = true) (w1_3 : (Lit.int .u16 a1_3).wf = true) (w1_4 : (Lit.int .u8 a1_4).wf = true) (w2 : (Lit.int .u32 a2).wf = true) (w3 : (Lit.int .i64 a3).wf = true) (w4 : (Lit.int .i64 a4).wf = true) (w5 : (Lit.int .u16 a5).wf = true) (hS : SZ w) :
    Calls Tryd.prog 3 #[.agg #[.int .u64 a0_0, .int .u64 a0_1], .agg #[.int .u32 a1_0, .int .u32 a1_1, .int .u16 a1_2, .int .u16 a1_3, .int .u8 a1_4], .int .u32 a2, .int .i64 a3, .int .i64 a4, .int .u16 a5] w fun e w' => e = .returned (.bool true) ∧ Below w.heap.size w w' := by
  obtain ⟨lo, rfl, hlo⟩ := u64_nat w0_0
  obtain ⟨hi, rfl, hhi⟩ := u64_nat w0_1
  obtain ⟨s, rfl⟩ := u32_of w1_0
  obtain ⟨d, rfl⟩ := u32_of w1_1
  obtain ⟨p, rfl⟩ := u16_of w1_2
  obtain ⟨q, rfl⟩ := u16_of w1_3
  obtain ⟨r, rfl⟩ := u8_of w1_4
  obtain ⟨isn, rfl⟩ := u32_of w2
  exact CookieMakes_w lo hi hlo hhi s d p q r isn a3 a4 a5 w hS
theorem CookieRight_walk (a0_0_0 : Int) (a0_0_1 : Int) (a0_1_0 : Int) (a0_1_1 : Int) (a0_2 : Int) (a1_0 : Int) (a1_1 : Int) (a1_2 : Int) (a1_3 : Int) (a1_4 : Int) (a2 : Int) (a3 : Int) (w : World) (w0_0_0 : (Lit.int .u64 a0_0_0).wf = true) (w0_0_1 : (Lit.int .u64 a0_0_1).wf = true) (w0_1_0 : (Lit.int .u64 a0_1_0).wf = true) (w0_1_1 : (Lit.int .u64 a0_1_1).wf = true) (w0_2 : (Lit.int .i64 a0_2).wf = true) (w1_0 : (Lit.int .u32 a1_0).wf = true) (w1_1 : (Lit.int .u32 a1_1).wf = true) (w1_2 : (Lit.int .u16 a1_2).wf = true) (w1_3 : (Lit.int .u16 a1_3).wf = true) (w1_4 : (Lit.int .u8 a1_4).wf = true) (w2 : (Lit.int .u32 a2).wf = true) (w3 : (Lit.int .u32 a3).wf = true) (hS : SZ w) :
    Calls Tryd.prog 4 #[.agg #[.int .u64 a0_0_0, .int .u64 a0_0_1, .int .u64 a0_1_0, .int .u64 a0_1_1, .int .i64 a0_2], .agg #[.int .u32 a1_0, .int .u32 a1_1, .int .u16 a1_2, .int .u16 a1_3, .int .u8 a1_4], .int .u32 a2, .int .u32 a3] w fun e w' => e = .returned (.bool true) ∧ Below w.heap.size w w' := by
  obtain ⟨lo, rfl, hlo⟩ := u64_nat w0_0_0
  obtain ⟨hi, rfl, hhi⟩ := u64_nat w0_0_1
  obtain ⟨lo2, rfl, hlo2⟩ := u64_nat w0_1_0
  obtain ⟨hi2, rfl, hhi2⟩ := u64_nat w0_1_1
  obtain ⟨s, rfl⟩ := u32_of w1_0
  obtain ⟨d, rfl⟩ := u32_of w1_1
  obtain ⟨p, rfl⟩ := u16_of w1_2
  obtain ⟨q, rfl⟩ := u16_of w1_3
  obtain ⟨r, rfl⟩ := u8_of w1_4
  obtain ⟨isn, rfl⟩ := u32_of w2
  obtain ⟨y, rfl, hy⟩ := u32_nat w3
  have hm := (i64_of w0_2).2
  exact CookieRight_w lo hi lo2 hi2 hlo hhi hlo2 hhi2 a0_2 hm s d p q r isn y hy w hS
theorem CookieLasts_walk (a0_0_0 : Int) (a0_0_1 : Int) (a0_1_0 : Int) (a0_1_1 : Int) (a0_2 : Int) (a1_0 : Int) (a1_1 : Int) (a1_2 : Int) (a1_3 : Int) (a1_4 : Int) (a2 : Int) (a3 : Int) (a4_0 : Int) (a4_1 : Int) (w : World) (w0_0_0 : (Lit.int .u64 a0_0_0).wf = true) (w0_0_1 : (Lit.int .u64 a0_0_1).wf = true) (w0_1_0 : (Lit.int .u64 a0_1_0).wf = true) (w0_1_1 : (Lit.int .u64 a0_1_1).wf = true) (w0_2 : (Lit.int .i64 a0_2).wf = true) (w1_0 : (Lit.int .u32 a1_0).wf = true) (w1_1 : (Lit.int .u32 a1_1).wf = true) (w1_2 : (Lit.int .u16 a1_2).wf = true) (w1_3 : (Lit.int .u16 a1_3).wf = true) (w1_4 : (Lit.int .u8 a1_4).wf = true) (w2 : (Lit.int .u32 a2).wf = true) (w3 : (Lit.int .i64 a3).wf = true) (w4_0 : (Lit.int .u64 a4_0).wf = true) (w4_1 : (Lit.int .u64 a4_1).wf = true) (hS : SZ w) :
    Calls Tryd.prog 5 #[.agg #[.int .u64 a0_0_0, .int .u64 a0_0_1, .int .u64 a0_1_0, .int .u64 a0_1_1, .int .i64 a0_2], .agg #[.int .u32 a1_0, .int .u32 a1_1, .int .u16 a1_2, .int .u16 a1_3, .int .u8 a1_4], .int .u32 a2, .int .i64 a3, .agg #[.int .u64 a4_0, .int .u64 a4_1]] w fun e w' => e = .returned (.bool true) ∧ Below w.heap.size w w' := by
  obtain ⟨lo, rfl, hlo⟩ := u64_nat w0_0_0
  obtain ⟨hi, rfl, hhi⟩ := u64_nat w0_0_1
  obtain ⟨lo2, rfl, hlo2⟩ := u64_nat w0_1_0
  obtain ⟨hi2, rfl, hhi2⟩ := u64_nat w0_1_1
  obtain ⟨s, rfl⟩ := u32_of w1_0
  obtain ⟨d, rfl⟩ := u32_of w1_1
  obtain ⟨p, rfl⟩ := u16_of w1_2
  obtain ⟨q, rfl⟩ := u16_of w1_3
  obtain ⟨r, rfl⟩ := u8_of w1_4
  obtain ⟨isn, rfl⟩ := u32_of w2
  obtain ⟨x0, rfl, hx0⟩ := u64_nat w4_0
  obtain ⟨x1, rfl, hx1⟩ := u64_nat w4_1
  by_cases h0 : a0_2 < 0
  · exact CookieLasts_lo lo hi lo2 hi2 hlo hhi hlo2 hhi2 a0_2 h0 s d p q r isn a3 x0 x1 w hS
  · by_cases h9 : 1073741823 < a0_2
    · exact CookieLasts_hi lo hi lo2 hi2 hlo hhi hlo2 hhi2 a0_2 h0 h9 s d p q r isn a3 x0 x1 w hS
    · exact CookieLasts_ok lo hi lo2 hi2 hlo hhi hlo2 hhi2 a0_2 (by omega) (by omega) s d p q r isn a3 x0 x1 hx0 hx1 w hS
end Go.Proofs.YteodjajjlgekcaaDoor
