/- Contracts of key, Right (both sides), Fresh, Issue. -/
import Derived.Test.YteodjajjlgekcaaDoorCk2
import Derived.Test.YteodjajjlgekcaaDoorReg6
namespace Go.Proofs.YteodjajjlgekcaaDoor
open Go.RowKit

theorem rmake_any (lo hi : Nat) (h1 : lo < 18446744073709551616) (h2 : hi < 18446744073709551616) (s d : UInt32) (p q : UInt16) (r : UInt8) (isn : UInt32) (e i : Int) (N : Nat) (hN : Hid (ckN lo hi (ckB s d p q r isn) (ckR e 32) (ckR i 8) = N)) (w : World) :
    Calls Tryd.prog 10 #[.agg #[.int .u64 (lo : Int), .int .u64 (hi : Int)], .agg #[.int .u32 (s.toNat : Int), .int .u32 (d.toNat : Int), .int .u16 (p.toNat : Int), .int .u16 (q.toNat : Int), .int .u8 (r.toNat : Int)], .int .u32 (isn.toNat : Int), .int .i64 e, .int .i64 i] w fun e' w' => e' = .returned (.int .u32 (N : Int)) ∧ Below w.heap.size w w' := by
  have z : ∀ (x : Int) (m : Nat), x < 0 → ckR x m = 0 := fun x m h => by unfold ckR; rw [show x.toNat = 0 by omega]; simp
  have y : ∀ (x m : Nat), ckR (x : Int) m = x % m := fun x m => by unfold ckR; simp
  by_cases he : e < 0
  · rw [z e 32 he] at hN
    by_cases hi0 : i < 0
    · rw [z i 8 hi0] at hN
      exact rmake_nn lo hi h1 h2 s d p q r isn e he i hi0 N hN w
    · obtain ⟨j, rfl⟩ : ∃ j : Nat, i = (j : Int) := ⟨i.toNat, by omega⟩
      rw [y] at hN
      exact rmake_np lo hi h1 h2 s d p q r isn e he j N hN w
  · obtain ⟨n, rfl⟩ : ∃ n : Nat, e = (n : Int) := ⟨e.toNat, by omega⟩
    rw [y n] at hN
    by_cases hi0 : i < 0
    · rw [z i 8 hi0] at hN
      exact rmake_pn lo hi h1 h2 s d p q r isn n i hi0 N hN w
    · obtain ⟨j, rfl⟩ : ∃ j : Nat, i = (j : Int) := ⟨i.toNat, by omega⟩
      rw [y] at hN
      exact rmake_pp lo hi h1 h2 s d p q r isn n j N hN w
theorem ckey_now (lo hi lo2 hi2 : Nat) (ep : Int) (E : Nat) (hE : Hid (ckR ep 32 = E)) (w : World) :
    Calls Tryd.prog 46 #[.agg #[.int .u64 (lo : Int), .int .u64 (hi : Int), .int .u64 (lo2 : Int), .int .u64 (hi2 : Int), .int .i64 ep], .int .i64 (E : Int)] w fun e w' => e = .returned (.tuple #[.agg #[.int .u64 (lo : Int), .int .u64 (hi : Int)], .bool true]) ∧ Below w.heap.size w w' := by
  have K := (Blk.new w #[.int .u64 (lo : Int), .int .u64 (hi : Int), .int .u64 (lo2 : Int), .int .u64 (hi2 : Int), .int .i64 ep] 36).alloc (.cells #[.int .u64 0, .int .u64 0] 24)
  have hB := bnextA (bnextA (Below.refl w.heap.size w) (.cells #[.int .u64 (lo : Int), .int .u64 (hi : Int), .int .u64 (lo2 : Int), .int .u64 (hi2 : Int), .int .i64 ep] 36)) (.cells #[.int .u64 0, .int .u64 0] 24)
  have R1 := fun W => cround_any ep 32 (by decide) (by decide) 32 rfl W
  go_enter Tryd.func46, Tryd.ntmps46
  go_wp2_with fail
  obtain ⟨k0, k1, k2, k3, k4, -⟩ := K.get5
  simp only [hE.out] at R1
  clear hE
  refine (R1 _).mono ?_
  rintro e1 w1 ⟨rfl, rfl⟩
  clear R1
  go_wp2_with fail
  simp [bodyPost, results, Tryd.results46, go_sem, *]
  exact bnextA (bnextA (Below.refl w.heap.size w) _) _
theorem ckey_last (lo hi lo2 hi2 : Nat) (ep : Int) (E : Nat) (hE : E ≠ ckR ep 32) (h0 : 0 < ep) (hm : ep ≤ 9223372036854775807) (hE2 : E = ckR (ep - 1) 32) (w : World) :
    Calls Tryd.prog 46 #[.agg #[.int .u64 (lo : Int), .int .u64 (hi : Int), .int .u64 (lo2 : Int), .int .u64 (hi2 : Int), .int .i64 ep], .int .i64 (E : Int)] w fun e w' => e = .returned (.tuple #[.agg #[.int .u64 (lo2 : Int), .int .u64 (hi2 : Int)], .bool true]) ∧ Below w.heap.size w w' := by
  obtain ⟨F, hF⟩ : ∃ F, ckR ep 32 = F := ⟨_, rfl⟩
  have a1 : ((E : Int) == (F : Int)) = false := by rw [hF] at hE; simp; omega
  have HF := Lib.hid hF
  clear hF hE
  have a2 : decide (0 < ep) = true := by simp [h0]
  have a3 : IntKind.i64.wrap (ep - 1) = ep - 1 := by rw [IntKind.wrap_i64]; omega
  have R2 := fun W => cround_any (ep - 1) 32 (by decide) (by decide) 32 rfl W
  obtain ⟨ep1, hep1⟩ : ∃ x, ep - 1 = x := ⟨_, rfl⟩
  rw [hep1] at a3 R2 hE2
  have HP := Lib.hid (show wrap64 (ep - 1) = ep1 by unfold wrap64; omega)
  clear h0 hm hep1 a3
  have HE2 := Lib.hid hE2.symm
  clear hE2
  have K := (Blk.new w #[.int .u64 (lo : Int), .int .u64 (hi : Int), .int .u64 (lo2 : Int), .int .u64 (hi2 : Int), .int .i64 ep] 36).alloc (.cells #[.int .u64 0, .int .u64 0] 24)
  have hB := bnextA (bnextA (Below.refl w.heap.size w) (.cells #[.int .u64 (lo : Int), .int .u64 (hi : Int), .int .u64 (lo2 : Int), .int .u64 (hi2 : Int), .int .i64 ep] 36)) (.cells #[.int .u64 0, .int .u64 0] 24)
  have R1 := fun W => cround_any ep 32 (by decide) (by decide) 32 rfl W
  go_enter Tryd.func46, Tryd.ntmps46
  go_wp2_with fail
  obtain ⟨k0, k1, k2, k3, k4, -⟩ := K.get5
  simp only [HF.out] at R1
  clear HF
  refine (R1 _).mono ?_
  rintro e1 w1 ⟨rfl, rfl⟩
  clear R1
  simp only [HE2.out] at R2
  go_wp2_with (fail)
  rw [HP.out]
  refine (R2 _).mono ?_
  rintro e1 w1 ⟨rfl, rfl⟩
  clear R2
  go_wp2_with fail
  simp [bodyPost, results, Tryd.results46, go_sem, *]
  exact bnextA (bnextA (Below.refl w.heap.size w) _) _
theorem ckey_none1 (lo hi lo2 hi2 : Nat) (ep : Int) (E : Nat) (hE : E ≠ ckR ep 32) (h0 : ¬ 0 < ep) (w : World) :
    Calls Tryd.prog 46 #[.agg #[.int .u64 (lo : Int), .int .u64 (hi : Int), .int .u64 (lo2 : Int), .int .u64 (hi2 : Int), .int .i64 ep], .int .i64 (E : Int)] w fun e w' => e = .returned (.tuple #[.agg #[.int .u64 0, .int .u64 0], .bool false]) ∧ Below w.heap.size w w' := by
  obtain ⟨F, hF⟩ : ∃ F, ckR ep 32 = F := ⟨_, rfl⟩
  have a1 : ((E : Int) == (F : Int)) = false := by rw [hF] at hE; simp; omega
  have HF := Lib.hid hF
  clear hF hE
  have a2 : decide (0 < ep) = false := by simp [h0]
  clear h0
  have K := (Blk.new w #[.int .u64 (lo : Int), .int .u64 (hi : Int), .int .u64 (lo2 : Int), .int .u64 (hi2 : Int), .int .i64 ep] 36).alloc (.cells #[.int .u64 0, .int .u64 0] 24)
  have hB := bnextA (bnextA (Below.refl w.heap.size w) (.cells #[.int .u64 (lo : Int), .int .u64 (hi : Int), .int .u64 (lo2 : Int), .int .u64 (hi2 : Int), .int .i64 ep] 36)) (.cells #[.int .u64 0, .int .u64 0] 24)
  have R1 := fun W => cround_any ep 32 (by decide) (by decide) 32 rfl W
  go_enter Tryd.func46, Tryd.ntmps46
  go_wp2_with fail
  obtain ⟨k0, k1, k2, k3, k4, -⟩ := K.get5
  simp only [HF.out] at R1
  clear HF
  refine (R1 _).mono ?_
  rintro e1 w1 ⟨rfl, rfl⟩
  clear R1
  go_wp2_with fail
  simp [bodyPost, results, Tryd.results46, go_sem, *]
theorem ckey_none2 (lo hi lo2 hi2 : Nat) (ep : Int) (E : Nat) (hE : E ≠ ckR ep 32) (h0 : 0 < ep) (hm : ep ≤ 9223372036854775807) (hE2 : E ≠ ckR (ep - 1) 32) (w : World) :
    Calls Tryd.prog 46 #[.agg #[.int .u64 (lo : Int), .int .u64 (hi : Int), .int .u64 (lo2 : Int), .int .u64 (hi2 : Int), .int .i64 ep], .int .i64 (E : Int)] w fun e w' => e = .returned (.tuple #[.agg #[.int .u64 0, .int .u64 0], .bool false]) ∧ Below w.heap.size w w' := by
  obtain ⟨F, hF⟩ : ∃ F, ckR ep 32 = F := ⟨_, rfl⟩
  have a1 : ((E : Int) == (F : Int)) = false := by rw [hF] at hE; simp; omega
  have HF := Lib.hid hF
  clear hF hE
  have a2 : decide (0 < ep) = true := by simp [h0]
  have a3 : IntKind.i64.wrap (ep - 1) = ep - 1 := by rw [IntKind.wrap_i64]; omega
  have R2 := fun W => cround_any (ep - 1) 32 (by decide) (by decide) 32 rfl W
  obtain ⟨ep1, hep1⟩ : ∃ x, ep - 1 = x := ⟨_, rfl⟩
  rw [hep1] at a3 R2 hE2
  have HP := Lib.hid (show wrap64 (ep - 1) = ep1 by unfold wrap64; omega)
  clear h0 hm hep1 a3
  obtain ⟨F2, hF2⟩ : ∃ F, ckR ep1 32 = F := ⟨_, rfl⟩
  have a4 : ((E : Int) == (F2 : Int)) = false := by rw [hF2] at hE2; simp; omega
  have HF2 := Lib.hid hF2
  clear hF2 hE2
  have K := (Blk.new w #[.int .u64 (lo : Int), .int .u64 (hi : Int), .int .u64 (lo2 : Int), .int .u64 (hi2 : Int), .int .i64 ep] 36).alloc (.cells #[.int .u64 0, .int .u64 0] 24)
  have hB := bnextA (bnextA (Below.refl w.heap.size w) (.cells #[.int .u64 (lo : Int), .int .u64 (hi : Int), .int .u64 (lo2 : Int), .int .u64 (hi2 : Int), .int .i64 ep] 36)) (.cells #[.int .u64 0, .int .u64 0] 24)
  have R1 := fun W => cround_any ep 32 (by decide) (by decide) 32 rfl W
  go_enter Tryd.func46, Tryd.ntmps46
  go_wp2_with fail
  obtain ⟨k0, k1, k2, k3, k4, -⟩ := K.get5
  simp only [HF.out] at R1
  clear HF
  refine (R1 _).mono ?_
  rintro e1 w1 ⟨rfl, rfl⟩
  clear R1
  simp only [HF2.out] at R2
  go_wp2_with (fail)
  rw [HP.out]
  refine (R2 _).mono ?_
  rintro e1 w1 ⟨rfl, rfl⟩
  clear R2
  go_wp2_with fail
  simp [bodyPost, results, Tryd.results46, go_sem, *]
set_option maxHeartbeats 1000000 in
theorem cright_key (lo hi lo2 hi2 : Nat) (ep : Int) (s d : UInt32) (p q : UInt16) (r : UInt8) (isn : UInt32) (y E I : Nat) (hE : Hid (y / 134217728 = E)) (_hI : Hid (y / 16777216 % 8 = I)) (hv : y < 4294967296) (x0 x1 : Nat) (HKY : ∀ W, Hid (Calls Tryd.prog 46 #[.agg #[.int .u64 (lo : Int), .int .u64 (hi : Int), .int .u64 (lo2 : Int), .int .u64 (hi2 : Int), .int .i64 ep], .int .i64 (E : Int)] W fun e w' => e = .returned (.tuple #[.agg #[.int .u64 (x0 : Int), .int .u64 (x1 : Int)], .bool true]) ∧ Below W.heap.size W w')) (h1 : x0 < 18446744073709551616) (h2 : x1 < 18446744073709551616) (N : Nat) (hN : Hid (ckN x0 x1 (ckB s d p q r isn) E I = N)) (b : Bool) (hb : Hid (((y : Int) == (N : Int)) = b)) (w : World) :
    Calls Tryd.prog 18 #[.agg #[.int .u64 (lo : Int), .int .u64 (hi : Int), .int .u64 (lo2 : Int), .int .u64 (hi2 : Int), .int .i64 ep], .agg #[.int .u32 (s.toNat : Int), .int .u32 (d.toNat : Int), .int .u16 (p.toNat : Int), .int .u16 (q.toNat : Int), .int .u8 (r.toNat : Int)], .int .u32 (isn.toNat : Int), .int .u32 (y : Int)] w fun e w' => e = .returned (.bool b) ∧ Below w.heap.size w w' := by
  have HEP : ∀ W, Hid (Calls Tryd.prog 11 #[.int .u32 (y : Int)] W fun e w' => e = .returned (.int .i64 (E : Int)) ∧ Below W.heap.size W w') := fun W => Lib.hid ((cepoch_any y hv W).mono fun e w' h => ⟨by rw [h.1, hE.out], by rw [← h.2]; exact Below.refl _ _⟩)
  have HPL : ∀ W, Hid (Calls Tryd.prog 12 #[.int .u32 (y : Int)] W fun e w' => e = .returned (.int .i64 (I : Int)) ∧ Below W.heap.size W w') := fun W => Lib.hid ((cplace_any y hv W).mono fun e w' h => ⟨by rw [h.1, _hI.out], by rw [← h.2]; exact Below.refl _ _⟩)
  have hcE : ckR (E : Int) 32 = E := by unfold ckR; rw [← hE.out]; simp <;> omega
  have hcI : ckR (I : Int) 8 = I := by unfold ckR; rw [← _hI.out]; simp <;> omega
  have HMK := fun W => Lib.hid (cmake_any x0 x1 h1 h2 s d p q r isn (E : Int) (I : Int) E I hcE hcI N hN W)
  clear hcE hcI
  clear hE _hI hv
  obtain ⟨V, hV⟩ : ∃ V, V = (w.alloc (.cells #[.int .u64 (lo : Int), .int .u64 (hi : Int), .int .u64 (lo2 : Int), .int .u64 (hi2 : Int), .int .i64 ep] 36)).alloc (.cells #[.int .u32 (s.toNat : Int), .int .u32 (d.toNat : Int), .int .u16 (p.toNat : Int), .int .u16 (q.toNat : Int), .int .u8 (r.toNat : Int)] 28) := ⟨_, rfl⟩
  have hB : Below w.heap.size w V := by subst hV; exact bnextA (bnextA (Below.refl _ _) _) _
  have K : Blk V w.heap.size [.int .u64 (lo : Int), .int .u64 (hi : Int), .int .u64 (lo2 : Int), .int .u64 (hi2 : Int), .int .i64 ep] 36 := by subst hV; exact (Blk.new _ _ _).alloc _
  have F : Blk V (w.heap.size + 1) [.int .u32 (s.toNat : Int), .int .u32 (d.toNat : Int), .int .u16 (p.toNat : Int), .int .u16 (q.toNat : Int), .int .u8 (r.toNat : Int)] 28 := by subst hV; simpa using Blk.new (w.alloc (.cells #[.int .u64 (lo : Int), .int .u64 (hi : Int), .int .u64 (lo2 : Int), .int .u64 (hi2 : Int), .int .i64 ep] 36)) #[.int .u32 (s.toNat : Int), .int .u32 (d.toNat : Int), .int .u16 (p.toNat : Int), .int .u16 (q.toNat : Int), .int .u8 (r.toNat : Int)] 28
  go_enter Tryd.func18, Tryd.ntmps18
  go_wp2_with fail
  rw [← hV]
  clear hV
  refine region_put_tail (by kernel_rfl) (by kernel_rfl) (by kernel_rfl) 31 rfl (by kernel_rfl) V (fun i v W => match i with
      | 0 => v = .agg #[.int .u64 (lo : Int), .int .u64 (hi : Int), .int .u64 (lo2 : Int), .int .u64 (hi2 : Int), .int .i64 ep]
      | 1 => v = .int .u32 (y : Int)
      | 2 => v = .int .i64 (E : Int)
      | 3 => v = .tuple #[.agg #[.int .u64 (x0 : Int), .int .u64 (x1 : Int)], .bool true]
      | 4 => v = .tuple #[.agg #[.int .u64 (x0 : Int), .int .u64 (x1 : Int)], .bool true]
      | 5 => v = .agg #[.int .u64 (x0 : Int), .int .u64 (x1 : Int)]
      | 6 => v = .bool true
      | 7 => ∃ g, v = .pointer (some ⟨g, 0, none⟩) ∧ V.heap.size ≤ g ∧ Blk W g [.int .u64 0, .int .u64 0] 24
      | _ => True) (Below.refl _ _) 8 2 (by decide) rfl (fun i => i == 6) (fun i h => by simp; omega) (by kernel_rfl) (fun q uu W => match q with
      | 0 => ∃ g, uu 7 = .pointer (some ⟨g, 0, none⟩) ∧ uu 5 = .agg #[.int .u64 (x0 : Int), .int .u64 (x1 : Int)] ∧ V.heap.size ≤ g ∧ Blk W g [.int .u64 0, .int .u64 0] 24 ∧ Below V.heap.size V W
      | 1 => ∃ g, uu 7 = .pointer (some ⟨g, 0, none⟩) ∧ V.heap.size ≤ g ∧ Blk W g [.int .u64 (x0 : Int), .int .u64 (x1 : Int)] 24 ∧ Below V.heap.size V W
      | 2 => ∃ g, uu 9 = .bool true ∧ uu 7 = .pointer (some ⟨g, 0, none⟩) ∧ V.heap.size ≤ g ∧ Blk W g [.int .u64 (x0 : Int), .int .u64 (x1 : Int)] 24 ∧ Below V.heap.size V W
      | _ => True) ?_ ?_ ?_ ?_ ?_ ?_ ?_ ?_
  · intro i v W W' h hb
    match i, h with
    | 0, h => exact h
    | 1, h => exact h
    | 2, h => exact h
    | 3, h => exact h
    | 4, h => exact h
    | 5, h => exact h
    | 6, h => exact h
    | 7, h => obtain ⟨g, h1, h2, h3⟩ := h; exact ⟨g, h1, h2, h3.next hb⟩
    | _ + 8, _ => trivial
  · intro i oo uu W him hoo hVW hd hold
    rcases i with _|_|_|_|_|_|_|_|i
    · obtain rfl := Option.some.inj hoo
      refine .inl ⟨wanted_none rfl, ?_⟩
      generalize hev : Act.eval _ = ev
      have ec : ∀ c, ev (.const c) = c := fun c => by rw [← hev]; rfl
      have e4 : ev (.tmp 4) = .pointer (some ⟨w.heap.size, 0, none⟩) := by rw [← hev]; exact eval_old (by kernel_rfl) 31 rfl (by decide) rfl
      clear hev hd hold
      exact .inl ⟨_, W, load_blk Tryd.underlying36 (by kernel_rfl) (K.next hVW) rfl e4, rfl, Below.refl _ _⟩
    · obtain rfl := Option.some.inj hoo
      refine .inl ⟨wanted_none rfl, ?_⟩
      generalize hev : Act.eval _ = ev
      have ec : ∀ c, ev (.const c) = c := fun c => by rw [← hev]; rfl
      have e3 : ev (.tmp 3) = .int .u32 (y : Int) := by rw [← hev]; exact eval_old (by kernel_rfl) 31 rfl (by decide) rfl
      clear hev hd hold
      exact .inl ⟨_, W, by go_simp, rfl, Below.refl _ _⟩
    · obtain rfl := Option.some.inj hoo
      have q1 : uu 1 = .int .u32 (y : Int) := hd 1 (by kernel_rfl)
      refine .inl ⟨wanted_none rfl, ?_⟩
      generalize hev : Act.eval _ = ev
      have ec : ∀ c, ev (.const c) = c := fun c => by rw [← hev]; rfl
      have ef : ∀ f, ev (.func f) = .func (.func f) #[] #[] := fun f => by rw [← hev]; rfl
      have e13 : ev (.tmp 13) = .int .u32 (y : Int) := by rw [← hev]; exact (eval_put (by kernel_rfl) 31 rfl (by decide)).trans q1
      clear hev hd hold q1
      exact .inr ⟨_, _, _, by go_simp, (HEP W).out, fun e w' he => ⟨_, he.1, rfl, he.2⟩⟩
    · obtain rfl := Option.some.inj hoo
      have q0 : uu 0 = .agg #[.int .u64 (lo : Int), .int .u64 (hi : Int), .int .u64 (lo2 : Int), .int .u64 (hi2 : Int), .int .i64 ep] := hd 0 (by kernel_rfl)
      have q2 : uu 2 = .int .i64 (E : Int) := hd 2 (by kernel_rfl)
      refine .inl ⟨wanted_none rfl, ?_⟩
      generalize hev : Act.eval _ = ev
      have ec : ∀ c, ev (.const c) = c := fun c => by rw [← hev]; rfl
      have ef : ∀ f, ev (.func f) = .func (.func f) #[] #[] := fun f => by rw [← hev]; rfl
      have e12 : ev (.tmp 12) = .agg #[.int .u64 (lo : Int), .int .u64 (hi : Int), .int .u64 (lo2 : Int), .int .u64 (hi2 : Int), .int .i64 ep] := by rw [← hev]; exact (eval_put (by kernel_rfl) 31 rfl (by decide)).trans q0
      have e14 : ev (.tmp 14) = .int .i64 (E : Int) := by rw [← hev]; exact (eval_put (by kernel_rfl) 31 rfl (by decide)).trans q2
      clear hev hd hold q0 q2
      exact .inr ⟨_, _, _, by go_simp, (HKY W).out, fun e w' he => ⟨_, he.1, rfl, he.2⟩⟩
    · obtain rfl := Option.some.inj hoo
      have q3 : uu 3 = .tuple #[.agg #[.int .u64 (x0 : Int), .int .u64 (x1 : Int)], .bool true] := hd 3 (by kernel_rfl)
      refine .inl ⟨wanted_none rfl, ?_⟩
      generalize hev : Act.eval _ = ev
      have ec : ∀ c, ev (.const c) = c := fun c => by rw [← hev]; rfl
      have e15 : ev (.tmp 15) = .tuple #[.agg #[.int .u64 (x0 : Int), .int .u64 (x1 : Int)], .bool true] := by rw [← hev]; exact (eval_put (by kernel_rfl) 31 rfl (by decide)).trans q3
      clear hev hd hold q3
      exact .inl ⟨_, W, by go_simp, rfl, Below.refl _ _⟩
    · obtain rfl := Option.some.inj hoo
      have q4 : uu 4 = .tuple #[.agg #[.int .u64 (x0 : Int), .int .u64 (x1 : Int)], .bool true] := hd 4 (by kernel_rfl)
      refine .inl ⟨wanted_none rfl, ?_⟩
      generalize hev : Act.eval _ = ev
      have ec : ∀ c, ev (.const c) = c := fun c => by rw [← hev]; rfl
      have e11 : ev (.tmp 11) = .tuple #[.agg #[.int .u64 (x0 : Int), .int .u64 (x1 : Int)], .bool true] := by rw [← hev]; exact (eval_put (by kernel_rfl) 31 rfl (by decide)).trans q4
      clear hev hd hold q4
      exact .inl ⟨_, W, by go_simp, rfl, Below.refl _ _⟩
    · obtain rfl := Option.some.inj hoo
      have q4 : uu 4 = .tuple #[.agg #[.int .u64 (x0 : Int), .int .u64 (x1 : Int)], .bool true] := hd 4 (by kernel_rfl)
      refine .inl ⟨wanted_none rfl, ?_⟩
      generalize hev : Act.eval _ = ev
      have ec : ∀ c, ev (.const c) = c := fun c => by rw [← hev]; rfl
      have e11 : ev (.tmp 11) = .tuple #[.agg #[.int .u64 (x0 : Int), .int .u64 (x1 : Int)], .bool true] := by rw [← hev]; exact (eval_put (by kernel_rfl) 31 rfl (by decide)).trans q4
      clear hev hd hold q4
      exact .inl ⟨_, W, by go_simp, rfl, Below.refl _ _⟩
    · obtain rfl := Option.some.inj hoo
      refine .inl ⟨wanted_none rfl, ?_⟩
      generalize hev : Act.eval _ = ev
      have ec : ∀ c, ev (.const c) = c := fun c => by rw [← hev]; rfl
      clear hev hd hold
      exact .inl ⟨_, W.alloc (.cells #[.int .u64 0, .int .u64 0] 24), by go_simp, ⟨W.heap.size, rfl, hVW.size, Blk.new W #[.int .u64 0, .int .u64 0] 24⟩, bnextA (Below.refl _ _) _⟩
    · omega
  · intro i v W W' hi h
    simp only [beq_iff_eq] at hi
    rcases hi with rfl
    all_goals exact h
  · intro i oo uu W hi hoo hd
    simp only [beq_iff_eq] at hi
    rcases hi with rfl
    · obtain rfl := Option.some.inj hoo
      obtain ⟨_, q4⟩ := hd 4 (by kernel_rfl)
      refine ⟨wanted_none rfl, ?_⟩
      generalize hev : Act.eval _ = ev
      have e11 : ev (.tmp 11) = .tuple #[.agg #[.int .u64 (x0 : Int), .int .u64 (x1 : Int)], .bool true] := by rw [← hev]; exact (eval_put (by kernel_rfl) 31 rfl (by decide)).trans q4
      clear hev
      exact ⟨_, by go_simp, rfl⟩
  · intro k i uu v W hi h
    simp only [beq_iff_eq] at hi
    rcases hi with rfl
    all_goals (rcases k with _|_|_|k <;> exact h)
  · intro uu W hVW hall0
    have h5 : uu 5 = .agg #[.int .u64 (x0 : Int), .int .u64 (x1 : Int)] := hall0 5 (by decide) rfl
    have h7 : ∃ g, uu 7 = .pointer (some ⟨g, 0, none⟩) ∧ V.heap.size ≤ g ∧ Blk W g [.int .u64 0, .int .u64 0] 24 := hall0 7 (by decide) rfl
    obtain ⟨g7, q7, hle7, hbk7⟩ := h7
    exact ⟨g7, q7, h5, hle7, hbk7, hVW⟩
  · intro q oo uu W hq hoo hS hdl
    rcases q with _|_|q
    · obtain rfl := Option.some.inj hoo
      have hS : ∃ g, uu 7 = .pointer (some ⟨g, 0, none⟩) ∧ uu 5 = .agg #[.int .u64 (x0 : Int), .int .u64 (x1 : Int)] ∧ V.heap.size ≤ g ∧ Blk W g [.int .u64 0, .int .u64 0] 24 ∧ Below V.heap.size V W := hS
      obtain ⟨g7, q7, q5, hle7, hbk7, hBW⟩ := hS
      refine ⟨wanted_none rfl, ?_⟩
      generalize hev : Act.eval _ = ev
      have ec : ∀ c, ev (.const c) = c := fun c => by rw [← hev]; rfl
      have e9 : ev (.tmp 9) = .pointer (some ⟨g7, 0, none⟩) := by rw [← hev]; exact (eval_put (by kernel_rfl) 31 rfl (by decide)).trans q7
      have e16 : ev (.tmp 16) = .agg #[.int .u64 (x0 : Int), .int .u64 (x1 : Int)] := by rw [← hev]; exact (eval_put (by kernel_rfl) 31 rfl (by decide)).trans q5
      clear hev hdl
      obtain ⟨m0, m1, k0, k1⟩ := hbk7.get2
      refine .inl ⟨_, by (go_simp <;> rfl), rfl, ?_⟩
      exact ⟨g7, q7, hle7, (hbk7.set 0 _).set 1 _, (hBW.setCell (p := ⟨g7, 0, none⟩) hle7 _).setCell (p := ⟨g7, 1, none⟩) hle7 _⟩
    · obtain rfl := Option.some.inj hoo
      have hS : ∃ g, uu 7 = .pointer (some ⟨g, 0, none⟩) ∧ V.heap.size ≤ g ∧ Blk W g [.int .u64 (x0 : Int), .int .u64 (x1 : Int)] 24 ∧ Below V.heap.size V W := hS
      obtain ⟨g7, q7, hle7, hbk7, hBW⟩ := hS
      refine ⟨wanted_none rfl, ?_⟩
      generalize hev : Act.eval _ = ev
      have ec : ∀ c, ev (.const c) = c := fun c => by rw [← hev]; rfl
      have q6 : uu 6 = .bool true := hdl 6 (by kernel_rfl) (by decide)
      have e17 : ev (.tmp 17) = .bool true := by rw [← hev]; exact (eval_put (by kernel_rfl) 31 rfl (by decide)).trans q6
      clear hev hdl
      refine .inr ⟨_, _, by (go_simp; exact ⟨rfl, rfl⟩), ?_⟩
      exact ⟨g7, rfl, q7, hle7, hbk7, hBW⟩
    · omega
  · intro uu W hS hlast
    have hS : ∃ g, uu 9 = .bool true ∧ uu 7 = .pointer (some ⟨g, 0, none⟩) ∧ V.heap.size ≤ g ∧ Blk W g [.int .u64 (x0 : Int), .int .u64 (x1 : Int)] 24 ∧ Below V.heap.size V W := hS
    obtain ⟨g7, q9, q7, hle7, hbk7, hBW⟩ := hS
    replace hB := hB.trans (hBW.mono hB.size)
    replace F := F.next hBW
    clear HKY K hBW
    simp only [putAll, Act.put, Nat.reduceAdd, q7, q9]
    simp only [List.setIfInBounds_toArray, List.set_cons_succ, List.set_cons_zero]
    clear q7 q9
    generalize W = V3 at *
    go_wp2_with fail
    refine region_put (by kernel_rfl) (by kernel_rfl) (by kernel_rfl) 31 rfl (by kernel_rfl) V3 (fun i v W => match i with
        | 0 => v = .bool true
        | 1 => v = .bool true
        | 2 => v = .int .u32 (y : Int)
        | 3 => v = .agg #[.int .u64 (x0 : Int), .int .u64 (x1 : Int)]
        | 4 => v = .agg #[.int .u32 (s.toNat : Int), .int .u32 (d.toNat : Int), .int .u16 (p.toNat : Int), .int .u16 (q.toNat : Int), .int .u8 (r.toNat : Int)]
        | 5 => v = .int .u32 (isn.toNat : Int)
        | 6 => v = .int .u32 (y : Int)
        | 7 => v = .int .i64 (E : Int)
        | 8 => v = .int .u32 (y : Int)
        | 9 => v = .int .i64 (I : Int)
        | 10 => v = .int .u32 (N : Int)
        | 11 => v = .bool b
        | 12 => v = .bool b
        | 13 => v = .bool b
        | _ => True) (Below.refl _ _) ?_ ?_ ?_
    · intro i v W W' h hb
      match i, h with
      | 0, h => exact h
      | 1, h => exact h
      | 2, h => exact h
      | 3, h => exact h
      | 4, h => exact h
      | 5, h => exact h
      | 6, h => exact h
      | 7, h => exact h
      | 8, h => exact h
      | 9, h => exact h
      | 10, h => exact h
      | 11, h => exact h
      | 12, h => exact h
      | 13, h => exact h
      | _ + 14, _ => trivial
    · intro i o uu W hoo hVW hd
      rcases i with _|_|_|_|_|_|_|_|_|_|_|_|_|_|i
      · obtain rfl := Option.some.inj hoo
        refine .inl ⟨wanted_none rfl, ?_⟩
        generalize hev : Act.eval _ = ev
        have ec : ∀ c, ev (.const c) = c := fun c => by rw [← hev]; rfl
        have e10 : ev (.tmp 10) = .bool true := by rw [← hev]; exact eval_old (by kernel_rfl) 31 rfl (by decide) rfl
        clear hev hd
        exact .inl ⟨_, W, by go_simp, rfl, Below.refl _ _⟩
      · obtain rfl := Option.some.inj hoo
        have q0 : uu 0 = .bool true := hd 0 (by kernel_rfl)
        refine .inl ⟨wanted_none rfl, ?_⟩
        generalize hev : Act.eval _ = ev
        have ec : ∀ c, ev (.const c) = c := fun c => by rw [← hev]; rfl
        have e18 : ev (.tmp 18) = .bool true := by rw [← hev]; exact (eval_put (by kernel_rfl) 31 rfl (by decide)).trans q0
        clear hev hd q0
        exact .inl ⟨_, W, by go_simp, rfl, Below.refl _ _⟩
      · obtain rfl := Option.some.inj hoo
        have q1 : uu 1 = .bool true := hd 1 (by kernel_rfl)
        refine .inl ⟨wanted_yes rfl (yielded_put (k := 19) (by kernel_rfl) (by kernel_rfl) 31 rfl (by decide) q1), ?_⟩
        generalize hev : Act.eval _ = ev
        have ec : ∀ c, ev (.const c) = c := fun c => by rw [← hev]; rfl
        have e3 : ev (.tmp 3) = .int .u32 (y : Int) := by rw [← hev]; exact eval_old (by kernel_rfl) 31 rfl (by decide) rfl
        clear hev hd q1
        exact .inl ⟨_, W, by go_simp, rfl, Below.refl _ _⟩
      · obtain rfl := Option.some.inj hoo
        have q1 : uu 1 = .bool true := hd 1 (by kernel_rfl)
        refine .inl ⟨wanted_yes rfl (yielded_put (k := 19) (by kernel_rfl) (by kernel_rfl) 31 rfl (by decide) q1), ?_⟩
        generalize hev : Act.eval _ = ev
        have ec : ∀ c, ev (.const c) = c := fun c => by rw [← hev]; rfl
        have e9 : ev (.tmp 9) = .pointer (some ⟨g7, 0, none⟩) := by rw [← hev]; exact eval_old (by kernel_rfl) 31 rfl (by decide) rfl
        clear hev hd q1
        exact .inl ⟨_, W, load_blk Tryd.underlying24 (by kernel_rfl) (hbk7.next hVW) rfl e9, rfl, Below.refl _ _⟩
      · obtain rfl := Option.some.inj hoo
        have q1 : uu 1 = .bool true := hd 1 (by kernel_rfl)
        refine .inl ⟨wanted_yes rfl (yielded_put (k := 19) (by kernel_rfl) (by kernel_rfl) 31 rfl (by decide) q1), ?_⟩
        generalize hev : Act.eval _ = ev
        have ec : ∀ c, ev (.const c) = c := fun c => by rw [← hev]; rfl
        have e5 : ev (.tmp 5) = .pointer (some ⟨w.heap.size + 1, 0, none⟩) := by rw [← hev]; exact eval_old (by kernel_rfl) 31 rfl (by decide) rfl
        clear hev hd q1
        exact .inl ⟨_, W, load_blk Tryd.underlying28 (by kernel_rfl) (F.next hVW) rfl e5, rfl, Below.refl _ _⟩
      · obtain rfl := Option.some.inj hoo
        have q1 : uu 1 = .bool true := hd 1 (by kernel_rfl)
        refine .inl ⟨wanted_yes rfl (yielded_put (k := 19) (by kernel_rfl) (by kernel_rfl) 31 rfl (by decide) q1), ?_⟩
        generalize hev : Act.eval _ = ev
        have ec : ∀ c, ev (.const c) = c := fun c => by rw [← hev]; rfl
        have e2 : ev (.tmp 2) = .int .u32 (isn.toNat : Int) := by rw [← hev]; exact eval_old (by kernel_rfl) 31 rfl (by decide) rfl
        clear hev hd q1
        exact .inl ⟨_, W, by go_simp, rfl, Below.refl _ _⟩
      · obtain rfl := Option.some.inj hoo
        have q1 : uu 1 = .bool true := hd 1 (by kernel_rfl)
        refine .inl ⟨wanted_yes rfl (yielded_put (k := 19) (by kernel_rfl) (by kernel_rfl) 31 rfl (by decide) q1), ?_⟩
        generalize hev : Act.eval _ = ev
        have ec : ∀ c, ev (.const c) = c := fun c => by rw [← hev]; rfl
        have e3 : ev (.tmp 3) = .int .u32 (y : Int) := by rw [← hev]; exact eval_old (by kernel_rfl) 31 rfl (by decide) rfl
        clear hev hd q1
        exact .inl ⟨_, W, by go_simp, rfl, Below.refl _ _⟩
      · obtain rfl := Option.some.inj hoo
        have q6 : uu 6 = .int .u32 (y : Int) := hd 6 (by kernel_rfl)
        have q1 : uu 1 = .bool true := hd 1 (by kernel_rfl)
        refine .inl ⟨wanted_yes rfl (yielded_put (k := 19) (by kernel_rfl) (by kernel_rfl) 31 rfl (by decide) q1), ?_⟩
        generalize hev : Act.eval _ = ev
        have ec : ∀ c, ev (.const c) = c := fun c => by rw [← hev]; rfl
        have ef : ∀ f, ev (.func f) = .func (.func f) #[] #[] := fun f => by rw [← hev]; rfl
        have e24 : ev (.tmp 24) = .int .u32 (y : Int) := by rw [← hev]; exact (eval_put (by kernel_rfl) 31 rfl (by decide)).trans q6
        clear hev hd q6 q1
        exact .inr ⟨_, _, _, by go_simp, (HEP W).out, fun e w' he => ⟨_, he.1, rfl, he.2⟩⟩
      · obtain rfl := Option.some.inj hoo
        have q1 : uu 1 = .bool true := hd 1 (by kernel_rfl)
        refine .inl ⟨wanted_yes rfl (yielded_put (k := 19) (by kernel_rfl) (by kernel_rfl) 31 rfl (by decide) q1), ?_⟩
        generalize hev : Act.eval _ = ev
        have ec : ∀ c, ev (.const c) = c := fun c => by rw [← hev]; rfl
        have e3 : ev (.tmp 3) = .int .u32 (y : Int) := by rw [← hev]; exact eval_old (by kernel_rfl) 31 rfl (by decide) rfl
        clear hev hd q1
        exact .inl ⟨_, W, by go_simp, rfl, Below.refl _ _⟩
      · obtain rfl := Option.some.inj hoo
        have q8 : uu 8 = .int .u32 (y : Int) := hd 8 (by kernel_rfl)
        have q1 : uu 1 = .bool true := hd 1 (by kernel_rfl)
        refine .inl ⟨wanted_yes rfl (yielded_put (k := 19) (by kernel_rfl) (by kernel_rfl) 31 rfl (by decide) q1), ?_⟩
        generalize hev : Act.eval _ = ev
        have ec : ∀ c, ev (.const c) = c := fun c => by rw [← hev]; rfl
        have ef : ∀ f, ev (.func f) = .func (.func f) #[] #[] := fun f => by rw [← hev]; rfl
        have e26 : ev (.tmp 26) = .int .u32 (y : Int) := by rw [← hev]; exact (eval_put (by kernel_rfl) 31 rfl (by decide)).trans q8
        clear hev hd q8 q1
        exact .inr ⟨_, _, _, by go_simp, (HPL W).out, fun e w' he => ⟨_, he.1, rfl, he.2⟩⟩
      · obtain rfl := Option.some.inj hoo
        have q3 : uu 3 = .agg #[.int .u64 (x0 : Int), .int .u64 (x1 : Int)] := hd 3 (by kernel_rfl)
        have q4 : uu 4 = .agg #[.int .u32 (s.toNat : Int), .int .u32 (d.toNat : Int), .int .u16 (p.toNat : Int), .int .u16 (q.toNat : Int), .int .u8 (r.toNat : Int)] := hd 4 (by kernel_rfl)
        have q5 : uu 5 = .int .u32 (isn.toNat : Int) := hd 5 (by kernel_rfl)
        have q7 : uu 7 = .int .i64 (E : Int) := hd 7 (by kernel_rfl)
        have q9 : uu 9 = .int .i64 (I : Int) := hd 9 (by kernel_rfl)
        have q1 : uu 1 = .bool true := hd 1 (by kernel_rfl)
        refine .inl ⟨wanted_yes rfl (yielded_put (k := 19) (by kernel_rfl) (by kernel_rfl) 31 rfl (by decide) q1), ?_⟩
        generalize hev : Act.eval _ = ev
        have ec : ∀ c, ev (.const c) = c := fun c => by rw [← hev]; rfl
        have ef : ∀ f, ev (.func f) = .func (.func f) #[] #[] := fun f => by rw [← hev]; rfl
        have e21 : ev (.tmp 21) = .agg #[.int .u64 (x0 : Int), .int .u64 (x1 : Int)] := by rw [← hev]; exact (eval_put (by kernel_rfl) 31 rfl (by decide)).trans q3
        have e22 : ev (.tmp 22) = .agg #[.int .u32 (s.toNat : Int), .int .u32 (d.toNat : Int), .int .u16 (p.toNat : Int), .int .u16 (q.toNat : Int), .int .u8 (r.toNat : Int)] := by rw [← hev]; exact (eval_put (by kernel_rfl) 31 rfl (by decide)).trans q4
        have e23 : ev (.tmp 23) = .int .u32 (isn.toNat : Int) := by rw [← hev]; exact (eval_put (by kernel_rfl) 31 rfl (by decide)).trans q5
        have e25 : ev (.tmp 25) = .int .i64 (E : Int) := by rw [← hev]; exact (eval_put (by kernel_rfl) 31 rfl (by decide)).trans q7
        have e27 : ev (.tmp 27) = .int .i64 (I : Int) := by rw [← hev]; exact (eval_put (by kernel_rfl) 31 rfl (by decide)).trans q9
        clear hev hd q3 q4 q5 q7 q9 q1
        exact .inr ⟨_, _, _, by go_simp, (HMK W).out, fun e w' he => ⟨_, he.1, rfl, he.2⟩⟩
      · obtain rfl := Option.some.inj hoo
        have q2 : uu 2 = .int .u32 (y : Int) := hd 2 (by kernel_rfl)
        have q10 : uu 10 = .int .u32 (N : Int) := hd 10 (by kernel_rfl)
        have q1 : uu 1 = .bool true := hd 1 (by kernel_rfl)
        refine .inl ⟨wanted_yes rfl (yielded_put (k := 19) (by kernel_rfl) (by kernel_rfl) 31 rfl (by decide) q1), ?_⟩
        generalize hev : Act.eval _ = ev
        have ec : ∀ c, ev (.const c) = c := fun c => by rw [← hev]; rfl
        have e20 : ev (.tmp 20) = .int .u32 (y : Int) := by rw [← hev]; exact (eval_put (by kernel_rfl) 31 rfl (by decide)).trans q2
        have e28 : ev (.tmp 28) = .int .u32 (N : Int) := by rw [← hev]; exact (eval_put (by kernel_rfl) 31 rfl (by decide)).trans q10
        clear hev hd q2 q10 q1
        have hh := hb.out
        exact .inl ⟨_, W, by go_simp, rfl, Below.refl _ _⟩
      · obtain rfl := Option.some.inj hoo
        have q1 : uu 1 = .bool true := hd 1 (by kernel_rfl)
        have q11 : uu 11 = .bool b := hd 11 (by kernel_rfl)
        refine .inl ⟨wanted_none rfl, ?_⟩
        generalize hev : Act.eval _ = ev
        have ec : ∀ c, ev (.const c) = c := fun c => by rw [← hev]; rfl
        have e19 : ev (.tmp 19) = .bool true := by rw [← hev]; exact (eval_put (by kernel_rfl) 31 rfl (by decide)).trans q1
        have e29 : ev (.tmp 29) = .bool b := by rw [← hev]; exact (eval_put (by kernel_rfl) 31 rfl (by decide)).trans q11
        clear hev hd q1 q11
        exact .inl ⟨_, W, by go_simp, rfl, Below.refl _ _⟩
      · obtain rfl := Option.some.inj hoo
        have q12 : uu 12 = .bool b := hd 12 (by kernel_rfl)
        refine .inl ⟨wanted_none rfl, ?_⟩
        generalize hev : Act.eval _ = ev
        have ec : ∀ c, ev (.const c) = c := fun c => by rw [← hev]; rfl
        have e30 : ev (.tmp 30) = .bool b := by rw [← hev]; exact (eval_put (by kernel_rfl) 31 rfl (by decide)).trans q12
        clear hev hd q12
        exact .inl ⟨_, W, by go_simp, rfl, Below.refl _ _⟩
      · simp at hoo
    · intro uu W hVW hall
      replace hB := hB.trans (hVW.mono hB.size)
      have q13 : uu 13 = .bool b := hall 13 (by decide)
      simp only [putAll, Act.put, Nat.reduceAdd, q13]
      simp only [List.setIfInBounds_toArray, List.set_cons_succ, List.set_cons_zero]
      go_wp2_with fail
      go_ret
      exact ⟨rfl, hB⟩
set_option maxHeartbeats 1000000 in
theorem cright_none (lo hi lo2 hi2 : Nat) (ep : Int) (s d : UInt32) (p q : UInt16) (r : UInt8) (isn : UInt32) (y E I : Nat) (hE : Hid (y / 134217728 = E)) (_hI : Hid (y / 16777216 % 8 = I)) (hv : y < 4294967296) (HKY : ∀ W, Hid (Calls Tryd.prog 46 #[.agg #[.int .u64 (lo : Int), .int .u64 (hi : Int), .int .u64 (lo2 : Int), .int .u64 (hi2 : Int), .int .i64 ep], .int .i64 (E : Int)] W fun e w' => e = .returned (.tuple #[.agg #[.int .u64 0, .int .u64 0], .bool false]) ∧ Below W.heap.size W w')) (w : World) :
    Calls Tryd.prog 18 #[.agg #[.int .u64 (lo : Int), .int .u64 (hi : Int), .int .u64 (lo2 : Int), .int .u64 (hi2 : Int), .int .i64 ep], .agg #[.int .u32 (s.toNat : Int), .int .u32 (d.toNat : Int), .int .u16 (p.toNat : Int), .int .u16 (q.toNat : Int), .int .u8 (r.toNat : Int)], .int .u32 (isn.toNat : Int), .int .u32 (y : Int)] w fun e w' => e = .returned (.bool false) ∧ Below w.heap.size w w' := by
  have HEP : ∀ W, Hid (Calls Tryd.prog 11 #[.int .u32 (y : Int)] W fun e w' => e = .returned (.int .i64 (E : Int)) ∧ Below W.heap.size W w') := fun W => Lib.hid ((cepoch_any y hv W).mono fun e w' h => ⟨by rw [h.1, hE.out], by rw [← h.2]; exact Below.refl _ _⟩)
  clear hE _hI hv
  obtain ⟨V, hV⟩ : ∃ V, V = (w.alloc (.cells #[.int .u64 (lo : Int), .int .u64 (hi : Int), .int .u64 (lo2 : Int), .int .u64 (hi2 : Int), .int .i64 ep] 36)).alloc (.cells #[.int .u32 (s.toNat : Int), .int .u32 (d.toNat : Int), .int .u16 (p.toNat : Int), .int .u16 (q.toNat : Int), .int .u8 (r.toNat : Int)] 28) := ⟨_, rfl⟩
  have hB : Below w.heap.size w V := by subst hV; exact bnextA (bnextA (Below.refl _ _) _) _
  have K : Blk V w.heap.size [.int .u64 (lo : Int), .int .u64 (hi : Int), .int .u64 (lo2 : Int), .int .u64 (hi2 : Int), .int .i64 ep] 36 := by subst hV; exact (Blk.new _ _ _).alloc _
  have F : Blk V (w.heap.size + 1) [.int .u32 (s.toNat : Int), .int .u32 (d.toNat : Int), .int .u16 (p.toNat : Int), .int .u16 (q.toNat : Int), .int .u8 (r.toNat : Int)] 28 := by subst hV; simpa using Blk.new (w.alloc (.cells #[.int .u64 (lo : Int), .int .u64 (hi : Int), .int .u64 (lo2 : Int), .int .u64 (hi2 : Int), .int .i64 ep] 36)) #[.int .u32 (s.toNat : Int), .int .u32 (d.toNat : Int), .int .u16 (p.toNat : Int), .int .u16 (q.toNat : Int), .int .u8 (r.toNat : Int)] 28
  go_enter Tryd.func18, Tryd.ntmps18
  go_wp2_with fail
  rw [← hV]
  clear hV
  refine region_put_tail (by kernel_rfl) (by kernel_rfl) (by kernel_rfl) 31 rfl (by kernel_rfl) V (fun i v W => match i with
      | 0 => v = .agg #[.int .u64 (lo : Int), .int .u64 (hi : Int), .int .u64 (lo2 : Int), .int .u64 (hi2 : Int), .int .i64 ep]
      | 1 => v = .int .u32 (y : Int)
      | 2 => v = .int .i64 (E : Int)
      | 3 => v = .tuple #[.agg #[.int .u64 0, .int .u64 0], .bool false]
      | 4 => v = .tuple #[.agg #[.int .u64 0, .int .u64 0], .bool false]
      | 5 => v = .agg #[.int .u64 0, .int .u64 0]
      | 6 => v = .bool false
      | 7 => ∃ g, v = .pointer (some ⟨g, 0, none⟩) ∧ V.heap.size ≤ g ∧ Blk W g [.int .u64 0, .int .u64 0] 24
      | _ => True) (Below.refl _ _) 8 2 (by decide) rfl (fun i => i == 6) (fun i h => by simp; omega) (by kernel_rfl) (fun q uu W => match q with
      | 0 => ∃ g, uu 7 = .pointer (some ⟨g, 0, none⟩) ∧ uu 5 = .agg #[.int .u64 0, .int .u64 0] ∧ V.heap.size ≤ g ∧ Blk W g [.int .u64 0, .int .u64 0] 24 ∧ Below V.heap.size V W
      | 1 => ∃ g, uu 7 = .pointer (some ⟨g, 0, none⟩) ∧ V.heap.size ≤ g ∧ Blk W g [.int .u64 0, .int .u64 0] 24 ∧ Below V.heap.size V W
      | 2 => ∃ g, uu 9 = .bool false ∧ uu 7 = .pointer (some ⟨g, 0, none⟩) ∧ V.heap.size ≤ g ∧ Blk W g [.int .u64 0, .int .u64 0] 24 ∧ Below V.heap.size V W
      | _ => True) ?_ ?_ ?_ ?_ ?_ ?_ ?_ ?_
  · intro i v W W' h hb
    match i, h with
    | 0, h => exact h
    | 1, h => exact h
    | 2, h => exact h
    | 3, h => exact h
    | 4, h => exact h
    | 5, h => exact h
    | 6, h => exact h
    | 7, h => obtain ⟨g, h1, h2, h3⟩ := h; exact ⟨g, h1, h2, h3.next hb⟩
    | _ + 8, _ => trivial
  · intro i oo uu W him hoo hVW hd hold
    rcases i with _|_|_|_|_|_|_|_|i
    · obtain rfl := Option.some.inj hoo
      refine .inl ⟨wanted_none rfl, ?_⟩
      generalize hev : Act.eval _ = ev
      have ec : ∀ c, ev (.const c) = c := fun c => by rw [← hev]; rfl
      have e4 : ev (.tmp 4) = .pointer (some ⟨w.heap.size, 0, none⟩) := by rw [← hev]; exact eval_old (by kernel_rfl) 31 rfl (by decide) rfl
      clear hev hd hold
      exact .inl ⟨_, W, load_blk Tryd.underlying36 (by kernel_rfl) (K.next hVW) rfl e4, rfl, Below.refl _ _⟩
    · obtain rfl := Option.some.inj hoo
      refine .inl ⟨wanted_none rfl, ?_⟩
      generalize hev : Act.eval _ = ev
      have ec : ∀ c, ev (.const c) = c := fun c => by rw [← hev]; rfl
      have e3 : ev (.tmp 3) = .int .u32 (y : Int) := by rw [← hev]; exact eval_old (by kernel_rfl) 31 rfl (by decide) rfl
      clear hev hd hold
      exact .inl ⟨_, W, by go_simp, rfl, Below.refl _ _⟩
    · obtain rfl := Option.some.inj hoo
      have q1 : uu 1 = .int .u32 (y : Int) := hd 1 (by kernel_rfl)
      refine .inl ⟨wanted_none rfl, ?_⟩
      generalize hev : Act.eval _ = ev
      have ec : ∀ c, ev (.const c) = c := fun c => by rw [← hev]; rfl
      have ef : ∀ f, ev (.func f) = .func (.func f) #[] #[] := fun f => by rw [← hev]; rfl
      have e13 : ev (.tmp 13) = .int .u32 (y : Int) := by rw [← hev]; exact (eval_put (by kernel_rfl) 31 rfl (by decide)).trans q1
      clear hev hd hold q1
      exact .inr ⟨_, _, _, by go_simp, (HEP W).out, fun e w' he => ⟨_, he.1, rfl, he.2⟩⟩
    · obtain rfl := Option.some.inj hoo
      have q0 : uu 0 = .agg #[.int .u64 (lo : Int), .int .u64 (hi : Int), .int .u64 (lo2 : Int), .int .u64 (hi2 : Int), .int .i64 ep] := hd 0 (by kernel_rfl)
      have q2 : uu 2 = .int .i64 (E : Int) := hd 2 (by kernel_rfl)
      refine .inl ⟨wanted_none rfl, ?_⟩
      generalize hev : Act.eval _ = ev
      have ec : ∀ c, ev (.const c) = c := fun c => by rw [← hev]; rfl
      have ef : ∀ f, ev (.func f) = .func (.func f) #[] #[] := fun f => by rw [← hev]; rfl
      have e12 : ev (.tmp 12) = .agg #[.int .u64 (lo : Int), .int .u64 (hi : Int), .int .u64 (lo2 : Int), .int .u64 (hi2 : Int), .int .i64 ep] := by rw [← hev]; exact (eval_put (by kernel_rfl) 31 rfl (by decide)).trans q0
      have e14 : ev (.tmp 14) = .int .i64 (E : Int) := by rw [← hev]; exact (eval_put (by kernel_rfl) 31 rfl (by decide)).trans q2
      clear hev hd hold q0 q2
      exact .inr ⟨_, _, _, by go_simp, (HKY W).out, fun e w' he => ⟨_, he.1, rfl, he.2⟩⟩
    · obtain rfl := Option.some.inj hoo
      have q3 : uu 3 = .tuple #[.agg #[.int .u64 0, .int .u64 0], .bool false] := hd 3 (by kernel_rfl)
      refine .inl ⟨wanted_none rfl, ?_⟩
      generalize hev : Act.eval _ = ev
      have ec : ∀ c, ev (.const c) = c := fun c => by rw [← hev]; rfl
      have e15 : ev (.tmp 15) = .tuple #[.agg #[.int .u64 0, .int .u64 0], .bool false] := by rw [← hev]; exact (eval_put (by kernel_rfl) 31 rfl (by decide)).trans q3
      clear hev hd hold q3
      exact .inl ⟨_, W, by go_simp, rfl, Below.refl _ _⟩
    · obtain rfl := Option.some.inj hoo
      have q4 : uu 4 = .tuple #[.agg #[.int .u64 0, .int .u64 0], .bool false] := hd 4 (by kernel_rfl)
      refine .inl ⟨wanted_none rfl, ?_⟩
      generalize hev : Act.eval _ = ev
      have ec : ∀ c, ev (.const c) = c := fun c => by rw [← hev]; rfl
      have e11 : ev (.tmp 11) = .tuple #[.agg #[.int .u64 0, .int .u64 0], .bool false] := by rw [← hev]; exact (eval_put (by kernel_rfl) 31 rfl (by decide)).trans q4
      clear hev hd hold q4
      exact .inl ⟨_, W, by go_simp, rfl, Below.refl _ _⟩
    · obtain rfl := Option.some.inj hoo
      have q4 : uu 4 = .tuple #[.agg #[.int .u64 0, .int .u64 0], .bool false] := hd 4 (by kernel_rfl)
      refine .inl ⟨wanted_none rfl, ?_⟩
      generalize hev : Act.eval _ = ev
      have ec : ∀ c, ev (.const c) = c := fun c => by rw [← hev]; rfl
      have e11 : ev (.tmp 11) = .tuple #[.agg #[.int .u64 0, .int .u64 0], .bool false] := by rw [← hev]; exact (eval_put (by kernel_rfl) 31 rfl (by decide)).trans q4
      clear hev hd hold q4
      exact .inl ⟨_, W, by go_simp, rfl, Below.refl _ _⟩
    · obtain rfl := Option.some.inj hoo
      refine .inl ⟨wanted_none rfl, ?_⟩
      generalize hev : Act.eval _ = ev
      have ec : ∀ c, ev (.const c) = c := fun c => by rw [← hev]; rfl
      clear hev hd hold
      exact .inl ⟨_, W.alloc (.cells #[.int .u64 0, .int .u64 0] 24), by go_simp, ⟨W.heap.size, rfl, hVW.size, Blk.new W #[.int .u64 0, .int .u64 0] 24⟩, bnextA (Below.refl _ _) _⟩
    · omega
  · intro i v W W' hi h
    simp only [beq_iff_eq] at hi
    rcases hi with rfl
    all_goals exact h
  · intro i oo uu W hi hoo hd
    simp only [beq_iff_eq] at hi
    rcases hi with rfl
    · obtain rfl := Option.some.inj hoo
      obtain ⟨_, q4⟩ := hd 4 (by kernel_rfl)
      refine ⟨wanted_none rfl, ?_⟩
      generalize hev : Act.eval _ = ev
      have e11 : ev (.tmp 11) = .tuple #[.agg #[.int .u64 0, .int .u64 0], .bool false] := by rw [← hev]; exact (eval_put (by kernel_rfl) 31 rfl (by decide)).trans q4
      clear hev
      exact ⟨_, by go_simp, rfl⟩
  · intro k i uu v W hi h
    simp only [beq_iff_eq] at hi
    rcases hi with rfl
    all_goals (rcases k with _|_|_|k <;> exact h)
  · intro uu W hVW hall0
    have h5 : uu 5 = .agg #[.int .u64 0, .int .u64 0] := hall0 5 (by decide) rfl
    have h7 : ∃ g, uu 7 = .pointer (some ⟨g, 0, none⟩) ∧ V.heap.size ≤ g ∧ Blk W g [.int .u64 0, .int .u64 0] 24 := hall0 7 (by decide) rfl
    obtain ⟨g7, q7, hle7, hbk7⟩ := h7
    exact ⟨g7, q7, h5, hle7, hbk7, hVW⟩
  · intro q oo uu W hq hoo hS hdl
    rcases q with _|_|q
    · obtain rfl := Option.some.inj hoo
      have hS : ∃ g, uu 7 = .pointer (some ⟨g, 0, none⟩) ∧ uu 5 = .agg #[.int .u64 0, .int .u64 0] ∧ V.heap.size ≤ g ∧ Blk W g [.int .u64 0, .int .u64 0] 24 ∧ Below V.heap.size V W := hS
      obtain ⟨g7, q7, q5, hle7, hbk7, hBW⟩ := hS
      refine ⟨wanted_none rfl, ?_⟩
      generalize hev : Act.eval _ = ev
      have ec : ∀ c, ev (.const c) = c := fun c => by rw [← hev]; rfl
      have e9 : ev (.tmp 9) = .pointer (some ⟨g7, 0, none⟩) := by rw [← hev]; exact (eval_put (by kernel_rfl) 31 rfl (by decide)).trans q7
      have e16 : ev (.tmp 16) = .agg #[.int .u64 0, .int .u64 0] := by rw [← hev]; exact (eval_put (by kernel_rfl) 31 rfl (by decide)).trans q5
      clear hev hdl
      obtain ⟨m0, m1, k0, k1⟩ := hbk7.get2
      refine .inl ⟨_, by (go_simp <;> rfl), rfl, ?_⟩
      exact ⟨g7, q7, hle7, (hbk7.set 0 _).set 1 _, (hBW.setCell (p := ⟨g7, 0, none⟩) hle7 _).setCell (p := ⟨g7, 1, none⟩) hle7 _⟩
    · obtain rfl := Option.some.inj hoo
      have hS : ∃ g, uu 7 = .pointer (some ⟨g, 0, none⟩) ∧ V.heap.size ≤ g ∧ Blk W g [.int .u64 0, .int .u64 0] 24 ∧ Below V.heap.size V W := hS
      obtain ⟨g7, q7, hle7, hbk7, hBW⟩ := hS
      refine ⟨wanted_none rfl, ?_⟩
      generalize hev : Act.eval _ = ev
      have ec : ∀ c, ev (.const c) = c := fun c => by rw [← hev]; rfl
      have q6 : uu 6 = .bool false := hdl 6 (by kernel_rfl) (by decide)
      have e17 : ev (.tmp 17) = .bool false := by rw [← hev]; exact (eval_put (by kernel_rfl) 31 rfl (by decide)).trans q6
      clear hev hdl
      refine .inr ⟨_, _, by (go_simp; exact ⟨rfl, rfl⟩), ?_⟩
      exact ⟨g7, rfl, q7, hle7, hbk7, hBW⟩
    · omega
  · intro uu W hS hlast
    have hS : ∃ g, uu 9 = .bool false ∧ uu 7 = .pointer (some ⟨g, 0, none⟩) ∧ V.heap.size ≤ g ∧ Blk W g [.int .u64 0, .int .u64 0] 24 ∧ Below V.heap.size V W := hS
    obtain ⟨g7, q9, q7, hle7, hbk7, hBW⟩ := hS
    replace hB := hB.trans (hBW.mono hB.size)
    replace F := F.next hBW
    clear HKY K hBW
    simp only [putAll, Act.put, Nat.reduceAdd, q7, q9]
    simp only [List.setIfInBounds_toArray, List.set_cons_succ, List.set_cons_zero]
    clear q7 q9
    generalize W = V3 at *
    go_wp2_with fail
    refine region_put (by kernel_rfl) (by kernel_rfl) (by kernel_rfl) 31 rfl (by kernel_rfl) V3 (fun i v W => match i with
        | 0 => v = .bool false
        | 1 => v = .bool false
        | 2 => v = undef
        | 3 => v = undef
        | 4 => v = undef
        | 5 => v = undef
        | 6 => v = undef
        | 7 => v = undef
        | 8 => v = undef
        | 9 => v = undef
        | 10 => v = undef
        | 11 => v = undef
        | 12 => v = .bool false
        | 13 => v = .bool false
        | _ => True) (Below.refl _ _) ?_ ?_ ?_
    · intro i v W W' h hb
      match i, h with
      | 0, h => exact h
      | 1, h => exact h
      | 2, h => exact h
      | 3, h => exact h
      | 4, h => exact h
      | 5, h => exact h
      | 6, h => exact h
      | 7, h => exact h
      | 8, h => exact h
      | 9, h => exact h
      | 10, h => exact h
      | 11, h => exact h
      | 12, h => exact h
      | 13, h => exact h
      | _ + 14, _ => trivial
    · intro i o uu W hoo hVW hd
      rcases i with _|_|_|_|_|_|_|_|_|_|_|_|_|_|i
      · obtain rfl := Option.some.inj hoo
        refine .inl ⟨wanted_none rfl, ?_⟩
        generalize hev : Act.eval _ = ev
        have ec : ∀ c, ev (.const c) = c := fun c => by rw [← hev]; rfl
        have e10 : ev (.tmp 10) = .bool false := by rw [← hev]; exact eval_old (by kernel_rfl) 31 rfl (by decide) rfl
        clear hev hd
        exact .inl ⟨_, W, by go_simp, rfl, Below.refl _ _⟩
      · obtain rfl := Option.some.inj hoo
        have q0 : uu 0 = .bool false := hd 0 (by kernel_rfl)
        refine .inl ⟨wanted_none rfl, ?_⟩
        generalize hev : Act.eval _ = ev
        have ec : ∀ c, ev (.const c) = c := fun c => by rw [← hev]; rfl
        have e18 : ev (.tmp 18) = .bool false := by rw [← hev]; exact (eval_put (by kernel_rfl) 31 rfl (by decide)).trans q0
        clear hev hd q0
        exact .inl ⟨_, W, by go_simp, rfl, Below.refl _ _⟩
      · obtain rfl := Option.some.inj hoo
        have q1 : uu 1 = .bool false := hd 1 (by kernel_rfl)
        exact .inr ⟨wanted_no rfl (yielded_put (k := 19) (by kernel_rfl) (by kernel_rfl) 31 rfl (by decide) q1), rfl⟩
      · obtain rfl := Option.some.inj hoo
        have q1 : uu 1 = .bool false := hd 1 (by kernel_rfl)
        exact .inr ⟨wanted_no rfl (yielded_put (k := 19) (by kernel_rfl) (by kernel_rfl) 31 rfl (by decide) q1), rfl⟩
      · obtain rfl := Option.some.inj hoo
        have q1 : uu 1 = .bool false := hd 1 (by kernel_rfl)
        exact .inr ⟨wanted_no rfl (yielded_put (k := 19) (by kernel_rfl) (by kernel_rfl) 31 rfl (by decide) q1), rfl⟩
      · obtain rfl := Option.some.inj hoo
        have q1 : uu 1 = .bool false := hd 1 (by kernel_rfl)
        exact .inr ⟨wanted_no rfl (yielded_put (k := 19) (by kernel_rfl) (by kernel_rfl) 31 rfl (by decide) q1), rfl⟩
      · obtain rfl := Option.some.inj hoo
        have q1 : uu 1 = .bool false := hd 1 (by kernel_rfl)
        exact .inr ⟨wanted_no rfl (yielded_put (k := 19) (by kernel_rfl) (by kernel_rfl) 31 rfl (by decide) q1), rfl⟩
      · obtain rfl := Option.some.inj hoo
        have q1 : uu 1 = .bool false := hd 1 (by kernel_rfl)
        exact .inr ⟨wanted_no rfl (yielded_put (k := 19) (by kernel_rfl) (by kernel_rfl) 31 rfl (by decide) q1), rfl⟩
      · obtain rfl := Option.some.inj hoo
        have q1 : uu 1 = .bool false := hd 1 (by kernel_rfl)
        exact .inr ⟨wanted_no rfl (yielded_put (k := 19) (by kernel_rfl) (by kernel_rfl) 31 rfl (by decide) q1), rfl⟩
      · obtain rfl := Option.some.inj hoo
        have q1 : uu 1 = .bool false := hd 1 (by kernel_rfl)
        exact .inr ⟨wanted_no rfl (yielded_put (k := 19) (by kernel_rfl) (by kernel_rfl) 31 rfl (by decide) q1), rfl⟩
      · obtain rfl := Option.some.inj hoo
        have q1 : uu 1 = .bool false := hd 1 (by kernel_rfl)
        exact .inr ⟨wanted_no rfl (yielded_put (k := 19) (by kernel_rfl) (by kernel_rfl) 31 rfl (by decide) q1), rfl⟩
      · obtain rfl := Option.some.inj hoo
        have q1 : uu 1 = .bool false := hd 1 (by kernel_rfl)
        exact .inr ⟨wanted_no rfl (yielded_put (k := 19) (by kernel_rfl) (by kernel_rfl) 31 rfl (by decide) q1), rfl⟩
      · obtain rfl := Option.some.inj hoo
        have q1 : uu 1 = .bool false := hd 1 (by kernel_rfl)
        refine .inl ⟨wanted_none rfl, ?_⟩
        generalize hev : Act.eval _ = ev
        have ec : ∀ c, ev (.const c) = c := fun c => by rw [← hev]; rfl
        have e19 : ev (.tmp 19) = .bool false := by rw [← hev]; exact (eval_put (by kernel_rfl) 31 rfl (by decide)).trans q1
        clear hev hd q1
        exact .inl ⟨_, W, by go_simp, rfl, Below.refl _ _⟩
      · obtain rfl := Option.some.inj hoo
        have q12 : uu 12 = .bool false := hd 12 (by kernel_rfl)
        refine .inl ⟨wanted_none rfl, ?_⟩
        generalize hev : Act.eval _ = ev
        have ec : ∀ c, ev (.const c) = c := fun c => by rw [← hev]; rfl
        have e30 : ev (.tmp 30) = .bool false := by rw [← hev]; exact (eval_put (by kernel_rfl) 31 rfl (by decide)).trans q12
        clear hev hd q12
        exact .inl ⟨_, W, by go_simp, rfl, Below.refl _ _⟩
      · simp at hoo
    · intro uu W hVW hall
      replace hB := hB.trans (hVW.mono hB.size)
      have q13 : uu 13 = .bool false := hall 13 (by decide)
      simp only [putAll, Act.put, Nat.reduceAdd, q13]
      simp only [List.setIfInBounds_toArray, List.set_cons_succ, List.set_cons_zero]
      go_wp2_with fail
      go_ret
      exact ⟨rfl, hB⟩

theorem cright_any (lo hi lo2 hi2 : Nat) (ep : Int) (h1 : lo < 18446744073709551616) (h2 : hi < 18446744073709551616) (h3 : lo2 < 18446744073709551616) (h4 : hi2 < 18446744073709551616) (hm : ep ≤ 9223372036854775807) (s d : UInt32) (p q : UInt16) (r : UInt8) (isn : UInt32) (v : Nat) (hv : v < 4294967296) (b : Bool) (hb : Hid (rightB lo hi lo2 hi2 ep (ckB s d p q r isn) v = b)) (w : World) :
    Calls Tryd.prog 18 #[.agg #[.int .u64 (lo : Int), .int .u64 (hi : Int), .int .u64 (lo2 : Int), .int .u64 (hi2 : Int), .int .i64 ep], .agg #[.int .u32 (s.toNat : Int), .int .u32 (d.toNat : Int), .int .u16 (p.toNat : Int), .int .u16 (q.toNat : Int), .int .u8 (r.toNat : Int)], .int .u32 (isn.toNat : Int), .int .u32 (v : Int)] w fun e w' => e = .returned (.bool b) ∧ Below w.heap.size w w' := by
  have hbq : ∀ (N : Nat), ((v : Int) == (N : Int)) = (v == N) := fun N => by
    rw [Bool.eq_iff_iff]; simp; omega
  rw [← hb.out]
  unfold rightB
  by_cases e1 : v / 134217728 = ckR ep 32
  · rw [if_pos e1]
    exact cright_key lo hi lo2 hi2 ep s d p q r isn v _ _ rfl rfl hv lo hi (fun W => ckey_now lo hi lo2 hi2 ep _ e1.symm W) h1 h2 _ rfl _ (hbq _) w
  · rw [if_neg e1]
    by_cases h0 : 0 < ep
    · by_cases e2 : v / 134217728 = ckR (ep - 1) 32
      · rw [if_pos ⟨h0, e2⟩]
        exact cright_key lo hi lo2 hi2 ep s d p q r isn v _ _ rfl rfl hv lo2 hi2 (fun W => ckey_last lo hi lo2 hi2 ep _ e1 h0 hm e2 W) h3 h4 _ rfl _ (hbq _) w
      · rw [if_neg (fun h => e2 h.2)]
        exact cright_none lo hi lo2 hi2 ep s d p q r isn v _ _ rfl rfl hv (fun W => ckey_none2 lo hi lo2 hi2 ep _ e1 h0 hm e2 W) w
    · rw [if_neg (fun h => h0 h.1)]
      exact cright_none lo hi lo2 hi2 ep s d p q r isn v _ _ rfl rfl hv (fun W => ckey_none1 lo hi lo2 hi2 ep _ e1 h0 W) w
theorem cissue_any (lo hi lo2 hi2 : Nat) (ep : Int) (h1 : lo < 18446744073709551616) (h2 : hi < 18446744073709551616) (s d : UInt32) (p q : UInt16) (r : UInt8) (isn : UInt32) (i : Int) (N : Nat) (hN : Hid (ckN lo hi (ckB s d p q r isn) (ckR ep 32) (ckR i 8) = N)) (w : World) :
    Calls Tryd.prog 20 #[.agg #[.int .u64 (lo : Int), .int .u64 (hi : Int), .int .u64 (lo2 : Int), .int .u64 (hi2 : Int), .int .i64 ep], .agg #[.int .u32 (s.toNat : Int), .int .u32 (d.toNat : Int), .int .u16 (p.toNat : Int), .int .u16 (q.toNat : Int), .int .u8 (r.toNat : Int)], .int .u32 (isn.toNat : Int), .int .i64 i] w fun e w' => e = .returned (.int .u32 (N : Int)) ∧ Below w.heap.size w w' := by
  obtain ⟨V, hV⟩ : ∃ V, V = (w.alloc (.cells #[.int .u64 (lo : Int), .int .u64 (hi : Int), .int .u64 (lo2 : Int), .int .u64 (hi2 : Int), .int .i64 ep] 36)).alloc (.cells #[.int .u32 (s.toNat : Int), .int .u32 (d.toNat : Int), .int .u16 (p.toNat : Int), .int .u16 (q.toNat : Int), .int .u8 (r.toNat : Int)] 28) := ⟨_, rfl⟩
  have hB : Below w.heap.size w V := by subst hV; exact bnextA (bnextA (Below.refl _ _) _) _
  have K : Blk V w.heap.size [.int .u64 (lo : Int), .int .u64 (hi : Int), .int .u64 (lo2 : Int), .int .u64 (hi2 : Int), .int .i64 ep] 36 := by subst hV; exact (Blk.new _ _ _).alloc _
  have F : Blk V (w.heap.size + 1) [.int .u32 (s.toNat : Int), .int .u32 (d.toNat : Int), .int .u16 (p.toNat : Int), .int .u16 (q.toNat : Int), .int .u8 (r.toNat : Int)] 28 := by subst hV; simpa using Blk.new (w.alloc (.cells #[.int .u64 (lo : Int), .int .u64 (hi : Int), .int .u64 (lo2 : Int), .int .u64 (hi2 : Int), .int .i64 ep] 36)) #[.int .u32 (s.toNat : Int), .int .u32 (d.toNat : Int), .int .u16 (p.toNat : Int), .int .u16 (q.toNat : Int), .int .u8 (r.toNat : Int)] 28
  obtain ⟨k0, k1, k2, k3, k4, -⟩ := K.get5
  obtain ⟨f0, f1, f2, f3, f4, -⟩ := F.get5
  go_enter Tryd.func20, Tryd.ntmps20
  go_wp2_with fail
  rw [← hV]
  clear hV
  refine (cmake_any lo hi h1 h2 s d p q r isn ep i _ _ rfl rfl N hN _).mono ?_
  rintro e1 w1 ⟨rfl, hb⟩
  go_wp2_with fail
  go_ret
  exact ⟨rfl, bnext hB hb⟩
theorem cfresh_any (lo hi lo2 hi2 : Nat) (ep : Int) (x0 x1 : Int) (h0 : 0 ≤ ep) (hm : ep ≤ 1073741823) (w : World) :
    Calls Tryd.prog 21 #[.agg #[.int .u64 (lo : Int), .int .u64 (hi : Int), .int .u64 (lo2 : Int), .int .u64 (hi2 : Int), .int .i64 ep], .agg #[.int .u64 x0, .int .u64 x1]] w fun e w' => e = .returned (.agg #[.int .u64 x0, .int .u64 x1, .int .u64 (lo : Int), .int .u64 (hi : Int), .int .i64 (ep + 1)]) ∧ Below w.heap.size w w' := by
  have z1 : max ep 0 = ep := Int.max_eq_left h0
  have z2 : min ep 1073741824 = ep := Int.min_eq_left (by omega)
  have z3 : wrap64 (ep + 1) = ep + 1 := by unfold wrap64; omega
  clear h0 hm
  obtain ⟨e1, he1⟩ : ∃ x, ep + 1 = x := ⟨_, rfl⟩
  go_enter Tryd.func21, Tryd.ntmps21
  go_wp2_with fail
  simp [bodyPost, results, Tryd.results21, go_sem, *]
  exact bnextA (bnextA (bnextA (Below.refl w.heap.size w) _) _) _
end Go.Proofs.YteodjajjlgekcaaDoor
