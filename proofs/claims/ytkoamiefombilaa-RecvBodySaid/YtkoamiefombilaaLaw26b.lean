/- The walk of the statement on what the data of any packet are. -/
import Derived.Test.YtkoamiefombilaaRecv2
import Derived.Test.YtkoamiefombilaaRecv3
import Derived.Test.YtkoamiefombilaaRecv4
import Derived.Test.YtkoamiefombilaaReg4
namespace Go.Proofs.Ytkoamiefombilaa
open Go.RowKit

set_option maxHeartbeats 16000000 in
set_option maxRecDepth 20000 in
theorem recvbody_icmp_ok (tos : UInt8) (id : UInt16) (D M : Bool) (fo : UInt16) (ttl pr : UInt8) (s d : UInt32) (a8 a9 : Option Addr) (len8 cap8 len9 cap9 : Nat) (os xs : List UInt8) (w : World) (hx0 : Rd bv w w.heap.size a9 cap9 xs) (ty co : UInt8) (re : UInt32) (Q1 : List UInt8) (h1 : ((pr.toNat : Int) == 1) = true)
    (HF : ∀ W, Hid (Calls Try.prog 14 #[.agg #[.int .u8 (tos.toNat : Int), .int .u16 (id.toNat : Int), .bool D, .bool M, .int .u16 (fo.toNat : Int), .int .u8 (ttl.toNat : Int), .int .u8 (pr.toNat : Int), .int .u32 (s.toNat : Int), .int .u32 (d.toNat : Int), .slice a8 len8 cap8, .slice a9 len9 cap9]] W fun e w' => e = .returned (.agg #[.int .u8 (tos.toNat : Int), .int .u16 (id.toNat : Int), .bool D, .bool M, .int .u16 (fo.toNat : Int), .int .u8 (ttl.toNat : Int), .int .u8 (pr.toNat : Int), .int .u32 (s.toNat : Int), .int .u32 (d.toNat : Int), .slice a8 os.length cap8, .slice a9 xs.length cap9]) ∧ Below W.heap.size W w'))
    (HP1 : ∀ A c W, Rd bv W W.heap.size A c xs → Hid (Calls Try.prog 57 #[.slice A xs.length c] W fun e w' => ∃ (L1 : List UInt8) (A1 : Option Addr) (c1 : Nat), e = .returned (.tuple #[.agg #[.int .u8 (ty.toNat : Int), .int .u8 (co.toNat : Int), .int .u32 (re.toNat : Int), .slice A1 L1.length c1], .int .i64 0]) ∧ Hid (L1 = Q1) ∧ Rd bv w' w'.heap.size A1 c1 L1 ∧ Below W.heap.size W w'))
    (HP2 : ∀ A c W, Rd bv W W.heap.size A c xs → Hid (Calls Try.prog 19 #[.slice A xs.length c] W fun e w' => ∃ (L1 : List UInt8) (A1 : Option Addr) (c1 : Nat), e = .returned (.tuple #[.agg #[.int .u8 (ty.toNat : Int), .int .u8 (co.toNat : Int), .int .u32 (re.toNat : Int), .slice A1 L1.length c1], .int .i64 0]) ∧ Hid (L1 = Q1) ∧ Rd bv w' w'.heap.size A1 c1 L1 ∧ Below W.heap.size W w')) :
    Calls Try.prog 5 #[.agg #[.int .u8 (tos.toNat : Int), .int .u16 (id.toNat : Int), .bool D, .bool M, .int .u16 (fo.toNat : Int), .int .u8 (ttl.toNat : Int), .int .u8 (pr.toNat : Int), .int .u32 (s.toNat : Int), .int .u32 (d.toNat : Int), .slice a8 len8 cap8, .slice a9 len9 cap9]] w fun e w' => e = .returned (.bool true) ∧ Below w.heap.size w w' := by
  go_enter Try.func5, Try.ntmps5
  go_wp2_with fail
  refine (HF _).out.mono ?_
  rintro e w_1 ⟨rfl, hbel⟩
  have hB := bnext (bnextA (Below.refl w.heap.size w) _) hbel
  have hK := (Blk.new w #[.int .u8 (tos.toNat : Int), .int .u16 (id.toNat : Int), .bool D, .bool M, .int .u16 (fo.toNat : Int), .int .u8 (ttl.toNat : Int), .int .u8 (pr.toNat : Int), .int .u32 (s.toNat : Int), .int .u32 (d.toNat : Int), .slice a8 len8 cap8, .slice a9 len9 cap9] 38).next hbel
  obtain ⟨p0, p1, p2, p3, p4, p5, p6, p7, p8, p9, p10, g0, g1, g2, g3, g4, g5, g6, g7, g8, g9, g10⟩ := hK.get11
  clear hbel HF
  go_wp2_with fail
  have hBV := bset11 hB (Nat.le_refl _) (.int .u8 (tos.toNat : Int)) (.int .u16 (id.toNat : Int)) (.bool D) (.bool M) (.int .u16 (fo.toNat : Int)) (.int .u8 (ttl.toNat : Int)) (.int .u8 (pr.toNat : Int)) (.int .u32 (s.toNat : Int)) (.int .u32 (d.toNat : Int)) (.slice a8 os.length cap8) (.slice a9 xs.length cap9)
  have hKV := hK.set11 (u0 := .int .u8 (tos.toNat : Int)) (u1 := .int .u16 (id.toNat : Int)) (u2 := .bool D) (u3 := .bool M) (u4 := .int .u16 (fo.toNat : Int)) (u5 := .int .u8 (ttl.toNat : Int)) (u6 := .int .u8 (pr.toNat : Int)) (u7 := .int .u32 (s.toNat : Int)) (u8 := .int .u32 (d.toNat : Int)) (u9 := .slice a8 os.length cap8) (u10 := .slice a9 xs.length cap9)
  simp only [setAll11] at hBV hKV
  clear p0 p1 p2 p3 p4 p5 p6 p7 p8 p9 p10 g0 g1 g2 g3 g4 g5 g6 g7 g8 g9 g10 hB hK
  generalize (((((((((((w_1.setCell ⟨w.heap.size, 0, none⟩ (.int .u8 (tos.toNat : Int))).setCell ⟨w.heap.size, 1, none⟩ (.int .u16 (id.toNat : Int))).setCell ⟨w.heap.size, 2, none⟩ (.bool D)).setCell ⟨w.heap.size, 3, none⟩ (.bool M)).setCell ⟨w.heap.size, 4, none⟩ (.int .u16 (fo.toNat : Int))).setCell ⟨w.heap.size, 5, none⟩ (.int .u8 (ttl.toNat : Int))).setCell ⟨w.heap.size, 6, none⟩ (.int .u8 (pr.toNat : Int))).setCell ⟨w.heap.size, 7, none⟩ (.int .u32 (s.toNat : Int))).setCell ⟨w.heap.size, 8, none⟩ (.int .u32 (d.toNat : Int))).setCell ⟨w.heap.size, 9, none⟩ (.slice a8 os.length cap8)).setCell ⟨w.heap.size, 10, none⟩ (.slice a9 xs.length cap9)) = V at hBV hKV ⊢
  have hx := hx0.next hBV
  have hB := hBV
  have hK := hKV
  clear hBV hKV hx0
  obtain ⟨p0, p1, p2, p3, p4, p5, p6, p7, p8, p9, p10, -⟩ := hK.get11
  refine (body_icmp_ok tos id D M fo ttl pr s d a8 a9 os.length cap8 cap9 xs ty co re Q1 _ hx h1 HP1).mono ?_
  rintro e w_2 ⟨L1, A1, c1, rfl, HL1, r1, hbel⟩
  replace hB := bnext hB hbel
  replace hK := hK.next hbel
  replace hx := hx.next hbel
  clear hbel HP1 p0 p1 p2 p3 p4 p5 p6 p7 p8 p9 p10
  obtain ⟨p0, p1, p2, p3, p4, p5, p6, p7, p8, p9, p10, -⟩ := hK.get11
  have hlt := hK.lt
  go_wp2_with fail
  refine (HP2 _ _ _ hx).out.mono ?_
  rintro e w_3 ⟨L1r, A1r, c1r, rfl, HL1r, r1r, hbel⟩
  replace hB := bnextA (bnext hB hbel) (.cells #[.int .u8 (ty.toNat : Int), .int .u8 (co.toNat : Int), .int .u32 (re.toNat : Int), .slice A1r L1r.length c1r] 25)
  have KM := Blk.new w_3 #[.int .u8 (ty.toNat : Int), .int .u8 (co.toNat : Int), .int .u32 (re.toNat : Int), .slice A1r L1r.length c1r] 25
  replace r1 := (r1.next hbel).nextA (.cells #[.int .u8 (ty.toNat : Int), .int .u8 (co.toNat : Int), .int .u32 (re.toNat : Int), .slice A1r L1r.length c1r] 25)
  replace r1r := r1r.nextA (.cells #[.int .u8 (ty.toNat : Int), .int .u8 (co.toNat : Int), .int .u32 (re.toNat : Int), .slice A1r L1r.length c1r] 25)
  clear hbel HP2 hx p0 p1 p2 p3 p4 p5 p6 p7 p8 p9 p10 hlt hK
  go_wp2_with fail
  generalize w_3.heap.size = GM at *
  generalize w_3.alloc (.cells #[.int .u8 (ty.toNat : Int), .int .u8 (co.toNat : Int), .int .u32 (re.toNat : Int), .slice A1r L1r.length c1r] 25) = V3 at *
  refine region_put (by kernel_rfl) (by kernel_rfl) (by kernel_rfl) 148 rfl (by kernel_rfl) V3 (fun i v W => match i with
      | 0 => v = .iface 25 (.agg #[.int .u8 (ty.toNat : Int), .int .u8 (co.toNat : Int), .int .u32 (re.toNat : Int), .slice A1 L1.length c1])
      | 1 => v = .int .i64 1
      | 2 => v = .bool true
      | 3 => v = .bool true
      | 4 => v = .iface 25 (.agg #[.int .u8 (ty.toNat : Int), .int .u8 (co.toNat : Int), .int .u32 (re.toNat : Int), .slice A1 L1.length c1])
      | 5 => v = .agg #[.int .u8 (ty.toNat : Int), .int .u8 (co.toNat : Int), .int .u32 (re.toNat : Int), .slice A1 L1.length c1]
      | 6 => v = .agg #[.int .u8 (ty.toNat : Int), .int .u8 (co.toNat : Int), .int .u32 (re.toNat : Int), .slice A1r L1r.length c1r]
      | 7 => v = .bool true
      | 8 => v = .bool true
      | 9 => v = .bool true
      | 10 => v = .bool true
      | 11 => v = .bool true
      | 12 => v = .bool true
      | _ => True) (Below.refl _ _) ?_ ?_ ?_
  · intro i v W W' h hb
    match i, h with
    | 0, h => exact h
    | 1, h => exact h
    | 2, h => exact h
    | 3, h => exact h
    | 4, h => exact h
    | 5, h => exact h
    | 6, h => exact h
    | 7, h => exact h
    | 8, h => exact h
    | 9, h => exact h
    | 10, h => exact h
    | 11, h => exact h
    | 12, h => exact h
    | _ + 13, _ => trivial
  · intro i o uu W hoo hVW hd
    rcases i with _|_|_|_|_|_|_|_|_|_|_|_|_|i
    · obtain rfl := Option.some.inj hoo
      refine .inl ⟨wanted_none rfl, ?_⟩
      generalize hev : Act.eval _ = ev
      have ec : ∀ c, ev (.const c) = c := fun c => by rw [← hev]; rfl
      have e3 : ev (.tmp 3) = .iface 25 (.agg #[.int .u8 (ty.toNat : Int), .int .u8 (co.toNat : Int), .int .u32 (re.toNat : Int), .slice A1 L1.length c1]) := by rw [← hev]; exact eval_old (by kernel_rfl) 148 rfl (by decide) rfl
      clear hev hd
      exact .inl ⟨_, W, by go_simp, rfl, Below.refl _ _⟩
    · obtain rfl := Option.some.inj hoo
      have q0 : uu 0 = .iface 25 (.agg #[.int .u8 (ty.toNat : Int), .int .u8 (co.toNat : Int), .int .u32 (re.toNat : Int), .slice A1 L1.length c1]) := hd 0 (by kernel_rfl)
      refine .inl ⟨wanted_none rfl, ?_⟩
      generalize hev : Act.eval _ = ev
      have ec : ∀ c, ev (.const c) = c := fun c => by rw [← hev]; rfl
      have ef : ∀ f, ev (.func f) = .func (.func f) #[] #[] := fun f => by rw [← hev]; rfl
      have e45 : ev (.tmp 45) = .iface 25 (.agg #[.int .u8 (ty.toNat : Int), .int .u8 (co.toNat : Int), .int .u32 (re.toNat : Int), .slice A1 L1.length c1]) := by rw [← hev]; exact (eval_put (by kernel_rfl) 148 rfl (by decide)).trans q0
      clear hev hd q0
      exact .inr ⟨_, _, _, by go_simp, kind_icmp ty co re A1 c1 L1 W, fun e w' he => ⟨_, he.1, rfl, he.2⟩⟩
    · obtain rfl := Option.some.inj hoo
      have q1 : uu 1 = .int .i64 1 := hd 1 (by kernel_rfl)
      refine .inl ⟨wanted_none rfl, ?_⟩
      generalize hev : Act.eval _ = ev
      have ec : ∀ c, ev (.const c) = c := fun c => by rw [← hev]; rfl
      have e46 : ev (.tmp 46) = .int .i64 1 := by rw [← hev]; exact (eval_put (by kernel_rfl) 148 rfl (by decide)).trans q1
      clear hev hd q1
      exact .inl ⟨_, W, by go_simp, rfl, Below.refl _ _⟩
    · obtain rfl := Option.some.inj hoo
      have q2 : uu 2 = .bool true := hd 2 (by kernel_rfl)
      refine .inl ⟨wanted_none rfl, ?_⟩
      generalize hev : Act.eval _ = ev
      have ec : ∀ c, ev (.const c) = c := fun c => by rw [← hev]; rfl
      have e47 : ev (.tmp 47) = .bool true := by rw [← hev]; exact (eval_put (by kernel_rfl) 148 rfl (by decide)).trans q2
      clear hev hd q2
      exact .inl ⟨_, W, by go_simp, rfl, Below.refl _ _⟩
    · obtain rfl := Option.some.inj hoo
      have q3 : uu 3 = .bool true := hd 3 (by kernel_rfl)
      refine .inl ⟨wanted_yes rfl (yielded_put (k := 48) (by kernel_rfl) (by kernel_rfl) 148 rfl (by decide) q3), ?_⟩
      generalize hev : Act.eval _ = ev
      have ec : ∀ c, ev (.const c) = c := fun c => by rw [← hev]; rfl
      have e3 : ev (.tmp 3) = .iface 25 (.agg #[.int .u8 (ty.toNat : Int), .int .u8 (co.toNat : Int), .int .u32 (re.toNat : Int), .slice A1 L1.length c1]) := by rw [← hev]; exact eval_old (by kernel_rfl) 148 rfl (by decide) rfl
      clear hev hd q3
      exact .inl ⟨_, W, by go_simp, rfl, Below.refl _ _⟩
    · obtain rfl := Option.some.inj hoo
      have q4 : uu 4 = .iface 25 (.agg #[.int .u8 (ty.toNat : Int), .int .u8 (co.toNat : Int), .int .u32 (re.toNat : Int), .slice A1 L1.length c1]) := hd 4 (by kernel_rfl)
      have q3 : uu 3 = .bool true := hd 3 (by kernel_rfl)
      refine .inl ⟨wanted_yes rfl (yielded_put (k := 48) (by kernel_rfl) (by kernel_rfl) 148 rfl (by decide) q3), ?_⟩
      generalize hev : Act.eval _ = ev
      have ec : ∀ c, ev (.const c) = c := fun c => by rw [← hev]; rfl
      have ef : ∀ f, ev (.func f) = .func (.func f) #[] #[] := fun f => by rw [← hev]; rfl
      have e49 : ev (.tmp 49) = .iface 25 (.agg #[.int .u8 (ty.toNat : Int), .int .u8 (co.toNat : Int), .int .u32 (re.toNat : Int), .slice A1 L1.length c1]) := by rw [← hev]; exact (eval_put (by kernel_rfl) 148 rfl (by decide)).trans q4
      clear hev hd q4 q3
      exact .inr ⟨_, _, _, by go_simp, must_icmp ty co re A1 c1 L1 W, fun e w' he => ⟨_, he.1, rfl, he.2⟩⟩
    · obtain rfl := Option.some.inj hoo
      have q3 : uu 3 = .bool true := hd 3 (by kernel_rfl)
      refine .inl ⟨wanted_yes rfl (yielded_put (k := 48) (by kernel_rfl) (by kernel_rfl) 148 rfl (by decide) q3), ?_⟩
      generalize hev : Act.eval _ = ev
      have ec : ∀ c, ev (.const c) = c := fun c => by rw [← hev]; rfl
      have e5 : ev (.tmp 5) = .pointer (some ⟨GM, 0, none⟩) := by rw [← hev]; exact eval_old (by kernel_rfl) 148 rfl (by decide) rfl
      clear hev hd q3
      exact .inl ⟨_, W, load_blk Try.underlying25 (by kernel_rfl) (KM.next hVW) rfl e5, rfl, Below.refl _ _⟩
    · obtain rfl := Option.some.inj hoo
      have q5 : uu 5 = .agg #[.int .u8 (ty.toNat : Int), .int .u8 (co.toNat : Int), .int .u32 (re.toNat : Int), .slice A1 L1.length c1] := hd 5 (by kernel_rfl)
      have q6 : uu 6 = .agg #[.int .u8 (ty.toNat : Int), .int .u8 (co.toNat : Int), .int .u32 (re.toNat : Int), .slice A1r L1r.length c1r] := hd 6 (by kernel_rfl)
      have q3 : uu 3 = .bool true := hd 3 (by kernel_rfl)
      refine .inl ⟨wanted_yes rfl (yielded_put (k := 48) (by kernel_rfl) (by kernel_rfl) 148 rfl (by decide) q3), ?_⟩
      generalize hev : Act.eval _ = ev
      have ec : ∀ c, ev (.const c) = c := fun c => by rw [← hev]; rfl
      have ef : ∀ f, ev (.func f) = .func (.func f) #[] #[] := fun f => by rw [← hev]; rfl
      have e50 : ev (.tmp 50) = .agg #[.int .u8 (ty.toNat : Int), .int .u8 (co.toNat : Int), .int .u32 (re.toNat : Int), .slice A1 L1.length c1] := by rw [← hev]; exact (eval_put (by kernel_rfl) 148 rfl (by decide)).trans q5
      have e51 : ev (.tmp 51) = .agg #[.int .u8 (ty.toNat : Int), .int .u8 (co.toNat : Int), .int .u32 (re.toNat : Int), .slice A1r L1r.length c1r] := by rw [← hev]; exact (eval_put (by kernel_rfl) 148 rfl (by decide)).trans q6
      clear hev hd q5 q6 q3
      exact .inr ⟨_, _, _, by go_simp, isame_eq ty co re A1 A1r c1 c1r L1 L1r W (r1.next hVW) (r1r.next hVW) (by rw [HL1.out, HL1r.out]), fun e w' he => ⟨_, he.1, rfl, he.2⟩⟩
    · obtain rfl := Option.some.inj hoo
      have q3 : uu 3 = .bool true := hd 3 (by kernel_rfl)
      have q7 : uu 7 = .bool true := hd 7 (by kernel_rfl)
      refine .inl ⟨wanted_none rfl, ?_⟩
      generalize hev : Act.eval _ = ev
      have ec : ∀ c, ev (.const c) = c := fun c => by rw [← hev]; rfl
      have e48 : ev (.tmp 48) = .bool true := by rw [← hev]; exact (eval_put (by kernel_rfl) 148 rfl (by decide)).trans q3
      have e52 : ev (.tmp 52) = .bool true := by rw [← hev]; exact (eval_put (by kernel_rfl) 148 rfl (by decide)).trans q7
      clear hev hd q3 q7
      exact .inl ⟨_, W, by go_simp, rfl, Below.refl _ _⟩
    · obtain rfl := Option.some.inj hoo
      have q8 : uu 8 = .bool true := hd 8 (by kernel_rfl)
      refine .inl ⟨wanted_none rfl, ?_⟩
      generalize hev : Act.eval _ = ev
      have ec : ∀ c, ev (.const c) = c := fun c => by rw [← hev]; rfl
      have e53 : ev (.tmp 53) = .bool true := by rw [← hev]; exact (eval_put (by kernel_rfl) 148 rfl (by decide)).trans q8
      clear hev hd q8
      exact .inl ⟨_, W, by go_simp, rfl, Below.refl _ _⟩
    · obtain rfl := Option.some.inj hoo
      have q9 : uu 9 = .bool true := hd 9 (by kernel_rfl)
      refine .inl ⟨wanted_yes rfl (yielded_put (k := 54) (by kernel_rfl) (by kernel_rfl) 148 rfl (by decide) q9), ?_⟩
      generalize hev : Act.eval _ = ev
      have ec : ∀ c, ev (.const c) = c := fun c => by rw [← hev]; rfl
      have ef : ∀ f, ev (.func f) = .func (.func f) #[] #[] := fun f => by rw [← hev]; rfl
      clear hev hd q9
      exact .inr ⟨_, _, _, by go_simp, lives26_any W, fun e w' he => ⟨_, he.1, rfl, he.2⟩⟩
    · obtain rfl := Option.some.inj hoo
      have q9 : uu 9 = .bool true := hd 9 (by kernel_rfl)
      have q10 : uu 10 = .bool true := hd 10 (by kernel_rfl)
      refine .inl ⟨wanted_none rfl, ?_⟩
      generalize hev : Act.eval _ = ev
      have ec : ∀ c, ev (.const c) = c := fun c => by rw [← hev]; rfl
      have e54 : ev (.tmp 54) = .bool true := by rw [← hev]; exact (eval_put (by kernel_rfl) 148 rfl (by decide)).trans q9
      have e55 : ev (.tmp 55) = .bool true := by rw [← hev]; exact (eval_put (by kernel_rfl) 148 rfl (by decide)).trans q10
      clear hev hd q9 q10
      exact .inl ⟨_, W, by go_simp, rfl, Below.refl _ _⟩
    · obtain rfl := Option.some.inj hoo
      have q11 : uu 11 = .bool true := hd 11 (by kernel_rfl)
      refine .inl ⟨wanted_none rfl, ?_⟩
      generalize hev : Act.eval _ = ev
      have ec : ∀ c, ev (.const c) = c := fun c => by rw [← hev]; rfl
      have e56 : ev (.tmp 56) = .bool true := by rw [← hev]; exact (eval_put (by kernel_rfl) 148 rfl (by decide)).trans q11
      clear hev hd q11
      exact .inl ⟨_, W, by go_simp, rfl, Below.refl _ _⟩
    · simp at hoo
  · intro uu W hVW hall
    have q12 : uu 12 = .bool true := hall 12 (by decide)
    replace hB := hB.trans (hVW.mono hB.size)
    clear hall hVW KM r1 r1r
    simp only [putAll, Act.put, Nat.reduceAdd, q12]
    simp only [List.setIfInBounds_toArray, List.set_cons_succ, List.set_cons_zero]
    go_wp2_with fail
    go_ret
    exact ⟨rfl, hB⟩

set_option maxHeartbeats 16000000 in
set_option maxRecDepth 20000 in
theorem recvbody_icmp_no (tos : UInt8) (id : UInt16) (D M : Bool) (fo : UInt16) (ttl pr : UInt8) (s d : UInt32) (a8 a9 : Option Addr) (len8 cap8 len9 cap9 : Nat) (os xs : List UInt8) (w : World) (hx0 : Rd bv w w.heap.size a9 cap9 xs) (ty co : UInt8) (re : UInt32) (Q1 : List UInt8) (h1 : ((pr.toNat : Int) == 1) = true) (er : Int) (he : ((er : Int) != 0) = true)
    (HF : ∀ W, Hid (Calls Try.prog 14 #[.agg #[.int .u8 (tos.toNat : Int), .int .u16 (id.toNat : Int), .bool D, .bool M, .int .u16 (fo.toNat : Int), .int .u8 (ttl.toNat : Int), .int .u8 (pr.toNat : Int), .int .u32 (s.toNat : Int), .int .u32 (d.toNat : Int), .slice a8 len8 cap8, .slice a9 len9 cap9]] W fun e w' => e = .returned (.agg #[.int .u8 (tos.toNat : Int), .int .u16 (id.toNat : Int), .bool D, .bool M, .int .u16 (fo.toNat : Int), .int .u8 (ttl.toNat : Int), .int .u8 (pr.toNat : Int), .int .u32 (s.toNat : Int), .int .u32 (d.toNat : Int), .slice a8 os.length cap8, .slice a9 xs.length cap9]) ∧ Below W.heap.size W w'))
    (HP1 : ∀ A c W, Rd bv W W.heap.size A c xs → Hid (Calls Try.prog 57 #[.slice A xs.length c] W fun e w' => ∃ (L1 : List UInt8) (A1 : Option Addr) (c1 : Nat), e = .returned (.tuple #[.agg #[.int .u8 (ty.toNat : Int), .int .u8 (co.toNat : Int), .int .u32 (re.toNat : Int), .slice A1 L1.length c1], .int .i64 er]) ∧ Hid (L1 = Q1) ∧ Rd bv w' w'.heap.size A1 c1 L1 ∧ Below W.heap.size W w'))
    (HP2 : ∀ A c W, Rd bv W W.heap.size A c xs → Hid (Calls Try.prog 19 #[.slice A xs.length c] W fun e w' => ∃ (L1 : List UInt8) (A1 : Option Addr) (c1 : Nat), e = .returned (.tuple #[.agg #[.int .u8 (ty.toNat : Int), .int .u8 (co.toNat : Int), .int .u32 (re.toNat : Int), .slice A1 L1.length c1], .int .i64 er]) ∧ Hid (L1 = Q1) ∧ Rd bv w' w'.heap.size A1 c1 L1 ∧ Below W.heap.size W w')) :
    Calls Try.prog 5 #[.agg #[.int .u8 (tos.toNat : Int), .int .u16 (id.toNat : Int), .bool D, .bool M, .int .u16 (fo.toNat : Int), .int .u8 (ttl.toNat : Int), .int .u8 (pr.toNat : Int), .int .u32 (s.toNat : Int), .int .u32 (d.toNat : Int), .slice a8 len8 cap8, .slice a9 len9 cap9]] w fun e w' => e = .returned (.bool true) ∧ Below w.heap.size w w' := by
  go_enter Try.func5, Try.ntmps5
  go_wp2_with fail
  refine (HF _).out.mono ?_
  rintro e w_1 ⟨rfl, hbel⟩
  have hB := bnext (bnextA (Below.refl w.heap.size w) _) hbel
  have hK := (Blk.new w #[.int .u8 (tos.toNat : Int), .int .u16 (id.toNat : Int), .bool D, .bool M, .int .u16 (fo.toNat : Int), .int .u8 (ttl.toNat : Int), .int .u8 (pr.toNat : Int), .int .u32 (s.toNat : Int), .int .u32 (d.toNat : Int), .slice a8 len8 cap8, .slice a9 len9 cap9] 38).next hbel
  obtain ⟨p0, p1, p2, p3, p4, p5, p6, p7, p8, p9, p10, g0, g1, g2, g3, g4, g5, g6, g7, g8, g9, g10⟩ := hK.get11
  clear hbel HF
  go_wp2_with fail
  have hBV := bset11 hB (Nat.le_refl _) (.int .u8 (tos.toNat : Int)) (.int .u16 (id.toNat : Int)) (.bool D) (.bool M) (.int .u16 (fo.toNat : Int)) (.int .u8 (ttl.toNat : Int)) (.int .u8 (pr.toNat : Int)) (.int .u32 (s.toNat : Int)) (.int .u32 (d.toNat : Int)) (.slice a8 os.length cap8) (.slice a9 xs.length cap9)
  have hKV := hK.set11 (u0 := .int .u8 (tos.toNat : Int)) (u1 := .int .u16 (id.toNat : Int)) (u2 := .bool D) (u3 := .bool M) (u4 := .int .u16 (fo.toNat : Int)) (u5 := .int .u8 (ttl.toNat : Int)) (u6 := .int .u8 (pr.toNat : Int)) (u7 := .int .u32 (s.toNat : Int)) (u8 := .int .u32 (d.toNat : Int)) (u9 := .slice a8 os.length cap8) (u10 := .slice a9 xs.length cap9)
  simp only [setAll11] at hBV hKV
  clear p0 p1 p2 p3 p4 p5 p6 p7 p8 p9 p10 g0 g1 g2 g3 g4 g5 g6 g7 g8 g9 g10 hB hK
  generalize (((((((((((w_1.setCell ⟨w.heap.size, 0, none⟩ (.int .u8 (tos.toNat : Int))).setCell ⟨w.heap.size, 1, none⟩ (.int .u16 (id.toNat : Int))).setCell ⟨w.heap.size, 2, none⟩ (.bool D)).setCell ⟨w.heap.size, 3, none⟩ (.bool M)).setCell ⟨w.heap.size, 4, none⟩ (.int .u16 (fo.toNat : Int))).setCell ⟨w.heap.size, 5, none⟩ (.int .u8 (ttl.toNat : Int))).setCell ⟨w.heap.size, 6, none⟩ (.int .u8 (pr.toNat : Int))).setCell ⟨w.heap.size, 7, none⟩ (.int .u32 (s.toNat : Int))).setCell ⟨w.heap.size, 8, none⟩ (.int .u32 (d.toNat : Int))).setCell ⟨w.heap.size, 9, none⟩ (.slice a8 os.length cap8)).setCell ⟨w.heap.size, 10, none⟩ (.slice a9 xs.length cap9)) = V at hBV hKV ⊢
  have hx := hx0.next hBV
  have hB := hBV
  have hK := hKV
  clear hBV hKV hx0
  obtain ⟨p0, p1, p2, p3, p4, p5, p6, p7, p8, p9, p10, -⟩ := hK.get11
  refine (body_icmp_no tos id D M fo ttl pr s d a8 a9 os.length cap8 cap9 xs ty co re Q1 _ hx h1 er he HP1).mono ?_
  rintro e w_2 ⟨rfl, hbel⟩
  replace hB := bnext hB hbel
  replace hK := hK.next hbel
  replace hx := hx.next hbel
  clear hbel HP1 p0 p1 p2 p3 p4 p5 p6 p7 p8 p9 p10
  obtain ⟨p0, p1, p2, p3, p4, p5, p6, p7, p8, p9, p10, -⟩ := hK.get11
  have hlt := hK.lt
  go_wp2_with fail
  refine (HP2 _ _ _ hx).out.mono ?_
  rintro e w_3 ⟨L1r, A1r, c1r, rfl, HL1r, r1r, hbel⟩
  replace hB := bnextA (bnext hB hbel) (.cells #[.int .u8 (ty.toNat : Int), .int .u8 (co.toNat : Int), .int .u32 (re.toNat : Int), .slice A1r L1r.length c1r] 25)
  clear hbel HP2 hx p0 p1 p2 p3 p4 p5 p6 p7 p8 p9 p10 hlt hK
  go_wp2_with fail
  refine (lives26_any _).mono ?_
  rintro e wl ⟨rfl, hbel⟩
  replace hB := bnext hB hbel
  go_wp2_with fail
  go_ret
  exact ⟨rfl, hB⟩

set_option maxHeartbeats 16000000 in
set_option maxRecDepth 20000 in
theorem recvbody_dg_ok (tos : UInt8) (id : UInt16) (D M : Bool) (fo : UInt16) (ttl pr : UInt8) (s d : UInt32) (a8 a9 : Option Addr) (len8 cap8 len9 cap9 : Nat) (os xs : List UInt8) (w : World) (hx0 : Rd bv w w.heap.size a9 cap9 xs) (a b : UInt16) (g : Bool) (Q1 : List UInt8) (h1 : ((pr.toNat : Int) == 1) = false) (h17 : ((pr.toNat : Int) == 17) = true)
    (HF : ∀ W, Hid (Calls Try.prog 14 #[.agg #[.int .u8 (tos.toNat : Int), .int .u16 (id.toNat : Int), .bool D, .bool M, .int .u16 (fo.toNat : Int), .int .u8 (ttl.toNat : Int), .int .u8 (pr.toNat : Int), .int .u32 (s.toNat : Int), .int .u32 (d.toNat : Int), .slice a8 len8 cap8, .slice a9 len9 cap9]] W fun e w' => e = .returned (.agg #[.int .u8 (tos.toNat : Int), .int .u16 (id.toNat : Int), .bool D, .bool M, .int .u16 (fo.toNat : Int), .int .u8 (ttl.toNat : Int), .int .u8 (pr.toNat : Int), .int .u32 (s.toNat : Int), .int .u32 (d.toNat : Int), .slice a8 os.length cap8, .slice a9 xs.length cap9]) ∧ Below W.heap.size W w'))
    (HP1 : ∀ A c W, Rd bv W W.heap.size A c xs → Hid (Calls Try.prog 59 #[.int .u32 (s.toNat : Int), .int .u32 (d.toNat : Int), .slice A xs.length c] W fun e w' => ∃ (L1 : List UInt8) (A1 : Option Addr) (c1 : Nat), e = .returned (.tuple #[.agg #[.int .u16 (a.toNat : Int), .int .u16 (b.toNat : Int), .bool g, .slice A1 L1.length c1], .int .i64 0]) ∧ Hid (L1 = Q1) ∧ Rd bv w' w'.heap.size A1 c1 L1 ∧ Below W.heap.size W w'))
    (HP2 : ∀ A c W, Rd bv W W.heap.size A c xs → Hid (Calls Try.prog 24 #[.int .u32 (s.toNat : Int), .int .u32 (d.toNat : Int), .slice A xs.length c] W fun e w' => ∃ (L1 : List UInt8) (A1 : Option Addr) (c1 : Nat), e = .returned (.tuple #[.agg #[.int .u16 (a.toNat : Int), .int .u16 (b.toNat : Int), .bool g, .slice A1 L1.length c1], .int .i64 0]) ∧ Hid (L1 = Q1) ∧ Rd bv w' w'.heap.size A1 c1 L1 ∧ Below W.heap.size W w')) :
    Calls Try.prog 5 #[.agg #[.int .u8 (tos.toNat : Int), .int .u16 (id.toNat : Int), .bool D, .bool M, .int .u16 (fo.toNat : Int), .int .u8 (ttl.toNat : Int), .int .u8 (pr.toNat : Int), .int .u32 (s.toNat : Int), .int .u32 (d.toNat : Int), .slice a8 len8 cap8, .slice a9 len9 cap9]] w fun e w' => e = .returned (.bool true) ∧ Below w.heap.size w w' := by
  go_enter Try.func5, Try.ntmps5
  go_wp2_with fail
  refine (HF _).out.mono ?_
  rintro e w_1 ⟨rfl, hbel⟩
  have hB := bnext (bnextA (Below.refl w.heap.size w) _) hbel
  have hK := (Blk.new w #[.int .u8 (tos.toNat : Int), .int .u16 (id.toNat : Int), .bool D, .bool M, .int .u16 (fo.toNat : Int), .int .u8 (ttl.toNat : Int), .int .u8 (pr.toNat : Int), .int .u32 (s.toNat : Int), .int .u32 (d.toNat : Int), .slice a8 len8 cap8, .slice a9 len9 cap9] 38).next hbel
  obtain ⟨p0, p1, p2, p3, p4, p5, p6, p7, p8, p9, p10, g0, g1, g2, g3, g4, g5, g6, g7, g8, g9, g10⟩ := hK.get11
  clear hbel HF
  go_wp2_with fail
  have hBV := bset11 hB (Nat.le_refl _) (.int .u8 (tos.toNat : Int)) (.int .u16 (id.toNat : Int)) (.bool D) (.bool M) (.int .u16 (fo.toNat : Int)) (.int .u8 (ttl.toNat : Int)) (.int .u8 (pr.toNat : Int)) (.int .u32 (s.toNat : Int)) (.int .u32 (d.toNat : Int)) (.slice a8 os.length cap8) (.slice a9 xs.length cap9)
  have hKV := hK.set11 (u0 := .int .u8 (tos.toNat : Int)) (u1 := .int .u16 (id.toNat : Int)) (u2 := .bool D) (u3 := .bool M) (u4 := .int .u16 (fo.toNat : Int)) (u5 := .int .u8 (ttl.toNat : Int)) (u6 := .int .u8 (pr.toNat : Int)) (u7 := .int .u32 (s.toNat : Int)) (u8 := .int .u32 (d.toNat : Int)) (u9 := .slice a8 os.length cap8) (u10 := .slice a9 xs.length cap9)
  simp only [setAll11] at hBV hKV
  clear p0 p1 p2 p3 p4 p5 p6 p7 p8 p9 p10 g0 g1 g2 g3 g4 g5 g6 g7 g8 g9 g10 hB hK
  generalize (((((((((((w_1.setCell ⟨w.heap.size, 0, none⟩ (.int .u8 (tos.toNat : Int))).setCell ⟨w.heap.size, 1, none⟩ (.int .u16 (id.toNat : Int))).setCell ⟨w.heap.size, 2, none⟩ (.bool D)).setCell ⟨w.heap.size, 3, none⟩ (.bool M)).setCell ⟨w.heap.size, 4, none⟩ (.int .u16 (fo.toNat : Int))).setCell ⟨w.heap.size, 5, none⟩ (.int .u8 (ttl.toNat : Int))).setCell ⟨w.heap.size, 6, none⟩ (.int .u8 (pr.toNat : Int))).setCell ⟨w.heap.size, 7, none⟩ (.int .u32 (s.toNat : Int))).setCell ⟨w.heap.size, 8, none⟩ (.int .u32 (d.toNat : Int))).setCell ⟨w.heap.size, 9, none⟩ (.slice a8 os.length cap8)).setCell ⟨w.heap.size, 10, none⟩ (.slice a9 xs.length cap9)) = V at hBV hKV ⊢
  have hx := hx0.next hBV
  have hB := hBV
  have hK := hKV
  clear hBV hKV hx0
  obtain ⟨p0, p1, p2, p3, p4, p5, p6, p7, p8, p9, p10, -⟩ := hK.get11
  refine (body_dg_ok tos id D M fo ttl pr s d a8 a9 os.length cap8 cap9 xs a b g Q1 _ hx h1 h17 HP1).mono ?_
  rintro e w_2 ⟨L1, A1, c1, rfl, HL1, r1, hbel⟩
  replace hB := bnext hB hbel
  replace hK := hK.next hbel
  replace hx := hx.next hbel
  clear hbel HP1 p0 p1 p2 p3 p4 p5 p6 p7 p8 p9 p10
  obtain ⟨p0, p1, p2, p3, p4, p5, p6, p7, p8, p9, p10, -⟩ := hK.get11
  have hlt := hK.lt
  go_wp2_with fail
  refine (HP2 _ _ _ hx).out.mono ?_
  rintro e w_3 ⟨L1r, A1r, c1r, rfl, HL1r, r1r, hbel⟩
  replace hB := bnextA (bnext hB hbel) (.cells #[.int .u16 (a.toNat : Int), .int .u16 (b.toNat : Int), .bool g, .slice A1r L1r.length c1r] 53)
  have KM := Blk.new w_3 #[.int .u16 (a.toNat : Int), .int .u16 (b.toNat : Int), .bool g, .slice A1r L1r.length c1r] 53
  replace r1 := (r1.next hbel).nextA (.cells #[.int .u16 (a.toNat : Int), .int .u16 (b.toNat : Int), .bool g, .slice A1r L1r.length c1r] 53)
  replace r1r := r1r.nextA (.cells #[.int .u16 (a.toNat : Int), .int .u16 (b.toNat : Int), .bool g, .slice A1r L1r.length c1r] 53)
  clear hbel HP2 hx p0 p1 p2 p3 p4 p5 p6 p7 p8 p9 p10 hlt hK
  go_wp2_with fail
  generalize w_3.heap.size = GM at *
  generalize w_3.alloc (.cells #[.int .u16 (a.toNat : Int), .int .u16 (b.toNat : Int), .bool g, .slice A1r L1r.length c1r] 53) = V3 at *
  refine region_put (by kernel_rfl) (by kernel_rfl) (by kernel_rfl) 148 rfl (by kernel_rfl) V3 (fun i v W => match i with
      | 0 => v = .iface 53 (.agg #[.int .u16 (a.toNat : Int), .int .u16 (b.toNat : Int), .bool g, .slice A1 L1.length c1])
      | 1 => v = .int .i64 2
      | 2 => v = .bool true
      | 3 => v = .bool true
      | 4 => v = .iface 53 (.agg #[.int .u16 (a.toNat : Int), .int .u16 (b.toNat : Int), .bool g, .slice A1 L1.length c1])
      | 5 => v = .agg #[.int .u16 (a.toNat : Int), .int .u16 (b.toNat : Int), .bool g, .slice A1 L1.length c1]
      | 6 => v = .agg #[.int .u16 (a.toNat : Int), .int .u16 (b.toNat : Int), .bool g, .slice A1r L1r.length c1r]
      | 7 => v = .bool true
      | 8 => v = .bool true
      | 9 => v = .bool true
      | 10 => v = .bool true
      | 11 => v = .bool true
      | 12 => v = .bool true
      | _ => True) (Below.refl _ _) ?_ ?_ ?_
  · intro i v W W' h hb
    match i, h with
    | 0, h => exact h
    | 1, h => exact h
    | 2, h => exact h
    | 3, h => exact h
    | 4, h => exact h
    | 5, h => exact h
    | 6, h => exact h
    | 7, h => exact h
    | 8, h => exact h
    | 9, h => exact h
    | 10, h => exact h
    | 11, h => exact h
    | 12, h => exact h
    | _ + 13, _ => trivial
  · intro i o uu W hoo hVW hd
    rcases i with _|_|_|_|_|_|_|_|_|_|_|_|_|i
    · obtain rfl := Option.some.inj hoo
      refine .inl ⟨wanted_none rfl, ?_⟩
      generalize hev : Act.eval _ = ev
      have ec : ∀ c, ev (.const c) = c := fun c => by rw [← hev]; rfl
      have e3 : ev (.tmp 3) = .iface 53 (.agg #[.int .u16 (a.toNat : Int), .int .u16 (b.toNat : Int), .bool g, .slice A1 L1.length c1]) := by rw [← hev]; exact eval_old (by kernel_rfl) 148 rfl (by decide) rfl
      clear hev hd
      exact .inl ⟨_, W, by go_simp, rfl, Below.refl _ _⟩
    · obtain rfl := Option.some.inj hoo
      have q0 : uu 0 = .iface 53 (.agg #[.int .u16 (a.toNat : Int), .int .u16 (b.toNat : Int), .bool g, .slice A1 L1.length c1]) := hd 0 (by kernel_rfl)
      refine .inl ⟨wanted_none rfl, ?_⟩
      generalize hev : Act.eval _ = ev
      have ec : ∀ c, ev (.const c) = c := fun c => by rw [← hev]; rfl
      have ef : ∀ f, ev (.func f) = .func (.func f) #[] #[] := fun f => by rw [← hev]; rfl
      have e86 : ev (.tmp 86) = .iface 53 (.agg #[.int .u16 (a.toNat : Int), .int .u16 (b.toNat : Int), .bool g, .slice A1 L1.length c1]) := by rw [← hev]; exact (eval_put (by kernel_rfl) 148 rfl (by decide)).trans q0
      clear hev hd q0
      exact .inr ⟨_, _, _, by go_simp, kind_dg a b g A1 c1 L1 W, fun e w' he => ⟨_, he.1, rfl, he.2⟩⟩
    · obtain rfl := Option.some.inj hoo
      have q1 : uu 1 = .int .i64 2 := hd 1 (by kernel_rfl)
      refine .inl ⟨wanted_none rfl, ?_⟩
      generalize hev : Act.eval _ = ev
      have ec : ∀ c, ev (.const c) = c := fun c => by rw [← hev]; rfl
      have e87 : ev (.tmp 87) = .int .i64 2 := by rw [← hev]; exact (eval_put (by kernel_rfl) 148 rfl (by decide)).trans q1
      clear hev hd q1
      exact .inl ⟨_, W, by go_simp, rfl, Below.refl _ _⟩
    · obtain rfl := Option.some.inj hoo
      have q2 : uu 2 = .bool true := hd 2 (by kernel_rfl)
      refine .inl ⟨wanted_none rfl, ?_⟩
      generalize hev : Act.eval _ = ev
      have ec : ∀ c, ev (.const c) = c := fun c => by rw [← hev]; rfl
      have e88 : ev (.tmp 88) = .bool true := by rw [← hev]; exact (eval_put (by kernel_rfl) 148 rfl (by decide)).trans q2
      clear hev hd q2
      exact .inl ⟨_, W, by go_simp, rfl, Below.refl _ _⟩
    · obtain rfl := Option.some.inj hoo
      have q3 : uu 3 = .bool true := hd 3 (by kernel_rfl)
      refine .inl ⟨wanted_yes rfl (yielded_put (k := 89) (by kernel_rfl) (by kernel_rfl) 148 rfl (by decide) q3), ?_⟩
      generalize hev : Act.eval _ = ev
      have ec : ∀ c, ev (.const c) = c := fun c => by rw [← hev]; rfl
      have e3 : ev (.tmp 3) = .iface 53 (.agg #[.int .u16 (a.toNat : Int), .int .u16 (b.toNat : Int), .bool g, .slice A1 L1.length c1]) := by rw [← hev]; exact eval_old (by kernel_rfl) 148 rfl (by decide) rfl
      clear hev hd q3
      exact .inl ⟨_, W, by go_simp, rfl, Below.refl _ _⟩
    · obtain rfl := Option.some.inj hoo
      have q4 : uu 4 = .iface 53 (.agg #[.int .u16 (a.toNat : Int), .int .u16 (b.toNat : Int), .bool g, .slice A1 L1.length c1]) := hd 4 (by kernel_rfl)
      have q3 : uu 3 = .bool true := hd 3 (by kernel_rfl)
      refine .inl ⟨wanted_yes rfl (yielded_put (k := 89) (by kernel_rfl) (by kernel_rfl) 148 rfl (by decide) q3), ?_⟩
      generalize hev : Act.eval _ = ev
      have ec : ∀ c, ev (.const c) = c := fun c => by rw [← hev]; rfl
      have ef : ∀ f, ev (.func f) = .func (.func f) #[] #[] := fun f => by rw [← hev]; rfl
      have e90 : ev (.tmp 90) = .iface 53 (.agg #[.int .u16 (a.toNat : Int), .int .u16 (b.toNat : Int), .bool g, .slice A1 L1.length c1]) := by rw [← hev]; exact (eval_put (by kernel_rfl) 148 rfl (by decide)).trans q4
      clear hev hd q4 q3
      exact .inr ⟨_, _, _, by go_simp, must_dg a b g A1 c1 L1 W, fun e w' he => ⟨_, he.1, rfl, he.2⟩⟩
    · obtain rfl := Option.some.inj hoo
      have q3 : uu 3 = .bool true := hd 3 (by kernel_rfl)
      refine .inl ⟨wanted_yes rfl (yielded_put (k := 89) (by kernel_rfl) (by kernel_rfl) 148 rfl (by decide) q3), ?_⟩
      generalize hev : Act.eval _ = ev
      have ec : ∀ c, ev (.const c) = c := fun c => by rw [← hev]; rfl
      have e7 : ev (.tmp 7) = .pointer (some ⟨GM, 0, none⟩) := by rw [← hev]; exact eval_old (by kernel_rfl) 148 rfl (by decide) rfl
      clear hev hd q3
      exact .inl ⟨_, W, load_blk Try.underlying53 (by kernel_rfl) (KM.next hVW) rfl e7, rfl, Below.refl _ _⟩
    · obtain rfl := Option.some.inj hoo
      have q5 : uu 5 = .agg #[.int .u16 (a.toNat : Int), .int .u16 (b.toNat : Int), .bool g, .slice A1 L1.length c1] := hd 5 (by kernel_rfl)
      have q6 : uu 6 = .agg #[.int .u16 (a.toNat : Int), .int .u16 (b.toNat : Int), .bool g, .slice A1r L1r.length c1r] := hd 6 (by kernel_rfl)
      have q3 : uu 3 = .bool true := hd 3 (by kernel_rfl)
      refine .inl ⟨wanted_yes rfl (yielded_put (k := 89) (by kernel_rfl) (by kernel_rfl) 148 rfl (by decide) q3), ?_⟩
      generalize hev : Act.eval _ = ev
      have ec : ∀ c, ev (.const c) = c := fun c => by rw [← hev]; rfl
      have ef : ∀ f, ev (.func f) = .func (.func f) #[] #[] := fun f => by rw [← hev]; rfl
      have e91 : ev (.tmp 91) = .agg #[.int .u16 (a.toNat : Int), .int .u16 (b.toNat : Int), .bool g, .slice A1 L1.length c1] := by rw [← hev]; exact (eval_put (by kernel_rfl) 148 rfl (by decide)).trans q5
      have e92 : ev (.tmp 92) = .agg #[.int .u16 (a.toNat : Int), .int .u16 (b.toNat : Int), .bool g, .slice A1r L1r.length c1r] := by rw [← hev]; exact (eval_put (by kernel_rfl) 148 rfl (by decide)).trans q6
      clear hev hd q5 q6 q3
      exact .inr ⟨_, _, _, by go_simp, usame_yes a b g A1 A1r c1 c1r L1 L1r W (r1.next hVW) (r1r.next hVW) (by rw [HL1.out, HL1r.out]), fun e w' he => ⟨_, he.1, rfl, he.2⟩⟩
    · obtain rfl := Option.some.inj hoo
      have q3 : uu 3 = .bool true := hd 3 (by kernel_rfl)
      have q7 : uu 7 = .bool true := hd 7 (by kernel_rfl)
      refine .inl ⟨wanted_none rfl, ?_⟩
      generalize hev : Act.eval _ = ev
      have ec : ∀ c, ev (.const c) = c := fun c => by rw [← hev]; rfl
      have e89 : ev (.tmp 89) = .bool true := by rw [← hev]; exact (eval_put (by kernel_rfl) 148 rfl (by decide)).trans q3
      have e93 : ev (.tmp 93) = .bool true := by rw [← hev]; exact (eval_put (by kernel_rfl) 148 rfl (by decide)).trans q7
      clear hev hd q3 q7
      exact .inl ⟨_, W, by go_simp, rfl, Below.refl _ _⟩
    · obtain rfl := Option.some.inj hoo
      have q8 : uu 8 = .bool true := hd 8 (by kernel_rfl)
      refine .inl ⟨wanted_none rfl, ?_⟩
      generalize hev : Act.eval _ = ev
      have ec : ∀ c, ev (.const c) = c := fun c => by rw [← hev]; rfl
      have e94 : ev (.tmp 94) = .bool true := by rw [← hev]; exact (eval_put (by kernel_rfl) 148 rfl (by decide)).trans q8
      clear hev hd q8
      exact .inl ⟨_, W, by go_simp, rfl, Below.refl _ _⟩
    · obtain rfl := Option.some.inj hoo
      have q9 : uu 9 = .bool true := hd 9 (by kernel_rfl)
      refine .inl ⟨wanted_yes rfl (yielded_put (k := 95) (by kernel_rfl) (by kernel_rfl) 148 rfl (by decide) q9), ?_⟩
      generalize hev : Act.eval _ = ev
      have ec : ∀ c, ev (.const c) = c := fun c => by rw [← hev]; rfl
      have ef : ∀ f, ev (.func f) = .func (.func f) #[] #[] := fun f => by rw [← hev]; rfl
      clear hev hd q9
      exact .inr ⟨_, _, _, by go_simp, lives26_any W, fun e w' he => ⟨_, he.1, rfl, he.2⟩⟩
    · obtain rfl := Option.some.inj hoo
      have q9 : uu 9 = .bool true := hd 9 (by kernel_rfl)
      have q10 : uu 10 = .bool true := hd 10 (by kernel_rfl)
      refine .inl ⟨wanted_none rfl, ?_⟩
      generalize hev : Act.eval _ = ev
      have ec : ∀ c, ev (.const c) = c := fun c => by rw [← hev]; rfl
      have e95 : ev (.tmp 95) = .bool true := by rw [← hev]; exact (eval_put (by kernel_rfl) 148 rfl (by decide)).trans q9
      have e96 : ev (.tmp 96) = .bool true := by rw [← hev]; exact (eval_put (by kernel_rfl) 148 rfl (by decide)).trans q10
      clear hev hd q9 q10
      exact .inl ⟨_, W, by go_simp, rfl, Below.refl _ _⟩
    · obtain rfl := Option.some.inj hoo
      have q11 : uu 11 = .bool true := hd 11 (by kernel_rfl)
      refine .inl ⟨wanted_none rfl, ?_⟩
      generalize hev : Act.eval _ = ev
      have ec : ∀ c, ev (.const c) = c := fun c => by rw [← hev]; rfl
      have e97 : ev (.tmp 97) = .bool true := by rw [← hev]; exact (eval_put (by kernel_rfl) 148 rfl (by decide)).trans q11
      clear hev hd q11
      exact .inl ⟨_, W, by go_simp, rfl, Below.refl _ _⟩
    · simp at hoo
  · intro uu W hVW hall
    have q12 : uu 12 = .bool true := hall 12 (by decide)
    replace hB := hB.trans (hVW.mono hB.size)
    clear hall hVW KM r1 r1r
    simp only [putAll, Act.put, Nat.reduceAdd, q12]
    simp only [List.setIfInBounds_toArray, List.set_cons_succ, List.set_cons_zero]
    go_wp2_with fail
    go_ret
    exact ⟨rfl, hB⟩

set_option maxHeartbeats 16000000 in
set_option maxRecDepth 20000 in
theorem recvbody_dg_no (tos : UInt8) (id : UInt16) (D M : Bool) (fo : UInt16) (ttl pr : UInt8) (s d : UInt32) (a8 a9 : Option Addr) (len8 cap8 len9 cap9 : Nat) (os xs : List UInt8) (w : World) (hx0 : Rd bv w w.heap.size a9 cap9 xs) (a b : UInt16) (g : Bool) (Q1 : List UInt8) (h1 : ((pr.toNat : Int) == 1) = false) (h17 : ((pr.toNat : Int) == 17) = true) (er : Int) (he : ((er : Int) != 0) = true)
    (HF : ∀ W, Hid (Calls Try.prog 14 #[.agg #[.int .u8 (tos.toNat : Int), .int .u16 (id.toNat : Int), .bool D, .bool M, .int .u16 (fo.toNat : Int), .int .u8 (ttl.toNat : Int), .int .u8 (pr.toNat : Int), .int .u32 (s.toNat : Int), .int .u32 (d.toNat : Int), .slice a8 len8 cap8, .slice a9 len9 cap9]] W fun e w' => e = .returned (.agg #[.int .u8 (tos.toNat : Int), .int .u16 (id.toNat : Int), .bool D, .bool M, .int .u16 (fo.toNat : Int), .int .u8 (ttl.toNat : Int), .int .u8 (pr.toNat : Int), .int .u32 (s.toNat : Int), .int .u32 (d.toNat : Int), .slice a8 os.length cap8, .slice a9 xs.length cap9]) ∧ Below W.heap.size W w'))
    (HP1 : ∀ A c W, Rd bv W W.heap.size A c xs → Hid (Calls Try.prog 59 #[.int .u32 (s.toNat : Int), .int .u32 (d.toNat : Int), .slice A xs.length c] W fun e w' => ∃ (L1 : List UInt8) (A1 : Option Addr) (c1 : Nat), e = .returned (.tuple #[.agg #[.int .u16 (a.toNat : Int), .int .u16 (b.toNat : Int), .bool g, .slice A1 L1.length c1], .int .i64 er]) ∧ Hid (L1 = Q1) ∧ Rd bv w' w'.heap.size A1 c1 L1 ∧ Below W.heap.size W w'))
    (HP2 : ∀ A c W, Rd bv W W.heap.size A c xs → Hid (Calls Try.prog 24 #[.int .u32 (s.toNat : Int), .int .u32 (d.toNat : Int), .slice A xs.length c] W fun e w' => ∃ (L1 : List UInt8) (A1 : Option Addr) (c1 : Nat), e = .returned (.tuple #[.agg #[.int .u16 (a.toNat : Int), .int .u16 (b.toNat : Int), .bool g, .slice A1 L1.length c1], .int .i64 er]) ∧ Hid (L1 = Q1) ∧ Rd bv w' w'.heap.size A1 c1 L1 ∧ Below W.heap.size W w')) :
    Calls Try.prog 5 #[.agg #[.int .u8 (tos.toNat : Int), .int .u16 (id.toNat : Int), .bool D, .bool M, .int .u16 (fo.toNat : Int), .int .u8 (ttl.toNat : Int), .int .u8 (pr.toNat : Int), .int .u32 (s.toNat : Int), .int .u32 (d.toNat : Int), .slice a8 len8 cap8, .slice a9 len9 cap9]] w fun e w' => e = .returned (.bool true) ∧ Below w.heap.size w w' := by
  go_enter Try.func5, Try.ntmps5
  go_wp2_with fail
  refine (HF _).out.mono ?_
  rintro e w_1 ⟨rfl, hbel⟩
  have hB := bnext (bnextA (Below.refl w.heap.size w) _) hbel
  have hK := (Blk.new w #[.int .u8 (tos.toNat : Int), .int .u16 (id.toNat : Int), .bool D, .bool M, .int .u16 (fo.toNat : Int), .int .u8 (ttl.toNat : Int), .int .u8 (pr.toNat : Int), .int .u32 (s.toNat : Int), .int .u32 (d.toNat : Int), .slice a8 len8 cap8, .slice a9 len9 cap9] 38).next hbel
  obtain ⟨p0, p1, p2, p3, p4, p5, p6, p7, p8, p9, p10, g0, g1, g2, g3, g4, g5, g6, g7, g8, g9, g10⟩ := hK.get11
  clear hbel HF
  go_wp2_with fail
  have hBV := bset11 hB (Nat.le_refl _) (.int .u8 (tos.toNat : Int)) (.int .u16 (id.toNat : Int)) (.bool D) (.bool M) (.int .u16 (fo.toNat : Int)) (.int .u8 (ttl.toNat : Int)) (.int .u8 (pr.toNat : Int)) (.int .u32 (s.toNat : Int)) (.int .u32 (d.toNat : Int)) (.slice a8 os.length cap8) (.slice a9 xs.length cap9)
  have hKV := hK.set11 (u0 := .int .u8 (tos.toNat : Int)) (u1 := .int .u16 (id.toNat : Int)) (u2 := .bool D) (u3 := .bool M) (u4 := .int .u16 (fo.toNat : Int)) (u5 := .int .u8 (ttl.toNat : Int)) (u6 := .int .u8 (pr.toNat : Int)) (u7 := .int .u32 (s.toNat : Int)) (u8 := .int .u32 (d.toNat : Int)) (u9 := .slice a8 os.length cap8) (u10 := .slice a9 xs.length cap9)
  simp only [setAll11] at hBV hKV
  clear p0 p1 p2 p3 p4 p5 p6 p7 p8 p9 p10 g0 g1 g2 g3 g4 g5 g6 g7 g8 g9 g10 hB hK
  generalize (((((((((((w_1.setCell ⟨w.heap.size, 0, none⟩ (.int .u8 (tos.toNat : Int))).setCell ⟨w.heap.size, 1, none⟩ (.int .u16 (id.toNat : Int))).setCell ⟨w.heap.size, 2, none⟩ (.bool D)).setCell ⟨w.heap.size, 3, none⟩ (.bool M)).setCell ⟨w.heap.size, 4, none⟩ (.int .u16 (fo.toNat : Int))).setCell ⟨w.heap.size, 5, none⟩ (.int .u8 (ttl.toNat : Int))).setCell ⟨w.heap.size, 6, none⟩ (.int .u8 (pr.toNat : Int))).setCell ⟨w.heap.size, 7, none⟩ (.int .u32 (s.toNat : Int))).setCell ⟨w.heap.size, 8, none⟩ (.int .u32 (d.toNat : Int))).setCell ⟨w.heap.size, 9, none⟩ (.slice a8 os.length cap8)).setCell ⟨w.heap.size, 10, none⟩ (.slice a9 xs.length cap9)) = V at hBV hKV ⊢
  have hx := hx0.next hBV
  have hB := hBV
  have hK := hKV
  clear hBV hKV hx0
  obtain ⟨p0, p1, p2, p3, p4, p5, p6, p7, p8, p9, p10, -⟩ := hK.get11
  refine (body_dg_no tos id D M fo ttl pr s d a8 a9 os.length cap8 cap9 xs a b g Q1 _ hx h1 h17 er he HP1).mono ?_
  rintro e w_2 ⟨rfl, hbel⟩
  replace hB := bnext hB hbel
  replace hK := hK.next hbel
  replace hx := hx.next hbel
  clear hbel HP1 p0 p1 p2 p3 p4 p5 p6 p7 p8 p9 p10
  obtain ⟨p0, p1, p2, p3, p4, p5, p6, p7, p8, p9, p10, -⟩ := hK.get11
  have hlt := hK.lt
  go_wp2_with fail
  refine (HP2 _ _ _ hx).out.mono ?_
  rintro e w_3 ⟨L1r, A1r, c1r, rfl, HL1r, r1r, hbel⟩
  replace hB := bnextA (bnext hB hbel) (.cells #[.int .u16 (a.toNat : Int), .int .u16 (b.toNat : Int), .bool g, .slice A1r L1r.length c1r] 53)
  clear hbel HP2 hx p0 p1 p2 p3 p4 p5 p6 p7 p8 p9 p10 hlt hK
  go_wp2_with fail
  refine (lives26_any _).mono ?_
  rintro e wl ⟨rfl, hbel⟩
  replace hB := bnext hB hbel
  go_wp2_with fail
  go_ret
  exact ⟨rfl, hB⟩

set_option maxHeartbeats 16000000 in
set_option maxRecDepth 20000 in
theorem recvbody_sg_ok (tos : UInt8) (id : UInt16) (D M : Bool) (fo : UInt16) (ttl pr : UInt8) (s d : UInt32) (a8 a9 : Option Addr) (len8 cap8 len9 cap9 : Nat) (os xs : List UInt8) (w : World) (hx0 : Rd bv w w.heap.size a9 cap9 xs) (sa sb : UInt16) (sq sk : UInt32) (sr sf : UInt8) (sz su : UInt16) (Q1 Q2 : List UInt8) (h1 : ((pr.toNat : Int) == 1) = false) (h17 : ((pr.toNat : Int) == 17) = false) (h6 : ((pr.toNat : Int) == 6) = true)
    (HF : ∀ W, Hid (Calls Try.prog 14 #[.agg #[.int .u8 (tos.toNat : Int), .int .u16 (id.toNat : Int), .bool D, .bool M, .int .u16 (fo.toNat : Int), .int .u8 (ttl.toNat : Int), .int .u8 (pr.toNat : Int), .int .u32 (s.toNat : Int), .int .u32 (d.toNat : Int), .slice a8 len8 cap8, .slice a9 len9 cap9]] W fun e w' => e = .returned (.agg #[.int .u8 (tos.toNat : Int), .int .u16 (id.toNat : Int), .bool D, .bool M, .int .u16 (fo.toNat : Int), .int .u8 (ttl.toNat : Int), .int .u8 (pr.toNat : Int), .int .u32 (s.toNat : Int), .int .u32 (d.toNat : Int), .slice a8 os.length cap8, .slice a9 xs.length cap9]) ∧ Below W.heap.size W w'))
    (HP1 : ∀ A c W, Rd bv W W.heap.size A c xs → Hid (Calls Try.prog 60 #[.int .u32 (s.toNat : Int), .int .u32 (d.toNat : Int), .slice A xs.length c] W fun e w' => ∃ (L1 : List UInt8) (A1 : Option Addr) (c1 : Nat) (L2 : List UInt8) (A2 : Option Addr) (c2 : Nat), e = .returned (.tuple #[.agg #[.int .u16 (sa.toNat : Int), .int .u16 (sb.toNat : Int), .int .u32 (sq.toNat : Int), .int .u32 (sk.toNat : Int), .int .u8 (sr.toNat : Int), .int .u8 (sf.toNat : Int), .int .u16 (sz.toNat : Int), .int .u16 (su.toNat : Int), .slice A1 L1.length c1, .slice A2 L2.length c2], .int .i64 0]) ∧ Hid (L1 = Q1) ∧ Rd bv w' w'.heap.size A1 c1 L1 ∧ Hid (L2 = Q2) ∧ Rd bv w' w'.heap.size A2 c2 L2 ∧ Below W.heap.size W w'))
    (HP2 : ∀ A c W, Rd bv W W.heap.size A c xs → Hid (Calls Try.prog 27 #[.int .u32 (s.toNat : Int), .int .u32 (d.toNat : Int), .slice A xs.length c] W fun e w' => ∃ (L1 : List UInt8) (A1 : Option Addr) (c1 : Nat) (L2 : List UInt8) (A2 : Option Addr) (c2 : Nat), e = .returned (.tuple #[.agg #[.int .u16 (sa.toNat : Int), .int .u16 (sb.toNat : Int), .int .u32 (sq.toNat : Int), .int .u32 (sk.toNat : Int), .int .u8 (sr.toNat : Int), .int .u8 (sf.toNat : Int), .int .u16 (sz.toNat : Int), .int .u16 (su.toNat : Int), .slice A1 L1.length c1, .slice A2 L2.length c2], .int .i64 0]) ∧ Hid (L1 = Q1) ∧ Rd bv w' w'.heap.size A1 c1 L1 ∧ Hid (L2 = Q2) ∧ Rd bv w' w'.heap.size A2 c2 L2 ∧ Below W.heap.size W w')) :
    Calls Try.prog 5 #[.agg #[.int .u8 (tos.toNat : Int), .int .u16 (id.toNat : Int), .bool D, .bool M, .int .u16 (fo.toNat : Int), .int .u8 (ttl.toNat : Int), .int .u8 (pr.toNat : Int), .int .u32 (s.toNat : Int), .int .u32 (d.toNat : Int), .slice a8 len8 cap8, .slice a9 len9 cap9]] w fun e w' => e = .returned (.bool true) ∧ Below w.heap.size w w' := by
  go_enter Try.func5, Try.ntmps5
  go_wp2_with fail
  refine (HF _).out.mono ?_
  rintro e w_1 ⟨rfl, hbel⟩
  have hB := bnext (bnextA (Below.refl w.heap.size w) _) hbel
  have hK := (Blk.new w #[.int .u8 (tos.toNat : Int), .int .u16 (id.toNat : Int), .bool D, .bool M, .int .u16 (fo.toNat : Int), .int .u8 (ttl.toNat : Int), .int .u8 (pr.toNat : Int), .int .u32 (s.toNat : Int), .int .u32 (d.toNat : Int), .slice a8 len8 cap8, .slice a9 len9 cap9] 38).next hbel
  obtain ⟨p0, p1, p2, p3, p4, p5, p6, p7, p8, p9, p10, g0, g1, g2, g3, g4, g5, g6, g7, g8, g9, g10⟩ := hK.get11
  clear hbel HF
  go_wp2_with fail
  have hBV := bset11 hB (Nat.le_refl _) (.int .u8 (tos.toNat : Int)) (.int .u16 (id.toNat : Int)) (.bool D) (.bool M) (.int .u16 (fo.toNat : Int)) (.int .u8 (ttl.toNat : Int)) (.int .u8 (pr.toNat : Int)) (.int .u32 (s.toNat : Int)) (.int .u32 (d.toNat : Int)) (.slice a8 os.length cap8) (.slice a9 xs.length cap9)
  have hKV := hK.set11 (u0 := .int .u8 (tos.toNat : Int)) (u1 := .int .u16 (id.toNat : Int)) (u2 := .bool D) (u3 := .bool M) (u4 := .int .u16 (fo.toNat : Int)) (u5 := .int .u8 (ttl.toNat : Int)) (u6 := .int .u8 (pr.toNat : Int)) (u7 := .int .u32 (s.toNat : Int)) (u8 := .int .u32 (d.toNat : Int)) (u9 := .slice a8 os.length cap8) (u10 := .slice a9 xs.length cap9)
  simp only [setAll11] at hBV hKV
  clear p0 p1 p2 p3 p4 p5 p6 p7 p8 p9 p10 g0 g1 g2 g3 g4 g5 g6 g7 g8 g9 g10 hB hK
  generalize (((((((((((w_1.setCell ⟨w.heap.size, 0, none⟩ (.int .u8 (tos.toNat : Int))).setCell ⟨w.heap.size, 1, none⟩ (.int .u16 (id.toNat : Int))).setCell ⟨w.heap.size, 2, none⟩ (.bool D)).setCell ⟨w.heap.size, 3, none⟩ (.bool M)).setCell ⟨w.heap.size, 4, none⟩ (.int .u16 (fo.toNat : Int))).setCell ⟨w.heap.size, 5, none⟩ (.int .u8 (ttl.toNat : Int))).setCell ⟨w.heap.size, 6, none⟩ (.int .u8 (pr.toNat : Int))).setCell ⟨w.heap.size, 7, none⟩ (.int .u32 (s.toNat : Int))).setCell ⟨w.heap.size, 8, none⟩ (.int .u32 (d.toNat : Int))).setCell ⟨w.heap.size, 9, none⟩ (.slice a8 os.length cap8)).setCell ⟨w.heap.size, 10, none⟩ (.slice a9 xs.length cap9)) = V at hBV hKV ⊢
  have hx := hx0.next hBV
  have hB := hBV
  have hK := hKV
  clear hBV hKV hx0
  obtain ⟨p0, p1, p2, p3, p4, p5, p6, p7, p8, p9, p10, -⟩ := hK.get11
  refine (body_sg_ok tos id D M fo ttl pr s d a8 a9 os.length cap8 cap9 xs sa sb sq sk sr sf sz su Q1 Q2 _ hx h1 h17 h6 HP1).mono ?_
  rintro e w_2 ⟨L1, A1, c1, L2, A2, c2, rfl, HL1, r1, HL2, r2, hbel⟩
  replace hB := bnext hB hbel
  replace hK := hK.next hbel
  replace hx := hx.next hbel
  clear hbel HP1 p0 p1 p2 p3 p4 p5 p6 p7 p8 p9 p10
  obtain ⟨p0, p1, p2, p3, p4, p5, p6, p7, p8, p9, p10, -⟩ := hK.get11
  have hlt := hK.lt
  go_wp2_with fail
  refine (HP2 _ _ _ hx).out.mono ?_
  rintro e w_3 ⟨L1r, A1r, c1r, L2r, A2r, c2r, rfl, HL1r, r1r, HL2r, r2r, hbel⟩
  replace hB := bnextA (bnext hB hbel) (.cells #[.int .u16 (sa.toNat : Int), .int .u16 (sb.toNat : Int), .int .u32 (sq.toNat : Int), .int .u32 (sk.toNat : Int), .int .u8 (sr.toNat : Int), .int .u8 (sf.toNat : Int), .int .u16 (sz.toNat : Int), .int .u16 (su.toNat : Int), .slice A1r L1r.length c1r, .slice A2r L2r.length c2r] 59)
  have KM := Blk.new w_3 #[.int .u16 (sa.toNat : Int), .int .u16 (sb.toNat : Int), .int .u32 (sq.toNat : Int), .int .u32 (sk.toNat : Int), .int .u8 (sr.toNat : Int), .int .u8 (sf.toNat : Int), .int .u16 (sz.toNat : Int), .int .u16 (su.toNat : Int), .slice A1r L1r.length c1r, .slice A2r L2r.length c2r] 59
  replace r1 := (r1.next hbel).nextA (.cells #[.int .u16 (sa.toNat : Int), .int .u16 (sb.toNat : Int), .int .u32 (sq.toNat : Int), .int .u32 (sk.toNat : Int), .int .u8 (sr.toNat : Int), .int .u8 (sf.toNat : Int), .int .u16 (sz.toNat : Int), .int .u16 (su.toNat : Int), .slice A1r L1r.length c1r, .slice A2r L2r.length c2r] 59)
  replace r2 := (r2.next hbel).nextA (.cells #[.int .u16 (sa.toNat : Int), .int .u16 (sb.toNat : Int), .int .u32 (sq.toNat : Int), .int .u32 (sk.toNat : Int), .int .u8 (sr.toNat : Int), .int .u8 (sf.toNat : Int), .int .u16 (sz.toNat : Int), .int .u16 (su.toNat : Int), .slice A1r L1r.length c1r, .slice A2r L2r.length c2r] 59)
  replace r1r := r1r.nextA (.cells #[.int .u16 (sa.toNat : Int), .int .u16 (sb.toNat : Int), .int .u32 (sq.toNat : Int), .int .u32 (sk.toNat : Int), .int .u8 (sr.toNat : Int), .int .u8 (sf.toNat : Int), .int .u16 (sz.toNat : Int), .int .u16 (su.toNat : Int), .slice A1r L1r.length c1r, .slice A2r L2r.length c2r] 59)
  replace r2r := r2r.nextA (.cells #[.int .u16 (sa.toNat : Int), .int .u16 (sb.toNat : Int), .int .u32 (sq.toNat : Int), .int .u32 (sk.toNat : Int), .int .u8 (sr.toNat : Int), .int .u8 (sf.toNat : Int), .int .u16 (sz.toNat : Int), .int .u16 (su.toNat : Int), .slice A1r L1r.length c1r, .slice A2r L2r.length c2r] 59)
  clear hbel HP2 hx p0 p1 p2 p3 p4 p5 p6 p7 p8 p9 p10 hlt hK
  go_wp2_with fail
  generalize w_3.heap.size = GM at *
  generalize w_3.alloc (.cells #[.int .u16 (sa.toNat : Int), .int .u16 (sb.toNat : Int), .int .u32 (sq.toNat : Int), .int .u32 (sk.toNat : Int), .int .u8 (sr.toNat : Int), .int .u8 (sf.toNat : Int), .int .u16 (sz.toNat : Int), .int .u16 (su.toNat : Int), .slice A1r L1r.length c1r, .slice A2r L2r.length c2r] 59) = V3 at *
  refine region_put (by kernel_rfl) (by kernel_rfl) (by kernel_rfl) 148 rfl (by kernel_rfl) V3 (fun i v W => match i with
      | 0 => v = .iface 59 (.agg #[.int .u16 (sa.toNat : Int), .int .u16 (sb.toNat : Int), .int .u32 (sq.toNat : Int), .int .u32 (sk.toNat : Int), .int .u8 (sr.toNat : Int), .int .u8 (sf.toNat : Int), .int .u16 (sz.toNat : Int), .int .u16 (su.toNat : Int), .slice A1 L1.length c1, .slice A2 L2.length c2])
      | 1 => v = .int .i64 3
      | 2 => v = .bool true
      | 3 => v = .bool true
      | 4 => v = .iface 59 (.agg #[.int .u16 (sa.toNat : Int), .int .u16 (sb.toNat : Int), .int .u32 (sq.toNat : Int), .int .u32 (sk.toNat : Int), .int .u8 (sr.toNat : Int), .int .u8 (sf.toNat : Int), .int .u16 (sz.toNat : Int), .int .u16 (su.toNat : Int), .slice A1 L1.length c1, .slice A2 L2.length c2])
      | 5 => v = .agg #[.int .u16 (sa.toNat : Int), .int .u16 (sb.toNat : Int), .int .u32 (sq.toNat : Int), .int .u32 (sk.toNat : Int), .int .u8 (sr.toNat : Int), .int .u8 (sf.toNat : Int), .int .u16 (sz.toNat : Int), .int .u16 (su.toNat : Int), .slice A1 L1.length c1, .slice A2 L2.length c2]
      | 6 => v = .agg #[.int .u16 (sa.toNat : Int), .int .u16 (sb.toNat : Int), .int .u32 (sq.toNat : Int), .int .u32 (sk.toNat : Int), .int .u8 (sr.toNat : Int), .int .u8 (sf.toNat : Int), .int .u16 (sz.toNat : Int), .int .u16 (su.toNat : Int), .slice A1r L1r.length c1r, .slice A2r L2r.length c2r]
      | 7 => v = .bool true
      | 8 => v = .bool true
      | 9 => v = .bool true
      | 10 => v = .bool true
      | 11 => v = .bool true
      | 12 => v = .bool true
      | _ => True) (Below.refl _ _) ?_ ?_ ?_
  · intro i v W W' h hb
    match i, h with
    | 0, h => exact h
    | 1, h => exact h
    | 2, h => exact h
    | 3, h => exact h
    | 4, h => exact h
    | 5, h => exact h
    | 6, h => exact h
    | 7, h => exact h
    | 8, h => exact h
    | 9, h => exact h
    | 10, h => exact h
    | 11, h => exact h
    | 12, h => exact h
    | _ + 13, _ => trivial
  · intro i o uu W hoo hVW hd
    rcases i with _|_|_|_|_|_|_|_|_|_|_|_|_|i
    · obtain rfl := Option.some.inj hoo
      refine .inl ⟨wanted_none rfl, ?_⟩
      generalize hev : Act.eval _ = ev
      have ec : ∀ c, ev (.const c) = c := fun c => by rw [← hev]; rfl
      have e3 : ev (.tmp 3) = .iface 59 (.agg #[.int .u16 (sa.toNat : Int), .int .u16 (sb.toNat : Int), .int .u32 (sq.toNat : Int), .int .u32 (sk.toNat : Int), .int .u8 (sr.toNat : Int), .int .u8 (sf.toNat : Int), .int .u16 (sz.toNat : Int), .int .u16 (su.toNat : Int), .slice A1 L1.length c1, .slice A2 L2.length c2]) := by rw [← hev]; exact eval_old (by kernel_rfl) 148 rfl (by decide) rfl
      clear hev hd
      exact .inl ⟨_, W, by go_simp, rfl, Below.refl _ _⟩
    · obtain rfl := Option.some.inj hoo
      have q0 : uu 0 = .iface 59 (.agg #[.int .u16 (sa.toNat : Int), .int .u16 (sb.toNat : Int), .int .u32 (sq.toNat : Int), .int .u32 (sk.toNat : Int), .int .u8 (sr.toNat : Int), .int .u8 (sf.toNat : Int), .int .u16 (sz.toNat : Int), .int .u16 (su.toNat : Int), .slice A1 L1.length c1, .slice A2 L2.length c2]) := hd 0 (by kernel_rfl)
      refine .inl ⟨wanted_none rfl, ?_⟩
      generalize hev : Act.eval _ = ev
      have ec : ∀ c, ev (.const c) = c := fun c => by rw [← hev]; rfl
      have ef : ∀ f, ev (.func f) = .func (.func f) #[] #[] := fun f => by rw [← hev]; rfl
      have e127 : ev (.tmp 127) = .iface 59 (.agg #[.int .u16 (sa.toNat : Int), .int .u16 (sb.toNat : Int), .int .u32 (sq.toNat : Int), .int .u32 (sk.toNat : Int), .int .u8 (sr.toNat : Int), .int .u8 (sf.toNat : Int), .int .u16 (sz.toNat : Int), .int .u16 (su.toNat : Int), .slice A1 L1.length c1, .slice A2 L2.length c2]) := by rw [← hev]; exact (eval_put (by kernel_rfl) 148 rfl (by decide)).trans q0
      clear hev hd q0
      exact .inr ⟨_, _, _, by go_simp, kind_sg sa sb sq sk sr sf sz su A1 A2 c1 c2 L1 L2 W, fun e w' he => ⟨_, he.1, rfl, he.2⟩⟩
    · obtain rfl := Option.some.inj hoo
      have q1 : uu 1 = .int .i64 3 := hd 1 (by kernel_rfl)
      refine .inl ⟨wanted_none rfl, ?_⟩
      generalize hev : Act.eval _ = ev
      have ec : ∀ c, ev (.const c) = c := fun c => by rw [← hev]; rfl
      have e128 : ev (.tmp 128) = .int .i64 3 := by rw [← hev]; exact (eval_put (by kernel_rfl) 148 rfl (by decide)).trans q1
      clear hev hd q1
      exact .inl ⟨_, W, by go_simp, rfl, Below.refl _ _⟩
    · obtain rfl := Option.some.inj hoo
      have q2 : uu 2 = .bool true := hd 2 (by kernel_rfl)
      refine .inl ⟨wanted_none rfl, ?_⟩
      generalize hev : Act.eval _ = ev
      have ec : ∀ c, ev (.const c) = c := fun c => by rw [← hev]; rfl
      have e129 : ev (.tmp 129) = .bool true := by rw [← hev]; exact (eval_put (by kernel_rfl) 148 rfl (by decide)).trans q2
      clear hev hd q2
      exact .inl ⟨_, W, by go_simp, rfl, Below.refl _ _⟩
    · obtain rfl := Option.some.inj hoo
      have q3 : uu 3 = .bool true := hd 3 (by kernel_rfl)
      refine .inl ⟨wanted_yes rfl (yielded_put (k := 130) (by kernel_rfl) (by kernel_rfl) 148 rfl (by decide) q3), ?_⟩
      generalize hev : Act.eval _ = ev
      have ec : ∀ c, ev (.const c) = c := fun c => by rw [← hev]; rfl
      have e3 : ev (.tmp 3) = .iface 59 (.agg #[.int .u16 (sa.toNat : Int), .int .u16 (sb.toNat : Int), .int .u32 (sq.toNat : Int), .int .u32 (sk.toNat : Int), .int .u8 (sr.toNat : Int), .int .u8 (sf.toNat : Int), .int .u16 (sz.toNat : Int), .int .u16 (su.toNat : Int), .slice A1 L1.length c1, .slice A2 L2.length c2]) := by rw [← hev]; exact eval_old (by kernel_rfl) 148 rfl (by decide) rfl
      clear hev hd q3
      exact .inl ⟨_, W, by go_simp, rfl, Below.refl _ _⟩
    · obtain rfl := Option.some.inj hoo
      have q4 : uu 4 = .iface 59 (.agg #[.int .u16 (sa.toNat : Int), .int .u16 (sb.toNat : Int), .int .u32 (sq.toNat : Int), .int .u32 (sk.toNat : Int), .int .u8 (sr.toNat : Int), .int .u8 (sf.toNat : Int), .int .u16 (sz.toNat : Int), .int .u16 (su.toNat : Int), .slice A1 L1.length c1, .slice A2 L2.length c2]) := hd 4 (by kernel_rfl)
      have q3 : uu 3 = .bool true := hd 3 (by kernel_rfl)
      refine .inl ⟨wanted_yes rfl (yielded_put (k := 130) (by kernel_rfl) (by kernel_rfl) 148 rfl (by decide) q3), ?_⟩
      generalize hev : Act.eval _ = ev
      have ec : ∀ c, ev (.const c) = c := fun c => by rw [← hev]; rfl
      have ef : ∀ f, ev (.func f) = .func (.func f) #[] #[] := fun f => by rw [← hev]; rfl
      have e131 : ev (.tmp 131) = .iface 59 (.agg #[.int .u16 (sa.toNat : Int), .int .u16 (sb.toNat : Int), .int .u32 (sq.toNat : Int), .int .u32 (sk.toNat : Int), .int .u8 (sr.toNat : Int), .int .u8 (sf.toNat : Int), .int .u16 (sz.toNat : Int), .int .u16 (su.toNat : Int), .slice A1 L1.length c1, .slice A2 L2.length c2]) := by rw [← hev]; exact (eval_put (by kernel_rfl) 148 rfl (by decide)).trans q4
      clear hev hd q4 q3
      exact .inr ⟨_, _, _, by go_simp, must_sg sa sb sq sk sr sf sz su A1 A2 c1 c2 L1 L2 W, fun e w' he => ⟨_, he.1, rfl, he.2⟩⟩
    · obtain rfl := Option.some.inj hoo
      have q3 : uu 3 = .bool true := hd 3 (by kernel_rfl)
      refine .inl ⟨wanted_yes rfl (yielded_put (k := 130) (by kernel_rfl) (by kernel_rfl) 148 rfl (by decide) q3), ?_⟩
      generalize hev : Act.eval _ = ev
      have ec : ∀ c, ev (.const c) = c := fun c => by rw [← hev]; rfl
      have e9 : ev (.tmp 9) = .pointer (some ⟨GM, 0, none⟩) := by rw [← hev]; exact eval_old (by kernel_rfl) 148 rfl (by decide) rfl
      clear hev hd q3
      exact .inl ⟨_, W, load_blk Try.underlying59 (by kernel_rfl) (KM.next hVW) rfl e9, rfl, Below.refl _ _⟩
    · obtain rfl := Option.some.inj hoo
      have q5 : uu 5 = .agg #[.int .u16 (sa.toNat : Int), .int .u16 (sb.toNat : Int), .int .u32 (sq.toNat : Int), .int .u32 (sk.toNat : Int), .int .u8 (sr.toNat : Int), .int .u8 (sf.toNat : Int), .int .u16 (sz.toNat : Int), .int .u16 (su.toNat : Int), .slice A1 L1.length c1, .slice A2 L2.length c2] := hd 5 (by kernel_rfl)
      have q6 : uu 6 = .agg #[.int .u16 (sa.toNat : Int), .int .u16 (sb.toNat : Int), .int .u32 (sq.toNat : Int), .int .u32 (sk.toNat : Int), .int .u8 (sr.toNat : Int), .int .u8 (sf.toNat : Int), .int .u16 (sz.toNat : Int), .int .u16 (su.toNat : Int), .slice A1r L1r.length c1r, .slice A2r L2r.length c2r] := hd 6 (by kernel_rfl)
      have q3 : uu 3 = .bool true := hd 3 (by kernel_rfl)
      refine .inl ⟨wanted_yes rfl (yielded_put (k := 130) (by kernel_rfl) (by kernel_rfl) 148 rfl (by decide) q3), ?_⟩
      generalize hev : Act.eval _ = ev
      have ec : ∀ c, ev (.const c) = c := fun c => by rw [← hev]; rfl
      have ef : ∀ f, ev (.func f) = .func (.func f) #[] #[] := fun f => by rw [← hev]; rfl
      have e132 : ev (.tmp 132) = .agg #[.int .u16 (sa.toNat : Int), .int .u16 (sb.toNat : Int), .int .u32 (sq.toNat : Int), .int .u32 (sk.toNat : Int), .int .u8 (sr.toNat : Int), .int .u8 (sf.toNat : Int), .int .u16 (sz.toNat : Int), .int .u16 (su.toNat : Int), .slice A1 L1.length c1, .slice A2 L2.length c2] := by rw [← hev]; exact (eval_put (by kernel_rfl) 148 rfl (by decide)).trans q5
      have e133 : ev (.tmp 133) = .agg #[.int .u16 (sa.toNat : Int), .int .u16 (sb.toNat : Int), .int .u32 (sq.toNat : Int), .int .u32 (sk.toNat : Int), .int .u8 (sr.toNat : Int), .int .u8 (sf.toNat : Int), .int .u16 (sz.toNat : Int), .int .u16 (su.toNat : Int), .slice A1r L1r.length c1r, .slice A2r L2r.length c2r] := by rw [← hev]; exact (eval_put (by kernel_rfl) 148 rfl (by decide)).trans q6
      clear hev hd q5 q6 q3
      exact .inr ⟨_, _, _, by go_simp, tsame_yes sa sb sq sk sr sf sz su A1 A2 A1r A2r c1 c2 c1r c2r L1 L2 L1r L2r W (r1.next hVW) (r2.next hVW) (r1r.next hVW) (r2r.next hVW) (by rw [HL1.out, HL1r.out]) (by rw [HL2.out, HL2r.out]), fun e w' he => ⟨_, he.1, rfl, he.2⟩⟩
    · obtain rfl := Option.some.inj hoo
      have q3 : uu 3 = .bool true := hd 3 (by kernel_rfl)
      have q7 : uu 7 = .bool true := hd 7 (by kernel_rfl)
      refine .inl ⟨wanted_none rfl, ?_⟩
      generalize hev : Act.eval _ = ev
      have ec : ∀ c, ev (.const c) = c := fun c => by rw [← hev]; rfl
      have e130 : ev (.tmp 130) = .bool true := by rw [← hev]; exact (eval_put (by kernel_rfl) 148 rfl (by decide)).trans q3
      have e134 : ev (.tmp 134) = .bool true := by rw [← hev]; exact (eval_put (by kernel_rfl) 148 rfl (by decide)).trans q7
      clear hev hd q3 q7
      exact .inl ⟨_, W, by go_simp, rfl, Below.refl _ _⟩
    · obtain rfl := Option.some.inj hoo
      have q8 : uu 8 = .bool true := hd 8 (by kernel_rfl)
      refine .inl ⟨wanted_none rfl, ?_⟩
      generalize hev : Act.eval _ = ev
      have ec : ∀ c, ev (.const c) = c := fun c => by rw [← hev]; rfl
      have e135 : ev (.tmp 135) = .bool true := by rw [← hev]; exact (eval_put (by kernel_rfl) 148 rfl (by decide)).trans q8
      clear hev hd q8
      exact .inl ⟨_, W, by go_simp, rfl, Below.refl _ _⟩
    · obtain rfl := Option.some.inj hoo
      have q9 : uu 9 = .bool true := hd 9 (by kernel_rfl)
      refine .inl ⟨wanted_yes rfl (yielded_put (k := 136) (by kernel_rfl) (by kernel_rfl) 148 rfl (by decide) q9), ?_⟩
      generalize hev : Act.eval _ = ev
      have ec : ∀ c, ev (.const c) = c := fun c => by rw [← hev]; rfl
      have ef : ∀ f, ev (.func f) = .func (.func f) #[] #[] := fun f => by rw [← hev]; rfl
      clear hev hd q9
      exact .inr ⟨_, _, _, by go_simp, lives26_any W, fun e w' he => ⟨_, he.1, rfl, he.2⟩⟩
    · obtain rfl := Option.some.inj hoo
      have q9 : uu 9 = .bool true := hd 9 (by kernel_rfl)
      have q10 : uu 10 = .bool true := hd 10 (by kernel_rfl)
      refine .inl ⟨wanted_none rfl, ?_⟩
      generalize hev : Act.eval _ = ev
      have ec : ∀ c, ev (.const c) = c := fun c => by rw [← hev]; rfl
      have e136 : ev (.tmp 136) = .bool true := by rw [← hev]; exact (eval_put (by kernel_rfl) 148 rfl (by decide)).trans q9
      have e137 : ev (.tmp 137) = .bool true := by rw [← hev]; exact (eval_put (by kernel_rfl) 148 rfl (by decide)).trans q10
      clear hev hd q9 q10
      exact .inl ⟨_, W, by go_simp, rfl, Below.refl _ _⟩
    · obtain rfl := Option.some.inj hoo
      have q11 : uu 11 = .bool true := hd 11 (by kernel_rfl)
      refine .inl ⟨wanted_none rfl, ?_⟩
      generalize hev : Act.eval _ = ev
      have ec : ∀ c, ev (.const c) = c := fun c => by rw [← hev]; rfl
      have e138 : ev (.tmp 138) = .bool true := by rw [← hev]; exact (eval_put (by kernel_rfl) 148 rfl (by decide)).trans q11
      clear hev hd q11
      exact .inl ⟨_, W, by go_simp, rfl, Below.refl _ _⟩
    · simp at hoo
  · intro uu W hVW hall
    have q12 : uu 12 = .bool true := hall 12 (by decide)
    replace hB := hB.trans (hVW.mono hB.size)
    clear hall hVW KM r1 r2 r1r r2r
    simp only [putAll, Act.put, Nat.reduceAdd, q12]
    simp only [List.setIfInBounds_toArray, List.set_cons_succ, List.set_cons_zero]
    go_wp2_with fail
    go_ret
    exact ⟨rfl, hB⟩

set_option maxHeartbeats 16000000 in
set_option maxRecDepth 20000 in
theorem recvbody_sg_no (tos : UInt8) (id : UInt16) (D M : Bool) (fo : UInt16) (ttl pr : UInt8) (s d : UInt32) (a8 a9 : Option Addr) (len8 cap8 len9 cap9 : Nat) (os xs : List UInt8) (w : World) (hx0 : Rd bv w w.heap.size a9 cap9 xs) (sa sb : UInt16) (sq sk : UInt32) (sr sf : UInt8) (sz su : UInt16) (Q1 Q2 : List UInt8) (h1 : ((pr.toNat : Int) == 1) = false) (h17 : ((pr.toNat : Int) == 17) = false) (h6 : ((pr.toNat : Int) == 6) = true) (er : Int) (he : ((er : Int) != 0) = true)
    (HF : ∀ W, Hid (Calls Try.prog 14 #[.agg #[.int .u8 (tos.toNat : Int), .int .u16 (id.toNat : Int), .bool D, .bool M, .int .u16 (fo.toNat : Int), .int .u8 (ttl.toNat : Int), .int .u8 (pr.toNat : Int), .int .u32 (s.toNat : Int), .int .u32 (d.toNat : Int), .slice a8 len8 cap8, .slice a9 len9 cap9]] W fun e w' => e = .returned (.agg #[.int .u8 (tos.toNat : Int), .int .u16 (id.toNat : Int), .bool D, .bool M, .int .u16 (fo.toNat : Int), .int .u8 (ttl.toNat : Int), .int .u8 (pr.toNat : Int), .int .u32 (s.toNat : Int), .int .u32 (d.toNat : Int), .slice a8 os.length cap8, .slice a9 xs.length cap9]) ∧ Below W.heap.size W w'))
    (HP1 : ∀ A c W, Rd bv W W.heap.size A c xs → Hid (Calls Try.prog 60 #[.int .u32 (s.toNat : Int), .int .u32 (d.toNat : Int), .slice A xs.length c] W fun e w' => ∃ (L1 : List UInt8) (A1 : Option Addr) (c1 : Nat) (L2 : List UInt8) (A2 : Option Addr) (c2 : Nat), e = .returned (.tuple #[.agg #[.int .u16 (sa.toNat : Int), .int .u16 (sb.toNat : Int), .int .u32 (sq.toNat : Int), .int .u32 (sk.toNat : Int), .int .u8 (sr.toNat : Int), .int .u8 (sf.toNat : Int), .int .u16 (sz.toNat : Int), .int .u16 (su.toNat : Int), .slice A1 L1.length c1, .slice A2 L2.length c2], .int .i64 er]) ∧ Hid (L1 = Q1) ∧ Rd bv w' w'.heap.size A1 c1 L1 ∧ Hid (L2 = Q2) ∧ Rd bv w' w'.heap.size A2 c2 L2 ∧ Below W.heap.size W w'))
    (HP2 : ∀ A c W, Rd bv W W.heap.size A c xs → Hid (Calls Try.prog 27 #[.int .u32 (s.toNat : Int), .int .u32 (d.toNat : Int), .slice A xs.length c] W fun e w' => ∃ (L1 : List UInt8) (A1 : Option Addr) (c1 : Nat) (L2 : List UInt8) (A2 : Option Addr) (c2 : Nat), e = .returned (.tuple #[.agg #[.int .u16 (sa.toNat : Int), .int .u16 (sb.toNat : Int), .int .u32 (sq.toNat : Int), .int .u32 (sk.toNat : Int), .int .u8 (sr.toNat : Int), .int .u8 (sf.toNat : Int), .int .u16 (sz.toNat : Int), .int .u16 (su.toNat : Int), .slice A1 L1.length c1, .slice A2 L2.length c2], .int .i64 er]) ∧ Hid (L1 = Q1) ∧ Rd bv w' w'.heap.size A1 c1 L1 ∧ Hid (L2 = Q2) ∧ Rd bv w' w'.heap.size A2 c2 L2 ∧ Below W.heap.size W w')) :
    Calls Try.prog 5 #[.agg #[.int .u8 (tos.toNat : Int), .int .u16 (id.toNat : Int), .bool D, .bool M, .int .u16 (fo.toNat : Int), .int .u8 (ttl.toNat : Int), .int .u8 (pr.toNat : Int), .int .u32 (s.toNat : Int), .int .u32 (d.toNat : Int), .slice a8 len8 cap8, .slice a9 len9 cap9]] w fun e w' => e = .returned (.bool true) ∧ Below w.heap.size w w' := by
  go_enter Try.func5, Try.ntmps5
  go_wp2_with fail
  refine (HF _).out.mono ?_
  rintro e w_1 ⟨rfl, hbel⟩
  have hB := bnext (bnextA (Below.refl w.heap.size w) _) hbel
  have hK := (Blk.new w #[.int .u8 (tos.toNat : Int), .int .u16 (id.toNat : Int), .bool D, .bool M, .int .u16 (fo.toNat : Int), .int .u8 (ttl.toNat : Int), .int .u8 (pr.toNat : Int), .int .u32 (s.toNat : Int), .int .u32 (d.toNat : Int), .slice a8 len8 cap8, .slice a9 len9 cap9] 38).next hbel
  obtain ⟨p0, p1, p2, p3, p4, p5, p6, p7, p8, p9, p10, g0, g1, g2, g3, g4, g5, g6, g7, g8, g9, g10⟩ := hK.get11
  clear hbel HF
  go_wp2_with fail
  have hBV := bset11 hB (Nat.le_refl _) (.int .u8 (tos.toNat : Int)) (.int .u16 (id.toNat : Int)) (.bool D) (.bool M) (.int .u16 (fo.toNat : Int)) (.int .u8 (ttl.toNat : Int)) (.int .u8 (pr.toNat : Int)) (.int .u32 (s.toNat : Int)) (.int .u32 (d.toNat : Int)) (.slice a8 os.length cap8) (.slice a9 xs.length cap9)
  have hKV := hK.set11 (u0 := .int .u8 (tos.toNat : Int)) (u1 := .int .u16 (id.toNat : Int)) (u2 := .bool D) (u3 := .bool M) (u4 := .int .u16 (fo.toNat : Int)) (u5 := .int .u8 (ttl.toNat : Int)) (u6 := .int .u8 (pr.toNat : Int)) (u7 := .int .u32 (s.toNat : Int)) (u8 := .int .u32 (d.toNat : Int)) (u9 := .slice a8 os.length cap8) (u10 := .slice a9 xs.length cap9)
  simp only [setAll11] at hBV hKV
  clear p0 p1 p2 p3 p4 p5 p6 p7 p8 p9 p10 g0 g1 g2 g3 g4 g5 g6 g7 g8 g9 g10 hB hK
  generalize (((((((((((w_1.setCell ⟨w.heap.size, 0, none⟩ (.int .u8 (tos.toNat : Int))).setCell ⟨w.heap.size, 1, none⟩ (.int .u16 (id.toNat : Int))).setCell ⟨w.heap.size, 2, none⟩ (.bool D)).setCell ⟨w.heap.size, 3, none⟩ (.bool M)).setCell ⟨w.heap.size, 4, none⟩ (.int .u16 (fo.toNat : Int))).setCell ⟨w.heap.size, 5, none⟩ (.int .u8 (ttl.toNat : Int))).setCell ⟨w.heap.size, 6, none⟩ (.int .u8 (pr.toNat : Int))).setCell ⟨w.heap.size, 7, none⟩ (.int .u32 (s.toNat : Int))).setCell ⟨w.heap.size, 8, none⟩ (.int .u32 (d.toNat : Int))).setCell ⟨w.heap.size, 9, none⟩ (.slice a8 os.length cap8)).setCell ⟨w.heap.size, 10, none⟩ (.slice a9 xs.length cap9)) = V at hBV hKV ⊢
  have hx := hx0.next hBV
  have hB := hBV
  have hK := hKV
  clear hBV hKV hx0
  obtain ⟨p0, p1, p2, p3, p4, p5, p6, p7, p8, p9, p10, -⟩ := hK.get11
  refine (body_sg_no tos id D M fo ttl pr s d a8 a9 os.length cap8 cap9 xs sa sb sq sk sr sf sz su Q1 Q2 _ hx h1 h17 h6 er he HP1).mono ?_
  rintro e w_2 ⟨rfl, hbel⟩
  replace hB := bnext hB hbel
  replace hK := hK.next hbel
  replace hx := hx.next hbel
  clear hbel HP1 p0 p1 p2 p3 p4 p5 p6 p7 p8 p9 p10
  obtain ⟨p0, p1, p2, p3, p4, p5, p6, p7, p8, p9, p10, -⟩ := hK.get11
  have hlt := hK.lt
  go_wp2_with fail
  refine (HP2 _ _ _ hx).out.mono ?_
  rintro e w_3 ⟨L1r, A1r, c1r, L2r, A2r, c2r, rfl, HL1r, r1r, HL2r, r2r, hbel⟩
  replace hB := bnextA (bnext hB hbel) (.cells #[.int .u16 (sa.toNat : Int), .int .u16 (sb.toNat : Int), .int .u32 (sq.toNat : Int), .int .u32 (sk.toNat : Int), .int .u8 (sr.toNat : Int), .int .u8 (sf.toNat : Int), .int .u16 (sz.toNat : Int), .int .u16 (su.toNat : Int), .slice A1r L1r.length c1r, .slice A2r L2r.length c2r] 59)
  clear hbel HP2 hx p0 p1 p2 p3 p4 p5 p6 p7 p8 p9 p10 hlt hK
  go_wp2_with fail
  refine (lives26_any _).mono ?_
  rintro e wl ⟨rfl, hbel⟩
  replace hB := bnext hB hbel
  go_wp2_with fail
  go_ret
  exact ⟨rfl, hB⟩

set_option maxHeartbeats 8000000 in
set_option maxRecDepth 20000 in
theorem recvbody_form (tos : UInt8) (id : UInt16) (D M : Bool) (fo : UInt16) (ttl pr : UInt8) (s d : UInt32) (a8 a9 : Option Addr) (len8 cap8 len9 cap9 : Nat) (os xs : List UInt8) (w : World) (hx0 : Rd bv w w.heap.size a9 cap9 xs) (h1 : ((pr.toNat : Int) == 1) = false) (h17 : ((pr.toNat : Int) == 17) = false) (h6 : ((pr.toNat : Int) == 6) = false)
    (HF : ∀ W, Hid (Calls Try.prog 14 #[.agg #[.int .u8 (tos.toNat : Int), .int .u16 (id.toNat : Int), .bool D, .bool M, .int .u16 (fo.toNat : Int), .int .u8 (ttl.toNat : Int), .int .u8 (pr.toNat : Int), .int .u32 (s.toNat : Int), .int .u32 (d.toNat : Int), .slice a8 len8 cap8, .slice a9 len9 cap9]] W fun e w' => e = .returned (.agg #[.int .u8 (tos.toNat : Int), .int .u16 (id.toNat : Int), .bool D, .bool M, .int .u16 (fo.toNat : Int), .int .u8 (ttl.toNat : Int), .int .u8 (pr.toNat : Int), .int .u32 (s.toNat : Int), .int .u32 (d.toNat : Int), .slice a8 os.length cap8, .slice a9 xs.length cap9]) ∧ Below W.heap.size W w')) :
    Calls Try.prog 5 #[.agg #[.int .u8 (tos.toNat : Int), .int .u16 (id.toNat : Int), .bool D, .bool M, .int .u16 (fo.toNat : Int), .int .u8 (ttl.toNat : Int), .int .u8 (pr.toNat : Int), .int .u32 (s.toNat : Int), .int .u32 (d.toNat : Int), .slice a8 len8 cap8, .slice a9 len9 cap9]] w fun e w' => e = .returned (.bool true) ∧ Below w.heap.size w w' := by
  go_enter Try.func5, Try.ntmps5
  go_wp2_with fail
  refine (HF _).out.mono ?_
  rintro e w_1 ⟨rfl, hbel⟩
  have hB := bnext (bnextA (Below.refl w.heap.size w) _) hbel
  have hK := (Blk.new w #[.int .u8 (tos.toNat : Int), .int .u16 (id.toNat : Int), .bool D, .bool M, .int .u16 (fo.toNat : Int), .int .u8 (ttl.toNat : Int), .int .u8 (pr.toNat : Int), .int .u32 (s.toNat : Int), .int .u32 (d.toNat : Int), .slice a8 len8 cap8, .slice a9 len9 cap9] 38).next hbel
  obtain ⟨p0, p1, p2, p3, p4, p5, p6, p7, p8, p9, p10, g0, g1, g2, g3, g4, g5, g6, g7, g8, g9, g10⟩ := hK.get11
  clear hbel HF
  go_wp2_with fail
  have hBV := bset11 hB (Nat.le_refl _) (.int .u8 (tos.toNat : Int)) (.int .u16 (id.toNat : Int)) (.bool D) (.bool M) (.int .u16 (fo.toNat : Int)) (.int .u8 (ttl.toNat : Int)) (.int .u8 (pr.toNat : Int)) (.int .u32 (s.toNat : Int)) (.int .u32 (d.toNat : Int)) (.slice a8 os.length cap8) (.slice a9 xs.length cap9)
  have hKV := hK.set11 (u0 := .int .u8 (tos.toNat : Int)) (u1 := .int .u16 (id.toNat : Int)) (u2 := .bool D) (u3 := .bool M) (u4 := .int .u16 (fo.toNat : Int)) (u5 := .int .u8 (ttl.toNat : Int)) (u6 := .int .u8 (pr.toNat : Int)) (u7 := .int .u32 (s.toNat : Int)) (u8 := .int .u32 (d.toNat : Int)) (u9 := .slice a8 os.length cap8) (u10 := .slice a9 xs.length cap9)
  simp only [setAll11] at hBV hKV
  clear p0 p1 p2 p3 p4 p5 p6 p7 p8 p9 p10 g0 g1 g2 g3 g4 g5 g6 g7 g8 g9 g10 hB hK
  generalize (((((((((((w_1.setCell ⟨w.heap.size, 0, none⟩ (.int .u8 (tos.toNat : Int))).setCell ⟨w.heap.size, 1, none⟩ (.int .u16 (id.toNat : Int))).setCell ⟨w.heap.size, 2, none⟩ (.bool D)).setCell ⟨w.heap.size, 3, none⟩ (.bool M)).setCell ⟨w.heap.size, 4, none⟩ (.int .u16 (fo.toNat : Int))).setCell ⟨w.heap.size, 5, none⟩ (.int .u8 (ttl.toNat : Int))).setCell ⟨w.heap.size, 6, none⟩ (.int .u8 (pr.toNat : Int))).setCell ⟨w.heap.size, 7, none⟩ (.int .u32 (s.toNat : Int))).setCell ⟨w.heap.size, 8, none⟩ (.int .u32 (d.toNat : Int))).setCell ⟨w.heap.size, 9, none⟩ (.slice a8 os.length cap8)).setCell ⟨w.heap.size, 10, none⟩ (.slice a9 xs.length cap9)) = V at hBV hKV ⊢
  have hx := hx0.next hBV
  have hB := hBV
  have hK := hKV
  clear hBV hKV hx0
  obtain ⟨p0, p1, p2, p3, p4, p5, p6, p7, p8, p9, p10, -⟩ := hK.get11
  refine (body_form tos id D M fo ttl pr s d a8 a9 os.length cap8 cap9 xs _ h1 h17 h6).mono ?_
  rintro e w_2 ⟨rfl, hbel⟩
  replace hB := bnext hB hbel
  replace hK := hK.next hbel
  clear hbel p0 p1 p2 p3 p4 p5 p6 p7 p8 p9 p10
  obtain ⟨p0, p1, p2, p3, p4, p5, p6, p7, p8, p9, p10, -⟩ := hK.get11
  have hlt := hK.lt
  go_wp2_with fail
  refine (lives26_any _).mono ?_
  rintro e wl ⟨rfl, hbel⟩
  replace hB := bnext hB hbel
  go_wp2_with fail
  go_ret
  exact ⟨rfl, hB⟩

theorem RecvBody_walk (a0_0 : Int) (a0_1 : Int) (a0_2 : Bool) (a0_3 : Bool) (a0_4 : Int) (a0_5 : Int) (a0_6 : Int) (a0_7 : Int) (a0_8 : Int) (a0_9 : Option Addr) (len0_9 cap0_9 : Nat) (z0_9 : List Int) (a0_10 : Option Addr) (len0_10 cap0_10 : Nat) (z0_10 : List Int) (w : World) (w0_0 : (Lit.int .u8 a0_0).wf = true) (w0_1 : (Lit.int .u16 a0_1).wf = true) (w0_4 : (Lit.int .u16 a0_4).wf = true) (w0_5 : (Lit.int .u8 a0_5).wf = true) (w0_6 : (Lit.int .u8 a0_6).wf = true) (w0_7 : (Lit.int .u32 a0_7).wf = true) (w0_8 : (Lit.int .u32 a0_8).wf = true) (w0_9 : InRow .u8 w a0_9 len0_9 cap0_9 z0_9) (w0_10 : InRow .u8 w a0_10 len0_10 cap0_10 z0_10) :
    Calls Try.prog 5 #[.agg #[.int .u8 a0_0, .int .u16 a0_1, .bool a0_2, .bool a0_3, .int .u16 a0_4, .int .u8 a0_5, .int .u8 a0_6, .int .u32 a0_7, .int .u32 a0_8, .slice a0_9 len0_9 cap0_9, .slice a0_10 len0_10 cap0_10]] w fun e w' => e = .returned (.bool true) ∧ Below w.heap.size w w' := by
  obtain ⟨tos, rfl⟩ := u8_of w0_0
  obtain ⟨id, rfl⟩ := u16_of w0_1
  obtain ⟨fo, rfl⟩ := u16_of w0_4
  obtain ⟨ttl, rfl⟩ := u8_of w0_5
  obtain ⟨pr, rfl⟩ := u8_of w0_6
  obtain ⟨s, rfl⟩ := u32_of w0_7
  obtain ⟨d, rfl⟩ := u32_of w0_8
  obtain ⟨os, -, -, hl1, hc1, hm1⟩ := few_len w0_9 50
  obtain ⟨xs, hxl, hx0, hl2, hc2, hm2⟩ := few_len w0_10 300
  have HF := fun W => Lib.hid (pfew_any tos id a0_2 a0_3 fo ttl pr s d a0_9 a0_10 len0_9 cap0_9 len0_10 cap0_10 os.length xs.length W hl1 hc1 hl2 hc2 hm1 hm2)
  by_cases p1 : pr.toNat = 1
  · obtain ⟨ty, co, re, Q1, er, hle, HP1, HP2⟩ := icmp_both xs (by omega)
    have HP1 := fun A c W h => Lib.hid (HP1 A c W h)
    have HP2 := fun A c W h => Lib.hid (HP2 A c W h)
    by_cases he : er = 0
    · subst he
      exact recvbody_icmp_ok tos id a0_2 a0_3 fo ttl pr s d a0_9 a0_10 len0_9 cap0_9 len0_10 cap0_10 os xs w hx0 ty co re Q1 (by simp; omega) HF HP1 HP2
    · exact recvbody_icmp_no tos id a0_2 a0_3 fo ttl pr s d a0_9 a0_10 len0_9 cap0_9 len0_10 cap0_10 os xs w hx0 ty co re Q1 (by simp; omega) er (by simpa using he) HF HP1 HP2
  by_cases p17 : pr.toNat = 17
  · obtain ⟨a, b, g, Q1, er, hle, HP1, HP2⟩ := dg_both s d xs (by omega)
    have HP1 := fun A c W h => Lib.hid (HP1 A c W h)
    have HP2 := fun A c W h => Lib.hid (HP2 A c W h)
    by_cases he : er = 0
    · subst he
      exact recvbody_dg_ok tos id a0_2 a0_3 fo ttl pr s d a0_9 a0_10 len0_9 cap0_9 len0_10 cap0_10 os xs w hx0 a b g Q1 (by simp; omega) (by simp; omega) HF HP1 HP2
    · exact recvbody_dg_no tos id a0_2 a0_3 fo ttl pr s d a0_9 a0_10 len0_9 cap0_9 len0_10 cap0_10 os xs w hx0 a b g Q1 (by simp; omega) (by simp; omega) er (by simpa using he) HF HP1 HP2
  by_cases p6 : pr.toNat = 6
  · obtain ⟨sa, sb, sq, sk, sr, sf, sz, su, Q1, Q2, er, hle, HP1, HP2⟩ := sg_both s d xs (by omega)
    have HP1 := fun A c W h => Lib.hid (HP1 A c W h)
    have HP2 := fun A c W h => Lib.hid (HP2 A c W h)
    by_cases he : er = 0
    · subst he
      exact recvbody_sg_ok tos id a0_2 a0_3 fo ttl pr s d a0_9 a0_10 len0_9 cap0_9 len0_10 cap0_10 os xs w hx0 sa sb sq sk sr sf sz su Q1 Q2 (by simp; omega) (by simp; omega) (by simp; omega) HF HP1 HP2
    · exact recvbody_sg_no tos id a0_2 a0_3 fo ttl pr s d a0_9 a0_10 len0_9 cap0_9 len0_10 cap0_10 os xs w hx0 sa sb sq sk sr sf sz su Q1 Q2 (by simp; omega) (by simp; omega) (by simp; omega) er (by simpa using he) HF HP1 HP2
  exact recvbody_form tos id a0_2 a0_3 fo ttl pr s d a0_9 a0_10 len0_9 cap0_9 len0_10 cap0_10 os xs w hx0 (by simp; omega) (by simp; omega) (by simp; omega) HF
end Go.Proofs.Ytkoamiefombilaa
