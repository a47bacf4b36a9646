/- The walk of the statement on ipv4.Put. -/
import Derived.Test.YtfejdfdgbfpgkaaLaw06
import Derived.Test.YtfejdfdgbfpgkaaIp7
namespace Go.Proofs.Ytfejdfdgbfpgkaa
open Go.RowKit

set_option maxHeartbeats 8000000 in
set_option maxRecDepth 20000 in
theorem Ipv4Puts_walk (y0 y1 : Int) (D M : Bool) (y4 y5 y6 y7 y8 : Int) (a8 : Option Addr) (len8 cap8 : Nat) (z8 : List Int) (a9 : Option Addr) (len9 cap9 : Nat) (z9 : List Int) (a1 : Option Addr) (len1 cap1 : Nat) (z1 : List Int) (w : World) (v0 : (Lit.int .u8 y0).wf = true) (v1 : (Lit.int .u16 y1).wf = true) (v4 : (Lit.int .u16 y4).wf = true) (v5 : (Lit.int .u8 y5).wf = true) (v6 : (Lit.int .u8 y6).wf = true) (v7 : (Lit.int .u32 y7).wf = true) (v8 : (Lit.int .u32 y8).wf = true) (w8 : InRow .u8 w a8 len8 cap8 z8) (w9 : InRow .u8 w a9 len9 cap9 z9) (w1 : InRow .u8 w a1 len1 cap1 z1) :
    Calls Try.prog 4 #[.agg #[.int .u8 y0, .int .u16 y1, .bool D, .bool M, .int .u16 y4, .int .u8 y5, .int .u8 y6, .int .u32 y7, .int .u32 y8, .slice a8 len8 cap8, .slice a9 len9 cap9], .slice a1 len1 cap1] w fun e w' => e = .returned (.bool true) ∧ Below w.heap.size w w' := by
  obtain ⟨tos, rfl⟩ := u8_of v0
  obtain ⟨id, rfl⟩ := u16_of v1
  obtain ⟨fo, rfl⟩ := u16_of v4
  obtain ⟨ttl, rfl⟩ := u8_of v5
  obtain ⟨pr, rfl⟩ := u8_of v6
  obtain ⟨s, rfl⟩ := u32_of v7
  obtain ⟨d, rfl⟩ := u32_of v8
  obtain ⟨os, hol, ho0, hlc, hcc, hm⟩ := few_len w8 50
  obtain ⟨xs, hxl, hx0, hlc2, hcc2, hm2⟩ := few_len w9 300
  obtain ⟨zs, hzl, hz0, hlz, hcz, hmz⟩ := few_len w1 40
  have HFz : ∀ W, Hid (Calls Try.prog 15 #[.slice a1 len1 cap1, .int .i64 40] W fun e w' => e = .returned (.slice a1 zs.length cap1) ∧ W = w') := by
    intro W
    have := few_le a1 len1 cap1 40 W hlz hcz (by omega)
    rw [hmz.out] at this
    exact this
  clear v0 v1 v4 v5 v6 v7 v8 w8 w9 w1 hlz hcz hmz
  have HF := fun W => Lib.hid (pfew_any tos id D M fo ttl pr s d a8 a9 len8 cap8 len9 cap9 os.length xs.length W hlc hcc hlc2 hcc2 hm hm2)
  have HZ := fun W => Lib.hid (psize_any tos id D M fo ttl pr s d a8 a9 os.length cap8 xs.length cap9 W (by omega))
  obtain ⟨pb, hpb⟩ : ∃ pb, partB M fo = pb := ⟨_, rfl⟩
  have HQ := fun W => Lib.hid (ppart_any tos id D M fo ttl pr s d a8 a9 os.length cap8 xs.length cap9 W)
  have HPB := fun (_ : Unit) => Lib.hid hpb
  rw [hpb] at HQ
  clear hlc hcc hm hlc2 hcc2 hm2 hpb
  have ho16 : (os.length : Int) ≤ 50 := by omega

  by_cases hok : os.length ≤ 40 ∧ os.length % 4 = 0 ∧ fo.toNat ≤ 8191
  · obtain ⟨h1, h2, h3⟩ := hok
    obtain ⟨h8, hh⟩ : ∃ h : UInt8, h.toNat = 69 + os.length / 4 := ⟨UInt8.ofNat (69 + os.length / 4), by simp; omega⟩
    obtain ⟨N, hN⟩ : ∃ N, onesN (ih h8 tos (20 + os.length + xs.length) id (wdN D M fo) ttl pr 0 s d os) = N := ⟨_, rfl⟩
    have HP1 := fun W (g1 : Rd bv W W.heap.size a8 cap8 os) (g2 : Rd bv W W.heap.size a9 cap9 xs) => Lib.hid (pput_ok tos id D M fo ttl pr s d a8 a9 cap8 cap9 os xs W g1 g2 h1 h2 h3 (by omega) h8 hh N hN)
    have HP2 := fun W (g1 : Rd bv W W.heap.size a8 cap8 os) (g2 : Rd bv W W.heap.size a9 cap9 xs) => Lib.hid (rpput_ok tos id D M fo ttl pr s d a8 a9 cap8 cap9 os xs W g1 g2 h1 h2 h3 (by omega) h8 hh N hN)
    have HP3 := fun W => Lib.hid (pcheck_ok tos id D M fo ttl pr s d a8 a9 os.length cap8 xs.length cap9 W h1 h2 h3 (by omega))
    have HP4 := fun (P : List UInt8) (hP : P = ih h8 tos (20 + os.length + xs.length) id (wdN D M fo) ttl pr (65535 - N) s d os ++ (xs ++ zs)) A c W (g : Rd bv W W.heap.size A c P) => Lib.hid (pparse_put tos id D M fo ttl pr s d os xs zs P h8 N h1 h2 h3 (by omega) (by omega) hh hN hP A c W g)
    clear h1 h2 h3 hh hN
    cases M
    · skip
      go_enter Try.func4, Try.ntmps4
      go_wp2_with fail
      refine (HF _).out.mono ?_
      rintro e w_1 ⟨rfl, hbel⟩
      have hB := bnext (bnextA (Below.refl w.heap.size w) _) hbel
      have hK := (Blk.new w #[.int .u8 (tos.toNat : Int), .int .u16 (id.toNat : Int), .bool D, .bool false, .int .u16 (fo.toNat : Int), .int .u8 (ttl.toNat : Int), .int .u8 (pr.toNat : Int), .int .u32 (s.toNat : Int), .int .u32 (d.toNat : Int), .slice a8 len8 cap8, .slice a9 len9 cap9] 27).next hbel
      obtain ⟨p0, p1, p2, p3, p4, p5, p6, p7, p8, p9, p10, g0, g1, g2, g3, g4, g5, g6, g7, g8, g9, g10⟩ := hK.get11
      clear hbel HF
      go_wp2_with fail
      have hBV := bset11 hB (Nat.le_refl _) (.int .u8 (tos.toNat : Int)) (.int .u16 (id.toNat : Int)) (.bool D) (.bool false) (.int .u16 (fo.toNat : Int)) (.int .u8 (ttl.toNat : Int)) (.int .u8 (pr.toNat : Int)) (.int .u32 (s.toNat : Int)) (.int .u32 (d.toNat : Int)) (.slice a8 os.length cap8) (.slice a9 xs.length cap9)
      have hKV := hK.set11 (u0 := .int .u8 (tos.toNat : Int)) (u1 := .int .u16 (id.toNat : Int)) (u2 := .bool D) (u3 := .bool false) (u4 := .int .u16 (fo.toNat : Int)) (u5 := .int .u8 (ttl.toNat : Int)) (u6 := .int .u8 (pr.toNat : Int)) (u7 := .int .u32 (s.toNat : Int)) (u8 := .int .u32 (d.toNat : Int)) (u9 := .slice a8 os.length cap8) (u10 := .slice a9 xs.length cap9)
      simp only [setAll11] at hBV hKV
      clear p0 p1 p2 p3 p4 p5 p6 p7 p8 p9 p10 g0 g1 g2 g3 g4 g5 g6 g7 g8 g9 g10 hB hK
      generalize (((((((((((w_1.setCell ⟨w.heap.size, 0, none⟩ (.int .u8 (tos.toNat : Int))).setCell ⟨w.heap.size, 1, none⟩ (.int .u16 (id.toNat : Int))).setCell ⟨w.heap.size, 2, none⟩ (.bool D)).setCell ⟨w.heap.size, 3, none⟩ (.bool false)).setCell ⟨w.heap.size, 4, none⟩ (.int .u16 (fo.toNat : Int))).setCell ⟨w.heap.size, 5, none⟩ (.int .u8 (ttl.toNat : Int))).setCell ⟨w.heap.size, 6, none⟩ (.int .u8 (pr.toNat : Int))).setCell ⟨w.heap.size, 7, none⟩ (.int .u32 (s.toNat : Int))).setCell ⟨w.heap.size, 8, none⟩ (.int .u32 (d.toNat : Int))).setCell ⟨w.heap.size, 9, none⟩ (.slice a8 os.length cap8)).setCell ⟨w.heap.size, 10, none⟩ (.slice a9 xs.length cap9)) = V at hBV hKV ⊢
      have ho := ho0.next hBV
      have hx := hx0.next hBV
      have hz := hz0.next hBV
      have hB := hBV
      have hK := hKV
      clear hBV hKV ho0 hx0 hz0
      obtain ⟨p0, p1, p2, p3, p4, p5, p6, p7, p8, p9, p10, -⟩ := hK.get11
      refine (HP1 _ ho hx).out.mono ?_
      rintro e w_2 ⟨L2, A2, c2, rfl, HL2, r2, hbel⟩
      replace hB := bnext hB hbel
      replace hK := hK.next hbel
      replace ho := ho.next hbel
      replace hx := hx.next hbel
      replace hz := hz.next hbel
      clear p0 p1 p2 p3 p4 p5 p6 p7 p8 p9 p10
      obtain ⟨p0, p1, p2, p3, p4, p5, p6, p7, p8, p9, p10, -⟩ := hK.get11
      clear hbel
      go_wp2_with fail
      refine (HP2 _ ho hx).out.mono ?_
      rintro e w4 ⟨L3, A3, c3, rfl, HL3, r3, hbel⟩
      replace hB := bnext hB hbel
      replace hK := hK.next hbel
      replace ho := ho.next hbel
      replace hx := hx.next hbel
      replace hz := hz.next hbel
      replace r2 := r2.next hbel
      clear hbel p0 p1 p2 p3 p4 p5 p6 p7 p8 p9 p10 HP1 HP2
      go_wp2_with fail
      have HSM : ∀ W, Below w4.heap.size w4 W → Hid (Calls Try.prog 23 #[.slice A2 L2.length c2, .slice A3 L3.length c3] W fun e w' => e = .returned (.bool true) ∧ Below W.heap.size W w') := fun W h => (rsame_eq _ _ _ _ L2 L3 W W.heap.size (r2.next h) (r3.next h) (by rw [HL2.out, HL3.out])).mono fun _ _ h => ⟨h.1, h.2.bel⟩
      have HS : ∀ W, Below w4.heap.size w4 W → (W.cell? ⟨w.heap.size, 0, none⟩ = some (.int .u8 (tos.toNat : Int)) ∧ W.cell? ⟨w.heap.size, 1, none⟩ = some (.int .u16 (id.toNat : Int)) ∧ W.cell? ⟨w.heap.size, 2, none⟩ = some (.bool D) ∧ W.cell? ⟨w.heap.size, 3, none⟩ = some (.bool false) ∧ W.cell? ⟨w.heap.size, 4, none⟩ = some (.int .u16 (fo.toNat : Int)) ∧ W.cell? ⟨w.heap.size, 5, none⟩ = some (.int .u8 (ttl.toNat : Int)) ∧ W.cell? ⟨w.heap.size, 6, none⟩ = some (.int .u8 (pr.toNat : Int)) ∧ W.cell? ⟨w.heap.size, 7, none⟩ = some (.int .u32 (s.toNat : Int)) ∧ W.cell? ⟨w.heap.size, 8, none⟩ = some (.int .u32 (d.toNat : Int)) ∧ W.cell? ⟨w.heap.size, 9, none⟩ = some (.slice a8 os.length cap8) ∧ W.cell? ⟨w.heap.size, 10, none⟩ = some (.slice a9 xs.length cap9)) := by
        intro W h
        obtain ⟨p0, p1, p2, p3, p4, p5, p6, p7, p8, p9, p10, -⟩ := (hK.next h).get11
        exact ⟨p0, p1, p2, p3, p4, p5, p6, p7, p8, p9, p10⟩
      refine region_vals (by kernel_rfl) (by kernel_rfl) (by kernel_rfl) 80 rfl (by kernel_rfl) w4 (Below.refl _ _) [.slice A2 L2.length c2, .slice A3 L3.length c3, .bool true, .bool false, .bool false, .int .i64 0, .int .i64 0, .bool false, .bool false, .bool false, .agg #[.int .u8 (tos.toNat : Int), .int .u16 (id.toNat : Int), .bool D, .bool false, .int .u16 (fo.toNat : Int), .int .u8 (ttl.toNat : Int), .int .u8 (pr.toNat : Int), .int .u32 (s.toNat : Int), .int .u32 (d.toNat : Int), .slice a8 os.length cap8, .slice a9 xs.length cap9], .int .i64 0, .int .i64 0, .bool false, .bool false, .bool false, .agg #[.int .u8 (tos.toNat : Int), .int .u16 (id.toNat : Int), .bool D, .bool false, .int .u16 (fo.toNat : Int), .int .u8 (ttl.toNat : Int), .int .u8 (pr.toNat : Int), .int .u32 (s.toNat : Int), .int .u32 (d.toNat : Int), .slice a8 os.length cap8, .slice a9 xs.length cap9], .int .i64 (20 + (os.length : Int)), .pointer (some ⟨w.heap.size, 9, none⟩), .slice a8 os.length cap8, .int .i64 (os.length : Int), .int .i64 (20 + (os.length : Int)), .bool false, .bool false, .bool false, .agg #[.int .u8 (tos.toNat : Int), .int .u16 (id.toNat : Int), .bool D, .bool false, .int .u16 (fo.toNat : Int), .int .u8 (ttl.toNat : Int), .int .u8 (pr.toNat : Int), .int .u32 (s.toNat : Int), .int .u32 (d.toNat : Int), .slice a8 os.length cap8, .slice a9 xs.length cap9], .bool pb, .pointer (some ⟨w.heap.size, 3, none⟩), .bool false, .bool false, .pointer (some ⟨w.heap.size, 4, none⟩), .int .u16 (fo.toNat : Int), .bool pb, .bool pb, .bool false, .bool false] rfl ?_ ?_
      · intro i o uu W xx ho hx hVW hd
        rcases i with _|_|_|_|_|_|_|_|_|_|_|_|_|_|_|_|_|_|_|_|_|_|_|_|_|_|_|_|_|_|_|_|_|_|_|_|i
        · obtain rfl := Option.some.inj ho
          obtain rfl := Option.some.inj hx
          refine .inl ⟨wanted_none rfl, ?_⟩
          generalize hev : Act.eval _ = ev
          have ec : ∀ c, ev (.const c) = c := fun c => by rw [← hev]; rfl
          have e5 : ev (.tmp 5) = .slice A2 L2.length c2 := by rw [← hev]; exact eval_old (by kernel_rfl) 80 rfl (by decide) rfl
          clear hev hd
          exact .inl ⟨W, by go_simp, Below.refl _ _⟩
        · obtain rfl := Option.some.inj ho
          obtain rfl := Option.some.inj hx
          refine .inl ⟨wanted_none rfl, ?_⟩
          generalize hev : Act.eval _ = ev
          have ec : ∀ c, ev (.const c) = c := fun c => by rw [← hev]; rfl
          have e7 : ev (.tmp 7) = .slice A3 L3.length c3 := by rw [← hev]; exact eval_old (by kernel_rfl) 80 rfl (by decide) rfl
          clear hev hd
          exact .inl ⟨W, by go_simp, Below.refl _ _⟩
        · obtain rfl := Option.some.inj ho
          obtain rfl := Option.some.inj hx
          have q0 : uu 0 = .slice A2 L2.length c2 := hd 0 (by kernel_rfl) _ rfl
          have q1 : uu 1 = .slice A3 L3.length c3 := hd 1 (by kernel_rfl) _ rfl
          refine .inl ⟨wanted_none rfl, ?_⟩
          generalize hev : Act.eval _ = ev
          have ec : ∀ c, ev (.const c) = c := fun c => by rw [← hev]; rfl
          have ef : ∀ f, ev (.func f) = .func (.func f) #[] #[] := fun f => by rw [← hev]; rfl
          have e23 : ev (.tmp 23) = .slice A2 L2.length c2 := by rw [← hev]; exact (eval_put (by kernel_rfl) 80 rfl (by decide)).trans q0
          have e24 : ev (.tmp 24) = .slice A3 L3.length c3 := by rw [← hev]; exact (eval_put (by kernel_rfl) 80 rfl (by decide)).trans q1
          clear hev hd q0 q1
          exact .inr ⟨_, _, by go_simp, (HSM W hVW).out⟩
        · obtain rfl := Option.some.inj ho
          obtain rfl := Option.some.inj hx
          have q2 : uu 2 = .bool true := hd 2 (by kernel_rfl) _ rfl
          refine .inl ⟨wanted_none rfl, ?_⟩
          generalize hev : Act.eval _ = ev
          have ec : ∀ c, ev (.const c) = c := fun c => by rw [← hev]; rfl
          have e25 : ev (.tmp 25) = .bool true := by rw [← hev]; exact (eval_put (by kernel_rfl) 80 rfl (by decide)).trans q2
          clear hev hd q2
          exact .inl ⟨W, by go_simp, Below.refl _ _⟩
        · obtain rfl := Option.some.inj ho
          obtain rfl := Option.some.inj hx
          have q3 : uu 3 = .bool false := hd 3 (by kernel_rfl) _ rfl
          refine .inl ⟨wanted_none rfl, ?_⟩
          generalize hev : Act.eval _ = ev
          have ec : ∀ c, ev (.const c) = c := fun c => by rw [← hev]; rfl
          have e26 : ev (.tmp 26) = .bool false := by rw [← hev]; exact (eval_put (by kernel_rfl) 80 rfl (by decide)).trans q3
          clear hev hd q3
          exact .inl ⟨W, by go_simp, Below.refl _ _⟩
        · obtain rfl := Option.some.inj ho
          obtain rfl := Option.some.inj hx
          have q4 : uu 4 = .bool false := hd 4 (by kernel_rfl) _ rfl
          refine .inl ⟨wanted_yes rfl (yielded_put (k := 27) (by kernel_rfl) (by kernel_rfl) 80 rfl (by decide) q4), ?_⟩
          generalize hev : Act.eval _ = ev
          have ec : ∀ c, ev (.const c) = c := fun c => by rw [← hev]; rfl
          have e6 : ev (.tmp 6) = .int .i64 0 := by rw [← hev]; exact eval_old (by kernel_rfl) 80 rfl (by decide) rfl
          clear hev hd q4
          exact .inl ⟨W, by go_simp, Below.refl _ _⟩
        · obtain rfl := Option.some.inj ho
          obtain rfl := Option.some.inj hx
          have q4 : uu 4 = .bool false := hd 4 (by kernel_rfl) _ rfl
          refine .inl ⟨wanted_yes rfl (yielded_put (k := 27) (by kernel_rfl) (by kernel_rfl) 80 rfl (by decide) q4), ?_⟩
          generalize hev : Act.eval _ = ev
          have ec : ∀ c, ev (.const c) = c := fun c => by rw [← hev]; rfl
          have e8 : ev (.tmp 8) = .int .i64 0 := by rw [← hev]; exact eval_old (by kernel_rfl) 80 rfl (by decide) rfl
          clear hev hd q4
          exact .inl ⟨W, by go_simp, Below.refl _ _⟩
        · obtain rfl := Option.some.inj ho
          obtain rfl := Option.some.inj hx
          have q5 : uu 5 = .int .i64 0 := hd 5 (by kernel_rfl) _ rfl
          have q6 : uu 6 = .int .i64 0 := hd 6 (by kernel_rfl) _ rfl
          have q4 : uu 4 = .bool false := hd 4 (by kernel_rfl) _ rfl
          refine .inl ⟨wanted_yes rfl (yielded_put (k := 27) (by kernel_rfl) (by kernel_rfl) 80 rfl (by decide) q4), ?_⟩
          generalize hev : Act.eval _ = ev
          have ec : ∀ c, ev (.const c) = c := fun c => by rw [← hev]; rfl
          have e28 : ev (.tmp 28) = .int .i64 0 := by rw [← hev]; exact (eval_put (by kernel_rfl) 80 rfl (by decide)).trans q5
          have e29 : ev (.tmp 29) = .int .i64 0 := by rw [← hev]; exact (eval_put (by kernel_rfl) 80 rfl (by decide)).trans q6
          clear hev hd q5 q6 q4
          exact .inl ⟨W, by go_simp, Below.refl _ _⟩
        · obtain rfl := Option.some.inj ho
          obtain rfl := Option.some.inj hx
          have q4 : uu 4 = .bool false := hd 4 (by kernel_rfl) _ rfl
          have q7 : uu 7 = .bool false := hd 7 (by kernel_rfl) _ rfl
          refine .inl ⟨wanted_none rfl, ?_⟩
          generalize hev : Act.eval _ = ev
          have ec : ∀ c, ev (.const c) = c := fun c => by rw [← hev]; rfl
          have e27 : ev (.tmp 27) = .bool false := by rw [← hev]; exact (eval_put (by kernel_rfl) 80 rfl (by decide)).trans q4
          have e30 : ev (.tmp 30) = .bool false := by rw [← hev]; exact (eval_put (by kernel_rfl) 80 rfl (by decide)).trans q7
          clear hev hd q4 q7
          exact .inl ⟨W, by go_simp, Below.refl _ _⟩
        · obtain rfl := Option.some.inj ho
          obtain rfl := Option.some.inj hx
          have q8 : uu 8 = .bool false := hd 8 (by kernel_rfl) _ rfl
          refine .inl ⟨wanted_none rfl, ?_⟩
          generalize hev : Act.eval _ = ev
          have ec : ∀ c, ev (.const c) = c := fun c => by rw [← hev]; rfl
          have e31 : ev (.tmp 31) = .bool false := by rw [← hev]; exact (eval_put (by kernel_rfl) 80 rfl (by decide)).trans q8
          clear hev hd q8
          exact .inl ⟨W, by go_simp, Below.refl _ _⟩
        · obtain rfl := Option.some.inj ho
          obtain rfl := Option.some.inj hx
          have q9 : uu 9 = .bool false := hd 9 (by kernel_rfl) _ rfl
          refine .inl ⟨wanted_yes rfl (yielded_put (k := 32) (by kernel_rfl) (by kernel_rfl) 80 rfl (by decide) q9), ?_⟩
          generalize hev : Act.eval _ = ev
          have ec : ∀ c, ev (.const c) = c := fun c => by rw [← hev]; rfl
          have e2 : ev (.tmp 2) = .pointer (some ⟨w.heap.size, 0, none⟩) := by rw [← hev]; exact eval_old (by kernel_rfl) 80 rfl (by decide) rfl
          clear hev hd q9
          obtain ⟨cc0, cc1, cc2, cc3, cc4, cc5, cc6, cc7, cc8, cc9, cc10⟩ := HS W hVW
          exact .inl ⟨W, by go_simp, Below.refl _ _⟩
        · obtain rfl := Option.some.inj ho
          obtain rfl := Option.some.inj hx
          have q10 : uu 10 = .agg #[.int .u8 (tos.toNat : Int), .int .u16 (id.toNat : Int), .bool D, .bool false, .int .u16 (fo.toNat : Int), .int .u8 (ttl.toNat : Int), .int .u8 (pr.toNat : Int), .int .u32 (s.toNat : Int), .int .u32 (d.toNat : Int), .slice a8 os.length cap8, .slice a9 xs.length cap9] := hd 10 (by kernel_rfl) _ rfl
          have q9 : uu 9 = .bool false := hd 9 (by kernel_rfl) _ rfl
          refine .inl ⟨wanted_yes rfl (yielded_put (k := 32) (by kernel_rfl) (by kernel_rfl) 80 rfl (by decide) q9), ?_⟩
          generalize hev : Act.eval _ = ev
          have ec : ∀ c, ev (.const c) = c := fun c => by rw [← hev]; rfl
          have ef : ∀ f, ev (.func f) = .func (.func f) #[] #[] := fun f => by rw [← hev]; rfl
          have e33 : ev (.tmp 33) = .agg #[.int .u8 (tos.toNat : Int), .int .u16 (id.toNat : Int), .bool D, .bool false, .int .u16 (fo.toNat : Int), .int .u8 (ttl.toNat : Int), .int .u8 (pr.toNat : Int), .int .u32 (s.toNat : Int), .int .u32 (d.toNat : Int), .slice a8 os.length cap8, .slice a9 xs.length cap9] := by rw [← hev]; exact (eval_put (by kernel_rfl) 80 rfl (by decide)).trans q10
          clear hev hd q10 q9
          exact .inr ⟨_, _, by go_simp, (HP3 W).out⟩
        · obtain rfl := Option.some.inj ho
          obtain rfl := Option.some.inj hx
          have q9 : uu 9 = .bool false := hd 9 (by kernel_rfl) _ rfl
          refine .inl ⟨wanted_yes rfl (yielded_put (k := 32) (by kernel_rfl) (by kernel_rfl) 80 rfl (by decide) q9), ?_⟩
          generalize hev : Act.eval _ = ev
          have ec : ∀ c, ev (.const c) = c := fun c => by rw [← hev]; rfl
          have e6 : ev (.tmp 6) = .int .i64 0 := by rw [← hev]; exact eval_old (by kernel_rfl) 80 rfl (by decide) rfl
          clear hev hd q9
          exact .inl ⟨W, by go_simp, Below.refl _ _⟩
        · obtain rfl := Option.some.inj ho
          obtain rfl := Option.some.inj hx
          have q11 : uu 11 = .int .i64 0 := hd 11 (by kernel_rfl) _ rfl
          have q12 : uu 12 = .int .i64 0 := hd 12 (by kernel_rfl) _ rfl
          have q9 : uu 9 = .bool false := hd 9 (by kernel_rfl) _ rfl
          refine .inl ⟨wanted_yes rfl (yielded_put (k := 32) (by kernel_rfl) (by kernel_rfl) 80 rfl (by decide) q9), ?_⟩
          generalize hev : Act.eval _ = ev
          have ec : ∀ c, ev (.const c) = c := fun c => by rw [← hev]; rfl
          have e34 : ev (.tmp 34) = .int .i64 0 := by rw [← hev]; exact (eval_put (by kernel_rfl) 80 rfl (by decide)).trans q11
          have e35 : ev (.tmp 35) = .int .i64 0 := by rw [← hev]; exact (eval_put (by kernel_rfl) 80 rfl (by decide)).trans q12
          clear hev hd q11 q12 q9
          exact .inl ⟨W, by go_simp, Below.refl _ _⟩
        · obtain rfl := Option.some.inj ho
          obtain rfl := Option.some.inj hx
          have q9 : uu 9 = .bool false := hd 9 (by kernel_rfl) _ rfl
          have q13 : uu 13 = .bool false := hd 13 (by kernel_rfl) _ rfl
          refine .inl ⟨wanted_none rfl, ?_⟩
          generalize hev : Act.eval _ = ev
          have ec : ∀ c, ev (.const c) = c := fun c => by rw [← hev]; rfl
          have e32 : ev (.tmp 32) = .bool false := by rw [← hev]; exact (eval_put (by kernel_rfl) 80 rfl (by decide)).trans q9
          have e36 : ev (.tmp 36) = .bool false := by rw [← hev]; exact (eval_put (by kernel_rfl) 80 rfl (by decide)).trans q13
          clear hev hd q9 q13
          exact .inl ⟨W, by go_simp, Below.refl _ _⟩
        · obtain rfl := Option.some.inj ho
          obtain rfl := Option.some.inj hx
          have q14 : uu 14 = .bool false := hd 14 (by kernel_rfl) _ rfl
          refine .inl ⟨wanted_none rfl, ?_⟩
          generalize hev : Act.eval _ = ev
          have ec : ∀ c, ev (.const c) = c := fun c => by rw [← hev]; rfl
          have e37 : ev (.tmp 37) = .bool false := by rw [← hev]; exact (eval_put (by kernel_rfl) 80 rfl (by decide)).trans q14
          clear hev hd q14
          exact .inl ⟨W, by go_simp, Below.refl _ _⟩
        · obtain rfl := Option.some.inj ho
          obtain rfl := Option.some.inj hx
          have q15 : uu 15 = .bool false := hd 15 (by kernel_rfl) _ rfl
          refine .inl ⟨wanted_yes rfl (yielded_put (k := 38) (by kernel_rfl) (by kernel_rfl) 80 rfl (by decide) q15), ?_⟩
          generalize hev : Act.eval _ = ev
          have ec : ∀ c, ev (.const c) = c := fun c => by rw [← hev]; rfl
          have e2 : ev (.tmp 2) = .pointer (some ⟨w.heap.size, 0, none⟩) := by rw [← hev]; exact eval_old (by kernel_rfl) 80 rfl (by decide) rfl
          clear hev hd q15
          obtain ⟨cc0, cc1, cc2, cc3, cc4, cc5, cc6, cc7, cc8, cc9, cc10⟩ := HS W hVW
          exact .inl ⟨W, by go_simp, Below.refl _ _⟩
        · obtain rfl := Option.some.inj ho
          obtain rfl := Option.some.inj hx
          have q16 : uu 16 = .agg #[.int .u8 (tos.toNat : Int), .int .u16 (id.toNat : Int), .bool D, .bool false, .int .u16 (fo.toNat : Int), .int .u8 (ttl.toNat : Int), .int .u8 (pr.toNat : Int), .int .u32 (s.toNat : Int), .int .u32 (d.toNat : Int), .slice a8 os.length cap8, .slice a9 xs.length cap9] := hd 16 (by kernel_rfl) _ rfl
          have q15 : uu 15 = .bool false := hd 15 (by kernel_rfl) _ rfl
          refine .inl ⟨wanted_yes rfl (yielded_put (k := 38) (by kernel_rfl) (by kernel_rfl) 80 rfl (by decide) q15), ?_⟩
          generalize hev : Act.eval _ = ev
          have ec : ∀ c, ev (.const c) = c := fun c => by rw [← hev]; rfl
          have ef : ∀ f, ev (.func f) = .func (.func f) #[] #[] := fun f => by rw [← hev]; rfl
          have e39 : ev (.tmp 39) = .agg #[.int .u8 (tos.toNat : Int), .int .u16 (id.toNat : Int), .bool D, .bool false, .int .u16 (fo.toNat : Int), .int .u8 (ttl.toNat : Int), .int .u8 (pr.toNat : Int), .int .u32 (s.toNat : Int), .int .u32 (d.toNat : Int), .slice a8 os.length cap8, .slice a9 xs.length cap9] := by rw [← hev]; exact (eval_put (by kernel_rfl) 80 rfl (by decide)).trans q16
          clear hev hd q16 q15
          exact .inr ⟨_, _, by go_simp, (HZ W).out⟩
        · obtain rfl := Option.some.inj ho
          obtain rfl := Option.some.inj hx
          have q15 : uu 15 = .bool false := hd 15 (by kernel_rfl) _ rfl
          refine .inl ⟨wanted_yes rfl (yielded_put (k := 38) (by kernel_rfl) (by kernel_rfl) 80 rfl (by decide) q15), ?_⟩
          generalize hev : Act.eval _ = ev
          have ec : ∀ c, ev (.const c) = c := fun c => by rw [← hev]; rfl
          have e2 : ev (.tmp 2) = .pointer (some ⟨w.heap.size, 0, none⟩) := by rw [← hev]; exact eval_old (by kernel_rfl) 80 rfl (by decide) rfl
          clear hev hd q15
          exact .inl ⟨W, by go_simp, Below.refl _ _⟩
        · obtain rfl := Option.some.inj ho
          obtain rfl := Option.some.inj hx
          have q18 : uu 18 = .pointer (some ⟨w.heap.size, 9, none⟩) := hd 18 (by kernel_rfl) _ rfl
          have q15 : uu 15 = .bool false := hd 15 (by kernel_rfl) _ rfl
          refine .inl ⟨wanted_yes rfl (yielded_put (k := 38) (by kernel_rfl) (by kernel_rfl) 80 rfl (by decide) q15), ?_⟩
          generalize hev : Act.eval _ = ev
          have ec : ∀ c, ev (.const c) = c := fun c => by rw [← hev]; rfl
          have e41 : ev (.tmp 41) = .pointer (some ⟨w.heap.size, 9, none⟩) := by rw [← hev]; exact (eval_put (by kernel_rfl) 80 rfl (by decide)).trans q18
          clear hev hd q18 q15
          obtain ⟨cc0, cc1, cc2, cc3, cc4, cc5, cc6, cc7, cc8, cc9, cc10⟩ := HS W hVW
          exact .inl ⟨W, by go_simp, Below.refl _ _⟩
        · obtain rfl := Option.some.inj ho
          obtain rfl := Option.some.inj hx
          have q19 : uu 19 = .slice a8 os.length cap8 := hd 19 (by kernel_rfl) _ rfl
          have q15 : uu 15 = .bool false := hd 15 (by kernel_rfl) _ rfl
          refine .inl ⟨wanted_yes rfl (yielded_put (k := 38) (by kernel_rfl) (by kernel_rfl) 80 rfl (by decide) q15), ?_⟩
          generalize hev : Act.eval _ = ev
          have ec : ∀ c, ev (.const c) = c := fun c => by rw [← hev]; rfl
          have e42 : ev (.tmp 42) = .slice a8 os.length cap8 := by rw [← hev]; exact (eval_put (by kernel_rfl) 80 rfl (by decide)).trans q19
          clear hev hd q19 q15
          exact .inl ⟨W, by go_simp, Below.refl _ _⟩
        · obtain rfl := Option.some.inj ho
          obtain rfl := Option.some.inj hx
          have q20 : uu 20 = .int .i64 (os.length : Int) := hd 20 (by kernel_rfl) _ rfl
          have q15 : uu 15 = .bool false := hd 15 (by kernel_rfl) _ rfl
          refine .inl ⟨wanted_yes rfl (yielded_put (k := 38) (by kernel_rfl) (by kernel_rfl) 80 rfl (by decide) q15), ?_⟩
          generalize hev : Act.eval _ = ev
          have ec : ∀ c, ev (.const c) = c := fun c => by rw [← hev]; rfl
          have e43 : ev (.tmp 43) = .int .i64 (os.length : Int) := by rw [← hev]; exact (eval_put (by kernel_rfl) 80 rfl (by decide)).trans q20
          clear hev hd q20 q15
          have hw : IntKind.i64.wrap (20 + (os.length : Int)) = 20 + (os.length : Int) := by rw [IntKind.wrap_i64]; omega
          exact .inl ⟨W, by go_simp, Below.refl _ _⟩
        · obtain rfl := Option.some.inj ho
          obtain rfl := Option.some.inj hx
          have q17 : uu 17 = .int .i64 (20 + (os.length : Int)) := hd 17 (by kernel_rfl) _ rfl
          have q21 : uu 21 = .int .i64 (20 + (os.length : Int)) := hd 21 (by kernel_rfl) _ rfl
          have q15 : uu 15 = .bool false := hd 15 (by kernel_rfl) _ rfl
          refine .inl ⟨wanted_yes rfl (yielded_put (k := 38) (by kernel_rfl) (by kernel_rfl) 80 rfl (by decide) q15), ?_⟩
          generalize hev : Act.eval _ = ev
          have ec : ∀ c, ev (.const c) = c := fun c => by rw [← hev]; rfl
          have e40 : ev (.tmp 40) = .int .i64 (20 + (os.length : Int)) := by rw [← hev]; exact (eval_put (by kernel_rfl) 80 rfl (by decide)).trans q17
          have e44 : ev (.tmp 44) = .int .i64 (20 + (os.length : Int)) := by rw [← hev]; exact (eval_put (by kernel_rfl) 80 rfl (by decide)).trans q21
          clear hev hd q17 q21 q15
          exact .inl ⟨W, by go_simp, Below.refl _ _⟩
        · obtain rfl := Option.some.inj ho
          obtain rfl := Option.some.inj hx
          have q15 : uu 15 = .bool false := hd 15 (by kernel_rfl) _ rfl
          have q22 : uu 22 = .bool false := hd 22 (by kernel_rfl) _ rfl
          refine .inl ⟨wanted_none rfl, ?_⟩
          generalize hev : Act.eval _ = ev
          have ec : ∀ c, ev (.const c) = c := fun c => by rw [← hev]; rfl
          have e38 : ev (.tmp 38) = .bool false := by rw [← hev]; exact (eval_put (by kernel_rfl) 80 rfl (by decide)).trans q15
          have e45 : ev (.tmp 45) = .bool false := by rw [← hev]; exact (eval_put (by kernel_rfl) 80 rfl (by decide)).trans q22
          clear hev hd q15 q22
          exact .inl ⟨W, by go_simp, Below.refl _ _⟩
        · obtain rfl := Option.some.inj ho
          obtain rfl := Option.some.inj hx
          have q23 : uu 23 = .bool false := hd 23 (by kernel_rfl) _ rfl
          refine .inl ⟨wanted_none rfl, ?_⟩
          generalize hev : Act.eval _ = ev
          have ec : ∀ c, ev (.const c) = c := fun c => by rw [← hev]; rfl
          have e46 : ev (.tmp 46) = .bool false := by rw [← hev]; exact (eval_put (by kernel_rfl) 80 rfl (by decide)).trans q23
          clear hev hd q23
          exact .inl ⟨W, by go_simp, Below.refl _ _⟩
        · obtain rfl := Option.some.inj ho
          obtain rfl := Option.some.inj hx
          have q24 : uu 24 = .bool false := hd 24 (by kernel_rfl) _ rfl
          refine .inl ⟨wanted_yes rfl (yielded_put (k := 47) (by kernel_rfl) (by kernel_rfl) 80 rfl (by decide) q24), ?_⟩
          generalize hev : Act.eval _ = ev
          have ec : ∀ c, ev (.const c) = c := fun c => by rw [← hev]; rfl
          have e2 : ev (.tmp 2) = .pointer (some ⟨w.heap.size, 0, none⟩) := by rw [← hev]; exact eval_old (by kernel_rfl) 80 rfl (by decide) rfl
          clear hev hd q24
          obtain ⟨cc0, cc1, cc2, cc3, cc4, cc5, cc6, cc7, cc8, cc9, cc10⟩ := HS W hVW
          exact .inl ⟨W, by go_simp, Below.refl _ _⟩
        · obtain rfl := Option.some.inj ho
          obtain rfl := Option.some.inj hx
          have q25 : uu 25 = .agg #[.int .u8 (tos.toNat : Int), .int .u16 (id.toNat : Int), .bool D, .bool false, .int .u16 (fo.toNat : Int), .int .u8 (ttl.toNat : Int), .int .u8 (pr.toNat : Int), .int .u32 (s.toNat : Int), .int .u32 (d.toNat : Int), .slice a8 os.length cap8, .slice a9 xs.length cap9] := hd 25 (by kernel_rfl) _ rfl
          have q24 : uu 24 = .bool false := hd 24 (by kernel_rfl) _ rfl
          refine .inl ⟨wanted_yes rfl (yielded_put (k := 47) (by kernel_rfl) (by kernel_rfl) 80 rfl (by decide) q24), ?_⟩
          generalize hev : Act.eval _ = ev
          have ec : ∀ c, ev (.const c) = c := fun c => by rw [← hev]; rfl
          have ef : ∀ f, ev (.func f) = .func (.func f) #[] #[] := fun f => by rw [← hev]; rfl
          have e48 : ev (.tmp 48) = .agg #[.int .u8 (tos.toNat : Int), .int .u16 (id.toNat : Int), .bool D, .bool false, .int .u16 (fo.toNat : Int), .int .u8 (ttl.toNat : Int), .int .u8 (pr.toNat : Int), .int .u32 (s.toNat : Int), .int .u32 (d.toNat : Int), .slice a8 os.length cap8, .slice a9 xs.length cap9] := by rw [← hev]; exact (eval_put (by kernel_rfl) 80 rfl (by decide)).trans q25
          clear hev hd q25 q24
          exact .inr ⟨_, _, by go_simp, (HQ W).out⟩
        · obtain rfl := Option.some.inj ho
          obtain rfl := Option.some.inj hx
          have q24 : uu 24 = .bool false := hd 24 (by kernel_rfl) _ rfl
          refine .inl ⟨wanted_yes rfl (yielded_put (k := 47) (by kernel_rfl) (by kernel_rfl) 80 rfl (by decide) q24), ?_⟩
          generalize hev : Act.eval _ = ev
          have ec : ∀ c, ev (.const c) = c := fun c => by rw [← hev]; rfl
          have e2 : ev (.tmp 2) = .pointer (some ⟨w.heap.size, 0, none⟩) := by rw [← hev]; exact eval_old (by kernel_rfl) 80 rfl (by decide) rfl
          clear hev hd q24
          exact .inl ⟨W, by go_simp, Below.refl _ _⟩
        · obtain rfl := Option.some.inj ho
          obtain rfl := Option.some.inj hx
          have q27 : uu 27 = .pointer (some ⟨w.heap.size, 3, none⟩) := hd 27 (by kernel_rfl) _ rfl
          have q24 : uu 24 = .bool false := hd 24 (by kernel_rfl) _ rfl
          refine .inl ⟨wanted_yes rfl (yielded_put (k := 47) (by kernel_rfl) (by kernel_rfl) 80 rfl (by decide) q24), ?_⟩
          generalize hev : Act.eval _ = ev
          have ec : ∀ c, ev (.const c) = c := fun c => by rw [← hev]; rfl
          have e50 : ev (.tmp 50) = .pointer (some ⟨w.heap.size, 3, none⟩) := by rw [← hev]; exact (eval_put (by kernel_rfl) 80 rfl (by decide)).trans q27
          clear hev hd q27 q24
          obtain ⟨cc0, cc1, cc2, cc3, cc4, cc5, cc6, cc7, cc8, cc9, cc10⟩ := HS W hVW
          exact .inl ⟨W, by go_simp, Below.refl _ _⟩
        · obtain rfl := Option.some.inj ho
          obtain rfl := Option.some.inj hx
          have q28 : uu 28 = .bool false := hd 28 (by kernel_rfl) _ rfl
          have q24 : uu 24 = .bool false := hd 24 (by kernel_rfl) _ rfl
          refine .inl ⟨wanted_yes rfl (yielded_put (k := 47) (by kernel_rfl) (by kernel_rfl) 80 rfl (by decide) q24), ?_⟩
          generalize hev : Act.eval _ = ev
          have ec : ∀ c, ev (.const c) = c := fun c => by rw [← hev]; rfl
          have e51 : ev (.tmp 51) = .bool false := by rw [← hev]; exact (eval_put (by kernel_rfl) 80 rfl (by decide)).trans q28
          clear hev hd q28 q24
          exact .inl ⟨W, by go_simp, Below.refl _ _⟩
        · obtain rfl := Option.some.inj ho
          obtain rfl := Option.some.inj hx
          have q29 : uu 29 = .bool false := hd 29 (by kernel_rfl) _ rfl
          refine .inl ⟨wanted_yes rfl (yielded_put (k := 52) (by kernel_rfl) (by kernel_rfl) 80 rfl (by decide) q29), ?_⟩
          generalize hev : Act.eval _ = ev
          have ec : ∀ c, ev (.const c) = c := fun c => by rw [← hev]; rfl
          have e2 : ev (.tmp 2) = .pointer (some ⟨w.heap.size, 0, none⟩) := by rw [← hev]; exact eval_old (by kernel_rfl) 80 rfl (by decide) rfl
          clear hev hd q29
          exact .inl ⟨W, by go_simp, Below.refl _ _⟩
        · obtain rfl := Option.some.inj ho
          obtain rfl := Option.some.inj hx
          have q30 : uu 30 = .pointer (some ⟨w.heap.size, 4, none⟩) := hd 30 (by kernel_rfl) _ rfl
          have q29 : uu 29 = .bool false := hd 29 (by kernel_rfl) _ rfl
          refine .inl ⟨wanted_yes rfl (yielded_put (k := 52) (by kernel_rfl) (by kernel_rfl) 80 rfl (by decide) q29), ?_⟩
          generalize hev : Act.eval _ = ev
          have ec : ∀ c, ev (.const c) = c := fun c => by rw [← hev]; rfl
          have e53 : ev (.tmp 53) = .pointer (some ⟨w.heap.size, 4, none⟩) := by rw [← hev]; exact (eval_put (by kernel_rfl) 80 rfl (by decide)).trans q30
          clear hev hd q30 q29
          obtain ⟨cc0, cc1, cc2, cc3, cc4, cc5, cc6, cc7, cc8, cc9, cc10⟩ := HS W hVW
          exact .inl ⟨W, by go_simp, Below.refl _ _⟩
        · obtain rfl := Option.some.inj ho
          obtain rfl := Option.some.inj hx
          have q31 : uu 31 = .int .u16 (fo.toNat : Int) := hd 31 (by kernel_rfl) _ rfl
          have q29 : uu 29 = .bool false := hd 29 (by kernel_rfl) _ rfl
          refine .inl ⟨wanted_yes rfl (yielded_put (k := 52) (by kernel_rfl) (by kernel_rfl) 80 rfl (by decide) q29), ?_⟩
          generalize hev : Act.eval _ = ev
          have ec : ∀ c, ev (.const c) = c := fun c => by rw [← hev]; rfl
          have e54 : ev (.tmp 54) = .int .u16 (fo.toNat : Int) := by rw [← hev]; exact (eval_put (by kernel_rfl) 80 rfl (by decide)).trans q31
          clear hev hd q31 q29
          have hpq : (!((fo.toNat : Int) == 0)) = pb := (HPB ()).out
          have hpr : ((fo.toNat : Int) != 0) = pb := (HPB ()).out
          exact .inl ⟨W, by go_simp, Below.refl _ _⟩
        · obtain rfl := Option.some.inj ho
          obtain rfl := Option.some.inj hx
          have q29 : uu 29 = .bool false := hd 29 (by kernel_rfl) _ rfl
          have q32 : uu 32 = .bool pb := hd 32 (by kernel_rfl) _ rfl
          have q24 : uu 24 = .bool false := hd 24 (by kernel_rfl) _ rfl
          refine .inl ⟨wanted_yes rfl (yielded_put (k := 47) (by kernel_rfl) (by kernel_rfl) 80 rfl (by decide) q24), ?_⟩
          generalize hev : Act.eval _ = ev
          have ec : ∀ c, ev (.const c) = c := fun c => by rw [← hev]; rfl
          have e52 : ev (.tmp 52) = .bool false := by rw [← hev]; exact (eval_put (by kernel_rfl) 80 rfl (by decide)).trans q29
          have e55 : ev (.tmp 55) = .bool pb := by rw [← hev]; exact (eval_put (by kernel_rfl) 80 rfl (by decide)).trans q32
          clear hev hd q29 q32 q24
          exact .inl ⟨W, by go_simp, Below.refl _ _⟩
        · obtain rfl := Option.some.inj ho
          obtain rfl := Option.some.inj hx
          have q26 : uu 26 = .bool pb := hd 26 (by kernel_rfl) _ rfl
          have q33 : uu 33 = .bool pb := hd 33 (by kernel_rfl) _ rfl
          have q24 : uu 24 = .bool false := hd 24 (by kernel_rfl) _ rfl
          refine .inl ⟨wanted_yes rfl (yielded_put (k := 47) (by kernel_rfl) (by kernel_rfl) 80 rfl (by decide) q24), ?_⟩
          generalize hev : Act.eval _ = ev
          have ec : ∀ c, ev (.const c) = c := fun c => by rw [← hev]; rfl
          have e49 : ev (.tmp 49) = .bool pb := by rw [← hev]; exact (eval_put (by kernel_rfl) 80 rfl (by decide)).trans q26
          have e56 : ev (.tmp 56) = .bool pb := by rw [← hev]; exact (eval_put (by kernel_rfl) 80 rfl (by decide)).trans q33
          clear hev hd q26 q33 q24
          have hz0 : (pb == pb) = true := by simp
          exact .inl ⟨W, by go_simp, Below.refl _ _⟩
        · obtain rfl := Option.some.inj ho
          obtain rfl := Option.some.inj hx
          have q24 : uu 24 = .bool false := hd 24 (by kernel_rfl) _ rfl
          have q34 : uu 34 = .bool false := hd 34 (by kernel_rfl) _ rfl
          refine .inl ⟨wanted_none rfl, ?_⟩
          generalize hev : Act.eval _ = ev
          have ec : ∀ c, ev (.const c) = c := fun c => by rw [← hev]; rfl
          have e47 : ev (.tmp 47) = .bool false := by rw [← hev]; exact (eval_put (by kernel_rfl) 80 rfl (by decide)).trans q24
          have e57 : ev (.tmp 57) = .bool false := by rw [← hev]; exact (eval_put (by kernel_rfl) 80 rfl (by decide)).trans q34
          clear hev hd q24 q34
          exact .inl ⟨W, by go_simp, Below.refl _ _⟩
        · simp at ho
      · intro W hVW

        simp only [putAll, Act.put, List.getD_cons_zero, List.getD_cons_succ]
        simp only [List.setIfInBounds_toArray, List.set_cons_succ, List.set_cons_zero]
        have hB := hB.trans (hVW.mono hB.size)
        replace hK := hK.next hVW
        replace ho := ho.next hVW
        replace hx := hx.next hVW
        replace hz := hz.next hVW
        replace r2 := r2.next hVW
        clear HS HP3 HZ HQ HPB HSM hVW r3
        go_wp2_with fail
        refine (HFz _).out.mono ?_
        rintro e w_5 ⟨rfl, rfl⟩
        go_wp2_with fail
        refine (radd_any _ _ _ _ L2 zs _ r2 hz (by rw [HL2.out, List.length_append, ih_len]; omega)).mono ?_
        rintro e w_6 ⟨v5, rfl, hown, hbel⟩
        obtain ⟨L5, A5, c5, HL5, rfl, r5⟩ := hown.rdv
        replace hB := bnext hB hbel
        replace hK := hK.next hbel
        replace ho := ho.next hbel
        replace hx := hx.next hbel
        clear hbel hown r2 hz
        go_wp2_with fail
        refine (HP4 L5 (by rw [HL5.out, HL2.out, List.append_assoc]) _ _ _ r5).out.mono ?_
        rintro e w_7 ⟨Lo, Ao, co, Lx, Ax, cx, rfl, HLo, HLx, ro, rx, hbel⟩
        replace hB := bnext hB hbel
        replace hK := hK.next hbel
        replace ho := ho.next hbel
        replace hx := hx.next hbel
        obtain ⟨p0, p1, p2, p3, p4, p5, p6, p7, p8, p9, p10, -⟩ := hK.get11
        have hlt := hK.lt
        clear hbel r5 HP4
        go_wp2_with fail
        refine (psame_yes tos id D false fo ttl pr s d _ _ _ _ _ _ _ _ Lo Lx os xs _ (ro.nextA _) (rx.nextA _) (ho.nextA _) (hx.nextA _) HLo.out.symm HLx.out.symm).mono ?_
        rintro e w_8 ⟨rfl, hbel⟩
        replace hB := bnext (bnextA hB _) hbel
        clear hbel p0 p1 p2 p3 p4 p5 p6 p7 p8 p9 p10 ro rx ho hx hK hlt
        go_wp2_with fail
        go_wp2_with (go_at_call 19; refine (lives06_any _).mono ?_; rintro e wl ⟨rfl, hbel⟩)
        go_ret
        exact ⟨rfl, bnext hB hbel⟩
    · skip
      go_enter Try.func4, Try.ntmps4
      go_wp2_with fail
      refine (HF _).out.mono ?_
      rintro e w_1 ⟨rfl, hbel⟩
      have hB := bnext (bnextA (Below.refl w.heap.size w) _) hbel
      have hK := (Blk.new w #[.int .u8 (tos.toNat : Int), .int .u16 (id.toNat : Int), .bool D, .bool true, .int .u16 (fo.toNat : Int), .int .u8 (ttl.toNat : Int), .int .u8 (pr.toNat : Int), .int .u32 (s.toNat : Int), .int .u32 (d.toNat : Int), .slice a8 len8 cap8, .slice a9 len9 cap9] 27).next hbel
      obtain ⟨p0, p1, p2, p3, p4, p5, p6, p7, p8, p9, p10, g0, g1, g2, g3, g4, g5, g6, g7, g8, g9, g10⟩ := hK.get11
      clear hbel HF
      go_wp2_with fail
      have hBV := bset11 hB (Nat.le_refl _) (.int .u8 (tos.toNat : Int)) (.int .u16 (id.toNat : Int)) (.bool D) (.bool true) (.int .u16 (fo.toNat : Int)) (.int .u8 (ttl.toNat : Int)) (.int .u8 (pr.toNat : Int)) (.int .u32 (s.toNat : Int)) (.int .u32 (d.toNat : Int)) (.slice a8 os.length cap8) (.slice a9 xs.length cap9)
      have hKV := hK.set11 (u0 := .int .u8 (tos.toNat : Int)) (u1 := .int .u16 (id.toNat : Int)) (u2 := .bool D) (u3 := .bool true) (u4 := .int .u16 (fo.toNat : Int)) (u5 := .int .u8 (ttl.toNat : Int)) (u6 := .int .u8 (pr.toNat : Int)) (u7 := .int .u32 (s.toNat : Int)) (u8 := .int .u32 (d.toNat : Int)) (u9 := .slice a8 os.length cap8) (u10 := .slice a9 xs.length cap9)
      simp only [setAll11] at hBV hKV
      clear p0 p1 p2 p3 p4 p5 p6 p7 p8 p9 p10 g0 g1 g2 g3 g4 g5 g6 g7 g8 g9 g10 hB hK
      generalize (((((((((((w_1.setCell ⟨w.heap.size, 0, none⟩ (.int .u8 (tos.toNat : Int))).setCell ⟨w.heap.size, 1, none⟩ (.int .u16 (id.toNat : Int))).setCell ⟨w.heap.size, 2, none⟩ (.bool D)).setCell ⟨w.heap.size, 3, none⟩ (.bool true)).setCell ⟨w.heap.size, 4, none⟩ (.int .u16 (fo.toNat : Int))).setCell ⟨w.heap.size, 5, none⟩ (.int .u8 (ttl.toNat : Int))).setCell ⟨w.heap.size, 6, none⟩ (.int .u8 (pr.toNat : Int))).setCell ⟨w.heap.size, 7, none⟩ (.int .u32 (s.toNat : Int))).setCell ⟨w.heap.size, 8, none⟩ (.int .u32 (d.toNat : Int))).setCell ⟨w.heap.size, 9, none⟩ (.slice a8 os.length cap8)).setCell ⟨w.heap.size, 10, none⟩ (.slice a9 xs.length cap9)) = V at hBV hKV ⊢
      have ho := ho0.next hBV
      have hx := hx0.next hBV
      have hz := hz0.next hBV
      have hB := hBV
      have hK := hKV
      clear hBV hKV ho0 hx0 hz0
      obtain ⟨p0, p1, p2, p3, p4, p5, p6, p7, p8, p9, p10, -⟩ := hK.get11
      refine (HP1 _ ho hx).out.mono ?_
      rintro e w_2 ⟨L2, A2, c2, rfl, HL2, r2, hbel⟩
      replace hB := bnext hB hbel
      replace hK := hK.next hbel
      replace ho := ho.next hbel
      replace hx := hx.next hbel
      replace hz := hz.next hbel
      clear p0 p1 p2 p3 p4 p5 p6 p7 p8 p9 p10
      obtain ⟨p0, p1, p2, p3, p4, p5, p6, p7, p8, p9, p10, -⟩ := hK.get11
      clear hbel
      go_wp2_with fail
      refine (HP2 _ ho hx).out.mono ?_
      rintro e w4 ⟨L3, A3, c3, rfl, HL3, r3, hbel⟩
      replace hB := bnext hB hbel
      replace hK := hK.next hbel
      replace ho := ho.next hbel
      replace hx := hx.next hbel
      replace hz := hz.next hbel
      replace r2 := r2.next hbel
      clear hbel p0 p1 p2 p3 p4 p5 p6 p7 p8 p9 p10 HP1 HP2
      go_wp2_with fail
      have HSM : ∀ W, Below w4.heap.size w4 W → Hid (Calls Try.prog 23 #[.slice A2 L2.length c2, .slice A3 L3.length c3] W fun e w' => e = .returned (.bool true) ∧ Below W.heap.size W w') := fun W h => (rsame_eq _ _ _ _ L2 L3 W W.heap.size (r2.next h) (r3.next h) (by rw [HL2.out, HL3.out])).mono fun _ _ h => ⟨h.1, h.2.bel⟩
      have HS : ∀ W, Below w4.heap.size w4 W → (W.cell? ⟨w.heap.size, 0, none⟩ = some (.int .u8 (tos.toNat : Int)) ∧ W.cell? ⟨w.heap.size, 1, none⟩ = some (.int .u16 (id.toNat : Int)) ∧ W.cell? ⟨w.heap.size, 2, none⟩ = some (.bool D) ∧ W.cell? ⟨w.heap.size, 3, none⟩ = some (.bool true) ∧ W.cell? ⟨w.heap.size, 4, none⟩ = some (.int .u16 (fo.toNat : Int)) ∧ W.cell? ⟨w.heap.size, 5, none⟩ = some (.int .u8 (ttl.toNat : Int)) ∧ W.cell? ⟨w.heap.size, 6, none⟩ = some (.int .u8 (pr.toNat : Int)) ∧ W.cell? ⟨w.heap.size, 7, none⟩ = some (.int .u32 (s.toNat : Int)) ∧ W.cell? ⟨w.heap.size, 8, none⟩ = some (.int .u32 (d.toNat : Int)) ∧ W.cell? ⟨w.heap.size, 9, none⟩ = some (.slice a8 os.length cap8) ∧ W.cell? ⟨w.heap.size, 10, none⟩ = some (.slice a9 xs.length cap9)) := by
        intro W h
        obtain ⟨p0, p1, p2, p3, p4, p5, p6, p7, p8, p9, p10, -⟩ := (hK.next h).get11
        exact ⟨p0, p1, p2, p3, p4, p5, p6, p7, p8, p9, p10⟩
      refine region_vals (by kernel_rfl) (by kernel_rfl) (by kernel_rfl) 80 rfl (by kernel_rfl) w4 (Below.refl _ _) [.slice A2 L2.length c2, .slice A3 L3.length c3, .bool true, .bool false, .bool false, .int .i64 0, .int .i64 0, .bool false, .bool false, .bool false, .agg #[.int .u8 (tos.toNat : Int), .int .u16 (id.toNat : Int), .bool D, .bool true, .int .u16 (fo.toNat : Int), .int .u8 (ttl.toNat : Int), .int .u8 (pr.toNat : Int), .int .u32 (s.toNat : Int), .int .u32 (d.toNat : Int), .slice a8 os.length cap8, .slice a9 xs.length cap9], .int .i64 0, .int .i64 0, .bool false, .bool false, .bool false, .agg #[.int .u8 (tos.toNat : Int), .int .u16 (id.toNat : Int), .bool D, .bool true, .int .u16 (fo.toNat : Int), .int .u8 (ttl.toNat : Int), .int .u8 (pr.toNat : Int), .int .u32 (s.toNat : Int), .int .u32 (d.toNat : Int), .slice a8 os.length cap8, .slice a9 xs.length cap9], .int .i64 (20 + (os.length : Int)), .pointer (some ⟨w.heap.size, 9, none⟩), .slice a8 os.length cap8, .int .i64 (os.length : Int), .int .i64 (20 + (os.length : Int)), .bool false, .bool false, .bool false, .agg #[.int .u8 (tos.toNat : Int), .int .u16 (id.toNat : Int), .bool D, .bool true, .int .u16 (fo.toNat : Int), .int .u8 (ttl.toNat : Int), .int .u8 (pr.toNat : Int), .int .u32 (s.toNat : Int), .int .u32 (d.toNat : Int), .slice a8 os.length cap8, .slice a9 xs.length cap9], .bool pb, .pointer (some ⟨w.heap.size, 3, none⟩), .bool true, .bool true, undef, undef, undef, .bool true, .bool false, .bool false] rfl ?_ ?_
      · intro i o uu W xx ho hx hVW hd
        rcases i with _|_|_|_|_|_|_|_|_|_|_|_|_|_|_|_|_|_|_|_|_|_|_|_|_|_|_|_|_|_|_|_|_|_|_|_|i
        · obtain rfl := Option.some.inj ho
          obtain rfl := Option.some.inj hx
          refine .inl ⟨wanted_none rfl, ?_⟩
          generalize hev : Act.eval _ = ev
          have ec : ∀ c, ev (.const c) = c := fun c => by rw [← hev]; rfl
          have e5 : ev (.tmp 5) = .slice A2 L2.length c2 := by rw [← hev]; exact eval_old (by kernel_rfl) 80 rfl (by decide) rfl
          clear hev hd
          exact .inl ⟨W, by go_simp, Below.refl _ _⟩
        · obtain rfl := Option.some.inj ho
          obtain rfl := Option.some.inj hx
          refine .inl ⟨wanted_none rfl, ?_⟩
          generalize hev : Act.eval _ = ev
          have ec : ∀ c, ev (.const c) = c := fun c => by rw [← hev]; rfl
          have e7 : ev (.tmp 7) = .slice A3 L3.length c3 := by rw [← hev]; exact eval_old (by kernel_rfl) 80 rfl (by decide) rfl
          clear hev hd
          exact .inl ⟨W, by go_simp, Below.refl _ _⟩
        · obtain rfl := Option.some.inj ho
          obtain rfl := Option.some.inj hx
          have q0 : uu 0 = .slice A2 L2.length c2 := hd 0 (by kernel_rfl) _ rfl
          have q1 : uu 1 = .slice A3 L3.length c3 := hd 1 (by kernel_rfl) _ rfl
          refine .inl ⟨wanted_none rfl, ?_⟩
          generalize hev : Act.eval _ = ev
          have ec : ∀ c, ev (.const c) = c := fun c => by rw [← hev]; rfl
          have ef : ∀ f, ev (.func f) = .func (.func f) #[] #[] := fun f => by rw [← hev]; rfl
          have e23 : ev (.tmp 23) = .slice A2 L2.length c2 := by rw [← hev]; exact (eval_put (by kernel_rfl) 80 rfl (by decide)).trans q0
          have e24 : ev (.tmp 24) = .slice A3 L3.length c3 := by rw [← hev]; exact (eval_put (by kernel_rfl) 80 rfl (by decide)).trans q1
          clear hev hd q0 q1
          exact .inr ⟨_, _, by go_simp, (HSM W hVW).out⟩
        · obtain rfl := Option.some.inj ho
          obtain rfl := Option.some.inj hx
          have q2 : uu 2 = .bool true := hd 2 (by kernel_rfl) _ rfl
          refine .inl ⟨wanted_none rfl, ?_⟩
          generalize hev : Act.eval _ = ev
          have ec : ∀ c, ev (.const c) = c := fun c => by rw [← hev]; rfl
          have e25 : ev (.tmp 25) = .bool true := by rw [← hev]; exact (eval_put (by kernel_rfl) 80 rfl (by decide)).trans q2
          clear hev hd q2
          exact .inl ⟨W, by go_simp, Below.refl _ _⟩
        · obtain rfl := Option.some.inj ho
          obtain rfl := Option.some.inj hx
          have q3 : uu 3 = .bool false := hd 3 (by kernel_rfl) _ rfl
          refine .inl ⟨wanted_none rfl, ?_⟩
          generalize hev : Act.eval _ = ev
          have ec : ∀ c, ev (.const c) = c := fun c => by rw [← hev]; rfl
          have e26 : ev (.tmp 26) = .bool false := by rw [← hev]; exact (eval_put (by kernel_rfl) 80 rfl (by decide)).trans q3
          clear hev hd q3
          exact .inl ⟨W, by go_simp, Below.refl _ _⟩
        · obtain rfl := Option.some.inj ho
          obtain rfl := Option.some.inj hx
          have q4 : uu 4 = .bool false := hd 4 (by kernel_rfl) _ rfl
          refine .inl ⟨wanted_yes rfl (yielded_put (k := 27) (by kernel_rfl) (by kernel_rfl) 80 rfl (by decide) q4), ?_⟩
          generalize hev : Act.eval _ = ev
          have ec : ∀ c, ev (.const c) = c := fun c => by rw [← hev]; rfl
          have e6 : ev (.tmp 6) = .int .i64 0 := by rw [← hev]; exact eval_old (by kernel_rfl) 80 rfl (by decide) rfl
          clear hev hd q4
          exact .inl ⟨W, by go_simp, Below.refl _ _⟩
        · obtain rfl := Option.some.inj ho
          obtain rfl := Option.some.inj hx
          have q4 : uu 4 = .bool false := hd 4 (by kernel_rfl) _ rfl
          refine .inl ⟨wanted_yes rfl (yielded_put (k := 27) (by kernel_rfl) (by kernel_rfl) 80 rfl (by decide) q4), ?_⟩
          generalize hev : Act.eval _ = ev
          have ec : ∀ c, ev (.const c) = c := fun c => by rw [← hev]; rfl
          have e8 : ev (.tmp 8) = .int .i64 0 := by rw [← hev]; exact eval_old (by kernel_rfl) 80 rfl (by decide) rfl
          clear hev hd q4
          exact .inl ⟨W, by go_simp, Below.refl _ _⟩
        · obtain rfl := Option.some.inj ho
          obtain rfl := Option.some.inj hx
          have q5 : uu 5 = .int .i64 0 := hd 5 (by kernel_rfl) _ rfl
          have q6 : uu 6 = .int .i64 0 := hd 6 (by kernel_rfl) _ rfl
          have q4 : uu 4 = .bool false := hd 4 (by kernel_rfl) _ rfl
          refine .inl ⟨wanted_yes rfl (yielded_put (k := 27) (by kernel_rfl) (by kernel_rfl) 80 rfl (by decide) q4), ?_⟩
          generalize hev : Act.eval _ = ev
          have ec : ∀ c, ev (.const c) = c := fun c => by rw [← hev]; rfl
          have e28 : ev (.tmp 28) = .int .i64 0 := by rw [← hev]; exact (eval_put (by kernel_rfl) 80 rfl (by decide)).trans q5
          have e29 : ev (.tmp 29) = .int .i64 0 := by rw [← hev]; exact (eval_put (by kernel_rfl) 80 rfl (by decide)).trans q6
          clear hev hd q5 q6 q4
          exact .inl ⟨W, by go_simp, Below.refl _ _⟩
        · obtain rfl := Option.some.inj ho
          obtain rfl := Option.some.inj hx
          have q4 : uu 4 = .bool false := hd 4 (by kernel_rfl) _ rfl
          have q7 : uu 7 = .bool false := hd 7 (by kernel_rfl) _ rfl
          refine .inl ⟨wanted_none rfl, ?_⟩
          generalize hev : Act.eval _ = ev
          have ec : ∀ c, ev (.const c) = c := fun c => by rw [← hev]; rfl
          have e27 : ev (.tmp 27) = .bool false := by rw [← hev]; exact (eval_put (by kernel_rfl) 80 rfl (by decide)).trans q4
          have e30 : ev (.tmp 30) = .bool false := by rw [← hev]; exact (eval_put (by kernel_rfl) 80 rfl (by decide)).trans q7
          clear hev hd q4 q7
          exact .inl ⟨W, by go_simp, Below.refl _ _⟩
        · obtain rfl := Option.some.inj ho
          obtain rfl := Option.some.inj hx
          have q8 : uu 8 = .bool false := hd 8 (by kernel_rfl) _ rfl
          refine .inl ⟨wanted_none rfl, ?_⟩
          generalize hev : Act.eval _ = ev
          have ec : ∀ c, ev (.const c) = c := fun c => by rw [← hev]; rfl
          have e31 : ev (.tmp 31) = .bool false := by rw [← hev]; exact (eval_put (by kernel_rfl) 80 rfl (by decide)).trans q8
          clear hev hd q8
          exact .inl ⟨W, by go_simp, Below.refl _ _⟩
        · obtain rfl := Option.some.inj ho
          obtain rfl := Option.some.inj hx
          have q9 : uu 9 = .bool false := hd 9 (by kernel_rfl) _ rfl
          refine .inl ⟨wanted_yes rfl (yielded_put (k := 32) (by kernel_rfl) (by kernel_rfl) 80 rfl (by decide) q9), ?_⟩
          generalize hev : Act.eval _ = ev
          have ec : ∀ c, ev (.const c) = c := fun c => by rw [← hev]; rfl
          have e2 : ev (.tmp 2) = .pointer (some ⟨w.heap.size, 0, none⟩) := by rw [← hev]; exact eval_old (by kernel_rfl) 80 rfl (by decide) rfl
          clear hev hd q9
          obtain ⟨cc0, cc1, cc2, cc3, cc4, cc5, cc6, cc7, cc8, cc9, cc10⟩ := HS W hVW
          exact .inl ⟨W, by go_simp, Below.refl _ _⟩
        · obtain rfl := Option.some.inj ho
          obtain rfl := Option.some.inj hx
          have q10 : uu 10 = .agg #[.int .u8 (tos.toNat : Int), .int .u16 (id.toNat : Int), .bool D, .bool true, .int .u16 (fo.toNat : Int), .int .u8 (ttl.toNat : Int), .int .u8 (pr.toNat : Int), .int .u32 (s.toNat : Int), .int .u32 (d.toNat : Int), .slice a8 os.length cap8, .slice a9 xs.length cap9] := hd 10 (by kernel_rfl) _ rfl
          have q9 : uu 9 = .bool false := hd 9 (by kernel_rfl) _ rfl
          refine .inl ⟨wanted_yes rfl (yielded_put (k := 32) (by kernel_rfl) (by kernel_rfl) 80 rfl (by decide) q9), ?_⟩
          generalize hev : Act.eval _ = ev
          have ec : ∀ c, ev (.const c) = c := fun c => by rw [← hev]; rfl
          have ef : ∀ f, ev (.func f) = .func (.func f) #[] #[] := fun f => by rw [← hev]; rfl
          have e33 : ev (.tmp 33) = .agg #[.int .u8 (tos.toNat : Int), .int .u16 (id.toNat : Int), .bool D, .bool true, .int .u16 (fo.toNat : Int), .int .u8 (ttl.toNat : Int), .int .u8 (pr.toNat : Int), .int .u32 (s.toNat : Int), .int .u32 (d.toNat : Int), .slice a8 os.length cap8, .slice a9 xs.length cap9] := by rw [← hev]; exact (eval_put (by kernel_rfl) 80 rfl (by decide)).trans q10
          clear hev hd q10 q9
          exact .inr ⟨_, _, by go_simp, (HP3 W).out⟩
        · obtain rfl := Option.some.inj ho
          obtain rfl := Option.some.inj hx
          have q9 : uu 9 = .bool false := hd 9 (by kernel_rfl) _ rfl
          refine .inl ⟨wanted_yes rfl (yielded_put (k := 32) (by kernel_rfl) (by kernel_rfl) 80 rfl (by decide) q9), ?_⟩
          generalize hev : Act.eval _ = ev
          have ec : ∀ c, ev (.const c) = c := fun c => by rw [← hev]; rfl
          have e6 : ev (.tmp 6) = .int .i64 0 := by rw [← hev]; exact eval_old (by kernel_rfl) 80 rfl (by decide) rfl
          clear hev hd q9
          exact .inl ⟨W, by go_simp, Below.refl _ _⟩
        · obtain rfl := Option.some.inj ho
          obtain rfl := Option.some.inj hx
          have q11 : uu 11 = .int .i64 0 := hd 11 (by kernel_rfl) _ rfl
          have q12 : uu 12 = .int .i64 0 := hd 12 (by kernel_rfl) _ rfl
          have q9 : uu 9 = .bool false := hd 9 (by kernel_rfl) _ rfl
          refine .inl ⟨wanted_yes rfl (yielded_put (k := 32) (by kernel_rfl) (by kernel_rfl) 80 rfl (by decide) q9), ?_⟩
          generalize hev : Act.eval _ = ev
          have ec : ∀ c, ev (.const c) = c := fun c => by rw [← hev]; rfl
          have e34 : ev (.tmp 34) = .int .i64 0 := by rw [← hev]; exact (eval_put (by kernel_rfl) 80 rfl (by decide)).trans q11
          have e35 : ev (.tmp 35) = .int .i64 0 := by rw [← hev]; exact (eval_put (by kernel_rfl) 80 rfl (by decide)).trans q12
          clear hev hd q11 q12 q9
          exact .inl ⟨W, by go_simp, Below.refl _ _⟩
        · obtain rfl := Option.some.inj ho
          obtain rfl := Option.some.inj hx
          have q9 : uu 9 = .bool false := hd 9 (by kernel_rfl) _ rfl
          have q13 : uu 13 = .bool false := hd 13 (by kernel_rfl) _ rfl
          refine .inl ⟨wanted_none rfl, ?_⟩
          generalize hev : Act.eval _ = ev
          have ec : ∀ c, ev (.const c) = c := fun c => by rw [← hev]; rfl
          have e32 : ev (.tmp 32) = .bool false := by rw [← hev]; exact (eval_put (by kernel_rfl) 80 rfl (by decide)).trans q9
          have e36 : ev (.tmp 36) = .bool false := by rw [← hev]; exact (eval_put (by kernel_rfl) 80 rfl (by decide)).trans q13
          clear hev hd q9 q13
          exact .inl ⟨W, by go_simp, Below.refl _ _⟩
        · obtain rfl := Option.some.inj ho
          obtain rfl := Option.some.inj hx
          have q14 : uu 14 = .bool false := hd 14 (by kernel_rfl) _ rfl
          refine .inl ⟨wanted_none rfl, ?_⟩
          generalize hev : Act.eval _ = ev
          have ec : ∀ c, ev (.const c) = c := fun c => by rw [← hev]; rfl
          have e37 : ev (.tmp 37) = .bool false := by rw [← hev]; exact (eval_put (by kernel_rfl) 80 rfl (by decide)).trans q14
          clear hev hd q14
          exact .inl ⟨W, by go_simp, Below.refl _ _⟩
        · obtain rfl := Option.some.inj ho
          obtain rfl := Option.some.inj hx
          have q15 : uu 15 = .bool false := hd 15 (by kernel_rfl) _ rfl
          refine .inl ⟨wanted_yes rfl (yielded_put (k := 38) (by kernel_rfl) (by kernel_rfl) 80 rfl (by decide) q15), ?_⟩
          generalize hev : Act.eval _ = ev
          have ec : ∀ c, ev (.const c) = c := fun c => by rw [← hev]; rfl
          have e2 : ev (.tmp 2) = .pointer (some ⟨w.heap.size, 0, none⟩) := by rw [← hev]; exact eval_old (by kernel_rfl) 80 rfl (by decide) rfl
          clear hev hd q15
          obtain ⟨cc0, cc1, cc2, cc3, cc4, cc5, cc6, cc7, cc8, cc9, cc10⟩ := HS W hVW
          exact .inl ⟨W, by go_simp, Below.refl _ _⟩
        · obtain rfl := Option.some.inj ho
          obtain rfl := Option.some.inj hx
          have q16 : uu 16 = .agg #[.int .u8 (tos.toNat : Int), .int .u16 (id.toNat : Int), .bool D, .bool true, .int .u16 (fo.toNat : Int), .int .u8 (ttl.toNat : Int), .int .u8 (pr.toNat : Int), .int .u32 (s.toNat : Int), .int .u32 (d.toNat : Int), .slice a8 os.length cap8, .slice a9 xs.length cap9] := hd 16 (by kernel_rfl) _ rfl
          have q15 : uu 15 = .bool false := hd 15 (by kernel_rfl) _ rfl
          refine .inl ⟨wanted_yes rfl (yielded_put (k := 38) (by kernel_rfl) (by kernel_rfl) 80 rfl (by decide) q15), ?_⟩
          generalize hev : Act.eval _ = ev
          have ec : ∀ c, ev (.const c) = c := fun c => by rw [← hev]; rfl
          have ef : ∀ f, ev (.func f) = .func (.func f) #[] #[] := fun f => by rw [← hev]; rfl
          have e39 : ev (.tmp 39) = .agg #[.int .u8 (tos.toNat : Int), .int .u16 (id.toNat : Int), .bool D, .bool true, .int .u16 (fo.toNat : Int), .int .u8 (ttl.toNat : Int), .int .u8 (pr.toNat : Int), .int .u32 (s.toNat : Int), .int .u32 (d.toNat : Int), .slice a8 os.length cap8, .slice a9 xs.length cap9] := by rw [← hev]; exact (eval_put (by kernel_rfl) 80 rfl (by decide)).trans q16
          clear hev hd q16 q15
          exact .inr ⟨_, _, by go_simp, (HZ W).out⟩
        · obtain rfl := Option.some.inj ho
          obtain rfl := Option.some.inj hx
          have q15 : uu 15 = .bool false := hd 15 (by kernel_rfl) _ rfl
          refine .inl ⟨wanted_yes rfl (yielded_put (k := 38) (by kernel_rfl) (by kernel_rfl) 80 rfl (by decide) q15), ?_⟩
          generalize hev : Act.eval _ = ev
          have ec : ∀ c, ev (.const c) = c := fun c => by rw [← hev]; rfl
          have e2 : ev (.tmp 2) = .pointer (some ⟨w.heap.size, 0, none⟩) := by rw [← hev]; exact eval_old (by kernel_rfl) 80 rfl (by decide) rfl
          clear hev hd q15
          exact .inl ⟨W, by go_simp, Below.refl _ _⟩
        · obtain rfl := Option.some.inj ho
          obtain rfl := Option.some.inj hx
          have q18 : uu 18 = .pointer (some ⟨w.heap.size, 9, none⟩) := hd 18 (by kernel_rfl) _ rfl
          have q15 : uu 15 = .bool false := hd 15 (by kernel_rfl) _ rfl
          refine .inl ⟨wanted_yes rfl (yielded_put (k := 38) (by kernel_rfl) (by kernel_rfl) 80 rfl (by decide) q15), ?_⟩
          generalize hev : Act.eval _ = ev
          have ec : ∀ c, ev (.const c) = c := fun c => by rw [← hev]; rfl
          have e41 : ev (.tmp 41) = .pointer (some ⟨w.heap.size, 9, none⟩) := by rw [← hev]; exact (eval_put (by kernel_rfl) 80 rfl (by decide)).trans q18
          clear hev hd q18 q15
          obtain ⟨cc0, cc1, cc2, cc3, cc4, cc5, cc6, cc7, cc8, cc9, cc10⟩ := HS W hVW
          exact .inl ⟨W, by go_simp, Below.refl _ _⟩
        · obtain rfl := Option.some.inj ho
          obtain rfl := Option.some.inj hx
          have q19 : uu 19 = .slice a8 os.length cap8 := hd 19 (by kernel_rfl) _ rfl
          have q15 : uu 15 = .bool false := hd 15 (by kernel_rfl) _ rfl
          refine .inl ⟨wanted_yes rfl (yielded_put (k := 38) (by kernel_rfl) (by kernel_rfl) 80 rfl (by decide) q15), ?_⟩
          generalize hev : Act.eval _ = ev
          have ec : ∀ c, ev (.const c) = c := fun c => by rw [← hev]; rfl
          have e42 : ev (.tmp 42) = .slice a8 os.length cap8 := by rw [← hev]; exact (eval_put (by kernel_rfl) 80 rfl (by decide)).trans q19
          clear hev hd q19 q15
          exact .inl ⟨W, by go_simp, Below.refl _ _⟩
        · obtain rfl := Option.some.inj ho
          obtain rfl := Option.some.inj hx
          have q20 : uu 20 = .int .i64 (os.length : Int) := hd 20 (by kernel_rfl) _ rfl
          have q15 : uu 15 = .bool false := hd 15 (by kernel_rfl) _ rfl
          refine .inl ⟨wanted_yes rfl (yielded_put (k := 38) (by kernel_rfl) (by kernel_rfl) 80 rfl (by decide) q15), ?_⟩
          generalize hev : Act.eval _ = ev
          have ec : ∀ c, ev (.const c) = c := fun c => by rw [← hev]; rfl
          have e43 : ev (.tmp 43) = .int .i64 (os.length : Int) := by rw [← hev]; exact (eval_put (by kernel_rfl) 80 rfl (by decide)).trans q20
          clear hev hd q20 q15
          have hw : IntKind.i64.wrap (20 + (os.length : Int)) = 20 + (os.length : Int) := by rw [IntKind.wrap_i64]; omega
          exact .inl ⟨W, by go_simp, Below.refl _ _⟩
        · obtain rfl := Option.some.inj ho
          obtain rfl := Option.some.inj hx
          have q17 : uu 17 = .int .i64 (20 + (os.length : Int)) := hd 17 (by kernel_rfl) _ rfl
          have q21 : uu 21 = .int .i64 (20 + (os.length : Int)) := hd 21 (by kernel_rfl) _ rfl
          have q15 : uu 15 = .bool false := hd 15 (by kernel_rfl) _ rfl
          refine .inl ⟨wanted_yes rfl (yielded_put (k := 38) (by kernel_rfl) (by kernel_rfl) 80 rfl (by decide) q15), ?_⟩
          generalize hev : Act.eval _ = ev
          have ec : ∀ c, ev (.const c) = c := fun c => by rw [← hev]; rfl
          have e40 : ev (.tmp 40) = .int .i64 (20 + (os.length : Int)) := by rw [← hev]; exact (eval_put (by kernel_rfl) 80 rfl (by decide)).trans q17
          have e44 : ev (.tmp 44) = .int .i64 (20 + (os.length : Int)) := by rw [← hev]; exact (eval_put (by kernel_rfl) 80 rfl (by decide)).trans q21
          clear hev hd q17 q21 q15
          exact .inl ⟨W, by go_simp, Below.refl _ _⟩
        · obtain rfl := Option.some.inj ho
          obtain rfl := Option.some.inj hx
          have q15 : uu 15 = .bool false := hd 15 (by kernel_rfl) _ rfl
          have q22 : uu 22 = .bool false := hd 22 (by kernel_rfl) _ rfl
          refine .inl ⟨wanted_none rfl, ?_⟩
          generalize hev : Act.eval _ = ev
          have ec : ∀ c, ev (.const c) = c := fun c => by rw [← hev]; rfl
          have e38 : ev (.tmp 38) = .bool false := by rw [← hev]; exact (eval_put (by kernel_rfl) 80 rfl (by decide)).trans q15
          have e45 : ev (.tmp 45) = .bool false := by rw [← hev]; exact (eval_put (by kernel_rfl) 80 rfl (by decide)).trans q22
          clear hev hd q15 q22
          exact .inl ⟨W, by go_simp, Below.refl _ _⟩
        · obtain rfl := Option.some.inj ho
          obtain rfl := Option.some.inj hx
          have q23 : uu 23 = .bool false := hd 23 (by kernel_rfl) _ rfl
          refine .inl ⟨wanted_none rfl, ?_⟩
          generalize hev : Act.eval _ = ev
          have ec : ∀ c, ev (.const c) = c := fun c => by rw [← hev]; rfl
          have e46 : ev (.tmp 46) = .bool false := by rw [← hev]; exact (eval_put (by kernel_rfl) 80 rfl (by decide)).trans q23
          clear hev hd q23
          exact .inl ⟨W, by go_simp, Below.refl _ _⟩
        · obtain rfl := Option.some.inj ho
          obtain rfl := Option.some.inj hx
          have q24 : uu 24 = .bool false := hd 24 (by kernel_rfl) _ rfl
          refine .inl ⟨wanted_yes rfl (yielded_put (k := 47) (by kernel_rfl) (by kernel_rfl) 80 rfl (by decide) q24), ?_⟩
          generalize hev : Act.eval _ = ev
          have ec : ∀ c, ev (.const c) = c := fun c => by rw [← hev]; rfl
          have e2 : ev (.tmp 2) = .pointer (some ⟨w.heap.size, 0, none⟩) := by rw [← hev]; exact eval_old (by kernel_rfl) 80 rfl (by decide) rfl
          clear hev hd q24
          obtain ⟨cc0, cc1, cc2, cc3, cc4, cc5, cc6, cc7, cc8, cc9, cc10⟩ := HS W hVW
          exact .inl ⟨W, by go_simp, Below.refl _ _⟩
        · obtain rfl := Option.some.inj ho
          obtain rfl := Option.some.inj hx
          have q25 : uu 25 = .agg #[.int .u8 (tos.toNat : Int), .int .u16 (id.toNat : Int), .bool D, .bool true, .int .u16 (fo.toNat : Int), .int .u8 (ttl.toNat : Int), .int .u8 (pr.toNat : Int), .int .u32 (s.toNat : Int), .int .u32 (d.toNat : Int), .slice a8 os.length cap8, .slice a9 xs.length cap9] := hd 25 (by kernel_rfl) _ rfl
          have q24 : uu 24 = .bool false := hd 24 (by kernel_rfl) _ rfl
          refine .inl ⟨wanted_yes rfl (yielded_put (k := 47) (by kernel_rfl) (by kernel_rfl) 80 rfl (by decide) q24), ?_⟩
          generalize hev : Act.eval _ = ev
          have ec : ∀ c, ev (.const c) = c := fun c => by rw [← hev]; rfl
          have ef : ∀ f, ev (.func f) = .func (.func f) #[] #[] := fun f => by rw [← hev]; rfl
          have e48 : ev (.tmp 48) = .agg #[.int .u8 (tos.toNat : Int), .int .u16 (id.toNat : Int), .bool D, .bool true, .int .u16 (fo.toNat : Int), .int .u8 (ttl.toNat : Int), .int .u8 (pr.toNat : Int), .int .u32 (s.toNat : Int), .int .u32 (d.toNat : Int), .slice a8 os.length cap8, .slice a9 xs.length cap9] := by rw [← hev]; exact (eval_put (by kernel_rfl) 80 rfl (by decide)).trans q25
          clear hev hd q25 q24
          exact .inr ⟨_, _, by go_simp, (HQ W).out⟩
        · obtain rfl := Option.some.inj ho
          obtain rfl := Option.some.inj hx
          have q24 : uu 24 = .bool false := hd 24 (by kernel_rfl) _ rfl
          refine .inl ⟨wanted_yes rfl (yielded_put (k := 47) (by kernel_rfl) (by kernel_rfl) 80 rfl (by decide) q24), ?_⟩
          generalize hev : Act.eval _ = ev
          have ec : ∀ c, ev (.const c) = c := fun c => by rw [← hev]; rfl
          have e2 : ev (.tmp 2) = .pointer (some ⟨w.heap.size, 0, none⟩) := by rw [← hev]; exact eval_old (by kernel_rfl) 80 rfl (by decide) rfl
          clear hev hd q24
          exact .inl ⟨W, by go_simp, Below.refl _ _⟩
        · obtain rfl := Option.some.inj ho
          obtain rfl := Option.some.inj hx
          have q27 : uu 27 = .pointer (some ⟨w.heap.size, 3, none⟩) := hd 27 (by kernel_rfl) _ rfl
          have q24 : uu 24 = .bool false := hd 24 (by kernel_rfl) _ rfl
          refine .inl ⟨wanted_yes rfl (yielded_put (k := 47) (by kernel_rfl) (by kernel_rfl) 80 rfl (by decide) q24), ?_⟩
          generalize hev : Act.eval _ = ev
          have ec : ∀ c, ev (.const c) = c := fun c => by rw [← hev]; rfl
          have e50 : ev (.tmp 50) = .pointer (some ⟨w.heap.size, 3, none⟩) := by rw [← hev]; exact (eval_put (by kernel_rfl) 80 rfl (by decide)).trans q27
          clear hev hd q27 q24
          obtain ⟨cc0, cc1, cc2, cc3, cc4, cc5, cc6, cc7, cc8, cc9, cc10⟩ := HS W hVW
          exact .inl ⟨W, by go_simp, Below.refl _ _⟩
        · obtain rfl := Option.some.inj ho
          obtain rfl := Option.some.inj hx
          have q28 : uu 28 = .bool true := hd 28 (by kernel_rfl) _ rfl
          have q24 : uu 24 = .bool false := hd 24 (by kernel_rfl) _ rfl
          refine .inl ⟨wanted_yes rfl (yielded_put (k := 47) (by kernel_rfl) (by kernel_rfl) 80 rfl (by decide) q24), ?_⟩
          generalize hev : Act.eval _ = ev
          have ec : ∀ c, ev (.const c) = c := fun c => by rw [← hev]; rfl
          have e51 : ev (.tmp 51) = .bool true := by rw [← hev]; exact (eval_put (by kernel_rfl) 80 rfl (by decide)).trans q28
          clear hev hd q28 q24
          exact .inl ⟨W, by go_simp, Below.refl _ _⟩
        · obtain rfl := Option.some.inj ho
          obtain rfl := Option.some.inj hx
          have q29 : uu 29 = .bool true := hd 29 (by kernel_rfl) _ rfl
          exact .inr ⟨wanted_no rfl (yielded_put (k := 52) (by kernel_rfl) (by kernel_rfl) 80 rfl (by decide) q29), rfl⟩
        · obtain rfl := Option.some.inj ho
          obtain rfl := Option.some.inj hx
          have q29 : uu 29 = .bool true := hd 29 (by kernel_rfl) _ rfl
          exact .inr ⟨wanted_no rfl (yielded_put (k := 52) (by kernel_rfl) (by kernel_rfl) 80 rfl (by decide) q29), rfl⟩
        · obtain rfl := Option.some.inj ho
          obtain rfl := Option.some.inj hx
          have q29 : uu 29 = .bool true := hd 29 (by kernel_rfl) _ rfl
          exact .inr ⟨wanted_no rfl (yielded_put (k := 52) (by kernel_rfl) (by kernel_rfl) 80 rfl (by decide) q29), rfl⟩
        · obtain rfl := Option.some.inj ho
          obtain rfl := Option.some.inj hx
          have q29 : uu 29 = .bool true := hd 29 (by kernel_rfl) _ rfl
          have q24 : uu 24 = .bool false := hd 24 (by kernel_rfl) _ rfl
          refine .inl ⟨wanted_yes rfl (yielded_put (k := 47) (by kernel_rfl) (by kernel_rfl) 80 rfl (by decide) q24), ?_⟩
          generalize hev : Act.eval _ = ev
          have ec : ∀ c, ev (.const c) = c := fun c => by rw [← hev]; rfl
          have e52 : ev (.tmp 52) = .bool true := by rw [← hev]; exact (eval_put (by kernel_rfl) 80 rfl (by decide)).trans q29
          clear hev hd q29 q24
          exact .inl ⟨W, by go_simp, Below.refl _ _⟩
        · obtain rfl := Option.some.inj ho
          obtain rfl := Option.some.inj hx
          have q26 : uu 26 = .bool pb := hd 26 (by kernel_rfl) _ rfl
          have q33 : uu 33 = .bool true := hd 33 (by kernel_rfl) _ rfl
          have q24 : uu 24 = .bool false := hd 24 (by kernel_rfl) _ rfl
          refine .inl ⟨wanted_yes rfl (yielded_put (k := 47) (by kernel_rfl) (by kernel_rfl) 80 rfl (by decide) q24), ?_⟩
          generalize hev : Act.eval _ = ev
          have ec : ∀ c, ev (.const c) = c := fun c => by rw [← hev]; rfl
          have e49 : ev (.tmp 49) = .bool pb := by rw [← hev]; exact (eval_put (by kernel_rfl) 80 rfl (by decide)).trans q26
          have e56 : ev (.tmp 56) = .bool true := by rw [← hev]; exact (eval_put (by kernel_rfl) 80 rfl (by decide)).trans q33
          clear hev hd q26 q33 q24
          have hpq : pb = true := (HPB ()).out.symm
          exact .inl ⟨W, by go_simp, Below.refl _ _⟩
        · obtain rfl := Option.some.inj ho
          obtain rfl := Option.some.inj hx
          have q24 : uu 24 = .bool false := hd 24 (by kernel_rfl) _ rfl
          have q34 : uu 34 = .bool false := hd 34 (by kernel_rfl) _ rfl
          refine .inl ⟨wanted_none rfl, ?_⟩
          generalize hev : Act.eval _ = ev
          have ec : ∀ c, ev (.const c) = c := fun c => by rw [← hev]; rfl
          have e47 : ev (.tmp 47) = .bool false := by rw [← hev]; exact (eval_put (by kernel_rfl) 80 rfl (by decide)).trans q24
          have e57 : ev (.tmp 57) = .bool false := by rw [← hev]; exact (eval_put (by kernel_rfl) 80 rfl (by decide)).trans q34
          clear hev hd q24 q34
          exact .inl ⟨W, by go_simp, Below.refl _ _⟩
        · simp at ho
      · intro W hVW

        simp only [putAll, Act.put, List.getD_cons_zero, List.getD_cons_succ]
        simp only [List.setIfInBounds_toArray, List.set_cons_succ, List.set_cons_zero]
        have hB := hB.trans (hVW.mono hB.size)
        replace hK := hK.next hVW
        replace ho := ho.next hVW
        replace hx := hx.next hVW
        replace hz := hz.next hVW
        replace r2 := r2.next hVW
        clear HS HP3 HZ HQ HPB HSM hVW r3
        go_wp2_with fail
        refine (HFz _).out.mono ?_
        rintro e w_5 ⟨rfl, rfl⟩
        go_wp2_with fail
        refine (radd_any _ _ _ _ L2 zs _ r2 hz (by rw [HL2.out, List.length_append, ih_len]; omega)).mono ?_
        rintro e w_6 ⟨v5, rfl, hown, hbel⟩
        obtain ⟨L5, A5, c5, HL5, rfl, r5⟩ := hown.rdv
        replace hB := bnext hB hbel
        replace hK := hK.next hbel
        replace ho := ho.next hbel
        replace hx := hx.next hbel
        clear hbel hown r2 hz
        go_wp2_with fail
        refine (HP4 L5 (by rw [HL5.out, HL2.out, List.append_assoc]) _ _ _ r5).out.mono ?_
        rintro e w_7 ⟨Lo, Ao, co, Lx, Ax, cx, rfl, HLo, HLx, ro, rx, hbel⟩
        replace hB := bnext hB hbel
        replace hK := hK.next hbel
        replace ho := ho.next hbel
        replace hx := hx.next hbel
        obtain ⟨p0, p1, p2, p3, p4, p5, p6, p7, p8, p9, p10, -⟩ := hK.get11
        have hlt := hK.lt
        clear hbel r5 HP4
        go_wp2_with fail
        refine (psame_yes tos id D true fo ttl pr s d _ _ _ _ _ _ _ _ Lo Lx os xs _ (ro.nextA _) (rx.nextA _) (ho.nextA _) (hx.nextA _) HLo.out.symm HLx.out.symm).mono ?_
        rintro e w_8 ⟨rfl, hbel⟩
        replace hB := bnext (bnextA hB _) hbel
        clear hbel p0 p1 p2 p3 p4 p5 p6 p7 p8 p9 p10 ro rx ho hx hK hlt
        go_wp2_with fail
        go_wp2_with (go_at_call 19; refine (lives06_any _).mono ?_; rintro e wl ⟨rfl, hbel⟩)
        go_ret
        exact ⟨rfl, bnext hB hbel⟩
  · obtain ⟨HP1, HP2, HP3⟩ : (∀ W, Hid (Calls Try.prog 21 #[.agg #[.int .u8 (tos.toNat : Int), .int .u16 (id.toNat : Int), .bool D, .bool M, .int .u16 (fo.toNat : Int), .int .u8 (ttl.toNat : Int), .int .u8 (pr.toNat : Int), .int .u32 (s.toNat : Int), .int .u32 (d.toNat : Int), .slice a8 os.length cap8, .slice a9 xs.length cap9]] W fun e w' => e = .returned (.tuple #[.slice none 0 0, .int .i64 2]) ∧ Below W.heap.size W w')) ∧ (∀ W, Hid (Calls Try.prog 22 #[.agg #[.int .u8 (tos.toNat : Int), .int .u16 (id.toNat : Int), .bool D, .bool M, .int .u16 (fo.toNat : Int), .int .u8 (ttl.toNat : Int), .int .u8 (pr.toNat : Int), .int .u32 (s.toNat : Int), .int .u32 (d.toNat : Int), .slice a8 os.length cap8, .slice a9 xs.length cap9]] W fun e w' => e = .returned (.tuple #[.slice none 0 0, .int .i64 2]) ∧ Below W.heap.size W w')) ∧ (∀ W, Hid (Calls Try.prog 24 #[.agg #[.int .u8 (tos.toNat : Int), .int .u16 (id.toNat : Int), .bool D, .bool M, .int .u16 (fo.toNat : Int), .int .u8 (ttl.toNat : Int), .int .u8 (pr.toNat : Int), .int .u32 (s.toNat : Int), .int .u32 (d.toNat : Int), .slice a8 os.length cap8, .slice a9 xs.length cap9]] W fun e w' => e = .returned (.int .i64 2) ∧ Below W.heap.size W w')) := by
      by_cases h1 : 40 < os.length
      · exact ⟨fun W => pput_bad0 tos id D M fo ttl pr s d a8 a9 os.length cap8 xs.length cap9 (by omega) (by omega) W h1, fun W => rpput_bad0 tos id D M fo ttl pr s d a8 a9 os.length cap8 xs.length cap9 (by omega) (by omega) W h1, fun W => pcheck_bad0 tos id D M fo ttl pr s d a8 a9 os.length cap8 xs.length cap9 (by omega) (by omega) W h1⟩
      · by_cases h2 : os.length % 4 = 0
        · exact ⟨fun W => pput_bad2 tos id D M fo ttl pr s d a8 a9 os.length cap8 xs.length cap9 (by omega) (by omega) W (by omega) h2 (by omega), fun W => rpput_bad2 tos id D M fo ttl pr s d a8 a9 os.length cap8 xs.length cap9 (by omega) (by omega) W (by omega) h2 (by omega), fun W => pcheck_bad2 tos id D M fo ttl pr s d a8 a9 os.length cap8 xs.length cap9 (by omega) (by omega) W (by omega) h2 (by omega)⟩
        · exact ⟨fun W => pput_bad1 tos id D M fo ttl pr s d a8 a9 os.length cap8 xs.length cap9 (by omega) (by omega) W (by omega) h2, fun W => rpput_bad1 tos id D M fo ttl pr s d a8 a9 os.length cap8 xs.length cap9 (by omega) (by omega) W (by omega) h2, fun W => pcheck_bad1 tos id D M fo ttl pr s d a8 a9 os.length cap8 xs.length cap9 (by omega) (by omega) W (by omega) h2⟩
    clear hok HFz
    cases M
    · skip
      go_enter Try.func4, Try.ntmps4
      go_wp2_with fail
      refine (HF _).out.mono ?_
      rintro e w_1 ⟨rfl, hbel⟩
      have hB := bnext (bnextA (Below.refl w.heap.size w) _) hbel
      have hK := (Blk.new w #[.int .u8 (tos.toNat : Int), .int .u16 (id.toNat : Int), .bool D, .bool false, .int .u16 (fo.toNat : Int), .int .u8 (ttl.toNat : Int), .int .u8 (pr.toNat : Int), .int .u32 (s.toNat : Int), .int .u32 (d.toNat : Int), .slice a8 len8 cap8, .slice a9 len9 cap9] 27).next hbel
      obtain ⟨p0, p1, p2, p3, p4, p5, p6, p7, p8, p9, p10, g0, g1, g2, g3, g4, g5, g6, g7, g8, g9, g10⟩ := hK.get11
      clear hbel HF
      go_wp2_with fail
      have hBV := bset11 hB (Nat.le_refl _) (.int .u8 (tos.toNat : Int)) (.int .u16 (id.toNat : Int)) (.bool D) (.bool false) (.int .u16 (fo.toNat : Int)) (.int .u8 (ttl.toNat : Int)) (.int .u8 (pr.toNat : Int)) (.int .u32 (s.toNat : Int)) (.int .u32 (d.toNat : Int)) (.slice a8 os.length cap8) (.slice a9 xs.length cap9)
      have hKV := hK.set11 (u0 := .int .u8 (tos.toNat : Int)) (u1 := .int .u16 (id.toNat : Int)) (u2 := .bool D) (u3 := .bool false) (u4 := .int .u16 (fo.toNat : Int)) (u5 := .int .u8 (ttl.toNat : Int)) (u6 := .int .u8 (pr.toNat : Int)) (u7 := .int .u32 (s.toNat : Int)) (u8 := .int .u32 (d.toNat : Int)) (u9 := .slice a8 os.length cap8) (u10 := .slice a9 xs.length cap9)
      simp only [setAll11] at hBV hKV
      clear p0 p1 p2 p3 p4 p5 p6 p7 p8 p9 p10 g0 g1 g2 g3 g4 g5 g6 g7 g8 g9 g10 hB hK
      generalize (((((((((((w_1.setCell ⟨w.heap.size, 0, none⟩ (.int .u8 (tos.toNat : Int))).setCell ⟨w.heap.size, 1, none⟩ (.int .u16 (id.toNat : Int))).setCell ⟨w.heap.size, 2, none⟩ (.bool D)).setCell ⟨w.heap.size, 3, none⟩ (.bool false)).setCell ⟨w.heap.size, 4, none⟩ (.int .u16 (fo.toNat : Int))).setCell ⟨w.heap.size, 5, none⟩ (.int .u8 (ttl.toNat : Int))).setCell ⟨w.heap.size, 6, none⟩ (.int .u8 (pr.toNat : Int))).setCell ⟨w.heap.size, 7, none⟩ (.int .u32 (s.toNat : Int))).setCell ⟨w.heap.size, 8, none⟩ (.int .u32 (d.toNat : Int))).setCell ⟨w.heap.size, 9, none⟩ (.slice a8 os.length cap8)).setCell ⟨w.heap.size, 10, none⟩ (.slice a9 xs.length cap9)) = V at hBV hKV ⊢
      have ho := ho0.next hBV
      have hx := hx0.next hBV
      have hz := hz0.next hBV
      have hB := hBV
      have hK := hKV
      clear hBV hKV ho0 hx0 hz0
      clear ho hx hz
      obtain ⟨p0, p1, p2, p3, p4, p5, p6, p7, p8, p9, p10, -⟩ := hK.get11
      refine (HP1 _).out.mono ?_
      rintro e w_2 ⟨rfl, hbel⟩
      replace hB := bnext hB hbel
      replace hK := hK.next hbel
      clear p0 p1 p2 p3 p4 p5 p6 p7 p8 p9 p10
      obtain ⟨p0, p1, p2, p3, p4, p5, p6, p7, p8, p9, p10, -⟩ := hK.get11
      clear hbel
      go_wp2_with fail
      refine (HP2 _).out.mono ?_
      rintro e w4 ⟨rfl, hbel⟩
      replace hB := bnext hB hbel
      replace hK := hK.next hbel
      clear hbel p0 p1 p2 p3 p4 p5 p6 p7 p8 p9 p10 HP1 HP2
      go_wp2_with fail
      have HSM : ∀ W, Below w4.heap.size w4 W → Hid (Calls Try.prog 23 #[.slice none 0 0, .slice none 0 0] W fun e w' => e = .returned (.bool true) ∧ Below W.heap.size W w') := fun W _ => (rsame_yes none none 0 0 [] W W.heap.size (Rd.nil0 _ _ _) (Rd.nil0 _ _ _)).mono fun _ _ h => ⟨h.1, h.2.bel⟩
      have HS : ∀ W, Below w4.heap.size w4 W → (W.cell? ⟨w.heap.size, 0, none⟩ = some (.int .u8 (tos.toNat : Int)) ∧ W.cell? ⟨w.heap.size, 1, none⟩ = some (.int .u16 (id.toNat : Int)) ∧ W.cell? ⟨w.heap.size, 2, none⟩ = some (.bool D) ∧ W.cell? ⟨w.heap.size, 3, none⟩ = some (.bool false) ∧ W.cell? ⟨w.heap.size, 4, none⟩ = some (.int .u16 (fo.toNat : Int)) ∧ W.cell? ⟨w.heap.size, 5, none⟩ = some (.int .u8 (ttl.toNat : Int)) ∧ W.cell? ⟨w.heap.size, 6, none⟩ = some (.int .u8 (pr.toNat : Int)) ∧ W.cell? ⟨w.heap.size, 7, none⟩ = some (.int .u32 (s.toNat : Int)) ∧ W.cell? ⟨w.heap.size, 8, none⟩ = some (.int .u32 (d.toNat : Int)) ∧ W.cell? ⟨w.heap.size, 9, none⟩ = some (.slice a8 os.length cap8) ∧ W.cell? ⟨w.heap.size, 10, none⟩ = some (.slice a9 xs.length cap9)) := by
        intro W h
        obtain ⟨p0, p1, p2, p3, p4, p5, p6, p7, p8, p9, p10, -⟩ := (hK.next h).get11
        exact ⟨p0, p1, p2, p3, p4, p5, p6, p7, p8, p9, p10⟩
      refine region_vals (by kernel_rfl) (by kernel_rfl) (by kernel_rfl) 80 rfl (by kernel_rfl) w4 (Below.refl _ _) [.slice none 0 0, .slice none 0 0, .bool true, .bool false, .bool false, .int .i64 2, .int .i64 2, .bool false, .bool false, .bool false, .agg #[.int .u8 (tos.toNat : Int), .int .u16 (id.toNat : Int), .bool D, .bool false, .int .u16 (fo.toNat : Int), .int .u8 (ttl.toNat : Int), .int .u8 (pr.toNat : Int), .int .u32 (s.toNat : Int), .int .u32 (d.toNat : Int), .slice a8 os.length cap8, .slice a9 xs.length cap9], .int .i64 2, .int .i64 2, .bool false, .bool false, .bool false, .agg #[.int .u8 (tos.toNat : Int), .int .u16 (id.toNat : Int), .bool D, .bool false, .int .u16 (fo.toNat : Int), .int .u8 (ttl.toNat : Int), .int .u8 (pr.toNat : Int), .int .u32 (s.toNat : Int), .int .u32 (d.toNat : Int), .slice a8 os.length cap8, .slice a9 xs.length cap9], .int .i64 (20 + (os.length : Int)), .pointer (some ⟨w.heap.size, 9, none⟩), .slice a8 os.length cap8, .int .i64 (os.length : Int), .int .i64 (20 + (os.length : Int)), .bool false, .bool false, .bool false, .agg #[.int .u8 (tos.toNat : Int), .int .u16 (id.toNat : Int), .bool D, .bool false, .int .u16 (fo.toNat : Int), .int .u8 (ttl.toNat : Int), .int .u8 (pr.toNat : Int), .int .u32 (s.toNat : Int), .int .u32 (d.toNat : Int), .slice a8 os.length cap8, .slice a9 xs.length cap9], .bool pb, .pointer (some ⟨w.heap.size, 3, none⟩), .bool false, .bool false, .pointer (some ⟨w.heap.size, 4, none⟩), .int .u16 (fo.toNat : Int), .bool pb, .bool pb, .bool false, .bool false] rfl ?_ ?_
      · intro i o uu W xx ho hx hVW hd
        rcases i with _|_|_|_|_|_|_|_|_|_|_|_|_|_|_|_|_|_|_|_|_|_|_|_|_|_|_|_|_|_|_|_|_|_|_|_|i
        · obtain rfl := Option.some.inj ho
          obtain rfl := Option.some.inj hx
          refine .inl ⟨wanted_none rfl, ?_⟩
          generalize hev : Act.eval _ = ev
          have ec : ∀ c, ev (.const c) = c := fun c => by rw [← hev]; rfl
          have e5 : ev (.tmp 5) = .slice none 0 0 := by rw [← hev]; exact eval_old (by kernel_rfl) 80 rfl (by decide) rfl
          clear hev hd
          exact .inl ⟨W, by go_simp, Below.refl _ _⟩
        · obtain rfl := Option.some.inj ho
          obtain rfl := Option.some.inj hx
          refine .inl ⟨wanted_none rfl, ?_⟩
          generalize hev : Act.eval _ = ev
          have ec : ∀ c, ev (.const c) = c := fun c => by rw [← hev]; rfl
          have e7 : ev (.tmp 7) = .slice none 0 0 := by rw [← hev]; exact eval_old (by kernel_rfl) 80 rfl (by decide) rfl
          clear hev hd
          exact .inl ⟨W, by go_simp, Below.refl _ _⟩
        · obtain rfl := Option.some.inj ho
          obtain rfl := Option.some.inj hx
          have q0 : uu 0 = .slice none 0 0 := hd 0 (by kernel_rfl) _ rfl
          have q1 : uu 1 = .slice none 0 0 := hd 1 (by kernel_rfl) _ rfl
          refine .inl ⟨wanted_none rfl, ?_⟩
          generalize hev : Act.eval _ = ev
          have ec : ∀ c, ev (.const c) = c := fun c => by rw [← hev]; rfl
          have ef : ∀ f, ev (.func f) = .func (.func f) #[] #[] := fun f => by rw [← hev]; rfl
          have e23 : ev (.tmp 23) = .slice none 0 0 := by rw [← hev]; exact (eval_put (by kernel_rfl) 80 rfl (by decide)).trans q0
          have e24 : ev (.tmp 24) = .slice none 0 0 := by rw [← hev]; exact (eval_put (by kernel_rfl) 80 rfl (by decide)).trans q1
          clear hev hd q0 q1
          exact .inr ⟨_, _, by go_simp, (HSM W hVW).out⟩
        · obtain rfl := Option.some.inj ho
          obtain rfl := Option.some.inj hx
          have q2 : uu 2 = .bool true := hd 2 (by kernel_rfl) _ rfl
          refine .inl ⟨wanted_none rfl, ?_⟩
          generalize hev : Act.eval _ = ev
          have ec : ∀ c, ev (.const c) = c := fun c => by rw [← hev]; rfl
          have e25 : ev (.tmp 25) = .bool true := by rw [← hev]; exact (eval_put (by kernel_rfl) 80 rfl (by decide)).trans q2
          clear hev hd q2
          exact .inl ⟨W, by go_simp, Below.refl _ _⟩
        · obtain rfl := Option.some.inj ho
          obtain rfl := Option.some.inj hx
          have q3 : uu 3 = .bool false := hd 3 (by kernel_rfl) _ rfl
          refine .inl ⟨wanted_none rfl, ?_⟩
          generalize hev : Act.eval _ = ev
          have ec : ∀ c, ev (.const c) = c := fun c => by rw [← hev]; rfl
          have e26 : ev (.tmp 26) = .bool false := by rw [← hev]; exact (eval_put (by kernel_rfl) 80 rfl (by decide)).trans q3
          clear hev hd q3
          exact .inl ⟨W, by go_simp, Below.refl _ _⟩
        · obtain rfl := Option.some.inj ho
          obtain rfl := Option.some.inj hx
          have q4 : uu 4 = .bool false := hd 4 (by kernel_rfl) _ rfl
          refine .inl ⟨wanted_yes rfl (yielded_put (k := 27) (by kernel_rfl) (by kernel_rfl) 80 rfl (by decide) q4), ?_⟩
          generalize hev : Act.eval _ = ev
          have ec : ∀ c, ev (.const c) = c := fun c => by rw [← hev]; rfl
          have e6 : ev (.tmp 6) = .int .i64 2 := by rw [← hev]; exact eval_old (by kernel_rfl) 80 rfl (by decide) rfl
          clear hev hd q4
          exact .inl ⟨W, by go_simp, Below.refl _ _⟩
        · obtain rfl := Option.some.inj ho
          obtain rfl := Option.some.inj hx
          have q4 : uu 4 = .bool false := hd 4 (by kernel_rfl) _ rfl
          refine .inl ⟨wanted_yes rfl (yielded_put (k := 27) (by kernel_rfl) (by kernel_rfl) 80 rfl (by decide) q4), ?_⟩
          generalize hev : Act.eval _ = ev
          have ec : ∀ c, ev (.const c) = c := fun c => by rw [← hev]; rfl
          have e8 : ev (.tmp 8) = .int .i64 2 := by rw [← hev]; exact eval_old (by kernel_rfl) 80 rfl (by decide) rfl
          clear hev hd q4
          exact .inl ⟨W, by go_simp, Below.refl _ _⟩
        · obtain rfl := Option.some.inj ho
          obtain rfl := Option.some.inj hx
          have q5 : uu 5 = .int .i64 2 := hd 5 (by kernel_rfl) _ rfl
          have q6 : uu 6 = .int .i64 2 := hd 6 (by kernel_rfl) _ rfl
          have q4 : uu 4 = .bool false := hd 4 (by kernel_rfl) _ rfl
          refine .inl ⟨wanted_yes rfl (yielded_put (k := 27) (by kernel_rfl) (by kernel_rfl) 80 rfl (by decide) q4), ?_⟩
          generalize hev : Act.eval _ = ev
          have ec : ∀ c, ev (.const c) = c := fun c => by rw [← hev]; rfl
          have e28 : ev (.tmp 28) = .int .i64 2 := by rw [← hev]; exact (eval_put (by kernel_rfl) 80 rfl (by decide)).trans q5
          have e29 : ev (.tmp 29) = .int .i64 2 := by rw [← hev]; exact (eval_put (by kernel_rfl) 80 rfl (by decide)).trans q6
          clear hev hd q5 q6 q4
          exact .inl ⟨W, by go_simp, Below.refl _ _⟩
        · obtain rfl := Option.some.inj ho
          obtain rfl := Option.some.inj hx
          have q4 : uu 4 = .bool false := hd 4 (by kernel_rfl) _ rfl
          have q7 : uu 7 = .bool false := hd 7 (by kernel_rfl) _ rfl
          refine .inl ⟨wanted_none rfl, ?_⟩
          generalize hev : Act.eval _ = ev
          have ec : ∀ c, ev (.const c) = c := fun c => by rw [← hev]; rfl
          have e27 : ev (.tmp 27) = .bool false := by rw [← hev]; exact (eval_put (by kernel_rfl) 80 rfl (by decide)).trans q4
          have e30 : ev (.tmp 30) = .bool false := by rw [← hev]; exact (eval_put (by kernel_rfl) 80 rfl (by decide)).trans q7
          clear hev hd q4 q7
          exact .inl ⟨W, by go_simp, Below.refl _ _⟩
        · obtain rfl := Option.some.inj ho
          obtain rfl := Option.some.inj hx
          have q8 : uu 8 = .bool false := hd 8 (by kernel_rfl) _ rfl
          refine .inl ⟨wanted_none rfl, ?_⟩
          generalize hev : Act.eval _ = ev
          have ec : ∀ c, ev (.const c) = c := fun c => by rw [← hev]; rfl
          have e31 : ev (.tmp 31) = .bool false := by rw [← hev]; exact (eval_put (by kernel_rfl) 80 rfl (by decide)).trans q8
          clear hev hd q8
          exact .inl ⟨W, by go_simp, Below.refl _ _⟩
        · obtain rfl := Option.some.inj ho
          obtain rfl := Option.some.inj hx
          have q9 : uu 9 = .bool false := hd 9 (by kernel_rfl) _ rfl
          refine .inl ⟨wanted_yes rfl (yielded_put (k := 32) (by kernel_rfl) (by kernel_rfl) 80 rfl (by decide) q9), ?_⟩
          generalize hev : Act.eval _ = ev
          have ec : ∀ c, ev (.const c) = c := fun c => by rw [← hev]; rfl
          have e2 : ev (.tmp 2) = .pointer (some ⟨w.heap.size, 0, none⟩) := by rw [← hev]; exact eval_old (by kernel_rfl) 80 rfl (by decide) rfl
          clear hev hd q9
          obtain ⟨cc0, cc1, cc2, cc3, cc4, cc5, cc6, cc7, cc8, cc9, cc10⟩ := HS W hVW
          exact .inl ⟨W, by go_simp, Below.refl _ _⟩
        · obtain rfl := Option.some.inj ho
          obtain rfl := Option.some.inj hx
          have q10 : uu 10 = .agg #[.int .u8 (tos.toNat : Int), .int .u16 (id.toNat : Int), .bool D, .bool false, .int .u16 (fo.toNat : Int), .int .u8 (ttl.toNat : Int), .int .u8 (pr.toNat : Int), .int .u32 (s.toNat : Int), .int .u32 (d.toNat : Int), .slice a8 os.length cap8, .slice a9 xs.length cap9] := hd 10 (by kernel_rfl) _ rfl
          have q9 : uu 9 = .bool false := hd 9 (by kernel_rfl) _ rfl
          refine .inl ⟨wanted_yes rfl (yielded_put (k := 32) (by kernel_rfl) (by kernel_rfl) 80 rfl (by decide) q9), ?_⟩
          generalize hev : Act.eval _ = ev
          have ec : ∀ c, ev (.const c) = c := fun c => by rw [← hev]; rfl
          have ef : ∀ f, ev (.func f) = .func (.func f) #[] #[] := fun f => by rw [← hev]; rfl
          have e33 : ev (.tmp 33) = .agg #[.int .u8 (tos.toNat : Int), .int .u16 (id.toNat : Int), .bool D, .bool false, .int .u16 (fo.toNat : Int), .int .u8 (ttl.toNat : Int), .int .u8 (pr.toNat : Int), .int .u32 (s.toNat : Int), .int .u32 (d.toNat : Int), .slice a8 os.length cap8, .slice a9 xs.length cap9] := by rw [← hev]; exact (eval_put (by kernel_rfl) 80 rfl (by decide)).trans q10
          clear hev hd q10 q9
          exact .inr ⟨_, _, by go_simp, (HP3 W).out⟩
        · obtain rfl := Option.some.inj ho
          obtain rfl := Option.some.inj hx
          have q9 : uu 9 = .bool false := hd 9 (by kernel_rfl) _ rfl
          refine .inl ⟨wanted_yes rfl (yielded_put (k := 32) (by kernel_rfl) (by kernel_rfl) 80 rfl (by decide) q9), ?_⟩
          generalize hev : Act.eval _ = ev
          have ec : ∀ c, ev (.const c) = c := fun c => by rw [← hev]; rfl
          have e6 : ev (.tmp 6) = .int .i64 2 := by rw [← hev]; exact eval_old (by kernel_rfl) 80 rfl (by decide) rfl
          clear hev hd q9
          exact .inl ⟨W, by go_simp, Below.refl _ _⟩
        · obtain rfl := Option.some.inj ho
          obtain rfl := Option.some.inj hx
          have q11 : uu 11 = .int .i64 2 := hd 11 (by kernel_rfl) _ rfl
          have q12 : uu 12 = .int .i64 2 := hd 12 (by kernel_rfl) _ rfl
          have q9 : uu 9 = .bool false := hd 9 (by kernel_rfl) _ rfl
          refine .inl ⟨wanted_yes rfl (yielded_put (k := 32) (by kernel_rfl) (by kernel_rfl) 80 rfl (by decide) q9), ?_⟩
          generalize hev : Act.eval _ = ev
          have ec : ∀ c, ev (.const c) = c := fun c => by rw [← hev]; rfl
          have e34 : ev (.tmp 34) = .int .i64 2 := by rw [← hev]; exact (eval_put (by kernel_rfl) 80 rfl (by decide)).trans q11
          have e35 : ev (.tmp 35) = .int .i64 2 := by rw [← hev]; exact (eval_put (by kernel_rfl) 80 rfl (by decide)).trans q12
          clear hev hd q11 q12 q9
          exact .inl ⟨W, by go_simp, Below.refl _ _⟩
        · obtain rfl := Option.some.inj ho
          obtain rfl := Option.some.inj hx
          have q9 : uu 9 = .bool false := hd 9 (by kernel_rfl) _ rfl
          have q13 : uu 13 = .bool false := hd 13 (by kernel_rfl) _ rfl
          refine .inl ⟨wanted_none rfl, ?_⟩
          generalize hev : Act.eval _ = ev
          have ec : ∀ c, ev (.const c) = c := fun c => by rw [← hev]; rfl
          have e32 : ev (.tmp 32) = .bool false := by rw [← hev]; exact (eval_put (by kernel_rfl) 80 rfl (by decide)).trans q9
          have e36 : ev (.tmp 36) = .bool false := by rw [← hev]; exact (eval_put (by kernel_rfl) 80 rfl (by decide)).trans q13
          clear hev hd q9 q13
          exact .inl ⟨W, by go_simp, Below.refl _ _⟩
        · obtain rfl := Option.some.inj ho
          obtain rfl := Option.some.inj hx
          have q14 : uu 14 = .bool false := hd 14 (by kernel_rfl) _ rfl
          refine .inl ⟨wanted_none rfl, ?_⟩
          generalize hev : Act.eval _ = ev
          have ec : ∀ c, ev (.const c) = c := fun c => by rw [← hev]; rfl
          have e37 : ev (.tmp 37) = .bool false := by rw [← hev]; exact (eval_put (by kernel_rfl) 80 rfl (by decide)).trans q14
          clear hev hd q14
          exact .inl ⟨W, by go_simp, Below.refl _ _⟩
        · obtain rfl := Option.some.inj ho
          obtain rfl := Option.some.inj hx
          have q15 : uu 15 = .bool false := hd 15 (by kernel_rfl) _ rfl
          refine .inl ⟨wanted_yes rfl (yielded_put (k := 38) (by kernel_rfl) (by kernel_rfl) 80 rfl (by decide) q15), ?_⟩
          generalize hev : Act.eval _ = ev
          have ec : ∀ c, ev (.const c) = c := fun c => by rw [← hev]; rfl
          have e2 : ev (.tmp 2) = .pointer (some ⟨w.heap.size, 0, none⟩) := by rw [← hev]; exact eval_old (by kernel_rfl) 80 rfl (by decide) rfl
          clear hev hd q15
          obtain ⟨cc0, cc1, cc2, cc3, cc4, cc5, cc6, cc7, cc8, cc9, cc10⟩ := HS W hVW
          exact .inl ⟨W, by go_simp, Below.refl _ _⟩
        · obtain rfl := Option.some.inj ho
          obtain rfl := Option.some.inj hx
          have q16 : uu 16 = .agg #[.int .u8 (tos.toNat : Int), .int .u16 (id.toNat : Int), .bool D, .bool false, .int .u16 (fo.toNat : Int), .int .u8 (ttl.toNat : Int), .int .u8 (pr.toNat : Int), .int .u32 (s.toNat : Int), .int .u32 (d.toNat : Int), .slice a8 os.length cap8, .slice a9 xs.length cap9] := hd 16 (by kernel_rfl) _ rfl
          have q15 : uu 15 = .bool false := hd 15 (by kernel_rfl) _ rfl
          refine .inl ⟨wanted_yes rfl (yielded_put (k := 38) (by kernel_rfl) (by kernel_rfl) 80 rfl (by decide) q15), ?_⟩
          generalize hev : Act.eval _ = ev
          have ec : ∀ c, ev (.const c) = c := fun c => by rw [← hev]; rfl
          have ef : ∀ f, ev (.func f) = .func (.func f) #[] #[] := fun f => by rw [← hev]; rfl
          have e39 : ev (.tmp 39) = .agg #[.int .u8 (tos.toNat : Int), .int .u16 (id.toNat : Int), .bool D, .bool false, .int .u16 (fo.toNat : Int), .int .u8 (ttl.toNat : Int), .int .u8 (pr.toNat : Int), .int .u32 (s.toNat : Int), .int .u32 (d.toNat : Int), .slice a8 os.length cap8, .slice a9 xs.length cap9] := by rw [← hev]; exact (eval_put (by kernel_rfl) 80 rfl (by decide)).trans q16
          clear hev hd q16 q15
          exact .inr ⟨_, _, by go_simp, (HZ W).out⟩
        · obtain rfl := Option.some.inj ho
          obtain rfl := Option.some.inj hx
          have q15 : uu 15 = .bool false := hd 15 (by kernel_rfl) _ rfl
          refine .inl ⟨wanted_yes rfl (yielded_put (k := 38) (by kernel_rfl) (by kernel_rfl) 80 rfl (by decide) q15), ?_⟩
          generalize hev : Act.eval _ = ev
          have ec : ∀ c, ev (.const c) = c := fun c => by rw [← hev]; rfl
          have e2 : ev (.tmp 2) = .pointer (some ⟨w.heap.size, 0, none⟩) := by rw [← hev]; exact eval_old (by kernel_rfl) 80 rfl (by decide) rfl
          clear hev hd q15
          exact .inl ⟨W, by go_simp, Below.refl _ _⟩
        · obtain rfl := Option.some.inj ho
          obtain rfl := Option.some.inj hx
          have q18 : uu 18 = .pointer (some ⟨w.heap.size, 9, none⟩) := hd 18 (by kernel_rfl) _ rfl
          have q15 : uu 15 = .bool false := hd 15 (by kernel_rfl) _ rfl
          refine .inl ⟨wanted_yes rfl (yielded_put (k := 38) (by kernel_rfl) (by kernel_rfl) 80 rfl (by decide) q15), ?_⟩
          generalize hev : Act.eval _ = ev
          have ec : ∀ c, ev (.const c) = c := fun c => by rw [← hev]; rfl
          have e41 : ev (.tmp 41) = .pointer (some ⟨w.heap.size, 9, none⟩) := by rw [← hev]; exact (eval_put (by kernel_rfl) 80 rfl (by decide)).trans q18
          clear hev hd q18 q15
          obtain ⟨cc0, cc1, cc2, cc3, cc4, cc5, cc6, cc7, cc8, cc9, cc10⟩ := HS W hVW
          exact .inl ⟨W, by go_simp, Below.refl _ _⟩
        · obtain rfl := Option.some.inj ho
          obtain rfl := Option.some.inj hx
          have q19 : uu 19 = .slice a8 os.length cap8 := hd 19 (by kernel_rfl) _ rfl
          have q15 : uu 15 = .bool false := hd 15 (by kernel_rfl) _ rfl
          refine .inl ⟨wanted_yes rfl (yielded_put (k := 38) (by kernel_rfl) (by kernel_rfl) 80 rfl (by decide) q15), ?_⟩
          generalize hev : Act.eval _ = ev
          have ec : ∀ c, ev (.const c) = c := fun c => by rw [← hev]; rfl
          have e42 : ev (.tmp 42) = .slice a8 os.length cap8 := by rw [← hev]; exact (eval_put (by kernel_rfl) 80 rfl (by decide)).trans q19
          clear hev hd q19 q15
          exact .inl ⟨W, by go_simp, Below.refl _ _⟩
        · obtain rfl := Option.some.inj ho
          obtain rfl := Option.some.inj hx
          have q20 : uu 20 = .int .i64 (os.length : Int) := hd 20 (by kernel_rfl) _ rfl
          have q15 : uu 15 = .bool false := hd 15 (by kernel_rfl) _ rfl
          refine .inl ⟨wanted_yes rfl (yielded_put (k := 38) (by kernel_rfl) (by kernel_rfl) 80 rfl (by decide) q15), ?_⟩
          generalize hev : Act.eval _ = ev
          have ec : ∀ c, ev (.const c) = c := fun c => by rw [← hev]; rfl
          have e43 : ev (.tmp 43) = .int .i64 (os.length : Int) := by rw [← hev]; exact (eval_put (by kernel_rfl) 80 rfl (by decide)).trans q20
          clear hev hd q20 q15
          have hw : IntKind.i64.wrap (20 + (os.length : Int)) = 20 + (os.length : Int) := by rw [IntKind.wrap_i64]; omega
          exact .inl ⟨W, by go_simp, Below.refl _ _⟩
        · obtain rfl := Option.some.inj ho
          obtain rfl := Option.some.inj hx
          have q17 : uu 17 = .int .i64 (20 + (os.length : Int)) := hd 17 (by kernel_rfl) _ rfl
          have q21 : uu 21 = .int .i64 (20 + (os.length : Int)) := hd 21 (by kernel_rfl) _ rfl
          have q15 : uu 15 = .bool false := hd 15 (by kernel_rfl) _ rfl
          refine .inl ⟨wanted_yes rfl (yielded_put (k := 38) (by kernel_rfl) (by kernel_rfl) 80 rfl (by decide) q15), ?_⟩
          generalize hev : Act.eval _ = ev
          have ec : ∀ c, ev (.const c) = c := fun c => by rw [← hev]; rfl
          have e40 : ev (.tmp 40) = .int .i64 (20 + (os.length : Int)) := by rw [← hev]; exact (eval_put (by kernel_rfl) 80 rfl (by decide)).trans q17
          have e44 : ev (.tmp 44) = .int .i64 (20 + (os.length : Int)) := by rw [← hev]; exact (eval_put (by kernel_rfl) 80 rfl (by decide)).trans q21
          clear hev hd q17 q21 q15
          exact .inl ⟨W, by go_simp, Below.refl _ _⟩
        · obtain rfl := Option.some.inj ho
          obtain rfl := Option.some.inj hx
          have q15 : uu 15 = .bool false := hd 15 (by kernel_rfl) _ rfl
          have q22 : uu 22 = .bool false := hd 22 (by kernel_rfl) _ rfl
          refine .inl ⟨wanted_none rfl, ?_⟩
          generalize hev : Act.eval _ = ev
          have ec : ∀ c, ev (.const c) = c := fun c => by rw [← hev]; rfl
          have e38 : ev (.tmp 38) = .bool false := by rw [← hev]; exact (eval_put (by kernel_rfl) 80 rfl (by decide)).trans q15
          have e45 : ev (.tmp 45) = .bool false := by rw [← hev]; exact (eval_put (by kernel_rfl) 80 rfl (by decide)).trans q22
          clear hev hd q15 q22
          exact .inl ⟨W, by go_simp, Below.refl _ _⟩
        · obtain rfl := Option.some.inj ho
          obtain rfl := Option.some.inj hx
          have q23 : uu 23 = .bool false := hd 23 (by kernel_rfl) _ rfl
          refine .inl ⟨wanted_none rfl, ?_⟩
          generalize hev : Act.eval _ = ev
          have ec : ∀ c, ev (.const c) = c := fun c => by rw [← hev]; rfl
          have e46 : ev (.tmp 46) = .bool false := by rw [← hev]; exact (eval_put (by kernel_rfl) 80 rfl (by decide)).trans q23
          clear hev hd q23
          exact .inl ⟨W, by go_simp, Below.refl _ _⟩
        · obtain rfl := Option.some.inj ho
          obtain rfl := Option.some.inj hx
          have q24 : uu 24 = .bool false := hd 24 (by kernel_rfl) _ rfl
          refine .inl ⟨wanted_yes rfl (yielded_put (k := 47) (by kernel_rfl) (by kernel_rfl) 80 rfl (by decide) q24), ?_⟩
          generalize hev : Act.eval _ = ev
          have ec : ∀ c, ev (.const c) = c := fun c => by rw [← hev]; rfl
          have e2 : ev (.tmp 2) = .pointer (some ⟨w.heap.size, 0, none⟩) := by rw [← hev]; exact eval_old (by kernel_rfl) 80 rfl (by decide) rfl
          clear hev hd q24
          obtain ⟨cc0, cc1, cc2, cc3, cc4, cc5, cc6, cc7, cc8, cc9, cc10⟩ := HS W hVW
          exact .inl ⟨W, by go_simp, Below.refl _ _⟩
        · obtain rfl := Option.some.inj ho
          obtain rfl := Option.some.inj hx
          have q25 : uu 25 = .agg #[.int .u8 (tos.toNat : Int), .int .u16 (id.toNat : Int), .bool D, .bool false, .int .u16 (fo.toNat : Int), .int .u8 (ttl.toNat : Int), .int .u8 (pr.toNat : Int), .int .u32 (s.toNat : Int), .int .u32 (d.toNat : Int), .slice a8 os.length cap8, .slice a9 xs.length cap9] := hd 25 (by kernel_rfl) _ rfl
          have q24 : uu 24 = .bool false := hd 24 (by kernel_rfl) _ rfl
          refine .inl ⟨wanted_yes rfl (yielded_put (k := 47) (by kernel_rfl) (by kernel_rfl) 80 rfl (by decide) q24), ?_⟩
          generalize hev : Act.eval _ = ev
          have ec : ∀ c, ev (.const c) = c := fun c => by rw [← hev]; rfl
          have ef : ∀ f, ev (.func f) = .func (.func f) #[] #[] := fun f => by rw [← hev]; rfl
          have e48 : ev (.tmp 48) = .agg #[.int .u8 (tos.toNat : Int), .int .u16 (id.toNat : Int), .bool D, .bool false, .int .u16 (fo.toNat : Int), .int .u8 (ttl.toNat : Int), .int .u8 (pr.toNat : Int), .int .u32 (s.toNat : Int), .int .u32 (d.toNat : Int), .slice a8 os.length cap8, .slice a9 xs.length cap9] := by rw [← hev]; exact (eval_put (by kernel_rfl) 80 rfl (by decide)).trans q25
          clear hev hd q25 q24
          exact .inr ⟨_, _, by go_simp, (HQ W).out⟩
        · obtain rfl := Option.some.inj ho
          obtain rfl := Option.some.inj hx
          have q24 : uu 24 = .bool false := hd 24 (by kernel_rfl) _ rfl
          refine .inl ⟨wanted_yes rfl (yielded_put (k := 47) (by kernel_rfl) (by kernel_rfl) 80 rfl (by decide) q24), ?_⟩
          generalize hev : Act.eval _ = ev
          have ec : ∀ c, ev (.const c) = c := fun c => by rw [← hev]; rfl
          have e2 : ev (.tmp 2) = .pointer (some ⟨w.heap.size, 0, none⟩) := by rw [← hev]; exact eval_old (by kernel_rfl) 80 rfl (by decide) rfl
          clear hev hd q24
          exact .inl ⟨W, by go_simp, Below.refl _ _⟩
        · obtain rfl := Option.some.inj ho
          obtain rfl := Option.some.inj hx
          have q27 : uu 27 = .pointer (some ⟨w.heap.size, 3, none⟩) := hd 27 (by kernel_rfl) _ rfl
          have q24 : uu 24 = .bool false := hd 24 (by kernel_rfl) _ rfl
          refine .inl ⟨wanted_yes rfl (yielded_put (k := 47) (by kernel_rfl) (by kernel_rfl) 80 rfl (by decide) q24), ?_⟩
          generalize hev : Act.eval _ = ev
          have ec : ∀ c, ev (.const c) = c := fun c => by rw [← hev]; rfl
          have e50 : ev (.tmp 50) = .pointer (some ⟨w.heap.size, 3, none⟩) := by rw [← hev]; exact (eval_put (by kernel_rfl) 80 rfl (by decide)).trans q27
          clear hev hd q27 q24
          obtain ⟨cc0, cc1, cc2, cc3, cc4, cc5, cc6, cc7, cc8, cc9, cc10⟩ := HS W hVW
          exact .inl ⟨W, by go_simp, Below.refl _ _⟩
        · obtain rfl := Option.some.inj ho
          obtain rfl := Option.some.inj hx
          have q28 : uu 28 = .bool false := hd 28 (by kernel_rfl) _ rfl
          have q24 : uu 24 = .bool false := hd 24 (by kernel_rfl) _ rfl
          refine .inl ⟨wanted_yes rfl (yielded_put (k := 47) (by kernel_rfl) (by kernel_rfl) 80 rfl (by decide) q24), ?_⟩
          generalize hev : Act.eval _ = ev
          have ec : ∀ c, ev (.const c) = c := fun c => by rw [← hev]; rfl
          have e51 : ev (.tmp 51) = .bool false := by rw [← hev]; exact (eval_put (by kernel_rfl) 80 rfl (by decide)).trans q28
          clear hev hd q28 q24
          exact .inl ⟨W, by go_simp, Below.refl _ _⟩
        · obtain rfl := Option.some.inj ho
          obtain rfl := Option.some.inj hx
          have q29 : uu 29 = .bool false := hd 29 (by kernel_rfl) _ rfl
          refine .inl ⟨wanted_yes rfl (yielded_put (k := 52) (by kernel_rfl) (by kernel_rfl) 80 rfl (by decide) q29), ?_⟩
          generalize hev : Act.eval _ = ev
          have ec : ∀ c, ev (.const c) = c := fun c => by rw [← hev]; rfl
          have e2 : ev (.tmp 2) = .pointer (some ⟨w.heap.size, 0, none⟩) := by rw [← hev]; exact eval_old (by kernel_rfl) 80 rfl (by decide) rfl
          clear hev hd q29
          exact .inl ⟨W, by go_simp, Below.refl _ _⟩
        · obtain rfl := Option.some.inj ho
          obtain rfl := Option.some.inj hx
          have q30 : uu 30 = .pointer (some ⟨w.heap.size, 4, none⟩) := hd 30 (by kernel_rfl) _ rfl
          have q29 : uu 29 = .bool false := hd 29 (by kernel_rfl) _ rfl
          refine .inl ⟨wanted_yes rfl (yielded_put (k := 52) (by kernel_rfl) (by kernel_rfl) 80 rfl (by decide) q29), ?_⟩
          generalize hev : Act.eval _ = ev
          have ec : ∀ c, ev (.const c) = c := fun c => by rw [← hev]; rfl
          have e53 : ev (.tmp 53) = .pointer (some ⟨w.heap.size, 4, none⟩) := by rw [← hev]; exact (eval_put (by kernel_rfl) 80 rfl (by decide)).trans q30
          clear hev hd q30 q29
          obtain ⟨cc0, cc1, cc2, cc3, cc4, cc5, cc6, cc7, cc8, cc9, cc10⟩ := HS W hVW
          exact .inl ⟨W, by go_simp, Below.refl _ _⟩
        · obtain rfl := Option.some.inj ho
          obtain rfl := Option.some.inj hx
          have q31 : uu 31 = .int .u16 (fo.toNat : Int) := hd 31 (by kernel_rfl) _ rfl
          have q29 : uu 29 = .bool false := hd 29 (by kernel_rfl) _ rfl
          refine .inl ⟨wanted_yes rfl (yielded_put (k := 52) (by kernel_rfl) (by kernel_rfl) 80 rfl (by decide) q29), ?_⟩
          generalize hev : Act.eval _ = ev
          have ec : ∀ c, ev (.const c) = c := fun c => by rw [← hev]; rfl
          have e54 : ev (.tmp 54) = .int .u16 (fo.toNat : Int) := by rw [← hev]; exact (eval_put (by kernel_rfl) 80 rfl (by decide)).trans q31
          clear hev hd q31 q29
          have hpq : (!((fo.toNat : Int) == 0)) = pb := (HPB ()).out
          have hpr : ((fo.toNat : Int) != 0) = pb := (HPB ()).out
          exact .inl ⟨W, by go_simp, Below.refl _ _⟩
        · obtain rfl := Option.some.inj ho
          obtain rfl := Option.some.inj hx
          have q29 : uu 29 = .bool false := hd 29 (by kernel_rfl) _ rfl
          have q32 : uu 32 = .bool pb := hd 32 (by kernel_rfl) _ rfl
          have q24 : uu 24 = .bool false := hd 24 (by kernel_rfl) _ rfl
          refine .inl ⟨wanted_yes rfl (yielded_put (k := 47) (by kernel_rfl) (by kernel_rfl) 80 rfl (by decide) q24), ?_⟩
          generalize hev : Act.eval _ = ev
          have ec : ∀ c, ev (.const c) = c := fun c => by rw [← hev]; rfl
          have e52 : ev (.tmp 52) = .bool false := by rw [← hev]; exact (eval_put (by kernel_rfl) 80 rfl (by decide)).trans q29
          have e55 : ev (.tmp 55) = .bool pb := by rw [← hev]; exact (eval_put (by kernel_rfl) 80 rfl (by decide)).trans q32
          clear hev hd q29 q32 q24
          exact .inl ⟨W, by go_simp, Below.refl _ _⟩
        · obtain rfl := Option.some.inj ho
          obtain rfl := Option.some.inj hx
          have q26 : uu 26 = .bool pb := hd 26 (by kernel_rfl) _ rfl
          have q33 : uu 33 = .bool pb := hd 33 (by kernel_rfl) _ rfl
          have q24 : uu 24 = .bool false := hd 24 (by kernel_rfl) _ rfl
          refine .inl ⟨wanted_yes rfl (yielded_put (k := 47) (by kernel_rfl) (by kernel_rfl) 80 rfl (by decide) q24), ?_⟩
          generalize hev : Act.eval _ = ev
          have ec : ∀ c, ev (.const c) = c := fun c => by rw [← hev]; rfl
          have e49 : ev (.tmp 49) = .bool pb := by rw [← hev]; exact (eval_put (by kernel_rfl) 80 rfl (by decide)).trans q26
          have e56 : ev (.tmp 56) = .bool pb := by rw [← hev]; exact (eval_put (by kernel_rfl) 80 rfl (by decide)).trans q33
          clear hev hd q26 q33 q24
          have hz0 : (pb == pb) = true := by simp
          exact .inl ⟨W, by go_simp, Below.refl _ _⟩
        · obtain rfl := Option.some.inj ho
          obtain rfl := Option.some.inj hx
          have q24 : uu 24 = .bool false := hd 24 (by kernel_rfl) _ rfl
          have q34 : uu 34 = .bool false := hd 34 (by kernel_rfl) _ rfl
          refine .inl ⟨wanted_none rfl, ?_⟩
          generalize hev : Act.eval _ = ev
          have ec : ∀ c, ev (.const c) = c := fun c => by rw [← hev]; rfl
          have e47 : ev (.tmp 47) = .bool false := by rw [← hev]; exact (eval_put (by kernel_rfl) 80 rfl (by decide)).trans q24
          have e57 : ev (.tmp 57) = .bool false := by rw [← hev]; exact (eval_put (by kernel_rfl) 80 rfl (by decide)).trans q34
          clear hev hd q24 q34
          exact .inl ⟨W, by go_simp, Below.refl _ _⟩
        · simp at ho
      · intro W hVW

        simp only [putAll, Act.put, List.getD_cons_zero, List.getD_cons_succ]
        simp only [List.setIfInBounds_toArray, List.set_cons_succ, List.set_cons_zero]
        have hB := hB.trans (hVW.mono hB.size)
        clear HS hK HP3 HZ HQ HPB HSM
        go_wp2_with fail
        go_wp2_with (go_at_call 19; refine (lives06_any _).mono ?_; rintro e wl ⟨rfl, hbel⟩)
        go_ret
        exact ⟨rfl, bnext hB hbel⟩
    · skip
      go_enter Try.func4, Try.ntmps4
      go_wp2_with fail
      refine (HF _).out.mono ?_
      rintro e w_1 ⟨rfl, hbel⟩
      have hB := bnext (bnextA (Below.refl w.heap.size w) _) hbel
      have hK := (Blk.new w #[.int .u8 (tos.toNat : Int), .int .u16 (id.toNat : Int), .bool D, .bool true, .int .u16 (fo.toNat : Int), .int .u8 (ttl.toNat : Int), .int .u8 (pr.toNat : Int), .int .u32 (s.toNat : Int), .int .u32 (d.toNat : Int), .slice a8 len8 cap8, .slice a9 len9 cap9] 27).next hbel
      obtain ⟨p0, p1, p2, p3, p4, p5, p6, p7, p8, p9, p10, g0, g1, g2, g3, g4, g5, g6, g7, g8, g9, g10⟩ := hK.get11
      clear hbel HF
      go_wp2_with fail
      have hBV := bset11 hB (Nat.le_refl _) (.int .u8 (tos.toNat : Int)) (.int .u16 (id.toNat : Int)) (.bool D) (.bool true) (.int .u16 (fo.toNat : Int)) (.int .u8 (ttl.toNat : Int)) (.int .u8 (pr.toNat : Int)) (.int .u32 (s.toNat : Int)) (.int .u32 (d.toNat : Int)) (.slice a8 os.length cap8) (.slice a9 xs.length cap9)
      have hKV := hK.set11 (u0 := .int .u8 (tos.toNat : Int)) (u1 := .int .u16 (id.toNat : Int)) (u2 := .bool D) (u3 := .bool true) (u4 := .int .u16 (fo.toNat : Int)) (u5 := .int .u8 (ttl.toNat : Int)) (u6 := .int .u8 (pr.toNat : Int)) (u7 := .int .u32 (s.toNat : Int)) (u8 := .int .u32 (d.toNat : Int)) (u9 := .slice a8 os.length cap8) (u10 := .slice a9 xs.length cap9)
      simp only [setAll11] at hBV hKV
      clear p0 p1 p2 p3 p4 p5 p6 p7 p8 p9 p10 g0 g1 g2 g3 g4 g5 g6 g7 g8 g9 g10 hB hK
      generalize (((((((((((w_1.setCell ⟨w.heap.size, 0, none⟩ (.int .u8 (tos.toNat : Int))).setCell ⟨w.heap.size, 1, none⟩ (.int .u16 (id.toNat : Int))).setCell ⟨w.heap.size, 2, none⟩ (.bool D)).setCell ⟨w.heap.size, 3, none⟩ (.bool true)).setCell ⟨w.heap.size, 4, none⟩ (.int .u16 (fo.toNat : Int))).setCell ⟨w.heap.size, 5, none⟩ (.int .u8 (ttl.toNat : Int))).setCell ⟨w.heap.size, 6, none⟩ (.int .u8 (pr.toNat : Int))).setCell ⟨w.heap.size, 7, none⟩ (.int .u32 (s.toNat : Int))).setCell ⟨w.heap.size, 8, none⟩ (.int .u32 (d.toNat : Int))).setCell ⟨w.heap.size, 9, none⟩ (.slice a8 os.length cap8)).setCell ⟨w.heap.size, 10, none⟩ (.slice a9 xs.length cap9)) = V at hBV hKV ⊢
      have ho := ho0.next hBV
      have hx := hx0.next hBV
      have hz := hz0.next hBV
      have hB := hBV
      have hK := hKV
      clear hBV hKV ho0 hx0 hz0
      clear ho hx hz
      obtain ⟨p0, p1, p2, p3, p4, p5, p6, p7, p8, p9, p10, -⟩ := hK.get11
      refine (HP1 _).out.mono ?_
      rintro e w_2 ⟨rfl, hbel⟩
      replace hB := bnext hB hbel
      replace hK := hK.next hbel
      clear p0 p1 p2 p3 p4 p5 p6 p7 p8 p9 p10
      obtain ⟨p0, p1, p2, p3, p4, p5, p6, p7, p8, p9, p10, -⟩ := hK.get11
      clear hbel
      go_wp2_with fail
      refine (HP2 _).out.mono ?_
      rintro e w4 ⟨rfl, hbel⟩
      replace hB := bnext hB hbel
      replace hK := hK.next hbel
      clear hbel p0 p1 p2 p3 p4 p5 p6 p7 p8 p9 p10 HP1 HP2
      go_wp2_with fail
      have HSM : ∀ W, Below w4.heap.size w4 W → Hid (Calls Try.prog 23 #[.slice none 0 0, .slice none 0 0] W fun e w' => e = .returned (.bool true) ∧ Below W.heap.size W w') := fun W _ => (rsame_yes none none 0 0 [] W W.heap.size (Rd.nil0 _ _ _) (Rd.nil0 _ _ _)).mono fun _ _ h => ⟨h.1, h.2.bel⟩
      have HS : ∀ W, Below w4.heap.size w4 W → (W.cell? ⟨w.heap.size, 0, none⟩ = some (.int .u8 (tos.toNat : Int)) ∧ W.cell? ⟨w.heap.size, 1, none⟩ = some (.int .u16 (id.toNat : Int)) ∧ W.cell? ⟨w.heap.size, 2, none⟩ = some (.bool D) ∧ W.cell? ⟨w.heap.size, 3, none⟩ = some (.bool true) ∧ W.cell? ⟨w.heap.size, 4, none⟩ = some (.int .u16 (fo.toNat : Int)) ∧ W.cell? ⟨w.heap.size, 5, none⟩ = some (.int .u8 (ttl.toNat : Int)) ∧ W.cell? ⟨w.heap.size, 6, none⟩ = some (.int .u8 (pr.toNat : Int)) ∧ W.cell? ⟨w.heap.size, 7, none⟩ = some (.int .u32 (s.toNat : Int)) ∧ W.cell? ⟨w.heap.size, 8, none⟩ = some (.int .u32 (d.toNat : Int)) ∧ W.cell? ⟨w.heap.size, 9, none⟩ = some (.slice a8 os.length cap8) ∧ W.cell? ⟨w.heap.size, 10, none⟩ = some (.slice a9 xs.length cap9)) := by
        intro W h
        obtain ⟨p0, p1, p2, p3, p4, p5, p6, p7, p8, p9, p10, -⟩ := (hK.next h).get11
        exact ⟨p0, p1, p2, p3, p4, p5, p6, p7, p8, p9, p10⟩
      refine region_vals (by kernel_rfl) (by kernel_rfl) (by kernel_rfl) 80 rfl (by kernel_rfl) w4 (Below.refl _ _) [.slice none 0 0, .slice none 0 0, .bool true, .bool false, .bool false, .int .i64 2, .int .i64 2, .bool false, .bool false, .bool false, .agg #[.int .u8 (tos.toNat : Int), .int .u16 (id.toNat : Int), .bool D, .bool true, .int .u16 (fo.toNat : Int), .int .u8 (ttl.toNat : Int), .int .u8 (pr.toNat : Int), .int .u32 (s.toNat : Int), .int .u32 (d.toNat : Int), .slice a8 os.length cap8, .slice a9 xs.length cap9], .int .i64 2, .int .i64 2, .bool false, .bool false, .bool false, .agg #[.int .u8 (tos.toNat : Int), .int .u16 (id.toNat : Int), .bool D, .bool true, .int .u16 (fo.toNat : Int), .int .u8 (ttl.toNat : Int), .int .u8 (pr.toNat : Int), .int .u32 (s.toNat : Int), .int .u32 (d.toNat : Int), .slice a8 os.length cap8, .slice a9 xs.length cap9], .int .i64 (20 + (os.length : Int)), .pointer (some ⟨w.heap.size, 9, none⟩), .slice a8 os.length cap8, .int .i64 (os.length : Int), .int .i64 (20 + (os.length : Int)), .bool false, .bool false, .bool false, .agg #[.int .u8 (tos.toNat : Int), .int .u16 (id.toNat : Int), .bool D, .bool true, .int .u16 (fo.toNat : Int), .int .u8 (ttl.toNat : Int), .int .u8 (pr.toNat : Int), .int .u32 (s.toNat : Int), .int .u32 (d.toNat : Int), .slice a8 os.length cap8, .slice a9 xs.length cap9], .bool pb, .pointer (some ⟨w.heap.size, 3, none⟩), .bool true, .bool true, undef, undef, undef, .bool true, .bool false, .bool false] rfl ?_ ?_
      · intro i o uu W xx ho hx hVW hd
        rcases i with _|_|_|_|_|_|_|_|_|_|_|_|_|_|_|_|_|_|_|_|_|_|_|_|_|_|_|_|_|_|_|_|_|_|_|_|i
        · obtain rfl := Option.some.inj ho
          obtain rfl := Option.some.inj hx
          refine .inl ⟨wanted_none rfl, ?_⟩
          generalize hev : Act.eval _ = ev
          have ec : ∀ c, ev (.const c) = c := fun c => by rw [← hev]; rfl
          have e5 : ev (.tmp 5) = .slice none 0 0 := by rw [← hev]; exact eval_old (by kernel_rfl) 80 rfl (by decide) rfl
          clear hev hd
          exact .inl ⟨W, by go_simp, Below.refl _ _⟩
        · obtain rfl := Option.some.inj ho
          obtain rfl := Option.some.inj hx
          refine .inl ⟨wanted_none rfl, ?_⟩
          generalize hev : Act.eval _ = ev
          have ec : ∀ c, ev (.const c) = c := fun c => by rw [← hev]; rfl
          have e7 : ev (.tmp 7) = .slice none 0 0 := by rw [← hev]; exact eval_old (by kernel_rfl) 80 rfl (by decide) rfl
          clear hev hd
          exact .inl ⟨W, by go_simp, Below.refl _ _⟩
        · obtain rfl := Option.some.inj ho
          obtain rfl := Option.some.inj hx
          have q0 : uu 0 = .slice none 0 0 := hd 0 (by kernel_rfl) _ rfl
          have q1 : uu 1 = .slice none 0 0 := hd 1 (by kernel_rfl) _ rfl
          refine .inl ⟨wanted_none rfl, ?_⟩
          generalize hev : Act.eval _ = ev
          have ec : ∀ c, ev (.const c) = c := fun c => by rw [← hev]; rfl
          have ef : ∀ f, ev (.func f) = .func (.func f) #[] #[] := fun f => by rw [← hev]; rfl
          have e23 : ev (.tmp 23) = .slice none 0 0 := by rw [← hev]; exact (eval_put (by kernel_rfl) 80 rfl (by decide)).trans q0
          have e24 : ev (.tmp 24) = .slice none 0 0 := by rw [← hev]; exact (eval_put (by kernel_rfl) 80 rfl (by decide)).trans q1
          clear hev hd q0 q1
          exact .inr ⟨_, _, by go_simp, (HSM W hVW).out⟩
        · obtain rfl := Option.some.inj ho
          obtain rfl := Option.some.inj hx
          have q2 : uu 2 = .bool true := hd 2 (by kernel_rfl) _ rfl
          refine .inl ⟨wanted_none rfl, ?_⟩
          generalize hev : Act.eval _ = ev
          have ec : ∀ c, ev (.const c) = c := fun c => by rw [← hev]; rfl
          have e25 : ev (.tmp 25) = .bool true := by rw [← hev]; exact (eval_put (by kernel_rfl) 80 rfl (by decide)).trans q2
          clear hev hd q2
          exact .inl ⟨W, by go_simp, Below.refl _ _⟩
        · obtain rfl := Option.some.inj ho
          obtain rfl := Option.some.inj hx
          have q3 : uu 3 = .bool false := hd 3 (by kernel_rfl) _ rfl
          refine .inl ⟨wanted_none rfl, ?_⟩
          generalize hev : Act.eval _ = ev
          have ec : ∀ c, ev (.const c) = c := fun c => by rw [← hev]; rfl
          have e26 : ev (.tmp 26) = .bool false := by rw [← hev]; exact (eval_put (by kernel_rfl) 80 rfl (by decide)).trans q3
          clear hev hd q3
          exact .inl ⟨W, by go_simp, Below.refl _ _⟩
        · obtain rfl := Option.some.inj ho
          obtain rfl := Option.some.inj hx
          have q4 : uu 4 = .bool false := hd 4 (by kernel_rfl) _ rfl
          refine .inl ⟨wanted_yes rfl (yielded_put (k := 27) (by kernel_rfl) (by kernel_rfl) 80 rfl (by decide) q4), ?_⟩
          generalize hev : Act.eval _ = ev
          have ec : ∀ c, ev (.const c) = c := fun c => by rw [← hev]; rfl
          have e6 : ev (.tmp 6) = .int .i64 2 := by rw [← hev]; exact eval_old (by kernel_rfl) 80 rfl (by decide) rfl
          clear hev hd q4
          exact .inl ⟨W, by go_simp, Below.refl _ _⟩
        · obtain rfl := Option.some.inj ho
          obtain rfl := Option.some.inj hx
          have q4 : uu 4 = .bool false := hd 4 (by kernel_rfl) _ rfl
          refine .inl ⟨wanted_yes rfl (yielded_put (k := 27) (by kernel_rfl) (by kernel_rfl) 80 rfl (by decide) q4), ?_⟩
          generalize hev : Act.eval _ = ev
          have ec : ∀ c, ev (.const c) = c := fun c => by rw [← hev]; rfl
          have e8 : ev (.tmp 8) = .int .i64 2 := by rw [← hev]; exact eval_old (by kernel_rfl) 80 rfl (by decide) rfl
          clear hev hd q4
          exact .inl ⟨W, by go_simp, Below.refl _ _⟩
        · obtain rfl := Option.some.inj ho
          obtain rfl := Option.some.inj hx
          have q5 : uu 5 = .int .i64 2 := hd 5 (by kernel_rfl) _ rfl
          have q6 : uu 6 = .int .i64 2 := hd 6 (by kernel_rfl) _ rfl
          have q4 : uu 4 = .bool false := hd 4 (by kernel_rfl) _ rfl
          refine .inl ⟨wanted_yes rfl (yielded_put (k := 27) (by kernel_rfl) (by kernel_rfl) 80 rfl (by decide) q4), ?_⟩
          generalize hev : Act.eval _ = ev
          have ec : ∀ c, ev (.const c) = c := fun c => by rw [← hev]; rfl
          have e28 : ev (.tmp 28) = .int .i64 2 := by rw [← hev]; exact (eval_put (by kernel_rfl) 80 rfl (by decide)).trans q5
          have e29 : ev (.tmp 29) = .int .i64 2 := by rw [← hev]; exact (eval_put (by kernel_rfl) 80 rfl (by decide)).trans q6
          clear hev hd q5 q6 q4
          exact .inl ⟨W, by go_simp, Below.refl _ _⟩
        · obtain rfl := Option.some.inj ho
          obtain rfl := Option.some.inj hx
          have q4 : uu 4 = .bool false := hd 4 (by kernel_rfl) _ rfl
          have q7 : uu 7 = .bool false := hd 7 (by kernel_rfl) _ rfl
          refine .inl ⟨wanted_none rfl, ?_⟩
          generalize hev : Act.eval _ = ev
          have ec : ∀ c, ev (.const c) = c := fun c => by rw [← hev]; rfl
          have e27 : ev (.tmp 27) = .bool false := by rw [← hev]; exact (eval_put (by kernel_rfl) 80 rfl (by decide)).trans q4
          have e30 : ev (.tmp 30) = .bool false := by rw [← hev]; exact (eval_put (by kernel_rfl) 80 rfl (by decide)).trans q7
          clear hev hd q4 q7
          exact .inl ⟨W, by go_simp, Below.refl _ _⟩
        · obtain rfl := Option.some.inj ho
          obtain rfl := Option.some.inj hx
          have q8 : uu 8 = .bool false := hd 8 (by kernel_rfl) _ rfl
          refine .inl ⟨wanted_none rfl, ?_⟩
          generalize hev : Act.eval _ = ev
          have ec : ∀ c, ev (.const c) = c := fun c => by rw [← hev]; rfl
          have e31 : ev (.tmp 31) = .bool false := by rw [← hev]; exact (eval_put (by kernel_rfl) 80 rfl (by decide)).trans q8
          clear hev hd q8
          exact .inl ⟨W, by go_simp, Below.refl _ _⟩
        · obtain rfl := Option.some.inj ho
          obtain rfl := Option.some.inj hx
          have q9 : uu 9 = .bool false := hd 9 (by kernel_rfl) _ rfl
          refine .inl ⟨wanted_yes rfl (yielded_put (k := 32) (by kernel_rfl) (by kernel_rfl) 80 rfl (by decide) q9), ?_⟩
          generalize hev : Act.eval _ = ev
          have ec : ∀ c, ev (.const c) = c := fun c => by rw [← hev]; rfl
          have e2 : ev (.tmp 2) = .pointer (some ⟨w.heap.size, 0, none⟩) := by rw [← hev]; exact eval_old (by kernel_rfl) 80 rfl (by decide) rfl
          clear hev hd q9
          obtain ⟨cc0, cc1, cc2, cc3, cc4, cc5, cc6, cc7, cc8, cc9, cc10⟩ := HS W hVW
          exact .inl ⟨W, by go_simp, Below.refl _ _⟩
        · obtain rfl := Option.some.inj ho
          obtain rfl := Option.some.inj hx
          have q10 : uu 10 = .agg #[.int .u8 (tos.toNat : Int), .int .u16 (id.toNat : Int), .bool D, .bool true, .int .u16 (fo.toNat : Int), .int .u8 (ttl.toNat : Int), .int .u8 (pr.toNat : Int), .int .u32 (s.toNat : Int), .int .u32 (d.toNat : Int), .slice a8 os.length cap8, .slice a9 xs.length cap9] := hd 10 (by kernel_rfl) _ rfl
          have q9 : uu 9 = .bool false := hd 9 (by kernel_rfl) _ rfl
          refine .inl ⟨wanted_yes rfl (yielded_put (k := 32) (by kernel_rfl) (by kernel_rfl) 80 rfl (by decide) q9), ?_⟩
          generalize hev : Act.eval _ = ev
          have ec : ∀ c, ev (.const c) = c := fun c => by rw [← hev]; rfl
          have ef : ∀ f, ev (.func f) = .func (.func f) #[] #[] := fun f => by rw [← hev]; rfl
          have e33 : ev (.tmp 33) = .agg #[.int .u8 (tos.toNat : Int), .int .u16 (id.toNat : Int), .bool D, .bool true, .int .u16 (fo.toNat : Int), .int .u8 (ttl.toNat : Int), .int .u8 (pr.toNat : Int), .int .u32 (s.toNat : Int), .int .u32 (d.toNat : Int), .slice a8 os.length cap8, .slice a9 xs.length cap9] := by rw [← hev]; exact (eval_put (by kernel_rfl) 80 rfl (by decide)).trans q10
          clear hev hd q10 q9
          exact .inr ⟨_, _, by go_simp, (HP3 W).out⟩
        · obtain rfl := Option.some.inj ho
          obtain rfl := Option.some.inj hx
          have q9 : uu 9 = .bool false := hd 9 (by kernel_rfl) _ rfl
          refine .inl ⟨wanted_yes rfl (yielded_put (k := 32) (by kernel_rfl) (by kernel_rfl) 80 rfl (by decide) q9), ?_⟩
          generalize hev : Act.eval _ = ev
          have ec : ∀ c, ev (.const c) = c := fun c => by rw [← hev]; rfl
          have e6 : ev (.tmp 6) = .int .i64 2 := by rw [← hev]; exact eval_old (by kernel_rfl) 80 rfl (by decide) rfl
          clear hev hd q9
          exact .inl ⟨W, by go_simp, Below.refl _ _⟩
        · obtain rfl := Option.some.inj ho
          obtain rfl := Option.some.inj hx
          have q11 : uu 11 = .int .i64 2 := hd 11 (by kernel_rfl) _ rfl
          have q12 : uu 12 = .int .i64 2 := hd 12 (by kernel_rfl) _ rfl
          have q9 : uu 9 = .bool false := hd 9 (by kernel_rfl) _ rfl
          refine .inl ⟨wanted_yes rfl (yielded_put (k := 32) (by kernel_rfl) (by kernel_rfl) 80 rfl (by decide) q9), ?_⟩
          generalize hev : Act.eval _ = ev
          have ec : ∀ c, ev (.const c) = c := fun c => by rw [← hev]; rfl
          have e34 : ev (.tmp 34) = .int .i64 2 := by rw [← hev]; exact (eval_put (by kernel_rfl) 80 rfl (by decide)).trans q11
          have e35 : ev (.tmp 35) = .int .i64 2 := by rw [← hev]; exact (eval_put (by kernel_rfl) 80 rfl (by decide)).trans q12
          clear hev hd q11 q12 q9
          exact .inl ⟨W, by go_simp, Below.refl _ _⟩
        · obtain rfl := Option.some.inj ho
          obtain rfl := Option.some.inj hx
          have q9 : uu 9 = .bool false := hd 9 (by kernel_rfl) _ rfl
          have q13 : uu 13 = .bool false := hd 13 (by kernel_rfl) _ rfl
          refine .inl ⟨wanted_none rfl, ?_⟩
          generalize hev : Act.eval _ = ev
          have ec : ∀ c, ev (.const c) = c := fun c => by rw [← hev]; rfl
          have e32 : ev (.tmp 32) = .bool false := by rw [← hev]; exact (eval_put (by kernel_rfl) 80 rfl (by decide)).trans q9
          have e36 : ev (.tmp 36) = .bool false := by rw [← hev]; exact (eval_put (by kernel_rfl) 80 rfl (by decide)).trans q13
          clear hev hd q9 q13
          exact .inl ⟨W, by go_simp, Below.refl _ _⟩
        · obtain rfl := Option.some.inj ho
          obtain rfl := Option.some.inj hx
          have q14 : uu 14 = .bool false := hd 14 (by kernel_rfl) _ rfl
          refine .inl ⟨wanted_none rfl, ?_⟩
          generalize hev : Act.eval _ = ev
          have ec : ∀ c, ev (.const c) = c := fun c => by rw [← hev]; rfl
          have e37 : ev (.tmp 37) = .bool false := by rw [← hev]; exact (eval_put (by kernel_rfl) 80 rfl (by decide)).trans q14
          clear hev hd q14
          exact .inl ⟨W, by go_simp, Below.refl _ _⟩
        · obtain rfl := Option.some.inj ho
          obtain rfl := Option.some.inj hx
          have q15 : uu 15 = .bool false := hd 15 (by kernel_rfl) _ rfl
          refine .inl ⟨wanted_yes rfl (yielded_put (k := 38) (by kernel_rfl) (by kernel_rfl) 80 rfl (by decide) q15), ?_⟩
          generalize hev : Act.eval _ = ev
          have ec : ∀ c, ev (.const c) = c := fun c => by rw [← hev]; rfl
          have e2 : ev (.tmp 2) = .pointer (some ⟨w.heap.size, 0, none⟩) := by rw [← hev]; exact eval_old (by kernel_rfl) 80 rfl (by decide) rfl
          clear hev hd q15
          obtain ⟨cc0, cc1, cc2, cc3, cc4, cc5, cc6, cc7, cc8, cc9, cc10⟩ := HS W hVW
          exact .inl ⟨W, by go_simp, Below.refl _ _⟩
        · obtain rfl := Option.some.inj ho
          obtain rfl := Option.some.inj hx
          have q16 : uu 16 = .agg #[.int .u8 (tos.toNat : Int), .int .u16 (id.toNat : Int), .bool D, .bool true, .int .u16 (fo.toNat : Int), .int .u8 (ttl.toNat : Int), .int .u8 (pr.toNat : Int), .int .u32 (s.toNat : Int), .int .u32 (d.toNat : Int), .slice a8 os.length cap8, .slice a9 xs.length cap9] := hd 16 (by kernel_rfl) _ rfl
          have q15 : uu 15 = .bool false := hd 15 (by kernel_rfl) _ rfl
          refine .inl ⟨wanted_yes rfl (yielded_put (k := 38) (by kernel_rfl) (by kernel_rfl) 80 rfl (by decide) q15), ?_⟩
          generalize hev : Act.eval _ = ev
          have ec : ∀ c, ev (.const c) = c := fun c => by rw [← hev]; rfl
          have ef : ∀ f, ev (.func f) = .func (.func f) #[] #[] := fun f => by rw [← hev]; rfl
          have e39 : ev (.tmp 39) = .agg #[.int .u8 (tos.toNat : Int), .int .u16 (id.toNat : Int), .bool D, .bool true, .int .u16 (fo.toNat : Int), .int .u8 (ttl.toNat : Int), .int .u8 (pr.toNat : Int), .int .u32 (s.toNat : Int), .int .u32 (d.toNat : Int), .slice a8 os.length cap8, .slice a9 xs.length cap9] := by rw [← hev]; exact (eval_put (by kernel_rfl) 80 rfl (by decide)).trans q16
          clear hev hd q16 q15
          exact .inr ⟨_, _, by go_simp, (HZ W).out⟩
        · obtain rfl := Option.some.inj ho
          obtain rfl := Option.some.inj hx
          have q15 : uu 15 = .bool false := hd 15 (by kernel_rfl) _ rfl
          refine .inl ⟨wanted_yes rfl (yielded_put (k := 38) (by kernel_rfl) (by kernel_rfl) 80 rfl (by decide) q15), ?_⟩
          generalize hev : Act.eval _ = ev
          have ec : ∀ c, ev (.const c) = c := fun c => by rw [← hev]; rfl
          have e2 : ev (.tmp 2) = .pointer (some ⟨w.heap.size, 0, none⟩) := by rw [← hev]; exact eval_old (by kernel_rfl) 80 rfl (by decide) rfl
          clear hev hd q15
          exact .inl ⟨W, by go_simp, Below.refl _ _⟩
        · obtain rfl := Option.some.inj ho
          obtain rfl := Option.some.inj hx
          have q18 : uu 18 = .pointer (some ⟨w.heap.size, 9, none⟩) := hd 18 (by kernel_rfl) _ rfl
          have q15 : uu 15 = .bool false := hd 15 (by kernel_rfl) _ rfl
          refine .inl ⟨wanted_yes rfl (yielded_put (k := 38) (by kernel_rfl) (by kernel_rfl) 80 rfl (by decide) q15), ?_⟩
          generalize hev : Act.eval _ = ev
          have ec : ∀ c, ev (.const c) = c := fun c => by rw [← hev]; rfl
          have e41 : ev (.tmp 41) = .pointer (some ⟨w.heap.size, 9, none⟩) := by rw [← hev]; exact (eval_put (by kernel_rfl) 80 rfl (by decide)).trans q18
          clear hev hd q18 q15
          obtain ⟨cc0, cc1, cc2, cc3, cc4, cc5, cc6, cc7, cc8, cc9, cc10⟩ := HS W hVW
          exact .inl ⟨W, by go_simp, Below.refl _ _⟩
        · obtain rfl := Option.some.inj ho
          obtain rfl := Option.some.inj hx
          have q19 : uu 19 = .slice a8 os.length cap8 := hd 19 (by kernel_rfl) _ rfl
          have q15 : uu 15 = .bool false := hd 15 (by kernel_rfl) _ rfl
          refine .inl ⟨wanted_yes rfl (yielded_put (k := 38) (by kernel_rfl) (by kernel_rfl) 80 rfl (by decide) q15), ?_⟩
          generalize hev : Act.eval _ = ev
          have ec : ∀ c, ev (.const c) = c := fun c => by rw [← hev]; rfl
          have e42 : ev (.tmp 42) = .slice a8 os.length cap8 := by rw [← hev]; exact (eval_put (by kernel_rfl) 80 rfl (by decide)).trans q19
          clear hev hd q19 q15
          exact .inl ⟨W, by go_simp, Below.refl _ _⟩
        · obtain rfl := Option.some.inj ho
          obtain rfl := Option.some.inj hx
          have q20 : uu 20 = .int .i64 (os.length : Int) := hd 20 (by kernel_rfl) _ rfl
          have q15 : uu 15 = .bool false := hd 15 (by kernel_rfl) _ rfl
          refine .inl ⟨wanted_yes rfl (yielded_put (k := 38) (by kernel_rfl) (by kernel_rfl) 80 rfl (by decide) q15), ?_⟩
          generalize hev : Act.eval _ = ev
          have ec : ∀ c, ev (.const c) = c := fun c => by rw [← hev]; rfl
          have e43 : ev (.tmp 43) = .int .i64 (os.length : Int) := by rw [← hev]; exact (eval_put (by kernel_rfl) 80 rfl (by decide)).trans q20
          clear hev hd q20 q15
          have hw : IntKind.i64.wrap (20 + (os.length : Int)) = 20 + (os.length : Int) := by rw [IntKind.wrap_i64]; omega
          exact .inl ⟨W, by go_simp, Below.refl _ _⟩
        · obtain rfl := Option.some.inj ho
          obtain rfl := Option.some.inj hx
          have q17 : uu 17 = .int .i64 (20 + (os.length : Int)) := hd 17 (by kernel_rfl) _ rfl
          have q21 : uu 21 = .int .i64 (20 + (os.length : Int)) := hd 21 (by kernel_rfl) _ rfl
          have q15 : uu 15 = .bool false := hd 15 (by kernel_rfl) _ rfl
          refine .inl ⟨wanted_yes rfl (yielded_put (k := 38) (by kernel_rfl) (by kernel_rfl) 80 rfl (by decide) q15), ?_⟩
          generalize hev : Act.eval _ = ev
          have ec : ∀ c, ev (.const c) = c := fun c => by rw [← hev]; rfl
          have e40 : ev (.tmp 40) = .int .i64 (20 + (os.length : Int)) := by rw [← hev]; exact (eval_put (by kernel_rfl) 80 rfl (by decide)).trans q17
          have e44 : ev (.tmp 44) = .int .i64 (20 + (os.length : Int)) := by rw [← hev]; exact (eval_put (by kernel_rfl) 80 rfl (by decide)).trans q21
          clear hev hd q17 q21 q15
          exact .inl ⟨W, by go_simp, Below.refl _ _⟩
        · obtain rfl := Option.some.inj ho
          obtain rfl := Option.some.inj hx
          have q15 : uu 15 = .bool false := hd 15 (by kernel_rfl) _ rfl
          have q22 : uu 22 = .bool false := hd 22 (by kernel_rfl) _ rfl
          refine .inl ⟨wanted_none rfl, ?_⟩
          generalize hev : Act.eval _ = ev
          have ec : ∀ c, ev (.const c) = c := fun c => by rw [← hev]; rfl
          have e38 : ev (.tmp 38) = .bool false := by rw [← hev]; exact (eval_put (by kernel_rfl) 80 rfl (by decide)).trans q15
          have e45 : ev (.tmp 45) = .bool false := by rw [← hev]; exact (eval_put (by kernel_rfl) 80 rfl (by decide)).trans q22
          clear hev hd q15 q22
          exact .inl ⟨W, by go_simp, Below.refl _ _⟩
        · obtain rfl := Option.some.inj ho
          obtain rfl := Option.some.inj hx
          have q23 : uu 23 = .bool false := hd 23 (by kernel_rfl) _ rfl
          refine .inl ⟨wanted_none rfl, ?_⟩
          generalize hev : Act.eval _ = ev
          have ec : ∀ c, ev (.const c) = c := fun c => by rw [← hev]; rfl
          have e46 : ev (.tmp 46) = .bool false := by rw [← hev]; exact (eval_put (by kernel_rfl) 80 rfl (by decide)).trans q23
          clear hev hd q23
          exact .inl ⟨W, by go_simp, Below.refl _ _⟩
        · obtain rfl := Option.some.inj ho
          obtain rfl := Option.some.inj hx
          have q24 : uu 24 = .bool false := hd 24 (by kernel_rfl) _ rfl
          refine .inl ⟨wanted_yes rfl (yielded_put (k := 47) (by kernel_rfl) (by kernel_rfl) 80 rfl (by decide) q24), ?_⟩
          generalize hev : Act.eval _ = ev
          have ec : ∀ c, ev (.const c) = c := fun c => by rw [← hev]; rfl
          have e2 : ev (.tmp 2) = .pointer (some ⟨w.heap.size, 0, none⟩) := by rw [← hev]; exact eval_old (by kernel_rfl) 80 rfl (by decide) rfl
          clear hev hd q24
          obtain ⟨cc0, cc1, cc2, cc3, cc4, cc5, cc6, cc7, cc8, cc9, cc10⟩ := HS W hVW
          exact .inl ⟨W, by go_simp, Below.refl _ _⟩
        · obtain rfl := Option.some.inj ho
          obtain rfl := Option.some.inj hx
          have q25 : uu 25 = .agg #[.int .u8 (tos.toNat : Int), .int .u16 (id.toNat : Int), .bool D, .bool true, .int .u16 (fo.toNat : Int), .int .u8 (ttl.toNat : Int), .int .u8 (pr.toNat : Int), .int .u32 (s.toNat : Int), .int .u32 (d.toNat : Int), .slice a8 os.length cap8, .slice a9 xs.length cap9] := hd 25 (by kernel_rfl) _ rfl
          have q24 : uu 24 = .bool false := hd 24 (by kernel_rfl) _ rfl
          refine .inl ⟨wanted_yes rfl (yielded_put (k := 47) (by kernel_rfl) (by kernel_rfl) 80 rfl (by decide) q24), ?_⟩
          generalize hev : Act.eval _ = ev
          have ec : ∀ c, ev (.const c) = c := fun c => by rw [← hev]; rfl
          have ef : ∀ f, ev (.func f) = .func (.func f) #[] #[] := fun f => by rw [← hev]; rfl
          have e48 : ev (.tmp 48) = .agg #[.int .u8 (tos.toNat : Int), .int .u16 (id.toNat : Int), .bool D, .bool true, .int .u16 (fo.toNat : Int), .int .u8 (ttl.toNat : Int), .int .u8 (pr.toNat : Int), .int .u32 (s.toNat : Int), .int .u32 (d.toNat : Int), .slice a8 os.length cap8, .slice a9 xs.length cap9] := by rw [← hev]; exact (eval_put (by kernel_rfl) 80 rfl (by decide)).trans q25
          clear hev hd q25 q24
          exact .inr ⟨_, _, by go_simp, (HQ W).out⟩
        · obtain rfl := Option.some.inj ho
          obtain rfl := Option.some.inj hx
          have q24 : uu 24 = .bool false := hd 24 (by kernel_rfl) _ rfl
          refine .inl ⟨wanted_yes rfl (yielded_put (k := 47) (by kernel_rfl) (by kernel_rfl) 80 rfl (by decide) q24), ?_⟩
          generalize hev : Act.eval _ = ev
          have ec : ∀ c, ev (.const c) = c := fun c => by rw [← hev]; rfl
          have e2 : ev (.tmp 2) = .pointer (some ⟨w.heap.size, 0, none⟩) := by rw [← hev]; exact eval_old (by kernel_rfl) 80 rfl (by decide) rfl
          clear hev hd q24
          exact .inl ⟨W, by go_simp, Below.refl _ _⟩
        · obtain rfl := Option.some.inj ho
          obtain rfl := Option.some.inj hx
          have q27 : uu 27 = .pointer (some ⟨w.heap.size, 3, none⟩) := hd 27 (by kernel_rfl) _ rfl
          have q24 : uu 24 = .bool false := hd 24 (by kernel_rfl) _ rfl
          refine .inl ⟨wanted_yes rfl (yielded_put (k := 47) (by kernel_rfl) (by kernel_rfl) 80 rfl (by decide) q24), ?_⟩
          generalize hev : Act.eval _ = ev
          have ec : ∀ c, ev (.const c) = c := fun c => by rw [← hev]; rfl
          have e50 : ev (.tmp 50) = .pointer (some ⟨w.heap.size, 3, none⟩) := by rw [← hev]; exact (eval_put (by kernel_rfl) 80 rfl (by decide)).trans q27
          clear hev hd q27 q24
          obtain ⟨cc0, cc1, cc2, cc3, cc4, cc5, cc6, cc7, cc8, cc9, cc10⟩ := HS W hVW
          exact .inl ⟨W, by go_simp, Below.refl _ _⟩
        · obtain rfl := Option.some.inj ho
          obtain rfl := Option.some.inj hx
          have q28 : uu 28 = .bool true := hd 28 (by kernel_rfl) _ rfl
          have q24 : uu 24 = .bool false := hd 24 (by kernel_rfl) _ rfl
          refine .inl ⟨wanted_yes rfl (yielded_put (k := 47) (by kernel_rfl) (by kernel_rfl) 80 rfl (by decide) q24), ?_⟩
          generalize hev : Act.eval _ = ev
          have ec : ∀ c, ev (.const c) = c := fun c => by rw [← hev]; rfl
          have e51 : ev (.tmp 51) = .bool true := by rw [← hev]; exact (eval_put (by kernel_rfl) 80 rfl (by decide)).trans q28
          clear hev hd q28 q24
          exact .inl ⟨W, by go_simp, Below.refl _ _⟩
        · obtain rfl := Option.some.inj ho
          obtain rfl := Option.some.inj hx
          have q29 : uu 29 = .bool true := hd 29 (by kernel_rfl) _ rfl
          exact .inr ⟨wanted_no rfl (yielded_put (k := 52) (by kernel_rfl) (by kernel_rfl) 80 rfl (by decide) q29), rfl⟩
        · obtain rfl := Option.some.inj ho
          obtain rfl := Option.some.inj hx
          have q29 : uu 29 = .bool true := hd 29 (by kernel_rfl) _ rfl
          exact .inr ⟨wanted_no rfl (yielded_put (k := 52) (by kernel_rfl) (by kernel_rfl) 80 rfl (by decide) q29), rfl⟩
        · obtain rfl := Option.some.inj ho
          obtain rfl := Option.some.inj hx
          have q29 : uu 29 = .bool true := hd 29 (by kernel_rfl) _ rfl
          exact .inr ⟨wanted_no rfl (yielded_put (k := 52) (by kernel_rfl) (by kernel_rfl) 80 rfl (by decide) q29), rfl⟩
        · obtain rfl := Option.some.inj ho
          obtain rfl := Option.some.inj hx
          have q29 : uu 29 = .bool true := hd 29 (by kernel_rfl) _ rfl
          have q24 : uu 24 = .bool false := hd 24 (by kernel_rfl) _ rfl
          refine .inl ⟨wanted_yes rfl (yielded_put (k := 47) (by kernel_rfl) (by kernel_rfl) 80 rfl (by decide) q24), ?_⟩
          generalize hev : Act.eval _ = ev
          have ec : ∀ c, ev (.const c) = c := fun c => by rw [← hev]; rfl
          have e52 : ev (.tmp 52) = .bool true := by rw [← hev]; exact (eval_put (by kernel_rfl) 80 rfl (by decide)).trans q29
          clear hev hd q29 q24
          exact .inl ⟨W, by go_simp, Below.refl _ _⟩
        · obtain rfl := Option.some.inj ho
          obtain rfl := Option.some.inj hx
          have q26 : uu 26 = .bool pb := hd 26 (by kernel_rfl) _ rfl
          have q33 : uu 33 = .bool true := hd 33 (by kernel_rfl) _ rfl
          have q24 : uu 24 = .bool false := hd 24 (by kernel_rfl) _ rfl
          refine .inl ⟨wanted_yes rfl (yielded_put (k := 47) (by kernel_rfl) (by kernel_rfl) 80 rfl (by decide) q24), ?_⟩
          generalize hev : Act.eval _ = ev
          have ec : ∀ c, ev (.const c) = c := fun c => by rw [← hev]; rfl
          have e49 : ev (.tmp 49) = .bool pb := by rw [← hev]; exact (eval_put (by kernel_rfl) 80 rfl (by decide)).trans q26
          have e56 : ev (.tmp 56) = .bool true := by rw [← hev]; exact (eval_put (by kernel_rfl) 80 rfl (by decide)).trans q33
          clear hev hd q26 q33 q24
          have hpq : pb = true := (HPB ()).out.symm
          exact .inl ⟨W, by go_simp, Below.refl _ _⟩
        · obtain rfl := Option.some.inj ho
          obtain rfl := Option.some.inj hx
          have q24 : uu 24 = .bool false := hd 24 (by kernel_rfl) _ rfl
          have q34 : uu 34 = .bool false := hd 34 (by kernel_rfl) _ rfl
          refine .inl ⟨wanted_none rfl, ?_⟩
          generalize hev : Act.eval _ = ev
          have ec : ∀ c, ev (.const c) = c := fun c => by rw [← hev]; rfl
          have e47 : ev (.tmp 47) = .bool false := by rw [← hev]; exact (eval_put (by kernel_rfl) 80 rfl (by decide)).trans q24
          have e57 : ev (.tmp 57) = .bool false := by rw [← hev]; exact (eval_put (by kernel_rfl) 80 rfl (by decide)).trans q34
          clear hev hd q24 q34
          exact .inl ⟨W, by go_simp, Below.refl _ _⟩
        · simp at ho
      · intro W hVW

        simp only [putAll, Act.put, List.getD_cons_zero, List.getD_cons_succ]
        simp only [List.setIfInBounds_toArray, List.set_cons_succ, List.set_cons_zero]
        have hB := hB.trans (hVW.mono hB.size)
        clear HS hK HP3 HZ HQ HPB HSM
        go_wp2_with fail
        go_wp2_with (go_at_call 19; refine (lives06_any _).mono ?_; rintro e wl ⟨rfl, hbel⟩)
        go_ret
        exact ⟨rfl, bnext hB hbel⟩
end Go.Proofs.Ytfejdfdgbfpgkaa
