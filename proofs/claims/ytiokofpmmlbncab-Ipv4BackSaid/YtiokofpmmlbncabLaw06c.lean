/- The walks of the statements on package ipv4: bytes back, and another time to live. -/
import Derived.Test.YtiokofpmmlbncabLaw06
import Derived.Test.YtiokofpmmlbncabIp9
namespace Go.Proofs.Ytiokofpmmlbncab
open Go.RowKit

theorem rget_b (A : Option Addr) (c : Nat) (bs : List UInt8) (K : Int) (k n : Nat) (hK : K = (k : Int)) (w : World) (hb : Rd bv w w.heap.size A c bs) (h : k + 2 ≤ bs.length) (hn : beN ((bs.drop k).take 2) = n) :
    Calls Try.prog 17 #[.slice A bs.length c, .int .i64 K, .int .i64 2] w fun e w' => e = .returned (.tuple #[.int .u32 (n : Int), .bool true]) ∧ w = w' := by
  subst hK hn
  exact rget2_yes A c bs k w _ hb h
theorem take_join (xs : List UInt8) (a b : Nat) (h : a ≤ b) : xs.take b = xs.take a ++ (xs.drop a).take (b - a) := by
  have := dt_split xs 0 a b h
  simpa using this

set_option maxHeartbeats 4000000 in
theorem Ipv4Back_walk (a0 : Option Addr) (len0 cap0 : Nat) (z0 : List Int) (w : World) (w0 : InRow .u8 w a0 len0 cap0 z0) :
    Calls Try.prog 3 #[.slice a0 len0 cap0] w fun e w' => e = .returned (.bool true) ∧ Below w.heap.size w w' := by
  obtain ⟨xs, hxl, ha, HFa⟩ := few_row w0 400 (by omega)
  clear w0
  rcases parse_split xs (by omega) with ⟨e0, he, hb⟩ | ⟨m, fl, al, tos, id, D, M, fo, ttl, pr, s, d, hk⟩
  · have P1 := fun W (h : Rd bv W W.heap.size a0 cap0 xs) => Lib.hid (hb a0 cap0 W h).2.1
    clear hb
    rcases he with rfl | rfl | rfl
    all_goals
      go_enter Try.func3, Try.ntmps3
      have hB := Below.refl w.heap.size w
      go_wp2_with fail
      refine (HFa.out).mono ?_
      rintro e w_1 ⟨rfl, rfl⟩
      go_wp2_with fail
      refine (P1 _ ha).out.mono ?_
      rintro e w_2 ⟨rfl, hbel⟩
      replace hB := bnext hB hbel
      clear hbel ha P1
      go_wp2_with fail
      refine (lives06_any _).mono ?_
      rintro e wl ⟨rfl, hbel⟩
      replace hB := bnext (bnextA hB _) hbel
      go_wp2_with fail
      go_ret
      exact ⟨rfl, hB⟩
  · obtain ⟨S, hS⟩ : ∃ S, beN ((xs.drop 10).take 2) = S := ⟨_, rfl⟩
    have hS5 : S ≤ 65535 := by rw [← hS]; exact two_lt xs 10 (by have := hk.h20; omega)
    have hhd := ip_head hk S hS
    have P1 := fun W (h : Rd bv W W.heap.size a0 cap0 xs) => Lib.hid (hk.parse (by omega) a0 cap0 W h)
    have hwd := wdN_of fl D M fo hk.hhi hk.hD hk.hM hk.hf
    have hl := hk.hl
    have hm5 := hk.hm5
    have hm15 := hk.hm15
    have hla := hk.hla
    have hov := hk.hov
    have hal := hk.hal
    have hfo : fo.toNat ≤ 8191 := by have := hk.hf; omega
    have hon := hk.hN
    have h20 := hk.h20
    obtain ⟨h8, hh8⟩ : ∃ h8, xs[0] = h8 := ⟨_, rfl⟩
    have hm := hk.hm
    rw [hh8] at hm hhd
    rw [hhd] at hon
    obtain ⟨ys, hys⟩ : ∃ ys, xs.take al = ys := ⟨_, rfl⟩
    have P2 : ∀ Lo Lx, Lo = (xs.drop 20).take (4 * m - 20) → Lx = (xs.drop (4 * m)).take (al - 4 * m) → ∀ Ao co Ax cx W, Rd bv W W.heap.size Ao co Lo → Rd bv W W.heap.size Ax cx Lx → Hid (Calls Try.prog 18 #[.agg #[.int .u8 (tos.toNat : Int), .int .u16 (id.toNat : Int), .bool D, .bool M, .int .u16 (fo.toNat : Int), .int .u8 (ttl.toNat : Int), .int .u8 (pr.toNat : Int), .int .u32 (s.toNat : Int), .int .u32 (d.toNat : Int), .slice Ao Lo.length co, .slice Ax Lx.length cx]] W fun e w' => ∃ L A' c', e = .returned (.tuple #[.slice A' L.length c', .int .i64 0]) ∧ Hid (S ≠ 65535 → L = ys) ∧ Rd bv w' w'.heap.size A' c' L ∧ Below W.heap.size W w') := by
      intro Lo Lx e1 e2 Ao co Ax cx W r1 r2
      have l1 : Lo.length = 4 * m - 20 := by rw [e1]; simp; omega
      have l2 : Lx.length = al - 4 * m := by rw [e2]; simp; omega
      refine (pput_ok tos id D M fo ttl pr s d Ao Ax co cx Lo Lx W r1 r2 (by omega) (by omega) hfo (by omega) h8 (by omega) _ rfl).mono ?_
      rintro e w' ⟨L, A', c', he, HL, hr, hb⟩
      refine ⟨L, A', c', he, fun hne => ?_, hr, hb⟩
      rw [HL.out, hwd, show 20 + Lo.length + Lx.length = al by omega, e1]
      rw [ih_back h8 tos al id fl ttl pr s d _ S _ (by omega) (by omega) rfl hon, ← hhd, e2]
      rw [← hys]
      exact (take_join xs (4 * m) al hla).symm
    have hl65 : al ≤ 65535 := by rw [← hal]; exact two_lt xs 2 (by omega)
    have G1 := fun W (h : Rd bv W W.heap.size a0 cap0 xs) => Lib.hid (rget_b a0 cap0 xs 10 10 S rfl W h (by omega) hS)
    have G2 := fun W (h : Rd bv W W.heap.size a0 cap0 xs) => Lib.hid (rget_b a0 cap0 xs 2 2 al rfl W h (by omega) hal)
    have G3 : ∀ W, Rd bv W W.heap.size a0 cap0 xs → Hid (Calls Try.prog 14 #[.slice a0 xs.length cap0, .int .i64 (al : Int)] W fun e w' => e = .returned (.slice a0 ys.length cap0) ∧ W = w') ∧ Hid (Rd bv W W.heap.size a0 cap0 ys) := fun W h => by
      have g := few_rd h al (by omega)
      have g2 := h.take al
      rw [hys] at g g2
      exact ⟨g, g2⟩
    clear hon hm hhd hh8 hwd hk hal hfo hl hm5 hm15 hla hov h20 hS hys
    have hcv : IntKind.i64.wrap (al : Int) = (al : Int) := by simp [IntKind.wrap, IntKind.bits, IntKind.signed]; omega
    have dec : (S = 65535 ∧ ((S : Int) == 65535) = true) ∨ (S ≠ 65535 ∧ ((S : Int) == 65535) = false) := by
      by_cases h : S = 65535
      · exact .inl ⟨h, by subst h; rfl⟩
      · exact .inr ⟨h, by simp; omega⟩
    go_enter Try.func3, Try.ntmps3
    have hB := Below.refl w.heap.size w
    go_wp2_with fail
    refine (HFa.out).mono ?_
    rintro e w_2 ⟨rfl, rfl⟩
    go_wp2_with fail
    refine (P1 _ ha).out.mono ?_
    rintro e w_2 ⟨Lo, Ao, co, Lx, Ax, cx, rfl, HLo, HLx, ro, rx, hbel⟩
    replace hB := bnext hB hbel
    replace ha := ha.next hbel
    clear hbel P1
    go_wp2_with fail
    replace ha := ha.nextA (.cells #[.int .u8 (tos.toNat : Int), .int .u16 (id.toNat : Int), .bool D, .bool M, .int .u16 (fo.toNat : Int), .int .u8 (ttl.toNat : Int), .int .u8 (pr.toNat : Int), .int .u32 (s.toNat : Int), .int .u32 (d.toNat : Int), .slice Ao Lo.length co, .slice Ax Lx.length cx] 27)
    replace ro := ro.nextA (.cells #[.int .u8 (tos.toNat : Int), .int .u16 (id.toNat : Int), .bool D, .bool M, .int .u16 (fo.toNat : Int), .int .u8 (ttl.toNat : Int), .int .u8 (pr.toNat : Int), .int .u32 (s.toNat : Int), .int .u32 (d.toNat : Int), .slice Ao Lo.length co, .slice Ax Lx.length cx] 27)
    replace rx := rx.nextA (.cells #[.int .u8 (tos.toNat : Int), .int .u16 (id.toNat : Int), .bool D, .bool M, .int .u16 (fo.toNat : Int), .int .u8 (ttl.toNat : Int), .int .u8 (pr.toNat : Int), .int .u32 (s.toNat : Int), .int .u32 (d.toNat : Int), .slice Ao Lo.length co, .slice Ax Lx.length cx] 27)
    refine (G1 _ ha).out.mono ?_
    rintro e w_3 ⟨rfl, rfl⟩
    go_wp2_with fail
    refine (G2 _ ha).out.mono ?_
    rintro e w_3 ⟨rfl, rfl⟩
    obtain ⟨p0, p1, p2, p3, p4, p5, p6, p7, p8, p9, p10, -⟩ := (Blk.new w_2 #[.int .u8 (tos.toNat : Int), .int .u16 (id.toNat : Int), .bool D, .bool M, .int .u16 (fo.toNat : Int), .int .u8 (ttl.toNat : Int), .int .u8 (pr.toNat : Int), .int .u32 (s.toNat : Int), .int .u32 (d.toNat : Int), .slice Ao Lo.length co, .slice Ax Lx.length cx] 27).get11
    clear G1 G2
    go_wp2_with fail
    refine (P2 Lo Lx HLo.out HLx.out _ _ _ _ _ ro rx).out.mono ?_
    rintro e w_3 ⟨L, A', c', rfl, HL, hr, hbel⟩
    replace hB := bnext (bnextA hB _) hbel
    replace ha := ha.next hbel
    clear hbel p0 p1 p2 p3 p4 p5 p6 p7 p8 p9 p10 ro rx P2
    rcases dec with ⟨hs, hd⟩ | ⟨hs, hd⟩
    · go_wp2_with fail
      refine (lives06_any _).mono ?_
      rintro e wl ⟨rfl, hbel⟩
      replace hB := bnext hB hbel
      go_wp2_with fail
      go_ret
      exact ⟨rfl, hB⟩
    · go_wp2_with fail
      refine (G3 _ ha).1.out.mono ?_
      rintro e w_4 ⟨rfl, rfl⟩
      go_wp2_with fail
      refine (rsame_eq A' a0 c' cap0 L ys w_3 _ hr (G3 _ ha).2.out (HL.out hs)).mono ?_
      rintro e w_4 ⟨rfl, hbel⟩
      replace hB := bnextD hB hbel
      clear hbel
      go_wp2_with fail
      refine (lives06_any _).mono ?_
      rintro e wl ⟨rfl, hbel⟩
      replace hB := bnext hB hbel
      go_wp2_with fail
      go_ret
      exact ⟨rfl, hB⟩

set_option maxHeartbeats 4000000 in
theorem Ipv4Turns_walk (a0 : Option Addr) (len0 cap0 : Nat) (z0 : List Int) (a1 : Int) (w : World) (w0 : InRow .u8 w a0 len0 cap0 z0) (w1 : (Lit.int .u8 a1).wf = true) :
    Calls Try.prog 4 #[.slice a0 len0 cap0, .int .u8 a1] w fun e w' => e = .returned (.bool true) ∧ Below w.heap.size w w' := by
  obtain ⟨xs, hxl, ha, HFa⟩ := few_row w0 400 (by omega)
  obtain ⟨t, rfl⟩ := u8_of w1
  clear w0 w1
  rcases parse_split xs (by omega) with ⟨e0, he, hb⟩ | ⟨m, fl, al, tos, id, D, M, fo, ttl, pr, s, d, hk⟩
  · have P1 := fun W (h : Rd bv W W.heap.size a0 cap0 xs) => Lib.hid (pturn_bad e0 he a0 cap0 xs t W (hb a0 cap0 W h).1)
    have P2 := fun W (h : Rd bv W W.heap.size a0 cap0 xs) => Lib.hid (hb a0 cap0 W h).2.2
    clear hb
    rcases he with rfl | rfl | rfl
    all_goals
      go_enter Try.func4, Try.ntmps4
      have hB := Below.refl w.heap.size w
      go_wp2_with fail
      refine (HFa.out).mono ?_
      rintro e w_3 ⟨rfl, rfl⟩
      go_wp2_with fail
      refine (P1 _ ha).out.mono ?_
      rintro e w_2 ⟨rfl, hbel⟩
      replace hB := bnext hB hbel
      replace ha := ha.next hbel
      clear hbel P1
      go_wp2_with fail
      refine (P2 _ ha).out.mono ?_
      rintro e w_3 ⟨rfl, hbel⟩
      replace hB := bnext hB hbel
      clear hbel P2 ha
      go_wp2_with fail
      refine (lives06_any _).mono ?_
      rintro e wl ⟨rfl, hbel⟩
      replace hB := bnext (bnextA hB _) hbel
      go_wp2_with fail
      go_ret
      exact ⟨rfl, hB⟩
  · obtain ⟨S, hS⟩ : ∃ S, beN ((xs.drop 10).take 2) = S := ⟨_, rfl⟩
    have h20 := hk.h20
    have hl := hk.hl
    have hm5 := hk.hm5
    have hm15 := hk.hm15
    have hla := hk.hla
    have hov := hk.hov
    have hS5 : S ≤ 65535 := by rw [← hS]; exact two_lt xs 10 (by omega)
    have hhd := ip_head hk S hS
    have hl65 : al ≤ 65535 := by rw [← hk.hal]; exact two_lt xs 2 (by omega)
    have P2 := fun W (h : Rd bv W W.heap.size a0 cap0 xs) => Lib.hid (hk.rparse (by omega) a0 cap0 W h)
    obtain ⟨h8, hh8⟩ : ∃ h8, xs[0] = h8 := ⟨_, rfl⟩
    have hm := hk.hm
    have hon := hk.hN
    rw [hh8] at hm hhd
    obtain ⟨os, hos⟩ : ∃ os, (xs.drop 20).take (4 * m - 20) = os := ⟨_, rfl⟩
    obtain ⟨dat, hdat⟩ : ∃ dat, (xs.drop (4 * m)).take (al - 4 * m) = dat := ⟨_, rfl⟩
    have l1 : os.length = 4 * m - 20 := by rw [← hos]; simp; omega
    have l2 : dat.length = al - 4 * m := by rw [← hdat]; simp; omega
    rw [hos] at hhd
    rw [hhd] at hon
    have hL : xs.take al = ih h8 tos al id fl ttl pr S s d os ++ dat := by rw [← hhd, ← hdat]; exact take_join xs (4 * m) al hla
    obtain ⟨F, hF⟩ : ∃ F, foldN (65535 - S + (65535 - (ttl.toNat * 256 + pr.toNat)) + (t.toNat * 256 + pr.toNat)) = F := ⟨_, rfl⟩
    have P1 := fun W (h : Rd bv W W.heap.size a0 cap0 xs) => Lib.hid (pturn_ok a0 cap0 xs t W h (by omega) m fl al tos id D M fo ttl pr s d hk h8 os dat S F hS5 hL hF)
    have hon2 := ih_turn h8 tos al id fl ttl pr s d os S F t (by omega) hS5 hF hon
    rw [hos, hdat] at P2
    have P3 : ∀ P, P = ih h8 tos al id fl t pr (65535 - F) s d os ++ dat → ∀ A c W, Rd bv W W.heap.size A c P → Hid (Calls Try.prog 21 #[.slice A P.length c] W fun e w' => ∃ Lo Ao co Lx Ax cx, e = .returned (.tuple #[.agg #[.int .u8 (tos.toNat : Int), .int .u16 (id.toNat : Int), .bool D, .bool M, .int .u16 (fo.toNat : Int), .int .u8 (t.toNat : Int), .int .u8 (pr.toNat : Int), .int .u32 (s.toNat : Int), .int .u32 (d.toNat : Int), .slice Ao Lo.length co, .slice Ax Lx.length cx], .int .i64 0]) ∧ Hid (Lo = os) ∧ Hid (Lx = dat) ∧ Rd bv w' w'.heap.size Ao co Lo ∧ Rd bv w' w'.heap.size Ax cx Lx ∧ Below W.heap.size W w') := by
      intro P hP A c W hr
      have hIH : (ih h8 tos al id fl t pr (65535 - F) s d os).length = 4 * m := by rw [ih_len]; omega
      have k := ipok_ih h8 tos al id fl t pr (65535 - F) s d os dat P m fo D M hm hm5 hm15 l1 hP hl65 hla (by omega) hk.hhi hk.hD hk.hM hk.hf hon2
      have r := k.rparse (by rw [hP, List.length_append, hIH]; omega) A c W hr
      have e1 : (P.drop 20).take (4 * m - 20) = os := by
        rw [hP, ← l1, show (ih h8 tos al id fl t pr (65535 - F) s d os ++ dat).drop 20 = os ++ dat from rfl, List.take_left' rfl]
      have e2 : (P.drop (4 * m)).take (al - 4 * m) = dat := by
        rw [hP, List.drop_left' hIH, ← l2, List.take_length]
      rw [e1, e2] at r
      exact r
    clear hon hon2 hm hhd hh8 hk hl hm5 hm15 hla hov h20 hS hL hF hos hdat l1 l2
    go_enter Try.func4, Try.ntmps4
    have hB := Below.refl w.heap.size w
    go_wp2_with fail
    refine (HFa.out).mono ?_
    rintro e w_4 ⟨rfl, rfl⟩
    go_wp2_with fail
    refine (P1 _ ha).out.mono ?_
    rintro e w_2 ⟨L, A, c, rfl, HL, r, hbel⟩
    replace hB := bnext hB hbel
    replace ha := ha.next hbel
    clear hbel P1
    go_wp2_with fail
    refine (P2 _ ha).out.mono ?_
    rintro e w_3 ⟨Lo, Ao, co, Lx, Ax, cx, rfl, HLo, HLx, ro, rx, hbel⟩
    replace hB := bnext hB hbel
    replace r := r.next hbel
    clear hbel P2 ha
    have K2 := Blk.new w_3 #[.int .u8 (tos.toNat : Int), .int .u16 (id.toNat : Int), .bool D, .bool M, .int .u16 (fo.toNat : Int), .int .u8 (t.toNat : Int), .int .u8 (pr.toNat : Int), .int .u32 (s.toNat : Int), .int .u32 (d.toNat : Int), .slice Ao Lo.length co, .slice Ax Lx.length cx] 27
    have hbA := bnextA hB (.cells #[.int .u8 (tos.toNat : Int), .int .u16 (id.toNat : Int), .bool D, .bool M, .int .u16 (fo.toNat : Int), .int .u8 (t.toNat : Int), .int .u8 (pr.toNat : Int), .int .u32 (s.toNat : Int), .int .u32 (d.toNat : Int), .slice Ao Lo.length co, .slice Ax Lx.length cx] 27)
    obtain ⟨p0, p1, p2, p3, p4, p5, p6, p7, p8, p9, p10, q0, q1, q2, q3, q4, q5, q6, q7, q8, q9, q10⟩ := (Blk.new w_3 #[.int .u8 (tos.toNat : Int), .int .u16 (id.toNat : Int), .bool D, .bool M, .int .u16 (fo.toNat : Int), .int .u8 (ttl.toNat : Int), .int .u8 (pr.toNat : Int), .int .u32 (s.toNat : Int), .int .u32 (d.toNat : Int), .slice Ao Lo.length co, .slice Ax Lx.length cx] 27).get11
    go_wp2_with fail
    replace ro := ro.nextA (.cells #[.int .u8 (tos.toNat : Int), .int .u16 (id.toNat : Int), .bool D, .bool M, .int .u16 (fo.toNat : Int), .int .u8 (t.toNat : Int), .int .u8 (pr.toNat : Int), .int .u32 (s.toNat : Int), .int .u32 (d.toNat : Int), .slice Ao Lo.length co, .slice Ax Lx.length cx] 27)
    replace rx := rx.nextA (.cells #[.int .u8 (tos.toNat : Int), .int .u16 (id.toNat : Int), .bool D, .bool M, .int .u16 (fo.toNat : Int), .int .u8 (t.toNat : Int), .int .u8 (pr.toNat : Int), .int .u32 (s.toNat : Int), .int .u32 (d.toNat : Int), .slice Ao Lo.length co, .slice Ax Lx.length cx] 27)
    replace r := r.nextA (.cells #[.int .u8 (tos.toNat : Int), .int .u16 (id.toNat : Int), .bool D, .bool M, .int .u16 (fo.toNat : Int), .int .u8 (t.toNat : Int), .int .u8 (pr.toNat : Int), .int .u32 (s.toNat : Int), .int .u32 (d.toNat : Int), .slice Ao Lo.length co, .slice Ax Lx.length cx] 27)
    clear hB p0 p1 p2 p3 p4 p5 p6 p7 p8 p9 p10 q0 q1 q2 q3 q4 q5 q6 q7 q8 q9 q10
    generalize w_3.alloc (.cells #[.int .u8 (tos.toNat : Int), .int .u16 (id.toNat : Int), .bool D, .bool M, .int .u16 (fo.toNat : Int), .int .u8 (t.toNat : Int), .int .u8 (pr.toNat : Int), .int .u32 (s.toNat : Int), .int .u32 (d.toNat : Int), .slice Ao Lo.length co, .slice Ax Lx.length cx] 27) = V at *
    generalize w_3.heap.size = g at *
    refine (P3 L HL.out _ _ _ r).out.mono ?_
    rintro e w_4 ⟨Mo, Bo, do_, Mx, Bx, dx, rfl, HMo, HMx, so, sx, hbel⟩
    have hB := bnext hbA hbel
    obtain ⟨p0, p1, p2, p3, p4, p5, p6, p7, p8, p9, p10, -⟩ := (K2.next hbel).get11
    have hlt := (K2.next hbel).lt
    replace ro := ro.next hbel
    replace rx := rx.next hbel
    clear hbel P3 r K2 hbA
    go_wp2_with fail
    refine (psame_yes tos id D M fo t pr s d _ _ _ _ _ _ _ _ Mo Mx Lo Lx _ (so.nextA _) (sx.nextA _) (ro.nextA _) (rx.nextA _) (by rw [HMo.out, HLo.out]) (by rw [HMx.out, HLx.out])).mono ?_
    rintro e w_5 ⟨rfl, hbel⟩
    replace hB := bnext (bnextA hB _) hbel
    clear hbel p0 p1 p2 p3 p4 p5 p6 p7 p8 p9 p10 hlt ro rx so sx
    go_wp2_with fail
    refine (lives06_any _).mono ?_
    rintro e wl ⟨rfl, hbel⟩
    replace hB := bnext hB hbel
    go_wp2_with fail
    go_ret
    exact ⟨rfl, hB⟩
end Go.Proofs.Ytiokofpmmlbncab
