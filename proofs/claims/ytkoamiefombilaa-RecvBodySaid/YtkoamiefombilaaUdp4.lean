/- Contracts of udp.Parse. -/
import Derived.Test.YtkoamiefombilaaGet
import Derived.Test.YtkoamiefombilaaUdp3
import Derived.Test.YtkoamiefombilaaReg
namespace Go.Proofs.Ytkoamiefombilaa
open Go.RowKit

theorem uparse_short (s d : UInt32) (A : Option Addr) (c : Nat) (xs : List UInt8) (w : World) (hr : Rd bv w w.heap.size A c xs) (h8 : xs.length < 8) :
    Calls Try.prog 59 #[.int .u32 (s.toNat : Int), .int .u32 (d.toNat : Int), .slice A xs.length c] w fun e w' => e = .returned (.tuple #[.agg #[.int .u16 0, .int .u16 0, .bool false, .slice none 0 0], .int .i64 4]) ∧ Below w.heap.size w w' := by
  have hlc := hr.len
  have hcc := hr.cap
  go_enter Try.func59, Try.ntmps59
  go_wp2_with fail
  simp [bodyPost, results, Try.results59, go_sem]
  exact bnextA (Below.refl _ _) _

theorem uparse_form (s d : UInt32) (A : Option Addr) (c : Nat) (xs : List UInt8) (w : World) (hr : Rd bv w w.heap.size A c xs) (h8 : 8 ≤ xs.length) (n : Nat) (hn : beN ((xs.drop 4).take 2) = n) (hn8 : n < 8) :
    Calls Try.prog 59 #[.int .u32 (s.toNat : Int), .int .u32 (d.toNat : Int), .slice A xs.length c] w fun e w' => e = .returned (.tuple #[.agg #[.int .u16 0, .int .u16 0, .bool false, .slice none 0 0], .int .i64 3]) ∧ Below w.heap.size w w' := by
  have hlc := hr.len
  have hcc := hr.cap
  have HG := Lib.hid (get16_b A c xs 4 4 n rfl _ (hr.nextA (.cells #[.int .u16 0, .int .u16 0, .bool false, .slice none 0 0] 53)) (by omega) hn)
  clear hn
  go_enter Try.func59, Try.ntmps59
  go_wp2_with fail
  refine HG.out.mono ?_
  rintro e w1 ⟨rfl, hbel⟩
  obtain ⟨p0, p1, p2, p3, q0, q1, q2, q3⟩ := blk4 rfl hbel
  have hB := bnext (bnextA (Below.refl w.heap.size w) _) hbel
  clear hbel HG
  go_wp2_with fail
  simp [bodyPost, results, Try.results59, go_sem, *]
  exact bset4 hB (Nat.le_refl _) _ _ _ _

theorem uparse_long (s d : UInt32) (A : Option Addr) (c : Nat) (xs : List UInt8) (w : World) (hr : Rd bv w w.heap.size A c xs) (h8 : 8 ≤ xs.length) (n : Nat) (hn : beN ((xs.drop 4).take 2) = n) (hn8 : 8 ≤ n) (hnl : xs.length < n) :
    Calls Try.prog 59 #[.int .u32 (s.toNat : Int), .int .u32 (d.toNat : Int), .slice A xs.length c] w fun e w' => e = .returned (.tuple #[.agg #[.int .u16 0, .int .u16 0, .bool false, .slice none 0 0], .int .i64 4]) ∧ Below w.heap.size w w' := by
  have hlc := hr.len
  have hcc := hr.cap
  have hn16 : n ≤ 65535 := by rw [← hn, take_two xs 4 (by omega), beN_two]; have := (xs[4]).toNat_lt; have := (xs[4+1]).toNat_lt; omega
  have HG := Lib.hid (get16_b A c xs 4 4 n rfl _ (hr.nextA (.cells #[.int .u16 0, .int .u16 0, .bool false, .slice none 0 0] 53)) (by omega) hn)
  clear hn
  go_enter Try.func59, Try.ntmps59
  go_wp2_with fail
  refine HG.out.mono ?_
  rintro e w1 ⟨rfl, hbel⟩
  obtain ⟨p0, p1, p2, p3, q0, q1, q2, q3⟩ := blk4 rfl hbel
  have hB := bnext (bnextA (Below.refl w.heap.size w) _) hbel
  clear hbel HG
  go_wp2_with fail
  simp [bodyPost, results, Try.results59, go_sem, *]
  exact bset4 hB (Nat.le_refl _) _ _ _ _

theorem Parts.next {w w' : World} {B g : Nat} {ls : List (List UInt8)} (h : Parts w B g ls) (hg : g < w.heap.size) (hB : B ≤ w.heap.size) (hb : Below w.heap.size w w') : Parts w' B g ls := by
  obtain ⟨vs, h1, h2⟩ := h
  exact ⟨vs, h1.keep (hb.mono hB), fun i v hv => (hb.cell hg).trans (h2 i v hv)⟩

set_option maxHeartbeats 2000000 in
theorem uparse_sum (s d : UInt32) (A : Option Addr) (c : Nat) (xs ts : List UInt8) (w : World) (hr : Rd bv w w.heap.size A c xs) (h8 : 8 ≤ xs.length) (hl : xs.length ≤ 1000000) (hn : beN ((xs.drop 4).take 2) = ts.length) (hn8 : 8 ≤ ts.length) (hnl : ts.length ≤ xs.length) (hts : xs.take ts.length = ts) (t : Nat) (ht : beN ((xs.drop 6).take 2) = t) (ht0 : t ≠ 0)
    (hN : onesN (uh s d 17 ts.length ++ ts) ≠ 65535) :
    Calls Try.prog 59 #[.int .u32 (s.toNat : Int), .int .u32 (d.toNat : Int), .slice A xs.length c] w fun e w' => e = .returned (.tuple #[.agg #[.int .u16 0, .int .u16 0, .bool false, .slice none 0 0], .int .i64 5]) ∧ Below w.heap.size w w' := by
  have hlc := hr.len
  have hcc := hr.cap
  have hn16 : ts.length ≤ 65535 := by rw [← hn, take_two xs 4 (by omega), beN_two]; have := (xs[4]).toNat_lt; have := (xs[4+1]).toNat_lt; omega
  have hG := fun W (h : Rd bv W W.heap.size A c xs) => Lib.hid (get16_b A c xs 4 4 ts.length rfl W h (by omega) hn)
  have hG6 := fun W (h : Rd bv W W.heap.size A c xs) => Lib.hid (get16_b A c xs 6 6 t rfl W h (by omega) ht)
  have hz : ((t : Int) == 0) = false := by simp; omega
  have hh : ∀ W, Hid (Calls Try.prog 78 #[.int .u32 (s.toNat : Int), .int .u32 (d.toNat : Int), .int .u8 17, .int .i64 (ts.length : Int)] W fun e w' => ∃ L A c, e = .returned (.slice A L.length c) ∧ Hid (L = uh s d 17 ts.length) ∧ Rd bv w' w'.heap.size A c L ∧ Below W.heap.size W w') := fun W => uhead_any s d 17 ts.length hn16 W
  have hrt : Rd bv w w.heap.size A c ts := by rw [← hts]; exact hr.take _
  have HN := fun (_ : Unit) => Lib.hid hN
  have HT0 := fun (_ : Unit) => ht0
  have hlt : ((ts.length : Int) < 8) = False := by simp; omega
  clear hn ht ht0 hN hts
  go_enter Try.func59, Try.ntmps59
  go_wp2_with fail
  refine (hG _ (hr.nextA _)).out.mono ?_
  rintro e w1 ⟨rfl, hbel⟩
  have hZ := hbel
  have hB := bnext (bnextA (Below.refl w.heap.size w) _) hbel
  replace hr := (hr.nextA _).next hbel
  replace hrt := (hrt.nextA _).next hbel
  clear hbel hG
  go_wp2_with fail
  refine (hG6 _ hr).out.mono ?_
  rintro e w2 ⟨rfl, hbel⟩
  replace hZ := bnext hZ hbel
  replace hB := bnext hB hbel
  replace hr := hr.next hbel
  replace hrt := hrt.next hbel
  clear hbel hG6
  go_wp2_with fail
  refine region_put (by kernel_rfl) (by kernel_rfl) (by kernel_rfl) 77 rfl (by kernel_rfl) w2 (fun i v W => match i with
      | 0 => v = .int .u16 (t : Int)
      | 1 => v = .bool true
      | 2 => v = .bool true
      | 3 => v = .int .u32 (s.toNat : Int)
      | 4 => v = .int .u32 (d.toNat : Int)
      | 5 => v = .int .i64 (ts.length : Int)
      | 6 => ∃ L A c, v = .slice A L.length c ∧ Hid (L = uh s d 17 ts.length) ∧ Rd bv W W.heap.size A c L
      | 7 => v = .slice A xs.length c
      | 8 => v = .int .i64 (ts.length : Int)
      | 9 => ∃ L A c, v = .slice A L.length c ∧ Hid (L = ts) ∧ Rd bv W W.heap.size A c L
      | 10 => ∃ g ls, v = .slice (some ⟨g, 0, none⟩) 2 2 ∧ Hid (ls.flatten = uh s d 17 ts.length ++ ts) ∧ Hid (ls.length = 2) ∧ g < W.heap.size ∧ ∃ B, B ≤ W.heap.size ∧ Parts W B g ls
      | 11 => v = .bool false
      | 12 => v = .bool true
      | 13 => v = .bool true
      | _ => True) (Below.refl _ _) ?_ ?_ ?_
  · intro i v W W' h hb
    match i, h with
    | 0, h => exact h
    | 1, h => exact h
    | 2, h => exact h
    | 3, h => exact h
    | 4, h => exact h
    | 5, h => exact h
    | 6, h => obtain ⟨L, A, c, h1, h2, h3⟩ := h; exact ⟨L, A, c, h1, h2, h3.next hb⟩
    | 7, h => exact h
    | 8, h => exact h
    | 9, h => obtain ⟨L, A, c, h1, h2, h3⟩ := h; exact ⟨L, A, c, h1, h2, h3.next hb⟩
    | 10, h => obtain ⟨g, ls, h1, h2, h3, h4, B, h5, h6⟩ := h; exact ⟨g, ls, h1, h2, h3, Nat.lt_of_lt_of_le h4 hb.size, B, Nat.le_trans h5 hb.size, h6.next h4 h5 hb⟩
    | 11, h => exact h
    | 12, h => exact h
    | 13, h => exact h
    | _ + 14, _ => trivial
  · intro i o uu W ho hVW hd
    rcases i with _|_|_|_|_|_|_|_|_|_|_|_|_|_|i
    · obtain rfl := Option.some.inj ho
      refine .inl ⟨wanted_none rfl, ?_⟩
      generalize hev : Act.eval _ = ev
      have ec : ∀ c, ev (.const c) = c := fun c => by rw [← hev]; rfl
      have e11 : ev (.tmp 11) = .int .u16 (t : Int) := by rw [← hev]; exact eval_old (by kernel_rfl) 77 rfl (by decide) rfl
      clear hev hd
      exact .inl ⟨_, W, by go_simp, rfl, Below.refl _ _⟩
    · obtain rfl := Option.some.inj ho
      have q0 : uu 0 = .int .u16 (t : Int) := hd 0 (by kernel_rfl)
      refine .inl ⟨wanted_none rfl, ?_⟩
      generalize hev : Act.eval _ = ev
      have ec : ∀ c, ev (.const c) = c := fun c => by rw [← hev]; rfl
      have e38 : ev (.tmp 38) = .int .u16 (t : Int) := by rw [← hev]; exact (eval_put (by kernel_rfl) 77 rfl (by decide)).trans q0
      clear hev hd q0
      have ht0' := HT0 ()
      exact .inl ⟨_, W, by go_simp, rfl, Below.refl _ _⟩
    · obtain rfl := Option.some.inj ho
      have q1 : uu 1 = .bool true := hd 1 (by kernel_rfl)
      refine .inl ⟨wanted_none rfl, ?_⟩
      generalize hev : Act.eval _ = ev
      have ec : ∀ c, ev (.const c) = c := fun c => by rw [← hev]; rfl
      have e39 : ev (.tmp 39) = .bool true := by rw [← hev]; exact (eval_put (by kernel_rfl) 77 rfl (by decide)).trans q1
      clear hev hd q1
      exact .inl ⟨_, W, by go_simp, rfl, Below.refl _ _⟩
    · obtain rfl := Option.some.inj ho
      have q2 : uu 2 = .bool true := hd 2 (by kernel_rfl)
      refine .inl ⟨wanted_yes rfl (yielded_put (k := 40) (by kernel_rfl) (by kernel_rfl) 77 rfl (by decide) q2), ?_⟩
      generalize hev : Act.eval _ = ev
      have ec : ∀ c, ev (.const c) = c := fun c => by rw [← hev]; rfl
      have e0 : ev (.tmp 0) = .int .u32 (s.toNat : Int) := by rw [← hev]; exact eval_old (by kernel_rfl) 77 rfl (by decide) rfl
      clear hev hd q2
      exact .inl ⟨_, W, by go_simp, rfl, Below.refl _ _⟩
    · obtain rfl := Option.some.inj ho
      have q2 : uu 2 = .bool true := hd 2 (by kernel_rfl)
      refine .inl ⟨wanted_yes rfl (yielded_put (k := 40) (by kernel_rfl) (by kernel_rfl) 77 rfl (by decide) q2), ?_⟩
      generalize hev : Act.eval _ = ev
      have ec : ∀ c, ev (.const c) = c := fun c => by rw [← hev]; rfl
      have e1 : ev (.tmp 1) = .int .u32 (d.toNat : Int) := by rw [← hev]; exact eval_old (by kernel_rfl) 77 rfl (by decide) rfl
      clear hev hd q2
      exact .inl ⟨_, W, by go_simp, rfl, Below.refl _ _⟩
    · obtain rfl := Option.some.inj ho
      have q2 : uu 2 = .bool true := hd 2 (by kernel_rfl)
      refine .inl ⟨wanted_yes rfl (yielded_put (k := 40) (by kernel_rfl) (by kernel_rfl) 77 rfl (by decide) q2), ?_⟩
      generalize hev : Act.eval _ = ev
      have ec : ∀ c, ev (.const c) = c := fun c => by rw [← hev]; rfl
      have e10 : ev (.tmp 10) = .int .i64 (ts.length : Int) := by rw [← hev]; exact eval_old (by kernel_rfl) 77 rfl (by decide) rfl
      clear hev hd q2
      exact .inl ⟨_, W, by go_simp, rfl, Below.refl _ _⟩
    · obtain rfl := Option.some.inj ho
      have q3 : uu 3 = .int .u32 (s.toNat : Int) := hd 3 (by kernel_rfl)
      have q4 : uu 4 = .int .u32 (d.toNat : Int) := hd 4 (by kernel_rfl)
      have q5 : uu 5 = .int .i64 (ts.length : Int) := hd 5 (by kernel_rfl)
      have q2 : uu 2 = .bool true := hd 2 (by kernel_rfl)
      refine .inl ⟨wanted_yes rfl (yielded_put (k := 40) (by kernel_rfl) (by kernel_rfl) 77 rfl (by decide) q2), ?_⟩
      generalize hev : Act.eval _ = ev
      have ec : ∀ c, ev (.const c) = c := fun c => by rw [← hev]; rfl
      have ef : ∀ f, ev (.func f) = .func (.func f) #[] #[] := fun f => by rw [← hev]; rfl
      have e41 : ev (.tmp 41) = .int .u32 (s.toNat : Int) := by rw [← hev]; exact (eval_put (by kernel_rfl) 77 rfl (by decide)).trans q3
      have e42 : ev (.tmp 42) = .int .u32 (d.toNat : Int) := by rw [← hev]; exact (eval_put (by kernel_rfl) 77 rfl (by decide)).trans q4
      have e43 : ev (.tmp 43) = .int .i64 (ts.length : Int) := by rw [← hev]; exact (eval_put (by kernel_rfl) 77 rfl (by decide)).trans q5
      clear hev hd q3 q4 q5 q2
      exact .inr ⟨_, _, _, by go_simp, (hh W).out, fun e w' he => by
        obtain ⟨L, A, c, rfl, HL, hr, hb⟩ := he
        exact ⟨_, rfl, ⟨L, A, c, rfl, HL, hr⟩, hb⟩⟩
    · obtain rfl := Option.some.inj ho
      have q2 : uu 2 = .bool true := hd 2 (by kernel_rfl)
      refine .inl ⟨wanted_yes rfl (yielded_put (k := 40) (by kernel_rfl) (by kernel_rfl) 77 rfl (by decide) q2), ?_⟩
      generalize hev : Act.eval _ = ev
      have ec : ∀ c, ev (.const c) = c := fun c => by rw [← hev]; rfl
      have e2 : ev (.tmp 2) = .slice A xs.length c := by rw [← hev]; exact eval_old (by kernel_rfl) 77 rfl (by decide) rfl
      clear hev hd q2
      exact .inl ⟨_, W, by go_simp, rfl, Below.refl _ _⟩
    · obtain rfl := Option.some.inj ho
      have q2 : uu 2 = .bool true := hd 2 (by kernel_rfl)
      refine .inl ⟨wanted_yes rfl (yielded_put (k := 40) (by kernel_rfl) (by kernel_rfl) 77 rfl (by decide) q2), ?_⟩
      generalize hev : Act.eval _ = ev
      have ec : ∀ c, ev (.const c) = c := fun c => by rw [← hev]; rfl
      have e10 : ev (.tmp 10) = .int .i64 (ts.length : Int) := by rw [← hev]; exact eval_old (by kernel_rfl) 77 rfl (by decide) rfl
      clear hev hd q2
      exact .inl ⟨_, W, by go_simp, rfl, Below.refl _ _⟩
    · obtain rfl := Option.some.inj ho
      have q7 : uu 7 = .slice A xs.length c := hd 7 (by kernel_rfl)
      have q8 : uu 8 = .int .i64 (ts.length : Int) := hd 8 (by kernel_rfl)
      have q2 : uu 2 = .bool true := hd 2 (by kernel_rfl)
      refine .inl ⟨wanted_yes rfl (yielded_put (k := 40) (by kernel_rfl) (by kernel_rfl) 77 rfl (by decide) q2), ?_⟩
      generalize hev : Act.eval _ = ev
      have ec : ∀ c, ev (.const c) = c := fun c => by rw [← hev]; rfl
      have e45 : ev (.tmp 45) = .slice A xs.length c := by rw [← hev]; exact (eval_put (by kernel_rfl) 77 rfl (by decide)).trans q7
      have e46 : ev (.tmp 46) = .int .i64 (ts.length : Int) := by rw [← hev]; exact (eval_put (by kernel_rfl) 77 rfl (by decide)).trans q8
      clear hev hd q7 q8 q2
      have hcl : ts.length ≤ c := by omega
      exact .inl ⟨_, W, by go_simp, ⟨ts, A, c, rfl, rfl, hrt.next hVW⟩, Below.refl _ _⟩
    · obtain rfl := Option.some.inj ho
      obtain ⟨L6, A6, c6, q6, HL6, r6⟩ := hd 6 (by kernel_rfl)
      obtain ⟨L9, A9, c9, q9, HL9, r9⟩ := hd 9 (by kernel_rfl)
      have q2 : uu 2 = .bool true := hd 2 (by kernel_rfl)
      refine .inl ⟨wanted_yes rfl (yielded_put (k := 40) (by kernel_rfl) (by kernel_rfl) 77 rfl (by decide) q2), ?_⟩
      generalize hev : Act.eval _ = ev
      have ec : ∀ c, ev (.const c) = c := fun c => by rw [← hev]; rfl
      have e44 : ev (.tmp 44) = .slice A6 L6.length c6 := by rw [← hev]; exact (eval_put (by kernel_rfl) 77 rfl (by decide)).trans q6
      have e47 : ev (.tmp 47) = .slice A9 L9.length c9 := by rw [← hev]; exact (eval_put (by kernel_rfl) 77 rfl (by decide)).trans q9
      clear hev hd q6 q9 q2
      exact .inl ⟨_, W.alloc (.cells #[.slice A6 L6.length c6, .slice A9 L9.length c9] 23), by go_simp, ⟨W.heap.size, [L6, L9], rfl, by rw [Hid, HL6.out, HL9.out]; simp, rfl, by simp, W.heap.size, by simp, parts_at _ rfl (.cons r6 (.cons r9 .nil)) _ rfl _⟩, bnextA (Below.refl _ _) _⟩
    · obtain rfl := Option.some.inj ho
      obtain ⟨g10, ls10, q10, HF10, HN10, hg10, B10, hB10, hP10⟩ := hd 10 (by kernel_rfl)
      have q2 : uu 2 = .bool true := hd 2 (by kernel_rfl)
      refine .inl ⟨wanted_yes rfl (yielded_put (k := 40) (by kernel_rfl) (by kernel_rfl) 77 rfl (by decide) q2), ?_⟩
      generalize hev : Act.eval _ = ev
      have ec : ∀ c, ev (.const c) = c := fun c => by rw [← hev]; rfl
      have ef : ∀ f, ev (.func f) = .func (.func f) #[] #[] := fun f => by rw [← hev]; rfl
      have e48 : ev (.tmp 48) = .slice (some ⟨g10, 0, none⟩) 2 2 := by rw [← hev]; exact (eval_put (by kernel_rfl) 77 rfl (by decide)).trans q10
      clear hev hd q10 q2
      exact .inr ⟨_, _, _, by go_simp, (sright_no W B10 g10 2 ls10 hP10 HN10.out (by omega) (by omega) (by rw [HF10.out]; simp [uh_len]; omega) (by rw [HF10.out]; exact (HN ()).out)), fun e w' he => ⟨_, he.1, rfl, he.2⟩⟩
    · obtain rfl := Option.some.inj ho
      have q11 : uu 11 = .bool false := hd 11 (by kernel_rfl)
      have q2 : uu 2 = .bool true := hd 2 (by kernel_rfl)
      refine .inl ⟨wanted_yes rfl (yielded_put (k := 40) (by kernel_rfl) (by kernel_rfl) 77 rfl (by decide) q2), ?_⟩
      generalize hev : Act.eval _ = ev
      have ec : ∀ c, ev (.const c) = c := fun c => by rw [← hev]; rfl
      have e49 : ev (.tmp 49) = .bool false := by rw [← hev]; exact (eval_put (by kernel_rfl) 77 rfl (by decide)).trans q11
      clear hev hd q11 q2
      exact .inl ⟨_, W, by go_simp, rfl, Below.refl _ _⟩
    · obtain rfl := Option.some.inj ho
      have q2 : uu 2 = .bool true := hd 2 (by kernel_rfl)
      have q12 : uu 12 = .bool true := hd 12 (by kernel_rfl)
      refine .inl ⟨wanted_none rfl, ?_⟩
      generalize hev : Act.eval _ = ev
      have ec : ∀ c, ev (.const c) = c := fun c => by rw [← hev]; rfl
      have e40 : ev (.tmp 40) = .bool true := by rw [← hev]; exact (eval_put (by kernel_rfl) 77 rfl (by decide)).trans q2
      have e50 : ev (.tmp 50) = .bool true := by rw [← hev]; exact (eval_put (by kernel_rfl) 77 rfl (by decide)).trans q12
      clear hev hd q2 q12
      exact .inl ⟨_, W, by go_simp, rfl, Below.refl _ _⟩
    · simp at ho
  · intro uu W hVW hall
    have q13 : uu 13 = .bool true := hall 13 (by decide)
    replace hZ := bnext hZ hVW
    obtain ⟨p0, p1, p2, p3, f0, f1, f2, f3⟩ := blk4 rfl hZ
    replace hB := bnext hB hVW
    clear hall hZ
    simp only [putAll, Act.put, Nat.reduceAdd, q13]
    simp only [List.setIfInBounds_toArray, List.set_cons_succ, List.set_cons_zero]
    clear hh HN HT0
    go_wp2_with fail
    simp [bodyPost, results, Try.results59, go_sem, *]
    exact bset4 hB (Nat.le_refl _) _ _ _ _
set_option maxHeartbeats 2000000 in
theorem uparse_bare (s d : UInt32) (A : Option Addr) (c : Nat) (xs ts : List UInt8) (w : World) (hr : Rd bv w w.heap.size A c xs) (h8 : 8 ≤ xs.length) (hl : xs.length ≤ 1000000) (hn : beN ((xs.drop 4).take 2) = ts.length) (hn8 : 8 ≤ ts.length) (hnl : ts.length ≤ xs.length) (hts : xs.take ts.length = ts) (t : Nat) (ht : beN ((xs.drop 6).take 2) = t) (ht0 : t = 0) (a b : Nat) (ha : beN ((xs.drop 0).take 2) = a) (hb : beN ((xs.drop 2).take 2) = b) :
    Calls Try.prog 59 #[.int .u32 (s.toNat : Int), .int .u32 (d.toNat : Int), .slice A xs.length c] w fun e w' => ∃ L A1 c1, e = .returned (.tuple #[.agg #[.int .u16 (a : Int), .int .u16 (b : Int), .bool true, .slice A1 L.length c1], .int .i64 0]) ∧ Hid (L = (xs.drop 8).take (ts.length - 8)) ∧ Rd bv w' w'.heap.size A1 c1 L ∧ Below w.heap.size w w' := by
  subst ht0
  have hlc := hr.len
  have hcc := hr.cap
  have hn16 : ts.length ≤ 65535 := by rw [← hn, take_two xs 4 (by omega), beN_two]; have := (xs[4]).toNat_lt; have := (xs[4+1]).toNat_lt; omega
  have hG := fun W (h : Rd bv W W.heap.size A c xs) => Lib.hid (get16_b A c xs 4 4 ts.length rfl W h (by omega) hn)
  have hG6 := fun W (h : Rd bv W W.heap.size A c xs) => Lib.hid (get16_b A c xs 6 6 0 rfl W h (by omega) ht)
  have hh : ∀ W, Hid (Calls Try.prog 78 #[.int .u32 (s.toNat : Int), .int .u32 (d.toNat : Int), .int .u8 17, .int .i64 (ts.length : Int)] W fun e w' => ∃ L A c, e = .returned (.slice A L.length c) ∧ Hid (L = uh s d 17 ts.length) ∧ Rd bv w' w'.heap.size A c L ∧ Below W.heap.size W w') := fun W => uhead_any s d 17 ts.length hn16 W
  have hG0 := fun W (h : Rd bv W W.heap.size A c xs) => Lib.hid (get16_b A c xs 0 0 a rfl W h (by omega) ha)
  have hG2 := fun W (h : Rd bv W W.heap.size A c xs) => Lib.hid (get16_b A c xs 2 2 b rfl W h (by omega) hb)
  have hcut := fun W (h : Rd bv W W.heap.size A c xs) => cut_yes A c xs 8 (ts.length - 8) W h (by omega) hl
  rw [show ((ts.length - 8 : Nat) : Int) = (ts.length : Int) - 8 by omega] at hcut
  have hCUT := fun W h => Lib.hid (hcut W h)
  have hrt : Rd bv w w.heap.size A c ts := by rw [← hts]; exact hr.take _
  have hlt : ((ts.length : Int) < 8) = False := by simp; omega
  clear hcut hn ht hts ha hb
  go_enter Try.func59, Try.ntmps59
  go_wp2_with fail
  refine (hG _ (hr.nextA _)).out.mono ?_
  rintro e w1 ⟨rfl, hbel⟩
  have hZ := hbel
  have hB := bnext (bnextA (Below.refl w.heap.size w) _) hbel
  replace hr := (hr.nextA _).next hbel
  replace hrt := (hrt.nextA _).next hbel
  clear hbel hG
  go_wp2_with fail
  refine (hG6 _ hr).out.mono ?_
  rintro e w2 ⟨rfl, hbel⟩
  replace hZ := bnext hZ hbel
  replace hB := bnext hB hbel
  replace hr := hr.next hbel
  replace hrt := hrt.next hbel
  clear hbel hG6
  go_wp2_with fail
  refine region_put (by kernel_rfl) (by kernel_rfl) (by kernel_rfl) 77 rfl (by kernel_rfl) w2 (fun i v W => match i with
      | 0 => v = .int .u16 0
      | 1 => v = .bool false
      | 2 => v = .bool false
      | 3 => v = undef
      | 4 => v = undef
      | 5 => v = undef
      | 6 => v = undef
      | 7 => v = undef
      | 8 => v = undef
      | 9 => v = undef
      | 10 => v = undef
      | 11 => v = undef
      | 12 => v = undef
      | 13 => v = .bool false
      | _ => True) (Below.refl _ _) ?_ ?_ ?_
  · intro i v W W' h hb
    match i, h with
    | 0, h => exact h
    | 1, h => exact h
    | 2, h => exact h
    | 3, h => exact h
    | 4, h => exact h
    | 5, h => exact h
    | 6, h => exact h
    | 7, h => exact h
    | 8, h => exact h
    | 9, h => exact h
    | 10, h => exact h
    | 11, h => exact h
    | 12, h => exact h
    | 13, h => exact h
    | _ + 14, _ => trivial
  · intro i o uu W ho hVW hd
    rcases i with _|_|_|_|_|_|_|_|_|_|_|_|_|_|i
    · obtain rfl := Option.some.inj ho
      refine .inl ⟨wanted_none rfl, ?_⟩
      generalize hev : Act.eval _ = ev
      have ec : ∀ c, ev (.const c) = c := fun c => by rw [← hev]; rfl
      have e11 : ev (.tmp 11) = .int .u16 0 := by rw [← hev]; exact eval_old (by kernel_rfl) 77 rfl (by decide) rfl
      clear hev hd
      exact .inl ⟨_, W, by go_simp, rfl, Below.refl _ _⟩
    · obtain rfl := Option.some.inj ho
      have q0 : uu 0 = .int .u16 0 := hd 0 (by kernel_rfl)
      refine .inl ⟨wanted_none rfl, ?_⟩
      generalize hev : Act.eval _ = ev
      have ec : ∀ c, ev (.const c) = c := fun c => by rw [← hev]; rfl
      have e38 : ev (.tmp 38) = .int .u16 0 := by rw [← hev]; exact (eval_put (by kernel_rfl) 77 rfl (by decide)).trans q0
      clear hev hd q0
      exact .inl ⟨_, W, by go_simp, rfl, Below.refl _ _⟩
    · obtain rfl := Option.some.inj ho
      have q1 : uu 1 = .bool false := hd 1 (by kernel_rfl)
      refine .inl ⟨wanted_none rfl, ?_⟩
      generalize hev : Act.eval _ = ev
      have ec : ∀ c, ev (.const c) = c := fun c => by rw [← hev]; rfl
      have e39 : ev (.tmp 39) = .bool false := by rw [← hev]; exact (eval_put (by kernel_rfl) 77 rfl (by decide)).trans q1
      clear hev hd q1
      exact .inl ⟨_, W, by go_simp, rfl, Below.refl _ _⟩
    · obtain rfl := Option.some.inj ho
      have q2 : uu 2 = .bool false := hd 2 (by kernel_rfl)
      exact .inr ⟨wanted_no rfl (yielded_put (k := 40) (by kernel_rfl) (by kernel_rfl) 77 rfl (by decide) q2), rfl⟩
    · obtain rfl := Option.some.inj ho
      have q2 : uu 2 = .bool false := hd 2 (by kernel_rfl)
      exact .inr ⟨wanted_no rfl (yielded_put (k := 40) (by kernel_rfl) (by kernel_rfl) 77 rfl (by decide) q2), rfl⟩
    · obtain rfl := Option.some.inj ho
      have q2 : uu 2 = .bool false := hd 2 (by kernel_rfl)
      exact .inr ⟨wanted_no rfl (yielded_put (k := 40) (by kernel_rfl) (by kernel_rfl) 77 rfl (by decide) q2), rfl⟩
    · obtain rfl := Option.some.inj ho
      have q2 : uu 2 = .bool false := hd 2 (by kernel_rfl)
      exact .inr ⟨wanted_no rfl (yielded_put (k := 40) (by kernel_rfl) (by kernel_rfl) 77 rfl (by decide) q2), rfl⟩
    · obtain rfl := Option.some.inj ho
      have q2 : uu 2 = .bool false := hd 2 (by kernel_rfl)
      exact .inr ⟨wanted_no rfl (yielded_put (k := 40) (by kernel_rfl) (by kernel_rfl) 77 rfl (by decide) q2), rfl⟩
    · obtain rfl := Option.some.inj ho
      have q2 : uu 2 = .bool false := hd 2 (by kernel_rfl)
      exact .inr ⟨wanted_no rfl (yielded_put (k := 40) (by kernel_rfl) (by kernel_rfl) 77 rfl (by decide) q2), rfl⟩
    · obtain rfl := Option.some.inj ho
      have q2 : uu 2 = .bool false := hd 2 (by kernel_rfl)
      exact .inr ⟨wanted_no rfl (yielded_put (k := 40) (by kernel_rfl) (by kernel_rfl) 77 rfl (by decide) q2), rfl⟩
    · obtain rfl := Option.some.inj ho
      have q2 : uu 2 = .bool false := hd 2 (by kernel_rfl)
      exact .inr ⟨wanted_no rfl (yielded_put (k := 40) (by kernel_rfl) (by kernel_rfl) 77 rfl (by decide) q2), rfl⟩
    · obtain rfl := Option.some.inj ho
      have q2 : uu 2 = .bool false := hd 2 (by kernel_rfl)
      exact .inr ⟨wanted_no rfl (yielded_put (k := 40) (by kernel_rfl) (by kernel_rfl) 77 rfl (by decide) q2), rfl⟩
    · obtain rfl := Option.some.inj ho
      have q2 : uu 2 = .bool false := hd 2 (by kernel_rfl)
      exact .inr ⟨wanted_no rfl (yielded_put (k := 40) (by kernel_rfl) (by kernel_rfl) 77 rfl (by decide) q2), rfl⟩
    · obtain rfl := Option.some.inj ho
      have q2 : uu 2 = .bool false := hd 2 (by kernel_rfl)
      refine .inl ⟨wanted_none rfl, ?_⟩
      generalize hev : Act.eval _ = ev
      have ec : ∀ c, ev (.const c) = c := fun c => by rw [← hev]; rfl
      have e40 : ev (.tmp 40) = .bool false := by rw [← hev]; exact (eval_put (by kernel_rfl) 77 rfl (by decide)).trans q2
      clear hev hd q2
      exact .inl ⟨_, W, by go_simp, rfl, Below.refl _ _⟩
    · simp at ho
  · intro uu W hVW hall
    have q13 : uu 13 = .bool false := hall 13 (by decide)
    replace hZ := bnext hZ hVW
    replace hB := bnext hB hVW
    replace hr := hr.next hVW
    clear hall hrt
    simp only [putAll, Act.put, Nat.reduceAdd, q13]
    simp only [List.setIfInBounds_toArray, List.set_cons_succ, List.set_cons_zero]
    clear hh
    have hlt : w.heap.size < W.heap.size := by have := hZ.size; simp at this; omega
    go_wp2_with fail
    have hWU := bnextA (Below.refl W.heap.size W) (.cells #[.int .u16 0, .int .u16 0, .bool true, .slice none 0 0] 53)
    have hK := Blk.new W #[.int .u16 0, .int .u16 0, .bool true, .slice none 0 0] 53
    refine (hG0 _ (hr.next hWU)).out.mono ?_
    rintro e w3 ⟨rfl, hbel⟩
    replace hWU := bnext hWU hbel
    replace hK := hK.next hbel
    clear hbel hG0
    obtain ⟨k0, k1, k2, k3, g0, g1, g2, g3⟩ := hK.get4
    go_wp2_with fail
    replace hWU := hWU.setCell (p := ⟨W.heap.size, 0, none⟩) (Nat.le_refl _) (.int .u16 (a : Int))
    replace hK := hK.set 0 (.int .u16 (a : Int))
    clear k0 k1 k2 k3 g0 g1 g2 g3
    refine (hG2 _ (hr.next hWU)).out.mono ?_
    rintro e w4 ⟨rfl, hbel⟩
    replace hWU := bnext hWU hbel
    replace hK := hK.next hbel
    clear hbel hG2
    obtain ⟨k0, k1, k2, k3, g0, g1, g2, g3⟩ := hK.get4
    go_wp2_with fail
    replace hWU := hWU.setCell (p := ⟨W.heap.size, 1, none⟩) (Nat.le_refl _) (.int .u16 (b : Int))
    replace hK := hK.set 1 (.int .u16 (b : Int))
    clear k0 k1 k2 k3 g0 g1 g2 g3
    refine (hCUT _ (hr.next hWU)).out.mono ?_
    rintro e w5 ⟨v5, rfl, hown, hbel⟩
    obtain ⟨L5, A5, c5, HL5, rfl, -⟩ := hown.rdv
    have hbase := hK.lt
    replace hWU := bnext hWU hbel
    replace hK := hK.next hbel
    replace hZ := bnext hZ hWU
    have hO := Lib.hid hown
    have hlt5 : W.heap.size < w5.heap.size := Nat.lt_of_lt_of_le hbase hbel.size
    clear hbel hown hCUT
    obtain ⟨k0, k1, k2, k3, g0, g1, g2, g3⟩ := hK.get4
    obtain ⟨p0, p1, p2, p3, f0, f1, f2, f3⟩ := blk4 rfl hZ
    have hne1 : ¬ w.heap.size = W.heap.size := by omega
    have hne2 : ¬ W.heap.size = w.heap.size := by omega
    replace hB := hB.trans (hWU.mono (Nat.le_of_lt hlt))
    clear hK hZ hWU hr
    go_wp2_with fail
    simp [bodyPost, results, Try.results59, go_sem, *]
    rw [← HL5.out] at hO
    have hO4 := (hO.out.setBelow (p := ⟨W.heap.size, 3, none⟩) hbase (.slice A5 L5.length c5)).set4 (g := w.heap.size) (Nat.lt_trans hlt hbase) (.int .u16 (a : Int)) (.int .u16 (b : Int)) (.bool true) (.slice A5 L5.length c5)
    exact ⟨L5, A5, c5, ⟨rfl, rfl, rfl⟩, HL5, by simpa using hO4.rdS, bset4 (hB.setCell (p := ⟨W.heap.size, 3, none⟩) (Nat.le_of_lt hlt) _) (Nat.le_refl _) _ _ _ _⟩
set_option maxHeartbeats 2000000 in
theorem uparse_full (s d : UInt32) (A : Option Addr) (c : Nat) (xs ts : List UInt8) (w : World) (hr : Rd bv w w.heap.size A c xs) (h8 : 8 ≤ xs.length) (hl : xs.length ≤ 1000000) (hn : beN ((xs.drop 4).take 2) = ts.length) (hn8 : 8 ≤ ts.length) (hnl : ts.length ≤ xs.length) (hts : xs.take ts.length = ts) (t : Nat) (ht : beN ((xs.drop 6).take 2) = t) (ht0 : t ≠ 0)
    (hN : onesN (uh s d 17 ts.length ++ ts) = 65535) (a b : Nat) (ha : beN ((xs.drop 0).take 2) = a) (hb : beN ((xs.drop 2).take 2) = b) :
    Calls Try.prog 59 #[.int .u32 (s.toNat : Int), .int .u32 (d.toNat : Int), .slice A xs.length c] w fun e w' => ∃ L A1 c1, e = .returned (.tuple #[.agg #[.int .u16 (a : Int), .int .u16 (b : Int), .bool false, .slice A1 L.length c1], .int .i64 0]) ∧ Hid (L = (xs.drop 8).take (ts.length - 8)) ∧ Rd bv w' w'.heap.size A1 c1 L ∧ Below w.heap.size w w' := by
  have hlc := hr.len
  have hcc := hr.cap
  have hn16 : ts.length ≤ 65535 := by rw [← hn, take_two xs 4 (by omega), beN_two]; have := (xs[4]).toNat_lt; have := (xs[4+1]).toNat_lt; omega
  have hG := fun W (h : Rd bv W W.heap.size A c xs) => Lib.hid (get16_b A c xs 4 4 ts.length rfl W h (by omega) hn)
  have hG6 := fun W (h : Rd bv W W.heap.size A c xs) => Lib.hid (get16_b A c xs 6 6 t rfl W h (by omega) ht)
  have hz : ((t : Int) == 0) = false := by simp; omega
  have hh : ∀ W, Hid (Calls Try.prog 78 #[.int .u32 (s.toNat : Int), .int .u32 (d.toNat : Int), .int .u8 17, .int .i64 (ts.length : Int)] W fun e w' => ∃ L A c, e = .returned (.slice A L.length c) ∧ Hid (L = uh s d 17 ts.length) ∧ Rd bv w' w'.heap.size A c L ∧ Below W.heap.size W w') := fun W => uhead_any s d 17 ts.length hn16 W
  have hG0 := fun W (h : Rd bv W W.heap.size A c xs) => Lib.hid (get16_b A c xs 0 0 a rfl W h (by omega) ha)
  have hG2 := fun W (h : Rd bv W W.heap.size A c xs) => Lib.hid (get16_b A c xs 2 2 b rfl W h (by omega) hb)
  have hcut := fun W (h : Rd bv W W.heap.size A c xs) => cut_yes A c xs 8 (ts.length - 8) W h (by omega) hl
  rw [show ((ts.length - 8 : Nat) : Int) = (ts.length : Int) - 8 by omega] at hcut
  have hCUT := fun W h => Lib.hid (hcut W h)
  have hrt : Rd bv w w.heap.size A c ts := by rw [← hts]; exact hr.take _
  have HN := fun (_ : Unit) => Lib.hid hN
  have HT0 := fun (_ : Unit) => ht0
  have hlt : ((ts.length : Int) < 8) = False := by simp; omega
  clear hcut hn ht ht0 hN hts ha hb
  go_enter Try.func59, Try.ntmps59
  go_wp2_with fail
  refine (hG _ (hr.nextA _)).out.mono ?_
  rintro e w1 ⟨rfl, hbel⟩
  have hZ := hbel
  have hB := bnext (bnextA (Below.refl w.heap.size w) _) hbel
  replace hr := (hr.nextA _).next hbel
  replace hrt := (hrt.nextA _).next hbel
  clear hbel hG
  go_wp2_with fail
  refine (hG6 _ hr).out.mono ?_
  rintro e w2 ⟨rfl, hbel⟩
  replace hZ := bnext hZ hbel
  replace hB := bnext hB hbel
  replace hr := hr.next hbel
  replace hrt := hrt.next hbel
  clear hbel hG6
  go_wp2_with fail
  refine region_put (by kernel_rfl) (by kernel_rfl) (by kernel_rfl) 77 rfl (by kernel_rfl) w2 (fun i v W => match i with
      | 0 => v = .int .u16 (t : Int)
      | 1 => v = .bool true
      | 2 => v = .bool true
      | 3 => v = .int .u32 (s.toNat : Int)
      | 4 => v = .int .u32 (d.toNat : Int)
      | 5 => v = .int .i64 (ts.length : Int)
      | 6 => ∃ L A c, v = .slice A L.length c ∧ Hid (L = uh s d 17 ts.length) ∧ Rd bv W W.heap.size A c L
      | 7 => v = .slice A xs.length c
      | 8 => v = .int .i64 (ts.length : Int)
      | 9 => ∃ L A c, v = .slice A L.length c ∧ Hid (L = ts) ∧ Rd bv W W.heap.size A c L
      | 10 => ∃ g ls, v = .slice (some ⟨g, 0, none⟩) 2 2 ∧ Hid (ls.flatten = uh s d 17 ts.length ++ ts) ∧ Hid (ls.length = 2) ∧ g < W.heap.size ∧ ∃ B, B ≤ W.heap.size ∧ Parts W B g ls
      | 11 => v = .bool true
      | 12 => v = .bool false
      | 13 => v = .bool false
      | _ => True) (Below.refl _ _) ?_ ?_ ?_
  · intro i v W W' h hb
    match i, h with
    | 0, h => exact h
    | 1, h => exact h
    | 2, h => exact h
    | 3, h => exact h
    | 4, h => exact h
    | 5, h => exact h
    | 6, h => obtain ⟨L, A, c, h1, h2, h3⟩ := h; exact ⟨L, A, c, h1, h2, h3.next hb⟩
    | 7, h => exact h
    | 8, h => exact h
    | 9, h => obtain ⟨L, A, c, h1, h2, h3⟩ := h; exact ⟨L, A, c, h1, h2, h3.next hb⟩
    | 10, h => obtain ⟨g, ls, h1, h2, h3, h4, B, h5, h6⟩ := h; exact ⟨g, ls, h1, h2, h3, Nat.lt_of_lt_of_le h4 hb.size, B, Nat.le_trans h5 hb.size, h6.next h4 h5 hb⟩
    | 11, h => exact h
    | 12, h => exact h
    | 13, h => exact h
    | _ + 14, _ => trivial
  · intro i o uu W ho hVW hd
    rcases i with _|_|_|_|_|_|_|_|_|_|_|_|_|_|i
    · obtain rfl := Option.some.inj ho
      refine .inl ⟨wanted_none rfl, ?_⟩
      generalize hev : Act.eval _ = ev
      have ec : ∀ c, ev (.const c) = c := fun c => by rw [← hev]; rfl
      have e11 : ev (.tmp 11) = .int .u16 (t : Int) := by rw [← hev]; exact eval_old (by kernel_rfl) 77 rfl (by decide) rfl
      clear hev hd
      exact .inl ⟨_, W, by go_simp, rfl, Below.refl _ _⟩
    · obtain rfl := Option.some.inj ho
      have q0 : uu 0 = .int .u16 (t : Int) := hd 0 (by kernel_rfl)
      refine .inl ⟨wanted_none rfl, ?_⟩
      generalize hev : Act.eval _ = ev
      have ec : ∀ c, ev (.const c) = c := fun c => by rw [← hev]; rfl
      have e38 : ev (.tmp 38) = .int .u16 (t : Int) := by rw [← hev]; exact (eval_put (by kernel_rfl) 77 rfl (by decide)).trans q0
      clear hev hd q0
      have ht0' := HT0 ()
      exact .inl ⟨_, W, by go_simp, rfl, Below.refl _ _⟩
    · obtain rfl := Option.some.inj ho
      have q1 : uu 1 = .bool true := hd 1 (by kernel_rfl)
      refine .inl ⟨wanted_none rfl, ?_⟩
      generalize hev : Act.eval _ = ev
      have ec : ∀ c, ev (.const c) = c := fun c => by rw [← hev]; rfl
      have e39 : ev (.tmp 39) = .bool true := by rw [← hev]; exact (eval_put (by kernel_rfl) 77 rfl (by decide)).trans q1
      clear hev hd q1
      exact .inl ⟨_, W, by go_simp, rfl, Below.refl _ _⟩
    · obtain rfl := Option.some.inj ho
      have q2 : uu 2 = .bool true := hd 2 (by kernel_rfl)
      refine .inl ⟨wanted_yes rfl (yielded_put (k := 40) (by kernel_rfl) (by kernel_rfl) 77 rfl (by decide) q2), ?_⟩
      generalize hev : Act.eval _ = ev
      have ec : ∀ c, ev (.const c) = c := fun c => by rw [← hev]; rfl
      have e0 : ev (.tmp 0) = .int .u32 (s.toNat : Int) := by rw [← hev]; exact eval_old (by kernel_rfl) 77 rfl (by decide) rfl
      clear hev hd q2
      exact .inl ⟨_, W, by go_simp, rfl, Below.refl _ _⟩
    · obtain rfl := Option.some.inj ho
      have q2 : uu 2 = .bool true := hd 2 (by kernel_rfl)
      refine .inl ⟨wanted_yes rfl (yielded_put (k := 40) (by kernel_rfl) (by kernel_rfl) 77 rfl (by decide) q2), ?_⟩
      generalize hev : Act.eval _ = ev
      have ec : ∀ c, ev (.const c) = c := fun c => by rw [← hev]; rfl
      have e1 : ev (.tmp 1) = .int .u32 (d.toNat : Int) := by rw [← hev]; exact eval_old (by kernel_rfl) 77 rfl (by decide) rfl
      clear hev hd q2
      exact .inl ⟨_, W, by go_simp, rfl, Below.refl _ _⟩
    · obtain rfl := Option.some.inj ho
      have q2 : uu 2 = .bool true := hd 2 (by kernel_rfl)
      refine .inl ⟨wanted_yes rfl (yielded_put (k := 40) (by kernel_rfl) (by kernel_rfl) 77 rfl (by decide) q2), ?_⟩
      generalize hev : Act.eval _ = ev
      have ec : ∀ c, ev (.const c) = c := fun c => by rw [← hev]; rfl
      have e10 : ev (.tmp 10) = .int .i64 (ts.length : Int) := by rw [← hev]; exact eval_old (by kernel_rfl) 77 rfl (by decide) rfl
      clear hev hd q2
      exact .inl ⟨_, W, by go_simp, rfl, Below.refl _ _⟩
    · obtain rfl := Option.some.inj ho
      have q3 : uu 3 = .int .u32 (s.toNat : Int) := hd 3 (by kernel_rfl)
      have q4 : uu 4 = .int .u32 (d.toNat : Int) := hd 4 (by kernel_rfl)
      have q5 : uu 5 = .int .i64 (ts.length : Int) := hd 5 (by kernel_rfl)
      have q2 : uu 2 = .bool true := hd 2 (by kernel_rfl)
      refine .inl ⟨wanted_yes rfl (yielded_put (k := 40) (by kernel_rfl) (by kernel_rfl) 77 rfl (by decide) q2), ?_⟩
      generalize hev : Act.eval _ = ev
      have ec : ∀ c, ev (.const c) = c := fun c => by rw [← hev]; rfl
      have ef : ∀ f, ev (.func f) = .func (.func f) #[] #[] := fun f => by rw [← hev]; rfl
      have e41 : ev (.tmp 41) = .int .u32 (s.toNat : Int) := by rw [← hev]; exact (eval_put (by kernel_rfl) 77 rfl (by decide)).trans q3
      have e42 : ev (.tmp 42) = .int .u32 (d.toNat : Int) := by rw [← hev]; exact (eval_put (by kernel_rfl) 77 rfl (by decide)).trans q4
      have e43 : ev (.tmp 43) = .int .i64 (ts.length : Int) := by rw [← hev]; exact (eval_put (by kernel_rfl) 77 rfl (by decide)).trans q5
      clear hev hd q3 q4 q5 q2
      exact .inr ⟨_, _, _, by go_simp, (hh W).out, fun e w' he => by
        obtain ⟨L, A, c, rfl, HL, hr, hb⟩ := he
        exact ⟨_, rfl, ⟨L, A, c, rfl, HL, hr⟩, hb⟩⟩
    · obtain rfl := Option.some.inj ho
      have q2 : uu 2 = .bool true := hd 2 (by kernel_rfl)
      refine .inl ⟨wanted_yes rfl (yielded_put (k := 40) (by kernel_rfl) (by kernel_rfl) 77 rfl (by decide) q2), ?_⟩
      generalize hev : Act.eval _ = ev
      have ec : ∀ c, ev (.const c) = c := fun c => by rw [← hev]; rfl
      have e2 : ev (.tmp 2) = .slice A xs.length c := by rw [← hev]; exact eval_old (by kernel_rfl) 77 rfl (by decide) rfl
      clear hev hd q2
      exact .inl ⟨_, W, by go_simp, rfl, Below.refl _ _⟩
    · obtain rfl := Option.some.inj ho
      have q2 : uu 2 = .bool true := hd 2 (by kernel_rfl)
      refine .inl ⟨wanted_yes rfl (yielded_put (k := 40) (by kernel_rfl) (by kernel_rfl) 77 rfl (by decide) q2), ?_⟩
      generalize hev : Act.eval _ = ev
      have ec : ∀ c, ev (.const c) = c := fun c => by rw [← hev]; rfl
      have e10 : ev (.tmp 10) = .int .i64 (ts.length : Int) := by rw [← hev]; exact eval_old (by kernel_rfl) 77 rfl (by decide) rfl
      clear hev hd q2
      exact .inl ⟨_, W, by go_simp, rfl, Below.refl _ _⟩
    · obtain rfl := Option.some.inj ho
      have q7 : uu 7 = .slice A xs.length c := hd 7 (by kernel_rfl)
      have q8 : uu 8 = .int .i64 (ts.length : Int) := hd 8 (by kernel_rfl)
      have q2 : uu 2 = .bool true := hd 2 (by kernel_rfl)
      refine .inl ⟨wanted_yes rfl (yielded_put (k := 40) (by kernel_rfl) (by kernel_rfl) 77 rfl (by decide) q2), ?_⟩
      generalize hev : Act.eval _ = ev
      have ec : ∀ c, ev (.const c) = c := fun c => by rw [← hev]; rfl
      have e45 : ev (.tmp 45) = .slice A xs.length c := by rw [← hev]; exact (eval_put (by kernel_rfl) 77 rfl (by decide)).trans q7
      have e46 : ev (.tmp 46) = .int .i64 (ts.length : Int) := by rw [← hev]; exact (eval_put (by kernel_rfl) 77 rfl (by decide)).trans q8
      clear hev hd q7 q8 q2
      have hcl : ts.length ≤ c := by omega
      exact .inl ⟨_, W, by go_simp, ⟨ts, A, c, rfl, rfl, hrt.next hVW⟩, Below.refl _ _⟩
    · obtain rfl := Option.some.inj ho
      obtain ⟨L6, A6, c6, q6, HL6, r6⟩ := hd 6 (by kernel_rfl)
      obtain ⟨L9, A9, c9, q9, HL9, r9⟩ := hd 9 (by kernel_rfl)
      have q2 : uu 2 = .bool true := hd 2 (by kernel_rfl)
      refine .inl ⟨wanted_yes rfl (yielded_put (k := 40) (by kernel_rfl) (by kernel_rfl) 77 rfl (by decide) q2), ?_⟩
      generalize hev : Act.eval _ = ev
      have ec : ∀ c, ev (.const c) = c := fun c => by rw [← hev]; rfl
      have e44 : ev (.tmp 44) = .slice A6 L6.length c6 := by rw [← hev]; exact (eval_put (by kernel_rfl) 77 rfl (by decide)).trans q6
      have e47 : ev (.tmp 47) = .slice A9 L9.length c9 := by rw [← hev]; exact (eval_put (by kernel_rfl) 77 rfl (by decide)).trans q9
      clear hev hd q6 q9 q2
      exact .inl ⟨_, W.alloc (.cells #[.slice A6 L6.length c6, .slice A9 L9.length c9] 23), by go_simp, ⟨W.heap.size, [L6, L9], rfl, by rw [Hid, HL6.out, HL9.out]; simp, rfl, by simp, W.heap.size, by simp, parts_at _ rfl (.cons r6 (.cons r9 .nil)) _ rfl _⟩, bnextA (Below.refl _ _) _⟩
    · obtain rfl := Option.some.inj ho
      obtain ⟨g10, ls10, q10, HF10, HN10, hg10, B10, hB10, hP10⟩ := hd 10 (by kernel_rfl)
      have q2 : uu 2 = .bool true := hd 2 (by kernel_rfl)
      refine .inl ⟨wanted_yes rfl (yielded_put (k := 40) (by kernel_rfl) (by kernel_rfl) 77 rfl (by decide) q2), ?_⟩
      generalize hev : Act.eval _ = ev
      have ec : ∀ c, ev (.const c) = c := fun c => by rw [← hev]; rfl
      have ef : ∀ f, ev (.func f) = .func (.func f) #[] #[] := fun f => by rw [← hev]; rfl
      have e48 : ev (.tmp 48) = .slice (some ⟨g10, 0, none⟩) 2 2 := by rw [← hev]; exact (eval_put (by kernel_rfl) 77 rfl (by decide)).trans q10
      clear hev hd q10 q2
      exact .inr ⟨_, _, _, by go_simp, (sright_yes W B10 g10 2 ls10 hP10 HN10.out (by omega) (by omega) (by rw [HF10.out]; simp [uh_len]; omega) (by rw [HF10.out]; exact (HN ()).out)), fun e w' he => ⟨_, he.1, rfl, he.2⟩⟩
    · obtain rfl := Option.some.inj ho
      have q11 : uu 11 = .bool true := hd 11 (by kernel_rfl)
      have q2 : uu 2 = .bool true := hd 2 (by kernel_rfl)
      refine .inl ⟨wanted_yes rfl (yielded_put (k := 40) (by kernel_rfl) (by kernel_rfl) 77 rfl (by decide) q2), ?_⟩
      generalize hev : Act.eval _ = ev
      have ec : ∀ c, ev (.const c) = c := fun c => by rw [← hev]; rfl
      have e49 : ev (.tmp 49) = .bool true := by rw [← hev]; exact (eval_put (by kernel_rfl) 77 rfl (by decide)).trans q11
      clear hev hd q11 q2
      exact .inl ⟨_, W, by go_simp, rfl, Below.refl _ _⟩
    · obtain rfl := Option.some.inj ho
      have q2 : uu 2 = .bool true := hd 2 (by kernel_rfl)
      have q12 : uu 12 = .bool false := hd 12 (by kernel_rfl)
      refine .inl ⟨wanted_none rfl, ?_⟩
      generalize hev : Act.eval _ = ev
      have ec : ∀ c, ev (.const c) = c := fun c => by rw [← hev]; rfl
      have e40 : ev (.tmp 40) = .bool true := by rw [← hev]; exact (eval_put (by kernel_rfl) 77 rfl (by decide)).trans q2
      have e50 : ev (.tmp 50) = .bool false := by rw [← hev]; exact (eval_put (by kernel_rfl) 77 rfl (by decide)).trans q12
      clear hev hd q2 q12
      exact .inl ⟨_, W, by go_simp, rfl, Below.refl _ _⟩
    · simp at ho
  · intro uu W hVW hall
    have q13 : uu 13 = .bool false := hall 13 (by decide)
    replace hZ := bnext hZ hVW
    replace hB := bnext hB hVW
    replace hr := hr.next hVW
    clear hall hrt
    simp only [putAll, Act.put, Nat.reduceAdd, q13]
    simp only [List.setIfInBounds_toArray, List.set_cons_succ, List.set_cons_zero]
    clear hh HN HT0
    have hlt : w.heap.size < W.heap.size := by have := hZ.size; simp at this; omega
    go_wp2_with fail
    have hWU := bnextA (Below.refl W.heap.size W) (.cells #[.int .u16 0, .int .u16 0, .bool false, .slice none 0 0] 53)
    have hK := Blk.new W #[.int .u16 0, .int .u16 0, .bool false, .slice none 0 0] 53
    refine (hG0 _ (hr.next hWU)).out.mono ?_
    rintro e w3 ⟨rfl, hbel⟩
    replace hWU := bnext hWU hbel
    replace hK := hK.next hbel
    clear hbel hG0
    obtain ⟨k0, k1, k2, k3, g0, g1, g2, g3⟩ := hK.get4
    go_wp2_with fail
    replace hWU := hWU.setCell (p := ⟨W.heap.size, 0, none⟩) (Nat.le_refl _) (.int .u16 (a : Int))
    replace hK := hK.set 0 (.int .u16 (a : Int))
    clear k0 k1 k2 k3 g0 g1 g2 g3
    refine (hG2 _ (hr.next hWU)).out.mono ?_
    rintro e w4 ⟨rfl, hbel⟩
    replace hWU := bnext hWU hbel
    replace hK := hK.next hbel
    clear hbel hG2
    obtain ⟨k0, k1, k2, k3, g0, g1, g2, g3⟩ := hK.get4
    go_wp2_with fail
    replace hWU := hWU.setCell (p := ⟨W.heap.size, 1, none⟩) (Nat.le_refl _) (.int .u16 (b : Int))
    replace hK := hK.set 1 (.int .u16 (b : Int))
    clear k0 k1 k2 k3 g0 g1 g2 g3
    refine (hCUT _ (hr.next hWU)).out.mono ?_
    rintro e w5 ⟨v5, rfl, hown, hbel⟩
    obtain ⟨L5, A5, c5, HL5, rfl, -⟩ := hown.rdv
    have hbase := hK.lt
    replace hWU := bnext hWU hbel
    replace hK := hK.next hbel
    replace hZ := bnext hZ hWU
    have hO := Lib.hid hown
    have hlt5 : W.heap.size < w5.heap.size := Nat.lt_of_lt_of_le hbase hbel.size
    clear hbel hown hCUT
    obtain ⟨k0, k1, k2, k3, g0, g1, g2, g3⟩ := hK.get4
    obtain ⟨p0, p1, p2, p3, f0, f1, f2, f3⟩ := blk4 rfl hZ
    have hne1 : ¬ w.heap.size = W.heap.size := by omega
    have hne2 : ¬ W.heap.size = w.heap.size := by omega
    replace hB := hB.trans (hWU.mono (Nat.le_of_lt hlt))
    clear hK hZ hWU hr
    go_wp2_with fail
    simp [bodyPost, results, Try.results59, go_sem, *]
    rw [← HL5.out] at hO
    have hO4 := (hO.out.setBelow (p := ⟨W.heap.size, 3, none⟩) hbase (.slice A5 L5.length c5)).set4 (g := w.heap.size) (Nat.lt_trans hlt hbase) (.int .u16 (a : Int)) (.int .u16 (b : Int)) (.bool false) (.slice A5 L5.length c5)
    exact ⟨L5, A5, c5, ⟨rfl, rfl, rfl⟩, HL5, by simpa using hO4.rdS, bset4 (hB.setCell (p := ⟨W.heap.size, 3, none⟩) (Nat.le_of_lt hlt) _) (Nat.le_refl _) _ _ _ _⟩
end Go.Proofs.Ytkoamiefombilaa
