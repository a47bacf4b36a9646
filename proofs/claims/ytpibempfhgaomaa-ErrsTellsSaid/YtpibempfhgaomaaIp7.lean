/- Contracts of the reference's head and Put of packets. -/
import Derived.Test.YtpibempfhgaomaaIp2
namespace Go.Proofs.Ytpibempfhgaomaa
open Go.RowKit

theorem ih_eq (h tos : UInt8) (al : Nat) (ha : al ≤ 65535) (id : UInt16) (wd : Nat) (hw : wd ≤ 65535) (ttl pr : UInt8) (x : Nat) (hx : x ≤ 65535) (s d : UInt32) (os : List UInt8) :
    [h, tos, UInt8.ofNat (al / 256), UInt8.ofNat (al % 256), UInt8.ofNat (id.toNat / 256), UInt8.ofNat (id.toNat % 256), UInt8.ofNat (wd / 256), UInt8.ofNat (wd % 256), ttl, pr, UInt8.ofNat (x / 256), UInt8.ofNat (x % 256)] ++ (be32 s ++ be32 d) ++ os = ih h tos al id wd ttl pr x s d os := by
  rw [ih, be16_ofNat al ha, be16_ofNat wd hw, be16_ofNat x hx]
  simp [be16]

set_option maxHeartbeats 4000000 in
set_option maxRecDepth 20000 in
theorem rphead_any (tos : UInt8) (id : UInt16) (D M : Bool) (fo : UInt16) (ttl pr : UInt8) (s d : UInt32) (A1 A2 : Option Addr) (c1 c2 : Nat) (os xs : List UInt8) (x : Nat) (hxx : x ≤ 65535) (w : World) (ho : Rd bv w w.heap.size A1 c1 os) (h1 : os.length ≤ 40) (h2 : os.length % 4 = 0) (h3 : fo.toNat ≤ 8191) (h4 : 20 + os.length + xs.length ≤ 65535) (h : UInt8) (hh : h.toNat = 69 + os.length / 4) :
    Calls Try.prog 16 #[.agg #[.int .u8 (tos.toNat : Int), .int .u16 (id.toNat : Int), .bool D, .bool M, .int .u16 (fo.toNat : Int), .int .u8 (ttl.toNat : Int), .int .u8 (pr.toNat : Int), .int .u32 (s.toNat : Int), .int .u32 (d.toNat : Int), .slice A1 os.length c1, .slice A2 xs.length c2], .int .i64 (x : Int)] w fun e w' => ∃ L A' c', e = .returned (.slice A' L.length c') ∧ Hid (L = ih h tos (20 + os.length + xs.length) id (wdN D M fo) ttl pr x s d os) ∧ Rd bv w' w'.heap.size A' c' L ∧ Below w.heap.size w w' := by
  obtain ⟨W1, hW1⟩ : ∃ W1, W1 = w.alloc (.cells #[.int .u8 (tos.toNat : Int), .int .u16 (id.toNat : Int), .bool D, .bool M, .int .u16 (fo.toNat : Int), .int .u8 (ttl.toNat : Int), .int .u8 (pr.toNat : Int), .int .u32 (s.toNat : Int), .int .u32 (d.toNat : Int), .slice A1 os.length c1, .slice A2 xs.length c2] 36) := ⟨_, rfl⟩
  have hB1 : Below w.heap.size w W1 := by subst hW1; exact bnextA (Below.refl _ _) _
  have hK1 : Blk W1 w.heap.size [.int .u8 (tos.toNat : Int), .int .u16 (id.toNat : Int), .bool D, .bool M, .int .u16 (fo.toNat : Int), .int .u8 (ttl.toNat : Int), .int .u8 (pr.toNat : Int), .int .u32 (s.toNat : Int), .int .u32 (d.toNat : Int), .slice A1 os.length c1, .slice A2 xs.length c2] 36 := by subst hW1; exact Blk.new _ _ _
  have HS : ∀ W, Below W1.heap.size W1 W → (W.cell? ⟨w.heap.size, 0, none⟩ = some (.int .u8 (tos.toNat : Int)) ∧ W.cell? ⟨w.heap.size, 1, none⟩ = some (.int .u16 (id.toNat : Int)) ∧ W.cell? ⟨w.heap.size, 2, none⟩ = some (.bool D) ∧ W.cell? ⟨w.heap.size, 3, none⟩ = some (.bool M) ∧ W.cell? ⟨w.heap.size, 4, none⟩ = some (.int .u16 (fo.toNat : Int)) ∧ W.cell? ⟨w.heap.size, 5, none⟩ = some (.int .u8 (ttl.toNat : Int)) ∧ W.cell? ⟨w.heap.size, 6, none⟩ = some (.int .u8 (pr.toNat : Int)) ∧ W.cell? ⟨w.heap.size, 7, none⟩ = some (.int .u32 (s.toNat : Int)) ∧ W.cell? ⟨w.heap.size, 8, none⟩ = some (.int .u32 (d.toNat : Int)) ∧ W.cell? ⟨w.heap.size, 9, none⟩ = some (.slice A1 os.length c1) ∧ W.cell? ⟨w.heap.size, 10, none⟩ = some (.slice A2 xs.length c2)) := by
    intro W h
    obtain ⟨p0, p1, p2, p3, p4, p5, p6, p7, p8, p9, p10, -⟩ := (hK1.next h).get11
    exact ⟨p0, p1, p2, p3, p4, p5, p6, p7, p8, p9, p10⟩
  replace ho := ho.next hB1
  have hsz0 : Hid (w.heap.size + 1 = W1.heap.size) := by rw [Hid]; subst hW1; simp
  have hid := id.toNat_lt
  have hfo := fo.toNat_lt
  obtain ⟨m, hm⟩ : ∃ m : Nat, m = 5 + os.length / 4 := ⟨_, rfl⟩
  have m1 : (20 + (os.length : Int)).tdiv 4 = (m : Int) := by rw [Int.tdiv_eq_ediv_of_nonneg (by omega)]; omega
  have m2 : IntKind.u8.wrap (64 + (m : Int)) = (h.toNat : Int) := by rw [IntKind.wrap_u8, hh]; omega
  obtain ⟨al, hal⟩ : ∃ al : Nat, al = 20 + os.length + xs.length := ⟨_, rfl⟩
  have a1 : IntKind.i64.wrap (20 + (os.length : Int) + (xs.length : Int)) = (al : Int) := by rw [IntKind.wrap_i64]; omega
  have hm16 : m ≤ 15 := by omega
  have hal16 : al ≤ 65535 := by omega
  have HAL := Lib.hid hal
  clear hm hal hh
  cases D <;> cases M

  · obtain ⟨wd, hwd⟩ : ∃ wd : Nat, wd = fo.toNat := ⟨_, rfl⟩
    have HWD : Hid (wd = wdN false false fo) := by rw [Hid, hwd]; simp [wdN]
    have hwl : wd ≤ 65535 := by omega
    have HWQ := Lib.hid hwd
    clear hwd
    go_enter Try.func16, Try.ntmps16
    go_wp2_with fail
    rw [← hW1]
    clear hW1
    rw [← HWQ.out]
    have hsz := hsz0.out
    have hb12 := lit_at W1 (w.heap.size + 1) [h, tos, UInt8.ofNat (al / 256), UInt8.ofNat (al % 256), UInt8.ofNat (id.toNat / 256), UInt8.ofNat (id.toNat % 256), UInt8.ofNat (wd / 256), UInt8.ofNat (wd % 256), ttl, pr, UInt8.ofNat (x / 256), UInt8.ofNat (x % 256)] hsz #[.int .u8 (h.toNat : Int), .int .u8 (tos.toNat : Int), .int .u8 ((al : Int) / 256), .int .u8 ((al : Int) % 256), .int .u8 ((id.toNat : Int) / 256), .int .u8 ((id.toNat : Int) % 256), .int .u8 ((wd : Int) / 256), .int .u8 ((wd : Int) % 256), .int .u8 (ttl.toNat : Int), .int .u8 (pr.toNat : Int), .int .u8 ((x : Int) / 256), .int .u8 ((x : Int) % 256)] (by simp [bv]; omega) 5 (by simp)
    replace hB1 := bnextA hB1 (.cells #[.int .u8 (h.toNat : Int), .int .u8 (tos.toNat : Int), .int .u8 ((al : Int) / 256), .int .u8 ((al : Int) % 256), .int .u8 ((id.toNat : Int) / 256), .int .u8 ((id.toNat : Int) % 256), .int .u8 ((wd : Int) / 256), .int .u8 ((wd : Int) % 256), .int .u8 (ttl.toNat : Int), .int .u8 (pr.toNat : Int), .int .u8 ((x : Int) / 256), .int .u8 ((x : Int) % 256)] 5)
    replace ho := ho.next (bnextA (Below.refl W1.heap.size W1) (.cells #[.int .u8 (h.toNat : Int), .int .u8 (tos.toNat : Int), .int .u8 ((al : Int) / 256), .int .u8 ((al : Int) % 256), .int .u8 ((id.toNat : Int) / 256), .int .u8 ((id.toNat : Int) % 256), .int .u8 ((wd : Int) / 256), .int .u8 ((wd : Int) % 256), .int .u8 (ttl.toNat : Int), .int .u8 (pr.toNat : Int), .int .u8 ((x : Int) / 256), .int .u8 ((x : Int) % 256)] 5))
    replace hK1 := hK1.alloc (.cells #[.int .u8 (h.toNat : Int), .int .u8 (tos.toNat : Int), .int .u8 ((al : Int) / 256), .int .u8 ((al : Int) % 256), .int .u8 ((id.toNat : Int) / 256), .int .u8 ((id.toNat : Int) % 256), .int .u8 ((wd : Int) / 256), .int .u8 ((wd : Int) % 256), .int .u8 (ttl.toNat : Int), .int .u8 (pr.toNat : Int), .int .u8 ((x : Int) / 256), .int .u8 ((x : Int) % 256)] 5)
    clear HS hsz hsz0 m1 m2 a1 HWQ 
    generalize W1.alloc (.cells #[.int .u8 (h.toNat : Int), .int .u8 (tos.toNat : Int), .int .u8 ((al : Int) / 256), .int .u8 ((al : Int) % 256), .int .u8 ((id.toNat : Int) / 256), .int .u8 ((id.toNat : Int) % 256), .int .u8 ((wd : Int) / 256), .int .u8 ((wd : Int) % 256), .int .u8 (ttl.toNat : Int), .int .u8 (pr.toNat : Int), .int .u8 ((x : Int) / 256), .int .u8 ((x : Int) % 256)] 5) = V at hB1 ho hb12 hK1 ⊢
    have HS : ∀ W, Below V.heap.size V W → (W.cell? ⟨w.heap.size, 0, none⟩ = some (.int .u8 (tos.toNat : Int)) ∧ W.cell? ⟨w.heap.size, 1, none⟩ = some (.int .u16 (id.toNat : Int)) ∧ W.cell? ⟨w.heap.size, 2, none⟩ = some (.bool false) ∧ W.cell? ⟨w.heap.size, 3, none⟩ = some (.bool false) ∧ W.cell? ⟨w.heap.size, 4, none⟩ = some (.int .u16 (fo.toNat : Int)) ∧ W.cell? ⟨w.heap.size, 5, none⟩ = some (.int .u8 (ttl.toNat : Int)) ∧ W.cell? ⟨w.heap.size, 6, none⟩ = some (.int .u8 (pr.toNat : Int)) ∧ W.cell? ⟨w.heap.size, 7, none⟩ = some (.int .u32 (s.toNat : Int)) ∧ W.cell? ⟨w.heap.size, 8, none⟩ = some (.int .u32 (d.toNat : Int)) ∧ W.cell? ⟨w.heap.size, 9, none⟩ = some (.slice A1 os.length c1) ∧ W.cell? ⟨w.heap.size, 10, none⟩ = some (.slice A2 xs.length c2)) := by
      intro W h
      obtain ⟨p0, p1, p2, p3, p4, p5, p6, p7, p8, p9, p10, -⟩ := (hK1.next h).get11
      exact ⟨p0, p1, p2, p3, p4, p5, p6, p7, p8, p9, p10⟩
    refine region_put (by kernel_rfl) (by kernel_rfl) (by kernel_rfl) 78 rfl (by kernel_rfl) V (fun i v W => match i with
        | 0 => v = .slice (some ⟨w.heap.size + 1, 0, none⟩) 12 12
        | 1 => v = .pointer (some ⟨w.heap.size, 7, none⟩)
        | 2 => v = .int .u32 (s.toNat : Int)
        | 3 => ∃ L A c, v = .slice A L.length c ∧ Hid (L = be32 s) ∧ Rd bv W W.heap.size A c L
        | 4 => v = .pointer (some ⟨w.heap.size, 8, none⟩)
        | 5 => v = .int .u32 (d.toNat : Int)
        | 6 => ∃ L A c, v = .slice A L.length c ∧ Hid (L = be32 d) ∧ Rd bv W W.heap.size A c L
        | 7 => ∃ L A c, v = .slice A L.length c ∧ Hid (L = be32 s ++ be32 d) ∧ Rd bv W W.heap.size A c L
        | 8 => ∃ L A c, v = .slice A L.length c ∧ Hid (L = [h, tos, UInt8.ofNat (al / 256), UInt8.ofNat (al % 256), UInt8.ofNat (id.toNat / 256), UInt8.ofNat (id.toNat % 256), UInt8.ofNat (wd / 256), UInt8.ofNat (wd % 256), ttl, pr, UInt8.ofNat (x / 256), UInt8.ofNat (x % 256)] ++ (be32 s ++ be32 d)) ∧ Rd bv W W.heap.size A c L
        | 9 => v = .pointer (some ⟨w.heap.size, 9, none⟩)
        | 10 => v = .slice A1 os.length c1
        | 11 => ∃ L A c, v = .slice A L.length c ∧ Hid (L = [h, tos, UInt8.ofNat (al / 256), UInt8.ofNat (al % 256), UInt8.ofNat (id.toNat / 256), UInt8.ofNat (id.toNat % 256), UInt8.ofNat (wd / 256), UInt8.ofNat (wd % 256), ttl, pr, UInt8.ofNat (x / 256), UInt8.ofNat (x % 256)] ++ (be32 s ++ be32 d) ++ os) ∧ Rd bv W W.heap.size A c L
        | 12 => ∃ L A c, v = .slice A L.length c ∧ Hid (L = [h, tos, UInt8.ofNat (al / 256), UInt8.ofNat (al % 256), UInt8.ofNat (id.toNat / 256), UInt8.ofNat (id.toNat % 256), UInt8.ofNat (wd / 256), UInt8.ofNat (wd % 256), ttl, pr, UInt8.ofNat (x / 256), UInt8.ofNat (x % 256)] ++ (be32 s ++ be32 d) ++ os) ∧ Rd bv W W.heap.size A c L
        | _ => True) (Below.refl _ _) ?_ ?_ ?_
    · intro i v W W' h hb
      match i, h with
      | 0, h => exact h
      | 1, h => exact h
      | 2, h => exact h
      | 3, h => obtain ⟨L, A, c, h1, h2, h3⟩ := h; exact ⟨L, A, c, h1, h2, h3.next hb⟩
      | 4, h => exact h
      | 5, h => exact h
      | 6, h => obtain ⟨L, A, c, h1, h2, h3⟩ := h; exact ⟨L, A, c, h1, h2, h3.next hb⟩
      | 7, h => obtain ⟨L, A, c, h1, h2, h3⟩ := h; exact ⟨L, A, c, h1, h2, h3.next hb⟩
      | 8, h => obtain ⟨L, A, c, h1, h2, h3⟩ := h; exact ⟨L, A, c, h1, h2, h3.next hb⟩
      | 9, h => exact h
      | 10, h => exact h
      | 11, h => obtain ⟨L, A, c, h1, h2, h3⟩ := h; exact ⟨L, A, c, h1, h2, h3.next hb⟩
      | 12, h => obtain ⟨L, A, c, h1, h2, h3⟩ := h; exact ⟨L, A, c, h1, h2, h3.next hb⟩
      | _ + 13, _ => trivial
    · intro i o uu W hoo hVW hd
      rcases i with _|_|_|_|_|_|_|_|_|_|_|_|_|i
      · obtain rfl := Option.some.inj hoo
        refine .inl ⟨wanted_none rfl, ?_⟩
        generalize hev : Act.eval _ = ev
        have ec : ∀ c, ev (.const c) = c := fun c => by rw [← hev]; rfl
        have e8 : ev (.tmp 8) = .slice (some ⟨w.heap.size + 1, 0, none⟩) 12 12 := by rw [← hev]; exact eval_old (by kernel_rfl) 78 rfl (by decide) rfl
        clear hev hd
        exact .inl ⟨_, W, by go_simp, rfl, Below.refl _ _⟩
      · obtain rfl := Option.some.inj hoo
        refine .inl ⟨wanted_none rfl, ?_⟩
        generalize hev : Act.eval _ = ev
        have ec : ∀ c, ev (.const c) = c := fun c => by rw [← hev]; rfl
        have e2 : ev (.tmp 2) = .pointer (some ⟨w.heap.size, 0, none⟩) := by rw [← hev]; exact eval_old (by kernel_rfl) 78 rfl (by decide) rfl
        clear hev hd
        exact .inl ⟨_, W, by go_simp, rfl, Below.refl _ _⟩
      · obtain rfl := Option.some.inj hoo
        have q1 : uu 1 = .pointer (some ⟨w.heap.size, 7, none⟩) := hd 1 (by kernel_rfl)
        refine .inl ⟨wanted_none rfl, ?_⟩
        generalize hev : Act.eval _ = ev
        have ec : ∀ c, ev (.const c) = c := fun c => by rw [← hev]; rfl
        have e67 : ev (.tmp 67) = .pointer (some ⟨w.heap.size, 7, none⟩) := by rw [← hev]; exact (eval_put (by kernel_rfl) 78 rfl (by decide)).trans q1
        clear hev hd q1
        obtain ⟨cc0, cc1, cc2, cc3, cc4, cc5, cc6, cc7, cc8, cc9, cc10⟩ := HS W hVW
        exact .inl ⟨_, W, by go_simp, rfl, Below.refl _ _⟩
      · obtain rfl := Option.some.inj hoo
        have q2 : uu 2 = .int .u32 (s.toNat : Int) := hd 2 (by kernel_rfl)
        refine .inl ⟨wanted_none rfl, ?_⟩
        generalize hev : Act.eval _ = ev
        have ec : ∀ c, ev (.const c) = c := fun c => by rw [← hev]; rfl
        have ef : ∀ f, ev (.func f) = .func (.func f) #[] #[] := fun f => by rw [← hev]; rfl
        have e68 : ev (.tmp 68) = .int .u32 (s.toNat : Int) := by rw [← hev]; exact (eval_put (by kernel_rfl) 78 rfl (by decide)).trans q2
        clear hev hd q2
        exact .inr ⟨_, _, _, by go_simp, rput_any s.toNat 4 W (s.toNat_lt) (by omega), fun e w' he => by
          obtain ⟨v, rfl, hown, hb⟩ := he
          obtain ⟨L, A, c, HL, rfl, hr⟩ := hown.rdv
          exact ⟨_, rfl, ⟨L, A, c, rfl, by rw [Hid, HL.out, ← be32_put], hr⟩, hb⟩⟩
      · obtain rfl := Option.some.inj hoo
        refine .inl ⟨wanted_none rfl, ?_⟩
        generalize hev : Act.eval _ = ev
        have ec : ∀ c, ev (.const c) = c := fun c => by rw [← hev]; rfl
        have e2 : ev (.tmp 2) = .pointer (some ⟨w.heap.size, 0, none⟩) := by rw [← hev]; exact eval_old (by kernel_rfl) 78 rfl (by decide) rfl
        clear hev hd
        exact .inl ⟨_, W, by go_simp, rfl, Below.refl _ _⟩
      · obtain rfl := Option.some.inj hoo
        have q4 : uu 4 = .pointer (some ⟨w.heap.size, 8, none⟩) := hd 4 (by kernel_rfl)
        refine .inl ⟨wanted_none rfl, ?_⟩
        generalize hev : Act.eval _ = ev
        have ec : ∀ c, ev (.const c) = c := fun c => by rw [← hev]; rfl
        have e70 : ev (.tmp 70) = .pointer (some ⟨w.heap.size, 8, none⟩) := by rw [← hev]; exact (eval_put (by kernel_rfl) 78 rfl (by decide)).trans q4
        clear hev hd q4
        obtain ⟨cc0, cc1, cc2, cc3, cc4, cc5, cc6, cc7, cc8, cc9, cc10⟩ := HS W hVW
        exact .inl ⟨_, W, by go_simp, rfl, Below.refl _ _⟩
      · obtain rfl := Option.some.inj hoo
        have q5 : uu 5 = .int .u32 (d.toNat : Int) := hd 5 (by kernel_rfl)
        refine .inl ⟨wanted_none rfl, ?_⟩
        generalize hev : Act.eval _ = ev
        have ec : ∀ c, ev (.const c) = c := fun c => by rw [← hev]; rfl
        have ef : ∀ f, ev (.func f) = .func (.func f) #[] #[] := fun f => by rw [← hev]; rfl
        have e71 : ev (.tmp 71) = .int .u32 (d.toNat : Int) := by rw [← hev]; exact (eval_put (by kernel_rfl) 78 rfl (by decide)).trans q5
        clear hev hd q5
        exact .inr ⟨_, _, _, by go_simp, rput_any d.toNat 4 W (d.toNat_lt) (by omega), fun e w' he => by
          obtain ⟨v, rfl, hown, hb⟩ := he
          obtain ⟨L, A, c, HL, rfl, hr⟩ := hown.rdv
          exact ⟨_, rfl, ⟨L, A, c, rfl, by rw [Hid, HL.out, ← be32_put], hr⟩, hb⟩⟩
      · obtain rfl := Option.some.inj hoo
        obtain ⟨L3, A3, c3, q3, HL3, r3⟩ := hd 3 (by kernel_rfl)
        obtain ⟨L6, A6, c6, q6, HL6, r6⟩ := hd 6 (by kernel_rfl)
        refine .inl ⟨wanted_none rfl, ?_⟩
        generalize hev : Act.eval _ = ev
        have ec : ∀ c, ev (.const c) = c := fun c => by rw [← hev]; rfl
        have ef : ∀ f, ev (.func f) = .func (.func f) #[] #[] := fun f => by rw [← hev]; rfl
        have e69 : ev (.tmp 69) = .slice A3 L3.length c3 := by rw [← hev]; exact (eval_put (by kernel_rfl) 78 rfl (by decide)).trans q3
        have e72 : ev (.tmp 72) = .slice A6 L6.length c6 := by rw [← hev]; exact (eval_put (by kernel_rfl) 78 rfl (by decide)).trans q6
        clear hev hd q3 q6
        exact .inr ⟨_, _, _, by go_simp, radd_any _ _ _ _ L3 L6 W r3 r6 (by rw [HL3.out, HL6.out]; simp [be32]), fun e w' he => by
          obtain ⟨v, rfl, hown, hb⟩ := he
          obtain ⟨L, A, c, HL, rfl, hr⟩ := hown.rdv
          exact ⟨_, rfl, ⟨L, A, c, rfl, by rw [Hid, HL.out, HL3.out, HL6.out], hr⟩, hb⟩⟩
      · obtain rfl := Option.some.inj hoo
        have q0 : uu 0 = .slice (some ⟨w.heap.size + 1, 0, none⟩) 12 12 := hd 0 (by kernel_rfl)
        obtain ⟨L7, A7, c7, q7, HL7, r7⟩ := hd 7 (by kernel_rfl)
        refine .inl ⟨wanted_none rfl, ?_⟩
        generalize hev : Act.eval _ = ev
        have ec : ∀ c, ev (.const c) = c := fun c => by rw [← hev]; rfl
        have ef : ∀ f, ev (.func f) = .func (.func f) #[] #[] := fun f => by rw [← hev]; rfl
        have e66 : ev (.tmp 66) = .slice (some ⟨w.heap.size + 1, 0, none⟩) 12 12 := by rw [← hev]; exact (eval_put (by kernel_rfl) 78 rfl (by decide)).trans q0
        have e73 : ev (.tmp 73) = .slice A7 L7.length c7 := by rw [← hev]; exact (eval_put (by kernel_rfl) 78 rfl (by decide)).trans q7
        clear hev hd q0 q7
        exact .inr ⟨_, _, _, by go_simp, radd_any (some ⟨w.heap.size + 1, 0, none⟩) _ 12 _ [h, tos, UInt8.ofNat (al / 256), UInt8.ofNat (al % 256), UInt8.ofNat (id.toNat / 256), UInt8.ofNat (id.toNat % 256), UInt8.ofNat (wd / 256), UInt8.ofNat (wd % 256), ttl, pr, UInt8.ofNat (x / 256), UInt8.ofNat (x % 256)] L7 W (hb12.next hVW) r7 (by rw [HL7.out]; simp [be32]), fun e w' he => by
          obtain ⟨v, rfl, hown, hb⟩ := he
          obtain ⟨L, A, c, HL, rfl, hr⟩ := hown.rdv
          exact ⟨_, rfl, ⟨L, A, c, rfl, by rw [Hid, HL.out, HL7.out], hr⟩, hb⟩⟩
      · obtain rfl := Option.some.inj hoo
        refine .inl ⟨wanted_none rfl, ?_⟩
        generalize hev : Act.eval _ = ev
        have ec : ∀ c, ev (.const c) = c := fun c => by rw [← hev]; rfl
        have e2 : ev (.tmp 2) = .pointer (some ⟨w.heap.size, 0, none⟩) := by rw [← hev]; exact eval_old (by kernel_rfl) 78 rfl (by decide) rfl
        clear hev hd
        exact .inl ⟨_, W, by go_simp, rfl, Below.refl _ _⟩
      · obtain rfl := Option.some.inj hoo
        have q9 : uu 9 = .pointer (some ⟨w.heap.size, 9, none⟩) := hd 9 (by kernel_rfl)
        refine .inl ⟨wanted_none rfl, ?_⟩
        generalize hev : Act.eval _ = ev
        have ec : ∀ c, ev (.const c) = c := fun c => by rw [← hev]; rfl
        have e75 : ev (.tmp 75) = .pointer (some ⟨w.heap.size, 9, none⟩) := by rw [← hev]; exact (eval_put (by kernel_rfl) 78 rfl (by decide)).trans q9
        clear hev hd q9
        obtain ⟨cc0, cc1, cc2, cc3, cc4, cc5, cc6, cc7, cc8, cc9, cc10⟩ := HS W hVW
        exact .inl ⟨_, W, by go_simp, rfl, Below.refl _ _⟩
      · obtain rfl := Option.some.inj hoo
        obtain ⟨L8, A8, c8, q8, HL8, r8⟩ := hd 8 (by kernel_rfl)
        have q10 : uu 10 = .slice A1 os.length c1 := hd 10 (by kernel_rfl)
        refine .inl ⟨wanted_none rfl, ?_⟩
        generalize hev : Act.eval _ = ev
        have ec : ∀ c, ev (.const c) = c := fun c => by rw [← hev]; rfl
        have ef : ∀ f, ev (.func f) = .func (.func f) #[] #[] := fun f => by rw [← hev]; rfl
        have e74 : ev (.tmp 74) = .slice A8 L8.length c8 := by rw [← hev]; exact (eval_put (by kernel_rfl) 78 rfl (by decide)).trans q8
        have e76 : ev (.tmp 76) = .slice A1 os.length c1 := by rw [← hev]; exact (eval_put (by kernel_rfl) 78 rfl (by decide)).trans q10
        clear hev hd q8 q10
        exact .inr ⟨_, _, _, by go_simp, radd_any _ _ _ _ L8 os W r8 (ho.next hVW) (by rw [HL8.out]; simp [be32]; omega), fun e w' he => by
          obtain ⟨v, rfl, hown, hb⟩ := he
          obtain ⟨L, A, c, HL, rfl, hr⟩ := hown.rdv
          exact ⟨_, rfl, ⟨L, A, c, rfl, by rw [Hid, HL.out, HL8.out], hr⟩, hb⟩⟩
      · obtain rfl := Option.some.inj hoo
        obtain ⟨L11, A11, c11, q11, HL11, r11⟩ := hd 11 (by kernel_rfl)
        refine .inl ⟨wanted_none rfl, ?_⟩
        generalize hev : Act.eval _ = ev
        have ec : ∀ c, ev (.const c) = c := fun c => by rw [← hev]; rfl
        have e77 : ev (.tmp 77) = .slice A11 L11.length c11 := by rw [← hev]; exact (eval_put (by kernel_rfl) 78 rfl (by decide)).trans q11
        clear hev hd q11
        exact .inl ⟨_, W, by go_simp, ⟨L11, A11, c11, rfl, HL11, r11⟩, Below.refl _ _⟩
      · simp at hoo
    · intro uu W hVW hall
      obtain ⟨L, A, c, q12, HL, hr⟩ : ∃ L A c, uu 12 = .slice A L.length c ∧ Hid (L = [h, tos, UInt8.ofNat (al / 256), UInt8.ofNat (al % 256), UInt8.ofNat (id.toNat / 256), UInt8.ofNat (id.toNat % 256), UInt8.ofNat (wd / 256), UInt8.ofNat (wd % 256), ttl, pr, UInt8.ofNat (x / 256), UInt8.ofNat (x % 256)] ++ (be32 s ++ be32 d) ++ os) ∧ Rd bv W W.heap.size A c L := hall 12 (by decide)
      have hB := hB1.trans (hVW.mono hB1.size)
      clear hall HS hK1 ho hb12
      simp only [putAll, Act.put, Nat.reduceAdd, q12]
      simp only [List.setIfInBounds_toArray, List.set_cons_succ, List.set_cons_zero]
      go_wp2_with fail
      go_ret
      exact ⟨L, A, c, rfl, by rw [Hid, HL.out, ← HAL.out, ← HWD.out]; exact ih_eq h tos al hal16 id wd hwl ttl pr x hxx s d os, hr, hB⟩

  · obtain ⟨wd, hwd⟩ : ∃ wd : Nat, wd = fo.toNat + 8192 := ⟨_, rfl⟩
    have HWD : Hid (wd = wdN false true fo) := by rw [Hid, hwd]; simp [wdN]
    have hwl : wd ≤ 65535 := by omega
    have HWQ := Lib.hid hwd
    have o1 : IntKind.i64.wrap ((fo.toNat : Int) + 8192) = (wd : Int) := by rw [IntKind.wrap_i64, hwd]; omega
    clear hwd
    go_enter Try.func16, Try.ntmps16
    go_wp2_with fail
    rw [← hW1]
    clear hW1
    skip
    have hsz := hsz0.out
    have hb12 := lit_at W1 (w.heap.size + 1) [h, tos, UInt8.ofNat (al / 256), UInt8.ofNat (al % 256), UInt8.ofNat (id.toNat / 256), UInt8.ofNat (id.toNat % 256), UInt8.ofNat (wd / 256), UInt8.ofNat (wd % 256), ttl, pr, UInt8.ofNat (x / 256), UInt8.ofNat (x % 256)] hsz #[.int .u8 (h.toNat : Int), .int .u8 (tos.toNat : Int), .int .u8 ((al : Int) / 256), .int .u8 ((al : Int) % 256), .int .u8 ((id.toNat : Int) / 256), .int .u8 ((id.toNat : Int) % 256), .int .u8 ((wd : Int) / 256), .int .u8 ((wd : Int) % 256), .int .u8 (ttl.toNat : Int), .int .u8 (pr.toNat : Int), .int .u8 ((x : Int) / 256), .int .u8 ((x : Int) % 256)] (by simp [bv]; omega) 5 (by simp)
    replace hB1 := bnextA hB1 (.cells #[.int .u8 (h.toNat : Int), .int .u8 (tos.toNat : Int), .int .u8 ((al : Int) / 256), .int .u8 ((al : Int) % 256), .int .u8 ((id.toNat : Int) / 256), .int .u8 ((id.toNat : Int) % 256), .int .u8 ((wd : Int) / 256), .int .u8 ((wd : Int) % 256), .int .u8 (ttl.toNat : Int), .int .u8 (pr.toNat : Int), .int .u8 ((x : Int) / 256), .int .u8 ((x : Int) % 256)] 5)
    replace ho := ho.next (bnextA (Below.refl W1.heap.size W1) (.cells #[.int .u8 (h.toNat : Int), .int .u8 (tos.toNat : Int), .int .u8 ((al : Int) / 256), .int .u8 ((al : Int) % 256), .int .u8 ((id.toNat : Int) / 256), .int .u8 ((id.toNat : Int) % 256), .int .u8 ((wd : Int) / 256), .int .u8 ((wd : Int) % 256), .int .u8 (ttl.toNat : Int), .int .u8 (pr.toNat : Int), .int .u8 ((x : Int) / 256), .int .u8 ((x : Int) % 256)] 5))
    replace hK1 := hK1.alloc (.cells #[.int .u8 (h.toNat : Int), .int .u8 (tos.toNat : Int), .int .u8 ((al : Int) / 256), .int .u8 ((al : Int) % 256), .int .u8 ((id.toNat : Int) / 256), .int .u8 ((id.toNat : Int) % 256), .int .u8 ((wd : Int) / 256), .int .u8 ((wd : Int) % 256), .int .u8 (ttl.toNat : Int), .int .u8 (pr.toNat : Int), .int .u8 ((x : Int) / 256), .int .u8 ((x : Int) % 256)] 5)
    clear HS hsz hsz0 m1 m2 a1 HWQ o1
    generalize W1.alloc (.cells #[.int .u8 (h.toNat : Int), .int .u8 (tos.toNat : Int), .int .u8 ((al : Int) / 256), .int .u8 ((al : Int) % 256), .int .u8 ((id.toNat : Int) / 256), .int .u8 ((id.toNat : Int) % 256), .int .u8 ((wd : Int) / 256), .int .u8 ((wd : Int) % 256), .int .u8 (ttl.toNat : Int), .int .u8 (pr.toNat : Int), .int .u8 ((x : Int) / 256), .int .u8 ((x : Int) % 256)] 5) = V at hB1 ho hb12 hK1 ⊢
    have HS : ∀ W, Below V.heap.size V W → (W.cell? ⟨w.heap.size, 0, none⟩ = some (.int .u8 (tos.toNat : Int)) ∧ W.cell? ⟨w.heap.size, 1, none⟩ = some (.int .u16 (id.toNat : Int)) ∧ W.cell? ⟨w.heap.size, 2, none⟩ = some (.bool false) ∧ W.cell? ⟨w.heap.size, 3, none⟩ = some (.bool true) ∧ W.cell? ⟨w.heap.size, 4, none⟩ = some (.int .u16 (fo.toNat : Int)) ∧ W.cell? ⟨w.heap.size, 5, none⟩ = some (.int .u8 (ttl.toNat : Int)) ∧ W.cell? ⟨w.heap.size, 6, none⟩ = some (.int .u8 (pr.toNat : Int)) ∧ W.cell? ⟨w.heap.size, 7, none⟩ = some (.int .u32 (s.toNat : Int)) ∧ W.cell? ⟨w.heap.size, 8, none⟩ = some (.int .u32 (d.toNat : Int)) ∧ W.cell? ⟨w.heap.size, 9, none⟩ = some (.slice A1 os.length c1) ∧ W.cell? ⟨w.heap.size, 10, none⟩ = some (.slice A2 xs.length c2)) := by
      intro W h
      obtain ⟨p0, p1, p2, p3, p4, p5, p6, p7, p8, p9, p10, -⟩ := (hK1.next h).get11
      exact ⟨p0, p1, p2, p3, p4, p5, p6, p7, p8, p9, p10⟩
    refine region_put (by kernel_rfl) (by kernel_rfl) (by kernel_rfl) 78 rfl (by kernel_rfl) V (fun i v W => match i with
        | 0 => v = .slice (some ⟨w.heap.size + 1, 0, none⟩) 12 12
        | 1 => v = .pointer (some ⟨w.heap.size, 7, none⟩)
        | 2 => v = .int .u32 (s.toNat : Int)
        | 3 => ∃ L A c, v = .slice A L.length c ∧ Hid (L = be32 s) ∧ Rd bv W W.heap.size A c L
        | 4 => v = .pointer (some ⟨w.heap.size, 8, none⟩)
        | 5 => v = .int .u32 (d.toNat : Int)
        | 6 => ∃ L A c, v = .slice A L.length c ∧ Hid (L = be32 d) ∧ Rd bv W W.heap.size A c L
        | 7 => ∃ L A c, v = .slice A L.length c ∧ Hid (L = be32 s ++ be32 d) ∧ Rd bv W W.heap.size A c L
        | 8 => ∃ L A c, v = .slice A L.length c ∧ Hid (L = [h, tos, UInt8.ofNat (al / 256), UInt8.ofNat (al % 256), UInt8.ofNat (id.toNat / 256), UInt8.ofNat (id.toNat % 256), UInt8.ofNat (wd / 256), UInt8.ofNat (wd % 256), ttl, pr, UInt8.ofNat (x / 256), UInt8.ofNat (x % 256)] ++ (be32 s ++ be32 d)) ∧ Rd bv W W.heap.size A c L
        | 9 => v = .pointer (some ⟨w.heap.size, 9, none⟩)
        | 10 => v = .slice A1 os.length c1
        | 11 => ∃ L A c, v = .slice A L.length c ∧ Hid (L = [h, tos, UInt8.ofNat (al / 256), UInt8.ofNat (al % 256), UInt8.ofNat (id.toNat / 256), UInt8.ofNat (id.toNat % 256), UInt8.ofNat (wd / 256), UInt8.ofNat (wd % 256), ttl, pr, UInt8.ofNat (x / 256), UInt8.ofNat (x % 256)] ++ (be32 s ++ be32 d) ++ os) ∧ Rd bv W W.heap.size A c L
        | 12 => ∃ L A c, v = .slice A L.length c ∧ Hid (L = [h, tos, UInt8.ofNat (al / 256), UInt8.ofNat (al % 256), UInt8.ofNat (id.toNat / 256), UInt8.ofNat (id.toNat % 256), UInt8.ofNat (wd / 256), UInt8.ofNat (wd % 256), ttl, pr, UInt8.ofNat (x / 256), UInt8.ofNat (x % 256)] ++ (be32 s ++ be32 d) ++ os) ∧ Rd bv W W.heap.size A c L
        | _ => True) (Below.refl _ _) ?_ ?_ ?_
    · intro i v W W' h hb
      match i, h with
      | 0, h => exact h
      | 1, h => exact h
      | 2, h => exact h
      | 3, h => obtain ⟨L, A, c, h1, h2, h3⟩ := h; exact ⟨L, A, c, h1, h2, h3.next hb⟩
      | 4, h => exact h
      | 5, h => exact h
      | 6, h => obtain ⟨L, A, c, h1, h2, h3⟩ := h; exact ⟨L, A, c, h1, h2, h3.next hb⟩
      | 7, h => obtain ⟨L, A, c, h1, h2, h3⟩ := h; exact ⟨L, A, c, h1, h2, h3.next hb⟩
      | 8, h => obtain ⟨L, A, c, h1, h2, h3⟩ := h; exact ⟨L, A, c, h1, h2, h3.next hb⟩
      | 9, h => exact h
      | 10, h => exact h
      | 11, h => obtain ⟨L, A, c, h1, h2, h3⟩ := h; exact ⟨L, A, c, h1, h2, h3.next hb⟩
      | 12, h => obtain ⟨L, A, c, h1, h2, h3⟩ := h; exact ⟨L, A, c, h1, h2, h3.next hb⟩
      | _ + 13, _ => trivial
    · intro i o uu W hoo hVW hd
      rcases i with _|_|_|_|_|_|_|_|_|_|_|_|_|i
      · obtain rfl := Option.some.inj hoo
        refine .inl ⟨wanted_none rfl, ?_⟩
        generalize hev : Act.eval _ = ev
        have ec : ∀ c, ev (.const c) = c := fun c => by rw [← hev]; rfl
        have e8 : ev (.tmp 8) = .slice (some ⟨w.heap.size + 1, 0, none⟩) 12 12 := by rw [← hev]; exact eval_old (by kernel_rfl) 78 rfl (by decide) rfl
        clear hev hd
        exact .inl ⟨_, W, by go_simp, rfl, Below.refl _ _⟩
      · obtain rfl := Option.some.inj hoo
        refine .inl ⟨wanted_none rfl, ?_⟩
        generalize hev : Act.eval _ = ev
        have ec : ∀ c, ev (.const c) = c := fun c => by rw [← hev]; rfl
        have e2 : ev (.tmp 2) = .pointer (some ⟨w.heap.size, 0, none⟩) := by rw [← hev]; exact eval_old (by kernel_rfl) 78 rfl (by decide) rfl
        clear hev hd
        exact .inl ⟨_, W, by go_simp, rfl, Below.refl _ _⟩
      · obtain rfl := Option.some.inj hoo
        have q1 : uu 1 = .pointer (some ⟨w.heap.size, 7, none⟩) := hd 1 (by kernel_rfl)
        refine .inl ⟨wanted_none rfl, ?_⟩
        generalize hev : Act.eval _ = ev
        have ec : ∀ c, ev (.const c) = c := fun c => by rw [← hev]; rfl
        have e67 : ev (.tmp 67) = .pointer (some ⟨w.heap.size, 7, none⟩) := by rw [← hev]; exact (eval_put (by kernel_rfl) 78 rfl (by decide)).trans q1
        clear hev hd q1
        obtain ⟨cc0, cc1, cc2, cc3, cc4, cc5, cc6, cc7, cc8, cc9, cc10⟩ := HS W hVW
        exact .inl ⟨_, W, by go_simp, rfl, Below.refl _ _⟩
      · obtain rfl := Option.some.inj hoo
        have q2 : uu 2 = .int .u32 (s.toNat : Int) := hd 2 (by kernel_rfl)
        refine .inl ⟨wanted_none rfl, ?_⟩
        generalize hev : Act.eval _ = ev
        have ec : ∀ c, ev (.const c) = c := fun c => by rw [← hev]; rfl
        have ef : ∀ f, ev (.func f) = .func (.func f) #[] #[] := fun f => by rw [← hev]; rfl
        have e68 : ev (.tmp 68) = .int .u32 (s.toNat : Int) := by rw [← hev]; exact (eval_put (by kernel_rfl) 78 rfl (by decide)).trans q2
        clear hev hd q2
        exact .inr ⟨_, _, _, by go_simp, rput_any s.toNat 4 W (s.toNat_lt) (by omega), fun e w' he => by
          obtain ⟨v, rfl, hown, hb⟩ := he
          obtain ⟨L, A, c, HL, rfl, hr⟩ := hown.rdv
          exact ⟨_, rfl, ⟨L, A, c, rfl, by rw [Hid, HL.out, ← be32_put], hr⟩, hb⟩⟩
      · obtain rfl := Option.some.inj hoo
        refine .inl ⟨wanted_none rfl, ?_⟩
        generalize hev : Act.eval _ = ev
        have ec : ∀ c, ev (.const c) = c := fun c => by rw [← hev]; rfl
        have e2 : ev (.tmp 2) = .pointer (some ⟨w.heap.size, 0, none⟩) := by rw [← hev]; exact eval_old (by kernel_rfl) 78 rfl (by decide) rfl
        clear hev hd
        exact .inl ⟨_, W, by go_simp, rfl, Below.refl _ _⟩
      · obtain rfl := Option.some.inj hoo
        have q4 : uu 4 = .pointer (some ⟨w.heap.size, 8, none⟩) := hd 4 (by kernel_rfl)
        refine .inl ⟨wanted_none rfl, ?_⟩
        generalize hev : Act.eval _ = ev
        have ec : ∀ c, ev (.const c) = c := fun c => by rw [← hev]; rfl
        have e70 : ev (.tmp 70) = .pointer (some ⟨w.heap.size, 8, none⟩) := by rw [← hev]; exact (eval_put (by kernel_rfl) 78 rfl (by decide)).trans q4
        clear hev hd q4
        obtain ⟨cc0, cc1, cc2, cc3, cc4, cc5, cc6, cc7, cc8, cc9, cc10⟩ := HS W hVW
        exact .inl ⟨_, W, by go_simp, rfl, Below.refl _ _⟩
      · obtain rfl := Option.some.inj hoo
        have q5 : uu 5 = .int .u32 (d.toNat : Int) := hd 5 (by kernel_rfl)
        refine .inl ⟨wanted_none rfl, ?_⟩
        generalize hev : Act.eval _ = ev
        have ec : ∀ c, ev (.const c) = c := fun c => by rw [← hev]; rfl
        have ef : ∀ f, ev (.func f) = .func (.func f) #[] #[] := fun f => by rw [← hev]; rfl
        have e71 : ev (.tmp 71) = .int .u32 (d.toNat : Int) := by rw [← hev]; exact (eval_put (by kernel_rfl) 78 rfl (by decide)).trans q5
        clear hev hd q5
        exact .inr ⟨_, _, _, by go_simp, rput_any d.toNat 4 W (d.toNat_lt) (by omega), fun e w' he => by
          obtain ⟨v, rfl, hown, hb⟩ := he
          obtain ⟨L, A, c, HL, rfl, hr⟩ := hown.rdv
          exact ⟨_, rfl, ⟨L, A, c, rfl, by rw [Hid, HL.out, ← be32_put], hr⟩, hb⟩⟩
      · obtain rfl := Option.some.inj hoo
        obtain ⟨L3, A3, c3, q3, HL3, r3⟩ := hd 3 (by kernel_rfl)
        obtain ⟨L6, A6, c6, q6, HL6, r6⟩ := hd 6 (by kernel_rfl)
        refine .inl ⟨wanted_none rfl, ?_⟩
        generalize hev : Act.eval _ = ev
        have ec : ∀ c, ev (.const c) = c := fun c => by rw [← hev]; rfl
        have ef : ∀ f, ev (.func f) = .func (.func f) #[] #[] := fun f => by rw [← hev]; rfl
        have e69 : ev (.tmp 69) = .slice A3 L3.length c3 := by rw [← hev]; exact (eval_put (by kernel_rfl) 78 rfl (by decide)).trans q3
        have e72 : ev (.tmp 72) = .slice A6 L6.length c6 := by rw [← hev]; exact (eval_put (by kernel_rfl) 78 rfl (by decide)).trans q6
        clear hev hd q3 q6
        exact .inr ⟨_, _, _, by go_simp, radd_any _ _ _ _ L3 L6 W r3 r6 (by rw [HL3.out, HL6.out]; simp [be32]), fun e w' he => by
          obtain ⟨v, rfl, hown, hb⟩ := he
          obtain ⟨L, A, c, HL, rfl, hr⟩ := hown.rdv
          exact ⟨_, rfl, ⟨L, A, c, rfl, by rw [Hid, HL.out, HL3.out, HL6.out], hr⟩, hb⟩⟩
      · obtain rfl := Option.some.inj hoo
        have q0 : uu 0 = .slice (some ⟨w.heap.size + 1, 0, none⟩) 12 12 := hd 0 (by kernel_rfl)
        obtain ⟨L7, A7, c7, q7, HL7, r7⟩ := hd 7 (by kernel_rfl)
        refine .inl ⟨wanted_none rfl, ?_⟩
        generalize hev : Act.eval _ = ev
        have ec : ∀ c, ev (.const c) = c := fun c => by rw [← hev]; rfl
        have ef : ∀ f, ev (.func f) = .func (.func f) #[] #[] := fun f => by rw [← hev]; rfl
        have e66 : ev (.tmp 66) = .slice (some ⟨w.heap.size + 1, 0, none⟩) 12 12 := by rw [← hev]; exact (eval_put (by kernel_rfl) 78 rfl (by decide)).trans q0
        have e73 : ev (.tmp 73) = .slice A7 L7.length c7 := by rw [← hev]; exact (eval_put (by kernel_rfl) 78 rfl (by decide)).trans q7
        clear hev hd q0 q7
        exact .inr ⟨_, _, _, by go_simp, radd_any (some ⟨w.heap.size + 1, 0, none⟩) _ 12 _ [h, tos, UInt8.ofNat (al / 256), UInt8.ofNat (al % 256), UInt8.ofNat (id.toNat / 256), UInt8.ofNat (id.toNat % 256), UInt8.ofNat (wd / 256), UInt8.ofNat (wd % 256), ttl, pr, UInt8.ofNat (x / 256), UInt8.ofNat (x % 256)] L7 W (hb12.next hVW) r7 (by rw [HL7.out]; simp [be32]), fun e w' he => by
          obtain ⟨v, rfl, hown, hb⟩ := he
          obtain ⟨L, A, c, HL, rfl, hr⟩ := hown.rdv
          exact ⟨_, rfl, ⟨L, A, c, rfl, by rw [Hid, HL.out, HL7.out], hr⟩, hb⟩⟩
      · obtain rfl := Option.some.inj hoo
        refine .inl ⟨wanted_none rfl, ?_⟩
        generalize hev : Act.eval _ = ev
        have ec : ∀ c, ev (.const c) = c := fun c => by rw [← hev]; rfl
        have e2 : ev (.tmp 2) = .pointer (some ⟨w.heap.size, 0, none⟩) := by rw [← hev]; exact eval_old (by kernel_rfl) 78 rfl (by decide) rfl
        clear hev hd
        exact .inl ⟨_, W, by go_simp, rfl, Below.refl _ _⟩
      · obtain rfl := Option.some.inj hoo
        have q9 : uu 9 = .pointer (some ⟨w.heap.size, 9, none⟩) := hd 9 (by kernel_rfl)
        refine .inl ⟨wanted_none rfl, ?_⟩
        generalize hev : Act.eval _ = ev
        have ec : ∀ c, ev (.const c) = c := fun c => by rw [← hev]; rfl
        have e75 : ev (.tmp 75) = .pointer (some ⟨w.heap.size, 9, none⟩) := by rw [← hev]; exact (eval_put (by kernel_rfl) 78 rfl (by decide)).trans q9
        clear hev hd q9
        obtain ⟨cc0, cc1, cc2, cc3, cc4, cc5, cc6, cc7, cc8, cc9, cc10⟩ := HS W hVW
        exact .inl ⟨_, W, by go_simp, rfl, Below.refl _ _⟩
      · obtain rfl := Option.some.inj hoo
        obtain ⟨L8, A8, c8, q8, HL8, r8⟩ := hd 8 (by kernel_rfl)
        have q10 : uu 10 = .slice A1 os.length c1 := hd 10 (by kernel_rfl)
        refine .inl ⟨wanted_none rfl, ?_⟩
        generalize hev : Act.eval _ = ev
        have ec : ∀ c, ev (.const c) = c := fun c => by rw [← hev]; rfl
        have ef : ∀ f, ev (.func f) = .func (.func f) #[] #[] := fun f => by rw [← hev]; rfl
        have e74 : ev (.tmp 74) = .slice A8 L8.length c8 := by rw [← hev]; exact (eval_put (by kernel_rfl) 78 rfl (by decide)).trans q8
        have e76 : ev (.tmp 76) = .slice A1 os.length c1 := by rw [← hev]; exact (eval_put (by kernel_rfl) 78 rfl (by decide)).trans q10
        clear hev hd q8 q10
        exact .inr ⟨_, _, _, by go_simp, radd_any _ _ _ _ L8 os W r8 (ho.next hVW) (by rw [HL8.out]; simp [be32]; omega), fun e w' he => by
          obtain ⟨v, rfl, hown, hb⟩ := he
          obtain ⟨L, A, c, HL, rfl, hr⟩ := hown.rdv
          exact ⟨_, rfl, ⟨L, A, c, rfl, by rw [Hid, HL.out, HL8.out], hr⟩, hb⟩⟩
      · obtain rfl := Option.some.inj hoo
        obtain ⟨L11, A11, c11, q11, HL11, r11⟩ := hd 11 (by kernel_rfl)
        refine .inl ⟨wanted_none rfl, ?_⟩
        generalize hev : Act.eval _ = ev
        have ec : ∀ c, ev (.const c) = c := fun c => by rw [← hev]; rfl
        have e77 : ev (.tmp 77) = .slice A11 L11.length c11 := by rw [← hev]; exact (eval_put (by kernel_rfl) 78 rfl (by decide)).trans q11
        clear hev hd q11
        exact .inl ⟨_, W, by go_simp, ⟨L11, A11, c11, rfl, HL11, r11⟩, Below.refl _ _⟩
      · simp at hoo
    · intro uu W hVW hall
      obtain ⟨L, A, c, q12, HL, hr⟩ : ∃ L A c, uu 12 = .slice A L.length c ∧ Hid (L = [h, tos, UInt8.ofNat (al / 256), UInt8.ofNat (al % 256), UInt8.ofNat (id.toNat / 256), UInt8.ofNat (id.toNat % 256), UInt8.ofNat (wd / 256), UInt8.ofNat (wd % 256), ttl, pr, UInt8.ofNat (x / 256), UInt8.ofNat (x % 256)] ++ (be32 s ++ be32 d) ++ os) ∧ Rd bv W W.heap.size A c L := hall 12 (by decide)
      have hB := hB1.trans (hVW.mono hB1.size)
      clear hall HS hK1 ho hb12
      simp only [putAll, Act.put, Nat.reduceAdd, q12]
      simp only [List.setIfInBounds_toArray, List.set_cons_succ, List.set_cons_zero]
      go_wp2_with fail
      go_ret
      exact ⟨L, A, c, rfl, by rw [Hid, HL.out, ← HAL.out, ← HWD.out]; exact ih_eq h tos al hal16 id wd hwl ttl pr x hxx s d os, hr, hB⟩

  · obtain ⟨wd, hwd⟩ : ∃ wd : Nat, wd = fo.toNat + 16384 := ⟨_, rfl⟩
    have HWD : Hid (wd = wdN true false fo) := by rw [Hid, hwd]; simp [wdN]
    have hwl : wd ≤ 65535 := by omega
    have HWQ := Lib.hid hwd
    have o1 : IntKind.i64.wrap ((fo.toNat : Int) + 16384) = (wd : Int) := by rw [IntKind.wrap_i64, hwd]; omega
    clear hwd
    go_enter Try.func16, Try.ntmps16
    go_wp2_with fail
    rw [← hW1]
    clear hW1
    skip
    have hsz := hsz0.out
    have hb12 := lit_at W1 (w.heap.size + 1) [h, tos, UInt8.ofNat (al / 256), UInt8.ofNat (al % 256), UInt8.ofNat (id.toNat / 256), UInt8.ofNat (id.toNat % 256), UInt8.ofNat (wd / 256), UInt8.ofNat (wd % 256), ttl, pr, UInt8.ofNat (x / 256), UInt8.ofNat (x % 256)] hsz #[.int .u8 (h.toNat : Int), .int .u8 (tos.toNat : Int), .int .u8 ((al : Int) / 256), .int .u8 ((al : Int) % 256), .int .u8 ((id.toNat : Int) / 256), .int .u8 ((id.toNat : Int) % 256), .int .u8 ((wd : Int) / 256), .int .u8 ((wd : Int) % 256), .int .u8 (ttl.toNat : Int), .int .u8 (pr.toNat : Int), .int .u8 ((x : Int) / 256), .int .u8 ((x : Int) % 256)] (by simp [bv]; omega) 5 (by simp)
    replace hB1 := bnextA hB1 (.cells #[.int .u8 (h.toNat : Int), .int .u8 (tos.toNat : Int), .int .u8 ((al : Int) / 256), .int .u8 ((al : Int) % 256), .int .u8 ((id.toNat : Int) / 256), .int .u8 ((id.toNat : Int) % 256), .int .u8 ((wd : Int) / 256), .int .u8 ((wd : Int) % 256), .int .u8 (ttl.toNat : Int), .int .u8 (pr.toNat : Int), .int .u8 ((x : Int) / 256), .int .u8 ((x : Int) % 256)] 5)
    replace ho := ho.next (bnextA (Below.refl W1.heap.size W1) (.cells #[.int .u8 (h.toNat : Int), .int .u8 (tos.toNat : Int), .int .u8 ((al : Int) / 256), .int .u8 ((al : Int) % 256), .int .u8 ((id.toNat : Int) / 256), .int .u8 ((id.toNat : Int) % 256), .int .u8 ((wd : Int) / 256), .int .u8 ((wd : Int) % 256), .int .u8 (ttl.toNat : Int), .int .u8 (pr.toNat : Int), .int .u8 ((x : Int) / 256), .int .u8 ((x : Int) % 256)] 5))
    replace hK1 := hK1.alloc (.cells #[.int .u8 (h.toNat : Int), .int .u8 (tos.toNat : Int), .int .u8 ((al : Int) / 256), .int .u8 ((al : Int) % 256), .int .u8 ((id.toNat : Int) / 256), .int .u8 ((id.toNat : Int) % 256), .int .u8 ((wd : Int) / 256), .int .u8 ((wd : Int) % 256), .int .u8 (ttl.toNat : Int), .int .u8 (pr.toNat : Int), .int .u8 ((x : Int) / 256), .int .u8 ((x : Int) % 256)] 5)
    clear HS hsz hsz0 m1 m2 a1 HWQ o1
    generalize W1.alloc (.cells #[.int .u8 (h.toNat : Int), .int .u8 (tos.toNat : Int), .int .u8 ((al : Int) / 256), .int .u8 ((al : Int) % 256), .int .u8 ((id.toNat : Int) / 256), .int .u8 ((id.toNat : Int) % 256), .int .u8 ((wd : Int) / 256), .int .u8 ((wd : Int) % 256), .int .u8 (ttl.toNat : Int), .int .u8 (pr.toNat : Int), .int .u8 ((x : Int) / 256), .int .u8 ((x : Int) % 256)] 5) = V at hB1 ho hb12 hK1 ⊢
    have HS : ∀ W, Below V.heap.size V W → (W.cell? ⟨w.heap.size, 0, none⟩ = some (.int .u8 (tos.toNat : Int)) ∧ W.cell? ⟨w.heap.size, 1, none⟩ = some (.int .u16 (id.toNat : Int)) ∧ W.cell? ⟨w.heap.size, 2, none⟩ = some (.bool true) ∧ W.cell? ⟨w.heap.size, 3, none⟩ = some (.bool false) ∧ W.cell? ⟨w.heap.size, 4, none⟩ = some (.int .u16 (fo.toNat : Int)) ∧ W.cell? ⟨w.heap.size, 5, none⟩ = some (.int .u8 (ttl.toNat : Int)) ∧ W.cell? ⟨w.heap.size, 6, none⟩ = some (.int .u8 (pr.toNat : Int)) ∧ W.cell? ⟨w.heap.size, 7, none⟩ = some (.int .u32 (s.toNat : Int)) ∧ W.cell? ⟨w.heap.size, 8, none⟩ = some (.int .u32 (d.toNat : Int)) ∧ W.cell? ⟨w.heap.size, 9, none⟩ = some (.slice A1 os.length c1) ∧ W.cell? ⟨w.heap.size, 10, none⟩ = some (.slice A2 xs.length c2)) := by
      intro W h
      obtain ⟨p0, p1, p2, p3, p4, p5, p6, p7, p8, p9, p10, -⟩ := (hK1.next h).get11
      exact ⟨p0, p1, p2, p3, p4, p5, p6, p7, p8, p9, p10⟩
    refine region_put (by kernel_rfl) (by kernel_rfl) (by kernel_rfl) 78 rfl (by kernel_rfl) V (fun i v W => match i with
        | 0 => v = .slice (some ⟨w.heap.size + 1, 0, none⟩) 12 12
        | 1 => v = .pointer (some ⟨w.heap.size, 7, none⟩)
        | 2 => v = .int .u32 (s.toNat : Int)
        | 3 => ∃ L A c, v = .slice A L.length c ∧ Hid (L = be32 s) ∧ Rd bv W W.heap.size A c L
        | 4 => v = .pointer (some ⟨w.heap.size, 8, none⟩)
        | 5 => v = .int .u32 (d.toNat : Int)
        | 6 => ∃ L A c, v = .slice A L.length c ∧ Hid (L = be32 d) ∧ Rd bv W W.heap.size A c L
        | 7 => ∃ L A c, v = .slice A L.length c ∧ Hid (L = be32 s ++ be32 d) ∧ Rd bv W W.heap.size A c L
        | 8 => ∃ L A c, v = .slice A L.length c ∧ Hid (L = [h, tos, UInt8.ofNat (al / 256), UInt8.ofNat (al % 256), UInt8.ofNat (id.toNat / 256), UInt8.ofNat (id.toNat % 256), UInt8.ofNat (wd / 256), UInt8.ofNat (wd % 256), ttl, pr, UInt8.ofNat (x / 256), UInt8.ofNat (x % 256)] ++ (be32 s ++ be32 d)) ∧ Rd bv W W.heap.size A c L
        | 9 => v = .pointer (some ⟨w.heap.size, 9, none⟩)
        | 10 => v = .slice A1 os.length c1
        | 11 => ∃ L A c, v = .slice A L.length c ∧ Hid (L = [h, tos, UInt8.ofNat (al / 256), UInt8.ofNat (al % 256), UInt8.ofNat (id.toNat / 256), UInt8.ofNat (id.toNat % 256), UInt8.ofNat (wd / 256), UInt8.ofNat (wd % 256), ttl, pr, UInt8.ofNat (x / 256), UInt8.ofNat (x % 256)] ++ (be32 s ++ be32 d) ++ os) ∧ Rd bv W W.heap.size A c L
        | 12 => ∃ L A c, v = .slice A L.length c ∧ Hid (L = [h, tos, UInt8.ofNat (al / 256), UInt8.ofNat (al % 256), UInt8.ofNat (id.toNat / 256), UInt8.ofNat (id.toNat % 256), UInt8.ofNat (wd / 256), UInt8.ofNat (wd % 256), ttl, pr, UInt8.ofNat (x / 256), UInt8.ofNat (x % 256)] ++ (be32 s ++ be32 d) ++ os) ∧ Rd bv W W.heap.size A c L
        | _ => True) (Below.refl _ _) ?_ ?_ ?_
    · intro i v W W' h hb
      match i, h with
      | 0, h => exact h
      | 1, h => exact h
      | 2, h => exact h
      | 3, h => obtain ⟨L, A, c, h1, h2, h3⟩ := h; exact ⟨L, A, c, h1, h2, h3.next hb⟩
      | 4, h => exact h
      | 5, h => exact h
      | 6, h => obtain ⟨L, A, c, h1, h2, h3⟩ := h; exact ⟨L, A, c, h1, h2, h3.next hb⟩
      | 7, h => obtain ⟨L, A, c, h1, h2, h3⟩ := h; exact ⟨L, A, c, h1, h2, h3.next hb⟩
      | 8, h => obtain ⟨L, A, c, h1, h2, h3⟩ := h; exact ⟨L, A, c, h1, h2, h3.next hb⟩
      | 9, h => exact h
      | 10, h => exact h
      | 11, h => obtain ⟨L, A, c, h1, h2, h3⟩ := h; exact ⟨L, A, c, h1, h2, h3.next hb⟩
      | 12, h => obtain ⟨L, A, c, h1, h2, h3⟩ := h; exact ⟨L, A, c, h1, h2, h3.next hb⟩
      | _ + 13, _ => trivial
    · intro i o uu W hoo hVW hd
      rcases i with _|_|_|_|_|_|_|_|_|_|_|_|_|i
      · obtain rfl := Option.some.inj hoo
        refine .inl ⟨wanted_none rfl, ?_⟩
        generalize hev : Act.eval _ = ev
        have ec : ∀ c, ev (.const c) = c := fun c => by rw [← hev]; rfl
        have e8 : ev (.tmp 8) = .slice (some ⟨w.heap.size + 1, 0, none⟩) 12 12 := by rw [← hev]; exact eval_old (by kernel_rfl) 78 rfl (by decide) rfl
        clear hev hd
        exact .inl ⟨_, W, by go_simp, rfl, Below.refl _ _⟩
      · obtain rfl := Option.some.inj hoo
        refine .inl ⟨wanted_none rfl, ?_⟩
        generalize hev : Act.eval _ = ev
        have ec : ∀ c, ev (.const c) = c := fun c => by rw [← hev]; rfl
        have e2 : ev (.tmp 2) = .pointer (some ⟨w.heap.size, 0, none⟩) := by rw [← hev]; exact eval_old (by kernel_rfl) 78 rfl (by decide) rfl
        clear hev hd
        exact .inl ⟨_, W, by go_simp, rfl, Below.refl _ _⟩
      · obtain rfl := Option.some.inj hoo
        have q1 : uu 1 = .pointer (some ⟨w.heap.size, 7, none⟩) := hd 1 (by kernel_rfl)
        refine .inl ⟨wanted_none rfl, ?_⟩
        generalize hev : Act.eval _ = ev
        have ec : ∀ c, ev (.const c) = c := fun c => by rw [← hev]; rfl
        have e67 : ev (.tmp 67) = .pointer (some ⟨w.heap.size, 7, none⟩) := by rw [← hev]; exact (eval_put (by kernel_rfl) 78 rfl (by decide)).trans q1
        clear hev hd q1
        obtain ⟨cc0, cc1, cc2, cc3, cc4, cc5, cc6, cc7, cc8, cc9, cc10⟩ := HS W hVW
        exact .inl ⟨_, W, by go_simp, rfl, Below.refl _ _⟩
      · obtain rfl := Option.some.inj hoo
        have q2 : uu 2 = .int .u32 (s.toNat : Int) := hd 2 (by kernel_rfl)
        refine .inl ⟨wanted_none rfl, ?_⟩
        generalize hev : Act.eval _ = ev
        have ec : ∀ c, ev (.const c) = c := fun c => by rw [← hev]; rfl
        have ef : ∀ f, ev (.func f) = .func (.func f) #[] #[] := fun f => by rw [← hev]; rfl
        have e68 : ev (.tmp 68) = .int .u32 (s.toNat : Int) := by rw [← hev]; exact (eval_put (by kernel_rfl) 78 rfl (by decide)).trans q2
        clear hev hd q2
        exact .inr ⟨_, _, _, by go_simp, rput_any s.toNat 4 W (s.toNat_lt) (by omega), fun e w' he => by
          obtain ⟨v, rfl, hown, hb⟩ := he
          obtain ⟨L, A, c, HL, rfl, hr⟩ := hown.rdv
          exact ⟨_, rfl, ⟨L, A, c, rfl, by rw [Hid, HL.out, ← be32_put], hr⟩, hb⟩⟩
      · obtain rfl := Option.some.inj hoo
        refine .inl ⟨wanted_none rfl, ?_⟩
        generalize hev : Act.eval _ = ev
        have ec : ∀ c, ev (.const c) = c := fun c => by rw [← hev]; rfl
        have e2 : ev (.tmp 2) = .pointer (some ⟨w.heap.size, 0, none⟩) := by rw [← hev]; exact eval_old (by kernel_rfl) 78 rfl (by decide) rfl
        clear hev hd
        exact .inl ⟨_, W, by go_simp, rfl, Below.refl _ _⟩
      · obtain rfl := Option.some.inj hoo
        have q4 : uu 4 = .pointer (some ⟨w.heap.size, 8, none⟩) := hd 4 (by kernel_rfl)
        refine .inl ⟨wanted_none rfl, ?_⟩
        generalize hev : Act.eval _ = ev
        have ec : ∀ c, ev (.const c) = c := fun c => by rw [← hev]; rfl
        have e70 : ev (.tmp 70) = .pointer (some ⟨w.heap.size, 8, none⟩) := by rw [← hev]; exact (eval_put (by kernel_rfl) 78 rfl (by decide)).trans q4
        clear hev hd q4
        obtain ⟨cc0, cc1, cc2, cc3, cc4, cc5, cc6, cc7, cc8, cc9, cc10⟩ := HS W hVW
        exact .inl ⟨_, W, by go_simp, rfl, Below.refl _ _⟩
      · obtain rfl := Option.some.inj hoo
        have q5 : uu 5 = .int .u32 (d.toNat : Int) := hd 5 (by kernel_rfl)
        refine .inl ⟨wanted_none rfl, ?_⟩
        generalize hev : Act.eval _ = ev
        have ec : ∀ c, ev (.const c) = c := fun c => by rw [← hev]; rfl
        have ef : ∀ f, ev (.func f) = .func (.func f) #[] #[] := fun f => by rw [← hev]; rfl
        have e71 : ev (.tmp 71) = .int .u32 (d.toNat : Int) := by rw [← hev]; exact (eval_put (by kernel_rfl) 78 rfl (by decide)).trans q5
        clear hev hd q5
        exact .inr ⟨_, _, _, by go_simp, rput_any d.toNat 4 W (d.toNat_lt) (by omega), fun e w' he => by
          obtain ⟨v, rfl, hown, hb⟩ := he
          obtain ⟨L, A, c, HL, rfl, hr⟩ := hown.rdv
          exact ⟨_, rfl, ⟨L, A, c, rfl, by rw [Hid, HL.out, ← be32_put], hr⟩, hb⟩⟩
      · obtain rfl := Option.some.inj hoo
        obtain ⟨L3, A3, c3, q3, HL3, r3⟩ := hd 3 (by kernel_rfl)
        obtain ⟨L6, A6, c6, q6, HL6, r6⟩ := hd 6 (by kernel_rfl)
        refine .inl ⟨wanted_none rfl, ?_⟩
        generalize hev : Act.eval _ = ev
        have ec : ∀ c, ev (.const c) = c := fun c => by rw [← hev]; rfl
        have ef : ∀ f, ev (.func f) = .func (.func f) #[] #[] := fun f => by rw [← hev]; rfl
        have e69 : ev (.tmp 69) = .slice A3 L3.length c3 := by rw [← hev]; exact (eval_put (by kernel_rfl) 78 rfl (by decide)).trans q3
        have e72 : ev (.tmp 72) = .slice A6 L6.length c6 := by rw [← hev]; exact (eval_put (by kernel_rfl) 78 rfl (by decide)).trans q6
        clear hev hd q3 q6
        exact .inr ⟨_, _, _, by go_simp, radd_any _ _ _ _ L3 L6 W r3 r6 (by rw [HL3.out, HL6.out]; simp [be32]), fun e w' he => by
          obtain ⟨v, rfl, hown, hb⟩ := he
          obtain ⟨L, A, c, HL, rfl, hr⟩ := hown.rdv
          exact ⟨_, rfl, ⟨L, A, c, rfl, by rw [Hid, HL.out, HL3.out, HL6.out], hr⟩, hb⟩⟩
      · obtain rfl := Option.some.inj hoo
        have q0 : uu 0 = .slice (some ⟨w.heap.size + 1, 0, none⟩) 12 12 := hd 0 (by kernel_rfl)
        obtain ⟨L7, A7, c7, q7, HL7, r7⟩ := hd 7 (by kernel_rfl)
        refine .inl ⟨wanted_none rfl, ?_⟩
        generalize hev : Act.eval _ = ev
        have ec : ∀ c, ev (.const c) = c := fun c => by rw [← hev]; rfl
        have ef : ∀ f, ev (.func f) = .func (.func f) #[] #[] := fun f => by rw [← hev]; rfl
        have e66 : ev (.tmp 66) = .slice (some ⟨w.heap.size + 1, 0, none⟩) 12 12 := by rw [← hev]; exact (eval_put (by kernel_rfl) 78 rfl (by decide)).trans q0
        have e73 : ev (.tmp 73) = .slice A7 L7.length c7 := by rw [← hev]; exact (eval_put (by kernel_rfl) 78 rfl (by decide)).trans q7
        clear hev hd q0 q7
        exact .inr ⟨_, _, _, by go_simp, radd_any (some ⟨w.heap.size + 1, 0, none⟩) _ 12 _ [h, tos, UInt8.ofNat (al / 256), UInt8.ofNat (al % 256), UInt8.ofNat (id.toNat / 256), UInt8.ofNat (id.toNat % 256), UInt8.ofNat (wd / 256), UInt8.ofNat (wd % 256), ttl, pr, UInt8.ofNat (x / 256), UInt8.ofNat (x % 256)] L7 W (hb12.next hVW) r7 (by rw [HL7.out]; simp [be32]), fun e w' he => by
          obtain ⟨v, rfl, hown, hb⟩ := he
          obtain ⟨L, A, c, HL, rfl, hr⟩ := hown.rdv
          exact ⟨_, rfl, ⟨L, A, c, rfl, by rw [Hid, HL.out, HL7.out], hr⟩, hb⟩⟩
      · obtain rfl := Option.some.inj hoo
        refine .inl ⟨wanted_none rfl, ?_⟩
        generalize hev : Act.eval _ = ev
        have ec : ∀ c, ev (.const c) = c := fun c => by rw [← hev]; rfl
        have e2 : ev (.tmp 2) = .pointer (some ⟨w.heap.size, 0, none⟩) := by rw [← hev]; exact eval_old (by kernel_rfl) 78 rfl (by decide) rfl
        clear hev hd
        exact .inl ⟨_, W, by go_simp, rfl, Below.refl _ _⟩
      · obtain rfl := Option.some.inj hoo
        have q9 : uu 9 = .pointer (some ⟨w.heap.size, 9, none⟩) := hd 9 (by kernel_rfl)
        refine .inl ⟨wanted_none rfl, ?_⟩
        generalize hev : Act.eval _ = ev
        have ec : ∀ c, ev (.const c) = c := fun c => by rw [← hev]; rfl
        have e75 : ev (.tmp 75) = .pointer (some ⟨w.heap.size, 9, none⟩) := by rw [← hev]; exact (eval_put (by kernel_rfl) 78 rfl (by decide)).trans q9
        clear hev hd q9
        obtain ⟨cc0, cc1, cc2, cc3, cc4, cc5, cc6, cc7, cc8, cc9, cc10⟩ := HS W hVW
        exact .inl ⟨_, W, by go_simp, rfl, Below.refl _ _⟩
      · obtain rfl := Option.some.inj hoo
        obtain ⟨L8, A8, c8, q8, HL8, r8⟩ := hd 8 (by kernel_rfl)
        have q10 : uu 10 = .slice A1 os.length c1 := hd 10 (by kernel_rfl)
        refine .inl ⟨wanted_none rfl, ?_⟩
        generalize hev : Act.eval _ = ev
        have ec : ∀ c, ev (.const c) = c := fun c => by rw [← hev]; rfl
        have ef : ∀ f, ev (.func f) = .func (.func f) #[] #[] := fun f => by rw [← hev]; rfl
        have e74 : ev (.tmp 74) = .slice A8 L8.length c8 := by rw [← hev]; exact (eval_put (by kernel_rfl) 78 rfl (by decide)).trans q8
        have e76 : ev (.tmp 76) = .slice A1 os.length c1 := by rw [← hev]; exact (eval_put (by kernel_rfl) 78 rfl (by decide)).trans q10
        clear hev hd q8 q10
        exact .inr ⟨_, _, _, by go_simp, radd_any _ _ _ _ L8 os W r8 (ho.next hVW) (by rw [HL8.out]; simp [be32]; omega), fun e w' he => by
          obtain ⟨v, rfl, hown, hb⟩ := he
          obtain ⟨L, A, c, HL, rfl, hr⟩ := hown.rdv
          exact ⟨_, rfl, ⟨L, A, c, rfl, by rw [Hid, HL.out, HL8.out], hr⟩, hb⟩⟩
      · obtain rfl := Option.some.inj hoo
        obtain ⟨L11, A11, c11, q11, HL11, r11⟩ := hd 11 (by kernel_rfl)
        refine .inl ⟨wanted_none rfl, ?_⟩
        generalize hev : Act.eval _ = ev
        have ec : ∀ c, ev (.const c) = c := fun c => by rw [← hev]; rfl
        have e77 : ev (.tmp 77) = .slice A11 L11.length c11 := by rw [← hev]; exact (eval_put (by kernel_rfl) 78 rfl (by decide)).trans q11
        clear hev hd q11
        exact .inl ⟨_, W, by go_simp, ⟨L11, A11, c11, rfl, HL11, r11⟩, Below.refl _ _⟩
      · simp at hoo
    · intro uu W hVW hall
      obtain ⟨L, A, c, q12, HL, hr⟩ : ∃ L A c, uu 12 = .slice A L.length c ∧ Hid (L = [h, tos, UInt8.ofNat (al / 256), UInt8.ofNat (al % 256), UInt8.ofNat (id.toNat / 256), UInt8.ofNat (id.toNat % 256), UInt8.ofNat (wd / 256), UInt8.ofNat (wd % 256), ttl, pr, UInt8.ofNat (x / 256), UInt8.ofNat (x % 256)] ++ (be32 s ++ be32 d) ++ os) ∧ Rd bv W W.heap.size A c L := hall 12 (by decide)
      have hB := hB1.trans (hVW.mono hB1.size)
      clear hall HS hK1 ho hb12
      simp only [putAll, Act.put, Nat.reduceAdd, q12]
      simp only [List.setIfInBounds_toArray, List.set_cons_succ, List.set_cons_zero]
      go_wp2_with fail
      go_ret
      exact ⟨L, A, c, rfl, by rw [Hid, HL.out, ← HAL.out, ← HWD.out]; exact ih_eq h tos al hal16 id wd hwl ttl pr x hxx s d os, hr, hB⟩

  · obtain ⟨wd, hwd⟩ : ∃ wd : Nat, wd = fo.toNat + 16384 + 8192 := ⟨_, rfl⟩
    have HWD : Hid (wd = wdN true true fo) := by rw [Hid, hwd]; simp [wdN]
    have hwl : wd ≤ 65535 := by omega
    have HWQ := Lib.hid hwd
    have o1 : IntKind.i64.wrap ((fo.toNat : Int) + 16384) = (fo.toNat : Int) + 16384 := by rw [IntKind.wrap_i64]; omega
    have o2 : IntKind.i64.wrap ((fo.toNat : Int) + 16384 + 8192) = (wd : Int) := by rw [IntKind.wrap_i64, hwd]; omega
    clear hwd
    go_enter Try.func16, Try.ntmps16
    go_wp2_with fail
    rw [← hW1]
    clear hW1
    skip
    have hsz := hsz0.out
    have hb12 := lit_at W1 (w.heap.size + 1) [h, tos, UInt8.ofNat (al / 256), UInt8.ofNat (al % 256), UInt8.ofNat (id.toNat / 256), UInt8.ofNat (id.toNat % 256), UInt8.ofNat (wd / 256), UInt8.ofNat (wd % 256), ttl, pr, UInt8.ofNat (x / 256), UInt8.ofNat (x % 256)] hsz #[.int .u8 (h.toNat : Int), .int .u8 (tos.toNat : Int), .int .u8 ((al : Int) / 256), .int .u8 ((al : Int) % 256), .int .u8 ((id.toNat : Int) / 256), .int .u8 ((id.toNat : Int) % 256), .int .u8 ((wd : Int) / 256), .int .u8 ((wd : Int) % 256), .int .u8 (ttl.toNat : Int), .int .u8 (pr.toNat : Int), .int .u8 ((x : Int) / 256), .int .u8 ((x : Int) % 256)] (by simp [bv]; omega) 5 (by simp)
    replace hB1 := bnextA hB1 (.cells #[.int .u8 (h.toNat : Int), .int .u8 (tos.toNat : Int), .int .u8 ((al : Int) / 256), .int .u8 ((al : Int) % 256), .int .u8 ((id.toNat : Int) / 256), .int .u8 ((id.toNat : Int) % 256), .int .u8 ((wd : Int) / 256), .int .u8 ((wd : Int) % 256), .int .u8 (ttl.toNat : Int), .int .u8 (pr.toNat : Int), .int .u8 ((x : Int) / 256), .int .u8 ((x : Int) % 256)] 5)
    replace ho := ho.next (bnextA (Below.refl W1.heap.size W1) (.cells #[.int .u8 (h.toNat : Int), .int .u8 (tos.toNat : Int), .int .u8 ((al : Int) / 256), .int .u8 ((al : Int) % 256), .int .u8 ((id.toNat : Int) / 256), .int .u8 ((id.toNat : Int) % 256), .int .u8 ((wd : Int) / 256), .int .u8 ((wd : Int) % 256), .int .u8 (ttl.toNat : Int), .int .u8 (pr.toNat : Int), .int .u8 ((x : Int) / 256), .int .u8 ((x : Int) % 256)] 5))
    replace hK1 := hK1.alloc (.cells #[.int .u8 (h.toNat : Int), .int .u8 (tos.toNat : Int), .int .u8 ((al : Int) / 256), .int .u8 ((al : Int) % 256), .int .u8 ((id.toNat : Int) / 256), .int .u8 ((id.toNat : Int) % 256), .int .u8 ((wd : Int) / 256), .int .u8 ((wd : Int) % 256), .int .u8 (ttl.toNat : Int), .int .u8 (pr.toNat : Int), .int .u8 ((x : Int) / 256), .int .u8 ((x : Int) % 256)] 5)
    clear HS hsz hsz0 m1 m2 a1 HWQ o1 o2
    generalize W1.alloc (.cells #[.int .u8 (h.toNat : Int), .int .u8 (tos.toNat : Int), .int .u8 ((al : Int) / 256), .int .u8 ((al : Int) % 256), .int .u8 ((id.toNat : Int) / 256), .int .u8 ((id.toNat : Int) % 256), .int .u8 ((wd : Int) / 256), .int .u8 ((wd : Int) % 256), .int .u8 (ttl.toNat : Int), .int .u8 (pr.toNat : Int), .int .u8 ((x : Int) / 256), .int .u8 ((x : Int) % 256)] 5) = V at hB1 ho hb12 hK1 ⊢
    have HS : ∀ W, Below V.heap.size V W → (W.cell? ⟨w.heap.size, 0, none⟩ = some (.int .u8 (tos.toNat : Int)) ∧ W.cell? ⟨w.heap.size, 1, none⟩ = some (.int .u16 (id.toNat : Int)) ∧ W.cell? ⟨w.heap.size, 2, none⟩ = some (.bool true) ∧ W.cell? ⟨w.heap.size, 3, none⟩ = some (.bool true) ∧ W.cell? ⟨w.heap.size, 4, none⟩ = some (.int .u16 (fo.toNat : Int)) ∧ W.cell? ⟨w.heap.size, 5, none⟩ = some (.int .u8 (ttl.toNat : Int)) ∧ W.cell? ⟨w.heap.size, 6, none⟩ = some (.int .u8 (pr.toNat : Int)) ∧ W.cell? ⟨w.heap.size, 7, none⟩ = some (.int .u32 (s.toNat : Int)) ∧ W.cell? ⟨w.heap.size, 8, none⟩ = some (.int .u32 (d.toNat : Int)) ∧ W.cell? ⟨w.heap.size, 9, none⟩ = some (.slice A1 os.length c1) ∧ W.cell? ⟨w.heap.size, 10, none⟩ = some (.slice A2 xs.length c2)) := by
      intro W h
      obtain ⟨p0, p1, p2, p3, p4, p5, p6, p7, p8, p9, p10, -⟩ := (hK1.next h).get11
      exact ⟨p0, p1, p2, p3, p4, p5, p6, p7, p8, p9, p10⟩
    refine region_put (by kernel_rfl) (by kernel_rfl) (by kernel_rfl) 78 rfl (by kernel_rfl) V (fun i v W => match i with
        | 0 => v = .slice (some ⟨w.heap.size + 1, 0, none⟩) 12 12
        | 1 => v = .pointer (some ⟨w.heap.size, 7, none⟩)
        | 2 => v = .int .u32 (s.toNat : Int)
        | 3 => ∃ L A c, v = .slice A L.length c ∧ Hid (L = be32 s) ∧ Rd bv W W.heap.size A c L
        | 4 => v = .pointer (some ⟨w.heap.size, 8, none⟩)
        | 5 => v = .int .u32 (d.toNat : Int)
        | 6 => ∃ L A c, v = .slice A L.length c ∧ Hid (L = be32 d) ∧ Rd bv W W.heap.size A c L
        | 7 => ∃ L A c, v = .slice A L.length c ∧ Hid (L = be32 s ++ be32 d) ∧ Rd bv W W.heap.size A c L
        | 8 => ∃ L A c, v = .slice A L.length c ∧ Hid (L = [h, tos, UInt8.ofNat (al / 256), UInt8.ofNat (al % 256), UInt8.ofNat (id.toNat / 256), UInt8.ofNat (id.toNat % 256), UInt8.ofNat (wd / 256), UInt8.ofNat (wd % 256), ttl, pr, UInt8.ofNat (x / 256), UInt8.ofNat (x % 256)] ++ (be32 s ++ be32 d)) ∧ Rd bv W W.heap.size A c L
        | 9 => v = .pointer (some ⟨w.heap.size, 9, none⟩)
        | 10 => v = .slice A1 os.length c1
        | 11 => ∃ L A c, v = .slice A L.length c ∧ Hid (L = [h, tos, UInt8.ofNat (al / 256), UInt8.ofNat (al % 256), UInt8.ofNat (id.toNat / 256), UInt8.ofNat (id.toNat % 256), UInt8.ofNat (wd / 256), UInt8.ofNat (wd % 256), ttl, pr, UInt8.ofNat (x / 256), UInt8.ofNat (x % 256)] ++ (be32 s ++ be32 d) ++ os) ∧ Rd bv W W.heap.size A c L
        | 12 => ∃ L A c, v = .slice A L.length c ∧ Hid (L = [h, tos, UInt8.ofNat (al / 256), UInt8.ofNat (al % 256), UInt8.ofNat (id.toNat / 256), UInt8.ofNat (id.toNat % 256), UInt8.ofNat (wd / 256), UInt8.ofNat (wd % 256), ttl, pr, UInt8.ofNat (x / 256), UInt8.ofNat (x % 256)] ++ (be32 s ++ be32 d) ++ os) ∧ Rd bv W W.heap.size A c L
        | _ => True) (Below.refl _ _) ?_ ?_ ?_
    · intro i v W W' h hb
      match i, h with
      | 0, h => exact h
      | 1, h => exact h
      | 2, h => exact h
      | 3, h => obtain ⟨L, A, c, h1, h2, h3⟩ := h; exact ⟨L, A, c, h1, h2, h3.next hb⟩
      | 4, h => exact h
      | 5, h => exact h
      | 6, h => obtain ⟨L, A, c, h1, h2, h3⟩ := h; exact ⟨L, A, c, h1, h2, h3.next hb⟩
      | 7, h => obtain ⟨L, A, c, h1, h2, h3⟩ := h; exact ⟨L, A, c, h1, h2, h3.next hb⟩
      | 8, h => obtain ⟨L, A, c, h1, h2, h3⟩ := h; exact ⟨L, A, c, h1, h2, h3.next hb⟩
      | 9, h => exact h
      | 10, h => exact h
      | 11, h => obtain ⟨L, A, c, h1, h2, h3⟩ := h; exact ⟨L, A, c, h1, h2, h3.next hb⟩
      | 12, h => obtain ⟨L, A, c, h1, h2, h3⟩ := h; exact ⟨L, A, c, h1, h2, h3.next hb⟩
      | _ + 13, _ => trivial
    · intro i o uu W hoo hVW hd
      rcases i with _|_|_|_|_|_|_|_|_|_|_|_|_|i
      · obtain rfl := Option.some.inj hoo
        refine .inl ⟨wanted_none rfl, ?_⟩
        generalize hev : Act.eval _ = ev
        have ec : ∀ c, ev (.const c) = c := fun c => by rw [← hev]; rfl
        have e8 : ev (.tmp 8) = .slice (some ⟨w.heap.size + 1, 0, none⟩) 12 12 := by rw [← hev]; exact eval_old (by kernel_rfl) 78 rfl (by decide) rfl
        clear hev hd
        exact .inl ⟨_, W, by go_simp, rfl, Below.refl _ _⟩
      · obtain rfl := Option.some.inj hoo
        refine .inl ⟨wanted_none rfl, ?_⟩
        generalize hev : Act.eval _ = ev
        have ec : ∀ c, ev (.const c) = c := fun c => by rw [← hev]; rfl
        have e2 : ev (.tmp 2) = .pointer (some ⟨w.heap.size, 0, none⟩) := by rw [← hev]; exact eval_old (by kernel_rfl) 78 rfl (by decide) rfl
        clear hev hd
        exact .inl ⟨_, W, by go_simp, rfl, Below.refl _ _⟩
      · obtain rfl := Option.some.inj hoo
        have q1 : uu 1 = .pointer (some ⟨w.heap.size, 7, none⟩) := hd 1 (by kernel_rfl)
        refine .inl ⟨wanted_none rfl, ?_⟩
        generalize hev : Act.eval _ = ev
        have ec : ∀ c, ev (.const c) = c := fun c => by rw [← hev]; rfl
        have e67 : ev (.tmp 67) = .pointer (some ⟨w.heap.size, 7, none⟩) := by rw [← hev]; exact (eval_put (by kernel_rfl) 78 rfl (by decide)).trans q1
        clear hev hd q1
        obtain ⟨cc0, cc1, cc2, cc3, cc4, cc5, cc6, cc7, cc8, cc9, cc10⟩ := HS W hVW
        exact .inl ⟨_, W, by go_simp, rfl, Below.refl _ _⟩
      · obtain rfl := Option.some.inj hoo
        have q2 : uu 2 = .int .u32 (s.toNat : Int) := hd 2 (by kernel_rfl)
        refine .inl ⟨wanted_none rfl, ?_⟩
        generalize hev : Act.eval _ = ev
        have ec : ∀ c, ev (.const c) = c := fun c => by rw [← hev]; rfl
        have ef : ∀ f, ev (.func f) = .func (.func f) #[] #[] := fun f => by rw [← hev]; rfl
        have e68 : ev (.tmp 68) = .int .u32 (s.toNat : Int) := by rw [← hev]; exact (eval_put (by kernel_rfl) 78 rfl (by decide)).trans q2
        clear hev hd q2
        exact .inr ⟨_, _, _, by go_simp, rput_any s.toNat 4 W (s.toNat_lt) (by omega), fun e w' he => by
          obtain ⟨v, rfl, hown, hb⟩ := he
          obtain ⟨L, A, c, HL, rfl, hr⟩ := hown.rdv
          exact ⟨_, rfl, ⟨L, A, c, rfl, by rw [Hid, HL.out, ← be32_put], hr⟩, hb⟩⟩
      · obtain rfl := Option.some.inj hoo
        refine .inl ⟨wanted_none rfl, ?_⟩
        generalize hev : Act.eval _ = ev
        have ec : ∀ c, ev (.const c) = c := fun c => by rw [← hev]; rfl
        have e2 : ev (.tmp 2) = .pointer (some ⟨w.heap.size, 0, none⟩) := by rw [← hev]; exact eval_old (by kernel_rfl) 78 rfl (by decide) rfl
        clear hev hd
        exact .inl ⟨_, W, by go_simp, rfl, Below.refl _ _⟩
      · obtain rfl := Option.some.inj hoo
        have q4 : uu 4 = .pointer (some ⟨w.heap.size, 8, none⟩) := hd 4 (by kernel_rfl)
        refine .inl ⟨wanted_none rfl, ?_⟩
        generalize hev : Act.eval _ = ev
        have ec : ∀ c, ev (.const c) = c := fun c => by rw [← hev]; rfl
        have e70 : ev (.tmp 70) = .pointer (some ⟨w.heap.size, 8, none⟩) := by rw [← hev]; exact (eval_put (by kernel_rfl) 78 rfl (by decide)).trans q4
        clear hev hd q4
        obtain ⟨cc0, cc1, cc2, cc3, cc4, cc5, cc6, cc7, cc8, cc9, cc10⟩ := HS W hVW
        exact .inl ⟨_, W, by go_simp, rfl, Below.refl _ _⟩
      · obtain rfl := Option.some.inj hoo
        have q5 : uu 5 = .int .u32 (d.toNat : Int) := hd 5 (by kernel_rfl)
        refine .inl ⟨wanted_none rfl, ?_⟩
        generalize hev : Act.eval _ = ev
        have ec : ∀ c, ev (.const c) = c := fun c => by rw [← hev]; rfl
        have ef : ∀ f, ev (.func f) = .func (.func f) #[] #[] := fun f => by rw [← hev]; rfl
        have e71 : ev (.tmp 71) = .int .u32 (d.toNat : Int) := by rw [← hev]; exact (eval_put (by kernel_rfl) 78 rfl (by decide)).trans q5
        clear hev hd q5
        exact .inr ⟨_, _, _, by go_simp, rput_any d.toNat 4 W (d.toNat_lt) (by omega), fun e w' he => by
          obtain ⟨v, rfl, hown, hb⟩ := he
          obtain ⟨L, A, c, HL, rfl, hr⟩ := hown.rdv
          exact ⟨_, rfl, ⟨L, A, c, rfl, by rw [Hid, HL.out, ← be32_put], hr⟩, hb⟩⟩
      · obtain rfl := Option.some.inj hoo
        obtain ⟨L3, A3, c3, q3, HL3, r3⟩ := hd 3 (by kernel_rfl)
        obtain ⟨L6, A6, c6, q6, HL6, r6⟩ := hd 6 (by kernel_rfl)
        refine .inl ⟨wanted_none rfl, ?_⟩
        generalize hev : Act.eval _ = ev
        have ec : ∀ c, ev (.const c) = c := fun c => by rw [← hev]; rfl
        have ef : ∀ f, ev (.func f) = .func (.func f) #[] #[] := fun f => by rw [← hev]; rfl
        have e69 : ev (.tmp 69) = .slice A3 L3.length c3 := by rw [← hev]; exact (eval_put (by kernel_rfl) 78 rfl (by decide)).trans q3
        have e72 : ev (.tmp 72) = .slice A6 L6.length c6 := by rw [← hev]; exact (eval_put (by kernel_rfl) 78 rfl (by decide)).trans q6
        clear hev hd q3 q6
        exact .inr ⟨_, _, _, by go_simp, radd_any _ _ _ _ L3 L6 W r3 r6 (by rw [HL3.out, HL6.out]; simp [be32]), fun e w' he => by
          obtain ⟨v, rfl, hown, hb⟩ := he
          obtain ⟨L, A, c, HL, rfl, hr⟩ := hown.rdv
          exact ⟨_, rfl, ⟨L, A, c, rfl, by rw [Hid, HL.out, HL3.out, HL6.out], hr⟩, hb⟩⟩
      · obtain rfl := Option.some.inj hoo
        have q0 : uu 0 = .slice (some ⟨w.heap.size + 1, 0, none⟩) 12 12 := hd 0 (by kernel_rfl)
        obtain ⟨L7, A7, c7, q7, HL7, r7⟩ := hd 7 (by kernel_rfl)
        refine .inl ⟨wanted_none rfl, ?_⟩
        generalize hev : Act.eval _ = ev
        have ec : ∀ c, ev (.const c) = c := fun c => by rw [← hev]; rfl
        have ef : ∀ f, ev (.func f) = .func (.func f) #[] #[] := fun f => by rw [← hev]; rfl
        have e66 : ev (.tmp 66) = .slice (some ⟨w.heap.size + 1, 0, none⟩) 12 12 := by rw [← hev]; exact (eval_put (by kernel_rfl) 78 rfl (by decide)).trans q0
        have e73 : ev (.tmp 73) = .slice A7 L7.length c7 := by rw [← hev]; exact (eval_put (by kernel_rfl) 78 rfl (by decide)).trans q7
        clear hev hd q0 q7
        exact .inr ⟨_, _, _, by go_simp, radd_any (some ⟨w.heap.size + 1, 0, none⟩) _ 12 _ [h, tos, UInt8.ofNat (al / 256), UInt8.ofNat (al % 256), UInt8.ofNat (id.toNat / 256), UInt8.ofNat (id.toNat % 256), UInt8.ofNat (wd / 256), UInt8.ofNat (wd % 256), ttl, pr, UInt8.ofNat (x / 256), UInt8.ofNat (x % 256)] L7 W (hb12.next hVW) r7 (by rw [HL7.out]; simp [be32]), fun e w' he => by
          obtain ⟨v, rfl, hown, hb⟩ := he
          obtain ⟨L, A, c, HL, rfl, hr⟩ := hown.rdv
          exact ⟨_, rfl, ⟨L, A, c, rfl, by rw [Hid, HL.out, HL7.out], hr⟩, hb⟩⟩
      · obtain rfl := Option.some.inj hoo
        refine .inl ⟨wanted_none rfl, ?_⟩
        generalize hev : Act.eval _ = ev
        have ec : ∀ c, ev (.const c) = c := fun c => by rw [← hev]; rfl
        have e2 : ev (.tmp 2) = .pointer (some ⟨w.heap.size, 0, none⟩) := by rw [← hev]; exact eval_old (by kernel_rfl) 78 rfl (by decide) rfl
        clear hev hd
        exact .inl ⟨_, W, by go_simp, rfl, Below.refl _ _⟩
      · obtain rfl := Option.some.inj hoo
        have q9 : uu 9 = .pointer (some ⟨w.heap.size, 9, none⟩) := hd 9 (by kernel_rfl)
        refine .inl ⟨wanted_none rfl, ?_⟩
        generalize hev : Act.eval _ = ev
        have ec : ∀ c, ev (.const c) = c := fun c => by rw [← hev]; rfl
        have e75 : ev (.tmp 75) = .pointer (some ⟨w.heap.size, 9, none⟩) := by rw [← hev]; exact (eval_put (by kernel_rfl) 78 rfl (by decide)).trans q9
        clear hev hd q9
        obtain ⟨cc0, cc1, cc2, cc3, cc4, cc5, cc6, cc7, cc8, cc9, cc10⟩ := HS W hVW
        exact .inl ⟨_, W, by go_simp, rfl, Below.refl _ _⟩
      · obtain rfl := Option.some.inj hoo
        obtain ⟨L8, A8, c8, q8, HL8, r8⟩ := hd 8 (by kernel_rfl)
        have q10 : uu 10 = .slice A1 os.length c1 := hd 10 (by kernel_rfl)
        refine .inl ⟨wanted_none rfl, ?_⟩
        generalize hev : Act.eval _ = ev
        have ec : ∀ c, ev (.const c) = c := fun c => by rw [← hev]; rfl
        have ef : ∀ f, ev (.func f) = .func (.func f) #[] #[] := fun f => by rw [← hev]; rfl
        have e74 : ev (.tmp 74) = .slice A8 L8.length c8 := by rw [← hev]; exact (eval_put (by kernel_rfl) 78 rfl (by decide)).trans q8
        have e76 : ev (.tmp 76) = .slice A1 os.length c1 := by rw [← hev]; exact (eval_put (by kernel_rfl) 78 rfl (by decide)).trans q10
        clear hev hd q8 q10
        exact .inr ⟨_, _, _, by go_simp, radd_any _ _ _ _ L8 os W r8 (ho.next hVW) (by rw [HL8.out]; simp [be32]; omega), fun e w' he => by
          obtain ⟨v, rfl, hown, hb⟩ := he
          obtain ⟨L, A, c, HL, rfl, hr⟩ := hown.rdv
          exact ⟨_, rfl, ⟨L, A, c, rfl, by rw [Hid, HL.out, HL8.out], hr⟩, hb⟩⟩
      · obtain rfl := Option.some.inj hoo
        obtain ⟨L11, A11, c11, q11, HL11, r11⟩ := hd 11 (by kernel_rfl)
        refine .inl ⟨wanted_none rfl, ?_⟩
        generalize hev : Act.eval _ = ev
        have ec : ∀ c, ev (.const c) = c := fun c => by rw [← hev]; rfl
        have e77 : ev (.tmp 77) = .slice A11 L11.length c11 := by rw [← hev]; exact (eval_put (by kernel_rfl) 78 rfl (by decide)).trans q11
        clear hev hd q11
        exact .inl ⟨_, W, by go_simp, ⟨L11, A11, c11, rfl, HL11, r11⟩, Below.refl _ _⟩
      · simp at hoo
    · intro uu W hVW hall
      obtain ⟨L, A, c, q12, HL, hr⟩ : ∃ L A c, uu 12 = .slice A L.length c ∧ Hid (L = [h, tos, UInt8.ofNat (al / 256), UInt8.ofNat (al % 256), UInt8.ofNat (id.toNat / 256), UInt8.ofNat (id.toNat % 256), UInt8.ofNat (wd / 256), UInt8.ofNat (wd % 256), ttl, pr, UInt8.ofNat (x / 256), UInt8.ofNat (x % 256)] ++ (be32 s ++ be32 d) ++ os) ∧ Rd bv W W.heap.size A c L := hall 12 (by decide)
      have hB := hB1.trans (hVW.mono hB1.size)
      clear hall HS hK1 ho hb12
      simp only [putAll, Act.put, Nat.reduceAdd, q12]
      simp only [List.setIfInBounds_toArray, List.set_cons_succ, List.set_cons_zero]
      go_wp2_with fail
      go_ret
      exact ⟨L, A, c, rfl, by rw [Hid, HL.out, ← HAL.out, ← HWD.out]; exact ih_eq h tos al hal16 id wd hwl ttl pr x hxx s d os, hr, hB⟩

theorem rpput_bad0 (tos : UInt8) (id : UInt16) (D M : Bool) (fo : UInt16) (ttl pr : UInt8) (s d : UInt32) (A1 A2 : Option Addr) (n1 c1 n2 c2 : Nat) (hn1 : n1 ≤ 1000000000) (hn2 : n2 ≤ 1000000000) (w : World) (h1 : 40 < n1) :
    Calls Try.prog 6 #[.agg #[.int .u8 (tos.toNat : Int), .int .u16 (id.toNat : Int), .bool D, .bool M, .int .u16 (fo.toNat : Int), .int .u8 (ttl.toNat : Int), .int .u8 (pr.toNat : Int), .int .u32 (s.toNat : Int), .int .u32 (d.toNat : Int), .slice A1 n1 c1, .slice A2 n2 c2]] w fun e w' => e = .returned (.tuple #[.slice none 0 0, .int .i64 2]) ∧ Below w.heap.size w w' := by
  have hc := fun W => Lib.hid (rpmay_bad0 tos id D M fo ttl pr s d A1 A2 n1 c1 n2 c2 hn1 hn2 W h1)
  clear h1
  go_enter Try.func6, Try.ntmps6
  go_wp2_with fail
  refine (hc _).out.mono ?_
  rintro e w1 ⟨rfl, hbel⟩
  go_wp2_with fail
  go_ret2
  exact ⟨rfl, bnext (bnextA (Below.refl _ _) _) hbel⟩

theorem rpput_bad1 (tos : UInt8) (id : UInt16) (D M : Bool) (fo : UInt16) (ttl pr : UInt8) (s d : UInt32) (A1 A2 : Option Addr) (n1 c1 n2 c2 : Nat) (hn1 : n1 ≤ 1000000000) (hn2 : n2 ≤ 1000000000) (w : World) (h1 : n1 ≤ 40) (h2 : n1 % 4 ≠ 0) :
    Calls Try.prog 6 #[.agg #[.int .u8 (tos.toNat : Int), .int .u16 (id.toNat : Int), .bool D, .bool M, .int .u16 (fo.toNat : Int), .int .u8 (ttl.toNat : Int), .int .u8 (pr.toNat : Int), .int .u32 (s.toNat : Int), .int .u32 (d.toNat : Int), .slice A1 n1 c1, .slice A2 n2 c2]] w fun e w' => e = .returned (.tuple #[.slice none 0 0, .int .i64 2]) ∧ Below w.heap.size w w' := by
  have hc := fun W => Lib.hid (rpmay_bad1 tos id D M fo ttl pr s d A1 A2 n1 c1 n2 c2 hn1 hn2 W h1 h2)
  clear h1 h2
  go_enter Try.func6, Try.ntmps6
  go_wp2_with fail
  refine (hc _).out.mono ?_
  rintro e w1 ⟨rfl, hbel⟩
  go_wp2_with fail
  go_ret2
  exact ⟨rfl, bnext (bnextA (Below.refl _ _) _) hbel⟩

theorem rpput_bad2 (tos : UInt8) (id : UInt16) (D M : Bool) (fo : UInt16) (ttl pr : UInt8) (s d : UInt32) (A1 A2 : Option Addr) (n1 c1 n2 c2 : Nat) (hn1 : n1 ≤ 1000000000) (hn2 : n2 ≤ 1000000000) (w : World) (h1 : n1 ≤ 40) (h2 : n1 % 4 = 0) (h3 : 8191 < fo.toNat) :
    Calls Try.prog 6 #[.agg #[.int .u8 (tos.toNat : Int), .int .u16 (id.toNat : Int), .bool D, .bool M, .int .u16 (fo.toNat : Int), .int .u8 (ttl.toNat : Int), .int .u8 (pr.toNat : Int), .int .u32 (s.toNat : Int), .int .u32 (d.toNat : Int), .slice A1 n1 c1, .slice A2 n2 c2]] w fun e w' => e = .returned (.tuple #[.slice none 0 0, .int .i64 2]) ∧ Below w.heap.size w w' := by
  have hc := fun W => Lib.hid (rpmay_bad2 tos id D M fo ttl pr s d A1 A2 n1 c1 n2 c2 hn1 hn2 W h1 h2 h3)
  clear h1 h2 h3
  go_enter Try.func6, Try.ntmps6
  go_wp2_with fail
  refine (hc _).out.mono ?_
  rintro e w1 ⟨rfl, hbel⟩
  go_wp2_with fail
  go_ret2
  exact ⟨rfl, bnext (bnextA (Below.refl _ _) _) hbel⟩

set_option maxHeartbeats 2000000 in
theorem rpput_ok (tos : UInt8) (id : UInt16) (D M : Bool) (fo : UInt16) (ttl pr : UInt8) (s d : UInt32) (A1 A2 : Option Addr) (c1 c2 : Nat) (os xs : List UInt8) (w : World) (ho : Rd bv w w.heap.size A1 c1 os) (hx : Rd bv w w.heap.size A2 c2 xs) (h1 : os.length ≤ 40) (h2 : os.length % 4 = 0) (h3 : fo.toNat ≤ 8191) (h4 : 20 + os.length + xs.length ≤ 65535) (h : UInt8) (hh : h.toNat = 69 + os.length / 4) (N : Nat) (hN : onesN (ih h tos (20 + os.length + xs.length) id (wdN D M fo) ttl pr 0 s d os) = N) :
    Calls Try.prog 6 #[.agg #[.int .u8 (tos.toNat : Int), .int .u16 (id.toNat : Int), .bool D, .bool M, .int .u16 (fo.toNat : Int), .int .u8 (ttl.toNat : Int), .int .u8 (pr.toNat : Int), .int .u32 (s.toNat : Int), .int .u32 (d.toNat : Int), .slice A1 os.length c1, .slice A2 xs.length c2]] w fun e w' => ∃ L A' c', e = .returned (.tuple #[.slice A' L.length c', .int .i64 0]) ∧ Hid (L = ih h tos (20 + os.length + xs.length) id (wdN D M fo) ttl pr (65535 - N) s d os ++ xs) ∧ Rd bv w' w'.heap.size A' c' L ∧ Below w.heap.size w w' := by
  obtain ⟨W1, hW1⟩ : ∃ W1, W1 = w.alloc (.cells #[.int .u8 (tos.toNat : Int), .int .u16 (id.toNat : Int), .bool D, .bool M, .int .u16 (fo.toNat : Int), .int .u8 (ttl.toNat : Int), .int .u8 (pr.toNat : Int), .int .u32 (s.toNat : Int), .int .u32 (d.toNat : Int), .slice A1 os.length c1, .slice A2 xs.length c2] 36) := ⟨_, rfl⟩
  have hB1 : Below w.heap.size w W1 := by subst hW1; exact bnextA (Below.refl _ _) _
  have hK1 : Blk W1 w.heap.size [.int .u8 (tos.toNat : Int), .int .u16 (id.toNat : Int), .bool D, .bool M, .int .u16 (fo.toNat : Int), .int .u8 (ttl.toNat : Int), .int .u8 (pr.toNat : Int), .int .u32 (s.toNat : Int), .int .u32 (d.toNat : Int), .slice A1 os.length c1, .slice A2 xs.length c2] 36 := by subst hW1; exact Blk.new _ _ _
  have HS : ∀ W, Below W1.heap.size W1 W → (W.cell? ⟨w.heap.size, 0, none⟩ = some (.int .u8 (tos.toNat : Int)) ∧ W.cell? ⟨w.heap.size, 1, none⟩ = some (.int .u16 (id.toNat : Int)) ∧ W.cell? ⟨w.heap.size, 2, none⟩ = some (.bool D) ∧ W.cell? ⟨w.heap.size, 3, none⟩ = some (.bool M) ∧ W.cell? ⟨w.heap.size, 4, none⟩ = some (.int .u16 (fo.toNat : Int)) ∧ W.cell? ⟨w.heap.size, 5, none⟩ = some (.int .u8 (ttl.toNat : Int)) ∧ W.cell? ⟨w.heap.size, 6, none⟩ = some (.int .u8 (pr.toNat : Int)) ∧ W.cell? ⟨w.heap.size, 7, none⟩ = some (.int .u32 (s.toNat : Int)) ∧ W.cell? ⟨w.heap.size, 8, none⟩ = some (.int .u32 (d.toNat : Int)) ∧ W.cell? ⟨w.heap.size, 9, none⟩ = some (.slice A1 os.length c1) ∧ W.cell? ⟨w.heap.size, 10, none⟩ = some (.slice A2 xs.length c2)) := by
    intro W h
    obtain ⟨p0, p1, p2, p3, p4, p5, p6, p7, p8, p9, p10, -⟩ := (hK1.next h).get11
    exact ⟨p0, p1, p2, p3, p4, p5, p6, p7, p8, p9, p10⟩
  replace ho := ho.next hB1
  replace hx := hx.next hB1
  have HN := fun (_ : Unit) => Lib.hid hN
  have HC := fun W => Lib.hid (rpmay_ok tos id D M fo ttl pr s d A1 A2 os.length c1 xs.length c2 W h1 h2 h3 h4)
  have HY0 : ∀ W (_ : Rd bv W W.heap.size A1 c1 os), Hid (Calls Try.prog 16 #[.agg #[.int .u8 (tos.toNat : Int), .int .u16 (id.toNat : Int), .bool D, .bool M, .int .u16 (fo.toNat : Int), .int .u8 (ttl.toNat : Int), .int .u8 (pr.toNat : Int), .int .u32 (s.toNat : Int), .int .u32 (d.toNat : Int), .slice A1 os.length c1, .slice A2 xs.length c2], .int .i64 0] W fun e w' => ∃ L A' c', e = .returned (.slice A' L.length c') ∧ Hid (L = ih h tos (20 + os.length + xs.length) id (wdN D M fo) ttl pr 0 s d os) ∧ Rd bv w' w'.heap.size A' c' L ∧ Below W.heap.size W w') := fun W g1 => rphead_any tos id D M fo ttl pr s d A1 A2 c1 c2 os xs 0 (by omega) W g1 h1 h2 h3 h4 h hh
  have HYX := fun W (g1 : Rd bv W W.heap.size A1 c1 os) => Lib.hid (rphead_any tos id D M fo ttl pr s d A1 A2 c1 c2 os xs (65535 - N) (by omega) W g1 h1 h2 h3 h4 h hh)
  clear hN
  go_enter Try.func6, Try.ntmps6
  go_wp2_with fail
  rw [← hW1]
  clear hW1
  refine (HC _).out.mono ?_
  rintro e V ⟨rfl, hbel⟩
  obtain ⟨p0, p1, p2, p3, p4, p5, p6, p7, p8, p9, p10⟩ := HS _ hbel
  replace hB1 := bnext hB1 hbel
  replace ho := ho.next hbel
  replace hx := hx.next hbel
  replace hK1 := hK1.next hbel
  clear hbel HC HS
  go_wp2_with fail
  clear p0 p1 p2 p3 p4 p5 p6 p7 p8 p9 p10
  have HS : ∀ W, Below V.heap.size V W → (W.cell? ⟨w.heap.size, 0, none⟩ = some (.int .u8 (tos.toNat : Int)) ∧ W.cell? ⟨w.heap.size, 1, none⟩ = some (.int .u16 (id.toNat : Int)) ∧ W.cell? ⟨w.heap.size, 2, none⟩ = some (.bool D) ∧ W.cell? ⟨w.heap.size, 3, none⟩ = some (.bool M) ∧ W.cell? ⟨w.heap.size, 4, none⟩ = some (.int .u16 (fo.toNat : Int)) ∧ W.cell? ⟨w.heap.size, 5, none⟩ = some (.int .u8 (ttl.toNat : Int)) ∧ W.cell? ⟨w.heap.size, 6, none⟩ = some (.int .u8 (pr.toNat : Int)) ∧ W.cell? ⟨w.heap.size, 7, none⟩ = some (.int .u32 (s.toNat : Int)) ∧ W.cell? ⟨w.heap.size, 8, none⟩ = some (.int .u32 (d.toNat : Int)) ∧ W.cell? ⟨w.heap.size, 9, none⟩ = some (.slice A1 os.length c1) ∧ W.cell? ⟨w.heap.size, 10, none⟩ = some (.slice A2 xs.length c2)) := by
    intro W h
    obtain ⟨p0, p1, p2, p3, p4, p5, p6, p7, p8, p9, p10, -⟩ := (hK1.next h).get11
    exact ⟨p0, p1, p2, p3, p4, p5, p6, p7, p8, p9, p10⟩
  refine region_put (by kernel_rfl) (by kernel_rfl) (by kernel_rfl) 15 rfl (by kernel_rfl) V (fun i v W => match i with
      | 0 => v = .agg #[.int .u8 (tos.toNat : Int), .int .u16 (id.toNat : Int), .bool D, .bool M, .int .u16 (fo.toNat : Int), .int .u8 (ttl.toNat : Int), .int .u8 (pr.toNat : Int), .int .u32 (s.toNat : Int), .int .u32 (d.toNat : Int), .slice A1 os.length c1, .slice A2 xs.length c2]
      | 1 => v = .agg #[.int .u8 (tos.toNat : Int), .int .u16 (id.toNat : Int), .bool D, .bool M, .int .u16 (fo.toNat : Int), .int .u8 (ttl.toNat : Int), .int .u8 (pr.toNat : Int), .int .u32 (s.toNat : Int), .int .u32 (d.toNat : Int), .slice A1 os.length c1, .slice A2 xs.length c2]
      | 2 => ∃ L A c, v = .slice A L.length c ∧ Hid (L = ih h tos (20 + os.length + xs.length) id (wdN D M fo) ttl pr 0 s d os) ∧ Rd bv W W.heap.size A c L
      | 3 => v = .int .i64 ((65535 - N : Nat) : Int)
      | 4 => ∃ L A c, v = .slice A L.length c ∧ Hid (L = ih h tos (20 + os.length + xs.length) id (wdN D M fo) ttl pr (65535 - N) s d os) ∧ Rd bv W W.heap.size A c L
      | 5 => v = .pointer (some ⟨w.heap.size, 10, none⟩)
      | 6 => v = .slice A2 xs.length c2
      | 7 => ∃ L A c, v = .slice A L.length c ∧ Hid (L = ih h tos (20 + os.length + xs.length) id (wdN D M fo) ttl pr (65535 - N) s d os ++ xs) ∧ Rd bv W W.heap.size A c L
      | 8 => ∃ L A c, v = .slice A L.length c ∧ Hid (L = ih h tos (20 + os.length + xs.length) id (wdN D M fo) ttl pr (65535 - N) s d os ++ xs) ∧ Rd bv W W.heap.size A c L
      | 9 => v = .int .i64 0
      | _ => True) (Below.refl _ _) ?_ ?_ ?_
  · intro i v W W' h hb
    match i, h with
    | 0, h => exact h
    | 1, h => exact h
    | 2, h => obtain ⟨L, A, c, h1, h2, h3⟩ := h; exact ⟨L, A, c, h1, h2, h3.next hb⟩
    | 3, h => exact h
    | 4, h => obtain ⟨L, A, c, h1, h2, h3⟩ := h; exact ⟨L, A, c, h1, h2, h3.next hb⟩
    | 5, h => exact h
    | 6, h => exact h
    | 7, h => obtain ⟨L, A, c, h1, h2, h3⟩ := h; exact ⟨L, A, c, h1, h2, h3.next hb⟩
    | 8, h => obtain ⟨L, A, c, h1, h2, h3⟩ := h; exact ⟨L, A, c, h1, h2, h3.next hb⟩
    | 9, h => exact h
    | _ + 10, _ => trivial
  · intro i o uu W hoo hVW hd
    rcases i with _|_|_|_|_|_|_|_|_|_|i
    · obtain rfl := Option.some.inj hoo
      refine .inl ⟨wanted_none rfl, ?_⟩
      generalize hev : Act.eval _ = ev
      have ec : ∀ c, ev (.const c) = c := fun c => by rw [← hev]; rfl
      have e1 : ev (.tmp 1) = .pointer (some ⟨w.heap.size, 0, none⟩) := by rw [← hev]; exact eval_old (by kernel_rfl) 15 rfl (by decide) rfl
      clear hev hd
      obtain ⟨cc0, cc1, cc2, cc3, cc4, cc5, cc6, cc7, cc8, cc9, cc10⟩ := HS W hVW
      exact .inl ⟨_, W, by go_simp, rfl, Below.refl _ _⟩
    · obtain rfl := Option.some.inj hoo
      refine .inl ⟨wanted_none rfl, ?_⟩
      generalize hev : Act.eval _ = ev
      have ec : ∀ c, ev (.const c) = c := fun c => by rw [← hev]; rfl
      have e1 : ev (.tmp 1) = .pointer (some ⟨w.heap.size, 0, none⟩) := by rw [← hev]; exact eval_old (by kernel_rfl) 15 rfl (by decide) rfl
      clear hev hd
      obtain ⟨cc0, cc1, cc2, cc3, cc4, cc5, cc6, cc7, cc8, cc9, cc10⟩ := HS W hVW
      exact .inl ⟨_, W, by go_simp, rfl, Below.refl _ _⟩
    · obtain rfl := Option.some.inj hoo
      have q1 : uu 1 = .agg #[.int .u8 (tos.toNat : Int), .int .u16 (id.toNat : Int), .bool D, .bool M, .int .u16 (fo.toNat : Int), .int .u8 (ttl.toNat : Int), .int .u8 (pr.toNat : Int), .int .u32 (s.toNat : Int), .int .u32 (d.toNat : Int), .slice A1 os.length c1, .slice A2 xs.length c2] := hd 1 (by kernel_rfl)
      refine .inl ⟨wanted_none rfl, ?_⟩
      generalize hev : Act.eval _ = ev
      have ec : ∀ c, ev (.const c) = c := fun c => by rw [← hev]; rfl
      have ef : ∀ f, ev (.func f) = .func (.func f) #[] #[] := fun f => by rw [← hev]; rfl
      have e8 : ev (.tmp 8) = .agg #[.int .u8 (tos.toNat : Int), .int .u16 (id.toNat : Int), .bool D, .bool M, .int .u16 (fo.toNat : Int), .int .u8 (ttl.toNat : Int), .int .u8 (pr.toNat : Int), .int .u32 (s.toNat : Int), .int .u32 (d.toNat : Int), .slice A1 os.length c1, .slice A2 xs.length c2] := by rw [← hev]; exact (eval_put (by kernel_rfl) 15 rfl (by decide)).trans q1
      clear hev hd q1
      exact .inr ⟨_, _, _, by go_simp, (HY0 W (ho.next hVW)).out, fun e w' he => by
        obtain ⟨L, A, c, rfl, HL, hr, hb⟩ := he
        exact ⟨_, rfl, ⟨L, A, c, rfl, HL, hr⟩, hb⟩⟩
    · obtain rfl := Option.some.inj hoo
      obtain ⟨L2, A2, c2, q2, HL2, r2⟩ := hd 2 (by kernel_rfl)
      refine .inl ⟨wanted_none rfl, ?_⟩
      generalize hev : Act.eval _ = ev
      have ec : ∀ c, ev (.const c) = c := fun c => by rw [← hev]; rfl
      have ef : ∀ f, ev (.func f) = .func (.func f) #[] #[] := fun f => by rw [← hev]; rfl
      have e9 : ev (.tmp 9) = .slice A2 L2.length c2 := by rw [← hev]; exact (eval_put (by kernel_rfl) 15 rfl (by decide)).trans q2
      clear hev hd q2
      exact .inr ⟨_, _, _, by go_simp, rof_any _ _ L2 N W _ r2 (by rw [HL2.out, ih_len]; omega) (by rw [HL2.out]; exact (HN ()).out), fun e w' he => ⟨_, he.1, rfl, he.2 ▸ Below.refl _ _⟩⟩
    · obtain rfl := Option.some.inj hoo
      have q0 : uu 0 = .agg #[.int .u8 (tos.toNat : Int), .int .u16 (id.toNat : Int), .bool D, .bool M, .int .u16 (fo.toNat : Int), .int .u8 (ttl.toNat : Int), .int .u8 (pr.toNat : Int), .int .u32 (s.toNat : Int), .int .u32 (d.toNat : Int), .slice A1 os.length c1, .slice A2 xs.length c2] := hd 0 (by kernel_rfl)
      have q3 : uu 3 = .int .i64 ((65535 - N : Nat) : Int) := hd 3 (by kernel_rfl)
      refine .inl ⟨wanted_none rfl, ?_⟩
      generalize hev : Act.eval _ = ev
      have ec : ∀ c, ev (.const c) = c := fun c => by rw [← hev]; rfl
      have ef : ∀ f, ev (.func f) = .func (.func f) #[] #[] := fun f => by rw [← hev]; rfl
      have e7 : ev (.tmp 7) = .agg #[.int .u8 (tos.toNat : Int), .int .u16 (id.toNat : Int), .bool D, .bool M, .int .u16 (fo.toNat : Int), .int .u8 (ttl.toNat : Int), .int .u8 (pr.toNat : Int), .int .u32 (s.toNat : Int), .int .u32 (d.toNat : Int), .slice A1 os.length c1, .slice A2 xs.length c2] := by rw [← hev]; exact (eval_put (by kernel_rfl) 15 rfl (by decide)).trans q0
      have e10 : ev (.tmp 10) = .int .i64 ((65535 - N : Nat) : Int) := by rw [← hev]; exact (eval_put (by kernel_rfl) 15 rfl (by decide)).trans q3
      clear hev hd q0 q3
      exact .inr ⟨_, _, _, by go_simp, (HYX W (ho.next hVW)).out, fun e w' he => by
        obtain ⟨L, A, c, rfl, HL, hr, hb⟩ := he
        exact ⟨_, rfl, ⟨L, A, c, rfl, HL, hr⟩, hb⟩⟩
    · obtain rfl := Option.some.inj hoo
      refine .inl ⟨wanted_none rfl, ?_⟩
      generalize hev : Act.eval _ = ev
      have ec : ∀ c, ev (.const c) = c := fun c => by rw [← hev]; rfl
      have e1 : ev (.tmp 1) = .pointer (some ⟨w.heap.size, 0, none⟩) := by rw [← hev]; exact eval_old (by kernel_rfl) 15 rfl (by decide) rfl
      clear hev hd
      exact .inl ⟨_, W, by go_simp, rfl, Below.refl _ _⟩
    · obtain rfl := Option.some.inj hoo
      have q5 : uu 5 = .pointer (some ⟨w.heap.size, 10, none⟩) := hd 5 (by kernel_rfl)
      refine .inl ⟨wanted_none rfl, ?_⟩
      generalize hev : Act.eval _ = ev
      have ec : ∀ c, ev (.const c) = c := fun c => by rw [← hev]; rfl
      have e12 : ev (.tmp 12) = .pointer (some ⟨w.heap.size, 10, none⟩) := by rw [← hev]; exact (eval_put (by kernel_rfl) 15 rfl (by decide)).trans q5
      clear hev hd q5
      obtain ⟨cc0, cc1, cc2, cc3, cc4, cc5, cc6, cc7, cc8, cc9, cc10⟩ := HS W hVW
      exact .inl ⟨_, W, by go_simp, rfl, Below.refl _ _⟩
    · obtain rfl := Option.some.inj hoo
      obtain ⟨L4, A4, c4, q4, HL4, r4⟩ := hd 4 (by kernel_rfl)
      have q6 : uu 6 = .slice A2 xs.length c2 := hd 6 (by kernel_rfl)
      refine .inl ⟨wanted_none rfl, ?_⟩
      generalize hev : Act.eval _ = ev
      have ec : ∀ c, ev (.const c) = c := fun c => by rw [← hev]; rfl
      have ef : ∀ f, ev (.func f) = .func (.func f) #[] #[] := fun f => by rw [← hev]; rfl
      have e11 : ev (.tmp 11) = .slice A4 L4.length c4 := by rw [← hev]; exact (eval_put (by kernel_rfl) 15 rfl (by decide)).trans q4
      have e13 : ev (.tmp 13) = .slice A2 xs.length c2 := by rw [← hev]; exact (eval_put (by kernel_rfl) 15 rfl (by decide)).trans q6
      clear hev hd q4 q6
      exact .inr ⟨_, _, _, by go_simp, radd_any _ _ _ _ L4 xs W r4 (hx.next hVW) (by rw [HL4.out, ih_len]; omega), fun e w' he => by
        obtain ⟨v, rfl, hown, hb⟩ := he
        obtain ⟨L, A, c, HL, rfl, hr⟩ := hown.rdv
        exact ⟨_, rfl, ⟨L, A, c, rfl, by rw [Hid, HL.out, HL4.out], hr⟩, hb⟩⟩
    · obtain rfl := Option.some.inj hoo
      obtain ⟨L7, A7, c7, q7, HL7, r7⟩ := hd 7 (by kernel_rfl)
      refine .inl ⟨wanted_none rfl, ?_⟩
      generalize hev : Act.eval _ = ev
      have ec : ∀ c, ev (.const c) = c := fun c => by rw [← hev]; rfl
      have e14 : ev (.tmp 14) = .slice A7 L7.length c7 := by rw [← hev]; exact (eval_put (by kernel_rfl) 15 rfl (by decide)).trans q7
      clear hev hd q7
      exact .inl ⟨_, W, by go_simp, ⟨L7, A7, c7, rfl, HL7, r7⟩, Below.refl _ _⟩
    · obtain rfl := Option.some.inj hoo
      refine .inl ⟨wanted_none rfl, ?_⟩
      generalize hev : Act.eval _ = ev
      have ec : ∀ c, ev (.const c) = c := fun c => by rw [← hev]; rfl
      clear hev hd
      exact .inl ⟨_, W, by go_simp, rfl, Below.refl _ _⟩
    · simp at hoo
  · intro uu W hVW hall
    obtain ⟨L, A, c, q8, HL, hr⟩ : ∃ L A c, uu 8 = .slice A L.length c ∧ Hid (L = ih h tos (20 + os.length + xs.length) id (wdN D M fo) ttl pr (65535 - N) s d os ++ xs) ∧ Rd bv W W.heap.size A c L := hall 8 (by decide)
    have q9 : uu 9 = .int .i64 0 := hall 9 (by decide)
    have hB := hB1.trans (hVW.mono hB1.size)
    clear hall HS hK1 ho hx
    simp only [putAll, Act.put, Nat.reduceAdd, q8, q9]
    simp only [List.setIfInBounds_toArray, List.set_cons_succ, List.set_cons_zero]
    go_wp2_with fail
    go_ret2
    exact ⟨L, A, c, rfl, HL, hr, hB⟩

end Go.Proofs.Ytpibempfhgaomaa
