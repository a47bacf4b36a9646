/- Contracts of ipv4's head and Put. -/
import Derived.Test.YtpibempfhgaomaaIp1
namespace Go.Proofs.Ytpibempfhgaomaa
open Go.RowKit

theorem Parts.next {w w' : World} {B g : Nat} {ls : List (List UInt8)} (h : Parts w B g ls) (hg : g < w.heap.size) (hB : B ≤ w.heap.size) (hb : Below w.heap.size w w') : Parts w' B g ls := by
  obtain ⟨vs, h1, h2⟩ := h
  exact ⟨vs, h1.keep (hb.mono hB), fun i v hv => (hb.cell hg).trans (h2 i v hv)⟩
/-- A packet's head: h is its first byte, all how many bytes there are, wd the flags and the offset, x the sum. -/
def ih (h tos : UInt8) (all : Nat) (id : UInt16) (wd : Nat) (ttl pr : UInt8) (x : Nat) (s d : UInt32) (os : List UInt8) : List UInt8 :=
  [h, tos] ++ (be16 (UInt16.ofNat all) ++ (be16 id ++ (be16 (UInt16.ofNat wd) ++ ([ttl, pr] ++ (be16 (UInt16.ofNat x) ++ (be32 s ++ (be32 d ++ os)))))))
theorem ih_len (h tos : UInt8) (all : Nat) (id : UInt16) (wd : Nat) (ttl pr : UInt8) (x : Nat) (s d : UInt32) (os : List UInt8) : (ih h tos all id wd ttl pr x s d os).length = 20 + os.length := by simp [ih, be16, be32]; omega
def wdN (D M : Bool) (fo : UInt16) : Nat := fo.toNat + (if D then 16384 else 0) + (if M then 8192 else 0)
theorem or_df (n : Nat) (h : n ≤ 8191) : bits BinOp.or IntKind.u16 (n : Int) 16384 = ((n + 16384 : Nat) : Int) := by
  rw [show (16384 : Int) = ((16384 : Nat) : Int) from rfl, u16_or_nat _ _ (by omega) (by omega), Nat.or_comm, show 16384 = 1 * 16384 from rfl, nat_join 14 _ _ (by omega) (by omega)]
  omega
theorem or_mf (n : Nat) (h : n ≤ 8191) : bits BinOp.or IntKind.u16 (n : Int) 8192 = ((n + 8192 : Nat) : Int) := by
  rw [show (8192 : Int) = ((8192 : Nat) : Int) from rfl, u16_or_nat _ _ (by omega) (by omega), Nat.or_comm, show 8192 = 1 * 8192 from rfl, nat_join 13 _ _ (by omega) (by omega)]
  omega
theorem or_dm (n : Nat) (h : n ≤ 8191) : bits BinOp.or IntKind.u16 ((n + 16384 : Nat) : Int) 8192 = ((n + 24576 : Nat) : Int) := by
  have e1 : n + 16384 = (1 * 16384) ||| n := by rw [nat_join 14 _ _ (by omega) (by omega)]; omega
  rw [show (8192 : Int) = ((8192 : Nat) : Int) from rfl, u16_or_nat _ _ (by omega) (by omega), e1, Nat.or_assoc, Nat.or_comm n 8192, ← Nat.or_assoc, show (1 * 16384 ||| 8192) = 3 * 8192 from by decide, nat_join 13 _ _ (by omega) (by omega)]
  omega
theorem ih_set (h tos : UInt8) (all : Nat) (id : UInt16) (wd : Nat) (ttl pr : UInt8) (x : Nat) (hx : x ≤ 65535) (s d : UInt32) (os : List UInt8) : ((ih h tos all id wd ttl pr 0 s d os).set 10 (UInt8.ofNat (x / 256))).set 11 (UInt8.ofNat (x % 256)) = ih h tos all id wd ttl pr x s d os := by
  rw [ih, ih, be16_ofNat x hx]
  rfl

theorem pput_bad0 (tos : UInt8) (id : UInt16) (D M : Bool) (fo : UInt16) (ttl pr : UInt8) (s d : UInt32) (A1 A2 : Option Addr) (n1 c1 n2 c2 : Nat) (hn1 : n1 ≤ 1000000000) (hn2 : n2 ≤ 1000000000) (w : World) (h1 : 40 < n1) :
    Calls Try.prog 10 #[.agg #[.int .u8 (tos.toNat : Int), .int .u16 (id.toNat : Int), .bool D, .bool M, .int .u16 (fo.toNat : Int), .int .u8 (ttl.toNat : Int), .int .u8 (pr.toNat : Int), .int .u32 (s.toNat : Int), .int .u32 (d.toNat : Int), .slice A1 n1 c1, .slice A2 n2 c2]] w fun e w' => e = .returned (.tuple #[.slice none 0 0, .int .i64 2]) ∧ Below w.heap.size w w' := by
  have hc := fun W => Lib.hid (pcheck_bad0 tos id D M fo ttl pr s d A1 A2 n1 c1 n2 c2 hn1 hn2 W h1)
  clear h1
  go_enter Try.func10, Try.ntmps10
  go_wp2_with fail
  refine (hc _).out.mono ?_
  rintro e w1 ⟨rfl, hbel⟩
  go_wp2_with fail
  go_ret2
  exact ⟨rfl, bnext (bnextA (Below.refl _ _) _) hbel⟩

theorem pput_bad1 (tos : UInt8) (id : UInt16) (D M : Bool) (fo : UInt16) (ttl pr : UInt8) (s d : UInt32) (A1 A2 : Option Addr) (n1 c1 n2 c2 : Nat) (hn1 : n1 ≤ 1000000000) (hn2 : n2 ≤ 1000000000) (w : World) (h1 : n1 ≤ 40) (h2 : n1 % 4 ≠ 0) :
    Calls Try.prog 10 #[.agg #[.int .u8 (tos.toNat : Int), .int .u16 (id.toNat : Int), .bool D, .bool M, .int .u16 (fo.toNat : Int), .int .u8 (ttl.toNat : Int), .int .u8 (pr.toNat : Int), .int .u32 (s.toNat : Int), .int .u32 (d.toNat : Int), .slice A1 n1 c1, .slice A2 n2 c2]] w fun e w' => e = .returned (.tuple #[.slice none 0 0, .int .i64 2]) ∧ Below w.heap.size w w' := by
  have hc := fun W => Lib.hid (pcheck_bad1 tos id D M fo ttl pr s d A1 A2 n1 c1 n2 c2 hn1 hn2 W h1 h2)
  clear h1 h2
  go_enter Try.func10, Try.ntmps10
  go_wp2_with fail
  refine (hc _).out.mono ?_
  rintro e w1 ⟨rfl, hbel⟩
  go_wp2_with fail
  go_ret2
  exact ⟨rfl, bnext (bnextA (Below.refl _ _) _) hbel⟩

theorem pput_bad2 (tos : UInt8) (id : UInt16) (D M : Bool) (fo : UInt16) (ttl pr : UInt8) (s d : UInt32) (A1 A2 : Option Addr) (n1 c1 n2 c2 : Nat) (hn1 : n1 ≤ 1000000000) (hn2 : n2 ≤ 1000000000) (w : World) (h1 : n1 ≤ 40) (h2 : n1 % 4 = 0) (h3 : 8191 < fo.toNat) :
    Calls Try.prog 10 #[.agg #[.int .u8 (tos.toNat : Int), .int .u16 (id.toNat : Int), .bool D, .bool M, .int .u16 (fo.toNat : Int), .int .u8 (ttl.toNat : Int), .int .u8 (pr.toNat : Int), .int .u32 (s.toNat : Int), .int .u32 (d.toNat : Int), .slice A1 n1 c1, .slice A2 n2 c2]] w fun e w' => e = .returned (.tuple #[.slice none 0 0, .int .i64 2]) ∧ Below w.heap.size w w' := by
  have hc := fun W => Lib.hid (pcheck_bad2 tos id D M fo ttl pr s d A1 A2 n1 c1 n2 c2 hn1 hn2 W h1 h2 h3)
  clear h1 h2 h3
  go_enter Try.func10, Try.ntmps10
  go_wp2_with fail
  refine (hc _).out.mono ?_
  rintro e w1 ⟨rfl, hbel⟩
  go_wp2_with fail
  go_ret2
  exact ⟨rfl, bnext (bnextA (Below.refl _ _) _) hbel⟩

set_option maxHeartbeats 8000000 in
set_option maxRecDepth 20000 in
theorem phead_any (tos : UInt8) (id : UInt16) (D M : Bool) (fo : UInt16) (ttl pr : UInt8) (s d : UInt32) (A1 A2 : Option Addr) (c1 c2 : Nat) (os xs : List UInt8) (w : World) (ho : Rd bv w w.heap.size A1 c1 os) (h1 : os.length ≤ 40) (h2 : os.length % 4 = 0) (h3 : fo.toNat ≤ 8191) (h4 : 20 + os.length + xs.length ≤ 65535) (h : UInt8) (hh : h.toNat = 69 + os.length / 4) :
    Calls Try.prog 30 #[.agg #[.int .u8 (tos.toNat : Int), .int .u16 (id.toNat : Int), .bool D, .bool M, .int .u16 (fo.toNat : Int), .int .u8 (ttl.toNat : Int), .int .u8 (pr.toNat : Int), .int .u32 (s.toNat : Int), .int .u32 (d.toNat : Int), .slice A1 os.length c1, .slice A2 xs.length c2]] w fun e w' => ∃ L A' c', e = .returned (.slice A' L.length c') ∧ Hid (L = ih h tos (20 + os.length + xs.length) id (wdN D M fo) ttl pr 0 s d os) ∧ Rd bv w' w'.heap.size A' c' L ∧ Below w.heap.size w w' := by
  obtain ⟨W1, hW1⟩ : ∃ W1, W1 = w.alloc (.cells #[.int .u8 (tos.toNat : Int), .int .u16 (id.toNat : Int), .bool D, .bool M, .int .u16 (fo.toNat : Int), .int .u8 (ttl.toNat : Int), .int .u8 (pr.toNat : Int), .int .u32 (s.toNat : Int), .int .u32 (d.toNat : Int), .slice A1 os.length c1, .slice A2 xs.length c2] 36) := ⟨_, rfl⟩
  have hB1 : Below w.heap.size w W1 := by subst hW1; exact bnextA (Below.refl _ _) _
  have hK1 : Blk W1 w.heap.size [.int .u8 (tos.toNat : Int), .int .u16 (id.toNat : Int), .bool D, .bool M, .int .u16 (fo.toNat : Int), .int .u8 (ttl.toNat : Int), .int .u8 (pr.toNat : Int), .int .u32 (s.toNat : Int), .int .u32 (d.toNat : Int), .slice A1 os.length c1, .slice A2 xs.length c2] 36 := by subst hW1; exact Blk.new _ _ _
  have HS : ∀ W, Below W1.heap.size W1 W → (W.cell? ⟨w.heap.size, 0, none⟩ = some (.int .u8 (tos.toNat : Int)) ∧ W.cell? ⟨w.heap.size, 1, none⟩ = some (.int .u16 (id.toNat : Int)) ∧ W.cell? ⟨w.heap.size, 2, none⟩ = some (.bool D) ∧ W.cell? ⟨w.heap.size, 3, none⟩ = some (.bool M) ∧ W.cell? ⟨w.heap.size, 4, none⟩ = some (.int .u16 (fo.toNat : Int)) ∧ W.cell? ⟨w.heap.size, 5, none⟩ = some (.int .u8 (ttl.toNat : Int)) ∧ W.cell? ⟨w.heap.size, 6, none⟩ = some (.int .u8 (pr.toNat : Int)) ∧ W.cell? ⟨w.heap.size, 7, none⟩ = some (.int .u32 (s.toNat : Int)) ∧ W.cell? ⟨w.heap.size, 8, none⟩ = some (.int .u32 (d.toNat : Int)) ∧ W.cell? ⟨w.heap.size, 9, none⟩ = some (.slice A1 os.length c1) ∧ W.cell? ⟨w.heap.size, 10, none⟩ = some (.slice A2 xs.length c2)) := by
    intro W h
    obtain ⟨p0, p1, p2, p3, p4, p5, p6, p7, p8, p9, p10, -⟩ := (hK1.next h).get11
    exact ⟨p0, p1, p2, p3, p4, p5, p6, p7, p8, p9, p10⟩
  replace ho := ho.next hB1
  have HZ := fun W => Lib.hid (psize_any tos id D M fo ttl pr s d A1 A2 os.length c1 xs.length c2 W (by omega))
  obtain ⟨m, hm⟩ : ∃ m : Nat, m = 5 + os.length / 4 := ⟨_, rfl⟩
  have HM : ∀ _ : Unit, Hid ((20 + (os.length : Int)).tdiv 4 = (m : Int) ∧ IntKind.i64.wrap (64 + (m : Int)) = 64 + (m : Int) ∧ IntKind.u8.wrap (64 + (m : Int)) = (h.toNat : Int)) := fun _ =>
    ⟨by rw [Int.tdiv_eq_ediv_of_nonneg (by omega)]; omega, by rw [IntKind.wrap_i64]; omega, by rw [IntKind.wrap_u8, hh]; omega⟩
  obtain ⟨al, hal⟩ : ∃ al : Nat, al = 20 + os.length + xs.length := ⟨_, rfl⟩
  have HA : ∀ _ : Unit, Hid (IntKind.i64.wrap (20 + (os.length : Int) + (xs.length : Int)) = (al : Int) ∧ IntKind.u16.wrap (al : Int) = ((UInt16.ofNat (20 + os.length + xs.length)).toNat : Int)) := fun _ =>
    ⟨by rw [IntKind.wrap_i64]; omega, by rw [IntKind.wrap_u16, UInt16.ofNat_id _ h4]; omega⟩
  have hfo := fo.toNat_lt
  have hm16 : m ≤ 15 := by omega
  have hal16 : al ≤ 65535 := by omega
  clear hm hal hh
  cases D <;> cases M

  · obtain ⟨wd, hwd⟩ : ∃ wd : Nat, wd = fo.toNat := ⟨_, rfl⟩
    have HWD : Hid (wd = wdN false false fo) := by rw [Hid, hwd]; simp [wdN]
    have HWQ := Lib.hid hwd
    have hwl : wd ≤ 65535 := by omega
    clear hwd
    go_enter Try.func30, Try.ntmps30
    go_wp2_with fail
    rw [← hW1]
    clear hW1
    refine (HZ _).out.mono ?_
    rintro e w0 ⟨rfl, hbel⟩
    obtain ⟨p0, p1, p2, p3, p4, p5, p6, p7, p8, p9, p10⟩ := HS _ hbel
    replace hB1 := bnext hB1 hbel
    replace ho := ho.next hbel
    replace hK1 := hK1.next hbel
    clear hbel HZ HS
    go_wp2_with fail
    rw [← HWQ.out]
    clear p0 p1 p2 p3 p4 p5 p6 p7 p8 p9 p10 
    have HS : ∀ W, Below w0.heap.size w0 W → (W.cell? ⟨w.heap.size, 0, none⟩ = some (.int .u8 (tos.toNat : Int)) ∧ W.cell? ⟨w.heap.size, 1, none⟩ = some (.int .u16 (id.toNat : Int)) ∧ W.cell? ⟨w.heap.size, 2, none⟩ = some (.bool false) ∧ W.cell? ⟨w.heap.size, 3, none⟩ = some (.bool false) ∧ W.cell? ⟨w.heap.size, 4, none⟩ = some (.int .u16 (fo.toNat : Int)) ∧ W.cell? ⟨w.heap.size, 5, none⟩ = some (.int .u8 (ttl.toNat : Int)) ∧ W.cell? ⟨w.heap.size, 6, none⟩ = some (.int .u8 (pr.toNat : Int)) ∧ W.cell? ⟨w.heap.size, 7, none⟩ = some (.int .u32 (s.toNat : Int)) ∧ W.cell? ⟨w.heap.size, 8, none⟩ = some (.int .u32 (d.toNat : Int)) ∧ W.cell? ⟨w.heap.size, 9, none⟩ = some (.slice A1 os.length c1) ∧ W.cell? ⟨w.heap.size, 10, none⟩ = some (.slice A2 xs.length c2)) := by
      intro W h
      obtain ⟨p0, p1, p2, p3, p4, p5, p6, p7, p8, p9, p10, -⟩ := (hK1.next h).get11
      exact ⟨p0, p1, p2, p3, p4, p5, p6, p7, p8, p9, p10⟩
    refine region_put (by kernel_rfl) (by kernel_rfl) (by kernel_rfl) 50 rfl (by kernel_rfl) w0 (fun i v W => match i with
        | 0 => v = .int .i64 (20 + (os.length : Int))
        | 1 => v = .int .i64 (m : Int)
        | 2 => v = .int .i64 (64 + (m : Int))
        | 3 => v = .int .u8 (h.toNat : Int)
        | 4 => v = .pointer (some ⟨w.heap.size, 0, none⟩)
        | 5 => v = .int .u8 (tos.toNat : Int)
        | 6 => ∃ A, v = .slice A 2 2 ∧ Rd bv W W.heap.size A 2 [h, tos]
        | 7 => v = .int .i64 (20 + (os.length : Int))
        | 8 => v = .pointer (some ⟨w.heap.size, 10, none⟩)
        | 9 => v = .slice A2 xs.length c2
        | 10 => v = .int .i64 (xs.length : Int)
        | 11 => v = .int .i64 (al : Int)
        | 12 => v = .int .u16 ((UInt16.ofNat (20 + os.length + xs.length)).toNat : Int)
        | 13 => v = .pointer (some ⟨w.heap.size, 1, none⟩)
        | 14 => v = .int .u16 (id.toNat : Int)
        | 15 => v = .int .u16 (wd : Int)
        | 16 => ∃ A, v = .slice A 3 3 ∧ Rd hv W W.heap.size A 3 [UInt16.ofNat (20 + os.length + xs.length), id, UInt16.ofNat wd]
        | 17 => ∃ L A c, v = .slice A L.length c ∧ Hid (L = puts16 [UInt16.ofNat (20 + os.length + xs.length), id, UInt16.ofNat wd]) ∧ Rd bv W W.heap.size A c L
        | 18 => v = .pointer (some ⟨w.heap.size, 5, none⟩)
        | 19 => v = .int .u8 (ttl.toNat : Int)
        | 20 => v = .pointer (some ⟨w.heap.size, 6, none⟩)
        | 21 => v = .int .u8 (pr.toNat : Int)
        | 22 => ∃ A, v = .slice A 4 4 ∧ Rd bv W W.heap.size A 4 [ttl, pr, 0, 0]
        | 23 => v = .pointer (some ⟨w.heap.size, 7, none⟩)
        | 24 => v = .int .u32 (s.toNat : Int)
        | 25 => v = .pointer (some ⟨w.heap.size, 8, none⟩)
        | 26 => v = .int .u32 (d.toNat : Int)
        | 27 => ∃ A, v = .slice A 2 2 ∧ Rd wv W W.heap.size A 2 [s, d]
        | 28 => ∃ L A c, v = .slice A L.length c ∧ Hid (L = puts32 [s, d]) ∧ Rd bv W W.heap.size A c L
        | 29 => v = .pointer (some ⟨w.heap.size, 9, none⟩)
        | 30 => v = .slice A1 os.length c1
        | 31 => ∃ g ls, v = .slice (some ⟨g, 0, none⟩) 5 5 ∧ Hid (ls.flatten = ih h tos (20 + os.length + xs.length) id wd ttl pr 0 s d os) ∧ Hid (ls.length = 5) ∧ g < W.heap.size ∧ ∃ B, B ≤ W.heap.size ∧ Parts W B g ls
        | 32 => ∃ L A c, v = .slice A L.length c ∧ Hid (L = ih h tos (20 + os.length + xs.length) id wd ttl pr 0 s d os) ∧ Rd bv W W.heap.size A c L
        | 33 => ∃ L A c, v = .slice A L.length c ∧ Hid (L = ih h tos (20 + os.length + xs.length) id wd ttl pr 0 s d os) ∧ Rd bv W W.heap.size A c L
        | _ => True) (Below.refl _ _) ?_ ?_ ?_
    · intro i v W W' h hb
      match i, h with
      | 0, h => exact h
      | 1, h => exact h
      | 2, h => exact h
      | 3, h => exact h
      | 4, h => exact h
      | 5, h => exact h
      | 6, h => obtain ⟨A, h1, h2⟩ := h; exact ⟨A, h1, h2.next hb⟩
      | 7, h => exact h
      | 8, h => exact h
      | 9, h => exact h
      | 10, h => exact h
      | 11, h => exact h
      | 12, h => exact h
      | 13, h => exact h
      | 14, h => exact h
      | 15, h => exact h
      | 16, h => obtain ⟨A, h1, h2⟩ := h; exact ⟨A, h1, h2.next hb⟩
      | 17, h => obtain ⟨L, A, c, h1, h2, h3⟩ := h; exact ⟨L, A, c, h1, h2, h3.next hb⟩
      | 18, h => exact h
      | 19, h => exact h
      | 20, h => exact h
      | 21, h => exact h
      | 22, h => obtain ⟨A, h1, h2⟩ := h; exact ⟨A, h1, h2.next hb⟩
      | 23, h => exact h
      | 24, h => exact h
      | 25, h => exact h
      | 26, h => exact h
      | 27, h => obtain ⟨A, h1, h2⟩ := h; exact ⟨A, h1, h2.next hb⟩
      | 28, h => obtain ⟨L, A, c, h1, h2, h3⟩ := h; exact ⟨L, A, c, h1, h2, h3.next hb⟩
      | 29, h => exact h
      | 30, h => exact h
      | 31, h => obtain ⟨g, ls, h1, h2, h3, h4, B, h5, h6⟩ := h; exact ⟨g, ls, h1, h2, h3, Nat.lt_of_lt_of_le h4 hb.size, B, Nat.le_trans h5 hb.size, h6.next h4 h5 hb⟩
      | 32, h => obtain ⟨L, A, c, h1, h2, h3⟩ := h; exact ⟨L, A, c, h1, h2, h3.next hb⟩
      | 33, h => obtain ⟨L, A, c, h1, h2, h3⟩ := h; exact ⟨L, A, c, h1, h2, h3.next hb⟩
      | _ + 34, _ => trivial
    · intro i o uu W hoo hVW hd
      rcases i with _|_|_|_|_|_|_|_|_|_|_|_|_|_|_|_|_|_|_|_|_|_|_|_|_|_|_|_|_|_|_|_|_|_|i
      · obtain rfl := Option.some.inj hoo
        refine .inl ⟨wanted_none rfl, ?_⟩
        generalize hev : Act.eval _ = ev
        have ec : ∀ c, ev (.const c) = c := fun c => by rw [← hev]; rfl
        have e3 : ev (.tmp 3) = .int .i64 (20 + (os.length : Int)) := by rw [← hev]; exact eval_old (by kernel_rfl) 50 rfl (by decide) rfl
        clear hev hd
        exact .inl ⟨_, W, by go_simp, rfl, Below.refl _ _⟩
      · obtain rfl := Option.some.inj hoo
        have q0 : uu 0 = .int .i64 (20 + (os.length : Int)) := hd 0 (by kernel_rfl)
        refine .inl ⟨wanted_none rfl, ?_⟩
        generalize hev : Act.eval _ = ev
        have ec : ∀ c, ev (.const c) = c := fun c => by rw [← hev]; rfl
        have e17 : ev (.tmp 17) = .int .i64 (20 + (os.length : Int)) := by rw [← hev]; exact (eval_put (by kernel_rfl) 50 rfl (by decide)).trans q0
        clear hev hd q0
        have hm := (HM ()).out.1
        have hm2 : IntKind.i64.wrap (m : Int) = (m : Int) := by rw [IntKind.wrap_i64]; omega
        exact .inl ⟨_, W, by go_simp, rfl, Below.refl _ _⟩
      · obtain rfl := Option.some.inj hoo
        have q1 : uu 1 = .int .i64 (m : Int) := hd 1 (by kernel_rfl)
        refine .inl ⟨wanted_none rfl, ?_⟩
        generalize hev : Act.eval _ = ev
        have ec : ∀ c, ev (.const c) = c := fun c => by rw [← hev]; rfl
        have e18 : ev (.tmp 18) = .int .i64 (m : Int) := by rw [← hev]; exact (eval_put (by kernel_rfl) 50 rfl (by decide)).trans q1
        clear hev hd q1
        have hw := (HM ()).out.2.1
        exact .inl ⟨_, W, by go_simp, rfl, Below.refl _ _⟩
      · obtain rfl := Option.some.inj hoo
        have q2 : uu 2 = .int .i64 (64 + (m : Int)) := hd 2 (by kernel_rfl)
        refine .inl ⟨wanted_none rfl, ?_⟩
        generalize hev : Act.eval _ = ev
        have ec : ∀ c, ev (.const c) = c := fun c => by rw [← hev]; rfl
        have e19 : ev (.tmp 19) = .int .i64 (64 + (m : Int)) := by rw [← hev]; exact (eval_put (by kernel_rfl) 50 rfl (by decide)).trans q2
        clear hev hd q2
        have hw := (HM ()).out.2.2
        exact .inl ⟨_, W, by go_simp, rfl, Below.refl _ _⟩
      · obtain rfl := Option.some.inj hoo
        refine .inl ⟨wanted_none rfl, ?_⟩
        generalize hev : Act.eval _ = ev
        have ec : ∀ c, ev (.const c) = c := fun c => by rw [← hev]; rfl
        have e1 : ev (.tmp 1) = .pointer (some ⟨w.heap.size, 0, none⟩) := by rw [← hev]; exact eval_old (by kernel_rfl) 50 rfl (by decide) rfl
        clear hev hd
        exact .inl ⟨_, W, by go_simp, rfl, Below.refl _ _⟩
      · obtain rfl := Option.some.inj hoo
        have q4 : uu 4 = .pointer (some ⟨w.heap.size, 0, none⟩) := hd 4 (by kernel_rfl)
        refine .inl ⟨wanted_none rfl, ?_⟩
        generalize hev : Act.eval _ = ev
        have ec : ∀ c, ev (.const c) = c := fun c => by rw [← hev]; rfl
        have e21 : ev (.tmp 21) = .pointer (some ⟨w.heap.size, 0, none⟩) := by rw [← hev]; exact (eval_put (by kernel_rfl) 50 rfl (by decide)).trans q4
        clear hev hd q4
        obtain ⟨cc0, cc1, cc2, cc3, cc4, cc5, cc6, cc7, cc8, cc9, cc10⟩ := HS W hVW
        exact .inl ⟨_, W, by go_simp, rfl, Below.refl _ _⟩
      · obtain rfl := Option.some.inj hoo
        have q3 : uu 3 = .int .u8 (h.toNat : Int) := hd 3 (by kernel_rfl)
        have q5 : uu 5 = .int .u8 (tos.toNat : Int) := hd 5 (by kernel_rfl)
        refine .inl ⟨wanted_none rfl, ?_⟩
        generalize hev : Act.eval _ = ev
        have ec : ∀ c, ev (.const c) = c := fun c => by rw [← hev]; rfl
        have e20 : ev (.tmp 20) = .int .u8 (h.toNat : Int) := by rw [← hev]; exact (eval_put (by kernel_rfl) 50 rfl (by decide)).trans q3
        have e22 : ev (.tmp 22) = .int .u8 (tos.toNat : Int) := by rw [← hev]; exact (eval_put (by kernel_rfl) 50 rfl (by decide)).trans q5
        clear hev hd q3 q5
        exact .inl ⟨_, W.alloc (.cells #[.int .u8 (h.toNat : Int), .int .u8 (tos.toNat : Int)] 5), by go_simp, ⟨_, rfl, lit_at W _ [h, tos] rfl #[.int .u8 (h.toNat : Int), .int .u8 (tos.toNat : Int)] (rfl) _ (by simp)⟩, bnextA (Below.refl _ _) _⟩
      · obtain rfl := Option.some.inj hoo
        refine .inl ⟨wanted_none rfl, ?_⟩
        generalize hev : Act.eval _ = ev
        have ec : ∀ c, ev (.const c) = c := fun c => by rw [← hev]; rfl
        have e3 : ev (.tmp 3) = .int .i64 (20 + (os.length : Int)) := by rw [← hev]; exact eval_old (by kernel_rfl) 50 rfl (by decide) rfl
        clear hev hd
        exact .inl ⟨_, W, by go_simp, rfl, Below.refl _ _⟩
      · obtain rfl := Option.some.inj hoo
        refine .inl ⟨wanted_none rfl, ?_⟩
        generalize hev : Act.eval _ = ev
        have ec : ∀ c, ev (.const c) = c := fun c => by rw [← hev]; rfl
        have e1 : ev (.tmp 1) = .pointer (some ⟨w.heap.size, 0, none⟩) := by rw [← hev]; exact eval_old (by kernel_rfl) 50 rfl (by decide) rfl
        clear hev hd
        exact .inl ⟨_, W, by go_simp, rfl, Below.refl _ _⟩
      · obtain rfl := Option.some.inj hoo
        have q8 : uu 8 = .pointer (some ⟨w.heap.size, 10, none⟩) := hd 8 (by kernel_rfl)
        refine .inl ⟨wanted_none rfl, ?_⟩
        generalize hev : Act.eval _ = ev
        have ec : ∀ c, ev (.const c) = c := fun c => by rw [← hev]; rfl
        have e25 : ev (.tmp 25) = .pointer (some ⟨w.heap.size, 10, none⟩) := by rw [← hev]; exact (eval_put (by kernel_rfl) 50 rfl (by decide)).trans q8
        clear hev hd q8
        obtain ⟨cc0, cc1, cc2, cc3, cc4, cc5, cc6, cc7, cc8, cc9, cc10⟩ := HS W hVW
        exact .inl ⟨_, W, by go_simp, rfl, Below.refl _ _⟩
      · obtain rfl := Option.some.inj hoo
        have q9 : uu 9 = .slice A2 xs.length c2 := hd 9 (by kernel_rfl)
        refine .inl ⟨wanted_none rfl, ?_⟩
        generalize hev : Act.eval _ = ev
        have ec : ∀ c, ev (.const c) = c := fun c => by rw [← hev]; rfl
        have e26 : ev (.tmp 26) = .slice A2 xs.length c2 := by rw [← hev]; exact (eval_put (by kernel_rfl) 50 rfl (by decide)).trans q9
        clear hev hd q9
        exact .inl ⟨_, W, by go_simp, rfl, Below.refl _ _⟩
      · obtain rfl := Option.some.inj hoo
        have q7 : uu 7 = .int .i64 (20 + (os.length : Int)) := hd 7 (by kernel_rfl)
        have q10 : uu 10 = .int .i64 (xs.length : Int) := hd 10 (by kernel_rfl)
        refine .inl ⟨wanted_none rfl, ?_⟩
        generalize hev : Act.eval _ = ev
        have ec : ∀ c, ev (.const c) = c := fun c => by rw [← hev]; rfl
        have e24 : ev (.tmp 24) = .int .i64 (20 + (os.length : Int)) := by rw [← hev]; exact (eval_put (by kernel_rfl) 50 rfl (by decide)).trans q7
        have e27 : ev (.tmp 27) = .int .i64 (xs.length : Int) := by rw [← hev]; exact (eval_put (by kernel_rfl) 50 rfl (by decide)).trans q10
        clear hev hd q7 q10
        have ha := (HA ()).out.1
        exact .inl ⟨_, W, by go_simp, rfl, Below.refl _ _⟩
      · obtain rfl := Option.some.inj hoo
        have q11 : uu 11 = .int .i64 (al : Int) := hd 11 (by kernel_rfl)
        refine .inl ⟨wanted_none rfl, ?_⟩
        generalize hev : Act.eval _ = ev
        have ec : ∀ c, ev (.const c) = c := fun c => by rw [← hev]; rfl
        have e28 : ev (.tmp 28) = .int .i64 (al : Int) := by rw [← hev]; exact (eval_put (by kernel_rfl) 50 rfl (by decide)).trans q11
        clear hev hd q11
        have ha := (HA ()).out.2
        exact .inl ⟨_, W, by go_simp, rfl, Below.refl _ _⟩
      · obtain rfl := Option.some.inj hoo
        refine .inl ⟨wanted_none rfl, ?_⟩
        generalize hev : Act.eval _ = ev
        have ec : ∀ c, ev (.const c) = c := fun c => by rw [← hev]; rfl
        have e1 : ev (.tmp 1) = .pointer (some ⟨w.heap.size, 0, none⟩) := by rw [← hev]; exact eval_old (by kernel_rfl) 50 rfl (by decide) rfl
        clear hev hd
        exact .inl ⟨_, W, by go_simp, rfl, Below.refl _ _⟩
      · obtain rfl := Option.some.inj hoo
        have q13 : uu 13 = .pointer (some ⟨w.heap.size, 1, none⟩) := hd 13 (by kernel_rfl)
        refine .inl ⟨wanted_none rfl, ?_⟩
        generalize hev : Act.eval _ = ev
        have ec : ∀ c, ev (.const c) = c := fun c => by rw [← hev]; rfl
        have e30 : ev (.tmp 30) = .pointer (some ⟨w.heap.size, 1, none⟩) := by rw [← hev]; exact (eval_put (by kernel_rfl) 50 rfl (by decide)).trans q13
        clear hev hd q13
        obtain ⟨cc0, cc1, cc2, cc3, cc4, cc5, cc6, cc7, cc8, cc9, cc10⟩ := HS W hVW
        exact .inl ⟨_, W, by go_simp, rfl, Below.refl _ _⟩
      · obtain rfl := Option.some.inj hoo
        refine .inl ⟨wanted_none rfl, ?_⟩
        generalize hev : Act.eval _ = ev
        have ec : ∀ c, ev (.const c) = c := fun c => by rw [← hev]; rfl
        have e4 : ev (.tmp 4) = .int .u16 (wd : Int) := by rw [← hev]; exact eval_old (by kernel_rfl) 50 rfl (by decide) rfl
        clear hev hd
        exact .inl ⟨_, W, by go_simp, rfl, Below.refl _ _⟩
      · obtain rfl := Option.some.inj hoo
        have q12 : uu 12 = .int .u16 ((UInt16.ofNat (20 + os.length + xs.length)).toNat : Int) := hd 12 (by kernel_rfl)
        have q14 : uu 14 = .int .u16 (id.toNat : Int) := hd 14 (by kernel_rfl)
        have q15 : uu 15 = .int .u16 (wd : Int) := hd 15 (by kernel_rfl)
        refine .inl ⟨wanted_none rfl, ?_⟩
        generalize hev : Act.eval _ = ev
        have ec : ∀ c, ev (.const c) = c := fun c => by rw [← hev]; rfl
        have e29 : ev (.tmp 29) = .int .u16 ((UInt16.ofNat (20 + os.length + xs.length)).toNat : Int) := by rw [← hev]; exact (eval_put (by kernel_rfl) 50 rfl (by decide)).trans q12
        have e31 : ev (.tmp 31) = .int .u16 (id.toNat : Int) := by rw [← hev]; exact (eval_put (by kernel_rfl) 50 rfl (by decide)).trans q14
        have e32 : ev (.tmp 32) = .int .u16 (wd : Int) := by rw [← hev]; exact (eval_put (by kernel_rfl) 50 rfl (by decide)).trans q15
        clear hev hd q12 q14 q15
        exact .inl ⟨_, W.alloc (.cells #[.int .u16 ((UInt16.ofNat (20 + os.length + xs.length)).toNat : Int), .int .u16 (id.toNat : Int), .int .u16 (wd : Int)] 31), by go_simp, ⟨_, rfl, lit16_at W _ [UInt16.ofNat (20 + os.length + xs.length), id, UInt16.ofNat wd] rfl #[.int .u16 ((UInt16.ofNat (20 + os.length + xs.length)).toNat : Int), .int .u16 (id.toNat : Int), .int .u16 (wd : Int)] (by simp [hv]; try omega) _ (by simp)⟩, bnextA (Below.refl _ _) _⟩
      · obtain rfl := Option.some.inj hoo
        obtain ⟨A16, q16, r16⟩ := hd 16 (by kernel_rfl)
        refine .inl ⟨wanted_none rfl, ?_⟩
        generalize hev : Act.eval _ = ev
        have ec : ∀ c, ev (.const c) = c := fun c => by rw [← hev]; rfl
        have ef : ∀ f, ev (.func f) = .func (.func f) #[] #[] := fun f => by rw [← hev]; rfl
        have e33 : ev (.tmp 33) = .slice A16 3 3 := by rw [← hev]; exact (eval_put (by kernel_rfl) 50 rfl (by decide)).trans q16
        clear hev hd q16
        exact .inr ⟨_, _, _, by go_simp, put16_nil A16 3 [UInt16.ofNat (20 + os.length + xs.length), id, UInt16.ofNat wd] W r16 (by simp), fun e w' he => by
          obtain ⟨L, A, c, rfl, HL, hr, hb⟩ := he
          exact ⟨_, rfl, ⟨L, A, c, rfl, HL, hr⟩, hb⟩⟩
      · obtain rfl := Option.some.inj hoo
        refine .inl ⟨wanted_none rfl, ?_⟩
        generalize hev : Act.eval _ = ev
        have ec : ∀ c, ev (.const c) = c := fun c => by rw [← hev]; rfl
        have e1 : ev (.tmp 1) = .pointer (some ⟨w.heap.size, 0, none⟩) := by rw [← hev]; exact eval_old (by kernel_rfl) 50 rfl (by decide) rfl
        clear hev hd
        exact .inl ⟨_, W, by go_simp, rfl, Below.refl _ _⟩
      · obtain rfl := Option.some.inj hoo
        have q18 : uu 18 = .pointer (some ⟨w.heap.size, 5, none⟩) := hd 18 (by kernel_rfl)
        refine .inl ⟨wanted_none rfl, ?_⟩
        generalize hev : Act.eval _ = ev
        have ec : ∀ c, ev (.const c) = c := fun c => by rw [← hev]; rfl
        have e35 : ev (.tmp 35) = .pointer (some ⟨w.heap.size, 5, none⟩) := by rw [← hev]; exact (eval_put (by kernel_rfl) 50 rfl (by decide)).trans q18
        clear hev hd q18
        obtain ⟨cc0, cc1, cc2, cc3, cc4, cc5, cc6, cc7, cc8, cc9, cc10⟩ := HS W hVW
        exact .inl ⟨_, W, by go_simp, rfl, Below.refl _ _⟩
      · obtain rfl := Option.some.inj hoo
        refine .inl ⟨wanted_none rfl, ?_⟩
        generalize hev : Act.eval _ = ev
        have ec : ∀ c, ev (.const c) = c := fun c => by rw [← hev]; rfl
        have e1 : ev (.tmp 1) = .pointer (some ⟨w.heap.size, 0, none⟩) := by rw [← hev]; exact eval_old (by kernel_rfl) 50 rfl (by decide) rfl
        clear hev hd
        exact .inl ⟨_, W, by go_simp, rfl, Below.refl _ _⟩
      · obtain rfl := Option.some.inj hoo
        have q20 : uu 20 = .pointer (some ⟨w.heap.size, 6, none⟩) := hd 20 (by kernel_rfl)
        refine .inl ⟨wanted_none rfl, ?_⟩
        generalize hev : Act.eval _ = ev
        have ec : ∀ c, ev (.const c) = c := fun c => by rw [← hev]; rfl
        have e37 : ev (.tmp 37) = .pointer (some ⟨w.heap.size, 6, none⟩) := by rw [← hev]; exact (eval_put (by kernel_rfl) 50 rfl (by decide)).trans q20
        clear hev hd q20
        obtain ⟨cc0, cc1, cc2, cc3, cc4, cc5, cc6, cc7, cc8, cc9, cc10⟩ := HS W hVW
        exact .inl ⟨_, W, by go_simp, rfl, Below.refl _ _⟩
      · obtain rfl := Option.some.inj hoo
        have q19 : uu 19 = .int .u8 (ttl.toNat : Int) := hd 19 (by kernel_rfl)
        have q21 : uu 21 = .int .u8 (pr.toNat : Int) := hd 21 (by kernel_rfl)
        refine .inl ⟨wanted_none rfl, ?_⟩
        generalize hev : Act.eval _ = ev
        have ec : ∀ c, ev (.const c) = c := fun c => by rw [← hev]; rfl
        have e36 : ev (.tmp 36) = .int .u8 (ttl.toNat : Int) := by rw [← hev]; exact (eval_put (by kernel_rfl) 50 rfl (by decide)).trans q19
        have e38 : ev (.tmp 38) = .int .u8 (pr.toNat : Int) := by rw [← hev]; exact (eval_put (by kernel_rfl) 50 rfl (by decide)).trans q21
        clear hev hd q19 q21
        exact .inl ⟨_, W.alloc (.cells #[.int .u8 (ttl.toNat : Int), .int .u8 (pr.toNat : Int), .int .u8 0, .int .u8 0] 5), by go_simp, ⟨_, rfl, lit_at W _ [ttl, pr, 0, 0] rfl #[.int .u8 (ttl.toNat : Int), .int .u8 (pr.toNat : Int), .int .u8 0, .int .u8 0] (rfl) _ (by simp)⟩, bnextA (Below.refl _ _) _⟩
      · obtain rfl := Option.some.inj hoo
        refine .inl ⟨wanted_none rfl, ?_⟩
        generalize hev : Act.eval _ = ev
        have ec : ∀ c, ev (.const c) = c := fun c => by rw [← hev]; rfl
        have e1 : ev (.tmp 1) = .pointer (some ⟨w.heap.size, 0, none⟩) := by rw [← hev]; exact eval_old (by kernel_rfl) 50 rfl (by decide) rfl
        clear hev hd
        exact .inl ⟨_, W, by go_simp, rfl, Below.refl _ _⟩
      · obtain rfl := Option.some.inj hoo
        have q23 : uu 23 = .pointer (some ⟨w.heap.size, 7, none⟩) := hd 23 (by kernel_rfl)
        refine .inl ⟨wanted_none rfl, ?_⟩
        generalize hev : Act.eval _ = ev
        have ec : ∀ c, ev (.const c) = c := fun c => by rw [← hev]; rfl
        have e40 : ev (.tmp 40) = .pointer (some ⟨w.heap.size, 7, none⟩) := by rw [← hev]; exact (eval_put (by kernel_rfl) 50 rfl (by decide)).trans q23
        clear hev hd q23
        obtain ⟨cc0, cc1, cc2, cc3, cc4, cc5, cc6, cc7, cc8, cc9, cc10⟩ := HS W hVW
        exact .inl ⟨_, W, by go_simp, rfl, Below.refl _ _⟩
      · obtain rfl := Option.some.inj hoo
        refine .inl ⟨wanted_none rfl, ?_⟩
        generalize hev : Act.eval _ = ev
        have ec : ∀ c, ev (.const c) = c := fun c => by rw [← hev]; rfl
        have e1 : ev (.tmp 1) = .pointer (some ⟨w.heap.size, 0, none⟩) := by rw [← hev]; exact eval_old (by kernel_rfl) 50 rfl (by decide) rfl
        clear hev hd
        exact .inl ⟨_, W, by go_simp, rfl, Below.refl _ _⟩
      · obtain rfl := Option.some.inj hoo
        have q25 : uu 25 = .pointer (some ⟨w.heap.size, 8, none⟩) := hd 25 (by kernel_rfl)
        refine .inl ⟨wanted_none rfl, ?_⟩
        generalize hev : Act.eval _ = ev
        have ec : ∀ c, ev (.const c) = c := fun c => by rw [← hev]; rfl
        have e42 : ev (.tmp 42) = .pointer (some ⟨w.heap.size, 8, none⟩) := by rw [← hev]; exact (eval_put (by kernel_rfl) 50 rfl (by decide)).trans q25
        clear hev hd q25
        obtain ⟨cc0, cc1, cc2, cc3, cc4, cc5, cc6, cc7, cc8, cc9, cc10⟩ := HS W hVW
        exact .inl ⟨_, W, by go_simp, rfl, Below.refl _ _⟩
      · obtain rfl := Option.some.inj hoo
        have q24 : uu 24 = .int .u32 (s.toNat : Int) := hd 24 (by kernel_rfl)
        have q26 : uu 26 = .int .u32 (d.toNat : Int) := hd 26 (by kernel_rfl)
        refine .inl ⟨wanted_none rfl, ?_⟩
        generalize hev : Act.eval _ = ev
        have ec : ∀ c, ev (.const c) = c := fun c => by rw [← hev]; rfl
        have e41 : ev (.tmp 41) = .int .u32 (s.toNat : Int) := by rw [← hev]; exact (eval_put (by kernel_rfl) 50 rfl (by decide)).trans q24
        have e43 : ev (.tmp 43) = .int .u32 (d.toNat : Int) := by rw [← hev]; exact (eval_put (by kernel_rfl) 50 rfl (by decide)).trans q26
        clear hev hd q24 q26
        exact .inl ⟨_, W.alloc (.cells #[.int .u32 (s.toNat : Int), .int .u32 (d.toNat : Int)] 25), by go_simp, ⟨_, rfl, lit32_at W _ [s, d] rfl #[.int .u32 (s.toNat : Int), .int .u32 (d.toNat : Int)] (rfl) _ (by simp)⟩, bnextA (Below.refl _ _) _⟩
      · obtain rfl := Option.some.inj hoo
        obtain ⟨A27, q27, r27⟩ := hd 27 (by kernel_rfl)
        refine .inl ⟨wanted_none rfl, ?_⟩
        generalize hev : Act.eval _ = ev
        have ec : ∀ c, ev (.const c) = c := fun c => by rw [← hev]; rfl
        have ef : ∀ f, ev (.func f) = .func (.func f) #[] #[] := fun f => by rw [← hev]; rfl
        have e44 : ev (.tmp 44) = .slice A27 2 2 := by rw [← hev]; exact (eval_put (by kernel_rfl) 50 rfl (by decide)).trans q27
        clear hev hd q27
        exact .inr ⟨_, _, _, by go_simp, put32_nil A27 2 [s, d] W r27 (by simp), fun e w' he => by
          obtain ⟨L, A, c, rfl, HL, hr, hb⟩ := he
          exact ⟨_, rfl, ⟨L, A, c, rfl, HL, hr⟩, hb⟩⟩
      · obtain rfl := Option.some.inj hoo
        refine .inl ⟨wanted_none rfl, ?_⟩
        generalize hev : Act.eval _ = ev
        have ec : ∀ c, ev (.const c) = c := fun c => by rw [← hev]; rfl
        have e1 : ev (.tmp 1) = .pointer (some ⟨w.heap.size, 0, none⟩) := by rw [← hev]; exact eval_old (by kernel_rfl) 50 rfl (by decide) rfl
        clear hev hd
        exact .inl ⟨_, W, by go_simp, rfl, Below.refl _ _⟩
      · obtain rfl := Option.some.inj hoo
        have q29 : uu 29 = .pointer (some ⟨w.heap.size, 9, none⟩) := hd 29 (by kernel_rfl)
        refine .inl ⟨wanted_none rfl, ?_⟩
        generalize hev : Act.eval _ = ev
        have ec : ∀ c, ev (.const c) = c := fun c => by rw [← hev]; rfl
        have e46 : ev (.tmp 46) = .pointer (some ⟨w.heap.size, 9, none⟩) := by rw [← hev]; exact (eval_put (by kernel_rfl) 50 rfl (by decide)).trans q29
        clear hev hd q29
        obtain ⟨cc0, cc1, cc2, cc3, cc4, cc5, cc6, cc7, cc8, cc9, cc10⟩ := HS W hVW
        exact .inl ⟨_, W, by go_simp, rfl, Below.refl _ _⟩
      · obtain rfl := Option.some.inj hoo
        obtain ⟨A6, q6, r6⟩ := hd 6 (by kernel_rfl)
        obtain ⟨L17, A17, c17, q17, HL17, r17⟩ := hd 17 (by kernel_rfl)
        obtain ⟨A22, q22, r22⟩ := hd 22 (by kernel_rfl)
        obtain ⟨L28, A28, c28, q28, HL28, r28⟩ := hd 28 (by kernel_rfl)
        have q30 : uu 30 = .slice A1 os.length c1 := hd 30 (by kernel_rfl)
        refine .inl ⟨wanted_none rfl, ?_⟩
        generalize hev : Act.eval _ = ev
        have ec : ∀ c, ev (.const c) = c := fun c => by rw [← hev]; rfl
        have e23 : ev (.tmp 23) = .slice A6 2 2 := by rw [← hev]; exact (eval_put (by kernel_rfl) 50 rfl (by decide)).trans q6
        have e34 : ev (.tmp 34) = .slice A17 L17.length c17 := by rw [← hev]; exact (eval_put (by kernel_rfl) 50 rfl (by decide)).trans q17
        have e39 : ev (.tmp 39) = .slice A22 4 4 := by rw [← hev]; exact (eval_put (by kernel_rfl) 50 rfl (by decide)).trans q22
        have e45 : ev (.tmp 45) = .slice A28 L28.length c28 := by rw [← hev]; exact (eval_put (by kernel_rfl) 50 rfl (by decide)).trans q28
        have e47 : ev (.tmp 47) = .slice A1 os.length c1 := by rw [← hev]; exact (eval_put (by kernel_rfl) 50 rfl (by decide)).trans q30
        clear hev hd q6 q17 q22 q28 q30
        exact .inl ⟨_, W.alloc (.cells #[.slice A6 2 2, .slice A17 L17.length c17, .slice A22 4 4, .slice A28 L28.length c28, .slice A1 os.length c1] 34), by go_simp, ⟨W.heap.size, [[h, tos], L17, [ttl, pr, 0, 0], L28, os], rfl, by rw [Hid, HL17.out, HL28.out]; simp [ih, puts16, puts32, be16], rfl, by simp, W.heap.size, by simp, parts_at _ rfl (.cons r6 (.cons r17 (.cons r22 (.cons r28 (.cons (ho.next hVW) .nil))))) _ rfl _⟩, bnextA (Below.refl _ _) _⟩
      · obtain rfl := Option.some.inj hoo
        obtain ⟨g31, ls31, q31, HF31, HN31, hg31, B31, hB31, hP31⟩ := hd 31 (by kernel_rfl)
        refine .inl ⟨wanted_none rfl, ?_⟩
        generalize hev : Act.eval _ = ev
        have ec : ∀ c, ev (.const c) = c := fun c => by rw [← hev]; rfl
        have ef : ∀ f, ev (.func f) = .func (.func f) #[] #[] := fun f => by rw [← hev]; rfl
        have e48 : ev (.tmp 48) = .slice (some ⟨g31, 0, none⟩) 5 5 := by rw [← hev]; exact (eval_put (by kernel_rfl) 50 rfl (by decide)).trans q31
        clear hev hd q31
        exact .inr ⟨_, _, _, by go_simp, join_any W B31 g31 5 ls31 hP31 HN31.out (by omega) (by omega) (by rw [HF31.out, ih_len]; omega), fun e w' he => by
          obtain ⟨L, A, c, rfl, HL, hr, hb⟩ := he
          exact ⟨_, rfl, ⟨L, A, c, rfl, by rw [Hid, HL.out, HF31.out], hr⟩, hb⟩⟩
      · obtain rfl := Option.some.inj hoo
        obtain ⟨L32, A32, c32, q32, HL32, r32⟩ := hd 32 (by kernel_rfl)
        refine .inl ⟨wanted_none rfl, ?_⟩
        generalize hev : Act.eval _ = ev
        have ec : ∀ c, ev (.const c) = c := fun c => by rw [← hev]; rfl
        have e49 : ev (.tmp 49) = .slice A32 L32.length c32 := by rw [← hev]; exact (eval_put (by kernel_rfl) 50 rfl (by decide)).trans q32
        clear hev hd q32
        exact .inl ⟨_, W, by go_simp, ⟨L32, A32, c32, rfl, HL32, r32⟩, Below.refl _ _⟩
      · simp at hoo
    · intro uu W hVW hall
      obtain ⟨L, A, c, q33, HL, hr⟩ : ∃ L A c, uu 33 = .slice A L.length c ∧ Hid (L = ih h tos (20 + os.length + xs.length) id wd ttl pr 0 s d os) ∧ Rd bv W W.heap.size A c L := hall 33 (by decide)
      have hB := hB1.trans (hVW.mono hB1.size)
      clear hall HS hK1 HM HA ho
      simp only [putAll, Act.put, Nat.reduceAdd, q33]
      simp only [List.setIfInBounds_toArray, List.set_cons_succ, List.set_cons_zero]
      go_wp2_with fail
      go_ret
      exact ⟨L, A, c, rfl, by rw [Hid, HL.out, HWD.out], hr, hB⟩

  · obtain ⟨wd, hwd⟩ : ∃ wd : Nat, wd = fo.toNat + 8192 := ⟨_, rfl⟩
    have HWD : Hid (wd = wdN false true fo) := by rw [Hid, hwd]; simp [wdN]
    have HWQ := Lib.hid hwd
    have hwl : wd ≤ 65535 := by omega
    have o1 := or_mf fo.toNat h3
    rw [← hwd] at o1
    clear hwd
    go_enter Try.func30, Try.ntmps30
    go_wp2_with fail
    rw [← hW1]
    clear hW1
    refine (HZ _).out.mono ?_
    rintro e w0 ⟨rfl, hbel⟩
    obtain ⟨p0, p1, p2, p3, p4, p5, p6, p7, p8, p9, p10⟩ := HS _ hbel
    replace hB1 := bnext hB1 hbel
    replace ho := ho.next hbel
    replace hK1 := hK1.next hbel
    clear hbel HZ HS
    go_wp2_with fail
    skip
    clear p0 p1 p2 p3 p4 p5 p6 p7 p8 p9 p10 o1
    have HS : ∀ W, Below w0.heap.size w0 W → (W.cell? ⟨w.heap.size, 0, none⟩ = some (.int .u8 (tos.toNat : Int)) ∧ W.cell? ⟨w.heap.size, 1, none⟩ = some (.int .u16 (id.toNat : Int)) ∧ W.cell? ⟨w.heap.size, 2, none⟩ = some (.bool false) ∧ W.cell? ⟨w.heap.size, 3, none⟩ = some (.bool true) ∧ W.cell? ⟨w.heap.size, 4, none⟩ = some (.int .u16 (fo.toNat : Int)) ∧ W.cell? ⟨w.heap.size, 5, none⟩ = some (.int .u8 (ttl.toNat : Int)) ∧ W.cell? ⟨w.heap.size, 6, none⟩ = some (.int .u8 (pr.toNat : Int)) ∧ W.cell? ⟨w.heap.size, 7, none⟩ = some (.int .u32 (s.toNat : Int)) ∧ W.cell? ⟨w.heap.size, 8, none⟩ = some (.int .u32 (d.toNat : Int)) ∧ W.cell? ⟨w.heap.size, 9, none⟩ = some (.slice A1 os.length c1) ∧ W.cell? ⟨w.heap.size, 10, none⟩ = some (.slice A2 xs.length c2)) := by
      intro W h
      obtain ⟨p0, p1, p2, p3, p4, p5, p6, p7, p8, p9, p10, -⟩ := (hK1.next h).get11
      exact ⟨p0, p1, p2, p3, p4, p5, p6, p7, p8, p9, p10⟩
    refine region_put (by kernel_rfl) (by kernel_rfl) (by kernel_rfl) 50 rfl (by kernel_rfl) w0 (fun i v W => match i with
        | 0 => v = .int .i64 (20 + (os.length : Int))
        | 1 => v = .int .i64 (m : Int)
        | 2 => v = .int .i64 (64 + (m : Int))
        | 3 => v = .int .u8 (h.toNat : Int)
        | 4 => v = .pointer (some ⟨w.heap.size, 0, none⟩)
        | 5 => v = .int .u8 (tos.toNat : Int)
        | 6 => ∃ A, v = .slice A 2 2 ∧ Rd bv W W.heap.size A 2 [h, tos]
        | 7 => v = .int .i64 (20 + (os.length : Int))
        | 8 => v = .pointer (some ⟨w.heap.size, 10, none⟩)
        | 9 => v = .slice A2 xs.length c2
        | 10 => v = .int .i64 (xs.length : Int)
        | 11 => v = .int .i64 (al : Int)
        | 12 => v = .int .u16 ((UInt16.ofNat (20 + os.length + xs.length)).toNat : Int)
        | 13 => v = .pointer (some ⟨w.heap.size, 1, none⟩)
        | 14 => v = .int .u16 (id.toNat : Int)
        | 15 => v = .int .u16 (wd : Int)
        | 16 => ∃ A, v = .slice A 3 3 ∧ Rd hv W W.heap.size A 3 [UInt16.ofNat (20 + os.length + xs.length), id, UInt16.ofNat wd]
        | 17 => ∃ L A c, v = .slice A L.length c ∧ Hid (L = puts16 [UInt16.ofNat (20 + os.length + xs.length), id, UInt16.ofNat wd]) ∧ Rd bv W W.heap.size A c L
        | 18 => v = .pointer (some ⟨w.heap.size, 5, none⟩)
        | 19 => v = .int .u8 (ttl.toNat : Int)
        | 20 => v = .pointer (some ⟨w.heap.size, 6, none⟩)
        | 21 => v = .int .u8 (pr.toNat : Int)
        | 22 => ∃ A, v = .slice A 4 4 ∧ Rd bv W W.heap.size A 4 [ttl, pr, 0, 0]
        | 23 => v = .pointer (some ⟨w.heap.size, 7, none⟩)
        | 24 => v = .int .u32 (s.toNat : Int)
        | 25 => v = .pointer (some ⟨w.heap.size, 8, none⟩)
        | 26 => v = .int .u32 (d.toNat : Int)
        | 27 => ∃ A, v = .slice A 2 2 ∧ Rd wv W W.heap.size A 2 [s, d]
        | 28 => ∃ L A c, v = .slice A L.length c ∧ Hid (L = puts32 [s, d]) ∧ Rd bv W W.heap.size A c L
        | 29 => v = .pointer (some ⟨w.heap.size, 9, none⟩)
        | 30 => v = .slice A1 os.length c1
        | 31 => ∃ g ls, v = .slice (some ⟨g, 0, none⟩) 5 5 ∧ Hid (ls.flatten = ih h tos (20 + os.length + xs.length) id wd ttl pr 0 s d os) ∧ Hid (ls.length = 5) ∧ g < W.heap.size ∧ ∃ B, B ≤ W.heap.size ∧ Parts W B g ls
        | 32 => ∃ L A c, v = .slice A L.length c ∧ Hid (L = ih h tos (20 + os.length + xs.length) id wd ttl pr 0 s d os) ∧ Rd bv W W.heap.size A c L
        | 33 => ∃ L A c, v = .slice A L.length c ∧ Hid (L = ih h tos (20 + os.length + xs.length) id wd ttl pr 0 s d os) ∧ Rd bv W W.heap.size A c L
        | _ => True) (Below.refl _ _) ?_ ?_ ?_
    · intro i v W W' h hb
      match i, h with
      | 0, h => exact h
      | 1, h => exact h
      | 2, h => exact h
      | 3, h => exact h
      | 4, h => exact h
      | 5, h => exact h
      | 6, h => obtain ⟨A, h1, h2⟩ := h; exact ⟨A, h1, h2.next hb⟩
      | 7, h => exact h
      | 8, h => exact h
      | 9, h => exact h
      | 10, h => exact h
      | 11, h => exact h
      | 12, h => exact h
      | 13, h => exact h
      | 14, h => exact h
      | 15, h => exact h
      | 16, h => obtain ⟨A, h1, h2⟩ := h; exact ⟨A, h1, h2.next hb⟩
      | 17, h => obtain ⟨L, A, c, h1, h2, h3⟩ := h; exact ⟨L, A, c, h1, h2, h3.next hb⟩
      | 18, h => exact h
      | 19, h => exact h
      | 20, h => exact h
      | 21, h => exact h
      | 22, h => obtain ⟨A, h1, h2⟩ := h; exact ⟨A, h1, h2.next hb⟩
      | 23, h => exact h
      | 24, h => exact h
      | 25, h => exact h
      | 26, h => exact h
      | 27, h => obtain ⟨A, h1, h2⟩ := h; exact ⟨A, h1, h2.next hb⟩
      | 28, h => obtain ⟨L, A, c, h1, h2, h3⟩ := h; exact ⟨L, A, c, h1, h2, h3.next hb⟩
      | 29, h => exact h
      | 30, h => exact h
      | 31, h => obtain ⟨g, ls, h1, h2, h3, h4, B, h5, h6⟩ := h; exact ⟨g, ls, h1, h2, h3, Nat.lt_of_lt_of_le h4 hb.size, B, Nat.le_trans h5 hb.size, h6.next h4 h5 hb⟩
      | 32, h => obtain ⟨L, A, c, h1, h2, h3⟩ := h; exact ⟨L, A, c, h1, h2, h3.next hb⟩
      | 33, h => obtain ⟨L, A, c, h1, h2, h3⟩ := h; exact ⟨L, A, c, h1, h2, h3.next hb⟩
      | _ + 34, _ => trivial
    · intro i o uu W hoo hVW hd
      rcases i with _|_|_|_|_|_|_|_|_|_|_|_|_|_|_|_|_|_|_|_|_|_|_|_|_|_|_|_|_|_|_|_|_|_|i
      · obtain rfl := Option.some.inj hoo
        refine .inl ⟨wanted_none rfl, ?_⟩
        generalize hev : Act.eval _ = ev
        have ec : ∀ c, ev (.const c) = c := fun c => by rw [← hev]; rfl
        have e3 : ev (.tmp 3) = .int .i64 (20 + (os.length : Int)) := by rw [← hev]; exact eval_old (by kernel_rfl) 50 rfl (by decide) rfl
        clear hev hd
        exact .inl ⟨_, W, by go_simp, rfl, Below.refl _ _⟩
      · obtain rfl := Option.some.inj hoo
        have q0 : uu 0 = .int .i64 (20 + (os.length : Int)) := hd 0 (by kernel_rfl)
        refine .inl ⟨wanted_none rfl, ?_⟩
        generalize hev : Act.eval _ = ev
        have ec : ∀ c, ev (.const c) = c := fun c => by rw [← hev]; rfl
        have e17 : ev (.tmp 17) = .int .i64 (20 + (os.length : Int)) := by rw [← hev]; exact (eval_put (by kernel_rfl) 50 rfl (by decide)).trans q0
        clear hev hd q0
        have hm := (HM ()).out.1
        have hm2 : IntKind.i64.wrap (m : Int) = (m : Int) := by rw [IntKind.wrap_i64]; omega
        exact .inl ⟨_, W, by go_simp, rfl, Below.refl _ _⟩
      · obtain rfl := Option.some.inj hoo
        have q1 : uu 1 = .int .i64 (m : Int) := hd 1 (by kernel_rfl)
        refine .inl ⟨wanted_none rfl, ?_⟩
        generalize hev : Act.eval _ = ev
        have ec : ∀ c, ev (.const c) = c := fun c => by rw [← hev]; rfl
        have e18 : ev (.tmp 18) = .int .i64 (m : Int) := by rw [← hev]; exact (eval_put (by kernel_rfl) 50 rfl (by decide)).trans q1
        clear hev hd q1
        have hw := (HM ()).out.2.1
        exact .inl ⟨_, W, by go_simp, rfl, Below.refl _ _⟩
      · obtain rfl := Option.some.inj hoo
        have q2 : uu 2 = .int .i64 (64 + (m : Int)) := hd 2 (by kernel_rfl)
        refine .inl ⟨wanted_none rfl, ?_⟩
        generalize hev : Act.eval _ = ev
        have ec : ∀ c, ev (.const c) = c := fun c => by rw [← hev]; rfl
        have e19 : ev (.tmp 19) = .int .i64 (64 + (m : Int)) := by rw [← hev]; exact (eval_put (by kernel_rfl) 50 rfl (by decide)).trans q2
        clear hev hd q2
        have hw := (HM ()).out.2.2
        exact .inl ⟨_, W, by go_simp, rfl, Below.refl _ _⟩
      · obtain rfl := Option.some.inj hoo
        refine .inl ⟨wanted_none rfl, ?_⟩
        generalize hev : Act.eval _ = ev
        have ec : ∀ c, ev (.const c) = c := fun c => by rw [← hev]; rfl
        have e1 : ev (.tmp 1) = .pointer (some ⟨w.heap.size, 0, none⟩) := by rw [← hev]; exact eval_old (by kernel_rfl) 50 rfl (by decide) rfl
        clear hev hd
        exact .inl ⟨_, W, by go_simp, rfl, Below.refl _ _⟩
      · obtain rfl := Option.some.inj hoo
        have q4 : uu 4 = .pointer (some ⟨w.heap.size, 0, none⟩) := hd 4 (by kernel_rfl)
        refine .inl ⟨wanted_none rfl, ?_⟩
        generalize hev : Act.eval _ = ev
        have ec : ∀ c, ev (.const c) = c := fun c => by rw [← hev]; rfl
        have e21 : ev (.tmp 21) = .pointer (some ⟨w.heap.size, 0, none⟩) := by rw [← hev]; exact (eval_put (by kernel_rfl) 50 rfl (by decide)).trans q4
        clear hev hd q4
        obtain ⟨cc0, cc1, cc2, cc3, cc4, cc5, cc6, cc7, cc8, cc9, cc10⟩ := HS W hVW
        exact .inl ⟨_, W, by go_simp, rfl, Below.refl _ _⟩
      · obtain rfl := Option.some.inj hoo
        have q3 : uu 3 = .int .u8 (h.toNat : Int) := hd 3 (by kernel_rfl)
        have q5 : uu 5 = .int .u8 (tos.toNat : Int) := hd 5 (by kernel_rfl)
        refine .inl ⟨wanted_none rfl, ?_⟩
        generalize hev : Act.eval _ = ev
        have ec : ∀ c, ev (.const c) = c := fun c => by rw [← hev]; rfl
        have e20 : ev (.tmp 20) = .int .u8 (h.toNat : Int) := by rw [← hev]; exact (eval_put (by kernel_rfl) 50 rfl (by decide)).trans q3
        have e22 : ev (.tmp 22) = .int .u8 (tos.toNat : Int) := by rw [← hev]; exact (eval_put (by kernel_rfl) 50 rfl (by decide)).trans q5
        clear hev hd q3 q5
        exact .inl ⟨_, W.alloc (.cells #[.int .u8 (h.toNat : Int), .int .u8 (tos.toNat : Int)] 5), by go_simp, ⟨_, rfl, lit_at W _ [h, tos] rfl #[.int .u8 (h.toNat : Int), .int .u8 (tos.toNat : Int)] (rfl) _ (by simp)⟩, bnextA (Below.refl _ _) _⟩
      · obtain rfl := Option.some.inj hoo
        refine .inl ⟨wanted_none rfl, ?_⟩
        generalize hev : Act.eval _ = ev
        have ec : ∀ c, ev (.const c) = c := fun c => by rw [← hev]; rfl
        have e3 : ev (.tmp 3) = .int .i64 (20 + (os.length : Int)) := by rw [← hev]; exact eval_old (by kernel_rfl) 50 rfl (by decide) rfl
        clear hev hd
        exact .inl ⟨_, W, by go_simp, rfl, Below.refl _ _⟩
      · obtain rfl := Option.some.inj hoo
        refine .inl ⟨wanted_none rfl, ?_⟩
        generalize hev : Act.eval _ = ev
        have ec : ∀ c, ev (.const c) = c := fun c => by rw [← hev]; rfl
        have e1 : ev (.tmp 1) = .pointer (some ⟨w.heap.size, 0, none⟩) := by rw [← hev]; exact eval_old (by kernel_rfl) 50 rfl (by decide) rfl
        clear hev hd
        exact .inl ⟨_, W, by go_simp, rfl, Below.refl _ _⟩
      · obtain rfl := Option.some.inj hoo
        have q8 : uu 8 = .pointer (some ⟨w.heap.size, 10, none⟩) := hd 8 (by kernel_rfl)
        refine .inl ⟨wanted_none rfl, ?_⟩
        generalize hev : Act.eval _ = ev
        have ec : ∀ c, ev (.const c) = c := fun c => by rw [← hev]; rfl
        have e25 : ev (.tmp 25) = .pointer (some ⟨w.heap.size, 10, none⟩) := by rw [← hev]; exact (eval_put (by kernel_rfl) 50 rfl (by decide)).trans q8
        clear hev hd q8
        obtain ⟨cc0, cc1, cc2, cc3, cc4, cc5, cc6, cc7, cc8, cc9, cc10⟩ := HS W hVW
        exact .inl ⟨_, W, by go_simp, rfl, Below.refl _ _⟩
      · obtain rfl := Option.some.inj hoo
        have q9 : uu 9 = .slice A2 xs.length c2 := hd 9 (by kernel_rfl)
        refine .inl ⟨wanted_none rfl, ?_⟩
        generalize hev : Act.eval _ = ev
        have ec : ∀ c, ev (.const c) = c := fun c => by rw [← hev]; rfl
        have e26 : ev (.tmp 26) = .slice A2 xs.length c2 := by rw [← hev]; exact (eval_put (by kernel_rfl) 50 rfl (by decide)).trans q9
        clear hev hd q9
        exact .inl ⟨_, W, by go_simp, rfl, Below.refl _ _⟩
      · obtain rfl := Option.some.inj hoo
        have q7 : uu 7 = .int .i64 (20 + (os.length : Int)) := hd 7 (by kernel_rfl)
        have q10 : uu 10 = .int .i64 (xs.length : Int) := hd 10 (by kernel_rfl)
        refine .inl ⟨wanted_none rfl, ?_⟩
        generalize hev : Act.eval _ = ev
        have ec : ∀ c, ev (.const c) = c := fun c => by rw [← hev]; rfl
        have e24 : ev (.tmp 24) = .int .i64 (20 + (os.length : Int)) := by rw [← hev]; exact (eval_put (by kernel_rfl) 50 rfl (by decide)).trans q7
        have e27 : ev (.tmp 27) = .int .i64 (xs.length : Int) := by rw [← hev]; exact (eval_put (by kernel_rfl) 50 rfl (by decide)).trans q10
        clear hev hd q7 q10
        have ha := (HA ()).out.1
        exact .inl ⟨_, W, by go_simp, rfl, Below.refl _ _⟩
      · obtain rfl := Option.some.inj hoo
        have q11 : uu 11 = .int .i64 (al : Int) := hd 11 (by kernel_rfl)
        refine .inl ⟨wanted_none rfl, ?_⟩
        generalize hev : Act.eval _ = ev
        have ec : ∀ c, ev (.const c) = c := fun c => by rw [← hev]; rfl
        have e28 : ev (.tmp 28) = .int .i64 (al : Int) := by rw [← hev]; exact (eval_put (by kernel_rfl) 50 rfl (by decide)).trans q11
        clear hev hd q11
        have ha := (HA ()).out.2
        exact .inl ⟨_, W, by go_simp, rfl, Below.refl _ _⟩
      · obtain rfl := Option.some.inj hoo
        refine .inl ⟨wanted_none rfl, ?_⟩
        generalize hev : Act.eval _ = ev
        have ec : ∀ c, ev (.const c) = c := fun c => by rw [← hev]; rfl
        have e1 : ev (.tmp 1) = .pointer (some ⟨w.heap.size, 0, none⟩) := by rw [← hev]; exact eval_old (by kernel_rfl) 50 rfl (by decide) rfl
        clear hev hd
        exact .inl ⟨_, W, by go_simp, rfl, Below.refl _ _⟩
      · obtain rfl := Option.some.inj hoo
        have q13 : uu 13 = .pointer (some ⟨w.heap.size, 1, none⟩) := hd 13 (by kernel_rfl)
        refine .inl ⟨wanted_none rfl, ?_⟩
        generalize hev : Act.eval _ = ev
        have ec : ∀ c, ev (.const c) = c := fun c => by rw [← hev]; rfl
        have e30 : ev (.tmp 30) = .pointer (some ⟨w.heap.size, 1, none⟩) := by rw [← hev]; exact (eval_put (by kernel_rfl) 50 rfl (by decide)).trans q13
        clear hev hd q13
        obtain ⟨cc0, cc1, cc2, cc3, cc4, cc5, cc6, cc7, cc8, cc9, cc10⟩ := HS W hVW
        exact .inl ⟨_, W, by go_simp, rfl, Below.refl _ _⟩
      · obtain rfl := Option.some.inj hoo
        refine .inl ⟨wanted_none rfl, ?_⟩
        generalize hev : Act.eval _ = ev
        have ec : ∀ c, ev (.const c) = c := fun c => by rw [← hev]; rfl
        have e4 : ev (.tmp 4) = .int .u16 (wd : Int) := by rw [← hev]; exact eval_old (by kernel_rfl) 50 rfl (by decide) rfl
        clear hev hd
        exact .inl ⟨_, W, by go_simp, rfl, Below.refl _ _⟩
      · obtain rfl := Option.some.inj hoo
        have q12 : uu 12 = .int .u16 ((UInt16.ofNat (20 + os.length + xs.length)).toNat : Int) := hd 12 (by kernel_rfl)
        have q14 : uu 14 = .int .u16 (id.toNat : Int) := hd 14 (by kernel_rfl)
        have q15 : uu 15 = .int .u16 (wd : Int) := hd 15 (by kernel_rfl)
        refine .inl ⟨wanted_none rfl, ?_⟩
        generalize hev : Act.eval _ = ev
        have ec : ∀ c, ev (.const c) = c := fun c => by rw [← hev]; rfl
        have e29 : ev (.tmp 29) = .int .u16 ((UInt16.ofNat (20 + os.length + xs.length)).toNat : Int) := by rw [← hev]; exact (eval_put (by kernel_rfl) 50 rfl (by decide)).trans q12
        have e31 : ev (.tmp 31) = .int .u16 (id.toNat : Int) := by rw [← hev]; exact (eval_put (by kernel_rfl) 50 rfl (by decide)).trans q14
        have e32 : ev (.tmp 32) = .int .u16 (wd : Int) := by rw [← hev]; exact (eval_put (by kernel_rfl) 50 rfl (by decide)).trans q15
        clear hev hd q12 q14 q15
        exact .inl ⟨_, W.alloc (.cells #[.int .u16 ((UInt16.ofNat (20 + os.length + xs.length)).toNat : Int), .int .u16 (id.toNat : Int), .int .u16 (wd : Int)] 31), by go_simp, ⟨_, rfl, lit16_at W _ [UInt16.ofNat (20 + os.length + xs.length), id, UInt16.ofNat wd] rfl #[.int .u16 ((UInt16.ofNat (20 + os.length + xs.length)).toNat : Int), .int .u16 (id.toNat : Int), .int .u16 (wd : Int)] (by simp [hv]; try omega) _ (by simp)⟩, bnextA (Below.refl _ _) _⟩
      · obtain rfl := Option.some.inj hoo
        obtain ⟨A16, q16, r16⟩ := hd 16 (by kernel_rfl)
        refine .inl ⟨wanted_none rfl, ?_⟩
        generalize hev : Act.eval _ = ev
        have ec : ∀ c, ev (.const c) = c := fun c => by rw [← hev]; rfl
        have ef : ∀ f, ev (.func f) = .func (.func f) #[] #[] := fun f => by rw [← hev]; rfl
        have e33 : ev (.tmp 33) = .slice A16 3 3 := by rw [← hev]; exact (eval_put (by kernel_rfl) 50 rfl (by decide)).trans q16
        clear hev hd q16
        exact .inr ⟨_, _, _, by go_simp, put16_nil A16 3 [UInt16.ofNat (20 + os.length + xs.length), id, UInt16.ofNat wd] W r16 (by simp), fun e w' he => by
          obtain ⟨L, A, c, rfl, HL, hr, hb⟩ := he
          exact ⟨_, rfl, ⟨L, A, c, rfl, HL, hr⟩, hb⟩⟩
      · obtain rfl := Option.some.inj hoo
        refine .inl ⟨wanted_none rfl, ?_⟩
        generalize hev : Act.eval _ = ev
        have ec : ∀ c, ev (.const c) = c := fun c => by rw [← hev]; rfl
        have e1 : ev (.tmp 1) = .pointer (some ⟨w.heap.size, 0, none⟩) := by rw [← hev]; exact eval_old (by kernel_rfl) 50 rfl (by decide) rfl
        clear hev hd
        exact .inl ⟨_, W, by go_simp, rfl, Below.refl _ _⟩
      · obtain rfl := Option.some.inj hoo
        have q18 : uu 18 = .pointer (some ⟨w.heap.size, 5, none⟩) := hd 18 (by kernel_rfl)
        refine .inl ⟨wanted_none rfl, ?_⟩
        generalize hev : Act.eval _ = ev
        have ec : ∀ c, ev (.const c) = c := fun c => by rw [← hev]; rfl
        have e35 : ev (.tmp 35) = .pointer (some ⟨w.heap.size, 5, none⟩) := by rw [← hev]; exact (eval_put (by kernel_rfl) 50 rfl (by decide)).trans q18
        clear hev hd q18
        obtain ⟨cc0, cc1, cc2, cc3, cc4, cc5, cc6, cc7, cc8, cc9, cc10⟩ := HS W hVW
        exact .inl ⟨_, W, by go_simp, rfl, Below.refl _ _⟩
      · obtain rfl := Option.some.inj hoo
        refine .inl ⟨wanted_none rfl, ?_⟩
        generalize hev : Act.eval _ = ev
        have ec : ∀ c, ev (.const c) = c := fun c => by rw [← hev]; rfl
        have e1 : ev (.tmp 1) = .pointer (some ⟨w.heap.size, 0, none⟩) := by rw [← hev]; exact eval_old (by kernel_rfl) 50 rfl (by decide) rfl
        clear hev hd
        exact .inl ⟨_, W, by go_simp, rfl, Below.refl _ _⟩
      · obtain rfl := Option.some.inj hoo
        have q20 : uu 20 = .pointer (some ⟨w.heap.size, 6, none⟩) := hd 20 (by kernel_rfl)
        refine .inl ⟨wanted_none rfl, ?_⟩
        generalize hev : Act.eval _ = ev
        have ec : ∀ c, ev (.const c) = c := fun c => by rw [← hev]; rfl
        have e37 : ev (.tmp 37) = .pointer (some ⟨w.heap.size, 6, none⟩) := by rw [← hev]; exact (eval_put (by kernel_rfl) 50 rfl (by decide)).trans q20
        clear hev hd q20
        obtain ⟨cc0, cc1, cc2, cc3, cc4, cc5, cc6, cc7, cc8, cc9, cc10⟩ := HS W hVW
        exact .inl ⟨_, W, by go_simp, rfl, Below.refl _ _⟩
      · obtain rfl := Option.some.inj hoo
        have q19 : uu 19 = .int .u8 (ttl.toNat : Int) := hd 19 (by kernel_rfl)
        have q21 : uu 21 = .int .u8 (pr.toNat : Int) := hd 21 (by kernel_rfl)
        refine .inl ⟨wanted_none rfl, ?_⟩
        generalize hev : Act.eval _ = ev
        have ec : ∀ c, ev (.const c) = c := fun c => by rw [← hev]; rfl
        have e36 : ev (.tmp 36) = .int .u8 (ttl.toNat : Int) := by rw [← hev]; exact (eval_put (by kernel_rfl) 50 rfl (by decide)).trans q19
        have e38 : ev (.tmp 38) = .int .u8 (pr.toNat : Int) := by rw [← hev]; exact (eval_put (by kernel_rfl) 50 rfl (by decide)).trans q21
        clear hev hd q19 q21
        exact .inl ⟨_, W.alloc (.cells #[.int .u8 (ttl.toNat : Int), .int .u8 (pr.toNat : Int), .int .u8 0, .int .u8 0] 5), by go_simp, ⟨_, rfl, lit_at W _ [ttl, pr, 0, 0] rfl #[.int .u8 (ttl.toNat : Int), .int .u8 (pr.toNat : Int), .int .u8 0, .int .u8 0] (rfl) _ (by simp)⟩, bnextA (Below.refl _ _) _⟩
      · obtain rfl := Option.some.inj hoo
        refine .inl ⟨wanted_none rfl, ?_⟩
        generalize hev : Act.eval _ = ev
        have ec : ∀ c, ev (.const c) = c := fun c => by rw [← hev]; rfl
        have e1 : ev (.tmp 1) = .pointer (some ⟨w.heap.size, 0, none⟩) := by rw [← hev]; exact eval_old (by kernel_rfl) 50 rfl (by decide) rfl
        clear hev hd
        exact .inl ⟨_, W, by go_simp, rfl, Below.refl _ _⟩
      · obtain rfl := Option.some.inj hoo
        have q23 : uu 23 = .pointer (some ⟨w.heap.size, 7, none⟩) := hd 23 (by kernel_rfl)
        refine .inl ⟨wanted_none rfl, ?_⟩
        generalize hev : Act.eval _ = ev
        have ec : ∀ c, ev (.const c) = c := fun c => by rw [← hev]; rfl
        have e40 : ev (.tmp 40) = .pointer (some ⟨w.heap.size, 7, none⟩) := by rw [← hev]; exact (eval_put (by kernel_rfl) 50 rfl (by decide)).trans q23
        clear hev hd q23
        obtain ⟨cc0, cc1, cc2, cc3, cc4, cc5, cc6, cc7, cc8, cc9, cc10⟩ := HS W hVW
        exact .inl ⟨_, W, by go_simp, rfl, Below.refl _ _⟩
      · obtain rfl := Option.some.inj hoo
        refine .inl ⟨wanted_none rfl, ?_⟩
        generalize hev : Act.eval _ = ev
        have ec : ∀ c, ev (.const c) = c := fun c => by rw [← hev]; rfl
        have e1 : ev (.tmp 1) = .pointer (some ⟨w.heap.size, 0, none⟩) := by rw [← hev]; exact eval_old (by kernel_rfl) 50 rfl (by decide) rfl
        clear hev hd
        exact .inl ⟨_, W, by go_simp, rfl, Below.refl _ _⟩
      · obtain rfl := Option.some.inj hoo
        have q25 : uu 25 = .pointer (some ⟨w.heap.size, 8, none⟩) := hd 25 (by kernel_rfl)
        refine .inl ⟨wanted_none rfl, ?_⟩
        generalize hev : Act.eval _ = ev
        have ec : ∀ c, ev (.const c) = c := fun c => by rw [← hev]; rfl
        have e42 : ev (.tmp 42) = .pointer (some ⟨w.heap.size, 8, none⟩) := by rw [← hev]; exact (eval_put (by kernel_rfl) 50 rfl (by decide)).trans q25
        clear hev hd q25
        obtain ⟨cc0, cc1, cc2, cc3, cc4, cc5, cc6, cc7, cc8, cc9, cc10⟩ := HS W hVW
        exact .inl ⟨_, W, by go_simp, rfl, Below.refl _ _⟩
      · obtain rfl := Option.some.inj hoo
        have q24 : uu 24 = .int .u32 (s.toNat : Int) := hd 24 (by kernel_rfl)
        have q26 : uu 26 = .int .u32 (d.toNat : Int) := hd 26 (by kernel_rfl)
        refine .inl ⟨wanted_none rfl, ?_⟩
        generalize hev : Act.eval _ = ev
        have ec : ∀ c, ev (.const c) = c := fun c => by rw [← hev]; rfl
        have e41 : ev (.tmp 41) = .int .u32 (s.toNat : Int) := by rw [← hev]; exact (eval_put (by kernel_rfl) 50 rfl (by decide)).trans q24
        have e43 : ev (.tmp 43) = .int .u32 (d.toNat : Int) := by rw [← hev]; exact (eval_put (by kernel_rfl) 50 rfl (by decide)).trans q26
        clear hev hd q24 q26
        exact .inl ⟨_, W.alloc (.cells #[.int .u32 (s.toNat : Int), .int .u32 (d.toNat : Int)] 25), by go_simp, ⟨_, rfl, lit32_at W _ [s, d] rfl #[.int .u32 (s.toNat : Int), .int .u32 (d.toNat : Int)] (rfl) _ (by simp)⟩, bnextA (Below.refl _ _) _⟩
      · obtain rfl := Option.some.inj hoo
        obtain ⟨A27, q27, r27⟩ := hd 27 (by kernel_rfl)
        refine .inl ⟨wanted_none rfl, ?_⟩
        generalize hev : Act.eval _ = ev
        have ec : ∀ c, ev (.const c) = c := fun c => by rw [← hev]; rfl
        have ef : ∀ f, ev (.func f) = .func (.func f) #[] #[] := fun f => by rw [← hev]; rfl
        have e44 : ev (.tmp 44) = .slice A27 2 2 := by rw [← hev]; exact (eval_put (by kernel_rfl) 50 rfl (by decide)).trans q27
        clear hev hd q27
        exact .inr ⟨_, _, _, by go_simp, put32_nil A27 2 [s, d] W r27 (by simp), fun e w' he => by
          obtain ⟨L, A, c, rfl, HL, hr, hb⟩ := he
          exact ⟨_, rfl, ⟨L, A, c, rfl, HL, hr⟩, hb⟩⟩
      · obtain rfl := Option.some.inj hoo
        refine .inl ⟨wanted_none rfl, ?_⟩
        generalize hev : Act.eval _ = ev
        have ec : ∀ c, ev (.const c) = c := fun c => by rw [← hev]; rfl
        have e1 : ev (.tmp 1) = .pointer (some ⟨w.heap.size, 0, none⟩) := by rw [← hev]; exact eval_old (by kernel_rfl) 50 rfl (by decide) rfl
        clear hev hd
        exact .inl ⟨_, W, by go_simp, rfl, Below.refl _ _⟩
      · obtain rfl := Option.some.inj hoo
        have q29 : uu 29 = .pointer (some ⟨w.heap.size, 9, none⟩) := hd 29 (by kernel_rfl)
        refine .inl ⟨wanted_none rfl, ?_⟩
        generalize hev : Act.eval _ = ev
        have ec : ∀ c, ev (.const c) = c := fun c => by rw [← hev]; rfl
        have e46 : ev (.tmp 46) = .pointer (some ⟨w.heap.size, 9, none⟩) := by rw [← hev]; exact (eval_put (by kernel_rfl) 50 rfl (by decide)).trans q29
        clear hev hd q29
        obtain ⟨cc0, cc1, cc2, cc3, cc4, cc5, cc6, cc7, cc8, cc9, cc10⟩ := HS W hVW
        exact .inl ⟨_, W, by go_simp, rfl, Below.refl _ _⟩
      · obtain rfl := Option.some.inj hoo
        obtain ⟨A6, q6, r6⟩ := hd 6 (by kernel_rfl)
        obtain ⟨L17, A17, c17, q17, HL17, r17⟩ := hd 17 (by kernel_rfl)
        obtain ⟨A22, q22, r22⟩ := hd 22 (by kernel_rfl)
        obtain ⟨L28, A28, c28, q28, HL28, r28⟩ := hd 28 (by kernel_rfl)
        have q30 : uu 30 = .slice A1 os.length c1 := hd 30 (by kernel_rfl)
        refine .inl ⟨wanted_none rfl, ?_⟩
        generalize hev : Act.eval _ = ev
        have ec : ∀ c, ev (.const c) = c := fun c => by rw [← hev]; rfl
        have e23 : ev (.tmp 23) = .slice A6 2 2 := by rw [← hev]; exact (eval_put (by kernel_rfl) 50 rfl (by decide)).trans q6
        have e34 : ev (.tmp 34) = .slice A17 L17.length c17 := by rw [← hev]; exact (eval_put (by kernel_rfl) 50 rfl (by decide)).trans q17
        have e39 : ev (.tmp 39) = .slice A22 4 4 := by rw [← hev]; exact (eval_put (by kernel_rfl) 50 rfl (by decide)).trans q22
        have e45 : ev (.tmp 45) = .slice A28 L28.length c28 := by rw [← hev]; exact (eval_put (by kernel_rfl) 50 rfl (by decide)).trans q28
        have e47 : ev (.tmp 47) = .slice A1 os.length c1 := by rw [← hev]; exact (eval_put (by kernel_rfl) 50 rfl (by decide)).trans q30
        clear hev hd q6 q17 q22 q28 q30
        exact .inl ⟨_, W.alloc (.cells #[.slice A6 2 2, .slice A17 L17.length c17, .slice A22 4 4, .slice A28 L28.length c28, .slice A1 os.length c1] 34), by go_simp, ⟨W.heap.size, [[h, tos], L17, [ttl, pr, 0, 0], L28, os], rfl, by rw [Hid, HL17.out, HL28.out]; simp [ih, puts16, puts32, be16], rfl, by simp, W.heap.size, by simp, parts_at _ rfl (.cons r6 (.cons r17 (.cons r22 (.cons r28 (.cons (ho.next hVW) .nil))))) _ rfl _⟩, bnextA (Below.refl _ _) _⟩
      · obtain rfl := Option.some.inj hoo
        obtain ⟨g31, ls31, q31, HF31, HN31, hg31, B31, hB31, hP31⟩ := hd 31 (by kernel_rfl)
        refine .inl ⟨wanted_none rfl, ?_⟩
        generalize hev : Act.eval _ = ev
        have ec : ∀ c, ev (.const c) = c := fun c => by rw [← hev]; rfl
        have ef : ∀ f, ev (.func f) = .func (.func f) #[] #[] := fun f => by rw [← hev]; rfl
        have e48 : ev (.tmp 48) = .slice (some ⟨g31, 0, none⟩) 5 5 := by rw [← hev]; exact (eval_put (by kernel_rfl) 50 rfl (by decide)).trans q31
        clear hev hd q31
        exact .inr ⟨_, _, _, by go_simp, join_any W B31 g31 5 ls31 hP31 HN31.out (by omega) (by omega) (by rw [HF31.out, ih_len]; omega), fun e w' he => by
          obtain ⟨L, A, c, rfl, HL, hr, hb⟩ := he
          exact ⟨_, rfl, ⟨L, A, c, rfl, by rw [Hid, HL.out, HF31.out], hr⟩, hb⟩⟩
      · obtain rfl := Option.some.inj hoo
        obtain ⟨L32, A32, c32, q32, HL32, r32⟩ := hd 32 (by kernel_rfl)
        refine .inl ⟨wanted_none rfl, ?_⟩
        generalize hev : Act.eval _ = ev
        have ec : ∀ c, ev (.const c) = c := fun c => by rw [← hev]; rfl
        have e49 : ev (.tmp 49) = .slice A32 L32.length c32 := by rw [← hev]; exact (eval_put (by kernel_rfl) 50 rfl (by decide)).trans q32
        clear hev hd q32
        exact .inl ⟨_, W, by go_simp, ⟨L32, A32, c32, rfl, HL32, r32⟩, Below.refl _ _⟩
      · simp at hoo
    · intro uu W hVW hall
      obtain ⟨L, A, c, q33, HL, hr⟩ : ∃ L A c, uu 33 = .slice A L.length c ∧ Hid (L = ih h tos (20 + os.length + xs.length) id wd ttl pr 0 s d os) ∧ Rd bv W W.heap.size A c L := hall 33 (by decide)
      have hB := hB1.trans (hVW.mono hB1.size)
      clear hall HS hK1 HM HA ho
      simp only [putAll, Act.put, Nat.reduceAdd, q33]
      simp only [List.setIfInBounds_toArray, List.set_cons_succ, List.set_cons_zero]
      go_wp2_with fail
      go_ret
      exact ⟨L, A, c, rfl, by rw [Hid, HL.out, HWD.out], hr, hB⟩

  · obtain ⟨wd, hwd⟩ : ∃ wd : Nat, wd = fo.toNat + 16384 := ⟨_, rfl⟩
    have HWD : Hid (wd = wdN true false fo) := by rw [Hid, hwd]; simp [wdN]
    have HWQ := Lib.hid hwd
    have hwl : wd ≤ 65535 := by omega
    have o1 := or_df fo.toNat h3
    rw [← hwd] at o1
    clear hwd
    go_enter Try.func30, Try.ntmps30
    go_wp2_with fail
    rw [← hW1]
    clear hW1
    refine (HZ _).out.mono ?_
    rintro e w0 ⟨rfl, hbel⟩
    obtain ⟨p0, p1, p2, p3, p4, p5, p6, p7, p8, p9, p10⟩ := HS _ hbel
    replace hB1 := bnext hB1 hbel
    replace ho := ho.next hbel
    replace hK1 := hK1.next hbel
    clear hbel HZ HS
    go_wp2_with fail
    skip
    clear p0 p1 p2 p3 p4 p5 p6 p7 p8 p9 p10 o1
    have HS : ∀ W, Below w0.heap.size w0 W → (W.cell? ⟨w.heap.size, 0, none⟩ = some (.int .u8 (tos.toNat : Int)) ∧ W.cell? ⟨w.heap.size, 1, none⟩ = some (.int .u16 (id.toNat : Int)) ∧ W.cell? ⟨w.heap.size, 2, none⟩ = some (.bool true) ∧ W.cell? ⟨w.heap.size, 3, none⟩ = some (.bool false) ∧ W.cell? ⟨w.heap.size, 4, none⟩ = some (.int .u16 (fo.toNat : Int)) ∧ W.cell? ⟨w.heap.size, 5, none⟩ = some (.int .u8 (ttl.toNat : Int)) ∧ W.cell? ⟨w.heap.size, 6, none⟩ = some (.int .u8 (pr.toNat : Int)) ∧ W.cell? ⟨w.heap.size, 7, none⟩ = some (.int .u32 (s.toNat : Int)) ∧ W.cell? ⟨w.heap.size, 8, none⟩ = some (.int .u32 (d.toNat : Int)) ∧ W.cell? ⟨w.heap.size, 9, none⟩ = some (.slice A1 os.length c1) ∧ W.cell? ⟨w.heap.size, 10, none⟩ = some (.slice A2 xs.length c2)) := by
      intro W h
      obtain ⟨p0, p1, p2, p3, p4, p5, p6, p7, p8, p9, p10, -⟩ := (hK1.next h).get11
      exact ⟨p0, p1, p2, p3, p4, p5, p6, p7, p8, p9, p10⟩
    refine region_put (by kernel_rfl) (by kernel_rfl) (by kernel_rfl) 50 rfl (by kernel_rfl) w0 (fun i v W => match i with
        | 0 => v = .int .i64 (20 + (os.length : Int))
        | 1 => v = .int .i64 (m : Int)
        | 2 => v = .int .i64 (64 + (m : Int))
        | 3 => v = .int .u8 (h.toNat : Int)
        | 4 => v = .pointer (some ⟨w.heap.size, 0, none⟩)
        | 5 => v = .int .u8 (tos.toNat : Int)
        | 6 => ∃ A, v = .slice A 2 2 ∧ Rd bv W W.heap.size A 2 [h, tos]
        | 7 => v = .int .i64 (20 + (os.length : Int))
        | 8 => v = .pointer (some ⟨w.heap.size, 10, none⟩)
        | 9 => v = .slice A2 xs.length c2
        | 10 => v = .int .i64 (xs.length : Int)
        | 11 => v = .int .i64 (al : Int)
        | 12 => v = .int .u16 ((UInt16.ofNat (20 + os.length + xs.length)).toNat : Int)
        | 13 => v = .pointer (some ⟨w.heap.size, 1, none⟩)
        | 14 => v = .int .u16 (id.toNat : Int)
        | 15 => v = .int .u16 (wd : Int)
        | 16 => ∃ A, v = .slice A 3 3 ∧ Rd hv W W.heap.size A 3 [UInt16.ofNat (20 + os.length + xs.length), id, UInt16.ofNat wd]
        | 17 => ∃ L A c, v = .slice A L.length c ∧ Hid (L = puts16 [UInt16.ofNat (20 + os.length + xs.length), id, UInt16.ofNat wd]) ∧ Rd bv W W.heap.size A c L
        | 18 => v = .pointer (some ⟨w.heap.size, 5, none⟩)
        | 19 => v = .int .u8 (ttl.toNat : Int)
        | 20 => v = .pointer (some ⟨w.heap.size, 6, none⟩)
        | 21 => v = .int .u8 (pr.toNat : Int)
        | 22 => ∃ A, v = .slice A 4 4 ∧ Rd bv W W.heap.size A 4 [ttl, pr, 0, 0]
        | 23 => v = .pointer (some ⟨w.heap.size, 7, none⟩)
        | 24 => v = .int .u32 (s.toNat : Int)
        | 25 => v = .pointer (some ⟨w.heap.size, 8, none⟩)
        | 26 => v = .int .u32 (d.toNat : Int)
        | 27 => ∃ A, v = .slice A 2 2 ∧ Rd wv W W.heap.size A 2 [s, d]
        | 28 => ∃ L A c, v = .slice A L.length c ∧ Hid (L = puts32 [s, d]) ∧ Rd bv W W.heap.size A c L
        | 29 => v = .pointer (some ⟨w.heap.size, 9, none⟩)
        | 30 => v = .slice A1 os.length c1
        | 31 => ∃ g ls, v = .slice (some ⟨g, 0, none⟩) 5 5 ∧ Hid (ls.flatten = ih h tos (20 + os.length + xs.length) id wd ttl pr 0 s d os) ∧ Hid (ls.length = 5) ∧ g < W.heap.size ∧ ∃ B, B ≤ W.heap.size ∧ Parts W B g ls
        | 32 => ∃ L A c, v = .slice A L.length c ∧ Hid (L = ih h tos (20 + os.length + xs.length) id wd ttl pr 0 s d os) ∧ Rd bv W W.heap.size A c L
        | 33 => ∃ L A c, v = .slice A L.length c ∧ Hid (L = ih h tos (20 + os.length + xs.length) id wd ttl pr 0 s d os) ∧ Rd bv W W.heap.size A c L
        | _ => True) (Below.refl _ _) ?_ ?_ ?_
    · intro i v W W' h hb
      match i, h with
      | 0, h => exact h
      | 1, h => exact h
      | 2, h => exact h
      | 3, h => exact h
      | 4, h => exact h
      | 5, h => exact h
      | 6, h => obtain ⟨A, h1, h2⟩ := h; exact ⟨A, h1, h2.next hb⟩
      | 7, h => exact h
      | 8, h => exact h
      | 9, h => exact h
      | 10, h => exact h
      | 11, h => exact h
      | 12, h => exact h
      | 13, h => exact h
      | 14, h => exact h
      | 15, h => exact h
      | 16, h => obtain ⟨A, h1, h2⟩ := h; exact ⟨A, h1, h2.next hb⟩
      | 17, h => obtain ⟨L, A, c, h1, h2, h3⟩ := h; exact ⟨L, A, c, h1, h2, h3.next hb⟩
      | 18, h => exact h
      | 19, h => exact h
      | 20, h => exact h
      | 21, h => exact h
      | 22, h => obtain ⟨A, h1, h2⟩ := h; exact ⟨A, h1, h2.next hb⟩
      | 23, h => exact h
      | 24, h => exact h
      | 25, h => exact h
      | 26, h => exact h
      | 27, h => obtain ⟨A, h1, h2⟩ := h; exact ⟨A, h1, h2.next hb⟩
      | 28, h => obtain ⟨L, A, c, h1, h2, h3⟩ := h; exact ⟨L, A, c, h1, h2, h3.next hb⟩
      | 29, h => exact h
      | 30, h => exact h
      | 31, h => obtain ⟨g, ls, h1, h2, h3, h4, B, h5, h6⟩ := h; exact ⟨g, ls, h1, h2, h3, Nat.lt_of_lt_of_le h4 hb.size, B, Nat.le_trans h5 hb.size, h6.next h4 h5 hb⟩
      | 32, h => obtain ⟨L, A, c, h1, h2, h3⟩ := h; exact ⟨L, A, c, h1, h2, h3.next hb⟩
      | 33, h => obtain ⟨L, A, c, h1, h2, h3⟩ := h; exact ⟨L, A, c, h1, h2, h3.next hb⟩
      | _ + 34, _ => trivial
    · intro i o uu W hoo hVW hd
      rcases i with _|_|_|_|_|_|_|_|_|_|_|_|_|_|_|_|_|_|_|_|_|_|_|_|_|_|_|_|_|_|_|_|_|_|i
      · obtain rfl := Option.some.inj hoo
        refine .inl ⟨wanted_none rfl, ?_⟩
        generalize hev : Act.eval _ = ev
        have ec : ∀ c, ev (.const c) = c := fun c => by rw [← hev]; rfl
        have e3 : ev (.tmp 3) = .int .i64 (20 + (os.length : Int)) := by rw [← hev]; exact eval_old (by kernel_rfl) 50 rfl (by decide) rfl
        clear hev hd
        exact .inl ⟨_, W, by go_simp, rfl, Below.refl _ _⟩
      · obtain rfl := Option.some.inj hoo
        have q0 : uu 0 = .int .i64 (20 + (os.length : Int)) := hd 0 (by kernel_rfl)
        refine .inl ⟨wanted_none rfl, ?_⟩
        generalize hev : Act.eval _ = ev
        have ec : ∀ c, ev (.const c) = c := fun c => by rw [← hev]; rfl
        have e17 : ev (.tmp 17) = .int .i64 (20 + (os.length : Int)) := by rw [← hev]; exact (eval_put (by kernel_rfl) 50 rfl (by decide)).trans q0
        clear hev hd q0
        have hm := (HM ()).out.1
        have hm2 : IntKind.i64.wrap (m : Int) = (m : Int) := by rw [IntKind.wrap_i64]; omega
        exact .inl ⟨_, W, by go_simp, rfl, Below.refl _ _⟩
      · obtain rfl := Option.some.inj hoo
        have q1 : uu 1 = .int .i64 (m : Int) := hd 1 (by kernel_rfl)
        refine .inl ⟨wanted_none rfl, ?_⟩
        generalize hev : Act.eval _ = ev
        have ec : ∀ c, ev (.const c) = c := fun c => by rw [← hev]; rfl
        have e18 : ev (.tmp 18) = .int .i64 (m : Int) := by rw [← hev]; exact (eval_put (by kernel_rfl) 50 rfl (by decide)).trans q1
        clear hev hd q1
        have hw := (HM ()).out.2.1
        exact .inl ⟨_, W, by go_simp, rfl, Below.refl _ _⟩
      · obtain rfl := Option.some.inj hoo
        have q2 : uu 2 = .int .i64 (64 + (m : Int)) := hd 2 (by kernel_rfl)
        refine .inl ⟨wanted_none rfl, ?_⟩
        generalize hev : Act.eval _ = ev
        have ec : ∀ c, ev (.const c) = c := fun c => by rw [← hev]; rfl
        have e19 : ev (.tmp 19) = .int .i64 (64 + (m : Int)) := by rw [← hev]; exact (eval_put (by kernel_rfl) 50 rfl (by decide)).trans q2
        clear hev hd q2
        have hw := (HM ()).out.2.2
        exact .inl ⟨_, W, by go_simp, rfl, Below.refl _ _⟩
      · obtain rfl := Option.some.inj hoo
        refine .inl ⟨wanted_none rfl, ?_⟩
        generalize hev : Act.eval _ = ev
        have ec : ∀ c, ev (.const c) = c := fun c => by rw [← hev]; rfl
        have e1 : ev (.tmp 1) = .pointer (some ⟨w.heap.size, 0, none⟩) := by rw [← hev]; exact eval_old (by kernel_rfl) 50 rfl (by decide) rfl
        clear hev hd
        exact .inl ⟨_, W, by go_simp, rfl, Below.refl _ _⟩
      · obtain rfl := Option.some.inj hoo
        have q4 : uu 4 = .pointer (some ⟨w.heap.size, 0, none⟩) := hd 4 (by kernel_rfl)
        refine .inl ⟨wanted_none rfl, ?_⟩
        generalize hev : Act.eval _ = ev
        have ec : ∀ c, ev (.const c) = c := fun c => by rw [← hev]; rfl
        have e21 : ev (.tmp 21) = .pointer (some ⟨w.heap.size, 0, none⟩) := by rw [← hev]; exact (eval_put (by kernel_rfl) 50 rfl (by decide)).trans q4
        clear hev hd q4
        obtain ⟨cc0, cc1, cc2, cc3, cc4, cc5, cc6, cc7, cc8, cc9, cc10⟩ := HS W hVW
        exact .inl ⟨_, W, by go_simp, rfl, Below.refl _ _⟩
      · obtain rfl := Option.some.inj hoo
        have q3 : uu 3 = .int .u8 (h.toNat : Int) := hd 3 (by kernel_rfl)
        have q5 : uu 5 = .int .u8 (tos.toNat : Int) := hd 5 (by kernel_rfl)
        refine .inl ⟨wanted_none rfl, ?_⟩
        generalize hev : Act.eval _ = ev
        have ec : ∀ c, ev (.const c) = c := fun c => by rw [← hev]; rfl
        have e20 : ev (.tmp 20) = .int .u8 (h.toNat : Int) := by rw [← hev]; exact (eval_put (by kernel_rfl) 50 rfl (by decide)).trans q3
        have e22 : ev (.tmp 22) = .int .u8 (tos.toNat : Int) := by rw [← hev]; exact (eval_put (by kernel_rfl) 50 rfl (by decide)).trans q5
        clear hev hd q3 q5
        exact .inl ⟨_, W.alloc (.cells #[.int .u8 (h.toNat : Int), .int .u8 (tos.toNat : Int)] 5), by go_simp, ⟨_, rfl, lit_at W _ [h, tos] rfl #[.int .u8 (h.toNat : Int), .int .u8 (tos.toNat : Int)] (rfl) _ (by simp)⟩, bnextA (Below.refl _ _) _⟩
      · obtain rfl := Option.some.inj hoo
        refine .inl ⟨wanted_none rfl, ?_⟩
        generalize hev : Act.eval _ = ev
        have ec : ∀ c, ev (.const c) = c := fun c => by rw [← hev]; rfl
        have e3 : ev (.tmp 3) = .int .i64 (20 + (os.length : Int)) := by rw [← hev]; exact eval_old (by kernel_rfl) 50 rfl (by decide) rfl
        clear hev hd
        exact .inl ⟨_, W, by go_simp, rfl, Below.refl _ _⟩
      · obtain rfl := Option.some.inj hoo
        refine .inl ⟨wanted_none rfl, ?_⟩
        generalize hev : Act.eval _ = ev
        have ec : ∀ c, ev (.const c) = c := fun c => by rw [← hev]; rfl
        have e1 : ev (.tmp 1) = .pointer (some ⟨w.heap.size, 0, none⟩) := by rw [← hev]; exact eval_old (by kernel_rfl) 50 rfl (by decide) rfl
        clear hev hd
        exact .inl ⟨_, W, by go_simp, rfl, Below.refl _ _⟩
      · obtain rfl := Option.some.inj hoo
        have q8 : uu 8 = .pointer (some ⟨w.heap.size, 10, none⟩) := hd 8 (by kernel_rfl)
        refine .inl ⟨wanted_none rfl, ?_⟩
        generalize hev : Act.eval _ = ev
        have ec : ∀ c, ev (.const c) = c := fun c => by rw [← hev]; rfl
        have e25 : ev (.tmp 25) = .pointer (some ⟨w.heap.size, 10, none⟩) := by rw [← hev]; exact (eval_put (by kernel_rfl) 50 rfl (by decide)).trans q8
        clear hev hd q8
        obtain ⟨cc0, cc1, cc2, cc3, cc4, cc5, cc6, cc7, cc8, cc9, cc10⟩ := HS W hVW
        exact .inl ⟨_, W, by go_simp, rfl, Below.refl _ _⟩
      · obtain rfl := Option.some.inj hoo
        have q9 : uu 9 = .slice A2 xs.length c2 := hd 9 (by kernel_rfl)
        refine .inl ⟨wanted_none rfl, ?_⟩
        generalize hev : Act.eval _ = ev
        have ec : ∀ c, ev (.const c) = c := fun c => by rw [← hev]; rfl
        have e26 : ev (.tmp 26) = .slice A2 xs.length c2 := by rw [← hev]; exact (eval_put (by kernel_rfl) 50 rfl (by decide)).trans q9
        clear hev hd q9
        exact .inl ⟨_, W, by go_simp, rfl, Below.refl _ _⟩
      · obtain rfl := Option.some.inj hoo
        have q7 : uu 7 = .int .i64 (20 + (os.length : Int)) := hd 7 (by kernel_rfl)
        have q10 : uu 10 = .int .i64 (xs.length : Int) := hd 10 (by kernel_rfl)
        refine .inl ⟨wanted_none rfl, ?_⟩
        generalize hev : Act.eval _ = ev
        have ec : ∀ c, ev (.const c) = c := fun c => by rw [← hev]; rfl
        have e24 : ev (.tmp 24) = .int .i64 (20 + (os.length : Int)) := by rw [← hev]; exact (eval_put (by kernel_rfl) 50 rfl (by decide)).trans q7
        have e27 : ev (.tmp 27) = .int .i64 (xs.length : Int) := by rw [← hev]; exact (eval_put (by kernel_rfl) 50 rfl (by decide)).trans q10
        clear hev hd q7 q10
        have ha := (HA ()).out.1
        exact .inl ⟨_, W, by go_simp, rfl, Below.refl _ _⟩
      · obtain rfl := Option.some.inj hoo
        have q11 : uu 11 = .int .i64 (al : Int) := hd 11 (by kernel_rfl)
        refine .inl ⟨wanted_none rfl, ?_⟩
        generalize hev : Act.eval _ = ev
        have ec : ∀ c, ev (.const c) = c := fun c => by rw [← hev]; rfl
        have e28 : ev (.tmp 28) = .int .i64 (al : Int) := by rw [← hev]; exact (eval_put (by kernel_rfl) 50 rfl (by decide)).trans q11
        clear hev hd q11
        have ha := (HA ()).out.2
        exact .inl ⟨_, W, by go_simp, rfl, Below.refl _ _⟩
      · obtain rfl := Option.some.inj hoo
        refine .inl ⟨wanted_none rfl, ?_⟩
        generalize hev : Act.eval _ = ev
        have ec : ∀ c, ev (.const c) = c := fun c => by rw [← hev]; rfl
        have e1 : ev (.tmp 1) = .pointer (some ⟨w.heap.size, 0, none⟩) := by rw [← hev]; exact eval_old (by kernel_rfl) 50 rfl (by decide) rfl
        clear hev hd
        exact .inl ⟨_, W, by go_simp, rfl, Below.refl _ _⟩
      · obtain rfl := Option.some.inj hoo
        have q13 : uu 13 = .pointer (some ⟨w.heap.size, 1, none⟩) := hd 13 (by kernel_rfl)
        refine .inl ⟨wanted_none rfl, ?_⟩
        generalize hev : Act.eval _ = ev
        have ec : ∀ c, ev (.const c) = c := fun c => by rw [← hev]; rfl
        have e30 : ev (.tmp 30) = .pointer (some ⟨w.heap.size, 1, none⟩) := by rw [← hev]; exact (eval_put (by kernel_rfl) 50 rfl (by decide)).trans q13
        clear hev hd q13
        obtain ⟨cc0, cc1, cc2, cc3, cc4, cc5, cc6, cc7, cc8, cc9, cc10⟩ := HS W hVW
        exact .inl ⟨_, W, by go_simp, rfl, Below.refl _ _⟩
      · obtain rfl := Option.some.inj hoo
        refine .inl ⟨wanted_none rfl, ?_⟩
        generalize hev : Act.eval _ = ev
        have ec : ∀ c, ev (.const c) = c := fun c => by rw [← hev]; rfl
        have e4 : ev (.tmp 4) = .int .u16 (wd : Int) := by rw [← hev]; exact eval_old (by kernel_rfl) 50 rfl (by decide) rfl
        clear hev hd
        exact .inl ⟨_, W, by go_simp, rfl, Below.refl _ _⟩
      · obtain rfl := Option.some.inj hoo
        have q12 : uu 12 = .int .u16 ((UInt16.ofNat (20 + os.length + xs.length)).toNat : Int) := hd 12 (by kernel_rfl)
        have q14 : uu 14 = .int .u16 (id.toNat : Int) := hd 14 (by kernel_rfl)
        have q15 : uu 15 = .int .u16 (wd : Int) := hd 15 (by kernel_rfl)
        refine .inl ⟨wanted_none rfl, ?_⟩
        generalize hev : Act.eval _ = ev
        have ec : ∀ c, ev (.const c) = c := fun c => by rw [← hev]; rfl
        have e29 : ev (.tmp 29) = .int .u16 ((UInt16.ofNat (20 + os.length + xs.length)).toNat : Int) := by rw [← hev]; exact (eval_put (by kernel_rfl) 50 rfl (by decide)).trans q12
        have e31 : ev (.tmp 31) = .int .u16 (id.toNat : Int) := by rw [← hev]; exact (eval_put (by kernel_rfl) 50 rfl (by decide)).trans q14
        have e32 : ev (.tmp 32) = .int .u16 (wd : Int) := by rw [← hev]; exact (eval_put (by kernel_rfl) 50 rfl (by decide)).trans q15
        clear hev hd q12 q14 q15
        exact .inl ⟨_, W.alloc (.cells #[.int .u16 ((UInt16.ofNat (20 + os.length + xs.length)).toNat : Int), .int .u16 (id.toNat : Int), .int .u16 (wd : Int)] 31), by go_simp, ⟨_, rfl, lit16_at W _ [UInt16.ofNat (20 + os.length + xs.length), id, UInt16.ofNat wd] rfl #[.int .u16 ((UInt16.ofNat (20 + os.length + xs.length)).toNat : Int), .int .u16 (id.toNat : Int), .int .u16 (wd : Int)] (by simp [hv]; try omega) _ (by simp)⟩, bnextA (Below.refl _ _) _⟩
      · obtain rfl := Option.some.inj hoo
        obtain ⟨A16, q16, r16⟩ := hd 16 (by kernel_rfl)
        refine .inl ⟨wanted_none rfl, ?_⟩
        generalize hev : Act.eval _ = ev
        have ec : ∀ c, ev (.const c) = c := fun c => by rw [← hev]; rfl
        have ef : ∀ f, ev (.func f) = .func (.func f) #[] #[] := fun f => by rw [← hev]; rfl
        have e33 : ev (.tmp 33) = .slice A16 3 3 := by rw [← hev]; exact (eval_put (by kernel_rfl) 50 rfl (by decide)).trans q16
        clear hev hd q16
        exact .inr ⟨_, _, _, by go_simp, put16_nil A16 3 [UInt16.ofNat (20 + os.length + xs.length), id, UInt16.ofNat wd] W r16 (by simp), fun e w' he => by
          obtain ⟨L, A, c, rfl, HL, hr, hb⟩ := he
          exact ⟨_, rfl, ⟨L, A, c, rfl, HL, hr⟩, hb⟩⟩
      · obtain rfl := Option.some.inj hoo
        refine .inl ⟨wanted_none rfl, ?_⟩
        generalize hev : Act.eval _ = ev
        have ec : ∀ c, ev (.const c) = c := fun c => by rw [← hev]; rfl
        have e1 : ev (.tmp 1) = .pointer (some ⟨w.heap.size, 0, none⟩) := by rw [← hev]; exact eval_old (by kernel_rfl) 50 rfl (by decide) rfl
        clear hev hd
        exact .inl ⟨_, W, by go_simp, rfl, Below.refl _ _⟩
      · obtain rfl := Option.some.inj hoo
        have q18 : uu 18 = .pointer (some ⟨w.heap.size, 5, none⟩) := hd 18 (by kernel_rfl)
        refine .inl ⟨wanted_none rfl, ?_⟩
        generalize hev : Act.eval _ = ev
        have ec : ∀ c, ev (.const c) = c := fun c => by rw [← hev]; rfl
        have e35 : ev (.tmp 35) = .pointer (some ⟨w.heap.size, 5, none⟩) := by rw [← hev]; exact (eval_put (by kernel_rfl) 50 rfl (by decide)).trans q18
        clear hev hd q18
        obtain ⟨cc0, cc1, cc2, cc3, cc4, cc5, cc6, cc7, cc8, cc9, cc10⟩ := HS W hVW
        exact .inl ⟨_, W, by go_simp, rfl, Below.refl _ _⟩
      · obtain rfl := Option.some.inj hoo
        refine .inl ⟨wanted_none rfl, ?_⟩
        generalize hev : Act.eval _ = ev
        have ec : ∀ c, ev (.const c) = c := fun c => by rw [← hev]; rfl
        have e1 : ev (.tmp 1) = .pointer (some ⟨w.heap.size, 0, none⟩) := by rw [← hev]; exact eval_old (by kernel_rfl) 50 rfl (by decide) rfl
        clear hev hd
        exact .inl ⟨_, W, by go_simp, rfl, Below.refl _ _⟩
      · obtain rfl := Option.some.inj hoo
        have q20 : uu 20 = .pointer (some ⟨w.heap.size, 6, none⟩) := hd 20 (by kernel_rfl)
        refine .inl ⟨wanted_none rfl, ?_⟩
        generalize hev : Act.eval _ = ev
        have ec : ∀ c, ev (.const c) = c := fun c => by rw [← hev]; rfl
        have e37 : ev (.tmp 37) = .pointer (some ⟨w.heap.size, 6, none⟩) := by rw [← hev]; exact (eval_put (by kernel_rfl) 50 rfl (by decide)).trans q20
        clear hev hd q20
        obtain ⟨cc0, cc1, cc2, cc3, cc4, cc5, cc6, cc7, cc8, cc9, cc10⟩ := HS W hVW
        exact .inl ⟨_, W, by go_simp, rfl, Below.refl _ _⟩
      · obtain rfl := Option.some.inj hoo
        have q19 : uu 19 = .int .u8 (ttl.toNat : Int) := hd 19 (by kernel_rfl)
        have q21 : uu 21 = .int .u8 (pr.toNat : Int) := hd 21 (by kernel_rfl)
        refine .inl ⟨wanted_none rfl, ?_⟩
        generalize hev : Act.eval _ = ev
        have ec : ∀ c, ev (.const c) = c := fun c => by rw [← hev]; rfl
        have e36 : ev (.tmp 36) = .int .u8 (ttl.toNat : Int) := by rw [← hev]; exact (eval_put (by kernel_rfl) 50 rfl (by decide)).trans q19
        have e38 : ev (.tmp 38) = .int .u8 (pr.toNat : Int) := by rw [← hev]; exact (eval_put (by kernel_rfl) 50 rfl (by decide)).trans q21
        clear hev hd q19 q21
        exact .inl ⟨_, W.alloc (.cells #[.int .u8 (ttl.toNat : Int), .int .u8 (pr.toNat : Int), .int .u8 0, .int .u8 0] 5), by go_simp, ⟨_, rfl, lit_at W _ [ttl, pr, 0, 0] rfl #[.int .u8 (ttl.toNat : Int), .int .u8 (pr.toNat : Int), .int .u8 0, .int .u8 0] (rfl) _ (by simp)⟩, bnextA (Below.refl _ _) _⟩
      · obtain rfl := Option.some.inj hoo
        refine .inl ⟨wanted_none rfl, ?_⟩
        generalize hev : Act.eval _ = ev
        have ec : ∀ c, ev (.const c) = c := fun c => by rw [← hev]; rfl
        have e1 : ev (.tmp 1) = .pointer (some ⟨w.heap.size, 0, none⟩) := by rw [← hev]; exact eval_old (by kernel_rfl) 50 rfl (by decide) rfl
        clear hev hd
        exact .inl ⟨_, W, by go_simp, rfl, Below.refl _ _⟩
      · obtain rfl := Option.some.inj hoo
        have q23 : uu 23 = .pointer (some ⟨w.heap.size, 7, none⟩) := hd 23 (by kernel_rfl)
        refine .inl ⟨wanted_none rfl, ?_⟩
        generalize hev : Act.eval _ = ev
        have ec : ∀ c, ev (.const c) = c := fun c => by rw [← hev]; rfl
        have e40 : ev (.tmp 40) = .pointer (some ⟨w.heap.size, 7, none⟩) := by rw [← hev]; exact (eval_put (by kernel_rfl) 50 rfl (by decide)).trans q23
        clear hev hd q23
        obtain ⟨cc0, cc1, cc2, cc3, cc4, cc5, cc6, cc7, cc8, cc9, cc10⟩ := HS W hVW
        exact .inl ⟨_, W, by go_simp, rfl, Below.refl _ _⟩
      · obtain rfl := Option.some.inj hoo
        refine .inl ⟨wanted_none rfl, ?_⟩
        generalize hev : Act.eval _ = ev
        have ec : ∀ c, ev (.const c) = c := fun c => by rw [← hev]; rfl
        have e1 : ev (.tmp 1) = .pointer (some ⟨w.heap.size, 0, none⟩) := by rw [← hev]; exact eval_old (by kernel_rfl) 50 rfl (by decide) rfl
        clear hev hd
        exact .inl ⟨_, W, by go_simp, rfl, Below.refl _ _⟩
      · obtain rfl := Option.some.inj hoo
        have q25 : uu 25 = .pointer (some ⟨w.heap.size, 8, none⟩) := hd 25 (by kernel_rfl)
        refine .inl ⟨wanted_none rfl, ?_⟩
        generalize hev : Act.eval _ = ev
        have ec : ∀ c, ev (.const c) = c := fun c => by rw [← hev]; rfl
        have e42 : ev (.tmp 42) = .pointer (some ⟨w.heap.size, 8, none⟩) := by rw [← hev]; exact (eval_put (by kernel_rfl) 50 rfl (by decide)).trans q25
        clear hev hd q25
        obtain ⟨cc0, cc1, cc2, cc3, cc4, cc5, cc6, cc7, cc8, cc9, cc10⟩ := HS W hVW
        exact .inl ⟨_, W, by go_simp, rfl, Below.refl _ _⟩
      · obtain rfl := Option.some.inj hoo
        have q24 : uu 24 = .int .u32 (s.toNat : Int) := hd 24 (by kernel_rfl)
        have q26 : uu 26 = .int .u32 (d.toNat : Int) := hd 26 (by kernel_rfl)
        refine .inl ⟨wanted_none rfl, ?_⟩
        generalize hev : Act.eval _ = ev
        have ec : ∀ c, ev (.const c) = c := fun c => by rw [← hev]; rfl
        have e41 : ev (.tmp 41) = .int .u32 (s.toNat : Int) := by rw [← hev]; exact (eval_put (by kernel_rfl) 50 rfl (by decide)).trans q24
        have e43 : ev (.tmp 43) = .int .u32 (d.toNat : Int) := by rw [← hev]; exact (eval_put (by kernel_rfl) 50 rfl (by decide)).trans q26
        clear hev hd q24 q26
        exact .inl ⟨_, W.alloc (.cells #[.int .u32 (s.toNat : Int), .int .u32 (d.toNat : Int)] 25), by go_simp, ⟨_, rfl, lit32_at W _ [s, d] rfl #[.int .u32 (s.toNat : Int), .int .u32 (d.toNat : Int)] (rfl) _ (by simp)⟩, bnextA (Below.refl _ _) _⟩
      · obtain rfl := Option.some.inj hoo
        obtain ⟨A27, q27, r27⟩ := hd 27 (by kernel_rfl)
        refine .inl ⟨wanted_none rfl, ?_⟩
        generalize hev : Act.eval _ = ev
        have ec : ∀ c, ev (.const c) = c := fun c => by rw [← hev]; rfl
        have ef : ∀ f, ev (.func f) = .func (.func f) #[] #[] := fun f => by rw [← hev]; rfl
        have e44 : ev (.tmp 44) = .slice A27 2 2 := by rw [← hev]; exact (eval_put (by kernel_rfl) 50 rfl (by decide)).trans q27
        clear hev hd q27
        exact .inr ⟨_, _, _, by go_simp, put32_nil A27 2 [s, d] W r27 (by simp), fun e w' he => by
          obtain ⟨L, A, c, rfl, HL, hr, hb⟩ := he
          exact ⟨_, rfl, ⟨L, A, c, rfl, HL, hr⟩, hb⟩⟩
      · obtain rfl := Option.some.inj hoo
        refine .inl ⟨wanted_none rfl, ?_⟩
        generalize hev : Act.eval _ = ev
        have ec : ∀ c, ev (.const c) = c := fun c => by rw [← hev]; rfl
        have e1 : ev (.tmp 1) = .pointer (some ⟨w.heap.size, 0, none⟩) := by rw [← hev]; exact eval_old (by kernel_rfl) 50 rfl (by decide) rfl
        clear hev hd
        exact .inl ⟨_, W, by go_simp, rfl, Below.refl _ _⟩
      · obtain rfl := Option.some.inj hoo
        have q29 : uu 29 = .pointer (some ⟨w.heap.size, 9, none⟩) := hd 29 (by kernel_rfl)
        refine .inl ⟨wanted_none rfl, ?_⟩
        generalize hev : Act.eval _ = ev
        have ec : ∀ c, ev (.const c) = c := fun c => by rw [← hev]; rfl
        have e46 : ev (.tmp 46) = .pointer (some ⟨w.heap.size, 9, none⟩) := by rw [← hev]; exact (eval_put (by kernel_rfl) 50 rfl (by decide)).trans q29
        clear hev hd q29
        obtain ⟨cc0, cc1, cc2, cc3, cc4, cc5, cc6, cc7, cc8, cc9, cc10⟩ := HS W hVW
        exact .inl ⟨_, W, by go_simp, rfl, Below.refl _ _⟩
      · obtain rfl := Option.some.inj hoo
        obtain ⟨A6, q6, r6⟩ := hd 6 (by kernel_rfl)
        obtain ⟨L17, A17, c17, q17, HL17, r17⟩ := hd 17 (by kernel_rfl)
        obtain ⟨A22, q22, r22⟩ := hd 22 (by kernel_rfl)
        obtain ⟨L28, A28, c28, q28, HL28, r28⟩ := hd 28 (by kernel_rfl)
        have q30 : uu 30 = .slice A1 os.length c1 := hd 30 (by kernel_rfl)
        refine .inl ⟨wanted_none rfl, ?_⟩
        generalize hev : Act.eval _ = ev
        have ec : ∀ c, ev (.const c) = c := fun c => by rw [← hev]; rfl
        have e23 : ev (.tmp 23) = .slice A6 2 2 := by rw [← hev]; exact (eval_put (by kernel_rfl) 50 rfl (by decide)).trans q6
        have e34 : ev (.tmp 34) = .slice A17 L17.length c17 := by rw [← hev]; exact (eval_put (by kernel_rfl) 50 rfl (by decide)).trans q17
        have e39 : ev (.tmp 39) = .slice A22 4 4 := by rw [← hev]; exact (eval_put (by kernel_rfl) 50 rfl (by decide)).trans q22
        have e45 : ev (.tmp 45) = .slice A28 L28.length c28 := by rw [← hev]; exact (eval_put (by kernel_rfl) 50 rfl (by decide)).trans q28
        have e47 : ev (.tmp 47) = .slice A1 os.length c1 := by rw [← hev]; exact (eval_put (by kernel_rfl) 50 rfl (by decide)).trans q30
        clear hev hd q6 q17 q22 q28 q30
        exact .inl ⟨_, W.alloc (.cells #[.slice A6 2 2, .slice A17 L17.length c17, .slice A22 4 4, .slice A28 L28.length c28, .slice A1 os.length c1] 34), by go_simp, ⟨W.heap.size, [[h, tos], L17, [ttl, pr, 0, 0], L28, os], rfl, by rw [Hid, HL17.out, HL28.out]; simp [ih, puts16, puts32, be16], rfl, by simp, W.heap.size, by simp, parts_at _ rfl (.cons r6 (.cons r17 (.cons r22 (.cons r28 (.cons (ho.next hVW) .nil))))) _ rfl _⟩, bnextA (Below.refl _ _) _⟩
      · obtain rfl := Option.some.inj hoo
        obtain ⟨g31, ls31, q31, HF31, HN31, hg31, B31, hB31, hP31⟩ := hd 31 (by kernel_rfl)
        refine .inl ⟨wanted_none rfl, ?_⟩
        generalize hev : Act.eval _ = ev
        have ec : ∀ c, ev (.const c) = c := fun c => by rw [← hev]; rfl
        have ef : ∀ f, ev (.func f) = .func (.func f) #[] #[] := fun f => by rw [← hev]; rfl
        have e48 : ev (.tmp 48) = .slice (some ⟨g31, 0, none⟩) 5 5 := by rw [← hev]; exact (eval_put (by kernel_rfl) 50 rfl (by decide)).trans q31
        clear hev hd q31
        exact .inr ⟨_, _, _, by go_simp, join_any W B31 g31 5 ls31 hP31 HN31.out (by omega) (by omega) (by rw [HF31.out, ih_len]; omega), fun e w' he => by
          obtain ⟨L, A, c, rfl, HL, hr, hb⟩ := he
          exact ⟨_, rfl, ⟨L, A, c, rfl, by rw [Hid, HL.out, HF31.out], hr⟩, hb⟩⟩
      · obtain rfl := Option.some.inj hoo
        obtain ⟨L32, A32, c32, q32, HL32, r32⟩ := hd 32 (by kernel_rfl)
        refine .inl ⟨wanted_none rfl, ?_⟩
        generalize hev : Act.eval _ = ev
        have ec : ∀ c, ev (.const c) = c := fun c => by rw [← hev]; rfl
        have e49 : ev (.tmp 49) = .slice A32 L32.length c32 := by rw [← hev]; exact (eval_put (by kernel_rfl) 50 rfl (by decide)).trans q32
        clear hev hd q32
        exact .inl ⟨_, W, by go_simp, ⟨L32, A32, c32, rfl, HL32, r32⟩, Below.refl _ _⟩
      · simp at hoo
    · intro uu W hVW hall
      obtain ⟨L, A, c, q33, HL, hr⟩ : ∃ L A c, uu 33 = .slice A L.length c ∧ Hid (L = ih h tos (20 + os.length + xs.length) id wd ttl pr 0 s d os) ∧ Rd bv W W.heap.size A c L := hall 33 (by decide)
      have hB := hB1.trans (hVW.mono hB1.size)
      clear hall HS hK1 HM HA ho
      simp only [putAll, Act.put, Nat.reduceAdd, q33]
      simp only [List.setIfInBounds_toArray, List.set_cons_succ, List.set_cons_zero]
      go_wp2_with fail
      go_ret
      exact ⟨L, A, c, rfl, by rw [Hid, HL.out, HWD.out], hr, hB⟩

  · obtain ⟨wd, hwd⟩ : ∃ wd : Nat, wd = fo.toNat + 24576 := ⟨_, rfl⟩
    have HWD : Hid (wd = wdN true true fo) := by rw [Hid, hwd]; simp [wdN]
    have HWQ := Lib.hid hwd
    have hwl : wd ≤ 65535 := by omega
    have o1 := or_df fo.toNat h3
    have o3 := or_dm fo.toNat h3
    rw [← hwd] at o3
    generalize fo.toNat + 16384 = w1 at o1 o3
    clear hwd
    go_enter Try.func30, Try.ntmps30
    go_wp2_with fail
    rw [← hW1]
    clear hW1
    refine (HZ _).out.mono ?_
    rintro e w0 ⟨rfl, hbel⟩
    obtain ⟨p0, p1, p2, p3, p4, p5, p6, p7, p8, p9, p10⟩ := HS _ hbel
    replace hB1 := bnext hB1 hbel
    replace ho := ho.next hbel
    replace hK1 := hK1.next hbel
    clear hbel HZ HS
    go_wp2_with fail
    skip
    clear p0 p1 p2 p3 p4 p5 p6 p7 p8 p9 p10 o1 o3
    have HS : ∀ W, Below w0.heap.size w0 W → (W.cell? ⟨w.heap.size, 0, none⟩ = some (.int .u8 (tos.toNat : Int)) ∧ W.cell? ⟨w.heap.size, 1, none⟩ = some (.int .u16 (id.toNat : Int)) ∧ W.cell? ⟨w.heap.size, 2, none⟩ = some (.bool true) ∧ W.cell? ⟨w.heap.size, 3, none⟩ = some (.bool true) ∧ W.cell? ⟨w.heap.size, 4, none⟩ = some (.int .u16 (fo.toNat : Int)) ∧ W.cell? ⟨w.heap.size, 5, none⟩ = some (.int .u8 (ttl.toNat : Int)) ∧ W.cell? ⟨w.heap.size, 6, none⟩ = some (.int .u8 (pr.toNat : Int)) ∧ W.cell? ⟨w.heap.size, 7, none⟩ = some (.int .u32 (s.toNat : Int)) ∧ W.cell? ⟨w.heap.size, 8, none⟩ = some (.int .u32 (d.toNat : Int)) ∧ W.cell? ⟨w.heap.size, 9, none⟩ = some (.slice A1 os.length c1) ∧ W.cell? ⟨w.heap.size, 10, none⟩ = some (.slice A2 xs.length c2)) := by
      intro W h
      obtain ⟨p0, p1, p2, p3, p4, p5, p6, p7, p8, p9, p10, -⟩ := (hK1.next h).get11
      exact ⟨p0, p1, p2, p3, p4, p5, p6, p7, p8, p9, p10⟩
    refine region_put (by kernel_rfl) (by kernel_rfl) (by kernel_rfl) 50 rfl (by kernel_rfl) w0 (fun i v W => match i with
        | 0 => v = .int .i64 (20 + (os.length : Int))
        | 1 => v = .int .i64 (m : Int)
        | 2 => v = .int .i64 (64 + (m : Int))
        | 3 => v = .int .u8 (h.toNat : Int)
        | 4 => v = .pointer (some ⟨w.heap.size, 0, none⟩)
        | 5 => v = .int .u8 (tos.toNat : Int)
        | 6 => ∃ A, v = .slice A 2 2 ∧ Rd bv W W.heap.size A 2 [h, tos]
        | 7 => v = .int .i64 (20 + (os.length : Int))
        | 8 => v = .pointer (some ⟨w.heap.size, 10, none⟩)
        | 9 => v = .slice A2 xs.length c2
        | 10 => v = .int .i64 (xs.length : Int)
        | 11 => v = .int .i64 (al : Int)
        | 12 => v = .int .u16 ((UInt16.ofNat (20 + os.length + xs.length)).toNat : Int)
        | 13 => v = .pointer (some ⟨w.heap.size, 1, none⟩)
        | 14 => v = .int .u16 (id.toNat : Int)
        | 15 => v = .int .u16 (wd : Int)
        | 16 => ∃ A, v = .slice A 3 3 ∧ Rd hv W W.heap.size A 3 [UInt16.ofNat (20 + os.length + xs.length), id, UInt16.ofNat wd]
        | 17 => ∃ L A c, v = .slice A L.length c ∧ Hid (L = puts16 [UInt16.ofNat (20 + os.length + xs.length), id, UInt16.ofNat wd]) ∧ Rd bv W W.heap.size A c L
        | 18 => v = .pointer (some ⟨w.heap.size, 5, none⟩)
        | 19 => v = .int .u8 (ttl.toNat : Int)
        | 20 => v = .pointer (some ⟨w.heap.size, 6, none⟩)
        | 21 => v = .int .u8 (pr.toNat : Int)
        | 22 => ∃ A, v = .slice A 4 4 ∧ Rd bv W W.heap.size A 4 [ttl, pr, 0, 0]
        | 23 => v = .pointer (some ⟨w.heap.size, 7, none⟩)
        | 24 => v = .int .u32 (s.toNat : Int)
        | 25 => v = .pointer (some ⟨w.heap.size, 8, none⟩)
        | 26 => v = .int .u32 (d.toNat : Int)
        | 27 => ∃ A, v = .slice A 2 2 ∧ Rd wv W W.heap.size A 2 [s, d]
        | 28 => ∃ L A c, v = .slice A L.length c ∧ Hid (L = puts32 [s, d]) ∧ Rd bv W W.heap.size A c L
        | 29 => v = .pointer (some ⟨w.heap.size, 9, none⟩)
        | 30 => v = .slice A1 os.length c1
        | 31 => ∃ g ls, v = .slice (some ⟨g, 0, none⟩) 5 5 ∧ Hid (ls.flatten = ih h tos (20 + os.length + xs.length) id wd ttl pr 0 s d os) ∧ Hid (ls.length = 5) ∧ g < W.heap.size ∧ ∃ B, B ≤ W.heap.size ∧ Parts W B g ls
        | 32 => ∃ L A c, v = .slice A L.length c ∧ Hid (L = ih h tos (20 + os.length + xs.length) id wd ttl pr 0 s d os) ∧ Rd bv W W.heap.size A c L
        | 33 => ∃ L A c, v = .slice A L.length c ∧ Hid (L = ih h tos (20 + os.length + xs.length) id wd ttl pr 0 s d os) ∧ Rd bv W W.heap.size A c L
        | _ => True) (Below.refl _ _) ?_ ?_ ?_
    · intro i v W W' h hb
      match i, h with
      | 0, h => exact h
      | 1, h => exact h
      | 2, h => exact h
      | 3, h => exact h
      | 4, h => exact h
      | 5, h => exact h
      | 6, h => obtain ⟨A, h1, h2⟩ := h; exact ⟨A, h1, h2.next hb⟩
      | 7, h => exact h
      | 8, h => exact h
      | 9, h => exact h
      | 10, h => exact h
      | 11, h => exact h
      | 12, h => exact h
      | 13, h => exact h
      | 14, h => exact h
      | 15, h => exact h
      | 16, h => obtain ⟨A, h1, h2⟩ := h; exact ⟨A, h1, h2.next hb⟩
      | 17, h => obtain ⟨L, A, c, h1, h2, h3⟩ := h; exact ⟨L, A, c, h1, h2, h3.next hb⟩
      | 18, h => exact h
      | 19, h => exact h
      | 20, h => exact h
      | 21, h => exact h
      | 22, h => obtain ⟨A, h1, h2⟩ := h; exact ⟨A, h1, h2.next hb⟩
      | 23, h => exact h
      | 24, h => exact h
      | 25, h => exact h
      | 26, h => exact h
      | 27, h => obtain ⟨A, h1, h2⟩ := h; exact ⟨A, h1, h2.next hb⟩
      | 28, h => obtain ⟨L, A, c, h1, h2, h3⟩ := h; exact ⟨L, A, c, h1, h2, h3.next hb⟩
      | 29, h => exact h
      | 30, h => exact h
      | 31, h => obtain ⟨g, ls, h1, h2, h3, h4, B, h5, h6⟩ := h; exact ⟨g, ls, h1, h2, h3, Nat.lt_of_lt_of_le h4 hb.size, B, Nat.le_trans h5 hb.size, h6.next h4 h5 hb⟩
      | 32, h => obtain ⟨L, A, c, h1, h2, h3⟩ := h; exact ⟨L, A, c, h1, h2, h3.next hb⟩
      | 33, h => obtain ⟨L, A, c, h1, h2, h3⟩ := h; exact ⟨L, A, c, h1, h2, h3.next hb⟩
      | _ + 34, _ => trivial
    · intro i o uu W hoo hVW hd
      rcases i with _|_|_|_|_|_|_|_|_|_|_|_|_|_|_|_|_|_|_|_|_|_|_|_|_|_|_|_|_|_|_|_|_|_|i
      · obtain rfl := Option.some.inj hoo
        refine .inl ⟨wanted_none rfl, ?_⟩
        generalize hev : Act.eval _ = ev
        have ec : ∀ c, ev (.const c) = c := fun c => by rw [← hev]; rfl
        have e3 : ev (.tmp 3) = .int .i64 (20 + (os.length : Int)) := by rw [← hev]; exact eval_old (by kernel_rfl) 50 rfl (by decide) rfl
        clear hev hd
        exact .inl ⟨_, W, by go_simp, rfl, Below.refl _ _⟩
      · obtain rfl := Option.some.inj hoo
        have q0 : uu 0 = .int .i64 (20 + (os.length : Int)) := hd 0 (by kernel_rfl)
        refine .inl ⟨wanted_none rfl, ?_⟩
        generalize hev : Act.eval _ = ev
        have ec : ∀ c, ev (.const c) = c := fun c => by rw [← hev]; rfl
        have e17 : ev (.tmp 17) = .int .i64 (20 + (os.length : Int)) := by rw [← hev]; exact (eval_put (by kernel_rfl) 50 rfl (by decide)).trans q0
        clear hev hd q0
        have hm := (HM ()).out.1
        have hm2 : IntKind.i64.wrap (m : Int) = (m : Int) := by rw [IntKind.wrap_i64]; omega
        exact .inl ⟨_, W, by go_simp, rfl, Below.refl _ _⟩
      · obtain rfl := Option.some.inj hoo
        have q1 : uu 1 = .int .i64 (m : Int) := hd 1 (by kernel_rfl)
        refine .inl ⟨wanted_none rfl, ?_⟩
        generalize hev : Act.eval _ = ev
        have ec : ∀ c, ev (.const c) = c := fun c => by rw [← hev]; rfl
        have e18 : ev (.tmp 18) = .int .i64 (m : Int) := by rw [← hev]; exact (eval_put (by kernel_rfl) 50 rfl (by decide)).trans q1
        clear hev hd q1
        have hw := (HM ()).out.2.1
        exact .inl ⟨_, W, by go_simp, rfl, Below.refl _ _⟩
      · obtain rfl := Option.some.inj hoo
        have q2 : uu 2 = .int .i64 (64 + (m : Int)) := hd 2 (by kernel_rfl)
        refine .inl ⟨wanted_none rfl, ?_⟩
        generalize hev : Act.eval _ = ev
        have ec : ∀ c, ev (.const c) = c := fun c => by rw [← hev]; rfl
        have e19 : ev (.tmp 19) = .int .i64 (64 + (m : Int)) := by rw [← hev]; exact (eval_put (by kernel_rfl) 50 rfl (by decide)).trans q2
        clear hev hd q2
        have hw := (HM ()).out.2.2
        exact .inl ⟨_, W, by go_simp, rfl, Below.refl _ _⟩
      · obtain rfl := Option.some.inj hoo
        refine .inl ⟨wanted_none rfl, ?_⟩
        generalize hev : Act.eval _ = ev
        have ec : ∀ c, ev (.const c) = c := fun c => by rw [← hev]; rfl
        have e1 : ev (.tmp 1) = .pointer (some ⟨w.heap.size, 0, none⟩) := by rw [← hev]; exact eval_old (by kernel_rfl) 50 rfl (by decide) rfl
        clear hev hd
        exact .inl ⟨_, W, by go_simp, rfl, Below.refl _ _⟩
      · obtain rfl := Option.some.inj hoo
        have q4 : uu 4 = .pointer (some ⟨w.heap.size, 0, none⟩) := hd 4 (by kernel_rfl)
        refine .inl ⟨wanted_none rfl, ?_⟩
        generalize hev : Act.eval _ = ev
        have ec : ∀ c, ev (.const c) = c := fun c => by rw [← hev]; rfl
        have e21 : ev (.tmp 21) = .pointer (some ⟨w.heap.size, 0, none⟩) := by rw [← hev]; exact (eval_put (by kernel_rfl) 50 rfl (by decide)).trans q4
        clear hev hd q4
        obtain ⟨cc0, cc1, cc2, cc3, cc4, cc5, cc6, cc7, cc8, cc9, cc10⟩ := HS W hVW
        exact .inl ⟨_, W, by go_simp, rfl, Below.refl _ _⟩
      · obtain rfl := Option.some.inj hoo
        have q3 : uu 3 = .int .u8 (h.toNat : Int) := hd 3 (by kernel_rfl)
        have q5 : uu 5 = .int .u8 (tos.toNat : Int) := hd 5 (by kernel_rfl)
        refine .inl ⟨wanted_none rfl, ?_⟩
        generalize hev : Act.eval _ = ev
        have ec : ∀ c, ev (.const c) = c := fun c => by rw [← hev]; rfl
        have e20 : ev (.tmp 20) = .int .u8 (h.toNat : Int) := by rw [← hev]; exact (eval_put (by kernel_rfl) 50 rfl (by decide)).trans q3
        have e22 : ev (.tmp 22) = .int .u8 (tos.toNat : Int) := by rw [← hev]; exact (eval_put (by kernel_rfl) 50 rfl (by decide)).trans q5
        clear hev hd q3 q5
        exact .inl ⟨_, W.alloc (.cells #[.int .u8 (h.toNat : Int), .int .u8 (tos.toNat : Int)] 5), by go_simp, ⟨_, rfl, lit_at W _ [h, tos] rfl #[.int .u8 (h.toNat : Int), .int .u8 (tos.toNat : Int)] (rfl) _ (by simp)⟩, bnextA (Below.refl _ _) _⟩
      · obtain rfl := Option.some.inj hoo
        refine .inl ⟨wanted_none rfl, ?_⟩
        generalize hev : Act.eval _ = ev
        have ec : ∀ c, ev (.const c) = c := fun c => by rw [← hev]; rfl
        have e3 : ev (.tmp 3) = .int .i64 (20 + (os.length : Int)) := by rw [← hev]; exact eval_old (by kernel_rfl) 50 rfl (by decide) rfl
        clear hev hd
        exact .inl ⟨_, W, by go_simp, rfl, Below.refl _ _⟩
      · obtain rfl := Option.some.inj hoo
        refine .inl ⟨wanted_none rfl, ?_⟩
        generalize hev : Act.eval _ = ev
        have ec : ∀ c, ev (.const c) = c := fun c => by rw [← hev]; rfl
        have e1 : ev (.tmp 1) = .pointer (some ⟨w.heap.size, 0, none⟩) := by rw [← hev]; exact eval_old (by kernel_rfl) 50 rfl (by decide) rfl
        clear hev hd
        exact .inl ⟨_, W, by go_simp, rfl, Below.refl _ _⟩
      · obtain rfl := Option.some.inj hoo
        have q8 : uu 8 = .pointer (some ⟨w.heap.size, 10, none⟩) := hd 8 (by kernel_rfl)
        refine .inl ⟨wanted_none rfl, ?_⟩
        generalize hev : Act.eval _ = ev
        have ec : ∀ c, ev (.const c) = c := fun c => by rw [← hev]; rfl
        have e25 : ev (.tmp 25) = .pointer (some ⟨w.heap.size, 10, none⟩) := by rw [← hev]; exact (eval_put (by kernel_rfl) 50 rfl (by decide)).trans q8
        clear hev hd q8
        obtain ⟨cc0, cc1, cc2, cc3, cc4, cc5, cc6, cc7, cc8, cc9, cc10⟩ := HS W hVW
        exact .inl ⟨_, W, by go_simp, rfl, Below.refl _ _⟩
      · obtain rfl := Option.some.inj hoo
        have q9 : uu 9 = .slice A2 xs.length c2 := hd 9 (by kernel_rfl)
        refine .inl ⟨wanted_none rfl, ?_⟩
        generalize hev : Act.eval _ = ev
        have ec : ∀ c, ev (.const c) = c := fun c => by rw [← hev]; rfl
        have e26 : ev (.tmp 26) = .slice A2 xs.length c2 := by rw [← hev]; exact (eval_put (by kernel_rfl) 50 rfl (by decide)).trans q9
        clear hev hd q9
        exact .inl ⟨_, W, by go_simp, rfl, Below.refl _ _⟩
      · obtain rfl := Option.some.inj hoo
        have q7 : uu 7 = .int .i64 (20 + (os.length : Int)) := hd 7 (by kernel_rfl)
        have q10 : uu 10 = .int .i64 (xs.length : Int) := hd 10 (by kernel_rfl)
        refine .inl ⟨wanted_none rfl, ?_⟩
        generalize hev : Act.eval _ = ev
        have ec : ∀ c, ev (.const c) = c := fun c => by rw [← hev]; rfl
        have e24 : ev (.tmp 24) = .int .i64 (20 + (os.length : Int)) := by rw [← hev]; exact (eval_put (by kernel_rfl) 50 rfl (by decide)).trans q7
        have e27 : ev (.tmp 27) = .int .i64 (xs.length : Int) := by rw [← hev]; exact (eval_put (by kernel_rfl) 50 rfl (by decide)).trans q10
        clear hev hd q7 q10
        have ha := (HA ()).out.1
        exact .inl ⟨_, W, by go_simp, rfl, Below.refl _ _⟩
      · obtain rfl := Option.some.inj hoo
        have q11 : uu 11 = .int .i64 (al : Int) := hd 11 (by kernel_rfl)
        refine .inl ⟨wanted_none rfl, ?_⟩
        generalize hev : Act.eval _ = ev
        have ec : ∀ c, ev (.const c) = c := fun c => by rw [← hev]; rfl
        have e28 : ev (.tmp 28) = .int .i64 (al : Int) := by rw [← hev]; exact (eval_put (by kernel_rfl) 50 rfl (by decide)).trans q11
        clear hev hd q11
        have ha := (HA ()).out.2
        exact .inl ⟨_, W, by go_simp, rfl, Below.refl _ _⟩
      · obtain rfl := Option.some.inj hoo
        refine .inl ⟨wanted_none rfl, ?_⟩
        generalize hev : Act.eval _ = ev
        have ec : ∀ c, ev (.const c) = c := fun c => by rw [← hev]; rfl
        have e1 : ev (.tmp 1) = .pointer (some ⟨w.heap.size, 0, none⟩) := by rw [← hev]; exact eval_old (by kernel_rfl) 50 rfl (by decide) rfl
        clear hev hd
        exact .inl ⟨_, W, by go_simp, rfl, Below.refl _ _⟩
      · obtain rfl := Option.some.inj hoo
        have q13 : uu 13 = .pointer (some ⟨w.heap.size, 1, none⟩) := hd 13 (by kernel_rfl)
        refine .inl ⟨wanted_none rfl, ?_⟩
        generalize hev : Act.eval _ = ev
        have ec : ∀ c, ev (.const c) = c := fun c => by rw [← hev]; rfl
        have e30 : ev (.tmp 30) = .pointer (some ⟨w.heap.size, 1, none⟩) := by rw [← hev]; exact (eval_put (by kernel_rfl) 50 rfl (by decide)).trans q13
        clear hev hd q13
        obtain ⟨cc0, cc1, cc2, cc3, cc4, cc5, cc6, cc7, cc8, cc9, cc10⟩ := HS W hVW
        exact .inl ⟨_, W, by go_simp, rfl, Below.refl _ _⟩
      · obtain rfl := Option.some.inj hoo
        refine .inl ⟨wanted_none rfl, ?_⟩
        generalize hev : Act.eval _ = ev
        have ec : ∀ c, ev (.const c) = c := fun c => by rw [← hev]; rfl
        have e4 : ev (.tmp 4) = .int .u16 (wd : Int) := by rw [← hev]; exact eval_old (by kernel_rfl) 50 rfl (by decide) rfl
        clear hev hd
        exact .inl ⟨_, W, by go_simp, rfl, Below.refl _ _⟩
      · obtain rfl := Option.some.inj hoo
        have q12 : uu 12 = .int .u16 ((UInt16.ofNat (20 + os.length + xs.length)).toNat : Int) := hd 12 (by kernel_rfl)
        have q14 : uu 14 = .int .u16 (id.toNat : Int) := hd 14 (by kernel_rfl)
        have q15 : uu 15 = .int .u16 (wd : Int) := hd 15 (by kernel_rfl)
        refine .inl ⟨wanted_none rfl, ?_⟩
        generalize hev : Act.eval _ = ev
        have ec : ∀ c, ev (.const c) = c := fun c => by rw [← hev]; rfl
        have e29 : ev (.tmp 29) = .int .u16 ((UInt16.ofNat (20 + os.length + xs.length)).toNat : Int) := by rw [← hev]; exact (eval_put (by kernel_rfl) 50 rfl (by decide)).trans q12
        have e31 : ev (.tmp 31) = .int .u16 (id.toNat : Int) := by rw [← hev]; exact (eval_put (by kernel_rfl) 50 rfl (by decide)).trans q14
        have e32 : ev (.tmp 32) = .int .u16 (wd : Int) := by rw [← hev]; exact (eval_put (by kernel_rfl) 50 rfl (by decide)).trans q15
        clear hev hd q12 q14 q15
        exact .inl ⟨_, W.alloc (.cells #[.int .u16 ((UInt16.ofNat (20 + os.length + xs.length)).toNat : Int), .int .u16 (id.toNat : Int), .int .u16 (wd : Int)] 31), by go_simp, ⟨_, rfl, lit16_at W _ [UInt16.ofNat (20 + os.length + xs.length), id, UInt16.ofNat wd] rfl #[.int .u16 ((UInt16.ofNat (20 + os.length + xs.length)).toNat : Int), .int .u16 (id.toNat : Int), .int .u16 (wd : Int)] (by simp [hv]; try omega) _ (by simp)⟩, bnextA (Below.refl _ _) _⟩
      · obtain rfl := Option.some.inj hoo
        obtain ⟨A16, q16, r16⟩ := hd 16 (by kernel_rfl)
        refine .inl ⟨wanted_none rfl, ?_⟩
        generalize hev : Act.eval _ = ev
        have ec : ∀ c, ev (.const c) = c := fun c => by rw [← hev]; rfl
        have ef : ∀ f, ev (.func f) = .func (.func f) #[] #[] := fun f => by rw [← hev]; rfl
        have e33 : ev (.tmp 33) = .slice A16 3 3 := by rw [← hev]; exact (eval_put (by kernel_rfl) 50 rfl (by decide)).trans q16
        clear hev hd q16
        exact .inr ⟨_, _, _, by go_simp, put16_nil A16 3 [UInt16.ofNat (20 + os.length + xs.length), id, UInt16.ofNat wd] W r16 (by simp), fun e w' he => by
          obtain ⟨L, A, c, rfl, HL, hr, hb⟩ := he
          exact ⟨_, rfl, ⟨L, A, c, rfl, HL, hr⟩, hb⟩⟩
      · obtain rfl := Option.some.inj hoo
        refine .inl ⟨wanted_none rfl, ?_⟩
        generalize hev : Act.eval _ = ev
        have ec : ∀ c, ev (.const c) = c := fun c => by rw [← hev]; rfl
        have e1 : ev (.tmp 1) = .pointer (some ⟨w.heap.size, 0, none⟩) := by rw [← hev]; exact eval_old (by kernel_rfl) 50 rfl (by decide) rfl
        clear hev hd
        exact .inl ⟨_, W, by go_simp, rfl, Below.refl _ _⟩
      · obtain rfl := Option.some.inj hoo
        have q18 : uu 18 = .pointer (some ⟨w.heap.size, 5, none⟩) := hd 18 (by kernel_rfl)
        refine .inl ⟨wanted_none rfl, ?_⟩
        generalize hev : Act.eval _ = ev
        have ec : ∀ c, ev (.const c) = c := fun c => by rw [← hev]; rfl
        have e35 : ev (.tmp 35) = .pointer (some ⟨w.heap.size, 5, none⟩) := by rw [← hev]; exact (eval_put (by kernel_rfl) 50 rfl (by decide)).trans q18
        clear hev hd q18
        obtain ⟨cc0, cc1, cc2, cc3, cc4, cc5, cc6, cc7, cc8, cc9, cc10⟩ := HS W hVW
        exact .inl ⟨_, W, by go_simp, rfl, Below.refl _ _⟩
      · obtain rfl := Option.some.inj hoo
        refine .inl ⟨wanted_none rfl, ?_⟩
        generalize hev : Act.eval _ = ev
        have ec : ∀ c, ev (.const c) = c := fun c => by rw [← hev]; rfl
        have e1 : ev (.tmp 1) = .pointer (some ⟨w.heap.size, 0, none⟩) := by rw [← hev]; exact eval_old (by kernel_rfl) 50 rfl (by decide) rfl
        clear hev hd
        exact .inl ⟨_, W, by go_simp, rfl, Below.refl _ _⟩
      · obtain rfl := Option.some.inj hoo
        have q20 : uu 20 = .pointer (some ⟨w.heap.size, 6, none⟩) := hd 20 (by kernel_rfl)
        refine .inl ⟨wanted_none rfl, ?_⟩
        generalize hev : Act.eval _ = ev
        have ec : ∀ c, ev (.const c) = c := fun c => by rw [← hev]; rfl
        have e37 : ev (.tmp 37) = .pointer (some ⟨w.heap.size, 6, none⟩) := by rw [← hev]; exact (eval_put (by kernel_rfl) 50 rfl (by decide)).trans q20
        clear hev hd q20
        obtain ⟨cc0, cc1, cc2, cc3, cc4, cc5, cc6, cc7, cc8, cc9, cc10⟩ := HS W hVW
        exact .inl ⟨_, W, by go_simp, rfl, Below.refl _ _⟩
      · obtain rfl := Option.some.inj hoo
        have q19 : uu 19 = .int .u8 (ttl.toNat : Int) := hd 19 (by kernel_rfl)
        have q21 : uu 21 = .int .u8 (pr.toNat : Int) := hd 21 (by kernel_rfl)
        refine .inl ⟨wanted_none rfl, ?_⟩
        generalize hev : Act.eval _ = ev
        have ec : ∀ c, ev (.const c) = c := fun c => by rw [← hev]; rfl
        have e36 : ev (.tmp 36) = .int .u8 (ttl.toNat : Int) := by rw [← hev]; exact (eval_put (by kernel_rfl) 50 rfl (by decide)).trans q19
        have e38 : ev (.tmp 38) = .int .u8 (pr.toNat : Int) := by rw [← hev]; exact (eval_put (by kernel_rfl) 50 rfl (by decide)).trans q21
        clear hev hd q19 q21
        exact .inl ⟨_, W.alloc (.cells #[.int .u8 (ttl.toNat : Int), .int .u8 (pr.toNat : Int), .int .u8 0, .int .u8 0] 5), by go_simp, ⟨_, rfl, lit_at W _ [ttl, pr, 0, 0] rfl #[.int .u8 (ttl.toNat : Int), .int .u8 (pr.toNat : Int), .int .u8 0, .int .u8 0] (rfl) _ (by simp)⟩, bnextA (Below.refl _ _) _⟩
      · obtain rfl := Option.some.inj hoo
        refine .inl ⟨wanted_none rfl, ?_⟩
        generalize hev : Act.eval _ = ev
        have ec : ∀ c, ev (.const c) = c := fun c => by rw [← hev]; rfl
        have e1 : ev (.tmp 1) = .pointer (some ⟨w.heap.size, 0, none⟩) := by rw [← hev]; exact eval_old (by kernel_rfl) 50 rfl (by decide) rfl
        clear hev hd
        exact .inl ⟨_, W, by go_simp, rfl, Below.refl _ _⟩
      · obtain rfl := Option.some.inj hoo
        have q23 : uu 23 = .pointer (some ⟨w.heap.size, 7, none⟩) := hd 23 (by kernel_rfl)
        refine .inl ⟨wanted_none rfl, ?_⟩
        generalize hev : Act.eval _ = ev
        have ec : ∀ c, ev (.const c) = c := fun c => by rw [← hev]; rfl
        have e40 : ev (.tmp 40) = .pointer (some ⟨w.heap.size, 7, none⟩) := by rw [← hev]; exact (eval_put (by kernel_rfl) 50 rfl (by decide)).trans q23
        clear hev hd q23
        obtain ⟨cc0, cc1, cc2, cc3, cc4, cc5, cc6, cc7, cc8, cc9, cc10⟩ := HS W hVW
        exact .inl ⟨_, W, by go_simp, rfl, Below.refl _ _⟩
      · obtain rfl := Option.some.inj hoo
        refine .inl ⟨wanted_none rfl, ?_⟩
        generalize hev : Act.eval _ = ev
        have ec : ∀ c, ev (.const c) = c := fun c => by rw [← hev]; rfl
        have e1 : ev (.tmp 1) = .pointer (some ⟨w.heap.size, 0, none⟩) := by rw [← hev]; exact eval_old (by kernel_rfl) 50 rfl (by decide) rfl
        clear hev hd
        exact .inl ⟨_, W, by go_simp, rfl, Below.refl _ _⟩
      · obtain rfl := Option.some.inj hoo
        have q25 : uu 25 = .pointer (some ⟨w.heap.size, 8, none⟩) := hd 25 (by kernel_rfl)
        refine .inl ⟨wanted_none rfl, ?_⟩
        generalize hev : Act.eval _ = ev
        have ec : ∀ c, ev (.const c) = c := fun c => by rw [← hev]; rfl
        have e42 : ev (.tmp 42) = .pointer (some ⟨w.heap.size, 8, none⟩) := by rw [← hev]; exact (eval_put (by kernel_rfl) 50 rfl (by decide)).trans q25
        clear hev hd q25
        obtain ⟨cc0, cc1, cc2, cc3, cc4, cc5, cc6, cc7, cc8, cc9, cc10⟩ := HS W hVW
        exact .inl ⟨_, W, by go_simp, rfl, Below.refl _ _⟩
      · obtain rfl := Option.some.inj hoo
        have q24 : uu 24 = .int .u32 (s.toNat : Int) := hd 24 (by kernel_rfl)
        have q26 : uu 26 = .int .u32 (d.toNat : Int) := hd 26 (by kernel_rfl)
        refine .inl ⟨wanted_none rfl, ?_⟩
        generalize hev : Act.eval _ = ev
        have ec : ∀ c, ev (.const c) = c := fun c => by rw [← hev]; rfl
        have e41 : ev (.tmp 41) = .int .u32 (s.toNat : Int) := by rw [← hev]; exact (eval_put (by kernel_rfl) 50 rfl (by decide)).trans q24
        have e43 : ev (.tmp 43) = .int .u32 (d.toNat : Int) := by rw [← hev]; exact (eval_put (by kernel_rfl) 50 rfl (by decide)).trans q26
        clear hev hd q24 q26
        exact .inl ⟨_, W.alloc (.cells #[.int .u32 (s.toNat : Int), .int .u32 (d.toNat : Int)] 25), by go_simp, ⟨_, rfl, lit32_at W _ [s, d] rfl #[.int .u32 (s.toNat : Int), .int .u32 (d.toNat : Int)] (rfl) _ (by simp)⟩, bnextA (Below.refl _ _) _⟩
      · obtain rfl := Option.some.inj hoo
        obtain ⟨A27, q27, r27⟩ := hd 27 (by kernel_rfl)
        refine .inl ⟨wanted_none rfl, ?_⟩
        generalize hev : Act.eval _ = ev
        have ec : ∀ c, ev (.const c) = c := fun c => by rw [← hev]; rfl
        have ef : ∀ f, ev (.func f) = .func (.func f) #[] #[] := fun f => by rw [← hev]; rfl
        have e44 : ev (.tmp 44) = .slice A27 2 2 := by rw [← hev]; exact (eval_put (by kernel_rfl) 50 rfl (by decide)).trans q27
        clear hev hd q27
        exact .inr ⟨_, _, _, by go_simp, put32_nil A27 2 [s, d] W r27 (by simp), fun e w' he => by
          obtain ⟨L, A, c, rfl, HL, hr, hb⟩ := he
          exact ⟨_, rfl, ⟨L, A, c, rfl, HL, hr⟩, hb⟩⟩
      · obtain rfl := Option.some.inj hoo
        refine .inl ⟨wanted_none rfl, ?_⟩
        generalize hev : Act.eval _ = ev
        have ec : ∀ c, ev (.const c) = c := fun c => by rw [← hev]; rfl
        have e1 : ev (.tmp 1) = .pointer (some ⟨w.heap.size, 0, none⟩) := by rw [← hev]; exact eval_old (by kernel_rfl) 50 rfl (by decide) rfl
        clear hev hd
        exact .inl ⟨_, W, by go_simp, rfl, Below.refl _ _⟩
      · obtain rfl := Option.some.inj hoo
        have q29 : uu 29 = .pointer (some ⟨w.heap.size, 9, none⟩) := hd 29 (by kernel_rfl)
        refine .inl ⟨wanted_none rfl, ?_⟩
        generalize hev : Act.eval _ = ev
        have ec : ∀ c, ev (.const c) = c := fun c => by rw [← hev]; rfl
        have e46 : ev (.tmp 46) = .pointer (some ⟨w.heap.size, 9, none⟩) := by rw [← hev]; exact (eval_put (by kernel_rfl) 50 rfl (by decide)).trans q29
        clear hev hd q29
        obtain ⟨cc0, cc1, cc2, cc3, cc4, cc5, cc6, cc7, cc8, cc9, cc10⟩ := HS W hVW
        exact .inl ⟨_, W, by go_simp, rfl, Below.refl _ _⟩
      · obtain rfl := Option.some.inj hoo
        obtain ⟨A6, q6, r6⟩ := hd 6 (by kernel_rfl)
        obtain ⟨L17, A17, c17, q17, HL17, r17⟩ := hd 17 (by kernel_rfl)
        obtain ⟨A22, q22, r22⟩ := hd 22 (by kernel_rfl)
        obtain ⟨L28, A28, c28, q28, HL28, r28⟩ := hd 28 (by kernel_rfl)
        have q30 : uu 30 = .slice A1 os.length c1 := hd 30 (by kernel_rfl)
        refine .inl ⟨wanted_none rfl, ?_⟩
        generalize hev : Act.eval _ = ev
        have ec : ∀ c, ev (.const c) = c := fun c => by rw [← hev]; rfl
        have e23 : ev (.tmp 23) = .slice A6 2 2 := by rw [← hev]; exact (eval_put (by kernel_rfl) 50 rfl (by decide)).trans q6
        have e34 : ev (.tmp 34) = .slice A17 L17.length c17 := by rw [← hev]; exact (eval_put (by kernel_rfl) 50 rfl (by decide)).trans q17
        have e39 : ev (.tmp 39) = .slice A22 4 4 := by rw [← hev]; exact (eval_put (by kernel_rfl) 50 rfl (by decide)).trans q22
        have e45 : ev (.tmp 45) = .slice A28 L28.length c28 := by rw [← hev]; exact (eval_put (by kernel_rfl) 50 rfl (by decide)).trans q28
        have e47 : ev (.tmp 47) = .slice A1 os.length c1 := by rw [← hev]; exact (eval_put (by kernel_rfl) 50 rfl (by decide)).trans q30
        clear hev hd q6 q17 q22 q28 q30
        exact .inl ⟨_, W.alloc (.cells #[.slice A6 2 2, .slice A17 L17.length c17, .slice A22 4 4, .slice A28 L28.length c28, .slice A1 os.length c1] 34), by go_simp, ⟨W.heap.size, [[h, tos], L17, [ttl, pr, 0, 0], L28, os], rfl, by rw [Hid, HL17.out, HL28.out]; simp [ih, puts16, puts32, be16], rfl, by simp, W.heap.size, by simp, parts_at _ rfl (.cons r6 (.cons r17 (.cons r22 (.cons r28 (.cons (ho.next hVW) .nil))))) _ rfl _⟩, bnextA (Below.refl _ _) _⟩
      · obtain rfl := Option.some.inj hoo
        obtain ⟨g31, ls31, q31, HF31, HN31, hg31, B31, hB31, hP31⟩ := hd 31 (by kernel_rfl)
        refine .inl ⟨wanted_none rfl, ?_⟩
        generalize hev : Act.eval _ = ev
        have ec : ∀ c, ev (.const c) = c := fun c => by rw [← hev]; rfl
        have ef : ∀ f, ev (.func f) = .func (.func f) #[] #[] := fun f => by rw [← hev]; rfl
        have e48 : ev (.tmp 48) = .slice (some ⟨g31, 0, none⟩) 5 5 := by rw [← hev]; exact (eval_put (by kernel_rfl) 50 rfl (by decide)).trans q31
        clear hev hd q31
        exact .inr ⟨_, _, _, by go_simp, join_any W B31 g31 5 ls31 hP31 HN31.out (by omega) (by omega) (by rw [HF31.out, ih_len]; omega), fun e w' he => by
          obtain ⟨L, A, c, rfl, HL, hr, hb⟩ := he
          exact ⟨_, rfl, ⟨L, A, c, rfl, by rw [Hid, HL.out, HF31.out], hr⟩, hb⟩⟩
      · obtain rfl := Option.some.inj hoo
        obtain ⟨L32, A32, c32, q32, HL32, r32⟩ := hd 32 (by kernel_rfl)
        refine .inl ⟨wanted_none rfl, ?_⟩
        generalize hev : Act.eval _ = ev
        have ec : ∀ c, ev (.const c) = c := fun c => by rw [← hev]; rfl
        have e49 : ev (.tmp 49) = .slice A32 L32.length c32 := by rw [← hev]; exact (eval_put (by kernel_rfl) 50 rfl (by decide)).trans q32
        clear hev hd q32
        exact .inl ⟨_, W, by go_simp, ⟨L32, A32, c32, rfl, HL32, r32⟩, Below.refl _ _⟩
      · simp at hoo
    · intro uu W hVW hall
      obtain ⟨L, A, c, q33, HL, hr⟩ : ∃ L A c, uu 33 = .slice A L.length c ∧ Hid (L = ih h tos (20 + os.length + xs.length) id wd ttl pr 0 s d os) ∧ Rd bv W W.heap.size A c L := hall 33 (by decide)
      have hB := hB1.trans (hVW.mono hB1.size)
      clear hall HS hK1 HM HA ho
      simp only [putAll, Act.put, Nat.reduceAdd, q33]
      simp only [List.setIfInBounds_toArray, List.set_cons_succ, List.set_cons_zero]
      go_wp2_with fail
      go_ret
      exact ⟨L, A, c, rfl, by rw [Hid, HL.out, HWD.out], hr, hB⟩

set_option maxHeartbeats 2000000 in
theorem pput_ok (tos : UInt8) (id : UInt16) (D M : Bool) (fo : UInt16) (ttl pr : UInt8) (s d : UInt32) (A1 A2 : Option Addr) (c1 c2 : Nat) (os xs : List UInt8) (w : World) (ho : Rd bv w w.heap.size A1 c1 os) (hx : Rd bv w w.heap.size A2 c2 xs) (h1 : os.length ≤ 40) (h2 : os.length % 4 = 0) (h3 : fo.toNat ≤ 8191) (h4 : 20 + os.length + xs.length ≤ 65535) (h : UInt8) (hh : h.toNat = 69 + os.length / 4) (N : Nat) (hN : onesN (ih h tos (20 + os.length + xs.length) id (wdN D M fo) ttl pr 0 s d os) = N) :
    Calls Try.prog 10 #[.agg #[.int .u8 (tos.toNat : Int), .int .u16 (id.toNat : Int), .bool D, .bool M, .int .u16 (fo.toNat : Int), .int .u8 (ttl.toNat : Int), .int .u8 (pr.toNat : Int), .int .u32 (s.toNat : Int), .int .u32 (d.toNat : Int), .slice A1 os.length c1, .slice A2 xs.length c2]] w fun e w' => ∃ L A' c', e = .returned (.tuple #[.slice A' L.length c', .int .i64 0]) ∧ Hid (L = ih h tos (20 + os.length + xs.length) id (wdN D M fo) ttl pr (65535 - N) s d os ++ xs) ∧ Rd bv w' w'.heap.size A' c' L ∧ Below w.heap.size w w' := by
  obtain ⟨W1, hW1⟩ : ∃ W1, W1 = w.alloc (.cells #[.int .u8 (tos.toNat : Int), .int .u16 (id.toNat : Int), .bool D, .bool M, .int .u16 (fo.toNat : Int), .int .u8 (ttl.toNat : Int), .int .u8 (pr.toNat : Int), .int .u32 (s.toNat : Int), .int .u32 (d.toNat : Int), .slice A1 os.length c1, .slice A2 xs.length c2] 36) := ⟨_, rfl⟩
  have hB1 : Below w.heap.size w W1 := by subst hW1; exact bnextA (Below.refl _ _) _
  have hK1 : Blk W1 w.heap.size [.int .u8 (tos.toNat : Int), .int .u16 (id.toNat : Int), .bool D, .bool M, .int .u16 (fo.toNat : Int), .int .u8 (ttl.toNat : Int), .int .u8 (pr.toNat : Int), .int .u32 (s.toNat : Int), .int .u32 (d.toNat : Int), .slice A1 os.length c1, .slice A2 xs.length c2] 36 := by subst hW1; exact Blk.new _ _ _
  have HS : ∀ W, Below W1.heap.size W1 W → (W.cell? ⟨w.heap.size, 0, none⟩ = some (.int .u8 (tos.toNat : Int)) ∧ W.cell? ⟨w.heap.size, 1, none⟩ = some (.int .u16 (id.toNat : Int)) ∧ W.cell? ⟨w.heap.size, 2, none⟩ = some (.bool D) ∧ W.cell? ⟨w.heap.size, 3, none⟩ = some (.bool M) ∧ W.cell? ⟨w.heap.size, 4, none⟩ = some (.int .u16 (fo.toNat : Int)) ∧ W.cell? ⟨w.heap.size, 5, none⟩ = some (.int .u8 (ttl.toNat : Int)) ∧ W.cell? ⟨w.heap.size, 6, none⟩ = some (.int .u8 (pr.toNat : Int)) ∧ W.cell? ⟨w.heap.size, 7, none⟩ = some (.int .u32 (s.toNat : Int)) ∧ W.cell? ⟨w.heap.size, 8, none⟩ = some (.int .u32 (d.toNat : Int)) ∧ W.cell? ⟨w.heap.size, 9, none⟩ = some (.slice A1 os.length c1) ∧ W.cell? ⟨w.heap.size, 10, none⟩ = some (.slice A2 xs.length c2)) := by
    intro W h
    obtain ⟨p0, p1, p2, p3, p4, p5, p6, p7, p8, p9, p10, -⟩ := (hK1.next h).get11
    exact ⟨p0, p1, p2, p3, p4, p5, p6, p7, p8, p9, p10⟩
  replace ho := ho.next hB1
  replace hx := hx.next hB1
  have hle : N ≤ 65535 := by rw [← hN]; exact onesN_le _
  have HN := fun (_ : Unit) => Lib.hid hN
  have HC := fun W => Lib.hid (pcheck_ok tos id D M fo ttl pr s d A1 A2 os.length c1 xs.length c2 W h1 h2 h3 h4)
  have HH := fun W (g1 : Rd bv W W.heap.size A1 c1 os) => Lib.hid (phead_any tos id D M fo ttl pr s d A1 A2 c1 c2 os xs W g1 h1 h2 h3 h4 h hh)
  clear hN
  go_enter Try.func10, Try.ntmps10
  go_wp2_with fail
  rw [← hW1]
  clear hW1
  refine (HC _).out.mono ?_
  rintro e w0 ⟨rfl, hbel⟩
  obtain ⟨p0, p1, p2, p3, p4, p5, p6, p7, p8, p9, p10⟩ := HS _ hbel
  replace hB1 := bnext hB1 hbel
  replace ho := ho.next hbel
  replace hx := hx.next hbel
  replace hK1 := hK1.next hbel
  clear hbel HC HS
  go_wp2_with fail
  refine (HH _ ho).out.mono ?_
  rintro e w2 ⟨L, A, c, rfl, HL, hr, hbel⟩
  replace hB1 := bnext hB1 hbel
  replace hx := hx.next hbel
  replace hK1 := hK1.next hbel
  clear hbel HH ho p0 p1 p2 p3 p4 p5 p6 p7 p8 p9 p10
  go_wp2_with fail
  refine (sof_any _ _ _ 1 [L] N (parts_at _ rfl (.cons hr .nil) _ rfl _) rfl (by omega) (by omega) (by simp [HL.out, ih_len]; omega) (by rw [← (HN ()).out, HL.out]; simp)).mono ?_
  rintro e w4 ⟨rfl, hbel⟩
  replace hB1 := bnext (bnextA hB1 _) hbel
  replace hr := (hr.nextA _).next hbel
  replace hx := (hx.nextA _).next hbel
  replace hK1 := (hK1.alloc _).next hbel
  clear hbel HN
  have hs := set16_yes A c L 10 (UInt16.ofNat (65535 - N)) _ hr (by rw [HL.out, ih_len]; omega) (by rw [HL.out, ih_len]; omega)
  rw [UInt16.ofNat_id _ (by omega)] at hs
  have HSET := Lib.hid hs
  clear hs
  go_wp2_with fail
  refine HSET.out.mono ?_
  rintro e w5 ⟨v5, rfl, hown, hbel⟩
  obtain ⟨L5, A5, c5, HL5, rfl, r5⟩ := hown.rdv
  have HL5' : Hid (L5 = ih h tos (20 + os.length + xs.length) id (wdN D M fo) ttl pr (65535 - N) s d os) := by rw [Hid, HL5.out, HL.out]; exact ih_set h tos _ id _ ttl pr (65535 - N) (by omega) s d os
  replace hB1 := bnext hB1 hbel
  replace hx := hx.next hbel
  replace hK1 := hK1.next hbel
  obtain ⟨p0, p1, p2, p3, p4, p5, p6, p7, p8, p9, p10, -⟩ := hK1.get11
  clear hbel hr HSET HL5 hown hK1
  go_wp2_with fail
  refine (join_any _ _ _ 2 [L5, xs] (parts_at _ rfl (.cons r5 (.cons hx .nil)) _ rfl _) rfl (by omega) (by omega) (by simp [HL5'.out, ih_len]; omega)).mono ?_
  rintro e w6 ⟨L6, A6, c6, rfl, HL6, r6, hbel⟩
  replace hB1 := bnext (bnextA hB1 _) hbel
  go_wp2_with fail
  go_ret2
  exact ⟨L6, A6, c6, rfl, by rw [Hid, HL6.out, HL5'.out]; simp, r6, hB1⟩
end Go.Proofs.Ytpibempfhgaomaa
