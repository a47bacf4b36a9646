/- Bytes that begin with a packet, or with none: which facts hold then, and what all three readers answer. -/
import Derived.Test.YtpibempfhgaomaaIp5
import Derived.Test.YtpibempfhgaomaaIp6
namespace Go.Proofs.Ytpibempfhgaomaa
open Go.RowKit

theorem ip_u16 (xs : List UInt8) (k : Nat) (h : k + 2 ≤ xs.length) : ∃ a : UInt16, beN ((xs.drop k).take 2) = a.toNat := by
  refine ⟨UInt16.ofNat (beN ((xs.drop k).take 2)), ?_⟩
  rw [UInt16.ofNat_id _ (two_lt xs k h)]
theorem ip_u32 (xs : List UInt8) (k : Nat) : ∃ a : UInt32, beN ((xs.drop k).take 4) = a.toNat := by
  refine ⟨UInt32.ofNat (beN ((xs.drop k).take 4)), ?_⟩
  have := beN_lt ((xs.drop k).take 4)
  simp
  omega
/-- What holds of bytes that begin with a packet. -/
structure IpOk (xs : List UInt8) (m fl al : Nat) (tos : UInt8) (id : UInt16) (D M : Bool) (fo : UInt16) (ttl pr : UInt8) (s d : UInt32) : Prop where
  h20 : 20 ≤ xs.length
  hm : (xs[0]).toNat = 64 + m
  hm5 : 5 ≤ m
  hm15 : m ≤ 15
  hl : 4 * m ≤ xs.length
  hN : onesN (xs.take (4 * m)) = 65535
  hfl : beN ((xs.drop 6).take 2) = fl
  hal : beN ((xs.drop 2).take 2) = al
  hhi : fl < 32768
  hla : 4 * m ≤ al
  hov : al ≤ xs.length
  ht : xs[1] = tos
  hi : beN ((xs.drop 4).take 2) = id.toNat
  hD : decide (16384 ≤ fl) = D
  hM : decide (fl / 8192 % 2 = 1) = M
  hf : fl % 8192 = fo.toNat
  hl8 : xs[8] = ttl
  hl9 : xs[9] = pr
  hs : beN ((xs.drop 12).take 4) = s.toNat
  hd : beN ((xs.drop 16).take 4) = d.toNat
theorem IpOk.parse {xs : List UInt8} {m fl al : Nat} {tos : UInt8} {id : UInt16} {D M : Bool} {fo : UInt16} {ttl pr : UInt8} {s d : UInt32} (h : IpOk xs m fl al tos id D M fo ttl pr s d) (hxl : xs.length ≤ 1000000) (A : Option Addr) (c : Nat) (w : World) (hr : Rd bv w w.heap.size A c xs) :
    Calls Try.prog 18 #[.slice A xs.length c] w fun e w' => ∃ Lo Ao co Lx Ax cx, e = .returned (.tuple #[.agg #[.int .u8 (tos.toNat : Int), .int .u16 (id.toNat : Int), .bool D, .bool M, .int .u16 (fo.toNat : Int), .int .u8 (ttl.toNat : Int), .int .u8 (pr.toNat : Int), .int .u32 (s.toNat : Int), .int .u32 (d.toNat : Int), .slice Ao Lo.length co, .slice Ax Lx.length cx], .int .i64 0]) ∧ Hid (Lo = (xs.drop 20).take (4 * m - 20)) ∧ Hid (Lx = (xs.drop (4 * m)).take (al - 4 * m)) ∧ Rd bv w' w'.heap.size Ao co Lo ∧ Rd bv w' w'.heap.size Ax cx Lx ∧ Below w.heap.size w w' :=
  pparse_ok A c xs w hr h.h20 m h.hm h.hm5 h.hm15 h.hl h.hN fl al h.hfl h.hal h.hhi h.hla h.hov hxl tos id D M fo ttl pr s d h.ht h.hi h.hD h.hM h.hf h.hl8 h.hl9 h.hs h.hd
theorem IpOk.meas {xs : List UInt8} {m fl al : Nat} {tos : UInt8} {id : UInt16} {D M : Bool} {fo : UInt16} {ttl pr : UInt8} {s d : UInt32} (h : IpOk xs m fl al tos id D M fo ttl pr s d) (hxl : xs.length ≤ 1000000) (A : Option Addr) (c : Nat) (w : World) (hr : Rd bv w w.heap.size A c xs) :
    Calls Try.prog 38 #[.slice A xs.length c] w fun e w' => e = .returned (.tuple #[.int .i64 (4 * (m : Int)), .int .i64 (al : Int), .int .i64 0]) ∧ Below w.heap.size w w' :=
  pmeas_ok A c xs w hr h.h20 m h.hm h.hm5 h.hm15 h.hl h.hN fl al h.hfl h.hal h.hhi h.hla h.hov hxl

theorem be16_back (xs : List UInt8) (k : Nat) (h : k + 2 ≤ xs.length) (n : Nat) (ha : beN ((xs.drop k).take 2) = n) : be16 (UInt16.ofNat n) = (xs.drop k).take 2 := by
  rw [take_two xs k h] at ha ⊢
  rw [beN_two] at ha
  have hx := (xs[k]).toNat_lt
  have hy := (xs[k + 1]).toNat_lt
  rw [be16_ofNat n (by omega), ← ha]
  have e1 : UInt8.ofNat (((xs[k]).toNat * 256 + (xs[k + 1]).toNat) / 256) = xs[k] := UInt8.toNat_inj.1 (by simp; try omega)
  have e2 : UInt8.ofNat (((xs[k]).toNat * 256 + (xs[k + 1]).toNat) % 256) = xs[k + 1] := UInt8.toNat_inj.1 (by simp; try omega)
  rw [e1, e2]
theorem be16_backU (xs : List UInt8) (k : Nat) (h : k + 2 ≤ xs.length) (a : UInt16) (ha : beN ((xs.drop k).take 2) = a.toNat) : be16 a = (xs.drop k).take 2 := by
  have := be16_back xs k h a.toNat ha
  rwa [show UInt16.ofNat a.toNat = a by simp] at this
theorem be32_backU (xs : List UInt8) (k : Nat) (h : k + 4 ≤ xs.length) (a : UInt32) (ha : beN ((xs.drop k).take 4) = a.toNat) : be32 a = (xs.drop k).take 4 := by
  rw [take_four xs k h] at ha ⊢
  rw [beN_four] at ha
  have h0 := (xs[k]).toNat_lt
  have h1 := (xs[k + 1]).toNat_lt
  have h2 := (xs[k + 2]).toNat_lt
  have h3 := (xs[k + 3]).toNat_lt
  rw [be32, ← ha]
  generalize xs[k] = x0 at *
  generalize xs[k + 1] = x1 at *
  generalize xs[k + 2] = x2 at *
  generalize xs[k + 3] = x3 at *
  have e0 : UInt8.ofNat ((x0.toNat * 16777216 + x1.toNat * 65536 + x2.toNat * 256 + x3.toNat) / 16777216) = x0 := UInt8.toNat_inj.1 (by simp; try omega)
  have e1 : UInt8.ofNat ((x0.toNat * 16777216 + x1.toNat * 65536 + x2.toNat * 256 + x3.toNat) / 65536 % 256) = x1 := UInt8.toNat_inj.1 (by simp; try omega)
  have e2 : UInt8.ofNat ((x0.toNat * 16777216 + x1.toNat * 65536 + x2.toNat * 256 + x3.toNat) / 256 % 256) = x2 := UInt8.toNat_inj.1 (by simp; try omega)
  have e3 : UInt8.ofNat ((x0.toNat * 16777216 + x1.toNat * 65536 + x2.toNat * 256 + x3.toNat) % 256) = x3 := UInt8.toNat_inj.1 (by simp; try omega)
  rw [e0, e1, e2, e3]
theorem dt_split (xs : List UInt8) (i j n : Nat) (h : j ≤ n) : (xs.drop i).take n = (xs.drop i).take j ++ (xs.drop (i + j)).take (n - j) := by
  rw [show n = j + (n - j) by omega, List.take_add, List.drop_drop]
  simp
/-- The head of bytes that begin with a packet, with the sum S that stands there. -/
theorem ip_head {xs : List UInt8} {m fl al : Nat} {tos : UInt8} {id : UInt16} {D M : Bool} {fo : UInt16} {ttl pr : UInt8} {s d : UInt32} (h : IpOk xs m fl al tos id D M fo ttl pr s d) (S : Nat) (hS : beN ((xs.drop 10).take 2) = S) :
    xs.take (4 * m) = ih (xs[0]'(by have := h.h20; omega)) tos al id fl ttl pr S s d ((xs.drop 20).take (4 * m - 20)) := by
  obtain ⟨h20, hm, hm5, hm15, hl, hN, hfl, hal, hhi, hla, hov, ht, hi, hD, hM, hf, hl8, hl9, hs, hd⟩ := h
  rw [ih, be16_back xs 2 (by omega) al hal, be16_backU xs 4 (by omega) id hi, be16_back xs 6 (by omega) fl hfl, be16_back xs 10 (by omega) S hS, be32_backU xs 12 (by omega) s hs, be32_backU xs 16 (by omega) d hd]
  subst ht hl8 hl9
  have e0 : [xs[0], xs[1]] = (xs.drop 0).take 2 := (take_two xs 0 (by omega)).symm
  have e8 : [xs[8], xs[9]] = (xs.drop 8).take 2 := (take_two xs 8 (by omega)).symm
  rw [e0, e8]
  have s0 := dt_split xs 0 2 (4 * m) (by omega)
  have s2 := dt_split xs 2 2 (4 * m - 2) (by omega)
  have s4 := dt_split xs 4 2 (4 * m - 4) (by omega)
  have s6 := dt_split xs 6 2 (4 * m - 6) (by omega)
  have s8 := dt_split xs 8 2 (4 * m - 8) (by omega)
  have s10 := dt_split xs 10 2 (4 * m - 10) (by omega)
  have s12 := dt_split xs 12 4 (4 * m - 12) (by omega)
  have s16 := dt_split xs 16 4 (4 * m - 16) (by omega)
  simp only [Nat.reduceAdd, Nat.sub_sub, Nat.zero_add] at s0 s2 s4 s6 s8 s10 s12 s16
  rw [← s16, ← s12, ← s10, ← s8, ← s6, ← s4, ← s2, ← s0, List.drop_zero]
/-- The sum of a head: what stands ahead and behind, the word of the time to live, the sum itself. -/
def ipA (h tos : UInt8) (al : Nat) (id : UInt16) (fl : Nat) : Nat := wsum ([h, tos] ++ (be16 (UInt16.ofNat al) ++ (be16 id ++ be16 (UInt16.ofNat fl))))
def ipB (s d : UInt32) (os : List UInt8) : Nat := wsum (be32 s ++ (be32 d ++ os))
theorem ip_wsum (h tos : UInt8) (al : Nat) (id : UInt16) (fl : Nat) (ttl pr : UInt8) (s d : UInt32) (os : List UInt8) (x : Nat) (hx : x ≤ 65535) : wsum (ih h tos al id fl ttl pr x s d os) = ipA h tos al id fl + (ttl.toNat * 256 + pr.toNat) + x + ipB s d os := by
  have e : ih h tos al id fl ttl pr x s d os = ([h, tos] ++ (be16 (UInt16.ofNat al) ++ (be16 id ++ be16 (UInt16.ofNat fl)))) ++ (ttl :: pr :: (UInt8.ofNat (x / 256) :: UInt8.ofNat (x % 256) :: (be32 s ++ (be32 d ++ os)))) := by
    rw [ih, be16_ofNat x hx]; simp
  have e1 : (UInt8.ofNat (x / 256)).toNat = x / 256 := by simp; omega
  have e2 : (UInt8.ofNat (x % 256)).toNat = x % 256 := by simp
  rw [e, wsum_pair _ _ _ _ (by simp [be16]), show wsum (UInt8.ofNat (x / 256) :: UInt8.ofNat (x % 256) :: (be32 s ++ (be32 d ++ os))) = (UInt8.ofNat (x / 256)).toNat * 256 + (UInt8.ofNat (x % 256)).toNat + ipB s d os from rfl, e1, e2]
  rw [show wsum ([h, tos] ++ (be16 (UInt16.ofNat al) ++ (be16 id ++ be16 (UInt16.ofNat fl)))) = ipA h tos al id fl from rfl]
  omega
theorem ipA_pos (h tos : UInt8) (al : Nat) (id : UInt16) (fl : Nat) (hh : 0 < h.toNat) : 0 < ipA h tos al id fl := by
  have : ipA h tos al id fl = h.toNat * 256 + tos.toNat + wsum (be16 (UInt16.ofNat al) ++ (be16 id ++ be16 (UInt16.ofNat fl))) := rfl
  omega
/-- A sum that is right, and isn't 65535, is that of the head with 0 in its place. -/
theorem ih_back (h tos : UInt8) (al : Nat) (id : UInt16) (fl : Nat) (ttl pr : UInt8) (s d : UInt32) (os : List UInt8) (S N : Nat) (hh : 0 < h.toNat) (hS : S < 65535) (hN : onesN (ih h tos al id fl ttl pr 0 s d os) = N) (h1 : onesN (ih h tos al id fl ttl pr S s d os) = 65535) : 65535 - N = S := by
  have hp := ipA_pos h tos al id fl hh
  unfold onesN at hN h1
  rw [ip_wsum _ _ _ _ _ _ _ _ _ _ _ (by omega)] at hN h1
  generalize ipA h tos al id fl = R at *
  generalize ttl.toNat * 256 + pr.toNat = T at *
  generalize ipB s d os = Q at *
  have g := (foldN_full _).1 h1
  have g1 := foldN_mod (R + T + 0 + Q)
  have g2 := foldN_zero (R + T + 0 + Q)
  have g3 := foldN_le (R + T + 0 + Q)
  rw [hN] at g1 g2 g3
  omega
theorem turn_arith (R T S Q X F : Nat) (hp : 0 < R) (hS : S ≤ 65535) (hT : T ≤ 65535) (hX : X ≤ 65535) (g3 : F ≤ 65535) (g1 : F % 65535 = (65535 - S + (65535 - T) + X) % 65535) (h1 : (R + T + S + Q) % 65535 = 0) : (R + X + (65535 - F) + Q) % 65535 = 0 ∧ R + X + (65535 - F) + Q ≠ 0 := by
  omega
theorem word_le (x y : UInt8) : x.toNat * 256 + y.toNat ≤ 65535 := by
  have := x.toNat_lt
  have := y.toNat_lt
  omega
/-- A head's sum, turned with its time to live, is right. -/
theorem ih_turn (h tos : UInt8) (al : Nat) (id : UInt16) (fl : Nat) (ttl pr : UInt8) (s d : UInt32) (os : List UInt8) (S F : Nat) (t : UInt8) (hh : 0 < h.toNat) (hS : S ≤ 65535) (hF : foldN (65535 - S + (65535 - (ttl.toNat * 256 + pr.toNat)) + (t.toNat * 256 + pr.toNat)) = F) (h1 : onesN (ih h tos al id fl ttl pr S s d os) = 65535) : onesN (ih h tos al id fl t pr (65535 - F) s d os) = 65535 := by
  have g3 := foldN_le (65535 - S + (65535 - (ttl.toNat * 256 + pr.toNat)) + (t.toNat * 256 + pr.toNat))
  have g1 := foldN_mod (65535 - S + (65535 - (ttl.toNat * 256 + pr.toNat)) + (t.toNat * 256 + pr.toNat))
  rw [hF] at g1 g3
  unfold onesN at h1 ⊢
  rw [ip_wsum _ _ _ _ _ _ _ _ _ _ _ hS] at h1
  rw [ip_wsum _ _ _ _ _ _ _ _ _ _ _ (Nat.sub_le _ _)]
  exact (foldN_full _).2 (turn_arith _ _ S _ _ F (ipA_pos h tos al id fl hh) hS (word_le ttl pr) (word_le t pr) g3 g1 ((foldN_full _).1 h1).1)
theorem ipok_ih (h tos : UInt8) (al : Nat) (id : UInt16) (wd : Nat) (ttl pr : UInt8) (S : Nat) (s d : UInt32) (os dat P : List UInt8) (m : Nat) (fo : UInt16) (D M : Bool) (hm : h.toNat = 64 + m) (hm5 : 5 ≤ m) (hm15 : m ≤ 15) (hos : os.length = 4 * m - 20) (hP : P = ih h tos al id wd ttl pr S s d os ++ dat) (hal : al ≤ 65535) (hla : 4 * m ≤ al) (hov : al ≤ 4 * m + dat.length) (hwd : wd < 32768)
    (hD : decide (16384 ≤ wd) = D) (hM : decide (wd / 8192 % 2 = 1) = M) (hf : wd % 8192 = fo.toNat) (hN : onesN (ih h tos al id wd ttl pr S s d os) = 65535) : IpOk P m wd al tos id D M fo ttl pr s d := by
  have hIH : (ih h tos al id wd ttl pr S s d os).length = 4 * m := by rw [ih_len]; omega
  have hlen : P.length = 4 * m + dat.length := by rw [hP, List.length_append, hIH]
  have h20 : 20 ≤ P.length := by omega
  have e0 : P[0] = h := (List.getElem_of_eq hP _).trans rfl
  refine ⟨h20, by rw [e0]; exact hm, hm5, hm15, by omega, ?_, ?_, ?_, hwd, hla, by omega, (List.getElem_of_eq hP _).trans rfl, ?_, hD, hM, hf, (List.getElem_of_eq hP _).trans rfl, (List.getElem_of_eq hP _).trans rfl, ?_, ?_⟩
  · rw [hP, List.take_left' hIH]; exact hN
  · rw [hP]; exact two_nat wd (by omega)
  · rw [hP]; exact two_nat al hal
  · rw [hP]; exact be16_two id
  · rw [hP]; exact be32_four s
  · rw [hP]; exact be32_four d
theorem wdN_of (fl : Nat) (D M : Bool) (fo : UInt16) (hhi : fl < 32768) (hD : decide (16384 ≤ fl) = D) (hM : decide (fl / 8192 % 2 = 1) = M) (hf : fl % 8192 = fo.toNat) : wdN D M fo = fl := by
  generalize hF : fo.toNat = F at hf
  unfold wdN
  rewrite [hF]
  cases D <;> cases M
  · have h1 := of_decide_eq_false hD
    have h2 := of_decide_eq_false hM
    simp only [Bool.false_eq_true, if_false]
    omega
  · have h1 := of_decide_eq_false hD
    have h2 := of_decide_eq_true hM
    simp only [Bool.false_eq_true, if_false, if_true]
    omega
  · have h1 := of_decide_eq_true hD
    have h2 := of_decide_eq_false hM
    simp only [Bool.false_eq_true, if_false, if_true]
    omega
  · have h1 := of_decide_eq_true hD
    have h2 := of_decide_eq_true hM
    simp only [if_true]
    omega
end Go.Proofs.Ytpibempfhgaomaa
