/- What ipv4.Put put is read again by ipv4.Parse, whatever stands behind. -/
import Derived.Test.YtpibempfhgaomaaIp2
import Derived.Test.YtpibempfhgaomaaIp4
namespace Go.Proofs.Ytpibempfhgaomaa
open Go.RowKit

theorem be16_two (x : UInt16) : beN (be16 x) = x.toNat := by
  have := x.toNat_lt
  rw [be16, beN_two]
  simp
  omega
theorem be32_four (x : UInt32) : beN (be32 x) = x.toNat := by
  have := x.toNat_lt
  rw [be32, beN_four]
  simp
  omega
theorem two_nat (n : Nat) (h : n ≤ 65535) : beN (be16 (UInt16.ofNat n)) = n := by rw [be16_two, UInt16.ofNat_id n h]
theorem ih_ones (h tos : UInt8) (all : Nat) (id : UInt16) (wd : Nat) (ttl pr : UInt8) (s d : UInt32) (os : List UInt8) (N : Nat) (hN : onesN (ih h tos all id wd ttl pr 0 s d os) = N) : onesN (ih h tos all id wd ttl pr (65535 - N) s d os) = 65535 := by
  have hle : N ≤ 65535 := by rw [← hN]; exact onesN_le _
  have h1 := fills_right ([h, tos] ++ (be16 (UInt16.ofNat all) ++ (be16 id ++ (be16 (UInt16.ofNat wd) ++ [ttl, pr])))) (be32 s ++ (be32 d ++ os)) (65535 - N) (by simp [be16]) (by rw [← hN]; simp [ih, be16])
  rw [show (65535 - N) / 256 % 256 = (65535 - N) / 256 by omega] at h1
  refine Eq.trans (congrArg onesN ?_) h1
  rw [ih, be16_ofNat (65535 - N) (by omega)]
  simp
theorem wdN_le (D M : Bool) (fo : UInt16) (h : fo.toNat ≤ 8191) : wdN D M fo < 32768 ∧ decide (16384 ≤ wdN D M fo) = D ∧ decide (wdN D M fo / 8192 % 2 = 1) = M ∧ wdN D M fo % 8192 = fo.toNat := by
  generalize hF : fo.toNat = F at h
  unfold wdN
  rewrite [hF]
  cases D <;> cases M
  · simp only [Bool.false_eq_true, if_false]
    exact ⟨by omega, decide_eq_false (by omega), decide_eq_false (by omega), by omega⟩
  · simp only [Bool.false_eq_true, if_false, if_true]
    exact ⟨by omega, decide_eq_false (by omega), decide_eq_true (by omega), by omega⟩
  · simp only [Bool.false_eq_true, if_false, if_true]
    exact ⟨by omega, decide_eq_true (by omega), decide_eq_false (by omega), by omega⟩
  · simp only [if_true]
    exact ⟨by omega, decide_eq_true (by omega), decide_eq_true (by omega), by omega⟩
theorem pparse_put (tos : UInt8) (id : UInt16) (D M : Bool) (fo : UInt16) (ttl pr : UInt8) (s d : UInt32) (os xs zs P : List UInt8) (h : UInt8) (N : Nat) (h1 : os.length ≤ 40) (h2 : os.length % 4 = 0) (h3 : fo.toNat ≤ 8191) (h4 : 20 + os.length + xs.length ≤ 65535) (hz : zs.length ≤ 1000) (hh : h.toNat = 69 + os.length / 4)
    (hN : onesN (ih h tos (20 + os.length + xs.length) id (wdN D M fo) ttl pr 0 s d os) = N) (hP : P = ih h tos (20 + os.length + xs.length) id (wdN D M fo) ttl pr (65535 - N) s d os ++ (xs ++ zs)) (A : Option Addr) (c : Nat) (w : World) (hrd : Rd bv w w.heap.size A c P) :
    Calls Try.prog 18 #[.slice A P.length c] w fun e w' => ∃ Lo Ao co Lx Ax cx, e = .returned (.tuple #[.agg #[.int .u8 (tos.toNat : Int), .int .u16 (id.toNat : Int), .bool D, .bool M, .int .u16 (fo.toNat : Int), .int .u8 (ttl.toNat : Int), .int .u8 (pr.toNat : Int), .int .u32 (s.toNat : Int), .int .u32 (d.toNat : Int), .slice Ao Lo.length co, .slice Ax Lx.length cx], .int .i64 0]) ∧ Hid (Lo = os) ∧ Hid (Lx = xs) ∧ Rd bv w' w'.heap.size Ao co Lo ∧ Rd bv w' w'.heap.size Ax cx Lx ∧ Below w.heap.size w w' := by
  obtain ⟨w1, w2, w3, w4⟩ := wdN_le D M fo h3
  obtain ⟨wd, hwd⟩ : ∃ wd, wdN D M fo = wd := ⟨_, rfl⟩
  rw [hwd] at w1 w2 w3 w4 hN hP
  have hlen : P.length = 20 + os.length + xs.length + zs.length := by rw [hP, List.length_append, ih_len, List.length_append]; omega
  have hIH : (ih h tos (20 + os.length + xs.length) id wd ttl pr (65535 - N) s d os).length = 20 + os.length := ih_len _ _ _ _ _ _ _ _ _ _ _
  have e0 : P[0] = h := (List.getElem_of_eq hP _).trans rfl
  have e1 : P[1] = tos := (List.getElem_of_eq hP _).trans rfl
  have e8 : P[8] = ttl := (List.getElem_of_eq hP _).trans rfl
  have e9 : P[9] = pr := (List.getElem_of_eq hP _).trans rfl
  have g2 : beN ((P.drop 2).take 2) = 20 + os.length + xs.length := by rw [hP]; exact two_nat _ h4
  have g4 : beN ((P.drop 4).take 2) = id.toNat := by rw [hP]; exact be16_two id
  have g6 : beN ((P.drop 6).take 2) = wd := by rw [hP]; exact two_nat wd (by omega)
  have g12 : beN ((P.drop 12).take 4) = s.toNat := by rw [hP]; exact be32_four s
  have g16 : beN ((P.drop 16).take 4) = d.toNat := by rw [hP]; exact be32_four d
  have ht : P.take (4 * (5 + os.length / 4)) = ih h tos (20 + os.length + xs.length) id wd ttl pr (65535 - N) s d os := by
    rw [show 4 * (5 + os.length / 4) = 20 + os.length by omega, hP, List.take_left' hIH]
  have hon : onesN (P.take (4 * (5 + os.length / 4))) = 65535 := by rw [ht]; exact ih_ones h tos _ id wd ttl pr s d os N hN
  have hc := pparse_ok A c P w hrd (by omega) (5 + os.length / 4) (by rw [e0, hh]; omega) (by omega) (by omega) (by omega) hon wd (20 + os.length + xs.length) g6 g2 w1 (by omega) (by omega) (by omega) tos id D M fo ttl pr s d e1 g4 w2 w3 w4 e8 e9 g12 g16
  have k20 : (P.drop 20).take (4 * (5 + os.length / 4) - 20) = os := by
    rw [show 4 * (5 + os.length / 4) - 20 = os.length by omega, hP]
    exact List.take_left' rfl
  have kd : P.drop (4 * (5 + os.length / 4)) = xs ++ zs := by
    rw [show 4 * (5 + os.length / 4) = 20 + os.length by omega, hP, List.drop_left' hIH]
  have kx : (P.drop (4 * (5 + os.length / 4))).take (20 + os.length + xs.length - 4 * (5 + os.length / 4)) = xs := by
    rw [kd, show 20 + os.length + xs.length - 4 * (5 + os.length / 4) = xs.length by omega, List.take_left' rfl]
  rw [k20, kx] at hc
  exact hc
end Go.Proofs.Ytpibempfhgaomaa
