/- Contracts of ipv4's measure and Parse. -/
import Derived.Test.YtpibempfhgaomaaIp1
import Derived.BigRegion
namespace Go.Proofs.Ytpibempfhgaomaa
open Go.RowKit

theorem get16_b (A : Option Addr) (c : Nat) (bs : List UInt8) (k : Nat) (K : Int) (n : Nat) (hK : K = (k : Int)) (w : World) (hb : Rd bv w w.heap.size A c bs) (h : k + 2 ≤ bs.length) (hn : beN ((bs.drop k).take 2) = n) :
    Calls Try.prog 39 #[.slice A bs.length c, .int .i64 K] w fun e w' => e = .returned (.tuple #[.int .u16 (n : Int), .bool true]) ∧ Below w.heap.size w w' := by
  subst hK hn
  exact (get16_yes A c bs k w _ hb h).mono fun e w' ⟨he, j, hw⟩ => ⟨he, by subst hw; exact below_drewN (Below.refl _ _) j⟩
theorem get32_b (A : Option Addr) (c : Nat) (bs : List UInt8) (k : Nat) (K : Int) (n : Nat) (hK : K = (k : Int)) (w : World) (hb : Rd bv w w.heap.size A c bs) (h : k + 4 ≤ bs.length) (hn : beN ((bs.drop k).take 4) = n) :
    Calls Try.prog 25 #[.slice A bs.length c, .int .i64 K] w fun e w' => e = .returned (.tuple #[.int .u32 (n : Int), .bool true]) ∧ Below w.heap.size w w' := by
  subst hK hn
  exact (get32_yes A c bs k w _ hb h).mono fun e w' ⟨he, j, hw⟩ => ⟨he, by subst hw; exact below_drewN (Below.refl _ _) j⟩
theorem two_lt (xs : List UInt8) (k : Nat) (h : k + 2 ≤ xs.length) : beN ((xs.drop k).take 2) ≤ 65535 := by
  rw [take_two xs k h, beN_two]
  have := (xs[k]).toNat_lt
  have := (xs[k + 1]).toNat_lt
  omega
theorem and_pow (n k : Nat) : n &&& 2 ^ k = n / 2 ^ k % 2 * 2 ^ k := by
  apply Nat.eq_of_testBit_eq
  intro i
  rw [Nat.testBit_and, Nat.testBit_two_pow]
  by_cases hki : k = i
  · subst hki
    rcases Nat.mod_two_eq_zero_or_one (n / 2 ^ k) with h | h
    · rw [h]; simp [Nat.testBit_eq_decide_div_mod_eq, h]
    · rw [h, Nat.one_mul, Nat.testBit_two_pow]; simp [Nat.testBit_eq_decide_div_mod_eq, h]
  · rcases Nat.mod_two_eq_zero_or_one (n / 2 ^ k) with h | h
    · rw [h]; simp [hki]
    · rw [h, Nat.one_mul, Nat.testBit_two_pow]; simp [hki]
theorem and_hi (n : Nat) (h : n ≤ 65535) : bits BinOp.and IntKind.u16 (n : Int) 32768 = ((n / 32768 * 32768 : Nat) : Int) := by
  rw [show (32768 : Int) = ((32768 : Nat) : Int) from rfl, u16_and_nat _ _ (by omega) (by omega)]
  congr 1
  have := and_pow n 15
  rw [show (2 : Nat) ^ 15 = 32768 from rfl] at this
  rw [this]; omega
theorem and_df (n : Nat) (h : n ≤ 65535) : bits BinOp.and IntKind.u16 (n : Int) 16384 = ((n / 16384 % 2 * 16384 : Nat) : Int) := by
  rw [show (16384 : Int) = ((16384 : Nat) : Int) from rfl, u16_and_nat _ _ (by omega) (by omega)]
  congr 1
  exact and_pow n 14
theorem and_mf (n : Nat) (h : n ≤ 65535) : bits BinOp.and IntKind.u16 (n : Int) 8192 = ((n / 8192 % 2 * 8192 : Nat) : Int) := by
  rw [show (8192 : Int) = ((8192 : Nat) : Int) from rfl, u16_and_nat _ _ (by omega) (by omega)]
  congr 1
  exact and_pow n 13
theorem and_off (n : Nat) (h : n ≤ 65535) : bits BinOp.and IntKind.u16 (n : Int) 8191 = ((n % 8192 : Nat) : Int) := by
  rw [show (8191 : Int) = ((8191 : Nat) : Int) from rfl, u16_and_nat _ _ (by omega) (by omega)]
  congr 1
  exact Nat.and_two_pow_sub_one_eq_mod n 13

set_option maxHeartbeats 2000000 in
theorem pmeas_short (A : Option Addr) (c : Nat) (xs : List UInt8) (w : World) (hr : Rd bv w w.heap.size A c xs) (h20 : xs.length < 20) :
    Calls Try.prog 38 #[.slice A xs.length c] w fun e w' => e = .returned (.tuple #[.int .i64 0, .int .i64 0, .int .i64 4]) ∧ Below w.heap.size w w' := by
  have hlc := hr.len
  have hcc := hr.cap
  go_enter Try.func38, Try.ntmps38
  go_wp2_with fail
  simp [bodyPost, results, Try.results38, go_sem]
  try exact Below.refl _ _

set_option maxHeartbeats 2000000 in
theorem pmeas_form0 (A : Option Addr) (c : Nat) (xs : List UInt8) (w : World) (hr : Rd bv w w.heap.size A c xs) (h20 : 20 ≤ xs.length) (hm : (xs[0]).toNat < 69) :
    Calls Try.prog 38 #[.slice A xs.length c] w fun e w' => e = .returned (.tuple #[.int .i64 0, .int .i64 0, .int .i64 3]) ∧ Below w.heap.size w w' := by
  have hlc := hr.len
  have hcc := hr.cap
  obtain ⟨b0, off, rfl, hB0, hcell⟩ := byt_at hr (k := 0) (by omega)
  have k0 := hcell 0 (by omega)
  simp only [Nat.add_zero] at k0
  have hx0 := (xs[0]).toNat_lt
  have i0 : (0 : Int) < (xs.length : Int) := by omega
  generalize xs[0] = x0 at *
  have d1 : decide ((x0.toNat : Int) < 69) = true := by simp; omega
  clear hcell hr hm
  go_enter Try.func38, Try.ntmps38
  go_wp2_with fail
  simp [bodyPost, results, Try.results38, go_sem]
  try exact Below.refl _ _

set_option maxHeartbeats 2000000 in
theorem pmeas_form1 (A : Option Addr) (c : Nat) (xs : List UInt8) (w : World) (hr : Rd bv w w.heap.size A c xs) (h20 : 20 ≤ xs.length) (hm : 79 < (xs[0]).toNat) :
    Calls Try.prog 38 #[.slice A xs.length c] w fun e w' => e = .returned (.tuple #[.int .i64 0, .int .i64 0, .int .i64 3]) ∧ Below w.heap.size w w' := by
  have hlc := hr.len
  have hcc := hr.cap
  obtain ⟨b0, off, rfl, hB0, hcell⟩ := byt_at hr (k := 0) (by omega)
  have k0 := hcell 0 (by omega)
  simp only [Nat.add_zero] at k0
  have hx0 := (xs[0]).toNat_lt
  have i0 : (0 : Int) < (xs.length : Int) := by omega
  generalize xs[0] = x0 at *
  have d1 : decide ((x0.toNat : Int) < 69) = false := by simp; omega
  have d2 : decide ((79 : Int) < (x0.toNat : Int)) = true := by simp; omega
  clear hcell hr hm
  go_enter Try.func38, Try.ntmps38
  go_wp2_with fail
  simp [bodyPost, results, Try.results38, go_sem]
  try exact Below.refl _ _

set_option maxHeartbeats 2000000 in
theorem pmeas_long (A : Option Addr) (c : Nat) (xs : List UInt8) (w : World) (hr : Rd bv w w.heap.size A c xs) (h20 : 20 ≤ xs.length) (m : Nat) (hm : (xs[0]).toNat = 64 + m) (hm5 : 5 ≤ m) (hm15 : m ≤ 15) (hl : xs.length < 4 * m) :
    Calls Try.prog 38 #[.slice A xs.length c] w fun e w' => e = .returned (.tuple #[.int .i64 0, .int .i64 0, .int .i64 4]) ∧ Below w.heap.size w w' := by
  have hlc := hr.len
  have hcc := hr.cap
  obtain ⟨b0, off, rfl, hB0, hcell⟩ := byt_at hr (k := 0) (by omega)
  have k0 := hcell 0 (by omega)
  simp only [Nat.add_zero] at k0
  have hx0 := (xs[0]).toNat_lt
  have i0 : (0 : Int) < (xs.length : Int) := by omega
  generalize xs[0] = x0 at *
  have d1 : decide ((x0.toNat : Int) < 69) = false := by simp; omega
  have d2 : decide ((79 : Int) < (x0.toNat : Int)) = false := by simp; omega
  have d3 : IntKind.u8.wrap ((x0.toNat : Int) - 64) = (m : Int) := by rw [IntKind.wrap_u8]; omega
  have d4 : (x0.toNat : Int) - 64 = (m : Int) := by omega
  clear hcell hr hm hx0
  go_enter Try.func38, Try.ntmps38
  go_wp2_with fail
  simp [bodyPost, results, Try.results38, go_sem]
  try exact Below.refl _ _

set_option maxHeartbeats 2000000 in
theorem pmeas_sum (A : Option Addr) (c : Nat) (xs : List UInt8) (w : World) (hr : Rd bv w w.heap.size A c xs) (h20 : 20 ≤ xs.length) (m : Nat) (hm : (xs[0]).toNat = 64 + m) (hm5 : 5 ≤ m) (hm15 : m ≤ 15) (hl : 4 * m ≤ xs.length) (hN : onesN (xs.take (4 * m)) ≠ 65535) :
    Calls Try.prog 38 #[.slice A xs.length c] w fun e w' => e = .returned (.tuple #[.int .i64 0, .int .i64 0, .int .i64 5]) ∧ Below w.heap.size w w' := by
  have hlc := hr.len
  have hcc := hr.cap
  obtain ⟨b0, off, rfl, hB0, hcell⟩ := byt_at hr (k := 0) (by omega)
  have k0 := hcell 0 (by omega)
  simp only [Nat.add_zero] at k0
  have hx0 := (xs[0]).toNat_lt
  have i0 : (0 : Int) < (xs.length : Int) := by omega
  have hrt : Rd bv w w.heap.size (some ⟨b0, off, none⟩) c (xs.take (4 * m)) := hr.take _
  obtain ⟨ts, hts⟩ : ∃ ts, xs.take (4 * m) = ts := ⟨_, rfl⟩
  have htl : ts.length = 4 * m := by rw [← hts]; simp; omega
  rw [hts] at hrt hN
  have hcl : 4 * (m : Int) ≤ (c : Int) := by omega
  generalize xs[0] = x0 at *
  have d1 : decide ((x0.toNat : Int) < 69) = false := by simp; omega
  have d2 : decide ((79 : Int) < (x0.toNat : Int)) = false := by simp; omega
  have d3 : IntKind.u8.wrap ((x0.toNat : Int) - 64) = (m : Int) := by rw [IntKind.wrap_u8]; omega
  have d4 : (x0.toNat : Int) - 64 = (m : Int) := by omega
  have HN := fun (_ : Unit) => Lib.hid hN
  have HT := fun (_ : Unit) => Lib.hid htl
  clear hcell hr hm hx0 hN htl hts
  go_enter Try.func38, Try.ntmps38
  go_wp2_with fail
  have hP : Parts (w.alloc (.cells #[.slice (some ⟨b0, off, none⟩) (4 * m) c] 34)) w.heap.size w.heap.size [ts] := by
    have h := parts_lit (.cons hrt .nil) #[.slice (some ⟨b0, off, none⟩) ts.length c] rfl 34
    rwa [(HT ()).out] at h
  refine (sright_no _ _ _ 1 [ts] hP rfl (by omega) (by omega) (by simp [(HT ()).out]; omega) (by simpa using (HN ()).out)).mono ?_
  rintro e w2 ⟨rfl, hbel⟩
  go_wp2_with fail
  simp [bodyPost, results, Try.results38, go_sem]
  try exact bnext (bnextA (Below.refl _ _) _) hbel

set_option maxHeartbeats 2000000 in
theorem pmeas_hi (A : Option Addr) (c : Nat) (xs : List UInt8) (w : World) (hr : Rd bv w w.heap.size A c xs) (h20 : 20 ≤ xs.length) (m : Nat) (hm : (xs[0]).toNat = 64 + m) (hm5 : 5 ≤ m) (hm15 : m ≤ 15) (hl : 4 * m ≤ xs.length) (hN : onesN (xs.take (4 * m)) = 65535) (fl al : Nat) (hfl : beN ((xs.drop 6).take 2) = fl) (hal : beN ((xs.drop 2).take 2) = al) (hhi : 32768 ≤ fl) (hxl : xs.length ≤ 1000000) :
    Calls Try.prog 38 #[.slice A xs.length c] w fun e w' => e = .returned (.tuple #[.int .i64 0, .int .i64 0, .int .i64 3]) ∧ Below w.heap.size w w' := by
  have hlc := hr.len
  have hcc := hr.cap
  obtain ⟨b0, off, rfl, hB0, hcell⟩ := byt_at hr (k := 0) (by omega)
  have k0 := hcell 0 (by omega)
  simp only [Nat.add_zero] at k0
  have hx0 := (xs[0]).toNat_lt
  have i0 : (0 : Int) < (xs.length : Int) := by omega
  have hrt : Rd bv w w.heap.size (some ⟨b0, off, none⟩) c (xs.take (4 * m)) := hr.take _
  obtain ⟨ts, hts⟩ : ∃ ts, xs.take (4 * m) = ts := ⟨_, rfl⟩
  have htl : ts.length = 4 * m := by rw [← hts]; simp; omega
  rw [hts] at hrt hN
  have hcl : 4 * (m : Int) ≤ (c : Int) := by omega
  generalize xs[0] = x0 at *
  have d1 : decide ((x0.toNat : Int) < 69) = false := by simp; omega
  have d2 : decide ((79 : Int) < (x0.toNat : Int)) = false := by simp; omega
  have d3 : IntKind.u8.wrap ((x0.toNat : Int) - 64) = (m : Int) := by rw [IntKind.wrap_u8]; omega
  have d4 : (x0.toNat : Int) - 64 = (m : Int) := by omega
  have HN := fun (_ : Unit) => Lib.hid hN
  have HT := fun (_ : Unit) => Lib.hid htl
  have hfl16 : fl ≤ 65535 := by rw [← hfl]; exact two_lt xs 6 (by omega)
  have hal16 : al ≤ 65535 := by rw [← hal]; exact two_lt xs 2 (by omega)
  have hG6 := fun W (h : Rd bv W W.heap.size (some ⟨b0, off, none⟩) c xs) => Lib.hid (get16_b (some ⟨b0, off, none⟩) c xs 6 6 fl rfl W h (by omega) hfl)
  have hG2 := fun W (h : Rd bv W W.heap.size (some ⟨b0, off, none⟩) c xs) => Lib.hid (get16_b (some ⟨b0, off, none⟩) c xs 2 2 al rfl W h (by omega) hal)
  have a1 := and_hi fl hfl16
  rw [show fl / 32768 * 32768 = 32768 by omega] at a1
  clear hcell hm hx0 hN htl hts hfl hal
  go_enter Try.func38, Try.ntmps38
  go_wp2_with fail
  have hP : Parts (w.alloc (.cells #[.slice (some ⟨b0, off, none⟩) (4 * m) c] 34)) w.heap.size w.heap.size [ts] := by
    have h := parts_lit (.cons hrt .nil) #[.slice (some ⟨b0, off, none⟩) ts.length c] rfl 34
    rwa [(HT ()).out] at h
  refine (sright_yes _ _ _ 1 [ts] hP rfl (by omega) (by omega) (by simp [(HT ()).out]; omega) (by simpa using (HN ()).out)).mono ?_
  rintro e w2 ⟨rfl, hbel⟩
  have hB := bnext (bnextA (Below.refl w.heap.size w) _) hbel
  replace hr := (hr.nextA _).next hbel
  clear hbel hP hrt HN HT
  go_wp2_with fail
  refine (hG6 _ hr).out.mono ?_
  rintro e w3 ⟨rfl, hbel⟩
  replace hB := bnext hB hbel
  replace hr := hr.next hbel
  clear hbel hG6
  go_wp2_with fail
  refine (hG2 _ hr).out.mono ?_
  rintro e w4 ⟨rfl, hbel⟩
  replace hB := bnext hB hbel
  clear hbel hG2 hr
  go_wp2_with fail
  simp [bodyPost, results, Try.results38, go_sem]
  first | done | exact hB | exact ⟨rfl, hB⟩

set_option maxHeartbeats 2000000 in
theorem pmeas_less (A : Option Addr) (c : Nat) (xs : List UInt8) (w : World) (hr : Rd bv w w.heap.size A c xs) (h20 : 20 ≤ xs.length) (m : Nat) (hm : (xs[0]).toNat = 64 + m) (hm5 : 5 ≤ m) (hm15 : m ≤ 15) (hl : 4 * m ≤ xs.length) (hN : onesN (xs.take (4 * m)) = 65535) (fl al : Nat) (hfl : beN ((xs.drop 6).take 2) = fl) (hal : beN ((xs.drop 2).take 2) = al) (hhi : fl < 32768) (hla : al < 4 * m) (hxl : xs.length ≤ 1000000) :
    Calls Try.prog 38 #[.slice A xs.length c] w fun e w' => e = .returned (.tuple #[.int .i64 0, .int .i64 0, .int .i64 3]) ∧ Below w.heap.size w w' := by
  have hlc := hr.len
  have hcc := hr.cap
  obtain ⟨b0, off, rfl, hB0, hcell⟩ := byt_at hr (k := 0) (by omega)
  have k0 := hcell 0 (by omega)
  simp only [Nat.add_zero] at k0
  have hx0 := (xs[0]).toNat_lt
  have i0 : (0 : Int) < (xs.length : Int) := by omega
  have hrt : Rd bv w w.heap.size (some ⟨b0, off, none⟩) c (xs.take (4 * m)) := hr.take _
  obtain ⟨ts, hts⟩ : ∃ ts, xs.take (4 * m) = ts := ⟨_, rfl⟩
  have htl : ts.length = 4 * m := by rw [← hts]; simp; omega
  rw [hts] at hrt hN
  have hcl : 4 * (m : Int) ≤ (c : Int) := by omega
  generalize xs[0] = x0 at *
  have d1 : decide ((x0.toNat : Int) < 69) = false := by simp; omega
  have d2 : decide ((79 : Int) < (x0.toNat : Int)) = false := by simp; omega
  have d3 : IntKind.u8.wrap ((x0.toNat : Int) - 64) = (m : Int) := by rw [IntKind.wrap_u8]; omega
  have d4 : (x0.toNat : Int) - 64 = (m : Int) := by omega
  have HN := fun (_ : Unit) => Lib.hid hN
  have HT := fun (_ : Unit) => Lib.hid htl
  have hfl16 : fl ≤ 65535 := by rw [← hfl]; exact two_lt xs 6 (by omega)
  have hal16 : al ≤ 65535 := by rw [← hal]; exact two_lt xs 2 (by omega)
  have hG6 := fun W (h : Rd bv W W.heap.size (some ⟨b0, off, none⟩) c xs) => Lib.hid (get16_b (some ⟨b0, off, none⟩) c xs 6 6 fl rfl W h (by omega) hfl)
  have hG2 := fun W (h : Rd bv W W.heap.size (some ⟨b0, off, none⟩) c xs) => Lib.hid (get16_b (some ⟨b0, off, none⟩) c xs 2 2 al rfl W h (by omega) hal)
  have a1 := and_hi fl hfl16
  rw [show fl / 32768 * 32768 = 0 by omega] at a1
  have d5 : (al : Int) < 4 * (m : Int) := by omega
  clear hcell hm hx0 hN htl hts hfl hal
  go_enter Try.func38, Try.ntmps38
  go_wp2_with fail
  have hP : Parts (w.alloc (.cells #[.slice (some ⟨b0, off, none⟩) (4 * m) c] 34)) w.heap.size w.heap.size [ts] := by
    have h := parts_lit (.cons hrt .nil) #[.slice (some ⟨b0, off, none⟩) ts.length c] rfl 34
    rwa [(HT ()).out] at h
  refine (sright_yes _ _ _ 1 [ts] hP rfl (by omega) (by omega) (by simp [(HT ()).out]; omega) (by simpa using (HN ()).out)).mono ?_
  rintro e w2 ⟨rfl, hbel⟩
  have hB := bnext (bnextA (Below.refl w.heap.size w) _) hbel
  replace hr := (hr.nextA _).next hbel
  clear hbel hP hrt HN HT
  go_wp2_with fail
  refine (hG6 _ hr).out.mono ?_
  rintro e w3 ⟨rfl, hbel⟩
  replace hB := bnext hB hbel
  replace hr := hr.next hbel
  clear hbel hG6
  go_wp2_with fail
  refine (hG2 _ hr).out.mono ?_
  rintro e w4 ⟨rfl, hbel⟩
  replace hB := bnext hB hbel
  clear hbel hG2 hr
  go_wp2_with fail
  simp [bodyPost, results, Try.results38, go_sem]
  first | done | exact hB | exact ⟨rfl, hB⟩

set_option maxHeartbeats 2000000 in
theorem pmeas_over (A : Option Addr) (c : Nat) (xs : List UInt8) (w : World) (hr : Rd bv w w.heap.size A c xs) (h20 : 20 ≤ xs.length) (m : Nat) (hm : (xs[0]).toNat = 64 + m) (hm5 : 5 ≤ m) (hm15 : m ≤ 15) (hl : 4 * m ≤ xs.length) (hN : onesN (xs.take (4 * m)) = 65535) (fl al : Nat) (hfl : beN ((xs.drop 6).take 2) = fl) (hal : beN ((xs.drop 2).take 2) = al) (hhi : fl < 32768) (hla : 4 * m ≤ al) (hov : xs.length < al) (hxl : xs.length ≤ 1000000) :
    Calls Try.prog 38 #[.slice A xs.length c] w fun e w' => e = .returned (.tuple #[.int .i64 0, .int .i64 0, .int .i64 4]) ∧ Below w.heap.size w w' := by
  have hlc := hr.len
  have hcc := hr.cap
  obtain ⟨b0, off, rfl, hB0, hcell⟩ := byt_at hr (k := 0) (by omega)
  have k0 := hcell 0 (by omega)
  simp only [Nat.add_zero] at k0
  have hx0 := (xs[0]).toNat_lt
  have i0 : (0 : Int) < (xs.length : Int) := by omega
  have hrt : Rd bv w w.heap.size (some ⟨b0, off, none⟩) c (xs.take (4 * m)) := hr.take _
  obtain ⟨ts, hts⟩ : ∃ ts, xs.take (4 * m) = ts := ⟨_, rfl⟩
  have htl : ts.length = 4 * m := by rw [← hts]; simp; omega
  rw [hts] at hrt hN
  have hcl : 4 * (m : Int) ≤ (c : Int) := by omega
  generalize xs[0] = x0 at *
  have d1 : decide ((x0.toNat : Int) < 69) = false := by simp; omega
  have d2 : decide ((79 : Int) < (x0.toNat : Int)) = false := by simp; omega
  have d3 : IntKind.u8.wrap ((x0.toNat : Int) - 64) = (m : Int) := by rw [IntKind.wrap_u8]; omega
  have d4 : (x0.toNat : Int) - 64 = (m : Int) := by omega
  have HN := fun (_ : Unit) => Lib.hid hN
  have HT := fun (_ : Unit) => Lib.hid htl
  have hfl16 : fl ≤ 65535 := by rw [← hfl]; exact two_lt xs 6 (by omega)
  have hal16 : al ≤ 65535 := by rw [← hal]; exact two_lt xs 2 (by omega)
  have hG6 := fun W (h : Rd bv W W.heap.size (some ⟨b0, off, none⟩) c xs) => Lib.hid (get16_b (some ⟨b0, off, none⟩) c xs 6 6 fl rfl W h (by omega) hfl)
  have hG2 := fun W (h : Rd bv W W.heap.size (some ⟨b0, off, none⟩) c xs) => Lib.hid (get16_b (some ⟨b0, off, none⟩) c xs 2 2 al rfl W h (by omega) hal)
  have a1 := and_hi fl hfl16
  rw [show fl / 32768 * 32768 = 0 by omega] at a1
  clear hcell hm hx0 hN htl hts hfl hal
  go_enter Try.func38, Try.ntmps38
  go_wp2_with fail
  have hP : Parts (w.alloc (.cells #[.slice (some ⟨b0, off, none⟩) (4 * m) c] 34)) w.heap.size w.heap.size [ts] := by
    have h := parts_lit (.cons hrt .nil) #[.slice (some ⟨b0, off, none⟩) ts.length c] rfl 34
    rwa [(HT ()).out] at h
  refine (sright_yes _ _ _ 1 [ts] hP rfl (by omega) (by omega) (by simp [(HT ()).out]; omega) (by simpa using (HN ()).out)).mono ?_
  rintro e w2 ⟨rfl, hbel⟩
  have hB := bnext (bnextA (Below.refl w.heap.size w) _) hbel
  replace hr := (hr.nextA _).next hbel
  clear hbel hP hrt HN HT
  go_wp2_with fail
  refine (hG6 _ hr).out.mono ?_
  rintro e w3 ⟨rfl, hbel⟩
  replace hB := bnext hB hbel
  replace hr := hr.next hbel
  clear hbel hG6
  go_wp2_with fail
  refine (hG2 _ hr).out.mono ?_
  rintro e w4 ⟨rfl, hbel⟩
  replace hB := bnext hB hbel
  clear hbel hG2 hr
  go_wp2_with fail
  simp [bodyPost, results, Try.results38, go_sem]
  first | done | exact hB | exact ⟨rfl, hB⟩

set_option maxHeartbeats 2000000 in
theorem pmeas_ok (A : Option Addr) (c : Nat) (xs : List UInt8) (w : World) (hr : Rd bv w w.heap.size A c xs) (h20 : 20 ≤ xs.length) (m : Nat) (hm : (xs[0]).toNat = 64 + m) (hm5 : 5 ≤ m) (hm15 : m ≤ 15) (hl : 4 * m ≤ xs.length) (hN : onesN (xs.take (4 * m)) = 65535) (fl al : Nat) (hfl : beN ((xs.drop 6).take 2) = fl) (hal : beN ((xs.drop 2).take 2) = al) (hhi : fl < 32768) (hla : 4 * m ≤ al) (hov : al ≤ xs.length) (hxl : xs.length ≤ 1000000) :
    Calls Try.prog 38 #[.slice A xs.length c] w fun e w' => e = .returned (.tuple #[.int .i64 (4 * (m : Int)), .int .i64 (al : Int), .int .i64 0]) ∧ Below w.heap.size w w' := by
  have hlc := hr.len
  have hcc := hr.cap
  obtain ⟨b0, off, rfl, hB0, hcell⟩ := byt_at hr (k := 0) (by omega)
  have k0 := hcell 0 (by omega)
  simp only [Nat.add_zero] at k0
  have hx0 := (xs[0]).toNat_lt
  have i0 : (0 : Int) < (xs.length : Int) := by omega
  have hrt : Rd bv w w.heap.size (some ⟨b0, off, none⟩) c (xs.take (4 * m)) := hr.take _
  obtain ⟨ts, hts⟩ : ∃ ts, xs.take (4 * m) = ts := ⟨_, rfl⟩
  have htl : ts.length = 4 * m := by rw [← hts]; simp; omega
  rw [hts] at hrt hN
  have hcl : 4 * (m : Int) ≤ (c : Int) := by omega
  generalize xs[0] = x0 at *
  have d1 : decide ((x0.toNat : Int) < 69) = false := by simp; omega
  have d2 : decide ((79 : Int) < (x0.toNat : Int)) = false := by simp; omega
  have d3 : IntKind.u8.wrap ((x0.toNat : Int) - 64) = (m : Int) := by rw [IntKind.wrap_u8]; omega
  have d4 : (x0.toNat : Int) - 64 = (m : Int) := by omega
  have HN := fun (_ : Unit) => Lib.hid hN
  have HT := fun (_ : Unit) => Lib.hid htl
  have hfl16 : fl ≤ 65535 := by rw [← hfl]; exact two_lt xs 6 (by omega)
  have hal16 : al ≤ 65535 := by rw [← hal]; exact two_lt xs 2 (by omega)
  have hG6 := fun W (h : Rd bv W W.heap.size (some ⟨b0, off, none⟩) c xs) => Lib.hid (get16_b (some ⟨b0, off, none⟩) c xs 6 6 fl rfl W h (by omega) hfl)
  have hG2 := fun W (h : Rd bv W W.heap.size (some ⟨b0, off, none⟩) c xs) => Lib.hid (get16_b (some ⟨b0, off, none⟩) c xs 2 2 al rfl W h (by omega) hal)
  have a1 := and_hi fl hfl16
  rw [show fl / 32768 * 32768 = 0 by omega] at a1
  clear hcell hm hx0 hN htl hts hfl hal
  go_enter Try.func38, Try.ntmps38
  go_wp2_with fail
  have hP : Parts (w.alloc (.cells #[.slice (some ⟨b0, off, none⟩) (4 * m) c] 34)) w.heap.size w.heap.size [ts] := by
    have h := parts_lit (.cons hrt .nil) #[.slice (some ⟨b0, off, none⟩) ts.length c] rfl 34
    rwa [(HT ()).out] at h
  refine (sright_yes _ _ _ 1 [ts] hP rfl (by omega) (by omega) (by simp [(HT ()).out]; omega) (by simpa using (HN ()).out)).mono ?_
  rintro e w2 ⟨rfl, hbel⟩
  have hB := bnext (bnextA (Below.refl w.heap.size w) _) hbel
  replace hr := (hr.nextA _).next hbel
  clear hbel hP hrt HN HT
  go_wp2_with fail
  refine (hG6 _ hr).out.mono ?_
  rintro e w3 ⟨rfl, hbel⟩
  replace hB := bnext hB hbel
  replace hr := hr.next hbel
  clear hbel hG6
  go_wp2_with fail
  refine (hG2 _ hr).out.mono ?_
  rintro e w4 ⟨rfl, hbel⟩
  replace hB := bnext hB hbel
  clear hbel hG2 hr
  go_wp2_with fail
  simp [bodyPost, results, Try.results38, go_sem]
  first | done | exact hB | exact ⟨rfl, hB⟩

end Go.Proofs.Ytpibempfhgaomaa
