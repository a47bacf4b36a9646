/- Contracts of package tag's get64, right, Answer and Open, and of the reference's. -/
import Derived.Test.YtggcomociojfoaaTag1
import Derived.Test.YtggcomociojfoaaFlow3
import Derived.Test.YtggcomociojfoaaReg3
namespace Go.Proofs.Ytggcomociojfoaa
open Go.RowKit

theorem results_tmp4 {fn : Func} {t u v z : Tmp} (h : fn.results = #[.tmp t, .tmp u, .tmp v, .tmp z]) (tmps : Array Value) (P : Program) (w : World) :
    (results fn tmps).run P w = .ok (.tuple #[tmps.getD t undef, tmps.getD u undef, tmps.getD v undef, tmps.getD z undef]) w := by
  simp [results, h]
/-- A number of bytes, the highest first. -/
def beL (l : List UInt8) : Nat := l.foldl (fun a x => a * 256 + x.toNat) 0
theorem beL_snoc (l : List UInt8) (x : UInt8) : beL (l ++ [x]) = beL l * 256 + x.toNat := by simp [beL]
theorem beL_acc : ∀ (m : List UInt8) (a : Nat), m.foldl (fun a x => a * 256 + x.toNat) a = a * 256 ^ m.length + beL m
  | [], a => by simp [beL]
  | x :: m, a => by
    have h1 := beL_acc m (a * 256 + x.toNat)
    have h2 := beL_acc m (0 * 256 + x.toNat)
    rw [beL, List.foldl_cons, List.foldl_cons, h1, h2, List.length_cons, Nat.pow_succ]
    generalize 256 ^ m.length = p
    rw [Nat.add_mul, Nat.zero_mul, Nat.zero_add, Nat.mul_assoc, Nat.mul_comm 256 p, Nat.add_assoc]
theorem beL_app (l m : List UInt8) : beL (l ++ m) = beL l * 256 ^ m.length + beL m := by
  rw [beL, List.foldl_append, beL_acc]
  rfl
theorem beL_lt : ∀ l : List UInt8, beL l < 256 ^ l.length
  | [] => by simp [beL]
  | x :: l => by
    have ih := beL_lt l
    have hx := x.toNat_lt
    rw [beL, List.foldl_cons, beL_acc, List.length_cons, Nat.pow_succ, Nat.zero_mul, Nat.zero_add]
    have := Nat.mul_le_mul_right (256 ^ l.length) (show x.toNat ≤ 255 by omega)
    generalize 256 ^ l.length = p at *
    generalize x.toNat * p = y at *
    omega
theorem beN_acc : ∀ (l : List UInt8) (a b : Nat), a = b % 4294967296 → l.foldl (fun a x => (a * 256 + x.toNat) % 4294967296) a = (l.foldl (fun a x => a * 256 + x.toNat) b) % 4294967296
  | [], a, b, h => h
  | x :: l, a, b, h => beN_acc l _ _ (by subst h; show (b % 4294967296 * 256 + x.toNat) % 4294967296 = (b * 256 + x.toNat) % 4294967296; omega)
theorem beN_beL (l : List UInt8) : beN l = beL l % 4294967296 := beN_acc l 0 0 rfl
theorem n64_beL (xs : List UInt8) (h : 8 ≤ xs.length) : n64 xs = beL (xs.take 8) := by
  have e : xs.take 8 = xs.take 4 ++ (xs.drop 4).take 4 := by
    rw [show (8 : Nat) = 4 + 4 from rfl, List.take_add]
  have l1 : (xs.take 4).length = 4 := by simp; omega
  have l2 : ((xs.drop 4).take 4).length = 4 := by simp; omega
  have b1 := beL_lt (xs.take 4)
  have b2 := beL_lt ((xs.drop 4).take 4)
  rw [l1] at b1
  rw [l2] at b2
  rw [e, beL_app, l2, n64, beN_beL, beN_beL, Nat.mod_eq_of_lt (by omega), Nat.mod_eq_of_lt (by omega)]
theorem n64_lt (xs : List UInt8) : n64 xs < 18446744073709551616 := by
  have h1 := beN_lt (xs.take 4)
  have h2 := beN_lt ((xs.drop 4).take 4)
  unfold n64
  omega
theorem or_hl (a b : Nat) (ha : a < 4294967296) (hb : b < 4294967296) : bits BinOp.or IntKind.u64 ((a * 4294967296 : Nat) : Int) (b : Int) = ((a * 4294967296 + b : Nat) : Int) := by
  rw [u64_or_nat _ _ (by omega) (by omega), show a * 4294967296 = a <<< 32 from (Nat.shiftLeft_eq a 32).symm, ← Nat.shiftLeft_add_eq_or_of_lt (show b < 2 ^ 32 by omega)]

theorem get64_any (A : Option Addr) (c : Nat) (xs : List UInt8) (w : World) (hr : Rd bv w w.heap.size A c xs) (h8 : 8 ≤ xs.length) : Calls Try.prog 49 #[.slice A xs.length c] w fun e w' => e = .returned (.int .u64 (n64 xs : Nat)) ∧ Below w.heap.size w w' := by
  have G1 := fun W (h : Rd bv W W.heap.size A c xs) => Lib.hid (get32_yes A c xs 0 W _ h (by omega))
  have G2 := fun W (h : Rd bv W W.heap.size A c xs) => Lib.hid (get32_yes A c xs 4 W _ h (by omega))
  have l1 := beN_lt (xs.take 4)
  have l2 := beN_lt ((xs.drop 4).take 4)
  rw [List.drop_zero] at G1
  unfold n64
  generalize beN (xs.take 4) = a at *
  generalize beN ((xs.drop 4).take 4) = b at *
  have e1 : IntKind.u64.wrap (a : Int) = (a : Int) := by rw [wrap_u64s]; omega
  have e2 : IntKind.u64.wrap (b : Int) = (b : Int) := by rw [wrap_u64s]; omega
  have e3 : IntKind.u64.wrap ((a : Int) * 4294967296) = ((a * 4294967296 : Nat) : Int) := by rw [wrap_u64s]; omega
  have e4 := or_hl a b l1 l2
  have HO := Lib.hid e4
  generalize a * 4294967296 = m at *
  go_enter Try.func49, Try.ntmps49
  go_wp2_with fail
  refine (G1 _ hr).out.mono ?_
  rintro e w1 ⟨rfl, j, rfl⟩
  go_wp2_with fail
  refine (G2 (w.drewN j) (show Rd bv (w.drewN j) w.heap.size A c xs from hr.drawn ⟨j, rfl⟩)).out.mono ?_
  rintro e w2 ⟨rfl, j2, rfl⟩
  go_wp2_with fail
  go_ret
  exact ⟨rfl, below_drewN (Below.refl _ _) _⟩

set_option maxRecDepth 4000 in
theorem rcount_any (A : Option Addr) (c : Nat) (xs : List UInt8) (w : World) (hr : Rd bv w w.heap.size A c xs) (h8 : 8 ≤ xs.length) : Calls Try.prog 52 #[.slice A xs.length c] w fun e w' => e = .returned (.int .u64 (n64 xs : Nat)) ∧ Below w.heap.size w w' := by
  rw [n64_beL xs h8]
  have hlc := hr.len
  have hcc := hr.cap
  obtain ⟨b, off, rfl, hb, hc⟩ := hr.at_ (k := 0) (by omega)
  clear hr
  go_enter Try.func52, Try.ntmps52
  go_wp2
  go_loop [3, 4] (fun n i => ∃ j : Nat, j ≤ 8 ∧ i = .int .i64 j ∧ n = .int .u64 (beL (xs.take j) : Nat)) (fun _ i => 8 - (intOf i).toNat)
  case atStart => exact ⟨0, by omega, rfl, rfl⟩
  case round =>
    obtain ⟨j, hj, rfl, rfl⟩ := hrel
    by_cases hlt : j < 8
    · have c0 := hc j (by omega)
      have hx := (xs[j]).toNat_lt
      have HX := Lib.hid (beL_snoc (xs.take j) xs[j])
      have HT : Hid (xs.take (j + 1) = xs.take j ++ [xs[j]]) := (List.take_append_getElem (show j < xs.length by omega)).symm
      have hbd := beL_lt (xs.take j)
      have hbd2 : beL (xs.take j) < 72057594037927936 := Nat.lt_of_lt_of_le hbd (by
        have : (xs.take j).length ≤ 7 := by simp; omega
        exact Nat.pow_le_pow_right (n := 256) (by omega) this)
      have q1 : (j : Int) < (xs.length : Int) := by omega
      have q2 : j < xs.length := by omega
      generalize xs[j] = x at c0 hx HX HT
      simp only [bv] at c0
      generalize hm : beL (xs.take j) = m at HX hbd2
      have e1 : IntKind.u64.wrap ((m : Int) * 256) = (m : Int) * 256 := by rw [wrap_u64s]; omega
      have e2 : IntKind.u64.wrap (x.toNat : Int) = (x.toNat : Int) := by rw [wrap_u64s]; omega
      have e3 : IntKind.u64.wrap ((m : Int) * 256 + (x.toNat : Int)) = (m : Int) * 256 + (x.toNat : Int) := by rw [wrap_u64s]; omega
      clear hc hbd hm hbd2
      go_wp2_with fail
      go_round
      case rel => exact ⟨j + 1, by omega, by go_num, by rw [HT.out, HX.out]; simp⟩
      case measure => simp [intOf]; omega
    · have : j = 8 := by omega
      subst this
      go_wp2
      go_ret
      exact ⟨rfl, Below.refl _ _⟩

theorem radd_row (A1 A2 : Option Addr) (c1 c2 : Nat) (xs ys : List UInt8) (W : World) (g1 : Rd bv W W.heap.size A1 c1 xs) (g2 : Rd bv W W.heap.size A2 c2 ys) (g3 : xs.length + ys.length ≤ 1000000) : Hid (Calls Try.prog 39 #[.slice A1 xs.length c1, .slice A2 ys.length c2] W fun e w' => ∃ L A c, e = .returned (.slice A L.length c) ∧ Hid (L = xs ++ ys) ∧ Rd bv w' w'.heap.size A c L ∧ Below W.heap.size W w') := by
  refine (radd_any A1 A2 c1 c2 xs ys W g1 g2 (by omega)).mono ?_
  rintro e w' ⟨v, rfl, hown, hb⟩
  obtain ⟨L, A, c, HL, rfl, hr⟩ := hown.rdv
  exact ⟨L, A, c, rfl, HL, hr, hb⟩
theorem clone_row (A : Option Addr) (c : Nat) (xs : List UInt8) (w : World) (hr : Rd bv w w.heap.size A c xs) (hl : xs.length ≤ 1000000) :
    Calls Try.prog 54 #[.slice A xs.length c] w fun e w' => ∃ L A c, e = .returned (.slice A L.length c) ∧ Hid (L = xs) ∧ Rd bv w' w'.heap.size A c L ∧ Below w.heap.size w w' := by
  cases A with
  | none =>
    obtain rfl : xs = [] := by
      rcases xs with _ | ⟨y, ys⟩
      · rfl
      · obtain ⟨_, _, h', _⟩ := hr.2.2.2 (by simp)
        cases h'
    exact (Try.bytes_Clone_nil 0 c w).mono fun e w' ⟨he, hw⟩ => by subst hw; exact ⟨[], none, 0, he, rfl, Rd.nil0 _ _ _, Below.refl _ _⟩
  | some a =>
    have hmap : (xs.map fun x => (x.toNat : Int)).map (Value.int .u8) = xs.map bv := by rw [List.map_map]; rfl
    have h := Try.bytes_Clone_at a xs.length c (xs.map fun x => (x.toNat : Int)) w (by simp) (by omega) (fun i hi => hr.news i _ (by simp [hi, bv, List.getD]))
    rw [hmap] at h
    refine h.mono fun e w' ⟨v, he, ho, _, hb⟩ => ?_
    have ho' : Own bv w' w.heap.size 5 v xs := ho
    obtain ⟨L, A, c, HL, rfl, hr2⟩ := ho'.rdv
    exact ⟨L, A, c, he, HL, hr2, hb⟩

theorem open_short (lo hi : Nat) (A : Option Addr) (c : Nat) (xs : List UInt8) (w : World) (hr : Rd bv w w.heap.size A c xs) (hl : xs.length < 17) : Calls Try.prog 24 #[.agg #[.int .u64 (lo : Int), .int .u64 (hi : Int)], .slice A xs.length c] w fun e w' => e = .returned (.tuple #[.int .u64 0, .int .u8 0, .slice none 0 0, .int .i64 3]) ∧ Below w.heap.size w w' := by
  have hlc := hr.len
  have hcc := hr.cap
  have q1 : decide ((xs.length : Int) < 17) = true := by simp; omega
  clear hr
  go_enter Try.func24, Try.ntmps24
  go_wp2_with fail
  (try simp only [Exit.inBlock, Exit.then]); refine bodyPost_ret (results_tmp4 rfl _ _ _) rfl ?_
  exact ⟨rfl, bnextA (Below.refl _ _) _⟩
theorem ropen_short (lo hi : Nat) (A : Option Addr) (c : Nat) (xs : List UInt8) (w : World) (hr : Rd bv w w.heap.size A c xs) (hl : xs.length < 17) : Calls Try.prog 25 #[.agg #[.int .u64 (lo : Int), .int .u64 (hi : Int)], .slice A xs.length c] w fun e w' => e = .returned (.tuple #[.int .u64 0, .int .u8 0, .slice none 0 0, .int .i64 3]) ∧ Below w.heap.size w w' := by
  have hlc := hr.len
  have hcc := hr.cap
  have q1 : decide ((xs.length : Int) < 17) = true := by simp; omega
  clear hr
  go_enter Try.func25, Try.ntmps25
  go_wp2_with fail
  (try simp only [Exit.inBlock, Exit.then]); refine bodyPost_ret (results_tmp4 rfl _ _ _) rfl ?_
  exact ⟨rfl, bnextA (Below.refl _ _) _⟩
section
variable (lo hi : Nat) (h1 : lo < 18446744073709551616) (h2 : hi < 18446744073709551616)
include h1 h2
theorem right_any (A : Option Addr) (c : Nat) (xs : List UInt8) (w : World) (hr : Rd bv w w.heap.size A c xs) (h8 : 8 ≤ xs.length) (hl : xs.length ≤ 1000) (B : Bool) (hB0 : Hid ((xs == sgn lo hi (xs.take (xs.length - 8))) = B)) :
    Calls Try.prog 48 #[.agg #[.int .u64 (lo : Int), .int .u64 (hi : Int)], .slice A xs.length c] w fun e w' => e = .returned (.bool B) ∧ Below w.heap.size w w' := by
  have hcc := hr.cap
  have hlc := hr.len
  obtain ⟨V, hV⟩ : ∃ V, V = w.alloc (.cells #[.int .u64 (lo : Int), .int .u64 (hi : Int)] 35) := ⟨_, rfl⟩
  have hB : Below w.heap.size w V := by subst hV; exact bnextA (Below.refl _ _) _
  have K : Blk V w.heap.size [.int .u64 (lo : Int), .int .u64 (hi : Int)] 35 := by subst hV; exact Blk.new _ _ _
  have rV := hr.next hB
  obtain ⟨ys, hys⟩ : ∃ ys, xs.take (xs.length - 8) = ys := ⟨_, rfl⟩
  have rY := rV.take (xs.length - 8)
  rw [hys] at hB0 rY
  have hyl : ys.length + 8 = xs.length := by rw [← hys]; simp; omega
  have q1 : (xs.length : Int) - 8 = (ys.length : Int) := by omega
  have q2 : (ys.length : Int) ≤ (xs.length : Int) := by omega
  have q3 : (ys.length : Int) ≤ (c : Int) := by omega
  have q4 : IntKind.i64.wrap (ys.length : Int) = (ys.length : Int) := by rw [IntKind.wrap_i64]; omega
  clear hys hr
  have HCC : ∀ W, Below V.heap.size V W → (W.cell? ⟨w.heap.size, 0, none⟩ = some (.int .u64 (lo : Int)) ∧ W.cell? ⟨w.heap.size, 1, none⟩ = some (.int .u64 (hi : Int))) := by
    intro W h
    obtain ⟨p0, p1, -⟩ := (K.next h).get2
    exact ⟨p0, p1⟩
  clear K
  go_enter Try.func48, Try.ntmps48
  go_wp2_with fail
  rw [← hV]
  clear hV
  refine region_put (by kernel_rfl) (by kernel_rfl) (by kernel_rfl) 14 rfl (by kernel_rfl) V (fun i v W => match i with
      | 0 => ∃ L A c, v = .slice A L.length c ∧ Hid (L = xs) ∧ Rd bv W W.heap.size A c L
      | 1 => v = .agg #[.int .u64 (lo : Int), .int .u64 (hi : Int)]
      | 2 => v = .slice A xs.length c
      | 3 => v = .slice A xs.length c
      | 4 => v = .int .i64 (xs.length : Int)
      | 5 => v = .int .i64 (ys.length : Int)
      | 6 => ∃ L A c, v = .slice A L.length c ∧ Hid (L = ys) ∧ Rd bv W W.heap.size A c L
      | 7 => ∃ L A c, v = .slice A L.length c ∧ Hid (L = sgn lo hi ys) ∧ Rd bv W W.heap.size A c L
      | 8 => v = .bool B
      | 9 => v = .bool B
      | _ => True) (Below.refl _ _) ?_ ?_ ?_
  · intro i v W W' h hb
    match i, h with
    | 0, h => obtain ⟨L, A, c, h1, h2, h3⟩ := h; exact ⟨L, A, c, h1, h2, h3.next hb⟩
    | 1, h => exact h
    | 2, h => exact h
    | 3, h => exact h
    | 4, h => exact h
    | 5, h => exact h
    | 6, h => obtain ⟨L, A, c, h1, h2, h3⟩ := h; exact ⟨L, A, c, h1, h2, h3.next hb⟩
    | 7, h => obtain ⟨L, A, c, h1, h2, h3⟩ := h; exact ⟨L, A, c, h1, h2, h3.next hb⟩
    | 8, h => exact h
    | 9, h => exact h
    | _ + 10, _ => trivial
  · intro i o uu W hoo hVW hd
    rcases i with _|_|_|_|_|_|_|_|_|_|i
    · obtain rfl := Option.some.inj hoo
      refine .inl ⟨wanted_none rfl, ?_⟩
      generalize hev : Act.eval _ = ev
      have ec : ∀ c, ev (.const c) = c := fun c => by rw [← hev]; rfl
      have e1 : ev (.tmp 1) = .slice A xs.length c := by rw [← hev]; exact eval_old (by kernel_rfl) 14 rfl (by decide) rfl
      clear hev hd
      exact .inl ⟨.slice A xs.length c, W, by go_simp, ⟨xs, A, c, rfl, rfl, (rV.next hVW)⟩, Below.refl _ _⟩
    · obtain rfl := Option.some.inj hoo
      refine .inl ⟨wanted_none rfl, ?_⟩
      generalize hev : Act.eval _ = ev
      have ec : ∀ c, ev (.const c) = c := fun c => by rw [← hev]; rfl
      have e2 : ev (.tmp 2) = .pointer (some ⟨w.heap.size, 0, none⟩) := by rw [← hev]; exact eval_old (by kernel_rfl) 14 rfl (by decide) rfl
      clear hev hd
      obtain ⟨cc0, cc1⟩ := HCC W hVW
      exact .inl ⟨_, W, by go_simp, rfl, Below.refl _ _⟩
    · obtain rfl := Option.some.inj hoo
      refine .inl ⟨wanted_none rfl, ?_⟩
      generalize hev : Act.eval _ = ev
      have ec : ∀ c, ev (.const c) = c := fun c => by rw [← hev]; rfl
      have e1 : ev (.tmp 1) = .slice A xs.length c := by rw [← hev]; exact eval_old (by kernel_rfl) 14 rfl (by decide) rfl
      clear hev hd
      exact .inl ⟨_, W, by go_simp, rfl, Below.refl _ _⟩
    · obtain rfl := Option.some.inj hoo
      refine .inl ⟨wanted_none rfl, ?_⟩
      generalize hev : Act.eval _ = ev
      have ec : ∀ c, ev (.const c) = c := fun c => by rw [← hev]; rfl
      have e1 : ev (.tmp 1) = .slice A xs.length c := by rw [← hev]; exact eval_old (by kernel_rfl) 14 rfl (by decide) rfl
      clear hev hd
      exact .inl ⟨_, W, by go_simp, rfl, Below.refl _ _⟩
    · obtain rfl := Option.some.inj hoo
      have q3 : uu 3 = .slice A xs.length c := hd 3 (by kernel_rfl)
      refine .inl ⟨wanted_none rfl, ?_⟩
      generalize hev : Act.eval _ = ev
      have ec : ∀ c, ev (.const c) = c := fun c => by rw [← hev]; rfl
      have e8 : ev (.tmp 8) = .slice A xs.length c := by rw [← hev]; exact (eval_put (by kernel_rfl) 14 rfl (by decide)).trans q3
      clear hev hd q3
      exact .inl ⟨_, W, by go_simp, rfl, Below.refl _ _⟩
    · obtain rfl := Option.some.inj hoo
      have q4 : uu 4 = .int .i64 (xs.length : Int) := hd 4 (by kernel_rfl)
      refine .inl ⟨wanted_none rfl, ?_⟩
      generalize hev : Act.eval _ = ev
      have ec : ∀ c, ev (.const c) = c := fun c => by rw [← hev]; rfl
      have e9 : ev (.tmp 9) = .int .i64 (xs.length : Int) := by rw [← hev]; exact (eval_put (by kernel_rfl) 14 rfl (by decide)).trans q4
      clear hev hd q4
      exact .inl ⟨_, W, by go_simp, rfl, Below.refl _ _⟩
    · obtain rfl := Option.some.inj hoo
      have q2 : uu 2 = .slice A xs.length c := hd 2 (by kernel_rfl)
      have q5 : uu 5 = .int .i64 (ys.length : Int) := hd 5 (by kernel_rfl)
      refine .inl ⟨wanted_none rfl, ?_⟩
      generalize hev : Act.eval _ = ev
      have ec : ∀ c, ev (.const c) = c := fun c => by rw [← hev]; rfl
      have e7 : ev (.tmp 7) = .slice A xs.length c := by rw [← hev]; exact (eval_put (by kernel_rfl) 14 rfl (by decide)).trans q2
      have e10 : ev (.tmp 10) = .int .i64 (ys.length : Int) := by rw [← hev]; exact (eval_put (by kernel_rfl) 14 rfl (by decide)).trans q5
      clear hev hd q2 q5
      exact .inl ⟨.slice A ys.length c, W, by go_simp, ⟨ys, A, c, rfl, rfl, (rY.next hVW)⟩, Below.refl _ _⟩
    · obtain rfl := Option.some.inj hoo
      have q1 : uu 1 = .agg #[.int .u64 (lo : Int), .int .u64 (hi : Int)] := hd 1 (by kernel_rfl)
      obtain ⟨L6, A6, c6, q6, HL6, r6⟩ := hd 6 (by kernel_rfl)
      refine .inl ⟨wanted_none rfl, ?_⟩
      generalize hev : Act.eval _ = ev
      have ec : ∀ c, ev (.const c) = c := fun c => by rw [← hev]; rfl
      have ef : ∀ f, ev (.func f) = .func (.func f) #[] #[] := fun f => by rw [← hev]; rfl
      have e6 : ev (.tmp 6) = .agg #[.int .u64 (lo : Int), .int .u64 (hi : Int)] := by rw [← hev]; exact (eval_put (by kernel_rfl) 14 rfl (by decide)).trans q1
      have e11 : ev (.tmp 11) = .slice A6 L6.length c6 := by rw [← hev]; exact (eval_put (by kernel_rfl) 14 rfl (by decide)).trans q6
      clear hev hd q1 q6
      exact .inr ⟨_, _, _, by go_simp, signed_any lo hi h1 h2 A6 c6 L6 W r6 (by rw [HL6.out]; omega), fun e w' he => by
        obtain ⟨L, A, c, rfl, HL, hr, hb⟩ := he
        exact ⟨_, rfl, ⟨L, A, c, rfl, (by rw [Hid, HL.out, HL6.out]), hr⟩, hb⟩⟩
    · obtain rfl := Option.some.inj hoo
      obtain ⟨L0, A0, c0, q0, HL0, r0⟩ := hd 0 (by kernel_rfl)
      obtain ⟨L7, A7, c7, q7, HL7, r7⟩ := hd 7 (by kernel_rfl)
      refine .inl ⟨wanted_none rfl, ?_⟩
      generalize hev : Act.eval _ = ev
      have ec : ∀ c, ev (.const c) = c := fun c => by rw [← hev]; rfl
      have ef : ∀ f, ev (.func f) = .func (.func f) #[] #[] := fun f => by rw [← hev]; rfl
      have e5 : ev (.tmp 5) = .slice A0 L0.length c0 := by rw [← hev]; exact (eval_put (by kernel_rfl) 14 rfl (by decide)).trans q0
      have e12 : ev (.tmp 12) = .slice A7 L7.length c7 := by rw [← hev]; exact (eval_put (by kernel_rfl) 14 rfl (by decide)).trans q7
      clear hev hd q0 q7
      exact .inr ⟨_, _, _, by go_simp, osame_any A0 A7 c0 c7 L0 L7 B (by rw [HL0.out, HL7.out]; exact hB0.out) W r0 r7, fun e w' he => ⟨_, he.1, rfl, he.2⟩⟩
    · obtain rfl := Option.some.inj hoo
      have q8 : uu 8 = .bool B := hd 8 (by kernel_rfl)
      refine .inl ⟨wanted_none rfl, ?_⟩
      generalize hev : Act.eval _ = ev
      have ec : ∀ c, ev (.const c) = c := fun c => by rw [← hev]; rfl
      have e13 : ev (.tmp 13) = .bool B := by rw [← hev]; exact (eval_put (by kernel_rfl) 14 rfl (by decide)).trans q8
      clear hev hd q8
      exact .inl ⟨_, W, by go_simp, rfl, Below.refl _ _⟩
    · simp at hoo
  · intro uu W hVW hall
    have q9 : uu 9 = .bool B := hall 9 (by decide)
    replace hB := hB.trans (hVW.mono hB.size)
    clear hall HCC
    simp only [putAll, Act.put, Nat.reduceAdd, q9]
    simp only [List.setIfInBounds_toArray, List.set_cons_succ, List.set_cons_zero]
    go_wp2_with fail
    go_ret
    exact ⟨rfl, hB⟩
theorem answer_any (A : Option Addr) (c : Nat) (xs : List UInt8) (w : World) (hr : Rd bv w w.heap.size A c xs) (hl : xs.length ≤ 900) (n : Nat) (hn : n < 18446744073709551616) (cd : UInt8) :
    Calls Try.prog 22 #[.agg #[.int .u64 (lo : Int), .int .u64 (hi : Int)], .int .u64 (n : Int), .int .u8 (cd.toNat : Int), .slice A xs.length c] w fun e w' => ∃ L A c, e = .returned (.slice A L.length c) ∧ Hid (L = sgn lo hi (b64 n ++ [cd] ++ xs)) ∧ Rd bv w' w'.heap.size A c L ∧ Below w.heap.size w w' := by
  obtain ⟨V, hV⟩ : ∃ V, V = w.alloc (.cells #[.int .u64 (lo : Int), .int .u64 (hi : Int)] 35) := ⟨_, rfl⟩
  have hB : Below w.heap.size w V := by subst hV; exact bnextA (Below.refl _ _) _
  have K : Blk V w.heap.size [.int .u64 (lo : Int), .int .u64 (hi : Int)] 35 := by subst hV; exact Blk.new _ _ _
  have rV := hr.next hB
  have HCC : ∀ W, Below V.heap.size V W → (W.cell? ⟨w.heap.size, 0, none⟩ = some (.int .u64 (lo : Int)) ∧ W.cell? ⟨w.heap.size, 1, none⟩ = some (.int .u64 (hi : Int))) := by
    intro W h
    obtain ⟨p0, p1, -⟩ := (K.next h).get2
    exact ⟨p0, p1⟩
  clear K hr
  go_enter Try.func22, Try.ntmps22
  go_wp2_with fail
  rw [← hV]
  clear hV
  refine region_put (by kernel_rfl) (by kernel_rfl) (by kernel_rfl) 18 rfl (by kernel_rfl) V (fun i v W => match i with
      | 0 => v = .agg #[.int .u64 (lo : Int), .int .u64 (hi : Int)]
      | 1 => v = .int .u64 (n : Int)
      | 2 => ∃ L A c, v = .slice A L.length c ∧ Hid (L = b64 n) ∧ Rd bv W W.heap.size A c L
      | 3 => v = .int .u8 (cd.toNat : Int)
      | 4 => ∃ A, v = .slice A 1 1 ∧ Rd bv W W.heap.size A 1 [cd]
      | 5 => ∃ L A c, v = .slice A L.length c ∧ Hid (L = xs) ∧ Rd bv W W.heap.size A c L
      | 6 => ∃ g ls, v = .slice (some ⟨g, 0, none⟩) 3 3 ∧ Hid (ls.flatten = b64 n ++ [cd] ++ xs) ∧ Hid (ls.length = 3) ∧ g < W.heap.size ∧ ∃ B, B ≤ W.heap.size ∧ Parts W B g ls
      | 7 => ∃ L A c, v = .slice A L.length c ∧ Hid (L = b64 n ++ [cd] ++ xs) ∧ Rd bv W W.heap.size A c L
      | 8 => ∃ L A c, v = .slice A L.length c ∧ Hid (L = sgn lo hi (b64 n ++ [cd] ++ xs)) ∧ Rd bv W W.heap.size A c L
      | 9 => ∃ L A c, v = .slice A L.length c ∧ Hid (L = sgn lo hi (b64 n ++ [cd] ++ xs)) ∧ Rd bv W W.heap.size A c L
      | _ => True) (Below.refl _ _) ?_ ?_ ?_
  · intro i v W W' h hb
    match i, h with
    | 0, h => exact h
    | 1, h => exact h
    | 2, h => obtain ⟨L, A, c, h1, h2, h3⟩ := h; exact ⟨L, A, c, h1, h2, h3.next hb⟩
    | 3, h => exact h
    | 4, h => obtain ⟨A, h1, h2⟩ := h; exact ⟨A, h1, h2.next hb⟩
    | 5, h => obtain ⟨L, A, c, h1, h2, h3⟩ := h; exact ⟨L, A, c, h1, h2, h3.next hb⟩
    | 6, h => obtain ⟨g, ls, h1, h2, h3, h4, B, h5, h6⟩ := h; exact ⟨g, ls, h1, h2, h3, Nat.lt_of_lt_of_le h4 hb.size, B, Nat.le_trans h5 hb.size, h6.next h4 h5 hb⟩
    | 7, h => obtain ⟨L, A, c, h1, h2, h3⟩ := h; exact ⟨L, A, c, h1, h2, h3.next hb⟩
    | 8, h => obtain ⟨L, A, c, h1, h2, h3⟩ := h; exact ⟨L, A, c, h1, h2, h3.next hb⟩
    | 9, h => obtain ⟨L, A, c, h1, h2, h3⟩ := h; exact ⟨L, A, c, h1, h2, h3.next hb⟩
    | _ + 10, _ => trivial
  · intro i o uu W hoo hVW hd
    rcases i with _|_|_|_|_|_|_|_|_|_|i
    · obtain rfl := Option.some.inj hoo
      refine .inl ⟨wanted_none rfl, ?_⟩
      generalize hev : Act.eval _ = ev
      have ec : ∀ c, ev (.const c) = c := fun c => by rw [← hev]; rfl
      have e4 : ev (.tmp 4) = .pointer (some ⟨w.heap.size, 0, none⟩) := by rw [← hev]; exact eval_old (by kernel_rfl) 18 rfl (by decide) rfl
      clear hev hd
      obtain ⟨cc0, cc1⟩ := HCC W hVW
      exact .inl ⟨_, W, by go_simp, rfl, Below.refl _ _⟩
    · obtain rfl := Option.some.inj hoo
      refine .inl ⟨wanted_none rfl, ?_⟩
      generalize hev : Act.eval _ = ev
      have ec : ∀ c, ev (.const c) = c := fun c => by rw [← hev]; rfl
      have e1 : ev (.tmp 1) = .int .u64 (n : Int) := by rw [← hev]; exact eval_old (by kernel_rfl) 18 rfl (by decide) rfl
      clear hev hd
      exact .inl ⟨_, W, by go_simp, rfl, Below.refl _ _⟩
    · obtain rfl := Option.some.inj hoo
      have q1 : uu 1 = .int .u64 (n : Int) := hd 1 (by kernel_rfl)
      refine .inl ⟨wanted_none rfl, ?_⟩
      generalize hev : Act.eval _ = ev
      have ec : ∀ c, ev (.const c) = c := fun c => by rw [← hev]; rfl
      have ef : ∀ f, ev (.func f) = .func (.func f) #[] #[] := fun f => by rw [← hev]; rfl
      have e10 : ev (.tmp 10) = .int .u64 (n : Int) := by rw [← hev]; exact (eval_put (by kernel_rfl) 18 rfl (by decide)).trans q1
      clear hev hd q1
      exact .inr ⟨_, _, _, by go_simp, put64_any n hn W, fun e w' he => by
        obtain ⟨L, A, c, rfl, HL, hr, hb⟩ := he
        exact ⟨_, rfl, ⟨L, A, c, rfl, HL, hr⟩, hb⟩⟩
    · obtain rfl := Option.some.inj hoo
      refine .inl ⟨wanted_none rfl, ?_⟩
      generalize hev : Act.eval _ = ev
      have ec : ∀ c, ev (.const c) = c := fun c => by rw [← hev]; rfl
      have e2 : ev (.tmp 2) = .int .u8 (cd.toNat : Int) := by rw [← hev]; exact eval_old (by kernel_rfl) 18 rfl (by decide) rfl
      clear hev hd
      exact .inl ⟨_, W, by go_simp, rfl, Below.refl _ _⟩
    · obtain rfl := Option.some.inj hoo
      have q3 : uu 3 = .int .u8 (cd.toNat : Int) := hd 3 (by kernel_rfl)
      refine .inl ⟨wanted_none rfl, ?_⟩
      generalize hev : Act.eval _ = ev
      have ec : ∀ c, ev (.const c) = c := fun c => by rw [← hev]; rfl
      have e12 : ev (.tmp 12) = .int .u8 (cd.toNat : Int) := by rw [← hev]; exact (eval_put (by kernel_rfl) 18 rfl (by decide)).trans q3
      clear hev hd q3
      exact .inl ⟨_, W.alloc (.cells #[.int .u8 (cd.toNat : Int)] 5), by go_simp, ⟨_, rfl, lit_at W _ [cd] rfl #[.int .u8 (cd.toNat : Int)] (rfl) _ (by simp)⟩, bnextA (Below.refl _ _) _⟩
    · obtain rfl := Option.some.inj hoo
      refine .inl ⟨wanted_none rfl, ?_⟩
      generalize hev : Act.eval _ = ev
      have ec : ∀ c, ev (.const c) = c := fun c => by rw [← hev]; rfl
      have e3 : ev (.tmp 3) = .slice A xs.length c := by rw [← hev]; exact eval_old (by kernel_rfl) 18 rfl (by decide) rfl
      clear hev hd
      exact .inl ⟨.slice A xs.length c, W, by go_simp, ⟨xs, A, c, rfl, rfl, (rV.next hVW)⟩, Below.refl _ _⟩
    · obtain rfl := Option.some.inj hoo
      obtain ⟨L2, A2, c2, q2, HL2, r2⟩ := hd 2 (by kernel_rfl)
      obtain ⟨A4, q4, r4⟩ := hd 4 (by kernel_rfl)
      obtain ⟨L5, A5, c5, q5, HL5, r5⟩ := hd 5 (by kernel_rfl)
      refine .inl ⟨wanted_none rfl, ?_⟩
      generalize hev : Act.eval _ = ev
      have ec : ∀ c, ev (.const c) = c := fun c => by rw [← hev]; rfl
      have e11 : ev (.tmp 11) = .slice A2 L2.length c2 := by rw [← hev]; exact (eval_put (by kernel_rfl) 18 rfl (by decide)).trans q2
      have e13 : ev (.tmp 13) = .slice A4 1 1 := by rw [← hev]; exact (eval_put (by kernel_rfl) 18 rfl (by decide)).trans q4
      have e14 : ev (.tmp 14) = .slice A5 L5.length c5 := by rw [← hev]; exact (eval_put (by kernel_rfl) 18 rfl (by decide)).trans q5
      clear hev hd q2 q4 q5
      exact .inl ⟨_, W.alloc (.cells #[.slice A2 L2.length c2, .slice A4 1 1, .slice A5 L5.length c5] 27), by go_simp, ⟨W.heap.size, [L2, [cd], L5], rfl, by rw [Hid, HL2.out, HL5.out]; simp, rfl, by simp, W.heap.size, by simp, parts_at _ rfl (.cons r2 (.cons r4 (.cons r5 .nil))) _ rfl _⟩, bnextA (Below.refl _ _) _⟩
    · obtain rfl := Option.some.inj hoo
      obtain ⟨g6, ls6, q6, HF6, HN6, hg6, B6, hB6, hP6⟩ := hd 6 (by kernel_rfl)
      refine .inl ⟨wanted_none rfl, ?_⟩
      generalize hev : Act.eval _ = ev
      have ec : ∀ c, ev (.const c) = c := fun c => by rw [← hev]; rfl
      have ef : ∀ f, ev (.func f) = .func (.func f) #[] #[] := fun f => by rw [← hev]; rfl
      have e15 : ev (.tmp 15) = .slice (some ⟨g6, 0, none⟩) 3 3 := by rw [← hev]; exact (eval_put (by kernel_rfl) 18 rfl (by decide)).trans q6
      clear hev hd q6
      exact .inr ⟨_, _, _, by go_simp, join_any W B6 g6 3 ls6 hP6 HN6.out (by omega) (by omega) (by rw [HF6.out]; simp [b64_len]; omega), fun e w' he => by
        obtain ⟨L, A, c, rfl, HL, hr, hb⟩ := he
        exact ⟨_, rfl, ⟨L, A, c, rfl, (by rw [Hid, HL.out, HF6.out]), hr⟩, hb⟩⟩
    · obtain rfl := Option.some.inj hoo
      have q0 : uu 0 = .agg #[.int .u64 (lo : Int), .int .u64 (hi : Int)] := hd 0 (by kernel_rfl)
      obtain ⟨L7, A7, c7, q7, HL7, r7⟩ := hd 7 (by kernel_rfl)
      refine .inl ⟨wanted_none rfl, ?_⟩
      generalize hev : Act.eval _ = ev
      have ec : ∀ c, ev (.const c) = c := fun c => by rw [← hev]; rfl
      have ef : ∀ f, ev (.func f) = .func (.func f) #[] #[] := fun f => by rw [← hev]; rfl
      have e9 : ev (.tmp 9) = .agg #[.int .u64 (lo : Int), .int .u64 (hi : Int)] := by rw [← hev]; exact (eval_put (by kernel_rfl) 18 rfl (by decide)).trans q0
      have e16 : ev (.tmp 16) = .slice A7 L7.length c7 := by rw [← hev]; exact (eval_put (by kernel_rfl) 18 rfl (by decide)).trans q7
      clear hev hd q0 q7
      exact .inr ⟨_, _, _, by go_simp, signed_any lo hi h1 h2 A7 c7 L7 W r7 (by rw [HL7.out]; simp [b64_len]; omega), fun e w' he => by
        obtain ⟨L, A, c, rfl, HL, hr, hb⟩ := he
        exact ⟨_, rfl, ⟨L, A, c, rfl, (by rw [Hid, HL.out, HL7.out]), hr⟩, hb⟩⟩
    · obtain rfl := Option.some.inj hoo
      obtain ⟨L8, A8, c8, q8, HL8, r8⟩ := hd 8 (by kernel_rfl)
      refine .inl ⟨wanted_none rfl, ?_⟩
      generalize hev : Act.eval _ = ev
      have ec : ∀ c, ev (.const c) = c := fun c => by rw [← hev]; rfl
      have e17 : ev (.tmp 17) = .slice A8 L8.length c8 := by rw [← hev]; exact (eval_put (by kernel_rfl) 18 rfl (by decide)).trans q8
      clear hev hd q8
      exact .inl ⟨_, W, by go_simp, ⟨L8, A8, c8, rfl, HL8, r8⟩, Below.refl _ _⟩
    · simp at hoo
  · intro uu W hVW hall
    have q9 : ∃ L A c, uu 9 = .slice A L.length c ∧ Hid (L = sgn lo hi (b64 n ++ [cd] ++ xs)) ∧ Rd bv W W.heap.size A c L := hall 9 (by decide)
    obtain ⟨L9, A9, c9, q9, HL9, r9⟩ := q9
    replace hB := hB.trans (hVW.mono hB.size)
    clear hall HCC
    simp only [putAll, Act.put, Nat.reduceAdd, q9]
    simp only [List.setIfInBounds_toArray, List.set_cons_succ, List.set_cons_zero]
    clear q9
    go_wp2_with fail
    go_ret
    exact ⟨L9, A9, c9, rfl, HL9, r9, hB⟩
theorem ranswer_any (A : Option Addr) (c : Nat) (xs : List UInt8) (w : World) (hr : Rd bv w w.heap.size A c xs) (hl : xs.length ≤ 900) (n : Nat) (hn : n < 18446744073709551616) (cd : UInt8) :
    Calls Try.prog 23 #[.agg #[.int .u64 (lo : Int), .int .u64 (hi : Int)], .int .u64 (n : Int), .int .u8 (cd.toNat : Int), .slice A xs.length c] w fun e w' => ∃ L A c, e = .returned (.slice A L.length c) ∧ Hid (L = sgn lo hi (b64 n ++ [cd] ++ xs)) ∧ Rd bv w' w'.heap.size A c L ∧ Below w.heap.size w w' := by
  have RA : ∀ A1 A2 c1 c2 (xs ys : List UInt8) W, Rd bv W W.heap.size A1 c1 xs → Rd bv W W.heap.size A2 c2 ys → xs.length + ys.length ≤ 1000000 → Hid (Calls Try.prog 39 #[.slice A1 xs.length c1, .slice A2 ys.length c2] W fun e w' => ∃ L A c, e = .returned (.slice A L.length c) ∧ Hid (L = xs ++ ys) ∧ Rd bv w' w'.heap.size A c L ∧ Below W.heap.size W w') := fun A1 A2 c1 c2 xs ys W g1 g2 g3 => radd_row A1 A2 c1 c2 xs ys W g1 g2 g3
  obtain ⟨V, hV⟩ : ∃ V, V = w.alloc (.cells #[.int .u64 (lo : Int), .int .u64 (hi : Int)] 35) := ⟨_, rfl⟩
  have hB : Below w.heap.size w V := by subst hV; exact bnextA (Below.refl _ _) _
  have K : Blk V w.heap.size [.int .u64 (lo : Int), .int .u64 (hi : Int)] 35 := by subst hV; exact Blk.new _ _ _
  have rV := hr.next hB
  have HCC : ∀ W, Below V.heap.size V W → (W.cell? ⟨w.heap.size, 0, none⟩ = some (.int .u64 (lo : Int)) ∧ W.cell? ⟨w.heap.size, 1, none⟩ = some (.int .u64 (hi : Int))) := by
    intro W h
    obtain ⟨p0, p1, -⟩ := (K.next h).get2
    exact ⟨p0, p1⟩
  clear K hr
  go_enter Try.func23, Try.ntmps23
  go_wp2_with fail
  rw [← hV]
  clear hV
  refine region_put (by kernel_rfl) (by kernel_rfl) (by kernel_rfl) 18 rfl (by kernel_rfl) V (fun i v W => match i with
      | 0 => v = .agg #[.int .u64 (lo : Int), .int .u64 (hi : Int)]
      | 1 => v = .int .u64 (n : Int)
      | 2 => ∃ L A c, v = .slice A L.length c ∧ Hid (L = b64 n) ∧ Rd bv W W.heap.size A c L
      | 3 => v = .int .u8 (cd.toNat : Int)
      | 4 => ∃ A, v = .slice A 1 1 ∧ Rd bv W W.heap.size A 1 [cd]
      | 5 => ∃ L A c, v = .slice A L.length c ∧ Hid (L = b64 n ++ [cd]) ∧ Rd bv W W.heap.size A c L
      | 6 => ∃ L A c, v = .slice A L.length c ∧ Hid (L = xs) ∧ Rd bv W W.heap.size A c L
      | 7 => ∃ L A c, v = .slice A L.length c ∧ Hid (L = b64 n ++ [cd] ++ xs) ∧ Rd bv W W.heap.size A c L
      | 8 => ∃ L A c, v = .slice A L.length c ∧ Hid (L = sgn lo hi (b64 n ++ [cd] ++ xs)) ∧ Rd bv W W.heap.size A c L
      | 9 => ∃ L A c, v = .slice A L.length c ∧ Hid (L = sgn lo hi (b64 n ++ [cd] ++ xs)) ∧ Rd bv W W.heap.size A c L
      | _ => True) (Below.refl _ _) ?_ ?_ ?_
  · intro i v W W' h hb
    match i, h with
    | 0, h => exact h
    | 1, h => exact h
    | 2, h => obtain ⟨L, A, c, h1, h2, h3⟩ := h; exact ⟨L, A, c, h1, h2, h3.next hb⟩
    | 3, h => exact h
    | 4, h => obtain ⟨A, h1, h2⟩ := h; exact ⟨A, h1, h2.next hb⟩
    | 5, h => obtain ⟨L, A, c, h1, h2, h3⟩ := h; exact ⟨L, A, c, h1, h2, h3.next hb⟩
    | 6, h => obtain ⟨L, A, c, h1, h2, h3⟩ := h; exact ⟨L, A, c, h1, h2, h3.next hb⟩
    | 7, h => obtain ⟨L, A, c, h1, h2, h3⟩ := h; exact ⟨L, A, c, h1, h2, h3.next hb⟩
    | 8, h => obtain ⟨L, A, c, h1, h2, h3⟩ := h; exact ⟨L, A, c, h1, h2, h3.next hb⟩
    | 9, h => obtain ⟨L, A, c, h1, h2, h3⟩ := h; exact ⟨L, A, c, h1, h2, h3.next hb⟩
    | _ + 10, _ => trivial
  · intro i o uu W hoo hVW hd
    rcases i with _|_|_|_|_|_|_|_|_|_|i
    · obtain rfl := Option.some.inj hoo
      refine .inl ⟨wanted_none rfl, ?_⟩
      generalize hev : Act.eval _ = ev
      have ec : ∀ c, ev (.const c) = c := fun c => by rw [← hev]; rfl
      have e4 : ev (.tmp 4) = .pointer (some ⟨w.heap.size, 0, none⟩) := by rw [← hev]; exact eval_old (by kernel_rfl) 18 rfl (by decide) rfl
      clear hev hd
      obtain ⟨cc0, cc1⟩ := HCC W hVW
      exact .inl ⟨_, W, by go_simp, rfl, Below.refl _ _⟩
    · obtain rfl := Option.some.inj hoo
      refine .inl ⟨wanted_none rfl, ?_⟩
      generalize hev : Act.eval _ = ev
      have ec : ∀ c, ev (.const c) = c := fun c => by rw [← hev]; rfl
      have e1 : ev (.tmp 1) = .int .u64 (n : Int) := by rw [← hev]; exact eval_old (by kernel_rfl) 18 rfl (by decide) rfl
      clear hev hd
      exact .inl ⟨_, W, by go_simp, rfl, Below.refl _ _⟩
    · obtain rfl := Option.some.inj hoo
      have q1 : uu 1 = .int .u64 (n : Int) := hd 1 (by kernel_rfl)
      refine .inl ⟨wanted_none rfl, ?_⟩
      generalize hev : Act.eval _ = ev
      have ec : ∀ c, ev (.const c) = c := fun c => by rw [← hev]; rfl
      have ef : ∀ f, ev (.func f) = .func (.func f) #[] #[] := fun f => by rw [← hev]; rfl
      have e10 : ev (.tmp 10) = .int .u64 (n : Int) := by rw [← hev]; exact (eval_put (by kernel_rfl) 18 rfl (by decide)).trans q1
      clear hev hd q1
      exact .inr ⟨_, _, _, by go_simp, rlong_any n hn W, fun e w' he => by
        obtain ⟨L, A, c, rfl, HL, hr, hb⟩ := he
        exact ⟨_, rfl, ⟨L, A, c, rfl, HL, hr⟩, hb⟩⟩
    · obtain rfl := Option.some.inj hoo
      refine .inl ⟨wanted_none rfl, ?_⟩
      generalize hev : Act.eval _ = ev
      have ec : ∀ c, ev (.const c) = c := fun c => by rw [← hev]; rfl
      have e2 : ev (.tmp 2) = .int .u8 (cd.toNat : Int) := by rw [← hev]; exact eval_old (by kernel_rfl) 18 rfl (by decide) rfl
      clear hev hd
      exact .inl ⟨_, W, by go_simp, rfl, Below.refl _ _⟩
    · obtain rfl := Option.some.inj hoo
      have q3 : uu 3 = .int .u8 (cd.toNat : Int) := hd 3 (by kernel_rfl)
      refine .inl ⟨wanted_none rfl, ?_⟩
      generalize hev : Act.eval _ = ev
      have ec : ∀ c, ev (.const c) = c := fun c => by rw [← hev]; rfl
      have e12 : ev (.tmp 12) = .int .u8 (cd.toNat : Int) := by rw [← hev]; exact (eval_put (by kernel_rfl) 18 rfl (by decide)).trans q3
      clear hev hd q3
      exact .inl ⟨_, W.alloc (.cells #[.int .u8 (cd.toNat : Int)] 5), by go_simp, ⟨_, rfl, lit_at W _ [cd] rfl #[.int .u8 (cd.toNat : Int)] (rfl) _ (by simp)⟩, bnextA (Below.refl _ _) _⟩
    · obtain rfl := Option.some.inj hoo
      obtain ⟨L2, A2, c2, q2, HL2, r2⟩ := hd 2 (by kernel_rfl)
      obtain ⟨A4, q4, r4⟩ := hd 4 (by kernel_rfl)
      refine .inl ⟨wanted_none rfl, ?_⟩
      generalize hev : Act.eval _ = ev
      have ec : ∀ c, ev (.const c) = c := fun c => by rw [← hev]; rfl
      have ef : ∀ f, ev (.func f) = .func (.func f) #[] #[] := fun f => by rw [← hev]; rfl
      have e11 : ev (.tmp 11) = .slice A2 L2.length c2 := by rw [← hev]; exact (eval_put (by kernel_rfl) 18 rfl (by decide)).trans q2
      have e13 : ev (.tmp 13) = .slice A4 1 1 := by rw [← hev]; exact (eval_put (by kernel_rfl) 18 rfl (by decide)).trans q4
      clear hev hd q2 q4
      exact .inr ⟨_, _, _, by go_simp, (RA A2 A4 c2 1 L2 [cd] W r2 r4 (by rw [HL2.out]; simp [b64_len])).out, fun e w' he => by
        obtain ⟨L, A, c, rfl, HL, hr, hb⟩ := he
        exact ⟨_, rfl, ⟨L, A, c, rfl, (by rw [Hid, HL.out, HL2.out]), hr⟩, hb⟩⟩
    · obtain rfl := Option.some.inj hoo
      refine .inl ⟨wanted_none rfl, ?_⟩
      generalize hev : Act.eval _ = ev
      have ec : ∀ c, ev (.const c) = c := fun c => by rw [← hev]; rfl
      have e3 : ev (.tmp 3) = .slice A xs.length c := by rw [← hev]; exact eval_old (by kernel_rfl) 18 rfl (by decide) rfl
      clear hev hd
      exact .inl ⟨.slice A xs.length c, W, by go_simp, ⟨xs, A, c, rfl, rfl, (rV.next hVW)⟩, Below.refl _ _⟩
    · obtain rfl := Option.some.inj hoo
      obtain ⟨L5, A5, c5, q5, HL5, r5⟩ := hd 5 (by kernel_rfl)
      obtain ⟨L6, A6, c6, q6, HL6, r6⟩ := hd 6 (by kernel_rfl)
      refine .inl ⟨wanted_none rfl, ?_⟩
      generalize hev : Act.eval _ = ev
      have ec : ∀ c, ev (.const c) = c := fun c => by rw [← hev]; rfl
      have ef : ∀ f, ev (.func f) = .func (.func f) #[] #[] := fun f => by rw [← hev]; rfl
      have e14 : ev (.tmp 14) = .slice A5 L5.length c5 := by rw [← hev]; exact (eval_put (by kernel_rfl) 18 rfl (by decide)).trans q5
      have e15 : ev (.tmp 15) = .slice A6 L6.length c6 := by rw [← hev]; exact (eval_put (by kernel_rfl) 18 rfl (by decide)).trans q6
      clear hev hd q5 q6
      exact .inr ⟨_, _, _, by go_simp, (RA A5 A6 c5 c6 L5 L6 W r5 r6 (by rw [HL5.out, HL6.out]; simp [b64_len]; omega)).out, fun e w' he => by
        obtain ⟨L, A, c, rfl, HL, hr, hb⟩ := he
        exact ⟨_, rfl, ⟨L, A, c, rfl, (by rw [Hid, HL.out, HL5.out, HL6.out]), hr⟩, hb⟩⟩
    · obtain rfl := Option.some.inj hoo
      have q0 : uu 0 = .agg #[.int .u64 (lo : Int), .int .u64 (hi : Int)] := hd 0 (by kernel_rfl)
      obtain ⟨L7, A7, c7, q7, HL7, r7⟩ := hd 7 (by kernel_rfl)
      refine .inl ⟨wanted_none rfl, ?_⟩
      generalize hev : Act.eval _ = ev
      have ec : ∀ c, ev (.const c) = c := fun c => by rw [← hev]; rfl
      have ef : ∀ f, ev (.func f) = .func (.func f) #[] #[] := fun f => by rw [← hev]; rfl
      have e9 : ev (.tmp 9) = .agg #[.int .u64 (lo : Int), .int .u64 (hi : Int)] := by rw [← hev]; exact (eval_put (by kernel_rfl) 18 rfl (by decide)).trans q0
      have e16 : ev (.tmp 16) = .slice A7 L7.length c7 := by rw [← hev]; exact (eval_put (by kernel_rfl) 18 rfl (by decide)).trans q7
      clear hev hd q0 q7
      exact .inr ⟨_, _, _, by go_simp, rsigned_any lo hi h1 h2 A7 c7 L7 W r7 (by rw [HL7.out]; simp [b64_len]; omega), fun e w' he => by
        obtain ⟨L, A, c, rfl, HL, hr, hb⟩ := he
        exact ⟨_, rfl, ⟨L, A, c, rfl, (by rw [Hid, HL.out, HL7.out]), hr⟩, hb⟩⟩
    · obtain rfl := Option.some.inj hoo
      obtain ⟨L8, A8, c8, q8, HL8, r8⟩ := hd 8 (by kernel_rfl)
      refine .inl ⟨wanted_none rfl, ?_⟩
      generalize hev : Act.eval _ = ev
      have ec : ∀ c, ev (.const c) = c := fun c => by rw [← hev]; rfl
      have e17 : ev (.tmp 17) = .slice A8 L8.length c8 := by rw [← hev]; exact (eval_put (by kernel_rfl) 18 rfl (by decide)).trans q8
      clear hev hd q8
      exact .inl ⟨_, W, by go_simp, ⟨L8, A8, c8, rfl, HL8, r8⟩, Below.refl _ _⟩
    · simp at hoo
  · intro uu W hVW hall
    have q9 : ∃ L A c, uu 9 = .slice A L.length c ∧ Hid (L = sgn lo hi (b64 n ++ [cd] ++ xs)) ∧ Rd bv W W.heap.size A c L := hall 9 (by decide)
    obtain ⟨L9, A9, c9, q9, HL9, r9⟩ := q9
    replace hB := hB.trans (hVW.mono hB.size)
    clear hall HCC
    simp only [putAll, Act.put, Nat.reduceAdd, q9]
    simp only [List.setIfInBounds_toArray, List.set_cons_succ, List.set_cons_zero]
    clear q9
    go_wp2_with fail
    go_ret
    exact ⟨L9, A9, c9, rfl, HL9, r9, hB⟩
theorem open_tag (A : Option Addr) (c : Nat) (xs : List UInt8) (w : World) (hr : Rd bv w w.heap.size A c xs) (h17 : 17 ≤ xs.length) (hl : xs.length ≤ 1000) (hG : Hid ((xs == sgn lo hi (xs.take (xs.length - 8))) = false)) : Calls Try.prog 24 #[.agg #[.int .u64 (lo : Int), .int .u64 (hi : Int)], .slice A xs.length c] w fun e w' => e = .returned (.tuple #[.int .u64 0, .int .u8 0, .slice none 0 0, .int .i64 12]) ∧ Below w.heap.size w w' := by
  have hlc := hr.len
  have hcc := hr.cap
  have q0 : decide ((xs.length : Int) < 17) = false := by simp; omega
  obtain ⟨V, hV⟩ : ∃ V, V = w.alloc (.cells #[.int .u64 (lo : Int), .int .u64 (hi : Int)] 35) := ⟨_, rfl⟩
  have hB : Below w.heap.size w V := by subst hV; exact bnextA (Below.refl _ _) _
  have K : Blk V w.heap.size [.int .u64 (lo : Int), .int .u64 (hi : Int)] 35 := by subst hV; exact Blk.new _ _ _
  have rV := hr.next hB
  have HR := Lib.hid (right_any lo hi h1 h2 A c xs V rV (by omega) hl _ hG)
  obtain ⟨z0, z1, -⟩ := K.get2
  clear hr K rV
  go_enter Try.func24, Try.ntmps24
  go_wp2_with fail
  rw [← hV]
  clear hV
  refine HR.out.mono ?_
  rintro e w1 ⟨rfl, hb⟩
  replace hB := bnext hB hb
  go_wp2_with fail
  (try simp only [Exit.inBlock, Exit.then]); refine bodyPost_ret (results_tmp4 rfl _ _ _) rfl ?_
  exact ⟨rfl, hB⟩
set_option maxHeartbeats 1000000 in
theorem open_ok (A : Option Addr) (c : Nat) (xs : List UInt8) (w : World) (hr : Rd bv w w.heap.size A c xs) (h17 : 17 ≤ xs.length) (hl : xs.length ≤ 1000) (hG : Hid ((xs == sgn lo hi (xs.take (xs.length - 8))) = true)) : Calls Try.prog 24 #[.agg #[.int .u64 (lo : Int), .int .u64 (hi : Int)], .slice A xs.length c] w fun e w' => ∃ L A c, e = .returned (.tuple #[.int .u64 (n64 xs : Nat), .int .u8 ((xs.getD 8 0).toNat : Int), .slice A L.length c, .int .i64 0]) ∧ Hid (L = (xs.drop 9).take (xs.length - 17)) ∧ Rd bv w' w'.heap.size A c L ∧ Below w.heap.size w w' := by
  have hlc := hr.len
  have hcc := hr.cap
  have q0 : decide ((xs.length : Int) < 17) = false := by simp; omega
  obtain ⟨V, hV⟩ : ∃ V, V = w.alloc (.cells #[.int .u64 (lo : Int), .int .u64 (hi : Int)] 35) := ⟨_, rfl⟩
  have hB : Below w.heap.size w V := by subst hV; exact bnextA (Below.refl _ _) _
  have K : Blk V w.heap.size [.int .u64 (lo : Int), .int .u64 (hi : Int)] 35 := by subst hV; exact Blk.new _ _ _
  have rV := hr.next hB
  have HR := Lib.hid (right_any lo hi h1 h2 A c xs V rV (by omega) hl _ hG)
  obtain ⟨i0, hi0, hz0, hz1, hz2⟩ := info_parts info_u8
  obtain ⟨A9, c9, rZ, hsl⟩ := rV.slice_lh Try.underlying27 hi0 hz1 9 (xs.length - 17) (by omega)
  obtain ⟨zs, hzs⟩ : ∃ zs, (xs.drop 9).take (xs.length - 17) = zs := ⟨_, rfl⟩
  rw [hzs] at rZ
  have hzl : xs.length - 17 = zs.length := by rw [← hzs]; simp; omega
  rw [hzl] at hsl
  have HZ : Hid ((xs.drop 9).take (xs.length - 17) = zs) := hzs
  obtain ⟨b, off, hA, hb, hc⟩ := rV.at_ (k := 8) (by omega)
  subst hA
  have c8 := hc 8 (by omega)
  have hx : Hid (xs.getD 8 0 = xs[8]) := by simp [Hid, List.getD, show 8 < xs.length by omega]
  generalize xs[8] = x at c8 hx
  have HSL : ∀ W, (Instr.slice 27 (.slice (some ⟨b, off, none⟩) xs.length c) (some (.int .i64 9)) (some (.int .i64 (9 + (zs.length : Int)))) none).run Try.prog W = .ok (.slice A9 zs.length c9) W := hsl
  have q5 : (xs.length : Int) - 8 = 9 + (zs.length : Int) := by omega
  have q6 : (8 : Int) < (xs.length : Int) := by omega
  have q9 : IntKind.i64.wrap (9 + (zs.length : Int)) = 9 + (zs.length : Int) := by rw [IntKind.wrap_i64]; omega
  have q7 : 8 < xs.length := by omega
  clear hsl hzs hc
  have HG := fun W (h : Rd bv W W.heap.size (some ⟨b, off, none⟩) c xs) => Lib.hid (get64_any (some ⟨b, off, none⟩) c xs W h (by omega))
  generalize n64 xs = N at *
  rw [hx.out, HZ.out]
  clear hx HZ
  obtain ⟨z0, z1, -⟩ := K.get2
  clear hr
  go_enter Try.func24, Try.ntmps24
  go_wp2_with fail
  rw [← hV]
  clear hV
  refine HR.out.mono ?_
  rintro e V1 ⟨rfl, hbel⟩
  clear HR
  have c8b := (hbel.cell (p := ⟨b, off + 8, none⟩) hb).trans c8
  have hb8 : b < V1.heap.size := Nat.lt_of_lt_of_le hb hbel.size
  replace hB := bnext hB hbel
  replace K := K.next hbel
  replace rV := rV.next hbel
  replace rZ := rZ.next hbel
  clear c8 hbel z0 z1 hb
  have c8 := c8b
  clear c8b
  have HCC : ∀ W, Below V1.heap.size V1 W → (W.cell? ⟨w.heap.size, 0, none⟩ = some (.int .u64 (lo : Int)) ∧ W.cell? ⟨w.heap.size, 1, none⟩ = some (.int .u64 (hi : Int)) ∧ W.cell? ⟨b, off + 8, none⟩ = some (.int .u8 (x.toNat : Int))) := by
    intro W h
    obtain ⟨p0, p1, -⟩ := (K.next h).get2
    exact ⟨p0, p1, (h.cell (p := ⟨b, off + 8, none⟩) hb8).trans c8⟩
  clear K
  go_wp2_with fail
  refine region_put (by kernel_rfl) (by kernel_rfl) (by kernel_rfl) 26 rfl (by kernel_rfl) V1 (fun i v W => match i with
      | 0 => v = .slice (some ⟨b, off, none⟩) xs.length c
      | 1 => v = .int .u64 (N : Int)
      | 2 => v = .slice (some ⟨b, off, none⟩) xs.length c
      | 3 => v = .pointer (some ⟨b, off + 8, none⟩)
      | 4 => v = .int .u8 (x.toNat : Int)
      | 5 => v = .slice (some ⟨b, off, none⟩) xs.length c
      | 6 => v = .slice (some ⟨b, off, none⟩) xs.length c
      | 7 => v = .int .i64 (xs.length : Int)
      | 8 => v = .int .i64 (9 + (zs.length : Int))
      | 9 => ∃ L A c, v = .slice A L.length c ∧ Hid (L = zs) ∧ Rd bv W W.heap.size A c L
      | 10 => ∃ L A c, v = .slice A L.length c ∧ Hid (L = zs) ∧ Rd bv W W.heap.size A c L
      | 11 => v = .int .u64 (N : Int)
      | 12 => v = .int .u8 (x.toNat : Int)
      | 13 => ∃ L A c, v = .slice A L.length c ∧ Hid (L = zs) ∧ Rd bv W W.heap.size A c L
      | 14 => v = .int .i64 0
      | _ => True) (Below.refl _ _) ?_ ?_ ?_
  · intro i v W W' h hb
    match i, h with
    | 0, h => exact h
    | 1, h => exact h
    | 2, h => exact h
    | 3, h => exact h
    | 4, h => exact h
    | 5, h => exact h
    | 6, h => exact h
    | 7, h => exact h
    | 8, h => exact h
    | 9, h => obtain ⟨L, A, c, h1, h2, h3⟩ := h; exact ⟨L, A, c, h1, h2, h3.next hb⟩
    | 10, h => obtain ⟨L, A, c, h1, h2, h3⟩ := h; exact ⟨L, A, c, h1, h2, h3.next hb⟩
    | 11, h => exact h
    | 12, h => exact h
    | 13, h => obtain ⟨L, A, c, h1, h2, h3⟩ := h; exact ⟨L, A, c, h1, h2, h3.next hb⟩
    | 14, h => exact h
    | _ + 15, _ => trivial
  · intro i o uu W hoo hVW hd
    rcases i with _|_|_|_|_|_|_|_|_|_|_|_|_|_|_|i
    · obtain rfl := Option.some.inj hoo
      refine .inl ⟨wanted_none rfl, ?_⟩
      generalize hev : Act.eval _ = ev
      have ec : ∀ c, ev (.const c) = c := fun c => by rw [← hev]; rfl
      have e1 : ev (.tmp 1) = .slice (some ⟨b, off, none⟩) xs.length c := by rw [← hev]; exact eval_old (by kernel_rfl) 26 rfl (by decide) rfl
      clear hev hd
      exact .inl ⟨_, W, by go_simp, rfl, Below.refl _ _⟩
    · obtain rfl := Option.some.inj hoo
      have q0 : uu 0 = .slice (some ⟨b, off, none⟩) xs.length c := hd 0 (by kernel_rfl)
      refine .inl ⟨wanted_none rfl, ?_⟩
      generalize hev : Act.eval _ = ev
      have ec : ∀ c, ev (.const c) = c := fun c => by rw [← hev]; rfl
      have ef : ∀ f, ev (.func f) = .func (.func f) #[] #[] := fun f => by rw [← hev]; rfl
      have e15 : ev (.tmp 15) = .slice (some ⟨b, off, none⟩) xs.length c := by rw [← hev]; exact (eval_put (by kernel_rfl) 26 rfl (by decide)).trans q0
      clear hev hd q0
      exact .inr ⟨_, _, _, by go_simp, (HG W (rV.next hVW)).out, fun e w' he => ⟨_, he.1, rfl, he.2⟩⟩
    · obtain rfl := Option.some.inj hoo
      refine .inl ⟨wanted_none rfl, ?_⟩
      generalize hev : Act.eval _ = ev
      have ec : ∀ c, ev (.const c) = c := fun c => by rw [← hev]; rfl
      have e1 : ev (.tmp 1) = .slice (some ⟨b, off, none⟩) xs.length c := by rw [← hev]; exact eval_old (by kernel_rfl) 26 rfl (by decide) rfl
      clear hev hd
      exact .inl ⟨_, W, by go_simp, rfl, Below.refl _ _⟩
    · obtain rfl := Option.some.inj hoo
      have q2 : uu 2 = .slice (some ⟨b, off, none⟩) xs.length c := hd 2 (by kernel_rfl)
      refine .inl ⟨wanted_none rfl, ?_⟩
      generalize hev : Act.eval _ = ev
      have ec : ∀ c, ev (.const c) = c := fun c => by rw [← hev]; rfl
      have e17 : ev (.tmp 17) = .slice (some ⟨b, off, none⟩) xs.length c := by rw [← hev]; exact (eval_put (by kernel_rfl) 26 rfl (by decide)).trans q2
      clear hev hd q2
      exact .inl ⟨_, W, by go_simp, rfl, Below.refl _ _⟩
    · obtain rfl := Option.some.inj hoo
      have q3 : uu 3 = .pointer (some ⟨b, off + 8, none⟩) := hd 3 (by kernel_rfl)
      refine .inl ⟨wanted_none rfl, ?_⟩
      generalize hev : Act.eval _ = ev
      have ec : ∀ c, ev (.const c) = c := fun c => by rw [← hev]; rfl
      have e18 : ev (.tmp 18) = .pointer (some ⟨b, off + 8, none⟩) := by rw [← hev]; exact (eval_put (by kernel_rfl) 26 rfl (by decide)).trans q3
      clear hev hd q3
      obtain ⟨cc0, cc1, cc2⟩ := HCC W hVW
      exact .inl ⟨_, W, by go_simp, rfl, Below.refl _ _⟩
    · obtain rfl := Option.some.inj hoo
      refine .inl ⟨wanted_none rfl, ?_⟩
      generalize hev : Act.eval _ = ev
      have ec : ∀ c, ev (.const c) = c := fun c => by rw [← hev]; rfl
      have e1 : ev (.tmp 1) = .slice (some ⟨b, off, none⟩) xs.length c := by rw [← hev]; exact eval_old (by kernel_rfl) 26 rfl (by decide) rfl
      clear hev hd
      exact .inl ⟨_, W, by go_simp, rfl, Below.refl _ _⟩
    · obtain rfl := Option.some.inj hoo
      refine .inl ⟨wanted_none rfl, ?_⟩
      generalize hev : Act.eval _ = ev
      have ec : ∀ c, ev (.const c) = c := fun c => by rw [← hev]; rfl
      have e1 : ev (.tmp 1) = .slice (some ⟨b, off, none⟩) xs.length c := by rw [← hev]; exact eval_old (by kernel_rfl) 26 rfl (by decide) rfl
      clear hev hd
      exact .inl ⟨_, W, by go_simp, rfl, Below.refl _ _⟩
    · obtain rfl := Option.some.inj hoo
      have q6 : uu 6 = .slice (some ⟨b, off, none⟩) xs.length c := hd 6 (by kernel_rfl)
      refine .inl ⟨wanted_none rfl, ?_⟩
      generalize hev : Act.eval _ = ev
      have ec : ∀ c, ev (.const c) = c := fun c => by rw [← hev]; rfl
      have e21 : ev (.tmp 21) = .slice (some ⟨b, off, none⟩) xs.length c := by rw [← hev]; exact (eval_put (by kernel_rfl) 26 rfl (by decide)).trans q6
      clear hev hd q6
      exact .inl ⟨_, W, by go_simp, rfl, Below.refl _ _⟩
    · obtain rfl := Option.some.inj hoo
      have q7 : uu 7 = .int .i64 (xs.length : Int) := hd 7 (by kernel_rfl)
      refine .inl ⟨wanted_none rfl, ?_⟩
      generalize hev : Act.eval _ = ev
      have ec : ∀ c, ev (.const c) = c := fun c => by rw [← hev]; rfl
      have e22 : ev (.tmp 22) = .int .i64 (xs.length : Int) := by rw [← hev]; exact (eval_put (by kernel_rfl) 26 rfl (by decide)).trans q7
      clear hev hd q7
      exact .inl ⟨_, W, by go_simp, rfl, Below.refl _ _⟩
    · obtain rfl := Option.some.inj hoo
      have q5 : uu 5 = .slice (some ⟨b, off, none⟩) xs.length c := hd 5 (by kernel_rfl)
      have q8 : uu 8 = .int .i64 (9 + (zs.length : Int)) := hd 8 (by kernel_rfl)
      refine .inl ⟨wanted_none rfl, ?_⟩
      generalize hev : Act.eval _ = ev
      have ec : ∀ c, ev (.const c) = c := fun c => by rw [← hev]; rfl
      have e20 : ev (.tmp 20) = .slice (some ⟨b, off, none⟩) xs.length c := by rw [← hev]; exact (eval_put (by kernel_rfl) 26 rfl (by decide)).trans q5
      have e23 : ev (.tmp 23) = .int .i64 (9 + (zs.length : Int)) := by rw [← hev]; exact (eval_put (by kernel_rfl) 26 rfl (by decide)).trans q8
      clear hev hd q5 q8
      exact .inl ⟨.slice A9 zs.length c9, W, by go_simp, ⟨zs, A9, c9, rfl, rfl, (rZ.next hVW)⟩, Below.refl _ _⟩
    · obtain rfl := Option.some.inj hoo
      obtain ⟨L9, A9, c9, q9, HL9, r9⟩ := hd 9 (by kernel_rfl)
      refine .inl ⟨wanted_none rfl, ?_⟩
      generalize hev : Act.eval _ = ev
      have ec : ∀ c, ev (.const c) = c := fun c => by rw [← hev]; rfl
      have ef : ∀ f, ev (.func f) = .func (.func f) #[] #[] := fun f => by rw [← hev]; rfl
      have e24 : ev (.tmp 24) = .slice A9 L9.length c9 := by rw [← hev]; exact (eval_put (by kernel_rfl) 26 rfl (by decide)).trans q9
      clear hev hd q9
      exact .inr ⟨_, _, _, by go_simp, clone_row A9 c9 L9 W r9 (by rw [HL9.out]; omega), fun e w' he => by
        obtain ⟨L, A, c, rfl, HL, hr, hb⟩ := he
        exact ⟨_, rfl, ⟨L, A, c, rfl, (by rw [Hid, HL.out, HL9.out]), hr⟩, hb⟩⟩
    · obtain rfl := Option.some.inj hoo
      have q1 : uu 1 = .int .u64 (N : Int) := hd 1 (by kernel_rfl)
      refine .inl ⟨wanted_none rfl, ?_⟩
      generalize hev : Act.eval _ = ev
      have ec : ∀ c, ev (.const c) = c := fun c => by rw [← hev]; rfl
      have e16 : ev (.tmp 16) = .int .u64 (N : Int) := by rw [← hev]; exact (eval_put (by kernel_rfl) 26 rfl (by decide)).trans q1
      clear hev hd q1
      exact .inl ⟨_, W, by go_simp, rfl, Below.refl _ _⟩
    · obtain rfl := Option.some.inj hoo
      have q4 : uu 4 = .int .u8 (x.toNat : Int) := hd 4 (by kernel_rfl)
      refine .inl ⟨wanted_none rfl, ?_⟩
      generalize hev : Act.eval _ = ev
      have ec : ∀ c, ev (.const c) = c := fun c => by rw [← hev]; rfl
      have e19 : ev (.tmp 19) = .int .u8 (x.toNat : Int) := by rw [← hev]; exact (eval_put (by kernel_rfl) 26 rfl (by decide)).trans q4
      clear hev hd q4
      exact .inl ⟨_, W, by go_simp, rfl, Below.refl _ _⟩
    · obtain rfl := Option.some.inj hoo
      obtain ⟨L10, A10, c10, q10, HL10, r10⟩ := hd 10 (by kernel_rfl)
      refine .inl ⟨wanted_none rfl, ?_⟩
      generalize hev : Act.eval _ = ev
      have ec : ∀ c, ev (.const c) = c := fun c => by rw [← hev]; rfl
      have e25 : ev (.tmp 25) = .slice A10 L10.length c10 := by rw [← hev]; exact (eval_put (by kernel_rfl) 26 rfl (by decide)).trans q10
      clear hev hd q10
      exact .inl ⟨_, W, by go_simp, ⟨L10, A10, c10, rfl, HL10, r10⟩, Below.refl _ _⟩
    · obtain rfl := Option.some.inj hoo
      refine .inl ⟨wanted_none rfl, ?_⟩
      generalize hev : Act.eval _ = ev
      have ec : ∀ c, ev (.const c) = c := fun c => by rw [← hev]; rfl
      clear hev hd
      exact .inl ⟨_, W, by go_simp, rfl, Below.refl _ _⟩
    · simp at hoo
  · intro uu W hVW hall
    have q11 : uu 11 = .int .u64 (N : Int) := hall 11 (by decide)
    have q12 : uu 12 = .int .u8 (x.toNat : Int) := hall 12 (by decide)
    have q13 : ∃ L A c, uu 13 = .slice A L.length c ∧ Hid (L = zs) ∧ Rd bv W W.heap.size A c L := hall 13 (by decide)
    obtain ⟨L, A1, c1, q13, HL, r1⟩ := q13
    have q14 : uu 14 = .int .i64 0 := hall 14 (by decide)
    replace hB := hB.trans (hVW.mono hB.size)
    clear hall HCC
    simp only [putAll, Act.put, Nat.reduceAdd, q11, q12, q13, q14]
    simp only [List.setIfInBounds_toArray, List.set_cons_succ, List.set_cons_zero]
    clear q11 q12 q13 q14
    go_wp2_with fail
    (try simp only [Exit.inBlock, Exit.then]); refine bodyPost_ret (results_tmp4 rfl _ _ _) rfl ?_
    exact ⟨L, A1, c1, rfl, HL, r1, hB⟩
theorem ropen_tag (A : Option Addr) (c : Nat) (xs : List UInt8) (w : World) (hr : Rd bv w w.heap.size A c xs) (h17 : 17 ≤ xs.length) (hl : xs.length ≤ 1000) (hG : Hid (sgn lo hi (xs.take (xs.length - 8)) ≠ xs)) : Calls Try.prog 25 #[.agg #[.int .u64 (lo : Int), .int .u64 (hi : Int)], .slice A xs.length c] w fun e w' => e = .returned (.tuple #[.int .u64 0, .int .u8 0, .slice none 0 0, .int .i64 12]) ∧ Below w.heap.size w w' := by
  have hlc := hr.len
  have hcc := hr.cap
  have q0 : decide ((xs.length : Int) < 17) = false := by simp; omega
  obtain ⟨V, hV⟩ : ∃ V, V = w.alloc (.cells #[.int .u64 (lo : Int), .int .u64 (hi : Int)] 35) := ⟨_, rfl⟩
  have hB : Below w.heap.size w V := by subst hV; exact bnextA (Below.refl _ _) _
  have K : Blk V w.heap.size [.int .u64 (lo : Int), .int .u64 (hi : Int)] 35 := by subst hV; exact Blk.new _ _ _
  have rV := hr.next hB
  obtain ⟨ys, hys⟩ : ∃ ys, xs.take (xs.length - 8) = ys := ⟨_, rfl⟩
  have rY := rV.take (xs.length - 8)
  rw [hys] at hG rY
  have hyl : ys.length + 8 = xs.length := by rw [← hys]; simp; omega
  have q1 : (xs.length : Int) - 8 = (ys.length : Int) := by omega
  have q2 : (ys.length : Int) ≤ (xs.length : Int) := by omega
  have q3 : (ys.length : Int) ≤ (c : Int) := by omega
  have q4 : IntKind.i64.wrap (ys.length : Int) = (ys.length : Int) := by rw [IntKind.wrap_i64]; omega
  clear hys hr
  have HCC : ∀ W, Below V.heap.size V W → (W.cell? ⟨w.heap.size, 0, none⟩ = some (.int .u64 (lo : Int)) ∧ W.cell? ⟨w.heap.size, 1, none⟩ = some (.int .u64 (hi : Int))) := by
    intro W h
    obtain ⟨p0, p1, -⟩ := (K.next h).get2
    exact ⟨p0, p1⟩
  clear K
  go_enter Try.func25, Try.ntmps25
  go_wp2_with fail
  rw [← hV]
  clear hV
  refine region_put (by kernel_rfl) (by kernel_rfl) (by kernel_rfl) 31 rfl (by kernel_rfl) V (fun i v W => match i with
      | 0 => v = .agg #[.int .u64 (lo : Int), .int .u64 (hi : Int)]
      | 1 => v = .slice A xs.length c
      | 2 => v = .int .i64 (ys.length : Int)
      | 3 => ∃ L A c, v = .slice A L.length c ∧ Hid (L = ys) ∧ Rd bv W W.heap.size A c L
      | 4 => ∃ L A c, v = .slice A L.length c ∧ Hid (L = sgn lo hi ys) ∧ Rd bv W W.heap.size A c L
      | 5 => ∃ L A c, v = .slice A L.length c ∧ Hid (L = xs) ∧ Rd bv W W.heap.size A c L
      | 6 => v = .bool false
      | 7 => v = .bool true
      | _ => True) (Below.refl _ _) ?_ ?_ ?_
  · intro i v W W' h hb
    match i, h with
    | 0, h => exact h
    | 1, h => exact h
    | 2, h => exact h
    | 3, h => obtain ⟨L, A, c, h1, h2, h3⟩ := h; exact ⟨L, A, c, h1, h2, h3.next hb⟩
    | 4, h => obtain ⟨L, A, c, h1, h2, h3⟩ := h; exact ⟨L, A, c, h1, h2, h3.next hb⟩
    | 5, h => obtain ⟨L, A, c, h1, h2, h3⟩ := h; exact ⟨L, A, c, h1, h2, h3.next hb⟩
    | 6, h => exact h
    | 7, h => exact h
    | _ + 8, _ => trivial
  · intro i o uu W hoo hVW hd
    rcases i with _|_|_|_|_|_|_|_|i
    · obtain rfl := Option.some.inj hoo
      refine .inl ⟨wanted_none rfl, ?_⟩
      generalize hev : Act.eval _ = ev
      have ec : ∀ c, ev (.const c) = c := fun c => by rw [← hev]; rfl
      have e2 : ev (.tmp 2) = .pointer (some ⟨w.heap.size, 0, none⟩) := by rw [← hev]; exact eval_old (by kernel_rfl) 31 rfl (by decide) rfl
      clear hev hd
      obtain ⟨cc0, cc1⟩ := HCC W hVW
      exact .inl ⟨_, W, by go_simp, rfl, Below.refl _ _⟩
    · obtain rfl := Option.some.inj hoo
      refine .inl ⟨wanted_none rfl, ?_⟩
      generalize hev : Act.eval _ = ev
      have ec : ∀ c, ev (.const c) = c := fun c => by rw [← hev]; rfl
      have e1 : ev (.tmp 1) = .slice A xs.length c := by rw [← hev]; exact eval_old (by kernel_rfl) 31 rfl (by decide) rfl
      clear hev hd
      exact .inl ⟨_, W, by go_simp, rfl, Below.refl _ _⟩
    · obtain rfl := Option.some.inj hoo
      refine .inl ⟨wanted_none rfl, ?_⟩
      generalize hev : Act.eval _ = ev
      have ec : ∀ c, ev (.const c) = c := fun c => by rw [← hev]; rfl
      have e8 : ev (.tmp 8) = .int .i64 (ys.length : Int) := by rw [← hev]; exact eval_old (by kernel_rfl) 31 rfl (by decide) rfl
      clear hev hd
      exact .inl ⟨_, W, by go_simp, rfl, Below.refl _ _⟩
    · obtain rfl := Option.some.inj hoo
      have q1 : uu 1 = .slice A xs.length c := hd 1 (by kernel_rfl)
      have q2 : uu 2 = .int .i64 (ys.length : Int) := hd 2 (by kernel_rfl)
      refine .inl ⟨wanted_none rfl, ?_⟩
      generalize hev : Act.eval _ = ev
      have ec : ∀ c, ev (.const c) = c := fun c => by rw [← hev]; rfl
      have e16 : ev (.tmp 16) = .slice A xs.length c := by rw [← hev]; exact (eval_put (by kernel_rfl) 31 rfl (by decide)).trans q1
      have e17 : ev (.tmp 17) = .int .i64 (ys.length : Int) := by rw [← hev]; exact (eval_put (by kernel_rfl) 31 rfl (by decide)).trans q2
      clear hev hd q1 q2
      exact .inl ⟨.slice A ys.length c, W, by go_simp, ⟨ys, A, c, rfl, rfl, (rY.next hVW)⟩, Below.refl _ _⟩
    · obtain rfl := Option.some.inj hoo
      have q0 : uu 0 = .agg #[.int .u64 (lo : Int), .int .u64 (hi : Int)] := hd 0 (by kernel_rfl)
      obtain ⟨L3, A3, c3, q3, HL3, r3⟩ := hd 3 (by kernel_rfl)
      refine .inl ⟨wanted_none rfl, ?_⟩
      generalize hev : Act.eval _ = ev
      have ec : ∀ c, ev (.const c) = c := fun c => by rw [← hev]; rfl
      have ef : ∀ f, ev (.func f) = .func (.func f) #[] #[] := fun f => by rw [← hev]; rfl
      have e15 : ev (.tmp 15) = .agg #[.int .u64 (lo : Int), .int .u64 (hi : Int)] := by rw [← hev]; exact (eval_put (by kernel_rfl) 31 rfl (by decide)).trans q0
      have e18 : ev (.tmp 18) = .slice A3 L3.length c3 := by rw [← hev]; exact (eval_put (by kernel_rfl) 31 rfl (by decide)).trans q3
      clear hev hd q0 q3
      exact .inr ⟨_, _, _, by go_simp, rsigned_any lo hi h1 h2 A3 c3 L3 W r3 (by rw [HL3.out]; omega), fun e w' he => by
        obtain ⟨L, A, c, rfl, HL, hr, hb⟩ := he
        exact ⟨_, rfl, ⟨L, A, c, rfl, (by rw [Hid, HL.out, HL3.out]), hr⟩, hb⟩⟩
    · obtain rfl := Option.some.inj hoo
      refine .inl ⟨wanted_none rfl, ?_⟩
      generalize hev : Act.eval _ = ev
      have ec : ∀ c, ev (.const c) = c := fun c => by rw [← hev]; rfl
      have e1 : ev (.tmp 1) = .slice A xs.length c := by rw [← hev]; exact eval_old (by kernel_rfl) 31 rfl (by decide) rfl
      clear hev hd
      exact .inl ⟨.slice A xs.length c, W, by go_simp, ⟨xs, A, c, rfl, rfl, (rV.next hVW)⟩, Below.refl _ _⟩
    · obtain rfl := Option.some.inj hoo
      obtain ⟨L4, A4, c4, q4, HL4, r4⟩ := hd 4 (by kernel_rfl)
      obtain ⟨L5, A5, c5, q5, HL5, r5⟩ := hd 5 (by kernel_rfl)
      refine .inl ⟨wanted_none rfl, ?_⟩
      generalize hev : Act.eval _ = ev
      have ec : ∀ c, ev (.const c) = c := fun c => by rw [← hev]; rfl
      have ef : ∀ f, ev (.func f) = .func (.func f) #[] #[] := fun f => by rw [← hev]; rfl
      have e19 : ev (.tmp 19) = .slice A4 L4.length c4 := by rw [← hev]; exact (eval_put (by kernel_rfl) 31 rfl (by decide)).trans q4
      have e20 : ev (.tmp 20) = .slice A5 L5.length c5 := by rw [← hev]; exact (eval_put (by kernel_rfl) 31 rfl (by decide)).trans q5
      clear hev hd q4 q5
      exact .inr ⟨_, _, _, by go_simp, rsame_no A4 A5 c4 c5 L4 L5 W _ r4 r5 (by rw [HL4.out, HL5.out]; exact hG.out), fun e w' he => ⟨_, he.1, rfl, he.2.bel⟩⟩
    · obtain rfl := Option.some.inj hoo
      have q6 : uu 6 = .bool false := hd 6 (by kernel_rfl)
      refine .inl ⟨wanted_none rfl, ?_⟩
      generalize hev : Act.eval _ = ev
      have ec : ∀ c, ev (.const c) = c := fun c => by rw [← hev]; rfl
      have e21 : ev (.tmp 21) = .bool false := by rw [← hev]; exact (eval_put (by kernel_rfl) 31 rfl (by decide)).trans q6
      clear hev hd q6
      exact .inl ⟨_, W, by go_simp, rfl, Below.refl _ _⟩
    · simp at hoo
  · intro uu W hVW hall
    have q7 : uu 7 = .bool true := hall 7 (by decide)
    replace hB := hB.trans (hVW.mono hB.size)
    clear hall HCC
    simp only [putAll, Act.put, Nat.reduceAdd, q7]
    simp only [List.setIfInBounds_toArray, List.set_cons_succ, List.set_cons_zero]
    go_wp2_with fail
    (try simp only [Exit.inBlock, Exit.then]); refine bodyPost_ret (results_tmp4 rfl _ _ _) rfl ?_
    exact ⟨rfl, hB⟩
set_option maxHeartbeats 1000000 in
theorem ropen_ok (A : Option Addr) (c : Nat) (xs : List UInt8) (w : World) (hr : Rd bv w w.heap.size A c xs) (h17 : 17 ≤ xs.length) (hl : xs.length ≤ 1000) (hG : Hid (sgn lo hi (xs.take (xs.length - 8)) = xs)) : Calls Try.prog 25 #[.agg #[.int .u64 (lo : Int), .int .u64 (hi : Int)], .slice A xs.length c] w fun e w' => ∃ L A c, e = .returned (.tuple #[.int .u64 (n64 xs : Nat), .int .u8 ((xs.getD 8 0).toNat : Int), .slice A L.length c, .int .i64 0]) ∧ Hid (L = (xs.drop 9).take (xs.length - 17)) ∧ Rd bv w' w'.heap.size A c L ∧ Below w.heap.size w w' := by
  have hlc := hr.len
  have hcc := hr.cap
  have q0 : decide ((xs.length : Int) < 17) = false := by simp; omega
  obtain ⟨V, hV⟩ : ∃ V, V = w.alloc (.cells #[.int .u64 (lo : Int), .int .u64 (hi : Int)] 35) := ⟨_, rfl⟩
  have hB : Below w.heap.size w V := by subst hV; exact bnextA (Below.refl _ _) _
  have K : Blk V w.heap.size [.int .u64 (lo : Int), .int .u64 (hi : Int)] 35 := by subst hV; exact Blk.new _ _ _
  have rV := hr.next hB
  obtain ⟨ys, hys⟩ : ∃ ys, xs.take (xs.length - 8) = ys := ⟨_, rfl⟩
  have rY := rV.take (xs.length - 8)
  rw [hys] at hG rY
  have hyl : ys.length + 8 = xs.length := by rw [← hys]; simp; omega
  have q1 : (xs.length : Int) - 8 = (ys.length : Int) := by omega
  have q2 : (ys.length : Int) ≤ (xs.length : Int) := by omega
  have q3 : (ys.length : Int) ≤ (c : Int) := by omega
  have q4 : IntKind.i64.wrap (ys.length : Int) = (ys.length : Int) := by rw [IntKind.wrap_i64]; omega
  clear hys hr
  have HCC : ∀ W, Below V.heap.size V W → (W.cell? ⟨w.heap.size, 0, none⟩ = some (.int .u64 (lo : Int)) ∧ W.cell? ⟨w.heap.size, 1, none⟩ = some (.int .u64 (hi : Int))) := by
    intro W h
    obtain ⟨p0, p1, -⟩ := (K.next h).get2
    exact ⟨p0, p1⟩
  obtain ⟨i0, hi0, hz0, hz1, hz2⟩ := info_parts info_u8
  obtain ⟨A9, c9, rZ, hsl⟩ := rV.slice_lh Try.underlying27 hi0 hz1 9 (xs.length - 17) (by omega)
  obtain ⟨zs, hzs⟩ : ∃ zs, (xs.drop 9).take (xs.length - 17) = zs := ⟨_, rfl⟩
  rw [hzs] at rZ
  have hzl : xs.length - 17 = zs.length := by rw [← hzs]; simp; omega
  rw [hzl] at hsl
  have HZ : Hid ((xs.drop 9).take (xs.length - 17) = zs) := hzs
  obtain ⟨b, off, hA, hb, hc⟩ := rV.at_ (k := 8) (by omega)
  subst hA
  have c8 := hc 8 (by omega)
  have hx : Hid (xs.getD 8 0 = xs[8]) := by simp [Hid, List.getD, show 8 < xs.length by omega]
  generalize xs[8] = x at c8 hx
  have HSL : ∀ W, (Instr.slice 27 (.slice (some ⟨b, off, none⟩) xs.length c) (some (.int .i64 9)) (some (.int .i64 (9 + (zs.length : Int)))) none).run Try.prog W = .ok (.slice A9 zs.length c9) W := hsl
  have q5 : (xs.length : Int) - 8 = 9 + (zs.length : Int) := by omega
  have q6 : (8 : Int) < (xs.length : Int) := by omega
  have q9 : IntKind.i64.wrap (9 + (zs.length : Int)) = 9 + (zs.length : Int) := by rw [IntKind.wrap_i64]; omega
  have q8 : 8 < xs.length := by omega
  clear hsl hzs hc
  have HG := fun W (h : Rd bv W W.heap.size (some ⟨b, off, none⟩) c xs) => Lib.hid (rcount_any (some ⟨b, off, none⟩) c xs W h (by omega))
  generalize n64 xs = N at *
  rw [hx.out, HZ.out]
  clear hx HZ
  go_enter Try.func25, Try.ntmps25
  go_wp2_with fail
  rw [← hV]
  clear hV
  refine region_put (by kernel_rfl) (by kernel_rfl) (by kernel_rfl) 31 rfl (by kernel_rfl) V (fun i v W => match i with
      | 0 => v = .agg #[.int .u64 (lo : Int), .int .u64 (hi : Int)]
      | 1 => v = .slice (some ⟨b, off, none⟩) xs.length c
      | 2 => v = .int .i64 (ys.length : Int)
      | 3 => ∃ L A c, v = .slice A L.length c ∧ Hid (L = ys) ∧ Rd bv W W.heap.size A c L
      | 4 => ∃ L A c, v = .slice A L.length c ∧ Hid (L = sgn lo hi ys) ∧ Rd bv W W.heap.size A c L
      | 5 => ∃ L A c, v = .slice A L.length c ∧ Hid (L = xs) ∧ Rd bv W W.heap.size A c L
      | 6 => v = .bool true
      | 7 => v = .bool false
      | _ => True) (Below.refl _ _) ?_ ?_ ?_
  · intro i v W W' h hb
    match i, h with
    | 0, h => exact h
    | 1, h => exact h
    | 2, h => exact h
    | 3, h => obtain ⟨L, A, c, h1, h2, h3⟩ := h; exact ⟨L, A, c, h1, h2, h3.next hb⟩
    | 4, h => obtain ⟨L, A, c, h1, h2, h3⟩ := h; exact ⟨L, A, c, h1, h2, h3.next hb⟩
    | 5, h => obtain ⟨L, A, c, h1, h2, h3⟩ := h; exact ⟨L, A, c, h1, h2, h3.next hb⟩
    | 6, h => exact h
    | 7, h => exact h
    | _ + 8, _ => trivial
  · intro i o uu W hoo hVW hd
    rcases i with _|_|_|_|_|_|_|_|i
    · obtain rfl := Option.some.inj hoo
      refine .inl ⟨wanted_none rfl, ?_⟩
      generalize hev : Act.eval _ = ev
      have ec : ∀ c, ev (.const c) = c := fun c => by rw [← hev]; rfl
      have e2 : ev (.tmp 2) = .pointer (some ⟨w.heap.size, 0, none⟩) := by rw [← hev]; exact eval_old (by kernel_rfl) 31 rfl (by decide) rfl
      clear hev hd
      obtain ⟨cc0, cc1⟩ := HCC W hVW
      exact .inl ⟨_, W, by go_simp, rfl, Below.refl _ _⟩
    · obtain rfl := Option.some.inj hoo
      refine .inl ⟨wanted_none rfl, ?_⟩
      generalize hev : Act.eval _ = ev
      have ec : ∀ c, ev (.const c) = c := fun c => by rw [← hev]; rfl
      have e1 : ev (.tmp 1) = .slice (some ⟨b, off, none⟩) xs.length c := by rw [← hev]; exact eval_old (by kernel_rfl) 31 rfl (by decide) rfl
      clear hev hd
      exact .inl ⟨_, W, by go_simp, rfl, Below.refl _ _⟩
    · obtain rfl := Option.some.inj hoo
      refine .inl ⟨wanted_none rfl, ?_⟩
      generalize hev : Act.eval _ = ev
      have ec : ∀ c, ev (.const c) = c := fun c => by rw [← hev]; rfl
      have e8 : ev (.tmp 8) = .int .i64 (ys.length : Int) := by rw [← hev]; exact eval_old (by kernel_rfl) 31 rfl (by decide) rfl
      clear hev hd
      exact .inl ⟨_, W, by go_simp, rfl, Below.refl _ _⟩
    · obtain rfl := Option.some.inj hoo
      have q1 : uu 1 = .slice (some ⟨b, off, none⟩) xs.length c := hd 1 (by kernel_rfl)
      have q2 : uu 2 = .int .i64 (ys.length : Int) := hd 2 (by kernel_rfl)
      refine .inl ⟨wanted_none rfl, ?_⟩
      generalize hev : Act.eval _ = ev
      have ec : ∀ c, ev (.const c) = c := fun c => by rw [← hev]; rfl
      have e16 : ev (.tmp 16) = .slice (some ⟨b, off, none⟩) xs.length c := by rw [← hev]; exact (eval_put (by kernel_rfl) 31 rfl (by decide)).trans q1
      have e17 : ev (.tmp 17) = .int .i64 (ys.length : Int) := by rw [← hev]; exact (eval_put (by kernel_rfl) 31 rfl (by decide)).trans q2
      clear hev hd q1 q2
      exact .inl ⟨.slice (some ⟨b, off, none⟩) ys.length c, W, by go_simp, ⟨ys, (some ⟨b, off, none⟩), c, rfl, rfl, (rY.next hVW)⟩, Below.refl _ _⟩
    · obtain rfl := Option.some.inj hoo
      have q0 : uu 0 = .agg #[.int .u64 (lo : Int), .int .u64 (hi : Int)] := hd 0 (by kernel_rfl)
      obtain ⟨L3, A3, c3, q3, HL3, r3⟩ := hd 3 (by kernel_rfl)
      refine .inl ⟨wanted_none rfl, ?_⟩
      generalize hev : Act.eval _ = ev
      have ec : ∀ c, ev (.const c) = c := fun c => by rw [← hev]; rfl
      have ef : ∀ f, ev (.func f) = .func (.func f) #[] #[] := fun f => by rw [← hev]; rfl
      have e15 : ev (.tmp 15) = .agg #[.int .u64 (lo : Int), .int .u64 (hi : Int)] := by rw [← hev]; exact (eval_put (by kernel_rfl) 31 rfl (by decide)).trans q0
      have e18 : ev (.tmp 18) = .slice A3 L3.length c3 := by rw [← hev]; exact (eval_put (by kernel_rfl) 31 rfl (by decide)).trans q3
      clear hev hd q0 q3
      exact .inr ⟨_, _, _, by go_simp, rsigned_any lo hi h1 h2 A3 c3 L3 W r3 (by rw [HL3.out]; omega), fun e w' he => by
        obtain ⟨L, A, c, rfl, HL, hr, hb⟩ := he
        exact ⟨_, rfl, ⟨L, A, c, rfl, (by rw [Hid, HL.out, HL3.out]), hr⟩, hb⟩⟩
    · obtain rfl := Option.some.inj hoo
      refine .inl ⟨wanted_none rfl, ?_⟩
      generalize hev : Act.eval _ = ev
      have ec : ∀ c, ev (.const c) = c := fun c => by rw [← hev]; rfl
      have e1 : ev (.tmp 1) = .slice (some ⟨b, off, none⟩) xs.length c := by rw [← hev]; exact eval_old (by kernel_rfl) 31 rfl (by decide) rfl
      clear hev hd
      exact .inl ⟨.slice (some ⟨b, off, none⟩) xs.length c, W, by go_simp, ⟨xs, (some ⟨b, off, none⟩), c, rfl, rfl, (rV.next hVW)⟩, Below.refl _ _⟩
    · obtain rfl := Option.some.inj hoo
      obtain ⟨L4, A4, c4, q4, HL4, r4⟩ := hd 4 (by kernel_rfl)
      obtain ⟨L5, A5, c5, q5, HL5, r5⟩ := hd 5 (by kernel_rfl)
      refine .inl ⟨wanted_none rfl, ?_⟩
      generalize hev : Act.eval _ = ev
      have ec : ∀ c, ev (.const c) = c := fun c => by rw [← hev]; rfl
      have ef : ∀ f, ev (.func f) = .func (.func f) #[] #[] := fun f => by rw [← hev]; rfl
      have e19 : ev (.tmp 19) = .slice A4 L4.length c4 := by rw [← hev]; exact (eval_put (by kernel_rfl) 31 rfl (by decide)).trans q4
      have e20 : ev (.tmp 20) = .slice A5 L5.length c5 := by rw [← hev]; exact (eval_put (by kernel_rfl) 31 rfl (by decide)).trans q5
      clear hev hd q4 q5
      exact .inr ⟨_, _, _, by go_simp, rsame_eq A4 A5 c4 c5 L4 L5 W _ r4 r5 (by rw [HL4.out, HL5.out]; exact hG.out), fun e w' he => ⟨_, he.1, rfl, he.2.bel⟩⟩
    · obtain rfl := Option.some.inj hoo
      have q6 : uu 6 = .bool true := hd 6 (by kernel_rfl)
      refine .inl ⟨wanted_none rfl, ?_⟩
      generalize hev : Act.eval _ = ev
      have ec : ∀ c, ev (.const c) = c := fun c => by rw [← hev]; rfl
      have e21 : ev (.tmp 21) = .bool true := by rw [← hev]; exact (eval_put (by kernel_rfl) 31 rfl (by decide)).trans q6
      clear hev hd q6
      exact .inl ⟨_, W, by go_simp, rfl, Below.refl _ _⟩
    · simp at hoo
  · intro uu W hVW hall
    have q7 : uu 7 = .bool false := hall 7 (by decide)
    have c8b := (hVW.cell (p := ⟨b, off + 8, none⟩) hb).trans c8
    have hb8 : b < W.heap.size := Nat.lt_of_lt_of_le hb hVW.size
    replace hB := hB.trans (hVW.mono hB.size)
    replace K := K.next hVW
    replace rV := rV.next hVW
    replace rZ := rZ.next hVW
    clear hall HCC
    simp only [putAll, Act.put, Nat.reduceAdd, q7]
    simp only [List.setIfInBounds_toArray, List.set_cons_succ, List.set_cons_zero]
    clear q7 hVW rY c8 hb hG
    have c8 := c8b
    clear c8b
    generalize W = V1 at *
    have HCC : ∀ W, Below V1.heap.size V1 W → (W.cell? ⟨w.heap.size, 0, none⟩ = some (.int .u64 (lo : Int)) ∧ W.cell? ⟨w.heap.size, 1, none⟩ = some (.int .u64 (hi : Int)) ∧ W.cell? ⟨b, off + 8, none⟩ = some (.int .u8 (x.toNat : Int))) := by
      intro W h
      obtain ⟨p0, p1, -⟩ := (K.next h).get2
      exact ⟨p0, p1, (h.cell (p := ⟨b, off + 8, none⟩) hb8).trans c8⟩
    have q10 : (ys.length : Int) = 9 + (zs.length : Int) := by omega
    rw [q10]
    clear q1 q2 q3 q10 K
    go_wp2_with fail
    refine region_put (by kernel_rfl) (by kernel_rfl) (by kernel_rfl) 31 rfl (by kernel_rfl) V1 (fun i v W => match i with
        | 0 => v = .slice (some ⟨b, off, none⟩) xs.length c
        | 1 => v = .int .u64 (N : Int)
        | 2 => v = .slice (some ⟨b, off, none⟩) xs.length c
        | 3 => v = .pointer (some ⟨b, off + 8, none⟩)
        | 4 => v = .int .u8 (x.toNat : Int)
        | 5 => v = .slice (some ⟨b, off, none⟩) xs.length c
        | 6 => v = .int .i64 (9 + (zs.length : Int))
        | 7 => ∃ L A c, v = .slice A L.length c ∧ Hid (L = zs) ∧ Rd bv W W.heap.size A c L
        | 8 => v = .int .u64 (N : Int)
        | 9 => v = .int .u8 (x.toNat : Int)
        | 10 => ∃ L A c, v = .slice A L.length c ∧ Hid (L = zs) ∧ Rd bv W W.heap.size A c L
        | 11 => v = .int .i64 0
        | _ => True) (Below.refl _ _) ?_ ?_ ?_
    · intro i v W W' h hb
      match i, h with
      | 0, h => exact h
      | 1, h => exact h
      | 2, h => exact h
      | 3, h => exact h
      | 4, h => exact h
      | 5, h => exact h
      | 6, h => exact h
      | 7, h => obtain ⟨L, A, c, h1, h2, h3⟩ := h; exact ⟨L, A, c, h1, h2, h3.next hb⟩
      | 8, h => exact h
      | 9, h => exact h
      | 10, h => obtain ⟨L, A, c, h1, h2, h3⟩ := h; exact ⟨L, A, c, h1, h2, h3.next hb⟩
      | 11, h => exact h
      | _ + 12, _ => trivial
    · intro i o uu W hoo hVW hd
      rcases i with _|_|_|_|_|_|_|_|_|_|_|_|i
      · obtain rfl := Option.some.inj hoo
        refine .inl ⟨wanted_none rfl, ?_⟩
        generalize hev : Act.eval _ = ev
        have ec : ∀ c, ev (.const c) = c := fun c => by rw [← hev]; rfl
        have e1 : ev (.tmp 1) = .slice (some ⟨b, off, none⟩) xs.length c := by rw [← hev]; exact eval_old (by kernel_rfl) 31 rfl (by decide) rfl
        clear hev hd
        exact .inl ⟨_, W, by go_simp, rfl, Below.refl _ _⟩
      · obtain rfl := Option.some.inj hoo
        have q0 : uu 0 = .slice (some ⟨b, off, none⟩) xs.length c := hd 0 (by kernel_rfl)
        refine .inl ⟨wanted_none rfl, ?_⟩
        generalize hev : Act.eval _ = ev
        have ec : ∀ c, ev (.const c) = c := fun c => by rw [← hev]; rfl
        have ef : ∀ f, ev (.func f) = .func (.func f) #[] #[] := fun f => by rw [← hev]; rfl
        have e23 : ev (.tmp 23) = .slice (some ⟨b, off, none⟩) xs.length c := by rw [← hev]; exact (eval_put (by kernel_rfl) 31 rfl (by decide)).trans q0
        clear hev hd q0
        exact .inr ⟨_, _, _, by go_simp, (HG W (rV.next hVW)).out, fun e w' he => ⟨_, he.1, rfl, he.2⟩⟩
      · obtain rfl := Option.some.inj hoo
        refine .inl ⟨wanted_none rfl, ?_⟩
        generalize hev : Act.eval _ = ev
        have ec : ∀ c, ev (.const c) = c := fun c => by rw [← hev]; rfl
        have e1 : ev (.tmp 1) = .slice (some ⟨b, off, none⟩) xs.length c := by rw [← hev]; exact eval_old (by kernel_rfl) 31 rfl (by decide) rfl
        clear hev hd
        exact .inl ⟨_, W, by go_simp, rfl, Below.refl _ _⟩
      · obtain rfl := Option.some.inj hoo
        have q2 : uu 2 = .slice (some ⟨b, off, none⟩) xs.length c := hd 2 (by kernel_rfl)
        refine .inl ⟨wanted_none rfl, ?_⟩
        generalize hev : Act.eval _ = ev
        have ec : ∀ c, ev (.const c) = c := fun c => by rw [← hev]; rfl
        have e25 : ev (.tmp 25) = .slice (some ⟨b, off, none⟩) xs.length c := by rw [← hev]; exact (eval_put (by kernel_rfl) 31 rfl (by decide)).trans q2
        clear hev hd q2
        exact .inl ⟨_, W, by go_simp, rfl, Below.refl _ _⟩
      · obtain rfl := Option.some.inj hoo
        have q3 : uu 3 = .pointer (some ⟨b, off + 8, none⟩) := hd 3 (by kernel_rfl)
        refine .inl ⟨wanted_none rfl, ?_⟩
        generalize hev : Act.eval _ = ev
        have ec : ∀ c, ev (.const c) = c := fun c => by rw [← hev]; rfl
        have e26 : ev (.tmp 26) = .pointer (some ⟨b, off + 8, none⟩) := by rw [← hev]; exact (eval_put (by kernel_rfl) 31 rfl (by decide)).trans q3
        clear hev hd q3
        obtain ⟨cc0, cc1, cc2⟩ := HCC W hVW
        exact .inl ⟨_, W, by go_simp, rfl, Below.refl _ _⟩
      · obtain rfl := Option.some.inj hoo
        refine .inl ⟨wanted_none rfl, ?_⟩
        generalize hev : Act.eval _ = ev
        have ec : ∀ c, ev (.const c) = c := fun c => by rw [← hev]; rfl
        have e1 : ev (.tmp 1) = .slice (some ⟨b, off, none⟩) xs.length c := by rw [← hev]; exact eval_old (by kernel_rfl) 31 rfl (by decide) rfl
        clear hev hd
        exact .inl ⟨_, W, by go_simp, rfl, Below.refl _ _⟩
      · obtain rfl := Option.some.inj hoo
        refine .inl ⟨wanted_none rfl, ?_⟩
        generalize hev : Act.eval _ = ev
        have ec : ∀ c, ev (.const c) = c := fun c => by rw [← hev]; rfl
        have e8 : ev (.tmp 8) = .int .i64 (9 + (zs.length : Int)) := by rw [← hev]; exact eval_old (by kernel_rfl) 31 rfl (by decide) rfl
        clear hev hd
        exact .inl ⟨_, W, by go_simp, rfl, Below.refl _ _⟩
      · obtain rfl := Option.some.inj hoo
        have q5 : uu 5 = .slice (some ⟨b, off, none⟩) xs.length c := hd 5 (by kernel_rfl)
        have q6 : uu 6 = .int .i64 (9 + (zs.length : Int)) := hd 6 (by kernel_rfl)
        refine .inl ⟨wanted_none rfl, ?_⟩
        generalize hev : Act.eval _ = ev
        have ec : ∀ c, ev (.const c) = c := fun c => by rw [← hev]; rfl
        have e28 : ev (.tmp 28) = .slice (some ⟨b, off, none⟩) xs.length c := by rw [← hev]; exact (eval_put (by kernel_rfl) 31 rfl (by decide)).trans q5
        have e29 : ev (.tmp 29) = .int .i64 (9 + (zs.length : Int)) := by rw [← hev]; exact (eval_put (by kernel_rfl) 31 rfl (by decide)).trans q6
        clear hev hd q5 q6
        exact .inl ⟨.slice A9 zs.length c9, W, by go_simp, ⟨zs, A9, c9, rfl, rfl, (rZ.next hVW)⟩, Below.refl _ _⟩
      · obtain rfl := Option.some.inj hoo
        have q1 : uu 1 = .int .u64 (N : Int) := hd 1 (by kernel_rfl)
        refine .inl ⟨wanted_none rfl, ?_⟩
        generalize hev : Act.eval _ = ev
        have ec : ∀ c, ev (.const c) = c := fun c => by rw [← hev]; rfl
        have e24 : ev (.tmp 24) = .int .u64 (N : Int) := by rw [← hev]; exact (eval_put (by kernel_rfl) 31 rfl (by decide)).trans q1
        clear hev hd q1
        exact .inl ⟨_, W, by go_simp, rfl, Below.refl _ _⟩
      · obtain rfl := Option.some.inj hoo
        have q4 : uu 4 = .int .u8 (x.toNat : Int) := hd 4 (by kernel_rfl)
        refine .inl ⟨wanted_none rfl, ?_⟩
        generalize hev : Act.eval _ = ev
        have ec : ∀ c, ev (.const c) = c := fun c => by rw [← hev]; rfl
        have e27 : ev (.tmp 27) = .int .u8 (x.toNat : Int) := by rw [← hev]; exact (eval_put (by kernel_rfl) 31 rfl (by decide)).trans q4
        clear hev hd q4
        exact .inl ⟨_, W, by go_simp, rfl, Below.refl _ _⟩
      · obtain rfl := Option.some.inj hoo
        obtain ⟨L7, A7, c7, q7, HL7, r7⟩ := hd 7 (by kernel_rfl)
        refine .inl ⟨wanted_none rfl, ?_⟩
        generalize hev : Act.eval _ = ev
        have ec : ∀ c, ev (.const c) = c := fun c => by rw [← hev]; rfl
        have e30 : ev (.tmp 30) = .slice A7 L7.length c7 := by rw [← hev]; exact (eval_put (by kernel_rfl) 31 rfl (by decide)).trans q7
        clear hev hd q7
        exact .inl ⟨_, W, by go_simp, ⟨L7, A7, c7, rfl, HL7, r7⟩, Below.refl _ _⟩
      · obtain rfl := Option.some.inj hoo
        refine .inl ⟨wanted_none rfl, ?_⟩
        generalize hev : Act.eval _ = ev
        have ec : ∀ c, ev (.const c) = c := fun c => by rw [← hev]; rfl
        clear hev hd
        exact .inl ⟨_, W, by go_simp, rfl, Below.refl _ _⟩
      · simp at hoo
    · intro uu W hVW hall
      have q8 : uu 8 = .int .u64 (N : Int) := hall 8 (by decide)
      have q9 : uu 9 = .int .u8 (x.toNat : Int) := hall 9 (by decide)
      have q10 : ∃ L A c, uu 10 = .slice A L.length c ∧ Hid (L = zs) ∧ Rd bv W W.heap.size A c L := hall 10 (by decide)
      obtain ⟨L, A1, c1, q10, HL, r1⟩ := q10
      have q11 : uu 11 = .int .i64 0 := hall 11 (by decide)
      replace hB := hB.trans (hVW.mono hB.size)
      clear hall HCC
      simp only [putAll, Act.put, Nat.reduceAdd, q8, q9, q10, q11]
      simp only [List.setIfInBounds_toArray, List.set_cons_succ, List.set_cons_zero]
      clear q8 q9 q10 q11
      go_wp2_with fail
      (try simp only [Exit.inBlock, Exit.then]); refine bodyPost_ret (results_tmp4 rfl _ _ _) rfl ?_
      exact ⟨L, A1, c1, rfl, HL, r1, hB⟩
end
end Go.Proofs.Ytggcomociojfoaa
