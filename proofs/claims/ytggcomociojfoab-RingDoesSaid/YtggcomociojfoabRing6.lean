/- A ring and the reference's ring: what the deeds of both come to. -/
import Derived.Test.YtggcomociojfoabRing5
namespace Go.Proofs.Ytggcomociojfoab
open Go.RowKit

theorem modb (a n : Nat) (_hn : 0 < n) (h : a < 2 * n) : (a % n = a ∧ a < n) ∨ (a % n = a - n ∧ n ≤ a) := by
  rcases Nat.lt_or_ge a n with h1 | h1
  · exact .inl ⟨Nat.mod_eq_of_lt h1, h1⟩
  · right
    refine ⟨?_, h1⟩
    rw [Nat.mod_eq_sub_mod h1]
    exact Nat.mod_eq_of_lt (by omega)
/-- The last buffers before the next one are those ready, then those posted. -/
structure Co (n : Nat) (buf : List Int) (nx p r : Nat) (ps rs : List Int) (ever : Nat) : Prop where
  hp : ps.length = p
  hr : rs.length = r
  hx : nx = ever % n
  hb : ∀ t, t < p + r → buf[(nx + n - (p + r) + t) % n]? = (rs ++ ps)[t]?
theorem Co.post {n : Nat} {buf : List Int} {nx p r : Nat} {ps rs : List Int} {ever : Nat} (h : Co n buf nx p r ps rs ever) (hl : buf.length = n) (hnx : nx < n) (hL : p + r < n) (i : Int) : Co n (buf.set nx i) ((nx + 1) % n) (p + 1) r (ps ++ [i]) rs (ever + 1) := by
  refine ⟨by simp [h.hp], h.hr, by rw [h.hx, Nat.mod_add_mod], fun t ht => ?_⟩
  have hp := h.hp
  have hr := h.hr
  have h1 := modb (nx + 1) n (by omega) (by omega)
  have h2 := modb ((nx + 1) % n + n - (p + 1 + r) + t) n (by omega) (by omega)
  by_cases htL : t = p + r
  · subst htL
    have : ((nx + 1) % n + n - (p + 1 + r) + (p + r)) % n = nx := by omega
    rw [this, List.getElem?_set_self (by omega), ← List.append_assoc, List.getElem?_append_right (by simp; omega)]
    simp [hp, hr, show p + r - (r + p) = 0 by omega]
  · have h3 := modb (nx + n - (p + r) + t) n (by omega) (by omega)
    have he : ((nx + 1) % n + n - (p + 1 + r) + t) % n = (nx + n - (p + r) + t) % n := by omega
    have hne : nx ≠ (nx + n - (p + r) + t) % n := by omega
    rw [he, List.getElem?_set_ne hne, h.hb t (by omega), ← List.append_assoc]
    exact (List.getElem?_append_left (by simp; omega)).symm
theorem Co.done {n : Nat} {buf : List Int} {nx p r : Nat} {x : Int} {ps rs : List Int} {ever : Nat} (h : Co n buf nx (p + 1) r (x :: ps) rs ever) : Co n buf nx p (r + 1) ps (rs ++ [x]) ever := by
  have hp := h.hp
  refine ⟨by simpa using hp, by simp [h.hr], h.hx, fun t ht => ?_⟩
  have := h.hb t (by omega)
  rw [show p + (r + 1) = p + 1 + r by omega, this]
  simp
theorem Co.next {n : Nat} {buf : List Int} {nx p r : Nat} {x : Int} {ps rs : List Int} {ever : Nat} (h : Co n buf nx (p + 1) r (x :: ps) rs ever) (hL : p + 1 + r ≤ n) : buf[(nx + n - (p + 1)) % n]? = some x := by
  have := h.hb r (by omega)
  rw [show nx + n - (p + 1 + r) + r = nx + n - (p + 1) by omega] at this
  rw [this, List.getElem?_append_right (by rw [h.hr]; exact Nat.le_refl _), h.hr, Nat.sub_self]
  rfl
theorem Co.first {n : Nat} {buf : List Int} {nx p r : Nat} {x : Int} {ps rs : List Int} {ever : Nat} (h : Co n buf nx p (r + 1) ps (x :: rs) ever) : buf[(nx + n - (p + (r + 1))) % n]? = some x := by
  have := h.hb 0 (by omega)
  rw [Nat.add_zero] at this
  rw [this]
  rfl
theorem Co.reap {n : Nat} {buf : List Int} {nx p r : Nat} {x : Int} {ps rs : List Int} {ever : Nat} (h : Co n buf nx p (r + 1) ps (x :: rs) ever) (hL : p + (r + 1) ≤ n) : Co n buf nx p r ps rs ever := by
  have hr := h.hr
  refine ⟨h.hp, by simpa using hr, h.hx, fun t ht => ?_⟩
  have := h.hb (t + 1) (by omega)
  rw [show nx + n - (p + (r + 1)) + (t + 1) = nx + n - (p + r) + t by omega] at this
  rw [this]
  simp
theorem mod_of (n a c : Nat) (hc : c < n) : (n * a + c) % n = c := by rw [Nat.mul_add_mod, Nat.mod_eq_of_lt hc]
/-- Which of the last p numbers before ever is k modulo n. -/
theorem own_math (n ever p nx k q i : Nat) (hn : 1 ≤ n) (hp : p ≤ n) (_hpe : p ≤ ever) (hx : nx = ever % n) (hk : k < n) (hq : (nx + n - 1 - k) % n = q) (h1 : ever - p ≤ i) (h2 : i < ever) : i % n = k ↔ i + q + 1 = ever := by
  have hnx : nx < n := by rw [hx]; exact Nat.mod_lt _ (by omega)
  have hd := Nat.div_add_mod ever n
  rw [← hx] at hd
  have hq2 := modb (nx + n - 1 - k) n (by omega) (by omega)
  rw [hq] at hq2
  obtain ⟨d, hdd⟩ : ∃ d, d = ever - 1 - i := ⟨_, rfl⟩
  by_cases hc : d < nx
  · have hi : i = n * (ever / n) + (nx - 1 - d) := by omega
    have hm := mod_of n (ever / n) (nx - 1 - d) (by omega)
    rw [← hi] at hm
    rw [hm]
    omega
  · obtain ⟨a, ha⟩ : ∃ a, ever / n = a + 1 := by
      rcases Nat.eq_zero_or_pos (ever / n) with h | h
      · rw [h, Nat.mul_zero] at hd
        omega
      · exact ⟨ever / n - 1, by omega⟩
    rw [ha, Nat.mul_add, Nat.mul_one] at hd
    have hi : i = n * a + (n + nx - 1 - d) := by omega
    have hm := mod_of n a (n + nx - 1 - d) (by omega)
    rw [← hi] at hm
    rw [hm]
    omega

/-- Both rings, in a world that is w0 below its end. -/
def St (w0 : World) (g h G n E : Nat) (w : World) : Prop := ∃ nx p r buf vp vr ps rs ever work, Rg w g h n buf nx p r ∧ Rr w G n vp vr ps rs ever work ∧ Co n buf nx p r ps rs ever ∧ ever ≤ E ∧ Below w0.heap.size w0 w
theorem Rr.drawn {w w' : World} {g n : Nat} {vp vr : Value} {ps rs : List Int} {ever work : Nat} (R : Rr w g n vp vr ps rs ever work) (hd : Drawn w w') : Rr w' g n vp vr ps rs ever work := R.next hd.bel
theorem Rg.drawn {w w' : World} {g h n : Nat} {buf : List Int} {nx p r : Nat} (R : Rg w g h n buf nx p r) (hd : Drawn w w') : Rg w' g h n buf nx p r := R.below hd.bel
section
variable {w0 : World} {g h G n E : Nat}
theorem St.drawn {w w' : World} (s : St w0 g h G n E w) (hd : Drawn w w') : St w0 g h G n E w' := by
  obtain ⟨nx, p, r, buf, vp, vr, ps, rs, ever, work, R, Q, C, he, hb⟩ := s
  exact ⟨nx, p, r, buf, vp, vr, ps, rs, ever, work, R.drawn hd, Q.drawn hd, C, he, hb.trans (hd.below)⟩
theorem St.more {w : World} {E' : Nat} (s : St w0 g h G n E w) (hE : E ≤ E') : St w0 g h G n E' w := by
  obtain ⟨nx, p, r, buf, vp, vr, ps, rs, ever, work, R, Q, C, he, hb⟩ := s
  exact ⟨nx, p, r, buf, vp, vr, ps, rs, ever, work, R, Q, C, Nat.le_trans he hE, hb⟩
theorem post_both {w : World} (s : St w0 g h G n E w) (hE : E + 1 ≤ 100) (h1 : w0.heap.size ≤ h) (h2 : w0.heap.size ≤ g) (h3 : g < G) (h4 : h < G) (i : Int) : ∃ (b : Bool) (M : World → Prop),
    Calls Try.prog 21 #[.pointer (some ⟨g, 0, none⟩), .int .i64 i] w (fun e w1 => e = .returned (.bool b) ∧ M w1) ∧ (∀ w1, M w1 → Below w0.heap.size w0 w1) ∧
    ∀ w1, M w1 → Calls Try.prog 22 #[.pointer (some ⟨G, 0, none⟩), .int .i64 i] w1 (fun e w2 => e = .returned (.bool b) ∧ St w0 g h G n (E + 1) w2) := by
  obtain ⟨nx, p, r, buf, vp, vr, ps, rs, ever, work, R, Q, C, he, hb⟩ := s
  have hp := C.hp
  have hr := C.hr
  have hle := R.prn
  by_cases hf : p + r = n
  · refine ⟨false, fun w1 => w = w1, rpost_full R hf i, fun w1 h => h ▸ hb, fun w1 h => ?_⟩
    subst h
    refine (rrpost_full Q (by omega) i).mono ?_
    rintro e w2 ⟨rfl, hd⟩
    exact ⟨rfl, St.more (St.drawn ⟨nx, p, r, buf, vp, vr, ps, rs, ever, work, R, Q, C, he, hb⟩ hd) (Nat.le_succ _)⟩
  · refine ⟨true, fun w1 => Off g h w w1 ∧ Rg w1 g h n (buf.set nx i) ((nx + 1) % n) (p + 1) r, rpost_off R (by omega) i, fun w1 h => hb.trans (h.1.bel h2 h1 hb.size), fun w1 h => ?_⟩
    obtain ⟨hO, R1⟩ := h
    refine (rrpost_ok (Q.off hO h3 h4) (by omega) (by omega) i).mono ?_
    rintro e w2 ⟨rfl, hO2, vp', Q2⟩
    exact ⟨rfl, _, _, _, _, _, _, _, _, _, _, R1.off hO2 (by omega) (by omega), Q2, C.post R.len R.nxn (by omega) i, by omega, (hb.trans (hO.bel h2 h1 hb.size)).trans (hO2.bel (by omega) (by omega) (Nat.le_trans hb.size hO.size))⟩
theorem done_both {w : World} (s : St w0 g h G n E w) (h1 : w0.heap.size ≤ h) (h2 : w0.heap.size ≤ g) (h3 : g < G) (h4 : h < G) : ∃ (b : Bool) (M : World → Prop),
    Calls Try.prog 23 #[.pointer (some ⟨g, 0, none⟩)] w (fun e w1 => e = .returned (.bool b) ∧ M w1) ∧ (∀ w1, M w1 → Below w0.heap.size w0 w1) ∧
    ∀ w1, M w1 → Calls Try.prog 24 #[.pointer (some ⟨G, 0, none⟩)] w1 (fun e w2 => e = .returned (.bool b) ∧ St w0 g h G n E w2) := by
  obtain ⟨nx, p, r, buf, vp, vr, ps, rs, ever, work, R, Q, C, he, hb⟩ := s
  have hp := C.hp
  have hle := R.prn
  cases ps with
  | nil =>
    obtain rfl : p = 0 := by simpa using hp.symm
    refine ⟨false, fun w1 => w = w1, rdone_none R, fun w1 h => h ▸ hb, fun w1 h => ?_⟩
    subst h
    refine (rrdone_none Q).mono ?_
    rintro e w2 ⟨rfl, rfl⟩
    exact ⟨rfl, nx, 0, r, buf, vp, vr, [], rs, ever, work, R, Q, C, he, hb⟩
  | cons x ps =>
    obtain ⟨q, rfl⟩ : ∃ q, p = q + 1 := ⟨ps.length, by simpa using hp.symm⟩
    refine ⟨true, fun w1 => Off g h w w1 ∧ Rg w1 g h n buf nx q (r + 1), rdone_off R, fun w1 h => hb.trans (h.1.bel h2 h1 hb.size), fun w1 h => ?_⟩
    obtain ⟨hO, R1⟩ := h
    refine (rrdone_ok (Q.off hO h3 h4)).mono ?_
    rintro e w2 ⟨rfl, hO2, vp', vr', Q2⟩
    exact ⟨rfl, _, _, _, _, _, _, _, _, _, _, R1.off hO2 (by omega) (by omega), Q2, C.done, he, (hb.trans (hO.bel h2 h1 hb.size)).trans (hO2.bel (by omega) (by omega) (Nat.le_trans hb.size hO.size))⟩
theorem reap_both {w : World} (s : St w0 g h G n E w) (h1 : w0.heap.size ≤ h) (h2 : w0.heap.size ≤ g) (h3 : g < G) (h4 : h < G) : ∃ (x : Int) (b : Bool) (M : World → Prop),
    Calls Try.prog 25 #[.pointer (some ⟨g, 0, none⟩)] w (fun e w1 => e = .returned (.tuple #[.int .i64 x, .bool b]) ∧ M w1) ∧ (∀ w1, M w1 → Below w0.heap.size w0 w1) ∧
    ∀ w1, M w1 → Calls Try.prog 26 #[.pointer (some ⟨G, 0, none⟩)] w1 (fun e w2 => e = .returned (.tuple #[.int .i64 x, .bool b]) ∧ St w0 g h G n E w2) := by
  obtain ⟨nx, p, r, buf, vp, vr, ps, rs, ever, work, R, Q, C, he, hb⟩ := s
  have hr := C.hr
  have hle := R.prn
  cases rs with
  | nil =>
    obtain rfl : r = 0 := by simpa using hr.symm
    refine ⟨0, false, fun w1 => w = w1, rreap_none R, fun w1 h => h ▸ hb, fun w1 h => ?_⟩
    subst h
    refine (rrreap_none Q).mono ?_
    rintro e w2 ⟨rfl, rfl⟩
    exact ⟨rfl, nx, p, 0, buf, vp, vr, ps, [], ever, work, R, Q, C, he, hb⟩
  | cons x rs =>
    obtain ⟨q, rfl⟩ : ∃ q, r = q + 1 := ⟨rs.length, by simpa using hr.symm⟩
    refine ⟨x, true, fun w1 => Off g h w w1 ∧ Rg w1 g h n buf nx p q, rreap_off R _ rfl x C.first, fun w1 h => hb.trans (h.1.bel h2 h1 hb.size), fun w1 h => ?_⟩
    obtain ⟨hO, R1⟩ := h
    refine (rrreap_ok (Q.off hO h3 h4)).mono ?_
    rintro e w2 ⟨rfl, hO2, vr', Q2⟩
    exact ⟨rfl, _, _, _, _, _, _, _, _, _, _, R1.off hO2 (by omega) (by omega), Q2, C.reap (by omega), he, (hb.trans (hO.bel h2 h1 hb.size)).trans (hO2.bel (by omega) (by omega) (Nat.le_trans hb.size hO.size))⟩
theorem next_both {w : World} (s : St w0 g h G n E w) : ∃ (x : Int) (b : Bool), ∀ W, Drawn w W →
    Hid (Calls Try.prog 27 #[.pointer (some ⟨g, 0, none⟩)] W (fun e w1 => e = .returned (.tuple #[.int .i64 x, .bool b]) ∧ Drawn W w1)) ∧
    Hid (Calls Try.prog 28 #[.pointer (some ⟨G, 0, none⟩)] W (fun e w1 => e = .returned (.tuple #[.int .i64 x, .bool b]) ∧ W = w1)) := by
  obtain ⟨nx, p, r, buf, vp, vr, ps, rs, ever, work, R, Q, C, he, hb⟩ := s
  have hp := C.hp
  have hle := R.prn
  cases ps with
  | nil =>
    obtain rfl : p = 0 := by simpa using hp.symm
    exact ⟨0, false, fun W hd => ⟨(rnext_none (R.drawn hd)).mono fun e w1 ⟨he, hw⟩ => ⟨he, hw ▸ Drawn.refl _⟩, rrnext_none (Q.drawn hd)⟩⟩
  | cons x ps =>
    obtain ⟨q, rfl⟩ : ∃ q, p = q + 1 := ⟨ps.length, by simpa using hp.symm⟩
    exact ⟨x, true, fun W hd => ⟨rnext_ok (R.drawn hd) _ rfl x (C.next hle), rrnext_ok (Q.drawn hd)⟩⟩
theorem own_both {w : World} (s : St w0 g h G n E w) (k : Int) : ∃ (b : Bool), ∀ W, Drawn w W →
    Hid (Calls Try.prog 32 #[.pointer (some ⟨g, 0, none⟩), .int .i64 k] W (fun e w1 => e = .returned (.bool b) ∧ Drawn W w1)) ∧
    Hid (Calls Try.prog 33 #[.pointer (some ⟨G, 0, none⟩), .int .i64 k] W (fun e w1 => e = .returned (.bool b) ∧ W = w1)) := by
  obtain ⟨nx, p, r, buf, vp, vr, ps, rs, ever, work, R, Q, C, he, hb⟩ := s
  have hp := C.hp
  have hle := R.prn
  have hn1 := R.n1
  have hew := Q.ew
  by_cases hk : k < 0 ∨ (n : Int) ≤ k
  · refine ⟨false, fun W hd => ⟨(rown_out (R.drawn hd) k hk).mono fun e w1 ⟨he, hw⟩ => ⟨he, hw ▸ Drawn.refl _⟩, rrown_no (Q.drawn hd) hn1 k fun i _ _ h => ?_⟩⟩
    have := Nat.mod_lt i (show 0 < n by omega)
    generalize i % n = z at *
    omega
  · obtain ⟨k, rfl⟩ : ∃ m : Nat, k = (m : Int) := ⟨k.toNat, by omega⟩
    obtain ⟨q, hq⟩ : ∃ q, (nx + n - 1 - k) % n = q := ⟨_, rfl⟩
    have hM := fun i (h1 : work ≤ i) (h2 : i < ever) => own_math n ever p nx k q i hn1 (by omega) (by omega) C.hx (by omega) hq (by omega) h2
    by_cases hqp : q < p
    · refine ⟨true, fun W hd => ⟨rown_any (R.drawn hd) k q (by omega) hq true (by simp [hqp]), rrown_yes (Q.drawn hd) hn1 k (ever - 1 - q) (by omega) (by omega) ((hM _ (by omega) (by omega)).mpr (by omega)) fun i h1 h2 h3 => ?_⟩⟩
      have := (hM i h1 (by omega)).mp h3
      omega
    · refine ⟨false, fun W hd => ⟨rown_any (R.drawn hd) k q (by omega) hq false (by simp; omega), rrown_no (Q.drawn hd) hn1 (k : Int) fun i h1 h2 h3 => ?_⟩⟩
      have := (hM i h1 h2).mp (Int.natCast_inj.mp h3)
      omega
theorem own_bel {w : World} (s : St w0 g h G n E w) (k : Int) : ∃ (b : Bool), ∀ W, Below w.heap.size w W →
    Hid (Calls Try.prog 32 #[.pointer (some ⟨g, 0, none⟩), .int .i64 k] W (fun e w1 => e = .returned (.bool b) ∧ Drawn W w1)) ∧
    Hid (Calls Try.prog 33 #[.pointer (some ⟨G, 0, none⟩), .int .i64 k] W (fun e w1 => e = .returned (.bool b) ∧ W = w1)) := by
  obtain ⟨nx, p, r, buf, vp, vr, ps, rs, ever, work, R, Q, C, he, hb⟩ := s
  have hp := C.hp
  have hle := R.prn
  have hn1 := R.n1
  have hew := Q.ew
  by_cases hk : k < 0 ∨ (n : Int) ≤ k
  · refine ⟨false, fun W hd => ⟨(rown_out (R.below hd) k hk).mono fun e w1 ⟨he, hw⟩ => ⟨he, hw ▸ Drawn.refl _⟩, rrown_no (Q.next hd) hn1 k fun i _ _ h => ?_⟩⟩
    have := Nat.mod_lt i (show 0 < n by omega)
    generalize i % n = z at *
    omega
  · obtain ⟨k, rfl⟩ : ∃ m : Nat, k = (m : Int) := ⟨k.toNat, by omega⟩
    obtain ⟨q, hq⟩ : ∃ q, (nx + n - 1 - k) % n = q := ⟨_, rfl⟩
    have hM := fun i (h1 : work ≤ i) (h2 : i < ever) => own_math n ever p nx k q i hn1 (by omega) (by omega) C.hx (by omega) hq (by omega) h2
    by_cases hqp : q < p
    · refine ⟨true, fun W hd => ⟨rown_any (R.below hd) k q (by omega) hq true (by simp [hqp]), rrown_yes (Q.next hd) hn1 k (ever - 1 - q) (by omega) (by omega) ((hM _ (by omega) (by omega)).mpr (by omega)) fun i h1 h2 h3 => ?_⟩⟩
      have := (hM i h1 (by omega)).mp h3
      omega
    · refine ⟨false, fun W hd => ⟨rown_any (R.below hd) k q (by omega) hq false (by simp; omega), rrown_no (Q.next hd) hn1 (k : Int) fun i h1 h2 h3 => ?_⟩⟩
      have := (hM i h1 h2).mp (Int.natCast_inj.mp h3)
      omega
end
end Go.Proofs.Ytggcomociojfoab
