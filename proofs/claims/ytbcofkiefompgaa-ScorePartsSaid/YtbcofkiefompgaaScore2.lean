/- Contracts of package score's Of and Long, and of the reference's functions. -/
import Derived.Test.YtbcofkiefompgaaScore1
import Derived.BigQuiet
import Derived.Deep.QuietTactic
import Derived.Outline
import Derived.RegionTactic
namespace Go.Proofs.Ytbcofkiefompgaa
open Go.RowKit

theorem bfew_le (A : Option Addr) (n c m : Nat) (w : World) (h : n ≤ c) (_hc : c ≤ 9223372036854775807) (hm : m ≤ 1000000) :
    Calls Try.prog 49 #[.slice A n c, .int .i64 m] w fun e w' => e = .returned (.slice A (min n m) c) ∧ w = w' := by
  by_cases h3 : m < n
  · go_enter Try.func49, Try.ntmps49
    go_wp2
    go_ret
    exact ⟨by rw [Nat.min_eq_right (by omega)]; rfl, rfl⟩
  · go_enter Try.func49, Try.ntmps49
    go_wp2
    go_ret
    exact ⟨by rw [Nat.min_eq_left (by omega)]; rfl, rfl⟩
theorem bfew_row {a : Option Addr} {len cap : Nat} {w : World} (h : InBools w a len cap) (m : Nat) (hm : m ≤ 1000000) : ∃ bs : List Bool, bs.length ≤ m ∧ Rd bb w w.heap.size a cap bs ∧
    Hid (Calls Try.prog 49 #[.slice a len cap, .int .i64 m] w fun e w' => e = .returned (.slice a bs.length cap) ∧ w = w') := by
  obtain ⟨bs0, rfl, hb0⟩ := bools_rd h
  have hf := bfew_le a bs0.length cap m w hb0.len hb0.cap hm
  have hmin : min bs0.length m = (bs0.take m).length := by simp [Nat.min_comm]
  rw [hmin] at hf
  exact ⟨bs0.take m, by simp; omega, hb0.take m, hf⟩

theorem moreN_nat (n : Nat) (h : n ≤ 100000) : moreN n = ((n + 1 : Nat) : Int) := by
  unfold moreN
  rw [if_neg (by omega), if_neg (by omega)]
  omega

theorem foldS_take (r f : Int) (l : List Bool) (j : Nat) (h : j < l.length) : foldS r f (l.take (j + 1)) = stepS r f (foldS r f (l.take j)) l[j] := by
  rw [take_one l j h, foldS_snoc]
theorem foldS_le (r f : Int) (l : List Bool) : (foldS r f l).2.1 ≤ l.length ∧ (foldS r f l).2.2 ≤ l.length := by
  rw [(foldS_long r f l).1, (foldS_long r f l).2]
  exact ⟨longS_le _ _, longS_le _ _⟩

theorem ofs_any (l : List Bool) (A : Option Addr) (c : Nat) (rise fall : Int) (w : World) (hr : Rd bb w w.heap.size A c l) (hl : l.length ≤ 1000) :
    Calls Try.prog 50 #[.slice A l.length c, .int .i64 rise, .int .i64 fall] w fun e w' => e = .returned (.agg #[.bool (foldS rise fall l).1, .int .i64 ((foldS rise fall l).2.1 : Nat), .int .i64 ((foldS rise fall l).2.2 : Nat)]) ∧ Below w.heap.size w w' := by
  have hlc := hr.len
  have hcc := hr.cap
  go_enter Try.func50, Try.ntmps50
  go_wp2_with fail
  go_loopw [9, 12] (fun _ i wr => ∃ j : Nat, j ≤ l.length ∧ i = .int .i64 j ∧ Below w.heap.size w wr ∧ Blk wr w.heap.size [.bool false, .int .i64 0, .int .i64 0] 68 ∧ Blk wr (w.heap.size + 1) [.bool (foldS rise fall (l.take j)).1, .int .i64 ((foldS rise fall (l.take j)).2.1 : Nat), .int .i64 ((foldS rise fall (l.take j)).2.2 : Nat)] 68) (fun _ i _ => l.length - (intOf i).toNat)
  case atStart =>
    refine ⟨0, by omega, rfl, bnextA (bnextA (Below.refl _ _) _) _, (Blk.new _ _ _).alloc _, ?_⟩
    have := Blk.new (w.alloc (.cells #[.bool false, .int .i64 0, .int .i64 0] 68)) #[.bool false, .int .i64 0, .int .i64 0] 68
    have h0 : foldS rise fall [] = (false, 0, 0) := rfl
    simpa [h0] using this
  case round =>
    obtain ⟨j, hj, rfl, hbw, hR, hS⟩ := hrel
    by_cases hlt : j < l.length
    · obtain ⟨b, off, rfl, hBB, hcell⟩ := hr.at_ (k := j) hlt
      have c0 := (hbw.cell (p := ⟨b, off + j, none⟩) hBB).trans (hcell j hlt)
      have hst := foldS_take rise fall l j hlt
      have hle := foldS_le rise fall (l.take j)
      have hle1 : (l.take j).length ≤ 1000 := by simp; omega
      have hlt0 : w.heap.size < wr.heap.size := hR.lt
      generalize foldS rise fall (l.take j) = s at hst hS hle
      obtain ⟨u, g, bd⟩ := s
      simp only at hS hle
      have HST := Lib.hid hst
      clear hst hcell
      generalize l[j] = x at c0 HST
      obtain ⟨p0, p1, p2, f0, f1, f2⟩ := hS.get3
      simp only [bb] at c0
      go_wp2_with fail
      cases x
      · obtain ⟨v, hv⟩ : ∃ v, (stepS rise fall (u, g, bd) false).1 = v := ⟨_, rfl⟩
        obtain ⟨m, hm⟩ : ∃ m, bd + 1 = m := ⟨_, rfl⟩
        have hmN := moreN_nat bd (by omega)
        rw [hm] at hmN
        have hiv : (if (m : Int) < fall then u else false) = v := by
          rw [← hv, ← hm]
          by_cases h : ((bd + 1 : Nat) : Int) < fall
          · simp only [stepS]; rw [if_pos h]; simp; omega
          · simp only [stepS]; rw [if_neg h]; simp; omega
        have HV := Lib.hid hv
        have HM := Lib.hid hm
        clear hv
        refine (next_bad u g bd rise fall _ (by omega) m hmN v hiv).mono ?_
        rintro e w1 ⟨rfl, hbel⟩
        have hS1 := hS.next hbel
        have hR1 := hR.next hbel
        have hbw1 := hbw.trans (hbel.mono hbw.size)
        clear p0 p1 p2 f0 f1 f2 c0 hS hR hbel
        obtain ⟨p0, p1, p2, f0, f1, f2⟩ := hS1.get3
        go_wp2_with fail
        go_roundw
        case rel =>
          refine ⟨j + 1, by omega, by go_num, bset3 hbw1 (by omega) _ _ _, hR1.other3 (by omega), ?_⟩
          rw [HST.out]
          have := hS1.set3 (u0 := .bool v) (u1 := .int .i64 0) (u2 := .int .i64 (m : Int))
          have e2 : (stepS rise fall (u, g, bd) false).2 = (0, m) := by rw [← HM.out]; rfl
          rw [e2, HV.out]
          exact this
        case measure => simp [intOf]; omega
      · obtain ⟨v, hv⟩ : ∃ v, (stepS rise fall (u, g, bd) true).1 = v := ⟨_, rfl⟩
        obtain ⟨m, hm⟩ : ∃ m, g + 1 = m := ⟨_, rfl⟩
        have hmN := moreN_nat g (by omega)
        rw [hm] at hmN
        have hiv : (if (m : Int) < rise then u else true) = v := by
          rw [← hv, ← hm]
          by_cases h : ((g + 1 : Nat) : Int) < rise
          · simp only [stepS]; rw [if_pos h]; simp; omega
          · simp only [stepS]; rw [if_neg h]; simp; omega
        have HV := Lib.hid hv
        have HM := Lib.hid hm
        clear hv
        refine (next_good u g bd rise fall _ (by omega) m hmN v hiv).mono ?_
        rintro e w1 ⟨rfl, hbel⟩
        have hS1 := hS.next hbel
        have hR1 := hR.next hbel
        have hbw1 := hbw.trans (hbel.mono hbw.size)
        clear p0 p1 p2 f0 f1 f2 c0 hS hR hbel
        obtain ⟨p0, p1, p2, f0, f1, f2⟩ := hS1.get3
        go_wp2_with fail
        go_roundw
        case rel =>
          refine ⟨j + 1, by omega, by go_num, bset3 hbw1 (by omega) _ _ _, hR1.other3 (by omega), ?_⟩
          rw [HST.out]
          have := hS1.set3 (u0 := .bool v) (u1 := .int .i64 (m : Int)) (u2 := .int .i64 0)
          have e2 : (stepS rise fall (u, g, bd) true).2 = (m, 0) := by rw [← HM.out]; rfl
          rw [e2, HV.out]
          exact this
        case measure => simp [intOf]; omega
    · have : j = l.length := by omega
      subst this
      rw [List.take_length] at hS
      obtain ⟨⟨u, g, bd⟩, hs⟩ : ∃ s, foldS rise fall l = s := ⟨_, rfl⟩
      rw [hs] at hS
      simp only at hS
      have HS0 := Lib.hid hs
      clear hs
      obtain ⟨p0, p1, p2, f0, f1, f2⟩ := hS.get3
      obtain ⟨q0, q1, q2, g0, g1, g2⟩ := hR.get3
      go_wp2_with fail
      simp [bodyPost, results, Try.results50, go_sem, *]
      exact ⟨by rw [HS0.out]; exact ⟨rfl, rfl, rfl⟩, bset3 hbw (Nat.le_refl _) _ _ _⟩

theorem least_any (n : Int) (w : World) (m : Nat) (hm : (if n < 1 then 1 else n) = (m : Int)) :
    Calls Try.prog 76 #[.int .i64 n] w fun e w' => e = .returned (.int .i64 m) ∧ w = w' := by
  rw [← hm]
  by_cases h : n < 1
  · rw [if_pos h]
    go_enter Try.func76, Try.ntmps76
    go_wp2
    go_ret
    exact ⟨rfl, rfl⟩
  · rw [if_neg h]
    go_enter Try.func76, Try.ntmps76
    go_wp2
    go_ret
    exact ⟨rfl, rfl⟩

theorem row_no (l : List Bool) (A : Option Addr) (c k n : Nat) (g : Bool) (w : World) (hr : Rd bb w w.heap.size A c l) (hk : k ≤ l.length) (_hl : l.length ≤ 1000) (hn : l.length < k + n) (hn2 : n ≤ 9223372036854775807) :
    Calls Try.prog 77 #[.slice A l.length c, .int .i64 k, .int .i64 n, .bool g] w fun e w' => e = .returned (.bool false) ∧ w = w' := by
  have hlc := hr.len
  have hcc := hr.cap
  have hd : decide ((l.length : Int) - (k : Int) < (n : Int)) = true := by simp; omega
  go_enter Try.func77, Try.ntmps77
  go_wp2
  go_ret
  exact ⟨rfl, rfl⟩

theorem row_at (l : List Bool) (A : Option Addr) (c k n : Nat) (g : Bool) (w : World) (hr : Rd bb w w.heap.size A c l) (hk : k + n ≤ l.length) (_hl : l.length ≤ 1000) (b : Bool) (hb : b = true ↔ ∀ i, i < n → l[k + i]? = some g) :
    Calls Try.prog 77 #[.slice A l.length c, .int .i64 k, .int .i64 n, .bool g] w fun e w' => e = .returned (.bool b) ∧ w = w' := by
  have hlc := hr.len
  have hcc := hr.cap
  have HB := Lib.hid hb
  clear hb
  have hd : decide ((l.length : Int) - (k : Int) < (n : Int)) = false := by simp; omega
  go_enter Try.func77, Try.ntmps77
  go_wp2_with fail
  go_loop [9] (fun i => ∃ j : Nat, j ≤ n ∧ i = .int .i64 j ∧ Hid (∀ i, i < j → l[k + i]? = some g)) (fun i => n - (intOf i).toNat)
  case atStart => exact ⟨0, by omega, rfl, fun i hi => by omega⟩
  case round =>
    obtain ⟨j, hj, rfl, HJ⟩ := hrel
    by_cases hlt : j < n
    · obtain ⟨bl, off, rfl, hBB, hcell⟩ := hr.at_ (k := k + j) (by omega)
      have c0 := hcell (k + j) (by omega)
      have hx : l[k + j]? = some l[k + j] := by simp
      have HX := Lib.hid hx
      clear hcell hx
      have hw : IntKind.i64.wrap ((k : Int) + (j : Int)) = ((k + j : Nat) : Int) := by rw [IntKind.wrap_i64]; omega
      have ht : ((k : Int) + (j : Int)).toNat = k + j := by omega
      generalize l[k + j] = x at c0 HX
      simp only [bb] at c0
      by_cases hxg : x = g
      · subst hxg
        have hne : (!(x == x)) = false := by simp
        go_wp2
        go_round
        case rel =>
          refine ⟨j + 1, by omega, by go_num, fun i hi => ?_⟩
          by_cases h : i < j
          · exact HJ.out i h
          · obtain rfl : i = j := by omega
            exact HX.out
        case measure => simp [intOf]; omega
      · have hne : (!(x == g)) = true := by simpa using hxg
        obtain rfl : b = false := by
          cases b
          · rfl
          · have := HB.out.1 rfl j hlt
            rw [HX.out] at this
            injection this with this
            exact absurd this hxg
        go_wp2
        go_ret
        exact ⟨rfl, rfl⟩
    · have : j = n := by omega
      subst this
      obtain rfl : b = true := HB.out.2 HJ.out
      go_wp2
      go_ret
      exact ⟨rfl, rfl⟩

theorem row_any (l : List Bool) (A : Option Addr) (c k n : Nat) (g : Bool) (w : World) (hr : Rd bb w w.heap.size A c l) (hk : k ≤ l.length) (hl : l.length ≤ 1000) (hn2 : n ≤ 9223372036854775807) (b : Bool) (hb : b = true ↔ rowS l k n g) :
    Calls Try.prog 77 #[.slice A l.length c, .int .i64 k, .int .i64 n, .bool g] w fun e w' => e = .returned (.bool b) ∧ w = w' := by
  by_cases h : k + n ≤ l.length
  · exact row_at l A c k n g w hr h hl b (hb.trans ⟨fun x => x.2, fun x => ⟨h, x⟩⟩)
  · obtain rfl : b = false := by
      cases b
      · rfl
      · exact absurd (hb.1 rfl).1 h
    exact row_no l A c k n g w hr hk hl (by omega) hn2

theorem bool_of (p : Prop) : ∃ b : Bool, b = true ↔ p := by
  by_cases h : p
  · exact ⟨true, by simp [h]⟩
  · exact ⟨false, by simp [h]⟩

theorem rup_any (l : List Bool) (A : Option Addr) (c : Nat) (rise fall : Int) (w : World) (hr : Rd bb w w.heap.size A c l) (hl : l.length ≤ 1000) (r f : Nat) (hrr : (if rise < 1 then 1 else rise) = (r : Int)) (hff : (if fall < 1 then 1 else fall) = (f : Int)) (hr2 : r ≤ 9223372036854775807) (hf2 : f ≤ 9223372036854775807) (u : Bool) (hu : u = true ↔ upS l r f) :
    Calls Try.prog 51 #[.slice A l.length c, .int .i64 rise, .int .i64 fall] w fun e w' => e = .returned (.bool u) ∧ w = w' := by
  have hlc := hr.len
  have hcc := hr.cap
  have hr1 : 1 ≤ r := by split at hrr <;> omega
  have hf1 : 1 ≤ f := by split at hff <;> omega
  have L1 := fun W => Lib.hid (least_any rise W r hrr)
  have L2 := fun W => Lib.hid (least_any fall W f hff)
  have RW := fun k g b (hk : k ≤ l.length) n (hn : n ≤ 9223372036854775807) (hb : b = true ↔ rowS l k n g) => row_any l A c k n g w hr hk hl hn b hb
  have HU := Lib.hid hu
  clear hu hrr hff
  go_enter Try.func51, Try.ntmps51
  go_wp2_with fail
  refine (L1 _).out.mono ?_
  rintro e w1 ⟨rfl, rfl⟩
  go_wp2_with fail
  refine (L2 _).out.mono ?_
  rintro e w1 ⟨rfl, rfl⟩
  go_wp2_with fail
  go_loop [7, 8, 9] (fun i _ _ => ∃ j : Nat, j ≤ l.length ∧ i = .int .i64 j ∧ Hid (∀ i, i < j → ¬ (rowS l i r true ∧ ∀ k, i + r ≤ k → ¬ rowS l k f false))) (fun i _ _ => l.length - (intOf i).toNat)
  case atStart => exact ⟨0, by omega, rfl, fun i hi => by omega⟩
  case round =>
    obtain ⟨j, hj, rfl, HJ⟩ := hrel
    by_cases hlt : j < l.length
    · obtain ⟨b, hb⟩ := bool_of (rowS l j r true)
      go_wp2_with fail
      refine (RW j true b hj r hr2 hb).mono ?_
      rintro e w1 ⟨rfl, rfl⟩
      cases b
      · have hnb : ¬ rowS l j r true := fun h => by simpa using hb.2 h
        have HNB := Lib.hid hnb
        clear hnb hb
        go_wp2_with fail
        go_round
        case rel =>
          refine ⟨j + 1, by omega, by go_num, fun i hi => ?_⟩
          by_cases h : i < j
          · exact HJ.out i h
          · obtain rfl : i = j := by omega
            exact fun h => HNB.out h.1
        case measure => simp [intOf]; omega
      · have hyes : rowS l j r true := hb.1 rfl
        have hjr : j + r ≤ l.length := hyes.1
        have HY := Lib.hid hyes
        clear hyes hb
        obtain ⟨p, hp⟩ : ∃ p, j + r = p := ⟨_, rfl⟩
        have hwc : ((j : Int) + (r : Int)) = (p : Int) := by omega
        rw [hp] at hjr
        have HP := Lib.hid hp
        clear hp
        go_wp2_with fail
        go_loop [8, 9] (fun d k => ∃ (q : Nat) (b : Bool), p ≤ q ∧ q ≤ l.length ∧ k = .int .i64 q ∧ d = .bool b ∧ Hid (b = true ↔ ∃ m, p ≤ m ∧ m < q ∧ rowS l m f false)) (fun _ k => l.length - (intOf k).toNat)
        case atStart => exact ⟨p, false, Nat.le_refl _, hjr, rfl, rfl, by constructor <;> intro h <;> first | (cases h; done) | (obtain ⟨m, h1, h2, -⟩ := h; omega)⟩
        case round =>
          obtain ⟨q, d, hq1, hq2, rfl, rfl, HD⟩ := hrel
          by_cases hqt : q < l.length
          · cases d
            · obtain ⟨b, hb⟩ := bool_of (rowS l q f false)
              go_wp2_with fail
              refine (RW q false b hq2 f hf2 hb).mono ?_
              rintro e w1 ⟨rfl, rfl⟩
              have HB := Lib.hid hb
              clear hb
              go_wp2_with fail
              go_round
              case rel =>
                refine ⟨q + 1, b, by omega, by omega, by go_num, rfl, ?_⟩
                constructor
                · intro h
                  exact ⟨q, hq1, by omega, HB.out.1 h⟩
                · rintro ⟨m, h1, h2, h3⟩
                  by_cases h : m < q
                  · have := HD.out.2 ⟨m, h1, h, h3⟩
                    cases this
                  · obtain rfl : m = q := by omega
                    exact HB.out.2 h3
              case measure => simp [intOf]; omega
            · go_wp2_with fail
              go_round
              case rel =>
                refine ⟨q + 1, true, by omega, by omega, by go_num, rfl, ?_⟩
                constructor
                · intro _
                  obtain ⟨m, h1, h2, h3⟩ := HD.out.1 rfl
                  exact ⟨m, h1, by omega, h3⟩
                · intro _; rfl
              case measure => simp [intOf]; omega
          · have : q = l.length := by omega
            subst this
            cases d
            · obtain rfl : u = true := HU.out.2 ⟨j, HY.out, fun k hk hrow => by
                have h1 := hrow.1
                have := HD.out.2 ⟨k, by rw [← HP.out]; exact hk, by omega, hrow⟩
                cases this⟩
              go_wp2_with fail
              go_ret
              exact ⟨rfl, rfl⟩
            · obtain ⟨m, h1, h2, h3⟩ := HD.out.1 rfl
              have HN := Lib.hid (show ¬ (rowS l j r true ∧ ∀ k, j + r ≤ k → ¬ rowS l k f false) from fun h => h.2 m (by rw [HP.out]; exact h1) h3)
              clear h1 h2 h3
              go_wp2_with fail
              go_round
              case rel =>
                refine ⟨j + 1, by omega, by go_num, fun i hi => ?_⟩
                by_cases h : i < j
                · exact HJ.out i h
                · obtain rfl : i = j := by omega
                  exact HN.out
              case measure => simp [intOf]; omega
    · have : j = l.length := by omega
      subst this
      obtain rfl : u = false := by
        cases u
        · rfl
        · obtain ⟨i, h1, h2⟩ := HU.out.1 rfl
          have := h1.1
          exact absurd ⟨h1, h2⟩ (HJ.out i (by omega))
      go_wp2_with fail
      go_ret
      exact ⟨rfl, rfl⟩
end Go.Proofs.Ytbcofkiefompgaa
