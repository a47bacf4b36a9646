/- The walk of the statement on octet.Hex and Unhex. -/
import Derived.Test.YtjmnedkkpohboaaOct3
import Derived.Test.YtjmnedkkpohboaaHex2
namespace Go.Proofs.Ytjmnedkkpohboaa
open Go.RowKit

theorem unhex_good (s : ByteArray) (w : World) (hl : s.size ≤ 1000) (hg : good s.data.toList = true) :
    Calls Try.prog 22 #[.string s] w fun e w' => ∃ v, e = .returned (.tuple #[v, .int .i64 0]) ∧ Own bv w' w.heap.size 5 v (pairs s.data.toList) ∧ Below w.heap.size w w' :=
  (unhex_any s w (by omega)).mono fun e w' ⟨h, hb⟩ => by
    rcases h with ⟨_, v, he, ho⟩ | ⟨hf, _⟩
    · exact ⟨v, he, ho, hb⟩
    · rw [hg] at hf; cases hf
theorem unhex_bad (s : ByteArray) (w : World) (hl : s.size ≤ 1000) (hg : good s.data.toList = false) :
    Calls Try.prog 22 #[.string s] w fun e w' => e = .returned (.tuple #[.slice none 0 0, .int .i64 3]) ∧ Below w.heap.size w w' :=
  (unhex_any s w (by omega)).mono fun e w' ⟨h, hb⟩ => by
    rcases h with ⟨hf, _⟩ | ⟨_, he⟩
    · rw [hg] at hf; cases hf
    · exact ⟨he, hb⟩
theorem runhex_good (s : ByteArray) (w : World) (hl : s.size ≤ 1000) (hg : good s.data.toList = true) :
    Calls Try.prog 23 #[.string s] w fun e w' => ∃ v, e = .returned (.tuple #[v, .int .i64 0]) ∧ Own bv w' w.heap.size 5 v (pairs s.data.toList) ∧ Below w.heap.size w w' :=
  (runhex_any s w (by omega)).mono fun e w' ⟨h, hb⟩ => by
    rcases h with ⟨_, v, he, ho⟩ | ⟨hf, _⟩
    · exact ⟨v, he, ho, hb⟩
    · rw [hg] at hf; cases hf
theorem runhex_bad (s : ByteArray) (w : World) (hl : s.size ≤ 1000) (hg : good s.data.toList = false) :
    Calls Try.prog 23 #[.string s] w fun e w' => e = .returned (.tuple #[.slice none 0 0, .int .i64 3]) ∧ Below w.heap.size w w' :=
  (runhex_any s w (by omega)).mono fun e w' ⟨h, hb⟩ => by
    rcases h with ⟨hf, _⟩ | ⟨_, he⟩
    · rw [hg] at hf; cases hf
    · exact ⟨he, hb⟩
theorem rsame_nil (w : World) : Calls Try.prog 12 #[.slice none 0 0, .slice none 0 0] w fun e w' => e = .returned (.bool true) ∧ Drawn w w' :=
  rsame_yes none none 0 0 [] w w.heap.size (Rd.nil0 _ _ _) (Rd.nil0 _ _ _)

theorem val_fig : ∀ n, n < 16 → val (fig n) = n := by decide
theorem pairs_hexs (l : List UInt8) : pairs (hexs l) = l := by
  induction l with
  | nil => rfl
  | cons x l ih =>
    have hx := x.toNat_lt
    show pairs (fig (x.toNat / 16) :: fig (x.toNat % 16) :: hexs l) = x :: l
    rw [pairs, ih, val_fig _ (by omega), val_fig _ (by omega)]
    congr 1
    apply UInt8.toNat_inj.1
    simp
    omega
theorem allFig_hexs (l : List UInt8) : allFig (hexs l) = true := by
  induction l with
  | nil => rfl
  | cons x l ih =>
    have hx := x.toNat_lt
    show allFig (fig (x.toNat / 16) :: fig (x.toNat % 16) :: hexs l) = true
    unfold allFig at ih ⊢
    rw [List.all_cons, List.all_cons, ih, val_fig _ (by omega), val_fig _ (by omega)]
    simp
    omega
theorem good_hexs (l : List UInt8) : good (hexs l) = true := by
  simp [good, allFig_hexs, hexs_len]

set_option maxHeartbeats 4000000 in
theorem OctetHex_walk (a0 : Option Addr) (len0 cap0 : Nat) (z0 : List Int) (a1 : ByteArray) (w : World) (w0 : InRow .u8 w a0 len0 cap0 z0) (w1 : a1.size ≤ maxLen) :
    Calls Try.prog 6 #[.slice a0 len0 cap0, .string a1] w fun e w' => e = .returned (.bool true) ∧ Below w.heap.size w w' := by
  obtain ⟨bs0, rfl, hb0⟩ := row_rd w0
  have hlc := hb0.len
  have hcc := hb0.cap
  have hb := hb0.take 300
  have hmin : min bs0.length 300 = (bs0.take 300).length := by simp [Nat.min_comm]
  have hbl : (bs0.take 300).length ≤ 300 := by simp; omega
  have HF := few_any a0 bs0.length cap0 w hlc hcc
  rw [hmin] at HF
  clear hb0 w0
  generalize bs0.take 300 = bs at hb hmin hbl HF
  have HF := Lib.hid HF
  clear hmin hlc hcc
  unfold maxLen at w1
  have HSZ := Lib.hid (show (⟨(hexs bs).toArray⟩ : ByteArray).size ≤ 1000 by
    show (hexs bs).toArray.size ≤ 1000
    rw [List.size_toArray, hexs_len]; omega)
  have HGH := Lib.hid (good_hexs bs)
  by_cases hbig : 300 < a1.size
  · have hs : (a1.extract 0 300).size ≤ 1000 := by simp [ByteArray.size_extract]; omega
    generalize hex : a1.extract 0 300 = s at hs
    by_cases hg : good s.data.toList = true
    · have HGS := Lib.hid hg
      clear hg
      go_enter Try.func6, Try.ntmps6
      go_wp2_with fail
      refine HF.out.mono ?_; rintro e w1 ⟨rfl, rfl⟩
      go_wp2_with fail
      refine (unhex_good s w hs HGS.out).mono ?_
      rintro e w1 ⟨v1, rfl, hown1, hbel1⟩
      obtain ⟨L1, A1, c1, HL1, rfl, hr1⟩ := hown1.rdv
      have hB1 := bnext (Below.refl w.heap.size w) hbel1
      have hbs1 := hb.next hbel1
      clear hown1 hbel1
      go_wp2_with fail
      refine (runhex_good s _ hs HGS.out).mono ?_
      rintro e w2 ⟨v2, rfl, hown2, hbel2⟩
      obtain ⟨L2, A2, c2, HL2, rfl, hr2⟩ := hown2.rdv
      have hB2 := bnext hB1 hbel2
      have hbs2 := hbs1.next hbel2
      have hr1 := hr1.next hbel2
      clear hown2 hbel2 hB1 hbs1
      go_wp2_with fail
      refine (hex_any _ _ bs _ hbs2 (by omega)).mono ?_
      rintro e w3 ⟨rfl, hbel3⟩
      have hB3 := bnext hB2 hbel3
      have hbs3 := hbs2.next hbel3
      have hr1 := hr1.next hbel3
      have hr2 := hr2.next hbel3
      clear hbel3 hB2 hbs2
      go_wp2_with fail
      refine (rhex_any _ _ bs _ hbs3 (by omega)).mono ?_
      rintro e w4 ⟨rfl, hbel4⟩
      have hB4 := bnext hB3 hbel4
      have hbs4 := hbs3.next hbel4
      have hr1 := hr1.next hbel4
      have hr2 := hr2.next hbel4
      clear hbel4 hB3 hbs3
      go_wp2_with fail
      refine (rsame_eq _ _ _ _ _ _ _ _ hr1 hr2 (by rw [HL1.out, HL2.out])).mono ?_
      rintro e w5 ⟨rfl, hd5⟩
      have hB5 := bnextD hB4 hd5
      have hbs5 := hbs4.nextD hd5
      clear hd5 hB4 hbs4 hr1 hr2
      go_wp2_with fail
      refine (hex_any _ _ bs _ hbs5 (by omega)).mono ?_
      rintro e w6 ⟨rfl, hbel6⟩
      have hB6 := bnext hB5 hbel6
      have hbs6 := hbs5.next hbel6
      clear hbel6 hB5 hbs5
      go_wp2_with fail
      refine (unhex_good _ _ HSZ.out HGH.out).mono ?_
      rintro e w7 ⟨v7, rfl, hown7, hbel7⟩
      obtain ⟨L7, A7, c7, HL7, rfl, hr7⟩ := hown7.rdv
      have hB7 := bnext hB6 hbel7
      have hbs7 := hbs6.next hbel7
      clear hown7 hbel7 hB6 hbs6
      go_wp2_with fail
      refine (rsame_eq _ _ _ _ _ _ _ _ hr7 hbs7 (by rw [HL7.out]; exact pairs_hexs bs)).mono ?_
      rintro e w8 ⟨rfl, hd8⟩
      have hB8 := bnextD hB7 hd8
      clear hd8 hB7 hr7 hbs7
      go_wp2_with (go_at_call 11; refine (lives_any _).mono ?_; rintro e w15 ⟨rfl, hbel⟩)
      go_ret
      exact ⟨rfl, bnext hB8 hbel⟩
    · have hg : good s.data.toList = false := by simpa using hg
      have HGS := Lib.hid hg
      clear hg
      go_enter Try.func6, Try.ntmps6
      go_wp2_with fail
      refine HF.out.mono ?_; rintro e w1 ⟨rfl, rfl⟩
      go_wp2_with fail
      refine (unhex_bad s w hs HGS.out).mono ?_
      rintro e w1 ⟨rfl, hbel1⟩
      have hr1 := Rd.nil0 bv w1 w1.heap.size
      have hB1 := bnext (Below.refl w.heap.size w) hbel1
      have hbs1 := hb.next hbel1
      clear hbel1
      go_wp2_with fail
      refine (runhex_bad s _ hs HGS.out).mono ?_
      rintro e w2 ⟨rfl, hbel2⟩
      have hr2 := Rd.nil0 bv w2 w2.heap.size
      have hB2 := bnext hB1 hbel2
      have hbs2 := hbs1.next hbel2
      have hr1 := hr1.next hbel2
      clear hbel2 hB1 hbs1
      go_wp2_with fail
      refine (hex_any _ _ bs _ hbs2 (by omega)).mono ?_
      rintro e w3 ⟨rfl, hbel3⟩
      have hB3 := bnext hB2 hbel3
      have hbs3 := hbs2.next hbel3
      have hr1 := hr1.next hbel3
      have hr2 := hr2.next hbel3
      clear hbel3 hB2 hbs2
      go_wp2_with fail
      refine (rhex_any _ _ bs _ hbs3 (by omega)).mono ?_
      rintro e w4 ⟨rfl, hbel4⟩
      have hB4 := bnext hB3 hbel4
      have hbs4 := hbs3.next hbel4
      have hr1 := hr1.next hbel4
      have hr2 := hr2.next hbel4
      clear hbel4 hB3 hbs3
      go_wp2_with fail
      refine (rsame_nil _).mono ?_
      rintro e w5 ⟨rfl, hd5⟩
      have hB5 := bnextD hB4 hd5
      have hbs5 := hbs4.nextD hd5
      clear hd5 hB4 hbs4 hr1 hr2
      go_wp2_with fail
      refine (hex_any _ _ bs _ hbs5 (by omega)).mono ?_
      rintro e w6 ⟨rfl, hbel6⟩
      have hB6 := bnext hB5 hbel6
      have hbs6 := hbs5.next hbel6
      clear hbel6 hB5 hbs5
      go_wp2_with fail
      refine (unhex_good _ _ HSZ.out HGH.out).mono ?_
      rintro e w7 ⟨v7, rfl, hown7, hbel7⟩
      obtain ⟨L7, A7, c7, HL7, rfl, hr7⟩ := hown7.rdv
      have hB7 := bnext hB6 hbel7
      have hbs7 := hbs6.next hbel7
      clear hown7 hbel7 hB6 hbs6
      go_wp2_with fail
      refine (rsame_eq _ _ _ _ _ _ _ _ hr7 hbs7 (by rw [HL7.out]; exact pairs_hexs bs)).mono ?_
      rintro e w8 ⟨rfl, hd8⟩
      have hB8 := bnextD hB7 hd8
      clear hd8 hB7 hr7 hbs7
      go_wp2_with (go_at_call 11; refine (lives_any _).mono ?_; rintro e w15 ⟨rfl, hbel⟩)
      go_ret
      exact ⟨rfl, bnext hB8 hbel⟩
  · have hs : a1.size ≤ 1000 := by omega
    obtain ⟨s, rfl⟩ : ∃ s, s = a1 := ⟨_, rfl⟩
    by_cases hg : good s.data.toList = true
    · have HGS := Lib.hid hg
      clear hg
      go_enter Try.func6, Try.ntmps6
      go_wp2_with fail
      refine HF.out.mono ?_; rintro e w1 ⟨rfl, rfl⟩
      go_wp2_with fail
      refine (unhex_good s w hs HGS.out).mono ?_
      rintro e w1 ⟨v1, rfl, hown1, hbel1⟩
      obtain ⟨L1, A1, c1, HL1, rfl, hr1⟩ := hown1.rdv
      have hB1 := bnext (Below.refl w.heap.size w) hbel1
      have hbs1 := hb.next hbel1
      clear hown1 hbel1
      go_wp2_with fail
      refine (runhex_good s _ hs HGS.out).mono ?_
      rintro e w2 ⟨v2, rfl, hown2, hbel2⟩
      obtain ⟨L2, A2, c2, HL2, rfl, hr2⟩ := hown2.rdv
      have hB2 := bnext hB1 hbel2
      have hbs2 := hbs1.next hbel2
      have hr1 := hr1.next hbel2
      clear hown2 hbel2 hB1 hbs1
      go_wp2_with fail
      refine (hex_any _ _ bs _ hbs2 (by omega)).mono ?_
      rintro e w3 ⟨rfl, hbel3⟩
      have hB3 := bnext hB2 hbel3
      have hbs3 := hbs2.next hbel3
      have hr1 := hr1.next hbel3
      have hr2 := hr2.next hbel3
      clear hbel3 hB2 hbs2
      go_wp2_with fail
      refine (rhex_any _ _ bs _ hbs3 (by omega)).mono ?_
      rintro e w4 ⟨rfl, hbel4⟩
      have hB4 := bnext hB3 hbel4
      have hbs4 := hbs3.next hbel4
      have hr1 := hr1.next hbel4
      have hr2 := hr2.next hbel4
      clear hbel4 hB3 hbs3
      go_wp2_with fail
      refine (rsame_eq _ _ _ _ _ _ _ _ hr1 hr2 (by rw [HL1.out, HL2.out])).mono ?_
      rintro e w5 ⟨rfl, hd5⟩
      have hB5 := bnextD hB4 hd5
      have hbs5 := hbs4.nextD hd5
      clear hd5 hB4 hbs4 hr1 hr2
      go_wp2_with fail
      refine (hex_any _ _ bs _ hbs5 (by omega)).mono ?_
      rintro e w6 ⟨rfl, hbel6⟩
      have hB6 := bnext hB5 hbel6
      have hbs6 := hbs5.next hbel6
      clear hbel6 hB5 hbs5
      go_wp2_with fail
      refine (unhex_good _ _ HSZ.out HGH.out).mono ?_
      rintro e w7 ⟨v7, rfl, hown7, hbel7⟩
      obtain ⟨L7, A7, c7, HL7, rfl, hr7⟩ := hown7.rdv
      have hB7 := bnext hB6 hbel7
      have hbs7 := hbs6.next hbel7
      clear hown7 hbel7 hB6 hbs6
      go_wp2_with fail
      refine (rsame_eq _ _ _ _ _ _ _ _ hr7 hbs7 (by rw [HL7.out]; exact pairs_hexs bs)).mono ?_
      rintro e w8 ⟨rfl, hd8⟩
      have hB8 := bnextD hB7 hd8
      clear hd8 hB7 hr7 hbs7
      go_wp2_with (go_at_call 11; refine (lives_any _).mono ?_; rintro e w15 ⟨rfl, hbel⟩)
      go_ret
      exact ⟨rfl, bnext hB8 hbel⟩
    · have hg : good s.data.toList = false := by simpa using hg
      have HGS := Lib.hid hg
      clear hg
      go_enter Try.func6, Try.ntmps6
      go_wp2_with fail
      refine HF.out.mono ?_; rintro e w1 ⟨rfl, rfl⟩
      go_wp2_with fail
      refine (unhex_bad s w hs HGS.out).mono ?_
      rintro e w1 ⟨rfl, hbel1⟩
      have hr1 := Rd.nil0 bv w1 w1.heap.size
      have hB1 := bnext (Below.refl w.heap.size w) hbel1
      have hbs1 := hb.next hbel1
      clear hbel1
      go_wp2_with fail
      refine (runhex_bad s _ hs HGS.out).mono ?_
      rintro e w2 ⟨rfl, hbel2⟩
      have hr2 := Rd.nil0 bv w2 w2.heap.size
      have hB2 := bnext hB1 hbel2
      have hbs2 := hbs1.next hbel2
      have hr1 := hr1.next hbel2
      clear hbel2 hB1 hbs1
      go_wp2_with fail
      refine (hex_any _ _ bs _ hbs2 (by omega)).mono ?_
      rintro e w3 ⟨rfl, hbel3⟩
      have hB3 := bnext hB2 hbel3
      have hbs3 := hbs2.next hbel3
      have hr1 := hr1.next hbel3
      have hr2 := hr2.next hbel3
      clear hbel3 hB2 hbs2
      go_wp2_with fail
      refine (rhex_any _ _ bs _ hbs3 (by omega)).mono ?_
      rintro e w4 ⟨rfl, hbel4⟩
      have hB4 := bnext hB3 hbel4
      have hbs4 := hbs3.next hbel4
      have hr1 := hr1.next hbel4
      have hr2 := hr2.next hbel4
      clear hbel4 hB3 hbs3
      go_wp2_with fail
      refine (rsame_nil _).mono ?_
      rintro e w5 ⟨rfl, hd5⟩
      have hB5 := bnextD hB4 hd5
      have hbs5 := hbs4.nextD hd5
      clear hd5 hB4 hbs4 hr1 hr2
      go_wp2_with fail
      refine (hex_any _ _ bs _ hbs5 (by omega)).mono ?_
      rintro e w6 ⟨rfl, hbel6⟩
      have hB6 := bnext hB5 hbel6
      have hbs6 := hbs5.next hbel6
      clear hbel6 hB5 hbs5
      go_wp2_with fail
      refine (unhex_good _ _ HSZ.out HGH.out).mono ?_
      rintro e w7 ⟨v7, rfl, hown7, hbel7⟩
      obtain ⟨L7, A7, c7, HL7, rfl, hr7⟩ := hown7.rdv
      have hB7 := bnext hB6 hbel7
      have hbs7 := hbs6.next hbel7
      clear hown7 hbel7 hB6 hbs6
      go_wp2_with fail
      refine (rsame_eq _ _ _ _ _ _ _ _ hr7 hbs7 (by rw [HL7.out]; exact pairs_hexs bs)).mono ?_
      rintro e w8 ⟨rfl, hd8⟩
      have hB8 := bnextD hB7 hd8
      clear hd8 hB7 hr7 hbs7
      go_wp2_with (go_at_call 11; refine (lives_any _).mono ?_; rintro e w15 ⟨rfl, hbel⟩)
      go_ret
      exact ⟨rfl, bnext hB8 hbel⟩
end Go.Proofs.Ytjmnedkkpohboaa
