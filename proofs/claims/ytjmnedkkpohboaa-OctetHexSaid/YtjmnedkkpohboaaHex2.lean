/- The contract of the reference's Unhex. -/
import Derived.Test.YtjmnedkkpohboaaHex
namespace Go.Proofs.Ytjmnedkkpohboaa
open Go.RowKit

theorem look_succ_eq (c : UInt8) (f : Nat) (h : c = fig f) : look c (f + 1) = f := by simp [look, h]
theorem look_succ_ne (c : UInt8) (f : Nat) (h : c ≠ fig f) : look c (f + 1) = look c f := by simp [look, h]
theorem beq_u8 (a b : UInt8) (h : a = b) : ((a.toNat : Int) == (b.toNat : Int)) = true := by simp [h]
theorem bne_u8 (a b : UInt8) (h : a ≠ b) : ((a.toNat : Int) == (b.toNat : Int)) = false := by
  simp; intro hh; exact h (UInt8.toNat_inj.1 (by omega))

set_option maxHeartbeats 1000000 in
theorem runhex_any (s : ByteArray) (w : World) (hl : s.size ≤ 1000000) :
    Calls Try.prog 23 #[.string s] w fun e w' => UnhexEnd s.data.toList w.heap.size e w' ∧ Below w.heap.size w w' := by
  obtain ⟨i0, hi0, hz0, hz1, hz2⟩ := info_parts info_u8
  obtain ⟨l, hl0⟩ : ∃ l, l = s.data.toList := ⟨_, rfl⟩
  have hls : l.length = s.size := by rw [hl0, Array.length_toList]; rfl
  have hget : ∀ j (h : j < s.size), l[j]? = some s[j] := by
    intro j h; subst hl0
    rw [Array.getElem?_toList, Array.getElem?_eq_getElem h]; rfl
  rw [← hl0]
  have HLS := Lib.hid hls
  have HG := Lib.hid hget
  clear hl0 hls hget
  have hown0 : Own bv (w.alloc (.cells #[] 5)) w.heap.size 5 (.slice (some ⟨w.heap.size, 0, none⟩) 0 0) [] := World.ownsRow_lit w #[] 0 (Nat.le_refl _) (by unfold maxLen; omega) rfl
  have hb0 : Below w.heap.size w (w.alloc (.cells #[] 5)) := (Below.refl _ _).alloc (Nat.le_refl _) _
  have HO0 := Lib.hid hown0
  clear hown0
  go_enter Try.func23, Try.ntmps23
  go_wp2
  go_loopw [4, 5] (fun v i wr => ∃ j : Nat, j ≤ s.size ∧ i = .int .i64 j ∧ Hid (j % 2 = 0) ∧ Hid (allFig (l.take j) = true) ∧ Hid (Own bv wr w.heap.size 5 v (pairs (l.take j))) ∧ Below w.heap.size w wr) (fun _ i _ => s.size - (intOf i).toNat)
  case atStart => exact ⟨0, by omega, rfl, rfl, rfl, HO0, hb0⟩
  case round =>
    obtain ⟨j, hj, rfl, HE, HA, HO2, hbw⟩ := hrel
    by_cases hlt : j + 1 < s.size
    · have hlj : j < s.size := by omega
      obtain ⟨c, hc⟩ : ∃ c, c = s[j] := ⟨_, rfl⟩
      obtain ⟨d, hd⟩ : ∃ d, d = s[j + 1] := ⟨_, rfl⟩
      have HC := Lib.hid hc
      have HD := Lib.hid hd
      clear hc hd
      have hix1 : (j : Int) < s.size := by omega
      have hix2 : (j : Int) + 1 < s.size := by omega
      obtain ⟨wo, hwo⟩ : ∃ wo : World, wo = wr := ⟨_, rfl⟩
      have HWO := Lib.hid hwo
      clear hwo
      go_wp2_with fail
      go_loopw [6, 7, 8] (fun n k f w3 => ∃ m : Nat, m ≤ 16 ∧ f = .int .i64 m ∧ n = .int .i64 (look c m : Nat) ∧ k = .int .i64 (look d m : Nat) ∧ Drawn wo w3) (fun _ _ f _ => 16 - (intOf f).toNat)
      case atStart => exact ⟨0, by omega, rfl, rfl, rfl, by rw [HWO.out]; exact Drawn.refl _⟩
      case round =>
        obtain ⟨m, hm, rfl, rfl, rfl, hdr⟩ := hrel
        by_cases hm16 : m < 16
        · have hq : ∀ W, Calls Try.prog 31 #[.int .u8 (m : Int)] W fun e w' => e = .returned (.int .u8 ((fig m).toNat : Int)) ∧ W = w' := fun W => rfig_any m W hm16
          by_cases h1 : s[j] = fig m
          · by_cases h2 : s[j + 1] = fig m
            · have e1 := beq_u8 _ _ h1
              have e2 := beq_u8 _ _ h2
              have HN1 := Lib.hid (look_succ_eq c m (by rw [HC.out]; exact h1))
              have HN2 := Lib.hid (look_succ_eq d m (by rw [HD.out]; exact h2))
              clear h1 h2
              go_wp2_with fail
              go_quiet (((go_at_call 31; exact (hq _).mono fun _ _ ⟨he, hw⟩ => ⟨he, _, hw.symm⟩)))
              go_wp2_with fail
              have s1 : IntKind.i64.wrap ((j : Int) + 1) = (j : Int) + 1 := IntWalk.i64_in _ (by omega)
              have s2 : (0 : Int) ≤ (j : Int) + 1 := by omega
              have s3 : ((j : Int) + 1).toNat = j + 1 := by omega
              go_quiet (((go_at_call 31; exact (hq _).mono fun _ _ ⟨he, hw⟩ => ⟨he, _, hw.symm⟩)))
              clear s1
              go_wp2
              go_roundw
              case rel => exact ⟨m + 1, by omega, by go_num, by rw [HN1.out], by rw [HN2.out], hdr.step _⟩
              case measure => simp [intOf]; omega
            · have e1 := beq_u8 _ _ h1
              have e2 := bne_u8 _ _ h2
              have HN1 := Lib.hid (look_succ_eq c m (by rw [HC.out]; exact h1))
              have HN2 := Lib.hid (look_succ_ne d m (by rw [HD.out]; exact h2))
              clear h1 h2
              go_wp2_with fail
              go_quiet (((go_at_call 31; exact (hq _).mono fun _ _ ⟨he, hw⟩ => ⟨he, _, hw.symm⟩)))
              go_wp2_with fail
              have s1 : IntKind.i64.wrap ((j : Int) + 1) = (j : Int) + 1 := IntWalk.i64_in _ (by omega)
              have s2 : (0 : Int) ≤ (j : Int) + 1 := by omega
              have s3 : ((j : Int) + 1).toNat = j + 1 := by omega
              go_quiet (((go_at_call 31; exact (hq _).mono fun _ _ ⟨he, hw⟩ => ⟨he, _, hw.symm⟩)))
              clear s1
              go_wp2
              go_roundw
              case rel => exact ⟨m + 1, by omega, by go_num, by rw [HN1.out], by rw [HN2.out], hdr.step _⟩
              case measure => simp [intOf]; omega
          · by_cases h2 : s[j + 1] = fig m
            · have e1 := bne_u8 _ _ h1
              have e2 := beq_u8 _ _ h2
              have HN1 := Lib.hid (look_succ_ne c m (by rw [HC.out]; exact h1))
              have HN2 := Lib.hid (look_succ_eq d m (by rw [HD.out]; exact h2))
              clear h1 h2
              go_wp2_with fail
              go_quiet (((go_at_call 31; exact (hq _).mono fun _ _ ⟨he, hw⟩ => ⟨he, _, hw.symm⟩)))
              go_wp2_with fail
              have s1 : IntKind.i64.wrap ((j : Int) + 1) = (j : Int) + 1 := IntWalk.i64_in _ (by omega)
              have s2 : (0 : Int) ≤ (j : Int) + 1 := by omega
              have s3 : ((j : Int) + 1).toNat = j + 1 := by omega
              go_quiet (((go_at_call 31; exact (hq _).mono fun _ _ ⟨he, hw⟩ => ⟨he, _, hw.symm⟩)))
              clear s1
              go_wp2
              go_roundw
              case rel => exact ⟨m + 1, by omega, by go_num, by rw [HN1.out], by rw [HN2.out], hdr.step _⟩
              case measure => simp [intOf]; omega
            · have e1 := bne_u8 _ _ h1
              have e2 := bne_u8 _ _ h2
              have HN1 := Lib.hid (look_succ_ne c m (by rw [HC.out]; exact h1))
              have HN2 := Lib.hid (look_succ_ne d m (by rw [HD.out]; exact h2))
              clear h1 h2
              go_wp2_with fail
              go_quiet (((go_at_call 31; exact (hq _).mono fun _ _ ⟨he, hw⟩ => ⟨he, _, hw.symm⟩)))
              go_wp2_with fail
              have s1 : IntKind.i64.wrap ((j : Int) + 1) = (j : Int) + 1 := IntWalk.i64_in _ (by omega)
              have s2 : (0 : Int) ≤ (j : Int) + 1 := by omega
              have s3 : ((j : Int) + 1).toNat = j + 1 := by omega
              go_quiet (((go_at_call 31; exact (hq _).mono fun _ _ ⟨he, hw⟩ => ⟨he, _, hw.symm⟩)))
              clear s1
              go_wp2
              go_roundw
              case rel => exact ⟨m + 1, by omega, by go_num, by rw [HN1.out], by rw [HN2.out], hdr.step _⟩
              case measure => simp [intOf]; omega
        · have : m = 16 := by omega
          subst this
          obtain ⟨x, hx⟩ : ∃ x, x = look c 16 := ⟨_, rfl⟩
          obtain ⟨y, hy⟩ : ∃ y, y = look d 16 := ⟨_, rfl⟩
          have hxl : x ≤ 16 := by rw [hx]; exact val_le c
          have hyl : y ≤ 16 := by rw [hy]; exact val_le d
          rw [← hx, ← hy]
          have HX : Hid (x = val c) := hx
          have HY : Hid (y = val d) := hy
          have hlc : l[j]? = some c := by rw [HC.out]; exact HG.out j hlj
          have hld : l[j + 1]? = some d := by rw [HD.out]; exact HG.out (j + 1) hlt
          have HLC := Lib.hid hlc
          have HLD := Lib.hid hld
          have hb3 : Below w.heap.size w wr := (HWO.out ▸ hbw).trans hdr.below
          have HO3 : Hid (Own bv wr w.heap.size 5 u4 (pairs (l.take j))) := Own.drawn (HWO.out ▸ HO2.out) hdr
          have hszw := hb3.size
          clear hx hy hlc hld hdr
          by_cases hx16 : x = 16
          · have d1 : ((x : Int) == 16) = true := by simp; omega
            have hg : good l = false := by
              have hjl : j < l.length := by rw [HLS.out]; exact hlj
              refine allFig_not hjl ?_
              have h := HLC.out
              rw [List.getElem?_eq_getElem hjl] at h
              injection h with h
              rw [h, ← HX.out]; omega
            have HEN := Lib.hid (show ∀ W, UnhexEnd l w.heap.size (.returned (.tuple #[.slice none 0 0, .int .i64 3])) W from fun W => Or.inr ⟨hg, rfl⟩)
            clear hx16 hg
            go_wp2
            go_ret2
            exact ⟨HEN.out _, hb3⟩
          · have d1 : ((x : Int) == 16) = false := by simp; omega
            by_cases hy16 : y = 16
            · have d2 : ((y : Int) == 16) = true := by simp; omega
              have hg : good l = false := by
                have hjl : j + 1 < l.length := by rw [HLS.out]; exact hlt
                refine allFig_not hjl ?_
                have h := HLD.out
                rw [List.getElem?_eq_getElem hjl] at h
                injection h with h
                rw [h, ← HY.out]; omega
              have HEN := Lib.hid (show ∀ W, UnhexEnd l w.heap.size (.returned (.tuple #[.slice none 0 0, .int .i64 3])) W from fun W => Or.inr ⟨hg, rfl⟩)
              clear hx16 hy16 hg
              go_wp2
              go_ret2
              exact ⟨HEN.out _, hb3⟩
            · have d2 : ((y : Int) == 16) = false := by simp; omega
              have bx : x < 16 := by omega
              have by' : y < 16 := by omega
              clear hx16 hy16
              obtain ⟨z, hz⟩ : ∃ z, z = UInt8.ofNat (x * 16 + y) := ⟨_, rfl⟩
              have hzv : ((z.toNat : Nat) : Int) = (x : Int) * 16 + y := by
                rw [hz]; simp; omega
              have HL := Lib.hid (show (#[.int .u8 ((x : Int) * 16 + (y : Int))] : Array Value).toList = [z].map bv by simp [bv, hzv])
              have hjl : j < l.length := by rw [HLS.out]; exact hlj
              have hjl2 : j + 1 < l.length := by rw [HLS.out]; exact hlt
              have hcx : l[j] = c := by
                have h := HLC.out
                rw [List.getElem?_eq_getElem hjl] at h
                injection h
              have hdx : l[j + 1] = d := by
                have h := HLD.out
                rw [List.getElem?_eq_getElem hjl2] at h
                injection h
              have HT : l.take (j + 2) = l.take j ++ [c, d] := by
                rw [take_one l (j + 1) hjl2, take_one l j hjl, hcx, hdx, List.append_assoc]; rfl
              have HP : Hid (pairs (l.take (j + 2)) = pairs (l.take j) ++ [z]) := by
                show _ = _
                rw [HT, pairs_two _ _ _ (by have := HE.out; rw [List.length_take]; omega), hz, ← HX.out, ← HY.out]
              have HA3 : Hid (allFig (l.take (j + 2)) = true) := by
                show _ = _
                rw [HT, show l.take j ++ [c, d] = (l.take j ++ [c]) ++ [d] by rw [List.append_assoc]; rfl]
                exact allFig_snoc _ _ (allFig_snoc _ _ HA.out (by rw [← HX.out]; exact bx)) (by rw [← HY.out]; exact by')
              have hlen : (pairs (l.take j)).length + 1 ≤ 10000000 := by
                have := pairs_len (l.take j)
                rw [List.length_take] at this
                omega
              have HE3 : Hid ((j + 2) % 2 = 0) := by have := HE.out; simp [Hid]; exact this
              clear hz hzv HT hcx hdx
              go_wp2_with (at_builtin; (refine wpList_append_rd rfl (.tmp 44) (.tmp 50) _ rfl bv w.heap.size 5 i0 _ 1 Try.underlying22 hi0 hz0 hz1 hz2 rfl bv_one _ _ rfl (HO3.out.alloc _) (wr.heap.size + 1) (some ⟨wr.heap.size, 0, none⟩) 1 [z] rfl (rd_lit wr _ _ [z] HL.out (by simp)) (by simp only [List.length_cons, List.length_nil]; omega) (by simp only [List.length_cons, List.length_nil]; omega) (by simp; omega) w (hb3.alloc hszw _) ?_); intro v3 w3 hown3 hb4 hnn; have HO4 := Lib.hid hown3; clear hown3 hnn)
              go_roundw
              case rel => exact ⟨j + 2, by omega, by go_num, HE3, HA3, by rw [HP.out]; exact HO4, hb4⟩
              case measure => simp [intOf]; omega
    · by_cases hod : s.size % 2 = 1
      · have d1 : ((s.size : Int) % 2 == 1) = true := by simp; omega
        have hg : good l = false := by simp [good, HLS.out, hod]
        have HEN := Lib.hid (show ∀ W, UnhexEnd l w.heap.size (.returned (.tuple #[.slice none 0 0, .int .i64 3])) W from fun W => Or.inr ⟨hg, rfl⟩)
        clear hod hg
        go_wp2
        go_ret2
        exact ⟨HEN.out _, hbw⟩
      · have d1 : ((s.size : Int) % 2 == 1) = false := by simp; omega
        have hjs : j = s.size := by have := HE.out; omega
        have htk : l.take j = l := List.take_of_length_le (by rw [HLS.out]; omega)
        have hg : good l = true := by
          have := HA.out
          rw [htk] at this
          simp [good, HLS.out, this]; omega
        have HEN := Lib.hid (show ∀ W, Own bv W w.heap.size 5 u4 (pairs l) → UnhexEnd l w.heap.size (.returned (.tuple #[u4, .int .i64 0])) W from fun W h => Or.inl ⟨hg, u4, rfl, h⟩)
        have HO3 : Hid (Own bv wr w.heap.size 5 u4 (pairs l)) := by
          have := HO2.out
          rw [htk] at this
          exact this
        clear hod hg htk hjs
        go_wp2
        go_ret2
        exact ⟨HEN.out _ HO3.out, hbw⟩
end Go.Proofs.Ytjmnedkkpohboaa
