/- Contract of pool.New; lives; the statement on a pool that nobody made. -/
import Derived.Test.YtbcofkiefompgaaPool2
namespace Go.Proofs.Ytbcofkiefompgaa
open Go.RowKit

def freeL (N j : Nat) : List Int := (List.range j).map fun t => ((N - 1 - t : Nat) : Int)
theorem freeL_snoc (N j : Nat) : freeL N (j + 1) = freeL N j ++ [((N - 1 - j : Nat) : Int)] := by
  unfold freeL
  rw [List.range_succ]
  simp
theorem info_buf : (Try.prog.info? 100).map (fun i => (i.zero, i.size, i.bytes)) = some (some (.agg #[.bool false, .slice none 0 0]), 2, 32) := by kernel_rfl
theorem pnew_mid (N : Nat) (h2 : N ≤ 256) (w : World) : Calls Try.prog 73 #[.int .i64 N] w fun e w' => e = .returned (.pointer (some ⟨w.heap.size + 1, 0, none⟩)) ∧ Below w.heap.size w w' ∧ ∃ vf, Pl w' (w.heap.size + 1) w.heap.size N vf (freeL N N) (fun _ => false) (fun _ => .slice none 0 0) := by
  obtain ⟨i0, hi0, hz0, hz1, hz2⟩ := info_parts info_buf
  obtain ⟨i1, hj0, hy0, hy1, hy2⟩ := info_parts info_i64
  go_enter Try.func73, Try.ntmps73
  go_wp2_with (at_make; go_loud (refine wpList_make_any _ rfl _ _ _ rfl 100 i0 _ 2 32 Try.underlying96 hi0 hz0 hz1 hz2 (by omega) _ _ N rfl rfl rfl rfl (by omega) ?_))
  go_loopw [4, 13] (fun _ i wr => ∃ j : Nat, j ≤ N ∧ i = .int .i64 j ∧ Below w.heap.size w wr ∧ ∃ vf, Pl wr (w.heap.size + 1) w.heap.size N vf (freeL N j) (fun _ => false) (fun _ => .slice none 0 0)) (fun _ i _ => N - (intOf i).toNat)
  case atStart =>
    refine ⟨0, by omega, rfl, bnextA (bnextA (Below.refl _ _) _) _, .slice none 0 0, ?_⟩
    have hb0 : Bufs (w.alloc (.cells (madeCells #[.bool false, .slice none 0 0] (N * 2)) 100)) w.heap.size N (fun _ => false) (fun _ => .slice none 0 0) := ⟨_, Blk.new _ _ _, made_bufs N⟩
    have hg0 := Blk.new (w.alloc (.cells (madeCells #[.bool false, .slice none 0 0] (N * 2)) 100)) #[.slice none 0 0, .slice (some ⟨w.heap.size, 0, none⟩) N N] 98
    refine ⟨by simpa using hg0, ?_, Own.nil0 _ _ _ _, by omega, h2, by simp [freeL], by simp [freeL]⟩
    exact hb0.below (Below.alloc (Below.refl _ _) (Nat.le_refl _) _) (by simp)
  case round =>
    obtain ⟨j, hj, rfl, hbw, vf, R⟩ := hrel
    by_cases hlt : j < N
    · obtain ⟨c0, c1, f0, f1⟩ := R.bg.get2
      have hgl := R.bg.lt
      obtain ⟨K, hK⟩ : ∃ K, N - 1 - j = K := ⟨_, rfl⟩
      have hKi : (N : Int) - 1 - (j : Int) = (K : Int) := by omega
      have hfl : (freeL N j).length = j := by simp [freeL]
      have HO := Lib.hid R.own
      have HFR := Lib.hid R.fr
      have hsn := freeL_snoc N j
      rw [hK] at hsn
      have HSN := Lib.hid hsn
      have HR := Lib.hid R
      clear hsn R hK
      generalize freeL N j = fr at HO HFR HSN HR hfl
      go_wp2_with (at_builtin; go_loud (refine wpList_append_rd rfl (.tmp 20) (.tmp 25) _ rfl iv (w.heap.size + 1 + 1) 3 i1 _ 8 Try.underlying58 hj0 hy0 hy1 hy2 rfl iv_one _ _ rfl (HO.out.alloc _) _ (some ⟨wr.heap.size, 0, none⟩) 1 [(K : Int)] rfl (rd_lit wr _ _ [(K : Int)] rfl (by simp)) (by simp only [List.length_cons, List.length_nil]; omega) (by simp only [List.length_cons, List.length_nil]; omega) (by simp; omega) wr ((Below.refl _ _).alloc (by omega) _) ?_); intro v2 w2 hown2 hb2 hnn; have bg2 := HR.out.bg.below hb2 (by omega); have bf2 := HR.out.bf.below hb2 (by omega); have hB2 := hbw.trans (hb2.mono (by omega)); obtain ⟨d0, d1, e0, e1⟩ := bg2.get2; clear hnn c0 c1 f0 f1 hb2; obtain ⟨L2, A2, c2, HL2, rfl, -⟩ := hown2.rdv; have HO2 := Lib.hid hown2; clear hown2)
      go_roundw
      case rel =>
        refine ⟨j + 1, by omega, by go_num, hB2.setCell (p := ⟨w.heap.size + 1, 0, none⟩) (by show w.heap.size ≤ w.heap.size + 1; omega) _, .slice A2 L2.length c2, ?_⟩
        rw [HSN.out]
        exact ⟨bg2.set 0 _, bf2.other (by omega) 0 _, HO2.out.setBelow (p := ⟨w.heap.size + 1, 0, none⟩) (by show w.heap.size + 1 < w.heap.size + 1 + 1; omega) _, by omega, h2, by simp; omega, fun x hx => by
          rcases List.mem_append.1 hx with h | h
          · exact HFR.out x h
          · rw [List.mem_singleton.1 h]; omega⟩
      case measure => simp [intOf]; omega
    · have : j = N := by omega
      subst this
      go_wp2_with fail
      go_ret
      exact ⟨rfl, hbw, vf, R⟩
end Go.Proofs.Ytbcofkiefompgaa
