/- The walk of the statement on ether.Group, Unicast, All, Mine. -/
import Derived.Test.YteodjajjlgekcaaLaw04c
import Derived.Test.YteodjajjlgekcaaReg3
namespace Go.Proofs.Yteodjajjlgekcaa
open Go.RowKit
set_option linter.unusedVariables false

theorem all_step {α : Type} (p : α → Bool) (l : List α) (j : Nat) (h : j < l.length) : (l.take (j + 1)).all p = ((l.take j).all p && p l[j]) := by
  rw [take_one l j h, List.all_append]
  simp
theorem all_step' {α : Type} (p : α → Bool) (l : List α) (j : Nat) (h : j < l.length) {B C v : Bool} (hB : Hid (B = (l.take j).all p)) (hv : Hid (p l[j] = v)) (hC : (B && v) = C) : Hid (C = (l.take (j + 1)).all p) := by
  have := all_step p l j h
  rw [← hB.out, hv.out, hC] at this
  exact this.symm
set_option maxRecDepth 8000 in
set_option maxHeartbeats 4000000 in
theorem mine_w (x0 x1 x2 x3 x4 x5 x6 x7 x8 x9 x10 x11 m0 m1 m2 m3 m4 m5 : UInt8) (t : UInt16) (AA : Option Addr) (nn cc : Nat) (w : World) : Calls Try.prog 6 #[.agg #[.int .u8 (x0.toNat : Int), .int .u8 (x1.toNat : Int), .int .u8 (x2.toNat : Int), .int .u8 (x3.toNat : Int), .int .u8 (x4.toNat : Int), .int .u8 (x5.toNat : Int), .int .u8 (x6.toNat : Int), .int .u8 (x7.toNat : Int), .int .u8 (x8.toNat : Int), .int .u8 (x9.toNat : Int), .int .u8 (x10.toNat : Int), .int .u8 (x11.toNat : Int), .int .u16 (t.toNat : Int), .slice AA nn cc], .agg #[.int .u8 (m0.toNat : Int), .int .u8 (m1.toNat : Int), .int .u8 (m2.toNat : Int), .int .u8 (m3.toNat : Int), .int .u8 (m4.toNat : Int), .int .u8 (m5.toNat : Int)]] w fun e w' => e = .returned (.bool true) ∧ Below w.heap.size w w' := by
  obtain ⟨V, hV⟩ : ∃ V, V = (w.alloc (.cells #[.int .u8 (x0.toNat : Int), .int .u8 (x1.toNat : Int), .int .u8 (x2.toNat : Int), .int .u8 (x3.toNat : Int), .int .u8 (x4.toNat : Int), .int .u8 (x5.toNat : Int), .int .u8 (x6.toNat : Int), .int .u8 (x7.toNat : Int), .int .u8 (x8.toNat : Int), .int .u8 (x9.toNat : Int), .int .u8 (x10.toNat : Int), .int .u8 (x11.toNat : Int), .int .u16 (t.toNat : Int), .slice AA nn cc] 51)).alloc (.cells #[.int .u8 (m0.toNat : Int), .int .u8 (m1.toNat : Int), .int .u8 (m2.toNat : Int), .int .u8 (m3.toNat : Int), .int .u8 (m4.toNat : Int), .int .u8 (m5.toNat : Int)] 49) := ⟨_, rfl⟩
  have hBV : Below w.heap.size w V := by subst hV; exact bnextA (bnextA (Below.refl _ _) _) _
  have hbF : Blk V w.heap.size [.int .u8 (x0.toNat : Int), .int .u8 (x1.toNat : Int), .int .u8 (x2.toNat : Int), .int .u8 (x3.toNat : Int), .int .u8 (x4.toNat : Int), .int .u8 (x5.toNat : Int), .int .u8 (x6.toNat : Int), .int .u8 (x7.toNat : Int), .int .u8 (x8.toNat : Int), .int .u8 (x9.toNat : Int), .int .u8 (x10.toNat : Int), .int .u8 (x11.toNat : Int), .int .u16 (t.toNat : Int), .slice AA nn cc] 51 := by subst hV; exact (Blk.new _ _ _).alloc _
  have hbM : Blk V (w.heap.size + 1) [.int .u8 (m0.toNat : Int), .int .u8 (m1.toNat : Int), .int .u8 (m2.toNat : Int), .int .u8 (m3.toNat : Int), .int .u8 (m4.toNat : Int), .int .u8 (m5.toNat : Int)] 49 := by subst hV; simpa using Blk.new (w.alloc (.cells #[.int .u8 (x0.toNat : Int), .int .u8 (x1.toNat : Int), .int .u8 (x2.toNat : Int), .int .u8 (x3.toNat : Int), .int .u8 (x4.toNat : Int), .int .u8 (x5.toNat : Int), .int .u8 (x6.toNat : Int), .int .u8 (x7.toNat : Int), .int .u8 (x8.toNat : Int), .int .u8 (x9.toNat : Int), .int .u8 (x10.toNat : Int), .int .u8 (x11.toNat : Int), .int .u16 (t.toNat : Int), .slice AA nn cc] 51)) #[.int .u8 (m0.toNat : Int), .int .u8 (m1.toNat : Int), .int .u8 (m2.toNat : Int), .int .u8 (m3.toNat : Int), .int .u8 (m4.toNat : Int), .int .u8 (m5.toNat : Int)] 49
  have HbF := Lib.hid hbF
  have HbM := Lib.hid hbM
  clear hbF hbM
  obtain ⟨ms, hms⟩ : ∃ ms, ms = [m0, m1, m2, m3, m4, m5] := ⟨_, rfl⟩
  obtain ⟨ds, hds⟩ : ∃ ds, ds = [x0, x1, x2, x3, x4, x5] := ⟨_, rfl⟩
  have hmc : ∀ j (hj : j < 6) (hl : j < ms.length), V.cell? ⟨w.heap.size + 1, j, none⟩ = some (.int .u8 (ms[j].toNat : Int)) := by
    subst hms
    intro j hj hl
    rw [HbM.out.cell]
    match j, hj with | 0, _ => rfl | 1, _ => rfl | 2, _ => rfl | 3, _ => rfl | 4, _ => rfl | 5, _ => rfl
  have hdc : ∀ j (hj : j < 6) (hl : j < ds.length), V.cell? ⟨w.heap.size, j, none⟩ = some (.int .u8 (ds[j].toNat : Int)) := by
    subst hds
    intro j hj hl
    rw [HbF.out.cell]
    match j, hj with | 0, _ => rfl | 1, _ => rfl | 2, _ => rfl | 3, _ => rfl | 4, _ => rfl | 5, _ => rfl
  have hml : ms.length = 6 := by rw [hms]; rfl
  have hdl : ds.length = 6 := by rw [hds]; rfl
  have hlt : w.heap.size + 1 < V.heap.size := by rw [hV]; simp
  have HM := Lib.hid hms
  have HD := Lib.hid hds
  clear hms hds
  go_enter Try.func6, Try.ntmps6
  go_wp2_with fail
  rw [← hV]
  clear hV
  have HML := Lib.hid hml
  have HDL := Lib.hid hdl
  clear hml hdl
  go_loopw [5, 6, 7, 8, 9] (fun a1 a2 a3 a4 i wr => ∃ (j : Nat) (b1 b2 b3 b4 : Bool), j ≤ 6 ∧ i = .int .i64 j ∧ Below V.heap.size V wr ∧ a1 = .bool b1 ∧ a2 = .bool b2 ∧ a3 = .bool b3 ∧ a4 = .bool b4 ∧ Hid (b1 = (ms.take j).all (fun x => (x.toNat : Int) == 255)) ∧ Hid (b2 = (ms.take j).all (fun x => (x.toNat : Int) == 0)) ∧ Hid (b3 = ((ds.zip ms).take j).all (fun x => (x.1.toNat : Int) == (x.2.toNat : Int))) ∧ Hid (b4 = (ds.take j).all (fun x => (x.toNat : Int) == 255))) (fun _ _ _ _ i _ => 6 - (intOf i).toNat)
  case atStart => exact ⟨0, true, true, true, true, by omega, rfl, Below.refl _ _, rfl, rfl, rfl, rfl, rfl, rfl, rfl, rfl⟩
  case round =>
    obtain ⟨j, b1, b2, b3, b4, hj, rfl, hbw, rfl, rfl, rfl, rfl, H1, H2, H3, H4⟩ := hrel
    by_cases hj6 : j < 6
    · have hjm : j < ms.length := by rw [HML.out]; exact hj6
      have hjd : j < ds.length := by rw [HDL.out]; exact hj6
      have hjz : j < (ds.zip ms).length := by simp; omega
      have cm := (hbw.cell (p := ⟨w.heap.size + 1, j, none⟩) hlt).trans (hmc j hj6 hjm)
      have cd := (hbw.cell (p := ⟨w.heap.size, j, none⟩) (Nat.lt_of_succ_lt hlt)).trans (hdc j hj6 hjd)
      have S1 := fun C v => all_step' (C := C) (v := v) _ ms j hjm H1
      have S2 := fun C v => all_step' (C := C) (v := v) _ ms j hjm H2
      have S3 := fun C v => all_step' (C := C) (v := v) _ (ds.zip ms) j hjz H3
      have S4 := fun C v => all_step' (C := C) (v := v) _ ds j hjd H4
      simp only [List.getElem_zip] at S3
      generalize ms[j] = x at cm S1 S2 S3
      generalize ds[j] = y at cd S3 S4
      clear hmc hdc H1 H2 H3 H4 hjm hjd hjz
      cases b1 <;> cases b2 <;> cases b3 <;> cases b4
      all_goals
        go_wp2_with fail
        first | (go_quiet (fail)) | fail
        go_wp2_with fail
        go_roundw
        case rel => exact ⟨j + 1, _, _, _, _, by omega, by go_num, below_drewN hbw _, rfl, rfl, rfl, rfl, S1 _ _ rfl rfl, S2 _ _ rfl rfl, S3 _ _ rfl rfl, S4 _ _ rfl rfl⟩
        case measure => simp [intOf]; omega
    · have : j = 6 := by omega
      subst this
      have e1 : (((((m0.toNat : Int) : Int)) == 255) && (((((m1.toNat : Int) : Int)) == 255) && (((((m2.toNat : Int) : Int)) == 255) && (((((m3.toNat : Int) : Int)) == 255) && (((((m4.toNat : Int) : Int)) == 255) && (((((m5.toNat : Int) : Int)) == 255))))))) = b1 := by
        rw [H1.out, HM.out]; simp
      have e2 : (((((m0.toNat : Int) : Int)) == 0) && (((((m1.toNat : Int) : Int)) == 0) && (((((m2.toNat : Int) : Int)) == 0) && (((((m3.toNat : Int) : Int)) == 0) && (((((m4.toNat : Int) : Int)) == 0) && (((((m5.toNat : Int) : Int)) == 0))))))) = b2 := by
        rw [H2.out, HM.out]; simp
      have e3 : (((((x0.toNat : Int) : Int)) == (m0.toNat : Int)) && (((((x1.toNat : Int) : Int)) == (m1.toNat : Int)) && (((((x2.toNat : Int) : Int)) == (m2.toNat : Int)) && (((((x3.toNat : Int) : Int)) == (m3.toNat : Int)) && (((((x4.toNat : Int) : Int)) == (m4.toNat : Int)) && (((((x5.toNat : Int) : Int)) == (m5.toNat : Int)))))))) = b3 := by
        rw [H3.out, HD.out, HM.out]; simp
      have e4 : (((((x0.toNat : Int) : Int)) == 255) && (((((x1.toNat : Int) : Int)) == 255) && (((((x2.toNat : Int) : Int)) == 255) && (((((x3.toNat : Int) : Int)) == 255) && (((((x4.toNat : Int) : Int)) == 255) && (((((x5.toNat : Int) : Int)) == 255))))))) = b4 := by
        rw [H4.out, HD.out]; simp
      obtain ⟨g, hg⟩ : ∃ g, ((m0.toNat : Int) % 2 == 1) = g := ⟨_, rfl⟩
      have HGr := fun W => Lib.hid (egroup_any m0 m1 m2 m3 m4 m5 W g hg)
      have HUn := fun W => Lib.hid (eunicast_any m0 m1 m2 m3 m4 m5 W g b2 hg e2)
      have HMi := fun W => Lib.hid (emine_any x0 x1 x2 x3 x4 x5 x6 x7 x8 x9 x10 x11 m0 m1 m2 m3 m4 m5 t AA nn cc W b3 b4 e3 e4)
      have HEQ : Hid (∀ W, (Op.equalIn 10000 49 (.agg #[.int .u8 (m0.toNat : Int), .int .u8 (m1.toNat : Int), .int .u8 (m2.toNat : Int), .int .u8 (m3.toNat : Int), .int .u8 (m4.toNat : Int), .int .u8 (m5.toNat : Int)]) (.agg #[.int .u8 255, .int .u8 255, .int .u8 255, .int .u8 255, .int .u8 255, .int .u8 255])).run Try.prog W = .ok b1 W) := fun W => by
        rw [eqmac]
        exact congrArg (fun b => Result.ok b W) e1
      have hgn : Hid (((m0.toNat : Int) % 2 == 0) = !g) := by
        rw [Hid, ← hg]
        have h2 : (m0.toNat : Int) % 2 = 0 ∨ (m0.toNat : Int) % 2 = 1 := by omega
        rcases h2 with h | h <;> rw [h] <;> rfl
      have hgm := Lib.hid hg
      have HE1 := Lib.hid e1
      have hbF := HbF.out.next hbw
      have hbM := HbM.out.next hbw
      replace hBV := hBV.trans (hbw.mono hBV.size)
      clear H1 H2 H3 H4 hmc hdc e1 e2 e3 e4 hg HM HD HML HDL HbF HbM hlt hbw hj hj6
      generalize wr = V1 at *
      have HCC : ∀ W, Below V1.heap.size V1 W → (W.cell? ⟨w.heap.size + 1, 0, none⟩ = some (.int .u8 (m0.toNat : Int)) ∧ W.cell? ⟨w.heap.size + 1, 1, none⟩ = some (.int .u8 (m1.toNat : Int))) := fun W h => ⟨(hbM.next h).cell 0, (hbM.next h).cell 1⟩
      have HMC : ∀ W, Blk W (w.heap.size + 1) [.int .u8 (m0.toNat : Int), .int .u8 (m1.toNat : Int), .int .u8 (m2.toNat : Int), .int .u8 (m3.toNat : Int), .int .u8 (m4.toNat : Int), .int .u8 (m5.toNat : Int)] 49 → (W.cell? ⟨w.heap.size + 1, 0, none⟩ = some (.int .u8 (m0.toNat : Int)) ∧ W.cell? ⟨w.heap.size + 1, 1, none⟩ = some (.int .u8 (m1.toNat : Int)) ∧ W.cell? ⟨w.heap.size + 1, 2, none⟩ = some (.int .u8 (m2.toNat : Int)) ∧ W.cell? ⟨w.heap.size + 1, 3, none⟩ = some (.int .u8 (m3.toNat : Int)) ∧ W.cell? ⟨w.heap.size + 1, 4, none⟩ = some (.int .u8 (m4.toNat : Int)) ∧ W.cell? ⟨w.heap.size + 1, 5, none⟩ = some (.int .u8 (m5.toNat : Int))) := fun W h => ⟨h.cell 0, h.cell 1, h.cell 2, h.cell 3, h.cell 4, h.cell 5⟩
      have HFC : ∀ W, Blk W w.heap.size [.int .u8 (x0.toNat : Int), .int .u8 (x1.toNat : Int), .int .u8 (x2.toNat : Int), .int .u8 (x3.toNat : Int), .int .u8 (x4.toNat : Int), .int .u8 (x5.toNat : Int), .int .u8 (x6.toNat : Int), .int .u8 (x7.toNat : Int), .int .u8 (x8.toNat : Int), .int .u8 (x9.toNat : Int), .int .u8 (x10.toNat : Int), .int .u8 (x11.toNat : Int), .int .u16 (t.toNat : Int), .slice AA nn cc] 51 → (W.cell? ⟨w.heap.size, 0, none⟩ = some (.int .u8 (x0.toNat : Int)) ∧ W.cell? ⟨w.heap.size, 1, none⟩ = some (.int .u8 (x1.toNat : Int)) ∧ W.cell? ⟨w.heap.size, 2, none⟩ = some (.int .u8 (x2.toNat : Int)) ∧ W.cell? ⟨w.heap.size, 3, none⟩ = some (.int .u8 (x3.toNat : Int)) ∧ W.cell? ⟨w.heap.size, 4, none⟩ = some (.int .u8 (x4.toNat : Int)) ∧ W.cell? ⟨w.heap.size, 5, none⟩ = some (.int .u8 (x5.toNat : Int)) ∧ W.cell? ⟨w.heap.size, 6, none⟩ = some (.int .u8 (x6.toNat : Int)) ∧ W.cell? ⟨w.heap.size, 7, none⟩ = some (.int .u8 (x7.toNat : Int)) ∧ W.cell? ⟨w.heap.size, 8, none⟩ = some (.int .u8 (x8.toNat : Int)) ∧ W.cell? ⟨w.heap.size, 9, none⟩ = some (.int .u8 (x9.toNat : Int)) ∧ W.cell? ⟨w.heap.size, 10, none⟩ = some (.int .u8 (x10.toNat : Int)) ∧ W.cell? ⟨w.heap.size, 11, none⟩ = some (.int .u8 (x11.toNat : Int)) ∧ W.cell? ⟨w.heap.size, 12, none⟩ = some (.int .u16 (t.toNat : Int)) ∧ W.cell? ⟨w.heap.size, 13, none⟩ = some (.slice AA nn cc)) := fun W h => ⟨h.cell 0, h.cell 1, h.cell 2, h.cell 3, h.cell 4, h.cell 5, h.cell 6, h.cell 7, h.cell 8, h.cell 9, h.cell 10, h.cell 11, h.cell 12, h.cell 13⟩
      cases g
      · simp only [Bool.not_false, Bool.true_and] at hgn HUn
        go_wp2_with fail
        refine region_put (by kernel_rfl) (by kernel_rfl) (by kernel_rfl) 85 rfl (by kernel_rfl) V1 (fun i v W => match i with
            | 0 => v = .agg #[.int .u8 (m0.toNat : Int), .int .u8 (m1.toNat : Int), .int .u8 (m2.toNat : Int), .int .u8 (m3.toNat : Int), .int .u8 (m4.toNat : Int), .int .u8 (m5.toNat : Int)]
            | 1 => v = .bool false
            | 2 => v = .pointer (some ⟨w.heap.size + 1, 0, none⟩)
            | 3 => v = .int .u8 (m0.toNat : Int)
            | 4 => v = .int .u8 ((m0.toNat : Int) % 2)
            | 5 => v = .bool false
            | 6 => v = .bool false
            | 7 => v = .bool false
            | 8 => v = .agg #[.int .u8 (m0.toNat : Int), .int .u8 (m1.toNat : Int), .int .u8 (m2.toNat : Int), .int .u8 (m3.toNat : Int), .int .u8 (m4.toNat : Int), .int .u8 (m5.toNat : Int)]
            | 9 => v = .bool (!b2)
            | 10 => v = .pointer (some ⟨w.heap.size + 1, 0, none⟩)
            | 11 => v = .int .u8 (m0.toNat : Int)
            | 12 => v = .int .u8 ((m0.toNat : Int) % 2)
            | 13 => v = .bool true
            | 14 => v = .bool true
            | 15 => v = .bool b2
            | 16 => v = .bool (!b2)
            | 17 => v = .bool (!b2)
            | 18 => v = .bool false
            | 19 => v = .bool false
            | 20 => v = .bool false
            | 21 => v = .agg #[.int .u8 (m0.toNat : Int), .int .u8 (m1.toNat : Int), .int .u8 (m2.toNat : Int), .int .u8 (m3.toNat : Int), .int .u8 (m4.toNat : Int), .int .u8 (m5.toNat : Int)]
            | 22 => v = .agg #[.int .u8 255, .int .u8 255, .int .u8 255, .int .u8 255, .int .u8 255, .int .u8 255]
            | 23 => v = .bool b1
            | 24 => v = .bool b1
            | 25 => v = .bool false
            | 26 => v = .bool false
            | _ => True) (Below.refl _ _) ?_ ?_ ?_
        · intro i v W W' h hb
          match i, h with
          | 0, h => exact h
          | 1, h => exact h
          | 2, h => exact h
          | 3, h => exact h
          | 4, h => exact h
          | 5, h => exact h
          | 6, h => exact h
          | 7, h => exact h
          | 8, h => exact h
          | 9, h => exact h
          | 10, h => exact h
          | 11, h => exact h
          | 12, h => exact h
          | 13, h => exact h
          | 14, h => exact h
          | 15, h => exact h
          | 16, h => exact h
          | 17, h => exact h
          | 18, h => exact h
          | 19, h => exact h
          | 20, h => exact h
          | 21, h => exact h
          | 22, h => exact h
          | 23, h => exact h
          | 24, h => exact h
          | 25, h => exact h
          | 26, h => exact h
          | _ + 27, _ => trivial
        · intro i o uu W hoo hVW hd
          rcases i with _|_|_|_|_|_|_|_|_|_|_|_|_|_|_|_|_|_|_|_|_|_|_|_|_|_|_|i
          · obtain rfl := Option.some.inj hoo
            refine .inl ⟨wanted_none rfl, ?_⟩
            generalize hev : Act.eval _ = ev
            have ec : ∀ c, ev (.const c) = c := fun c => by rw [← hev]; rfl
            have e3 : ev (.tmp 3) = .pointer (some ⟨w.heap.size + 1, 0, none⟩) := by rw [← hev]; exact eval_old (by kernel_rfl) 85 rfl (by decide) rfl
            clear hev hd
            obtain ⟨cc0, cc1⟩ := HCC W hVW
            exact .inl ⟨_, W, by exact load_blk_arr Try.underlying49 (by kernel_rfl) (hbM.next hVW) rfl e3, rfl, Below.refl _ _⟩
          · obtain rfl := Option.some.inj hoo
            have q0 : uu 0 = .agg #[.int .u8 (m0.toNat : Int), .int .u8 (m1.toNat : Int), .int .u8 (m2.toNat : Int), .int .u8 (m3.toNat : Int), .int .u8 (m4.toNat : Int), .int .u8 (m5.toNat : Int)] := hd 0 (by kernel_rfl)
            refine .inl ⟨wanted_none rfl, ?_⟩
            generalize hev : Act.eval _ = ev
            have ec : ∀ c, ev (.const c) = c := fun c => by rw [← hev]; rfl
            have ef : ∀ f, ev (.func f) = .func (.func f) #[] #[] := fun f => by rw [← hev]; rfl
            have e47 : ev (.tmp 47) = .agg #[.int .u8 (m0.toNat : Int), .int .u8 (m1.toNat : Int), .int .u8 (m2.toNat : Int), .int .u8 (m3.toNat : Int), .int .u8 (m4.toNat : Int), .int .u8 (m5.toNat : Int)] := by rw [← hev]; exact (eval_put (by kernel_rfl) 85 rfl (by decide)).trans q0
            clear hev hd q0
            exact .inr ⟨_, _, _, by go_simp, (HGr W).out, fun e w' he => ⟨_, he.1, rfl, he.2⟩⟩
          · obtain rfl := Option.some.inj hoo
            refine .inl ⟨wanted_none rfl, ?_⟩
            generalize hev : Act.eval _ = ev
            have ec : ∀ c, ev (.const c) = c := fun c => by rw [← hev]; rfl
            have e3 : ev (.tmp 3) = .pointer (some ⟨w.heap.size + 1, 0, none⟩) := by rw [← hev]; exact eval_old (by kernel_rfl) 85 rfl (by decide) rfl
            clear hev hd
            exact .inl ⟨_, W, by go_simp, rfl, Below.refl _ _⟩
          · obtain rfl := Option.some.inj hoo
            have q2 : uu 2 = .pointer (some ⟨w.heap.size + 1, 0, none⟩) := hd 2 (by kernel_rfl)
            refine .inl ⟨wanted_none rfl, ?_⟩
            generalize hev : Act.eval _ = ev
            have ec : ∀ c, ev (.const c) = c := fun c => by rw [← hev]; rfl
            have e49 : ev (.tmp 49) = .pointer (some ⟨w.heap.size + 1, 0, none⟩) := by rw [← hev]; exact (eval_put (by kernel_rfl) 85 rfl (by decide)).trans q2
            clear hev hd q2
            obtain ⟨cc0, cc1⟩ := HCC W hVW
            exact .inl ⟨_, W, by go_simp, rfl, Below.refl _ _⟩
          · obtain rfl := Option.some.inj hoo
            have q3 : uu 3 = .int .u8 (m0.toNat : Int) := hd 3 (by kernel_rfl)
            refine .inl ⟨wanted_none rfl, ?_⟩
            generalize hev : Act.eval _ = ev
            have ec : ∀ c, ev (.const c) = c := fun c => by rw [← hev]; rfl
            have e50 : ev (.tmp 50) = .int .u8 (m0.toNat : Int) := by rw [← hev]; exact (eval_put (by kernel_rfl) 85 rfl (by decide)).trans q3
            clear hev hd q3
            have htm : ((m0.toNat : Int)).tmod 2 = (m0.toNat : Int) % 2 := Int.tmod_eq_emod_of_nonneg (by omega)
            exact .inl ⟨_, W, by go_simp, rfl, Below.refl _ _⟩
          · obtain rfl := Option.some.inj hoo
            have q4 : uu 4 = .int .u8 ((m0.toNat : Int) % 2) := hd 4 (by kernel_rfl)
            refine .inl ⟨wanted_none rfl, ?_⟩
            generalize hev : Act.eval _ = ev
            have ec : ∀ c, ev (.const c) = c := fun c => by rw [← hev]; rfl
            have e51 : ev (.tmp 51) = .int .u8 ((m0.toNat : Int) % 2) := by rw [← hev]; exact (eval_put (by kernel_rfl) 85 rfl (by decide)).trans q4
            clear hev hd q4
            have hh := hgm.out
            exact .inl ⟨_, W, by go_simp, rfl, Below.refl _ _⟩
          · obtain rfl := Option.some.inj hoo
            have q1 : uu 1 = .bool false := hd 1 (by kernel_rfl)
            have q5 : uu 5 = .bool false := hd 5 (by kernel_rfl)
            refine .inl ⟨wanted_none rfl, ?_⟩
            generalize hev : Act.eval _ = ev
            have ec : ∀ c, ev (.const c) = c := fun c => by rw [← hev]; rfl
            have e48 : ev (.tmp 48) = .bool false := by rw [← hev]; exact (eval_put (by kernel_rfl) 85 rfl (by decide)).trans q1
            have e52 : ev (.tmp 52) = .bool false := by rw [← hev]; exact (eval_put (by kernel_rfl) 85 rfl (by decide)).trans q5
            clear hev hd q1 q5
            exact .inl ⟨_, W, by go_simp, rfl, Below.refl _ _⟩
          · obtain rfl := Option.some.inj hoo
            have q6 : uu 6 = .bool false := hd 6 (by kernel_rfl)
            refine .inl ⟨wanted_none rfl, ?_⟩
            generalize hev : Act.eval _ = ev
            have ec : ∀ c, ev (.const c) = c := fun c => by rw [← hev]; rfl
            have e53 : ev (.tmp 53) = .bool false := by rw [← hev]; exact (eval_put (by kernel_rfl) 85 rfl (by decide)).trans q6
            clear hev hd q6
            exact .inl ⟨_, W, by go_simp, rfl, Below.refl _ _⟩
          · obtain rfl := Option.some.inj hoo
            have q7 : uu 7 = .bool false := hd 7 (by kernel_rfl)
            refine .inl ⟨wanted_yes rfl (yielded_put (k := 54) (by kernel_rfl) (by kernel_rfl) 85 rfl (by decide) q7), ?_⟩
            generalize hev : Act.eval _ = ev
            have ec : ∀ c, ev (.const c) = c := fun c => by rw [← hev]; rfl
            have e3 : ev (.tmp 3) = .pointer (some ⟨w.heap.size + 1, 0, none⟩) := by rw [← hev]; exact eval_old (by kernel_rfl) 85 rfl (by decide) rfl
            clear hev hd q7
            obtain ⟨cc0, cc1⟩ := HCC W hVW
            exact .inl ⟨_, W, by exact load_blk_arr Try.underlying49 (by kernel_rfl) (hbM.next hVW) rfl e3, rfl, Below.refl _ _⟩
          · obtain rfl := Option.some.inj hoo
            have q8 : uu 8 = .agg #[.int .u8 (m0.toNat : Int), .int .u8 (m1.toNat : Int), .int .u8 (m2.toNat : Int), .int .u8 (m3.toNat : Int), .int .u8 (m4.toNat : Int), .int .u8 (m5.toNat : Int)] := hd 8 (by kernel_rfl)
            have q7 : uu 7 = .bool false := hd 7 (by kernel_rfl)
            refine .inl ⟨wanted_yes rfl (yielded_put (k := 54) (by kernel_rfl) (by kernel_rfl) 85 rfl (by decide) q7), ?_⟩
            generalize hev : Act.eval _ = ev
            have ec : ∀ c, ev (.const c) = c := fun c => by rw [← hev]; rfl
            have ef : ∀ f, ev (.func f) = .func (.func f) #[] #[] := fun f => by rw [← hev]; rfl
            have e55 : ev (.tmp 55) = .agg #[.int .u8 (m0.toNat : Int), .int .u8 (m1.toNat : Int), .int .u8 (m2.toNat : Int), .int .u8 (m3.toNat : Int), .int .u8 (m4.toNat : Int), .int .u8 (m5.toNat : Int)] := by rw [← hev]; exact (eval_put (by kernel_rfl) 85 rfl (by decide)).trans q8
            clear hev hd q8 q7
            exact .inr ⟨_, _, _, by go_simp, (HUn W).out, fun e w' he => ⟨_, he.1, rfl, he.2⟩⟩
          · obtain rfl := Option.some.inj hoo
            have q7 : uu 7 = .bool false := hd 7 (by kernel_rfl)
            refine .inl ⟨wanted_yes rfl (yielded_put (k := 54) (by kernel_rfl) (by kernel_rfl) 85 rfl (by decide) q7), ?_⟩
            generalize hev : Act.eval _ = ev
            have ec : ∀ c, ev (.const c) = c := fun c => by rw [← hev]; rfl
            have e3 : ev (.tmp 3) = .pointer (some ⟨w.heap.size + 1, 0, none⟩) := by rw [← hev]; exact eval_old (by kernel_rfl) 85 rfl (by decide) rfl
            clear hev hd q7
            exact .inl ⟨_, W, by go_simp, rfl, Below.refl _ _⟩
          · obtain rfl := Option.some.inj hoo
            have q10 : uu 10 = .pointer (some ⟨w.heap.size + 1, 0, none⟩) := hd 10 (by kernel_rfl)
            have q7 : uu 7 = .bool false := hd 7 (by kernel_rfl)
            refine .inl ⟨wanted_yes rfl (yielded_put (k := 54) (by kernel_rfl) (by kernel_rfl) 85 rfl (by decide) q7), ?_⟩
            generalize hev : Act.eval _ = ev
            have ec : ∀ c, ev (.const c) = c := fun c => by rw [← hev]; rfl
            have e57 : ev (.tmp 57) = .pointer (some ⟨w.heap.size + 1, 0, none⟩) := by rw [← hev]; exact (eval_put (by kernel_rfl) 85 rfl (by decide)).trans q10
            clear hev hd q10 q7
            obtain ⟨cc0, cc1⟩ := HCC W hVW
            exact .inl ⟨_, W, by go_simp, rfl, Below.refl _ _⟩
          · obtain rfl := Option.some.inj hoo
            have q11 : uu 11 = .int .u8 (m0.toNat : Int) := hd 11 (by kernel_rfl)
            have q7 : uu 7 = .bool false := hd 7 (by kernel_rfl)
            refine .inl ⟨wanted_yes rfl (yielded_put (k := 54) (by kernel_rfl) (by kernel_rfl) 85 rfl (by decide) q7), ?_⟩
            generalize hev : Act.eval _ = ev
            have ec : ∀ c, ev (.const c) = c := fun c => by rw [← hev]; rfl
            have e58 : ev (.tmp 58) = .int .u8 (m0.toNat : Int) := by rw [← hev]; exact (eval_put (by kernel_rfl) 85 rfl (by decide)).trans q11
            clear hev hd q11 q7
            have htm : ((m0.toNat : Int)).tmod 2 = (m0.toNat : Int) % 2 := Int.tmod_eq_emod_of_nonneg (by omega)
            exact .inl ⟨_, W, by go_simp, rfl, Below.refl _ _⟩
          · obtain rfl := Option.some.inj hoo
            have q12 : uu 12 = .int .u8 ((m0.toNat : Int) % 2) := hd 12 (by kernel_rfl)
            have q7 : uu 7 = .bool false := hd 7 (by kernel_rfl)
            refine .inl ⟨wanted_yes rfl (yielded_put (k := 54) (by kernel_rfl) (by kernel_rfl) 85 rfl (by decide) q7), ?_⟩
            generalize hev : Act.eval _ = ev
            have ec : ∀ c, ev (.const c) = c := fun c => by rw [← hev]; rfl
            have e59 : ev (.tmp 59) = .int .u8 ((m0.toNat : Int) % 2) := by rw [← hev]; exact (eval_put (by kernel_rfl) 85 rfl (by decide)).trans q12
            clear hev hd q12 q7
            have hh := hgn.out
            exact .inl ⟨_, W, by go_simp, rfl, Below.refl _ _⟩
          · obtain rfl := Option.some.inj hoo
            have q13 : uu 13 = .bool true := hd 13 (by kernel_rfl)
            have q7 : uu 7 = .bool false := hd 7 (by kernel_rfl)
            refine .inl ⟨wanted_yes rfl (yielded_put (k := 54) (by kernel_rfl) (by kernel_rfl) 85 rfl (by decide) q7), ?_⟩
            generalize hev : Act.eval _ = ev
            have ec : ∀ c, ev (.const c) = c := fun c => by rw [← hev]; rfl
            have e60 : ev (.tmp 60) = .bool true := by rw [← hev]; exact (eval_put (by kernel_rfl) 85 rfl (by decide)).trans q13
            clear hev hd q13 q7
            exact .inl ⟨_, W, by go_simp, rfl, Below.refl _ _⟩
          · obtain rfl := Option.some.inj hoo
            have q14 : uu 14 = .bool true := hd 14 (by kernel_rfl)
            refine .inl ⟨wanted_yes rfl (yielded_put (k := 61) (by kernel_rfl) (by kernel_rfl) 85 rfl (by decide) q14), ?_⟩
            generalize hev : Act.eval _ = ev
            have ec : ∀ c, ev (.const c) = c := fun c => by rw [← hev]; rfl
            have e6 : ev (.tmp 6) = .bool b2 := by rw [← hev]; exact eval_old (by kernel_rfl) 85 rfl (by decide) rfl
            clear hev hd q14
            exact .inl ⟨_, W, by go_simp, rfl, Below.refl _ _⟩
          · obtain rfl := Option.some.inj hoo
            have q15 : uu 15 = .bool b2 := hd 15 (by kernel_rfl)
            have q14 : uu 14 = .bool true := hd 14 (by kernel_rfl)
            refine .inl ⟨wanted_yes rfl (yielded_put (k := 61) (by kernel_rfl) (by kernel_rfl) 85 rfl (by decide) q14), ?_⟩
            generalize hev : Act.eval _ = ev
            have ec : ∀ c, ev (.const c) = c := fun c => by rw [← hev]; rfl
            have e62 : ev (.tmp 62) = .bool b2 := by rw [← hev]; exact (eval_put (by kernel_rfl) 85 rfl (by decide)).trans q15
            clear hev hd q15 q14
            exact .inl ⟨_, W, by go_simp, rfl, Below.refl _ _⟩
          · obtain rfl := Option.some.inj hoo
            have q14 : uu 14 = .bool true := hd 14 (by kernel_rfl)
            have q16 : uu 16 = .bool (!b2) := hd 16 (by kernel_rfl)
            have q7 : uu 7 = .bool false := hd 7 (by kernel_rfl)
            refine .inl ⟨wanted_yes rfl (yielded_put (k := 54) (by kernel_rfl) (by kernel_rfl) 85 rfl (by decide) q7), ?_⟩
            generalize hev : Act.eval _ = ev
            have ec : ∀ c, ev (.const c) = c := fun c => by rw [← hev]; rfl
            have e61 : ev (.tmp 61) = .bool true := by rw [← hev]; exact (eval_put (by kernel_rfl) 85 rfl (by decide)).trans q14
            have e63 : ev (.tmp 63) = .bool (!b2) := by rw [← hev]; exact (eval_put (by kernel_rfl) 85 rfl (by decide)).trans q16
            clear hev hd q14 q16 q7
            exact .inl ⟨_, W, by go_simp, rfl, Below.refl _ _⟩
          · obtain rfl := Option.some.inj hoo
            have q9 : uu 9 = .bool (!b2) := hd 9 (by kernel_rfl)
            have q17 : uu 17 = .bool (!b2) := hd 17 (by kernel_rfl)
            have q7 : uu 7 = .bool false := hd 7 (by kernel_rfl)
            refine .inl ⟨wanted_yes rfl (yielded_put (k := 54) (by kernel_rfl) (by kernel_rfl) 85 rfl (by decide) q7), ?_⟩
            generalize hev : Act.eval _ = ev
            have ec : ∀ c, ev (.const c) = c := fun c => by rw [← hev]; rfl
            have e56 : ev (.tmp 56) = .bool (!b2) := by rw [← hev]; exact (eval_put (by kernel_rfl) 85 rfl (by decide)).trans q9
            have e64 : ev (.tmp 64) = .bool (!b2) := by rw [← hev]; exact (eval_put (by kernel_rfl) 85 rfl (by decide)).trans q17
            clear hev hd q9 q17 q7
            exact .inl ⟨_, W, by go_simp, rfl, Below.refl _ _⟩
          · obtain rfl := Option.some.inj hoo
            have q7 : uu 7 = .bool false := hd 7 (by kernel_rfl)
            have q18 : uu 18 = .bool false := hd 18 (by kernel_rfl)
            refine .inl ⟨wanted_none rfl, ?_⟩
            generalize hev : Act.eval _ = ev
            have ec : ∀ c, ev (.const c) = c := fun c => by rw [← hev]; rfl
            have e54 : ev (.tmp 54) = .bool false := by rw [← hev]; exact (eval_put (by kernel_rfl) 85 rfl (by decide)).trans q7
            have e65 : ev (.tmp 65) = .bool false := by rw [← hev]; exact (eval_put (by kernel_rfl) 85 rfl (by decide)).trans q18
            clear hev hd q7 q18
            exact .inl ⟨_, W, by go_simp, rfl, Below.refl _ _⟩
          · obtain rfl := Option.some.inj hoo
            have q19 : uu 19 = .bool false := hd 19 (by kernel_rfl)
            refine .inl ⟨wanted_none rfl, ?_⟩
            generalize hev : Act.eval _ = ev
            have ec : ∀ c, ev (.const c) = c := fun c => by rw [← hev]; rfl
            have e66 : ev (.tmp 66) = .bool false := by rw [← hev]; exact (eval_put (by kernel_rfl) 85 rfl (by decide)).trans q19
            clear hev hd q19
            exact .inl ⟨_, W, by go_simp, rfl, Below.refl _ _⟩
          · obtain rfl := Option.some.inj hoo
            have q20 : uu 20 = .bool false := hd 20 (by kernel_rfl)
            refine .inl ⟨wanted_yes rfl (yielded_put (k := 67) (by kernel_rfl) (by kernel_rfl) 85 rfl (by decide) q20), ?_⟩
            generalize hev : Act.eval _ = ev
            have ec : ∀ c, ev (.const c) = c := fun c => by rw [← hev]; rfl
            have e3 : ev (.tmp 3) = .pointer (some ⟨w.heap.size + 1, 0, none⟩) := by rw [← hev]; exact eval_old (by kernel_rfl) 85 rfl (by decide) rfl
            clear hev hd q20
            obtain ⟨cc0, cc1⟩ := HCC W hVW
            exact .inl ⟨_, W, by exact load_blk_arr Try.underlying49 (by kernel_rfl) (hbM.next hVW) rfl e3, rfl, Below.refl _ _⟩
          · obtain rfl := Option.some.inj hoo
            have q20 : uu 20 = .bool false := hd 20 (by kernel_rfl)
            refine .inl ⟨wanted_yes rfl (yielded_put (k := 67) (by kernel_rfl) (by kernel_rfl) 85 rfl (by decide) q20), ?_⟩
            generalize hev : Act.eval _ = ev
            have ec : ∀ c, ev (.const c) = c := fun c => by rw [← hev]; rfl
            have ef : ∀ f, ev (.func f) = .func (.func f) #[] #[] := fun f => by rw [← hev]; rfl
            clear hev hd q20
            exact .inr ⟨_, _, _, by go_simp, eall_any W, fun e w' he => ⟨_, he.1, rfl, he.2⟩⟩
          · obtain rfl := Option.some.inj hoo
            have q21 : uu 21 = .agg #[.int .u8 (m0.toNat : Int), .int .u8 (m1.toNat : Int), .int .u8 (m2.toNat : Int), .int .u8 (m3.toNat : Int), .int .u8 (m4.toNat : Int), .int .u8 (m5.toNat : Int)] := hd 21 (by kernel_rfl)
            have q22 : uu 22 = .agg #[.int .u8 255, .int .u8 255, .int .u8 255, .int .u8 255, .int .u8 255, .int .u8 255] := hd 22 (by kernel_rfl)
            have q20 : uu 20 = .bool false := hd 20 (by kernel_rfl)
            refine .inl ⟨wanted_yes rfl (yielded_put (k := 67) (by kernel_rfl) (by kernel_rfl) 85 rfl (by decide) q20), ?_⟩
            generalize hev : Act.eval _ = ev
            have ec : ∀ c, ev (.const c) = c := fun c => by rw [← hev]; rfl
            have e68 : ev (.tmp 68) = .agg #[.int .u8 (m0.toNat : Int), .int .u8 (m1.toNat : Int), .int .u8 (m2.toNat : Int), .int .u8 (m3.toNat : Int), .int .u8 (m4.toNat : Int), .int .u8 (m5.toNat : Int)] := by rw [← hev]; exact (eval_put (by kernel_rfl) 85 rfl (by decide)).trans q21
            have e69 : ev (.tmp 69) = .agg #[.int .u8 255, .int .u8 255, .int .u8 255, .int .u8 255, .int .u8 255, .int .u8 255] := by rw [← hev]; exact (eval_put (by kernel_rfl) 85 rfl (by decide)).trans q22
            clear hev hd q21 q22 q20
            exact .inl ⟨_, W, by (go_simp; exact HE1.out), rfl, Below.refl _ _⟩
          · obtain rfl := Option.some.inj hoo
            have q20 : uu 20 = .bool false := hd 20 (by kernel_rfl)
            refine .inl ⟨wanted_yes rfl (yielded_put (k := 67) (by kernel_rfl) (by kernel_rfl) 85 rfl (by decide) q20), ?_⟩
            generalize hev : Act.eval _ = ev
            have ec : ∀ c, ev (.const c) = c := fun c => by rw [← hev]; rfl
            have e5 : ev (.tmp 5) = .bool b1 := by rw [← hev]; exact eval_old (by kernel_rfl) 85 rfl (by decide) rfl
            clear hev hd q20
            exact .inl ⟨_, W, by go_simp, rfl, Below.refl _ _⟩
          · obtain rfl := Option.some.inj hoo
            have q23 : uu 23 = .bool b1 := hd 23 (by kernel_rfl)
            have q24 : uu 24 = .bool b1 := hd 24 (by kernel_rfl)
            have q20 : uu 20 = .bool false := hd 20 (by kernel_rfl)
            refine .inl ⟨wanted_yes rfl (yielded_put (k := 67) (by kernel_rfl) (by kernel_rfl) 85 rfl (by decide) q20), ?_⟩
            generalize hev : Act.eval _ = ev
            have ec : ∀ c, ev (.const c) = c := fun c => by rw [← hev]; rfl
            have e70 : ev (.tmp 70) = .bool b1 := by rw [← hev]; exact (eval_put (by kernel_rfl) 85 rfl (by decide)).trans q23
            have e71 : ev (.tmp 71) = .bool b1 := by rw [← hev]; exact (eval_put (by kernel_rfl) 85 rfl (by decide)).trans q24
            clear hev hd q23 q24 q20
            exact .inl ⟨_, W, by go_simp, rfl, Below.refl _ _⟩
          · obtain rfl := Option.some.inj hoo
            have q20 : uu 20 = .bool false := hd 20 (by kernel_rfl)
            have q25 : uu 25 = .bool false := hd 25 (by kernel_rfl)
            refine .inl ⟨wanted_none rfl, ?_⟩
            generalize hev : Act.eval _ = ev
            have ec : ∀ c, ev (.const c) = c := fun c => by rw [← hev]; rfl
            have e67 : ev (.tmp 67) = .bool false := by rw [← hev]; exact (eval_put (by kernel_rfl) 85 rfl (by decide)).trans q20
            have e72 : ev (.tmp 72) = .bool false := by rw [← hev]; exact (eval_put (by kernel_rfl) 85 rfl (by decide)).trans q25
            clear hev hd q20 q25
            exact .inl ⟨_, W, by go_simp, rfl, Below.refl _ _⟩
          · simp at hoo
        · intro uu W hVW hall
          replace hBV := hBV.trans (hVW.mono hBV.size)
          replace hbF := hbF.next hVW
          replace hbM := hbM.next hVW
          have q26 : uu 26 = .bool false := hall 26 (by decide)
          clear hall HCC hVW HGr HUn HEQ
          simp only [putAll, Act.put, Nat.reduceAdd, q26]
          simp only [List.setIfInBounds_toArray, List.set_cons_succ, List.set_cons_zero]
          clear q26
          generalize W = V2 at *
          obtain ⟨z0, z1, z2, z3, z4, z5⟩ := HMC _ hbM
          obtain ⟨y0, y1, y2, y3, y4, y5, y6, y7, y8, y9, y10, y11, y12, y13⟩ := HFC _ hbF
          clear hbM hbF
          cases b3
          · simp only [Bool.false_or] at HMi
            go_wp2_with fail
            refine (HMi _).out.mono ?_
            rintro e w1 ⟨rfl, hb⟩
            replace hBV := bnext hBV hb
            clear hb HMi z0 z1 z2 z3 z4 z5 y0 y1 y2 y3 y4 y5 y6 y7 y8 y9 y10 y11 y12 y13
            go_wp2_with fail
            refine (lives04_any _).mono ?_
            rintro e w2 ⟨rfl, hb⟩
            replace hBV := bnext hBV hb
            go_wp2_with fail
            go_ret
            exact ⟨rfl, hBV⟩
          · simp only [Bool.true_or] at HMi
            go_wp2_with fail
            refine (HMi _).out.mono ?_
            rintro e w1 ⟨rfl, hb⟩
            replace hBV := bnext hBV hb
            clear hb HMi z0 z1 z2 z3 z4 z5 y0 y1 y2 y3 y4 y5 y6 y7 y8 y9 y10 y11 y12 y13
            go_wp2_with fail
            refine (lives04_any _).mono ?_
            rintro e w2 ⟨rfl, hb⟩
            replace hBV := bnext hBV hb
            go_wp2_with fail
            go_ret
            exact ⟨rfl, hBV⟩
      · simp only [Bool.not_true, Bool.false_and] at hgn HUn
        go_wp2_with fail
        refine region_put (by kernel_rfl) (by kernel_rfl) (by kernel_rfl) 85 rfl (by kernel_rfl) V1 (fun i v W => match i with
            | 0 => v = .agg #[.int .u8 (m0.toNat : Int), .int .u8 (m1.toNat : Int), .int .u8 (m2.toNat : Int), .int .u8 (m3.toNat : Int), .int .u8 (m4.toNat : Int), .int .u8 (m5.toNat : Int)]
            | 1 => v = .bool true
            | 2 => v = .pointer (some ⟨w.heap.size + 1, 0, none⟩)
            | 3 => v = .int .u8 (m0.toNat : Int)
            | 4 => v = .int .u8 ((m0.toNat : Int) % 2)
            | 5 => v = .bool true
            | 6 => v = .bool false
            | 7 => v = .bool false
            | 8 => v = .agg #[.int .u8 (m0.toNat : Int), .int .u8 (m1.toNat : Int), .int .u8 (m2.toNat : Int), .int .u8 (m3.toNat : Int), .int .u8 (m4.toNat : Int), .int .u8 (m5.toNat : Int)]
            | 9 => v = .bool false
            | 10 => v = .pointer (some ⟨w.heap.size + 1, 0, none⟩)
            | 11 => v = .int .u8 (m0.toNat : Int)
            | 12 => v = .int .u8 ((m0.toNat : Int) % 2)
            | 13 => v = .bool false
            | 14 => v = .bool false
            | 15 => v = undef
            | 16 => v = undef
            | 17 => v = .bool false
            | 18 => v = .bool false
            | 19 => v = .bool false
            | 20 => v = .bool false
            | 21 => v = .agg #[.int .u8 (m0.toNat : Int), .int .u8 (m1.toNat : Int), .int .u8 (m2.toNat : Int), .int .u8 (m3.toNat : Int), .int .u8 (m4.toNat : Int), .int .u8 (m5.toNat : Int)]
            | 22 => v = .agg #[.int .u8 255, .int .u8 255, .int .u8 255, .int .u8 255, .int .u8 255, .int .u8 255]
            | 23 => v = .bool b1
            | 24 => v = .bool b1
            | 25 => v = .bool false
            | 26 => v = .bool false
            | _ => True) (Below.refl _ _) ?_ ?_ ?_
        · intro i v W W' h hb
          match i, h with
          | 0, h => exact h
          | 1, h => exact h
          | 2, h => exact h
          | 3, h => exact h
          | 4, h => exact h
          | 5, h => exact h
          | 6, h => exact h
          | 7, h => exact h
          | 8, h => exact h
          | 9, h => exact h
          | 10, h => exact h
          | 11, h => exact h
          | 12, h => exact h
          | 13, h => exact h
          | 14, h => exact h
          | 15, h => exact h
          | 16, h => exact h
          | 17, h => exact h
          | 18, h => exact h
          | 19, h => exact h
          | 20, h => exact h
          | 21, h => exact h
          | 22, h => exact h
          | 23, h => exact h
          | 24, h => exact h
          | 25, h => exact h
          | 26, h => exact h
          | _ + 27, _ => trivial
        · intro i o uu W hoo hVW hd
          rcases i with _|_|_|_|_|_|_|_|_|_|_|_|_|_|_|_|_|_|_|_|_|_|_|_|_|_|_|i
          · obtain rfl := Option.some.inj hoo
            refine .inl ⟨wanted_none rfl, ?_⟩
            generalize hev : Act.eval _ = ev
            have ec : ∀ c, ev (.const c) = c := fun c => by rw [← hev]; rfl
            have e3 : ev (.tmp 3) = .pointer (some ⟨w.heap.size + 1, 0, none⟩) := by rw [← hev]; exact eval_old (by kernel_rfl) 85 rfl (by decide) rfl
            clear hev hd
            obtain ⟨cc0, cc1⟩ := HCC W hVW
            exact .inl ⟨_, W, by exact load_blk_arr Try.underlying49 (by kernel_rfl) (hbM.next hVW) rfl e3, rfl, Below.refl _ _⟩
          · obtain rfl := Option.some.inj hoo
            have q0 : uu 0 = .agg #[.int .u8 (m0.toNat : Int), .int .u8 (m1.toNat : Int), .int .u8 (m2.toNat : Int), .int .u8 (m3.toNat : Int), .int .u8 (m4.toNat : Int), .int .u8 (m5.toNat : Int)] := hd 0 (by kernel_rfl)
            refine .inl ⟨wanted_none rfl, ?_⟩
            generalize hev : Act.eval _ = ev
            have ec : ∀ c, ev (.const c) = c := fun c => by rw [← hev]; rfl
            have ef : ∀ f, ev (.func f) = .func (.func f) #[] #[] := fun f => by rw [← hev]; rfl
            have e47 : ev (.tmp 47) = .agg #[.int .u8 (m0.toNat : Int), .int .u8 (m1.toNat : Int), .int .u8 (m2.toNat : Int), .int .u8 (m3.toNat : Int), .int .u8 (m4.toNat : Int), .int .u8 (m5.toNat : Int)] := by rw [← hev]; exact (eval_put (by kernel_rfl) 85 rfl (by decide)).trans q0
            clear hev hd q0
            exact .inr ⟨_, _, _, by go_simp, (HGr W).out, fun e w' he => ⟨_, he.1, rfl, he.2⟩⟩
          · obtain rfl := Option.some.inj hoo
            refine .inl ⟨wanted_none rfl, ?_⟩
            generalize hev : Act.eval _ = ev
            have ec : ∀ c, ev (.const c) = c := fun c => by rw [← hev]; rfl
            have e3 : ev (.tmp 3) = .pointer (some ⟨w.heap.size + 1, 0, none⟩) := by rw [← hev]; exact eval_old (by kernel_rfl) 85 rfl (by decide) rfl
            clear hev hd
            exact .inl ⟨_, W, by go_simp, rfl, Below.refl _ _⟩
          · obtain rfl := Option.some.inj hoo
            have q2 : uu 2 = .pointer (some ⟨w.heap.size + 1, 0, none⟩) := hd 2 (by kernel_rfl)
            refine .inl ⟨wanted_none rfl, ?_⟩
            generalize hev : Act.eval _ = ev
            have ec : ∀ c, ev (.const c) = c := fun c => by rw [← hev]; rfl
            have e49 : ev (.tmp 49) = .pointer (some ⟨w.heap.size + 1, 0, none⟩) := by rw [← hev]; exact (eval_put (by kernel_rfl) 85 rfl (by decide)).trans q2
            clear hev hd q2
            obtain ⟨cc0, cc1⟩ := HCC W hVW
            exact .inl ⟨_, W, by go_simp, rfl, Below.refl _ _⟩
          · obtain rfl := Option.some.inj hoo
            have q3 : uu 3 = .int .u8 (m0.toNat : Int) := hd 3 (by kernel_rfl)
            refine .inl ⟨wanted_none rfl, ?_⟩
            generalize hev : Act.eval _ = ev
            have ec : ∀ c, ev (.const c) = c := fun c => by rw [← hev]; rfl
            have e50 : ev (.tmp 50) = .int .u8 (m0.toNat : Int) := by rw [← hev]; exact (eval_put (by kernel_rfl) 85 rfl (by decide)).trans q3
            clear hev hd q3
            have htm : ((m0.toNat : Int)).tmod 2 = (m0.toNat : Int) % 2 := Int.tmod_eq_emod_of_nonneg (by omega)
            exact .inl ⟨_, W, by go_simp, rfl, Below.refl _ _⟩
          · obtain rfl := Option.some.inj hoo
            have q4 : uu 4 = .int .u8 ((m0.toNat : Int) % 2) := hd 4 (by kernel_rfl)
            refine .inl ⟨wanted_none rfl, ?_⟩
            generalize hev : Act.eval _ = ev
            have ec : ∀ c, ev (.const c) = c := fun c => by rw [← hev]; rfl
            have e51 : ev (.tmp 51) = .int .u8 ((m0.toNat : Int) % 2) := by rw [← hev]; exact (eval_put (by kernel_rfl) 85 rfl (by decide)).trans q4
            clear hev hd q4
            have hh := hgm.out
            exact .inl ⟨_, W, by go_simp, rfl, Below.refl _ _⟩
          · obtain rfl := Option.some.inj hoo
            have q1 : uu 1 = .bool true := hd 1 (by kernel_rfl)
            have q5 : uu 5 = .bool true := hd 5 (by kernel_rfl)
            refine .inl ⟨wanted_none rfl, ?_⟩
            generalize hev : Act.eval _ = ev
            have ec : ∀ c, ev (.const c) = c := fun c => by rw [← hev]; rfl
            have e48 : ev (.tmp 48) = .bool true := by rw [← hev]; exact (eval_put (by kernel_rfl) 85 rfl (by decide)).trans q1
            have e52 : ev (.tmp 52) = .bool true := by rw [← hev]; exact (eval_put (by kernel_rfl) 85 rfl (by decide)).trans q5
            clear hev hd q1 q5
            exact .inl ⟨_, W, by go_simp, rfl, Below.refl _ _⟩
          · obtain rfl := Option.some.inj hoo
            have q6 : uu 6 = .bool false := hd 6 (by kernel_rfl)
            refine .inl ⟨wanted_none rfl, ?_⟩
            generalize hev : Act.eval _ = ev
            have ec : ∀ c, ev (.const c) = c := fun c => by rw [← hev]; rfl
            have e53 : ev (.tmp 53) = .bool false := by rw [← hev]; exact (eval_put (by kernel_rfl) 85 rfl (by decide)).trans q6
            clear hev hd q6
            exact .inl ⟨_, W, by go_simp, rfl, Below.refl _ _⟩
          · obtain rfl := Option.some.inj hoo
            have q7 : uu 7 = .bool false := hd 7 (by kernel_rfl)
            refine .inl ⟨wanted_yes rfl (yielded_put (k := 54) (by kernel_rfl) (by kernel_rfl) 85 rfl (by decide) q7), ?_⟩
            generalize hev : Act.eval _ = ev
            have ec : ∀ c, ev (.const c) = c := fun c => by rw [← hev]; rfl
            have e3 : ev (.tmp 3) = .pointer (some ⟨w.heap.size + 1, 0, none⟩) := by rw [← hev]; exact eval_old (by kernel_rfl) 85 rfl (by decide) rfl
            clear hev hd q7
            obtain ⟨cc0, cc1⟩ := HCC W hVW
            exact .inl ⟨_, W, by exact load_blk_arr Try.underlying49 (by kernel_rfl) (hbM.next hVW) rfl e3, rfl, Below.refl _ _⟩
          · obtain rfl := Option.some.inj hoo
            have q8 : uu 8 = .agg #[.int .u8 (m0.toNat : Int), .int .u8 (m1.toNat : Int), .int .u8 (m2.toNat : Int), .int .u8 (m3.toNat : Int), .int .u8 (m4.toNat : Int), .int .u8 (m5.toNat : Int)] := hd 8 (by kernel_rfl)
            have q7 : uu 7 = .bool false := hd 7 (by kernel_rfl)
            refine .inl ⟨wanted_yes rfl (yielded_put (k := 54) (by kernel_rfl) (by kernel_rfl) 85 rfl (by decide) q7), ?_⟩
            generalize hev : Act.eval _ = ev
            have ec : ∀ c, ev (.const c) = c := fun c => by rw [← hev]; rfl
            have ef : ∀ f, ev (.func f) = .func (.func f) #[] #[] := fun f => by rw [← hev]; rfl
            have e55 : ev (.tmp 55) = .agg #[.int .u8 (m0.toNat : Int), .int .u8 (m1.toNat : Int), .int .u8 (m2.toNat : Int), .int .u8 (m3.toNat : Int), .int .u8 (m4.toNat : Int), .int .u8 (m5.toNat : Int)] := by rw [← hev]; exact (eval_put (by kernel_rfl) 85 rfl (by decide)).trans q8
            clear hev hd q8 q7
            exact .inr ⟨_, _, _, by go_simp, (HUn W).out, fun e w' he => ⟨_, he.1, rfl, he.2⟩⟩
          · obtain rfl := Option.some.inj hoo
            have q7 : uu 7 = .bool false := hd 7 (by kernel_rfl)
            refine .inl ⟨wanted_yes rfl (yielded_put (k := 54) (by kernel_rfl) (by kernel_rfl) 85 rfl (by decide) q7), ?_⟩
            generalize hev : Act.eval _ = ev
            have ec : ∀ c, ev (.const c) = c := fun c => by rw [← hev]; rfl
            have e3 : ev (.tmp 3) = .pointer (some ⟨w.heap.size + 1, 0, none⟩) := by rw [← hev]; exact eval_old (by kernel_rfl) 85 rfl (by decide) rfl
            clear hev hd q7
            exact .inl ⟨_, W, by go_simp, rfl, Below.refl _ _⟩
          · obtain rfl := Option.some.inj hoo
            have q10 : uu 10 = .pointer (some ⟨w.heap.size + 1, 0, none⟩) := hd 10 (by kernel_rfl)
            have q7 : uu 7 = .bool false := hd 7 (by kernel_rfl)
            refine .inl ⟨wanted_yes rfl (yielded_put (k := 54) (by kernel_rfl) (by kernel_rfl) 85 rfl (by decide) q7), ?_⟩
            generalize hev : Act.eval _ = ev
            have ec : ∀ c, ev (.const c) = c := fun c => by rw [← hev]; rfl
            have e57 : ev (.tmp 57) = .pointer (some ⟨w.heap.size + 1, 0, none⟩) := by rw [← hev]; exact (eval_put (by kernel_rfl) 85 rfl (by decide)).trans q10
            clear hev hd q10 q7
            obtain ⟨cc0, cc1⟩ := HCC W hVW
            exact .inl ⟨_, W, by go_simp, rfl, Below.refl _ _⟩
          · obtain rfl := Option.some.inj hoo
            have q11 : uu 11 = .int .u8 (m0.toNat : Int) := hd 11 (by kernel_rfl)
            have q7 : uu 7 = .bool false := hd 7 (by kernel_rfl)
            refine .inl ⟨wanted_yes rfl (yielded_put (k := 54) (by kernel_rfl) (by kernel_rfl) 85 rfl (by decide) q7), ?_⟩
            generalize hev : Act.eval _ = ev
            have ec : ∀ c, ev (.const c) = c := fun c => by rw [← hev]; rfl
            have e58 : ev (.tmp 58) = .int .u8 (m0.toNat : Int) := by rw [← hev]; exact (eval_put (by kernel_rfl) 85 rfl (by decide)).trans q11
            clear hev hd q11 q7
            have htm : ((m0.toNat : Int)).tmod 2 = (m0.toNat : Int) % 2 := Int.tmod_eq_emod_of_nonneg (by omega)
            exact .inl ⟨_, W, by go_simp, rfl, Below.refl _ _⟩
          · obtain rfl := Option.some.inj hoo
            have q12 : uu 12 = .int .u8 ((m0.toNat : Int) % 2) := hd 12 (by kernel_rfl)
            have q7 : uu 7 = .bool false := hd 7 (by kernel_rfl)
            refine .inl ⟨wanted_yes rfl (yielded_put (k := 54) (by kernel_rfl) (by kernel_rfl) 85 rfl (by decide) q7), ?_⟩
            generalize hev : Act.eval _ = ev
            have ec : ∀ c, ev (.const c) = c := fun c => by rw [← hev]; rfl
            have e59 : ev (.tmp 59) = .int .u8 ((m0.toNat : Int) % 2) := by rw [← hev]; exact (eval_put (by kernel_rfl) 85 rfl (by decide)).trans q12
            clear hev hd q12 q7
            have hh := hgn.out
            exact .inl ⟨_, W, by go_simp, rfl, Below.refl _ _⟩
          · obtain rfl := Option.some.inj hoo
            have q13 : uu 13 = .bool false := hd 13 (by kernel_rfl)
            have q7 : uu 7 = .bool false := hd 7 (by kernel_rfl)
            refine .inl ⟨wanted_yes rfl (yielded_put (k := 54) (by kernel_rfl) (by kernel_rfl) 85 rfl (by decide) q7), ?_⟩
            generalize hev : Act.eval _ = ev
            have ec : ∀ c, ev (.const c) = c := fun c => by rw [← hev]; rfl
            have e60 : ev (.tmp 60) = .bool false := by rw [← hev]; exact (eval_put (by kernel_rfl) 85 rfl (by decide)).trans q13
            clear hev hd q13 q7
            exact .inl ⟨_, W, by go_simp, rfl, Below.refl _ _⟩
          · obtain rfl := Option.some.inj hoo
            have q14 : uu 14 = .bool false := hd 14 (by kernel_rfl)
            exact .inr ⟨wanted_no rfl (yielded_put (k := 61) (by kernel_rfl) (by kernel_rfl) 85 rfl (by decide) q14), rfl⟩
          · obtain rfl := Option.some.inj hoo
            have q14 : uu 14 = .bool false := hd 14 (by kernel_rfl)
            exact .inr ⟨wanted_no rfl (yielded_put (k := 61) (by kernel_rfl) (by kernel_rfl) 85 rfl (by decide) q14), rfl⟩
          · obtain rfl := Option.some.inj hoo
            have q14 : uu 14 = .bool false := hd 14 (by kernel_rfl)
            have q16 : uu 16 = undef := hd 16 (by kernel_rfl)
            have q7 : uu 7 = .bool false := hd 7 (by kernel_rfl)
            refine .inl ⟨wanted_yes rfl (yielded_put (k := 54) (by kernel_rfl) (by kernel_rfl) 85 rfl (by decide) q7), ?_⟩
            generalize hev : Act.eval _ = ev
            have ec : ∀ c, ev (.const c) = c := fun c => by rw [← hev]; rfl
            have e61 : ev (.tmp 61) = .bool false := by rw [← hev]; exact (eval_put (by kernel_rfl) 85 rfl (by decide)).trans q14
            have e63 : ev (.tmp 63) = undef := by rw [← hev]; exact (eval_put (by kernel_rfl) 85 rfl (by decide)).trans q16
            clear hev hd q14 q16 q7
            exact .inl ⟨_, W, by go_simp, rfl, Below.refl _ _⟩
          · obtain rfl := Option.some.inj hoo
            have q9 : uu 9 = .bool false := hd 9 (by kernel_rfl)
            have q17 : uu 17 = .bool false := hd 17 (by kernel_rfl)
            have q7 : uu 7 = .bool false := hd 7 (by kernel_rfl)
            refine .inl ⟨wanted_yes rfl (yielded_put (k := 54) (by kernel_rfl) (by kernel_rfl) 85 rfl (by decide) q7), ?_⟩
            generalize hev : Act.eval _ = ev
            have ec : ∀ c, ev (.const c) = c := fun c => by rw [← hev]; rfl
            have e56 : ev (.tmp 56) = .bool false := by rw [← hev]; exact (eval_put (by kernel_rfl) 85 rfl (by decide)).trans q9
            have e64 : ev (.tmp 64) = .bool false := by rw [← hev]; exact (eval_put (by kernel_rfl) 85 rfl (by decide)).trans q17
            clear hev hd q9 q17 q7
            exact .inl ⟨_, W, by go_simp, rfl, Below.refl _ _⟩
          · obtain rfl := Option.some.inj hoo
            have q7 : uu 7 = .bool false := hd 7 (by kernel_rfl)
            have q18 : uu 18 = .bool false := hd 18 (by kernel_rfl)
            refine .inl ⟨wanted_none rfl, ?_⟩
            generalize hev : Act.eval _ = ev
            have ec : ∀ c, ev (.const c) = c := fun c => by rw [← hev]; rfl
            have e54 : ev (.tmp 54) = .bool false := by rw [← hev]; exact (eval_put (by kernel_rfl) 85 rfl (by decide)).trans q7
            have e65 : ev (.tmp 65) = .bool false := by rw [← hev]; exact (eval_put (by kernel_rfl) 85 rfl (by decide)).trans q18
            clear hev hd q7 q18
            exact .inl ⟨_, W, by go_simp, rfl, Below.refl _ _⟩
          · obtain rfl := Option.some.inj hoo
            have q19 : uu 19 = .bool false := hd 19 (by kernel_rfl)
            refine .inl ⟨wanted_none rfl, ?_⟩
            generalize hev : Act.eval _ = ev
            have ec : ∀ c, ev (.const c) = c := fun c => by rw [← hev]; rfl
            have e66 : ev (.tmp 66) = .bool false := by rw [← hev]; exact (eval_put (by kernel_rfl) 85 rfl (by decide)).trans q19
            clear hev hd q19
            exact .inl ⟨_, W, by go_simp, rfl, Below.refl _ _⟩
          · obtain rfl := Option.some.inj hoo
            have q20 : uu 20 = .bool false := hd 20 (by kernel_rfl)
            refine .inl ⟨wanted_yes rfl (yielded_put (k := 67) (by kernel_rfl) (by kernel_rfl) 85 rfl (by decide) q20), ?_⟩
            generalize hev : Act.eval _ = ev
            have ec : ∀ c, ev (.const c) = c := fun c => by rw [← hev]; rfl
            have e3 : ev (.tmp 3) = .pointer (some ⟨w.heap.size + 1, 0, none⟩) := by rw [← hev]; exact eval_old (by kernel_rfl) 85 rfl (by decide) rfl
            clear hev hd q20
            obtain ⟨cc0, cc1⟩ := HCC W hVW
            exact .inl ⟨_, W, by exact load_blk_arr Try.underlying49 (by kernel_rfl) (hbM.next hVW) rfl e3, rfl, Below.refl _ _⟩
          · obtain rfl := Option.some.inj hoo
            have q20 : uu 20 = .bool false := hd 20 (by kernel_rfl)
            refine .inl ⟨wanted_yes rfl (yielded_put (k := 67) (by kernel_rfl) (by kernel_rfl) 85 rfl (by decide) q20), ?_⟩
            generalize hev : Act.eval _ = ev
            have ec : ∀ c, ev (.const c) = c := fun c => by rw [← hev]; rfl
            have ef : ∀ f, ev (.func f) = .func (.func f) #[] #[] := fun f => by rw [← hev]; rfl
            clear hev hd q20
            exact .inr ⟨_, _, _, by go_simp, eall_any W, fun e w' he => ⟨_, he.1, rfl, he.2⟩⟩
          · obtain rfl := Option.some.inj hoo
            have q21 : uu 21 = .agg #[.int .u8 (m0.toNat : Int), .int .u8 (m1.toNat : Int), .int .u8 (m2.toNat : Int), .int .u8 (m3.toNat : Int), .int .u8 (m4.toNat : Int), .int .u8 (m5.toNat : Int)] := hd 21 (by kernel_rfl)
            have q22 : uu 22 = .agg #[.int .u8 255, .int .u8 255, .int .u8 255, .int .u8 255, .int .u8 255, .int .u8 255] := hd 22 (by kernel_rfl)
            have q20 : uu 20 = .bool false := hd 20 (by kernel_rfl)
            refine .inl ⟨wanted_yes rfl (yielded_put (k := 67) (by kernel_rfl) (by kernel_rfl) 85 rfl (by decide) q20), ?_⟩
            generalize hev : Act.eval _ = ev
            have ec : ∀ c, ev (.const c) = c := fun c => by rw [← hev]; rfl
            have e68 : ev (.tmp 68) = .agg #[.int .u8 (m0.toNat : Int), .int .u8 (m1.toNat : Int), .int .u8 (m2.toNat : Int), .int .u8 (m3.toNat : Int), .int .u8 (m4.toNat : Int), .int .u8 (m5.toNat : Int)] := by rw [← hev]; exact (eval_put (by kernel_rfl) 85 rfl (by decide)).trans q21
            have e69 : ev (.tmp 69) = .agg #[.int .u8 255, .int .u8 255, .int .u8 255, .int .u8 255, .int .u8 255, .int .u8 255] := by rw [← hev]; exact (eval_put (by kernel_rfl) 85 rfl (by decide)).trans q22
            clear hev hd q21 q22 q20
            exact .inl ⟨_, W, by (go_simp; exact HE1.out), rfl, Below.refl _ _⟩
          · obtain rfl := Option.some.inj hoo
            have q20 : uu 20 = .bool false := hd 20 (by kernel_rfl)
            refine .inl ⟨wanted_yes rfl (yielded_put (k := 67) (by kernel_rfl) (by kernel_rfl) 85 rfl (by decide) q20), ?_⟩
            generalize hev : Act.eval _ = ev
            have ec : ∀ c, ev (.const c) = c := fun c => by rw [← hev]; rfl
            have e5 : ev (.tmp 5) = .bool b1 := by rw [← hev]; exact eval_old (by kernel_rfl) 85 rfl (by decide) rfl
            clear hev hd q20
            exact .inl ⟨_, W, by go_simp, rfl, Below.refl _ _⟩
          · obtain rfl := Option.some.inj hoo
            have q23 : uu 23 = .bool b1 := hd 23 (by kernel_rfl)
            have q24 : uu 24 = .bool b1 := hd 24 (by kernel_rfl)
            have q20 : uu 20 = .bool false := hd 20 (by kernel_rfl)
            refine .inl ⟨wanted_yes rfl (yielded_put (k := 67) (by kernel_rfl) (by kernel_rfl) 85 rfl (by decide) q20), ?_⟩
            generalize hev : Act.eval _ = ev
            have ec : ∀ c, ev (.const c) = c := fun c => by rw [← hev]; rfl
            have e70 : ev (.tmp 70) = .bool b1 := by rw [← hev]; exact (eval_put (by kernel_rfl) 85 rfl (by decide)).trans q23
            have e71 : ev (.tmp 71) = .bool b1 := by rw [← hev]; exact (eval_put (by kernel_rfl) 85 rfl (by decide)).trans q24
            clear hev hd q23 q24 q20
            exact .inl ⟨_, W, by go_simp, rfl, Below.refl _ _⟩
          · obtain rfl := Option.some.inj hoo
            have q20 : uu 20 = .bool false := hd 20 (by kernel_rfl)
            have q25 : uu 25 = .bool false := hd 25 (by kernel_rfl)
            refine .inl ⟨wanted_none rfl, ?_⟩
            generalize hev : Act.eval _ = ev
            have ec : ∀ c, ev (.const c) = c := fun c => by rw [← hev]; rfl
            have e67 : ev (.tmp 67) = .bool false := by rw [← hev]; exact (eval_put (by kernel_rfl) 85 rfl (by decide)).trans q20
            have e72 : ev (.tmp 72) = .bool false := by rw [← hev]; exact (eval_put (by kernel_rfl) 85 rfl (by decide)).trans q25
            clear hev hd q20 q25
            exact .inl ⟨_, W, by go_simp, rfl, Below.refl _ _⟩
          · simp at hoo
        · intro uu W hVW hall
          replace hBV := hBV.trans (hVW.mono hBV.size)
          replace hbF := hbF.next hVW
          replace hbM := hbM.next hVW
          have q26 : uu 26 = .bool false := hall 26 (by decide)
          clear hall HCC hVW HGr HUn HEQ
          simp only [putAll, Act.put, Nat.reduceAdd, q26]
          simp only [List.setIfInBounds_toArray, List.set_cons_succ, List.set_cons_zero]
          clear q26
          generalize W = V2 at *
          obtain ⟨z0, z1, z2, z3, z4, z5⟩ := HMC _ hbM
          obtain ⟨y0, y1, y2, y3, y4, y5, y6, y7, y8, y9, y10, y11, y12, y13⟩ := HFC _ hbF
          clear hbM hbF
          cases b3
          · simp only [Bool.false_or] at HMi
            go_wp2_with fail
            refine (HMi _).out.mono ?_
            rintro e w1 ⟨rfl, hb⟩
            replace hBV := bnext hBV hb
            clear hb HMi z0 z1 z2 z3 z4 z5 y0 y1 y2 y3 y4 y5 y6 y7 y8 y9 y10 y11 y12 y13
            go_wp2_with fail
            refine (lives04_any _).mono ?_
            rintro e w2 ⟨rfl, hb⟩
            replace hBV := bnext hBV hb
            go_wp2_with fail
            go_ret
            exact ⟨rfl, hBV⟩
          · simp only [Bool.true_or] at HMi
            go_wp2_with fail
            refine (HMi _).out.mono ?_
            rintro e w1 ⟨rfl, hb⟩
            replace hBV := bnext hBV hb
            clear hb HMi z0 z1 z2 z3 z4 z5 y0 y1 y2 y3 y4 y5 y6 y7 y8 y9 y10 y11 y12 y13
            go_wp2_with fail
            refine (lives04_any _).mono ?_
            rintro e w2 ⟨rfl, hb⟩
            replace hBV := bnext hBV hb
            go_wp2_with fail
            go_ret
            exact ⟨rfl, hBV⟩
theorem EtherMine_walk (a0_0_0 : Int) (a0_0_1 : Int) (a0_0_2 : Int) (a0_0_3 : Int) (a0_0_4 : Int) (a0_0_5 : Int) (a0_1_0 : Int) (a0_1_1 : Int) (a0_1_2 : Int) (a0_1_3 : Int) (a0_1_4 : Int) (a0_1_5 : Int) (a0_2 : Int) (a0_3 : Option Addr) (len0_3 cap0_3 : Nat) (z0_3 : List Int) (a1_0 : Int) (a1_1 : Int) (a1_2 : Int) (a1_3 : Int) (a1_4 : Int) (a1_5 : Int) (w : World) (w0_0_0 : (Lit.int .u8 a0_0_0).wf = true) (w0_0_1 : (Lit.int .u8 a0_0_1).wf = true) (w0_0_2 : (Lit.int .u8 a0_0_2).wf = true) (w0_0_3 : (Lit.int .u8 a0_0_3).wf = true) (w0_0_4 : (Lit.int .u8 a0_0_4).wf = true) (w0_0_5 : (Lit.int .u8 a0_0_5).wf = true) (w0_1_0 : (Lit.int .u8 a0_1_0).wf = true) (w0_1_1 : (Lit.int .u8 a0_1_1).wf = true) (w0_1_2 : (Lit.int .u8 a0_1_2).wf = true) (w0_1_3 : (Lit.int .u8 a0_1_3).wf = true) (w0_1_4 : (Lit.int .u8 a0_1_4).wf = true) (w0_1_5 : (Lit.int .u8 a0_1_5).wf = true) (w0_2 : (Lit.int .u16 a0_2).wf = true) (_w0_3 : InRow .u8 w a0_3 len0_3 cap0_3 z0_3) (w1_0 : (Lit.int .u8 a1_0).wf = true) (w1_1 : (Lit.int .u8 a1_1).wf = true) (w1_2 : (Lit.int .u8 a1_2).wf = true) (w1_3 : (Lit.int .u8 a1_3).wf = true) (w1_4 : (Lit.int .u8 a1_4).wf = true) (w1_5 : (Lit.int .u8 a1_5).wf = true) :
    Calls Try.prog 6 #[.agg #[.int .u8 a0_0_0, .int .u8 a0_0_1, .int .u8 a0_0_2, .int .u8 a0_0_3, .int .u8 a0_0_4, .int .u8 a0_0_5, .int .u8 a0_1_0, .int .u8 a0_1_1, .int .u8 a0_1_2, .int .u8 a0_1_3, .int .u8 a0_1_4, .int .u8 a0_1_5, .int .u16 a0_2, .slice a0_3 len0_3 cap0_3], .agg #[.int .u8 a1_0, .int .u8 a1_1, .int .u8 a1_2, .int .u8 a1_3, .int .u8 a1_4, .int .u8 a1_5]] w fun e w' => e = .returned (.bool true) ∧ Below w.heap.size w w' := by
  obtain ⟨x0, rfl⟩ := u8_of w0_0_0
  obtain ⟨x1, rfl⟩ := u8_of w0_0_1
  obtain ⟨x2, rfl⟩ := u8_of w0_0_2
  obtain ⟨x3, rfl⟩ := u8_of w0_0_3
  obtain ⟨x4, rfl⟩ := u8_of w0_0_4
  obtain ⟨x5, rfl⟩ := u8_of w0_0_5
  obtain ⟨x6, rfl⟩ := u8_of w0_1_0
  obtain ⟨x7, rfl⟩ := u8_of w0_1_1
  obtain ⟨x8, rfl⟩ := u8_of w0_1_2
  obtain ⟨x9, rfl⟩ := u8_of w0_1_3
  obtain ⟨x10, rfl⟩ := u8_of w0_1_4
  obtain ⟨x11, rfl⟩ := u8_of w0_1_5
  obtain ⟨t, rfl⟩ := u16_of w0_2
  obtain ⟨m0, rfl⟩ := u8_of w1_0
  obtain ⟨m1, rfl⟩ := u8_of w1_1
  obtain ⟨m2, rfl⟩ := u8_of w1_2
  obtain ⟨m3, rfl⟩ := u8_of w1_3
  obtain ⟨m4, rfl⟩ := u8_of w1_4
  obtain ⟨m5, rfl⟩ := u8_of w1_5
  exact mine_w x0 x1 x2 x3 x4 x5 x6 x7 x8 x9 x10 x11 m0 m1 m2 m3 m4 m5 t a0_3 len0_3 cap0_3 w
end Go.Proofs.Yteodjajjlgekcaa
