/- Contracts of quote.begun. -/
import Derived.Test.YtpibempfhgaomaaIp3
import Derived.Test.YtpibempfhgaomaaFlow2
import Derived.Test.YtpibempfhgaomaaIcmp2
namespace Go.Proofs.Ytpibempfhgaomaa
open Go.RowKit

set_option maxHeartbeats 4000000 in
theorem qbegun_any (A : Option Addr) (c : Nat) (xs : List UInt8) (w : World) (hr : Rd bv w w.heap.size A c xs) (n : Nat) (h20 : 20 ≤ n) (hn : n ≤ xs.length) (hxl : xs.length ≤ 1000000) (fl : Nat) (hfl : beN ((xs.drop 6).take 2) = fl) (M : Bool) (hM : decide (fl / 8192 % 2 = 1) = M) (fo : UInt16) (hf : fl % 8192 = fo.toNat) (pr : UInt8) (h9 : xs[9] = pr) (s d : UInt32) (hs : beN ((xs.drop 12).take 4) = s.toNat) (hd : beN ((xs.drop 16).take 4) = d.toNat) :
    Calls Try.prog 28 #[.slice A xs.length c, .int .i64 (n : Int)] w fun e w' => ∃ L A' c', e = .returned (.agg #[.int .u8 0, .int .u16 0, .bool false, .bool M, .int .u16 (fo.toNat : Int), .int .u8 0, .int .u8 (pr.toNat : Int), .int .u32 (s.toNat : Int), .int .u32 (d.toNat : Int), .slice none 0 0, .slice A' L.length c']) ∧ Hid (L = xs.drop n) ∧ Rd bv w' w'.heap.size A' c' L ∧ Below w.heap.size w w' := by
  have hlc := hr.len
  have hcc := hr.cap
  obtain ⟨b0, off, rfl, hB0, hcell⟩ := byt_at hr (k := 0) (by omega)
  have i9 : (9 : Int) < (xs.length : Int) := by omega
  have HC : ∀ U, Below w.heap.size w U → U.cell? ⟨b0, off + 9, none⟩ = some (.int .u8 (pr.toNat : Int)) := by
    intro U h
    rw [← h9]
    exact (h.cell hB0).trans (hcell 9 (by omega))
  obtain ⟨i0, hi0, hz0, hz1, hz2⟩ := info_parts info_u8
  have hr0 := hr
  obtain ⟨A2, c2, hr2, hsl⟩ := hr0.slice_l Try.underlying34 hi0 hz1 n (n : Int) rfl hn
  obtain ⟨L, hL⟩ : ∃ L, xs.drop n = L := ⟨_, rfl⟩
  have hln : xs.length - n = L.length := by rw [← hL]; simp
  rw [hln] at hsl
  rw [hL] at hr2
  have HL := Lib.hid hL.symm
  have hr20 := hr2
  have hG6 := fun W (h : Rd bv W W.heap.size (some ⟨b0, off, none⟩) c xs) => Lib.hid (get16_b (some ⟨b0, off, none⟩) c xs 6 6 _ rfl W h (by omega) hfl)
  have hG12 := fun W (h : Rd bv W W.heap.size (some ⟨b0, off, none⟩) c xs) => Lib.hid (get32_b (some ⟨b0, off, none⟩) c xs 12 12 _ rfl W h (by omega) hs)
  have hG16 := fun W (h : Rd bv W W.heap.size (some ⟨b0, off, none⟩) c xs) => Lib.hid (get32_b (some ⟨b0, off, none⟩) c xs 16 16 _ rfl W h (by omega) hd)
  have hfl16 : fl ≤ 65535 := by rw [← hfl]; exact two_lt xs 6 (by omega)
  have aM := and_mf fl hfl16
  have aO := and_off fl hfl16
  rw [hf] at aO
  have eM : fl / 8192 % 2 * 8192 = if M then 8192 else 0 := by
    rewrite [← hM]; by_cases h : fl / 8192 % 2 = 1
    · rewrite [decide_eq_true h, if_pos rfl, h]; rfl
    · rewrite [decide_eq_false h, if_neg Bool.false_ne_true]; have : fl / 8192 % 2 = 0 := by omega
      rw [this]
  rw [eM] at aM
  clear hcell hM hf h9 hs hd hfl eM h20 hL hln hi0 hz0 hz1 hz2 hr0
  cases M
  all_goals
    simp only [Bool.false_eq_true, if_false, if_true, Int.ofNat_zero] at aM
    go_enter Try.func28, Try.ntmps28
    go_wp2_with fail
    refine (hG6 _ (hr.nextA _)).out.mono ?_
    rintro e w1 ⟨rfl, hbel⟩
    have hB := bnext (bnextA (Below.refl w.heap.size w) _) hbel
    have hR := (Blk.new w #[.int .u8 0, .int .u16 0, .bool false, .bool false, .int .u16 0, .int .u8 0, .int .u8 0, .int .u32 0, .int .u32 0, .slice none 0 0, .slice none 0 0] 36).next hbel
    replace hr := (hr.nextA _).next hbel
    clear hbel hG6
    go_wp2_with fail
    refine (hG12 _ hr).out.mono ?_
    rintro e w2 ⟨rfl, hbel⟩
    replace hB := bnext hB hbel
    replace hR := hR.next hbel
    replace hr := hr.next hbel
    clear hbel hG12
    go_wp2_with fail
    refine (hG16 _ hr).out.mono ?_
    rintro e W ⟨rfl, hbel⟩
    replace hB := bnext hB hbel
    replace hR := hR.next hbel
    clear hbel hG16 hr hr2
    have m9 := HC _ hB
    obtain ⟨p0, p1, p2, p3, p4, p5, p6, p7, p8, p9, p10, g0, g1, g2, g3, g4, g5, g6, g7, g8, g9, g10⟩ := hR.get11
    have hne : ¬ b0 = w.heap.size := by omega
    go_wp2_with fail
    go_region
    go_wp2_with fail
    simp [bodyPost, results, Try.results28, go_sem, *]
    exact ⟨L, A2, c2, ⟨rfl, rfl, rfl⟩, HL, (hr20.below (by simpa [setAll11] using (bset11 hB (Nat.le_refl _) _ _ _ _ _ _ _ _ _ _ _).drew)).more hB.size, by simpa [setAll11] using (bset11 hB (Nat.le_refl _) _ _ _ _ _ _ _ _ _ _ _).drew⟩
end Go.Proofs.Ytpibempfhgaomaa
