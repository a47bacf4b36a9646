/- Contracts of ipv4.Turn. -/
import Derived.Test.YtiokofpmmlbncabIp8
namespace Go.Proofs.Ytiokofpmmlbncab
open Go.RowKit

theorem own_ne {α : Type} {f : α → Value} {w : World} {base : Nat} {e : TypeId} {v : Value} {xs : List α} (h : Own f w base e v xs) (hx : 0 < xs.length) : v ≠ .slice none 0 0 := by
  intro hv
  obtain ⟨A, c, hv2, -⟩ := h.rd
  rw [hv] at hv2
  injection hv2 with _ h2 _
  omega
theorem cut_b (A : Option Addr) (c : Nat) (bs : List UInt8) (K Z : Int) (k n : Nat) (hK : K = (k : Int)) (hZ : Z = (n : Int)) (w : World) (hb : Rd bv w w.heap.size A c bs) (h : k + n ≤ bs.length) (hl : bs.length ≤ 1000000) :
    Calls Try.prog 56 #[.slice A bs.length c, .int .i64 K, .int .i64 Z] w fun e w' => ∃ v, e = .returned (.tuple #[v, .bool true]) ∧ Own bv w' w.heap.size 5 v ((bs.drop k).take n) ∧ Below w.heap.size w w' := by
  subst hK hZ
  exact cut_yes A c bs k n w hb h hl
theorem set16_b (A : Option Addr) (c : Nat) (bs : List UInt8) (K : Int) (k : Nat) (hK : K = (k : Int)) (Z : Nat) (hZ : Z ≤ 65535) (w : World) (hb : Rd bv w w.heap.size A c bs) (h : k + 2 ≤ bs.length) (hl : bs.length ≤ 1000000) :
    Calls Try.prog 59 #[.slice A bs.length c, .int .i64 K, .int .u16 (Z : Int)] w fun e w' => ∃ v, e = .returned (.tuple #[v, .bool true]) ∧
      Own bv w' w.heap.size 5 v ((bs.set k (UInt8.ofNat (Z / 256))).set (k + 1) (UInt8.ofNat (Z % 256))) ∧ Below w.heap.size w w' := by
  subst hK
  have := set16_yes A c bs k (UInt16.ofNat Z) w hb h hl
  rwa [UInt16.ofNat_id Z hZ] at this

theorem pturn_bad (e0 : Int) (he : e0 = 3 ∨ e0 = 4 ∨ e0 = 5) (A : Option Addr) (c : Nat) (xs : List UInt8) (t : UInt8) (w : World)
    (HM : Calls Try.prog 53 #[.slice A xs.length c] w fun e w' => e = .returned (.tuple #[.int .i64 0, .int .i64 0, .int .i64 e0]) ∧ Below w.heap.size w w') :
    Calls Try.prog 20 #[.slice A xs.length c, .int .u8 (t.toNat : Int)] w fun e w' => e = .returned (.tuple #[.slice none 0 0, .bool false]) ∧ Below w.heap.size w w' := by
  have hM := Lib.hid HM
  clear HM
  rcases he with rfl | rfl | rfl
  all_goals
    go_enter Try.func20, Try.ntmps20
    go_wp2_with fail
    refine hM.out.mono ?_
    rintro e w1 ⟨rfl, hb⟩
    clear hM
    go_wp2_with fail
    go_ret2
    exact ⟨rfl, hb⟩

theorem ip_sets (h tos : UInt8) (al : Nat) (id : UInt16) (fl : Nat) (ttl pr : UInt8) (S : Nat) (s d : UInt32) (os dat : List UInt8) (t : UInt8) (Z : Nat) (hZ : Z ≤ 65535) :
    (((ih h tos al id fl ttl pr S s d os ++ dat).set 8 t).set 10 (UInt8.ofNat (Z / 256))).set 11 (UInt8.ofNat (Z % 256)) = ih h tos al id fl t pr Z s d os ++ dat := by
  rw [ih, ih, be16_ofNat Z hZ]
  rfl
set_option maxHeartbeats 2000000 in
theorem pturn_ok (A : Option Addr) (c : Nat) (xs : List UInt8) (t : UInt8) (w : World) (hr : Rd bv w w.heap.size A c xs) (hxl : xs.length ≤ 1000000) (m fl al : Nat) (tos : UInt8) (id : UInt16) (D M : Bool) (fo : UInt16) (ttl pr : UInt8) (s d : UInt32) (hk : IpOk xs m fl al tos id D M fo ttl pr s d) (h8 : UInt8) (os dat : List UInt8) (S F : Nat) (hS : S ≤ 65535)
    (hL : xs.take al = ih h8 tos al id fl ttl pr S s d os ++ dat) (hF : foldN (65535 - S + (65535 - (ttl.toNat * 256 + pr.toNat)) + (t.toNat * 256 + pr.toNat)) = F) :
    Calls Try.prog 20 #[.slice A xs.length c, .int .u8 (t.toNat : Int)] w fun e w' => ∃ L A' c', e = .returned (.tuple #[.slice A' L.length c', .bool true]) ∧ Hid (L = ih h8 tos al id fl t pr (65535 - F) s d os ++ dat) ∧ Rd bv w' w'.heap.size A' c' L ∧ Below w.heap.size w w' := by
  have hlc := hr.len
  have hcc := hr.cap
  have hM := Lib.hid (hk.meas hxl A c w hr)
  have hov := hk.hov
  have hla := hk.hla
  have hm5 := hk.hm5
  have b1 := ttl.toNat_lt
  have b2 := pr.toNat_lt
  have b3 := t.toNat_lt
  have hF2 := foldN_le (65535 - S + (65535 - (ttl.toNat * 256 + pr.toNat)) + (t.toNat * 256 + pr.toNat))
  rw [hF] at hF2
  have hT : ∀ W, Hid (Calls Try.prog 62 #[.int .u16 S, .int .u16 ((ttl.toNat * 256 + pr.toNat : Nat) : Int), .int .u16 ((t.toNat * 256 + pr.toNat : Nat) : Int)] W fun e w' => e = .returned (.int .u16 ((65535 - F : Nat) : Int)) ∧ W = w') := by
    intro W
    have := turn_any S (ttl.toNat * 256 + pr.toNat) (t.toNat * 256 + pr.toNat) W hS (by omega) (by omega)
    rwa [hF] at this
  obtain ⟨O, hO⟩ : ∃ O, ttl.toNat * 256 + pr.toNat = O := ⟨_, rfl⟩
  obtain ⟨X, hX⟩ : ∃ X, t.toNat * 256 + pr.toNat = X := ⟨_, rfl⟩
  rw [hO, hX] at hT
  obtain ⟨Z, hZ⟩ : ∃ Z, 65535 - F = Z := ⟨_, rfl⟩
  rw [hZ] at hT ⊢
  have hZ2 : Z ≤ 65535 := by omega
  clear hF hF2 hZ hk
  go_enter Try.func20, Try.ntmps20
  go_wp2_with fail
  refine hM.out.mono ?_
  rintro e w1 ⟨rfl, hb⟩
  have hB := hb
  have hw1 := hb.size
  replace hr := hr.next hb
  clear hM hb
  go_wp2_with fail
  refine (cut_b A c xs 0 _ 0 al rfl rfl w1 hr (by omega) hxl).mono ?_
  rintro e w2 ⟨v, rfl, ho, hb⟩
  replace hB := bnext hB hb
  have hbs := hb.size
  clear hr hb
  rw [List.drop_zero, hL] at ho
  obtain ⟨L1, HL1⟩ : ∃ L1, Hid (L1 = ih h8 tos al id fl ttl pr S s d os ++ dat) := ⟨_, rfl⟩
  rw [← HL1.out] at ho hL
  have hl1 : L1.length = al := by rw [← hL, List.length_take]; omega
  obtain ⟨g, cap, rfl, hg, hcap⟩ := ho.some_ (own_ne ho (by omega))
  have hg2 : w.heap.size ≤ g := Nat.le_trans hw1 hg
  have hcc1 : cap ≤ 9223372036854775807 := ho.rdS.cap
  have i8 : (8 : Int) < (L1.length : Int) := by omega
  have hla1 : 20 ≤ L1.length := by omega
  have hlb1 : L1.length ≤ 1000000 := by omega
  clear hl1 hw1 hbs hL hov hla
  have hO1 : beN ((L1.drop 8).take 2) = O := by rw [HL1.out, ← hO]; exact beN_two ttl pr
  go_wp2_with fail
  refine (get16_b _ cap L1 8 8 O rfl w2 ho.rdS (by omega) hO1).mono ?_
  rintro e w3 ⟨rfl, hb⟩
  replace hB := bnext hB hb
  replace ho := ho.nextO hb
  clear hb hO1
  obtain ⟨⟨u1, hu1⟩, hf1, ho2, -⟩ := ho.store rfl 8 (by omega) t (.int .u8 (t.toNat : Int)) rfl
  go_wp2_with fail
  replace hB := hB.setCell (p := ⟨g, 8, none⟩) hg2 (.int .u8 (t.toNat : Int))
  clear hu1 hf1 ho i8
  generalize w3.setCell ⟨g, 8, none⟩ (.int .u8 (t.toNat : Int)) = W at hB ho2 ⊢
  obtain ⟨L2, HL2⟩ : ∃ L2, Hid (L2 = L1.set 8 t) := ⟨_, rfl⟩
  rw [← HL2.out] at ho2
  have hl2 : L1.length = L2.length := by rw [HL2.out]; simp
  rw [hl2] at ho2 hcap hla1 hlb1 ⊢
  clear hl2
  have hX2 : beN ((L2.drop 8).take 2) = X := by rw [HL2.out, HL1.out, ← hX]; exact beN_two t pr
  have hS2 : beN ((L2.drop 10).take 2) = S := by rw [HL2.out, HL1.out]; exact two_nat S hS
  refine (get16_b _ cap L2 8 8 X rfl W ho2.rdS (by omega) hX2).mono ?_
  rintro e w4 ⟨rfl, hb⟩
  replace hB := bnext hB hb
  replace ho2 := ho2.nextO hb
  clear hb hX2
  go_wp2_with fail
  refine (get16_b _ cap L2 10 10 S rfl w4 ho2.rdS (by omega) hS2).mono ?_
  rintro e w5 ⟨rfl, hb⟩
  replace hB := bnext hB hb
  replace ho2 := ho2.nextO hb
  clear hb hS2
  go_wp2_with fail
  refine (hT _).out.mono ?_
  rintro e w6 ⟨rfl, rfl⟩
  clear hT
  go_wp2_with fail
  refine (set16_b _ cap L2 10 10 rfl Z hZ2 w5 ho2.rdS (by omega) (by omega)).mono ?_
  rintro e w6 ⟨v, rfl, ho3, hb⟩
  replace hB := bnext hB hb
  obtain ⟨L3, A3, c3, HL3, rfl, hr3⟩ := ho3.rdv
  clear ho2 hb ho3
  go_wp2_with fail
  go_ret2
  exact ⟨L3, A3, c3, rfl, by rw [Hid, HL3.out, HL2.out, HL1.out]; exact ip_sets _ _ _ _ _ _ _ _ _ _ _ _ _ _ hZ2, hr3, hB⟩
end Go.Proofs.Ytiokofpmmlbncab
