/- The law's lives; what was put begins with a packet; the walk of the statement on how great what is wrapped may be. -/
import Derived.Test.YtkoamiefombilaaTun2
import Derived.Test.YtkoamiefombilaaTun3
import Derived.Test.YtkoamiefombilaaIp7
namespace Go.Proofs.Ytkoamiefombilaa
open Go.RowKit

/-- A whole block, loaded as a struct by an operation of a plain region. -/
theorem wpList_ldblk {P : Program} {w : World} {g : Nat} {cs : Array Value} {e ty : TypeId} {fs : Array Field} (hu : P.underlying ty = some (.struct fs)) (hi : (P.info? ty).map (·.size) = some cs.size) (h : Blk w g cs.toList e)
    {ops : Array Oper} {rest : List Oper} {a : Act} {Q : Exit → Act → World → Prop} {dst : Option Nat} {tt : TypeId} {pos : String} {after : Array Edge} {x : Operand} (hx : a.eval x = .pointer (some ⟨g, 0, none⟩)) (hK : wpList P ops Q rest (a.put dst (.agg cs)) w) :
    wpList P ops Q (⟨dst, .load ty x, tt, pos, after, none⟩ :: rest) a w := by
  refine wpList_plain rfl fun K hK' => ?_
  have hr := load_blk hu hi h (ev := a.eval) (o := ⟨dst, .load ty x, tt, pos, after, none⟩) rfl hx
  unfold Oper.wp
  simp [hr]
  exact hK' _ _ hK
theorem ipok_put (h tos : UInt8) (id : UInt16) (D M : Bool) (fo : UInt16) (ttl pr : UInt8) (s d : UInt32) (os xs zs P : List UInt8) (N : Nat) (h1 : os.length ≤ 40) (h2 : os.length % 4 = 0) (h3 : fo.toNat ≤ 8191) (h4 : 20 + os.length + xs.length ≤ 65535) (hh : h.toNat = 69 + os.length / 4)
    (hN : onesN (ih h tos (20 + os.length + xs.length) id (wdN D M fo) ttl pr 0 s d os) = N) (hP : P = ih h tos (20 + os.length + xs.length) id (wdN D M fo) ttl pr (65535 - N) s d os ++ (xs ++ zs)) :
    IpOk P (5 + os.length / 4) (wdN D M fo) (20 + os.length + xs.length) tos id D M fo ttl pr s d := by
  obtain ⟨w1, w2, w3, w4⟩ := wdN_le D M fo h3
  exact ipok_ih h tos _ id _ ttl pr _ s d os (xs ++ zs) P _ fo D M (by omega) (by omega) (by omega) (by omega) hP (by omega) (by omega) (by simp; omega) w1 w2 w3 w4 (ih_ones h tos _ id _ ttl pr s d os N hN)

set_option maxHeartbeats 8000000 in
set_option maxRecDepth 4000 in
theorem lives29_any (w : World) : Calls Try.prog 39 #[] w fun e w' => e = .returned (.bool true) ∧ Below w.heap.size w w' := by
  obtain ⟨tos, e0⟩ : ∃ a : UInt8, (a.toNat : Int) = 0 := ⟨0, rfl⟩
  obtain ⟨id, e1⟩ : ∃ a : UInt16, (a.toNat : Int) = 0 := ⟨0, rfl⟩
  obtain ⟨fo, e4⟩ : ∃ a : UInt16, (a.toNat : Int) = 0 := ⟨0, rfl⟩
  obtain ⟨ttl, e5⟩ : ∃ a : UInt8, (a.toNat : Int) = 3 := ⟨3, rfl⟩
  obtain ⟨pr, e6⟩ : ∃ a : UInt8, (a.toNat : Int) = 0 := ⟨0, rfl⟩
  obtain ⟨s, e7⟩ : ∃ a : UInt32, (a.toNat : Int) = 0 := ⟨0, rfl⟩
  obtain ⟨d, e8⟩ : ∃ a : UInt32, (a.toNat : Int) = 0 := ⟨0, rfl⟩
  obtain ⟨b1, t0⟩ : ∃ a : UInt32, (a.toNat : Int) = 2 := ⟨2, rfl⟩
  obtain ⟨to, t1⟩ : ∃ a : UInt32, (a.toNat : Int) = 9 := ⟨9, rfl⟩
  obtain ⟨nid, t2⟩ : ∃ a : UInt16, (a.toNat : Int) = 8 := ⟨8, rfl⟩
  obtain ⟨h8, eh⟩ : ∃ a : UInt8, a.toNat = 69 := ⟨69, rfl⟩
  obtain ⟨os, ho⟩ : ∃ l : List UInt8, l.length = 0 := ⟨[], rfl⟩
  obtain ⟨xs, hxs⟩ : ∃ l : List UInt8, l = [1] := ⟨_, rfl⟩
  have hx : xs.length = 1 := by rw [hxs]; rfl
  obtain ⟨N, hN⟩ : ∃ N, onesN (ih h8 tos (20 + os.length + xs.length) id (wdN true false fo) ttl pr 0 s d os) = N := ⟨_, rfl⟩
  have H2 : ∀ A2 c2 W (_ : Rd bv W W.heap.size A2 c2 xs), Hid (Calls Try.prog 15 #[.agg #[.int .u8 0, .int .u16 0, .bool true, .bool false, .int .u16 0, .int .u8 3, .int .u8 0, .int .u32 0, .int .u32 0, .slice none 0 0, .slice A2 1 c2]] W fun e w' => ∃ L A c, e = .returned (.tuple #[.slice A L.length c, .int .i64 0]) ∧ Hid (L = ih h8 tos (20 + os.length + xs.length) id (wdN true false fo) ttl pr (65535 - N) s d os ++ xs) ∧ Rd bv w' w'.heap.size A c L ∧ Below W.heap.size W w') := by
    intro A2 c2 W g
    have h := pput_ok tos id true false fo ttl pr s d none A2 0 c2 os xs W (by rw [List.eq_nil_of_length_eq_zero ho]; exact Rd.nil0 _ _ _) g (by omega) (by omega) (by omega) (by omega) h8 (by omega) N hN
    simp only [e0, e1, e4, e5, e6, e7, e8] at h
    rw [ho, hx] at h
    rw [ho, hx]
    exact h
  have H3 : ∀ cs : Array Value, cs.size = 40 → cs.toList[13]? = some (.int .u32 2) → cs.toList[17]? = some (.int .i64 1500) → ∀ L A c W (_ : L = ih h8 tos (20 + os.length + xs.length) id (wdN true false fo) ttl pr (65535 - N) s d os ++ xs) (_ : Rd bv W W.heap.size A c L), Hid (Calls Try.prog 33 #[.agg cs, .slice A L.length c, .int .u32 9, .int .u16 8] W fun e w' => ∃ n A1 c1, e = .returned (.tuple #[.agg #[.int .u8 0, .int .u16 8, .bool true, .bool false, .int .u16 0, .int .u8 64, .int .u8 4, .int .u32 2, .int .u32 9, .slice none 0 0, .slice A1 n c1], .int .i64 0]) ∧ Hid (n = 21) ∧ Below W.heap.size W w') := by
    intro cs hcz h13 h17 L A c W hL g
    have hk := ipok_put h8 tos id true false fo ttl pr s d os xs [] L N (by omega) (by omega) (by omega) (by omega) (by omega) hN (by rw [hL, List.append_nil])
    have hLl : L.length = 21 := by rw [hL, List.length_append, ih_len]; omega
    have h := twrap_ok cs hcz b1 (by rw [t0]; exact h13) 1500 h17 to nid A c L W g (by omega) hk (by omega)
    simp only [e0, t0, t1, t2] at h
    refine Lib.hid (h.mono ?_)
    rintro e w' ⟨L', A1, c1, rfl, HL', -, hb⟩
    exact ⟨_, A1, c1, rfl, by rw [HL'.out]; simp [Hid]; omega, hb⟩
  clear hN e0 e1 e4 e5 e6 e7 e8 t0 t1 t2 eh ho hx
  go_enter Try.func39, Try.ntmps39
  go_wp2_with fail
  have hr7 : Rd bv (w.alloc (.cells #[.int .u8 1] 5)) (w.alloc (.cells #[.int .u8 1] 5)).heap.size (some ⟨w.heap.size, 0, none⟩) 1 xs := by
    rw [hxs]; exact lit_at w w.heap.size [1] rfl #[.int .u8 1] rfl _ (by simp)
  refine (H2 _ _ _ hr7).out.mono ?_
  rintro e w1 ⟨L, A, c, rfl, HL, r, hbel⟩
  have hB := bnext (bnextA (Below.refl w.heap.size w) _) hbel
  clear hbel H2 hr7
  go_wp2_with fail
  refine (H3 _ rfl rfl rfl L A c _ HL.out r).out.mono ?_
  rintro e w2 ⟨n, A1, c1, rfl, Hn, hbel⟩
  obtain rfl := Hn.out
  replace hB := bnext hB hbel
  clear hbel H3 r
  go_wp2_with fail
  go_ret
  exact ⟨rfl, bnextA hB _⟩

set_option maxHeartbeats 8000000 in
set_option maxRecDepth 4000 in
theorem tun_bounds (cs : Array Value) (hcz : cs.size = 40) (b1 : UInt32) (h13 : cs.toList[13]? = some (.int .u32 (b1.toNat : Int))) (mtu0 : Int) (h17 : cs.toList[17]? = some (.int .i64 mtu0)) (n0 : Int) (w : World) :
    Calls Try.prog 9 #[.agg cs, .int .i64 n0] w fun e w' => e = .returned (.bool true) ∧ Below w.heap.size w w' := by
  have hin1 := fun W => rin_any mtu0 100 1500 W
  have hin2 := fun W => rin_any n0 0 1480 W
  obtain ⟨mtu, hmtu, hlo, hhi⟩ : ∃ mtu : Int, (if mtu0 < 100 then 100 else if 1500 < mtu0 then 1500 else mtu0) = mtu ∧ 100 ≤ mtu ∧ mtu ≤ 1500 := ⟨_, rfl, by repeat' split <;> omega, by repeat' split <;> omega⟩
  obtain ⟨n, hn, hnhi⟩ : ∃ n : Nat, (if n0 < 0 then 0 else if 1480 < n0 then 1480 else n0) = (n : Int) ∧ n ≤ 1480 := by
    refine ⟨(if n0 < 0 then 0 else if 1480 < n0 then 1480 else n0).toNat, ?_, ?_⟩ <;> (repeat' split) <;> omega
  rw [hmtu] at hin1
  rw [hn] at hin2
  have HIN1 := fun W => Lib.hid (hin1 W)
  have HIN2 := fun W => Lib.hid (hin2 W)
  clear hin1 hin2 hmtu hn
  obtain ⟨i0, hi0, hz0, hz1, hz2⟩ := info_parts info_u8
  obtain ⟨cs2, hcs2⟩ : ∃ cs2 : Array Value, cs2 = cs.setIfInBounds 17 (.int .i64 mtu) := ⟨_, rfl⟩
  have hcl2 : cs.toList.set 17 (.int .i64 mtu) = cs2.toList := by rw [hcs2]; simp
  have hcz2 : cs2.size = 40 := by rw [hcs2]; simpa using hcz
  have h132 : cs2.toList[13]? = some (.int .u32 (b1.toNat : Int)) := by rw [← hcl2, List.getElem?_set_ne (by omega)]; exact h13
  have h172 : cs2.toList[17]? = some (.int .i64 mtu) := by rw [← hcl2, List.getElem?_set_self (by simp; omega)]
  have KC := Blk.new w cs 79
  have c17 := (KC.cell 17).trans h17
  have f17 := KC.frozen 17
  go_enter Try.func9, Try.ntmps9
  go_wp2_with fail
  refine (HIN1 _).out.mono ?_
  rintro e w_1 ⟨rfl, rfl⟩
  go_wp2_with fail
  refine (HIN2 _).out.mono ?_
  rintro e w_1 ⟨rfl, rfl⟩
  clear c17 f17 HIN1 HIN2 hcl2 h13 h17 hcz KC
  rw [← hcs2]
  clear hcs2
  have KC := Blk.new w cs2 79
  have hB := bnextA (Below.refl w.heap.size w) (.cells cs2 79)
  generalize w.alloc (.cells cs2 79) = W1 at *
  go_wp2_with (at_make; go_loud (refine wpList_make_full _ rfl _ _ _ rfl W1.heap.size 5 i0 _ 1 Try.underlying23 hi0 hz0 hz1 _ _ _ _ n rfl rfl rfl rfl (by rw [hz2]; omega) (by unfold maxLen; omega) (Nat.le_refl _) ?_); intro w1 hown1 hg1)
  have hB1 : Below W1.heap.size W1 w1 := (Below.refl _ _).grown hg1 (Nat.le_refl _) (by simp)
  replace hB := bnext hB hB1
  replace KC := KC.next hB1
  obtain ⟨xs, hxs⟩ : ∃ xs : List UInt8, xs = List.replicate n 0 := ⟨_, rfl⟩
  have hxn : xs.length = n := by rw [hxs]; simp
  have HO : Own bv w1 W1.heap.size 5 (.slice (some ⟨W1.heap.size, 0, none⟩) n n) xs := by
    have := hown1
    simp only [Value.cells, Nat.mul_one, toList_madeCells_one] at this
    rw [hxs]
    simpa [Own, bv] using this
  clear hown1 hg1 hxs hB1
  subst hxn
  have hxn : xs.length ≤ 1480 := hnhi
  have hr := HO.rdS
  clear HO
  obtain ⟨tos, e0⟩ : ∃ a : UInt8, (a.toNat : Int) = 0 := ⟨0, rfl⟩
  obtain ⟨id, e1⟩ : ∃ a : UInt16, (a.toNat : Int) = 0 := ⟨0, rfl⟩
  obtain ⟨fo, e4⟩ : ∃ a : UInt16, (a.toNat : Int) = 0 := ⟨0, rfl⟩
  obtain ⟨ttl, e5⟩ : ∃ a : UInt8, (a.toNat : Int) = 1 := ⟨1, rfl⟩
  obtain ⟨pr, e6⟩ : ∃ a : UInt8, (a.toNat : Int) = 0 := ⟨0, rfl⟩
  obtain ⟨s, e7⟩ : ∃ a : UInt32, (a.toNat : Int) = 0 := ⟨0, rfl⟩
  obtain ⟨d, e8⟩ : ∃ a : UInt32, (a.toNat : Int) = 0 := ⟨0, rfl⟩
  obtain ⟨to, t1⟩ : ∃ a : UInt32, (a.toNat : Int) = 1 := ⟨1, rfl⟩
  obtain ⟨nid, t2⟩ : ∃ a : UInt16, (a.toNat : Int) = 1 := ⟨1, rfl⟩
  obtain ⟨h8, eh⟩ : ∃ a : UInt8, a.toNat = 69 := ⟨69, rfl⟩
  obtain ⟨os, ho⟩ : ∃ l : List UInt8, l.length = 0 := ⟨[], rfl⟩
  obtain ⟨N, hN⟩ : ∃ N, onesN (ih h8 tos (20 + os.length + xs.length) id (wdN false false fo) ttl pr 0 s d os) = N := ⟨_, rfl⟩
  have H2 : ∀ A2 c2 W (_ : Rd bv W W.heap.size A2 c2 xs), Hid (Calls Try.prog 40 #[.agg #[.int .u8 0, .int .u16 0, .bool false, .bool false, .int .u16 0, .int .u8 1, .int .u8 0, .int .u32 0, .int .u32 0, .slice none 0 0, .slice A2 xs.length c2]] W fun e w' => ∃ L A c, e = .returned (.tuple #[.slice A L.length c, .int .i64 0]) ∧ Hid (L = ih h8 tos (20 + os.length + xs.length) id (wdN false false fo) ttl pr (65535 - N) s d os ++ xs) ∧ Rd bv w' w'.heap.size A c L ∧ Below W.heap.size W w') := by
    intro A2 c2 W g
    have h := rpput_ok tos id false false fo ttl pr s d none A2 0 c2 os xs W (by rw [List.eq_nil_of_length_eq_zero ho]; exact Rd.nil0 _ _ _) g (by omega) (by omega) (by omega) (by omega) h8 (by omega) N hN
    simp only [e0, e1, e4, e5, e6, e7, e8] at h
    rw [ho] at h
    rw [ho]
    exact h
  have wn : IntKind.i64.wrap ((xs.length : Int) + 40) = (xs.length : Int) + 40 := by rw [IntKind.wrap_i64]; omega
  by_cases hbig : (xs.length : Int) + 40 ≤ mtu
  · skip
    have H3 : ∀ L A c W (_ : L = ih h8 tos (20 + os.length + xs.length) id (wdN false false fo) ttl pr (65535 - N) s d os ++ xs) (_ : Rd bv W W.heap.size A c L), Hid (Calls Try.prog 33 #[.agg cs2, .slice A L.length c, .int .u32 1, .int .u16 1] W fun e w' => ∃ n A1 c1, e = .returned (.tuple #[.agg #[.int .u8 0, .int .u16 1, .bool false, .bool false, .int .u16 0, .int .u8 64, .int .u8 4, .int .u32 (b1.toNat : Int), .int .u32 1, .slice none 0 0, .slice A1 n c1], .int .i64 0]) ∧ Below W.heap.size W w') := by
      intro L A c W hL g
      have hk := ipok_put h8 tos id false false fo ttl pr s d os xs [] L N (by omega) (by omega) (by omega) (by omega) (by omega) hN (by rw [hL, List.append_nil])
      have hLl : L.length = 20 + xs.length := by rw [hL, List.length_append, ih_len]; omega
      have h := twrap_ok cs2 hcz2 b1 h132 mtu h172 to nid A c L W g (by omega) hk (by omega)
      simp only [e0, t1, t2] at h
      refine Lib.hid (h.mono ?_)
      rintro e w' ⟨L', A1, c1, rfl, -, -, hb⟩
      exact ⟨_, A1, c1, rfl, hb⟩
    have hd : decide ((xs.length : Int) + 40 ≤ mtu) = true := by simp; omega
    clear hN e0 e1 e4 e5 e6 e7 e8 t1 t2 eh ho hxn hnhi hbig hlo hhi
    go_wp2_with fail
    refine (H2 _ _ _ hr).out.mono ?_
    rintro e w2 ⟨L, A, c, rfl, HL, r, hbel⟩
    replace hB := bnext hB hbel
    replace KC := KC.next hbel
    clear hbel H2 hr
    go_wp2_with (with_reducible refine wpList_ldblk Try.underlying79 (by rw [hcz2]; kernel_rfl) KC rfl ?_)
    refine (H3 L A c _ HL.out r).out.mono ?_
    rintro e w3 ⟨n, A1, c1, rfl, hbel⟩
    replace hB := bnext hB hbel
    replace KC := KC.next hbel
    have c17 := (KC.cell 17).trans h172
    have hlt := KC.lt
    clear hbel H3 r
    go_wp2_with fail
    refine (lives29_any _).mono ?_
    rintro e wl ⟨rfl, hbel⟩
    replace hB := bnext (bnextA hB _) hbel
    go_wp2_with fail
    go_ret
    exact ⟨rfl, hB⟩
  · skip
    have H3 : ∀ L A c W (_ : L = ih h8 tos (20 + os.length + xs.length) id (wdN false false fo) ttl pr (65535 - N) s d os ++ xs) (_ : Rd bv W W.heap.size A c L), Hid (Calls Try.prog 33 #[.agg cs2, .slice A L.length c, .int .u32 1, .int .u16 1] W fun e w' => e = .returned (.tuple #[.agg #[.int .u8 0, .int .u16 0, .bool false, .bool false, .int .u16 0, .int .u8 0, .int .u8 0, .int .u32 0, .int .u32 0, .slice none 0 0, .slice none 0 0], .int .i64 14]) ∧ Below W.heap.size W w') := by
      intro L A c W hL g
      have hk := ipok_put h8 tos id false false fo ttl pr s d os xs [] L N (by omega) (by omega) (by omega) (by omega) (by omega) hN (by rw [hL, List.append_nil])
      have hLl : L.length = 20 + xs.length := by rw [hL, List.length_append, ih_len]; omega
      have h := twrap_big cs2 hcz2 b1 h132 mtu h172 to nid A c L W g (by omega) hk (by omega)
      simp only [t1, t2] at h
      exact Lib.hid h
    have hd : decide ((xs.length : Int) + 40 ≤ mtu) = false := by simp; omega
    clear hN e0 e1 e4 e5 e6 e7 e8 t1 t2 eh ho hxn hnhi hbig hlo hhi
    go_wp2_with fail
    refine (H2 _ _ _ hr).out.mono ?_
    rintro e w2 ⟨L, A, c, rfl, HL, r, hbel⟩
    replace hB := bnext hB hbel
    replace KC := KC.next hbel
    clear hbel H2 hr
    go_wp2_with (with_reducible refine wpList_ldblk Try.underlying79 (by rw [hcz2]; kernel_rfl) KC rfl ?_)
    refine (H3 L A c _ HL.out r).out.mono ?_
    rintro e w3 ⟨rfl, hbel⟩
    replace hB := bnext hB hbel
    replace KC := KC.next hbel
    have c17 := (KC.cell 17).trans h172
    have hlt := KC.lt
    clear hbel H3 r
    go_wp2_with fail
    refine (lives29_any _).mono ?_
    rintro e wl ⟨rfl, hbel⟩
    replace hB := bnext (bnextA hB _) hbel
    go_wp2_with fail
    go_ret
    exact ⟨rfl, hB⟩

theorem TunBounds_walk (a0_0_0_0 : Int) (a0_0_0_1 : Int) (a0_0_0_2 : Int) (a0_0_0_3 : Int) (a0_0_0_4 : Int) (a0_0_0_5 : Int) (a0_0_1_0 : Int) (a0_0_1_1 : Int) (a0_0_1_2 : Int) (a0_0_1_3 : Int) (a0_0_1_4 : Int) (a0_0_1_5 : Int) (a0_1_0 : Int) (a0_1_1 : Int) (a0_2_0 : Int) (a0_2_1 : Int) (a0_3 : Int) (a0_4 : Int) (a0_5_0 : Int) (a0_5_1 : Int) (a0_6_0 : Int) (a0_6_1 : Int) (a0_7 : Int) (a0_8 : Int) (a0_9 : Int) (a0_10 : Int) (a0_11 : Int) (a0_12 : Int) (a0_13 : Int) (a0_14 : Int) (a0_15 : Int) (a0_16 : Int) (a0_17 : Int) (a0_18 : Int) (a0_19 : Int) (a0_20 : Int) (a0_21 : Int) (a0_22 : Int) (a0_23 : Int) (a0_24 : Int) (a1 : Int) (w : World) (_w0_0_0_0 : (Lit.int .u8 a0_0_0_0).wf = true) (_w0_0_0_1 : (Lit.int .u8 a0_0_0_1).wf = true) (_w0_0_0_2 : (Lit.int .u8 a0_0_0_2).wf = true) (_w0_0_0_3 : (Lit.int .u8 a0_0_0_3).wf = true) (_w0_0_0_4 : (Lit.int .u8 a0_0_0_4).wf = true) (_w0_0_0_5 : (Lit.int .u8 a0_0_0_5).wf = true) (_w0_0_1_0 : (Lit.int .u8 a0_0_1_0).wf = true) (_w0_0_1_1 : (Lit.int .u8 a0_0_1_1).wf = true) (_w0_0_1_2 : (Lit.int .u8 a0_0_1_2).wf = true) (_w0_0_1_3 : (Lit.int .u8 a0_0_1_3).wf = true) (_w0_0_1_4 : (Lit.int .u8 a0_0_1_4).wf = true) (_w0_0_1_5 : (Lit.int .u8 a0_0_1_5).wf = true) (_w0_1_0 : (Lit.int .u32 a0_1_0).wf = true) (w0_1_1 : (Lit.int .u32 a0_1_1).wf = true) (_w0_2_0 : (Lit.int .i64 a0_2_0).wf = true) (_w0_2_1 : (Lit.int .i64 a0_2_1).wf = true) (_w0_3 : (Lit.int .u32 a0_3).wf = true) (_w0_4 : (Lit.int .i64 a0_4).wf = true) (_w0_5_0 : (Lit.int .u64 a0_5_0).wf = true) (_w0_5_1 : (Lit.int .u64 a0_5_1).wf = true) (_w0_6_0 : (Lit.int .u64 a0_6_0).wf = true) (_w0_6_1 : (Lit.int .u64 a0_6_1).wf = true) (_w0_7 : (Lit.int .u16 a0_7).wf = true) (_w0_8 : (Lit.int .i64 a0_8).wf = true) (_w0_9 : (Lit.int .i64 a0_9).wf = true) (_w0_10 : (Lit.int .i64 a0_10).wf = true) (_w0_11 : (Lit.int .i64 a0_11).wf = true) (_w0_12 : (Lit.int .i64 a0_12).wf = true) (_w0_13 : (Lit.int .i64 a0_13).wf = true) (_w0_14 : (Lit.int .i64 a0_14).wf = true) (_w0_15 : (Lit.int .i64 a0_15).wf = true) (_w0_16 : (Lit.int .i64 a0_16).wf = true) (_w0_17 : (Lit.int .i64 a0_17).wf = true) (_w0_18 : (Lit.int .i64 a0_18).wf = true) (_w0_19 : (Lit.int .i64 a0_19).wf = true) (_w0_20 : (Lit.int .i64 a0_20).wf = true) (_w0_21 : (Lit.int .i64 a0_21).wf = true) (_w0_22 : (Lit.int .i64 a0_22).wf = true) (_w0_23 : (Lit.int .i64 a0_23).wf = true) (_w0_24 : (Lit.int .i64 a0_24).wf = true) (_w1 : (Lit.int .i64 a1).wf = true) :
    Calls Try.prog 9 #[.agg #[.int .u8 a0_0_0_0, .int .u8 a0_0_0_1, .int .u8 a0_0_0_2, .int .u8 a0_0_0_3, .int .u8 a0_0_0_4, .int .u8 a0_0_0_5, .int .u8 a0_0_1_0, .int .u8 a0_0_1_1, .int .u8 a0_0_1_2, .int .u8 a0_0_1_3, .int .u8 a0_0_1_4, .int .u8 a0_0_1_5, .int .u32 a0_1_0, .int .u32 a0_1_1, .int .i64 a0_2_0, .int .i64 a0_2_1, .int .u32 a0_3, .int .i64 a0_4, .int .u64 a0_5_0, .int .u64 a0_5_1, .int .u64 a0_6_0, .int .u64 a0_6_1, .int .u16 a0_7, .int .i64 a0_8, .int .i64 a0_9, .int .i64 a0_10, .int .i64 a0_11, .int .i64 a0_12, .int .i64 a0_13, .int .i64 a0_14, .int .i64 a0_15, .int .i64 a0_16, .int .i64 a0_17, .int .i64 a0_18, .int .i64 a0_19, .int .i64 a0_20, .int .i64 a0_21, .int .i64 a0_22, .int .i64 a0_23, .int .i64 a0_24], .int .i64 a1] w fun e w' => e = .returned (.bool true) ∧ Below w.heap.size w w' := by
  obtain ⟨b1, rfl⟩ := u32_of w0_1_1
  obtain ⟨cs, hcv⟩ : ∃ cs : Array Value, cs = #[.int .u8 a0_0_0_0, .int .u8 a0_0_0_1, .int .u8 a0_0_0_2, .int .u8 a0_0_0_3, .int .u8 a0_0_0_4, .int .u8 a0_0_0_5, .int .u8 a0_0_1_0, .int .u8 a0_0_1_1, .int .u8 a0_0_1_2, .int .u8 a0_0_1_3, .int .u8 a0_0_1_4, .int .u8 a0_0_1_5, .int .u32 a0_1_0, .int .u32 (b1.toNat : Int), .int .i64 a0_2_0, .int .i64 a0_2_1, .int .u32 a0_3, .int .i64 a0_4, .int .u64 a0_5_0, .int .u64 a0_5_1, .int .u64 a0_6_0, .int .u64 a0_6_1, .int .u16 a0_7, .int .i64 a0_8, .int .i64 a0_9, .int .i64 a0_10, .int .i64 a0_11, .int .i64 a0_12, .int .i64 a0_13, .int .i64 a0_14, .int .i64 a0_15, .int .i64 a0_16, .int .i64 a0_17, .int .i64 a0_18, .int .i64 a0_19, .int .i64 a0_20, .int .i64 a0_21, .int .i64 a0_22, .int .i64 a0_23, .int .i64 a0_24] := ⟨_, rfl⟩
  have hcz : cs.size = 40 := by rw [hcv]; rfl
  have h13 : cs.toList[13]? = some (.int .u32 (b1.toNat : Int)) := by rw [hcv]; rfl
  have h17 : cs.toList[17]? = some (.int .i64 a0_4) := by rw [hcv]; rfl
  rw [← hcv]
  clear hcv
  exact tun_bounds cs hcz b1 h13 a0_4 h17 a1 w
end Go.Proofs.Ytkoamiefombilaa
