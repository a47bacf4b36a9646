/- Contracts of bytes.Compare and flow.Compare; the walk of the statement on the order of flows. -/
import Derived.Test.YtggcomociojfoaaFlow3
import Derived.Test.YtggcomociojfoaaLaw11b
import Derived.Lib.BytesEntry
import Derived.Laws.Externs
namespace Go.Proofs.Ytggcomociojfoaa
open Go.RowKit

def fb (s d : UInt32) (p q : UInt16) (r : UInt8) : List UInt8 := puts32 [s, d] ++ (puts16 [p, q] ++ [r])
theorem cmp_anti : ∀ a b : List UInt8, Lib.compareBytes b a = - Lib.compareBytes a b
  | [], [] => rfl
  | [], _ :: _ => rfl
  | _ :: _, [] => rfl
  | x :: a, y :: b => by
    have ih := cmp_anti a b
    simp only [Lib.compareBytes, UInt8.lt_iff_toNat_lt]
    by_cases h1 : x.toNat < y.toNat
    · rw [if_pos h1, if_neg (by omega), if_pos h1]; rfl
    · by_cases h2 : y.toNat < x.toNat
      · simp only [if_neg h1, if_pos h2]
      · rw [if_neg h1, if_neg h2, if_neg h2, if_neg h1]; exact ih
theorem cmp_trans : ∀ a b c : List UInt8, Lib.compareBytes a b ≤ 0 → Lib.compareBytes b c ≤ 0 → Lib.compareBytes a c ≤ 0 ∧ (Lib.compareBytes a b < 0 → Lib.compareBytes a c < 0)
  | [], [], [] => by simp [Lib.compareBytes]
  | [], [], _ :: _ => by simp [Lib.compareBytes]
  | [], _ :: _, [] => by simp [Lib.compareBytes]
  | [], _ :: _, _ :: _ => by simp [Lib.compareBytes]
  | _ :: _, [], [] => by simp [Lib.compareBytes]
  | _ :: _, [], _ :: _ => by simp [Lib.compareBytes]
  | _ :: _, _ :: _, [] => by simp [Lib.compareBytes]
  | x :: a, y :: b, z :: c => by
    have ih := cmp_trans a b c
    simp only [Lib.compareBytes, UInt8.lt_iff_toNat_lt]
    by_cases h1 : x.toNat < y.toNat
    · by_cases h3 : y.toNat < z.toNat
      · rw [if_pos h1, if_pos h3, if_pos (by omega : x.toNat < z.toNat)]; simp
      · by_cases h4 : z.toNat < y.toNat
        · rw [if_pos h1, if_neg h3, if_pos h4]; simp
        · rw [if_pos h1, if_neg h3, if_neg h4, if_pos (by omega : x.toNat < z.toNat)]; simp
    · by_cases h2 : y.toNat < x.toNat
      · rw [if_neg h1, if_pos h2]; simp
      · rw [if_neg h1, if_neg h2]
        by_cases h3 : y.toNat < z.toNat
        · rw [if_pos h3, if_pos (by omega : x.toNat < z.toNat)]; simp
        · by_cases h4 : z.toNat < y.toNat
          · rw [if_neg h3, if_pos h4]; simp
          · rw [if_neg h3, if_neg h4, if_neg (by omega : ¬ x.toNat < z.toNat), if_neg (by omega : ¬ z.toNat < x.toNat)]
            exact ih
theorem cmp_bd : ∀ a b : List UInt8, -1 ≤ Lib.compareBytes a b ∧ Lib.compareBytes a b ≤ 1
  | [], [] => by simp [Lib.compareBytes]
  | [], _ :: _ => by simp [Lib.compareBytes]
  | _ :: _, [] => by simp [Lib.compareBytes]
  | x :: a, y :: b => by
    have ih := cmp_bd a b
    simp only [Lib.compareBytes]
    split
    · simp
    · split
      · simp
      · exact ih
theorem load_rd {P : Program} {B : Nat} {A : Option Addr} {c : Nat} {xs : List UInt8} {w : World} (h : Rd bv w B A c xs) : (Extern.Bytes.bytesOf (.slice A xs.length c)).run P w = .ok ⟨xs.toArray⟩ w := by
  cases hx : xs with
  | nil =>
    cases A with
    | none => rfl
    | some a => simp [Extern.Bytes.bytesOf, Extern.Bytes.loadBytes]; rfl
  | cons x l =>
    obtain ⟨b, off, rfl, -, hc⟩ := h.at_ (k := 0) (by rw [hx]; simp)
    have := Lib.run_loadBytesX (P := P) w (xs.map fun x => (x.toNat : Int)) ⟨b, off, none⟩ .empty (fun j y hj => by
      rw [List.getElem?_map] at hj
      cases hjx : xs[j]? with
      | none => rw [hjx] at hj; cases hj
      | some z =>
        rw [hjx] at hj
        simp only [Option.map_some, Option.some.injEq] at hj
        subst hj
        obtain ⟨hlt, hz⟩ := List.getElem?_eq_some_iff.1 hjx
        have e : (⟨b, off, none⟩ : Addr).add j = ⟨b, off + j, none⟩ := by unfold Addr.add; split <;> simp_all
        rw [e, hc j hlt, hz]
        rfl)
    rw [List.length_map] at this
    rw [← hx]
    show (Extern.Bytes.loadBytes ⟨b, off, none⟩ xs.length .empty).run P w = _
    rw [this]
    congr 1
    apply ByteArray.ext
    simp [Lib.bytesOf]
    refine (List.map_congr_left (g := id) fun y _ => ?_).trans (List.map_id _)
    simp
theorem bcompare_any (A : Option Addr) (c : Nat) (xs : List UInt8) (A' : Option Addr) (c' : Nat) (ys : List UInt8) (w : World) (h : Rd bv w w.heap.size A c xs) (h' : Rd bv w w.heap.size A' c' ys) :
    Calls Try.prog 41 #[.slice A xs.length c, .slice A' ys.length c'] w fun e w' => e = .returned (.int .i64 (Lib.compareBytes xs ys)) ∧ w = w' := by
  have hcmp : (Extern.BytealgCompare.compare #[.slice A xs.length c, .slice A' ys.length c']).run Try.prog w = .ok (.int .i64 (Lib.compareBytes xs ys)) w := by
    change Sem.run Try.prog (do pure (goInt (Extern.BytealgCompare.cmp (← Extern.Bytes.bytesOf (.slice A xs.length c)) (← Extern.Bytes.bytesOf (.slice A' ys.length c'))))) w = _
    simp only [Sem.run_bind, load_rd h, load_rd h', Result.andThen, Sem.run_pure, Lib.cmp_eq]
    rfl
  have hlen := h.len
  clear h h'
  go_enter Try.func41, Try.ntmps41
  go_wp2
  rw [run_callFunc_extern Try.func60 (by kernel_rfl) (by kernel_rfl) (by kernel_rfl) (e := Extern.BytealgCompare.compare) (by kernel_rfl), hcmp]
  simp only [Result.andThen]
  rw [Oper.upon_value]
  go_wp2
  go_ret
  exact ⟨rfl, rfl⟩

set_option maxHeartbeats 2000000 in
theorem fcompare_any (fs0 fd0 : UInt32) (fp0 fq0 : UInt16) (fr0 : UInt8) (fs1 fd1 : UInt32) (fp1 fq1 : UInt16) (fr1 : UInt8) (w : World) : Calls Try.prog 11 #[.agg #[.int .u32 (fs0.toNat : Int), .int .u32 (fd0.toNat : Int), .int .u16 (fp0.toNat : Int), .int .u16 (fq0.toNat : Int), .int .u8 (fr0.toNat : Int)], .agg #[.int .u32 (fs1.toNat : Int), .int .u32 (fd1.toNat : Int), .int .u16 (fp1.toNat : Int), .int .u16 (fq1.toNat : Int), .int .u8 (fr1.toNat : Int)]] w fun e w' => e = .returned (.int .i64 (Lib.compareBytes (fb fs0 fd0 fp0 fq0 fr0) (fb fs1 fd1 fp1 fq1 fr1))) ∧ Below w.heap.size w w' := by
  have hb0 := (Blk.new w #[.int .u32 (fs0.toNat : Int), .int .u32 (fd0.toNat : Int), .int .u16 (fp0.toNat : Int), .int .u16 (fq0.toNat : Int), .int .u8 (fr0.toNat : Int)] 25).alloc (.cells #[.int .u32 (fs1.toNat : Int), .int .u32 (fd1.toNat : Int), .int .u16 (fp1.toNat : Int), .int .u16 (fq1.toNat : Int), .int .u8 (fr1.toNat : Int)] 25)
  have hb1 := Blk.new (w.alloc (.cells #[.int .u32 (fs0.toNat : Int), .int .u32 (fd0.toNat : Int), .int .u16 (fp0.toNat : Int), .int .u16 (fq0.toNat : Int), .int .u8 (fr0.toNat : Int)] 25)) #[.int .u32 (fs1.toNat : Int), .int .u32 (fd1.toNat : Int), .int .u16 (fp1.toNat : Int), .int .u16 (fq1.toNat : Int), .int .u8 (fr1.toNat : Int)] 25
  rw [show (w.alloc (.cells #[.int .u32 (fs0.toNat : Int), .int .u32 (fd0.toNat : Int), .int .u16 (fp0.toNat : Int), .int .u16 (fq0.toNat : Int), .int .u8 (fr0.toNat : Int)] 25)).heap.size = w.heap.size + 1 by simp] at hb1
  have hBV := bnextA (bnextA (Below.refl w.heap.size w) (.cells #[.int .u32 (fs0.toNat : Int), .int .u32 (fd0.toNat : Int), .int .u16 (fp0.toNat : Int), .int .u16 (fq0.toNat : Int), .int .u8 (fr0.toNat : Int)] 25)) (.cells #[.int .u32 (fs1.toNat : Int), .int .u32 (fd1.toNat : Int), .int .u16 (fp1.toNat : Int), .int .u16 (fq1.toNat : Int), .int .u8 (fr1.toNat : Int)] 25)
  go_enter Try.func11, Try.ntmps11
  go_wp2_with fail
  generalize hV : (w.alloc (.cells #[.int .u32 (fs0.toNat : Int), .int .u32 (fd0.toNat : Int), .int .u16 (fp0.toNat : Int), .int .u16 (fq0.toNat : Int), .int .u8 (fr0.toNat : Int)] 25)).alloc (.cells #[.int .u32 (fs1.toNat : Int), .int .u32 (fd1.toNat : Int), .int .u16 (fp1.toNat : Int), .int .u16 (fq1.toNat : Int), .int .u8 (fr1.toNat : Int)] 25) = V at hb0 hb1 hBV ⊢
  clear hV
  refine region_put (by kernel_rfl) (by kernel_rfl) (by kernel_rfl) 10 rfl (by kernel_rfl) V (fun i v W => match i with
      | 0 => v = .agg #[.int .u32 (fs0.toNat : Int), .int .u32 (fd0.toNat : Int), .int .u16 (fp0.toNat : Int), .int .u16 (fq0.toNat : Int), .int .u8 (fr0.toNat : Int)]
      | 1 => ∃ L A c, v = .slice A L.length c ∧ Hid (L = fb fs0 fd0 fp0 fq0 fr0) ∧ Rd bv W W.heap.size A c L
      | 2 => v = .agg #[.int .u32 (fs1.toNat : Int), .int .u32 (fd1.toNat : Int), .int .u16 (fp1.toNat : Int), .int .u16 (fq1.toNat : Int), .int .u8 (fr1.toNat : Int)]
      | 3 => ∃ L A c, v = .slice A L.length c ∧ Hid (L = fb fs1 fd1 fp1 fq1 fr1) ∧ Rd bv W W.heap.size A c L
      | 4 => v = .int .i64 (Lib.compareBytes (fb fs0 fd0 fp0 fq0 fr0) (fb fs1 fd1 fp1 fq1 fr1))
      | 5 => v = .int .i64 (Lib.compareBytes (fb fs0 fd0 fp0 fq0 fr0) (fb fs1 fd1 fp1 fq1 fr1))
      | _ => True) (Below.refl _ _) ?_ ?_ ?_
  · intro i v W W' h hb
    match i, h with
    | 0, h => exact h
    | 1, h => obtain ⟨L, A, c, h1, h2, h3⟩ := h; exact ⟨L, A, c, h1, h2, h3.next hb⟩
    | 2, h => exact h
    | 3, h => obtain ⟨L, A, c, h1, h2, h3⟩ := h; exact ⟨L, A, c, h1, h2, h3.next hb⟩
    | 4, h => exact h
    | 5, h => exact h
    | _ + 6, _ => trivial
  · intro i o uu W ho hVW hd
    rcases i with _|_|_|_|_|_|i
    · obtain rfl := Option.some.inj ho
      refine .inl ⟨wanted_none rfl, ?_⟩
      generalize hev : Act.eval _ = ev
      have ec : ∀ c, ev (.const c) = c := fun c => by rw [← hev]; rfl
      have ef : ∀ f, ev (.func f) = .func (.func f) #[] #[] := fun f => by rw [← hev]; rfl
      have e2 : ev (.tmp 2) = .pointer (some ⟨w.heap.size, 0, none⟩) := by rw [← hev]; exact eval_old (by kernel_rfl) 10 rfl (by decide) rfl
      exact .inl ⟨_, W, load_blk Try.underlying25 (by kernel_rfl) ((hb0).next hVW) rfl e2, rfl, Below.refl _ _⟩
    · obtain rfl := Option.some.inj ho
      refine .inl ⟨wanted_none rfl, ?_⟩
      have q0 : uu 0 = .agg #[.int .u32 (fs0.toNat : Int), .int .u32 (fd0.toNat : Int), .int .u16 (fp0.toNat : Int), .int .u16 (fq0.toNat : Int), .int .u8 (fr0.toNat : Int)] := hd 0 (by kernel_rfl)
      generalize hev : Act.eval _ = ev
      have ec : ∀ c, ev (.const c) = c := fun c => by rw [← hev]; rfl
      have ef : ∀ f, ev (.func f) = .func (.func f) #[] #[] := fun f => by rw [← hev]; rfl
      have e5 : ev (.tmp 5) = .agg #[.int .u32 (fs0.toNat : Int), .int .u32 (fd0.toNat : Int), .int .u16 (fp0.toNat : Int), .int .u16 (fq0.toNat : Int), .int .u8 (fr0.toNat : Int)] := by rw [← hev]; exact (eval_put (by kernel_rfl) 10 rfl (by decide)).trans q0
      exact .inr ⟨_, _, _, by go_simp, fbytes_any fs0 fd0 fp0 fq0 fr0 W, fun e w' he => by
        obtain ⟨L, A, c, rfl, HL, hr, hb⟩ := he
        exact ⟨_, rfl, ⟨L, A, c, rfl, HL, hr⟩, hb⟩⟩
    · obtain rfl := Option.some.inj ho
      refine .inl ⟨wanted_none rfl, ?_⟩
      generalize hev : Act.eval _ = ev
      have ec : ∀ c, ev (.const c) = c := fun c => by rw [← hev]; rfl
      have ef : ∀ f, ev (.func f) = .func (.func f) #[] #[] := fun f => by rw [← hev]; rfl
      have e3 : ev (.tmp 3) = .pointer (some ⟨w.heap.size + 1, 0, none⟩) := by rw [← hev]; exact eval_old (by kernel_rfl) 10 rfl (by decide) rfl
      exact .inl ⟨_, W, load_blk Try.underlying25 (by kernel_rfl) ((hb1).next hVW) rfl e3, rfl, Below.refl _ _⟩
    · obtain rfl := Option.some.inj ho
      refine .inl ⟨wanted_none rfl, ?_⟩
      have q2 : uu 2 = .agg #[.int .u32 (fs1.toNat : Int), .int .u32 (fd1.toNat : Int), .int .u16 (fp1.toNat : Int), .int .u16 (fq1.toNat : Int), .int .u8 (fr1.toNat : Int)] := hd 2 (by kernel_rfl)
      generalize hev : Act.eval _ = ev
      have ec : ∀ c, ev (.const c) = c := fun c => by rw [← hev]; rfl
      have ef : ∀ f, ev (.func f) = .func (.func f) #[] #[] := fun f => by rw [← hev]; rfl
      have e7 : ev (.tmp 7) = .agg #[.int .u32 (fs1.toNat : Int), .int .u32 (fd1.toNat : Int), .int .u16 (fp1.toNat : Int), .int .u16 (fq1.toNat : Int), .int .u8 (fr1.toNat : Int)] := by rw [← hev]; exact (eval_put (by kernel_rfl) 10 rfl (by decide)).trans q2
      exact .inr ⟨_, _, _, by go_simp, fbytes_any fs1 fd1 fp1 fq1 fr1 W, fun e w' he => by
        obtain ⟨L, A, c, rfl, HL, hr, hb⟩ := he
        exact ⟨_, rfl, ⟨L, A, c, rfl, HL, hr⟩, hb⟩⟩
    · obtain rfl := Option.some.inj ho
      refine .inl ⟨wanted_none rfl, ?_⟩
      obtain ⟨L1, A1, c1, q1, HL1, r1⟩ := hd 1 (by kernel_rfl)
      obtain ⟨L2, A2, c2, q3, HL2, r2⟩ := hd 3 (by kernel_rfl)
      generalize hev : Act.eval _ = ev
      have ec : ∀ c, ev (.const c) = c := fun c => by rw [← hev]; rfl
      have ef : ∀ f, ev (.func f) = .func (.func f) #[] #[] := fun f => by rw [← hev]; rfl
      have e6 : ev (.tmp 6) = .slice A1 L1.length c1 := by rw [← hev]; exact (eval_put (by kernel_rfl) 10 rfl (by decide)).trans q1
      have e8 : ev (.tmp 8) = .slice A2 L2.length c2 := by rw [← hev]; exact (eval_put (by kernel_rfl) 10 rfl (by decide)).trans q3
      exact .inr ⟨_, _, _, by go_simp, bcompare_any A1 c1 L1 A2 c2 L2 W r1 r2, fun e w' he => by
        obtain ⟨rfl, rfl⟩ := he
        exact ⟨_, rfl, by rw [HL1.out, HL2.out]; rfl, Below.refl _ _⟩⟩
    · obtain rfl := Option.some.inj ho
      refine .inl ⟨wanted_none rfl, ?_⟩
      have q4 : uu 4 = .int .i64 (Lib.compareBytes (fb fs0 fd0 fp0 fq0 fr0) (fb fs1 fd1 fp1 fq1 fr1)) := hd 4 (by kernel_rfl)
      generalize hev : Act.eval _ = ev
      have ec : ∀ c, ev (.const c) = c := fun c => by rw [← hev]; rfl
      have ef : ∀ f, ev (.func f) = .func (.func f) #[] #[] := fun f => by rw [← hev]; rfl
      have e9 : ev (.tmp 9) = .int .i64 (Lib.compareBytes (fb fs0 fd0 fp0 fq0 fr0) (fb fs1 fd1 fp1 fq1 fr1)) := by rw [← hev]; exact (eval_put (by kernel_rfl) 10 rfl (by decide)).trans q4
      exact .inl ⟨_, W, by go_simp, rfl, Below.refl _ _⟩
    · simp at ho
  · intro uu W hVW hall
    have q5 := hall 5 (by decide)
    go_wp2_with fail
    refine bodyPost_ret (results_tmp rfl _ _ _) (putAll_defers _ _ _ _) ?_
    exact ⟨congrArg Ending.returned (Eq.trans (b := uu 5) (by kernel_rfl) q5), hBV.trans (hVW.mono hBV.size)⟩

end Go.Proofs.Ytggcomociojfoaa
