/- Both sides of Wrap and of Open. -/
import Derived.Test.YtkoamiefombilaaTun2
import Derived.Test.YtkoamiefombilaaTun3
import Derived.Test.YtkoamiefombilaaTun4
namespace Go.Proofs.Ytkoamiefombilaa
open Go.RowKit

set_option maxHeartbeats 2000000 in
theorem twrap_both (cs : Array Value) (hcz : cs.size = 40) (b1 : UInt32) (h13 : cs.toList[13]? = some (.int .u32 (b1.toNat : Int))) (mtu : Int) (h17 : cs.toList[17]? = some (.int .i64 mtu)) (to : UInt32) (nid : UInt16) (xs : List UInt8) (hxl : xs.length ≤ 1000000) : ∃ (q0 : UInt8) (q1 : UInt16) (q2 q3 : Bool) (q4 : UInt16) (q5 q6 : UInt8) (q7 q8 : UInt32) (Q : List UInt8) (er : Int),
    (∀ A c W, Rd bv W W.heap.size A c xs → Calls Try.prog 33 #[.agg cs, .slice A xs.length c, .int .u32 (to.toNat : Int), .int .u16 (nid.toNat : Int)] W fun e w' => ∃ L A1 c1, e = .returned (.tuple #[.agg #[.int .u8 (q0.toNat : Int), .int .u16 (q1.toNat : Int), .bool q2, .bool q3, .int .u16 (q4.toNat : Int), .int .u8 (q5.toNat : Int), .int .u8 (q6.toNat : Int), .int .u32 (q7.toNat : Int), .int .u32 (q8.toNat : Int), .slice none 0 0, .slice A1 L.length c1], .int .i64 er]) ∧ Hid (L = Q) ∧ Rd bv w' w'.heap.size A1 c1 L ∧ Below W.heap.size W w') ∧
    (∀ A c W, Rd bv W W.heap.size A c xs → Calls Try.prog 34 #[.agg cs, .slice A xs.length c, .int .u32 (to.toNat : Int), .int .u16 (nid.toNat : Int)] W fun e w' => ∃ L A1 c1, e = .returned (.tuple #[.agg #[.int .u8 (q0.toNat : Int), .int .u16 (q1.toNat : Int), .bool q2, .bool q3, .int .u16 (q4.toNat : Int), .int .u8 (q5.toNat : Int), .int .u8 (q6.toNat : Int), .int .u32 (q7.toNat : Int), .int .u32 (q8.toNat : Int), .slice none 0 0, .slice A1 L.length c1], .int .i64 er]) ∧ Hid (L = Q) ∧ Rd bv w' w'.heap.size A1 c1 L ∧ Below W.heap.size W w') := by
  rcases parse_split xs hxl with ⟨e0, he, hb⟩ | ⟨m, fl, al, tos, id, D, M, fo, ttl, pr, s, d, hk⟩
  · have he0 : ((e0 : Int) != 0) = true := by rcases he with rfl | rfl | rfl <;> rfl
    refine ⟨0, 0, false, false, 0, 0, 0, 0, 0, [], e0, fun A c W h => ?_, fun A c W h => ?_⟩
    · refine (twrap_bad cs hcz b1 h13 mtu h17 to nid e0 he0 A c xs W h (fun W h => Lib.hid (hb A c W h).2.1)).mono ?_
      rintro e w' ⟨rfl, hb'⟩
      exact ⟨[], none, 0, rfl, rfl, Rd.nil0 _ _ _, hb'⟩
    · refine (rwrap_bad cs hcz b1 h13 mtu h17 to nid e0 he0 A c xs W h (fun W h => Lib.hid (hb A c W h).2.2)).mono ?_
      rintro e w' ⟨rfl, hb'⟩
      exact ⟨[], none, 0, rfl, rfl, Rd.nil0 _ _ _, hb'⟩
  obtain ⟨z16, e16⟩ : ∃ a : UInt16, (a.toNat : Int) = 0 := ⟨0, rfl⟩
  obtain ⟨t64, e64⟩ : ∃ a : UInt8, (a.toNat : Int) = 64 := ⟨64, rfl⟩
  obtain ⟨p4, ep4⟩ : ∃ a : UInt8, (a.toNat : Int) = 4 := ⟨4, rfl⟩
  by_cases hm : (al : Int) + 20 ≤ mtu
  · refine ⟨tos, nid, D, false, z16, t64, p4, b1, to, xs.take al, 0, fun A c W h => ?_, fun A c W h => ?_⟩
    · have := twrap_ok cs hcz b1 h13 mtu h17 to nid A c xs W h hxl hk hm
      simp only [e16, e64, ep4]
      exact this
    · have := rwrap_ok cs hcz b1 h13 mtu h17 to nid A c xs W h hxl hk hm
      simp only [e16, e64, ep4]
      exact this
  · refine ⟨0, 0, false, false, 0, 0, 0, 0, 0, [], 14, fun A c W h => ?_, fun A c W h => ?_⟩
    · refine (twrap_big cs hcz b1 h13 mtu h17 to nid A c xs W h hxl hk (by omega)).mono ?_
      rintro e w' ⟨rfl, hb'⟩
      exact ⟨[], none, 0, rfl, rfl, Rd.nil0 _ _ _, hb'⟩
    · refine (rwrap_big cs hcz b1 h13 mtu h17 to nid A c xs W h hxl hk (by omega)).mono ?_
      rintro e w' ⟨rfl, hb'⟩
      exact ⟨[], none, 0, rfl, rfl, Rd.nil0 _ _ _, hb'⟩

set_option maxHeartbeats 2000000 in
theorem topen_both (tos : UInt8) (id : UInt16) (D M : Bool) (fo : UInt16) (ttl pr : UInt8) (s d : UInt32) (ys : List UInt8) (hxl : ys.length ≤ 1000000) : ∃ (Q : List UInt8) (er : Int),
    (∀ A1 n1 c1 A c W, Rd bv W W.heap.size A c ys → Calls Try.prog 35 #[.agg #[.int .u8 (tos.toNat : Int), .int .u16 (id.toNat : Int), .bool D, .bool M, .int .u16 (fo.toNat : Int), .int .u8 (ttl.toNat : Int), .int .u8 (pr.toNat : Int), .int .u32 (s.toNat : Int), .int .u32 (d.toNat : Int), .slice A1 n1 c1, .slice A ys.length c]] W fun e w' => ∃ L A' c', e = .returned (.tuple #[.slice A' L.length c', .int .i64 er]) ∧ Hid (L = Q) ∧ Rd bv w' w'.heap.size A' c' L ∧ Below W.heap.size W w') ∧
    (∀ A1 n1 c1 A c W, Rd bv W W.heap.size A c ys → Calls Try.prog 36 #[.agg #[.int .u8 (tos.toNat : Int), .int .u16 (id.toNat : Int), .bool D, .bool M, .int .u16 (fo.toNat : Int), .int .u8 (ttl.toNat : Int), .int .u8 (pr.toNat : Int), .int .u32 (s.toNat : Int), .int .u32 (d.toNat : Int), .slice A1 n1 c1, .slice A ys.length c]] W fun e w' => ∃ L A' c', e = .returned (.tuple #[.slice A' L.length c', .int .i64 er]) ∧ Hid (L = Q) ∧ Rd bv w' w'.heap.size A' c' L ∧ Below W.heap.size W w') := by
  by_cases h4 : pr.toNat = 4
  · have hp4 : ((pr.toNat : Int) != 4) = false := by simp; omega
    cases hp : partB M fo
    · rcases parse_split ys hxl with ⟨e0, he, hb⟩ | ⟨m, fl, al, jtos, jid, jD, jM, jfo, jttl, jpr, js, jd, hk⟩
      · have he0 : ((e0 : Int) != 0) = true := by rcases he with rfl | rfl | rfl <;> rfl
        refine ⟨[], e0, fun A1 n1 c1 A c W h => ?_, fun A1 n1 c1 A c W h => ?_⟩
        · refine (topen_bad tos id D M fo ttl pr s d A1 n1 c1 A c ys W h hp4 hp e0 he0 (fun W h => Lib.hid (hb A c W h).2.1)).mono ?_
          rintro e w' ⟨rfl, hb'⟩
          exact ⟨[], none, 0, rfl, rfl, Rd.nil0 _ _ _, hb'⟩
        · refine (ropen_bad tos id D M fo ttl pr s d A1 n1 c1 A c ys W h hp4 hp e0 he0 (fun W h => Lib.hid (hb A c W h).2.2)).mono ?_
          rintro e w' ⟨rfl, hb'⟩
          exact ⟨[], none, 0, rfl, rfl, Rd.nil0 _ _ _, hb'⟩
      · exact ⟨ys.take al, 0, fun A1 n1 c1 A c W h => topen_ok tos id D M fo ttl pr s d A1 n1 c1 A c ys W h hp4 hp hxl hk, fun A1 n1 c1 A c W h => ropen_ok tos id D M fo ttl pr s d A1 n1 c1 A c ys W h hp4 hp hxl hk⟩
    · refine ⟨[], 11, fun A1 n1 c1 A c W h => ?_, fun A1 n1 c1 A c W h => ?_⟩
      · refine (topen_part tos id D M fo ttl pr s d A1 n1 c1 A c ys W hp4 hp).mono ?_
        rintro e w' ⟨rfl, hb'⟩
        exact ⟨[], none, 0, rfl, rfl, Rd.nil0 _ _ _, hb'⟩
      · refine (ropen_part tos id D M fo ttl pr s d A1 n1 c1 A c ys W hp4 hp).mono ?_
        rintro e w' ⟨rfl, hb'⟩
        exact ⟨[], none, 0, rfl, rfl, Rd.nil0 _ _ _, hb'⟩
  · have hp4 : ((pr.toNat : Int) != 4) = true := by simp; omega
    refine ⟨[], 3, fun A1 n1 c1 A c W h => ?_, fun A1 n1 c1 A c W h => ?_⟩
    · refine (topen_form tos id D M fo ttl pr s d A1 n1 c1 A c ys W hp4).mono ?_
      rintro e w' ⟨rfl, hb'⟩
      exact ⟨[], none, 0, rfl, rfl, Rd.nil0 _ _ _, hb'⟩
    · refine (ropen_form tos id D M fo ttl pr s d A1 n1 c1 A c ys W hp4).mono ?_
      rintro e w' ⟨rfl, hb'⟩
      exact ⟨[], none, 0, rfl, rfl, Rd.nil0 _ _ _, hb'⟩
end Go.Proofs.Ytkoamiefombilaa
