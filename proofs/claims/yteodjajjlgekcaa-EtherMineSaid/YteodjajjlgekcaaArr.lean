import Derived.Test.YteodjajjlgekcaaNum
namespace Go.Proofs.Yteodjajjlgekcaa
open Go
set_option linter.unusedSimpArgs false

theorem part_int (P : Program) (w : World) (e : TypeId) (he : P.underlying e = some (.int .u8)) (cs : Array Value) (k : Nat) (v : Value) (hv : cs[k]? = some v) : (part e cs k).run P w = .ok v w := by
  simp [part, isAgg, run_underlying he, hv]

theorem size_int (P : Program) (w : World) (e : TypeId) (hi : (P.info? e).map (·.size) = some 1) : (sizeOf e).run P w = .ok 1 w := by
  obtain ⟨j, hi, hj⟩ := Option.map_eq_some_iff.mp hi
  simp [sizeOf, typeInfo, run_program, hi, hj]

theorem run_equalIn_mac (P : Program) (w : World) (d : Nat) (t e : TypeId) (ht : P.underlying t = some (.array 6 e)) (he : P.underlying e = some (.int .u8)) (hi : (P.info? e).map (·.size) = some 1) (x0 x1 x2 x3 x4 x5 y0 y1 y2 y3 y4 y5 : Int) :
    (Op.equalIn (d + 2) t (.agg #[.int .u8 x0, .int .u8 x1, .int .u8 x2, .int .u8 x3, .int .u8 x4, .int .u8 x5]) (.agg #[.int .u8 y0, .int .u8 y1, .int .u8 y2, .int .u8 y3, .int .u8 y4, .int .u8 y5])).run P w = .ok (x0 == y0 && (x1 == y1 && (x2 == y2 && (x3 == y3 && (x4 == y4 && x5 == y5))))) w := by
  have hr : List.range' 0 6 = [0, 1, 2, 3, 4, 5] := rfl
  generalize hX : (#[.int .u8 x0, .int .u8 x1, .int .u8 x2, .int .u8 x3, .int .u8 x4, .int .u8 x5] : Array Value) = X
  generalize hY : (#[.int .u8 y0, .int .u8 y1, .int .u8 y2, .int .u8 y3, .int .u8 y4, .int .u8 y5] : Array Value) = Y
  have X0 : X[0]? = some (.int .u8 x0) := by subst hX; rfl
  have X1 : X[1]? = some (.int .u8 x1) := by subst hX; rfl
  have X2 : X[2]? = some (.int .u8 x2) := by subst hX; rfl
  have X3 : X[3]? = some (.int .u8 x3) := by subst hX; rfl
  have X4 : X[4]? = some (.int .u8 x4) := by subst hX; rfl
  have X5 : X[5]? = some (.int .u8 x5) := by subst hX; rfl
  have Y0 : Y[0]? = some (.int .u8 y0) := by subst hY; rfl
  have Y1 : Y[1]? = some (.int .u8 y1) := by subst hY; rfl
  have Y2 : Y[2]? = some (.int .u8 y2) := by subst hY; rfl
  have Y3 : Y[3]? = some (.int .u8 y3) := by subst hY; rfl
  have Y4 : Y[4]? = some (.int .u8 y4) := by subst hY; rfl
  have Y5 : Y[5]? = some (.int .u8 y5) := by subst hY; rfl
  clear hX hY
  have hI : ∀ a b : Int, (Op.equalIn (d + 1) e (.int .u8 a) (.int .u8 b)).run P w = .ok (a == b) w := fun a b => run_equalIn_int w d e .u8 .u8 a b he
  have hp := part_int P w e he
  have hs := size_int P w e hi
  rw [Op.equalIn]
  simp only [Sem.run_bind, run_underlying ht, Result.andThen_ok, hs]
  rw [Std.Legacy.Range.forIn_eq_forIn_range']
  simp only [Std.Legacy.Range.size, Nat.sub_zero, Nat.add_sub_cancel, Nat.div_one, List.range'_succ, List.range'_zero, List.forIn_cons, List.forIn_nil, Nat.mul_one]
  by_cases h0 : x0 = y0
  case neg =>
    have b0 : (x0 == y0) = false := by simp [h0]
    simp only [Sem.run_bind, Sem.run_pure, Sem.run_ite, Result.andThen_ok, Nat.zero_add, Nat.reduceAdd, hI, beq_self_eq_true, Bool.true_and, Bool.false_and, Bool.not_true, Bool.not_false, Bool.false_eq_true, if_false, if_true, hp _ _ _ X0, hp _ _ _ Y0, b0]
  subst h0
  simp only [Sem.run_bind, Sem.run_pure, Sem.run_ite, Result.andThen_ok, Nat.zero_add, Nat.reduceAdd, hI, beq_self_eq_true, Bool.true_and, Bool.false_and, Bool.not_true, Bool.not_false, Bool.false_eq_true, if_false, if_true, hp _ _ _ X0, hp _ _ _ Y0]
  by_cases h1 : x1 = y1
  case neg =>
    have b1 : (x1 == y1) = false := by simp [h1]
    simp only [Sem.run_bind, Sem.run_pure, Sem.run_ite, Result.andThen_ok, Nat.zero_add, Nat.reduceAdd, hI, beq_self_eq_true, Bool.true_and, Bool.false_and, Bool.not_true, Bool.not_false, Bool.false_eq_true, if_false, if_true, hp _ _ _ X1, hp _ _ _ Y1, b1]
  subst h1
  simp only [Sem.run_bind, Sem.run_pure, Sem.run_ite, Result.andThen_ok, Nat.zero_add, Nat.reduceAdd, hI, beq_self_eq_true, Bool.true_and, Bool.false_and, Bool.not_true, Bool.not_false, Bool.false_eq_true, if_false, if_true, hp _ _ _ X1, hp _ _ _ Y1]
  by_cases h2 : x2 = y2
  case neg =>
    have b2 : (x2 == y2) = false := by simp [h2]
    simp only [Sem.run_bind, Sem.run_pure, Sem.run_ite, Result.andThen_ok, Nat.zero_add, Nat.reduceAdd, hI, beq_self_eq_true, Bool.true_and, Bool.false_and, Bool.not_true, Bool.not_false, Bool.false_eq_true, if_false, if_true, hp _ _ _ X2, hp _ _ _ Y2, b2]
  subst h2
  simp only [Sem.run_bind, Sem.run_pure, Sem.run_ite, Result.andThen_ok, Nat.zero_add, Nat.reduceAdd, hI, beq_self_eq_true, Bool.true_and, Bool.false_and, Bool.not_true, Bool.not_false, Bool.false_eq_true, if_false, if_true, hp _ _ _ X2, hp _ _ _ Y2]
  by_cases h3 : x3 = y3
  case neg =>
    have b3 : (x3 == y3) = false := by simp [h3]
    simp only [Sem.run_bind, Sem.run_pure, Sem.run_ite, Result.andThen_ok, Nat.zero_add, Nat.reduceAdd, hI, beq_self_eq_true, Bool.true_and, Bool.false_and, Bool.not_true, Bool.not_false, Bool.false_eq_true, if_false, if_true, hp _ _ _ X3, hp _ _ _ Y3, b3]
  subst h3
  simp only [Sem.run_bind, Sem.run_pure, Sem.run_ite, Result.andThen_ok, Nat.zero_add, Nat.reduceAdd, hI, beq_self_eq_true, Bool.true_and, Bool.false_and, Bool.not_true, Bool.not_false, Bool.false_eq_true, if_false, if_true, hp _ _ _ X3, hp _ _ _ Y3]
  by_cases h4 : x4 = y4
  case neg =>
    have b4 : (x4 == y4) = false := by simp [h4]
    simp only [Sem.run_bind, Sem.run_pure, Sem.run_ite, Result.andThen_ok, Nat.zero_add, Nat.reduceAdd, hI, beq_self_eq_true, Bool.true_and, Bool.false_and, Bool.not_true, Bool.not_false, Bool.false_eq_true, if_false, if_true, hp _ _ _ X4, hp _ _ _ Y4, b4]
  subst h4
  simp only [Sem.run_bind, Sem.run_pure, Sem.run_ite, Result.andThen_ok, Nat.zero_add, Nat.reduceAdd, hI, beq_self_eq_true, Bool.true_and, Bool.false_and, Bool.not_true, Bool.not_false, Bool.false_eq_true, if_false, if_true, hp _ _ _ X4, hp _ _ _ Y4]
  by_cases h5 : x5 = y5
  case neg =>
    have b5 : (x5 == y5) = false := by simp [h5]
    simp only [Sem.run_bind, Sem.run_pure, Sem.run_ite, Result.andThen_ok, Nat.zero_add, Nat.reduceAdd, hI, beq_self_eq_true, Bool.true_and, Bool.false_and, Bool.not_true, Bool.not_false, Bool.false_eq_true, if_false, if_true, hp _ _ _ X5, hp _ _ _ Y5, b5]
  subst h5
  simp only [Sem.run_bind, Sem.run_pure, Sem.run_ite, Result.andThen_ok, Nat.zero_add, Nat.reduceAdd, hI, beq_self_eq_true, Bool.true_and, Bool.false_and, Bool.not_true, Bool.not_false, Bool.false_eq_true, if_false, if_true, hp _ _ _ X5, hp _ _ _ Y5]

end Go.Proofs.Yteodjajjlgekcaa
