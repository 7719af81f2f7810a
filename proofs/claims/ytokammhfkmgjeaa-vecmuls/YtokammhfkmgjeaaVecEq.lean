/- What '==' says of two matrices. -/
import Derived.Test.YtokammhfkmgjeaaVec1
namespace Go.Proofs.Ytokammhfkmgjeaa
open Go.RowKit Go.ChangeShapes Go.WideShapes Go.ChangeAt
set_option linter.unusedSimpArgs false
set_option linter.unusedVariables false
attribute [local go_sem] plus_size plus_drew dn_set dn_alloc dn_plus plus_dn cell_plus frozen_plus set_plus cell_alloc frozen_alloc set_alloc

theorem eq3 (n : Nat) (a b c a2 b2 c2 : Int) (w : World) : (Op.equalIn (n + 1 + 1) 27 (.agg #[.int .i64 a, .int .i64 b, .int .i64 c]) (.agg #[.int .i64 a2, .int .i64 b2, .int .i64 c2])).run Try.prog w = .ok (a == a2 && (b == b2 && c == c2)) w := by
  have u3 := Try.underlying3
  have a3 := Try.isAgg3
  have z3 := Try.sizeOf3
  rw [Op.equalIn]
  simp only [Sem.run_bind, run_underlying Try.underlying27, Result.andThen_ok]
  simp only [Std.Legacy.Range.forIn_eq_forIn_range', Std.Legacy.Range.size, Nat.sub_zero, Nat.add_sub_cancel, Nat.div_one, List.range'_succ, List.range'_zero, List.forIn_cons, List.forIn_nil]
  go_simp
  by_cases h1 : a = a2 <;> by_cases h2 : b = b2 <;> by_cases h3 : c = c2 <;> simp [h1, h2, h3]

theorem eq9 (n : Nat) (a b c d o f g u i a2 b2 c2 d2 o2 f2 g2 u2 i2 : Int) (w : World) : (Op.equalIn (n + 1 + 1 + 1) 28 (.agg #[.int .i64 a, .int .i64 b, .int .i64 c, .int .i64 d, .int .i64 o, .int .i64 f, .int .i64 g, .int .i64 u, .int .i64 i]) (.agg #[.int .i64 a2, .int .i64 b2, .int .i64 c2, .int .i64 d2, .int .i64 o2, .int .i64 f2, .int .i64 g2, .int .i64 u2, .int .i64 i2])).run Try.prog w =
    .ok ((a == a2 && (b == b2 && c == c2)) && ((d == d2 && (o == o2 && f == f2)) && (g == g2 && (u == u2 && i == i2)))) w := by
  have u3 := Try.underlying27
  have a3 := Try.isAgg27
  have z3 := Try.sizeOf27
  rw [Op.equalIn]
  simp only [Sem.run_bind, run_underlying Try.underlying28, Result.andThen_ok]
  simp only [Std.Legacy.Range.forIn_eq_forIn_range', Std.Legacy.Range.size, Nat.sub_zero, Nat.add_sub_cancel, Nat.div_one, List.range'_succ, List.range'_zero, List.forIn_cons, List.forIn_nil]
  have e1 := eq3 n a b c a2 b2 c2
  have e2 := eq3 n d o f d2 o2 f2
  have e3 := eq3 n g u i g2 u2 i2
  generalize (a == a2 && (b == b2 && c == c2)) = k1 at *
  generalize (d == d2 && (o == o2 && f == f2)) = k2 at *
  generalize (g == g2 && (u == u2 && i == i2)) = k3 at *
  go_simp
  cases k1 <;> cases k2 <;> cases k3 <;> simp

theorem eq9L (a b c d o f g u i a2 b2 c2 d2 o2 f2 g2 u2 i2 : Int) (w : World) : (Op.equalIn 9999 28 (.agg #[.int .i64 a, .int .i64 b, .int .i64 c, .int .i64 d, .int .i64 o, .int .i64 f, .int .i64 g, .int .i64 u, .int .i64 i]) (.agg #[.int .i64 a2, .int .i64 b2, .int .i64 c2, .int .i64 d2, .int .i64 o2, .int .i64 f2, .int .i64 g2, .int .i64 u2, .int .i64 i2])).run Try.prog w =
    .ok ((a == a2 && (b == b2 && c == c2)) && ((d == d2 && (o == o2 && f == f2)) && (g == g2 && (u == u2 && i == i2)))) w := eq9 9996 a b c d o f g u i a2 b2 c2 d2 o2 f2 g2 u2 i2 w

end Go.Proofs.Ytokammhfkmgjeaa
