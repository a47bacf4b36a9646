/- Contracts of the reference's answers for package ether: Parse, Few, Same. -/
import Derived.Test.YtiokofpmmlbncabEth4
import Derived.Test.YtiokofpmmlbncabArr
namespace Go.Proofs.Ytiokofpmmlbncab
open Go.RowKit

theorem u8sz : (Try.prog.info? 5).map (·.size) = some 1 := by kernel_rfl
@[go_sem] theorem eqmac (x0 x1 x2 x3 x4 x5 y0 y1 y2 y3 y4 y5 : Int) (w : World) :
    (Op.equalIn 10000 45 (.agg #[.int .u8 x0, .int .u8 x1, .int .u8 x2, .int .u8 x3, .int .u8 x4, .int .u8 x5]) (.agg #[.int .u8 y0, .int .u8 y1, .int .u8 y2, .int .u8 y3, .int .u8 y4, .int .u8 y5])).run Try.prog w = .ok (x0 == y0 && (x1 == y1 && (x2 == y2 && (x3 == y3 && (x4 == y4 && x5 == y5))))) w :=
  run_equalIn_mac Try.prog w 9998 45 5 (by kernel_rfl) (by kernel_rfl) u8sz x0 x1 x2 x3 x4 x5 y0 y1 y2 y3 y4 y5

end Go.Proofs.Ytiokofpmmlbncab
