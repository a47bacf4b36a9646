/- Contracts of tcp.Parse. -/
import Derived.Test.YtggcomociojfoabTcp1
import Derived.BigRegion
namespace Go.Proofs.Ytggcomociojfoab
open Go.RowKit

end Go.Proofs.Ytggcomociojfoab
