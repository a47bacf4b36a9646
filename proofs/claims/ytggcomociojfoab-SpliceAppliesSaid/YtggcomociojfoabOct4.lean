/- Contracts of package octet's Set16, Cut, Same. -/
import Derived.Test.YtggcomociojfoabOct1
import Derived.Test.YtggcomociojfoabOct2
namespace Go.Proofs.Ytggcomociojfoab
open Go.RowKit

end Go.Proofs.Ytggcomociojfoab
