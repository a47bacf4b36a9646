/- The walk of the statement on which flow a packet is of. -/
import Derived.Test.YteodjajjlgekcaaDoorLaw11
namespace Go.Proofs.YteodjajjlgekcaaDoor
open Go.RowKit

end Go.Proofs.YteodjajjlgekcaaDoor
