/- Layer 1: powers. -/
import Derived.Test.YtifoeikbjdgdpabDoorMb
import Derived.Test.YtifoeikbjdgdpabDoorWc
import Derived.Handy
namespace Go.Proofs.YtifoeikbjdgdpabDoor
open Go.RowKit

end Go.Proofs.YtifoeikbjdgdpabDoor
