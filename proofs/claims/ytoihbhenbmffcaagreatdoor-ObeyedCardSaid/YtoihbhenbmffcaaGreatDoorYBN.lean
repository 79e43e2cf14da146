import Derived.Laws.IdiomStrings
import Derived.Test.YtoihbhenbmffcaaGreatDoorYBM
set_option linter.all false
set_option maxHeartbeats 0
namespace Go.Proofs.YtoihbhenbmffcaaGreatDoor
open Go.RowKit Go.Proofs.Tryz
