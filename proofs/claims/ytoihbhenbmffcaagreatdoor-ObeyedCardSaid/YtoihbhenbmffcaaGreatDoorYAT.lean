import Derived.Test.YtoihbhenbmffcaaGreatDoorYAQ
import Derived.Test.YtoihbhenbmffcaaGreatDoorYAS
set_option linter.all false
set_option maxHeartbeats 0
namespace Go.Proofs.YtoihbhenbmffcaaGreatDoor
open Go.RowKit Go.Proofs.Tryz
def bq:Aj Bs=List.replicate 26 (.string ⟨#[]⟩):=by
 unfold Bs Aj;rw[List.map_replicate];rfl
