import Derived.Test.YtoihbhenbmffcaaGreatDoorTAI
import Derived.Test.YtoihbhenbmffcaaGreatDoorTAJ
set_option linter.all false
set_option maxHeartbeats 0
namespace Go.Proofs.YtoihbhenbmffcaaGreatDoor
open Go.RowKit Go.Proofs.Tryz
def XH:Am Bl=List.replicate 26 (.string ⟨#[]⟩):=by
 unfold Bl Am;rw[List.map_replicate];rfl
