import Derived.Test.YtoihbhenbmffcaaGreatDoorVAJ
import Derived.Test.YtoihbhenbmffcaaGreatDoorVAK
set_option linter.all false
set_option maxHeartbeats 0
namespace Go.Proofs.YtoihbhenbmffcaaGreatDoor
open Go.RowKit Go.Proofs.Tryz
def Xa:Aj Bj=List.replicate 26 (.string ⟨#[]⟩):=by
 unfold Bj Aj;rw[List.map_replicate];rfl
