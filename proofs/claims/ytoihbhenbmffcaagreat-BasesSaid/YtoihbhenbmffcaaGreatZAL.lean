import Derived.Test.YtoihbhenbmffcaaGreatZAJ
import Derived.Test.YtoihbhenbmffcaaGreatZAK
set_option linter.all false
set_option maxHeartbeats 0
namespace Go.Proofs.YtoihbhenbmffcaaGreat
open Go.RowKit Go.Proofs.Tryz
def Uy:Ai BM=List.replicate 26 (.string ⟨#[]⟩):=by
 unfold BM Ai;rw[List.map_replicate];rfl
