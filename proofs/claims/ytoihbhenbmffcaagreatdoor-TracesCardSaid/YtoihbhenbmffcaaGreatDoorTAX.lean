import Derived.Laws.IdiomStrings
import Derived.Test.YtoihbhenbmffcaaGreatDoorTAW
set_option linter.all false
set_option maxHeartbeats 0
namespace Go.Proofs.YtoihbhenbmffcaaGreatDoor
open Go.RowKit Go.Proofs.Tryz
variable{s:zA}{c:rc AV}{I:Int}
def D5.zero(h:D5 s c 0 I):I=0:=by
 unfold D5 at h;split at h
 .exact h.2
 .split at h
  .exact absurd h.1 (by decide)
  .split at h
   .exact h.2
   .obtain⟨a,_,h⟩:=h;unfold LI at h;split at h
    .exact absurd (congrArg Prod.fst h) (by simp)
    .split at h
     .exact absurd (congrArg Prod.fst h) (by simp)
     .exact congrArg Prod.snd h
