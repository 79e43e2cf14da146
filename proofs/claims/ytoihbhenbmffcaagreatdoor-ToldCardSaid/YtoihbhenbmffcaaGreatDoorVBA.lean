import Derived.Laws.IdiomStrings
import Derived.Test.YtoihbhenbmffcaaGreatDoorVAZ
set_option linter.all false
set_option maxHeartbeats 0
namespace Go.Proofs.YtoihbhenbmffcaaGreatDoor
open Go.RowKit Go.Proofs.Tryz
variable{s:bC}{c:QC A7}{I:Int}
def SR(s q:bC)(er at_:Int):Prop:=
 ∃e1 a1:Int,CJ s e1 a1/\((e1≠0/\er=e1/\at_=a1)\/
  (e1=0/\∃cs:QC A7,cs.map A7.erase=(An s (Ae s 0)).1/\CK cs=(0,0)/\Db q cs er at_))
def Db.zero(h:Db s c 0 I):I=0:=by
 unfold Db at h;split at h
 .exact h.2
 .split at h
  .exact absurd h.1 (by decide)
  .split at h
   .exact h.2
   .obtain⟨a,_,h⟩:=h;unfold I6 at h;split at h
    .exact absurd (congrArg Prod.fst h) (by simp)
    .split at h
     .exact absurd (congrArg Prod.fst h) (by simp)
     .exact congrArg Prod.snd h
def SR.zero{s q:bC}{a:Int}(h:SR s q 0 a):a=0:=by
 obtain⟨d,b,_,h|⟨_,c,_,_,h⟩⟩:=h
 .exact absurd h.2.1.symm h.1
 .exact h.zero
