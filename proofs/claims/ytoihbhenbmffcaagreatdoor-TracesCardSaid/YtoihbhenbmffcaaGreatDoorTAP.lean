import Derived.Test.YtoihbhenbmffcaaGreatDoorTAI
import Derived.Test.YtoihbhenbmffcaaGreatDoorTAN
set_option linter.all false
set_option maxHeartbeats 0
namespace Go.Proofs.YtoihbhenbmffcaaGreatDoor
open Go.RowKit Go.Proofs.Tryz
variable{w:World}{m k n:Nat}{T:TypeId}{z:Value}{y:rc Value}{s:zA}{I:Int}
def VW(h:w.ownsRow m T k z n y):n<=9223372036854775807:=by
 rcases h.2 with⟨_,f⟩|⟨g,d,b,_,_,_,c,a,_⟩
 .omega
 .unfold maxLen at a;omega
def Nw(s:zA)(b:Nat)(a:Bool):(AY s b a).1.size<=s.size:=by
 unfold AY;split
 .exact mO _
 .split
  .exact mO _
  .rw[n7];omega
def DK.zero(h:DK s 0 I):I=0:=by
 unfold DK at h;split at h
 .exact absurd h.1 (by decide)
 .split at h
  .exact absurd h.1 (by decide)
  .obtain⟨cs,_,a⟩:=h;have b:=Jb (cs:=cs) (by rw[<-a]);rw[b]at a;exact(Prod.mk.inj a).2
def OU(s:zA)(t:zA)(er:Int):Prop:=
 (er≠0->t=ByteArray.empty)/\
 (er=0->∃(cs:rc AV) (fs:rc BP),cs.map AV.erase=(Aj s (Ae s 0)).1/\Cn cs/\(∀c∈cs,c.head.args≠[])/\Hm cs (B3 cs 6) 7 (fs.map BP.f)/\t=On ByteArray.empty fs)
