import Derived.Deep.WholeRow
import Derived.Test.YtoihbhenbmffcaaGreatDoorVAH
set_option linter.all false
set_option maxHeartbeats 0
open Go.Value renaming string->O
namespace Go.Proofs.YtoihbhenbmffcaaGreatDoor
open Go.RowKit Go.Proofs.Tryz
variable{n:Nat}{M:QC Nat}
abbrev iZ:Array Value:=#[O ⟨#[]⟩,O ⟨#[]⟩,O ⟨#[]⟩,O ⟨#[]⟩,O ⟨#[]⟩,O ⟨#[]⟩,O ⟨#[]⟩,O ⟨#[]⟩,O ⟨#[]⟩,O ⟨#[]⟩,O ⟨#[]⟩,O ⟨#[]⟩,O ⟨#[]⟩,O ⟨#[]⟩,O ⟨#[]⟩,O ⟨#[]⟩,O ⟨#[]⟩,O ⟨#[]⟩,O ⟨#[]⟩,O ⟨#[]⟩,O ⟨#[]⟩,O ⟨#[]⟩,O ⟨#[]⟩,O ⟨#[]⟩,O ⟨#[]⟩,O ⟨#[]⟩]
structure BL(w:World)(base:Nat)(v:Value)(L:QC (QC bC)):Prop where
 row:w.ownsRow base 90 26 v L.length (L.flatMap Aj)
 each:∀e∈L,e.length=26
def BL.kept{w w':World}{v:Value}{L:QC (QC bC)}(h:BL w n v L)(k:Ac M w w')(a:∀i,v.ownBlock=some i->i∉M:=by simp):BL w' n v L:=⟨Ai h.row k a,h.each⟩
def BL.nil(w:World)(a:Nat):BL w a (.slice none 0 0) []:=⟨mf _ _ _ _,by simp⟩
