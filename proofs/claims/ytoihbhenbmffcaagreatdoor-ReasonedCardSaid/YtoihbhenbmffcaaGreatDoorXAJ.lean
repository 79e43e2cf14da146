import Derived.Test.YtoihbhenbmffcaaGreatDoorXAH
import Derived.Test.YtoihbhenbmffcaaGreatDoorXAI
set_option linter.all false
set_option maxHeartbeats 0
open List renaming length->Z,replicate->pG
open Option renaming none->Y,some->V
open Go.Value renaming slice->U,int->X,string->O
namespace Go.Proofs.YtoihbhenbmffcaaGreatDoor
open Go.RowKit Go.Proofs.Tryz
variable{n:Nat}{M:pM Nat}{w u:World}{z:Value}{y:pM Value}
abbrev iJ:Array Value:=#[O ⟨#[]⟩,O ⟨#[]⟩,O ⟨#[]⟩,O ⟨#[]⟩,O ⟨#[]⟩,O ⟨#[]⟩,O ⟨#[]⟩,O ⟨#[]⟩,O ⟨#[]⟩,O ⟨#[]⟩,O ⟨#[]⟩,O ⟨#[]⟩,O ⟨#[]⟩,O ⟨#[]⟩,O ⟨#[]⟩,O ⟨#[]⟩,O ⟨#[]⟩,O ⟨#[]⟩,O ⟨#[]⟩,O ⟨#[]⟩,O ⟨#[]⟩,O ⟨#[]⟩,O ⟨#[]⟩,O ⟨#[]⟩,O ⟨#[]⟩,O ⟨#[]⟩]
structure BJ(w:World)(base:Nat)(v:Value)(L:pM (pM zA)):Prop where
 row:w.ownsRow base 90 26 v (Z L) (L.flatMap Aj)
 each:∀e∈L,Z e=26
def BJ.kept{w w':World}{v:Value}{L:pM (pM zA)}(h:BJ w n v L)(k:Ac M w w')(a:∀i,v.ownBlock=V i->i∉M:=by simp):BJ w' n v L:=⟨Ai h.row k a,h.each⟩
def BJ.nil(w:World)(a:Nat):BJ w a (U Y 0 0) []:=⟨lH _ _ _ _,by simp⟩
def G4{L:pM (pM zA)}(h:BJ w n z L)(k:Nat)(b:k<Z L):∃g a,z=U (V ⟨g,0,Y⟩) (Z L) a/\Z L<=a/\w.rangeAt g (k*26) (Aj L[k]):=by
 obtain⟨g,a,c,j,l⟩:=AC h.row (λe c=>by rw[Ci];exact h.each e c) k b;refine⟨g,a,c,j,λi z d=>?_⟩;have f:i<26:=by
  have:=(nS.1 d).1;rw[Ci,h.each _ (kV b)]at this;exact this
 rw[l k b i f];exact d
def Mi{d:pM Ba}(h:w.ownsRow 0 95 9 z (Z d) (d.flatMap AX))(D:∀p∈d,B4 w 0 p)(k:Nat)(a:k<Z d):
  ∃g n x f i,z=U (V ⟨g,0,Y⟩) (Z d) n/\d[k]=(x,U f (Z x.A.args) i)/\
   w.cell? ⟨g,k*9,Y⟩=V (X .u8 x.kind.toNat)/\w.cell? ⟨g,k*9+1,Y⟩=V (O x.A.name)/\w.cell? ⟨g,k*9+2,Y⟩=V (U f (Z x.A.args) i)/\w.cell? ⟨g,k*9+3,Y⟩=V (X .i64 x.A.at_)/\
   w.cell? ⟨g,k*9+4,Y⟩=V (X .u8 x.L.v.toNat)/\w.cell? ⟨g,k*9+5,Y⟩=V (O x.L.s)/\w.cell? ⟨g,k*9+6,Y⟩=V (X .u8 x.R.v.toNat)/\w.cell? ⟨g,k*9+7,Y⟩=V (O x.R.s)/\w.cell? ⟨g,k*9+8,Y⟩=V (X .i64 x.at_):=by
 obtain⟨g,n,E,_,b⟩:=AC h (λc _=>BP c) k a;have B:=D _ (kV a);have r:=b k a 0 (by omega);have m:=b k a 1 (by omega);have j:=b k a 2 (by omega);have l:=b k a 3 (by omega);have y:=b k a 4 (by omega);have t:=b k a 5 (by omega);have q:=b k a 6 (by omega);have o:=b k a 7 (by omega);have u:=b k a 8 (by omega);obtain⟨⟨x,F⟩,C⟩:∃p,d[k]=p:=⟨_,rfl⟩;rw[C]at r m j l y t q o u B;obtain⟨f,i,e⟩:=Ak B;simp only at e;subst e;simp[AX,Cj]at r m j l y t q o u;exact⟨g,n,x,f,i,E,C,r,m,j,l,y,t,q,o,u⟩
def Oz(S:pM Af)(A:Dg):∀(L:pM (pM zA)),Z (L.flatMap λe=>S.filterMap (Ih e A))<=Z L*Z S
 |[]=>by simp
 |e::L=>by
  have a:=Oz S A L;have b:=List.length_filterMap_le (Ih e A) S;simp only[lF,lu,lj,nA,Nat.one_mul];omega
def JM:∀(a:pM AK) (b:pM zA) (e:pM zA),Z (Dd e a b).1=Z e
 |[],_,e=>by simp[Dd]
 |_::_,[],e=>by simp[Dd]
 |t::a,x::b,e=>by
  unfold Dd;split
  .rw[JM a b];simp
  .split
   .exact JM a b e
   .rfl
def FY(e:pM zA)(A:Dg)(f:Af):Z (B3 e A f).1=Z e:=by
 unfold B3;split
 .exact JM _ _ _
 .rfl
def Le(w:World)(a:Z y=26):(w.alloc (.cells iJ 90)).there w.heap.size 0 y.toArray.size:=Ht (pP w (pG 26 (O ⟨#[]⟩)) 90) a
def Np(k:Ac [] (u.alloc (.cells iJ 90)).drew w)(a:Z y=26):w.there u.heap.size 0 y.toArray.size:=Ht ((pP u (pG 26 (O ⟨#[]⟩)) 90).drew.kept k) a
theorem Tryz.yG:(Tryz.prog.info? 90).map (λi=>(i.zero,i.size,i.bytes))=V (V (.agg (pG 26 (O ⟨#[]⟩)).toArray),26,416):=by kernel_rfl
