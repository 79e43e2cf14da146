import Derived.Maps.OwnOps
import Derived.Maps.Views
import Derived.Carry
import Derived.Test.YtoihbhenbmffcaaGreatDoorYBA
set_option linter.all false
set_option maxHeartbeats 0
open List renaming length->Z
open Prod renaming fst->lW
namespace Go.Proofs.YtoihbhenbmffcaaGreatDoor
open Go.RowKit Go.Proofs.Tryz
def Sq(x:zA):Lit:=.string x.data.toList
def aU{x y:zA}(h:Sq x=Sq y):x=y:=by
 unfold Sq at h;simp only[Lit.string.injEq]at h;obtain⟨⟨a⟩⟩:=x;obtain⟨⟨b⟩⟩:=y;simp at h;rw[h]
def Xw{x:zA}(h:x.size<=1000000):keyOf prog 9 (.string x)=some (Sq x):=by
 rw[keyOf_string underlying9];have a:x.size<=maxLen:=by unfold maxLen;omega
 simp[mapKey,underlying9,Sq,a]
structure D7(w:World)(mb n:Nat)(L:zA->Nat):Prop where
 at_:∃D:DataW Unit,w.ownsMap prog 9 (plainElem prog 3) mb n D/\Maps.IsMap D/\∀x,D.atKey (Sq x) (.lit (.int .i64 0))=.lit (.int .i64 (L x))
def D7.zV{M:mc Nat}{w w':World}{a n:Nat}{L:zA->Nat}(h:D7 w a n L)(k:Ac M w w')(c:a∉M):D7 w' a n L:=by
 obtain⟨D,⟨g,l,b,e,j,f⟩,i,d⟩:=h.at_;refine⟨D,⟨g,l,?_,e,j,f⟩,i,d⟩;rw[k.block a (iK.1 b).1 c];exact b
def KQ(L:zA->Nat)(n:Nat)(x:PL):Nat:=if x.sort=0 then max n (L x.an)else if x.sort=1 then max n (L x.an+1)else n
def GT(L:zA->Nat)(n:Nat)(ls:mc PL):Nat:=ls.foldl (KQ L) n
def Pj(L:zA->Nat):∀(a:mc Bi) (n:Nat),GT L n (a.map KF)=a.foldl (FD L) n
 |[],n=>rfl
 |x::a,n=>by
  have e:KQ L n (KF x)=FD L n x:=by
   unfold KQ FD;have d:=Ri x.kind;have c:=Z8 x.kind;have f:(KF x).sort=Fs x.kind:=rfl;have b:(KF x).an=x.A.name:=rfl;rw[f,b,<-d,<-c];simp only[jA]
  unfold GT;rw[ii,iA,iA,e];exact Pj L a _
def PI(a b:Nat):max (a:Int) (b:Int)=((max a b:Nat):Int):=by omega
set_option maxRecDepth 100000
theorem OU(u n:Nat)(L:zA->Nat)(P:Option Addr)(M:Nat)(ls:mc Ks)(w:World)(I:D7 w u n L)(hB:BP w 0 (.slice P (Z ls) M) ls)(FB:Z ls<=1000)(S:∀x,L x<=100000)(W:∀p∈ls,p.1.an.size<=1000000):
  Calls prog 195 #[.map (some u),.slice P (Z ls) M] w λr w'=>r=.returned (.int .i64 (GT L 0 (ls.map lW):Nat))/\Ac [] w w':=by
 have EK:=Ab hB;have CC:=Ab I;have B9:=Ab S;have EY:=Ab W;obtain⟨R,G⟩:∃R,GT L 0 (ls.map lW)=R:=⟨_,rfl⟩;have l:Hid (GT L 0 ((ls.drop 0).map lW)=R):=G;rw[G];clear hB I S W G;go_enter func195,ntmps195;go_wp2_with fail
 go_loopg [5,10] (Z ls) (λgk o i wr=>∃(k m:Nat),o=.int .i64 m/\i=.int .i64 k/\k<=Z ls/\gk=Z ls-k/\m<=200000/\Hid (GT L m ((ls.drop k).map lW)=R)/\Hid (Ac [] w wr))
 case atStart=>exact⟨0,0,rfl,rfl,by omega,rfl,by omega,l,me _ _⟩
 case round=>
  clear l;obtain⟨k,m,rfl,rfl,hk,Q,hm,l,y⟩:=hrel;have B:=Ab Q;clear Q;by_cases A:k<Z ls
  .obtain⟨g,FL,x,Ax,T,he,F,_,d0,d1,d2,d3,d4,d5,d6,d7,d8⟩:=TI (EK.kept y (by simp)) k A;simp only[gM]at he;obtain⟨rfl,_,rfl⟩:=he;(have AO:(x,Value.slice Ax (Z x.ts) T)∈ls:=by rw[<-F];exact gL A);have C:=Xw (EY _ AO);have BS:=Aa B9 x.an;have v:Hid (GT L (KQ L m x) ((ls.drop (k+1)).map lW)=R):=by
    have h:=Aa l;rw[ij A,ii,F]at h;exact h
   have s:=Ab (y.alloc (.cells (Aw (x,.slice Ax (Z x.ts) T)).toArray 217));obtain⟨D,z,_,N⟩:=(CC.zV s (by simp)).at_;have t:=Ab (N x.an);have b:Hid (KQ L m x=if x.sort=0 then max m (L x.an)else if x.sort=1 then max m (L x.an+1)else m):=rfl;clear N F AO l y;generalize KQ L m x=LM at b v;obtain⟨e,H⟩:∃e,L x.an=e:=⟨_,rfl⟩;rw[H]at BS t b;clear H;obtain⟨pl,f,ap,an,ts,⟨lv,HD⟩,⟨rv,FT⟩⟩:=x;simp only[Aw]at s z C b t d0 d1 d2 d3 d4 d5 d6 d7 d8;by_cases d:f=0
   ·(have EM:(f==0)=true:=by simp[d]);(have a:Hid (LM=max m e):=by show _=_;rw[Aa b,gY d]);clear d b;go_wp2_with (at_lookup;refine wpList_lookup_own_int _ rfl _ _ 269 rfl 9 3 .i64 (Maps.string_keyed underlying9) underlying269 underlying3 (zeroValue3 _) u n D rfl z _ _ rfl C ?_;intro c q E;obtain rfl:c=(e:Int):=(by have h:=q.symm.trans t;simpa using h);clear q E)
    go_roundg (Z ls-(k+1))
    case measure=>have:=Aa B;omega
    case rel=>exact⟨k+1,LM,by first|(rw[Aa a,<-PI];done)|(rw[Aa a,<-PI];rfl),by go_num,by omega,rfl,by rw[Aa a];omega,v,s⟩
   ·(have EM:(f==0)=false:=by simp[d]);by_cases j:f=1
    ·(have A1:(f==1)=true:=by simp[j]);(have a:Hid (LM=max m (e+1)):=by show _=_;rw[Aa b,gV d,gY j]);(have FC:IntKind.i64.wrap ((e:Int)+1)=(e:Int)+1:=by rw[j7];omega);clear d j b;go_wp2_with (at_lookup;refine wpList_lookup_own_int _ rfl _ _ 269 rfl 9 3 .i64 (Maps.string_keyed underlying9) underlying269 underlying3 (zeroValue3 _) u n D rfl z _ _ rfl C ?_;intro c q E;obtain rfl:c=(e:Int):=(by have h:=q.symm.trans t;simpa using h);clear q E)
     go_roundg (Z ls-(k+1))
     case measure=>have:=Aa B;omega
     case rel=>exact⟨k+1,LM,by first|(rw[Aa a,<-PI];done)|(rw[Aa a,<-PI];rfl),by go_num,by omega,rfl,by rw[Aa a];omega,v,s⟩
    ·(have A1:(f==1)=false:=by simp[j]);(have a:Hid (LM=m):=by show _=_;rw[Aa b,gV d,gV j]);clear d j b;go_wp2
     go_roundg (Z ls-(k+1))
     case measure=>have:=Aa B;omega
     case rel=>exact⟨k+1,LM,by rw[Aa a],by go_num,by omega,rfl,by rw[Aa a];omega,v,s⟩
  .have a:Hid (m=R):=by
    have h:=Aa l;rw[iC (by omega)]at h;exact h
   go_wp2;go_ret;rw[Aa a];exact⟨rfl,y⟩
