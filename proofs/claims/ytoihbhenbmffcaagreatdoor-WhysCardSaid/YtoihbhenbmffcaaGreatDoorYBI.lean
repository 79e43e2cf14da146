import Derived.Maps.OwnOps
import Derived.Maps.Views
import Derived.Carry
import Derived.Test.YtoihbhenbmffcaaGreatDoorYBE
set_option linter.all false
set_option maxHeartbeats 0
open List renaming length->Z
open Prod renaming fst->jM
namespace Go.Proofs.YtoihbhenbmffcaaGreatDoor
open Go.RowKit Go.Proofs.Tryz
def Rv(x:g0):Lit:=.string x.data.toList
def ZF{x y:g0}(h:Rv x=Rv y):x=y:=by
 unfold Rv at h;simp only[Lit.string.injEq]at h;obtain⟨⟨a⟩⟩:=x;obtain⟨⟨b⟩⟩:=y;simp at h;rw[h]
def Wo{x:g0}(h:x.size<=1000000):keyOf prog 9 (.string x)=some (Rv x):=by
 rw[keyOf_string underlying9];have a:x.size<=maxLen:=by unfold maxLen;omega
 simp[mapKey,underlying9,Rv,a]
structure D0(w:World)(mb n:Nat)(L:g0->Nat):Prop where
 at_:∃D:DataW Unit,w.ownsMap prog 9 (plainElem prog 3) mb n D/\Maps.IsMap D/\∀x,D.atKey (Rv x) (.lit (.int .i64 0))=.lit (.int .i64 (L x))
def D0.zU{M:List Nat}{w w':World}{a n:Nat}{L:g0->Nat}(h:D0 w a n L)(k:Ac M w w')(c:a∉M):D0 w' a n L:=by
 obtain⟨D,⟨g,l,b,e,j,f⟩,i,d⟩:=h.at_;refine⟨D,⟨g,l,?_,e,j,f⟩,i,d⟩;rw[k.block a (fx.1 b).1 c];exact b
def Kz(L:g0->Nat)(n:Nat)(x:PL):Nat:=if x.sort=0 then max n (L x.an)else if x.sort=1 then max n (L x.an+1)else n
def GH(L:g0->Nat)(n:Nat)(ls:List PL):Nat:=ls.foldl (Kz L) n
def OM(L:g0->Nat):∀(a:List BF) (n:Nat),GH L n (a.map LP)=a.foldl (Fr L) n
 |[],n=>rfl
 |x::a,n=>by
  have e:Kz L n (LP x)=Fr L n x:=by
   unfold Kz Fr;have d:=Qv x.kind;have c:=Y7 x.kind;have f:(LP x).sort=Fj x.kind:=rfl;have b:(LP x).an=x.A.name:=rfl;rw[f,b,<-d,<-c];simp only[gF]
  unfold GH;rw[eR,fd,fd,e];exact OM L a _
def O8(a b:Nat):max (a:Int) (b:Int)=((max a b:Nat):Int):=by omega
set_option maxRecDepth 100000
theorem Oq(u n:Nat)(L:g0->Nat)(P:Option Addr)(M:Nat)(ls:List Oi)(w:World)(I:D0 w u n L)(hB:CE w 0 (.slice P (Z ls) M) ls)(E0:Z ls<=1000)(S:∀x,L x<=100000)(W:∀p∈ls,p.1.an.size<=1000000):
  Calls prog 195 #[.map (some u),.slice P (Z ls) M] w λr w'=>r=.returned (.int .i64 (GH L 0 (ls.map jM):Nat))/\Ac [] w w':=by
 have DT:=Ab hB;have B9:=Ab I;have B2:=Ab S;have EX:=Ab W;obtain⟨R,G⟩:∃R,GH L 0 (ls.map jM)=R:=⟨_,rfl⟩;have l:Hid (GH L 0 ((ls.drop 0).map jM)=R):=G;rw[G];clear hB I S W G;go_enter func195,ntmps195;go_wp2_with fail
 go_loopg [5,10] (Z ls) (λgk o i wr=>∃(k m:Nat),o=.int .i64 m/\i=.int .i64 k/\k<=Z ls/\gk=Z ls-k/\m<=200000/\Hid (GH L m ((ls.drop k).map jM)=R)/\Hid (Ac [] w wr))
 case atStart=>exact⟨0,0,rfl,rfl,by omega,rfl,by omega,l,Ac.refl _ _⟩
 case round=>
  clear l;obtain⟨k,m,rfl,rfl,hk,Q,hm,l,y⟩:=hrel;have B:=Ab Q;clear Q;by_cases A:k<Z ls
  .obtain⟨g,FC,x,Ax,T,he,F,_,d0,d1,d2,d3,d4,d5,d6,d7,d8⟩:=SI (DT.kept y (by simp)) k A;simp only[ei]at he;obtain⟨rfl,_,rfl⟩:=he;(have AB:(x,Value.slice Ax (Z x.ts) T)∈ls:=by rw[<-F];exact eo A);have C:=Wo (EX _ AB);have BA:=Aa B2 x.an;have v:Hid (GH L (Kz L m x) ((ls.drop (k+1)).map jM)=R):=by
    have h:=Aa l;rw[eQ A,eR,F]at h;exact h
   have s:=Ab (y.alloc (.cells (Aw (x,.slice Ax (Z x.ts) T)).toArray 217));obtain⟨D,z,_,N⟩:=(B9.zU s (by simp)).at_;have t:=Ab (N x.an);have b:Hid (Kz L m x=if x.sort=0 then max m (L x.an)else if x.sort=1 then max m (L x.an+1)else m):=rfl;clear N F AB l y;generalize Kz L m x=LM at b v;obtain⟨e,H⟩:∃e,L x.an=e:=⟨_,rfl⟩;rw[H]at BA t b;clear H;obtain⟨pl,f,ap,an,ts,⟨lv,HA⟩,⟨rv,FO⟩⟩:=x;simp only[Aw]at s z C b t d0 d1 d2 d3 d4 d5 d6 d7 d8;by_cases d:f=0
   ·(have EK:(f==0)=true:=by simp[d]);(have a:Hid (LM=max m e):=by show _=_;rw[Aa b,eI d]);clear d b;go_wp2_with (at_lookup;refine wpList_lookup_own_int _ rfl _ _ 269 rfl 9 3 .i64 (Maps.string_keyed underlying9) underlying269 underlying3 (zeroValue3 _) u n D rfl z _ _ rfl C ?_;intro c q E;obtain rfl:c=(e:Int):=(by have h:=q.symm.trans t;simpa using h);clear q E)
    go_roundg (Z ls-(k+1))
    case measure=>have:=Aa B;omega
    case rel=>exact⟨k+1,LM,by first|(rw[Aa a,<-O8];done)|(rw[Aa a,<-O8];rfl),by go_num,by omega,rfl,by rw[Aa a];omega,v,s⟩
   ·(have EK:(f==0)=false:=by simp[d]);by_cases j:f=1
    ·(have A0:(f==1)=true:=by simp[j]);(have a:Hid (LM=max m (e+1)):=by show _=_;rw[Aa b,eE d,eI j]);(have FA:IntKind.i64.wrap ((e:Int)+1)=(e:Int)+1:=by rw[ik];omega);clear d j b;go_wp2_with (at_lookup;refine wpList_lookup_own_int _ rfl _ _ 269 rfl 9 3 .i64 (Maps.string_keyed underlying9) underlying269 underlying3 (zeroValue3 _) u n D rfl z _ _ rfl C ?_;intro c q E;obtain rfl:c=(e:Int):=(by have h:=q.symm.trans t;simpa using h);clear q E)
     go_roundg (Z ls-(k+1))
     case measure=>have:=Aa B;omega
     case rel=>exact⟨k+1,LM,by first|(rw[Aa a,<-O8];done)|(rw[Aa a,<-O8];rfl),by go_num,by omega,rfl,by rw[Aa a];omega,v,s⟩
    ·(have A0:(f==1)=false:=by simp[j]);(have a:Hid (LM=m):=by show _=_;rw[Aa b,eE d,eE j]);clear d j b;go_wp2
     go_roundg (Z ls-(k+1))
     case measure=>have:=Aa B;omega
     case rel=>exact⟨k+1,LM,by rw[Aa a],by go_num,by omega,rfl,by rw[Aa a];omega,v,s⟩
  .have a:Hid (m=R):=by
    have h:=Aa l;rw[fq (by omega)]at h;exact h
   go_wp2;go_ret;rw[Aa a];exact⟨rfl,y⟩
