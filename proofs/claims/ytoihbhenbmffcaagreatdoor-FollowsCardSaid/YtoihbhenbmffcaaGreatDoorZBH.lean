import Derived.Maps.OwnOps
import Derived.Maps.Views
import Derived.Carry
import Derived.Test.YtoihbhenbmffcaaGreatDoorZBD
set_option linter.unusedVariables false
set_option linter.unusedSimpArgs false
set_option maxHeartbeats 6400000
namespace Go.Proofs.YtoihbhenbmffcaaGreatDoor
open Go.RowKit
open Go.Proofs.Tryz
def PN(x:cL):Lit:= .string x.data.toList
theorem Xv{x y:cL}(h:PN x=PN y):x=y:=by
 unfold PN at h;simp only[Lit.string.injEq]at h;obtain⟨⟨a⟩⟩:=x;obtain⟨⟨b⟩⟩:=y;simp at h;rw[h]
theorem Us{x:cL}(h:x.size<=1000000):keyOf prog 9 (.string x)=some (PN x):=by
 rw[keyOf_string underlying9];have a:x.size<=maxLen:=by unfold maxLen;omega
 simp[mapKey,underlying9,PN,a]
structure Dy(w:World)(mb n:Nat)(L:cL->Nat):Prop where
 at_:∃D:DataW Unit,w.ownsMap prog 9 (plainElem prog 3) mb n D/\Maps.IsMap D/\∀x,D.atKey (PN x) (.lit (.int .i64 0))= .lit (.int .i64 (L x))
theorem Dy.keptOf{M:List Nat}{w w':World}{a n:Nat}{L:cL->Nat}(h:Dy w a n L)(k:Ac M w w')(c:a∉M):Dy w' a n L:=by
 obtain⟨D,⟨g,l,b,e,j,f⟩,i,d⟩:=h.at_;refine⟨D,⟨g,l,?_,e,j,f⟩,i,d⟩;rw[k.block a (bg.1 b).1 c];exact b
def Jv(L:cL->Nat)(n:Nat)(x:PL):Nat:=if x.sort=0 then max n (L x.an)else if x.sort=1 then max n (L x.an+1)else n
def Gd(L:cL->Nat)(n:Nat)(ls:List PL):Nat:=ls.foldl (Jv L) n
theorem Nh(L:cL->Nat):∀(a:List By) (n:Nat),Gd L n (a.map Lg)=a.foldl (E0 L) n
 |[],n=>rfl
 |x::a,n=>by
  have e:Jv L n (Lg x)=E0 L n x:=by
   unfold Jv E0;have d:=QW x.kind;have c:=WS x.kind;have f:(Lg x).sort=Fd x.kind:=rfl;have b:(Lg x).an=x.A.name:=rfl;rw[f,b,<-d,<-c];simp only[b8]
  unfold Gd;rw[aI,aR,aR,e];exact Nh L a _
theorem NA(a b:Nat):max (a:Int) (b:Int)=((max a b:Nat):Int):=by omega
set_option maxRecDepth 100000
theorem MQ(u n:Nat)(L:cL->Nat)(M:Option Addr)(J:Nat)(ls:List MH)(w:World)(I:Dy w u n L)(V:Cd w 0 (.slice M ls.length J) ls)(FA:ls.length<=1000)(O:∀x,L x<=100000)(Q:∀p∈ls,p.1.an.size<=1000000):
  Calls prog 195 #[.map (some u), .slice M ls.length J] w λr Z=>r= .returned (.int .i64 (Gd L 0 (ls.map Prod.fst):Nat))/\Ac [] w Z:=by
 have CC:=Ab V;have BA:=Ab I;have Bx:=Ab O;have EX:=Ab Q;obtain⟨R,G⟩:∃R,Gd L 0 (ls.map Prod.fst)=R:=⟨_,rfl⟩;have l:Hid (Gd L 0 ((ls.drop 0).map Prod.fst)=R):=G;rw[G];clear V I O Q G;go_enter func195,ntmps195;go_wp2_with fail
 go_loopg [5,10] ls.length (λgk o i wr=>∃(k m:Nat),o= .int .i64 m/\i= .int .i64 k/\k<=ls.length/\gk=ls.length-k/\m<=200000/\Hid (Gd L m ((ls.drop k).map Prod.fst)=R)/\Hid (Ac [] w wr))
 case atStart=>exact⟨0,0,rfl,rfl,by omega,rfl,by omega,l,Ac.refl _ _⟩
 case round=>
  clear l;obtain⟨k,m,rfl,rfl,hk,N,hm,l,y⟩:=hrel;have B:=Ab N;clear N;by_cases A:k<ls.length
  ·obtain⟨g,FL,x,S,P,U,F,_,d0,d1,X,Y,d4,d5,d6,d7,d8⟩:=QO ((Aa CC).kept (Aa y) (by simp)) k A;simp only[Z6]at U;obtain⟨rfl,_,rfl⟩:=U;(have T:(x,Value.slice S x.ts.length P)∈ls:=by rw[<-F];exact Z7 A);have C:=Us (Aa EX _ T);have Ax:=Aa Bx x.an;have v:Hid (Gd L (Jv L m x) ((ls.drop (k+1)).map Prod.fst)=R):=by
    have h:=Aa l;rw[aC A,aI,F]at h;exact h
   have s:=Ab ((Aa y).alloc (.cells (Ap (x, .slice S x.ts.length P)).toArray 217));obtain⟨D,z,_,K⟩:=((Aa BA).keptOf (Aa s) (by simp)).at_;have t:=Ab (K x.an);have b:Hid (Jv L m x=if x.sort=0 then max m (L x.an)else if x.sort=1 then max m (L x.an+1)else m):=rfl;clear K F T l y;generalize Jv L m x=LM at b v;obtain⟨e,H⟩:∃e,L x.an=e:=⟨_,rfl⟩;rw[H]at Ax t b;clear H;obtain⟨pl,f,ap,an,ts,⟨lv,HC⟩,⟨rv,FT⟩⟩:=x;simp only[Ap]at s z C b t d0 d1 X Y d4 d5 d6 d7 d8;by_cases d:f=0
   ·(have CL:(f==0)=true:=by simp[d]);(have a:Hid (LM=max m e):=by show _=_;rw[Aa b,if_pos d]);clear d b;go_wp2_with (at_lookup;refine wpList_lookup_own_int _ rfl _ _ 269 rfl 9 3 .i64 (Maps.string_keyed underlying9) underlying269 underlying3 (zeroValue3 _) u n D rfl z _ _ rfl C ?_;intro c q E;obtain rfl:c=(e:Int):=(by have h:=q.symm.trans (Aa t);simpa using h);clear q E)
    go_roundg (ls.length-(k+1))
    case measure=>have:=Aa B;omega
    case rel=>exact⟨k+1,LM,by first|(rw[Aa a,<-NA];done)|(rw[Aa a,<-NA];rfl),by go_num,by omega,rfl,by rw[Aa a];omega,v,s⟩
   ·(have CL:(f==0)=false:=by simp[d]);by_cases j:f=1
    ·(have W:(f==1)=true:=by simp[j]);(have a:Hid (LM=max m (e+1)):=by show _=_;rw[Aa b,if_neg d,if_pos j]);(have FC:IntKind.i64.wrap ((e:Int)+1)=(e:Int)+1:=by rw[cd];omega);clear d j b;go_wp2_with (at_lookup;refine wpList_lookup_own_int _ rfl _ _ 269 rfl 9 3 .i64 (Maps.string_keyed underlying9) underlying269 underlying3 (zeroValue3 _) u n D rfl z _ _ rfl C ?_;intro c q E;obtain rfl:c=(e:Int):=(by have h:=q.symm.trans (Aa t);simpa using h);clear q E)
     go_roundg (ls.length-(k+1))
     case measure=>have:=Aa B;omega
     case rel=>exact⟨k+1,LM,by first|(rw[Aa a,<-NA];done)|(rw[Aa a,<-NA];rfl),by go_num,by omega,rfl,by rw[Aa a];omega,v,s⟩
    ·(have W:(f==1)=false:=by simp[j]);(have a:Hid (LM=m):=by show _=_;rw[Aa b,if_neg d,if_neg j]);clear d j b;go_wp2
     go_roundg (ls.length-(k+1))
     case measure=>have:=Aa B;omega
     case rel=>exact⟨k+1,LM,by rw[Aa a],by go_num,by omega,rfl,by rw[Aa a];omega,v,s⟩
  ·have a:Hid (m=R):=by
    have h:=Aa l;rw[aQ (by omega)]at h;exact h
   go_wp2;go_ret;rw[Aa a];exact⟨rfl,Aa y⟩
