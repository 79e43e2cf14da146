import Derived.Maps.OwnOps
import Derived.Maps.Views
import Derived.Carry
import Derived.Test.YtoihbhenbmffcaaGreatDoorYBB
set_option linter.all false
set_option maxHeartbeats 0
namespace Go.Proofs.YtoihbhenbmffcaaGreatDoor
open Go.RowKit Go.Proofs.Tryz
def QI(x:cR):Lit:=.string x.data.toList
theorem Yo{x y:cR}(h:QI x=QI y):x=y:=by
 unfold QI at h;simp only[Lit.string.injEq]at h;obtain⟨⟨a⟩⟩:=x;obtain⟨⟨b⟩⟩:=y;simp at h;rw[h]
theorem Vp{x:cR}(h:x.size<=1000000):keyOf prog 9 (.string x)=some (QI x):=by
 rw[keyOf_string underlying9];have a:x.size<=maxLen:=by unfold maxLen;omega
 simp[mapKey,underlying9,QI,a]
structure DK(w:World)(mb n:Nat)(L:cR->Nat):Prop where
 at_:∃D:DataW Unit,w.ownsMap prog 9 (plainElem prog 3) mb n D/\Maps.IsMap D/\∀x,D.atKey (QI x) (.lit (.int .i64 0))=.lit (.int .i64 (L x))
theorem DK.gI{M:List Nat}{w w':World}{a n:Nat}{L:cR->Nat}(h:DK w a n L)(k:Ac M w w')(c:a∉M):DK w' a n L:=by
 obtain⟨D,⟨g,l,b,e,j,f⟩,i,d⟩:=h.at_;refine⟨D,⟨g,l,?_,e,j,f⟩,i,d⟩;rw[k.block a (cS.1 b).1 c];exact b
def J2(L:cR->Nat)(n:Nat)(x:PL):Nat:=if x.sort=0 then max n (L x.an)else if x.sort=1 then max n (L x.an+1)else n
def Gv(L:cR->Nat)(n:Nat)(ls:List PL):Nat:=ls.foldl (J2 L) n
theorem N6(L:cR->Nat):∀(a:List Bg) (n:Nat),Gv L n (a.map Kj)=a.foldl (Fl L) n
 |[],n=>rfl
 |x::a,n=>by
  have e:J2 L n (Kj x)=Fl L n x:=by
   unfold J2 Fl;have d:=RW x.kind;have c:=XT x.kind;have f:(Kj x).sort=Fx x.kind:=rfl;have b:(Kj x).an=x.A.name:=rfl;rw[f,b,<-d,<-c];simp only[dE]
  unfold Gv;rw[cu,cC,cC,e];exact N6 L a _
theorem On(a b:Nat):max (a:Int) (b:Int)=((max a b:Nat):Int):=by omega
set_option maxRecDepth 100000
theorem NC(u n:Nat)(L:cR->Nat)(M:Option Addr)(J:Nat)(ls:List JF)(w:World)(I:DK w u n L)(V:BI w 0 (.slice M ls.length J) ls)(EX:ls.length<=1000)(O:∀x,L x<=100000)(Q:∀p∈ls,p.1.an.size<=1000000):
  Calls prog 195 #[.map (some u),.slice M ls.length J] w λr Z=>r=.returned (.int .i64 (Gv L 0 (ls.map Prod.fst):Nat))/\Ac [] w Z:=by
 have B9:=Ab V;have Bx:=Ab I;have AT:=Ab O;have EK:=Ab Q;obtain⟨R,G⟩:∃R,Gv L 0 (ls.map Prod.fst)=R:=⟨_,rfl⟩;have l:Hid (Gv L 0 ((ls.drop 0).map Prod.fst)=R):=G;rw[G];clear V I O Q G;go_enter func195,ntmps195;go_wp2_with fail
 go_loopg [5,10] ls.length (λgk o i wr=>∃(k m:Nat),o=.int .i64 m/\i=.int .i64 k/\k<=ls.length/\gk=ls.length-k/\m<=200000/\Hid (Gv L m ((ls.drop k).map Prod.fst)=R)/\Hid (Ac [] w wr))
 case atStart=>exact⟨0,0,rfl,rfl,by omega,rfl,by omega,l,Ac.refl _ _⟩
 case round=>
  clear l;obtain⟨k,m,rfl,rfl,hk,N,hm,l,y⟩:=hrel;have B:=Ab N;clear N;by_cases A:k<ls.length
  .obtain⟨g,FC,x,S,P,U,F,_,d0,d1,X,Y,d4,d5,d6,d7,d8⟩:=RQ ((Aa B9).kept (Aa y) (by simp)) k A;simp only[bK]at U;obtain⟨rfl,_,rfl⟩:=U;(have T:(x,Value.slice S x.ts.length P)∈ls:=by rw[<-F];exact bL A);have C:=Vp (Aa EK _ T);have Ax:=Aa AT x.an;have v:Hid (Gv L (J2 L m x) ((ls.drop (k+1)).map Prod.fst)=R):=by
    have h:=Aa l;rw[ci A,cu,F]at h;exact h
   have s:=Ab ((Aa y).alloc (.cells (Aq (x,.slice S x.ts.length P)).toArray 217));obtain⟨D,z,_,K⟩:=((Aa Bx).gI (Aa s) (by simp)).at_;have t:=Ab (K x.an);have b:Hid (J2 L m x=if x.sort=0 then max m (L x.an)else if x.sort=1 then max m (L x.an+1)else m):=rfl;clear K F T l y;generalize J2 L m x=LM at b v;obtain⟨e,H⟩:∃e,L x.an=e:=⟨_,rfl⟩;rw[H]at Ax t b;clear H;obtain⟨pl,f,ap,an,ts,⟨lv,HB⟩,⟨rv,FO⟩⟩:=x;simp only[Aq]at s z C b t d0 d1 X Y d4 d5 d6 d7 d8;by_cases d:f=0
   ·(have CC:(f==0)=true:=by simp[d]);(have a:Hid (LM=max m e):=by show _=_;rw[Aa b,if_pos d]);clear d b;go_wp2_with (at_lookup;refine wpList_lookup_own_int _ rfl _ _ 269 rfl 9 3 .i64 (Maps.string_keyed underlying9) underlying269 underlying3 (zeroValue3 _) u n D rfl z _ _ rfl C ?_;intro c q E;obtain rfl:c=(e:Int):=(by have h:=q.symm.trans (Aa t);simpa using h);clear q E)
    go_roundg (ls.length-(k+1))
    case measure=>have:=Aa B;omega
    case rel=>exact⟨k+1,LM,by first|(rw[Aa a,<-On];done)|(rw[Aa a,<-On];rfl),by go_num,by omega,rfl,by rw[Aa a];omega,v,s⟩
   ·(have CC:(f==0)=false:=by simp[d]);by_cases j:f=1
    ·(have W:(f==1)=true:=by simp[j]);(have a:Hid (LM=max m (e+1)):=by show _=_;rw[Aa b,if_neg d,if_pos j]);(have EY:IntKind.i64.wrap ((e:Int)+1)=(e:Int)+1:=by rw[eM];omega);clear d j b;go_wp2_with (at_lookup;refine wpList_lookup_own_int _ rfl _ _ 269 rfl 9 3 .i64 (Maps.string_keyed underlying9) underlying269 underlying3 (zeroValue3 _) u n D rfl z _ _ rfl C ?_;intro c q E;obtain rfl:c=(e:Int):=(by have h:=q.symm.trans (Aa t);simpa using h);clear q E)
     go_roundg (ls.length-(k+1))
     case measure=>have:=Aa B;omega
     case rel=>exact⟨k+1,LM,by first|(rw[Aa a,<-On];done)|(rw[Aa a,<-On];rfl),by go_num,by omega,rfl,by rw[Aa a];omega,v,s⟩
    ·(have W:(f==1)=false:=by simp[j]);(have a:Hid (LM=m):=by show _=_;rw[Aa b,if_neg d,if_neg j]);clear d j b;go_wp2
     go_roundg (ls.length-(k+1))
     case measure=>have:=Aa B;omega
     case rel=>exact⟨k+1,LM,by rw[Aa a],by go_num,by omega,rfl,by rw[Aa a];omega,v,s⟩
  .have a:Hid (m=R):=by
    have h:=Aa l;rw[cG (by omega)]at h;exact h
   go_wp2;go_ret;rw[Aa a];exact⟨rfl,Aa y⟩
