import Derived.Laws.Cover1
import Derived.Test.YtoihbhenbmffcaaGreatDoorYAA
set_option linter.all false
set_option maxHeartbeats 0
open List renaming length->Z
open Go.Value renaming slice->U,int->X,string->O
open Bool renaming false->K
open Go.Ending renaming returned->lo
open Go renaming World->l9
open Go.Op renaming bytesLess->lZ
namespace Go.Proofs.YtoihbhenbmffcaaGreatDoor
open Go.RowKit Go.Proofs.Tryz
def DU(a b:zA):Int:=if lZ a.toList b.toList then -1 else if lZ b.toList a.toList then 1 else 0
theorem Vj(a:zA)(w:l9):Calls prog 186 #[O a] w λe b=>e=lo (.bool K)/\b=w:=by
 have h:(a.toList==a.toList)=true:=by simp
 have c:(a.toList !=a.toList)=K:=by simp[bne]
 go_enter func186,ntmps186;go_wp2;all_goals go_ret
 all_goals first|exact⟨rfl,rfl⟩|exact⟨by simp,rfl⟩
theorem UY(a:zA)(w:l9):Calls prog 215 #[O a] w λe b=>e=lo (.bool K)/\b=w:=by
 have h:(a.toList==a.toList)=true:=by simp
 have c:(a.toList !=a.toList)=K:=by simp[bne]
 go_enter func215,ntmps215;go_wp2;all_goals go_ret
 all_goals first|exact⟨rfl,rfl⟩|exact⟨by simp,rfl⟩
theorem bU(a b:zA)(w:l9):Calls prog 150 #[O a,O b] w λe i=>e=lo (X .i64 (DU a b))/\i=w:=by
 have h:=Ab (Vj a w);have g:=Ab (Vj b w);have f:Hid (DU a b=if lZ a.toList b.toList then -1 else if lZ b.toList a.toList then 1 else 0):=rfl;generalize DU a b=C at f⊢;go_enter func150,ntmps150;go_wp2_with fail
 refine h.mono ?_;rintro e k ⟨rfl,rfl⟩;go_wp2_with fail
 refine g.mono ?_;rintro e j ⟨rfl,rfl⟩;clear h g;cases h1:lZ a.toList b.toList with
 |true=>
  have d:Hid (C= -1):=by show _=_;rw[Aa f,h1];rfl
  go_wp2;go_ret;rw[Aa d];exact⟨rfl,rfl⟩
 |false=>
  cases h2:(a.toList==b.toList)with
  |false=>
   have c:lZ b.toList a.toList=true:=QU _ _ h1 h2;(have d:Hid (C=1):=by show _=_;rw[Aa f,h1,c];rfl);clear c;go_wp2;go_ret;rw[Aa d];exact⟨rfl,rfl⟩
  |true=>
   have c:lZ b.toList a.toList=K:=by rw[show a.toList=b.toList from by simpa using h2];exact Ou _
   (have d:Hid (C=0):=by show _=_;rw[Aa f,h1,c];rfl);clear c;go_wp2;go_ret;rw[Aa d];exact⟨rfl,rfl⟩
theorem bF(a b:zA)(w:l9):Calls prog 187 #[O a,O b] w λe i=>e=lo (X .i64 (DU a b))/\i=w:=by
 have h:=Ab (UY a w);have g:=Ab (UY b w);have f:Hid (DU a b=if lZ a.toList b.toList then -1 else if lZ b.toList a.toList then 1 else 0):=rfl;generalize DU a b=C at f⊢;go_enter func187,ntmps187;go_wp2_with fail
 refine h.mono ?_;rintro e k ⟨rfl,rfl⟩;go_wp2_with fail
 refine g.mono ?_;rintro e j ⟨rfl,rfl⟩;clear h g;cases h1:lZ a.toList b.toList with
 |true=>
  have d:Hid (C= -1):=by show _=_;rw[Aa f,h1];rfl
  go_wp2;go_ret;rw[Aa d];exact⟨rfl,rfl⟩
 |false=>
  cases h2:(a.toList==b.toList)with
  |false=>
   have c:lZ b.toList a.toList=true:=QU _ _ h1 h2;(have d:Hid (C=1):=by show _=_;rw[Aa f,h1,c];rfl);clear c;go_wp2;go_ret;rw[Aa d];exact⟨rfl,rfl⟩
  |true=>
   have c:lZ b.toList a.toList=K:=by rw[show a.toList=b.toList from by simpa using h2];exact Ou _
   (have d:Hid (C=0):=by show _=_;rw[Aa f,h1,c];rfl);clear c;go_wp2;go_ret;rw[Aa d];exact⟨rfl,rfl⟩
def Es:mc zA->mc zA->Int
 |[],[]=>0
 |[],_::_=> -1
 |_::_,[]=>1
 |x::l,y::m=>if DU x y=0 then Es l m else DU x y
def YB{l m:mc zA}{k:Nat}(a:k<Z l)(b:k<Z m):Es (l.drop k) (m.drop k)=if DU l[k] m[k]=0 then Es (l.drop (k+1)) (m.drop (k+1))else DU l[k] m[k]:=by
 rw[ij a,ij b,Es]
def LJ{w:l9}{base:Nat}{v:Value}{l:mc zA}(h:w.ownsRow base 170 1 v (Z l) (l.flatMap Ah))(k:Nat)(d:k<Z l):∃g a,v=U (some ⟨g,0,none⟩) (Z l) a/\w.cell? ⟨g,k,none⟩=some (O l[k]):=by
 obtain⟨g,a,e,_,f⟩:=AF h (λc _=>rfl) k d;have b:=f k d 0 (by omega);simp[Ah]at b;exact⟨g,a,e,b⟩
set_option maxRecDepth 100000
theorem SY(x:Option Addr)(p:Nat)(l:mc zA)(n:Option Addr)(s:Nat)(m:mc zA)(w:l9)(q:w.ownsRow 0 170 1 (U x (Z l) p) (Z l) (l.flatMap Ah))(j:w.ownsRow 0 170 1 (U n (Z m) s) (Z m) (m.flatMap Ah))(W:Z l<=1000000)(hm:Z m<=1000000):
  Calls prog 151 #[U x (Z l) p,U n (Z m) s] w λe A=>e=lo (X .i64 (Es l m))/\A=w:=by
 have F:=Ab q;have E:=Ab j;obtain⟨R,g⟩:∃R,Es l m=R:=⟨_,rfl⟩;rw[g];have t:Hid (Es (l.drop 0) (m.drop 0)=R):=g;clear q j g;go_enter func151,ntmps151;go_wp2
 go_loopg [11] (Z l) (λgk i wr=>∃(k:Nat),i=X .i64 k/\k<=Z l/\k<=Z m/\gk=Z l-k/\Hid (Es (l.drop k) (m.drop k)=R)/\w=wr)
 case atStart=>exact⟨0,rfl,by omega,by omega,rfl,t,rfl⟩
 case round=>
  clear t;obtain⟨k,rfl,M,I,r,b,rfl⟩:=hrel;have D:=Ab r;clear r;by_cases d:k<Z l
  .obtain⟨T,Q,v,P⟩:=LJ F k d;simp only[gM]at v;obtain⟨rfl,_,rfl⟩:=v;by_cases f:k<Z m
   .obtain⟨N,S,u,H⟩:=LJ E k f;simp only[gM]at u;obtain⟨rfl,_,rfl⟩:=u;(have y:¬(Z m:Int)<=(k:Int):=by omega);have o:=Ab (bF l[k] m[k] w);have EU:=Ab (YB d f);generalize DU l[k] m[k]=C at o EU;(go_wp2_with fail);refine o.mono ?_;rintro e L ⟨rfl,B⟩;subst B;by_cases c:C=0
    ·(have z:(C !=0)=K:=by simp[c]);have a:Hid (Es (l.drop (k+1)) (m.drop (k+1))=R):=by
      have h:=Aa b;rw[Aa EU,gY c]at h;exact h
     clear b EU;go_wp2
     go_roundg (Z l-(k+1))
     case measure=>have:=Aa D;omega
     case rel=>exact⟨k+1,by go_num,by omega,by omega,rfl,a,rfl⟩
    ·(have z:(C !=0)=true:=by simp[c]);have a:Hid (C=R):=by
      have h:=Aa b;rw[Aa EU,gV c]at h;exact h
     clear b EU;go_wp2;go_ret;rw[<-Aa a];exact⟨rfl,rfl⟩
   ·(have y:(Z m:Int)<=(k:Int):=by omega);have a:Hid (R=1):=by
     have h:=Aa b;rw[ij d,iC (show Z m<=k by omega),Es]at h;exact h.symm
    go_wp2;go_ret;rw[Aa a];exact⟨rfl,rfl⟩
  .by_cases f:Z l<Z m
   ·(have G:(Z l:Int)<(Z m:Int):=by omega);have a:Hid (R= -1):=by
     have h:=Aa b;rw[iC (show Z l<=k by omega),ij (show k<Z m by omega),Es]at h;exact h.symm
    go_wp2;go_ret;rw[Aa a];exact⟨rfl,rfl⟩
   ·(have G:¬(Z l:Int)<(Z m:Int):=by omega);have a:Hid (R=0):=by
     have h:=Aa b;rw[iC (show Z l<=k by omega),iC (show Z m<=k by omega),Es]at h;exact h.symm
    go_wp2;go_ret;rw[Aa a];exact⟨rfl,rfl⟩
structure CG where
 name:zA
 zC:mc zA
structure EN where
 f:CG
 tv:Value
def AW(p:EN):mc Value:=[O p.f.name,p.tv]
def DS(w:l9)(p:EN):Prop:=w.ownsRow 0 170 1 p.tv (Z p.f.zC) (p.f.zC.flatMap Ah)
def DS.kept{w w':l9}{p:EN}(h:DS w p)(k:Ac [] w w'):DS w' p:=Ad h k (by simp)
def Cm(a b:CG):Int:=if DU a.name b.name=0 then Es a.zC b.zC else DU a.name b.name
theorem SX(a b:EN)(w:l9)(k:DS w a)(j:DS w b)(u:Z a.f.zC<=1000000)(x:Z b.f.zC<=1000000):
  Calls prog 104 #[.agg (AW a).toArray,.agg (AW b).toArray] w λe z=>e=lo (X .i64 (Cm a.f b.f))/\Ac [] w z:=by
 obtain⟨⟨d,i⟩,F⟩:=a;obtain⟨⟨c,h⟩,H⟩:=b;unfold DS at k j;simp only at k j u x;obtain⟨r,q,rfl⟩:=Al k;obtain⟨p,s,rfl⟩:=Al j;have g:Hid (Cm ⟨d,i⟩ ⟨c,h⟩=if DU d c=0 then Es i h else DU d c):=rfl;simp only[AW];generalize Cm ⟨d,i⟩ ⟨c,h⟩=R at g⊢;have m:=((me [] w).alloc (.cells [O d,U r (Z i) q].toArray 104)).alloc (.cells [O c,U p (Z h) s].toArray 104);have n:=Ab (bU d c ((w.alloc (.cells [O d,U r (Z i) q].toArray 104)).alloc (.cells [O c,U p (Z h) s].toArray 104)));have o:=Ab (SY r q i p s h _ (Ad k m (by simp)) (Ad j m (by simp)) u x);have v:=Ab m;clear m k j;generalize DU d c=C at n g;generalize Es i h=D at o g;go_enter func104,ntmps104;go_wp2_with fail
 refine n.mono ?_;rintro e G ⟨rfl,B⟩;subst B;by_cases l:C=0
 .have y:(C !=0)=K:=by simp[l]
  have t:Hid (R=D):=by show _=_;rw[Aa g,gY l]
  clear g n;go_wp2_with fail
  refine o.mono ?_;rintro e E ⟨rfl,A⟩;subst A;clear o;go_wp2;go_ret;rw[Aa t];exact⟨rfl,v⟩
 .have y:(C !=0)=true:=by simp[l]
  have t:Hid (R=C):=by show _=_;rw[Aa g,gV l]
  clear g n o;go_wp2;go_ret;rw[Aa t];exact⟨rfl,v⟩
