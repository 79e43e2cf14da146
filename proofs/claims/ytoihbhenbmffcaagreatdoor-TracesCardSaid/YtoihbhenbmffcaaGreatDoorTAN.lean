import Derived.Laws.Cover1
import Derived.Test.YtoihbhenbmffcaaGreatDoorTAL
set_option linter.all false
set_option maxHeartbeats 0
open List renaming length->Z,toArray->j2
open Option renaming none->Y,some->V
open Go.Value renaming slice->U,int->X,string->O,pointer->j3,agg->oj,bool->q8
open Bool renaming false->K,true->jj
open Go.IntKind renaming i64->J,i32->q7
open Go.Obj renaming cells->j1
open Go.Ending renaming returned->kt
open Or renaming inl->lo,inr->lx
open Go renaming World->ly
open Go.RowKit renaming Hid->nc
open Go.World renaming cell?->oa,ownsRow->oi
open ByteArray renaming empty->q9
open Go.Op renaming bytesLess->qZ
namespace Go.Proofs.YtoihbhenbmffcaaGreatDoor
open Go.RowKit Go.Proofs.Tryz
variable{k n m b:Nat}{w u:ly}{z:Value}{e:rc zA}{c:rc AV}{s t:zA}{g:UInt8}{f:rc Af}
def Eg(a b:zA):Int:=if qZ a.toList b.toList then -1 else if qZ b.toList a.toList then 1 else 0
theorem XL(a:zA)(w:ly):Calls prog 186 #[O a] w λe b=>e=kt (q8 K)/\b=w:=by
 have h:(a.toList==a.toList)=jj:=by simp
 have c:(a.toList !=a.toList)=K:=by simp[bne]
 go_enter func186,ntmps186;go_wp2;all_goals go_ret
 all_goals first|exact⟨rfl,rfl⟩|exact⟨by simp,rfl⟩
theorem Xr(a:zA)(w:ly):Calls prog 215 #[O a] w λe b=>e=kt (q8 K)/\b=w:=by
 have h:(a.toList==a.toList)=jj:=by simp
 have c:(a.toList !=a.toList)=K:=by simp[bne]
 go_enter func215,ntmps215;go_wp2;all_goals go_ret
 all_goals first|exact⟨rfl,rfl⟩|exact⟨by simp,rfl⟩
theorem fV(a b:zA)(w:ly):Calls prog 150 #[O a,O b] w λe i=>e=kt (X J (Eg a b))/\i=w:=by
 have h:=Ab (XL a w);have g:=Ab (XL b w);have f:nc (Eg a b=if qZ a.toList b.toList then -1 else if qZ b.toList a.toList then 1 else 0):=rfl;generalize Eg a b=C at f⊢;go_enter func150,ntmps150;go_wp2_with fail
 refine h.mono ?_;rintro e k ⟨rfl,rfl⟩;go_wp2_with fail
 refine g.mono ?_;rintro e j ⟨rfl,rfl⟩;clear h g;cases h1:qZ a.toList b.toList with
 |true=>
  have d:nc (C= -1):=by show _=_;rw[Aa f,h1];rfl
  go_wp2;go_ret;rw[Aa d];exact⟨rfl,rfl⟩
 |false=>
  cases h2:(a.toList==b.toList)with
  |false=>
   have c:qZ b.toList a.toList=jj:=S5 _ _ h1 h2;(have d:nc (C=1):=by show _=_;rw[Aa f,h1,c];rfl);clear c;go_wp2;go_ret;rw[Aa d];exact⟨rfl,rfl⟩
  |true=>
   have c:qZ b.toList a.toList=K:=by rw[show a.toList=b.toList from by simpa using h2];exact Qu _
   (have d:nc (C=0):=by show _=_;rw[Aa f,h1,c];rfl);clear c;go_wp2;go_ret;rw[Aa d];exact⟨rfl,rfl⟩
theorem fE(a b:zA)(w:ly):Calls prog 187 #[O a,O b] w λe i=>e=kt (X J (Eg a b))/\i=w:=by
 have h:=Ab (Xr a w);have g:=Ab (Xr b w);have f:nc (Eg a b=if qZ a.toList b.toList then -1 else if qZ b.toList a.toList then 1 else 0):=rfl;generalize Eg a b=C at f⊢;go_enter func187,ntmps187;go_wp2_with fail
 refine h.mono ?_;rintro e k ⟨rfl,rfl⟩;go_wp2_with fail
 refine g.mono ?_;rintro e j ⟨rfl,rfl⟩;clear h g;cases h1:qZ a.toList b.toList with
 |true=>
  have d:nc (C= -1):=by show _=_;rw[Aa f,h1];rfl
  go_wp2;go_ret;rw[Aa d];exact⟨rfl,rfl⟩
 |false=>
  cases h2:(a.toList==b.toList)with
  |false=>
   have c:qZ b.toList a.toList=jj:=S5 _ _ h1 h2;(have d:nc (C=1):=by show _=_;rw[Aa f,h1,c];rfl);clear c;go_wp2;go_ret;rw[Aa d];exact⟨rfl,rfl⟩
  |true=>
   have c:qZ b.toList a.toList=K:=by rw[show a.toList=b.toList from by simpa using h2];exact Qu _
   (have d:nc (C=0):=by show _=_;rw[Aa f,h1,c];rfl);clear c;go_wp2;go_ret;rw[Aa d];exact⟨rfl,rfl⟩
def Fi:rc zA->rc zA->Int
 |[],[]=>0
 |[],_::_=> -1
 |_::_,[]=>1
 |x::l,y::m=>if Eg x y=0 then Fi l m else Eg x y
def bH{l m:rc zA}(a:k<Z l)(b:k<Z m):Fi (l.drop k) (m.drop k)=if Eg l[k] m[k]=0 then Fi (l.drop (k+1)) (m.drop (k+1))else Eg l[k] m[k]:=by
 rw[mQ a,mQ b,Fi]
def NK(h:oi w n 170 1 z (Z e) (e.flatMap Ai))(k:Nat)(d:k<Z e):∃g a,z=U (V ⟨g,0,Y⟩) (Z e) a/\oa w ⟨g,k,Y⟩=V (O e[k]):=by
 obtain⟨g,a,f,_,i⟩:=AC h (λc _=>rfl) k d;have b:=i k d 0 (by omega);simp[Ai]at b;exact⟨g,a,f,b⟩
set_option maxRecDepth 100000
theorem Vi(x:Option Addr)(p:Nat)(l:rc zA)(n:Option Addr)(s:Nat)(m:rc zA)(w:ly)(q:oi w 0 170 1 (U x (Z l) p) (Z l) (l.flatMap Ai))(j:oi w 0 170 1 (U n (Z m) s) (Z m) (m.flatMap Ai))(W:Z l<=1000000)(hm:Z m<=1000000):
  Calls prog 151 #[U x (Z l) p,U n (Z m) s] w λe A=>e=kt (X J (Fi l m))/\A=w:=by
 have F:=Ab q;have E:=Ab j;obtain⟨R,g⟩:=rd (Fi l m);rw[g];have t:nc (Fi (l.drop 0) (m.drop 0)=R):=g;clear q j g;go_enter func151,ntmps151;go_wp2
 go_loopg [11] (Z l) (λgk i wr=>∃(k:Nat),i=X J k/\k<=Z l/\k<=Z m/\gk=Z l-k/\nc (Fi (l.drop k) (m.drop k)=R)/\w=wr)
 case atStart=>exact⟨0,rfl,by omega,by omega,rfl,t,rfl⟩
 case round=>
  clear t;obtain⟨k,rfl,M,I,r,b,rfl⟩:=hrel;have D:=Ab r;clear r;by_cases d:k<Z l
  .obtain⟨T,Q,v,P⟩:=NK F k d;simp only[mu]at v;obtain⟨rfl,_,rfl⟩:=v;by_cases f:k<Z m
   .obtain⟨N,S,u,H⟩:=NK E k f;simp only[mu]at u;obtain⟨rfl,_,rfl⟩:=u;(have y:¬(Z m:Int)<=(k:Int):=by omega);have o:=Ab (fE l[k] m[k] w);have DG:=Ab (bH d f);generalize Eg l[k] m[k]=C at o DG;(go_wp2_with fail);refine o.mono ?_;rintro e L ⟨rfl,B⟩;subst B;by_cases c:C=0
    ·(have z:(C !=0)=K:=by simp[c]);have a:nc (Fi (l.drop (k+1)) (m.drop (k+1))=R):=by
      have h:=Aa b;rw[Aa DG,mK c]at h;exact h
     clear b DG;go_wp2
     go_roundg (Z l-(k+1))
     case measure=>have:=Aa D;omega
     case rel=>exact⟨k+1,by go_num,by omega,by omega,rfl,a,rfl⟩
    ·(have z:(C !=0)=jj:=by simp[c]);have a:nc (C=R):=by
      have h:=Aa b;rw[Aa DG,mJ c]at h;exact h
     clear b DG;go_wp2;go_ret;rw[<-Aa a];exact⟨rfl,rfl⟩
   ·(have y:(Z m:Int)<=(k:Int):=by omega);have a:nc (R=1):=by
     have h:=Aa b;rw[mQ d,ni (show Z m<=k by omega),Fi]at h;exact h.symm
    go_wp2;go_ret;rw[Aa a];exact⟨rfl,rfl⟩
  .by_cases f:Z l<Z m
   ·(have G:(Z l:Int)<(Z m:Int):=by omega);have a:nc (R= -1):=by
     have h:=Aa b;rw[ni (show Z l<=k by omega),mQ (show k<Z m by omega),Fi]at h;exact h.symm
    go_wp2;go_ret;rw[Aa a];exact⟨rfl,rfl⟩
   ·(have G:¬(Z l:Int)<(Z m:Int):=by omega);have a:nc (R=0):=by
     have h:=Aa b;rw[ni (show Z l<=k by omega),ni (show Z m<=k by omega),Fi]at h;exact h.symm
    go_wp2;go_ret;rw[Aa a];exact⟨rfl,rfl⟩
structure CJ where
 name:zA
 zC:rc zA
structure Eb where
 f:CJ
 tv:Value
def AM(p:Eb):rc Value:=[O p.f.name,p.tv]
def C8(w:ly)(p:Eb):Prop:=oi w 0 170 1 p.tv (Z p.f.zC) (p.f.zC.flatMap Ai)
def C8.kept{w w':ly}{p:Eb}(h:C8 w p)(k:Ac [] w w'):C8 w' p:=Ad h k
def CX(a b:CJ):Int:=if Eg a.name b.name=0 then Fi a.zC b.zC else Eg a.name b.name
theorem Vh(a b:Eb)(w:ly)(k:C8 w a)(j:C8 w b)(u:Z a.f.zC<=1000000)(x:Z b.f.zC<=1000000):
  Calls prog 104 #[oj (j2 (AM a)),oj (j2 (AM b))] w λe z=>e=kt (X J (CX a.f b.f))/\Ac [] w z:=by
 obtain⟨⟨d,i⟩,F⟩:=a;obtain⟨⟨c,h⟩,H⟩:=b;unfold C8 at k j;simp only at k j u x;obtain⟨r,q,rfl⟩:=Al k;obtain⟨p,s,rfl⟩:=Al j;have g:nc (CX ⟨d,i⟩ ⟨c,h⟩=if Eg d c=0 then Fi i h else Eg d c):=rfl;simp only[AM];generalize CX ⟨d,i⟩ ⟨c,h⟩=R at g⊢;have m:=((re [] w).alloc (j1 [O d,U r (Z i) q].toArray 104)).alloc (j1 [O c,U p (Z h) s].toArray 104);have n:=Ab (fV d c ((w.alloc (j1 [O d,U r (Z i) q].toArray 104)).alloc (j1 [O c,U p (Z h) s].toArray 104)));have o:=Ab (Vi r q i p s h _ (Ad k m) (Ad j m) u x);have v:=Ab m;clear m k j;generalize Eg d c=C at n g;generalize Fi i h=D at o g;go_enter func104,ntmps104;go_wp2_with fail
 refine n.mono ?_;rintro e G ⟨rfl,B⟩;subst B;by_cases l:C=0
 .have y:(C !=0)=K:=by simp[l]
  have t:nc (R=D):=by show _=_;rw[Aa g,mK l]
  clear g n;go_wp2_with fail
  refine o.mono ?_;rintro e E ⟨rfl,A⟩;subst A;clear o;go_wp2;go_ret;rw[Aa t];exact⟨rfl,v⟩
 .have y:(C !=0)=jj:=by simp[l]
  have t:nc (R=C):=by show _=_;rw[Aa g,mJ l]
  clear g n o;go_wp2;go_ret;rw[Aa t];exact⟨rfl,v⟩
def BE(a b:zA):Eg a b=0↔a=b:=by
 unfold Eg;constructor
 .intro h;cases h1:qZ a.toList b.toList with
  |true=>rw[h1]at h;simp at h
  |false=>
   cases h2:qZ b.toList a.toList with
   |true=>rw[h1,h2]at h;simp at h
   |false=>
    cases h3:(a.toList==b.toList)with
    |true=>exact toList_inj (by simpa using h3)
    |false=>rw[S5 _ _ h1 h3]at h2;cases h2
 .intro h;rw[h,Qu];rfl
def OT(a b:zA):Eg a b<0↔qZ a.toList b.toList=jj:=by
 unfold Eg;cases h1:qZ a.toList b.toList with
 |true=>simp
 |false=>
  cases h2:qZ b.toList a.toList with
  |true=>simp
  |false=>simp
def bj(a b:zA):0<Eg a b↔Eg b a<0:=by
 rw[OT];unfold Eg;cases h1:qZ a.toList b.toList with
 |true=>
  cases h2:qZ b.toList a.toList with
  |false=>simp
  |true=>
   have:=OB _ _ _ h1 h2;rw[Qu]at this;cases this
 |false=>
  cases h2:qZ b.toList a.toList with
  |true=>simp
  |false=>simp
def Ra{a b c:zA}(d:Eg a b<0)(e:Eg b c<0):Eg a c<0:=by
 rw[OT]at*;exact OB _ _ _ d e
def U4:∀(l m:rc zA),Fi l m=0↔l=m
 |[],[]=>by simp[Fi]
 |[],_::_=>by simp[Fi]
 |_::_,[]=>by simp[Fi]
 |x::l,y::m=>by
  rw[Fi];by_cases h:Eg x y=0
  .rw[mK h,U4 l m,(BE x y).1 h];simp
  .rw[mJ h];constructor
   .intro a;exact absurd a h
   .intro a;exact absurd ((BE x y).2 (List.cons.inj a).1) h
def bA:∀(l m:rc zA),0<Fi l m↔Fi m l<0
 |[],[]=>by simp[Fi]
 |[],_::_=>by simp[Fi]
 |_::_,[]=>by simp[Fi]
 |x::l,y::m=>by
  rw[Fi,Fi];by_cases h:Eg x y=0
  .have a:Eg y x=0:=(BE _ _).2 ((BE _ _).1 h).symm;rw[mK h,mK a];exact bA l m
  ·(have a:¬Eg y x=0:=λb=>h ((BE _ _).2 ((BE _ _).1 b).symm));rw[mJ h,mJ a];exact bj x y
def Q1:∀{l m k:rc zA},Fi l m<0->Fi m k<0->Fi l k<0
 |[],[],_,h,_=>by simp[Fi]at h
 |[],_::_,[],_,h=>by simp[Fi]at h
 |[],_::_,_::_,_,_=>by simp[Fi]
 |_::_,[],_,h,_=>by simp[Fi]at h
 |_::_,_::_,[],_,h=>by simp[Fi]at h
 |x::l,y::m,z::k,h1,h2=>by
  rw[Fi]at h1 h2⊢;by_cases b:Eg x y=0
  .rw[mK b]at h1;rw[(BE x y).1 b];by_cases a:Eg y z=0
   .rw[mK a]at h2⊢;exact Q1 h1 h2
   .rw[mJ a]at h2⊢;exact h2
  .rw[mJ b]at h1;by_cases a:Eg y z=0
   .rw[<-(BE y z).1 a,mJ b];exact h1
   .rw[mJ a]at h2;have c:=Ra h1 h2;rw[mJ (by omega)];exact c
def Gb(a b:CJ):CX a b=0↔a=b:=by
 obtain⟨d,f⟩:=a;obtain⟨e,g⟩:=b;unfold CX;simp only;by_cases h:Eg d e=0
 .rw[mK h,U4,(BE _ _).1 h];simp
 .rw[mJ h];constructor
  .intro c;exact absurd c h
  .intro c;simp only[CJ.mk.injEq]at c;exact absurd ((BE _ _).2 c.1) h
def be(a b:CJ):0<CX a b↔CX b a<0:=by
 unfold CX;by_cases h:Eg a.name b.name=0
 .have c:Eg b.name a.name=0:=(BE _ _).2 ((BE _ _).1 h).symm;rw[mK h,mK c];exact bA _ _
 .have c:¬Eg b.name a.name=0:=λd=>h ((BE _ _).2 ((BE _ _).1 d).symm)
  rw[mJ h,mJ c];exact bj _ _
def IY{a b c:CJ}(f:CX a b<0)(d:CX b c<0):CX a c<0:=by
 unfold CX at*;by_cases g:Eg a.name b.name=0
 .rw[mK g]at f;rw[(BE _ _).1 g];by_cases e:Eg b.name c.name=0
  .rw[mK e]at d⊢;exact Q1 f d
  .rw[mJ e]at d⊢;exact d
 .rw[mJ g]at f;by_cases e:Eg b.name c.name=0
  .rw[<-(BE _ _).1 e,mJ g];exact f
  .rw[mJ e]at d;have h:=Ra f d;rw[mJ (by omega)];exact h
def Bq(f:Af):CJ:=⟨f.name,f.args.map AD⟩
def AL(f:Af):Prop:=∀x∈f.args,A8 x
def Ma{a b:Af}(i:AL a)(k:AL b)(h:Bq a=Bq b):a=b:=by
 obtain⟨p,o⟩:=a;obtain⟨q,n⟩:=b;simp only[Bq,CJ.mk.injEq]at h;obtain⟨j,g⟩:=h;subst j
 congr 1
 have f:∀(l m:rc zA),(∀x∈l,A8 x)->(∀x∈m,A8 x)->l.map AD=m.map AD->l=m:=by
  intro l
  induction l with
  |nil=>intro m _ _ h;cases m with|nil=>rfl|cons y m=>simp at h
  |cons x l ih=>
   intro m e d h;cases m with
   |nil=>simp at h
   |cons y m=>
    simp only[mU,oA]at h;rw[FQ (e x (by simp)) (d y (by simp)) h.1,ih m (λz c=>e z (by simp[c])) (λz c=>d z (by simp[c])) h.2]
 exact f o n i k g
def R5:∀(l m:rc zA),(∀x∈l,A8 x)->(∀x∈m,A8 x)->(Ey l m=jj↔Fi (l.map AD) (m.map AD)<0)
 |[],[],_,_=>by simp[Ey,Fi]
 |[],_::_,_,_=>by simp[Ey,Fi]
 |_::_,[],_,_=>by simp[Ey,Fi]
 |x::l,y::m,hl,hm=>by
  rw[Ey,mU,mU,Fi];by_cases h:x=y
  .subst h;rw[mK (by simp),mK ((BE _ _).2 rfl)];exact R5 l m (λz b=>hl z (by simp[b])) (λz b=>hm z (by simp[b]))
  ·(have c:¬(x.toList==y.toList)=jj:=λa=>h (toList_inj (by simpa using a)));(have d:¬Eg (AD x) (AD y)=0:=λa=>h (FQ (hl x (by simp)) (hm y (by simp)) ((BE _ _).1 a)));rw[mJ c,mJ d,OT,IW (hl x (by simp)) (hm y (by simp))]
def Et{a b:Af}(e:AL a)(f:AL b):Ea a b=jj↔CX (Bq a) (Bq b)<0:=by
 unfold Ea CX Bq;simp only;by_cases h:a.name=b.name
 .rw[mK (by rw[h];simp),mK ((BE _ _).2 h)];exact R5 _ _ e f
 .have d:¬(a.name.toList==b.name.toList)=jj:=λc=>h (toList_inj (by simpa using c))
  rw[mJ d,mJ (λc=>h ((BE _ _).1 c)),OT]
def IR{α:Type}{lt:α->α->Prop}(e:∀a,¬lt a a)(f:∀a b c,lt a b->lt b c->lt a c):∀(l m:rc α),l.Pairwise lt->m.Pairwise lt->(∀x,x∈l↔x∈m)->l=m
 |[],[],_,_,_=>rfl
 |[],y::m,_,_,h=>by have:=(h y).2 (by simp);simp at this
 |x::l,[],_,_,h=>by have:=(h x).1 (by simp);simp at this
 |x::l,y::m,hl,hm,h=>by
  rw[oN]at hl hm;have g:x=y:=by
   rcases mA.1 ((h x).1 (by simp))with h1|h1
   .exact h1
   .rcases mA.1 ((h y).2 (by simp))with h2|h2
    .exact h2.symm
    .exact absurd (f _ _ _ (hl.1 y h2) (hm.1 x h1)) (e x)
  subst g
  congr 1
  refine IR e f l m hl.2 hm.2 (λz=>?_);constructor
  .intro d;rcases mA.1 ((h z).1 (by simp[d]))with h1|h1
   .subst h1;exact absurd (hl.1 z d) (e z)
   .exact h1
  .intro d;rcases mA.1 ((h z).2 (by simp[d]))with h1|h1
   .subst h1;exact absurd (hm.1 z d) (e z)
   .exact h1
def ze(x:BP):rc BP->rc BP
 |[]=>[x]
 |y::m=>if Ea x.f y.f then x::y::m else y::ze x m
def RQ(x:BP):∀(l a:rc BP),l.foldl (Fn x) (a,jj)=(a++l,jj)
 |[],a=>by simp
 |y::l,a=>by
  rw[nh];have:Fn x (a,jj) y=(a++[y],jj):=by simp[Fn]
  rw[this,RQ x l];simp
def XW(x:BP):∀(l a:rc BP),(if(l.foldl (Fn x) (a,K)).2 then(l.foldl (Fn x) (a,K)).1 else(l.foldl (Fn x) (a,K)).1++[x])=a++ze x l
 |[],a=>by simp[ze]
 |y::l,a=>by
  rw[nh,ze];cases h:Ea x.f y.f with
  |true=>
   (have:Fn x (a,K) y=(a++[x]++[y],jj):=by simp[Fn,h]);rw[this,RQ];simp
  |false=>
   (have:Fn x (a,K) y=(a++[y],K):=by simp[Fn,h]);rw[this,XW x l];simp
def aL(l:rc BP)(x:BP):O3 l x=ze x l:=by
 have h:=XW x l [];rw[nM]at h;exact h
def G9(l:rc BP):Prop:=l.Pairwise λa b=>Ea a.f b.f=jj
def WO{a b c:Af}(d:AL a)(g:AL b)(h:AL c)(f:Ea a b=jj)(e:Ea b c=jj):Ea a c=jj:=by
 rw[Et d g]at f;rw[Et g h]at e;rw[Et d h];exact IY f e
def dy{a b:Af}(c:AL a)(d:AL b)(e:Ea a b=K)(f:a≠b):Ea b a=jj:=by
 rw[Et d c];have g:¬CX (Bq a) (Bq b)<0:=λh=>by rw[(Et c d).2 h]at e;cases e
 have i:¬CX (Bq a) (Bq b)=0:=λh=>f (Ma c d ((Gb _ _).1 h))
 exact(be _ _).1 (by omega)
def U2{a:Af}(b:AL a):Ea a a=K:=by
 cases h:Ea a a with
 |false=>rfl
 |true=>
  rw[Et b b,(Gb _ _).2 rfl]at h;omega
def Kf(x p:BP):∀(l:rc BP),p∈ze x l↔p=x\/p∈l
 |[]=>by simp[ze]
 |y::l=>by
  rw[ze];split
  .simp
  .rw[mA,Kf x p l,mA];exact⟨λh=>by rcases h with h|h|h;exact lx (lo h);exact lo h;exact lx (lx h),λh=>by rcases h with h|h|h;exact lx (lo h);exact lo h;exact lx (lx h)⟩
def Qc{x:BP}(b:AL x.f):∀{l:rc BP},G9 l->(∀p∈l,AL p.f)->(∀p∈l,p.f≠x.f)->G9 (ze x l)
 |[],_,_,_=>by simp[ze,G9]
 |y::l,h,hc,hne=>by
  unfold G9 at h;rw[oN]at h;have c:=hc y (by simp);rw[ze];cases ha:Ea x.f y.f with
  |true=>
   rw[mK rfl];unfold G9;rw[oN];refine⟨λp a=>?_,oN.2 h⟩;rcases mA.1 a with rfl|a
   .exact ha
   .exact WO b c (hc p (by simp[a])) ha (h.1 p a)
  |false=>
   rw[mJ (by simp)];unfold G9;rw[oN];refine⟨λp a=>?_,Qc b h.2 (λp a=>hc p (by simp[a])) (λp a=>hne p (by simp[a]))⟩;rcases(Kf x p l).1 a with rfl|a
   .exact dy b c ha (λe=>hne y (by simp) e.symm)
   .exact h.1 p a
def ZE{l:rc BP}{x:BP}(e:AL x.f)(d:G9 l)(c:∀p∈l,AL p.f):G9 (GF l x)/\(∀p∈GF l x,AL p.f)/\∀g,(∃p∈GF l x,p.f=g)↔(∃p∈l,p.f=g)\/g=x.f:=by
 unfold GF
 cases h:Yk l x.f with
 |true=>
  rw[mK rfl];refine⟨d,c,λg=>⟨lo,λb=>?_⟩⟩;rcases b with b|b
  .exact b
  .unfold Yk at h;rw[nX]at h;obtain⟨p,a,k⟩:=h;exact⟨p,a,by rw[b];exact(GY _ _).1 k⟩
 |false=>
  rw[mJ (by simp),aL];have j:∀p∈l,p.f≠x.f:=by
   intro p a i;unfold Yk at h;rw[oC]at h;exact h p a ((GY _ _).2 i)
  refine⟨Qc e d c j,λp a=>?_,λg=>?_⟩
  .rcases(Kf x p l).1 a with rfl|a
   .exact e
   .exact c p a
  .constructor
   .rintro ⟨p,a,rfl⟩;rcases(Kf x p l).1 a with rfl|a
    .exact lx rfl
    .exact lo ⟨p,a,rfl⟩
   .rintro (⟨p,a,rfl⟩|rfl)
    .exact⟨p,(Kf x p l).2 (lx a),rfl⟩
    .exact⟨x,(Kf x x l).2 (lo rfl),rfl⟩
def gV(x:Af):rc Af->rc Af
 |[]=>[x]
 |y::m=>if Ea x y then x::y::m else y::gV x m
def A9(s:rc Af)(f:Af):rc Af:=if DB s f then s else gV f s
def Dy(s:rc Af):Prop:=s.Pairwise λa b=>Ea a b=jj
def Sz(x:Af):∀(l:rc Af),Z (gV x l)=Z l+1
 |[]=>rfl
 |y::m=>by
  rw[gV];split
  .rfl
  .rw[mL,Sz x m,mL]
def XC(x:BP):∀(l:rc BP),(ze x l).map BP.f=gV x.f (l.map BP.f)
 |[]=>rfl
 |y::m=>by
  rw[ze,mU,gV];split
  .rfl
  .rw[mU,XC x m]
def fR(l:rc BP)(f:Af):Yk l f=DB (l.map BP.f) f:=by
 unfold Yk DB;rw[qd];rfl
def ME(l:rc BP)(x:BP):(GF l x).map BP.f=A9 (l.map BP.f) x.f:=by
 unfold GF A9;rw[fR];split
 .rfl
 .rw[aL,XC]
def kT(f:Af):BP:=⟨f,q8 K⟩
def jf(s:rc Af):(s.map kT).map BP.f=s:=by
 rw[nN];exact List.map_id s
def Ct{s:rc Af}{f:Af}(u:AL f)(j:Dy s)(t:∀p∈s,AL p):Dy (A9 s f)/\(∀p∈A9 s f,AL p)/\∀g,g∈A9 s f↔g∈s\/g=f:=by
 have m:G9 (s.map kT):=by
  unfold G9;rw[o9];exact j
 have k:∀p∈s.map kT,AL p.f:=by
  intro p d;obtain⟨g,r,rfl⟩:=mD.1 d;exact t g r
 obtain⟨a,b,c⟩:=ZE (l:=s.map kT) (x:=kT f) u m k;have e:=ME (s.map kT) (kT f);rw[jf]at e;have o:A9 s f=(GF (s.map kT) (kT f)).map BP.f:=e.symm;rw[o];refine⟨?_,?_,?_⟩
 .unfold Dy;rw[o9];exact a
 .intro p d;obtain⟨q,i,rfl⟩:=mD.1 d;exact b q i
 .intro g;have n:=c g;rw[mD,n];constructor
  .rintro (⟨p,d,rfl⟩|h)
   .obtain⟨q,i,rfl⟩:=mD.1 d;exact lo i
   .exact lx h
  .rintro (h|h)
   .exact lo ⟨kT g,mR h,rfl⟩
   .exact lx h
def consts(cs:rc AV):rc zA:=cs.flatMap λc=>(c.head.args.filter λt=>t.v==0).map AJ.s
structure Dw(cs:rc AV)(f:Af):Prop where
 zd:∃c∈cs,f.name=c.head.name/\Z f.args=Z c.head.args
 args:∀x∈f.args,x∈consts cs
def EA(l:rc zA):Nat->rc (rc zA)
 |0=>[[]]
 |n+1=>l.flatMap λx=>(EA l n).map (x:: ·)
def VH(cs:rc AV):rc Af:=cs.flatMap λc=>(EA (consts cs) (Z c.head.args)).map (Af.mk c.head.name)
def Ms(l:rc zA):∀(m:rc zA),(∀x∈m,x∈l)->m∈EA l (Z m)
 |[],_=>by simp[EA]
 |x::m,h=>by
  rw[mL,EA,m6];exact⟨x,h x (by simp),mD.2 ⟨m,Ms l m (λy a=>h y (by simp[a])),rfl⟩⟩
def Dw.mem{a:rc AV}{f:Af}(h:Dw a f):f∈VH a:=by
 obtain⟨c,e,d,b⟩:=h.zd;unfold VH;rw[m6];refine⟨c,e,mD.2 ⟨f.args,?_,?_⟩⟩
 .rw[<-b];exact Ms _ _ h.args
 .rw[<-d]
def IE{α:Type}:∀(l m:rc α),l.Nodup->(∀z∈l,z∈m)->Z l<=Z m
 |[],m,_,_=>mO _
 |x::l,m,hn,hs=>by
  rw[oB]at hn;obtain⟨a,b,rfl⟩:=List.append_of_mem (hs x (by simp));have:=IE l (a++b) hn.2 (λz d=>by
   have c:=hs z (by simp[d])
   rw[mF,mA]at c
   rw[mF]
   rcases c with c|c|c
   .exact lo c
   .subst c;exact absurd d hn.1
   .exact lx c)
  simp only[mM,mL]at this⊢;omega
def Dy.nodup{s:rc Af}(h:Dy s)(c:∀f∈s,AL f):s.Nodup:=by
 unfold List.Nodup;refine oY (fun{a b} ha hb hab e=>?_) h;subst e;rw[U2 (c a ha)]at hab;cases hab
def Pq{s t:rc Af}(w:Dy s)(u:Dy t)(j:∀f∈s,AL f)(ct:∀f∈t,AL f)(h:∀f,f∈s↔f∈t):s=t:=by
 have r:(s.map Bq).Pairwise λa b=>CX a b<0:=by
  rw[o9];exact oY (fun{a b} i hb g=>(Et (j a i) (j b hb)).1 g) w
 have q:(t.map Bq).Pairwise λa b=>CX a b<0:=by
  rw[o9];exact oY (fun{a b} i hb g=>(Et (ct a i) (ct b hb)).1 g) u
 have v:s.map Bq=t.map Bq:=by
  refine IR (lt:=λa b=>CX a b<0) (λa i=>?_) (λa b c g p=>IY g p) _ _ r q (λx=>?_)
  .have:CX a a=0:=(Gb a a).2 rfl;omega
  .rw[mD,mD];exact⟨fun⟨f,d,e⟩=>⟨f,(h f).1 d,e⟩,fun⟨f,d,e⟩=>⟨f,(h f).2 d,e⟩⟩
 have o:∀(l m:rc Af),(∀f∈l,AL f)->(∀f∈m,AL f)->l.map Bq=m.map Bq->l=m:=by
  intro l
  induction l with
  |nil=>intro m _ _ e;cases m with|nil=>rfl|cons y m=>simp at e
  |cons x l ih=>
   intro m n k e;cases m with
   |nil=>simp at e
   |cons y m=>
    rw[mU,mU,oA]at e;rw[Ma (n x (by simp)) (k y (by simp)) e.1,ih m (λf d=>n f (by simp[d])) (λf d=>k f (by simp[d])) e.2]
 exact o s t j ct v
def RY(cs:rc AV):Prop:=∀c∈cs,∀t∈c.head.args,t.v=0->A8 t.s
def Vu{d:rc AV}(h:RY d):∀x∈consts d,A8 x:=by
 intro x a;unfold consts at a;obtain⟨c,f,a⟩:=m6.1 a;obtain⟨t,b,rfl⟩:=mD.1 a;obtain⟨b,e⟩:=mT.1 b;exact h c f t b (by simpa using e)
def Dw.canon(h:RY c){f:Af}(a:Dw c f):AL f:=λx b=>Vu h x (a.args x b)
def AL.zM{f:Af}(h:AL f):JL f:=λx a=>(h x a).size
def Sl{d:rc AV}(j:R2 d){s:rc Af}(p:∀f∈s,Dw d f)(q:∀f∈s,JL f){c:AV}(h:c∈d)(b:e∈BK (An c) s):Dw d (Av e c.head):=by
 refine⟨⟨c,h,rfl,by simp[Av]⟩,λx r=>?_⟩;obtain⟨t,i,rfl⟩:=mD.1 r;unfold BK at b;obtain⟨_,_,_,_,n⟩:=Dh q (An c) [Bl] (λe b=>by simp at b;rw[b];rfl) (j.args c h) e (mT.1 b).1;by_cases g:t.v=0
 .unfold AP;rw[mK g];unfold consts;exact m6.2 ⟨c,h,mD.2 ⟨t,mT.2 ⟨i,by rw[g];rfl⟩,rfl⟩⟩
 .rcases j.head c h t i with a|⟨y,l,k,u,m,o⟩
  .exact absurd a g
  .have a:=(p _ (n y l k).1).args (AP e u) (mR m);unfold AP at a⊢;rw[o]at a;rw[mJ g]at a⊢;exact a
structure Hm(cs:rc AV)(zS:zA->Nat)(n:Nat)(s:rc Af):Prop where
 work:Ej (Fa cs) (λf=>zS f.name) n (·∈s)
 zG:Dy s
 zX:∀f∈s,Dw cs f
def Hm.start(b:rc AV)(a:zA->Nat):Hm b a 0 []:=
 ⟨(Ej.start (Fa b) (λf:Af=>a f.name)).cong _ _ (λf=>by simp),List.Pairwise.nil,λf c=>by simp at c⟩
def Hm.len{b:zA->Nat}{s:rc Af}(d:RY c)(h:Hm c b n s):Z s<=Z (VH c):=
 IE s (VH c) (h.zG.nodup λf a=>(h.zX f a).canon d) λf a=>(h.zX f a).mem
structure QK(cs:rc AV)(zS:zA->Nat):Prop where
 zM:R2 cs
 lay:CG cs zS
 zN:RY cs
def iM{k:rc AV}{g:zA->Nat}(j:QK k g){i s:rc Af}(q:Hm k g n i)(h:Hm k g n s)(o:∀f∈i,f∈s)(t:∀f∈s,f∈i\/g f.name=n)
  {c:AV} (r:c∈k) (v:g c.head.name=n)  (p:e∈BK (An c) i):
  Hm k g n (A9 s (Av e c.head))/\(∀f∈i,f∈A9 s (Av e c.head))/\∀f∈A9 s (Av e c.head),f∈i\/g f.name=n:=by
 have u:∀f∈i,JL f:=λf d=>((q.zX f d).canon j.zN).zM
 have l:=Sl j.zM q.zX u r p;obtain⟨a,b,m⟩:=Ct (l.canon j.zN) h.zG (λf d=>(h.zX f d).canon j.zN);refine⟨⟨?_,a,λf d=>?_⟩,λf d=>(m f).2 (lo (o f d)),λf d=>?_⟩
 .exact(fP j.lay j.zM h.work o t u r v p).cong _ _ (λf=>(m f).symm)
 .rcases(m f).1 d with d|d
  .exact h.zX f d
  .rw[d];exact l
 .rcases(m f).1 d with d|d
  .exact t f d
  .right;rw[d];exact v
def IT(c:AV)(a:rc Af×Bool)(e:rc zA):rc Af×Bool:=if DB a.1 (Av e c.head)then a else(A9 a.1 (Av e c.head),jj)
def Dn(zS:zA->Nat)(n:Nat)(a:rc Af×Bool)(c:AV):rc Af×Bool:=if zS c.head.name=n then(BK (An c) a.1).foldl (IT c) a else a
def D9(cs:rc AV)(zS:zA->Nat)(n:Nat)(s:rc Af):rc Af×Bool:=cs.foldl (Dn zS n) (s,K)
def Sj{d:rc AV}{b:zA->Nat}(r:QK d b){n:Nat}{g:rc Af}(j:Hm d b n g){c:AV}(t:c∈d)(o:b c.head.name=n):
  ∀(l:rc (rc zA)) (s:rc Af) (m:Bool),(∀e∈l,e∈BK (An c) g)->Hm d b n s->(∀f∈g,f∈s)->(∀f∈s,f∈g\/b f.name=n)->
   Hm d b n (l.foldl (IT c) (s,m)).1/\Z s<=Z (l.foldl (IT c) (s,m)).1/\
    ((l.foldl (IT c) (s,m)).2=K->(l.foldl (IT c) (s,m)).1=s/\m=K/\∀e∈l,Av e c.head∈s)/\
    ((l.foldl (IT c) (s,m)).2=jj->m=jj\/Z s<Z (l.foldl (IT c) (s,m)).1)
 |[],s,m,_,h,_,_=>⟨h,mP _,λa=>⟨rfl,a,λe D=>by simp at D⟩,λa=>lo a⟩
 |e::l,s,m,hl,h,hsub,hnew=>by
  rw[nh];have w:∀e∈l,e∈BK (An c) g:=λx i=>hl x (by simp[i])
  cases hh:DB s (Av e c.head)with
  |true=>
   (have q:IT c (s,m) e=(s,m):=by unfold IT;rw[hh,mK rfl]);rw[q];obtain⟨p,u,k,v⟩:=Sj r j t o l s m w h hsub hnew;refine⟨p,u,λa=>?_,v⟩;obtain⟨z,E,A⟩:=k a;refine⟨z,E,λx i=>?_⟩;rcases mA.1 i with rfl|i
   .exact(Ck _ _).1 hh
   .exact A x i
  |false=>
   (have q:IT c (s,m) e=(A9 s (Av e c.head),jj):=by unfold IT;rw[hh,mJ (by simp)]);rw[q];obtain⟨y,C,B⟩:=iM r j h hsub hnew t o (hl e (by simp));obtain⟨p,u,k,v⟩:=Sj r j t o l (A9 s (Av e c.head)) jj w y C B;(have F:Z (A9 s (Av e c.head))=Z s+1:=by unfold A9;rw[hh,mJ (by simp),Sz]);refine⟨p,by omega,λa=>?_,λa=>lx (by omega)⟩;have:=(k a).2.1;cases this
def L3{j:rc AV}{a:zA->Nat}(A:QK j a){n:Nat}:
  ∀(b:rc AV) (s:rc Af) (m:Bool),(∀c∈b,c∈j)->Hm j a n s->
   Hm j a n (b.foldl (Dn a n) (s,m)).1/\Z s<=Z (b.foldl (Dn a n) (s,m)).1/\
    ((b.foldl (Dn a n) (s,m)).2=K->(b.foldl (Dn a n) (s,m)).1=s/\m=K/\∀c∈b,a c.head.name=n->∀e∈BK (An c) s,Av e c.head∈s)/\
    ((b.foldl (Dn a n) (s,m)).2=jj->m=jj\/Z s<Z (b.foldl (Dn a n) (s,m)).1)
 |[],s,m,_,h=>⟨h,mP _,λg=>⟨rfl,g,λc M=>by simp at M⟩,λg=>lo g⟩
 |c::b,s,m,hd,h=>by
  rw[nh];have H:∀c∈b,c∈j:=λx d=>hd x (by simp[d])
  by_cases l:a c.head.name=n
  ·(have z:Dn a n (s,m) c=(BK (An c) s).foldl (IT c) (s,m):=by unfold Dn;rw[mK l]);rw[z];obtain⟨o,G,t,B⟩:=Sj A h (hd c (by simp)) l (BK (An c) s) s m (λe i=>i) h (λf u=>u) (λf u=>lo u);generalize(BK (An c) s).foldl (IT c) (s,m)=r at o G t B⊢;obtain⟨s1,L⟩:=r;simp only at o G t B;obtain⟨y,E,v,w⟩:=L3 A b s1 L H o;refine⟨y,by omega,λg=>?_,λg=>?_⟩
   .obtain⟨p,C,q⟩:=v g;obtain⟨I,q2,q3⟩:=t C;subst I;refine⟨p,q2,λx d k e i=>?_⟩;rcases mA.1 d with rfl|d
    .exact q3 e i
    .exact q x d k e i
   .rcases w g with F|F
    .rcases B F with D|D
     .exact lo D
     .exact lx (by omega)
    .exact lx (by omega)
  ·(have z:Dn a n (s,m) c=(s,m):=by unfold Dn;rw[mJ l]);rw[z];obtain⟨y,E,v,w⟩:=L3 A b s m H h;refine⟨y,E,λg=>?_,w⟩;obtain⟨p,C,q⟩:=v g;refine⟨p,C,λx d k e i=>?_⟩;rcases mA.1 d with rfl|d
   .exact absurd k l
   .exact q x d k e i
def Nl{a:rc AV}{b:zA->Nat}(d:QK a b){s:rc Af}(h:Hm a b n s):
  Hm a b n (D9 a b n s).1/\((D9 a b n s).2=K->(D9 a b n s).1=s/\Hm a b (n+1) s)/\
   ((D9 a b n s).2=jj->Z s<Z (D9 a b n s).1)/\Z (D9 a b n s).1<=Z (VH a):=by
 unfold D9;obtain⟨i,q,l,m⟩:=L3 d a s K (λc p=>p) h;refine⟨i,λe=>?_,λe=>?_,i.len d.zN⟩
 .obtain⟨k,_,o⟩:=l e;exact⟨k,dG d.zM h.work (λf j=>((h.zX f j).canon d.zN).zM) o,h.zG,h.zX⟩
 .rcases m e with g|g
  .cases g
  .exact g
def aH{a:rc AV}{e g:zA->Nat}(j:QK a e)(i:QK a g){s t:rc Af}(b:Hm a e n s)(h:Hm a g m t)(k:∀c∈a,e c.head.name<n)(l:∀c∈a,g c.head.name<m):s=t:=
 Pq b.zG h.zG (λf d=>(b.zX f d).canon j.zN) (λf d=>(h.zX f d).canon i.zN) (gH j.lay i.lay b.work h.work k l)
def dC{a:rc AV}(h:(Aj s (Ae s 0)).2.2=K)(e:a.map AV.erase=(Aj s (Ae s 0)).1)(f:CQ a=(0,0)):QK a (B3 a 6):=by
 have d:=J0 f;refine⟨d.zM (Zp h e),d.levels,λc j t g i=>?_⟩;rcases(MG h e c j).1.args t g with⟨_,b⟩|b
 .exact b
 .rw[i]at b;exact absurd b.1 (by decide)
def BC(x:Bw):rc AJ:=if(x.kind==97||x.kind==33)=jj then x.A.args else[x.L,x.R]
def D2(e:rc zA)(ts:rc AJ):Bool:=ts.all λt=> !Vz (AP e t)
def Ex(body:rc Bw)(s:rc Af)(e:rc zA):Bool:=body.any λx=>D2 e (BC x)&& !Cp (Av e) (AP e) s x
def Aw(al:UInt8->rc zA->rc zA)(body:rc Bw)(s:rc Af):rc UInt8->rc zA->rc (rc zA)
 |[],e=>if Ex body s e then[] else[e]
 |v::vs,e=>if Ex body s e then[] else(al v e).flatMap λt=>Aw al body s vs (e.set (v.toNat-65) t)
def N8(e:rc zA)(v:UInt8):zA:=e.getD (v.toNat-65) q9
def EP(v:UInt8):Prop:=65<=v.toNat/\v.toNat<=90
def L9(d:Z e=26)(a:EP g)(t:zA):N8 (e.set (g.toNat-65) t) g=t:=by
 unfold N8;obtain⟨b,c⟩:=a;rw[mN,od (by omega)];rfl
def gL{u v:UInt8}(c:EP u)(b:EP v)(h:u≠v)(t:zA):N8 (e.set (v.toNat-65) t) u=N8 e u:=by
 unfold N8;have a:v.toNat-65≠u.toNat-65:=by
  intro f;obtain⟨i,d⟩:=c;obtain⟨j,g⟩:=b;exact h (oE.1 (by omega))
 rw[mN,nJ a,<-mN]
def BW{j:UInt8->rc zA->rc zA}{l:rc Bw}{s:rc Af}(k:∀v e,∀t∈j v e,t.size≠0):
  ∀(d:rc UInt8) (e b:rc zA),Z e=26->(∀v∈d,EP v)->b∈Aw j l s d e->
   Z b=26/\Ex l s b=K/\(∀u,EP u->u∉d->N8 b u=N8 e u)/\∀v∈d,(N8 b v).size≠0
 |[],e,b,he,_,a=>by
  rw[Aw]at a;split at a
  .simp at a
  .rename_i n;rw[my]at a;subst a;exact⟨he,by simpa using n,λ_ _ _=>rfl,λv f=>by simp at f⟩
 |v::d,e,b,he,f,a=>by
  rw[Aw]at a;split at a
  .simp at a
  .obtain⟨t,r,a⟩:=m6.1 a;have i:=f v (by simp);obtain⟨q,o,m,p⟩:=BW k d (e.set (v.toNat-65) t) b (by simp[he]) (λu c=>f u (by simp[c])) a;refine⟨q,o,λu c h=>?_,λu c=>?_⟩
   .rw[mA,not_or]at h;rw[m u c h.2,gL c i h.1]
   .by_cases g:u∈d
    .exact p u g
    .rcases mA.1 c with rfl|c
     .rw[m u i g,L9 he i];exact k _ _ t r
     .exact absurd c g
def MS(x:Bw):Prop:=∀t∈BC x,BH t
def Dz.ym{x:Bw}(h:Dz x):MS x:=by
 intro t a;unfold Dz at h;unfold BC at a;split at h
 .rename_i b;rw[mK b]at a;exact(h.args t a).zM
 .rename_i b;rw[mJ b]at a;rcases mA.1 a with rfl|a
  .exact h.1.zM
  .rw[my]at a;subst a;exact h.2.1.zM
def IX{σ:UInt8->zA}{x:Bw}(h:∀t∈BC x,AP e t=Eu σ t):Cp (Av e) (AP e) f x=Cp (Bo σ) (Eu σ) f x:=by
 unfold BC at h;by_cases a:(x.kind==97||x.kind==33)=jj
 .rw[mK a]at h;have c:Av e x.A=Bo σ x.A:=by
   unfold Av Bo;rw[nL h]
  unfold Cp;rw[c];rw[om]at a;rcases a with a|a
  .rw[mK a,mK a]
  .by_cases b:(x.kind==97)=jj
   .rw[mK b,mK b]
   .rw[mJ b,mJ b,mK a,mK a]
 .rw[mJ a]at h;have g:=h x.L (by simp);have d:=h x.R (by simp);rw[om,not_or]at a;unfold Cp;rw[mJ a.1,mJ a.1,mJ a.2,mJ a.2,g,d]
def U5{b:rc Bw}(k:∀x∈b,MS x){σ:UInt8->zA}(h:∀x∈b,Cp (Bo σ) (Eu σ) f x=jj)(i:Ew e σ):Ex b f e=K:=by
 unfold Ex;rw[oC];intro x g a;rw[mV]at a;have j:∀t∈BC x,AP e t=Eu σ t:=by
  intro t d;have c:=(nY.1 a.1) t d;refine i.val (k x g t d) (λl=>?_);rw[(Ep _).2 l]at c;cases c
 rw[IX j,h x g]at a;simp at a
def Z9(al:UInt8->rc zA->rc zA)(body:rc Bw)(s:rc Af):Prop:=
 ∀(v:UInt8) (e:rc zA) (σ:UInt8->zA),EP v->Ew e σ->(∀x∈body,Cp (Bo σ) (Eu σ) s x=jj)->(∃x∈body,(x.kind==97)=jj/\∃u∈x.A.args,u.v=v)->σ v∈al v e
def Ic{l:UInt8->rc zA->rc zA}{f:rc Bw}{s:rc Af}(k:∀x∈f,MS x)(n:Z9 l f s){σ:UInt8->zA}(g:∀x∈f,Cp (Bo σ) (Eu σ) s x=jj):
  ∀(d:rc UInt8) (e:rc zA),Ew e σ->(∀v∈d,EP v/\∃x∈f,(x.kind==97)=jj/\∃u∈x.A.args,u.v=v)->
   ∃b∈Aw l f s d e,Ew b σ/\(∀v∈d,N8 b v=σ v)/\∀u,EP u->N8 e u=σ u->N8 b u=σ u
 |[],e,ha,_=>by
  refine⟨e,?_,ha,λv i=>by simp at i,λu _ h=>h⟩;rw[Aw,U5 k g ha];simp
 |v::d,e,ha,i=>by
  obtain⟨c,t⟩:=i v (by simp);obtain⟨b,q,o,r,j⟩:=Ic k n g d (e.set (v.toNat-65) (σ v)) (ha.set c.1 c.2) (λu a=>i u (by simp[a]));refine⟨b,?_,o,λu a=>?_,λu a p=>?_⟩
  .rw[Aw,U5 k g ha];rw[mJ (by simp)];exact m6.2 ⟨σ v,n v e σ c ha g t,q⟩
  .rcases mA.1 a with rfl|a
   .exact j u c (L9 ha.1 c _)
   .exact r u a
  .by_cases m:u=v
   .subst m;exact j u a (L9 ha.1 c _)
   .exact j u a (by rw[gL a c m];exact p)
def S4(al:UInt8->rc zA->rc zA)(c:AV)(hv rv:rc UInt8)(s:rc Af):rc Af:=
 ((Aw al (An c) s hv Bl).filter λb=> !DB s (Av b c.head)&& !(Aw al (An c) s rv b).isEmpty).map λb=>Av b c.head
structure Tq(c:AV)(hv rv:rc UInt8):Prop where
 ok:∀v,v∈hv\/v∈rv->EP v/\∃x∈An c,(x.kind==97)=jj/\∃u∈x.A.args,u.v=v
 apart:∀v∈hv,v∉rv
 head:∀t∈c.head.args,t.v=0\/t.v∈hv
 body:∀x∈An c,∀t∈BC x,t.v=0\/t.v∈hv\/t.v∈rv
 lits:∀x∈An c,MS x
def E1{t:AJ}(h:t.v≠0):AP e t=N8 e t.v:=by
 unfold AP N8;rw[mJ h]
def UT{m:UInt8->rc zA->rc zA}{c:AV}{n k:rc UInt8}{s:rc Af}(g:Tq c n k)(y:∀v e,∀t∈m v e,t.size≠0){f:Af}(q:f∈S4 m c n k s):
  f∉s/\∃σ,(∀x∈An c,Cp (Bo σ) (Eu σ) s x=jj)/\f=Bo σ c.head:=by
 unfold S4 at q;obtain⟨b,o,rfl⟩:=mD.1 q;obtain⟨o,z⟩:=mT.1 o;rw[mV]at z;obtain⟨A,r⟩:=z;refine⟨λh=>?_,?_⟩
 .rw[(Ck _ _).2 h]at A;cases A
 .obtain⟨a,F⟩:∃a,a∈Aw m (An c) s k b:=by
   cases hl:Aw m (An c) s k b with
   |nil=>rw[hl]at r;simp at r
   |cons x l=>exact⟨x,by simp⟩
  obtain⟨G,_,_,H⟩:=BW y n Bl b rfl (λv i=>(g.ok v (lo i)).1) o;obtain⟨L,u,E,I⟩:=BW y k b a G (λv i=>(g.ok v (lx i)).1) F;have w:∀v∈n,N8 a v=N8 b v:=λv i=>E v (g.ok v (lo i)).1 (g.apart v i)
  refine⟨LO a,λx p=>?_,?_⟩
  .have D:D2 a (BC x)=jj:=by
    unfold D2;rw[nY];intro t j;have C:(AP a t).size≠0:=by
     by_cases d:t.v=0
     .rcases g.lits x p t j with h|h
      .unfold AP;rw[mK d];exact h.2
      .rw[d]at h;exact absurd h.1 (by decide)
     .rw[E1 d];rcases g.body x p t j with h|h|h
      .exact absurd h d
      .rw[w _ h];exact H _ h
      .exact I _ h
    cases hE:Vz (AP a t)with
    |false=>rfl
    |true=>exact absurd ((Ep _).1 hE) C
   have B:Cp (Av a) (AP a) s x=jj:=by
    unfold Ex at u;have:=(oC.1 u) x p;rw[D,oy]at this;simpa using this
   rw[<-IX (e:=a) (σ:=LO a) (λt j=>(Hd a t).symm)];exact B
  .unfold Av Bo
   congr 1
   refine nL (λt j=>?_);rw[Hd];by_cases d:t.v=0
   .unfold AP;rw[mK d,mK d]
   .rw[E1 d,E1 d];rcases g.head t j with h|h
    .exact absurd h d
    .exact(w _ h).symm
def fJ{i:UInt8->rc zA->rc zA}{c:AV}{g e:rc UInt8}(a:Tq c g e)(o:Z9 i (An c) f){σ:UInt8->zA}(n:∀x∈An c,Cp (Bo σ) (Eu σ) f x=jj):
  Bo σ c.head∈f\/Bo σ c.head∈S4 i c g e f:=by
 obtain⟨b,u,q,p,_⟩:=Ic a.lits o n g Bl (Ew.start σ) (λv h=>a.ok v (lo h));have j:Av b c.head=Bo σ c.head:=by
  unfold Av Bo
  congr 1
  refine nL (λt r=>?_);by_cases d:t.v=0
  .unfold AP Eu;rw[mK d,mK d]
  .rw[E1 d];unfold Eu;rw[mJ d];rcases a.head t r with h|h
   .exact absurd h d
   .exact p _ h
 by_cases k:Bo σ c.head∈f
 .exact lo k
 .right;obtain⟨w,m,_⟩:=Ic a.lits o n e b q (λv h=>a.ok v (lx h));unfold S4;refine mD.2 ⟨b,mT.2 ⟨u,?_⟩,j⟩;rw[mV];refine⟨?_,?_⟩
  .rw[j];cases hh:DB f (Bo σ c.head)with
   |false=>rfl
   |true=>exact absurd ((Ck _ _).1 hh) k
  .cases hl:Aw i (An c) f e b with
   |nil=>rw[hl]at m;simp at m
   |cons x l=>rfl
def R9(e:rc zA)(ts:rc AJ)(xs:rc zA):Bool:=(ts.zip xs).all λp=>Vz (AP e p.1)||(AP e p.1).toList==p.2.toList
def Hb(s:rc Af)(A:Dr)(i:Nat)(e:rc zA):rc zA:=(s.filter λf=>(f.name.toList==A.name.toList)&&R9 e A.args f.args).map λf=>f.args.getD i q9
def Di(body:rc Bw)(s:rc Af)(v:UInt8)(e:rc zA):rc (rc zA):=
 body.filterMap λx=>if x.kind==97 then(x.A.args.findIdx? λt=>t.v==v).map λi=>Hb s x.A i e else Y
def QA(al:UInt8->rc zA->rc zA)(body:rc Bw)(s:rc Af):Prop:=∀v e t,t∈al v e↔Di body s v e≠[]/\∀l∈Di body s v e,t∈l
def X7{e:rc zA}{σ:UInt8->zA}(b:Ew e σ):∀(a:rc AJ),(∀t∈a,BH t)->R9 e a (a.map (Eu σ))=jj
 |[],_=>rfl
 |t::a,hg=>by
  have ih:=X7 b a (λu c=>hg u (by simp[c]));unfold R9 at ih⊢;rw[mU,qG,p5,ih,Bool.and_true];cases hz:Vz (AP e t)with
  |true=>rfl
  |false=>
   rw[pq,b.val (hg t (by simp)) (λh=>by rw[(Ep _).2 h]at hz;cases hz)];simp
def TD{m:UInt8->rc zA->rc zA}{d:rc Bw}(B:QA m d f)(r:∀x∈d,MS x):Z9 m d f:=by
 intro v e σ n G F q;rw[B];refine⟨λg=>?_,λl k=>?_⟩
 .obtain⟨x,c,b,u,z,C⟩:=q;unfold Di at g;rw[List.filterMap_eq_nil_iff]at g;have a:=g x c;rw[mK b,Option.map_eq_none_iff,List.findIdx?_eq_none_iff]at a;have:=a u z;rw[C]at this;simp at this
 .unfold Di at k;obtain⟨x,c,a⟩:=oG.1 k;by_cases b:(x.kind==97)=jj
  .rw[mK b,pT]at a;obtain⟨i,E,rfl⟩:=a;obtain⟨o,D,_⟩:=oX.1 E;(have w:v≠0:=λh=>by rw[h]at n;exact absurd n.1 (by decide));(have j:x.A.args[i].v=v:=by simpa using D);have y:Bo σ x.A∈f:=by
    have:=F x c;unfold Cp at this;rw[mK b]at this;exact(Ck _ _).1 this
   unfold Hb;refine mD.2 ⟨Bo σ x.A,mT.2 ⟨y,?_⟩,?_⟩
   .rw[mV];refine⟨by simp[Bo],X7 G x.A.args (λt p=>r x c t ?_)⟩;unfold BC;rw[b,pW,mK rfl];exact p
   .unfold Bo;simp only;rw[mN,n6,mG o];simp only[ox,Option.getD_some];unfold Eu;rw[mJ (by rw[j];exact w),j]
  .rw[mJ b]at a;cases a
def iv{n:UInt8->rc zA->rc zA}{b:rc Bw}{s:rc Af}(y:QA n b s)(w:∀f∈s,JL f)(u:∀f∈s,∀x∈b,(x.kind==97)=jj->f.name=x.A.name->Z f.args=Z x.A.args):∀v e,∀t∈n v e,t.size≠0:=by
 intro v e t r;obtain⟨C,D⟩:=(y v e t).1 r;obtain⟨l,g⟩:∃l,l∈Di b s v e:=by
  cases h:Di b s v e with
  |nil=>exact absurd h C
  |cons a m=>exact⟨a,by simp⟩
 have o:=D l g;unfold Di at g;obtain⟨x,B,c⟩:=oG.1 g;by_cases d:(x.kind==97)=jj
 .rw[mK d,pT]at c;obtain⟨i,z,rfl⟩:=c;obtain⟨E,_,_⟩:=oX.1 z;unfold Hb at o;obtain⟨f,q,rfl⟩:=mD.1 o;obtain⟨k,p⟩:=mT.1 q;rw[mV]at p;have F:=u f k x B d (toList_inj (by simpa using p.1));have j:i<Z f.args:=by omega
  rw[mN,mG j];exact w f k _ (mw j)
 .rw[mJ d]at c;cases c
def aI{i:rc AV}{e:zA->Nat}(o:QK i e){k s:rc Af}(F:Hm i e n k)(h:Hm i e n s)(E:∀f∈k,f∈s)(A:∀f∈s,f∈k\/e f.name=n)
  {c:AV} (r:c∈i) (w:e c.head.name=n) {σ:UInt8->zA} (D:∀x∈An c,Cp (Bo σ) (Eu σ) k x=jj):
  Hm i e n (A9 s (Bo σ c.head))/\(∀f∈k,f∈A9 s (Bo σ c.head))/\(∀f∈A9 s (Bo σ c.head),f∈k\/e f.name=n):=by
 have B:Dw i (Bo σ c.head):=by
  refine⟨⟨c,r,rfl,by simp[Bo]⟩,λx Q=>?_⟩;obtain⟨t,z,rfl⟩:=mD.1 Q;by_cases q:t.v=0
  .unfold Eu;rw[mK q];unfold consts;exact m6.2 ⟨c,r,mD.2 ⟨t,mT.2 ⟨z,by rw[q];rfl⟩,rfl⟩⟩
  .rcases o.zM.head c r t z with H|⟨y,L,G,u,M,N⟩
   .exact absurd H q
   .have j:=D y L;unfold Cp at j;rw[mK G,Ck]at j;have l:=(F.zX _ j).args (Eu σ u) (mR M);unfold Eu at l⊢;rw[N]at l;rw[mJ q]at l⊢;exact l
 obtain⟨a,b,m⟩:=Ct (B.canon o.zN) h.zG (λf d=>(h.zX f d).canon o.zN);have j:=(IL c σ k).1 D;have C:Fa i (Da c σ):=⟨c,r,σ,j.2,rfl⟩;have I:=h.work.step (Fa i) (λf=>e f.name) o.lay.zY C w ⟨λg p=>E g (j.1.1 g p),λg p P=>by
  rcases A g P with h|h
  .exact j.1.2 g p h
  .have l:e g.name<e (Da c σ).head.name:=o.lay.zY.neg _ C g p
   have R:e (Da c σ).head.name=n:=w
   omega⟩
 refine⟨⟨I.cong _ _ (λf=>(m f).symm),a,λf d=>?_⟩,λf d=>(m f).2 (lo (E f d)),λf d=>?_⟩
 .rcases(m f).1 d with d|d
  .exact h.zX f d
  .rw[d];exact B
 .rcases(m f).1 d with d|d
  .exact A f d
  .right;rw[d];exact w
def Me(s:rc Af)(f:Af):Z s<=Z (A9 s f)/\(f∉s->Z (A9 s f)=Z s+1):=by
 unfold A9;cases hh:DB s f with
 |true=>rw[mK rfl];exact⟨mP _,λh=>absurd ((Ck _ _).1 hh) h⟩
 |false=>rw[mJ (by simp),Sz];exact⟨by omega,λ_=>rfl⟩
def Ml{b:rc AV}{a:zA->Nat}(e:QK b a){n:Nat}{d:rc Af}(i:Hm b a n d){c:AV}(j:c∈b)(k:a c.head.name=n):
  ∀(l:rc Af) (s:rc Af),(∀f∈l,∃σ,(∀x∈An c,Cp (Bo σ) (Eu σ) d x=jj)/\f=Bo σ c.head)->Hm b a n s->(∀f∈d,f∈s)->(∀f∈s,f∈d\/a f.name=n)->
   Hm b a n (l.foldl A9 s)/\Z s<=Z (l.foldl A9 s)
 |[],s,_,h,_,_=>⟨h,mP _⟩
 |f::l,s,hl,h,hsub,hnew=>by
  obtain⟨σ,r,rfl⟩:=hl f (by simp);obtain⟨m,p,q⟩:=aI e i h hsub hnew j k r;obtain⟨o,u⟩:=Ml e i j k l _ (λg t=>hl g (by simp[t])) m p q;rw[nh];have:=(Me s (Bo σ c.head)).1;exact⟨o,by omega⟩
structure XN where
 hv:AV->rc UInt8
 rv:AV->rc UInt8
 al:AV->rc Af->UInt8->rc zA->rc zA
def XN.new(W:XN)(c:AV)(s:rc Af):rc Af:=S4 (W.al c s) c (W.hv c) (W.rv c) s
def KF(W:XN)(a:rc Af×Bool)(c:AV):rc Af×Bool:=((W.new c a.1).foldl A9 a.1,a.2|| !(W.new c a.1).isEmpty)
def Gw(W:XN)(ds:rc AV)(s:rc Af):rc Af×Bool:=ds.foldl (KF W) (s,K)
structure Tb(W:XN)(cs:rc AV):Prop where
 parts:∀c∈cs,Tq c (W.hv c) (W.rv c)
 al:∀c∈cs,∀s,QA (W.al c s) (An c) s
 arity:∀c∈cs,∀d∈cs,∀x∈An d,(x.kind==97)=jj->c.head.name=x.A.name->Z c.head.args=Z x.A.args
def Tb.sizes{W:XN}{a:rc AV}{g:zA->Nat}(i:Tb W a)(m:QK a g)(u:∀c∈a,∀d∈a,c.head.name=d.head.name->Z c.head.args=Z d.head.args){s:rc Af}(h:Hm a g n s){c:AV}(j:c∈a):∀v e,∀t∈W.al c s v e,t.size≠0:=by
 refine iv (i.al c j s) (λf b=>((h.zX f b).canon m.zN).zM) (λf b x q l r=>?_);obtain⟨d,k,p,o⟩:=(h.zX f b).zd;rw[o];exact i.arity d k c j x q l (by rw[<-p];exact r)
def Pw{W:XN}{e:rc AV}{p:zA->Nat}(q:Tb W e)(k:QK e p)(r:∀c∈e,∀d∈e,c.head.name=d.head.name->Z c.head.args=Z d.head.args){n:Nat}:
  ∀(b:rc AV) (s:rc Af) (m:Bool),(∀c∈b,c∈e/\p c.head.name=n)->Hm e p n s->
   Hm e p n (b.foldl (KF W) (s,m)).1/\Z s<=Z (b.foldl (KF W) (s,m)).1/\
    ((b.foldl (KF W) (s,m)).2=K->(b.foldl (KF W) (s,m)).1=s/\m=K/\∀c∈b,W.new c s=[])/\
    ((b.foldl (KF W) (s,m)).2=jj->m=jj\/Z s<Z (b.foldl (KF W) (s,m)).1)
 |[],s,m,_,h=>⟨h,mP _,λi=>⟨rfl,i,λc j=>by simp at j⟩,λi=>lo i⟩
 |c::b,s,m,hd,h=>by
  rw[nh];have B:∀c∈b,c∈e/\p c.head.name=n:=λx o=>hd x (by simp[o])
  obtain⟨j,v⟩:=hd c (by simp);have t:∀f∈W.new c s,f∉s/\∃σ,(∀x∈An c,Cp (Bo σ) (Eu σ) s x=jj)/\f=Bo σ c.head:=λf a=>UT (q.parts c j) (q.sizes k r h j) a
  obtain⟨C,P⟩:=Ml k h j v (W.new c s) s (λf a=>(t f a).2) h (λf a=>a) (λf a=>lo a);cases hl:W.new c s with
  |nil=>
   (have y:KF W (s,m) c=(s,m):=by unfold KF;simp only;rw[hl];simp);rw[y];obtain⟨w,z,u,A⟩:=Pw q k r b s m B h;refine⟨w,z,λi=>?_,A⟩;obtain⟨D,I,E⟩:=u i;refine⟨D,I,λx o=>?_⟩;rcases mA.1 o with rfl|o
   .exact hl
   .exact E x o
  |cons f l=>
   have a:=t f (by rw[hl];simp);(have y:KF W (s,m) c=((W.new c s).foldl A9 s,jj):=by unfold KF;simp only;rw[hl];simp);rw[y];obtain⟨w,z,u,A⟩:=Pw q k r b _ jj B C;have N:Z s<Z ((W.new c s).foldl A9 s):=by
    rw[hl,nh];have M:=(Me s f).2 a.1;obtain⟨σ,H,rfl⟩:=a.2;obtain⟨G,q2,q3⟩:=aI k h h (λf a=>a) (λf a=>lo a) j v H;have L:=(Ml k h j v l _ (λg F=>(t g (by rw[hl];simp[F])).2) G q2 q3).2;omega
   refine⟨w,by omega,λi=>?_,λi=>lx (by omega)⟩;have:=(u i).2.1;cases this
def dd{W:XN}{a:rc AV}{e:zA->Nat}(l:Tb W a)(r:QK a e)(w:∀c∈a,∀d∈a,c.head.name=d.head.name->Z c.head.args=Z d.head.args){b:rc AV}(o:∀c,c∈b↔c∈a/\e c.head.name=n){s:rc Af}(h:Hm a e n s):
  Hm a e n (Gw W b s).1/\((Gw W b s).2=K->(Gw W b s).1=s/\Hm a e (n+1) s)/\
   ((Gw W b s).2=jj->Z s<Z (Gw W b s).1)/\Z (Gw W b s).1<=Z (VH a):=by
 unfold Gw;obtain⟨q,B,x,y⟩:=Pw l r w b s K (λc g=>(o c).1 g) h;refine⟨q,λm=>?_,λm=>?_,q.len r.zN⟩
 .obtain⟨t,_,u⟩:=x m;refine⟨t,h.work.next (Fa a) (λf=>e f.name) ?_,h.zG,h.zX⟩;rintro i ⟨c,g,σ,A,rfl⟩ z v;have j:=(IL c σ s).2 ⟨v,A⟩;rcases fJ (l.parts c g) (TD (l.al c g s) (l.parts c g).lits) j with k|k
  .exact k
  .have p:W.new c s=[]:=u c ((o c).2 ⟨g,z⟩);unfold XN.new at p;rw[p]at k;simp at k
 .rcases y m with j|j
  .cases j
  .exact j
def GA(L:zA->Nat)(n:Nat)(x:Bw):Nat:=if x.kind==97 then max n (L x.A.name)else if x.kind==33 then max n (L x.A.name+1)else n
def Hq(L:zA->Nat)(body:rc Bw):Nat:=body.foldl (GA L) 0
def QH(L:zA->Nat)(k:zA)(n:Nat):zA->Nat:=λx=>if x.toList==k.toList then n else L x
def Ff(a:(zA->Nat)×Bool)(c:AV):(zA->Nat)×Bool:=if a.1 c.head.name<Hq a.1 (An c)then(QH a.1 c.head.name (Hq a.1 (An c)),jj)else a
def M9(cs:rc AV)(L:zA->Nat):(zA->Nat)×Bool:=cs.foldl Ff (L,K)
def EW(cs:rc AV)(L:zA->Nat):Nat:=(cs.map λc=>L c.head.name).sum
def Iq(L:zA->Nat)(k:zA)(n:Nat):QH L k n k=n:=by unfold QH;simp
def Kr{L:zA->Nat}(n:Nat)(h:t≠s):QH L s n t=L t:=by
 unfold QH;rw[mJ (λa=>h (toList_inj (by simpa using a)))]
def Pt(L:zA->Nat):∀(a:rc Bw) (n:Nat),n<=a.foldl (GA L) n/\∀x∈a,((x.kind==97)=jj->L x.A.name<=a.foldl (GA L) n)/\((x.kind==33)=jj->L x.A.name<a.foldl (GA L) n)
 |[],n=>⟨mP _,λx c=>by simp at c⟩
 |y::a,n=>by
  rw[nh];obtain⟨k,i⟩:=Pt L a (GA L n y);have e:n<=GA L n y/\((y.kind==97)=jj->L y.A.name<=GA L n y)/\((y.kind==33)=jj->L y.A.name<GA L n y):=by
   unfold GA;by_cases b:(y.kind==97)=jj
   .rw[mK b];refine⟨by omega,λ_=>by omega,λj=>?_⟩;(have g:y.kind=97:=by simpa using b);(have f:y.kind=33:=by simpa using j);rw[g]at f;exact absurd f (by decide)
   .rw[mJ b];by_cases d:(y.kind==33)=jj
    .rw[mK d];exact⟨by omega,λh=>absurd h b,λ_=>by omega⟩
    .rw[mJ d];exact⟨by omega,λh=>absurd h b,λh=>absurd h d⟩
  refine⟨by omega,λx c=>?_⟩;rcases mA.1 c with rfl|c
  .exact⟨λh=>by have:=e.2.1 h;omega,λh=>by have:=e.2.2 h;omega⟩
  .exact i x c
def Ph{L:zA->Nat}{b:Nat}:∀(a:rc Bw) (n:Nat),n<=b->(∀x∈a,((x.kind==97)=jj->L x.A.name<=b)/\((x.kind==33)=jj->L x.A.name<b))->a.foldl (GA L) n<=b
 |[],n,hn,_=>hn
 |y::a,n,hn,h=>by
  rw[nh];refine Ph a _ ?_ (λx g=>h x (by simp[g]));obtain⟨f,e⟩:=h y (by simp);unfold GA;by_cases c:(y.kind==97)=jj
  .rw[mK c];have:=f c;omega
  .rw[mJ c];by_cases d:(y.kind==33)=jj
   .rw[mK d];have:=e d;omega
   .rw[mJ d];exact hn
def Z2{cs:rc AV}{L a:zA->Nat}(h:∀x,L x<=a x):EW cs L<=EW cs a:=by
 unfold EW
 induction cs with
 |nil=>simp
 |cons c cs ih=>
  simp only[mU,List.sum_cons];have:=h c.head.name;omega
def ic{cs:rc AV}{L b:zA->Nat}(h:∀x,L x<=b x){c:AV}(a:c∈cs)(f:L c.head.name<b c.head.name):EW cs L<EW cs b:=by
 induction cs with
 |nil=>simp at a
 |cons d cs ih=>
  have i:=h d.head.name;have g:=Z2 (cs:=cs) h;have e:∀M,EW (d::cs) M=M d.head.name+EW cs M:=λM=>by unfold EW;simp
  rw[e,e];rcases mA.1 a with rfl|a
  .omega
  .have:=ih a;omega
def KO{e:rc AV}{g:zA->Nat}(j:CG e g):∀(b:rc AV) (L:zA->Nat) (m:Bool),(∀c∈b,c∈e)->(∀x,L x<=g x)->
  (∀x,L x<=(b.foldl Ff (L,m)).1 x)/\(∀x,(b.foldl Ff (L,m)).1 x<=g x)/\
   ((b.foldl Ff (L,m)).2=K->(b.foldl Ff (L,m)).1=L/\m=K/\∀c∈b,Hq L (An c)<=L c.head.name)/\
   ((b.foldl Ff (L,m)).2=jj->m=jj\/EW e L<EW e (b.foldl Ff (L,m)).1)
 |[],L,m,_,h=>⟨λx=>mP _,h,λd=>⟨rfl,d,λc i=>by simp at i⟩,λd=>lo d⟩
 |c::b,L,m,hd,h=>by
  rw[nh];have s:∀c∈b,c∈e:=λx a=>hd x (by simp[a])
  have i:=hd c (by simp);by_cases p:L c.head.name<Hq L (An c)
  ·(have o:Ff (L,m) c=(QH L c.head.name (Hq L (An c)),jj):=by unfold Ff;rw[mK p]);rw[o];have q:∀x,L x<=QH L c.head.name (Hq L (An c)) x:=by
    intro x;by_cases a:x=c.head.name
    .subst a;rw[Iq];omega
    .rw[Kr _ a];exact mP _
   have v:Hq L (An c)<=g c.head.name:=by
    refine Ph _ _ (mO _) (λx a=>⟨λl=>?_,λl=>?_⟩)
    .exact nD (h _) (j.pos c i x a l)
    .exact Nat.lt_of_le_of_lt (h _) (j.neg c i x a l)
   have y:∀x,QH L c.head.name (Hq L (An c)) x<=g x:=by
    intro x;by_cases a:x=c.head.name
    .subst a;rw[Iq];exact v
    .rw[Kr _ a];exact h x
   obtain⟨f,k,n,r⟩:=KO j b _ jj s y;refine⟨λx=>nD (q x) (f x),k,λd=>?_,λd=>lx ?_⟩
   .have:=(n d).2.1;cases this
   .refine ic (λx=>nD (q x) (f x)) i ?_;have w:=f c.head.name;rw[Iq]at w;omega
  ·(have o:Ff (L,m) c=(L,m):=by unfold Ff;rw[mJ p]);rw[o];obtain⟨f,k,n,r⟩:=KO j b L m s h;refine⟨f,k,λd=>?_,r⟩;obtain⟨t,z,u⟩:=n d;refine⟨t,z,λx a=>?_⟩;rcases mA.1 a with rfl|a
   .omega
   .exact u x a
def Zt{a:rc AV}{e:zA->Nat}(p:CG a e){L:zA->Nat}(h:∀x,L x<=e x):
  (∀x,(M9 a L).1 x<=e x)/\((M9 a L).2=K->(M9 a L).1=L/\CG a L)/\((M9 a L).2=jj->EW a L<EW a (M9 a L).1)/\EW a (M9 a L).1<=EW a e:=by
 unfold M9;obtain⟨_,k,n,o⟩:=KO p a L K (λc d=>d) h;refine⟨k,λf=>?_,λf=>?_,Z2 k⟩
 .obtain⟨m,_,l⟩:=n f;refine⟨m,λc d x j g=>?_,λc d x j g=>?_⟩
  .have b:=((Pt L (An c) 0).2 x j).1 g;have i:Hq L (An c)<=L c.head.name:=l c d;exact nD b i
  .have b:=((Pt L (An c) 0).2 x j).2 g;have i:Hq L (An c)<=L c.head.name:=l c d;exact oz b i
 .rcases o f with b|b
  .cases b
  .exact b
def DP(acc:rc UInt8)(t:AJ):rc UInt8:=if(t.v !=0&& !acc.contains t.v)=jj then acc++[t.v] else acc
def DR(acc:rc UInt8)(ts:rc AJ):rc UInt8:=ts.foldl DP acc
def EL:∀(f:rc AJ) (c:rc UInt8),c.Nodup->(∃r,DR c f=c++r)/\(DR c f).Nodup/\∀v,v∈DR c f↔v∈c\/(v≠0/\∃t∈f,t.v=v)
 |[],c,h=>⟨⟨[],by simp[DR]⟩,h,λv=>by simp[DR]⟩
 |t::f,c,h=>by
  have e:DR c (t::f)=DR (DP c t) f:=rfl;rw[e];by_cases i:(t.v !=0&& !c.contains t.v)=jj
  ·(have m:DP c t=c++[t.v]:=by unfold DP;rw[mK i]);rw[m];rw[mV]at i;have y:t.v∉c:=by
    intro j;have:=i.2;rw[ql.2 j]at this;cases this
   (have w:t.v≠0:=by simpa using i.1);have x:(c++[t.v]).Nodup:=by
    rw[p9];refine⟨h,by simp,λa n b o s=>?_⟩;rw[my]at o;subst o;rw[s]at n;exact y n
   obtain⟨⟨r,p⟩,k,l⟩:=EL f (c++[t.v]) x;refine⟨⟨t.v::r,by rw[p];simp⟩,k,λv=>?_⟩;rw[l,mF,my];constructor
   .rintro ((h|h)|⟨h,u,d,g⟩)
    .exact lo h
    .subst h;exact lx ⟨w,t,by simp,rfl⟩
    .exact lx ⟨h,u,by simp[d],g⟩
   .rintro (h|⟨h,u,d,g⟩)
    .exact lo (lo h)
    .rcases mA.1 d with rfl|d
     .exact lo (lx g.symm)
     .exact lx ⟨h,u,d,g⟩
  ·(have m:DP c t=c:=by unfold DP;rw[mJ i]);rw[m];obtain⟨q,k,l⟩:=EL f c h;refine⟨q,k,λv=>?_⟩;rw[l];constructor
   .rintro (h|⟨h,u,d,g⟩)
    .exact lo h
    .exact lx ⟨h,u,by simp[d],g⟩
   .rintro (h|⟨h,u,d,g⟩)
    .exact lo h
    .rcases mA.1 d with rfl|d
     .left;subst g;rw[mV]at i;cases j:c.contains u.v with
      |true=>exact ql.1 j
      |false=>exact absurd ⟨by simpa using h,by rw[j];rfl⟩ i
     .exact lx ⟨h,u,d,g⟩
def CP(c:AV):rc UInt8:=DR [] c.head.args
def DL(c:AV):rc UInt8:=(DR [] (c.head.args++(An c).flatMap BC)).drop (Z (CP c))
def PD(c:AV):DR [] (c.head.args++(An c).flatMap BC)=CP c++DL c:=by
 have e:DR [] (c.head.args++(An c).flatMap BC)=DR (CP c) ((An c).flatMap BC):=by
  unfold DR CP DR;rw[nH]
 obtain⟨⟨r,a⟩,_,_⟩:=EL ((An c).flatMap BC) (CP c) (EL c.head.args [] ph).2.1;unfold DL;rw[e,a,List.drop_left]
def Yd{o:rc AV}(m:R2 o){c:AV}(n:c∈o)(w:∀x∈An c,Dz x):Tq c (CP c) (DL c):=by
 have i:=EL (c.head.args++(An c).flatMap BC) [] ph;have z:=EL c.head.args [] ph;rw[PD]at i;have k:∀t,t.v≠0->Gl (An c) t->∃x∈An c,(x.kind==97)=jj/\∃u∈x.A.args,u.v=t.v:=by
  intro t b r;rcases r with h|h
  .exact absurd h b
  .exact h
 have s:∀v,v∈CP c\/v∈DL c->∃x∈An c,(x.kind==97)=jj/\∃u∈x.A.args,u.v=v:=by
  intro v g;have d:=(i.2.2 v).1 (mF.2 g);rcases d with d|⟨b,t,a,rfl⟩
  .simp at d
  .rcases mF.1 a with a|a
   .exact k t b (m.head c n t a)
   .obtain⟨x,e,a⟩:=m6.1 a;by_cases f:(x.kind==97)=jj
    .unfold BC at a;rw[f,pW,mK rfl]at a;exact⟨x,e,f,t,a,rfl⟩
    .have q:=m.safe c n x e (by simpa using f);unfold BC at a;by_cases j:(x.kind==33)=jj
     .rw[j,qB,mK rfl]at a;exact k t b (q.1 j t a)
     .rw[mJ (by rw[om,not_or];exact⟨f,j⟩)]at a;obtain⟨s1,s2⟩:=q.2 (by simpa using j);rcases mA.1 a with rfl|a
      .exact k _ b s1
      .rw[my]at a;subst a;exact k _ b s2
 refine⟨λv g=>?_,?_,?_,?_,λx e=>(w x e).ym⟩
 .obtain⟨x,e,f,u,p,l⟩:=s v g;refine⟨?_,x,e,f,u,p,l⟩;have d:=(i.2.2 v).1 (mF.2 g);have b:v≠0:=by
   rcases d with d|d
   .simp at d
   .exact d.1
  rcases m.args c n x e f u p with h|h
  .rw[l]at h;exact absurd h.1 b
  .rw[l]at h;exact h
 .intro v g y;have:=(p9.1 i.2.1).2.2 v g v y;exact this rfl
 .intro t a;by_cases b:t.v=0
  .exact lo b
  .exact lx ((z.2.2 t.v).2 (lx ⟨b,t,a,rfl⟩))
 .intro x e t a;by_cases b:t.v=0
  .exact lo b
  .right;exact mF.1 ((i.2.2 t.v).2 (lx ⟨b,t,mF.2 (lx (m6.2 ⟨x,e,a⟩)),rfl⟩))
def BY.zg{a:rc AV}(h:BY a):∀c∈a,BQ a c.head.name=(Z c.head.args:Int):=by
 intro c b;obtain⟨k,d,rfl⟩:=nw b;exact(Fd (h.each k d)).2.2.2.2.2.1
def BY.yS{a:rc AV}(h:BY a):∀c∈a,∀x∈An c,(x.kind==97)=jj->BQ a x.A.name=(Z x.A.args:Int):=by
 intro c g x i e;obtain⟨k,f,rfl⟩:=nw g;obtain⟨p,d,rfl⟩:=mD.1 i;have b:=(oM.1 (Fd (h.each k f)).2.2.2.2.2.2.1) p d;unfold Ci MP at b;rw[e,pW,oy]at b;simpa using b
def BY.ar2{a:rc AV}(h:BY a):∀c∈a,∀d∈a,c.head.name=d.head.name->Z c.head.args=Z d.head.args:=by
 intro c f d b e;have g:=h.zg c f;rw[e,h.zg d b]at g;omega
def BY.ar3{a:rc AV}(h:BY a):∀c∈a,∀d∈a,∀x∈An d,(x.kind==97)=jj->c.head.name=x.A.name->Z c.head.args=Z x.A.args:=by
 intro c i d b x j f e;have g:=h.zg c i;rw[e,h.yS d b x j f]at g;omega
def SO(a:rc AV):∀(d:Nat) (x:zA),B3 a d x<=d
 |0,x=>mP 0
 |d+1,x=>by
  by_cases h:0<B3 a (d+1) x
  .obtain⟨y,b,e,f⟩:=Sa a d x h;have g:b<=1:=by
    obtain⟨c,_,_,l,_,_,h|h⟩:=e<;>omega
   have:=SO a d y;omega
  .omega
def BY.small{a:rc AV}(h:BY a):Z a<=12/\∀c∈a,Z c.bl<=3/\Z c.head.args<=2/\∀p∈c.bl,BM p=K:=by
 have e:∀k (d:k<Z a),k<12/\a[k].bl.length<=3/\a[k].head.args.length<=2/\∀p∈a[k].bl,BM p=K:=by
  intro k d;have b:=h.each k d;unfold Cv at b;by_cases f:12<=k\/3<a[k].bl.length
  .rw[mK f]at b;cases b
  rw[mJ f]at b;by_cases g:2<a[k].head.args.length
  .rw[mK g]at b;cases b
  rw[mJ g]at b;cases a3:a[k].bl.any BM with
  |true=>rw[a3,mK rfl]at b;cases b
  |false=>
   refine⟨by omega,by omega,by omega,λp i=>?_⟩;rw[oC]at a3;cases hm:BM p with
   |false=>rfl
   |true=>exact absurd hm (a3 p i)
 refine⟨?_,λc l=>?_⟩
 .by_cases j:Z a<=12
  .exact j
  .have:=(e 12 (by omega)).1;omega
 .obtain⟨k,d,rfl⟩:=nw l;exact(e k d).2
def Yx(a:rc AV)(h:∀c∈a,Z c.head.args<=2):Z (consts a)<=Z a*2:=by
 unfold consts
 induction a with
 |nil=>simp
 |cons c a ih=>
  have f:=ih (λd b=>h d (no _ b));have e:=h c (nK ..);have g:=oo (λt:AJ=>t.v==0) c.head.args;simp only[mX,mM,mI,mL];omega
def KH(l:rc zA):∀n,Z (EA l n)=Z l^n
 |0=>rfl
 |n+1=>by
  have ih:=KH l n;unfold EA;have:∀m:rc zA,Z (m.flatMap λx=>(EA l n).map (x:: ·))=Z m*Z l^n:=by
   intro m
   induction m with
   |nil=>simp
   |cons x m ih2=>
    simp only[mX,mM,mI,ih2,ih,mL,oZ,Nat.one_mul];omega
  rw[this l,Nat.pow_succ,Nat.mul_comm]
def gn{a:rc AV}(m:Z a<=12)(h:∀c∈a,Z c.head.args<=2):Z (VH a)<=6912:=by
 have j:Z (consts a)<=24:=by have:=Yx a h;omega
 have g:∀n,n<=2->Z (EA (consts a) n)<=576:=by
  intro n k;rw[KH]
  match n,k with
  |0,_=>simp
  |1,_=>simp;omega
  |2,_=>
   have:Z (consts a)^2<=24^2:=Nat.pow_le_pow_left j 2;omega
 have f:∀b:rc AV,(∀c∈b,Z c.head.args<=2)->Z (b.flatMap λc=>(EA (consts a) (Z c.head.args)).map (Af.mk c.head.name))<=Z b*576:=by
  intro b
  induction b with
  |nil=>simp
  |cons c b ih=>
   intro e;have o:=ih (λd i=>e d (no _ i));have l:=g _ (e c (nK ..));simp only[mX,mM,mI,mL,oZ,Nat.one_mul];omega
 have:=f a h;unfold VH;omega
structure lm(cs:rc AV):Prop where
 small:Z cs<=1000/\∀c∈cs,Z c.bl<=3/\Z c.head.args<=2/\∀p∈c.bl,BM p=K
 few:∀s:rc Af,s.Nodup->(∀f∈s,Dw cs f)->Z s<=6912
 ar2:∀c∈cs,∀d∈cs,c.head.name=d.head.name->Z c.head.args=Z d.head.args
 ar3:∀c∈cs,∀d∈cs,∀x∈An d,(x.kind==97)=jj->c.head.name=x.A.name->Z c.head.args=Z x.A.args
 zg:∀c∈cs,BQ cs c.head.name=(Z c.head.args:Int)
 six:Z (Bj cs)<=6
def KY{a:rc AV}(h:BY a):Z (Bj a)<=6:=by
 cases a with
 |nil=>exact mO _
 |cons c l=>
  have b:=(Fd (h.each (Z l) (by simp))).2.2.2.2.1;rw[mz (by simp)]at b;exact b
def BY.ordr{a:rc AV}(h:BY a):lm a:=by
 obtain⟨e,b⟩:=h.small;refine⟨⟨by omega,b⟩,λs i d=>?_,h.ar2,h.ar3,h.zg,KY h⟩;have l:=IE s (VH a) i λf g=>(d f g).mem
 have k:=gn e (λc j=>(b c j).2.1);omega
structure Cn(cs:rc AV):Prop where
 order:lm cs
 prog:QK cs (B3 cs 6)
 lits:∀c∈cs,∀x∈An c,Dz x
 zN:∀c∈cs,Nc c.head
def DQ{d:rc AV}(h:(Aj s (Ae s 0)).2.2=K)(a:d.map AV.erase=(Aj s (Ae s 0)).1)(e:CQ d=(0,0)):Cn d:=
 ⟨(J0 e).ordr,dC h a e,λc b=>(MG h a c b).2,λc b=>(MG h a c b).1⟩
def Fg(al:AV->rc Af->UInt8->rc zA->rc zA):XN:=⟨CP,DL,al⟩
def Cn.ways{a:rc AV}(h:Cn a){b:AV->rc Af->UInt8->rc zA->rc zA}(e:∀c∈a,∀s,QA (b c s) (An c) s):Tb (Fg b) a:=
 ⟨λc d=>Yd h.prog.zM d (h.lits c d),e,h.order.ar3⟩
def Cn.other(h:Cn c){L:zA->Nat}(a:CG c L):QK c L:=⟨h.prog.zM,a,h.prog.zN⟩
def Cn.grow{a:rc AV}(h:Cn a){al:AV->rc Af->UInt8->rc zA->rc zA}(b:∀c∈a,∀f,QA (al c f) (An c) f){L:zA->Nat}(e:CG a L){ds:rc AV}(d:∀c,c∈ds↔c∈a/\L c.head.name=n)(g:Hm a L n f):
  Hm a L n (Gw (Fg al) ds f).1/\((Gw (Fg al) ds f).2=K->(Gw (Fg al) ds f).1=f/\Hm a L (n+1) f)/\
   ((Gw (Fg al) ds f).2=jj->Z f<Z (Gw (Fg al) ds f).1)/\Z (Gw (Fg al) ds f).1<=Z (VH a):=
 dd (h.ways b) (h.other e) h.order.ar2 d g
def Cn.round(h:Cn c)(a:Hm c (B3 c 6) n f):
  Hm c (B3 c 6) n (D9 c (B3 c 6) n f).1/\((D9 c (B3 c 6) n f).2=K->(D9 c (B3 c 6) n f).1=f/\Hm c (B3 c 6) (n+1) f)/\
   ((D9 c (B3 c 6) n f).2=jj->Z f<Z (D9 c (B3 c 6) n f).1)/\Z (D9 c (B3 c 6) n f).1<=Z (VH c):=
 Nl h.prog a
def Cn.one{a:rc AV}(h:Cn a){s t:rc Af}(d:Hm a (B3 a 6) 7 s){L:zA->Nat}(f:CG a L)(b:Hm a L n t)(e:∀c∈a,L c.head.name<n):s=t:=
 aH h.prog (h.other f) d b (λc _=>by have:=SO a 6 c.head.name;omega) e
def D8:zA->Bool->rc zA->zA
 |s,_,[]=>s
 |s,b,x::l=>D8 (s++(if b then⟨#[44]⟩else⟨#[40]⟩)++B5 x) jj l
def FK(p:CJ):zA:=D8 p.name K p.zC++⟨#[41,46]⟩
def TI:zA->rc CJ->zA
 |t,[]=>t
 |t,p::l=>TI (t++FK p++⟨#[10]⟩) l
def iQ:zA->rc Af->zA
 |t,[]=>t
 |t,f::l=>iQ (t++Bv f++⟨#[10]⟩) l
def Qh:∀(l:rc zA) (s:zA),(∀x∈l,A8 x)->D8 s jj (l.map AD)=Gr s jj l
 |[],s,_=>rfl
 |x::l,s,h=>by
  rw[mU,D8,Gr,GO (h x (by simp)),Qh l _ (λy a=>h y (by simp[a]))];simp
def PJ{f:Af}(h:AL f)(b:f.args≠[]):FK (Bq f)=Bv f:=by
 unfold FK Bv Bq;simp only;cases hl:f.args with
 |nil=>exact absurd hl b
 |cons x l=>
  have a:∀y∈x::l,A8 y:=by rw[<-hl];exact h
  rw[mU,D8,Gr,GO (a x (by simp)),Qh l _ (λy c=>a y (by simp[c]))];simp
def Xy:∀(l:rc Af) (t:zA),(∀f∈l,AL f/\f.args≠[])->TI t (l.map Bq)=iQ t l
 |[],t,_=>rfl
 |f::l,t,h=>by
  obtain⟨a,c⟩:=h f (by simp);rw[mU,TI,iQ,PJ a c,Xy l _ (λg b=>h g (by simp[b]))]
def gN:∀(l:rc BP) (t:zA),On t l=iQ t (l.map BP.f)
 |[],t=>rfl
 |p::l,t=>by rw[On,mU,iQ,gN l]
def fA(s:zA)(a:Nat):(Cq s a).1≠[]:=by
 rw[Cq];split<;>simp
def eU(h:(A4 s n K).2.2=K):(A4 s n K).1.args≠[]:=by
 unfold A4 at h⊢;simp only at h⊢;have a:=IF h;unfold DZ at a⊢;cases hm:(Bk s (AY s (AF s n K) K).2.1 (AY s (AF s n K) K).2.2 40).2 with
 |true=>rw[hm,mK rfl]at a;cases a
 |false=>rw[mJ (by simp)];exact fA _ _
def Q6(h:(Ao s n).2.2=K):(Ao s n).1.head.args≠[]:=by
 unfold Ao at h⊢;simp only at h⊢;exact eU (GH (IF h)).1
def Wv{s:zA}{b:Nat}(h:(Aj s b).2.2=K):∀c∈(Aj s b).1,c.head.args≠[]:=by
 fun_induction Aj s b with
 |case1 b ha hc ih=>
  intro c a;rcases mA.1 a with rfl|a
  .exact Q6 hc.1
  .exact ih h c a
 |case2 b ha hc=>
  intro c a;rw[my]at a;subst a;exact Q6 h
 |case3 b ha=>intro c a;cases a
def OM{a:rc AV}(h:(Aj s n).2.2=K)(e:a.map AV.erase=(Aj s n).1):∀c∈a,c.head.args≠[]:=by
 intro c d;have b:c.erase∈(Aj s n).1:=by rw[<-e];exact mR d
 exact Wv h _ b
def Cn.text{a:rc AV}(h:Cn a)(j:∀c∈a,c.head.args≠[]){i:rc BP}(m:Hm a (B3 a 6) 7 (i.map BP.f)){L:zA->Nat}(k:CG a L){t:rc Af}(b:Hm a L n t)(o:∀c∈a,L c.head.name<n):
  TI q9 (t.map Bq)=On q9 i:=by
 have e:=h.one m k b o;rw[gN,e];refine Xy t _ (λf d=>⟨(b.zX f d).canon h.prog.zN,λl=>?_⟩);obtain⟨c,p,_,g⟩:=(b.zX f d).zd;rw[l]at g;exact j c p (oQ g.symm)
structure Io(w:ly)(sv:Value)(fs:rc Eb):Prop where
 row:oi w 0 104 2 sv (Z fs) (fs.flatMap AM)
 each:∀p∈fs,C8 w p/\Z p.f.zC<=1000
def Io.kept{w w':ly}{c:Value}{b:rc Eb}(h:Io w c b)(k:Ac [] w w'):Io w' c b:=⟨Ad h.row k,λp a=>⟨(h.each p a).1.kept k,(h.each p a).2⟩⟩
def J5{b:rc Eb}(h:Io w z b)(k:Nat)(d:k<Z b):
  ∃g m n a i f,z=U (V ⟨g,0,Y⟩) (Z b) m/\b[k]=⟨⟨n,a⟩,U i (Z a) f⟩/\oa w ⟨g,k*2,Y⟩=V (O n)/\oa w ⟨g,k*2+1,Y⟩=V (U i (Z a) f):=by
 obtain⟨g,m,s,_,r⟩:=AC h.row (λc _=>rfl) k d;have j:=r k d 0 (by omega);have l:=r k d 1 (by omega);obtain⟨⟨⟨n,a⟩,t⟩,o⟩:∃p,b[k]=p:=⟨_,rfl⟩;have q:=(h.each _ (mw d)).1;rw[o]at j l q;obtain⟨i,f,e⟩:=Al q;simp only at e;subst e;simp[AM]at j l;exact⟨g,m,n,a,i,f,s,o,j,l⟩
structure E8(fs:rc Eb)(x:CJ)(p:Nat):Prop where
 le:p<=Z fs
 below:∀i (h:i<Z fs),i<p->CX fs[i].f x<0
 zj:∀i (h:i<Z fs),p<=i->¬CX fs[i].f x<0
def De(fs:rc Eb)(x:CJ)(p:Nat):Bool:=if h:p<Z fs then CX fs[p].f x==0 else K
theorem Jc(DT:Option Addr)(CC:Nat)(c:rc Eb)(x:Eb)(w:ly)(h:Io w (U DT (Z c) CC) c)(W:C8 w x)(FC:Z x.f.zC<=1000)(HH:Z c<=1000000)(CL:∀i j (l:i<Z c) (hj:j<Z c),i<=j->CX c[j].f x.f<0->CX c[i].f x.f<0):
  Calls prog 103 #[U DT (Z c) CC,oj (j2 (AM x)),.func (.func 104) #[] #[]] w λe t=>∃p:Nat,e=kt (.tuple #[X J p,q8 (De c x.f p)])/\E8 c x.f p/\Ac [] w t:=by
 have I:nc (∀(p:Eb) wr,p∈c->Ac [] w wr->Calls prog 104 #[oj (j2 (AM p)),oj (j2 (AM x))] wr λe t=>e=kt (X J (CX p.f x.f))/\Ac [] wr t):=λp wr hp hk=>Vh p x wr ((h.each p hp).1.kept hk) (W.kept hk) (by have:=(h.each p hp).2;omega) (by omega)
 have HS:=Ab h;have H:=Ab CL;obtain⟨⟨u,v⟩,xv⟩:=x;obtain⟨A,B,B9⟩:=Al W;simp only at B9;subst B9;simp only[AM]at I⊢;simp only at H;have s:=Ab (rf w [O u,U A (Z v) B] 104);have q:=Ab ((re [] w).alloc (j1 [O u,U A (Z v) B].toArray 104));obtain⟨m,hX⟩:∃m:CJ,m=⟨u,v⟩:=⟨_,rfl⟩;rw[<-hX]at H I⊢;clear h W FC CL hX;go_enter func103,ntmps103;go_wp2;change Code.wp _ _ _ _ (w.alloc (j1 [O u,U A (Z v) B].toArray 104));generalize w.alloc (j1 [O u,U A (Z v) B].toArray 104)=w1 at s q⊢;generalize w.heap.size=N at s⊢
 go_loopg [9,10] (Z c) (λgk a b wr=>∃(d l:Nat),a=X J d/\b=X J l/\d<=l/\l<=Z c/\gk=l-d/\nc (∀i (h:i<Z c),i<d->CX c[i].f m<0)/\nc (∀i (h:i<Z c),l<=i->¬CX c[i].f m<0)/\nc (Ac [] w wr)/\nc (AI wr N [O u,U A (Z v) B] 104))
 case atStart=>exact⟨0,Z c,rfl,rfl,by omega,by omega,rfl,λi h h0=>by omega,λi h h0=>by omega,q,s⟩
 case round=>
  clear s q;obtain⟨d,l,rfl,rfl,H1,A0,CW,B0,Bx,q,s⟩:=hrel;have HG:=Ab CW;clear CW;have c0:=s.cell 0;have c1:=s.cell 1;simp at c0 c1;by_cases HP:d<l
  .obtain⟨k,HJ⟩:=rd ((d+l)/2);(have HZ:d<=k:=by omega);(have HR:k<l:=by omega);(have R:k<Z c:=by omega);(have H2:((d:Int)+(l:Int))>>>(1:Nat)=(k:Int):=by rw[Int.shiftRight_eq_div_pow];omega);(have HY:((d:Int)+(l:Int))/2=(k:Int):=by omega);obtain⟨g,HD,n,L,ad,cp,E,y,d0,d1⟩:=J5 (HS.kept q) k R;simp only[mu]at E;obtain⟨rfl,_,rfl⟩:=E;have o:=Ab (I c[k] wr.drew (mw R) q.drew);(have Q:nc (CX c[k].f m<0->∀i (h:i<Z c),i<k+1->CX c[i].f m<0):=λhc i h EX=>H i k h R (by omega) hc);(have S:nc (¬CX c[k].f m<0->∀i (h:i<Z c),k<=i->¬CX c[i].f m<0):=λhc i h EX hh=>hc (H k i R h (by omega) hh));rw[y]at o;simp only at o;obtain⟨C,F⟩:=rd (CX c[k].f m);rw[F]at Q S;rw[y]at F;simp only at F;rw[F]at o;clear y F;by_cases BA:C<0
   .have HT:=Ab (Q BA);clear Q S;go_wp2_with fail
    go_region_law (go_simp;go_at_call 104;refine o.mono ?_;rintro e M ⟨rfl,r⟩;have z:=Ab (q.drew.trans r);have AB:=Ab (s.drew.kept r);clear r)
    all_goals
     clear o;go_wp2
     go_roundg (l-(k+1))
     case measure=>have:=Aa HG;omega
     case rel=>exact⟨k+1,l,by go_num,rfl,by omega,A0,rfl,HT,Bx,z,AB⟩
   .have HT:=Ab (S BA);clear Q S;go_wp2_with fail
    go_region_law (go_simp;go_at_call 104;refine o.mono ?_;rintro e M ⟨rfl,r⟩;have z:=Ab (q.drew.trans r);have AB:=Ab (s.drew.kept r);clear r)
    all_goals
     clear o;go_wp2
     go_roundg (k-d)
     case measure=>have:=Aa HG;omega
     case rel=>exact⟨d,k,rfl,rfl,by omega,by omega,rfl,B0,HT,z,AB⟩
  ·(have FT:d=l:=by omega);subst FT;have ES:nc (E8 c m d):=⟨A0,B0,Bx⟩;by_cases G:d<Z c
   ·(have FA:(d:Int)<(Z c:Int):=by omega);obtain⟨g,HD,n,L,ad,cp,E,y,d0,d1⟩:=J5 (HS.kept q) d G;simp only[mu]at E;obtain⟨rfl,_,rfl⟩:=E;have o:=Ab (I c[d] wr.drew (mw G) q.drew);(have D:nc (De c m d=(CX c[d].f m==0)):=by show _=_;unfold De;rw[dif_pos G]);rw[y]at o D;simp only at o D;generalize CX ⟨n,L⟩ m=C at o D;have EK:nc (∀P:ly,Ac [] w P->oa P ⟨g,d*2,Y⟩=V (O n)/\oa P ⟨g,d*2+1,Y⟩=V (U ad (Z L) cp)):=by
     intro P HE;obtain⟨g',HQ,n',HU,H0,HX,A2,FF,f0,f1⟩:=J5 (HS.kept HE) d G;have e2:=FF.symm.trans y;simp only[mu,mB,nr,Eb.mk.injEq,CJ.mk.injEq]at A2 e2;obtain⟨⟨rfl,_,_⟩,_,_⟩:=A2;obtain⟨⟨rfl,rfl⟩,rfl,_,rfl⟩:=e2;exact⟨f0,f1⟩
    clear y;go_wp2_with fail
    go_region_held3 (λt=>oa t ⟨g,d*2,Y⟩=V (O n)/\oa t ⟨g,d*2+1,Y⟩=V (U ad (Z L) cp)/\oa t ⟨N,0,Y⟩=V (O u)/\oa t ⟨N,1,Y⟩=V (U A (Z v) B)) (go_keep) ((go_at_call 104;refine o.mono ?_;rintro e M ⟨rfl,r⟩;have z:=Ab (q.drew.trans r);have T:=s.drew.kept r;have x0:=T.cell 0;have x1:=T.cell 1;have x2:=(EK M z).1;have x3:=(EK M z).2;simp at x0 x1;clear r T))
    rename_i Go;clear Go o;go_wp2;go_ret2;refine⟨d,?_,ES,z⟩;rw[Aa D];rfl
   ·(have FA:¬(d:Int)<(Z c:Int):=by omega);(have D:nc (De c m d=K):=by show _=_;unfold De;rw[dif_neg G]);(have EY:nc (∀n,Ac [] w (wr.drewN n)):=λn=>q.drewN n);go_wp2_with fail
    go_quiet (fail)
    go_wp2;go_ret2;rw[<-Aa D];exact⟨d,rfl,ES,EY _⟩
structure Cx(fs:rc Eb)(s:rc Af):Prop where
 same:fs.map Eb.f=s.map Bq
 zG:Dy s
 canon:∀f∈s,AL f
def Dy.pad{s:rc Af}(d:Dy s)(c:∀f∈s,AL f):(s.map Bq).Pairwise λa b=>CX a b<0:=by
 rw[o9];exact oY (fun{a b} ha hb hab=>(Et (c a ha) (c b hb)).1 hab) d
def Cx.pair{c:rc Eb}{s:rc Af}(h:Cx c s):c.Pairwise λa b=>CX a.f b.f<0:=by
 have:=h.zG.pad h.canon;rw[<-h.same,o9]at this;exact this
def XB(a:CJ):¬CX a a<0:=by
 have:CX a a=0:=(Gb a a).2 rfl;omega
def Cx.mono{a:rc Eb}{s:rc Af}(h:Cx a s)(x:CJ):∀i j (d:i<Z a) (c:j<Z a),i<=j->CX a[j].f x<0->CX a[i].f x<0:=by
 intro i j d c g e;rcases pX g with b|b
 .exact IY (oT.1 h.pair i j d c b) e
 .subst b;exact e
def Cx.mem{a:rc Eb}{s:rc Af}(h:Cx a s){f:Af}(c:AL f):(∃p∈a,p.f=Bq f)↔f∈s:=by
 have e:(∃p∈a,p.f=Bq f)↔Bq f∈a.map Eb.f:=by rw[mD]
 rw[e,h.same,mD];constructor
 .rintro ⟨g,b,e⟩;rw[<-Ma (h.canon g b) c e];exact b
 .intro d;exact⟨f,d,rfl⟩
def Cx.zk{a:rc Eb}{s:rc Af}(h:Cx a s){f:Af}(l:AL f)(k:E8 a (Bq f) n):De a (Bq f) n=DB s f:=by
 have r:De a (Bq f) n=jj↔DB s f=jj:=by
  rw[Ck,<-h.mem l];unfold De;constructor
  .intro c;split at c
   .rename_i b;exact⟨a[n],mw b,(Gb _ _).1 (by simpa using c)⟩
   .cases c
  .rintro ⟨q,o,e⟩;obtain⟨j,i,rfl⟩:=nw o;have m:n<=j:=by
    by_cases c:j<n
    .have:=k.below j i c;rw[e]at this;exact absurd this (XB _)
    .omega
   (have b:n<Z a:=by omega);rw[dif_pos b];rcases pX m with d|d
   .have g:=oT.1 h.pair n j b i d;rw[e]at g;exact absurd g (k.zj n b (mP _))
   .subst d;rw[e];simpa using(Gb _ _).2 rfl
 cases d:De a (Bq f) n<;>cases g:DB s f<;>simp_all
def Cx.yY{a:rc Eb}{s:rc Af}(h:Cx a s){f:Af}(d:AL f)(c:E8 a (Bq f) n)(b:De a (Bq f) n=jj):Cx a (A9 s f):=by
 rw[h.zk d c]at b;have:A9 s f=s:=by unfold A9;rw[b,mK rfl]
 rw[this];exact h
def Cx.zu{d:rc Eb}{s:rc Af}(h:Cx d s){x:Eb}{f:Af}(u:x.f=Bq f)(l:AL f)(v:E8 d (Bq f) n)(A:De d (Bq f) n=K):Cx (d.take n++x::d.drop n) (A9 s f):=by
 obtain⟨a,b,m⟩:=Ct l h.zG h.canon;refine⟨?_,a,b⟩;have D:f∉s:=λG=>by rw[h.zk l v,(Ck _ _).2 G]at A;cases A
 refine IR (lt:=λa b=>CX a b<0) XB (λa b c=>IY) _ _ ?_ (a.pad b) (λy=>?_)
 .rw[o9,qq];have B:=h.pair;have F:=B.take (i:=n);have C:=B.drop (i:=n);have w:∀q∈d.take n,CX q.f x.f<0:=by
   intro q j;obtain⟨i,t,rfl⟩:=nw j;rw[nu]at t;rw[pP,u];exact v.below i (by omega) (by omega)
  have z:∀q∈d.drop n,CX x.f q.f<0:=by
   intro q j;obtain⟨i,t,rfl⟩:=nw j;rw[nF]at t;rw[qm,u];have L:=v.zj (n+i) (by omega) (by omega);(have I:CX d[n+i].f (Bq f)≠0:=λe=>D ((h.mem l).1 ⟨_,mw _,(Gb _ _).1 e⟩));exact(be _ _).1 (by omega)
  refine⟨F,oN.2 ⟨z,C⟩,λq j r o=>?_⟩;rcases mA.1 o with rfl|o
  .exact w q j
  .exact IY (w q j) (z r o)
 .have H:y∈(d.take n++x::d.drop n).map Eb.f↔y=x.f\/y∈d.map Eb.f:=by
   (have E:d.map Eb.f=(d.take n).map Eb.f++(d.drop n).map Eb.f:=by rw[<-nk,nO]);rw[E];simp only[nk,mU,mF,mA];constructor
   .rintro (h|h|h)
    .exact lx (lo h)
    .exact lo h
    .exact lx (lx h)
   .rintro (h|h|h)
    .exact lx (lo h)
    .exact lo h
    .exact lx (lx h)
  rw[H,h.same,mD,mD,u];constructor
  .rintro (rfl|⟨g,k,rfl⟩)
   .exact⟨f,(m f).2 (lx rfl),rfl⟩
   .exact⟨g,(m g).2 (lo k),rfl⟩
  .rintro ⟨g,k,rfl⟩;rcases(m g).1 k with k|rfl
   .exact lx ⟨g,k,rfl⟩
   .exact lo rfl
def gc(l:rc zA):¬Fi l []<0:=by
 cases l<;>simp[Fi]
def OE(a:CJ)(n:zA):CX a ⟨n,[]⟩<0↔Eg a.name n<0:=by
 unfold CX;simp only;split
 .rename_i h;constructor
  .intro b;exact absurd b (gc _)
  .intro b;omega
 .exact Iff.rfl
def Kn{α:Type}{p:α->Bool}:∀(l:rc α),l.Pairwise (λa b=>p b=jj->p a=jj)->l.takeWhile p=l.filter p
 |[],_=>rfl
 |x::l,h=>by
  rw[oN]at h;rw[List.takeWhile_cons,oh];cases hx:p x with
  |true=>rw[mK rfl,mK rfl,Kn l h.2]
  |false=>
   rw[mJ (by simp),mJ (by simp)];refine(qh.2 (λy d c=>?_)).symm;rw[h.1 y d c]at hx;cases hx
def QM(n:zA)(q:Eb):Bool:=q.f.name.toList==n.toList
def Cx.of{c:rc Eb}{s:rc Af}(h:Cx c s)(n:zA)(r:E8 c ⟨n,[]⟩ m):((c.drop m).takeWhile (QM n)).map Eb.f=(s.filter λg=>g.name.toList==n.toList).map Bq:=by
 have t:∀q∈c.drop m,¬Eg q.f.name n<0:=by
  intro q j;obtain⟨i,l,rfl⟩:=nw j;rw[nF]at l;rw[qm,<-OE];exact r.zj (m+i) (by omega) (by omega)
 have v:(c.drop m).takeWhile (QM n)=(c.drop m).filter (QM n):=by
  refine Kn _ (oY (fun{a b} ha hb hab hbn=>?_) (h.pair.drop (i:=m)));have e:b.f.name=n:=toList_inj (by simpa[QM] using hbn);have x:¬Eg a.f.name n<0:=t a ha;have k:Eg a.f.name b.f.name<=0:=by
   unfold CX at hab;split at hab<;>omega
  rw[e]at k;have d:Eg a.f.name n=0:=by omega
  unfold QM;rw[(BE _ _).1 d];simp
 have k:(c.take m).filter (QM n)=[]:=by
  refine qh.2 (λq j o=>?_);obtain⟨i,l,rfl⟩:=nw j;rw[nu]at l;rw[pP]at o;have d:=(OE _ _).1 (r.below i (by omega) (by omega));have e:c[i].f.name=n:=toList_inj (by simpa[QM] using o);rw[e]at d;have:Eg n n=0:=(BE n n).2 rfl;omega
 have d:c.filter (QM n)=(c.drop m).filter (QM n):=by
  conv=>lhs;rw[<-nO m c,oW,k,nM]
 rw[v,<-d];have u:(c.filter (QM n)).map Eb.f=(c.map Eb.f).filter λa=>a.name.toList==n.toList:=by
  rw[List.filter_map];rfl
 have w:(s.filter λg=>g.name.toList==n.toList).map Bq=(s.map Bq).filter λa=>a.name.toList==n.toList:=by
  rw[List.filter_map];rfl
 rw[u,w,h.same]
def Xd(x:zA):zA:=if Vz x then x else AD x
def Br(e:rc zA):rc zA:=e.map Xd
def Tc(x:zA):Prop:=x.size=0\/A8 x
def bL:Vz q9=jj:=(Ep _).2 rfl
def Q4:Xd q9=q9:=by unfold Xd;rw[bL,mK rfl]
def CY(h:A8 s):Xd s=AD s:=by
 unfold Xd;cases he:Vz s with
 |true=>exact absurd ((Ep _).1 he) h.size
 |false=>rfl
def dj(h:A8 s):(AD s).size≠0:=by
 rcases h with⟨c,r,e,a,b⟩|h
 .rw[FX e a,A5,e];simp
 .rw[A5,Gy h];rcases FH h with⟨c,e,_⟩|⟨c,d,e,_⟩|⟨c,d,f,e,_⟩<;>rw[e]<;>simp
def gQ(h:Tc s):Vz (Xd s)=Vz s:=by
 rcases h with h|h
 .have:Vz s=jj:=(Ep _).2 h;unfold Xd;rw[this,mK rfl,this]
 .have a:Vz s=K:=by
   cases he:Vz s with
   |true=>exact absurd ((Ep _).1 he) h.size
   |false=>rfl
  rw[CY h,a];cases he:Vz (AD s)with
  |true=>exact absurd ((Ep _).1 he) (dj h)
  |false=>rfl
def RC(b:rc zA)(t:AJ):zA:=if t.v=0 then Xd t.s else b.getD (t.v.toNat-65) q9
def EJ(e:rc zA)(t:AJ):RC (Br e) t=Xd (AP e t):=by
 unfold RC AP Br;by_cases a:t.v=0
 .rw[mK a,mK a]
 .rw[mJ a,mJ a,mN,mN,n6];cases e[t.v.toNat-65]? with
  |none=>exact Q4.symm
  |some x=>rfl
def iP(e:rc zA)(j:Nat)(h:A8 s):Br (e.set j s)=(Br e).set j (AD s):=by
 unfold Br;rw[qT,CY h]
def Ts(b:rc zA)(ts:rc AJ)(xs:rc zA):Bool:=(ts.zip xs).all λp=>Vz (RC b p.1)||(RC b p.1).toList==p.2.toList
def UY{e:rc zA}:∀(a:rc AJ) (b:rc zA),(∀t∈a,Tc (AP e t))->(∀x∈b,A8 x)->Ts (Br e) a (b.map AD)=R9 e a b
 |[],b,_,_=>by simp[Ts,R9]
 |t::a,[],_,_=>by simp[Ts,R9]
 |t::a,x::b,ht,hx=>by
  have ih:=UY a b (λu f=>ht u (by simp[f])) (λy d=>hx y (by simp[d]));unfold Ts R9 at ih⊢;rw[mU,qG,qG,p5,p5,ih]
  congr 1
  simp only;rw[EJ,gQ (ht t (by simp))];cases he:Vz (AP e t)with
  |true=>rfl
  |false=>
   rw[pq,pq];have c:A8 (AP e t):=by
    rcases ht t (by simp)with h|h
    .rw[(Ep _).2 h]at he;cases he
    .exact h
   rw[CY c];have g:((AD (AP e t)).toList==(AD x).toList)=jj↔((AP e t).toList==x.toList)=jj:=by
    rw[E7,E7];exact⟨λh=>FQ c (hx x (by simp)) h,λh=>by rw[h]⟩
   cases h1:((AD (AP e t)).toList==(AD x).toList)<;>cases h2:((AP e t).toList==x.toList)<;>simp_all
def Sn(b:rc zA)(ts:rc AJ):Bool:=ts.all λt=> !Vz (RC b t)
def Oh{e:rc zA}:∀(a:rc AJ),(∀t∈a,Tc (AP e t))->Sn (Br e) a=D2 e a
 |[],_=>rfl
 |t::a,h=>by
  have ih:=Oh a (λu b=>h u (by simp[b]));unfold Sn D2 at ih⊢;rw[p5,p5,ih,EJ,gQ (h t (by simp))]
def XM{l r:AJ}(a:A8 (AP e l))(b:A8 (AP e r)):((RC (Br e) l).toList==(RC (Br e) r).toList)=((AP e l).toList==(AP e r).toList):=by
 rw[EJ,EJ,CY a,CY b];have c:((AD (AP e l)).toList==(AD (AP e r)).toList)=jj↔((AP e l).toList==(AP e r).toList)=jj:=by
  rw[E7,E7];exact⟨λh=>FQ a b h,λh=>by rw[h]⟩
 cases h1:((AD (AP e l)).toList==(AD (AP e r)).toList)<;>cases h2:((AP e l).toList==(AP e r).toList)<;>simp_all
def eK{l r:AJ}(a:A8 (AP e l))(b:A8 (AP e r)):qZ (RC (Br e) l).toList (RC (Br e) r).toList=Gv (AP e l) (AP e r):=by
 rw[EJ,EJ,CY a,CY b];exact IW a b
def Ac.cellAt(k:Ac [] w u)(h:oa w ⟨b,n,Y⟩=V z):oa u ⟨b,n,Y⟩=V z:=by
 have a:b<w.heap.size:=by
  cases hq:w.heap[b]? with
  |none=>simp[World.cell?,hq]at h
  |some x=>exact(nz.1 hq).1
 have e:=k.block b a (by simp);simp only[World.cell?,e]at h⊢;exact h
def Ln(h:oa w ⟨b,n,Y⟩=V z):b<w.heap.size:=by
 cases hq:w.heap[b]? with
 |none=>simp[World.cell?,hq]at h
 |some x=>exact(nz.1 hq).1
theorem JO(C v:Nat)(l:Option Addr)(m:Nat)(a:rc Eb)(x:Eb)(w:ly)(t:oa w ⟨C,v,Y⟩=V (U l (Z a) m))(h:Io w (U l (Z a) m) a)(s:C8 w x)(u:Z x.f.zC<=1000)(G:Z a<=1000000)(D:∀i j (Q:i<Z a) (R:j<Z a),i<=j->CX a[j].f x.f<0->CX a[i].f x.f<0):
  Calls prog 60 #[j3 (V ⟨C,v,Y⟩),oj (j2 (AM x))] w λe o=>∃p:Nat,e=kt (q8 (De a x.f p))/\E8 a x.f p/\Ac [] w o:=by
 have P:=Ln t;have g:nc (∀wr,Ac [] w wr->Calls prog 103 #[U l (Z a) m,oj (j2 (AM x)),.func (.func 104) #[] #[]] wr λe o=>∃p:Nat,e=kt (.tuple #[.int J p,q8 (De a x.f p)])/\E8 a x.f p/\Ac [] wr o):=λwr y=>Jc l m a x wr (h.kept y) (s.kept y) u G D
 obtain⟨⟨b,c⟩,M⟩:=x;obtain⟨n,k,B⟩:=Al s;simp only at B;subst B;simp only[AM]at g⊢;generalize(⟨b,c⟩:CJ)=X at g⊢;have q:=(re [] w).alloc (j1 [O b,U n (Z c) k].toArray 104);have I:=q.cellAt t;clear t;have d:=rf w [O b,U n (Z c) k] 104;have r:=Ab q;clear h s u D q;go_enter func60,ntmps60;go_wp2_with fail
 change Code.wp _ _ _ _ (w.alloc (j1 [O b,U n (Z c) k].toArray 104));generalize w.alloc (j1 [O b,U n (Z c) k].toArray 104)=w1 at r I d⊢;generalize w.heap.size=N at d⊢;have E:=d.cell 0;have H:=d.cell 1;simp at E H;have F:=Ab (g w1.drew r.drew);clear g d
 go_region_law (go_simp;go_at_call 103;refine F.mono ?_;rintro e L ⟨p,rfl,hcut,A⟩;have z:=Ab (And.intro hcut (r.drew.trans A));clear hcut A)
 all_goals
  go_wp2;go_ret;exact⟨p,rfl,z.1,z.2⟩
def QG(t:AZ):Prop:=t.v=0\/(65<=t.v/\t.v<=90)
def BO(b:rc zA)(t:AZ):zA:=gX b t.v.toNat t.s
def Hc(b:rc zA)(ts:rc AZ):Bool:=ts.all λt=> !Vz (BO b t)
def Mu(a d:Nat)(b:rc zA)(t:AZ)(w:ly)(i:Z b=26)(g:AI w a (Am b) d)(c:QG t):
  Calls prog 180 #[j3 (V ⟨a,0,Y⟩),oj #[X q7 t.v,O t.s]] w λr f=>r=kt (O (BO b t))/\Ac [] w f:=by
 have h:=Rw a d b t.v.toNat t.s w i g (by rcases c with h|h<;>omega);have e:((t.v.toNat:Nat):Int)=t.v:=by rcases c with h|h<;>omega
 rw[e]at h;exact h
theorem WT(j H:Nat)(b:rc zA)(E:Option Addr)(M:Nat)(a:rc AZ)(S:Nat)(w:ly)(W:Z b=26)(P:AI w j (Am b) H)(G:oi w S 215 2 (U E (Z a) M) (Z a) (a.flatMap Ar))(A1:Z a<=100000)(c:∀t∈a,QG t):
  Calls prog 204 #[j3 (V ⟨j,0,Y⟩),U E (Z a) M] w λr p=>r=kt (q8 (Hc b a))/\Ac [] w p:=by
 obtain⟨R,y⟩:=rd (Hc b a);rw[y];have e:nc ((a.drop 0).all (λt=> !Vz (BO b t))=R):=y;have HT:nc (∀t∈a,∀f,Ac [] w f->Calls prog 180 #[j3 (V ⟨j,0,Y⟩),oj #[X q7 t.v,O t.s]] f λr p=>r=kt (O (BO b t))/\Ac [] f p):=λt Q f A=>Mu j H b t f W (P.kept A) (c t Q)
 have AO:=Ab G;clear y G c P;go_enter func204,ntmps204;go_wp2_with fail
 go_loopg [9] (Z a) (λgk i wr=>∃(k:Nat),i=X J k/\k<=Z a/\gk=Z a-k/\nc ((a.drop k).all (λt=> !Vz (BO b t))=R)/\nc (Ac [] w wr))
 case atStart=>exact⟨0,rfl,by omega,rfl,e,re _ _⟩
 case round=>
  clear e;obtain⟨k,rfl,A,D,e,n⟩:=hrel;have HG:=Ab D;clear D;by_cases o:k<Z a
  .obtain⟨g,A0,I,F,C⟩:=FJ (Ad AO n) k o;simp only[mu]at I;obtain⟨rfl,_,rfl⟩:=I;obtain⟨T,l⟩:=rd (a[k]);have x:=Ab (n.alloc (j1 #[X q7 T.v,O T.s] 215));have u:=Ab (HT T (by rw[<-l];exact mw o) _ x);have m:nc ((!Vz (BO b T)&&(a.drop (k+1)).all (λt=> !Vz (BO b t)))=R):=by
    have h:=Aa e;rw[mQ o,p5,l]at h;exact h
   rw[l]at F C;obtain⟨d,N⟩:=rd (BO b T);rw[N]at u m;clear e l N;(go_wp2_with fail);refine u.mono ?_;rintro _ w3 ⟨rfl,B⟩;have L:=Ab (x.trans B);clear u x n B F C;cases c:Vz d with
   |true=>
    have q:(d.toList==[])=jj:=c;(have Ax:d.toList=[]:=by simpa using q);(have z:nc (R=K):=by show _=_;rw[<-Aa m,c];rfl);go_wp2;go_ret;rw[Aa z];exact⟨rfl,L⟩
   |false=>
    have q:(d.toList==[])=K:=c;(have Ax:¬d.toList=[]:=by simpa using q);(have AH:nc ((a.drop (k+1)).all (λt=> !Vz (BO b t))=R):=by have h:=Aa m;rw[c]at h;exact h);clear m;go_wp2
    go_roundg (Z a-(k+1))
    case measure=>have:=Aa HG;omega
    case rel=>exact⟨k+1,by go_num,by omega,rfl,AH,L⟩
  .have z:nc (R=jj):=by
    have h:=Aa e;rw[ni (by omega)]at h;exact h.symm
   go_wp2;go_ret;rw[Aa z];exact⟨rfl,n⟩
def IV(b:rc zA):rc AZ->rc zA->Bool
 |t::ts,x::xs=>(Vz (BO b t)||(BO b t).toList==x.toList)&&IV b ts xs
 |_,_=>jj
def Iz{l:rc zA}(h:oi w n 170 1 z (Z l) (l.flatMap Ai))(k:Nat)(b:k<Z l):∃g a,z=U (V ⟨g,0,Y⟩) (Z l) a/\oa w ⟨g,k,Y⟩=V (O l[k]):=by
 obtain⟨g,a,e,_,f⟩:=AC h (λc _=>rfl) k b;have d:=f k b 0 (by omega);simp[Ai]at d;exact⟨g,a,e,d⟩
theorem fU(B ty:Nat)(b:rc zA)(z:Int)(q:zA)(m:Option Addr)(o:Nat)(a:rc AZ)(p:Eb)(EY:Nat)(w:ly)(hb:Z b=26)(hB:AI w B (Am b) ty)(hr:oi w EY 215 2 (U m (Z a) o) (Z a) (a.flatMap Ar))(W:C8 w p)(Go:Z a<=100000)(FB:Z a<=Z p.f.zC)(l:∀t∈a,QG t):
  Calls prog 222 #[j3 (V ⟨B,0,Y⟩),oj #[X J z,O q,U m (Z a) o],oj (j2 (AM p))] w λr H=>r=kt (q8 (IV b a p.f.zC))/\Ac [] w H:=by
 obtain⟨⟨n,c⟩,pv⟩:=p;obtain⟨j,e,BT⟩:=Al W;simp only at BT FB;subst BT;have HX:nc (oi w 0 170 1 (U j (Z c) e) (Z c) (c.flatMap Ai)):=W;simp only[AM];obtain⟨R,hR⟩:=rd (IV b a c);rw[hR];have x:nc (IV b (a.drop 0) (c.drop 0)=R):=hR;have HT:nc (∀t∈a,∀A,Ac [] w A->Calls prog 180 #[j3 (V ⟨B,0,Y⟩),oj #[X q7 t.v,O t.s]] A λr H=>r=kt (O (BO b t))/\Ac [] A H):=λt ht A hk=>Mu B ty b t A hb (hB.kept hk) (l t ht)
 have FC:=Ab hr;have D:nc (AI ((w.alloc (j1 [X J z,O q,U m (Z a) o].toArray 187)).alloc (j1 [O n,U j (Z c) e].toArray 104)) (w.heap.size+1) [O n,U j (Z c) e] 104):=by
  have h:=rf (w.alloc (j1 [X J z,O q,U m (Z a) o].toArray 187)) [O n,U j (Z c) e] 104;simp only[m9]at h;exact h
 have AB:=Ab (((re [] w).alloc (j1 [X J z,O q,U m (Z a) o].toArray 187)).alloc (j1 [O n,U j (Z c) e].toArray 104));clear hR hr l hB W;go_enter func222,ntmps222;go_wp2_with fail
 change Code.wp _ _ _ _ ((w.alloc (j1 [X J z,O q,U m (Z a) o].toArray 187)).alloc (j1 [O n,U j (Z c) e].toArray 104));generalize((w.alloc (j1 [X J z,O q,U m (Z a) o].toArray 187)).alloc (j1 [O n,U j (Z c) e].toArray 104))=w1 at D AB⊢;generalize w.heap.size=N at D⊢
 go_loopg [13] (Z a) (λgk i wr=>∃(k:Nat),i=X J k/\k<=Z a/\gk=Z a-k/\nc (IV b (a.drop k) (c.drop k)=R)/\nc (AI wr (N+1) [O n,U j (Z c) e] 104)/\nc (Ac [] w wr))
 case atStart=>exact⟨0,rfl,by omega,rfl,x,D,AB⟩
 case round=>
  clear x D AB;obtain⟨k,rfl,hk,A2,x,HB,E⟩:=hrel;have HG:=Ab A2;clear A2;by_cases G:k<Z a
  ·(have B9:k<Z c:=by omega);obtain⟨g,FT,he,d0,d1⟩:=FJ (Ad FC E) k G;simp only[mu]at he;obtain⟨rfl,_,rfl⟩:=he;obtain⟨T,C⟩:=rd (a[k]);obtain⟨y,L⟩:=rd (c[k]);have Ax:=Ab (E.alloc (j1 #[X q7 T.v,O T.s] 215));have B2:=Ab (HB.alloc (j1 #[X q7 T.v,O T.s] 215));have S:=Ab (HT T (by rw[<-C];exact mw G) _ Ax);have u:nc (((Vz (BO b T)||(BO b T).toList==y.toList)&&IV b (a.drop (k+1)) (c.drop (k+1)))=R):=by
    have h:=Aa x;rw[mQ G,mQ B9,IV,C,L]at h;exact h
   rw[C]at d0 d1;obtain⟨d,hV⟩:=rd (BO b T);rw[hV]at S u;clear x C hV;(have Ha:(0:Int)<=(k:Int):=by omega);(have HA:(k:Int)<(Z c:Int):=by omega);(go_wp2_with fail);refine S.mono ?_;rintro _ w3 ⟨rfl,Q⟩;have F:=Ab (Ax.trans Q);have M:=Ab (B2.kept Q);obtain⟨g2,FW,BS,x0⟩:=Iz (Ad HX F) k B9;simp only[mu]at BS;obtain⟨rfl,_,rfl⟩:=BS;rw[L]at x0;have b1:=M.cell 1;simp at b1;clear S Ax E Q d0 d1 B2 HB L;cases l:Vz d with
   |true=>
    have I:(d.toList==[])=jj:=l;(have E0:d.toList=[]:=by simpa using I);(have P:nc (IV b (a.drop (k+1)) (c.drop (k+1))=R):=by have h:=Aa u;rw[l]at h;exact h);clear u;go_wp2
    go_roundg (Z a-(k+1))
    case measure=>have:=Aa HG;omega
    case rel=>exact⟨k+1,by go_num,by omega,rfl,P,M,F⟩
   |false=>
    have I:(d.toList==[])=K:=l;(have E0:¬d.toList=[]:=by simpa using I);cases hx:(d.toList==y.toList)with
    |true=>
     (have EM:(d.toList !=y.toList)=K:=by simp[bne,hx]);(have P:nc (IV b (a.drop (k+1)) (c.drop (k+1))=R):=by have h:=Aa u;rw[l,hx]at h;exact h);clear u;go_wp2
     go_roundg (Z a-(k+1))
     case measure=>have:=Aa HG;omega
     case rel=>exact⟨k+1,by go_num,by omega,rfl,P,M,F⟩
    |false=>
     (have EM:(d.toList !=y.toList)=jj:=by simp[bne,hx]);(have HE:nc (R=K):=by show _=_;rw[<-Aa u,l,hx];rfl);go_wp2;go_ret;rw[Aa HE];exact⟨rfl,F⟩
  .have HE:nc (R=jj):=by
    have h:=Aa x;rw[ni (by omega),IV]at h
    .exact h.symm
    .simp
   go_wp2;go_ret;rw[Aa HE];exact⟨rfl,E⟩
def J7(a b:AZ):Bool:=a.v==b.v&&a.s.toList==b.s.toList
def Ty(ts:rc AZ)(x:AZ)(r:Int):Prop:=(r= -1/\∀t∈ts,J7 x t=K)\/∃k,∃h:k<Z ts,r=(k:Int)/\J7 x ts[k]=jj/\∀j (hj:j<Z ts),j<k->J7 x ts[j]=K
theorem du(D:Option Addr)(G:Nat)(a:rc AZ)(x:AZ)(P:Nat)(w:ly)(E:oi w P 215 2 (U D (Z a) G) (Z a) (a.flatMap Ar))(AT:Z a<=100000):
  Calls prog 206 #[U D (Z a) G,oj #[X q7 x.v,O x.s]] w λr I=>∃n,r=kt (X J n)/\Ty a x n/\Ac [] w I:=by
 have Ax:=Ab E;obtain⟨f,m⟩:∃f:Int->Prop,f=Ty a x:=⟨_,rfl⟩;have z:=Ab m;rw[<-m];have b:=Ab (rf w [X q7 x.v,O x.s] 215);have c:=Ab ((re [] w).alloc (j1 #[X q7 x.v,O x.s] 215));clear E m;go_enter func206,ntmps206;go_wp2_with fail
 change Code.wp _ _ _ _ (w.alloc (j1 [X q7 x.v,O x.s].toArray 215));generalize w.alloc (j1 [X q7 x.v,O x.s].toArray 215)=w1 at b c⊢;generalize w.heap.size=N at b⊢
 go_loopg [8] (Z a) (λgk i wr=>∃(k:Nat),i=X J k/\k<=Z a/\gk=Z a-k/\nc (∀j (d:j<Z a),j<k->J7 x a[j]=K)/\nc (AI wr N [X q7 x.v,O x.s] 215)/\nc (Ac [] w wr))
 case atStart=>exact⟨0,rfl,by omega,rfl,λj d h=>by omega,b,c⟩
 case round=>
  clear b c;obtain⟨k,rfl,hk,B,l,b,c⟩:=hrel;have A:=Ab B;clear B;by_cases u:k<Z a
  .obtain⟨g,AR,F,R,Q⟩:=FJ (Ad Ax c) k u;simp only[mu]at F;obtain⟨rfl,_,rfl⟩:=F;obtain⟨T,o⟩:=rd (a[k]);have y:=Ab o;rw[o]at R Q;clear o;have H:=b.cell 0;have W:=b.cell 1;simp at H W;(have A0:(0:Int)<=(k:Int):=by omega);(have A1:(k:Int)<(Z a:Int):=by omega);(have e:nc (∀n,AI (wr.drewN n) N [X q7 x.v,O x.s] 215/\Ac [] w (wr.drewN n)):=λn=>⟨b.drewN n,c.drewN n⟩);cases hs:J7 x T with
   |true=>
    have p:(x.v==T.v)=jj/\(x.s.toList==T.s.toList)=jj:=by
     unfold J7 at hs;simpa using hs
    have h2:=p.1;have S:=p.2;have q:nc (f (k:Int)):=by
     rw[Aa z];exact lx ⟨k,u,rfl,by rw[Aa y];exact hs,l⟩
    clear p hs;go_wp2_with fail
    go_quiet (fail)
    go_wp2;go_ret;exact⟨k,rfl,q,(e _).2⟩
   |false=>
    have C:nc (∀j (d:j<Z a),j<k+1->J7 x a[j]=K):=by
     intro j d AH;by_cases h:j<k
     .exact l j d h
     ·(have L:j=k:=by omega);subst L;rw[Aa y];exact hs
    cases ha:(x.v==T.v)with
    |false=>
     clear hs;go_wp2_with fail
     go_quiet (fail)
     go_wp2
     go_roundg (Z a-(k+1))
     case measure=>have:=Aa A;omega
     case rel=>exact⟨k+1,by go_num,by omega,rfl,C,(e _).1,(e _).2⟩
    |true=>
     have S:(x.s.toList==T.s.toList)=K:=by
      unfold J7 at hs;rw[ha,oy]at hs;exact hs
     clear hs;go_wp2_with fail
     go_quiet (fail)
     go_wp2
     go_roundg (Z a-(k+1))
     case measure=>have:=Aa A;omega
     case rel=>exact⟨k+1,by go_num,by omega,rfl,C,(e _).1,(e _).2⟩
  .have q:nc (f (-1)):=by
    rw[Aa z];refine lo ⟨rfl,λt M=>?_⟩;obtain⟨j,d,rfl⟩:=nw M;exact l j d (by omega)
   go_wp2;go_ret;exact⟨-1,rfl,q,c⟩
def Sf{l:rc Int}(h:oi w n 21 1 z (Z l) (l.flatMap AX))(k:Nat)(b:k<Z l):∃g a,z=U (V ⟨g,0,Y⟩) (Z l) a/\oa w ⟨g,k,Y⟩=V (X q7 l[k]):=by
 obtain⟨g,a,e,_,f⟩:=AC h (λc _=>rfl) k b;have d:=f k b 0 (by omega);simp[AX]at d;exact⟨g,a,e,d⟩
theorem fC(q:Option Addr)(u:Nat)(l:rc Int)(x:Int)(z:Nat)(w:ly)(s:oi w z 21 1 (U q (Z l) u) (Z l) (l.flatMap AX))(L:Z l<=100000):
  Calls prog 203 #[U q (Z l) u,X q7 x] w λr v=>∃n:Int,r=kt (X J n)/\(n= -1/\x∉l\/0<=n/\x∈l)/\v=w:=by
 have F:=Ab s;clear s;go_enter func203,ntmps203;go_wp2_with fail
 go_loopg [8] (Z l) (λgk i wr=>∃(k:Nat),i=X J k/\k<=Z l/\gk=Z l-k/\nc (∀j (b:j<Z l),j<k->l[j]≠x)/\wr=w)
 case atStart=>exact⟨0,rfl,by omega,rfl,λj b h=>by omega,rfl⟩
 case round=>
  obtain⟨k,rfl,H,p,m,rfl⟩:=hrel;have A:=Ab p;clear p;by_cases f:k<Z l
  .obtain⟨g,I,t,D⟩:=Sf F k f;simp only[mu]at t;obtain⟨rfl,_,rfl⟩:=t;obtain⟨T,d⟩:=rd (l[k]);have o:=Ab d;rw[d]at D;clear d;(have M:(0:Int)<=(k:Int):=by omega);(have N:(k:Int)<(Z l:Int):=by omega);by_cases a:x=T
   ·(have B:(x==T)=jj:=by simp[a]);(have c:nc (x∈l):=by show _∈_;rw[a,<-Aa o];exact mw f);clear a;go_wp2;go_ret;exact⟨k,rfl,lx ⟨by omega,c⟩,rfl⟩
   ·(have B:(x==T)=K:=by simp[a]);have C:nc (∀j (b:j<Z l),j<k+1->l[j]≠x):=by
     intro j b G;by_cases h:j<k
     .exact m j b h
     ·(have y:j=k:=by omega);subst y;rw[Aa o];exact λe=>a e.symm
    clear a;go_wp2
    go_roundg (Z l-(k+1))
    case measure=>have:=Aa A;omega
    case rel=>exact⟨k+1,by go_num,by omega,rfl,C,rfl⟩
  .have c:nc (x∉l):=by
    intro E;obtain⟨j,b,e⟩:=nw E;exact m j b (by omega) e
   go_wp2;go_ret;exact⟨-1,rfl,lo ⟨rfl,c⟩,rfl⟩
theorem Tk(c:Option Addr)(b:Nat)(l:rc Int)(x:Int)(f:Nat)(w:ly)(d:oi w f 21 1 (U c (Z l) b) (Z l) (l.flatMap AX))(k:Z l<=100000):
  Calls prog 175 #[U c (Z l) b,X q7 x] w λr i=>r=kt (q8 (decide (x∈l)))/\i=w:=by
 have g:=Ab (fC c b l x f w d k);clear d;go_enter func175,ntmps175;go_wp2_with fail
 refine g.mono ?_;rintro _ m ⟨n,rfl,h,rfl⟩;have j:nc (decide (0<=n)=decide (x∈l)):=by
  show _=_;rcases h with⟨e,a⟩|⟨e,a⟩
  .rw[nW a,nW (by omega)]
  .rw[oS a,oS e]
 clear h g;go_wp2;go_ret;rw[<-Aa j];exact⟨rfl,rfl⟩
def Tr(a:rc Int)(t:AZ):rc Int:=if t.v≠0/\t.v∉a then a++[t.v] else a
def Ef(ts:rc AZ):rc Int:=ts.foldl Tr []
def Zn{a:rc AZ}(b:k<Z a):Ef (a.take (k+1))=Tr (Ef (a.take k)) a[k]:=by
 unfold Ef;rw[mx b,nH];rfl
theorem Pb(W:Option Addr)(cp:Nat)(a:rc AZ)(B0:Nat)(w:ly)(hr:oi w B0 215 2 (U W (Z a) cp) (Z a) (a.flatMap Ar))(FT:Z a<=90000):
  Calls prog 138 #[U W (Z a) cp] w λr L=>∃AR AB,r=kt (U AR (Z (Ef a)) AB)/\oi L w.heap.size 21 1 (U AR (Z (Ef a)) AB) (Z (Ef a)) ((Ef a).flatMap AX)/\Ac [] w L:=by
 obtain⟨i0,FF,BT,B9,EK⟩:=nC Tryz.z7;have FC:=Ab hr;obtain⟨R,C⟩:=rd (Ef a);rw[C];have HR:=Ab C;obtain⟨N,F⟩:=rd w.heap.size;rw[F];have HN:=Ab F;clear hr C F;go_enter func138,ntmps138;go_wp2_with fail
 go_loopg [3,8] (Z a) (λgk o i wr=>∃(k:Nat) (l:rc Int) (d:Option Addr) (c:Nat),o=U d (Z l) c/\i=X J k/\k<=Z a/\gk=Z a-k/\Z l<=k/\nc (Ef (a.take k)=l)/\nc (oi wr N 21 1 (U d (Z l) c) (Z l) (l.flatMap AX))/\nc (Ac [] w wr))
 case atStart=>exact⟨0,[],Y,0,rfl,rfl,by omega,rfl,by simp,rfl,mS _ _ _ _,re _ _⟩
 case round=>
  obtain⟨k,l,d,c,rfl,rfl,hk,Q,FL,D,z,p⟩:=hrel;have x:=Ab Q;clear Q;by_cases I:k<Z a
  .obtain⟨g,FP,he,d0,P⟩:=FJ (Ad FC p) k I;simp only[mu]at he;obtain⟨rfl,_,rfl⟩:=he;obtain⟨T,y⟩:=rd (a[k]);have DG:nc (Ef (a.take (k+1))=if T.v≠0/\T.v∉l then l++[T.v] else l):=by
    show _=_;rw[Zn I,Aa D,y];rfl
   rw[y]at d0 P;clear y D;have n:=Ab (p.alloc (j1 #[X q7 T.v,O T.s] 215));have u:=Ab (rf wr [X q7 T.v,O T.s] 215);have E:=mE z (j1 #[X q7 T.v,O T.s] 215);have m:=Ab E;have e:=Ab (Tk d c l T.v N _ E (by omega));(have EX:N<=wr.heap.size:=by have:=p.size;have:=Aa HN;omega);clear E z p;by_cases b:T.v=0
   ·(have FA:(T.v !=0)=K:=by simp[b]);(have ES:(T.v==0)=jj:=by simp[b]);(have j:nc (Ef (a.take (k+1))=l):=by show _=_;rw[Aa DG,mJ (λh=>h.1 b)]);clear DG b e;go_wp2
    go_roundg (Z a-(k+1))
    case measure=>have:=Aa x;omega
    case rel=>exact⟨k+1,l,d,c,rfl,by go_num,by omega,rfl,by omega,j,m,n⟩
   ·(have FA:(T.v !=0)=jj:=by simp[b]);(have ES:(T.v==0)=K:=by simp[b]);by_cases f:T.v∈l
    ·(have j:nc (Ef (a.take (k+1))=l):=by show _=_;rw[Aa DG,mJ (λh=>h.2 f)]);rw[oS f]at e;clear DG b f;(go_wp2_with fail);refine e.mono ?_;rintro _ w3 ⟨rfl,rfl⟩;go_wp2
     go_roundg (Z a-(k+1))
     case measure=>have:=Aa x;omega
     case rel=>exact⟨k+1,l,d,c,rfl,by go_num,by omega,rfl,by omega,j,m,n⟩
    ·(have j:nc (Ef (a.take (k+1))=l++[T.v]):=by show _=_;rw[Aa DG,mK ⟨b,f⟩]);rw[nW f]at e;clear DG b f;(go_wp2_with fail);refine e.mono ?_;rintro _ w3 ⟨rfl,rfl⟩;obtain⟨B,hB⟩:=rd wr.heap.size;rw[hB]at u EX⊢;have A:nc (AI (wr.alloc (j1 #[X q7 T.v,O T.s] 215)) B [X q7 T.v,O T.s] 215):=u;have CL:B<(wr.alloc (j1 #[X q7 T.v,O T.s] 215)).heap.size:=A.lt;clear e u hB d0 P;generalize wr.alloc (j1 #[X q7 T.v,O T.s] 215)=w4 at m n A CL⊢;have H:=A.cell 0;simp at H;have G:=Aa m;go_wp2_with (at_builtin;refine mZ _ rfl (.tmp 22) (.tmp 25) _ rfl N 21 i0 _ 1 4 underlying234 FF BT B9 EK rfl (by omega) (U d (Z l) c) (Z l) (l.flatMap AX) rfl (mE G _) ⟨w4.heap.size,0,Y⟩ 1 1 [X q7 T.v] rfl rfl (mW (m7 w4 _)) (by simp[Value.oneCell']) (by omega) (by unfold maxLen;omega) (by omega) (by simp;omega) (w4.heap.size+1) (by simp) ?_;intro g1 M w9 AH S BA EY)
     have EM:nc (oi w9 N 21 1 (U (V ⟨g1,0,Y⟩) (Z (l++[T.v])) M) (Z (l++[T.v])) ((l++[T.v]).flatMap AX)):=by
      rw[mY];simp only[mM,mL,m8,nE,mX,nP,np,AX];exact AH
     have CC:=Ab ((n.alloc (j1 #[X q7 T.v] 21)).grown S (λq hq=>lx (by have:=(G.lt q hq).1;have:=Aa HN;omega)));clear AH S BA EY G m n H
     go_roundg (Z a-(k+1))
     case measure=>have:=Aa x;omega
     case rel=>exact⟨k+1,l++[T.v],V ⟨g1,0,Y⟩,M,by simp,by go_num,by omega,rfl,by simp;omega,j,EM,CC⟩
  .have HE:nc (l=R):=by
    have h:=Aa D;rw[mz (by omega),Aa HR]at h;exact h.symm
   go_wp2;go_ret;rw[<-Aa HE];exact⟨d,c,rfl,z,p⟩
structure ZT(rcs:rc AV)(hs:rc (Nat×G1 Af))(s:rc Af):Prop where
 nd:(hs.map λh=>h.2.head).Nodup
 mem:∀f,f∈s↔f∈hs.map λh=>h.2.head
 each:∀i (hi:i<Z hs),∃(hn:hs[i].1<Z rcs) (σ:UInt8->zA),Qp rcs[hs[i].1] σ/\hs[i].2=Da rcs[hs[i].1] σ/\(∀g∈hs[i].2.pos,g∈(hs.take i).map λh=>h.2.head)/\∀g∈hs[i].2.neg,g∉s
def ZT.start(a:rc AV):ZT a [] []:=⟨ph,λf=>by simp,λi b=>by simp at b⟩
def ZT.add{o:zA->Nat}(I:CG c o){s v:rc Af}{d:rc (Nat×G1 Af)}(h:ZT c d s)(Q:∀f∈s,o f.name<=n)(B:m<Z c)(P:o c[m].head.name=n){i:G1 Af}{σ:UInt8->zA}(t:i=Da c[m] σ)(C:Qp c[m] σ)(M:∀g∈i.pos,g∈s)(N:∀g∈i.neg,g∉s)(L:i.head∉s)(q:∀f,f∈v↔f∈s\/f=i.head):ZT c (d++[(m,i)]) v:=by
 have D:=I.zY;have S:o i.head.name=n:=by rw[t];exact P
 refine⟨?_,λf=>?_,λk F=>?_⟩
 .rw[nk];refine p9.2 ⟨h.nd,by simp,λa A b x e=>?_⟩;simp only[mU,oH,my]at x;rw[e,x]at A;exact L ((h.mem _).2 A)
 .rw[q f,h.mem f,nk,mF];simp
 .by_cases p:k<Z d
  .have u:(d++[(m,i)])[k]=d[k]:=nV p;obtain⟨y,τ,w,z,G,H⟩:=h.each k p;rw[nG (by omega)];simp only[u];refine⟨y,τ,w,z,G,λg l j=>?_⟩;rcases(q g).1 j with j|j
   .exact H g l j
   .have r:=D.neg d[k].2 ⟨c[d[k].1],mw y,τ,w,z⟩ g l;have R:=Q d[k].2.head ((h.mem _).2 (mD.2 ⟨d[k],mw p,rfl⟩));rw[j]at r;omega
  ·(have E:k=Z d:=by simp at F;omega);subst E;(have u:(d++[(m,i)])[Z d]=(m,i):=by simp);rw[List.take_left];simp only[u];refine⟨B,σ,C,t,λg l=>(h.mem g).1 (M g l),λg l j=>?_⟩;rcases(q g).1 j with j|j
   .exact N g l j
   .have r:=D.neg i ⟨c[m],mw B,σ,C,t⟩ g l;rw[j]at r;omega
def Ps:∀(l s:rc Af),Dy s->(∀f∈s,AL f)->(∀f∈l,AL f)->Dy (l.foldl A9 s)/\(∀f∈l.foldl A9 s,AL f)/\∀f,f∈l.foldl A9 s↔f∈s\/f∈l
 |[],s,h1,h2,_=>⟨h1,h2,λf=>by simp⟩
 |x::l,s,h1,h2,h3=>by
  obtain⟨e,b,h⟩:=Ct (h3 x (by simp)) h1 h2;obtain⟨a,c,g⟩:=Ps l (A9 s x) e b (λf d=>h3 f (by simp[d]));refine⟨a,c,λf=>?_⟩;rw[nh,g f,h f,mA,or_assoc]
def ZT.batch{o:zA->Nat}(A:CG c o){s:rc Af}{B:rc (Nat×G1 Af)}(h:ZT c B s)(I:Dy s)(H:∀f∈s,AL f)(M:∀f∈s,o f.name<=n)(D:m<Z c)(C:o c[m].head.name=n){l:rc Af}(L:l.Nodup)(u:∀f∈l,f∉s/\AL f)
  {a:rc (G1 Af)} (t:a.map G1.head=l) (z:∀i∈a,∃σ,(∀x∈An c[m],Cp (Bo σ) (Eu σ) s x=jj)/\i=Da c[m] σ):∀j,ZT c (B++(a.take j).map (Prod.mk m)) ((l.take j).foldl A9 s):=by
 have w:∀f∈l,o f.name=n:=by
  intro f b;rw[<-t]at b;obtain⟨i,k,rfl⟩:=mD.1 b;obtain⟨σ,_,rfl⟩:=z i k;exact C
 have Q:Z a=Z l:=by rw[<-t,mI]
 intro j
 induction j with
 |zero=>simpa using h
 |succ j ih=>
  by_cases e:j<Z l
  ·(have r:j<Z a:=by omega);have d:=Ps (l.take j) s I H (λf b=>(u f (ow b)).2);have y:l[j]=a[j].head:=by
    have:=congrArg (λl=>l[j]?) t;simp only[n6,mG r,mG e,ox,mB]at this;exact this.symm
   obtain⟨σ,F,k⟩:=z a[j] (mw r);obtain⟨v,E⟩:=(IL c[m] σ s).1 F;rw[<-k]at v;rw[mx r,nk,<-nA,mx e,nH];simp only[mU,oH,nh,List.foldl_nil];refine ih.add A (n:=n) (λf b=>?_) D C k E (λg p=>(d.2.2 g).2 (lo (v.1 g p))) (λg p q=>?_) (λq=>?_) (λf=>?_)
   .rcases(d.2.2 f).1 b with h|h
    .exact M f h
    .exact Nat.le_of_eq (w f (ow h))
   .rcases(d.2.2 g).1 q with h|h
    .exact v.2 g p h
    .have R:=A.zY.neg a[j] ⟨c[m],mw D,σ,E,k⟩ g p;have N:=w g (ow h);(have P:o a[j].head.name=n:=by rw[<-y];exact w _ (mw e));omega
   .rw[<-y]at q;rcases(d.2.2 _).1 q with h|h
    .exact(u _ (mw e)).1 h
    ·(have G:(l.take j++l[j]::l.drop (j+1)).Nodup:=by rw[<-mQ e,nO];exact L);exact(p9.1 G).2.2 _ h _ (nK ..) rfl
   .rw[(Ct (u _ (mw e)).2 d.1 d.2.1).2.2 f,y]
  .rw[mz (by omega),mz (by omega)];rw[mz (by omega),mz (by omega)]at ih;exact ih
abbrev DG:=Nat×G1 Af
def Hi(a:rc DG×rc Af)(h:DG):rc DG×rc Af:=if DB a.2 h.2.head=jj then(a.1++[h],h.2.pos.foldl A9 a.2)else a
def KG:rc DG->rc Af->rc DG
 |[],_=>[]
 |h::R,N=>if DB N h.2.head=jj then KG R (h.2.pos.foldl A9 N)++[h] else KG R N
def Ry:∀(R:rc DG) (A:rc DG) (N:rc Af),(R.foldl Hi (A,N)).1=A++(KG R N).reverse
 |[],A,N=>by simp[KG]
 |h::R,A,N=>by
  rw[nh];by_cases a:DB N h.2.head=jj
  ·(have b:Hi (A,N) h=(A++[h],h.2.pos.foldl A9 N):=by unfold Hi;rw[mK a]);rw[b,Ry R,KG,mK a,List.reverse_append];simp
  ·(have b:Hi (A,N) h=(A,N):=by unfold Hi;rw[mJ a]);rw[b,Ry R,KG,mJ a]
def YW:rc DG->Prop
 |[]=>True
 |h::R=>(∀g∈h.2.pos,g∈R.map λh=>h.2.head)/\YW R
def VX:∀(R:rc DG) (N:rc Af),YW R->Dy N->(∀f∈N,AL f)->(∀h∈R,∀g∈h.2.pos,AL g)->
  (KG R N).Sublist R.reverse/\(∀h∈R,h.2.head∈N->h∈KG R N)/\∀A h B,KG R N=A++h::B->∀g∈h.2.pos,g∈A.map λh=>h.2.head
 |[],N,_,_,_,_=>⟨by simp[KG],λh r=>by simp at r,λA h B e=>by simp[KG]at e⟩
 |h::R,N,hl,hr,hc,hp=>by
  by_cases n:DB N h.2.head=jj
  ·(have e:KG (h::R) N=KG R (h.2.pos.foldl A9 N)++[h]:=by rw[KG,mK n]);have i:=Ps h.2.pos N hr hc (λg d=>hp h (by simp) g d);obtain⟨m,k,o⟩:=VX R _ hl.2 i.1 i.2.1 (λx a=>hp x (by simp[a]));rw[e];refine⟨?_,?_,?_⟩
   .rw[List.reverse_cons];exact m.append (List.Sublist.refl _)
   .intro x a l;rcases mA.1 a with rfl|a
    .simp
    .exact mF.2 (lo (k x a ((i.2.2 _).2 (lo l))))
   .intro A x B q g d;rcases List.append_eq_append_iff.1 q with⟨C,j,b⟩|⟨C,j,b⟩
    ·
     cases C with
     |nil=>
      simp at b;obtain⟨rfl,rfl⟩:=b;rw[j,np];obtain⟨y,p,rfl⟩:=mD.1 (hl.1 g d);exact mD.2 ⟨y,k y p ((i.2.2 _).2 (lx d)),rfl⟩
     |cons c C=>simp at b
    ·
     cases C with
     |nil=>
      simp at b;obtain⟨rfl,rfl⟩:=b;rw[np]at j;obtain⟨y,p,rfl⟩:=mD.1 (hl.1 g d);exact mD.2 ⟨y,by rw[<-j];exact k y p ((i.2.2 _).2 (lx d)),rfl⟩
     |cons c C=>
      simp only[ot,oA]at b;obtain⟨rfl,_⟩:=b;exact o A x C j g d
  ·(have e:KG (h::R) N=KG R N:=by rw[KG,mJ n]);obtain⟨m,k,o⟩:=VX R N hl.2 hr hc (λx a=>hp x (by simp[a]));rw[e];refine⟨?_,?_,o⟩
   .rw[List.reverse_cons];exact m.trans (List.sublist_append_left _ _)
   .intro x a l;rcases mA.1 a with rfl|a
    .exact absurd ((Ck _ _).2 l) n
    .exact k x a l
def TF:∀(R:rc DG) (f:Af),f∈R.map (λh=>h.2.head)->∃c h,KG R [f]=c++[h]/\h.2.head=f
 |[],f,h=>by simp at h
 |h::R,f,a=>by
  by_cases b:DB [f] h.2.head=jj
  .refine⟨_,h,by rw[KG,mK b],?_⟩;have:=(Ck _ _).1 b;simpa using this
  .rw[KG,mJ b];refine TF R f ?_;rw[mU,mA]at a;rcases a with rfl|a
   .exact absurd ((Ck _ _).2 (by simp)) b
   .exact a
def Uh:∀(R:rc DG) (f:Af),f∉R.map (λh=>h.2.head)->KG R [f]=[]
 |[],f,h=>rfl
 |h::R,f,hm=>by
  rw[mU,mA,not_or]at hm;rw[KG,mJ ?_]
  .exact Uh R f hm.2
  .intro a;have:=(Ck _ _).1 a;simp at this;exact hm.1 this.symm
def fH:∀(a:rc DG),(∀i (d:i<Z a),∀g∈a[i].2.pos,g∈(a.take i).map λh=>h.2.head)->YW a.reverse:=by
 intro a;have b:∀n,n<=Z a->(∀i (d:i<Z a),∀g∈a[i].2.pos,g∈(a.take i).map λh=>h.2.head)->YW (a.take n).reverse:=by
  intro n
  induction n with
  |zero=>intro _ _;rw[pN];trivial
  |succ n ih=>
   intro e h;rw[mx (by omega),List.reverse_append];refine⟨λg c=>?_,ih (by omega) h⟩;show g∈List.map (λh=>h.2.head) (List.take n a).reverse;rw[List.map_reverse,List.mem_reverse];exact h n (by omega) g c
 intro h;have:=b (Z a) (mP _) h
 rwa [nR]at this
structure jS(rcs:rc AV)(s:rc Af)(l:rc DG):Prop where
 nd:(l.map λh=>h.2.head).Nodup
 each:∀A h B,l=A++h::B->∃(hn:h.1<Z rcs) (σ:UInt8->zA),Qp rcs[h.1] σ/\h.2=Da rcs[h.1] σ/\(∀g∈h.2.pos,g∈A.map λh=>h.2.head)/\∀g∈h.2.neg,g∉s
 zX:∀h∈l,h.2.head∈s
def Jv(hs:rc DG)(f:Af):rc DG:=KG hs.reverse [f]
def ZT.proof{a:rc DG}{s:rc Af}(h:ZT c a s)(D:∀f∈s,AL f){f:Af}(r:AL f):jS c s (Jv a f)/\(f∈s->∃t x,Jv a f=t++[x]/\x.2.head=f)/\(f∉s->Jv a f=[]):=by
 have o:∀x∈a,∀g∈x.2.pos,g∈s:=by
  intro x d g b;obtain⟨i,j,rfl⟩:=nw d;obtain⟨_,_,_,_,k,_⟩:=h.each i j;obtain⟨y,v,e⟩:=mD.1 (k g b);exact(h.mem g).2 (mD.2 ⟨y,ow v,e⟩)
 have u:YW a.reverse:=fH a (λi j g b=>by obtain⟨_,_,_,_,k,_⟩:=h.each i j;exact k g b);obtain⟨l,_,w⟩:=VX a.reverse [f] u (List.pairwise_singleton _ _) (λg b=>by simp at b;rw[b];exact r) (λx d g b=>D g (o x (List.mem_reverse.1 d) g b));rw[List.reverse_reverse]at l;refine⟨⟨?_,λA x B e=>?_,λx d=>?_⟩,λm=>?_,λm=>?_⟩
 .exact h.nd.sublist (l.map _)
 .have d:x∈a:=l.subset (by unfold Jv at e;rw[e];simp);obtain⟨i,j,rfl⟩:=nw d;obtain⟨p,σ,n,z,k,q⟩:=h.each i j;exact⟨p,σ,n,z,w A _ B e,q⟩
 .exact(h.mem _).2 (mD.2 ⟨x,l.subset d,rfl⟩)
 .refine TF _ _ ?_;rw[List.map_reverse,List.mem_reverse];exact(h.mem f).1 m
 .refine Uh _ _ ?_;rw[List.map_reverse,List.mem_reverse];exact λC=>m ((h.mem f).2 C)
theorem Tryz.yC:(Tryz.prog.info? 5).map (λi=>(i.zero,i.size,i.bytes))=V (V (X .u8 0),1,1):=by kernel_rfl
