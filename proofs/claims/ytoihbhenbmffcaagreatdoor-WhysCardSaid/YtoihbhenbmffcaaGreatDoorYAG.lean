import Derived.Laws.Cover1
import Derived.Test.YtoihbhenbmffcaaGreatDoorYAA
set_option linter.all false
set_option maxHeartbeats 0
open List renaming length->Z
open Go.Value renaming slice->U,int->X,string->O
open Bool renaming false->K
open Go.Ending renaming returned->j4
open Go renaming World->j7
open Go.Op renaming bytesLess->jP
namespace Go.Proofs.YtoihbhenbmffcaaGreatDoor
open Go.RowKit Go.Proofs.Tryz
def DM(a b:g0):Int:=if jP a.toList b.toList then -1 else if jP b.toList a.toList then 1 else 0
theorem Ud(a:g0)(w:j7):Calls prog 186 #[O a] w λe b=>e=j4 (.bool K)/\b=w:=by
 have h:(a.toList==a.toList)=true:=by simp
 have c:(a.toList !=a.toList)=K:=by simp[bne]
 go_enter func186,ntmps186;go_wp2;all_goals go_ret
 all_goals first|exact⟨rfl,rfl⟩|exact⟨by simp,rfl⟩
theorem TU(a:g0)(w:j7):Calls prog 215 #[O a] w λe b=>e=j4 (.bool K)/\b=w:=by
 have h:(a.toList==a.toList)=true:=by simp
 have c:(a.toList !=a.toList)=K:=by simp[bne]
 go_enter func215,ntmps215;go_wp2;all_goals go_ret
 all_goals first|exact⟨rfl,rfl⟩|exact⟨by simp,rfl⟩
theorem ax(a b:g0)(w:j7):Calls prog 150 #[O a,O b] w λe i=>e=j4 (X .i64 (DM a b))/\i=w:=by
 have h:=Ab (Ud a w);have g:=Ab (Ud b w);have f:Hid (DM a b=if jP a.toList b.toList then -1 else if jP b.toList a.toList then 1 else 0):=rfl;generalize DM a b=C at f⊢;go_enter func150,ntmps150;go_wp2_with fail
 refine h.mono ?_;rintro e k ⟨rfl,rfl⟩;go_wp2_with fail
 refine g.mono ?_;rintro e j ⟨rfl,rfl⟩;clear h g;cases h1:jP a.toList b.toList with
 |true=>
  have d:Hid (C= -1):=by show _=_;rw[Aa f,h1];rfl
  go_wp2;go_ret;rw[Aa d];exact⟨rfl,rfl⟩
 |false=>
  cases h2:(a.toList==b.toList)with
  |false=>
   have c:jP b.toList a.toList=true:=Qd _ _ h1 h2;(have d:Hid (C=1):=by show _=_;rw[Aa f,h1,c];rfl);clear c;go_wp2;go_ret;rw[Aa d];exact⟨rfl,rfl⟩
  |true=>
   have c:jP b.toList a.toList=K:=by rw[show a.toList=b.toList from by simpa using h2];exact N0 _
   (have d:Hid (C=0):=by show _=_;rw[Aa f,h1,c];rfl);clear c;go_wp2;go_ret;rw[Aa d];exact⟨rfl,rfl⟩
theorem Z4(a b:g0)(w:j7):Calls prog 187 #[O a,O b] w λe i=>e=j4 (X .i64 (DM a b))/\i=w:=by
 have h:=Ab (TU a w);have g:=Ab (TU b w);have f:Hid (DM a b=if jP a.toList b.toList then -1 else if jP b.toList a.toList then 1 else 0):=rfl;generalize DM a b=C at f⊢;go_enter func187,ntmps187;go_wp2_with fail
 refine h.mono ?_;rintro e k ⟨rfl,rfl⟩;go_wp2_with fail
 refine g.mono ?_;rintro e j ⟨rfl,rfl⟩;clear h g;cases h1:jP a.toList b.toList with
 |true=>
  have d:Hid (C= -1):=by show _=_;rw[Aa f,h1];rfl
  go_wp2;go_ret;rw[Aa d];exact⟨rfl,rfl⟩
 |false=>
  cases h2:(a.toList==b.toList)with
  |false=>
   have c:jP b.toList a.toList=true:=Qd _ _ h1 h2;(have d:Hid (C=1):=by show _=_;rw[Aa f,h1,c];rfl);clear c;go_wp2;go_ret;rw[Aa d];exact⟨rfl,rfl⟩
  |true=>
   have c:jP b.toList a.toList=K:=by rw[show a.toList=b.toList from by simpa using h2];exact N0 _
   (have d:Hid (C=0):=by show _=_;rw[Aa f,h1,c];rfl);clear c;go_wp2;go_ret;rw[Aa d];exact⟨rfl,rfl⟩
def Ef:List g0->List g0->Int
 |[],[]=>0
 |[],_::_=> -1
 |_::_,[]=>1
 |x::l,y::m=>if DM x y=0 then Ef l m else DM x y
def Xt{l m:List g0}{k:Nat}(a:k<Z l)(b:k<Z m):Ef (l.drop k) (m.drop k)=if DM l[k] m[k]=0 then Ef (l.drop (k+1)) (m.drop (k+1))else DM l[k] m[k]:=by
 rw[eQ a,eQ b,Ef]
def Lk{w:j7}{base:Nat}{v:Value}{l:List g0}(h:w.ownsRow base 170 1 v (Z l) (l.flatMap Ah))(k:Nat)(d:k<Z l):∃g a,v=U (some ⟨g,0,none⟩) (Z l) a/\w.cell? ⟨g,k,none⟩=some (O l[k]):=by
 obtain⟨g,a,e,_,f⟩:=AC h (λc _=>rfl) k d;have b:=f k d 0 (by omega);simp[Ah]at b;exact⟨g,a,e,b⟩
set_option maxRecDepth 100000
theorem R0(x:Option Addr)(p:Nat)(l:List g0)(n:Option Addr)(s:Nat)(m:List g0)(w:j7)(q:w.ownsRow 0 170 1 (U x (Z l) p) (Z l) (l.flatMap Ah))(j:w.ownsRow 0 170 1 (U n (Z m) s) (Z m) (m.flatMap Ah))(W:Z l<=1000000)(hm:Z m<=1000000):
  Calls prog 151 #[U x (Z l) p,U n (Z m) s] w λe A=>e=j4 (X .i64 (Ef l m))/\A=w:=by
 have F:=Ab q;have E:=Ab j;obtain⟨R,g⟩:∃R,Ef l m=R:=⟨_,rfl⟩;rw[g];have t:Hid (Ef (l.drop 0) (m.drop 0)=R):=g;clear q j g;go_enter func151,ntmps151;go_wp2
 go_loopg [11] (Z l) (λgk i wr=>∃(k:Nat),i=X .i64 k/\k<=Z l/\k<=Z m/\gk=Z l-k/\Hid (Ef (l.drop k) (m.drop k)=R)/\w=wr)
 case atStart=>exact⟨0,rfl,by omega,by omega,rfl,t,rfl⟩
 case round=>
  clear t;obtain⟨k,rfl,M,I,r,b,rfl⟩:=hrel;have D:=Ab r;clear r;by_cases d:k<Z l
  .obtain⟨T,Q,v,P⟩:=Lk F k d;simp only[ei]at v;obtain⟨rfl,_,rfl⟩:=v;by_cases f:k<Z m
   .obtain⟨N,S,u,H⟩:=Lk E k f;simp only[ei]at u;obtain⟨rfl,_,rfl⟩:=u;(have y:¬(Z m:Int)<=(k:Int):=by omega);have o:=Ab (Z4 l[k] m[k] w);have De:=Ab (Xt d f);generalize DM l[k] m[k]=C at o De;(go_wp2_with fail);refine o.mono ?_;rintro e L ⟨rfl,B⟩;subst B;by_cases c:C=0
    ·(have z:(C !=0)=K:=by simp[c]);have a:Hid (Ef (l.drop (k+1)) (m.drop (k+1))=R):=by
      have h:=Aa b;rw[Aa De,eI c]at h;exact h
     clear b De;go_wp2
     go_roundg (Z l-(k+1))
     case measure=>have:=Aa D;omega
     case rel=>exact⟨k+1,by go_num,by omega,by omega,rfl,a,rfl⟩
    ·(have z:(C !=0)=true:=by simp[c]);have a:Hid (C=R):=by
      have h:=Aa b;rw[Aa De,eE c]at h;exact h
     clear b De;go_wp2;go_ret;rw[<-Aa a];exact⟨rfl,rfl⟩
   ·(have y:(Z m:Int)<=(k:Int):=by omega);have a:Hid (R=1):=by
     have h:=Aa b;rw[eQ d,fq (show Z m<=k by omega),Ef]at h;exact h.symm
    go_wp2;go_ret;rw[Aa a];exact⟨rfl,rfl⟩
  .by_cases f:Z l<Z m
   ·(have G:(Z l:Int)<(Z m:Int):=by omega);have a:Hid (R= -1):=by
     have h:=Aa b;rw[fq (show Z l<=k by omega),eQ (show k<Z m by omega),Ef]at h;exact h.symm
    go_wp2;go_ret;rw[Aa a];exact⟨rfl,rfl⟩
   ·(have G:¬(Z l:Int)<(Z m:Int):=by omega);have a:Hid (R=0):=by
     have h:=Aa b;rw[fq (show Z l<=k by omega),fq (show Z m<=k by omega),Ef]at h;exact h.symm
    go_wp2;go_ret;rw[Aa a];exact⟨rfl,rfl⟩
structure CV where
 name:g0
 zB:List g0
structure Fe where
 f:CV
 tv:Value
def AW(p:Fe):List Value:=[O p.f.name,p.tv]
def DL(w:j7)(p:Fe):Prop:=w.ownsRow 0 170 1 p.tv (Z p.f.zB) (p.f.zB.flatMap Ah)
def DL.kept{w w':j7}{p:Fe}(h:DL w p)(k:Ac [] w w'):DL w' p:=Ad h k (by simp)
def Cx(a b:CV):Int:=if DM a.name b.name=0 then Ef a.zB b.zB else DM a.name b.name
theorem RY(a b:Fe)(w:j7)(k:DL w a)(j:DL w b)(u:Z a.f.zB<=1000000)(x:Z b.f.zB<=1000000):
  Calls prog 104 #[.agg (AW a).toArray,.agg (AW b).toArray] w λe z=>e=j4 (X .i64 (Cx a.f b.f))/\Ac [] w z:=by
 obtain⟨⟨d,i⟩,F⟩:=a;obtain⟨⟨c,h⟩,H⟩:=b;unfold DL at k j;simp only at k j u x;obtain⟨r,q,rfl⟩:=Ak k;obtain⟨p,s,rfl⟩:=Ak j;have g:Hid (Cx ⟨d,i⟩ ⟨c,h⟩=if DM d c=0 then Ef i h else DM d c):=rfl;simp only[AW];generalize Cx ⟨d,i⟩ ⟨c,h⟩=R at g⊢;have m:=((Ac.refl [] w).alloc (.cells [O d,U r (Z i) q].toArray 104)).alloc (.cells [O c,U p (Z h) s].toArray 104);have n:=Ab (ax d c ((w.alloc (.cells [O d,U r (Z i) q].toArray 104)).alloc (.cells [O c,U p (Z h) s].toArray 104)));have o:=Ab (R0 r q i p s h _ (Ad k m (by simp)) (Ad j m (by simp)) u x);have v:=Ab m;clear m k j;generalize DM d c=C at n g;generalize Ef i h=D at o g;go_enter func104,ntmps104;go_wp2_with fail
 refine n.mono ?_;rintro e G ⟨rfl,B⟩;subst B;by_cases l:C=0
 .have y:(C !=0)=K:=by simp[l]
  have t:Hid (R=D):=by show _=_;rw[Aa g,eI l]
  clear g n;go_wp2_with fail
  refine o.mono ?_;rintro e E ⟨rfl,A⟩;subst A;clear o;go_wp2;go_ret;rw[Aa t];exact⟨rfl,v⟩
 .have y:(C !=0)=true:=by simp[l]
  have t:Hid (R=C):=by show _=_;rw[Aa g,eE l]
  clear g n o;go_wp2;go_ret;rw[Aa t];exact⟨rfl,v⟩
