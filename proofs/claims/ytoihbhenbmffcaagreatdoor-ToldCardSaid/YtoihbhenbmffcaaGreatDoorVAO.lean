import Derived.Laws.Cover1
import Derived.Test.YtoihbhenbmffcaaGreatDoorVAM
set_option linter.all false
set_option maxHeartbeats 0
open List renaming length->Z,toArray->D6
open Option renaming none->Y,some->V
open Go.Value renaming slice->U,int->X,string->O,pointer->Gi,agg->Ms,bool->No
open Bool renaming false->K,true->Cm
open Go.IntKind renaming i64->J,i32->M8
open Go.Obj renaming cells->Dj
open Go.Ending renaming returned->G3
open Or renaming inl->Hd,inr->Hf
open Go renaming World->Hq
open Go.RowKit renaming Hid->JR
open Go.World renaming cell?->Lc,ownsRow->Mi
open ByteArray renaming empty->ND
open Go.Op renaming bytesLess->Pf
namespace Go.Proofs.YtoihbhenbmffcaaGreatDoor
open Go.RowKit Go.Proofs.Tryz
variable{k n b m:Nat}{w u:Hq}{z:Value}{e:QC bC}{c:QC A7}{s t:bC}{g:UInt8}{f:QC Af}
def DX(a b:bC):Int:=if Pf a.toList b.toList then -1 else if Pf b.toList a.toList then 1 else 0
theorem Xe(a:bC)(w:Hq):Calls prog 186 #[O a] w λe b=>e=G3 (No K)/\b=w:=by
 have h:(a.toList==a.toList)=Cm:=by simp
 have c:(a.toList !=a.toList)=K:=by simp[bne]
 go_enter func186,ntmps186;go_wp2;all_goals go_ret
 all_goals first|exact⟨rfl,rfl⟩|exact⟨by simp,rfl⟩
theorem WN(a:bC)(w:Hq):Calls prog 215 #[O a] w λe b=>e=G3 (No K)/\b=w:=by
 have h:(a.toList==a.toList)=Cm:=by simp
 have c:(a.toList !=a.toList)=K:=by simp[bne]
 go_enter func215,ntmps215;go_wp2;all_goals go_ret
 all_goals first|exact⟨rfl,rfl⟩|exact⟨by simp,rfl⟩
theorem fj(a b:bC)(w:Hq):Calls prog 150 #[O a,O b] w λe i=>e=G3 (X J (DX a b))/\i=w:=by
 have h:=Ab (Xe a w);have g:=Ab (Xe b w);have f:JR (DX a b=if Pf a.toList b.toList then -1 else if Pf b.toList a.toList then 1 else 0):=rfl;generalize DX a b=C at f⊢;go_enter func150,ntmps150;go_wp2_with fail
 refine h.mono ?_;rintro e k ⟨rfl,rfl⟩;go_wp2_with fail
 refine g.mono ?_;rintro e j ⟨rfl,rfl⟩;clear h g;cases h1:Pf a.toList b.toList with
 |true=>
  have d:JR (C= -1):=by show _=_;rw[Aa f,h1];rfl
  go_wp2;go_ret;rw[Aa d];exact⟨rfl,rfl⟩
 |false=>
  cases h2:(a.toList==b.toList)with
  |false=>
   have c:Pf b.toList a.toList=Cm:=St _ _ h1 h2;(have d:JR (C=1):=by show _=_;rw[Aa f,h1,c];rfl);clear c;go_wp2;go_ret;rw[Aa d];exact⟨rfl,rfl⟩
  |true=>
   have c:Pf b.toList a.toList=K:=by rw[show a.toList=b.toList from by simpa using h2];exact PW _
   (have d:JR (C=0):=by show _=_;rw[Aa f,h1,c];rfl);clear c;go_wp2;go_ret;rw[Aa d];exact⟨rfl,rfl⟩
theorem eV(a b:bC)(w:Hq):Calls prog 187 #[O a,O b] w λe i=>e=G3 (X J (DX a b))/\i=w:=by
 have h:=Ab (WN a w);have g:=Ab (WN b w);have f:JR (DX a b=if Pf a.toList b.toList then -1 else if Pf b.toList a.toList then 1 else 0):=rfl;generalize DX a b=C at f⊢;go_enter func187,ntmps187;go_wp2_with fail
 refine h.mono ?_;rintro e k ⟨rfl,rfl⟩;go_wp2_with fail
 refine g.mono ?_;rintro e j ⟨rfl,rfl⟩;clear h g;cases h1:Pf a.toList b.toList with
 |true=>
  have d:JR (C= -1):=by show _=_;rw[Aa f,h1];rfl
  go_wp2;go_ret;rw[Aa d];exact⟨rfl,rfl⟩
 |false=>
  cases h2:(a.toList==b.toList)with
  |false=>
   have c:Pf b.toList a.toList=Cm:=St _ _ h1 h2;(have d:JR (C=1):=by show _=_;rw[Aa f,h1,c];rfl);clear c;go_wp2;go_ret;rw[Aa d];exact⟨rfl,rfl⟩
  |true=>
   have c:Pf b.toList a.toList=K:=by rw[show a.toList=b.toList from by simpa using h2];exact PW _
   (have d:JR (C=0):=by show _=_;rw[Aa f,h1,c];rfl);clear c;go_wp2;go_ret;rw[Aa d];exact⟨rfl,rfl⟩
def E4:QC bC->QC bC->Int
 |[],[]=>0
 |[],_::_=> -1
 |_::_,[]=>1
 |x::l,y::m=>if DX x y=0 then E4 l m else DX x y
def aR{l m:QC bC}(a:k<Z l)(b:k<Z m):E4 (l.drop k) (m.drop k)=if DX l[k] m[k]=0 then E4 (l.drop (k+1)) (m.drop (k+1))else DX l[k] m[k]:=by
 rw[lY a,lY b,E4]
def MS(h:Mi w n 170 1 z (Z e) (e.flatMap Ag))(k:Nat)(d:k<Z e):∃g a,z=U (V ⟨g,0,Y⟩) (Z e) a/\Lc w ⟨g,k,Y⟩=V (O e[k]):=by
 obtain⟨g,a,f,_,i⟩:=AC h (λc _=>rfl) k d;have b:=i k d 0 (by omega);simp[Ag]at b;exact⟨g,a,f,b⟩
set_option maxRecDepth 100000
theorem UI(x:Option Addr)(p:Nat)(l:QC bC)(n:Option Addr)(s:Nat)(m:QC bC)(w:Hq)(q:Mi w 0 170 1 (U x (Z l) p) (Z l) (l.flatMap Ag))(j:Mi w 0 170 1 (U n (Z m) s) (Z m) (m.flatMap Ag))(W:Z l<=1000000)(hm:Z m<=1000000):
  Calls prog 151 #[U x (Z l) p,U n (Z m) s] w λe A=>e=G3 (X J (E4 l m))/\A=w:=by
 have F:=Ab q;have E:=Ab j;obtain⟨R,g⟩:=QP (E4 l m);rw[g];have t:JR (E4 (l.drop 0) (m.drop 0)=R):=g;clear q j g;go_enter func151,ntmps151;go_wp2
 go_loopg [11] (Z l) (λgk i wr=>∃(k:Nat),i=X J k/\k<=Z l/\k<=Z m/\gk=Z l-k/\JR (E4 (l.drop k) (m.drop k)=R)/\w=wr)
 case atStart=>exact⟨0,rfl,by omega,by omega,rfl,t,rfl⟩
 case round=>
  clear t;obtain⟨k,rfl,M,I,r,b,rfl⟩:=hrel;have D:=Ab r;clear r;by_cases d:k<Z l
  .obtain⟨T,Q,v,P⟩:=MS F k d;simp only[lB]at v;obtain⟨rfl,_,rfl⟩:=v;by_cases f:k<Z m
   .obtain⟨N,S,u,H⟩:=MS E k f;simp only[lB]at u;obtain⟨rfl,_,rfl⟩:=u;(have y:¬(Z m:Int)<=(k:Int):=by omega);have o:=Ab (eV l[k] m[k] w);have DY:=Ab (aR d f);generalize DX l[k] m[k]=C at o DY;(go_wp2_with fail);refine o.mono ?_;rintro e L ⟨rfl,B⟩;subst B;by_cases c:C=0
    ·(have z:(C !=0)=K:=by simp[c]);have a:JR (E4 (l.drop (k+1)) (m.drop (k+1))=R):=by
      have h:=Aa b;rw[Aa DY,lS c]at h;exact h
     clear b DY;go_wp2
     go_roundg (Z l-(k+1))
     case measure=>have:=Aa D;omega
     case rel=>exact⟨k+1,by go_num,by omega,by omega,rfl,a,rfl⟩
    ·(have z:(C !=0)=Cm:=by simp[c]);have a:JR (C=R):=by
      have h:=Aa b;rw[Aa DY,lO c]at h;exact h
     clear b DY;go_wp2;go_ret;rw[<-Aa a];exact⟨rfl,rfl⟩
   ·(have y:(Z m:Int)<=(k:Int):=by omega);have a:JR (R=1):=by
     have h:=Aa b;rw[lY d,mp (show Z m<=k by omega),E4]at h;exact h.symm
    go_wp2;go_ret;rw[Aa a];exact⟨rfl,rfl⟩
  .by_cases f:Z l<Z m
   ·(have G:(Z l:Int)<(Z m:Int):=by omega);have a:JR (R= -1):=by
     have h:=Aa b;rw[mp (show Z l<=k by omega),lY (show k<Z m by omega),E4]at h;exact h.symm
    go_wp2;go_ret;rw[Aa a];exact⟨rfl,rfl⟩
   ·(have G:¬(Z l:Int)<(Z m:Int):=by omega);have a:JR (R=0):=by
     have h:=Aa b;rw[mp (show Z l<=k by omega),mp (show Z m<=k by omega),E4]at h;exact h.symm
    go_wp2;go_ret;rw[Aa a];exact⟨rfl,rfl⟩
structure C9 where
 name:bC
 bc:QC bC
structure Fh where
 f:C9
 tv:Value
def A8(p:Fh):QC Value:=[O p.f.name,p.tv]
def Ek(w:Hq)(p:Fh):Prop:=Mi w 0 170 1 p.tv (Z p.f.bc) (p.f.bc.flatMap Ag)
def Ek.kept{w w':Hq}{p:Fh}(h:Ek w p)(k:Ac [] w w'):Ek w' p:=Ad h k
def CQ(a b:C9):Int:=if DX a.name b.name=0 then E4 a.bc b.bc else DX a.name b.name
theorem UH(a b:Fh)(w:Hq)(k:Ek w a)(j:Ek w b)(u:Z a.f.bc<=1000000)(x:Z b.f.bc<=1000000):
  Calls prog 104 #[Ms (D6 (A8 a)),Ms (D6 (A8 b))] w λe z=>e=G3 (X J (CQ a.f b.f))/\Ac [] w z:=by
 obtain⟨⟨d,i⟩,F⟩:=a;obtain⟨⟨c,h⟩,H⟩:=b;unfold Ek at k j;simp only at k j u x;obtain⟨r,q,rfl⟩:=Ak k;obtain⟨p,s,rfl⟩:=Ak j;have g:JR (CQ ⟨d,i⟩ ⟨c,h⟩=if DX d c=0 then E4 i h else DX d c):=rfl;simp only[A8];generalize CQ ⟨d,i⟩ ⟨c,h⟩=R at g⊢;have m:=((SF [] w).alloc (Dj [O d,U r (Z i) q].toArray 104)).alloc (Dj [O c,U p (Z h) s].toArray 104);have n:=Ab (fj d c ((w.alloc (Dj [O d,U r (Z i) q].toArray 104)).alloc (Dj [O c,U p (Z h) s].toArray 104)));have o:=Ab (UI r q i p s h _ (Ad k m) (Ad j m) u x);have v:=Ab m;clear m k j;generalize DX d c=C at n g;generalize E4 i h=D at o g;go_enter func104,ntmps104;go_wp2_with fail
 refine n.mono ?_;rintro e G ⟨rfl,B⟩;subst B;by_cases l:C=0
 .have y:(C !=0)=K:=by simp[l]
  have t:JR (R=D):=by show _=_;rw[Aa g,lS l]
  clear g n;go_wp2_with fail
  refine o.mono ?_;rintro e E ⟨rfl,A⟩;subst A;clear o;go_wp2;go_ret;rw[Aa t];exact⟨rfl,v⟩
 .have y:(C !=0)=Cm:=by simp[l]
  have t:JR (R=C):=by show _=_;rw[Aa g,lO l]
  clear g n o;go_wp2;go_ret;rw[Aa t];exact⟨rfl,v⟩
structure Jr(w:Hq)(sv:Value)(fs:QC Fh):Prop where
 row:Mi w 0 104 2 sv (Z fs) (fs.flatMap A8)
 each:∀p∈fs,Ek w p/\Z p.f.bc<=1000
def Jr.kept{w w':Hq}{c:Value}{b:QC Fh}(h:Jr w c b)(k:Ac [] w w'):Jr w' c b:=⟨Ad h.row k,λp a=>⟨(h.each p a).1.kept k,(h.each p a).2⟩⟩
def Jw{b:QC Fh}(h:Jr w z b)(k:Nat)(d:k<Z b):
  ∃g m n a i f,z=U (V ⟨g,0,Y⟩) (Z b) m/\b[k]=⟨⟨n,a⟩,U i (Z a) f⟩/\Lc w ⟨g,k*2,Y⟩=V (O n)/\Lc w ⟨g,k*2+1,Y⟩=V (U i (Z a) f):=by
 obtain⟨g,m,s,_,r⟩:=AC h.row (λc _=>rfl) k d;have j:=r k d 0 (by omega);have l:=r k d 1 (by omega);obtain⟨⟨⟨n,a⟩,t⟩,o⟩:∃p,b[k]=p:=⟨_,rfl⟩;have q:=(h.each _ (lE d)).1;rw[o]at j l q;obtain⟨i,f,e⟩:=Ak q;simp only at e;subst e;simp[A8]at j l;exact⟨g,m,n,a,i,f,s,o,j,l⟩
structure Gu(fs:QC Fh)(x:C9)(p:Nat):Prop where
 le:p<=Z fs
 below:∀i (h:i<Z fs),i<p->CQ fs[i].f x<0
 zF:∀i (h:i<Z fs),p<=i->¬CQ fs[i].f x<0
def E5(fs:QC Fh)(x:C9)(p:Nat):Bool:=if h:p<Z fs then CQ fs[p].f x==0 else K
theorem KZ(DT:Option Addr)(B9:Nat)(c:QC Fh)(x:Fh)(w:Hq)(h:Jr w (U DT (Z c) B9) c)(W:Ek w x)(FC:Z x.f.bc<=1000)(HH:Z c<=1000000)(CC:∀i j (l:i<Z c) (hj:j<Z c),i<=j->CQ c[j].f x.f<0->CQ c[i].f x.f<0):
  Calls prog 103 #[U DT (Z c) B9,Ms (D6 (A8 x)),.func (.func 104) #[] #[]] w λe t=>∃p:Nat,e=G3 (.tuple #[X J p,No (E5 c x.f p)])/\Gu c x.f p/\Ac [] w t:=by
 have I:JR (∀(p:Fh) wr,p∈c->Ac [] w wr->Calls prog 104 #[Ms (D6 (A8 p)),Ms (D6 (A8 x))] wr λe t=>e=G3 (X J (CQ p.f x.f))/\Ac [] wr t):=λp wr hp hk=>UH p x wr ((h.each p hp).1.kept hk) (W.kept hk) (by have:=(h.each p hp).2;omega) (by omega)
 have HS:=Ab h;have H:=Ab CC;obtain⟨⟨u,v⟩,xv⟩:=x;obtain⟨A,B,B2⟩:=Ak W;simp only at B2;subst B2;simp only[A8]at I⊢;simp only at H;have s:=Ab (Tc w [O u,U A (Z v) B] 104);have q:=Ab ((SF [] w).alloc (Dj [O u,U A (Z v) B].toArray 104));obtain⟨m,hX⟩:∃m:C9,m=⟨u,v⟩:=⟨_,rfl⟩;rw[<-hX]at H I⊢;clear h W FC CC hX;go_enter func103,ntmps103;go_wp2;change Code.wp _ _ _ _ (w.alloc (Dj [O u,U A (Z v) B].toArray 104));generalize w.alloc (Dj [O u,U A (Z v) B].toArray 104)=w1 at s q⊢;generalize w.heap.size=N at s⊢
 go_loopg [9,10] (Z c) (λgk a b wr=>∃(d l:Nat),a=X J d/\b=X J l/\d<=l/\l<=Z c/\gk=l-d/\JR (∀i (h:i<Z c),i<d->CQ c[i].f m<0)/\JR (∀i (h:i<Z c),l<=i->¬CQ c[i].f m<0)/\JR (Ac [] w wr)/\JR (AI wr N [O u,U A (Z v) B] 104))
 case atStart=>exact⟨0,Z c,rfl,rfl,by omega,by omega,rfl,λi h h0=>by omega,λi h h0=>by omega,q,s⟩
 case round=>
  clear s q;obtain⟨d,l,rfl,rfl,H1,A0,CL,BT,Bx,q,s⟩:=hrel;have HG:=Ab CL;clear CL;have c0:=s.cell 0;have c1:=s.cell 1;simp at c0 c1;by_cases HP:d<l
  .obtain⟨k,HJ⟩:=QP ((d+l)/2);(have HZ:d<=k:=by omega);(have HR:k<l:=by omega);(have R:k<Z c:=by omega);(have H2:((d:Int)+(l:Int))>>>(1:Nat)=(k:Int):=by rw[Int.shiftRight_eq_div_pow];omega);(have HY:((d:Int)+(l:Int))/2=(k:Int):=by omega);obtain⟨g,HD,n,L,ad,cp,E,y,d0,d1⟩:=Jw (HS.kept q) k R;simp only[lB]at E;obtain⟨rfl,_,rfl⟩:=E;have o:=Ab (I c[k] wr.drew (lE R) q.drew);(have Q:JR (CQ c[k].f m<0->∀i (h:i<Z c),i<k+1->CQ c[i].f m<0):=λhc i h EX=>H i k h R (by omega) hc);(have S:JR (¬CQ c[k].f m<0->∀i (h:i<Z c),k<=i->¬CQ c[i].f m<0):=λhc i h EX hh=>hc (H k i R h (by omega) hh));rw[y]at o;simp only at o;obtain⟨C,F⟩:=QP (CQ c[k].f m);rw[F]at Q S;rw[y]at F;simp only at F;rw[F]at o;clear y F;by_cases BA:C<0
   .have HT:=Ab (Q BA);clear Q S;go_wp2_with fail
    go_region_law (go_simp;go_at_call 104;refine o.mono ?_;rintro e M ⟨rfl,r⟩;have z:=Ab (q.drew.trans r);have AB:=Ab (s.drew.kept r);clear r)
    all_goals
     clear o;go_wp2
     go_roundg (l-(k+1))
     case measure=>have:=Aa HG;omega
     case rel=>exact⟨k+1,l,by go_num,rfl,by omega,A0,rfl,HT,Bx,z,AB⟩
   .have HT:=Ab (S BA);clear Q S;go_wp2_with fail
    go_region_law (go_simp;go_at_call 104;refine o.mono ?_;rintro e M ⟨rfl,r⟩;have z:=Ab (q.drew.trans r);have AB:=Ab (s.drew.kept r);clear r)
    all_goals
     clear o;go_wp2
     go_roundg (k-d)
     case measure=>have:=Aa HG;omega
     case rel=>exact⟨d,k,rfl,rfl,by omega,by omega,rfl,BT,HT,z,AB⟩
  ·(have FT:d=l:=by omega);subst FT;have ES:JR (Gu c m d):=⟨A0,BT,Bx⟩;by_cases G:d<Z c
   ·(have FA:(d:Int)<(Z c:Int):=by omega);obtain⟨g,HD,n,L,ad,cp,E,y,d0,d1⟩:=Jw (HS.kept q) d G;simp only[lB]at E;obtain⟨rfl,_,rfl⟩:=E;have o:=Ab (I c[d] wr.drew (lE G) q.drew);(have D:JR (E5 c m d=(CQ c[d].f m==0)):=by show _=_;unfold E5;rw[dif_pos G]);rw[y]at o D;simp only at o D;generalize CQ ⟨n,L⟩ m=C at o D;have EK:JR (∀P:Hq,Ac [] w P->Lc P ⟨g,d*2,Y⟩=V (O n)/\Lc P ⟨g,d*2+1,Y⟩=V (U ad (Z L) cp)):=by
     intro P HE;obtain⟨g',HQ,n',HU,H0,HX,A2,FF,f0,f1⟩:=Jw (HS.kept HE) d G;have e2:=FF.symm.trans y;simp only[lB,lL,mu,Fh.mk.injEq,C9.mk.injEq]at A2 e2;obtain⟨⟨rfl,_,_⟩,_,_⟩:=A2;obtain⟨⟨rfl,rfl⟩,rfl,_,rfl⟩:=e2;exact⟨f0,f1⟩
    clear y;go_wp2_with fail
    go_region_held3 (λt=>Lc t ⟨g,d*2,Y⟩=V (O n)/\Lc t ⟨g,d*2+1,Y⟩=V (U ad (Z L) cp)/\Lc t ⟨N,0,Y⟩=V (O u)/\Lc t ⟨N,1,Y⟩=V (U A (Z v) B)) (go_keep) ((go_at_call 104;refine o.mono ?_;rintro e M ⟨rfl,r⟩;have z:=Ab (q.drew.trans r);have T:=s.drew.kept r;have x0:=T.cell 0;have x1:=T.cell 1;have x2:=(EK M z).1;have x3:=(EK M z).2;simp at x0 x1;clear r T))
    rename_i Go;clear Go o;go_wp2;go_ret2;refine⟨d,?_,ES,z⟩;rw[Aa D];rfl
   ·(have FA:¬(d:Int)<(Z c:Int):=by omega);(have D:JR (E5 c m d=K):=by show _=_;unfold E5;rw[dif_neg G]);(have EY:JR (∀n,Ac [] w (wr.drewN n)):=λn=>q.drewN n);go_wp2_with fail
    go_quiet (fail)
    go_wp2;go_ret2;rw[<-Aa D];exact⟨d,rfl,ES,EY _⟩
def Ac.cellAt(k:Ac [] w u)(h:Lc w ⟨b,n,Y⟩=V z):Lc u ⟨b,n,Y⟩=V z:=by
 have a:b<w.heap.size:=by
  cases hq:w.heap[b]? with
  |none=>simp[World.cell?,hq]at h
  |some x=>exact(mE.1 hq).1
 have e:=k.block b a (by simp);simp only[World.cell?,e]at h⊢;exact h
def Oz(h:Lc w ⟨b,n,Y⟩=V z):b<w.heap.size:=by
 cases hq:w.heap[b]? with
 |none=>simp[World.cell?,hq]at h
 |some x=>exact(mE.1 hq).1
theorem OS(C v:Nat)(l:Option Addr)(m:Nat)(a:QC Fh)(x:Fh)(w:Hq)(t:Lc w ⟨C,v,Y⟩=V (U l (Z a) m))(h:Jr w (U l (Z a) m) a)(s:Ek w x)(u:Z x.f.bc<=1000)(G:Z a<=1000000)(D:∀i j (Q:i<Z a) (R:j<Z a),i<=j->CQ a[j].f x.f<0->CQ a[i].f x.f<0):
  Calls prog 60 #[Gi (V ⟨C,v,Y⟩),Ms (D6 (A8 x))] w λe o=>∃p:Nat,e=G3 (No (E5 a x.f p))/\Gu a x.f p/\Ac [] w o:=by
 have P:=Oz t;have g:JR (∀wr,Ac [] w wr->Calls prog 103 #[U l (Z a) m,Ms (D6 (A8 x)),.func (.func 104) #[] #[]] wr λe o=>∃p:Nat,e=G3 (.tuple #[.int J p,No (E5 a x.f p)])/\Gu a x.f p/\Ac [] wr o):=λwr y=>KZ l m a x wr (h.kept y) (s.kept y) u G D
 obtain⟨⟨b,c⟩,M⟩:=x;obtain⟨n,k,B⟩:=Ak s;simp only at B;subst B;simp only[A8]at g⊢;generalize(⟨b,c⟩:C9)=X at g⊢;have q:=(SF [] w).alloc (Dj [O b,U n (Z c) k].toArray 104);have I:=q.cellAt t;clear t;have d:=Tc w [O b,U n (Z c) k] 104;have r:=Ab q;clear h s u D q;go_enter func60,ntmps60;go_wp2_with fail
 change Code.wp _ _ _ _ (w.alloc (Dj [O b,U n (Z c) k].toArray 104));generalize w.alloc (Dj [O b,U n (Z c) k].toArray 104)=w1 at r I d⊢;generalize w.heap.size=N at d⊢;have E:=d.cell 0;have H:=d.cell 1;simp at E H;have F:=Ab (g w1.drew r.drew);clear g d
 go_region_law (go_simp;go_at_call 103;refine F.mono ?_;rintro e L ⟨p,rfl,hcut,A⟩;have z:=Ab (And.intro hcut (r.drew.trans A));clear hcut A)
 all_goals
  go_wp2;go_ret;exact⟨p,rfl,z.1,z.2⟩
def By(a b:bC):DX a b=0↔a=b:=by
 unfold DX;constructor
 .intro h;cases h1:Pf a.toList b.toList with
  |true=>rw[h1]at h;simp at h
  |false=>
   cases h2:Pf b.toList a.toList with
   |true=>rw[h1,h2]at h;simp at h
   |false=>
    cases h3:(a.toList==b.toList)with
    |true=>exact toList_inj (by simpa using h3)
    |false=>rw[St _ _ h1 h3]at h2;cases h2
 .intro h;rw[h,PW];rfl
def Oh(a b:bC):DX a b<0↔Pf a.toList b.toList=Cm:=by
 unfold DX;cases h1:Pf a.toList b.toList with
 |true=>simp
 |false=>
  cases h2:Pf b.toList a.toList with
  |true=>simp
  |false=>simp
def aA(a b:bC):0<DX a b↔DX b a<0:=by
 rw[Oh];unfold DX;cases h1:Pf a.toList b.toList with
 |true=>
  cases h2:Pf b.toList a.toList with
  |false=>simp
  |true=>
   have:=NQ _ _ _ h1 h2;rw[PW]at this;cases this
 |false=>
  cases h2:Pf b.toList a.toList with
  |true=>simp
  |false=>simp
def Qv{a b c:bC}(d:DX a b<0)(e:DX b c<0):DX a c<0:=by
 rw[Oh]at*;exact NQ _ _ _ d e
def Ux:∀(l m:QC bC),E4 l m=0↔l=m
 |[],[]=>by simp[E4]
 |[],_::_=>by simp[E4]
 |_::_,[]=>by simp[E4]
 |x::l,y::m=>by
  rw[E4];by_cases h:DX x y=0
  .rw[lS h,Ux l m,(By x y).1 h];simp
  .rw[lO h];constructor
   .intro a;exact absurd a h
   .intro a;exact absurd ((By x y).2 (List.cons.inj a).1) h
def aJ:∀(l m:QC bC),0<E4 l m↔E4 m l<0
 |[],[]=>by simp[E4]
 |[],_::_=>by simp[E4]
 |_::_,[]=>by simp[E4]
 |x::l,y::m=>by
  rw[E4,E4];by_cases h:DX x y=0
  .have a:DX y x=0:=(By _ _).2 ((By _ _).1 h).symm;rw[lS h,lS a];exact aJ l m
  ·(have a:¬DX y x=0:=λb=>h ((By _ _).2 ((By _ _).1 b).symm));rw[lO h,lO a];exact aA x y
def Qn:∀{l m k:QC bC},E4 l m<0->E4 m k<0->E4 l k<0
 |[],[],_,h,_=>by simp[E4]at h
 |[],_::_,[],_,h=>by simp[E4]at h
 |[],_::_,_::_,_,_=>by simp[E4]
 |_::_,[],_,h,_=>by simp[E4]at h
 |_::_,_::_,[],_,h=>by simp[E4]at h
 |x::l,y::m,z::k,h1,h2=>by
  rw[E4]at h1 h2⊢;by_cases b:DX x y=0
  .rw[lS b]at h1;rw[(By x y).1 b];by_cases a:DX y z=0
   .rw[lS a]at h2⊢;exact Qn h1 h2
   .rw[lO a]at h2⊢;exact h2
  .rw[lO b]at h1;by_cases a:DX y z=0
   .rw[<-(By y z).1 a,lO b];exact h1
   .rw[lO a]at h2;have c:=Qv h1 h2;rw[lO (by omega)];exact c
def GE(a b:C9):CQ a b=0↔a=b:=by
 obtain⟨d,f⟩:=a;obtain⟨e,g⟩:=b;unfold CQ;simp only;by_cases h:DX d e=0
 .rw[lS h,Ux,(By _ _).1 h];simp
 .rw[lO h];constructor
  .intro c;exact absurd c h
  .intro c;simp only[C9.mk.injEq]at c;exact absurd ((By _ _).2 c.1) h
def au(a b:C9):0<CQ a b↔CQ b a<0:=by
 unfold CQ;by_cases h:DX a.name b.name=0
 .have c:DX b.name a.name=0:=(By _ _).2 ((By _ _).1 h).symm;rw[lS h,lS c];exact aJ _ _
 .have c:¬DX b.name a.name=0:=λd=>h ((By _ _).2 ((By _ _).1 d).symm)
  rw[lO h,lO c];exact aA _ _
def Ir{a b c:C9}(f:CQ a b<0)(d:CQ b c<0):CQ a c<0:=by
 unfold CQ at*;by_cases g:DX a.name b.name=0
 .rw[lS g]at f;rw[(By _ _).1 g];by_cases e:DX b.name c.name=0
  .rw[lS e]at d⊢;exact Qn f d
  .rw[lO e]at d⊢;exact d
 .rw[lO g]at f;by_cases e:DX b.name c.name=0
  .rw[<-(By _ _).1 e,lO g];exact f
  .rw[lO e]at d;have h:=Qv f d;rw[lO (by omega)];exact h
def BX(f:Af):C9:=⟨f.name,f.args.map AD⟩
def AJ(f:Af):Prop:=∀x∈f.args,A6 x
def N8{a b:Af}(i:AJ a)(k:AJ b)(h:BX a=BX b):a=b:=by
 obtain⟨p,o⟩:=a;obtain⟨q,n⟩:=b;simp only[BX,C9.mk.injEq]at h;obtain⟨j,g⟩:=h;subst j
 congr 1
 have f:∀(l m:QC bC),(∀x∈l,A6 x)->(∀x∈m,A6 x)->l.map AD=m.map AD->l=m:=by
  intro l
  induction l with
  |nil=>intro m _ _ h;cases m with|nil=>rfl|cons y m=>simp at h
  |cons x l ih=>
   intro m e d h;cases m with
   |nil=>simp at h
   |cons y m=>
    simp only[l9,nC]at h;rw[Gr (e x (by simp)) (d y (by simp)) h.1,ih m (λz c=>e z (by simp[c])) (λz c=>d z (by simp[c])) h.2]
 exact f o n i k g
def Rs:∀(l m:QC bC),(∀x∈l,A6 x)->(∀x∈m,A6 x)->(Er l m=Cm↔E4 (l.map AD) (m.map AD)<0)
 |[],[],_,_=>by simp[Er,E4]
 |[],_::_,_,_=>by simp[Er,E4]
 |_::_,[],_,_=>by simp[Er,E4]
 |x::l,y::m,hl,hm=>by
  rw[Er,l9,l9,E4];by_cases h:x=y
  .subst h;rw[lS (by simp),lS ((By _ _).2 rfl)];exact Rs l m (λz b=>hl z (by simp[b])) (λz b=>hm z (by simp[b]))
  ·(have c:¬(x.toList==y.toList)=Cm:=λa=>h (toList_inj (by simpa using a)));(have d:¬DX (AD x) (AD y)=0:=λa=>h (Gr (hl x (by simp)) (hm y (by simp)) ((By _ _).1 a)));rw[lO c,lO d,Oh,In (hl x (by simp)) (hm y (by simp))]
def El{a b:Af}(e:AJ a)(f:AJ b):CS a b=Cm↔CQ (BX a) (BX b)<0:=by
 unfold CS CQ BX;simp only;by_cases h:a.name=b.name
 .rw[lS (by rw[h];simp),lS ((By _ _).2 h)];exact Rs _ _ e f
 .have d:¬(a.name.toList==b.name.toList)=Cm:=λc=>h (toList_inj (by simpa using c))
  rw[lO d,lO (λc=>h ((By _ _).1 c)),Oh]
def Ih{α:Type}{lt:α->α->Prop}(e:∀a,¬lt a a)(f:∀a b c,lt a b->lt b c->lt a c):∀(l m:QC α),l.Pairwise lt->m.Pairwise lt->(∀x,x∈l↔x∈m)->l=m
 |[],[],_,_,_=>rfl
 |[],y::m,_,_,h=>by have:=(h y).2 (by simp);simp at this
 |x::l,[],_,_,h=>by have:=(h x).1 (by simp);simp at this
 |x::l,y::m,hl,hm,h=>by
  rw[nA]at hl hm;have g:x=y:=by
   rcases lI.1 ((h x).1 (by simp))with h1|h1
   .exact h1
   .rcases lI.1 ((h y).2 (by simp))with h2|h2
    .exact h2.symm
    .exact absurd (f _ _ _ (hl.1 y h2) (hm.1 x h1)) (e x)
  subst g
  congr 1
  refine Ih e f l m hl.2 hm.2 (λz=>?_);constructor
  .intro d;rcases lI.1 ((h z).1 (by simp[d]))with h1|h1
   .subst h1;exact absurd (hl.1 z d) (e z)
   .exact h1
  .intro d;rcases lI.1 ((h z).2 (by simp[d]))with h1|h1
   .subst h1;exact absurd (hm.1 z d) (e z)
   .exact h1
def Sk(x:BM):QC BM->QC BM
 |[]=>[x]
 |y::m=>if CS x.f y.f then x::y::m else y::Sk x m
def Rd(x:BM):∀(l a:QC BM),l.foldl (Fc x) (a,Cm)=(a++l,Cm)
 |[],a=>by simp
 |y::l,a=>by
  rw[mr];have:Fc x (a,Cm) y=(a++[y],Cm):=by simp[Fc]
  rw[this,Rd x l];simp
def Xo(x:BM):∀(l a:QC BM),(if(l.foldl (Fc x) (a,K)).2 then(l.foldl (Fc x) (a,K)).1 else(l.foldl (Fc x) (a,K)).1++[x])=a++Sk x l
 |[],a=>by simp[Sk]
 |y::l,a=>by
  rw[mr,Sk];cases h:CS x.f y.f with
  |true=>
   (have:Fc x (a,K) y=(a++[x]++[y],Cm):=by simp[Fc,h]);rw[this,Rd];simp
  |false=>
   (have:Fc x (a,K) y=(a++[y],K):=by simp[Fc,h]);rw[this,Xo x l];simp
def Z2(l:QC BM)(x:BM):Ou l x=Sk x l:=by
 have h:=Xo x l [];rw[mR]at h;exact h
def GR(l:QC BM):Prop:=l.Pairwise λa b=>CS a.f b.f=Cm
def Wj{a b c:Af}(d:AJ a)(g:AJ b)(h:AJ c)(f:CS a b=Cm)(e:CS b c=Cm):CS a c=Cm:=by
 rw[El d g]at f;rw[El g h]at e;rw[El d h];exact Ir f e
def cN{a b:Af}(c:AJ a)(d:AJ b)(e:CS a b=K)(f:a≠b):CS b a=Cm:=by
 rw[El d c];have g:¬CQ (BX a) (BX b)<0:=λh=>by rw[(El c d).2 h]at e;cases e
 have i:¬CQ (BX a) (BX b)=0:=λh=>f (N8 c d ((GE _ _).1 h))
 exact(au _ _).1 (by omega)
def Uw{a:Af}(b:AJ a):CS a a=K:=by
 cases h:CS a a with
 |false=>rfl
 |true=>
  rw[El b b,(GE _ _).2 rfl]at h;omega
def JK(x p:BM):∀(l:QC BM),p∈Sk x l↔p=x\/p∈l
 |[]=>by simp[Sk]
 |y::l=>by
  rw[Sk];split
  .simp
  .rw[lI,JK x p l,lI];exact⟨λh=>by rcases h with h|h|h;exact Hf (Hd h);exact Hd h;exact Hf (Hf h),λh=>by rcases h with h|h|h;exact Hf (Hd h);exact Hd h;exact Hf (Hf h)⟩
def PI{x:BM}(b:AJ x.f):∀{l:QC BM},GR l->(∀p∈l,AJ p.f)->(∀p∈l,p.f≠x.f)->GR (Sk x l)
 |[],_,_,_=>by simp[Sk,GR]
 |y::l,h,hc,hne=>by
  unfold GR at h;rw[nA]at h;have c:=hc y (by simp);rw[Sk];cases ha:CS x.f y.f with
  |true=>
   rw[lS rfl];unfold GR;rw[nA];refine⟨λp a=>?_,nA.2 h⟩;rcases lI.1 a with rfl|a
   .exact ha
   .exact Wj b c (hc p (by simp[a])) ha (h.1 p a)
  |false=>
   rw[lO (by simp)];unfold GR;rw[nA];refine⟨λp a=>?_,PI b h.2 (λp a=>hc p (by simp[a])) (λp a=>hne p (by simp[a]))⟩;rcases(JK x p l).1 a with rfl|a
   .exact cN b c ha (λe=>hne y (by simp) e.symm)
   .exact h.1 p a
def Zc{l:QC BM}{x:BM}(e:AJ x.f)(d:GR l)(c:∀p∈l,AJ p.f):GR (IM l x)/\(∀p∈IM l x,AJ p.f)/\∀g,(∃p∈IM l x,p.f=g)↔(∃p∈l,p.f=g)\/g=x.f:=by
 unfold IM
 cases h:XJ l x.f with
 |true=>
  rw[lS rfl];refine⟨d,c,λg=>⟨Hd,λb=>?_⟩⟩;rcases b with b|b
  .exact b
  .unfold XJ at h;rw[mZ]at h;obtain⟨p,a,k⟩:=h;exact⟨p,a,by rw[b];exact(LU _ _).1 k⟩
 |false=>
  rw[lO (by simp),Z2];have j:∀p∈l,p.f≠x.f:=by
   intro p a i;unfold XJ at h;rw[ng]at h;exact h p a ((LU _ _).2 i)
  refine⟨PI e d c j,λp a=>?_,λg=>?_⟩
  .rcases(JK x p l).1 a with rfl|a
   .exact e
   .exact c p a
  .constructor
   .rintro ⟨p,a,rfl⟩;rcases(JK x p l).1 a with rfl|a
    .exact Hf rfl
    .exact Hd ⟨p,a,rfl⟩
   .rintro (⟨p,a,rfl⟩|rfl)
    .exact⟨p,(JK x p l).2 (Hf a),rfl⟩
    .exact⟨x,(JK x x l).2 (Hd rfl),rfl⟩
def fY(x:Af):QC Af->QC Af
 |[]=>[x]
 |y::m=>if CS x y then x::y::m else y::fY x m
def Bb(s:QC Af)(f:Af):QC Af:=if CW s f then s else fY f s
def D1(s:QC Af):Prop:=s.Pairwise λa b=>CS a b=Cm
def R4(x:Af):∀(l:QC Af),Z (fY x l)=Z l+1
 |[]=>rfl
 |y::m=>by
  rw[fY];split
  .rfl
  .rw[lQ,R4 x m,lQ]
def W4(x:BM):∀(l:QC BM),(Sk x l).map BM.f=fY x.f (l.map BM.f)
 |[]=>rfl
 |y::m=>by
  rw[Sk,l9,fY];split
  .rfl
  .rw[l9,W4 x m]
def ff(l:QC BM)(f:Af):XJ l f=CW (l.map BM.f) f:=by
 unfold XJ CW;rw[oW];rfl
def Pe(l:QC BM)(x:BM):(IM l x).map BM.f=Bb (l.map BM.f) x.f:=by
 unfold IM Bb;rw[ff];split
 .rfl
 .rw[Z2,W4]
def j7(f:Af):BM:=⟨f,No K⟩
def iz(s:QC Af):(s.map j7).map BM.f=s:=by
 rw[mJ];exact List.map_id s
def C5{s:QC Af}{f:Af}(u:AJ f)(j:D1 s)(t:∀p∈s,AJ p):D1 (Bb s f)/\(∀p∈Bb s f,AJ p)/\∀g,g∈Bb s f↔g∈s\/g=f:=by
 have m:GR (s.map j7):=by
  unfold GR;rw[nQ];exact j
 have k:∀p∈s.map j7,AJ p.f:=by
  intro p d;obtain⟨g,r,rfl⟩:=lP.1 d;exact t g r
 obtain⟨a,b,c⟩:=Zc (l:=s.map j7) (x:=j7 f) u m k;have e:=Pe (s.map j7) (j7 f);rw[iz]at e;have o:Bb s f=(IM (s.map j7) (j7 f)).map BM.f:=e.symm;rw[o];refine⟨?_,?_,?_⟩
 .unfold D1;rw[nQ];exact a
 .intro p d;obtain⟨q,i,rfl⟩:=lP.1 d;exact b q i
 .intro g;have n:=c g;rw[lP,n];constructor
  .rintro (⟨p,d,rfl⟩|h)
   .obtain⟨q,i,rfl⟩:=lP.1 d;exact Hd i
   .exact Hf h
  .rintro (h|h)
   .exact Hd ⟨j7 g,lZ h,rfl⟩
   .exact Hf h
def consts(cs:QC A7):QC bC:=cs.flatMap λc=>(c.head.args.filter λt=>t.v==0).map AF.s
structure DV(cs:QC A7)(f:Af):Prop where
 zB:∃c∈cs,f.name=c.head.name/\Z f.args=Z c.head.args
 args:∀x∈f.args,x∈consts cs
def I8(l:QC bC):Nat->QC (QC bC)
 |0=>[[]]
 |n+1=>l.flatMap λx=>(I8 l n).map (x:: ·)
def Ts(cs:QC A7):QC Af:=cs.flatMap λc=>(I8 (consts cs) (Z c.head.args)).map (Af.mk c.head.name)
def OU(l:QC bC):∀(m:QC bC),(∀x∈m,x∈l)->m∈I8 l (Z m)
 |[],_=>by simp[I8]
 |x::m,h=>by
  rw[lQ,I8,mD];exact⟨x,h x (by simp),lP.2 ⟨m,OU l m (λy a=>h y (by simp[a])),rfl⟩⟩
def DV.mem{a:QC A7}{f:Af}(h:DV a f):f∈Ts a:=by
 obtain⟨c,e,d,b⟩:=h.zB;unfold Ts;rw[mD];refine⟨c,e,lP.2 ⟨f.args,?_,?_⟩⟩
 .rw[<-b];exact OU _ _ h.args
 .rw[<-d]
def Kl{α:Type}:∀(l m:QC α),l.Nodup->(∀z∈l,z∈m)->Z l<=Z m
 |[],m,_,_=>lW _
 |x::l,m,hn,hs=>by
  rw[nL]at hn;obtain⟨a,b,rfl⟩:=List.append_of_mem (hs x (by simp));have:=Kl l (a++b) hn.2 (λz d=>by
   have c:=hs z (by simp[d])
   rw[lV,lI]at c
   rw[lV]
   rcases c with c|c|c
   .exact Hd c
   .subst c;exact absurd d hn.1
   .exact Hf c)
  simp only[lU,lQ]at this⊢;omega
def D1.nodup{s:QC Af}(h:D1 s)(c:∀f∈s,AJ f):s.Nodup:=by
 unfold List.Nodup;refine nG (fun{a b} ha hb hab e=>?_) h;subst e;rw[Uw (c a ha)]at hab;cases hab
def OW{s t:QC Af}(w:D1 s)(u:D1 t)(j:∀f∈s,AJ f)(ct:∀f∈t,AJ f)(h:∀f,f∈s↔f∈t):s=t:=by
 have r:(s.map BX).Pairwise λa b=>CQ a b<0:=by
  rw[nQ];exact nG (fun{a b} i hb g=>(El (j a i) (j b hb)).1 g) w
 have q:(t.map BX).Pairwise λa b=>CQ a b<0:=by
  rw[nQ];exact nG (fun{a b} i hb g=>(El (ct a i) (ct b hb)).1 g) u
 have v:s.map BX=t.map BX:=by
  refine Ih (lt:=λa b=>CQ a b<0) (λa i=>?_) (λa b c g p=>Ir g p) _ _ r q (λx=>?_)
  .have:CQ a a=0:=(GE a a).2 rfl;omega
  .rw[lP,lP];exact⟨fun⟨f,d,e⟩=>⟨f,(h f).1 d,e⟩,fun⟨f,d,e⟩=>⟨f,(h f).2 d,e⟩⟩
 have o:∀(l m:QC Af),(∀f∈l,AJ f)->(∀f∈m,AJ f)->l.map BX=m.map BX->l=m:=by
  intro l
  induction l with
  |nil=>intro m _ _ e;cases m with|nil=>rfl|cons y m=>simp at e
  |cons x l ih=>
   intro m n k e;cases m with
   |nil=>simp at e
   |cons y m=>
    rw[l9,l9,nC]at e;rw[N8 (n x (by simp)) (k y (by simp)) e.1,ih m (λf d=>n f (by simp[d])) (λf d=>k f (by simp[d])) e.2]
 exact o s t j ct v
def Rj(cs:QC A7):Prop:=∀c∈cs,∀t∈c.head.args,t.v=0->A6 t.s
def UW{d:QC A7}(h:Rj d):∀x∈consts d,A6 x:=by
 intro x a;unfold consts at a;obtain⟨c,f,a⟩:=mD.1 a;obtain⟨t,b,rfl⟩:=lP.1 a;obtain⟨b,e⟩:=mh.1 b;exact h c f t b (by simpa using e)
def DV.canon(h:Rj c){f:Af}(a:DV c f):AJ f:=λx b=>UW h x (a.args x b)
def AJ.cI{f:Af}(h:AJ f):IL f:=λx a=>(h x a).size
def RK{d:QC A7}(j:Ro d){s:QC Af}(p:∀f∈s,DV d f)(q:∀f∈s,IL f){c:A7}(h:c∈d)(b:e∈Bm (Am c) s):DV d (Aq e c.head):=by
 refine⟨⟨c,h,rfl,by simp[Aq]⟩,λx r=>?_⟩;obtain⟨t,i,rfl⟩:=lP.1 r;unfold Bm at b;obtain⟨_,_,_,_,n⟩:=Da q (Am c) [Bj] (λe b=>by simp at b;rw[b];rfl) (j.args c h) e (mh.1 b).1;by_cases g:t.v=0
 .unfold AL;rw[lS g];unfold consts;exact mD.2 ⟨c,h,lP.2 ⟨t,mh.2 ⟨i,by rw[g];rfl⟩,rfl⟩⟩
 .rcases j.head c h t i with a|⟨y,l,k,u,m,o⟩
  .exact absurd a g
  .have a:=(p _ (n y l k).1).args (AL e u) (lZ m);unfold AL at a⊢;rw[o]at a;rw[lO g]at a⊢;exact a
structure GN(cs:QC A7)(dp:bC->Nat)(n:Nat)(s:QC Af):Prop where
 work:D3 (FZ cs) (λf=>dp f.name) n (·∈s)
 cE:D1 s
 fw:∀f∈s,DV cs f
def GN.start(b:QC A7)(a:bC->Nat):GN b a 0 []:=
 ⟨(D3.start (FZ b) (λf:Af=>a f.name)).cong _ _ (λf=>by simp),List.Pairwise.nil,λf c=>by simp at c⟩
def GN.len{b:bC->Nat}{s:QC Af}(d:Rj c)(h:GN c b n s):Z s<=Z (Ts c):=
 Kl s (Ts c) (h.cE.nodup λf a=>(h.fw f a).canon d) λf a=>(h.fw f a).mem
structure Nz(cs:QC A7)(dp:bC->Nat):Prop where
 cI:Ro cs
 lay:CX cs dp
 cU:Rj cs
def gY{k:QC A7}{g:bC->Nat}(j:Nz k g){i s:QC Af}(q:GN k g n i)(h:GN k g n s)(o:∀f∈i,f∈s)(t:∀f∈s,f∈i\/g f.name=n)
  {c:A7} (r:c∈k) (v:g c.head.name=n)  (p:e∈Bm (Am c) i):
  GN k g n (Bb s (Aq e c.head))/\(∀f∈i,f∈Bb s (Aq e c.head))/\∀f∈Bb s (Aq e c.head),f∈i\/g f.name=n:=by
 have u:∀f∈i,IL f:=λf d=>((q.fw f d).canon j.cU).cI
 have l:=RK j.cI q.fw u r p;obtain⟨a,b,m⟩:=C5 (l.canon j.cU) h.cE (λf d=>(h.fw f d).canon j.cU);refine⟨⟨?_,a,λf d=>?_⟩,λf d=>(m f).2 (Hd (o f d)),λf d=>?_⟩
 .exact(fe j.lay j.cI h.work o t u r v p).cong _ _ (λf=>(m f).symm)
 .rcases(m f).1 d with d|d
  .exact h.fw f d
  .rw[d];exact l
 .rcases(m f).1 d with d|d
  .exact t f d
  .right;rw[d];exact v
def Ij(c:A7)(a:QC Af×Bool)(e:QC bC):QC Af×Bool:=if CW a.1 (Aq e c.head)then a else(Bb a.1 (Aq e c.head),Cm)
def De(dp:bC->Nat)(n:Nat)(a:QC Af×Bool)(c:A7):QC Af×Bool:=if dp c.head.name=n then(Bm (Am c) a.1).foldl (Ij c) a else a
def Dz(cs:QC A7)(dp:bC->Nat)(n:Nat)(s:QC Af):QC Af×Bool:=cs.foldl (De dp n) (s,K)
def RF{d:QC A7}{b:bC->Nat}(r:Nz d b){n:Nat}{g:QC Af}(j:GN d b n g){c:A7}(t:c∈d)(o:b c.head.name=n):
  ∀(l:QC (QC bC)) (s:QC Af) (m:Bool),(∀e∈l,e∈Bm (Am c) g)->GN d b n s->(∀f∈g,f∈s)->(∀f∈s,f∈g\/b f.name=n)->
   GN d b n (l.foldl (Ij c) (s,m)).1/\Z s<=Z (l.foldl (Ij c) (s,m)).1/\
    ((l.foldl (Ij c) (s,m)).2=K->(l.foldl (Ij c) (s,m)).1=s/\m=K/\∀e∈l,Aq e c.head∈s)/\
    ((l.foldl (Ij c) (s,m)).2=Cm->m=Cm\/Z s<Z (l.foldl (Ij c) (s,m)).1)
 |[],s,m,_,h,_,_=>⟨h,lX _,λa=>⟨rfl,a,λe D=>by simp at D⟩,λa=>Hd a⟩
 |e::l,s,m,hl,h,hsub,hnew=>by
  rw[mr];have w:∀e∈l,e∈Bm (Am c) g:=λx i=>hl x (by simp[i])
  cases hh:CW s (Aq e c.head)with
  |true=>
   (have q:Ij c (s,m) e=(s,m):=by unfold Ij;rw[hh,lS rfl]);rw[q];obtain⟨p,u,k,v⟩:=RF r j t o l s m w h hsub hnew;refine⟨p,u,λa=>?_,v⟩;obtain⟨z,E,A⟩:=k a;refine⟨z,E,λx i=>?_⟩;rcases lI.1 i with rfl|i
   .exact(B3 _ _).1 hh
   .exact A x i
  |false=>
   (have q:Ij c (s,m) e=(Bb s (Aq e c.head),Cm):=by unfold Ij;rw[hh,lO (by simp)]);rw[q];obtain⟨y,C,B⟩:=gY r j h hsub hnew t o (hl e (by simp));obtain⟨p,u,k,v⟩:=RF r j t o l (Bb s (Aq e c.head)) Cm w y C B;(have F:Z (Bb s (Aq e c.head))=Z s+1:=by unfold Bb;rw[hh,lO (by simp),R4]);refine⟨p,by omega,λa=>?_,λa=>Hf (by omega)⟩;have:=(k a).2.1;cases this
def Le{j:QC A7}{a:bC->Nat}(A:Nz j a){n:Nat}:
  ∀(b:QC A7) (s:QC Af) (m:Bool),(∀c∈b,c∈j)->GN j a n s->
   GN j a n (b.foldl (De a n) (s,m)).1/\Z s<=Z (b.foldl (De a n) (s,m)).1/\
    ((b.foldl (De a n) (s,m)).2=K->(b.foldl (De a n) (s,m)).1=s/\m=K/\∀c∈b,a c.head.name=n->∀e∈Bm (Am c) s,Aq e c.head∈s)/\
    ((b.foldl (De a n) (s,m)).2=Cm->m=Cm\/Z s<Z (b.foldl (De a n) (s,m)).1)
 |[],s,m,_,h=>⟨h,lX _,λg=>⟨rfl,g,λc M=>by simp at M⟩,λg=>Hd g⟩
 |c::b,s,m,hd,h=>by
  rw[mr];have H:∀c∈b,c∈j:=λx d=>hd x (by simp[d])
  by_cases l:a c.head.name=n
  ·(have z:De a n (s,m) c=(Bm (Am c) s).foldl (Ij c) (s,m):=by unfold De;rw[lS l]);rw[z];obtain⟨o,G,t,B⟩:=RF A h (hd c (by simp)) l (Bm (Am c) s) s m (λe i=>i) h (λf u=>u) (λf u=>Hd u);generalize(Bm (Am c) s).foldl (Ij c) (s,m)=r at o G t B⊢;obtain⟨s1,L⟩:=r;simp only at o G t B;obtain⟨y,E,v,w⟩:=Le A b s1 L H o;refine⟨y,by omega,λg=>?_,λg=>?_⟩
   .obtain⟨p,C,q⟩:=v g;obtain⟨I,q2,q3⟩:=t C;subst I;refine⟨p,q2,λx d k e i=>?_⟩;rcases lI.1 d with rfl|d
    .exact q3 e i
    .exact q x d k e i
   .rcases w g with F|F
    .rcases B F with D|D
     .exact Hd D
     .exact Hf (by omega)
    .exact Hf (by omega)
  ·(have z:De a n (s,m) c=(s,m):=by unfold De;rw[lO l]);rw[z];obtain⟨y,E,v,w⟩:=Le A b s m H h;refine⟨y,E,λg=>?_,w⟩;obtain⟨p,C,q⟩:=v g;refine⟨p,C,λx d k e i=>?_⟩;rcases lI.1 d with rfl|d
   .exact absurd k l
   .exact q x d k e i
def Hy{a:QC A7}{b:bC->Nat}(d:Nz a b){s:QC Af}(h:GN a b n s):
  GN a b n (Dz a b n s).1/\((Dz a b n s).2=K->(Dz a b n s).1=s/\GN a b (n+1) s)/\
   ((Dz a b n s).2=Cm->Z s<Z (Dz a b n s).1)/\Z (Dz a b n s).1<=Z (Ts a):=by
 unfold Dz;obtain⟨i,q,l,m⟩:=Le d a s K (λc p=>p) h;refine⟨i,λe=>?_,λe=>?_,i.len d.cU⟩
 .obtain⟨k,_,o⟩:=l e;exact⟨k,cX d.cI h.work (λf j=>((h.fw f j).canon d.cU).cI) o,h.cE,h.fw⟩
 .rcases m e with g|g
  .cases g
  .exact g
def ib{a:QC A7}{e g:bC->Nat}(j:Nz a e)(i:Nz a g){s t:QC Af}(b:GN a e n s)(h:GN a g m t)(k:∀c∈a,e c.head.name<n)(l:∀c∈a,g c.head.name<m):s=t:=
 OW b.cE h.cE (λf d=>(b.fw f d).canon j.cU) (λf d=>(h.fw f d).canon i.cU) (fI j.lay i.lay b.work h.work k l)
def cT{a:QC A7}(h:(An s (Ae s 0)).2.2=K)(e:a.map A7.erase=(An s (Ae s 0)).1)(f:CK a=(0,0)):Nz a (Cf a 6):=by
 have d:=Uo f;refine⟨d.cI (YW h e),d.levels,λc j t g i=>?_⟩;rcases(LX h e c j).1.args t g with⟨_,b⟩|b
 .exact b
 .rw[i]at b;exact absurd b.1 (by decide)
def Bo(x:Bp):QC AF:=if(x.kind==97||x.kind==33)=Cm then x.A.args else[x.L,x.R]
def Dh(e:QC bC)(ts:QC AF):Bool:=ts.all λt=> !UJ (AL e t)
def DU(body:QC Bp)(s:QC Af)(e:QC bC):Bool:=body.any λx=>Dh e (Bo x)&& !Ce (Aq e) (AL e) s x
def Av(al:UInt8->QC bC->QC bC)(body:QC Bp)(s:QC Af):QC UInt8->QC bC->QC (QC bC)
 |[],e=>if DU body s e then[] else[e]
 |v::vs,e=>if DU body s e then[] else(al v e).flatMap λt=>Av al body s vs (e.set (v.toNat-65) t)
def Nc(e:QC bC)(v:UInt8):bC:=e.getD (v.toNat-65) ND
def EH(v:UInt8):Prop:=65<=v.toNat/\v.toNat<=90
def Lm(d:Z e=26)(a:EH g)(t:bC):Nc (e.set (g.toNat-65) t) g=t:=by
 unfold Nc;obtain⟨b,c⟩:=a;rw[lT,m5 (by omega)];rfl
def fK{u v:UInt8}(c:EH u)(b:EH v)(h:u≠v)(t:bC):Nc (e.set (v.toNat-65) t) u=Nc e u:=by
 unfold Nc;have a:v.toNat-65≠u.toNat-65:=by
  intro f;obtain⟨i,d⟩:=c;obtain⟨j,g⟩:=b;exact h (nh.1 (by omega))
 rw[lT,mK a,<-lT]
def BV{j:UInt8->QC bC->QC bC}{l:QC Bp}{s:QC Af}(k:∀v e,∀t∈j v e,t.size≠0):
  ∀(d:QC UInt8) (e b:QC bC),Z e=26->(∀v∈d,EH v)->b∈Av j l s d e->
   Z b=26/\DU l s b=K/\(∀u,EH u->u∉d->Nc b u=Nc e u)/\∀v∈d,(Nc b v).size≠0
 |[],e,b,he,_,a=>by
  rw[Av]at a;split at a
  .simp at a
  .rename_i n;rw[lG]at a;subst a;exact⟨he,by simpa using n,λ_ _ _=>rfl,λv f=>by simp at f⟩
 |v::d,e,b,he,f,a=>by
  rw[Av]at a;split at a
  .simp at a
  .obtain⟨t,r,a⟩:=mD.1 a;have i:=f v (by simp);obtain⟨q,o,m,p⟩:=BV k d (e.set (v.toNat-65) t) b (by simp[he]) (λu c=>f u (by simp[c])) a;refine⟨q,o,λu c h=>?_,λu c=>?_⟩
   .rw[lI,not_or]at h;rw[m u c h.2,fK c i h.1]
   .by_cases g:u∈d
    .exact p u g
    .rcases lI.1 c with rfl|c
     .rw[m u i g,Lm he i];exact k _ _ t r
     .exact absurd c g
def L9(x:Bp):Prop:=∀t∈Bo x,Bs t
def Dk.zz{x:Bp}(h:Dk x):L9 x:=by
 intro t a;unfold Dk at h;unfold Bo at a;split at h
 .rename_i b;rw[lS b]at a;exact(h.args t a).cI
 .rename_i b;rw[lO b]at a;rcases lI.1 a with rfl|a
  .exact h.1.cI
  .rw[lG]at a;subst a;exact h.2.1.cI
def Io{σ:UInt8->bC}{x:Bp}(h:∀t∈Bo x,AL e t=DZ σ t):Ce (Aq e) (AL e) f x=Ce (Bk σ) (DZ σ) f x:=by
 unfold Bo at h;by_cases a:(x.kind==97||x.kind==33)=Cm
 .rw[lS a]at h;have c:Aq e x.A=Bk σ x.A:=by
   unfold Aq Bk;rw[mI h]
  unfold Ce;rw[c];rw[ni]at a;rcases a with a|a
  .rw[lS a,lS a]
  .by_cases b:(x.kind==97)=Cm
   .rw[lS b,lS b]
   .rw[lO b,lO b,lS a,lS a]
 .rw[lO a]at h;have g:=h x.L (by simp);have d:=h x.R (by simp);rw[ni,not_or]at a;unfold Ce;rw[lO a.1,lO a.1,lO a.2,lO a.2,g,d]
def Uy{b:QC Bp}(k:∀x∈b,L9 x){σ:UInt8->bC}(h:∀x∈b,Ce (Bk σ) (DZ σ) f x=Cm)(i:Eo e σ):DU b f e=K:=by
 unfold DU;rw[ng];intro x g a;rw[mi]at a;have j:∀t∈Bo x,AL e t=DZ σ t:=by
  intro t d;have c:=(m3.1 a.1) t d;refine i.val (k x g t d) (λl=>?_);rw[(Ed _).2 l]at c;cases c
 rw[Io j,h x g]at a;simp at a
def ZE(al:UInt8->QC bC->QC bC)(body:QC Bp)(s:QC Af):Prop:=
 ∀(v:UInt8) (e:QC bC) (σ:UInt8->bC),EH v->Eo e σ->(∀x∈body,Ce (Bk σ) (DZ σ) s x=Cm)->(∃x∈body,(x.kind==97)=Cm/\∃u∈x.A.args,u.v=v)->σ v∈al v e
def Hc{l:UInt8->QC bC->QC bC}{f:QC Bp}{s:QC Af}(k:∀x∈f,L9 x)(n:ZE l f s){σ:UInt8->bC}(g:∀x∈f,Ce (Bk σ) (DZ σ) s x=Cm):
  ∀(d:QC UInt8) (e:QC bC),Eo e σ->(∀v∈d,EH v/\∃x∈f,(x.kind==97)=Cm/\∃u∈x.A.args,u.v=v)->
   ∃b∈Av l f s d e,Eo b σ/\(∀v∈d,Nc b v=σ v)/\∀u,EH u->Nc e u=σ u->Nc b u=σ u
 |[],e,ha,_=>by
  refine⟨e,?_,ha,λv i=>by simp at i,λu _ h=>h⟩;rw[Av,Uy k g ha];simp
 |v::d,e,ha,i=>by
  obtain⟨c,t⟩:=i v (by simp);obtain⟨b,q,o,r,j⟩:=Hc k n g d (e.set (v.toNat-65) (σ v)) (ha.set c.1 c.2) (λu a=>i u (by simp[a]));refine⟨b,?_,o,λu a=>?_,λu a p=>?_⟩
  .rw[Av,Uy k g ha];rw[lO (by simp)];exact mD.2 ⟨σ v,n v e σ c ha g t,q⟩
  .rcases lI.1 a with rfl|a
   .exact j u c (Lm ha.1 c _)
   .exact r u a
  .by_cases m:u=v
   .subst m;exact j u a (Lm ha.1 c _)
   .exact j u a (by rw[fK a c m];exact p)
def Ss(al:UInt8->QC bC->QC bC)(c:A7)(hv rv:QC UInt8)(s:QC Af):QC Af:=
 ((Av al (Am c) s hv Bj).filter λb=> !CW s (Aq b c.head)&& !(Av al (Am c) s rv b).isEmpty).map λb=>Aq b c.head
structure SS(c:A7)(hv rv:QC UInt8):Prop where
 ok:∀v,v∈hv\/v∈rv->EH v/\∃x∈Am c,(x.kind==97)=Cm/\∃u∈x.A.args,u.v=v
 apart:∀v∈hv,v∉rv
 head:∀t∈c.head.args,t.v=0\/t.v∈hv
 body:∀x∈Am c,∀t∈Bo x,t.v=0\/t.v∈hv\/t.v∈rv
 lits:∀x∈Am c,L9 x
def EU{t:AF}(h:t.v≠0):AL e t=Nc e t.v:=by
 unfold AL Nc;rw[lO h]
def Um{m:UInt8->QC bC->QC bC}{c:A7}{n k:QC UInt8}{s:QC Af}(g:SS c n k)(y:∀v e,∀t∈m v e,t.size≠0){f:Af}(q:f∈Ss m c n k s):
  f∉s/\∃σ,(∀x∈Am c,Ce (Bk σ) (DZ σ) s x=Cm)/\f=Bk σ c.head:=by
 unfold Ss at q;obtain⟨b,o,rfl⟩:=lP.1 q;obtain⟨o,z⟩:=mh.1 o;rw[mi]at z;obtain⟨A,r⟩:=z;refine⟨λh=>?_,?_⟩
 .rw[(B3 _ _).2 h]at A;cases A
 .obtain⟨a,F⟩:∃a,a∈Av m (Am c) s k b:=by
   cases hl:Av m (Am c) s k b with
   |nil=>rw[hl]at r;simp at r
   |cons x l=>exact⟨x,by simp⟩
  obtain⟨G,_,_,H⟩:=BV y n Bj b rfl (λv i=>(g.ok v (Hd i)).1) o;obtain⟨L,u,E,I⟩:=BV y k b a G (λv i=>(g.ok v (Hf i)).1) F;have w:∀v∈n,Nc a v=Nc b v:=λv i=>E v (g.ok v (Hd i)).1 (g.apart v i)
  refine⟨Jq a,λx p=>?_,?_⟩
  .have D:Dh a (Bo x)=Cm:=by
    unfold Dh;rw[m3];intro t j;have C:(AL a t).size≠0:=by
     by_cases d:t.v=0
     .rcases g.lits x p t j with h|h
      .unfold AL;rw[lS d];exact h.2
      .rw[d]at h;exact absurd h.1 (by decide)
     .rw[EU d];rcases g.body x p t j with h|h|h
      .exact absurd h d
      .rw[w _ h];exact H _ h
      .exact I _ h
    cases hE:UJ (AL a t)with
    |false=>rfl
    |true=>exact absurd ((Ed _).1 hE) C
   have B:Ce (Aq a) (AL a) s x=Cm:=by
    unfold DU at u;have:=(ng.1 u) x p;rw[D,np]at this;simpa using this
   rw[<-Io (e:=a) (σ:=Jq a) (λt j=>(GU a t).symm)];exact B
  .unfold Aq Bk
   congr 1
   refine mI (λt j=>?_);rw[GU];by_cases d:t.v=0
   .unfold AL;rw[lS d,lS d]
   .rw[EU d,EU d];rcases g.head t j with h|h
    .exact absurd h d
    .exact(w _ h).symm
def e9{i:UInt8->QC bC->QC bC}{c:A7}{g e:QC UInt8}(a:SS c g e)(o:ZE i (Am c) f){σ:UInt8->bC}(n:∀x∈Am c,Ce (Bk σ) (DZ σ) f x=Cm):
  Bk σ c.head∈f\/Bk σ c.head∈Ss i c g e f:=by
 obtain⟨b,u,q,p,_⟩:=Hc a.lits o n g Bj (Eo.start σ) (λv h=>a.ok v (Hd h));have j:Aq b c.head=Bk σ c.head:=by
  unfold Aq Bk
  congr 1
  refine mI (λt r=>?_);by_cases d:t.v=0
  .unfold AL DZ;rw[lS d,lS d]
  .rw[EU d];unfold DZ;rw[lO d];rcases a.head t r with h|h
   .exact absurd h d
   .exact p _ h
 by_cases k:Bk σ c.head∈f
 .exact Hd k
 .right;obtain⟨w,m,_⟩:=Hc a.lits o n e b q (λv h=>a.ok v (Hf h));unfold Ss;refine lP.2 ⟨b,mh.2 ⟨u,?_⟩,j⟩;rw[mi];refine⟨?_,?_⟩
  .rw[j];cases hh:CW f (Bk σ c.head)with
   |false=>rfl
   |true=>exact absurd ((B3 _ _).1 hh) k
  .cases hl:Av i (Am c) f e b with
   |nil=>rw[hl]at m;simp at m
   |cons x l=>rfl
def Rt(e:QC bC)(ts:QC AF)(xs:QC bC):Bool:=(ts.zip xs).all λp=>UJ (AL e p.1)||(AL e p.1).toList==p.2.toList
def GS(s:QC Af)(A:C8)(i:Nat)(e:QC bC):QC bC:=(s.filter λf=>(f.name.toList==A.name.toList)&&Rt e A.args f.args).map λf=>f.args.getD i ND
def Dc(body:QC Bp)(s:QC Af)(v:UInt8)(e:QC bC):QC (QC bC):=
 body.filterMap λx=>if x.kind==97 then(x.A.args.findIdx? λt=>t.v==v).map λi=>GS s x.A i e else Y
def P1(al:UInt8->QC bC->QC bC)(body:QC Bp)(s:QC Af):Prop:=∀v e t,t∈al v e↔Dc body s v e≠[]/\∀l∈Dc body s v e,t∈l
def Xx{e:QC bC}{σ:UInt8->bC}(b:Eo e σ):∀(a:QC AF),(∀t∈a,Bs t)->Rt e a (a.map (DZ σ))=Cm
 |[],_=>rfl
 |t::a,hg=>by
  have ih:=Xx b a (λu c=>hg u (by simp[c]));unfold Rt at ih⊢;rw[l9,pL,oS,ih,Bool.and_true];cases hz:UJ (AL e t)with
  |true=>rfl
  |false=>
   rw[oe,b.val (hg t (by simp)) (λh=>by rw[(Ed _).2 h]at hz;cases hz)];simp
def S5{m:UInt8->QC bC->QC bC}{d:QC Bp}(B:P1 m d f)(r:∀x∈d,L9 x):ZE m d f:=by
 intro v e σ n G F q;rw[B];refine⟨λg=>?_,λl k=>?_⟩
 .obtain⟨x,c,b,u,z,C⟩:=q;unfold Dc at g;rw[List.filterMap_eq_nil_iff]at g;have a:=g x c;rw[lS b,Option.map_eq_none_iff,List.findIdx?_eq_none_iff]at a;have:=a u z;rw[C]at this;simp at this
 .unfold Dc at k;obtain⟨x,c,a⟩:=nD.1 k;by_cases b:(x.kind==97)=Cm
  .rw[lS b,oO]at a;obtain⟨i,E,rfl⟩:=a;obtain⟨o,D,_⟩:=nT.1 E;(have w:v≠0:=λh=>by rw[h]at n;exact absurd n.1 (by decide));(have j:x.A.args[i].v=v:=by simpa using D);have y:Bk σ x.A∈f:=by
    have:=F x c;unfold Ce at this;rw[lS b]at this;exact(B3 _ _).1 this
   unfold GS;refine lP.2 ⟨Bk σ x.A,mh.2 ⟨y,?_⟩,?_⟩
   .rw[mi];refine⟨by simp[Bk],Xx G x.A.args (λt p=>r x c t ?_)⟩;unfold Bo;rw[b,oR,lS rfl];exact p
   .unfold Bk;simp only;rw[lT,m6,lN o];simp only[nF,Option.getD_some];unfold DZ;rw[lO (by rw[j];exact w),j]
  .rw[lO b]at a;cases a
def gL{n:UInt8->QC bC->QC bC}{b:QC Bp}{s:QC Af}(y:P1 n b s)(w:∀f∈s,IL f)(u:∀f∈s,∀x∈b,(x.kind==97)=Cm->f.name=x.A.name->Z f.args=Z x.A.args):∀v e,∀t∈n v e,t.size≠0:=by
 intro v e t r;obtain⟨C,D⟩:=(y v e t).1 r;obtain⟨l,g⟩:∃l,l∈Dc b s v e:=by
  cases h:Dc b s v e with
  |nil=>exact absurd h C
  |cons a m=>exact⟨a,by simp⟩
 have o:=D l g;unfold Dc at g;obtain⟨x,B,c⟩:=nD.1 g;by_cases d:(x.kind==97)=Cm
 .rw[lS d,oO]at c;obtain⟨i,z,rfl⟩:=c;obtain⟨E,_,_⟩:=nT.1 z;unfold GS at o;obtain⟨f,q,rfl⟩:=lP.1 o;obtain⟨k,p⟩:=mh.1 q;rw[mi]at p;have F:=u f k x B d (toList_inj (by simpa using p.1));have j:i<Z f.args:=by omega
  rw[lT,lN j];exact w f k _ (lE j)
 .rw[lO d]at c;cases c
def Z0{i:QC A7}{e:bC->Nat}(o:Nz i e){k s:QC Af}(F:GN i e n k)(h:GN i e n s)(E:∀f∈k,f∈s)(A:∀f∈s,f∈k\/e f.name=n)
  {c:A7} (r:c∈i) (w:e c.head.name=n) {σ:UInt8->bC} (D:∀x∈Am c,Ce (Bk σ) (DZ σ) k x=Cm):
  GN i e n (Bb s (Bk σ c.head))/\(∀f∈k,f∈Bb s (Bk σ c.head))/\(∀f∈Bb s (Bk σ c.head),f∈k\/e f.name=n):=by
 have B:DV i (Bk σ c.head):=by
  refine⟨⟨c,r,rfl,by simp[Bk]⟩,λx Q=>?_⟩;obtain⟨t,z,rfl⟩:=lP.1 Q;by_cases q:t.v=0
  .unfold DZ;rw[lS q];unfold consts;exact mD.2 ⟨c,r,lP.2 ⟨t,mh.2 ⟨z,by rw[q];rfl⟩,rfl⟩⟩
  .rcases o.cI.head c r t z with H|⟨y,L,G,u,M,N⟩
   .exact absurd H q
   .have j:=D y L;unfold Ce at j;rw[lS G,B3]at j;have l:=(F.fw _ j).args (DZ σ u) (lZ M);unfold DZ at l⊢;rw[N]at l;rw[lO q]at l⊢;exact l
 obtain⟨a,b,m⟩:=C5 (B.canon o.cU) h.cE (λf d=>(h.fw f d).canon o.cU);have j:=(Gm c σ k).1 D;have C:FZ i (C1 c σ):=⟨c,r,σ,j.2,rfl⟩;have I:=h.work.step (FZ i) (λf=>e f.name) o.lay.fU C w ⟨λg p=>E g (j.1.1 g p),λg p P=>by
  rcases A g P with h|h
  .exact j.1.2 g p h
  .have l:e g.name<e (C1 c σ).head.name:=o.lay.fU.neg _ C g p
   have R:e (C1 c σ).head.name=n:=w
   omega⟩
 refine⟨⟨I.cong _ _ (λf=>(m f).symm),a,λf d=>?_⟩,λf d=>(m f).2 (Hd (E f d)),λf d=>?_⟩
 .rcases(m f).1 d with d|d
  .exact h.fw f d
  .rw[d];exact B
 .rcases(m f).1 d with d|d
  .exact A f d
  .right;rw[d];exact w
def Ls(s:QC Af)(f:Af):Z s<=Z (Bb s f)/\(f∉s->Z (Bb s f)=Z s+1):=by
 unfold Bb;cases hh:CW s f with
 |true=>rw[lS rfl];exact⟨lX _,λh=>absurd ((B3 _ _).1 hh) h⟩
 |false=>rw[lO (by simp),R4];exact⟨by omega,λ_=>rfl⟩
def Ly{b:QC A7}{a:bC->Nat}(e:Nz b a){n:Nat}{d:QC Af}(i:GN b a n d){c:A7}(j:c∈b)(k:a c.head.name=n):
  ∀(l:QC Af) (s:QC Af),(∀f∈l,∃σ,(∀x∈Am c,Ce (Bk σ) (DZ σ) d x=Cm)/\f=Bk σ c.head)->GN b a n s->(∀f∈d,f∈s)->(∀f∈s,f∈d\/a f.name=n)->
   GN b a n (l.foldl Bb s)/\Z s<=Z (l.foldl Bb s)
 |[],s,_,h,_,_=>⟨h,lX _⟩
 |f::l,s,hl,h,hsub,hnew=>by
  obtain⟨σ,r,rfl⟩:=hl f (by simp);obtain⟨m,p,q⟩:=Z0 e i h hsub hnew j k r;obtain⟨o,u⟩:=Ly e i j k l _ (λg t=>hl g (by simp[t])) m p q;rw[mr];have:=(Ls s (Bk σ c.head)).1;exact⟨o,by omega⟩
structure Xg where
 hv:A7->QC UInt8
 rv:A7->QC UInt8
 al:A7->QC Af->UInt8->QC bC->QC bC
def Xg.new(W:Xg)(c:A7)(s:QC Af):QC Af:=Ss (W.al c s) c (W.hv c) (W.rv c) s
def J6(W:Xg)(a:QC Af×Bool)(c:A7):QC Af×Bool:=((W.new c a.1).foldl Bb a.1,a.2|| !(W.new c a.1).isEmpty)
def Ge(W:Xg)(ds:QC A7)(s:QC Af):QC Af×Bool:=ds.foldl (J6 W) (s,K)
structure Sz(W:Xg)(cs:QC A7):Prop where
 parts:∀c∈cs,SS c (W.hv c) (W.rv c)
 al:∀c∈cs,∀s,P1 (W.al c s) (Am c) s
 arity:∀c∈cs,∀d∈cs,∀x∈Am d,(x.kind==97)=Cm->c.head.name=x.A.name->Z c.head.args=Z x.A.args
def Sz.sizes{W:Xg}{a:QC A7}{g:bC->Nat}(i:Sz W a)(m:Nz a g)(u:∀c∈a,∀d∈a,c.head.name=d.head.name->Z c.head.args=Z d.head.args){s:QC Af}(h:GN a g n s){c:A7}(j:c∈a):∀v e,∀t∈W.al c s v e,t.size≠0:=by
 refine gL (i.al c j s) (λf b=>((h.fw f b).canon m.cU).cI) (λf b x q l r=>?_);obtain⟨d,k,p,o⟩:=(h.fw f b).zB;rw[o];exact i.arity d k c j x q l (by rw[<-p];exact r)
def O2{W:Xg}{e:QC A7}{p:bC->Nat}(q:Sz W e)(k:Nz e p)(r:∀c∈e,∀d∈e,c.head.name=d.head.name->Z c.head.args=Z d.head.args){n:Nat}:
  ∀(b:QC A7) (s:QC Af) (m:Bool),(∀c∈b,c∈e/\p c.head.name=n)->GN e p n s->
   GN e p n (b.foldl (J6 W) (s,m)).1/\Z s<=Z (b.foldl (J6 W) (s,m)).1/\
    ((b.foldl (J6 W) (s,m)).2=K->(b.foldl (J6 W) (s,m)).1=s/\m=K/\∀c∈b,W.new c s=[])/\
    ((b.foldl (J6 W) (s,m)).2=Cm->m=Cm\/Z s<Z (b.foldl (J6 W) (s,m)).1)
 |[],s,m,_,h=>⟨h,lX _,λi=>⟨rfl,i,λc j=>by simp at j⟩,λi=>Hd i⟩
 |c::b,s,m,hd,h=>by
  rw[mr];have B:∀c∈b,c∈e/\p c.head.name=n:=λx o=>hd x (by simp[o])
  obtain⟨j,v⟩:=hd c (by simp);have t:∀f∈W.new c s,f∉s/\∃σ,(∀x∈Am c,Ce (Bk σ) (DZ σ) s x=Cm)/\f=Bk σ c.head:=λf a=>Um (q.parts c j) (q.sizes k r h j) a
  obtain⟨C,P⟩:=Ly k h j v (W.new c s) s (λf a=>(t f a).2) h (λf a=>a) (λf a=>Hd a);cases hl:W.new c s with
  |nil=>
   (have y:J6 W (s,m) c=(s,m):=by unfold J6;simp only;rw[hl];simp);rw[y];obtain⟨w,z,u,A⟩:=O2 q k r b s m B h;refine⟨w,z,λi=>?_,A⟩;obtain⟨D,I,E⟩:=u i;refine⟨D,I,λx o=>?_⟩;rcases lI.1 o with rfl|o
   .exact hl
   .exact E x o
  |cons f l=>
   have a:=t f (by rw[hl];simp);(have y:J6 W (s,m) c=((W.new c s).foldl Bb s,Cm):=by unfold J6;simp only;rw[hl];simp);rw[y];obtain⟨w,z,u,A⟩:=O2 q k r b _ Cm B C;have N:Z s<Z ((W.new c s).foldl Bb s):=by
    rw[hl,mr];have M:=(Ls s f).2 a.1;obtain⟨σ,H,rfl⟩:=a.2;obtain⟨G,q2,q3⟩:=Z0 k h h (λf a=>a) (λf a=>Hd a) j v H;have L:=(Ly k h j v l _ (λg F=>(t g (by rw[hl];simp[F])).2) G q2 q3).2;omega
   refine⟨w,by omega,λi=>?_,λi=>Hf (by omega)⟩;have:=(u i).2.1;cases this
def cm{W:Xg}{a:QC A7}{e:bC->Nat}(l:Sz W a)(r:Nz a e)(w:∀c∈a,∀d∈a,c.head.name=d.head.name->Z c.head.args=Z d.head.args){b:QC A7}(o:∀c,c∈b↔c∈a/\e c.head.name=n){s:QC Af}(h:GN a e n s):
  GN a e n (Ge W b s).1/\((Ge W b s).2=K->(Ge W b s).1=s/\GN a e (n+1) s)/\
   ((Ge W b s).2=Cm->Z s<Z (Ge W b s).1)/\Z (Ge W b s).1<=Z (Ts a):=by
 unfold Ge;obtain⟨q,B,x,y⟩:=O2 l r w b s K (λc g=>(o c).1 g) h;refine⟨q,λm=>?_,λm=>?_,q.len r.cU⟩
 .obtain⟨t,_,u⟩:=x m;refine⟨t,h.work.next (FZ a) (λf=>e f.name) ?_,h.cE,h.fw⟩;rintro i ⟨c,g,σ,A,rfl⟩ z v;have j:=(Gm c σ s).2 ⟨v,A⟩;rcases e9 (l.parts c g) (S5 (l.al c g s) (l.parts c g).lits) j with k|k
  .exact k
  .have p:W.new c s=[]:=u c ((o c).2 ⟨g,z⟩);unfold Xg.new at p;rw[p]at k;simp at k
 .rcases y m with j|j
  .cases j
  .exact j
def Gg(L:bC->Nat)(n:Nat)(x:Bp):Nat:=if x.kind==97 then max n (L x.A.name)else if x.kind==33 then max n (L x.A.name+1)else n
def G4(L:bC->Nat)(body:QC Bp):Nat:=body.foldl (Gg L) 0
def P6(L:bC->Nat)(k:bC)(n:Nat):bC->Nat:=λx=>if x.toList==k.toList then n else L x
def E2(a:(bC->Nat)×Bool)(c:A7):(bC->Nat)×Bool:=if a.1 c.head.name<G4 a.1 (Am c)then(P6 a.1 c.head.name (G4 a.1 (Am c)),Cm)else a
def Ml(cs:QC A7)(L:bC->Nat):(bC->Nat)×Bool:=cs.foldl E2 (L,K)
def EP(cs:QC A7)(L:bC->Nat):Nat:=(cs.map λc=>L c.head.name).sum
def Hl(L:bC->Nat)(k:bC)(n:Nat):P6 L k n k=n:=by unfold P6;simp
def JU{L:bC->Nat}(n:Nat)(h:t≠s):P6 L s n t=L t:=by
 unfold P6;rw[lO (λa=>h (toList_inj (by simpa using a)))]
def OZ(L:bC->Nat):∀(a:QC Bp) (n:Nat),n<=a.foldl (Gg L) n/\∀x∈a,((x.kind==97)=Cm->L x.A.name<=a.foldl (Gg L) n)/\((x.kind==33)=Cm->L x.A.name<a.foldl (Gg L) n)
 |[],n=>⟨lX _,λx c=>by simp at c⟩
 |y::a,n=>by
  rw[mr];obtain⟨k,i⟩:=OZ L a (Gg L n y);have e:n<=Gg L n y/\((y.kind==97)=Cm->L y.A.name<=Gg L n y)/\((y.kind==33)=Cm->L y.A.name<Gg L n y):=by
   unfold Gg;by_cases b:(y.kind==97)=Cm
   .rw[lS b];refine⟨by omega,λ_=>by omega,λj=>?_⟩;(have g:y.kind=97:=by simpa using b);(have f:y.kind=33:=by simpa using j);rw[g]at f;exact absurd f (by decide)
   .rw[lO b];by_cases d:(y.kind==33)=Cm
    .rw[lS d];exact⟨by omega,λh=>absurd h b,λ_=>by omega⟩
    .rw[lO d];exact⟨by omega,λh=>absurd h b,λh=>absurd h d⟩
  refine⟨by omega,λx c=>?_⟩;rcases lI.1 c with rfl|c
  .exact⟨λh=>by have:=e.2.1 h;omega,λh=>by have:=e.2.2 h;omega⟩
  .exact i x c
def OK{L:bC->Nat}{b:Nat}:∀(a:QC Bp) (n:Nat),n<=b->(∀x∈a,((x.kind==97)=Cm->L x.A.name<=b)/\((x.kind==33)=Cm->L x.A.name<b))->a.foldl (Gg L) n<=b
 |[],n,hn,_=>hn
 |y::a,n,hn,h=>by
  rw[mr];refine OK a _ ?_ (λx g=>h x (by simp[g]));obtain⟨f,e⟩:=h y (by simp);unfold Gg;by_cases c:(y.kind==97)=Cm
  .rw[lS c];have:=f c;omega
  .rw[lO c];by_cases d:(y.kind==33)=Cm
   .rw[lS d];have:=e d;omega
   .rw[lO d];exact hn
def Zy{cs:QC A7}{L a:bC->Nat}(h:∀x,L x<=a x):EP cs L<=EP cs a:=by
 unfold EP
 induction cs with
 |nil=>simp
 |cons c cs ih=>
  simp only[l9,List.sum_cons];have:=h c.head.name;omega
def gn{cs:QC A7}{L b:bC->Nat}(h:∀x,L x<=b x){c:A7}(a:c∈cs)(f:L c.head.name<b c.head.name):EP cs L<EP cs b:=by
 induction cs with
 |nil=>simp at a
 |cons d cs ih=>
  have i:=h d.head.name;have g:=Zy (cs:=cs) h;have e:∀M,EP (d::cs) M=M d.head.name+EP cs M:=λM=>by unfold EP;simp
  rw[e,e];rcases lI.1 a with rfl|a
  .omega
  .have:=ih a;omega
def Ke{e:QC A7}{g:bC->Nat}(j:CX e g):∀(b:QC A7) (L:bC->Nat) (m:Bool),(∀c∈b,c∈e)->(∀x,L x<=g x)->
  (∀x,L x<=(b.foldl E2 (L,m)).1 x)/\(∀x,(b.foldl E2 (L,m)).1 x<=g x)/\
   ((b.foldl E2 (L,m)).2=K->(b.foldl E2 (L,m)).1=L/\m=K/\∀c∈b,G4 L (Am c)<=L c.head.name)/\
   ((b.foldl E2 (L,m)).2=Cm->m=Cm\/EP e L<EP e (b.foldl E2 (L,m)).1)
 |[],L,m,_,h=>⟨λx=>lX _,h,λd=>⟨rfl,d,λc i=>by simp at i⟩,λd=>Hd d⟩
 |c::b,L,m,hd,h=>by
  rw[mr];have s:∀c∈b,c∈e:=λx a=>hd x (by simp[a])
  have i:=hd c (by simp);by_cases p:L c.head.name<G4 L (Am c)
  ·(have o:E2 (L,m) c=(P6 L c.head.name (G4 L (Am c)),Cm):=by unfold E2;rw[lS p]);rw[o];have q:∀x,L x<=P6 L c.head.name (G4 L (Am c)) x:=by
    intro x;by_cases a:x=c.head.name
    .subst a;rw[Hl];omega
    .rw[JU _ a];exact lX _
   have v:G4 L (Am c)<=g c.head.name:=by
    refine OK _ _ (lW _) (λx a=>⟨λl=>?_,λl=>?_⟩)
    .exact mM (h _) (j.pos c i x a l)
    .exact Nat.lt_of_le_of_lt (h _) (j.neg c i x a l)
   have y:∀x,P6 L c.head.name (G4 L (Am c)) x<=g x:=by
    intro x;by_cases a:x=c.head.name
    .subst a;rw[Hl];exact v
    .rw[JU _ a];exact h x
   obtain⟨f,k,n,r⟩:=Ke j b _ Cm s y;refine⟨λx=>mM (q x) (f x),k,λd=>?_,λd=>Hf ?_⟩
   .have:=(n d).2.1;cases this
   .refine gn (λx=>mM (q x) (f x)) i ?_;have w:=f c.head.name;rw[Hl]at w;omega
  ·(have o:E2 (L,m) c=(L,m):=by unfold E2;rw[lO p]);rw[o];obtain⟨f,k,n,r⟩:=Ke j b L m s h;refine⟨f,k,λd=>?_,r⟩;obtain⟨t,z,u⟩:=n d;refine⟨t,z,λx a=>?_⟩;rcases lI.1 a with rfl|a
   .omega
   .exact u x a
def YZ{a:QC A7}{e:bC->Nat}(p:CX a e){L:bC->Nat}(h:∀x,L x<=e x):
  (∀x,(Ml a L).1 x<=e x)/\((Ml a L).2=K->(Ml a L).1=L/\CX a L)/\((Ml a L).2=Cm->EP a L<EP a (Ml a L).1)/\EP a (Ml a L).1<=EP a e:=by
 unfold Ml;obtain⟨_,k,n,o⟩:=Ke p a L K (λc d=>d) h;refine⟨k,λf=>?_,λf=>?_,Zy k⟩
 .obtain⟨m,_,l⟩:=n f;refine⟨m,λc d x j g=>?_,λc d x j g=>?_⟩
  .have b:=((OZ L (Am c) 0).2 x j).1 g;have i:G4 L (Am c)<=L c.head.name:=l c d;exact mM b i
  .have b:=((OZ L (Am c) 0).2 x j).2 g;have i:G4 L (Am c)<=L c.head.name:=l c d;exact nz b i
 .rcases o f with b|b
  .cases b
  .exact b
def DE(acc:QC UInt8)(t:AF):QC UInt8:=if(t.v !=0&& !acc.contains t.v)=Cm then acc++[t.v] else acc
def DG(acc:QC UInt8)(ts:QC AF):QC UInt8:=ts.foldl DE acc
def EE:∀(f:QC AF) (c:QC UInt8),c.Nodup->(∃r,DG c f=c++r)/\(DG c f).Nodup/\∀v,v∈DG c f↔v∈c\/(v≠0/\∃t∈f,t.v=v)
 |[],c,h=>⟨⟨[],by simp[DG]⟩,h,λv=>by simp[DG]⟩
 |t::f,c,h=>by
  have e:DG c (t::f)=DG (DE c t) f:=rfl;rw[e];by_cases i:(t.v !=0&& !c.contains t.v)=Cm
  ·(have m:DE c t=c++[t.v]:=by unfold DE;rw[lS i]);rw[m];rw[mi]at i;have y:t.v∉c:=by
    intro j;have:=i.2;rw[pi.2 j]at this;cases this
   (have w:t.v≠0:=by simpa using i.1);have x:(c++[t.v]).Nodup:=by
    rw[oV];refine⟨h,by simp,λa n b o s=>?_⟩;rw[lG]at o;subst o;rw[s]at n;exact y n
   obtain⟨⟨r,p⟩,k,l⟩:=EE f (c++[t.v]) x;refine⟨⟨t.v::r,by rw[p];simp⟩,k,λv=>?_⟩;rw[l,lV,lG];constructor
   .rintro ((h|h)|⟨h,u,d,g⟩)
    .exact Hd h
    .subst h;exact Hf ⟨w,t,by simp,rfl⟩
    .exact Hf ⟨h,u,by simp[d],g⟩
   .rintro (h|⟨h,u,d,g⟩)
    .exact Hd (Hd h)
    .rcases lI.1 d with rfl|d
     .exact Hd (Hf g.symm)
     .exact Hf ⟨h,u,d,g⟩
  ·(have m:DE c t=c:=by unfold DE;rw[lO i]);rw[m];obtain⟨q,k,l⟩:=EE f c h;refine⟨q,k,λv=>?_⟩;rw[l];constructor
   .rintro (h|⟨h,u,d,g⟩)
    .exact Hd h
    .exact Hf ⟨h,u,by simp[d],g⟩
   .rintro (h|⟨h,u,d,g⟩)
    .exact Hd h
    .rcases lI.1 d with rfl|d
     .left;subst g;rw[mi]at i;cases j:c.contains u.v with
      |true=>exact pi.1 j
      |false=>exact absurd ⟨by simpa using h,by rw[j];rfl⟩ i
     .exact Hf ⟨h,u,d,g⟩
def CE(c:A7):QC UInt8:=DG [] c.head.args
def Dy(c:A7):QC UInt8:=(DG [] (c.head.args++(Am c).flatMap Bo)).drop (Z (CE c))
def O7(c:A7):DG [] (c.head.args++(Am c).flatMap Bo)=CE c++Dy c:=by
 have e:DG [] (c.head.args++(Am c).flatMap Bo)=DG (CE c) ((Am c).flatMap Bo):=by
  unfold DG CE DG;rw[mL]
 obtain⟨⟨r,a⟩,_,_⟩:=EE ((Am c).flatMap Bo) (CE c) (EE c.head.args [] n6).2.1;unfold Dy;rw[e,a,List.drop_left]
def XC{o:QC A7}(m:Ro o){c:A7}(n:c∈o)(w:∀x∈Am c,Dk x):SS c (CE c) (Dy c):=by
 have i:=EE (c.head.args++(Am c).flatMap Bo) [] n6;have z:=EE c.head.args [] n6;rw[O7]at i;have k:∀t,t.v≠0->F5 (Am c) t->∃x∈Am c,(x.kind==97)=Cm/\∃u∈x.A.args,u.v=t.v:=by
  intro t b r;rcases r with h|h
  .exact absurd h b
  .exact h
 have s:∀v,v∈CE c\/v∈Dy c->∃x∈Am c,(x.kind==97)=Cm/\∃u∈x.A.args,u.v=v:=by
  intro v g;have d:=(i.2.2 v).1 (lV.2 g);rcases d with d|⟨b,t,a,rfl⟩
  .simp at d
  .rcases lV.1 a with a|a
   .exact k t b (m.head c n t a)
   .obtain⟨x,e,a⟩:=mD.1 a;by_cases f:(x.kind==97)=Cm
    .unfold Bo at a;rw[f,oR,lS rfl]at a;exact⟨x,e,f,t,a,rfl⟩
    .have q:=m.safe c n x e (by simpa using f);unfold Bo at a;by_cases j:(x.kind==33)=Cm
     .rw[j,pG,lS rfl]at a;exact k t b (q.1 j t a)
     .rw[lO (by rw[ni,not_or];exact⟨f,j⟩)]at a;obtain⟨s1,s2⟩:=q.2 (by simpa using j);rcases lI.1 a with rfl|a
      .exact k _ b s1
      .rw[lG]at a;subst a;exact k _ b s2
 refine⟨λv g=>?_,?_,?_,?_,λx e=>(w x e).zz⟩
 .obtain⟨x,e,f,u,p,l⟩:=s v g;refine⟨?_,x,e,f,u,p,l⟩;have d:=(i.2.2 v).1 (lV.2 g);have b:v≠0:=by
   rcases d with d|d
   .simp at d
   .exact d.1
  rcases m.args c n x e f u p with h|h
  .rw[l]at h;exact absurd h.1 b
  .rw[l]at h;exact h
 .intro v g y;have:=(oV.1 i.2.1).2.2 v g v y;exact this rfl
 .intro t a;by_cases b:t.v=0
  .exact Hd b
  .exact Hf ((z.2.2 t.v).2 (Hf ⟨b,t,a,rfl⟩))
 .intro x e t a;by_cases b:t.v=0
  .exact Hd b
  .right;exact lV.1 ((i.2.2 t.v).2 (Hf ⟨b,t,lV.2 (Hf (mD.2 ⟨x,e,a⟩)),rfl⟩))
def Ds.zK{a:QC A7}(h:Ds a):∀c∈a,BU a c.head.name=(Z c.head.args:Int):=by
 intro c b;obtain⟨k,d,rfl⟩:=mw b;exact(Ee (h.each k d)).2.2.2.2.2.1
def Ds.arBody{a:QC A7}(h:Ds a):∀c∈a,∀x∈Am c,(x.kind==97)=Cm->BU a x.A.name=(Z x.A.args:Int):=by
 intro c g x i e;obtain⟨k,f,rfl⟩:=mw g;obtain⟨p,d,rfl⟩:=lP.1 i;have b:=(nB.1 (Ee (h.each k f)).2.2.2.2.2.2.1) p d;unfold BN Nf at b;rw[e,oR,np]at b;simpa using b
def Ds.ar2{a:QC A7}(h:Ds a):∀c∈a,∀d∈a,c.head.name=d.head.name->Z c.head.args=Z d.head.args:=by
 intro c f d b e;have g:=h.zK c f;rw[e,h.zK d b]at g;omega
def Ds.ar3{a:QC A7}(h:Ds a):∀c∈a,∀d∈a,∀x∈Am d,(x.kind==97)=Cm->c.head.name=x.A.name->Z c.head.args=Z x.A.args:=by
 intro c i d b x j f e;have g:=h.zK c i;rw[e,h.arBody d b x j f]at g;omega
def Sg(a:QC A7):∀(d:Nat) (x:bC),Cf a d x<=d
 |0,x=>lX 0
 |d+1,x=>by
  by_cases h:0<Cf a (d+1) x
  .obtain⟨y,b,e,f⟩:=Ru a d x h;have g:b<=1:=by
    obtain⟨c,_,_,l,_,_,h|h⟩:=e<;>omega
   have:=Sg a d y;omega
  .omega
structure Cp(cs:QC A7):Prop where
 order:Ds cs
 prog:Nz cs (Cf cs 6)
 lits:∀c∈cs,∀x∈Am c,Dk x
 cU:∀c∈cs,Mp c.head
def D8{d:QC A7}(h:(An s (Ae s 0)).2.2=K)(a:d.map A7.erase=(An s (Ae s 0)).1)(e:CK d=(0,0)):Cp d:=
 ⟨Uo e,cT h a e,λc b=>(LX h a c b).2,λc b=>(LX h a c b).1⟩
def E3(al:A7->QC Af->UInt8->QC bC->QC bC):Xg:=⟨CE,Dy,al⟩
def Cp.ways{a:QC A7}(h:Cp a){b:A7->QC Af->UInt8->QC bC->QC bC}(e:∀c∈a,∀s,P1 (b c s) (Am c) s):Sz (E3 b) a:=
 ⟨λc d=>XC h.prog.cI d (h.lits c d),e,h.order.ar3⟩
def Cp.other(h:Cp c){L:bC->Nat}(a:CX c L):Nz c L:=⟨h.prog.cI,a,h.prog.cU⟩
def Cp.grow{a:QC A7}(h:Cp a){al:A7->QC Af->UInt8->QC bC->QC bC}(b:∀c∈a,∀f,P1 (al c f) (Am c) f){L:bC->Nat}(e:CX a L){ds:QC A7}(d:∀c,c∈ds↔c∈a/\L c.head.name=n)(g:GN a L n f):
  GN a L n (Ge (E3 al) ds f).1/\((Ge (E3 al) ds f).2=K->(Ge (E3 al) ds f).1=f/\GN a L (n+1) f)/\
   ((Ge (E3 al) ds f).2=Cm->Z f<Z (Ge (E3 al) ds f).1)/\Z (Ge (E3 al) ds f).1<=Z (Ts a):=
 cm (h.ways b) (h.other e) h.order.ar2 d g
def Cp.round(h:Cp c)(a:GN c (Cf c 6) n f):
  GN c (Cf c 6) n (Dz c (Cf c 6) n f).1/\((Dz c (Cf c 6) n f).2=K->(Dz c (Cf c 6) n f).1=f/\GN c (Cf c 6) (n+1) f)/\
   ((Dz c (Cf c 6) n f).2=Cm->Z f<Z (Dz c (Cf c 6) n f).1)/\Z (Dz c (Cf c 6) n f).1<=Z (Ts c):=
 Hy h.prog a
def Cp.one{a:QC A7}(h:Cp a){s t:QC Af}(d:GN a (Cf a 6) 7 s){L:bC->Nat}(f:CX a L)(b:GN a L n t)(e:∀c∈a,L c.head.name<n):s=t:=
 ib h.prog (h.other f) d b (λc _=>by have:=Sg a 6 c.head.name;omega) e
def DS:bC->Bool->QC bC->bC
 |s,_,[]=>s
 |s,b,x::l=>DS (s++(if b then⟨#[44]⟩else⟨#[40]⟩)++B4 x) Cm l
def Fy(p:C9):bC:=DS p.name K p.bc++⟨#[41,46]⟩
def U4:bC->QC C9->bC
 |t,[]=>t
 |t,p::l=>U4 (t++Fy p++⟨#[10]⟩) l
def WP:bC->QC Af->bC
 |t,[]=>t
 |t,f::l=>WP (t++B5 f++⟨#[10]⟩) l
def PN:∀(l:QC bC) (s:bC),(∀x∈l,A6 x)->DS s Cm (l.map AD)=F7 s Cm l
 |[],s,_=>rfl
 |x::l,s,h=>by
  rw[l9,DS,F7,Gt (h x (by simp)),PN l _ (λy a=>h y (by simp[a]))];simp
def Pd{f:Af}(h:AJ f)(b:f.args≠[]):Fy (BX f)=B5 f:=by
 unfold Fy B5 BX;simp only;cases hl:f.args with
 |nil=>exact absurd hl b
 |cons x l=>
  have a:∀y∈x::l,A6 y:=by rw[<-hl];exact h
  rw[l9,DS,F7,Gt (a x (by simp)),PN l _ (λy c=>a y (by simp[c]))];simp
def RW:∀(l:QC Af) (t:bC),(∀f∈l,AJ f/\f.args≠[])->U4 t (l.map BX)=WP t l
 |[],t,_=>rfl
 |f::l,t,h=>by
  obtain⟨a,c⟩:=h f (by simp);rw[l9,U4,WP,Pd a c,RW l _ (λg b=>h g (by simp[b]))]
def fN:∀(l:QC BM) (t:bC),Ox t l=WP t (l.map BM.f)
 |[],t=>rfl
 |p::l,t=>by rw[Ox,l9,WP,fN l]
def eQ(s:bC)(a:Nat):(Cb s a).1≠[]:=by
 rw[Cb];split<;>simp
def RN(h:(A3 s n K).2.2=K):(A3 s n K).1.args≠[]:=by
 unfold A3 at h⊢;simp only at h⊢;have a:=Hz h;unfold Et at a⊢;cases hm:(Bz s (Bc s (AQ s n K) K).2.1 (Bc s (AQ s n K) K).2.2 40).2 with
 |true=>rw[hm,lS rfl]at a;cases a
 |false=>rw[lO (by simp)];exact eQ _ _
def Qr(h:(Ao s n).2.2=K):(Ao s n).1.head.args≠[]:=by
 unfold Ao at h⊢;simp only at h⊢;exact RN (J5 (Hz h)).1
def Pw{s:bC}{b:Nat}(h:(An s b).2.2=K):∀c∈(An s b).1,c.head.args≠[]:=by
 fun_induction An s b with
 |case1 b ha hc ih=>
  intro c a;rcases lI.1 a with rfl|a
  .exact Qr hc.1
  .exact ih h c a
 |case2 b ha hc=>
  intro c a;rw[lG]at a;subst a;exact Qr h
 |case3 b ha=>intro c a;cases a
def R5{a:QC A7}(h:(An s n).2.2=K)(e:a.map A7.erase=(An s n).1):∀c∈a,c.head.args≠[]:=by
 intro c d;have b:c.erase∈(An s n).1:=by rw[<-e];exact lZ d
 exact Pw h _ b
def Cp.text{a:QC A7}(h:Cp a)(j:∀c∈a,c.head.args≠[]){i:QC BM}(m:GN a (Cf a 6) 7 (i.map BM.f)){L:bC->Nat}(k:CX a L){t:QC Af}(b:GN a L n t)(o:∀c∈a,L c.head.name<n):
  U4 ND (t.map BX)=Ox ND i:=by
 have e:=h.one m k b o;rw[fN,e];refine RW t _ (λf d=>⟨(b.fw f d).canon h.prog.cU,λl=>?_⟩);obtain⟨c,p,_,g⟩:=(b.fw f d).zB;rw[l]at g;exact j c p (oZ g.symm)
structure Dp(fs:QC Fh)(s:QC Af):Prop where
 same:fs.map Fh.f=s.map BX
 cE:D1 s
 canon:∀f∈s,AJ f
def D1.pad{s:QC Af}(d:D1 s)(c:∀f∈s,AJ f):(s.map BX).Pairwise λa b=>CQ a b<0:=by
 rw[nQ];exact nG (fun{a b} ha hb hab=>(El (c a ha) (c b hb)).1 hab) d
def Dp.pair{c:QC Fh}{s:QC Af}(h:Dp c s):c.Pairwise λa b=>CQ a.f b.f<0:=by
 have:=h.cE.pad h.canon;rw[<-h.same,nQ]at this;exact this
def WZ(a:C9):¬CQ a a<0:=by
 have:CQ a a=0:=(GE a a).2 rfl;omega
def Dp.mono{a:QC Fh}{s:QC Af}(h:Dp a s)(x:C9):∀i j (d:i<Z a) (c:j<Z a),i<=j->CQ a[j].f x<0->CQ a[i].f x<0:=by
 intro i j d c g e;rcases oQ g with b|b
 .exact Ir (nO.1 h.pair i j d c b) e
 .subst b;exact e
def Dp.mem{a:QC Fh}{s:QC Af}(h:Dp a s){f:Af}(c:AJ f):(∃p∈a,p.f=BX f)↔f∈s:=by
 have e:(∃p∈a,p.f=BX f)↔BX f∈a.map Fh.f:=by rw[lP]
 rw[e,h.same,lP];constructor
 .rintro ⟨g,b,e⟩;rw[<-N8 (h.canon g b) c e];exact b
 .intro d;exact⟨f,d,rfl⟩
def Dp.zW{a:QC Fh}{s:QC Af}(h:Dp a s){f:Af}(l:AJ f)(k:Gu a (BX f) n):E5 a (BX f) n=CW s f:=by
 have r:E5 a (BX f) n=Cm↔CW s f=Cm:=by
  rw[B3,<-h.mem l];unfold E5;constructor
  .intro c;split at c
   .rename_i b;exact⟨a[n],lE b,(GE _ _).1 (by simpa using c)⟩
   .cases c
  .rintro ⟨q,o,e⟩;obtain⟨j,i,rfl⟩:=mw o;have m:n<=j:=by
    by_cases c:j<n
    .have:=k.below j i c;rw[e]at this;exact absurd this (WZ _)
    .omega
   (have b:n<Z a:=by omega);rw[dif_pos b];rcases oQ m with d|d
   .have g:=nO.1 h.pair n j b i d;rw[e]at g;exact absurd g (k.zF n b (lX _))
   .subst d;rw[e];simpa using(GE _ _).2 rfl
 cases d:E5 a (BX f) n<;>cases g:CW s f<;>simp_all
def Dp.zl{a:QC Fh}{s:QC Af}(h:Dp a s){f:Af}(d:AJ f)(c:Gu a (BX f) n)(b:E5 a (BX f) n=Cm):Dp a (Bb s f):=by
 rw[h.zW d c]at b;have:Bb s f=s:=by unfold Bb;rw[b,lS rfl]
 rw[this];exact h
def Dp.zQ{d:QC Fh}{s:QC Af}(h:Dp d s){x:Fh}{f:Af}(u:x.f=BX f)(l:AJ f)(v:Gu d (BX f) n)(A:E5 d (BX f) n=K):Dp (d.take n++x::d.drop n) (Bb s f):=by
 obtain⟨a,b,m⟩:=C5 l h.cE h.canon;refine⟨?_,a,b⟩;have D:f∉s:=λG=>by rw[h.zW l v,(B3 _ _).2 G]at A;cases A
 refine Ih (lt:=λa b=>CQ a b<0) WZ (λa b c=>Ir) _ _ ?_ (a.pad b) (λy=>?_)
 .rw[nQ,pq];have B:=h.pair;have F:=B.take (i:=n);have C:=B.drop (i:=n);have w:∀q∈d.take n,CQ q.f x.f<0:=by
   intro q j;obtain⟨i,t,rfl⟩:=mw j;rw[mB]at t;rw[oJ,u];exact v.below i (by omega) (by omega)
  have z:∀q∈d.drop n,CQ x.f q.f<0:=by
   intro q j;obtain⟨i,t,rfl⟩:=mw j;rw[mG]at t;rw[pk,u];have L:=v.zF (n+i) (by omega) (by omega);(have I:CQ d[n+i].f (BX f)≠0:=λe=>D ((h.mem l).1 ⟨_,lE _,(GE _ _).1 e⟩));exact(au _ _).1 (by omega)
  refine⟨F,nA.2 ⟨z,C⟩,λq j r o=>?_⟩;rcases lI.1 o with rfl|o
  .exact w q j
  .exact Ir (w q j) (z r o)
 .have H:y∈(d.take n++x::d.drop n).map Fh.f↔y=x.f\/y∈d.map Fh.f:=by
   (have E:d.map Fh.f=(d.take n).map Fh.f++(d.drop n).map Fh.f:=by rw[<-mx,mU]);rw[E];simp only[mx,l9,lV,lI];constructor
   .rintro (h|h|h)
    .exact Hf (Hd h)
    .exact Hd h
    .exact Hf (Hf h)
   .rintro (h|h|h)
    .exact Hf (Hd h)
    .exact Hd h
    .exact Hf (Hf h)
  rw[H,h.same,lP,lP,u];constructor
  .rintro (rfl|⟨g,k,rfl⟩)
   .exact⟨f,(m f).2 (Hf rfl),rfl⟩
   .exact⟨g,(m g).2 (Hd k),rfl⟩
  .rintro ⟨g,k,rfl⟩;rcases(m g).1 k with k|rfl
   .exact Hf ⟨g,k,rfl⟩
   .exact Hd rfl
def fu(l:QC bC):¬E4 l []<0:=by
 cases l<;>simp[E4]
def NU(a:C9)(n:bC):CQ a ⟨n,[]⟩<0↔DX a.name n<0:=by
 unfold CQ;simp only;split
 .rename_i h;constructor
  .intro b;exact absurd b (fu _)
  .intro b;omega
 .exact Iff.rfl
def JS{α:Type}{p:α->Bool}:∀(l:QC α),l.Pairwise (λa b=>p b=Cm->p a=Cm)->l.takeWhile p=l.filter p
 |[],_=>rfl
 |x::l,h=>by
  rw[nA]at h;rw[List.takeWhile_cons,nw];cases hx:p x with
  |true=>rw[lS rfl,lS rfl,JS l h.2]
  |false=>
   rw[lO (by simp),lO (by simp)];refine(pg.2 (λy d c=>?_)).symm;rw[h.1 y d c]at hx;cases hx
def P9(n:bC)(q:Fh):Bool:=q.f.name.toList==n.toList
def WD(x:bC):bC:=if UJ x then x else AD x
def Bq(e:QC bC):QC bC:=e.map WD
def SA(x:bC):Prop:=x.size=0\/A6 x
def aW:UJ ND=Cm:=(Ed _).2 rfl
def Qp:WD ND=ND:=by unfold WD;rw[aW,lS rfl]
def CM(h:A6 s):WD s=AD s:=by
 unfold WD;cases he:UJ s with
 |true=>exact absurd ((Ed _).1 he) h.size
 |false=>rfl
def cA(h:A6 s):(AD s).size≠0:=by
 rcases h with⟨c,r,e,a,b⟩|h
 .rw[FG e a,AP,e];simp
 .rw[AP,Gf h];rcases Fs h with⟨c,e,_⟩|⟨c,d,e,_⟩|⟨c,d,f,e,_⟩<;>rw[e]<;>simp
def fT(h:SA s):UJ (WD s)=UJ s:=by
 rcases h with h|h
 .have:UJ s=Cm:=(Ed _).2 h;unfold WD;rw[this,lS rfl,this]
 .have a:UJ s=K:=by
   cases he:UJ s with
   |true=>exact absurd ((Ed _).1 he) h.size
   |false=>rfl
  rw[CM h,a];cases he:UJ (AD s)with
  |true=>exact absurd ((Ed _).1 he) (cA h)
  |false=>rfl
def QZ(b:QC bC)(t:AF):bC:=if t.v=0 then WD t.s else b.getD (t.v.toNat-65) ND
def ED(e:QC bC)(t:AF):QZ (Bq e) t=WD (AL e t):=by
 unfold QZ AL Bq;by_cases a:t.v=0
 .rw[lS a,lS a]
 .rw[lO a,lO a,lT,lT,m6];cases e[t.v.toNat-65]? with
  |none=>exact Qp.symm
  |some x=>rfl
def ie(e:QC bC)(j:Nat)(h:A6 s):Bq (e.set j s)=(Bq e).set j (AD s):=by
 unfold Bq;rw[pV,CM h]
def SV(b:QC bC)(ts:QC AF)(xs:QC bC):Bool:=(ts.zip xs).all λp=>UJ (QZ b p.1)||(QZ b p.1).toList==p.2.toList
def Uu{e:QC bC}:∀(a:QC AF) (b:QC bC),(∀t∈a,SA (AL e t))->(∀x∈b,A6 x)->SV (Bq e) a (b.map AD)=Rt e a b
 |[],b,_,_=>by simp[SV,Rt]
 |t::a,[],_,_=>by simp[SV,Rt]
 |t::a,x::b,ht,hx=>by
  have ih:=Uu a b (λu f=>ht u (by simp[f])) (λy d=>hx y (by simp[d]));unfold SV Rt at ih⊢;rw[l9,pL,pL,oS,oS,ih]
  congr 1
  simp only;rw[ED,fT (ht t (by simp))];cases he:UJ (AL e t)with
  |true=>rfl
  |false=>
   rw[oe,oe];have c:A6 (AL e t):=by
    rcases ht t (by simp)with h|h
    .rw[(Ed _).2 h]at he;cases he
    .exact h
   rw[CM c];have g:((AD (AL e t)).toList==(AD x).toList)=Cm↔((AL e t).toList==x.toList)=Cm:=by
    rw[EW,EW];exact⟨λh=>Gr c (hx x (by simp)) h,λh=>by rw[h]⟩
   cases h1:((AD (AL e t)).toList==(AD x).toList)<;>cases h2:((AL e t).toList==x.toList)<;>simp_all
def RQ(b:QC bC)(ts:QC AF):Bool:=ts.all λt=> !UJ (QZ b t)
def Nt{e:QC bC}:∀(a:QC AF),(∀t∈a,SA (AL e t))->RQ (Bq e) a=Dh e a
 |[],_=>rfl
 |t::a,h=>by
  have ih:=Nt a (λu b=>h u (by simp[b]));unfold RQ Dh at ih⊢;rw[oS,oS,ih,ED,fT (h t (by simp))]
def Xf{l r:AF}(a:A6 (AL e l))(b:A6 (AL e r)):((QZ (Bq e) l).toList==(QZ (Bq e) r).toList)=((AL e l).toList==(AL e r).toList):=by
 rw[ED,ED,CM a,CM b];have c:((AD (AL e l)).toList==(AD (AL e r)).toList)=Cm↔((AL e l).toList==(AL e r).toList)=Cm:=by
  rw[EW,EW];exact⟨λh=>Gr a b h,λh=>by rw[h]⟩
 cases h1:((AD (AL e l)).toList==(AD (AL e r)).toList)<;>cases h2:((AL e l).toList==(AL e r).toList)<;>simp_all
def dV{l r:AF}(a:A6 (AL e l))(b:A6 (AL e r)):Pf (QZ (Bq e) l).toList (QZ (Bq e) r).toList=Gd (AL e l) (AL e r):=by
 rw[ED,ED,CM a,CM b];exact In a b
def P4(t:AY):Prop:=t.v=0\/(65<=t.v/\t.v<=90)
def BJ(b:QC bC)(t:AY):bC:=gd b t.v.toNat t.s
def GT(b:QC bC)(ts:QC AY):Bool:=ts.all λt=> !UJ (BJ b t)
def LI(a d:Nat)(b:QC bC)(t:AY)(w:Hq)(i:Z b=26)(g:AI w a (Aj b) d)(c:P4 t):
  Calls prog 180 #[Gi (V ⟨a,0,Y⟩),Ms #[X M8 t.v,O t.s]] w λr f=>r=G3 (O (BJ b t))/\Ac [] w f:=by
 have h:=QS a d b t.v.toNat t.s w i g (by rcases c with h|h<;>omega);have e:((t.v.toNat:Nat):Int)=t.v:=by rcases c with h|h<;>omega
 rw[e]at h;exact h
theorem Wo(j H:Nat)(b:QC bC)(E:Option Addr)(M:Nat)(a:QC AY)(S:Nat)(w:Hq)(W:Z b=26)(P:AI w j (Aj b) H)(G:Mi w S 215 2 (U E (Z a) M) (Z a) (a.flatMap Ar))(A1:Z a<=100000)(c:∀t∈a,P4 t):
  Calls prog 204 #[Gi (V ⟨j,0,Y⟩),U E (Z a) M] w λr p=>r=G3 (No (GT b a))/\Ac [] w p:=by
 obtain⟨R,y⟩:=QP (GT b a);rw[y];have e:JR ((a.drop 0).all (λt=> !UJ (BJ b t))=R):=y;have HT:JR (∀t∈a,∀f,Ac [] w f->Calls prog 180 #[Gi (V ⟨j,0,Y⟩),Ms #[X M8 t.v,O t.s]] f λr p=>r=G3 (O (BJ b t))/\Ac [] f p):=λt Q f A=>LI j H b t f W (P.kept A) (c t Q)
 have AO:=Ab G;clear y G c P;go_enter func204,ntmps204;go_wp2_with fail
 go_loopg [9] (Z a) (λgk i wr=>∃(k:Nat),i=X J k/\k<=Z a/\gk=Z a-k/\JR ((a.drop k).all (λt=> !UJ (BJ b t))=R)/\JR (Ac [] w wr))
 case atStart=>exact⟨0,rfl,by omega,rfl,e,SF _ _⟩
 case round=>
  clear e;obtain⟨k,rfl,A,D,e,n⟩:=hrel;have HG:=Ab D;clear D;by_cases o:k<Z a
  .obtain⟨g,A0,I,F,C⟩:=Fx (Ad AO n) k o;simp only[lB]at I;obtain⟨rfl,_,rfl⟩:=I;obtain⟨T,l⟩:=QP (a[k]);have x:=Ab (n.alloc (Dj #[X M8 T.v,O T.s] 215));have u:=Ab (HT T (by rw[<-l];exact lE o) _ x);have m:JR ((!UJ (BJ b T)&&(a.drop (k+1)).all (λt=> !UJ (BJ b t)))=R):=by
    have h:=Aa e;rw[lY o,oS,l]at h;exact h
   rw[l]at F C;obtain⟨d,N⟩:=QP (BJ b T);rw[N]at u m;clear e l N;(go_wp2_with fail);refine u.mono ?_;rintro _ w3 ⟨rfl,B⟩;have L:=Ab (x.trans B);clear u x n B F C;cases c:UJ d with
   |true=>
    have q:(d.toList==[])=Cm:=c;(have Ax:d.toList=[]:=by simpa using q);(have z:JR (R=K):=by show _=_;rw[<-Aa m,c];rfl);go_wp2;go_ret;rw[Aa z];exact⟨rfl,L⟩
   |false=>
    have q:(d.toList==[])=K:=c;(have Ax:¬d.toList=[]:=by simpa using q);(have AH:JR ((a.drop (k+1)).all (λt=> !UJ (BJ b t))=R):=by have h:=Aa m;rw[c]at h;exact h);clear m;go_wp2
    go_roundg (Z a-(k+1))
    case measure=>have:=Aa HG;omega
    case rel=>exact⟨k+1,by go_num,by omega,rfl,AH,L⟩
  .have z:JR (R=Cm):=by
    have h:=Aa e;rw[mp (by omega)]at h;exact h.symm
   go_wp2;go_ret;rw[Aa z];exact⟨rfl,n⟩
def Ik(b:QC bC):QC AY->QC bC->Bool
 |t::ts,x::xs=>(UJ (BJ b t)||(BJ b t).toList==x.toList)&&Ik b ts xs
 |_,_=>Cm
def GD{l:QC bC}(h:Mi w n 170 1 z (Z l) (l.flatMap Ag))(k:Nat)(b:k<Z l):∃g a,z=U (V ⟨g,0,Y⟩) (Z l) a/\Lc w ⟨g,k,Y⟩=V (O l[k]):=by
 obtain⟨g,a,e,_,f⟩:=AC h (λc _=>rfl) k b;have d:=f k b 0 (by omega);simp[Ag]at d;exact⟨g,a,e,d⟩
theorem fi(B ty:Nat)(b:QC bC)(z:Int)(q:bC)(m:Option Addr)(o:Nat)(a:QC AY)(p:Fh)(EY:Nat)(w:Hq)(hb:Z b=26)(hB:AI w B (Aj b) ty)(hr:Mi w EY 215 2 (U m (Z a) o) (Z a) (a.flatMap Ar))(W:Ek w p)(Go:Z a<=100000)(FB:Z a<=Z p.f.bc)(l:∀t∈a,P4 t):
  Calls prog 222 #[Gi (V ⟨B,0,Y⟩),Ms #[X J z,O q,U m (Z a) o],Ms (D6 (A8 p))] w λr H=>r=G3 (No (Ik b a p.f.bc))/\Ac [] w H:=by
 obtain⟨⟨n,c⟩,pv⟩:=p;obtain⟨j,e,BS⟩:=Ak W;simp only at BS FB;subst BS;have HX:JR (Mi w 0 170 1 (U j (Z c) e) (Z c) (c.flatMap Ag)):=W;simp only[A8];obtain⟨R,hR⟩:=QP (Ik b a c);rw[hR];have x:JR (Ik b (a.drop 0) (c.drop 0)=R):=hR;have HT:JR (∀t∈a,∀A,Ac [] w A->Calls prog 180 #[Gi (V ⟨B,0,Y⟩),Ms #[X M8 t.v,O t.s]] A λr H=>r=G3 (O (BJ b t))/\Ac [] A H):=λt ht A hk=>LI B ty b t A hb (hB.kept hk) (l t ht)
 have FC:=Ab hr;have D:JR (AI ((w.alloc (Dj [X J z,O q,U m (Z a) o].toArray 187)).alloc (Dj [O n,U j (Z c) e].toArray 104)) (w.heap.size+1) [O n,U j (Z c) e] 104):=by
  have h:=Tc (w.alloc (Dj [X J z,O q,U m (Z a) o].toArray 187)) [O n,U j (Z c) e] 104;simp only[mt]at h;exact h
 have AB:=Ab (((SF [] w).alloc (Dj [X J z,O q,U m (Z a) o].toArray 187)).alloc (Dj [O n,U j (Z c) e].toArray 104));clear hR hr l hB W;go_enter func222,ntmps222;go_wp2_with fail
 change Code.wp _ _ _ _ ((w.alloc (Dj [X J z,O q,U m (Z a) o].toArray 187)).alloc (Dj [O n,U j (Z c) e].toArray 104));generalize((w.alloc (Dj [X J z,O q,U m (Z a) o].toArray 187)).alloc (Dj [O n,U j (Z c) e].toArray 104))=w1 at D AB⊢;generalize w.heap.size=N at D⊢
 go_loopg [13] (Z a) (λgk i wr=>∃(k:Nat),i=X J k/\k<=Z a/\gk=Z a-k/\JR (Ik b (a.drop k) (c.drop k)=R)/\JR (AI wr (N+1) [O n,U j (Z c) e] 104)/\JR (Ac [] w wr))
 case atStart=>exact⟨0,rfl,by omega,rfl,x,D,AB⟩
 case round=>
  clear x D AB;obtain⟨k,rfl,hk,A2,x,HB,E⟩:=hrel;have HG:=Ab A2;clear A2;by_cases G:k<Z a
  ·(have B2:k<Z c:=by omega);obtain⟨g,FT,he,d0,d1⟩:=Fx (Ad FC E) k G;simp only[lB]at he;obtain⟨rfl,_,rfl⟩:=he;obtain⟨T,C⟩:=QP (a[k]);obtain⟨y,L⟩:=QP (c[k]);have Ax:=Ab (E.alloc (Dj #[X M8 T.v,O T.s] 215));have B0:=Ab (HB.alloc (Dj #[X M8 T.v,O T.s] 215));have S:=Ab (HT T (by rw[<-C];exact lE G) _ Ax);have u:JR (((UJ (BJ b T)||(BJ b T).toList==y.toList)&&Ik b (a.drop (k+1)) (c.drop (k+1)))=R):=by
    have h:=Aa x;rw[lY G,lY B2,Ik,C,L]at h;exact h
   rw[C]at d0 d1;obtain⟨d,hV⟩:=QP (BJ b T);rw[hV]at S u;clear x C hV;(have Ha:(0:Int)<=(k:Int):=by omega);(have HA:(k:Int)<(Z c:Int):=by omega);(go_wp2_with fail);refine S.mono ?_;rintro _ w3 ⟨rfl,Q⟩;have F:=Ab (Ax.trans Q);have M:=Ab (B0.kept Q);obtain⟨g2,FW,BB,x0⟩:=GD (Ad HX F) k B2;simp only[lB]at BB;obtain⟨rfl,_,rfl⟩:=BB;rw[L]at x0;have b1:=M.cell 1;simp at b1;clear S Ax E Q d0 d1 B0 HB L;cases l:UJ d with
   |true=>
    have I:(d.toList==[])=Cm:=l;(have E0:d.toList=[]:=by simpa using I);(have P:JR (Ik b (a.drop (k+1)) (c.drop (k+1))=R):=by have h:=Aa u;rw[l]at h;exact h);clear u;go_wp2
    go_roundg (Z a-(k+1))
    case measure=>have:=Aa HG;omega
    case rel=>exact⟨k+1,by go_num,by omega,rfl,P,M,F⟩
   |false=>
    have I:(d.toList==[])=K:=l;(have E0:¬d.toList=[]:=by simpa using I);cases hx:(d.toList==y.toList)with
    |true=>
     (have EM:(d.toList !=y.toList)=K:=by simp[bne,hx]);(have P:JR (Ik b (a.drop (k+1)) (c.drop (k+1))=R):=by have h:=Aa u;rw[l,hx]at h;exact h);clear u;go_wp2
     go_roundg (Z a-(k+1))
     case measure=>have:=Aa HG;omega
     case rel=>exact⟨k+1,by go_num,by omega,rfl,P,M,F⟩
    |false=>
     (have EM:(d.toList !=y.toList)=Cm:=by simp[bne,hx]);(have HE:JR (R=K):=by show _=_;rw[<-Aa u,l,hx];rfl);go_wp2;go_ret;rw[Aa HE];exact⟨rfl,F⟩
  .have HE:JR (R=Cm):=by
    have h:=Aa x;rw[mp (by omega),Ik]at h
    .exact h.symm
    .simp
   go_wp2;go_ret;rw[Aa HE];exact⟨rfl,E⟩
def JB(a b:AY):Bool:=a.v==b.v&&a.s.toList==b.s.toList
def SZ(ts:QC AY)(x:AY)(r:Int):Prop:=(r= -1/\∀t∈ts,JB x t=K)\/∃k,∃h:k<Z ts,r=(k:Int)/\JB x ts[k]=Cm/\∀j (hj:j<Z ts),j<k->JB x ts[j]=K
theorem cJ(D:Option Addr)(G:Nat)(a:QC AY)(x:AY)(P:Nat)(w:Hq)(E:Mi w P 215 2 (U D (Z a) G) (Z a) (a.flatMap Ar))(AT:Z a<=100000):
  Calls prog 206 #[U D (Z a) G,Ms #[X M8 x.v,O x.s]] w λr I=>∃n,r=G3 (X J n)/\SZ a x n/\Ac [] w I:=by
 have Ax:=Ab E;obtain⟨f,m⟩:∃f:Int->Prop,f=SZ a x:=⟨_,rfl⟩;have z:=Ab m;rw[<-m];have b:=Ab (Tc w [X M8 x.v,O x.s] 215);have c:=Ab ((SF [] w).alloc (Dj #[X M8 x.v,O x.s] 215));clear E m;go_enter func206,ntmps206;go_wp2_with fail
 change Code.wp _ _ _ _ (w.alloc (Dj [X M8 x.v,O x.s].toArray 215));generalize w.alloc (Dj [X M8 x.v,O x.s].toArray 215)=w1 at b c⊢;generalize w.heap.size=N at b⊢
 go_loopg [8] (Z a) (λgk i wr=>∃(k:Nat),i=X J k/\k<=Z a/\gk=Z a-k/\JR (∀j (d:j<Z a),j<k->JB x a[j]=K)/\JR (AI wr N [X M8 x.v,O x.s] 215)/\JR (Ac [] w wr))
 case atStart=>exact⟨0,rfl,by omega,rfl,λj d h=>by omega,b,c⟩
 case round=>
  clear b c;obtain⟨k,rfl,hk,B,l,b,c⟩:=hrel;have A:=Ab B;clear B;by_cases u:k<Z a
  .obtain⟨g,AR,F,R,Q⟩:=Fx (Ad Ax c) k u;simp only[lB]at F;obtain⟨rfl,_,rfl⟩:=F;obtain⟨T,o⟩:=QP (a[k]);have y:=Ab o;rw[o]at R Q;clear o;have H:=b.cell 0;have W:=b.cell 1;simp at H W;(have A0:(0:Int)<=(k:Int):=by omega);(have A1:(k:Int)<(Z a:Int):=by omega);(have e:JR (∀n,AI (wr.drewN n) N [X M8 x.v,O x.s] 215/\Ac [] w (wr.drewN n)):=λn=>⟨b.drewN n,c.drewN n⟩);cases hs:JB x T with
   |true=>
    have p:(x.v==T.v)=Cm/\(x.s.toList==T.s.toList)=Cm:=by
     unfold JB at hs;simpa using hs
    have h2:=p.1;have S:=p.2;have q:JR (f (k:Int)):=by
     rw[Aa z];exact Hf ⟨k,u,rfl,by rw[Aa y];exact hs,l⟩
    clear p hs;go_wp2_with fail
    go_quiet (fail)
    go_wp2;go_ret;exact⟨k,rfl,q,(e _).2⟩
   |false=>
    have C:JR (∀j (d:j<Z a),j<k+1->JB x a[j]=K):=by
     intro j d AH;by_cases h:j<k
     .exact l j d h
     ·(have L:j=k:=by omega);subst L;rw[Aa y];exact hs
    cases ha:(x.v==T.v)with
    |false=>
     clear hs;go_wp2_with fail
     go_quiet (fail)
     go_wp2
     go_roundg (Z a-(k+1))
     case measure=>have:=Aa A;omega
     case rel=>exact⟨k+1,by go_num,by omega,rfl,C,(e _).1,(e _).2⟩
    |true=>
     have S:(x.s.toList==T.s.toList)=K:=by
      unfold JB at hs;rw[ha,np]at hs;exact hs
     clear hs;go_wp2_with fail
     go_quiet (fail)
     go_wp2
     go_roundg (Z a-(k+1))
     case measure=>have:=Aa A;omega
     case rel=>exact⟨k+1,by go_num,by omega,rfl,C,(e _).1,(e _).2⟩
  .have q:JR (f (-1)):=by
    rw[Aa z];refine Hd ⟨rfl,λt M=>?_⟩;obtain⟨j,d,rfl⟩:=mw M;exact l j d (by omega)
   go_wp2;go_ret;exact⟨-1,rfl,q,c⟩
def Rz{l:QC Int}(h:Mi w n 21 1 z (Z l) (l.flatMap AW))(k:Nat)(b:k<Z l):∃g a,z=U (V ⟨g,0,Y⟩) (Z l) a/\Lc w ⟨g,k,Y⟩=V (X M8 l[k]):=by
 obtain⟨g,a,e,_,f⟩:=AC h (λc _=>rfl) k b;have d:=f k b 0 (by omega);simp[AW]at d;exact⟨g,a,e,d⟩
theorem eS(q:Option Addr)(u:Nat)(l:QC Int)(x:Int)(z:Nat)(w:Hq)(s:Mi w z 21 1 (U q (Z l) u) (Z l) (l.flatMap AW))(L:Z l<=100000):
  Calls prog 203 #[U q (Z l) u,X M8 x] w λr v=>∃n:Int,r=G3 (X J n)/\(n= -1/\x∉l\/0<=n/\x∈l)/\v=w:=by
 have F:=Ab s;clear s;go_enter func203,ntmps203;go_wp2_with fail
 go_loopg [8] (Z l) (λgk i wr=>∃(k:Nat),i=X J k/\k<=Z l/\gk=Z l-k/\JR (∀j (b:j<Z l),j<k->l[j]≠x)/\wr=w)
 case atStart=>exact⟨0,rfl,by omega,rfl,λj b h=>by omega,rfl⟩
 case round=>
  obtain⟨k,rfl,H,p,m,rfl⟩:=hrel;have A:=Ab p;clear p;by_cases f:k<Z l
  .obtain⟨g,I,t,D⟩:=Rz F k f;simp only[lB]at t;obtain⟨rfl,_,rfl⟩:=t;obtain⟨T,d⟩:=QP (l[k]);have o:=Ab d;rw[d]at D;clear d;(have M:(0:Int)<=(k:Int):=by omega);(have N:(k:Int)<(Z l:Int):=by omega);by_cases a:x=T
   ·(have B:(x==T)=Cm:=by simp[a]);(have c:JR (x∈l):=by show _∈_;rw[a,<-Aa o];exact lE f);clear a;go_wp2;go_ret;exact⟨k,rfl,Hf ⟨by omega,c⟩,rfl⟩
   ·(have B:(x==T)=K:=by simp[a]);have C:JR (∀j (b:j<Z l),j<k+1->l[j]≠x):=by
     intro j b G;by_cases h:j<k
     .exact m j b h
     ·(have y:j=k:=by omega);subst y;rw[Aa o];exact λe=>a e.symm
    clear a;go_wp2
    go_roundg (Z l-(k+1))
    case measure=>have:=Aa A;omega
    case rel=>exact⟨k+1,by go_num,by omega,rfl,C,rfl⟩
  .have c:JR (x∉l):=by
    intro E;obtain⟨j,b,e⟩:=mw E;exact m j b (by omega) e
   go_wp2;go_ret;exact⟨-1,rfl,Hd ⟨rfl,c⟩,rfl⟩
theorem SN(c:Option Addr)(b:Nat)(l:QC Int)(x:Int)(f:Nat)(w:Hq)(d:Mi w f 21 1 (U c (Z l) b) (Z l) (l.flatMap AW))(k:Z l<=100000):
  Calls prog 175 #[U c (Z l) b,X M8 x] w λr i=>r=G3 (No (decide (x∈l)))/\i=w:=by
 have g:=Ab (eS c b l x f w d k);clear d;go_enter func175,ntmps175;go_wp2_with fail
 refine g.mono ?_;rintro _ m ⟨n,rfl,h,rfl⟩;have j:JR (decide (0<=n)=decide (x∈l)):=by
  show _=_;rcases h with⟨e,a⟩|⟨e,a⟩
  .rw[mY a,mY (by omega)]
  .rw[nP a,nP e]
 clear h g;go_wp2;go_ret;rw[<-Aa j];exact⟨rfl,rfl⟩
def SU(a:QC Int)(t:AY):QC Int:=if t.v≠0/\t.v∉a then a++[t.v] else a
def DW(ts:QC AY):QC Int:=ts.foldl SU []
def YU{a:QC AY}(b:k<Z a):DW (a.take (k+1))=SU (DW (a.take k)) a[k]:=by
 unfold DW;rw[lF b,mL];rfl
theorem OG(W:Option Addr)(cp:Nat)(a:QC AY)(BT:Nat)(w:Hq)(hr:Mi w BT 215 2 (U W (Z a) cp) (Z a) (a.flatMap Ar))(FT:Z a<=90000):
  Calls prog 138 #[U W (Z a) cp] w λr L=>∃AR AB,r=G3 (U AR (Z (DW a)) AB)/\Mi L w.heap.size 21 1 (U AR (Z (DW a)) AB) (Z (DW a)) ((DW a).flatMap AW)/\Ac [] w L:=by
 obtain⟨i0,FF,BS,B2,EK⟩:=mH Tryz.zN;have FC:=Ab hr;obtain⟨R,C⟩:=QP (DW a);rw[C];have HR:=Ab C;obtain⟨N,F⟩:=QP w.heap.size;rw[F];have HN:=Ab F;clear hr C F;go_enter func138,ntmps138;go_wp2_with fail
 go_loopg [3,8] (Z a) (λgk o i wr=>∃(k:Nat) (l:QC Int) (d:Option Addr) (c:Nat),o=U d (Z l) c/\i=X J k/\k<=Z a/\gk=Z a-k/\Z l<=k/\JR (DW (a.take k)=l)/\JR (Mi wr N 21 1 (U d (Z l) c) (Z l) (l.flatMap AW))/\JR (Ac [] w wr))
 case atStart=>exact⟨0,[],Y,0,rfl,rfl,by omega,rfl,by simp,rfl,mf _ _ _ _,SF _ _⟩
 case round=>
  obtain⟨k,l,d,c,rfl,rfl,hk,Q,FL,D,z,p⟩:=hrel;have x:=Ab Q;clear Q;by_cases I:k<Z a
  .obtain⟨g,FP,he,d0,P⟩:=Fx (Ad FC p) k I;simp only[lB]at he;obtain⟨rfl,_,rfl⟩:=he;obtain⟨T,y⟩:=QP (a[k]);have DY:JR (DW (a.take (k+1))=if T.v≠0/\T.v∉l then l++[T.v] else l):=by
    show _=_;rw[YU I,Aa D,y];rfl
   rw[y]at d0 P;clear y D;have n:=Ab (p.alloc (Dj #[X M8 T.v,O T.s] 215));have u:=Ab (Tc wr [X M8 T.v,O T.s] 215);have E:=lM z (Dj #[X M8 T.v,O T.s] 215);have m:=Ab E;have e:=Ab (SN d c l T.v N _ E (by omega));(have EX:N<=wr.heap.size:=by have:=p.size;have:=Aa HN;omega);clear E z p;by_cases b:T.v=0
   ·(have FA:(T.v !=0)=K:=by simp[b]);(have ES:(T.v==0)=Cm:=by simp[b]);(have j:JR (DW (a.take (k+1))=l):=by show _=_;rw[Aa DY,lO (λh=>h.1 b)]);clear DY b e;go_wp2
    go_roundg (Z a-(k+1))
    case measure=>have:=Aa x;omega
    case rel=>exact⟨k+1,l,d,c,rfl,by go_num,by omega,rfl,by omega,j,m,n⟩
   ·(have FA:(T.v !=0)=Cm:=by simp[b]);(have ES:(T.v==0)=K:=by simp[b]);by_cases f:T.v∈l
    ·(have j:JR (DW (a.take (k+1))=l):=by show _=_;rw[Aa DY,lO (λh=>h.2 f)]);rw[nP f]at e;clear DY b f;(go_wp2_with fail);refine e.mono ?_;rintro _ w3 ⟨rfl,rfl⟩;go_wp2
     go_roundg (Z a-(k+1))
     case measure=>have:=Aa x;omega
     case rel=>exact⟨k+1,l,d,c,rfl,by go_num,by omega,rfl,by omega,j,m,n⟩
    ·(have j:JR (DW (a.take (k+1))=l++[T.v]):=by show _=_;rw[Aa DY,lS ⟨b,f⟩]);rw[mY f]at e;clear DY b f;(go_wp2_with fail);refine e.mono ?_;rintro _ w3 ⟨rfl,rfl⟩;obtain⟨B,hB⟩:=QP wr.heap.size;rw[hB]at u EX⊢;have A:JR (AI (wr.alloc (Dj #[X M8 T.v,O T.s] 215)) B [X M8 T.v,O T.s] 215):=u;have CC:B<(wr.alloc (Dj #[X M8 T.v,O T.s] 215)).heap.size:=A.lt;clear e u hB d0 P;generalize wr.alloc (Dj #[X M8 T.v,O T.s] 215)=w4 at m n A CC⊢;have H:=A.cell 0;simp at H;have G:=Aa m;go_wp2_with (at_builtin;refine me _ rfl (.tmp 22) (.tmp 25) _ rfl N 21 i0 _ 1 4 underlying234 FF BS B2 EK rfl (by omega) (U d (Z l) c) (Z l) (l.flatMap AW) rfl (lM G _) ⟨w4.heap.size,0,Y⟩ 1 1 [X M8 T.v] rfl rfl (mg (mo w4 _)) (by simp[Value.oneCell']) (by omega) (by unfold maxLen;omega) (by omega) (by simp;omega) (w4.heap.size+1) (by simp) ?_;intro g1 M w9 AH S BA EY)
     have EM:JR (Mi w9 N 21 1 (U (V ⟨g1,0,Y⟩) (Z (l++[T.v])) M) (Z (l++[T.v])) ((l++[T.v]).flatMap AW)):=by
      rw[mm];simp only[lU,lQ,mn,mC,mc,mS,mz,AW];exact AH
     have B9:=Ab ((n.alloc (Dj #[X M8 T.v] 21)).grown S (λq hq=>Hf (by have:=(G.lt q hq).1;have:=Aa HN;omega)));clear AH S BA EY G m n H
     go_roundg (Z a-(k+1))
     case measure=>have:=Aa x;omega
     case rel=>exact⟨k+1,l++[T.v],V ⟨g1,0,Y⟩,M,by simp,by go_num,by omega,rfl,by simp;omega,j,EM,B9⟩
  .have HE:JR (l=R):=by
    have h:=Aa D;rw[lH (by omega),Aa HR]at h;exact h.symm
   go_wp2;go_ret;rw[<-Aa HE];exact⟨d,c,rfl,z,p⟩
structure Zq(rcs:QC A7)(hs:QC (Nat×GZ Af))(s:QC Af):Prop where
 nd:(hs.map λh=>h.2.head).Nodup
 mem:∀f,f∈s↔f∈hs.map λh=>h.2.head
 each:∀i (hi:i<Z hs),∃(hn:hs[i].1<Z rcs) (σ:UInt8->bC),Q6 rcs[hs[i].1] σ/\hs[i].2=C1 rcs[hs[i].1] σ/\(∀g∈hs[i].2.pos,g∈(hs.take i).map λh=>h.2.head)/\∀g∈hs[i].2.neg,g∉s
def Zq.start(a:QC A7):Zq a [] []:=⟨n6,λf=>by simp,λi b=>by simp at b⟩
def Zq.add{o:bC->Nat}(I:CX c o){s v:QC Af}{d:QC (Nat×GZ Af)}(h:Zq c d s)(Q:∀f∈s,o f.name<=n)(B:m<Z c)(P:o c[m].head.name=n){i:GZ Af}{σ:UInt8->bC}(t:i=C1 c[m] σ)(C:Q6 c[m] σ)(M:∀g∈i.pos,g∈s)(N:∀g∈i.neg,g∉s)(L:i.head∉s)(q:∀f,f∈v↔f∈s\/f=i.head):Zq c (d++[(m,i)]) v:=by
 have D:=I.fU;have S:o i.head.name=n:=by rw[t];exact P
 refine⟨?_,λf=>?_,λk F=>?_⟩
 .rw[mx];refine oV.2 ⟨h.nd,by simp,λa A b x e=>?_⟩;simp only[l9,nE,lG]at x;rw[e,x]at A;exact L ((h.mem _).2 A)
 .rw[q f,h.mem f,mx,lV];simp
 .by_cases p:k<Z d
  .have u:(d++[(m,i)])[k]=d[k]:=mT p;obtain⟨y,τ,w,z,G,H⟩:=h.each k p;rw[mN (by omega)];simp only[u];refine⟨y,τ,w,z,G,λg l j=>?_⟩;rcases(q g).1 j with j|j
   .exact H g l j
   .have r:=D.neg d[k].2 ⟨c[d[k].1],lE y,τ,w,z⟩ g l;have R:=Q d[k].2.head ((h.mem _).2 (lP.2 ⟨d[k],lE p,rfl⟩));rw[j]at r;omega
  ·(have E:k=Z d:=by simp at F;omega);subst E;(have u:(d++[(m,i)])[Z d]=(m,i):=by simp);rw[List.take_left];simp only[u];refine⟨B,σ,C,t,λg l=>(h.mem g).1 (M g l),λg l j=>?_⟩;rcases(q g).1 j with j|j
   .exact N g l j
   .have r:=D.neg i ⟨c[m],lE B,σ,C,t⟩ g l;rw[j]at r;omega
def OY:∀(l s:QC Af),D1 s->(∀f∈s,AJ f)->(∀f∈l,AJ f)->D1 (l.foldl Bb s)/\(∀f∈l.foldl Bb s,AJ f)/\∀f,f∈l.foldl Bb s↔f∈s\/f∈l
 |[],s,h1,h2,_=>⟨h1,h2,λf=>by simp⟩
 |x::l,s,h1,h2,h3=>by
  obtain⟨e,b,h⟩:=C5 (h3 x (by simp)) h1 h2;obtain⟨a,c,g⟩:=OY l (Bb s x) e b (λf d=>h3 f (by simp[d]));refine⟨a,c,λf=>?_⟩;rw[mr,g f,h f,lI,or_assoc]
def Zq.batch{o:bC->Nat}(A:CX c o){s:QC Af}{B:QC (Nat×GZ Af)}(h:Zq c B s)(I:D1 s)(H:∀f∈s,AJ f)(M:∀f∈s,o f.name<=n)(D:m<Z c)(C:o c[m].head.name=n){l:QC Af}(L:l.Nodup)(u:∀f∈l,f∉s/\AJ f)
  {a:QC (GZ Af)} (t:a.map GZ.head=l) (z:∀i∈a,∃σ,(∀x∈Am c[m],Ce (Bk σ) (DZ σ) s x=Cm)/\i=C1 c[m] σ):∀j,Zq c (B++(a.take j).map (Prod.mk m)) ((l.take j).foldl Bb s):=by
 have w:∀f∈l,o f.name=n:=by
  intro f b;rw[<-t]at b;obtain⟨i,k,rfl⟩:=lP.1 b;obtain⟨σ,_,rfl⟩:=z i k;exact C
 have Q:Z a=Z l:=by rw[<-t,lR]
 intro j
 induction j with
 |zero=>simpa using h
 |succ j ih=>
  by_cases e:j<Z l
  ·(have r:j<Z a:=by omega);have d:=OY (l.take j) s I H (λf b=>(u f (nk b)).2);have y:l[j]=a[j].head:=by
    have:=congrArg (λl=>l[j]?) t;simp only[m6,lN r,lN e,nF,lL]at this;exact this.symm
   obtain⟨σ,F,k⟩:=z a[j] (lE r);obtain⟨v,E⟩:=(Gm c[m] σ s).1 F;rw[<-k]at v;rw[lF r,mx,<-mO,lF e,mL];simp only[l9,nE,mr,List.foldl_nil];refine ih.add A (n:=n) (λf b=>?_) D C k E (λg p=>(d.2.2 g).2 (Hd (v.1 g p))) (λg p q=>?_) (λq=>?_) (λf=>?_)
   .rcases(d.2.2 f).1 b with h|h
    .exact M f h
    .exact Nat.le_of_eq (w f (nk h))
   .rcases(d.2.2 g).1 q with h|h
    .exact v.2 g p h
    .have R:=A.fU.neg a[j] ⟨c[m],lE D,σ,E,k⟩ g p;have N:=w g (nk h);(have P:o a[j].head.name=n:=by rw[<-y];exact w _ (lE e));omega
   .rw[<-y]at q;rcases(d.2.2 _).1 q with h|h
    .exact(u _ (lE e)).1 h
    ·(have G:(l.take j++l[j]::l.drop (j+1)).Nodup:=by rw[<-lY e,mU];exact L);exact(oV.1 G).2.2 _ h _ (mV ..) rfl
   .rw[(C5 (u _ (lE e)).2 d.1 d.2.1).2.2 f,y]
  .rw[lH (by omega),lH (by omega)];rw[lH (by omega),lH (by omega)]at ih;exact ih
theorem Tryz.zc:(Tryz.prog.info? 5).map (λi=>(i.zero,i.size,i.bytes))=V (V (X .u8 0),1,1):=by kernel_rfl
abbrev DY:=Nat×GZ Af
def GX(a:QC DY×QC Af)(h:DY):QC DY×QC Af:=if CW a.2 h.2.head=Cm then(a.1++[h],h.2.pos.foldl Bb a.2)else a
def J7:QC DY->QC Af->QC DY
 |[],_=>[]
 |h::R,N=>if CW N h.2.head=Cm then J7 R (h.2.pos.foldl Bb N)++[h] else J7 R N
def QU:∀(R:QC DY) (A:QC DY) (N:QC Af),(R.foldl GX (A,N)).1=A++(J7 R N).reverse
 |[],A,N=>by simp[J7]
 |h::R,A,N=>by
  rw[mr];by_cases a:CW N h.2.head=Cm
  ·(have b:GX (A,N) h=(A++[h],h.2.pos.foldl Bb N):=by unfold GX;rw[lS a]);rw[b,QU R,J7,lS a,List.reverse_append];simp
  ·(have b:GX (A,N) h=(A,N):=by unfold GX;rw[lO a]);rw[b,QU R,J7,lO a]
def Ys:QC DY->Prop
 |[]=>True
 |h::R=>(∀g∈h.2.pos,g∈R.map λh=>h.2.head)/\Ys R
def Vm:∀(R:QC DY) (N:QC Af),Ys R->D1 N->(∀f∈N,AJ f)->(∀h∈R,∀g∈h.2.pos,AJ g)->
  (J7 R N).Sublist R.reverse/\(∀h∈R,h.2.head∈N->h∈J7 R N)/\∀A h B,J7 R N=A++h::B->∀g∈h.2.pos,g∈A.map λh=>h.2.head
 |[],N,_,_,_,_=>⟨by simp[J7],λh r=>by simp at r,λA h B e=>by simp[J7]at e⟩
 |h::R,N,hl,hr,hc,hp=>by
  by_cases n:CW N h.2.head=Cm
  ·(have e:J7 (h::R) N=J7 R (h.2.pos.foldl Bb N)++[h]:=by rw[J7,lS n]);have i:=OY h.2.pos N hr hc (λg d=>hp h (by simp) g d);obtain⟨m,k,o⟩:=Vm R _ hl.2 i.1 i.2.1 (λx a=>hp x (by simp[a]));rw[e];refine⟨?_,?_,?_⟩
   .rw[List.reverse_cons];exact m.append (List.Sublist.refl _)
   .intro x a l;rcases lI.1 a with rfl|a
    .simp
    .exact lV.2 (Hd (k x a ((i.2.2 _).2 (Hd l))))
   .intro A x B q g d;rcases List.append_eq_append_iff.1 q with⟨C,j,b⟩|⟨C,j,b⟩
    ·
     cases C with
     |nil=>
      simp at b;obtain⟨rfl,rfl⟩:=b;rw[j,mz];obtain⟨y,p,rfl⟩:=lP.1 (hl.1 g d);exact lP.2 ⟨y,k y p ((i.2.2 _).2 (Hf d)),rfl⟩
     |cons c C=>simp at b
    ·
     cases C with
     |nil=>
      simp at b;obtain⟨rfl,rfl⟩:=b;rw[mz]at j;obtain⟨y,p,rfl⟩:=lP.1 (hl.1 g d);exact lP.2 ⟨y,by rw[<-j];exact k y p ((i.2.2 _).2 (Hf d)),rfl⟩
     |cons c C=>
      simp only[ny,nC]at b;obtain⟨rfl,_⟩:=b;exact o A x C j g d
  ·(have e:J7 (h::R) N=J7 R N:=by rw[J7,lO n]);obtain⟨m,k,o⟩:=Vm R N hl.2 hr hc (λx a=>hp x (by simp[a]));rw[e];refine⟨?_,?_,o⟩
   .rw[List.reverse_cons];exact m.trans (List.sublist_append_left _ _)
   .intro x a l;rcases lI.1 a with rfl|a
    .exact absurd ((B3 _ _).2 l) n
    .exact k x a l
def S7:∀(R:QC DY) (f:Af),f∈R.map (λh=>h.2.head)->∃c h,J7 R [f]=c++[h]/\h.2.head=f
 |[],f,h=>by simp at h
 |h::R,f,a=>by
  by_cases b:CW [f] h.2.head=Cm
  .refine⟨_,h,by rw[J7,lS b],?_⟩;have:=(B3 _ _).1 b;simpa using this
  .rw[J7,lO b];refine S7 R f ?_;rw[l9,lI]at a;rcases a with rfl|a
   .exact absurd ((B3 _ _).2 (by simp)) b
   .exact a
def TJ:∀(R:QC DY) (f:Af),f∉R.map (λh=>h.2.head)->J7 R [f]=[]
 |[],f,h=>rfl
 |h::R,f,hm=>by
  rw[l9,lI,not_or]at hm;rw[J7,lO ?_]
  .exact TJ R f hm.2
  .intro a;have:=(B3 _ _).1 a;simp at this;exact hm.1 this.symm
def eY:∀(a:QC DY),(∀i (d:i<Z a),∀g∈a[i].2.pos,g∈(a.take i).map λh=>h.2.head)->Ys a.reverse:=by
 intro a;have b:∀n,n<=Z a->(∀i (d:i<Z a),∀g∈a[i].2.pos,g∈(a.take i).map λh=>h.2.head)->Ys (a.take n).reverse:=by
  intro n
  induction n with
  |zero=>intro _ _;rw[oT];trivial
  |succ n ih=>
   intro e h;rw[lF (by omega),List.reverse_append];refine⟨λg c=>?_,ih (by omega) h⟩;show g∈List.map (λh=>h.2.head) (List.take n a).reverse;rw[List.map_reverse,List.mem_reverse];exact h n (by omega) g c
 intro h;have:=b (Z a) (lX _) h
 rwa [nM]at this
structure jb(rcs:QC A7)(s:QC Af)(l:QC DY):Prop where
 nd:(l.map λh=>h.2.head).Nodup
 each:∀A h B,l=A++h::B->∃(hn:h.1<Z rcs) (σ:UInt8->bC),Q6 rcs[h.1] σ/\h.2=C1 rcs[h.1] σ/\(∀g∈h.2.pos,g∈A.map λh=>h.2.head)/\∀g∈h.2.neg,g∉s
 fw:∀h∈l,h.2.head∈s
def I4(hs:QC DY)(f:Af):QC DY:=J7 hs.reverse [f]
def Zq.proof{a:QC DY}{s:QC Af}(h:Zq c a s)(D:∀f∈s,AJ f){f:Af}(r:AJ f):jb c s (I4 a f)/\(f∈s->∃t x,I4 a f=t++[x]/\x.2.head=f)/\(f∉s->I4 a f=[]):=by
 have o:∀x∈a,∀g∈x.2.pos,g∈s:=by
  intro x d g b;obtain⟨i,j,rfl⟩:=mw d;obtain⟨_,_,_,_,k,_⟩:=h.each i j;obtain⟨y,v,e⟩:=lP.1 (k g b);exact(h.mem g).2 (lP.2 ⟨y,nk v,e⟩)
 have u:Ys a.reverse:=eY a (λi j g b=>by obtain⟨_,_,_,_,k,_⟩:=h.each i j;exact k g b);obtain⟨l,_,w⟩:=Vm a.reverse [f] u (List.pairwise_singleton _ _) (λg b=>by simp at b;rw[b];exact r) (λx d g b=>D g (o x (List.mem_reverse.1 d) g b));rw[List.reverse_reverse]at l;refine⟨⟨?_,λA x B e=>?_,λx d=>?_⟩,λm=>?_,λm=>?_⟩
 .exact h.nd.sublist (l.map _)
 .have d:x∈a:=l.subset (by unfold I4 at e;rw[e];simp);obtain⟨i,j,rfl⟩:=mw d;obtain⟨p,σ,n,z,k,q⟩:=h.each i j;exact⟨p,σ,n,z,w A _ B e,q⟩
 .exact(h.mem _).2 (lP.2 ⟨x,l.subset d,rfl⟩)
 .refine S7 _ _ ?_;rw[List.map_reverse,List.mem_reverse];exact(h.mem f).1 m
 .refine TJ _ _ ?_;rw[List.map_reverse,List.mem_reverse];exact λC=>m ((h.mem f).2 C)
