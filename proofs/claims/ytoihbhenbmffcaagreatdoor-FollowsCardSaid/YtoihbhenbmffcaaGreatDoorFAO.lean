import Derived.Laws.Cover1
import Derived.Test.YtoihbhenbmffcaaGreatDoorFAM
set_option linter.all false
set_option maxHeartbeats 0
open List renaming length->Z,toArray->ml
open Option renaming none->Y,some->V
open Go.Value renaming slice->U,int->X,string->O,pointer->m2,agg->pC,bool->pE
open Bool renaming false->K,true->jj
open Go.IntKind renaming i64->J,i32->pD
open Go.Obj renaming cells->j3
open Go.Ending renaming returned->oa
open Or renaming inl->oi,inr->oj
open Go renaming World->py
open Go.RowKit renaming Hid->p7
open Go.World renaming cell?->p8,ownsRow->p9
open ByteArray renaming empty->pF
open Go.Op renaming bytesLess->pK
namespace Go.Proofs.YtoihbhenbmffcaaGreatDoor
open Go.RowKit Go.Proofs.Tryz
variable{k n b m:Nat}{w u:py}{z:Value}{e:pM zA}{c:pM A4}{s t:zA}{g:UInt8}{f:pM Af}
def DU(a b:zA):Int:=if pK a.toList b.toList then -1 else if pK b.toList a.toList then 1 else 0
theorem Xa(a:zA)(w:py):Calls prog 186 #[O a] w λe b=>e=oa (pE K)/\b=w:=by
 have h:(a.toList==a.toList)=jj:=by simp
 have c:(a.toList !=a.toList)=K:=by simp[bne]
 go_enter func186,ntmps186;go_wp2;all_goals go_ret
 all_goals first|exact⟨rfl,rfl⟩|exact⟨by simp,rfl⟩
theorem WM(a:zA)(w:py):Calls prog 215 #[O a] w λe b=>e=oa (pE K)/\b=w:=by
 have h:(a.toList==a.toList)=jj:=by simp
 have c:(a.toList !=a.toList)=K:=by simp[bne]
 go_enter func215,ntmps215;go_wp2;all_goals go_ret
 all_goals first|exact⟨rfl,rfl⟩|exact⟨by simp,rfl⟩
theorem eW(a b:zA)(w:py):Calls prog 150 #[O a,O b] w λe i=>e=oa (X J (DU a b))/\i=w:=by
 have h:=Ab (Xa a w);have g:=Ab (Xa b w);have f:p7 (DU a b=if pK a.toList b.toList then -1 else if pK b.toList a.toList then 1 else 0):=rfl;generalize DU a b=C at f⊢;go_enter func150,ntmps150;go_wp2_with fail
 refine h.mono ?_;rintro e k ⟨rfl,rfl⟩;go_wp2_with fail
 refine g.mono ?_;rintro e j ⟨rfl,rfl⟩;clear h g;cases h1:pK a.toList b.toList with
 |true=>
  have d:p7 (C= -1):=by show _=_;rw[Aa f,h1];rfl
  go_wp2;go_ret;rw[Aa d];exact⟨rfl,rfl⟩
 |false=>
  cases h2:(a.toList==b.toList)with
  |false=>
   have c:pK b.toList a.toList=jj:=St _ _ h1 h2;(have d:p7 (C=1):=by show _=_;rw[Aa f,h1,c];rfl);clear c;go_wp2;go_ret;rw[Aa d];exact⟨rfl,rfl⟩
  |true=>
   have c:pK b.toList a.toList=K:=by rw[show a.toList=b.toList from by simpa using h2];exact PU _
   (have d:p7 (C=0):=by show _=_;rw[Aa f,h1,c];rfl);clear c;go_wp2;go_ret;rw[Aa d];exact⟨rfl,rfl⟩
theorem eI(a b:zA)(w:py):Calls prog 187 #[O a,O b] w λe i=>e=oa (X J (DU a b))/\i=w:=by
 have h:=Ab (WM a w);have g:=Ab (WM b w);have f:p7 (DU a b=if pK a.toList b.toList then -1 else if pK b.toList a.toList then 1 else 0):=rfl;generalize DU a b=C at f⊢;go_enter func187,ntmps187;go_wp2_with fail
 refine h.mono ?_;rintro e k ⟨rfl,rfl⟩;go_wp2_with fail
 refine g.mono ?_;rintro e j ⟨rfl,rfl⟩;clear h g;cases h1:pK a.toList b.toList with
 |true=>
  have d:p7 (C= -1):=by show _=_;rw[Aa f,h1];rfl
  go_wp2;go_ret;rw[Aa d];exact⟨rfl,rfl⟩
 |false=>
  cases h2:(a.toList==b.toList)with
  |false=>
   have c:pK b.toList a.toList=jj:=St _ _ h1 h2;(have d:p7 (C=1):=by show _=_;rw[Aa f,h1,c];rfl);clear c;go_wp2;go_ret;rw[Aa d];exact⟨rfl,rfl⟩
  |true=>
   have c:pK b.toList a.toList=K:=by rw[show a.toList=b.toList from by simpa using h2];exact PU _
   (have d:p7 (C=0):=by show _=_;rw[Aa f,h1,c];rfl);clear c;go_wp2;go_ret;rw[Aa d];exact⟨rfl,rfl⟩
def EP:pM zA->pM zA->Int
 |[],[]=>0
 |[],_::_=> -1
 |_::_,[]=>1
 |x::l,y::m=>if DU x y=0 then EP l m else DU x y
def aK{l m:pM zA}(a:k<Z l)(b:k<Z m):EP (l.drop k) (m.drop k)=if DU l[k] m[k]=0 then EP (l.drop (k+1)) (m.drop (k+1))else DU l[k] m[k]:=by
 rw[lD a,lD b,EP]
def MT(h:p9 w n 170 1 z (Z e) (e.flatMap Ah))(k:Nat)(d:k<Z e):∃g a,z=U (V ⟨g,0,Y⟩) (Z e) a/\p8 w ⟨g,k,Y⟩=V (O e[k]):=by
 obtain⟨g,a,f,_,i⟩:=AC h (λc _=>rfl) k d;have b:=i k d 0 (by omega);simp[Ah]at b;exact⟨g,a,f,b⟩
set_option maxRecDepth 100000
theorem UJ(x:Option Addr)(p:Nat)(l:pM zA)(n:Option Addr)(s:Nat)(m:pM zA)(w:py)(q:p9 w 0 170 1 (U x (Z l) p) (Z l) (l.flatMap Ah))(j:p9 w 0 170 1 (U n (Z m) s) (Z m) (m.flatMap Ah))(W:Z l<=1000000)(hm:Z m<=1000000):
  Calls prog 151 #[U x (Z l) p,U n (Z m) s] w λe A=>e=oa (X J (EP l m))/\A=w:=by
 have F:=Ab q;have E:=Ab j;obtain⟨R,g⟩:=pN (EP l m);rw[g];have t:p7 (EP (l.drop 0) (m.drop 0)=R):=g;clear q j g;go_enter func151,ntmps151;go_wp2
 go_loopg [11] (Z l) (λgk i wr=>∃(k:Nat),i=X J k/\k<=Z l/\k<=Z m/\gk=Z l-k/\p7 (EP (l.drop k) (m.drop k)=R)/\w=wr)
 case atStart=>exact⟨0,rfl,by omega,by omega,rfl,t,rfl⟩
 case round=>
  clear t;obtain⟨k,rfl,M,I,r,b,rfl⟩:=hrel;have D:=Ab r;clear r;by_cases d:k<Z l
  .obtain⟨T,Q,v,P⟩:=MT F k d;simp only[kS]at v;obtain⟨rfl,_,rfl⟩:=v;by_cases f:k<Z m
   .obtain⟨N,S,u,H⟩:=MT E k f;simp only[kS]at u;obtain⟨rfl,_,rfl⟩:=u;(have y:¬(Z m:Int)<=(k:Int):=by omega);have o:=Ab (eI l[k] m[k] w);have Dk:=Ab (aK d f);generalize DU l[k] m[k]=C at o Dk;(go_wp2_with fail);refine o.mono ?_;rintro e L ⟨rfl,B⟩;subst B;by_cases c:C=0
    ·(have z:(C !=0)=K:=by simp[c]);have a:p7 (EP (l.drop (k+1)) (m.drop (k+1))=R):=by
      have h:=Aa b;rw[Aa Dk,ln c]at h;exact h
     clear b Dk;go_wp2
     go_roundg (Z l-(k+1))
     case measure=>have:=Aa D;omega
     case rel=>exact⟨k+1,by go_num,by omega,by omega,rfl,a,rfl⟩
    ·(have z:(C !=0)=jj:=by simp[c]);have a:p7 (C=R):=by
      have h:=Aa b;rw[Aa Dk,li c]at h;exact h
     clear b Dk;go_wp2;go_ret;rw[<-Aa a];exact⟨rfl,rfl⟩
   ·(have y:(Z m:Int)<=(k:Int):=by omega);have a:p7 (R=1):=by
     have h:=Aa b;rw[lD d,lS (show Z m<=k by omega),EP]at h;exact h.symm
    go_wp2;go_ret;rw[Aa a];exact⟨rfl,rfl⟩
  .by_cases f:Z l<Z m
   ·(have G:(Z l:Int)<(Z m:Int):=by omega);have a:p7 (R= -1):=by
     have h:=Aa b;rw[lS (show Z l<=k by omega),lD (show k<Z m by omega),EP]at h;exact h.symm
    go_wp2;go_ret;rw[Aa a];exact⟨rfl,rfl⟩
   ·(have G:¬(Z l:Int)<(Z m:Int):=by omega);have a:p7 (R=0):=by
     have h:=Aa b;rw[lS (show Z l<=k by omega),lS (show Z m<=k by omega),EP]at h;exact h.symm
    go_wp2;go_ret;rw[Aa a];exact⟨rfl,rfl⟩
structure C4 where
 name:zA
 zC:pM zA
structure Fa where
 f:C4
 tv:Value
def A6(p:Fa):pM Value:=[O p.f.name,p.tv]
def Ea(w:py)(p:Fa):Prop:=p9 w 0 170 1 p.tv (Z p.f.zC) (p.f.zC.flatMap Ah)
def Ea.kept{w w':py}{p:Fa}(h:Ea w p)(k:Ac [] w w'):Ea w' p:=Ad h k
def CP(a b:C4):Int:=if DU a.name b.name=0 then EP a.zC b.zC else DU a.name b.name
theorem UI(a b:Fa)(w:py)(k:Ea w a)(j:Ea w b)(u:Z a.f.zC<=1000000)(x:Z b.f.zC<=1000000):
  Calls prog 104 #[pC (ml (A6 a)),pC (ml (A6 b))] w λe z=>e=oa (X J (CP a.f b.f))/\Ac [] w z:=by
 obtain⟨⟨d,i⟩,F⟩:=a;obtain⟨⟨c,h⟩,H⟩:=b;unfold Ea at k j;simp only at k j u x;obtain⟨r,q,rfl⟩:=Ak k;obtain⟨p,s,rfl⟩:=Ak j;have g:p7 (CP ⟨d,i⟩ ⟨c,h⟩=if DU d c=0 then EP i h else DU d c):=rfl;simp only[A6];generalize CP ⟨d,i⟩ ⟨c,h⟩=R at g⊢;have m:=((pO [] w).alloc (j3 [O d,U r (Z i) q].toArray 104)).alloc (j3 [O c,U p (Z h) s].toArray 104);have n:=Ab (eW d c ((w.alloc (j3 [O d,U r (Z i) q].toArray 104)).alloc (j3 [O c,U p (Z h) s].toArray 104)));have o:=Ab (UJ r q i p s h _ (Ad k m) (Ad j m) u x);have v:=Ab m;clear m k j;generalize DU d c=C at n g;generalize EP i h=D at o g;go_enter func104,ntmps104;go_wp2_with fail
 refine n.mono ?_;rintro e G ⟨rfl,B⟩;subst B;by_cases l:C=0
 .have y:(C !=0)=K:=by simp[l]
  have t:p7 (R=D):=by show _=_;rw[Aa g,ln l]
  clear g n;go_wp2_with fail
  refine o.mono ?_;rintro e E ⟨rfl,A⟩;subst A;clear o;go_wp2;go_ret;rw[Aa t];exact⟨rfl,v⟩
 .have y:(C !=0)=jj:=by simp[l]
  have t:p7 (R=C):=by show _=_;rw[Aa g,li l]
  clear g n o;go_wp2;go_ret;rw[Aa t];exact⟨rfl,v⟩
structure Jm(w:py)(sv:Value)(fs:pM Fa):Prop where
 row:p9 w 0 104 2 sv (Z fs) (fs.flatMap A6)
 each:∀p∈fs,Ea w p/\Z p.f.zC<=1000
def Jm.kept{w w':py}{c:Value}{b:pM Fa}(h:Jm w c b)(k:Ac [] w w'):Jm w' c b:=⟨Ad h.row k,λp a=>⟨(h.each p a).1.kept k,(h.each p a).2⟩⟩
def Jt{b:pM Fa}(h:Jm w z b)(k:Nat)(d:k<Z b):
  ∃g m n a i f,z=U (V ⟨g,0,Y⟩) (Z b) m/\b[k]=⟨⟨n,a⟩,U i (Z a) f⟩/\p8 w ⟨g,k*2,Y⟩=V (O n)/\p8 w ⟨g,k*2+1,Y⟩=V (U i (Z a) f):=by
 obtain⟨g,m,s,_,r⟩:=AC h.row (λc _=>rfl) k d;have j:=r k d 0 (by omega);have l:=r k d 1 (by omega);obtain⟨⟨⟨n,a⟩,t⟩,o⟩:∃p,b[k]=p:=⟨_,rfl⟩;have q:=(h.each _ (kV d)).1;rw[o]at j l q;obtain⟨i,f,e⟩:=Ak q;simp only at e;subst e;simp[A6]at j l;exact⟨g,m,n,a,i,f,s,o,j,l⟩
structure Gs(fs:pM Fa)(x:C4)(p:Nat):Prop where
 le:p<=Z fs
 below:∀i (h:i<Z fs),i<p->CP fs[i].f x<0
 zh:∀i (h:i<Z fs),p<=i->¬CP fs[i].f x<0
def ER(fs:pM Fa)(x:C4)(p:Nat):Bool:=if h:p<Z fs then CP fs[p].f x==0 else K
theorem La(EM:Option Addr)(CL:Nat)(c:pM Fa)(x:Fa)(w:py)(h:Jm w (U EM (Z c) CL) c)(W:Ea w x)(FL:Z x.f.zC<=1000)(HJ:Z c<=1000000)(DT:∀i j (l:i<Z c) (hj:j<Z c),i<=j->CP c[j].f x.f<0->CP c[i].f x.f<0):
  Calls prog 103 #[U EM (Z c) CL,pC (ml (A6 x)),.func (.func 104) #[] #[]] w λe t=>∃p:Nat,e=oa (.tuple #[X J p,pE (ER c x.f p)])/\Gs c x.f p/\Ac [] w t:=by
 have I:p7 (∀(p:Fa) wr,p∈c->Ac [] w wr->Calls prog 104 #[pC (ml (A6 p)),pC (ml (A6 x))] wr λe t=>e=oa (X J (CP p.f x.f))/\Ac [] wr t):=λp wr hp hk=>UI p x wr ((h.each p hp).1.kept hk) (W.kept hk) (by have:=(h.each p hp).2;omega) (by omega)
 have HS:=Ab h;have H:=Ab DT;obtain⟨⟨u,v⟩,xv⟩:=x;obtain⟨A,B,CC⟩:=Ak W;simp only at CC;subst CC;simp only[A6]at I⊢;simp only at H;have s:=Ab (pP w [O u,U A (Z v) B] 104);have q:=Ab ((pO [] w).alloc (j3 [O u,U A (Z v) B].toArray 104));obtain⟨m,hX⟩:∃m:C4,m=⟨u,v⟩:=⟨_,rfl⟩;rw[<-hX]at H I⊢;clear h W FL DT hX;go_enter func103,ntmps103;go_wp2;change Code.wp _ _ _ _ (w.alloc (j3 [O u,U A (Z v) B].toArray 104));generalize w.alloc (j3 [O u,U A (Z v) B].toArray 104)=w1 at s q⊢;generalize w.heap.size=N at s⊢
 go_loopg [9,10] (Z c) (λgk a b wr=>∃(d l:Nat),a=X J d/\b=X J l/\d<=l/\l<=Z c/\gk=l-d/\p7 (∀i (h:i<Z c),i<d->CP c[i].f m<0)/\p7 (∀i (h:i<Z c),l<=i->¬CP c[i].f m<0)/\p7 (Ac [] w wr)/\p7 (AF wr N [O u,U A (Z v) B] 104))
 case atStart=>exact⟨0,Z c,rfl,rfl,by omega,by omega,rfl,λi h h0=>by omega,λi h h0=>by omega,q,s⟩
 case round=>
  clear s q;obtain⟨d,l,rfl,rfl,H3,A1,EK,B2,BA,q,s⟩:=hrel;have HG:=Ab EK;clear EK;have c0:=s.cell 0;have c1:=s.cell 1;simp at c0 c1;by_cases HR:d<l
  .obtain⟨k,HO⟩:=pN ((d+l)/2);(have H1:d<=k:=by omega);(have HV:k<l:=by omega);(have R:k<Z c:=by omega);(have H4:((d:Int)+(l:Int))>>>(1:Nat)=(k:Int):=by rw[Int.shiftRight_eq_div_pow];omega);(have H0:((d:Int)+(l:Int))/2=(k:Int):=by omega);obtain⟨g,HF,n,L,ad,cp,E,y,d0,d1⟩:=Jt (HS.kept q) k R;simp only[kS]at E;obtain⟨rfl,_,rfl⟩:=E;have o:=Ab (I c[k] wr.drew (kV R) q.drew);(have Q:p7 (CP c[k].f m<0->∀i (h:i<Z c),i<k+1->CP c[i].f m<0):=λhc i h E0=>H i k h R (by omega) hc);(have S:p7 (¬CP c[k].f m<0->∀i (h:i<Z c),k<=i->¬CP c[i].f m<0):=λhc i h E0 hh=>hc (H k i R h (by omega) hh));rw[y]at o;simp only at o;obtain⟨C,F⟩:=pN (CP c[k].f m);rw[F]at Q S;rw[y]at F;simp only at F;rw[F]at o;clear y F;by_cases BS:C<0
   .have HT:=Ab (Q BS);clear Q S;go_wp2_with fail
    go_region_law (go_simp;go_at_call 104;refine o.mono ?_;rintro e M ⟨rfl,r⟩;have z:=Ab (q.drew.trans r);have AB:=Ab (s.drew.kept r);clear r)
    all_goals
     clear o;go_wp2
     go_roundg (l-(k+1))
     case measure=>have:=Aa HG;omega
     case rel=>exact⟨k+1,l,by go_num,rfl,by omega,A1,rfl,HT,BA,z,AB⟩
   .have HT:=Ab (S BS);clear Q S;go_wp2_with fail
    go_region_law (go_simp;go_at_call 104;refine o.mono ?_;rintro e M ⟨rfl,r⟩;have z:=Ab (q.drew.trans r);have AB:=Ab (s.drew.kept r);clear r)
    all_goals
     clear o;go_wp2
     go_roundg (k-d)
     case measure=>have:=Aa HG;omega
     case rel=>exact⟨d,k,rfl,rfl,by omega,by omega,rfl,B2,HT,z,AB⟩
  ·(have Go:d=l:=by omega);subst Go;have EY:p7 (Gs c m d):=⟨A1,B2,BA⟩;by_cases G:d<Z c
   ·(have FC:(d:Int)<(Z c:Int):=by omega);obtain⟨g,HF,n,L,ad,cp,E,y,d0,d1⟩:=Jt (HS.kept q) d G;simp only[kS]at E;obtain⟨rfl,_,rfl⟩:=E;have o:=Ab (I c[d] wr.drew (kV G) q.drew);(have D:p7 (ER c m d=(CP c[d].f m==0)):=by show _=_;unfold ER;rw[dif_pos G]);rw[y]at o D;simp only at o D;generalize CP ⟨n,L⟩ m=C at o D;have ES:p7 (∀P:py,Ac [] w P->p8 P ⟨g,d*2,Y⟩=V (O n)/\p8 P ⟨g,d*2+1,Y⟩=V (U ad (Z L) cp)):=by
     intro P HH;obtain⟨g',HU,n',HW,H2,HZ,Bx,FO,f0,f1⟩:=Jt (HS.kept HH) d G;have e2:=FO.symm.trans y;simp only[kS,ld,lW,Fa.mk.injEq,C4.mk.injEq]at Bx e2;obtain⟨⟨rfl,_,_⟩,_,_⟩:=Bx;obtain⟨⟨rfl,rfl⟩,rfl,_,rfl⟩:=e2;exact⟨f0,f1⟩
    clear y;go_wp2_with fail
    go_region_held3 (λt=>p8 t ⟨g,d*2,Y⟩=V (O n)/\p8 t ⟨g,d*2+1,Y⟩=V (U ad (Z L) cp)/\p8 t ⟨N,0,Y⟩=V (O u)/\p8 t ⟨N,1,Y⟩=V (U A (Z v) B)) (go_keep) ((go_at_call 104;refine o.mono ?_;rintro e M ⟨rfl,r⟩;have z:=Ab (q.drew.trans r);have T:=s.drew.kept r;have x0:=T.cell 0;have x1:=T.cell 1;have x2:=(ES M z).1;have x3:=(ES M z).2;simp at x0 x1;clear r T))
    rename_i HA;clear HA o;go_wp2;go_ret2;refine⟨d,?_,EY,z⟩;rw[Aa D];rfl
   ·(have FC:¬(d:Int)<(Z c:Int):=by omega);(have D:p7 (ER c m d=K):=by show _=_;unfold ER;rw[dif_neg G]);(have FA:p7 (∀n,Ac [] w (wr.drewN n)):=λn=>q.drewN n);go_wp2_with fail
    go_quiet (fail)
    go_wp2;go_ret2;rw[<-Aa D];exact⟨d,rfl,EY,FA _⟩
def Ac.cellAt(k:Ac [] w u)(h:p8 w ⟨b,n,Y⟩=V z):p8 u ⟨b,n,Y⟩=V z:=by
 have a:b<w.heap.size:=by
  cases hq:w.heap[b]? with
  |none=>simp[World.cell?,hq]at h
  |some x=>exact(mc.1 hq).1
 have e:=k.block b a (by simp);simp only[World.cell?,e]at h⊢;exact h
def Oy(h:p8 w ⟨b,n,Y⟩=V z):b<w.heap.size:=by
 cases hq:w.heap[b]? with
 |none=>simp[World.cell?,hq]at h
 |some x=>exact(mc.1 hq).1
theorem OQ(C v:Nat)(l:Option Addr)(m:Nat)(a:pM Fa)(x:Fa)(w:py)(t:p8 w ⟨C,v,Y⟩=V (U l (Z a) m))(h:Jm w (U l (Z a) m) a)(s:Ea w x)(u:Z x.f.zC<=1000)(G:Z a<=1000000)(D:∀i j (Q:i<Z a) (R:j<Z a),i<=j->CP a[j].f x.f<0->CP a[i].f x.f<0):
  Calls prog 60 #[m2 (V ⟨C,v,Y⟩),pC (ml (A6 x))] w λe o=>∃p:Nat,e=oa (pE (ER a x.f p))/\Gs a x.f p/\Ac [] w o:=by
 have P:=Oy t;have g:p7 (∀wr,Ac [] w wr->Calls prog 103 #[U l (Z a) m,pC (ml (A6 x)),.func (.func 104) #[] #[]] wr λe o=>∃p:Nat,e=oa (.tuple #[.int J p,pE (ER a x.f p)])/\Gs a x.f p/\Ac [] wr o):=λwr y=>La l m a x wr (h.kept y) (s.kept y) u G D
 obtain⟨⟨b,c⟩,M⟩:=x;obtain⟨n,k,B⟩:=Ak s;simp only at B;subst B;simp only[A6]at g⊢;generalize(⟨b,c⟩:C4)=X at g⊢;have q:=(pO [] w).alloc (j3 [O b,U n (Z c) k].toArray 104);have I:=q.cellAt t;clear t;have d:=pP w [O b,U n (Z c) k] 104;have r:=Ab q;clear h s u D q;go_enter func60,ntmps60;go_wp2_with fail
 change Code.wp _ _ _ _ (w.alloc (j3 [O b,U n (Z c) k].toArray 104));generalize w.alloc (j3 [O b,U n (Z c) k].toArray 104)=w1 at r I d⊢;generalize w.heap.size=N at d⊢;have E:=d.cell 0;have H:=d.cell 1;simp at E H;have F:=Ab (g w1.drew r.drew);clear g d
 go_region_law (go_simp;go_at_call 103;refine F.mono ?_;rintro e L ⟨p,rfl,hcut,A⟩;have z:=Ab (And.intro hcut (r.drew.trans A));clear hcut A)
 all_goals
  go_wp2;go_ret;exact⟨p,rfl,z.1,z.2⟩
def Bw(a b:zA):DU a b=0↔a=b:=by
 unfold DU;constructor
 .intro h;cases h1:pK a.toList b.toList with
  |true=>rw[h1]at h;simp at h
  |false=>
   cases h2:pK b.toList a.toList with
   |true=>rw[h1,h2]at h;simp at h
   |false=>
    cases h3:(a.toList==b.toList)with
    |true=>exact toList_inj (by simpa using h3)
    |false=>rw[St _ _ h1 h3]at h2;cases h2
 .intro h;rw[h,PU];rfl
def Oh(a b:zA):DU a b<0↔pK a.toList b.toList=jj:=by
 unfold DU;cases h1:pK a.toList b.toList with
 |true=>simp
 |false=>
  cases h2:pK b.toList a.toList with
  |true=>simp
  |false=>simp
def aw(a b:zA):0<DU a b↔DU b a<0:=by
 rw[Oh];unfold DU;cases h1:pK a.toList b.toList with
 |true=>
  cases h2:pK b.toList a.toList with
  |false=>simp
  |true=>
   have:=NO _ _ _ h1 h2;rw[PU]at this;cases this
 |false=>
  cases h2:pK b.toList a.toList with
  |true=>simp
  |false=>simp
def Qv{a b c:zA}(d:DU a b<0)(e:DU b c<0):DU a c<0:=by
 rw[Oh]at*;exact NO _ _ _ d e
def Uw:∀(l m:pM zA),EP l m=0↔l=m
 |[],[]=>by simp[EP]
 |[],_::_=>by simp[EP]
 |_::_,[]=>by simp[EP]
 |x::l,y::m=>by
  rw[EP];by_cases h:DU x y=0
  .rw[ln h,Uw l m,(Bw x y).1 h];simp
  .rw[li h];constructor
   .intro a;exact absurd a h
   .intro a;exact absurd ((Bw x y).2 (List.cons.inj a).1) h
def aC:∀(l m:pM zA),0<EP l m↔EP m l<0
 |[],[]=>by simp[EP]
 |[],_::_=>by simp[EP]
 |_::_,[]=>by simp[EP]
 |x::l,y::m=>by
  rw[EP,EP];by_cases h:DU x y=0
  .have a:DU y x=0:=(Bw _ _).2 ((Bw _ _).1 h).symm;rw[ln h,ln a];exact aC l m
  ·(have a:¬DU y x=0:=λb=>h ((Bw _ _).2 ((Bw _ _).1 b).symm));rw[li h,li a];exact aw x y
def Qn:∀{l m k:pM zA},EP l m<0->EP m k<0->EP l k<0
 |[],[],_,h,_=>by simp[EP]at h
 |[],_::_,[],_,h=>by simp[EP]at h
 |[],_::_,_::_,_,_=>by simp[EP]
 |_::_,[],_,h,_=>by simp[EP]at h
 |_::_,_::_,[],_,h=>by simp[EP]at h
 |x::l,y::m,z::k,h1,h2=>by
  rw[EP]at h1 h2⊢;by_cases b:DU x y=0
  .rw[ln b]at h1;rw[(Bw x y).1 b];by_cases a:DU y z=0
   .rw[ln a]at h2⊢;exact Qn h1 h2
   .rw[li a]at h2⊢;exact h2
  .rw[li b]at h1;by_cases a:DU y z=0
   .rw[<-(Bw y z).1 a,li b];exact h1
   .rw[li a]at h2;have c:=Qv h1 h2;rw[li (by omega)];exact c
def GB(a b:C4):CP a b=0↔a=b:=by
 obtain⟨d,f⟩:=a;obtain⟨e,g⟩:=b;unfold CP;simp only;by_cases h:DU d e=0
 .rw[ln h,Uw,(Bw _ _).1 h];simp
 .rw[li h];constructor
  .intro c;exact absurd c h
  .intro c;simp only[C4.mk.injEq]at c;exact absurd ((Bw _ _).2 c.1) h
def aj(a b:C4):0<CP a b↔CP b a<0:=by
 unfold CP;by_cases h:DU a.name b.name=0
 .have c:DU b.name a.name=0:=(Bw _ _).2 ((Bw _ _).1 h).symm;rw[ln h,ln c];exact aC _ _
 .have c:¬DU b.name a.name=0:=λd=>h ((Bw _ _).2 ((Bw _ _).1 d).symm)
  rw[li h,li c];exact aw _ _
def Iu{a b c:C4}(f:CP a b<0)(d:CP b c<0):CP a c<0:=by
 unfold CP at*;by_cases g:DU a.name b.name=0
 .rw[ln g]at f;rw[(Bw _ _).1 g];by_cases e:DU b.name c.name=0
  .rw[ln e]at d⊢;exact Qn f d
  .rw[li e]at d⊢;exact d
 .rw[li g]at f;by_cases e:DU b.name c.name=0
  .rw[<-(Bw _ _).1 e,li g];exact f
  .rw[li e]at d;have h:=Qv f d;rw[li (by omega)];exact h
def BU(f:Af):C4:=⟨f.name,f.args.map AE⟩
def AL(f:Af):Prop:=∀x∈f.args,A8 x
def N9{a b:Af}(i:AL a)(k:AL b)(h:BU a=BU b):a=b:=by
 obtain⟨p,o⟩:=a;obtain⟨q,n⟩:=b;simp only[BU,C4.mk.injEq]at h;obtain⟨j,g⟩:=h;subst j
 congr 1
 have f:∀(l m:pM zA),(∀x∈l,A8 x)->(∀x∈m,A8 x)->l.map AE=m.map AE->l=m:=by
  intro l
  induction l with
  |nil=>intro m _ _ h;cases m with|nil=>rfl|cons y m=>simp at h
  |cons x l ih=>
   intro m e d h;cases m with
   |nil=>simp at h
   |cons y m=>
    simp only[lE,mj]at h;rw[Gp (e x (by simp)) (d y (by simp)) h.1,ih m (λz c=>e z (by simp[c])) (λz c=>d z (by simp[c])) h.2]
 exact f o n i k g
def Rr:∀(l m:pM zA),(∀x∈l,A8 x)->(∀x∈m,A8 x)->(Ei l m=jj↔EP (l.map AE) (m.map AE)<0)
 |[],[],_,_=>by simp[Ei,EP]
 |[],_::_,_,_=>by simp[Ei,EP]
 |_::_,[],_,_=>by simp[Ei,EP]
 |x::l,y::m,hl,hm=>by
  rw[Ei,lE,lE,EP];by_cases h:x=y
  .subst h;rw[ln (by simp),ln ((Bw _ _).2 rfl)];exact Rr l m (λz b=>hl z (by simp[b])) (λz b=>hm z (by simp[b]))
  ·(have c:¬(x.toList==y.toList)=jj:=λa=>h (toList_inj (by simpa using a)));(have d:¬DU (AE x) (AE y)=0:=λa=>h (Gp (hl x (by simp)) (hm y (by simp)) ((Bw _ _).1 a)));rw[li c,li d,Oh,Ip (hl x (by simp)) (hm y (by simp))]
def Ec{a b:Af}(e:AL a)(f:AL b):CW a b=jj↔CP (BU a) (BU b)<0:=by
 unfold CW CP BU;simp only;by_cases h:a.name=b.name
 .rw[ln (by rw[h];simp),ln ((Bw _ _).2 h)];exact Rr _ _ e f
 .have d:¬(a.name.toList==b.name.toList)=jj:=λc=>h (toList_inj (by simpa using c))
  rw[li d,li (λc=>h ((Bw _ _).1 c)),Oh]
def Il{α:Type}{lt:α->α->Prop}(e:∀a,¬lt a a)(f:∀a b c,lt a b->lt b c->lt a c):∀(l m:pM α),l.Pairwise lt->m.Pairwise lt->(∀x,x∈l↔x∈m)->l=m
 |[],[],_,_,_=>rfl
 |[],y::m,_,_,h=>by have:=(h y).2 (by simp);simp at this
 |x::l,[],_,_,h=>by have:=(h x).1 (by simp);simp at this
 |x::l,y::m,hl,hm,h=>by
  rw[mY]at hl hm;have g:x=y:=by
   rcases kZ.1 ((h x).1 (by simp))with h1|h1
   .exact h1
   .rcases kZ.1 ((h y).2 (by simp))with h2|h2
    .exact h2.symm
    .exact absurd (f _ _ _ (hl.1 y h2) (hm.1 x h1)) (e x)
  subst g
  congr 1
  refine Il e f l m hl.2 hm.2 (λz=>?_);constructor
  .intro d;rcases kZ.1 ((h z).1 (by simp[d]))with h1|h1
   .subst h1;exact absurd (hl.1 z d) (e z)
   .exact h1
  .intro d;rcases kZ.1 ((h z).2 (by simp[d]))with h1|h1
   .subst h1;exact absurd (hm.1 z d) (e z)
   .exact h1
def Si(x:Bv):pM Bv->pM Bv
 |[]=>[x]
 |y::m=>if CW x.f y.f then x::y::m else y::Si x m
def Rb(x:Bv):∀(l a:pM Bv),l.foldl (E2 x) (a,jj)=(a++l,jj)
 |[],a=>by simp
 |y::l,a=>by
  rw[lR];have:E2 x (a,jj) y=(a++[y],jj):=by simp[E2]
  rw[this,Rb x l];simp
def Xl(x:Bv):∀(l a:pM Bv),(if(l.foldl (E2 x) (a,K)).2 then(l.foldl (E2 x) (a,K)).1 else(l.foldl (E2 x) (a,K)).1++[x])=a++Si x l
 |[],a=>by simp[Si]
 |y::l,a=>by
  rw[lR,Si];cases h:CW x.f y.f with
  |true=>
   (have:E2 x (a,K) y=(a++[x]++[y],jj):=by simp[E2,h]);rw[this,Rb];simp
  |false=>
   (have:E2 x (a,K) y=(a++[y],K):=by simp[E2,h]);rw[this,Xl x l];simp
def ZY(l:pM Bv)(x:Bv):Ot l x=Si x l:=by
 have h:=Xl x l [];rw[mw]at h;exact h
def GR(l:pM Bv):Prop:=l.Pairwise λa b=>CW a.f b.f=jj
def Wl{a b c:Af}(d:AL a)(g:AL b)(h:AL c)(f:CW a b=jj)(e:CW b c=jj):CW a c=jj:=by
 rw[Ec d g]at f;rw[Ec g h]at e;rw[Ec d h];exact Iu f e
def cE{a b:Af}(c:AL a)(d:AL b)(e:CW a b=K)(f:a≠b):CW b a=jj:=by
 rw[Ec d c];have g:¬CP (BU a) (BU b)<0:=λh=>by rw[(Ec c d).2 h]at e;cases e
 have i:¬CP (BU a) (BU b)=0:=λh=>f (N9 c d ((GB _ _).1 h))
 exact(aj _ _).1 (by omega)
def Uv{a:Af}(b:AL a):CW a a=K:=by
 cases h:CW a a with
 |false=>rfl
 |true=>
  rw[Ec b b,(GB _ _).2 rfl]at h;omega
def JF(x p:Bv):∀(l:pM Bv),p∈Si x l↔p=x\/p∈l
 |[]=>by simp[Si]
 |y::l=>by
  rw[Si];split
  .simp
  .rw[kZ,JF x p l,kZ];exact⟨λh=>by rcases h with h|h|h;exact oj (oi h);exact oi h;exact oj (oj h),λh=>by rcases h with h|h|h;exact oj (oi h);exact oi h;exact oj (oj h)⟩
def Pz{x:Bv}(b:AL x.f):∀{l:pM Bv},GR l->(∀p∈l,AL p.f)->(∀p∈l,p.f≠x.f)->GR (Si x l)
 |[],_,_,_=>by simp[Si,GR]
 |y::l,h,hc,hne=>by
  unfold GR at h;rw[mY]at h;have c:=hc y (by simp);rw[Si];cases ha:CW x.f y.f with
  |true=>
   rw[ln rfl];unfold GR;rw[mY];refine⟨λp a=>?_,mY.2 h⟩;rcases kZ.1 a with rfl|a
   .exact ha
   .exact Wl b c (hc p (by simp[a])) ha (h.1 p a)
  |false=>
   rw[li (by simp)];unfold GR;rw[mY];refine⟨λp a=>?_,Pz b h.2 (λp a=>hc p (by simp[a])) (λp a=>hne p (by simp[a]))⟩;rcases(JF x p l).1 a with rfl|a
   .exact cE b c ha (λe=>hne y (by simp) e.symm)
   .exact h.1 p a
def Y5{l:pM Bv}{x:Bv}(e:AL x.f)(d:GR l)(c:∀p∈l,AL p.f):GR (EW l x)/\(∀p∈EW l x,AL p.f)/\∀g,(∃p∈EW l x,p.f=g)↔(∃p∈l,p.f=g)\/g=x.f:=by
 unfold EW
 cases h:XF l x.f with
 |true=>
  rw[ln rfl];refine⟨d,c,λg=>⟨oi,λb=>?_⟩⟩;rcases b with b|b
  .exact b
  .unfold XF at h;rw[mH]at h;obtain⟨p,a,k⟩:=h;exact⟨p,a,by rw[b];exact(Jo _ _).1 k⟩
 |false=>
  rw[li (by simp),ZY];have j:∀p∈l,p.f≠x.f:=by
   intro p a i;unfold XF at h;rw[mU]at h;exact h p a ((Jo _ _).2 i)
  refine⟨Pz e d c j,λp a=>?_,λg=>?_⟩
  .rcases(JF x p l).1 a with rfl|a
   .exact e
   .exact c p a
  .constructor
   .rintro ⟨p,a,rfl⟩;rcases(JF x p l).1 a with rfl|a
    .exact oj rfl
    .exact oi ⟨p,a,rfl⟩
   .rintro (⟨p,a,rfl⟩|rfl)
    .exact⟨p,(JF x p l).2 (oj a),rfl⟩
    .exact⟨x,(JF x x l).2 (oi rfl),rfl⟩
def fG(x:Af):pM Af->pM Af
 |[]=>[x]
 |y::m=>if CW x y then x::y::m else y::fG x m
def A3(s:pM Af)(f:Af):pM Af:=if C3 s f then s else fG f s
def Eb(s:pM Af):Prop:=s.Pairwise λa b=>CW a b=jj
def N7(x:Af):∀(l:pM Af),Z (fG x l)=Z l+1
 |[]=>rfl
 |y::m=>by
  rw[fG];split
  .rfl
  .rw[lj,N7 x m,lj]
def WY(x:Bv):∀(l:pM Bv),(Si x l).map Bv.f=fG x.f (l.map Bv.f)
 |[]=>rfl
 |y::m=>by
  rw[Si,lE,fG];split
  .rfl
  .rw[lE,WY x m]
def eR(l:pM Bv)(f:Af):XF l f=C3 (l.map Bv.f) f:=by
 unfold XF C3;rw[n6];rfl
def LX(l:pM Bv)(x:Bv):(EW l x).map Bv.f=A3 (l.map Bv.f) x.f:=by
 unfold EW A3;rw[eR];split
 .rfl
 .rw[ZY,WY]
def jP(f:Af):Bv:=⟨f,pE K⟩
def ii(s:pM Af):(s.map jP).map Bv.f=s:=by
 rw[mq];exact List.map_id s
def CZ{s:pM Af}{f:Af}(u:AL f)(j:Eb s)(t:∀p∈s,AL p):Eb (A3 s f)/\(∀p∈A3 s f,AL p)/\∀g,g∈A3 s f↔g∈s\/g=f:=by
 have m:GR (s.map jP):=by
  unfold GR;rw[nD];exact j
 have k:∀p∈s.map jP,AL p.f:=by
  intro p d;obtain⟨g,r,rfl⟩:=lk.1 d;exact t g r
 obtain⟨a,b,c⟩:=Y5 (l:=s.map jP) (x:=jP f) u m k;have e:=LX (s.map jP) (jP f);rw[ii]at e;have o:A3 s f=(EW (s.map jP) (jP f)).map Bv.f:=e.symm;rw[o];refine⟨?_,?_,?_⟩
 .unfold Eb;rw[nD];exact a
 .intro p d;obtain⟨q,i,rfl⟩:=lk.1 d;exact b q i
 .intro g;have n:=c g;rw[lk,n];constructor
  .rintro (⟨p,d,rfl⟩|h)
   .obtain⟨q,i,rfl⟩:=lk.1 d;exact oi i
   .exact oj h
  .rintro (h|h)
   .exact oi ⟨jP g,lB h,rfl⟩
   .exact oj h
def consts(cs:pM A4):pM zA:=cs.flatMap λc=>(c.head.args.filter λt=>t.v==0).map AK.s
structure D0(cs:pM A4)(f:Af):Prop where
 zb:∃c∈cs,f.name=c.head.name/\Z f.args=Z c.head.args
 args:∀x∈f.args,x∈consts cs
def I3(l:pM zA):Nat->pM (pM zA)
 |0=>[[]]
 |n+1=>l.flatMap λx=>(I3 l n).map (x:: ·)
def So(cs:pM A4):pM Af:=cs.flatMap λc=>(I3 (consts cs) (Z c.head.args)).map (Af.mk c.head.name)
def OS(l:pM zA):∀(m:pM zA),(∀x∈m,x∈l)->m∈I3 l (Z m)
 |[],_=>by simp[I3]
 |x::m,h=>by
  rw[lj,I3,ma];exact⟨x,h x (by simp),lk.2 ⟨m,OS l m (λy a=>h y (by simp[a])),rfl⟩⟩
def D0.mem{a:pM A4}{f:Af}(h:D0 a f):f∈So a:=by
 obtain⟨c,e,d,b⟩:=h.zb;unfold So;rw[ma];refine⟨c,e,lk.2 ⟨f.args,?_,?_⟩⟩
 .rw[<-b];exact OS _ _ h.args
 .rw[<-d]
def Ia{α:Type}:∀(l m:pM α),l.Nodup->(∀z∈l,z∈m)->Z l<=Z m
 |[],m,_,_=>lz _
 |x::l,m,hn,hs=>by
  rw[nh]at hn;obtain⟨a,b,rfl⟩:=List.append_of_mem (hs x (by simp));have:=Ia l (a++b) hn.2 (λz d=>by
   have c:=hs z (by simp[d])
   rw[lw,kZ]at c
   rw[lw]
   rcases c with c|c|c
   .exact oi c
   .subst c;exact absurd d hn.1
   .exact oj c)
  simp only[lu,lj]at this⊢;omega
def Eb.nodup{s:pM Af}(h:Eb s)(c:∀f∈s,AL f):s.Nodup:=by
 unfold List.Nodup;refine nz (fun{a b} ha hb hab e=>?_) h;subst e;rw[Uv (c a ha)]at hab;cases hab
def Tu{s t:pM Af}(w:Eb s)(u:Eb t)(j:∀f∈s,AL f)(ct:∀f∈t,AL f)(h:∀f,f∈s↔f∈t):s=t:=by
 have r:(s.map BU).Pairwise λa b=>CP a b<0:=by
  rw[nD];exact nz (fun{a b} i hb g=>(Ec (j a i) (j b hb)).1 g) w
 have q:(t.map BU).Pairwise λa b=>CP a b<0:=by
  rw[nD];exact nz (fun{a b} i hb g=>(Ec (ct a i) (ct b hb)).1 g) u
 have v:s.map BU=t.map BU:=by
  refine Il (lt:=λa b=>CP a b<0) (λa i=>?_) (λa b c g p=>Iu g p) _ _ r q (λx=>?_)
  .have:CP a a=0:=(GB a a).2 rfl;omega
  .rw[lk,lk];exact⟨fun⟨f,d,e⟩=>⟨f,(h f).1 d,e⟩,fun⟨f,d,e⟩=>⟨f,(h f).2 d,e⟩⟩
 have o:∀(l m:pM Af),(∀f∈l,AL f)->(∀f∈m,AL f)->l.map BU=m.map BU->l=m:=by
  intro l
  induction l with
  |nil=>intro m _ _ e;cases m with|nil=>rfl|cons y m=>simp at e
  |cons x l ih=>
   intro m n k e;cases m with
   |nil=>simp at e
   |cons y m=>
    rw[lE,lE,mj]at e;rw[N9 (n x (by simp)) (k y (by simp)) e.1,ih m (λf d=>n f (by simp[d])) (λf d=>k f (by simp[d])) e.2]
 exact o s t j ct v
def Ri(cs:pM A4):Prop:=∀c∈cs,∀t∈c.head.args,t.v=0->A8 t.s
def UY{d:pM A4}(h:Ri d):∀x∈consts d,A8 x:=by
 intro x a;unfold consts at a;obtain⟨c,f,a⟩:=ma.1 a;obtain⟨t,b,rfl⟩:=lk.1 a;obtain⟨b,e⟩:=lK.1 b;exact h c f t b (by simpa using e)
def D0.canon(h:Ri c){f:Af}(a:D0 c f):AL f:=λx b=>UY h x (a.args x b)
def AL.zK{f:Af}(h:AL f):Ig f:=λx a=>(h x a).size
def RL{d:pM A4}(j:Rn d){s:pM Af}(p:∀f∈s,D0 d f)(q:∀f∈s,Ig f){c:A4}(h:c∈d)(b:e∈Bt (Al c) s):D0 d (Aq e c.head):=by
 refine⟨⟨c,h,rfl,by simp[Aq]⟩,λx r=>?_⟩;obtain⟨t,i,rfl⟩:=lk.1 r;unfold Bt at b;obtain⟨_,_,_,_,n⟩:=CN q (Al c) [Bk] (λe b=>by simp at b;rw[b];rfl) (j.args c h) e (lK.1 b).1;by_cases g:t.v=0
 .unfold AI;rw[ln g];unfold consts;exact ma.2 ⟨c,h,lk.2 ⟨t,lK.2 ⟨i,by rw[g];rfl⟩,rfl⟩⟩
 .rcases j.head c h t i with a|⟨y,l,k,u,m,o⟩
  .exact absurd a g
  .have a:=(p _ (n y l k).1).args (AI e u) (lB m);unfold AI at a⊢;rw[o]at a;rw[li g]at a⊢;exact a
structure GF(cs:pM A4)(zR:zA->Nat)(n:Nat)(s:pM Af):Prop where
 work:DW (FR cs) (λf=>zR f.name) n (·∈s)
 zM:Eb s
 zW:∀f∈s,D0 cs f
def GF.start(b:pM A4)(a:zA->Nat):GF b a 0 []:=
 ⟨(DW.start (FR b) (λf:Af=>a f.name)).cong _ _ (λf=>by simp),List.Pairwise.nil,λf c=>by simp at c⟩
def GF.len{b:zA->Nat}{s:pM Af}(d:Ri c)(h:GF c b n s):Z s<=Z (So c):=
 Ia s (So c) (h.zM.nodup λf a=>(h.zW f a).canon d) λf a=>(h.zW f a).mem
structure Ny(cs:pM A4)(zR:zA->Nat):Prop where
 zK:Rn cs
 lay:CR cs zR
 zL:Ri cs
def gI{k:pM A4}{g:zA->Nat}(j:Ny k g){i s:pM Af}(q:GF k g n i)(h:GF k g n s)(o:∀f∈i,f∈s)(t:∀f∈s,f∈i\/g f.name=n)
  {c:A4} (r:c∈k) (v:g c.head.name=n)  (p:e∈Bt (Al c) i):
  GF k g n (A3 s (Aq e c.head))/\(∀f∈i,f∈A3 s (Aq e c.head))/\∀f∈A3 s (Aq e c.head),f∈i\/g f.name=n:=by
 have u:∀f∈i,Ig f:=λf d=>((q.zW f d).canon j.zL).zK
 have l:=RL j.zK q.zW u r p;obtain⟨a,b,m⟩:=CZ (l.canon j.zL) h.zM (λf d=>(h.zW f d).canon j.zL);refine⟨⟨?_,a,λf d=>?_⟩,λf d=>(m f).2 (oi (o f d)),λf d=>?_⟩
 .exact(eQ j.lay j.zK h.work o t u r v p).cong _ _ (λf=>(m f).symm)
 .rcases(m f).1 d with d|d
  .exact h.zW f d
  .rw[d];exact l
 .rcases(m f).1 d with d|d
  .exact t f d
  .right;rw[d];exact v
def Im(c:A4)(a:pM Af×Bool)(e:pM zA):pM Af×Bool:=if C3 a.1 (Aq e c.head)then a else(A3 a.1 (Aq e c.head),jj)
def C6(zR:zA->Nat)(n:Nat)(a:pM Af×Bool)(c:A4):pM Af×Bool:=if zR c.head.name=n then(Bt (Al c) a.1).foldl (Im c) a else a
def Dq(cs:pM A4)(zR:zA->Nat)(n:Nat)(s:pM Af):pM Af×Bool:=cs.foldl (C6 zR n) (s,K)
def RG{d:pM A4}{b:zA->Nat}(r:Ny d b){n:Nat}{g:pM Af}(j:GF d b n g){c:A4}(t:c∈d)(o:b c.head.name=n):
  ∀(l:pM (pM zA)) (s:pM Af) (m:Bool),(∀e∈l,e∈Bt (Al c) g)->GF d b n s->(∀f∈g,f∈s)->(∀f∈s,f∈g\/b f.name=n)->
   GF d b n (l.foldl (Im c) (s,m)).1/\Z s<=Z (l.foldl (Im c) (s,m)).1/\
    ((l.foldl (Im c) (s,m)).2=K->(l.foldl (Im c) (s,m)).1=s/\m=K/\∀e∈l,Aq e c.head∈s)/\
    ((l.foldl (Im c) (s,m)).2=jj->m=jj\/Z s<Z (l.foldl (Im c) (s,m)).1)
 |[],s,m,_,h,_,_=>⟨h,lC _,λa=>⟨rfl,a,λe D=>by simp at D⟩,λa=>oi a⟩
 |e::l,s,m,hl,h,hsub,hnew=>by
  rw[lR];have w:∀e∈l,e∈Bt (Al c) g:=λx i=>hl x (by simp[i])
  cases hh:C3 s (Aq e c.head)with
  |true=>
   (have q:Im c (s,m) e=(s,m):=by unfold Im;rw[hh,ln rfl]);rw[q];obtain⟨p,u,k,v⟩:=RG r j t o l s m w h hsub hnew;refine⟨p,u,λa=>?_,v⟩;obtain⟨z,E,A⟩:=k a;refine⟨z,E,λx i=>?_⟩;rcases kZ.1 i with rfl|i
   .exact(BK _ _).1 hh
   .exact A x i
  |false=>
   (have q:Im c (s,m) e=(A3 s (Aq e c.head),jj):=by unfold Im;rw[hh,li (by simp)]);rw[q];obtain⟨y,C,B⟩:=gI r j h hsub hnew t o (hl e (by simp));obtain⟨p,u,k,v⟩:=RG r j t o l (A3 s (Aq e c.head)) jj w y C B;(have F:Z (A3 s (Aq e c.head))=Z s+1:=by unfold A3;rw[hh,li (by simp),N7]);refine⟨p,by omega,λa=>?_,λa=>oj (by omega)⟩;have:=(k a).2.1;cases this
def Lf{j:pM A4}{a:zA->Nat}(A:Ny j a){n:Nat}:
  ∀(b:pM A4) (s:pM Af) (m:Bool),(∀c∈b,c∈j)->GF j a n s->
   GF j a n (b.foldl (C6 a n) (s,m)).1/\Z s<=Z (b.foldl (C6 a n) (s,m)).1/\
    ((b.foldl (C6 a n) (s,m)).2=K->(b.foldl (C6 a n) (s,m)).1=s/\m=K/\∀c∈b,a c.head.name=n->∀e∈Bt (Al c) s,Aq e c.head∈s)/\
    ((b.foldl (C6 a n) (s,m)).2=jj->m=jj\/Z s<Z (b.foldl (C6 a n) (s,m)).1)
 |[],s,m,_,h=>⟨h,lC _,λg=>⟨rfl,g,λc M=>by simp at M⟩,λg=>oi g⟩
 |c::b,s,m,hd,h=>by
  rw[lR];have H:∀c∈b,c∈j:=λx d=>hd x (by simp[d])
  by_cases l:a c.head.name=n
  ·(have z:C6 a n (s,m) c=(Bt (Al c) s).foldl (Im c) (s,m):=by unfold C6;rw[ln l]);rw[z];obtain⟨o,G,t,B⟩:=RG A h (hd c (by simp)) l (Bt (Al c) s) s m (λe i=>i) h (λf u=>u) (λf u=>oi u);generalize(Bt (Al c) s).foldl (Im c) (s,m)=r at o G t B⊢;obtain⟨s1,L⟩:=r;simp only at o G t B;obtain⟨y,E,v,w⟩:=Lf A b s1 L H o;refine⟨y,by omega,λg=>?_,λg=>?_⟩
   .obtain⟨p,C,q⟩:=v g;obtain⟨I,q2,q3⟩:=t C;subst I;refine⟨p,q2,λx d k e i=>?_⟩;rcases kZ.1 d with rfl|d
    .exact q3 e i
    .exact q x d k e i
   .rcases w g with F|F
    .rcases B F with D|D
     .exact oi D
     .exact oj (by omega)
    .exact oj (by omega)
  ·(have z:C6 a n (s,m) c=(s,m):=by unfold C6;rw[li l]);rw[z];obtain⟨y,E,v,w⟩:=Lf A b s m H h;refine⟨y,E,λg=>?_,w⟩;obtain⟨p,C,q⟩:=v g;refine⟨p,C,λx d k e i=>?_⟩;rcases kZ.1 d with rfl|d
   .exact absurd k l
   .exact q x d k e i
def Ib{a:pM A4}{b:zA->Nat}(d:Ny a b){s:pM Af}(h:GF a b n s):
  GF a b n (Dq a b n s).1/\((Dq a b n s).2=K->(Dq a b n s).1=s/\GF a b (n+1) s)/\
   ((Dq a b n s).2=jj->Z s<Z (Dq a b n s).1)/\Z (Dq a b n s).1<=Z (So a):=by
 unfold Dq;obtain⟨i,q,l,m⟩:=Lf d a s K (λc p=>p) h;refine⟨i,λe=>?_,λe=>?_,i.len d.zL⟩
 .obtain⟨k,_,o⟩:=l e;exact⟨k,cP d.zK h.work (λf j=>((h.zW f j).canon d.zL).zK) o,h.zM,h.zW⟩
 .rcases m e with g|g
  .cases g
  .exact g
def gM{a:pM A4}{e g:zA->Nat}(j:Ny a e)(i:Ny a g){s t:pM Af}(b:GF a e n s)(h:GF a g m t)(k:∀c∈a,e c.head.name<n)(l:∀c∈a,g c.head.name<m):s=t:=
 Tu b.zM h.zM (λf d=>(b.zW f d).canon j.zL) (λf d=>(h.zW f d).canon i.zL) (fm j.lay i.lay b.work h.work k l)
def cK{a:pM A4}(h:(An s (Ae s 0)).2.2=K)(e:a.map A4.erase=(An s (Ae s 0)).1)(f:CJ a=(0,0)):Ny a (B5 a 6):=by
 have d:=Up f;refine⟨d.zK (YS h e),d.levels,λc j t g i=>?_⟩;rcases(L2 h e c j).1.args t g with⟨_,b⟩|b
 .exact b
 .rw[i]at b;exact absurd b.1 (by decide)
def Bu(x:Br):pM AK:=if(x.kind==97||x.kind==33)=jj then x.A.args else[x.L,x.R]
def DK(e:pM zA)(ts:pM AK):Bool:=ts.all λt=> !U4 (AI e t)
def Eg(body:pM Br)(s:pM Af)(e:pM zA):Bool:=body.any λx=>DK e (Bu x)&& !Cg (Aq e) (AI e) s x
def Aw(al:UInt8->pM zA->pM zA)(body:pM Br)(s:pM Af):pM UInt8->pM zA->pM (pM zA)
 |[],e=>if Eg body s e then[] else[e]
 |v::vs,e=>if Eg body s e then[] else(al v e).flatMap λt=>Aw al body s vs (e.set (v.toNat-65) t)
def Nk(e:pM zA)(v:UInt8):zA:=e.getD (v.toNat-65) pF
def Ew(v:UInt8):Prop:=65<=v.toNat/\v.toNat<=90
def Lo(d:Z e=26)(a:Ew g)(t:zA):Nk (e.set (g.toNat-65) t) g=t:=by
 unfold Nk;obtain⟨b,c⟩:=a;rw[lq,mK (by omega)];rfl
def fo{u v:UInt8}(c:Ew u)(b:Ew v)(h:u≠v)(t:zA):Nk (e.set (v.toNat-65) t) u=Nk e u:=by
 unfold Nk;have a:v.toNat-65≠u.toNat-65:=by
  intro f;obtain⟨i,d⟩:=c;obtain⟨j,g⟩:=b;exact h (mO.1 (by omega))
 rw[lq,mm a,<-lq]
def BQ{j:UInt8->pM zA->pM zA}{l:pM Br}{s:pM Af}(k:∀v e,∀t∈j v e,t.size≠0):
  ∀(d:pM UInt8) (e b:pM zA),Z e=26->(∀v∈d,Ew v)->b∈Aw j l s d e->
   Z b=26/\Eg l s b=K/\(∀u,Ew u->u∉d->Nk b u=Nk e u)/\∀v∈d,(Nk b v).size≠0
 |[],e,b,he,_,a=>by
  rw[Aw]at a;split at a
  .simp at a
  .rename_i n;rw[kY]at a;subst a;exact⟨he,by simpa using n,λ_ _ _=>rfl,λv f=>by simp at f⟩
 |v::d,e,b,he,f,a=>by
  rw[Aw]at a;split at a
  .simp at a
  .obtain⟨t,r,a⟩:=ma.1 a;have i:=f v (by simp);obtain⟨q,o,m,p⟩:=BQ k d (e.set (v.toNat-65) t) b (by simp[he]) (λu c=>f u (by simp[c])) a;refine⟨q,o,λu c h=>?_,λu c=>?_⟩
   .rw[kZ,not_or]at h;rw[m u c h.2,fo c i h.1]
   .by_cases g:u∈d
    .exact p u g
    .rcases kZ.1 c with rfl|c
     .rw[m u i g,Lo he i];exact k _ _ t r
     .exact absurd c g
def Ma(x:Br):Prop:=∀t∈Bu x,BC t
def Db.yh{x:Br}(h:Db x):Ma x:=by
 intro t a;unfold Db at h;unfold Bu at a;split at h
 .rename_i b;rw[ln b]at a;exact(h.args t a).zK
 .rename_i b;rw[li b]at a;rcases kZ.1 a with rfl|a
  .exact h.1.zK
  .rw[kY]at a;subst a;exact h.2.1.zK
def Iq{σ:UInt8->zA}{x:Br}(h:∀t∈Bu x,AI e t=Ed σ t):Cg (Aq e) (AI e) f x=Cg (Bm σ) (Ed σ) f x:=by
 unfold Bu at h;by_cases a:(x.kind==97||x.kind==33)=jj
 .rw[ln a]at h;have c:Aq e x.A=Bm σ x.A:=by
   unfold Aq Bm;rw[mu h]
  unfold Cg;rw[c];rw[mP]at a;rcases a with a|a
  .rw[ln a,ln a]
  .by_cases b:(x.kind==97)=jj
   .rw[ln b,ln b]
   .rw[li b,li b,ln a,ln a]
 .rw[li a]at h;have g:=h x.L (by simp);have d:=h x.R (by simp);rw[mP,not_or]at a;unfold Cg;rw[li a.1,li a.1,li a.2,li a.2,g,d]
def Ux{b:pM Br}(k:∀x∈b,Ma x){σ:UInt8->zA}(h:∀x∈b,Cg (Bm σ) (Ed σ) f x=jj)(i:Ef e σ):Eg b f e=K:=by
 unfold Eg;rw[mU];intro x g a;rw[lJ]at a;have j:∀t∈Bu x,AI e t=Ed σ t:=by
  intro t d;have c:=(mC.1 a.1) t d;refine i.val (k x g t d) (λl=>?_);rw[(D5 _).2 l]at c;cases c
 rw[Iq j,h x g]at a;simp at a
def Zy(al:UInt8->pM zA->pM zA)(body:pM Br)(s:pM Af):Prop:=
 ∀(v:UInt8) (e:pM zA) (σ:UInt8->zA),Ew v->Ef e σ->(∀x∈body,Cg (Bm σ) (Ed σ) s x=jj)->(∃x∈body,(x.kind==97)=jj/\∃u∈x.A.args,u.v=v)->σ v∈al v e
def Hg{l:UInt8->pM zA->pM zA}{f:pM Br}{s:pM Af}(k:∀x∈f,Ma x)(n:Zy l f s){σ:UInt8->zA}(g:∀x∈f,Cg (Bm σ) (Ed σ) s x=jj):
  ∀(d:pM UInt8) (e:pM zA),Ef e σ->(∀v∈d,Ew v/\∃x∈f,(x.kind==97)=jj/\∃u∈x.A.args,u.v=v)->
   ∃b∈Aw l f s d e,Ef b σ/\(∀v∈d,Nk b v=σ v)/\∀u,Ew u->Nk e u=σ u->Nk b u=σ u
 |[],e,ha,_=>by
  refine⟨e,?_,ha,λv i=>by simp at i,λu _ h=>h⟩;rw[Aw,Ux k g ha];simp
 |v::d,e,ha,i=>by
  obtain⟨c,t⟩:=i v (by simp);obtain⟨b,q,o,r,j⟩:=Hg k n g d (e.set (v.toNat-65) (σ v)) (ha.set c.1 c.2) (λu a=>i u (by simp[a]));refine⟨b,?_,o,λu a=>?_,λu a p=>?_⟩
  .rw[Aw,Ux k g ha];rw[li (by simp)];exact ma.2 ⟨σ v,n v e σ c ha g t,q⟩
  .rcases kZ.1 a with rfl|a
   .exact j u c (Lo ha.1 c _)
   .exact r u a
  .by_cases m:u=v
   .subst m;exact j u a (Lo ha.1 c _)
   .exact j u a (by rw[fo a c m];exact p)
def Ss(al:UInt8->pM zA->pM zA)(c:A4)(hv rv:pM UInt8)(s:pM Af):pM Af:=
 ((Aw al (Al c) s hv Bk).filter λb=> !C3 s (Aq b c.head)&& !(Aw al (Al c) s rv b).isEmpty).map λb=>Aq b c.head
structure SU(c:A4)(hv rv:pM UInt8):Prop where
 ok:∀v,v∈hv\/v∈rv->Ew v/\∃x∈Al c,(x.kind==97)=jj/\∃u∈x.A.args,u.v=v
 apart:∀v∈hv,v∉rv
 head:∀t∈c.head.args,t.v=0\/t.v∈hv
 body:∀x∈Al c,∀t∈Bu x,t.v=0\/t.v∈hv\/t.v∈rv
 lits:∀x∈Al c,Ma x
def EF{t:AK}(h:t.v≠0):AI e t=Nk e t.v:=by
 unfold AI Nk;rw[li h]
def Un{m:UInt8->pM zA->pM zA}{c:A4}{n k:pM UInt8}{s:pM Af}(g:SU c n k)(y:∀v e,∀t∈m v e,t.size≠0){f:Af}(q:f∈Ss m c n k s):
  f∉s/\∃σ,(∀x∈Al c,Cg (Bm σ) (Ed σ) s x=jj)/\f=Bm σ c.head:=by
 unfold Ss at q;obtain⟨b,o,rfl⟩:=lk.1 q;obtain⟨o,z⟩:=lK.1 o;rw[lJ]at z;obtain⟨A,r⟩:=z;refine⟨λh=>?_,?_⟩
 .rw[(BK _ _).2 h]at A;cases A
 .obtain⟨a,F⟩:∃a,a∈Aw m (Al c) s k b:=by
   cases hl:Aw m (Al c) s k b with
   |nil=>rw[hl]at r;simp at r
   |cons x l=>exact⟨x,by simp⟩
  obtain⟨G,_,_,H⟩:=BQ y n Bk b rfl (λv i=>(g.ok v (oi i)).1) o;obtain⟨L,u,E,I⟩:=BQ y k b a G (λv i=>(g.ok v (oj i)).1) F;have w:∀v∈n,Nk a v=Nk b v:=λv i=>E v (g.ok v (oi i)).1 (g.apart v i)
  refine⟨Jl a,λx p=>?_,?_⟩
  .have D:DK a (Bu x)=jj:=by
    unfold DK;rw[mC];intro t j;have C:(AI a t).size≠0:=by
     by_cases d:t.v=0
     .rcases g.lits x p t j with h|h
      .unfold AI;rw[ln d];exact h.2
      .rw[d]at h;exact absurd h.1 (by decide)
     .rw[EF d];rcases g.body x p t j with h|h|h
      .exact absurd h d
      .rw[w _ h];exact H _ h
      .exact I _ h
    cases hE:U4 (AI a t)with
    |false=>rfl
    |true=>exact absurd ((D5 _).1 hE) C
   have B:Cg (Aq a) (AI a) s x=jj:=by
    unfold Eg at u;have:=(mU.1 u) x p;rw[D,mR]at this;simpa using this
   rw[<-Iq (e:=a) (σ:=Jl a) (λt j=>(GU a t).symm)];exact B
  .unfold Aq Bm
   congr 1
   refine mu (λt j=>?_);rw[GU];by_cases d:t.v=0
   .unfold AI;rw[ln d,ln d]
   .rw[EF d,EF d];rcases g.head t j with h|h
    .exact absurd h d
    .exact(w _ h).symm
def eM{i:UInt8->pM zA->pM zA}{c:A4}{g e:pM UInt8}(a:SU c g e)(o:Zy i (Al c) f){σ:UInt8->zA}(n:∀x∈Al c,Cg (Bm σ) (Ed σ) f x=jj):
  Bm σ c.head∈f\/Bm σ c.head∈Ss i c g e f:=by
 obtain⟨b,u,q,p,_⟩:=Hg a.lits o n g Bk (Ef.start σ) (λv h=>a.ok v (oi h));have j:Aq b c.head=Bm σ c.head:=by
  unfold Aq Bm
  congr 1
  refine mu (λt r=>?_);by_cases d:t.v=0
  .unfold AI Ed;rw[ln d,ln d]
  .rw[EF d];unfold Ed;rw[li d];rcases a.head t r with h|h
   .exact absurd h d
   .exact p _ h
 by_cases k:Bm σ c.head∈f
 .exact oi k
 .right;obtain⟨w,m,_⟩:=Hg a.lits o n e b q (λv h=>a.ok v (oj h));unfold Ss;refine lk.2 ⟨b,lK.2 ⟨u,?_⟩,j⟩;rw[lJ];refine⟨?_,?_⟩
  .rw[j];cases hh:C3 f (Bm σ c.head)with
   |false=>rfl
   |true=>exact absurd ((BK _ _).1 hh) k
  .cases hl:Aw i (Al c) f e b with
   |nil=>rw[hl]at m;simp at m
   |cons x l=>rfl
def Rs(e:pM zA)(ts:pM AK)(xs:pM zA):Bool:=(ts.zip xs).all λp=>U4 (AI e p.1)||(AI e p.1).toList==p.2.toList
def GS(s:pM Af)(A:Dg)(i:Nat)(e:pM zA):pM zA:=(s.filter λf=>(f.name.toList==A.name.toList)&&Rs e A.args f.args).map λf=>f.args.getD i pF
def C5(body:pM Br)(s:pM Af)(v:UInt8)(e:pM zA):pM (pM zA):=
 body.filterMap λx=>if x.kind==97 then(x.A.args.findIdx? λt=>t.v==v).map λi=>GS s x.A i e else Y
def PY(al:UInt8->pM zA->pM zA)(body:pM Br)(s:pM Af):Prop:=∀v e t,t∈al v e↔C5 body s v e≠[]/\∀l∈C5 body s v e,t∈l
def Xt{e:pM zA}{σ:UInt8->zA}(b:Ef e σ):∀(a:pM AK),(∀t∈a,BC t)->Rs e a (a.map (Ed σ))=jj
 |[],_=>rfl
 |t::a,hg=>by
  have ih:=Xt b a (λu c=>hg u (by simp[c]));unfold Rs at ih⊢;rw[lE,ph,oz,ih,Bool.and_true];cases hz:U4 (AI e t)with
  |true=>rfl
  |false=>
   rw[nI,b.val (hg t (by simp)) (λh=>by rw[(D5 _).2 h]at hz;cases hz)];simp
def S6{m:UInt8->pM zA->pM zA}{d:pM Br}(B:PY m d f)(r:∀x∈d,Ma x):Zy m d f:=by
 intro v e σ n G F q;rw[B];refine⟨λg=>?_,λl k=>?_⟩
 .obtain⟨x,c,b,u,z,C⟩:=q;unfold C5 at g;rw[List.filterMap_eq_nil_iff]at g;have a:=g x c;rw[ln b,Option.map_eq_none_iff,List.findIdx?_eq_none_iff]at a;have:=a u z;rw[C]at this;simp at this
 .unfold C5 at k;obtain⟨x,c,a⟩:=m3.1 k;by_cases b:(x.kind==97)=jj
  .rw[ln b,ot]at a;obtain⟨i,E,rfl⟩:=a;obtain⟨o,D,_⟩:=ny.1 E;(have w:v≠0:=λh=>by rw[h]at n;exact absurd n.1 (by decide));(have j:x.A.args[i].v=v:=by simpa using D);have y:Bm σ x.A∈f:=by
    have:=F x c;unfold Cg at this;rw[ln b]at this;exact(BK _ _).1 this
   unfold GS;refine lk.2 ⟨Bm σ x.A,lK.2 ⟨y,?_⟩,?_⟩
   .rw[lJ];refine⟨by simp[Bm],Xt G x.A.args (λt p=>r x c t ?_)⟩;unfold Bu;rw[b,ox,ln rfl];exact p
   .unfold Bm;simp only;rw[lq,mA,lc o];simp only[m0,Option.getD_some];unfold Ed;rw[li (by rw[j];exact w),j]
  .rw[li b]at a;cases a
def gi{n:UInt8->pM zA->pM zA}{b:pM Br}{s:pM Af}(y:PY n b s)(w:∀f∈s,Ig f)(u:∀f∈s,∀x∈b,(x.kind==97)=jj->f.name=x.A.name->Z f.args=Z x.A.args):∀v e,∀t∈n v e,t.size≠0:=by
 intro v e t r;obtain⟨C,D⟩:=(y v e t).1 r;obtain⟨l,g⟩:∃l,l∈C5 b s v e:=by
  cases h:C5 b s v e with
  |nil=>exact absurd h C
  |cons a m=>exact⟨a,by simp⟩
 have o:=D l g;unfold C5 at g;obtain⟨x,B,c⟩:=m3.1 g;by_cases d:(x.kind==97)=jj
 .rw[ln d,ot]at c;obtain⟨i,z,rfl⟩:=c;obtain⟨E,_,_⟩:=ny.1 z;unfold GS at o;obtain⟨f,q,rfl⟩:=lk.1 o;obtain⟨k,p⟩:=lK.1 q;rw[lJ]at p;have F:=u f k x B d (toList_inj (by simpa using p.1));have j:i<Z f.args:=by omega
  rw[lq,lc j];exact w f k _ (kV j)
 .rw[li d]at c;cases c
def ZU{i:pM A4}{e:zA->Nat}(o:Ny i e){k s:pM Af}(F:GF i e n k)(h:GF i e n s)(E:∀f∈k,f∈s)(A:∀f∈s,f∈k\/e f.name=n)
  {c:A4} (r:c∈i) (w:e c.head.name=n) {σ:UInt8->zA} (D:∀x∈Al c,Cg (Bm σ) (Ed σ) k x=jj):
  GF i e n (A3 s (Bm σ c.head))/\(∀f∈k,f∈A3 s (Bm σ c.head))/\(∀f∈A3 s (Bm σ c.head),f∈k\/e f.name=n):=by
 have B:D0 i (Bm σ c.head):=by
  refine⟨⟨c,r,rfl,by simp[Bm]⟩,λx Q=>?_⟩;obtain⟨t,z,rfl⟩:=lk.1 Q;by_cases q:t.v=0
  .unfold Ed;rw[ln q];unfold consts;exact ma.2 ⟨c,r,lk.2 ⟨t,lK.2 ⟨z,by rw[q];rfl⟩,rfl⟩⟩
  .rcases o.zK.head c r t z with H|⟨y,L,G,u,M,N⟩
   .exact absurd H q
   .have j:=D y L;unfold Cg at j;rw[ln G,BK]at j;have l:=(F.zW _ j).args (Ed σ u) (lB M);unfold Ed at l⊢;rw[N]at l;rw[li q]at l⊢;exact l
 obtain⟨a,b,m⟩:=CZ (B.canon o.zL) h.zM (λf d=>(h.zW f d).canon o.zL);have j:=(Gl c σ k).1 D;have C:FR i (CG c σ):=⟨c,r,σ,j.2,rfl⟩;have I:=h.work.step (FR i) (λf=>e f.name) o.lay.zZ C w ⟨λg p=>E g (j.1.1 g p),λg p P=>by
  rcases A g P with h|h
  .exact j.1.2 g p h
  .have l:e g.name<e (CG c σ).head.name:=o.lay.zZ.neg _ C g p
   have R:e (CG c σ).head.name=n:=w
   omega⟩
 refine⟨⟨I.cong _ _ (λf=>(m f).symm),a,λf d=>?_⟩,λf d=>(m f).2 (oi (E f d)),λf d=>?_⟩
 .rcases(m f).1 d with d|d
  .exact h.zW f d
  .rw[d];exact B
 .rcases(m f).1 d with d|d
  .exact A f d
  .right;rw[d];exact w
def Lt(s:pM Af)(f:Af):Z s<=Z (A3 s f)/\(f∉s->Z (A3 s f)=Z s+1):=by
 unfold A3;cases hh:C3 s f with
 |true=>rw[ln rfl];exact⟨lC _,λh=>absurd ((BK _ _).1 hh) h⟩
 |false=>rw[li (by simp),N7];exact⟨by omega,λ_=>rfl⟩
def LA{b:pM A4}{a:zA->Nat}(e:Ny b a){n:Nat}{d:pM Af}(i:GF b a n d){c:A4}(j:c∈b)(k:a c.head.name=n):
  ∀(l:pM Af) (s:pM Af),(∀f∈l,∃σ,(∀x∈Al c,Cg (Bm σ) (Ed σ) d x=jj)/\f=Bm σ c.head)->GF b a n s->(∀f∈d,f∈s)->(∀f∈s,f∈d\/a f.name=n)->
   GF b a n (l.foldl A3 s)/\Z s<=Z (l.foldl A3 s)
 |[],s,_,h,_,_=>⟨h,lC _⟩
 |f::l,s,hl,h,hsub,hnew=>by
  obtain⟨σ,r,rfl⟩:=hl f (by simp);obtain⟨m,p,q⟩:=ZU e i h hsub hnew j k r;obtain⟨o,u⟩:=LA e i j k l _ (λg t=>hl g (by simp[t])) m p q;rw[lR];have:=(Lt s (Bm σ c.head)).1;exact⟨o,by omega⟩
structure Xc where
 hv:A4->pM UInt8
 rv:A4->pM UInt8
 al:A4->pM Af->UInt8->pM zA->pM zA
def Xc.new(W:Xc)(c:A4)(s:pM Af):pM Af:=Ss (W.al c s) c (W.hv c) (W.rv c) s
def J4(W:Xc)(a:pM Af×Bool)(c:A4):pM Af×Bool:=((W.new c a.1).foldl A3 a.1,a.2|| !(W.new c a.1).isEmpty)
def Gc(W:Xc)(ds:pM A4)(s:pM Af):pM Af×Bool:=ds.foldl (J4 W) (s,K)
structure Sz(W:Xc)(cs:pM A4):Prop where
 parts:∀c∈cs,SU c (W.hv c) (W.rv c)
 al:∀c∈cs,∀s,PY (W.al c s) (Al c) s
 arity:∀c∈cs,∀d∈cs,∀x∈Al d,(x.kind==97)=jj->c.head.name=x.A.name->Z c.head.args=Z x.A.args
def Sz.sizes{W:Xc}{a:pM A4}{g:zA->Nat}(i:Sz W a)(m:Ny a g)(u:∀c∈a,∀d∈a,c.head.name=d.head.name->Z c.head.args=Z d.head.args){s:pM Af}(h:GF a g n s){c:A4}(j:c∈a):∀v e,∀t∈W.al c s v e,t.size≠0:=by
 refine gi (i.al c j s) (λf b=>((h.zW f b).canon m.zL).zK) (λf b x q l r=>?_);obtain⟨d,k,p,o⟩:=(h.zW f b).zb;rw[o];exact i.arity d k c j x q l (by rw[<-p];exact r)
def OX{W:Xc}{e:pM A4}{p:zA->Nat}(q:Sz W e)(k:Ny e p)(r:∀c∈e,∀d∈e,c.head.name=d.head.name->Z c.head.args=Z d.head.args){n:Nat}:
  ∀(b:pM A4) (s:pM Af) (m:Bool),(∀c∈b,c∈e/\p c.head.name=n)->GF e p n s->
   GF e p n (b.foldl (J4 W) (s,m)).1/\Z s<=Z (b.foldl (J4 W) (s,m)).1/\
    ((b.foldl (J4 W) (s,m)).2=K->(b.foldl (J4 W) (s,m)).1=s/\m=K/\∀c∈b,W.new c s=[])/\
    ((b.foldl (J4 W) (s,m)).2=jj->m=jj\/Z s<Z (b.foldl (J4 W) (s,m)).1)
 |[],s,m,_,h=>⟨h,lC _,λi=>⟨rfl,i,λc j=>by simp at j⟩,λi=>oi i⟩
 |c::b,s,m,hd,h=>by
  rw[lR];have B:∀c∈b,c∈e/\p c.head.name=n:=λx o=>hd x (by simp[o])
  obtain⟨j,v⟩:=hd c (by simp);have t:∀f∈W.new c s,f∉s/\∃σ,(∀x∈Al c,Cg (Bm σ) (Ed σ) s x=jj)/\f=Bm σ c.head:=λf a=>Un (q.parts c j) (q.sizes k r h j) a
  obtain⟨C,P⟩:=LA k h j v (W.new c s) s (λf a=>(t f a).2) h (λf a=>a) (λf a=>oi a);cases hl:W.new c s with
  |nil=>
   (have y:J4 W (s,m) c=(s,m):=by unfold J4;simp only;rw[hl];simp);rw[y];obtain⟨w,z,u,A⟩:=OX q k r b s m B h;refine⟨w,z,λi=>?_,A⟩;obtain⟨D,I,E⟩:=u i;refine⟨D,I,λx o=>?_⟩;rcases kZ.1 o with rfl|o
   .exact hl
   .exact E x o
  |cons f l=>
   have a:=t f (by rw[hl];simp);(have y:J4 W (s,m) c=((W.new c s).foldl A3 s,jj):=by unfold J4;simp only;rw[hl];simp);rw[y];obtain⟨w,z,u,A⟩:=OX q k r b _ jj B C;have N:Z s<Z ((W.new c s).foldl A3 s):=by
    rw[hl,lR];have M:=(Lt s f).2 a.1;obtain⟨σ,H,rfl⟩:=a.2;obtain⟨G,q2,q3⟩:=ZU k h h (λf a=>a) (λf a=>oi a) j v H;have L:=(LA k h j v l _ (λg F=>(t g (by rw[hl];simp[F])).2) G q2 q3).2;omega
   refine⟨w,by omega,λi=>?_,λi=>oj (by omega)⟩;have:=(u i).2.1;cases this
def b8{W:Xc}{a:pM A4}{e:zA->Nat}(l:Sz W a)(r:Ny a e)(w:∀c∈a,∀d∈a,c.head.name=d.head.name->Z c.head.args=Z d.head.args){b:pM A4}(o:∀c,c∈b↔c∈a/\e c.head.name=n){s:pM Af}(h:GF a e n s):
  GF a e n (Gc W b s).1/\((Gc W b s).2=K->(Gc W b s).1=s/\GF a e (n+1) s)/\
   ((Gc W b s).2=jj->Z s<Z (Gc W b s).1)/\Z (Gc W b s).1<=Z (So a):=by
 unfold Gc;obtain⟨q,B,x,y⟩:=OX l r w b s K (λc g=>(o c).1 g) h;refine⟨q,λm=>?_,λm=>?_,q.len r.zL⟩
 .obtain⟨t,_,u⟩:=x m;refine⟨t,h.work.next (FR a) (λf=>e f.name) ?_,h.zM,h.zW⟩;rintro i ⟨c,g,σ,A,rfl⟩ z v;have j:=(Gl c σ s).2 ⟨v,A⟩;rcases eM (l.parts c g) (S6 (l.al c g s) (l.parts c g).lits) j with k|k
  .exact k
  .have p:W.new c s=[]:=u c ((o c).2 ⟨g,z⟩);unfold Xc.new at p;rw[p]at k;simp at k
 .rcases y m with j|j
  .cases j
  .exact j
def Gf(L:zA->Nat)(n:Nat)(x:Br):Nat:=if x.kind==97 then max n (L x.A.name)else if x.kind==33 then max n (L x.A.name+1)else n
def G5(L:zA->Nat)(body:pM Br):Nat:=body.foldl (Gf L) 0
def P4(L:zA->Nat)(k:zA)(n:Nat):zA->Nat:=λx=>if x.toList==k.toList then n else L x
def EL(a:(zA->Nat)×Bool)(c:A4):(zA->Nat)×Bool:=if a.1 c.head.name<G5 a.1 (Al c)then(P4 a.1 c.head.name (G5 a.1 (Al c)),jj)else a
def Mm(cs:pM A4)(L:zA->Nat):(zA->Nat)×Bool:=cs.foldl EL (L,K)
def EB(cs:pM A4)(L:zA->Nat):Nat:=(cs.map λc=>L c.head.name).sum
def Ho(L:zA->Nat)(k:zA)(n:Nat):P4 L k n k=n:=by unfold P4;simp
def JQ{L:zA->Nat}(n:Nat)(h:t≠s):P4 L s n t=L t:=by
 unfold P4;rw[li (λa=>h (toList_inj (by simpa using a)))]
def OU(L:zA->Nat):∀(a:pM Br) (n:Nat),n<=a.foldl (Gf L) n/\∀x∈a,((x.kind==97)=jj->L x.A.name<=a.foldl (Gf L) n)/\((x.kind==33)=jj->L x.A.name<a.foldl (Gf L) n)
 |[],n=>⟨lC _,λx c=>by simp at c⟩
 |y::a,n=>by
  rw[lR];obtain⟨k,i⟩:=OU L a (Gf L n y);have e:n<=Gf L n y/\((y.kind==97)=jj->L y.A.name<=Gf L n y)/\((y.kind==33)=jj->L y.A.name<Gf L n y):=by
   unfold Gf;by_cases b:(y.kind==97)=jj
   .rw[ln b];refine⟨by omega,λ_=>by omega,λj=>?_⟩;(have g:y.kind=97:=by simpa using b);(have f:y.kind=33:=by simpa using j);rw[g]at f;exact absurd f (by decide)
   .rw[li b];by_cases d:(y.kind==33)=jj
    .rw[ln d];exact⟨by omega,λh=>absurd h b,λ_=>by omega⟩
    .rw[li d];exact⟨by omega,λh=>absurd h b,λh=>absurd h d⟩
  refine⟨by omega,λx c=>?_⟩;rcases kZ.1 c with rfl|c
  .exact⟨λh=>by have:=e.2.1 h;omega,λh=>by have:=e.2.2 h;omega⟩
  .exact i x c
def OI{L:zA->Nat}{b:Nat}:∀(a:pM Br) (n:Nat),n<=b->(∀x∈a,((x.kind==97)=jj->L x.A.name<=b)/\((x.kind==33)=jj->L x.A.name<b))->a.foldl (Gf L) n<=b
 |[],n,hn,_=>hn
 |y::a,n,hn,h=>by
  rw[lR];refine OI a _ ?_ (λx g=>h x (by simp[g]));obtain⟨f,e⟩:=h y (by simp);unfold Gf;by_cases c:(y.kind==97)=jj
  .rw[ln c];have:=f c;omega
  .rw[li c];by_cases d:(y.kind==33)=jj
   .rw[ln d];have:=e d;omega
   .rw[li d];exact hn
def Zs{cs:pM A4}{L a:zA->Nat}(h:∀x,L x<=a x):EB cs L<=EB cs a:=by
 unfold EB
 induction cs with
 |nil=>simp
 |cons c cs ih=>
  simp only[lE,List.sum_cons];have:=h c.head.name;omega
def fN{cs:pM A4}{L b:zA->Nat}(h:∀x,L x<=b x){c:A4}(a:c∈cs)(f:L c.head.name<b c.head.name):EB cs L<EB cs b:=by
 induction cs with
 |nil=>simp at a
 |cons d cs ih=>
  have i:=h d.head.name;have g:=Zs (cs:=cs) h;have e:∀M,EB (d::cs) M=M d.head.name+EB cs M:=λM=>by unfold EB;simp
  rw[e,e];rcases kZ.1 a with rfl|a
  .omega
  .have:=ih a;omega
def Kd{e:pM A4}{g:zA->Nat}(j:CR e g):∀(b:pM A4) (L:zA->Nat) (m:Bool),(∀c∈b,c∈e)->(∀x,L x<=g x)->
  (∀x,L x<=(b.foldl EL (L,m)).1 x)/\(∀x,(b.foldl EL (L,m)).1 x<=g x)/\
   ((b.foldl EL (L,m)).2=K->(b.foldl EL (L,m)).1=L/\m=K/\∀c∈b,G5 L (Al c)<=L c.head.name)/\
   ((b.foldl EL (L,m)).2=jj->m=jj\/EB e L<EB e (b.foldl EL (L,m)).1)
 |[],L,m,_,h=>⟨λx=>lC _,h,λd=>⟨rfl,d,λc i=>by simp at i⟩,λd=>oi d⟩
 |c::b,L,m,hd,h=>by
  rw[lR];have s:∀c∈b,c∈e:=λx a=>hd x (by simp[a])
  have i:=hd c (by simp);by_cases p:L c.head.name<G5 L (Al c)
  ·(have o:EL (L,m) c=(P4 L c.head.name (G5 L (Al c)),jj):=by unfold EL;rw[ln p]);rw[o];have q:∀x,L x<=P4 L c.head.name (G5 L (Al c)) x:=by
    intro x;by_cases a:x=c.head.name
    .subst a;rw[Ho];omega
    .rw[JQ _ a];exact lC _
   have v:G5 L (Al c)<=g c.head.name:=by
    refine OI _ _ (lz _) (λx a=>⟨λl=>?_,λl=>?_⟩)
    .exact mp (h _) (j.pos c i x a l)
    .exact Nat.lt_of_le_of_lt (h _) (j.neg c i x a l)
   have y:∀x,P4 L c.head.name (G5 L (Al c)) x<=g x:=by
    intro x;by_cases a:x=c.head.name
    .subst a;rw[Ho];exact v
    .rw[JQ _ a];exact h x
   obtain⟨f,k,n,r⟩:=Kd j b _ jj s y;refine⟨λx=>mp (q x) (f x),k,λd=>?_,λd=>oj ?_⟩
   .have:=(n d).2.1;cases this
   .refine fN (λx=>mp (q x) (f x)) i ?_;have w:=f c.head.name;rw[Ho]at w;omega
  ·(have o:EL (L,m) c=(L,m):=by unfold EL;rw[li p]);rw[o];obtain⟨f,k,n,r⟩:=Kd j b L m s h;refine⟨f,k,λd=>?_,r⟩;obtain⟨t,z,u⟩:=n d;refine⟨t,z,λx a=>?_⟩;rcases kZ.1 a with rfl|a
   .omega
   .exact u x a
def YU{a:pM A4}{e:zA->Nat}(p:CR a e){L:zA->Nat}(h:∀x,L x<=e x):
  (∀x,(Mm a L).1 x<=e x)/\((Mm a L).2=K->(Mm a L).1=L/\CR a L)/\((Mm a L).2=jj->EB a L<EB a (Mm a L).1)/\EB a (Mm a L).1<=EB a e:=by
 unfold Mm;obtain⟨_,k,n,o⟩:=Kd p a L K (λc d=>d) h;refine⟨k,λf=>?_,λf=>?_,Zs k⟩
 .obtain⟨m,_,l⟩:=n f;refine⟨m,λc d x j g=>?_,λc d x j g=>?_⟩
  .have b:=((OU L (Al c) 0).2 x j).1 g;have i:G5 L (Al c)<=L c.head.name:=l c d;exact mp b i
  .have b:=((OU L (Al c) 0).2 x j).2 g;have i:G5 L (Al c)<=L c.head.name:=l c d;exact mX b i
 .rcases o f with b|b
  .cases b
  .exact b
def Dw(acc:pM UInt8)(t:AK):pM UInt8:=if(t.v !=0&& !acc.contains t.v)=jj then acc++[t.v] else acc
def Dz(acc:pM UInt8)(ts:pM AK):pM UInt8:=ts.foldl Dw acc
def Es:∀(f:pM AK) (c:pM UInt8),c.Nodup->(∃r,Dz c f=c++r)/\(Dz c f).Nodup/\∀v,v∈Dz c f↔v∈c\/(v≠0/\∃t∈f,t.v=v)
 |[],c,h=>⟨⟨[],by simp[Dz]⟩,h,λv=>by simp[Dz]⟩
 |t::f,c,h=>by
  have e:Dz c (t::f)=Dz (Dw c t) f:=rfl;rw[e];by_cases i:(t.v !=0&& !c.contains t.v)=jj
  ·(have m:Dw c t=c++[t.v]:=by unfold Dw;rw[ln i]);rw[m];rw[lJ]at i;have y:t.v∉c:=by
    intro j;have:=i.2;rw[oK.2 j]at this;cases this
   (have w:t.v≠0:=by simpa using i.1);have x:(c++[t.v]).Nodup:=by
    rw[oe];refine⟨h,by simp,λa n b o s=>?_⟩;rw[kY]at o;subst o;rw[s]at n;exact y n
   obtain⟨⟨r,p⟩,k,l⟩:=Es f (c++[t.v]) x;refine⟨⟨t.v::r,by rw[p];simp⟩,k,λv=>?_⟩;rw[l,lw,kY];constructor
   .rintro ((h|h)|⟨h,u,d,g⟩)
    .exact oi h
    .subst h;exact oj ⟨w,t,by simp,rfl⟩
    .exact oj ⟨h,u,by simp[d],g⟩
   .rintro (h|⟨h,u,d,g⟩)
    .exact oi (oi h)
    .rcases kZ.1 d with rfl|d
     .exact oi (oj g.symm)
     .exact oj ⟨h,u,d,g⟩
  ·(have m:Dw c t=c:=by unfold Dw;rw[li i]);rw[m];obtain⟨q,k,l⟩:=Es f c h;refine⟨q,k,λv=>?_⟩;rw[l];constructor
   .rintro (h|⟨h,u,d,g⟩)
    .exact oi h
    .exact oj ⟨h,u,by simp[d],g⟩
   .rintro (h|⟨h,u,d,g⟩)
    .exact oi h
    .rcases kZ.1 d with rfl|d
     .left;subst g;rw[lJ]at i;cases j:c.contains u.v with
      |true=>exact oK.1 j
      |false=>exact absurd ⟨by simpa using h,by rw[j];rfl⟩ i
     .exact oj ⟨h,u,d,g⟩
def CA(c:A4):pM UInt8:=Dz [] c.head.args
def Dp(c:A4):pM UInt8:=(Dz [] (c.head.args++(Al c).flatMap Bu)).drop (Z (CA c))
def O0(c:A4):Dz [] (c.head.args++(Al c).flatMap Bu)=CA c++Dp c:=by
 have e:Dz [] (c.head.args++(Al c).flatMap Bu)=Dz (CA c) ((Al c).flatMap Bu):=by
  unfold Dz CA Dz;rw[mi]
 obtain⟨⟨r,a⟩,_,_⟩:=Es ((Al c).flatMap Bu) (CA c) (Es c.head.args [] nG).2.1;unfold Dp;rw[e,a,List.drop_left]
def XA{o:pM A4}(m:Rn o){c:A4}(n:c∈o)(w:∀x∈Al c,Db x):SU c (CA c) (Dp c):=by
 have i:=Es (c.head.args++(Al c).flatMap Bu) [] nG;have z:=Es c.head.args [] nG;rw[O0]at i;have k:∀t,t.v≠0->E8 (Al c) t->∃x∈Al c,(x.kind==97)=jj/\∃u∈x.A.args,u.v=t.v:=by
  intro t b r;rcases r with h|h
  .exact absurd h b
  .exact h
 have s:∀v,v∈CA c\/v∈Dp c->∃x∈Al c,(x.kind==97)=jj/\∃u∈x.A.args,u.v=v:=by
  intro v g;have d:=(i.2.2 v).1 (lw.2 g);rcases d with d|⟨b,t,a,rfl⟩
  .simp at d
  .rcases lw.1 a with a|a
   .exact k t b (m.head c n t a)
   .obtain⟨x,e,a⟩:=ma.1 a;by_cases f:(x.kind==97)=jj
    .unfold Bu at a;rw[f,ox,ln rfl]at a;exact⟨x,e,f,t,a,rfl⟩
    .have q:=m.safe c n x e (by simpa using f);unfold Bu at a;by_cases j:(x.kind==33)=jj
     .rw[j,oY,ln rfl]at a;exact k t b (q.1 j t a)
     .rw[li (by rw[mP,not_or];exact⟨f,j⟩)]at a;obtain⟨s1,s2⟩:=q.2 (by simpa using j);rcases kZ.1 a with rfl|a
      .exact k _ b s1
      .rw[kY]at a;subst a;exact k _ b s2
 refine⟨λv g=>?_,?_,?_,?_,λx e=>(w x e).yh⟩
 .obtain⟨x,e,f,u,p,l⟩:=s v g;refine⟨?_,x,e,f,u,p,l⟩;have d:=(i.2.2 v).1 (lw.2 g);have b:v≠0:=by
   rcases d with d|d
   .simp at d
   .exact d.1
  rcases m.args c n x e f u p with h|h
  .rw[l]at h;exact absurd h.1 b
  .rw[l]at h;exact h
 .intro v g y;have:=(oe.1 i.2.1).2.2 v g v y;exact this rfl
 .intro t a;by_cases b:t.v=0
  .exact oi b
  .exact oj ((z.2.2 t.v).2 (oj ⟨b,t,a,rfl⟩))
 .intro x e t a;by_cases b:t.v=0
  .exact oi b
  .right;exact lw.1 ((i.2.2 t.v).2 (oj ⟨b,t,lw.2 (oj (ma.2 ⟨x,e,a⟩)),rfl⟩))
def Dj.zs{a:pM A4}(h:Dj a):∀c∈a,DG a c.head.name=(Z c.head.args:Int):=by
 intro c b;obtain⟨k,d,rfl⟩:=lX b;exact(FV (h.each k d)).2.2.2.2.2.1
def Dj.arBody{a:pM A4}(h:Dj a):∀c∈a,∀x∈Al c,(x.kind==97)=jj->DG a x.A.name=(Z x.A.args:Int):=by
 intro c g x i e;obtain⟨k,f,rfl⟩:=lX g;obtain⟨p,d,rfl⟩:=lk.1 i;have b:=(m7.1 (FV (h.each k f)).2.2.2.2.2.2.1) p d;unfold BV MF at b;rw[e,ox,mR]at b;simpa using b
def Dj.ar2{a:pM A4}(h:Dj a):∀c∈a,∀d∈a,c.head.name=d.head.name->Z c.head.args=Z d.head.args:=by
 intro c f d b e;have g:=h.zs c f;rw[e,h.zs d b]at g;omega
def Dj.ar3{a:pM A4}(h:Dj a):∀c∈a,∀d∈a,∀x∈Al d,(x.kind==97)=jj->c.head.name=x.A.name->Z c.head.args=Z x.A.args:=by
 intro c i d b x j f e;have g:=h.zs c i;rw[e,h.arBody d b x j f]at g;omega
def Se(a:pM A4):∀(d:Nat) (x:zA),B5 a d x<=d
 |0,x=>lC 0
 |d+1,x=>by
  by_cases h:0<B5 a (d+1) x
  .obtain⟨y,b,e,f⟩:=Ru a d x h;have g:b<=1:=by
    obtain⟨c,_,_,l,_,_,h|h⟩:=e<;>omega
   have:=Se a d y;omega
  .omega
structure Cf(cs:pM A4):Prop where
 order:Dj cs
 prog:Ny cs (B5 cs 6)
 lits:∀c∈cs,∀x∈Al c,Db x
 zL:∀c∈cs,Mq c.head
def C7{d:pM A4}(h:(An s (Ae s 0)).2.2=K)(a:d.map A4.erase=(An s (Ae s 0)).1)(e:CJ d=(0,0)):Cf d:=
 ⟨Up e,cK h a e,λc b=>(L2 h a c b).2,λc b=>(L2 h a c b).1⟩
def EN(al:A4->pM Af->UInt8->pM zA->pM zA):Xc:=⟨CA,Dp,al⟩
def Cf.ways{a:pM A4}(h:Cf a){b:A4->pM Af->UInt8->pM zA->pM zA}(e:∀c∈a,∀s,PY (b c s) (Al c) s):Sz (EN b) a:=
 ⟨λc d=>XA h.prog.zK d (h.lits c d),e,h.order.ar3⟩
def Cf.other(h:Cf c){L:zA->Nat}(a:CR c L):Ny c L:=⟨h.prog.zK,a,h.prog.zL⟩
def Cf.grow{a:pM A4}(h:Cf a){al:A4->pM Af->UInt8->pM zA->pM zA}(b:∀c∈a,∀f,PY (al c f) (Al c) f){L:zA->Nat}(e:CR a L){ds:pM A4}(d:∀c,c∈ds↔c∈a/\L c.head.name=n)(g:GF a L n f):
  GF a L n (Gc (EN al) ds f).1/\((Gc (EN al) ds f).2=K->(Gc (EN al) ds f).1=f/\GF a L (n+1) f)/\
   ((Gc (EN al) ds f).2=jj->Z f<Z (Gc (EN al) ds f).1)/\Z (Gc (EN al) ds f).1<=Z (So a):=
 b8 (h.ways b) (h.other e) h.order.ar2 d g
def Cf.round(h:Cf c)(a:GF c (B5 c 6) n f):
  GF c (B5 c 6) n (Dq c (B5 c 6) n f).1/\((Dq c (B5 c 6) n f).2=K->(Dq c (B5 c 6) n f).1=f/\GF c (B5 c 6) (n+1) f)/\
   ((Dq c (B5 c 6) n f).2=jj->Z f<Z (Dq c (B5 c 6) n f).1)/\Z (Dq c (B5 c 6) n f).1<=Z (So c):=
 Ib h.prog a
def Cf.one{a:pM A4}(h:Cf a){s t:pM Af}(d:GF a (B5 a 6) 7 s){L:zA->Nat}(f:CR a L)(b:GF a L n t)(e:∀c∈a,L c.head.name<n):s=t:=
 gM h.prog (h.other f) d b (λc _=>by have:=Se a 6 c.head.name;omega) e
def DP:zA->Bool->pM zA->zA
 |s,_,[]=>s
 |s,b,x::l=>DP (s++(if b then⟨#[44]⟩else⟨#[40]⟩)++BZ x) jj l
def Fq(p:C4):zA:=DP p.name K p.zC++⟨#[41,46]⟩
def U6:zA->pM C4->zA
 |t,[]=>t
 |t,p::l=>U6 (t++Fq p++⟨#[10]⟩) l
def WN:zA->pM Af->zA
 |t,[]=>t
 |t,f::l=>WN (t++BN f++⟨#[10]⟩) l
def PG:∀(l:pM zA) (s:zA),(∀x∈l,A8 x)->DP s jj (l.map AE)=F4 s jj l
 |[],s,_=>rfl
 |x::l,s,h=>by
  rw[lE,DP,F4,Gr (h x (by simp)),PG l _ (λy a=>h y (by simp[a]))];simp
def O7{f:Af}(h:AL f)(b:f.args≠[]):Fq (BU f)=BN f:=by
 unfold Fq BN BU;simp only;cases hl:f.args with
 |nil=>exact absurd hl b
 |cons x l=>
  have a:∀y∈x::l,A8 y:=by rw[<-hl];exact h
  rw[lE,DP,F4,Gr (a x (by simp)),PG l _ (λy c=>a y (by simp[c]))];simp
def RU:∀(l:pM Af) (t:zA),(∀f∈l,AL f/\f.args≠[])->U6 t (l.map BU)=WN t l
 |[],t,_=>rfl
 |f::l,t,h=>by
  obtain⟨a,c⟩:=h f (by simp);rw[lE,U6,WN,O7 a c,RU l _ (λg b=>h g (by simp[b]))]
def fu:∀(l:pM Bv) (t:zA),Ow t l=WN t (l.map Bv.f)
 |[],t=>rfl
 |p::l,t=>by rw[Ow,lE,WN,fu l]
def eE(s:zA)(a:Nat):(CE s a).1≠[]:=by
 rw[CE];split<;>simp
def dW(h:(AZ s n K).2.2=K):(AZ s n K).1.args≠[]:=by
 unfold AZ at h⊢;simp only at h⊢;have a:=I8 h;unfold Ev at a⊢;cases hm:(By s (A9 s (AQ s n K) K).2.1 (A9 s (AQ s n K) K).2.2 40).2 with
 |true=>rw[hm,ln rfl]at a;cases a
 |false=>rw[li (by simp)];exact eE _ _
def Qr(h:(Ao s n).2.2=K):(Ao s n).1.head.args≠[]:=by
 unfold Ao at h⊢;simp only at h⊢;exact dW (J3 (I8 h)).1
def VZ{s:zA}{b:Nat}(h:(An s b).2.2=K):∀c∈(An s b).1,c.head.args≠[]:=by
 fun_induction An s b with
 |case1 b ha hc ih=>
  intro c a;rcases kZ.1 a with rfl|a
  .exact Qr hc.1
  .exact ih h c a
 |case2 b ha hc=>
  intro c a;rw[kY]at a;subst a;exact Qr h
 |case3 b ha=>intro c a;cases a
def R2{a:pM A4}(h:(An s n).2.2=K)(e:a.map A4.erase=(An s n).1):∀c∈a,c.head.args≠[]:=by
 intro c d;have b:c.erase∈(An s n).1:=by rw[<-e];exact lB d
 exact VZ h _ b
def Cf.text{a:pM A4}(h:Cf a)(j:∀c∈a,c.head.args≠[]){i:pM Bv}(m:GF a (B5 a 6) 7 (i.map Bv.f)){L:zA->Nat}(k:CR a L){t:pM Af}(b:GF a L n t)(o:∀c∈a,L c.head.name<n):
  U6 pF (t.map BU)=Ow pF i:=by
 have e:=h.one m k b o;rw[fu,e];refine RU t _ (λf d=>⟨(b.zW f d).canon h.prog.zL,λl=>?_⟩);obtain⟨c,p,_,g⟩:=(b.zW f d).zb;rw[l]at g;exact j c p (oD g.symm)
structure Df(fs:pM Fa)(s:pM Af):Prop where
 same:fs.map Fa.f=s.map BU
 zM:Eb s
 canon:∀f∈s,AL f
def Eb.pad{s:pM Af}(d:Eb s)(c:∀f∈s,AL f):(s.map BU).Pairwise λa b=>CP a b<0:=by
 rw[nD];exact nz (fun{a b} ha hb hab=>(Ec (c a ha) (c b hb)).1 hab) d
def Df.pair{c:pM Fa}{s:pM Af}(h:Df c s):c.Pairwise λa b=>CP a.f b.f<0:=by
 have:=h.zM.pad h.canon;rw[<-h.same,nD]at this;exact this
def WX(a:C4):¬CP a a<0:=by
 have:CP a a=0:=(GB a a).2 rfl;omega
def Df.mono{a:pM Fa}{s:pM Af}(h:Df a s)(x:C4):∀i j (d:i<Z a) (c:j<Z a),i<=j->CP a[j].f x<0->CP a[i].f x<0:=by
 intro i j d c g e;rcases ow g with b|b
 .exact Iu (nk.1 h.pair i j d c b) e
 .subst b;exact e
def Df.mem{a:pM Fa}{s:pM Af}(h:Df a s){f:Af}(c:AL f):(∃p∈a,p.f=BU f)↔f∈s:=by
 have e:(∃p∈a,p.f=BU f)↔BU f∈a.map Fa.f:=by rw[lk]
 rw[e,h.same,lk];constructor
 .rintro ⟨g,b,e⟩;rw[<-N9 (h.canon g b) c e];exact b
 .intro d;exact⟨f,d,rfl⟩
def Df.yD{a:pM Fa}{s:pM Af}(h:Df a s){f:Af}(l:AL f)(k:Gs a (BU f) n):ER a (BU f) n=C3 s f:=by
 have r:ER a (BU f) n=jj↔C3 s f=jj:=by
  rw[BK,<-h.mem l];unfold ER;constructor
  .intro c;split at c
   .rename_i b;exact⟨a[n],kV b,(GB _ _).1 (by simpa using c)⟩
   .cases c
  .rintro ⟨q,o,e⟩;obtain⟨j,i,rfl⟩:=lX o;have m:n<=j:=by
    by_cases c:j<n
    .have:=k.below j i c;rw[e]at this;exact absurd this (WX _)
    .omega
   (have b:n<Z a:=by omega);rw[dif_pos b];rcases ow m with d|d
   .have g:=nk.1 h.pair n j b i d;rw[e]at g;exact absurd g (k.zh n b (lC _))
   .subst d;rw[e];simpa using(GB _ _).2 rfl
 cases d:ER a (BU f) n<;>cases g:C3 s f<;>simp_all
def Df.z6{d:pM Fa}{s:pM Af}(h:Df d s){x:Fa}{f:Af}(u:x.f=BU f)(l:AL f)(v:Gs d (BU f) n)(A:ER d (BU f) n=K):Df (d.take n++x::d.drop n) (A3 s f):=by
 obtain⟨a,b,m⟩:=CZ l h.zM h.canon;refine⟨?_,a,b⟩;have D:f∉s:=λG=>by rw[h.yD l v,(BK _ _).2 G]at A;cases A
 refine Il (lt:=λa b=>CP a b<0) WX (λa b c=>Iu) _ _ ?_ (a.pad b) (λy=>?_)
 .rw[nD,oP];have B:=h.pair;have F:=B.take (i:=n);have C:=B.drop (i:=n);have w:∀q∈d.take n,CP q.f x.f<0:=by
   intro q j;obtain⟨i,t,rfl⟩:=lX j;rw[l9]at t;rw[od,u];exact v.below i (by omega) (by omega)
  have z:∀q∈d.drop n,CP x.f q.f<0:=by
   intro q j;obtain⟨i,t,rfl⟩:=lX j;rw[mf]at t;rw[oM,u];have L:=v.zh (n+i) (by omega) (by omega);(have I:CP d[n+i].f (BU f)≠0:=λe=>D ((h.mem l).1 ⟨_,kV _,(GB _ _).1 e⟩));exact(aj _ _).1 (by omega)
  refine⟨F,mY.2 ⟨z,C⟩,λq j r o=>?_⟩;rcases kZ.1 o with rfl|o
  .exact w q j
  .exact Iu (w q j) (z r o)
 .have H:y∈(d.take n++x::d.drop n).map Fa.f↔y=x.f\/y∈d.map Fa.f:=by
   (have E:d.map Fa.f=(d.take n).map Fa.f++(d.drop n).map Fa.f:=by rw[<-lV,mt]);rw[E];simp only[lV,lE,lw,kZ];constructor
   .rintro (h|h|h)
    .exact oj (oi h)
    .exact oi h
    .exact oj (oj h)
   .rintro (h|h|h)
    .exact oj (oi h)
    .exact oi h
    .exact oj (oj h)
  rw[H,h.same,lk,lk,u];constructor
  .rintro (rfl|⟨g,k,rfl⟩)
   .exact⟨f,(m f).2 (oj rfl),rfl⟩
   .exact⟨g,(m g).2 (oi k),rfl⟩
  .rintro ⟨g,k,rfl⟩;rcases(m g).1 k with k|rfl
   .exact oj ⟨g,k,rfl⟩
   .exact oi rfl
def fb(l:pM zA):¬EP l []<0:=by
 cases l<;>simp[EP]
def NR(a:C4)(n:zA):CP a ⟨n,[]⟩<0↔DU a.name n<0:=by
 unfold CP;simp only;split
 .rename_i h;constructor
  .intro b;exact absurd b (fb _)
  .intro b;omega
 .exact Iff.rfl
def JN{α:Type}{p:α->Bool}:∀(l:pM α),l.Pairwise (λa b=>p b=jj->p a=jj)->l.takeWhile p=l.filter p
 |[],_=>rfl
 |x::l,h=>by
  rw[mY]at h;rw[List.takeWhile_cons,mW];cases hx:p x with
  |true=>rw[ln rfl,ln rfl,JN l h.2]
  |false=>
   rw[li (by simp),li (by simp)];refine(oH.2 (λy d c=>?_)).symm;rw[h.1 y d c]at hx;cases hx
def P8(n:zA)(q:Fa):Bool:=q.f.name.toList==n.toList
def WD(x:zA):zA:=if U4 x then x else AE x
def Bn(e:pM zA):pM zA:=e.map WD
def SA(x:zA):Prop:=x.size=0\/A8 x
def aN:U4 pF=jj:=(D5 _).2 rfl
def Qp:WD pF=pF:=by unfold WD;rw[aN,ln rfl]
def CK(h:A8 s):WD s=AE s:=by
 unfold WD;cases he:U4 s with
 |true=>exact absurd ((D5 _).1 he) h.size
 |false=>rfl
def cj(h:A8 s):(AE s).size≠0:=by
 rcases h with⟨c,r,e,a,b⟩|h
 .rw[Fu e a,AY,e];simp
 .rw[AY,Ge h];rcases Fl h with⟨c,e,_⟩|⟨c,d,e,_⟩|⟨c,d,f,e,_⟩<;>rw[e]<;>simp
def fD(h:SA s):U4 (WD s)=U4 s:=by
 rcases h with h|h
 .have:U4 s=jj:=(D5 _).2 h;unfold WD;rw[this,ln rfl,this]
 .have a:U4 s=K:=by
   cases he:U4 s with
   |true=>exact absurd ((D5 _).1 he) h.size
   |false=>rfl
  rw[CK h,a];cases he:U4 (AE s)with
  |true=>exact absurd ((D5 _).1 he) (cj h)
  |false=>rfl
def QY(b:pM zA)(t:AK):zA:=if t.v=0 then WD t.s else b.getD (t.v.toNat-65) pF
def Er(e:pM zA)(t:AK):QY (Bn e) t=WD (AI e t):=by
 unfold QY AI Bn;by_cases a:t.v=0
 .rw[ln a,ln a]
 .rw[li a,li a,lq,lq,mA];cases e[t.v.toNat-65]? with
  |none=>exact Qp.symm
  |some x=>rfl
def gN(e:pM zA)(j:Nat)(h:A8 s):Bn (e.set j s)=(Bn e).set j (AE s):=by
 unfold Bn;rw[px,CK h]
def SW(b:pM zA)(ts:pM AK)(xs:pM zA):Bool:=(ts.zip xs).all λp=>U4 (QY b p.1)||(QY b p.1).toList==p.2.toList
def Ut{e:pM zA}:∀(a:pM AK) (b:pM zA),(∀t∈a,SA (AI e t))->(∀x∈b,A8 x)->SW (Bn e) a (b.map AE)=Rs e a b
 |[],b,_,_=>by simp[SW,Rs]
 |t::a,[],_,_=>by simp[SW,Rs]
 |t::a,x::b,ht,hx=>by
  have ih:=Ut a b (λu f=>ht u (by simp[f])) (λy d=>hx y (by simp[d]));unfold SW Rs at ih⊢;rw[lE,ph,ph,oz,oz,ih]
  congr 1
  simp only;rw[Er,fD (ht t (by simp))];cases he:U4 (AI e t)with
  |true=>rfl
  |false=>
   rw[nI,nI];have c:A8 (AI e t):=by
    rcases ht t (by simp)with h|h
    .rw[(D5 _).2 h]at he;cases he
    .exact h
   rw[CK c];have g:((AE (AI e t)).toList==(AE x).toList)=jj↔((AI e t).toList==x.toList)=jj:=by
    rw[EH,EH];exact⟨λh=>Gp c (hx x (by simp)) h,λh=>by rw[h]⟩
   cases h1:((AE (AI e t)).toList==(AE x).toList)<;>cases h2:((AI e t).toList==x.toList)<;>simp_all
def RP(b:pM zA)(ts:pM AK):Bool:=ts.all λt=> !U4 (QY b t)
def Nt{e:pM zA}:∀(a:pM AK),(∀t∈a,SA (AI e t))->RP (Bn e) a=DK e a
 |[],_=>rfl
 |t::a,h=>by
  have ih:=Nt a (λu b=>h u (by simp[b]));unfold RP DK at ih⊢;rw[oz,oz,ih,Er,fD (h t (by simp))]
def Xb{l r:AK}(a:A8 (AI e l))(b:A8 (AI e r)):((QY (Bn e) l).toList==(QY (Bn e) r).toList)=((AI e l).toList==(AI e r).toList):=by
 rw[Er,Er,CK a,CK b];have c:((AE (AI e l)).toList==(AE (AI e r)).toList)=jj↔((AI e l).toList==(AI e r).toList)=jj:=by
  rw[EH,EH];exact⟨λh=>Gp a b h,λh=>by rw[h]⟩
 cases h1:((AE (AI e l)).toList==(AE (AI e r)).toList)<;>cases h2:((AI e l).toList==(AI e r).toList)<;>simp_all
def dM{l r:AK}(a:A8 (AI e l))(b:A8 (AI e r)):pK (QY (Bn e) l).toList (QY (Bn e) r).toList=Gb (AI e l) (AI e r):=by
 rw[Er,Er,CK a,CK b];exact Ip a b
def P2(t:AW):Prop:=t.v=0\/(65<=t.v/\t.v<=90)
def BH(b:pM zA)(t:AW):zA:=fJ b t.v.toNat t.s
def GT(b:pM zA)(ts:pM AW):Bool:=ts.all λt=> !U4 (BH b t)
def LN(a d:Nat)(b:pM zA)(t:AW)(w:py)(i:Z b=26)(g:AF w a (Aj b) d)(c:P2 t):
  Calls prog 180 #[m2 (V ⟨a,0,Y⟩),pC #[X pD t.v,O t.s]] w λr f=>r=oa (O (BH b t))/\Ac [] w f:=by
 have h:=QS a d b t.v.toNat t.s w i g (by rcases c with h|h<;>omega);have e:((t.v.toNat:Nat):Int)=t.v:=by rcases c with h|h<;>omega
 rw[e]at h;exact h
theorem Wp(j H:Nat)(b:pM zA)(E:Option Addr)(M:Nat)(a:pM AW)(S:Nat)(w:py)(W:Z b=26)(P:AF w j (Aj b) H)(G:p9 w S 215 2 (U E (Z a) M) (Z a) (a.flatMap Ar))(A2:Z a<=100000)(c:∀t∈a,P2 t):
  Calls prog 204 #[m2 (V ⟨j,0,Y⟩),U E (Z a) M] w λr p=>r=oa (pE (GT b a))/\Ac [] w p:=by
 obtain⟨R,y⟩:=pN (GT b a);rw[y];have e:p7 ((a.drop 0).all (λt=> !U4 (BH b t))=R):=y;have HT:p7 (∀t∈a,∀f,Ac [] w f->Calls prog 180 #[m2 (V ⟨j,0,Y⟩),pC #[X pD t.v,O t.s]] f λr p=>r=oa (O (BH b t))/\Ac [] f p):=λt Q f A=>LN j H b t f W (P.kept A) (c t Q)
 have AO:=Ab G;clear y G c P;go_enter func204,ntmps204;go_wp2_with fail
 go_loopg [9] (Z a) (λgk i wr=>∃(k:Nat),i=X J k/\k<=Z a/\gk=Z a-k/\p7 ((a.drop k).all (λt=> !U4 (BH b t))=R)/\p7 (Ac [] w wr))
 case atStart=>exact⟨0,rfl,by omega,rfl,e,pO _ _⟩
 case round=>
  clear e;obtain⟨k,rfl,A,D,e,n⟩:=hrel;have HG:=Ab D;clear D;by_cases o:k<Z a
  .obtain⟨g,A1,I,F,C⟩:=Fp (Ad AO n) k o;simp only[kS]at I;obtain⟨rfl,_,rfl⟩:=I;obtain⟨T,l⟩:=pN (a[k]);have x:=Ab (n.alloc (j3 #[X pD T.v,O T.s] 215));have u:=Ab (HT T (by rw[<-l];exact kV o) _ x);have m:p7 ((!U4 (BH b T)&&(a.drop (k+1)).all (λt=> !U4 (BH b t)))=R):=by
    have h:=Aa e;rw[lD o,oz,l]at h;exact h
   rw[l]at F C;obtain⟨d,N⟩:=pN (BH b T);rw[N]at u m;clear e l N;(go_wp2_with fail);refine u.mono ?_;rintro _ w3 ⟨rfl,B⟩;have L:=Ab (x.trans B);clear u x n B F C;cases c:U4 d with
   |true=>
    have q:(d.toList==[])=jj:=c;(have Ax:d.toList=[]:=by simpa using q);(have z:p7 (R=K):=by show _=_;rw[<-Aa m,c];rfl);go_wp2;go_ret;rw[Aa z];exact⟨rfl,L⟩
   |false=>
    have q:(d.toList==[])=K:=c;(have Ax:¬d.toList=[]:=by simpa using q);(have AH:p7 ((a.drop (k+1)).all (λt=> !U4 (BH b t))=R):=by have h:=Aa m;rw[c]at h;exact h);clear m;go_wp2
    go_roundg (Z a-(k+1))
    case measure=>have:=Aa HG;omega
    case rel=>exact⟨k+1,by go_num,by omega,rfl,AH,L⟩
  .have z:p7 (R=jj):=by
    have h:=Aa e;rw[lS (by omega)]at h;exact h.symm
   go_wp2;go_ret;rw[Aa z];exact⟨rfl,n⟩
def In(b:pM zA):pM AW->pM zA->Bool
 |t::ts,x::xs=>(U4 (BH b t)||(BH b t).toList==x.toList)&&In b ts xs
 |_,_=>jj
def GA{l:pM zA}(h:p9 w n 170 1 z (Z l) (l.flatMap Ah))(k:Nat)(b:k<Z l):∃g a,z=U (V ⟨g,0,Y⟩) (Z l) a/\p8 w ⟨g,k,Y⟩=V (O l[k]):=by
 obtain⟨g,a,e,_,f⟩:=AC h (λc _=>rfl) k b;have d:=f k b 0 (by omega);simp[Ah]at d;exact⟨g,a,e,d⟩
theorem eV(B ty:Nat)(b:pM zA)(z:Int)(q:zA)(m:Option Addr)(o:Nat)(a:pM AW)(p:Fa)(FA:Nat)(w:py)(hb:Z b=26)(hB:AF w B (Aj b) ty)(hr:p9 w FA 215 2 (U m (Z a) o) (Z a) (a.flatMap Ar))(W:Ea w p)(HA:Z a<=100000)(FF:Z a<=Z p.f.zC)(l:∀t∈a,P2 t):
  Calls prog 222 #[m2 (V ⟨B,0,Y⟩),pC #[X J z,O q,U m (Z a) o],pC (ml (A6 p))] w λr H=>r=oa (pE (In b a p.f.zC))/\Ac [] w H:=by
 obtain⟨⟨n,c⟩,pv⟩:=p;obtain⟨j,e,B0⟩:=Ak W;simp only at B0 FF;subst B0;have HX:p7 (p9 w 0 170 1 (U j (Z c) e) (Z c) (c.flatMap Ah)):=W;simp only[A6];obtain⟨R,hR⟩:=pN (In b a c);rw[hR];have x:p7 (In b (a.drop 0) (c.drop 0)=R):=hR;have HT:p7 (∀t∈a,∀A,Ac [] w A->Calls prog 180 #[m2 (V ⟨B,0,Y⟩),pC #[X pD t.v,O t.s]] A λr H=>r=oa (O (BH b t))/\Ac [] A H):=λt ht A hk=>LN B ty b t A hb (hB.kept hk) (l t ht)
 have FL:=Ab hr;have D:p7 (AF ((w.alloc (j3 [X J z,O q,U m (Z a) o].toArray 187)).alloc (j3 [O n,U j (Z c) e].toArray 104)) (w.heap.size+1) [O n,U j (Z c) e] 104):=by
  have h:=pP (w.alloc (j3 [X J z,O q,U m (Z a) o].toArray 187)) [O n,U j (Z c) e] 104;simp only[lT]at h;exact h
 have AB:=Ab (((pO [] w).alloc (j3 [X J z,O q,U m (Z a) o].toArray 187)).alloc (j3 [O n,U j (Z c) e].toArray 104));clear hR hr l hB W;go_enter func222,ntmps222;go_wp2_with fail
 change Code.wp _ _ _ _ ((w.alloc (j3 [X J z,O q,U m (Z a) o].toArray 187)).alloc (j3 [O n,U j (Z c) e].toArray 104));generalize((w.alloc (j3 [X J z,O q,U m (Z a) o].toArray 187)).alloc (j3 [O n,U j (Z c) e].toArray 104))=w1 at D AB⊢;generalize w.heap.size=N at D⊢
 go_loopg [13] (Z a) (λgk i wr=>∃(k:Nat),i=X J k/\k<=Z a/\gk=Z a-k/\p7 (In b (a.drop k) (c.drop k)=R)/\p7 (AF wr (N+1) [O n,U j (Z c) e] 104)/\p7 (Ac [] w wr))
 case atStart=>exact⟨0,rfl,by omega,rfl,x,D,AB⟩
 case round=>
  clear x D AB;obtain⟨k,rfl,hk,Bx,x,HB,E⟩:=hrel;have HG:=Ab Bx;clear Bx;by_cases G:k<Z a
  ·(have CC:k<Z c:=by omega);obtain⟨g,Go,he,d0,d1⟩:=Fp (Ad FL E) k G;simp only[kS]at he;obtain⟨rfl,_,rfl⟩:=he;obtain⟨T,C⟩:=pN (a[k]);obtain⟨y,L⟩:=pN (c[k]);have Ax:=Ab (E.alloc (j3 #[X pD T.v,O T.s] 215));have B9:=Ab (HB.alloc (j3 #[X pD T.v,O T.s] 215));have S:=Ab (HT T (by rw[<-C];exact kV G) _ Ax);have u:p7 (((U4 (BH b T)||(BH b T).toList==y.toList)&&In b (a.drop (k+1)) (c.drop (k+1)))=R):=by
    have h:=Aa x;rw[lD G,lD CC,In,C,L]at h;exact h
   rw[C]at d0 d1;obtain⟨d,hV⟩:=pN (BH b T);rw[hV]at S u;clear x C hV;(have HD:(0:Int)<=(k:Int):=by omega);(have HF:(k:Int)<(Z c:Int):=by omega);(go_wp2_with fail);refine S.mono ?_;rintro _ w3 ⟨rfl,Q⟩;have F:=Ab (Ax.trans Q);have M:=Ab (B9.kept Q);obtain⟨g2,Ha,BT,x0⟩:=GA (Ad HX F) k CC;simp only[kS]at BT;obtain⟨rfl,_,rfl⟩:=BT;rw[L]at x0;have b1:=M.cell 1;simp at b1;clear S Ax E Q d0 d1 B9 HB L;cases l:U4 d with
   |true=>
    have I:(d.toList==[])=jj:=l;(have FB:d.toList=[]:=by simpa using I);(have P:p7 (In b (a.drop (k+1)) (c.drop (k+1))=R):=by have h:=Aa u;rw[l]at h;exact h);clear u;go_wp2
    go_roundg (Z a-(k+1))
    case measure=>have:=Aa HG;omega
    case rel=>exact⟨k+1,by go_num,by omega,rfl,P,M,F⟩
   |false=>
    have I:(d.toList==[])=K:=l;(have FB:¬d.toList=[]:=by simpa using I);cases hx:(d.toList==y.toList)with
    |true=>
     (have EX:(d.toList !=y.toList)=K:=by simp[bne,hx]);(have P:p7 (In b (a.drop (k+1)) (c.drop (k+1))=R):=by have h:=Aa u;rw[l,hx]at h;exact h);clear u;go_wp2
     go_roundg (Z a-(k+1))
     case measure=>have:=Aa HG;omega
     case rel=>exact⟨k+1,by go_num,by omega,rfl,P,M,F⟩
    |false=>
     (have EX:(d.toList !=y.toList)=jj:=by simp[bne,hx]);(have HE:p7 (R=K):=by show _=_;rw[<-Aa u,l,hx];rfl);go_wp2;go_ret;rw[Aa HE];exact⟨rfl,F⟩
  .have HE:p7 (R=jj):=by
    have h:=Aa x;rw[lS (by omega),In]at h
    .exact h.symm
    .simp
   go_wp2;go_ret;rw[Aa HE];exact⟨rfl,E⟩
def Jw(a b:AW):Bool:=a.v==b.v&&a.s.toList==b.s.toList
def SZ(ts:pM AW)(x:AW)(r:Int):Prop:=(r= -1/\∀t∈ts,Jw x t=K)\/∃k,∃h:k<Z ts,r=(k:Int)/\Jw x ts[k]=jj/\∀j (hj:j<Z ts),j<k->Jw x ts[j]=K
theorem cA(D:Option Addr)(G:Nat)(a:pM AW)(x:AW)(P:Nat)(w:py)(E:p9 w P 215 2 (U D (Z a) G) (Z a) (a.flatMap Ar))(A0:Z a<=100000):
  Calls prog 206 #[U D (Z a) G,pC #[X pD x.v,O x.s]] w λr I=>∃n,r=oa (X J n)/\SZ a x n/\Ac [] w I:=by
 have Ax:=Ab E;obtain⟨f,m⟩:∃f:Int->Prop,f=SZ a x:=⟨_,rfl⟩;have z:=Ab m;rw[<-m];have b:=Ab (pP w [X pD x.v,O x.s] 215);have c:=Ab ((pO [] w).alloc (j3 #[X pD x.v,O x.s] 215));clear E m;go_enter func206,ntmps206;go_wp2_with fail
 change Code.wp _ _ _ _ (w.alloc (j3 [X pD x.v,O x.s].toArray 215));generalize w.alloc (j3 [X pD x.v,O x.s].toArray 215)=w1 at b c⊢;generalize w.heap.size=N at b⊢
 go_loopg [8] (Z a) (λgk i wr=>∃(k:Nat),i=X J k/\k<=Z a/\gk=Z a-k/\p7 (∀j (d:j<Z a),j<k->Jw x a[j]=K)/\p7 (AF wr N [X pD x.v,O x.s] 215)/\p7 (Ac [] w wr))
 case atStart=>exact⟨0,rfl,by omega,rfl,λj d h=>by omega,b,c⟩
 case round=>
  clear b c;obtain⟨k,rfl,hk,B,l,b,c⟩:=hrel;have A:=Ab B;clear B;by_cases u:k<Z a
  .obtain⟨g,AT,F,R,Q⟩:=Fp (Ad Ax c) k u;simp only[kS]at F;obtain⟨rfl,_,rfl⟩:=F;obtain⟨T,o⟩:=pN (a[k]);have y:=Ab o;rw[o]at R Q;clear o;have H:=b.cell 0;have W:=b.cell 1;simp at H W;(have A1:(0:Int)<=(k:Int):=by omega);(have A2:(k:Int)<(Z a:Int):=by omega);(have e:p7 (∀n,AF (wr.drewN n) N [X pD x.v,O x.s] 215/\Ac [] w (wr.drewN n)):=λn=>⟨b.drewN n,c.drewN n⟩);cases hs:Jw x T with
   |true=>
    have p:(x.v==T.v)=jj/\(x.s.toList==T.s.toList)=jj:=by
     unfold Jw at hs;simpa using hs
    have h2:=p.1;have S:=p.2;have q:p7 (f (k:Int)):=by
     rw[Aa z];exact oj ⟨k,u,rfl,by rw[Aa y];exact hs,l⟩
    clear p hs;go_wp2_with fail
    go_quiet (fail)
    go_wp2;go_ret;exact⟨k,rfl,q,(e _).2⟩
   |false=>
    have C:p7 (∀j (d:j<Z a),j<k+1->Jw x a[j]=K):=by
     intro j d AH;by_cases h:j<k
     .exact l j d h
     ·(have L:j=k:=by omega);subst L;rw[Aa y];exact hs
    cases ha:(x.v==T.v)with
    |false=>
     clear hs;go_wp2_with fail
     go_quiet (fail)
     go_wp2
     go_roundg (Z a-(k+1))
     case measure=>have:=Aa A;omega
     case rel=>exact⟨k+1,by go_num,by omega,rfl,C,(e _).1,(e _).2⟩
    |true=>
     have S:(x.s.toList==T.s.toList)=K:=by
      unfold Jw at hs;rw[ha,mR]at hs;exact hs
     clear hs;go_wp2_with fail
     go_quiet (fail)
     go_wp2
     go_roundg (Z a-(k+1))
     case measure=>have:=Aa A;omega
     case rel=>exact⟨k+1,by go_num,by omega,rfl,C,(e _).1,(e _).2⟩
  .have q:p7 (f (-1)):=by
    rw[Aa z];refine oi ⟨rfl,λt M=>?_⟩;obtain⟨j,d,rfl⟩:=lX M;exact l j d (by omega)
   go_wp2;go_ret;exact⟨-1,rfl,q,c⟩
def Rz{l:pM Int}(h:p9 w n 21 1 z (Z l) (l.flatMap AU))(k:Nat)(b:k<Z l):∃g a,z=U (V ⟨g,0,Y⟩) (Z l) a/\p8 w ⟨g,k,Y⟩=V (X pD l[k]):=by
 obtain⟨g,a,e,_,f⟩:=AC h (λc _=>rfl) k b;have d:=f k b 0 (by omega);simp[AU]at d;exact⟨g,a,e,d⟩
theorem eG(q:Option Addr)(u:Nat)(l:pM Int)(x:Int)(z:Nat)(w:py)(s:p9 w z 21 1 (U q (Z l) u) (Z l) (l.flatMap AU))(L:Z l<=100000):
  Calls prog 203 #[U q (Z l) u,X pD x] w λr v=>∃n:Int,r=oa (X J n)/\(n= -1/\x∉l\/0<=n/\x∈l)/\v=w:=by
 have F:=Ab s;clear s;go_enter func203,ntmps203;go_wp2_with fail
 go_loopg [8] (Z l) (λgk i wr=>∃(k:Nat),i=X J k/\k<=Z l/\gk=Z l-k/\p7 (∀j (b:j<Z l),j<k->l[j]≠x)/\wr=w)
 case atStart=>exact⟨0,rfl,by omega,rfl,λj b h=>by omega,rfl⟩
 case round=>
  obtain⟨k,rfl,H,p,m,rfl⟩:=hrel;have A:=Ab p;clear p;by_cases f:k<Z l
  .obtain⟨g,I,t,D⟩:=Rz F k f;simp only[kS]at t;obtain⟨rfl,_,rfl⟩:=t;obtain⟨T,d⟩:=pN (l[k]);have o:=Ab d;rw[d]at D;clear d;(have M:(0:Int)<=(k:Int):=by omega);(have N:(k:Int)<(Z l:Int):=by omega);by_cases a:x=T
   ·(have B:(x==T)=jj:=by simp[a]);(have c:p7 (x∈l):=by show _∈_;rw[a,<-Aa o];exact kV f);clear a;go_wp2;go_ret;exact⟨k,rfl,oj ⟨by omega,c⟩,rfl⟩
   ·(have B:(x==T)=K:=by simp[a]);have C:p7 (∀j (b:j<Z l),j<k+1->l[j]≠x):=by
     intro j b G;by_cases h:j<k
     .exact m j b h
     ·(have y:j=k:=by omega);subst y;rw[Aa o];exact λe=>a e.symm
    clear a;go_wp2
    go_roundg (Z l-(k+1))
    case measure=>have:=Aa A;omega
    case rel=>exact⟨k+1,by go_num,by omega,rfl,C,rfl⟩
  .have c:p7 (x∉l):=by
    intro E;obtain⟨j,b,e⟩:=lX E;exact m j b (by omega) e
   go_wp2;go_ret;exact⟨-1,rfl,oi ⟨rfl,c⟩,rfl⟩
theorem SO(c:Option Addr)(b:Nat)(l:pM Int)(x:Int)(f:Nat)(w:py)(d:p9 w f 21 1 (U c (Z l) b) (Z l) (l.flatMap AU))(k:Z l<=100000):
  Calls prog 175 #[U c (Z l) b,X pD x] w λr i=>r=oa (pE (decide (x∈l)))/\i=w:=by
 have g:=Ab (eG c b l x f w d k);clear d;go_enter func175,ntmps175;go_wp2_with fail
 refine g.mono ?_;rintro _ m ⟨n,rfl,h,rfl⟩;have j:p7 (decide (0<=n)=decide (x∈l)):=by
  show _=_;rcases h with⟨e,a⟩|⟨e,a⟩
  .rw[mG a,mG (by omega)]
  .rw[np a,np e]
 clear h g;go_wp2;go_ret;rw[<-Aa j];exact⟨rfl,rfl⟩
def SV(a:pM Int)(t:AW):pM Int:=if t.v≠0/\t.v∉a then a++[t.v] else a
def DS(ts:pM AW):pM Int:=ts.foldl SV []
def YQ{a:pM AW}(b:k<Z a):DS (a.take (k+1))=SV (DS (a.take k)) a[k]:=by
 unfold DS;rw[kW b,mi];rfl
theorem OD(W:Option Addr)(cp:Nat)(a:pM AW)(B2:Nat)(w:py)(hr:p9 w B2 215 2 (U W (Z a) cp) (Z a) (a.flatMap Ar))(Go:Z a<=90000):
  Calls prog 138 #[U W (Z a) cp] w λr L=>∃AT AB,r=oa (U AT (Z (DS a)) AB)/\p9 L w.heap.size 21 1 (U AT (Z (DS a)) AB) (Z (DS a)) ((DS a).flatMap AU)/\Ac [] w L:=by
 obtain⟨i0,FO,B0,CC,ES⟩:=mg Tryz.zw;have FL:=Ab hr;obtain⟨R,C⟩:=pN (DS a);rw[C];have HR:=Ab C;obtain⟨N,F⟩:=pN w.heap.size;rw[F];have HN:=Ab F;clear hr C F;go_enter func138,ntmps138;go_wp2_with fail
 go_loopg [3,8] (Z a) (λgk o i wr=>∃(k:Nat) (l:pM Int) (d:Option Addr) (c:Nat),o=U d (Z l) c/\i=X J k/\k<=Z a/\gk=Z a-k/\Z l<=k/\p7 (DS (a.take k)=l)/\p7 (p9 wr N 21 1 (U d (Z l) c) (Z l) (l.flatMap AU))/\p7 (Ac [] w wr))
 case atStart=>exact⟨0,[],Y,0,rfl,rfl,by omega,rfl,by simp,rfl,lH _ _ _ _,pO _ _⟩
 case round=>
  obtain⟨k,l,d,c,rfl,rfl,hk,Q,FP,D,z,p⟩:=hrel;have x:=Ab Q;clear Q;by_cases I:k<Z a
  .obtain⟨g,FW,he,d0,P⟩:=Fp (Ad FL p) k I;simp only[kS]at he;obtain⟨rfl,_,rfl⟩:=he;obtain⟨T,y⟩:=pN (a[k]);have Dk:p7 (DS (a.take (k+1))=if T.v≠0/\T.v∉l then l++[T.v] else l):=by
    show _=_;rw[YQ I,Aa D,y];rfl
   rw[y]at d0 P;clear y D;have n:=Ab (p.alloc (j3 #[X pD T.v,O T.s] 215));have u:=Ab (pP wr [X pD T.v,O T.s] 215);have E:=lg z (j3 #[X pD T.v,O T.s] 215);have m:=Ab E;have e:=Ab (SO d c l T.v N _ E (by omega));(have E0:N<=wr.heap.size:=by have:=p.size;have:=Aa HN;omega);clear E z p;by_cases b:T.v=0
   ·(have FC:(T.v !=0)=K:=by simp[b]);(have EY:(T.v==0)=jj:=by simp[b]);(have j:p7 (DS (a.take (k+1))=l):=by show _=_;rw[Aa Dk,li (λh=>h.1 b)]);clear Dk b e;go_wp2
    go_roundg (Z a-(k+1))
    case measure=>have:=Aa x;omega
    case rel=>exact⟨k+1,l,d,c,rfl,by go_num,by omega,rfl,by omega,j,m,n⟩
   ·(have FC:(T.v !=0)=jj:=by simp[b]);(have EY:(T.v==0)=K:=by simp[b]);by_cases f:T.v∈l
    ·(have j:p7 (DS (a.take (k+1))=l):=by show _=_;rw[Aa Dk,li (λh=>h.2 f)]);rw[np f]at e;clear Dk b f;(go_wp2_with fail);refine e.mono ?_;rintro _ w3 ⟨rfl,rfl⟩;go_wp2
     go_roundg (Z a-(k+1))
     case measure=>have:=Aa x;omega
     case rel=>exact⟨k+1,l,d,c,rfl,by go_num,by omega,rfl,by omega,j,m,n⟩
    ·(have j:p7 (DS (a.take (k+1))=l++[T.v]):=by show _=_;rw[Aa Dk,ln ⟨b,f⟩]);rw[mG f]at e;clear Dk b f;(go_wp2_with fail);refine e.mono ?_;rintro _ w3 ⟨rfl,rfl⟩;obtain⟨B,hB⟩:=pN wr.heap.size;rw[hB]at u E0⊢;have A:p7 (AF (wr.alloc (j3 #[X pD T.v,O T.s] 215)) B [X pD T.v,O T.s] 215):=u;have DT:B<(wr.alloc (j3 #[X pD T.v,O T.s] 215)).heap.size:=A.lt;clear e u hB d0 P;generalize wr.alloc (j3 #[X pD T.v,O T.s] 215)=w4 at m n A DT⊢;have H:=A.cell 0;simp at H;have G:=Aa m;go_wp2_with (at_builtin;refine lG _ rfl (.tmp 22) (.tmp 25) _ rfl N 21 i0 _ 1 4 underlying234 FO B0 CC ES rfl (by omega) (U d (Z l) c) (Z l) (l.flatMap AU) rfl (lg G _) ⟨w4.heap.size,0,Y⟩ 1 1 [X pD T.v] rfl rfl (lI (lP w4 _)) (by simp[Value.oneCell']) (by omega) (by unfold maxLen;omega) (by omega) (by simp;omega) (w4.heap.size+1) (by simp) ?_;intro g1 M w9 AH S BS FA)
     have EX:p7 (p9 w9 N 21 1 (U (V ⟨g1,0,Y⟩) (Z (l++[T.v])) M) (Z (l++[T.v])) ((l++[T.v]).flatMap AU)):=by
      rw[lM];simp only[lu,lj,lO,me,lF,mx,lU,AU];exact AH
     have CL:=Ab ((n.alloc (j3 #[X pD T.v] 21)).grown S (λq hq=>oj (by have:=(G.lt q hq).1;have:=Aa HN;omega)));clear AH S BS FA G m n H
     go_roundg (Z a-(k+1))
     case measure=>have:=Aa x;omega
     case rel=>exact⟨k+1,l++[T.v],V ⟨g1,0,Y⟩,M,by simp,by go_num,by omega,rfl,by simp;omega,j,EX,CL⟩
  .have HE:p7 (l=R):=by
    have h:=Aa D;rw[kX (by omega),Aa HR]at h;exact h.symm
   go_wp2;go_ret;rw[<-Aa HE];exact⟨d,c,rfl,z,p⟩
structure Zk(rcs:pM A4)(hs:pM (Nat×GZ Af))(s:pM Af):Prop where
 nd:(hs.map λh=>h.2.head).Nodup
 mem:∀f,f∈s↔f∈hs.map λh=>h.2.head
 each:∀i (hi:i<Z hs),∃(hn:hs[i].1<Z rcs) (σ:UInt8->zA),N8 rcs[hs[i].1] σ/\hs[i].2=CG rcs[hs[i].1] σ/\(∀g∈hs[i].2.pos,g∈(hs.take i).map λh=>h.2.head)/\∀g∈hs[i].2.neg,g∉s
def Zk.start(a:pM A4):Zk a [] []:=⟨nG,λf=>by simp,λi b=>by simp at b⟩
def Zk.add{o:zA->Nat}(I:CR c o){s v:pM Af}{d:pM (Nat×GZ Af)}(h:Zk c d s)(Q:∀f∈s,o f.name<=n)(B:m<Z c)(P:o c[m].head.name=n){i:GZ Af}{σ:UInt8->zA}(t:i=CG c[m] σ)(C:N8 c[m] σ)(M:∀g∈i.pos,g∈s)(N:∀g∈i.neg,g∉s)(L:i.head∉s)(q:∀f,f∈v↔f∈s\/f=i.head):Zk c (d++[(m,i)]) v:=by
 have D:=I.zZ;have S:o i.head.name=n:=by rw[t];exact P
 refine⟨?_,λf=>?_,λk F=>?_⟩
 .rw[lV];refine oe.2 ⟨h.nd,by simp,λa A b x e=>?_⟩;simp only[lE,m8,kY]at x;rw[e,x]at A;exact L ((h.mem _).2 A)
 .rw[q f,h.mem f,lV,lw];simp
 .by_cases p:k<Z d
  .have u:(d++[(m,i)])[k]=d[k]:=mB p;obtain⟨y,τ,w,z,G,H⟩:=h.each k p;rw[mn (by omega)];simp only[u];refine⟨y,τ,w,z,G,λg l j=>?_⟩;rcases(q g).1 j with j|j
   .exact H g l j
   .have r:=D.neg d[k].2 ⟨c[d[k].1],kV y,τ,w,z⟩ g l;have R:=Q d[k].2.head ((h.mem _).2 (lk.2 ⟨d[k],kV p,rfl⟩));rw[j]at r;omega
  ·(have E:k=Z d:=by simp at F;omega);subst E;(have u:(d++[(m,i)])[Z d]=(m,i):=by simp);rw[List.take_left];simp only[u];refine⟨B,σ,C,t,λg l=>(h.mem g).1 (M g l),λg l j=>?_⟩;rcases(q g).1 j with j|j
   .exact N g l j
   .have r:=D.neg i ⟨c[m],kV B,σ,C,t⟩ g l;rw[j]at r;omega
def LJ:∀(l s:pM Af),Eb s->(∀f∈s,AL f)->(∀f∈l,AL f)->Eb (l.foldl A3 s)/\(∀f∈l.foldl A3 s,AL f)/\∀f,f∈l.foldl A3 s↔f∈s\/f∈l
 |[],s,h1,h2,_=>⟨h1,h2,λf=>by simp⟩
 |x::l,s,h1,h2,h3=>by
  obtain⟨e,b,h⟩:=CZ (h3 x (by simp)) h1 h2;obtain⟨a,c,g⟩:=LJ l (A3 s x) e b (λf d=>h3 f (by simp[d]));refine⟨a,c,λf=>?_⟩;rw[lR,g f,h f,kZ,or_assoc]
def Zk.batch{o:zA->Nat}(A:CR c o){s:pM Af}{B:pM (Nat×GZ Af)}(h:Zk c B s)(I:Eb s)(H:∀f∈s,AL f)(M:∀f∈s,o f.name<=n)(D:m<Z c)(C:o c[m].head.name=n){l:pM Af}(L:l.Nodup)(u:∀f∈l,f∉s/\AL f)
  {a:pM (GZ Af)} (t:a.map GZ.head=l) (z:∀i∈a,∃σ,(∀x∈Al c[m],Cg (Bm σ) (Ed σ) s x=jj)/\i=CG c[m] σ):∀j,Zk c (B++(a.take j).map (Prod.mk m)) ((l.take j).foldl A3 s):=by
 have w:∀f∈l,o f.name=n:=by
  intro f b;rw[<-t]at b;obtain⟨i,k,rfl⟩:=lk.1 b;obtain⟨σ,_,rfl⟩:=z i k;exact C
 have Q:Z a=Z l:=by rw[<-t,lm]
 intro j
 induction j with
 |zero=>simpa using h
 |succ j ih=>
  by_cases e:j<Z l
  ·(have r:j<Z a:=by omega);have d:=LJ (l.take j) s I H (λf b=>(u f (mD b)).2);have y:l[j]=a[j].head:=by
    have:=congrArg (λl=>l[j]?) t;simp only[mA,lc r,lc e,m0,ld]at this;exact this.symm
   obtain⟨σ,F,k⟩:=z a[j] (kV r);obtain⟨v,E⟩:=(Gl c[m] σ s).1 F;rw[<-k]at v;rw[kW r,lV,<-mo,kW e,mi];simp only[lE,m8,lR,List.foldl_nil];refine ih.add A (n:=n) (λf b=>?_) D C k E (λg p=>(d.2.2 g).2 (oi (v.1 g p))) (λg p q=>?_) (λq=>?_) (λf=>?_)
   .rcases(d.2.2 f).1 b with h|h
    .exact M f h
    .exact Nat.le_of_eq (w f (mD h))
   .rcases(d.2.2 g).1 q with h|h
    .exact v.2 g p h
    .have R:=A.zZ.neg a[j] ⟨c[m],kV D,σ,E,k⟩ g p;have N:=w g (mD h);(have P:o a[j].head.name=n:=by rw[<-y];exact w _ (kV e));omega
   .rw[<-y]at q;rcases(d.2.2 _).1 q with h|h
    .exact(u _ (kV e)).1 h
    ·(have G:(l.take j++l[j]::l.drop (j+1)).Nodup:=by rw[<-lD e,mt];exact L);exact(oe.1 G).2.2 _ h _ (mz ..) rfl
   .rw[(CZ (u _ (kV e)).2 d.1 d.2.1).2.2 f,y]
  .rw[kX (by omega),kX (by omega)];rw[kX (by omega),kX (by omega)]at ih;exact ih
