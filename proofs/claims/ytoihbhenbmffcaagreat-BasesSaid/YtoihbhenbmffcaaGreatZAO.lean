import Derived.Laws.Cover1
import Derived.Test.YtoihbhenbmffcaaGreatZAM
set_option linter.all false
set_option maxHeartbeats 0
open List renaming length->Z,toArray->j1
open Option renaming none->Y,some->V
open Go.Value renaming slice->U,int->X,string->O,pointer->j2,agg->kx,bool->k0
open Bool renaming false->K,true->hG
open Go.IntKind renaming i64->J,i32->ky
open Go.Obj renaming cells->jj
open Go.Ending renaming returned->j3
open Or renaming inl->kn,inr->kp
open Go renaming World->kq
open Go.RowKit renaming Hid->kt
open Go.World renaming cell?->ku,ownsRow->kw
open ByteArray renaming empty->kB
open Go.Op renaming bytesLess->kH
namespace Go.Proofs.YtoihbhenbmffcaaGreat
open Go.RowKit Go.Proofs.Tryz
variable{k n b m:Nat}{w u:kq}{z:Value}{e:kJ zA}{c:kJ AY}{s t:zA}{g:UInt8}{f:kJ Ag}
def Ds(a b:zA):Int:=if kH a.toList b.toList then -1 else if kH b.toList a.toList then 1 else 0
theorem UC(a:zA)(w:kq):Calls prog 118 #[O a] w λe b=>e=j3 (k0 K)/\b=w:=by
 have h:(a.toList==a.toList)=hG:=by simp
 have c:(a.toList !=a.toList)=K:=by simp[bne]
 go_enter func118,ntmps118;go_wp2;all_goals go_ret
 all_goals first|exact⟨rfl,rfl⟩|exact⟨by simp,rfl⟩
theorem Um(a:zA)(w:kq):Calls prog 142 #[O a] w λe b=>e=j3 (k0 K)/\b=w:=by
 have h:(a.toList==a.toList)=hG:=by simp
 have c:(a.toList !=a.toList)=K:=by simp[bne]
 go_enter func142,ntmps142;go_wp2;all_goals go_ret
 all_goals first|exact⟨rfl,rfl⟩|exact⟨by simp,rfl⟩
theorem aF(a b:zA)(w:kq):Calls prog 81 #[O a,O b] w λe i=>e=j3 (X J (Ds a b))/\i=w:=by
 have h:=Ab (UC a w);have g:=Ab (UC b w);have f:kt (Ds a b=if kH a.toList b.toList then -1 else if kH b.toList a.toList then 1 else 0):=rfl;generalize Ds a b=C at f⊢;go_enter func81,ntmps81;go_wp2_with fail
 refine h.mono ?_;rintro e k ⟨rfl,rfl⟩;go_wp2_with fail
 refine g.mono ?_;rintro e j ⟨rfl,rfl⟩;clear h g;cases h1:kH a.toList b.toList with
 |true=>
  have d:kt (C= -1):=by show _=_;rw[Aa f,h1];rfl
  go_wp2;go_ret;rw[Aa d];exact⟨rfl,rfl⟩
 |false=>
  cases h2:(a.toList==b.toList)with
  |false=>
   have c:kH b.toList a.toList=hG:=QG _ _ h1 h2;(have d:kt (C=1):=by show _=_;rw[Aa f,h1,c];rfl);clear c;go_wp2;go_ret;rw[Aa d];exact⟨rfl,rfl⟩
  |true=>
   have c:kH b.toList a.toList=K:=by rw[show a.toList=b.toList from by simpa using h2];exact Oz _
   (have d:kt (C=0):=by show _=_;rw[Aa f,h1,c];rfl);clear c;go_wp2;go_ret;rw[Aa d];exact⟨rfl,rfl⟩
theorem ai(a b:zA)(w:kq):Calls prog 119 #[O a,O b] w λe i=>e=j3 (X J (Ds a b))/\i=w:=by
 have h:=Ab (Um a w);have g:=Ab (Um b w);have f:kt (Ds a b=if kH a.toList b.toList then -1 else if kH b.toList a.toList then 1 else 0):=rfl;generalize Ds a b=C at f⊢;go_enter func119,ntmps119;go_wp2_with fail
 refine h.mono ?_;rintro e k ⟨rfl,rfl⟩;go_wp2_with fail
 refine g.mono ?_;rintro e j ⟨rfl,rfl⟩;clear h g;cases h1:kH a.toList b.toList with
 |true=>
  have d:kt (C= -1):=by show _=_;rw[Aa f,h1];rfl
  go_wp2;go_ret;rw[Aa d];exact⟨rfl,rfl⟩
 |false=>
  cases h2:(a.toList==b.toList)with
  |false=>
   have c:kH b.toList a.toList=hG:=QG _ _ h1 h2;(have d:kt (C=1):=by show _=_;rw[Aa f,h1,c];rfl);clear c;go_wp2;go_ret;rw[Aa d];exact⟨rfl,rfl⟩
  |true=>
   have c:kH b.toList a.toList=K:=by rw[show a.toList=b.toList from by simpa using h2];exact Oz _
   (have d:kt (C=0):=by show _=_;rw[Aa f,h1,c];rfl);clear c;go_wp2;go_ret;rw[Aa d];exact⟨rfl,rfl⟩
def En:kJ zA->kJ zA->Int
 |[],[]=>0
 |[],_::_=> -1
 |_::_,[]=>1
 |x::l,y::m=>if Ds x y=0 then En l m else Ds x y
def XK{l m:kJ zA}(a:k<Z l)(b:k<Z m):En (l.drop k) (m.drop k)=if Ds l[k] m[k]=0 then En (l.drop (k+1)) (m.drop (k+1))else Ds l[k] m[k]:=by
 rw[fQ a,fQ b,En]
def Lr(h:kw w n 98 1 z (Z e) (e.flatMap Ah))(k:Nat)(d:k<Z e):∃g a,z=U (V ⟨g,0,Y⟩) (Z e) a/\ku w ⟨g,k,Y⟩=V (O e[k]):=by
 obtain⟨g,a,f,_,i⟩:=AC h (λc _=>rfl) k d;have b:=i k d 0 (by omega);simp[Ah]at b;exact⟨g,a,f,b⟩
set_option maxRecDepth 100000
theorem Sw(y:Option Addr)(q:Nat)(l:kJ zA)(o:Option Addr)(t:Nat)(m:kJ zA)(w:kq)(r:kw w 0 98 1 (U y (Z l) q) (Z l) (l.flatMap Ah))(n:kw w 0 98 1 (U o (Z m) t) (Z m) (m.flatMap Ah))(hl:Z l<=1000000)(hm:Z m<=1000000):
  Calls prog 82 #[U y (Z l) q,U o (Z m) t] w λe B=>e=j3 (X J (En l m))/\B=w:=by
 have G:=Ab r;have F:=Ab n;obtain⟨R,j⟩:=kK (En l m);rw[j];have u:kt (En (l.drop 0) (m.drop 0)=R):=j;clear r n j;go_enter func82,ntmps82;go_wp2
 go_loopg [11] (Z l) (λgk i wr=>∃(k:Nat),i=X J k/\k<=Z l/\k<=Z m/\gk=Z l-k/\kt (En (l.drop k) (m.drop k)=R)/\w=wr)
 case atStart=>exact⟨0,rfl,by omega,by omega,rfl,u,rfl⟩
 case round=>
  clear u;obtain⟨k,rfl,N,L,s,b,rfl⟩:=hrel;have E:=Ab s;clear s;by_cases f:k<Z l
  .obtain⟨W,S,x,Q⟩:=Lr G k f;simp only[fg]at x;obtain⟨rfl,_,rfl⟩:=x;by_cases g:k<Z m
   .obtain⟨P,T,v,I⟩:=Lr F k g;simp only[fg]at v;obtain⟨rfl,_,rfl⟩:=v;(have z:¬(Z m:Int)<=(k:Int):=by omega);have p:=Ab (ai l[k] m[k] w);have c:=Ab (XK f g);generalize Ds l[k] m[k]=C at p c;(go_wp2_with fail);refine p.mono ?_;rintro e M ⟨rfl,D⟩;subst D;by_cases d:C=0
    ·(have A:(C !=0)=K:=by simp[d]);have a:kt (En (l.drop (k+1)) (m.drop (k+1))=R):=by
      have h:=Aa b;rw[Aa c,fF d]at h;exact h
     clear b c;go_wp2
     go_roundg (Z l-(k+1))
     case measure=>have:=Aa E;omega
     case rel=>exact⟨k+1,by go_num,by omega,by omega,rfl,a,rfl⟩
    ·(have A:(C !=0)=hG:=by simp[d]);have a:kt (C=R):=by
      have h:=Aa b;rw[Aa c,fB d]at h;exact h
     clear b c;go_wp2;go_ret;rw[<-Aa a];exact⟨rfl,rfl⟩
   ·(have z:(Z m:Int)<=(k:Int):=by omega);have a:kt (R=1):=by
     have h:=Aa b;rw[fQ f,gr (show Z m<=k by omega),En]at h;exact h.symm
    go_wp2;go_ret;rw[Aa a];exact⟨rfl,rfl⟩
  .by_cases g:Z l<Z m
   ·(have H:(Z l:Int)<(Z m:Int):=by omega);have a:kt (R= -1):=by
     have h:=Aa b;rw[gr (show Z l<=k by omega),fQ (show k<Z m by omega),En]at h;exact h.symm
    go_wp2;go_ret;rw[Aa a];exact⟨rfl,rfl⟩
   ·(have H:¬(Z l:Int)<(Z m:Int):=by omega);have a:kt (R=0):=by
     have h:=Aa b;rw[gr (show Z l<=k by omega),gr (show Z m<=k by omega),En]at h;exact h.symm
    go_wp2;go_ret;rw[Aa a];exact⟨rfl,rfl⟩
structure Cg where
 name:zA
 zC:kJ zA
structure DF where
 f:Cg
 tv:Value
def AI(p:DF):kJ Value:=[O p.f.name,p.tv]
def Dc(w:kq)(p:DF):Prop:=kw w 0 98 1 p.tv (Z p.f.zC) (p.f.zC.flatMap Ah)
def Dc.kept{w w':kq}{p:DF}(h:Dc w p)(k:Ac [] w w'):Dc w' p:=Ad h k
def Cq(a b:Cg):Int:=if Ds a.name b.name=0 then En a.zC b.zC else Ds a.name b.name
theorem Su(a b:DF)(w:kq)(k:Dc w a)(j:Dc w b)(u:Z a.f.zC<=1000000)(x:Z b.f.zC<=1000000):
  Calls prog 42 #[kx (j1 (AI a)),kx (j1 (AI b))] w λe z=>e=j3 (X J (Cq a.f b.f))/\Ac [] w z:=by
 obtain⟨⟨d,i⟩,F⟩:=a;obtain⟨⟨c,h⟩,H⟩:=b;unfold Dc at k j;simp only at k j u x;obtain⟨r,q,rfl⟩:=Aj k;obtain⟨p,s,rfl⟩:=Aj j;have g:kt (Cq ⟨d,i⟩ ⟨c,h⟩=if Ds d c=0 then En i h else Ds d c):=rfl;simp only[AI];generalize Cq ⟨d,i⟩ ⟨c,h⟩=R at g⊢;have m:=((kL [] w).alloc (jj [O d,U r (Z i) q].toArray 56)).alloc (jj [O c,U p (Z h) s].toArray 56);have n:=Ab (aF d c ((w.alloc (jj [O d,U r (Z i) q].toArray 56)).alloc (jj [O c,U p (Z h) s].toArray 56)));have o:=Ab (Sw r q i p s h _ (Ad k m) (Ad j m) u x);have v:=Ab m;clear m k j;generalize Ds d c=C at n g;generalize En i h=D at o g;go_enter func42,ntmps42;go_wp2_with fail
 refine n.mono ?_;rintro e G ⟨rfl,B⟩;subst B;by_cases l:C=0
 .have y:(C !=0)=K:=by simp[l]
  have t:kt (R=D):=by show _=_;rw[Aa g,fF l]
  clear g n;go_wp2_with fail
  refine o.mono ?_;rintro e E ⟨rfl,A⟩;subst A;clear o;go_wp2;go_ret;rw[Aa t];exact⟨rfl,v⟩
 .have y:(C !=0)=hG:=by simp[l]
  have t:kt (R=C):=by show _=_;rw[Aa g,fB l]
  clear g n o;go_wp2;go_ret;rw[Aa t];exact⟨rfl,v⟩
structure Iw(w:kq)(sv:Value)(fs:kJ DF):Prop where
 row:kw w 0 56 2 sv (Z fs) (fs.flatMap AI)
 each:∀p∈fs,Dc w p/\Z p.f.zC<=1000
def Iw.kept{w w':kq}{c:Value}{b:kJ DF}(h:Iw w c b)(k:Ac [] w w'):Iw w' c b:=⟨Ad h.row k,λp a=>⟨(h.each p a).1.kept k,(h.each p a).2⟩⟩
def JW{b:kJ DF}(h:Iw w z b)(k:Nat)(d:k<Z b):
  ∃g m n a i f,z=U (V ⟨g,0,Y⟩) (Z b) m/\b[k]=⟨⟨n,a⟩,U i (Z a) f⟩/\ku w ⟨g,k*2,Y⟩=V (O n)/\ku w ⟨g,k*2+1,Y⟩=V (U i (Z a) f):=by
 obtain⟨g,m,s,_,r⟩:=AC h.row (λc _=>rfl) k d;have j:=r k d 0 (by omega);have l:=r k d 1 (by omega);obtain⟨⟨⟨n,a⟩,t⟩,o⟩:∃p,b[k]=p:=⟨_,rfl⟩;have q:=(h.each _ (fj d)).1;rw[o]at j l q;obtain⟨i,f,e⟩:=Aj q;simp only at e;subst e;simp[AI]at j l;exact⟨g,m,n,a,i,f,s,o,j,l⟩
structure Eu(fs:kJ DF)(x:Cg)(p:Nat):Prop where
 le:p<=Z fs
 below:∀i (h:i<Z fs),i<p->Cq fs[i].f x<0
 zZ:∀i (h:i<Z fs),p<=i->¬Cq fs[i].f x<0
def CY(fs:kJ DF)(x:Cg)(p:Nat):Bool:=if h:p<Z fs then Cq fs[p].f x==0 else K
theorem Hl(FC:Option Addr)(E0:Nat)(c:kJ DF)(x:DF)(w:kq)(h:Iw w (U FC (Z c) E0) c)(W:Dc w x)(HA:Z x.f.zC<=1000)(HV:Z c<=1000000)(FA:∀i j (l:i<Z c) (hj:j<Z c),i<=j->Cq c[j].f x.f<0->Cq c[i].f x.f<0):
  Calls prog 41 #[U FC (Z c) E0,kx (j1 (AI x)),.func (.func 42) #[] #[]] w λe t=>∃p:Nat,e=j3 (.tuple #[X J p,k0 (CY c x.f p)])/\Eu c x.f p/\Ac [] w t:=by
 have I:kt (∀(p:DF) wr,p∈c->Ac [] w wr->Calls prog 42 #[kx (j1 (AI p)),kx (j1 (AI x))] wr λe t=>e=j3 (X J (Cq p.f x.f))/\Ac [] wr t):=λp wr hp hk=>Su p x wr ((h.each p hp).1.kept hk) (W.kept hk) (by have:=(h.each p hp).2;omega) (by omega)
 have HS:=Ab h;have H:=Ab FA;obtain⟨⟨u,v⟩,xv⟩:=x;obtain⟨A,B,EY⟩:=Aj W;simp only at EY;subst EY;simp only[AI]at I⊢;simp only at H;have s:=Ab (kN w [O u,U A (Z v) B] 56);have q:=Ab ((kL [] w).alloc (jj [O u,U A (Z v) B].toArray 56));obtain⟨m,hX⟩:∃m:Cg,m=⟨u,v⟩:=⟨_,rfl⟩;rw[<-hX]at H I⊢;clear h W HA FA hX;go_enter func41,ntmps41;go_wp2;change Code.wp _ _ _ _ (w.alloc (jj [O u,U A (Z v) B].toArray 56));generalize w.alloc (jj [O u,U A (Z v) B].toArray 56)=w1 at s q⊢;generalize w.heap.size=N at s⊢
 go_loopg [9,10] (Z c) (λgk a b wr=>∃(d l:Nat),a=X J d/\b=X J l/\d<=l/\l<=Z c/\gk=l-d/\kt (∀i (h:i<Z c),i<d->Cq c[i].f m<0)/\kt (∀i (h:i<Z c),l<=i->¬Cq c[i].f m<0)/\kt (Ac [] w wr)/\kt (AF wr N [O u,U A (Z v) B] 56))
 case atStart=>exact⟨0,Z c,rfl,rfl,by omega,by omega,rfl,λi h h0=>by omega,λi h h0=>by omega,q,s⟩
 case round=>
  clear s q;obtain⟨d,l,rfl,rfl,Ix,BA,FB,EM,CC,q,s⟩:=hrel;have HG:=Ab FB;clear FB;have c0:=s.cell 0;have c1:=s.cell 1;simp at c0 c1;by_cases H0:d<l
  .obtain⟨k,HX⟩:=kK ((d+l)/2);(have H8:d<=k:=by omega);(have H2:k<l:=by omega);(have R:k<Z c:=by omega);(have IJ:((d:Int)+(l:Int))>>>(1:Nat)=(k:Int):=by rw[Int.shiftRight_eq_div_pow];omega);(have H7:((d:Int)+(l:Int))/2=(k:Int):=by omega);obtain⟨g,HQ,n,L,ad,cp,E,y,d0,d1⟩:=JW (HS.kept q) k R;simp only[fg]at E;obtain⟨rfl,_,rfl⟩:=E;have o:=Ab (I c[k] wr.drew (fj R) q.drew);(have Q:kt (Cq c[k].f m<0->∀i (h:i<Z c),i<k+1->Cq c[i].f m<0):=λhc i h FP=>H i k h R (by omega) hc);(have S:kt (¬Cq c[k].f m<0->∀i (h:i<Z c),k<=i->¬Cq c[i].f m<0):=λhc i h FP hh=>hc (H k i R h (by omega) hh));rw[y]at o;simp only at o;obtain⟨C,F⟩:=kK (Cq c[k].f m);rw[F]at Q S;rw[y]at F;simp only at F;rw[F]at o;clear y F;by_cases CL:C<0
   .have HT:=Ab (Q CL);clear Q S;go_wp2_with fail
    go_region_law (go_simp;go_at_call 42;refine o.mono ?_;rintro e M ⟨rfl,r⟩;have z:=Ab (q.drew.trans r);have AB:=Ab (s.drew.kept r);clear r)
    all_goals
     clear o;go_wp2
     go_roundg (l-(k+1))
     case measure=>have:=Aa HG;omega
     case rel=>exact⟨k+1,l,by go_num,rfl,by omega,BA,rfl,HT,CC,z,AB⟩
   .have HT:=Ab (S CL);clear Q S;go_wp2_with fail
    go_region_law (go_simp;go_at_call 42;refine o.mono ?_;rintro e M ⟨rfl,r⟩;have z:=Ab (q.drew.trans r);have AB:=Ab (s.drew.kept r);clear r)
    all_goals
     clear o;go_wp2
     go_roundg (k-d)
     case measure=>have:=Aa HG;omega
     case rel=>exact⟨d,k,rfl,rfl,by omega,by omega,rfl,EM,HT,z,AB⟩
  ·(have HF:d=l:=by omega);subst HF;have FO:kt (Eu c m d):=⟨BA,EM,CC⟩;by_cases G:d<Z c
   ·(have Go:(d:Int)<(Z c:Int):=by omega);obtain⟨g,HQ,n,L,ad,cp,E,y,d0,d1⟩:=JW (HS.kept q) d G;simp only[fg]at E;obtain⟨rfl,_,rfl⟩:=E;have o:=Ab (I c[d] wr.drew (fj G) q.drew);(have D:kt (CY c m d=(Cq c[d].f m==0)):=by show _=_;unfold CY;rw[dif_pos G]);rw[y]at o D;simp only at o D;generalize Cq ⟨n,L⟩ m=C at o D;have FF:kt (∀P:kq,Ac [] w P->ku P ⟨g,d*2,Y⟩=V (O n)/\ku P ⟨g,d*2+1,Y⟩=V (U ad (Z L) cp)):=by
     intro P HR;obtain⟨g',H1,n',H3,H9,H6,B9,HB,f0,f1⟩:=JW (HS.kept HR) d G;have e2:=HB.symm.trans y;simp only[fg,fu,gi,DF.mk.injEq,Cg.mk.injEq]at B9 e2;obtain⟨⟨rfl,_,_⟩,_,_⟩:=B9;obtain⟨⟨rfl,rfl⟩,rfl,_,rfl⟩:=e2;exact⟨f0,f1⟩
    clear y;go_wp2_with fail
    go_region_held3 (λt=>ku t ⟨g,d*2,Y⟩=V (O n)/\ku t ⟨g,d*2+1,Y⟩=V (U ad (Z L) cp)/\ku t ⟨N,0,Y⟩=V (O u)/\ku t ⟨N,1,Y⟩=V (U A (Z v) B)) (go_keep) ((go_at_call 42;refine o.mono ?_;rintro e M ⟨rfl,r⟩;have z:=Ab (q.drew.trans r);have T:=s.drew.kept r;have x0:=T.cell 0;have x1:=T.cell 1;have x2:=(FF M z).1;have x3:=(FF M z).2;simp at x0 x1;clear r T))
    rename_i HI;clear HI o;go_wp2;go_ret2;refine⟨d,?_,FO,z⟩;rw[Aa D];rfl
   ·(have Go:¬(d:Int)<(Z c:Int):=by omega);(have D:kt (CY c m d=K):=by show _=_;unfold CY;rw[dif_neg G]);(have FT:kt (∀n,Ac [] w (wr.drewN n)):=λn=>q.drewN n);go_wp2_with fail
    go_quiet (fail)
    go_wp2;go_ret2;rw[<-Aa D];exact⟨d,rfl,FO,FT _⟩
def Ac.cellAt(k:Ac [] w u)(h:ku w ⟨b,n,Y⟩=V z):ku u ⟨b,n,Y⟩=V z:=by
 have a:b<w.heap.size:=by
  cases hq:w.heap[b]? with
  |none=>simp[World.cell?,hq]at h
  |some x=>exact(gB.1 hq).1
 have e:=k.block b a (by simp);simp only[World.cell?,e]at h⊢;exact h
def KV(h:ku w ⟨b,n,Y⟩=V z):b<w.heap.size:=by
 cases hq:w.heap[b]? with
 |none=>simp[World.cell?,hq]at h
 |some x=>exact(gB.1 hq).1
theorem Ki(C v:Nat)(l:Option Addr)(m:Nat)(a:kJ DF)(x:DF)(w:kq)(t:ku w ⟨C,v,Y⟩=V (U l (Z a) m))(h:Iw w (U l (Z a) m) a)(s:Dc w x)(u:Z x.f.zC<=1000)(G:Z a<=1000000)(D:∀i j (Q:i<Z a) (R:j<Z a),i<=j->Cq a[j].f x.f<0->Cq a[i].f x.f<0):
  Calls prog 18 #[j2 (V ⟨C,v,Y⟩),kx (j1 (AI x))] w λe o=>∃p:Nat,e=j3 (k0 (CY a x.f p))/\Eu a x.f p/\Ac [] w o:=by
 have P:=KV t;have g:kt (∀wr,Ac [] w wr->Calls prog 41 #[U l (Z a) m,kx (j1 (AI x)),.func (.func 42) #[] #[]] wr λe o=>∃p:Nat,e=j3 (.tuple #[.int J p,k0 (CY a x.f p)])/\Eu a x.f p/\Ac [] wr o):=λwr y=>Hl l m a x wr (h.kept y) (s.kept y) u G D
 obtain⟨⟨b,c⟩,M⟩:=x;obtain⟨n,k,B⟩:=Aj s;simp only at B;subst B;simp only[AI]at g⊢;generalize(⟨b,c⟩:Cg)=X at g⊢;have q:=(kL [] w).alloc (jj [O b,U n (Z c) k].toArray 56);have I:=q.cellAt t;clear t;have d:=kN w [O b,U n (Z c) k] 56;have r:=Ab q;clear h s u D q;go_enter func18,ntmps18;go_wp2_with fail
 change Code.wp _ _ _ _ (w.alloc (jj [O b,U n (Z c) k].toArray 56));generalize w.alloc (jj [O b,U n (Z c) k].toArray 56)=w1 at r I d⊢;generalize w.heap.size=N at d⊢;have E:=d.cell 0;have H:=d.cell 1;simp at E H;have F:=Ab (g w1.drew r.drew);clear g d
 go_region_law (go_simp;go_at_call 41;refine F.mono ?_;rintro e L ⟨p,rfl,hcut,A⟩;have z:=Ab (And.intro hcut (r.drew.trans A));clear hcut A)
 all_goals
  go_wp2;go_ret;exact⟨p,rfl,z.1,z.2⟩
def Bl(a b:zA):Ds a b=0↔a=b:=by
 unfold Ds;constructor
 .intro h;cases h1:kH a.toList b.toList with
  |true=>rw[h1]at h;simp at h
  |false=>
   cases h2:kH b.toList a.toList with
   |true=>rw[h1,h2]at h;simp at h
   |false=>
    cases h3:(a.toList==b.toList)with
    |true=>exact toList_inj (by simpa using h3)
    |false=>rw[QG _ _ h1 h3]at h2;cases h2
 .intro h;rw[h,Oz];rfl
def O1(a b:zA):Ds a b<0↔kH a.toList b.toList=hG:=by
 unfold Ds;cases h1:kH a.toList b.toList with
 |true=>simp
 |false=>
  cases h2:kH b.toList a.toList with
  |true=>simp
  |false=>simp
def Xu(a b:zA):0<Ds a b↔Ds b a<0:=by
 rw[O1];unfold Ds;cases h1:kH a.toList b.toList with
 |true=>
  cases h2:kH b.toList a.toList with
  |false=>simp
  |true=>
   have:=Mh _ _ _ h1 h2;rw[Oz]at this;cases this
 |false=>
  cases h2:kH b.toList a.toList with
  |true=>simp
  |false=>simp
def Pa{a b c:zA}(d:Ds a b<0)(e:Ds b c<0):Ds a c<0:=by
 rw[O1]at*;exact Mh _ _ _ d e
def Sj:∀(l m:kJ zA),En l m=0↔l=m
 |[],[]=>by simp[En]
 |[],_::_=>by simp[En]
 |_::_,[]=>by simp[En]
 |x::l,y::m=>by
  rw[En];by_cases h:Ds x y=0
  .rw[fF h,Sj l m,(Bl x y).1 h];simp
  .rw[fB h];constructor
   .intro a;exact absurd a h
   .intro a;exact absurd ((Bl x y).2 (List.cons.inj a).1) h
def XA:∀(l m:kJ zA),0<En l m↔En m l<0
 |[],[]=>by simp[En]
 |[],_::_=>by simp[En]
 |_::_,[]=>by simp[En]
 |x::l,y::m=>by
  rw[En,En];by_cases h:Ds x y=0
  .have a:Ds y x=0:=(Bl _ _).2 ((Bl _ _).1 h).symm;rw[fF h,fF a];exact XA l m
  ·(have a:¬Ds y x=0:=λb=>h ((Bl _ _).2 ((Bl _ _).1 b).symm));rw[fB h,fB a];exact Xu x y
def O3:∀{l m k:kJ zA},En l m<0->En m k<0->En l k<0
 |[],[],_,h,_=>by simp[En]at h
 |[],_::_,[],_,h=>by simp[En]at h
 |[],_::_,_::_,_,_=>by simp[En]
 |_::_,[],_,h,_=>by simp[En]at h
 |_::_,_::_,[],_,h=>by simp[En]at h
 |x::l,y::m,z::k,h1,h2=>by
  rw[En]at h1 h2⊢;by_cases b:Ds x y=0
  .rw[fF b]at h1;rw[(Bl x y).1 b];by_cases a:Ds y z=0
   .rw[fF a]at h2⊢;exact O3 h1 h2
   .rw[fB a]at h2⊢;exact h2
  .rw[fB b]at h1;by_cases a:Ds y z=0
   .rw[<-(Bl y z).1 a,fB b];exact h1
   .rw[fB a]at h2;have c:=Pa h1 h2;rw[fB (by omega)];exact c
def Fc(a b:Cg):Cq a b=0↔a=b:=by
 obtain⟨d,f⟩:=a;obtain⟨e,g⟩:=b;unfold Cq;simp only;by_cases h:Ds d e=0
 .rw[fF h,Sj,(Bl _ _).1 h];simp
 .rw[fB h];constructor
  .intro c;exact absurd c h
  .intro c;simp only[Cg.mk.injEq]at c;exact absurd ((Bl _ _).2 c.1) h
def Xo(a b:Cg):0<Cq a b↔Cq b a<0:=by
 unfold Cq;by_cases h:Ds a.name b.name=0
 .have c:Ds b.name a.name=0:=(Bl _ _).2 ((Bl _ _).1 h).symm;rw[fF h,fF c];exact XA _ _
 .have c:¬Ds b.name a.name=0:=λd=>h ((Bl _ _).2 ((Bl _ _).1 d).symm)
  rw[fB h,fB c];exact Xu _ _
def G7{a b c:Cg}(f:Cq a b<0)(d:Cq b c<0):Cq a c<0:=by
 unfold Cq at*;by_cases g:Ds a.name b.name=0
 .rw[fF g]at f;rw[(Bl _ _).1 g];by_cases e:Ds b.name c.name=0
  .rw[fF e]at d⊢;exact O3 f d
  .rw[fB e]at d⊢;exact d
 .rw[fB g]at f;by_cases e:Ds b.name c.name=0
  .rw[<-(Bl _ _).1 e,fB g];exact f
  .rw[fB e]at d;have h:=Pa f d;rw[fB (by omega)];exact h
def Bn(f:Ag):Cg:=⟨f.name,f.args.map AA⟩
def AQ(f:Ag):Prop:=∀x∈f.args,A1 x
def J3{a b:Ag}(i:AQ a)(k:AQ b)(h:Bn a=Bn b):a=b:=by
 obtain⟨p,o⟩:=a;obtain⟨q,n⟩:=b;simp only[Bn,Cg.mk.injEq]at h;obtain⟨j,g⟩:=h;subst j
 congr 1
 have f:∀(l m:kJ zA),(∀x∈l,A1 x)->(∀x∈m,A1 x)->l.map AA=m.map AA->l=m:=by
  intro l
  induction l with
  |nil=>intro m _ _ h;cases m with|nil=>rfl|cons y m=>simp at h
  |cons x l ih=>
   intro m e d h;cases m with
   |nil=>simp at h
   |cons y m=>
    simp only[fS,iH]at h;rw[EW (e x (by simp)) (d y (by simp)) h.1,ih m (λz c=>e z (by simp[c])) (λz c=>d z (by simp[c])) h.2]
 exact f o n i k g
def PZ:∀(l m:kJ zA),(∀x∈l,A1 x)->(∀x∈m,A1 x)->(EC l m=hG↔En (l.map AA) (m.map AA)<0)
 |[],[],_,_=>by simp[EC,En]
 |[],_::_,_,_=>by simp[EC,En]
 |_::_,[],_,_=>by simp[EC,En]
 |x::l,y::m,hl,hm=>by
  rw[EC,fS,fS,En];by_cases h:x=y
  .subst h;rw[fF (by simp),fF ((Bl _ _).2 rfl)];exact PZ l m (λz b=>hl z (by simp[b])) (λz b=>hm z (by simp[b]))
  ·(have c:¬(x.toList==y.toList)=hG:=λa=>h (toList_inj (by simpa using a)));(have d:¬Ds (AA x) (AA y)=0:=λa=>h (EW (hl x (by simp)) (hm y (by simp)) ((Bl _ _).1 a)));rw[fB c,fB d,O1,PD (hl x (by simp)) (hm y (by simp))]
def DH{a b:Ag}(e:AQ a)(f:AQ b):Dy a b=hG↔Cq (Bn a) (Bn b)<0:=by
 unfold Dy Cq Bn;simp only;by_cases h:a.name=b.name
 .rw[fF (by rw[h];simp),fF ((Bl _ _).2 h)];exact PZ _ _ e f
 .have d:¬(a.name.toList==b.name.toList)=hG:=λc=>h (toList_inj (by simpa using c))
  rw[fB d,fB (λc=>h ((Bl _ _).1 c)),O1]
def Jd{α:Type}{lt:α->α->Prop}(e:∀a,¬lt a a)(f:∀a b c,lt a b->lt b c->lt a c):∀(l m:kJ α),l.Pairwise lt->m.Pairwise lt->(∀x,x∈l↔x∈m)->l=m
 |[],[],_,_,_=>rfl
 |[],y::m,_,_,h=>by have:=(h y).2 (by simp);simp at this
 |x::l,[],_,_,h=>by have:=(h x).1 (by simp);simp at this
 |x::l,y::m,hl,hm,h=>by
  rw[ir]at hl hm;have g:x=y:=by
   rcases fx.1 ((h x).1 (by simp))with h1|h1
   .exact h1
   .rcases fx.1 ((h y).2 (by simp))with h2|h2
    .exact h2.symm
    .exact absurd (f _ _ _ (hl.1 y h2) (hm.1 x h1)) (e x)
  subst g
  congr 1
  refine Jd e f l m hl.2 hm.2 (λz=>?_);constructor
  .intro d;rcases fx.1 ((h z).1 (by simp[d]))with h1|h1
   .subst h1;exact absurd (hl.1 z d) (e z)
   .exact h1
  .intro d;rcases fx.1 ((h z).2 (by simp[d]))with h1|h1
   .subst h1;exact absurd (hm.1 z d) (e z)
   .exact h1
def Qw(x:BD):kJ BD->kJ BD
 |[]=>[x]
 |y::m=>if Dy x.f y.f then x::y::m else y::Qw x m
def PF(x:BD):∀(l a:kJ BD),l.foldl (Et x) (a,hG)=(a++l,hG)
 |[],a=>by simp
 |y::l,a=>by
  rw[fZ];have:Et x (a,hG) y=(a++[y],hG):=by simp[Et]
  rw[this,PF x l];simp
def UL(x:BD):∀(l a:kJ BD),(if(l.foldl (Et x) (a,K)).2 then(l.foldl (Et x) (a,K)).1 else(l.foldl (Et x) (a,K)).1++[x])=a++Qw x l
 |[],a=>by simp[Qw]
 |y::l,a=>by
  rw[fZ,Qw];cases h:Dy x.f y.f with
  |true=>
   (have:Et x (a,K) y=(a++[x]++[y],hG):=by simp[Et,h]);rw[this,PF];simp
  |false=>
   (have:Et x (a,K) y=(a++[y],K):=by simp[Et,h]);rw[this,UL x l];simp
def Xe(l:kJ BD)(x:BD):MP l x=Qw x l:=by
 have h:=UL x l [];rw[ia]at h;exact h
def Gl(l:kJ BD):Prop:=l.Pairwise λa b=>Dy a.f b.f=hG
def TY{a b c:Ag}(d:AQ a)(g:AQ b)(h:AQ c)(f:Dy a b=hG)(e:Dy b c=hG):Dy a c=hG:=by
 rw[DH d g]at f;rw[DH g h]at e;rw[DH d h];exact G7 f e
def YQ{a b:Ag}(c:AQ a)(d:AQ b)(e:Dy a b=K)(f:a≠b):Dy b a=hG:=by
 rw[DH d c];have g:¬Cq (Bn a) (Bn b)<0:=λh=>by rw[(DH c d).2 h]at e;cases e
 have i:¬Cq (Bn a) (Bn b)=0:=λh=>f (J3 c d ((Fc _ _).1 h))
 exact(Xo _ _).1 (by omega)
def Za{a:Ag}(b:AQ a):Dy a a=K:=by
 cases h:Dy a a with
 |false=>rfl
 |true=>
  rw[DH b b,(Fc _ _).2 rfl]at h;omega
def IL(x p:BD):∀(l:kJ BD),p∈Qw x l↔p=x\/p∈l
 |[]=>by simp[Qw]
 |y::l=>by
  rw[Qw];split
  .simp
  .rw[fx,IL x p l,fx];exact⟨λh=>by rcases h with h|h|h;exact kp (kn h);exact kn h;exact kp (kp h),λh=>by rcases h with h|h|h;exact kp (kn h);exact kn h;exact kp (kp h)⟩
def Oc{x:BD}(b:AQ x.f):∀{l:kJ BD},Gl l->(∀p∈l,AQ p.f)->(∀p∈l,p.f≠x.f)->Gl (Qw x l)
 |[],_,_,_=>by simp[Qw,Gl]
 |y::l,h,hc,hne=>by
  unfold Gl at h;rw[ir]at h;have c:=hc y (by simp);rw[Qw];cases ha:Dy x.f y.f with
  |true=>
   rw[fF rfl];unfold Gl;rw[ir];refine⟨λp a=>?_,ir.2 h⟩;rcases fx.1 a with rfl|a
   .exact ha
   .exact TY b c (hc p (by simp[a])) ha (h.1 p a)
  |false=>
   rw[fB (by simp)];unfold Gl;rw[ir];refine⟨λp a=>?_,Oc b h.2 (λp a=>hc p (by simp[a])) (λp a=>hne p (by simp[a]))⟩;rcases(IL x p l).1 a with rfl|a
   .exact YQ b c ha (λe=>hne y (by simp) e.symm)
   .exact h.1 p a
def Wr{l:kJ BD}{x:BD}(e:AQ x.f)(d:Gl l)(c:∀p∈l,AQ p.f):Gl (Ii l x)/\(∀p∈Ii l x,AQ p.f)/\∀g,(∃p∈Ii l x,p.f=g)↔(∃p∈l,p.f=g)\/g=x.f:=by
 unfold Ii
 cases h:U7 l x.f with
 |true=>
  rw[fF rfl];refine⟨d,c,λg=>⟨kn,λb=>?_⟩⟩;rcases b with b|b
  .exact b
  .unfold U7 at h;rw[gV]at h;obtain⟨p,a,k⟩:=h;exact⟨p,a,by rw[b];exact(F5 _ _).1 k⟩
 |false=>
  rw[fB (by simp),Xe];have j:∀p∈l,p.f≠x.f:=by
   intro p a i;unfold U7 at h;rw[ip]at h;exact h p a ((F5 _ _).2 i)
  refine⟨Oc e d c j,λp a=>?_,λg=>?_⟩
  .rcases(IL x p l).1 a with rfl|a
   .exact e
   .exact c p a
  .constructor
   .rintro ⟨p,a,rfl⟩;rcases(IL x p l).1 a with rfl|a
    .exact kp rfl
    .exact kn ⟨p,a,rfl⟩
   .rintro (⟨p,a,rfl⟩|rfl)
    .exact⟨p,(IL x p l).2 (kp a),rfl⟩
    .exact⟨x,(IL x x l).2 (kn rfl),rfl⟩
def bm(x:Ag):kJ Ag->kJ Ag
 |[]=>[x]
 |y::m=>if Dy x y then x::y::m else y::bm x m
def Ba(s:kJ Ag)(f:Ag):kJ Ag:=if DI s f then s else bm f s
def D5(s:kJ Ag):Prop:=s.Pairwise λa b=>Dy a b=hG
def Qo(x:Ag):∀(l:kJ Ag),Z (bm x l)=Z l+1
 |[]=>rfl
 |y::m=>by
  rw[bm];split
  .rfl
  .rw[fD,Qo x m,fD]
def Uv(x:BD):∀(l:kJ BD),(Qw x l).map BD.f=bm x.f (l.map BD.f)
 |[]=>rfl
 |y::m=>by
  rw[Qw,fS,bm];split
  .rfl
  .rw[fS,Uv x m]
def aB(l:kJ BD)(f:Ag):U7 l f=DI (l.map BD.f) f:=by
 unfold U7 DI;rw[jy];rfl
def Nw(l:kJ BD)(x:BD):(Ii l x).map BD.f=Ba (l.map BD.f) x.f:=by
 unfold Ii Ba;rw[aB];split
 .rfl
 .rw[Xe,Uv]
def eo(f:Ag):BD:=⟨f,k0 K⟩
def cN(s:kJ Ag):(s.map eo).map BD.f=s:=by
 rw[gR];exact List.map_id s
def C0{s:kJ Ag}{f:Ag}(u:AQ f)(j:D5 s)(t:∀p∈s,AQ p):D5 (Ba s f)/\(∀p∈Ba s f,AQ p)/\∀g,g∈Ba s f↔g∈s\/g=f:=by
 have m:Gl (s.map eo):=by
  unfold Gl;rw[iQ];exact j
 have k:∀p∈s.map eo,AQ p.f:=by
  intro p d;obtain⟨g,r,rfl⟩:=fC.1 d;exact t g r
 obtain⟨a,b,c⟩:=Wr (l:=s.map eo) (x:=eo f) u m k;have e:=Nw (s.map eo) (eo f);rw[cN]at e;have o:Ba s f=(Ii (s.map eo) (eo f)).map BD.f:=e.symm;rw[o];refine⟨?_,?_,?_⟩
 .unfold D5;rw[iQ];exact a
 .intro p d;obtain⟨q,i,rfl⟩:=fC.1 d;exact b q i
 .intro g;have n:=c g;rw[fC,n];constructor
  .rintro (⟨p,d,rfl⟩|h)
   .obtain⟨q,i,rfl⟩:=fC.1 d;exact kn i
   .exact kp h
  .rintro (h|h)
   .exact kn ⟨eo g,fW h,rfl⟩
   .exact kp h
def consts(cs:kJ AY):kJ zA:=cs.flatMap λc=>(c.head.args.filter λt=>t.v==0).map AG.s
structure FV(cs:kJ AY)(f:Ag):Prop where
 ze:∃c∈cs,f.name=c.head.name/\Z f.args=Z c.head.args
 args:∀x∈f.args,x∈consts cs
def D3(l:kJ zA):Nat->kJ (kJ zA)
 |0=>[[]]
 |n+1=>l.flatMap λx=>(D3 l n).map (x:: ·)
def SW(cs:kJ AY):kJ Ag:=cs.flatMap λc=>(D3 (consts cs) (Z c.head.args)).map (Ag.mk c.head.name)
def Nf(l:kJ zA):∀(m:kJ zA),(∀x∈m,x∈l)->m∈D3 l (Z m)
 |[],_=>by simp[D3]
 |x::m,h=>by
  rw[fD,D3,gc];exact⟨x,h x (by simp),fC.2 ⟨m,Nf l m (λy a=>h y (by simp[a])),rfl⟩⟩
def FV.mem{a:kJ AY}{f:Ag}(h:FV a f):f∈SW a:=by
 obtain⟨c,e,d,b⟩:=h.ze;unfold SW;rw[gc];refine⟨c,e,fC.2 ⟨f.args,?_,?_⟩⟩
 .rw[<-b];exact Nf _ _ h.args
 .rw[<-d]
def Kw{α:Type}:∀(l m:kJ α),l.Nodup->(∀z∈l,z∈m)->Z l<=Z m
 |[],m,_,_=>fP _
 |x::l,m,hn,hs=>by
  rw[iv]at hn;obtain⟨a,b,rfl⟩:=List.append_of_mem (hs x (by simp));have:=Kw l (a++b) hn.2 (λz d=>by
   have c:=hs z (by simp[d])
   rw[fA,fx]at c
   rw[fA]
   rcases c with c|c|c
   .exact kn c
   .subst c;exact absurd d hn.1
   .exact kp c)
  simp only[fE,fD]at this⊢;omega
def D5.nodup{s:kJ Ag}(h:D5 s)(c:∀f∈s,AQ f):s.Nodup:=by
 unfold List.Nodup;refine iG (fun{a b} ha hb hab e=>?_) h;subst e;rw[Za (c a ha)]at hab;cases hab
def Yb{s t:kJ Ag}(w:D5 s)(u:D5 t)(j:∀f∈s,AQ f)(ct:∀f∈t,AQ f)(h:∀f,f∈s↔f∈t):s=t:=by
 have r:(s.map Bn).Pairwise λa b=>Cq a b<0:=by
  rw[iQ];exact iG (fun{a b} i hb g=>(DH (j a i) (j b hb)).1 g) w
 have q:(t.map Bn).Pairwise λa b=>Cq a b<0:=by
  rw[iQ];exact iG (fun{a b} i hb g=>(DH (ct a i) (ct b hb)).1 g) u
 have v:s.map Bn=t.map Bn:=by
  refine Jd (lt:=λa b=>Cq a b<0) (λa i=>?_) (λa b c g p=>G7 g p) _ _ r q (λx=>?_)
  .have:Cq a a=0:=(Fc a a).2 rfl;omega
  .rw[fC,fC];exact⟨fun⟨f,d,e⟩=>⟨f,(h f).1 d,e⟩,fun⟨f,d,e⟩=>⟨f,(h f).2 d,e⟩⟩
 have o:∀(l m:kJ Ag),(∀f∈l,AQ f)->(∀f∈m,AQ f)->l.map Bn=m.map Bn->l=m:=by
  intro l
  induction l with
  |nil=>intro m _ _ e;cases m with|nil=>rfl|cons y m=>simp at e
  |cons x l ih=>
   intro m n k e;cases m with
   |nil=>simp at e
   |cons y m=>
    rw[fS,fS,iH]at e;rw[J3 (n x (by simp)) (k y (by simp)) e.1,ih m (λf d=>n f (by simp[d])) (λf d=>k f (by simp[d])) e.2]
 exact o s t j ct v
def PO(cs:kJ AY):Prop:=∀c∈cs,∀t∈c.head.args,t.v=0->A1 t.s
def SI{d:kJ AY}(h:PO d):∀x∈consts d,A1 x:=by
 intro x a;unfold consts at a;obtain⟨c,f,a⟩:=gc.1 a;obtain⟨t,b,rfl⟩:=fC.1 a;obtain⟨b,e⟩:=fT.1 b;exact h c f t b (by simpa using e)
def FV.canon(h:PO c){f:Ag}(a:FV c f):AQ f:=λx b=>SI h x (a.args x b)
def AQ.zN{f:Ag}(h:AQ f):Kh f:=λx a=>(h x a).size
def Qd{d:kJ AY}(j:Q5 d){s:kJ Ag}(p:∀f∈s,FV d f)(q:∀f∈s,Kh f){c:AY}(h:c∈d)(b:e∈Cp (Ak c) s):FV d (Av e c.head):=by
 refine⟨⟨c,h,rfl,by simp[Av]⟩,λx r=>?_⟩;obtain⟨t,i,rfl⟩:=fC.1 r;unfold Cp at b;obtain⟨_,_,_,_,n⟩:=DE q (Ak c) [BM] (λe b=>by simp at b;rw[b];rfl) (j.args c h) e (fT.1 b).1;by_cases g:t.v=0
 .unfold AJ;rw[fF g];unfold consts;exact gc.2 ⟨c,h,fC.2 ⟨t,fT.2 ⟨i,by rw[g];rfl⟩,rfl⟩⟩
 .rcases j.head c h t i with a|⟨y,l,k,u,m,o⟩
  .exact absurd a g
  .have a:=(p _ (n y l k).1).args (AJ e u) (fW m);unfold AJ at a⊢;rw[o]at a;rw[fB g]at a⊢;exact a
structure Jj(cs:kJ AY)(zR:zA->Nat)(n:Nat)(s:kJ Ag):Prop where
 work:Dw (Fj cs) (λf=>zR f.name) n (·∈s)
 zH:D5 s
 zX:∀f∈s,FV cs f
def Jj.start(b:kJ AY)(a:zA->Nat):Jj b a 0 []:=
 ⟨(Dw.start (Fj b) (λf:Ag=>a f.name)).cong _ _ (λf=>by simp),List.Pairwise.nil,λf c=>by simp at c⟩
def Jj.len{b:zA->Nat}{s:kJ Ag}(d:PO c)(h:Jj c b n s):Z s<=Z (SW c):=
 Kw s (SW c) (h.zH.nodup λf a=>(h.zX f a).canon d) λf a=>(h.zX f a).mem
structure PU(cs:kJ AY)(zR:zA->Nat):Prop where
 zN:Q5 cs
 lay:Dl cs zR
 zL:PO cs
def cd{k:kJ AY}{g:zA->Nat}(j:PU k g){i s:kJ Ag}(q:Jj k g n i)(h:Jj k g n s)(o:∀f∈i,f∈s)(t:∀f∈s,f∈i\/g f.name=n)
  {c:AY} (r:c∈k) (v:g c.head.name=n)  (p:e∈Cp (Ak c) i):
  Jj k g n (Ba s (Av e c.head))/\(∀f∈i,f∈Ba s (Av e c.head))/\∀f∈Ba s (Av e c.head),f∈i\/g f.name=n:=by
 have u:∀f∈i,Kh f:=λf d=>((q.zX f d).canon j.zL).zN
 have l:=Qd j.zN q.zX u r p;obtain⟨a,b,m⟩:=C0 (l.canon j.zL) h.zH (λf d=>(h.zX f d).canon j.zL);refine⟨⟨?_,a,λf d=>?_⟩,λf d=>(m f).2 (kn (o f d)),λf d=>?_⟩
 .exact(ay j.lay j.zN h.work o t u r v p).cong _ _ (λf=>(m f).symm)
 .rcases(m f).1 d with d|d
  .exact h.zX f d
  .rw[d];exact l
 .rcases(m f).1 d with d|d
  .exact t f d
  .right;rw[d];exact v
def G3(c:AY)(a:kJ Ag×Bool)(e:kJ zA):kJ Ag×Bool:=if DI a.1 (Av e c.head)then a else(Ba a.1 (Av e c.head),hG)
def CO(zR:zA->Nat)(n:Nat)(a:kJ Ag×Bool)(c:AY):kJ Ag×Bool:=if zR c.head.name=n then(Cp (Ak c) a.1).foldl (G3 c) a else a
def DZ(cs:kJ AY)(zR:zA->Nat)(n:Nat)(s:kJ Ag):kJ Ag×Bool:=cs.foldl (CO zR n) (s,K)
def Qb{d:kJ AY}{b:zA->Nat}(r:PU d b){n:Nat}{g:kJ Ag}(j:Jj d b n g){c:AY}(t:c∈d)(o:b c.head.name=n):
  ∀(l:kJ (kJ zA)) (s:kJ Ag) (m:Bool),(∀e∈l,e∈Cp (Ak c) g)->Jj d b n s->(∀f∈g,f∈s)->(∀f∈s,f∈g\/b f.name=n)->
   Jj d b n (l.foldl (G3 c) (s,m)).1/\Z s<=Z (l.foldl (G3 c) (s,m)).1/\
    ((l.foldl (G3 c) (s,m)).2=K->(l.foldl (G3 c) (s,m)).1=s/\m=K/\∀e∈l,Av e c.head∈s)/\
    ((l.foldl (G3 c) (s,m)).2=hG->m=hG\/Z s<Z (l.foldl (G3 c) (s,m)).1)
 |[],s,m,_,h,_,_=>⟨h,fJ _,λa=>⟨rfl,a,λe D=>by simp at D⟩,λa=>kn a⟩
 |e::l,s,m,hl,h,hsub,hnew=>by
  rw[fZ];have w:∀e∈l,e∈Cp (Ak c) g:=λx i=>hl x (by simp[i])
  cases hh:DI s (Av e c.head)with
  |true=>
   (have q:G3 c (s,m) e=(s,m):=by unfold G3;rw[hh,fF rfl]);rw[q];obtain⟨p,u,k,v⟩:=Qb r j t o l s m w h hsub hnew;refine⟨p,u,λa=>?_,v⟩;obtain⟨z,E,A⟩:=k a;refine⟨z,E,λx i=>?_⟩;rcases fx.1 i with rfl|i
   .exact(C5 _ _).1 hh
   .exact A x i
  |false=>
   (have q:G3 c (s,m) e=(Ba s (Av e c.head),hG):=by unfold G3;rw[hh,fB (by simp)]);rw[q];obtain⟨y,C,B⟩:=cd r j h hsub hnew t o (hl e (by simp));obtain⟨p,u,k,v⟩:=Qb r j t o l (Ba s (Av e c.head)) hG w y C B;(have F:Z (Ba s (Av e c.head))=Z s+1:=by unfold Ba;rw[hh,fB (by simp),Qo]);refine⟨p,by omega,λa=>?_,λa=>kp (by omega)⟩;have:=(k a).2.1;cases this
def JS{j:kJ AY}{a:zA->Nat}(A:PU j a){n:Nat}:
  ∀(b:kJ AY) (s:kJ Ag) (m:Bool),(∀c∈b,c∈j)->Jj j a n s->
   Jj j a n (b.foldl (CO a n) (s,m)).1/\Z s<=Z (b.foldl (CO a n) (s,m)).1/\
    ((b.foldl (CO a n) (s,m)).2=K->(b.foldl (CO a n) (s,m)).1=s/\m=K/\∀c∈b,a c.head.name=n->∀e∈Cp (Ak c) s,Av e c.head∈s)/\
    ((b.foldl (CO a n) (s,m)).2=hG->m=hG\/Z s<Z (b.foldl (CO a n) (s,m)).1)
 |[],s,m,_,h=>⟨h,fJ _,λg=>⟨rfl,g,λc P=>by simp at P⟩,λg=>kn g⟩
 |c::b,s,m,hd,h=>by
  rw[fZ];have H:∀c∈b,c∈j:=λx d=>hd x (by simp[d])
  by_cases l:a c.head.name=n
  ·(have z:CO a n (s,m) c=(Cp (Ak c) s).foldl (G3 c) (s,m):=by unfold CO;rw[fF l]);rw[z];obtain⟨o,G,t,B⟩:=Qb A h (hd c (by simp)) l (Cp (Ak c) s) s m (λe i=>i) h (λf u=>u) (λf u=>kn u);generalize(Cp (Ak c) s).foldl (G3 c) (s,m)=r at o G t B⊢;obtain⟨M,N⟩:=r;simp only at o G t B;obtain⟨y,E,v,w⟩:=JS A b M N H o;refine⟨y,by omega,λg=>?_,λg=>?_⟩
   .obtain⟨p,C,q⟩:=v g;obtain⟨I,Q,L⟩:=t C;subst I;refine⟨p,Q,λx d k e i=>?_⟩;rcases fx.1 d with rfl|d
    .exact L e i
    .exact q x d k e i
   .rcases w g with F|F
    .rcases B F with D|D
     .exact kn D
     .exact kp (by omega)
    .exact kp (by omega)
  ·(have z:CO a n (s,m) c=(s,m):=by unfold CO;rw[fB l]);rw[z];obtain⟨y,E,v,w⟩:=JS A b s m H h;refine⟨y,E,λg=>?_,w⟩;obtain⟨p,C,q⟩:=v g;refine⟨p,C,λx d k e i=>?_⟩;rcases fx.1 d with rfl|d
   .exact absurd k l
   .exact q x d k e i
def Va{a:kJ AY}{b:zA->Nat}(d:PU a b){s:kJ Ag}(h:Jj a b n s):
  Jj a b n (DZ a b n s).1/\((DZ a b n s).2=K->(DZ a b n s).1=s/\Jj a b (n+1) s)/\
   ((DZ a b n s).2=hG->Z s<Z (DZ a b n s).1)/\Z (DZ a b n s).1<=Z (SW a):=by
 unfold DZ;obtain⟨i,q,l,m⟩:=JS d a s K (λc p=>p) h;refine⟨i,λe=>?_,λe=>?_,i.len d.zL⟩
 .obtain⟨k,_,o⟩:=l e;exact⟨k,Y1 d.zN h.work (λf j=>((h.zX f j).canon d.zL).zN) o,h.zH,h.zX⟩
 .rcases m e with g|g
  .cases g
  .exact g
def ci{a:kJ AY}{e g:zA->Nat}(j:PU a e)(i:PU a g){s t:kJ Ag}(b:Jj a e n s)(h:Jj a g m t)(k:∀c∈a,e c.head.name<n)(l:∀c∈a,g c.head.name<m):s=t:=
 Yb b.zH h.zH (λf d=>(b.zX f d).canon j.zL) (λf d=>(h.zX f d).canon i.zL) (aU j.lay i.lay b.work h.work k l)
def YW{a:kJ AY}(h:(Ar s (Ae s 0)).2.2=K)(e:a.map AY.erase=(Ar s (Ae s 0)).1)(f:CD a=(0,0)):PU a (BJ a 6):=by
 have d:=Nz f;refine⟨d.zN (Wg h e),d.levels,λc j t g i=>?_⟩;rcases(Kt h e c j).1.args t g with⟨_,b⟩|b
 .exact b
 .rw[i]at b;exact absurd b.1 (by decide)
def BQ(x:BH):kJ AG:=if(x.kind==97||x.kind==33)=hG then x.A.args else[x.L,x.R]
def DS(e:kJ zA)(ts:kJ AG):Bool:=ts.all λt=> !SX (AJ e t)
def Ef(body:kJ BH)(s:kJ Ag)(e:kJ zA):Bool:=body.any λx=>DS e (BQ x)&& !B7 (Av e) (AJ e) s x
def AE(al:UInt8->kJ zA->kJ zA)(body:kJ BH)(s:kJ Ag):kJ UInt8->kJ zA->kJ (kJ zA)
 |[],e=>if Ef body s e then[] else[e]
 |v::vs,e=>if Ef body s e then[] else(al v e).flatMap λt=>AE al body s vs (e.set (v.toNat-65) t)
def bg(e:kJ zA)(v:UInt8):zA:=e.getD (v.toNat-65) kB
def Gg(v:UInt8):Prop:=65<=v.toNat/\v.toNat<=90
def Mu(d:Z e=26)(a:Gg g)(t:zA):bg (e.set (g.toNat-65) t) g=t:=by
 unfold bg;obtain⟨b,c⟩:=a;rw[fG,jW (by omega)];rfl
def aY{u v:UInt8}(c:Gg u)(b:Gg v)(h:u≠v)(t:zA):bg (e.set (v.toNat-65) t) u=bg e u:=by
 unfold bg;have a:v.toNat-65≠u.toNat-65:=by
  intro f;obtain⟨i,d⟩:=c;obtain⟨j,g⟩:=b;exact h (il.1 (by omega))
 rw[fG,List.getElem?_set_ne a,<-fG]
def B4{j:UInt8->kJ zA->kJ zA}{l:kJ BH}{s:kJ Ag}(k:∀v e,∀t∈j v e,t.size≠0):
  ∀(d:kJ UInt8) (e b:kJ zA),Z e=26->(∀v∈d,Gg v)->b∈AE j l s d e->
   Z b=26/\Ef l s b=K/\(∀u,Gg u->u∉d->bg b u=bg e u)/\∀v∈d,(bg b v).size≠0
 |[],e,b,he,_,a=>by
  rw[AE]at a;split at a
  .simp at a
  .rename_i n;rw[ft]at a;subst a;exact⟨he,by simpa using n,λ_ _ _=>rfl,λv f=>by simp at f⟩
 |v::d,e,b,he,f,a=>by
  rw[AE]at a;split at a
  .simp at a
  .obtain⟨t,r,a⟩:=gc.1 a;have i:=f v (by simp);obtain⟨q,o,m,p⟩:=B4 k d (e.set (v.toNat-65) t) b (by simp[he]) (λu c=>f u (by simp[c])) a;refine⟨q,o,λu c h=>?_,λu c=>?_⟩
   .rw[fx,not_or]at h;rw[m u c h.2,aY c i h.1]
   .by_cases g:u∈d
    .exact p u g
    .rcases fx.1 c with rfl|c
     .rw[m u i g,Mu he i];exact k _ _ t r
     .exact absurd c g
def MD(x:BH):Prop:=∀t∈BQ x,By t
def DN.lgood{x:BH}(h:DN x):MD x:=by
 intro t a;unfold DN at h;unfold BQ at a;split at h
 .rename_i b;rw[fF b]at a;exact(h.args t a).zN
 .rename_i b;rw[fB b]at a;rcases fx.1 a with rfl|a
  .exact h.1.zN
  .rw[ft]at a;subst a;exact h.2.1.zN
def Lw{σ:UInt8->zA}{x:BH}(h:∀t∈BQ x,AJ e t=Ev σ t):B7 (Av e) (AJ e) f x=B7 (Br σ) (Ev σ) f x:=by
 unfold BQ at h;by_cases a:(x.kind==97||x.kind==33)=hG
 .rw[fF a]at h;have c:Av e x.A=Br σ x.A:=by
   unfold Av Br;rw[gN h]
  unfold B7;rw[c];rw[ie]at a;rcases a with a|a
  .rw[fF a,fF a]
  .by_cases b:(x.kind==97)=hG
   .rw[fF b,fF b]
   .rw[fB b,fB b,fF a,fF a]
 .rw[fB a]at h;have g:=h x.L (by simp);have d:=h x.R (by simp);rw[ie,not_or]at a;unfold B7;rw[fB a.1,fB a.1,fB a.2,fB a.2,g,d]
def Sk{b:kJ BH}(k:∀x∈b,MD x){σ:UInt8->zA}(h:∀x∈b,B7 (Br σ) (Ev σ) f x=hG)(i:Ee e σ):Ef b f e=K:=by
 unfold Ef;rw[ip];intro x g a;rw[fU]at a;have j:∀t∈BQ x,AJ e t=Ev σ t:=by
  intro t d;have c:=(ik.1 a.1) t d;refine i.val (k x g t d) (λl=>?_);rw[(DQ _).2 l]at c;cases c
 rw[Lw j,h x g]at a;simp at a
def WT(al:UInt8->kJ zA->kJ zA)(body:kJ BH)(s:kJ Ag):Prop:=
 ∀(v:UInt8) (e:kJ zA) (σ:UInt8->zA),Gg v->Ee e σ->(∀x∈body,B7 (Br σ) (Ev σ) s x=hG)->(∃x∈body,(x.kind==97)=hG/\∃u∈x.A.args,u.v=v)->σ v∈al v e
def IP{l:UInt8->kJ zA->kJ zA}{f:kJ BH}{s:kJ Ag}(k:∀x∈f,MD x)(n:WT l f s){σ:UInt8->zA}(g:∀x∈f,B7 (Br σ) (Ev σ) s x=hG):
  ∀(d:kJ UInt8) (e:kJ zA),Ee e σ->(∀v∈d,Gg v/\∃x∈f,(x.kind==97)=hG/\∃u∈x.A.args,u.v=v)->
   ∃b∈AE l f s d e,Ee b σ/\(∀v∈d,bg b v=σ v)/\∀u,Gg u->bg e u=σ u->bg b u=σ u
 |[],e,ha,_=>by
  refine⟨e,?_,ha,λv i=>by simp at i,λu _ h=>h⟩;rw[AE,Sk k g ha];simp
 |v::d,e,ha,i=>by
  obtain⟨c,t⟩:=i v (by simp);obtain⟨b,q,o,r,j⟩:=IP k n g d (e.set (v.toNat-65) (σ v)) (ha.set c.1 c.2) (λu a=>i u (by simp[a]));refine⟨b,?_,o,λu a=>?_,λu a p=>?_⟩
  .rw[AE,Sk k g ha];rw[fB (by simp)];exact gc.2 ⟨σ v,n v e σ c ha g t,q⟩
  .rcases fx.1 a with rfl|a
   .exact j u c (Mu ha.1 c _)
   .exact r u a
  .by_cases m:u=v
   .subst m;exact j u a (Mu ha.1 c _)
   .exact j u a (by rw[aY a c m];exact p)
def QE(al:UInt8->kJ zA->kJ zA)(c:AY)(hv rv:kJ UInt8)(s:kJ Ag):kJ Ag:=
 ((AE al (Ak c) s hv BM).filter λb=> !DI s (Av b c.head)&& !(AE al (Ak c) s rv b).isEmpty).map λb=>Av b c.head
structure QX(c:AY)(hv rv:kJ UInt8):Prop where
 ok:∀v,v∈hv\/v∈rv->Gg v/\∃x∈Ak c,(x.kind==97)=hG/\∃u∈x.A.args,u.v=v
 apart:∀v∈hv,v∉rv
 head:∀t∈c.head.args,t.v=0\/t.v∈hv
 body:∀x∈Ak c,∀t∈BQ x,t.v=0\/t.v∈hv\/t.v∈rv
 lits:∀x∈Ak c,MD x
def Gt{t:AG}(h:t.v≠0):AJ e t=bg e t.v:=by
 unfold AJ bg;rw[fB h]
def Se{m:UInt8->kJ zA->kJ zA}{c:AY}{n k:kJ UInt8}{s:kJ Ag}(g:QX c n k)(y:∀v e,∀t∈m v e,t.size≠0){f:Ag}(q:f∈QE m c n k s):
  f∉s/\∃σ,(∀x∈Ak c,B7 (Br σ) (Ev σ) s x=hG)/\f=Br σ c.head:=by
 unfold QE at q;obtain⟨b,o,rfl⟩:=fC.1 q;obtain⟨o,z⟩:=fT.1 o;rw[fU]at z;obtain⟨A,r⟩:=z;refine⟨λh=>?_,?_⟩
 .rw[(C5 _ _).2 h]at A;cases A
 .obtain⟨a,F⟩:∃a,a∈AE m (Ak c) s k b:=by
   cases hl:AE m (Ak c) s k b with
   |nil=>rw[hl]at r;simp at r
   |cons x l=>exact⟨x,by simp⟩
  obtain⟨G,_,_,H⟩:=B4 y n BM b rfl (λv i=>(g.ok v (kn i)).1) o;obtain⟨L,u,E,I⟩:=B4 y k b a G (λv i=>(g.ok v (kp i)).1) F;have w:∀v∈n,bg a v=bg b v:=λv i=>E v (g.ok v (kn i)).1 (g.apart v i)
  refine⟨OO a,λx p=>?_,?_⟩
  .have D:DS a (BQ x)=hG:=by
    unfold DS;rw[ik];intro t j;have C:(AJ a t).size≠0:=by
     by_cases d:t.v=0
     .rcases g.lits x p t j with h|h
      .unfold AJ;rw[fF d];exact h.2
      .rw[d]at h;exact absurd h.1 (by decide)
     .rw[Gt d];rcases g.body x p t j with h|h|h
      .exact absurd h d
      .rw[w _ h];exact H _ h
      .exact I _ h
    cases hE:SX (AJ a t)with
    |false=>rfl
    |true=>exact absurd ((DQ _).1 hE) C
   have B:B7 (Av a) (AJ a) s x=hG:=by
    unfold Ef at u;have:=(ip.1 u) x p;rw[D,ii]at this;simpa using this
   rw[<-Lw (e:=a) (σ:=OO a) (λt j=>(J1 a t).symm)];exact B
  .unfold Av Br
   congr 1
   refine gN (λt j=>?_);rw[J1];by_cases d:t.v=0
   .unfold AJ;rw[fF d,fF d]
   .rw[Gt d,Gt d];rcases g.head t j with h|h
    .exact absurd h d
    .exact(w _ h).symm
def am{i:UInt8->kJ zA->kJ zA}{c:AY}{g e:kJ UInt8}(a:QX c g e)(o:WT i (Ak c) f){σ:UInt8->zA}(n:∀x∈Ak c,B7 (Br σ) (Ev σ) f x=hG):
  Br σ c.head∈f\/Br σ c.head∈QE i c g e f:=by
 obtain⟨b,u,q,p,_⟩:=IP a.lits o n g BM (Ee.start σ) (λv h=>a.ok v (kn h));have j:Av b c.head=Br σ c.head:=by
  unfold Av Br
  congr 1
  refine gN (λt r=>?_);by_cases d:t.v=0
  .unfold AJ Ev;rw[fF d,fF d]
  .rw[Gt d];unfold Ev;rw[fB d];rcases a.head t r with h|h
   .exact absurd h d
   .exact p _ h
 by_cases k:Br σ c.head∈f
 .exact kn k
 .right;obtain⟨w,m,_⟩:=IP a.lits o n e b q (λv h=>a.ok v (kp h));unfold QE;refine fC.2 ⟨b,fT.2 ⟨u,?_⟩,j⟩;rw[fU];refine⟨?_,?_⟩
  .rw[j];cases hh:DI f (Br σ c.head)with
   |false=>rfl
   |true=>exact absurd ((C5 _ _).1 hh) k
  .cases hl:AE i (Ak c) f e b with
   |nil=>rw[hl]at m;simp at m
   |cons x l=>rfl
def P3(e:kJ zA)(ts:kJ AG)(xs:kJ zA):Bool:=(ts.zip xs).all λp=>SX (AJ e p.1)||(AJ e p.1).toList==p.2.toList
def Gm(s:kJ Ag)(A:C8)(i:Nat)(e:kJ zA):kJ zA:=(s.filter λf=>(f.name.toList==A.name.toList)&&P3 e A.args f.args).map λf=>f.args.getD i kB
def CT(body:kJ BH)(s:kJ Ag)(v:UInt8)(e:kJ zA):kJ (kJ zA):=
 body.filterMap λx=>if x.kind==97 then(x.A.args.findIdx? λt=>t.v==v).map λi=>Gm s x.A i e else Y
def OF(al:UInt8->kJ zA->kJ zA)(body:kJ BH)(s:kJ Ag):Prop:=∀v e t,t∈al v e↔CT body s v e≠[]/\∀l∈CT body s v e,t∈l
def UW{e:kJ zA}{σ:UInt8->zA}(b:Ee e σ):∀(a:kJ AG),(∀t∈a,By t)->P3 e a (a.map (Ev σ))=hG
 |[],_=>rfl
 |t::a,hg=>by
  have ih:=UW b a (λu c=>hg u (by simp[c]));unfold P3 at ih⊢;rw[fS,jU,js,ih,Bool.and_true];cases hz:SX (AJ e t)with
  |true=>rfl
  |false=>
   rw[iZ,b.val (hg t (by simp)) (λh=>by rw[(DQ _).2 h]at hz;cases hz)];simp
def XI{m:UInt8->kJ zA->kJ zA}{d:kJ BH}(B:OF m d f)(r:∀x∈d,MD x):WT m d f:=by
 intro v e σ n G F q;rw[B];refine⟨λg=>?_,λl k=>?_⟩
 .obtain⟨x,c,b,u,z,C⟩:=q;unfold CT at g;rw[List.filterMap_eq_nil_iff]at g;have a:=g x c;rw[fF b,Option.map_eq_none_iff,List.findIdx?_eq_none_iff]at a;have:=a u z;rw[C]at this;simp at this
 .unfold CT at k;obtain⟨x,c,a⟩:=ig.1 k;by_cases b:(x.kind==97)=hG
  .rw[fF b,jm]at a;obtain⟨i,E,rfl⟩:=a;obtain⟨o,D,_⟩:=iE.1 E;(have w:v≠0:=λh=>by rw[h]at n;exact absurd n.1 (by decide));(have j:x.A.args[i].v=v:=by simpa using D);have y:Br σ x.A∈f:=by
    have:=F x c;unfold B7 at this;rw[fF b]at this;exact(C5 _ _).1 this
   unfold Gm;refine fC.2 ⟨Br σ x.A,fT.2 ⟨y,?_⟩,?_⟩
   .rw[fU];refine⟨by simp[Br],UW G x.A.args (λt p=>r x c t ?_)⟩;unfold BQ;rw[b,jp,fF rfl];exact p
   .unfold Br;simp only;rw[fG,io,fI o];simp only[im,Option.getD_some];unfold Ev;rw[fB (by rw[j];exact w),j]
  .rw[fB b]at a;cases a
def bM{n:UInt8->kJ zA->kJ zA}{b:kJ BH}{s:kJ Ag}(y:OF n b s)(w:∀f∈s,Kh f)(u:∀f∈s,∀x∈b,(x.kind==97)=hG->f.name=x.A.name->Z f.args=Z x.A.args):∀v e,∀t∈n v e,t.size≠0:=by
 intro v e t r;obtain⟨C,D⟩:=(y v e t).1 r;obtain⟨l,g⟩:∃l,l∈CT b s v e:=by
  cases h:CT b s v e with
  |nil=>exact absurd h C
  |cons a m=>exact⟨a,by simp⟩
 have o:=D l g;unfold CT at g;obtain⟨x,B,c⟩:=ig.1 g;by_cases d:(x.kind==97)=hG
 .rw[fF d,jm]at c;obtain⟨i,z,rfl⟩:=c;obtain⟨E,_,_⟩:=iE.1 z;unfold Gm at o;obtain⟨f,q,rfl⟩:=fC.1 o;obtain⟨k,p⟩:=fT.1 q;rw[fU]at p;have F:=u f k x B d (toList_inj (by simpa using p.1));have j:i<Z f.args:=by omega
  rw[fG,fI j];exact w f k _ (fj j)
 .rw[fB d]at c;cases c
def Xc{i:kJ AY}{e:zA->Nat}(o:PU i e){k s:kJ Ag}(F:Jj i e n k)(h:Jj i e n s)(E:∀f∈k,f∈s)(A:∀f∈s,f∈k\/e f.name=n)
  {c:AY} (r:c∈i) (w:e c.head.name=n) {σ:UInt8->zA} (D:∀x∈Ak c,B7 (Br σ) (Ev σ) k x=hG):
  Jj i e n (Ba s (Br σ c.head))/\(∀f∈k,f∈Ba s (Br σ c.head))/\(∀f∈Ba s (Br σ c.head),f∈k\/e f.name=n):=by
 have B:FV i (Br σ c.head):=by
  refine⟨⟨c,r,rfl,by simp[Br]⟩,λx Q=>?_⟩;obtain⟨t,z,rfl⟩:=fC.1 Q;by_cases q:t.v=0
  .unfold Ev;rw[fF q];unfold consts;exact gc.2 ⟨c,r,fC.2 ⟨t,fT.2 ⟨z,by rw[q];rfl⟩,rfl⟩⟩
  .rcases o.zN.head c r t z with H|⟨y,L,G,u,M,N⟩
   .exact absurd H q
   .have j:=D y L;unfold B7 at j;rw[fF G,C5]at j;have l:=(F.zX _ j).args (Ev σ u) (fW M);unfold Ev at l⊢;rw[N]at l;rw[fB q]at l⊢;exact l
 obtain⟨a,b,m⟩:=C0 (B.canon o.zL) h.zH (λf d=>(h.zX f d).canon o.zL);have j:=(GZ c σ k).1 D;have C:Fj i (DL c σ):=⟨c,r,σ,j.2,rfl⟩;have I:=h.work.step (Fj i) (λf=>e f.name) o.lay.zU C w ⟨λg p=>E g (j.1.1 g p),λg p P=>by
  rcases A g P with h|h
  .exact j.1.2 g p h
  .have l:e g.name<e (DL c σ).head.name:=o.lay.zU.neg _ C g p
   have R:e (DL c σ).head.name=n:=w
   omega⟩
 refine⟨⟨I.cong _ _ (λf=>(m f).symm),a,λf d=>?_⟩,λf d=>(m f).2 (kn (E f d)),λf d=>?_⟩
 .rcases(m f).1 d with d|d
  .exact h.zX f d
  .rw[d];exact B
 .rcases(m f).1 d with d|d
  .exact A f d
  .right;rw[d];exact w
def J8(s:kJ Ag)(f:Ag):Z s<=Z (Ba s f)/\(f∉s->Z (Ba s f)=Z s+1):=by
 unfold Ba;cases hh:DI s f with
 |true=>rw[fF rfl];exact⟨fJ _,λh=>absurd ((C5 _ _).1 hh) h⟩
 |false=>rw[fB (by simp),Qo];exact⟨by omega,λ_=>rfl⟩
def Kc{b:kJ AY}{a:zA->Nat}(e:PU b a){n:Nat}{d:kJ Ag}(i:Jj b a n d){c:AY}(j:c∈b)(k:a c.head.name=n):
  ∀(l:kJ Ag) (s:kJ Ag),(∀f∈l,∃σ,(∀x∈Ak c,B7 (Br σ) (Ev σ) d x=hG)/\f=Br σ c.head)->Jj b a n s->(∀f∈d,f∈s)->(∀f∈s,f∈d\/a f.name=n)->
   Jj b a n (l.foldl Ba s)/\Z s<=Z (l.foldl Ba s)
 |[],s,_,h,_,_=>⟨h,fJ _⟩
 |f::l,s,hl,h,hsub,hnew=>by
  obtain⟨σ,r,rfl⟩:=hl f (by simp);obtain⟨m,p,q⟩:=Xc e i h hsub hnew j k r;obtain⟨o,u⟩:=Kc e i j k l _ (λg t=>hl g (by simp[t])) m p q;rw[fZ];have:=(J8 s (Br σ c.head)).1;exact⟨o,by omega⟩
structure UF where
 hv:AY->kJ UInt8
 rv:AY->kJ UInt8
 al:AY->kJ Ag->UInt8->kJ zA->kJ zA
def UF.new(W:UF)(c:AY)(s:kJ Ag):kJ Ag:=QE (W.al c s) c (W.hv c) (W.rv c) s
def Ja(W:UF)(a:kJ Ag×Bool)(c:AY):kJ Ag×Bool:=((W.new c a.1).foldl Ba a.1,a.2|| !(W.new c a.1).isEmpty)
def Fv(W:UF)(ds:kJ AY)(s:kJ Ag):kJ Ag×Bool:=ds.foldl (Ja W) (s,K)
structure QL(W:UF)(cs:kJ AY):Prop where
 parts:∀c∈cs,QX c (W.hv c) (W.rv c)
 al:∀c∈cs,∀s,OF (W.al c s) (Ak c) s
 arity:∀c∈cs,∀d∈cs,∀x∈Ak d,(x.kind==97)=hG->c.head.name=x.A.name->Z c.head.args=Z x.A.args
def QL.sizes{W:UF}{a:kJ AY}{g:zA->Nat}(i:QL W a)(m:PU a g)(u:∀c∈a,∀d∈a,c.head.name=d.head.name->Z c.head.args=Z d.head.args){s:kJ Ag}(h:Jj a g n s){c:AY}(j:c∈a):∀v e,∀t∈W.al c s v e,t.size≠0:=by
 refine bM (i.al c j s) (λf b=>((h.zX f b).canon m.zL).zN) (λf b x q l r=>?_);obtain⟨d,k,p,o⟩:=(h.zX f b).ze;rw[o];exact i.arity d k c j x q l (by rw[<-p];exact r)
def Nl{W:UF}{e:kJ AY}{p:zA->Nat}(q:QL W e)(k:PU e p)(r:∀c∈e,∀d∈e,c.head.name=d.head.name->Z c.head.args=Z d.head.args){n:Nat}:
  ∀(b:kJ AY) (s:kJ Ag) (m:Bool),(∀c∈b,c∈e/\p c.head.name=n)->Jj e p n s->
   Jj e p n (b.foldl (Ja W) (s,m)).1/\Z s<=Z (b.foldl (Ja W) (s,m)).1/\
    ((b.foldl (Ja W) (s,m)).2=K->(b.foldl (Ja W) (s,m)).1=s/\m=K/\∀c∈b,W.new c s=[])/\
    ((b.foldl (Ja W) (s,m)).2=hG->m=hG\/Z s<Z (b.foldl (Ja W) (s,m)).1)
 |[],s,m,_,h=>⟨h,fJ _,λi=>⟨rfl,i,λc j=>by simp at j⟩,λi=>kn i⟩
 |c::b,s,m,hd,h=>by
  rw[fZ];have B:∀c∈b,c∈e/\p c.head.name=n:=λx o=>hd x (by simp[o])
  obtain⟨j,v⟩:=hd c (by simp);have t:∀f∈W.new c s,f∉s/\∃σ,(∀x∈Ak c,B7 (Br σ) (Ev σ) s x=hG)/\f=Br σ c.head:=λf a=>Se (q.parts c j) (q.sizes k r h j) a
  obtain⟨C,R⟩:=Kc k h j v (W.new c s) s (λf a=>(t f a).2) h (λf a=>a) (λf a=>kn a);cases hl:W.new c s with
  |nil=>
   (have y:Ja W (s,m) c=(s,m):=by unfold Ja;simp only;rw[hl];simp);rw[y];obtain⟨w,z,u,A⟩:=Nl q k r b s m B h;refine⟨w,z,λi=>?_,A⟩;obtain⟨D,L,E⟩:=u i;refine⟨D,L,λx o=>?_⟩;rcases fx.1 o with rfl|o
   .exact hl
   .exact E x o
  |cons f l=>
   have a:=t f (by rw[hl];simp);(have y:Ja W (s,m) c=((W.new c s).foldl Ba s,hG):=by unfold Ja;simp only;rw[hl];simp);rw[y];obtain⟨w,z,u,A⟩:=Nl q k r b _ hG B C;have Q:Z s<Z ((W.new c s).foldl Ba s):=by
    rw[hl,fZ];have P:=(J8 s f).2 a.1;obtain⟨σ,I,rfl⟩:=a.2;obtain⟨G,M,H⟩:=Xc k h h (λf a=>a) (λf a=>kn a) j v I;have N:=(Kc k h j v l _ (λg F=>(t g (by rw[hl];simp[F])).2) G M H).2;omega
   refine⟨w,by omega,λi=>?_,λi=>kp (by omega)⟩;have:=(u i).2.1;cases this
def Yy{W:UF}{a:kJ AY}{e:zA->Nat}(l:QL W a)(r:PU a e)(w:∀c∈a,∀d∈a,c.head.name=d.head.name->Z c.head.args=Z d.head.args){b:kJ AY}(o:∀c,c∈b↔c∈a/\e c.head.name=n){s:kJ Ag}(h:Jj a e n s):
  Jj a e n (Fv W b s).1/\((Fv W b s).2=K->(Fv W b s).1=s/\Jj a e (n+1) s)/\
   ((Fv W b s).2=hG->Z s<Z (Fv W b s).1)/\Z (Fv W b s).1<=Z (SW a):=by
 unfold Fv;obtain⟨q,B,x,y⟩:=Nl l r w b s K (λc g=>(o c).1 g) h;refine⟨q,λm=>?_,λm=>?_,q.len r.zL⟩
 .obtain⟨t,_,u⟩:=x m;refine⟨t,h.work.next (Fj a) (λf=>e f.name) ?_,h.zH,h.zX⟩;rintro i ⟨c,g,σ,A,rfl⟩ z v;have j:=(GZ c σ s).2 ⟨v,A⟩;rcases am (l.parts c g) (XI (l.al c g s) (l.parts c g).lits) j with k|k
  .exact k
  .have p:W.new c s=[]:=u c ((o c).2 ⟨g,z⟩);unfold UF.new at p;rw[p]at k;simp at k
 .rcases y m with j|j
  .cases j
  .exact j
def Fx(L:zA->Nat)(n:Nat)(x:BH):Nat:=if x.kind==97 then max n (L x.A.name)else if x.kind==33 then max n (L x.A.name+1)else n
def Gy(L:zA->Nat)(body:kJ BH):Nat:=body.foldl (Fx L) 0
def ON(L:zA->Nat)(k:zA)(n:Nat):zA->Nat:=λx=>if x.toList==k.toList then n else L x
def Ei(a:(zA->Nat)×Bool)(c:AY):(zA->Nat)×Bool:=if a.1 c.head.name<Gy a.1 (Ak c)then(ON a.1 c.head.name (Gy a.1 (Ak c)),hG)else a
def KO(cs:kJ AY)(L:zA->Nat):(zA->Nat)×Bool:=cs.foldl Ei (L,K)
def D4(cs:kJ AY)(L:zA->Nat):Nat:=(cs.map λc=>L c.head.name).sum
def GQ(L:zA->Nat)(k:zA)(n:Nat):ON L k n k=n:=by unfold ON;simp
def I0{L:zA->Nat}(n:Nat)(h:t≠s):ON L s n t=L t:=by
 unfold ON;rw[fB (λa=>h (toList_inj (by simpa using a)))]
def Nj(L:zA->Nat):∀(a:kJ BH) (n:Nat),n<=a.foldl (Fx L) n/\∀x∈a,((x.kind==97)=hG->L x.A.name<=a.foldl (Fx L) n)/\((x.kind==33)=hG->L x.A.name<a.foldl (Fx L) n)
 |[],n=>⟨fJ _,λx c=>by simp at c⟩
 |y::a,n=>by
  rw[fZ];obtain⟨k,i⟩:=Nj L a (Fx L n y);have e:n<=Fx L n y/\((y.kind==97)=hG->L y.A.name<=Fx L n y)/\((y.kind==33)=hG->L y.A.name<Fx L n y):=by
   unfold Fx;by_cases b:(y.kind==97)=hG
   .rw[fF b];refine⟨by omega,λ_=>by omega,λj=>?_⟩;(have g:y.kind=97:=by simpa using b);(have f:y.kind=33:=by simpa using j);rw[g]at f;exact absurd f (by decide)
   .rw[fB b];by_cases d:(y.kind==33)=hG
    .rw[fF d];exact⟨by omega,λh=>absurd h b,λ_=>by omega⟩
    .rw[fB d];exact⟨by omega,λh=>absurd h b,λh=>absurd h d⟩
  refine⟨by omega,λx c=>?_⟩;rcases fx.1 c with rfl|c
  .exact⟨λh=>by have:=e.2.1 h;omega,λh=>by have:=e.2.2 h;omega⟩
  .exact i x c
def M3{L:zA->Nat}{b:Nat}:∀(a:kJ BH) (n:Nat),n<=b->(∀x∈a,((x.kind==97)=hG->L x.A.name<=b)/\((x.kind==33)=hG->L x.A.name<b))->a.foldl (Fx L) n<=b
 |[],n,hn,_=>hn
 |y::a,n,hn,h=>by
  rw[fZ];refine M3 a _ ?_ (λx g=>h x (by simp[g]));obtain⟨f,e⟩:=h y (by simp);unfold Fx;by_cases c:(y.kind==97)=hG
  .rw[fF c];have:=f c;omega
  .rw[fB c];by_cases d:(y.kind==33)=hG
   .rw[fF d];have:=e d;omega
   .rw[fB d];exact hn
def WN{cs:kJ AY}{L a:zA->Nat}(h:∀x,L x<=a x):D4 cs L<=D4 cs a:=by
 unfold D4
 induction cs with
 |nil=>simp
 |cons c cs ih=>
  simp only[fS,List.sum_cons];have:=h c.head.name;omega
def bB{cs:kJ AY}{L b:zA->Nat}(h:∀x,L x<=b x){c:AY}(a:c∈cs)(f:L c.head.name<b c.head.name):D4 cs L<D4 cs b:=by
 induction cs with
 |nil=>simp at a
 |cons d cs ih=>
  have i:=h d.head.name;have g:=WN (cs:=cs) h;have e:∀M,D4 (d::cs) M=M d.head.name+D4 cs M:=λM=>by unfold D4;simp
  rw[e,e];rcases fx.1 a with rfl|a
  .omega
  .have:=ih a;omega
def Jf{e:kJ AY}{g:zA->Nat}(j:Dl e g):∀(b:kJ AY) (L:zA->Nat) (m:Bool),(∀c∈b,c∈e)->(∀x,L x<=g x)->
  (∀x,L x<=(b.foldl Ei (L,m)).1 x)/\(∀x,(b.foldl Ei (L,m)).1 x<=g x)/\
   ((b.foldl Ei (L,m)).2=K->(b.foldl Ei (L,m)).1=L/\m=K/\∀c∈b,Gy L (Ak c)<=L c.head.name)/\
   ((b.foldl Ei (L,m)).2=hG->m=hG\/D4 e L<D4 e (b.foldl Ei (L,m)).1)
 |[],L,m,_,h=>⟨λx=>fJ _,h,λd=>⟨rfl,d,λc i=>by simp at i⟩,λd=>kn d⟩
 |c::b,L,m,hd,h=>by
  rw[fZ];have s:∀c∈b,c∈e:=λx a=>hd x (by simp[a])
  have i:=hd c (by simp);by_cases p:L c.head.name<Gy L (Ak c)
  ·(have o:Ei (L,m) c=(ON L c.head.name (Gy L (Ak c)),hG):=by unfold Ei;rw[fF p]);rw[o];have q:∀x,L x<=ON L c.head.name (Gy L (Ak c)) x:=by
    intro x;by_cases a:x=c.head.name
    .subst a;rw[GQ];omega
    .rw[I0 _ a];exact fJ _
   have v:Gy L (Ak c)<=g c.head.name:=by
    refine M3 _ _ (fP _) (λx a=>⟨λl=>?_,λl=>?_⟩)
    .exact gQ (h _) (j.pos c i x a l)
    .exact Nat.lt_of_le_of_lt (h _) (j.neg c i x a l)
   have y:∀x,ON L c.head.name (Gy L (Ak c)) x<=g x:=by
    intro x;by_cases a:x=c.head.name
    .subst a;rw[GQ];exact v
    .rw[I0 _ a];exact h x
   obtain⟨f,k,n,r⟩:=Jf j b _ hG s y;refine⟨λx=>gQ (q x) (f x),k,λd=>?_,λd=>kp ?_⟩
   .have:=(n d).2.1;cases this
   .refine bB (λx=>gQ (q x) (f x)) i ?_;have w:=f c.head.name;rw[GQ]at w;omega
  ·(have o:Ei (L,m) c=(L,m):=by unfold Ei;rw[fB p]);rw[o];obtain⟨f,k,n,r⟩:=Jf j b L m s h;refine⟨f,k,λd=>?_,r⟩;obtain⟨t,z,u⟩:=n d;refine⟨t,z,λx a=>?_⟩;rcases fx.1 a with rfl|a
   .omega
   .exact u x a
def Wi{a:kJ AY}{e:zA->Nat}(p:Dl a e){L:zA->Nat}(h:∀x,L x<=e x):
  (∀x,(KO a L).1 x<=e x)/\((KO a L).2=K->(KO a L).1=L/\Dl a L)/\((KO a L).2=hG->D4 a L<D4 a (KO a L).1)/\D4 a (KO a L).1<=D4 a e:=by
 unfold KO;obtain⟨_,k,n,o⟩:=Jf p a L K (λc d=>d) h;refine⟨k,λf=>?_,λf=>?_,WN k⟩
 .obtain⟨m,_,l⟩:=n f;refine⟨m,λc d x j g=>?_,λc d x j g=>?_⟩
  .have b:=((Nj L (Ak c) 0).2 x j).1 g;have i:Gy L (Ak c)<=L c.head.name:=l c d;exact gQ b i
  .have b:=((Nj L (Ak c) 0).2 x j).2 g;have i:Gy L (Ak c)<=L c.head.name:=l c d;exact iM b i
 .rcases o f with b|b
  .cases b
  .exact b
def Fg(acc:kJ UInt8)(t:AG):kJ UInt8:=if(t.v !=0&& !acc.contains t.v)=hG then acc++[t.v] else acc
def FN(acc:kJ UInt8)(ts:kJ AG):kJ UInt8:=ts.foldl Fg acc
def Fd:∀(f:kJ AG) (c:kJ UInt8),c.Nodup->(∃r,FN c f=c++r)/\(FN c f).Nodup/\∀v,v∈FN c f↔v∈c\/(v≠0/\∃t∈f,t.v=v)
 |[],c,h=>⟨⟨[],by simp[FN]⟩,h,λv=>by simp[FN]⟩
 |t::f,c,h=>by
  have e:FN c (t::f)=FN (Fg c t) f:=rfl;rw[e];by_cases i:(t.v !=0&& !c.contains t.v)=hG
  ·(have m:Fg c t=c++[t.v]:=by unfold Fg;rw[fF i]);rw[m];rw[fU]at i;have y:t.v∉c:=by
    intro j;have:=i.2;rw[kh.2 j]at this;cases this
   (have w:t.v≠0:=by simpa using i.1);have x:(c++[t.v]).Nodup:=by
    rw[jF];refine⟨h,by simp,λa n b o s=>?_⟩;rw[ft]at o;subst o;rw[s]at n;exact y n
   obtain⟨⟨r,p⟩,k,l⟩:=Fd f (c++[t.v]) x;refine⟨⟨t.v::r,by rw[p];simp⟩,k,λv=>?_⟩;rw[l,fA,ft];constructor
   .rintro ((h|h)|⟨h,u,d,g⟩)
    .exact kn h
    .subst h;exact kp ⟨w,t,by simp,rfl⟩
    .exact kp ⟨h,u,by simp[d],g⟩
   .rintro (h|⟨h,u,d,g⟩)
    .exact kn (kn h)
    .rcases fx.1 d with rfl|d
     .exact kn (kp g.symm)
     .exact kp ⟨h,u,d,g⟩
  ·(have m:Fg c t=c:=by unfold Fg;rw[fB i]);rw[m];obtain⟨q,k,l⟩:=Fd f c h;refine⟨q,k,λv=>?_⟩;rw[l];constructor
   .rintro (h|⟨h,u,d,g⟩)
    .exact kn h
    .exact kp ⟨h,u,by simp[d],g⟩
   .rintro (h|⟨h,u,d,g⟩)
    .exact kn h
    .rcases fx.1 d with rfl|d
     .left;subst g;rw[fU]at i;cases j:c.contains u.v with
      |true=>exact kh.1 j
      |false=>exact absurd ⟨by simpa using h,by rw[j];rfl⟩ i
     .exact kp ⟨h,u,d,g⟩
def Cf(c:AY):kJ UInt8:=FN [] c.head.args
def C7(c:AY):kJ UInt8:=(FN [] (c.head.args++(Ak c).flatMap BQ)).drop (Z (Cf c))
def Nr(c:AY):FN [] (c.head.args++(Ak c).flatMap BQ)=Cf c++C7 c:=by
 have e:FN [] (c.head.args++(Ak c).flatMap BQ)=FN (Cf c) ((Ak c).flatMap BQ):=by
  unfold FN Cf FN;rw[gM]
 obtain⟨⟨r,a⟩,_,_⟩:=Fd ((Ak c).flatMap BQ) (Cf c) (Fd c.head.args [] i7).2.1;unfold C7;rw[e,a,List.drop_left]
def U1{o:kJ AY}(m:Q5 o){c:AY}(n:c∈o)(y:∀x∈Ak c,DN x):QX c (Cf c) (C7 c):=by
 have i:=Fd (c.head.args++(Ak c).flatMap BQ) [] i7;have C:=Fd c.head.args [] i7;rw[Nr]at i;have k:∀t,t.v≠0->Gx (Ak c) t->∃x∈Ak c,(x.kind==97)=hG/\∃u∈x.A.args,u.v=t.v:=by
  intro t b r;rcases r with h|h
  .exact absurd h b
  .exact h
 have w:∀v,v∈Cf c\/v∈C7 c->∃x∈Ak c,(x.kind==97)=hG/\∃u∈x.A.args,u.v=v:=by
  intro v g;have d:=(i.2.2 v).1 (fA.2 g);rcases d with d|⟨b,t,a,rfl⟩
  .simp at d
  .rcases fA.1 a with a|a
   .exact k t b (m.head c n t a)
   .obtain⟨x,e,a⟩:=gc.1 a;by_cases f:(x.kind==97)=hG
    .unfold BQ at a;rw[f,jp,fF rfl]at a;exact⟨x,e,f,t,a,rfl⟩
    .have q:=m.safe c n x e (by simpa using f);unfold BQ at a;by_cases j:(x.kind==33)=hG
     .rw[j,jQ,fF rfl]at a;exact k t b (q.1 j t a)
     .rw[fB (by rw[ie,not_or];exact⟨f,j⟩)]at a;obtain⟨B,s⟩:=q.2 (by simpa using j);rcases fx.1 a with rfl|a
      .exact k _ b B
      .rw[ft]at a;subst a;exact k _ b s
 refine⟨λv g=>?_,?_,?_,?_,λx e=>(y x e).lgood⟩
 .obtain⟨x,e,f,u,p,l⟩:=w v g;refine⟨?_,x,e,f,u,p,l⟩;have d:=(i.2.2 v).1 (fA.2 g);have b:v≠0:=by
   rcases d with d|d
   .simp at d
   .exact d.1
  rcases m.args c n x e f u p with h|h
  .rw[l]at h;exact absurd h.1 b
  .rw[l]at h;exact h
 .intro v g z;have:=(jF.1 i.2.1).2.2 v g v z;exact this rfl
 .intro t a;by_cases b:t.v=0
  .exact kn b
  .exact kp ((C.2.2 t.v).2 (kp ⟨b,t,a,rfl⟩))
 .intro x e t a;by_cases b:t.v=0
  .exact kn b
  .right;exact fA.1 ((i.2.2 t.v).2 (kp ⟨b,t,fA.2 (kp (gc.2 ⟨x,e,a⟩)),rfl⟩))
def BI.zi{a:kJ AY}(h:BI a):∀c∈a,B3 a c.head.name=(Z c.head.args:Int):=by
 intro c b;obtain⟨k,d,rfl⟩:=gv b;exact(Eh (h.each k d)).2.2.2.2.2.1
def BI.zw{a:kJ AY}(h:BI a):∀c∈a,∀x∈Ak c,(x.kind==97)=hG->B3 a x.A.name=(Z x.A.args:Int):=by
 intro c g x i e;obtain⟨k,f,rfl⟩:=gv g;obtain⟨p,d,rfl⟩:=fC.1 i;have b:=(iN.1 (Eh (h.each k f)).2.2.2.2.2.2.1) p d;unfold BC On at b;rw[e,jp,ii]at b;simpa using b
def BI.ar2{a:kJ AY}(h:BI a):∀c∈a,∀d∈a,c.head.name=d.head.name->Z c.head.args=Z d.head.args:=by
 intro c f d b e;have g:=h.zi c f;rw[e,h.zi d b]at g;omega
def BI.ar3{a:kJ AY}(h:BI a):∀c∈a,∀d∈a,∀x∈Ak d,(x.kind==97)=hG->c.head.name=x.A.name->Z c.head.args=Z x.A.args:=by
 intro c i d b x j f e;have g:=h.zi c i;rw[e,h.zw d b x j f]at g;omega
def Qt(a:kJ AY):∀(d:Nat) (x:zA),BJ a d x<=d
 |0,x=>fJ 0
 |d+1,x=>by
  by_cases h:0<BJ a (d+1) x
  .obtain⟨y,b,e,f⟩:=P4 a d x h;have g:b<=1:=by
    obtain⟨c,_,_,l,_,_,h|h⟩:=e<;>omega
   have:=Qt a d y;omega
  .omega
def BI.small{a:kJ AY}(h:BI a):Z a<=12/\∀c∈a,Z c.bl<=3/\Z c.head.args<=2/\∀p∈c.bl,Bo p=K:=by
 have e:∀k (d:k<Z a),k<12/\a[k].bl.length<=3/\a[k].head.args.length<=2/\∀p∈a[k].bl,Bo p=K:=by
  intro k d;have b:=h.each k d;unfold B0 at b;by_cases f:12<=k\/3<a[k].bl.length
  .rw[fF f]at b;cases b
  rw[fB f]at b;by_cases g:2<a[k].head.args.length
  .rw[fF g]at b;cases b
  rw[fB g]at b;cases a3:a[k].bl.any Bo with
  |true=>rw[a3,fF rfl]at b;cases b
  |false=>
   refine⟨by omega,by omega,by omega,λp i=>?_⟩;rw[ip]at a3;cases hm:Bo p with
   |false=>rfl
   |true=>exact absurd hm (a3 p i)
 refine⟨?_,λc l=>?_⟩
 .by_cases j:Z a<=12
  .exact j
  .have:=(e 12 (by omega)).1;omega
 .obtain⟨k,d,rfl⟩:=gv l;exact(e k d).2
def Vl(a:kJ AY)(h:∀c∈a,Z c.head.args<=2):Z (consts a)<=Z a*2:=by
 unfold consts
 induction a with
 |nil=>simp
 |cons c a ih=>
  have f:=ih (λd b=>h d (gu _ b));have e:=h c (gJ ..);have g:=ib (λt:AG=>t.v==0) c.head.args;simp only[fN,fE,fH,fD];omega
def Ln(l:kJ zA):∀n,Z (D3 l n)=Z l^n
 |0=>rfl
 |n+1=>by
  have ih:=Ln l n;unfold D3;have:∀m:kJ zA,Z (m.flatMap λx=>(D3 l n).map (x:: ·))=Z m*Z l^n:=by
   intro m
   induction m with
   |nil=>simp
   |cons x m ih2=>
    simp only[fN,fE,fH,ih2,ih,fD,iz,Nat.one_mul];omega
  rw[this l,Nat.pow_succ,Nat.mul_comm]
def aM{a:kJ AY}(m:Z a<=12)(h:∀c∈a,Z c.head.args<=2):Z (SW a)<=6912:=by
 have j:Z (consts a)<=24:=by have:=Vl a h;omega
 have g:∀n,n<=2->Z (D3 (consts a) n)<=576:=by
  intro n k;rw[Ln]
  match n,k with
  |0,_=>simp
  |1,_=>simp;omega
  |2,_=>
   have:Z (consts a)^2<=24^2:=Nat.pow_le_pow_left j 2;omega
 have f:∀b:kJ AY,(∀c∈b,Z c.head.args<=2)->Z (b.flatMap λc=>(D3 (consts a) (Z c.head.args)).map (Ag.mk c.head.name))<=Z b*576:=by
  intro b
  induction b with
  |nil=>simp
  |cons c b ih=>
   intro e;have o:=ih (λd i=>e d (gu _ i));have l:=g _ (e c (gJ ..));simp only[fN,fE,fH,fD,iz,Nat.one_mul];omega
 have:=f a h;unfold SW;omega
structure eI(cs:kJ AY):Prop where
 small:Z cs<=1000/\∀c∈cs,Z c.bl<=3/\Z c.head.args<=2/\∀p∈c.bl,Bo p=K
 few:∀s:kJ Ag,s.Nodup->(∀f∈s,FV cs f)->Z s<=6912
 ar2:∀c∈cs,∀d∈cs,c.head.name=d.head.name->Z c.head.args=Z d.head.args
 ar3:∀c∈cs,∀d∈cs,∀x∈Ak d,(x.kind==97)=hG->c.head.name=x.A.name->Z c.head.args=Z x.A.args
def BI.ordr{a:kJ AY}(h:BI a):eI a:=by
 obtain⟨e,b⟩:=h.small;refine⟨⟨by omega,b⟩,λs i d=>?_,h.ar2,h.ar3⟩;have l:=Kw s (SW a) i λf g=>(d f g).mem
 have k:=aM e (λc j=>(b c j).2.1);omega
structure CX(cs:kJ AY):Prop where
 order:eI cs
 prog:PU cs (BJ cs 6)
 lits:∀c∈cs,∀x∈Ak c,DN x
 zL:∀c∈cs,KR c.head
def F8{d:kJ AY}(h:(Ar s (Ae s 0)).2.2=K)(a:d.map AY.erase=(Ar s (Ae s 0)).1)(e:CD d=(0,0)):CX d:=
 ⟨(Nz e).ordr,YW h a e,λc b=>(Kt h a c b).2,λc b=>(Kt h a c b).1⟩
def Ek(al:AY->kJ Ag->UInt8->kJ zA->kJ zA):UF:=⟨Cf,C7,al⟩
def CX.ways{a:kJ AY}(h:CX a){b:AY->kJ Ag->UInt8->kJ zA->kJ zA}(e:∀c∈a,∀s,OF (b c s) (Ak c) s):QL (Ek b) a:=
 ⟨λc d=>U1 h.prog.zN d (h.lits c d),e,h.order.ar3⟩
def CX.other(h:CX c){L:zA->Nat}(a:Dl c L):PU c L:=⟨h.prog.zN,a,h.prog.zL⟩
def CX.grow{a:kJ AY}(h:CX a){al:AY->kJ Ag->UInt8->kJ zA->kJ zA}(b:∀c∈a,∀f,OF (al c f) (Ak c) f){L:zA->Nat}(e:Dl a L){ds:kJ AY}(d:∀c,c∈ds↔c∈a/\L c.head.name=n)(g:Jj a L n f):
  Jj a L n (Fv (Ek al) ds f).1/\((Fv (Ek al) ds f).2=K->(Fv (Ek al) ds f).1=f/\Jj a L (n+1) f)/\
   ((Fv (Ek al) ds f).2=hG->Z f<Z (Fv (Ek al) ds f).1)/\Z (Fv (Ek al) ds f).1<=Z (SW a):=
 Yy (h.ways b) (h.other e) h.order.ar2 d g
def CX.round(h:CX c)(a:Jj c (BJ c 6) n f):
  Jj c (BJ c 6) n (DZ c (BJ c 6) n f).1/\((DZ c (BJ c 6) n f).2=K->(DZ c (BJ c 6) n f).1=f/\Jj c (BJ c 6) (n+1) f)/\
   ((DZ c (BJ c 6) n f).2=hG->Z f<Z (DZ c (BJ c 6) n f).1)/\Z (DZ c (BJ c 6) n f).1<=Z (SW c):=
 Va h.prog a
def CX.one{a:kJ AY}(h:CX a){s t:kJ Ag}(d:Jj a (BJ a 6) 7 s){L:zA->Nat}(f:Dl a L)(b:Jj a L n t)(e:∀c∈a,L c.head.name<n):s=t:=
 ci h.prog (h.other f) d b (λc _=>by have:=Qt a 6 c.head.name;omega) e
def Dq:zA->Bool->kJ zA->zA
 |s,_,[]=>s
 |s,b,x::l=>Dq (s++(if b then⟨#[44]⟩else⟨#[40]⟩)++BN x) hG l
def Fi(p:Cg):zA:=Dq p.name K p.zC++⟨#[41,46]⟩
def Ra:zA->kJ Cg->zA
 |t,[]=>t
 |t,p::l=>Ra (t++Fi p++⟨#[10]⟩) l
def ck:zA->kJ Ag->zA
 |t,[]=>t
 |t,f::l=>ck (t++EZ f++⟨#[10]⟩) l
def Oh:∀(l:kJ zA) (s:zA),(∀x∈l,A1 x)->Dq s hG (l.map AA)=Fo s hG l
 |[],s,_=>rfl
 |x::l,s,h=>by
  rw[fS,Dq,Fo,G6 (h x (by simp)),Oh l _ (λy a=>h y (by simp[a]))];simp
def Sc{f:Ag}(h:AQ f)(b:f.args≠[]):Fi (Bn f)=EZ f:=by
 unfold Fi EZ Bn;simp only;cases hl:f.args with
 |nil=>exact absurd hl b
 |cons x l=>
  have a:∀y∈x::l,A1 y:=by rw[<-hl];exact h
  rw[fS,Dq,Fo,G6 (a x (by simp)),Oh l _ (λy c=>a y (by simp[c]))];simp
def Us:∀(l:kJ Ag) (t:zA),(∀f∈l,AQ f/\f.args≠[])->Ra t (l.map Bn)=ck t l
 |[],t,_=>rfl
 |f::l,t,h=>by
  obtain⟨a,c⟩:=h f (by simp);rw[fS,Ra,ck,Sc a c,Us l _ (λg b=>h g (by simp[b]))]
def bc:∀(l:kJ BD) (t:zA),L7 t l=ck t (l.map BD.f)
 |[],t=>rfl
 |p::l,t=>by rw[L7,fS,ck,bc l]
def ac(s:zA)(a:Nat):(Cy s a).1≠[]:=by
 rw[Cy];split<;>simp
def ZP(h:(AV s n K).2.2=K):(AV s n K).1.args≠[]:=by
 unfold AV at h⊢;simp only at h⊢;have a:=MC h;unfold Eo at a⊢;cases hm:(Bm s (A3 s (AN s n K) K).2.1 (A3 s (AN s n K) K).2.2 40).2 with
 |true=>rw[hm,fF rfl]at a;cases a
 |false=>rw[fB (by simp)];exact ac _ _
def O7(h:(Ao s n).2.2=K):(Ao s n).1.head.args≠[]:=by
 unfold Ao at h⊢;simp only at h⊢;exact ZP (Lm (MC h)).1
def TD{s:zA}{b:Nat}(h:(Ar s b).2.2=K):∀c∈(Ar s b).1,c.head.args≠[]:=by
 fun_induction Ar s b with
 |case1 b ha hc ih=>
  intro c a;rcases fx.1 a with rfl|a
  .exact O7 hc.1
  .exact ih h c a
 |case2 b ha hc=>
  intro c a;rw[ft]at a;subst a;exact O7 h
 |case3 b ha=>intro c a;cases a
def UM{a:kJ AY}(h:(Ar s n).2.2=K)(e:a.map AY.erase=(Ar s n).1):∀c∈a,c.head.args≠[]:=by
 intro c d;have b:c.erase∈(Ar s n).1:=by rw[<-e];exact fW d
 exact TD h _ b
def CX.text{a:kJ AY}(h:CX a)(j:∀c∈a,c.head.args≠[]){i:kJ BD}(m:Jj a (BJ a 6) 7 (i.map BD.f)){L:zA->Nat}(k:Dl a L){t:kJ Ag}(b:Jj a L n t)(o:∀c∈a,L c.head.name<n):
  Ra kB (t.map Bn)=L7 kB i:=by
 have e:=h.one m k b o;rw[bc,e];refine Us t _ (λf d=>⟨(b.zX f d).canon h.prog.zL,λl=>?_⟩);obtain⟨c,p,_,g⟩:=(b.zX f d).ze;rw[l]at g;exact j c p (iu g.symm)
structure CG(fs:kJ DF)(s:kJ Ag):Prop where
 same:fs.map DF.f=s.map Bn
 zH:D5 s
 canon:∀f∈s,AQ f
def D5.pad{s:kJ Ag}(d:D5 s)(c:∀f∈s,AQ f):(s.map Bn).Pairwise λa b=>Cq a b<0:=by
 rw[iQ];exact iG (fun{a b} ha hb hab=>(DH (c a ha) (c b hb)).1 hab) d
def CG.pair{c:kJ DF}{s:kJ Ag}(h:CG c s):c.Pairwise λa b=>Cq a.f b.f<0:=by
 have:=h.zH.pad h.canon;rw[<-h.same,iQ]at this;exact this
def Uu(a:Cg):¬Cq a a<0:=by
 have:Cq a a=0:=(Fc a a).2 rfl;omega
def CG.mono{a:kJ DF}{s:kJ Ag}(h:CG a s)(x:Cg):∀i j (d:i<Z a) (c:j<Z a),i<=j->Cq a[j].f x<0->Cq a[i].f x<0:=by
 intro i j d c g e;rcases jo g with b|b
 .exact G7 (iw.1 h.pair i j d c b) e
 .subst b;exact e
def CG.mem{a:kJ DF}{s:kJ Ag}(h:CG a s){f:Ag}(c:AQ f):(∃p∈a,p.f=Bn f)↔f∈s:=by
 have e:(∃p∈a,p.f=Bn f)↔Bn f∈a.map DF.f:=by rw[fC]
 rw[e,h.same,fC];constructor
 .rintro ⟨g,b,e⟩;rw[<-J3 (h.canon g b) c e];exact b
 .intro d;exact⟨f,d,rfl⟩
def CG.zh{a:kJ DF}{s:kJ Ag}(h:CG a s){f:Ag}(l:AQ f)(k:Eu a (Bn f) n):CY a (Bn f) n=DI s f:=by
 have r:CY a (Bn f) n=hG↔DI s f=hG:=by
  rw[C5,<-h.mem l];unfold CY;constructor
  .intro c;split at c
   .rename_i b;exact⟨a[n],fj b,(Fc _ _).1 (by simpa using c)⟩
   .cases c
  .rintro ⟨q,o,e⟩;obtain⟨j,i,rfl⟩:=gv o;have m:n<=j:=by
    by_cases c:j<n
    .have:=k.below j i c;rw[e]at this;exact absurd this (Uu _)
    .omega
   (have b:n<Z a:=by omega);rw[dif_pos b];rcases jo m with d|d
   .have g:=iw.1 h.pair n j b i d;rw[e]at g;exact absurd g (k.zZ n b (fJ _))
   .subst d;rw[e];simpa using(Fc _ _).2 rfl
 cases d:CY a (Bn f) n<;>cases g:DI s f<;>simp_all
def CG.zn{d:kJ DF}{s:kJ Ag}(h:CG d s){x:DF}{f:Ag}(u:x.f=Bn f)(l:AQ f)(v:Eu d (Bn f) n)(A:CY d (Bn f) n=K):CG (d.take n++x::d.drop n) (Ba s f):=by
 obtain⟨a,b,m⟩:=C0 l h.zH h.canon;refine⟨?_,a,b⟩;have D:f∉s:=λG=>by rw[h.zh l v,(C5 _ _).2 G]at A;cases A
 refine Jd (lt:=λa b=>Cq a b<0) Uu (λa b c=>G7) _ _ ?_ (a.pad b) (λy=>?_)
 .rw[iQ,jI];have B:=h.pair;have F:=B.take (i:=n);have C:=B.drop (i:=n);have w:∀q∈d.take n,Cq q.f x.f<0:=by
   intro q j;obtain⟨i,t,rfl⟩:=gv j;rw[gq]at t;rw[jf,u];exact v.below i (by omega) (by omega)
  have z:∀q∈d.drop n,Cq x.f q.f<0:=by
   intro q j;obtain⟨i,t,rfl⟩:=gv j;rw[gD]at t;rw[jE,u];have L:=v.zZ (n+i) (by omega) (by omega);(have I:Cq d[n+i].f (Bn f)≠0:=λe=>D ((h.mem l).1 ⟨_,fj _,(Fc _ _).1 e⟩));exact(Xo _ _).1 (by omega)
  refine⟨F,ir.2 ⟨z,C⟩,λq j r o=>?_⟩;rcases fx.1 o with rfl|o
  .exact w q j
  .exact G7 (w q j) (z r o)
 .have H:y∈(d.take n++x::d.drop n).map DF.f↔y=x.f\/y∈d.map DF.f:=by
   (have E:d.map DF.f=(d.take n).map DF.f++(d.drop n).map DF.f:=by rw[<-gn,gL]);rw[E];simp only[gn,fS,fA,fx];constructor
   .rintro (h|h|h)
    .exact kp (kn h)
    .exact kn h
    .exact kp (kp h)
   .rintro (h|h|h)
    .exact kp (kn h)
    .exact kn h
    .exact kp (kp h)
  rw[H,h.same,fC,fC,u];constructor
  .rintro (rfl|⟨g,k,rfl⟩)
   .exact⟨f,(m f).2 (kp rfl),rfl⟩
   .exact⟨g,(m g).2 (kn k),rfl⟩
  .rintro ⟨g,k,rfl⟩;rcases(m g).1 k with k|rfl
   .exact kp ⟨g,k,rfl⟩
   .exact kn rfl
def aI(l:kJ zA):¬En l []<0:=by
 cases l<;>simp[En]
def Mk(a:Cg)(n:zA):Cq a ⟨n,[]⟩<0↔Ds a.name n<0:=by
 unfold Cq;simp only;split
 .rename_i h;constructor
  .intro b;exact absurd b (aI _)
  .intro b;omega
 .exact Iff.rfl
def IW{α:Type}{p:α->Bool}:∀(l:kJ α),l.Pairwise (λa b=>p b=hG->p a=hG)->l.takeWhile p=l.filter p
 |[],_=>rfl
 |x::l,h=>by
  rw[ir]at h;rw[List.takeWhile_cons,gW];cases hx:p x with
  |true=>rw[fF rfl,fF rfl,IW l h.2]
  |false=>
   rw[fB (by simp),fB (by simp)];refine(jC.2 (λy d c=>?_)).symm;rw[h.1 y d c]at hx;cases hx
def OQ(n:zA)(q:DF):Bool:=q.f.name.toList==n.toList
def CG.of{c:kJ DF}{s:kJ Ag}(h:CG c s)(n:zA)(r:Eu c ⟨n,[]⟩ m):((c.drop m).takeWhile (OQ n)).map DF.f=(s.filter λg=>g.name.toList==n.toList).map Bn:=by
 have t:∀q∈c.drop m,¬Ds q.f.name n<0:=by
  intro q j;obtain⟨i,l,rfl⟩:=gv j;rw[gD]at l;rw[jE,<-Mk];exact r.zZ (m+i) (by omega) (by omega)
 have v:(c.drop m).takeWhile (OQ n)=(c.drop m).filter (OQ n):=by
  refine IW _ (iG (fun{a b} ha hb hab hbn=>?_) (h.pair.drop (i:=m)));have e:b.f.name=n:=toList_inj (by simpa[OQ] using hbn);have x:¬Ds a.f.name n<0:=t a ha;have k:Ds a.f.name b.f.name<=0:=by
   unfold Cq at hab;split at hab<;>omega
  rw[e]at k;have d:Ds a.f.name n=0:=by omega
  unfold OQ;rw[(Bl _ _).1 d];simp
 have k:(c.take m).filter (OQ n)=[]:=by
  refine jC.2 (λq j o=>?_);obtain⟨i,l,rfl⟩:=gv j;rw[gq]at l;rw[jf]at o;have d:=(Mk _ _).1 (r.below i (by omega) (by omega));have e:c[i].f.name=n:=toList_inj (by simpa[OQ] using o);rw[e]at d;have:Ds n n=0:=(Bl n n).2 rfl;omega
 have d:c.filter (OQ n)=(c.drop m).filter (OQ n):=by
  conv=>lhs;rw[<-gL m c,iD,k,ia]
 rw[v,<-d];have u:(c.filter (OQ n)).map DF.f=(c.map DF.f).filter λa=>a.name.toList==n.toList:=by
  rw[List.filter_map];rfl
 have w:(s.filter λg=>g.name.toList==n.toList).map Bn=(s.map Bn).filter λa=>a.name.toList==n.toList:=by
  rw[List.filter_map];rfl
 rw[u,w,h.same]
def Uf(x:zA):zA:=if SX x then x else AA x
def Bt(e:kJ zA):kJ zA:=e.map Uf
def QM(x:zA):Prop:=x.size=0\/A1 x
def XO:SX kB=hG:=(DQ _).2 rfl
def O5:Uf kB=kB:=by unfold Uf;rw[XO,fF rfl]
def CK(h:A1 s):Uf s=AA s:=by
 unfold Uf;cases he:SX s with
 |true=>exact absurd ((DQ _).1 he) h.size
 |false=>rfl
def YD(h:A1 s):(AA s).size≠0:=by
 rcases h with⟨c,r,e,a,b⟩|h
 .rw[E4 e a,BY,e];simp
 .rw[BY,Fw h];rcases EQ h with⟨c,e,_⟩|⟨c,d,e,_⟩|⟨c,d,f,e,_⟩<;>rw[e]<;>simp
def bh(h:QM s):SX (Uf s)=SX s:=by
 rcases h with h|h
 .have:SX s=hG:=(DQ _).2 h;unfold Uf;rw[this,fF rfl,this]
 .have a:SX s=K:=by
   cases he:SX s with
   |true=>exact absurd ((DQ _).1 he) h.size
   |false=>rfl
  rw[CK h,a];cases he:SX (AA s)with
  |true=>exact absurd ((DQ _).1 he) (YD h)
  |false=>rfl
def Pu(b:kJ zA)(t:AG):zA:=if t.v=0 then Uf t.s else b.getD (t.v.toNat-65) kB
def DU(e:kJ zA)(t:AG):Pu (Bt e) t=Uf (AJ e t):=by
 unfold Pu AJ Bt;by_cases a:t.v=0
 .rw[fF a,fF a]
 .rw[fB a,fB a,fG,fG,io];cases e[t.v.toNat-65]? with
  |none=>exact O5.symm
  |some x=>rfl
def cj(e:kJ zA)(j:Nat)(h:A1 s):Bt (e.set j s)=(Bt e).set j (AA s):=by
 unfold Bt;rw[km,CK h]
def QZ(b:kJ zA)(ts:kJ AG)(xs:kJ zA):Bool:=(ts.zip xs).all λp=>SX (Pu b p.1)||(Pu b p.1).toList==p.2.toList
def Si{e:kJ zA}:∀(a:kJ AG) (b:kJ zA),(∀t∈a,QM (AJ e t))->(∀x∈b,A1 x)->QZ (Bt e) a (b.map AA)=P3 e a b
 |[],b,_,_=>by simp[QZ,P3]
 |t::a,[],_,_=>by simp[QZ,P3]
 |t::a,x::b,ht,hx=>by
  have ih:=Si a b (λu f=>ht u (by simp[f])) (λy d=>hx y (by simp[d]));unfold QZ P3 at ih⊢;rw[fS,jU,jU,js,js,ih]
  congr 1
  simp only;rw[DU,bh (ht t (by simp))];cases he:SX (AJ e t)with
  |true=>rfl
  |false=>
   rw[iZ,iZ];have c:A1 (AJ e t):=by
    rcases ht t (by simp)with h|h
    .rw[(DQ _).2 h]at he;cases he
    .exact h
   rw[CK c];have g:((AA (AJ e t)).toList==(AA x).toList)=hG↔((AJ e t).toList==x.toList)=hG:=by
    rw[ED,ED];exact⟨λh=>EW c (hx x (by simp)) h,λh=>by rw[h]⟩
   cases h1:((AA (AJ e t)).toList==(AA x).toList)<;>cases h2:((AJ e t).toList==x.toList)<;>simp_all
def Qf(b:kJ zA)(ts:kJ AG):Bool:=ts.all λt=> !SX (Pu b t)
def LZ{e:kJ zA}:∀(a:kJ AG),(∀t∈a,QM (AJ e t))->Qf (Bt e) a=DS e a
 |[],_=>rfl
 |t::a,h=>by
  have ih:=LZ a (λu b=>h u (by simp[b]));unfold Qf DS at ih⊢;rw[js,js,ih,DU,bh (h t (by simp))]
def UE{l r:AG}(a:A1 (AJ e l))(b:A1 (AJ e r)):((Pu (Bt e) l).toList==(Pu (Bt e) r).toList)=((AJ e l).toList==(AJ e r).toList):=by
 rw[DU,DU,CK a,CK b];have c:((AA (AJ e l)).toList==(AA (AJ e r)).toList)=hG↔((AJ e l).toList==(AJ e r).toList)=hG:=by
  rw[ED,ED];exact⟨λh=>EW a b h,λh=>by rw[h]⟩
 cases h1:((AA (AJ e l)).toList==(AA (AJ e r)).toList)<;>cases h2:((AJ e l).toList==(AJ e r).toList)<;>simp_all
def ZI{l r:AG}(a:A1 (AJ e l))(b:A1 (AJ e r)):kH (Pu (Bt e) l).toList (Pu (Bt e) r).toList=Fu (AJ e l) (AJ e r):=by
 rw[DU,DU,CK a,CK b];exact PD a b
def OM(t:AO):Prop:=t.v=0\/(65<=t.v/\t.v<=90)
def Bq(b:kJ zA)(t:AO):zA:=dy b t.v.toNat t.s
def Gn(b:kJ zA)(ts:kJ AO):Bool:=ts.all λt=> !SX (Bq b t)
def Kl(a d:Nat)(b:kJ zA)(t:AO)(w:kq)(i:Z b=26)(g:AF w a (Ai b) d)(c:OM t):
  Calls prog 164 #[j2 (V ⟨a,0,Y⟩),kx #[X ky t.v,O t.s]] w λr f=>r=j3 (O (Bq b t))/\Ac [] w f:=by
 have h:=VU a d b t.v.toNat t.s w i g (by rcases c with h|h<;>omega);have e:((t.v.toNat:Nat):Int)=t.v:=by rcases c with h|h<;>omega
 rw[e]at h;exact h
theorem T2(j H:Nat)(b:kJ zA)(E:Option Addr)(M:Nat)(a:kJ AO)(S:Nat)(w:kq)(W:Z b=26)(P:AF w j (Ai b) H)(G:kw w S 164 2 (U E (Z a) M) (Z a) (a.flatMap Ap))(BT:Z a<=100000)(c:∀t∈a,OM t):
  Calls prog 171 #[j2 (V ⟨j,0,Y⟩),U E (Z a) M] w λr p=>r=j3 (k0 (Gn b a))/\Ac [] w p:=by
 obtain⟨R,y⟩:=kK (Gn b a);rw[y];have e:kt ((a.drop 0).all (λt=> !SX (Bq b t))=R):=y;have HT:kt (∀t∈a,∀f,Ac [] w f->Calls prog 164 #[j2 (V ⟨j,0,Y⟩),kx #[X ky t.v,O t.s]] f λr p=>r=j3 (O (Bq b t))/\Ac [] f p):=λt Q f A=>Kl j H b t f W (P.kept A) (c t Q)
 have AR:=Ab G;clear y G c P;go_enter func171,ntmps171;go_wp2_with fail
 go_loopg [9] (Z a) (λgk i wr=>∃(k:Nat),i=X J k/\k<=Z a/\gk=Z a-k/\kt ((a.drop k).all (λt=> !SX (Bq b t))=R)/\kt (Ac [] w wr))
 case atStart=>exact⟨0,rfl,by omega,rfl,e,kL _ _⟩
 case round=>
  clear e;obtain⟨k,rfl,A,D,e,n⟩:=hrel;have HG:=Ab D;clear D;by_cases o:k<Z a
  .obtain⟨g,BA,I,F,C⟩:=EU (Ad AR n) k o;simp only[fg]at I;obtain⟨rfl,_,rfl⟩:=I;obtain⟨T,l⟩:=kK (a[k]);have x:=Ab (n.alloc (jj #[X ky T.v,O T.s] 164));have u:=Ab (HT T (by rw[<-l];exact fj o) _ x);have m:kt ((!SX (Bq b T)&&(a.drop (k+1)).all (λt=> !SX (Bq b t)))=R):=by
    have h:=Aa e;rw[fQ o,js,l]at h;exact h
   rw[l]at F C;obtain⟨d,N⟩:=kK (Bq b T);rw[N]at u m;clear e l N;(go_wp2_with fail);refine u.mono ?_;rintro _ w3 ⟨rfl,B⟩;have L:=Ab (x.trans B);clear u x n B F C;cases c:SX d with
   |true=>
    have q:(d.toList==[])=hG:=c;(have Ax:d.toList=[]:=by simpa using q);(have z:kt (R=K):=by show _=_;rw[<-Aa m,c];rfl);go_wp2;go_ret;rw[Aa z];exact⟨rfl,L⟩
   |false=>
    have q:(d.toList==[])=K:=c;(have Ax:¬d.toList=[]:=by simpa using q);(have AH:kt ((a.drop (k+1)).all (λt=> !SX (Bq b t))=R):=by have h:=Aa m;rw[c]at h;exact h);clear m;go_wp2
    go_roundg (Z a-(k+1))
    case measure=>have:=Aa HG;omega
    case rel=>exact⟨k+1,by go_num,by omega,rfl,AH,L⟩
  .have z:kt (R=hG):=by
    have h:=Aa e;rw[gr (by omega)]at h;exact h.symm
   go_wp2;go_ret;rw[Aa z];exact⟨rfl,n⟩
def G4(b:kJ zA):kJ AO->kJ zA->Bool
 |t::ts,x::xs=>(SX (Bq b t)||(Bq b t).toList==x.toList)&&G4 b ts xs
 |_,_=>hG
def F1{l:kJ zA}(h:kw w n 98 1 z (Z l) (l.flatMap Ah))(k:Nat)(b:k<Z l):∃g a,z=U (V ⟨g,0,Y⟩) (Z l) a/\ku w ⟨g,k,Y⟩=V (O l[k]):=by
 obtain⟨g,a,e,_,f⟩:=AC h (λc _=>rfl) k b;have d:=f k b 0 (by omega);simp[Ah]at d;exact⟨g,a,e,d⟩
theorem aE(B ty:Nat)(b:kJ zA)(z:Int)(q:zA)(m:Option Addr)(o:Nat)(a:kJ AO)(p:DF)(FT:Nat)(w:kq)(hb:Z b=26)(hB:AF w B (Ai b) ty)(hr:kw w FT 164 2 (U m (Z a) o) (Z a) (a.flatMap Ap))(W:Dc w p)(HM:Z a<=100000)(Ha:Z a<=Z p.f.zC)(l:∀t∈a,OM t):
  Calls prog 181 #[j2 (V ⟨B,0,Y⟩),kx #[X J z,O q,U m (Z a) o],kx (j1 (AI p))] w λr H=>r=j3 (k0 (G4 b a p.f.zC))/\Ac [] w H:=by
 obtain⟨⟨n,c⟩,pv⟩:=p;obtain⟨j,e,EK⟩:=Aj W;simp only at EK Ha;subst EK;have HX:kt (kw w 0 98 1 (U j (Z c) e) (Z c) (c.flatMap Ah)):=W;simp only[AI];obtain⟨R,hR⟩:=kK (G4 b a c);rw[hR];have x:kt (G4 b (a.drop 0) (c.drop 0)=R):=hR;have HT:kt (∀t∈a,∀A,Ac [] w A->Calls prog 164 #[j2 (V ⟨B,0,Y⟩),kx #[X ky t.v,O t.s]] A λr H=>r=j3 (O (Bq b t))/\Ac [] A H):=λt ht A hk=>Kl B ty b t A hb (hB.kept hk) (l t ht)
 have HA:=Ab hr;have D:kt (AF ((w.alloc (jj [X J z,O q,U m (Z a) o].toArray 116)).alloc (jj [O n,U j (Z c) e].toArray 56)) (w.heap.size+1) [O n,U j (Z c) e] 56):=by
  have h:=kN (w.alloc (jj [X J z,O q,U m (Z a) o].toArray 116)) [O n,U j (Z c) e] 56;simp only[fY]at h;exact h
 have AB:=Ab (((kL [] w).alloc (jj [X J z,O q,U m (Z a) o].toArray 116)).alloc (jj [O n,U j (Z c) e].toArray 56));clear hR hr l hB W;go_enter func181,ntmps181;go_wp2_with fail
 change Code.wp _ _ _ _ ((w.alloc (jj [X J z,O q,U m (Z a) o].toArray 116)).alloc (jj [O n,U j (Z c) e].toArray 56));generalize((w.alloc (jj [X J z,O q,U m (Z a) o].toArray 116)).alloc (jj [O n,U j (Z c) e].toArray 56))=w1 at D AB⊢;generalize w.heap.size=N at D⊢
 go_loopg [13] (Z a) (λgk i wr=>∃(k:Nat),i=X J k/\k<=Z a/\gk=Z a-k/\kt (G4 b (a.drop k) (c.drop k)=R)/\kt (AF wr (N+1) [O n,U j (Z c) e] 56)/\kt (Ac [] w wr))
 case atStart=>exact⟨0,rfl,by omega,rfl,x,D,AB⟩
 case round=>
  clear x D AB;obtain⟨k,rfl,hk,B9,x,HB,E⟩:=hrel;have HG:=Ab B9;clear B9;by_cases G:k<Z a
  ·(have EY:k<Z c:=by omega);obtain⟨g,HJ,he,d0,d1⟩:=EU (Ad HA E) k G;simp only[fg]at he;obtain⟨rfl,_,rfl⟩:=he;obtain⟨T,C⟩:=kK (a[k]);obtain⟨y,L⟩:=kK (c[k]);have Ax:=Ab (E.alloc (jj #[X ky T.v,O T.s] 164));have EX:=Ab (HB.alloc (jj #[X ky T.v,O T.s] 164));have S:=Ab (HT T (by rw[<-C];exact fj G) _ Ax);have u:kt (((SX (Bq b T)||(Bq b T).toList==y.toList)&&G4 b (a.drop (k+1)) (c.drop (k+1)))=R):=by
    have h:=Aa x;rw[fQ G,fQ EY,G4,C,L]at h;exact h
   rw[C]at d0 d1;obtain⟨d,hV⟩:=kK (Bq b T);rw[hV]at S u;clear x C hV;(have HN:(0:Int)<=(k:Int):=by omega);(have HO:(k:Int)<(Z c:Int):=by omega);(go_wp2_with fail);refine S.mono ?_;rintro _ w3 ⟨rfl,Q⟩;have F:=Ab (Ax.trans Q);have M:=Ab (EX.kept Q);obtain⟨g2,HL,CW,x0⟩:=F1 (Ad HX F) k EY;simp only[fg]at CW;obtain⟨rfl,_,rfl⟩:=CW;rw[L]at x0;have b1:=M.cell 1;simp at b1;clear S Ax E Q d0 d1 EX HB L;cases l:SX d with
   |true=>
    have I:(d.toList==[])=hG:=l;(have FW:d.toList=[]:=by simpa using I);(have P:kt (G4 b (a.drop (k+1)) (c.drop (k+1))=R):=by have h:=Aa u;rw[l]at h;exact h);clear u;go_wp2
    go_roundg (Z a-(k+1))
    case measure=>have:=Aa HG;omega
    case rel=>exact⟨k+1,by go_num,by omega,rfl,P,M,F⟩
   |false=>
    have I:(d.toList==[])=K:=l;(have FW:¬d.toList=[]:=by simpa using I);cases hx:(d.toList==y.toList)with
    |true=>
     (have FL:(d.toList !=y.toList)=K:=by simp[bne,hx]);(have P:kt (G4 b (a.drop (k+1)) (c.drop (k+1))=R):=by have h:=Aa u;rw[l,hx]at h;exact h);clear u;go_wp2
     go_roundg (Z a-(k+1))
     case measure=>have:=Aa HG;omega
     case rel=>exact⟨k+1,by go_num,by omega,rfl,P,M,F⟩
    |false=>
     (have FL:(d.toList !=y.toList)=hG:=by simp[bne,hx]);(have HE:kt (R=K):=by show _=_;rw[<-Aa u,l,hx];rfl);go_wp2;go_ret;rw[Aa HE];exact⟨rfl,F⟩
  .have HE:kt (R=hG):=by
    have h:=Aa x;rw[gr (by omega),G4]at h
    .exact h.symm
    .simp
   go_wp2;go_ret;rw[Aa HE];exact⟨rfl,E⟩
def IC(a b:AO):Bool:=a.v==b.v&&a.s.toList==b.s.toList
def Q7(ts:kJ AO)(x:AO)(r:Int):Prop:=(r= -1/\∀t∈ts,IC x t=K)\/∃k,∃h:k<Z ts,r=(k:Int)/\IC x ts[k]=hG/\∀j (hj:j<Z ts),j<k->IC x ts[j]=K
theorem YK(D:Option Addr)(G:Nat)(a:kJ AO)(x:AO)(P:Nat)(w:kq)(E:kw w P 164 2 (U D (Z a) G) (Z a) (a.flatMap Ap))(Bx:Z a<=100000):
  Calls prog 173 #[U D (Z a) G,kx #[X ky x.v,O x.s]] w λr I=>∃n,r=j3 (X J n)/\Q7 a x n/\Ac [] w I:=by
 have Ax:=Ab E;obtain⟨f,m⟩:∃f:Int->Prop,f=Q7 a x:=⟨_,rfl⟩;have z:=Ab m;rw[<-m];have b:=Ab (kN w [X ky x.v,O x.s] 164);have c:=Ab ((kL [] w).alloc (jj #[X ky x.v,O x.s] 164));clear E m;go_enter func173,ntmps173;go_wp2_with fail
 change Code.wp _ _ _ _ (w.alloc (jj [X ky x.v,O x.s].toArray 164));generalize w.alloc (jj [X ky x.v,O x.s].toArray 164)=w1 at b c⊢;generalize w.heap.size=N at b⊢
 go_loopg [8] (Z a) (λgk i wr=>∃(k:Nat),i=X J k/\k<=Z a/\gk=Z a-k/\kt (∀j (d:j<Z a),j<k->IC x a[j]=K)/\kt (AF wr N [X ky x.v,O x.s] 164)/\kt (Ac [] w wr))
 case atStart=>exact⟨0,rfl,by omega,rfl,λj d h=>by omega,b,c⟩
 case round=>
  clear b c;obtain⟨k,rfl,hk,B,l,b,c⟩:=hrel;have A:=Ab B;clear B;by_cases u:k<Z a
  .obtain⟨g,AT,F,R,Q⟩:=EU (Ad Ax c) k u;simp only[fg]at F;obtain⟨rfl,_,rfl⟩:=F;obtain⟨T,o⟩:=kK (a[k]);have y:=Ab o;rw[o]at R Q;clear o;have H:=b.cell 0;have W:=b.cell 1;simp at H W;(have BA:(0:Int)<=(k:Int):=by omega);(have BT:(k:Int)<(Z a:Int):=by omega);(have e:kt (∀n,AF (wr.drewN n) N [X ky x.v,O x.s] 164/\Ac [] w (wr.drewN n)):=λn=>⟨b.drewN n,c.drewN n⟩);cases hs:IC x T with
   |true=>
    have p:(x.v==T.v)=hG/\(x.s.toList==T.s.toList)=hG:=by
     unfold IC at hs;simpa using hs
    have h2:=p.1;have S:=p.2;have q:kt (f (k:Int)):=by
     rw[Aa z];exact kp ⟨k,u,rfl,by rw[Aa y];exact hs,l⟩
    clear p hs;go_wp2_with fail
    go_quiet (fail)
    go_wp2;go_ret;exact⟨k,rfl,q,(e _).2⟩
   |false=>
    have C:kt (∀j (d:j<Z a),j<k+1->IC x a[j]=K):=by
     intro j d AH;by_cases h:j<k
     .exact l j d h
     ·(have L:j=k:=by omega);subst L;rw[Aa y];exact hs
    cases ha:(x.v==T.v)with
    |false=>
     clear hs;go_wp2_with fail
     go_quiet (fail)
     go_wp2
     go_roundg (Z a-(k+1))
     case measure=>have:=Aa A;omega
     case rel=>exact⟨k+1,by go_num,by omega,rfl,C,(e _).1,(e _).2⟩
    |true=>
     have S:(x.s.toList==T.s.toList)=K:=by
      unfold IC at hs;rw[ha,ii]at hs;exact hs
     clear hs;go_wp2_with fail
     go_quiet (fail)
     go_wp2
     go_roundg (Z a-(k+1))
     case measure=>have:=Aa A;omega
     case rel=>exact⟨k+1,by go_num,by omega,rfl,C,(e _).1,(e _).2⟩
  .have q:kt (f (-1)):=by
    rw[Aa z];refine kn ⟨rfl,λt M=>?_⟩;obtain⟨j,d,rfl⟩:=gv M;exact l j d (by omega)
   go_wp2;go_ret;exact⟨-1,rfl,q,c⟩
def Uc{l:kJ Int}(h:kw w n 21 1 z (Z l) (l.flatMap AU))(k:Nat)(b:k<Z l):∃g a,z=U (V ⟨g,0,Y⟩) (Z l) a/\ku w ⟨g,k,Y⟩=V (X ky l[k]):=by
 obtain⟨g,a,e,_,f⟩:=AC h (λc _=>rfl) k b;have d:=f k b 0 (by omega);simp[AU]at d;exact⟨g,a,e,d⟩
theorem ah(q:Option Addr)(u:Nat)(l:kJ Int)(x:Int)(z:Nat)(w:kq)(s:kw w z 21 1 (U q (Z l) u) (Z l) (l.flatMap AU))(L:Z l<=100000):
  Calls prog 170 #[U q (Z l) u,X ky x] w λr v=>∃n:Int,r=j3 (X J n)/\(n= -1/\x∉l\/0<=n/\x∈l)/\v=w:=by
 have F:=Ab s;clear s;go_enter func170,ntmps170;go_wp2_with fail
 go_loopg [8] (Z l) (λgk i wr=>∃(k:Nat),i=X J k/\k<=Z l/\gk=Z l-k/\kt (∀j (b:j<Z l),j<k->l[j]≠x)/\wr=w)
 case atStart=>exact⟨0,rfl,by omega,rfl,λj b h=>by omega,rfl⟩
 case round=>
  obtain⟨k,rfl,H,p,m,rfl⟩:=hrel;have A:=Ab p;clear p;by_cases f:k<Z l
  .obtain⟨g,I,t,D⟩:=Uc F k f;simp only[fg]at t;obtain⟨rfl,_,rfl⟩:=t;obtain⟨T,d⟩:=kK (l[k]);have o:=Ab d;rw[d]at D;clear d;(have M:(0:Int)<=(k:Int):=by omega);(have N:(k:Int)<(Z l:Int):=by omega);by_cases a:x=T
   ·(have B:(x==T)=hG:=by simp[a]);(have c:kt (x∈l):=by show _∈_;rw[a,<-Aa o];exact fj f);clear a;go_wp2;go_ret;exact⟨k,rfl,kp ⟨by omega,c⟩,rfl⟩
   ·(have B:(x==T)=K:=by simp[a]);have C:kt (∀j (b:j<Z l),j<k+1->l[j]≠x):=by
     intro j b G;by_cases h:j<k
     .exact m j b h
     ·(have y:j=k:=by omega);subst y;rw[Aa o];exact λe=>a e.symm
    clear a;go_wp2
    go_roundg (Z l-(k+1))
    case measure=>have:=Aa A;omega
    case rel=>exact⟨k+1,by go_num,by omega,rfl,C,rfl⟩
  .have c:kt (x∉l):=by
    intro E;obtain⟨j,b,e⟩:=gv E;exact m j b (by omega) e
   go_wp2;go_ret;exact⟨-1,rfl,kn ⟨rfl,c⟩,rfl⟩
theorem QV(c:Option Addr)(b:Nat)(l:kJ Int)(x:Int)(f:Nat)(w:kq)(d:kw w f 21 1 (U c (Z l) b) (Z l) (l.flatMap AU))(k:Z l<=100000):
  Calls prog 159 #[U c (Z l) b,X ky x] w λr i=>r=j3 (k0 (decide (x∈l)))/\i=w:=by
 have g:=Ab (ah c b l x f w d k);clear d;go_enter func159,ntmps159;go_wp2_with fail
 refine g.mono ?_;rintro _ m ⟨n,rfl,h,rfl⟩;have j:kt (decide (0<=n)=decide (x∈l)):=by
  show _=_;rcases h with⟨e,a⟩|⟨e,a⟩
  .rw[ic a,ic (by omega)]
  .rw[ix a,ix e]
 clear h g;go_wp2;go_ret;rw[<-Aa j];exact⟨rfl,rfl⟩
def QY(a:kJ Int)(t:AO):kJ Int:=if t.v≠0/\t.v∉a then a++[t.v] else a
def Dv(ts:kJ AO):kJ Int:=ts.foldl QY []
def Wd{a:kJ AO}(b:k<Z a):Dv (a.take (k+1))=QY (Dv (a.take k)) a[k]:=by
 unfold Dv;rw[fm b,gM];rfl
theorem Rb(ad:Option Addr)(cp:Nat)(a:kJ AO)(EX:Nat)(w:kq)(hr:kw w EX 164 2 (U ad (Z a) cp) (Z a) (a.flatMap Ap))(HJ:Z a<=90000):
  Calls prog 145 #[U ad (Z a) cp] w λr M=>∃Bx AH,r=j3 (U Bx (Z (Dv a)) AH)/\kw M w.heap.size 21 1 (U Bx (Z (Dv a)) AH) (Z (Dv a)) ((Dv a).flatMap AU)/\Ac [] w M:=by
 obtain⟨i0,HD,EM,E0,FL⟩:=gH Tryz.zl;have HB:=Ab hr;obtain⟨R,D⟩:=kK (Dv a);rw[D];have HR:=Ab D;obtain⟨N,G⟩:=kK w.heap.size;rw[G];have HN:=Ab G;clear hr D G;go_enter func145,ntmps145;go_wp2_with fail
 go_loopg [3,8] (Z a) (λgk o i wr=>∃(k:Nat) (l:kJ Int) (d:Option Addr) (c:Nat),o=U d (Z l) c/\i=X J k/\k<=Z a/\gk=Z a-k/\Z l<=k/\kt (Dv (a.take k)=l)/\kt (kw wr N 21 1 (U d (Z l) c) (Z l) (l.flatMap AU))/\kt (Ac [] w wr))
 case atStart=>exact⟨0,[],Y,0,rfl,rfl,by omega,rfl,by simp,rfl,fK _ _ _ _,kL _ _⟩
 case round=>
  obtain⟨k,l,d,c,rfl,rfl,hk,S,HF,E,A,u⟩:=hrel;have y:=Ab S;clear S;by_cases L:k<Z a
  .obtain⟨g,HI,he,d0,Q⟩:=EU (Ad HB u) k L;simp only[fg]at he;obtain⟨rfl,_,rfl⟩:=he;obtain⟨T,z⟩:=kK (a[k]);have j:kt (Dv (a.take (k+1))=if T.v≠0/\T.v∉l then l++[T.v] else l):=by
    show _=_;rw[Wd L,Aa E,z];rfl
   rw[z]at d0 Q;clear z E;have p:=Ab (u.alloc (jj #[X ky T.v,O T.s] 164));have x:=Ab (kN wr [X ky T.v,O T.s] 164);have F:=fw A (jj #[X ky T.v,O T.s] 164);have n:=Ab F;have e:=Ab (QV d c l T.v N _ F (by omega));(have FT:N<=wr.heap.size:=by have:=u.size;have:=Aa HN;omega);clear F A u;by_cases b:T.v=0
   ·(have Ha:(T.v !=0)=K:=by simp[b]);(have FP:(T.v==0)=hG:=by simp[b]);(have m:kt (Dv (a.take (k+1))=l):=by show _=_;rw[Aa j,fB (λh=>h.1 b)]);clear j b e;go_wp2
    go_roundg (Z a-(k+1))
    case measure=>have:=Aa y;omega
    case rel=>exact⟨k+1,l,d,c,rfl,by go_num,by omega,rfl,by omega,m,n,p⟩
   ·(have Ha:(T.v !=0)=hG:=by simp[b]);(have FP:(T.v==0)=K:=by simp[b]);by_cases f:T.v∈l
    ·(have m:kt (Dv (a.take (k+1))=l):=by show _=_;rw[Aa j,fB (λh=>h.2 f)]);rw[ix f]at e;clear j b f;(go_wp2_with fail);refine e.mono ?_;rintro _ w3 ⟨rfl,rfl⟩;go_wp2
     go_roundg (Z a-(k+1))
     case measure=>have:=Aa y;omega
     case rel=>exact⟨k+1,l,d,c,rfl,by go_num,by omega,rfl,by omega,m,n,p⟩
    ·(have m:kt (Dv (a.take (k+1))=l++[T.v]):=by show _=_;rw[Aa j,fF ⟨b,f⟩]);rw[ic f]at e;clear j b f;(go_wp2_with fail);refine e.mono ?_;rintro _ w3 ⟨rfl,rfl⟩;obtain⟨B,hB⟩:=kK wr.heap.size;rw[hB]at x FT⊢;have C:kt (AF (wr.alloc (jj #[X ky T.v,O T.s] 164)) B [X ky T.v,O T.s] 164):=x;have FB:B<(wr.alloc (jj #[X ky T.v,O T.s] 164)).heap.size:=C.lt;clear e x hB d0 Q;generalize wr.alloc (jj #[X ky T.v,O T.s] 164)=w4 at n p C FB⊢;have I:=C.cell 0;simp at I;have H:=Aa n;go_wp2_with (at_builtin;refine fO _ rfl (.tmp 22) (.tmp 25) _ rfl N 21 i0 _ 1 4 underlying229 HD EM E0 FL rfl (by omega) (U d (Z l) c) (Z l) (l.flatMap AU) rfl (fw H _) ⟨w4.heap.size,0,Y⟩ 1 1 [X ky T.v] rfl rfl (fM (fX w4 _)) (by simp[Value.oneCell']) (by omega) (by unfold maxLen;omega) (by omega) (by simp;omega) (w4.heap.size+1) (by simp) ?_;intro g1 P w9 AR W CW FW)
     have FO:kt (kw w9 N 21 1 (U (V ⟨g1,0,Y⟩) (Z (l++[T.v])) P) (Z (l++[T.v])) ((l++[T.v]).flatMap AU)):=by
      rw[fR];simp only[fE,fD,gh,gE,fN,gI,gd,AU];exact AR
     have FA:=Ab ((p.alloc (jj #[X ky T.v] 21)).grown W (λq hq=>kp (by have:=(H.lt q hq).1;have:=Aa HN;omega)));clear AR W CW FW H n p I
     go_roundg (Z a-(k+1))
     case measure=>have:=Aa y;omega
     case rel=>exact⟨k+1,l++[T.v],V ⟨g1,0,Y⟩,P,by simp,by go_num,by omega,rfl,by simp;omega,m,FO,FA⟩
  .have HE:kt (l=R):=by
    have h:=Aa E;rw[fo (by omega),Aa HR]at h;exact h.symm
   go_wp2;go_ret;rw[<-Aa HE];exact⟨d,c,rfl,A,u⟩
structure bK(rcs:kJ AY)(hs:kJ (Nat×GE Ag))(s:kJ Ag):Prop where
 nd:(hs.map λh=>h.2.head).Nodup
 mem:∀f,f∈s↔f∈hs.map λh=>h.2.head
 each:∀i (hi:i<Z hs),∃(hn:hs[i].1<Z rcs) (σ:UInt8->zA),Ti rcs[hs[i].1] σ/\hs[i].2=DL rcs[hs[i].1] σ/\(∀g∈hs[i].2.pos,g∈(hs.take i).map λh=>h.2.head)/\∀g∈hs[i].2.neg,g∉s
def bK.start(a:kJ AY):bK a [] []:=⟨i7,λf=>by simp,λi b=>by simp at b⟩
def bK.add{o:zA->Nat}(I:Dl c o){s v:kJ Ag}{d:kJ (Nat×GE Ag)}(h:bK c d s)(Q:∀f∈s,o f.name<=n)(B:m<Z c)(P:o c[m].head.name=n){i:GE Ag}{σ:UInt8->zA}(t:i=DL c[m] σ)(C:Ti c[m] σ)(M:∀g∈i.pos,g∈s)(N:∀g∈i.neg,g∉s)(L:i.head∉s)(q:∀f,f∈v↔f∈s\/f=i.head):bK c (d++[(m,i)]) v:=by
 have D:=I.zU;have S:o i.head.name=n:=by rw[t];exact P
 refine⟨?_,λf=>?_,λk F=>?_⟩
 .rw[gn];refine jF.2 ⟨h.nd,by simp,λa A b x e=>?_⟩;simp only[fS,iV,ft]at x;rw[e,x]at A;exact L ((h.mem _).2 A)
 .rw[q f,h.mem f,gn,fA];simp
 .by_cases p:k<Z d
  .have u:(d++[(m,i)])[k]=d[k]:=jw p;obtain⟨y,τ,w,z,G,H⟩:=h.each k p;rw[gG (by omega)];simp only[u];refine⟨y,τ,w,z,G,λg l j=>?_⟩;rcases(q g).1 j with j|j
   .exact H g l j
   .have r:=D.neg d[k].2 ⟨c[d[k].1],fj y,τ,w,z⟩ g l;have R:=Q d[k].2.head ((h.mem _).2 (fC.2 ⟨d[k],fj p,rfl⟩));rw[j]at r;omega
  ·(have E:k=Z d:=by simp at F;omega);subst E;(have u:(d++[(m,i)])[Z d]=(m,i):=by simp);rw[List.take_left];simp only[u];refine⟨B,σ,C,t,λg l=>(h.mem g).1 (M g l),λg l j=>?_⟩;rcases(q g).1 j with j|j
   .exact N g l j
   .have r:=D.neg i ⟨c[m],fj B,σ,C,t⟩ g l;rw[j]at r;omega
def Rt:∀(l s:kJ Ag),D5 s->(∀f∈s,AQ f)->(∀f∈l,AQ f)->D5 (l.foldl Ba s)/\(∀f∈l.foldl Ba s,AQ f)/\∀f,f∈l.foldl Ba s↔f∈s\/f∈l
 |[],s,h1,h2,_=>⟨h1,h2,λf=>by simp⟩
 |x::l,s,h1,h2,h3=>by
  obtain⟨e,b,h⟩:=C0 (h3 x (by simp)) h1 h2;obtain⟨a,c,g⟩:=Rt l (Ba s x) e b (λf d=>h3 f (by simp[d]));refine⟨a,c,λf=>?_⟩;rw[fZ,g f,h f,fx,or_assoc]
def bK.batch{o:zA->Nat}(A:Dl c o){s:kJ Ag}{B:kJ (Nat×GE Ag)}(h:bK c B s)(I:D5 s)(H:∀f∈s,AQ f)(M:∀f∈s,o f.name<=n)(D:m<Z c)(C:o c[m].head.name=n){l:kJ Ag}(L:l.Nodup)(u:∀f∈l,f∉s/\AQ f)
  {a:kJ (GE Ag)} (t:a.map GE.head=l) (z:∀i∈a,∃σ,(∀x∈Ak c[m],B7 (Br σ) (Ev σ) s x=hG)/\i=DL c[m] σ):∀j,bK c (B++(a.take j).map (Prod.mk m)) ((l.take j).foldl Ba s):=by
 have w:∀f∈l,o f.name=n:=by
  intro f b;rw[<-t]at b;obtain⟨i,k,rfl⟩:=fC.1 b;obtain⟨σ,_,rfl⟩:=z i k;exact C
 have Q:Z a=Z l:=by rw[<-t,fH]
 intro j
 induction j with
 |zero=>simpa using h
 |succ j ih=>
  by_cases e:j<Z l
  ·(have r:j<Z a:=by omega);have d:=Rt (l.take j) s I H (λf b=>(u f (iy b)).2);have y:l[j]=a[j].head:=by
    have:=congrArg (λl=>l[j]?) t;simp only[io,fI r,fI e,im,fu]at this;exact this.symm
   obtain⟨σ,F,k⟩:=z a[j] (fj r);obtain⟨v,E⟩:=(GZ c[m] σ s).1 F;rw[<-k]at v;rw[fm r,gn,<-gF,fm e,gM];simp only[fS,iV,fZ,List.foldl_nil];refine ih.add A (n:=n) (λf b=>?_) D C k E (λg p=>(d.2.2 g).2 (kn (v.1 g p))) (λg p q=>?_) (λq=>?_) (λf=>?_)
   .rcases(d.2.2 f).1 b with h|h
    .exact M f h
    .exact Nat.le_of_eq (w f (iy h))
   .rcases(d.2.2 g).1 q with h|h
    .exact v.2 g p h
    .have R:=A.zU.neg a[j] ⟨c[m],fj D,σ,E,k⟩ g p;have N:=w g (iy h);(have P:o a[j].head.name=n:=by rw[<-y];exact w _ (fj e));omega
   .rw[<-y]at q;rcases(d.2.2 _).1 q with h|h
    .exact(u _ (fj e)).1 h
    ·(have G:(l.take j++l[j]::l.drop (j+1)).Nodup:=by rw[<-fQ e,gL];exact L);exact(jF.1 G).2.2 _ h _ (gJ ..) rfl
   .rw[(C0 (u _ (fj e)).2 d.1 d.2.1).2.2 f,y]
  .rw[fo (by omega),fo (by omega)];rw[fo (by omega),fo (by omega)]at ih;exact ih
