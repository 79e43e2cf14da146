import Derived.Test.YtoihbhenbmffcaaGreatDoorMB
import Derived.Deep.AppendSrc
set_option linter.all false
set_option maxHeartbeats 0
open List renaming length->Z,toArray->Za,flatMap->qS,take->qT,foldl->qU,replicate->kB
open Option renaming none->Y,some->V
open Go.Value renaming slice->U,int->X,string->O,pointer->jj,agg->ku,bool->kx,ownBlock->kE
open Bool renaming false->K,true->T6
open Go.IntKind renaming i64->J
open Go.Obj renaming cells->Y6
open Go.Ending renaming returned->j1
open Or renaming inl->j2,inr->j3
open Go renaming World->jH,Value->jR,Calls->rE
open Go.RowKit renaming Hid->jV,intOf->rG
open Go.World renaming cell?->jY,ownsRow->kt
open Prod renaming fst->kD
open Go.Op renaming bytesLess->kG
open Go.Proofs.Tryz renaming prog->rF
open ByteArray renaming empty->ky
open Go.Act renaming put->kF
namespace Go.Proofs.YtoihbhenbmffcaaGreatDoor
open Go.RowKit Go.Proofs.Tryz
section
variable{w:jH}{i j m b:Nat}{T:TypeId}{y:kN jR}
def Cd(v lv:jR):Prop:=∀k,v.ownBlock=V k->lv.ownBlock≠V k
def Cd.zb{v f}{g n cap}(h:Cd v f)(l:kt w i T j v m y)(a:f.ownBlock=V g\/g=b)(o:w.heap.size<=b):Cd v (U (V ⟨g,0,Y⟩) n cap):=by
 intro k c d;simp only[kE,lZ]at d;subst d;rcases a with a|a
 .exact h g c a
 .have:=(l.lt g c).2;omega
section
variable {P:Program} (w:jH)
def P4(t o e i)(k:P.underlying t=V (.slice e))(m:P.info? e=V i)(d n b)(l:n<=b)(f c):
  (Builtin.append_ #[t,t] o #[U d n b,U f 0 c]).run P w=.ok (U d n b) w:=by
 have g:(Builtin.firstCells i.size 0 (U f 0 c)).run P w=.ok #[] w:=by
  cases f with
  |none=>exact lx
  |some a=>exact run_firstCells_some w _ 0 a 0 c [] ln (λj u h=>pp)
 cases d with
 |none=>simp[Builtin.append_,qh k,sizeOf,typeInfo,m,Builtin.lenOf,l,g]
 |some a=>simp[Builtin.append_,qh k,sizeOf,typeInfo,m,Builtin.lenOf,l,g,storeCells]
def Qy(t y l e i z b B)(C:P.underlying t=V (.slice e))(D:P.info? e=V i)(W:i.zero=V z)(F:i.size=b)(Ax:i.bytes=B)(AR:z.cells.size=b)(S:0<b)(f n a)(x:kN jR)(s:kt w l e b (U f n a) n x)(b2 p m c)(k:kN jR)(r:kt w b2 e b (U p m c) m k)(M:∀u∈k,u.oneCell'=T6)(Q:n+m<=maxLen)(AT:(n+m)*B<=140737488355328)(L:l<=w.heap.size):
  ∃v d j,(Builtin.append_ #[t,t] y #[U f n a,U p m c]).run P w=.ok (U v (n+m) d) j/\
   kt j l e b (U v (n+m) d) (n+m) (x++k)/\w.grownBy j (U f n a).ownBlock/\(∀q,(U v (n+m) d).ownBlock=V q->(U f n a).ownBlock=V q\/q=w.heap.size):=by
 rcases Nat.eq_zero_or_pos m with A|A
 .subst A;have T:k=[]:=ot (by have:=r.1;omega);subst T;have N:n<=a:=by
   rcases s.2 with⟨h,H⟩|⟨g,d,R,h,_,_,hc,_⟩
   .omega
   .simp only[lU]at h;omega
  refine⟨f,a,w,P4 w t y e i C D f n a N p c,li,⟨rfl,rfl,rfl,mt _,λ_ _ _=>rfl⟩,λq o=>j2 o⟩
 .have hx:∃g,p=V ⟨g,0,Y⟩:=by
   rcases r.2 with⟨h,H⟩|⟨g,d,R,h,_⟩
   .omega
   .exact qr
  obtain⟨g,rfl⟩:=hx;obtain⟨g1,d,j,G,r2,E,I,r5⟩:=run_append_lies (P:=P) w t y l e i z b B C D W F Ax AR S _ n x s ⟨g,0,Y⟩ m c k r.1 (r.cells rfl) M A Q AT L _ rfl;refine⟨_,d,j,G,r2,E,λq o=>?_⟩;simp only[kE,lZ]at o;subst o;exact I
def My{o:Oper}{a}{A}{Q}(s x t)(R:o.op=.call {callee:=.builtin .append,args:=#[s,x],argTypes:=#[t,t]})(l e i z b y)(F:P.underlying t=V (.slice e))(hi:P.info? e=V i)(M:i.zero=V z)(D:i.size=b)(S:i.bytes=y)(AO:z.cells.size=b)(N:0<b)(g n k)(v:kN jR)(hs:a.eval s=U g n k)(C:kt w l e b (U g n k) n v)(B r m c)(p:kN jR)(hx:a.eval x=U r m c)(AT:kt w B e b (U r m c) m p)(I:∀u∈p,u.oneCell'=T6)(L:n+m<=maxLen)(AR:(n+m)*y<=140737488355328)(G:l<=w.heap.size)(h:∀j f d,kt d l e b (U j (n+m) f) (n+m) (v++p)->w.grownBy d (U g n k).ownBlock->(∀q,(U j (n+m) f).ownBlock=V q->(U g n k).ownBlock=V q\/q=w.heap.size)->A (a.put o.dst (U j (n+m) f)) d):o.wp P a w A Q:=by
 obtain⟨j,f,d,T,E,W,H⟩:=Qy (P:=P) w t o.type l e i z b y F hi M D S AO N g n k v C B r m c p AT I L AR G;unfold Oper.wp execOp;simp only[R,resolve,invoke,builtin,pL,Sem.run_pure,Result.andThen_ok,List.map_toArray,mA,om,hs,hx,T];exact h j f d E W H
def F4{A}{C:kN Oper}{o}{a}{Q}(D:o.guard=Y)(s x t)(W:o.op=.call {callee:=.builtin .append,args:=#[s,x],argTypes:=#[t,t]})(l e i z b y)(H:P.underlying t=V (.slice e))(hi:P.info? e=V i)(S:i.zero=V z)(F:i.size=b)(Ax:i.bytes=y)(AT:z.cells.size=b)(T:0<b)(g n k)(v:kN jR)(hs:a.eval s=U g n k)(E:kt w l e b (U g n k) n v)(B r m c)(p:kN jR)(hx:a.eval x=U r m c)(A1:kt w B e b (U r m c) m p)(N:∀u∈p,u.oneCell'=T6)(R:n+m<=maxLen)(A0:(n+m)*y<=140737488355328)(I:l<=w.heap.size)(h:∀j f d,kt d l e b (U j (n+m) f) (n+m) (v++p)->w.grownBy d (U g n k).ownBlock->(∀q,(U j (n+m) f).ownBlock=V q->(U g n k).ownBlock=V q\/q=w.heap.size)->wpList P A Q C (a.put o.dst (U j (n+m) f)) d):wpList P A Q (o::C) a w:=
 wpList_plain D λ_ M=>My w s x t W l e i z b y H hi S F Ax AT T g n k v hs E B r m c p hx A1 N R A0 I λj f d G h3 L=>M _ _ (h j f d G h3 L)
def Ki{R}{o}{a}{A}{Q}{E}(C:o.guard=Y)(s x t)(S:o.op=.call {callee:=.builtin .append,args:=#[s,x],argTypes:=#[t,t]})(g e i z b y)(G:P.underlying t=V (.slice e))(hi:P.info? e=V i)(M:i.zero=V z)(F:i.size=b)(T:i.bytes=y)(AH:z.cells.size=b)(N:0<b)(d n f)(v:kN jR)(W:a.eval s=U d n f)(D:kt w g e b (U d n f) n v)(B p m c)(j:kN jR)(hx:a.eval x=U p m c)(AR:kt w B e b (U p m c) m j)(I:∀u∈j,u.oneCell'=T6)(L:n+m<=maxLen)(AO:(n+m)*y<=140737488355328)(H:g<=w.heap.size)(h:∀r l k,kt k g e b (U r (n+m) l) (n+m) (v++j)->w.grownBy k (U d n f).ownBlock->(∀q,(U r (n+m) l).ownBlock=V q->(U d n f).ownBlock=V q\/q=w.heap.size)->A (a.put o.dst (U r (n+m) l)) k):
  if Region.wanted o (yielded R a.tmps)=T6 then Oper.wp P o a w A Q else E:=by
 rw[mo (by unfold Region.wanted;simp[C])];exact My w s x t S g e i z b y G hi M F T AH N d n f v W D B p m c j hx AR I L AO H h
end
end
section
variable{M:kN Nat}{n k i m:Nat}{w u v:jH}{z:jR}{s:bN}{e:kN bN}{P:Program}{Q:Exit->Act->jH->Prop}{a:Act}{B:rD}{g:rC}{T:TypeId}{y:kN jR}
theorem Tryz.info95:(Tryz.prog.info? 95).map (λi=>(i.zero,i.size,i.bytes))=V (V (ku #[X .u8 0,O ⟨#[]⟩,U Y 0 0,X J 0,X .u8 0,O ⟨#[]⟩,X .u8 0,O ⟨#[]⟩,X J 0]),9,112):=lo
abbrev Bc:=Bt×jR
def DL(l:kN Bc):kN jR:=l.flatMap λp=>Cy p.1 p.2
def Cc(w:jH)(base:Nat)(p:Bc):Prop:=kt w base 93 2 p.2 (Z p.1.A.qH) (qS AP p.1.A.qH)
def Cc.C{w w':jH}{p:Bc}(h:Cc w n p)(k:Ac M w w')(a:∀i,i∈M->i<n:=by simp):Cc w' n p:=Ad h k a
def Cc.grown{p}(h:Cc w n p)(k:w.grownBy u z.ownBlock)(a:Cd p.2 z):Cc u n p:=
 nF (v:=p.2) h k (by
  cases hv:p.2.ownBlock with
  |none=>exact ln
  |some k=>exact j3 (λe=>a k hv e.symm))
def Cc.alloc{w}{a}{p}(h:Cc w a p)(o):Cc (w.alloc o) a p:=mg h o
set_option maxRecDepth 100000
theorem XO(b s h w)(hs:s.size<=1000000)(HI:h<=s.size)(hB:AF w b (B5 s h K) 73):rE rF 81 #[jj (V ⟨b,0,Y⟩)] w λe W=>∃(bv:jR) (bl:kN Bc),e=j1 bv/\bl.map kD=(By s h).1/\
   kt W w.heap.size 95 9 bv (Z bl) (DL bl)/\(∀p∈bl,Cc W w.heap.size p)/\AF W b (B5 s (By s h).2.1 (By s h).2.2) 73/\Ac [b] w W:=by
 obtain⟨i0,HH,FP,HK,HC⟩:=mW Tryz.info95;have HR:=hB.lt;obtain⟨L,v,o,hL⟩:∃L v o,By s h=(L,v,o):=⟨_,_,_,rfl⟩;rw[hL];have HL:jV _:=hL;clear hL;go_enter func81,ntmps81;go_wp2_with fail
 go_loopg [3,4] (2*(s.size-h)+1) (λk l HB wr=>∃(r j:rD) (a:Nat) (c:kN Bc),HB=kx r/\a<=s.size/\Z c<=a+1/\((r&& !j)=T6->Z c<=a)/\
  k=2*(s.size-a)+(if(r&& !j)=T6 then 1 else 0)/\jV (EO s r j a (c.map kD) (L,v,o))/\AF wr b (B5 s a j) 73/\
  kt wr w.heap.size 95 9 l (Z c) (DL c)/\jV (∀p∈c,Cc wr w.heap.size p/\Cd p.2 l)/\Ac [b] w wr)
 case atStart=>
  refine⟨T6,K,h,[],rfl,HI,ln,ln,ln,?_,hB,mw _ _ _ _,λp f=>by simp at f,kR _ _⟩;exact oa
 case round=>
  obtain⟨r,j,a,c,rfl,ha,A2,T,B,z,y,n,AH,D⟩:=hrel;have M:jV _:=B;clear B;obtain⟨ad,cp,rfl⟩:=CX n;cases r with
  |false=>
   have E:=z.o.done rfl;have HD:jV (c.map kD=L/\a=v/\j=o):=E;go_wp2;go_ret;obtain⟨d1,d2,d3⟩:=HD.o;subst d2 d3;exact⟨_,c,rfl,d1,n,λp f=>(AH.o p f).1,y,D⟩
  |true=>
   cases j with
   |true=>
    have E:=z.o.done rfl;have HD:jV (c.map kD=L/\a=v/\T6=o):=E;have Bx:=y.D 2;simp[B5]at Bx;clear A2 T M z E;go_wp2;go_ret;obtain⟨d1,d2,d3⟩:=HD.o;subst d2 d3;exact⟨_,c,rfl,d1,n,λp f=>(AH.o p f).1,y,D⟩
   |false=>
    have Bx:=y.D 2;simp[B5]at Bx;have HV:=y.lt;have Go:=T rfl;clear A2 T;obtain⟨t,i,d,I⟩:∃t i d,DO s a=(t,i,d):=⟨_,_,_,rfl⟩;(have HO:i<=s.size:=by have:=MD s a ha;rw[I]at this;exact this);have HS:=z.o.step I ha (by simpa using Go);obtain⟨m,hm⟩:=kQ (!d&&Ey s (AS s i d) 44);obtain⟨g,CW⟩:=kQ (Cn s i d 44);rw[hm,CW]at HS;obtain⟨q1,S,N,q4,Q⟩:=HS;have C:jV (DO s a=(t,i,d)/\(!d&&Ey s _ 44)=m/\Cn s i d 44=g/\g<=s.size/\Z (c.map kD++[t])<=g+1/\((m&& !d)=T6->Z (c.map kD++[t])<=g)/\2*(s.size-g)+(if(m&& !d)=T6 then 1 else 0)<gk/\EO s m d g (c.map kD++[t]) _):=
     ⟨I,hm,CW,q1,S,N,by have:=M.o;simp at this;omega,Q⟩
    clear I hm CW q1 S N q4 Q M z;(go_wp2_with fail);refine(iO b s a _ hs ha y).G ?_;rintro e R ⟨av,rfl,u,AT,H⟩;rw[C.o.1]at AT u|-;obtain⟨x,q,rfl⟩:=CX u;have FF:=Ad n H li;have FW:=H.size;have FL:=D.size;simp only[Cy];simp at u;go_wp2_with (at_builtin;refine mE _ rfl _ _ _ rfl w.heap.size 95 i0 _ 9 112 underlying80 HH FP HK HC rfl lc (U ad (Z c) cp) (Z c) (DL c) rfl (FF.alloc _) ⟨R.heap.size,0,Y⟩ 1 1 (Cy t (U x (Z t.A.qH) q)) rfl rfl (mz (mG R _)) (by simp[Value.oneCell',Cy]) lc lw lc li (R.heap.size+1) ln ?_;intro gg FB w5 B9 F CC HU)
    have HT:=(B9.lt gg rfl).1;have FC:=(AT.alloc _).grown F (by have:=A8 n b lc;simpa using this);have DT:=((D.H H).alloc _).grown F (λk B=>j3 ((n.lt k B).1));have B0:jV (∀p∈c++[(t,U x (Z t.A.qH) q)],Cc w5 w.heap.size p/\Cd p.2 (U (V ⟨gg,0,Y⟩) (Z c+1) FB)):=by
     intro p f;rcases mi.1 f with f|f
     .obtain⟨h1,G⟩:=AH.o p f;have AO:=h1.C H li;exact⟨(AO.alloc _).grown F G,Cd.zb G AO CC lc⟩
     .simp at f;subst f;have G:Cd (U x (Z t.A.qH) q) (U ad (Z c) cp):=by
       intro k B he;have:=(u.lt k B).1;have:=(n.lt k he).2;omega
      have AO:Cc R _ (t,U x _ q):=Ak u lc;exact⟨(AO.alloc _).grown F G,Cd.zb G u CC lc⟩
    clear AH u AT H FF F CC n y D FW FL;(go_wp2_with fail);refine(Og b s i d 44 44 _ rfl hs HO FC).G ?_;rintro e w6 ⟨rfl,EY,P⟩;have FO:=Ad B9 P li;have HA:=DT.H P;have HF:jV (∀p∈c++[(t,(U x _ q:jR))],Cc w6 _ p/\Cd p.2 _):=
     λp f=>⟨(B0.o p f).1.C P li,(B0.o p f).2⟩
    rw[C.o.2.2.1]at EY;rw[C.o.2.1];clear FC DT P B9 B0;go_wp2_with fail
    go_roundg (2*(s.size-g)+(if(m&& !d)=T6 then 1 else 0))
    case measure=>exact C.o.2.2.2.2.2.2.1
    case rel=>
     obtain⟨_,_,_,q1,S,N,_,Q⟩:=C.o;refine⟨m,d,g,_,rfl,q1,by simpa using S,by simpa using N,rfl,?_,EY,?_,HF,HA⟩
     .show EO _ _ _ _ _ _;simpa using Q
     .simpa[DL] using FO
structure Cv where
 E:Dp
 body:kN Bt
 e:Nat
def Dc(c:Cv)(hv bv:jR):kN jR:=[O c.E.a,hv,X J c.E.e,bv,X J c.e]
def Eg(s:bN)(a1:Nat)(b1:rD):kN Bt×Nat×rD:=
 if !b1&&Ey s (AS s a1 b1) 58 then(if Ey s (Cn s a1 b1 58) 45 then By s (Cn s a1 b1 58+1)else([],Cn s a1 b1 58,T6))else([],Cn s a1 b1 58,b1)
def An(s:bN)(at_:Nat):Cv×Nat×rD:=
 let A:=A5 s (Af s at_) K
 let B:=Eg s A.2.1 A.2.2
 (⟨A.1,B.1,Af s at_⟩,BM s B.2.1 B.2.2 46)
theorem ZM(b s E j w A n g a3 f b3 L a4 b4)(hs:s.size<=1000000)(HV:E<=s.size)(k:jV (Af s E=j/\A5 s j K=(A,n,f)/\Cn s n f 58=g/\Eg s n f=(L,a3,b3)/\BM s a3 b3 46=(a4,b4)))(hB:AF w b (B5 s E K) 73):rE rF 44 #[jj (V ⟨b,0,Y⟩)] w λe w'=>∃(hv bv:jR) (a:kN Bc),e=j1 (ku (Za (Dc ⟨A,L,j⟩ hv bv)))/\kt w' w.heap.size 93 2 hv (Z A.qH) (qS AP A.qH)/\
   a.map kD=L/\kt w' w.heap.size 95 9 bv (Z a) (DL a)/\(∀p∈a,Cc w' w.heap.size p)/\AF w' b (B5 s a4 b4) 73/\Ac [b] w w':=by
 have K6:=hB.lt;have HW:j<=s.size:=by have:=BI s E HV;have:=k.o.1;omega
 have HD:n<=s.size:=by have:=JN s j K HW;rw[k.o.2.1]at this;exact this
 have Ha:g<=s.size:=by have:=Ec s n f 58 HD;rw[k.o.2.2.1]at this;exact this
 go_enter func44,ntmps44;go_wp2_with fail
 refine(DY b s E K _ hs HV (hB.alloc _)).G ?_;rintro e w1 ⟨rfl,T,hK⟩;rw[show AS s E K=j from k.o.1]at T
 have hn:=(kS w _ _).C hK li;have HG:=((kR [b] w).alloc _).H hK;clear hB hK;have K1:=T.lt;have H6:=hn.lt;have u:=T.D 1;simp[B5]at u;go_wp2_with fail
 refine(R2 b s j K _ hs HW (T.alloc _)).G ?_;rintro e w2 ⟨hv,rfl,o,FF,BA⟩;rw[k.o.2.1]at FF o|-;have B:=(kS w1 _ _).C BA li;have H2:=(hn.alloc _).C BA li;have HO:=(HG.alloc _).H BA;have HM:=BA.size;simp only[mJ]at o HM;obtain⟨N,hN⟩:=kQ w1.heap.size;rw[hN]at B o HM|-;have K4:b<N:=lc
 have LC:w.heap.size<N:=lc
 clear HG T hn K1 H6 u BA hN;obtain⟨S,P,rfl⟩:=CX o
 try simp only at o
 obtain⟨e0,e1,e2⟩:=B.c3;have HN:=B.qI;simp at e0 e1 e2;simp only[CN];go_wp2_with fail
 have HF:=((FF.bW ⟨N,0,Y⟩ li (O A.a)).bW ⟨N,1,Y⟩ li (U S (Z A.qH) P)).bW ⟨N,2,Y⟩ li (X J A.e);have EY:=((B.set 0 (O A.a)).set 1 (U S (Z A.qH) P)).set 2 (X J A.e);have H3:=((H2.bW ⟨N,0,Y⟩ li (O A.a)).bW ⟨N,1,Y⟩ li (U S (Z A.qH) P)).bW ⟨N,2,Y⟩ li (X J A.e);have HK:=((HO.setCell (p:=⟨N,0,Y⟩) li (O A.a)).setCell (p:=⟨N,1,Y⟩) li (U S (Z A.qH) P)).setCell (p:=⟨N,2,Y⟩) li (X J A.e);have H4:=Ah (Ah (Ah o (p:=⟨N,0,Y⟩) (by simpa using A8 o N lc) (O A.a)) (p:=⟨N,1,Y⟩) (by simpa using A8 o N lc) (U S (Z A.qH) P)) (p:=⟨N,2,Y⟩) (by simpa using A8 o N lc) (X J A.e);simp only[lS,lT]at EY;clear FF B H2 HO o e0 e1 e2 HN;refine(Og b s n f 58 58 _ rfl hs HD HF).G ?_;rintro e C ⟨rfl,d,A0⟩;rw[k.o.2.2.1]at d;have t:=EY.C A0 li;have r:=H3.C A0 li;have v:=HK.H A0;have m:=Ad H4 A0 li;clear HF EY H3 HK H4 A0;have K7:=t.lt;have LB:=d.lt;have K3:=r.lt;have hQ:(!f&&Ey s (AS s n f) 58)=K\/((!f&&Ey s (AS s n f) 58)=T6/\¬g<s.size)\/((!f&&Ey s (AS s n f) 58)=T6/\g<s.size/\Ey s g 45=K)\/((!f&&Ey s (AS s n f) 58)=T6/\Ey s g 45=T6):=by
  cases(!f&&Ey s (AS s n f) 58)<;>cases Ey s g 45<;>simp
  omega
 rcases hQ with i|⟨i,BS⟩|⟨i,BS,q⟩|⟨i,q⟩
 case' inl=>
  rw[i];have c:=k.o.2.2.2.1;unfold Eg at c;rw[i,k.o.2.2.1]at c;simp only[ma,rm,mU]at c;obtain⟨z,r2,r3⟩:=c;subst r2 r3;have CC:=Ha;obtain⟨a,h⟩:∃a:kN Bc,jV (a.map kD=L)/\a=[]:=⟨[],by show _=_;rw[<-z];rfl,rfl⟩;have R:=d;have Q:=t;have AR:=r;have AH:=v;have AB:=m;have Ax:kt C (N+1) 95 9 (U Y 0 0) (Z a) (DL a):=by rw[h.2];exact mw _ _ _ _
  have A1:jV (∀p∈a,Cc C (N+1) p):=by rw[h.2];intro p l;simp at l
  replace h:=h.1
  clear d t r v m z i
 case' inr.inl=>
  have A2:f=K:=by cases f<;>simp_all
  subst A2;rw[i];have c:=k.o.2.2.2.1;unfold Eg at c;rw[i,k.o.2.2.1]at c;simp only[ro]at c;obtain⟨H,u,G⟩:=d.c3;have FA:=d.qI;simp[B5]at H u G;have q:Ey s g 45=K:=ia BS 45;rw[q]at c;simp only[ma,rm,mU]at c;obtain⟨z,r2,r3⟩:=c;subst r2 r3;have CC:=Ha;obtain⟨a,h⟩:∃a:kN Bc,jV (a.map kD=L)/\a=[]:=⟨[],by show _=_;rw[<-z];rfl,rfl⟩;clear z i;have K5:decide ((g:Int)<(s.size:Int))=K:=li
  have LD:decide (g<s.size)=K:=li
  go_wp2_with fail
  go_quiet (fail)
  have R:=(d.drewN nq).set 2 (kx T6);have Q:=(t.drewN nq).bW ⟨b,2,Y⟩ li (kx T6);have AR:=(r.drewN nq).bW ⟨b,2,Y⟩ li (kx T6);have AH:=(v.drewN nq).setCell (p:=⟨b,2,Y⟩) ln (kx T6);have AB:=Ah (DM m nq) (p:=⟨b,2,Y⟩) (by simpa using A8 m b lc) (kx T6);have Ax:kt ((C.drewN nq).setCell ⟨b,2,Y⟩ (kx T6)) (N+1) 95 9 (U Y 0 0) (Z a) (DL a):=by rw[h.2];exact mw _ _ _ _
  have A1:jV (∀p∈a,Cc ((C.drewN nq).setCell ⟨b,2,Y⟩ (kx T6)) (N+1) p):=by rw[h.2];intro p l;simp at l
  replace h:=h.1
  clear d t r v m
 case' inr.inr.inl=>
  have A2:f=K:=by cases f<;>simp_all
  subst A2;rw[i];have c:=k.o.2.2.2.1;unfold Eg at c;rw[i,k.o.2.2.1]at c;simp only[ro]at c;obtain⟨H,u,G⟩:=d.c3;have FA:=d.qI;simp[B5]at H u G;rw[q]at c;simp only[ma,rm,mU]at c;obtain⟨z,r2,r3⟩:=c;subst r2 r3;have CC:=Ha;obtain⟨a,h⟩:∃a:kN Bc,jV (a.map kD=L)/\a=[]:=⟨[],by show _=_;rw[<-z];rfl,rfl⟩;clear z i;have H7:(g:Int)<(s.size:Int):=lc
  have hq:((s[g].toNat:Int)==45)=K:=by rw[<-q];exact(Jm BS 45).symm
  go_wp2_with fail
  go_quiet (fail)
  have R:=(d.drewN nq).set 2 (kx T6);have Q:=(t.drewN nq).bW ⟨b,2,Y⟩ li (kx T6);have AR:=(r.drewN nq).bW ⟨b,2,Y⟩ li (kx T6);have AH:=(v.drewN nq).setCell (p:=⟨b,2,Y⟩) ln (kx T6);have AB:=Ah (DM m nq) (p:=⟨b,2,Y⟩) (by simpa using A8 m b lc) (kx T6);have Ax:kt ((C.drewN nq).setCell ⟨b,2,Y⟩ (kx T6)) (N+1) 95 9 (U Y 0 0) (Z a) (DL a):=by rw[h.2];exact mw _ _ _ _
  have A1:jV (∀p∈a,Cc ((C.drewN nq).setCell ⟨b,2,Y⟩ (kx T6)) (N+1) p):=by rw[h.2];intro p l;simp at l
  replace h:=h.1
  clear d t r v m
 case' inr.inr.inr=>
  have A2:f=K:=by cases f<;>simp_all
  subst A2;rw[i];have c:=k.o.2.2.2.1;unfold Eg at c;rw[i,k.o.2.2.1]at c;simp only[ro]at c;obtain⟨H,u,G⟩:=d.c3;have FA:=d.qI;simp[B5]at H u G;rw[q]at c;simp only[ro]at c;have BS:=Gc q;have H7:(g:Int)<(s.size:Int):=lc
  have hq:((s[g].toNat:Int)==45)=T6:=by rw[<-q];exact(Jm BS 45).symm
  have CC:a3<=s.size:=by have:=Ss s (g+1) lc;rw[c]at this;exact this
  have HR:jV (By s (g+1)=(L,a3,b3)):=c;clear c i q;go_wp2_with fail
  go_quiet (fail)
  clear hq;go_wp2_with fail
  refine(XO b s (g+1) _ hs lc ((d.drewN nq).set 1 _)).G ?_;rintro e w4 ⟨bv,a,rfl,FB,H1,HY,HC,F⟩;rw[HR.o]at HC FB;have h:jV (a.map kD=L):=FB;have FW:=((t.drewN nq).bW ⟨b,1,Y⟩ li _).C F li;have HT:=((r.drewN nq).bW ⟨b,1,Y⟩ li _).C F li;have HZ:=((v.drewN nq).setCell (p:=⟨b,1,Y⟩) ln _).H F;have FP:=Ad (Ah (DM m nq) (p:=⟨b,1,Y⟩) (by simpa using A8 m b lc) _) F li;have B2:kt w4 (N+1) 95 9 bv (Z a) (DL a):=Ak H1 li;have EX:jV (∀p∈a,Cc w4 (N+1) p):=λp l=>Ak (HY p l) li
  have E0:=F.size;simp only[World.size_setCell]at E0;have K2:C.heap.size<=w4.heap.size:=E0;clear d t r v m F H1 HY FB H u G FA E0;obtain⟨x,y,rfl⟩:=CX B2;have e3:=FW.D 3;have HN:=FW.qI 3;simp at e3;have R:=HC.bW ⟨N,3,Y⟩ li (U x (Z a) y);have Q:=FW.set 3 (U x (Z a) y);have AR:=HT.bW ⟨N,3,Y⟩ li (U x (Z a) y);have AH:=HZ.setCell (p:=⟨N,3,Y⟩) li (U x (Z a) y);have AB:=Ah FP (p:=⟨N,3,Y⟩) (by simpa using A8 FP N lc) (U x (Z a) y);have Ax:=Ah B2 (p:=⟨N,3,Y⟩) (by simpa using A8 B2 N lc) (U x (Z a) y);have A1:jV (∀p∈a,Cc (w4.setCell ⟨N,3,Y⟩ (U x (Z a) y)) (N+1) p):=λp l=>Ah (EX.o p l) (by simpa using A8 (EX.o p l) N lc) _
  clear HC HT HZ FP B2 EX
 all_goals
  have K8:=R.lt;have LE:=Q.lt;go_wp2_with fail
  refine(Sp b s _ _ 46 46 _ rfl hs CC R).G ?_;rintro e w6 ⟨rfl,HP,D⟩;have CL:=k.o.2.2.2.2;simp only[BM,mU]at CL;rw[CL.1,CL.2]at HP;have IA:=Q.C D li;have FO:=AR.C D li;have IJ:=AH.H D;have Jx:=Ad AB D li;have H8:=Ad Ax D li;have JA:jV (∀p∈a,Cc w6 (N+1) p):=λp l=>(A1.o p l).C D li
  clear R Q AR AH AB Ax D CL A1;have I:=IA.D;have M:=FO.D;have K9:=FO.qI;have e0:=I 0;have e1:=I 1;have e2:=I 2;have e3:=I 3;have e4:=I 4;have f0:=M 0;have f1:=M 1;have f2:=M 2;have f3:=M 3;have f4:=M 4;simp at e0 e1 e2 e3 e4 f0 f1 f2 f3 f4;clear I M;go_wp2;have W:∀{v0 v1 v2 v3 v4:jR},Ac [w.heap.size] w6 (((((w6.setCell ⟨w.heap.size,0,Y⟩ v0).setCell ⟨w.heap.size,1,Y⟩ v1).setCell ⟨w.heap.size,2,Y⟩ v2).setCell ⟨w.heap.size,3,Y⟩ v3).setCell ⟨w.heap.size,4,Y⟩ v4):=by
   intro v0 v1 v2 v3 v4
   repeat (refine Ac.setCell ?_ ln _)
   exact kR _ _
  refine mF (Cj rfl rfl (((((FO.set 0 _).set 1 _).set 2 _).set 3 _).set 4 _) underlying82 rfl lo) rfl ⟨U S (Z A.qH) P,by first|exact U x (Z a) y|exact U Y 0 0,a,?_,?_,?_,?_,?_,?_,?_⟩
  .simp[Dc]
  .exact Ak (Ad Jx W li) lc
  .exact h.o
  .exact Ak (Ad H8 W li) lc
  .exact λp l=>Ak ((JA.o p l).C W li) lc
  .exact HP.C W li
  .exact IJ.trans' W ln
def eK(s a c)(h:a<=s.size):(Eg s a c).2.1<=s.size:=by
 have b:=Ec s a c 58 h;unfold Eg;split
 .split
  .rename_i d;exact Ss _ _ (by have:=Gc d;omega)
  .exact b
 .exact b
def X5(s a b):a<=(Eg s a b).2.1:=by
 have c:=EV s a b 58;unfold Eg;split
 .split
  .have:=Xt s (Cn s a b 58+1);omega
  .exact c
 .exact c
def Kb(s a)(h:a<=s.size):(An s a).2.1<=s.size:=by
 exact Ec _ _ _ _ (eK _ _ _ (JN _ _ _ (BI _ _ h)))
def Q9{at_}(h:(An s at_).2.2=K):at_<(An s at_).2.1:=by
 unfold An at h|-;simp at h|-;have a:=Ck s at_;have b:=LN s (Af s at_) K;have d:=X5 s (A5 s (Af s at_) K).2.1 (A5 s (Af s at_) K).2.2;have c:=Ub h;omega
def QY(b s a w)(y:s.size<=1000000)(x:a<=s.size)(B:AF w b (B5 s a K) 73):
  rE rF 44 #[jj (V ⟨b,0,Y⟩)] w λe h=>∃(t u:jR) (l:kN Bc),e=j1 (ku (Za (Dc (An s a).1 t u)))/\kt h w.heap.size 93 2 t (Z (An s a).1.E.qH) (qS AP (An s a).1.E.qH)/\
   l.map kD=(An s a).1.body/\kt h w.heap.size 95 9 u (Z l) (DL l)/\(∀p∈l,Cc h w.heap.size p)/\AF h b (B5 s (An s a).2.1 (An s a).2.2) 73/\Ac [b] w h:=by
 obtain⟨j,r⟩:=kQ (Af s a);obtain⟨A,d,c,n⟩:∃A d c,A5 s j K=(A,d,c):=⟨_,_,_,rfl⟩;obtain⟨m,z⟩:=kQ (Cn s d c 58);obtain⟨L,g,f,o⟩:∃L g f,Eg s d c=(L,g,f):=⟨_,_,_,rfl⟩;obtain⟨i,k,q⟩:∃i k,BM s g f 46=(i,k):=⟨_,_,rfl⟩;have e:An s a=(⟨A,L,j⟩,i,k):=by unfold An;simp only[r,n,o,q]
 rw[e];have v:jV (Af s a=j/\A5 s j K=(A,d,c)/\Cn s d c 58=m/\Eg s d c=(L,g,f)/\BM s g f 46=(i,k)):=⟨r,n,z,o,q⟩;exact ZM b s a j w A d m g c f L i k y x v B
def DP(l:kN bN)(x:bN):rD:=l.any λy=>y.toList==x.toList
def Mh(l y x):DP (l++[y]) x=(DP l x||(y.toList==x.toList)):=by simp[DP,p8]
def dP(a x):DP (qT (k+1) e) x=(DP (qT k e) x||(e[k].toList==x.toList)):=by
 rw[lW a,Mh]
def eN(a)(h:(e[k].toList==s.toList)=T6):DP e s=T6:=by
 unfold DP;rw[nD];exact⟨e[k],lV a,h⟩
set_option maxRecDepth 512
theorem IC(d)(l:kN bN)(x:bN)(q w)(b:kt w q 9 1 d (Z l) (qS Ai l))(y:Z l<=1000000):rE rF 50 #[d,O x] w λe m=>e=j1 (kx (DP l x))/\m=w:=by
 obtain⟨z,t,rfl⟩:=Aj b;go_enter func50,ntmps50;go_wp2
 go_loop [5] (λi=>∃k:Nat,i=X J k/\k<=Z l/\jV (DP (qT k l) x=K)) (λi=>Z l-(rG i).toNat)
 case atStart=>exact⟨0,rfl,mr _,by show _=_;simp[DP]⟩
 case round=>
  obtain⟨k,rfl,s,j⟩:=hrel;by_cases a:k<Z l
  .obtain⟨g,u,c,v,f⟩:=Az b (by simp[Ai]) k a;obtain⟨rfl,_,rfl⟩:=qX c;have n:=f k a 0 lc;simp[Ai]at n;clear f;have r:jV ((l[k].toList==x.toList)=T6->DP l x=T6):=eN a;have o:jV ((l[k].toList==x.toList)=K->DP (qT (k+1) l) x=K):=by
    intro h;rw[dP a,j.o,h];rfl
   go_wp2
   .go_ret;rw[r.o oa];exact⟨rfl,rfl⟩
   .go_round
    case rel=>exact⟨k+1,ly,lc,o.o oa⟩
    case measure=>simp[rG];omega
  ·(have p:jV (DP l x=K):=by have:=j.o;rwa [lY lc]at this);go_wp2;go_ret;rw[p.o];exact⟨rfl,rfl⟩
structure AW where
 E:Dp
 hv:jR
 bv:jR
 bl:kN Bc
 e:Nat
def BH(c:AW):kN jR:=[O c.E.a,c.hv,X J c.E.e,c.bv,X J c.e]
def A4(p:Bc):kN jR:=Cy p.1 p.2
def B6(c):Z (BH c)=5:=rfl
def B4(p):Z (A4 p)=9:=rfl
def FR(t):Z (AP t)=2:=rfl
structure XG(w:jH)(c:AW):Prop where
 qH:kt w 0 93 2 c.hv (Z c.E.qH) (qS AP c.E.qH)
 body:kt w 0 95 9 c.bv (Z c.bl) (qS A4 c.bl)
 g:∀p∈c.bl,Cc w 0 p
structure Cf(w:jH)(lv:jR)(cs:kN AW):Prop where
 row:kt w 0 82 5 lv (Z cs) (qS BH cs)
 j:∀c∈cs,XG w c
def XG.C{w w'}{c}(h:XG w c)(k:Ac [] w w'):XG w' c:=
 ⟨Ad h.qH k,Ad h.body k,λp a=>Ad (h.g p a) k⟩
def Cf.C{w w'}{a}{b}(h:Cf w a b)(k:Ac [] w w'):Cf w' a b:=
 ⟨Ad h.row k,λc d=>(h.j c d).C k⟩
def L5(p:Bc):rD:=p.1.b==97||p.1.b==33
def SM(bl:kN Bc)(x:bN):Option Nat:=bl.findSome? λp=>if L5 p&&(p.1.A.a.toList==x.toList)then V (Z p.1.A.qH) else Y
def Gd(c:AW)(x:bN):Option Nat:=if c.E.a.toList==x.toList then V (Z c.E.qH) else SM c.bl x
def BQ(cs:kN AW)(x:bN):Int:=match cs.findSome? (Gd · x)with|some n=>n|none=> -1
def Gv{α β:Type}(f:α->Option β)(l:kN α)(k a)(b:(qT k l).findSome? f=Y):(qT (k+1) l).findSome? f=f l[k]:=by
 rw[lW a,pM,b];simp
def Hp{α β:Type}(f)(l:kN α)(k a)(c:(qT k l).findSome? f=Y){b:β}(d:f l[k]=V b):l.findSome? f=V b:=by
 have h:=Gv f l k a c;rw[d]at h;have e:l=qT (k+1) l++l.drop (k+1):=(ni _ _).symm;rw[e,pM,h];rfl
def EZ(p):(((p.1.b.toNat:Int)==97)=T6/\L5 p=T6)\/(((p.1.b.toNat:Int)==97)=K/\((p.1.b.toNat:Int)==33)=T6/\L5 p=T6)\/
  (((p.1.b.toNat:Int)==97)=K/\((p.1.b.toNat:Int)==33)=K/\L5 p=K):=by
 have b:((p.1.b.toNat:Int)==97)=(p.1.b==97):=Cu _ 97;have a:((p.1.b.toNat:Int)==33)=(p.1.b==33):=Cu _ 33;rw[b,a];unfold L5;cases(p.1.b==97)<;>cases(p.1.b==33)<;>simp
set_option maxRecDepth 100000
theorem Mb(pb lv a)(x:bN)(w)(hP:AF w pb [lv] 76)(L:Cf w lv a)(Ha:Z a<=1000000)(R:∀c∈a,Z c.bl<=1000000):rE rF 23 #[jj (V ⟨pb,0,Y⟩),O x] w λe w'=>e=j1 (X J (BQ a x))/\Ac [] w w':=by
 obtain⟨ad,CW,rfl⟩:=Aj L.row;have G:jV (Cf w (U ad (Z a) CW) a/\∀c∈a,Z c.bl<=1000000):=⟨L,R⟩;clear L R;go_enter func23,ntmps23;go_wp2
 go_loopw [5] (λi wr=>∃k:Nat,i=X J k/\k<=Z a/\jV ((qT k a).findSome? (Gd · x)=Y)/\Ac [] w wr) (λi _=>Z a-(rG i).toNat)
 case atStart=>exact⟨0,rfl,mr _,se,kR _ _⟩
 case round=>
  obtain⟨k,rfl,hk,y,q⟩:=hrel;have z:=(hP.C q).D 0;simp at z;by_cases f:k<Z a
  .have F:=G.o.1.C q;obtain⟨g,FP,he,hc,v⟩:=Az F.row (λc _=>B6 c) k f;obtain⟨rfl,_,rfl⟩:=qX he;have S:=v k f 0 lc;have P:=v k f 1 lc;have t:=v k f 3 lc;simp[BH]at S P t;have n:=F.j a[k] (lV f);have HF:=G.o.2 a[k] (lV f);obtain⟨HD,FO,A2⟩:=Aj n.qH;obtain⟨B2,CC,C⟩:=Aj n.body;rw[A2]at P;rw[C]at t;have B0:jV (XG wr a[k]):=n;have AR:jV (a[k].bv=U B2 a[k].bl.length CC):=C;clear v F n A2 C;cases hnm:(a[k].E.a.toList==x.toList)with
   |true=>
    have M:jV (BQ a x=(a[k].E.qH.length:Int)):=by
     show _=_;unfold BQ;rw[Hp (Gd · x) a k f y.o (b:=a[k].E.qH.length) (by simp[Gd,hnm])]
    go_wp2;go_ret;rw[M.o];exact⟨rfl,q⟩
   |false=>
    (have HA:jV (Gd a[k] x=SM a[k].bl x):=by show _=_;simp[Gd,hnm]);go_wp2;clear S P
    go_loopw [6] (λi W=>∃m:Nat,i=X J m/\m<=a[k].bl.length/\jV ((a[k].bl.take m).findSome? (λp=>if L5 p&&(p.1.A.a.toList==x.toList)then V (Z p.1.A.qH) else Y)=Y)/\Ac [] w W) (λi _=>a[k].bl.length-(rG i).toNat)
    case atStart=>exact⟨0,rfl,mr _,se,q⟩
    case round=>
     rename_i W _;obtain⟨m,rfl,hm,B,o⟩:=hrel;clear z t q B0;have z:=(hP.C o).D 0;simp at z;have E:=G.o.1.C o;obtain⟨g2,HB,AT,_,Ax⟩:=Az E.row (λc _=>B6 c) k f;simp only[lU,lZ,mR]at AT;obtain⟨⟨rfl,_,_⟩,_,rfl⟩:=AT;have t:=Ax k f 3 lc;simp[BH]at t;rw[AR.o]at t;have n:=E.j a[k] (lV f);clear Ax E;by_cases d:m<a[k].bl.length
     .obtain⟨gb,HH,N,FF,l⟩:=Az n.body (λc _=>B4 c) m d;rw[AR.o]at N;obtain⟨rfl,_,rfl⟩:=qX N;have hl:=n.g a[k].bl[m] (lV d);obtain⟨HG,FL,T⟩:=Aj hl;have d0:=l m d 0 lc;have d1:=l m d 1 lc;have Q:=l m d 2 lc;have d3:=l m d 3 lc;have d4:=l m d 4 lc;have d5:=l m d 5 lc;have d6:=l m d 6 lc;have d7:=l m d 7 lc;have d8:=l m d 8 lc;simp[A4,Cy]at d0 d1 Q d3 d4 d5 d6 d7 d8;rw[T]at Q;clear l hl T n;have s:jV (L5 a[k].bl[m]=K\/(a[k].bl[m].1.A.a.toList==x.toList)=K->(a[k].bl.take (m+1)).findSome? (λp=>if L5 p&&(p.1.A.a.toList==x.toList)then V (Z p.1.A.qH) else Y)=Y):=by
       intro h;rw[Gv _ _ m d B.o];rcases h with h|h<;>simp[h]
      have r:jV (L5 a[k].bl[m]=T6->(a[k].bl[m].1.A.a.toList==x.toList)=T6->BQ a x=(a[k].bl[m].1.A.qH.length:Int)):=by
       intro h1 h2;have h3:=Hp (λp:Bc=>if L5 p&&(p.1.A.a.toList==x.toList)then V (Z p.1.A.qH) else Y) a[k].bl m d B.o (b:=a[k].bl[m].1.A.qH.length) (by simp[h1,h2]);(have h4:Gd a[k] x=V a[k].bl[m].1.A.qH.length:=by rw[HA.o];exact h3);unfold BQ;rw[Hp (Gd · x) a k f y.o h4]
      cases hnm2:(a[k].bl[m].1.A.a.toList==x.toList)with
      |true=>
       rcases EZ a[k].bl[m] with⟨u,j⟩|⟨u,H,j⟩|⟨u,H,j⟩
       .have D:=Ab (r.o j hnm2);clear r s j;go_wp2;go_ret;rw[Aa D];exact⟨rfl,o.alloc _⟩
       .have D:=Ab (r.o j hnm2);clear r s j;go_wp2;go_ret;rw[Aa D];exact⟨rfl,o.alloc _⟩
       .have I:=Ab (s.o (j2 j));clear r s j;go_wp2
        go_roundw
        case rel=>exact⟨m+1,ly,lc,I,o.alloc _⟩
        case measure=>simp[rG];omega
      |false=>
       have I:=Ab (s.o (j3 hnm2));rcases EZ a[k].bl[m] with⟨u,j⟩|⟨u,H,j⟩|⟨u,H,j⟩;all_goals
        clear r s j;go_wp2
        go_roundw
        case rel=>exact⟨m+1,ly,lc,I,o.alloc _⟩
        case measure=>simp[rG];omega
     .have HZ:jV ((qT (k+1) a).findSome? (Gd · x)=Y):=by
       show _=_;rw[Gv _ _ k f y.o];have h:=B.o;rw[lY lc]at h;rw[HA.o];exact h
      go_wp2
      go_roundw
      case rel=>exact⟨k+1,ly,lc,HZ,o⟩
      case measure=>simp[rG];omega
  .have M:jV (BQ a x= -1):=by
    have h:=y.o;rw[lY lc]at h;show _=_;unfold BQ;rw[h]
   go_wp2;go_ret;rw[M.o];exact⟨rfl,q⟩
def AA(p:Bc):kN AK:=if L5 p then p.1.A.qH else[p.1.L,p.1.R]
theorem TO(p w)(c:Cc w 0 p):rE rF 131 #[ku (Za (A4 p))] w λe k=>∃j,e=j1 j/\kt k 0 93 2 j (Z (AA p)) (qS AP (AA p))/\Ac [] w k:=by
 obtain⟨g,f,d⟩:=Aj c;simp only[A4,Cy,d];rcases EZ p with⟨i,b⟩|⟨i,l,b⟩|⟨i,l,b⟩
 .have a:jV (AA p=p.1.A.qH/\p.2=U g (Z p.1.A.qH) f/\Cc w 0 p):=⟨by unfold AA;simp[b],d,c⟩;clear b d c;go_enter func131,ntmps131;go_wp2;go_ret;refine⟨_,rfl,?_,(kR _ _).alloc _⟩;rw[a.o.1];have h:kt w 0 93 2 _ _ _:=a.o.2.2;rw[a.o.2.1]at h;exact h.alloc _
 .have a:jV (AA p=p.1.A.qH/\p.2=U g (Z p.1.A.qH) f/\Cc w 0 p):=⟨by unfold AA;simp[b],d,c⟩;clear b d c;go_enter func131,ntmps131;go_wp2;go_ret;refine⟨_,rfl,?_,(kR _ _).alloc _⟩;rw[a.o.1];have h:kt w 0 93 2 _ _ _:=a.o.2.2;rw[a.o.2.1]at h;exact h.alloc _
 .have a:jV (AA p=[p.1.L,p.1.R]):=by show _=_;unfold AA;simp[b]
  clear b d c;go_enter func131,ntmps131;go_wp2;go_ret;refine⟨_,rfl,?_,((kR _ _).alloc _).alloc _⟩;rw[a.o];refine⟨rfl,j3 ⟨_,2,#[X .u8 p.1.L.v.toNat,O p.1.L.s,X .u8 p.1.R.v.toNat,O p.1.R.s],rfl,mr _,by have h:=mG (w.alloc (Y6 #[X .u8 p.1.b.toNat,O p.1.A.a,U g (Z p.1.A.qH) f,X J p.1.A.e,X .u8 p.1.L.v.toNat,O p.1.L.s,X .u8 p.1.R.v.toNat,O p.1.R.s,X J p.1.e] 95)) (Y6 #[X .u8 p.1.L.v.toNat,O p.1.L.s,X .u8 p.1.R.v.toNat,O p.1.R.s] 93);rw[mJ]at h;exact h,ln,lw,rfl,?_⟩⟩;simp[AP]
def S4(l:kN AK)(v:rC):rD:=l.any λt=>t.v==v
def Le(v:rC)(p:Bc):rD:=p.1.b==97&&S4 p.1.A.qH v
def Lb(bl:kN Bc)(v:rC):rD:=bl.any (Le v)
def Dm{α:Type}(f)(l:kN α)(k a)(b:(qT k l).any f=K):(qT (k+1) l).any f=f l[k]:=by
 rw[lW a,p8,b];simp
def KG{α:Type}(f)(l:kN α)(k)(a:k<Z l)(h:f l[k]=T6):l.any f=T6:=by
 rw[nD];exact⟨_,lV a,h⟩
theorem LW(I)(a:kN Bc)(n:Int)(v w)(W:n=v.toNat)(l:kt w 0 95 9 I (Z a) (qS A4 a))(D:∀p∈a,Cc w 0 p)(A1:Z a<=1000000)(H:∀p∈a,Z p.1.A.qH<=1000000):rE rF 132 #[I,X .u8 n] w λe L=>e=j1 (kx (Lb a v))/\L=w:=by
 subst W;obtain⟨R,Q,rfl⟩:=Aj l;have o:jV (kt w 0 95 9 (U R (Z a) Q) (Z a) (qS A4 a)/\(∀p∈a,Cc w 0 p)/\(∀p∈a,Z p.1.A.qH<=1000000)):=⟨l,D,H⟩;clear l D H;go_enter func132,ntmps132;go_wp2
 go_loop [5] (λi=>∃k:Nat,i=X J k/\k<=Z a/\jV ((qT k a).any (Le v)=K)) (λi=>Z a-(rG i).toNat)
 case atStart=>exact⟨0,rfl,mr _,se⟩
 case round=>
  obtain⟨k,rfl,hk,q⟩:=hrel;by_cases b:k<Z a
  .obtain⟨g,AT,G,hc,r⟩:=Az o.o.1 (λc _=>B4 c) k b;obtain⟨rfl,_,rfl⟩:=qX G;have S:=r k b 0 lc;have y:=r k b 2 lc;simp[A4,Cy]at S y;have s:=o.o.2.1 a[k] (lV b);have AO:=o.o.2.2 a[k] (lV b);obtain⟨T,M,j⟩:=Aj s;rw[j]at y;have HI:jV (kt w 0 93 2 (U T a[k].1.A.qH.length M) a[k].1.A.qH.length (qS AP a[k].1.A.qH)):=by
    have h:kt w 0 93 2 _ _ _:=s;rw[j]at h;exact h
   clear r s j;have F:((a[k].1.b.toNat:Int)==97)=(a[k].1.b==97):=Cu _ 97;cases hkd:(a[k].1.b==97)with
   |false=>
    rw[hkd]at F;(have d:jV ((qT (k+1) a).any (Le v)=K):=by show _=_;rw[Dm _ _ k b q.o];simp[Le,hkd]);clear hkd;go_wp2
    go_loop [6] (λi=>i=X J 0) (λ_=>0)
    case atStart=>rfl
    case round=>
     subst hrel;go_wp2
     go_round
     case rel=>exact⟨k+1,ly,lc,d⟩
     case measure=>simp[rG];omega
   |true=>
    rw[hkd]at F;(have d:jV (S4 a[k].1.A.qH v=K->(qT (k+1) a).any (Le v)=K):=by intro h;rw[Dm _ _ k b q.o];simp[Le,h]);(have u:jV (S4 a[k].1.A.qH v=T6->Lb a v=T6):=by intro h;exact KG _ _ k b (by simp[Le,hkd,h]));clear hkd;go_wp2
    go_loop [6] (λi=>∃m:Nat,i=X J m/\m<=a[k].1.A.qH.length/\jV ((a[k].1.A.qH.take m).any (λt=>t.v==v)=K)) (λi=>a[k].1.A.qH.length-(rG i).toNat)
    case atStart=>exact⟨0,rfl,mr _,se⟩
    case round=>
     obtain⟨m,rfl,hm,z⟩:=hrel;by_cases f:m<a[k].1.A.qH.length
     .obtain⟨ga,Bx,B,AR,E⟩:=Az HI.o (λc _=>FR c) m f;obtain⟨rfl,_,rfl⟩:=qX B;have P:=E m f 0 lc;simp[AP]at P;clear E;have C:((a[k].1.A.qH[m].v.toNat:Int)==(v.toNat:Int))=(a[k].1.A.qH[m].v==v):=Cu _ v;cases hv:(a[k].1.A.qH[m].v==v)with
      |true=>
       rw[hv]at C;have N:=Ab (u.o (KG _ _ m f hv));clear hv u d;go_wp2;go_ret;rw[Aa N];exact⟨rfl,rfl⟩
      |false=>
       rw[hv]at C;(have x:jV ((a[k].1.A.qH.take (m+1)).any (λt=>t.v==v)=K):=by show _=_;rw[Dm _ _ m f z.o];exact hv);clear hv u d;go_wp2
       go_round
       case rel=>exact⟨m+1,ly,lc,x⟩
       case measure=>simp[rG];omega
     .have x:=Ab (d.o (by have h:=z.o;rwa [lY lc]at h));go_wp2
      go_round
      case rel=>exact⟨k+1,ly,lc,x⟩
      case measure=>simp[rG];omega
  ·(have HE:jV (Lb a v=K):=by have h:=q.o;rwa [lY lc]at h);go_wp2;go_ret;rw[HE.o];exact⟨rfl,rfl⟩
def C9(bl:kN Bc)(t:AK):rD:= !(t.v==0||Lb bl t.v)
def Kg(bl:kN Bc)(p:Bc):rD:=(AA p).any (C9 bl)
def D4(head:Dp)(bl:kN Bc):Int:=if head.qH.any (C9 bl)then head.e else match bl.find? (Kg bl)with|some p=>p.1.e|none=> -1
def FV{α:Type}(f)(l:kN α)(k a)(d:(qT k l).any f=K)(h:f l[k]=T6):l.find? f=V l[k]:=by
 have e:l.find? f=(qT k l++l.drop k).find? f:=by rw[ni]
 rw[e,qd];have c:(qT k l).find? f=Y:=qr
 rw[c,Option.none_or,mu a,List.find?_cons_of_pos h]
theorem XX(b hv bv)(a:kN Bc)(w)(W:kt w 0 93 2 hv (Z b.qH) (qS AP b.qH))(Q:kt w 0 95 9 bv (Z a) (qS A4 a))(hl:∀p∈a,Cc w 0 p)(D:Z a<=1000000)(A2:∀p∈a,Z p.1.A.qH<=1000000)(HD:Z b.qH<=1000000):rE rF 84 #[ku (Za (CN b.a hv b.e)),bv] w λe w'=>e=j1 (X J (D4 b a))/\Ac [] w w':=by
 obtain⟨N,L,rfl⟩:=Aj W;obtain⟨ad,ES,rfl⟩:=Aj Q;simp only[CN];have l:jV (kt w 0 93 2 (U N (Z b.qH) L) (Z b.qH) (qS AP b.qH)/\kt w 0 95 9 (U ad (Z a) ES) (Z a) (qS A4 a)/\(∀p∈a,Cc w 0 p)/\(∀p∈a,Z p.1.A.qH<=1000000)):=⟨W,Q,hl,A2⟩;clear W Q hl A2;have HU:∀(x:rD) (w:jH),(Op.unary .not (kx x)).run rF w=.ok (kx (!x)) w:=λ_ _=>rfl
 go_enter func84,ntmps84;go_wp2_with fail
 go_loopw [5] (λi wr=>∃k:Nat,i=X J k/\k<=Z b.qH/\jV ((b.qH.take k).any (C9 a)=K)/\wr=w.alloc (Y6 #[O b.a,U N (Z b.qH) L,X J b.e] 79)) (λi _=>Z b.qH-(rG i).toNat)
 case atStart=>exact⟨0,rfl,mr _,se,rfl⟩
 case round=>
  obtain⟨k,rfl,hk,HC,rfl⟩:=hrel;by_cases F:k<Z b.qH
  .obtain⟨g,BA,r,hc,f⟩:=Az (l.o.1.alloc (Y6 #[O b.a,U N (Z b.qH) L,X J b.e] 79)) (λc _=>FR c) k F;obtain⟨rfl,_,rfl⟩:=qX r;have E:=f k F 0 lc;simp[AP]at E;clear f;have y:((b.qH[k].v.toNat:Int)==0)=(b.qH[k].v==0):=Cu _ 0;(have n:jV (C9 a b.qH[k]=K->(b.qH.take (k+1)).any (C9 a)=K):=by intro h;rw[Dm _ _ k F HC.o];exact h);(have o:jV (C9 a b.qH[k]=T6->D4 b a=(b.e:Int)):=by intro h;unfold D4;rw[mo (KG _ _ k F h)]);cases hz:(b.qH[k].v==0)with
   |true=>
    rw[hz]at y;have C:=Ab (n.o (by simp[C9,hz]));clear hz n o;go_wp2_with fail
    go_roundw
    case rel=>exact⟨k+1,ly,lc,C,by trivial⟩
    case measure=>simp[rG];omega
   |false=>
    rw[hz]at y;cases hbd:Lb a b.qH[k].v with
    |true=>
     have C:=Ab (n.o (by simp[C9,hbd]));clear hz n o;go_wp2_with (go_at_call 132;refine(LW _ a _ b.qH[k].v _ rfl (l.o.2.1.alloc _) (λp B=>(l.o.2.2.1 p B).alloc _) D l.o.2.2.2).G ?_;rintro e t ⟨rfl,rfl⟩;rw[hbd])
     go_roundw
     case rel=>exact⟨k+1,ly,lc,C,by trivial⟩
     case measure=>simp[rG];omega
    |false=>
     have FW:=Ab (o.o (by simp[C9,hbd,hz]));clear hz n o;go_wp2_with (go_at_call 132;refine(LW _ a _ b.qH[k].v _ rfl (l.o.2.1.alloc _) (λp B=>(l.o.2.2.1 p B).alloc _) D l.o.2.2.2).G ?_;rintro e t ⟨rfl,rfl⟩;rw[hbd])
     go_ret;rw[Aa FW];exact⟨rfl,(kR _ _).alloc _⟩
  ·(have HH:jV (b.qH.any (C9 a)=K):=by have h:=HC.o;rwa [lY lc]at h);clear HC;have EM:=(kR [] w).alloc (Y6 #[O b.a,U N (Z b.qH) L,X J b.e] 79);go_wp2_with fail
   go_loopw [7] (λi wr=>∃k:Nat,i=X J k/\k<=Z a/\jV ((qT k a).any (Kg a)=K)/\Ac [] w wr) (λi _=>Z a-(rG i).toNat)
   case atStart=>exact⟨0,rfl,mr _,se,EM⟩
   case round=>
    rename_i wr _ _;obtain⟨q,rfl,hq,R,u⟩:=hrel;clear EM;by_cases d:q<Z a
    .have s:=Ad l.o.2.1 u;obtain⟨g,BA,r,hc,f⟩:=Az s (λc _=>B4 c) q d;obtain⟨rfl,_,rfl⟩:=qX r;have AR:Cc _ 0 a[q]:=(l.o.2.2.1 a[q] (lV d)).C u;obtain⟨HZ,HS,AH⟩:=Aj AR;have T:=TO a[q] _ AR;simp only[A4,Cy,AH]at T;have E:=f q d 0 lc;have d1:=f q d 1 lc;have P:=f q d 2 lc;have d3:=f q d 3 lc;have d4:=f q d 4 lc;have d5:=f q d 5 lc;have d6:=f q d 6 lc;have d7:=f q d 7 lc;have d8:=f q d 8 lc;simp[A4,Cy]at E d1 P d3 d4 d5 d6 d7 d8;rw[AH]at P;have HT:=Ab T;clear f s AR AH T;(have n:jV (Kg a a[q]=K->(qT (q+1) a).any (Kg a)=K):=by intro h;rw[Dm _ _ q d R.o];exact h);have o:jV (Kg a a[q]=T6->D4 b a=(a[q].1.e:Int)):=by
      intro h;unfold D4;rw[mm (by rw[HH.o];exact oz),FV _ _ q d R.o h]
     have Go:Z (AA a[q])<=1000000:=by
      have:=l.o.2.2.2 a[q] (lV d);unfold AA;split<;>simp<;>omega
     (go_wp2_with fail);refine HT.G ?_;rintro e t ⟨tv,rfl,AB,EX⟩;have I:=u.H EX;have s:=Ad l.o.2.1 I;obtain⟨g',BA,r,_,f⟩:=Az s (λc _=>B4 c) q d;simp only[lU,lZ,mR]at r;obtain⟨⟨rfl,_,_⟩,_,rfl⟩:=r;have e8:=f q d 8 lc;simp[A4,Cy]at e8;have M:jV (kt t 0 95 9 (U (V ⟨g,0,Y⟩) (Z a) ES) (Z a) (qS A4 a)/\(∀p∈a,Cc t 0 p)):=⟨s,λp B=>(l.o.2.2.1 p B).C I⟩;clear f s E d1 P d3 d4 d5 d6 d7 d8 HT EX u;obtain⟨HX,HW,rfl⟩:=Aj AB;have HO:=Ab AB;clear AB;obtain⟨j,Ax⟩:=kQ (AA a[q]);rw[Ax]at HO Go|-;have EK:=Ab Ax;clear Ax;go_wp2_with fail
     go_loop [9] (λi=>∃m:Nat,i=X J m/\m<=Z j/\jV ((qT m j).any (C9 a)=K)) (λi=>Z j-(rG i).toNat)
     case atStart=>exact⟨0,rfl,mr _,se⟩
     case round=>
      obtain⟨m,rfl,hm,HM⟩:=hrel;by_cases H:m<Z j
      .obtain⟨ga,HJ,B9,HF,E0⟩:=Az HO (λc _=>FR c) m H;obtain⟨rfl,_,rfl⟩:=qX B9;have f0:=E0 m H 0 lc;simp[AP]at f0;clear E0;have y:((j[m].v.toNat:Int)==0)=(j[m].v==0):=Cu _ 0;(have z:jV (C9 a j[m]=K->(qT (m+1) j).any (C9 a)=K):=by intro h;rw[Dm _ _ m H HM.o];exact h);(have G:jV (C9 a j[m]=T6->D4 b a=(a[q].1.e:Int)):=by intro h;exact o.o (by unfold Kg;rw[Aa EK];exact KG _ _ m H h));cases hz:(j[m].v==0)with
       |true=>
        rw[hz]at y;have S:=Ab (z.o (by simp[C9,hz]));clear hz z G n o;go_wp2_with fail
        go_round
        case rel=>exact⟨m+1,ly,lc,S⟩
        case measure=>simp[rG];omega
       |false=>
        rw[hz]at y;cases hbd:Lb a j[m].v with
        |true=>
         have S:=Ab (z.o (by simp[C9,hbd]));clear hz z G n o;go_wp2_with (go_at_call 132;refine(LW _ a _ j[m].v _ rfl M.o.1 M.o.2 D l.o.2.2.2).G ?_;rintro e t ⟨rfl,rfl⟩;rw[hbd])
         go_round
         case rel=>exact⟨m+1,ly,lc,S⟩
         case measure=>simp[rG];omega
        |false=>
         have FB:=Ab (G.o (by simp[C9,hbd,hz]));clear hz z G n o;go_wp2_with (go_at_call 132;refine(LW _ a _ j[m].v _ rfl M.o.1 M.o.2 D l.o.2.2.2).G ?_;rintro e t ⟨rfl,rfl⟩;rw[hbd])
         go_ret;rw[Aa FB];exact⟨rfl,I⟩
      .have C:=Ab (n.o (by unfold Kg;rw[Aa EK];have h:=HM.o;rwa [lY lc]at h));clear n o;go_wp2_with fail
       go_roundw
       case rel=>exact⟨q+1,ly,lc,C,I⟩
       case measure=>simp[rG];omega
    .have HE:jV (D4 b a= -1):=by
      have h:=R.o;rw[lY lc]at h;show _=_;unfold D4;rw[mm (by rw[HH.o];exact oz)];have:a.find? (Kg a)=Y:=by
       rw[ol];intro x hx hf;(have:a.any (Kg a)=T6:=by rw[nD];exact⟨x,hx,hf⟩);rw[h]at this;cases this
      rw[this]
     (go_wp2_with fail);go_ret;rw[HE.o];exact⟨rfl,u⟩
def Gl(a b:bN):rD:=
 if Aq (C2 a 0) !=Aq (C2 b 0)then Aq (C2 a 0)
 else if Aq (C2 a 0)&&a.size !=b.size then decide (a.size<b.size)else kG a.toList b.toList
set_option maxRecDepth 512
theorem Oo(a b:bN)(w)(l:0<a.size)(n:0<b.size)(p:a.size<=1000000)(q:b.size<=1000000):rE rF 86 #[O a,O b] w λe k=>e=j1 (kx (Gl a b))/\k=w:=by
 have j:C2 a 0=a[0]:=by simp[C2,l]
 have i:C2 b 0=b[0]:=by simp[C2,n]
 obtain⟨R,c⟩:=kQ (Gl a b);rw[c];unfold Gl at c;rw[j,i]at c;have r:(0:Int)<(a.size:Int):=lc
 have o:(0:Int)<(b.size:Int):=lc
 clear j i;cases hx:Aq a[0] with
 |true=>
  cases hy:Aq b[0] with
  |true=>
   rw[hx,hy]at c;by_cases h:a.size=b.size
   ·(have g:(a.size !=b.size)=K:=by simp[h]);(have m:((a.size:Int) !=(b.size:Int))=K:=by simp[h]);(have f:jV (kG a.toList b.toList=R):=by show _=_;rw[<-c,g];rfl);clear c g h;go_enter func86,ntmps86;(go_wp2_with fail);refine(CI _ a[0] _ rfl).G ?_;rintro e d ⟨rfl,rfl⟩;rw[hx];(go_wp2_with fail);refine(CI _ b[0] _ rfl).G ?_;rintro e d ⟨rfl,rfl⟩;rw[hy];go_wp2;go_ret;exact⟨Bu f.o,rfl⟩
   ·(have g:(a.size !=b.size)=T6:=by simp[h]);have m:((a.size:Int) !=(b.size:Int))=T6:=li;(have f:jV (decide (a.size<b.size)=R):=by show _=_;rw[<-c,g];rfl);clear c g h;go_enter func86,ntmps86;(go_wp2_with fail);refine(CI _ a[0] _ rfl).G ?_;rintro e d ⟨rfl,rfl⟩;rw[hx];(go_wp2_with fail);refine(CI _ b[0] _ rfl).G ?_;rintro e d ⟨rfl,rfl⟩;rw[hy];go_wp2;go_ret;exact⟨Bu f.o,rfl⟩
  |false=>
   rw[hx,hy]at c;(have f:jV (T6=R):=by show _=_;rw[<-c];rfl);clear c;go_enter func86,ntmps86;(go_wp2_with fail);refine(CI _ a[0] _ rfl).G ?_;rintro e d ⟨rfl,rfl⟩;rw[hx];(go_wp2_with fail);refine(CI _ b[0] _ rfl).G ?_;rintro e d ⟨rfl,rfl⟩;rw[hy];go_wp2;go_ret;exact⟨Bu f.o,rfl⟩
 |false=>
  cases hy:Aq b[0] with
  |true=>
   rw[hx,hy]at c;(have f:jV (K=R):=by show _=_;rw[<-c];rfl);clear c;go_enter func86,ntmps86;(go_wp2_with fail);refine(CI _ a[0] _ rfl).G ?_;rintro e d ⟨rfl,rfl⟩;rw[hx];(go_wp2_with fail);refine(CI _ b[0] _ rfl).G ?_;rintro e d ⟨rfl,rfl⟩;rw[hy];go_wp2;go_ret;exact⟨Bu f.o,rfl⟩
  |false=>
   rw[hx,hy]at c;(have f:jV (kG a.toList b.toList=R):=by show _=_;rw[<-c];rfl);clear c;go_enter func86,ntmps86;(go_wp2_with fail);refine(CI _ a[0] _ rfl).G ?_;rintro e d ⟨rfl,rfl⟩;rw[hx];(go_wp2_with fail);refine(CI _ b[0] _ rfl).G ?_;rintro e d ⟨rfl,rfl⟩;rw[hy];go_wp2;go_ret;exact⟨Bu f.o,rfl⟩
def Dx(x:bN)(a:kN bN×rD)(y:bN):kN bN×rD:=if !a.2&&Gl x y then(a.1++[x]++[y],T6)else(a.1++[y],a.2)
def Od(l:kN bN)(x:bN):kN bN×rD:=qU (Dx x) ([],K) l
def I0(l:kN bN)(x:bN):kN bN:=if(Od l x).2 then(Od l x).1 else(Od l x).1++[x]
def cg(a x):Od (qT (k+1) e) x=Dx x (Od (qT k e) x) e[k]:=by
 unfold Od;rw[lW a,m6];rfl
def WI(x a y):Z (Dx x a y).1+a.2.toNat=Z a.1+1+(Dx x a y).2.toNat:=by
 obtain⟨o,d⟩:=a;unfold Dx;cases d<;>cases Gl x y<;>simp
def PH(x):∀(l:kN bN) (a),Z (qU (Dx x) a l).1+a.2.toNat=Z a.1+Z l+(qU (Dx x) a l).2.toNat
 |[],a=>ln
 |y::l,a=>by
  have h:=PH x l (Dx x a y);have b:=WI x a y;exact li
def Ow(l x):Z (Od l x).1=Z l+(Od l x).2.toNat:=by
 have h:=PH x l ([],K);simp only[mI,pT]at h;unfold Od;omega
def O9(l x):Z (I0 l x)=Z l+1:=by
 have h:=Ow l x;unfold I0;cases hd:(Od l x).2<;>simp[hd]at h|-<;>omega
set_option maxRecDepth 100000
theorem e9(lv)(l:kN bN)(x:bN)(B0 w)(hl:kt w B0 9 1 lv (Z l) (qS Ai l))(FT:Z l<=1000000)(hx:0<x.size/\x.size<=1000000)(u:∀y∈l,0<y.size/\y.size<=1000000):rE rF 171 #[lv,O x] w λe w'=>∃v,e=j1 v/\kt w' w.heap.size 9 1 v (Z (I0 l x)) (qS Ai (I0 l x))/\Ac [] w w':=by
 obtain⟨F,D,B,E,G⟩:=mW Tryz.zk;obtain⟨ad,EY,rfl⟩:=Aj hl;have HR:jV (kt w B0 9 1 _ (Z l) _/\(∀y∈l,0<y.size/\y.size<=1000000)):=⟨hl,u⟩;clear hl u;have FL:∀(x:rD) (w:jH),(Op.unary .not (kx x)).run rF w=.ok _ w:=λ_ _=>rfl
 go_enter func171,ntmps171;go_wp2
 go_loopw [5,6,7] (λo d i wr=>∃(k:Nat) (a:kN bN) (j:rD),i=X J k/\k<=Z l/\d=kx j/\jV (Od (qT k l) x=(a,j))/\Z a<=k+1/\kt wr w.heap.size 9 1 o (Z a) (qS Ai a)/\Ac [] w wr) (λ_ _ i _=>Z l-(rG i).toNat)
 case atStart=>exact⟨0,[],K,rfl,mr _,rfl,lx,ln,mw _ _ _ _,kR _ _⟩
 case round=>
  obtain⟨k,a,j,rfl,hk,rfl,S,FB,f,m⟩:=hrel;obtain⟨L,H,rfl⟩:=Aj f;have W:=m.size;by_cases z:k<Z l
  .obtain⟨g,EM,N,hc,T⟩:=Az (Ad HR.o.1 m) (λc _=>rfl) k z;obtain⟨rfl,_,rfl⟩:=qX N;have A:=T k z 0 lc;simp[Ai]at A;clear T;have AB:=HR.o.2 l[k] (lV z);(have HS:jV (Od (qT (k+1) l) x=Dx x (a,j) l[k]):=by show _=_;rw[cg z,S.o]);cases b:(!j&&Gl x l[k])with
   |true=>
    (have ES:j=K:=by cases j<;>simp_all);subst ES;(have u:Gl x l[k]=T6:=oa);have FC:Z a<=k:=by
     have h:=Ow (qT k l) x;exact qw
    (have AO:jV (Od (qT (k+1) l) x=(a++[x]++[l[k]],T6)):=by show _=_;rw[HS.o];simp[Dx,u]);have CW:∀{n:jH} {o:Obj},(wr.alloc o).grownBy n (U L (Z a) H).ownBlock->jY n ⟨g,k,Y⟩=V (O l[k]):=by
     intro n o FA;have EK:=(m.alloc o).grown FA (λq b=>j3 (f.lt q b).1);obtain⟨g',EM,N,_,T⟩:=Az (Ad HR.o.1 EK) (λc _=>rfl) k z;obtain⟨⟨rfl,_,_⟩,_,rfl⟩:=N;have A:=T k z 0 lc;simpa[Ai] using A
    clear HS b;(go_wp2_with fail);refine(Oo x l[k] _ hx.1 AB.1 hx.2 AB.2).G ?_;rintro e w0 ⟨rfl,P⟩;rw[u,P];clear P w0;go_wp2_with (first|(at_builtin;refine mE _ rfl (.tmp 24) (.tmp 26) _ rfl w.heap.size 9 F _ 1 16 underlying41 D B E G rfl lc (U L (Z a) H) (Z a) (qS Ai a) rfl (f.alloc _) ⟨wr.heap.size,0,Y⟩ 1 1 [O x] rfl rfl (mz (mG wr _)) lC lc lw lc li (wr.heap.size+1) ln ?_;intro g1 B9 n I r AR Bx;have d1:=CW r;have FW:wr.heap.size<=n.heap.size:=by have:=r.size;simp at this;omega)|(at_builtin;refine mE _ rfl (.tmp 28) (.tmp 33) _ rfl w.heap.size 9 F _ 1 16 underlying41 D B E G rfl lc (U (V ⟨g1,0,Y⟩) (Z a+1) B9) (Z a+1) (qS Ai a++[O x]) rfl (I.alloc _) ⟨n.heap.size,0,Y⟩ 1 1 [O l[k]] rfl rfl (mz (mG n _)) lC lc lw lc li (n.heap.size+1) ln ?_;intro g2 CC R Q p M C))
    have s:=(((m.alloc _).grown r (λq b=>j3 (f.lt q b).1)).alloc _).grown p (λq b=>j3 (I.lt q b).1);clear CW r AR Bx p M C I d1 A f m W;go_wp2
    go_roundw
    case rel=>
     refine⟨k+1,_,T6,ly,lc,rfl,AO,li,?_,s⟩;simpa[Ai] using Q
    case measure=>simp[rG];omega
   |false=>
    (have AO:jV (Od (qT (k+1) l) x=(a++[l[k]],j)):=by show _=_;rw[HS.o];simp[Dx,b]);clear HS;have BT:Z a<=k+j.toNat:=by
     have h:=Ow (qT k l) x;exact qw
    cases j with
    |true=>
     clear b;go_wp2_with (at_builtin;refine mE _ rfl (.tmp 28) (.tmp 33) _ rfl w.heap.size 9 F _ 1 16 underlying41 D B E G rfl lc (U L (Z a) H) (Z a) (qS Ai a) rfl (f.alloc _) ⟨wr.heap.size,0,Y⟩ 1 1 [O l[k]] rfl rfl (mz (mG wr _)) lC lc lw lc li (wr.heap.size+1) ln ?_;intro g2 CC R Q p M C)
     have s:=(m.alloc _).grown p (λq b=>j3 (f.lt q b).1);clear p M C A f m W;go_wp2
     go_roundw
     case rel=>
      refine⟨k+1,_,T6,ly,lc,rfl,AO,li,?_,s⟩;simpa[Ai] using Q
     case measure=>simp[rG];omega
    |false=>
     (have u:Gl x l[k]=K:=oa);clear b;(go_wp2_with fail);refine(Oo x l[k] _ hx.1 AB.1 hx.2 AB.2).G ?_;rintro e w0 ⟨rfl,P⟩;rw[u,P];clear P w0;go_wp2_with (at_builtin;refine mE _ rfl (.tmp 28) (.tmp 33) _ rfl w.heap.size 9 F _ 1 16 underlying41 D B E G rfl lc (U L (Z a) H) (Z a) (qS Ai a) rfl (f.alloc _) ⟨wr.heap.size,0,Y⟩ 1 1 [O l[k]] rfl rfl (mz (mG wr _)) lC lc lw lc li (wr.heap.size+1) ln ?_;intro g2 CC R Q p M C)
     have s:=(m.alloc _).grown p (λq b=>j3 (f.lt q b).1);clear p M C A f m W;go_wp2
     go_roundw
     case rel=>
      refine⟨k+1,_,K,ly,lc,rfl,AO,li,?_,s⟩;simpa[Ai] using Q
     case measure=>simp[rG];omega
  ·(have HE:jV (Od l x=(a,j)):=by have h:=S.o;rwa [lY lc]at h);have BT:Z a<=Z l+j.toNat:=by
    have h:=Ow l x;exact qw
   cases j with
   |true=>
    (have HW:jV (I0 l x=a):=by unfold I0;rw[HE.o];rfl);go_wp2;go_ret;exact qw
   |false=>
    (have HW:jV (I0 l x=a++[x]):=by unfold I0;rw[HE.o];rfl);(have FO:Z a<=Z l:=oa);go_wp2_with (at_builtin;refine mE _ rfl (.tmp 37) (.tmp 39) _ rfl w.heap.size 9 F _ 1 16 underlying41 D B E G rfl lc (U L (Z a) H) (Z a) (qS Ai a) rfl (f.alloc _) ⟨wr.heap.size,0,Y⟩ 1 1 [O x] rfl rfl (mz (mG wr _)) lC lc lw lc li (wr.heap.size+1) ln ?_;intro g1 B9 n I r AR Bx)
    have s:=(m.alloc _).grown r (λq b=>j3 (f.lt q b).1);clear r AR Bx f m W;go_wp2;go_ret;rw[HW.o];refine⟨_,rfl,?_,s⟩;simpa[Ai] using I
def zX(l:kN bN)(t:AK):kN bN:=if t.v==0&& !DP l t.s then I0 l t.s else l
def zO(l:kN bN)(ts:kN AK):kN bN:=qU zX l ts
def Lk(l:kN bN):Prop:=∀y∈l,0<y.size/\y.size<=1000000
def YL(ts:kN AK):Prop:=∀t∈ts,t.v=0->0<t.s.size/\t.s.size<=1000000
def NU(x)(d:0<x.size/\x.size<=1000000):∀l a,Lk l->Lk a.1->Lk (qU (Dx x) a l).1
 |[],_,_,ha=>ha
 |y::l,a,hl,ha=>by
  refine NU x d l _ (λz b=>hl z sq) ?_;have c:=hl y ln;unfold Dx;split
  .intro z b;simp only[mi,lX]at b;rcases b with(b|b)|b
   .exact ha z b
   .rw[b];exact d
   .rw[b];exact c
  .intro z b;simp at b;rcases b with b|b
   .exact ha z b
   .rw[b];exact c
def ZG(c:Lk e)(b:0<s.size/\s.size<=1000000):Lk (I0 e s):=by
 have h:Lk (Od e s).1:=NU s b e _ c (by intro y d;simp at d);unfold I0;split
 .exact h
 .intro z a;simp at a;rcases a with a|a
  .exact h z a
  .rw[a];exact b
def Tz{t}(a:Lk e)(b:t.v=0->0<t.s.size/\t.s.size<=1000000):Lk (zX e t):=by
 unfold zX;split
 .rename_i h;simp only[mC,n5]at h;exact ZG a (b h.1)
 .exact a
def fb(l t):Z (zX l t)<=Z l+1:=by
 unfold zX;split
 .rw[O9];omega
 .omega
def bK(l){a:kN AK}(b):zO l (qT (k+1) a)=zX (zO l (qT k a)) a[k]:=by
 unfold zO;rw[lW b,m6];rfl
def Xy(l a):Z (zO l a)<=Z l+Z a:=by
 unfold zO
 induction a generalizing l with
 |nil=>simp
 |cons t a ih=>
  have b:=ih (zX l t);have c:=fb l t;exact li
def TR{a}(b:Lk e)(c:YL a):Lk (zO e a):=by
 induction a generalizing e with
 |nil=>exact b
 |cons t a ih=>exact ih (Tz b (c t ln)) (λu d=>c u sn)
theorem bf(L D)(l:kN bN)(a:kN AK)(d w)(z:kt w d 9 1 L (Z l) (qS Ai l))(u:kt w 0 93 2 D (Z a) (qS AP a))(A0:d<=w.heap.size)(Bx:Z l+Z a<=1000000)(G:Lk l)(M:YL a):rE rF 130 #[L,D] w λe B=>∃v,e=j1 v/\kt B d 9 1 v (Z (zO l a)) (qS Ai (zO l a))/\Ac [] w B:=by
 obtain⟨ad,A2,rfl⟩:=Aj z;obtain⟨T,R,rfl⟩:=Aj u;have t:jV (kt w 0 93 2 (U T (Z a) R) (Z a) (qS AP a)/\Lk l/\YL a):=⟨u,G,M⟩;clear u G M;have A1:∀(x:rD) (w:jH),(Op.unary .not (kx x)).run rF w=.ok (kx (!x)) w:=λ_ _=>rfl
 go_enter func130,ntmps130;go_wp2
 go_loopw [0,5] (λo i wr=>∃(k:Nat) (b:kN bN),i=X J k/\k<=Z a/\jV (zO l (qT k a)=b/\Lk b)/\Z b<=Z l+k/\kt wr d 9 1 o (Z b) (qS Ai b)/\Ac [] w wr) (λ_ i _=>Z a-(rG i).toNat)
 case atStart=>exact⟨0,l,rfl,mr _,⟨by simp[zO],t.o.2.1⟩,lc,z,kR _ _⟩
 case round=>
  clear z;obtain⟨k,b,rfl,hk,r,AO,f,m⟩:=hrel;obtain⟨B0,BT,rfl⟩:=Aj f;have BS:=m.size;by_cases j:k<Z a
  .obtain⟨g,AR,I,hc,y⟩:=Az (Ad t.o.1 m) (λc _=>FR c) k j;obtain⟨rfl,_,rfl⟩:=qX I;have S:=y k j 0 lc;have Q:=y k j 1 lc;simp[AP]at S Q;clear y;have H:((a[k].v.toNat:Int)==0)=(a[k].v==0):=Cu _ 0;have n:jV (zO l (qT (k+1) a)=zX b a[k]/\Lk (zX b a[k])):=⟨by rw[bK l j,r.o.1],Tz r.o.2 (t.o.2.2 a[k] (lV j))⟩;cases hz:(a[k].v==0)with
   |false=>
    rw[hz]at H;(have p:jV (zO l (qT (k+1) a)=b/\Lk b):=by have h:=n.o;simp only[zX,hz,ph,ma,rm]at h;exact h);clear n hz;go_wp2
    go_roundw
    case rel=>exact⟨k+1,b,ly,lc,p,lc,f,m⟩
    case measure=>simp[rG];omega
   |true=>
    rw[hz]at H;have Ax:=t.o.2.2 a[k] (lV j) (by simpa using hz);cases hh:DP b a[k].s with
    |true=>
     (have p:jV (zO l (qT (k+1) a)=b/\Lk b):=by have h:=n.o;simp only[zX,hz,hh,oK,pF,ma,rm]at h;exact h);clear n hz;(go_wp2_with fail);refine(IC _ b a[k].s d _ f lc).G ?_;rintro e A ⟨rfl,q⟩;rw[hh,q];clear q A;go_wp2
     go_roundw
     case rel=>exact⟨k+1,b,ly,lc,p,lc,f,m⟩
     case measure=>simp[rG];omega
    |false=>
     (have p:jV (zO l (qT (k+1) a)=I0 b a[k].s/\Lk (I0 b a[k].s)):=by have h:=n.o;simp only[zX,hz,hh,nE,Bool.and_true,ro]at h;exact h);have W:=Ab r.o.2;clear n hz;(go_wp2_with fail);refine(IC _ b a[k].s d _ f lc).G ?_;rintro e A ⟨rfl,q⟩;rw[hh,q];clear q A;(go_wp2_with fail);refine(e9 _ b a[k].s d _ f lc Ax W).G ?_;rintro e w2 ⟨v2,rfl,E,F⟩;have N:=m.H F;have AB:=Ak (base':=d) E lc;have C:=O9 b a[k].s;have P:=Ab C;clear E F C;go_wp2
     go_roundw
     case rel=>exact⟨k+1,I0 b a[k].s,ly,lc,p,by rw[Aa P];omega,AB,N⟩
     case measure=>simp[rG];omega
  ·(have HE:jV (zO l a=b):=by have h:=r.o.1;rwa [lY lc]at h);go_wp2;go_ret;rw[HE.o];exact⟨_,rfl,f,m⟩
structure Hj(c:AW):Prop where
 body:Z c.bl<=3
 qH:Z c.E.qH<=2
 g:∀p∈c.bl,Z p.1.A.qH<=2
structure dW(c:AW):Prop where
 E:YL c.E.qH
 body:∀p∈c.bl,YL (AA p)
def D2(l:kN bN)(x:bN):kN bN:=if DP l x then l else l++[x]
def zF(l:kN bN)(p:Bc):kN bN:=if L5 p then D2 l p.1.A.a else l
def Qk(l:kN bN)(c:AW):kN bN:=qU zF (D2 l c.E.a) c.bl
def EA(cs:kN AW):kN bN:=qU Qk [] cs
def Vw(l:kN bN)(p:Bc):kN bN:=zO l (AA p)
def KH(l:kN bN)(c:AW):kN bN:=qU Vw (zO l c.E.qH) c.bl
def Bh(cs:kN AW):kN bN:=qU KH [] cs
def ET{α β:Type}(f)(b:β){l:kN α}(a):qU f b (qT (k+1) l)=f (qU f b (qT k l)) l[k]:=by
 rw[lW a,m6];rfl
theorem RW(pb lv a w)(hP:AF w pb [lv] 76)(hR:Cf w lv a)(HS:Z a<=12)(n:∀c∈a,Hj c)(s:∀c∈a,dW c):rE rF 83 #[jj (V ⟨pb,0,Y⟩)] w λe w'=>∃v,e=j1 v/\kt w' w.heap.size 9 1 v (Z (Bh a)) (qS Ai (Bh a))/\Ac [] w w':=by
 obtain⟨ad,HL,rfl⟩:=Aj hR.row;have H:jV (Cf w (U ad (Z a) HL) a/\(∀c∈a,Hj c)/\(∀c∈a,dW c)):=⟨hR,n,s⟩;clear hR n s;go_enter func83,ntmps83;go_wp2
 go_loopw [3,4] (λo i wr=>∃(k:Nat) (f:kN bN),i=X J k/\k<=Z a/\jV (qU KH [] (qT k a)=f/\Lk f)/\Z f<=8*k/\kt wr w.heap.size 9 1 o (Z f) (qS Ai f)/\Ac [] w wr) (λ_ i _=>Z a-(rG i).toNat)
 case atStart=>exact⟨0,[],rfl,mr _,⟨ln,by intro y hy;simp at hy⟩,ln,mw _ _ _ _,kR _ _⟩
 case round=>
  obtain⟨k,f,rfl,hk,D,H0,G,t⟩:=hrel;obtain⟨JJ,JA,rfl⟩:=Aj G;have x:=(hP.C t).D 0;simp at x;have BA:=t.size;by_cases l:k<Z a
  .have L:=H.o.1.C t;obtain⟨g,H1,he,hc,CL⟩:=Az L.row (λc _=>B6 c) k l;obtain⟨rfl,_,rfl⟩:=qX he;have AT:=CL k l 1 lc;simp[BH]at AT;have q:=L.j a[k] (lV l);have n:=H.o.2.1 a[k] (lV l);have s:=H.o.2.2 a[k] (lV l);obtain⟨KA,IJ,AO⟩:=Aj q.qH;obtain⟨HJ,HC,ES⟩:=Aj q.body;rw[AO]at AT;have FT:jV (a[k].bv=U HJ a[k].bl.length HC):=ES;have A:=bf _ _ f a[k].E.qH w.heap.size _ G q.qH BA (by have:=n.qH;omega) D.o.2 s.E;rw[AO]at A;have HA:=Ab A;have H9:=n.qH;have HU:=n.body;have z:jV (Hj a[k]/\dW a[k]):=⟨n,s⟩;clear CL L q AO ES A n s;(go_wp2_with fail);refine HA.G ?_;rintro e w1 ⟨v1,rfl,E,B0⟩;have A0:=t.H B0;have M:=Ab (Xy f a[k].E.qH);obtain⟨p,F⟩:=kQ (zO f a[k].E.qH);rw[F]at E M;have BT:jV (zO f a[k].E.qH=p/\Lk p):=⟨F,by rw[<-F];exact TR D.o.2 z.o.2.E⟩;(have HO:Z p<=8*k+2:=by have:=Aa M;omega);obtain⟨KB,H8,rfl⟩:=Aj E;clear AT x G t BA B0 F M HA;go_wp2
   go_loopw [3,5] (λo i R=>∃(m:Nat) (d:kN bN),i=X J m/\m<=a[k].bl.length/\jV (qU Vw p (a[k].bl.take m)=d/\Lk d)/\Z d<=8*k+2+2*m/\kt R w.heap.size 9 1 o (Z d) (qS Ai d)/\Ac [] w R) (λ_ i _=>a[k].bl.length-(rG i).toNat)
   case atStart=>exact⟨0,p,rfl,mr _,⟨ln,BT.o.2⟩,lc,E,A0⟩
   case round=>
    rename_i R _;clear E A0;obtain⟨m,d,rfl,hm,u,H5,B,r⟩:=hrel;obtain⟨H7,HN,rfl⟩:=Aj B;have x:=(hP.C r).D 0;simp at x;have KK:=r.size;have AB:=H.o.1.C r;obtain⟨g2,HN,FW,_,EY⟩:=Az AB.row (λc _=>B6 c) k l;simp only[lU,lZ,mR]at FW;obtain⟨⟨rfl,_,_⟩,_,rfl⟩:=FW;have P:=EY k l 3 lc;simp[BH]at P;rw[FT.o]at P;have q:=AB.j a[k] (lV l);clear EY AB;by_cases b:m<a[k].bl.length
    .obtain⟨gb,HV,N,Ix,j⟩:=Az q.body (λc _=>B4 c) m b;rw[FT.o]at N;obtain⟨rfl,_,rfl⟩:=qX N;have S:=q.g a[k].bl[m] (lV b);obtain⟨KD,H6,Ax⟩:=Aj S;have T:=TO a[k].bl[m] _ S;simp only[A4,Cy,Ax]at T;have d0:=j m b 0 lc;have d1:=j m b 1 lc;have I:=j m b 2 lc;have d3:=j m b 3 lc;have d4:=j m b 4 lc;have d5:=j m b 5 lc;have d6:=j m b 6 lc;have d7:=j m b 7 lc;have d8:=j m b 8 lc;simp[A4,Cy]at d0 d1 I d3 d4 d5 d6 d7 d8;rw[Ax]at I;have HT:=Ab T;clear j S Ax q T;have IS:Z (AA a[k].bl[m])<=2:=by
      have:=z.o.1.g a[k].bl[m] (lV b);unfold AA;split
      .exact this
      .simp
     (go_wp2_with fail);refine HT.G ?_;rintro e w2 ⟨tv,rfl,EX,AH⟩;have Q:=r.H AH;have CW:=Ad B AH;have HH:=Q.size;clear d0 d1 I d3 d4 d5 d6 d7 d8 HT x P;(go_wp2_with fail);refine(bf _ _ d (AA a[k].bl[m]) w.heap.size _ CW EX HH lc u.o.2 (z.o.2.body _ (lV b))).G ?_;rintro e w3 ⟨v3,rfl,B9,EM⟩;have HD:=Q.H EM;have W:=Ab (Xy d (AA a[k].bl[m]));have FP:jV (qU Vw p (a[k].bl.take (m+1))=zO d (AA a[k].bl[m])/\Lk (zO d (AA a[k].bl[m]))):=
      ⟨by rw[ET _ _ b,u.o.1];rfl,TR u.o.2 (z.o.2.body _ (lV b))⟩
     obtain⟨C,FO⟩:=kQ (zO d (AA a[k].bl[m]));rw[FO]at B9 W FP;(have Ha:Z C<=8*k+2+2*(m+1):=by have:=Aa W;omega);clear r B CW EX AH EM Q FO W;go_wp2
     go_roundw
     case rel=>exact⟨m+1,C,ly,lc,FP,Ha,B9,HD⟩
     case measure=>simp[rG];omega
    .have HZ:jV (qU KH [] (qT (k+1) a)=d/\Lk d):=by
      have h:=u.o.1;rw[lY lc]at h;refine⟨?_,u.o.2⟩;rw[ET _ _ l,D.o.1,<-h];unfold KH;rw[BT.o.1]
     go_wp2
     go_roundw
     case rel=>exact⟨k+1,d,ly,lc,HZ,lc,B,r⟩
     case measure=>simp[rG];omega
  ·(have HE:jV (Bh a=f):=by have h:=D.o.1;rwa [lY lc]at h);go_wp2;go_ret;rw[HE.o];exact⟨_,rfl,G,t⟩
def W4(w:jH)(o a t)(l:kN jR)(b:l=a.toList):∀j u,l[j]?=V u->jY ((w.alloc o).alloc (Y6 a t)) ((⟨w.heap.size+1,0,Y⟩:Addr).add j)=V u:=by
 subst b;have h:=mG (w.alloc o) (Y6 a t);rw[mJ]at h;exact mz h
theorem dI(pb lv cs w)(hP:AF w pb [lv] 76)(hR:Cf w lv cs)(H6:Z cs<=12)(I:∀c∈cs,Hj c):rE rF 22 #[jj (V ⟨pb,0,Y⟩)] w λe w'=>∃v,e=j1 v/\kt w' w.heap.size 9 1 v (Z (EA cs)) (qS Ai (EA cs))/\Ac [] w w':=by
 obtain⟨i0,EX,AT,FB,CW⟩:=mW Tryz.zk;obtain⟨ad,HY,rfl⟩:=Aj hR.row;have HR:jV (Cf w (U ad (Z cs) HY) cs/\(∀c∈cs,Hj c)):=⟨hR,I⟩;clear hR I;have KB:∀(x:rD) (w:jH),(Op.unary .not (kx x)).run rF w=.ok (kx (!x)) w:=λ_ _=>rfl
 go_enter func22,ntmps22;go_wp2
 go_loopw [3,4] (λo i wr=>∃(k:Nat) (a:kN bN),i=X J k/\k<=Z cs/\jV (qU Qk [] (qT k cs)=a)/\Z a<=4*k/\kt wr w.heap.size 9 1 o (Z a) (qS Ai a)/\Ac [] w wr) (λ_ i _=>Z cs-(rG i).toNat)
 case atStart=>exact⟨0,[],rfl,mr _,se,ln,mw _ _ _ _,kR _ _⟩
 case round=>
  obtain⟨k,a,rfl,hk,HF,Ix,r,z⟩:=hrel;obtain⟨FO,FC,rfl⟩:=Aj r;have P:=(hP.C z).D 0;simp at P;have HD:=z.size;by_cases n:k<Z cs
  .have S:=HR.o.1.C z;obtain⟨g,IA,he,hc,A2⟩:=Az S.row (λc _=>B6 c) k n;obtain⟨rfl,_,rfl⟩:=qX he;have B0:=A2 k n 0 lc;simp[BH]at B0;have F:=S.j cs[k] (lV n);have I:=HR.o.2 cs[k] (lV n);obtain⟨HU,HL,B2⟩:=Aj F.body;have FL:jV (cs[k].bv=U HU cs[k].bl.length HL):=B2;have H7:=I.body;clear A2 S F B2 I;(have H1:∀(b:kN bN) (v1:jR) (E:jH),jV (D2 a cs[k].E.a=b)->Z b<=4*k+1->kt E w.heap.size 9 1 v1 (Z b) (qS Ai b)->Ac [] w E->True:=λ_ _ _ _ _ _ _=>trivial);clear H1;cases hh:DP a cs[k].E.a
   case' true=>
    (have C:jV (D2 a cs[k].E.a=a):=by show _=_;simp[D2,hh]);(go_wp2_with fail);refine(IC _ a cs[k].E.a w.heap.size _ r lc).G ?_;rintro e B ⟨rfl,j⟩;rw[hh,j];clear j B hh;have y:=r;have Q:=z;have H:Z a<=4*k+1:=lc;go_wp2;obtain⟨b,C,y,H⟩:∃b,jV (D2 a cs[k].E.a=b)/\kt wr w.heap.size 9 1 (U FO (Z a) FC) (Z b) (qS Ai b)/\Z b<=4*k+1:=⟨a,C,y,H⟩
   case' false=>
    (have C:jV (D2 a cs[k].E.a=a++[cs[k].E.a]):=by show _=_;simp[D2,hh]);(go_wp2_with fail);refine(IC _ a cs[k].E.a w.heap.size _ r lc).G ?_;rintro e B ⟨rfl,j⟩;rw[hh,j];clear j B hh;go_wp2_with (at_builtin;refine mE _ rfl (.tmp 28) (.tmp 38) _ rfl w.heap.size 9 i0 _ 1 16 underlying41 EX AT FB CW rfl lc (U FO (Z a) FC) (Z a) (qS Ai a) rfl (r.alloc _) ⟨wr.heap.size,0,Y⟩ 1 1 [O cs[k].E.a] rfl rfl (mz (mG wr _)) lC lc lw lc li (wr.heap.size+1) ln ?_;intro g1 A1 E DT Bx FW HI)
    have Q:Ac [] w E:=(z.alloc _).grown Bx (λq W=>j3 (r.lt q W).1);(have y:kt E w.heap.size 9 1 (U (V ⟨g1,0,Y⟩) (Z a+1) A1) (Z (a++[cs[k].E.a])) (qS Ai (a++[cs[k].E.a])):=by simpa[Ai] using DT);have H:Z (a++[cs[k].E.a])<=4*k+1:=li;clear Bx FW HI DT;go_wp2;obtain⟨b,C,y,H⟩:∃b,jV (D2 a cs[k].E.a=b)/\kt E w.heap.size 9 1 (U (V ⟨g1,0,Y⟩) (Z a+1) A1) (Z b) (qS Ai b)/\Z b<=4*k+1:=⟨_,C,y,H⟩
   all_goals
    clear B0 P r z HD
    go_loopw [3,5] (λo i wq=>∃(m:Nat) (d:kN bN),i=X J m/\m<=cs[k].bl.length/\jV (qU zF b (cs[k].bl.take m)=d)/\Z d<=4*k+1+m/\kt wq w.heap.size 9 1 o (Z d) (qS Ai d)/\Ac [] w wq) (λ_ i _=>cs[k].bl.length-(rG i).toNat)
    case atStart=>exact⟨0,b,rfl,mr _,se,lc,y,Q⟩
    case round=>
     clear y Q;obtain⟨m,d,rfl,hm,HM,KA,N,u⟩:=hrel;obtain⟨HT,H0,rfl⟩:=Aj N;have P:=(hP.C u).D 0;simp at P;have K1:=u.size;have Ax:=HR.o.1.C u;obtain⟨g2,Jx,FP,_,CC⟩:=Az Ax.row (λc _=>B6 c) k n;simp only[lU,lZ,mR]at FP;obtain⟨⟨rfl,_,_⟩,_,rfl⟩:=FP;have BT:=CC k n 3 lc;simp[BH]at BT;rw[FL.o]at BT;have F:=Ax.j cs[k] (lV n);clear CC Ax;by_cases f:m<cs[k].bl.length
     .obtain⟨gb,H8,T,KK,l⟩:=Az F.body (λc _=>B4 c) m f;rw[FL.o]at T;obtain⟨rfl,_,rfl⟩:=qX T;have hl:=F.g cs[k].bl[m] (lV f);obtain⟨H3,HQ,FA⟩:=Aj hl;have d0:=l m f 0 lc;have d1:=l m f 1 lc;have d2:=l m f 2 lc;have d3:=l m f 3 lc;have d4:=l m f 4 lc;have d5:=l m f 5 lc;have d6:=l m f 6 lc;have d7:=l m f 7 lc;have d8:=l m f 8 lc;simp[A4,Cy]at d0 d1 d2 d3 d4 d5 d6 d7 d8;rw[FA]at d2;clear l hl FA F;(have D:jV (qU zF b (cs[k].bl.take (m+1))=zF d cs[k].bl[m]):=by show _=_;rw[ET _ _ f,HM.o]);have G:=N.alloc (Y6 #[X .u8 cs[k].bl[m].1.b.toNat,O cs[k].bl[m].1.A.a,U H3 cs[k].bl[m].1.A.qH.length HQ,X J cs[k].bl[m].1.A.e,X .u8 cs[k].bl[m].1.L.v.toNat,O cs[k].bl[m].1.L.s,X .u8 cs[k].bl[m].1.R.v.toNat,O cs[k].bl[m].1.R.s,X J cs[k].bl[m].1.e] 95);rcases EZ cs[k].bl[m] with⟨k1,p⟩|⟨k1,k2,p⟩|⟨k1,k2,p⟩
      rotate_right 1
      ·(have M:jV (qU zF b (cs[k].bl.take (m+1))=d):=by show _=_;rw[D.o];simp[zF,p]);clear D p;go_wp2
       go_roundw
       case rel=>exact⟨m+1,d,ly,lc,M,lc,G,u.alloc _⟩
       case measure=>simp[rG];omega
      all_goals
       cases hh2:DP d cs[k].bl[m].1.A.a with
       |true=>
        (have M:jV (qU zF b (cs[k].bl.take (m+1))=d):=by show _=_;rw[D.o];simp[zF,D2,p,hh2]);clear D p;(go_wp2_with fail);refine(IC _ d cs[k].bl[m].1.A.a w.heap.size _ G lc).G ?_;rintro e B ⟨rfl,j⟩;rw[hh2,j];clear j B hh2;go_wp2
        go_roundw
        case rel=>exact⟨m+1,d,ly,lc,M,lc,G,u.alloc _⟩
        case measure=>simp[rG];omega
       |false=>
        (have M:jV (qU zF b (cs[k].bl.take (m+1))=d++[cs[k].bl[m].1.A.a]):=by show _=_;rw[D.o];simp[zF,D2,p,hh2]);clear D p;(go_wp2_with fail);refine(IC _ d cs[k].bl[m].1.A.a w.heap.size _ G lc).G ?_;rintro e B ⟨rfl,j⟩;rw[hh2,j];clear j B hh2;go_wp2_with (at_builtin;refine mE _ rfl (.tmp 80) (.tmp 84) _ rfl w.heap.size 9 i0 _ 1 16 underlying41 EX AT FB CW rfl lc (U HT (Z d) H0) (Z d) (qS Ai d) rfl (G.alloc _) ⟨wr.heap.size+1,0,Y⟩ 1 1 [O cs[k].bl[m].1.A.a] rfl rfl (W4 wr _ _ _ _ rfl) lC lc lw lc li (wr.heap.size+2) ln ?_;intro g5 KD w5 Go FT HC HX)
        have H4:Ac [] w w5:=((u.alloc _).alloc _).grown FT (λq W=>j3 (N.lt q W).1);clear FT HC HX;go_wp2
        go_roundw
        case rel=>
         refine⟨m+1,d++[cs[k].bl[m].1.A.a],ly,lc,M,li,?_,H4⟩;simpa[Ai] using Go
        case measure=>simp[rG];omega
     .have HZ:jV (qU Qk [] (qT (k+1) cs)=d):=by
       have h:=HM.o;rw[lY lc]at h;show _=_;rw[ET _ _ n,HF.o,<-h];unfold Qk;rw[C.o]
      go_wp2
      go_roundw
      case rel=>exact⟨k+1,d,ly,lc,HZ,lc,N,u⟩
      case measure=>simp[rG];omega
  ·(have HE:jV (EA cs=a):=by have h:=HF.o;rwa [lY lc]at h);go_wp2;go_ret;rw[HE.o];exact⟨_,rfl,r,z⟩
def Ot(x:bN)(l:kN bN)(c:AW):kN bN:=if c.E.a.toList==x.toList then qU zF l c.bl else l
def Oj(cs:kN AW)(l:kN bN)(x:bN):kN bN:=qU (Ot x) l cs
def Dz(cs:kN AW):kN bN:=cs.flatMap λc=>(c.bl.filter L5).map λp=>p.1.A.a
def QT(cs:kN AW)(l:kN bN):Nat:=(Dz cs).countP λx=> !DP l x
def Bd(cs:kN AW)(l:kN bN):Prop:=Z l+QT cs l<=1+Z (Dz cs)
def KZ:Nat->kN AW->bN->kN bN->Nat->rD
 |0,_,_,_,_=>K
 |f+1,cs,to,l,n=>if h:n<Z l then(if l[n].toList==to.toList then T6 else KZ f cs to (Oj cs l l[n]) (n+1))else K
def In(cs:kN AW)(frm to:bN):rD:=KZ (2+Z (Dz cs)) cs to [frm] 0
def PZ(l x):∀(m:kN bN),(m.countP λy=> !DP (l++[x]) y)<=m.countP λy=> !DP l y
 |[]=>ln
 |y::m=>by
  have ih:=PZ l x m;simp only[List.countP_cons];have:(!DP (l++[x]) y)=T6->(!DP l y)=T6:=by
   rw[Mh];cases DP l y<;>simp
  cases h1:(!DP (l++[x]) y)with
  |true=>exact qr
  |false=>exact li
def Kc(l x)(b:DP l x=K):∀(m:kN bN),x∈m->(m.countP λy=> !DP (l++[x]) y)+1<=m.countP λy=> !DP l y
 |[],h=>pp
 |y::m,h=>by
  simp only[List.countP_cons];by_cases c:y=x
  .have a:=PZ l y m;(have d:DP (l++[y]) y=T6:=by rw[Mh];simp);exact qr
  .have ih:=Kc l x b m (by rcases l9.1 h with h|h;exact rl h.symm c;exact h);have:(!DP (l++[x]) y)=T6->(!DP l y)=T6:=by
    rw[Mh];cases DP l y<;>simp
   cases a:(!DP (l++[x]) y)with
   |true=>exact qr
   |false=>exact li
def fV{a}{c}{p}(i:c∈a)(b:p∈c.bl)(h:Bd a e):Bd a (zF e p):=by
 unfold zF D2;split
 .rename_i g;split
  .exact h
  .rename_i j;(have f:DP e p.1.A.a=K:=by simpa using j);have d:p.1.A.a∈Dz a:=by
    unfold Dz;rw[mH];exact⟨c,i,me.2 ⟨p,my.2 ⟨b,g⟩,rfl⟩⟩
   have:=Kc e _ f _ d;unfold Bd QT at h|-;exact li
 .exact h
def dJ(l p):∃a,zF l p=l++a:=by
 unfold zF D2;split
 .split
  .exact ln
  exact ln
 exact ln
structure FE(cs:kN AW)(l l2:kN bN):Prop where
 pre:∃suf,l2=l++suf
 bd:Bd cs l2
def FE.zF{a:kN AW}{l d:kN bN}(h:FE a l d){c:AW}{p:Bc}(j:c∈a)(e:p∈c.bl):FE a l (zF d p):=by
 obtain⟨⟨b,rfl⟩,i⟩:=h;obtain⟨f,g⟩:=dJ (l++b) p;exact⟨⟨b++f,by rw[g,mY]⟩,fV j e i⟩
variable{c:kN AW}
def FE.at{l a}(h:FE c l a)(b):∃d,a[n]=l[n]:=by
 obtain⟨⟨e,rfl⟩,_⟩:=h;exact⟨li,nB b⟩
def FE.len{l a}(h:FE c l a):Z l<=Z a/\Z a<=1+Z (Dz c):=by
 obtain⟨⟨d,rfl⟩,b⟩:=h;unfold Bd at b;exact⟨ln,lc⟩
theorem V0(pb lv a)(G D:bN)(w)(hP:AF w pb [lv] 76)(hR:Cf w lv a)(MY:Z a<=1000000)(HT:∀c∈a,Z c.bl<=1000000)(LD:Z (Dz a)<=900000):rE rF 85 #[jj (V ⟨pb,0,Y⟩),O G,O D] w λe w'=>e=j1 (kx (In a G D))/\Ac [] w w':=by
 obtain⟨i0,K8,KK,HC,FT⟩:=mW Tryz.zk;obtain⟨ad,Ha,rfl⟩:=Aj hR.row;obtain⟨R,FB⟩:=kQ (In a G D);rw[FB];have HR:jV (Cf w (U ad (Z a) Ha) a/\(∀c∈a,Z c.bl<=1000000)/\In a G D=R):=⟨hR,HT,FB⟩;obtain⟨A,hA⟩:=kQ (Z (Dz a));rw[hA]at LD;have HA:=Ab hA;clear hR HT FB hA;have NM:∀(x:rD) (w:jH),(Op.unary .not (kx x)).run rF w=.ok (kx (!x)) w:=λ_ _=>rfl
 go_enter func85,ntmps85;go_wp2
 go_loopg [7,8] (1+A) (λgk o i wr=>∃(n:Nat) (l:kN bN),i=X J n/\n<=Z l/\Z l<=1+A/\gk=1+A-n/\jV (Bd a l/\KZ (2+A-n) a D l n=R)/\kt wr w.heap.size 9 1 o (Z l) (qS Ai l)/\Ac [] w wr)
 case atStart=>
  refine⟨0,[G],rfl,ln,ln,ln,⟨?_,?_⟩,?_,(kR _ _).alloc _⟩
  .unfold Bd QT;have:=ql (p:=λx=> !DP [G] x) (l:=Dz a);simp only[mn,mI];omega
  .have h:=HR.o.2.2;unfold In at h;rw[Aa HA]at h;exact h
  .exact⟨rfl,j3 ⟨_,1,#[O G],rfl,mt _,mG w _,ln,lw,rfl,by simp[Ai]⟩⟩
 case round=>
  obtain⟨n,l,rfl,hn,hl,H6,HB,EK,hK⟩:=hrel;have HG:jV (gk=1+A-n):=H6;clear H6;obtain⟨NY,NX,rfl⟩:=Aj EK;by_cases P:n<Z l
  .obtain⟨g,M6,he,hc,HO⟩:=Az EK (λc _=>rfl) n P;obtain⟨rfl,_,rfl⟩:=qX he;have z:=HO n P 0 lc;simp[Ai]at z;clear HO;obtain⟨x,N⟩:=kQ (l[n]);rw[N]at z;cases hto:(x.toList==D.toList)with
   |true=>
    have LC:jV (R=T6):=by
     have h:=HB.o.2;rw[show 2+A-n=(1+A-n)+1 by omega,KZ,dif_pos P,N,hto]at h;exact h.symm
    clear N;go_wp2;go_ret;rw[LC.o];exact⟨rfl,hK⟩
   |false=>
    have H7:jV (KZ (2+A-(n+1)) a D (Oj a l x) (n+1)=R/\l[n]=x):=by
     have h:=HB.o.2;rw[show 2+A-n=(2+A-(n+1))+1 by omega,KZ,dif_pos P,N,hto]at h;exact⟨h,N⟩
    have HK:jV (FE a l l):=⟨⟨[],ln⟩,HB.o.1⟩;clear N HB;go_wp2;clear z hto
    go_loopw [7,9] (λo i H=>∃(k:Nat) (d:kN bN),i=X J k/\k<=Z a/\jV (qU (Ot x) l (qT k a)=d/\FE a l d)/\kt H w.heap.size 9 1 o (Z d) (qS Ai d)/\Ac [] w H) (λ_ i _=>Z a-(rG i).toNat)
    case atStart=>exact⟨0,l,rfl,mr _,⟨ln,HK.o⟩,EK,hK⟩
    case round=>
     clear EK hK HK;obtain⟨k,d,rfl,hk,HM,E,u⟩:=hrel;obtain⟨NL,LS,rfl⟩:=Aj E;have HY:=(hP.C u).D 0;simp at HY;by_cases r:k<Z a
     .have Go:=HR.o.1.C u;obtain⟨gp,NE,H0,_,LB⟩:=Az Go.row (λc _=>B6 c) k r;obtain⟨rfl,_,rfl⟩:=qX H0;have Ax:=Go.j a[k] (lV r);have N0:=HR.o.2.1 a[k] (lV r);obtain⟨K3,HL,HV⟩:=Aj Ax.body;have H9:=Ab HV;clear LB Go Ax HV HY;have M:jV (∀(F:jH) (o:jR) (b:kN bN),Ac [] w F->kt F w.heap.size 9 1 o (Z b) (qS Ai b)->FE a l b->
        jY F ⟨pb,0,Y⟩=V (U (V ⟨gp,0,Y⟩) (Z a) Ha)/\jY F ⟨gp,k*5,Y⟩=V (O a[k].E.a)/\jY F ⟨gp,k*5+3,Y⟩=V (U K3 a[k].bl.length HL)/\
        ∃B W,o=U (V ⟨B,0,Y⟩) (Z b) W/\n<Z b/\jY F ⟨B,n,Y⟩=V (O x)):=by
       intro F o b H8 JJ L0;have h1:=(hP.C H8).D 0;have Jx:=HR.o.1.C H8;obtain⟨g2,c2,Ix,_,HW⟩:=Az Jx.row (λc _=>B6 c) k r;simp only[lU,lZ,mR]at Ix;obtain⟨⟨rfl,_,_⟩,_,rfl⟩:=Ix;have h2:=HW k r 0 lc;have h3:=HW k r 3 lc;simp[BH]at h1 h2 h3;rw[Aa H9]at h3;obtain⟨A0,KD⟩:=L0.at P;obtain⟨B,W,I,_,LM⟩:=Az JJ (λc _=>rfl) n A0;have h4:=LM n A0 0 lc;simp[Ai]at h4;rw[KD,H7.o.2]at h4;exact⟨h1,h2,h3,B,W,I,A0,h4⟩
      cases hnm:(a[k].E.a.toList==x.toList)with
      |false=>
       have y:jV (qU (Ot x) l (qT (k+1) a)=d/\FE a l d):=⟨by rw[ET _ _ r,HM.o.1];simp[Ot,hnm],HM.o.2⟩;obtain⟨T,f2,f3,B,W,I,A0,f4⟩:=M.o _ _ _ u E y.o.2;obtain⟨rfl,_,rfl⟩:=qX I;clear M;have KS:(k:Int)<(Z a:Int):=lc;have K2:(n:Int)<(Z d:Int):=lc;go_wp2
       go_loopw [7,10] (λo i H=>o=U (V ⟨B,0,Y⟩) (Z d) LS/\i=X J 0/\∃q,H=wr.drewN q) (λ_ _ _=>0)
       case atStart=>exact⟨rfl,rfl,0,rfl⟩
       case round=>
        obtain⟨rfl,rfl,q,rfl⟩:=hrel;go_wp2_with fail
        go_quiet (fail)
        go_wp2_with fail
        go_roundw
        case rel=>exact⟨k+1,d,ly,lc,y,DM E _,u.drewN _⟩
        case measure=>simp[rG];omega
      |true=>
       (have Mo:jV (qU (Ot x) l (qT (k+1) a)=qU zF d a[k].bl):=by show _=_;rw[ET _ _ r,HM.o.1];simp[Ot,hnm]);have HX:=Ab HM.o.2;have KS:(k:Int)<(Z a:Int):=lc;obtain⟨T,_⟩:=M.o _ _ _ u E HX;go_wp2;clear T
       go_loopw [7,10] (λo i H=>∃(m:Nat) (b:kN bN),i=X J m/\m<=a[k].bl.length/\jV (qU zF d (a[k].bl.take m)=b/\FE a l b)/\kt H w.heap.size 9 1 o (Z b) (qS Ai b)/\Ac [] w H) (λ_ i _=>a[k].bl.length-(rG i).toNat)
       case atStart=>exact⟨0,d,rfl,mr _,⟨ln,HX⟩,E,u⟩
       case round=>
        clear E;have Nd:=Ab u;clear u;obtain⟨m,b,rfl,hm,HN,B9,S⟩:=hrel;obtain⟨T,f2,f3,B,W,I,A0,f4⟩:=M.o _ _ _ S B9 HN.o.2;subst I;have K2:(n:Int)<(Z b:Int):=lc;(have Nx:Z b<=1+A:=by have:=HN.o.2.len.2;rw[Aa HA]at this;exact this);have K4:=S.size;by_cases j:m<a[k].bl.length
        ·have Nq:(m:Int)<(a[k].bl.length:Int):=lc;have K5:decide ((m:Int)<(a[k].bl.length:Int))=T6:=li;have Ax:=(HR.o.1.C S).j a[k] (lV r);obtain⟨f,M1,FL,NS,t⟩:=Az Ax.body (λc _=>B4 c) m j;rw[Aa H9]at FL;obtain⟨rfl,_,rfl⟩:=qX FL;have hl:=Ax.g a[k].bl[m] (lV j);obtain⟨HF,FO,H4⟩:=Aj hl;have z:=t m j 0 lc;have d1:=t m j 1 lc;have d2:=t m j 2 lc;have d3:=t m j 3 lc;have d4:=t m j 4 lc;have d5:=t m j 5 lc;have d6:=t m j 6 lc;have d7:=t m j 7 lc;have d8:=t m j 8 lc;simp[A4,Cy]at z d1 d2 d3 d4 d5 d6 d7 d8;rw[H4]at d2;have HD:jV (jY wr ⟨f,m*9,Y⟩=V (X .u8 a[k].bl[m].1.b.toNat)/\jY wr ⟨f,m*9+1,Y⟩=V (O a[k].bl[m].1.A.a)/\jY wr ⟨f,m*9+2,Y⟩=V (U HF a[k].bl[m].1.A.qH.length FO)/\jY wr ⟨f,m*9+3,Y⟩=V (X J a[k].bl[m].1.A.e)/\jY wr ⟨f,m*9+4,Y⟩=V (X .u8 a[k].bl[m].1.L.v.toNat)/\jY wr ⟨f,m*9+5,Y⟩=V (O a[k].bl[m].1.L.s)/\jY wr ⟨f,m*9+6,Y⟩=V (X .u8 a[k].bl[m].1.R.v.toNat)/\jY wr ⟨f,m*9+7,Y⟩=V (O a[k].bl[m].1.R.s)/\jY wr ⟨f,m*9+8,Y⟩=V (X J a[k].bl[m].1.e)):=⟨z,d1,d2,d3,d4,d5,d6,d7,d8⟩;have Q:jV (qU zF d (a[k].bl.take (m+1))=zF b a[k].bl[m]/\FE a l (zF b a[k].bl[m])):=⟨by rw[ET _ _ j,HN.o.1],HN.o.2.zF (lV r) (lV j)⟩;clear t hl H4 Ax z d1 d2 d3 d4 d5 d6 d7 d8 M;go_wp2_with fail
         go_quiet (fail)
         have FA:=DM B9 nq;have AR:=S.drewN nq;have FF:jY (wr.drewN nq) ⟨pb,0,Y⟩=V (U (V ⟨gp,0,Y⟩) (Z a) Ha)/\jY (wr.drewN nq) ⟨gp,k*5+3,Y⟩=V (U (V ⟨f,0,Y⟩) a[k].bl.length HL)/\jY (wr.drewN nq) ⟨f,m*9,Y⟩=V (X .u8 a[k].bl[m].1.b.toNat)/\jY (wr.drewN nq) ⟨f,m*9+1,Y⟩=V (O a[k].bl[m].1.A.a)/\jY (wr.drewN nq) ⟨f,m*9+2,Y⟩=V (U HF a[k].bl[m].1.A.qH.length FO)/\jY (wr.drewN nq) ⟨f,m*9+3,Y⟩=V (X J a[k].bl[m].1.A.e)/\jY (wr.drewN nq) ⟨f,m*9+4,Y⟩=V (X .u8 a[k].bl[m].1.L.v.toNat)/\jY (wr.drewN nq) ⟨f,m*9+5,Y⟩=V (O a[k].bl[m].1.L.s)/\jY (wr.drewN nq) ⟨f,m*9+6,Y⟩=V (X .u8 a[k].bl[m].1.R.v.toNat)/\jY (wr.drewN nq) ⟨f,m*9+7,Y⟩=V (O a[k].bl[m].1.R.s)/\jY (wr.drewN nq) ⟨f,m*9+8,Y⟩=V (X J a[k].bl[m].1.e):=⟨T,f3,HD.o⟩;clear HD T f2 f3 f4 B9 S K4;generalize wr.drewN nq=wd at FF FA AR|-;obtain⟨T,f3,z,d1,d2,d3,d4,d5,d6,d7,d8⟩:=FF;have M3:=AR.size;have AB:=FA.alloc (Y6 #[X .u8 a[k].bl[m].1.b.toNat,O a[k].bl[m].1.A.a,U HF a[k].bl[m].1.A.qH.length FO,X J a[k].bl[m].1.A.e,X .u8 a[k].bl[m].1.L.v.toNat,O a[k].bl[m].1.L.s,X .u8 a[k].bl[m].1.R.v.toNat,O a[k].bl[m].1.R.s,X J a[k].bl[m].1.e] 95);rcases EZ a[k].bl[m] with⟨k1,C⟩|⟨k1,k2,C⟩|⟨k1,k2,C⟩
         rotate_right 1
         ·(have e:zF b a[k].bl[m]=b:=by simp[zF,C]);(have AT:jV (qU zF d (a[k].bl.take (m+1))=b/\FE a l b):=by have h:=Q.o;rw[e]at h;exact h);clear e;clear Q C;go_wp2
          go_roundw
          case rel=>exact⟨m+1,b,ly,lc,AT,AB,AR.alloc _⟩
          case measure=>simp[rG];omega
         all_goals
          cases hh2:DP b a[k].bl[m].1.A.a with
          |true=>
           (have e:zF b a[k].bl[m]=b:=by simp[zF,D2,C,hh2]);(have AT:jV (qU zF d (a[k].bl.take (m+1))=b/\FE a l b):=by have h:=Q.o;rw[e]at h;exact h);clear e;clear Q C;(go_wp2_with fail);refine(IC _ b a[k].bl[m].1.A.a w.heap.size _ AB lc).G ?_;rintro e w0 ⟨rfl,A2⟩;rw[hh2,A2];clear A2 w0 hh2;go_wp2
           go_roundw
           case rel=>exact⟨m+1,b,ly,lc,AT,AB,AR.alloc _⟩
           case measure=>simp[rG];omega
          |false=>
           (have e:zF b a[k].bl[m]=b++[a[k].bl[m].1.A.a]:=by simp[zF,D2,C,hh2]);(have AT:jV (qU zF d (a[k].bl.take (m+1))=b++[a[k].bl[m].1.A.a]/\FE a l (b++[a[k].bl[m].1.A.a])):=by have h:=Q.o;rw[e]at h;exact h);clear e;clear Q C;(go_wp2_with fail);refine(IC _ b a[k].bl[m].1.A.a w.heap.size _ AB lc).G ?_;rintro e w0 ⟨rfl,A2⟩;rw[hh2,A2];clear A2 w0 hh2;go_wp2_with (at_builtin;refine mE _ rfl (.tmp 91) (.tmp 95) _ rfl w.heap.size 9 i0 _ 1 16 underlying41 K8 KK HC FT rfl lc (U (V ⟨B,0,Y⟩) (Z b) W) (Z b) (qS Ai b) rfl (AB.alloc _) ⟨wd.heap.size+1,0,Y⟩ 1 1 [O a[k].bl[m].1.A.a] rfl rfl (W4 wd _ _ _ _ rfl) lC lc lw lc li (wd.heap.size+2) ln ?_;intro g5 NN w5 IS IJ JA LE)
           have MB:Ac [] w w5:=((AR.alloc _).alloc _).grown IJ (λq hq=>j3 (FA.lt q hq).1);clear IJ JA LE;go_wp2
           go_roundw
           case rel=>
            refine⟨m+1,b++[a[k].bl[m].1.A.a],ly,lc,AT,?_,MB⟩;simpa[Ai] using IS
           case measure=>simp[rG];omega
        ·have K5:decide ((m:Int)<(a[k].bl.length:Int))=K:=li;have N2:decide (m<a[k].bl.length)=K:=li;have y:jV (qU (Ot x) l (qT (k+1) a)=b/\FE a l b):=by
          have h:=HN.o;rw[lY lc]at h;exact⟨by rw[Aa Mo];exact h.1,h.2⟩
         clear M;go_wp2_with fail
         go_quiet (fail)
         go_wp2_with fail
         go_roundw
         case rel=>exact⟨k+1,b,ly,lc,y,DM B9 _,S.drewN _⟩
         case measure=>simp[rG];omega
     ·(have y:jV (Oj a l x=d/\FE a l d):=by have h:=HM.o;rw[lY lc]at h;exact h);(have HC:n+1<=Z d:=by have:=y.o.2.len.1;omega);(have FT:Z d<=1+A:=by have:=y.o.2.len.2;rw[Aa HA]at this;exact this);go_wp2
      go_roundg (1+A-(n+1))
      case measure=>have:=HG.o;omega
      case rel=>exact⟨n+1,d,ly,HC,FT,rfl,⟨y.o.2.bd,by rw[<-y.o.1];exact H7.o.1⟩,E,u⟩
  .have KA:jV (R=K):=by
    have h:=HB.o.2;rw[show 2+A-n=(1+A-n)+1 by omega,KZ,dif_neg P]at h;exact h.symm
   go_wp2;go_ret;rw[KA.o];exact⟨rfl,hK⟩
def BC(p:Bc):rD:=decide (2<Z p.1.A.qH)
def Ci(cs:kN AW)(p:Bc):rD:=L5 p&&(BQ cs p.1.A.a !=(Z p.1.A.qH:Int))
def Cr(cs:kN AW)(i:Nat)(c:AW):Option (Int×Int):=
 if 12<=i\/3<Z c.bl then V (3,c.e)
 else if 2<Z c.E.qH then V (3,c.e)
 else if c.bl.any BC then V (3,c.e)
 else if 6<Z (EA (qT (i+1) cs))\/6<Z (Bh (qT (i+1) cs)) then V (3,c.e)
 else if BQ cs c.E.a≠(Z c.E.qH:Int)then V (4,c.E.e)
 else match c.bl.find? (Ci cs)with
  |some p=>V (4,p.1.A.e)
  |none=>if 0<=D4 c.E c.bl then V (5,D4 c.E c.bl)else Y
def EH(cs:kN AW):Nat->kN AW->Option (Int×Int)
 |_,[]=>Y
 |i,c::l=>match Cr cs i c with
  |some r=>V r
  |none=>EH cs (i+1) l
def Fg(cs:kN AW)(c:AW)(p:Bc):rD:=p.1.b==33&&In cs p.1.A.a c.E.a
def DX(cs:kN AW)(c:AW):Option (Int×Int):=(c.bl.find? (Fg cs c)).map λp=>(6,(p.1.e:Int))
def CH(cs:kN AW):Int×Int:=match EH cs 0 cs with
 |some r=>r
 |none=>match cs.findSome? (DX cs)with
  |some r=>r
  |none=>(0,0)
def Ly{a}:∀(l:kN AW) (i k),(∀j d,j<k->Cr a (i+j) l[j]=Y)->k<=Z l->EH a i l=EH a (i+k) (l.drop k)
 |l,i,0,_,_=>ln
 |[],i,k+1,_,hk=>by simp at hk
 |c::l,i,k+1,h,hk=>by
  have b:=h 0 ln lc;simp at b;rw[EH,b];simp;rw[Ly l (i+1) k (λj d e=>by
   have:=h (j+1) li lc
   rw[show i+1+j=i+(j+1) by omega];exact this) (by simpa using hk)]
  rw[show i+1+k=i+(k+1) by omega]
def ZC(b)(e:∀j (a:j<Z c),j<k->Cr c j c[j]=Y){r}(d:Cr c k c[k]=V r):CH c=r:=by
 unfold CH;rw[Ly c 0 k (λj a f=>by rw[m7];exact e j a f) lc,mu b,m7,EH,d]
def Wk(b:∀j (a:j<Z c),Cr c j c[j]=Y):CH c=match c.findSome? (DX c)with|some r=>r|none=>(0,0):=by
 unfold CH;rw[Ly c 0 (Z c) (λj a _=>by rw[m7];exact b j a) (mt _),List.drop_length,EH]
def Vd{b}{c}(h:Cr b i c=Y):i<12/\Hj c:=by
 unfold Cr at h;split at h
 .cases h
 .rename_i f;split at h
  .cases h
  .split at h
   .cases h
   .rename_i d;refine⟨lc,⟨lc,lc,λp a=>?_⟩⟩;have:BC p=K:=qr
    simpa[BC] using this
def Cf.take{w}{g}{m}{b:kN AW}(h:Cf w (U (V ⟨g,0,Y⟩) (Z b) m) b)(k)(t:k<=Z b):Cf w (U (V ⟨g,0,Y⟩) k m) (qT k b):=by
 refine⟨?_,λc n=>h.j c (ny n)⟩;have f:Z (qT k b)=k:=li
 rw[f];have j:∀(l:kN AW),Z (qS BH l)=Z l*5:=by
  intro l
  induction l with
  |nil=>rfl
  |cons a l ih=>rw[mB,mp,ih,B6,mn];omega
 rcases h.row.2 with⟨d,_⟩|⟨v,u,i,d,_,s,n,o,p,r⟩
 .cases d
 .obtain⟨⟨rfl,_,_⟩,_,rfl⟩:=d;refine⟨by rw[j,f],j3 ⟨g,m,i,rfl,mr _,s,lc,o,p,?_⟩⟩;have e:qS BH b=qS BH (qT k b)++qS BH (b.drop k):=by rw[<-mD,ni]
  have q:i.toList.take (k*5)=qT (k*5) (i.toList.take (Z b*5)):=by rw[pi,oP lc]
  rw[q,r,e,m8 (by rw[j,f];omega),lY (by rw[j,f];omega)]
structure LP(cs:kN AW):Prop where
 len:Z cs<=1000
 body:∀c∈cs,Z c.bl<=1000
 E:∀c∈cs,Z c.E.qH<=1000000
 g:∀c∈cs,∀p∈c.bl,Z p.1.A.qH<=1000000
 atoms:Z (Dz cs)<=900000
 full:∀c∈cs,dW c
def VM{a:kN AW}(h:Cf w (U (V ⟨n,0,Y⟩) (Z a) m) a)(q:Ac [] w v)(b):
  jY v ⟨n,k*5,Y⟩=V (O a[k].E.a)/\jY v ⟨n,k*5+1,Y⟩=V a[k].hv/\jY v ⟨n,k*5+2,Y⟩=V (X J a[k].E.e)/\jY v ⟨n,k*5+3,Y⟩=V a[k].bv/\jY v ⟨n,k*5+4,Y⟩=V (X J a[k].e):=by
 have p:=h.C q;obtain⟨s,r,j,_,d⟩:=Az p.row (λc _=>B6 c) k b;obtain⟨⟨rfl,_,_⟩,_,rfl⟩:=j;have l:=d k b 0 lc;have i:=d k b 1 lc;have e:=d k b 2 lc;have o:=d k b 3 lc;have f:=d k b 4 lc;exact⟨l,i,e,o,f⟩
def VN{c}(h:XG w c)(b):∃a e,c.bv=U (V ⟨a,0,Y⟩) (Z c.bl) e/\
  jY w ⟨a,m*9,Y⟩=V (X .u8 c.bl[m].1.b.toNat)/\jY w ⟨a,m*9+1,Y⟩=V (O c.bl[m].1.A.a)/\jY w ⟨a,m*9+2,Y⟩=V c.bl[m].2/\jY w ⟨a,m*9+3,Y⟩=V (X J c.bl[m].1.A.e)/\
  jY w ⟨a,m*9+4,Y⟩=V (X .u8 c.bl[m].1.L.v.toNat)/\jY w ⟨a,m*9+5,Y⟩=V (O c.bl[m].1.L.s)/\jY w ⟨a,m*9+6,Y⟩=V (X .u8 c.bl[m].1.R.v.toNat)/\jY w ⟨a,m*9+7,Y⟩=V (O c.bl[m].1.R.s)/\jY w ⟨a,m*9+8,Y⟩=V (X J c.bl[m].1.e):=by
 obtain⟨a,e,r,_,d⟩:=Az h.body (λp _=>B4 p) m b;have j:=d m b 0 lc;have k:=d m b 1 lc;have f:=d m b 2 lc;have i:=d m b 3 lc;have g:=d m b 4 lc;have l:=d m b 5 lc;have o:=d m b 6 lc;have n:=d m b 7 lc;have q:=d m b 8 lc;exact⟨a,e,r,j,k,f,i,g,l,o,n,q⟩
def Yj{a:kN AW}(g)(e:∀j (b:j<Z a),j<k->Cr a j a[j]=Y)(f:Hj a[k]):∀c∈qT (k+1) a,Hj c:=by
 intro c d;obtain⟨j,b,rfl⟩:=List.mem_iff_getElem.1 d;simp at b;rw[po];by_cases h:j<k
 .exact(Vd (e j lc h)).2
 .have:j=k:=by omega
  subst this;exact f
structure KW(w0:jH) where
 wk:jH
 C:Ac [] w0 wk
theorem KW.some(a):Nonempty (KW a):=⟨⟨a,kR _ _⟩⟩
def KC{w w0}{l:kN Oper}(d:P.follows .mixedOrders=T6)(f:Region.lexB .any (Za l)=T6)(c:Ac [] w0 w)(h:wpQuiet P (Za l) (λb=>∃n:KW w0,b=n.wk) (λe=>∀b,(∃n:KW w0,b=n.wk)->Q .normal e b) l a):(Code.region m (Za l) T6).wp P Q a w:=
 wp_region_quiet (C:=λb=>∃n:KW w0,b=n.wk) d f ⟨⟨_,c.drew⟩,rfl⟩ lc
def rE.zr{f}{b}{n:KW w}(h:rE P f b n.wk λe a=>e=j1 z/\Ac [] n.wk a):rE P f b n.wk λe c=>e=j1 z/\∃m:KW w,c=m.wk:=
 h.G λ_ a ⟨he,hk⟩=>⟨he,⟨⟨a,n.C.H hk⟩,rfl⟩⟩
theorem cF(pb lv b w)(hP:AF w pb [lv] 76)(hR:Cf w lv b)(hF:LP b):rE rF 45 #[jj (V ⟨pb,0,Y⟩)] w λe w'=>e=j1 (.tuple #[X J (CH b).1,X J (CH b).2])/\Ac [] w w':=by
 obtain⟨ad,FO,rfl⟩:=Aj hR.row;obtain⟨R,KS⟩:=kQ (CH b);rw[KS];have d:jV (Cf w (U ad (Z b) FO) b/\LP b/\CH b=R):=⟨hR,hF,KS⟩;have WS:=hF.len;clear hR hF KS;go_enter func45,ntmps45;go_wp2
 go_loopw [4] (λi wr=>∃k:Nat,i=X J k/\k<=Z b/\jV (∀j (hj:j<Z b),j<k->Cr b j b[j]=Y)/\Ac [] w wr) (λi _=>Z b-(rG i).toNat)
 case atStart=>exact⟨0,rfl,mr _,λj hj h=>lc,kR _ _⟩
 case round=>
  obtain⟨k,rfl,hk,HC,y⟩:=hrel;have G:=(hP.C y).D 0;simp at G;by_cases Ax:k<Z b
  .obtain⟨g,ST,he,RV,MB⟩:=Az d.o.1.row (λc _=>B6 c) k Ax;clear MB;simp only[lU]at he;obtain⟨rfl,_,rfl⟩:=he;obtain⟨c0,c1,c2,c3,c4⟩:=VM d.o.1 y Ax;have f:=(d.o.1.C y).j b[k] (lV Ax);obtain⟨HF,HD,H5⟩:=Aj f.qH;obtain⟨FB,EX,BT⟩:=Aj f.body;rw[H5]at c1;rw[BT]at c3;obtain⟨c,M⟩:=kQ (b[k]);rw[M]at c0 c1 c2 c3 c4 H5 BT;have u:jV (b[k]=c/\c.hv=U HF (Z c.E.qH) HD/\c.bv=U FB (Z c.bl) EX):=⟨M,H5,BT⟩;(have TL:Z c.bl<=1000:=by have:=d.o.2.1.body b[k] (lV Ax);rw[M]at this;exact this);(have RO:Z c.E.qH<=1000000:=by have:=d.o.2.1.E b[k] (lV Ax);rw[M]at this;exact this);have BS:jV (∀r,Cr b k c=V r->R=r):=by
    intro r hr;rw[<-d.o.2.2];exact ZC Ax HC.o (by rw[M];exact hr)
   clear f H5 BT M;by_cases h1:12<=k\/3<Z c.bl
   .have t:jV (R=(3,(c.e:Int))):=BS.o _ (by unfold Cr;rw[mo h1]);by_cases aa:12<=k
    ·have X2:(12:Int)<=(k:Int):=lc;clear h1;go_wp2_with fail
     go_quiet (fail)
     (go_wp2_with fail);go_ret2;rw[t.o];exact⟨rfl,(y.alloc _).drewN _⟩
    ·have h3:(3:Int)<(Z c.bl:Int):=lc;clear h1;go_wp2_with fail
     go_quiet (fail)
     (go_wp2_with fail);go_ret2;rw[t.o];exact⟨rfl,(y.alloc _).drewN _⟩
   ·have al:k<12:=lc;have S1:Z c.bl<=3:=lc;by_cases h2:2<Z c.E.qH
    .have t:jV (R=(3,(c.e:Int))):=BS.o _ (by unfold Cr;rw[mm h1,mo h2]);clear h1;go_wp2_with fail
     go_quiet (fail)
     (go_wp2_with fail);go_ret2;rw[t.o];exact⟨rfl,(y.alloc _).drewN _⟩
    ·have VR:Z c.E.qH<=2:=lc;have B:jV (¬(12<=k\/3<Z c.bl)/\¬2<Z c.E.qH):=⟨h1,h2⟩;clear h1 h2;(go_wp2_with fail);have W:=kS wr [O c.E.a,U HF (Z c.E.qH) HD,X J c.E.e,U FB (Z c.bl) EX,X J c.e] 82;have Go:=y.alloc (Y6 #[O c.E.a,U HF (Z c.E.qH) HD,X J c.E.e,U FB (Z c.bl) EX,X J c.e] 82);have U0:=y.size;clear G c0 c1 c2 c3 c4 y;generalize wr.alloc (Y6 #[O c.E.a,U HF (Z c.E.qH) HD,X J c.E.e,U FB (Z c.bl) EX,X J c.e] 82)=w1 at W Go|-;generalize wr.heap.size=N at W U0|-;obtain⟨q0,q1,H,q3,q4⟩:=W.c5;simp at q0 q1 H q3 q4
     go_loop [6] (λi=>∃m:Nat,i=X J m/\m<=Z c.bl/\jV ((c.bl.take m).any BC=K)) (λi=>Z c.bl-(rG i).toNat)
     case atStart=>exact⟨0,rfl,mr _,se⟩
     case round=>
      obtain⟨m,rfl,hm,I⟩:=hrel;by_cases z:m<Z c.bl
      .have f:=(d.o.1.C Go).j b[k] (lV Ax);rw[u.o.1]at f;obtain⟨gb,NB,P,d0,d1,d2,d3,d4,d5,d6,d7,d8⟩:=VN f z;rw[u.o.2.2]at P;simp only[lU]at P;obtain⟨rfl,_,rfl⟩:=P;obtain⟨AH,AB,B9⟩:=Aj (f.g c.bl[m] (lV z));rw[B9]at d2;clear d0 d1 d3 d4 d5 d6 d7 d8 f B9;by_cases QQ:2<c.bl[m].1.A.qH.length
       .have t:jV (R=(3,(c.e:Int))):=BS.o _ (by unfold Cr;rw[mm B.o.1,mm B.o.2,mo (KG _ _ m z (by simpa[BC] using QQ))]);go_wp2_with fail
        go_quiet (fail)
        (go_wp2_with fail);go_ret2;rw[t.o];exact⟨rfl,Go.drewN _⟩
       ·(have F:jV ((c.bl.take (m+1)).any BC=K):=by show _=_;rw[Dm _ _ m z I.o];simpa[BC] using QQ);go_wp2_with fail
        go_round
        case rel=>exact⟨m+1,ly,lc,F⟩
        case measure=>simp[rG];omega
      ·(have FF:jV (c.bl.any BC=K):=by have h:=I.o;rwa [lY lc]at h);clear I;have G:=(hP.C Go).D 0;simp at G;have ab:(k:Int)+1<=(FO:Int):=lc;have N4:jV (∀c'∈qT (k+1) b,Hj c'):=by
        refine Yj Ax HC.o ?_;rw[u.o.1];refine⟨S1,VR,λp hp=>?_⟩;cases hmm:BC p with
        |false=>simpa[BC] using hmm
        |true=>(have:c.bl.any BC=T6:=by rw[nD];exact⟨p,hp,hmm⟩);rw[FF.o]at this;cases this
       (go_wp2_with fail);clear z hm;have C:=kS w1 [U (V ⟨g,0,Y⟩) (k+1) FO] 76;have H3:=Go.alloc (Y6 #[U (V ⟨g,0,Y⟩) (k+1) FO] 76);have K4:=W.alloc (Y6 #[U (V ⟨g,0,Y⟩) (k+1) FO] 76);have TV:=W.lt;clear G q0 q1 H q3 q4 W Go;generalize w1.alloc (Y6 #[U (V ⟨g,0,Y⟩) (k+1) FO] 76)=w2 at C H3 K4|-;generalize w1.heap.size=Nq at C TV|-;have af:Z (qT (k+1) b)=k+1:=li;have IJ:=(d.o.1.C H3).take (k+1) lc;refine(dI Nq _ (qT (k+1) b) _ C IJ lc N4).G ?_;rintro e w3 ⟨v3,rfl,NN,HL⟩;obtain⟨WB,WW,rfl⟩:=Aj NN;have K2:=H3.H HL;have JA:=K4.C HL;have NX:=C.C HL;have N2:=IJ.C HL;obtain⟨nn,MN⟩:=kQ (Z (EA (qT (k+1) b)));have Op:=Ab MN;rw[MN];clear NN HL K4 C IJ H3 MN;have q4:=JA.D 4;simp at q4;by_cases TT:6<nn
       .have t:jV (R=(3,(c.e:Int))):=BS.o _ (by unfold Cr;rw[mm B.o.1,mm B.o.2,mm (by rw[FF.o];exact oz),mo (j2 (by rw[Aa Op];exact TT))]);go_wp2_with fail
        go_quiet (fail)
        (go_wp2_with fail);go_ret2;rw[t.o];exact⟨rfl,K2.drewN _⟩
       ·(go_wp2_with fail);refine(RW Nq _ (qT (k+1) b) _ NX N2 lc N4 (λc' HJ=>d.o.2.1.full c' (ny HJ))).G ?_;rintro e w4 ⟨v4,rfl,NE,Ix⟩;obtain⟨YP,ZV,rfl⟩:=Aj NE;have H4:=K2.H Ix;have Ha:=JA.C Ix;obtain⟨nt,LB⟩:=kQ (Z (Bh (qT (k+1) b)));have Nj:=Ab LB;rw[LB];clear NE Ix JA NX N2 K2 LB q4;have q0:=Ha.D 0;have q1:=Ha.D 1;have H:=Ha.D 2;have q4:=Ha.D 4;simp at q0 q1 H q4;by_cases SB:6<nt
        .have t:jV (R=(3,(c.e:Int))):=BS.o _ (by unfold Cr;rw[mm B.o.1,mm B.o.2,mm (by rw[FF.o];exact oz),mo (j3 (by rw[Aa Nj];exact SB))]);go_wp2_with fail
         go_quiet (fail)
         (go_wp2_with fail);go_ret2;rw[t.o];exact⟨rfl,H4.drewN _⟩
        .have H1:jV (¬(6<Z (EA (qT (k+1) b))\/6<Z (Bh (qT (k+1) b)))):=by
          show¬_;rw[Aa Op,Aa Nj];omega
         obtain⟨ar,M2⟩:=kQ (BQ b c.E.a);have KD:=Ab M2;have NV:=(hP.C H4).drew;have KK:=H4.drew;have HO:jV (Z b<=1000000/\(∀c∈b,Z c.bl<=1000000)/\(∀c∈b,∀p∈c.bl,Z p.1.A.qH<=1000000)):=⟨lc,λc' HJ=>by have:=d.o.2.1.body c' HJ;omega,d.o.2.1.g⟩;clear M2;go_wp2_with fail
         go_region_held3 (λw'=>jY w' ⟨N,0,Y⟩=V (O c.E.a)/\jY w' ⟨N,1,Y⟩=V (U HF (Z c.E.qH) HD)) (go_keep) (first|(go_at_call 23;refine(Mb pb _ b c.E.a _ (by exact NV) (by exact d.o.1.C KK) HO.o.1 HO.o.2.1).G ?_;rintro e w5 ⟨rfl,KB⟩;rw[Aa KD];have HB:=Ha.drew.C KB;obtain⟨r0,r1⟩:=HB.c2;simp at r0 r1))
         have H6:=KK.H KB;clear NV KK H4 Ha q0 q1 H q4 KB r0 r1;have H:=HB.D 2;have q3:=HB.D 3;simp at H q3;by_cases S:ar=(Z c.E.qH:Int)
         ·(have M1:(ar !=(Z c.E.qH:Int))=K:=by simp[S]);(have IS:jV (¬BQ b c.E.a≠(Z c.E.qH:Int)):=by show¬_;rw[Aa KD];simp[S]);clear S;go_wp2_with fail
          go_loopw [8] (λi wq=>∃m:Nat,i=X J m/\m<=Z c.bl/\jV ((c.bl.take m).any (Ci b)=K)/\Ac [] w wq/\AF wq N [O c.E.a,U HF (Z c.E.qH) HD,X J c.E.e,U FB (Z c.bl) EX,X J c.e] 82) (λi _=>Z c.bl-(rG i).toNat)
          case atStart=>exact⟨0,rfl,mr _,se,H6,HB⟩
          case round=>
           clear H q3 HB H6 M1;obtain⟨m,rfl,hm,I,D,C⟩:=hrel;have Wa:=C.lt;obtain⟨q0,q1,H,q3⟩:=C.c4;simp at q0 q1 H q3;have f:=(d.o.1.C D).j b[k] (lV Ax);rw[u.o.1]at f;by_cases z:m<Z c.bl
           .obtain⟨gb,NB,P,d0,d1,d2,d3,d4,d5,d6,d7,d8⟩:=VN f z;rw[u.o.2.2]at P;simp only[lU]at P;obtain⟨rfl,_,rfl⟩:=P;obtain⟨AH,AB,B9⟩:=Aj (f.g c.bl[m] (lV z));rw[B9]at d2;clear f B9;obtain⟨a,Q⟩:=kQ (c.bl[m]);rw[Q]at d0 d1 d2 d3 d4 d5 d6 d7 d8;have HY:jV (Ci b a=T6->R=(4,(a.1.A.e:Int))):=by
             intro ho;refine BS.o _ ?_;unfold Cr;rw[mm B.o.1,mm B.o.2,mm (by rw[FF.o];exact oz),mm H1.o,mm IS.o,FV _ _ m z I.o (by rw[Q];exact ho),Q]
            have F:jV (Ci b a=K->(c.bl.take (m+1)).any (Ci b)=K):=by
             intro ho;rw[Dm _ _ m z I.o,Q];exact ho
            clear Q;(go_wp2_with fail);clear d0 d1 d2 d3 d4 d5 d6 d7 d8 q0 q1 H q3;have l:=kS wr [X .u8 a.1.b.toNat,O a.1.A.a,U AH (Z a.1.A.qH) AB,X J a.1.A.e,X .u8 a.1.L.v.toNat,O a.1.L.s,X .u8 a.1.R.v.toNat,O a.1.R.s,X J a.1.e] 95;have HI:=C.alloc (Y6 #[X .u8 a.1.b.toNat,O a.1.A.a,U AH (Z a.1.A.qH) AB,X J a.1.A.e,X .u8 a.1.L.v.toNat,O a.1.L.s,X .u8 a.1.R.v.toNat,O a.1.R.s,X J a.1.e] 95);have o:=D.alloc (Y6 #[X .u8 a.1.b.toNat,O a.1.A.a,U AH (Z a.1.A.qH) AB,X J a.1.A.e,X .u8 a.1.L.v.toNat,O a.1.L.s,X .u8 a.1.R.v.toNat,O a.1.R.s,X J a.1.e] 95);clear C D;generalize wr.alloc (Y6 #[X .u8 a.1.b.toNat,O a.1.A.a,U AH (Z a.1.A.qH) AB,X J a.1.A.e,X .u8 a.1.L.v.toNat,O a.1.L.s,X .u8 a.1.R.v.toNat,O a.1.R.s,X J a.1.e] 95)=w6 at l HI o|-;generalize wr.heap.size=Nx at l Wa|-;obtain⟨x0,x1,x2,x3⟩:=l.c4;simp at x0 x1 x2 x3;obtain⟨HG,HW⟩:=kQ (BQ b a.1.A.a);have K7:=Ab HW;have LC:=(hP.C o).drew;have L0:=o.drew;rcases EZ a with⟨k1,k3⟩|⟨k1,k2,k3⟩|⟨k1,k2,k3⟩
            rotate_right 1
            .have FT:=Ab (F.o (by simp[Ci,k3]));clear HY F k3 HW LC L0
             go_quiet (fail)
             go_wp2_with fail
             go_roundw
             case rel=>exact⟨m+1,ly,lc,FT,o.drewN _,HI.drewN _⟩
             case measure=>simp[rG];omega
            all_goals
             (have y0:∀n:KW w6,jY n.wk ⟨Nx,0,Y⟩=V (X .u8 a.1.b.toNat):=λn=>(l.C n.C).D 0);(have y1:∀n:KW w6,jY n.wk ⟨Nx,1,Y⟩=V (O a.1.A.a):=λn=>(l.C n.C).D 1);(have y2:∀n:KW w6,jY n.wk ⟨Nx,2,Y⟩=V (U AH (Z a.1.A.qH) AB):=λn=>(l.C n.C).D 2);have HS:jV (∀n:KW w6,rE rF 23 #[jj (V ⟨pb,0,Y⟩),O a.1.A.a] n.wk λe LL=>e=j1 (X J HG)/\∃m:KW w6,LL=m.wk):=by
              intro n;have h:=Mb pb _ b a.1.A.a n.wk (hP.C (o.H n.C)) (d.o.1.C (o.H n.C)) HO.o.1 HO.o.2.1;rw[Aa K7]at h;exact rE.zr h
             clear x0 x1 x2;have UO:=KW.some w6;refine KC (w0:=w6) lo lo (kR _ _) ?_
             repeat (go_big_quiet_step ((go_at_call 23;exact HS _)))
             refine wpQuiet_nil ?_;intro _ JJ;obtain⟨⟨w7,E⟩,LS⟩:=JJ;subst LS
             try simp only
             clear y0 y1 y2 HS;have CL:=o.H E;have U1:=HI.C E;have TS:=(l.C E).D 3;simp at TS;by_cases S:HG=(Z a.1.A.qH:Int)
             ·(have Mo:(HG !=(Z a.1.A.qH:Int))=K:=by simp[S]);have FT:=Ab (F.o (by simp only[Ci,k3,Aa K7,Mo,pF]));clear HY F k3 HW LC L0 x3 l HI o E S;go_wp2_with fail
              go_roundw
              case rel=>exact⟨m+1,ly,lc,FT,CL,U1⟩
              case measure=>simp[rG];omega
             ·(have Mo:(HG !=(Z a.1.A.qH:Int))=T6:=by simp[S]);have t:jV (R=(4,(a.1.A.e:Int))):=HY.o (by simp only[Ci,k3,Aa K7,Mo,oY]);clear HY F k3 HW LC L0 x3 l HI o E S;go_wp2_with fail
              go_quiet (fail)
              (go_wp2_with fail);go_ret2;rw[t.o];exact⟨rfl,CL.drewN _⟩
           .have RE:jV (c.bl.find? (Ci b)=Y):=by
             have h:=I.o;rw[lY lc]at h;show _=_;rw[ol];intro x hx hf;(have:c.bl.any (Ci b)=T6:=by rw[nD];exact⟨x,hx,hf⟩);rw[h]at this;cases this
            have T:=XX c.E c.hv c.bv c.bl _ f.qH f.body f.g lc (λp hp=>by have:=HO.o.2.2 b[k] (lV Ax) p (by rw[u.o.1];exact hp);exact this) RO;rw[u.o.2.1,u.o.2.2]at T;simp only[CN]at T;have HT:=Ab T;obtain⟨sf,RI⟩:=kQ (D4 c.E c.bl);have H7:=Ab RI;(have VS: -1<=sf/\sf<=9223372036854775806->True:=λ_=>trivial);clear VS T f RI;(go_wp2_with fail);refine HT.G ?_;rintro e w7 ⟨rfl,E⟩;rw[Aa H7];have CL:=D.H E;clear HT E D C q0 q1 H q3;by_cases NS:0<=sf
            .have t:jV (R=(5,sf)):=BS.o _ (by unfold Cr;rw[mm B.o.1,mm B.o.2,mm (by rw[FF.o];exact oz),mm H1.o,mm IS.o,RE.o];simp only;rw[Aa H7,mo NS]);(go_wp2_with fail);go_ret2;rw[t.o];exact⟨rfl,CL⟩
            .have SS:jV (∀j (hj:j<Z b),j<k+1->Cr b j b[j]=Y):=by
              intro j hj XS;by_cases TH:j<k
              .exact HC.o j hj TH
              ·(have:j=k:=by omega);subst this;rw[u.o.1];unfold Cr;rw[mm B.o.1,mm B.o.2,mm (by rw[FF.o];exact oz),mm H1.o,mm IS.o,RE.o];simp only;rw[Aa H7,mm NS]
             go_wp2_with fail
             go_roundw
             case rel=>exact⟨k+1,ly,lc,SS,CL⟩
             case measure=>simp[rG];omega
         ·(have M1:(ar !=(Z c.E.qH:Int))=T6:=by simp[S]);have t:jV (R=(4,(c.E.e:Int))):=BS.o _ (by unfold Cr;rw[mm B.o.1,mm B.o.2,mm (by rw[FF.o];exact oz),mm H1.o,mo (by rw[Aa KD];exact S)]);clear S;go_wp2_with fail
          go_quiet (fail)
          (go_wp2_with fail);go_ret2;rw[t.o];exact⟨rfl,H6.drewN _⟩
  .have RB:jV (R=match b.findSome? (DX b)with|some r=>r|none=>(0,0)):=by
    rw[<-d.o.2.2];exact Wk (λj hj=>HC.o j hj lc)
   have LE:jV (Z b<=1000000/\(∀c∈b,Z c.bl<=1000000)/\Z (Dz b)<=900000):=⟨lc,λc' HJ=>by have:=d.o.2.1.body c' HJ;omega,d.o.2.1.atoms⟩;clear HC;(go_wp2_with fail);clear G
   go_loopw [11] (λi wr=>∃q:Nat,i=X J q/\q<=Z b/\jV ((qT q b).findSome? (DX b)=Y)/\Ac [] w wr) (λi _=>Z b-(rG i).toNat)
   case atStart=>exact⟨0,rfl,mr _,se,y⟩
   case round=>
    clear y;obtain⟨q,rfl,hq,HQ,y⟩:=hrel;have G:=(hP.C y).D 0;simp at G;by_cases BA:q<Z b
    .obtain⟨g,ST,he,RV,MB⟩:=Az d.o.1.row (λc _=>B6 c) q BA;clear MB;simp only[lU]at he;obtain⟨rfl,_,rfl⟩:=he;have N0:=d.o.1.j b[q] (lV BA);obtain⟨FB,EX,BT⟩:=Aj N0.body;obtain⟨c,M⟩:=kQ (b[q]);rw[M]at BT;have u:jV (b[q]=c/\c.bv=U FB (Z c.bl) EX):=⟨M,BT⟩;(have TL:Z c.bl<=1000:=by have:=d.o.2.1.body b[q] (lV BA);rw[M]at this;exact this);clear N0 BT M;(go_wp2_with fail);clear G
     go_loopw [12] (λi wq=>∃m:Nat,i=X J m/\m<=Z c.bl/\jV ((c.bl.take m).any (Fg b c)=K)/\Ac [] w wq) (λi _=>Z c.bl-(rG i).toNat)
     case atStart=>exact⟨0,rfl,mr _,se,y⟩
     case round=>
      clear y;obtain⟨m,rfl,hm,I,D⟩:=hrel;have G:=(hP.C D).D 0;simp at G;obtain⟨c0,_,_,c3,_⟩:=VM d.o.1 D BA;rw[u.o.1]at c0 c3;rw[u.o.2]at c3;have f:=(d.o.1.C D).j b[q] (lV BA);rw[u.o.1]at f;by_cases z:m<Z c.bl
      .obtain⟨gb,NB,P,d0,d1,d2,d3,d4,d5,d6,d7,d8⟩:=VN f z;rw[u.o.2]at P;simp only[lU]at P;obtain⟨rfl,_,rfl⟩:=P;obtain⟨AH,AB,B9⟩:=Aj (f.g c.bl[m] (lV z));rw[B9]at d2;clear f B9;obtain⟨a,Q⟩:=kQ (c.bl[m]);rw[Q]at d0 d1 d2 d3 d4 d5 d6 d7 d8;have HY:jV (Fg b c a=T6->R=(6,(a.1.e:Int))):=by
        intro ho;have h1:DX b b[q]=V (6,(a.1.e:Int)):=by
         unfold DX;rw[u.o.1,FV _ _ m z I.o (by rw[Q];exact ho),Q];rfl
        rw[RB.o,Hp _ _ q BA HQ.o h1]
       have F:jV (Fg b c a=K->(c.bl.take (m+1)).any (Fg b c)=K):=by
        intro ho;rw[Dm _ _ m z I.o,Q];exact ho
       clear Q;have Jx:((a.1.b.toNat:Int)==33)=(a.1.b==33):=Cu _ 33;cases hkd:(a.1.b==33)with
       |false=>
        rw[hkd]at Jx;have FT:=Ab (F.o (by simp[Fg,hkd]));clear HY F hkd;go_wp2_with fail
        go_roundw
        case rel=>exact⟨m+1,ly,lc,FT,D.alloc _⟩
        case measure=>simp[rG];omega
       |true=>
        rw[hkd]at Jx;(go_wp2_with fail);clear d0 d1 d2 d3 d4 d5 d6 d7 d8 G c0 c3 Jx;have l:=kS wr [X .u8 a.1.b.toNat,O a.1.A.a,U AH (Z a.1.A.qH) AB,X J a.1.A.e,X .u8 a.1.L.v.toNat,O a.1.L.s,X .u8 a.1.R.v.toNat,O a.1.R.s,X J a.1.e] 95;have o:=D.alloc (Y6 #[X .u8 a.1.b.toNat,O a.1.A.a,U AH (Z a.1.A.qH) AB,X J a.1.A.e,X .u8 a.1.L.v.toNat,O a.1.L.s,X .u8 a.1.R.v.toNat,O a.1.R.s,X J a.1.e] 95);clear D;generalize wr.alloc (Y6 #[X .u8 a.1.b.toNat,O a.1.A.a,U AH (Z a.1.A.qH) AB,X J a.1.A.e,X .u8 a.1.L.v.toNat,O a.1.L.s,X .u8 a.1.R.v.toNat,O a.1.R.s,X J a.1.e] 95)=w6 at l o|-;generalize wr.heap.size=Nx at l|-;(have y1:∀n:KW w6,jY n.wk ⟨Nx,1,Y⟩=V (O a.1.A.a):=λn=>(l.C n.C).D 1);(have y2:∀n:KW w6,jY n.wk ⟨pb,0,Y⟩=V (U (V ⟨g,0,Y⟩) (Z b) FO):=λn=>(hP.C (o.H n.C)).D 0);(have y3:∀n:KW w6,jY n.wk ⟨g,q*5,Y⟩=V (O c.E.a):=λn=>by have h:=(VM d.o.1 (o.H n.C) BA).1;rw[u.o.1]at h;exact h);obtain⟨rb,QR⟩:=kQ (In b a.1.A.a c.E.a);have H9:=Ab QR;have HS:jV (∀n:KW w6,rE rF 85 #[jj (V ⟨pb,0,Y⟩),O a.1.A.a,O c.E.a] n.wk λe LL=>e=j1 (kx rb)/\∃m:KW w6,LL=m.wk):=by
         intro n;have h:=V0 pb _ b a.1.A.a c.E.a n.wk (hP.C (o.H n.C)) (d.o.1.C (o.H n.C)) LE.o.1 LE.o.2.1 LE.o.2.2;rw[Aa H9]at h;exact rE.zr h
        have W1:(q:Int)<(Z b:Int):=lc;clear QR;have UO:=KW.some w6;refine KC (w0:=w6) lo lo (kR _ _) ?_
        repeat (go_big_quiet_step ((go_at_call 85;exact HS _)))
        refine wpQuiet_nil ?_;intro _ JJ;obtain⟨⟨w7,E⟩,LS⟩:=JJ;subst LS
        try simp only
        clear y1 y2 y3 HS;have CL:=o.H E;have x8:=(l.C E).D 8;simp at x8;cases rb with
        |true=>
         have t:jV (R=(6,(a.1.e:Int))):=HY.o (by simp only[Fg,hkd,Aa H9,oY]);clear HY F hkd l o E;go_wp2_with fail
         go_quiet (fail)
         (go_wp2_with fail);go_ret2;rw[t.o];exact⟨rfl,CL.drewN _⟩
        |false=>
         have FT:=Ab (F.o (by simp only[Fg,hkd,Aa H9,pF]));clear HY F hkd l o E;go_wp2_with fail
         go_roundw
         case rel=>exact⟨m+1,ly,lc,FT,CL⟩
         case measure=>simp[rG];omega
      .have HZ:jV ((qT (q+1) b).findSome? (DX b)=Y):=by
        have h:=I.o;rw[lY lc]at h;show _=_;rw[Gv _ _ q BA HQ.o,u.o.1];unfold DX;have:c.bl.find? (Fg b c)=Y:=by
         rw[ol];intro x hx hf;(have:c.bl.any (Fg b c)=T6:=by rw[nD];exact⟨x,hx,hf⟩);rw[h]at this;cases this
        rw[this];rfl
       go_wp2_with fail
       go_roundw
       case rel=>exact⟨q+1,ly,lc,HZ,D⟩
       case measure=>simp[rG];omega
    .have HE:jV (R=(0,0)):=by
      have h:=HQ.o;rw[lY lc]at h;show _=_;rw[RB.o,h]
     (go_wp2_with fail);go_ret2;rw[HE.o];exact⟨rfl,y⟩
def Ao(s:bN)(at_:Nat):kN Cv×Nat×rD:=
 if h:at_<s.size then
  if h2:(An s at_).2.2=K/\at_<AS s (An s at_).2.1 (An s at_).2.2 then
   ((An s at_).1::(Ao s (AS s (An s at_).2.1 (An s at_).2.2)).1,(Ao s (AS s (An s at_).2.1 (An s at_).2.2)).2)
  else([(An s at_).1],AS s (An s at_).2.1 (An s at_).2.2,(An s at_).2.2)
 else([],at_,K)
def Fr(s:bN)(a:Nat)(bd:rD):kN Cv×Nat×rD:=if bd then([],a,T6)else Ao s a
def MP{c}(e:n<s.size)(b:An s n=(c,m,B)):
  Ao s n=(c::(Fr s (AS s m B) B).1,(Fr s (AS s m B) B).2):=by
 conv=>lhs;rw[Ao]
 rw[dif_pos e];cases B with
 |true=>rw[b];rfl
 |false=>
  have d:=Q9 (s:=s) (at_:=n) (by rw[b]);have f:=KN s m K;rw[dif_pos qy,b];rfl
def NP(b:¬n<s.size):Ao s n=([],n,K):=by
 rw[Ao,dif_neg b]
def VZ(s:bN)(t:AK):Prop:=t.v=0->0<t.s.size/\t.s.size<=s.size
def J7(s:bN)(i j)(h:j<=s.size):(s.extract i j).size=j-i:=by
 rw[nT,oP h]
def Ye(h:(A9 s n K).2.2=K)(d:n<=s.size):0<(A9 s n K).1.size/\(A9 s n K).1.size<=s.size:=by
 have c:=BI s n d;have a:=C5 AC s _ c;have e:=Cz AC s (Af s n);unfold A9 at h|-;simp at h|-;split at h
 .cases h
 .rename_i b;simp only[b,rm];exact li
def Kz(h:(AN s n K).2.2=K)(j:n<=s.size):VZ s (AN s n K).1:=by
 have e:=BI s n j;intro a;unfold AN at h a|-;simp only[ma,rm]at h a|-;split at h
 .rename_i d;simp only[d,dite_true]at a|-;split at h
  .rename_i b;simp only[b,ro]at a;rw[a]at b;exact rl b lu
  .rename_i b;simp only[b,rm,ma]at a|-;split at h
   .rename_i c;simp only[c,ro];exact Ye h e
   .rename_i c;simp only[c,rm,ma];split at h
    .cases h
    .rename_i i;simp only[i,rm];have f:=C5 Aq s _ e;(have g:Aq s[Af s n]=T6:=by simpa using c);have l:=Ct Aq s _ d g;have k:=Cz Aq s (Af s n+1);exact li
 .cases h
def YB(s a)(d:a<=s.size):Z (CO s a).1<=s.size-a+1/\((CO s a).2.2=K->∀t∈(CO s a).1,VZ s t):=by
 fun_induction CO s a with
 |case1 a hc _ _ ih=>
  have f:=Ec s _ (AN s a K).2.2 44 (Gh s a K d);obtain⟨h,g⟩:=ih f;refine⟨li,λc t b=>?_⟩;rcases l9.1 b with rfl|b
  .have e:(AN s a K).2.2=K:=qr
   exact Kz e d
  .exact g c t b
 |case2 a hc=>
  refine⟨ln,λc t b=>?_⟩;simp at b;subst b;exact Kz c d
def RQ(s p)(a:p.1<=s.size):Z (Ez s p).1<=s.size+1/\((Ez s p).2.2=K->∀t∈(Ez s p).1,VZ s t):=by
 unfold Ez;split
 .exact ln
 .have h:=YB s p.1 a;exact⟨lc,h.2⟩
def iu(s:bN)(a:Dp):Prop:=∀t∈a.qH,VZ s t
def Pk(s a c)(b:a<=s.size):Z (A5 s a c).1.qH<=s.size+1:=by
 exact(RQ s _ (Ec _ _ _ _ (IN _ _ _ (G3 _ _ _ b)))).1
def TC(h:(BM s n B g).2=K):B=K:=by
 unfold BM at h;cases B<;>simp_all
def Nf(h:(A5 s n B).2.2=K)(a:n<=s.size):iu s (A5 s n B).1:=by
 exact(RQ s _ (Ec _ _ _ _ (IN _ _ _ (G3 _ _ _ a)))).2 (TC h)
structure ed(s:bN)(x:Bt):Prop where
 atom:iu s x.A
 left:(x.b==97||x.b==33)=K->VZ s x.L
 right:(x.b==97||x.b==33)=K->VZ s x.R
def Xu(s a)(c:a<=s.size):Z (DO s a).1.A.qH<=s.size+1:=by
 have b:=BI s a c;unfold DO;simp only;split
 .rename_i d;have:=Gc d;exact Pk s _ _ lc
 .split
  .exact Pk s _ _ b
  .unfold Jh;split<;>simp[Hg]
def TI(h:(DO s n).2.2=K)(i:n<=s.size):ed s (DO s n).1:=by
 have f:=BI s n i;unfold DO at h|-;simp only at h|-;split at h
 .rename_i c;simp only[c,ro];have:=Gc c;exact⟨Nf h lc,λa=>sF,λa=>sF⟩
 .rename_i c;simp only[c,ma,rm];split at h
  .rename_i d;simp only[d,ro];exact⟨Nf h f,λa=>sF,λa=>sF⟩
  .rename_i d;simp only[d,ma,rm];unfold Jh at h|-;split at h
   .rename_i b;simp only[b,ro];simp at b;have j:AS s (AN s (Af s n) K).2.1 (AN s (Af s n) K).2.2<s.size:=by
     rcases b.2 with(e|e)|e<;>exact Gc e
    exact⟨λt g=>by simp[Hg]at g,λ_=>Kz b.1 f,λ_=>Kz h lc⟩
   .cases h
def Kx(s a)(c:a<=s.size):Z (By s a).1<=s.size-a+1/\(∀x∈(By s a).1,Z x.A.qH<=s.size+1)/\((By s a).2.2=K->∀x∈(By s a).1,ed s x):=by
 fun_induction By s a with
 |case1 a hc _ _ ih=>
  have g:=Ec s _ (DO s a).2.2 44 (MD s a c);obtain⟨i,h,f⟩:=ih g;refine⟨li,λx b=>?_,λd x b=>?_⟩
  .rcases l9.1 b with rfl|b
   .exact Xu s a c
   .exact h x b
  .rcases l9.1 b with rfl|b
   .have e:(DO s a).2.2=K:=qr
    exact TI e c
   .exact f d x b
 |case2 a hc=>
  refine⟨ln,λx b=>?_,λd x b=>?_⟩
  .simp at b;subst b;exact Xu s a c
  .simp at b;subst b;exact TI d c
structure d9(s:bN)(c:Cv):Prop where
 E:iu s c.E
 body:∀x∈c.body,ed s x
structure kJ(s:bN)(c:Cv):Prop where
 E:Z c.E.qH<=s.size+1
 body:Z c.body<=s.size+1
 g:∀x∈c.body,Z x.A.qH<=s.size+1
def Q4(s c a)(j:c<=s.size):Z (Eg s c a).1<=s.size+1/\(∀x∈(Eg s c a).1,Z x.A.qH<=s.size+1)/\((Eg s c a).2.2=K->a=K/\∀x∈(Eg s c a).1,ed s x):=by
 unfold Eg;split
 .split
  .rename_i b;have i:=Gc b;obtain⟨g,f,d⟩:=Kx s (Cn s c a 58+1) lc;exact qy
  exact ln
 exact ln
def WQ(s a)(d:a<=s.size):kJ s (An s a).1:=by
 have b:=BI s a d;have c:=Q4 s (A5 s _ K).2.1 (A5 s (Af s a) K).2.2 (JN _ _ _ b);exact⟨Pk s _ _ b,c.1,c.2.1⟩
def UX{at_}(h:(An s at_).2.2=K)(c:at_<=s.size):d9 s (An s at_).1:=by
 have a:=BI s at_ c;have d:=Q4 s (A5 s _ K).2.1 (A5 s (Af s at_) K).2.2 (JN _ _ _ a);have b:=d.2.2 (TC h);exact⟨Nf b.1 a,b.2⟩
theorem Tryz.yE:(Tryz.prog.info? 82).map (λi=>(i.zero,i.size,i.bytes))=V (V (ku #[O ⟨#[]⟩,U Y 0 0,X J 0,U Y 0 0,X J 0]),5,80):=lo
def AW.erase(c:AW):Cv:=⟨c.E,c.bl.map kD,c.e⟩
structure M9(w:jH)(base:Nat)(lv:jR)(c:AW):Prop where
 qH:kt w base 93 2 c.hv (Z c.E.qH) (qS AP c.E.qH)
 body:kt w base 95 9 c.bv (Z c.bl) (qS A4 c.bl)
 g:∀p∈c.bl,Cc w base p
 yZ:Cd c.hv lv
 yX:Cd c.bv lv
 yb:∀p∈c.bl,Cd p.2 lv
def M9.cvIn{c}(h:M9 w n z c):XG w c:=
 ⟨Ak h.qH (mr _),Ak h.body (mr _),λp a=>Ak (h.g p a) (mr _)⟩
def M9.C{M:kN Nat}{w w':jH}{b:Nat}{d:jR}{c:AW}(h:M9 w b d c)(k:Ac M w w')(a:∀i,i∈M->i<b:=by simp):M9 w' b d c:=
 ⟨Ad h.qH k a,Ad h.body k a,λp e=>(h.g p e).C k a,h.yZ,h.yX,h.yb⟩
def GE{v a}(h:kt w m T i v n y)(k:w.grownBy u a.ownBlock)(b:Cd v a):kt u m T i v n y:=
 h.C k (by
  cases hv:v.ownBlock with
  |none=>exact ln
  |some k=>exact j3 (λT=>b k hv T.symm))
def M9.grown{c}{g n cap H}(h:M9 w m z c)(k:w.grownBy v z.ownBlock)(b:z.ownBlock=V g\/g=H)(d:w.heap.size<=H):M9 v m (U (V ⟨g,0,Y⟩) n cap) c:=
 ⟨GE h.qH k h.yZ,GE h.body k h.yX,λp a=>GE (h.g p a) k (h.yb p a),Cd.zb h.yZ h.qH b d,Cd.zb h.yX h.body b d,λp a=>Cd.zb (h.yb p a) (h.g p a) b d⟩
def Ds(s:bN)(e at_:Int):Prop:=
 if 300<s.size then e=1/\at_=0
 else if(Ao s (Af s 0)).2.2 then e=2/\at_=(Ao s (Af s 0)).2.1
 else∃cs:kN AW,cs.map AW.erase=(Ao s (Af s 0)).1/\(e,at_)=CH cs
def Wn(a N)(h:∀c∈a,Z c.bl<=N):Z (Dz a)<=Z a*N:=by
 unfold Dz
 induction a with
 |nil=>simp
 |cons c a ih=>
  have f:=ih (λd b=>h d sq);have e:=h c ln;have g:=nL L5 c.bl;simp only[mB,mp,mh,mn];rw[oD];omega
def iY(l:s.size<=300){d:kN AW}(k:Z d<=300)(g:∀c∈d,kJ s c.erase)(j:∀c∈d,d9 s c.erase):LP d:=by
 have i:∀c∈d,Z c.bl<=301:=λc a=>by have:=(g c a).body;simp only[AW.erase,mh]at this;omega
 refine⟨lc,λc a=>by have:=i c a;omega,λc a=>by have:=(g c a).E;simp only[AW.erase]at this;omega,λc a p f=>?_,?_,λc a=>⟨?_,λp f=>?_⟩⟩
 .have:=(g c a).g p.1 (by exact mx f);omega
 .have:=Wn d 301 i;omega
 .intro t b e;have:=(j c a).E t b e;omega
 .have h:=(j c a).body p.1 (by exact mx f);intro t b e;unfold AA at b;cases ha:L5 p with
  |true=>
   rw[ha]at b;have:=h.atom t oa e;omega
  |false=>
   rw[ha]at b;simp at b;rcases b with rfl|rfl
   .have:=h.left ha e;omega
   .have:=h.right ha e;omega
def Y9{a}{c}{r}(h:Cr a i c=V r):r.1≠0:=by
 unfold Cr at h
 repeat (split at h;· first|cases h;done|(simp at h;subst h;simp))
 all_goals exact qr
def QJ{b}:∀l (i) {r:Int×Int},EH b i l=V r->r.1≠0
 |[],_,_,h=>by simp[EH]at h
 |c::l,i,r,h=>by
  rw[EH]at h;split at h
  .rename_i d a;simp at h;subst h;exact Y9 a
  .exact QJ l (i+1) h
def GO{cs}(h:(CH cs).1=0):CH cs=(0,0):=by
 unfold CH at h|-;split
 .rename_i r b;rw[b]at h;exact rl h (QJ _ _ b)
 .rename_i b;rw[b]at h;split
  .rename_i r d;rw[d]at h;obtain⟨e,c,f,_,a,_⟩:=List.findSome?_eq_some_iff.1 d;unfold DX at a;cases hf:c.bl.find? (Fg cs c)with
   |none=>rw[hf]at a;simp at a
   |some p=>rw[hf]at a;rw[<-a]at h;simp at h
  .rfl
structure VY(s:bN)(acc:kN AW)(a:Nat)(bd:rD)(R:kN Cv×Nat×rD):Prop where
 rest:(acc.map AW.erase++(Fr s a bd).1,(Fr s a bd).2)=R
 len:Z acc<=a+1
 len2:bd=K->Z acc<=a
 lens:∀c∈acc,kJ s c.erase
 zD:bd=K->∀c∈acc,d9 s c.erase
def VY.step{l}{R}{c}(h:VY s l n K R)(q:n<s.size)(f:An s n=(c.erase,m,B)):
  AS s m B<=s.size/\2*(s.size-AS s m B)+(if B then 0 else 1)<2*(s.size-n)+1/\VY s (l++[c]) (AS s m B) B R:=by
 have i:=Kb s n lc;have v:=KN s m B;have j:=WQ s n lc;have r:n<=m:=by
  have w:=Ck s n;have z:=LN s (Af s n) K;have t:=X5 s (A5 s (Af s n) K).2.1 (A5 s (Af s n) K).2.2;have y:=EV s (Eg s (A5 s (Af s n) K).2.1 (A5 s (Af s n) K).2.2).2.1 (Eg s (A5 s (Af s n) K).2.1 (A5 s (Af s n) K).2.2).2.2 46;have e:m=(An s n).2.1:=by rw[f]
  rw[e];show n<=Cn s _ _ 46;omega
 have k:B=K->n<m:=λd=>by
  have:=Q9 (s:=s) (at_:=n) (by rw[f];exact d);rw[f]at this;exact this
 have o:B=K->d9 s c.erase:=λd=>by
  have:=UX (s:=s) (at_:=n) (by rw[f];exact d) lc;rw[f]at this;exact this
 rw[f]at i j;have p:=G3 s m B i;have u:=h.len2 rfl;refine⟨p,?_,⟨?_,?_,?_,?_,?_⟩⟩
 .cases B with
  |true=>simp;omega
  |false=>have:=k rfl;simp;omega
 .have g:=h.rest;unfold Fr at g;rw[MP q f]at g;rw[<-g];simp
 .simp;omega
 .intro d;have:=k d;simp;omega
 .intro x b;rcases mi.1 b with b|b
  .exact h.lens x b
  exact qr
 .intro d x b;rcases mi.1 b with b|b
  .exact h.zD rfl x b
  exact qr
def Xm(s:bN)(pv:jR)(er:Int)(w:jH):Prop:=
 er=0->∃(pb:Nat) (lad:rB) (lcp:Nat) (cs:kN AW),pv=jj (V ⟨pb,0,Y⟩)/\AF w pb [U lad (Z cs) lcp] 76/\Cf w (U lad (Z cs) lcp) cs/\LP cs/\s.size<=300/\(Ao s (Af s 0)).2.2=K/\cs.map AW.erase=(Ao s (Af s 0)).1/\CH cs=(0,0)
theorem Ju(s:bN)(w)(KB:s.size<=9223372036854775807):rE rF 15 #[O s] w λe w'=>∃(pv:jR) (y z:Int),e=j1 (.tuple #[pv,X J y,X J z])/\Ds s y z/\Xm s pv y w'/\Ac [] w w':=by
 by_cases HC:300<s.size
 .have HI:jV (Ds s 1 0):=by show Ds _ _ _;unfold Ds;rw[mo HC];exact⟨rfl,rfl⟩
  go_enter func15,ntmps15;go_wp2;go_ret3;exact⟨_,1,0,rfl,HI.o,(λh=>oj),kR _ _⟩
 .have hs:s.size<=300:=by omega
  have EM:s.size<=1000000:=lc
  obtain⟨i0,LB,JA,LS,K6⟩:=mW Tryz.yE;obtain⟨j,hj⟩:=kQ (Af s 0);have LM:j<=s.size:=by have:=BI s 0 (mr _);omega
  obtain⟨D,E,B,B2⟩:∃D E B,Ao s j=(D,E,B):=⟨_,_,_,rfl⟩;have HI:jV (∀y z:Int,(if B then y=2/\z=(E:Int)else∃cs:kN AW,cs.map AW.erase=D/\(y,z)=CH cs)->Ds s y z):=by
   intro y z h;unfold Ds;rw[mm HC,hj,B2];exact h
  have R:jV (AS s 0 K=j/\Ao s j=(D,E,B)):=⟨hj,B2⟩;clear hj B2 HC KB;go_enter func15,ntmps15;go_wp2_with fail
  have HY:AF ((w.alloc (Y6 #[O s,X J 0,kx K] 73)).alloc (Y6 #[U Y 0 0] 76)) w.heap.size (B5 s 0 K) 73:=(kS w (B5 s 0 K) 73).alloc _;have HH:AF ((w.alloc (Y6 #[O s,X J 0,kx K] 73)).alloc (Y6 #[U Y 0 0] 76)) (w.heap.size+1) [U Y 0 0] 76:=by
   have h:=kS (w.alloc (Y6 #[O s,X J 0,kx K] 73)) [U Y 0 0] 76;rw[mJ]at h;exact h
  refine(DY w.heap.size s 0 K _ EM (mr _) HY).G ?_;rintro e w2 ⟨rfl,i,Go⟩;rw[R.o.1]at i;have l:=HH.C Go;have HO:Ac [] w w2:=(((kR [] w).alloc _).alloc _).trans' Go ln;clear HY HH Go;go_wp2_with fail
  go_loopg [] (2*(s.size-j)+1) (λgk wr=>∃(a:Nat) (bd:rD) (b:kN AW) (lv:jR),a<=s.size/\gk=2*(s.size-a)+(if bd then 0 else 1)/\jV (VY s b a bd (D,E,B))/\AF wr w.heap.size (B5 s a bd) 73/\AF wr (w.heap.size+1) [lv] 76/\
   kt wr (w.heap.size+2) 82 5 lv (Z b) (qS BH b)/\jV (∀c∈b,M9 wr (w.heap.size+2) lv c)/\Ac [] w wr)
  case atStart=>
   refine⟨j,K,[],U Y 0 0,LM,ln,⟨?_,ln,ln,ln,ln⟩,i,l,mw _ _ _ _,λc g=>by simp at g,HO⟩;unfold Fr;simp[R.o.2]
  case round=>
   clear i l HO;obtain⟨a,bd,b,lv,ha,q,A,i,l,m,FP,hK⟩:=hrel;have HK:=Ab q;clear q;obtain⟨r,u,rfl⟩:=Aj m;have M1:=i.lt;have M3:=l.lt;obtain⟨c0,c1,c2⟩:=i.c3;have p0:=l.D 0;have pf:=l.qI 0;simp[B5]at c0 c1 c2 p0;cases bd with
   |true=>
    (have FA:jV ((b.map AW.erase,a,T6)=(D,E,B)):=by have h:=A.o.rest;show _=_;simpa[Fr] using h);go_wp2_with fail
    go_quiet (fail)
    (go_wp2_with fail);go_ret3;have d:=FA.o;simp only[mU]at d;exact⟨_,2,a,rfl,HI.o 2 a (by rw[<-d.2.2,<-d.2.1];exact⟨rfl,rfl⟩),(λh=>oj),hK.drewN _⟩
   |false=>
    by_cases HN:a<s.size
    ·have Nq:(a:Int)<(s.size:Int):=lc;obtain⟨f,Q,F,HE⟩:∃f Q F,An s a=(f,Q,F):=⟨_,_,_,rfl⟩;(have MN:Q<=s.size:=by have:=Kb s a ha;rw[HE]at this;exact this);have MY:Z b<=a:=A.o.len2 rfl;have H3:=Ab HE;clear HE;go_wp2_with fail
     go_region_law
      (first
       |(go_simp;go_at_call 44;refine(QY w.heap.size s a _ EM ha (by first|exact i|exact i.drew)).G ?_;rintro e G ⟨hv,bv,x,rfl,hH,FL,B0,FO,CC,I⟩;rw[Aa H3]at hH FL CC|-;obtain⟨W,S,rfl⟩:=Aj hH;obtain⟨P,N,rfl⟩:=Aj B0;have AT:=l.drew.C I;have pc:=AT.D 0;have K4:=AT.qI 0;have HF:=λo=>(AT.alloc o).D 0;simp at pc HF;simp only[Dc])
       |(refine oJ _ lx _ _ _ lx (w.heap.size+2) 82 i0 _ 5 80 underlying74 LB JA LS K6 rfl lc (U r (Z b) u) (Z b) (qS BH b) lx ((Ad (CV m) I).alloc _) ⟨G.heap.size,0,Y⟩ 1 1 (Dc f (U W (Z f.E.qH) S) (U P (Z x) N)) lx lx (mz (mG G _)) (by simp[Value.oneCell',Dc]) lc lw lc (by simp;have:=I.size;simp at this;omega) (G.heap.size+1) ln ?_;intro v cap w5 FT AO HU K8;have BS:=(AT.alloc _).grown AO (A8 m (w.heap.size+1) lc);have H7:=BS.D 0;have K2:=BS.qI 0;simp at H7))
     all_goals
      have M0:=I.size;have M6:=(FT.lt v rfl).1;have H2:AW.erase ⟨f.E,U W (Z f.E.qH) S,U P (Z x) N,x,f.e⟩=f:=by
       unfold AW.erase;simp only[FL]
      obtain⟨H,Bx⟩:∃H:AW,H=⟨f.E,U W (Z f.E.qH) S,U P (Z x) N,x,f.e⟩:=⟨_,rfl⟩;rw[<-Bx]at H2;(have HL:Dc f (U W (Z f.E.qH) S) (U P (Z x) N)=BH H:=by rw[Bx];rfl);have H6:=Ab (A.o.step HN (by rw[Aa H3,H2]));have HM:M9 G (w.heap.size+2) (U r (Z b) u) H:=by
       have FF:w.heap.size+2<=wr.heap.size:=lc;have e1:Cd (U W (Z f.E.qH) S) (U r (Z b) u):=λk q he=>by
        have h1:wr.heap.size<=k:=(hH.lt k q).1;have d:=(m.lt k he).2;omega
       have e2:Cd (U P (Z x) N) (U r (Z b) u):=λk q he=>by
        have h1:wr.heap.size<=k:=(B0.lt k q).1;have d:=(m.lt k he).2;omega
       have e3:∀p∈x,Cd p.2 (U r (Z b) u):=λp hp k q he=>by
        have h1:wr.heap.size<=k:=(rx (FO p hp) k q).1;have d:=(m.lt k he).2;omega
       rw[Bx];exact⟨Ak hH FF,Ak B0 FF,λp hp=>Ak (FO p hp) FF,e1,e2,e3⟩
      have H0:jV (∀c∈b++[H],M9 (w5.setCell ⟨w.heap.size+1,0,Y⟩ (U (V ⟨v,0,Y⟩) (Z b+1) cap)) (w.heap.size+2) (U (V ⟨v,0,Y⟩) (Z b+1) cap) c):=by
       intro c g;have h0:M9 G (w.heap.size+2) (U r (Z b) u) c:=by
        rcases mi.1 g with g|g
        .exact((FP.o c g).C (w':=wr.drew) (M:=[]) (kR [] wr).drew ln).C I
        .simp only[lX]at g;subst g;exact HM
       (have h1:∀o,M9 (G.alloc o) (w.heap.size+2) (U r (Z b) u) c:=λo=>h0.C ((kR [] G).alloc o));have d:=M9.grown (n:=Z b+1) (cap:=cap) (h1 _) AO HU ln;exact d.C ((kR [w.heap.size+1] w5).setCell (p:=⟨w.heap.size+1,0,Y⟩) ln _)
      have H1:=((CC.alloc _).grown AO (A8 m w.heap.size lc)).bW ⟨w.heap.size+1,0,Y⟩ ln (U (V ⟨v,0,Y⟩) (Z b+1) cap);have HV:=BS.set 0 (U (V ⟨v,0,Y⟩) (Z b+1) cap);have HG:=(((hK.drew.trans' I ln).alloc _).grown AO (λk q=>j3 (by have:=(m.lt k q).1;omega))).setCell (p:=⟨w.heap.size+1,0,Y⟩) ln (U (V ⟨v,0,Y⟩) (Z b+1) cap);have B9:=Ah FT (p:=⟨w.heap.size+1,0,Y⟩) su (U (V ⟨v,0,Y⟩) (Z b+1) cap);rw[HL]at B9;have Ix:=HK;clear FT BS H7 K2 AO HU K8 AT pc K4 HF hH B0 FO CC I HM m i l hK FP c0 c1 c2 p0 pf HL Bx FL;(go_wp2_with fail);refine(DY w.heap.size s Q F _ EM MN H1).G ?_;rintro e w6 ⟨rfl,K3,Ax⟩;have IS:=HV.C Ax;have IA:=Ad B9 Ax;(have K9:jV (∀c∈b++[H],M9 w6 (w.heap.size+2) (U (V ⟨v,0,Y⟩) (Z b+1) cap) c):=λc g=>(H0.o c g).C Ax);have KK:=HG.trans' Ax ln;clear H1 HV HG B9 H0 Ax;go_wp2_with fail
      go_roundg (2*(s.size-AS s Q F)+(if F then 0 else 1))
      case measure=>have h1:=H6.2.1;have d:=Aa Ix;simp at d;omega
      case rel=>
       obtain⟨t1,_,t3⟩:=H6;refine⟨AS s Q F,F,b++[H],U (V ⟨v,0,Y⟩) (Z b+1) cap,t1,rfl,t3,K3,IS,?_,K9,KK⟩;simpa using IA
    ·(have FA:jV ((b.map AW.erase,a,K)=(D,E,B)):=by have h:=A.o.rest;show _=_;simpa[Fr,NP HN] using h);have hd:decide ((a:Int)<(s.size:Int))=K:=li;have FC:Cf wr (U r (Z b) u) b:=⟨Ak m (mr _),λc g=>(FP.o c g).cvIn⟩;have DT:LP b:=iY hs (by have:=A.o.len2 rfl;omega) A.o.lens (A.o.zD rfl);obtain⟨SP,E0⟩:=kQ (CH b);have EK:=Ab E0;have T:=cF (w.heap.size+1) _ b wr l FC DT;rw[E0]at T;have HT:=Ab T;have LL:=Ab FC;have KS:=Ab DT;clear T E0 FC DT;(go_wp2_with fail);refine HT.G ?_;rintro e w3 ⟨rfl,BT⟩;have HP:=hK.H BT;have Mo:=Ab (l.C BT);have LC:=Ab (LL.C BT);clear HT BT hK c0 c1 c2 p0 pf i l m;have d:=FA.o;simp only[mU]at d;obtain⟨L,sa⟩:=SP;simp only;by_cases C:L=0
     .have HZ:jV (Ds s 0 0):=HI.o 0 0 (by rw[<-d.2.2];exact⟨b,d.1,by rw[GO (by rw[Aa EK];exact C)]⟩);have KA:jV (Xm s (jj (V ⟨w.heap.size+1,0,Y⟩)) 0 w3):=by
       intro _;refine⟨_,r,u,b,rfl,Mo,LC,KS,hs,?_,?_,GO (by rw[Aa EK];exact C)⟩
       .rw[show Af s 0=j from R.o.1,R.o.2];exact d.2.2.symm
       .rw[show Af s 0=j from R.o.1,R.o.2];exact d.1
      (have H8:(L !=0)=K:=by simp[C]);clear d C;(go_wp2_with fail);go_ret3;exact⟨_,0,0,rfl,HZ.o,KA.o,HP⟩
     .have HZ:jV (Ds s L sa):=HI.o L sa (by rw[<-d.2.2];exact⟨b,d.1,EK.symm⟩);(have H8:(L !=0)=T6:=by simp[C]);have H9:=Ab C;clear d C;(go_wp2_with fail);go_ret3;exact⟨_,L,sa,rfl,HZ.o,(λh=>rl h H9),HP⟩
def gI(s:bN)(w)(f:s.size<=9223372036854775807):
  rE rF 15 #[O s] w λe d=>∃(c:jR) (b a:Int),e=j1 (.tuple #[c,X J b,X J a])/\Ds s b a/\Ac [] w d:=
 (Ju s w f).G λe d ⟨c,b,a,h1,h2,_,h4⟩=>⟨c,b,a,h1,h2,h4⟩
structure Ae where
 a:bN
 qH:kN bN
structure BE where
 f:Ae
 av:jR
def Bj(p:BE):kN jR:=[O p.f.a,p.av]
def DR(w:jH)(p:BE):Prop:=kt w 0 9 1 p.av (Z p.f.qH) (qS Ai p.f.qH)
def DR.C{w w'}{p}(h:DR w p)(k:Ac [] w w'):DR w' p:=Ad h k
structure M4(f:Ae):Prop where
 len:Z f.qH<=1000
 j:∀x∈f.qH,0<x.size/\x.size<=1000000
def Io:kN bN->kN bN->rD
 |[],[]=>T6
 |x::l,y::m=>(x.toList==y.toList)&&Io l m
 |_,_=>K
def CB(a b:Ae):rD:=(a.a.toList==b.a.toList)&&Io a.qH b.qH
def YF:∀(l m:kN bN) (k) (a) (b:k<Z m),Io (l.drop k) (m.drop k)=((l[k].toList==m[k].toList)&&Io (l.drop (k+1)) (m.drop (k+1)))
 |l,m,k,a,b=>by
  rw[mu a,mu b,Io]
def Ur:∀{l m:kN bN},Io l m=T6->Z l=Z m
 |[],[],_=>rfl
 |[],_::_,h=>oj
 |_::_,[],h=>oj
 |_::l,_::m,h=>by
  rw[Io,mC]at h;simp[Ur h.2]
def Hc(h:kt w n 9 1 z (Z e) (qS Ai e))(k d):∃g a,z=U (V ⟨g,0,Y⟩) (Z e) a/\jY w ⟨g,k,Y⟩=V (O e[k]):=by
 obtain⟨g,a,f,_,i⟩:=Az h (λc _=>rfl) k d;have b:=i k d 0 lc;simp[Ai]at b;exact⟨g,a,f,b⟩
theorem Pp(a b w)(v:DR w a)(t:DR w b)(A0:Z a.f.qH<=1000000)(A2:Z b.f.qH<=1000000):rE rF 49 #[ku (Za (Bj a)),ku (Za (Bj b))] w λe w'=>e=j1 (kx (CB a.f b.f))/\Ac [] w w':=by
 obtain⟨⟨j,c⟩,av⟩:=a;obtain⟨⟨g,d⟩,bv⟩:=b;unfold DR at v t;simp only at v t A0 A2;obtain⟨p,o,rfl⟩:=Aj v;obtain⟨m,q,rfl⟩:=Aj t;obtain⟨S,D⟩:=kQ (CB ⟨j,c⟩ ⟨g,d⟩);rw[D];have s:jV (((j.toList==g.toList)&&Io c d)=S):=D;have HA:=Ab v;have HB:=Ab t;simp only[Bj];have l:=Ab (((kR [] w).alloc (Y6 #[O j,U p (Z c) o] 43)).alloc (Y6 #[O g,U m (Z d) q] 43));have F:=(kS w [O j,U p (Z c) o] 43).alloc (Y6 #[O g,U m (Z d) q] 43);have L:AF ((w.alloc (Y6 #[O j,U p (Z c) o] 43)).alloc (Y6 #[O g,U m (Z d) q] 43)) (w.heap.size+1) [O g,U m (Z d) q] 43:=by
  have M:=kS (w.alloc (Y6 #[O j,U p (Z c) o] 43)) [O g,U m (Z d) q] 43;rw[show(w.alloc (Y6 #[O j,U p (Z c) o] 43)).heap.size=w.heap.size+1 from ln]at M
  exact M
 have B:=Ab F;have C:=Ab L;clear D v t F L;cases hn:(j.toList==g.toList)with
 |false=>
  have r:jV (S=K):=by show _=_;rw[<-Aa s,hn];rfl
  have R:(j.toList !=g.toList)=T6:=by simp[bne,hn]
  clear s;go_enter func49,ntmps49;go_wp2;go_ret;rw[Aa r];exact⟨rfl,l⟩
 |true=>
  have R:(j.toList !=g.toList)=K:=by simp[bne,hn]
  by_cases u:Z c=Z d
  ·(have r:jV (Io (c.drop 0) (d.drop 0)=S):=by show _=_;rw[<-Aa s,hn];rfl);(have G:((Z c:Int) !=(Z d:Int))=K:=by simp[u]);(have Q:((Z c:Int)==(Z d:Int))=T6:=by simp[u]);have H:=Ab u;clear u s;go_enter func49,ntmps49;go_wp2;change Code.wp _ _ _ _ ((w.alloc (Y6 #[O j,U p (Z c) o] 43)).alloc (Y6 #[O g,U m (Z d) q] 43));generalize(w.alloc (Y6 #[O j,U p (Z c) o] 43)).alloc (Y6 #[O g,U m (Z d) q] 43)=w1 at l B C|-;generalize w.heap.size=N at B C|-;clear hn R G Q
   go_loopg [5] (Z c) (λgk i wr=>∃(k:Nat),i=X J k/\k<=Z c/\gk=Z c-k/\jV (Io (c.drop k) (d.drop k)=S)/\jV (Ac [] w wr)/\jV (Ac [] w1 wr))
   case atStart=>exact⟨0,rfl,lc,rfl,r,l,kR _ _⟩
   case round=>
    clear r l;obtain⟨k,rfl,hk,I,z,l,y⟩:=hrel;have HG:=Ab I;clear I;have e1:=(B.C y).D 1;have e2:=(C.C y).D 1;simp at e1 e2;by_cases E:k<Z c
    ·(have W:k<Z d:=by have:=Aa H;omega);obtain⟨g1,q1,T,d1⟩:=Hc (Ad HA l) k E;obtain⟨g2,q2,P,d2⟩:=Hc (Ad HB l) k W;simp only[lU]at T P;obtain⟨rfl,_,rfl⟩:=T;obtain⟨rfl,_,rfl⟩:=P;have Df:=Ab (YF c d k E W);(have A:jV (∀n,Ac [] w (wr.drewN n)/\Ac [] w1 (wr.drewN n)):=λn=>⟨l.drewN n,y.drewN n⟩);cases hx:(c[k].toList==d[k].toList)with
     |true=>
      (have Ax:(c[k].toList !=d[k].toList)=K:=by simp[bne,hx]);have x:jV (Io (c.drop (k+1)) (d.drop (k+1))=S):=by
       have h:=Aa z;rw[Aa Df,hx]at h;exact h
      go_wp2_with fail
      go_quiet (fail)
      go_wp2
      go_roundg (Z c-(k+1))
      case measure=>exact qu
      case rel=>exact⟨k+1,ly,lc,rfl,x,(A _).1,(A _).2⟩
     |false=>
      (have Ax:(c[k].toList !=d[k].toList)=T6:=by simp[bne,hx]);have x:jV (S=K):=by
       have h:=Aa z;rw[Aa Df,hx]at h;exact h.symm
      go_wp2_with fail
      go_quiet (fail)
      go_wp2;go_ret;rw[Aa x];exact⟨rfl,(A _).1⟩
    .have x:jV (S=T6):=by
      have h:=Aa z;rw[mN lc,mN (by have:=Aa H;omega)]at h;exact h.symm
     go_wp2;go_ret;rw[Aa x];exact⟨rfl,l⟩
  ·(have G:((Z c:Int) !=(Z d:Int))=T6:=by simp[bne];omega);have Q:((Z c:Int)==(Z d:Int))=K:=sy;have r:jV (S=K):=by
    show _=_;rw[<-Aa s,hn];cases h:Io c d with
    |false=>rfl
    |true=>exact rl (Ur h) u
   clear s;go_enter func49,ntmps49;go_wp2;go_ret;rw[Aa r];exact⟨rfl,l⟩
def Ek:kN bN->kN bN->rD
 |[],m=>decide (0<Z m)
 |_::_,[]=>K
 |x::l,y::m=>if x.toList==y.toList then Ek l m else Gl x y
def D1(a b:Ae):rD:=if a.a.toList==b.a.toList then Ek a.qH b.qH else kG a.a.toList b.a.toList
def WE(l m:kN bN)(k a)(b:k<Z m):Ek (l.drop k) (m.drop k)=if l[k].toList==m[k].toList then Ek (l.drop (k+1)) (m.drop (k+1))else Gl l[k] m[k]:=by
 rw[mu a,mu b,Ek]
def Rn(l m:kN bN)(k)(h:k<=Z l)(d:¬(k<Z l/\k<Z m))(c:k<=Z m):Ek (l.drop k) (m.drop k)=decide (Z l<Z m):=by
 by_cases b:k<Z l
 .have a:Z m<=k:=by omega
  rw[mu b,mN a,Ek];simp;omega
 .rw[mN lc,Ek,mX];exact li
theorem bI(a b w)(t:DR w a)(s:DR w b)(G:M4 a.f)(B:M4 b.f):rE rF 46 #[ku (Za (Bj a)),ku (Za (Bj b))] w λe w'=>e=j1 (kx (D1 a.f b.f))/\Ac [] w w':=by
 obtain⟨⟨j,c⟩,av⟩:=a;obtain⟨⟨g,d⟩,bv⟩:=b;unfold DR at t s;have EK:=G.len;have BS:=B.len;have AB:=Ab G.j;have P:=Ab B.j;simp only at t s EK BS AB P;clear G B;obtain⟨q,m,rfl⟩:=Aj t;obtain⟨p,o,rfl⟩:=Aj s;obtain⟨S,I⟩:=kQ (D1 ⟨j,c⟩ ⟨g,d⟩);rw[I];have z:jV ((if j.toList==g.toList then Ek c d else kG j.toList g.toList)=S):=I;have HA:=Ab t;have HB:=Ab s;simp only[Bj];have l:=Ab (((kR [] w).alloc (Y6 #[O j,U q (Z c) m] 43)).alloc (Y6 #[O g,U p (Z d) o] 43));have M:=(kS w [O j,U q (Z c) m] 43).alloc (Y6 #[O g,U p (Z d) o] 43);have AR:AF ((w.alloc (Y6 #[O j,U q (Z c) m] 43)).alloc (Y6 #[O g,U p (Z d) o] 43)) (w.heap.size+1) [O g,U p (Z d) o] 43:=by
  have hh:=kS (w.alloc (Y6 #[O j,U q (Z c) m] 43)) [O g,U p (Z d) o] 43;rw[show(w.alloc (Y6 #[O j,U q (Z c) m] 43)).heap.size=w.heap.size+1 from ln]at hh
  exact hh
 have D:=Ab M;have E:=Ab AR;clear I t s M AR;cases hn:(j.toList==g.toList)with
 |false=>
  have v:jV (kG j.toList g.toList=S):=by show _=_;rw[<-Aa z,hn];rfl
  have Bx:(j.toList !=g.toList)=T6:=by simp[bne,hn]
  clear z;go_enter func46,ntmps46;go_wp2;go_ret;exact⟨Bu v.o,l⟩
 |true=>
  have Bx:(j.toList !=g.toList)=K:=by simp[bne,hn]
  have v:jV (Ek (c.drop 0) (d.drop 0)=S):=by show _=_;rw[<-Aa z,hn];rfl
  clear z;go_enter func46,ntmps46;go_wp2;change Code.wp _ _ _ _ ((w.alloc (Y6 #[O j,U q (Z c) m] 43)).alloc (Y6 #[O g,U p (Z d) o] 43));generalize(w.alloc (Y6 #[O j,U q (Z c) m] 43)).alloc (Y6 #[O g,U p (Z d) o] 43)=w1 at l D E|-;generalize w.heap.size=N at D E|-;clear hn Bx
  go_loopg [5] (Z c) (λgk i wr=>∃(k:Nat),i=X J k/\k<=Z c/\k<=Z d/\gk=Z c-k/\jV (Ek (c.drop k) (d.drop k)=S)/\jV (Ac [] w wr)/\jV (Ac [] w1 wr))
  case atStart=>exact⟨0,rfl,lc,lc,rfl,v,l,kR _ _⟩
  case round=>
   clear v l;obtain⟨k,rfl,R,A1,Ax,x,l,u⟩:=hrel;have HG:=Ab Ax;clear Ax;have H:=(D.C u).D 1;have C:=(E.C u).D 1;simp at H C;by_cases A:k<Z c
   .by_cases F:k<Z d
    .obtain⟨g1,q1,A2,W⟩:=Hc (Ad HA l) k A;obtain⟨T,q2,A0,L⟩:=Hc (Ad HB l) k F;simp only[lU]at A2 A0;obtain⟨rfl,_,rfl⟩:=A2;obtain⟨rfl,_,rfl⟩:=A0;have Df:=Ab (WE c d k A F);(have y:jV (∀n,Ac [] w (wr.drewN n)/\Ac [] w1 (wr.drewN n)):=λn=>⟨l.drewN n,u.drewN n⟩);cases hx:(c[k].toList==d[k].toList)with
     |true=>
      (have B0:(c[k].toList !=d[k].toList)=K:=by simp[bne,hx]);have r:jV (Ek (c.drop (k+1)) (d.drop (k+1))=S):=by
       have h:=Aa x;rw[Aa Df,hx]at h;exact h
      go_wp2_with fail
      go_quiet (fail)
      go_wp2
      go_roundg (Z c-(k+1))
      case measure=>exact qu
      case rel=>exact⟨k+1,ly,lc,lc,rfl,r,(y _).1,(y _).2⟩
     |false=>
      (have B0:(c[k].toList !=d[k].toList)=T6:=by simp[bne,hx]);have r:jV (Gl c[k] d[k]=S):=by
       have h:=Aa x;rw[Aa Df,hx]at h;exact h
      have AO:=Aa AB c[k] (lV A);have BA:=Aa P d[k] (lV F);go_wp2_with fail
      go_quiet (fail)
      (go_wp2_with fail);have EM:jY (wr.drewN nq) ⟨N,1,Y⟩=V (U (V ⟨g1,0,Y⟩) (Z c) m):=H;have BT:jY (wr.drewN nq) ⟨N+1,1,Y⟩=V (U (V ⟨T,0,Y⟩) (Z d) o):=C;have B2:jY (wr.drewN nq) ⟨g1,k,Y⟩=V (O c[k]):=W;have CC:jY (wr.drewN nq) ⟨T,k,Y⟩=V (O d[k]):=L;have Q:=Ab (y nq).1;clear y H C W L u l;generalize wr.drewN nq=wq at EM BT B2 CC Q|-
      go_quiet ((go_at_call 86;exact pq (Oo _ _ _ AO.1 BA.1 AO.2 BA.2)))
      go_wp2;go_ret;exact⟨Bu r.o,Q.drewN _⟩
    ·have ES:¬(k:Int)<(Z d:Int):=lc;have r:jV (decide (Z c<Z d)=S):=by
      show _=_;rw[<-Aa x,Rn c d k R lc A1]
     go_wp2;go_ret;exact⟨Bu r.o,l⟩
   .have r:jV (decide (Z c<Z d)=S):=by
     show _=_;rw[<-Aa x,Rn c d k R lc A1]
    go_wp2;go_ret;exact⟨Bu r.o,l⟩
structure CS(w:jH)(sv:jR)(fs:kN BE):Prop where
 row:kt w 0 43 2 sv (Z fs) (qS Bj fs)
 j:∀p∈fs,DR w p/\M4 p.f
def CS.C{w w'}{c}{b}(h:CS w c b)(k:Ac [] w w'):CS w' c b:=⟨Ad h.row k,λp a=>⟨(h.j p a).1.C k,(h.j p a).2⟩⟩
def Dd{b}(h:CS w z b)(k)(d:k<Z b):
  ∃g m n a i f,z=U (V ⟨g,0,Y⟩) (Z b) m/\b[k]=⟨⟨n,a⟩,U i (Z a) f⟩/\jY w ⟨g,k*2,Y⟩=V (O n)/\jY w ⟨g,k*2+1,Y⟩=V (U i (Z a) f):=by
 obtain⟨g,m,s,_,r⟩:=Az h.row (λc _=>rfl) k d;have j:=r k d 0 lc;have l:=r k d 1 lc;obtain⟨⟨⟨n,a⟩,t⟩,o⟩:∃p,b[k]=p:=⟨_,rfl⟩;have q:=(h.j _ (lV d)).1;rw[o]at j l q;obtain⟨i,f,e⟩:=Aj q;simp at e;subst e;exact⟨g,m,n,a,i,f,s,o,j,l⟩
theorem II(G P)(a:kN BE)(x w)(h:CS w (U G (Z a) P) a)(z:DR w x)(BA:Z a<=1000000)(D:M4 x.f):rE rF 21 #[U G (Z a) P,ku (Za (Bj x))] w λe t=>e=j1 (kx (a.any λp=>CB p.f x.f))/\Ac [] w t:=by
 have T:jV (∀(p:BE) wr,p∈a->Ac [] w wr->rE rF 49 #[ku (Za (Bj p)),ku (Za (Bj x))] wr λe t=>e=j1 (kx (CB p.f x.f))/\Ac [] wr t):=λp wr I u=>Pp p x wr ((h.j p I).1.C u) (z.C u) (by have:=(h.j p I).2.len;omega) (by have:=D.len;omega)
 have HS:=Ab h;obtain⟨⟨c,b⟩,xv⟩:=x;obtain⟨m,l,L⟩:=Aj z;simp only at L;subst L;obtain⟨R,A⟩:=kQ (a.any λp=>CB p.f ⟨c,b⟩);rw[show(a.any λp=>CB p.f (⟨⟨c,b⟩,U m (Z b) l⟩:BE).f)=R from A]
 have Q:=Ab A;have d:=Ab (kS w [O c,U m (Z b) l] 43);have j:=Ab ((kR [] w).alloc (Y6 #[O c,U m (Z b) l] 43));clear h z D A;simp only[Bj]at T|-;go_enter func21,ntmps21;go_wp2;change Code.wp _ _ _ _ (w.alloc (Y6 #[O c,U m (Z b) l] 43));generalize w.alloc (Y6 #[O c,U m (Z b) l] 43)=w1 at d j|-;generalize w.heap.size=N at d|-
 go_loopg [5,6] (Z a) (λgk i q wr=>∃(k:Nat),i=X J k/\k<=Z a/\gk=Z a-k/\jV ((qT k a).any (λp=>CB p.f ⟨c,b⟩)=K)/\jV (Ac [] w wr)/\jV (AF wr N [O c,U m (Z b) l] 43))
 case atStart=>exact⟨0,rfl,lc,rfl,se,j,d⟩
 case round=>
  clear d j;obtain⟨k,rfl,u,F,H,j,d⟩:=hrel;have HG:=Ab F;clear F;by_cases r:k<Z a
  .obtain⟨g,Bx,n,B,ad,cp,S,s,d0,d1⟩:=Dd (HS.C j) k r;obtain⟨rfl,_,rfl⟩:=qX S;obtain⟨c0,c1⟩:=d.c2;simp at c0 c1;have o:=Ab (T a[k] wr.drew (lV r) j.drew);have M:jV (CB ⟨n,B⟩ ⟨c,b⟩=T6->R=T6):=by
    intro y;rw[<-Aa Q];exact KG _ _ k r (by rw[s];exact y)
   have E:jV (CB ⟨n,B⟩ ⟨c,b⟩=K->(qT (k+1) a).any (λp=>CB p.f ⟨c,b⟩)=K):=by
    intro y;rw[Dm _ _ k r (Aa H),s];exact y
   rw[s]at o;simp only at o;generalize CB ⟨n,B⟩ ⟨c,b⟩=SB at o M E;clear s;go_wp2_with fail
   go_region_law (go_simp;go_at_call 49;refine o.G ?_;rintro e w3 ⟨rfl,v⟩;have W:=Ab (j.drew.H v);have AH:=Ab (d.drew.C v);clear v)
   all_goals
    clear o;cases SB with
    |true=>
     have C:=Ab (M rfl);go_wp2;go_ret;rw[Aa C];exact⟨rfl,W⟩
    |false=>
     have C:=Ab (E rfl);go_wp2
     go_roundg (Z a-(k+1))
     case measure=>exact qu
     case rel=>exact⟨k+1,ly,lc,rfl,C,W,AH⟩
  .have HE:jV (R=K):=by
    have h:=Aa H;rw[lY lc]at h;show _=_;rw[<-Aa Q];exact h
   go_wp2;go_ret;rw[HE.o];exact⟨rfl,j⟩
end
variable{k n m b:Nat}{w:jH}{e:kN bN}{z:jR}{c:kN AW}{y:kN jR}{I:Int}
theorem Tryz.yH:(Tryz.prog.info? 43).map (λi=>(i.zero,i.size,i.bytes))=V (V (ku #[O ⟨#[]⟩,U Y 0 0]),2,40):=lo
def Fd(x:BE)(a:kN BE×rD)(y:BE):kN BE×rD:=if !a.2&&D1 x.f y.f then(a.1++[x]++[y],T6)else(a.1++[y],a.2)
def Hw(l:kN BE)(x:BE):kN BE×rD:=qU (Fd x) ([],K) l
def OP(l:kN BE)(x:BE):kN BE:=if(Hw l x).2 then(Hw l x).1 else(Hw l x).1++[x]
def Ya(l:kN BE)(x:Ae):rD:=l.any λp=>CB p.f x
def Eh(l:kN BE)(x:BE):kN BE:=if Ya l x.f then l else OP l x
def YA{l:kN BE}(a x):Hw (qT (k+1) l) x=Fd x (Hw (qT k l) x) l[k]:=by
 unfold Hw;rw[lW a,m6];rfl
def T4(x p):∀(l:kN BE) (a),p∈(qU (Fd x) a l).1->p=x\/p∈a.1\/p∈l
 |[],a,h=>j3 (j2 h)
 |y::l,a,h=>by
  rcases T4 x p l (Fd x a y) h with h|h|h
  .exact j2 h
  .unfold Fd at h;split at h
   .simp only[mi,lX]at h;rcases h with(h|h)|h
    .exact j3 (j2 h)
    .exact j2 h
    .exact qr
   .simp at h;rcases h with h|h
    .exact j3 (j2 h)
    .exact qr
  .exact qr
def fZ{l}{x p}(h:p∈OP l x):p=x\/p∈l:=by
 unfold OP at h;have a:∀p,p∈(Hw l x).1->p=x\/p∈l:=λp b=>by
  rcases T4 x p l ([],K) b with h|h|h
  .exact j2 h
  .simp at h
  .exact j3 h
 split at h
 .exact a p h
 .rcases mi.1 h with h|h
  .exact a p h
  .exact qr
def Xk{p}(h:DR w p):∀u∈Bj p,u.oneCell'=T6:=by
 obtain⟨c,b,e⟩:=Aj h;intro u a;simp only[Bj,l9,nr,or_false]at a;rcases a with rfl|rfl
 .rfl
 .rw[e];rfl
set_option maxRecDepth 100000
theorem LZ(EK B9)(a:kN BE)(x w)(h:CS w (U EK (Z a) B9) a)(Q:DR w x)(LL:Z a<=100000)(EX:M4 x.f):rE rF 57 #[U EK (Z a) B9,ku (Za (Bj x))] w λe w'=>∃c j,e=j1 (U c (Z (Eh a x)) j)/\CS w' (U c (Z (Eh a x)) j) (Eh a x)/\Ac [] w w':=by
 obtain⟨i0,CW,A2,DT,B2⟩:=mW Tryz.yH;have HY:jV (∀wr,Ac [] w wr->rE rF 21 #[U EK (Z a) B9,ku (Za (Bj x))] wr λe w'=>e=j1 (kx (Ya a x.f))/\Ac [] wr w'):=λwr E=>II EK B9 a x wr (h.C E) (Q.C E) lc EX
 have Jx:jV (∀(p:BE) wr,p∈a->Ac [] w wr->rE rF 46 #[ku (Za (Bj x)),ku (Za (Bj p))] wr λe w'=>e=j1 (kx (D1 x.f p.f))/\Ac [] wr w'):=λp wr H E=>bI x p wr (Q.C E) ((h.j p H).1.C E) EX (h.j p H).2
 have HS:=Ab h;have JJ:jV (∀(wr:jH) c j,Ac [] w wr->kt wr 0 43 2 (U c (Z (OP a x)) j) (Z (OP a x)) (qS Bj (OP a x))->CS wr (U c (Z (OP a x)) j) (OP a x)):=by
  intro wr c j E hr;refine⟨hr,λp H=>?_⟩;rcases fZ H with rfl|H
  .exact⟨Q.C E,EX⟩
  .exact⟨(h.j p H).1.C E,(h.j p H).2⟩
 have HC:=Ab (Xk Q);have K4:jV (∀p∈a,∀u∈Bj p,u.oneCell'=T6):=λp H=>Xk (h.j p H).1
 obtain⟨z,A,H9⟩:=Aj Q;obtain⟨D,Nj,A1⟩:∃n v,Bj x=[O n,v]/\v=U z (Z x.f.qH) A:=⟨_,_,rfl,H9⟩;obtain⟨A1,rfl⟩:=A1;rw[A1]at HY Jx HC|-;have KA:=Ab A1;generalize Z x.f.qH=xl at*;clear h Q EX H9 A1;have r:=Ab (kS w [O D,U z xl A] 43);have l:=Ab ((kR [] w).alloc (Y6 #[O D,U z xl A] 43));have M3:∀(x:rD) (w:jH),(Op.unary .not (kx x)).run rF w=.ok (kx (!x)) w:=λ_ _=>rfl
 obtain⟨FW,HX⟩:=kQ (Eh a x);rw[HX];have EM:jV ((if Ya a x.f then a else OP a x)=FW):=HX;clear HX;go_enter func57,ntmps57;go_wp2_with fail
 refine(HY _ l).G ?_;rintro e w2 ⟨rfl,k2⟩;have Go:=Ab (r.C k2);have FC:=Ab (l.H k2);clear HY r l k2;generalize Ya a x.f=HB at EM;cases HB with
 |true=>
  have HE:jV (a=FW):=EM;go_wp2;go_ret;rw[<-Aa HE];exact⟨EK,B9,rfl,HS.C FC,FC⟩
 |false=>
  have HE:jV (OP a x=FW):=EM;clear EM;go_wp2;obtain⟨N,HR⟩:=kQ w.heap.size;rw[HR]at Go|-;have CL:=Ab HR;clear HR
  go_loopg [6,7,8] (Z a) (λgk o d i wr=>∃(k:Nat) (b:kN BE) (s:rD) (C:rB) (B:Nat),o=U C (Z b) B/\d=kx s/\i=X J k/\k<=Z a/\gk=Z a-k/\Z b<=k+s.toNat/\jV (Hw (qT k a) x=(b,s))/\kt wr (N+1) 43 2 (U C (Z b) B) (Z b) (qS Bj b)/\jV (Ac [] w wr)/\jV (AF wr N [O D,U z xl A] 43))
  case atStart=>exact⟨0,[],K,Y,0,rfl,rfl,rfl,lc,rfl,ln,by show _=_;simp[Hw],mw _ _ _ _,FC,Go⟩
  case round=>
   clear Go FC;obtain⟨k,b,s,C,B,rfl,rfl,rfl,E,IS,H1,HF,I,l,r⟩:=hrel;have HG:=Ab IS;clear IS;have M6:=r.lt;(have M0:s.toNat<=1:=by cases s<;>simp);have FO:jV (Z b<=k+s.toNat):=H1;have M1:Z b<=100001:=lc;clear H1;by_cases A0:k<Z a
   .obtain⟨g,Nq,n,F,c,j,he,HO,d0,d1⟩:=Dd (HS.C l) k A0;obtain⟨rfl,_,rfl⟩:=qX he;obtain⟨c0,c1⟩:=r.c2;simp at c0 c1;(have Df:jV (Hw (qT (k+1) a) x=Fd x (b,s) a[k]):=by show _=_;rw[YA A0,Aa HF]);have Bx:=Ab (Jx a[k] wr.drew (lV A0) l.drew);have ES:=Ab (K4 a[k] (lV A0));obtain⟨AB,HT⟩:=kQ (D1 x.f a[k].f);have P:=Ab HT;rw[HT]at Bx;(have AR:jV (Bj a[k]=[O n,U c (Z F) j]):=by show _=_;rw[HO];rfl);rw[Aa AR]at Bx ES;have HU:jV (∀wz:jH,Ac [] w wz->jY wz ⟨g,k*2,Y⟩=V (O n)/\jY wz ⟨g,k*2+1,Y⟩=V (U c (Z F) j)):=by
     intro wz K9;obtain⟨g',Mo,n',MN,Nx,Nd,H0,KK,f0,f1⟩:=Dd (HS.C K9) k A0;have e2:=KK.symm.H HO;simp only[lU,lZ,mR,BE.mk.injEq,Ae.mk.injEq]at H0 e2;obtain⟨⟨rfl,_,_⟩,_,_⟩:=H0;obtain⟨⟨rfl,rfl⟩,rfl,_,rfl⟩:=e2;exact⟨f0,f1⟩
    obtain⟨y,hy⟩:=kQ (a[k]);rw[hy]at Df AR P;clear HO HT HF hy;cases s with
    |true=>
     (have AT:jV (Hw (qT (k+1) a) x=(b++[y],T6)):=by show _=_;rw[Aa Df];simp[Fd]);clear Df Bx P;(have H6:jV (∀(nq:Nat) (m:jH),((wr.drewN nq).alloc (Y6 #[O n,U c (Z F) j] 43)).grownBy m (U C (Z b) B).ownBlock->Ac [] w m/\AF m N [O D,U z xl A] 43):=λnq m hg=>⟨((l.drewN nq).alloc _).grown hg (λq G=>j3 (by have:=(I.lt q G).1;have:=Aa CL;omega)),((r.drewN nq).alloc _).grown hg (λe=>by have:=(I.lt N e).1;omega)⟩);go_wp2_with fail
     go_quiet (fail)
     all_goals
      go_wp2_with (at_builtin;refine mE _ rfl (.tmp 34) (.tmp 39) _ rfl (N+1) 43 i0 _ 2 40 underlying35 CW A2 DT B2 rfl lc (U C (Z b) B) (Z b) (qS Bj b) rfl (mg (DM I nq) _) ⟨wr.heap.size,0,Y⟩ 1 1 [O n,U c (Z F) j] rfl rfl (mz (mG (wr.drewN nq) _)) ES lc lw lc li (wr.heap.size+1) ln ?_;intro g1 KS m K6 H3 LD LS)
      go_roundg (Z a-(k+1))
      case measure=>exact qu
      case rel=>exact⟨k+1,b++[y],T6,V ⟨g1,0,Y⟩,KS,ln,rfl,ly,lc,rfl,by have:=Aa FO;simp at this|-;omega,AT,by rw[mD,mB,np,mQ,Aa AR];simpa using K6,(H6 nq m H3).1,(H6 nq m H3).2⟩
    |false=>
     go_wp2_with fail
     go_region_law (go_simp;go_at_call 46;refine Bx.G ?_;rintro e M ⟨rfl,k3⟩;have HP:=Ab (l.drew.H k3);have BS:=Ab (r.drew.C k3);have R:=Ad (CV I) k3;clear k3)
     all_goals
      clear Bx l r I;have MY:=BS.lt;obtain⟨LM,M2⟩:=HU M HP;obtain⟨x0,x1⟩:=BS.c2;simp at x0 x1;have HH:=Aa FO;simp only[pT,pN]at HH;clear d0 d1 c0 c1;cases AB with
      |true=>
       have AT:jV (Hw (qT (k+1) a) x=(b++[x]++[y],T6)):=by
        show _=_;rw[Aa Df];have hh:=Aa P;simp[Fd,hh]
       clear Df P;go_wp2_with (first
        |(at_builtin;refine mE _ rfl (.tmp 30) (.tmp 32) _ rfl (N+1) 43 i0 _ 2 40 underlying35 CW A2 DT B2 rfl lc (U C (Z b) B) (Z b) (qS Bj b) rfl (mg R _) ⟨M.heap.size,0,Y⟩ 1 1 [O D,U z xl A] rfl rfl (mz (mG M _)) HC lc lw lc li (M.heap.size+1) ln ?_;intro g8 K7 T FL FF K2 KB;have FB:=(HP.alloc _).grown FF (λq G=>j3 (by have:=(R.lt q G).1;have:=Aa CL;omega));have f0:=(HU T FB).1;have f1:=(HU T FB).2;have K5:=Ab FB;have K3:=Ab ((BS.alloc _).grown FF (λe=>by have:=(R.lt N e).1;omega));have MB:N+1<=T.heap.size:=(by have:=FF.size;simp at this;omega);clear FF K2 KB FB)
        |(at_builtin;refine mE _ rfl (.tmp 34) (.tmp 39) _ rfl (N+1) 43 i0 _ 2 40 underlying35 CW A2 DT B2 rfl lc (U (V ⟨g8,0,Y⟩) (Z b+1) K7) (Z b+1) (qS Bj b++[O D,U z xl A]) rfl (mg FL _) ⟨T.heap.size,0,Y⟩ 1 1 [O n,U c (Z F) j] rfl rfl (mz (mG T _)) ES lc lw lc li (T.heap.size+1) ln ?_;intro S AH m W L HL HV))
       have AO:=(K5.alloc _).grown L (λq G=>j3 (by have:=(FL.lt q G).1;have:=Aa CL;omega));have HZ:=(K3.alloc _).grown L (λe=>by have:=(FL.lt N e).1;omega)
       go_roundg (Z a-(k+1))
       case measure=>exact qu
       case rel=>exact⟨k+1,b++[x]++[y],T6,V ⟨S,0,Y⟩,AH,ln,rfl,ly,lc,rfl,li,AT,by simp only[mD,mB,np,mQ];rw[Aa AR,Aa KA];simpa using W,AO,HZ⟩
      |false=>
       have AT:jV (Hw (qT (k+1) a) x=(b++[y],K)):=by
        show _=_;rw[Aa Df];have hh:=Aa P;simp[Fd,hh]
       clear Df P;go_wp2_with (at_builtin;refine mE _ rfl (.tmp 34) (.tmp 39) _ rfl (N+1) 43 i0 _ 2 40 underlying35 CW A2 DT B2 rfl lc (U C (Z b) B) (Z b) (qS Bj b) rfl (mg R _) ⟨M.heap.size,0,Y⟩ 1 1 [O n,U c (Z F) j] rfl rfl (mz (mG M _)) ES lc lw lc li (M.heap.size+1) ln ?_;intro S AH m W L HL HV)
       have AO:=(HP.alloc _).grown L (λq G=>j3 (by have:=(R.lt q G).1;have:=Aa CL;omega));have HZ:=(BS.alloc _).grown L (λe=>by have:=(R.lt N e).1;omega)
       go_roundg (Z a-(k+1))
       case measure=>exact qu
       case rel=>exact⟨k+1,b++[y],K,V ⟨S,0,Y⟩,AH,ln,rfl,ly,lc,rfl,li,AT,by simp only[mD,mB,np,mQ];rw[Aa AR];simpa using W,AO,HZ⟩
   .have JA:jV (Hw a x=(b,s)):=by
     have h:=Aa HF
     rwa [lY lc]at h
    cases s with
    |true=>
     (have HW:jV (OP a x=b):=by show _=_;unfold OP;rw[Aa JA];rfl);go_wp2;go_ret;rw[<-Aa HE,Aa HW];have CC:=Aa JJ wr C B l;rw[Aa HW]at CC;exact⟨C,B,rfl,CC (Ak I (mr _)),l⟩
    |false=>
     (have HW:jV (OP a x=b++[x]):=by show _=_;unfold OP;rw[Aa JA];rfl);obtain⟨x0,x1⟩:=r.c2;simp at x0 x1;have HH:=Aa FO;simp only[pT,pN]at HH;go_wp2_with (at_builtin;refine mE _ rfl (.tmp 43) (.tmp 45) _ rfl (N+1) 43 i0 _ 2 40 underlying35 CW A2 DT B2 rfl lc (U C (Z b) B) (Z b) (qS Bj b) rfl (mg I _) ⟨wr.heap.size,0,Y⟩ 1 1 [O D,U z xl A] rfl rfl (mz (mG wr _)) HC lc lw lc li (wr.heap.size+1) ln ?_;intro S AH m W L HL HV)
     have AO:=(l.alloc _).grown L (λq G=>j3 (by have:=(I.lt q G).1;have:=Aa CL;omega));have Ha:=Ab (And.intro W AO);clear W AO L HL HV;go_wp2;go_ret;rw[<-Aa HE,Aa HW];have CC:=Aa JJ m (V ⟨S,0,Y⟩) AH Ha.2;rw[Aa HW]at CC;refine⟨V ⟨S,0,Y⟩,AH,ln,CC ?_,Ha.2⟩;simp only[mD,mB,np,mQ];rw[Aa KA];simpa using Ak Ha.1 (mr _)
def Gg:bN->rD->kN bN->bN
 |s,_,[]=>s
 |s,b,x::l=>Gg ((if b then s++⟨#[44]⟩else s)++x) T6 l
def B7(f:Ae):bN:=Gg (f.a++⟨#[40]⟩) K f.qH++⟨#[41,46]⟩
def Sz(c):(⟨#[c]⟩:bN).size=1:=rfl
def eu(c d):(⟨#[c,d]⟩:bN).size=2:=rfl
def QZ:∀l s b,(∀x∈l,x.size<=1000000)->(Gg s b l).size<=s.size+Z l*1000001
 |[],s,b,_=>by simp[Gg]
 |x::l,s,b,h=>by
  have c:=h x ln;have ih:=QZ l ((if b then s++⟨#[44]⟩else s)++x) T6 (λy a=>h y sr);rw[Gg];simp only[mn];have:((if b then s++⟨#[44]⟩else s)++x).size<=s.size+1+x.size:=by
   rw[mj];cases b
   .simp
   .simp only[ro];rw[mj,Sz];omega
  omega
def YC{f}(h:M4 f)(c:f.a.size<=1000000):(B7 f).size<=2000000000:=by
 have:=QZ f.qH (f.a++⟨#[40]⟩) K (λx a=>(h.j x a).2);have b:=h.len;unfold B7;rw[mj,eu];rw[mj,Sz]at this;omega
theorem Oa(p w)(h:DR w p)(P:Z p.f.qH<=1000)(u:∀x∈p.f.qH,x.size<=1000000)(Q:p.f.a.size<=1000000):rE rF 28 #[ku (Za (Bj p))] w λe E=>e=j1 (O (B7 p.f))/\Ac [] w E:=by
 obtain⟨⟨n,a⟩,av⟩:=p;have H:jV (∀x∈a,x.size<=1000000):=u;simp only at P Q;obtain⟨b,c,e⟩:=Aj h;simp only at e;subst e;have I:jV (kt w 0 9 1 (U b (Z a) c) (Z a) (qS Ai a)):=h;obtain⟨R,v⟩:=kQ (B7 ⟨n,a⟩);rw[v];have B:jV (Gg (n++⟨#[40]⟩) K (a.drop 0)++⟨#[41,46]⟩=R):=v;have q:=Ab (kS w [O n,U b (Z a) c] 43);have t:=Ab ((kR [] w).alloc (Y6 #[O n,U b (Z a) c] 43));clear h u v;simp only[Bj];have G:(n++⟨#[40]⟩:bN).size<=1000001:=by rw[mj,Sz];omega
 have Ax:(⟨#[40]⟩:bN).size=1:=rfl;have AB:(⟨#[44]⟩:bN).size=1:=rfl;have AR:(⟨#[41,46]⟩:bN).size=2:=rfl;go_enter func28,ntmps28;go_wp2;change Code.wp _ _ _ _ (w.alloc (Y6 #[O n,U b (Z a) c] 43));generalize w.alloc (Y6 #[O n,U b (Z a) c] 43)=w1 at q t|-;generalize w.heap.size=N at q|-;have L:=q.D 1;simp at L
 go_loopg [3,4] (Z a) (λgk o i wr=>∃(k:Nat) (s:bN),o=O s/\i=X J k/\k<=Z a/\gk=Z a-k/\s.size<=1000001+k*1000001/\jV (Gg s (decide (0<k)) (a.drop k)++⟨#[41,46]⟩=R)/\wr=w1)
 case atStart=>exact⟨0,_,rfl,rfl,lc,rfl,by simpa using G,B,rfl⟩
 case round=>
  clear B;obtain⟨k,s,rfl,rfl,T,A,AH,d,rfl⟩:=hrel;have z:=Ab A;clear A;by_cases l:k<Z a
  .obtain⟨g,W,C,d0⟩:=Hc (Ad I t) k l;obtain⟨rfl,_,rfl⟩:=qX C;have u:=Aa H a[k] (lV l);have j:jV (Gg ((if decide (0<k)then s++⟨#[44]⟩else s)++a[k]) T6 (a.drop (k+1))++⟨#[41,46]⟩=R):=by
    have h:=Aa d;rw[mu l,Gg]at h;exact h
   have D:k*1000001<=1000*1000001:=m5 _ lc;by_cases y:0<k
   ·have F:(0:Int)<(k:Int):=lc;have m:jV (Gg (s++⟨#[44]⟩++a[k]) (decide (0<k+1)) (a.drop (k+1))++⟨#[41,46]⟩=R):=by
     have h:=Aa j;simp only[y,decide_true,ro]at h;show _=_;simpa using h
    (have M:(s++⟨#[44]⟩:bN).size=s.size+1:=by rw[mj];rfl);(have r:(s++⟨#[44]⟩++a[k]:bN).size<=1000001+(k+1)*1000001:=by rw[mj,M];omega);clear d j;go_wp2
    go_roundg (Z a-(k+1))
    case measure=>exact qu
    case rel=>exact⟨k+1,_,rfl,ly,lc,rfl,r,m,rfl⟩
   ·have F:¬(0:Int)<(k:Int):=lc;have m:jV (Gg (s++a[k]) (decide (0<k+1)) (a.drop (k+1))++⟨#[41,46]⟩=R):=by
     have h:=Aa j;simp only[y,pX,ma,rm]at h;show _=_;simpa using h
    (have r:(s++a[k]:bN).size<=1000001+(k+1)*1000001:=by rw[mj];omega);clear d j;go_wp2
    go_roundg (Z a-(k+1))
    case measure=>exact qu
    case rel=>exact⟨k+1,_,rfl,ly,lc,rfl,r,m,rfl⟩
  .have S:jV (s++⟨#[41,46]⟩=R):=by
    have h:=Aa d;rw[mN lc]at h;exact h
   have D:k*1000001<=1000*1000001:=m5 _ lc;go_wp2;go_ret;rw[<-Aa S];exact⟨rfl,t⟩
def UU(p w)(h:DR w p)(a:M4 p.f)(d:p.f.a.size<=1000000):
  rE rF 28 #[ku (Za (Bj p))] w λe b=>e=j1 (O (B7 p.f))/\Ac [] w b:=
 Oa p w h a.len (λx c=>(a.j x c).2) d
def Oc:bN->kN BE->bN
 |t,[]=>t
 |t,p::l=>Oc (t++B7 p.f++⟨#[10]⟩) l
theorem PI(z B)(a:kN BE)(w)(h:CS w (U z (Z a) B) a)(AB:Z a<=100000)(u:∀p∈a,p.f.a.size<=1000000):rE rF 66 #[U z (Z a) B] w λe m=>e=j1 (O (Oc ky a))/\Ac [] w m:=by
 have H:=Ab h;have P:jV (∀(p:BE) wr,p∈a->Ac [] w wr->rE rF 28 #[ku (Za (Bj p))] wr λe m=>e=j1 (O (B7 p.f))/\Ac [] wr m):=λp wr b v=>UU p wr ((h.j p b).1.C v) (h.j p b).2 (u p b)
 have I:jV (∀p∈a,(B7 p.f).size<=2000000000):=λp b=>YC (h.j p b).2 (u p b)
 obtain⟨R,t⟩:=kQ (Oc ky a);rw[t];have A:jV (Oc ky (a.drop 0)=R):=t;clear h t u;have Ax:(⟨#[10]⟩:bN).size=1:=rfl;go_enter func66,ntmps66;go_wp2
 go_loopg [3,4] (Z a) (λgk o i wr=>∃(k:Nat) (s:bN),o=O s/\i=X J k/\k<=Z a/\gk=Z a-k/\s.size<=k*2000000001/\jV (Oc s (a.drop k)=R)/\jV (Ac [] w wr))
 case atStart=>exact⟨0,ky,rfl,rfl,lc,rfl,ln,A,kR _ _⟩
 case round=>
  clear A;obtain⟨k,s,rfl,rfl,v,y,AH,q,l⟩:=hrel;have E:=Ab y;clear y;have Q:k*2000000001<=100000*2000000001:=m5 _ lc;by_cases d:k<Z a
  .obtain⟨g,W,n,L,ad,cp,D,C,d0,T⟩:=Dd (H.C l) k d;obtain⟨rfl,_,rfl⟩:=qX D;have c:=Ab (P a[k] wr (lV d) l);have r:=Aa I a[k] (lV d);have j:jV (Oc (s++B7 a[k].f++⟨#[10]⟩) (a.drop (k+1))=R):=by
    have h:=Aa q;rw[mu d,Oc]at h;exact h
   rw[C]at c r j;simp only[Bj]at c r j;generalize B7 ⟨n,L⟩=FT at c r j;clear C q;(have F:(s++FT:bN).size=s.size+FT.size:=by rw[mj]);(have G:(s++FT++⟨#[10]⟩:bN).size<=(k+1)*2000000001:=by rw[mj,F];omega);(go_wp2_with fail);refine c.G ?_;rintro e S ⟨rfl,x⟩;have M:=Ab (l.H x);clear c x;go_wp2
   go_roundg (Z a-(k+1))
   case measure=>exact qu
   case rel=>exact⟨k+1,_,rfl,ly,lc,rfl,G,j,M⟩
  .have N:jV (s=R):=by
    have h:=Aa q;rw[mN lc]at h;exact h
   go_wp2;go_ret;rw[<-Aa N];exact⟨rfl,l⟩
def Al(e:kN bN):kN jR:=e.map O
def Bp(e):(ku (Za (Al e))).cells=Za (Al e):=lx
def AI(e:kN bN)(t:AK):bN:=if t.v=0 then t.s else e.getD (t.v.toNat-65) ky
theorem Mf(e:kN bN)(t w)(C:Z e=26)(f:t.v=0\/(65<=t.v.toNat/\t.v.toNat<=90)):rE rF 89 #[ku (Za (Al e)),ku (Za (AP t))] w λr x=>r=j1 (O (AI e t))/\Ac [] w x:=by
 have D:=Bp e;have A:Z (Al e)=26:=by unfold Al;simp[C]
 have g:jV (∀i (h:i<26),(Al e)[i]?=V (O (e.getD i ky))):=by
  intro i h;unfold Al;rw[no,mq,mc lc];rfl
 obtain⟨a,c⟩:=t;obtain⟨R,m⟩:=kQ (AI e ⟨a,c⟩);rw[m];have k:jV ((if a=0 then c else e.getD (a.toNat-65) ky)=R):=m;generalize Al e=E at D A g|-;have l:=Ab (((kR [] w).alloc (Y6 (Za E) 90)).alloc (Y6 #[X .u8 a.toNat,O c] 93));have p:=Ab ((kS w E 90).alloc (Y6 #[X .u8 a.toNat,O c] 93));simp only[AP];clear m;simp only at f;by_cases b:a=0
 .have d:jV (c=R):=by have h:=Aa k;rw[mo b]at h;exact h
  subst b;go_enter func89,ntmps89;go_wp2;go_ret;rw[<-Aa d];exact⟨rfl,l⟩
 .have d:jV (e.getD (a.toNat-65) ky=R):=by have h:=Aa k;rw[mm b]at h;exact h
  have B:65<=a.toNat/\a.toNat<=90:=by
   rcases f with h|h
   .exact rl h b
   .exact h
  have z:((a.toNat:Int)==0)=K:=sy
  obtain⟨j,u⟩:=kQ (a.toNat-65);have s:a.toNat=j+65:=lc
  rw[u]at d;have q:j<26:=lc
  rw[s]at p l z|-;have o:=p.D j;rw[Aa g j q]at o;have y:jV (∀h:j<Z E,E[j]=O (e.getD j ky)):=λh=>by
   have n:=Aa g j q;rw[mc h]at n;exact o9 n
  clear k u s B f b o;go_enter func89,ntmps89;go_wp2;go_ret;rw[<-Aa d];exact⟨rk j1 (y _),l⟩
def Vo(x:bN):rD:=x.toList==[]
def Ed(x):Vo x=T6↔x.size=0:=by
 unfold Vo;rw[Bi];exact ln
def EU(a b:bN):(a.toList==b.toList)=T6↔a=b:=by
 constructor
 .intro h;exact toList_inj sE
 .intro h;rw[h];simp
def Dv:kN bN->kN AK->kN bN->kN bN×rD
 |e,[],_=>(e,T6)
 |e,_::_,[]=>(e,T6)
 |e,t::ts,x::xs=>if Vo (AI e t)then Dv (e.set (t.v.toNat-65) x) ts xs else if(AI e t).toList==x.toList then Dv e ts xs else(e,K)
def jU(e e':kN bN):Prop:=Z e'=Z e/\∀j,(e.getD j ky).size≠0->e'.getD j ky=e.getD j ky
def jU.refl(e):jU e e:=⟨rfl,λ_ _=>rfl⟩
def jU.H{a b c}(h:jU a b)(k:jU b c):jU a c:=⟨k.1.H h.1,λj d=>(k.2 j (by rw[h.2 j d];exact d)).H (h.2 j d)⟩
def jU.set{e}{j}(h:(e.getD j ky).size=0)(x):jU e (e.set j x):=by
 refine⟨ln,λi b=>?_⟩;by_cases a:j=i
 .subst a;exact lc
 .rw[mq,mq,ng a]
def Sl{e c}(h:jU e c){t}(b:(AI e t).size≠0):AI c t=AI e t:=by
 unfold AI at b|-;by_cases a:t.v=0
 .rw[mo a,mo a]
 .rw[mm a]at b|-;rw[mm a];exact h.2 _ b
def BJ(t:AK):Prop:=(t.v=0/\t.s.size≠0)\/(65<=t.v.toNat/\t.v.toNat<=90)
def BJ.yI{t}(h:BJ t)(a:(AI e t).size=0):t.v≠0/\65<=t.v.toNat/\t.v.toNat<=90/\(e.getD (t.v.toNat-65) ky).size=0:=by
 rcases h with⟨c,b⟩|⟨b,d⟩
 .unfold AI at a;rw[mo c]at a;exact lc
 .have c:t.v≠0:=λh=>by rw[h]at b;exact rl b lu
  unfold AI at a;exact qr
def fE{t}(c:Z e=26)(a:t.v≠0)(b:65<=t.v.toNat)(d:t.v.toNat<=90)(x):AI (e.set (t.v.toNat-65) x) t=x:=by
 unfold AI;rw[mm a,mq,nG lc];rfl
def Hy:∀(a:kN AK) (b:kN bN) (e c:kN bN),Z e=26->Z a=Z b->(∀t∈a,BJ t)->(∀x∈b,x.size≠0)->Dv e a b=(c,T6)->jU e c/\a.map (AI c)=b
 |[],[],e,c,_,_,_,_,h=>by
  simp only[Dv,mU]at h;rw[<-h.1];exact⟨jU.refl e,rfl⟩
 |[],_::_,_,_,_,h,_,_,_=>pp
 |_::_,[],_,_,_,h,_,_,_=>pp
 |t::a,x::b,e,c,he,hl,hg,hx,h=>by
  rw[Dv]at h;have n:Z a=Z b:=by simpa using hl
  have o:∀t∈a,BJ t:=λu j=>hg u (by simp[j])
  have l:∀x∈b,x.size≠0:=λu j=>hx u (by simp[j])
  have m:=hx x ln;by_cases k:Vo (AI e t)=T6
  .rw[mo k]at h;obtain⟨r,q,p,s⟩:=(hg t ln).yI ((Ed _).1 k);obtain⟨d,g⟩:=Hy a b _ c li n o l h;have f:=fE he r q p x;refine⟨(jU.set s x).H d,?_⟩;rw[mA,g,Sl d (by rw[f];exact m),f]
  .rw[mm k]at h;by_cases i:((AI e t).toList==x.toList)=T6
   .rw[mo i]at h;obtain⟨d,g⟩:=Hy a b e c he n o l h;have f:=(EU _ _).1 i;refine⟨d,?_⟩;rw[mA,g,Sl d (by rw[f];exact m),f]
   .rw[mm i]at h;simp at h
def Eo(σ:rC->bN)(t:AK):bN:=if t.v=0 then t.s else σ t.v
def Ej(e:kN bN)(σ:rC->bN):Prop:=Z e=26/\∀v:rC,65<=v.toNat->v.toNat<=90->(e.getD (v.toNat-65) ky).size=0\/e.getD (v.toNat-65) ky=σ v
def Ej.val{σ}(h:Ej e σ){t}(g:BJ t)(d:(AI e t).size≠0):AI e t=Eo σ t:=by
 unfold AI at d|-;unfold Eo;by_cases a:t.v=0
 .rw[mo a,mo a]
 .rw[mm a]at d|-;rw[mm a];rcases g with⟨b,_⟩|⟨b,f⟩
  .exact rl b a
  .rcases h.2 t.v b f with c|c
   .exact lc
   .exact c
def Ej.set{e}{σ}(h:Ej e σ){v}(f:65<=v.toNat)(d:v.toNat<=90):Ej (e.set (v.toNat-65) (σ v)) σ:=by
 refine⟨by simp[h.1],λu a b=>?_⟩;by_cases c:v.toNat-65=u.toNat-65
 .have:v=u:=nW.1 lc;subst this;right;rw[mq,nG (by rw[h.1];omega)];rfl
 .rw[mq,ng c,<-mq];exact h.2 u a b
def IY(σ):∀a e,Ej e σ->(∀t∈a,BJ t/\(Eo σ t).size≠0)->∃f,Dv e a (a.map (Eo σ))=(f,T6)/\Ej f σ
 |[],e,h,_=>⟨e,rfl,h⟩
 |t::a,e,h,hg=>by
  rw[mA,Dv];have g:∀u∈a,BJ u/\(Eo σ u).size≠0:=λu l=>hg u (by simp[l])
  obtain⟨d,o⟩:=hg t ln;by_cases b:Vo (AI e t)=T6
  .rw[mo b];obtain⟨m,k,i,n⟩:=d.yI ((Ed _).1 b);(have c:Eo σ t=σ t.v:=by unfold Eo;rw[mm m]);rw[c];exact IY σ a _ (h.set k i) g
  .rw[mm b];have c:=h.val d (λj=>b ((Ed _).2 j));rw[mo (by rw[c];simp)];exact IY σ a e h g
def T9:∀l m,Io l m=T6↔l=m
 |[],[]=>by simp[Io]
 |[],_::_=>by simp[Io]
 |_::_,[]=>by simp[Io]
 |x::l,y::m=>by
  rw[Io,mC,EU,T9 l m];simp
def F1(a b):CB a b=T6↔a=b:=by
 obtain⟨d,f⟩:=a;obtain⟨e,c⟩:=b;unfold CB;rw[mC,EU,T9];simp
def Av(e:kN bN)(A:Dp):Ae:=⟨A.a,A.qH.map (AI e)⟩
def Bq(σ:rC->bN)(A:Dp):Ae:=⟨A.a,A.qH.map (Eo σ)⟩
def Ca(e:kN bN)(A:Dp)(f:Ae):kN bN×rD:=if(A.a.toList==f.a.toList)&&(Z A.qH==Z f.qH)then Dv e A.qH f.qH else(e,K)
def It(e:kN bN)(A:Dp)(f:Ae):Option (kN bN):=if(Ca e A f).2 then V (Ca e A f).1 else Y
def Ce(s:kN Ae)(l:kN (kN bN))(x:Bt):kN (kN bN):=if x.b==97 then l.flatMap (λe=>s.filterMap (It e x.A))else l
def C7(s:kN Ae)(f:Ae):rD:=s.any λg=>CB g f
def B1(s f):C7 s f=T6↔f∈s:=by
 unfold C7;rw[nD];constructor
 .rintro ⟨g,a,h⟩;rw[F1]at h;rw[<-h];exact a
 .intro h;exact⟨f,h,(F1 f f).2 rfl⟩
def Cm(fact:Dp->Ae)(val:AK->bN)(s:kN Ae)(x:Bt):rD:=
 if x.b==97 then C7 s (fact x.A)else if x.b==33 then !C7 s (fact x.A)else if x.b==61 then(val x.L).toList==(val x.R).toList else if x.b==35 then !((val x.L).toList==(val x.R).toList)else Gl (val x.L) (val x.R)
def Bm:kN bN:=kB 26 ky
def BN(body:kN Bt)(s:kN Ae):kN (kN bN):=(qU (Ce s) [Bm] body).filter λe=>body.all λx=>x.b==97||Cm (Av e) (AI e) s x
def IW(f:Ae):Prop:=∀x∈f.qH,x.size≠0
def Uy{e d}{A}{f}(h:It e A f=V d):A.a=f.a/\Z A.qH=Z f.qH/\Dv e A.qH f.qH=(d,T6):=by
 unfold It Ca at h;by_cases c:((A.a.toList==f.a.toList)&&(Z A.qH==Z f.qH))=T6
 .rw[mo c]at h;rw[mC]at c;cases hm:Dv e A.qH f.qH with
  |mk a b=>
   rw[hm]at h;cases b with
   |false=>simp at h
   |true=>
    simp at h;exact⟨(EU _ _).1 c.1,by simpa using c.2,li⟩
 .rw[mm c]at h;simp at h
def jA{e a}{A}{f}(d:A.a=f.a)(c:Z A.qH=Z f.qH)(g:Dv e A.qH f.qH=(a,T6)):It e A f=V a:=by
 have h:((A.a.toList==f.a.toList)&&(Z A.qH==Z f.qH))=T6:=qr
 have b:Ca e A f=(a,T6):=by
  unfold Ca;rw[mo h,g]
 unfold It;rw[b];rfl
def CY{s}(n:∀f∈s,IW f):∀(g:kN Bt) (l:kN (kN bN)),(∀e∈l,Z e=26)->(∀x∈g,(x.b==97)=T6->∀t∈x.A.qH,BJ t)->
  ∀a∈qU (Ce s) l g,Z a=26/\∃e∈l,jU e a/\∀x∈g,(x.b==97)=T6->Av a x.A∈s/\∀t∈x.A.qH,(AI a t).size≠0
 |[],l,hl,_,a,he'=>⟨hl a he',a,he',jU.refl a,λx M=>by simp at M⟩
 |x::g,l,hl,hg,a,he'=>by
  rw[mK]at he';have w:∀x∈g,(x.b==97)=T6->∀t∈x.A.qH,BJ t:=λy c=>hg y ss
  by_cases j:(x.b==97)=T6
  .have D:∀b∈Ce s l x,∃e∈l,∃f∈s,It e x.A f=V b:=by
    intro b k;unfold Ce at k;exact qr
   have I:∀b∈Ce s l x,Z b=26:=by
    intro b k;obtain⟨e,d,f,h,m⟩:=D b k;obtain⟨_,r,v⟩:=Uy m;rw[(Hy _ _ _ _ (hl e d) r (hg x ln j) (n f h) v).1.1,hl e d]
   obtain⟨u,b,L,p,q⟩:=CY n g _ I w a he';obtain⟨e,d,f,h,m⟩:=D b L;obtain⟨H,r,v⟩:=Uy m;obtain⟨E,B⟩:=Hy _ _ _ _ (hl e d) r (hg x ln j) (n f h) v;(have C:∀t∈x.A.qH,(AI b t).size≠0:=λt i=>n f h _ (by rw[<-B];exact mx i));(have z:=λt i=>Sl p (C t i));refine⟨u,e,d,E.H p,λy c o=>?_⟩;rcases l9.1 c with rfl|c
   .refine⟨?_,λt i=>by rw[z t i];exact C t i⟩;have:Av a y.A=f:=by
     unfold Av;rw[nj z,B,H]
    rw[this];exact h
   .exact q y c o
  ·(have G:Ce s l x=l:=by unfold Ce;rw[mm j]);rw[G]at he';obtain⟨u,e,d,p,q⟩:=CY n g l hl w a he';refine⟨u,e,d,p,λy c o=>?_⟩;rcases l9.1 c with rfl|c
   .exact rl o j
   .exact q y c o
def I6{s}(σ):∀(a:kN Bt) (l) (e),e∈l->Ej e σ->(∀x∈a,(x.b==97)=T6->(∀t∈x.A.qH,BJ t/\(Eo σ t).size≠0)/\Bq σ x.A∈s)->
  ∃m∈qU (Ce s) l a,Ej m σ
 |[],l,e,he,ha,_=>⟨e,he,ha⟩
 |x::a,l,e,he,ha,hb=>by
  rw[mK];have c:∀y∈a,(y.b==97)=T6->(∀t∈y.A.qH,BJ t/\(Eo σ t).size≠0)/\Bq σ y.A∈s:=λy h=>hb y (by simp[h])
  by_cases b:(x.b==97)=T6
  .obtain⟨j,g⟩:=hb x ln b;obtain⟨d,k,i⟩:=IY σ _ e ha j;refine I6 σ a _ d ?_ i c;unfold Ce;rw[mo b];exact mH.2 ⟨e,he,nY.2 ⟨_,g,jA rfl (by simp[Bq]) k⟩⟩
  ·(have f:Ce s l x=l:=by unfold Ce;rw[mm b]);rw[f];exact I6 σ a l e he ha c
def Ej.start(σ):Ej Bm σ:=by
 refine⟨rfl,λv a b=>j2 ?_⟩;unfold Bm;rw[mq,ry];split<;>rfl
def Fh(body:kN Bt)(t:AK):Prop:=t.v=0\/∃x∈body,(x.b==97)=T6/\∃u∈x.A.qH,u.v=t.v
def Lq(e:kN bN)(v:rC):bN:=e.getD (v.toNat-65) ky
def G2(e t):Eo (Lq e) t=AI e t:=rfl
def J6{s}(k:∀f∈s,IW f){b}(l:∀x∈b,(x.b==97)=T6->∀t∈x.A.qH,BJ t)(a:e∈BN b s):
  ∀x∈b,Cm (Av e) (AI e) s x=T6:=by
 obtain⟨i,g⟩:=my.1 a;obtain⟨_,_,_,_,j⟩:=CY k b [Bm] (λe a=>by simp at a;rw[a];rfl) l e i;intro x d;by_cases c:(x.b==97)=T6
 .unfold Cm;rw[mo c];exact(B1 _ _).2 (j x d c).1
 .have:=(nI.1 g) x d;exact qr
def P2{s}(o:∀f∈s,IW f){a}(l:∀x∈a,(x.b==97)=T6->∀t∈x.A.qH,BJ t)(σ)(p:∀x∈a,Cm (Bq σ) (Eo σ) s x=T6)(C:∀x∈a,(x.b==97)=K->((x.b==33)=T6->∀t∈x.A.qH,Fh a t)/\((x.b==33)=K->Fh a x.L/\Fh a x.R)):
  ∃e∈BN a s,∀t,Fh a t->AI e t=Eo σ t:=by
 have r:∀x∈a,(x.b==97)=T6->(∀t∈x.A.qH,BJ t/\(Eo σ t).size≠0)/\Bq σ x.A∈s:=by
  intro x c b;have h:=p x c;unfold Cm at h;rw[mo b,B1]at h;exact⟨λt g=>⟨l x c b t g,o _ h _ (mx g)⟩,h⟩
 obtain⟨e,i,B⟩:=I6 σ a [Bm] Bm ln (Ej.start σ) r;obtain⟨_,_,_,_,q⟩:=CY o a [Bm] (λe i=>by simp at i;rw[i];rfl) l e i;have j:∀t,Fh a t->AI e t=Eo σ t:=by
  intro t g;rcases g with d|⟨x,c,b,u,n,z⟩
  .unfold AI Eo;rw[mo d,mo d]
  .have w:=(q x c b).2 u n;have k:=B.val (l x c b u n) w;unfold AI Eo at k|-;rw[<-z];by_cases d:u.v=0
   .rw[mo d,mo d]
   .rw[mm d,mm d]at k|-;exact k
 refine⟨e,?_,j⟩;refine my.2 ⟨i,nI.2 λx c=>?_⟩;cases b:(x.b==97)with
 |true=>rfl
 |false=>
  obtain⟨y,m⟩:=C x c b;rw[oO,<-p x c];unfold Cm;simp only[b,ma,rm];cases hk2:(x.b==33)with
  |true=>
   simp only[ro];have:Av e x.A=Bq σ x.A:=by
    unfold Av Bq;rw[nj (λt g=>j t (y hk2 t g))]
   rw[this]
  |false=>
   simp only[ma,rm];rw[j _ (m hk2).1,j _ (m hk2).2]
def Am(c:AW):kN Bt:=c.bl.map kD
def Dr(c:AW)(σ:rC->bN):G9 Ae:=
 ⟨((Am c).filter λx=>x.b==97).map λx=>Bq σ x.A,((Am c).filter λx=>x.b==33).map λx=>Bq σ x.A,Bq σ c.E⟩
def Oy(c:AW)(σ:rC->bN):Prop:=∀x∈Am c,(x.b==97)=K->(x.b==33)=K->Cm (Bq σ) (Eo σ) [] x=T6
def F7(cs:kN AW)(i:G9 Ae):Prop:=∃c∈cs,∃σ,Oy c σ/\i=Dr c σ
def Sx{f}{v}{s t}{x}(a:(x.b==97)=K)(b:(x.b==33)=K):Cm f v s x=Cm f v t x:=by
 unfold Cm;rw[a,b];rfl
def Is(c σ s):(∀x∈Am c,Cm (Bq σ) (Eo σ) s x=T6)↔KL (Dr c σ) (·∈s) (·∈s)/\Oy c σ:=by
 constructor
 .intro h;refine⟨⟨λg i=>?_,λg i l=>?_⟩,λx a f e=>?_⟩
  .obtain⟨x,a,rfl⟩:=me.1 i;obtain⟨a,b⟩:=my.1 a;have d:=h x a;unfold Cm at d;rw[mo b,B1]at d;exact d
  .obtain⟨x,a,rfl⟩:=me.1 i;obtain⟨a,b⟩:=my.1 a;have d:=h x a;have j:(x.b==97)=K:=qr
   unfold Cm at d;rw[mm (by rw[j];simp),mo b,(B1 _ _).2 l]at d;cases d
  .rw[Sx f e (t:=s)];exact h x a
 .rintro ⟨⟨f,e⟩,k⟩ x a;cases b:(x.b==97)with
  |true=>
   unfold Cm;rw[b,mo rfl,B1];exact f _ (me.2 ⟨x,my.2 ⟨a,b⟩,rfl⟩)
  |false=>
   cases hk2:(x.b==33)with
   |true=>
    unfold Cm;rw[b,hk2,mm ln,mo rfl];cases d:C7 s (Bq σ x.A)with
    |false=>rfl
    |true=>exact rl ((B1 _ _).1 d) (e _ (me.2 ⟨x,my.2 ⟨a,hk2⟩,rfl⟩))
   |false=>
    rw[Sx b hk2 (t:=[])];exact k x a b hk2
structure RM(cs:kN AW):Prop where
 qH:∀c∈cs,∀x∈Am c,(x.b==97)=T6->∀t∈x.A.qH,BJ t
 safe:∀c∈cs,∀x∈Am c,(x.b==97)=K->((x.b==33)=T6->∀t∈x.A.qH,Fh (Am c) t)/\((x.b==33)=K->Fh (Am c) x.L/\Fh (Am c) x.R)
 E:∀c∈cs,∀t∈c.E.qH,Fh (Am c) t
structure CP(cs:kN AW)(zQ:bN->Nat):Prop where
 pos:∀c∈cs,∀x∈Am c,(x.b==97)=T6->zQ x.A.a<=zQ c.E.a
 neg:∀c∈cs,∀x∈Am c,(x.b==33)=T6->zQ x.A.a<zQ c.E.a
def CP.zU{k}{j}(h:CP k j):MH (F7 k) (λf=>j f.a):=by
 refine⟨?_,?_⟩
 .rintro i ⟨c,e,σ,_,rfl⟩ g d;obtain⟨x,a,rfl⟩:=me.1 d;obtain⟨a,b⟩:=my.1 a;exact h.pos c e x a b
 .rintro i ⟨c,e,σ,_,rfl⟩ g d;obtain⟨x,a,rfl⟩:=me.1 d;obtain⟨a,b⟩:=my.1 a;exact h.neg c e x a b
def fR{b}{a}(l:CP b a)(w:RM b){d s:kN Ae}(u:D8 (F7 b) (λf=>a f.a) n (·∈s))(x:∀f∈d,f∈s)(t:∀f∈s,f∈d\/a f.a=n)(q:∀f∈d,IW f){c}(p:c∈b)(o:a c.E.a=n)(y:e∈BN (Am c) d):D8 (F7 b) (λf=>a f.a) n (λf=>f∈s\/f=Av e c.E):=by
 have r:=J6 q (w.qH c p) y;have j:=(Is c (Lq e) d).1 r;have m:F7 b _:=⟨c,p,Lq e,j.2,rfl⟩;have k:(Dr c (Lq e)).E=Av e c.E:=rfl;have:=u.step _ _ l.zU m oa ⟨λg i=>x g (j.1.1 g i),λg i v=>by
  rcases t g v with h|h
  .exact j.1.2 g i h
  .have A:=l.zU.neg _ m g i
   have z:a (Dr c (Lq e)).E.a=n:=oa
   omega⟩
 exact this
def dD{a}{b:bN->Nat}(g:RM a){s}(j:D8 (F7 a) (λf=>b f.a) n (·∈s))(v:∀f∈s,IW f)(k:∀c∈a,b c.E.a=n->∀e∈BN (Am c) s,Av e c.E∈s):D8 (F7 a) (λf=>b f.a) (n+1) (·∈s):=by
 refine j.next _ _ ?_;rintro i ⟨c,d,σ,p,rfl⟩ w u;have o:=(Is c σ s).2 ⟨u,p⟩;obtain⟨e,l,m⟩:=P2 v (g.qH c d) σ o (g.safe c d);have h:=k c d w e l;have r:Av e c.E=Bq σ c.E:=by
  unfold Av Bq;rw[nj (λt q=>m t (g.E c d t q))]
 rw[r]at h;exact h
def gL{a}{b d}(p:CP a b)(o:CP a d){M N}(k:D8 (F7 a) (λf=>b f.a) n M)(r:D8 (F7 a) (λf=>d f.a) m N)(l:∀c∈a,b c.E.a<n)(q:∀c∈a,d c.E.a<m):∀f,M f↔N f:=by
 have j:=k.done _ _ (λi g=>by obtain⟨c,e,σ,_,rfl⟩:=g;exact l c e);have h:=r.done _ _ (λi g=>by obtain⟨c,e,σ,_,rfl⟩:=g;exact q c e);exact cU _ _ _ p.zU o.zU j.1 j.2 h.1 h.2
def JE{f}(h:Cf w z f)(k d):
  ∃g s a j i e l b m,z=U (V ⟨g,0,Y⟩) (Z f) s/\f[k]=⟨a,U j (Z a.qH) i,U e (Z b) l,b,m⟩/\XG w ⟨a,U j (Z a.qH) i,U e (Z b) l,b,m⟩/\
   jY w ⟨g,k*5,Y⟩=V (O a.a)/\jY w ⟨g,k*5+1,Y⟩=V (U j (Z a.qH) i)/\jY w ⟨g,k*5+2,Y⟩=V (X J a.e)/\jY w ⟨g,k*5+3,Y⟩=V (U e (Z b) l):=by
 obtain⟨g,s,y,_,n⟩:=Az h.row (λc _=>B6 c) k d;have o:=h.j _ (lV d);have t:=n k d 0 lc;have r:=n k d 1 lc;have p:=n k d 2 lc;have q:=n k d 3 lc;obtain⟨⟨a,A,B,b,m⟩,x⟩:∃c,f[k]=c:=⟨_,rfl⟩;rw[x]at t r p q o;obtain⟨j,i,v⟩:=Aj o.qH;obtain⟨e,l,u⟩:=Aj o.body;simp at v u;subst v u;exact⟨g,s,a,j,i,e,l,b,m,y,x,o,t,r,p,q⟩
theorem Tryz.info3:(Tryz.prog.info? 3).map (λi=>(i.zero,i.size,i.bytes))=V (V (X J 0),1,8):=lo
def Cp(n:Nat):kN jR:=[X J n]
theorem YW(f:bN->Nat)(A R N)(cs:kN AW)(w)(L:AF w A [U R (Z cs) N] 76)(M:Cf w (U R (Z cs) N) cs)(FA:Z cs<=1000)(G:∀(x:bN) (z:jH),Ac [] w z->rE rF 190 #[jj (V ⟨A,0,Y⟩),O x,X J 6] z λe n=>e=j1 (X J (f x))/\Ac [] z n):rE rF 155 #[jj (V ⟨A,0,Y⟩)] w λe n=>∃b d,e=j1 (U b (Z cs) d)/\kt n w.heap.size 3 1 (U b (Z cs) d) (Z cs) (qS Cp (cs.map λc=>f c.E.a))/\Ac [] w n:=by
 obtain⟨i0,CW,AO,BA,B0⟩:=mW Tryz.info3;have HP:=Ab L;have S:=Ab M;have BS:=Ab G;clear L M G;go_enter func155,ntmps155;go_wp2
 go_loopg [3,4] (Z cs) (λgk o i wr=>∃(k:Nat) (a:kN Nat) (b:rB) (d:Nat),o=U b (Z a) d/\i=X J k/\k<=Z cs/\gk=Z cs-k/\Z a<=1000/\jV (a=(qT k cs).map λc=>f c.E.a)/\kt wr w.heap.size 3 1 (U b (Z a) d) (Z a) (qS Cp a)/\jV (Ac [] w wr))
 case atStart=>exact⟨0,[],Y,0,rfl,rfl,lc,rfl,ln,se,mw _ _ _ _,kR _ _⟩
 case round=>
  obtain⟨k,a,b,d,rfl,rfl,hk,F,FP,y,s,j⟩:=hrel;have HG:=Ab F;clear F;have H:=(HP.C j).D 0;simp at H;have FO:=j.size;by_cases C:k<Z cs
  .obtain⟨g,EY,m,FC,E0,EM,FT,bl,a5,I,P,B9,d0,d1,T,W⟩:=JE (S.C j) k C;obtain⟨rfl,_,rfl⟩:=qX I;have u:=Ab (BS m.a wr j);have B:jV (a++[f m.a]=(qT (k+1) cs).map λc=>f c.E.a):=by
    show _=_;rw[lW C,mO,Aa y,P];rfl
   (have E:Z (a++[f m.a])<=1000:=by rw[Aa B];simp;omega);generalize f m.a=v at u B E;clear B9 P d1 T W y;(go_wp2_with fail);refine u.G ?_;rintro e p ⟨rfl,r⟩;have CL:=Ab (j.H r);have D:=Ad s r;have EK:=r.size;(have HF:jV (∀l,(p.alloc (Y6 #[X J v] 3)).grownBy l (U b (Z a) d).ownBlock->Ac [] w l):=λl hg=>(CL.alloc _).grown hg (λq hq=>j3 ((D.lt q hq).1)));clear u r H d0 s;go_wp2_with (at_builtin;refine mE _ rfl (.tmp 14) (.tmp 26) _ rfl w.heap.size 3 i0 _ 1 8 underlying221 CW AO BA B0 rfl lc (U b (Z a) d) (Z a) (qS Cp a) rfl (mg D _) ⟨p.heap.size,0,Y⟩ 1 1 [X J v] rfl rfl (mz (mG p _)) lC lc lw lc li (p.heap.size+1) ln ?_;intro g9 AH l Ax CC FL FF)
   go_roundg (Z cs-(k+1))
   case measure=>exact qu
   case rel=>exact⟨k+1,a++[v],V ⟨g9,0,Y⟩,AH,ln,ly,lc,rfl,E,B,by simpa[Cp] using Ax,HF l CC⟩
  .have Q:jV (a=cs.map λc=>f c.E.a):=by
    have h:=Aa y;rw[lY lc]at h;exact h
   (have A2:jV (Z cs=Z a):=by show _=_;rw[Aa Q];simp);go_wp2;go_ret;rw[Aa A2,<-Aa Q];exact⟨b,d,rfl,s,j⟩
def OJ(f:bN->Nat)(p:Bc):Nat:=if p.1.b==97 then f p.1.A.a else if p.1.b==33 then f p.1.A.a+1 else 0
def Jn(f:bN->Nat)(n:Nat)(bl:kN Bc):Nat:=bl.foldl (λn p=>max n (OJ f p)) n
def I9(f:bN->Nat)(x:bN)(n:Nat)(c:AW):Nat:=if c.E.a.toList==x.toList then Jn f n c.bl else n
def BW(cs:kN AW):Nat->bN->Nat
 |0,_=>0
 |d+1,x=>qU (I9 (BW cs d) x) 0 cs
def ax{f}{b}(c:∀y,f y+1<=b):∀a n,n<=b->Jn f n a<=b
 |[],n,h=>h
 |p::a,n,h=>by
  unfold Jn;rw[mK];refine ax c a _ ?_;have:OJ f p<=b:=by
   unfold OJ;have:=c p.1.A.a;split
   .omega
   .split
    .omega
    .omega
  omega
def RC(a):∀d x,BW a d x<=d
 |0,_=>mt _
 |d+1,x=>by
  have b:∀(l:kN AW) (n:Nat),n<=d+1->qU (I9 (BW a d) x) n l<=d+1:=by
   intro l
   induction l with
   |nil=>exact ln
   |cons c l ih=>
    intro n h;refine ih _ ?_;unfold I9;split
    .exact ax (λy=>by have:=RC a d y;omega) c.bl n h
    .exact h
  exact b a 0 lc
def bT(f n){a:kN Bc}(b):Jn f n (qT (k+1) a)=max (Jn f n (qT k a)) (OJ f a[k]):=by
 unfold Jn;rw[lW b,m6];rfl
def dM(f x a):qU (I9 f x) 0 (qT (k+1) c)=I9 f x (qU (I9 f x) 0 (qT k c)) c[k]:=by
 rw[lW a,m6];rfl
def Zx{d:kN Bc}(h:kt w 0 95 9 z (Z d) (qS A4 d))(D:∀p∈d,Cc w 0 p)(k)(a:k<Z d):
  ∃g m x e f,z=U (V ⟨g,0,Y⟩) (Z d) m/\d[k]=(x,U e (Z x.A.qH) f)/\Cc w 0 (x,U e (Z x.A.qH) f)/\
   jY w ⟨g,k*9,Y⟩=V (X .u8 x.b.toNat)/\jY w ⟨g,k*9+1,Y⟩=V (O x.A.a)/\jY w ⟨g,k*9+2,Y⟩=V (U e (Z x.A.qH) f)/\jY w ⟨g,k*9+3,Y⟩=V (X J x.A.e)/\
   jY w ⟨g,k*9+4,Y⟩=V (X .u8 x.L.v.toNat)/\jY w ⟨g,k*9+5,Y⟩=V (O x.L.s)/\jY w ⟨g,k*9+6,Y⟩=V (X .u8 x.R.v.toNat)/\jY w ⟨g,k*9+7,Y⟩=V (O x.R.s)/\jY w ⟨g,k*9+8,Y⟩=V (X J x.e):=by
 obtain⟨g,m,E,_,b⟩:=Az h (λc _=>B4 c) k a;have r:=D _ (lV a);have q:=b k a 0 lc;have l:=b k a 1 lc;have i:=b k a 2 lc;have j:=b k a 3 lc;have y:=b k a 4 lc;have t:=b k a 5 lc;have o:=b k a 6 lc;have n:=b k a 7 lc;have u:=b k a 8 lc;obtain⟨⟨x,F⟩,C⟩:∃c,d[k]=c:=⟨_,rfl⟩;rw[C]at q l i j y t o n u r;obtain⟨e,f,B⟩:=Aj r;simp at B;subst B;exact⟨g,m,x,e,f,E,C,r,q,l,i,j,y,t,o,n,u⟩
theorem Y7(g f d)(a:kN AW)(o:Z a<=1000)(x:bN)(w)(c:AF w g [U f (Z a) d] 76)(j:Cf w (U f (Z a) d) a):rE rF 190 #[jj (V ⟨g,0,Y⟩),O x,X J 0] w λe h=>e=j1 (X J (BW a 0 x))/\Ac [] w h:=by
 have k:=c.D 0;simp at k;have b:jV (BW a 0 x=0):=rfl;generalize BW a 0 x=R at b|-;clear c j;go_enter func190,ntmps190;go_wp2
 go_loopg [7,8] 1 (λgk n i wr=>n=X J 0/\i=X J 0/\wr=w)
 case atStart=>exact⟨rfl,rfl,rfl⟩
 case round=>
  obtain⟨rfl,rfl,rfl⟩:=hrel;by_cases m:0<Z a
  ·have l:(0:Int)<(Z a:Int):=lc;go_wp2;go_ret;rw[Aa b];exact⟨rfl,kR _ _⟩
  ·have l:¬(0:Int)<(Z a:Int):=lc;go_wp2;go_ret;rw[Aa b];exact⟨rfl,kR _ _⟩
theorem ZK(L HH T)(a:kN AW)(H5:Z a<=1000)(E0:∀c∈a,Z c.bl<=1000)(d:Nat)(x:bN)(w)(hP:AF w L [U HH (Z a) T] 76)(hR:Cf w (U HH (Z a) T) a)(hd:d+1<=100)(A2:jV (∀(y:bN) (p:jH),Ac [] w p->rE rF 190 #[jj (V ⟨L,0,Y⟩),O y,X J d] p λe w'=>e=j1 (X J (BW a d y))/\Ac [] p w')):rE rF 190 #[jj (V ⟨L,0,Y⟩),O x,X J ((d:Int)+1)] w λe w'=>e=j1 (X J (BW a (d+1) x))/\Ac [] w w':=by
 have CC:jV (∀y,BW a d y<=d):=λy=>RC a d y
 have HP:=Ab hP;have AR:=Ab hR;have HZ:=Ab E0;obtain⟨R,z⟩:=kQ (BW a (d+1) x);rw[z];rw[BW]at z;generalize BW a d=f at A2 CC z;have HX:=Ab z;clear hP hR E0 z;have IA:(0:Int)<(d:Int)+1:=lc
 go_enter func190,ntmps190;go_wp2
 go_loopg [7,8] (Z a) (λgk o i wr=>∃(k n:Nat),o=X J n/\i=X J k/\k<=Z a/\gk=Z a-k/\jV (qU (I9 f x) 0 (qT k a)=n)/\jV (Ac [] w wr))
 case atStart=>exact⟨0,0,rfl,rfl,lc,rfl,se,kR _ _⟩
 case round=>
  obtain⟨k,n,rfl,rfl,hk,FT,H,C⟩:=hrel;have HG:=Ab FT;clear FT;have p0:=(HP.C C).D 0;simp at p0;by_cases q:k<Z a
  .obtain⟨g,IS,I,H2,HL,FA,EM,b,a5,he,N,H1,d0,d1,d2,d3⟩:=JE (AR.C C) k q;obtain⟨rfl,_,rfl⟩:=qX he;have Df:=Ab (dM f x q);have ES:=Aa HZ _ (lV q);rw[N]at Df ES;rw[Aa H]at Df;simp only[I9]at Df ES;cases hnm:(I.a.toList==x.toList)with
   |false=>
    have W:jV (qU (I9 f x) 0 (qT (k+1) a)=n):=by
     have h:=Aa Df;rw[hnm]at h;exact h
    clear Df H;go_wp2
    go_loopg [7,9] 1 (λgj o i Q=>o=X J n/\i=X J 0/\wr=Q)
    case atStart=>exact⟨rfl,rfl,rfl⟩
    case round=>
     obtain⟨rfl,rfl,rfl⟩:=hrel;go_wp2
     go_roundg (Z a-(k+1))
     case measure=>exact qu
     case rel=>exact⟨k+1,n,rfl,ly,lc,rfl,W,C⟩
   |true=>
    have W:jV (qU (I9 f x) 0 (qT (k+1) a)=Jn f n b):=by
     have h:=Aa Df;rw[hnm]at h;exact h
    clear Df H;have H0:jV (∀p,Ac [] w p->jY p ⟨g,k*5,Y⟩=V (O I.a)/\jY p ⟨g,k*5+3,Y⟩=V (U FA (Z b) EM)/\jY p ⟨L,0,Y⟩=V (U (V ⟨g,0,Y⟩) (Z a) T)/\XG p ⟨I,U H2 (Z I.qH) HL,U FA (Z b) EM,b,a5⟩):=by
     intro p FW;have A1:=AR.C FW;obtain⟨g',H6,Bx,_,CL⟩:=Az A1.row (λc _=>B6 c) k q;simp only[lU,lZ,mR]at Bx;obtain⟨⟨rfl,_,_⟩,_,_⟩:=Bx;have u:=CL k q 0 lc;have v:=CL k q 3 lc;have z4:=A1.j _ (lV q);rw[N]at u v z4;simp[BH]at u v;have pz:=(HP.C FW).D 0;exact⟨u,v,by simpa using pz,z4⟩
    go_wp2;clear H1 N d0 d1 d2 d3 p0
    go_loopg [7,9] (Z b) (λgj o i Q=>∃(m j:Nat),o=X J j/\i=X J m/\m<=Z b/\gj=Z b-m/\jV (Jn f n (qT m b)=j)/\jV (Ac [] w Q))
    case atStart=>exact⟨0,n,rfl,rfl,lc,rfl,by show _=_;simp[Jn],C⟩
    case round=>
     obtain⟨m,j,rfl,rfl,hm,BA,M,AO⟩:=hrel;have F:=Ab BA;clear BA;obtain⟨u,v,zp,S⟩:=H0 _ AO;by_cases CW:m<Z b
     .obtain⟨gb,H9,y,Ha,DT,EX,BS,HY,e0,e1,e2,e3,e4,e5,e6,e7,e8⟩:=Zx S.body S.g m CW;obtain⟨rfl,_,rfl⟩:=qX EX;have Ax:=Ab (bT f n CW);rw[Aa M,BS]at Ax;have HR:=Aa CC y.A.a;have t:=Ab (AO.alloc (Y6 (Za (Cy y (U Ha (Z y.A.qH) DT))) 95));have P:=Ab (kS wr (Cy y (U Ha (Z y.A.qH) DT)) 95);have r:=Ab (A2 y.A.a _ t);clear BS HY S M;simp only[Cy]at t P r;have s:jV (Jn f n (qT (m+1) b)=max j (if y.b==97 then f y.A.a else if y.b==33 then f y.A.a+1 else 0)):=Ax;clear Ax;generalize f y.A.a=fy at r HR s;have EK:((y.b.toNat:Int)==97)=(y.b==97):=Cu _ 97;have AH:((y.b.toNat:Int)==33)=(y.b==33):=Cu _ 33;cases hk97:(y.b==97)with
      |true=>
       (have B:jV (Jn f n (qT (m+1) b)=max j fy):=by have h:=Aa s;rw[hk97]at h;exact h);rw[hk97]at EK;clear s hk97 AH;(go_wp2_with fail);refine r.G ?_;rintro e w5 ⟨rfl,D⟩;have E:=Ab (t.H D);clear r t P D u v zp e0 e1 e2 e3 e4 e5 e6 e7 e8;by_cases HU:j<fy
       ·have G:(j:Int)<(fy:Int):=lc;(have l:jV (Jn f n (qT (m+1) b)=fy):=by show _=_;rw[Aa B];omega);go_wp2
        go_roundg (Z b-(m+1))
        case measure=>exact qu
        case rel=>exact⟨m+1,fy,rfl,ly,lc,rfl,l,E⟩
       ·have G:¬(j:Int)<(fy:Int):=lc;(have l:jV (Jn f n (qT (m+1) b)=j):=by show _=_;rw[Aa B];omega);go_wp2
        go_roundg (Z b-(m+1))
        case measure=>exact qu
        case rel=>exact⟨m+1,j,rfl,ly,lc,rfl,l,E⟩
      |false=>
       rw[hk97]at EK;cases hk33:(y.b==33)with
       |true=>
        (have B:jV (Jn f n (qT (m+1) b)=max j (fy+1)):=by have h:=Aa s;rw[hk97,hk33]at h;exact h);rw[hk33]at AH;clear s hk97 hk33;(go_wp2_with fail);refine r.G ?_;rintro e w5 ⟨rfl,D⟩;have E:=Ab (t.H D);clear r t P D u v zp e0 e1 e2 e3 e4 e5 e6 e7 e8;by_cases HU:j<fy+1
        ·have G:(j:Int)<(fy:Int)+1:=lc;(have l:jV (Jn f n (qT (m+1) b)=fy+1):=by show _=_;rw[Aa B];omega);go_wp2
         go_roundg (Z b-(m+1))
         case measure=>exact qu
         case rel=>exact⟨m+1,fy+1,ly,ly,lc,rfl,l,E⟩
        ·have G:¬(j:Int)<(fy:Int)+1:=lc;(have l:jV (Jn f n (qT (m+1) b)=j):=by show _=_;rw[Aa B];omega);go_wp2
         go_roundg (Z b-(m+1))
         case measure=>exact qu
         case rel=>exact⟨m+1,j,rfl,ly,lc,rfl,l,E⟩
       |false=>
        (have l:jV (Jn f n (qT (m+1) b)=j):=by have h:=Aa s;rw[hk97,hk33]at h;show _=_;rw[h];simp);rw[hk33]at AH;clear s hk97 hk33 r;have G:¬(j:Int)<0:=lc;go_wp2
        go_roundg (Z b-(m+1))
        case measure=>exact qu
        case rel=>exact⟨m+1,j,rfl,ly,lc,rfl,l,t⟩
     .have l:jV (qU (I9 f x) 0 (qT (k+1) a)=j):=by
       have h:=Aa M;rw[lY lc]at h;show _=_;rw[Aa W,h]
      clear M;go_wp2
      go_roundg (Z a-(k+1))
      case measure=>exact qu
      case rel=>exact⟨k+1,j,rfl,ly,lc,rfl,l,AO⟩
  .have HE:jV (n=R):=by
    have h:=Aa H;rw[lY lc,Aa HX]at h;exact h.symm
   go_wp2;go_ret;rw[<-Aa HE];exact⟨rfl,C⟩
def UR(i h g)(a:kN AW)(k:Z a<=1000)(m:∀c∈a,Z c.bl<=1000)(d:Nat):
  ∀(x:bN) (w),AF w i [U h (Z a) g] 76->Cf w (U h (Z a) g) a->d<=100->
  rE rF 190 #[jj (V ⟨i,0,Y⟩),O x,X J d] w λe n=>e=j1 (X J (BW a d x))/\Ac [] w n:=by
 induction d with
 |zero=>exact λx w b f _=>Y7 i h g a k x w b f
 |succ d ih=>exact λx w b f l=>ZK i h g a k m d x w b f l (λy o j=>ih y o (b.C j) (f.C j) lc)
def ib(e:kN bN)(v:Nat)(s:bN):bN:=if v=0 then s else e.getD (v-65) ky
theorem Re(b E:Nat)(e:kN bN)(v:Nat)(s:bN)(w)(F:Z e=26)(o:AF w b (Al e) E)(p:v=0\/(65<=v/\v<=90)):rE rF 180 #[jj (V ⟨b,0,Y⟩),ku #[Value.int .i32 v,O s]] w λr f=>r=j1 (O (ib e v s))/\Ac [] w f:=by
 have x:=o.lt;have I:Z (Al e)=26:=by unfold Al;simp[F]
 have q:jV (∀i (h:i<26),(Al e)[i]?=V (O (e.getD i ky))):=by
  intro i h;unfold Al;rw[no,mq,mc lc];rfl
 obtain⟨R,n⟩:=kQ (ib e v s);rw[n];have m:jV ((if v=0 then s else e.getD (v-65) ky)=R):=n;have k:=Ab ((kR [] w).alloc (Y6 #[.int .i32 v,O s] 215));have g:=Ab (o.alloc (Y6 #[.int .i32 v,O s] 215));clear n;by_cases a:v=0
 .have c:jV (s=R):=by have h:=Aa m;rw[mo a]at h;exact h
  subst a;go_enter func180,ntmps180;go_wp2;go_ret;rw[<-Aa c];exact⟨rfl,k⟩
 .have c:jV (e.getD (v-65) ky=R):=by have h:=Aa m;rw[mm a]at h;exact h
  have C:65<=v/\v<=90:=by
   rcases p with h|h
   .exact rl h a
   .exact h
  have z:((v:Int)==0)=K:=sy
  obtain⟨j,t⟩:=kQ (v-65);have A:v=j+65:=lc
  rw[t]at c;have y:j<26:=lc
  subst A;have B:(((j+65:Nat)):Int)=(j:Int)+65:=lc
  rw[B]at k g z|-;have l:=g.D j;rw[Aa q j y]at l;generalize e.getD j ky=X at c l;have d:=kS w [.int .i32 ((j:Int)+65),O s] 215;clear m t C p a o q;have M:=rJ j
  have H:(j:Int)<26:=lc
  have D:IntKind.i32.wrap (j:Int)=j:=by rw[IntKind.wrap_i32];omega
  have G:IntKind.i32.wrap ((j:Int)+65-65)=j:=by rw[show(j:Int)+65-65=j by omega];exact D
  go_enter func180,ntmps180;go_wp2;change Code.wp _ _ _ _ (w.alloc (Y6 #[.int .i32 ((j:Int)+65),O s] 215));generalize w.alloc (Y6 #[.int .i32 ((j:Int)+65),O s] 215)=w1 at k g d l|-;generalize w.heap.size=N at d x|-;have u:=d.D 0;simp at u;have L:=Ab d;clear d g
  go_region_held3 (λf=>jY f ⟨b,j,Y⟩=V (O X)/\jY f ⟨N,0,Y⟩=V (.int .i32 ((j:Int)+65))) (go_keep) (fail)
  go_wp2;all_goals
   go_ret;rw[<-Aa c];refine⟨rfl,?_⟩
   repeat (first|exact k|refine Ac.drew ?_|refine Ac.alloc ?_ _|refine Ac.drewN ?_ _)
def OA{l:kN AK}(h:kt w n 93 2 z (Z l) (qS AP l))(k a):
  ∃g b,z=U (V ⟨g,0,Y⟩) (Z l) b/\jY w ⟨g,k*2,Y⟩=V (X .u8 l[k].v.toNat)/\jY w ⟨g,k*2+1,Y⟩=V (O l[k].s):=by
 obtain⟨g,b,i,_,f⟩:=Az h (λc _=>FR c) k a;have d:=f k a 0 lc;have e:=f k a 1 lc;exact⟨g,b,i,d,e⟩
structure Xf(w:jH)(N:Nat)(E:kN jR)(nm:bN)(av:jR)(j:Nat)(ts:kN AK)(fv:jR):Prop where
 b0:AF w N E 90
 b1:AF w (N+1) [O nm,av,X J j] 79
 b2:AF w (N+1+1) [O ⟨#[]⟩,U Y 0 0] 43
 b3:AF w (N+1+1+1) [O nm,fv] 43
 row:kt w 0 93 2 av (Z ts) (qS AP ts)
 low:∀q,av.ownBlock=V q->q<N
def Xf.C{w w'}{N}{E}{d}{c}{j}{b}{a}(h:Xf w N E d c j b a)(k:Ac [] w w'):Xf w' N E d c j b a:=
 ⟨h.b0.C k,h.b1.C k,h.b2.C k,h.b3.C k,Ad h.row k,h.low⟩
def Xf.grown{w d}{N}{E}{c}{b}{j}{f}{g}{r}(h:Xf w N E c b j f g)(k:w.grownBy d r)(a:∀q,r=V q->N+1+1+1+1<=q):Xf d N E c b j f g:=
 ⟨h.b0.grown k (λe=>by have:=a _ e;omega),h.b1.grown k (λe=>by have:=a _ e;omega),h.b2.grown k (λe=>by have:=a _ e;omega),h.b3.grown k (λe=>by have:=a _ e;omega),
  nF (v:=b) h.row k (by
   cases hv:b.ownBlock with
   |none=>exact ln
   |some q=>exact j3 (λe=>by have:=h.low q hv;have:=a q e.symm;omega)),h.low⟩
theorem Pr(e:kN bN)(A u c w)(he:Z e=26)(hA:kt w 0 93 2 (U u (Z A.qH) c) (Z A.qH) (qS AP A.qH))(HQ:Z A.qH<=1000)(hg:∀t∈A.qH,t.v=0\/(65<=t.v.toNat/\t.v.toNat<=90)):rE rF 48 #[ku (Za (Al e)),ku (Za (CN A.a (U u (Z A.qH) c) A.e))] w λr w'=>∃x y,r=j1 (ku (Za (Bj ⟨Av e A,U x (Z A.qH) y⟩)))/\DR w' ⟨Av e A,U x (Z A.qH) y⟩/\(∀q,(U x (Z A.qH) y).ownBlock=V q->w.heap.size<=q)/\Ac [] w w':=by
 obtain⟨i0,H8,HX,H9,H3⟩:=mW Tryz.zk;obtain⟨b,a,j⟩:=A;simp at hA HQ hg|-;have HV:jV _:=λt wr ht=>Mf e t wr he (hg t ht)
 have HF:jV (∀x y wr,kt wr 0 9 1 (U x (Z a) y) (Z a) (qS Ai (a.map (AI e)))->DR wr ⟨Av e ⟨b,a,j⟩,U x (Z a) y⟩):=by
  intro x y wr h;show kt wr 0 9 1 _ (Z (a.map (AI e))) _;rw[mh];exact h
 have EM:jV (∀x y,Bj ⟨Av e ⟨b,a,j⟩,_⟩=[O b,U x (Z a) y]):=λx y=>rfl
 generalize Av e ⟨b,a,j⟩=FP at HF EM|-;have hc:=Bp e;have hl:Z (Al e)=26:=by unfold Al;simp[he]
 generalize Al e=E at hc hl HV|-;have z:=Ab (((kR [] w).alloc (Y6 (Za E) 90)).alloc (Y6 (Za (CN b (U u (Z a) c) j)) 79));have HB:=Ab ((kS w E 90).alloc (Y6 (Za (CN b (U u (Z a) c) j)) 79));have HA:=Ab hA;simp only[CN]at z HB|-;clear hA hg;go_enter func48,ntmps48;go_wp2_with fail
 obtain⟨N,W⟩:=kQ w.heap.size;have E0:Xf ((((w.alloc (Y6 (Za E) 90)).alloc (Y6 #[O b,U u (Z a) c,X J ↑j] 79)).alloc (Y6 #[O {data:=#[]},U Y 0 0] 43)).alloc (Y6 #[O b,U Y 0 0] 43)) N E b (U u (Z a) c) j a (U Y 0 0):=by
  have b1:=kS (w.alloc (Y6 (Za E) 90)) [O b,U u (Z a) c,X J j] 79;have b2:=kS ((w.alloc (Y6 (Za E) 90)).alloc (Y6 #[O b,U u (Z a) c,X J ↑j] 79)) [O ⟨#[]⟩,U Y 0 0] 43;have b3:=kS (((w.alloc (Y6 (Za E) 90)).alloc (Y6 #[O b,U u (Z a) c,X J ↑j] 79)).alloc (Y6 #[O {data:=#[]},U Y 0 0] 43)) [O b,U Y 0 0] 43;simp only[mJ,W]at b1 b2 b3;have b0:=Aa HB;rw[W]at b0;exact⟨(b0.alloc _).alloc _,(b1.alloc _).alloc _,b2.alloc _,b3,Ad HA (z.alloc _|>.alloc _),λq D=>by have:=(HA.lt q D).2;omega⟩
 have A1:=Ab E0;have B0:=Ab ((z.alloc (Y6 #[O {data:=#[]},U Y 0 0] 43)).alloc (Y6 #[O b,U Y 0 0] 43));rw[W];have S:=Ab W;clear E0 z HB HA W;change Code.wp _ _ _ _ ((((w.alloc (Y6 (Za E) 90)).alloc (Y6 #[O b,U u (Z a) c,X J ↑j] 79)).alloc (Y6 #[O {data:=#[]},U Y 0 0] 43)).alloc (Y6 #[O b,U Y 0 0] 43));generalize((((w.alloc (Y6 (Za E) 90)).alloc (Y6 #[O b,U u (Z a) c,X J ↑j] 79)).alloc (Y6 #[O {data:=#[]},U Y 0 0] 43)).alloc (Y6 #[O b,U Y 0 0] 43))=w1 at A1 B0|-
 go_loopg [6] (Z a) (λgk i wr=>∃(k:Nat) (f:rB) (d:Nat),i=X J k/\k<=Z a/\gk=Z a-k/\jV (Xf wr N E b (U u (Z a) c) j a (U f k d))/\jV (kt wr (N+1+1+1+1) 9 1 (U f k d) k (qS Ai ((qT k a).map (AI e))))/\jV (Ac [] w wr))
 case atStart=>exact⟨0,Y,0,rfl,lc,rfl,A1,mw _ _ _ _,B0⟩
 case round=>
  clear A1 B0;obtain⟨k,f,d,rfl,hk,HI,o,Q,z⟩:=hrel;have HG:=Ab HI;clear HI;have HD:=o.b1.D 1;simp at HD;by_cases AB:k<Z a
  .obtain⟨g,F,Ha,d0,d1⟩:=OA o.row k AB;obtain⟨rfl,_,rfl⟩:=qX Ha;obtain⟨T,P⟩:=kQ (a[k]);(have HR:jV (T∈a):=by rw[<-P];exact lV AB);have HW:jV _:=P;rw[P]at d0 d1;obtain⟨KB,Jx⟩:=rI lc;have L:jV (∀l,Xf l N E b (U (V ⟨g,0,Y⟩) (Z a) c) j a (U f k d)->l.rangeAt N 0 E/\jY l ⟨N+1+1+1,1,Y⟩=V (U f k d)/\jY l ⟨N+1,1,Y⟩=V (U (V ⟨g,0,Y⟩) (Z a) c)/\jY l ⟨g,k*2,Y⟩=V (X .u8 T.v.toNat)/\jY l ⟨g,k*2+1,Y⟩=V (O T.s)):=by
    intro l H;obtain⟨g',JJ,ES,f0,f1⟩:=OA H.row k AB;obtain⟨⟨rfl,_,_⟩,_,_⟩:=ES;rw[P]at f0 f1;have x3:=H.b3.D 1;have x1:=H.b1.D 1;exact⟨H.b0.range,x3,x1,f0,f1⟩
   clear P;have B:=Ab (L _ (o.C (kR [] wr).drew));(go_wp2_with fail);refine Cx 12 (λl=>l.rangeAt N 0 E/\jY l ⟨N+1+1+1,1,Y⟩=V (U f k d)/\jY l ⟨N+1,1,Y⟩=V (U (V ⟨g,0,Y⟩) (Z a) c)/\jY l ⟨g,k*2,Y⟩=V (X .u8 T.v.toNat)/\jY l ⟨g,k*2+1,Y⟩=V (O T.s)) lo ?_;refine Cw.tq (i:=0) (v:=jj (V ⟨N+1+1+1,1,Y⟩)) rfl (λ_ _ _ h=>h) B ?_;simp only[kF,lR,lS,lT];refine Cw.tq (i:=1) (v:=U f k d) rfl (λ_ _ _ h=>h) B ?_;simp only[kF,lR,lS,lT];refine Cw.take (i:=2) (v:=ku _) rfl lo lo lo lo (λ_ _ _ h=>h) B (yieldsIf_load_mid lx 90 _ rfl N 0 lx E _ (λl H=>H.1) underlying90 rfl (by rw[hl];exact lx)) ?_;simp only[kF,lR,lS,lT];refine Cw.tq (i:=3) (v:=jj (V ⟨N+1,1,Y⟩)) rfl (λ_ _ _ h=>h) B ?_;simp only[kF,lR,lS,lT];refine Cw.tq (i:=4) (v:=U (V ⟨g,0,Y⟩) (Z a) c) rfl (λ_ _ _ h=>h) B ?_;simp only[kF,lR,lS,lT];refine Cw.tq (i:=5) (v:=X J k) rfl (λ_ _ _ h=>h) B ?_;simp only[kF,lR,lS,lT];refine Cw.tq (i:=6) (v:=jj (V ⟨g,k*2,Y⟩)) rfl (λ_ _ _ h=>h) B ?_;simp only[kF,lR,lS,lT];refine Cw.tk (i:=7) (v:=ku (Za (AP T))) rfl lo (λ_ _ _ h=>h) B lx ?_ ?_
   ·(intro l JA;simp only[AP];go_simp)
   simp only[kF,lR,lS,lT];refine Cw.one (i:=8) lo rfl (λC m=>?_)
   go_simp
   obtain⟨M,hV⟩:=kQ (AI e T);have Bx:=Ab (HV T wr.drew HR);rw[hV]at Bx;have H7:=Ab hV;clear hV;refine Bx.G ?_;rintro _ I ⟨rfl,R⟩;have Ax:=o.C ((kR [] wr).drew.H R);refine m.o _ _ (λ_=>L I Ax) ?_;clear m C Bx
   try simp only[kF,lR,lS,lT]
   refine Cw.one (i:=9) lo rfl (λC m=>?_)
   go_simp
   have B2:=Ax.C ((kR [] I).alloc (Y6 #[O M] 9));refine m.o _ _ (λ_=>L _ B2) ?_;clear m C
   try simp only[kF,lR,lS,lT]
   have AO:=Ad Q ((kR [] wr).drew.H R);have IA:=R.size;(have IS:N+1+1+1+1<=I.heap.size:=by have:=Ax.b3.lt;omega);refine Cw.one (i:=10) lo rfl (λC m=>?_);refine oJ _ lx _ _ _ lx _ 9 i0 _ 1 16 underlying41 H8 HX H9 H3 rfl lc _ k _ lx (mg AO _)
         _ 1 1 [O M] lx lx (mz (mG I _)) lC
         lc lw lc li (I.heap.size+1) ln ?_
   intro G F w5 BT BS H4 H5;have n:=B2.grown BS (λq D=>(AO.lt q D).1);refine m.o _ _ (λ_=>L _ n) ?_;clear m C
   try simp only[kF,lR,lS,lT]
   refine Cw.one (i:=11) lo rfl (λC m=>?_)
   go_simp
   refine m.o _ _ (λ_=>L _ n) ?_;clear m C
   try simp only[kF,lR,lS,lT]
   have y1:=n.b3.D 1;have yf:=n.b3.qI 1;simp at y1;refine Cw.one (i:=12) lo rfl (λC m=>?_)
   go_simp
   refine m.o _ _ (λh=>rl rfl h) ?_;clear m C;refine Cw.done lo ?_ _
   try simp only[kF,lR,lS,lT]
   have FW:jV (Xf _ N E b _ j a (U (V ⟨G,0,Y⟩) (k+1) F)):=
    ⟨n.b0.bW _ (lc:N+1+1+1≠N) _,n.b1.bW _ (lc:N+1+1+1≠N+1) _,n.b2.bW _ (lc:N+1+1+1≠N+1+1) _,n.b3.set 1 _,Ah n.row (λh=>by have:=n.low _ h;simp at this;omega) _,n.low⟩
   have FO:jV (kt (w5.setCell ⟨N+1+1+1,1,Y⟩ (U (V ⟨G,0,Y⟩) (k+1) F)) (N+1+1+1+1) 9 1 (U (V ⟨G,0,Y⟩) (k+1) F) (k+1) (qS Ai ((qT (k+1) a).map (AI e)))):=by
    have h:=Ah BT (p:=⟨N+1+1+1,1,Y⟩) (λh=>by have:=(BT.lt _ h).1;simp at this;omega) (U (V ⟨G,0,Y⟩) (k+1) F);rw[lW AB,mO,mD,Aa HW];simp only[mA,om,mB,np,mQ,Aa H7,Ai];exact h
   have HH:=Ab (((z.drew.H R).alloc _).grown BS (λq D=>j3 (by have:=(AO.lt q D).1;have:=Aa S;omega))|>.setCell (p:=⟨N+1+1+1,1,Y⟩) (j3 (by have:=Aa S;simp;omega)) (U (V ⟨G,0,Y⟩) (k+1) F));clear BT BS H4 H5 n B2 Ax AO R B L o Q z y1 yf d0 d1 HD;generalize w5.setCell ⟨N+1+1+1,1,Y⟩ (U (V ⟨G,0,Y⟩) (k+1) F)=w6 at FW FO HH|-;go_wp2
   go_roundg (Z a-(k+1))
   case measure=>exact qu
   case rel=>exact⟨k+1,_,F,ly,lc,rfl,FW,FO,HH⟩
  ·have HZ:k=Z a:=lc;have x0:=o.b3.D 0;have x1:=o.b3.D 1;have y0:=o.b2.D 0;have y1:=o.b2.D 1;have yf:=o.b2.qI;simp at x0 x1 y0 y1;have H1:jV (AF _ _ [O b,U f k d] 43):=(o.b2.set 0 _).set 1 _;have HM:jV (kt ((wr.setCell ⟨N+1+1,0,Y⟩ (O b)).setCell ⟨N+1+1,1,Y⟩ (U f k d)) 0 9 1 (U f k d) k (qS Ai (a.map (AI e)))):=by
    have h:=Aa Q;rw[lY lc]at h;(have hb:∀q,(U f k d).ownBlock=V q->q≠N+1+1:=λq D=>by have:=(h.lt q D).1;omega);exact Ak (Ah (Ah h (λh=>hb _ h rfl) _) (λh=>hb _ h rfl) _) lc
   (have Ix:jV (∀q,(U f k d).ownBlock=V q->w.heap.size<=q):=λq D=>by have:=(Q.lt q D).1;have:=Aa S;omega);have HY:=Ab ((z.setCell (p:=⟨N+1+1,0,Y⟩) (j3 (by have:=Aa S;simp;omega)) (O b)).setCell (p:=⟨N+1+1,1,Y⟩) (j3 (by have:=Aa S;simp;omega)) (U f k d));clear o Q z;go_wp2;subst HZ;refine mF (Cj rfl rfl H1 underlying43 rfl lo) rfl ⟨f,d,?_,HF f d _ HM,Ix,HY⟩;rw[Aa EM]
def cm(e:kN bN)(A d f w)(g:Z e=26)(h:kt w 0 93 2 (U d (Z A.qH) f) (Z A.qH) (qS AP A.qH))(j:Z A.qH<=1000)(i:∀t∈A.qH,t.v=0\/(65<=t.v.toNat/\t.v.toNat<=90)):
  rE rF 48 #[ku (Za (Al e)),ku (Za (CN A.a (U d (Z A.qH) f) A.e))] w λr c=>∃b a,r=j1 (ku (Za (Bj ⟨Av e A,U b (Z A.qH) a⟩)))/\DR c ⟨Av e A,U b (Z A.qH) a⟩/\Ac [] w c:=
 (Pr e A d f w g h j i).G λr c ⟨b,a,h1,h2,_,h4⟩=>⟨b,a,h1,h2,h4⟩
def CD(e):Z (Al e)=Z e:=by unfold Al;simp
def Yf(e j)(x:bN):Al (e.set j x)=(Al e).set j (O x):=by unfold Al;rw[qq]
def Gs(e):∀v∈Al e,v.oneCell'=T6:=λv a=>by
 obtain⟨x,_,rfl⟩:=me.1 a;rfl
structure Vv(w:jH)(N:Nat)(E:kN jR)(nm:bN)(av:jR)(j:Nat)(ts:kN AK)(fn:bN)(fv:jR)(xs:kN bN):Prop where
 b0:AF w N E 90
 b1:AF w (N+1) [O nm,av,X J j] 79
 b2:AF w (N+1+1) [O fn,fv] 43
 b3:AF w (N+1+1+1) (kB 26 (O ⟨#[]⟩)) 90
 row:kt w 0 93 2 av (Z ts) (qS AP ts)
 rof:kt w 0 9 1 fv (Z xs) (qS Ai xs)
 low:∀q,av.ownBlock=V q->q<N
 lof:∀q,fv.ownBlock=V q->q<N
def Vv.C{w w'}{N}{E}{a c}{f e}{j}{b}{d}(h:Vv w N E a f j b c e d)(k:Ac [] w w'):Vv w' N E a f j b c e d:=
 ⟨h.b0.C k,h.b1.C k,h.b2.C k,h.b3.C k,Ad h.row k,Ad h.rof k,h.low,h.lof⟩
def Vv.set{w}{N}{E}{a c}{g f}{j}{b}{d}(h:Vv w N E a g j b c f d)(i u):Vv (w.setCell ⟨N,i,Y⟩ u) N (E.set i u) a g j b c f d:=
 ⟨h.b0.set i u,h.b1.bW _ (lc:N≠N+1) _,h.b2.bW _ (lc:N≠N+1+1) _,h.b3.bW _ (lc:N≠N+1+1+1) _,
  Ah h.row (λe=>by have:=h.low _ e;simp at this) _,Ah h.rof (λe=>by have:=h.lof _ e;simp at this) _,h.low,h.lof⟩
def Il(h:AF w b (kB 26 (O ⟨#[]⟩)) 90)(a:Z y=26):w.there b 0 y.toArray.size:=by
 have:=h.there;rw[nu,a];exact this
theorem NH(e:kN bN)(A D x p w)(he:Z e=26)(hA:kt w 0 93 2 (U D (Z A.qH) x) (Z A.qH) (qS AP A.qH))(hP:DR w p)(LB:Z A.qH<=1000)(K8:Z p.f.qH<=1000000)(hg:∀t∈A.qH,BJ t):rE rF 87 #[ku (Za (Al e)),ku (Za (CN A.a (U D (Z A.qH) x) A.e)),ku (Za (Bj p))] w λr w'=>r=j1 (.tuple #[ku (Za (Al (Ca e A p.f).1)),kx (Ca e A p.f).2])/\Ac [] w w':=by
 obtain⟨d,a,j⟩:=A;obtain⟨⟨m,b⟩,pv⟩:=p;obtain⟨G,y,K2⟩:=Aj hP;simp only at K2;subst K2;simp only at hA LB hg K8|-;obtain⟨R,hR⟩:=kQ (Ca e ⟨d,a,j⟩ ⟨m,b⟩);have HR:jV ((if(d.toList==m.toList)&&(Z a==Z b)then Dv e a b else(e,K))=R):=hR;rw[hR];have HV:jV (∀e' t wr,Z e'=26->t∈a->rE rF 89 #[ku (Za (Al e')),ku (Za (AP t))] wr λr w'=>r=j1 (O (AI e' t))/\Ac [] wr w'):=λe' t wr AR ht=>Mf e' t wr AR (by rcases hg t ht with h|h;exact j2 h.1;exact j3 h)
 have M6:=Ab hg;have hc:=Bp e;have hl:Z (Al e)=26:=by rw[CD,he]
 have n:=Ab hl;have HO:jV (∀v∈Al e,v.oneCell'=T6):=Gs e;have c:jV (Vv ((((w.alloc (Y6 (Za (Al e)) 90)).alloc (Y6 #[O d,U D (Z a) x,X J j] 79)).alloc (Y6 #[O m,U G (Z b) y] 43)).alloc (Y6 (Za (kB 26 (O ⟨#[]⟩))) 90)) w.heap.size (Al e) d (U D (Z a) x) j a m (U G (Z b) y) b):=by
  have b0:=kS w (Al e) 90;have b1:=kS (w.alloc (Y6 (Za (Al e)) 90)) [O d,U D (Z a) x,X J j] 79;have b2:=kS ((w.alloc (Y6 (Za (Al e)) 90)).alloc (Y6 #[O d,U D (Z a) x,X J j] 79)) [O m,U G (Z b) y] 43;have b3:=kS (((w.alloc (Y6 (Za (Al e)) 90)).alloc (Y6 #[O d,U D (Z a) x,X J j] 79)).alloc (Y6 #[O m,U G (Z b) y] 43)) (kB 26 (O ⟨#[]⟩)) 90;simp only[mJ]at b1 b2 b3;have hk:=((((kR [] w).alloc (Y6 (Za (Al e)) 90)).alloc (Y6 #[O d,U D (Z a) x,X J j] 79)).alloc (Y6 #[O m,U G (Z b) y] 43)).alloc (Y6 (Za (kB 26 (O ⟨#[]⟩))) 90);exact⟨((b0.alloc _).alloc _).alloc _,(b1.alloc _).alloc _,b2.alloc _,b3,Ad hA hk,Ad hP hk,λq hq=>(hA.lt q hq).2,λq hq=>(rx hP q hq).2⟩
 have I:=Ab (((((kR [] w).alloc (Y6 (Za (Al e)) 90)).alloc (Y6 #[O d,U D (Z a) x,X J j] 79)).alloc (Y6 #[O m,U G (Z b) y] 43)).alloc (Y6 (Za (kB 26 (O ⟨#[]⟩))) 90));simp only[CN,Bj];clear hR hA hP hg;obtain⟨E,hE⟩:=kQ (Al e);rw[hE]at hc hl n HO c I|-;have HH:=Ab hE;clear hE;obtain⟨C,hC⟩:=kQ ((d.toList==m.toList)&&(Z a==Z b));rw[hC]at HR;cases C with
 |false=>
  have P:jV (Al R.1=E/\R.2=K):=by rw[<-Aa HR,<-Aa HH];exact⟨rfl,rfl⟩
  have HC:jV (((d.toList==m.toList)&&(Z a==Z b))=K):=hC;clear hC HR;cases hn:(d.toList==m.toList)with
  |false=>
   (have K3:(d.toList !=m.toList)=T6:=by simp[bne,hn]);clear HC;go_enter func87,ntmps87;apply wp_seq_k;intro KK AO;have AB:=Ab AO;clear AO;go_wp2;refine AB _ _ ?_;clear AB KK;change Code.wp _ _ _ _ ((((w.alloc (Y6 (Za E) 90)).alloc (Y6 #[O d,U D (Z a) x,X J j] 79)).alloc (Y6 #[O m,U G (Z b) y] 43)).alloc (Y6 (Za (kB 26 (O ⟨#[]⟩))) 90));generalize((((w.alloc (Y6 (Za E) 90)).alloc (Y6 #[O d,U D (Z a) x,X J j] 79)).alloc (Y6 #[O m,U G (Z b) y] 43)).alloc (Y6 (Za (kB 26 (O ⟨#[]⟩))) 90))=w1 at c I|-;obtain⟨N,M⟩:=kQ w.heap.size;rw[M]at c|-;have HN:=Ab M;clear M;have c0:=c.b1.D 0;have c2:=c.b2.D 0;have W:=c.b1.D 1;have c3:=c.b2.D 1;simp at c0 c2 W c3;go_wp2_with (first|((with_reducible refine qY 90 ?_);refine oe rfl 90 _ rfl N 0 lx E _ c.b0.range underlying90 rfl sm ?_)|((with_reducible refine qZ 90 ?_);refine ow rfl 90 _ _ rfl (N+1+1+1) 0 (Za E) lx lx (Il c.b3 n) (by rw[nu,Aa n];exact Tryz.zE) (nH HO) ?_))
   refine mF (As rfl lx (c.b3.zM E (by rw[Aa n];rfl)) underlying90 rfl sm) rfl ⟨?_,I.zG (j3 sx) _ _⟩;rw[(Aa P).1,(Aa P).2];rfl
  |true=>
   (have K3:(d.toList !=m.toList)=K:=by simp[bne,hn]);have LM:¬Z a=Z b:=by
    have h:=Aa HC;rw[hn]at h;simpa using h
   (have M1:((Z a:Int) !=(Z b:Int))=T6:=by simp[bne];omega);have MN:((Z a:Int)==(Z b:Int))=K:=sy;clear HC LM;go_enter func87,ntmps87;apply wp_seq_k;intro KK AO;have AB:=Ab AO;clear AO;go_wp2;refine AB _ _ ?_;clear AB KK;change Code.wp _ _ _ _ ((((w.alloc (Y6 (Za E) 90)).alloc (Y6 #[O d,U D (Z a) x,X J j] 79)).alloc (Y6 #[O m,U G (Z b) y] 43)).alloc (Y6 (Za (kB 26 (O ⟨#[]⟩))) 90));generalize((((w.alloc (Y6 (Za E) 90)).alloc (Y6 #[O d,U D (Z a) x,X J j] 79)).alloc (Y6 #[O m,U G (Z b) y] 43)).alloc (Y6 (Za (kB 26 (O ⟨#[]⟩))) 90))=w1 at c I|-;obtain⟨N,M⟩:=kQ w.heap.size;rw[M]at c|-;have HN:=Ab M;clear M;have c0:=c.b1.D 0;have c2:=c.b2.D 0;have W:=c.b1.D 1;have c3:=c.b2.D 1;simp at c0 c2 W c3;go_wp2_with (first|((with_reducible refine qY 90 ?_);refine oe rfl 90 _ rfl N 0 lx E _ c.b0.range underlying90 rfl sm ?_)|((with_reducible refine qZ 90 ?_);refine ow rfl 90 _ _ rfl (N+1+1+1) 0 (Za E) lx lx (Il c.b3 n) (by rw[nu,Aa n];exact Tryz.zE) (nH HO) ?_))
   refine mF (As rfl lx (c.b3.zM E (by rw[Aa n];rfl)) underlying90 rfl sm) rfl ⟨?_,I.zG (j3 sx) _ _⟩;rw[(Aa P).1,(Aa P).2];rfl
 |true=>
  have BA:(d.toList==m.toList)=T6/\Z a=Z b:=by simpa using hC
  have hn:=BA.1;have K3:(d.toList !=m.toList)=K:=by simp[bne,BA.1]
  have M1:((Z a:Int) !=(Z b:Int))=K:=by simp[BA.2]
  have MN:((Z a:Int)==(Z b:Int))=T6:=by simp[BA.2]
  have Mo:=Ab BA.2;have HZ:jV (Dv e (a.drop 0) (b.drop 0)=R):=by have h:=Aa HR;rw[mo rfl]at h;exact h
  clear hC HR BA;go_enter func87,ntmps87;apply wp_seq_k;intro KK AO;have AB:=Ab AO;clear AO;go_wp2;refine AB _ _ ?_;clear AB KK;change Code.wp _ _ _ _ ((((w.alloc (Y6 (Za E) 90)).alloc (Y6 #[O d,U D (Z a) x,X J j] 79)).alloc (Y6 #[O m,U G (Z b) y] 43)).alloc (Y6 (Za (kB 26 (O ⟨#[]⟩))) 90));generalize((((w.alloc (Y6 (Za E) 90)).alloc (Y6 #[O d,U D (Z a) x,X J j] 79)).alloc (Y6 #[O m,U G (Z b) y] 43)).alloc (Y6 (Za (kB 26 (O ⟨#[]⟩))) 90))=w1 at c I|-;obtain⟨N,M⟩:=kQ w.heap.size;rw[M]at c|-;have HN:=Ab M;clear M;have c0:=c.b1.D 0;have c2:=c.b2.D 0;have W:=c.b1.D 1;have c3:=c.b2.D 1;simp at c0 c2 W c3;clear n HO;go_wp2_with fail
  have LC:(rF.info? 90).map (·.size)=V 26:=Tryz.zE
  go_loopg [8] (Z a) (λgk i wr=>∃(k:Nat) (B:kN bN),i=X J k/\k<=Z a/\gk=Z a-k/\Z B=26/\jV (Dv B (a.drop k) (b.drop k)=R)/\jV (Vv wr N (Al B) d (U D (Z a) x) j a m (U G (Z b) y) b)/\jV (Ac [] w wr))
  case atStart=>exact⟨0,e,rfl,lc,rfl,he,HZ,(by rw[Aa HH];exact c),I⟩
  case round=>
   clear HZ c I c0 W c2 c3 hl hc HH;obtain⟨k,B,rfl,hk,KS,FB,HM,Q,I⟩:=hrel;have HG:=Ab KS;clear KS he;have W:=Q.b1.D 1;have c3:=Q.b2.D 1;simp at W c3;obtain⟨z,AH⟩:=kQ (Al B);(have B2:Z z=26:=by rw[<-AH,CD,FB]);(have Ix:jV (∀v∈z,v.oneCell'=T6):=by show∀v∈z,_;rw[<-AH];exact Gs B);rw[AH]at Q;by_cases EM:k<Z a
   ·(have HF:k<Z b:=by have:=Aa Mo;omega);obtain⟨g,P0,JJ,d0,d1⟩:=OA Q.row k EM;obtain⟨rfl,_,rfl⟩:=qX JJ;obtain⟨S,RB,H7,f0⟩:=Hc Q.rof k HF;obtain⟨rfl,_,rfl⟩:=qX H7;obtain⟨T,hT⟩:=kQ (a[k]);obtain⟨F,hX⟩:=kQ (b[k]);(have H3:jV (T∈a):=by show _∈_;rw[<-hT];exact lV EM);have Df:jV (Dv B (T::a.drop (k+1)) (F::b.drop (k+1))=R):=by
     have h:=Aa HM;rw[mu EM,mu HF,hT,hX]at h;exact h
    have HS:jV (∀o,Vv o N z d (U (V ⟨g,0,Y⟩) (Z a) x) j a m (U (V ⟨S,0,Y⟩) (Z b) y) b->o.rangeAt N 0 z/\jY o ⟨N+1,1,Y⟩=V (U (V ⟨g,0,Y⟩) (Z a) x)/\jY o ⟨g,k*2,Y⟩=V (X .u8 T.v.toNat)/\jY o ⟨g,k*2+1,Y⟩=V (O T.s)/\jY o ⟨N+1+1,1,Y⟩=V (U (V ⟨S,0,Y⟩) (Z b) y)/\jY o ⟨S,k,Y⟩=V (O F)):=by
     intro o hz;obtain⟨g',L0,AR,q0,q1⟩:=OA hz.row k EM;simp only[lU,lZ,mR]at AR;obtain⟨⟨rfl,_,_⟩,_,_⟩:=AR;obtain⟨g',L0,AR,q2⟩:=Hc hz.rof k HF;simp only[lU,lZ,mR]at AR;obtain⟨⟨rfl,_,_⟩,_,_⟩:=AR;rw[hT]at q0 q1;rw[hX]at q2;have x1:=hz.b1.D 1;have x2:=hz.b2.D 1;simp at x1 x2;exact⟨hz.b0.range,x1,q0,q1,x2,q2⟩
    rw[hT]at d0 d1;rw[hX]at f0;clear hT hX HM;obtain⟨Pl,NM⟩:=rI (lc:k<Z a);have NA:(k:Int)<(Z b:Int):=lc;obtain⟨L,hV⟩:=kQ (AI B T);have EX:=Ab (HV B T wr.drew FB H3);rw[hV,AH]at EX;have FL:=Ab hV;have HJ:=Ab AH;clear hV AH;have hu:=underlying90;(have hi:(rF.info? 90).map (·.size)=V (Z z):=by rw[B2];exact LC);have e0:=Q.b0.range;have H6:=Ab (Q.C (kR [] wr).drew);simp only[AP]at EX;go_wp2_with fail
    go_region_held3 (λo=>o.rangeAt N 0 z/\jY o ⟨N+1,1,Y⟩=V (U (V ⟨g,0,Y⟩) (Z a) x)/\jY o ⟨g,k*2,Y⟩=V (X .u8 T.v.toNat)/\jY o ⟨g,k*2+1,Y⟩=V (O T.s)) (first|(refine⟨?_,?_,?_,?_⟩<;>assumption)|go_keep_ranges) ((go_at_call 89;refine EX.G ?_;rintro e w3 ⟨rfl,k3⟩;have H:=Ab (H6.C k3);have FP:=Ab (I.drew.H k3);obtain⟨y0,y1,y2,y3,y4,y5⟩:=HS w3 H;clear k3))
    rename_i M2;clear M2 EX H6 e0 W c3 d0 d1 f0;cases hv:Vo L with
    |true=>
     have LL:T.v≠0/\65<=T.v.toNat/\T.v.toNat<=90:=by
      (have hz:(AI B T).size=0:=by rw[Aa FL];exact(Ed L).1 hv);have h:=(M6 T H3).yI hz;exact⟨h.1,h.2.1,h.2.2.1⟩
     have DT:jV (Dv (B.set (T.v.toNat-65) F) (a.drop (k+1)) (b.drop (k+1))=R):=by
      have h:=Aa Df;rw[Dv,Aa FL,hv,mo rfl]at h;exact h
     have Ha:(L.toList==[])=T6:=hv;(have M0:L.toList=[]:=by simpa using Ha);obtain⟨l,H9⟩:=kQ (T.v.toNat-65);have Nx:T.v.toNat=l+65:=lc;have QR:l<26:=lc;rw[H9]at DT;have MB:((T.v.toNat:Nat):Int)=(l:Int)+65:=lc;rw[MB]at y2;have NN:=rJ l;have NE:(l:Int)<26:=lc;(have LE:IntKind.u8.wrap (l:Int)=l:=by rw[IntKind.wrap_u8];omega);(have NB:IntKind.u8.wrap ((l:Int)+65-65)=l:=by rw[show(l:Int)+65-65=l by omega];exact LE);have yN:∃u,jY w3 ⟨N,l,Y⟩=V u:=by
      refine⟨z[l]' lc,?_⟩;rw[(Aa H).b0.D,mc lc]
     obtain⟨u0,yN⟩:=yN;have yF:=H.b0.qI l;have FF:jV (∀o,o=w3->Vv (o.setCell ⟨N,l,Y⟩ (O F)).drew N (Al (B.set l F)) d (U (V ⟨g,0,Y⟩) (Z a) x) j a m (U (V ⟨S,0,Y⟩) (Z b) y) b):=by
      rintro o rfl;rw[Yf,Aa HJ];exact(H.set l _).C (kR [] _).drew
     have KB:jV (Ac [] w (w3.setCell ⟨N,l,Y⟩ (O F)).drew):=(FP.setCell (p:=⟨N,l,Y⟩) (j3 (by have:=Aa HN;simp;omega)) _).drew;(have MY:Z (B.set l F)=26:=by simp[FB]);have n1:¬N=N+1:=lc;have n2:¬N=N+1+1:=lc;(have NL:¬N=g:=by have:=H.low g rfl;omega);(have N0:¬N=S:=by have:=H.lof S rfl;omega);have NS:¬N+1=N:=lc;have NX:¬N+1+1=N:=lc;have NV:¬g=N:=lc;have Os:¬S=N:=lc;have NY:=Ab yN;clear hv LL H9 Nx HS Df H FP y0 y3;go_wp2_with fail
     go_region_held3 (λo=>jY o ⟨N+1,1,Y⟩=V (U (V ⟨g,0,Y⟩) (Z a) x)/\jY o ⟨g,k*2,Y⟩=V (X .u8 ((l:Int)+65))/\jY o ⟨N+1+1,1,Y⟩=V (U (V ⟨S,0,Y⟩) (Z b) y)/\jY o ⟨S,k,Y⟩=V (O F)) (go_keep) (fail)
     rename_i LD;clear LD y1 y2 y4 y5 yN yF;have IJ:=Ab (FF _ rfl);clear FF;generalize(w3.setCell ⟨N,l,Y⟩ (O F)).drew=w4 at IJ KB|-;go_wp2
     go_roundg (Z a-(k+1))
     case measure=>exact qu
     case rel=>exact⟨k+1,B.set l F,ly,lc,rfl,MY,DT,IJ,KB⟩
    |false=>
     have Ha:(L.toList==[])=K:=hv;(have M0:¬L.toList=[]:=by simpa using Ha);cases hx:(L.toList==F.toList)with
     |true=>
      (have K5:(L.toList !=F.toList)=K:=by simp[bne,hx]);have DT:jV (Dv B (a.drop (k+1)) (b.drop (k+1))=R):=by
       have h:=Aa Df;rw[Dv,Aa FL,hv,mm ln,hx,mo rfl]at h;exact h
      (have FF:jV (Vv w3 N (Al B) d (U (V ⟨g,0,Y⟩) (Z a) x) j a m (U (V ⟨S,0,Y⟩) (Z b) y) b):=by rw[Aa HJ];exact H);clear hv HS Df H y0 y1 y2 y3;go_wp2
      go_roundg (Z a-(k+1))
      case measure=>exact qu
      case rel=>exact⟨k+1,B,ly,lc,rfl,FB,DT,FF,FP⟩
     |false=>
      (have K5:(L.toList !=F.toList)=T6:=by simp[bne,hx]);have P:jV (Al R.1=z/\R.2=K):=by
       have h:=Aa Df;rw[Dv,Aa FL,hv,mm ln,hx,mm ln]at h;rw[<-h,<-Aa HJ];exact⟨rfl,rfl⟩
      have n:=Ab B2;clear hv HS Df y0 y1 y2 y3 hi B2;go_wp2_with (first|((with_reducible refine qY 90 ?_);refine oe rfl 90 _ rfl N 0 lx z _ H.b0.range underlying90 rfl sm ?_)|((with_reducible refine qZ 90 ?_);refine ow rfl 90 _ _ rfl (N+1+1+1) 0 (Za z) lx lx (Il H.b3 n) (by rw[nu,Aa n];exact Tryz.zE) (nH Ix) ?_))
      refine mF (As rfl lx (H.b3.zM z (by rw[Aa n];rfl)) underlying90 rfl sm) rfl ⟨?_,FP.zG (j3 sx) _ _⟩;rw[(Aa P).1,(Aa P).2];rfl
   .have P:jV (Al R.1=z/\R.2=T6):=by
     have h:=Aa HM;rw[mN lc,Dv]at h;rw[<-h,<-AH];exact⟨rfl,rfl⟩
    have n:=Ab B2;clear B2 AH HM;go_wp2_with (first|((with_reducible refine qY 90 ?_);refine oe rfl 90 _ rfl N 0 lx z _ Q.b0.range underlying90 rfl sm ?_)|((with_reducible refine qZ 90 ?_);refine ow rfl 90 _ _ rfl (N+1+1+1) 0 (Za z) lx lx (Il Q.b3 n) (by rw[nu,Aa n];exact Tryz.zE) (nH Ix) ?_))
    refine mF (As rfl lx (Q.b3.zM z (by rw[Aa n];rfl)) underlying90 rfl sm) rfl ⟨?_,I.zG (j3 sx) _ _⟩;rw[(Aa P).1,(Aa P).2];rfl
def Qm(t:AK):Prop:=t.v=0\/(65<=t.v.toNat/\t.v.toNat<=90)
structure MO(e:kN bN)(x:Bt):Prop where
 atom:(x.b==97||x.b==33)=T6->(∀t∈x.A.qH,Qm t)/\Z x.A.qH<=1000/\M4 (Av e x.A)
 cmp:(x.b==97||x.b==33)=K->Qm x.L/\Qm x.R/\0<(AI e x.L).size/\(AI e x.L).size<=1000000/\0<(AI e x.R).size/\(AI e x.R).size<=1000000
theorem Rl(e:kN bN)(x k i CC CW)(l:kN BE)(w)(he:Z e=26)(hx:Cc w 0 (x,U k (Z x.A.qH) i))(hs:CS w (U CC (Z l) CW) l)(HF:Z l<=1000000)(D:MO e x):rE rF 88 #[ku (Za (Al e)),ku (Za (Cy x (U k (Z x.A.qH) i))),U CC (Z l) CW] w λr m=>r=j1 (kx (Cm (Av e) (AI e) (l.map BE.f) x))/\Ac [] w m:=by
 have o:jV ((x.b==97||x.b==33)=T6->∀wr,Ac [] w wr->rE rF 48 _ wr _):=λh wr hk=>cm e x.A k i wr he (Ad hx hk) (D.atom h).2.1 (D.atom h).1
 have t:jV ((x.b==97||x.b==33)=T6->∀av wr,Ac [] w wr->DR wr ⟨Av e x.A,av⟩->rE rF 21 _ wr λe' m=>e'=j1 (kx (l.any λp=>CB p.f (Av e x.A)))/\Ac [] wr m):=λh av wr hk hr=>II CC CW l _ wr (hs.C hk) hr HF (D.atom h).2.2
 have E0:jV ((l.any λp=>CB p.f (Av e x.A))=C7 (l.map BE.f) (Av e x.A)):=by unfold C7;rw[pj];rfl
 have H:jV _:=λh wr=>Mf e x.L wr he (D.cmp h).1
 have G:jV _:=λh wr=>Mf e x.R wr he (D.cmp h).2.1
 have P:jV _:=λh wr=>Oo _ _ wr (D.cmp h).2.2.1 (D.cmp h).2.2.2.2.1 (D.cmp h).2.2.2.1 (D.cmp h).2.2.2.2.2
 obtain⟨B,hB⟩:=kQ (Cm (Av e) (AI e) (l.map BE.f) x);rw[hB];have b:jV ((if x.b==97 then C7 _ _ else if x.b==33 then !C7 _ _ else if x.b==61 then(AI e x.L).toList==(AI e x.R).toList else if x.b==35 then !((AI e x.L).toList==(AI e x.R).toList)else Gl _ _)=B):=hB;clear hB D hs hx;obtain⟨c,⟨g,d,j⟩,⟨v,n⟩,⟨q,s⟩,y⟩:=x;simp only at o t E0 H G P b|-;rw[Aa E0]at t;clear E0;have ES:jV (∀F I,Bj ⟨Av e ⟨g,d,j⟩,_⟩=[O g,U F (Z d) I]):=λF I=>rfl
 generalize C7 (l.map BE.f) (Av e ⟨g,d,j⟩)=HH at t b;generalize Av e ⟨g,d,j⟩=FP at o t ES;generalize AI e ⟨v,n⟩=VL at H P b;generalize AI e ⟨q,s⟩=VR at G P b;have hc:=Bp e;have Ax:jV (Z (Al e)=26):=by show _=_;rw[CD,he]
 have hl:=Aa Ax;generalize Al e=E at hc hl Ax o H G|-;simp only[Cy,CN,AP]at o H G|-;have z:=Ab ((kS w E 90).alloc (Y6 #[X .u8 c.toNat,O g,U k (Z d) i,X J j,X .u8 v.toNat,O n,X .u8 q.toNat,O s,X J y] 95));have a:jV (AF ((w.alloc (Y6 (Za E) 90)).alloc (Y6 #[X .u8 c.toNat,O g,U k (Z d) i,X J j,X .u8 v.toNat,O n,X .u8 q.toNat,O s,X J y] 95)) (w.heap.size+1) [X .u8 c.toNat,O g,U k (Z d) i,X J j,X .u8 v.toNat,O n,X .u8 q.toNat,O s,X J y] 95):=by
  have h:=kS (w.alloc (Y6 (Za E) 90)) [X .u8 c.toNat,O g,U k (Z d) i,X J j,X .u8 v.toNat,O n,X .u8 q.toNat,O s,X J y] 95;simp at h;exact h
 have C:=Ab (((kR [] w).alloc (Y6 (Za E) 90)).alloc (Y6 #[X .u8 c.toNat,O g,U k (Z d) i,X J j,X .u8 v.toNat,O n,X .u8 q.toNat,O s,X J y] 95));have HD:((c.toNat:Int)==97)=(c==97):=Cu _ 97;have FA:((c.toNat:Int)==33)=(c==33):=Cu _ 33;have CL:((c.toNat:Int)==61)=(c==61):=Cu _ 61;have B9:((c.toNat:Int)==35)=(c==35):=Cu _ 35;cases h97:(c==97)with
 |true=>
  rw[h97]at b o t HD;rw[mo rfl]at b;have B0:=Ab (o rfl);have BT:=Ab (t rfl);clear o t H G P FA CL B9;go_enter func88,ntmps88;apply wp_seq_k;intro KK S;have Q:=Ab S;clear S;go_wp2;refine Q _ _ ?_;clear Q KK;change Code.wp _ _ _ _ ((w.alloc (Y6 (Za E) 90)).alloc (Y6 #[X .u8 c.toNat,O g,U k (Z d) i,X J j,X .u8 v.toNat,O n,X .u8 q.toNat,O s,X J y] 95));generalize((w.alloc (Y6 (Za E) 90)).alloc (Y6 #[X .u8 c.toNat,O g,U k (Z d) i,X J j,X .u8 v.toNat,O n,X .u8 q.toNat,O s,X J y] 95))=w1 at z a C|-;generalize w.heap.size=N at z a|-;obtain⟨c0,c1,c2,c3,c4,c5,c6,c7⟩:=a.c8;simp at c0 c1 c2 c3 c4 c5 c6 c7;go_wp2_with (first|((with_reducible refine qY 90 ?_);refine oe rfl 90 _ rfl N 0 lx E _ z.range underlying90 rfl (by rw[Aa Ax];exact Tryz.zE) ?_)|fail)
  refine(B0 _ C).G ?_;rintro _ w2 ⟨F,I,rfl,BA,u⟩;have T:=Ab (BT _ w2 (C.H u) BA);have AO:=Ab (C.H u);rw[Aa ES]at T|-;clear BA u B0 BT;go_wp2_with fail
  refine T.G ?_;rintro _ w3 ⟨rfl,M⟩;have W:=Ab (AO.H M);clear M T;go_wp2;go_ret;rw[<-Aa b];exact⟨rfl,W⟩
 |false=>
  rw[h97]at b o t HD H G P;rw[mm ln]at b;cases h33:(c==33)with
  |true=>
   rw[h33]at b o t FA;rw[mo rfl]at b;have B0:=Ab (o rfl);have BT:=Ab (t rfl);clear o t H G P CL B9;go_enter func88,ntmps88;apply wp_seq_k;intro KK S;have Q:=Ab S;clear S;go_wp2;refine Q _ _ ?_;clear Q KK;change Code.wp _ _ _ _ ((w.alloc (Y6 (Za E) 90)).alloc (Y6 #[X .u8 c.toNat,O g,U k (Z d) i,X J j,X .u8 v.toNat,O n,X .u8 q.toNat,O s,X J y] 95));generalize((w.alloc (Y6 (Za E) 90)).alloc (Y6 #[X .u8 c.toNat,O g,U k (Z d) i,X J j,X .u8 v.toNat,O n,X .u8 q.toNat,O s,X J y] 95))=w1 at z a C|-;generalize w.heap.size=N at z a|-;obtain⟨c0,c1,c2,c3,c4,c5,c6,c7⟩:=a.c8;simp at c0 c1 c2 c3 c4 c5 c6 c7;go_wp2_with (first|((with_reducible refine qY 90 ?_);refine oe rfl 90 _ rfl N 0 lx E _ z.range underlying90 rfl (by rw[Aa Ax];exact Tryz.zE) ?_)|fail)
   refine(B0 _ C).G ?_;rintro _ w2 ⟨F,I,rfl,BA,u⟩;have T:=Ab (BT _ w2 (C.H u) BA);have AO:=Ab (C.H u);rw[Aa ES]at T|-;clear BA u B0 BT;(go_wp2_with fail);refine T.G ?_;rintro _ w3 ⟨rfl,M⟩;have W:=Ab (AO.H M);clear M T;go_wp2;go_ret;rw[<-Aa b];exact⟨rfl,W⟩
  |false=>
   rw[h33]at b FA H G P;rw[mm ln]at b;have FF:=Ab (H rfl);have Go:=Ab (G rfl);have HE:=Ab (P rfl);clear o t H G P;go_enter func88,ntmps88;apply wp_seq_k;intro KK S;have Q:=Ab S;clear S;go_wp2;refine Q _ _ ?_;clear Q KK;change Code.wp _ _ _ _ ((w.alloc (Y6 (Za E) 90)).alloc (Y6 #[X .u8 c.toNat,O g,U k (Z d) i,X J j,X .u8 v.toNat,O n,X .u8 q.toNat,O s,X J y] 95));generalize((w.alloc (Y6 (Za E) 90)).alloc (Y6 #[X .u8 c.toNat,O g,U k (Z d) i,X J j,X .u8 v.toNat,O n,X .u8 q.toNat,O s,X J y] 95))=w1 at z a C|-;generalize w.heap.size=N at z a|-;obtain⟨c0,c1,c2,c3,c4,c5,c6,c7⟩:=a.c8;simp at c0 c1 c2 c3 c4 c5 c6 c7;go_wp2_with (first|((with_reducible refine qY 90 ?_);refine oe rfl 90 _ rfl N 0 lx E _ z.range underlying90 rfl (by rw[Aa Ax];exact Tryz.zE) ?_)|fail)
   refine(FF _).G ?_;rintro _ w2 ⟨rfl,u⟩;have FC:=Ab (z.C u);have B2:=a.C u;have AO:=Ab (C.H u);have d0:=B2.D 0;have d6:=B2.D 6;have d7:=B2.D 7;simp at d0 d6 d7;have FO:=Ab B2;clear u z a C FF B2 c0 c1 c2 c3 c4 c5 c6 c7;go_wp2_with (first|((with_reducible refine qY 90 ?_);refine oe rfl 90 _ rfl N 0 lx E _ FC.range underlying90 rfl (by rw[Aa Ax];exact Tryz.zE) ?_)|fail)
   refine(Go _).G ?_;rintro _ w3 ⟨rfl,M⟩;have W:=Ab (AO.H M);have HG:=(FO.C M).D 0;simp at HG;clear M AO Go FC FO d0 d6 d7;cases h61:(c==61)with
   |true=>
    rw[h61]at b CL;rw[mo rfl]at b;go_wp2;go_ret;rw[<-Aa b];exact⟨rfl,W⟩
   |false=>
    rw[h61]at b CL;rw[mm ln]at b;cases h35:(c==35)with
    |true=>
     rw[h35]at b B9;rw[mo rfl]at b;go_wp2;go_ret;rw[<-Aa b];exact⟨rfl,W⟩
    |false=>
     rw[h35]at b B9;rw[mm ln]at b;(go_wp2_with fail);refine(HE _).G ?_;rintro _ w4 ⟨rfl,rfl⟩;go_wp2;go_ret;rw[<-Aa b];exact⟨rfl,W⟩
def Qs(cs:kN AW)(p:Bc):rD:=L5 p&&((decide (0<=BQ cs p.1.A.a)&& !(BQ cs p.1.A.a==(Z p.1.A.qH:Int)))||decide (2<Z p.1.A.qH))
def Ga:Dp:=⟨ky,[],0⟩
def LQ(cs:kN AW)(bl:kN Bc):Int×Int:=
 match bl.find? (Qs cs)with
 |some p=>(4,p.1.A.e)
 |none=>if 0<=D4 Ga bl then(5,D4 Ga bl)else(0,0)
def Es(s:bN)(cs:kN AW)(er at_:Int):Prop:=
 if 300<s.size then er=1/\at_=0
 else if(By s 0).2.2=T6\/Af s (By s 0).2.1<s.size then er=2/\at_=(AS s (By s 0).2.1 (By s 0).2.2:Int)
 else if 3<Z (By s 0).1 then er=3/\at_=0
 else∃bl:kN Bc,bl.map kD=(By s 0).1/\(er,at_)=LQ cs bl
def Pd(s:bN)(cs:kN AW)(w:jH)(bv:jR)(er:Int):Prop:=
 er=0->s.size<=300/\(By s 0).2.2=K/\¬Af s (By s 0).2.1<s.size/\∃(ad:rB) (cp:Nat) (bl:kN Bc),bv=U ad (Z bl) cp/\Z bl<=3/\bl.map kD=(By s 0).1/\kt w 0 95 9 bv (Z bl) (qS A4 bl)/\(∀p∈bl,Cc w 0 p)/\LQ cs bl=(0,0)
def Nc(d p)(e:BQ d p.1.A.a=I)(f:Z p.1.A.qH=n):
  (Qs d p=T6/\L5 p=T6/\((0<=I/\(I==(n:Int))=K/\¬I=(n:Int)/\True)\/(0<=I/\(I==(n:Int))=T6/\I=(n:Int)/\(2:Int)<(n:Int))\/(I<0/\True/\True/\(2:Int)<(n:Int))))\/
  (Qs d p=K/\(L5 p=K\/(L5 p=T6/\((0<=I/\(I==(n:Int))=T6/\I=(n:Int)/\¬(2:Int)<(n:Int))\/(I<0/\True/\True/\¬(2:Int)<(n:Int)))))):=by
 unfold Qs;cases hi:L5 p with
 |false=>exact ln
 |true=>
  exact li
theorem bQ(s:bN)(pb K3 H7)(j:kN AW)(w)(K7:s.size<=9223372036854775807)(hP:AF w pb [U K3 (Z j) H7] 76)(hR:Cf w (U K3 (Z j) H7) j)(hF:LP j):rE rF 112 #[O s,jj (V ⟨pb,0,Y⟩)] w λe o=>∃(P:jR) (l m:Int),e=j1 (.tuple #[P,X J l,X J m])/\Es s j l m/\Pd s j o P l/\Ac [] w o:=by
 have K9:jV (∀x f,Ac [] w f->rE rF 23 #[jj (V ⟨pb,0,Y⟩),O x] f λe o=>e=j1 (X J (BQ j x))/\Ac [] f o):=λx f z=>Mb pb _ j x f (hP.C z) (hR.C z) (by have:=hF.len;omega) (λc hc=>by have:=hF.body c hc;omega)
 clear hP hR hF;by_cases HH:300<s.size
 .have D:jV (Es s j 1 0):=by show Es _ _ _ _;unfold Es;rw[mo HH];exact⟨rfl,rfl⟩
  go_enter func112,ntmps112;go_wp2;go_ret3;exact⟨_,1,0,rfl,D.o,(λh=>oj),kR _ _⟩
 .have hs:s.size<=300:=by omega
  have HO:s.size<=1000000:=lc
  obtain⟨L,a,C,AB⟩:∃L a C,By s 0=(L,a,C):=⟨_,_,_,rfl⟩;have ha:a<=s.size:=by have:=Ss s 0 (mr _);rw[AB]at this;exact this
  have D:jV (∀l m:Int,(if C=T6\/Af s a<s.size then l=2/\m=(AS s a C:Int)else if 3<Z L then l=3/\m=0 else∃d:kN Bc,d.map kD=L/\(l,m)=LQ j d)->Es s j l m):=by
   intro l m h;unfold Es;rw[mm HH,AB];exact h
  have W:jV (C=K->¬Af s a<s.size->∀(ad:rB) (cp:Nat) (d:kN Bc) (f:jH),Z d<=3->d.map kD=L->kt f 0 95 9 (U ad (Z d) cp) (Z d) (qS A4 d)->(∀p∈d,Cc f 0 p)->LQ j d=(0,0)->Pd s j f (U ad (Z d) cp) 0):=by
   intro h1 h2 ad cp d f H h4 h5 h6 h7 _;rw[AB];exact⟨hs,h1,h2,ad,cp,d,rfl,H,h4,h5,h6,h7⟩
  have H9:jV (Z L<=s.size+1/\∀x∈L,Z x.A.qH<=s.size+1):=by have h:=Kx s 0 (mr _);rw[AB]at h;exact⟨by have:=h.1;omega,h.2.1⟩
  have KB:jV (∀b f,AF f b (B5 s 0 K) 73->rE rF 81 #[jj (V ⟨b,0,Y⟩)] f λe o=>∃(P:jR) (d:kN Bc),e=j1 P/\d.map kD=L/\
    kt o f.heap.size 95 9 P (Z d) (DL d)/\(∀p∈d,Cc o f.heap.size p)/\AF o b (B5 s a C) 73/\Ac [b] f o):=by
   intro b f hb;have h:=XO b s 0 f HO (mr _) hb;rw[AB]at h;exact h
  clear AB HH K7;go_enter func112,ntmps112;go_wp2_with fail
  refine(Aa KB _ _ (kS w (B5 s 0 K) 73)).G ?_;rintro e w2 ⟨P,d,rfl,AR,EM,EY,HX,I⟩;have H2:jV (Ac [] w w2):=((kR [] w).alloc _).trans' I (λi y=>j3 (by simp at y;omega));have KS:=Ab (Ak EM (mr _));have H8:jV (∀p∈d,Cc w2 0 p):=λp u=>Ak (EY p u) (mr _)
  have HZ:=Ab HX;have HQ:∀i,P.ownBlock=V i->w.heap.size+1<=i:=λi y=>by have:=(EM.lt i y).1;simp at this;omega
  have Jx:∀p∈d,∀i,p.2.ownBlock=V i->w.heap.size+1<=i:=λp u i y=>by have:=((EY p u).lt i y).1;simp at this;omega
  obtain⟨A0,AH,rfl⟩:=Aj EM;clear KB EM EY HX I;go_wp2_with fail
  refine(DY w.heap.size s a C _ HO ha (Aa HZ)).G ?_;rintro e M ⟨rfl,FC,k3⟩;have S:jV (Ac [] w M):=(Aa H2).trans' k3 (λi y=>j3 (by simp at y;omega));have Ha:jV (kt M 0 95 9 (U A0 (Z d) AH) (Z d) (qS A4 d)):=Ag (Aa KS) k3 (λi y hm=>by simp at hm;have:=HQ i y;omega);have HG:jV (∀p∈d,Cc M 0 p):=λp u=>Ag (Aa H8 p u) k3 (λi y hm=>by simp at hm;have:=Jx p u i y;omega)
  have f1:=FC.D 1;have f2:=FC.D 2;simp[B5]at f1 f2;clear HQ Jx KS H8 HZ H2 FC k3;obtain⟨G,hG⟩:=kQ (AS s a C);rw[hG]at f1 D;have HS:C=K->Af s a=G:=λh=>by rw[<-hG,h];rfl
  clear hG;cases C with
  |true=>
   have t:=Ab (Aa D 2 G (by rw[mo (j2 rfl)];exact⟨rfl,rfl⟩));clear D W;go_wp2_with fail
   go_region_held3 (λo=>jY o ⟨w.heap.size,1,Y⟩=V (X J G)) (go_keep) (fail)
   rename_i E0;clear E0;go_wp2;go_ret3;exact⟨_,2,G,rfl,Aa t,(λh=>oj),(Aa S).drew⟩
  |false=>
   rw[HS rfl]at D W;clear HS;by_cases FL:G<s.size
   .have t:=Ab (Aa D 2 G (by rw[mo (j3 FL)];exact⟨rfl,rfl⟩));clear D W;have LD:(G:Int)<(s.size:Int):=lc;go_wp2_with fail
    go_region_held3 (λo=>jY o ⟨w.heap.size,1,Y⟩=V (X J G)) (go_keep) (fail)
    rename_i E0;clear E0;go_wp2;go_ret3;exact⟨_,2,G,rfl,Aa t,(λh=>oj),(Aa S).drew⟩
   ·have LD:¬(G:Int)<(s.size:Int):=lc;(have Ix:Z L=Z d:=by rw[<-AR,mh]);(have BT:jV (∀l m:Int,(if 3<Z d then l=3/\m=0 else∃d:kN Bc,d.map kD=L/\(l,m)=LQ j d)->Es s j l m):=λl m h=>Aa D l m (by rw[mm (by rintro (h|h);cases h;exact FL h),Ix];exact h));clear D;by_cases H:3<Z d
    .have t:=Ab (Aa BT 3 0 (by rw[mo H];exact⟨rfl,rfl⟩));clear BT W;go_wp2;go_ret3;exact⟨_,3,0,rfl,Aa t,(λh=>oj),Aa S⟩
    ·(have t:jV (∀l m:Int,(l,m)=LQ j d->Es s j l m):=λl m h=>Aa BT l m (by rw[mm H];exact⟨d,AR,h⟩));(have B0:jV (∀f,Ac [] M f->LQ j d=(0,0)->Pd s j f (U A0 (Z d) AH) 0):=λf z h=>Aa W rfl FL A0 AH d f lc AR (Ad (Aa Ha) z) (λp u=>Ad (Aa HG p u) z) h);have MN:jV (∀p∈d,Z p.1.A.qH<=1000000):=λp u=>by
      have:=(Aa H9).2 p.1 (by rw[<-AR];exact mx u);omega
     clear BT W AR Ix H9;(go_wp2_with fail);clear f1 f2
     go_loopw [9] (λi wr=>∃k:Nat,i=X J k/\k<=Z d/\jV ((qT k d).any (Qs j)=K)/\jV (Ac [] M wr)) (λi _=>Z d-(rG i).toNat)
     case atStart=>exact⟨0,rfl,mr _,se,kR _ _⟩
     case round=>
      obtain⟨k,rfl,z,HC,E⟩:=hrel;by_cases r:k<Z d
      .obtain⟨g,M0,he,hc,B⟩:=Az (Ad (Aa Ha) (Aa E)) (λc _=>B4 c) k r;obtain⟨rfl,_,rfl⟩:=qX he;have KA:Cc _ 0 d[k]:=(Aa HG d[k] (lV r)).C (Aa E);obtain⟨HJ,FW,IJ⟩:=Aj KA;have d0:=B k r 0 lc;have d1:=B k r 1 lc;have d2:=B k r 2 lc;have d3:=B k r 3 lc;have d4:=B k r 4 lc;have d5:=B k r 5 lc;have d6:=B k r 6 lc;have d7:=B k r 7 lc;have d8:=B k r 8 lc;simp[A4,Cy]at d0 d1 d2 d3 d4 d5 d6 d7 d8;rw[IJ]at d2;clear B KA;(have HN:jV (Qs j d[k]=K->(qT (k+1) d).any (Qs j)=K):=by intro h;rw[Dm _ _ k r HC.o];exact h);(have HY:jV (Qs j d[k]=T6->LQ j d=(4,(d[k].1.A.e:Int))):=by intro h;unfold LQ;rw[FV _ _ k r HC.o h]);obtain⟨A,hA⟩:=kQ (BQ j d[k].1.A.a);obtain⟨n,hn⟩:=kQ (d[k].1.A.qH.length);have HW:=Nc j d[k] hA hn;(have HT:jV (∀f,Ac [] M f->rE rF 23 #[jj (V ⟨pb,0,Y⟩),O d[k].1.A.a] f λe o=>e=j1 (X J A)/\Ac [] f o):=λf z=>by rw[<-hA];exact Aa K9 _ f ((Aa S).H z));rw[hn]at d2;have F:=EZ d[k];obtain⟨q,HV⟩:=kQ (d[k].1.b.toNat:Int);obtain⟨N,JJ⟩:=kQ (d[k].1.A.e:Int);obtain⟨IA,H1⟩:=kQ (L5 d[k]);rw[HV]at d0 F;rw[JJ]at d3 HY;rw[H1]at F HW;have H4:jV (∀f,Ac [] (wr.alloc (Y6 #[X .u8 q,O d[k].1.A.a,U HJ n FW,X J N,X .u8 d[k].1.L.v.toNat,O d[k].1.L.s,X .u8 d[k].1.R.v.toNat,O d[k].1.R.s,X J d[k].1.e] 95)) f->jY f ⟨wr.heap.size,0,Y⟩=V (X .u8 q)/\jY f ⟨wr.heap.size,2,Y⟩=V (U HJ n FW)/\jY f ⟨wr.heap.size,3,Y⟩=V (X J N)):=by
        intro f z;have h:=(kS wr [X .u8 q,O d[k].1.A.a,U HJ n FW,X J N,X .u8 d[k].1.L.v.toNat,O d[k].1.L.s,X .u8 d[k].1.R.v.toNat,O d[k].1.R.s,X J d[k].1.e] 95).C z;exact⟨h.D 0,h.D 2,h.D 3⟩
       clear HV JJ H1 IJ hA hn HC;(go_wp2_with fail);refine(Aa HT _ ((Aa E).alloc _)).G ?_;rintro e w5 ⟨rfl,T⟩;obtain⟨y0,y2,y3⟩:=Aa H4 w5 T;have Q:jV (Ac [] M w5):=((Aa E).alloc _).H T;clear T H4 HT E d0 d1 d2 d3 d4 d5 d6 d7 d8;rcases HW with⟨hq,rfl,AT⟩|⟨hq,AT⟩
       .have LM:=Ab (Aa t 4 N (Aa HY hq).symm);clear HY HN t B0 hq;have AO:(q==97)=T6/\True\/(q==97)=K/\(q==33)=T6:=by
         rcases F with h|h|h
         .exact j2 ⟨h.1,trivial⟩
         .exact j3 ⟨h.1,h.2.1⟩
         .cases h.2.2
        clear F;rcases AO with⟨k1,I⟩|⟨k1,I⟩<;>rcases AT with⟨a1,a2,a3,a4⟩|⟨a1,a2,a3,a4⟩|⟨a1,a2,a3,a4⟩;all_goals
         go_wp2_with fail
         go_quiet (fail)
         go_wp2;go_ret3;exact⟨_,4,N,rfl,Aa LM,(λh=>oj),(Aa S).H ((Aa Q).drewN _)⟩
       .have K1:=Ab (Aa HN hq);clear HY HN hq;rcases AT with rfl|⟨rfl,AT⟩
        .have AO:(q==97)=K/\(q==33)=K:=by
          rcases F with h|h|h
          .cases h.2
          .cases h.2.2
          .exact⟨h.1,h.2.1⟩
         obtain⟨k1,I⟩:=AO;clear F;go_wp2
         go_roundw
         case rel=>exact⟨k+1,ly,lc,K1,Q⟩
         case measure=>simp[rG];omega
        .have AO:(q==97)=T6/\True\/(q==97)=K/\(q==33)=T6:=by
          rcases F with h|h|h
          .exact j2 ⟨h.1,trivial⟩
          .exact j3 ⟨h.1,h.2.1⟩
          .cases h.2.2
         clear F;rcases AO with⟨k1,I⟩|⟨k1,I⟩<;>rcases AT with⟨a1,a2,a3,a4⟩|⟨a1,a2,a3,a4⟩;all_goals
          go_wp2
          go_roundw
          case rel=>exact⟨k+1,ly,lc,K1,Q⟩
          case measure=>simp[rG];omega
      .have Ax:jV (LQ j d=if 0<=D4 Ga d then(5,D4 Ga d)else(0,0)):=by
        show _=_;have h:=HC.o;rw[lY lc]at h;unfold LQ;have h2:d.find? (Qs j)=Y:=by
         rw[ol];intro x hx hf;(have H:d.any (Qs j)=T6:=by rw[nD];exact⟨x,hx,hf⟩);rw[h]at H;cases H
        rw[h2]
       have FT:jV (rE rF 84 #[ku #[O ⟨#[]⟩,U Y 0 0,X J 0],U A0 (Z d) AH] wr λe o=>e=j1 (X J (D4 Ga d))/\Ac [] wr o):=
        XX Ga (U Y 0 0) (U A0 (Z d) AH) d wr (mw _ _ _ _) (Ad (Aa Ha) (Aa E)) (λp u=>Ad (Aa HG p u) (Aa E)) lc (Aa MN) (by simp[Ga])
       generalize D4 Ga d=SP at Ax FT;clear HC;(go_wp2_with fail);refine(Aa FT).G ?_;rintro e w5 ⟨rfl,T⟩;have Q:=Ab ((Aa E).H T);clear FT T E;by_cases h0:0<=SP
       .have HB:=Ab (Aa t 5 SP (by rw[Aa Ax,mo h0]));clear Ax t B0;go_wp2;go_ret3;exact⟨_,5,SP,rfl,Aa HB,(λh=>oj),(Aa S).H (Aa Q)⟩
       .have HB:=Ab (Aa t 0 0 (by rw[Aa Ax,mm h0]));have LL:=Ab (Aa B0 w5 (Aa Q) (by rw[Aa Ax,mm h0]));clear Ax t B0;go_wp2;go_ret3;exact⟨_,0,0,rfl,Aa HB,Aa LL,(Aa S).H (Aa Q)⟩
