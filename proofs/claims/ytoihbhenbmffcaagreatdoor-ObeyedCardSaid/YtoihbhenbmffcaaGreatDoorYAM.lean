import Derived.Test.YtoihbhenbmffcaaGreatDoorYAL
import Derived.Test.YtoihbhenbmffcaaGreatDoorYAB
set_option linter.all false
set_option maxHeartbeats 0
open List renaming length->Z,toArray->j3
open Option renaming none->Y,some->V
open Go.Value renaming slice->U,int->X,string->O,pointer->kt,agg->lR,bool->lT
open Bool renaming false->K,true->j1
open Go.IntKind renaming i64->J
open Go.Obj renaming cells->j2
open Go.Ending renaming returned->lo
open Or renaming inr->ly
open Go renaming World->l9,Value->lN
open Go.RowKit renaming Hid->lO
open Go.World renaming cell?->lP,ownsRow->lQ
open ByteArray renaming empty->lU
open Prod renaming fst->lW
open Go.Act renaming put->lY
open Go.Op renaming bytesLess->lZ
namespace Go.Proofs.YtoihbhenbmffcaaGreatDoor
open Go.RowKit Go.Proofs.Tryz
theorem Tryz.info95:(Tryz.prog.info? 95).map (λi=>(i.zero,i.size,i.bytes))=V (V (lR #[X .u8 0,O ⟨#[]⟩,U Y 0 0,X J 0,X .u8 0,O ⟨#[]⟩,X .u8 0,O ⟨#[]⟩,X J 0]),9,112):=by kernel_rfl
abbrev Bj:=Bi×lN
def Dq(l:mc Bj):mc lN:=l.flatMap λp=>CJ p.1 p.2
def CF(w:l9)(base:Nat)(p:Bj):Prop:=lQ w base 93 2 p.2 (Z p.1.A.args) (p.1.A.args.flatMap AU)
def CF.kept{M:mc Nat}{w w':l9}{base:Nat}{p:Bj}(h:CF w base p)(k:Ac M w w')(a:∀i,i∈M->i<base):CF w' base p:=Ad h k a
def CF.grown{w w':l9}{base:Nat}{p:Bj}{a:lN}(h:CF w base p)(k:w.grownBy w' a.ownBlock)(b:Cd p.2 a):CF w' base p:=
 je (v:=p.2) h k (by
  cases hv:p.2.ownBlock with
  |none=>exact Or.inl rfl
  |some k=>exact ly (λe=>b k hv e.symm))
def CF.alloc{w:l9}{base:Nat}{p:Bj}(h:CF w base p)(o:Obj):CF (w.alloc o) base p:=gU h o
set_option maxRecDepth 100000
theorem bP(b:Nat)(s:zA)(at_:Nat)(w:l9)(hs:s.size<=1000000)(HN:at_<=s.size)(hB:AH w b (BO s at_ K) 73):
  Calls prog 81 #[kt (V ⟨b,0,Y⟩)] w λe R=>∃(bv:lN) (S:mc Bj),e=lo bv/\S.map lW=(Bl s at_).1/\
   lQ R w.heap.size 95 9 bv (Z S) (Dq S)/\(∀p∈S,CF R w.heap.size p)/\AH R b (BO s (Bl s at_).2.1 (Bl s at_).2.2) 73/\Ac [b] w R:=by
 obtain⟨i0,HM,Ha,HP,HH⟩:=iR Tryz.info95;have HW:=hB.lt;obtain⟨L,u,n,hL⟩:∃L u n,Bl s at_=(L,u,n):=⟨_,_,_,rfl⟩;rw[hL];have HL:lO (Bl s at_=(L,u,n)):=hL;clear hL;go_enter func81,ntmps81;go_wp2_with fail
 go_loopg [3,4] (2*(s.size-at_)+1) (λk l HG wr=>∃(q i:Bool) (a:Nat) (c:mc Bj),HG=lT q/\a<=s.size/\Z c<=a+1/\((q&& !i)=j1->Z c<=a)/\
  k=2*(s.size-a)+(if(q&& !i)=j1 then 1 else 0)/\lO (Eg s q i a (c.map lW) (L,u,n))/\AH wr b (BO s a i) 73/\
  lQ wr w.heap.size 95 9 l (Z c) (Dq c)/\lO (∀p∈c,CF wr w.heap.size p/\Cd p.2 l)/\Ac [b] w wr)
 case atStart=>
  refine⟨j1,K,at_,[],rfl,HN,by simp,by simp,by simp,?_,hB,ip _ _ _ _,λp f=>by simp at f,me _ _⟩;show Eg _ _ _ _ _ _;unfold Eg;simp[HL.out]
 case round=>
  obtain⟨q,i,a,c,rfl,ha,A2,Q,z,y,x,j,W,C⟩:=hrel;have I:lO (gk=2*(s.size-a)+(if(q&& !i)=j1 then 1 else 0)):=z;clear z;obtain⟨ad,cp,rfl⟩:=Ca j;cases q with
  |false=>
   have D:=y.out.done rfl;have HD:lO (c.map lW=L/\a=u/\i=n):=D;clear A2 Q I y D;go_wp2;go_ret;obtain⟨d1,d2,d3⟩:=HD.out;subst d2 d3;exact⟨_,c,rfl,d1,j,λp f=>(W.out p f).1,x,C⟩
  |true=>
   cases i with
   |true=>
    have D:=y.out.done rfl;have HD:lO (c.map lW=L/\a=u/\j1=n):=D;have Bx:=x.cell 2;simp[BO]at Bx;clear A2 Q I y D;go_wp2;go_ret;obtain⟨d1,d2,d3⟩:=HD.out;subst d2 d3;exact⟨_,c,rfl,d1,j,λp f=>(W.out p f).1,x,C⟩
   |false=>
    have Bx:=x.cell 2;simp[BO]at Bx;have HZ:=x.lt;have HC:Z c<=a:=Q rfl;clear A2 Q;obtain⟨t,h,d,H⟩:∃t h d,Da s a=(t,h,d):=⟨_,_,_,rfl⟩;(have HU:h<=s.size:=by have:=KT s a ha;rw[H]at this;exact this);have HS:=y.out.step H ha (by simpa using HC);obtain⟨m,hm⟩:∃m,(!d&&D1 s (AM s h d) 44)=m:=⟨_,rfl⟩;obtain⟨g,DT⟩:∃g,BX s h d 44=g:=⟨_,rfl⟩;rw[hm,DT]at HS;obtain⟨T,q2,q3,q4,N⟩:=HS;have B:lO (Da s a=(t,h,d)/\(!d&&D1 s (AM s h d) 44)=m/\BX s h d 44=g/\g<=s.size/\Z (c.map lW++[t])<=g+1/\((m&& !d)=j1->Z (c.map lW++[t])<=g)/\2*(s.size-g)+(if(m&& !d)=j1 then 1 else 0)<gk/\Eg s m d g (c.map lW++[t]) (L,u,n)):=
     ⟨H,hm,DT,T,q2,q3,by have:=I.out;simp at this;omega,N⟩
    clear H hm DT T q2 q3 q4 N I y;(go_wp2_with fail);refine(dv b s a _ hs ha x).mono ?_;rintro e P ⟨av,rfl,r,AT,G⟩;rw[B.out.1]at AT r⊢;obtain⟨v,o,rfl⟩:=Ca r;have FP:=Ad j G (by simp;omega);have HB:=G.size;have FT:=C.size;simp only[CJ];simp only at r;go_wp2_with (at_builtin;refine io _ rfl _ _ _ rfl w.heap.size 95 i0 _ 9 112 underlying80 HM Ha HP HH rfl (by omega) (U ad (Z c) cp) (Z c) (Dq c) rfl (FP.alloc _) ⟨P.heap.size,0,Y⟩ 1 1 (CJ t (U v (Z t.A.args) o)) rfl rfl (iu (cs:=j3 (CJ t (U v (Z t.A.args) o))) (t:=95) (fr:=(0,0)) (iD P _)) (by simp[Value.oneCell',CJ]) (by omega) (by unfold maxLen;omega) (by omega) (by simp;omega) (P.heap.size+1) (by simp) ?_;intro gg FL w5 B9 E CC HY)
    have HX:=(B9.lt gg rfl).1;have FO:=(AT.alloc _).grown E (by have:=A5 j b (by omega);simpa using this);have EK:=((C.trans G).alloc _).grown E (λk z=>ly ((j.lt k z).1));have B0:lO (∀p∈c++[(t,(U v (Z t.A.args) o:lN))],CF w5 w.heap.size p/\Cd p.2 (U (V ⟨gg,0,Y⟩) (Z c+1) FL)):=by
     intro p f;rcases ic.1 f with f|f
     .obtain⟨h1,F⟩:=W.out p f;have Ax:=h1.kept G (by simp;omega);exact⟨(Ax.alloc _).grown E F,Cd.ze F Ax CC (by omega)⟩
     .simp only[gN]at f;subst f;have F:Cd (U v (Z t.A.args) o) (U ad (Z c) cp):=by
       intro k z he;have:=(r.lt k z).1;have:=(j.lt k he).2;omega
      have Ax:CF P w.heap.size (t,U v (Z t.A.args) o):=Am r (by omega);exact⟨(Ax.alloc _).grown E F,Cd.ze F r CC (by omega)⟩
    clear W r AT G FP E CC j x C HB FT;(go_wp2_with fail);refine(Mi b s h d 44 44 _ rfl hs HU FO).mono ?_;rintro e w6 ⟨rfl,FB,M⟩;have Go:=Ad B9 M (by simp;omega);have HF:=EK.trans M;have HJ:lO (∀p∈c++[(t,(U v (Z t.A.args) o:lN))],CF w6 w.heap.size p/\Cd p.2 (U (V ⟨gg,0,Y⟩) (Z c+1) FL)):=
     λp f=>⟨(B0.out p f).1.kept M (by simp;omega),(B0.out p f).2⟩
    rw[B.out.2.2.1]at FB;rw[B.out.2.1];clear FO EK M B9 B0;go_wp2_with fail
    go_roundg (2*(s.size-g)+(if(m&& !d)=j1 then 1 else 0))
    case measure=>exact B.out.2.2.2.2.2.2.1
    case rel=>
     obtain⟨_,_,_,T,q2,q3,_,N⟩:=B.out;refine⟨m,d,g,c++[(t,U v (Z t.A.args) o)],rfl,T,by simpa using q2,by simpa using q3,rfl,?_,FB,?_,HJ,HF⟩
     .show Eg _ _ _ _ _ _;simpa using N
     .simpa[Dq] using Go
structure Ck where
 head:Df
 body:mc Bi
 at_:Nat
def DZ(c:Ck)(hv bv:lN):mc lN:=[O c.head.name,hv,X J c.head.at_,bv,X J c.at_]
def DG(s:zA)(a1:Nat)(b1:Bool):mc Bi×Nat×Bool:=
 if !b1&&D1 s (AM s a1 b1) 58 then(if D1 s (BX s a1 b1 58) 45 then Bl s (BX s a1 b1 58+1)else([],BX s a1 b1 58,j1))else([],BX s a1 b1 58,b1)
def An(s:zA)(at_:Nat):Ck×Nat×Bool:=
 let A:=AS s (Ae s at_) K
 let B:=DG s A.2.1 A.2.2
 (⟨A.1,B.1,Ae s at_⟩,Bn s B.2.1 B.2.2 46)
theorem Xj(b:Nat)(s:zA)(at_ j:Nat)(w:l9)(A:Df)(n g a3:Nat)(f b3:Bool)(L:mc Bi)(a4:Nat)(b4:Bool)(hs:s.size<=1000000)(H1:at_<=s.size)
  (k:lO (Ae s at_=j/\AS s j K=(A,n,f)/\BX s n f 58=g/\DG s n f=(L,a3,b3)/\Bn s a3 b3 46=(a4,b4))) (hB:AH w b (BO s at_ K) 73):
  Calls prog 44 #[kt (V ⟨b,0,Y⟩)] w λe w'=>∃(hv bv:lN) (a:mc Bj),e=lo (lR (j3 (DZ ⟨A,L,j⟩ hv bv)))/\lQ w' w.heap.size 93 2 hv (Z A.args) (A.args.flatMap AU)/\
   a.map lW=L/\lQ w' w.heap.size 95 9 bv (Z a) (Dq a)/\(∀p∈a,CF w' w.heap.size p)/\AH w' b (BO s a4 b4) 73/\Ac [b] w w':=by
 have Mo:=hB.lt;have H2:j<=s.size:=by have:=Bp s at_ H1;have:=k.out.1;omega
 have HK:n<=s.size:=by have:=IC s j K H2;rw[k.out.2.1]at this;exact this
 have HF:g<=s.size:=by have:=DA s n f 58 HK;rw[k.out.2.2.1]at this;exact this
 go_enter func44,ntmps44;go_wp2_with fail
 refine(Dx b s at_ K _ hs H1 (hB.alloc _)).mono ?_;rintro e w1 ⟨rfl,S,hK⟩;rw[show AM s at_ K=j from k.out.1]at S
 have hn:=(mf w _ _).kept hK (by simp;omega);have HN:=((me [b] w).alloc _).trans hK;clear hB hK;have LE:=S.lt;have IS:=hn.lt;have u:=S.cell 1;simp[BO]at u;go_wp2_with fail
 refine(Qb b s j K _ hs H2 (S.alloc _)).mono ?_;rintro e w2 ⟨hv,rfl,o,Go,BT⟩;rw[k.out.2.1]at Go o⊢;have B:=(mf w1 _ _).kept BT (by simp;omega);have H8:=(hn.alloc _).kept BT (by simp;omega);have HV:=(HN.alloc _).trans BT;have HT:=BT.size;simp only[iz]at o HT;obtain⟨N,hN⟩:∃N,w1.heap.size=N:=⟨_,rfl⟩;rw[hN]at B o HT⊢;have LS:b<N:=by omega
 have M1:w.heap.size<N:=by omega
 clear HN S hn LE IS u BT hN;obtain⟨R,M,rfl⟩:=Ca o
 try simp only at o
 have e0:=B.cell 0;have e1:=B.cell 1;have e2:=B.cell 2;have HU:=B.frozen;simp at e0 e1 e2;simp only[Cg];go_wp2_with fail
 have HM:=((Go.zB ⟨N,0,Y⟩ (by simp;omega) (O A.name)).zB ⟨N,1,Y⟩ (by simp;omega) (U R (Z A.args) M)).zB ⟨N,2,Y⟩ (by simp;omega) (X J A.at_);have FF:=((B.set 0 (O A.name)).set 1 (U R (Z A.args) M)).set 2 (X J A.at_);have H9:=((H8.zB ⟨N,0,Y⟩ (by simp;omega) (O A.name)).zB ⟨N,1,Y⟩ (by simp;omega) (U R (Z A.args) M)).zB ⟨N,2,Y⟩ (by simp;omega) (X J A.at_);have HQ:=((HV.setCell (p:=⟨N,0,Y⟩) (by simp;omega) (O A.name)).setCell (p:=⟨N,1,Y⟩) (by simp;omega) (U R (Z A.args) M)).setCell (p:=⟨N,2,Y⟩) (by simp;omega) (X J A.at_);have Ix:=Ag (Ag (Ag o (p:=⟨N,0,Y⟩) (by simpa using A5 o N (by omega)) (O A.name)) (p:=⟨N,1,Y⟩) (by simpa using A5 o N (by omega)) (U R (Z A.args) M)) (p:=⟨N,2,Y⟩) (by simpa using A5 o N (by omega)) (X J A.at_);simp only[gJ,gK]at FF;clear Go B H8 HV o e0 e1 e2 HU;refine(Mi b s n f 58 58 _ rfl hs HK HM).mono ?_;rintro e C ⟨rfl,d,A2⟩;rw[k.out.2.2.1]at d;have t:=FF.kept A2 (by simp;omega);have r:=H9.kept A2 (by simp;omega);have v:=HQ.trans A2;have m:=Ad Ix A2 (by simp;omega);clear HM FF H9 HQ Ix A2;have MB:=t.lt;have M0:=d.lt;have LM:=r.lt;have hQ:(!f&&D1 s (AM s n f) 58)=K\/((!f&&D1 s (AM s n f) 58)=j1/\¬g<s.size)\/((!f&&D1 s (AM s n f) 58)=j1/\g<s.size/\D1 s g 45=K)\/((!f&&D1 s (AM s n f) 58)=j1/\D1 s g 45=j1):=by
  cases(!f&&D1 s (AM s n f) 58)<;>cases D1 s g 45<;>simp
  omega
 rcases hQ with i|⟨i,B0⟩|⟨i,B0,q⟩|⟨i,q⟩
 case' inl=>
  rw[i];have c:=k.out.2.2.2.1;unfold DG at c;rw[i,k.out.2.2.1]at c;simp only[gO,if_false,iE]at c;obtain⟨z,r2,r3⟩:=c;subst r2 r3;have DT:=HF;obtain⟨a,h⟩:∃a:mc Bj,lO (a.map lW=L)/\a=[]:=⟨[],by show _=_;rw[<-z];rfl,rfl⟩;have Q:=d;have P:=t;have A0:=r;have AO:=v;have Ax:=m;have W:lQ C (N+1) 95 9 (U Y 0 0) (Z a) (Dq a):=by rw[h.2];exact ip _ _ _ _
  have Bx:lO (∀p∈a,CF C (N+1) p):=by rw[h.2];intro p l;simp at l
  replace h:=h.1
  clear d t r v m z i
 case' inr.inl=>
  have BA:f=K:=by cases f<;>simp_all
  subst BA;rw[i];have c:=k.out.2.2.2.1;unfold DG at c;rw[i,k.out.2.2.1]at c;simp only[if_true]at c;have G:=d.cell 0;have u:=d.cell 1;have F:=d.cell 2;have FO:=d.frozen;simp[BO]at G u F;have q:D1 s g 45=K:=cN B0 45;rw[q]at c;simp only[gO,if_false,iE]at c;obtain⟨z,r2,r3⟩:=c;subst r2 r3;have DT:=HF;obtain⟨a,h⟩:∃a:mc Bj,lO (a.map lW=L)/\a=[]:=⟨[],by show _=_;rw[<-z];rfl,rfl⟩;clear z i;have L0:decide ((g:Int)<(s.size:Int))=K:=by simp;omega
  have M2:decide (g<s.size)=K:=by simp;omega
  go_wp2_with fail
  go_quiet (fail)
  have Q:=(d.drewN nq).set 2 (lT j1);have P:=(t.drewN nq).zB ⟨b,2,Y⟩ (by simp;omega) (lT j1);have A0:=(r.drewN nq).zB ⟨b,2,Y⟩ (by simp;omega) (lT j1);have AO:=(v.drewN nq).setCell (p:=⟨b,2,Y⟩) (by simp) (lT j1);have Ax:=Ag (DK m nq) (p:=⟨b,2,Y⟩) (by simpa using A5 m b (by omega)) (lT j1);have W:lQ ((C.drewN nq).setCell ⟨b,2,Y⟩ (lT j1)) (N+1) 95 9 (U Y 0 0) (Z a) (Dq a):=by rw[h.2];exact ip _ _ _ _
  have Bx:lO (∀p∈a,CF ((C.drewN nq).setCell ⟨b,2,Y⟩ (lT j1)) (N+1) p):=by rw[h.2];intro p l;simp at l
  replace h:=h.1
  clear d t r v m
 case' inr.inr.inl=>
  have BA:f=K:=by cases f<;>simp_all
  subst BA;rw[i];have c:=k.out.2.2.2.1;unfold DG at c;rw[i,k.out.2.2.1]at c;simp only[if_true]at c;have G:=d.cell 0;have u:=d.cell 1;have F:=d.cell 2;have FO:=d.frozen;simp[BO]at G u F;rw[q]at c;simp only[gO,if_false,iE]at c;obtain⟨z,r2,r3⟩:=c;subst r2 r3;have DT:=HF;obtain⟨a,h⟩:∃a:mc Bj,lO (a.map lW=L)/\a=[]:=⟨[],by show _=_;rw[<-z];rfl,rfl⟩;clear z i;have Jx:(g:Int)<(s.size:Int):=by omega
  have hq:((s[g].toNat:Int)==45)=K:=by rw[<-q];exact(Ik B0 45).symm
  go_wp2_with fail
  go_quiet (fail)
  have Q:=(d.drewN nq).set 2 (lT j1);have P:=(t.drewN nq).zB ⟨b,2,Y⟩ (by simp;omega) (lT j1);have A0:=(r.drewN nq).zB ⟨b,2,Y⟩ (by simp;omega) (lT j1);have AO:=(v.drewN nq).setCell (p:=⟨b,2,Y⟩) (by simp) (lT j1);have Ax:=Ag (DK m nq) (p:=⟨b,2,Y⟩) (by simpa using A5 m b (by omega)) (lT j1);have W:lQ ((C.drewN nq).setCell ⟨b,2,Y⟩ (lT j1)) (N+1) 95 9 (U Y 0 0) (Z a) (Dq a):=by rw[h.2];exact ip _ _ _ _
  have Bx:lO (∀p∈a,CF ((C.drewN nq).setCell ⟨b,2,Y⟩ (lT j1)) (N+1) p):=by rw[h.2];intro p l;simp at l
  replace h:=h.1
  clear d t r v m
 case' inr.inr.inr=>
  have BA:f=K:=by cases f<;>simp_all
  subst BA;rw[i];have c:=k.out.2.2.2.1;unfold DG at c;rw[i,k.out.2.2.1]at c;simp only[if_true]at c;have G:=d.cell 0;have u:=d.cell 1;have F:=d.cell 2;have FO:=d.frozen;simp[BO]at G u F;rw[q]at c;simp only[if_true]at c;have B0:=Fl q;have Jx:(g:Int)<(s.size:Int):=by omega
  have hq:((s[g].toNat:Int)==45)=j1:=by rw[<-q];exact(Ik B0 45).symm
  have DT:a3<=s.size:=by have:=VE s (g+1) (by omega);rw[c]at this;exact this
  have HR:lO (Bl s (g+1)=(L,a3,b3)):=c;clear c i q;go_wp2_with fail
  go_quiet (fail)
  clear hq;go_wp2_with fail
  refine(bP b s (g+1) _ hs (by omega) ((d.drewN nq).set 1 _)).mono ?_;rintro e w4 ⟨bv,a,rfl,FP,H7,H4,HI,E⟩;rw[HR.out]at HI FP;have h:lO (a.map lW=L):=FP;have HD:=((t.drewN nq).zB ⟨b,1,Y⟩ (by simp;omega) _).kept E (by simp;omega);have HZ:=((r.drewN nq).zB ⟨b,1,Y⟩ (by simp;omega) _).kept E (by simp;omega);have H5:=((v.drewN nq).setCell (p:=⟨b,1,Y⟩) (by simp) _).trans E;have HB:=Ad (Ag (DK m nq) (p:=⟨b,1,Y⟩) (by simpa using A5 m b (by omega)) _) E (by simp;omega);have CC:lQ w4 (N+1) 95 9 bv (Z a) (Dq a):=Am H7 (by simp;omega);have FC:lO (∀p∈a,CF w4 (N+1) p):=λp l=>Am (H4 p l) (by simp;omega)
  have FL:=E.size;simp only[World.size_setCell]at FL;have LL:C.heap.size<=w4.heap.size:=FL;clear d t r v m E H7 H4 FP G u F FO FL;obtain⟨x,y,rfl⟩:=Ca CC;have e3:=HD.cell 3;have HU:=HD.frozen 3;simp at e3;have Q:=HI.zB ⟨N,3,Y⟩ (by simp;omega) (U x (Z a) y);have P:=HD.set 3 (U x (Z a) y);have A0:=HZ.zB ⟨N,3,Y⟩ (by simp;omega) (U x (Z a) y);have AO:=H5.setCell (p:=⟨N,3,Y⟩) (by simp;omega) (U x (Z a) y);have Ax:=Ag HB (p:=⟨N,3,Y⟩) (by simpa using A5 HB N (by omega)) (U x (Z a) y);have W:=Ag CC (p:=⟨N,3,Y⟩) (by simpa using A5 CC N (by omega)) (U x (Z a) y);have Bx:lO (∀p∈a,CF (w4.setCell ⟨N,3,Y⟩ (U x (Z a) y)) (N+1) p):=λp l=>Ag (FC.out p l) (by simpa using A5 (FC.out p l) N (by omega)) _
  clear HI HZ H5 HB CC FC
 all_goals
  have MN:=Q.lt;have M3:=P.lt;go_wp2_with fail
  refine(MA b s _ _ 46 46 _ rfl hs DT Q).mono ?_;rintro e w6 ⟨rfl,HW,D⟩;have EK:=k.out.2.2.2.2;simp only[Bn,iE]at EK;rw[EK.1,EK.2]at HW;have K2:=P.kept D (by simp;omega);have HA:=A0.kept D (by simp;omega);have K3:=AO.trans D;have K5:=Ad Ax D (by simp;omega);have JJ:=Ad W D (by simp;omega);have K6:lO (∀p∈a,CF w6 (N+1) p):=λp l=>(Bx.out p l).kept D (by simp;omega)
  clear Q P A0 AO Ax W D EK Bx;have H:=K2.cell;have I:=HA.cell;have MY:=HA.frozen;have e0:=H 0;have e1:=H 1;have e2:=H 2;have e3:=H 3;have e4:=H 4;have f0:=I 0;have f1:=I 1;have f2:=I 2;have f3:=I 3;have f4:=I 4;simp at e0 e1 e2 e3 e4 f0 f1 f2 f3 f4;clear H I;go_wp2;have T:∀{v0 v1 v2 v3 v4:lN},Ac [w.heap.size] w6 (((((w6.setCell ⟨w.heap.size,0,Y⟩ v0).setCell ⟨w.heap.size,1,Y⟩ v1).setCell ⟨w.heap.size,2,Y⟩ v2).setCell ⟨w.heap.size,3,Y⟩ v3).setCell ⟨w.heap.size,4,Y⟩ v4):=by
   intro v0 v1 v2 v3 v4
   repeat (refine Ac.setCell ?_ (by simp) _)
   exact me _ _
  refine im (BR rfl rfl (((((HA.set 0 _).set 1 _).set 2 _).set 3 _).set 4 _) underlying82 rfl (by kernel_rfl)) rfl ⟨U R (Z A.args) M,by first|exact U x (Z a) y|exact U Y 0 0,a,?_,?_,?_,?_,?_,?_,?_⟩
  .simp[DZ]
  .exact Am (Ad K5 T (by simp;omega)) (by omega)
  .exact h.out
  .exact Am (Ad JJ T (by simp;omega)) (by omega)
  .exact λp l=>Am ((K6.out p l).kept T (by simp;omega)) (by omega)
  .exact HW.kept T (by simp;omega)
  .exact K3.trans' T (by simp)
def aG(s:zA)(a:Nat)(c:Bool)(h:a<=s.size):(DG s a c).2.1<=s.size:=by
 have b:=DA s a c 58 h;unfold DG;split
 .split
  .rename_i d;exact VE _ _ (by have:=Fl d;omega)
  .exact b
 .exact b
def VI(s:zA)(a:Nat)(b:Bool):a<=(DG s a b).2.1:=by
 have c:=Ek s a b 58;unfold DG;split
 .split
  .have:=Ve s (BX s a b 58+1);omega
  .exact c
 .exact c
def I1(s:zA)(at_:Nat)(h:at_<=s.size):(An s at_).2.1<=s.size:=by
 unfold An;simp only;exact DA _ _ _ _ (aG _ _ _ (IC _ _ _ (Bp _ _ h)))
def Pq{s:zA}{at_:Nat}(h:(An s at_).2.2=K):at_<(An s at_).2.1:=by
 unfold An at h⊢;simp only at h⊢;have a:=BU s at_;have b:=Kh s (Ae s at_) K;have d:=VI s (AS s (Ae s at_) K).2.1 (AS s (Ae s at_) K).2.2;have c:=R8 h;omega
def Pg(b:Nat)(s:zA)(at_:Nat)(w:l9)(x:s.size<=1000000)(v:at_<=s.size)(z:AH w b (BO s at_ K) 73):
  Calls prog 44 #[kt (V ⟨b,0,Y⟩)] w λe g=>∃(r t:lN) (k:mc Bj),e=lo (lR (j3 (DZ (An s at_).1 r t)))/\lQ g w.heap.size 93 2 r (Z (An s at_).1.head.args) ((An s at_).1.head.args.flatMap AU)/\
   k.map lW=(An s at_).1.body/\lQ g w.heap.size 95 9 t (Z k) (Dq k)/\(∀p∈k,CF g w.heap.size p)/\AH g b (BO s (An s at_).2.1 (An s at_).2.2) 73/\Ac [b] w g:=by
 obtain⟨j,q⟩:∃j,Ae s at_=j:=⟨_,rfl⟩;obtain⟨A,c,a,m⟩:∃A c a,AS s j K=(A,c,a):=⟨_,_,_,rfl⟩;obtain⟨l,y⟩:∃l,BX s c a 58=l:=⟨_,rfl⟩;obtain⟨L,f,d,n⟩:∃L f d,DG s c a=(L,f,d):=⟨_,_,_,rfl⟩;obtain⟨h,i,o⟩:∃h i,Bn s f d 46=(h,i):=⟨_,_,rfl⟩;have e:An s at_=(⟨A,L,j⟩,h,i):=by unfold An;simp only[q,m,n,o]
 rw[e];have u:lO (Ae s at_=j/\AS s j K=(A,c,a)/\BX s c a 58=l/\DG s c a=(L,f,d)/\Bn s f d 46=(h,i)):=⟨q,m,y,n,o⟩;exact Xj b s at_ j w A c l f a d L h i x v u z
def DV(l:mc zA)(x:zA):Bool:=l.any λy=>y.toList==x.toList
def KB(l:mc zA)(y x:zA):DV (l++[y]) x=(DV l x||(y.toList==x.toList)):=by simp[DV,lJ]
def Z0{l:mc zA}{k:Nat}(a:k<Z l)(x:zA):DV (l.take (k+1)) x=(DV (l.take k) x||(l[k].toList==x.toList)):=by
 rw[gQ a,KB]
def aI{l:mc zA}{k:Nat}(a:k<Z l){x:zA}(h:(l[k].toList==x.toList)=j1):DV l x=j1:=by
 unfold DV;rw[jg];exact⟨l[k],gL a,h⟩
set_option maxRecDepth 512
theorem Dz(d:lN)(l:mc zA)(x:zA)(base:Nat)(w:l9)(b:lQ w base 9 1 d (Z l) (l.flatMap Ah))(v:Z l<=1000000):
  Calls prog 50 #[d,O x] w λe m=>e=lo (lT (DV l x))/\m=w:=by
 obtain⟨y,s,rfl⟩:=Al b;go_enter func50,ntmps50;go_wp2
 go_loop [5] (λi=>∃k:Nat,i=X J k/\k<=Z l/\lO (DV (l.take k) x=K)) (λi=>Z l-(intOf i).toNat)
 case atStart=>exact⟨0,rfl,ik _,by show _=_;simp[DV]⟩
 case round=>
  obtain⟨k,rfl,r,j⟩:=hrel;by_cases a:k<Z l
  .obtain⟨g,t,c,u,f⟩:=AF b (by simp[Ah]) k a;simp only[gM]at c;obtain⟨rfl,_,rfl⟩:=c;have n:=f k a 0 (by omega);simp[Ah]at n;clear f;have q:lO ((l[k].toList==x.toList)=j1->DV l x=j1):=aI a;have o:lO ((l[k].toList==x.toList)=K->DV (l.take (k+1)) x=K):=by
    intro h;rw[Z0 a,j.out,h];rfl
   go_wp2
   .go_ret;rw[q.out (by assumption)];exact⟨rfl,rfl⟩
   .go_round
    case rel=>exact⟨k+1,by go_num,by omega,o.out (by assumption)⟩
    case measure=>simp[intOf];omega
  ·(have p:lO (DV l x=K):=by have:=j.out;rwa [gR (by omega)]at this);go_wp2;go_ret;rw[p.out];exact⟨rfl,rfl⟩
structure A6 where
 head:Df
 hv:lN
 bv:lN
 bl:mc Bj
 at_:Nat
def CR(c:A6):mc lN:=[O c.head.name,c.hv,X J c.head.at_,c.bv,X J c.at_]
def Bt(p:Bj):mc lN:=CJ p.1 p.2
def BQ(c:A6):Z (CR c)=5:=rfl
def B6(p:Bj):Z (Bt p)=9:=rfl
def Ga(t:AE):Z (AU t)=2:=rfl
structure Yf(w:l9)(c:A6):Prop where
 args:lQ w 0 93 2 c.hv (Z c.head.args) (c.head.args.flatMap AU)
 body:lQ w 0 95 9 c.bv (Z c.bl) (c.bl.flatMap Bt)
 lits:∀p∈c.bl,CF w 0 p
structure Dw(w:l9)(lv:lN)(cs:mc A6):Prop where
 row:lQ w 0 82 5 lv (Z cs) (cs.flatMap CR)
 each:∀c∈cs,Yf w c
def Yf.kept{w w':l9}{c:A6}(h:Yf w c)(k:Ac [] w w'):Yf w' c:=
 ⟨Ad h.args k (by simp),Ad h.body k (by simp),λp a=>Ad (h.lits p a) k (by simp)⟩
def Dw.kept{w w':l9}{a:lN}{cs:mc A6}(h:Dw w a cs)(k:Ac [] w w'):Dw w' a cs:=
 ⟨Ad h.row k (by simp),λc b=>(h.each c b).kept k⟩
def MT(p:Bj):Bool:=p.1.kind==97||p.1.kind==33
def TJ(bl:mc Bj)(x:zA):Option Nat:=bl.findSome? λp=>if MT p&&(p.1.A.name.toList==x.toList)then V (Z p.1.A.args) else Y
def GX(c:A6)(x:zA):Option Nat:=if c.head.name.toList==x.toList then V (Z c.head.args) else TJ c.bl x
def Dv(cs:mc A6)(x:zA):Int:=match cs.findSome? (GX · x)with|some n=>n|none=> -1
def FI{α β:Type}(f:α->Option β)(l:mc α)(k:Nat)(a:k<Z l)(b:(l.take k).findSome? f=Y):(l.take (k+1)).findSome? f=f l[k]:=by
 rw[gQ a,lC,b];simp
def GF{α β:Type}(f:α->Option β)(l:mc α)(k:Nat)(a:k<Z l)(c:(l.take k).findSome? f=Y){b:β}(d:f l[k]=V b):l.findSome? f=V b:=by
 have h:=FI f l k a c;rw[d]at h;have e:l=l.take (k+1)++l.drop (k+1):=(iZ _ _).symm;rw[e,lC,h];rfl
def E2(p:Bj):(((p.1.kind.toNat:Int)==97)=j1/\MT p=j1)\/(((p.1.kind.toNat:Int)==97)=K/\((p.1.kind.toNat:Int)==33)=j1/\MT p=j1)\/
  (((p.1.kind.toNat:Int)==97)=K/\((p.1.kind.toNat:Int)==33)=K/\MT p=K):=by
 have b:((p.1.kind.toNat:Int)==97)=(p.1.kind==97):=CP _ 97;have a:((p.1.kind.toNat:Int)==33)=(p.1.kind==33):=CP _ 33;rw[b,a];unfold MT;cases(p.1.kind==97)<;>cases(p.1.kind==33)<;>simp
set_option maxRecDepth 100000
theorem Nf(pb:Nat)(lv:lN)(cs:mc A6)(x:zA)(w:l9)(hP:AH w pb [lv] 76)(I:Dw w lv cs)(HI:Z cs<=1000000)(Q:∀c∈cs,Z c.bl<=1000000):
  Calls prog 23 #[kt (V ⟨pb,0,Y⟩),O x] w λe w'=>e=lo (X J (Dv cs x))/\Ac [] w w':=by
 obtain⟨ad,EM,rfl⟩:=Al I.row;have F:lO (Dw w (U ad (Z cs) EM) cs/\∀c∈cs,Z c.bl<=1000000):=⟨I,Q⟩;clear I Q;go_enter func23,ntmps23;go_wp2
 go_loopw [5] (λi wr=>∃k:Nat,i=X J k/\k<=Z cs/\lO ((cs.take k).findSome? (GX · x)=Y)/\Ac [] w wr) (λi _=>Z cs-(intOf i).toNat)
 case atStart=>exact⟨0,rfl,ik _,by show _=_;simp,me _ _⟩
 case round=>
  obtain⟨k,rfl,hk,v,o⟩:=hrel;have y:=(hP.kept o (by simp)).cell 0;simp at y;by_cases d:k<Z cs
  .have E:=F.out.1.kept o;obtain⟨g,HD,he,hc,u⟩:=AF E.row (λc _=>BQ c) k d;simp only[gM]at he;obtain⟨rfl,_,rfl⟩:=he;have R:=u k d 0 (by omega);have N:=u k d 1 (by omega);have s:=u k d 3 (by omega);simp[CR]at R N s;have l:=E.each cs[k] (gL d);have HL:=F.out.2 cs[k] (gL d);obtain⟨HK,HB,BA⟩:=Al l.args;obtain⟨CC,DT,B⟩:=Al l.body;rw[BA]at N;rw[B]at s;have B9:lO (Yf wr cs[k]):=l;have A0:lO (cs[k].bv=U CC cs[k].bl.length DT):=B;clear u E l BA B;cases hnm:(cs[k].head.name.toList==x.toList)with
   |true=>
    have L:lO (Dv cs x=(cs[k].head.args.length:Int)):=by
     show _=_;unfold Dv;rw[GF (GX · x) cs k d v.out (b:=cs[k].head.args.length) (by simp[GX,hnm])]
    go_wp2;go_ret;rw[L.out];exact⟨rfl,o⟩
   |false=>
    (have HA:lO (GX cs[k] x=TJ cs[k].bl x):=by show _=_;simp[GX,hnm]);go_wp2;clear R N
    go_loopw [6] (λi T=>∃m:Nat,i=X J m/\m<=cs[k].bl.length/\lO ((cs[k].bl.take m).findSome? (λp=>if MT p&&(p.1.A.name.toList==x.toList)then V (Z p.1.A.args) else Y)=Y)/\Ac [] w T) (λi _=>cs[k].bl.length-(intOf i).toNat)
    case atStart=>exact⟨0,rfl,ik _,by show _=_;simp,o⟩
    case round=>
     rename_i T _;obtain⟨m,rfl,hm,z,n⟩:=hrel;clear y s o B9;have y:=(hP.kept n (by simp)).cell 0;simp at y;have D:=F.out.1.kept n;obtain⟨g2,HJ,A1,_,W⟩:=AF D.row (λc _=>BQ c) k d;simp only[gM,gT,iL]at A1;obtain⟨⟨rfl,_,_⟩,_,rfl⟩:=A1;have s:=W k d 3 (by omega);simp[CR]at s;rw[A0.out]at s;have l:=D.each cs[k] (gL d);clear W D;by_cases a:m<cs[k].bl.length
     .obtain⟨gb,HP,M,Go,j⟩:=AF l.body (λc _=>B6 c) m a;rw[A0.out]at M;simp only[gM]at M;obtain⟨rfl,_,rfl⟩:=M;have hl:=l.lits cs[k].bl[m] (gL a);obtain⟨HO,Ha,S⟩:=Al hl;have d0:=j m a 0 (by omega);have d1:=j m a 1 (by omega);have P:=j m a 2 (by omega);have d3:=j m a 3 (by omega);have d4:=j m a 4 (by omega);have d5:=j m a 5 (by omega);have d6:=j m a 6 (by omega);have d7:=j m a 7 (by omega);have d8:=j m a 8 (by omega);simp[Bt,CJ]at d0 d1 P d3 d4 d5 d6 d7 d8;rw[S]at P;clear j hl S l;have r:lO (MT cs[k].bl[m]=K\/(cs[k].bl[m].1.A.name.toList==x.toList)=K->(cs[k].bl.take (m+1)).findSome? (λp=>if MT p&&(p.1.A.name.toList==x.toList)then V (Z p.1.A.args) else Y)=Y):=by
       intro h;rw[FI _ _ m a z.out];rcases h with h|h<;>simp[h]
      have q:lO (MT cs[k].bl[m]=j1->(cs[k].bl[m].1.A.name.toList==x.toList)=j1->Dv cs x=(cs[k].bl[m].1.A.args.length:Int)):=by
       intro h1 h2;have h3:=GF (λp:Bj=>if MT p&&(p.1.A.name.toList==x.toList)then V (Z p.1.A.args) else Y) cs[k].bl m a z.out (b:=cs[k].bl[m].1.A.args.length) (by simp[h1,h2]);(have h4:GX cs[k] x=V cs[k].bl[m].1.A.args.length:=by rw[HA.out];exact h3);unfold Dv;rw[GF (GX · x) cs k d v.out h4]
      cases hnm2:(cs[k].bl[m].1.A.name.toList==x.toList)with
      |true=>
       rcases E2 cs[k].bl[m] with⟨t,f⟩|⟨t,G,f⟩|⟨t,G,f⟩
       .have C:=Ab (q.out f hnm2);clear q r f;go_wp2;go_ret;rw[Aa C];exact⟨rfl,n.alloc _⟩
       .have C:=Ab (q.out f hnm2);clear q r f;go_wp2;go_ret;rw[Aa C];exact⟨rfl,n.alloc _⟩
       .have H:=Ab (r.out (Or.inl f));clear q r f;go_wp2
        go_roundw
        case rel=>exact⟨m+1,by go_num,by omega,H,n.alloc _⟩
        case measure=>simp[intOf];omega
      |false=>
       have H:=Ab (r.out (ly hnm2));rcases E2 cs[k].bl[m] with⟨t,f⟩|⟨t,G,f⟩|⟨t,G,f⟩;all_goals
        clear q r f;go_wp2
        go_roundw
        case rel=>exact⟨m+1,by go_num,by omega,H,n.alloc _⟩
        case measure=>simp[intOf];omega
     .have HZ:lO ((cs.take (k+1)).findSome? (GX · x)=Y):=by
       show _=_;rw[FI _ _ k d v.out];have h:=z.out;rw[gR (by omega)]at h;rw[HA.out];exact h
      go_wp2
      go_roundw
      case rel=>exact⟨k+1,by go_num,by omega,HZ,n⟩
      case measure=>simp[intOf];omega
  .have L:lO (Dv cs x= -1):=by
    have h:=v.out;rw[gR (by omega)]at h;show _=_;unfold Dv;rw[h]
   go_wp2;go_ret;rw[L.out];exact⟨rfl,o⟩
def A4(p:Bj):mc AE:=if MT p then p.1.A.args else[p.1.L,p.1.R]
theorem RU(p:Bj)(w:l9)(c:CF w 0 p):
  Calls prog 131 #[lR (j3 (Bt p))] w λe k=>∃j,e=lo j/\lQ k 0 93 2 j (Z (A4 p)) ((A4 p).flatMap AU)/\Ac [] w k:=by
 obtain⟨g,f,d⟩:=Al c;simp only[Bt,CJ,d];rcases E2 p with⟨i,b⟩|⟨i,l,b⟩|⟨i,l,b⟩
 .have a:lO (A4 p=p.1.A.args/\p.2=U g (Z p.1.A.args) f/\CF w 0 p):=⟨by unfold A4;simp[b],d,c⟩;clear b d c;go_enter func131,ntmps131;go_wp2;go_ret;refine⟨_,rfl,?_,(me _ _).alloc _⟩;rw[a.out.1];have h:lQ w 0 93 2 _ _ _:=a.out.2.2;rw[a.out.2.1]at h;exact h.alloc _
 .have a:lO (A4 p=p.1.A.args/\p.2=U g (Z p.1.A.args) f/\CF w 0 p):=⟨by unfold A4;simp[b],d,c⟩;clear b d c;go_enter func131,ntmps131;go_wp2;go_ret;refine⟨_,rfl,?_,(me _ _).alloc _⟩;rw[a.out.1];have h:lQ w 0 93 2 _ _ _:=a.out.2.2;rw[a.out.2.1]at h;exact h.alloc _
 .have a:lO (A4 p=[p.1.L,p.1.R]):=by show _=_;unfold A4;simp[b]
  clear b d c;go_enter func131,ntmps131;go_wp2;go_ret;refine⟨_,rfl,?_,((me _ _).alloc _).alloc _⟩;rw[a.out];refine⟨rfl,ly ⟨_,2,#[X .u8 p.1.L.v.toNat,O p.1.L.s,X .u8 p.1.R.v.toNat,O p.1.R.s],rfl,ik _,by have h:=iD (w.alloc (j2 #[X .u8 p.1.kind.toNat,O p.1.A.name,U g (Z p.1.A.args) f,X J p.1.A.at_,X .u8 p.1.L.v.toNat,O p.1.L.s,X .u8 p.1.R.v.toNat,O p.1.R.s,X J p.1.at_] 95)) (j2 #[X .u8 p.1.L.v.toNat,O p.1.L.s,X .u8 p.1.R.v.toNat,O p.1.R.s] 93);rw[iz]at h;exact h,by simp,by unfold maxLen;omega,rfl,?_⟩⟩;simp[AU]
def Q6(l:mc AE)(v:UInt8):Bool:=l.any λt=>t.v==v
def JP(v:UInt8)(p:Bj):Bool:=p.1.kind==97&&Q6 p.1.A.args v
def JM(bl:mc Bj)(v:UInt8):Bool:=bl.any (JP v)
def CT{α:Type}(f:α->Bool)(l:mc α)(k:Nat)(a:k<Z l)(b:(l.take k).any f=K):(l.take (k+1)).any f=f l[k]:=by
 rw[gQ a,lJ,b];simp
def Jv{α:Type}(f:α->Bool)(l:mc α)(k:Nat)(a:k<Z l)(h:f l[k]=j1):l.any f=j1:=by
 rw[jg];exact⟨_,gL a,h⟩
theorem Kl(H:lN)(bl:mc Bj)(n:Int)(v:UInt8)(w:l9)(T:n=v.toNat)(j:lQ w 0 95 9 H (Z bl) (bl.flatMap Bt))(C:∀p∈bl,CF w 0 p)(Bx:Z bl<=1000000)(G:∀p∈bl,Z p.1.A.args<=1000000):
  Calls prog 132 #[H,X .u8 n] w λe I=>e=lo (lT (JM bl v))/\I=w:=by
 subst T;obtain⟨Q,P,rfl⟩:=Al j;have l:lO (lQ w 0 95 9 (U Q (Z bl) P) (Z bl) (bl.flatMap Bt)/\(∀p∈bl,CF w 0 p)/\(∀p∈bl,Z p.1.A.args<=1000000)):=⟨j,C,G⟩;clear j C G;go_enter func132,ntmps132;go_wp2
 go_loop [5] (λi=>∃k:Nat,i=X J k/\k<=Z bl/\lO ((bl.take k).any (JP v)=K)) (λi=>Z bl-(intOf i).toNat)
 case atStart=>exact⟨0,rfl,ik _,by show _=_;simp⟩
 case round=>
  obtain⟨k,rfl,hk,o⟩:=hrel;by_cases a:k<Z bl
  .obtain⟨g,A1,F,hc,q⟩:=AF l.out.1 (λc _=>B6 c) k a;simp only[gM]at F;obtain⟨rfl,_,rfl⟩:=F;have R:=q k a 0 (by omega);have x:=q k a 2 (by omega);simp[Bt,CJ]at R x;have r:=l.out.2.1 bl[k] (gL a);have AT:=l.out.2.2 bl[k] (gL a);obtain⟨S,L,f⟩:=Al r;rw[f]at x;have HI:lO (lQ w 0 93 2 (U S bl[k].1.A.args.length L) bl[k].1.A.args.length (bl[k].1.A.args.flatMap AU)):=by
    have h:lQ w 0 93 2 _ _ _:=r;rw[f]at h;exact h
   clear q r f;have E:((bl[k].1.kind.toNat:Int)==97)=(bl[k].1.kind==97):=CP _ 97;cases hkd:(bl[k].1.kind==97)with
   |false=>
    rw[hkd]at E;(have b:lO ((bl.take (k+1)).any (JP v)=K):=by show _=_;rw[CT _ _ k a o.out];simp[JP,hkd]);clear hkd;go_wp2
    go_loop [6] (λi=>i=X J 0) (λ_=>0)
    case atStart=>rfl
    case round=>
     subst hrel;go_wp2
     go_round
     case rel=>exact⟨k+1,by go_num,by omega,b⟩
     case measure=>simp[intOf];omega
   |true=>
    rw[hkd]at E;(have b:lO (Q6 bl[k].1.A.args v=K->(bl.take (k+1)).any (JP v)=K):=by intro h;rw[CT _ _ k a o.out];simp[JP,h]);(have s:lO (Q6 bl[k].1.A.args v=j1->JM bl v=j1):=by intro h;exact Jv _ _ k a (by simp[JP,hkd,h]));clear hkd;go_wp2
    go_loop [6] (λi=>∃m:Nat,i=X J m/\m<=bl[k].1.A.args.length/\lO ((bl[k].1.A.args.take m).any (λt=>t.v==v)=K)) (λi=>bl[k].1.A.args.length-(intOf i).toNat)
    case atStart=>exact⟨0,rfl,ik _,by show _=_;simp⟩
    case round=>
     obtain⟨m,rfl,hm,y⟩:=hrel;by_cases d:m<bl[k].1.A.args.length
     .obtain⟨ga,BS,z,A0,D⟩:=AF HI.out (λc _=>Ga c) m d;simp only[gM]at z;obtain⟨rfl,_,rfl⟩:=z;have N:=D m d 0 (by omega);simp[AU]at N;clear D;have B:((bl[k].1.A.args[m].v.toNat:Int)==(v.toNat:Int))=(bl[k].1.A.args[m].v==v):=CP _ v;cases hv:(bl[k].1.A.args[m].v==v)with
      |true=>
       rw[hv]at B;have M:=Ab (s.out (Jv _ _ m d hv));clear hv s b;go_wp2;go_ret;rw[Aa M];exact⟨rfl,rfl⟩
      |false=>
       rw[hv]at B;(have u:lO ((bl[k].1.A.args.take (m+1)).any (λt=>t.v==v)=K):=by show _=_;rw[CT _ _ m d y.out];exact hv);clear hv s b;go_wp2
       go_round
       case rel=>exact⟨m+1,by go_num,by omega,u⟩
       case measure=>simp[intOf];omega
     .have u:=Ab (b.out (by have h:=y.out;rwa [gR (by omega)]at h));go_wp2
      go_round
      case rel=>exact⟨k+1,by go_num,by omega,u⟩
      case measure=>simp[intOf];omega
  ·(have W:lO (JM bl v=K):=by have h:=o.out;rwa [gR (by omega)]at h);go_wp2;go_ret;rw[W.out];exact⟨rfl,rfl⟩
def Cq(bl:mc Bj)(t:AE):Bool:= !(t.v==0||JM bl t.v)
def I8(bl:mc Bj)(p:Bj):Bool:=(A4 p).any (Cq bl)
def D5(head:Df)(bl:mc Bj):Int:=if head.args.any (Cq bl)then head.at_ else match bl.find? (I8 bl)with|some p=>p.1.at_|none=> -1
def FY{α:Type}(f:α->Bool)(l:mc α)(k:Nat)(a:k<Z l)(d:(l.take k).any f=K)(h:f l[k]=j1):l.find? f=V l[k]:=by
 have e:l.find? f=(l.take k++l.drop k).find? f:=by rw[iZ]
 rw[e,lu];have c:(l.take k).find? f=Y:=by
  rw[jK];intro x g b;have:(l.take k).any f=j1:=by rw[jg];exact⟨x,g,b⟩
  rw[d]at this;cases this
 rw[c,Option.none_or,ij a,List.find?_cons_of_pos h]
theorem cc(a:Df)(hv bv:lN)(bl:mc Bj)(w:l9)(S:lQ w 0 93 2 hv (Z a.args) (a.args.flatMap AU))(P:lQ w 0 95 9 bv (Z bl) (bl.flatMap Bt))(hl:∀p∈bl,CF w 0 p)(C:Z bl<=1000000)(BA:∀p∈bl,Z p.1.A.args<=1000000)(HL:Z a.args<=1000000):
  Calls prog 84 #[lR (j3 (Cg a.name hv a.at_)),bv] w λe w'=>e=lo (X J (D5 a bl))/\Ac [] w w':=by
 obtain⟨M,I,rfl⟩:=Al S;obtain⟨ad,FB,rfl⟩:=Al P;simp only[Cg];have j:lO (lQ w 0 93 2 (U M (Z a.args) I) (Z a.args) (a.args.flatMap AU)/\lQ w 0 95 9 (U ad (Z bl) FB) (Z bl) (bl.flatMap Bt)/\(∀p∈bl,CF w 0 p)/\(∀p∈bl,Z p.1.A.args<=1000000)):=⟨S,P,hl,BA⟩;clear S P hl BA;have H1:∀(x:Bool) (w:l9),(Op.unary .not (lT x)).run prog w=.ok (lT (!x)) w:=λ_ _=>rfl
 go_enter func84,ntmps84;go_wp2_with fail
 go_loopw [5] (λi wr=>∃k:Nat,i=X J k/\k<=Z a.args/\lO ((a.args.take k).any (Cq bl)=K)/\wr=w.alloc (j2 #[O a.name,U M (Z a.args) I,X J a.at_] 79)) (λi _=>Z a.args-(intOf i).toNat)
 case atStart=>exact⟨0,rfl,ik _,by show _=_;simp,rfl⟩
 case round=>
  obtain⟨k,rfl,hk,HC,rfl⟩:=hrel;by_cases E:k<Z a.args
  .obtain⟨g,BT,o,hc,d⟩:=AF (j.out.1.alloc (j2 #[O a.name,U M (Z a.args) I,X J a.at_] 79)) (λc _=>Ga c) k E;simp only[gM]at o;obtain⟨rfl,_,rfl⟩:=o;have D:=d k E 0 (by omega);simp[AU]at D;clear d;have u:((a.args[k].v.toNat:Int)==0)=(a.args[k].v==0):=CP _ 0;(have l:lO (Cq bl a.args[k]=K->(a.args.take (k+1)).any (Cq bl)=K):=by intro h;rw[CT _ _ k E HC.out];exact h);(have n:lO (Cq bl a.args[k]=j1->D5 a bl=(a.at_:Int)):=by intro h;unfold D5;rw[gY (Jv _ _ k E h)]);cases hz:(a.args[k].v==0)with
   |true=>
    rw[hz]at u;have B:=Ab (l.out (by simp[Cq,hz]));clear hz l n;go_wp2_with fail
    go_roundw
    case rel=>exact⟨k+1,by go_num,by omega,B,by trivial⟩
    case measure=>simp[intOf];omega
   |false=>
    rw[hz]at u;cases hbd:JM bl a.args[k].v with
    |true=>
     have B:=Ab (l.out (by simp[Cq,hbd]));clear hz l n;go_wp2_with (go_at_call 132;refine(Kl _ bl _ a.args[k].v _ rfl (j.out.2.1.alloc _) (λp z=>(j.out.2.2.1 p z).alloc _) C j.out.2.2.2).mono ?_;rintro e s ⟨rfl,rfl⟩;rw[hbd])
     go_roundw
     case rel=>exact⟨k+1,by go_num,by omega,B,by trivial⟩
     case measure=>simp[intOf];omega
    |false=>
     have HG:=Ab (n.out (by simp[Cq,hbd,hz]));clear hz l n;go_wp2_with (go_at_call 132;refine(Kl _ bl _ a.args[k].v _ rfl (j.out.2.1.alloc _) (λp z=>(j.out.2.2.1 p z).alloc _) C j.out.2.2.2).mono ?_;rintro e s ⟨rfl,rfl⟩;rw[hbd])
     go_ret;rw[Aa HG];exact⟨rfl,(me _ _).alloc _⟩
  ·(have HH:lO (a.args.any (Cq bl)=K):=by have h:=HC.out;rwa [gR (by omega)]at h);clear HC;have FA:=(me [] w).alloc (j2 #[O a.name,U M (Z a.args) I,X J a.at_] 79);go_wp2_with fail
   go_loopw [7] (λi wr=>∃k:Nat,i=X J k/\k<=Z bl/\lO ((bl.take k).any (I8 bl)=K)/\Ac [] w wr) (λi _=>Z bl-(intOf i).toNat)
   case atStart=>exact⟨0,rfl,ik _,by show _=_;simp,FA⟩
   case round=>
    rename_i wr _ _;obtain⟨q,rfl,hq,Q,t⟩:=hrel;clear FA;by_cases b:q<Z bl
    .have r:=Ad j.out.2.1 t (by simp);obtain⟨g,BT,o,hc,d⟩:=AF r (λc _=>B6 c) q b;simp only[gM]at o;obtain⟨rfl,_,rfl⟩:=o;have A0:CF _ 0 bl[q]:=(j.out.2.2.1 bl[q] (gL b)).kept t (by simp);obtain⟨H5,H0,AO⟩:=Al A0;have T:=RU bl[q] _ A0;simp only[Bt,CJ,AO]at T;have D:=d q b 0 (by omega);have d1:=d q b 1 (by omega);have N:=d q b 2 (by omega);have d3:=d q b 3 (by omega);have d4:=d q b 4 (by omega);have d5:=d q b 5 (by omega);have d6:=d q b 6 (by omega);have d7:=d q b 7 (by omega);have d8:=d q b 8 (by omega);simp[Bt,CJ]at D d1 N d3 d4 d5 d6 d7 d8;rw[AO]at N;have HT:=Ab T;clear d r A0 AO T;(have l:lO (I8 bl bl[q]=K->(bl.take (q+1)).any (I8 bl)=K):=by intro h;rw[CT _ _ q b Q.out];exact h);have n:lO (I8 bl bl[q]=j1->D5 a bl=(bl[q].1.at_:Int)):=by
      intro h;unfold D5;rw[gV (by rw[HH.out];exact jJ),FY _ _ q b Q.out h]
     have HI:Z (A4 bl[q])<=1000000:=by
      have:=j.out.2.2.2 bl[q] (gL b);unfold A4;split<;>simp<;>omega
     (go_wp2_with fail);refine HT.mono ?_;rintro e s ⟨tv,rfl,Ax,FC⟩;have H:=t.trans FC;have r:=Ad j.out.2.1 H (by simp);obtain⟨g',BT,o,_,d⟩:=AF r (λc _=>B6 c) q b;simp only[gM,gT,iL]at o;obtain⟨⟨rfl,_,_⟩,_,rfl⟩:=o;have e8:=d q b 8 (by omega);simp[Bt,CJ]at e8;have L:lO (lQ s 0 95 9 (U (V ⟨g,0,Y⟩) (Z bl) FB) (Z bl) (bl.flatMap Bt)/\(∀p∈bl,CF s 0 p)):=⟨r,λp z=>(j.out.2.2.1 p z).kept H (by simp)⟩;clear d r D d1 N d3 d4 d5 d6 d7 d8 HT FC t;obtain⟨H4,H3,rfl⟩:=Al Ax;have HO:=Ab Ax;clear Ax;obtain⟨f,W⟩:∃f,A4 bl[q]=f:=⟨_,rfl⟩;rw[W]at HO HI⊢;have EY:=Ab W;clear W;go_wp2_with fail
     go_loop [9] (λi=>∃m:Nat,i=X J m/\m<=Z f/\lO ((f.take m).any (Cq bl)=K)) (λi=>Z f-(intOf i).toNat)
     case atStart=>exact⟨0,rfl,ik _,by show _=_;simp⟩
     case round=>
      obtain⟨m,rfl,hm,HM⟩:=hrel;by_cases G:m<Z f
      .obtain⟨ga,HV,CL,HP,FL⟩:=AF HO (λc _=>Ga c) m G;simp only[gM]at CL;obtain⟨rfl,_,rfl⟩:=CL;have f0:=FL m G 0 (by omega);simp[AU]at f0;clear FL;have u:((f[m].v.toNat:Int)==0)=(f[m].v==0):=CP _ 0;(have y:lO (Cq bl f[m]=K->(f.take (m+1)).any (Cq bl)=K):=by intro h;rw[CT _ _ m G HM.out];exact h);(have F:lO (Cq bl f[m]=j1->D5 a bl=(bl[q].1.at_:Int)):=by intro h;exact n.out (by unfold I8;rw[Aa EY];exact Jv _ _ m G h));cases hz:(f[m].v==0)with
       |true=>
        rw[hz]at u;have R:=Ab (y.out (by simp[Cq,hz]));clear hz y F l n;go_wp2_with fail
        go_round
        case rel=>exact⟨m+1,by go_num,by omega,R⟩
        case measure=>simp[intOf];omega
       |false=>
        rw[hz]at u;cases hbd:JM bl f[m].v with
        |true=>
         have R:=Ab (y.out (by simp[Cq,hbd]));clear hz y F l n;go_wp2_with (go_at_call 132;refine(Kl _ bl _ f[m].v _ rfl L.out.1 L.out.2 C j.out.2.2.2).mono ?_;rintro e s ⟨rfl,rfl⟩;rw[hbd])
         go_round
         case rel=>exact⟨m+1,by go_num,by omega,R⟩
         case measure=>simp[intOf];omega
        |false=>
         have FP:=Ab (F.out (by simp[Cq,hbd,hz]));clear hz y F l n;go_wp2_with (go_at_call 132;refine(Kl _ bl _ f[m].v _ rfl L.out.1 L.out.2 C j.out.2.2.2).mono ?_;rintro e s ⟨rfl,rfl⟩;rw[hbd])
         go_ret;rw[Aa FP];exact⟨rfl,H⟩
      .have B:=Ab (l.out (by unfold I8;rw[Aa EY];have h:=HM.out;rwa [gR (by omega)]at h));clear l n;go_wp2_with fail
       go_roundw
       case rel=>exact⟨q+1,by go_num,by omega,B,H⟩
       case measure=>simp[intOf];omega
    .have HE:lO (D5 a bl= -1):=by
      have h:=Q.out;rw[gR (by omega)]at h;show _=_;unfold D5;rw[gV (by rw[HH.out];exact jJ)];have:bl.find? (I8 bl)=Y:=by
       rw[jK];intro x hx hf;(have:bl.any (I8 bl)=j1:=by rw[jg];exact⟨x,hx,hf⟩);rw[h]at this;cases this
      rw[this]
     (go_wp2_with fail);go_ret;rw[HE.out];exact⟨rfl,t⟩
def Fu(a b:zA):Bool:=
 if Ao (Cl a 0) !=Ao (Cl b 0)then Ao (Cl a 0)
 else if Ao (Cl a 0)&&a.size !=b.size then decide (a.size<b.size)else lZ a.toList b.toList
set_option maxRecDepth 512
theorem Ms(a b:zA)(w:l9)(l:0<a.size)(n:0<b.size)(p:a.size<=1000000)(q:b.size<=1000000):
  Calls prog 86 #[O a,O b] w λe k=>e=lo (lT (Fu a b))/\k=w:=by
 have j:Cl a 0=a[0]:=by simp[Cl,l]
 have i:Cl b 0=b[0]:=by simp[Cl,n]
 obtain⟨R,c⟩:∃R,Fu a b=R:=⟨_,rfl⟩;rw[c];unfold Fu at c;rw[j,i]at c;have r:(0:Int)<(a.size:Int):=by omega
 have o:(0:Int)<(b.size:Int):=by omega
 clear j i;cases hx:Ao a[0] with
 |true=>
  cases hy:Ao b[0] with
  |true=>
   rw[hx,hy]at c;by_cases h:a.size=b.size
   ·(have g:(a.size !=b.size)=K:=by simp[h]);(have m:((a.size:Int) !=(b.size:Int))=K:=by simp[h]);(have f:lO (lZ a.toList b.toList=R):=by show _=_;rw[<-c,g];rfl);clear c g h;go_enter func86,ntmps86;(go_wp2_with fail);refine(Cu _ a[0] _ rfl).mono ?_;rintro e d ⟨rfl,rfl⟩;rw[hx];(go_wp2_with fail);refine(Cu _ b[0] _ rfl).mono ?_;rintro e d ⟨rfl,rfl⟩;rw[hy];go_wp2;go_ret;exact⟨Bh f.out,rfl⟩
   ·(have g:(a.size !=b.size)=j1:=by simp[h]);(have m:((a.size:Int) !=(b.size:Int))=j1:=by simp;omega);(have f:lO (decide (a.size<b.size)=R):=by show _=_;rw[<-c,g];rfl);clear c g h;go_enter func86,ntmps86;(go_wp2_with fail);refine(Cu _ a[0] _ rfl).mono ?_;rintro e d ⟨rfl,rfl⟩;rw[hx];(go_wp2_with fail);refine(Cu _ b[0] _ rfl).mono ?_;rintro e d ⟨rfl,rfl⟩;rw[hy];go_wp2;go_ret;exact⟨Bh f.out,rfl⟩
  |false=>
   rw[hx,hy]at c;(have f:lO (j1=R):=by show _=_;rw[<-c];rfl);clear c;go_enter func86,ntmps86;(go_wp2_with fail);refine(Cu _ a[0] _ rfl).mono ?_;rintro e d ⟨rfl,rfl⟩;rw[hx];(go_wp2_with fail);refine(Cu _ b[0] _ rfl).mono ?_;rintro e d ⟨rfl,rfl⟩;rw[hy];go_wp2;go_ret;exact⟨Bh f.out,rfl⟩
 |false=>
  cases hy:Ao b[0] with
  |true=>
   rw[hx,hy]at c;(have f:lO (K=R):=by show _=_;rw[<-c];rfl);clear c;go_enter func86,ntmps86;(go_wp2_with fail);refine(Cu _ a[0] _ rfl).mono ?_;rintro e d ⟨rfl,rfl⟩;rw[hx];(go_wp2_with fail);refine(Cu _ b[0] _ rfl).mono ?_;rintro e d ⟨rfl,rfl⟩;rw[hy];go_wp2;go_ret;exact⟨Bh f.out,rfl⟩
  |false=>
   rw[hx,hy]at c;(have f:lO (lZ a.toList b.toList=R):=by show _=_;rw[<-c];rfl);clear c;go_enter func86,ntmps86;(go_wp2_with fail);refine(Cu _ a[0] _ rfl).mono ?_;rintro e d ⟨rfl,rfl⟩;rw[hx];(go_wp2_with fail);refine(Cu _ b[0] _ rfl).mono ?_;rintro e d ⟨rfl,rfl⟩;rw[hy];go_wp2;go_ret;exact⟨Bh f.out,rfl⟩
def CO(x:zA)(a:mc zA×Bool)(y:zA):mc zA×Bool:=if !a.2&&Fu x y then(a.1++[x]++[y],j1)else(a.1++[y],a.2)
def Mg(l:mc zA)(x:zA):mc zA×Bool:=l.foldl (CO x) ([],K)
def Hq(l:mc zA)(x:zA):mc zA:=if(Mg l x).2 then(Mg l x).1 else(Mg l x).1++[x]
def YV{l:mc zA}{k:Nat}(a:k<Z l)(x:zA):Mg (l.take (k+1)) x=CO x (Mg (l.take k) x) l[k]:=by
 unfold Mg;rw[gQ a,jo];rfl
def UA(x:zA)(a:mc zA×Bool)(y:zA):Z (CO x a y).1+a.2.toNat=Z a.1+1+(CO x a y).2.toNat:=by
 obtain⟨o,d⟩:=a;unfold CO;cases d<;>cases Fu x y<;>simp
def NR(x:zA):∀(l:mc zA) (a:mc zA×Bool),Z (l.foldl (CO x) a).1+a.2.toNat=Z a.1+Z l+(l.foldl (CO x) a).2.toNat
 |[],a=>by simp only[List.foldl_nil,iv,Nat.add_zero]
 |y::l,a=>by
  have h:=NR x l (CO x a y);have b:=UA x a y;simp only[iA,gW];omega
def Mx(l:mc zA)(x:zA):Z (Mg l x).1=Z l+(Mg l x).2.toNat:=by
 have h:=NR x l ([],K);simp only[iv,Bool.toNat_false]at h;unfold Mg;omega
def Nc(l:mc zA)(x:zA):Z (Hq l x)=Z l+1:=by
 have h:=Mx l x;unfold Hq;cases hd:(Mg l x).2<;>simp[hd]at h⊢<;>omega
set_option maxRecDepth 100000
theorem aV(lv:lN)(l:mc zA)(x:zA)(base:Nat)(w:l9)(hl:lQ w base 9 1 lv (Z l) (l.flatMap Ah))(HC:Z l<=1000000)(hx:0<x.size/\x.size<=1000000)(u:∀y∈l,0<y.size/\y.size<=1000000):
  Calls prog 171 #[lv,O x] w λe w'=>∃v,e=lo v/\lQ w' w.heap.size 9 1 v (Z (Hq l x)) ((Hq l x).flatMap Ah)/\Ac [] w w':=by
 obtain⟨F,D,B,E,G⟩:=iR Tryz.zt;obtain⟨ad,FF,rfl⟩:=Al hl;have HR:lO (lQ w base 9 1 (U ad (Z l) FF) (Z l) (l.flatMap Ah)/\(∀y∈l,0<y.size/\y.size<=1000000)):=⟨hl,u⟩;clear hl u;have Ha:∀(x:Bool) (w:l9),(Op.unary .not (lT x)).run prog w=.ok (lT (!x)) w:=λ_ _=>rfl
 go_enter func171,ntmps171;go_wp2
 go_loopw [5,6,7] (λo d i wr=>∃(k:Nat) (a:mc zA) (j:Bool),i=X J k/\k<=Z l/\d=lT j/\lO (Mg (l.take k) x=(a,j))/\Z a<=k+1/\lQ wr w.heap.size 9 1 o (Z a) (a.flatMap Ah)/\Ac [] w wr) (λ_ _ i _=>Z l-(intOf i).toNat)
 case atStart=>exact⟨0,[],K,rfl,ik _,rfl,by show _=_;simp[Mg],by simp,ip _ _ _ _,me _ _⟩
 case round=>
  obtain⟨k,a,j,rfl,hk,rfl,S,FP,f,m⟩:=hrel;obtain⟨L,H,rfl⟩:=Al f;have W:=m.size;by_cases z:k<Z l
  .obtain⟨g,FA,N,hc,T⟩:=AF (Ad HR.out.1 m (by simp)) (λc _=>rfl) k z;simp only[gM]at N;obtain⟨rfl,_,rfl⟩:=N;have A:=T k z 0 (by omega);simp[Ah]at A;clear T;have AO:=HR.out.2 l[k] (gL z);(have HS:lO (Mg (l.take (k+1)) x=CO x (a,j) l[k]):=by show _=_;rw[YV z,S.out]);cases b:(!j&&Fu x l[k])with
   |true=>
    (have FB:j=K:=by cases j<;>simp_all);subst FB;(have u:Fu x l[k]=j1:=by simpa using b);have FT:Z a<=k:=by
     have h:=Mx (l.take k) x;rw[S.out]at h;simp only[iH,Bool.toNat_false]at h;omega
    (have A0:lO (Mg (l.take (k+1)) x=(a++[x]++[l[k]],j1)):=by show _=_;rw[HS.out];simp[CO,u]);have EM:∀{n:l9} {o:Obj},(wr.alloc o).grownBy n (U L (Z a) H).ownBlock->lP n ⟨g,k,Y⟩=V (O l[k]):=by
     intro n o FO;have EY:=(m.alloc o).grown FO (λq b=>ly (f.lt q b).1);obtain⟨g',FA,N,_,T⟩:=AF (Ad HR.out.1 EY (by simp)) (λc _=>rfl) k z;simp only[gM,gT,iL]at N;obtain⟨⟨rfl,_,_⟩,_,rfl⟩:=N;have A:=T k z 0 (by omega);simpa[Ah] using A
    clear HS b;(go_wp2_with fail);refine(Ms x l[k] _ hx.1 AO.1 hx.2 AO.2).mono ?_;rintro e w0 ⟨rfl,P⟩;rw[u,P];clear P w0;go_wp2_with (first|(at_builtin;refine io _ rfl (.tmp 24) (.tmp 26) _ rfl w.heap.size 9 F _ 1 16 underlying41 D B E G rfl (by omega) (U L (Z a) H) (Z a) (a.flatMap Ah) rfl (f.alloc _) ⟨wr.heap.size,0,Y⟩ 1 1 [O x] rfl rfl (iu (cs:=#[O x]) (t:=9) (fr:=(0,0)) (iD wr _)) (by simp[Value.oneCell']) (by omega) (by unfold maxLen;omega) (by omega) (by simp;omega) (wr.heap.size+1) (by simp) ?_;intro g1 CL n I r A1 BT;have d1:=EM r;have HD:wr.heap.size<=n.heap.size:=by have:=r.size;simp at this;omega)|(at_builtin;refine io _ rfl (.tmp 28) (.tmp 33) _ rfl w.heap.size 9 F _ 1 16 underlying41 D B E G rfl (by omega) (U (V ⟨g1,0,Y⟩) (Z a+1) CL) (Z a+1) (a.flatMap Ah++[O x]) rfl (I.alloc _) ⟨n.heap.size,0,Y⟩ 1 1 [O l[k]] rfl rfl (iu (cs:=#[O l[k]]) (t:=9) (fr:=(0,0)) (iD n _)) (by simp[Value.oneCell']) (by omega) (by unfold maxLen;omega) (by omega) (by simp;omega) (n.heap.size+1) (by simp) ?_;intro g2 DT R Q p M C))
    have s:Ac [] w R:=(((m.alloc _).grown r (λq b=>ly (f.lt q b).1)).alloc _).grown p (λq b=>ly (I.lt q b).1);clear EM r A1 BT p M C I d1 A f m W;go_wp2
    go_roundw
    case rel=>
     refine⟨k+1,a++[x]++[l[k]],j1,by go_num,by omega,rfl,A0,by simp;omega,?_,s⟩;simpa[Ah] using Q
    case measure=>simp[intOf];omega
   |false=>
    (have A0:lO (Mg (l.take (k+1)) x=(a++[l[k]],j)):=by show _=_;rw[HS.out];simp[CO,b]);clear HS;have B9:Z a<=k+j.toNat:=by
     have h:=Mx (l.take k) x;rw[S.out]at h;simp only[iH]at h;omega
    cases j with
    |true=>
     clear b;go_wp2_with (at_builtin;refine io _ rfl (.tmp 28) (.tmp 33) _ rfl w.heap.size 9 F _ 1 16 underlying41 D B E G rfl (by omega) (U L (Z a) H) (Z a) (a.flatMap Ah) rfl (f.alloc _) ⟨wr.heap.size,0,Y⟩ 1 1 [O l[k]] rfl rfl (iu (cs:=#[O l[k]]) (t:=9) (fr:=(0,0)) (iD wr _)) (by simp[Value.oneCell']) (by omega) (by unfold maxLen;omega) (by omega) (by simp;omega) (wr.heap.size+1) (by simp) ?_;intro g2 DT R Q p M C)
     have s:Ac [] w R:=(m.alloc _).grown p (λq b=>ly (f.lt q b).1);clear p M C A f m W;go_wp2
     go_roundw
     case rel=>
      refine⟨k+1,a++[l[k]],j1,by go_num,by omega,rfl,A0,by simp;omega,?_,s⟩;simpa[Ah] using Q
     case measure=>simp[intOf];omega
    |false=>
     (have u:Fu x l[k]=K:=by simpa using b);clear b;(go_wp2_with fail);refine(Ms x l[k] _ hx.1 AO.1 hx.2 AO.2).mono ?_;rintro e w0 ⟨rfl,P⟩;rw[u,P];clear P w0;go_wp2_with (at_builtin;refine io _ rfl (.tmp 28) (.tmp 33) _ rfl w.heap.size 9 F _ 1 16 underlying41 D B E G rfl (by omega) (U L (Z a) H) (Z a) (a.flatMap Ah) rfl (f.alloc _) ⟨wr.heap.size,0,Y⟩ 1 1 [O l[k]] rfl rfl (iu (cs:=#[O l[k]]) (t:=9) (fr:=(0,0)) (iD wr _)) (by simp[Value.oneCell']) (by omega) (by unfold maxLen;omega) (by omega) (by simp;omega) (wr.heap.size+1) (by simp) ?_;intro g2 DT R Q p M C)
     have s:Ac [] w R:=(m.alloc _).grown p (λq b=>ly (f.lt q b).1);clear p M C A f m W;go_wp2
     go_roundw
     case rel=>
      refine⟨k+1,a++[l[k]],K,by go_num,by omega,rfl,A0,by simp;omega,?_,s⟩;simpa[Ah] using Q
     case measure=>simp[intOf];omega
  ·(have HE:lO (Mg l x=(a,j)):=by have h:=S.out;rwa [gR (by omega)]at h);have B9:Z a<=Z l+j.toNat:=by
    have h:=Mx l x;rw[HE.out]at h;simp only at h;omega
   cases j with
   |true=>
    (have HW:lO (Hq l x=a):=by show _=_;unfold Hq;rw[HE.out];rfl);go_wp2;go_ret;rw[HW.out];exact⟨_,rfl,f,m⟩
   |false=>
    (have HW:lO (Hq l x=a++[x]):=by show _=_;unfold Hq;rw[HE.out];rfl);(have HA:Z a<=Z l:=by simpa using B9);go_wp2_with (at_builtin;refine io _ rfl (.tmp 37) (.tmp 39) _ rfl w.heap.size 9 F _ 1 16 underlying41 D B E G rfl (by omega) (U L (Z a) H) (Z a) (a.flatMap Ah) rfl (f.alloc _) ⟨wr.heap.size,0,Y⟩ 1 1 [O x] rfl rfl (iu (cs:=#[O x]) (t:=9) (fr:=(0,0)) (iD wr _)) (by simp[Value.oneCell']) (by omega) (by unfold maxLen;omega) (by omega) (by simp;omega) (wr.heap.size+1) (by simp) ?_;intro g1 CL n I r A1 BT)
    have s:Ac [] w n:=(m.alloc _).grown r (λq b=>ly (f.lt q b).1);clear r A1 BT f m W;go_wp2;go_ret;rw[HW.out];refine⟨_,rfl,?_,s⟩;simpa[Ah] using I
structure Af where
 name:zA
 args:mc zA
structure Dr where
 f:Af
 av:lN
def CN(p:Dr):mc lN:=[O p.f.name,p.av]
def Gu(w:l9)(p:Dr):Prop:=lQ w 0 9 1 p.av (Z p.f.args) (p.f.args.flatMap Ah)
def Gu.kept{w w':l9}{p:Dr}(h:Gu w p)(k:Ac [] w w'):Gu w' p:=Ad h k (by simp)
structure OA(f:Af):Prop where
 len:Z f.args<=1000
 each:∀x∈f.args,0<x.size/\x.size<=1000000
def GY:mc zA->mc zA->Bool
 |[],[]=>j1
 |x::l,y::m=>(x.toList==y.toList)&&GY l m
 |_,_=>K
def GK(a b:Af):Bool:=(a.name.toList==b.name.toList)&&GY a.args b.args
def We:∀(l m:mc zA) (k:Nat) (a:k<Z l) (b:k<Z m),GY (l.drop k) (m.drop k)=((l[k].toList==m[k].toList)&&GY (l.drop (k+1)) (m.drop (k+1)))
 |l,m,k,a,b=>by
  rw[ij a,ij b,GY]
def Sn:∀{l m:mc zA},GY l m=j1->Z l=Z m
 |[],[],_=>rfl
 |[],_::_,h=>by cases h
 |_::_,[],h=>by cases h
 |_::l,_::m,h=>by
  rw[GY,iq]at h;simp[Sn h.2]
def Hg{w:l9}{base:Nat}{v:lN}{l:mc zA}(h:lQ w base 9 1 v (Z l) (l.flatMap Ah))(k:Nat)(d:k<Z l):∃g a,v=U (V ⟨g,0,Y⟩) (Z l) a/\lP w ⟨g,k,Y⟩=V (O l[k]):=by
 obtain⟨g,a,e,_,f⟩:=AF h (λc _=>rfl) k d;have b:=f k d 0 (by omega);simp[Ah]at b;exact⟨g,a,e,b⟩
theorem ZB(a b:Dr)(w:l9)(v:Gu w a)(t:Gu w b)(Bx:Z a.f.args<=1000000)(BS:Z b.f.args<=1000000):
  Calls prog 49 #[lR (j3 (CN a)),lR (j3 (CN b))] w λe w'=>e=lo (lT (GK a.f b.f))/\Ac [] w w':=by
 obtain⟨⟨j,c⟩,av⟩:=a;obtain⟨⟨g,d⟩,bv⟩:=b;unfold Gu at v t;simp only at v t Bx BS;obtain⟨p,o,rfl⟩:=Al v;obtain⟨m,q,rfl⟩:=Al t;obtain⟨S,D⟩:∃S,GK ⟨j,c⟩ ⟨g,d⟩=S:=⟨_,rfl⟩;rw[D];have s:lO (((j.toList==g.toList)&&GY c d)=S):=D;have HA:=Ab v;have HB:=Ab t;simp only[CN];have l:=Ab (((me [] w).alloc (j2 [O j,U p (Z c) o].toArray 43)).alloc (j2 [O g,U m (Z d) q].toArray 43));have F:=(mf w [O j,U p (Z c) o] 43).alloc (j2 [O g,U m (Z d) q].toArray 43);have L:AH ((w.alloc (j2 [O j,U p (Z c) o].toArray 43)).alloc (j2 [O g,U m (Z d) q].toArray 43)) (w.heap.size+1) [O g,U m (Z d) q] 43:=by
  have M:=mf (w.alloc (j2 [O j,U p (Z c) o].toArray 43)) [O g,U m (Z d) q] 43;rw[show(w.alloc (j2 [O j,U p (Z c) o].toArray 43)).heap.size=w.heap.size+1 from by simp]at M
  exact M
 have B:=Ab F;have C:=Ab L;clear D v t F L;cases hn:(j.toList==g.toList)with
 |false=>
  have r:lO (S=K):=by show _=_;rw[<-Aa s,hn];rfl
  have R:(j.toList !=g.toList)=j1:=by simp[bne,hn]
  clear s;go_enter func49,ntmps49;go_wp2;go_ret;rw[Aa r];exact⟨rfl,l⟩
 |true=>
  have R:(j.toList !=g.toList)=K:=by simp[bne,hn]
  by_cases u:Z c=Z d
  ·(have r:lO (GY (c.drop 0) (d.drop 0)=S):=by show _=_;rw[<-Aa s,hn];rfl);(have G:((Z c:Int) !=(Z d:Int))=K:=by simp[u]);(have Q:((Z c:Int)==(Z d:Int))=j1:=by simp[u]);have H:=Ab u;clear u s;go_enter func49,ntmps49;go_wp2;change Code.wp _ _ _ _ ((w.alloc (j2 [O j,U p (Z c) o].toArray 43)).alloc (j2 [O g,U m (Z d) q].toArray 43));generalize(w.alloc (j2 [O j,U p (Z c) o].toArray 43)).alloc (j2 [O g,U m (Z d) q].toArray 43)=w1 at l B C⊢;generalize w.heap.size=N at B C⊢;clear hn R G Q
   go_loopg [5] (Z c) (λgk i wr=>∃(k:Nat),i=X J k/\k<=Z c/\gk=Z c-k/\lO (GY (c.drop k) (d.drop k)=S)/\lO (Ac [] w wr)/\lO (Ac [] w1 wr))
   case atStart=>exact⟨0,rfl,by omega,rfl,r,l,me _ _⟩
   case round=>
    clear r l;obtain⟨k,rfl,hk,I,z,l,y⟩:=hrel;have HG:=Ab I;clear I;have e1:=(B.kept y (by simp)).cell 1;have e2:=(C.kept y (by simp)).cell 1;simp at e1 e2;by_cases E:k<Z c
    ·(have W:k<Z d:=by have:=Aa H;omega);obtain⟨g1,q1,T,d1⟩:=Hg (Ad HA l (by simp)) k E;obtain⟨g2,q2,P,d2⟩:=Hg (Ad HB l (by simp)) k W;simp only[gM]at T P;obtain⟨rfl,_,rfl⟩:=T;obtain⟨rfl,_,rfl⟩:=P;have EU:=Ab (We c d k E W);(have A:lO (∀n,Ac [] w (wr.drewN n)/\Ac [] w1 (wr.drewN n)):=λn=>⟨l.drewN n,y.drewN n⟩);cases hx:(c[k].toList==d[k].toList)with
     |true=>
      (have Ax:(c[k].toList !=d[k].toList)=K:=by simp[bne,hx]);have x:lO (GY (c.drop (k+1)) (d.drop (k+1))=S):=by
       have h:=Aa z;rw[Aa EU,hx]at h;exact h
      go_wp2_with fail
      go_quiet (fail)
      go_wp2
      go_roundg (Z c-(k+1))
      case measure=>have:=Aa HG;omega
      case rel=>exact⟨k+1,by go_num,by omega,rfl,x,(A _).1,(A _).2⟩
     |false=>
      (have Ax:(c[k].toList !=d[k].toList)=j1:=by simp[bne,hx]);have x:lO (S=K):=by
       have h:=Aa z;rw[Aa EU,hx]at h;exact h.symm
      go_wp2_with fail
      go_quiet (fail)
      go_wp2;go_ret;rw[Aa x];exact⟨rfl,(A _).1⟩
    .have x:lO (S=j1):=by
      have h:=Aa z;rw[iC (by omega),iC (by have:=Aa H;omega)]at h;exact h.symm
     go_wp2;go_ret;rw[Aa x];exact⟨rfl,l⟩
  ·(have G:((Z c:Int) !=(Z d:Int))=j1:=by simp[bne];omega);(have Q:((Z c:Int)==(Z d:Int))=K:=by rw[iw];omega);have r:lO (S=K):=by
    show _=_;rw[<-Aa s,hn];cases h:GY c d with
    |false=>rfl
    |true=>exact absurd (Sn h) u
   clear s;go_enter func49,ntmps49;go_wp2;go_ret;rw[Aa r];exact⟨rfl,l⟩
def DN:mc zA->mc zA->Bool
 |[],m=>decide (0<Z m)
 |_::_,[]=>K
 |x::l,y::m=>if x.toList==y.toList then DN l m else Fu x y
def CZ(a b:Af):Bool:=if a.name.toList==b.name.toList then DN a.args b.args else lZ a.name.toList b.name.toList
def Uw(l m:mc zA)(k:Nat)(a:k<Z l)(b:k<Z m):DN (l.drop k) (m.drop k)=if l[k].toList==m[k].toList then DN (l.drop (k+1)) (m.drop (k+1))else Fu l[k] m[k]:=by
 rw[ij a,ij b,DN]
def PF(l m:mc zA)(k:Nat)(h:k<=Z l)(d:¬(k<Z l/\k<Z m))(c:k<=Z m):DN (l.drop k) (m.drop k)=decide (Z l<Z m):=by
 by_cases b:k<Z l
 .have a:Z m<=k:=by omega
  rw[ij b,iC a,DN];simp;omega
 .rw[iC (show Z l<=k by omega),DN,iN];have:Z l=k:=by omega
  rw[this];by_cases a:k<Z m
  ·(have:0<Z m-k:=by omega);simp[a,this]
  ·(have:¬0<Z m-k:=by omega);simp[a,this]
theorem YG(a b:Dr)(w:l9)(t:Gu w a)(s:Gu w b)(G:OA a.f)(B:OA b.f):
  Calls prog 46 #[lR (j3 (CN a)),lR (j3 (CN b))] w λe w'=>e=lo (lT (CZ a.f b.f))/\Ac [] w w':=by
 obtain⟨⟨j,c⟩,av⟩:=a;obtain⟨⟨g,d⟩,bv⟩:=b;unfold Gu at t s;have FA:=G.len;have B2:=B.len;have AO:=Ab G.each;have P:=Ab B.each;simp only at t s FA B2 AO P;clear G B;obtain⟨q,m,rfl⟩:=Al t;obtain⟨p,o,rfl⟩:=Al s;obtain⟨S,I⟩:∃S,CZ ⟨j,c⟩ ⟨g,d⟩=S:=⟨_,rfl⟩;rw[I];have z:lO ((if j.toList==g.toList then DN c d else lZ j.toList g.toList)=S):=I;have HA:=Ab t;have HB:=Ab s;simp only[CN];have l:=Ab (((me [] w).alloc (j2 [O j,U q (Z c) m].toArray 43)).alloc (j2 [O g,U p (Z d) o].toArray 43));have M:=(mf w [O j,U q (Z c) m] 43).alloc (j2 [O g,U p (Z d) o].toArray 43);have A1:AH ((w.alloc (j2 [O j,U q (Z c) m].toArray 43)).alloc (j2 [O g,U p (Z d) o].toArray 43)) (w.heap.size+1) [O g,U p (Z d) o] 43:=by
  have hh:=mf (w.alloc (j2 [O j,U q (Z c) m].toArray 43)) [O g,U p (Z d) o] 43;rw[show(w.alloc (j2 [O j,U q (Z c) m].toArray 43)).heap.size=w.heap.size+1 from by simp]at hh
  exact hh
 have D:=Ab M;have E:=Ab A1;clear I t s M A1;cases hn:(j.toList==g.toList)with
 |false=>
  have v:lO (lZ j.toList g.toList=S):=by show _=_;rw[<-Aa z,hn];rfl
  have BT:(j.toList !=g.toList)=j1:=by simp[bne,hn]
  clear z;go_enter func46,ntmps46;go_wp2;go_ret;exact⟨Bh v.out,l⟩
 |true=>
  have BT:(j.toList !=g.toList)=K:=by simp[bne,hn]
  have v:lO (DN (c.drop 0) (d.drop 0)=S):=by show _=_;rw[<-Aa z,hn];rfl
  clear z;go_enter func46,ntmps46;go_wp2;change Code.wp _ _ _ _ ((w.alloc (j2 [O j,U q (Z c) m].toArray 43)).alloc (j2 [O g,U p (Z d) o].toArray 43));generalize(w.alloc (j2 [O j,U q (Z c) m].toArray 43)).alloc (j2 [O g,U p (Z d) o].toArray 43)=w1 at l D E⊢;generalize w.heap.size=N at D E⊢;clear hn BT
  go_loopg [5] (Z c) (λgk i wr=>∃(k:Nat),i=X J k/\k<=Z c/\k<=Z d/\gk=Z c-k/\lO (DN (c.drop k) (d.drop k)=S)/\lO (Ac [] w wr)/\lO (Ac [] w1 wr))
  case atStart=>exact⟨0,rfl,by omega,by omega,rfl,v,l,me _ _⟩
  case round=>
   clear v l;obtain⟨k,rfl,R,BA,Ax,x,l,u⟩:=hrel;have HG:=Ab Ax;clear Ax;have H:=(D.kept u (by simp)).cell 1;have C:=(E.kept u (by simp)).cell 1;simp at H C;by_cases A:k<Z c
   .by_cases F:k<Z d
    .obtain⟨g1,q1,BS,W⟩:=Hg (Ad HA l (by simp)) k A;obtain⟨T,q2,Bx,L⟩:=Hg (Ad HB l (by simp)) k F;simp only[gM]at BS Bx;obtain⟨rfl,_,rfl⟩:=BS;obtain⟨rfl,_,rfl⟩:=Bx;have EU:=Ab (Uw c d k A F);(have y:lO (∀n,Ac [] w (wr.drewN n)/\Ac [] w1 (wr.drewN n)):=λn=>⟨l.drewN n,u.drewN n⟩);cases hx:(c[k].toList==d[k].toList)with
     |true=>
      (have CC:(c[k].toList !=d[k].toList)=K:=by simp[bne,hx]);have r:lO (DN (c.drop (k+1)) (d.drop (k+1))=S):=by
       have h:=Aa x;rw[Aa EU,hx]at h;exact h
      go_wp2_with fail
      go_quiet (fail)
      go_wp2
      go_roundg (Z c-(k+1))
      case measure=>have:=Aa HG;omega
      case rel=>exact⟨k+1,by go_num,by omega,by omega,rfl,r,(y _).1,(y _).2⟩
     |false=>
      (have CC:(c[k].toList !=d[k].toList)=j1:=by simp[bne,hx]);have r:lO (Fu c[k] d[k]=S):=by
       have h:=Aa x;rw[Aa EU,hx]at h;exact h
      have A0:=Aa AO c[k] (gL A);have B0:=Aa P d[k] (gL F);go_wp2_with fail
      go_quiet (fail)
      (go_wp2_with fail);have FB:lP (wr.drewN nq) ⟨N,1,Y⟩=V (U (V ⟨g1,0,Y⟩) (Z c) m):=H;have B9:lP (wr.drewN nq) ⟨N+1,1,Y⟩=V (U (V ⟨T,0,Y⟩) (Z d) o):=C;have CL:lP (wr.drewN nq) ⟨g1,k,Y⟩=V (O c[k]):=W;have EK:lP (wr.drewN nq) ⟨T,k,Y⟩=V (O d[k]):=L;have Q:=Ab (y nq).1;clear y H C W L u l;generalize wr.drewN nq=wq at FB B9 CL EK Q⊢
      go_quiet ((go_at_call 86;exact ky (Ms _ _ _ A0.1 B0.1 A0.2 B0.2)))
      go_wp2;go_ret;exact⟨Bh r.out,Q.drewN _⟩
    ·(have FC:¬(k:Int)<(Z d:Int):=by omega);have r:lO (decide (Z c<Z d)=S):=by
      show _=_;rw[<-Aa x,PF c d k R (by omega) BA]
     go_wp2;go_ret;exact⟨Bh r.out,l⟩
   .have r:lO (decide (Z c<Z d)=S):=by
     show _=_;rw[<-Aa x,PF c d k R (by omega) BA]
    go_wp2;go_ret;exact⟨Bh r.out,l⟩
structure KG(w:l9)(sv:lN)(fs:mc Dr):Prop where
 row:lQ w 0 43 2 sv (Z fs) (fs.flatMap CN)
 each:∀p∈fs,Gu w p/\OA p.f
def KG.kept{w w':l9}{b:lN}{fs:mc Dr}(h:KG w b fs)(k:Ac [] w w'):KG w' b fs:=⟨Ad h.row k (by simp),λp a=>⟨(h.each p a).1.kept k,(h.each p a).2⟩⟩
def LX{w:l9}{q:lN}{fs:mc Dr}(h:KG w q fs)(k:Nat)(b:k<Z fs):
  ∃g l n a f d,q=U (V ⟨g,0,Y⟩) (Z fs) l/\fs[k]=⟨⟨n,a⟩,U f (Z a) d⟩/\lP w ⟨g,k*2,Y⟩=V (O n)/\lP w ⟨g,k*2+1,Y⟩=V (U f (Z a) d):=by
 obtain⟨g,l,s,_,r⟩:=AF h.row (λc _=>rfl) k b;have i:=r k b 0 (by omega);have j:=r k b 1 (by omega);obtain⟨⟨⟨n,a⟩,t⟩,m⟩:∃p,fs[k]=p:=⟨_,rfl⟩;have o:=(h.each _ (gL b)).1;rw[m]at i j o;obtain⟨f,d,e⟩:=Al o;simp only at e;subst e;simp[CN]at i j;exact⟨g,l,n,a,f,d,s,m,i,j⟩
theorem US(F:Option Addr)(M:Nat)(fs:mc Dr)(x:Dr)(w:l9)(h:KG w (U F (Z fs) M) fs)(y:Gu w x)(BT:Z fs<=1000000)(C:OA x.f):
  Calls prog 21 #[U F (Z fs) M,lR (j3 (CN x))] w λe s=>e=lo (lT (fs.any λp=>GK p.f x.f))/\Ac [] w s:=by
 have S:lO (∀(p:Dr) wr,p∈fs->Ac [] w wr->Calls prog 49 #[lR (j3 (CN p)),lR (j3 (CN x))] wr λe s=>e=lo (lT (GK p.f x.f))/\Ac [] wr s):=λp wr H t=>ZB p x wr ((h.each p H).1.kept t) (y.kept t) (by have:=(h.each p H).2.len;omega) (by have:=C.len;omega)
 have HS:=Ab h;obtain⟨⟨b,a⟩,xv⟩:=x;obtain⟨l,j,I⟩:=Al y;simp only at I;subst I;obtain⟨R,z⟩:∃R,(fs.any λp=>GK p.f ⟨b,a⟩)=R:=⟨_,rfl⟩;rw[show(fs.any λp=>GK p.f (⟨⟨b,a⟩,U l (Z a) j⟩:Dr).f)=R from z]
 have P:=Ab z;have c:=Ab (mf w [O b,U l (Z a) j] 43);have d:=Ab ((me [] w).alloc (j2 [O b,U l (Z a) j].toArray 43));clear h y C z;simp only[CN]at S⊢;go_enter func21,ntmps21;go_wp2;change Code.wp _ _ _ _ (w.alloc (j2 [O b,U l (Z a) j].toArray 43));generalize w.alloc (j2 [O b,U l (Z a) j].toArray 43)=w1 at c d⊢;generalize w.heap.size=N at c⊢
 go_loopg [5,6] (Z fs) (λgk i q wr=>∃(k:Nat),i=X J k/\k<=Z fs/\gk=Z fs-k/\lO ((fs.take k).any (λp=>GK p.f ⟨b,a⟩)=K)/\lO (Ac [] w wr)/\lO (AH wr N [O b,U l (Z a) j] 43))
 case atStart=>exact⟨0,rfl,by omega,rfl,by show _=_;simp,d,c⟩
 case round=>
  clear c d;obtain⟨k,rfl,t,E,G,d,c⟩:=hrel;have W:=Ab E;clear E;by_cases o:k<Z fs
  .obtain⟨g,BS,n,A,ad,cp,Q,r,d0,d1⟩:=LX (HS.kept d) k o;simp only[gM]at Q;obtain⟨rfl,_,rfl⟩:=Q;have c0:=c.cell 0;have c1:=c.cell 1;simp at c0 c1;have m:=Ab (S fs[k] wr.drew (gL o) d.drew);have L:lO (GK ⟨n,A⟩ ⟨b,a⟩=j1->R=j1):=by
    intro v;rw[<-Aa P];exact Jv _ _ k o (by rw[r];exact v)
   have D:lO (GK ⟨n,A⟩ ⟨b,a⟩=K->(fs.take (k+1)).any (λp=>GK p.f ⟨b,a⟩)=K):=by
    intro v;rw[CT _ _ k o (Aa G),r];exact v
   rw[r]at m;simp only at m;generalize GK ⟨n,A⟩ ⟨b,a⟩=SB at m L D;clear r;go_wp2_with fail
   go_region_law (go_simp;go_at_call 49;refine m.mono ?_;rintro e w3 ⟨rfl,u⟩;have T:=Ab (d.drew.trans u);have AO:=Ab (c.drew.kept u (by simp));clear u)
   all_goals
    clear m;cases SB with
    |true=>
     have B:=Ab (L rfl);go_wp2;go_ret;rw[Aa B];exact⟨rfl,T⟩
    |false=>
     have B:=Ab (D rfl);go_wp2
     go_roundg (Z fs-(k+1))
     case measure=>have:=Aa W;omega
     case rel=>exact⟨k+1,by go_num,by omega,rfl,B,T,AO⟩
  .have HE:lO (R=K):=by
    have h:=Aa G;rw[gR (by omega)]at h;show _=_;rw[<-Aa P];exact h
   go_wp2;go_ret;rw[HE.out];exact⟨rfl,d⟩
theorem Tryz.info43:(Tryz.prog.info? 43).map (λi=>(i.zero,i.size,i.bytes))=V (V (lR #[O ⟨#[]⟩,U Y 0 0]),2,40):=by kernel_rfl
def LV(x:Dr)(a:mc Dr×Bool)(y:Dr):mc Dr×Bool:=if !a.2&&CZ x.f y.f then(a.1++[x]++[y],j1)else(a.1++[y],a.2)
def de(l:mc Dr)(x:Dr):mc Dr×Bool:=l.foldl (LV x) ([],K)
def fK(l:mc Dr)(x:Dr):mc Dr:=if(de l x).2 then(de l x).1 else(de l x).1++[x]
def cq(l:mc Dr)(x:Af):Bool:=l.any λp=>GK p.f x
def Re(l:mc Dr)(x:Dr):mc Dr:=if cq l x.f then l else fK l x
def GI:zA->Bool->mc zA->zA
 |s,_,[]=>s
 |s,b,x::l=>GI ((if b then s++⟨#[44]⟩else s)++x) j1 l
def C7(f:Af):zA:=GI (f.name++⟨#[40]⟩) K f.args++⟨#[41,46]⟩
def cm(c:UInt8):(⟨#[c]⟩:zA).size=1:=rfl
theorem Ta(p:Dr)(w:l9)(h:Gu w p)(P:Z p.f.args<=1000)(u:∀x∈p.f.args,x.size<=1000000)(Q:p.f.name.size<=1000000):
  Calls prog 28 #[lR (j3 (CN p))] w λe E=>e=lo (O (C7 p.f))/\Ac [] w E:=by
 obtain⟨⟨n,a⟩,av⟩:=p;have H:lO (∀x∈a,x.size<=1000000):=u;simp only at P Q;obtain⟨b,c,e⟩:=Al h;simp only at e;subst e;have I:lO (lQ w 0 9 1 (U b (Z a) c) (Z a) (a.flatMap Ah)):=h;obtain⟨R,v⟩:∃R,C7 ⟨n,a⟩=R:=⟨_,rfl⟩;rw[v];have B:lO (GI (n++⟨#[40]⟩) K (a.drop 0)++⟨#[41,46]⟩=R):=v;have q:=Ab (mf w [O n,U b (Z a) c] 43);have t:=Ab ((me [] w).alloc (j2 [O n,U b (Z a) c].toArray 43));clear h u v;simp only[CN];have G:(n++⟨#[40]⟩:zA).size<=1000001:=by rw[gZ,cm];omega
 have Ax:(⟨#[40]⟩:zA).size=1:=rfl;have AO:(⟨#[44]⟩:zA).size=1:=rfl;have A1:(⟨#[41,46]⟩:zA).size=2:=rfl;go_enter func28,ntmps28;go_wp2;change Code.wp _ _ _ _ (w.alloc (j2 [O n,U b (Z a) c].toArray 43));generalize w.alloc (j2 [O n,U b (Z a) c].toArray 43)=w1 at q t⊢;generalize w.heap.size=N at q⊢;have L:=q.cell 1;simp at L
 go_loopg [3,4] (Z a) (λgk o i wr=>∃(k:Nat) (s:zA),o=O s/\i=X J k/\k<=Z a/\gk=Z a-k/\s.size<=1000001+k*1000001/\lO (GI s (decide (0<k)) (a.drop k)++⟨#[41,46]⟩=R)/\wr=w1)
 case atStart=>exact⟨0,_,rfl,rfl,by omega,rfl,by simpa using G,B,rfl⟩
 case round=>
  clear B;obtain⟨k,s,rfl,rfl,T,A,AT,d,rfl⟩:=hrel;have z:=Ab A;clear A;by_cases l:k<Z a
  .obtain⟨g,W,C,d0⟩:=Hg (Ad I t (by simp)) k l;simp only[gM]at C;obtain⟨rfl,_,rfl⟩:=C;have u:=Aa H a[k] (gL l);have j:lO (GI ((if decide (0<k)then s++⟨#[44]⟩else s)++a[k]) j1 (a.drop (k+1))++⟨#[41,46]⟩=R):=by
    have h:=Aa d;rw[ij l,GI]at h;exact h
   have D:k*1000001<=1000*1000001:=iS _ (by omega);by_cases y:0<k
   ·(have F:(0:Int)<(k:Int):=by omega);have m:lO (GI (s++⟨#[44]⟩++a[k]) (decide (0<k+1)) (a.drop (k+1))++⟨#[41,46]⟩=R):=by
     have h:=Aa j;simp only[y,decide_true,if_true]at h;show _=_;simpa using h
    (have M:(s++⟨#[44]⟩:zA).size=s.size+1:=by rw[gZ];rfl);(have r:(s++⟨#[44]⟩++a[k]:zA).size<=1000001+(k+1)*1000001:=by rw[gZ,M];omega);clear d j;go_wp2
    go_roundg (Z a-(k+1))
    case measure=>have:=Aa z;omega
    case rel=>exact⟨k+1,_,rfl,by go_num,by omega,rfl,r,m,rfl⟩
   ·(have F:¬(0:Int)<(k:Int):=by omega);have m:lO (GI (s++a[k]) (decide (0<k+1)) (a.drop (k+1))++⟨#[41,46]⟩=R):=by
     have h:=Aa j;simp only[y,lD,gO,if_false]at h;show _=_;simpa using h
    (have r:(s++a[k]:zA).size<=1000001+(k+1)*1000001:=by rw[gZ];omega);clear d j;go_wp2
    go_roundg (Z a-(k+1))
    case measure=>have:=Aa z;omega
    case rel=>exact⟨k+1,_,rfl,by go_num,by omega,rfl,r,m,rfl⟩
  .have S:lO (s++⟨#[41,46]⟩=R):=by
    have h:=Aa d;rw[iC (by omega)]at h;exact h
   have D:k*1000001<=1000*1000001:=iS _ (by omega);go_wp2;go_ret;rw[<-Aa S];exact⟨rfl,t⟩
def ed:zA->mc Dr->zA
 |t,[]=>t
 |t,p::l=>ed (t++C7 p.f++⟨#[10]⟩) l
def Aj(e:mc zA):mc lN:=e.map O
def Bv(e:mc zA):(lR (j3 (Aj e))).cells=j3 (Aj e):=by
 unfold Aj;simp[Value.cells]
def AR(e:mc zA)(t:AE):zA:=if t.v=0 then t.s else e.getD (t.v.toNat-65) lU
theorem Kz(e:mc zA)(t:AE)(w:l9)(C:Z e=26)(f:t.v=0\/(65<=t.v.toNat/\t.v.toNat<=90)):
  Calls prog 89 #[lR (j3 (Aj e)),lR (j3 (AU t))] w λr x=>r=lo (O (AR e t))/\Ac [] w x:=by
 have D:=Bv e;have A:Z (Aj e)=26:=by unfold Aj;simp[C]
 have g:lO (∀i (h:i<26),(Aj e)[i]?=V (O (e.getD i lU))):=by
  intro i h;unfold Aj;rw[jf,ia,gS (by omega)];rfl
 obtain⟨a,c⟩:=t;obtain⟨R,m⟩:∃R,AR e ⟨a,c⟩=R:=⟨_,rfl⟩;rw[m];have k:lO ((if a=0 then c else e.getD (a.toNat-65) lU)=R):=m;generalize Aj e=E at D A g⊢;have l:=Ab (((me [] w).alloc (j2 (j3 E) 90)).alloc (j2 [X .u8 a.toNat,O c].toArray 93));have p:=Ab ((mf w E 90).alloc (j2 [X .u8 a.toNat,O c].toArray 93));simp only[AU];clear m;simp only at f;by_cases b:a=0
 .have d:lO (c=R):=by have h:=Aa k;rw[gY b]at h;exact h
  subst b;go_enter func89,ntmps89;go_wp2;go_ret;rw[<-Aa d];exact⟨rfl,l⟩
 .have d:lO (e.getD (a.toNat-65) lU=R):=by have h:=Aa k;rw[gV b]at h;exact h
  have B:65<=a.toNat/\a.toNat<=90:=by
   rcases f with h|h
   .exact absurd h b
   .exact h
  have z:((a.toNat:Int)==0)=K:=by rw[iw];omega
  obtain⟨j,u⟩:∃j,a.toNat-65=j:=⟨_,rfl⟩;have s:a.toNat=j+65:=by omega
  rw[u]at d;have q:j<26:=by omega
  rw[s]at p l z⊢;have o:=p.cell j;rw[Aa g j q]at o;have y:lO (∀h:j<Z E,E[j]=O (e.getD j lU)):=λh=>by
   have n:=Aa g j q;rw[gS h]at n;exact kJ n
  clear k u s B f b o;go_enter func89,ntmps89;go_wp2;go_ret;rw[<-Aa d];exact⟨congrArg lo (y _),l⟩
def Tj(x:zA):Bool:=x.toList==[]
def DC(x:zA):Tj x=j1↔x.size=0:=by
 unfold Tj;rw[Bg];cases h:x.toList<;>simp
def Ej(a b:zA):(a.toList==b.toList)=j1↔a=b:=by
 constructor
 .intro h;exact toList_inj (by simpa using h)
 .intro h;rw[h];simp
def CK:mc zA->mc AE->mc zA->mc zA×Bool
 |e,[],_=>(e,j1)
 |e,_::_,[]=>(e,j1)
 |e,t::ts,x::xs=>if Tj (AR e t)then CK (e.set (t.v.toNat-65) x) ts xs else if(AR e t).toList==x.toList then CK e ts xs else(e,K)
def eG(e e':mc zA):Prop:=Z e'=Z e/\∀j,(e.getD j lU).size≠0->e'.getD j lU=e.getD j lU
def eG.refl(e:mc zA):eG e e:=⟨rfl,λ_ _=>rfl⟩
def eG.trans{a b c:mc zA}(h:eG a b)(k:eG b c):eG a c:=⟨k.1.trans h.1,λj d=>(k.2 j (by rw[h.2 j d];exact d)).trans (h.2 j d)⟩
def eG.set{e:mc zA}{j:Nat}(h:(e.getD j lU).size=0)(x:zA):eG e (e.set j x):=by
 refine⟨by simp,λi b=>?_⟩;by_cases a:j=i
 .subst a;exact absurd h b
 .rw[ia,ia,iO a]
def Qu{e c:mc zA}(h:eG e c){t:AE}(b:(AR e t).size≠0):AR c t=AR e t:=by
 unfold AR at b⊢;by_cases a:t.v=0
 .rw[gY a,gY a]
 .rw[gV a]at b⊢;rw[gV a];exact h.2 _ b
def BK(t:AE):Prop:=(t.v=0/\t.s.size≠0)\/(65<=t.v.toNat/\t.v.toNat<=90)
def BK.yK{e:mc zA}{t:AE}(h:BK t)(a:(AR e t).size=0):t.v≠0/\65<=t.v.toNat/\t.v.toNat<=90/\(e.getD (t.v.toNat-65) lU).size=0:=by
 rcases h with⟨c,b⟩|⟨b,d⟩
 .unfold AR at a;rw[gY c]at a;exact absurd a b
 .have c:t.v≠0:=λh=>by rw[h]at b;exact absurd b (by decide)
  unfold AR at a;rw[gV c]at a;exact⟨c,b,d,a⟩
def bC{e:mc zA}{t:AE}(c:Z e=26)(a:t.v≠0)(b:65<=t.v.toNat)(d:t.v.toNat<=90)(x:zA):AR (e.set (t.v.toNat-65) x) t=x:=by
 unfold AR;rw[gV a,ia,jc (by omega)];rfl
def GO:∀(a:mc AE) (b:mc zA) (e c:mc zA),Z e=26->Z a=Z b->(∀t∈a,BK t)->(∀x∈b,x.size≠0)->CK e a b=(c,j1)->eG e c/\a.map (AR c)=b
 |[],[],e,c,_,_,_,_,h=>by
  simp only[CK,iE]at h;rw[<-h.1];exact⟨eG.refl e,rfl⟩
 |[],_::_,_,_,_,h,_,_,_=>by simp at h
 |_::_,[],_,_,_,h,_,_,_=>by simp at h
 |t::a,x::b,e,c,he,hl,hg,hx,h=>by
  rw[CK]at h;have n:Z a=Z b:=by simpa using hl
  have o:∀t∈a,BK t:=λu j=>hg u (by simp[j])
  have l:∀x∈b,x.size≠0:=λu j=>hx u (by simp[j])
  have m:=hx x (by simp);by_cases k:Tj (AR e t)=j1
  .rw[gY k]at h;obtain⟨r,q,p,s⟩:=(hg t (by simp)).yK ((DC _).1 k);obtain⟨d,g⟩:=GO a b (e.set (t.v.toNat-65) x) c (by simp[he]) n o l h;have f:=bC he r q p x;refine⟨(eG.set s x).trans d,?_⟩;rw[ii,g,Qu d (by rw[f];exact m),f]
  .rw[gV k]at h;by_cases i:((AR e t).toList==x.toList)=j1
   .rw[gY i]at h;obtain⟨d,g⟩:=GO a b e c he n o l h;have f:=(Ej _ _).1 i;refine⟨d,?_⟩;rw[ii,g,Qu d (by rw[f];exact m),f]
   .rw[gV i]at h;simp at h
def Eb(σ:UInt8->zA)(t:AE):zA:=if t.v=0 then t.s else σ t.v
def D4(e:mc zA)(σ:UInt8->zA):Prop:=Z e=26/\∀v:UInt8,65<=v.toNat->v.toNat<=90->(e.getD (v.toNat-65) lU).size=0\/e.getD (v.toNat-65) lU=σ v
def D4.val{e:mc zA}{σ:UInt8->zA}(h:D4 e σ){t:AE}(g:BK t)(d:(AR e t).size≠0):AR e t=Eb σ t:=by
 unfold AR at d⊢;unfold Eb;by_cases a:t.v=0
 .rw[gY a,gY a]
 .rw[gV a]at d⊢;rw[gV a];rcases g with⟨b,_⟩|⟨b,f⟩
  .exact absurd b a
  .rcases h.2 t.v b f with c|c
   .exact absurd c d
   .exact c
def D4.set{e:mc zA}{σ:UInt8->zA}(h:D4 e σ){v:UInt8}(f:65<=v.toNat)(d:v.toNat<=90):D4 (e.set (v.toNat-65) (σ v)) σ:=by
 refine⟨by simp[h.1],λu a b=>?_⟩;by_cases c:v.toNat-65=u.toNat-65
 .have:v=u:=jp.1 (by omega);subst this;right;rw[ia,jc (by rw[h.1];omega)];rfl
 .rw[ia,iO c,<-ia];exact h.2 u a b
def J8(σ:UInt8->zA):∀(a:mc AE) (e:mc zA),D4 e σ->(∀t∈a,BK t/\(Eb σ t).size≠0)->∃f,CK e a (a.map (Eb σ))=(f,j1)/\D4 f σ
 |[],e,h,_=>⟨e,rfl,h⟩
 |t::a,e,h,hg=>by
  rw[ii,CK];have g:∀u∈a,BK u/\(Eb σ u).size≠0:=λu l=>hg u (by simp[l])
  obtain⟨d,o⟩:=hg t (by simp);by_cases b:Tj (AR e t)=j1
  .rw[gY b];obtain⟨m,k,i,n⟩:=d.yK ((DC _).1 b);(have c:Eb σ t=σ t.v:=by unfold Eb;rw[gV m]);rw[c];exact J8 σ a _ (h.set k i) g
  .rw[gV b];have c:=h.val d (λj=>b ((DC _).2 j));rw[gY (by rw[c];simp)];exact J8 σ a e h g
def R7:∀(l m:mc zA),GY l m=j1↔l=m
 |[],[]=>by simp[GY]
 |[],_::_=>by simp[GY]
 |_::_,[]=>by simp[GY]
 |x::l,y::m=>by
  rw[GY,iq,Ej,R7 l m];simp
def KI(a b:Af):GK a b=j1↔a=b:=by
 obtain⟨d,f⟩:=a;obtain⟨e,c⟩:=b;unfold GK;rw[iq,Ej,R7];simp
def AB(e:mc zA)(A:Df):Af:=⟨A.name,A.args.map (AR e)⟩
def Bu(σ:UInt8->zA)(A:Df):Af:=⟨A.name,A.args.map (Eb σ)⟩
def D3(e:mc zA)(A:Df)(f:Af):mc zA×Bool:=if(A.name.toList==f.name.toList)&&(Z A.args==Z f.args)then CK e A.args f.args else(e,K)
def Lu(e:mc zA)(A:Df)(f:Af):Option (mc zA):=if(D3 e A f).2 then V (D3 e A f).1 else Y
def CW(s:mc Af)(l:mc (mc zA))(x:Bi):mc (mc zA):=if x.kind==97 then l.flatMap (λe=>s.filterMap (Lu e x.A))else l
def D9(s:mc Af)(f:Af):Bool:=s.any λg=>GK g f
def BY(s:mc Af)(f:Af):D9 s f=j1↔f∈s:=by
 unfold D9;rw[jg];constructor
 .rintro ⟨g,a,h⟩;rw[KI]at h;rw[<-h];exact a
 .intro h;exact⟨f,h,(KI f f).2 rfl⟩
def CH(fact:Df->Af)(val:AE->zA)(s:mc Af)(x:Bi):Bool:=
 if x.kind==97 then D9 s (fact x.A)else if x.kind==33 then !D9 s (fact x.A)else if x.kind==61 then(val x.L).toList==(val x.R).toList else if x.kind==35 then !((val x.L).toList==(val x.R).toList)else Fu (val x.L) (val x.R)
def Bs:mc zA:=List.replicate 26 lU
def BW(body:mc Bi)(s:mc Af):mc (mc zA):=(body.foldl (CW s) [Bs]).filter λe=>body.all λx=>x.kind==97||CH (AB e) (AR e) s x
def Kx(f:Af):Prop:=∀x∈f.args,x.size≠0
def Su{e d:mc zA}{A:Df}{f:Af}(h:Lu e A f=V d):A.name=f.name/\Z A.args=Z f.args/\CK e A.args f.args=(d,j1):=by
 unfold Lu D3 at h;by_cases c:((A.name.toList==f.name.toList)&&(Z A.args==Z f.args))=j1
 .rw[gY c]at h;rw[iq]at c;cases hm:CK e A.args f.args with
  |mk a b=>
   rw[hm]at h;cases b with
   |false=>simp at h
   |true=>
    simp at h;exact⟨(Ej _ _).1 c.1,by simpa using c.2,by rw[h]⟩
 .rw[gV c]at h;simp at h
def ee{e a:mc zA}{A:Df}{f:Af}(d:A.name=f.name)(c:Z A.args=Z f.args)(g:CK e A.args f.args=(a,j1)):Lu e A f=V a:=by
 have h:((A.name.toList==f.name.toList)&&(Z A.args==Z f.args))=j1:=by
  rw[iq,Ej];exact⟨d,by simpa using c⟩
 have b:D3 e A f=(a,j1):=by
  unfold D3;rw[gY h,g]
 unfold Lu;rw[b];rfl
def Eo{s:mc Af}(n:∀f∈s,Kx f):∀(g:mc Bi) (l:mc (mc zA)),(∀e∈l,Z e=26)->(∀x∈g,(x.kind==97)=j1->∀t∈x.A.args,BK t)->
  ∀a∈g.foldl (CW s) l,Z a=26/\∃e∈l,eG e a/\∀x∈g,(x.kind==97)=j1->AB a x.A∈s/\∀t∈x.A.args,(AR a t).size≠0
 |[],l,hl,_,a,he'=>⟨hl a he',a,he',eG.refl a,λx M=>by simp at M⟩
 |x::g,l,hl,hg,a,he'=>by
  rw[iA]at he';have w:∀x∈g,(x.kind==97)=j1->∀t∈x.A.args,BK t:=λy c=>hg y (by simp[c])
  by_cases j:(x.kind==97)=j1
  .have D:∀b∈CW s l x,∃e∈l,∃f∈s,Lu e x.A f=V b:=by
    intro b k;unfold CW at k;rw[gY j]at k;obtain⟨e,d,F⟩:=iI.1 k;obtain⟨f,h,m⟩:=jy.1 F;exact⟨e,d,f,h,m⟩
   have I:∀b∈CW s l x,Z b=26:=by
    intro b k;obtain⟨e,d,f,h,m⟩:=D b k;obtain⟨_,r,v⟩:=Su m;rw[(GO _ _ _ _ (hl e d) r (hg x (by simp) j) (n f h) v).1.1,hl e d]
   obtain⟨u,b,L,p,q⟩:=Eo n g (CW s l x) I w a he';obtain⟨e,d,f,h,m⟩:=D b L;obtain⟨H,r,v⟩:=Su m;obtain⟨E,B⟩:=GO _ _ _ _ (hl e d) r (hg x (by simp) j) (n f h) v;(have C:∀t∈x.A.args,(AR b t).size≠0:=λt i=>n f h _ (by rw[<-B];exact it i));(have z:∀t∈x.A.args,AR a t=AR b t:=λt i=>Qu p (C t i));refine⟨u,e,d,E.trans p,λy c o=>?_⟩;rcases gP.1 c with rfl|c
   .refine⟨?_,λt i=>by rw[z t i];exact C t i⟩;have:AB a y.A=f:=by
     unfold AB;rw[iY z,B,H]
    rw[this];exact h
   .exact q y c o
  ·(have G:CW s l x=l:=by unfold CW;rw[gV j]);rw[G]at he';obtain⟨u,e,d,p,q⟩:=Eo n g l hl w a he';refine⟨u,e,d,p,λy c o=>?_⟩;rcases gP.1 c with rfl|c
   .exact absurd o j
   .exact q y c o
def Kd{s:mc Af}(σ:UInt8->zA):∀(a:mc Bi) (l:mc (mc zA)) (e:mc zA),e∈l->D4 e σ->(∀x∈a,(x.kind==97)=j1->(∀t∈x.A.args,BK t/\(Eb σ t).size≠0)/\Bu σ x.A∈s)->
  ∃m∈a.foldl (CW s) l,D4 m σ
 |[],l,e,he,ha,_=>⟨e,he,ha⟩
 |x::a,l,e,he,ha,hb=>by
  rw[iA];have c:∀y∈a,(y.kind==97)=j1->(∀t∈y.A.args,BK t/\(Eb σ t).size≠0)/\Bu σ y.A∈s:=λy h=>hb y (by simp[h])
  by_cases b:(x.kind==97)=j1
  .obtain⟨j,g⟩:=hb x (by simp) b;obtain⟨d,k,i⟩:=J8 σ x.A.args e ha j;refine Kd σ a _ d ?_ i c;unfold CW;rw[gY b];exact iI.2 ⟨e,he,jy.2 ⟨_,g,ee rfl (by simp[Bu]) k⟩⟩
  ·(have f:CW s l x=l:=by unfold CW;rw[gV b]);rw[f];exact Kd σ a l e he ha c
def D4.start(σ:UInt8->zA):D4 Bs σ:=by
 refine⟨rfl,λv a b=>Or.inl ?_⟩;unfold Bs;rw[ia,List.getElem?_replicate];split<;>rfl
def FK(body:mc Bi)(t:AE):Prop:=t.v=0\/∃x∈body,(x.kind==97)=j1/\∃u∈x.A.args,u.v=t.v
def Iv(e:mc zA)(v:UInt8):zA:=e.getD (v.toNat-65) lU
def Gl(e:mc zA)(t:AE):Eb (Iv e) t=AR e t:=rfl
def GM{s:mc Af}(k:∀f∈s,Kx f){b:mc Bi}(l:∀x∈b,(x.kind==97)=j1->∀t∈x.A.args,BK t){e:mc zA}(a:e∈BW b s):
  ∀x∈b,CH (AB e) (AR e) s x=j1:=by
 unfold BW at a;obtain⟨i,g⟩:=ir.1 a;obtain⟨_,_,_,_,j⟩:=Eo k b [Bs] (λe a=>by simp at a;rw[a];rfl) l e i;intro x d;by_cases c:(x.kind==97)=j1
 .unfold CH;rw[gY c];exact(BY _ _).2 (j x d c).1
 .have:=(ji.1 g) x d;simp only[jx]at this;rcases this with h|h
  .exact absurd h c
  .exact h
def Of{s:mc Af}(o:∀f∈s,Kx f){a:mc Bi}(l:∀x∈a,(x.kind==97)=j1->∀t∈x.A.args,BK t)(σ:UInt8->zA)(m:∀x∈a,CH (Bu σ) (Eb σ) s x=j1)
  (w:∀x∈a,(x.kind==97)=K->((x.kind==33)=j1->∀t∈x.A.args,FK a t)/\((x.kind==33)=K->FK a x.L/\FK a x.R)):
  ∃e∈BW a s,∀t,FK a t->AR e t=Eb σ t:=by
 have q:∀x∈a,(x.kind==97)=j1->(∀t∈x.A.args,BK t/\(Eb σ t).size≠0)/\Bu σ x.A∈s:=by
  intro x c b;have h:=m x c;unfold CH at h;rw[gY b,BY]at h;exact⟨λt g=>⟨l x c b t g,o _ h _ (it g)⟩,h⟩
 obtain⟨e,i,p⟩:=Kd σ a [Bs] Bs (by simp) (D4.start σ) q;obtain⟨_,_,_,_,y⟩:=Eo o a [Bs] (λe i=>by simp at i;rw[i];rfl) l e i;have j:∀t,FK a t->AR e t=Eb σ t:=by
  intro t g;rcases g with d|⟨x,c,b,u,n,z⟩
  .unfold AR Eb;rw[gY d,gY d]
  .have r:=(y x c b).2 u n;have k:=p.val (l x c b u n) r;unfold AR Eb at k⊢;rw[<-z];by_cases d:u.v=0
   .rw[gY d,gY d]
   .rw[gV d,gV d]at k⊢;exact k
 refine⟨e,?_,j⟩;unfold BW;refine ir.2 ⟨i,ji.2 λx c=>?_⟩;cases b:(x.kind==97)with
 |true=>rfl
 |false=>
  obtain⟨s1,s2⟩:=w x c b;rw[kp,<-m x c];unfold CH;simp only[b,gO,if_false];cases hk2:(x.kind==33)with
  |true=>
   simp only[if_true];have:AB e x.A=Bu σ x.A:=by
    unfold AB Bu;rw[iY (λt g=>j t (s1 hk2 t g))]
   rw[this]
  |false=>
   simp only[gO,if_false];rw[j _ (s2 hk2).1,j _ (s2 hk2).2]
def Mz{w:l9}{base:Nat}{v:lN}{l:mc AE}(h:lQ w base 93 2 v (Z l) (l.flatMap AU))(k:Nat)(a:k<Z l):
  ∃g b,v=U (V ⟨g,0,Y⟩) (Z l) b/\lP w ⟨g,k*2,Y⟩=V (X .u8 l[k].v.toNat)/\lP w ⟨g,k*2+1,Y⟩=V (O l[k].s):=by
 obtain⟨g,b,i,_,f⟩:=AF h (λc _=>Ga c) k a;have d:=f k a 0 (by omega);have e:=f k a 1 (by omega);simp[AU]at d e;exact⟨g,b,i,d,e⟩
structure UX(w:l9)(N:Nat)(E:mc lN)(nm:zA)(av:lN)(j:Nat)(ts:mc AE)(fv:lN):Prop where
 b0:AH w N E 90
 b1:AH w (N+1) [O nm,av,X J j] 79
 b2:AH w (N+1+1) [O ⟨#[]⟩,U Y 0 0] 43
 b3:AH w (N+1+1+1) [O nm,fv] 43
 row:lQ w 0 93 2 av (Z ts) (ts.flatMap AU)
 low:∀q,av.ownBlock=V q->q<N
def UX.kept{w w':l9}{N:Nat}{E:mc lN}{nm:zA}{b:lN}{j:Nat}{ts:mc AE}{a:lN}(h:UX w N E nm b j ts a)(k:Ac [] w w'):UX w' N E nm b j ts a:=
 ⟨h.b0.kept k (by simp),h.b1.kept k (by simp),h.b2.kept k (by simp),h.b3.kept k (by simp),Ad h.row k (by simp),h.low⟩
def UX.grown{w w':l9}{N:Nat}{E:mc lN}{nm:zA}{b:lN}{j:Nat}{ts:mc AE}{c:lN}{r:Option Nat}(h:UX w N E nm b j ts c)(k:w.grownBy w' r)(a:∀q,r=V q->N+1+1+1+1<=q):UX w' N E nm b j ts c:=
 ⟨h.b0.grown k (λe=>by have:=a _ e;omega),h.b1.grown k (λe=>by have:=a _ e;omega),h.b2.grown k (λe=>by have:=a _ e;omega),h.b3.grown k (λe=>by have:=a _ e;omega),
  je (v:=b) h.row k (by
   cases hv:b.ownBlock with
   |none=>exact Or.inl rfl
   |some q=>exact ly (λe=>by have:=h.low q hv;have:=a q e.symm;omega)),h.low⟩
theorem Nw(e:mc zA)(A:Df)(u:Option Addr)(d:Nat)(w:l9)(he:Z e=26)(hA:lQ w 0 93 2 (U u (Z A.args) d) (Z A.args) (A.args.flatMap AU))(H0:Z A.args<=1000)(hg:∀t∈A.args,t.v=0\/(65<=t.v.toNat/\t.v.toNat<=90)):
  Calls prog 48 #[lR (j3 (Aj e)),lR (j3 (Cg A.name (U u (Z A.args) d) A.at_))] w λr w'=>∃x y,r=lo (lR (j3 (CN ⟨AB e A,U x (Z A.args) y⟩)))/\Gu w' ⟨AB e A,U x (Z A.args) y⟩/\(∀q,(U x (Z A.args) y).ownBlock=V q->w.heap.size<=q)/\Ac [] w w':=by
 obtain⟨i0,KS,H5,K1,IJ⟩:=iR Tryz.zt;obtain⟨b,a,j⟩:=A;simp only at hA H0 hg⊢;have HV:lO (∀t wr,t∈a->Calls prog 89 #[lR (j3 (Aj e)),lR (j3 (AU t))] wr λr w'=>r=lo (O (AR e t))/\Ac [] wr w'):=λt wr ht=>Kz e t wr he (hg t ht)
 have HF:lO (∀x y wr,lQ wr 0 9 1 (U x (Z a) y) (Z a) ((a.map (AR e)).flatMap Ah)->Gu wr ⟨AB e ⟨b,a,j⟩,U x (Z a) y⟩):=by
  intro x y wr h;show lQ wr 0 9 1 _ (Z (a.map (AR e))) _;rw[ie];exact h
 have FC:lO (∀x y,CN ⟨AB e ⟨b,a,j⟩,U x (Z a) y⟩=[O b,U x (Z a) y]):=λx y=>rfl
 generalize AB e ⟨b,a,j⟩=FP at HF FC⊢;have hc:=Bv e;have hl:Z (Aj e)=26:=by unfold Aj;simp[he]
 generalize Aj e=E at hc hl HV⊢;have z:=Ab (((me [] w).alloc (j2 (j3 E) 90)).alloc (j2 (j3 (Cg b (U u (Z a) d) j)) 79));have HB:=Ab ((mf w E 90).alloc (j2 (j3 (Cg b (U u (Z a) d) j)) 79));have HA:=Ab hA;simp only[Cg]at z HB⊢;clear hA hg;go_enter func48,ntmps48;go_wp2_with fail
 obtain⟨N,hN⟩:∃N,w.heap.size=N:=⟨_,rfl⟩;have FT:UX ((((w.alloc (j2 (j3 E) 90)).alloc (j2 #[O b,U u (Z a) d,X J ↑j] 79)).alloc (j2 #[O {data:=#[]},U Y 0 0] 43)).alloc (j2 #[O b,U Y 0 0] 43)) N E b (U u (Z a) d) j a (U Y 0 0):=by
  have b1:=mf (w.alloc (j2 (j3 E) 90)) [O b,U u (Z a) d,X J j] 79;have b2:=mf ((w.alloc (j2 (j3 E) 90)).alloc (j2 #[O b,U u (Z a) d,X J ↑j] 79)) [O ⟨#[]⟩,U Y 0 0] 43;have b3:=mf (((w.alloc (j2 (j3 E) 90)).alloc (j2 #[O b,U u (Z a) d,X J ↑j] 79)).alloc (j2 #[O {data:=#[]},U Y 0 0] 43)) [O b,U Y 0 0] 43;simp only[iz,hN]at b1 b2 b3;have b0:=Aa HB;rw[hN]at b0;exact⟨(b0.alloc _).alloc _,(b1.alloc _).alloc _,b2.alloc _,b3,Ad HA (z.alloc _|>.alloc _) (by simp),λq D=>by have:=(HA.lt q D).2;omega⟩
 have BS:=Ab FT;have CL:=Ab ((z.alloc (j2 #[O {data:=#[]},U Y 0 0] 43)).alloc (j2 #[O b,U Y 0 0] 43));rw[hN];have W:=Ab hN;clear FT z HB HA hN;change Code.wp _ _ _ _ ((((w.alloc (j2 (j3 E) 90)).alloc (j2 #[O b,U u (Z a) d,X J ↑j] 79)).alloc (j2 #[O {data:=#[]},U Y 0 0] 43)).alloc (j2 #[O b,U Y 0 0] 43));generalize((((w.alloc (j2 (j3 E) 90)).alloc (j2 #[O b,U u (Z a) d,X J ↑j] 79)).alloc (j2 #[O {data:=#[]},U Y 0 0] 43)).alloc (j2 #[O b,U Y 0 0] 43))=w1 at BS CL⊢
 go_loopg [6] (Z a) (λgk i wr=>∃(k:Nat) (l:Option Addr) (f:Nat),i=X J k/\k<=Z a/\gk=Z a-k/\lO (UX wr N E b (U u (Z a) d) j a (U l k f))/\lO (lQ wr (N+1+1+1+1) 9 1 (U l k f) k (((a.take k).map (AR e)).flatMap Ah))/\lO (Ac [] w wr))
 case atStart=>exact⟨0,Y,0,rfl,by omega,rfl,BS,ip _ _ _ _,CL⟩
 case round=>
  clear BS CL;obtain⟨k,l,f,rfl,hk,HU,o,R,z⟩:=hrel;have HG:=Ab HU;clear HU;have HR:=o.b1.cell 1;simp at HR;by_cases AT:k<Z a
  .obtain⟨g,F,HP,d0,d1⟩:=Mz o.row k AT;simp only[gM]at HP;obtain⟨rfl,_,rfl⟩:=HP;obtain⟨T,Q⟩:∃T,a[k]=T:=⟨_,rfl⟩;(have H1:lO (T∈a):=by show _∈_;rw[<-Q];exact gL AT);have H4:lO (a[k]=T):=Q;rw[Q]at d0 d1;(have K9:(0:Int)<=(k:Int):=by omega);(have K6:(k:Int)<(Z a:Int):=by omega);have M:lO (∀c,UX c N E b (U (V ⟨g,0,Y⟩) (Z a) d) j a (U l k f)->c.rangeAt N 0 E/\lP c ⟨N+1+1+1,1,Y⟩=V (U l k f)/\lP c ⟨N+1,1,Y⟩=V (U (V ⟨g,0,Y⟩) (Z a) d)/\lP c ⟨g,k*2,Y⟩=V (X .u8 T.v.toNat)/\lP c ⟨g,k*2+1,Y⟩=V (O T.s)):=by
    intro c H;obtain⟨g',K7,FF,f0,f1⟩:=Mz H.row k AT;simp only[gM,gT,iL]at FF;obtain⟨⟨rfl,_,_⟩,_,_⟩:=FF;rw[Q]at f0 f1;have x3:=H.b3.cell 1;have x1:=H.b1.cell 1;simp at x1 x3;exact⟨H.b0.range,x3,x1,f0,f1⟩
   clear Q;have B:=Ab (M wr.drew (o.kept (me [] wr).drew));(go_wp2_with fail);refine Cz 12 (λc=>c.rangeAt N 0 E/\lP c ⟨N+1+1+1,1,Y⟩=V (U l k f)/\lP c ⟨N+1,1,Y⟩=V (U (V ⟨g,0,Y⟩) (Z a) d)/\lP c ⟨g,k*2,Y⟩=V (X .u8 T.v.toNat)/\lP c ⟨g,k*2+1,Y⟩=V (O T.s)) (by kernel_rfl) ?_;refine Cx.tk (i:=0) (v:=kt (V ⟨N+1+1+1,1,Y⟩)) rfl (by kernel_rfl) (λ_ _ _ h=>h) B (by rfl) ?_ ?_
   ·(intro c I;go_simp)
   simp only[lY,gI,gJ,gK];refine Cx.tk (i:=1) (v:=U l k f) rfl (by kernel_rfl) (λ_ _ _ h=>h) B (by rfl) ?_ ?_
   ·(intro c I;go_simp)
   simp only[lY,gI,gJ,gK];refine Cx.take (i:=2) (v:=lR (j3 E)) rfl (by kernel_rfl) (by kernel_rfl) (by kernel_rfl) (by kernel_rfl) (λ_ _ _ h=>h) B (yieldsIf_load_mid (by rfl) 90 _ rfl N 0 (by rfl) E _ (λc H=>H.1) underlying90 rfl (by rw[hl];exact Tryz.zK)) ?_;simp only[lY,gI,gJ,gK];refine Cx.tk (i:=3) (v:=kt (V ⟨N+1,1,Y⟩)) rfl (by kernel_rfl) (λ_ _ _ h=>h) B (by rfl) ?_ ?_
   ·(intro c I;go_simp)
   simp only[lY,gI,gJ,gK];refine Cx.tk (i:=4) (v:=U (V ⟨g,0,Y⟩) (Z a) d) rfl (by kernel_rfl) (λ_ _ _ h=>h) B (by rfl) ?_ ?_
   ·(intro c I;go_simp)
   simp only[lY,gI,gJ,gK];refine Cx.tk (i:=5) (v:=X J k) rfl (by kernel_rfl) (λ_ _ _ h=>h) B (by rfl) ?_ ?_
   ·(intro c I;go_simp)
   simp only[lY,gI,gJ,gK];refine Cx.tk (i:=6) (v:=kt (V ⟨g,k*2,Y⟩)) rfl (by kernel_rfl) (λ_ _ _ h=>h) B (by rfl) ?_ ?_
   ·(intro c I;go_simp)
   simp only[lY,gI,gJ,gK];refine Cx.tk (i:=7) (v:=lR (j3 (AU T))) rfl (by kernel_rfl) (λ_ _ _ h=>h) B (by rfl) ?_ ?_
   ·(intro c I;simp only[AU];go_simp)
   simp only[lY,gI,gJ,gK];refine Cx.one (i:=8) (by kernel_rfl) rfl (λC m=>?_)
   go_simp
   obtain⟨P,hV⟩:∃P,AR e T=P:=⟨_,rfl⟩;have B0:=Ab (HV T wr.drew H1);rw[hV]at B0;have KK:=Ab hV;clear hV;refine B0.mono ?_;rintro _ L ⟨rfl,S⟩;have AO:=o.kept ((me [] wr).drew.trans S);refine m.out _ _ (λ_=>M L AO) ?_;clear m C B0
   try simp only[lY,gI,gJ,gK]
   refine Cx.one (i:=9) (by kernel_rfl) rfl (λC m=>?_)
   go_simp
   have DT:=AO.kept ((me [] L).alloc (j2 #[O P] 9));refine m.out _ _ (λ_=>M _ DT) ?_;clear m C
   try simp only[lY,gI,gJ,gK]
   have A1:=Ad R ((me [] wr).drew.trans S) (by simp);have K3:=S.size;(have K5:N+1+1+1+1<=L.heap.size:=by have:=AO.b3.lt;omega);refine Cx.one (i:=10) (by kernel_rfl) rfl (λC m=>?_);refine lc _ (by rfl) _ _ _ (by rfl) (N+1+1+1+1) 9 i0 _ 1 16 underlying41 KS H5 K1 IJ rfl (by omega) (U l k f) k (((a.take k).map (AR e)).flatMap Ah) (by rfl) (gU A1 _)
         ⟨L.heap.size,0,Y⟩ 1 1 [O P] (by rfl) (by rfl) (iu (cs:=#[O P]) (t:=9) (fr:=(0,0)) (iD L _)) (by simp[Value.oneCell'])
         (by omega) (by unfold maxLen;omega) (by omega) (by simp;omega) (L.heap.size+1) (by simp) ?_
   intro G F w5 CC B9 IS Jx;have n:=DT.grown B9 (λq D=>(A1.lt q D).1);refine m.out _ _ (λ_=>M _ n) ?_;clear m C
   try simp only[lY,gI,gJ,gK]
   refine Cx.one (i:=11) (by kernel_rfl) rfl (λC m=>?_)
   go_simp
   refine m.out _ _ (λ_=>M _ n) ?_;clear m C
   try simp only[lY,gI,gJ,gK]
   have y1:=n.b3.cell 1;have yf:=n.b3.frozen 1;simp at y1;refine Cx.one (i:=12) (by kernel_rfl) rfl (λC m=>?_)
   go_simp
   refine m.out _ _ (λh=>absurd rfl h) ?_;clear m C;refine Cx.done (by kernel_rfl) ?_ _
   try simp only[lY,gI,gJ,gK]
   have HL:lO (UX (w5.setCell ⟨N+1+1+1,1,Y⟩ (U (V ⟨G,0,Y⟩) (k+1) F)) N E b (U (V ⟨g,0,Y⟩) (Z a) d) j a (U (V ⟨G,0,Y⟩) (k+1) F)):=
    ⟨n.b0.zB _ (show N+1+1+1≠N by omega) _,n.b1.zB _ (show N+1+1+1≠N+1 by omega) _,n.b2.zB _ (show N+1+1+1≠N+1+1 by omega) _,n.b3.set 1 _,Ag n.row (λh=>by have:=n.low _ h;simp at this;omega) _,n.low⟩
   have HI:lO (lQ (w5.setCell ⟨N+1+1+1,1,Y⟩ (U (V ⟨G,0,Y⟩) (k+1) F)) (N+1+1+1+1) 9 1 (U (V ⟨G,0,Y⟩) (k+1) F) (k+1) (((a.take (k+1)).map (AR e)).flatMap Ah)):=by
    have h:=Ag CC (p:=⟨N+1+1+1,1,Y⟩) (λh=>by have:=(CC.lt _ h).1;simp at this;omega) (U (V ⟨G,0,Y⟩) (k+1) F);rw[gQ AT,iG,ix,Aa H4];simp only[ii,jM,il,jh,iJ,Aa KK,Ah];exact h
   have HT:=Ab (((z.drew.trans S).alloc (j2 #[O P] 9)).grown B9 (λq D=>ly (by have:=(A1.lt q D).1;have:=Aa W;omega))|>.setCell (p:=⟨N+1+1+1,1,Y⟩) (ly (by have:=Aa W;simp;omega)) (U (V ⟨G,0,Y⟩) (k+1) F));clear CC B9 IS Jx n DT AO A1 S B M o R z y1 yf d0 d1 HR;generalize w5.setCell ⟨N+1+1+1,1,Y⟩ (U (V ⟨G,0,Y⟩) (k+1) F)=w6 at HL HI HT⊢;go_wp2
   go_roundg (Z a-(k+1))
   case measure=>have:=Aa HG;omega
   case rel=>exact⟨k+1,V ⟨G,0,Y⟩,F,by go_num,by omega,rfl,HL,HI,HT⟩
  ·(have H7:k=Z a:=by omega);have x0:=o.b3.cell 0;have x1:=o.b3.cell 1;have y0:=o.b2.cell 0;have y1:=o.b2.cell 1;have yf:=o.b2.frozen;simp at x0 x1 y0 y1;have H9:lO (AH ((wr.setCell ⟨N+1+1,0,Y⟩ (O b)).setCell ⟨N+1+1,1,Y⟩ (U l k f)) (N+1+1) [O b,U l k f] 43):=(o.b2.set 0 _).set 1 _;have HY:lO (lQ ((wr.setCell ⟨N+1+1,0,Y⟩ (O b)).setCell ⟨N+1+1,1,Y⟩ (U l k f)) 0 9 1 (U l k f) k ((a.map (AR e)).flatMap Ah)):=by
    have h:=Aa R;rw[gR (by omega)]at h;(have hb:∀q,(U l k f).ownBlock=V q->q≠N+1+1:=λq D=>by have:=(h.lt q D).1;omega);exact Am (Ag (Ag h (λh=>hb _ h rfl) _) (λh=>hb _ h rfl) _) (by omega)
   (have K2:lO (∀q,(U l k f).ownBlock=V q->w.heap.size<=q):=λq D=>by have:=(R.lt q D).1;have:=Aa W;omega);have H6:=Ab ((z.setCell (p:=⟨N+1+1,0,Y⟩) (ly (by have:=Aa W;simp;omega)) (O b)).setCell (p:=⟨N+1+1,1,Y⟩) (ly (by have:=Aa W;simp;omega)) (U l k f));clear o R z;go_wp2;subst H7;refine im (BR rfl rfl H9 underlying43 rfl (by kernel_rfl)) rfl ⟨l,f,?_,HF l f _ HY,K2,H6⟩;rw[Aa FC]
def Y0(e:mc zA)(A:Df)(d:Option Addr)(f:Nat)(w:l9)(g:Z e=26)(h:lQ w 0 93 2 (U d (Z A.args) f) (Z A.args) (A.args.flatMap AU))(j:Z A.args<=1000)(i:∀t∈A.args,t.v=0\/(65<=t.v.toNat/\t.v.toNat<=90)):
  Calls prog 48 #[lR (j3 (Aj e)),lR (j3 (Cg A.name (U d (Z A.args) f) A.at_))] w λr c=>∃b a,r=lo (lR (j3 (CN ⟨AB e A,U b (Z A.args) a⟩)))/\Gu c ⟨AB e A,U b (Z A.args) a⟩/\Ac [] w c:=
 (Nw e A d f w g h j i).mono λr c ⟨b,a,h1,h2,_,h4⟩=>⟨b,a,h1,h2,h4⟩
