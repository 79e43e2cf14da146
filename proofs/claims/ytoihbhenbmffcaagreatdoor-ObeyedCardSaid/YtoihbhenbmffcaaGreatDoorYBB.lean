import Derived.Test.YtoihbhenbmffcaaGreatDoorYAQ
import Derived.Test.YtoihbhenbmffcaaGreatDoorYAZ
set_option linter.all false
set_option maxHeartbeats 0
open List renaming length->Z
open Option renaming none->Y,some->V
open Go.Value renaming slice->U,int->X,string->O
open Bool renaming false->K,true->j1
namespace Go.Proofs.YtoihbhenbmffcaaGreatDoor
open Go.RowKit Go.Proofs.Tryz
structure cP(cs:mc A6)(J:mc Af->Prop):Prop where
 len:∀s,J s->Z s<=6912
 body:∀c∈cs,Z c.bl<=3
 args:∀c∈cs,∀p∈c.bl,(p.1.kind==97)=j1->(∀t∈p.1.A.args,BK t)/\Z p.1.A.args<=1000
 lit:∀s,J s->∀c∈cs,∀e∈(Ak c).foldl (CW s) [Bs],∀p∈c.bl,(p.1.kind==97)=K->TP e p.1
 head:∀c∈cs,(∀t∈c.head.args,Oz t)/\Z c.head.args<=1000
 fact:∀s,J s->∀c∈cs,∀e∈BW (Ak c) s,OA (AB e c.head)
 add:∀s0 s,J s0->J s->∀c∈cs,∀e∈BW (Ak c) s0,J (A9 s (AB e c.head))
def ZY{d:mc Bi}{s:mc Af}:∀e∈BW d s,Z e=26:=by
 have j:∀(b:mc Bi) (l:mc (mc zA)),(∀e∈l,Z e=26)->∀e∈b.foldl (CW s) l,Z e=26:=by
  intro b
  induction b with
  |nil=>exact λl h=>h
  |cons x b ih=>
   intro l h;refine ih _ (λe a=>?_);unfold CW at a;split at a
   .obtain⟨g,k,i⟩:=iI.1 a;obtain⟨f,_,c⟩:=jy.1 i;unfold Lu at c;split at c
    .cases c
     rw[Mb];exact h g k
    .cases c
   .exact h e a
 intro e a;unfold BW at a;exact j d [Bs] (by simp[Bs]) e (ir.1 a).1
def dW{w:World}{base:Nat}{e:TypeId}{a n:Nat}{v:Value}{c:mc Value}(h:w.ownsRow base e a v n c):n<=9223372036854775807:=by
 rcases h.2 with⟨_,j⟩|⟨g,i,d,_,_,_,f,b,_⟩
 .omega
 .unfold maxLen at b;omega
def JT(s:mc Af)(c:A6):Bool:=(BW (Ak c) s).all λe=>D9 s (AB e c.head)
def Q3(cs:mc A6)(s:mc Af):Bool:=cs.all (JT s)
def ZH{cs:mc A6}{L:zA->Nat}{N:Nat}{u:mc Af}(b:Oc cs L)(g:Il cs L N u)(l:∀c∈cs,L c.head.name<N):Q3 cs u=j1:=by
 unfold Q3 JT;rw[ji];intro c a;rw[ji];intro e i;have k:∀f∈u,Kx f:=λf h=>((g.zZ f h).canon b.zN).zM
 have j:=GM k (b.zM.args c a) i;have d:=(FJ c (Iv e) u).1 j;exact(BY _ _).2 (g.work.closed (CI c (Iv e)) ⟨c,a,Iv e,d.2,rfl⟩ (l c a) d.1)
def Vr{α:Type}(p:α->Bool)(l:mc α)(k:Nat)(a:k<Z l)(h:(l.take k).all p=j1):(l.take (k+1)).all p=p l[k]:=by
 rw[gQ a,List.all_append,h];simp
def cT{α:Type}(p:α->Bool)(l:mc α)(k:Nat)(a:k<Z l)(h:p l[k]=K):l.all p=K:=by
 rw[List.all_eq_false];exact⟨l[k],gL a,by rw[h];simp⟩
set_option maxRecDepth 100000
theorem Zc(H5:mc Af->Prop)(pb:Nat)(K4:Option Addr)(A0:Nat)(cs:mc A6)(G:Option Addr)(E:Nat)(fs:mc Dr)(w:World)(hP:AH w pb [U K4 (Z cs) A0] 76)(hR:Dw w (U K4 (Z cs) A0) cs)(NL:Z cs<=1000)
  (hF:cP cs H5) (hS:KG w (U G (Z fs) E) fs) (hJ:H5 (fs.map Dr.f)):
  Calls prog 18 #[.pointer (V ⟨pb,0,Y⟩),U G (Z fs) E] w λr u=>r=.returned (.bool (Q3 cs (fs.map Dr.f)))/\Ac [] w u:=by
 have KS:=Ab hP;have FB:=Ab hR;have F:=Ab hF;have HJ:=Ab hJ;have HL:=Ab hS;obtain⟨I,FF⟩:∃I,Q3 cs (fs.map Dr.f)=I:=⟨_,rfl⟩;rw[FF];have HS:Hid (cs.all (JT (fs.map Dr.f))=I):=FF;clear hP hR hF hJ hS FF;go_enter func18,ntmps18;go_wp2_with fail
 go_loopg [5] (Z cs) (λgk i wr=>∃(k:Nat),i=X .i64 k/\k<=Z cs/\gk=Z cs-k/\Hid ((cs.take k).all (JT (fs.map Dr.f))=j1)/\Hid (Ac [] w wr))
 case atStart=>exact⟨0,rfl,by omega,rfl,rfl,me _ _⟩
 case round=>
  obtain⟨k,rfl,hk,JJ,HC,d⟩:=hrel;have M0:=Ab JJ;clear JJ;have p0:=(KS.kept d (by simp)).cell 0;simp at p0;by_cases C:k<Z cs
  .obtain⟨g,RI,a,S,N,H0,HV,x,a5,HX,EM,HE,d0,d1,d2,d3⟩:=Sw (FB.kept d) k C;simp only[gM]at HX;obtain⟨rfl,_,rfl⟩:=HX;have s:cs[k]∈cs:=gL C;have y:=Ab (Vr (JT (fs.map Dr.f)) cs k C HC);have A:=Ab (cT (JT (fs.map Dr.f)) cs k C);rw[EM]at s y A;(have RE:(0:Int)<=(k:Int):=by omega);(have QQ:(k:Int)<(Z cs:Int):=by omega);have Ix:=Ab EM;obtain⟨c,P⟩:∃c:A6,c=⟨a,U S (Z a.args) N,U H0 (Z x) HV,x,a5⟩:=⟨_,rfl⟩;rw[<-P]at s y A;(have A2:Ak c=x.map Prod.fst:=by rw[P];rfl);(have B2:c.bl=x:=by rw[P]);(have A1:c.head=a:=by rw[P]);(have LB:Z fs<=6912:=by have:=F.len _ HJ;rw[ie]at this;exact this);have FA:=Ab (YA H0 HV x G E fs wr HE.body HE.lits (HL.kept d) (by have:=F.body c s;rw[B2]at this;exact this) LB (by have:=F.args c s;rw[B2]at this;exact this) (by have:=F.lit _ HJ c s;rw[A2,B2]at this;exact this));have B9:Hid (∀e∈BW (x.map Prod.fst) (fs.map Dr.f),OA (AB e a)/\Z e=26):=by
    intro e z;have h1:=F.fact _ HJ c s e (by rw[A2];exact z);rw[A1]at h1;exact⟨h1,ZY e z⟩
   (have FC:Hid ((∀t∈a.args,Oz t)/\Z a.args<=1000):=by have:=F.head c s;rw[A1]at this;exact this);(have HQ:JT (fs.map Dr.f) c=(BW (x.map Prod.fst) (fs.map Dr.f)).all λe=>D9 (fs.map Dr.f) (AB e a):=by unfold JT;rw[A2,A1]);rw[HQ]at y A;obtain⟨j,HP⟩:∃j,BW (x.map Prod.fst) (fs.map Dr.f)=j:=⟨_,rfl⟩;rw[HP]at FA B9 y A;clear HC EM HE s P A2 B2 A1 HP HQ;(go_wp2_with fail);refine FA.mono ?_;rintro _ w5 ⟨Op,SB,rfl,HI,k5⟩;have FL:=Ab HI;have R:=Ab (d.trans k5);clear FA HI k5 d p0 d0 d1 d2 d3;go_wp2_with fail
   go_loopg [7] (Z j) (λgk i wr=>∃(m:Nat),i=X .i64 m/\m<=Z j/\gk=Z j-m/\Hid ((j.take m).all (λe=>D9 (fs.map Dr.f) (AB e a))=j1)/\Hid (Ac [] w5 wr))
   case atStart=>exact⟨0,rfl,by omega,rfl,rfl,me _ _⟩
   case round=>
    obtain⟨m,rfl,hm,HY,HA,d⟩:=hrel;have LL:=Ab HY;clear HY;by_cases Q:m<Z j
    .obtain⟨gl,SL,H2,RO,r0⟩:=Ot (FL.kept d (by simp)) m Q;simp only[gM]at H2;obtain⟨rfl,_,rfl⟩:=H2;have B:=Ab (Vr (λe=>D9 (fs.map Dr.f) (AB e a)) j m Q HA);have D:=Ab (cT (λe=>D9 (fs.map Dr.f) (AB e a)) j m Q);obtain⟨e,z⟩:∃e,j[m]=e:=⟨_,rfl⟩;obtain⟨HW,HZ⟩:=B9 e (by rw[<-z];exact gL Q);have CC:=Ab HW;rw[z]at B D;have NM:=dW FL.row;(have NB:(0:Int)<=(m:Int):=by omega);(have Pl:(m:Int)<(Z j:Int):=by omega);have M:Hid (∀b,Ac [] wr b->Calls prog 48 #[.agg (Aj e).toArray,.agg #[O a.name,U S (Z a.args) N,X .i64 a.at_]] b λr u=>∃l n,r=.returned (.agg (CN ⟨AB e a,U l (Z a.args) n⟩).toArray)/\Gu u ⟨AB e a,U l (Z a.args) n⟩/\(∀q,(U l (Z a.args) n).ownBlock=V q->b.heap.size<=q)/\Ac [] b u):=by
      intro b o;have HU:=(FB.kept ((R.trans d).trans o)).each _ (gL C);rw[Aa Ix]at HU;exact Nw e a S N b HZ HU.args FC.2 FC.1
     have Bx:Hid (∀b,Ac [] wr b->b.rangeAt gl (m*26) (Aj e)/\b.cell? ⟨pb,0,Y⟩=V (U (V ⟨g,0,Y⟩) (Z cs) A0)/\b.cell? ⟨g,k*5,Y⟩=V (O a.name)/\b.cell? ⟨g,k*5+1,Y⟩=V (U S (Z a.args) N)/\b.cell? ⟨g,k*5+2,Y⟩=V (X .i64 a.at_)):=by
      intro b o;have IS:=(R.trans d).trans o;obtain⟨g',NY,NV,NX,RT,RV,NN,Os,NS,H6,FO,_,f0,f1,f2,f3⟩:=Sw (FB.kept IS) k C;simp only[gM,gT,iL]at H6;obtain⟨⟨rfl,_,_⟩,_,_⟩:=H6;rw[Aa Ix]at FO;simp only[A6.mk.injEq,gM]at FO;obtain⟨rfl,⟨rfl,_,rfl⟩,_⟩:=FO;have q0:=(KS.kept IS (by simp)).cell 0;simp at q0;obtain⟨g',OH,HH,_,r'⟩:=Ot (FL.kept (d.trans o) (by simp)) m Q;simp only[gM,gT,iL]at HH;obtain⟨⟨rfl,_,_⟩,_,_⟩:=HH;rw[z]at r';exact⟨r',q0,f0,f1,f2⟩
     clear z r0 HA HW;have B0:Hid (∀v b,Ac [] wr b->Gu b ⟨AB e a,v⟩->Calls prog 21 #[U G (Z fs) E,.agg (CN ⟨AB e a,v⟩).toArray] b λe' u=>e'=.returned (.bool (D9 (fs.map Dr.f) (AB e a)))/\Ac [] b u):=by
      intro v b o AO;have h:=US G E fs ⟨AB e a,v⟩ b (HL.kept ((R.trans d).trans o)) AO (by omega) CC;(have hh:(fs.any λp=>GK p.f (AB e a))=D9 (fs.map Dr.f) (AB e a):=by unfold D9;rw[lk];rfl);rw[hh]at h;exact h
     (have L:Hid (∀l n,CN ⟨AB e a,U l (Z a.args) n⟩=[O a.name,U l (Z a.args) n]):=λl n=>rfl);obtain⟨T,CL⟩:∃T,Aj e=T:=⟨_,rfl⟩;(have Nd:Z T=26:=by rw[<-CL,De,HZ]);rw[CL]at M Bx;generalize AB e a=FP at M B D B0 L CC;clear CL;have hu:=underlying90;(have hi:(prog.info? 90).map (·.size)=V (Z T):=by rw[Nd];exact Tryz.zK);obtain⟨W,DT⟩:∃W,a.name=W:=⟨_,rfl⟩;obtain⟨ja,H4⟩:∃ja,a.at_=ja:=⟨_,rfl⟩;obtain⟨H,EX⟩:∃H,Z a.args=H:=⟨_,rfl⟩;rw[DT,H4,EX]at M Bx;rw[DT,EX]at L;obtain⟨HB,HG⟩:∃HB,D9 (fs.map Dr.f) FP=HB:=⟨_,rfl⟩;rw[HG]at B0 B D;have Jx:Hid (∀l n b,Ac [] wr b->Gu b ⟨FP,U l H n⟩->Calls prog 21 #[U G (Z fs) E,.agg #[O W,U l H n]] b λe' u=>e'=.returned (.bool HB)/\Ac [] b u):=λl n b h1 h2=>by
      have h:=B0 (U l H n) b h1 h2;rw[Aa L]at h;exact h
     clear DT H4 EX HG B0;go_wp2_with fail
     go_region_held3 (λb=>Ac [] wr b/\b.rangeAt gl (m*26) T/\b.cell? ⟨pb,0,Y⟩=V (U (V ⟨g,0,Y⟩) (Z cs) A0)/\b.cell? ⟨g,k*5,Y⟩=V (O W)/\b.cell? ⟨g,k*5+1,Y⟩=V (U S H N)/\b.cell? ⟨g,k*5+2,Y⟩=V (X .i64 ja)) ((go_split_ands;refine(fun(o:Ac [] wr _)=>And.intro o (Bx _ o)) ?_;repeat (first|assumption|exact me [] _|refine Ac.drew ?_|refine Ac.alloc ?_ _))) (first|(go_at_call 48;refine(M _ (by go_split_ands;assumption)).mono ?_;rintro _ w3 ⟨RB,QR,rfl,AO,MB,k3⟩;rw[Aa L];have M3:Ac [] wr w3:=(by go_split_ands;exact Ac.trans (by assumption) k3);have HR:=Ab AO;clear k3 AO MB)|(go_at_call 21;refine(Jx _ _ _ (by go_split_ands;assumption) HR).mono ?_;rintro _ w4 ⟨rfl,k4⟩;have KK:Ac [] wr w4:=(by go_split_ands;exact Ac.trans (by assumption) k4);clear k4))
     rename_i M1;clear M1;have Go:=Ab (d.trans KK);clear M3 KK HR M Bx Jx CC L B9 FC;cases HB with
     |true=>
      have HF:Hid ((j.take (m+1)).all (λe=>D9 (fs.map Dr.f) (AB e a))=j1):=B;clear B D d;go_wp2
      go_roundg (Z j-(m+1))
      case measure=>have:=Aa LL;omega
      case rel=>exact⟨m+1,by go_num,by omega,rfl,HF,Go⟩
     |false=>
      have HF:Hid (I=K):=HS.symm.trans (A (D rfl));have Ha:=Ab (R.trans Go);clear B D d y A Go;go_wp2;go_ret;exact⟨by rw[Aa HF];rfl,Ha⟩
    .have HN:Hid (j.all (λe=>D9 (fs.map Dr.f) (AB e a))=j1):=by
      have h:=Aa HA
      rwa [gR (by omega)]at h
     have Nx:Hid ((cs.take (k+1)).all (JT (fs.map Dr.f))=j1):=y.trans HN;have Ha:=Ab (R.trans d);clear HA HN y A;go_wp2
     go_roundg (Z cs-(k+1))
     case measure=>have:=Aa M0;omega
     case rel=>exact⟨k+1,by go_num,by omega,rfl,Nx,Ha⟩
  .have HT:Hid (I=j1):=by
    have h:=Aa HC;rw[gR (by omega)]at h;exact HS.symm.trans h
   clear HC;go_wp2;go_ret;exact⟨by rw[Aa HT];rfl,d⟩
def Rj(cs:mc A6)(s:mc Af):Prop:=Ef s/\∀f∈s,DP cs f
def Il.zh{cs:mc A6}{a:zA->Nat}{n:Nat}{s:mc Af}(h:Il cs a n s):Rj cs s:=⟨h.zL,h.zZ⟩
def CS.small{cs:mc A6}(h:CS cs):Z cs<=12/\∀c∈cs,Z c.bl<=3/\Z c.head.args<=2/\∀p∈c.bl,BC p=K:=by
 have d:∀k (b:k<Z cs),k<12/\cs[k].bl.length<=3/\cs[k].head.args.length<=2/\∀p∈cs[k].bl,BC p=K:=by
  intro k b;have a:=h.each k b;unfold B1 at a;by_cases e:12<=k\/3<cs[k].bl.length
  .rw[gY e]at a;cases a
  rw[gV e]at a;by_cases f:2<cs[k].head.args.length
  .rw[gY f]at a;cases a
  rw[gV f]at a;cases a3:cs[k].bl.any BC with
  |true=>rw[a3,gY rfl]at a;cases a
  |false=>
   refine⟨by omega,by omega,by omega,λp g=>?_⟩;rw[ju]at a3;cases hm:BC p with
   |false=>rfl
   |true=>exact absurd hm (a3 p g)
 refine⟨?_,λc j=>?_⟩
 .by_cases i:Z cs<=12
  .exact i
  .have:=(d 12 (by omega)).1;omega
 .obtain⟨k,b,rfl⟩:=iF j;exact(d k b).2
def V0(cs:mc A6)(h:∀c∈cs,Z c.head.args<=2):Z (consts cs)<=Z cs*2:=by
 unfold consts
 induction cs with
 |nil=>simp
 |cons c cs ih=>
  have f:=ih (λd a=>h d (iB _ a));have b:=h c (iV ..);have e:=jn (λt:AE=>t.v==0) c.head.args;simp only[il,ib,ie,gW];omega
def LD(l:mc zA):∀n,Z (Ic l n)=Z l^n
 |0=>rfl
 |n+1=>by
  have ih:=LD l n;unfold Ic;have:∀m:mc zA,Z (m.flatMap λx=>(Ic l n).map (x:: ·))=Z m*Z l^n:=by
   intro m
   induction m with
   |nil=>simp
   |cons x m ih2=>
    simp only[il,ib,ie,ih2,ih,gW,jS,Nat.one_mul];omega
  rw[this l,Nat.pow_succ,Nat.mul_comm]
def QA{cs:mc A6}(l:Z cs<=12)(h:∀c∈cs,Z c.head.args<=2):Z (UZ cs)<=6912:=by
 have i:Z (consts cs)<=24:=by have:=V0 cs h;omega
 have f:∀n,n<=2->Z (Ic (consts cs) n)<=576:=by
  intro n j;rw[LD]
  match n,j with
  |0,_=>simp
  |1,_=>simp;omega
  |2,_=>
   have:Z (consts cs)^2<=24^2:=Nat.pow_le_pow_left i 2;omega
 have e:∀a:mc A6,(∀c∈a,Z c.head.args<=2)->Z (a.flatMap λc=>(Ic (consts cs) (Z c.head.args)).map (Af.mk c.head.name))<=Z a*576:=by
  intro a
  induction a with
  |nil=>simp
  |cons c a ih=>
   intro b;have m:=ih (λd g=>b d (iB _ g));have k:=f _ (b c (iV ..));simp only[il,ib,ie,gW,jS,Nat.one_mul];omega
 have:=e cs h;unfold UZ;omega
def Og{cs:mc A6}(hF:ak cs):∀x∈consts cs,0<x.size/\x.size<=1000000:=by
 intro x a;unfold consts at a;obtain⟨c,g,b⟩:=iI.1 a;obtain⟨t,f,rfl⟩:=gX.1 b;obtain⟨e,d⟩:=ir.1 f;exact(hF.full c g).head t e (by simpa using d)
def CX.fit{t:AE}(h:CX t):Oz t:=by
 rcases h with h|h
 .exact Or.inl h.1
 .exact Or.inr ⟨h.1,h.2.1⟩
def Dn.fit{cs:mc A6}(h:Dn cs)(hF:ak cs):cP cs (Rj cs):=by
 obtain⟨Q,q⟩:=h.order.small;have E:∀s,Rj cs s->∀f∈s,Kx f:=λs b f l=>AJ.zM ((b.2 f l).canon h.prog.zN)
 have S:∀s,Rj cs s->∀c∈cs,∀e∈(Ak c).foldl (CW s) [Bs],∀t,FK (Ak c) t->t.v≠0->0<(AR e t).size/\(AR e t).size<=1000000:=by
  intro s b c a e d t g i;obtain⟨_,_,_,_,D⟩:=Eo (E s b) (Ak c) [Bs] (λe d=>by simp at d;rw[d];rfl) (h.prog.zM.args c a) e d;rcases g with j|⟨y,W,n,u,hu,AO⟩
  .exact absurd j i
  .have j:=(b.2 _ (D y W n).1).args (AR e u) (it hu);have m:=Og hF _ j;(have F:AR e u=AR e t:=by unfold AR;rw[AO,gV i,gV i]);rw[F]at m;exact m
 have H:∀s,Rj cs s->∀c∈cs,∀e∈(Ak c).foldl (CW s) [Bs],∀p∈c.bl,∀t∈A4 p,FK (Ak c) t->0<(AR e t).size/\(AR e t).size<=1000000:=by
  intro s b c a e d p k t g D;by_cases i:t.v=0
  .have j:=(hF.full c a).body p k t g i;unfold AR;rw[gY i];exact j
  .exact S s b c a e d t D i
 refine⟨λs b=>?_,λc a=>(q c a).1,λc a p k n=>?_,λs b c a e d p k n=>?_,λc a=>⟨λt g=>((h.zN c a).args t g).fit,by have:=(q c a).2.1;omega⟩,λs b c a e d=>?_,λT s i b c a e d=>?_⟩
 .have:=Ju s (UZ cs) (b.1.nodup λf l=>(b.2 f l).canon h.prog.zN) λf l=>(b.2 f l).mem
  have:=QA Q (λc a=>(q c a).2.1);omega
 .have r:=(q c a).2.2 p k;refine⟨h.prog.zM.args c a p.1 (it k) n,?_⟩;unfold BC at r;have m:¬2<Z p.1.A.args:=of_decide_eq_false r;omega
 .have r:=(q c a).2.2 p k;unfold BC at r;have m:¬2<Z p.1.A.args:=of_decide_eq_false r;have N:p.1∈Ak c:=it k;have o:=h.lits c a p.1 N;have I:=h.prog.zM.safe c a p.1 N n;refine⟨λB=>?_,λz=>?_⟩
  ·(have C:(p.1.kind==33)=j1:=by rw[n]at B;simpa using B);unfold Do at o;rw[gY B]at o;(have w:A4 p=p.1.A.args:=by unfold A4 MT;rw[B];rfl);refine⟨λt g=>(o.args t g).fit,by omega,⟨by simp[AB];omega,λx G=>?_⟩⟩;obtain⟨t,g,rfl⟩:=gX.1 G;exact H s b c a e d p k t (by rw[w];exact g) (I.1 C t g)
  ·(have C:(p.1.kind==33)=K:=by rw[n]at z;simpa using z);unfold Do at o;rw[gV (by rw[z];simp)]at o;(have w:A4 p=[p.1.L,p.1.R]:=by unfold A4 MT;rw[z];rfl);have M:=H s b c a e d p k p.1.L (by rw[w];simp) (I.2 C).1;have P:=H s b c a e d p k p.1.R (by rw[w];simp) (I.2 C).2;exact⟨o.1.fit,o.2.1.fit,M.1,M.2,P.1,P.2⟩
 .have j:=Qk h.prog.zM b.2 (E s b) a d;refine⟨?_,λx G=>Og hF x (j.args x G)⟩;have:=(q c a).2.1;simp[AB];omega
 .have j:=Qk h.prog.zM i.2 (E T i) a d;have m:=Dg (j.canon h.prog.zN) b.1 (λf l=>(b.2 f l).canon h.prog.zN);refine⟨m.1,λf l=>?_⟩;rcases(m.2.2 f).1 l with F|rfl
  .exact b.2 f F
  .exact j
def Ph(s:zA)(at_:Nat)(a:Bool):(AY s at_ a).1.size<=s.size:=by
 unfold AY;split
 .exact ik _
 .split
  .exact ik _
  .rw[iW];omega
def XJ(s:zA)(t:zA)(er:Int):Prop:=
 (er≠0->t=ByteArray.empty)/\
 (er=0->∃(cs:mc A6) (fs:mc Dr),cs.map A6.erase=(Ap s (Ae s 0)).1/\Dn cs/\(∀c∈cs,c.head.args≠[])/\Il cs (DH cs 6) 7 (fs.map Dr.f)/\t=ed ByteArray.empty fs)
