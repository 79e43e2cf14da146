import Derived.Test.YtoihbhenbmffcaaGreatDoorYAM
import Derived.Test.YtoihbhenbmffcaaGreatDoorYAC
set_option linter.all false
set_option maxHeartbeats 0
open List renaming length->Z
open Option renaming none->Y,some->V
open Go.Value renaming slice->U,int->X,string->O,pointer->j3,bool->jJ
open Bool renaming false->K,true->jj
open Go.IntKind renaming i64->J
open Go.Obj renaming cells->j1
open Go.Ending renaming returned->j4
open Or renaming inr->j6
open Go renaming World->j7,Value->j8
open Go.RowKit renaming Hid->j9
open Go.World renaming ownsRow->jG
open Prod renaming fst->jM
namespace Go.Proofs.YtoihbhenbmffcaaGreatDoor
open Go.RowKit Go.Proofs.Tryz
theorem Tryz.info95:(Tryz.prog.info? 95).map (λi=>(i.zero,i.size,i.bytes))=V (V (.agg #[X .u8 0,O ⟨#[]⟩,U Y 0 0,X J 0,X .u8 0,O ⟨#[]⟩,X .u8 0,O ⟨#[]⟩,X J 0]),9,112):=by kernel_rfl
abbrev Bw:=BF×j8
def Dk(l:List Bw):List j8:=l.flatMap λp=>Cs p.1 p.2
def Cv(w:j7)(base:Nat)(p:Bw):Prop:=jG w base 93 2 p.2 (Z p.1.A.args) (p.1.A.args.flatMap AQ)
def Cv.kept{M:List Nat}{w w':j7}{base:Nat}{p:Bw}(h:Cv w base p)(k:Ac M w w')(a:∀i,i∈M->i<base):Cv w' base p:=Ad h k a
def Cv.grown{w w':j7}{base:Nat}{p:Bw}{a:j8}(h:Cv w base p)(k:w.grownBy w' a.ownBlock)(b:B1 p.2 a):Cv w' base p:=
 fT (v:=p.2) h k (by
  cases hv:p.2.ownBlock with
  |none=>exact Or.inl rfl
  |some k=>exact j6 (λe=>b k hv e.symm))
def Cv.alloc{w:j7}{base:Nat}{p:Bw}(h:Cv w base p)(o:Obj):Cv (w.alloc o) base p:=eC h o
set_option maxRecDepth 100000
theorem aj(b:Nat)(s:g0)(at_:Nat)(w:j7)(hs:s.size<=1000000)(HM:at_<=s.size)(hB:AI w b (BK s at_ K) 73):
  Calls prog 81 #[j3 (V ⟨b,0,Y⟩)] w λe T=>∃(bv:j8) (W:List Bw),e=j4 bv/\W.map jM=(C5 s at_).1/\
   jG T w.heap.size 95 9 bv (Z W) (Dk W)/\(∀p∈W,Cv T w.heap.size p)/\AI T b (BK s (C5 s at_).2.1 (C5 s at_).2.2) 73/\Ac [b] w T:=by
 obtain⟨i0,HK,Go,HO,HG⟩:=fC Tryz.info95;have HV:=hB.lt;obtain⟨L,u,n,hL⟩:∃L u n,C5 s at_=(L,u,n):=⟨_,_,_,rfl⟩;rw[hL];have HL:j9 (C5 s at_=(L,u,n)):=hL;clear hL;go_enter func81,ntmps81;go_wp2_with fail
 go_loopg [3,4] (2*(s.size-at_)+1) (λk l HF wr=>∃(q i:Bool) (a:Nat) (c:List Bw),HF=jJ q/\a<=s.size/\Z c<=a+1/\((q&& !i)=jj->Z c<=a)/\
  k=2*(s.size-a)+(if(q&& !i)=jj then 1 else 0)/\j9 (D3 s q i a (c.map jM) (L,u,n))/\AI wr b (BK s a i) 73/\
  jG wr w.heap.size 95 9 l (Z c) (Dk c)/\j9 (∀p∈c,Cv wr w.heap.size p/\B1 p.2 l)/\Ac [b] w wr)
 case atStart=>
  refine⟨jj,K,at_,[],rfl,HM,by simp,by simp,by simp,?_,hB,eU _ _ _ _,λp f=>by simp at f,Ac.refl _ _⟩;show D3 _ _ _ _ _ _;unfold D3;simp[HL.out]
 case round=>
  obtain⟨q,i,a,c,rfl,ha,Bx,S,z,y,x,j,AB,C⟩:=hrel;have I:j9 (gk=2*(s.size-a)+(if(q&& !i)=jj then 1 else 0)):=z;clear z;obtain⟨ad,cp,rfl⟩:=Ce j;cases q with
  |false=>
   have D:=y.out.done rfl;have HD:j9 (c.map jM=L/\a=u/\i=n):=D;clear Bx S I y D;go_wp2;go_ret;obtain⟨d1,d2,d3⟩:=HD.out;subst d2 d3;exact⟨_,c,rfl,d1,j,λp f=>(AB.out p f).1,x,C⟩
  |true=>
   cases i with
   |true=>
    have D:=y.out.done rfl;have HD:j9 (c.map jM=L/\a=u/\jj=n):=D;have BA:=x.cell 2;simp[BK]at BA;clear Bx S I y D;go_wp2;go_ret;obtain⟨d1,d2,d3⟩:=HD.out;subst d2 d3;exact⟨_,c,rfl,d1,j,λp f=>(AB.out p f).1,x,C⟩
   |false=>
    have BA:=x.cell 2;simp[BK]at BA;have HY:=x.lt;have HB:Z c<=a:=S rfl;clear Bx S;obtain⟨t,h,d,H⟩:∃t h d,Dd s a=(t,h,d):=⟨_,_,_,rfl⟩;(have HT:h<=s.size:=by have:=KD s a ha;rw[H]at this;exact this);have HS:=y.out.step H ha (by simpa using HB);obtain⟨m,hm⟩:∃m,(!d&&DS s (AN s h d) 44)=m:=⟨_,rfl⟩;obtain⟨g,EK⟩:∃g,BZ s h d 44=g:=⟨_,rfl⟩;rw[hm,EK]at HS;obtain⟨q1,R,M,q4,P⟩:=HS;have B:j9 (Dd s a=(t,h,d)/\(!d&&DS s (AN s h d) 44)=m/\BZ s h d 44=g/\g<=s.size/\Z (c.map jM++[t])<=g+1/\((m&& !d)=jj->Z (c.map jM++[t])<=g)/\2*(s.size-g)+(if(m&& !d)=jj then 1 else 0)<gk/\D3 s m d g (c.map jM++[t]) (L,u,n)):=
     ⟨H,hm,EK,q1,R,M,by have:=I.out;simp at this;omega,P⟩
    clear H hm EK q1 R M q4 P I y;(go_wp2_with fail);refine(bM b s a _ hs ha x).mono ?_;rintro e Q ⟨av,rfl,r,A0,G⟩;rw[B.out.1]at A0 r⊢;obtain⟨v,o,rfl⟩:=Ce r;have FP:=Ad j G (by simp;omega);have HA:=G.size;have FT:=C.size;simp only[Cs];simp only at r;go_wp2_with (at_builtin;refine eP _ rfl _ _ _ rfl w.heap.size 95 i0 _ 9 112 underlying80 HK Go HO HG rfl (by omega) (U ad (Z c) cp) (Z c) (Dk c) rfl (FP.alloc _) ⟨Q.heap.size,0,Y⟩ 1 1 (Cs t (U v (Z t.A.args) o)) rfl rfl (eS (cs:=(Cs t (U v (Z t.A.args) o)).toArray) (t:=95) (fr:=(0,0)) (fe Q _)) (by simp[Value.oneCell',Cs]) (by omega) (by unfold maxLen;omega) (by omega) (by simp;omega) (Q.heap.size+1) (by simp) ?_;intro gg FL w5 CC E CL HX)
    have HW:=(CC.lt gg rfl).1;have FO:=(A0.alloc _).grown E (by have:=A4 j b (by omega);simpa using this);have EM:=((C.trans G).alloc _).grown E (λk z=>j6 ((j.lt k z).1));have B2:j9 (∀p∈c++[(t,(U v (Z t.A.args) o:j8))],Cv w5 w.heap.size p/\B1 p.2 (U (V ⟨gg,0,Y⟩) (Z c+1) FL)):=by
     intro p f;rcases eG.1 f with f|f
     .obtain⟨h1,F⟩:=AB.out p f;have AH:=h1.kept G (by simp;omega);exact⟨(AH.alloc _).grown E F,B1.zd F AH CL (by omega)⟩
     .simp only[ex]at f;subst f;have F:B1 (U v (Z t.A.args) o) (U ad (Z c) cp):=by
       intro k z he;have:=(r.lt k z).1;have:=(j.lt k he).2;omega
      have AH:Cv Q w.heap.size (t,U v (Z t.A.args) o):=Am r (by omega);exact⟨(AH.alloc _).grown E F,B1.zd F r CL (by omega)⟩
    clear AB r A0 G FP E CL j x C HA FT;(go_wp2_with fail);refine(LW b s h d 44 44 _ rfl hs HT FO).mono ?_;rintro e w6 ⟨rfl,FB,N⟩;have FW:=Ad CC N (by simp;omega);have HE:=EM.trans N;have HI:j9 (∀p∈c++[(t,(U v (Z t.A.args) o:j8))],Cv w6 w.heap.size p/\B1 p.2 (U (V ⟨gg,0,Y⟩) (Z c+1) FL)):=
     λp f=>⟨(B2.out p f).1.kept N (by simp;omega),(B2.out p f).2⟩
    rw[B.out.2.2.1]at FB;rw[B.out.2.1];clear FO EM N CC B2;go_wp2_with fail
    go_roundg (2*(s.size-g)+(if(m&& !d)=jj then 1 else 0))
    case measure=>exact B.out.2.2.2.2.2.2.1
    case rel=>
     obtain⟨_,_,_,q1,R,M,_,P⟩:=B.out;refine⟨m,d,g,c++[(t,U v (Z t.A.args) o)],rfl,q1,by simpa using R,by simpa using M,rfl,?_,FB,?_,HI,HE⟩
     .show D3 _ _ _ _ _ _;simpa using P
     .simpa[Dk] using FW
structure CA where
 head:Dj
 body:List BF
 at_:Nat
def CH(c:CA)(hv bv:j8):List j8:=[O c.head.name,hv,X J c.head.at_,bv,X J c.at_]
def Dz(s:g0)(a1:Nat)(b1:Bool):List BF×Nat×Bool:=
 if !b1&&DS s (AN s a1 b1) 58 then(if DS s (BZ s a1 b1 58) 45 then C5 s (BZ s a1 b1 58+1)else([],BZ s a1 b1 58,jj))else([],BZ s a1 b1 58,b1)
def Ao(s:g0)(at_:Nat):CA×Nat×Bool:=
 let A:=AR s (Ae s at_) K
 let B:=Dz s A.2.1 A.2.2
 (⟨A.1,B.1,Ae s at_⟩,Bl s B.2.1 B.2.2 46)
theorem Wb(b:Nat)(s:g0)(at_ j:Nat)(w:j7)(A:Dj)(n g a3:Nat)(f b3:Bool)(L:List BF)(a4:Nat)(b4:Bool)(hs:s.size<=1000000)(HY:at_<=s.size)
  (k:j9 (Ae s at_=j/\AR s j K=(A,n,f)/\BZ s n f 58=g/\Dz s n f=(L,a3,b3)/\Bl s a3 b3 46=(a4,b4))) (hB:AI w b (BK s at_ K) 73):
  Calls prog 44 #[j3 (V ⟨b,0,Y⟩)] w λe w'=>∃(hv bv:j8) (a:List Bw),e=j4 (.agg (CH ⟨A,L,j⟩ hv bv).toArray)/\jG w' w.heap.size 93 2 hv (Z A.args) (A.args.flatMap AQ)/\
   a.map jM=L/\jG w' w.heap.size 95 9 bv (Z a) (Dk a)/\(∀p∈a,Cv w' w.heap.size p)/\AI w' b (BK s a4 b4) 73/\Ac [b] w w':=by
 have LE:=hB.lt;have HZ:j<=s.size:=by have:=Bn s at_ HY;have:=k.out.1;omega
 have HG:n<=s.size:=by have:=Io s j K HZ;rw[k.out.2.1]at this;exact this
 have HC:g<=s.size:=by have:=Du s n f 58 HG;rw[k.out.2.2.1]at this;exact this
 go_enter func44,ntmps44;go_wp2_with fail
 refine(Ds b s at_ K _ hs HY (hB.alloc _)).mono ?_;rintro e w1 ⟨rfl,S,hK⟩;rw[show AN s at_ K=j from k.out.1]at S
 have hn:=(AI.new w _ _).kept hK (by simp;omega);have HK:=((Ac.refl [b] w).alloc _).trans hK;clear hB hK;have K7:=S.lt;have H9:=hn.lt;have u:=S.cell 1;simp[BK]at u;go_wp2_with fail
 refine(Px b s j K _ hs HZ (S.alloc _)).mono ?_;rintro e w2 ⟨hv,rfl,o,FP,BS⟩;rw[k.out.2.1]at FP o⊢;have B:=(AI.new w1 _ _).kept BS (by simp;omega);have H5:=(hn.alloc _).kept BS (by simp;omega);have HS:=(HK.alloc _).trans BS;have HP:=BS.size;simp only[fg]at o HP;obtain⟨N,hN⟩:∃N,w1.heap.size=N:=⟨_,rfl⟩;rw[hN]at B o HP⊢;have LB:b<N:=by omega
 have Mo:w.heap.size<N:=by omega
 clear HK S hn K7 H9 u BS hN;obtain⟨R,M,rfl⟩:=Ce o
 try simp only at o
 have e0:=B.cell 0;have e1:=B.cell 1;have e2:=B.cell 2;have HQ:=B.frozen;simp at e0 e1 e2;simp only[Cj];go_wp2_with fail
 have HI:=((FP.zA ⟨N,0,Y⟩ (by simp;omega) (O A.name)).zA ⟨N,1,Y⟩ (by simp;omega) (U R (Z A.args) M)).zA ⟨N,2,Y⟩ (by simp;omega) (X J A.at_);have FB:=((B.set 0 (O A.name)).set 1 (U R (Z A.args) M)).set 2 (X J A.at_);have H6:=((H5.zA ⟨N,0,Y⟩ (by simp;omega) (O A.name)).zA ⟨N,1,Y⟩ (by simp;omega) (U R (Z A.args) M)).zA ⟨N,2,Y⟩ (by simp;omega) (X J A.at_);have HN:=((HS.setCell (p:=⟨N,0,Y⟩) (by simp;omega) (O A.name)).setCell (p:=⟨N,1,Y⟩) (by simp;omega) (U R (Z A.args) M)).setCell (p:=⟨N,2,Y⟩) (by simp;omega) (X J A.at_);have H7:=Ag (Ag (Ag o (p:=⟨N,0,Y⟩) (by simpa using A4 o N (by omega)) (O A.name)) (p:=⟨N,1,Y⟩) (by simpa using A4 o N (by omega)) (U R (Z A.args) M)) (p:=⟨N,2,Y⟩) (by simpa using A4 o N (by omega)) (X J A.at_);simp only[ej,el]at FB;clear FP B H5 HS o e0 e1 e2 HQ;refine(LW b s n f 58 58 _ rfl hs HG HI).mono ?_;rintro e C ⟨rfl,d,A1⟩;rw[k.out.2.2.1]at d;have t:=FB.kept A1 (by simp;omega);have r:=H6.kept A1 (by simp;omega);have v:=HN.trans A1;have m:=Ad H7 A1 (by simp;omega);clear HI FB H6 HN H7 A1;have LL:=t.lt;have L0:=d.lt;have K9:=r.lt;have hQ:(!f&&DS s (AN s n f) 58)=K\/((!f&&DS s (AN s n f) 58)=jj/\¬g<s.size)\/((!f&&DS s (AN s n f) 58)=jj/\g<s.size/\DS s g 45=K)\/((!f&&DS s (AN s n f) 58)=jj/\DS s g 45=jj):=by
  cases(!f&&DS s (AN s n f) 58)<;>cases DS s g 45<;>simp
  omega
 rcases hQ with i|⟨i,BT⟩|⟨i,BT,q⟩|⟨i,q⟩
 case' inl=>
  rw[i];have c:=k.out.2.2.2.1;unfold Dz at c;rw[i,k.out.2.2.1]at c;simp only[ev,if_false,fo]at c;obtain⟨z,r2,r3⟩:=c;subst r2 r3;have CL:=HC;obtain⟨a,h⟩:∃a:List Bw,j9 (a.map jM=L)/\a=[]:=⟨[],by show _=_;rw[<-z];rfl,rfl⟩;have Q:=d;have P:=t;have AT:=r;have AB:=v;have Ax:=m;have W:jG C (N+1) 95 9 (U Y 0 0) (Z a) (Dk a):=by rw[h.2];exact eU _ _ _ _
  have A2:j9 (∀p∈a,Cv C (N+1) p):=by rw[h.2];intro p l;simp at l
  replace h:=h.1
  clear d t r v m z i
 case' inr.inl=>
  have Bx:f=K:=by cases f<;>simp_all
  subst Bx;rw[i];have c:=k.out.2.2.2.1;unfold Dz at c;rw[i,k.out.2.2.1]at c;simp only[if_true]at c;have G:=d.cell 0;have u:=d.cell 1;have F:=d.cell 2;have FF:=d.frozen;simp[BK]at G u F;have q:DS s g 45=K:=aX BT 45;rw[q]at c;simp only[ev,if_false,fo]at c;obtain⟨z,r2,r3⟩:=c;subst r2 r3;have CL:=HC;obtain⟨a,h⟩:∃a:List Bw,j9 (a.map jM=L)/\a=[]:=⟨[],by show _=_;rw[<-z];rfl,rfl⟩;clear z i;have LC:decide ((g:Int)<(s.size:Int))=K:=by simp;omega
  have MB:decide (g<s.size)=K:=by simp;omega
  go_wp2_with fail
  go_quiet (fail)
  have Q:=(d.drewN nq).set 2 (jJ jj);have P:=(t.drewN nq).zA ⟨b,2,Y⟩ (by simp;omega) (jJ jj);have AT:=(r.drewN nq).zA ⟨b,2,Y⟩ (by simp;omega) (jJ jj);have AB:=(v.drewN nq).setCell (p:=⟨b,2,Y⟩) (by simp) (jJ jj);have Ax:=Ag (Db m nq) (p:=⟨b,2,Y⟩) (by simpa using A4 m b (by omega)) (jJ jj);have W:jG ((C.drewN nq).setCell ⟨b,2,Y⟩ (jJ jj)) (N+1) 95 9 (U Y 0 0) (Z a) (Dk a):=by rw[h.2];exact eU _ _ _ _
  have A2:j9 (∀p∈a,Cv ((C.drewN nq).setCell ⟨b,2,Y⟩ (jJ jj)) (N+1) p):=by rw[h.2];intro p l;simp at l
  replace h:=h.1
  clear d t r v m
 case' inr.inr.inl=>
  have Bx:f=K:=by cases f<;>simp_all
  subst Bx;rw[i];have c:=k.out.2.2.2.1;unfold Dz at c;rw[i,k.out.2.2.1]at c;simp only[if_true]at c;have G:=d.cell 0;have u:=d.cell 1;have F:=d.cell 2;have FF:=d.frozen;simp[BK]at G u F;rw[q]at c;simp only[ev,if_false,fo]at c;obtain⟨z,r2,r3⟩:=c;subst r2 r3;have CL:=HC;obtain⟨a,h⟩:∃a:List Bw,j9 (a.map jM=L)/\a=[]:=⟨[],by show _=_;rw[<-z];rfl,rfl⟩;clear z i;have Ix:(g:Int)<(s.size:Int):=by omega
  have hq:((s[g].toNat:Int)==45)=K:=by rw[<-q];exact(Hy BT 45).symm
  go_wp2_with fail
  go_quiet (fail)
  have Q:=(d.drewN nq).set 2 (jJ jj);have P:=(t.drewN nq).zA ⟨b,2,Y⟩ (by simp;omega) (jJ jj);have AT:=(r.drewN nq).zA ⟨b,2,Y⟩ (by simp;omega) (jJ jj);have AB:=(v.drewN nq).setCell (p:=⟨b,2,Y⟩) (by simp) (jJ jj);have Ax:=Ag (Db m nq) (p:=⟨b,2,Y⟩) (by simpa using A4 m b (by omega)) (jJ jj);have W:jG ((C.drewN nq).setCell ⟨b,2,Y⟩ (jJ jj)) (N+1) 95 9 (U Y 0 0) (Z a) (Dk a):=by rw[h.2];exact eU _ _ _ _
  have A2:j9 (∀p∈a,Cv ((C.drewN nq).setCell ⟨b,2,Y⟩ (jJ jj)) (N+1) p):=by rw[h.2];intro p l;simp at l
  replace h:=h.1
  clear d t r v m
 case' inr.inr.inr=>
  have Bx:f=K:=by cases f<;>simp_all
  subst Bx;rw[i];have c:=k.out.2.2.2.1;unfold Dz at c;rw[i,k.out.2.2.1]at c;simp only[if_true]at c;have G:=d.cell 0;have u:=d.cell 1;have F:=d.cell 2;have FF:=d.frozen;simp[BK]at G u F;rw[q]at c;simp only[if_true]at c;have BT:=Fa q;have Ix:(g:Int)<(s.size:Int):=by omega
  have hq:((s[g].toNat:Int)==45)=jj:=by rw[<-q];exact(Hy BT 45).symm
  have CL:a3<=s.size:=by have:=Ux s (g+1) (by omega);rw[c]at this;exact this
  have HR:j9 (C5 s (g+1)=(L,a3,b3)):=c;clear c i q;go_wp2_with fail
  go_quiet (fail)
  clear hq;go_wp2_with fail
  refine(aj b s (g+1) _ hs (by omega) ((d.drewN nq).set 1 _)).mono ?_;rintro e w4 ⟨bv,a,rfl,FL,H4,H1,HF,E⟩;rw[HR.out]at HF FL;have h:j9 (a.map jM=L):=FL;have HA:=((t.drewN nq).zA ⟨b,1,Y⟩ (by simp;omega) _).kept E (by simp;omega);have HW:=((r.drewN nq).zA ⟨b,1,Y⟩ (by simp;omega) _).kept E (by simp;omega);have H2:=((v.drewN nq).setCell (p:=⟨b,1,Y⟩) (by simp) _).trans E;have Go:=Ad (Ag (Db m nq) (p:=⟨b,1,Y⟩) (by simpa using A4 m b (by omega)) _) E (by simp;omega);have B9:jG w4 (N+1) 95 9 bv (Z a) (Dk a):=Am H4 (by simp;omega);have FA:j9 (∀p∈a,Cv w4 (N+1) p):=λp l=>Am (H1 p l) (by simp;omega)
  have FC:=E.size;simp only[World.size_setCell]at FC;have K8:C.heap.size<=w4.heap.size:=FC;clear d t r v m E H4 H1 FL G u F FF FC;obtain⟨x,y,rfl⟩:=Ce B9;have e3:=HA.cell 3;have HQ:=HA.frozen 3;simp at e3;have Q:=HF.zA ⟨N,3,Y⟩ (by simp;omega) (U x (Z a) y);have P:=HA.set 3 (U x (Z a) y);have AT:=HW.zA ⟨N,3,Y⟩ (by simp;omega) (U x (Z a) y);have AB:=H2.setCell (p:=⟨N,3,Y⟩) (by simp;omega) (U x (Z a) y);have Ax:=Ag Go (p:=⟨N,3,Y⟩) (by simpa using A4 Go N (by omega)) (U x (Z a) y);have W:=Ag B9 (p:=⟨N,3,Y⟩) (by simpa using A4 B9 N (by omega)) (U x (Z a) y);have A2:j9 (∀p∈a,Cv (w4.setCell ⟨N,3,Y⟩ (U x (Z a) y)) (N+1) p):=λp l=>Ag (FA.out p l) (by simpa using A4 (FA.out p l) N (by omega)) _
  clear HF HW H2 Go B9 FA
 all_goals
  have LM:=Q.lt;have MN:=P.lt;go_wp2_with fail
  refine(Mi b s _ _ 46 46 _ rfl hs CL Q).mono ?_;rintro e w6 ⟨rfl,HT,D⟩;have DT:=k.out.2.2.2.2;simp only[Bl,fo]at DT;rw[DT.1,DT.2]at HT;have JJ:=P.kept D (by simp;omega);have FW:=AT.kept D (by simp;omega);have KA:=AB.trans D;have KK:=Ad Ax D (by simp;omega);have IJ:=Ad W D (by simp;omega);have K1:j9 (∀p∈a,Cv w6 (N+1) p):=λp l=>(A2.out p l).kept D (by simp;omega)
  clear Q P AT AB Ax W D DT A2;have H:=JJ.cell;have I:=FW.cell;have LS:=FW.frozen;have e0:=H 0;have e1:=H 1;have e2:=H 2;have e3:=H 3;have e4:=H 4;have f0:=I 0;have f1:=I 1;have f2:=I 2;have f3:=I 3;have f4:=I 4;simp at e0 e1 e2 e3 e4 f0 f1 f2 f3 f4;clear H I;go_wp2;have T:∀{v0 v1 v2 v3 v4:j8},Ac [w.heap.size] w6 (((((w6.setCell ⟨w.heap.size,0,Y⟩ v0).setCell ⟨w.heap.size,1,Y⟩ v1).setCell ⟨w.heap.size,2,Y⟩ v2).setCell ⟨w.heap.size,3,Y⟩ v3).setCell ⟨w.heap.size,4,Y⟩ v4):=by
   intro v0 v1 v2 v3 v4
   repeat (refine Ac.setCell ?_ (by simp) _)
   exact Ac.refl _ _
  refine eX (BQ rfl rfl (((((FW.set 0 _).set 1 _).set 2 _).set 3 _).set 4 _) underlying82 rfl (by kernel_rfl)) rfl ⟨U R (Z A.args) M,by first|exact U x (Z a) y|exact U Y 0 0,a,?_,?_,?_,?_,?_,?_,?_⟩
  .simp[CH]
  .exact Am (Ad KK T (by simp;omega)) (by omega)
  .exact h.out
  .exact Am (Ad IJ T (by simp;omega)) (by omega)
  .exact λp l=>Am ((K1.out p l).kept T (by simp;omega)) (by omega)
  .exact HT.kept T (by simp;omega)
  .exact KA.trans' T (by simp)
def Zs(s:g0)(a:Nat)(c:Bool)(h:a<=s.size):(Dz s a c).2.1<=s.size:=by
 have b:=Du s a c 58 h;unfold Dz;split
 .split
  .rename_i d;exact Ux _ _ (by have:=Fa d;omega)
  .exact b
 .exact b
def UA(s:g0)(a:Nat)(b:Bool):a<=(Dz s a b).2.1:=by
 have c:=D6 s a b 58;unfold Dz;split
 .split
  .have:=T7 s (BZ s a b 58+1);omega
  .exact c
 .exact c
def IL(s:g0)(at_:Nat)(h:at_<=s.size):(Ao s at_).2.1<=s.size:=by
 unfold Ao;simp only;exact Du _ _ _ _ (Zs _ _ _ (Io _ _ _ (Bn _ _ h)))
def OS{s:g0}{at_:Nat}(h:(Ao s at_).2.2=K):at_<(Ao s at_).2.1:=by
 unfold Ao at h⊢;simp only at h⊢;have a:=BR s at_;have b:=J2 s (Ae s at_) K;have d:=UA s (AR s (Ae s at_) K).2.1 (AR s (Ae s at_) K).2.2;have c:=Rg h;omega
def OJ(b:Nat)(s:g0)(at_:Nat)(w:j7)(x:s.size<=1000000)(v:at_<=s.size)(z:AI w b (BK s at_ K) 73):
  Calls prog 44 #[j3 (V ⟨b,0,Y⟩)] w λe g=>∃(r t:j8) (k:List Bw),e=j4 (.agg (CH (Ao s at_).1 r t).toArray)/\jG g w.heap.size 93 2 r (Z (Ao s at_).1.head.args) ((Ao s at_).1.head.args.flatMap AQ)/\
   k.map jM=(Ao s at_).1.body/\jG g w.heap.size 95 9 t (Z k) (Dk k)/\(∀p∈k,Cv g w.heap.size p)/\AI g b (BK s (Ao s at_).2.1 (Ao s at_).2.2) 73/\Ac [b] w g:=by
 obtain⟨j,q⟩:∃j,Ae s at_=j:=⟨_,rfl⟩;obtain⟨A,c,a,m⟩:∃A c a,AR s j K=(A,c,a):=⟨_,_,_,rfl⟩;obtain⟨l,y⟩:∃l,BZ s c a 58=l:=⟨_,rfl⟩;obtain⟨L,f,d,n⟩:∃L f d,Dz s c a=(L,f,d):=⟨_,_,_,rfl⟩;obtain⟨h,i,o⟩:∃h i,Bl s f d 46=(h,i):=⟨_,_,rfl⟩;have e:Ao s at_=(⟨A,L,j⟩,h,i):=by unfold Ao;simp only[q,m,n,o]
 rw[e];have u:j9 (Ae s at_=j/\AR s j K=(A,c,a)/\BZ s c a 58=l/\Dz s c a=(L,f,d)/\Bl s f d 46=(h,i)):=⟨q,m,y,n,o⟩;exact Wb b s at_ j w A c l f a d L h i x v u z
def DN(l:List g0)(x:g0):Bool:=l.any λy=>y.toList==x.toList
def Kl(l:List g0)(y x:g0):DN (l++[y]) x=(DN l x||(y.toList==x.toList)):=by simp[DN,jh]
def YZ{l:List g0}{k:Nat}(a:k<Z l)(x:g0):DN (l.take (k+1)) x=(DN (l.take k) x||(l[k].toList==x.toList)):=by
 rw[ep a,Kl]
def Zv{l:List g0}{k:Nat}(a:k<Z l){x:g0}(h:(l[k].toList==x.toList)=jj):DN l x=jj:=by
 unfold DN;rw[fW];exact⟨l[k],eo a,h⟩
set_option maxRecDepth 512
theorem Dt(d:j8)(l:List g0)(x:g0)(base:Nat)(w:j7)(b:jG w base 9 1 d (Z l) (l.flatMap Ah))(v:Z l<=1000000):
  Calls prog 50 #[d,O x] w λe m=>e=j4 (jJ (DN l x))/\m=w:=by
 obtain⟨y,s,rfl⟩:=Ak b;go_enter func50,ntmps50;go_wp2
 go_loop [5] (λi=>∃k:Nat,i=X J k/\k<=Z l/\j9 (DN (l.take k) x=K)) (λi=>Z l-(intOf i).toNat)
 case atStart=>exact⟨0,rfl,eV _,by show _=_;simp[DN]⟩
 case round=>
  obtain⟨k,rfl,r,j⟩:=hrel;by_cases a:k<Z l
  .obtain⟨g,t,c,u,f⟩:=AC b (by simp[Ah]) k a;simp only[ei]at c;obtain⟨rfl,_,rfl⟩:=c;have n:=f k a 0 (by omega);simp[Ah]at n;clear f;have q:j9 ((l[k].toList==x.toList)=jj->DN l x=jj):=Zv a;have o:j9 ((l[k].toList==x.toList)=K->DN (l.take (k+1)) x=K):=by
    intro h;rw[YZ a,j.out,h];rfl
   go_wp2
   .go_ret;rw[q.out (by assumption)];exact⟨rfl,rfl⟩
   .go_round
    case rel=>exact⟨k+1,by go_num,by omega,o.out (by assumption)⟩
    case measure=>simp[intOf];omega
  ·(have p:j9 (DN l x=K):=by have:=j.out;rwa [eu (by omega)]at this);go_wp2;go_ret;rw[p.out];exact⟨rfl,rfl⟩
structure A8 where
 head:Dj
 hv:j8
 bv:j8
 bl:List Bw
 at_:Nat
def BX(c:A8):List j8:=[O c.head.name,c.hv,X J c.head.at_,c.bv,X J c.at_]
def Bb(p:Bw):List j8:=Cs p.1 p.2
def BG(c:A8):Z (BX c)=5:=rfl
def BV(p:Bw):Z (Bb p)=9:=rfl
def FZ(t:AG):Z (AQ t)=2:=rfl
structure Uj(w:j7)(c:A8):Prop where
 args:jG w 0 93 2 c.hv (Z c.head.args) (c.head.args.flatMap AQ)
 body:jG w 0 95 9 c.bv (Z c.bl) (c.bl.flatMap Bb)
 lits:∀p∈c.bl,Cv w 0 p
structure Cn(w:j7)(lv:j8)(cs:List A8):Prop where
 row:jG w 0 82 5 lv (Z cs) (cs.flatMap BX)
 each:∀c∈cs,Uj w c
def Uj.kept{w w':j7}{c:A8}(h:Uj w c)(k:Ac [] w w'):Uj w' c:=
 ⟨Ad h.args k (by simp),Ad h.body k (by simp),λp a=>Ad (h.lits p a) k (by simp)⟩
def Cn.kept{w w':j7}{a:j8}{cs:List A8}(h:Cn w a cs)(k:Ac [] w w'):Cn w' a cs:=
 ⟨Ad h.row k (by simp),λc b=>(h.each c b).kept k⟩
def Oh(p:Bw):Bool:=p.1.kind==97||p.1.kind==33
def SM(bl:List Bw)(x:g0):Option Nat:=bl.findSome? λp=>if Oh p&&(p.1.A.name.toList==x.toList)then V (Z p.1.A.args) else Y
def GL(c:A8)(x:g0):Option Nat:=if c.head.name.toList==x.toList then V (Z c.head.args) else SM c.bl x
def Eb(cs:List A8)(x:g0):Int:=match cs.findSome? (GL · x)with|some n=>n|none=> -1
def Fw{α β:Type}(f:α->Option β)(l:List α)(k:Nat)(a:k<Z l)(b:(l.take k).findSome? f=Y):(l.take (k+1)).findSome? f=f l[k]:=by
 rw[ep a,ju,b];simp
def Gs{α β:Type}(f:α->Option β)(l:List α)(k:Nat)(a:k<Z l)(c:(l.take k).findSome? f=Y){b:β}(d:f l[k]=V b):l.findSome? f=V b:=by
 have h:=Fw f l k a c;rw[d]at h;have e:l=l.take (k+1)++l.drop (k+1):=(fH _ _).symm;rw[e,ju,h];rfl
def EN(p:Bw):(((p.1.kind.toNat:Int)==97)=jj/\Oh p=jj)\/(((p.1.kind.toNat:Int)==97)=K/\((p.1.kind.toNat:Int)==33)=jj/\Oh p=jj)\/
  (((p.1.kind.toNat:Int)==97)=K/\((p.1.kind.toNat:Int)==33)=K/\Oh p=K):=by
 have b:((p.1.kind.toNat:Int)==97)=(p.1.kind==97):=Cp _ 97;have a:((p.1.kind.toNat:Int)==33)=(p.1.kind==33):=Cp _ 33;rw[b,a];unfold Oh;cases(p.1.kind==97)<;>cases(p.1.kind==33)<;>simp
set_option maxRecDepth 100000
theorem MP(pb:Nat)(lv:j8)(cs:List A8)(x:g0)(w:j7)(hP:AI w pb [lv] 76)(I:Cn w lv cs)(HF:Z cs<=1000000)(Q:∀c∈cs,Z c.bl<=1000000):
  Calls prog 23 #[j3 (V ⟨pb,0,Y⟩),O x] w λe w'=>e=j4 (X J (Eb cs x))/\Ac [] w w':=by
 obtain⟨ad,EK,rfl⟩:=Ak I.row;have F:j9 (Cn w (U ad (Z cs) EK) cs/\∀c∈cs,Z c.bl<=1000000):=⟨I,Q⟩;clear I Q;go_enter func23,ntmps23;go_wp2
 go_loopw [5] (λi wr=>∃k:Nat,i=X J k/\k<=Z cs/\j9 ((cs.take k).findSome? (GL · x)=Y)/\Ac [] w wr) (λi _=>Z cs-(intOf i).toNat)
 case atStart=>exact⟨0,rfl,eV _,by show _=_;simp,Ac.refl _ _⟩
 case round=>
  obtain⟨k,rfl,hk,v,o⟩:=hrel;have y:=(hP.kept o (by simp)).cell 0;simp at y;by_cases d:k<Z cs
  .have E:=F.out.1.kept o;obtain⟨g,Go,he,hc,u⟩:=AC E.row (λc _=>BG c) k d;simp only[ei]at he;obtain⟨rfl,_,rfl⟩:=he;have R:=u k d 0 (by omega);have N:=u k d 1 (by omega);have s:=u k d 3 (by omega);simp[BX]at R N s;have l:=E.each cs[k] (eo d);have HI:=F.out.2 cs[k] (eo d);obtain⟨HH,FW,Bx⟩:=Ak l.args;obtain⟨B9,CL,B⟩:=Ak l.body;rw[Bx]at N;rw[B]at s;have B2:j9 (Uj wr cs[k]):=l;have AT:j9 (cs[k].bv=U B9 cs[k].bl.length CL):=B;clear u E l Bx B;cases hnm:(cs[k].head.name.toList==x.toList)with
   |true=>
    have L:j9 (Eb cs x=(cs[k].head.args.length:Int)):=by
     show _=_;unfold Eb;rw[Gs (GL · x) cs k d v.out (b:=cs[k].head.args.length) (by simp[GL,hnm])]
    go_wp2;go_ret;rw[L.out];exact⟨rfl,o⟩
   |false=>
    (have HA:j9 (GL cs[k] x=SM cs[k].bl x):=by show _=_;simp[GL,hnm]);go_wp2;clear R N
    go_loopw [6] (λi T=>∃m:Nat,i=X J m/\m<=cs[k].bl.length/\j9 ((cs[k].bl.take m).findSome? (λp=>if Oh p&&(p.1.A.name.toList==x.toList)then V (Z p.1.A.args) else Y)=Y)/\Ac [] w T) (λi _=>cs[k].bl.length-(intOf i).toNat)
    case atStart=>exact⟨0,rfl,eV _,by show _=_;simp,o⟩
    case round=>
     rename_i T _;obtain⟨m,rfl,hm,z,n⟩:=hrel;clear y s o B2;have y:=(hP.kept n (by simp)).cell 0;simp at y;have D:=F.out.1.kept n;obtain⟨g2,HG,A0,_,W⟩:=AC D.row (λc _=>BG c) k d;simp only[ei,eD,fm]at A0;obtain⟨⟨rfl,_,_⟩,_,rfl⟩:=A0;have s:=W k d 3 (by omega);simp[BX]at s;rw[AT.out]at s;have l:=D.each cs[k] (eo d);clear W D;by_cases a:m<cs[k].bl.length
     .obtain⟨gb,HK,M,FP,j⟩:=AC l.body (λc _=>BV c) m a;rw[AT.out]at M;simp only[ei]at M;obtain⟨rfl,_,rfl⟩:=M;have hl:=l.lits cs[k].bl[m] (eo a);obtain⟨HJ,FT,S⟩:=Ak hl;have d0:=j m a 0 (by omega);have d1:=j m a 1 (by omega);have P:=j m a 2 (by omega);have d3:=j m a 3 (by omega);have d4:=j m a 4 (by omega);have d5:=j m a 5 (by omega);have d6:=j m a 6 (by omega);have d7:=j m a 7 (by omega);have d8:=j m a 8 (by omega);simp[Bb,Cs]at d0 d1 P d3 d4 d5 d6 d7 d8;rw[S]at P;clear j hl S l;have r:j9 (Oh cs[k].bl[m]=K\/(cs[k].bl[m].1.A.name.toList==x.toList)=K->(cs[k].bl.take (m+1)).findSome? (λp=>if Oh p&&(p.1.A.name.toList==x.toList)then V (Z p.1.A.args) else Y)=Y):=by
       intro h;rw[Fw _ _ m a z.out];rcases h with h|h<;>simp[h]
      have q:j9 (Oh cs[k].bl[m]=jj->(cs[k].bl[m].1.A.name.toList==x.toList)=jj->Eb cs x=(cs[k].bl[m].1.A.args.length:Int)):=by
       intro h1 h2;have h3:=Gs (λp:Bw=>if Oh p&&(p.1.A.name.toList==x.toList)then V (Z p.1.A.args) else Y) cs[k].bl m a z.out (b:=cs[k].bl[m].1.A.args.length) (by simp[h1,h2]);(have h4:GL cs[k] x=V cs[k].bl[m].1.A.args.length:=by rw[HA.out];exact h3);unfold Eb;rw[Gs (GL · x) cs k d v.out h4]
      cases hnm2:(cs[k].bl[m].1.A.name.toList==x.toList)with
      |true=>
       rcases EN cs[k].bl[m] with⟨t,f⟩|⟨t,G,f⟩|⟨t,G,f⟩
       .have C:=Ab (q.out f hnm2);clear q r f;go_wp2;go_ret;rw[Aa C];exact⟨rfl,n.alloc _⟩
       .have C:=Ab (q.out f hnm2);clear q r f;go_wp2;go_ret;rw[Aa C];exact⟨rfl,n.alloc _⟩
       .have H:=Ab (r.out (Or.inl f));clear q r f;go_wp2
        go_roundw
        case rel=>exact⟨m+1,by go_num,by omega,H,n.alloc _⟩
        case measure=>simp[intOf];omega
      |false=>
       have H:=Ab (r.out (j6 hnm2));rcases EN cs[k].bl[m] with⟨t,f⟩|⟨t,G,f⟩|⟨t,G,f⟩;all_goals
        clear q r f;go_wp2
        go_roundw
        case rel=>exact⟨m+1,by go_num,by omega,H,n.alloc _⟩
        case measure=>simp[intOf];omega
     .have HZ:j9 ((cs.take (k+1)).findSome? (GL · x)=Y):=by
       show _=_;rw[Fw _ _ k d v.out];have h:=z.out;rw[eu (by omega)]at h;rw[HA.out];exact h
      go_wp2
      go_roundw
      case rel=>exact⟨k+1,by go_num,by omega,HZ,n⟩
      case measure=>simp[intOf];omega
  .have L:j9 (Eb cs x= -1):=by
    have h:=v.out;rw[eu (by omega)]at h;show _=_;unfold Eb;rw[h]
   go_wp2;go_ret;rw[L.out];exact⟨rfl,o⟩
def AS(p:Bw):List AG:=if Oh p then p.1.A.args else[p.1.L,p.1.R]
theorem Q1(p:Bw)(w:j7)(c:Cv w 0 p):
  Calls prog 131 #[.agg (Bb p).toArray] w λe k=>∃j,e=j4 j/\jG k 0 93 2 j (Z (AS p)) ((AS p).flatMap AQ)/\Ac [] w k:=by
 obtain⟨g,f,d⟩:=Ak c;simp only[Bb,Cs,d];rcases EN p with⟨i,b⟩|⟨i,l,b⟩|⟨i,l,b⟩
 .have a:j9 (AS p=p.1.A.args/\p.2=U g (Z p.1.A.args) f/\Cv w 0 p):=⟨by unfold AS;simp[b],d,c⟩;clear b d c;go_enter func131,ntmps131;go_wp2;go_ret;refine⟨_,rfl,?_,(Ac.refl _ _).alloc _⟩;rw[a.out.1];have h:jG w 0 93 2 _ _ _:=a.out.2.2;rw[a.out.2.1]at h;exact h.alloc _
 .have a:j9 (AS p=p.1.A.args/\p.2=U g (Z p.1.A.args) f/\Cv w 0 p):=⟨by unfold AS;simp[b],d,c⟩;clear b d c;go_enter func131,ntmps131;go_wp2;go_ret;refine⟨_,rfl,?_,(Ac.refl _ _).alloc _⟩;rw[a.out.1];have h:jG w 0 93 2 _ _ _:=a.out.2.2;rw[a.out.2.1]at h;exact h.alloc _
 .have a:j9 (AS p=[p.1.L,p.1.R]):=by show _=_;unfold AS;simp[b]
  clear b d c;go_enter func131,ntmps131;go_wp2;go_ret;refine⟨_,rfl,?_,((Ac.refl _ _).alloc _).alloc _⟩;rw[a.out];refine⟨rfl,j6 ⟨_,2,#[X .u8 p.1.L.v.toNat,O p.1.L.s,X .u8 p.1.R.v.toNat,O p.1.R.s],rfl,eV _,by have h:=fe (w.alloc (j1 #[X .u8 p.1.kind.toNat,O p.1.A.name,U g (Z p.1.A.args) f,X J p.1.A.at_,X .u8 p.1.L.v.toNat,O p.1.L.s,X .u8 p.1.R.v.toNat,O p.1.R.s,X J p.1.at_] 95)) (j1 #[X .u8 p.1.L.v.toNat,O p.1.L.s,X .u8 p.1.R.v.toNat,O p.1.R.s] 93);rw[fg]at h;exact h,by simp,by unfold maxLen;omega,rfl,?_⟩⟩;simp[AQ]
def Ql(l:List AG)(v:UInt8):Bool:=l.any λt=>t.v==v
def Ju(v:UInt8)(p:Bw):Bool:=p.1.kind==97&&Ql p.1.A.args v
def Jr(bl:List Bw)(v:UInt8):Bool:=bl.any (Ju v)
def CY{α:Type}(f:α->Bool)(l:List α)(k:Nat)(a:k<Z l)(b:(l.take k).any f=K):(l.take (k+1)).any f=f l[k]:=by
 rw[ep a,jh,b];simp
def Jf{α:Type}(f:α->Bool)(l:List α)(k:Nat)(a:k<Z l)(h:f l[k]=jj):l.any f=jj:=by
 rw[fW];exact⟨_,eo a,h⟩
theorem J7(I:j8)(a:List Bw)(n:Int)(v:UInt8)(w:j7)(W:n=v.toNat)(l:jG w 0 95 9 I (Z a) (a.flatMap Bb))(D:∀p∈a,Cv w 0 p)(Bx:Z a<=1000000)(H:∀p∈a,Z p.1.A.args<=1000000):
  Calls prog 132 #[I,X .u8 n] w λe L=>e=j4 (jJ (Jr a v))/\L=w:=by
 subst W;obtain⟨R,Q,rfl⟩:=Ak l;have o:j9 (jG w 0 95 9 (U R (Z a) Q) (Z a) (a.flatMap Bb)/\(∀p∈a,Cv w 0 p)/\(∀p∈a,Z p.1.A.args<=1000000)):=⟨l,D,H⟩;clear l D H;go_enter func132,ntmps132;go_wp2
 go_loop [5] (λi=>∃k:Nat,i=X J k/\k<=Z a/\j9 ((a.take k).any (Ju v)=K)) (λi=>Z a-(intOf i).toNat)
 case atStart=>exact⟨0,rfl,eV _,by show _=_;simp⟩
 case round=>
  obtain⟨k,rfl,hk,q⟩:=hrel;by_cases b:k<Z a
  .obtain⟨g,A1,G,hc,r⟩:=AC o.out.1 (λc _=>BV c) k b;simp only[ei]at G;obtain⟨rfl,_,rfl⟩:=G;have S:=r k b 0 (by omega);have y:=r k b 2 (by omega);simp[Bb,Cs]at S y;have s:=o.out.2.1 a[k] (eo b);have AT:=o.out.2.2 a[k] (eo b);obtain⟨T,M,j⟩:=Ak s;rw[j]at y;have HI:j9 (jG w 0 93 2 (U T a[k].1.A.args.length M) a[k].1.A.args.length (a[k].1.A.args.flatMap AQ)):=by
    have h:jG w 0 93 2 _ _ _:=s;rw[j]at h;exact h
   clear r s j;have F:((a[k].1.kind.toNat:Int)==97)=(a[k].1.kind==97):=Cp _ 97;cases hkd:(a[k].1.kind==97)with
   |false=>
    rw[hkd]at F;(have d:j9 ((a.take (k+1)).any (Ju v)=K):=by show _=_;rw[CY _ _ k b q.out];simp[Ju,hkd]);clear hkd;go_wp2
    go_loop [6] (λi=>i=X J 0) (λ_=>0)
    case atStart=>rfl
    case round=>
     subst hrel;go_wp2
     go_round
     case rel=>exact⟨k+1,by go_num,by omega,d⟩
     case measure=>simp[intOf];omega
   |true=>
    rw[hkd]at F;(have d:j9 (Ql a[k].1.A.args v=K->(a.take (k+1)).any (Ju v)=K):=by intro h;rw[CY _ _ k b q.out];simp[Ju,h]);(have u:j9 (Ql a[k].1.A.args v=jj->Jr a v=jj):=by intro h;exact Jf _ _ k b (by simp[Ju,hkd,h]));clear hkd;go_wp2
    go_loop [6] (λi=>∃m:Nat,i=X J m/\m<=a[k].1.A.args.length/\j9 ((a[k].1.A.args.take m).any (λt=>t.v==v)=K)) (λi=>a[k].1.A.args.length-(intOf i).toNat)
    case atStart=>exact⟨0,rfl,eV _,by show _=_;simp⟩
    case round=>
     obtain⟨m,rfl,hm,z⟩:=hrel;by_cases f:m<a[k].1.A.args.length
     .obtain⟨ga,BS,B,A0,E⟩:=AC HI.out (λc _=>FZ c) m f;simp only[ei]at B;obtain⟨rfl,_,rfl⟩:=B;have P:=E m f 0 (by omega);simp[AQ]at P;clear E;have C:((a[k].1.A.args[m].v.toNat:Int)==(v.toNat:Int))=(a[k].1.A.args[m].v==v):=Cp _ v;cases hv:(a[k].1.A.args[m].v==v)with
      |true=>
       rw[hv]at C;have N:=Ab (u.out (Jf _ _ m f hv));clear hv u d;go_wp2;go_ret;rw[Aa N];exact⟨rfl,rfl⟩
      |false=>
       rw[hv]at C;(have x:j9 ((a[k].1.A.args.take (m+1)).any (λt=>t.v==v)=K):=by show _=_;rw[CY _ _ m f z.out];exact hv);clear hv u d;go_wp2
       go_round
       case rel=>exact⟨m+1,by go_num,by omega,x⟩
       case measure=>simp[intOf];omega
     .have x:=Ab (d.out (by have h:=z.out;rwa [eu (by omega)]at h));go_wp2
      go_round
      case rel=>exact⟨k+1,by go_num,by omega,x⟩
      case measure=>simp[intOf];omega
  ·(have HE:j9 (Jr a v=K):=by have h:=q.out;rwa [eu (by omega)]at h);go_wp2;go_ret;rw[HE.out];exact⟨rfl,rfl⟩
def CB(bl:List Bw)(t:AG):Bool:= !(t.v==0||Jr bl t.v)
def IQ(bl:List Bw)(p:Bw):Bool:=(AS p).any (CB bl)
def Fz(head:Dj)(bl:List Bw):Int:=if head.args.any (CB bl)then head.at_ else match bl.find? (IQ bl)with|some p=>p.1.at_|none=> -1
def FJ{α:Type}(f:α->Bool)(l:List α)(k:Nat)(a:k<Z l)(d:(l.take k).any f=K)(h:f l[k]=jj):l.find? f=V l[k]:=by
 have e:l.find? f=(l.take k++l.drop k).find? f:=by rw[fH]
 rw[e,jm];have c:(l.take k).find? f=Y:=by
  rw[gV];intro x g b;have:(l.take k).any f=jj:=by rw[fW];exact⟨x,g,b⟩
  rw[d]at this;cases this
 rw[c,Option.none_or,eQ a,List.find?_cons_of_pos h]
theorem aD(b:Dj)(hv bv:j8)(a:List Bw)(w:j7)(W:jG w 0 93 2 hv (Z b.args) (b.args.flatMap AQ))(Q:jG w 0 95 9 bv (Z a) (a.flatMap Bb))(hl:∀p∈a,Cv w 0 p)(D:Z a<=1000000)(BA:∀p∈a,Z p.1.A.args<=1000000)(HJ:Z b.args<=1000000):
  Calls prog 84 #[.agg (Cj b.name hv b.at_).toArray,bv] w λe w'=>e=j4 (X J (Fz b a))/\Ac [] w w':=by
 obtain⟨N,L,rfl⟩:=Ak W;obtain⟨ad,FA,rfl⟩:=Ak Q;simp only[Cj];have l:j9 (jG w 0 93 2 (U N (Z b.args) L) (Z b.args) (b.args.flatMap AQ)/\jG w 0 95 9 (U ad (Z a) FA) (Z a) (a.flatMap Bb)/\(∀p∈a,Cv w 0 p)/\(∀p∈a,Z p.1.A.args<=1000000)):=⟨W,Q,hl,BA⟩;clear W Q hl BA;have HZ:∀(x:Bool) (w:j7),(Op.unary .not (jJ x)).run prog w=.ok (jJ (!x)) w:=λ_ _=>rfl
 go_enter func84,ntmps84;go_wp2_with fail
 go_loopw [5] (λi wr=>∃k:Nat,i=X J k/\k<=Z b.args/\j9 ((b.args.take k).any (CB a)=K)/\wr=w.alloc (j1 #[O b.name,U N (Z b.args) L,X J b.at_] 79)) (λi _=>Z b.args-(intOf i).toNat)
 case atStart=>exact⟨0,rfl,eV _,by show _=_;simp,rfl⟩
 case round=>
  obtain⟨k,rfl,hk,HC,rfl⟩:=hrel;by_cases F:k<Z b.args
  .obtain⟨g,BT,r,hc,f⟩:=AC (l.out.1.alloc (j1 #[O b.name,U N (Z b.args) L,X J b.at_] 79)) (λc _=>FZ c) k F;simp only[ei]at r;obtain⟨rfl,_,rfl⟩:=r;have E:=f k F 0 (by omega);simp[AQ]at E;clear f;have y:((b.args[k].v.toNat:Int)==0)=(b.args[k].v==0):=Cp _ 0;(have n:j9 (CB a b.args[k]=K->(b.args.take (k+1)).any (CB a)=K):=by intro h;rw[CY _ _ k F HC.out];exact h);(have o:j9 (CB a b.args[k]=jj->Fz b a=(b.at_:Int)):=by intro h;unfold Fz;rw[eI (Jf _ _ k F h)]);cases hz:(b.args[k].v==0)with
   |true=>
    rw[hz]at y;have C:=Ab (n.out (by simp[CB,hz]));clear hz n o;go_wp2_with fail
    go_roundw
    case rel=>exact⟨k+1,by go_num,by omega,C,by trivial⟩
    case measure=>simp[intOf];omega
   |false=>
    rw[hz]at y;cases hbd:Jr a b.args[k].v with
    |true=>
     have C:=Ab (n.out (by simp[CB,hbd]));clear hz n o;go_wp2_with (go_at_call 132;refine(J7 _ a _ b.args[k].v _ rfl (l.out.2.1.alloc _) (λp B=>(l.out.2.2.1 p B).alloc _) D l.out.2.2.2).mono ?_;rintro e t ⟨rfl,rfl⟩;rw[hbd])
     go_roundw
     case rel=>exact⟨k+1,by go_num,by omega,C,by trivial⟩
     case measure=>simp[intOf];omega
    |false=>
     have HD:=Ab (o.out (by simp[CB,hbd,hz]));clear hz n o;go_wp2_with (go_at_call 132;refine(J7 _ a _ b.args[k].v _ rfl (l.out.2.1.alloc _) (λp B=>(l.out.2.2.1 p B).alloc _) D l.out.2.2.2).mono ?_;rintro e t ⟨rfl,rfl⟩;rw[hbd])
     go_ret;rw[Aa HD];exact⟨rfl,(Ac.refl _ _).alloc _⟩
  ·(have HH:j9 (b.args.any (CB a)=K):=by have h:=HC.out;rwa [eu (by omega)]at h);clear HC;have E0:=(Ac.refl [] w).alloc (j1 #[O b.name,U N (Z b.args) L,X J b.at_] 79);go_wp2_with fail
   go_loopw [7] (λi wr=>∃k:Nat,i=X J k/\k<=Z a/\j9 ((a.take k).any (IQ a)=K)/\Ac [] w wr) (λi _=>Z a-(intOf i).toNat)
   case atStart=>exact⟨0,rfl,eV _,by show _=_;simp,E0⟩
   case round=>
    rename_i wr _ _;obtain⟨q,rfl,hq,R,u⟩:=hrel;clear E0;by_cases d:q<Z a
    .have s:=Ad l.out.2.1 u (by simp);obtain⟨g,BT,r,hc,f⟩:=AC s (λc _=>BV c) q d;simp only[ei]at r;obtain⟨rfl,_,rfl⟩:=r;have A0:Cv _ 0 a[q]:=(l.out.2.2.1 a[q] (eo d)).kept u (by simp);obtain⟨H3,HX,AH⟩:=Ak A0;have T:=Q1 a[q] _ A0;simp only[Bb,Cs,AH]at T;have E:=f q d 0 (by omega);have d1:=f q d 1 (by omega);have P:=f q d 2 (by omega);have d3:=f q d 3 (by omega);have d4:=f q d 4 (by omega);have d5:=f q d 5 (by omega);have d6:=f q d 6 (by omega);have d7:=f q d 7 (by omega);have d8:=f q d 8 (by omega);simp[Bb,Cs]at E d1 P d3 d4 d5 d6 d7 d8;rw[AH]at P;have HT:=Ab T;clear f s A0 AH T;(have n:j9 (IQ a a[q]=K->(a.take (q+1)).any (IQ a)=K):=by intro h;rw[CY _ _ q d R.out];exact h);have o:j9 (IQ a a[q]=jj->Fz b a=(a[q].1.at_:Int)):=by
      intro h;unfold Fz;rw[eE (by rw[HH.out];exact gJ),FJ _ _ q d R.out h]
     have HF:Z (AS a[q])<=1000000:=by
      have:=l.out.2.2.2 a[q] (eo d);unfold AS;split<;>simp<;>omega
     (go_wp2_with fail);refine HT.mono ?_;rintro e t ⟨tv,rfl,AB,FB⟩;have I:=u.trans FB;have s:=Ad l.out.2.1 I (by simp);obtain⟨g',BT,r,_,f⟩:=AC s (λc _=>BV c) q d;simp only[ei,eD,fm]at r;obtain⟨⟨rfl,_,_⟩,_,rfl⟩:=r;have e8:=f q d 8 (by omega);simp[Bb,Cs]at e8;have M:j9 (jG t 0 95 9 (U (V ⟨g,0,Y⟩) (Z a) FA) (Z a) (a.flatMap Bb)/\(∀p∈a,Cv t 0 p)):=⟨s,λp B=>(l.out.2.2.1 p B).kept I (by simp)⟩;clear f s E d1 P d3 d4 d5 d6 d7 d8 HT FB u;obtain⟨H2,H1,rfl⟩:=Ak AB;have HO:=Ab AB;clear AB;obtain⟨j,Ax⟩:∃j,AS a[q]=j:=⟨_,rfl⟩;rw[Ax]at HO HF⊢;have EY:=Ab Ax;clear Ax;go_wp2_with fail
     go_loop [9] (λi=>∃m:Nat,i=X J m/\m<=Z j/\j9 ((j.take m).any (CB a)=K)) (λi=>Z j-(intOf i).toNat)
     case atStart=>exact⟨0,rfl,eV _,by show _=_;simp⟩
     case round=>
      obtain⟨m,rfl,hm,HM⟩:=hrel;by_cases H:m<Z j
      .obtain⟨ga,HS,CL,HK,FF⟩:=AC HO (λc _=>FZ c) m H;simp only[ei]at CL;obtain⟨rfl,_,rfl⟩:=CL;have f0:=FF m H 0 (by omega);simp[AQ]at f0;clear FF;have y:((j[m].v.toNat:Int)==0)=(j[m].v==0):=Cp _ 0;(have z:j9 (CB a j[m]=K->(j.take (m+1)).any (CB a)=K):=by intro h;rw[CY _ _ m H HM.out];exact h);(have G:j9 (CB a j[m]=jj->Fz b a=(a[q].1.at_:Int)):=by intro h;exact o.out (by unfold IQ;rw[Aa EY];exact Jf _ _ m H h));cases hz:(j[m].v==0)with
       |true=>
        rw[hz]at y;have S:=Ab (z.out (by simp[CB,hz]));clear hz z G n o;go_wp2_with fail
        go_round
        case rel=>exact⟨m+1,by go_num,by omega,S⟩
        case measure=>simp[intOf];omega
       |false=>
        rw[hz]at y;cases hbd:Jr a j[m].v with
        |true=>
         have S:=Ab (z.out (by simp[CB,hbd]));clear hz z G n o;go_wp2_with (go_at_call 132;refine(J7 _ a _ j[m].v _ rfl M.out.1 M.out.2 D l.out.2.2.2).mono ?_;rintro e t ⟨rfl,rfl⟩;rw[hbd])
         go_round
         case rel=>exact⟨m+1,by go_num,by omega,S⟩
         case measure=>simp[intOf];omega
        |false=>
         have FO:=Ab (G.out (by simp[CB,hbd,hz]));clear hz z G n o;go_wp2_with (go_at_call 132;refine(J7 _ a _ j[m].v _ rfl M.out.1 M.out.2 D l.out.2.2.2).mono ?_;rintro e t ⟨rfl,rfl⟩;rw[hbd])
         go_ret;rw[Aa FO];exact⟨rfl,I⟩
      .have C:=Ab (n.out (by unfold IQ;rw[Aa EY];have h:=HM.out;rwa [eu (by omega)]at h));clear n o;go_wp2_with fail
       go_roundw
       case rel=>exact⟨q+1,by go_num,by omega,C,I⟩
       case measure=>simp[intOf];omega
    .have HE:j9 (Fz b a= -1):=by
      have h:=R.out;rw[eu (by omega)]at h;show _=_;unfold Fz;rw[eE (by rw[HH.out];exact gJ)];have:a.find? (IQ a)=Y:=by
       rw[gV];intro x hx hf;(have:a.any (IQ a)=jj:=by rw[fW];exact⟨x,hx,hf⟩);rw[h]at this;cases this
      rw[this]
     (go_wp2_with fail);go_ret;rw[HE.out];exact⟨rfl,u⟩
def Fm(a b:g0):Bool:=
 if An (Cw a 0) !=An (Cw b 0)then An (Cw a 0)
 else if An (Cw a 0)&&a.size !=b.size then decide (a.size<b.size)else Op.bytesLess a.toList b.toList
set_option maxRecDepth 512
theorem L6(a b:g0)(w:j7)(l:0<a.size)(n:0<b.size)(p:a.size<=1000000)(q:b.size<=1000000):
  Calls prog 86 #[O a,O b] w λe k=>e=j4 (jJ (Fm a b))/\k=w:=by
 have j:Cw a 0=a[0]:=by simp[Cw,l]
 have i:Cw b 0=b[0]:=by simp[Cw,n]
 obtain⟨R,c⟩:∃R,Fm a b=R:=⟨_,rfl⟩;rw[c];unfold Fm at c;rw[j,i]at c;have r:(0:Int)<(a.size:Int):=by omega
 have o:(0:Int)<(b.size:Int):=by omega
 clear j i;cases hx:An a[0] with
 |true=>
  cases hy:An b[0] with
  |true=>
   rw[hx,hy]at c;by_cases h:a.size=b.size
   ·(have g:(a.size !=b.size)=K:=by simp[h]);(have m:((a.size:Int) !=(b.size:Int))=K:=by simp[h]);(have f:j9 (Op.bytesLess a.toList b.toList=R):=by show _=_;rw[<-c,g];rfl);clear c g h;go_enter func86,ntmps86;(go_wp2_with fail);refine(Ck _ a[0] _ rfl).mono ?_;rintro e d ⟨rfl,rfl⟩;rw[hx];(go_wp2_with fail);refine(Ck _ b[0] _ rfl).mono ?_;rintro e d ⟨rfl,rfl⟩;rw[hy];go_wp2;go_ret;exact⟨Bf f.out,rfl⟩
   ·(have g:(a.size !=b.size)=jj:=by simp[h]);(have m:((a.size:Int) !=(b.size:Int))=jj:=by simp;omega);(have f:j9 (decide (a.size<b.size)=R):=by show _=_;rw[<-c,g];rfl);clear c g h;go_enter func86,ntmps86;(go_wp2_with fail);refine(Ck _ a[0] _ rfl).mono ?_;rintro e d ⟨rfl,rfl⟩;rw[hx];(go_wp2_with fail);refine(Ck _ b[0] _ rfl).mono ?_;rintro e d ⟨rfl,rfl⟩;rw[hy];go_wp2;go_ret;exact⟨Bf f.out,rfl⟩
  |false=>
   rw[hx,hy]at c;(have f:j9 (jj=R):=by show _=_;rw[<-c];rfl);clear c;go_enter func86,ntmps86;(go_wp2_with fail);refine(Ck _ a[0] _ rfl).mono ?_;rintro e d ⟨rfl,rfl⟩;rw[hx];(go_wp2_with fail);refine(Ck _ b[0] _ rfl).mono ?_;rintro e d ⟨rfl,rfl⟩;rw[hy];go_wp2;go_ret;exact⟨Bf f.out,rfl⟩
 |false=>
  cases hy:An b[0] with
  |true=>
   rw[hx,hy]at c;(have f:j9 (K=R):=by show _=_;rw[<-c];rfl);clear c;go_enter func86,ntmps86;(go_wp2_with fail);refine(Ck _ a[0] _ rfl).mono ?_;rintro e d ⟨rfl,rfl⟩;rw[hx];(go_wp2_with fail);refine(Ck _ b[0] _ rfl).mono ?_;rintro e d ⟨rfl,rfl⟩;rw[hy];go_wp2;go_ret;exact⟨Bf f.out,rfl⟩
  |false=>
   rw[hx,hy]at c;(have f:j9 (Op.bytesLess a.toList b.toList=R):=by show _=_;rw[<-c];rfl);clear c;go_enter func86,ntmps86;(go_wp2_with fail);refine(Ck _ a[0] _ rfl).mono ?_;rintro e d ⟨rfl,rfl⟩;rw[hx];(go_wp2_with fail);refine(Ck _ b[0] _ rfl).mono ?_;rintro e d ⟨rfl,rfl⟩;rw[hy];go_wp2;go_ret;exact⟨Bf f.out,rfl⟩
def CW(x:g0)(a:List g0×Bool)(y:g0):List g0×Bool:=if !a.2&&Fm x y then(a.1++[x]++[y],jj)else(a.1++[y],a.2)
def LU(l:List g0)(x:g0):List g0×Bool:=l.foldl (CW x) ([],K)
def Hf(l:List g0)(x:g0):List g0:=if(LU l x).2 then(LU l x).1 else(LU l x).1++[x]
def XK{l:List g0}{k:Nat}(a:k<Z l)(x:g0):LU (l.take (k+1)) x=CW x (LU (l.take k) x) l[k]:=by
 unfold LU;rw[ep a,fE];rfl
def Tu(x:g0)(a:List g0×Bool)(y:g0):Z (CW x a y).1+a.2.toNat=Z a.1+1+(CW x a y).2.toNat:=by
 obtain⟨o,d⟩:=a;unfold CW;cases d<;>cases Fm x y<;>simp
def Np(x:g0):∀(l:List g0) (a:List g0×Bool),Z (l.foldl (CW x) a).1+a.2.toNat=Z a.1+Z l+(l.foldl (CW x) a).2.toNat
 |[],a=>by simp only[List.foldl_nil,fb,jC]
 |y::l,a=>by
  have h:=Np x l (CW x a y);have b:=Tu x a y;simp only[fd,eF];omega
def Mc(l:List g0)(x:g0):Z (LU l x).1=Z l+(LU l x).2.toNat:=by
 have h:=Np x l ([],K);simp only[fb,jz]at h;unfold LU;omega
def MO(l:List g0)(x:g0):Z (Hf l x)=Z l+1:=by
 have h:=Mc l x;unfold Hf;cases hd:(LU l x).2<;>simp[hd]at h⊢<;>omega
set_option maxRecDepth 100000
theorem ZG(lv:j8)(l:List g0)(x:g0)(base:Nat)(w:j7)(hl:jG w base 9 1 lv (Z l) (l.flatMap Ah))(Ha:Z l<=1000000)(hx:0<x.size/\x.size<=1000000)(u:∀y∈l,0<y.size/\y.size<=1000000):
  Calls prog 171 #[lv,O x] w λe w'=>∃v,e=j4 v/\jG w' w.heap.size 9 1 v (Z (Hf l x)) ((Hf l x).flatMap Ah)/\Ac [] w w':=by
 obtain⟨F,D,B,E,G⟩:=fC Tryz.zs;obtain⟨ad,FB,rfl⟩:=Ak hl;have HR:j9 (jG w base 9 1 (U ad (Z l) FB) (Z l) (l.flatMap Ah)/\(∀y∈l,0<y.size/\y.size<=1000000)):=⟨hl,u⟩;clear hl u;have FT:∀(x:Bool) (w:j7),(Op.unary .not (jJ x)).run prog w=.ok (jJ (!x)) w:=λ_ _=>rfl
 go_enter func171,ntmps171;go_wp2
 go_loopw [5,6,7] (λo d i wr=>∃(k:Nat) (a:List g0) (j:Bool),i=X J k/\k<=Z l/\d=jJ j/\j9 (LU (l.take k) x=(a,j))/\Z a<=k+1/\jG wr w.heap.size 9 1 o (Z a) (a.flatMap Ah)/\Ac [] w wr) (λ_ _ i _=>Z l-(intOf i).toNat)
 case atStart=>exact⟨0,[],K,rfl,eV _,rfl,by show _=_;simp[LU],by simp,eU _ _ _ _,Ac.refl _ _⟩
 case round=>
  obtain⟨k,a,j,rfl,hk,rfl,S,FL,f,m⟩:=hrel;obtain⟨L,H,rfl⟩:=Ak f;have W:=m.size;by_cases z:k<Z l
  .obtain⟨g,EY,N,hc,T⟩:=AC (Ad HR.out.1 m (by simp)) (λc _=>rfl) k z;simp only[ei]at N;obtain⟨rfl,_,rfl⟩:=N;have A:=T k z 0 (by omega);simp[Ah]at A;clear T;have AB:=HR.out.2 l[k] (eo z);(have HS:j9 (LU (l.take (k+1)) x=CW x (a,j) l[k]):=by show _=_;rw[XK z,S.out]);cases b:(!j&&Fm x l[k])with
   |true=>
    (have E0:j=K:=by cases j<;>simp_all);subst E0;(have u:Fm x l[k]=jj:=by simpa using b);have FO:Z a<=k:=by
     have h:=Mc (l.take k) x;rw[S.out]at h;simp only[ft,jz]at h;omega
    (have AT:j9 (LU (l.take (k+1)) x=(a++[x]++[l[k]],jj)):=by show _=_;rw[HS.out];simp[CW,u]);have EK:∀{n:j7} {o:Obj},(wr.alloc o).grownBy n (U L (Z a) H).ownBlock->n.cell? ⟨g,k,Y⟩=V (O l[k]):=by
     intro n o FF;have EX:=(m.alloc o).grown FF (λq b=>j6 (f.lt q b).1);obtain⟨g',EY,N,_,T⟩:=AC (Ad HR.out.1 EX (by simp)) (λc _=>rfl) k z;simp only[ei,eD,fm]at N;obtain⟨⟨rfl,_,_⟩,_,rfl⟩:=N;have A:=T k z 0 (by omega);simpa[Ah] using A
    clear HS b;(go_wp2_with fail);refine(L6 x l[k] _ hx.1 AB.1 hx.2 AB.2).mono ?_;rintro e w0 ⟨rfl,P⟩;rw[u,P];clear P w0;go_wp2_with (first|(at_builtin;refine eP _ rfl (.tmp 24) (.tmp 26) _ rfl w.heap.size 9 F _ 1 16 underlying41 D B E G rfl (by omega) (U L (Z a) H) (Z a) (a.flatMap Ah) rfl (f.alloc _) ⟨wr.heap.size,0,Y⟩ 1 1 [O x] rfl rfl (eS (cs:=#[O x]) (t:=9) (fr:=(0,0)) (fe wr _)) (by simp[Value.oneCell']) (by omega) (by unfold maxLen;omega) (by omega) (by simp;omega) (wr.heap.size+1) (by simp) ?_;intro g1 CC n I r A0 BS;have d1:=EK r;have HA:wr.heap.size<=n.heap.size:=by have:=r.size;simp at this;omega)|(at_builtin;refine eP _ rfl (.tmp 28) (.tmp 33) _ rfl w.heap.size 9 F _ 1 16 underlying41 D B E G rfl (by omega) (U (V ⟨g1,0,Y⟩) (Z a+1) CC) (Z a+1) (a.flatMap Ah++[O x]) rfl (I.alloc _) ⟨n.heap.size,0,Y⟩ 1 1 [O l[k]] rfl rfl (eS (cs:=#[O l[k]]) (t:=9) (fr:=(0,0)) (fe n _)) (by simp[Value.oneCell']) (by omega) (by unfold maxLen;omega) (by omega) (by simp;omega) (n.heap.size+1) (by simp) ?_;intro g2 CL R Q p M C))
    have s:Ac [] w R:=(((m.alloc _).grown r (λq b=>j6 (f.lt q b).1)).alloc _).grown p (λq b=>j6 (I.lt q b).1);clear EK r A0 BS p M C I d1 A f m W;go_wp2
    go_roundw
    case rel=>
     refine⟨k+1,a++[x]++[l[k]],jj,by go_num,by omega,rfl,AT,by simp;omega,?_,s⟩;simpa[Ah] using Q
    case measure=>simp[intOf];omega
   |false=>
    (have AT:j9 (LU (l.take (k+1)) x=(a++[l[k]],j)):=by show _=_;rw[HS.out];simp[CW,b]);clear HS;have B2:Z a<=k+j.toNat:=by
     have h:=Mc (l.take k) x;rw[S.out]at h;simp only[ft]at h;omega
    cases j with
    |true=>
     clear b;go_wp2_with (at_builtin;refine eP _ rfl (.tmp 28) (.tmp 33) _ rfl w.heap.size 9 F _ 1 16 underlying41 D B E G rfl (by omega) (U L (Z a) H) (Z a) (a.flatMap Ah) rfl (f.alloc _) ⟨wr.heap.size,0,Y⟩ 1 1 [O l[k]] rfl rfl (eS (cs:=#[O l[k]]) (t:=9) (fr:=(0,0)) (fe wr _)) (by simp[Value.oneCell']) (by omega) (by unfold maxLen;omega) (by omega) (by simp;omega) (wr.heap.size+1) (by simp) ?_;intro g2 CL R Q p M C)
     have s:Ac [] w R:=(m.alloc _).grown p (λq b=>j6 (f.lt q b).1);clear p M C A f m W;go_wp2
     go_roundw
     case rel=>
      refine⟨k+1,a++[l[k]],jj,by go_num,by omega,rfl,AT,by simp;omega,?_,s⟩;simpa[Ah] using Q
     case measure=>simp[intOf];omega
    |false=>
     (have u:Fm x l[k]=K:=by simpa using b);clear b;(go_wp2_with fail);refine(L6 x l[k] _ hx.1 AB.1 hx.2 AB.2).mono ?_;rintro e w0 ⟨rfl,P⟩;rw[u,P];clear P w0;go_wp2_with (at_builtin;refine eP _ rfl (.tmp 28) (.tmp 33) _ rfl w.heap.size 9 F _ 1 16 underlying41 D B E G rfl (by omega) (U L (Z a) H) (Z a) (a.flatMap Ah) rfl (f.alloc _) ⟨wr.heap.size,0,Y⟩ 1 1 [O l[k]] rfl rfl (eS (cs:=#[O l[k]]) (t:=9) (fr:=(0,0)) (fe wr _)) (by simp[Value.oneCell']) (by omega) (by unfold maxLen;omega) (by omega) (by simp;omega) (wr.heap.size+1) (by simp) ?_;intro g2 CL R Q p M C)
     have s:Ac [] w R:=(m.alloc _).grown p (λq b=>j6 (f.lt q b).1);clear p M C A f m W;go_wp2
     go_roundw
     case rel=>
      refine⟨k+1,a++[l[k]],K,by go_num,by omega,rfl,AT,by simp;omega,?_,s⟩;simpa[Ah] using Q
     case measure=>simp[intOf];omega
  ·(have HE:j9 (LU l x=(a,j)):=by have h:=S.out;rwa [eu (by omega)]at h);have B2:Z a<=Z l+j.toNat:=by
    have h:=Mc l x;rw[HE.out]at h;simp only at h;omega
   cases j with
   |true=>
    (have HW:j9 (Hf l x=a):=by show _=_;unfold Hf;rw[HE.out];rfl);go_wp2;go_ret;rw[HW.out];exact⟨_,rfl,f,m⟩
   |false=>
    (have HW:j9 (Hf l x=a++[x]):=by show _=_;unfold Hf;rw[HE.out];rfl);(have FW:Z a<=Z l:=by simpa using B2);go_wp2_with (at_builtin;refine eP _ rfl (.tmp 37) (.tmp 39) _ rfl w.heap.size 9 F _ 1 16 underlying41 D B E G rfl (by omega) (U L (Z a) H) (Z a) (a.flatMap Ah) rfl (f.alloc _) ⟨wr.heap.size,0,Y⟩ 1 1 [O x] rfl rfl (eS (cs:=#[O x]) (t:=9) (fr:=(0,0)) (fe wr _)) (by simp[Value.oneCell']) (by omega) (by unfold maxLen;omega) (by omega) (by simp;omega) (wr.heap.size+1) (by simp) ?_;intro g1 CC n I r A0 BS)
    have s:Ac [] w n:=(m.alloc _).grown r (λq b=>j6 (f.lt q b).1);clear r A0 BS f m W;go_wp2;go_ret;rw[HW.out];refine⟨_,rfl,?_,s⟩;simpa[Ah] using I
def zZ(l:List g0)(t:AG):List g0:=if t.v==0&& !DN l t.s then Hf l t.s else l
def zR(l:List g0)(ts:List AG):List g0:=ts.foldl zZ l
def JC(l:List g0):Prop:=∀y∈l,0<y.size/\y.size<=1000000
def Vb(ts:List AG):Prop:=∀t∈ts,t.v=0->0<t.s.size/\t.s.size<=1000000
def LI(x:g0)(d:0<x.size/\x.size<=1000000):∀(l:List g0) (a:List g0×Bool),JC l->JC a.1->JC (l.foldl (CW x) a).1
 |[],_,_,ha=>ha
 |y::l,a,hl,ha=>by
  refine LI x d l _ (λz b=>hl z (by simp[b])) ?_;have c:=hl y (by simp);unfold CW;split
  .intro z b;simp only[eG,ex]at b;rcases b with(b|b)|b
   .exact ha z b
   .rw[b];exact d
   .rw[b];exact c
  .intro z b;simp only[eG,ex]at b;rcases b with b|b
   .exact ha z b
   .rw[b];exact c
def V5{l:List g0}{x:g0}(c:JC l)(b:0<x.size/\x.size<=1000000):JC (Hf l x):=by
 have h:JC (LU l x).1:=LI x b l ([],K) c (by intro y d;simp at d);unfold Hf;split
 .exact h
 .intro z a;simp only[eG,ex]at a;rcases a with a|a
  .exact h z a
  .rw[a];exact b
def QL{l:List g0}{t:AG}(a:JC l)(b:t.v=0->0<t.s.size/\t.s.size<=1000000):JC (zZ l t):=by
 unfold zZ;split
 .rename_i h;simp only[eW,gF]at h;exact V5 a (b h.1)
 .exact a
def ZH(l:List g0)(t:AG):Z (zZ l t)<=Z l+1:=by
 unfold zZ;split
 .rw[MO];omega
 .omega
def Xz(l:List g0){ts:List AG}{k:Nat}(a:k<Z ts):zR l (ts.take (k+1))=zZ (zR l (ts.take k)) ts[k]:=by
 unfold zR;rw[ep a,fE];rfl
def Uc(l:List g0)(ts:List AG):Z (zR l ts)<=Z l+Z ts:=by
 unfold zR
 induction ts generalizing l with
 |nil=>simp
 |cons t ts ih=>
  have a:=ih (zZ l t);have b:=ZH l t;simp only[fd,eF];omega
def Q4{l:List g0}{ts:List AG}(a:JC l)(b:Vb ts):JC (zR l ts):=by
 unfold zR
 induction ts generalizing l with
 |nil=>exact a
 |cons t ts ih=>exact ih (QL a (b t (by simp))) (λu c=>b u (by simp[c]))
theorem Xf(G tv:j8)(l:List g0)(ts:List AG)(base:Nat)(w:j7)(u:jG w base 9 1 G (Z l) (l.flatMap Ah))(r:jG w 0 93 2 tv (Z ts) (ts.flatMap AQ))(AT:base<=w.heap.size)
  (A2:Z l+Z ts<=1000000) (D:JC l) (H:Vb ts):
  Calls prog 130 #[G,tv] w λe z=>∃v,e=j4 v/\jG z base 9 1 v (Z (zR l ts)) ((zR l ts).flatMap Ah)/\Ac [] w z:=by
 obtain⟨ad,A1,rfl⟩:=Ak u;obtain⟨Q,N,rfl⟩:=Ak r;have q:j9 (jG w 0 93 2 (U Q (Z ts) N) (Z ts) (ts.flatMap AQ)/\JC l/\Vb ts):=⟨r,D,H⟩;clear r D H;have A0:∀(x:Bool) (w:j7),(Op.unary .not (jJ x)).run prog w=.ok (jJ (!x)) w:=λ_ _=>rfl
 go_enter func130,ntmps130;go_wp2
 go_loopw [0,5] (λo i wr=>∃(k:Nat) (a:List g0),i=X J k/\k<=Z ts/\j9 (zR l (ts.take k)=a/\JC a)/\Z a<=Z l+k/\jG wr base 9 1 o (Z a) (a.flatMap Ah)/\Ac [] w wr) (λ_ i _=>Z ts-(intOf i).toNat)
 case atStart=>exact⟨0,l,rfl,eV _,⟨by simp[zR],q.out.2.1⟩,by omega,u,Ac.refl _ _⟩
 case round=>
  clear u;obtain⟨k,a,rfl,hk,p,Ax,b,f⟩:=hrel;obtain⟨BT,BS,rfl⟩:=Ak b;have BA:=f.size;by_cases d:k<Z ts
  .obtain⟨g,AB,F,hc,t⟩:=AC (Ad q.out.1 f (by simp)) (λc _=>FZ c) k d;simp only[ei]at F;obtain⟨rfl,_,rfl⟩:=F;have P:=t k d 0 (by omega);have M:=t k d 1 (by omega);simp[AQ]at P M;clear t;have E:((ts[k].v.toNat:Int)==0)=(ts[k].v==0):=Cp _ 0;have j:j9 (zR l (ts.take (k+1))=zZ a ts[k]/\JC (zZ a ts[k])):=⟨by rw[Xz l d,p.out.1],QL p.out.2 (q.out.2.2 ts[k] (eo d))⟩;cases hz:(ts[k].v==0)with
   |false=>
    rw[hz]at E;(have m:j9 (zR l (ts.take (k+1))=a/\JC a):=by have h:=j.out;simp only[zZ,hz,iA,ev,if_false]at h;exact h);clear j hz;go_wp2
    go_roundw
    case rel=>exact⟨k+1,a,by go_num,by omega,m,by omega,b,f⟩
    case measure=>simp[intOf];omega
   |true=>
    rw[hz]at E;have S:=q.out.2.2 ts[k] (eo d) (by simpa using hz);cases hh:DN a ts[k].s with
    |true=>
     (have m:j9 (zR l (ts.take (k+1))=a/\JC a):=by have h:=j.out;simp only[zZ,hz,hh,ig,iz,ev,if_false]at h;exact h);clear j hz;(go_wp2_with fail);refine(Dt _ a ts[k].s base _ b (by omega)).mono ?_;rintro e y ⟨rfl,n⟩;rw[hh,n];clear n y;go_wp2
     go_roundw
     case rel=>exact⟨k+1,a,by go_num,by omega,m,by omega,b,f⟩
     case measure=>simp[intOf];omega
    |false=>
     (have m:j9 (zR l (ts.take (k+1))=Hf a ts[k].s/\JC (Hf a ts[k].s)):=by have h:=j.out;simp only[zZ,hz,hh,fS,Bool.and_true,if_true]at h;exact h);have R:=Ab p.out.2;clear j hz;(go_wp2_with fail);refine(Dt _ a ts[k].s base _ b (by omega)).mono ?_;rintro e y ⟨rfl,n⟩;rw[hh,n];clear n y;(go_wp2_with fail);refine(ZG _ a ts[k].s base _ b (by omega) S R).mono ?_;rintro e w2 ⟨v2,rfl,B,C⟩;have I:=f.trans C;have T:=Am (base':=base) B (by omega);have A:=MO a ts[k].s;have L:=Ab A;clear B C A;go_wp2
     go_roundw
     case rel=>exact⟨k+1,Hf a ts[k].s,by go_num,by omega,m,by rw[Aa L];omega,T,I⟩
     case measure=>simp[intOf];omega
  ·(have W:j9 (zR l ts=a):=by have h:=p.out.1;rwa [eu (by omega)]at h);go_wp2;go_ret;rw[W.out];exact⟨_,rfl,b,f⟩
structure Jy(c:A8):Prop where
 body:Z c.bl<=3
 args:Z c.head.args<=2
 lits:∀p∈c.bl,Z p.1.A.args<=2
structure Y5(c:A8):Prop where
 head:Vb c.head.args
 body:∀p∈c.bl,Vb (AS p)
def CJ(l:List g0)(x:g0):List g0:=if DN l x then l else l++[x]
def zE(l:List g0)(p:Bw):List g0:=if Oh p then CJ l p.1.A.name else l
def KL(l:List g0)(c:A8):List g0:=c.bl.foldl zE (CJ l c.head.name)
def Gh(cs:List A8):List g0:=cs.foldl KL []
def Sn(l:List g0)(p:Bw):List g0:=zR l (AS p)
def Jg(l:List g0)(c:A8):List g0:=c.bl.foldl Sn (zR l c.head.args)
def EV(cs:List A8):List g0:=cs.foldl Jg []
def DE{α β:Type}(f:β->α->β)(b:β){l:List α}{k:Nat}(a:k<Z l):(l.take (k+1)).foldl f b=f ((l.take k).foldl f b) l[k]:=by
 rw[ep a,fE];rfl
theorem V0(pb:Nat)(lv:j8)(cs:List A8)(w:j7)(hP:AI w pb [lv] 76)(hR:Cn w lv cs)(HW:Z cs<=12)(l:∀c∈cs,Jy c)(r:∀c∈cs,Y5 c):
  Calls prog 83 #[j3 (V ⟨pb,0,Y⟩)] w λe w'=>∃v,e=j4 v/\jG w' w.heap.size 9 1 v (Z (EV cs)) ((EV cs).flatMap Ah)/\Ac [] w w':=by
 obtain⟨ad,HP,rfl⟩:=Ak hR.row;have G:j9 (Cn w (U ad (Z cs) HP) cs/\(∀c∈cs,Jy c)/\(∀c∈cs,Y5 c)):=⟨hR,l,r⟩;clear hR l r;go_enter func83,ntmps83;go_wp2
 go_loopw [3,4] (λo i wr=>∃(k:Nat) (d:List g0),i=X J k/\k<=Z cs/\j9 ((cs.take k).foldl Jg []=d/\JC d)/\Z d<=8*k/\jG wr w.heap.size 9 1 o (Z d) (d.flatMap Ah)/\Ac [] w wr) (λ_ i _=>Z cs-(intOf i).toNat)
 case atStart=>exact⟨0,[],rfl,eV _,⟨by simp,by intro y hy;simp at hy⟩,by simp,eU _ _ _ _,Ac.refl _ _⟩
 case round=>
  obtain⟨k,d,rfl,hk,C,H3,F,s⟩:=hrel;obtain⟨K1,KS,rfl⟩:=Ak F;have u:=(hP.kept s (by simp)).cell 0;simp at u;have BS:=s.size;by_cases j:k<Z cs
  .have I:=G.out.1.kept s;obtain⟨g,H4,he,hc,DT⟩:=AC I.row (λc _=>BG c) k j;simp only[ei]at he;obtain⟨rfl,_,rfl⟩:=he;have A0:=DT k j 1 (by omega);simp[BX]at A0;have p:=I.each cs[k] (eo j);have l:=G.out.2.1 cs[k] (eo j);have r:=G.out.2.2 cs[k] (eo j);obtain⟨K2,KA,AH⟩:=Ak p.args;obtain⟨HN,HH,E0⟩:=Ak p.body;rw[AH]at A0;have Ha:j9 (cs[k].bv=U HN cs[k].bl.length HH):=E0;have A:=Xf _ _ d cs[k].head.args w.heap.size _ F p.args BS (by have:=l.args;omega) C.out.2 r.head;rw[AH]at A;have HA:=Ab A;have IS:=l.args;have HX:=l.body;have x:j9 (Jy cs[k]/\Y5 cs[k]):=⟨l,r⟩;clear DT I p AH E0 A l r;(go_wp2_with fail);refine HA.mono ?_;rintro e w1 ⟨v1,rfl,D,B2⟩;have A1:=s.trans B2;have L:=Ab (Uc d cs[k].head.args);obtain⟨n,E⟩:∃n,zR d cs[k].head.args=n:=⟨_,rfl⟩;rw[E]at D L;have B0:j9 (zR d cs[k].head.args=n/\JC n):=⟨E,by rw[<-E];exact Q4 C.out.2 x.out.2.head⟩;(have HS:Z n<=8*k+2:=by have:=Aa L;omega);obtain⟨K3,IJ,rfl⟩:=Ak D;clear A0 u F s BS B2 E L HA;go_wp2
   go_loopw [3,5] (λo i Q=>∃(m:Nat) (b:List g0),i=X J m/\m<=cs[k].bl.length/\j9 ((cs[k].bl.take m).foldl Sn n=b/\JC b)/\Z b<=8*k+2+2*m/\jG Q w.heap.size 9 1 o (Z b) (b.flatMap Ah)/\Ac [] w Q) (λ_ i _=>cs[k].bl.length-(intOf i).toNat)
   case atStart=>exact⟨0,n,rfl,eV _,⟨by simp,B0.out.2⟩,by omega,D,A1⟩
   case round=>
    rename_i Q _;clear D A1;obtain⟨m,b,rfl,hm,t,H8,z,q⟩:=hrel;obtain⟨Ix,HQ,rfl⟩:=Ak z;have u:=(hP.kept q (by simp)).cell 0;simp at u;have K5:=q.size;have Ax:=G.out.1.kept q;obtain⟨g2,HQ,HB,_,FB⟩:=AC Ax.row (λc _=>BG c) k j;simp only[ei,eD,fm]at HB;obtain⟨⟨rfl,_,_⟩,_,rfl⟩:=HB;have N:=FB k j 3 (by omega);simp[BX]at N;rw[Ha.out]at N;have p:=Ax.each cs[k] (eo j);clear FB Ax;by_cases a:m<cs[k].bl.length
    .obtain⟨gb,HY,M,Jx,f⟩:=AC p.body (λc _=>BV c) m a;rw[Ha.out]at M;simp only[ei]at M;obtain⟨rfl,_,rfl⟩:=M;have R:=p.lits cs[k].bl[m] (eo a);obtain⟨K4,H9,W⟩:=Ak R;have T:=Q1 cs[k].bl[m] _ R;simp only[Bb,Cs,W]at T;have d0:=f m a 0 (by omega);have d1:=f m a 1 (by omega);have H:=f m a 2 (by omega);have d3:=f m a 3 (by omega);have d4:=f m a 4 (by omega);have d5:=f m a 5 (by omega);have d6:=f m a 6 (by omega);have d7:=f m a 7 (by omega);have d8:=f m a 8 (by omega);simp[Bb,Cs]at d0 d1 H d3 d4 d5 d6 d7 d8;rw[W]at H;have HT:=Ab T;clear f R W p T;have KB:Z (AS cs[k].bl[m])<=2:=by
      have:=x.out.1.lits cs[k].bl[m] (eo a);unfold AS;split
      .exact this
      .simp
     (go_wp2_with fail);refine HT.mono ?_;rintro e w2 ⟨tv,rfl,FA,AB⟩;have P:=q.trans AB;have EK:=Ad z AB (by simp);have HK:=P.size;clear d0 d1 H d3 d4 d5 d6 d7 d8 HT u N;(go_wp2_with fail);refine(Xf _ _ b (AS cs[k].bl[m]) w.heap.size _ EK FA HK (by omega) t.out.2 (x.out.2.body _ (eo a))).mono ?_;rintro e w3 ⟨v3,rfl,CC,EY⟩;have HI:=P.trans EY;have S:=Ab (Uc b (AS cs[k].bl[m]));have Go:j9 ((cs[k].bl.take (m+1)).foldl Sn n=zR b (AS cs[k].bl[m])/\JC (zR b (AS cs[k].bl[m]))):=
      ⟨by rw[DE _ _ a,t.out.1];rfl,Q4 t.out.2 (x.out.2.body _ (eo a))⟩
     obtain⟨B,FW⟩:∃B,zR b (AS cs[k].bl[m])=B:=⟨_,rfl⟩;rw[FW]at CC S Go;(have HD:Z B<=8*k+2+2*(m+1):=by have:=Aa S;omega);clear q z EK FA AB EY P FW S;go_wp2
     go_roundw
     case rel=>exact⟨m+1,B,by go_num,by omega,Go,HD,CC,HI⟩
     case measure=>simp[intOf];omega
    .have HZ:j9 ((cs.take (k+1)).foldl Jg []=b/\JC b):=by
      have h:=t.out.1;rw[eu (by omega)]at h;refine⟨?_,t.out.2⟩;rw[DE _ _ j,C.out.1,<-h];unfold Jg;rw[B0.out.1]
     go_wp2
     go_roundw
     case rel=>exact⟨k+1,b,by go_num,by omega,HZ,by omega,z,q⟩
     case measure=>simp[intOf];omega
  ·(have HE:j9 (EV cs=d):=by have h:=C.out.1;rwa [eu (by omega)]at h);go_wp2;go_ret;rw[HE.out];exact⟨_,rfl,F,s⟩
def In(w:j7)(o:Obj)(cs:Array j8)(t:TypeId)(l:List j8)(a:l=cs.toList):∀j u,l[j]?=V u->((w.alloc o).alloc (j1 cs t)).cell? ((⟨w.heap.size+1,0,Y⟩:Addr).add j)=V u:=by
 subst a;have h:=fe (w.alloc o) (j1 cs t);rw[fg]at h;exact eS h
theorem YR(pb:Nat)(lv:j8)(cs:List A8)(w:j7)(hP:AI w pb [lv] 76)(hR:Cn w lv cs)(K2:Z cs<=12)(Bx:∀c∈cs,Jy c):
  Calls prog 22 #[j3 (V ⟨pb,0,Y⟩)] w λe w'=>∃v,e=j4 v/\jG w' w.heap.size 9 1 v (Z (Gh cs)) ((Gh cs).flatMap Ah)/\Ac [] w w':=by
 obtain⟨i0,DT,BA,EX,CC⟩:=fC Tryz.zs;obtain⟨ad,KK,rfl⟩:=Ak hR.row;have HR:j9 (Cn w (U ad (Z cs) KK) cs/\(∀c∈cs,Jy c)):=⟨hR,Bx⟩;clear hR Bx;have K8:∀(x:Bool) (w:j7),(Op.unary .not (jJ x)).run prog w=.ok (jJ (!x)) w:=λ_ _=>rfl
 go_enter func22,ntmps22;go_wp2
 go_loopw [3,4] (λo i wr=>∃(k:Nat) (f:List g0),i=X J k/\k<=Z cs/\j9 ((cs.take k).foldl KL []=f)/\Z f<=4*k/\jG wr w.heap.size 9 1 o (Z f) (f.flatMap Ah)/\Ac [] w wr) (λ_ i _=>Z cs-(intOf i).toNat)
 case atStart=>exact⟨0,[],rfl,eV _,by show _=_;simp,by simp,eU _ _ _ _,Ac.refl _ _⟩
 case round=>
  obtain⟨k,f,rfl,hk,HF,K5,G,I⟩:=hrel;obtain⟨H2,H0,rfl⟩:=Ak G;have S:=(hP.kept I (by simp)).cell 0;simp at S;have HN:=I.size;by_cases B:k<Z cs
  .have FL:=HR.out.1.kept I;obtain⟨g,K6,he,hc,HP⟩:=AC FL.row (λc _=>BG c) k B;simp only[ei]at he;obtain⟨rfl,_,rfl⟩:=he;have HD:=HP k B 0 (by omega);simp[BX]at HD;have E:=FL.each cs[k] (eo B);have Bx:=HR.out.2 cs[k] (eo B);obtain⟨Jx,H8,HU⟩:=Ak E.body;have FB:j9 (cs[k].bv=U Jx cs[k].bl.length H8):=HU;have K3:=Bx.body;clear HP FL E HU Bx;(have KS:∀(b:List g0) (v1:j8) (w1:j7),j9 (CJ f cs[k].head.name=b)->Z b<=4*k+1->jG w1 w.heap.size 9 1 v1 (Z b) (b.flatMap Ah)->Ac [] w w1->True:=λ_ _ _ _ _ _ _=>trivial);clear KS;cases hh:DN f cs[k].head.name with
   |true=>
    (have P:j9 (CJ f cs[k].head.name=f):=by show _=_;simp[CJ,hh]);(go_wp2_with fail);refine(Dt _ f cs[k].head.name w.heap.size _ G (by omega)).mono ?_;rintro e z ⟨rfl,d⟩;rw[hh,d];clear d z hh;have F:=G;have A2:=I;(have A1:Z f<=4*k+1:=by omega);go_wp2;obtain⟨b,P,F,A1⟩:∃b,j9 (CJ f cs[k].head.name=b)/\jG wr w.heap.size 9 1 (U H2 (Z f) H0) (Z b) (b.flatMap Ah)/\Z b<=4*k+1:=⟨f,P,F,A1⟩;clear HD S G I HN
    go_loopw [3,5] (λo i wq=>∃(m:Nat) (a:List g0),i=X J m/\m<=cs[k].bl.length/\j9 ((cs[k].bl.take m).foldl zE b=a)/\Z a<=4*k+1+m/\jG wq w.heap.size 9 1 o (Z a) (a.flatMap Ah)/\Ac [] w wq) (λ_ i _=>cs[k].bl.length-(intOf i).toNat)
    case atStart=>exact⟨0,b,rfl,eV _,by show _=_;simp,by omega,F,A2⟩
    case round=>
     clear F A2;obtain⟨m,a,rfl,hm,HM,IS,C,u⟩:=hrel;obtain⟨B0,EY,rfl⟩:=Ak C;have S:=(hP.kept u (by simp)).cell 0;simp at S;have K1:=u.size;have W:=HR.out.1.kept u;obtain⟨g2,H9,E0,_,B9⟩:=AC W.row (λc _=>BG c) k B;simp only[ei,eD,fm]at E0;obtain⟨⟨rfl,_,_⟩,_,rfl⟩:=E0;have BT:=B9 k B 3 (by omega);simp[BX]at BT;rw[FB.out]at BT;have E:=W.each cs[k] (eo B);clear B9 W;by_cases j:m<cs[k].bl.length
     .obtain⟨gb,H5,Q,KA,p⟩:=AC E.body (λc _=>BV c) m j;rw[FB.out]at Q;simp only[ei]at Q;obtain⟨rfl,_,rfl⟩:=Q;have hl:=E.lits cs[k].bl[m] (eo j);obtain⟨HK,HC,EM⟩:=Ak hl;have d0:=p m j 0 (by omega);have d1:=p m j 1 (by omega);have d2:=p m j 2 (by omega);have d3:=p m j 3 (by omega);have d4:=p m j 4 (by omega);have d5:=p m j 5 (by omega);have d6:=p m j 6 (by omega);have d7:=p m j 7 (by omega);have d8:=p m j 8 (by omega);simp[Bb,Cs]at d0 d1 d2 d3 d4 d5 d6 d7 d8;rw[EM]at d2;clear p hl EM E;(have n:j9 ((cs[k].bl.take (m+1)).foldl zE b=zE a cs[k].bl[m]):=by show _=_;rw[DE _ _ j,HM.out]);have r:=C.alloc (j1 #[X .u8 cs[k].bl[m].1.kind.toNat,O cs[k].bl[m].1.A.name,U HK cs[k].bl[m].1.A.args.length HC,X J cs[k].bl[m].1.A.at_,X .u8 cs[k].bl[m].1.L.v.toNat,O cs[k].bl[m].1.L.s,X .u8 cs[k].bl[m].1.R.v.toNat,O cs[k].bl[m].1.R.s,X J cs[k].bl[m].1.at_] 95);rcases EN cs[k].bl[m] with⟨k1,l⟩|⟨k1,k2,l⟩|⟨k1,k2,l⟩
      .cases hh2:DN a cs[k].bl[m].1.A.name with
       |true=>
        (have y:j9 ((cs[k].bl.take (m+1)).foldl zE b=a):=by show _=_;rw[n.out];simp[zE,CJ,l,hh2]);clear n l;(go_wp2_with fail);refine(Dt _ a cs[k].bl[m].1.A.name w.heap.size _ r (by omega)).mono ?_;rintro e z ⟨rfl,d⟩;rw[hh2,d];clear d z hh2;go_wp2
        go_roundw
        case rel=>exact⟨m+1,a,by go_num,by omega,y,by omega,r,u.alloc _⟩
        case measure=>simp[intOf];omega
       |false=>
        (have y:j9 ((cs[k].bl.take (m+1)).foldl zE b=a++[cs[k].bl[m].1.A.name]):=by show _=_;rw[n.out];simp[zE,CJ,l,hh2]);clear n l;(go_wp2_with fail);refine(Dt _ a cs[k].bl[m].1.A.name w.heap.size _ r (by omega)).mono ?_;rintro e z ⟨rfl,d⟩;rw[hh2,d];clear d z hh2;go_wp2_with (at_builtin;refine eP _ rfl (.tmp 80) (.tmp 84) _ rfl w.heap.size 9 i0 _ 1 16 underlying41 DT BA EX CC rfl (by omega) (U B0 (Z a) EY) (Z a) (a.flatMap Ah) rfl (r.alloc _) ⟨wr.heap.size+1,0,Y⟩ 1 1 [O cs[k].bl[m].1.A.name] rfl rfl (In wr _ _ _ _ rfl) (by simp[Value.oneCell']) (by omega) (by unfold maxLen;omega) (by omega) (by simp;omega) (wr.heap.size+2) (by simp) ?_;intro g5 HG w5 M D N T)
        have Ax:Ac [] w w5:=((u.alloc _).alloc _).grown D (λq H=>j6 (C.lt q H).1);clear D N T;go_wp2
        go_roundw
        case rel=>
         refine⟨m+1,a++[cs[k].bl[m].1.A.name],by go_num,by omega,y,by simp;omega,?_,Ax⟩;simpa[Ah] using M
        case measure=>simp[intOf];omega
      .cases hh2:DN a cs[k].bl[m].1.A.name with
       |true=>
        (have y:j9 ((cs[k].bl.take (m+1)).foldl zE b=a):=by show _=_;rw[n.out];simp[zE,CJ,l,hh2]);clear n l;(go_wp2_with fail);refine(Dt _ a cs[k].bl[m].1.A.name w.heap.size _ r (by omega)).mono ?_;rintro e z ⟨rfl,d⟩;rw[hh2,d];clear d z hh2;go_wp2
        go_roundw
        case rel=>exact⟨m+1,a,by go_num,by omega,y,by omega,r,u.alloc _⟩
        case measure=>simp[intOf];omega
       |false=>
        (have y:j9 ((cs[k].bl.take (m+1)).foldl zE b=a++[cs[k].bl[m].1.A.name]):=by show _=_;rw[n.out];simp[zE,CJ,l,hh2]);clear n l;(go_wp2_with fail);refine(Dt _ a cs[k].bl[m].1.A.name w.heap.size _ r (by omega)).mono ?_;rintro e z ⟨rfl,d⟩;rw[hh2,d];clear d z hh2;go_wp2_with (at_builtin;refine eP _ rfl (.tmp 80) (.tmp 84) _ rfl w.heap.size 9 i0 _ 1 16 underlying41 DT BA EX CC rfl (by omega) (U B0 (Z a) EY) (Z a) (a.flatMap Ah) rfl (r.alloc _) ⟨wr.heap.size+1,0,Y⟩ 1 1 [O cs[k].bl[m].1.A.name] rfl rfl (In wr _ _ _ _ rfl) (by simp[Value.oneCell']) (by omega) (by unfold maxLen;omega) (by omega) (by simp;omega) (wr.heap.size+2) (by simp) ?_;intro g5 HG w5 M D N T)
        have Ax:Ac [] w w5:=((u.alloc _).alloc _).grown D (λq H=>j6 (C.lt q H).1);clear D N T;go_wp2
        go_roundw
        case rel=>
         refine⟨m+1,a++[cs[k].bl[m].1.A.name],by go_num,by omega,y,by simp;omega,?_,Ax⟩;simpa[Ah] using M
        case measure=>simp[intOf];omega
      ·(have y:j9 ((cs[k].bl.take (m+1)).foldl zE b=a):=by show _=_;rw[n.out];simp[zE,l]);clear n l;go_wp2
       go_roundw
       case rel=>exact⟨m+1,a,by go_num,by omega,y,by omega,r,u.alloc _⟩
       case measure=>simp[intOf];omega
     .have HZ:j9 ((cs.take (k+1)).foldl KL []=a):=by
       have h:=HM.out;rw[eu (by omega)]at h;show _=_;rw[DE _ _ B,HF.out,<-h];unfold KL;rw[P.out]
      go_wp2
      go_roundw
      case rel=>exact⟨k+1,a,by go_num,by omega,HZ,by omega,C,u⟩
      case measure=>simp[intOf];omega
   |false=>
    (have P:j9 (CJ f cs[k].head.name=f++[cs[k].head.name]):=by show _=_;simp[CJ,hh]);(go_wp2_with fail);refine(Dt _ f cs[k].head.name w.heap.size _ G (by omega)).mono ?_;rintro e z ⟨rfl,d⟩;rw[hh,d];clear d z hh;go_wp2_with (at_builtin;refine eP _ rfl (.tmp 28) (.tmp 38) _ rfl w.heap.size 9 i0 _ 1 16 underlying41 DT BA EX CC rfl (by omega) (U H2 (Z f) H0) (Z f) (f.flatMap Ah) rfl (G.alloc _) ⟨wr.heap.size,0,Y⟩ 1 1 [O cs[k].head.name] rfl rfl (eS (cs:=#[O cs[k].head.name]) (t:=9) (fr:=(0,0)) (fe wr _)) (by simp[Value.oneCell']) (by omega) (by unfold maxLen;omega) (by omega) (by simp;omega) (wr.heap.size+1) (by simp) ?_;intro g1 HO w1 HW HQ H3 H6)
    have A2:Ac [] w w1:=(I.alloc _).grown HQ (λq H=>j6 (G.lt q H).1);(have F:jG w1 w.heap.size 9 1 (U (V ⟨g1,0,Y⟩) (Z f+1) HO) (Z (f++[cs[k].head.name])) ((f++[cs[k].head.name]).flatMap Ah):=by simpa[Ah] using HW);(have A1:Z (f++[cs[k].head.name])<=4*k+1:=by simp;omega);clear HQ H3 H6 HW;go_wp2;obtain⟨b,P,F,A1⟩:∃b,j9 (CJ f cs[k].head.name=b)/\jG w1 w.heap.size 9 1 (U (V ⟨g1,0,Y⟩) (Z f+1) HO) (Z b) (b.flatMap Ah)/\Z b<=4*k+1:=⟨_,P,F,A1⟩;clear HD S G I HN
    go_loopw [3,5] (λo i wq=>∃(m:Nat) (a:List g0),i=X J m/\m<=cs[k].bl.length/\j9 ((cs[k].bl.take m).foldl zE b=a)/\Z a<=4*k+1+m/\jG wq w.heap.size 9 1 o (Z a) (a.flatMap Ah)/\Ac [] w wq) (λ_ i _=>cs[k].bl.length-(intOf i).toNat)
    case atStart=>exact⟨0,b,rfl,eV _,by show _=_;simp,by omega,F,A2⟩
    case round=>
     clear F A2;obtain⟨m,a,rfl,hm,HM,IS,C,u⟩:=hrel;obtain⟨B0,EY,rfl⟩:=Ak C;have S:=(hP.kept u (by simp)).cell 0;simp at S;have K1:=u.size;have W:=HR.out.1.kept u;obtain⟨g2,H9,E0,_,B9⟩:=AC W.row (λc _=>BG c) k B;simp only[ei,eD,fm]at E0;obtain⟨⟨rfl,_,_⟩,_,rfl⟩:=E0;have BT:=B9 k B 3 (by omega);simp[BX]at BT;rw[FB.out]at BT;have E:=W.each cs[k] (eo B);clear B9 W;by_cases j:m<cs[k].bl.length
     .obtain⟨gb,H5,Q,KA,p⟩:=AC E.body (λc _=>BV c) m j;rw[FB.out]at Q;simp only[ei]at Q;obtain⟨rfl,_,rfl⟩:=Q;have hl:=E.lits cs[k].bl[m] (eo j);obtain⟨HK,HC,EM⟩:=Ak hl;have d0:=p m j 0 (by omega);have d1:=p m j 1 (by omega);have d2:=p m j 2 (by omega);have d3:=p m j 3 (by omega);have d4:=p m j 4 (by omega);have d5:=p m j 5 (by omega);have d6:=p m j 6 (by omega);have d7:=p m j 7 (by omega);have d8:=p m j 8 (by omega);simp[Bb,Cs]at d0 d1 d2 d3 d4 d5 d6 d7 d8;rw[EM]at d2;clear p hl EM E;(have n:j9 ((cs[k].bl.take (m+1)).foldl zE b=zE a cs[k].bl[m]):=by show _=_;rw[DE _ _ j,HM.out]);have r:=C.alloc (j1 #[X .u8 cs[k].bl[m].1.kind.toNat,O cs[k].bl[m].1.A.name,U HK cs[k].bl[m].1.A.args.length HC,X J cs[k].bl[m].1.A.at_,X .u8 cs[k].bl[m].1.L.v.toNat,O cs[k].bl[m].1.L.s,X .u8 cs[k].bl[m].1.R.v.toNat,O cs[k].bl[m].1.R.s,X J cs[k].bl[m].1.at_] 95);rcases EN cs[k].bl[m] with⟨k1,l⟩|⟨k1,k2,l⟩|⟨k1,k2,l⟩
      .cases hh2:DN a cs[k].bl[m].1.A.name with
       |true=>
        (have y:j9 ((cs[k].bl.take (m+1)).foldl zE b=a):=by show _=_;rw[n.out];simp[zE,CJ,l,hh2]);clear n l;(go_wp2_with fail);refine(Dt _ a cs[k].bl[m].1.A.name w.heap.size _ r (by omega)).mono ?_;rintro e z ⟨rfl,d⟩;rw[hh2,d];clear d z hh2;go_wp2
        go_roundw
        case rel=>exact⟨m+1,a,by go_num,by omega,y,by omega,r,u.alloc _⟩
        case measure=>simp[intOf];omega
       |false=>
        (have y:j9 ((cs[k].bl.take (m+1)).foldl zE b=a++[cs[k].bl[m].1.A.name]):=by show _=_;rw[n.out];simp[zE,CJ,l,hh2]);clear n l;(go_wp2_with fail);refine(Dt _ a cs[k].bl[m].1.A.name w.heap.size _ r (by omega)).mono ?_;rintro e z ⟨rfl,d⟩;rw[hh2,d];clear d z hh2;go_wp2_with (at_builtin;refine eP _ rfl (.tmp 80) (.tmp 84) _ rfl w.heap.size 9 i0 _ 1 16 underlying41 DT BA EX CC rfl (by omega) (U B0 (Z a) EY) (Z a) (a.flatMap Ah) rfl (r.alloc _) ⟨wr.heap.size+1,0,Y⟩ 1 1 [O cs[k].bl[m].1.A.name] rfl rfl (In wr _ _ _ _ rfl) (by simp[Value.oneCell']) (by omega) (by unfold maxLen;omega) (by omega) (by simp;omega) (wr.heap.size+2) (by simp) ?_;intro g5 HG w5 M D N T)
        have Ax:Ac [] w w5:=((u.alloc _).alloc _).grown D (λq H=>j6 (C.lt q H).1);clear D N T;go_wp2
        go_roundw
        case rel=>
         refine⟨m+1,a++[cs[k].bl[m].1.A.name],by go_num,by omega,y,by simp;omega,?_,Ax⟩;simpa[Ah] using M
        case measure=>simp[intOf];omega
      .cases hh2:DN a cs[k].bl[m].1.A.name with
       |true=>
        (have y:j9 ((cs[k].bl.take (m+1)).foldl zE b=a):=by show _=_;rw[n.out];simp[zE,CJ,l,hh2]);clear n l;(go_wp2_with fail);refine(Dt _ a cs[k].bl[m].1.A.name w.heap.size _ r (by omega)).mono ?_;rintro e z ⟨rfl,d⟩;rw[hh2,d];clear d z hh2;go_wp2
        go_roundw
        case rel=>exact⟨m+1,a,by go_num,by omega,y,by omega,r,u.alloc _⟩
        case measure=>simp[intOf];omega
       |false=>
        (have y:j9 ((cs[k].bl.take (m+1)).foldl zE b=a++[cs[k].bl[m].1.A.name]):=by show _=_;rw[n.out];simp[zE,CJ,l,hh2]);clear n l;(go_wp2_with fail);refine(Dt _ a cs[k].bl[m].1.A.name w.heap.size _ r (by omega)).mono ?_;rintro e z ⟨rfl,d⟩;rw[hh2,d];clear d z hh2;go_wp2_with (at_builtin;refine eP _ rfl (.tmp 80) (.tmp 84) _ rfl w.heap.size 9 i0 _ 1 16 underlying41 DT BA EX CC rfl (by omega) (U B0 (Z a) EY) (Z a) (a.flatMap Ah) rfl (r.alloc _) ⟨wr.heap.size+1,0,Y⟩ 1 1 [O cs[k].bl[m].1.A.name] rfl rfl (In wr _ _ _ _ rfl) (by simp[Value.oneCell']) (by omega) (by unfold maxLen;omega) (by omega) (by simp;omega) (wr.heap.size+2) (by simp) ?_;intro g5 HG w5 M D N T)
        have Ax:Ac [] w w5:=((u.alloc _).alloc _).grown D (λq H=>j6 (C.lt q H).1);clear D N T;go_wp2
        go_roundw
        case rel=>
         refine⟨m+1,a++[cs[k].bl[m].1.A.name],by go_num,by omega,y,by simp;omega,?_,Ax⟩;simpa[Ah] using M
        case measure=>simp[intOf];omega
      ·(have y:j9 ((cs[k].bl.take (m+1)).foldl zE b=a):=by show _=_;rw[n.out];simp[zE,l]);clear n l;go_wp2
       go_roundw
       case rel=>exact⟨m+1,a,by go_num,by omega,y,by omega,r,u.alloc _⟩
       case measure=>simp[intOf];omega
     .have HZ:j9 ((cs.take (k+1)).foldl KL []=a):=by
       have h:=HM.out;rw[eu (by omega)]at h;show _=_;rw[DE _ _ B,HF.out,<-h];unfold KL;rw[P.out]
      go_wp2
      go_roundw
      case rel=>exact⟨k+1,a,by go_num,by omega,HZ,by omega,C,u⟩
      case measure=>simp[intOf];omega
  ·(have HE:j9 (Gh cs=f):=by have h:=HF.out;rwa [eu (by omega)]at h);go_wp2;go_ret;rw[HE.out];exact⟨_,rfl,G,I⟩
