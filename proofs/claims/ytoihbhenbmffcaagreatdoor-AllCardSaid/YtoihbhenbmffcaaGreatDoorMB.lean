import Derived.Test.YtoihbhenbmffcaaGreatDoorMA
import Derived.Deep.RegionLaw
set_option linter.all false
set_option maxHeartbeats 0
open List renaming length->Z,flatMap->qS
open Option renaming none->Y,some->V
open Go.Value renaming slice->U,int->X,string->O,pointer->jj
open Bool renaming false->K,true->T6
open Go.Proofs.Tryz renaming prog->rF
open Go renaming Calls->rE
open Or renaming inl->j2,inr->j3
namespace Go.Proofs.YtoihbhenbmffcaaGreatDoor
open Go.RowKit Go.Proofs.Tryz
section
variable{s:bN}{n m:Nat}{B:rD}
def IN(s a c)(h:a<=s.size):(A9 s a c).2.1<=s.size:=by
 unfold A9;have b:=BI s a h;have d:=C5 AC s _ b;split
 .exact h
 .split<;>simp<;>omega
def gA(h:(A9 s n K).2.2=K):n<(A9 s n K).2.1:=by
 unfold A9 at h|-;have b:=Ck s n;have c:=Cz AC s (Af s n);simp only[ma,rm]at h|-;split at h
 .cases h
 .rename_i a;simp only[a,rm];omega
def Gh(s a d)(h:a<=s.size):(AN s a d).2.1<=s.size:=by
 have b:=BI s a h;have e:=C5 Aq s _ b;have c:=IN s _ K b;unfold AN;split
 .exact h
 .split
  .split
   .simp;omega
   .split
    .exact c
    .split<;>simp<;>omega
  .exact b
def XR{at_}(h:(AN s at_ K).2.2=K):at_<(AN s at_ K).2.1:=by
 have g:=Ck s at_;unfold AN at h|-;simp only[ma,rm]at h|-;split at h
 .rename_i c;simp only[c,dite_true];split at h
  .exact qy
  .rename_i b;simp only[b,rm,ma];split at h
   .rename_i a;simp only[a,ro];have:=gA h;omega
   .rename_i a;simp only[a,rm,ma];split at h
    .cases h
    .rename_i e;simp only[e,rm];have d:Aq s[Af s at_]=T6:=sA;have i:=Ct Aq s _ c d;have f:=Cz Aq s (Af s at_+1);omega
 .cases h
def CO(s:bN)(at_:Nat):kN AK×Nat×rD:=
 if h:(!(AN s at_ K).2.2&&Ey s (AS s (AN s at_ K).2.1 (AN s at_ K).2.2) 44)=T6/\at_<Cn s (AN s at_ K).2.1 (AN s at_ K).2.2 44/\at_<s.size then
  have _h1:at_<s.size:=h.2.2;have _h2:=h.2.1
  ((AN s at_ K).1::(CO s (Cn s (AN s at_ K).2.1 (AN s at_ K).2.2 44)).1,(CO s (Cn s (AN s at_ K).2.1 (AN s at_ K).2.2 44)).2)
 else([(AN s at_ K).1],Cn s (AN s at_ K).2.1 (AN s at_ K).2.2 44,(AN s at_ K).2.2)
def EV(s a b c):a<=Cn s a b c:=by
 unfold Cn AS;have:=Ck s a;split<;>split<;>omega
def RR{at_ a}{t}(b:AN s at_ K=(t,a,B))(g:at_<=s.size)(e:(!B&&Ey s (AS s a B) 44)=T6):
  at_<Cn s a B 44/\CO s at_=(t::(CO s (Cn s a B 44)).1,(CO s (Cn s a B 44)).2):=by
 have f:B=K:=by cases B<;>simp_all
 subst f;have d:=XR (s:=s) (at_:=at_) (by rw[b]);have c:=Gh s at_ K g;rw[b]at d c;simp at d c;have h:=EV s a K 44;refine⟨lc,?_⟩
 conv=>lhs;rw[CO]
 exact qy
def Nu{t}(c:AN s n K=(t,m,B))(b:(!B&&Ey s (AS s m B) 44)=K):
  CO s n=([t],Cn s m B 44,B):=by
 conv=>lhs;rw[CO]
 exact qr
structure Dp where
 a:bN
 qH:kN AK
 e:Nat
def BM(s:bN)(at_:Nat)(bad:rD)(c:rC):Nat×rD:=(Cn s at_ bad c,!(!bad&&Ey s (AS s at_ bad) c))
def Ez(s:bN)(p:Nat×rD):kN AK×Nat×rD:=if p.2 then([],p.1,T6)else CO s p.1
def A5(s:bN)(at_:Nat)(bad:rD):Dp×Nat×rD:=
 let nm:=A9 s (AS s at_ bad) bad
 let l:=Ez s (BM s nm.2.1 nm.2.2 40)
 (⟨nm.1,l.1,AS s at_ bad⟩,BM s l.2.1 l.2.2 41)
def Xp(s a)(h:a<=s.size):(CO s a).2.1<=s.size:=by
 fun_induction CO s a with
 |case1 a hc _ _ ih=>exact ih (Ec _ _ _ _ (Gh _ _ _ h))
 |case2 a hc=>exact Ec _ _ _ _ (Gh _ _ _ h)
theorem Tryz.yK:(Tryz.prog.info? 93).map (λi=>(i.zero,i.size,i.bytes))=V (V (.agg #[X .u8 0,O ⟨#[]⟩]),2,24):=lo
def CN(nm:bN)(av:Value)(j:Nat):kN Value:=[O nm,av,X .i64 j]
def Fi(s:bN)(mb bd:rD)(a:Nat)(acc:kN AK)(R:kN AK×Nat×rD):Prop:=
 if(mb&& !bd)=T6 then(acc++(CO s a).1,(CO s a).2)=R else(acc,a,bd)=R
def Fi.step{c}{R}{t}(h:Fi s T6 K n c R)(b:AN s n K=(t,m,B))(i:n<=s.size)(w:Z c<=n):
  Cn s m B 44<=s.size/\Z (c++[t])<=Cn s m B 44+1/\(((!B&&Ey s (AS s m B) 44)&& !B)=T6->Z (c++[t])<=Cn s m B 44)/\
  2*(s.size-Cn s m B 44)+(if((!B&&Ey s (AS s m B) 44)&& !B)=T6 then 1 else 0)<2*(s.size-n)+1/\
  Fi s (!B&&Ey s (AS s m B) 44) B (Cn s m B 44) (c++[t]) R:=by
 have d:=Gh s n K i;have u:=EV s m B 44;have g:B=K->n<m:=λq=>by
  have:=XR (s:=s) (at_:=n) (by rw[b];exact q);rw[b]at this;exact this
 have v:n<=m:=by
  cases B with
  |false=>have:=g rfl;omega
  |true=>
   have p:=Ck s n;(have e:m=(AN s n K).2.1:=by rw[b]);(have f:(AN s n K).2.2=T6:=by rw[b]);rw[e];unfold AN at f|-;simp only[ma,rm]at f|-;split
   .split
    .exact li
    .split
     .have y:=Ck s (Af s n);have o:=Cz AC s (Af s (Af s n));unfold A9;simp only[ma,rm];split<;>simp only<;>omega
     .have o:=Cz Aq s (Af s n);split<;>simp only<;>omega
   .exact p
 rw[b]at d;simp at d;have j:=Ec s m B 44 d;unfold Fi at h;simp at h;cases hm:(!B&&Ey s (AS s m B) 44)with
 |true=>
  have r:B=K:=by cases B<;>simp_all
  subst r;obtain⟨x,k⟩:=RR b i hm;refine⟨j,li,li,li,?_⟩;unfold Fi;rw[k]at h;exact li
 |false=>
  refine⟨j,li,ln,li,?_⟩;unfold Fi;rw[Nu b hm]at h;exact li
def Fi.done{c b}{d L}(h:Fi s c b n d (L,m,B))(e:(c&& !b)=K):d=L/\n=m/\b=B:=by
 unfold Fi at h;exact qr
set_option maxRecDepth 100000
theorem R2(b s g d w)(R:s.size<=1000000)(HV:g<=s.size)(hB:AF w b (B5 s g d) 73):rE rF 79 #[jj (V ⟨b,0,Y⟩)] w λe w'=>∃F,e=.returned (.agg (CN (A5 s g d).1.a F (A5 s g d).1.e).toArray)/\
   w'.ownsRow w.heap.size 93 2 F (Z (A5 s g d).1.qH) (qS AP (A5 s g d).1.qH)/\AF w' b (B5 s (A5 s g d).2.1 (A5 s g d).2.2) 73/\Ac [b] w w':=by
 obtain⟨i0,KK,H7,K1,JJ⟩:=mW Tryz.yK;have LD:=hB.lt;have FL:=G3 s g d HV;obtain⟨j,hj⟩:=kQ (AS s g d);obtain⟨T,y,D,B2⟩:∃T y D,A9 s j d=(T,y,D):=⟨_,_,_,rfl⟩;obtain⟨q,B,u⟩:∃q B,BM s y D 40=(q,B):=⟨_,_,rfl⟩;obtain⟨L,A,C,I⟩:∃L A C,Ez s (q,B)=(L,A,C):=⟨_,_,_,rfl⟩;obtain⟨a4,b4,x⟩:∃a4 b4,BM s A C 41=(a4,b4):=⟨_,_,rfl⟩;have hR:A5 s g d=(⟨T,L,j⟩,a4,b4):=by
  simp only[A5,hj,B2,u,I,x]
 rw[hR];rw[hj]at FL;have HG:y<=s.size:=by have:=IN s j d FL;rw[B2]at this;exact this
 have HZ:q<=s.size:=by have:=Ec s y D 40 HG;simp only[BM,mU]at u;omega
 have K9:A<=s.size:=by
  unfold Ez at I;split at I
  .simp only[mU]at I;omega
  .have:=Xp s q HZ;rw[I]at this;exact this
 have HJ:Hid (AS s g d=j/\A9 s j d=(T,y,D)/\BM s y D 40=(q,B)/\Ez s (q,B)=(L,A,C)/\BM s A C 41=(a4,b4)):=⟨hj,B2,u,I,x⟩;clear hR hj B2 u I x;go_enter func79,ntmps79;go_wp2_with fail
 refine(DY b s g d _ R HV (hB.alloc _)).G ?_;rintro e w1 ⟨rfl,W,hK⟩;rw[HJ.o.1]at W;have hn:=(kS w _ _).C hK li;have HL:=((kR [b] w).alloc _).H hK;clear hB hK;have K5:=W.lt;have H6:=hn.lt;have A2:=W.D 1;simp[B5]at A2;go_wp2_with fail
 refine(Om b s j d _ R FL ?_).G ?_
 .exact W.alloc _
 rintro e w2 ⟨rfl,FP,FA⟩;have AB:=(kS w1 _ _).C FA li;have H0:=(hn.alloc _).C FA li;have HT:=(HL.alloc _).H FA;rw[HJ.o.2.1]at FP|-;obtain⟨N,hN⟩:=kQ w1.heap.size;rw[hN]at AB|-;have LC:b<N:=lc
 have L0:w.heap.size<N:=lc
 clear HL W hn K5 H6 A2 FA hN;have B0:=AB.D 0;have Jx:=AB.qI 0;simp at B0;simp only;go_wp2_with fail
 refine(Sp b s y D 40 40 _ rfl R HG ?_).G ?_
 .exact FP.bW _ li _
 rintro e w3 ⟨rfl,Go,CL⟩;have CW:=(AB.set 0 _).C CL li;have HM:=(H0.bW _ li _).C CL li;have HN:=(HT.setCell (p:=⟨N,0,Y⟩) li _).H CL;have u:=HJ.o.2.2.1;simp only[BM,mU]at u;rw[u.1,u.2]at Go;simp only[lS]at CW;clear FP AB H0 HT CL B0 Jx u;go_wp2_with fail
 have K8:=CW.lt
 go_loopg [4] (2*(s.size-q)+(if(T6&& !B)=T6 then 1 else 0)) (λk IS wr=>∃(G E:rD) (a:Nat) (c:kN AK) (F:Value),IS=.bool G/\a<=s.size/\Z c<=a+1/\((G&& !E)=T6->Z c<=a)/\
  k=2*(s.size-a)+(if(G&& !E)=T6 then 1 else 0)/\Hid (Fi s G E a c (L,A,C))/\AF wr b (B5 s a E) 73/\AF wr N (CN T F j) 79/\AF wr w.heap.size [O ⟨#[]⟩,U Y 0 0,X .i64 0] 79/\
  wr.ownsRow (N+1) 93 2 F (Z c) (qS AP c)/\Ac [b] w wr)
 case atStart=>
  refine⟨T6,B,q,[],U Y 0 0,rfl,HZ,ln,ln,rfl,?_,Go,CW,HM,mw _ _ _ _,HN⟩;have h:=HJ.o.2.2.2.1;show Fi _ _ _ _ _ _;unfold Fi;unfold Ez at h;cases B with
  |true=>simpa using h
  |false=>simp at h;simp[h]
 case round=>
  obtain⟨G,E,a,c,F,rfl,ha,HP,HB,hk,CC,v,z,EX,r,BS⟩:=hrel;clear Go CW HM HN;have FC:Hid (gk=2*(s.size-a)+(if(G&& !E)=T6 then 1 else 0)):=hk;clear hk;cases G
  case' true=>
   cases E
   case' false=>
    have AR:=v.D 2;have A2:=z.D 1;have K4:=z.qI 1;simp[B5,CN]at AR A2;have JA:=z.lt;have KS:=v.lt;have Ix:Z c<=a:=HB rfl;clear HP HB;obtain⟨t,n,f,ht⟩:∃t n f,AN s a K=(t,n,f):=⟨_,_,_,rfl⟩;(have K7:n<=s.size:=by have:=Gh s a K ha;rw[ht]at this;exact this);have HS:=CC.o.step ht ha Ix;obtain⟨m,hm⟩:=kQ (!f&&Ey s (AS s n f) 44);obtain⟨l,HD⟩:=kQ (Cn s n f 44);rw[hm,HD]at HS;obtain⟨q1,q2,q3,q4,q5⟩:=HS;have HQ:Hid (AN s a K=(t,n,f)/\(!f&&Ey s (AS s n f) 44)=m/\Cn s n f 44=l/\l<=s.size/\Z (c++[t])<=l+1/\((m&& !f)=T6->Z (c++[t])<=l)/\2*(s.size-l)+(if(m&& !f)=T6 then 1 else 0)<gk/\Fi s m f l (c++[t]) (L,A,C)):=
     ⟨ht,hm,HD,q1,q2,q3,by have:=FC.o;simp at this;omega,q5⟩
    clear ht hm HD q1 q2 q3 q4 q5 FC CC;go_wp2_with fail
    go_region_law
     (first
      |(go_simp;go_at_call 127;refine(Sm b s a K _ R ha (by first|exact v|exact v.drew)).G ?_;rintro e wt ⟨rfl,FF,S⟩;rw[HQ.o.1]at FF|-;have AH:=z.drew.C S li;have HX:=AH.D 1;have K6:=AH.qI 1;have HI:=λo=>(AH.alloc o).D 1;simp[CN]at HX HI;simp only[AP])
      |(refine oJ _ lx _ _ _ lx (N+1) 93 i0 _ 2 24 underlying77 KK H7 K1 JJ rfl lc F (Z c) (qS AP c) lx ((Ad (CV r) S li).alloc _)
         ⟨wt.heap.size,0,Y⟩ 1 1 (AP t) lx lx (mz (mG wt _)) (by simp[Value.oneCell',AP])
         lc lw lc (by simp;have:=S.size;simp at this;omega) (wt.heap.size+1) ln ?_;intro M P w5 Ha AT KA KB;
        have EY:=(AH.alloc _).grown AT (A8 r N lc);have HW:=EY.D 1;have IA:=EY.qI 1;simp[CN]at HW))
    all_goals
     (go_wp2_with fail);have HY:=((FF.alloc _).grown AT (A8 r b lc)).bW ⟨N,1,Y⟩ li (U (V ⟨M,0,Y⟩) (Z c+1) P);have LL:=(Ha.lt M rfl).1;have H2:=EY.set 1 (U (V ⟨M,0,Y⟩) (Z c+1) P);have HO:=((((EX.drew).C S li).alloc _).grown AT (A8 r w.heap.size lc)).bW ⟨N,1,Y⟩ li (U (V ⟨M,0,Y⟩) (Z c+1) P);have HH:=(((BS.drew.H S).alloc _).grown AT (λk hk=>Or.inr (by have:=(r.lt k hk).1;omega))).setCell (p:=⟨N,1,Y⟩) li (U (V ⟨M,0,Y⟩) (Z c+1) P);have HK:=Ah Ha (p:=⟨N,1,Y⟩) (by simp[Value.ownBlock];omega) (U (V ⟨M,0,Y⟩) (Z c+1) P);clear Ha EY HW IA AT KA KB HX K6 HI AH FF S r BS EX z v A2 AR K4;refine(Og b s n f 44 44 _ rfl R K7 HY).G ?_;rintro e w6 ⟨rfl,A0,i⟩;have AO:=H2.C i li;have H:=HO.C i li;have FO:=HH.H i;have Q:=Ad HK i li;rw[HQ.o.2.2.1]at A0;rw[HQ.o.2.1];clear HY H2 HO HH HK i;go_wp2_with fail
     go_roundg (2*(s.size-l)+(if(m&& !f)=T6 then 1 else 0))
     case measure=>exact HQ.o.2.2.2.2.2.2.1
     case rel=>
      obtain⟨_,_,_,q1,q2,q3,_,q5⟩:=HQ.o;refine⟨m,f,l,c++[t],U (V ⟨M,0,Y⟩) (Z c+1) P,rfl,q1,q2,q3,rfl,q5,A0,AO,H,?_,FO⟩;simpa using Q
  all_goals
   obtain⟨rfl,rfl,rfl⟩:=CC.o.done rfl;obtain⟨ad,P,rfl⟩:=CX r;have AR:=v.D 2;simp[B5]at AR;have JA:=z.lt;have KS:=v.lt;clear HP HB FC CC;(go_wp2_with fail);refine(Sp b s a _ 41 41 _ rfl R ha v).G ?_;rintro e w6 ⟨rfl,A0,i⟩;have x:=HJ.o.2.2.2.2;simp only[BM,mU]at x;rw[x.1,x.2]at A0;have AO:=z.C i li;have H:=EX.C i li;have Q:=Ad r i li;have FO:=BS.H i;clear v z EX r BS i x AR;obtain⟨B0,K2,H4⟩:=AO.c3;obtain⟨KD,H5,H9⟩:=H.c3;have LM:=H.qI;simp[CN]at B0 K2 H4 KD H5 H9;go_wp2;refine mF (Cj rfl rfl (((H.set 0 _).set 1 _).set 2 _) underlying79 rfl lo) rfl ⟨_,rfl,?_,?_,?_⟩
   .exact Ah (Ah (Ah (Ak Q lc) (by simpa using A8 Q w.heap.size lc) _) (by simpa using A8 Q w.heap.size lc) _) (by simpa using A8 Q w.heap.size lc) _
   .exact((A0.bW _ li _).bW _ li _).bW _ li _
   .exact((FO.setCell ln _).setCell ln _).setCell ln _
def CF(s a):Af s (Af s a)=Af s a:=by
 fun_induction Af s a with
 |case1 a h hb ih=>exact ih
 |case2 a h hb=>rw[Af];simp[h,hb]
 |case3 a h=>rw[Af];simp[h]
structure Bt where
 b:rC
 A:Dp
 L:AK
 R:AK
 e:Nat
def E5:AK:=⟨0,ByteArray.empty⟩
def Hg:Dp:=⟨ByteArray.empty,[],0⟩
def Cy(x:Bt)(av:Value):kN Value:=[X .u8 x.b.toNat,O x.A.a,av,X .i64 x.A.e,X .u8 x.L.v.toNat,O x.L.s,X .u8 x.R.v.toNat,O x.R.s,X .i64 x.e]
def Nr(s:bN)(j:Nat):rD:= !(A9 s j K).2.2&&Ey s (AS s (A9 s j K).2.1 (A9 s j K).2.2) 40
def F3(s:bN)(j:Nat):rD:=if h:j<s.size then AC s[j] else K
def C2(s:bN)(i:Nat):rC:=if h:i<s.size then s[i] else 0
def Jh(s:bN)(j a3:Nat)(t:AK)(b2:rD):Bt×Nat×rD:=
 if !b2&&(Ey s a3 61||Ey s a3 35||Ey s a3 60)then
  (⟨C2 s a3,Hg,t,(AN s (a3+1) K).1,j⟩,(AN s (a3+1) K).2)
 else(⟨0,Hg,t,E5,j⟩,a3,T6)
def DO(s:bN)(at_:Nat):Bt×Nat×rD:=
 let j:=Af s at_
 if Ey s j 33 then(⟨33,(A5 s (j+1) K).1,E5,E5,j⟩,(A5 s (j+1) K).2)
 else if F3 s j&&Nr s j then(⟨97,(A5 s j K).1,E5,E5,j⟩,(A5 s j K).2)
 else Jh s j (AS s (AN s j K).2.1 (AN s j K).2.2) (AN s j K).1 (AN s j K).2.2
theorem iz(b s d j w)(u:s.size<=1000000)(AB:d<=s.size)(z:Af s d=j)(m:Ey s j 33=T6)(A:AF w b (B5 s d K) 73):rE rF 129 #[jj (V ⟨b,0,Y⟩)] w λe n=>∃y,e=.returned (.agg (Cy ⟨33,(A5 s (j+1) K).1,E5,E5,j⟩ y).toArray)/\
   n.ownsRow w.heap.size 93 2 y (Z (A5 s (j+1) K).1.qH) (qS AP (A5 s (j+1) K).1.qH)/\AF n b (B5 s (A5 s (j+1) K).2.1 (A5 s (j+1) K).2.2) 73/\Ac [b] w n:=by
 have E0:=A.lt;have EX:=Gc m;have t:AS s j K=j:=by rw[<-z];exact CF s d
 have D:Cn s j K 33=j+1:=by unfold Cn;rw[t,m];rfl
 have B:(!false&&Ey s (AS s j K) 33)=T6:=by rw[t,m];rfl
 have o:Hid (Af s d=j/\Cn s j K 33=j+1/\(!false&&Ey s (AS s j K) 33)=T6):=⟨z,D,B⟩;clear z m t D B;go_enter func129,ntmps129;go_wp2_with fail
 refine(DY b s d K _ u AB (A.alloc _)).G ?_;rintro e C ⟨rfl,h,q⟩;rw[show AS s d K=j from o.o.1]at h
 have x:=(kS w _ _).C q li;have L:=((kR [b] w).alloc _).H q;clear A q;have DT:=h.lt;have W:=x.lt;have P:=h.D 1;simp[B5]at P;go_wp2_with fail
 refine(Og b s j K 33 33 _ rfl u lc (h.alloc _)).G ?_;rintro e w2 ⟨rfl,v,l⟩;rw[o.o.2.1]at v;rw[o.o.2.2];have f:=(kS C _ _).C l li;have G:=(x.alloc _).C l li;have E:=(L.alloc _).H l;obtain⟨N,M⟩:=kQ C.heap.size;rw[M]at f|-;have ES:b<N:=lc
 have FC:w.heap.size<N:=lc
 clear L h x DT W P l M;have H:=f.D 0;have Ax:=f.qI 0;simp at H;go_wp2_with fail
 refine(R2 b s (j+1) K _ u lc (v.bW _ li _)).G ?_;rintro e w3 ⟨y,rfl,i,EK,g⟩;have F:=(f.set 0 _).C g li;have r:=(G.bW _ li _).C g li;have AH:=g.size;have FA:=f.lt;simp only[World.size_setCell]at AH i;have Bx:=(E.setCell (p:=⟨N,0,Y⟩) li _).H g;clear v f G E g H Ax;obtain⟨ad,FB,rfl⟩:=CX i;have a:=F.D;have EY:=F.qI;have c:=r.D;have FO:=r.qI;simp only[CN];have Q:=a 0;have e1:=a 1;have e2:=a 2;have e3:=a 3;have e4:=a 4;have R:=a 5;have e6:=a 6;have T:=a 7;have e8:=a 8;have f0:=c 0;have f1:=c 1;have f2:=c 2;have f3:=c 3;have f4:=c 4;have f5:=c 5;have f6:=c 6;have f7:=c 7;have S:=c 8;simp at Q e1 e2 e3 e4 R e6 T e8 f0 f1 f2 f3 f4 f5 f6 f7 S;clear a c;go_wp2;have I:=λk hk=>A8 i k hk
 refine mF (Cj rfl rfl ((((((((((((r.bW _ li _).bW _ li _).bW _ li _).set 0 _).set 1 _).set 2 _).set 3 _).set 4 _).set 5 _).set 6 _).set 7 _).set 8 _) underlying95 rfl lo) rfl ⟨_,rfl,?_,?_,?_⟩
 .repeat (refine Ah ?_ (by have:=I w.heap.size lc;have:=I N lc;assumption) _)
  exact Ak i lc
 .repeat (refine AF.bW ?_ _ li _)
  exact EK
 .repeat (refine Ac.setCell ?_ (by simp;try omega) _)
  exact Bx
theorem gc(b s d j w)(o:s.size<=1000000)(BT:d<=s.size)(D:Af s d=j)(C:Ey s j 33=K)(HI)(hl:AC s[j]=T6)(ho:Hid (Nr s j=T6))(H:AF w b (B5 s d K) 73):rE rF 129 #[jj (V ⟨b,0,Y⟩)] w λe M=>∃G,e=.returned (.agg (Cy ⟨97,(A5 s j K).1,E5,E5,j⟩ G).toArray)/\
   M.ownsRow w.heap.size 93 2 G (Z (A5 s j K).1.qH) (qS AP (A5 s j K).1.qH)/\AF M b (B5 s (A5 s j K).2.1 (A5 s j K).2.2) 73/\Ac [b] w M:=by
 have HP:=H.lt;have HV:j<=s.size:=by have:=BI s d BT;omega
 have B:AS s j K=j:=by rw[<-D];exact CF s d
 have AB:Cn s j K 33=j:=by unfold Cn;rw[B,C];rfl
 have Ax:(!false&&Ey s (AS s j K) 33)=K:=by rw[B,C];rfl
 have z:Hid (Af s d=j/\Cn s j K 33=j/\(!false&&Ey s (AS s j K) 33)=K):=⟨D,AB,Ax⟩;clear D C B AB Ax;go_enter func129,ntmps129;go_wp2_with fail
 refine(DY b s d K _ o BT (H.alloc _)).G ?_;rintro e w1 ⟨rfl,l,P⟩;rw[show AS s d K=j from z.o.1]at l
 have R:=(kS w _ _).C P li;have W:=((kR [b] w).alloc _).H P;clear H P;have HG:=l.lt;have DT:=R.lt;have t:=l.D 1;simp[B5]at t;go_wp2_with fail
 refine(Og b s j K 33 33 _ rfl o lc (l.alloc _)).G ?_;rintro e S ⟨rfl,g,A⟩;rw[z.o.2.1]at g;rw[z.o.2.2];have u:=(kS w1 _ _).C A li;have Q:=(R.alloc _).C A li;have x:=(W.alloc _).H A;obtain⟨N,hN⟩:=kQ w1.heap.size;rw[hN]at u|-;have HM:b<N:=lc
 have HZ:w.heap.size<N:=lc
 clear W l R HG DT t A hN z;have HQ:=u.lt;have HU:=g.lt;have HL:=Q.lt;obtain⟨A1,t,AT⟩:=g.c3;simp[B5]at A1 t AT;have HX:(j:Int)<(s.size:Int):=lc
 obtain⟨E,i,f,v⟩:∃E i f,A9 s j K=(E,i,f):=⟨_,_,_,rfl⟩;have E0:i<=s.size:=by have:=IN s j K lc;rw[v]at this;exact this
 have A0:(!f&&Ey s (AS s i f) 40)=T6:=by have h:=ho.o;unfold Nr at h;rw[v]at h;exact h
 have F:Hid (A9 s j K=(E,i,f)/\(!f&&Ey s (AS s i f) 40)=T6):=⟨v,A0⟩;clear v A0;go_wp2_with fail
 go_quiet ((go_at_call 169;exact pq (JD _ s[j] _ rfl)))
 go_wp2_with fail
 go_region
 go_wp2_with fail
 refine(Om S.heap.size s j K _ o lc (kS (S.drewN _) (B5 s j K) 73)).G ?_;rintro e w3 ⟨rfl,I,q⟩;rw[F.o.1]at I|-;have AR:=((g.drewN _).alloc _).C q li;have A2:=((u.drewN _).alloc _).C q li;have AH:=((Q.drewN _).alloc _).C q li;have AO:=((x.drewN _).alloc _).trans' q (by have:=x.size;simp;omega);clear g u Q q A1 t AT;simp only;go_wp2_with fail
 refine(Sf S.heap.size s i f 40 40 _ rfl o E0 I).G ?_;rintro e w4 ⟨rfl,_,m⟩;have B9:=AR.C m li;have r:=A2.C m li;have BA:=AH.C m li;have B2:=AO.trans' m (by have:=x.size;simp;omega);rw[F.o.2];clear AR A2 AH AO m I F x;have T:=r.D 0;have FO:=r.qI 0;simp at T;have HH:=r.lt;go_wp2_with fail
 refine(R2 b s j K _ o lc (B9.bW _ li _)).G ?_;rintro e w5 ⟨G,rfl,y,HC,n⟩;have B0:=(r.set 0 _).C n li;have L:=(BA.bW _ li _).C n li;have Ha:=n.size;simp only[World.size_setCell]at Ha y;have CW:=(B2.setCell (p:=⟨N,0,Y⟩) li _).H n;clear B9 r BA B2 n T FO;obtain⟨ad,HY,rfl⟩:=CX y;have a:=B0.D;have HN:=B0.qI;have c:=L.D;have HT:=L.qI;simp only[CN];have e0:=a 0;have e1:=a 1;have e2:=a 2;have e3:=a 3;have e4:=a 4;have e5:=a 5;have e6:=a 6;have e7:=a 7;have e8:=a 8;have f0:=c 0;have f1:=c 1;have f2:=c 2;have f3:=c 3;have f4:=c 4;have f5:=c 5;have f6:=c 6;have f7:=c 7;have f8:=c 8;simp at e0 e1 e2 e3 e4 e5 e6 e7 e8 f0 f1 f2 f3 f4 f5 f6 f7 f8;clear a c;go_wp2;have Bx:=λk hk=>A8 y k hk
 refine mF (Cj rfl rfl ((((((((((((L.bW _ li _).bW _ li _).bW _ li _).set 0 _).set 1 _).set 2 _).set 3 _).set 4 _).set 5 _).set 6 _).set 7 _).set 8 _) underlying95 rfl lo) rfl ⟨_,rfl,?_,?_,?_⟩
 .repeat (refine Ah ?_ (by have:=Bx w.heap.size lc;have:=Bx N lc;assumption) _)
  exact Ak y lc
 .repeat (refine AF.bW ?_ _ li _)
  exact HC
 .repeat (refine Ac.setCell ?_ (by simp;try omega) _)
  exact CW
end
section
variable{s:bN}{i j n:Nat}
def cJ(s j a t):Jh s j a t T6=(⟨0,Hg,t,E5,j⟩,a,T6):=by simp[Jh]
def ia(h:¬i<s.size)(c):Ey s i c=K:=by simp[Ey,h]
def dO{t}(h:¬n<s.size):Jh s j n t K=(⟨0,Hg,t,E5,j⟩,n,T6):=by simp[Jh,ia h]
def Jm(h c):Ey s i c=((s[i].toNat:Int)==(c.toNat:Int)):=by rw[Cu];simp[Ey,h]
def bA{t}(h)(a:((s[n].toNat:Int)==61)=K)(b:((s[n].toNat:Int)==35)=K)(c:((s[n].toNat:Int)==60)=K):
  Jh s j n t K=(⟨0,Hg,t,E5,j⟩,n,T6):=by
 unfold Jh;rw[Jm h 61,Jm h 35,Jm h 60];exact qr
def VK{t}(h)(a:((s[n].toNat:Int)==61)=T6\/((s[n].toNat:Int)==35)=T6\/((s[n].toNat:Int)==60)=T6):
  Jh s j n t K=(⟨s[n],Hg,t,(AN s (n+1) K).1,j⟩,(AN s (n+1) K).2):=by
 unfold Jh C2;rw[Jm h 61,Jm h 35,Jm h 60,dif_pos h];exact qy
def cD(h:¬j<s.size):(AN s j K).2.2=T6:=by
 have a:=Ck s j;unfold AN;rw[dif_neg lc];rfl
def Yv(s j a t d):
  (Jh s j a t d=(⟨0,Hg,t,E5,j⟩,a,T6)/\(d=T6\/(d=K/\¬a<s.size)\/(d=K/\∃h,((s[a].toNat:Int) !=61)=T6/\((s[a].toNat:Int) !=35)=T6/\((s[a].toNat:Int) !=60)=T6)))\/
  (d=K/\∃h,Jh s j a t d=(⟨s[a],Hg,t,(AN s (a+1) K).1,j⟩,(AN s (a+1) K).2)/\(((s[a].toNat:Int) !=61)=K\/(((s[a].toNat:Int) !=61)=T6/\((s[a].toNat:Int) !=35)=K)\/(((s[a].toNat:Int) !=61)=T6/\((s[a].toNat:Int) !=35)=T6/\((s[a].toNat:Int) !=60)=K))):=by
 have b:∀{x:Int} {c:Int} {v:rD},(x==c)=v->(x !=c)= !v:=λh=>by simp only[bne,h]
 cases d
 .by_cases h:a<s.size
  .cases k1:((s[a].toNat:Int)==61)
   .cases k2:((s[a].toNat:Int)==35)
    .cases k3:((s[a].toNat:Int)==60)
     .exact j2 ⟨bA h k1 k2 k3,j3 (j3 ⟨rfl,h,b k1,b k2,b k3⟩)⟩
     .exact j3 ⟨rfl,h,VK h (j3 (j3 k3)),j3 (j3 ⟨b k1,b k2,b k3⟩)⟩
    .exact j3 ⟨rfl,h,VK h (j3 (j2 k2)),j3 (j2 ⟨b k1,b k2⟩)⟩
   .exact j3 ⟨rfl,h,VK h (j2 k1),j2 (b k1)⟩
  .exact j2 ⟨dO h,j3 (j2 ⟨rfl,h⟩)⟩
 .exact j2 ⟨cJ s j a t,j2 rfl⟩
set_option maxRecDepth 100000
theorem iW(b s l j w t R d f)(u:s.size<=1000000)(HU:l<=s.size)(hj:Af s l=j)(hx:Ey s j 33=K)(ho:Hid ((F3 s j&&Nr s j)=K))(S:Hid (AN s j K=(t,R,f)/\AS s R f=d))(hB:AF w b (B5 s l K) 73):rE rF 129 #[.pointer (some ⟨b,0,Y⟩)] w λe G=>∃av,e=.returned (.agg (Cy (Jh s j d t f).1 av).toArray)/\
   G.ownsRow w.heap.size 93 2 av (Jh s j d t f).1.A.qH.length (qS AP (Jh s j d t f).1.A.qH)/\AF G b (B5 s (Jh s j d t f).2.1 (Jh s j d t f).2.2) 73/\Ac [b] w G:=by
 have HD:=Ab (Yv s j d t f);have HB:Hid (j<s.size\/f=T6):=by
  by_cases h:j<s.size
  .exact j2 h
  .have h1:=cD h;rw[S.o.1]at h1;exact j3 h1
 generalize Jh s j d t f=Z at HD|-;have LB:=hB.lt;have L0:j<=s.size:=by have:=BI s l HU;omega
 have Bx:AS s j K=j:=by rw[<-hj];exact CF s l
 have HH:Cn s j K 33=j:=by unfold Cn;rw[Bx,hx];rfl
 have HG:(!false&&Ey s (AS s j K) 33)=K:=by rw[Bx,hx];rfl
 have HJ:Hid (Af s l=j/\Cn s j K 33=j/\(!false&&Ey s (AS s j K) 33)=K):=⟨hj,HH,HG⟩;clear hj hx Bx HH HG;go_enter func129,ntmps129;go_wp2_with fail
 refine(DY b s l K _ u HU (hB.alloc _)).G ?_;rintro e w1 ⟨rfl,I,hK⟩;rw[show AS s l K=j from HJ.o.1]at I
 have hn:=(kS w _ _).C hK li;have HF:=((kR [b] w).alloc _).H hK;clear hB hK;have IS:=I.lt;have H3:=hn.lt;have i:=I.D 1;simp[B5]at i;go_wp2_with fail
 refine(Og b s j K 33 33 _ rfl u lc (I.alloc _)).G ?_;rintro e w2 ⟨rfl,g,A0⟩;rw[HJ.o.2.1]at g;rw[HJ.o.2.2];have n:=(kS w1 _ _).C A0 li;have x:=(hn.alloc _).C A0 li;have q:=(HF.alloc _).H A0;obtain⟨N,hN⟩:=kQ w1.heap.size;rw[hN]at n|-;have K8:b<N:=lc
 have Mo:w.heap.size<N:=lc
 clear HF I hn IS H3 i A0 hN HJ;have LD:=n.lt;have LS:=g.lt;have K6:=x.lt;obtain⟨v,i,r⟩:=g.c3;simp[B5]at v i r;have hL:(∃h:j<s.size,AC s[j]=T6)\/(∃h:j<s.size,AC s[j]=K)\/¬j<s.size:=by
  by_cases h:j<s.size
  .cases Q:AC s[j]
   .exact j3 (j2 ⟨h,Q⟩)
   .exact j2 ⟨h,Q⟩
  .exact j3 (j3 h)
 rcases hL with⟨M,Q⟩|⟨M,Q⟩|M
 case' inl=>
  have IA:(j:Int)<(s.size:Int):=lc
  obtain⟨wd,y,m,AH⟩:∃wd y m,A9 s j K=(wd,y,m):=⟨_,_,_,rfl⟩;have H8:y<=s.size:=by have:=IN s j K lc;rw[AH]at this;exact this
  have HM:(!m&&Ey s (AS s y m) 40)=K:=by have h:=ho.o;rw[show F3 s j=T6 by unfold F3;simp[M,Q],nQ]at h;unfold Nr at h;rw[AH]at h;exact h
  have HW:Hid (A9 s j K=(wd,y,m)/\(!m&&Ey s (AS s y m) 40)=K):=⟨AH,HM⟩;clear AH HM;go_wp2_with fail
  go_quiet ((go_at_call 169;exact pq (JD _ s[j] _ rfl)))
  go_wp2_with fail
  go_region
  go_wp2_with fail
  refine(Om w2.heap.size s j K _ u lc (kS (w2.drewN _) (B5 s j K) 73)).G ?_;rintro e w3 ⟨rfl,EX,P⟩;rw[HW.o.1]at EX|-;have HL:=((g.drewN _).alloc _).C P li;have HQ:=((n.drewN _).alloc _).C P li;have HI:=((x.drewN _).alloc _).C P li;have HK:=((q.drewN _).alloc _).trans' P (by have:=q.size;simp;omega);clear g n x P v i r;simp only;go_wp2_with fail
  refine(Sf w2.heap.size s y m 40 40 _ rfl u H8 EX).G ?_;rintro e w4 ⟨rfl,_,L⟩;have H:=HL.C L li;have F:=HQ.C L li;have E:=HI.C L li;have W:=HK.trans' L (by have:=q.size;simp;omega);rw[HW.o.2];clear HL HQ HI HK L EX HW q
 case' inr.inl=>
  have IA:(j:Int)<(s.size:Int):=lc
  go_wp2_with fail
  go_quiet ((go_at_call 169;exact pq (JD _ s[j] _ rfl)))
  have H:=g.drewN nq;have F:=n.drewN nq;have E:=x.drewN nq;have W:=q.drewN nq;clear g n x q v i r
 case' inr.inr=>
  have H6:decide ((j:Int)<(s.size:Int))=K:=li
  have JA:decide (j<s.size)=K:=li
  go_wp2_with fail
  go_quiet (fail)
  have H:=g.drewN nq;have F:=n.drewN nq;have E:=x.drewN nq;have W:=q.drewN nq;clear g n x q v i r H6 JA
 all_goals
  have K3:=F.lt;have KK:=H.lt;have LL:=E.lt;have HZ:R<=s.size:=by have:=Gh s j K lc;rw[S.o.1]at this;exact this
  have K4:d<=s.size:=by have:=G3 s R f HZ;rw[S.o.2]at this;exact this
  go_wp2_with fail
  refine(Sm b s j K _ u lc (by first|exact H|exact H.drewN _)).G ?_;rintro e w5 ⟨rfl,FO,AB⟩;rw[S.o.1]at FO|-;have T:=AF.C (by first|exact F|exact F.drewN _) AB li;have HP:=AF.C (by first|exact E|exact E.drewN _) AB li;have HE:=Ac.H (by first|exact W|exact W.drewN _) AB;clear H F E W AB;have D:=T.D 4;have B:=T.D 5;have H7:=T.qI;simp at D B;simp only[AP];go_wp2_with fail
  refine(DY b s R f _ u HZ ((FO.bW _ li _).bW _ li _)).G ?_;rintro e w6 ⟨rfl,k,Ax⟩;rw[S.o.2]at k;have o:=((T.set 4 _).set 5 _).C Ax li;have C:=((HP.bW _ li _).bW _ li _).C Ax li;have DT:=((HE.setCell (p:=⟨N,4,Y⟩) li _).setCell (p:=⟨N,5,Y⟩) li _).H Ax;clear FO T HP HE Ax D B H7;simp only[lS,lT]at o;have K1:=k.lt;have LE:=C.lt;have KD:=o.lt;obtain⟨v,i,r⟩:=k.c3;have H5:=k.qI;simp[B5]at v i r;have KA:¬N=b:=lc
  have K2:¬b=N:=lc
  rcases Aa HD with⟨rfl,hD⟩|⟨rfl,HR,rfl,hD⟩
  .clear HD;rcases hD with rfl|⟨rfl,HR⟩|⟨rfl,HR,k1,k2,k3⟩;all_goals try (have h:=Aa HB;simp[M]at h;done)
   all_goals
    try have H1:(d:Int)<(s.size:Int):=lc
    try have EY:decide ((s.size:Int)<=(d:Int))=K:=li
    try have FW:decide (s.size<=d)=K:=li
    try have EY:decide ((s.size:Int)<=(d:Int))=T6:=li
    try have FW:decide (s.size<=d)=T6:=li
    go_wp2_with fail
    go_quiet (fail)
    have a:=o.D;have CL:=o.qI;have c:=C.D;have Ix:=C.qI;have z:=a 0;have e1:=a 1;have e2:=a 2;have e3:=a 3;have D:=a 4;have B:=a 5;have e6:=a 6;have e7:=a 7;have e8:=a 8;have f0:=c 0;have f1:=c 1;have f2:=c 2;have f3:=c 3;have f4:=c 4;have f5:=c 5;have f6:=c 6;have f7:=c 7;have f8:=c 8;simp at z e1 e2 e3 D B e6 e7 e8 f0 f1 f2 f3 f4 f5 f6 f7 f8;clear a c;go_wp2;refine mF (Cj rfl rfl (((((((((((C.drewN _).bW _ li _).set 0 _).set 1 _).set 2 _).set 3 _).set 4 _).set 5 _).set 6 _).set 7 _).set 8 _) underlying95 rfl lo) rfl ⟨_,rfl,mw _ _ _ _,?_,?_⟩
    .repeat (refine AF.bW ?_ _ li _)
     exact(k.drewN _).set 2 _
    .repeat (refine Ac.setCell ?_ (by simp;try omega) _)
     exact DT.drewN _
  .clear HD;have H1:(d:Int)<(s.size:Int):=lc;have EY:decide ((s.size:Int)<=(d:Int))=K:=li;have FW:decide (s.size<=d)=K:=li;rcases hD with p1|⟨p1,p2⟩|⟨p1,p2,p3⟩;all_goals try (have h:=Aa HB;simp[M]at h;done)
   all_goals
    go_wp2_with fail
    go_quiet (fail)
    have z:=o.D 0;have CL:=o.qI 0;simp at z;clear EY FW;go_wp2_with fail
    go_region_held3 (λG=>G.cell? ⟨b,0,Y⟩=some (.string s)/\G.cell? ⟨b,1,Y⟩=some (.int .i64 d)) (go_keep) (fail)
    clear z CL;(go_wp2_with fail);refine(Sm b s (d+1) K _ u lc (((k.drewN _).bW ⟨N,0,Y⟩ li _).set 1 _)).G ?_;rintro e w7 ⟨rfl,IJ,AR⟩;have HO:=(((o.drewN _).set 0 _).bW ⟨b,1,Y⟩ li _).C AR li;have FT:=(((C.drewN _).bW ⟨N,0,Y⟩ li _).bW ⟨b,1,Y⟩ li _).C AR li;have Jx:=(((DT.drewN _).setCell (p:=⟨N,0,Y⟩) li _).setCell (p:=⟨b,1,Y⟩) ln _).H AR;clear k o C DT AR v i r H5;have a:=HO.D;have CL:=HO.qI;have c:=FT.D;have Ix:=FT.qI;simp only[AP];have z:=a 0;have e1:=a 1;have e2:=a 2;have e3:=a 3;have D:=a 4;have B:=a 5;have e6:=a 6;have e7:=a 7;have e8:=a 8;have f0:=c 0;have f1:=c 1;have f2:=c 2;have f3:=c 3;have f4:=c 4;have f5:=c 5;have f6:=c 6;have f7:=c 7;have f8:=c 8;simp at z e1 e2 e3 D B e6 e7 e8 f0 f1 f2 f3 f4 f5 f6 f7 f8;clear a c;go_wp2;refine mF (Cj rfl rfl (((((((((((FT.bW _ li _).bW _ li _).set 0 _).set 1 _).set 2 _).set 3 _).set 4 _).set 5 _).set 6 _).set 7 _).set 8 _) underlying95 rfl lo) rfl ⟨_,rfl,mw _ _ _ _,?_,?_⟩
    .repeat (refine AF.bW ?_ _ li _)
     exact IJ
    .repeat (refine Ac.setCell ?_ (by simp;try omega) _)
     exact Jx
end
variable{s:bN}{n m k:Nat}{B:rD}{g:rC}
def iO(b s a w)(m:s.size<=1000000)(i:a<=s.size)(l:AF w b (B5 s a K) 73):
  rE rF 129 #[.pointer (some ⟨b,0,none⟩)] w λe k=>∃q,e=.returned (.agg (Cy (DO s a).1 q).toArray)/\
   k.ownsRow w.heap.size 93 2 q (DO s a).1.A.qH.length (qS AP (DO s a).1.A.qH)/\AF k b (B5 s (DO s a).2.1 (DO s a).2.2) 73/\Ac [b] w k:=by
 obtain⟨j,c⟩:=kQ (Af s a);cases hx:Ey s j 33 with
 |true=>
  have e:DO s a=(⟨33,(A5 s (j+1) K).1,E5,E5,j⟩,(A5 s (j+1) K).2):=by unfold DO;simp only[c,hx,ro]
  rw[e];exact iz b s a j w m i c hx l
 |false=>
  cases hlo:(F3 s j&&Nr s j)with
  |true=>
   (have e:DO s a=(⟨97,(A5 s j K).1,E5,E5,j⟩,(A5 s j K).2):=by unfold DO;simp only[c,hx,hlo,ro,ma,rm]);rw[e];simp at hlo;have n:j<s.size:=by
    have h:=hlo.1;unfold F3 at h;split at h
    .assumption
    .cases h
   (have r:AC s[j]=T6:=by have h:=hlo.1;unfold F3 at h;simpa[n] using h);exact gc b s a j w m i c hx n r hlo.2 l
  |false=>
   obtain⟨t,f,d,p⟩:∃t f d,AN s j K=(t,f,d):=⟨_,_,_,rfl⟩;obtain⟨g,o⟩:=kQ (AS s f d);(have e:DO s a=Jh s j g t d:=by unfold DO;simp only[c,hx,hlo,p,o,ma,rm]);rw[e];exact iW b s a j w t f g d m i c hx hlo ⟨p,o⟩ l
def KN(s a b):a<=AS s a b:=by
 unfold AS;split
 .exact mt _
 .exact Ck s a
def Sv(s a b):a<=(A9 s a b).2.1:=by
 have c:=Ck s a;have d:=Cz AC s (Af s a);unfold A9;split
 .exact mt _
 .split<;>simp only<;>omega
def LU(s a c):a<=(AN s a c).2.1:=by
 have b:=Ck s a;have d:=Cz Aq s (Af s a);have e:=Sv s (Af s a) K;unfold AN;split
 .exact mt _
 .split
  .split
   .exact li
   .split
    .exact li
    .split<;>simp only<;>omega
  .exact b
def fi(s a):a<=(CO s a).2.1:=by
 fun_induction CO s a with
 |case1 a hc _ _ ih=>exact li
 |case2 a hc=>
  have b:=LU s a K;have c:=EV s (AN s a K).2.1 (AN s a K).2.2 44;exact li
def Xa(s p):p.1<=(Ez s p).2.1:=by
 unfold Ez;split
 .exact mt _
 .exact fi s p.1
def ex(s p)(h:p.1<=s.size):(Ez s p).2.1<=s.size:=by
 unfold Ez;split
 .exact h
 .exact Xp s p.1 h
def Ub(h:(BM s n B g).2=K):n<(BM s n B g).1:=by
 unfold BM Cn at*;have:=KN s n B;have a:(!B&&Ey s (AS s n B) g)=T6:=sE
 rw[mo a];omega
def LN(s b a):b<=(A5 s b a).2.1:=by
 have f:=KN s b a;have d:=Sv s (AS s b a) a;have h:=EV s (A9 s (AS s b a) a).2.1 (A9 s (AS s b a) a).2.2 40;have e:=Xa s (BM s (A9 s (AS s b a) a).2.1 (A9 s (AS s b a) a).2.2 40);have g:=EV s (Ez s (BM s (A9 s (AS s b a) a).2.1 (A9 s (AS s b a) a).2.2 40)).2.1 (Ez s (BM s (A9 s (AS s b a) a).2.1 (A9 s (AS s b a) a).2.2 40)).2.2 41;have c:(BM s _ _ 40).1=Cn s (A9 s (AS s b a) a).2.1 (A9 s (AS s b a) a).2.2 40:=rfl;show b<=Cn s _ _ 41;omega
def fJ(h:(A5 s n B).2.2=K):n<(A5 s n B).2.1:=by
 unfold A5 at h|-;simp at h|-;have d:=KN s n B;have b:=Sv s (AS s n B) B;have f:=EV s (A9 s (AS s n B) B).2.1 (A9 s (AS s n B) B).2.2 40;have c:=Xa s (BM s (A9 s (AS s n B) B).2.1 (A9 s (AS s n B) B).2.2 40);have e:=Ub h;have a:(BM s _ _ 40).1=Cn s (A9 s (AS s n B) B).2.1 (A9 s (AS s n B) B).2.2 40:=rfl;omega
def JN(s a b)(h:a<=s.size):(A5 s a b).2.1<=s.size:=by
 exact Ec _ _ _ _ (ex _ _ (Ec _ _ _ _ (IN _ _ _ (G3 _ _ _ h))))
def MD(s a)(h:a<=s.size):(DO s a).2.1<=s.size:=by
 have c:=BI s a h;unfold DO;simp only;split
 .rename_i f;have:=Gc f;exact JN _ _ _ lc
 .split
  .exact JN _ _ _ c
  .have e:=G3 s _ (AN s (Af s a) K).2.2 (Gh s _ K c);unfold Jh;split
   .rename_i d;simp only[mC,nN]at d;have:AS s (AN s (Af s a) K).2.1 (AN s (Af s a) K).2.2<s.size:=by
     rcases d.2 with(b|b)|b<;>exact Gc b
    exact Gh _ _ _ lc
   .exact e
def bw(s a):a<=(DO s a).2.1:=by
 have b:=Ck s a;unfold DO;simp only;split
 .have:=LN s (Af s a+1) K;exact li
 .split
  .have:=LN s (Af s a) K;exact li
  .have c:=LU s (Af s a) K;have d:=KN s (AN s (Af s a) K).2.1 (AN s (Af s a) K).2.2;unfold Jh;split
   .have:=LU s (AS s (AN s (Af s a) K).2.1 (AN s (Af s a) K).2.2+1) K;exact li
   exact li
def aI{at_}(h:(DO s at_).2.2=K):at_<(DO s at_).2.1:=by
 have e:=Ck s at_;unfold DO at h|-;simp only at h|-;split
 .have:=LN s (Af s at_+1) K;exact li
 .rename_i c;simp only[c,ma,rm]at h;split
  .rename_i a;simp only[a,ro]at h;have:=fJ h;exact li
  .have d:=LU s (Af s at_) K;have f:=KN s (AN s (Af s at_) K).2.1 (AN s (Af s at_) K).2.2;unfold Jh at h|-;split
   .have:=LU s (AS s (AN s (Af s at_) K).2.1 (AN s (Af s at_) K).2.2+1) K;exact li
   exact qr
def By(s:bN)(at_:Nat):kN Bt×Nat×rD:=
 if h:(!(DO s at_).2.2&&Ey s (AS s (DO s at_).2.1 (DO s at_).2.2) 44)=T6/\at_<Cn s (DO s at_).2.1 (DO s at_).2.2 44/\at_<s.size then
  have _h1:at_<s.size:=h.2.2;have _h2:=h.2.1
  ((DO s at_).1::(By s (Cn s (DO s at_).2.1 (DO s at_).2.2 44)).1,(By s (Cn s (DO s at_).2.1 (DO s at_).2.2 44)).2)
 else([(DO s at_).1],Cn s (DO s at_).2.1 (DO s at_).2.2 44,(DO s at_).2.2)
def Rm{at_ a}{x}(b:DO s at_=(x,a,B))(g:at_<=s.size)(e:(!B&&Ey s (AS s a B) 44)=T6):
  at_<Cn s a B 44/\By s at_=(x::(By s (Cn s a B 44)).1,(By s (Cn s a B 44)).2):=by
 have f:B=K:=by cases B<;>simp_all
 subst f;have d:=aI (s:=s) (at_:=at_) (by rw[b]);have c:=MD s at_ g;rw[b]at d c;simp at d c;have h:=EV s a K 44;refine⟨lc,?_⟩
 conv=>lhs;rw[By]
 exact qy
def NG{x}(c:DO s n=(x,m,B))(b:(!B&&Ey s (AS s m B) 44)=K):
  By s n=([x],Cn s m B 44,B):=by
 conv=>lhs;rw[By]
 exact qr
def Ss(s a)(h:a<=s.size):(By s a).2.1<=s.size:=by
 fun_induction By s a with
 |case1 a hc _ _ ih=>exact ih (Ec _ _ _ _ (MD _ _ h))
 |case2 a hc=>exact Ec _ _ _ _ (MD _ _ h)
def Xt(s a):a<=(By s a).2.1:=by
 fun_induction By s a with
 |case1 a hc _ _ ih=>exact li
 |case2 a hc=>
  have b:=bw s a;have c:=EV s (DO s a).2.1 (DO s a).2.2 44;exact li
def EO(s:bN)(mb bd:rD)(a:Nat)(acc:kN Bt)(R:kN Bt×Nat×rD):Prop:=
 if(mb&& !bd)=T6 then(acc++(By s a).1,(By s a).2)=R else(acc,a,bd)=R
def EO.step{c}{R}{t}(h:EO s T6 K n c R)(b:DO s n=(t,m,B))(e:n<=s.size)(p:c.length<=n):
  Cn s m B 44<=s.size/\(c++[t]).length<=Cn s m B 44+1/\(((!B&&Ey s (AS s m B) 44)&& !B)=T6->(c++[t]).length<=Cn s m B 44)/\
  2*(s.size-Cn s m B 44)+(if((!B&&Ey s (AS s m B) 44)&& !B)=T6 then 1 else 0)<2*(s.size-n)+1/\
  EO s (!B&&Ey s (AS s m B) 44) B (Cn s m B 44) (c++[t]) R:=by
 have d:=MD s n e;have l:=EV s m B 44;have g:B=K->n<m:=λj=>by
  have:=aI (s:=s) (at_:=n) (by rw[b];exact j);rw[b]at this;exact this
 have o:n<=m:=by have:=bw s n;rw[b]at this;exact this
 rw[b]at d;simp at d;have f:=Ec s m B 44 d;unfold EO at h;simp at h;cases hm:(!B&&Ey s (AS s m B) 44)with
 |true=>
  have k:B=K:=by cases B<;>simp_all
  subst k;obtain⟨q,i⟩:=Rm b e hm;have:=g rfl;refine⟨f,li,li,li,?_⟩;unfold EO;simp only[nE,oY,ro];rw[i]at h;rw[<-h];simp
 |false=>
  refine⟨f,li,ln,li,?_⟩;unfold EO;rw[NG b hm]at h;rw[<-h];simp
def EO.done{c b}{d L}(h:EO s c b n d (L,m,B))(e:(c&& !b)=K):d=L/\n=m/\b=B:=by
 unfold EO at h;exact qr
def FQ:Nat->bN->bN
 |0,s=>s
 |k+1,s=>if 1<s.size/\C2 s 0=48 then FQ k (s.extract 1 s.size)else s
def B3(s:bN):bN:=if Je s then FQ s.size s else s
def Ls(h:¬(1<s.size/\C2 s 0=48)):FQ k s=s:=by
 cases k with
 |zero=>rfl
 |succ k=>rw[FQ,mm h]
set_option maxRecDepth 100000
theorem Kf(s:bN)(w)(u:s.size<=1000000):rE rF 96 #[.string s] w λe a=>e=.returned (.string (B3 s))/\a=w:=by
 have c:=NW s w;by_cases f:Je s=T6
 .rw[f]at c;obtain⟨T,i⟩:=kQ (B3 s);rw[i];have g:Hid (FQ s.size s=T):=by show _=_;rw[<-i];unfold B3;rw[f];rfl
  clear i f;go_enter func96,ntmps96;go_wp2_with (go_at_call 144;refine c.G ?_;rintro e a ⟨rfl,rfl⟩)
  rename_i a _ _
  go_loopg [3] s.size (λgk o wr=>∃(t:bN),o=.string t/\Hid (FQ gk t=T)/\t.size<=gk/\t.size<=1000000/\a=wr)
  case atStart=>exact⟨s,rfl,g,mt _,u,rfl⟩
  case round=>
   clear g;obtain⟨t,rfl,l,x,z,rfl⟩:=hrel;by_cases n:1<t.size
   ·have r:(1:Int)<(t.size:Int):=lc;(have m:C2 t 0=t[0]:=by unfold C2;rw[dif_pos lc]);by_cases b:t[0]=48
    ·(have q:((t[0].toNat:Int)==48)=T6:=by rw[b];rfl);obtain⟨k,rfl⟩:∃k,gk=k+1:=⟨gk-1,lc⟩;have v:Hid (FQ k (t.extract 1 t.size)=T):=by
      have h:=Aa l;rw[FQ,mo ⟨n,by rw[m];exact b⟩]at h;exact h
     (have y:(t.extract 1 t.size).size=t.size-1:=by rw[nT];omega);go_wp2
     go_roundg k
     case measure=>omega
     case rel=>exact⟨t.extract 1 t.size,rfl,v,lc,lc,rfl⟩
    .have q:((t[0].toNat:Int)==48)=K:=by
      rw[mM];intro d;apply b;apply nW.1;(have:t[0].toNat=48:=by omega);rw[this];rfl
     have j:Hid (t=T):=by
      have h:=Aa l;rw[Ls (λd=>b (by rw[<-m];exact d.2))]at h;exact h
     go_wp2;go_ret;rw[<-Aa j];exact⟨rfl,rfl⟩
   ·have r:¬(1:Int)<(t.size:Int):=lc;have j:Hid (t=T):=by
     have h:=Aa l;rw[Ls (λd=>n d.1)]at h;exact h
    go_wp2;go_ret;rw[<-Aa j];exact⟨rfl,rfl⟩
 .have p:Je s=K:=by simpa using f
  rw[p]at c;have g:Hid (B3 s=s):=by show _=_;unfold B3;rw[p];rfl
  rw[Aa g];go_enter func96,ntmps96;go_wp2_with (go_at_call 144;refine c.G ?_;rintro e a ⟨rfl,rfl⟩)
  all_goals go_ret
  all_goals exact⟨rfl,rfl⟩
