import Derived.Deep.RegionHeld3
import Derived.Deep.RegionLaw
import Derived.Test.YtoihbhenbmffcaaGreatDoorYAA
set_option linter.all false
set_option maxHeartbeats 0
open List renaming length->Z
open Option renaming none->Y,some->V
open Go.Value renaming slice->U,int->X,string->O,pointer->kt
open Bool renaming false->K,true->j1
namespace Go.Proofs.YtoihbhenbmffcaaGreatDoor
open Go.RowKit Go.Proofs.Tryz
def He(s:zA)(at_:Nat)(b:Bool)(h:at_<=s.size):(AY s at_ b).2.1<=s.size:=by
 unfold AY;have a:=Bp s at_ h;have c:=Ci Az s _ a;split
 .exact h
 .split<;>simp<;>omega
def ce{s:zA}{at_:Nat}(h:(AY s at_ K).2.2=K):at_<(AY s at_ K).2.1:=by
 unfold AY at h⊢;have b:=BU s at_;have c:=B7 Az s (Ae s at_);simp only[gO,if_false]at h⊢;split at h
 .cases h
 .rename_i a;simp only[a,if_false];omega
def Fo(s:zA)(at_:Nat)(b:Bool)(h:at_<=s.size):(AI s at_ b).2.1<=s.size:=by
 have a:=Bp s at_ h;have d:=Ci Ao s _ a;have c:=He s _ K a;unfold AI;split
 .exact h
 .split
  .split
   .simp;omega
   .split
    .exact c
    .split<;>simp<;>omega
  .exact a
def VA{s:zA}{at_:Nat}(h:(AI s at_ K).2.2=K):at_<(AI s at_ K).2.1:=by
 have g:=BU s at_;unfold AI at h⊢;simp only[gO,if_false]at h⊢;split at h
 .rename_i c;simp only[c,dite_true];split at h
  .rename_i b;simp only[b,if_true];omega
  .rename_i b;simp only[b,if_false,gO];split at h
   .rename_i a;simp only[a,if_true];have:=ce h;omega
   .rename_i a;simp only[a,if_false,gO];split at h
    .cases h
    .rename_i e;simp only[e,if_false];(have d:Ao s[Ae s at_]=j1:=by simpa using a);have i:=B5 Ao s _ c d;have f:=B7 Ao s (Ae s at_+1);show at_<AC Ao s (Ae s at_);omega
 .cases h
def Ch(s:zA)(at_:Nat):mc AE×Nat×Bool:=
 if h:(!(AI s at_ K).2.2&&D1 s (AM s (AI s at_ K).2.1 (AI s at_ K).2.2) 44)=j1/\at_<BX s (AI s at_ K).2.1 (AI s at_ K).2.2 44/\at_<s.size then
  have _h1:at_<s.size:=h.2.2;have _h2:=h.2.1
  ((AI s at_ K).1::(Ch s (BX s (AI s at_ K).2.1 (AI s at_ K).2.2 44)).1,(Ch s (BX s (AI s at_ K).2.1 (AI s at_ K).2.2 44)).2)
 else([(AI s at_ K).1],BX s (AI s at_ K).2.1 (AI s at_ K).2.2 44,(AI s at_ K).2.2)
def Ek(s:zA)(at_:Nat)(a:Bool)(c:UInt8):at_<=BX s at_ a c:=by
 unfold BX AM;have:=BU s at_;split<;>split<;>omega
def P4{s:zA}{at_ a:Nat}{t:AE}{b:Bool}(c:AI s at_ K=(t,a,b))(h:at_<=s.size)(f:(!b&&D1 s (AM s a b) 44)=j1):
  at_<BX s a b 44/\Ch s at_=(t::(Ch s (BX s a b 44)).1,(Ch s (BX s a b 44)).2):=by
 have g:b=K:=by cases b<;>simp_all
 subst g;have e:=VA (s:=s) (at_:=at_) (by rw[c]);have d:=Fo s at_ K h;rw[c]at e d;simp only at e d;have i:=Ek s a K 44;refine⟨by omega,?_⟩
 conv=>lhs;rw[Ch]
 rw[dif_pos (by rw[c];exact⟨f,by simp only;omega,by omega⟩)];simp only[c]
def LK{s:zA}{at_ a:Nat}{t:AE}{b:Bool}(d:AI s at_ K=(t,a,b))(c:(!b&&D1 s (AM s a b) 44)=K):
  Ch s at_=([t],BX s a b 44,b):=by
 conv=>lhs;rw[Ch]
 rw[dif_neg (by rw[d];intro h;rw[h.1]at c;cases c),d]
structure Df where
 name:zA
 args:mc AE
 at_:Nat
def Bn(s:zA)(at_:Nat)(bad:Bool)(c:UInt8):Nat×Bool:=(BX s at_ bad c,!(!bad&&D1 s (AM s at_ bad) c))
def D2(s:zA)(p:Nat×Bool):mc AE×Nat×Bool:=if p.2 then([],p.1,j1)else Ch s p.1
def AS(s:zA)(at_:Nat)(bad:Bool):Df×Nat×Bool:=
 let nm:=AY s (AM s at_ bad) bad
 let l:=D2 s (Bn s nm.2.1 nm.2.2 40)
 (⟨nm.1,l.1,AM s at_ bad⟩,Bn s l.2.1 l.2.2 41)
def U9(s:zA)(at_:Nat)(h:at_<=s.size):(Ch s at_).2.1<=s.size:=by
 fun_induction Ch s at_ with
 |case1 at_ hc _ _ ih=>exact ih (DA _ _ _ _ (Fo _ _ _ h))
 |case2 at_ hc=>exact DA _ _ _ _ (Fo _ _ _ h)
theorem Tryz.info93:(Tryz.prog.info? 93).map (λi=>(i.zero,i.size,i.bytes))=V (V (.agg #[X .u8 0,O ⟨#[]⟩]),2,24):=by kernel_rfl
def Cg(nm:zA)(av:Value)(j:Nat):mc Value:=[O nm,av,X .i64 j]
def EF(s:zA)(mb bd:Bool)(a:Nat)(acc:mc AE)(R:mc AE×Nat×Bool):Prop:=
 if(mb&& !bd)=j1 then(acc++(Ch s a).1,(Ch s a).2)=R else(acc,a,bd)=R
def EF.step{s:zA}{a c:Nat}{acc:mc AE}{R:mc AE×Nat×Bool}{t:AE}{b:Bool}(h:EF s j1 K a acc R)(d:AI s a K=(t,c,b))(j:a<=s.size)(v:Z acc<=a):
  BX s c b 44<=s.size/\Z (acc++[t])<=BX s c b 44+1/\(((!b&&D1 s (AM s c b) 44)&& !b)=j1->Z (acc++[t])<=BX s c b 44)/\
  2*(s.size-BX s c b 44)+(if((!b&&D1 s (AM s c b) 44)&& !b)=j1 then 1 else 0)<2*(s.size-a)+1/\
  EF s (!b&&D1 s (AM s c b) 44) b (BX s c b 44) (acc++[t]) R:=by
 have f:=Fo s a K j;have r:=Ek s c b 44;have i:b=K->a<c:=λm=>by
  have:=VA (s:=s) (at_:=a) (by rw[d];exact m);rw[d]at this;exact this
 have x:a<=c:=by
  cases b with
  |false=>have:=i rfl;omega
  |true=>
   have o:=BU s a;(have e:c=(AI s a K).2.1:=by rw[d]);(have g:(AI s a K).2.2=j1:=by rw[d]);rw[e];unfold AI at g⊢;simp only[gO,if_false]at g⊢;split
   .rename_i l;simp only[l,dite_true]at g;split
    .simp only;omega
    .split
     .simp only;have w:=BU s (Ae s a);have n:=B7 Az s (Ae s (Ae s a));unfold AY;simp only[gO,if_false];split<;>simp only<;>omega
     .have n:=B7 Ao s (Ae s a);split<;>simp only<;>omega
   .exact o
 rw[d]at f;simp only at f;have k:=DA s c b 44 f;unfold EF at h;simp only[jb,kf,if_true]at h;cases hm:(!b&&D1 s (AM s c b) 44)with
 |true=>
  have q:b=K:=by cases b<;>simp_all
  subst q;obtain⟨u,p⟩:=P4 d j hm;have:=i rfl;refine⟨k,by simp;omega,by simp;omega,by simp;omega,?_⟩;unfold EF;simp only[jb,kf,if_true];rw[p]at h;rw[<-h];simp
 |false=>
  refine⟨k,by simp;omega,by simp,by simp;omega,?_⟩;unfold EF;rw[LK d hm]at h;rw[<-h];simp
def EF.done{s:zA}{a:Nat}{c b:Bool}{acc L:mc AE}{d:Nat}{e:Bool}(h:EF s c b a acc (L,d,e))(f:(c&& !b)=K):acc=L/\a=d/\b=e:=by
 unfold EF at h;rw[gV (by rw[f];exact jJ)]at h;simpa using h
set_option maxRecDepth 100000
theorem Qb(b:Nat)(s:zA)(at_:Nat)(f:Bool)(w:World)(P:s.size<=1000000)(H7:at_<=s.size)(hB:AH w b (BO s at_ f) 73):
  Calls prog 79 #[kt (V ⟨b,0,Y⟩)] w λe w'=>∃Q,e=.returned (.agg (Cg (AS s at_ f).1.name Q (AS s at_ f).1.at_).toArray)/\
   w'.ownsRow w.heap.size 93 2 Q (Z (AS s at_ f).1.args) ((AS s at_ f).1.args.flatMap AU)/\AH w' b (BO s (AS s at_ f).2.1 (AS s at_ f).2.2) 73/\Ac [b] w w':=by
 obtain⟨i0,LC,K1,LL,K8⟩:=iR Tryz.info93;have M2:=hB.lt;have HC:=Gm s at_ f H7;obtain⟨j,hj⟩:∃j,AM s at_ f=j:=⟨_,rfl⟩;obtain⟨nm,D,M,EM⟩:∃nm D M,AY s j f=(nm,D,M):=⟨_,_,_,rfl⟩;obtain⟨z,H,A⟩:∃z H,Bn s D M 40=(z,H):=⟨_,_,rfl⟩;obtain⟨L,G,I,S⟩:∃L G I,D2 s (z,H)=(L,G,I):=⟨_,_,_,rfl⟩;obtain⟨a4,b4,i⟩:∃a4 b4,Bn s G I 41=(a4,b4):=⟨_,_,rfl⟩;have hR:AS s at_ f=(⟨nm,L,j⟩,a4,b4):=by
  simp only[AS,hj,EM,A,S,i]
 rw[hR];rw[hj]at HC;have HT:D<=s.size:=by have:=He s j f HC;rw[EM]at this;exact this
 have IJ:z<=s.size:=by have:=DA s D M 40 HT;simp only[Bn,iE]at A;omega
 have MY:G<=s.size:=by
  unfold D2 at S;split at S
  .simp only[iE]at S;omega
  .have:=U9 s z IJ;rw[S]at this;exact this
 have HJ:Hid (AM s at_ f=j/\AY s j f=(nm,D,M)/\Bn s D M 40=(z,H)/\D2 s (z,H)=(L,G,I)/\Bn s G I 41=(a4,b4)):=⟨hj,EM,A,S,i⟩;clear hR hj EM A S i;go_enter func79,ntmps79;go_wp2_with fail
 refine(Dx b s at_ f _ P H7 (hB.alloc _)).mono ?_;rintro e w1 ⟨rfl,hb,hK⟩;rw[HJ.out.1]at hb;have hn:=(mf w _ _).kept hK (by simp;omega);have HX:=((me [b] w).alloc _).trans hK;clear hB hK;have L0:=hb.lt;have KS:=hn.lt;have CC:=hb.cell 1;simp[BO]at CC;go_wp2_with fail
 refine(Mq b s j f _ P HC ?_).mono ?_
 .exact hb.alloc _
 rintro e w2 ⟨rfl,HE,FP⟩;have BS:=(mf w1 _ _).kept FP (by simp;omega);have IS:=(hn.alloc _).kept FP (by simp;omega);have H3:=(HX.alloc _).trans FP;rw[HJ.out.2.1]at HE⊢;obtain⟨N,hN⟩:∃N,w1.heap.size=N:=⟨_,rfl⟩;rw[hN]at BS⊢;have M1:b<N:=by omega
 have Nd:w.heap.size<N:=by omega
 clear HX hb hn L0 KS CC FP hN;have Ax:=BS.cell 0;have K6:=BS.frozen 0;simp at Ax;simp only;go_wp2_with fail
 refine(MA b s D M 40 40 _ rfl P HT ?_).mono ?_
 .exact HE.zB _ (by simp;omega) _
 rintro e w3 ⟨rfl,HH,EY⟩;have FA:=(BS.set 0 _).kept EY (by simp;omega);have HZ:=(IS.zB _ (by simp;omega) _).kept EY (by simp;omega);have H0:=(H3.setCell (p:=⟨N,0,Y⟩) (by simp;omega) _).trans EY;have A:=HJ.out.2.2.1;simp only[Bn,iE]at A;rw[A.1,A.2]at HH;simp only[gJ]at FA;clear HE BS IS H3 EY Ax K6 A;go_wp2_with fail
 have MN:=FA.lt
 go_loopg [4] (2*(s.size-z)+(if(j1&& !H)=j1 then 1 else 0)) (λk K5 wr=>∃(R B:Bool) (a:Nat) (c:mc AE) (Q:Value),K5=.bool R/\a<=s.size/\Z c<=a+1/\((R&& !B)=j1->Z c<=a)/\
  k=2*(s.size-a)+(if(R&& !B)=j1 then 1 else 0)/\Hid (EF s R B a c (L,G,I))/\AH wr b (BO s a B) 73/\AH wr N (Cg nm Q j) 79/\AH wr w.heap.size [O ⟨#[]⟩,U Y 0 0,X .i64 0] 79/\
  wr.ownsRow (N+1) 93 2 Q (Z c) (c.flatMap AU)/\Ac [b] w wr)
 case atStart=>
  refine⟨j1,H,z,[],U Y 0 0,rfl,IJ,by simp,by simp,rfl,?_,HH,FA,HZ,ip _ _ _ _,H0⟩;have h:=HJ.out.2.2.2.1;show EF _ _ _ _ _ _;unfold EF;unfold D2 at h;cases H with
  |true=>simpa using h
  |false=>simp at h;simp[h]
 case round=>
  obtain⟨R,B,a,c,Q,rfl,ha,HD,FF,hk,AO,n,u,AT,q,W⟩:=hrel;clear HH FA HZ H0;have DT:Hid (gk=2*(s.size-a)+(if(R&& !B)=j1 then 1 else 0)):=hk;clear hk;cases R with
  |false=>
   obtain⟨rfl,rfl,rfl⟩:=AO.out.done rfl;obtain⟨ad,F,rfl⟩:=Ca q;have C:=n.cell 2;simp[BO]at C;have H4:=u.lt;have H5:=n.lt;clear HD FF DT AO;(go_wp2_with fail);refine(MA b s a B 41 41 _ rfl P ha n).mono ?_;rintro e w6 ⟨rfl,E,d⟩;have i:=HJ.out.2.2.2.2;simp only[Bn,iE]at i;rw[i.1,i.2]at E;have x:=u.kept d (by simp;omega);have l:=AT.kept d (by simp;omega);have r:=Ad q d (by simp;omega);have B0:=W.trans d;clear n u AT q W d i C;have Ax:=x.cell 0;have HP:=x.cell 1;have Go:=x.cell 2;have HK:=l.cell 0;have Ha:=l.cell 1;have HB:=l.cell 2;have LE:=l.frozen;simp[Cg]at Ax HP Go HK Ha HB;go_wp2;refine im (BR rfl rfl (((l.set 0 _).set 1 _).set 2 _) underlying79 rfl (by kernel_rfl)) rfl ⟨_,rfl,?_,?_,?_⟩
   .exact Ag (Ag (Ag (Am r (by omega)) (by simpa using A5 r w.heap.size (by omega)) _) (by simpa using A5 r w.heap.size (by omega)) _) (by simpa using A5 r w.heap.size (by omega)) _
   .exact((E.zB _ (by simp;omega) _).zB _ (by simp;omega) _).zB _ (by simp;omega) _
   .exact((B0.setCell (by simp) _).setCell (by simp) _).setCell (by simp) _
  |true=>
   cases B with
   |true=>
    obtain⟨rfl,rfl,rfl⟩:=AO.out.done rfl;obtain⟨ad,F,rfl⟩:=Ca q;have C:=n.cell 2;simp[BO]at C;have H4:=u.lt;have H5:=n.lt;clear HD FF DT AO;(go_wp2_with fail);refine(MA b s a j1 41 41 _ rfl P ha n).mono ?_;rintro e w6 ⟨rfl,E,d⟩;have i:=HJ.out.2.2.2.2;simp only[Bn,iE]at i;rw[i.1,i.2]at E;have x:=u.kept d (by simp;omega);have l:=AT.kept d (by simp;omega);have r:=Ad q d (by simp;omega);have B0:=W.trans d;clear n u AT q W d i C;have Ax:=x.cell 0;have HP:=x.cell 1;have Go:=x.cell 2;have HK:=l.cell 0;have Ha:=l.cell 1;have HB:=l.cell 2;have LE:=l.frozen;simp[Cg]at Ax HP Go HK Ha HB;go_wp2;refine im (BR rfl rfl (((l.set 0 _).set 1 _).set 2 _) underlying79 rfl (by kernel_rfl)) rfl ⟨_,rfl,?_,?_,?_⟩
    .exact Ag (Ag (Ag (Am r (by omega)) (by simpa using A5 r w.heap.size (by omega)) _) (by simpa using A5 r w.heap.size (by omega)) _) (by simpa using A5 r w.heap.size (by omega)) _
    .exact((E.zB _ (by simp;omega) _).zB _ (by simp;omega) _).zB _ (by simp;omega) _
    .exact((B0.setCell (by simp) _).setCell (by simp) _).setCell (by simp) _
   |false=>
    have C:=n.cell 2;have CC:=u.cell 1;have LS:=u.frozen 1;simp[BO,Cg]at C CC;have H4:=u.lt;have H5:=n.lt;have K2:Z c<=a:=FF rfl;clear HD FF;obtain⟨t,y,g,ht⟩:∃t y g,AI s a K=(t,y,g):=⟨_,_,_,rfl⟩;(have MB:y<=s.size:=by have:=Fo s a K ha;rw[ht]at this;exact this);have HS:=AO.out.step ht ha K2;obtain⟨m,hm⟩:∃m,(!g&&D1 s (AM s y g) 44)=m:=⟨_,rfl⟩;obtain⟨v,HN⟩:∃v,BX s y g 44=v:=⟨_,rfl⟩;rw[hm,HN]at HS;obtain⟨q1,q2,q3,q4,q5⟩:=HS;have HQ:Hid (AI s a K=(t,y,g)/\(!g&&D1 s (AM s y g) 44)=m/\BX s y g 44=v/\v<=s.size/\Z (c++[t])<=v+1/\((m&& !g)=j1->Z (c++[t])<=v)/\2*(s.size-v)+(if(m&& !g)=j1 then 1 else 0)<gk/\EF s m g v (c++[t]) (L,G,I)):=
     ⟨ht,hm,HN,q1,q2,q3,by have:=DT.out;simp at this;omega,q5⟩
    clear ht hm HN q1 q2 q3 q4 q5 DT AO;go_wp2_with fail
    go_region_law
     (first
      |(go_simp;go_at_call 127;refine(Qv b s a K _ P ha (by first|exact n|exact n.drew)).mono ?_;rintro e wt ⟨rfl,HA,A1⟩;rw[HQ.out.1]at HA⊢;have BT:=u.drew.kept A1 (by simp;omega);have H9:=BT.cell 1;have Mo:=BT.frozen 1;have HV:=λo=>(BT.alloc o).cell 1;simp[Cg]at H9 HV;simp only[AU])
      |(refine lc _ (by rfl) _ _ _ (by rfl) (N+1) 93 i0 _ 2 24 underlying77 LC K1 LL K8 rfl (by omega) Q (Z c) (c.flatMap AU) (by rfl) ((Ad (IY q) A1 (by simp;omega)).alloc _)
         ⟨wt.heap.size,0,Y⟩ 1 1 (AU t) (by rfl) (by rfl) (iu (cs:=(AU t).toArray) (t:=93) (fr:=(0,0)) (iD wt _)) (by simp[Value.oneCell',AU])
         (by omega) (by unfold maxLen;omega) (by omega) (by simp;have:=A1.size;simp at this;omega) (wt.heap.size+1) (by simp) ?_;intro T F w5 HI B2 K9 LB;
        have FL:=(BT.alloc _).grown B2 (A5 q N (by omega));have H8:=FL.cell 1;have K3:=FL.frozen 1;simp[Cg]at H8))
    all_goals
     (go_wp2_with fail);have Ix:=((HA.alloc _).grown B2 (A5 q b (by omega))).zB ⟨N,1,Y⟩ (by simp;omega) (U (V ⟨T,0,Y⟩) (Z c+1) F);have M3:=(HI.lt T rfl).1;have JJ:=FL.set 1 (U (V ⟨T,0,Y⟩) (Z c+1) F);have H1:=((((AT.drew).kept A1 (by simp;omega)).alloc _).grown B2 (A5 q w.heap.size (by omega))).zB ⟨N,1,Y⟩ (by simp;omega) (U (V ⟨T,0,Y⟩) (Z c+1) F);have HU:=(((W.drew.trans A1).alloc _).grown B2 (λk hk=>Or.inr (by have:=(q.lt k hk).1;omega))).setCell (p:=⟨N,1,Y⟩) (by simp;omega) (U (V ⟨T,0,Y⟩) (Z c+1) F);have HW:=Ag HI (p:=⟨N,1,Y⟩) (by simp[Value.ownBlock];omega) (U (V ⟨T,0,Y⟩) (Z c+1) F);clear HI FL H8 K3 B2 K9 LB H9 Mo HV BT HA A1 q W AT u n CC C LS;refine(Mi b s y g 44 44 _ rfl P MB Ix).mono ?_;rintro e w6 ⟨rfl,E,d⟩;have x:=JJ.kept d (by simp;omega);have l:=H1.kept d (by simp;omega);have B0:=HU.trans d;have r:=Ad HW d (by simp;omega);rw[HQ.out.2.2.1]at E;rw[HQ.out.2.1];clear Ix JJ H1 HU HW d;go_wp2_with fail
     go_roundg (2*(s.size-v)+(if(m&& !g)=j1 then 1 else 0))
     case measure=>exact HQ.out.2.2.2.2.2.2.1
     case rel=>
      obtain⟨_,_,_,q1,q2,q3,_,q5⟩:=HQ.out;refine⟨m,g,v,c++[t],U (V ⟨T,0,Y⟩) (Z c+1) F,rfl,q1,q2,q3,rfl,q5,E,x,l,?_,B0⟩;simpa using r
def Cb(s:zA)(at_:Nat):Ae s (Ae s at_)=Ae s at_:=by
 fun_induction Ae s at_ with
 |case1 at_ h hb ih=>exact ih
 |case2 at_ h hb=>rw[Ae];simp[h,hb]
 |case3 at_ h=>rw[Ae];simp[h]
structure Bi where
 kind:UInt8
 A:Df
 L:AE
 R:AE
 at_:Nat
def Dm:AE:=⟨0,ByteArray.empty⟩
def Gy:Df:=⟨ByteArray.empty,[],0⟩
def CJ(x:Bi)(av:Value):mc Value:=[X .u8 x.kind.toNat,O x.A.name,av,X .i64 x.A.at_,X .u8 x.L.v.toNat,O x.L.s,X .u8 x.R.v.toNat,O x.R.s,X .i64 x.at_]
def LG(s:zA)(j:Nat):Bool:= !(AY s j K).2.2&&D1 s (AM s (AY s j K).2.1 (AY s j K).2.2) 40
def Fe(s:zA)(j:Nat):Bool:=if h:j<s.size then Az s[j] else K
def Cl(s:zA)(i:Nat):UInt8:=if h:i<s.size then s[i] else 0
def Ig(s:zA)(j a3:Nat)(t:AE)(b2:Bool):Bi×Nat×Bool:=
 if !b2&&(D1 s a3 61||D1 s a3 35||D1 s a3 60)then
  (⟨Cl s a3,Gy,t,(AI s (a3+1) K).1,j⟩,(AI s (a3+1) K).2)
 else(⟨0,Gy,t,Dm,j⟩,a3,j1)
def Da(s:zA)(at_:Nat):Bi×Nat×Bool:=
 let j:=Ae s at_
 if D1 s j 33 then(⟨33,(AS s (j+1) K).1,Dm,Dm,j⟩,(AS s (j+1) K).2)
 else if Fe s j&&LG s j then(⟨97,(AS s j K).1,Dm,Dm,j⟩,(AS s j K).2)
 else Ig s j (AM s (AI s j K).2.1 (AI s j K).2.2) (AI s j K).1 (AI s j K).2.2
theorem dh(b:Nat)(s:zA)(at_ j:Nat)(w:World)(t:s.size<=1000000)(Ax:at_<=s.size)(y:Ae s at_=j)(l:D1 s j 33=j1)(z:AH w b (BO s at_ K) 73):
  Calls prog 129 #[kt (V ⟨b,0,Y⟩)] w λe m=>∃x,e=.returned (.agg (CJ ⟨33,(AS s (j+1) K).1,Dm,Dm,j⟩ x).toArray)/\
   m.ownsRow w.heap.size 93 2 x (Z (AS s (j+1) K).1.args) ((AS s (j+1) K).1.args.flatMap AU)/\AH m b (BO s (AS s (j+1) K).2.1 (AS s (j+1) K).2.2) 73/\Ac [b] w m:=by
 have FL:=z.lt;have FC:=Fl l;have r:AM s j K=j:=by rw[<-y];exact Cb s at_
 have C:BX s j K 33=j+1:=by unfold BX;rw[r,l];rfl
 have A:(!false&&D1 s (AM s j K) 33)=j1:=by rw[r,l];rfl
 have n:Hid (Ae s at_=j/\BX s j K 33=j+1/\(!false&&D1 s (AM s j K) 33)=j1):=⟨y,C,A⟩;clear y l r C A;go_enter func129,ntmps129;go_wp2_with fail
 refine(Dx b s at_ K _ t Ax (z.alloc _)).mono ?_;rintro e B ⟨rfl,g,o⟩;rw[show AM s at_ K=j from n.out.1]at g
 have v:=(mf w _ _).kept o (by simp;omega);have I:=((me [b] w).alloc _).trans o;clear z o;have EX:=g.lt;have T:=v.lt;have M:=g.cell 1;simp[BO]at M;go_wp2_with fail
 refine(Mi b s j K 33 33 _ rfl t (by omega) (g.alloc _)).mono ?_;rintro e w2 ⟨rfl,u,i⟩;rw[n.out.2.1]at u;rw[n.out.2.2];have d:=(mf B _ _).kept i (by simp;omega);have F:=(v.alloc _).kept i (by simp;omega);have D:=(I.alloc _).trans i;obtain⟨N,L⟩:∃N,B.heap.size=N:=⟨_,rfl⟩;rw[L]at d⊢;have FB:b<N:=by omega
 have FT:w.heap.size<N:=by omega
 clear I g v EX T M i L;have G:=d.cell 0;have W:=d.frozen 0;simp at G;go_wp2_with fail
 refine(Qb b s (j+1) K _ t (by omega) (u.zB _ (by simp;omega) _)).mono ?_;rintro e w3 ⟨x,rfl,h,EY,f⟩;have E:=(d.set 0 _).kept f (by simp;omega);have q:=(F.zB _ (by simp;omega) _).kept f (by simp;omega);have AO:=f.size;have FO:=d.lt;simp only[World.size_setCell]at AO h;have BS:=(D.setCell (p:=⟨N,0,Y⟩) (by simp;omega) _).trans f;clear u d F D f G W;obtain⟨ad,FP,rfl⟩:=Ca h;have a:=E.cell;have FF:=E.frozen;have c:=q.cell;have HA:=q.frozen;simp only[Cg];have P:=a 0;have e1:=a 1;have e2:=a 2;have e3:=a 3;have e4:=a 4;have Q:=a 5;have e6:=a 6;have S:=a 7;have e8:=a 8;have f0:=c 0;have f1:=c 1;have f2:=c 2;have f3:=c 3;have f4:=c 4;have f5:=c 5;have f6:=c 6;have f7:=c 7;have R:=c 8;simp at P e1 e2 e3 e4 Q e6 S e8 f0 f1 f2 f3 f4 f5 f6 f7 R;clear a c;go_wp2;have H:=λk hk=>A5 h k hk
 refine im (BR rfl rfl ((((((((((((q.zB _ (by simp;omega) _).zB _ (by simp;omega) _).zB _ (by simp;omega) _).set 0 _).set 1 _).set 2 _).set 3 _).set 4 _).set 5 _).set 6 _).set 7 _).set 8 _) underlying95 rfl (by kernel_rfl)) rfl ⟨_,rfl,?_,?_,?_⟩
 .repeat (refine Ag ?_ (by have:=H w.heap.size (by omega);have:=H N (by omega);assumption) _)
  exact Am h (by omega)
 .repeat (refine AH.zB ?_ _ (by simp;omega) _)
  exact EY
 .repeat (refine Ac.setCell ?_ (by simp;try omega) _)
  exact BS
theorem bW(b:Nat)(s:zA)(at_ j:Nat)(w:World)(n:s.size<=1000000)(B2:at_<=s.size)(C:Ae s at_=j)(B:D1 s j 33=K)(HP:j<s.size)(hl:Az s[j]=j1)(ho:Hid (LG s j=j1))(G:AH w b (BO s at_ K) 73):
  Calls prog 129 #[kt (V ⟨b,0,Y⟩)] w λe L=>∃F,e=.returned (.agg (CJ ⟨97,(AS s j K).1,Dm,Dm,j⟩ F).toArray)/\
   L.ownsRow w.heap.size 93 2 F (Z (AS s j K).1.args) ((AS s j K).1.args.flatMap AU)/\AH L b (BO s (AS s j K).2.1 (AS s j K).2.2) 73/\Ac [b] w L:=by
 have HV:=G.lt;have H2:j<=s.size:=by have:=Bp s at_ B2;omega
 have A:AM s j K=j:=by rw[<-C];exact Cb s at_
 have Ax:BX s j K 33=j:=by unfold BX;rw[A,B];rfl
 have W:(!false&&D1 s (AM s j K) 33)=K:=by rw[A,B];rfl
 have y:Hid (Ae s at_=j/\BX s j K 33=j/\(!false&&D1 s (AM s j K) 33)=K):=⟨C,Ax,W⟩;clear C B A Ax W;go_enter func129,ntmps129;go_wp2_with fail
 refine(Dx b s at_ K _ n B2 (G.alloc _)).mono ?_;rintro e w1 ⟨rfl,i,M⟩;rw[show AM s at_ K=j from y.out.1]at i
 have Q:=(mf w _ _).kept M (by simp;omega);have T:=((me [b] w).alloc _).trans M;clear G M;have HN:=i.lt;have EX:=Q.lt;have r:=i.cell 1;simp[BO]at r;go_wp2_with fail
 refine(Mi b s j K 33 33 _ rfl n (by omega) (i.alloc _)).mono ?_;rintro e R ⟨rfl,f,z⟩;rw[y.out.2.1]at f;rw[y.out.2.2];have t:=(mf w1 _ _).kept z (by simp;omega);have P:=(Q.alloc _).kept z (by simp;omega);have v:=(T.alloc _).trans z;obtain⟨N,hN⟩:∃N,w1.heap.size=N:=⟨_,rfl⟩;rw[hN]at t⊢;have HS:b<N:=by omega
 have H5:w.heap.size<N:=by omega
 clear T i Q HN EX r z hN y;have HX:=t.lt;have H1:=f.lt;have HR:=P.lt;have Bx:=f.cell 0;have r:=f.cell 1;have A1:=f.cell 2;simp[BO]at Bx r A1;have H3:(j:Int)<(s.size:Int):=by omega
 obtain⟨D,g,d,u⟩:∃D g d,AY s j K=(D,g,d):=⟨_,_,_,rfl⟩;have FL:g<=s.size:=by have:=He s j K (by omega);rw[u]at this;exact this
 have A2:(!d&&D1 s (AM s g d) 40)=j1:=by have h:=ho.out;unfold LG at h;rw[u]at h;exact h
 have E:Hid (AY s j K=(D,g,d)/\(!d&&D1 s (AM s g d) 40)=j1):=⟨u,A2⟩;clear u A2;go_wp2_with fail
 go_quiet ((go_at_call 169;exact ky (Iu _ s[j] _ rfl)))
 go_wp2_with fail
 go_region
 go_wp2_with fail
 refine(Mq R.heap.size s j K _ n (by omega) (mf (R.drewN _) (BO s j K) 73)).mono ?_;rintro e w3 ⟨rfl,H,o⟩;rw[E.out.1]at H⊢;have A0:=((f.drewN _).alloc _).kept o (by simp;omega);have BA:=((t.drewN _).alloc _).kept o (by simp;omega);have AO:=((P.drewN _).alloc _).kept o (by simp;omega);have AT:=((v.drewN _).alloc _).trans' o (by have:=v.size;simp;omega);clear f t P o Bx r A1;simp only;go_wp2_with fail
 refine(Qo R.heap.size s g d 40 40 _ rfl n FL H).mono ?_;rintro e w4 ⟨rfl,_,l⟩;have CL:=A0.kept l (by simp;omega);have q:=BA.kept l (by simp;omega);have BT:=AO.kept l (by simp;omega);have CC:=AT.trans' l (by have:=v.size;simp;omega);rw[E.out.2];clear A0 BA AO AT l H E v;have S:=q.cell 0;have HA:=q.frozen 0;simp at S;have HO:=q.lt;go_wp2_with fail
 refine(Qb b s j K _ n (by omega) (CL.zB _ (by simp;omega) _)).mono ?_;rintro e w5 ⟨F,rfl,x,HI,m⟩;have B9:=(q.set 0 _).kept m (by simp;omega);have I:=(BT.zB _ (by simp;omega) _).kept m (by simp;omega);have HF:=m.size;simp only[World.size_setCell]at HF x;have EM:=(CC.setCell (p:=⟨N,0,Y⟩) (by simp;omega) _).trans m;clear CL q BT CC m S HA;obtain⟨ad,H4,rfl⟩:=Ca x;have a:=B9.cell;have HT:=B9.frozen;have c:=I.cell;have H0:=I.frozen;simp only[Cg];have e0:=a 0;have e1:=a 1;have e2:=a 2;have e3:=a 3;have e4:=a 4;have e5:=a 5;have e6:=a 6;have e7:=a 7;have e8:=a 8;have f0:=c 0;have f1:=c 1;have f2:=c 2;have f3:=c 3;have f4:=c 4;have f5:=c 5;have f6:=c 6;have f7:=c 7;have f8:=c 8;simp at e0 e1 e2 e3 e4 e5 e6 e7 e8 f0 f1 f2 f3 f4 f5 f6 f7 f8;clear a c;go_wp2;have BS:=λk hk=>A5 x k hk
 refine im (BR rfl rfl ((((((((((((I.zB _ (by simp;omega) _).zB _ (by simp;omega) _).zB _ (by simp;omega) _).set 0 _).set 1 _).set 2 _).set 3 _).set 4 _).set 5 _).set 6 _).set 7 _).set 8 _) underlying95 rfl (by kernel_rfl)) rfl ⟨_,rfl,?_,?_,?_⟩
 .repeat (refine Ag ?_ (by have:=BS w.heap.size (by omega);have:=BS N (by omega);assumption) _)
  exact Am x (by omega)
 .repeat (refine AH.zB ?_ _ (by simp;omega) _)
  exact HI
 .repeat (refine Ac.setCell ?_ (by simp;try omega) _)
  exact EM
