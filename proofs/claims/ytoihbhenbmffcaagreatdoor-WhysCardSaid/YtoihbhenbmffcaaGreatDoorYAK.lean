import Derived.Deep.RegionHeld3
import Derived.Deep.RegionLaw
import Derived.Test.YtoihbhenbmffcaaGreatDoorYAA
set_option linter.all false
set_option maxHeartbeats 0
open List renaming length->Z
open Option renaming none->Y,some->V
open Go.Value renaming slice->U,int->X,string->O,pointer->j3
open Bool renaming false->K,true->jj
namespace Go.Proofs.YtoihbhenbmffcaaGreatDoor
open Go.RowKit Go.Proofs.Tryz
def G1(s:g0)(at_:Nat)(b:Bool)(h:at_<=s.size):(AX s at_ b).2.1<=s.size:=by
 unfold AX;have a:=Bn s at_ h;have c:=Cz Az s _ a;split
 .exact h
 .split<;>simp<;>omega
def aF{s:g0}{at_:Nat}(h:(AX s at_ K).2.2=K):at_<(AX s at_ K).2.1:=by
 unfold AX at h⊢;have b:=BR s at_;have c:=B8 Az s (Ae s at_);simp only[ev,if_false]at h⊢;split at h
 .cases h
 .rename_i a;simp only[a,if_false];omega
def Ff(s:g0)(at_:Nat)(b:Bool)(h:at_<=s.size):(AK s at_ b).2.1<=s.size:=by
 have a:=Bn s at_ h;have d:=Cz An s _ a;have c:=G1 s _ K a;unfold AK;split
 .exact h
 .split
  .split
   .simp;omega
   .split
    .exact c
    .split<;>simp<;>omega
  .exact a
def Ur{s:g0}{at_:Nat}(h:(AK s at_ K).2.2=K):at_<(AK s at_ K).2.1:=by
 have g:=BR s at_;unfold AK at h⊢;simp only[ev,if_false]at h⊢;split at h
 .rename_i c;simp only[c,dite_true];split at h
  .rename_i b;simp only[b,if_true];omega
  .rename_i b;simp only[b,if_false,ev];split at h
   .rename_i a;simp only[a,if_true];have:=aF h;omega
   .rename_i a;simp only[a,if_false,ev];split at h
    .cases h
    .rename_i e;simp only[e,if_false];(have d:An s[Ae s at_]=jj:=by simpa using a);have i:=B6 An s _ c d;have f:=B8 An s (Ae s at_+1);show at_<AF An s (Ae s at_);omega
 .cases h
def Cr(s:g0)(at_:Nat):List AG×Nat×Bool:=
 if h:(!(AK s at_ K).2.2&&DS s (AN s (AK s at_ K).2.1 (AK s at_ K).2.2) 44)=jj/\at_<BZ s (AK s at_ K).2.1 (AK s at_ K).2.2 44/\at_<s.size then
  have _h1:at_<s.size:=h.2.2;have _h2:=h.2.1
  ((AK s at_ K).1::(Cr s (BZ s (AK s at_ K).2.1 (AK s at_ K).2.2 44)).1,(Cr s (BZ s (AK s at_ K).2.1 (AK s at_ K).2.2 44)).2)
 else([(AK s at_ K).1],BZ s (AK s at_ K).2.1 (AK s at_ K).2.2 44,(AK s at_ K).2.2)
def D6(s:g0)(at_:Nat)(a:Bool)(c:UInt8):at_<=BZ s at_ a c:=by
 unfold BZ AN;have:=BR s at_;split<;>split<;>omega
def Pr{s:g0}{at_ a:Nat}{t:AG}{b:Bool}(c:AK s at_ K=(t,a,b))(h:at_<=s.size)(f:(!b&&DS s (AN s a b) 44)=jj):
  at_<BZ s a b 44/\Cr s at_=(t::(Cr s (BZ s a b 44)).1,(Cr s (BZ s a b 44)).2):=by
 have g:b=K:=by cases b<;>simp_all
 subst g;have e:=Ur (s:=s) (at_:=at_) (by rw[c]);have d:=Ff s at_ K h;rw[c]at e d;simp only at e d;have i:=D6 s a K 44;refine⟨by omega,?_⟩
 conv=>lhs;rw[Cr]
 rw[dif_pos (by rw[c];exact⟨f,by simp only;omega,by omega⟩)];simp only[c]
def Ll{s:g0}{at_ a:Nat}{t:AG}{b:Bool}(d:AK s at_ K=(t,a,b))(c:(!b&&DS s (AN s a b) 44)=K):
  Cr s at_=([t],BZ s a b 44,b):=by
 conv=>lhs;rw[Cr]
 rw[dif_neg (by rw[d];intro h;rw[h.1]at c;cases c),d]
structure Dj where
 name:g0
 args:List AG
 at_:Nat
def Bl(s:g0)(at_:Nat)(bad:Bool)(c:UInt8):Nat×Bool:=(BZ s at_ bad c,!(!bad&&DS s (AN s at_ bad) c))
def DW(s:g0)(p:Nat×Bool):List AG×Nat×Bool:=if p.2 then([],p.1,jj)else Cr s p.1
def AR(s:g0)(at_:Nat)(bad:Bool):Dj×Nat×Bool:=
 let nm:=AX s (AN s at_ bad) bad
 let l:=DW s (Bl s nm.2.1 nm.2.2 40)
 (⟨nm.1,l.1,AN s at_ bad⟩,Bl s l.2.1 l.2.2 41)
def T4(s:g0)(at_:Nat)(h:at_<=s.size):(Cr s at_).2.1<=s.size:=by
 fun_induction Cr s at_ with
 |case1 at_ hc _ _ ih=>exact ih (Du _ _ _ _ (Ff _ _ _ h))
 |case2 at_ hc=>exact Du _ _ _ _ (Ff _ _ _ h)
theorem Tryz.info93:(Tryz.prog.info? 93).map (λi=>(i.zero,i.size,i.bytes))=V (V (.agg #[X .u8 0,O ⟨#[]⟩]),2,24):=by kernel_rfl
def Cj(nm:g0)(av:Value)(j:Nat):List Value:=[O nm,av,X .i64 j]
def Eo(s:g0)(mb bd:Bool)(a:Nat)(acc:List AG)(R:List AG×Nat×Bool):Prop:=
 if(mb&& !bd)=jj then(acc++(Cr s a).1,(Cr s a).2)=R else(acc,a,bd)=R
def Eo.step{s:g0}{a c:Nat}{acc:List AG}{R:List AG×Nat×Bool}{t:AG}{b:Bool}(h:Eo s jj K a acc R)(d:AK s a K=(t,c,b))(j:a<=s.size)(v:Z acc<=a):
  BZ s c b 44<=s.size/\Z (acc++[t])<=BZ s c b 44+1/\(((!b&&DS s (AN s c b) 44)&& !b)=jj->Z (acc++[t])<=BZ s c b 44)/\
  2*(s.size-BZ s c b 44)+(if((!b&&DS s (AN s c b) 44)&& !b)=jj then 1 else 0)<2*(s.size-a)+1/\
  Eo s (!b&&DS s (AN s c b) 44) b (BZ s c b 44) (acc++[t]) R:=by
 have f:=Ff s a K j;have r:=D6 s c b 44;have i:b=K->a<c:=λm=>by
  have:=Ur (s:=s) (at_:=a) (by rw[d];exact m);rw[d]at this;exact this
 have x:a<=c:=by
  cases b with
  |false=>have:=i rfl;omega
  |true=>
   have o:=BR s a;(have e:c=(AK s a K).2.1:=by rw[d]);(have g:(AK s a K).2.2=jj:=by rw[d]);rw[e];unfold AK at g⊢;simp only[ev,if_false]at g⊢;split
   .rename_i l;simp only[l,dite_true]at g;split
    .simp only;omega
    .split
     .simp only;have w:=BR s (Ae s a);have n:=B8 Az s (Ae s (Ae s a));unfold AX;simp only[ev,if_false];split<;>simp only<;>omega
     .have n:=B8 An s (Ae s a);split<;>simp only<;>omega
   .exact o
 rw[d]at f;simp only at f;have k:=Du s c b 44 f;unfold Eo at h;simp only[fS,ic,if_true]at h;cases hm:(!b&&DS s (AN s c b) 44)with
 |true=>
  have q:b=K:=by cases b<;>simp_all
  subst q;obtain⟨u,p⟩:=Pr d j hm;have:=i rfl;refine⟨k,by simp;omega,by simp;omega,by simp;omega,?_⟩;unfold Eo;simp only[fS,ic,if_true];rw[p]at h;rw[<-h];simp
 |false=>
  refine⟨k,by simp;omega,by simp,by simp;omega,?_⟩;unfold Eo;rw[Ll d hm]at h;rw[<-h];simp
def Eo.done{s:g0}{a:Nat}{c b:Bool}{acc L:List AG}{d:Nat}{e:Bool}(h:Eo s c b a acc (L,d,e))(f:(c&& !b)=K):acc=L/\a=d/\b=e:=by
 unfold Eo at h;rw[eE (by rw[f];exact gJ)]at h;simpa using h
set_option maxRecDepth 100000
theorem Px(b:Nat)(s:g0)(at_:Nat)(f:Bool)(w:World)(P:s.size<=1000000)(H6:at_<=s.size)(hB:AI w b (BK s at_ f) 73):
  Calls prog 79 #[j3 (V ⟨b,0,Y⟩)] w λe w'=>∃Q,e=.returned (.agg (Cj (AR s at_ f).1.name Q (AR s at_ f).1.at_).toArray)/\
   w'.ownsRow w.heap.size 93 2 Q (Z (AR s at_ f).1.args) ((AR s at_ f).1.args.flatMap AQ)/\AI w' b (BK s (AR s at_ f).2.1 (AR s at_ f).2.2) 73/\Ac [b] w w':=by
 obtain⟨i0,K8,KB,LB,K5⟩:=fC Tryz.info93;have MY:=hB.lt;have HB:=Gc s at_ f H6;obtain⟨j,hj⟩:∃j,AN s at_ f=j:=⟨_,rfl⟩;obtain⟨nm,D,M,EM⟩:∃nm D M,AX s j f=(nm,D,M):=⟨_,_,_,rfl⟩;obtain⟨z,H,A⟩:∃z H,Bl s D M 40=(z,H):=⟨_,_,rfl⟩;obtain⟨L,G,I,S⟩:∃L G I,DW s (z,H)=(L,G,I):=⟨_,_,_,rfl⟩;obtain⟨a4,b4,i⟩:∃a4 b4,Bl s G I 41=(a4,b4):=⟨_,_,rfl⟩;have hR:AR s at_ f=(⟨nm,L,j⟩,a4,b4):=by
  simp only[AR,hj,EM,A,S,i]
 rw[hR];rw[hj]at HB;have HR:D<=s.size:=by have:=G1 s j f HB;rw[EM]at this;exact this
 have Ix:z<=s.size:=by have:=Du s D M 40 HR;simp only[Bl,fo]at A;omega
 have Mo:G<=s.size:=by
  unfold DW at S;split at S
  .simp only[fo]at S;omega
  .have:=T4 s z Ix;rw[S]at this;exact this
 have HJ:Hid (AN s at_ f=j/\AX s j f=(nm,D,M)/\Bl s D M 40=(z,H)/\DW s (z,H)=(L,G,I)/\Bl s G I 41=(a4,b4)):=⟨hj,EM,A,S,i⟩;clear hR hj EM A S i;go_enter func79,ntmps79;go_wp2_with fail
 refine(Ds b s at_ f _ P H6 (hB.alloc _)).mono ?_;rintro e w1 ⟨rfl,hb,hK⟩;rw[HJ.out.1]at hb;have hn:=(AI.new w _ _).kept hK (by simp;omega);have HW:=((Ac.refl [b] w).alloc _).trans hK;clear hB hK;have LL:=hb.lt;have KA:=hn.lt;have B9:=hb.cell 1;simp[BK]at B9;go_wp2_with fail
 refine(L4 b s j f _ P HB ?_).mono ?_
 .exact hb.alloc _
 rintro e w2 ⟨rfl,HD,FP⟩;have BA:=(AI.new w1 _ _).kept FP (by simp;omega);have IJ:=(hn.alloc _).kept FP (by simp;omega);have H2:=(HW.alloc _).trans FP;rw[HJ.out.2.1]at HD⊢;obtain⟨N,hN⟩:∃N,w1.heap.size=N:=⟨_,rfl⟩;rw[hN]at BA⊢;have MN:b<N:=by omega
 have M2:w.heap.size<N:=by omega
 clear HW hb hn LL KA B9 FP hN;have Ax:=BA.cell 0;have K3:=BA.frozen 0;simp at Ax;simp only;go_wp2_with fail
 refine(Mi b s D M 40 40 _ rfl P HR ?_).mono ?_
 .exact HD.zA _ (by simp;omega) _
 rintro e w3 ⟨rfl,HG,EY⟩;have E0:=(BA.set 0 _).kept EY (by simp;omega);have HY:=(IJ.zA _ (by simp;omega) _).kept EY (by simp;omega);have HZ:=(H2.setCell (p:=⟨N,0,Y⟩) (by simp;omega) _).trans EY;have A:=HJ.out.2.2.1;simp only[Bl,fo]at A;rw[A.1,A.2]at HG;simp only[ej]at E0;clear HD BA IJ H2 EY Ax K3 A;go_wp2_with fail
 have L0:=E0.lt
 go_loopg [4] (2*(s.size-z)+(if(jj&& !H)=jj then 1 else 0)) (λk K2 wr=>∃(R B:Bool) (a:Nat) (c:List AG) (Q:Value),K2=.bool R/\a<=s.size/\Z c<=a+1/\((R&& !B)=jj->Z c<=a)/\
  k=2*(s.size-a)+(if(R&& !B)=jj then 1 else 0)/\Hid (Eo s R B a c (L,G,I))/\AI wr b (BK s a B) 73/\AI wr N (Cj nm Q j) 79/\AI wr w.heap.size [O ⟨#[]⟩,U Y 0 0,X .i64 0] 79/\
  wr.ownsRow (N+1) 93 2 Q (Z c) (c.flatMap AQ)/\Ac [b] w wr)
 case atStart=>
  refine⟨jj,H,z,[],U Y 0 0,rfl,Ix,by simp,by simp,rfl,?_,HG,E0,HY,eU _ _ _ _,HZ⟩;have h:=HJ.out.2.2.2.1;show Eo _ _ _ _ _ _;unfold Eo;unfold DW at h;cases H with
  |true=>simpa using h
  |false=>simp at h;simp[h]
 case round=>
  obtain⟨R,B,a,c,Q,rfl,ha,HC,FF,hk,AB,n,u,AH,q,W⟩:=hrel;clear HG E0 HY HZ;have CL:Hid (gk=2*(s.size-a)+(if(R&& !B)=jj then 1 else 0)):=hk;clear hk;cases R with
  |false=>
   obtain⟨rfl,rfl,rfl⟩:=AB.out.done rfl;obtain⟨ad,F,rfl⟩:=Ce q;have C:=n.cell 2;simp[BK]at C;have H3:=u.lt;have H4:=n.lt;clear HC FF CL AB;(go_wp2_with fail);refine(Mi b s a B 41 41 _ rfl P ha n).mono ?_;rintro e w6 ⟨rfl,E,d⟩;have i:=HJ.out.2.2.2.2;simp only[Bl,fo]at i;rw[i.1,i.2]at E;have x:=u.kept d (by simp;omega);have l:=AH.kept d (by simp;omega);have r:=Ad q d (by simp;omega);have BT:=W.trans d;clear n u AH q W d i C;have Ax:=x.cell 0;have HO:=x.cell 1;have FW:=x.cell 2;have HI:=l.cell 0;have Go:=l.cell 1;have HA:=l.cell 2;have K9:=l.frozen;simp[Cj]at Ax HO FW HI Go HA;go_wp2;refine eX (BQ rfl rfl (((l.set 0 _).set 1 _).set 2 _) underlying79 rfl (by kernel_rfl)) rfl ⟨_,rfl,?_,?_,?_⟩
   .exact Ag (Ag (Ag (Am r (by omega)) (by simpa using A4 r w.heap.size (by omega)) _) (by simpa using A4 r w.heap.size (by omega)) _) (by simpa using A4 r w.heap.size (by omega)) _
   .exact((E.zA _ (by simp;omega) _).zA _ (by simp;omega) _).zA _ (by simp;omega) _
   .exact((BT.setCell (by simp) _).setCell (by simp) _).setCell (by simp) _
  |true=>
   cases B with
   |true=>
    obtain⟨rfl,rfl,rfl⟩:=AB.out.done rfl;obtain⟨ad,F,rfl⟩:=Ce q;have C:=n.cell 2;simp[BK]at C;have H3:=u.lt;have H4:=n.lt;clear HC FF CL AB;(go_wp2_with fail);refine(Mi b s a jj 41 41 _ rfl P ha n).mono ?_;rintro e w6 ⟨rfl,E,d⟩;have i:=HJ.out.2.2.2.2;simp only[Bl,fo]at i;rw[i.1,i.2]at E;have x:=u.kept d (by simp;omega);have l:=AH.kept d (by simp;omega);have r:=Ad q d (by simp;omega);have BT:=W.trans d;clear n u AH q W d i C;have Ax:=x.cell 0;have HO:=x.cell 1;have FW:=x.cell 2;have HI:=l.cell 0;have Go:=l.cell 1;have HA:=l.cell 2;have K9:=l.frozen;simp[Cj]at Ax HO FW HI Go HA;go_wp2;refine eX (BQ rfl rfl (((l.set 0 _).set 1 _).set 2 _) underlying79 rfl (by kernel_rfl)) rfl ⟨_,rfl,?_,?_,?_⟩
    .exact Ag (Ag (Ag (Am r (by omega)) (by simpa using A4 r w.heap.size (by omega)) _) (by simpa using A4 r w.heap.size (by omega)) _) (by simpa using A4 r w.heap.size (by omega)) _
    .exact((E.zA _ (by simp;omega) _).zA _ (by simp;omega) _).zA _ (by simp;omega) _
    .exact((BT.setCell (by simp) _).setCell (by simp) _).setCell (by simp) _
   |false=>
    have C:=n.cell 2;have B9:=u.cell 1;have LE:=u.frozen 1;simp[BK,Cj]at C B9;have H3:=u.lt;have H4:=n.lt;have KK:Z c<=a:=FF rfl;clear HC FF;obtain⟨t,y,g,ht⟩:∃t y g,AK s a K=(t,y,g):=⟨_,_,_,rfl⟩;(have LS:y<=s.size:=by have:=Ff s a K ha;rw[ht]at this;exact this);have HS:=AB.out.step ht ha KK;obtain⟨m,hm⟩:∃m,(!g&&DS s (AN s y g) 44)=m:=⟨_,rfl⟩;obtain⟨v,HM⟩:∃v,BZ s y g 44=v:=⟨_,rfl⟩;rw[hm,HM]at HS;obtain⟨q1,q2,q3,q4,q5⟩:=HS;have HQ:Hid (AK s a K=(t,y,g)/\(!g&&DS s (AN s y g) 44)=m/\BZ s y g 44=v/\v<=s.size/\Z (c++[t])<=v+1/\((m&& !g)=jj->Z (c++[t])<=v)/\2*(s.size-v)+(if(m&& !g)=jj then 1 else 0)<gk/\Eo s m g v (c++[t]) (L,G,I)):=
     ⟨ht,hm,HM,q1,q2,q3,by have:=CL.out;simp at this;omega,q5⟩
    clear ht hm HM q1 q2 q3 q4 q5 CL AB;go_wp2_with fail
    go_region_law
     (first
      |(go_simp;go_at_call 127;refine(PP b s a K _ P ha (by first|exact n|exact n.drew)).mono ?_;rintro e wt ⟨rfl,Ha,A0⟩;rw[HQ.out.1]at Ha⊢;have BS:=u.drew.kept A0 (by simp;omega);have H8:=BS.cell 1;have LM:=BS.frozen 1;have HU:=λo=>(BS.alloc o).cell 1;simp[Cj]at H8 HU;simp only[AQ])
      |(refine jb _ (by rfl) _ _ _ (by rfl) (N+1) 93 i0 _ 2 24 underlying77 K8 KB LB K5 rfl (by omega) Q (Z c) (c.flatMap AQ) (by rfl) ((Ad (Gw q) A0 (by simp;omega)).alloc _)
         ⟨wt.heap.size,0,Y⟩ 1 1 (AQ t) (by rfl) (by rfl) (eS (cs:=(AQ t).toArray) (t:=93) (fr:=(0,0)) (fe wt _)) (by simp[Value.oneCell',AQ])
         (by omega) (by unfold maxLen;omega) (by omega) (by simp;have:=A0.size;simp at this;omega) (wt.heap.size+1) (by simp) ?_;intro T F w5 HH B0 K6 K7;
        have FL:=(BS.alloc _).grown B0 (A4 q N (by omega));have H7:=FL.cell 1;have KS:=FL.frozen 1;simp[Cj]at H7))
    all_goals
     (go_wp2_with fail);have H9:=((Ha.alloc _).grown B0 (A4 q b (by omega))).zA ⟨N,1,Y⟩ (by simp;omega) (U (V ⟨T,0,Y⟩) (Z c+1) F);have M0:=(HH.lt T rfl).1;have Jx:=FL.set 1 (U (V ⟨T,0,Y⟩) (Z c+1) F);have H0:=((((AH.drew).kept A0 (by simp;omega)).alloc _).grown B0 (A4 q w.heap.size (by omega))).zA ⟨N,1,Y⟩ (by simp;omega) (U (V ⟨T,0,Y⟩) (Z c+1) F);have HT:=(((W.drew.trans A0).alloc _).grown B0 (λk hk=>Or.inr (by have:=(q.lt k hk).1;omega))).setCell (p:=⟨N,1,Y⟩) (by simp;omega) (U (V ⟨T,0,Y⟩) (Z c+1) F);have HV:=Ag HH (p:=⟨N,1,Y⟩) (by simp[Value.ownBlock];omega) (U (V ⟨T,0,Y⟩) (Z c+1) F);clear HH FL H7 KS B0 K6 K7 H8 LM HU BS Ha A0 q W AH u n B9 C LE;refine(LW b s y g 44 44 _ rfl P LS H9).mono ?_;rintro e w6 ⟨rfl,E,d⟩;have x:=Jx.kept d (by simp;omega);have l:=H0.kept d (by simp;omega);have BT:=HT.trans d;have r:=Ad HV d (by simp;omega);rw[HQ.out.2.2.1]at E;rw[HQ.out.2.1];clear H9 Jx H0 HT HV d;go_wp2_with fail
     go_roundg (2*(s.size-v)+(if(m&& !g)=jj then 1 else 0))
     case measure=>exact HQ.out.2.2.2.2.2.2.1
     case rel=>
      obtain⟨_,_,_,q1,q2,q3,_,q5⟩:=HQ.out;refine⟨m,g,v,c++[t],U (V ⟨T,0,Y⟩) (Z c+1) F,rfl,q1,q2,q3,rfl,q5,E,x,l,?_,BT⟩;simpa using r
def Ch(s:g0)(at_:Nat):Ae s (Ae s at_)=Ae s at_:=by
 fun_induction Ae s at_ with
 |case1 at_ h hb ih=>exact ih
 |case2 at_ h hb=>rw[Ae];simp[h,hb]
 |case3 at_ h=>rw[Ae];simp[h]
structure BF where
 kind:UInt8
 A:Dj
 L:AG
 R:AG
 at_:Nat
def Ec:AG:=⟨0,ByteArray.empty⟩
def Gk:Dj:=⟨ByteArray.empty,[],0⟩
def Cs(x:BF)(av:Value):List Value:=[X .u8 x.kind.toNat,O x.A.name,av,X .i64 x.A.at_,X .u8 x.L.v.toNat,O x.L.s,X .u8 x.R.v.toNat,O x.R.s,X .i64 x.at_]
def Li(s:g0)(j:Nat):Bool:= !(AX s j K).2.2&&DS s (AN s (AX s j K).2.1 (AX s j K).2.2) 40
def E3(s:g0)(j:Nat):Bool:=if h:j<s.size then Az s[j] else K
def Cw(s:g0)(i:Nat):UInt8:=if h:i<s.size then s[i] else 0
def Hr(s:g0)(j a3:Nat)(t:AG)(b2:Bool):BF×Nat×Bool:=
 if !b2&&(DS s a3 61||DS s a3 35||DS s a3 60)then
  (⟨Cw s a3,Gk,t,(AK s (a3+1) K).1,j⟩,(AK s (a3+1) K).2)
 else(⟨0,Gk,t,Ec,j⟩,a3,jj)
def Dd(s:g0)(at_:Nat):BF×Nat×Bool:=
 let j:=Ae s at_
 if DS s j 33 then(⟨33,(AR s (j+1) K).1,Ec,Ec,j⟩,(AR s (j+1) K).2)
 else if E3 s j&&Li s j then(⟨97,(AR s j K).1,Ec,Ec,j⟩,(AR s j K).2)
 else Hr s j (AN s (AK s j K).2.1 (AK s j K).2.2) (AK s j K).1 (AK s j K).2.2
theorem bw(b:Nat)(s:g0)(at_ j:Nat)(w:World)(t:s.size<=1000000)(Ax:at_<=s.size)(y:Ae s at_=j)(l:DS s j 33=jj)(z:AI w b (BK s at_ K) 73):
  Calls prog 129 #[j3 (V ⟨b,0,Y⟩)] w λe m=>∃x,e=.returned (.agg (Cs ⟨33,(AR s (j+1) K).1,Ec,Ec,j⟩ x).toArray)/\
   m.ownsRow w.heap.size 93 2 x (Z (AR s (j+1) K).1.args) ((AR s (j+1) K).1.args.flatMap AQ)/\AI m b (BK s (AR s (j+1) K).2.1 (AR s (j+1) K).2.2) 73/\Ac [b] w m:=by
 have FC:=z.lt;have FA:=Fa l;have r:AN s j K=j:=by rw[<-y];exact Ch s at_
 have C:BZ s j K 33=j+1:=by unfold BZ;rw[r,l];rfl
 have A:(!false&&DS s (AN s j K) 33)=jj:=by rw[r,l];rfl
 have n:Hid (Ae s at_=j/\BZ s j K 33=j+1/\(!false&&DS s (AN s j K) 33)=jj):=⟨y,C,A⟩;clear y l r C A;go_enter func129,ntmps129;go_wp2_with fail
 refine(Ds b s at_ K _ t Ax (z.alloc _)).mono ?_;rintro e B ⟨rfl,g,o⟩;rw[show AN s at_ K=j from n.out.1]at g
 have v:=(AI.new w _ _).kept o (by simp;omega);have I:=((Ac.refl [b] w).alloc _).trans o;clear z o;have EM:=g.lt;have T:=v.lt;have M:=g.cell 1;simp[BK]at M;go_wp2_with fail
 refine(LW b s j K 33 33 _ rfl t (by omega) (g.alloc _)).mono ?_;rintro e w2 ⟨rfl,u,i⟩;rw[n.out.2.1]at u;rw[n.out.2.2];have d:=(AI.new B _ _).kept i (by simp;omega);have F:=(v.alloc _).kept i (by simp;omega);have D:=(I.alloc _).trans i;obtain⟨N,L⟩:∃N,B.heap.size=N:=⟨_,rfl⟩;rw[L]at d⊢;have E0:b<N:=by omega
 have FO:w.heap.size<N:=by omega
 clear I g v EM T M i L;have G:=d.cell 0;have W:=d.frozen 0;simp at G;go_wp2_with fail
 refine(Px b s (j+1) K _ t (by omega) (u.zA _ (by simp;omega) _)).mono ?_;rintro e w3 ⟨x,rfl,h,EX,f⟩;have E:=(d.set 0 _).kept f (by simp;omega);have q:=(F.zA _ (by simp;omega) _).kept f (by simp;omega);have AB:=f.size;have FF:=d.lt;simp only[World.size_setCell]at AB h;have BA:=(D.setCell (p:=⟨N,0,Y⟩) (by simp;omega) _).trans f;clear u d F D f G W;obtain⟨ad,FL,rfl⟩:=Ce h;have a:=E.cell;have FB:=E.frozen;have c:=q.cell;have FW:=q.frozen;simp only[Cj];have P:=a 0;have e1:=a 1;have e2:=a 2;have e3:=a 3;have e4:=a 4;have Q:=a 5;have e6:=a 6;have S:=a 7;have e8:=a 8;have f0:=c 0;have f1:=c 1;have f2:=c 2;have f3:=c 3;have f4:=c 4;have f5:=c 5;have f6:=c 6;have f7:=c 7;have R:=c 8;simp at P e1 e2 e3 e4 Q e6 S e8 f0 f1 f2 f3 f4 f5 f6 f7 R;clear a c;go_wp2;have H:=λk hk=>A4 h k hk
 refine eX (BQ rfl rfl ((((((((((((q.zA _ (by simp;omega) _).zA _ (by simp;omega) _).zA _ (by simp;omega) _).set 0 _).set 1 _).set 2 _).set 3 _).set 4 _).set 5 _).set 6 _).set 7 _).set 8 _) underlying95 rfl (by kernel_rfl)) rfl ⟨_,rfl,?_,?_,?_⟩
 .repeat (refine Ag ?_ (by have:=H w.heap.size (by omega);have:=H N (by omega);assumption) _)
  exact Am h (by omega)
 .repeat (refine AI.zA ?_ _ (by simp;omega) _)
  exact EX
 .repeat (refine Ac.setCell ?_ (by simp;try omega) _)
  exact BA
theorem aA(b:Nat)(s:g0)(at_ j:Nat)(w:World)(n:s.size<=1000000)(B0:at_<=s.size)(C:Ae s at_=j)(B:DS s j 33=K)(HM:j<s.size)(hl:Az s[j]=jj)(ho:Hid (Li s j=jj))(G:AI w b (BK s at_ K) 73):
  Calls prog 129 #[j3 (V ⟨b,0,Y⟩)] w λe L=>∃F,e=.returned (.agg (Cs ⟨97,(AR s j K).1,Ec,Ec,j⟩ F).toArray)/\
   L.ownsRow w.heap.size 93 2 F (Z (AR s j K).1.args) ((AR s j K).1.args.flatMap AQ)/\AI L b (BK s (AR s j K).2.1 (AR s j K).2.2) 73/\Ac [b] w L:=by
 have HS:=G.lt;have HZ:j<=s.size:=by have:=Bn s at_ B0;omega
 have A:AN s j K=j:=by rw[<-C];exact Ch s at_
 have Ax:BZ s j K 33=j:=by unfold BZ;rw[A,B];rfl
 have W:(!false&&DS s (AN s j K) 33)=K:=by rw[A,B];rfl
 have y:Hid (Ae s at_=j/\BZ s j K 33=j/\(!false&&DS s (AN s j K) 33)=K):=⟨C,Ax,W⟩;clear C B A Ax W;go_enter func129,ntmps129;go_wp2_with fail
 refine(Ds b s at_ K _ n B0 (G.alloc _)).mono ?_;rintro e w1 ⟨rfl,i,M⟩;rw[show AN s at_ K=j from y.out.1]at i
 have Q:=(AI.new w _ _).kept M (by simp;omega);have T:=((Ac.refl [b] w).alloc _).trans M;clear G M;have HK:=i.lt;have EM:=Q.lt;have r:=i.cell 1;simp[BK]at r;go_wp2_with fail
 refine(LW b s j K 33 33 _ rfl n (by omega) (i.alloc _)).mono ?_;rintro e R ⟨rfl,f,z⟩;rw[y.out.2.1]at f;rw[y.out.2.2];have t:=(AI.new w1 _ _).kept z (by simp;omega);have P:=(Q.alloc _).kept z (by simp;omega);have v:=(T.alloc _).trans z;obtain⟨N,hN⟩:∃N,w1.heap.size=N:=⟨_,rfl⟩;rw[hN]at t⊢;have HP:b<N:=by omega
 have H2:w.heap.size<N:=by omega
 clear T i Q HK EM r z hN y;have HT:=t.lt;have HY:=f.lt;have HO:=P.lt;have A2:=f.cell 0;have r:=f.cell 1;have A0:=f.cell 2;simp[BK]at A2 r A0;have H0:(j:Int)<(s.size:Int):=by omega
 obtain⟨D,g,d,u⟩:∃D g d,AX s j K=(D,g,d):=⟨_,_,_,rfl⟩;have FC:g<=s.size:=by have:=G1 s j K (by omega);rw[u]at this;exact this
 have A1:(!d&&DS s (AN s g d) 40)=jj:=by have h:=ho.out;unfold Li at h;rw[u]at h;exact h
 have E:Hid (AX s j K=(D,g,d)/\(!d&&DS s (AN s g d) 40)=jj):=⟨u,A1⟩;clear u A1;go_wp2_with fail
 go_quiet ((go_at_call 169;exact iB (Ij _ s[j] _ rfl)))
 go_wp2_with fail
 go_region
 go_wp2_with fail
 refine(L4 R.heap.size s j K _ n (by omega) (AI.new (R.drewN _) (BK s j K) 73)).mono ?_;rintro e w3 ⟨rfl,H,o⟩;rw[E.out.1]at H⊢;have AT:=((f.drewN _).alloc _).kept o (by simp;omega);have Bx:=((t.drewN _).alloc _).kept o (by simp;omega);have AB:=((P.drewN _).alloc _).kept o (by simp;omega);have AH:=((v.drewN _).alloc _).trans' o (by have:=v.size;simp;omega);clear f t P o A2 r A0;simp only;go_wp2_with fail
 refine(PK R.heap.size s g d 40 40 _ rfl n FC H).mono ?_;rintro e w4 ⟨rfl,_,l⟩;have CC:=AT.kept l (by simp;omega);have q:=Bx.kept l (by simp;omega);have BS:=AB.kept l (by simp;omega);have B9:=AH.trans' l (by have:=v.size;simp;omega);rw[E.out.2];clear AT Bx AB AH l H E v;have S:=q.cell 0;have FW:=q.frozen 0;simp at S;have HL:=q.lt;go_wp2_with fail
 refine(Px b s j K _ n (by omega) (CC.zA _ (by simp;omega) _)).mono ?_;rintro e w5 ⟨F,rfl,x,HF,m⟩;have B2:=(q.set 0 _).kept m (by simp;omega);have I:=(BS.zA _ (by simp;omega) _).kept m (by simp;omega);have HC:=m.size;simp only[World.size_setCell]at HC x;have EK:=(B9.setCell (p:=⟨N,0,Y⟩) (by simp;omega) _).trans m;clear CC q BS B9 m S FW;obtain⟨ad,H1,rfl⟩:=Ce x;have a:=B2.cell;have HQ:=B2.frozen;have c:=I.cell;have HX:=I.frozen;simp only[Cj];have e0:=a 0;have e1:=a 1;have e2:=a 2;have e3:=a 3;have e4:=a 4;have e5:=a 5;have e6:=a 6;have e7:=a 7;have e8:=a 8;have f0:=c 0;have f1:=c 1;have f2:=c 2;have f3:=c 3;have f4:=c 4;have f5:=c 5;have f6:=c 6;have f7:=c 7;have f8:=c 8;simp at e0 e1 e2 e3 e4 e5 e6 e7 e8 f0 f1 f2 f3 f4 f5 f6 f7 f8;clear a c;go_wp2;have BA:=λk hk=>A4 x k hk
 refine eX (BQ rfl rfl ((((((((((((I.zA _ (by simp;omega) _).zA _ (by simp;omega) _).zA _ (by simp;omega) _).set 0 _).set 1 _).set 2 _).set 3 _).set 4 _).set 5 _).set 6 _).set 7 _).set 8 _) underlying95 rfl (by kernel_rfl)) rfl ⟨_,rfl,?_,?_,?_⟩
 .repeat (refine Ag ?_ (by have:=BA w.heap.size (by omega);have:=BA N (by omega);assumption) _)
  exact Am x (by omega)
 .repeat (refine AI.zA ?_ _ (by simp;omega) _)
  exact HF
 .repeat (refine Ac.setCell ?_ (by simp;try omega) _)
  exact EK
