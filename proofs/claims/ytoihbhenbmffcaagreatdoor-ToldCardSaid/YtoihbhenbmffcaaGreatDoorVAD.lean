import Derived.Deep.RegionHeld3
import Derived.Deep.RegionLaw
import Derived.Test.YtoihbhenbmffcaaGreatDoorVAA
set_option linter.all false
set_option maxHeartbeats 0
open List renaming length->Z
open Option renaming none->Y,some->V
open Go.Value renaming slice->U,int->X,string->O,pointer->Gi
open Bool renaming false->K,true->Cm
namespace Go.Proofs.YtoihbhenbmffcaaGreatDoor
open Go.RowKit Go.Proofs.Tryz
variable{s:bC}{n m:Nat}{B:Bool}
def Iv(s:bC)(a:Nat)(c:Bool)(h:a<=s.size):(Bc s a c).2.1<=s.size:=by
 unfold Bc;have b:=BD s a h;have d:=CN AA s _ b;split
 .exact h
 .split<;>simp<;>omega
def fC(h:(Bc s n K).2.2=K):n<(Bc s n K).2.1:=by
 unfold Bc at h⊢;have b:=Ch s n;have c:=Cw AA s (Ae s n);simp only[lJ,if_false]at h⊢;split at h
 .cases h
 .rename_i a;simp only[a,if_false];omega
def F8(s:bC)(a:Nat)(d:Bool)(h:a<=s.size):(AM s a d).2.1<=s.size:=by
 have b:=BD s a h;have e:=CN Ap s _ b;have c:=Iv s _ K b;unfold AM;split
 .exact h
 .split
  .split
   .simp;omega
   .split
    .exact c
    .split<;>simp<;>omega
  .exact b
def Xv{at_:Nat}(h:(AM s at_ K).2.2=K):at_<(AM s at_ K).2.1:=by
 have g:=Ch s at_;unfold AM at h⊢;simp only[lJ,if_false]at h⊢;split at h
 .rename_i c;simp only[c,dite_true];split at h
  .rename_i b;simp only[b,if_true];omega
  .rename_i b;simp only[b,if_false,lJ];split at h
   .rename_i a;simp only[a,if_true];have:=fC h;omega
   .rename_i a;simp only[a,if_false,lJ];split at h
    .cases h
    .rename_i e;simp only[e,if_false];(have d:Ap s[Ae s at_]=Cm:=by simpa using a);have i:=Ct Ap s _ c d;have f:=Cw Ap s (Ae s at_+1);show at_<AG Ap s (Ae s at_);omega
 .cases h
def Cb(s:bC)(at_:Nat):QC AF×Nat×Bool:=
 if h:(!(AM s at_ K).2.2&&Ej s (AQ s (AM s at_ K).2.1 (AM s at_ K).2.2) 44)=Cm/\at_<B7 s (AM s at_ K).2.1 (AM s at_ K).2.2 44/\at_<s.size then
  have _h1:at_<s.size:=h.2.2;have _h2:=h.2.1
  ((AM s at_ K).1::(Cb s (B7 s (AM s at_ K).2.1 (AM s at_ K).2.2 44)).1,(Cb s (B7 s (AM s at_ K).2.1 (AM s at_ K).2.2 44)).2)
 else([(AM s at_ K).1],B7 s (AM s at_ K).2.1 (AM s at_ K).2.2 44,(AM s at_ K).2.2)
def EZ(s:bC)(a:Nat)(b:Bool)(c:UInt8):a<=B7 s a b c:=by
 unfold B7 AQ;have:=Ch s a;split<;>split<;>omega
def Rr{at_ a:Nat}{t:AF}(b:AM s at_ K=(t,a,B))(g:at_<=s.size)(e:(!B&&Ej s (AQ s a B) 44)=Cm):
  at_<B7 s a B 44/\Cb s at_=(t::(Cb s (B7 s a B 44)).1,(Cb s (B7 s a B 44)).2):=by
 have f:B=K:=by cases B<;>simp_all
 subst f;have d:=Xv (s:=s) (at_:=at_) (by rw[b]);have c:=F8 s at_ K g;rw[b]at d c;simp only at d c;have h:=EZ s a K 44;refine⟨by omega,?_⟩
 conv=>lhs;rw[Cb]
 rw[dif_pos (by rw[b];exact⟨e,by simp only;omega,by omega⟩)];simp only[b]
def MT{t:AF}(c:AM s n K=(t,m,B))(b:(!B&&Ej s (AQ s m B) 44)=K):
  Cb s n=([t],B7 s m B 44,B):=by
 conv=>lhs;rw[Cb]
 rw[dif_neg (by rw[c];intro h;rw[h.1]at b;cases b),c]
structure C8 where
 name:bC
 args:QC AF
 at_:Nat
def Bz(s:bC)(at_:Nat)(bad:Bool)(c:UInt8):Nat×Bool:=(B7 s at_ bad c,!(!bad&&Ej s (AQ s at_ bad) c))
def Et(s:bC)(p:Nat×Bool):QC AF×Nat×Bool:=if p.2 then([],p.1,Cm)else Cb s p.1
def A3(s:bC)(at_:Nat)(bad:Bool):C8×Nat×Bool:=
 let nm:=Bc s (AQ s at_ bad) bad
 let l:=Et s (Bz s nm.2.1 nm.2.2 40)
 (⟨nm.1,l.1,AQ s at_ bad⟩,Bz s l.2.1 l.2.2 41)
def WY(s:bC)(a:Nat)(h:a<=s.size):(Cb s a).2.1<=s.size:=by
 fun_induction Cb s a with
 |case1 a hc _ _ ih=>exact ih (Eb _ _ _ _ (F8 _ _ _ h))
 |case2 a hc=>exact Eb _ _ _ _ (F8 _ _ _ h)
theorem Tryz.info93:(Tryz.prog.info? 93).map (λi=>(i.zero,i.size,i.bytes))=V (V (.agg #[X .u8 0,O ⟨#[]⟩]),2,24):=by kernel_rfl
def CB(nm:bC)(av:Value)(j:Nat):QC Value:=[O nm,av,X .i64 j]
def Fg(s:bC)(mb bd:Bool)(a:Nat)(acc:QC AF)(R:QC AF×Nat×Bool):Prop:=
 if(mb&& !bd)=Cm then(acc++(Cb s a).1,(Cb s a).2)=R else(acc,a,bd)=R
def Fg.step{c:QC AF}{R:QC AF×Nat×Bool}{t:AF}(h:Fg s Cm K n c R)(b:AM s n K=(t,m,B))(i:n<=s.size)(w:Z c<=n):
  B7 s m B 44<=s.size/\Z (c++[t])<=B7 s m B 44+1/\(((!B&&Ej s (AQ s m B) 44)&& !B)=Cm->Z (c++[t])<=B7 s m B 44)/\
  2*(s.size-B7 s m B 44)+(if((!B&&Ej s (AQ s m B) 44)&& !B)=Cm then 1 else 0)<2*(s.size-n)+1/\
  Fg s (!B&&Ej s (AQ s m B) 44) B (B7 s m B 44) (c++[t]) R:=by
 have d:=F8 s n K i;have u:=EZ s m B 44;have g:B=K->n<m:=λq=>by
  have:=Xv (s:=s) (at_:=n) (by rw[b];exact q);rw[b]at this;exact this
 have v:n<=m:=by
  cases B with
  |false=>have:=g rfl;omega
  |true=>
   have p:=Ch s n;(have e:m=(AM s n K).2.1:=by rw[b]);(have f:(AM s n K).2.2=Cm:=by rw[b]);rw[e];unfold AM at f⊢;simp only[lJ,if_false]at f⊢;split
   .rename_i l;simp only[l,dite_true]at f;split
    .simp only;omega
    .split
     .simp only;have y:=Ch s (Ae s n);have o:=Cw AA s (Ae s (Ae s n));unfold Bc;simp only[lJ,if_false];split<;>simp only<;>omega
     .have o:=Cw Ap s (Ae s n);split<;>simp only<;>omega
   .exact p
 rw[b]at d;simp only at d;have j:=Eb s m B 44 d;unfold Fg at h;simp only[m4,od,if_true]at h;cases hm:(!B&&Ej s (AQ s m B) 44)with
 |true=>
  have r:B=K:=by cases B<;>simp_all
  subst r;obtain⟨x,k⟩:=Rr b i hm;have:=g rfl;refine⟨j,by simp;omega,by simp;omega,by simp;omega,?_⟩;unfold Fg;simp only[m4,od,if_true];rw[k]at h;rw[<-h];simp
 |false=>
  refine⟨j,by simp;omega,by simp,by simp;omega,?_⟩;unfold Fg;rw[MT b hm]at h;rw[<-h];simp
def Fg.done{c b:Bool}{d L:QC AF}(h:Fg s c b n d (L,m,B))(e:(c&& !b)=K):d=L/\n=m/\b=B:=by
 unfold Fg at h;rw[lO (by rw[e];exact nS)]at h;simpa using h
set_option maxRecDepth 100000
theorem Rx(b:Nat)(s:bC)(i:Nat)(f:Bool)(w:World)(Q:s.size<=1000000)(H1:i<=s.size)(hB:AI w b (B1 s i f) 73):
  Calls prog 79 #[Gi (V ⟨b,0,Y⟩)] w λe w'=>∃R,e=.returned (.agg (CB (A3 s i f).1.name R (A3 s i f).1.at_).toArray)/\
   w'.ownsRow w.heap.size 93 2 R (Z (A3 s i f).1.args) ((A3 s i f).1.args.flatMap AX)/\AI w' b (B1 s (A3 s i f).2.1 (A3 s i f).2.2) 73/\Ac [b] w w':=by
 obtain⟨i0,K1,IA,K3,KD⟩:=mH Tryz.info93;have LL:=hB.lt;have FT:=GV s i f H1;obtain⟨j,hj⟩:=QP (AQ s i f);obtain⟨nm,E,P,CL⟩:∃nm E P,Bc s j f=(nm,E,P):=⟨_,_,_,rfl⟩;obtain⟨A,I,B⟩:∃A I,Bz s E P 40=(A,I):=⟨_,_,rfl⟩;obtain⟨L,H,M,T⟩:∃L H M,Et s (A,I)=(L,H,M):=⟨_,_,_,rfl⟩;obtain⟨a4,b4,l⟩:∃a4 b4,Bz s H M 41=(a4,b4):=⟨_,_,rfl⟩;have hR:A3 s i f=(⟨nm,L,j⟩,a4,b4):=by
  simp only[A3,hj,CL,B,T,l]
 rw[hR];rw[hj]at FT;have HL:E<=s.size:=by have:=Iv s j f FT;rw[CL]at this;exact this
 have H5:A<=s.size:=by have:=Eb s E P 40 HL;simp only[Bz,mA]at B;omega
 have LB:H<=s.size:=by
  unfold Et at T;split at T
  .simp only[mA]at T;omega
  .have:=WY s A H5;rw[T]at this;exact this
 have HJ:Hid (AQ s i f=j/\Bc s j f=(nm,E,P)/\Bz s E P 40=(A,I)/\Et s (A,I)=(L,H,M)/\Bz s H M 41=(a4,b4)):=⟨hj,CL,B,T,l⟩;clear hR hj CL B T l;go_enter func79,ntmps79;go_wp2_with fail
 refine(DR b s i f _ Q H1 (hB.alloc _)).mono ?_;rintro e w1 ⟨rfl,hb,hK⟩;rw[HJ.out.1]at hb;have hn:=(Tc w _ _).kept hK (by simp;omega);have HP:=((SF [b] w).alloc _).trans hK;clear hB hK;have K6:=hb.lt;have Ix:=hn.lt;have B0:=hb.cell 1;simp[B1]at B0;go_wp2_with fail
 refine(NT b s j f _ Q FT ?_).mono ?_
 .exact hb.alloc _
 rintro e w2 ⟨rfl,Go,FB⟩;have Bx:=(Tc w1 _ _).kept FB (by simp;omega);have H6:=(hn.alloc _).kept FB (by simp;omega);have HX:=(HP.alloc _).trans FB;rw[HJ.out.2.1]at Go⊢;obtain⟨N,hN⟩:=QP w1.heap.size;rw[hN]at Bx⊢;have LE:b<N:=by omega
 have L0:w.heap.size<N:=by omega
 clear HP hb hn K6 Ix B0 FB hN;have AB:=Bx.cell 0;have JJ:=Bx.frozen 0;simp at AB;simp only;go_wp2_with fail
 refine(Oa b s E P 40 40 _ rfl Q HL ?_).mono ?_
 .exact Go.bI _ (by simp;omega) _
 rintro e w3 ⟨rfl,HB,EK⟩;have EM:=(Bx.set 0 _).kept EK (by simp;omega);have HT:=(H6.bI _ (by simp;omega) _).kept EK (by simp;omega);have HU:=(HX.setCell (p:=⟨N,0,Y⟩) (by simp;omega) _).trans EK;have B:=HJ.out.2.2.1;simp only[Bz,mA]at B;rw[B.1,B.2]at HB;simp only[lC]at EM;clear Go Bx H6 HX EK AB JJ B;go_wp2_with fail
 have K9:=EM.lt
 go_loopg [4] (2*(s.size-A)+(if(Cm&& !I)=Cm then 1 else 0)) (λk JA wr=>∃(S C:Bool) (a:Nat) (c:QC AF) (R:Value),JA=.bool S/\a<=s.size/\Z c<=a+1/\((S&& !C)=Cm->Z c<=a)/\
  k=2*(s.size-a)+(if(S&& !C)=Cm then 1 else 0)/\Hid (Fg s S C a c (L,H,M))/\AI wr b (B1 s a C) 73/\AI wr N (CB nm R j) 79/\AI wr w.heap.size [O ⟨#[]⟩,U Y 0 0,X .i64 0] 79/\
  wr.ownsRow (N+1) 93 2 R (Z c) (c.flatMap AX)/\Ac [b] w wr)
 case atStart=>
  refine⟨Cm,I,A,[],U Y 0 0,rfl,H5,by simp,by simp,rfl,?_,HB,EM,HT,mf _ _ _ _,HU⟩;have h:=HJ.out.2.2.2.1;show Fg _ _ _ _ _ _;unfold Fg;unfold Et at h;cases I with
  |true=>simpa using h
  |false=>simp at h;simp[h]
 case round=>
  obtain⟨S,C,a,c,R,rfl,ha,FW,EY,hk,AH,q,v,AO,r,Ax⟩:=hrel;clear HB EM HT HU;have B9:Hid (gk=2*(s.size-a)+(if(S&& !C)=Cm then 1 else 0)):=hk;clear hk;cases S with
  |false=>
   obtain⟨rfl,rfl,rfl⟩:=AH.out.done rfl;obtain⟨ad,G,rfl⟩:=Cy r;have D:=q.cell 2;simp[B1]at D;have HY:=v.lt;have HZ:=q.lt;clear FW EY B9 AH;(go_wp2_with fail);refine(Oa b s a C 41 41 _ rfl Q ha q).mono ?_;rintro e w6 ⟨rfl,F,d⟩;have l:=HJ.out.2.2.2.2;simp only[Bz,mA]at l;rw[l.1,l.2]at F;have y:=v.kept d (by simp;omega);have n:=AO.kept d (by simp;omega);have u:=Ad r d (by simp;omega);have BB:=Ax.trans d;clear q v AO r Ax d l D;have AB:=y.cell 0;have HI:=y.cell 1;have FF:=y.cell 2;have HD:=n.cell 0;have FL:=n.cell 1;have FP:=n.cell 2;have K2:=n.frozen;simp[CB]at AB HI FF HD FL FP;go_wp2;refine mj (Cg rfl rfl (((n.set 0 _).set 1 _).set 2 _) underlying79 rfl (by kernel_rfl)) rfl ⟨_,rfl,?_,?_,?_⟩
   .exact Ah (Ah (Ah (Al u (by omega)) (by simpa using Bh u w.heap.size (by omega)) _) (by simpa using Bh u w.heap.size (by omega)) _) (by simpa using Bh u w.heap.size (by omega)) _
   .exact((F.bI _ (by simp;omega) _).bI _ (by simp;omega) _).bI _ (by simp;omega) _
   .exact((BB.setCell (by simp) _).setCell (by simp) _).setCell (by simp) _
  |true=>
   cases C with
   |true=>
    obtain⟨rfl,rfl,rfl⟩:=AH.out.done rfl;obtain⟨ad,G,rfl⟩:=Cy r;have D:=q.cell 2;simp[B1]at D;have HY:=v.lt;have HZ:=q.lt;clear FW EY B9 AH;(go_wp2_with fail);refine(Oa b s a Cm 41 41 _ rfl Q ha q).mono ?_;rintro e w6 ⟨rfl,F,d⟩;have l:=HJ.out.2.2.2.2;simp only[Bz,mA]at l;rw[l.1,l.2]at F;have y:=v.kept d (by simp;omega);have n:=AO.kept d (by simp;omega);have u:=Ad r d (by simp;omega);have BB:=Ax.trans d;clear q v AO r Ax d l D;have AB:=y.cell 0;have HI:=y.cell 1;have FF:=y.cell 2;have HD:=n.cell 0;have FL:=n.cell 1;have FP:=n.cell 2;have K2:=n.frozen;simp[CB]at AB HI FF HD FL FP;go_wp2;refine mj (Cg rfl rfl (((n.set 0 _).set 1 _).set 2 _) underlying79 rfl (by kernel_rfl)) rfl ⟨_,rfl,?_,?_,?_⟩
    .exact Ah (Ah (Ah (Al u (by omega)) (by simpa using Bh u w.heap.size (by omega)) _) (by simpa using Bh u w.heap.size (by omega)) _) (by simpa using Bh u w.heap.size (by omega)) _
    .exact((F.bI _ (by simp;omega) _).bI _ (by simp;omega) _).bI _ (by simp;omega) _
    .exact((BB.setCell (by simp) _).setCell (by simp) _).setCell (by simp) _
   |false=>
    have D:=q.cell 2;have B0:=v.cell 1;have K5:=v.frozen 1;simp[B1,CB]at D B0;have HY:=v.lt;have HZ:=q.lt;have IJ:Z c<=a:=EY rfl;clear FW EY;obtain⟨t,z,g,ht⟩:∃t z g,AM s a K=(t,z,g):=⟨_,_,_,rfl⟩;(have K8:z<=s.size:=by have:=F8 s a K ha;rw[ht]at this;exact this);have HS:=AH.out.step ht ha IJ;obtain⟨m,hm⟩:=QP (!g&&Ej s (AQ s z g) 44);obtain⟨x,HG⟩:=QP (B7 s z g 44);rw[hm,HG]at HS;obtain⟨q1,q2,q3,q4,q5⟩:=HS;have HQ:Hid (AM s a K=(t,z,g)/\(!g&&Ej s (AQ s z g) 44)=m/\B7 s z g 44=x/\x<=s.size/\Z (c++[t])<=x+1/\((m&& !g)=Cm->Z (c++[t])<=x)/\2*(s.size-x)+(if(m&& !g)=Cm then 1 else 0)<gk/\Fg s m g x (c++[t]) (L,H,M)):=
     ⟨ht,hm,HG,q1,q2,q3,by have:=B9.out;simp at this;omega,q5⟩
    clear ht hm HG q1 q2 q3 q4 q5 B9 AH;go_wp2_with fail
    go_region_law
     (first
      |(go_simp;go_at_call 127;refine(R2 b s a K _ Q ha (by first|exact q|exact q.drew)).mono ?_;rintro e wt ⟨rfl,FO,AT⟩;rw[HQ.out.1]at FO⊢;have BA:=v.drew.kept AT (by simp;omega);have H3:=BA.cell 1;have K7:=BA.frozen 1;have HN:=λo=>(BA.alloc o).cell 1;simp[CB]at H3 HN;simp only[AX])
      |(refine oY _ (by rfl) _ _ _ (by rfl) (N+1) 93 i0 _ 2 24 underlying77 K1 IA K3 KD rfl (by omega) R (Z c) (c.flatMap AX) (by rfl) ((Ad (F0 r) AT (by simp;omega)).alloc _)
         ⟨wt.heap.size,0,Y⟩ 1 1 (AX t) (by rfl) (by rfl) (mg (mo wt _)) (by simp[Value.oneCell',AX])
         (by omega) (by unfold maxLen;omega) (by omega) (by simp;have:=AT.size;simp at this;omega) (wt.heap.size+1) (by simp) ?_;intro W G w5 HC BS KK KS;
        have E0:=(BA.alloc _).grown BS (Bh r N (by omega));have H2:=E0.cell 1;have IS:=E0.frozen 1;simp[CB]at H2))
    all_goals
     (go_wp2_with fail);have H4:=((FO.alloc _).grown BS (Bh r b (by omega))).bI ⟨N,1,Y⟩ (by simp;omega) (U (V ⟨W,0,Y⟩) (Z c+1) G);have LM:=(HC.lt W rfl).1;have H8:=E0.set 1 (U (V ⟨W,0,Y⟩) (Z c+1) G);have HV:=((((AO.drew).kept AT (by simp;omega)).alloc _).grown BS (Bh r w.heap.size (by omega))).bI ⟨N,1,Y⟩ (by simp;omega) (U (V ⟨W,0,Y⟩) (Z c+1) G);have HM:=(((Ax.drew.trans AT).alloc _).grown BS (λk hk=>Or.inr (by have:=(r.lt k hk).1;omega))).setCell (p:=⟨N,1,Y⟩) (by simp;omega) (U (V ⟨W,0,Y⟩) (Z c+1) G);have HO:=Ah HC (p:=⟨N,1,Y⟩) (by simp[Value.ownBlock];omega) (U (V ⟨W,0,Y⟩) (Z c+1) G);clear HC E0 H2 IS BS KK KS H3 K7 HN BA FO AT r Ax AO v q B0 D K5;refine(NF b s z g 44 44 _ rfl Q K8 H4).mono ?_;rintro e w6 ⟨rfl,F,d⟩;have y:=H8.kept d (by simp;omega);have n:=HV.kept d (by simp;omega);have BB:=HM.trans d;have u:=Ad HO d (by simp;omega);rw[HQ.out.2.2.1]at F;rw[HQ.out.2.1];clear H4 H8 HV HM HO d;go_wp2_with fail
     go_roundg (2*(s.size-x)+(if(m&& !g)=Cm then 1 else 0))
     case measure=>exact HQ.out.2.2.2.2.2.2.1
     case rel=>
      obtain⟨_,_,_,q1,q2,q3,_,q5⟩:=HQ.out;refine⟨m,g,x,c++[t],U (V ⟨W,0,Y⟩) (Z c+1) G,rfl,q1,q2,q3,rfl,q5,F,y,n,?_,BB⟩;simpa using u
def Cz(s:bC)(a:Nat):Ae s (Ae s a)=Ae s a:=by
 fun_induction Ae s a with
 |case1 a h hb ih=>exact ih
 |case2 a h hb=>rw[Ae];simp[h,hb]
 |case3 a h=>rw[Ae];simp[h]
structure Bp where
 kind:UInt8
 A:C8
 L:AF
 R:AF
 at_:Nat
def Cl:AF:=⟨0,ByteArray.empty⟩
def Gp:C8:=⟨ByteArray.empty,[],0⟩
def Cn(x:Bp)(av:Value):QC Value:=[X .u8 x.kind.toNat,O x.A.name,av,X .i64 x.A.at_,X .u8 x.L.v.toNat,O x.L.s,X .u8 x.R.v.toNat,O x.R.s,X .i64 x.at_]
def Ka(s:bC)(j:Nat):Bool:= !(Bc s j K).2.2&&Ej s (AQ s (Bc s j K).2.1 (Bc s j K).2.2) 40
def Ey(s:bC)(j:Nat):Bool:=if h:j<s.size then AA s[j] else K
def CT(s:bC)(i:Nat):UInt8:=if h:i<s.size then s[i] else 0
def IF(s:bC)(j a3:Nat)(t:AF)(b2:Bool):Bp×Nat×Bool:=
 if !b2&&(Ej s a3 61||Ej s a3 35||Ej s a3 60)then
  (⟨CT s a3,Gp,t,(AM s (a3+1) K).1,j⟩,(AM s (a3+1) K).2)
 else(⟨0,Gp,t,Cl,j⟩,a3,Cm)
def Dd(s:bC)(at_:Nat):Bp×Nat×Bool:=
 let j:=Ae s at_
 if Ej s j 33 then(⟨33,(A3 s (j+1) K).1,Cl,Cl,j⟩,(A3 s (j+1) K).2)
 else if Ey s j&&Ka s j then(⟨97,(A3 s j K).1,Cl,Cl,j⟩,(A3 s j K).2)
 else IF s j (AQ s (AM s j K).2.1 (AM s j K).2.2) (AM s j K).1 (AM s j K).2.2
theorem gK(b:Nat)(s:bC)(d j:Nat)(w:World)(u:s.size<=1000000)(AB:d<=s.size)(z:Ae s d=j)(m:Ej s j 33=Cm)(A:AI w b (B1 s d K) 73):
  Calls prog 129 #[Gi (V ⟨b,0,Y⟩)] w λe n=>∃y,e=.returned (.agg (Cn ⟨33,(A3 s (j+1) K).1,Cl,Cl,j⟩ y).toArray)/\
   n.ownsRow w.heap.size 93 2 y (Z (A3 s (j+1) K).1.args) ((A3 s (j+1) K).1.args.flatMap AX)/\AI n b (B1 s (A3 s (j+1) K).2.1 (A3 s (j+1) K).2.2) 73/\Ac [b] w n:=by
 have E0:=A.lt;have EX:=F4 m;have t:AQ s j K=j:=by rw[<-z];exact Cz s d
 have D:B7 s j K 33=j+1:=by unfold B7;rw[t,m];rfl
 have B:(!false&&Ej s (AQ s j K) 33)=Cm:=by rw[t,m];rfl
 have o:Hid (Ae s d=j/\B7 s j K 33=j+1/\(!false&&Ej s (AQ s j K) 33)=Cm):=⟨z,D,B⟩;clear z m t D B;go_enter func129,ntmps129;go_wp2_with fail
 refine(DR b s d K _ u AB (A.alloc _)).mono ?_;rintro e C ⟨rfl,h,q⟩;rw[show AQ s d K=j from o.out.1]at h
 have x:=(Tc w _ _).kept q (by simp;omega);have L:=((SF [b] w).alloc _).trans q;clear A q;have DT:=h.lt;have W:=x.lt;have P:=h.cell 1;simp[B1]at P;go_wp2_with fail
 refine(NF b s j K 33 33 _ rfl u (by omega) (h.alloc _)).mono ?_;rintro e w2 ⟨rfl,v,l⟩;rw[o.out.2.1]at v;rw[o.out.2.2];have f:=(Tc C _ _).kept l (by simp;omega);have G:=(x.alloc _).kept l (by simp;omega);have E:=(L.alloc _).trans l;obtain⟨N,M⟩:=QP C.heap.size;rw[M]at f⊢;have ES:b<N:=by omega
 have FC:w.heap.size<N:=by omega
 clear L h x DT W P l M;have H:=f.cell 0;have Ax:=f.frozen 0;simp at H;go_wp2_with fail
 refine(Rx b s (j+1) K _ u (by omega) (v.bI _ (by simp;omega) _)).mono ?_;rintro e w3 ⟨y,rfl,i,EK,g⟩;have F:=(f.set 0 _).kept g (by simp;omega);have r:=(G.bI _ (by simp;omega) _).kept g (by simp;omega);have AH:=g.size;have FA:=f.lt;simp only[World.size_setCell]at AH i;have Bx:=(E.setCell (p:=⟨N,0,Y⟩) (by simp;omega) _).trans g;clear v f G E g H Ax;obtain⟨ad,FB,rfl⟩:=Cy i;have a:=F.cell;have EY:=F.frozen;have c:=r.cell;have FO:=r.frozen;simp only[CB];have Q:=a 0;have e1:=a 1;have e2:=a 2;have e3:=a 3;have e4:=a 4;have R:=a 5;have e6:=a 6;have T:=a 7;have e8:=a 8;have f0:=c 0;have f1:=c 1;have f2:=c 2;have f3:=c 3;have f4:=c 4;have f5:=c 5;have f6:=c 6;have f7:=c 7;have S:=c 8;simp at Q e1 e2 e3 e4 R e6 T e8 f0 f1 f2 f3 f4 f5 f6 f7 S;clear a c;go_wp2;have I:=λk hk=>Bh i k hk
 refine mj (Cg rfl rfl ((((((((((((r.bI _ (by simp;omega) _).bI _ (by simp;omega) _).bI _ (by simp;omega) _).set 0 _).set 1 _).set 2 _).set 3 _).set 4 _).set 5 _).set 6 _).set 7 _).set 8 _) underlying95 rfl (by kernel_rfl)) rfl ⟨_,rfl,?_,?_,?_⟩
 .repeat (refine Ah ?_ (by have:=I w.heap.size (by omega);have:=I N (by omega);assumption) _)
  exact Al i (by omega)
 .repeat (refine AI.bI ?_ _ (by simp;omega) _)
  exact EK
 .repeat (refine Ac.setCell ?_ (by simp;try omega) _)
  exact Bx
theorem ft(b:Nat)(s:bC)(d j:Nat)(w:World)(o:s.size<=1000000)(BS:d<=s.size)(D:Ae s d=j)(C:Ej s j 33=K)(HI:j<s.size)(hl:AA s[j]=Cm)(ho:Hid (Ka s j=Cm))(H:AI w b (B1 s d K) 73):
  Calls prog 129 #[Gi (V ⟨b,0,Y⟩)] w λe M=>∃G,e=.returned (.agg (Cn ⟨97,(A3 s j K).1,Cl,Cl,j⟩ G).toArray)/\
   M.ownsRow w.heap.size 93 2 G (Z (A3 s j K).1.args) ((A3 s j K).1.args.flatMap AX)/\AI M b (B1 s (A3 s j K).2.1 (A3 s j K).2.2) 73/\Ac [b] w M:=by
 have HP:=H.lt;have HV:j<=s.size:=by have:=BD s d BS;omega
 have B:AQ s j K=j:=by rw[<-D];exact Cz s d
 have AB:B7 s j K 33=j:=by unfold B7;rw[B,C];rfl
 have Ax:(!false&&Ej s (AQ s j K) 33)=K:=by rw[B,C];rfl
 have z:Hid (Ae s d=j/\B7 s j K 33=j/\(!false&&Ej s (AQ s j K) 33)=K):=⟨D,AB,Ax⟩;clear D C B AB Ax;go_enter func129,ntmps129;go_wp2_with fail
 refine(DR b s d K _ o BS (H.alloc _)).mono ?_;rintro e w1 ⟨rfl,l,P⟩;rw[show AQ s d K=j from z.out.1]at l
 have R:=(Tc w _ _).kept P (by simp;omega);have W:=((SF [b] w).alloc _).trans P;clear H P;have HG:=l.lt;have DT:=R.lt;have t:=l.cell 1;simp[B1]at t;go_wp2_with fail
 refine(NF b s j K 33 33 _ rfl o (by omega) (l.alloc _)).mono ?_;rintro e S ⟨rfl,g,A⟩;rw[z.out.2.1]at g;rw[z.out.2.2];have u:=(Tc w1 _ _).kept A (by simp;omega);have Q:=(R.alloc _).kept A (by simp;omega);have x:=(W.alloc _).trans A;obtain⟨N,hN⟩:=QP w1.heap.size;rw[hN]at u⊢;have HM:b<N:=by omega
 have HZ:w.heap.size<N:=by omega
 clear W l R HG DT t A hN z;have HQ:=u.lt;have HU:=g.lt;have HL:=Q.lt;have A1:=g.cell 0;have t:=g.cell 1;have AT:=g.cell 2;simp[B1]at A1 t AT;have HX:(j:Int)<(s.size:Int):=by omega
 obtain⟨E,i,f,v⟩:∃E i f,Bc s j K=(E,i,f):=⟨_,_,_,rfl⟩;have E0:i<=s.size:=by have:=Iv s j K (by omega);rw[v]at this;exact this
 have A0:(!f&&Ej s (AQ s i f) 40)=Cm:=by have h:=ho.out;unfold Ka at h;rw[v]at h;exact h
 have F:Hid (Bc s j K=(E,i,f)/\(!f&&Ej s (AQ s i f) 40)=Cm):=⟨v,A0⟩;clear v A0;go_wp2_with fail
 go_quiet ((go_at_call 169;exact oL (Jp _ s[j] _ rfl)))
 go_wp2_with fail
 go_region
 go_wp2_with fail
 refine(NT S.heap.size s j K _ o (by omega) (Tc (S.drewN _) (B1 s j K) 73)).mono ?_;rintro e w3 ⟨rfl,I,q⟩;rw[F.out.1]at I⊢;have AR:=((g.drewN _).alloc _).kept q (by simp;omega);have A2:=((u.drewN _).alloc _).kept q (by simp;omega);have AH:=((Q.drewN _).alloc _).kept q (by simp;omega);have AO:=((x.drewN _).alloc _).trans' q (by have:=x.size;simp;omega);clear g u Q q A1 t AT;simp only;go_wp2_with fail
 refine(RS S.heap.size s i f 40 40 _ rfl o E0 I).mono ?_;rintro e w4 ⟨rfl,_,m⟩;have B2:=AR.kept m (by simp;omega);have r:=A2.kept m (by simp;omega);have BA:=AH.kept m (by simp;omega);have B0:=AO.trans' m (by have:=x.size;simp;omega);rw[F.out.2];clear AR A2 AH AO m I F x;have T:=r.cell 0;have FO:=r.frozen 0;simp at T;have HH:=r.lt;go_wp2_with fail
 refine(Rx b s j K _ o (by omega) (B2.bI _ (by simp;omega) _)).mono ?_;rintro e w5 ⟨G,rfl,y,HC,n⟩;have BT:=(r.set 0 _).kept n (by simp;omega);have L:=(BA.bI _ (by simp;omega) _).kept n (by simp;omega);have Ha:=n.size;simp only[World.size_setCell]at Ha y;have CL:=(B0.setCell (p:=⟨N,0,Y⟩) (by simp;omega) _).trans n;clear B2 r BA B0 n T FO;obtain⟨ad,HY,rfl⟩:=Cy y;have a:=BT.cell;have HN:=BT.frozen;have c:=L.cell;have HT:=L.frozen;simp only[CB];have e0:=a 0;have e1:=a 1;have e2:=a 2;have e3:=a 3;have e4:=a 4;have e5:=a 5;have e6:=a 6;have e7:=a 7;have e8:=a 8;have f0:=c 0;have f1:=c 1;have f2:=c 2;have f3:=c 3;have f4:=c 4;have f5:=c 5;have f6:=c 6;have f7:=c 7;have f8:=c 8;simp at e0 e1 e2 e3 e4 e5 e6 e7 e8 f0 f1 f2 f3 f4 f5 f6 f7 f8;clear a c;go_wp2;have Bx:=λk hk=>Bh y k hk
 refine mj (Cg rfl rfl ((((((((((((L.bI _ (by simp;omega) _).bI _ (by simp;omega) _).bI _ (by simp;omega) _).set 0 _).set 1 _).set 2 _).set 3 _).set 4 _).set 5 _).set 6 _).set 7 _).set 8 _) underlying95 rfl (by kernel_rfl)) rfl ⟨_,rfl,?_,?_,?_⟩
 .repeat (refine Ah ?_ (by have:=Bx w.heap.size (by omega);have:=Bx N (by omega);assumption) _)
  exact Al y (by omega)
 .repeat (refine AI.bI ?_ _ (by simp;omega) _)
  exact HC
 .repeat (refine Ac.setCell ?_ (by simp;try omega) _)
  exact CL
