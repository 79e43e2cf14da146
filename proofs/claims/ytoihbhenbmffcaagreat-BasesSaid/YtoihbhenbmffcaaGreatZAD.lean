import Derived.Deep.RegionHeld3
import Derived.Deep.RegionLaw
import Derived.Test.YtoihbhenbmffcaaGreatZAA
set_option linter.all false
set_option maxHeartbeats 0
open List renaming length->Z
open Option renaming none->Y,some->V
open Go.Value renaming slice->U,int->X,string->O,pointer->j2
open Bool renaming false->K,true->hG
namespace Go.Proofs.YtoihbhenbmffcaaGreat
open Go.RowKit Go.Proofs.Tryz
variable{s:zA}{n m:Nat}{B:Bool}
def Hc(s:zA)(a:Nat)(c:Bool)(h:a<=s.size):(A3 s a c).2.1<=s.size:=by
 unfold A3;have b:=Bj s a h;have d:=C3 Az s _ b;split
 .exact h
 .split<;>simp<;>omega
def aN(h:(A3 s n K).2.2=K):n<(A3 s n K).2.1:=by
 unfold A3 at h⊢;have b:=BR s n;have c:=Cr Az s (Ae s n);simp only[fq,if_false]at h⊢;split at h
 .cases h
 .rename_i a;simp only[a,if_false];omega
def Fp(s:zA)(a:Nat)(d:Bool)(h:a<=s.size):(AK s a d).2.1<=s.size:=by
 have b:=Bj s a h;have e:=C3 Aq s _ b;have c:=Hc s _ K b;unfold AK;split
 .exact h
 .split
  .split
   .simp;omega
   .split
    .exact c
    .split<;>simp<;>omega
  .exact b
def UT{at_:Nat}(h:(AK s at_ K).2.2=K):at_<(AK s at_ K).2.1:=by
 have g:=BR s at_;unfold AK at h⊢;simp only[fq,if_false]at h⊢;split at h
 .rename_i c;simp only[c,dite_true];split at h
  .rename_i b;simp only[b,if_true];omega
  .rename_i b;simp only[b,if_false,fq];split at h
   .rename_i a;simp only[a,if_true];have:=aN h;omega
   .rename_i a;simp only[a,if_false,fq];split at h
    .cases h
    .rename_i e;simp only[e,if_false];(have d:Aq s[Ae s at_]=hG:=by simpa using a);have i:=Ce Aq s _ c d;have f:=Cr Aq s (Ae s at_+1);show at_<AM Aq s (Ae s at_);omega
 .cases h
def Cy(s:zA)(at_:Nat):kJ AG×Nat×Bool:=
 if h:(!(AK s at_ K).2.2&&DV s (AN s (AK s at_ K).2.1 (AK s at_ K).2.2) 44)=hG/\at_<BW s (AK s at_ K).2.1 (AK s at_ K).2.2 44/\at_<s.size then
  have _h1:at_<s.size:=h.2.2;have _h2:=h.2.1
  ((AK s at_ K).1::(Cy s (BW s (AK s at_ K).2.1 (AK s at_ K).2.2 44)).1,(Cy s (BW s (AK s at_ K).2.1 (AK s at_ K).2.2 44)).2)
 else([(AK s at_ K).1],BW s (AK s at_ K).2.1 (AK s at_ K).2.2 44,(AK s at_ K).2.2)
def Eb(s:zA)(a:Nat)(b:Bool)(c:UInt8):a<=BW s a b c:=by
 unfold BW AN;have:=BR s a;split<;>split<;>omega
def PY{at_ a:Nat}{t:AG}(b:AK s at_ K=(t,a,B))(g:at_<=s.size)(e:(!B&&DV s (AN s a B) 44)=hG):
  at_<BW s a B 44/\Cy s at_=(t::(Cy s (BW s a B 44)).1,(Cy s (BW s a B 44)).2):=by
 have f:B=K:=by cases B<;>simp_all
 subst f;have d:=UT (s:=s) (at_:=at_) (by rw[b]);have c:=Fp s at_ K g;rw[b]at d c;simp only at d c;have h:=Eb s a K 44;refine⟨by omega,?_⟩
 conv=>lhs;rw[Cy]
 rw[dif_pos (by rw[b];exact⟨e,by simp only;omega,by omega⟩)];simp only[b]
def Ls{t:AG}(c:AK s n K=(t,m,B))(b:(!B&&DV s (AN s m B) 44)=K):
  Cy s n=([t],BW s m B 44,B):=by
 conv=>lhs;rw[Cy]
 rw[dif_neg (by rw[c];intro h;rw[h.1]at b;cases b),c]
structure C8 where
 name:zA
 args:kJ AG
 at_:Nat
def Bm(s:zA)(at_:Nat)(bad:Bool)(c:UInt8):Nat×Bool:=(BW s at_ bad c,!(!bad&&DV s (AN s at_ bad) c))
def Eo(s:zA)(p:Nat×Bool):kJ AG×Nat×Bool:=if p.2 then([],p.1,hG)else Cy s p.1
def AV(s:zA)(at_:Nat)(bad:Bool):C8×Nat×Bool:=
 let nm:=A3 s (AN s at_ bad) bad
 let l:=Eo s (Bm s nm.2.1 nm.2.2 40)
 (⟨nm.1,l.1,AN s at_ bad⟩,Bm s l.2.1 l.2.2 41)
def Ut(s:zA)(a:Nat)(h:a<=s.size):(Cy s a).2.1<=s.size:=by
 fun_induction Cy s a with
 |case1 a hc _ _ ih=>exact ih (DB _ _ _ _ (Fp _ _ _ h))
 |case2 a hc=>exact DB _ _ _ _ (Fp _ _ _ h)
theorem Tryz.info135:(Tryz.prog.info? 135).map (λi=>(i.zero,i.size,i.bytes))=V (V (.agg #[X .u8 0,O ⟨#[]⟩]),2,24):=by kernel_rfl
def Cc(nm:zA)(av:Value)(j:Nat):kJ Value:=[O nm,av,X .i64 j]
def EB(s:zA)(mb bd:Bool)(a:Nat)(acc:kJ AG)(R:kJ AG×Nat×Bool):Prop:=
 if(mb&& !bd)=hG then(acc++(Cy s a).1,(Cy s a).2)=R else(acc,a,bd)=R
def EB.step{c:kJ AG}{R:kJ AG×Nat×Bool}{t:AG}(h:EB s hG K n c R)(b:AK s n K=(t,m,B))(i:n<=s.size)(w:Z c<=n):
  BW s m B 44<=s.size/\Z (c++[t])<=BW s m B 44+1/\(((!B&&DV s (AN s m B) 44)&& !B)=hG->Z (c++[t])<=BW s m B 44)/\
  2*(s.size-BW s m B 44)+(if((!B&&DV s (AN s m B) 44)&& !B)=hG then 1 else 0)<2*(s.size-n)+1/\
  EB s (!B&&DV s (AN s m B) 44) B (BW s m B 44) (c++[t]) R:=by
 have d:=Fp s n K i;have u:=Eb s m B 44;have g:B=K->n<m:=λq=>by
  have:=UT (s:=s) (at_:=n) (by rw[b];exact q);rw[b]at this;exact this
 have v:n<=m:=by
  cases B with
  |false=>have:=g rfl;omega
  |true=>
   have p:=BR s n;(have e:m=(AK s n K).2.1:=by rw[b]);(have f:(AK s n K).2.2=hG:=by rw[b]);rw[e];unfold AK at f⊢;simp only[fq,if_false]at f⊢;split
   .rename_i l;simp only[l,dite_true]at f;split
    .simp only;omega
    .split
     .simp only;have y:=BR s (Ae s n);have o:=Cr Az s (Ae s (Ae s n));unfold A3;simp only[fq,if_false];split<;>simp only<;>omega
     .have o:=Cr Aq s (Ae s n);split<;>simp only<;>omega
   .exact p
 rw[b]at d;simp only at d;have j:=DB s m B 44 d;unfold EB at h;simp only[gX,iY,if_true]at h;cases hm:(!B&&DV s (AN s m B) 44)with
 |true=>
  have r:B=K:=by cases B<;>simp_all
  subst r;obtain⟨x,k⟩:=PY b i hm;have:=g rfl;refine⟨j,by simp;omega,by simp;omega,by simp;omega,?_⟩;unfold EB;simp only[gX,iY,if_true];rw[k]at h;rw[<-h];simp
 |false=>
  refine⟨j,by simp;omega,by simp,by simp;omega,?_⟩;unfold EB;rw[Ls b hm]at h;rw[<-h];simp
def EB.done{c b:Bool}{d L:kJ AG}(h:EB s c b n d (L,m,B))(e:(c&& !b)=K):d=L/\n=m/\b=B:=by
 unfold EB at h;rw[fB (by rw[e];exact iC)]at h;simpa using h
set_option maxRecDepth 100000
theorem P7(b:Nat)(s:zA)(i:Nat)(f:Bool)(w:World)(Q:s.size<=1000000)(IS:i<=s.size)(hB:AF w b (BL s i f) 81):
  Calls prog 71 #[j2 (V ⟨b,0,Y⟩)] w λe w'=>∃R,e=.returned (.agg (Cc (AV s i f).1.name R (AV s i f).1.at_).toArray)/\
   w'.ownsRow w.heap.size 135 2 R (Z (AV s i f).1.args) ((AV s i f).1.args.flatMap AP)/\AF w' b (BL s (AV s i f).2.1 (AV s i f).2.2) 81/\Ac [b] w w':=by
 obtain⟨i0,LS,K6,Mo,LE⟩:=gH Tryz.info135;have NB:=hB.lt;have HH:=Gq s i f IS;obtain⟨j,hj⟩:=kK (AN s i f);obtain⟨nm,E,P,FC⟩:∃nm E P,A3 s j f=(nm,E,P):=⟨_,_,_,rfl⟩;obtain⟨A,I,B⟩:∃A I,Bm s E P 40=(A,I):=⟨_,_,rfl⟩;obtain⟨L,H,M,T⟩:∃L H M,Eo s (A,I)=(L,H,M):=⟨_,_,_,rfl⟩;obtain⟨a4,b4,l⟩:∃a4 b4,Bm s H M 41=(a4,b4):=⟨_,_,rfl⟩;have hR:AV s i f=(⟨nm,L,j⟩,a4,b4):=by
  simp only[AV,hj,FC,B,T,l]
 rw[hR];rw[hj]at HH;have HY:E<=s.size:=by have:=Hc s j f HH;rw[FC]at this;exact this
 have KS:A<=s.size:=by have:=DB s E P 40 HY;simp only[Bm,gA]at B;omega
 have Nq:H<=s.size:=by
  unfold Eo at T;split at T
  .simp only[gA]at T;omega
  .have:=Ut s A KS;rw[T]at this;exact this
 have HJ:Hid (AN s i f=j/\A3 s j f=(nm,E,P)/\Bm s E P 40=(A,I)/\Eo s (A,I)=(L,H,M)/\Bm s H M 41=(a4,b4)):=⟨hj,FC,B,T,l⟩;clear hR hj FC B T l;go_enter func71,ntmps71;go_wp2_with fail
 refine(DA b s i f _ Q IS (hB.alloc _)).mono ?_;rintro e w1 ⟨rfl,hb,hK⟩;rw[HJ.out.1]at hb;have hn:=(kN w _ _).kept hK (by simp;omega);have H2:=((kL [b] w).alloc _).trans hK;clear hB hK;have MY:=hb.lt;have K5:=hn.lt;have EX:=hb.cell 1;simp[BL]at EX;go_wp2_with fail
 refine(Mj b s j f _ Q HH ?_).mono ?_
 .exact hb.alloc _
 rintro e w2 ⟨rfl,HK,HB⟩;have CC:=(kN w1 _ _).kept HB (by simp;omega);have K1:=(hn.alloc _).kept HB (by simp;omega);have H8:=(H2.alloc _).trans HB;rw[HJ.out.2.1]at HK⊢;obtain⟨N,hN⟩:=kK w1.heap.size;rw[hN]at CC⊢;have NA:b<N:=by omega
 have NM:w.heap.size<N:=by omega
 clear H2 hb hn MY K5 EX HB hN;have AB:=CC.cell 0;have LC:=CC.frozen 0;simp at AB;simp only;go_wp2_with fail
 refine(Mw b s E P 40 40 _ rfl Q HY ?_).mono ?_
 .exact HK.zB _ (by simp;omega) _
 rintro e w3 ⟨rfl,HN,FL⟩;have FO:=(CC.set 0 _).kept FL (by simp;omega);have H4:=(K1.zB _ (by simp;omega) _).kept FL (by simp;omega);have H5:=(H8.setCell (p:=⟨N,0,Y⟩) (by simp;omega) _).trans FL;have B:=HJ.out.2.2.1;simp only[Bm,gA]at B;rw[B.1,B.2]at HN;simp only[fh]at FO;clear HK CC K1 H8 FL AB LC B;go_wp2_with fail
 have M6:=FO.lt
 go_loopg [4] (2*(s.size-A)+(if(hG&& !I)=hG then 1 else 0)) (λk LB wr=>∃(S C:Bool) (a:Nat) (c:kJ AG) (R:Value),LB=.bool S/\a<=s.size/\Z c<=a+1/\((S&& !C)=hG->Z c<=a)/\
  k=2*(s.size-a)+(if(S&& !C)=hG then 1 else 0)/\Hid (EB s S C a c (L,H,M))/\AF wr b (BL s a C) 81/\AF wr N (Cc nm R j) 87/\AF wr w.heap.size [O ⟨#[]⟩,U Y 0 0,X .i64 0] 87/\
  wr.ownsRow (N+1) 135 2 R (Z c) (c.flatMap AP)/\Ac [b] w wr)
 case atStart=>
  refine⟨hG,I,A,[],U Y 0 0,rfl,KS,by simp,by simp,rfl,?_,HN,FO,H4,fK _ _ _ _,H5⟩;have h:=HJ.out.2.2.2.1;show EB _ _ _ _ _ _;unfold EB;unfold Eo at h;cases I with
  |true=>simpa using h
  |false=>simp at h;simp[h]
 case round=>
  obtain⟨S,C,a,c,R,rfl,ha,HI,Go,hk,AH,q,v,AR,r,Ax⟩:=hrel;clear HN FO H4 H5;have E0:Hid (gk=2*(s.size-a)+(if(S&& !C)=hG then 1 else 0)):=hk;clear hk;cases S with
  |false=>
   obtain⟨rfl,rfl,rfl⟩:=AH.out.done rfl;obtain⟨ad,G,rfl⟩:=B5 r;have D:=q.cell 2;simp[BL]at D;have H9:=v.lt;have Ix:=q.lt;clear HI Go E0 AH;(go_wp2_with fail);refine(Mw b s a C 41 41 _ rfl Q ha q).mono ?_;rintro e w6 ⟨rfl,F,d⟩;have l:=HJ.out.2.2.2.2;simp only[Bm,gA]at l;rw[l.1,l.2]at F;have y:=v.kept d (by simp;omega);have n:=AR.kept d (by simp;omega);have u:=Ad r d (by simp;omega);have CW:=Ax.trans d;clear q v AR r Ax d l D;have AB:=y.cell 0;have HW:=y.cell 1;have HD:=y.cell 2;have HP:=n.cell 0;have HE:=n.cell 1;have HG:=n.cell 2;have L0:=n.frozen;simp[Cc]at AB HW HD HP HE HG;go_wp2;refine fL (BK rfl rfl (((n.set 0 _).set 1 _).set 2 _) underlying87 rfl (by kernel_rfl)) rfl ⟨_,rfl,?_,?_,?_⟩
   .exact Af (Af (Af (Al u (by omega)) (by simpa using AS u w.heap.size (by omega)) _) (by simpa using AS u w.heap.size (by omega)) _) (by simpa using AS u w.heap.size (by omega)) _
   .exact((F.zB _ (by simp;omega) _).zB _ (by simp;omega) _).zB _ (by simp;omega) _
   .exact((CW.setCell (by simp) _).setCell (by simp) _).setCell (by simp) _
  |true=>
   cases C with
   |true=>
    obtain⟨rfl,rfl,rfl⟩:=AH.out.done rfl;obtain⟨ad,G,rfl⟩:=B5 r;have D:=q.cell 2;simp[BL]at D;have H9:=v.lt;have Ix:=q.lt;clear HI Go E0 AH;(go_wp2_with fail);refine(Mw b s a hG 41 41 _ rfl Q ha q).mono ?_;rintro e w6 ⟨rfl,F,d⟩;have l:=HJ.out.2.2.2.2;simp only[Bm,gA]at l;rw[l.1,l.2]at F;have y:=v.kept d (by simp;omega);have n:=AR.kept d (by simp;omega);have u:=Ad r d (by simp;omega);have CW:=Ax.trans d;clear q v AR r Ax d l D;have AB:=y.cell 0;have HW:=y.cell 1;have HD:=y.cell 2;have HP:=n.cell 0;have HE:=n.cell 1;have HG:=n.cell 2;have L0:=n.frozen;simp[Cc]at AB HW HD HP HE HG;go_wp2;refine fL (BK rfl rfl (((n.set 0 _).set 1 _).set 2 _) underlying87 rfl (by kernel_rfl)) rfl ⟨_,rfl,?_,?_,?_⟩
    .exact Af (Af (Af (Al u (by omega)) (by simpa using AS u w.heap.size (by omega)) _) (by simpa using AS u w.heap.size (by omega)) _) (by simpa using AS u w.heap.size (by omega)) _
    .exact((F.zB _ (by simp;omega) _).zB _ (by simp;omega) _).zB _ (by simp;omega) _
    .exact((CW.setCell (by simp) _).setCell (by simp) _).setCell (by simp) _
   |false=>
    have D:=q.cell 2;have EX:=v.cell 1;have MN:=v.frozen 1;simp[BL,Cc]at D EX;have H9:=v.lt;have Ix:=q.lt;have K7:Z c<=a:=Go rfl;clear HI Go;obtain⟨t,z,g,ht⟩:∃t z g,AK s a K=(t,z,g):=⟨_,_,_,rfl⟩;(have M1:z<=s.size:=by have:=Fp s a K ha;rw[ht]at this;exact this);have HS:=AH.out.step ht ha K7;obtain⟨m,hm⟩:=kK (!g&&DV s (AN s z g) 44);obtain⟨x,HU⟩:=kK (BW s z g 44);rw[hm,HU]at HS;obtain⟨q1,q2,q3,q4,q5⟩:=HS;have HQ:Hid (AK s a K=(t,z,g)/\(!g&&DV s (AN s z g) 44)=m/\BW s z g 44=x/\x<=s.size/\Z (c++[t])<=x+1/\((m&& !g)=hG->Z (c++[t])<=x)/\2*(s.size-x)+(if(m&& !g)=hG then 1 else 0)<gk/\EB s m g x (c++[t]) (L,H,M)):=
     ⟨ht,hm,HU,q1,q2,q3,by have:=E0.out;simp at this;omega,q5⟩
    clear ht hm HU q1 q2 q3 q4 q5 E0 AH;go_wp2_with fail
    go_region_law
     (first
      |(go_simp;go_at_call 112;refine(Qn b s a K _ Q ha (by first|exact q|exact q.drew)).mono ?_;rintro e wt ⟨rfl,HF,Bx⟩;rw[HQ.out.1]at HF⊢;have CL:=v.drew.kept Bx (by simp;omega);have JJ:=CL.cell 1;have M0:=CL.frozen 1;have H0:=λo=>(CL.alloc o).cell 1;simp[Cc]at JJ H0;simp only[AP])
      |(refine iU _ (by rfl) _ _ _ (by rfl) (N+1) 135 i0 _ 2 24 underlying85 LS K6 Mo LE rfl (by omega) R (Z c) (c.flatMap AP) (by rfl) ((Ad (CN r) Bx (by simp;omega)).alloc _)
         ⟨wt.heap.size,0,Y⟩ 1 1 (AP t) (by rfl) (by rfl) (fM (fX wt _)) (by simp[Value.oneCell',AP])
         (by omega) (by unfold maxLen;omega) (by omega) (by simp;have:=Bx.size;simp at this;omega) (wt.heap.size+1) (by simp) ?_;intro W G w5 HO EK LL LM;
        have Ha:=(CL.alloc _).grown EK (AS r N (by omega));have Jx:=Ha.cell 1;have K8:=Ha.frozen 1;simp[Cc]at Jx))
    all_goals
     (go_wp2_with fail);have KK:=((HF.alloc _).grown EK (AS r b (by omega))).zB ⟨N,1,Y⟩ (by simp;omega) (U (V ⟨W,0,Y⟩) (Z c+1) G);have NE:=(HO.lt W rfl).1;have K3:=Ha.set 1 (U (V ⟨W,0,Y⟩) (Z c+1) G);have H6:=((((AR.drew).kept Bx (by simp;omega)).alloc _).grown EK (AS r w.heap.size (by omega))).zB ⟨N,1,Y⟩ (by simp;omega) (U (V ⟨W,0,Y⟩) (Z c+1) G);have HZ:=(((Ax.drew.trans Bx).alloc _).grown EK (λk hk=>Or.inr (by have:=(r.lt k hk).1;omega))).setCell (p:=⟨N,1,Y⟩) (by simp;omega) (U (V ⟨W,0,Y⟩) (Z c+1) G);have H1:=Af HO (p:=⟨N,1,Y⟩) (by simp[Value.ownBlock];omega) (U (V ⟨W,0,Y⟩) (Z c+1) G);clear HO Ha Jx K8 EK LL LM JJ M0 H0 CL HF Bx r Ax AR v q EX D MN;refine(Mb b s z g 44 44 _ rfl Q M1 KK).mono ?_;rintro e w6 ⟨rfl,F,d⟩;have y:=K3.kept d (by simp;omega);have n:=H6.kept d (by simp;omega);have CW:=HZ.trans d;have u:=Ad H1 d (by simp;omega);rw[HQ.out.2.2.1]at F;rw[HQ.out.2.1];clear KK K3 H6 HZ H1 d;go_wp2_with fail
     go_roundg (2*(s.size-x)+(if(m&& !g)=hG then 1 else 0))
     case measure=>exact HQ.out.2.2.2.2.2.2.1
     case rel=>
      obtain⟨_,_,_,q1,q2,q3,_,q5⟩:=HQ.out;refine⟨m,g,x,c++[t],U (V ⟨W,0,Y⟩) (Z c+1) G,rfl,q1,q2,q3,rfl,q5,F,y,n,?_,CW⟩;simpa using u
def B8(s:zA)(a:Nat):Ae s (Ae s a)=Ae s a:=by
 fun_induction Ae s a with
 |case1 a h hb ih=>exact ih
 |case2 a h hb=>rw[Ae];simp[h,hb]
 |case3 a h=>rw[Ae];simp[h]
structure BH where
 kind:UInt8
 A:C8
 L:AG
 R:AG
 at_:Nat
def Ej:AG:=⟨0,ByteArray.empty⟩
def Gz:C8:=⟨ByteArray.empty,[],0⟩
def Co(x:BH)(av:Value):kJ Value:=[X .u8 x.kind.toNat,O x.A.name,av,X .i64 x.A.at_,X .u8 x.L.v.toNat,O x.L.s,X .u8 x.R.v.toNat,O x.R.s,X .i64 x.at_]
def Lp(s:zA)(j:Nat):Bool:= !(A3 s j K).2.2&&DV s (AN s (A3 s j K).2.1 (A3 s j K).2.2) 40
def Ff(s:zA)(j:Nat):Bool:=if h:j<s.size then Az s[j] else K
def Cw(s:zA)(i:Nat):UInt8:=if h:i<s.size then s[i] else 0
def Hz(s:zA)(j a3:Nat)(t:AG)(b2:Bool):BH×Nat×Bool:=
 if !b2&&(DV s a3 61||DV s a3 35||DV s a3 60)then
  (⟨Cw s a3,Gz,t,(AK s (a3+1) K).1,j⟩,(AK s (a3+1) K).2)
 else(⟨0,Gz,t,Ej,j⟩,a3,hG)
def Dj(s:zA)(at_:Nat):BH×Nat×Bool:=
 let j:=Ae s at_
 if DV s j 33 then(⟨33,(AV s (j+1) K).1,Ej,Ej,j⟩,(AV s (j+1) K).2)
 else if Ff s j&&Lp s j then(⟨97,(AV s j K).1,Ej,Ej,j⟩,(AV s j K).2)
 else Hz s j (AN s (AK s j K).2.1 (AK s j K).2.2) (AK s j K).1 (AK s j K).2.2
theorem bL(b:Nat)(s:zA)(d j:Nat)(w:World)(u:s.size<=1000000)(AB:d<=s.size)(z:Ae s d=j)(m:DV s j 33=hG)(A:AF w b (BL s d K) 81):
  Calls prog 114 #[j2 (V ⟨b,0,Y⟩)] w λe n=>∃y,e=.returned (.agg (Co ⟨33,(AV s (j+1) K).1,Ej,Ej,j⟩ y).toArray)/\
   n.ownsRow w.heap.size 135 2 y (Z (AV s (j+1) K).1.args) ((AV s (j+1) K).1.args.flatMap AP)/\AF n b (BL s (AV s (j+1) K).2.1 (AV s (j+1) K).2.2) 81/\Ac [b] w n:=by
 have FW:=A.lt;have FP:=Fm m;have t:AN s j K=j:=by rw[<-z];exact B8 s d
 have D:BW s j K 33=j+1:=by unfold BW;rw[t,m];rfl
 have B:(!false&&DV s (AN s j K) 33)=hG:=by rw[t,m];rfl
 have o:Hid (Ae s d=j/\BW s j K 33=j+1/\(!false&&DV s (AN s j K) 33)=hG):=⟨z,D,B⟩;clear z m t D B;go_enter func114,ntmps114;go_wp2_with fail
 refine(DA b s d K _ u AB (A.alloc _)).mono ?_;rintro e C ⟨rfl,h,q⟩;rw[show AN s d K=j from o.out.1]at h
 have x:=(kN w _ _).kept q (by simp;omega);have L:=((kL [b] w).alloc _).trans q;clear A q;have FC:=h.lt;have W:=x.lt;have P:=h.cell 1;simp[BL]at P;go_wp2_with fail
 refine(Mb b s j K 33 33 _ rfl u (by omega) (h.alloc _)).mono ?_;rintro e w2 ⟨rfl,v,l⟩;rw[o.out.2.1]at v;rw[o.out.2.2];have f:=(kN C _ _).kept l (by simp;omega);have G:=(x.alloc _).kept l (by simp;omega);have E:=(L.alloc _).trans l;obtain⟨N,M⟩:=kK C.heap.size;rw[M]at f⊢;have FO:b<N:=by omega
 have HA:w.heap.size<N:=by omega
 clear L h x FC W P l M;have H:=f.cell 0;have Ax:=f.frozen 0;simp at H;go_wp2_with fail
 refine(P7 b s (j+1) K _ u (by omega) (v.zB _ (by simp;omega) _)).mono ?_;rintro e w3 ⟨y,rfl,i,FF,g⟩;have F:=(f.set 0 _).kept g (by simp;omega);have r:=(G.zB _ (by simp;omega) _).kept g (by simp;omega);have AH:=g.size;have Go:=f.lt;simp only[World.size_setCell]at AH i;have CC:=(E.setCell (p:=⟨N,0,Y⟩) (by simp;omega) _).trans g;clear v f G E g H Ax;obtain⟨ad,Ha,rfl⟩:=B5 i;have a:=F.cell;have FT:=F.frozen;have c:=r.cell;have HD:=r.frozen;simp only[Cc];have Q:=a 0;have e1:=a 1;have e2:=a 2;have e3:=a 3;have e4:=a 4;have R:=a 5;have e6:=a 6;have T:=a 7;have e8:=a 8;have f0:=c 0;have f1:=c 1;have f2:=c 2;have f3:=c 3;have f4:=c 4;have f5:=c 5;have f6:=c 6;have f7:=c 7;have S:=c 8;simp at Q e1 e2 e3 e4 R e6 T e8 f0 f1 f2 f3 f4 f5 f6 f7 S;clear a c;go_wp2;have I:=λk hk=>AS i k hk
 refine fL (BK rfl rfl ((((((((((((r.zB _ (by simp;omega) _).zB _ (by simp;omega) _).zB _ (by simp;omega) _).set 0 _).set 1 _).set 2 _).set 3 _).set 4 _).set 5 _).set 6 _).set 7 _).set 8 _) underlying173 rfl (by kernel_rfl)) rfl ⟨_,rfl,?_,?_,?_⟩
 .repeat (refine Af ?_ (by have:=I w.heap.size (by omega);have:=I N (by omega);assumption) _)
  exact Al i (by omega)
 .repeat (refine AF.zB ?_ _ (by simp;omega) _)
  exact FF
 .repeat (refine Ac.setCell ?_ (by simp;try omega) _)
  exact CC
theorem aH(b:Nat)(s:zA)(d j:Nat)(w:World)(o:s.size<=1000000)(EK:d<=s.size)(D:Ae s d=j)(C:DV s j 33=K)(HS:j<s.size)(hl:Az s[j]=hG)(ho:Hid (Lp s j=hG))(H:AF w b (BL s d K) 81):
  Calls prog 114 #[j2 (V ⟨b,0,Y⟩)] w λe M=>∃G,e=.returned (.agg (Co ⟨97,(AV s j K).1,Ej,Ej,j⟩ G).toArray)/\
   M.ownsRow w.heap.size 135 2 G (Z (AV s j K).1.args) ((AV s j K).1.args.flatMap AP)/\AF M b (BL s (AV s j K).2.1 (AV s j K).2.2) 81/\Ac [b] w M:=by
 have HZ:=H.lt;have H5:j<=s.size:=by have:=Bj s d EK;omega
 have B:AN s j K=j:=by rw[<-D];exact B8 s d
 have AB:BW s j K 33=j:=by unfold BW;rw[B,C];rfl
 have Ax:(!false&&DV s (AN s j K) 33)=K:=by rw[B,C];rfl
 have z:Hid (Ae s d=j/\BW s j K 33=j/\(!false&&DV s (AN s j K) 33)=K):=⟨D,AB,Ax⟩;clear D C B AB Ax;go_enter func114,ntmps114;go_wp2_with fail
 refine(DA b s d K _ o EK (H.alloc _)).mono ?_;rintro e w1 ⟨rfl,l,P⟩;rw[show AN s d K=j from z.out.1]at l
 have R:=(kN w _ _).kept P (by simp;omega);have W:=((kL [b] w).alloc _).trans P;clear H P;have HQ:=l.lt;have FC:=R.lt;have t:=l.cell 1;simp[BL]at t;go_wp2_with fail
 refine(Mb b s j K 33 33 _ rfl o (by omega) (l.alloc _)).mono ?_;rintro e S ⟨rfl,g,A⟩;rw[z.out.2.1]at g;rw[z.out.2.2];have u:=(kN w1 _ _).kept A (by simp;omega);have Q:=(R.alloc _).kept A (by simp;omega);have x:=(W.alloc _).trans A;obtain⟨N,hN⟩:=kK w1.heap.size;rw[hN]at u⊢;have HV:b<N:=by omega
 have H8:w.heap.size<N:=by omega
 clear W l R HQ FC t A hN z;have H0:=u.lt;have H4:=g.lt;have HU:=Q.lt;have BT:=g.cell 0;have t:=g.cell 1;have Bx:=g.cell 2;simp[BL]at BT t Bx;have H6:(j:Int)<(s.size:Int):=by omega
 obtain⟨E,i,f,v⟩:∃E i f,A3 s j K=(E,i,f):=⟨_,_,_,rfl⟩;have FW:i<=s.size:=by have:=Hc s j K (by omega);rw[v]at this;exact this
 have BA:(!f&&DV s (AN s i f) 40)=hG:=by have h:=ho.out;unfold Lp at h;rw[v]at h;exact h
 have F:Hid (A3 s j K=(E,i,f)/\(!f&&DV s (AN s i f) 40)=hG):=⟨v,BA⟩;clear v BA;go_wp2_with fail
 go_quiet ((go_at_call 137;exact jh (It _ s[j] _ rfl)))
 go_wp2_with fail
 go_region
 go_wp2_with fail
 refine(Mj S.heap.size s j K _ o (by omega) (kN (S.drewN _) (BL s j K) 81)).mono ?_;rintro e w3 ⟨rfl,I,q⟩;rw[F.out.1]at I⊢;have AT:=((g.drewN _).alloc _).kept q (by simp;omega);have B9:=((u.drewN _).alloc _).kept q (by simp;omega);have AH:=((Q.drewN _).alloc _).kept q (by simp;omega);have AR:=((x.drewN _).alloc _).trans' q (by have:=x.size;simp;omega);clear g u Q q BT t Bx;simp only;go_wp2_with fail
 refine(Qh S.heap.size s i f 40 40 _ rfl o FW I).mono ?_;rintro e w4 ⟨rfl,_,m⟩;have EY:=AT.kept m (by simp;omega);have r:=B9.kept m (by simp;omega);have CL:=AH.kept m (by simp;omega);have EX:=AR.trans' m (by have:=x.size;simp;omega);rw[F.out.2];clear AT B9 AH AR m I F x;have T:=r.cell 0;have HD:=r.frozen 0;simp at T;have HR:=r.lt;go_wp2_with fail
 refine(P7 b s j K _ o (by omega) (EY.zB _ (by simp;omega) _)).mono ?_;rintro e w5 ⟨G,rfl,y,HM,n⟩;have EM:=(r.set 0 _).kept n (by simp;omega);have L:=(CL.zB _ (by simp;omega) _).kept n (by simp;omega);have HI:=n.size;simp only[World.size_setCell]at HI y;have FB:=(EX.setCell (p:=⟨N,0,Y⟩) (by simp;omega) _).trans n;clear EY r CL EX n T HD;obtain⟨ad,H7,rfl⟩:=B5 y;have a:=EM.cell;have HX:=EM.frozen;have c:=L.cell;have H3:=L.frozen;simp only[Cc];have e0:=a 0;have e1:=a 1;have e2:=a 2;have e3:=a 3;have e4:=a 4;have e5:=a 5;have e6:=a 6;have e7:=a 7;have e8:=a 8;have f0:=c 0;have f1:=c 1;have f2:=c 2;have f3:=c 3;have f4:=c 4;have f5:=c 5;have f6:=c 6;have f7:=c 7;have f8:=c 8;simp at e0 e1 e2 e3 e4 e5 e6 e7 e8 f0 f1 f2 f3 f4 f5 f6 f7 f8;clear a c;go_wp2;have CC:=λk hk=>AS y k hk
 refine fL (BK rfl rfl ((((((((((((L.zB _ (by simp;omega) _).zB _ (by simp;omega) _).zB _ (by simp;omega) _).set 0 _).set 1 _).set 2 _).set 3 _).set 4 _).set 5 _).set 6 _).set 7 _).set 8 _) underlying173 rfl (by kernel_rfl)) rfl ⟨_,rfl,?_,?_,?_⟩
 .repeat (refine Af ?_ (by have:=CC w.heap.size (by omega);have:=CC N (by omega);assumption) _)
  exact Al y (by omega)
 .repeat (refine AF.zB ?_ _ (by simp;omega) _)
  exact HM
 .repeat (refine Ac.setCell ?_ (by simp;try omega) _)
  exact FB
