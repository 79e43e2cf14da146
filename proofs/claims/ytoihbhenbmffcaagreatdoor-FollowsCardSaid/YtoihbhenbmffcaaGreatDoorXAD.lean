import Derived.Deep.RegionHeld3
import Derived.Deep.RegionLaw
import Derived.Test.YtoihbhenbmffcaaGreatDoorXAA
set_option linter.all false
set_option maxHeartbeats 0
open List renaming length->Z
open Option renaming none->Y,some->V
open Go.Value renaming slice->U,int->X,string->O,pointer->m2
open Bool renaming false->K,true->jj
namespace Go.Proofs.YtoihbhenbmffcaaGreatDoor
open Go.RowKit Go.Proofs.Tryz
variable{s:zA}{n m:Nat}{B:Bool}
def Iz(s:zA)(a:Nat)(c:Bool)(h:a<=s.size):(A9 s a c).2.1<=s.size:=by
 unfold A9;have b:=BB s a h;have d:=CM AD s _ b;split
 .exact h
 .split<;>simp<;>omega
def fd(h:(A9 s n K).2.2=K):n<(A9 s n K).2.1:=by
 unfold A9 at h⊢;have b:=Cb s n;have c:=Cr AD s (Ae s n);simp only[k0,if_false]at h⊢;split at h
 .cases h
 .rename_i a;simp only[a,if_false];omega
def F5(s:zA)(a:Nat)(d:Bool)(h:a<=s.size):(AN s a d).2.1<=s.size:=by
 have b:=BB s a h;have e:=CM Ap s _ b;have c:=Iz s _ K b;unfold AN;split
 .exact h
 .split
  .split
   .simp;omega
   .split
    .exact c
    .split<;>simp<;>omega
  .exact b
def Xr{at_:Nat}(h:(AN s at_ K).2.2=K):at_<(AN s at_ K).2.1:=by
 have g:=Cb s at_;unfold AN at h⊢;simp only[k0,if_false]at h⊢;split at h
 .rename_i c;simp only[c,dite_true];split at h
  .rename_i b;simp only[b,if_true];omega
  .rename_i b;simp only[b,if_false,k0];split at h
   .rename_i a;simp only[a,if_true];have:=fd h;omega
   .rename_i a;simp only[a,if_false,k0];split at h
    .cases h
    .rename_i e;simp only[e,if_false];(have d:Ap s[Ae s at_]=jj:=by simpa using a);have i:=Cp Ap s _ c d;have f:=Cr Ap s (Ae s at_+1);show at_<AG Ap s (Ae s at_);omega
 .cases h
def CE(s:zA)(at_:Nat):pM AK×Nat×Bool:=
 if h:(!(AN s at_ K).2.2&&Et s (AQ s (AN s at_ K).2.1 (AN s at_ K).2.2) 44)=jj/\at_<Ch s (AN s at_ K).2.1 (AN s at_ K).2.2 44/\at_<s.size then
  have _h1:at_<s.size:=h.2.2;have _h2:=h.2.1
  ((AN s at_ K).1::(CE s (Ch s (AN s at_ K).2.1 (AN s at_ K).2.2 44)).1,(CE s (Ch s (AN s at_ K).2.1 (AN s at_ K).2.2 44)).2)
 else([(AN s at_ K).1],Ch s (AN s at_ K).2.1 (AN s at_ K).2.2 44,(AN s at_ K).2.2)
def EI(s:zA)(a:Nat)(b:Bool)(c:UInt8):a<=Ch s a b c:=by
 unfold Ch AQ;have:=Cb s a;split<;>split<;>omega
def Rq{at_ a:Nat}{t:AK}(b:AN s at_ K=(t,a,B))(g:at_<=s.size)(e:(!B&&Et s (AQ s a B) 44)=jj):
  at_<Ch s a B 44/\CE s at_=(t::(CE s (Ch s a B 44)).1,(CE s (Ch s a B 44)).2):=by
 have f:B=K:=by cases B<;>simp_all
 subst f;have d:=Xr (s:=s) (at_:=at_) (by rw[b]);have c:=F5 s at_ K g;rw[b]at d c;simp only at d c;have h:=EI s a K 44;refine⟨by omega,?_⟩
 conv=>lhs;rw[CE]
 rw[dif_pos (by rw[b];exact⟨e,by simp only;omega,by omega⟩)];simp only[b]
def MU{t:AK}(c:AN s n K=(t,m,B))(b:(!B&&Et s (AQ s m B) 44)=K):
  CE s n=([t],Ch s m B 44,B):=by
 conv=>lhs;rw[CE]
 rw[dif_neg (by rw[c];intro h;rw[h.1]at b;cases b),c]
structure Dg where
 name:zA
 args:pM AK
 at_:Nat
def By(s:zA)(at_:Nat)(bad:Bool)(c:UInt8):Nat×Bool:=(Ch s at_ bad c,!(!bad&&Et s (AQ s at_ bad) c))
def Ev(s:zA)(p:Nat×Bool):pM AK×Nat×Bool:=if p.2 then([],p.1,jj)else CE s p.1
def AZ(s:zA)(at_:Nat)(bad:Bool):Dg×Nat×Bool:=
 let nm:=A9 s (AQ s at_ bad) bad
 let l:=Ev s (By s nm.2.1 nm.2.2 40)
 (⟨nm.1,l.1,AQ s at_ bad⟩,By s l.2.1 l.2.2 41)
def WV(s:zA)(a:Nat)(h:a<=s.size):(CE s a).2.1<=s.size:=by
 fun_induction CE s a with
 |case1 a hc _ _ ih=>exact ih (D3 _ _ _ _ (F5 _ _ _ h))
 |case2 a hc=>exact D3 _ _ _ _ (F5 _ _ _ h)
theorem Tryz.info93:(Tryz.prog.info? 93).map (λi=>(i.zero,i.size,i.bytes))=V (V (.agg #[X .u8 0,O ⟨#[]⟩]),2,24):=by kernel_rfl
def Cy(nm:zA)(av:Value)(j:Nat):pM Value:=[O nm,av,X .i64 j]
def E9(s:zA)(mb bd:Bool)(a:Nat)(acc:pM AK)(R:pM AK×Nat×Bool):Prop:=
 if(mb&& !bd)=jj then(acc++(CE s a).1,(CE s a).2)=R else(acc,a,bd)=R
def E9.step{c:pM AK}{R:pM AK×Nat×Bool}{t:AK}(h:E9 s jj K n c R)(b:AN s n K=(t,m,B))(i:n<=s.size)(w:Z c<=n):
  Ch s m B 44<=s.size/\Z (c++[t])<=Ch s m B 44+1/\(((!B&&Et s (AQ s m B) 44)&& !B)=jj->Z (c++[t])<=Ch s m B 44)/\
  2*(s.size-Ch s m B 44)+(if((!B&&Et s (AQ s m B) 44)&& !B)=jj then 1 else 0)<2*(s.size-n)+1/\
  E9 s (!B&&Et s (AQ s m B) 44) B (Ch s m B 44) (c++[t]) R:=by
 have d:=F5 s n K i;have u:=EI s m B 44;have g:B=K->n<m:=λq=>by
  have:=Xr (s:=s) (at_:=n) (by rw[b];exact q);rw[b]at this;exact this
 have v:n<=m:=by
  cases B with
  |false=>have:=g rfl;omega
  |true=>
   have p:=Cb s n;(have e:m=(AN s n K).2.1:=by rw[b]);(have f:(AN s n K).2.2=jj:=by rw[b]);rw[e];unfold AN at f⊢;simp only[k0,if_false]at f⊢;split
   .rename_i l;simp only[l,dite_true]at f;split
    .simp only;omega
    .split
     .simp only;have y:=Cb s (Ae s n);have o:=Cr AD s (Ae s (Ae s n));unfold A9;simp only[k0,if_false];split<;>simp only<;>omega
     .have o:=Cr Ap s (Ae s n);split<;>simp only<;>omega
   .exact p
 rw[b]at d;simp only at d;have j:=D3 s m B 44 d;unfold E9 at h;simp only[mJ,nH,if_true]at h;cases hm:(!B&&Et s (AQ s m B) 44)with
 |true=>
  have r:B=K:=by cases B<;>simp_all
  subst r;obtain⟨x,k⟩:=Rq b i hm;have:=g rfl;refine⟨j,by simp;omega,by simp;omega,by simp;omega,?_⟩;unfold E9;simp only[mJ,nH,if_true];rw[k]at h;rw[<-h];simp
 |false=>
  refine⟨j,by simp;omega,by simp,by simp;omega,?_⟩;unfold E9;rw[MU b hm]at h;rw[<-h];simp
def E9.done{c b:Bool}{d L:pM AK}(h:E9 s c b n d (L,m,B))(e:(c&& !b)=K):d=L/\n=m/\b=B:=by
 unfold E9 at h;rw[li (by rw[e];exact nw)]at h;simpa using h
set_option maxRecDepth 100000
theorem Rx(b:Nat)(s:zA)(i:Nat)(f:Bool)(w:World)(Q:s.size<=1000000)(H3:i<=s.size)(hB:AF w b (BY s i f) 73):
  Calls prog 79 #[m2 (V ⟨b,0,Y⟩)] w λe w'=>∃R,e=.returned (.agg (Cy (AZ s i f).1.name R (AZ s i f).1.at_).toArray)/\
   w'.ownsRow w.heap.size 93 2 R (Z (AZ s i f).1.args) ((AZ s i f).1.args.flatMap AV)/\AF w' b (BY s (AZ s i f).2.1 (AZ s i f).2.2) 73/\Ac [b] w w':=by
 obtain⟨i0,K2,IS,K4,KK⟩:=mg Tryz.info93;have LM:=hB.lt;have Go:=GV s i f H3;obtain⟨j,hj⟩:=pN (AQ s i f);obtain⟨nm,E,P,EK⟩:∃nm E P,A9 s j f=(nm,E,P):=⟨_,_,_,rfl⟩;obtain⟨A,I,B⟩:∃A I,By s E P 40=(A,I):=⟨_,_,rfl⟩;obtain⟨L,H,M,T⟩:∃L H M,Ev s (A,I)=(L,H,M):=⟨_,_,_,rfl⟩;obtain⟨a4,b4,l⟩:∃a4 b4,By s H M 41=(a4,b4):=⟨_,_,rfl⟩;have hR:AZ s i f=(⟨nm,L,j⟩,a4,b4):=by
  simp only[AZ,hj,EK,B,T,l]
 rw[hR];rw[hj]at Go;have HN:E<=s.size:=by have:=Iz s j f Go;rw[EK]at this;exact this
 have H7:A<=s.size:=by have:=D3 s E P 40 HN;simp only[By,lZ]at B;omega
 have LC:H<=s.size:=by
  unfold Ev at T;split at T
  .simp only[lZ]at T;omega
  .have:=WV s A H7;rw[T]at this;exact this
 have HJ:Hid (AQ s i f=j/\A9 s j f=(nm,E,P)/\By s E P 40=(A,I)/\Ev s (A,I)=(L,H,M)/\By s H M 41=(a4,b4)):=⟨hj,EK,B,T,l⟩;clear hR hj EK B T l;go_enter func79,ntmps79;go_wp2_with fail
 refine(DO b s i f _ Q H3 (hB.alloc _)).mono ?_;rintro e w1 ⟨rfl,hb,hK⟩;rw[HJ.out.1]at hb;have hn:=(pP w _ _).kept hK (by simp;omega);have HT:=((pO [b] w).alloc _).trans hK;clear hB hK;have K7:=hb.lt;have IJ:=hn.lt;have B9:=hb.cell 1;simp[BY]at B9;go_wp2_with fail
 refine(NQ b s j f _ Q Go ?_).mono ?_
 .exact hb.alloc _
 rintro e w2 ⟨rfl,HA,FF⟩;have BA:=(pP w1 _ _).kept FF (by simp;omega);have H8:=(hn.alloc _).kept FF (by simp;omega);have HZ:=(HT.alloc _).trans FF;rw[HJ.out.2.1]at HA⊢;obtain⟨N,hN⟩:=pN w1.heap.size;rw[hN]at BA⊢;have LL:b<N:=by omega
 have Mo:w.heap.size<N:=by omega
 clear HT hb hn K7 IJ B9 FF hN;have AB:=BA.cell 0;have KB:=BA.frozen 0;simp at AB;simp only;go_wp2_with fail
 refine(Ob b s E P 40 40 _ rfl Q HN ?_).mono ?_
 .exact HA.zB _ (by simp;omega) _
 rintro e w3 ⟨rfl,HD,ES⟩;have EX:=(BA.set 0 _).kept ES (by simp;omega);have HV:=(H8.zB _ (by simp;omega) _).kept ES (by simp;omega);have HW:=(HZ.setCell (p:=⟨N,0,Y⟩) (by simp;omega) _).trans ES;have B:=HJ.out.2.2.1;simp only[By,lZ]at B;rw[B.1,B.2]at HD;simp only[kT]at EX;clear HA BA H8 HZ ES AB KB B;go_wp2_with fail
 have LB:=EX.lt
 go_loopg [4] (2*(s.size-A)+(if(jj&& !I)=jj then 1 else 0)) (λk KA wr=>∃(S C:Bool) (a:Nat) (c:pM AK) (R:Value),KA=.bool S/\a<=s.size/\Z c<=a+1/\((S&& !C)=jj->Z c<=a)/\
  k=2*(s.size-a)+(if(S&& !C)=jj then 1 else 0)/\Hid (E9 s S C a c (L,H,M))/\AF wr b (BY s a C) 73/\AF wr N (Cy nm R j) 79/\AF wr w.heap.size [O ⟨#[]⟩,U Y 0 0,X .i64 0] 79/\
  wr.ownsRow (N+1) 93 2 R (Z c) (c.flatMap AV)/\Ac [b] w wr)
 case atStart=>
  refine⟨jj,I,A,[],U Y 0 0,rfl,H7,by simp,by simp,rfl,?_,HD,EX,HV,lH _ _ _ _,HW⟩;have h:=HJ.out.2.2.2.1;show E9 _ _ _ _ _ _;unfold E9;unfold Ev at h;cases I with
  |true=>simpa using h
  |false=>simp at h;simp[h]
 case round=>
  obtain⟨S,C,a,c,R,rfl,ha,Ha,FA,hk,AH,q,v,AO,r,Ax⟩:=hrel;clear HD EX HV HW;have CL:Hid (gk=2*(s.size-a)+(if(S&& !C)=jj then 1 else 0)):=hk;clear hk;cases S with
  |false=>
   obtain⟨rfl,rfl,rfl⟩:=AH.out.done rfl;obtain⟨ad,G,rfl⟩:=Ct r;have D:=q.cell 2;simp[BY]at D;have H0:=v.lt;have H1:=q.lt;clear Ha FA CL AH;(go_wp2_with fail);refine(Ob b s a C 41 41 _ rfl Q ha q).mono ?_;rintro e w6 ⟨rfl,F,d⟩;have l:=HJ.out.2.2.2.2;simp only[By,lZ]at l;rw[l.1,l.2]at F;have y:=v.kept d (by simp;omega);have n:=AO.kept d (by simp;omega);have u:=Ad r d (by simp;omega);have BT:=Ax.trans d;clear q v AO r Ax d l D;have AB:=y.cell 0;have HL:=y.cell 1;have FO:=y.cell 2;have HF:=n.cell 0;have FP:=n.cell 1;have FW:=n.cell 2;have K3:=n.frozen;simp[Cy]at AB HL FO HF FP FW;go_wp2;refine lL (Ca rfl rfl (((n.set 0 _).set 1 _).set 2 _) underlying79 rfl (by kernel_rfl)) rfl ⟨_,rfl,?_,?_,?_⟩
   .exact Ag (Ag (Ag (Am u (by omega)) (by simpa using Bg u w.heap.size (by omega)) _) (by simpa using Bg u w.heap.size (by omega)) _) (by simpa using Bg u w.heap.size (by omega)) _
   .exact((F.zB _ (by simp;omega) _).zB _ (by simp;omega) _).zB _ (by simp;omega) _
   .exact((BT.setCell (by simp) _).setCell (by simp) _).setCell (by simp) _
  |true=>
   cases C with
   |true=>
    obtain⟨rfl,rfl,rfl⟩:=AH.out.done rfl;obtain⟨ad,G,rfl⟩:=Ct r;have D:=q.cell 2;simp[BY]at D;have H0:=v.lt;have H1:=q.lt;clear Ha FA CL AH;(go_wp2_with fail);refine(Ob b s a jj 41 41 _ rfl Q ha q).mono ?_;rintro e w6 ⟨rfl,F,d⟩;have l:=HJ.out.2.2.2.2;simp only[By,lZ]at l;rw[l.1,l.2]at F;have y:=v.kept d (by simp;omega);have n:=AO.kept d (by simp;omega);have u:=Ad r d (by simp;omega);have BT:=Ax.trans d;clear q v AO r Ax d l D;have AB:=y.cell 0;have HL:=y.cell 1;have FO:=y.cell 2;have HF:=n.cell 0;have FP:=n.cell 1;have FW:=n.cell 2;have K3:=n.frozen;simp[Cy]at AB HL FO HF FP FW;go_wp2;refine lL (Ca rfl rfl (((n.set 0 _).set 1 _).set 2 _) underlying79 rfl (by kernel_rfl)) rfl ⟨_,rfl,?_,?_,?_⟩
    .exact Ag (Ag (Ag (Am u (by omega)) (by simpa using Bg u w.heap.size (by omega)) _) (by simpa using Bg u w.heap.size (by omega)) _) (by simpa using Bg u w.heap.size (by omega)) _
    .exact((F.zB _ (by simp;omega) _).zB _ (by simp;omega) _).zB _ (by simp;omega) _
    .exact((BT.setCell (by simp) _).setCell (by simp) _).setCell (by simp) _
   |false=>
    have D:=q.cell 2;have B9:=v.cell 1;have K6:=v.frozen 1;simp[BY,Cy]at D B9;have H0:=v.lt;have H1:=q.lt;have Jx:Z c<=a:=FA rfl;clear Ha FA;obtain⟨t,z,g,ht⟩:∃t z g,AN s a K=(t,z,g):=⟨_,_,_,rfl⟩;(have K9:z<=s.size:=by have:=F5 s a K ha;rw[ht]at this;exact this);have HS:=AH.out.step ht ha Jx;obtain⟨m,hm⟩:=pN (!g&&Et s (AQ s z g) 44);obtain⟨x,HI⟩:=pN (Ch s z g 44);rw[hm,HI]at HS;obtain⟨q1,q2,q3,q4,q5⟩:=HS;have HQ:Hid (AN s a K=(t,z,g)/\(!g&&Et s (AQ s z g) 44)=m/\Ch s z g 44=x/\x<=s.size/\Z (c++[t])<=x+1/\((m&& !g)=jj->Z (c++[t])<=x)/\2*(s.size-x)+(if(m&& !g)=jj then 1 else 0)<gk/\E9 s m g x (c++[t]) (L,H,M)):=
     ⟨ht,hm,HI,q1,q2,q3,by have:=CL.out;simp at this;omega,q5⟩
    clear ht hm HI q1 q2 q3 q4 q5 CL AH;go_wp2_with fail
    go_region_law
     (first
      |(go_simp;go_at_call 127;refine(R1 b s a K _ Q ha (by first|exact q|exact q.drew)).mono ?_;rintro e wt ⟨rfl,FT,A0⟩;rw[HQ.out.1]at FT⊢;have BS:=v.drew.kept A0 (by simp;omega);have H5:=BS.cell 1;have K8:=BS.frozen 1;have HP:=λo=>(BS.alloc o).cell 1;simp[Cy]at H5 HP;simp only[AV])
      |(refine oC _ (by rfl) _ _ _ (by rfl) (N+1) 93 i0 _ 2 24 underlying77 K2 IS K4 KK rfl (by omega) R (Z c) (c.flatMap AV) (by rfl) ((Ad (FX r) A0 (by simp;omega)).alloc _)
         ⟨wt.heap.size,0,Y⟩ 1 1 (AV t) (by rfl) (by rfl) (lI (lP wt _)) (by simp[Value.oneCell',AV])
         (by omega) (by unfold maxLen;omega) (by omega) (by simp;have:=A0.size;simp at this;omega) (wt.heap.size+1) (by simp) ?_;intro W G w5 HE B0 KS K1;
        have FB:=(BS.alloc _).grown B0 (Bg r N (by omega));have H4:=FB.cell 1;have JA:=FB.frozen 1;simp[Cy]at H4))
    all_goals
     (go_wp2_with fail);have H6:=((FT.alloc _).grown B0 (Bg r b (by omega))).zB ⟨N,1,Y⟩ (by simp;omega) (U (V ⟨W,0,Y⟩) (Z c+1) G);have LS:=(HE.lt W rfl).1;have Ix:=FB.set 1 (U (V ⟨W,0,Y⟩) (Z c+1) G);have HX:=((((AO.drew).kept A0 (by simp;omega)).alloc _).grown B0 (Bg r w.heap.size (by omega))).zB ⟨N,1,Y⟩ (by simp;omega) (U (V ⟨W,0,Y⟩) (Z c+1) G);have HO:=(((Ax.drew.trans A0).alloc _).grown B0 (λk hk=>Or.inr (by have:=(r.lt k hk).1;omega))).setCell (p:=⟨N,1,Y⟩) (by simp;omega) (U (V ⟨W,0,Y⟩) (Z c+1) G);have HR:=Ag HE (p:=⟨N,1,Y⟩) (by simp[Value.ownBlock];omega) (U (V ⟨W,0,Y⟩) (Z c+1) G);clear HE FB H4 JA B0 KS K1 H5 K8 HP BS FT A0 r Ax AO v q B9 D K6;refine(NF b s z g 44 44 _ rfl Q K9 H6).mono ?_;rintro e w6 ⟨rfl,F,d⟩;have y:=Ix.kept d (by simp;omega);have n:=HX.kept d (by simp;omega);have BT:=HO.trans d;have u:=Ad HR d (by simp;omega);rw[HQ.out.2.2.1]at F;rw[HQ.out.2.1];clear H6 Ix HX HO HR d;go_wp2_with fail
     go_roundg (2*(s.size-x)+(if(m&& !g)=jj then 1 else 0))
     case measure=>exact HQ.out.2.2.2.2.2.2.1
     case rel=>
      obtain⟨_,_,_,q1,q2,q3,_,q5⟩:=HQ.out;refine⟨m,g,x,c++[t],U (V ⟨W,0,Y⟩) (Z c+1) G,rfl,q1,q2,q3,rfl,q5,F,y,n,?_,BT⟩;simpa using u
def Cu(s:zA)(a:Nat):Ae s (Ae s a)=Ae s a:=by
 fun_induction Ae s a with
 |case1 a h hb ih=>exact ih
 |case2 a h hb=>rw[Ae];simp[h,hb]
 |case3 a h=>rw[Ae];simp[h]
structure Br where
 kind:UInt8
 A:Dg
 L:AK
 R:AK
 at_:Nat
def DQ:AK:=⟨0,ByteArray.empty⟩
def G6:Dg:=⟨ByteArray.empty,[],0⟩
def Cj(x:Br)(av:Value):pM Value:=[X .u8 x.kind.toNat,O x.A.name,av,X .i64 x.A.at_,X .u8 x.L.v.toNat,O x.L.s,X .u8 x.R.v.toNat,O x.R.s,X .i64 x.at_]
def MR(s:zA)(j:Nat):Bool:= !(A9 s j K).2.2&&Et s (AQ s (A9 s j K).2.1 (A9 s j K).2.2) 40
def FJ(s:zA)(j:Nat):Bool:=if h:j<s.size then AD s[j] else K
def CQ(s:zA)(i:Nat):UInt8:=if h:i<s.size then s[i] else 0
def I6(s:zA)(j a3:Nat)(t:AK)(b2:Bool):Br×Nat×Bool:=
 if !b2&&(Et s a3 61||Et s a3 35||Et s a3 60)then
  (⟨CQ s a3,G6,t,(AN s (a3+1) K).1,j⟩,(AN s (a3+1) K).2)
 else(⟨0,G6,t,DQ,j⟩,a3,jj)
def DF(s:zA)(at_:Nat):Br×Nat×Bool:=
 let j:=Ae s at_
 if Et s j 33 then(⟨33,(AZ s (j+1) K).1,DQ,DQ,j⟩,(AZ s (j+1) K).2)
 else if FJ s j&&MR s j then(⟨97,(AZ s j K).1,DQ,DQ,j⟩,(AZ s j K).2)
 else I6 s j (AQ s (AN s j K).2.1 (AN s j K).2.2) (AN s j K).1 (AN s j K).2.2
theorem gh(b:Nat)(s:zA)(d j:Nat)(w:World)(u:s.size<=1000000)(AB:d<=s.size)(z:Ae s d=j)(m:Et s j 33=jj)(A:AF w b (BY s d K) 73):
  Calls prog 129 #[m2 (V ⟨b,0,Y⟩)] w λe n=>∃y,e=.returned (.agg (Cj ⟨33,(AZ s (j+1) K).1,DQ,DQ,j⟩ y).toArray)/\
   n.ownsRow w.heap.size 93 2 y (Z (AZ s (j+1) K).1.args) ((AZ s (j+1) K).1.args.flatMap AV)/\AF n b (BY s (AZ s (j+1) K).2.1 (AZ s (j+1) K).2.2) 73/\Ac [b] w n:=by
 have FB:=A.lt;have E0:=F1 m;have t:AQ s j K=j:=by rw[<-z];exact Cu s d
 have D:Ch s j K 33=j+1:=by unfold Ch;rw[t,m];rfl
 have B:(!false&&Et s (AQ s j K) 33)=jj:=by rw[t,m];rfl
 have o:Hid (Ae s d=j/\Ch s j K 33=j+1/\(!false&&Et s (AQ s j K) 33)=jj):=⟨z,D,B⟩;clear z m t D B;go_enter func129,ntmps129;go_wp2_with fail
 refine(DO b s d K _ u AB (A.alloc _)).mono ?_;rintro e C ⟨rfl,h,q⟩;rw[show AQ s d K=j from o.out.1]at h
 have x:=(pP w _ _).kept q (by simp;omega);have L:=((pO [b] w).alloc _).trans q;clear A q;have EM:=h.lt;have W:=x.lt;have P:=h.cell 1;simp[BY]at P;go_wp2_with fail
 refine(NF b s j K 33 33 _ rfl u (by omega) (h.alloc _)).mono ?_;rintro e w2 ⟨rfl,v,l⟩;rw[o.out.2.1]at v;rw[o.out.2.2];have f:=(pP C _ _).kept l (by simp;omega);have G:=(x.alloc _).kept l (by simp;omega);have E:=(L.alloc _).trans l;obtain⟨N,M⟩:=pN C.heap.size;rw[M]at f⊢;have EY:b<N:=by omega
 have FL:w.heap.size<N:=by omega
 clear L h x EM W P l M;have H:=f.cell 0;have Ax:=f.frozen 0;simp at H;go_wp2_with fail
 refine(Rx b s (j+1) K _ u (by omega) (v.zB _ (by simp;omega) _)).mono ?_;rintro e w3 ⟨y,rfl,i,ES,g⟩;have F:=(f.set 0 _).kept g (by simp;omega);have r:=(G.zB _ (by simp;omega) _).kept g (by simp;omega);have AH:=g.size;have FC:=f.lt;simp only[World.size_setCell]at AH i;have BA:=(E.setCell (p:=⟨N,0,Y⟩) (by simp;omega) _).trans g;clear v f G E g H Ax;obtain⟨ad,FF,rfl⟩:=Ct i;have a:=F.cell;have FA:=F.frozen;have c:=r.cell;have FT:=r.frozen;simp only[Cy];have Q:=a 0;have e1:=a 1;have e2:=a 2;have e3:=a 3;have e4:=a 4;have R:=a 5;have e6:=a 6;have T:=a 7;have e8:=a 8;have f0:=c 0;have f1:=c 1;have f2:=c 2;have f3:=c 3;have f4:=c 4;have f5:=c 5;have f6:=c 6;have f7:=c 7;have S:=c 8;simp at Q e1 e2 e3 e4 R e6 T e8 f0 f1 f2 f3 f4 f5 f6 f7 S;clear a c;go_wp2;have I:=λk hk=>Bg i k hk
 refine lL (Ca rfl rfl ((((((((((((r.zB _ (by simp;omega) _).zB _ (by simp;omega) _).zB _ (by simp;omega) _).set 0 _).set 1 _).set 2 _).set 3 _).set 4 _).set 5 _).set 6 _).set 7 _).set 8 _) underlying95 rfl (by kernel_rfl)) rfl ⟨_,rfl,?_,?_,?_⟩
 .repeat (refine Ag ?_ (by have:=I w.heap.size (by omega);have:=I N (by omega);assumption) _)
  exact Am i (by omega)
 .repeat (refine AF.zB ?_ _ (by simp;omega) _)
  exact ES
 .repeat (refine Ac.setCell ?_ (by simp;try omega) _)
  exact BA
theorem e9(b:Nat)(s:zA)(d j:Nat)(w:World)(o:s.size<=1000000)(B0:d<=s.size)(D:Ae s d=j)(C:Et s j 33=K)(HL:j<s.size)(hl:AD s[j]=jj)(ho:Hid (MR s j=jj))(H:AF w b (BY s d K) 73):
  Calls prog 129 #[m2 (V ⟨b,0,Y⟩)] w λe M=>∃G,e=.returned (.agg (Cj ⟨97,(AZ s j K).1,DQ,DQ,j⟩ G).toArray)/\
   M.ownsRow w.heap.size 93 2 G (Z (AZ s j K).1.args) ((AZ s j K).1.args.flatMap AV)/\AF M b (BY s (AZ s j K).2.1 (AZ s j K).2.2) 73/\Ac [b] w M:=by
 have HR:=H.lt;have HY:j<=s.size:=by have:=BB s d B0;omega
 have B:AQ s j K=j:=by rw[<-D];exact Cu s d
 have AB:Ch s j K 33=j:=by unfold Ch;rw[B,C];rfl
 have Ax:(!false&&Et s (AQ s j K) 33)=K:=by rw[B,C];rfl
 have z:Hid (Ae s d=j/\Ch s j K 33=j/\(!false&&Et s (AQ s j K) 33)=K):=⟨D,AB,Ax⟩;clear D C B AB Ax;go_enter func129,ntmps129;go_wp2_with fail
 refine(DO b s d K _ o B0 (H.alloc _)).mono ?_;rintro e w1 ⟨rfl,l,P⟩;rw[show AQ s d K=j from z.out.1]at l
 have R:=(pP w _ _).kept P (by simp;omega);have W:=((pO [b] w).alloc _).trans P;clear H P;have HI:=l.lt;have EM:=R.lt;have t:=l.cell 1;simp[BY]at t;go_wp2_with fail
 refine(NF b s j K 33 33 _ rfl o (by omega) (l.alloc _)).mono ?_;rintro e S ⟨rfl,g,A⟩;rw[z.out.2.1]at g;rw[z.out.2.2];have u:=(pP w1 _ _).kept A (by simp;omega);have Q:=(R.alloc _).kept A (by simp;omega);have x:=(W.alloc _).trans A;obtain⟨N,hN⟩:=pN w1.heap.size;rw[hN]at u⊢;have HO:b<N:=by omega
 have H1:w.heap.size<N:=by omega
 clear W l R HI EM t A hN z;have HS:=u.lt;have HX:=g.lt;have HN:=Q.lt;have A2:=g.cell 0;have t:=g.cell 1;have A0:=g.cell 2;simp[BY]at A2 t A0;have HZ:(j:Int)<(s.size:Int):=by omega
 obtain⟨E,i,f,v⟩:∃E i f,A9 s j K=(E,i,f):=⟨_,_,_,rfl⟩;have FB:i<=s.size:=by have:=Iz s j K (by omega);rw[v]at this;exact this
 have A1:(!f&&Et s (AQ s i f) 40)=jj:=by have h:=ho.out;unfold MR at h;rw[v]at h;exact h
 have F:Hid (A9 s j K=(E,i,f)/\(!f&&Et s (AQ s i f) 40)=jj):=⟨v,A1⟩;clear v A1;go_wp2_with fail
 go_quiet ((go_at_call 169;exact ol (Jk _ s[j] _ rfl)))
 go_wp2_with fail
 go_region
 go_wp2_with fail
 refine(NQ S.heap.size s j K _ o (by omega) (pP (S.drewN _) (BY s j K) 73)).mono ?_;rintro e w3 ⟨rfl,I,q⟩;rw[F.out.1]at I⊢;have AT:=((g.drewN _).alloc _).kept q (by simp;omega);have Bx:=((u.drewN _).alloc _).kept q (by simp;omega);have AH:=((Q.drewN _).alloc _).kept q (by simp;omega);have AO:=((x.drewN _).alloc _).trans' q (by have:=x.size;simp;omega);clear g u Q q A2 t A0;simp only;go_wp2_with fail
 refine(RR S.heap.size s i f 40 40 _ rfl o FB I).mono ?_;rintro e w4 ⟨rfl,_,m⟩;have CC:=AT.kept m (by simp;omega);have r:=Bx.kept m (by simp;omega);have BS:=AH.kept m (by simp;omega);have B9:=AO.trans' m (by have:=x.size;simp;omega);rw[F.out.2];clear AT Bx AH AO m I F x;have T:=r.cell 0;have FT:=r.frozen 0;simp at T;have HK:=r.lt;go_wp2_with fail
 refine(Rx b s j K _ o (by omega) (CC.zB _ (by simp;omega) _)).mono ?_;rintro e w5 ⟨G,rfl,y,HE,n⟩;have B2:=(r.set 0 _).kept n (by simp;omega);have L:=(BS.zB _ (by simp;omega) _).kept n (by simp;omega);have HB:=n.size;simp only[World.size_setCell]at HB y;have EK:=(B9.setCell (p:=⟨N,0,Y⟩) (by simp;omega) _).trans n;clear CC r BS B9 n T FT;obtain⟨ad,H0,rfl⟩:=Ct y;have a:=B2.cell;have HP:=B2.frozen;have c:=L.cell;have HV:=L.frozen;simp only[Cy];have e0:=a 0;have e1:=a 1;have e2:=a 2;have e3:=a 3;have e4:=a 4;have e5:=a 5;have e6:=a 6;have e7:=a 7;have e8:=a 8;have f0:=c 0;have f1:=c 1;have f2:=c 2;have f3:=c 3;have f4:=c 4;have f5:=c 5;have f6:=c 6;have f7:=c 7;have f8:=c 8;simp at e0 e1 e2 e3 e4 e5 e6 e7 e8 f0 f1 f2 f3 f4 f5 f6 f7 f8;clear a c;go_wp2;have BA:=λk hk=>Bg y k hk
 refine lL (Ca rfl rfl ((((((((((((L.zB _ (by simp;omega) _).zB _ (by simp;omega) _).zB _ (by simp;omega) _).set 0 _).set 1 _).set 2 _).set 3 _).set 4 _).set 5 _).set 6 _).set 7 _).set 8 _) underlying95 rfl (by kernel_rfl)) rfl ⟨_,rfl,?_,?_,?_⟩
 .repeat (refine Ag ?_ (by have:=BA w.heap.size (by omega);have:=BA N (by omega);assumption) _)
  exact Am y (by omega)
 .repeat (refine AF.zB ?_ _ (by simp;omega) _)
  exact HE
 .repeat (refine Ac.setCell ?_ (by simp;try omega) _)
  exact EK
