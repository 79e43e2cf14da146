import Derived.Deep.RegionHeld3
import Derived.Deep.RegionLaw
import Derived.Test.YtoihbhenbmffcaaGreatDoorTAA
set_option linter.all false
set_option maxHeartbeats 0
open List renaming length->Z
open Option renaming none->Y,some->V
open Go.Value renaming slice->U,int->X,string->O,pointer->j3
open Bool renaming false->K,true->jj
namespace Go.Proofs.YtoihbhenbmffcaaGreatDoor
open Go.RowKit Go.Proofs.Tryz
variable{s:zA}{n m:Nat}{B:Bool}
def Hk(s:zA)(a:Nat)(c:Bool)(h:a<=s.size):(AY s a c).2.1<=s.size:=by
 unfold AY;have b:=Bp s a h;have d:=C0 AA s _ b;split
 .exact h
 .split<;>simp<;>omega
def gu(h:(AY s n K).2.2=K):n<(AY s n K).2.1:=by
 unfold AY at h⊢;have b:=B1 s n;have c:=CD AA s (Ae s n);simp only[mC,if_false]at h⊢;split at h
 .cases h
 .rename_i a;simp only[a,if_false];omega
def Fh(s:zA)(a:Nat)(d:Bool)(h:a<=s.size):(Az s a d).2.1<=s.size:=by
 have b:=Bp s a h;have e:=C0 Ap s _ b;have c:=Hk s _ K b;unfold Az;split
 .exact h
 .split
  .split
   .simp;omega
   .split
    .exact c
    .split<;>simp<;>omega
  .exact b
def OO{at_:Nat}(h:(Az s at_ K).2.2=K):at_<(Az s at_ K).2.1:=by
 have g:=B1 s at_;unfold Az at h⊢;simp only[mC,if_false]at h⊢;split at h
 .rename_i c;simp only[c,dite_true];split at h
  .rename_i b;simp only[b,if_true];omega
  .rename_i b;simp only[b,if_false,mC];split at h
   .rename_i a;simp only[a,if_true];have:=gu h;omega
   .rename_i a;simp only[a,if_false,mC];split at h
    .cases h
    .rename_i e;simp only[e,if_false];(have d:Ap s[Ae s at_]=jj:=by simpa using a);have i:=Co Ap s _ c d;have f:=CD Ap s (Ae s at_+1);show at_<AK Ap s (Ae s at_);omega
 .cases h
def Cq(s:zA)(at_:Nat):rc AJ×Nat×Bool:=
 if h:(!(Az s at_ K).2.2&&DM s (AF s (Az s at_ K).2.1 (Az s at_ K).2.2) 44)=jj/\at_<Cg s (Az s at_ K).2.1 (Az s at_ K).2.2 44/\at_<s.size then
  have _h1:at_<s.size:=h.2.2;have _h2:=h.2.1
  ((Az s at_ K).1::(Cq s (Cg s (Az s at_ K).2.1 (Az s at_ K).2.2 44)).1,(Cq s (Cg s (Az s at_ K).2.1 (Az s at_ K).2.2 44)).2)
 else([(Az s at_ K).1],Cg s (Az s at_ K).2.1 (Az s at_ K).2.2 44,(Az s at_ K).2.2)
def DE(s:zA)(a:Nat)(b:Bool)(c:UInt8):a<=Cg s a b c:=by
 unfold Cg AF;have:=B1 s a;split<;>split<;>omega
def N1{at_ a:Nat}{t:AJ}(b:Az s at_ K=(t,a,B))(g:at_<=s.size)(e:(!B&&DM s (AF s a B) 44)=jj):
  at_<Cg s a B 44/\Cq s at_=(t::(Cq s (Cg s a B 44)).1,(Cq s (Cg s a B 44)).2):=by
 have f:B=K:=by cases B<;>simp_all
 subst f;have d:=OO (s:=s) (at_:=at_) (by rw[b]);have c:=Fh s at_ K g;rw[b]at d c;simp only at d c;have h:=DE s a K 44;refine⟨by omega,?_⟩
 conv=>lhs;rw[Cq]
 rw[dif_pos (by rw[b];exact⟨e,by simp only;omega,by omega⟩)];simp only[b]
def KJ{t:AJ}(c:Az s n K=(t,m,B))(b:(!B&&DM s (AF s m B) 44)=K):
  Cq s n=([t],Cg s m B 44,B):=by
 conv=>lhs;rw[Cq]
 rw[dif_neg (by rw[c];intro h;rw[h.1]at b;cases b),c]
structure Dr where
 name:zA
 args:rc AJ
 at_:Nat
def Bk(s:zA)(at_:Nat)(bad:Bool)(c:UInt8):Nat×Bool:=(Cg s at_ bad c,!(!bad&&DM s (AF s at_ bad) c))
def DZ(s:zA)(p:Nat×Bool):rc AJ×Nat×Bool:=if p.2 then([],p.1,jj)else Cq s p.1
def A4(s:zA)(at_:Nat)(bad:Bool):Dr×Nat×Bool:=
 let nm:=AY s (AF s at_ bad) bad
 let l:=DZ s (Bk s nm.2.1 nm.2.2 40)
 (⟨nm.1,l.1,AF s at_ bad⟩,Bk s l.2.1 l.2.2 41)
def XA(s:zA)(a:Nat)(h:a<=s.size):(Cq s a).2.1<=s.size:=by
 fun_induction Cq s a with
 |case1 a hc _ _ ih=>exact ih (Dm _ _ _ _ (Fh _ _ _ h))
 |case2 a hc=>exact Dm _ _ _ _ (Fh _ _ _ h)
theorem Tryz.yT:(Tryz.prog.info? 93).map (λi=>(i.zero,i.size,i.bytes))=V (V (.agg #[X .u8 0,O ⟨#[]⟩]),2,24):=by kernel_rfl
def CS(nm:zA)(av:Value)(j:Nat):rc Value:=[O nm,av,X .i64 j]
def Fr(s:zA)(mb bd:Bool)(a:Nat)(acc:rc AJ)(R:rc AJ×Nat×Bool):Prop:=
 if(mb&& !bd)=jj then(acc++(Cq s a).1,(Cq s a).2)=R else(acc,a,bd)=R
def Fr.step{c:rc AJ}{R:rc AJ×Nat×Bool}{t:AJ}(h:Fr s jj K n c R)(b:Az s n K=(t,m,B))(i:n<=s.size)(w:Z c<=n):
  Cg s m B 44<=s.size/\Z (c++[t])<=Cg s m B 44+1/\(((!B&&DM s (AF s m B) 44)&& !B)=jj->Z (c++[t])<=Cg s m B 44)/\
  2*(s.size-Cg s m B 44)+(if((!B&&DM s (AF s m B) 44)&& !B)=jj then 1 else 0)<2*(s.size-n)+1/\
  Fr s (!B&&DM s (AF s m B) 44) B (Cg s m B 44) (c++[t]) R:=by
 have d:=Fh s n K i;have u:=DE s m B 44;have g:B=K->n<m:=λq=>by
  have:=OO (s:=s) (at_:=n) (by rw[b];exact q);rw[b]at this;exact this
 have v:n<=m:=by
  cases B with
  |false=>have:=g rfl;omega
  |true=>
   have p:=B1 s n;(have e:m=(Az s n K).2.1:=by rw[b]);(have f:(Az s n K).2.2=jj:=by rw[b]);rw[e];unfold Az at f⊢;simp only[mC,if_false]at f⊢;split
   .rename_i l;simp only[l,dite_true]at f;split
    .simp only;omega
    .split
     .simp only;have y:=B1 s (Ae s n);have o:=CD AA s (Ae s (Ae s n));unfold AY;simp only[mC,if_false];split<;>simp only<;>omega
     .have o:=CD Ap s (Ae s n);split<;>simp only<;>omega
   .exact p
 rw[b]at d;simp only at d;have j:=Dm s m B 44 d;unfold Fr at h;simp only[nZ,pE,if_true]at h;cases hm:(!B&&DM s (AF s m B) 44)with
 |true=>
  have r:B=K:=by cases B<;>simp_all
  subst r;obtain⟨x,k⟩:=N1 b i hm;have:=g rfl;refine⟨j,by simp;omega,by simp;omega,by simp;omega,?_⟩;unfold Fr;simp only[nZ,pE,if_true];rw[k]at h;rw[<-h];simp
 |false=>
  refine⟨j,by simp;omega,by simp,by simp;omega,?_⟩;unfold Fr;rw[KJ b hm]at h;rw[<-h];simp
def Fr.done{c b:Bool}{d L:rc AJ}(h:Fr s c b n d (L,m,B))(e:(c&& !b)=K):d=L/\n=m/\b=B:=by
 unfold Fr at h;rw[mJ (by rw[e];exact oV)]at h;simpa using h
set_option maxRecDepth 100000
theorem Sd(b:Nat)(s:zA)(g:Nat)(d:Bool)(w:World)(R:s.size<=1000000)(HT:g<=s.size)(hB:AI w b (B7 s g d) 73):
  Calls prog 79 #[j3 (V ⟨b,0,Y⟩)] w λe w'=>∃F,e=.returned (.agg (CS (A4 s g d).1.name F (A4 s g d).1.at_).toArray)/\
   w'.ownsRow w.heap.size 93 2 F (Z (A4 s g d).1.args) ((A4 s g d).1.args.flatMap AQ)/\AI w' b (B7 s (A4 s g d).2.1 (A4 s g d).2.2) 73/\Ac [b] w w':=by
 obtain⟨i0,KD,H5,KS,Jx⟩:=nC Tryz.yT;have LC:=hB.lt;have FC:=Gx s g d HT;obtain⟨j,hj⟩:=rd (AF s g d);obtain⟨T,y,D,B0⟩:∃T y D,AY s j d=(T,y,D):=⟨_,_,_,rfl⟩;obtain⟨q,B,u⟩:∃q B,Bk s y D 40=(q,B):=⟨_,_,rfl⟩;obtain⟨L,A,C,I⟩:∃L A C,DZ s (q,B)=(L,A,C):=⟨_,_,_,rfl⟩;obtain⟨a4,b4,x⟩:∃a4 b4,Bk s A C 41=(a4,b4):=⟨_,_,rfl⟩;have hR:A4 s g d=(⟨T,L,j⟩,a4,b4):=by
  simp only[A4,hj,B0,u,I,x]
 rw[hR];rw[hj]at FC;have HE:y<=s.size:=by have:=Hk s j d FC;rw[B0]at this;exact this
 have HX:q<=s.size:=by have:=Dm s y D 40 HE;simp only[Bk,ny]at u;omega
 have K8:A<=s.size:=by
  unfold DZ at I;split at I
  .simp only[ny]at I;omega
  .have:=XA s q HX;rw[I]at this;exact this
 have HJ:Hid (AF s g d=j/\AY s j d=(T,y,D)/\Bk s y D 40=(q,B)/\DZ s (q,B)=(L,A,C)/\Bk s A C 41=(a4,b4)):=⟨hj,B0,u,I,x⟩;clear hR hj B0 u I x;go_enter func79,ntmps79;go_wp2_with fail
 refine(D6 b s g d _ R HT (hB.alloc _)).mono ?_;rintro e w1 ⟨rfl,W,hK⟩;rw[HJ.out.1]at W;have hn:=(rf w _ _).kept hK (by simp;omega);have HI:=((re [b] w).alloc _).trans hK;clear hB hK;have K4:=W.lt;have H4:=hn.lt;have A2:=W.cell 1;simp[B7]at A2;go_wp2_with fail
 refine(OD b s j d _ R FC ?_).mono ?_
 .exact W.alloc _
 rintro e w2 ⟨rfl,FL,EY⟩;have AB:=(rf w1 _ _).kept EY (by simp;omega);have HY:=(hn.alloc _).kept EY (by simp;omega);have HP:=(HI.alloc _).trans EY;rw[HJ.out.2.1]at FL⊢;obtain⟨N,hN⟩:=rd w1.heap.size;rw[hN]at AB⊢;have LB:b<N:=by omega
 have LS:w.heap.size<N:=by omega
 clear HI W hn K4 H4 A2 EY hN;have BT:=AB.cell 0;have IJ:=AB.frozen 0;simp at BT;simp only;go_wp2_with fail
 refine(SD b s y D 40 40 _ rfl R HE ?_).mono ?_
 .exact FL.zB _ (by simp;omega) _
 rintro e w3 ⟨rfl,FT,CC⟩;have CL:=(AB.set 0 _).kept CC (by simp;omega);have HK:=(HY.zB _ (by simp;omega) _).kept CC (by simp;omega);have HL:=(HP.setCell (p:=⟨N,0,Y⟩) (by simp;omega) _).trans CC;have u:=HJ.out.2.2.1;simp only[Bk,ny]at u;rw[u.1,u.2]at FT;simp only[mr]at CL;clear FL AB HY HP CC BT IJ u;go_wp2_with fail
 have K7:=CL.lt
 go_loopg [4] (2*(s.size-q)+(if(jj&& !B)=jj then 1 else 0)) (λk IA wr=>∃(G E:Bool) (a:Nat) (c:rc AJ) (F:Value),IA=.bool G/\a<=s.size/\Z c<=a+1/\((G&& !E)=jj->Z c<=a)/\
  k=2*(s.size-a)+(if(G&& !E)=jj then 1 else 0)/\Hid (Fr s G E a c (L,A,C))/\AI wr b (B7 s a E) 73/\AI wr N (CS T F j) 79/\AI wr w.heap.size [O ⟨#[]⟩,U Y 0 0,X .i64 0] 79/\
  wr.ownsRow (N+1) 93 2 F (Z c) (c.flatMap AQ)/\Ac [b] w wr)
 case atStart=>
  refine⟨jj,B,q,[],U Y 0 0,rfl,HX,by simp,by simp,rfl,?_,FT,CL,HK,mS _ _ _ _,HL⟩;have h:=HJ.out.2.2.2.1;show Fr _ _ _ _ _ _;unfold Fr;unfold DZ at h;cases B with
  |true=>simpa using h
  |false=>simp at h;simp[h]
 case round=>
  obtain⟨G,E,a,c,F,rfl,ha,HN,Ha,hk,B9,v,z,EM,r,BA⟩:=hrel;clear FT CL HK HL;have FA:Hid (gk=2*(s.size-a)+(if(G&& !E)=jj then 1 else 0)):=hk;clear hk;cases G
  case' true=>
   cases E
   case' false=>
    have AR:=v.cell 2;have A2:=z.cell 1;have K3:=z.frozen 1;simp[B7,CS]at AR A2;have IS:=z.lt;have KK:=v.lt;have H8:Z c<=a:=Ha rfl;clear HN Ha;obtain⟨t,n,f,ht⟩:∃t n f,Az s a K=(t,n,f):=⟨_,_,_,rfl⟩;(have K6:n<=s.size:=by have:=Fh s a K ha;rw[ht]at this;exact this);have HS:=B9.out.step ht ha H8;obtain⟨m,hm⟩:=rd (!f&&DM s (AF s n f) 44);obtain⟨l,HB⟩:=rd (Cg s n f 44);rw[hm,HB]at HS;obtain⟨q1,q2,q3,q4,q5⟩:=HS;have HQ:Hid (Az s a K=(t,n,f)/\(!f&&DM s (AF s n f) 44)=m/\Cg s n f 44=l/\l<=s.size/\Z (c++[t])<=l+1/\((m&& !f)=jj->Z (c++[t])<=l)/\2*(s.size-l)+(if(m&& !f)=jj then 1 else 0)<gk/\Fr s m f l (c++[t]) (L,A,C)):=
     ⟨ht,hm,HB,q1,q2,q3,by have:=FA.out;simp at this;omega,q5⟩
    clear ht hm HB q1 q2 q3 q4 q5 FA B9;go_wp2_with fail
    go_region_law
     (first
      |(go_simp;go_at_call 127;refine(Sy b s a K _ R ha (by first|exact v|exact v.drew)).mono ?_;rintro e wt ⟨rfl,FB,S⟩;rw[HQ.out.1]at FB⊢;have AH:=z.drew.kept S (by simp;omega);have HV:=AH.cell 1;have K5:=AH.frozen 1;have HG:=λo=>(AH.alloc o).cell 1;simp[CS]at HV HG;simp only[AQ])
      |(refine pi _ (by rfl) _ _ _ (by rfl) (N+1) 93 i0 _ 2 24 underlying77 KD H5 KS Jx rfl (by omega) F (Z c) (c.flatMap AQ) (by rfl) ((Ad (C1 r) S (by simp;omega)).alloc _)
         ⟨wt.heap.size,0,Y⟩ 1 1 (AQ t) (by rfl) (by rfl) (mW (m7 wt _)) (by simp[Value.oneCell',AQ])
         (by omega) (by unfold maxLen;omega) (by omega) (by simp;have:=S.size;simp at this;omega) (wt.heap.size+1) (by simp) ?_;intro M P w5 FW AT JA JJ;
        have ES:=(AH.alloc _).grown AT (Ba r N (by omega));have HU:=ES.cell 1;have H9:=ES.frozen 1;simp[CS]at HU))
    all_goals
     (go_wp2_with fail);have HW:=((FB.alloc _).grown AT (Ba r b (by omega))).zB ⟨N,1,Y⟩ (by simp;omega) (U (V ⟨M,0,Y⟩) (Z c+1) P);have LE:=(FW.lt M rfl).1;have H0:=ES.set 1 (U (V ⟨M,0,Y⟩) (Z c+1) P);have HM:=((((EM.drew).kept S (by simp;omega)).alloc _).grown AT (Ba r w.heap.size (by omega))).zB ⟨N,1,Y⟩ (by simp;omega) (U (V ⟨M,0,Y⟩) (Z c+1) P);have HF:=(((BA.drew.trans S).alloc _).grown AT (λk hk=>Or.inr (by have:=(r.lt k hk).1;omega))).setCell (p:=⟨N,1,Y⟩) (by simp;omega) (U (V ⟨M,0,Y⟩) (Z c+1) P);have HH:=Ah FW (p:=⟨N,1,Y⟩) (by simp[Value.ownBlock];omega) (U (V ⟨M,0,Y⟩) (Z c+1) P);clear FW ES HU H9 AT JA JJ HV K5 HG AH FB S r BA EM z v A2 AR K3;refine(Ov b s n f 44 44 _ rfl R K6 HW).mono ?_;rintro e w6 ⟨rfl,A0,i⟩;have AO:=H0.kept i (by simp;omega);have H:=HM.kept i (by simp;omega);have FF:=HF.trans i;have Q:=Ad HH i (by simp;omega);rw[HQ.out.2.2.1]at A0;rw[HQ.out.2.1];clear HW H0 HM HF HH i;go_wp2_with fail
     go_roundg (2*(s.size-l)+(if(m&& !f)=jj then 1 else 0))
     case measure=>exact HQ.out.2.2.2.2.2.2.1
     case rel=>
      obtain⟨_,_,_,q1,q2,q3,_,q5⟩:=HQ.out;refine⟨m,f,l,c++[t],U (V ⟨M,0,Y⟩) (Z c+1) P,rfl,q1,q2,q3,rfl,q5,A0,AO,H,?_,FF⟩;simpa using Q
  all_goals
   obtain⟨rfl,rfl,rfl⟩:=B9.out.done rfl;obtain⟨ad,P,rfl⟩:=C2 r;have AR:=v.cell 2;simp[B7]at AR;have IS:=z.lt;have KK:=v.lt;clear HN Ha FA B9;(go_wp2_with fail);refine(SD b s a _ 41 41 _ rfl R ha v).mono ?_;rintro e w6 ⟨rfl,A0,i⟩;have x:=HJ.out.2.2.2.2;simp only[Bk,ny]at x;rw[x.1,x.2]at A0;have AO:=z.kept i (by simp;omega);have H:=EM.kept i (by simp;omega);have Q:=Ad r i (by simp;omega);have FF:=BA.trans i;clear v z EM r BA i x AR;have BT:=AO.cell 0;have K1:=AO.cell 1;have H2:=AO.cell 2;have KA:=H.cell 0;have H3:=H.cell 1;have H7:=H.cell 2;have LL:=H.frozen;simp[CS]at BT K1 H2 KA H3 H7;go_wp2;refine m5 (Cj rfl rfl (((H.set 0 _).set 1 _).set 2 _) underlying79 rfl (by kernel_rfl)) rfl ⟨_,rfl,?_,?_,?_⟩
   .exact Ah (Ah (Ah (Ak Q (by omega)) (by simpa using Ba Q w.heap.size (by omega)) _) (by simpa using Ba Q w.heap.size (by omega)) _) (by simpa using Ba Q w.heap.size (by omega)) _
   .exact((A0.zB _ (by simp;omega) _).zB _ (by simp;omega) _).zB _ (by simp;omega) _
   .exact((FF.setCell (by simp) _).setCell (by simp) _).setCell (by simp) _
def BU(s:zA)(a:Nat):Ae s (Ae s a)=Ae s a:=by
 fun_induction Ae s a with
 |case1 a h hb ih=>exact ih
 |case2 a h hb=>rw[Ae];simp[h,hb]
 |case3 a h=>rw[Ae];simp[h]
structure Bw where
 kind:UInt8
 A:Dr
 L:AJ
 R:AJ
 at_:Nat
def Ec:AJ:=⟨0,ByteArray.empty⟩
def Hr:Dr:=⟨ByteArray.empty,[],0⟩
def CB(x:Bw)(av:Value):rc Value:=[X .u8 x.kind.toNat,O x.A.name,av,X .i64 x.A.at_,X .u8 x.L.v.toNat,O x.L.s,X .u8 x.R.v.toNat,O x.R.s,X .i64 x.at_]
def Gs(s:zA)(j:Nat):Bool:= !(AY s j K).2.2&&DM s (AF s (AY s j K).2.1 (AY s j K).2.2) 40
def CT(s:zA)(j:Nat):Bool:=if h:j<s.size then AA s[j] else K
def CN(s:zA)(i:Nat):UInt8:=if h:i<s.size then s[i] else 0
def In(s:zA)(j a3:Nat)(t:AJ)(b2:Bool):Bw×Nat×Bool:=
 if !b2&&(DM s a3 61||DM s a3 35||DM s a3 60)then
  (⟨CN s a3,Hr,t,(Az s (a3+1) K).1,j⟩,(Az s (a3+1) K).2)
 else(⟨0,Hr,t,Ec,j⟩,a3,jj)
def CI(s:zA)(at_:Nat):Bw×Nat×Bool:=
 let j:=Ae s at_
 if DM s j 33 then(⟨33,(A4 s (j+1) K).1,Ec,Ec,j⟩,(A4 s (j+1) K).2)
 else if CT s j&&Gs s j then(⟨97,(A4 s j K).1,Ec,Ec,j⟩,(A4 s j K).2)
 else In s j (AF s (Az s j K).2.1 (Az s j K).2.2) (Az s j K).1 (Az s j K).2.2
theorem iu(b:Nat)(s:zA)(d j:Nat)(w:World)(u:s.size<=1000000)(AB:d<=s.size)(z:Ae s d=j)(m:DM s j 33=jj)(A:AI w b (B7 s d K) 73):
  Calls prog 129 #[j3 (V ⟨b,0,Y⟩)] w λe n=>∃y,e=.returned (.agg (CB ⟨33,(A4 s (j+1) K).1,Ec,Ec,j⟩ y).toArray)/\
   n.ownsRow w.heap.size 93 2 y (Z (A4 s (j+1) K).1.args) ((A4 s (j+1) K).1.args.flatMap AQ)/\AI n b (B7 s (A4 s (j+1) K).2.1 (A4 s (j+1) K).2.2) 73/\Ac [b] w n:=by
 have E0:=A.lt;have EX:=Fe m;have t:AF s j K=j:=by rw[<-z];exact BU s d
 have D:Cg s j K 33=j+1:=by unfold Cg;rw[t,m];rfl
 have B:(!false&&DM s (AF s j K) 33)=jj:=by rw[t,m];rfl
 have o:Hid (Ae s d=j/\Cg s j K 33=j+1/\(!false&&DM s (AF s j K) 33)=jj):=⟨z,D,B⟩;clear z m t D B;go_enter func129,ntmps129;go_wp2_with fail
 refine(D6 b s d K _ u AB (A.alloc _)).mono ?_;rintro e C ⟨rfl,h,q⟩;rw[show AF s d K=j from o.out.1]at h
 have x:=(rf w _ _).kept q (by simp;omega);have L:=((re [b] w).alloc _).trans q;clear A q;have DT:=h.lt;have W:=x.lt;have P:=h.cell 1;simp[B7]at P;go_wp2_with fail
 refine(Ov b s j K 33 33 _ rfl u (by omega) (h.alloc _)).mono ?_;rintro e w2 ⟨rfl,v,l⟩;rw[o.out.2.1]at v;rw[o.out.2.2];have f:=(rf C _ _).kept l (by simp;omega);have G:=(x.alloc _).kept l (by simp;omega);have E:=(L.alloc _).trans l;obtain⟨N,M⟩:=rd C.heap.size;rw[M]at f⊢;have ES:b<N:=by omega
 have FC:w.heap.size<N:=by omega
 clear L h x DT W P l M;have H:=f.cell 0;have Ax:=f.frozen 0;simp at H;go_wp2_with fail
 refine(Sd b s (j+1) K _ u (by omega) (v.zB _ (by simp;omega) _)).mono ?_;rintro e w3 ⟨y,rfl,i,EK,g⟩;have F:=(f.set 0 _).kept g (by simp;omega);have r:=(G.zB _ (by simp;omega) _).kept g (by simp;omega);have AH:=g.size;have FA:=f.lt;simp only[World.size_setCell]at AH i;have Bx:=(E.setCell (p:=⟨N,0,Y⟩) (by simp;omega) _).trans g;clear v f G E g H Ax;obtain⟨ad,FB,rfl⟩:=C2 i;have a:=F.cell;have EY:=F.frozen;have c:=r.cell;have FO:=r.frozen;simp only[CS];have Q:=a 0;have e1:=a 1;have e2:=a 2;have e3:=a 3;have e4:=a 4;have R:=a 5;have e6:=a 6;have T:=a 7;have e8:=a 8;have f0:=c 0;have f1:=c 1;have f2:=c 2;have f3:=c 3;have f4:=c 4;have f5:=c 5;have f6:=c 6;have f7:=c 7;have S:=c 8;simp at Q e1 e2 e3 e4 R e6 T e8 f0 f1 f2 f3 f4 f5 f6 f7 S;clear a c;go_wp2;have I:=λk hk=>Ba i k hk
 refine m5 (Cj rfl rfl ((((((((((((r.zB _ (by simp;omega) _).zB _ (by simp;omega) _).zB _ (by simp;omega) _).set 0 _).set 1 _).set 2 _).set 3 _).set 4 _).set 5 _).set 6 _).set 7 _).set 8 _) underlying95 rfl (by kernel_rfl)) rfl ⟨_,rfl,?_,?_,?_⟩
 .repeat (refine Ah ?_ (by have:=I w.heap.size (by omega);have:=I N (by omega);assumption) _)
  exact Ak i (by omega)
 .repeat (refine AI.zB ?_ _ (by simp;omega) _)
  exact EK
 .repeat (refine Ac.setCell ?_ (by simp;try omega) _)
  exact Bx
theorem fY(b:Nat)(s:zA)(d j:Nat)(w:World)(o:s.size<=1000000)(BT:d<=s.size)(D:Ae s d=j)(C:DM s j 33=K)(HI:j<s.size)(hl:AA s[j]=jj)(ho:Hid (Gs s j=jj))(H:AI w b (B7 s d K) 73):
  Calls prog 129 #[j3 (V ⟨b,0,Y⟩)] w λe M=>∃G,e=.returned (.agg (CB ⟨97,(A4 s j K).1,Ec,Ec,j⟩ G).toArray)/\
   M.ownsRow w.heap.size 93 2 G (Z (A4 s j K).1.args) ((A4 s j K).1.args.flatMap AQ)/\AI M b (B7 s (A4 s j K).2.1 (A4 s j K).2.2) 73/\Ac [b] w M:=by
 have HP:=H.lt;have HV:j<=s.size:=by have:=Bp s d BT;omega
 have B:AF s j K=j:=by rw[<-D];exact BU s d
 have AB:Cg s j K 33=j:=by unfold Cg;rw[B,C];rfl
 have Ax:(!false&&DM s (AF s j K) 33)=K:=by rw[B,C];rfl
 have z:Hid (Ae s d=j/\Cg s j K 33=j/\(!false&&DM s (AF s j K) 33)=K):=⟨D,AB,Ax⟩;clear D C B AB Ax;go_enter func129,ntmps129;go_wp2_with fail
 refine(D6 b s d K _ o BT (H.alloc _)).mono ?_;rintro e w1 ⟨rfl,l,P⟩;rw[show AF s d K=j from z.out.1]at l
 have R:=(rf w _ _).kept P (by simp;omega);have W:=((re [b] w).alloc _).trans P;clear H P;have HG:=l.lt;have DT:=R.lt;have t:=l.cell 1;simp[B7]at t;go_wp2_with fail
 refine(Ov b s j K 33 33 _ rfl o (by omega) (l.alloc _)).mono ?_;rintro e S ⟨rfl,g,A⟩;rw[z.out.2.1]at g;rw[z.out.2.2];have u:=(rf w1 _ _).kept A (by simp;omega);have Q:=(R.alloc _).kept A (by simp;omega);have x:=(W.alloc _).trans A;obtain⟨N,hN⟩:=rd w1.heap.size;rw[hN]at u⊢;have HM:b<N:=by omega
 have HZ:w.heap.size<N:=by omega
 clear W l R HG DT t A hN z;have HQ:=u.lt;have HU:=g.lt;have HL:=Q.lt;have A1:=g.cell 0;have t:=g.cell 1;have AT:=g.cell 2;simp[B7]at A1 t AT;have HX:(j:Int)<(s.size:Int):=by omega
 obtain⟨E,i,f,v⟩:∃E i f,AY s j K=(E,i,f):=⟨_,_,_,rfl⟩;have E0:i<=s.size:=by have:=Hk s j K (by omega);rw[v]at this;exact this
 have A0:(!f&&DM s (AF s i f) 40)=jj:=by have h:=ho.out;unfold Gs at h;rw[v]at h;exact h
 have F:Hid (AY s j K=(E,i,f)/\(!f&&DM s (AF s i f) 40)=jj):=⟨v,A0⟩;clear v A0;go_wp2_with fail
 go_quiet ((go_at_call 169;exact pQ (JW _ s[j] _ rfl)))
 go_wp2_with fail
 go_region
 go_wp2_with fail
 refine(OD S.heap.size s j K _ o (by omega) (rf (S.drewN _) (B7 s j K) 73)).mono ?_;rintro e w3 ⟨rfl,I,q⟩;rw[F.out.1]at I⊢;have AR:=((g.drewN _).alloc _).kept q (by simp;omega);have A2:=((u.drewN _).alloc _).kept q (by simp;omega);have AH:=((Q.drewN _).alloc _).kept q (by simp;omega);have AO:=((x.drewN _).alloc _).trans' q (by have:=x.size;simp;omega);clear g u Q q A1 t AT;simp only;go_wp2_with fail
 refine(Sp S.heap.size s i f 40 40 _ rfl o E0 I).mono ?_;rintro e w4 ⟨rfl,_,m⟩;have B9:=AR.kept m (by simp;omega);have r:=A2.kept m (by simp;omega);have BA:=AH.kept m (by simp;omega);have B2:=AO.trans' m (by have:=x.size;simp;omega);rw[F.out.2];clear AR A2 AH AO m I F x;have T:=r.cell 0;have FO:=r.frozen 0;simp at T;have HH:=r.lt;go_wp2_with fail
 refine(Sd b s j K _ o (by omega) (B9.zB _ (by simp;omega) _)).mono ?_;rintro e w5 ⟨G,rfl,y,HC,n⟩;have B0:=(r.set 0 _).kept n (by simp;omega);have L:=(BA.zB _ (by simp;omega) _).kept n (by simp;omega);have Ha:=n.size;simp only[World.size_setCell]at Ha y;have CW:=(B2.setCell (p:=⟨N,0,Y⟩) (by simp;omega) _).trans n;clear B9 r BA B2 n T FO;obtain⟨ad,HY,rfl⟩:=C2 y;have a:=B0.cell;have HN:=B0.frozen;have c:=L.cell;have HT:=L.frozen;simp only[CS];have e0:=a 0;have e1:=a 1;have e2:=a 2;have e3:=a 3;have e4:=a 4;have e5:=a 5;have e6:=a 6;have e7:=a 7;have e8:=a 8;have f0:=c 0;have f1:=c 1;have f2:=c 2;have f3:=c 3;have f4:=c 4;have f5:=c 5;have f6:=c 6;have f7:=c 7;have f8:=c 8;simp at e0 e1 e2 e3 e4 e5 e6 e7 e8 f0 f1 f2 f3 f4 f5 f6 f7 f8;clear a c;go_wp2;have Bx:=λk hk=>Ba y k hk
 refine m5 (Cj rfl rfl ((((((((((((L.zB _ (by simp;omega) _).zB _ (by simp;omega) _).zB _ (by simp;omega) _).set 0 _).set 1 _).set 2 _).set 3 _).set 4 _).set 5 _).set 6 _).set 7 _).set 8 _) underlying95 rfl (by kernel_rfl)) rfl ⟨_,rfl,?_,?_,?_⟩
 .repeat (refine Ah ?_ (by have:=Bx w.heap.size (by omega);have:=Bx N (by omega);assumption) _)
  exact Ak y (by omega)
 .repeat (refine AI.zB ?_ _ (by simp;omega) _)
  exact HC
 .repeat (refine Ac.setCell ?_ (by simp;try omega) _)
  exact CW
