import Derived.Deep.RegionHeld3
import Derived.Deep.RegionLaw
import Derived.Test.YtoihbhenbmffcaaGreatDoorZAA
set_option linter.unusedVariables false
set_option linter.unusedSimpArgs false
set_option maxHeartbeats 6400000
namespace Go.Proofs.YtoihbhenbmffcaaGreatDoor
open Go.RowKit
open Go.Proofs.Tryz
theorem Dq(s:cL)(at_:Nat)(b:Bool)(h:at_<=s.size):(AW s at_ b).2.1<=s.size:=by
 unfold AW;have a:=AN s at_ h;have c:=CA Av s _ a;split
 ·exact h
 ·split<;>simp<;>omega
theorem Yb{s:cL}{at_:Nat}(h:(AW s at_ false).2.2=false):at_<(AW s at_ false).2.1:=by
 unfold AW at h⊢;have b:=Cr s at_;have c:=Cq Av s (Af s at_);simp only[Z8,if_false]at h⊢;split at h
 ·cases h
 ·rename_i a;simp only[a,if_false];omega
theorem BK(s:cL)(at_:Nat)(b:Bool)(h:at_<=s.size):(AA s at_ b).2.1<=s.size:=by
 have a:=AN s at_ h;have d:=CA An s _ a;have c:=Dq s _ false a;unfold AA;split
 ·exact h
 ·split
  ·split
   ·simp;omega
   ·split
    ·exact c
    ·split<;>simp<;>omega
  ·exact a
theorem Sw{s:cL}{at_:Nat}(h:(AA s at_ false).2.2=false):at_<(AA s at_ false).2.1:=by
 have g:=Cr s at_;unfold AA at h⊢;simp only[Z8,if_false]at h⊢;split at h
 ·rename_i c;simp only[c,dite_true];split at h
  ·rename_i b;simp only[b,if_true];omega
  ·rename_i b;simp only[b,if_false,Z8];split at h
   ·rename_i a;simp only[a,if_true];have:=Yb h;omega
   ·rename_i a;simp only[a,if_false,Z8];split at h
    ·cases h
    ·rename_i e;simp only[e,if_false];(have d:An s[Af s at_]=true:=by simpa using a);have i:=B0 An s _ c d;have f:=Cq An s (Af s at_+1);show at_<AM An s (Af s at_);omega
 ·cases h
def De(s:cL)(at_:Nat):List AG×Nat×Bool:=
 if h:(!(AA s at_ false).2.2&&Cz s (As s (AA s at_ false).2.1 (AA s at_ false).2.2) 44)=true/\at_<Bi s (AA s at_ false).2.1 (AA s at_ false).2.2 44/\at_<s.size then
  have _h1:at_<s.size:=h.2.2;have _h2:=h.2.1
  ((AA s at_ false).1::(De s (Bi s (AA s at_ false).2.1 (AA s at_ false).2.2 44)).1,(De s (Bi s (AA s at_ false).2.1 (AA s at_ false).2.2 44)).2)
 else([(AA s at_ false).1],Bi s (AA s at_ false).2.1 (AA s at_ false).2.2 44,(AA s at_ false).2.2)
theorem EV(s:cL)(at_:Nat)(a:Bool)(c:UInt8):at_<=Bi s at_ a c:=by
 unfold Bi As;have:=Cr s at_;split<;>split<;>omega
theorem N1{s:cL}{at_ a:Nat}{t:AG}{b:Bool}(c:AA s at_ false=(t,a,b))(h:at_<=s.size)(f:(!b&&Cz s (As s a b) 44)=true):
  at_<Bi s a b 44/\De s at_=(t::(De s (Bi s a b 44)).1,(De s (Bi s a b 44)).2):=by
 have g:b=false:=by cases b<;>simp_all
 subst g;have e:=Sw (s:=s) (at_:=at_) (by rw[c]);have d:=BK s at_ false h;rw[c]at e d;simp only at e d;have i:=EV s a false 44;refine⟨by omega,?_⟩
 conv=>lhs;rw[De]
 rw[dif_pos (by rw[c];exact⟨f,by simp only;omega,by omega⟩)];simp only[c]
theorem J5{s:cL}{at_ a:Nat}{t:AG}{b:Bool}(d:AA s at_ false=(t,a,b))(c:(!b&&Cz s (As s a b) 44)=false):
  De s at_=([t],Bi s a b 44,b):=by
 conv=>lhs;rw[De]
 rw[dif_neg (by rw[d];intro h;rw[h.1]at c;cases c),d]
structure CQ where
 name:cL
 args:List AG
 at_:Nat
def Bk(s:cL)(at_:Nat)(bad:Bool)(c:UInt8):Nat×Bool:=(Bi s at_ bad c,!(!bad&&Cz s (As s at_ bad) c))
def Ek(s:cL)(p:Nat×Bool):List AG×Nat×Bool:=if p.2 then([],p.1,true)else De s p.1
def A4(s:cL)(at_:Nat)(bad:Bool):CQ×Nat×Bool:=
 let nm:=AW s (As s at_ bad) bad
 let l:=Ek s (Bk s nm.2.1 nm.2.2 40)
 (⟨nm.1,l.1,As s at_ bad⟩,Bk s l.2.1 l.2.2 41)
theorem Sf(s:cL)(at_:Nat)(h:at_<=s.size):(De s at_).2.1<=s.size:=by
 fun_induction De s at_ with
 |case1 at_ hc _ _ ih=>exact ih (Cy _ _ _ _ (BK _ _ _ h))
 |case2 at_ hc=>exact Cy _ _ _ _ (BK _ _ _ h)
theorem Tryz.info93:(Tryz.prog.info? 93).map (λi=>(i.zero,i.size,i.bytes))=some (some (.agg #[.int .u8 0, .string ⟨#[]⟩]),2,24):=by kernel_rfl
def BO(nm:cL)(av:Value)(j:Nat):List Value:=[.string nm,av, .int .i64 j]
def D0(s:cL)(mb bd:Bool)(a:Nat)(acc:List AG)(R:List AG×Nat×Bool):Prop:=
 if(mb&& !bd)=true then(acc++(De s a).1,(De s a).2)=R else(acc,a,bd)=R
theorem D0.step{s:cL}{a c:Nat}{acc:List AG}{R:List AG×Nat×Bool}{t:AG}{b:Bool}(h:D0 s true false a acc R)(d:AA s a false=(t,c,b))(j:a<=s.size)(v:acc.length<=a):
  Bi s c b 44<=s.size/\(acc++[t]).length<=Bi s c b 44+1/\(((!b&&Cz s (As s c b) 44)&& !b)=true->(acc++[t]).length<=Bi s c b 44)/\
  2*(s.size-Bi s c b 44)+(if((!b&&Cz s (As s c b) 44)&& !b)=true then 1 else 0)<2*(s.size-a)+1/\
  D0 s (!b&&Cz s (As s c b) 44) b (Bi s c b 44) (acc++[t]) R:=by
 have f:=BK s a false j;have r:=EV s c b 44;have i:b=false->a<c:=λm=>by
  have:=Sw (s:=s) (at_:=a) (by rw[d];exact m);rw[d]at this;exact this
 have x:a<=c:=by
  cases b with
  |false=>have:=i rfl;omega
  |true=>
   have o:=Cr s a;(have e:c=(AA s a false).2.1:=by rw[d]);(have g:(AA s a false).2.2=true:=by rw[d]);rw[e];unfold AA at g⊢;simp only[Z8,if_false]at g⊢;split
   ·rename_i l;simp only[l,dite_true]at g;split
    ·simp only;omega
    ·split
     ·simp only;have w:=Cr s (Af s a);have n:=Cq Av s (Af s (Af s a));unfold AW;simp only[Z8,if_false];split<;>simp only<;>omega
     ·have n:=Cq An s (Af s a);split<;>simp only<;>omega
   ·exact o
 rw[d]at f;simp only at f;have k:=Cy s c b 44 f;unfold D0 at h;simp only[bG,cN,if_true]at h;cases hm:(!b&&Cz s (As s c b) 44)with
 |true=>
  have q:b=false:=by cases b<;>simp_all
  subst q;obtain⟨u,p⟩:=N1 d j hm;have:=i rfl;refine⟨k,by simp;omega,by simp;omega,by simp;omega,?_⟩;unfold D0;simp only[bG,cN,if_true];rw[p]at h;rw[<-h];simp
 |false=>
  refine⟨k,by simp;omega,by simp,by simp;omega,?_⟩;unfold D0;rw[J5 d hm]at h;rw[<-h];simp
theorem D0.done{s:cL}{a:Nat}{c b:Bool}{acc L:List AG}{d:Nat}{e:Bool}(h:D0 s c b a acc (L,d,e))(f:(c&& !b)=false):acc=L/\a=d/\b=e:=by
 unfold D0 at h;rw[if_neg (by rw[f];exact bY)]at h;simpa using h
set_option maxRecDepth 100000
theorem Hc(b:Nat)(s:cL)(at_:Nat)(f:Bool)(w:World)(K:s.size<=1000000)(H8:at_<=s.size)(hB:Aw w b (AP s at_ f) 73):
    Calls prog 79 #[.pointer (some ⟨b,0,none⟩)] w λe w'=>∃M,e= .returned (.agg (BO (A4 s at_ f).1.name M (A4 s at_ f).1.at_).toArray)/\
      w'.ownsRow w.heap.size 93 2 M (A4 s at_ f).1.args.length ((A4 s at_ f).1.args.flatMap Az)/\Aw w' b (AP s (A4 s at_ f).2.1 (A4 s at_ f).2.2) 73/\Ac [b] w w':=by
  obtain⟨i0,LM,K4,L0,LC⟩:=bj Tryz.info93
  have NM:=hB.lt
  have HD:=B2 s at_ f H8
  obtain⟨j,hj⟩:∃j,As s at_ f=j:=⟨_,rfl⟩
  obtain⟨X,D,J,EK⟩:∃X D J,AW s j f=(X,D,J):=⟨_,_,_,rfl⟩
  obtain⟨z,H,A⟩:∃z H,Bk s D J 40=(z,H):=⟨_,_,rfl⟩
  obtain⟨L,G,I,P⟩:∃L G I,Ek s (z,H)=(L,G,I):=⟨_,_,_,rfl⟩
  obtain⟨a4,b4,i⟩:∃a4 b4,Bk s G I 41=(a4,b4):=⟨_,_,rfl⟩
  have hR:A4 s at_ f=(⟨X,L,j⟩,a4,b4):=by
    simp only[A4,hj,EK,A,P,i]
  rw[hR]
  rw[hj]at HD
  have HU:D<=s.size:=by have:=Dq s j f HD;rw[EK]at this;exact this
  have JJ:z<=s.size:=by have:=Cy s D J 40 HU;simp only[Bk,aY]at A;omega
  have Nq:G<=s.size:=by
    unfold Ek at P
    split at P
    · simp only[aY]at P;omega
    · have:=Sf s z JJ;rw[P]at this;exact this
  have V:Hid (As s at_ f=j/\AW s j f=(X,D,J)/\Bk s D J 40=(z,H)/\Ek s (z,H)=(L,G,I)/\Bk s G I 41=(a4,b4)):=⟨hj,EK,A,P,i⟩
  clear hR hj EK A P i
  go_enter func79,ntmps79
  go_wp2_with fail
  refine(A1 b s at_ f _ K H8 (hB.alloc _)).mono ?_
  rintro e w1 ⟨rfl,Y,hK⟩
  rw[V.out.1]at Y
  have hn:=(Aw.new w _ _).kept hK (by simp;omega)
  have HY:=((Ac.refl [b] w).alloc _).trans hK
  clear hB hK
  have MN:=Y.lt
  have K3:=hn.lt
  have BA:=Y.cell 1
  simp[AP]at BA
  go_wp2_with fail
  refine(EP b s j f _ K HD ?_).mono ?_
  · exact Y.alloc _
  rintro e w2 ⟨rfl,HF,FW⟩
  have Ax:=(Aw.new w1 _ _).kept FW (by simp;omega)
  have KK:=(hn.alloc _).kept FW (by simp;omega)
  have H4:=(HY.alloc _).trans FW
  rw[V.out.2.1]at HF⊢
  obtain⟨N,hN⟩:∃N,w1.heap.size=N:=⟨_,rfl⟩
  rw[hN]at Ax⊢
  have NL:b<N:=by omega
  have NX:w.heap.size<N:=by omega
  clear HY Y hn MN K3 BA FW hN
  have S:=Ax.cell 0
  have K9:=Ax.frozen 0
  simp at S
  simp only
  go_wp2_with fail
  refine(Gx b s D J 40 40 _ rfl K HU ?_).mono ?_
  · exact HF.set_other _ (by simp;omega) _
  rintro e w3 ⟨rfl,HI,EY⟩
  have FA:=(Ax.set 0 _).kept EY (by simp;omega)
  have H0:=(KK.set_other _ (by simp;omega) _).kept EY (by simp;omega)
  have H1:=(H4.setCell (p:=⟨N,0,none⟩) (by simp;omega) _).trans EY
  have A:=V.out.2.2.1
  simp only[Bk,aY]at A
  rw[A.1,A.2]at HI
  simp only[Z4]at FA
  clear HF Ax KK H4 EY S K9 A
  go_wp2_with fail
  have M6:=FA.lt
  go_loopg [4] (2*(s.size-z)+(if(true&& !H)=true then 1 else 0)) (λk K8 wr=>∃(O B:Bool) (a:Nat) (c:List AG) (M:Value),K8= .bool O/\a<=s.size/\c.length<=a+1/\((O&& !B)=true->c.length<=a)/\
    k=2*(s.size-a)+(if(O&& !B)=true then 1 else 0)/\Hid (D0 s O B a c (L,G,I))/\Aw wr b (AP s a B) 73/\Aw wr N (BO X M j) 79/\Aw wr w.heap.size [.string ⟨#[]⟩, .slice none 0 0, .int .i64 0] 79/\
    wr.ownsRow (N+1) 93 2 M c.length (c.flatMap Az)/\Ac [b] w wr)
  case atStart=>
    refine⟨true,H,z,[], .slice none 0 0,rfl,JJ,by simp,by simp,rfl,?_,HI,FA,H0,ax _ _ _ _,H1⟩
    have h:=V.out.2.2.2.1
    show D0 _ _ _ _ _ _
    unfold D0
    unfold Ek at h
    cases H with
    |true=>simpa using h
    |false=>simp at h;simp[h]
  case round=>
    obtain⟨O,B,a,c,M,rfl,ha,HE,FO,hk,T,n,u,U,q,R⟩:=hrel
    clear HI FA H0 H1
    have B9:Hid (gk=2*(s.size-a)+(if(O&& !B)=true then 1 else 0)):=hk
    clear hk
    cases O with
    |false=>
      obtain⟨rfl,rfl,rfl⟩:=T.out.done rfl
      obtain⟨ad,F,rfl⟩:=BI q
      have C:=n.cell 2
      simp[AP]at C
      have H5:=u.lt
      have H6:=n.lt
      clear HE FO B9 T
      go_wp2_with fail
      refine(Gx b s a B 41 41 _ rfl K ha n).mono ?_
      rintro e w6 ⟨rfl,E,d⟩
      have i:=V.out.2.2.2.2
      simp only[Bk,aY]at i
      rw[i.1,i.2]at E
      have x:=u.kept d (by simp;omega)
      have l:=U.kept d (by simp;omega)
      have r:=Ad q d (by simp;omega)
      have AH:=R.trans d
      clear n u U q R d i C
      have S:=x.cell 0
      have HR:=x.cell 1
      have Ha:=x.cell 2
      have HL:=l.cell 0
      have HA:=l.cell 1
      have HC:=l.cell 2
      have LS:=l.frozen
      simp[BO]at S HR Ha HL HA HC
      go_wp2
      refine aE (AY rfl rfl (((l.set 0 _).set 1 _).set 2 _) underlying79 rfl (by kernel_rfl)) rfl ⟨_,rfl,?_,?_,?_⟩
      · exact Ag (Ag (Ag (Ai r (by omega)) (by simpa using AJ r w.heap.size (by omega)) _) (by simpa using AJ r w.heap.size (by omega)) _) (by simpa using AJ r w.heap.size (by omega)) _
      · exact((E.set_other _ (by simp;omega) _).set_other _ (by simp;omega) _).set_other _ (by simp;omega) _
      · exact((AH.setCell (by simp) _).setCell (by simp) _).setCell (by simp) _
    |true=>
      cases B with
      |true=>
        obtain⟨rfl,rfl,rfl⟩:=T.out.done rfl
        obtain⟨ad,F,rfl⟩:=BI q
        have C:=n.cell 2
        simp[AP]at C
        have H5:=u.lt
        have H6:=n.lt
        clear HE FO B9 T
        go_wp2_with fail
        refine(Gx b s a true 41 41 _ rfl K ha n).mono ?_
        rintro e w6 ⟨rfl,E,d⟩
        have i:=V.out.2.2.2.2
        simp only[Bk,aY]at i
        rw[i.1,i.2]at E
        have x:=u.kept d (by simp;omega)
        have l:=U.kept d (by simp;omega)
        have r:=Ad q d (by simp;omega)
        have AH:=R.trans d
        clear n u U q R d i C
        have S:=x.cell 0
        have HR:=x.cell 1
        have Ha:=x.cell 2
        have HL:=l.cell 0
        have HA:=l.cell 1
        have HC:=l.cell 2
        have LS:=l.frozen
        simp[BO]at S HR Ha HL HA HC
        go_wp2
        refine aE (AY rfl rfl (((l.set 0 _).set 1 _).set 2 _) underlying79 rfl (by kernel_rfl)) rfl ⟨_,rfl,?_,?_,?_⟩
        · exact Ag (Ag (Ag (Ai r (by omega)) (by simpa using AJ r w.heap.size (by omega)) _) (by simpa using AJ r w.heap.size (by omega)) _) (by simpa using AJ r w.heap.size (by omega)) _
        · exact((E.set_other _ (by simp;omega) _).set_other _ (by simp;omega) _).set_other _ (by simp;omega) _
        · exact((AH.setCell (by simp) _).setCell (by simp) _).setCell (by simp) _
      |false=>
        have C:=n.cell 2
        have BA:=u.cell 1
        have MB:=u.frozen 1
        simp[AP,BO]at C BA
        have H5:=u.lt
        have H6:=n.lt
        have K5:c.length<=a:=FO rfl
        clear HE FO
        obtain⟨t,y,g,ht⟩:∃t y g,AA s a false=(t,y,g):=⟨_,_,_,rfl⟩
        have M0:y<=s.size:=by have:=BK s a false ha;rw[ht]at this;exact this
        have HS:=T.out.step ht ha K5
        obtain⟨m,hm⟩:∃m,(!g&&Cz s (As s y g) 44)=m:=⟨_,rfl⟩
        obtain⟨v,HO⟩:∃v,Bi s y g 44=v:=⟨_,rfl⟩
        rw[hm,HO]at HS
        obtain⟨q1,q2,q3,q4,q5⟩:=HS
        have Z:Hid (AA s a false=(t,y,g)/\(!g&&Cz s (As s y g) 44)=m/\Bi s y g 44=v/\v<=s.size/\(c++[t]).length<=v+1/\((m&& !g)=true->(c++[t]).length<=v)/\2*(s.size-v)+(if(m&& !g)=true then 1 else 0)<gk/\D0 s m g v (c++[t]) (L,G,I)):=
          ⟨ht,hm,HO,q1,q2,q3,by have:=B9.out;simp at this;omega,q5⟩
        clear ht hm HO q1 q2 q3 q4 q5 B9 T
        go_wp2_with fail
        go_region_law
          (first
            | (go_simp;go_at_call 127;refine(BQ b s a false _ K ha (by first|exact n|exact n.drew)).mono ?_;rintro e wt ⟨rfl,HB,W⟩;rw[Z.out.1]at HB⊢;have AB:=u.drew.kept W (by simp;omega);have Ix:=AB.cell 1;have MY:=AB.frozen 1;have HW:=λo=>(AB.alloc o).cell 1;simp[BO]at Ix HW;simp only[Az])
            | (refine dG _ (by rfl) _ _ _ (by rfl) (N+1) 93 i0 _ 2 24 underlying77 LM K4 L0 LC rfl (by omega) M c.length (c.flatMap Az) (by rfl) ((Ad (F3 q) W (by simp;omega)).alloc _)
                 ⟨wt.heap.size,0,none⟩ 1 1 (Az t) (by rfl) (by rfl) (aF (cs:=(Az t).toArray) (t:=93) (fr:=(0,0)) (aS wt _)) (by simp[Value.oneCell',Az])
                 (by omega) (by unfold maxLen;omega) (by omega) (by simp;have:=W.size;simp at this;omega) (wt.heap.size+1) (by simp) ?_;intro Q F w5 HK AT LE LL;
               have FP:=(AB.alloc _).grown AT (AJ q N (by omega));have H9:=FP.cell 1;have K6:=FP.frozen 1;simp[BO]at H9))
        all_goals
          go_wp2_with fail
          have Jx:=((HB.alloc _).grown AT (AJ q b (by omega))).set_other ⟨N,1,none⟩ (by simp;omega) (.slice (some ⟨Q,0,none⟩) (c.length+1) F)
          have NS:=(HK.lt Q rfl).1
          have K1:=FP.set 1 (.slice (some ⟨Q,0,none⟩) (c.length+1) F)
          have H2:=((((U.drew).kept W (by simp;omega)).alloc _).grown AT (AJ q w.heap.size (by omega))).set_other ⟨N,1,none⟩ (by simp;omega) (.slice (some ⟨Q,0,none⟩) (c.length+1) F)
          have HV:=(((R.drew.trans W).alloc _).grown AT (λk hk=>Or.inr (by have:=(q.lt k hk).1;omega))).setCell (p:=⟨N,1,none⟩) (by simp;omega) (.slice (some ⟨Q,0,none⟩) (c.length+1) F)
          have HX:=Ag HK (p:=⟨N,1,none⟩) (by simp[Value.ownBlock];omega) (.slice (some ⟨Q,0,none⟩) (c.length+1) F)
          clear HK FP H9 K6 AT LE LL Ix MY HW AB HB W q R U u n BA C MB
          refine(C0 b s y g 44 44 _ rfl K M0 Jx).mono ?_
          rintro e w6 ⟨rfl,E,d⟩
          have x:=K1.kept d (by simp;omega)
          have l:=H2.kept d (by simp;omega)
          have AH:=HV.trans d
          have r:=Ad HX d (by simp;omega)
          rw[Z.out.2.2.1]at E
          rw[Z.out.2.1]
          clear Jx K1 H2 HV HX d
          go_wp2_with fail
          go_roundg (2*(s.size-v)+(if(m&& !g)=true then 1 else 0))
          case measure=>exact Z.out.2.2.2.2.2.2.1
          case rel=>
            obtain⟨_,_,_,q1,q2,q3,_,q5⟩:=Z.out
            refine⟨m,g,v,c++[t], .slice (some ⟨Q,0,none⟩) (c.length+1) F,rfl,q1,q2,q3,rfl,q5,E,x,l,?_,AH⟩
            simpa using r
theorem AZ(s:cL)(at_:Nat):Af s (Af s at_)=Af s at_:=by
 fun_induction Af s at_ with
 |case1 at_ h hb ih=>exact ih
 |case2 at_ h hb=>rw[Af];simp[h,hb]
 |case3 at_ h=>rw[Af];simp[h]
structure By where
 kind:UInt8
 A:CQ
 L:AG
 R:AG
 at_:Nat
def CV:AG:=⟨0,ByteArray.empty⟩
def CI:CQ:=⟨ByteArray.empty,[],0⟩
def Bq(x:By)(av:Value):List Value:=[.int .u8 x.kind.toNat, .string x.A.name,av, .int .i64 x.A.at_, .int .u8 x.L.v.toNat, .string x.L.s, .int .u8 x.R.v.toNat, .string x.R.s, .int .i64 x.at_]
def EE(s:cL)(j:Nat):Bool:= !(AW s j false).2.2&&Cz s (As s (AW s j false).2.1 (AW s j false).2.2) 40
def EW(s:cL)(j:Nat):Bool:=if h:j<s.size then Av s[j] else false
def B5(s:cL)(i:Nat):UInt8:=if h:i<s.size then s[i] else 0
def Ke(s:cL)(j a3:Nat)(t:AG)(b2:Bool):By×Nat×Bool:=
 if !b2&&(Cz s a3 61||Cz s a3 35||Cz s a3 60)then
  (⟨B5 s a3,CI,t,(AA s (a3+1) false).1,j⟩,(AA s (a3+1) false).2)
 else(⟨0,CI,t,CV,j⟩,a3,true)
def CU(s:cL)(at_:Nat):By×Nat×Bool:=
 let j:=Af s at_
 if Cz s j 33 then(⟨33,(A4 s (j+1) false).1,CV,CV,j⟩,(A4 s (j+1) false).2)
 else if EW s j&&EE s j then(⟨97,(A4 s j false).1,CV,CV,j⟩,(A4 s j false).2)
 else Ke s j (As s (AA s j false).2.1 (AA s j false).2.2) (AA s j false).1 (AA s j false).2.2
theorem YA(b:Nat)(s:cL)(at_ j:Nat)(w:World)(t:s.size<=1000000)(S:at_<=s.size)(y:Af s at_=j)(l:Cz s j 33=true)(z:Aw w b (AP s at_ false) 73):
  Calls prog 129 #[.pointer (some ⟨b,0,none⟩)] w λe m=>∃x,e= .returned (.agg (Bq ⟨33,(A4 s (j+1) false).1,CV,CV,j⟩ x).toArray)/\
   m.ownsRow w.heap.size 93 2 x (A4 s (j+1) false).1.args.length ((A4 s (j+1) false).1.args.flatMap Az)/\Aw m b (AP s (A4 s (j+1) false).2.1 (A4 s (j+1) false).2.2) 73/\Ac [b] w m:=by
 have FL:=z.lt;have FC:=EL l;have r:As s j false=j:=by rw[<-y];exact AZ s at_
 have C:Bi s j false 33=j+1:=by unfold Bi;rw[r,l];rfl
 have A:(!false&&Cz s (As s j false) 33)=true:=by rw[r,l];rfl
 have n:Hid (Af s at_=j/\Bi s j false 33=j+1/\(!false&&Cz s (As s j false) 33)=true):=⟨y,C,A⟩;clear y l r C A;go_enter func129,ntmps129;go_wp2_with fail
 refine(A1 b s at_ false _ t S (z.alloc _)).mono ?_;rintro e B ⟨rfl,g,o⟩;rw[show As s at_ false=j from n.out.1]at g
 have v:=(Aw.new w _ _).kept o (by simp;omega);have I:=((Ac.refl [b] w).alloc _).trans o;clear z o;have EK:=g.lt;have Q:=v.lt;have K:=g.cell 1;simp[AP]at K;go_wp2_with fail
 refine(C0 b s j false 33 33 _ rfl t (by omega) (g.alloc _)).mono ?_;rintro e w2 ⟨rfl,u,i⟩;rw[n.out.2.1]at u;rw[n.out.2.2];have d:=(Aw.new B _ _).kept i (by simp;omega);have F:=(v.alloc _).kept i (by simp;omega);have D:=(I.alloc _).trans i;obtain⟨N,J⟩:∃N,B.heap.size=N:=⟨_,rfl⟩;rw[J]at d⊢;have FA:b<N:=by omega
 have FT:w.heap.size<N:=by omega
 clear I g v EK Q K i J;have G:=d.cell 0;have R:=d.frozen 0;simp at G;go_wp2_with fail
 refine(Hc b s (j+1) false _ t (by omega) (u.set_other _ (by simp;omega) _)).mono ?_;rintro e w3 ⟨x,rfl,h,EX,f⟩;have E:=(d.set 0 _).kept f (by simp;omega);have q:=(F.set_other _ (by simp;omega) _).kept f (by simp;omega);have T:=f.size;have FO:=d.lt;simp only[World.size_setCell]at T h;have Ax:=(D.setCell (p:=⟨N,0,none⟩) (by simp;omega) _).trans f;clear u d F D f G R;obtain⟨ad,FP,rfl⟩:=BI h;have a:=E.cell;have FF:=E.frozen;have c:=q.cell;have Ha:=q.frozen;simp only[BO];have L:=a 0;have e1:=a 1;have Z:=a 2;have e3:=a 3;have e4:=a 4;have M:=a 5;have Y:=a 6;have P:=a 7;have e8:=a 8;have U:=c 0;have X:=c 1;have f2:=c 2;have f3:=c 3;have f4:=c 4;have f5:=c 5;have f6:=c 6;have V:=c 7;have O:=c 8;simp at L e1 Z e3 e4 M Y P e8 U X f2 f3 f4 f5 f6 V O;clear a c;go_wp2;have H:=λk W=>AJ h k W
 refine aE (AY rfl rfl ((((((((((((q.set_other _ (by simp;omega) _).set_other _ (by simp;omega) _).set_other _ (by simp;omega) _).set 0 _).set 1 _).set 2 _).set 3 _).set 4 _).set 5 _).set 6 _).set 7 _).set 8 _) underlying95 rfl (by kernel_rfl)) rfl ⟨_,rfl,?_,?_,?_⟩
 ·repeat (refine Ag ?_ (by have:=H w.heap.size (by omega);have:=H N (by omega);assumption) _)
  exact Ai h (by omega)
 ·repeat (refine Aw.set_other ?_ _ (by simp;omega) _)
  exact EX
 ·repeat (refine Ac.setCell ?_ (by simp;try omega) _)
  exact Ax
theorem X6(b:Nat)(s:cL)(at_ j:Nat)(w:World)(n:s.size<=1000000)(AT:at_<=s.size)(C:Af s at_=j)(B:Cz s j 33=false)(HO:j<s.size)(hl:Av s[j]=true)(ho:Hid (EE s j=true))(G:Aw w b (AP s at_ false) 73):
  Calls prog 129 #[.pointer (some ⟨b,0,none⟩)] w λe J=>∃F,e= .returned (.agg (Bq ⟨97,(A4 s j false).1,CV,CV,j⟩ F).toArray)/\
   J.ownsRow w.heap.size 93 2 F (A4 s j false).1.args.length ((A4 s j false).1.args.flatMap Az)/\Aw J b (AP s (A4 s j false).2.1 (A4 s j false).2.2) 73/\Ac [b] w J:=by
 have HU:=G.lt;have H1:j<=s.size:=by have:=AN s at_ AT;omega
 have A:As s j false=j:=by rw[<-C];exact AZ s at_
 have S:Bi s j false 33=j:=by unfold Bi;rw[A,B];rfl
 have R:(!false&&Cz s (As s j false) 33)=false:=by rw[A,B];rfl
 have y:Hid (Af s at_=j/\Bi s j false 33=j/\(!false&&Cz s (As s j false) 33)=false):=⟨C,S,R⟩;clear C B A S R;go_enter func129,ntmps129;go_wp2_with fail
 refine(A1 b s at_ false _ n AT (G.alloc _)).mono ?_;rintro e w1 ⟨rfl,i,K⟩;rw[show As s at_ false=j from y.out.1]at i
 have M:=(Aw.new w _ _).kept K (by simp;omega);have Q:=((Ac.refl [b] w).alloc _).trans K;clear G K;have HM:=i.lt;have EK:=M.lt;have r:=i.cell 1;simp[AP]at r;go_wp2_with fail
 refine(C0 b s j false 33 33 _ rfl n (by omega) (i.alloc _)).mono ?_;rintro e O ⟨rfl,f,z⟩;rw[y.out.2.1]at f;rw[y.out.2.2];have t:=(Aw.new w1 _ _).kept z (by simp;omega);have L:=(M.alloc _).kept z (by simp;omega);have v:=(Q.alloc _).trans z;obtain⟨N,hN⟩:∃N,w1.heap.size=N:=⟨_,rfl⟩;rw[hN]at t⊢;have HR:b<N:=by omega
 have H4:w.heap.size<N:=by omega
 clear Q i M HM EK r z hN y;have HV:=t.lt;have H0:=f.lt;have HQ:=L.lt;have Y:=f.cell 0;have r:=f.cell 1;have W:=f.cell 2;simp[AP]at Y r W;have H2:(j:Int)<(s.size:Int):=by omega
 obtain⟨D,g,d,u⟩:∃D g d,AW s j false=(D,g,d):=⟨_,_,_,rfl⟩;have FL:g<=s.size:=by have:=Dq s j false (by omega);rw[u]at this;exact this
 have X:(!d&&Cz s (As s g d) 40)=true:=by have h:=ho.out;unfold EE at h;rw[u]at h;exact h
 have E:Hid (AW s j false=(D,g,d)/\(!d&&Cz s (As s g d) 40)=true):=⟨u,X⟩;clear u X;go_wp2_with fail
 go_quiet ((go_at_call 169;exact bu (B1 _ s[j] _ rfl)))
 go_wp2_with fail
 go_region
 go_wp2_with fail
 refine(EP O.heap.size s j false _ n (by omega) (Aw.new (O.drewN _) (AP s j false) 73)).mono ?_;rintro e w3 ⟨rfl,H,o⟩;rw[E.out.1]at H⊢;have V:=((f.drewN _).alloc _).kept o (by simp;omega);have Z:=((t.drewN _).alloc _).kept o (by simp;omega);have T:=((L.drewN _).alloc _).kept o (by simp;omega);have U:=((v.drewN _).alloc _).trans' o (by have:=v.size;simp;omega);clear f t L o Y r W;simp only;go_wp2_with fail
 refine(FG O.heap.size s g d 40 40 _ rfl n FL H).mono ?_;rintro e w4 ⟨rfl,_,l⟩;have BT:=V.kept l (by simp;omega);have q:=Z.kept l (by simp;omega);have AB:=T.kept l (by simp;omega);have BA:=U.trans' l (by have:=v.size;simp;omega);rw[E.out.2];clear V Z T U l H E v;have P:=q.cell 0;have Ha:=q.frozen 0;simp at P;have HN:=q.lt;go_wp2_with fail
 refine(Hc b s j false _ n (by omega) (BT.set_other _ (by simp;omega) _)).mono ?_;rintro e w5 ⟨F,rfl,x,HH,m⟩;have Bx:=(q.set 0 _).kept m (by simp;omega);have I:=(AB.set_other _ (by simp;omega) _).kept m (by simp;omega);have HE:=m.size;simp only[World.size_setCell]at HE x;have CL:=(BA.setCell (p:=⟨N,0,none⟩) (by simp;omega) _).trans m;clear BT q AB BA m P Ha;obtain⟨ad,H3,rfl⟩:=BI x;have a:=Bx.cell;have HS:=Bx.frozen;have c:=I.cell;have HZ:=I.frozen;simp only[BO];have e0:=a 0;have e1:=a 1;have e2:=a 2;have e3:=a 3;have e4:=a 4;have e5:=a 5;have e6:=a 6;have e7:=a 7;have e8:=a 8;have f0:=c 0;have f1:=c 1;have f2:=c 2;have f3:=c 3;have f4:=c 4;have f5:=c 5;have f6:=c 6;have f7:=c 7;have f8:=c 8;simp at e0 e1 e2 e3 e4 e5 e6 e7 e8 f0 f1 f2 f3 f4 f5 f6 f7 f8;clear a c;go_wp2;have Ax:=λk hk=>AJ x k hk
 refine aE (AY rfl rfl ((((((((((((I.set_other _ (by simp;omega) _).set_other _ (by simp;omega) _).set_other _ (by simp;omega) _).set 0 _).set 1 _).set 2 _).set 3 _).set 4 _).set 5 _).set 6 _).set 7 _).set 8 _) underlying95 rfl (by kernel_rfl)) rfl ⟨_,rfl,?_,?_,?_⟩
 ·repeat (refine Ag ?_ (by have:=Ax w.heap.size (by omega);have:=Ax N (by omega);assumption) _)
  exact Ai x (by omega)
 ·repeat (refine Aw.set_other ?_ _ (by simp;omega) _)
  exact HH
 ·repeat (refine Ac.setCell ?_ (by simp;try omega) _)
  exact CL
theorem LA(s:cL)(j a:Nat)(t:AG):Ke s j a t true=(⟨0,CI,t,CV,j⟩,a,true):=by simp[Ke]
theorem Yn{s:cL}{i:Nat}(h:¬i<s.size)(c:UInt8):Cz s i c=false:=by simp[Cz,h]
theorem P1{s:cL}{j a:Nat}{t:AG}(h:¬a<s.size):Ke s j a t false=(⟨0,CI,t,CV,j⟩,a,true):=by simp[Ke,Yn h]
theorem G0{s:cL}{i:Nat}(h:i<s.size)(c:UInt8):Cz s i c=((s[i].toNat:Int)==(c.toNat:Int)):=by rw[B8];simp[Cz,h]
theorem O5{s:cL}{j a:Nat}{t:AG}(h:a<s.size)(b:((s[a].toNat:Int)==61)=false)(c:((s[a].toNat:Int)==35)=false)(d:((s[a].toNat:Int)==60)=false):
  Ke s j a t false=(⟨0,CI,t,CV,j⟩,a,true):=by
 unfold Ke;rw[G0 h 61,G0 h 35,G0 h 60];rw[show((s[a].toNat:Int)==((61:UInt8).toNat:Int))=false from b,show((s[a].toNat:Int)==((35:UInt8).toNat:Int))=false from c,show((s[a].toNat:Int)==((60:UInt8).toNat:Int))=false from d]
 rfl
theorem JH{s:cL}{j a:Nat}{t:AG}(h:a<s.size)(b:((s[a].toNat:Int)==61)=true\/((s[a].toNat:Int)==35)=true\/((s[a].toNat:Int)==60)=true):
  Ke s j a t false=(⟨s[a],CI,t,(AA s (a+1) false).1,j⟩,(AA s (a+1) false).2):=by
 unfold Ke B5;rw[G0 h 61,G0 h 35,G0 h 60,dif_pos h];rw[if_pos];simp only[bG,cn,bN];rcases b with b|b|b
 ·exact Or.inl (Or.inl b)
 ·exact Or.inl (Or.inr b)
 ·exact Or.inr b
theorem Vm(b:Nat)(s:cL)(at_ j:Nat)(w:World)(t:AG)(q W:Nat)(l:s.size<=1000000)(FC:at_<=s.size)(P:Af s at_=j)(O:Cz s j 33=false)(HY:j<s.size)(hl:Av s[j]=true)(ho:Hid (EE s j=false))
  (G:Hid (AA s j false=(t,q,true)/\As s q true=W)) (S:Aw w b (AP s at_ false) 73):
  Calls prog 129 #[.pointer (some ⟨b,0,none⟩)] w λe U=>∃av,e= .returned (.agg (Bq ⟨0,CI,t,CV,j⟩ av).toArray)/\
   U.ownsRow w.heap.size 93 2 av 0 []/\Aw U b (AP s W true) 73/\Ac [b] w U:=by
 have H6:=S.lt;have KK:j<=s.size:=by have:=AN s at_ FC;omega
 have M:As s j false=j:=by rw[<-P];exact AZ s at_
 have BA:Bi s j false 33=j:=by unfold Bi;rw[M,O];rfl
 have Bx:(!false&&Cz s (As s j false) 33)=false:=by rw[M,O];rfl
 have J:Hid (Af s at_=j/\Bi s j false 33=j/\(!false&&Cz s (As s j false) 33)=false):=⟨P,BA,Bx⟩;clear P O M BA Bx;go_enter func129,ntmps129;go_wp2_with fail
 refine(A1 b s at_ false _ l FC (S.alloc _)).mono ?_;rintro e w1 ⟨rfl,m,V⟩;rw[show As s at_ false=j from J.out.1]at m
 have hn:=(Aw.new w _ _).kept V (by simp;omega);have AT:=((Ac.refl [b] w).alloc _).trans V;clear S V;have HQ:=m.lt;have FP:=hn.lt;have k:=m.cell 1;simp[AP]at k;go_wp2_with fail
 refine(C0 b s j false 33 33 _ rfl l (by omega) (m.alloc _)).mono ?_;rintro e w2 ⟨rfl,f,K⟩;rw[J.out.2.1]at f;rw[J.out.2.2];have u:=(Aw.new w1 _ _).kept K (by simp;omega);have Z:=(hn.alloc _).kept K (by simp;omega);have D:=(AT.alloc _).trans K;obtain⟨N,hN⟩:∃N,w1.heap.size=N:=⟨_,rfl⟩;rw[hN]at u⊢;have H3:b<N:=by omega
 have K1:w.heap.size<N:=by omega
 clear AT m hn HQ FP k K hN J;have H7:=u.lt;have JJ:=f.lt;have H1:=Z.lt;have C:=f.cell 0;have k:=f.cell 1;have z:=f.cell 2;simp[AP]at C k z;have KS:(j:Int)<(s.size:Int):=by omega
 obtain⟨Q,i,d,A⟩:∃Q i d,AW s j false=(Q,i,d):=⟨_,_,_,rfl⟩;have HH:i<=s.size:=by have:=Dq s j false (by omega);rw[A]at this;exact this
 have CL:(!d&&Cz s (As s i d) 40)=false:=by have h:=ho.out;unfold EE at h;rw[A]at h;exact h
 have R:Hid (AW s j false=(Q,i,d)/\(!d&&Cz s (As s i d) 40)=false):=⟨A,CL⟩;clear A CL;go_wp2_with fail
 go_quiet ((go_at_call 169;exact bu (B1 _ s[j] _ rfl)))
 go_wp2_with fail
 go_region
 go_wp2_with fail
 refine(EP w2.heap.size s j false _ l (by omega) (Aw.new (w2.drewN _) (AP s j false) 73)).mono ?_;rintro e w3 ⟨rfl,T,o⟩;rw[R.out.1]at T⊢;have CC:=((f.drewN _).alloc _).kept o (by simp;omega);have EY:=((u.drewN _).alloc _).kept o (by simp;omega);have BT:=((Z.drewN _).alloc _).kept o (by simp;omega);have B9:=((D.drewN _).alloc _).trans' o (by have:=D.size;simp;omega);clear f u Z o C k z;simp only;go_wp2_with fail
 refine(FG w2.heap.size s i d 40 40 _ rfl l HH T).mono ?_;rintro e w4 ⟨rfl,_,n⟩;have L:=CC.kept n (by simp;omega);have I:=EY.kept n (by simp;omega);have H:=BT.kept n (by simp;omega);have Y:=B9.trans' n (by have:=D.size;simp;omega);rw[R.out.2];clear CC EY BT B9 n T R D;have HV:=I.lt;have HS:=L.lt;have Ix:=H.lt;have FF:q<=s.size:=by have:=BK s j false (by omega);rw[G.out.1]at this;exact this
 have HZ:W<=s.size:=by have:=B2 s q true FF;rw[G.out.2]at this;exact this
 go_wp2_with fail
 refine(BQ b s j false _ l (by omega) (by first|exact L|exact L.drewN _)).mono ?_;rintro e w5 ⟨rfl,X,y⟩;rw[G.out.1]at X⊢;have r:=Aw.kept (by first|exact I|exact I.drewN _) y (by simp;omega);have EX:=Aw.kept (by first|exact H|exact H.drewN _) y (by simp;omega);have AH:=Ac.trans (by first|exact Y|exact Y.drewN _) y;clear L I H Y y;have F:=r.cell 4;have B:=r.cell 5;have HF:=r.frozen;simp at F B;simp only[Az];go_wp2_with fail
 refine(A1 b s q true _ l FF ((X.set_other _ (by simp;omega) _).set_other _ (by simp;omega) _)).mono ?_;rintro e w6 ⟨rfl,g,x⟩;rw[G.out.2]at g;have v:=((r.set 4 _).set 5 _).kept x (by simp;omega);have E:=((EX.set_other _ (by simp;omega) _).set_other _ (by simp;omega) _).kept x (by simp;omega);have HD:=((AH.setCell (p:=⟨N,4,none⟩) (by simp;omega) _).setCell (p:=⟨N,5,none⟩) (by simp;omega) _).trans x;clear X r EX AH x F B HF;simp only[Z4,Z5]at v;have HU:=g.lt;have H8:=E.lt;have HR:=v.lt;have C:=g.cell 0;have k:=g.cell 1;have z:=g.cell 2;have HX:=g.frozen;simp[AP]at C k z;go_wp2_with fail
 go_quiet (fail)
 have a:=v.cell;have H4:=v.frozen;have c:=E.cell;have Jx:=E.frozen;have e0:=a 0;have e1:=a 1;have e2:=a 2;have e3:=a 3;have F:=a 4;have B:=a 5;have e6:=a 6;have e7:=a 7;have e8:=a 8;have f0:=c 0;have f1:=c 1;have f2:=c 2;have f3:=c 3;have f4:=c 4;have f5:=c 5;have f6:=c 6;have f7:=c 7;have f8:=c 8;simp at e0 e1 e2 e3 F B e6 e7 e8 f0 f1 f2 f3 f4 f5 f6 f7 f8;clear a c;go_wp2;refine aE (AY rfl rfl (((((((((((E.drewN _).set_other _ (by simp;omega) _).set 0 _).set 1 _).set 2 _).set 3 _).set 4 _).set 5 _).set 6 _).set 7 _).set 8 _) underlying95 rfl (by kernel_rfl)) rfl ⟨_,rfl,ax _ _ _ _,?_,?_⟩
 ·repeat (refine Aw.set_other ?_ _ (by simp;omega) _)
  exact(g.drewN _).set 2 _
 ·repeat (refine Ac.setCell ?_ (by simp;try omega) _)
  exact HD.drewN _
theorem VQ(b:Nat)(s:cL)(at_ j:Nat)(w:World)(t:AG)(r m:Nat)(l:s.size<=1000000)(FC:at_<=s.size)(Q:Af s at_=j)(P:Cz s j 33=false)(HY:j<s.size)(hl:Av s[j]=true)(ho:Hid (EE s j=false))(JJ:¬m<s.size)
  (H:Hid (AA s j false=(t,r,false)/\As s r false=m)) (T:Aw w b (AP s at_ false) 73):
  Calls prog 129 #[.pointer (some ⟨b,0,none⟩)] w λe V=>∃av,e= .returned (.agg (Bq ⟨0,CI,t,CV,j⟩ av).toArray)/\
   V.ownsRow w.heap.size 93 2 av 0 []/\Aw V b (AP s m true) 73/\Ac [b] w V:=by
 have H7:=T.lt;have K1:j<=s.size:=by have:=AN s at_ FC;omega
 have O:As s j false=j:=by rw[<-Q];exact AZ s at_
 have BA:Bi s j false 33=j:=by unfold Bi;rw[O,P];rfl
 have Bx:(!false&&Cz s (As s j false) 33)=false:=by rw[O,P];rfl
 have K:Hid (Af s at_=j/\Bi s j false 33=j/\(!false&&Cz s (As s j false) 33)=false):=⟨Q,BA,Bx⟩;clear Q P O BA Bx;go_enter func129,ntmps129;go_wp2_with fail
 refine(A1 b s at_ false _ l FC (T.alloc _)).mono ?_;rintro e w1 ⟨rfl,n,W⟩;rw[show As s at_ false=j from K.out.1]at n
 have hn:=(Aw.new w _ _).kept W (by simp;omega);have AT:=((Ac.refl [b] w).alloc _).trans W;clear T W;have HQ:=n.lt;have FP:=hn.lt;have k:=n.cell 1;simp[AP]at k;go_wp2_with fail
 refine(C0 b s j false 33 33 _ rfl l (by omega) (n.alloc _)).mono ?_;rintro e w2 ⟨rfl,f,L⟩;rw[K.out.2.1]at f;rw[K.out.2.2];have v:=(Aw.new w1 _ _).kept L (by simp;omega);have Z:=(hn.alloc _).kept L (by simp;omega);have E:=(AT.alloc _).trans L;obtain⟨N,hN⟩:∃N,w1.heap.size=N:=⟨_,rfl⟩;rw[hN]at v⊢;have H3:b<N:=by omega
 have K3:w.heap.size<N:=by omega
 clear AT n hn HQ FP k L hN K;have H8:=v.lt;have KS:=f.lt;have H1:=Z.lt;have D:=f.cell 0;have k:=f.cell 1;have A:=f.cell 2;simp[AP]at D k A;have K2:(j:Int)<(s.size:Int):=by omega
 obtain⟨R,i,d,B⟩:∃R i d,AW s j false=(R,i,d):=⟨_,_,_,rfl⟩;have HH:i<=s.size:=by have:=Dq s j false (by omega);rw[B]at this;exact this
 have CL:(!d&&Cz s (As s i d) 40)=false:=by have h:=ho.out;unfold EE at h;rw[B]at h;exact h
 have S:Hid (AW s j false=(R,i,d)/\(!d&&Cz s (As s i d) 40)=false):=⟨B,CL⟩;clear B CL;go_wp2_with fail
 go_quiet ((go_at_call 169;exact bu (B1 _ s[j] _ rfl)))
 go_wp2_with fail
 go_region
 go_wp2_with fail
 refine(EP w2.heap.size s j false _ l (by omega) (Aw.new (w2.drewN _) (AP s j false) 73)).mono ?_;rintro e w3 ⟨rfl,U,q⟩;rw[S.out.1]at U⊢;have CC:=((f.drewN _).alloc _).kept q (by simp;omega);have EY:=((v.drewN _).alloc _).kept q (by simp;omega);have BT:=((Z.drewN _).alloc _).kept q (by simp;omega);have B9:=((E.drewN _).alloc _).trans' q (by have:=E.size;simp;omega);clear f v Z q D k A;simp only;go_wp2_with fail
 refine(FG w2.heap.size s i d 40 40 _ rfl l HH U).mono ?_;rintro e w4 ⟨rfl,_,o⟩;have M:=CC.kept o (by simp;omega);have J:=EY.kept o (by simp;omega);have I:=BT.kept o (by simp;omega);have Y:=B9.trans' o (by have:=E.size;simp;omega);rw[S.out.2];clear CC EY BT B9 o U S E;have HV:=J.lt;have HS:=M.lt;have Jx:=I.lt;have FF:r<=s.size:=by have:=BK s j false (by omega);rw[H.out.1]at this;exact this
 have HZ:m<=s.size:=by have:=B2 s r false FF;rw[H.out.2]at this;exact this
 go_wp2_with fail
 refine(BQ b s j false _ l (by omega) (by first|exact M|exact M.drewN _)).mono ?_;rintro e w5 ⟨rfl,X,z⟩;rw[H.out.1]at X⊢;have u:=Aw.kept (by first|exact J|exact J.drewN _) z (by simp;omega);have EX:=Aw.kept (by first|exact I|exact I.drewN _) z (by simp;omega);have AH:=Ac.trans (by first|exact Y|exact Y.drewN _) z;clear M J I Y z;have G:=u.cell 4;have C:=u.cell 5;have HF:=u.frozen;simp at G C;simp only[Az];go_wp2_with fail
 refine(A1 b s r false _ l FF ((X.set_other _ (by simp;omega) _).set_other _ (by simp;omega) _)).mono ?_;rintro e w6 ⟨rfl,g,y⟩;rw[H.out.2]at g;have x:=((u.set 4 _).set 5 _).kept y (by simp;omega);have F:=((EX.set_other _ (by simp;omega) _).set_other _ (by simp;omega) _).kept y (by simp;omega);have HD:=((AH.setCell (p:=⟨N,4,none⟩) (by simp;omega) _).setCell (p:=⟨N,5,none⟩) (by simp;omega) _).trans y;clear X u EX AH y G C HF;simp only[Z4,Z5]at x;have HU:=g.lt;have H9:=F.lt;have HR:=x.lt;have D:=g.cell 0;have k:=g.cell 1;have A:=g.cell 2;have HX:=g.frozen;simp[AP]at D k A;have H6:decide ((s.size:Int)<=(m:Int))=true:=by simp;omega
 have K4:decide (s.size<=m)=true:=by simp;omega
 go_wp2_with fail
 go_quiet (fail)
 have a:=x.cell;have H4:=x.frozen;have c:=F.cell;have KK:=F.frozen;have e0:=a 0;have e1:=a 1;have e2:=a 2;have e3:=a 3;have G:=a 4;have C:=a 5;have e6:=a 6;have e7:=a 7;have e8:=a 8;have f0:=c 0;have f1:=c 1;have f2:=c 2;have f3:=c 3;have f4:=c 4;have f5:=c 5;have f6:=c 6;have f7:=c 7;have f8:=c 8;simp at e0 e1 e2 e3 G C e6 e7 e8 f0 f1 f2 f3 f4 f5 f6 f7 f8;clear a c;go_wp2;refine aE (AY rfl rfl (((((((((((F.drewN _).set_other _ (by simp;omega) _).set 0 _).set 1 _).set 2 _).set 3 _).set 4 _).set 5 _).set 6 _).set 7 _).set 8 _) underlying95 rfl (by kernel_rfl)) rfl ⟨_,rfl,ax _ _ _ _,?_,?_⟩
 ·repeat (refine Aw.set_other ?_ _ (by simp;omega) _)
  exact(g.drewN _).set 2 _
 ·repeat (refine Ac.setCell ?_ (by simp;try omega) _)
  exact HD.drewN _
theorem Wq(b:Nat)(s:cL)(at_ j:Nat)(w:World)(t:AG)(r a:Nat)(m:s.size<=1000000)(FC:at_<=s.size)(Q:Af s at_=j)(P:Cz s j 33=false)(H2:j<s.size)(hl:Av s[j]=true)(ho:Hid (EE s j=false))(K5:a<s.size)(k1:((s[a].toNat:Int)==61)=false)(k2:((s[a].toNat:Int)==35)=false)(k3:((s[a].toNat:Int)==60)=false)
  (H:Hid (AA s j false=(t,r,false)/\As s r false=a)) (T:Aw w b (AP s at_ false) 73):
  Calls prog 129 #[.pointer (some ⟨b,0,none⟩)] w λe V=>∃av,e= .returned (.agg (Bq ⟨0,CI,t,CV,j⟩ av).toArray)/\
   V.ownsRow w.heap.size 93 2 av 0 []/\Aw V b (AP s a true) 73/\Ac [b] w V:=by
 have JJ:=T.lt;have K7:j<=s.size:=by have:=AN s at_ FC;omega
 have O:As s j false=j:=by rw[<-Q];exact AZ s at_
 have BA:Bi s j false 33=j:=by unfold Bi;rw[O,P];rfl
 have Bx:(!false&&Cz s (As s j false) 33)=false:=by rw[O,P];rfl
 have K:Hid (Af s at_=j/\Bi s j false 33=j/\(!false&&Cz s (As s j false) 33)=false):=⟨Q,BA,Bx⟩;clear Q P O BA Bx;go_enter func129,ntmps129;go_wp2_with fail
 refine(A1 b s at_ false _ m FC (T.alloc _)).mono ?_;rintro e w1 ⟨rfl,n,W⟩;rw[show As s at_ false=j from K.out.1]at n
 have hn:=(Aw.new w _ _).kept W (by simp;omega);have AT:=((Ac.refl [b] w).alloc _).trans W;clear T W;have HU:=n.lt;have FP:=hn.lt;have l:=n.cell 1;simp[AP]at l;go_wp2_with fail
 refine(C0 b s j false 33 33 _ rfl m (by omega) (n.alloc _)).mono ?_;rintro e w2 ⟨rfl,g,L⟩;rw[K.out.2.1]at g;rw[K.out.2.2];have v:=(Aw.new w1 _ _).kept L (by simp;omega);have Z:=(hn.alloc _).kept L (by simp;omega);have E:=(AT.alloc _).trans L;obtain⟨N,hN⟩:∃N,w1.heap.size=N:=⟨_,rfl⟩;rw[hN]at v⊢;have H7:b<N:=by omega
 have K9:w.heap.size<N:=by omega
 clear AT n hn HU FP l L hN K;have KK:=v.lt;have K4:=g.lt;have H5:=Z.lt;have D:=g.cell 0;have l:=g.cell 1;have A:=g.cell 2;simp[AP]at D l A;have K8:(j:Int)<(s.size:Int):=by omega
 obtain⟨R,k,f,B⟩:∃R k f,AW s j false=(R,k,f):=⟨_,_,_,rfl⟩;have HK:k<=s.size:=by have:=Dq s j false (by omega);rw[B]at this;exact this
 have CL:(!f&&Cz s (As s k f) 40)=false:=by have h:=ho.out;unfold EE at h;rw[B]at h;exact h
 have S:Hid (AW s j false=(R,k,f)/\(!f&&Cz s (As s k f) 40)=false):=⟨B,CL⟩;clear B CL;go_wp2_with fail
 go_quiet ((go_at_call 169;exact bu (B1 _ s[j] _ rfl)))
 go_wp2_with fail
 go_region
 go_wp2_with fail
 refine(EP w2.heap.size s j false _ m (by omega) (Aw.new (w2.drewN _) (AP s j false) 73)).mono ?_;rintro e w3 ⟨rfl,U,q⟩;rw[S.out.1]at U⊢;have CC:=((g.drewN _).alloc _).kept q (by simp;omega);have EY:=((v.drewN _).alloc _).kept q (by simp;omega);have BT:=((Z.drewN _).alloc _).kept q (by simp;omega);have B9:=((E.drewN _).alloc _).trans' q (by have:=E.size;simp;omega);clear g v Z q D l A;simp only;go_wp2_with fail
 refine(FG w2.heap.size s k f 40 40 _ rfl m HK U).mono ?_;rintro e w4 ⟨rfl,_,o⟩;have M:=CC.kept o (by simp;omega);have J:=EY.kept o (by simp;omega);have I:=BT.kept o (by simp;omega);have Y:=B9.trans' o (by have:=E.size;simp;omega);rw[S.out.2];clear CC EY BT B9 o U S E;have H0:=J.lt;have HY:=M.lt;have K2:=I.lt;have FF:r<=s.size:=by have:=BK s j false (by omega);rw[H.out.1]at this;exact this
 have H3:a<=s.size:=by have:=B2 s r false FF;rw[H.out.2]at this;exact this
 go_wp2_with fail
 refine(BQ b s j false _ m (by omega) (by first|exact M|exact M.drewN _)).mono ?_;rintro e w5 ⟨rfl,X,z⟩;rw[H.out.1]at X⊢;have u:=Aw.kept (by first|exact J|exact J.drewN _) z (by simp;omega);have EX:=Aw.kept (by first|exact I|exact I.drewN _) z (by simp;omega);have AH:=Ac.trans (by first|exact Y|exact Y.drewN _) z;clear M J I Y z;have G:=u.cell 4;have C:=u.cell 5;have HG:=u.frozen;simp at G C;simp only[Az];go_wp2_with fail
 refine(A1 b s r false _ m FF ((X.set_other _ (by simp;omega) _).set_other _ (by simp;omega) _)).mono ?_;rintro e w6 ⟨rfl,i,y⟩;rw[H.out.2]at i;have x:=((u.set 4 _).set 5 _).kept y (by simp;omega);have F:=((EX.set_other _ (by simp;omega) _).set_other _ (by simp;omega) _).kept y (by simp;omega);have HE:=((AH.setCell (p:=⟨N,4,none⟩) (by simp;omega) _).setCell (p:=⟨N,5,none⟩) (by simp;omega) _).trans y;clear X u EX AH y G C HG;simp only[Z4,Z5]at x;have HZ:=i.lt;have KS:=F.lt;have HX:=x.lt;have D:=i.cell 0;have l:=i.cell 1;have A:=i.cell 2;have H1:=i.frozen;simp[AP]at D l A;have HV:(a:Int)<(s.size:Int):=by omega
 have Ix:decide ((s.size:Int)<=(a:Int))=false:=by simp;omega
 have LC:decide (s.size<=a)=false:=by simp;omega
 have LB:((s[a].toNat:Int) !=61)=true:=by simp only[bne,k1];rfl
 have K6:((s[a].toNat:Int) !=35)=true:=by simp only[bne,k2];rfl
 have Jx:((s[a].toNat:Int) !=60)=true:=by simp only[bne,k3];rfl
 go_wp2_with fail
 go_quiet (fail)
 have c:=x.cell;have H8:=x.frozen;have d:=F.cell;have K3:=F.frozen;have e0:=c 0;have e1:=c 1;have e2:=c 2;have e3:=c 3;have G:=c 4;have C:=c 5;have e6:=c 6;have e7:=c 7;have e8:=c 8;have f0:=d 0;have f1:=d 1;have f2:=d 2;have f3:=d 3;have f4:=d 4;have f5:=d 5;have f6:=d 6;have f7:=d 7;have f8:=d 8;simp at e0 e1 e2 e3 G C e6 e7 e8 f0 f1 f2 f3 f4 f5 f6 f7 f8;clear c d;go_wp2;refine aE (AY rfl rfl (((((((((((F.drewN _).set_other _ (by simp;omega) _).set 0 _).set 1 _).set 2 _).set 3 _).set 4 _).set 5 _).set 6 _).set 7 _).set 8 _) underlying95 rfl (by kernel_rfl)) rfl ⟨_,rfl,ax _ _ _ _,?_,?_⟩
 ·repeat (refine Aw.set_other ?_ _ (by simp;omega) _)
  exact(i.drewN _).set 2 _
 ·repeat (refine Ac.setCell ?_ (by simp;try omega) _)
  exact HE.drewN _
theorem VB(b:Nat)(s:cL)(at_ j:Nat)(w:World)(t:AG)(y a:Nat)(k:s.size<=1000000)(FW:at_<=s.size)(S:Af s at_=j)(R:Cz s j 33=false)(Ix:j<s.size)(hl:Av s[j]=true)(ho:Hid (EE s j=false))(LB:a<s.size)(q1:((s[a].toNat:Int)==61)=true)
  (J:Hid (AA s j false=(t,y,false)/\As s y false=a)) (V:Aw w b (AP s at_ false) 73):
  Calls prog 129 #[.pointer (some ⟨b,0,none⟩)] w λe o=>∃av,e= .returned (.agg (Bq ⟨s[a],CI,t,(AA s (a+1) false).1,j⟩ av).toArray)/\
   o.ownsRow w.heap.size 93 2 av 0 []/\Aw o b (AP s (AA s (a+1) false).2.1 (AA s (a+1) false).2.2) 73/\Ac [b] w o:=by
 have K4:=V.lt;have LE:j<=s.size:=by have:=AN s at_ FW;omega
 have Q:As s j false=j:=by rw[<-S];exact AZ s at_
 have CC:Bi s j false 33=j:=by unfold Bi;rw[Q,R];rfl
 have B9:(!false&&Cz s (As s j false) 33)=false:=by rw[Q,R];rfl
 have M:Hid (Af s at_=j/\Bi s j false 33=j/\(!false&&Cz s (As s j false) 33)=false):=⟨S,CC,B9⟩;clear S R Q CC B9;go_enter func129,ntmps129;go_wp2_with fail
 refine(A1 b s at_ false _ k FW (V.alloc _)).mono ?_;rintro e w1 ⟨rfl,q,Y⟩;rw[show As s at_ false=j from M.out.1]at q
 have hn:=(Aw.new w _ _).kept Y (by simp;omega);have BT:=((Ac.refl [b] w).alloc _).trans Y;clear V Y;have H0:=q.lt;have HB:=hn.lt;have i:=q.cell 1;simp[AP]at i;go_wp2_with fail
 refine(C0 b s j false 33 33 _ rfl k (by omega) (q.alloc _)).mono ?_;rintro e w2 ⟨rfl,l,O⟩;rw[M.out.2.1]at l;rw[M.out.2.2];have B:=(Aw.new w1 _ _).kept O (by simp;omega);have AH:=(hn.alloc _).kept O (by simp;omega);have G:=(BT.alloc _).trans O;obtain⟨N,hN⟩:∃N,w1.heap.size=N:=⟨_,rfl⟩;rw[hN]at B⊢;have K1:b<N:=by omega
 have LM:w.heap.size<N:=by omega
 clear BT q hn H0 HB i O hN M;have K5:=B.lt;have LC:=l.lt;have KK:=AH.lt;have v:=l.cell 0;have i:=l.cell 1;have u:=l.cell 2;simp[AP]at v i u;have LL:(j:Int)<(s.size:Int):=by omega
 obtain⟨T,m,f,E⟩:∃T m f,AW s j false=(T,m,f):=⟨_,_,_,rfl⟩;have HO:m<=s.size:=by have:=Dq s j false (by omega);rw[E]at this;exact this
 have FC:(!f&&Cz s (As s m f) 40)=false:=by have h:=ho.out;unfold EE at h;rw[E]at h;exact h
 have U:Hid (AW s j false=(T,m,f)/\(!f&&Cz s (As s m f) 40)=false):=⟨E,FC⟩;clear E FC;go_wp2_with fail
 go_quiet ((go_at_call 169;exact bu (B1 _ s[j] _ rfl)))
 go_wp2_with fail
 go_region
 go_wp2_with fail
 refine(EP w2.heap.size s j false _ k (by omega) (Aw.new (w2.drewN _) (AP s j false) 73)).mono ?_;rintro e w3 ⟨rfl,W,x⟩;rw[U.out.1]at W⊢;have FA:=((l.drewN _).alloc _).kept x (by simp;omega);have FP:=((B.drewN _).alloc _).kept x (by simp;omega);have EK:=((AH.drewN _).alloc _).kept x (by simp;omega);have EX:=((G.drewN _).alloc _).trans' x (by have:=G.size;simp;omega);clear l B AH x v i u;simp only;go_wp2_with fail
 refine(FG w2.heap.size s m f 40 40 _ rfl k HO W).mono ?_;rintro e w4 ⟨rfl,_,r⟩;have P:=FA.kept r (by simp;omega);have L:=FP.kept r (by simp;omega);have K:=EK.kept r (by simp;omega);have Ax:=EX.trans' r (by have:=G.size;simp;omega);rw[U.out.2];clear FA FP EK EX r W U G;have H9:=L.lt;have H6:=P.lt;have K8:=K.lt;have Ha:y<=s.size:=by have:=BK s j false (by omega);rw[J.out.1]at this;exact this
 have Jx:a<=s.size:=by have:=B2 s y false Ha;rw[J.out.2]at this;exact this
 go_wp2_with fail
 refine(BQ b s j false _ k (by omega) (by first|exact P|exact P.drewN _)).mono ?_;rintro e w5 ⟨rfl,Z,D⟩;rw[J.out.1]at Z⊢;have z:=Aw.kept (by first|exact L|exact L.drewN _) D (by simp;omega);have FO:=Aw.kept (by first|exact K|exact K.drewN _) D (by simp;omega);have BA:=Ac.trans (by first|exact Ax|exact Ax.drewN _) D;clear P L K Ax D;have I:=z.cell 4;have F:=z.cell 5;have HM:=z.frozen;simp at I F;simp only[Az];go_wp2_with fail
 refine(A1 b s y false _ k Ha ((Z.set_other _ (by simp;omega) _).set_other _ (by simp;omega) _)).mono ?_;rintro e w6 ⟨rfl,g,C⟩;rw[J.out.2]at g;have n:=((z.set 4 _).set 5 _).kept C (by simp;omega);have X:=((FO.set_other _ (by simp;omega) _).set_other _ (by simp;omega) _).kept C (by simp;omega);have EY:=((BA.setCell (p:=⟨N,4,none⟩) (by simp;omega) _).setCell (p:=⟨N,5,none⟩) (by simp;omega) _).trans C;clear Z z FO BA C I F HM;simp only[Z4,Z5]at n;have H7:=g.lt;have K6:=X.lt;have H5:=n.lt;have v:=g.cell 0;have i:=g.cell 1;have u:=g.cell 2;have HH:=g.frozen;simp[AP]at v i u;have H3:(a:Int)<(s.size:Int):=by omega
 have K3:decide ((s.size:Int)<=(a:Int))=false:=by simp;omega
 have LS:decide (s.size<=a)=false:=by simp;omega
 have H2:¬N=b:=by omega
 have H8:¬b=N:=by omega
 have p1:((s[a].toNat:Int) !=61)=false:=by simp only[bne,q1];rfl
 clear q1;go_wp2_with fail
 go_quiet (fail)
 have A:=n.cell 0;have CL:=n.frozen 0;simp at A;clear p1;go_wp2_with fail
 go_region_held3 (λo=>o.cell? ⟨b,0,none⟩=some (.string s)/\o.cell? ⟨b,1,none⟩=some (.int .i64 a)) (go_keep) (fail)
 clear A CL;go_wp2_with fail
 refine(BQ b s (a+1) false _ k (by omega) (((g.drewN _).set_other ⟨N,0,none⟩ (by simp;omega) _).set 1 _)).mono ?_;rintro e w7 ⟨rfl,HX,H⟩;have FL:=(((n.drewN _).set 0 _).set_other ⟨b,1,none⟩ (by simp;omega) _).kept H (by simp;omega);have AB:=(((X.drewN _).set_other ⟨N,0,none⟩ (by simp;omega) _).set_other ⟨b,1,none⟩ (by simp;omega) _).kept H (by simp;omega);have H1:=(((EY.drewN _).setCell (p:=⟨N,0,none⟩) (by simp;omega) _).setCell (p:=⟨b,1,none⟩) (by simp) _).trans H;clear g n X EY H v i u HH;have c:=FL.cell;have CL:=FL.frozen;have d:=AB.cell;have K9:=AB.frozen;simp only[Az];have A:=c 0;have e1:=c 1;have e2:=c 2;have e3:=c 3;have I:=c 4;have F:=c 5;have e6:=c 6;have e7:=c 7;have e8:=c 8;have f0:=d 0;have f1:=d 1;have f2:=d 2;have f3:=d 3;have f4:=d 4;have f5:=d 5;have f6:=d 6;have f7:=d 7;have f8:=d 8;simp at A e1 e2 e3 I F e6 e7 e8 f0 f1 f2 f3 f4 f5 f6 f7 f8;clear c d;go_wp2;refine aE (AY rfl rfl (((((((((((AB.set_other _ (by simp;omega) _).set_other _ (by simp;omega) _).set 0 _).set 1 _).set 2 _).set 3 _).set 4 _).set 5 _).set 6 _).set 7 _).set 8 _) underlying95 rfl (by kernel_rfl)) rfl ⟨_,rfl,ax _ _ _ _,?_,?_⟩
 ·repeat (refine Aw.set_other ?_ _ (by simp;omega) _)
  exact HX
 ·repeat (refine Ac.setCell ?_ (by simp;try omega) _)
  exact H1
theorem VC(b:Nat)(s:cL)(at_ j:Nat)(w:World)(t:AG)(y a:Nat)(k:s.size<=1000000)(Go:at_<=s.size)(S:Af s at_=j)(R:Cz s j 33=false)(JJ:j<s.size)(hl:Av s[j]=true)(ho:Hid (EE s j=false))(LE:a<s.size)(q1:((s[a].toNat:Int)==35)=true)(q2:((s[a].toNat:Int)==61)=false)
  (J:Hid (AA s j false=(t,y,false)/\As s y false=a)) (V:Aw w b (AP s at_ false) 73):
  Calls prog 129 #[.pointer (some ⟨b,0,none⟩)] w λe o=>∃av,e= .returned (.agg (Bq ⟨s[a],CI,t,(AA s (a+1) false).1,j⟩ av).toArray)/\
   o.ownsRow w.heap.size 93 2 av 0 []/\Aw o b (AP s (AA s (a+1) false).2.1 (AA s (a+1) false).2.2) 73/\Ac [b] w o:=by
 have K6:=V.lt;have LM:j<=s.size:=by have:=AN s at_ Go;omega
 have Q:As s j false=j:=by rw[<-S];exact AZ s at_
 have CC:Bi s j false 33=j:=by unfold Bi;rw[Q,R];rfl
 have B9:(!false&&Cz s (As s j false) 33)=false:=by rw[Q,R];rfl
 have M:Hid (Af s at_=j/\Bi s j false 33=j/\(!false&&Cz s (As s j false) 33)=false):=⟨S,CC,B9⟩;clear S R Q CC B9;go_enter func129,ntmps129;go_wp2_with fail
 refine(A1 b s at_ false _ k Go (V.alloc _)).mono ?_;rintro e w1 ⟨rfl,q,Y⟩;rw[show As s at_ false=j from M.out.1]at q
 have hn:=(Aw.new w _ _).kept Y (by simp;omega);have BT:=((Ac.refl [b] w).alloc _).trans Y;clear V Y;have H2:=q.lt;have HD:=hn.lt;have i:=q.cell 1;simp[AP]at i;go_wp2_with fail
 refine(C0 b s j false 33 33 _ rfl k (by omega) (q.alloc _)).mono ?_;rintro e w2 ⟨rfl,l,O⟩;rw[M.out.2.1]at l;rw[M.out.2.2];have B:=(Aw.new w1 _ _).kept O (by simp;omega);have AH:=(hn.alloc _).kept O (by simp;omega);have G:=(BT.alloc _).trans O;obtain⟨N,hN⟩:∃N,w1.heap.size=N:=⟨_,rfl⟩;rw[hN]at B⊢;have K3:b<N:=by omega
 have L0:w.heap.size<N:=by omega
 clear BT q hn H2 HD i O hN M;have K7:=B.lt;have LL:=l.lt;have K1:=AH.lt;have v:=l.cell 0;have i:=l.cell 1;have u:=l.cell 2;simp[AP]at v i u;have LS:(j:Int)<(s.size:Int):=by omega
 obtain⟨T,m,f,E⟩:∃T m f,AW s j false=(T,m,f):=⟨_,_,_,rfl⟩;have HQ:m<=s.size:=by have:=Dq s j false (by omega);rw[E]at this;exact this
 have FC:(!f&&Cz s (As s m f) 40)=false:=by have h:=ho.out;unfold EE at h;rw[E]at h;exact h
 have U:Hid (AW s j false=(T,m,f)/\(!f&&Cz s (As s m f) 40)=false):=⟨E,FC⟩;clear E FC;go_wp2_with fail
 go_quiet ((go_at_call 169;exact bu (B1 _ s[j] _ rfl)))
 go_wp2_with fail
 go_region
 go_wp2_with fail
 refine(EP w2.heap.size s j false _ k (by omega) (Aw.new (w2.drewN _) (AP s j false) 73)).mono ?_;rintro e w3 ⟨rfl,W,x⟩;rw[U.out.1]at W⊢;have FA:=((l.drewN _).alloc _).kept x (by simp;omega);have FP:=((B.drewN _).alloc _).kept x (by simp;omega);have EK:=((AH.drewN _).alloc _).kept x (by simp;omega);have EX:=((G.drewN _).alloc _).trans' x (by have:=G.size;simp;omega);clear l B AH x v i u;simp only;go_wp2_with fail
 refine(FG w2.heap.size s m f 40 40 _ rfl k HQ W).mono ?_;rintro e w4 ⟨rfl,_,r⟩;have P:=FA.kept r (by simp;omega);have L:=FP.kept r (by simp;omega);have K:=EK.kept r (by simp;omega);have Ax:=EX.trans' r (by have:=G.size;simp;omega);rw[U.out.2];clear FA FP EK EX r W U G;have Jx:=L.lt;have H8:=P.lt;have LB:=K.lt;have HA:y<=s.size:=by have:=BK s j false (by omega);rw[J.out.1]at this;exact this
 have KK:a<=s.size:=by have:=B2 s y false HA;rw[J.out.2]at this;exact this
 go_wp2_with fail
 refine(BQ b s j false _ k (by omega) (by first|exact P|exact P.drewN _)).mono ?_;rintro e w5 ⟨rfl,Z,D⟩;rw[J.out.1]at Z⊢;have z:=Aw.kept (by first|exact L|exact L.drewN _) D (by simp;omega);have FO:=Aw.kept (by first|exact K|exact K.drewN _) D (by simp;omega);have BA:=Ac.trans (by first|exact Ax|exact Ax.drewN _) D;clear P L K Ax D;have I:=z.cell 4;have F:=z.cell 5;have HO:=z.frozen;simp at I F;simp only[Az];go_wp2_with fail
 refine(A1 b s y false _ k HA ((Z.set_other _ (by simp;omega) _).set_other _ (by simp;omega) _)).mono ?_;rintro e w6 ⟨rfl,g,C⟩;rw[J.out.2]at g;have n:=((z.set 4 _).set 5 _).kept C (by simp;omega);have X:=((FO.set_other _ (by simp;omega) _).set_other _ (by simp;omega) _).kept C (by simp;omega);have EY:=((BA.setCell (p:=⟨N,4,none⟩) (by simp;omega) _).setCell (p:=⟨N,5,none⟩) (by simp;omega) _).trans C;clear Z z FO BA C I F HO;simp only[Z4,Z5]at n;have H9:=g.lt;have K8:=X.lt;have H7:=n.lt;have v:=g.cell 0;have i:=g.cell 1;have u:=g.cell 2;have HK:=g.frozen;simp[AP]at v i u;have H5:(a:Int)<(s.size:Int):=by omega
 have K5:decide ((s.size:Int)<=(a:Int))=false:=by simp;omega
 have Mo:decide (s.size<=a)=false:=by simp;omega
 have H4:¬N=b:=by omega
 have Ix:¬b=N:=by omega
 have p1:((s[a].toNat:Int) !=35)=false:=by simp only[bne,q1];rfl
 have p2:((s[a].toNat:Int) !=61)=true:=by simp only[bne,q2];rfl
 clear q1 q2;go_wp2_with fail
 go_quiet (fail)
 have A:=n.cell 0;have CL:=n.frozen 0;simp at A;clear p1 p2;go_wp2_with fail
 go_region_held3 (λo=>o.cell? ⟨b,0,none⟩=some (.string s)/\o.cell? ⟨b,1,none⟩=some (.int .i64 a)) (go_keep) (fail)
 clear A CL;go_wp2_with fail
 refine(BQ b s (a+1) false _ k (by omega) (((g.drewN _).set_other ⟨N,0,none⟩ (by simp;omega) _).set 1 _)).mono ?_;rintro e w7 ⟨rfl,HZ,H⟩;have FL:=(((n.drewN _).set 0 _).set_other ⟨b,1,none⟩ (by simp;omega) _).kept H (by simp;omega);have AB:=(((X.drewN _).set_other ⟨N,0,none⟩ (by simp;omega) _).set_other ⟨b,1,none⟩ (by simp;omega) _).kept H (by simp;omega);have H3:=(((EY.drewN _).setCell (p:=⟨N,0,none⟩) (by simp;omega) _).setCell (p:=⟨b,1,none⟩) (by simp) _).trans H;clear g n X EY H v i u HK;have c:=FL.cell;have CL:=FL.frozen;have d:=AB.cell;have LC:=AB.frozen;simp only[Az];have A:=c 0;have e1:=c 1;have e2:=c 2;have e3:=c 3;have I:=c 4;have F:=c 5;have e6:=c 6;have e7:=c 7;have e8:=c 8;have f0:=d 0;have f1:=d 1;have f2:=d 2;have f3:=d 3;have f4:=d 4;have f5:=d 5;have f6:=d 6;have f7:=d 7;have f8:=d 8;simp at A e1 e2 e3 I F e6 e7 e8 f0 f1 f2 f3 f4 f5 f6 f7 f8;clear c d;go_wp2;refine aE (AY rfl rfl (((((((((((AB.set_other _ (by simp;omega) _).set_other _ (by simp;omega) _).set 0 _).set 1 _).set 2 _).set 3 _).set 4 _).set 5 _).set 6 _).set 7 _).set 8 _) underlying95 rfl (by kernel_rfl)) rfl ⟨_,rfl,ax _ _ _ _,?_,?_⟩
 ·repeat (refine Aw.set_other ?_ _ (by simp;omega) _)
  exact HZ
 ·repeat (refine Ac.setCell ?_ (by simp;try omega) _)
  exact H3
theorem Vq(b:Nat)(s:cL)(at_ j:Nat)(w:World)(t:AG)(y a:Nat)(k:s.size<=1000000)(Ha:at_<=s.size)(S:Af s at_=j)(R:Cz s j 33=false)(KS:j<s.size)(hl:Av s[j]=true)(ho:Hid (EE s j=false))(LM:a<s.size)(q1:((s[a].toNat:Int)==60)=true)(q2:((s[a].toNat:Int)==61)=false)(q3:((s[a].toNat:Int)==35)=false)
  (J:Hid (AA s j false=(t,y,false)/\As s y false=a)) (V:Aw w b (AP s at_ false) 73):
  Calls prog 129 #[.pointer (some ⟨b,0,none⟩)] w λe o=>∃av,e= .returned (.agg (Bq ⟨s[a],CI,t,(AA s (a+1) false).1,j⟩ av).toArray)/\
   o.ownsRow w.heap.size 93 2 av 0 []/\Aw o b (AP s (AA s (a+1) false).2.1 (AA s (a+1) false).2.2) 73/\Ac [b] w o:=by
 have K8:=V.lt;have L0:j<=s.size:=by have:=AN s at_ Ha;omega
 have Q:As s j false=j:=by rw[<-S];exact AZ s at_
 have CL:Bi s j false 33=j:=by unfold Bi;rw[Q,R];rfl
 have CC:(!false&&Cz s (As s j false) 33)=false:=by rw[Q,R];rfl
 have M:Hid (Af s at_=j/\Bi s j false 33=j/\(!false&&Cz s (As s j false) 33)=false):=⟨S,CL,CC⟩;clear S R Q CL CC;go_enter func129,ntmps129;go_wp2_with fail
 refine(A1 b s at_ false _ k Ha (V.alloc _)).mono ?_;rintro e w1 ⟨rfl,q,Y⟩;rw[show As s at_ false=j from M.out.1]at q
 have hn:=(Aw.new w _ _).kept Y (by simp;omega);have B9:=((Ac.refl [b] w).alloc _).trans Y;clear V Y;have H4:=q.lt;have HF:=hn.lt;have i:=q.cell 1;simp[AP]at i;go_wp2_with fail
 refine(C0 b s j false 33 33 _ rfl k (by omega) (q.alloc _)).mono ?_;rintro e w2 ⟨rfl,l,O⟩;rw[M.out.2.1]at l;rw[M.out.2.2];have B:=(Aw.new w1 _ _).kept O (by simp;omega);have AH:=(hn.alloc _).kept O (by simp;omega);have G:=(B9.alloc _).trans O;obtain⟨N,hN⟩:∃N,w1.heap.size=N:=⟨_,rfl⟩;rw[hN]at B⊢;have K5:b<N:=by omega
 have MB:w.heap.size<N:=by omega
 clear B9 q hn H4 HF i O hN M;have K9:=B.lt;have LS:=l.lt;have K3:=AH.lt;have v:=l.cell 0;have i:=l.cell 1;have u:=l.cell 2;simp[AP]at v i u;have Mo:(j:Int)<(s.size:Int):=by omega
 obtain⟨T,m,f,E⟩:∃T m f,AW s j false=(T,m,f):=⟨_,_,_,rfl⟩;have HS:m<=s.size:=by have:=Dq s j false (by omega);rw[E]at this;exact this
 have FF:(!f&&Cz s (As s m f) 40)=false:=by have h:=ho.out;unfold EE at h;rw[E]at h;exact h
 have U:Hid (AW s j false=(T,m,f)/\(!f&&Cz s (As s m f) 40)=false):=⟨E,FF⟩;clear E FF;go_wp2_with fail
 go_quiet ((go_at_call 169;exact bu (B1 _ s[j] _ rfl)))
 go_wp2_with fail
 go_region
 go_wp2_with fail
 refine(EP w2.heap.size s j false _ k (by omega) (Aw.new (w2.drewN _) (AP s j false) 73)).mono ?_;rintro e w3 ⟨rfl,W,x⟩;rw[U.out.1]at W⊢;have FC:=((l.drewN _).alloc _).kept x (by simp;omega);have FT:=((B.drewN _).alloc _).kept x (by simp;omega);have EX:=((AH.drewN _).alloc _).kept x (by simp;omega);have EY:=((G.drewN _).alloc _).trans' x (by have:=G.size;simp;omega);clear l B AH x v i u;simp only;go_wp2_with fail
 refine(FG w2.heap.size s m f 40 40 _ rfl k HS W).mono ?_;rintro e w4 ⟨rfl,_,r⟩;have P:=FC.kept r (by simp;omega);have L:=FT.kept r (by simp;omega);have K:=EX.kept r (by simp;omega);have Ax:=EY.trans' r (by have:=G.size;simp;omega);rw[U.out.2];clear FC FT EX EY r W U G;have KK:=L.lt;have Ix:=P.lt;have LE:=K.lt;have HB:y<=s.size:=by have:=BK s j false (by omega);rw[J.out.1]at this;exact this
 have K1:a<=s.size:=by have:=B2 s y false HB;rw[J.out.2]at this;exact this
 go_wp2_with fail
 refine(BQ b s j false _ k (by omega) (by first|exact P|exact P.drewN _)).mono ?_;rintro e w5 ⟨rfl,Z,D⟩;rw[J.out.1]at Z⊢;have z:=Aw.kept (by first|exact L|exact L.drewN _) D (by simp;omega);have FP:=Aw.kept (by first|exact K|exact K.drewN _) D (by simp;omega);have BA:=Ac.trans (by first|exact Ax|exact Ax.drewN _) D;clear P L K Ax D;have I:=z.cell 4;have F:=z.cell 5;have HQ:=z.frozen;simp at I F;simp only[Az];go_wp2_with fail
 refine(A1 b s y false _ k HB ((Z.set_other _ (by simp;omega) _).set_other _ (by simp;omega) _)).mono ?_;rintro e w6 ⟨rfl,g,C⟩;rw[J.out.2]at g;have n:=((z.set 4 _).set 5 _).kept C (by simp;omega);have X:=((FP.set_other _ (by simp;omega) _).set_other _ (by simp;omega) _).kept C (by simp;omega);have FA:=((BA.setCell (p:=⟨N,4,none⟩) (by simp;omega) _).setCell (p:=⟨N,5,none⟩) (by simp;omega) _).trans C;clear Z z FP BA C I F HQ;simp only[Z4,Z5]at n;have Jx:=g.lt;have LB:=X.lt;have H9:=n.lt;have v:=g.cell 0;have i:=g.cell 1;have u:=g.cell 2;have HM:=g.frozen;simp[AP]at v i u;have H7:(a:Int)<(s.size:Int):=by omega
 have K7:decide ((s.size:Int)<=(a:Int))=false:=by simp;omega
 have MN:decide (s.size<=a)=false:=by simp;omega
 have H6:¬N=b:=by omega
 have JJ:¬b=N:=by omega
 have p1:((s[a].toNat:Int) !=60)=false:=by simp only[bne,q1];rfl
 have p2:((s[a].toNat:Int) !=61)=true:=by simp only[bne,q2];rfl
 have p3:((s[a].toNat:Int) !=35)=true:=by simp only[bne,q3];rfl
 clear q1 q2 q3;go_wp2_with fail
 go_quiet (fail)
 have A:=n.cell 0;have EK:=n.frozen 0;simp at A;clear p1 p2 p3;go_wp2_with fail
 go_region_held3 (λo=>o.cell? ⟨b,0,none⟩=some (.string s)/\o.cell? ⟨b,1,none⟩=some (.int .i64 a)) (go_keep) (fail)
 clear A EK;go_wp2_with fail
 refine(BQ b s (a+1) false _ k (by omega) (((g.drewN _).set_other ⟨N,0,none⟩ (by simp;omega) _).set 1 _)).mono ?_;rintro e w7 ⟨rfl,H1,H⟩;have FO:=(((n.drewN _).set 0 _).set_other ⟨b,1,none⟩ (by simp;omega) _).kept H (by simp;omega);have AB:=(((X.drewN _).set_other ⟨N,0,none⟩ (by simp;omega) _).set_other ⟨b,1,none⟩ (by simp;omega) _).kept H (by simp;omega);have H5:=(((FA.drewN _).setCell (p:=⟨N,0,none⟩) (by simp;omega) _).setCell (p:=⟨b,1,none⟩) (by simp) _).trans H;clear g n X FA H v i u HM;have c:=FO.cell;have EK:=FO.frozen;have d:=AB.cell;have LL:=AB.frozen;simp only[Az];have A:=c 0;have e1:=c 1;have e2:=c 2;have e3:=c 3;have I:=c 4;have F:=c 5;have e6:=c 6;have e7:=c 7;have e8:=c 8;have f0:=d 0;have f1:=d 1;have f2:=d 2;have f3:=d 3;have f4:=d 4;have f5:=d 5;have f6:=d 6;have f7:=d 7;have f8:=d 8;simp at A e1 e2 e3 I F e6 e7 e8 f0 f1 f2 f3 f4 f5 f6 f7 f8;clear c d;go_wp2;refine aE (AY rfl rfl (((((((((((AB.set_other _ (by simp;omega) _).set_other _ (by simp;omega) _).set 0 _).set 1 _).set 2 _).set 3 _).set 4 _).set 5 _).set 6 _).set 7 _).set 8 _) underlying95 rfl (by kernel_rfl)) rfl ⟨_,rfl,ax _ _ _ _,?_,?_⟩
 ·repeat (refine Aw.set_other ?_ _ (by simp;omega) _)
  exact H1
 ·repeat (refine Ac.setCell ?_ (by simp;try omega) _)
  exact H5
