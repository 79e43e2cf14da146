import Derived.Deep.RegionHeld3
import Derived.Deep.RegionLaw
import Derived.Test.YtoihbhenbmffcaaGreatDoorYAA
set_option linter.all false
set_option maxHeartbeats 0
namespace Go.Proofs.YtoihbhenbmffcaaGreatDoor
open Go.RowKit Go.Proofs.Tryz
theorem GN(s:cR)(at_:Nat)(b:Bool)(h:at_<=s.size):(Ba s at_ b).2.1<=s.size:=by
 unfold Ba;have a:=Bk s at_ h;have c:=CG Az s _ a;split
 .exact h
 .split<;>simp<;>omega
theorem Y2{s:cR}{at_:Nat}(h:(Ba s at_ false).2.2=false):at_<(Ba s at_ false).2.1:=by
 unfold Ba at h⊢;have b:=Cv s at_;have c:=Cu Az s (Af s at_);simp only[bN,if_false]at h⊢;split at h
 .cases h
 .rename_i a;simp only[a,if_false];omega
theorem E9(s:cR)(at_:Nat)(b:Bool)(h:at_<=s.size):(AP s at_ b).2.1<=s.size:=by
 have a:=Bk s at_ h;have d:=CG Ap s _ a;have c:=GN s _ false a;unfold AP;split
 .exact h
 .split
  .split
   .simp;omega
   .split
    .exact c
    .split<;>simp<;>omega
  .exact a
theorem Tu{s:cR}{at_:Nat}(h:(AP s at_ false).2.2=false):at_<(AP s at_ false).2.1:=by
 have g:=Cv s at_;unfold AP at h⊢;simp only[bN,if_false]at h⊢;split at h
 .rename_i c;simp only[c,dite_true];split at h
  .rename_i b;simp only[b,if_true];omega
  .rename_i b;simp only[b,if_false,bN];split at h
   .rename_i a;simp only[a,if_true];have:=Y2 h;omega
   .rename_i a;simp only[a,if_false,bN];split at h
    .cases h
    .rename_i e;simp only[e,if_false];(have d:Ap s[Af s at_]=true:=by simpa using a);have i:=B4 Ap s _ c d;have f:=Cu Ap s (Af s at_+1);show at_<AL Ap s (Af s at_);omega
 .cases h
def DL(s:cR)(at_:Nat):List AG×Nat×Bool:=
 if h:(!(AP s at_ false).2.2&&DW s (AQ s (AP s at_ false).2.1 (AP s at_ false).2.2) 44)=true/\at_<B3 s (AP s at_ false).2.1 (AP s at_ false).2.2 44/\at_<s.size then
  have _h1:at_<s.size:=h.2.2;have _h2:=h.2.1
  ((AP s at_ false).1::(DL s (B3 s (AP s at_ false).2.1 (AP s at_ false).2.2 44)).1,(DL s (B3 s (AP s at_ false).2.1 (AP s at_ false).2.2 44)).2)
 else([(AP s at_ false).1],B3 s (AP s at_ false).2.1 (AP s at_ false).2.2 44,(AP s at_ false).2.2)
theorem Fj(s:cR)(at_:Nat)(a:Bool)(c:UInt8):at_<=B3 s at_ a c:=by
 unfold B3 AQ;have:=Cv s at_;split<;>split<;>omega
theorem OK{s:cR}{at_ a:Nat}{t:AG}{b:Bool}(c:AP s at_ false=(t,a,b))(h:at_<=s.size)(f:(!b&&DW s (AQ s a b) 44)=true):
  at_<B3 s a b 44/\DL s at_=(t::(DL s (B3 s a b 44)).1,(DL s (B3 s a b 44)).2):=by
 have g:b=false:=by cases b<;>simp_all
 subst g;have e:=Tu (s:=s) (at_:=at_) (by rw[c]);have d:=E9 s at_ false h;rw[c]at e d;simp only at e d;have i:=Fj s a false 44;refine⟨by omega,?_⟩
 conv=>lhs;rw[DL]
 rw[dif_pos (by rw[c];exact⟨f,by simp only;omega,by omega⟩)];simp only[c]
theorem KG{s:cR}{at_ a:Nat}{t:AG}{b:Bool}(d:AP s at_ false=(t,a,b))(c:(!b&&DW s (AQ s a b) 44)=false):
  DL s at_=([t],B3 s a b 44,b):=by
 conv=>lhs;rw[DL]
 rw[dif_neg (by rw[d];intro h;rw[h.1]at c;cases c),d]
structure C2 where
 name:cR
 args:List AG
 at_:Nat
def BG(s:cR)(at_:Nat)(bad:Bool)(c:UInt8):Nat×Bool:=(B3 s at_ bad c,!(!bad&&DW s (AQ s at_ bad) c))
def ER(s:cR)(p:Nat×Bool):List AG×Nat×Bool:=if p.2 then([],p.1,true)else DL s p.1
def Bj(s:cR)(at_:Nat)(bad:Bool):C2×Nat×Bool:=
 let nm:=Ba s (AQ s at_ bad) bad
 let l:=ER s (BG s nm.2.1 nm.2.2 40)
 (⟨nm.1,l.1,AQ s at_ bad⟩,BG s l.2.1 l.2.2 41)
theorem S8(s:cR)(at_:Nat)(h:at_<=s.size):(DL s at_).2.1<=s.size:=by
 fun_induction DL s at_ with
 |case1 at_ hc _ _ ih=>exact ih (Dh _ _ _ _ (E9 _ _ _ h))
 |case2 at_ hc=>exact Dh _ _ _ _ (E9 _ _ _ h)
theorem Tryz.info93:(Tryz.prog.info? 93).map (λi=>(i.zero,i.size,i.bytes))=some (some (.agg #[.int .u8 0,.string ⟨#[]⟩]),2,24):=by kernel_rfl
def B6(nm:cR)(av:Value)(j:Nat):List Value:=[.string nm,av,.int .i64 j]
def Ed(s:cR)(mb bd:Bool)(a:Nat)(acc:List AG)(R:List AG×Nat×Bool):Prop:=
 if(mb&& !bd)=true then(acc++(DL s a).1,(DL s a).2)=R else(acc,a,bd)=R
theorem Ed.step{s:cR}{a c:Nat}{acc:List AG}{R:List AG×Nat×Bool}{t:AG}{b:Bool}(h:Ed s true false a acc R)(d:AP s a false=(t,c,b))(j:a<=s.size)(v:acc.length<=a):
  B3 s c b 44<=s.size/\(acc++[t]).length<=B3 s c b 44+1/\(((!b&&DW s (AQ s c b) 44)&& !b)=true->(acc++[t]).length<=B3 s c b 44)/\
  2*(s.size-B3 s c b 44)+(if((!b&&DW s (AQ s c b) 44)&& !b)=true then 1 else 0)<2*(s.size-a)+1/\
  Ed s (!b&&DW s (AQ s c b) 44) b (B3 s c b 44) (acc++[t]) R:=by
 have f:=E9 s a false j;have r:=Fj s c b 44;have i:b=false->a<c:=λm=>by
  have:=Tu (s:=s) (at_:=a) (by rw[d];exact m);rw[d]at this;exact this
 have x:a<=c:=by
  cases b with
  |false=>have:=i rfl;omega
  |true=>
   have o:=Cv s a;(have e:c=(AP s a false).2.1:=by rw[d]);(have g:(AP s a false).2.2=true:=by rw[d]);rw[e];unfold AP at g⊢;simp only[bN,if_false]at g⊢;split
   .rename_i l;simp only[l,dite_true]at g;split
    .simp only;omega
    .split
     .simp only;have w:=Cv s (Af s a);have n:=Cu Az s (Af s (Af s a));unfold Ba;simp only[bN,if_false];split<;>simp only<;>omega
     .have n:=Cu Ap s (Af s a);split<;>simp only<;>omega
   .exact o
 rw[d]at f;simp only at f;have k:=Dh s c b 44 f;unfold Ed at h;simp only[dn,ee,if_true]at h;cases hm:(!b&&DW s (AQ s c b) 44)with
 |true=>
  have q:b=false:=by cases b<;>simp_all
  subst q;obtain⟨u,p⟩:=OK d j hm;have:=i rfl;refine⟨k,by simp;omega,by simp;omega,by simp;omega,?_⟩;unfold Ed;simp only[dn,ee,if_true];rw[p]at h;rw[<-h];simp
 |false=>
  refine⟨k,by simp;omega,by simp,by simp;omega,?_⟩;unfold Ed;rw[KG d hm]at h;rw[<-h];simp
theorem Ed.done{s:cR}{a:Nat}{c b:Bool}{acc L:List AG}{d:Nat}{e:Bool}(h:Ed s c b a acc (L,d,e))(f:(c&& !b)=false):acc=L/\a=d/\b=e:=by
 unfold Ed at h;rw[if_neg (by rw[f];exact dK)]at h;simpa using h
set_option maxRecDepth 100000
theorem OQ(b:Nat)(s:cR)(at_:Nat)(f:Bool)(w:World)(K:s.size<=1000000)(H7:at_<=s.size)(hB:AE w b (BO s at_ f) 73):
    Calls prog 79 #[.pointer (some ⟨b,0,none⟩)] w λe w'=>∃M,e=.returned (.agg (B6 (Bj s at_ f).1.name M (Bj s at_ f).1.at_).toArray)/\
      w'.ownsRow w.heap.size 93 2 M (Bj s at_ f).1.args.length ((Bj s at_ f).1.args.flatMap AM)/\AE w' b (BO s (Bj s at_ f).2.1 (Bj s at_ f).2.2) 73/\Ac [b] w w':=by
  obtain⟨i0,LB,KS,LE,K7⟩:=cU Tryz.info93
  have M1:=hB.lt
  have HC:=F1 s at_ f H7
  obtain⟨j,hj⟩:∃j,AQ s at_ f=j:=⟨_,rfl⟩
  obtain⟨X,D,J,CL⟩:∃X D J,Ba s j f=(X,D,J):=⟨_,_,_,rfl⟩
  obtain⟨z,H,A⟩:∃z H,BG s D J 40=(z,H):=⟨_,_,rfl⟩
  obtain⟨L,G,I,P⟩:∃L G I,ER s (z,H)=(L,G,I):=⟨_,_,_,rfl⟩
  obtain⟨a4,b4,i⟩:∃a4 b4,BG s G I 41=(a4,b4):=⟨_,_,rfl⟩
  have hR:Bj s at_ f=(⟨X,L,j⟩,a4,b4):=by
    simp only[Bj,hj,CL,A,P,i]
  rw[hR]
  rw[hj]at HC
  have HT:D<=s.size:=by have:=GN s j f HC;rw[CL]at this;exact this
  have IA:z<=s.size:=by have:=Dh s D J 40 HT;simp only[BG,cP]at A;omega
  have MN:G<=s.size:=by
    unfold ER at P
    split at P
    · simp only[cP]at P;omega
    · have:=S8 s z IA;rw[P]at this;exact this
  have V:Hid (AQ s at_ f=j/\Ba s j f=(X,D,J)/\BG s D J 40=(z,H)/\ER s (z,H)=(L,G,I)/\BG s G I 41=(a4,b4)):=⟨hj,CL,A,P,i⟩
  clear hR hj CL A P i
  go_enter func79,ntmps79
  go_wp2_with fail
  refine(CZ b s at_ f _ K H7 (hB.alloc _)).mono ?_
  rintro e w1 ⟨rfl,Y,hK⟩
  rw[V.out.1]at Y
  have hn:=(AE.new w _ _).kept hK (by simp;omega)
  have HX:=((Ac.refl [b] w).alloc _).trans hK
  clear hB hK
  have LS:=Y.lt
  have KK:=hn.lt
  have Bx:=Y.cell 1
  simp[BO]at Bx
  go_wp2_with fail
  refine(Lw b s j f _ K HC ?_).mono ?_
  · exact Y.alloc _
  rintro e w2 ⟨rfl,HE,FP⟩
  have Ax:=(AE.new w1 _ _).kept FP (by simp;omega)
  have Jx:=(hn.alloc _).kept FP (by simp;omega)
  have H3:=(HX.alloc _).trans FP
  rw[V.out.2.1]at HE⊢
  obtain⟨N,hN⟩:∃N,w1.heap.size=N:=⟨_,rfl⟩
  rw[hN]at Ax⊢
  have M0:b<N:=by omega
  have M6:w.heap.size<N:=by omega
  clear HX Y hn LS KK Bx FP hN
  have S:=Ax.cell 0
  have K5:=Ax.frozen 0
  simp at S
  simp only
  go_wp2_with fail
  refine(LI b s D J 40 40 _ rfl K HT ?_).mono ?_
  · exact HE.dT _ (by simp;omega) _
  rintro e w3 ⟨rfl,HH,ES⟩
  have EX:=(Ax.set 0 _).kept ES (by simp;omega)
  have HZ:=(Jx.dT _ (by simp;omega) _).kept ES (by simp;omega)
  have H0:=(H3.setCell (p:=⟨N,0,none⟩) (by simp;omega) _).trans ES
  have A:=V.out.2.2.1
  simp only[BG,cP]at A
  rw[A.1,A.2]at HH
  simp only[bI]at EX
  clear HE Ax Jx H3 ES S K5 A
  go_wp2_with fail
  have MB:=EX.lt
  go_loopg [4] (2*(s.size-z)+(if(true&& !H)=true then 1 else 0)) (λk K4 wr=>∃(O B:Bool) (a:Nat) (c:List AG) (M:Value),K4=.bool O/\a<=s.size/\c.length<=a+1/\((O&& !B)=true->c.length<=a)/\
    k=2*(s.size-a)+(if(O&& !B)=true then 1 else 0)/\Hid (Ed s O B a c (L,G,I))/\AE wr b (BO s a B) 73/\AE wr N (B6 X M j) 79/\AE wr w.heap.size [.string ⟨#[]⟩,.slice none 0 0,.int .i64 0] 79/\
    wr.ownsRow (N+1) 93 2 M c.length (c.flatMap AM)/\Ac [b] w wr)
  case atStart=>
    refine⟨true,H,z,[],.slice none 0 0,rfl,IA,by simp,by simp,rfl,?_,HH,EX,HZ,ck _ _ _ _,H0⟩
    have h:=V.out.2.2.2.1
    show Ed _ _ _ _ _ _
    unfold Ed
    unfold ER at h
    cases H with
    |true=>simpa using h
    |false=>simp at h;simp[h]
  case round=>
    obtain⟨O,B,a,c,M,rfl,ha,HD,FF,hk,T,n,u,U,q,R⟩:=hrel
    clear HH EX HZ H0
    have BT:Hid (gk=2*(s.size-a)+(if(O&& !B)=true then 1 else 0)):=hk
    clear hk
    cases O with
    |false=>
      obtain⟨rfl,rfl,rfl⟩:=T.out.done rfl
      obtain⟨ad,F,rfl⟩:=Co q
      have C:=n.cell 2
      simp[BO]at C
      have H4:=u.lt
      have H5:=n.lt
      clear HD FF BT T
      go_wp2_with fail
      refine(LI b s a B 41 41 _ rfl K ha n).mono ?_
      rintro e w6 ⟨rfl,E,d⟩
      have i:=V.out.2.2.2.2
      simp only[BG,cP]at i
      rw[i.1,i.2]at E
      have x:=u.kept d (by simp;omega)
      have l:=U.kept d (by simp;omega)
      have r:=Ad q d (by simp;omega)
      have AH:=R.trans d
      clear n u U q R d i C
      have S:=x.cell 0
      have HP:=x.cell 1
      have Go:=x.cell 2
      have HK:=l.cell 0
      have Ha:=l.cell 1
      have HB:=l.cell 2
      have LC:=l.frozen
      simp[B6]at S HP Go HK Ha HB
      go_wp2
      refine cB (BL rfl rfl (((l.set 0 _).set 1 _).set 2 _) underlying79 rfl (by kernel_rfl)) rfl ⟨_,rfl,?_,?_,?_⟩
      · exact Ag (Ag (Ag (Ak r (by omega)) (by simpa using A0 r w.heap.size (by omega)) _) (by simpa using A0 r w.heap.size (by omega)) _) (by simpa using A0 r w.heap.size (by omega)) _
      · exact((E.dT _ (by simp;omega) _).dT _ (by simp;omega) _).dT _ (by simp;omega) _
      · exact((AH.setCell (by simp) _).setCell (by simp) _).setCell (by simp) _
    |true=>
      cases B with
      |true=>
        obtain⟨rfl,rfl,rfl⟩:=T.out.done rfl
        obtain⟨ad,F,rfl⟩:=Co q
        have C:=n.cell 2
        simp[BO]at C
        have H4:=u.lt
        have H5:=n.lt
        clear HD FF BT T
        go_wp2_with fail
        refine(LI b s a true 41 41 _ rfl K ha n).mono ?_
        rintro e w6 ⟨rfl,E,d⟩
        have i:=V.out.2.2.2.2
        simp only[BG,cP]at i
        rw[i.1,i.2]at E
        have x:=u.kept d (by simp;omega)
        have l:=U.kept d (by simp;omega)
        have r:=Ad q d (by simp;omega)
        have AH:=R.trans d
        clear n u U q R d i C
        have S:=x.cell 0
        have HP:=x.cell 1
        have Go:=x.cell 2
        have HK:=l.cell 0
        have Ha:=l.cell 1
        have HB:=l.cell 2
        have LC:=l.frozen
        simp[B6]at S HP Go HK Ha HB
        go_wp2
        refine cB (BL rfl rfl (((l.set 0 _).set 1 _).set 2 _) underlying79 rfl (by kernel_rfl)) rfl ⟨_,rfl,?_,?_,?_⟩
        · exact Ag (Ag (Ag (Ak r (by omega)) (by simpa using A0 r w.heap.size (by omega)) _) (by simpa using A0 r w.heap.size (by omega)) _) (by simpa using A0 r w.heap.size (by omega)) _
        · exact((E.dT _ (by simp;omega) _).dT _ (by simp;omega) _).dT _ (by simp;omega) _
        · exact((AH.setCell (by simp) _).setCell (by simp) _).setCell (by simp) _
      |false=>
        have C:=n.cell 2
        have Bx:=u.cell 1
        have LM:=u.frozen 1
        simp[BO,B6]at C Bx
        have H4:=u.lt
        have H5:=n.lt
        have K1:c.length<=a:=FF rfl
        clear HD FF
        obtain⟨t,y,g,ht⟩:∃t y g,AP s a false=(t,y,g):=⟨_,_,_,rfl⟩
        have Mo:y<=s.size:=by have:=E9 s a false ha;rw[ht]at this;exact this
        have HS:=T.out.step ht ha K1
        obtain⟨m,hm⟩:∃m,(!g&&DW s (AQ s y g) 44)=m:=⟨_,rfl⟩
        obtain⟨v,HN⟩:∃v,B3 s y g 44=v:=⟨_,rfl⟩
        rw[hm,HN]at HS
        obtain⟨q1,q2,q3,q4,q5⟩:=HS
        have Z:Hid (AP s a false=(t,y,g)/\(!g&&DW s (AQ s y g) 44)=m/\B3 s y g 44=v/\v<=s.size/\(c++[t]).length<=v+1/\((m&& !g)=true->(c++[t]).length<=v)/\2*(s.size-v)+(if(m&& !g)=true then 1 else 0)<gk/\Ed s m g v (c++[t]) (L,G,I)):=
          ⟨ht,hm,HN,q1,q2,q3,by have:=BT.out;simp at this;omega,q5⟩
        clear ht hm HN q1 q2 q3 q4 q5 BT T
        go_wp2_with fail
        go_region_law
          (first
            | (go_simp;go_at_call 127;refine(O7 b s a false _ K ha (by first|exact n|exact n.drew)).mono ?_;rintro e wt ⟨rfl,HA,W⟩;rw[Z.out.1]at HA⊢;have AB:=u.drew.kept W (by simp;omega);have H9:=AB.cell 1;have L0:=AB.frozen 1;have HV:=λo=>(AB.alloc o).cell 1;simp[B6]at H9 HV;simp only[AM])
            | (refine fc _ (by rfl) _ _ _ (by rfl) (N+1) 93 i0 _ 2 24 underlying77 LB KS LE K7 rfl (by omega) M c.length (c.flatMap AM) (by rfl) ((Ad (E0 q) W (by simp;omega)).alloc _)
                 ⟨wt.heap.size,0,none⟩ 1 1 (AM t) (by rfl) (by rfl) (cj (cs:=(AM t).toArray) (t:=93) (fr:=(0,0)) (cA wt _)) (by simp[Value.oneCell',AM])
                 (by omega) (by unfold maxLen;omega) (by omega) (by simp;have:=W.size;simp at this;omega) (wt.heap.size+1) (by simp) ?_;intro Q F w5 HI AO K8 K9;
               have FL:=(AB.alloc _).grown AO (A0 q N (by omega));have H8:=FL.cell 1;have K2:=FL.frozen 1;simp[B6]at H8))
        all_goals
          go_wp2_with fail
          have Ix:=((HA.alloc _).grown AO (A0 q b (by omega))).dT ⟨N,1,none⟩ (by simp;omega) (.slice (some ⟨Q,0,none⟩) (c.length+1) F)
          have M2:=(HI.lt Q rfl).1
          have JJ:=FL.set 1 (.slice (some ⟨Q,0,none⟩) (c.length+1) F)
          have H1:=((((U.drew).kept W (by simp;omega)).alloc _).grown AO (A0 q w.heap.size (by omega))).dT ⟨N,1,none⟩ (by simp;omega) (.slice (some ⟨Q,0,none⟩) (c.length+1) F)
          have HU:=(((R.drew.trans W).alloc _).grown AO (λk hk=>Or.inr (by have:=(q.lt k hk).1;omega))).setCell (p:=⟨N,1,none⟩) (by simp;omega) (.slice (some ⟨Q,0,none⟩) (c.length+1) F)
          have HW:=Ag HI (p:=⟨N,1,none⟩) (by simp[Value.ownBlock];omega) (.slice (some ⟨Q,0,none⟩) (c.length+1) F)
          clear HI FL H8 K2 AO K8 K9 H9 L0 HV AB HA W q R U u n Bx C LM
          refine(Lp b s y g 44 44 _ rfl K Mo Ix).mono ?_
          rintro e w6 ⟨rfl,E,d⟩
          have x:=JJ.kept d (by simp;omega)
          have l:=H1.kept d (by simp;omega)
          have AH:=HU.trans d
          have r:=Ad HW d (by simp;omega)
          rw[Z.out.2.2.1]at E
          rw[Z.out.2.1]
          clear Ix JJ H1 HU HW d
          go_wp2_with fail
          go_roundg (2*(s.size-v)+(if(m&& !g)=true then 1 else 0))
          case measure=>exact Z.out.2.2.2.2.2.2.1
          case rel=>
            obtain⟨_,_,_,q1,q2,q3,_,q5⟩:=Z.out
            refine⟨m,g,v,c++[t],.slice (some ⟨Q,0,none⟩) (c.length+1) F,rfl,q1,q2,q3,rfl,q5,E,x,l,?_,AH⟩
            simpa using r
theorem BY(s:cR)(at_:Nat):Af s (Af s at_)=Af s at_:=by
 fun_induction Af s at_ with
 |case1 at_ h hb ih=>exact ih
 |case2 at_ h hb=>rw[Af];simp[h,hb]
 |case3 at_ h=>rw[Af];simp[h]
structure Bg where
 kind:UInt8
 A:C2
 L:AG
 R:AG
 at_:Nat
def DV:AG:=⟨0,ByteArray.empty⟩
def Gc:C2:=⟨ByteArray.empty,[],0⟩
def BQ(x:Bg)(av:Value):List Value:=[.int .u8 x.kind.toNat,.string x.A.name,av,.int .i64 x.A.at_,.int .u8 x.L.v.toNat,.string x.L.s,.int .u8 x.R.v.toNat,.string x.R.s,.int .i64 x.at_]
def KE(s:cR)(j:Nat):Bool:= !(Ba s j false).2.2&&DW s (AQ s (Ba s j false).2.1 (Ba s j false).2.2) 40
def EP(s:cR)(j:Nat):Bool:=if h:j<s.size then Az s[j] else false
def Cb(s:cR)(i:Nat):UInt8:=if h:i<s.size then s[i] else 0
def Hg(s:cR)(j a3:Nat)(t:AG)(b2:Bool):Bg×Nat×Bool:=
 if !b2&&(DW s a3 61||DW s a3 35||DW s a3 60)then
  (⟨Cb s a3,Gc,t,(AP s (a3+1) false).1,j⟩,(AP s (a3+1) false).2)
 else(⟨0,Gc,t,DV,j⟩,a3,true)
def CR(s:cR)(at_:Nat):Bg×Nat×Bool:=
 let j:=Af s at_
 if DW s j 33 then(⟨33,(Bj s (j+1) false).1,DV,DV,j⟩,(Bj s (j+1) false).2)
 else if EP s j&&KE s j then(⟨97,(Bj s j false).1,DV,DV,j⟩,(Bj s j false).2)
 else Hg s j (AQ s (AP s j false).2.1 (AP s j false).2.2) (AP s j false).1 (AP s j false).2.2
theorem Zv(b:Nat)(s:cR)(at_ j:Nat)(w:World)(t:s.size<=1000000)(S:at_<=s.size)(y:Af s at_=j)(l:DW s j 33=true)(z:AE w b (BO s at_ false) 73):
  Calls prog 129 #[.pointer (some ⟨b,0,none⟩)] w λe m=>∃x,e=.returned (.agg (BQ ⟨33,(Bj s (j+1) false).1,DV,DV,j⟩ x).toArray)/\
   m.ownsRow w.heap.size 93 2 x (Bj s (j+1) false).1.args.length ((Bj s (j+1) false).1.args.flatMap AM)/\AE m b (BO s (Bj s (j+1) false).2.1 (Bj s (j+1) false).2.2) 73/\Ac [b] w m:=by
 have FC:=z.lt;have EY:=E5 l;have r:AQ s j false=j:=by rw[<-y];exact BY s at_
 have C:B3 s j false 33=j+1:=by unfold B3;rw[r,l];rfl
 have A:(!false&&DW s (AQ s j false) 33)=true:=by rw[r,l];rfl
 have n:Hid (Af s at_=j/\B3 s j false 33=j+1/\(!false&&DW s (AQ s j false) 33)=true):=⟨y,C,A⟩;clear y l r C A;go_enter func129,ntmps129;go_wp2_with fail
 refine(CZ b s at_ false _ t S (z.alloc _)).mono ?_;rintro e B ⟨rfl,g,o⟩;rw[show AQ s at_ false=j from n.out.1]at g
 have v:=(AE.new w _ _).kept o (by simp;omega);have I:=((Ac.refl [b] w).alloc _).trans o;clear z o;have CL:=g.lt;have Q:=v.lt;have K:=g.cell 1;simp[BO]at K;go_wp2_with fail
 refine(Lp b s j false 33 33 _ rfl t (by omega) (g.alloc _)).mono ?_;rintro e w2 ⟨rfl,u,i⟩;rw[n.out.2.1]at u;rw[n.out.2.2];have d:=(AE.new B _ _).kept i (by simp;omega);have F:=(v.alloc _).kept i (by simp;omega);have D:=(I.alloc _).trans i;obtain⟨N,J⟩:∃N,B.heap.size=N:=⟨_,rfl⟩;rw[J]at d⊢;have EX:b<N:=by omega
 have FO:w.heap.size<N:=by omega
 clear I g v CL Q K i J;have G:=d.cell 0;have R:=d.frozen 0;simp at G;go_wp2_with fail
 refine(OQ b s (j+1) false _ t (by omega) (u.dT _ (by simp;omega) _)).mono ?_;rintro e w3 ⟨x,rfl,h,EK,f⟩;have E:=(d.set 0 _).kept f (by simp;omega);have q:=(F.dT _ (by simp;omega) _).kept f (by simp;omega);have T:=f.size;have FF:=d.lt;simp only[World.size_setCell]at T h;have Ax:=(D.setCell (p:=⟨N,0,none⟩) (by simp;omega) _).trans f;clear u d F D f G R;obtain⟨ad,FL,rfl⟩:=Co h;have a:=E.cell;have FA:=E.frozen;have c:=q.cell;have Go:=q.frozen;simp only[B6];have L:=a 0;have e1:=a 1;have Z:=a 2;have e3:=a 3;have e4:=a 4;have M:=a 5;have Y:=a 6;have P:=a 7;have e8:=a 8;have U:=c 0;have X:=c 1;have f2:=c 2;have f3:=c 3;have f4:=c 4;have f5:=c 5;have f6:=c 6;have V:=c 7;have O:=c 8;simp at L e1 Z e3 e4 M Y P e8 U X f2 f3 f4 f5 f6 V O;clear a c;go_wp2;have H:=λk W=>A0 h k W
 refine cB (BL rfl rfl ((((((((((((q.dT _ (by simp;omega) _).dT _ (by simp;omega) _).dT _ (by simp;omega) _).set 0 _).set 1 _).set 2 _).set 3 _).set 4 _).set 5 _).set 6 _).set 7 _).set 8 _) underlying95 rfl (by kernel_rfl)) rfl ⟨_,rfl,?_,?_,?_⟩
 .repeat (refine Ag ?_ (by have:=H w.heap.size (by omega);have:=H N (by omega);assumption) _)
  exact Ak h (by omega)
 .repeat (refine AE.dT ?_ _ (by simp;omega) _)
  exact EK
 .repeat (refine Ac.setCell ?_ (by simp;try omega) _)
  exact Ax
theorem YX(b:Nat)(s:cR)(at_ j:Nat)(w:World)(n:s.size<=1000000)(AO:at_<=s.size)(C:Af s at_=j)(B:DW s j 33=false)(HN:j<s.size)(hl:Az s[j]=true)(ho:Hid (KE s j=true))(G:AE w b (BO s at_ false) 73):
  Calls prog 129 #[.pointer (some ⟨b,0,none⟩)] w λe J=>∃F,e=.returned (.agg (BQ ⟨97,(Bj s j false).1,DV,DV,j⟩ F).toArray)/\
   J.ownsRow w.heap.size 93 2 F (Bj s j false).1.args.length ((Bj s j false).1.args.flatMap AM)/\AE J b (BO s (Bj s j false).2.1 (Bj s j false).2.2) 73/\Ac [b] w J:=by
 have HT:=G.lt;have H0:j<=s.size:=by have:=Bk s at_ AO;omega
 have A:AQ s j false=j:=by rw[<-C];exact BY s at_
 have S:B3 s j false 33=j:=by unfold B3;rw[A,B];rfl
 have R:(!false&&DW s (AQ s j false) 33)=false:=by rw[A,B];rfl
 have y:Hid (Af s at_=j/\B3 s j false 33=j/\(!false&&DW s (AQ s j false) 33)=false):=⟨C,S,R⟩;clear C B A S R;go_enter func129,ntmps129;go_wp2_with fail
 refine(CZ b s at_ false _ n AO (G.alloc _)).mono ?_;rintro e w1 ⟨rfl,i,K⟩;rw[show AQ s at_ false=j from y.out.1]at i
 have M:=(AE.new w _ _).kept K (by simp;omega);have Q:=((Ac.refl [b] w).alloc _).trans K;clear G K;have HL:=i.lt;have CL:=M.lt;have r:=i.cell 1;simp[BO]at r;go_wp2_with fail
 refine(Lp b s j false 33 33 _ rfl n (by omega) (i.alloc _)).mono ?_;rintro e O ⟨rfl,f,z⟩;rw[y.out.2.1]at f;rw[y.out.2.2];have t:=(AE.new w1 _ _).kept z (by simp;omega);have L:=(M.alloc _).kept z (by simp;omega);have v:=(Q.alloc _).trans z;obtain⟨N,hN⟩:∃N,w1.heap.size=N:=⟨_,rfl⟩;rw[hN]at t⊢;have HQ:b<N:=by omega
 have H3:w.heap.size<N:=by omega
 clear Q i M HL CL r z hN y;have HU:=t.lt;have HZ:=f.lt;have HP:=L.lt;have Y:=f.cell 0;have r:=f.cell 1;have W:=f.cell 2;simp[BO]at Y r W;have H1:(j:Int)<(s.size:Int):=by omega
 obtain⟨D,g,d,u⟩:∃D g d,Ba s j false=(D,g,d):=⟨_,_,_,rfl⟩;have FC:g<=s.size:=by have:=GN s j false (by omega);rw[u]at this;exact this
 have X:(!d&&DW s (AQ s g d) 40)=true:=by have h:=ho.out;unfold KE at h;rw[u]at h;exact h
 have E:Hid (Ba s j false=(D,g,d)/\(!d&&DW s (AQ s g d) 40)=true):=⟨u,X⟩;clear u X;go_wp2_with fail
 go_quiet ((go_at_call 169;exact eE (Hs _ s[j] _ rfl)))
 go_wp2_with fail
 go_region
 go_wp2_with fail
 refine(Lw O.heap.size s j false _ n (by omega) (AE.new (O.drewN _) (BO s j false) 73)).mono ?_;rintro e w3 ⟨rfl,H,o⟩;rw[E.out.1]at H⊢;have V:=((f.drewN _).alloc _).kept o (by simp;omega);have Z:=((t.drewN _).alloc _).kept o (by simp;omega);have T:=((L.drewN _).alloc _).kept o (by simp;omega);have U:=((v.drewN _).alloc _).trans' o (by have:=v.size;simp;omega);clear f t L o Y r W;simp only;go_wp2_with fail
 refine(O3 O.heap.size s g d 40 40 _ rfl n FC H).mono ?_;rintro e w4 ⟨rfl,_,l⟩;have BA:=V.kept l (by simp;omega);have q:=Z.kept l (by simp;omega);have AB:=T.kept l (by simp;omega);have Bx:=U.trans' l (by have:=v.size;simp;omega);rw[E.out.2];clear V Z T U l H E v;have P:=q.cell 0;have Go:=q.frozen 0;simp at P;have HM:=q.lt;go_wp2_with fail
 refine(OQ b s j false _ n (by omega) (BA.dT _ (by simp;omega) _)).mono ?_;rintro e w5 ⟨F,rfl,x,HG,m⟩;have AT:=(q.set 0 _).kept m (by simp;omega);have I:=(AB.dT _ (by simp;omega) _).kept m (by simp;omega);have HD:=m.size;simp only[World.size_setCell]at HD x;have CC:=(Bx.setCell (p:=⟨N,0,none⟩) (by simp;omega) _).trans m;clear BA q AB Bx m P Go;obtain⟨ad,H2,rfl⟩:=Co x;have a:=AT.cell;have HR:=AT.frozen;have c:=I.cell;have HY:=I.frozen;simp only[B6];have e0:=a 0;have e1:=a 1;have e2:=a 2;have e3:=a 3;have e4:=a 4;have e5:=a 5;have e6:=a 6;have e7:=a 7;have e8:=a 8;have f0:=c 0;have f1:=c 1;have f2:=c 2;have f3:=c 3;have f4:=c 4;have f5:=c 5;have f6:=c 6;have f7:=c 7;have f8:=c 8;simp at e0 e1 e2 e3 e4 e5 e6 e7 e8 f0 f1 f2 f3 f4 f5 f6 f7 f8;clear a c;go_wp2;have Ax:=λk hk=>A0 x k hk
 refine cB (BL rfl rfl ((((((((((((I.dT _ (by simp;omega) _).dT _ (by simp;omega) _).dT _ (by simp;omega) _).set 0 _).set 1 _).set 2 _).set 3 _).set 4 _).set 5 _).set 6 _).set 7 _).set 8 _) underlying95 rfl (by kernel_rfl)) rfl ⟨_,rfl,?_,?_,?_⟩
 .repeat (refine Ag ?_ (by have:=Ax w.heap.size (by omega);have:=Ax N (by omega);assumption) _)
  exact Ak x (by omega)
 .repeat (refine AE.dT ?_ _ (by simp;omega) _)
  exact HG
 .repeat (refine Ac.setCell ?_ (by simp;try omega) _)
  exact CC
