import Derived.Test.YtoihbhenbmffcaaGreatDoorMF
import Derived.Laws.IdiomStrings
import Derived.Maps.OwnOps
import Derived.Maps.Views
import Derived.Carry
set_option linter.all false
set_option maxHeartbeats 0
open List renaming length->Z,toArray->Za,replicate->kB,flatMap->qS,take->qT,foldl->qU
open Option renaming none->Y,some->V,toList->qV
open Go.Value renaming slice->U,int->X,string->O,pointer->jj,agg->ku,bool->kx,ownBlock->qW,ownBlock->kE
open Go.IntKind renaming i64->J,i32->kw
open Go.Obj renaming cells->Y6
open Go.Ending renaming returned->j1
open Or renaming inl->j2,inr->j3
open Go renaming World->jH,Value->jR,Calls->rE,undef->rH
open Go.RowKit renaming Hid->jV,intOf->rG
open Go.World renaming cell?->jY,ownsRow->kt
open Go.Act renaming put->kF
open Go.Proofs.Tryz renaming prog->rF
open ByteArray renaming empty->ky
open Prod renaming fst->kD
open Bool renaming false->K
namespace Go.Proofs.YtoihbhenbmffcaaGreatDoor
open Go.RowKit Go.Proofs.Tryz
section
variable{w:jH}{k n:Nat}
theorem Tryz.zn:(Tryz.prog.info? 176).map (λi=>(i.zero,i.size,i.bytes))=V (V (ku #[O ⟨#[]⟩,U Y 0 0,X J 0,U Y 0 0]),4,72):=lo
def KJ{t}(h:Dt t):Qq (ct t):=by
 rcases h with⟨h,_⟩|⟨a,b,_⟩
 .exact j2 (by unfold ct;rw[h];rfl)
 .exact j3 ⟨by unfold ct;exact li,by unfold ct;exact li⟩
structure lj(w3:jH)(k:Nat)(al:rC->kN bN->kN bN)(r:AW)(s:kN Ae)(pre:kN (kN bN))(M:kN Nat)(W:jH):Prop where
 C:Ac [] w3 W
 o:∃(sts:kN Vn) (ad:rB) (cp:Nat),AF W w3.heap.size [U ad (Z sts) cp] 137/\kt W w3.heap.size 176 4 (U ad (Z sts) cp) (Z sts) (qS (Lh k) sts)/\
  (∀st∈sts,LK W st/\gQ w3.heap.size r s st)/\sts.map (λst=>st.f.f)=(Np al r s pre).map Bn/\M=w3.heap.size::qV (qW (U ad (Z sts) cp))
def lj.own{o}{r}{s}(u:w.heap.size<=n):OwnFrom n (fun(q:kN (kN bN)×kN Nat) W=>lj w k o r s q.1 q.2 W):=
 BF (λq W y M h a b=>by
  obtain⟨m,x,t,g,e,i,l⟩:=h.o
  exact⟨DK h.C a b u,m,x,t,g.C a (CZ b g),Ag e a (BY b e),λj c=>⟨(i j c).1.map (λp d=>Ag (v:=p.tv) d a (BY (v:=p.tv) b d)) (λf=>Ag f a (BY b f)),(i j c).2⟩,l⟩)
set_option maxRecDepth 100000
theorem Vl(cb k lad lcp)(g6:kN CQ)(sad scp)(fs:kN D5)(stv r s w)(hk:k<Z g6)(A9:Z g6<=1000)(hC:AF w cb [U lad (Z g6) lcp,U sad (Z fs) scp,stv] 139)(hP:CA w (U lad (Z g6) lcp) g6)(hF:Ic w (U sad (Z fs) scp) fs)(hE:CJ fs s)(a1:Ra g6[k] r s)(A8:Z (SN (Jr (Am r) s) r (CK r) (DE r) s)<=100000):rE rF 167 #[jj (V ⟨cb,0,Y⟩),X J k] w λrr w'=>∃(ad:rB) (cp:Nat) (R:kN Vn),rr=j1 (U ad (Z R) cp)/\R.map (λst=>st.f.f)=(SN (Jr (Am r) s) r (CK r) (DE r) s).map Bn/\
   kt w' w.heap.size 176 4 (U ad (Z R) cp) (Z R) (qS (Lh k) R)/\(∀st∈R,LK w' st/\gQ w.heap.size r s st)/\Ac [] w w':=by
 obtain⟨i0,I0,J3,J2,J5⟩:=mW Tryz.zn;obtain⟨g,p2,S,Q,z,F,E,o,m,C,he,q9,_,_,_,_⟩:=Fs hP k hk;obtain⟨rfl,-,rfl⟩:=qX he;have h7:=hP.j _ (lV hk);rw[q9]at a1 h7;have L6:=hE.len;have J7:=a1.len;have q6:Z z<=1000:=a1.fit.E.2;have u7:jV (∀l,Ac [] w l->rE rF 184 #[ku #[X J S,O Q,U F (Z z) E,U o (Z C) m]] l λe w'=>∃ad cp,e=j1 (U ad (Z (Bl ⟨S,Q,z,U F (Z z) E,U o (Z C) m,C⟩)) cp)/\kt w' 0 215 2 (U ad (Z (Bl ⟨S,Q,z,U F (Z z) E,U o (Z C) m,C⟩)) cp) (Z (Bl ⟨S,Q,z,U F (Z z) E,U o (Z C) m,C⟩)) (qS Ar (Bl ⟨S,Q,z,U F (Z z) E,U o (Z C) m,C⟩))/\Ac [] l w'):=
  λl hk=>(Rx ⟨S,Q,z,U F (Z z) E,U o (Z C) m,C⟩ l (h7.C hk) a1.fit).G λe w' ⟨ad,cp,h1,h2,h3⟩=>⟨ad,cp,h1,Ak h2 (mr _),h3⟩
 have m7:jV (∀ad cp l,kt l 0 215 2 (U ad (Z (Bl ⟨S,Q,z,U F (Z z) E,U o (Z C) m,C⟩)) cp) (Z (Bl ⟨S,Q,z,U F (Z z) E,U o (Z C) m,C⟩)) (qS Ar (Bl ⟨S,Q,z,U F (Z z) E,U o (Z C) m,C⟩))->rE rF 138 #[U ad (Z (Bl ⟨S,Q,z,U F (Z z) E,U o (Z C) m,C⟩)) cp] l λr w'=>∃h6 g8,r=j1 (U h6 (Z (D6 (Bl ⟨S,Q,z,U F (Z z) E,U o (Z C) m,C⟩))) g8)/\kt w' 0 21 1 (U h6 (Z (D6 (Bl ⟨S,Q,z,U F (Z z) E,U o (Z C) m,C⟩))) g8) (Z (D6 (Bl ⟨S,Q,z,U F (Z z) E,U o (Z C) m,C⟩))) (qS AX (D6 (Bl ⟨S,Q,z,U F (Z z) E,U o (Z C) m,C⟩)))/\Ac [] l w'):=
  λad cp l h=>(OX ad cp _ 0 l h a1.zN).G λe w' ⟨ad,cp,h1,h2,h3⟩=>⟨ad,cp,h1,Ak h2 (mr _),h3⟩
 have i6:jV (∀sp I H l,Ac [] w l->AF l sp [jj (V ⟨cb,1,Y⟩),U o (Z C) m,U I (Z (D6 (Bl ⟨S,Q,z,U F (Z z) E,U o (Z C) m,C⟩))) H] 237->kt l 0 21 1 (U I (Z (D6 (Bl ⟨S,Q,z,U F (Z z) E,U o (Z C) m,C⟩))) H) (Z (D6 (Bl ⟨S,Q,z,U F (Z z) E,U o (Z C) m,C⟩))) (qS AX (D6 (Bl ⟨S,Q,z,U F (Z z) E,U o (Z C) m,C⟩)))->eV l sp (Am r) s (CK r++DE r)):=by
  intro sp I H l hk hb hr;have n6:=(hC.C hk).D 1;simp at n6;exact a1.sea (c:=⟨S,Q,z,U F (Z z) E,U o (Z C) m,C⟩) ⟨hb,n6,hF.C hk⟩ (h7.body.C hk) hr hE
 have v4:jV (Z (D6 (Bl ⟨S,Q,z,U F (Z z) E,U o (Z C) m,C⟩))=Z (CK r++DE r)/\Z (CK r++DE r)<=26):=⟨by rw[a1.order,GM],a1.z7⟩;obtain⟨TV,y5⟩:=kQ (Bl ⟨S,Q,z,U F (Z z) E,U o (Z C) m,C⟩);rw[y5]at u7 m7 i6 v4;have I9:jV (∀l,Ac [] w l->rE rF 138 #[U F (Z z) E] l λr' w'=>∃h6 g8,r'=j1 (U h6 (Z (CK r)) g8)/\Ac [] l w'):=λl hk=>(OX F E z 0 l (Ad h7.E hk) lc).G λe w' ⟨ad,cp,h1,h2,h3⟩=>⟨ad,cp,by rw[h1,a1.ofHead,GM],h3⟩
 have A5:∀t∈z,Qq t:=by
  have hh:=a1.zg.zA;simp only at hh;rw[hh];intro t ht;obtain⟨u,hu,rfl⟩:=me.1 ht;exact KJ (a1.E.qH u hu)
 have L2:jV (∀Bx b l,Ac [] w l->Z b=26->AF l Bx (Al b) 243->rE rF 196 #[jj (V ⟨Bx,0,Y⟩),ku #[X J S,O Q,U F (Z z) E]] l λr w'=>∃g,r=j1 (ku #[O Q,U (V ⟨g,0,Y⟩) (Z z) (Z z)])/\C6 w' ⟨⟨Q,z.map (BP b)⟩,U (V ⟨g,0,Y⟩) (Z z) (Z z)⟩/\Ac [] l w'):=by
  intro Bx b l hk hb hB;refine(O7 Bx 243 b S Q F E z 0 l hb hB (Ad h7.E hk) lc A5).G ?_;rintro r w' ⟨g,rfl,hr,k⟩;refine⟨g,rfl,?_,k⟩;show kt w' 0 170 1 _ (Z (z.map (BP b))) _;rw[mh];exact Ak hr (mr _)
 have J8:jV (∀(g:Nat) (ts:kN bN) (f:Ae) l,Ac [] w l->Z ts=Z z->C6 l ⟨⟨Q,ts⟩,U (V ⟨g,0,Y⟩) (Z z) (Z z)⟩->(⟨Q,ts⟩:CE)=Bn f->AG f->rE rF 60 #[jj (V ⟨cb,1,Y⟩),ku #[O Q,U (V ⟨g,0,Y⟩) (Z z) (Z z)]] l λe w'=>e=j1 (kx (C7 s f))/\Ac [] l w'):=by
  intro g ts f l hk N1 u2 hf L1;have n6:=(hC.C hk).D 1;simp at n6;refine(Jt cb 1 sad scp fs ⟨⟨Q,ts⟩,U (V ⟨g,0,Y⟩) (Z z) (Z z)⟩ l n6 (hF.C hk) u2 (by show Z ts<=1000;omega) lc (hE.G _)).G ?_;rintro e w' ⟨p,rfl,o6,k⟩;simp only at o6|-;rw[hf]at o6|-;exact⟨by rw[hE.ze L1 o6],k⟩
 have H9:jV (∀x y WB l,Ac [] w l->x∈Aw (Jr (Am r) s) (Am r) s (CK r) Bm->y∈Aw (Jr (Am r) s) (Am r) s (DE r) x->Z y=26->AF l WB (Al (Bo y)) 243->rE rF 198 #[jj (V ⟨WB,0,Y⟩),U o (Z C) m] l λr' w'=>∃(ad:rB) (n cp:Nat) (ps:kN D5),r'=j1 (U ad n cp)/\(Ic w' (U ad n cp) ps/\n=Z ps/\∀q,(U ad n cp).ownBlock=V q->l.heap.size<=q)/\lG r s (Bn (Av x r.E)) (ps.map D5.f)/\Ac [] l w'):=by
  intro x y WB l hk hx hy c3 hB;have t0:C.map Prod.fst=(Am r).map Mn:=by
   have h2:=F2.fst a1.zg.g;simp only at h2;rw[h2];rfl
  have hl:∀p∈C,Qt p.1:=λp S=>by
   have hm:p.1∈(Am r).map Mn:=by
    rw[<-t0];exact mx S
   obtain⟨x,hx,e1⟩:=me.1 hm;rw[<-e1];exact(a1.g x hx).2
  refine(bU WB 243 (Bo y) o m C l (by unfold Bo;rw[mh];exact c3) hB (h7.body.C hk) a1.fit.g hl).G ?_;rintro e w' ⟨ad,cp,ps,rfl,h1,h2,h3,k⟩;refine⟨ad,Z ps,cp,ps,rfl,⟨h2,rfl,λq hq=>(h3.lt q hq).1⟩,?_,k⟩;rw[h1,t0];exact jl a1 hx hy
 have N6:=Ab a1;have u5:jV (∀b∈Aw (Jr (Am r) s) (Am r) s (CK r) Bm,DA b/\(⟨Q,z.map (BP (Bo b))⟩:CE)=Bn (Av b r.E)/\AG (Av b r.E)):=λb hb=>by
  have s6:=MZ a1.al a1.parts a1.E hb;exact⟨FN a1.al _ _ DA.start b hb,cS a1.zg a1.E s6,GP s6⟩
 have I2:=Ab A8;have N9:=Ab hP;have I8:=Ab hC;have O2:=Ab q9;clear a1 h7 hE hF hC L6 J7 A5 y5 A8;obtain⟨N,hN⟩:=kQ w.heap.size;have HN:=Ab hN;obtain⟨PL,y1⟩:=kQ (Z g6);have J9:jV (∀l,Ac [] w l->jY l ⟨cb,0,Y⟩=V (U (V ⟨g,0,Y⟩) PL lcp)/\jY l ⟨g,k*4,Y⟩=V (X J S)/\jY l ⟨g,k*4+1,Y⟩=V (O Q)/\jY l ⟨g,k*4+2,Y⟩=V (U F (Z z) E)/\jY l ⟨g,k*4+3,Y⟩=V (U o (Z C) m)):=by
  intro l P;obtain⟨g',L8,N4,O1,M4,M8,M1,M3,M0,B6,x9,o5,d0,d1,d2,d3⟩:=Fs (hP.C P) k hk;rw[q9]at o5;simp only[CQ.mk.injEq]at o5;obtain⟨rfl,rfl,rfl,e1,e2,rfl⟩:=o5;simp only[lU,lZ,mR]at x9;obtain⟨⟨rfl,-,-⟩,-,-⟩:=x9;rw[<-e1]at d2;rw[<-e2]at d3;have h0:=(I8.C P).D 0;simp[y1]at h0;exact⟨h0,d0,d1,d2,d3⟩
 have N5:=rJ k
 have O4:(k:Int)<(PL:Int):=lc
 clear hP q9 y1 A9 hN;obtain⟨QQ,r0⟩:∃QQ,KQ (bodyPostM Fence.wide 0 rF Tryz.f167 λrr w'=>∃(ad:rB) (cp:Nat) (R:kN Vn),rr=j1 (U ad (Z R) cp)/\R.map (λst=>st.f.f)=(SN (Jr (Am r) s) r (CK r) (DE r) s).map Bn/\
   kt w' w.heap.size 176 4 (U ad (Z R) cp) (Z R) (qS (Lh k) R)/\(∀st∈R,LK w' st/\gQ w.heap.size r s st)/\Ac [] w w')=QQ:=⟨_,rfl⟩
 have L0:=Ab r0;have a4:jV (∀c a w,¬QQ (.panic c) a w):=by
  intro c a w h;rw[<-r0]at h;exact h
 refine Eb func167 rfl (GD ?_);rw[r0];clear r0;simp only[ntmps167,nu,mn,mI,Nat.reduceAdd,Nat.reduceSub,oF,oG,oX,oM,nk,nS];have q4:=Ab (((kR [] w).alloc (Y6 #[jj (V ⟨cb,0,Y⟩)] 140)).alloc (Y6 #[X J k] 3));have l3:=Ab ((kS w [jj (V ⟨cb,0,Y⟩)] 140).alloc (Y6 #[X J k] 3));have m0:jV (AF ((w.alloc (Y6 #[jj (V ⟨cb,0,Y⟩)] 140)).alloc (Y6 #[X J k] 3)) (w.heap.size+1) [X J k] 3):=by
  have h:=kS (w.alloc (Y6 #[jj (V ⟨cb,0,Y⟩)] 140)) [X J k] 3;rw[mJ]at h;exact h
 refine kI (λK1 a5=>?_);go_wp2;refine a5 _ _ ?_;clear a5 K1;change Code.wp _ _ _ _ ((w.alloc (Y6 #[jj (V ⟨cb,0,Y⟩)] 140)).alloc (Y6 #[X J k] 3));generalize hw1:(w.alloc (Y6 #[jj (V ⟨cb,0,Y⟩)] 140)).alloc (Y6 #[X J k] 3)=w1 at q4 l3 m0|-;have o7:w1.heap.size=w.heap.size+2:=by rw[<-hw1];simp
 clear hw1;rw[Aa HN]at l3 m0 o7|-;have s2:jV (∀l,Ac [] w1 l->Ac [] w1 l/\jY l ⟨N,0,Y⟩=V (jj (V ⟨cb,0,Y⟩))/\jY l ⟨N+1,0,Y⟩=V (X J k)/\jY l ⟨cb,0,Y⟩=V (U (V ⟨g,0,Y⟩) PL lcp)/\jY l ⟨g,k*4,Y⟩=V (X J S)/\jY l ⟨g,k*4+1,Y⟩=V (O Q)/\jY l ⟨g,k*4+2,Y⟩=V (U F (Z z) E)/\jY l ⟨g,k*4+3,Y⟩=V (U o (Z C) m)):=by
  intro l P;have h0:=(l3.C P).D 0;have h1:=(m0.C P).D 0;simp at h0 h1;exact⟨P,h0,h1,J9 l (q4.H P)⟩
 refine kI (λK1 a5=>?_);have L:=Ab (s2 w1.drew (kR [] w1).drew);refine Cx 9 (λl=>Ac [] w1 l/\jY l ⟨N,0,Y⟩=V (jj (V ⟨cb,0,Y⟩))/\jY l ⟨N+1,0,Y⟩=V (X J k)/\jY l ⟨cb,0,Y⟩=V (U (V ⟨g,0,Y⟩) PL lcp)/\jY l ⟨g,k*4,Y⟩=V (X J S)/\jY l ⟨g,k*4+1,Y⟩=V (O Q)/\jY l ⟨g,k*4+2,Y⟩=V (U F (Z z) E)/\jY l ⟨g,k*4+3,Y⟩=V (U o (Z C) m)) lo ?_;refine Cw.tqH (i:=0) (v:=jj (V ⟨cb,0,Y⟩)) rfl (BK a4) L ?_;simp only[kF,lR,lS,lT];refine Cw.tqH (i:=1) (v:=jj (V ⟨cb,0,Y⟩)) rfl (BK a4) L ?_;simp only[kF,lR,lS,lT];refine Cw.tqH (i:=2) (v:=jj (V ⟨cb,0,Y⟩)) rfl (BK a4) L ?_;simp only[kF,lR,lS,lT];refine Cw.tqH (i:=3) (v:=U (V ⟨g,0,Y⟩) PL lcp) rfl (BK a4) L ?_;simp only[kF,lR,lS,lT];refine Cw.tqH (i:=4) (v:=X J k) rfl (BK a4) L ?_;simp only[kF,lR,lS,lT];refine Cw.tqH (i:=5) (v:=jj (V ⟨g,k*4,Y⟩)) rfl (BK a4) L ?_;simp only[kF,lR,lS,lT];refine Cw.tqH (i:=6) (v:=ku #[X J S,O Q,U F (Z z) E,U o (Z C) m]) rfl (BK a4) L ?_;simp only[kF,lR,lS,lT];refine Cw.one (i:=7) lo rfl (λK A=>?_)
 go_simp
 refine A.o _ _ (λ_=>s2 _ ((kR [] w1).drew.alloc _)) ?_;clear A K
 try simp only[kF,lR,lS,lT]
 have d6:=Ab (kS w1.drew [X J 0,O ⟨#[]⟩,U Y 0 0,U Y 0 0] 189);have i9:=Ab ((kR [] w1).drew.alloc (Y6 #[X J 0,O ⟨#[]⟩,U Y 0 0,U Y 0 0] 189));change Cw _ _ _ _ _ _ _ _ _ (w1.drew.alloc (Y6 #[X J 0,O ⟨#[]⟩,U Y 0 0,U Y 0 0] 189));have v5:w1.drew.heap.size=N+2:=o7;rw[v5]at d6;generalize w1.drew.alloc (Y6 #[X J 0,O ⟨#[]⟩,U Y 0 0,U Y 0 0] 189)=w2 at d6 i9|-;obtain⟨q0,q1,q2,q3⟩:=d6.c4;have f0:=d6.qI 0;have f1:=d6.qI 1;have f2:=d6.qI 2;have f3:=d6.qI 3;simp at q0 q1 q2 q3;refine Cw.one (i:=8) lo rfl (λK A=>?_)
 go_simp
 have g9:=Ab (d6.zL rfl (X J S) (O Q) (U F (Z z) E) (U o (Z C) m));have b7:=Ab (i9.zL (N:=N+2) (j3 lc) (X J S) (O Q) (U F (Z z) E) (U o (Z C) m));refine A.o _ _ (λ_=>s2 _ b7) ?_;clear A K;refine Cw.done lo ?_ _
 try simp only[kF,lR,lS,lT]
 generalize(((w2.setCell ⟨N+2,0,Y⟩ (X J S)).setCell ⟨N+2,1,Y⟩ (O Q)).setCell ⟨N+2,2,Y⟩ (U F (Z z) E)).setCell ⟨N+2,3,Y⟩ (U o (Z C) m)=wA at g9 b7|-;refine a5 _ _ ?_;clear a5 K1 L s2 d6 i9 q0 q1 q2 q3 f0 f1 f2 f3;have j8:jV (Ac [] w wA):=q4.H b7;have i8:jV (AF wA N [jj (V ⟨cb,0,Y⟩)] 140/\AF wA (N+1) [X J k] 3/\AF wA (N+2) [X J S,O Q,U F (Z z) E,U o (Z C) m] 189):=⟨l3.C b7,m0.C b7,by have h:=Aa g9;simpa using h⟩;clear g9 b7 q4 l3 m0 o7 v5;have a2:jV (∀l,Ac [] wA l->Ac [] wA l/\jY l ⟨N,0,Y⟩=V (jj (V ⟨cb,0,Y⟩))/\jY l ⟨N+2,0,Y⟩=V (X J S)/\jY l ⟨N+2,1,Y⟩=V (O Q)/\jY l ⟨N+2,2,Y⟩=V (U F (Z z) E)/\jY l ⟨N+2,3,Y⟩=V (U o (Z C) m)):=by
  intro l P;have h0:=(i8.1.C P).D 0;have hb:=i8.2.2.C P;obtain⟨h1,h2,h3,h4⟩:=hb.c4;simp at h0 h1 h2 h3 h4;exact⟨P,h0,h1,h2,h3,h4⟩
 obtain⟨VR,H0⟩:=kQ (D6 TV);rw[H0]at m7 i6 v4;clear H0;refine kI (λK2 l4=>?_);have s1:jV (∀(n5 l2 k0 o9 o0 p0 o8 o2 m5 l0 j6 l7 m2 l6 m4 j7:jR) (I:rB) (H sp tb:Nat) (l:jH),Ac [] wA l->kt l 0 21 1 (U I (Z VR) H) (Z VR) (qS AX VR)->AF l sp [jj (V ⟨cb,1,Y⟩),U o (Z C) m,U I (Z VR) H] 237->AF l tb [jj (V ⟨sp,0,Y⟩)] 233->K2 ⟨#[jj (V ⟨cb,0,Y⟩),X J k,jj (V ⟨N,0,Y⟩),jj (V ⟨N+1,0,Y⟩),U Y 0 0,jj (V ⟨N+2,0,Y⟩),jj (V ⟨tb,0,Y⟩),rH,rH,rH,rH,rH,rH,n5,l2,k0,o9,o0,p0,o8,o2,m5,l0,j6,l7,m2,l6,m4,j7,jj (V ⟨sp,0,Y⟩),rH,rH,rH,rH,rH,rH,rH,rH,rH,rH,rH,rH,rH,rH,rH,rH,rH,rH,rH,rH,rH,rH,rH,rH,rH,rH,rH,rH,rH,rH,rH,rH,rH,rH,rH,rH,rH,rH,rH,rH,rH],[]⟩ l):=by
  intro n5 l2 k0 o9 o0 p0 o8 o2 m5 l0 j6 l7 m2 l6 m4 j7 I H sp tb l P t1 E6 B3;refine l4 _ _ ?_;clear l4 K2;have C8:=Ab (i6 sp I H l (j8.H P) E6 t1);have j4:jV (Ac [] w l):=j8.H P;have j5:jV (AF l N [jj (V ⟨cb,0,Y⟩)] 140/\AF l (N+1) [X J k] 3/\AF l (N+2) [X J S,O Q,U F (Z z) E,U o (Z C) m] 189/\AF l tb [jj (V ⟨sp,0,Y⟩)] 233):=⟨i8.1.C P,i8.2.1.C P,i8.2.2.C P,B3⟩;clear P t1 E6 B3 i6 a2;have e2:=j5.2.2.1.D 2;simp at e2;have z4:=Ab (I9 l j4);refine kI (λK1 a5=>?_);go_wp2_with fail
  refine z4.G ?_;rintro _ v2 ⟨h6,g8,rfl,k2⟩;obtain⟨OH,u6⟩:=kQ (Z (CK r));have q5:=Ab u6;rw[u6];have i9:=Ab k2;clear u6 z4 k2 e2;go_wp2;refine a5 _ _ ?_;clear a5 K1;have e4:=Ab (i9.alloc (Y6 #[X J OH] 3));have r3:=Ab (kS v2 [X J OH] 3);change Code.wp _ _ _ _ (v2.alloc (Y6 #[X J OH] 3));generalize v2.alloc (Y6 #[X J OH] 3)=w3 at e4 r3|-;generalize v2.heap.size=ob at r3|-;have b7:jV (Ac [] w w3):=j4.H e4;have t9:jV (eV w3 sp (Am r) s (CK r++DE r)):=C8.C e4;have g9:jV (∀W,Ac [] w3 W->AF W N [jj (V ⟨cb,0,Y⟩)] 140/\AF W (N+1) [X J k] 3/\AF W (N+2) [X J S,O Q,U F (Z z) E,U o (Z C) m] 189/\AF W tb [jj (V ⟨sp,0,Y⟩)] 233/\AF W ob [X J OH] 3):=λW d7=>⟨(j5.1.C e4).C d7,(j5.2.1.C e4).C d7,(j5.2.2.1.C e4).C d7,(j5.2.2.2.C e4).C d7,r3.C d7⟩
  clear C8 j4 j5 i9 e4 r3 j8 i8;obtain⟨SB,v0⟩:=kQ w3.heap.size;have c4:=Ab v0;have j0:=Ab ((kR [] w3).alloc (Y6 #[U Y 0 0] 137));have p8:=Ab (kS w3 [U Y 0 0] 137);refine kI (λK1 a5=>?_);go_wp2;refine a5 _ _ ?_;clear a5 K1;change Code.wp _ _ _ _ (w3.alloc (Y6 #[U Y 0 0] 137));generalize w3.alloc (Y6 #[U Y 0 0] 137)=w4 at j0 p8|-;rw[v0]at p8;clear v0;have t4:=(g9 w4 j0).2.2.2.1.D 0;have o4:=(g9 w4 j0).2.2.2.2.D 0;simp at t4 o4;have G3:jV (∀l,rE rF 141 #[jj (V ⟨sp,0,Y⟩),X J 0,X J OH,ku (Za (kB 26 (O ⟨#[]⟩)))] l λr w'=>∃b1 b2 b3 b4,r=j1 (.func (.func 176) #[] #[jj (V ⟨b1,0,Y⟩),jj (V ⟨b2,0,Y⟩),jj (V ⟨b3,0,Y⟩),jj (V ⟨b4,0,Y⟩)])/\
    AF w' b1 [jj (V ⟨sp,0,Y⟩)] 233/\AF w' b2 (Al (Bo Bm)) 243/\AF w' b3 [X J ((0:Nat):Int)] 3/\AF w' b4 [X J OH] 3/\(l.heap.size<=b1/\l.heap.size<=b2/\l.heap.size<=b3/\l.heap.size<=b4)/\Ac [] l w'):=λl=>by
   have h:=I1 sp 0 OH (Al (Bo Bm)) l (Bp _) (E9 Bm rfl).1;rw[Lt]at h|-;exact h
  refine kI (λK1 a5=>?_);refine kI (λK5 G5=>?_);go_wp2_with fail
  refine(G3 _).G ?_;rintro _ w5 ⟨d1,d2,d3,d4,rfl,n1,n2,n3,n4,A3,k5⟩;have n8:jV (Ac [] w3 w5):=j0.H k5;have t7:=Ab (p8.C k5);have N8:=k5.size;have M9:=j0.size;have ze:=N3 sp (Am r) s (CK r++DE r) w3 t9 OH (by rw[<-Aa q5,mp];omega) (CK r) 0 Bm d1 d2 d3 d4 w5 [SB] DA.start lc (by rw[<-Aa q5,List.take_left,pG]) ⟨n8,n1,n2,n3,n4,λq hq=>by
   have hb:=p8.lt
   have w8:=Aa c4
   obtain⟨g1,g2,g3,g4⟩:=A3
   simp only[lX]at hq
   subst hq
   exact⟨lc,lc,lc,lc,lc,lc⟩⟩
  have J0:jV (lj w3 k (Jr (Am r) s) r s [] [SB] w5):=⟨n8,[],Y,0,by rw[Aa c4];exact t7,mw _ _ _ _,λst c5=>by simp at c5,rfl,by rw[Aa c4];rfl⟩;have I3:w3.heap.size<=w5.heap.size:=n8.size;have K0:=t7.lt;clear n1 n2 n3 n4 A3 k5 G3 t4 o4 p8 t7 j0;go_wp2;refine G5 _ _ ?_;clear G5 K5;refine wp_block ?_;obtain⟨XS,t6⟩:=kQ (Aw (Jr (Am r) s) (Am r) s (CK r) Bm);have v3:=Ab t6;rw[t6]at ze u5;clear t6;have w7:jV (∀x∈XS,Z x=26):=λx hx=>(u5 x hx).1.len
  refine Ik (T:=243) (q:=9) rfl (enters_of func176 lo rfl) ze (λq hq=>by
   simp only[lX]at hq
   subst hq
   exact K0) (lj w3 k (Jr (Am r) s) r s) (λ_ _ _ _=>False) (lj.own I3) (λ_ _ _ _ _ h _ _=>h) J0 ?rassign ?rbody ?rdone ?rstop
  case rassign=>
   intro l' x W' K hx HK;obtain⟨p9,u4⟩:=E9 x (w7 x hx);obtain⟨EX,e7⟩:=kQ (Al (Bo x));rw[e7]at p9 u4 HK|-;have J4:=Ab u4;have w7:=Ab p9;(have y4:jV (EX.toArray.size=26):=by show _=_;simp[p9]);clear hx e7 p9 u4;simp only[lR,lS,lT]at HK|-;refine AM lx (G8 FY) ?_;go_wp2_with ((with_reducible refine qZ 243 ?_);refine ow rfl 243 _ _ rfl W'.heap.size 0 (Za EX) lx lx ?_ ?_ ?_ ?_)
   .have h:=(kS W' (kB 26 (O ⟨#[]⟩)) 243).there;simp only[oo]at h;rw[Aa y4];exact h
   .rw[Aa y4];exact Tryz.zC
   .exact nH J4
   .refine HK _ (((kR [] W').alloc (Y6 (Za (kB 26 (O ⟨#[]⟩))) 243)).zG (b:=W'.heap.size) (j3 (mt _)) EX 0) ?_;exact(kS W' (kB 26 (O ⟨#[]⟩)) 243).zM EX (by rw[Aa w7];simp)
  case rbody=>
   intro l' Bx e9 x m3 M W' x5 hi hM N0 m1;(have v6:x∈XS:=by rw[x5];simp);obtain⟨r2,p1,p3⟩:=u5 x v6;obtain⟨R,ad,cp,i1,i2,i3,i4,i5⟩:=hi.o;rw[Aa c4]at i1 i2 i5;have J6:jV (Z R<=100000):=by
    have h1:=rk List.length i4;rw[mh,mh]at h1;have h2:=Aa I2;rw[<-TU,Aa v3,x5]at h2;(have h3:Np (Jr (Am r) s) r s (e9++x::m3)=Np (Jr (Am r) s) r s e9++Np (Jr (Am r) s) r s (x::m3):=by unfold Np;rw[oA,mO]);rw[h3,mp]at h2;show Z R<=100000;omega
   have o1:jV (Ac [] w W'):=b7.H hi.C;have e5:=Ab (g9 W' hi.C);have p6:jV (Np (Jr (Am r) s) r s (e9++[x])=Np (Jr (Am r) s) r s e9++if(!C7 s (Av x r.E)&& !(Aw (Jr (Am r) s) (Am r) s (DE r) x).isEmpty)=true then[Av x r.E] else[]):=Zo _ _ _ _ _;have E0:=Ab (L2 Bx (Bo x) W' o1 (IL r2) m1);have r5:=Ab (λg l hk u2=>J8 g (z.map (BP (Bo x))) (Av x r.E) l hk (by rw[mh]) u2 p1 p3);(have s7:x∈Aw (Jr (Am r) s) (Am r) s (CK r) Bm:=by rw[Aa v3];exact v6);(obtain⟨YP,s5⟩:∃YP:kN bN->rD->Prop,YP=λy B=>Z y=26/\(B=true->y∈Aw (Jr (Am r) s) (Am r) s (DE r) x):=⟨_,rfl⟩);(have u8:jV (∀y B,YP y B->Z y=26):=λy B h=>by rw[s5]at h;exact h.1);(have y8:jV (∀y WB l,Ac [] w l->YP y true->AF l WB (Al (Bo y)) 243->rE rF 198 #[jj (V ⟨WB,0,Y⟩),U o (Z C) m] l λr' w'=>∃(ad:rB) (n cp:Nat) (ps:kN D5),r'=j1 (U ad n cp)/\(Ic w' (U ad n cp) ps/\n=Z ps/\∀q,(U ad n cp).ownBlock=V q->l.heap.size<=q)/\lG r s (Bn (Av x r.E)) (ps.map D5.f)/\Ac [] l w'):=λy WB l hk hy hB=>H9 x y WB l hk s7 (by rw[s5]at hy;exact hy.2 rfl) (u8 y true hy) hB);(have p7:jV (∀l,Ac [] W' l->rE rF 197 #[jj (V ⟨sp,0,Y⟩),X J OH,X J (Z (CK r++DE r)),ku (Za (Al (Bo x)))] l λr' w'=>∃(y:kN bN) (B:rD),r'=j1 (.tuple #[ku (Za (Al (Bo y))),kx B])/\YP y B/\B= !(Aw (Jr (Am r) s) (Am r) s (DE r) x).isEmpty/\Ac [] l w'):=λl hk=>(cY sp (Am r) s (CK r++DE r) OH (Z (CK r++DE r)) (DE r) x l (t9.C (hi.C.H hk)) r2 (by rw[<-Aa q5,mp];omega) (mt _) (by rw[nw,<-Aa q5,List.drop_left])).G λr' w' ⟨y,B,h1,h2,h3,h4,h5⟩=>⟨y,B,h1,by rw[s5];exact⟨h2,h4⟩,h3,h5⟩);clear s5 s7;have r4:=Ab hi;have r7:=Ab p1;have K4:=Ab (IL r2);have A6:=Ab m1;have H1:=Ab i1;have H2:=Ab i2;have H3:=Ab i3;have H4:=Ab i4;have H5:=Ab i5;clear hi x5 hM m1 r2 p1 p3 i1 i2 i3 i4 i5 v6;obtain⟨EX,e7⟩:=kQ (Al (Bo x));have N2:=Ab e7;rw[e7]at p7 A6;simp only[e7];(have L7:jV (Z EX=26):=by show _=_;rw[<-e7];unfold Al;rw[mh];exact K4);clear e7;obtain⟨HF,C2⟩:=kQ (C7 s (Av x r.E));rw[C2]at p6 r5;clear C2;obtain⟨RE,z2⟩:=kQ (Aw (Jr (Am r) s) (Am r) s (DE r) x).isEmpty;rw[z2]at p6 p7;clear z2;obtain⟨FA,C1⟩:=kQ (Av x r.E);rw[C1]at p6 r7 y8;clear C1;obtain⟨VL,w9⟩:=kQ (Z (CK r++DE r));have G2:=Ab w9;rw[w9]at p7 v4;clear w9;simp only[lR,lS,lT];have x0:=e5.2.2.1.D 0;have x1:=e5.2.2.1.D 1;have x2:=e5.2.2.1.D 2;simp at x0 x1 x2;refine wpIn_block ?_;refine nK (λK7 F4=>?_);have C3:=Ab F4;clear F4;refine AM lx lB ?_;(go_wp2_with fail);refine E0.G ?_;rintro _ v7 ⟨g7,rfl,t2,k7⟩;have i7:=Ab (k7.alloc (Y6 #[O Q,U (V ⟨g7,0,Y⟩) (Z z) (Z z)] 104));have o3:=Ab (kS v7 [O Q,U (V ⟨g7,0,Y⟩) (Z z) (Z z)] 104);have q7:jV (C6 (v7.alloc (Y6 #[O Q,U (V ⟨g7,0,Y⟩) (Z z) (Z z)] 104)) ⟨⟨Q,z.map (BP (Bo x))⟩,U (V ⟨g7,0,Y⟩) (Z z) (Z z)⟩):=t2.C ((kR [] v7).alloc _);clear E0 t2 k7 x0 x1 x2;obtain⟨TS,u0⟩:=kQ (z.map (BP (Bo x)));(have I6:jV (Z TS=Z z):=by show _=_;rw[<-u0,mh]);rw[u0]at q7 r5 r7;clear u0;go_wp2;refine C3 _ _ ?_;clear C3 K7;change Code.wpIn _ _ _ _ _ _ (v7.alloc (Y6 #[O Q,U (V ⟨g7,0,Y⟩) (Z z) (Z z)] 104));generalize v7.alloc (Y6 #[O Q,U (V ⟨g7,0,Y⟩) (Z z) (Z z)] 104)=v8 at i7 o3 q7|-;generalize v7.heap.size=HB at o3|-;have F1:jV (∀l,Ac [] v8 l->Ac [] v8 l/\jY l ⟨N,0,Y⟩=V (jj (V ⟨cb,0,Y⟩))/\jY l ⟨HB,0,Y⟩=V (O Q)/\jY l ⟨HB,1,Y⟩=V (U (V ⟨g7,0,Y⟩) (Z z) (Z z))):=by
    intro l P;have h0:=(e5.1.C (i7.H P)).D 0;have h1:=(o3.C P).D 0;have h2:=(o3.C P).D 1;simp at h0 h1 h2;exact⟨P,h0,h1,h2⟩
   have L:=Ab (F1 v8.drew (kR [] v8).drew);refine nK (λK8 C9=>?_);have E5:=Ab C9;clear C9;refine nK (λK1 p5=>?_);have d9:=Ab p5;clear p5;refine DZ 5 (λl=>Ac [] v8 l/\jY l ⟨N,0,Y⟩=V (jj (V ⟨cb,0,Y⟩))/\jY l ⟨HB,0,Y⟩=V (O Q)/\jY l ⟨HB,1,Y⟩=V (U (V ⟨g7,0,Y⟩) (Z z) (Z z))) lo lx lB ?_;refine Cw.tqH (i:=0) (v:=jj (V ⟨cb,0,Y⟩)) rfl (λ_ _ _ h=>h) L ?_;simp only[kF,lR,lS,lT];refine Cw.tqH (i:=1) (v:=jj (V ⟨cb,0,Y⟩)) rfl (λ_ _ _ h=>h) L ?_;simp only[kF,lR,lS,lT];refine Cw.tqH (i:=2) (v:=jj (V ⟨cb,1,Y⟩)) rfl (λ_ _ _ h=>h) L ?_;simp only[kF,lR,lS,lT];refine Cw.tqH (i:=3) (v:=ku #[O Q,U (V ⟨g7,0,Y⟩) (Z z) (Z z)]) rfl (λ_ _ _ h=>h) L ?_;simp only[kF,lR,lS,lT];refine Cw.one (i:=4) lo rfl (λK A=>?_)
   go_simp
   refine(r5 g7 _ (o1.H (i7.H (kR [] v8).drew)) (q7.C (kR [] v8).drew)).G ?_;rintro _ v9 ⟨rfl,k9⟩;have s0:jV (Ac [] v8 v9):=(kR [] v8).drew.H k9;refine A.o _ _ (λ_=>F1 _ s0) ?_;clear A K k9;refine Cw.done lo ?_ _
   try simp only[kF,lR,lS,lT]
   refine d9 _ _ ?_;clear d9 K1 L r5;have e3:jV (Ac [] W' v9):=i7.H s0;have D3:jV (∀(a:Act) (l:jH),Ac [] W' l->(!HF&& !RE)=false->Mi (lj w3 k (Jr (Am r) s) r s) (λ_ _ _ _=>False) (e9++[x]) M W' .normal a l):=by
    intro a l P hb;have E4:=Bz (lj.own (mt w3.heap.size)) (s:=(e9,M)) r4 P;obtain⟨A7,h6,g8,g1,g2,g3,g4,g5⟩:=E4.o;refine⟨P.G ln,M,⟨E4.C,A7,h6,g8,g1,g2,g3,?_,g5⟩,λq hq=>⟨j2 hq,?_⟩⟩
    .rw[g4,Aa p6,hb,mm ln,mQ]
    .have v5:=P.size;rw[Aa H5]at hq;rcases l9.1 hq with rfl|hq
     .have:=H1.lt;omega
     .have:=(H2.lt q (by simpa using hq)).2;omega
   cases HF with
   |true=>
    refine pm rfl (wpIn_exit ?_);exact D3 ⟨#[],[]⟩ _ e3 ln
   |false=>
    refine pg rfl (wpIn_skip ?_);refine E5 _ _ ?_;clear E5 K8;have z0:jV (∃kb ko bv og oc,AF W' sp [jj (V ⟨kb,ko,Y⟩),bv,U og VL oc] 237):=by
     obtain⟨kb,ko,O0,N7,B6,y6,G4,M7,M2,O3,h1,_⟩:=(t9.C r4.C).e;have hb:=h1.zJ;rw[GM,Aa G2]at hb;exact⟨kb,ko,_,y6,G4,hb⟩
    obtain⟨kb,ko,bv,og,oc,w8⟩:=Aa z0;have I5:=Ab w8;clear w8 z0;have b9:jV (∀l,Ac [] v9 l->l.rangeAt Bx 0 EX/\Ac [] v9 l/\jY l ⟨tb,0,Y⟩=V (jj (V ⟨sp,0,Y⟩))/\jY l ⟨ob,0,Y⟩=V (X J OH)/\jY l ⟨sp,2,Y⟩=V (U og VL oc)):=by
     intro l P;have hk:=e3.H P;have h0:=(e5.2.2.2.1.C hk).D 0;have h1:=(e5.2.2.2.2.C hk).D 0;have h2:=(I5.C hk).D 2;simp at h0 h1 h2;exact⟨(A6.C hk).range,P,h0,h1,h2⟩
    refine nK (λK9 F8=>?_);have n9:=Ab F8;clear F8;have E1:jV (∀(n5 l2 k0 o9 o0 p0 o8 o2 m5 l0 j6 l7 m2 l6 m4 j7 z9 G7 G0 A0 H6 z1 F0 D1 y0 E2 B7 x8 z3 E3 C5 y2 F3 B5 A2 D0 B0 z8 C4 G9 D4 F5 F6 y9 G1 A4 B9 z7 D8 D7 E7 F9 B1 E8 x7 B2 F7 C0:jR) (WB:Nat) (B:rD) (y:kN bN) (l:jH),Ac [] v9 l->YP y B->AF l WB (Al (Bo y)) 243->B= !RE->K9 ⟨#[jj (V ⟨cb,0,Y⟩),X J k,jj (V ⟨N,0,Y⟩),jj (V ⟨N+1,0,Y⟩),U Y 0 0,jj (V ⟨N+2,0,Y⟩),jj (V ⟨tb,0,Y⟩),jj (V ⟨ob,0,Y⟩),jj (V ⟨SB,0,Y⟩),jj (V ⟨Bx,0,Y⟩),jj (V ⟨HB,0,Y⟩),jj (V ⟨WB,0,Y⟩),kx B,n5,l2,k0,o9,o0,p0,o8,o2,m5,l0,j6,l7,m2,l6,m4,j7,z9,G7,G0,A0,H6,z1,F0,D1,y0,E2,B7,x8,z3,E3,C5,y2,F3,B5,A2,D0,B0,z8,C4,G9,D4,F5,F6,y9,G1,A4,B9,z7,D8,D7,E7,F9,B1,E8,x7,B2,F7,C0],[]⟩ l):=by
     intro n5 l2 k0 o9 o0 p0 o8 o2 m5 l0 j6 l7 m2 l6 m4 j7 z9 G7 G0 A0 H6 z1 F0 D1 y0 E2 B7 x8 z3 E3 C5 y2 F3 B5 A2 D0 B0 z8 C4 G9 D4 F5 F6 y9 G1 A4 B9 z7 D8 D7 E7 F9 B1 E8 x7 B2 F7 C0 WB B y l P c3 a6 hB;refine n9 _ _ ?_;clear n9 K9;have j4:=Ab P;have J1:=Ab c3;have K6:=Ab a6;have d8:jV (Ac [] W' l):=e3.H P;clear P c3 a6;refine nK (λK1 p5=>?_);have d9:=Ab p5;clear p5;refine AM lx lB ?_;go_wp2;refine d9 _ _ ?_;clear d9 K1;cases RE with
     |true=>
      subst hB;refine pg rfl (wpIn_skip ?_);exact D3 ⟨#[],[]⟩ _ d8 ln
     |false=>
      subst hB;refine pm rfl ?_;have x6:=Ab (λwy (hk:Ac [] l wy)=>y8 y WB wy (o1.H (d8.H hk)) J1 (K6.C hk));obtain⟨SL,h8⟩:=kQ (Z R);have n0:=Ab h8;have j9:jV (∀wy,Ac [] l wy->AF wy SB [U ad SL cp] 137/\AF wy HB [O Q,U (V ⟨g7,0,Y⟩) (Z z) (Z z)] 104/\AF wy (N+1) [X J k] 3/\AF wy (N+2) [X J S,O Q,U F (Z z) E,U o (Z C) m] 189):=by
       intro wy hk;have d7:=d8.H hk;have h0:=H1.C d7;rw[h8]at h0;exact⟨h0,o3.C ((s0.H j4).H hk),e5.2.1.C d7,e5.2.2.1.C d7⟩
      have Df:jV (∀wy,AF wy SB [U ad SL cp] 137/\AF wy HB [O Q,U (V ⟨g7,0,Y⟩) (Z z) (Z z)] 104/\AF wy (N+1) [X J k] 3/\AF wy (N+2) [X J S,O Q,U F (Z z) E,U o (Z C) m] 189->jY wy ⟨SB,0,Y⟩=V (U ad SL cp)/\jY wy ⟨HB,0,Y⟩=V (O Q)/\jY wy ⟨HB,1,Y⟩=V (U (V ⟨g7,0,Y⟩) (Z z) (Z z))/\jY wy ⟨N+1,0,Y⟩=V (X J k)/\jY wy ⟨N+2,3,Y⟩=V (U o (Z C) m)):=by
       rintro wy ⟨b0,b1,b2,b3⟩;have h0:=b0.D 0;obtain⟨h1,h2⟩:=b1.c2;have h3:=b2.D 0;have h4:=b3.D 3;simp at h0 h1 h2 h3 h4;exact⟨h0,h1,h2,h3,h4⟩
      clear h8;have L:=Ab (Df l.drew (j9 _ (kR [] l).drew));refine DZ 9 (λwy=>jY wy ⟨SB,0,Y⟩=V (U ad SL cp)/\jY wy ⟨HB,0,Y⟩=V (O Q)/\jY wy ⟨HB,1,Y⟩=V (U (V ⟨g7,0,Y⟩) (Z z) (Z z))/\jY wy ⟨N+1,0,Y⟩=V (X J k)/\jY wy ⟨N+2,3,Y⟩=V (U o (Z C) m)) lo lx lB ?_;refine Cw.tq (i:=0) (v:=U ad SL cp) rfl (λ_ _ _ h=>h) L ?_;simp only[kF,lR,lS,lT];refine Cw.tq (i:=1) (v:=ku #[O Q,U (V ⟨g7,0,Y⟩) (Z z) (Z z)]) rfl (λ_ _ _ h=>h) L ?_;simp only[kF,lR,lS,lT];refine Cw.tq (i:=2) (v:=X J k) rfl (λ_ _ _ h=>h) L ?_;simp only[kF,lR,lS,lT];refine Cw.tq (i:=3) (v:=jj (V ⟨N+2,3,Y⟩)) rfl (λ_ _ _ h=>h) L ?_;simp only[kF,lR,lS,lT];refine Cw.tq (i:=4) (v:=U o (Z C) m) rfl (λ_ _ _ h=>h) L ?_;simp only[kF,lR,lS,lT];refine Cw.one (i:=5) lo rfl (λK A=>?_)
      go_simp
      refine(x6 _ (kR [] l).drew).G ?_;rintro _ u1 ⟨f7,nn,f5,I7,rfl,t3,s9,w0⟩;have B4:=Ab t3;have z5:=Ab s9;clear t3 s9;have k1:Ac [] l u1:=(kR [] l).drew.H w0;refine A.o _ _ (λ_=>Df _ (j9 _ k1)) ?_;clear A K
      try simp only[kF,lR,lS,lT]
      have D2:=Ab (Df _ (j9 _ k1));refine Cw.tq (i:=6) (v:=ku #[O Q,U (V ⟨g7,0,Y⟩) (Z z) (Z z),X J k,U f7 nn f5]) rfl (λ_ _ _ h=>h) D2 ?_;simp only[kF,lR,lS,lT];refine Cw.one (i:=7) lo rfl (λK A=>?_)
      go_simp
      have k2:=k1.alloc (Y6 #[O Q,U (V ⟨g7,0,Y⟩) (Z z) (Z z),X J k,U f7 nn f5] 176);refine A.o _ _ (λ_=>Df _ (j9 _ k2)) ?_;clear A K
      try simp only[kF,lR,lS,lT]
      have e6:Ac [] W' u1:=d8.H k1;have d5:kt u1 SB 176 4 (U ad SL cp) SL (qS (Lh k) R):=by
       have h:=Ad H2 e6;rw[Aa n0]at h;exact h
      (have L9:SB+1<=u1.heap.size:=by have h1:=H1.lt;have h2:=e6.size;omega);(have M5:SL<=100000:=by have:=Aa J6;have:=Aa n0;omega);refine Cw.one (i:=8) lo rfl (λK A=>?_);refine oJ _ lx _ _ _ lx SB 176 i0 _ 4 72 underlying137 I0 J3 J2 J5 rfl lc (U ad SL cp) SL (qS (Lh k) R) lx (mg d5 _)
       ⟨u1.heap.size,0,Y⟩ 1 1 [O Q,U (V ⟨g7,0,Y⟩) (Z z) (Z z),X J k,U f7 nn f5] lx lx (mz (mG u1 _)) lC
       lc lw lc li (u1.heap.size+1) ln ?_
      intro gg p2 u3 f4 a7 y3 M6;(have s3:∀{b:Nat} {cs:kN jR} {t:TypeId},AF u1 b cs t->176≠t->(U ad SL cp).ownBlock≠V b:=λhb b5=>Ap d5 hb b5);have e8:=Aa j9 u1 k1;have G6:AF u3 SB [U ad SL cp] 137/\AF u3 HB [O Q,U (V ⟨g7,0,Y⟩) (Z z) (Z z)] 104/\AF u3 (N+1) [X J k] 3/\AF u3 (N+2) [X J S,O Q,U F (Z z) E,U o (Z C) m] 189:=⟨(e8.1.alloc _).grown a7 (s3 e8.1 lu),(e8.2.1.alloc _).grown a7 (s3 e8.2.1 lu),(e8.2.2.1.alloc _).grown a7 (s3 e8.2.2.1 lu),(e8.2.2.2.alloc _).grown a7 (s3 e8.2.2.2 lu)⟩;have c7:=G6.1;have kM:Ac (SB::qV (qW (U ad SL cp))) W' u3:=((e6.G ln).alloc (Y6 #[O Q,U (V ⟨g7,0,Y⟩) (Z z) (Z z),X J k,U f7 nn f5] 176)).grown a7 (λq hq=>j2 (mP _ (by simpa using hq)));refine A.o _ _ (λ_=>Df _ G6) ?_;clear A K
      try simp only[kF,lR,lS,lT]
      have c8:=c7.D 0;have f8:=c7.qI 0;simp at c8;refine Cw.one (i:=9) lo rfl (λK A=>?_)
      go_simp
      refine A.o _ _ (λh=>rl rfl h) ?_;clear A K;refine Cw.done lo ?_ _;have m6:=Aa H5;rw[Aa n0]at m6;have D9:Ac M W' (u3.setCell ⟨SB,0,Y⟩ (U (V ⟨gg,0,Y⟩) (SL+1) p2)):=by
       rw[m6];exact kM.setCell (p:=⟨SB,0,Y⟩) (j2 (m9 ..)) _
      have B8:∀q∈M,SB<=q:=by
       intro q hq;rw[m6]at hq;rcases l9.1 hq with rfl|hq
       .exact mt _
       .exact(d5.lt q (by simpa using hq)).1
      have c2:∀{b e sz n:Nat} {v:jR} {ys:kN jR},kt u1 b e sz v n ys->e≠176->e≠137->kt (u3.setCell ⟨SB,0,Y⟩ (U (V ⟨gg,0,Y⟩) (SL+1) p2)) b e sz v n ys:=fun{b e sz n v ys} hr h1 h2=>by
       have r1:=nF (v:=v) (mg (v:=v) hr _) a7 (by
        cases L4:v.ownBlock with
        |none=>exact j2 rfl
        |some q=>exact j3 (λe=>Be hr d5 h1 q L4 e.symm))
       exact Ah r1 (Ap r1 c7 h2) _
      have I4:C6 u1 ⟨⟨Q,TS⟩,U (V ⟨g7,0,Y⟩) (Z z) (Z z)⟩:=q7.C ((s0.H j4).H k1);refine⟨D9,SB::[gg],⟨r4.C.trans' D9 (λq hq=>j3 (by have:=B8 q hq;have:=Aa c4;omega)),R++[⟨⟨⟨Q,TS⟩,U (V ⟨g7,0,Y⟩) (Z z) (Z z)⟩,U f7 nn f5,I7⟩],V ⟨gg,0,Y⟩,p2,?_,?_,?_,?_,?_⟩,?_⟩
      .rw[Aa c4,mp,Aa n0];exact c7.set 0 _
      .rw[Aa c4,mp,Aa n0,mD];have h:=Ah f4 (Ap f4 c7 lu) (p:=⟨SB,0,Y⟩) (U (V ⟨gg,0,Y⟩) (SL+1) p2);exact h
      .intro st c5;rcases mi.1 c5 with h|h
       .exact⟨((H3 st h).1.C e6).map (λp S=>c2 (v:=p.tv) S lu lu) (λhr=>c2 hr lu lu),(H3 st h).2⟩
       .simp only[lX]at h;subst h;obtain⟨q1,q2,q3⟩:=B4;refine⟨⟨c2 I4 lu lu,by show Z TS<=1000;have:=Aa I6;omega,⟨c2 q1.row lu lu,λp S=>⟨c2 (v:=p.tv) (q1.j p S).1 lu lu,(q1.j p S).2⟩⟩,f7,f5,by show U f7 nn f5=_;rw[q2]⟩,λq hq=>?_,?_⟩
        .have h1:l.heap.size<=q:=q3 q hq;have h2:=r4.C.size;have h3:=d8.size;omega
        .show lG r s (⟨Q,TS⟩:CE) _;rw[Aa r7];exact z5
      .rw[mO,Aa H4,Aa p6,mo lx,mO];simp only[mA,om];rw[Aa r7]
      .rw[Aa c4,mp];rfl
      .intro q hq;have h3:=c7.lt;rcases l9.1 hq with rfl|hq
       .exact⟨j2 (by rw[m6];exact m9 ..),li⟩
       .simp only[lX]at hq;subst hq;have h4:=(f4.lt q rfl).2;refine⟨?_,li⟩;rcases y3 with h|h
        .exact j2 (by rw[m6];exact mP _ (by rw[h];simp))
        .exact j3 (by have:=e6.size;omega)
    clear n9;have L:=Ab (b9 v9.drew (kR [] v9).drew);refine DZ 15 (λl=>l.rangeAt Bx 0 EX/\Ac [] v9 l/\jY l ⟨tb,0,Y⟩=V (jj (V ⟨sp,0,Y⟩))/\jY l ⟨ob,0,Y⟩=V (X J OH)/\jY l ⟨sp,2,Y⟩=V (U og VL oc)) lo lx lB ?_;refine Cw.tqH (i:=0) (v:=jj (V ⟨sp,0,Y⟩)) rfl (λ_ _ _ h=>h) L ?_;simp only[kF,lR,lS,lT];refine Cw.tqH (i:=1) (v:=X J OH) rfl (λ_ _ _ h=>h) L ?_;simp only[kF,lR,lS,lT];refine Cw.tqH (i:=2) (v:=jj (V ⟨sp,0,Y⟩)) rfl (λ_ _ _ h=>h) L ?_;simp only[kF,lR,lS,lT];refine Cw.tqH (i:=3) (v:=jj (V ⟨sp,0,Y⟩)) rfl (λ_ _ _ h=>h) L ?_;simp only[kF,lR,lS,lT];refine Cw.tqH (i:=4) (v:=jj (V ⟨sp,2,Y⟩)) rfl (λ_ _ _ h=>h) L ?_;simp only[kF,lR,lS,lT];refine Cw.tqH (i:=5) (v:=U og VL oc) rfl (λ_ _ _ h=>h) L ?_;simp only[kF,lR,lS,lT];refine Cw.tqH (i:=6) (v:=X J VL) rfl (λ_ _ _ h=>h) L ?_;simp only[kF,lR,lS,lT];refine Cw.yD (i:=7) (v:=ku (Za EX)) rfl lo lo lo lu (λ_ _ _ h=>h) L (yieldsIf_load_mid lx 243 _ rfl Bx 0 lx EX _ (λl hz=>hz.1) underlying243 rfl (by rw[Aa L7];exact Tryz.zC)) ?_;simp only[kF,lR,lS,lT];have c0:Ac [] v9 v9.drew:=(kR [] v9).drew;generalize v9.drew=x0 at c0 L|-;refine Cw.two (i:=8) (j:=12) lo rfl rfl (λK A=>?_) (λK A=>?_)
    .go_simp
     refine(p7 _ (e3.H c0)).G ?_;rintro _ x2 ⟨y,B,rfl,c3,hB,r9⟩;have t8:=Ab hB;clear hB;have k8:Ac [] v9 x2:=c0.H r9;refine A.o _ _ (λ_=>b9 _ k8) ?_;clear A K
     try simp only[kF,lR,lS,lT]
     obtain⟨g0,n7⟩:=E9 y (u8 y B c3);obtain⟨EY,h9⟩:=kQ (Al (Bo y));have v1:=Ab h9;rw[h9]at g0 n7|-;clear h9;have c1:=Ab (b9 _ k8);refine Cw.tqH (i:=9) (v:=.tuple #[ku (Za EY),kx B]) rfl (λ_ _ _ h=>h) c1 ?_;simp only[kF,lR,lS,lT];refine Cw.tqH (i:=10) (v:=ku (Za EY)) rfl (λ_ _ _ h=>h) c1 ?_;simp only[kF,lR,lS,lT];refine Cw.tqH (i:=11) (v:=kx B) rfl (λ_ _ _ h=>h) c1 ?_;simp only[kF,lR,lS,lT];refine Cw.one (i:=12) lo rfl (λK A=>?_)
     go_simp
     have e0:=k8.alloc (Y6 (Za (kB 26 (O ⟨#[]⟩))) 243);refine A.o _ _ (λ_=>b9 _ e0) ?_;clear A K
     try simp only[kF,lR,lS,lT]
     have a6:=kS x2 (kB 26 (O ⟨#[]⟩)) 243;have a3:v9.heap.size<=x2.heap.size:=k8.size;change Cw _ _ _ _ _ _ _ _ _ (x2.alloc (Y6 (Za (kB 26 (O ⟨#[]⟩))) 243));generalize x2.heap.size=WB at a6 a3|-;generalize x2.alloc (Y6 (Za (kB 26 (O ⟨#[]⟩))) 243)=x3 at e0 a6|-;clear k8;have k8:=e0;(have p4:EY.toArray.size=26:=by simp[g0]);have q6:x3.there WB 0 EY.toArray.size:=by
      have h:=a6.there;simp only[oo]at h;rw[p4];exact h
     have c9:=k8.zG (b:=WB) (j3 a3) EY 0;have k6:=a6.zM EY (by rw[g0];simp);refine Cw.one (i:=13) lo rfl (λK A=>?_);rw[mo lx];refine wp_store_mid 243 _ _ rfl WB 0 (Za EY) lx lx q6 (by rw[p4];exact Tryz.zC) (nH n7) ?_;simp only[pr];refine A.o _ _ (λ_=>b9 _ c9) ?_;clear A K;generalize x3.setCells WB 0 EY=x4 at c9 k6|-
     try simp only[kF,lR,lS,lT]
     refine Cw.one (i:=14) lo rfl (λK A=>?_)
     go_simp
     refine A.o _ _ (λ_=>b9 _ c9) ?_;clear A K;refine Cw.done lo ?_ _
     try simp only[kF,lR,lS,lT]
     exact E1 _ _ _ _ _ _ _ _ _ _ _ _ _ _ _ _ _ _ _ _ _ _ _ _ _ _ _ _ _ _ _ _ _ _ _ _ _ _ _ _ _ _ _ _ _ _ _ _ _ _ _ _ _ _ _ _ _ _ WB B y _ c9 c3 (by rw[Aa v1];exact k6) t8
    .go_simp
     have e0:=c0.alloc (Y6 (Za (kB 26 (O ⟨#[]⟩))) 243);refine A.o _ _ (λ_=>b9 _ e0) ?_;clear A K
     try simp only[kF,lR,lS,lT]
     have a6:=kS x0 (kB 26 (O ⟨#[]⟩)) 243;have a3:v9.heap.size<=x0.heap.size:=c0.size;change Cw _ _ _ _ _ _ _ _ _ (x0.alloc (Y6 (Za (kB 26 (O ⟨#[]⟩))) 243));generalize x0.heap.size=WB at a6 a3|-;generalize x0.alloc (Y6 (Za (kB 26 (O ⟨#[]⟩))) 243)=x1 at e0 a6|-;refine Cw.one (i:=8) lo rfl (λK A=>?_)
     go_simp
     refine(p7 _ (e3.H e0)).G ?_;rintro _ x2 ⟨y,B,rfl,c3,hB,r9⟩;have t8:=Ab hB;clear hB;have k8:Ac [] v9 x2:=e0.H r9;have a6:=a6.C r9;refine A.o _ _ (λ_=>b9 _ k8) ?_;clear A K
     try simp only[kF,lR,lS,lT]
     obtain⟨g0,n7⟩:=E9 y (u8 y B c3);obtain⟨EY,h9⟩:=kQ (Al (Bo y));have v1:=Ab h9;rw[h9]at g0 n7|-;clear h9;have c1:=Ab (b9 _ k8);refine Cw.tqH (i:=9) (v:=.tuple #[ku (Za EY),kx B]) rfl (λ_ _ _ h=>h) c1 ?_;simp only[kF,lR,lS,lT];refine Cw.tqH (i:=10) (v:=ku (Za EY)) rfl (λ_ _ _ h=>h) c1 ?_;simp only[kF,lR,lS,lT];refine Cw.tqH (i:=11) (v:=kx B) rfl (λ_ _ _ h=>h) c1 ?_;simp only[kF,lR,lS,lT];(have p4:EY.toArray.size=26:=by simp[g0]);have q6:x2.there WB 0 EY.toArray.size:=by
      have h:=a6.there;simp only[oo]at h;rw[p4];exact h
     have c9:=k8.zG (b:=WB) (j3 a3) EY 0;have k6:=a6.zM EY (by rw[g0];simp);refine Cw.one (i:=13) lo rfl (λK A=>?_);rw[mo lx];refine wp_store_mid 243 _ _ rfl WB 0 (Za EY) lx lx q6 (by rw[p4];exact Tryz.zC) (nH n7) ?_;simp only[pr];refine A.o _ _ (λ_=>b9 _ c9) ?_;clear A K;generalize x2.setCells WB 0 EY=x4 at c9 k6|-
     try simp only[kF,lR,lS,lT]
     refine Cw.one (i:=14) lo rfl (λK A=>?_)
     go_simp
     refine A.o _ _ (λ_=>b9 _ c9) ?_;clear A K;refine Cw.done lo ?_ _
     try simp only[kF,lR,lS,lT]
     exact E1 _ _ _ _ _ _ _ _ _ _ _ _ _ _ _ _ _ _ _ _ _ _ _ _ _ _ _ _ _ _ _ _ _ _ _ _ _ _ _ _ _ _ _ _ _ _ _ _ _ _ _ _ _ _ _ _ _ _ WB B y _ c9 c3 (by rw[Aa v1];exact k6) t8
  case rdone=>
   intro D M' W2 hD hi hd _;obtain⟨R,ad,cp,i1,i2,i3,i4,i5⟩:=hi.o;rw[Aa c4]at i1 i2;obtain⟨SL,h8⟩:=kQ (Z R);have c8:=i1.D 0;simp[h8]at c8;have y7:jV (∀m8:Array jR,m8.getD 4 rH=U ad SL cp->QQ .ret ⟨m8,[EJ D]⟩ W2):=by
    intro m8 h4;rw[<-Aa L0];have z6:Dy w.heap.size [D] W2:=⟨ln,λd r6=>by simp only[lX]at r6;have:=b7.size;omega,λd r6=>by simp only[lX]at r6;rw[r6];exact hd⟩;refine Dh [D] W2 z6 (λw' hs=>?_);have H7:OwnFrom w.heap.size (fun(_:Unit) W=>kt W SB 176 4 (U ad (Z R) cp) (Z R) (qS (Lh k) R)/\(∀st∈R,LK W st/\gQ w.heap.size r s st)/\Ac [] w W):=BF (λ_ W W' M h kk hM=>⟨Ag h.1 kk (BY hM h.1),λst c5=>⟨(h.2.1 st c5).1.map (λp S=>Ag (v:=p.tv) S kk (BY (v:=p.tv) hM S)) (λhr=>Ag hr kk (BY hM hr)),(h.2.1 st c5).2⟩,DK h.2.2 kk hM (mt _)⟩);obtain⟨g1,g2,g3⟩:=hs.own H7 (s:=()) z6 ⟨i2,λst c5=>⟨(i3 st c5).1,λq hq=>by have:=(i3 st c5).2.1 q hq;have:=b7.size;omega,(i3 st c5).2.2⟩,b7.H hi.C⟩;refine⟨_,results_tmp rfl _ _ _,ad,cp,R,by rw[h4,h8],?_,Ak g1 (by have:=b7.size;have:=Aa c4;omega),g2,g3⟩;rw[i4,<-Aa v3,TU]
   clear i1 i2 i3 i4 i5 h8 hi hd ze;refine a5 _ _ ?_;clear a5;refine kI (λK3 s8=>?_);go_wp2;refine s8 _ _ ?_;clear s8 K3;refine wp_ret ?_;exact y7 _ rfl
  case rstop=>
   intro D c e9 M' W2 _ h _;exact h.elim
 clear l4;have L:=Ab (a2 wA.drew (kR [] wA).drew);refine Cx 12 (λl=>Ac [] wA l/\jY l ⟨N,0,Y⟩=V (jj (V ⟨cb,0,Y⟩))/\jY l ⟨N+2,0,Y⟩=V (X J S)/\jY l ⟨N+2,1,Y⟩=V (O Q)/\jY l ⟨N+2,2,Y⟩=V (U F (Z z) E)/\jY l ⟨N+2,3,Y⟩=V (U o (Z C) m)) lo ?_;refine Cw.tqH (i:=0) (v:=jj (V ⟨cb,0,Y⟩)) rfl (BK a4) L ?_;simp only[kF,lR,lS,lT];refine Cw.tqH (i:=1) (v:=jj (V ⟨cb,0,Y⟩)) rfl (BK a4) L ?_;simp only[kF,lR,lS,lT];refine Cw.tqH (i:=2) (v:=jj (V ⟨cb,1,Y⟩)) rfl (BK a4) L ?_;simp only[kF,lR,lS,lT];refine Cw.tqH (i:=3) (v:=jj (V ⟨N+2,3,Y⟩)) rfl (BK a4) L ?_;simp only[kF,lR,lS,lT];refine Cw.tqH (i:=4) (v:=U o (Z C) m) rfl (BK a4) L ?_;simp only[kF,lR,lS,lT];refine Cw.tqH (i:=5) (v:=ku #[X J S,O Q,U F (Z z) E,U o (Z C) m]) rfl (BK a4) L ?_;simp only[kF,lR,lS,lT];have c0:Ac [] wA wA.drew:=(kR [] wA).drew;generalize wA.drew=x0 at c0 L|-;refine Cw.two (i:=6) (j:=10) lo rfl rfl (λK A=>?_) (λK A=>?_)
 .go_simp
  refine(u7 _ (j8.H c0)).G ?_;rintro _ x1 ⟨q8,r8,rfl,a9,w0⟩;have k1:Ac [] wA x1:=c0.H w0;refine A.o _ _ (λ_=>a2 _ k1) ?_;clear A K
  try simp only[kF,lR,lS,lT]
  refine Cw.two (i:=7) (j:=10) lo rfl rfl (λK A=>?_) (λK A=>?_)
  .go_simp
   refine(m7 q8 r8 _ a9).G ?_;rintro _ x2 ⟨I,H,rfl,a8,s4⟩;have k2:Ac [] wA x2:=k1.H s4;refine A.o _ _ (λ_=>a2 _ k2) ?_;clear A K
   try simp only[kF,lR,lS,lT]
   have H8:=Ab (a2 _ k2);refine Cw.tqH (i:=8) (v:=ku #[jj (V ⟨cb,1,Y⟩),U o (Z C) m,U I (Z VR) H]) rfl (BK a4) H8 ?_;simp only[kF,lR,lS,lT];refine Cw.two (i:=9) (j:=10) lo rfl rfl (λK A=>?_) (λK A=>?_)
   .go_simp
    have k3:=k2.alloc (Y6 #[jj (V ⟨cb,1,Y⟩),U o (Z C) m,U I (Z VR) H] 237);refine A.o _ _ (λ_=>a2 _ k3) ?_;clear A K
    try simp only[kF,lR,lS,lT]
    have t5:=kS x2 [jj (V ⟨cb,1,Y⟩),U o (Z C) m,U I (Z VR) H] 237;have r1:=mg a8 (Y6 #[jj (V ⟨cb,1,Y⟩),U o (Z C) m,U I (Z VR) H] 237);refine Cw.one (i:=10) lo rfl (λK A=>?_)
    go_simp
    have k4:=k3.alloc (Y6 #[jj Y] 233);refine A.o _ _ (λ_=>a2 _ k4) ?_;clear A K
    try simp only[kF,lR,lS,lT]
    have G:=kS (x2.alloc (Y6 #[jj (V ⟨cb,1,Y⟩),U o (Z C) m,U I (Z VR) H] 237)) [jj Y] 233;have a0:=t5.alloc (Y6 #[jj Y] 233);have L3:=mg a9 (Y6 #[jj Y] 233);have f9:=mg r1 (Y6 #[jj Y] 233);have b5:=show(x2.alloc (Y6 #[jj (V ⟨cb,1,Y⟩),U o (Z C) m,U I (Z VR) H] 237)).heap.size≠x2.heap.size from Nat.ne_of_gt t5.lt
    have a3:=k3.size
    try simp only[mJ]at a0 G b5 a3
    generalize((x2.alloc (Y6 #[jj (V ⟨cb,1,Y⟩),U o (Z C) m,U I (Z VR) H] 237)).alloc (Y6 #[jj Y] 233))=WW at k4 f9 a0 G|-;have c6:=G.D 0;have f6:=G.qI 0;simp at c6;refine Cw.one (i:=11) lo rfl (λK A=>?_)
    go_simp
    have kz:=k4.setCell (p:=⟨x2.heap.size+1,0,Y⟩) (j3 a3) (jj (V ⟨x2.heap.size,0,Y⟩));refine A.o _ _ (λ_=>a2 _ kz) ?_;clear A K;refine Cw.done lo ?_ _
    try simp only[kF,lR,lS,lT]
    exact s1 _ _ _ _ _ _ _ _ _ _ _ _ _ _ _ _ I H (x2.heap.size) (x2.heap.size+1) _ kz (Ah f9 (Ap f9 G lu) _) (a0.bW ⟨x2.heap.size+1,0,Y⟩ b5 _) (G.set 0 _)
   .go_simp
    have k3:=k2.alloc (Y6 #[jj Y] 233);refine A.o _ _ (λ_=>a2 _ k3) ?_;clear A K
    try simp only[kF,lR,lS,lT]
    have b6:=kS x2 [jj Y] 233;have L5:=mg a9 (Y6 #[jj Y] 233);have w6:=mg a8 (Y6 #[jj Y] 233);refine Cw.one (i:=9) lo rfl (λK A=>?_)
    go_simp
    have k4:=k3.alloc (Y6 #[jj (V ⟨cb,1,Y⟩),U o (Z C) m,U I (Z VR) H] 237);refine A.o _ _ (λ_=>a2 _ k4) ?_;clear A K
    try simp only[kF,lR,lS,lT]
    have a0:=kS (x2.alloc (Y6 #[jj Y] 233)) [jj (V ⟨cb,1,Y⟩),U o (Z C) m,U I (Z VR) H] 237;have b8:=mg w6 (Y6 #[jj (V ⟨cb,1,Y⟩),U o (Z C) m,U I (Z VR) H] 237);have G:=b6.alloc (Y6 #[jj (V ⟨cb,1,Y⟩),U o (Z C) m,U I (Z VR) H] 237);have b5:=show x2.heap.size≠(x2.alloc (Y6 #[jj Y] 233)).heap.size from Nat.ne_of_lt b6.lt
    have a3:=k2.size
    try simp only[mJ]at a0 G b5 a3
    generalize((x2.alloc (Y6 #[jj Y] 233)).alloc (Y6 #[jj (V ⟨cb,1,Y⟩),U o (Z C) m,U I (Z VR) H] 237))=WW at k4 b8 a0 G|-;have c6:=G.D 0;have f6:=G.qI 0;simp at c6;refine Cw.one (i:=11) lo rfl (λK A=>?_)
    go_simp
    have kz:=k4.setCell (p:=⟨x2.heap.size,0,Y⟩) (j3 a3) (jj (V ⟨x2.heap.size+1,0,Y⟩));refine A.o _ _ (λ_=>a2 _ kz) ?_;clear A K;refine Cw.done lo ?_ _
    try simp only[kF,lR,lS,lT]
    exact s1 _ _ _ _ _ _ _ _ _ _ _ _ _ _ _ _ I H (x2.heap.size+1) (x2.heap.size) _ kz (Ah b8 (Ap b8 G lu) _) (a0.bW ⟨x2.heap.size,0,Y⟩ b5 _) (G.set 0 _)
  .go_simp
   have k2:=k1.alloc (Y6 #[jj Y] 233);refine A.o _ _ (λ_=>a2 _ k2) ?_;clear A K
   try simp only[kF,lR,lS,lT]
   have l8:=kS x1 [jj Y] 233;have u9:=mg a9 (Y6 #[jj Y] 233);refine Cw.one (i:=7) lo rfl (λK A=>?_)
   go_simp
   refine(m7 q8 r8 _ u9).G ?_;rintro _ x3 ⟨I,H,rfl,a8,l1⟩;have k3:Ac [] wA x3:=k2.H l1;refine A.o _ _ (λ_=>a2 _ k3) ?_;clear A K
   try simp only[kF,lR,lS,lT]
   have b6:=l8.C l1;have l5:=Ab (a2 _ k3);refine Cw.tqH (i:=8) (v:=ku #[jj (V ⟨cb,1,Y⟩),U o (Z C) m,U I (Z VR) H]) rfl (BK a4) l5 ?_;simp only[kF,lR,lS,lT];refine Cw.one (i:=9) lo rfl (λK A=>?_)
   go_simp
   have k4:=k3.alloc (Y6 #[jj (V ⟨cb,1,Y⟩),U o (Z C) m,U I (Z VR) H] 237);refine A.o _ _ (λ_=>a2 _ k4) ?_;clear A K
   try simp only[kF,lR,lS,lT]
   have a0:=kS x3 [jj (V ⟨cb,1,Y⟩),U o (Z C) m,U I (Z VR) H] 237;have b8:=mg a8 (Y6 #[jj (V ⟨cb,1,Y⟩),U o (Z C) m,U I (Z VR) H] 237);have G:=b6.alloc (Y6 #[jj (V ⟨cb,1,Y⟩),U o (Z C) m,U I (Z VR) H] 237);have b5:=show x1.heap.size≠x3.heap.size from Nat.ne_of_lt b6.lt
   have a3:=k1.size
   try simp only[mJ]at a0 G b5 a3
   generalize(x3.alloc (Y6 #[jj (V ⟨cb,1,Y⟩),U o (Z C) m,U I (Z VR) H] 237))=WW at k4 b8 a0 G|-;have c6:=G.D 0;have f6:=G.qI 0;simp at c6;refine Cw.one (i:=11) lo rfl (λK A=>?_)
   go_simp
   have kz:=k4.setCell (p:=⟨x1.heap.size,0,Y⟩) (j3 a3) (jj (V ⟨x3.heap.size,0,Y⟩));refine A.o _ _ (λ_=>a2 _ kz) ?_;clear A K;refine Cw.done lo ?_ _
   try simp only[kF,lR,lS,lT]
   exact s1 _ _ _ _ _ _ _ _ _ _ _ _ _ _ _ _ I H (x3.heap.size) (x1.heap.size) _ kz (Ah b8 (Ap b8 G lu) _) (a0.bW ⟨x1.heap.size,0,Y⟩ b5 _) (G.set 0 _)
 .go_simp
  have k1:=c0.alloc (Y6 #[jj Y] 233);refine A.o _ _ (λ_=>a2 _ k1) ?_;clear A K
  try simp only[kF,lR,lS,lT]
  have A1:=kS x0 [jj Y] 233;refine Cw.one (i:=6) lo rfl (λK A=>?_)
  go_simp
  refine(u7 _ (j8.H k1)).G ?_;rintro _ x2 ⟨q8,r8,rfl,a9,s4⟩;have k2:Ac [] wA x2:=k1.H s4;refine A.o _ _ (λ_=>a2 _ k2) ?_;clear A K
  try simp only[kF,lR,lS,lT]
  have l8:=A1.C s4;refine Cw.one (i:=7) lo rfl (λK A=>?_)
  go_simp
  refine(m7 q8 r8 _ a9).G ?_;rintro _ x3 ⟨I,H,rfl,a8,l1⟩;have k3:Ac [] wA x3:=k2.H l1;refine A.o _ _ (λ_=>a2 _ k3) ?_;clear A K
  try simp only[kF,lR,lS,lT]
  have b6:=l8.C l1;have l5:=Ab (a2 _ k3);refine Cw.tqH (i:=8) (v:=ku #[jj (V ⟨cb,1,Y⟩),U o (Z C) m,U I (Z VR) H]) rfl (BK a4) l5 ?_;simp only[kF,lR,lS,lT];refine Cw.one (i:=9) lo rfl (λK A=>?_)
  go_simp
  have k4:=k3.alloc (Y6 #[jj (V ⟨cb,1,Y⟩),U o (Z C) m,U I (Z VR) H] 237);refine A.o _ _ (λ_=>a2 _ k4) ?_;clear A K
  try simp only[kF,lR,lS,lT]
  have a0:=kS x3 [jj (V ⟨cb,1,Y⟩),U o (Z C) m,U I (Z VR) H] 237;have b8:=mg a8 (Y6 #[jj (V ⟨cb,1,Y⟩),U o (Z C) m,U I (Z VR) H] 237);have G:=b6.alloc (Y6 #[jj (V ⟨cb,1,Y⟩),U o (Z C) m,U I (Z VR) H] 237);have b5:=show x0.heap.size≠x3.heap.size from Nat.ne_of_lt b6.lt
  have a3:=c0.size
  try simp only[mJ]at a0 G b5 a3
  generalize(x3.alloc (Y6 #[jj (V ⟨cb,1,Y⟩),U o (Z C) m,U I (Z VR) H] 237))=WW at k4 b8 a0 G|-;have c6:=G.D 0;have f6:=G.qI 0;simp at c6;refine Cw.one (i:=11) lo rfl (λK A=>?_)
  go_simp
  have kz:=k4.setCell (p:=⟨x0.heap.size,0,Y⟩) (j3 a3) (jj (V ⟨x3.heap.size,0,Y⟩));refine A.o _ _ (λ_=>a2 _ kz) ?_;clear A K;refine Cw.done lo ?_ _
  try simp only[kF,lR,lS,lT]
  exact s1 _ _ _ _ _ _ _ _ _ _ _ _ _ _ _ _ I H (x3.heap.size) (x0.heap.size) _ kz (Ah b8 (Ap b8 G lu) _) (a0.bW ⟨x0.heap.size,0,Y⟩ b5 _) (G.set 0 _)
end
section
variable{y:kN jR}{n:Nat}
theorem Tryz.yV:(Tryz.prog.info? 172).map (λi=>(i.zero,i.size,i.bytes))=V (V (.agg #[X kw 0,O ⟨#[]⟩]),2,24):=lo
def Jp(b:kN bN)(v:rC):kN jR:=[X kw (v.toNat:Int),O (NR b v)]
def Ua(b v):Z (Jp b v)=2:=rfl
def gD(h:2*n+1<Z y)(a c):qT (2*(n+1)) ((y.set (2*n) a).set (2*n+1) c)=qT (2*n) y++[a,c]:=by
 apply List.ext_getElem?;intro i;rw[nV];by_cases b:i<2*n
 .rw[mo lc,ng lc,ng lc,List.getElem?_append_left li,nV,mo b]
 .have d:Z (qT (2*n) y)=2*n:=by simp;omega
  rw[oU lc,d];by_cases e:i=2*n
  .subst e;rw[mo lc,ng lc,nG lc,Nat.sub_self];rfl
  .by_cases f:i=2*n+1
   .exact qy
   .rw[mm lc,List.getElem?_eq_none li]
set_option maxRecDepth 100000
theorem YQ(n)(b:kN bN)(G T a w)(hb:Z b=26)(hB:AF w n (Al b) 243)(S:kt w 0 21 1 (U G (Z (De a)) T) (Z (De a)) (qS AX (De a)))(EY:Z a<=1000)(B:∀v∈a,EB v):rE rF 142 #[jj (V ⟨n,0,Y⟩),U G (Z a) T] w λr m=>∃g,r=j1 (U (V ⟨g,0,Y⟩) (Z a) (Z a))/\kt m w.heap.size 172 2 (U (V ⟨g,0,Y⟩) (Z a) (Z a)) (Z a) (qS (Jp b) a)/\Ac [] w m:=by
 obtain⟨i0,EK,AT,BA,B0⟩:=mW Tryz.yV;have HT:Hid (∀v∈a,∀c,Ac [] w c->rE rF 180 #[jj (V ⟨n,0,Y⟩),.agg #[.int kw (v.toNat:Int),O ⟨#[]⟩]] c λr m=>r=j1 (O (NR b v))/\Ac [] c m):=by
  intro v I c H;have h:=Re n 243 b v.toNat ByteArray.empty c hb (hB.C H) (j3 (B v I));have h0:v.toNat≠0:=by have:=(B v I).1;omega
  have e:ib b v.toNat ByteArray.empty=NR b v:=by unfold ib NR;rw[mm h0]
  rw[e]at h;exact h
 have DT:=Ab S;obtain⟨N,C⟩:=kQ w.heap.size;have y:=Ab C;clear S B hB;have FA:∀c:jH,(Instr.makeSlice 169 (.int J (Z a:Int)) (.int J (Z a:Int))).run rF c=.ok (U (V ⟨c.heap.size,0,Y⟩) (Z a) (Z a)) (c.alloc (Y6 (madeCells #[.int kw 0,O ⟨#[]⟩] (Z a*2)) 172)):=by
  intro c;have W:=run_make (P:=rF) c 169 172 i0 _ underlying169 EK AT J J (Z a) (Z a) lc (Int.le_refl _) (by rw[B0];omega) lc;simp only[Int.toNat_natCast,BA]at W;exact W
 go_enter func142,ntmps142;go_wp2;have f:Hid (∃L:kN jR,Z L=2*Z a/\qT (2*0) L=qS (Jp b) (qT 0 a)/\kt (w.alloc (Y6 (madeCells #[.int kw 0,O ⟨#[]⟩] (Z a*2)) 172)) N 172 2 (U (V ⟨N,0,Y⟩) (Z a) (Z a)) (Z a) L):=by
  have h:=pQ (e:=172) (size:=2) (base:=N) w (madeCells #[.int kw 0,O ⟨#[]⟩] (Z a*2)) (Z a) lc lw (by rw[size_madeCells]);rw[C]at h;exact⟨_,by rw[Array.length_toList,size_madeCells];omega,ln,h⟩
 have z:=Ab ((kR [] w).alloc (Y6 (madeCells #[.int kw 0,O ⟨#[]⟩] (Z a*2)) 172));clear C;generalize w.alloc (Y6 (madeCells #[.int kw 0,O ⟨#[]⟩] (Z a*2)) 172)=w2 at f z|-
 go_loopg [13] (Z a) (λgk i wr=>∃(k:Nat),i=.int J k/\k<=Z a/\gk=Z a-k/\Hid (∃L:kN jR,Z L=2*Z a/\qT (2*k) L=qS (Jp b) (qT k a)/\kt wr N 172 2 (U (V ⟨N,0,Y⟩) (Z a) (Z a)) (Z a) L)/\Hid (Ac [] w wr))
 case atStart=>exact⟨0,rfl,lc,rfl,f,z⟩
 case round=>
  clear f z;obtain⟨k,rfl,H,M,f,l⟩:=hrel;have HG:=Ab M;clear M;by_cases q:k<Z a
  ·(have D:k<Z (De a):=by rw[GM];exact q);obtain⟨g,EX,he,x⟩:=R4 (Ad (Aa DT) (Aa l)) k D;obtain⟨rfl,_,rfl⟩:=qX he;(have e:(De a)[k]=(a[k].toNat:Int):=by simp[De]);rw[e]at x;obtain⟨d,o⟩:=kQ (a[k]);rw[o]at x;have u:=Ab (Aa HT d (by rw[<-o];exact lV q) wr (Aa l));obtain⟨E0,FB⟩:=rI (lc:k<Z a);have F:Hid (qS (Jp b) (qT (k+1) a)=qS (Jp b) (qT k a)++[.int kw (d.toNat:Int),O (NR b d)]):=by
    show _=_;rw[lW q,mD,o];rfl
   generalize NR b d=X at u F;clear e o D;(go_wp2_with fail);refine(Aa u).G ?_;rintro _ w3 ⟨rfl,t⟩;have AB:=Ab ((Aa l).H t);obtain⟨L,Q,AO,R⟩:=Aa f;have j:=Ad R t;have A:=j.cellAt (2*k) lc;have s:=j.cellAt (2*k+1) lc;have B2:=j.frozenAt (2*k);have CW:=j.frozenAt (2*k+1);rw[Nat.mul_comm]at A s B2 CW;rw[mc lc]at A s;generalize L[k*2]=U0 at A;generalize L[k*2+1]=U1 at s;have CL:Hid (∃L:kN jR,Z L=2*Z a/\qT (2*(k+1)) L=qS (Jp b) (qT (k+1) a)/\kt ((w3.setCell ⟨N,k*2,Y⟩ (.int kw (d.toNat:Int))).setCell ⟨N,k*2+1,Y⟩ (O X)) N 172 2 (U (V ⟨N,0,Y⟩) (Z a) (Z a)) (Z a) L):=by
    refine⟨(L.set (2*k) (.int kw (d.toNat:Int))).set (2*k+1) (O X),by simp[Q],?_,?_⟩
    .rw[gD lc,Aa F,AO]
    .rw[Nat.mul_comm k 2];exact BO (BO j (2*k) _) (2*k+1) _
   have Bx:=Ab (((Aa AB).setCell (p:=⟨N,k*2,Y⟩) (j3 qu) (.int kw (d.toNat:Int))).setCell (p:=⟨N,k*2+1,Y⟩) (j3 qu) (O X));clear u l AB t j x f Q AO R;go_wp2
   go_roundg (Z a-(k+1))
   case measure=>exact qu
   case rel=>exact⟨k+1,ly,lc,rfl,CL,Bx⟩
  ·have BS:k=Z a:=lc;subst BS;have CC:Hid (kt wr N 172 2 (U (V ⟨N,0,Y⟩) (Z a) (Z a)) (Z a) (qS (Jp b) a)):=by
    obtain⟨L,h1,E,h3⟩:=Aa f;rw[lY lc,lY (mt _)]at E;rw[<-E];exact h3
   clear f;go_wp2;go_ret;exact⟨N,rfl,by rw[Aa y];exact Aa CC,Aa l⟩
structure jP(w0:jH)(M1:kN Nat)(sp b1:Nat)(M:kN Nat)(w:jH):Prop where
 C:Ac M1 w0 w
 s:AF w b1 [jj (V ⟨sp,0,Y⟩)] 233
 apart:∀k∈M,(k∈M1\/w0.heap.size<=k)/\k≠b1/\k<w.heap.size
def lJ(vs:kN rC)(x:kN bN)(a:Array jR)(W:jH):Prop:=
 ∃g,a=#[U (V ⟨g,0,Y⟩) (Z vs) (Z vs)]/\kt W 0 172 2 (U (V ⟨g,0,Y⟩) (Z vs) (Z vs)) (Z vs) (qS (Jp (Bo x)) vs)
theorem gC(p BT s m I L)(hS:∀f,Ac L I f->eV f p BT s m)(E w C)(hB:jP I L p E C w):jT rF 140 #[jj (V ⟨E,0,Y⟩)] (lJ m) (Aw (Jr BT s) BT s m Bm) C w:=by
 intro l AR Jx W HE K8 MN hJ IJ hR K4;have HQ:jP I L p E C W:=⟨hB.C.H (HE.G ln),hB.s.C HE,λk o=>⟨(hB.apart k o).1,(hB.apart k o).2.1,nR (hB.apart k o).2.2 HE.size⟩⟩;obtain⟨XS,HA⟩:=kQ (Aw (Jr BT s) BT s m Bm);have VS:Hid _:=hS;have HW:=hS _ HQ.C;have TX:=HW.z7;have NN:Hid (∀d1 R d3 d4 f M,VC I L p d1 R d3 d4 0 (Z m) Bm M f->K0 rF 176 _ _ XS M f):=λd1 R d3 d4 f M hb=>by
  rw[<-HA];exact Mz p BT s m I L hS (Z m) (mt _) m 0 Bm d1 R d3 d4 f M DA.start (mr _) ln hb
 have HI:Hid (∀x∈XS,Z x=26):=by
  intro x S;rw[<-HA]at S;exact GT m Bm rfl x S
 have HO:Hid (∀f,Ac L I f->∃(A1:rB) (A0:Nat),jY f ⟨p,2,Y⟩=V (U A1 (Z m) A0)/\kt f 0 21 1 (U A1 (Z (De m)) A0) (Z (De m)) (qS AX (De m))):=by
  intro f o;obtain⟨kb,ko,W0,VL,VR,A1,A0,aa,W3,fs,h1,_,_,h4,_⟩:=(hS f o).e;have h2:=h1.zJ.D 2;simp[GM]at h2;exact⟨A1,A0,h2,h4⟩
 have PT:Hid _:=HW.ok;rw[HA]at hR|-;have Pl:=Ab hR;have HJ:=Ab hJ;have TL:=Ab IJ;have K2:=Ab K4;have HB:=Ab HQ;have QR:Hid (I.heap.size<=l/\l<W.heap.size):=⟨mZ hB.C.size K8,MN⟩;obtain⟨QQ,HM⟩:=kQ (KQ (bodyPostM Fence.wide 0 rF Tryz.f140 λe j=>(∃v,e=j1 v)/\((∃n,AR XS n j)\/(∃B n,Jx B n j))));have W2:Hid (∀c a w,¬QQ (.panic c) a w):=by
  intro c a w h;rw[<-HM]at h;exact h
 have LB:Hid (∀(HG:Array jR) (ds:kN Nat) (f:jH),Dy W.heap.size ds f->((∃n,AR XS n f)\/(∃B n,Jx B n f))->QQ .ret ⟨HG,ds.map EJ⟩ f/\QQ .normal ⟨HG,ds.map EJ⟩ f):=by
  intro HG ds f hm hp;rw[<-HM];have N0:LeavesInM Fence.wide 0 rF Tryz.f140 HG (λe j=>(∃v,e=j1 v)/\((∃n,AR XS n j)\/(∃B n,Jx B n j))) (ds.map EJ) .returning f:=by
   refine Dh ds f hm (λQ hs=>⟨_,pI rfl _ _ _,⟨_,rfl⟩,?_⟩);rcases hp with⟨n,h⟩|⟨B,n,h⟩
   .exact j2 ⟨n,hs.own hJ (s:=(XS,n)) hm h⟩
   .exact j3 ⟨B,n,hs.own IJ (s:=(B,n)) hm h⟩
  exact⟨N0,N0⟩
 have CL:=Ab ((kR [] W).alloc (Y6 #[.func (.yield l) #[] #[]] 238));have FP:=Ab (kS W [.func (.yield l) #[] #[]] 238);have NS:Hid (∀f,rE rF 141 #[jj _,X J 0,X J (Z m),.agg _] f λr Q=>∃E b2 b3 b4,r=j1 _/\
   AF Q E _ 233/\AF Q b2 (Al (Bo Bm)) 243/\AF Q b3 _ 3/\AF Q b4 _ 3/\(f.heap.size<=E/\f.heap.size<=b2/\f.heap.size<=b3/\f.heap.size<=b4)/\Ac [] f Q):=λf=>by
  have h:=I1 p 0 (Z m) _ f (Bp _) (E9 Bm rfl).1;rw[Lt]at h|-;exact h
 show rE rF 140 #[.func (.yield l) #[] #[],jj (V ⟨E,0,Y⟩)] W _;refine Eb func140 rfl (GD ?_);rw[HM];clear HM hB HQ hR hJ K4 IJ HA HE K8 MN hS HW;simp only[ntmps140,nu,mn,mI,Nat.reduceAdd,Nat.reduceSub,oF,oG,oX,oM,nk,nS];refine kI (λK1 FB=>?_);go_wp2;refine Aa FB _ _ ?_;clear FB K1;change Code.wp _ _ _ _ (W.alloc (Y6 #[.func (.yield l) #[] #[]] 238));generalize hw1:W.alloc (Y6 #[.func (.yield l) #[] #[]] 238)=w1 at CL FP|-;clear hw1;obtain⟨N,hN⟩:=kQ W.heap.size;have HN:=Ab hN;rw[hN]at FP|-;clear hN;have NM:Hid (∀f,Ac [] w1 f->Ac L I f):=λf o=>(Aa HB).C.H (((Aa CL).H o).G ln)
 obtain⟨A1,A0,o2,_⟩:=Aa HO w1 (Aa NM w1 (kR _ _));have c1:=((Aa HB).s.C (Aa CL)).D 0;simp at c1;have B2:Hid (∀f,Ac [] w1 f->jY f _=V _/\jY f _=V _):=λf o=>⟨o.cellAt c1,o.cellAt o2⟩
 refine kI (λK1 FB=>?_)
 go_region_held3 (λf=>Ac [] w1 f/\jY f ⟨E,0,Y⟩=V (jj (V ⟨p,0,Y⟩))/\jY f ⟨p,2,Y⟩=V (U A1 (Z m) A0)) ((go_split_ands;refine(fun(NY:Ac [] w1 _)=>And.intro NY (Aa B2 _ NY)) ?_;repeat (first|assumption|exact kR [] _|refine Ac.drew ?_|refine Ac.alloc ?_ _))) ((go_at_call 141;refine(Aa NS _).G ?_;rintro e A ⟨d1,R,d3,d4,rfl,n1,n2,n3,n4,MB,k5⟩;have MY:Ac [] w1 A:=si;have TV:=k5.size;have Os:Hid (AF A d1 [jj (V ⟨p,0,Y⟩)] 233/\AF A R (Al (Bo Bm)) 243/\AF A d3 [X J ((0:Nat):Int)] 3/\AF A d4 [X J (Z m)] 3/\(w1.heap.size<=d1/\w1.heap.size<=R/\w1.heap.size<=d3/\w1.heap.size<=d4)):=⟨n1,n2,n3,n4,by have h1:w1.heap.size<=_:=(by go_split_ands;exact Ac.size oa);obtain⟨g1,g2,g3,g4⟩:=MB;exact⟨mZ h1 g1,mZ h1 g2,mZ h1 g3,mZ h1 g4⟩⟩;have FC:=Ab MY;clear n1 n2 n3 n4 MB k5 MY))
 rename_i TH;clear TH TV;refine Aa FB _ _ ?_;clear FB K1 NS c1 o2 B2;have U1:=Ab (Aa CL).size;have SS:=Ab (Aa FC).size;have H1:Hid _:=(Aa CL).H (Aa FC);have S1:=Ab ((Aa FP).C (Aa FC));have U0:Hid (AR [] C A):=Bz (Aa HJ) (s:=([],C)) (Aa K2) (Aa H1);have LD:Hid _:=Aa NM A (Aa FC);have M3:=(Aa H1).size;have CC:Hid _:=(Aa HB).apart;have Wa:=(Aa FP).lt;have H9:=Aa QR;have SB:=Aa NN d1 R d3 d4 A (l::C) (by
  obtain⟨n1,n2,n3,n4,g1,g2,g3,g4⟩:=Aa Os
  refine⟨Aa LD,n1,n2,n3,n4,λq z=>?_⟩
  have hn:=Aa HN
  rcases l9.1 z with rfl|z
  .exact lc
  .obtain⟨a1,a2,a3⟩:=Aa CC q z
   exact⟨a1,lc,lc,lc,lc,lc⟩)
 clear NN Os FP CL FC K2;refine wp_block ?_;refine Ik (T:=243) (q:=3) rfl (enters_of func176 lo rfl) SB (λq z=>by
  rcases l9.1 z with rfl|z
  .omega
  .have:=(Aa CC q z).2.2;omega) (XN AR l [] C A) (λc _ _ j=>XZ Jx l C A c j) (XN.own (Aa HJ) M3) (λc=>XZ.own (Aa TL) M3 c) ⟨C,rfl,Aa U0,kR _ _,λq z=>⟨j2 z,by have:=(Aa CC q z).2.2;omega⟩⟩ ?rassign ?rbody ?rdone ?rstop
 case rassign=>
  intro l' x j G S HK;have Ha:Z (Al (Bo x))=26:=by unfold Al Bo;rw[mh,mh];exact Aa HI x S
  have Nj:Hid (∀u∈Al (Bo x),u.oneCell'=true):=by
   intro u hu;obtain⟨y,_,rfl⟩:=me.1 hu;rfl
  obtain⟨EX,Nx⟩:=kQ (Al (Bo x));rw[Nx]at Ha Nj HK|-;have HI:=Ab Ha;have M2:Hid (EX.toArray.size=26):=lc
  clear S Nx Ha;simp at HK|-;refine AM lx (G8 FY) ?_;go_wp2_with ((with_reducible refine qZ 243 ?_);refine ow rfl 243 _ _ rfl j.heap.size 0 EX.toArray lx lx ?_ ?_ ?_ ?_)
  .have h:=(kS j (kB 26 (O ⟨#[]⟩)) 243).there;rw[Aa M2];exact h
  .rw[Aa M2];exact lx
  .exact nH (Aa Nj)
  .refine Aa HK _ (((kR [] j).alloc _).zG (b:=j.heap.size) (j3 (mt _)) EX 0) ?_;exact(kS j _ 243).zM EX oa
 case rbody=>
  intro l' Bx B x SP n j IA F RI X2 LL;obtain⟨H,rfl,CW,BS⟩:=F.e;rw[nk]at CW;have RO:=Aa HI x (by rw[IA];simp);have K6:Hid (∀f,Ac [] j f->Ac L I f):=λf o=>((Aa LD).trans' BS.C (λi F=>(Aa CC i F).1)).H (o.G ln)
  have NE:=(Aa S1).C BS.C (λh=>by have h1:=(Aa CC N h).2.2;have h2:=Aa HN;omega);have K7:=((Aa HB).s.C (Aa H1)).C BS.C (λh=>(Aa CC E h).2.1 rfl);have cy:=NE.D 0;have cb:=K7.D 0;simp at cy cb;obtain⟨HZ,HU,o6,_⟩:=Aa HO j (Aa K6 j (kR _ _));have B2:Hid (∀f,Ac [] j f->jY f _=V _/\jY f _=V _/\jY f _=V _):=λf o=>⟨o.cellAt cy,o.cellAt cb,o.cellAt o6⟩
  have NL:Hid (rE rF 142 #[jj (V ⟨Bx,0,Y⟩),U HZ (Z m) HU] j.drew λr Q=>∃g,r=j1 (U (V ⟨g,0,Y⟩) (Z m) (Z m))/\kt Q j.drew.heap.size 172 2 (U (V ⟨g,0,Y⟩) (Z m) (Z m)) (Z m) (qS (Jp (Bo x)) m)/\Ac [] j.drew Q):=by
   obtain⟨RE,TT,o7,Go⟩:=Aa HO _ (Aa K6 _ (kR [] j).drew);have o8:=(Aa B2 _ (kR [] j).drew).2.2;rw[o7]at o8;simp only[lZ,lU]at o8;obtain⟨rfl,_,rfl⟩:=o8;exact YQ Bx _ RE TT m _ (by unfold Bo;rw[mh];exact RO) (LL.C (kR [] j).drew) Go TX (Aa PT)
  have LM:Hid (∀g f,Ac [] j f->kt f 0 172 2 _ (Z m) _->YieldAt _ 0 rF l _ f λe j=>
    (e=j1 _/\∃n,AR _ n j/\Ac H f j/\∀k∈n,(k∈H\/f.heap.size<=k)/\k<j.heap.size)\/(e=j1 _/\∃n,Jx _ n j/\Ac _ f j)):=λg f o hr=>Aa Pl B x SP H f _ IA (Bz (Aa HJ) (s:=(B,H)) CW o) ⟨g,rfl,hr⟩
  have H5:=Ab BS;have WB:l<j.heap.size:=by have:=BS.C.size;omega
  clear F LL NE K7 CW BS RI IA cy cb o6;simp;refine wpIn_block ?_;refine nK (λK3 LS=>?_);have HH:=Ab LS;clear LS;have B0:=Ab (Aa B2 _ (kR [] j).drew);refine QC 6 (λf=>jY f ⟨N,0,Y⟩=V (.func (.yield l) #[] #[])/\jY f ⟨E,0,Y⟩=V (jj (V ⟨p,0,Y⟩))/\jY f ⟨p,2,Y⟩=V (U HZ (Z m) HU)) lo lx lB ?_;refine Gf.take (i:=0) (v:=.func (.yield l) #[] #[]) rfl lo (λ_ _ _ h=>h) (Aa B0) (j2 ⟨lx,?_⟩) ?_
  ·(intro f RV;go_simp)
  simp only[kF,lR,lS,lT];obtain⟨z0,z1,z2⟩:=Aa B0;refine Gf.one (i:=1) lo lx rfl (λG t=>?_)
  go_simp
  refine t.o _ _ (λ_=>Aa B0) ?_;clear t G
  try simp only[kF,lR,lS,lT]
  refine Gf.one (i:=2) lo lx rfl (λG t=>?_)
  go_simp
  refine t.o _ _ (λ_=>Aa B0) ?_;clear t G
  try simp only[kF,lR,lS,lT]
  refine Gf.one (i:=3) lo lx rfl (λG t=>?_)
  go_simp
  refine t.o _ _ (λ_=>Aa B0) ?_;clear t G
  try simp only[kF,lR,lS,lT]
  refine Gf.one (i:=4) lo lx rfl (λG t=>?_)
  go_simp
  refine t.o _ _ (λ_=>Aa B0) ?_;clear t G
  try simp only[kF,lR,lS,lT]
  refine Gf.one (i:=5) lo lx rfl (λG t=>?_)
  go_simp
  refine(Aa NL).G ?_;rintro _ w7 ⟨g,rfl,Go,k7⟩;have FW:=(kR [] j).drew.H k7;refine t.o _ _ (λ_=>Aa B2 w7 FW) ?_;clear t G z0 z1 z2
  try simp only[kF,lR,lS,lT]
  have HY:=Ab (Aa LM g w7 FW (Ak Go (mr _)));have Ix:=Ab FW;clear Go k7 FW NL LM B0 B2;refine Gf.yield lo rfl (q:=l) (args:=#[U (V ⟨g,0,Y⟩) (Z m) (Z m)]) lx sG (Aa HY) ?_;rintro r w8 (⟨rfl,M6,ES,DT,FA⟩|⟨rfl,M6,ES,DT⟩)
  .refine⟨_,rfl,?_⟩
   have HP:Hid (Mi (XN AR l [] C A) (λc _ _ j=>XZ Jx l C A c j) (B++[x]) (l::H) j .normal ⟨#[],[]⟩ w8):=by
    have h7:=(Aa Ix).size;(have H9:l<w8.heap.size:=by have:=DT.size;omega);have o:=((Aa Ix).G ln).H DT;refine⟨o.G (λi F=>mP _ F),l::M6,⟨M6,rfl,li,(Aa H5).step o (λq z=>⟨((FA q z).1).imp id (λh=>lc),(FA q z).2⟩)⟩,λq z=>?_⟩;rcases l9.1 z with rfl|z
    .exact li
    .refine⟨?_,(FA q z).2⟩;rcases(FA q z).1 with h|h
     .exact j2 (mP _ h)
     exact lc
   refine Gf.one (i:=7) lo lx rfl (λG t=>?_)
   go_simp
   refine t.o _ _ (λh=>oj) ?_;refine Gf.done lo ?_ _
   refine Aa HH _ _ ?_;refine pg rfl (wpIn_skip ?_);exact oa
  .refine⟨_,rfl,?_⟩
   have HP:Hid (Mi (XN AR l [] C A) (λc _ _ j=>XZ Jx l C A c j) (B++[x]) (l::H) j .ret ⟨#[],[]⟩ w8):=by
    have o:=((Aa Ix).G ln).H DT;refine⟨o,M6,rfl,⟨_,M6,ES⟩,?_⟩;refine((Aa H5).C.G (N:=l::C) (λi F=>mP _ F)).trans' o (λi F=>?_);rcases l9.1 F with rfl|F
    .exact ln
    .exact(((Aa H5).mem i F).1).imp (λh=>mP _ h) id
   refine Gf.one (i:=7) lo lx rfl (λG t=>?_)
   go_simp
   refine t.o _ _ (λh=>oj) ?_;refine Gf.done lo ?_ _
   refine Aa HH _ _ ?_;refine pm rfl (wpIn_ret ?_);exact oa
 case rdone=>
  intro D n j hD F hd ab;obtain⟨H,rfl,CW,BS⟩:=F.e;have hm:Dy W.heap.size [D] j:=⟨ln,λd P=>by rw[lX]at P;omega,λd P=>qr⟩;exact(Aa LB _ [D] j hm (j2 ⟨H,CW⟩)).2
 case rstop=>
  intro D c B n j hD S hd;obtain rfl:=S.ret;obtain⟨SJ,H,TS⟩:=S.e;have hm:Dy W.heap.size [D] j:=⟨ln,λd P=>by rw[lX]at P;omega,λd P=>qr⟩;refine wp_ret ?_;exact(Aa LB _ [D] j hm (j3 ⟨SJ,H,TS⟩)).1
end
section
variable{g:rC}{f:kN Ae}{e:kN bN}{c:kN AW}{s:bN}
structure aF(body:kN Bt)(s:kN Ae):Prop where
 g:∀x∈body,Di x
 safe:∀x∈body,∀t∈Bw x,Fh body t
 fit:ai s body
 qK:∀f∈s,AG f
def Bf(body:kN Bt):kN rC:=DJ [] (qS Bw body)
def F0(vs:kN rC)(e:kN bN):kN bN:=vs.map (NR e)
def V3(a):(Bf a).Nodup:=(Ex (qS Bw a) [] oH).2.1
def JI{b}:g∈Bf b↔g≠0/\∃x∈b,∃t∈Bw x,t.v=g:=by
 unfold Bf;rw[(Ex _ [] oH).2.2];constructor
 .rintro (h|⟨h,t,a,e⟩)
  .cases h
  .obtain⟨x,c,a⟩:=mH.1 a;exact⟨h,x,c,t,a,e⟩
 .rintro ⟨h,x,c,t,a,e⟩;exact Or.inr ⟨h,t,mH.2 ⟨x,c,a⟩,e⟩
def aF.zD{a}(h:aF a f):∀x∈a,ME x:=λx b=>(h.g x b).yc
def aF.vars{b}(h:aF b f):∀v∈Bf b,EB v/\∃x∈b,(x.b==97)=true/\∃u∈x.A.qH,u.v=v:=by
 intro v g;obtain⟨c,x,e,t,d,rfl⟩:=JI.1 g;refine⟨?_,?_⟩
 .rcases h.zD x e t d with a|a
  .exact rl a.1 c
  .exact a
 .rcases h.safe x e t d with a|a
  .exact rl a c
  .exact a
def aF.al{a}(h:aF a f):∀v e,∀t∈Jr a f v e,A7 t:=λv e t b=>JC h.qK h.fit v e t ((Gj a f v e t).1 b)
def aF.qH{a}{s}(h:aF a s):∀x∈a,(x.b==97)=true->∀t∈x.A.qH,BJ t:=by
 intro x d b t c;refine h.zD x d t ?_;unfold Bw;rw[mo (by rw[b];rfl)];exact c
def aF.facts{a}{s}(h:aF a s):∀f∈s,IW f:=λf b=>(h.qK f b).zD
def Q8{a}(h:aF a f){b}(r:b∈Aw (Jr a f) a f (Bf a) Bm):∃e∈BN a f,F0 (Bf a) e=F0 (Bf a) b:=by
 obtain⟨z,m,_,q⟩:=BV (λv e t c=>(h.al v e t c).size) _ Bm b rfl (λv k=>(h.vars v k).1) r;have p:∀x∈a,Cm (Bq (Lq b)) (Eo (Lq b)) f x=true:=by
  intro x g;have w:DV b (Bw x)=true:=by
   unfold DV;rw[nI];intro t c;have y:(AI b t).size≠0:=by
    by_cases d:t.v=0
    .rcases h.zD x g t c with i|i
     .unfold AI;rw[mo d];exact i.2
     .exact qr
    .rw[EP d];exact q _ (JI.2 ⟨d,x,g,t,c,rfl⟩)
   cases hE:Vo (AI b t)with
   |false=>rfl
   |true=>exact rl ((Ed _).1 hE) y
  have i:Cm (Av b) (AI b) f x=true:=by
   have:=(nU.1 m) x g;exact qr
  exact i
 obtain⟨e,o,k⟩:=P2 h.facts h.qH _ p (λx g n=>by
  have j:=h.safe x g
  unfold Bw at j
  exact qr)
 refine⟨e,o,?_⟩;refine nj (λv u=>?_);obtain⟨d,x,g,t,c,rfl⟩:=JI.1 u;rw[<-EP d,<-EP d,k t (h.safe x g t c),G2]
def Uv{a}(h:aF a f)(g:e∈BN a f):∃b∈Aw (Jr a f) a f (Bf a) Bm,F0 (Bf a) b=F0 (Bf a) e:=by
 have k:=J6 h.facts h.qH g;have c:∀x∈a,Cm (Bq (Lq e)) (Eo (Lq e)) f x=true:=oa
 obtain⟨b,j,_,d,_⟩:=Hr h.zD (To (Gj a f) h.zD) c _ Bm (Ej.start _) h.vars;refine⟨b,j,?_⟩;refine nj (λv i=>?_);rw[d v i];rfl
def aF.zu{a}(h:aF a f){b}(j:b∈Aw (Jr a f) a f (Bf a) Bm):∀v∈Bf a,A7 (NR b v):=by
 intro v c;obtain⟨n,_,_,l⟩:=BV (λv e t i=>(h.al v e t i).size) _ Bm b rfl (λv c=>(h.vars v c).1) j;have k:=FN h.al _ Bm DA.start b j;obtain⟨o,x,p,t,i,rfl⟩:=JI.1 c;have d:=l _ c;have m:=(h.vars _ c).1;unfold NR at d|-;have g:t.v.toNat-65<Z b:=by have:=m.2;omega
 rw[mq,mc g]at d|-;rcases k.2 _ (lV g)with h1|h1
 .exact rl h1 d
 .exact h1
def N5{k}{p}{s}(o:∀v e,(k v e).Pairwise lm)(f:∀v e,∀t∈k v e,A7 t):
  ∀c (e:kN bN),Z e=26->c.Nodup->(∀v∈c,EB v)->(Aw k p s c e).Pairwise λa b=>Ek (F0 c a) (F0 c b)=true
 |[],e,he,_,_=>by
  rw[Aw];split
  .exact rp
  .exact ln
 |v::c,e,he,hn,hv=>by
  rw[Aw];split
  .exact rp
  .have r:=hv v ln;rw[od]at hn;have l:∀t,∀b∈Aw k p s c (e.set (v.toNat-65) t),F0 (v::c) b=t::F0 c b:=by
    intro t b i;obtain⟨_,_,y,_⟩:=BV (λv e t d=>(f v e t d).size) c _ b li (λu g=>hv u (by simp[g])) i;unfold F0;rw[mA,y v r hn.1,LR he r]
   rw[List.pairwise_flatMap];refine⟨λt d=>?_,?_⟩
   .refine(N5 o f c _ li hn.2 (λu g=>hv u (by simp[g]))).imp_of_mem ?_;intro a b m i h;rw[l t a m,l t b i,Ek,mo ln];exact h
   .refine(o v e).imp_of_mem ?_;intro t u d g j a m b i;rw[l t a m,l u b i,Ek,mm,<-IE (f v e t d) (f v e u g)]
    .exact j
    .intro n;rw[EU]at n;subst n;unfold lm Hn at j;rw[IE (f v e t d) (f v e t d)]at j;have w:=OF (AE t) (AE t);rw[IE (f v e t d) (f v e t d),(BD _ _).2 rfl]at w;exact rl (w.2 j) lu
def LO(vs:kN rC)(e:kN bN):Ae:=⟨ky,F0 vs e⟩
def F6(vs:kN rC)(s:kN Ae)(es:kN (kN bN)):kN Ae:=es.foldl (λs e=>A3 s (LO vs e)) s
def Kt(a):∀b s,(∀e∈b,AG (LO a e))->D3 s->(∀f∈s,AG f)->D3 (F6 a s b)/\(∀f∈F6 a s b,AG f)/\∀g,g∈F6 a s b↔g∈s\/∃e∈b,g=LO a e
 |[],s,_,hs,hc=>⟨hs,hc,λg=>by simp[F6]⟩
 |e::b,s,he,hs,hc=>by
  obtain⟨l,k,m⟩:=CR (he e ln) hs hc;obtain⟨j,i,n⟩:=Kt a b _ (λd c=>he d ss) l k;refine⟨j,i,λg=>?_⟩;show g∈F6 a (A3 s (LO a e)) b↔_;rw[n,m];constructor
  .rintro ((h|h)|⟨d,c,h⟩)
   .exact Or.inl h
   .exact qr
   .exact Or.inr ⟨d,ss,h⟩
  .rintro (h|⟨d,c,h⟩)
   .exact Or.inl (Or.inl h)
   .rcases l9.1 c with rfl|c
    .exact Or.inl (Or.inr h)
    .exact Or.inr ⟨d,c,h⟩
def aF.zv{a}(h:aF a f)(g:e∈BN a f):AG (LO (Bf a) e):=by
 obtain⟨b,j,i⟩:=Uv h g;intro x k;have c:x∈F0 (Bf a) b:=by rw[i];exact k
 obtain⟨v,d,rfl⟩:=me.1 c;exact h.zu j v d
def Xd{c}{s}(h:aF c s):F6 (Bf c) [] (BN c s)=(Aw (Jr c s) c s (Bf c) Bm).map (LO (Bf c)):=by
 obtain⟨o,n,r⟩:=Kt _ _ [] (λe d=>h.zv d) rp (λf j=>by cases j);refine TK o ?_ n ?_ ?_
 .unfold D3;rw[oE];refine(N5 (λv e=>R5 (λt q=>JC h.qK h.fit v e t q)) h.al _ Bm rfl (V3 c) (λv k=>(h.vars v k).1)).imp ?_;intro a b p;unfold D1 LO;exact li
 .intro f j;obtain⟨b,i,rfl⟩:=me.1 j;intro x w;obtain⟨v,k,rfl⟩:=me.1 w;exact h.zu i v k
 .intro g;rw[r];constructor
  .rintro (m|⟨e,d,rfl⟩)
   .cases m
   .obtain⟨b,i,l⟩:=Uv h d;exact me.2 ⟨b,i,by unfold LO;rw[l]⟩
  .intro u;obtain⟨b,i,rfl⟩:=me.1 u;obtain⟨e,d,l⟩:=Q8 h i;exact Or.inr ⟨e,d,by unfold LO;rw[l]⟩
def KI:bN->rD->kN rC->kN bN->bN
 |t,b,v::vs,x::xs=>KI ((if b then t++⟨#[32]⟩else t)++⟨#[v]⟩++⟨#[61]⟩++x) true vs xs
 |t,_,_,_=>t
def F5(vs:kN rC):bN->kN (kN bN)->bN
 |t,[]=>t
 |t,r::l=>F5 vs (KI t false vs r++⟨#[10]⟩) l
def Tw{a}(h:LQ c a=(0,0)):(∀p∈a,Qs c p=false)/\D4 Ga a<0:=by
 unfold LQ at h;cases hf:a.find? (Qs c)with
 |some p=>rw[hf]at h;simp at h
 |none=>
  exact qr
def Ny(p):Bw p.1=AA p:=rfl
def Sq{b}{a}{s}(j:Cb b)(k:∀f∈s,DQ b f)(q:LQ b a=(0,0))(v:∀x∈a.map kD,Di x):aF (a.map kD) s:=by
 obtain⟨r,l⟩:=Tw q;refine⟨v,λx g t m=>?_,λf d x g o y=>?_,λf d=>(k f d).qK j.prog.zI⟩
 .obtain⟨p,e,rfl⟩:=me.1 g;have w:=(OY l).2 p e t oa;exact GQ (c:=⟨Ga,.slice none 0 0,.slice none 0 0,a,0⟩) w
 .obtain⟨p,e,rfl⟩:=me.1 g;obtain⟨c,A,z,u⟩:=(k f d).zV;have i:=j.order.zZ c A;rw[<-z,y]at i;have n:=r p e;rcases Nc b p i rfl with⟨h,_⟩|⟨_,h⟩
  .rw[n]at h;cases h
  .rcases h with h|⟨_,⟨_,_,h,_⟩|⟨h,_⟩⟩
   .unfold L5 at h;rw[o]at h;cases h
   .rw[u];omega
   .omega
def PO{a}(e:LQ c a=(0,0)):∀p∈a,Z (AA p)<=2:=by
 intro p b;have d:=(Tw e).1 p b;unfold AA;cases hi:L5 p with
 |false=>simp
 |true=>
  rcases Nc c p rfl rfl with⟨h,_⟩|⟨_,h⟩
  .rw[d]at h;cases h
  exact qy
def QP{a}(d:LQ c a=(0,0))(h:Z a<=3):Z (Bf (a.map kD))<=6:=by
 unfold Bf;have f:=XI (qS Bw (a.map kD)) [];have e:=ON Bw 2 (a.map kD) (λx g=>by
  obtain⟨p,b,rfl⟩:=me.1 g
  exact PO d p b)
 rw[mh]at e;rw[mI,m7]at f;omega
def ey(b:kN Bc):qU VD [] b=Bf (b.map kD):=by
 have h:∀(l:kN Bc) (a:kN rC),qU VD a l=DJ a (qS Bw (l.map kD)):=by
  intro l
  induction l with
  |nil=>intro a;rfl
  |cons p l ih=>
   intro a;rw[mK,ih,mA,mB];unfold VD DJ;rw[m6];rfl
 exact h b []
def SZ{a}(h:s∈consts a):s∈Bh a:=by
 rw[(E2 a).mem,(C8 _).2];obtain⟨c,f,g⟩:=mH.1 h;obtain⟨t,e,rfl⟩:=me.1 g;obtain⟨d,b⟩:=my.1 e;refine mH.2 ⟨c,f,me.2 ⟨t,my.2 ⟨?_,b⟩,rfl⟩⟩;exact nP _ d
def M8{b}{s}(n:∀f∈s,DQ c f)(h:aF b s)(k:e∈BN b s):∀v∈Bf b,NR e v∈consts c:=by
 intro v d;obtain⟨_,x,o,i,u,m,g⟩:=h.vars v d;have l:=(JI.1 d).1;have a:=J6 h.facts h.qH k x o;unfold Cm at a;rw[mo i]at a;have j:=(n _ ((B1 _ _).1 a)).qH;rw[<-g,<-EP (by rw[g];exact l)];exact j _ (mx m)
def W7{a}{s}(p:Cb c)(u:∀f∈s,DQ c f)(h:aF a s)(z:Z (Bf a)<=6)(b)(i:∀e∈b,e∈BN a s):Z (F6 (Bf a) [] b)<=46656:=by
 obtain⟨n,j,t⟩:=Kt (Bf a) b [] (λe d=>h.zv (i e d)) rp (λf q=>by cases q);have y:=n.nodup j;have o:=G0 (F6 (Bf a) [] b) ((Em (Bh c) (Z (Bf a))).map (Ae.mk ky)) y (λg l=>by
  rcases(t g).1 l with m|⟨e,d,rfl⟩
  .cases m
  .refine me.2 ⟨F0 (Bf a) e,?_,rfl⟩
   have r:Z (F0 (Bf a) e)=Z (Bf a):=by unfold F0;rw[mh]
   rw[<-r]
   refine Md _ _ (λx w=>?_)
   obtain⟨v,A,rfl⟩:=me.1 w
   exact SZ (M8 u h (i e d) v A))
 rw[mh,Ko]at o;have k:=p.order.six;have B:Z (Bh c)^Z (Bf a)<=6^6:=mZ (Nat.pow_le_pow_left k _) (Nat.pow_le_pow_right lu z);have:(6:Nat)^6=46656:=lu
 omega
def YV(h:s.size<=300){d:kN Bc}(f:d.map kD=(By s 0).1)(g:(By s 0).2.2=false):∀p∈d,∀t∈AA p,t.v=0->0<t.s.size/\t.s.size<=1000000:=by
 intro p e t a b;have c:=(Kx s 0 (mr _)).2.2 g p.1 (by rw[<-f];exact mx e);unfold AA at a;cases ha:L5 p with
 |true=>
  rw[ha]at a;have:=c.atom t oa b;omega
 |false=>
  rw[ha]at a;simp at a;rcases a with rfl|rfl
  .have:=c.left ha b;omega
  .have:=c.right ha b;omega
def bL{b}{s}(H:Cb c)(hF:LP c)(F:∀f∈s,DQ c f)(D:LQ c b=(0,0))(o:aF (b.map kD) s)(E:∀p∈b,∀t∈AA p,t.v=0->0<t.s.size/\t.s.size<=1000000):
  (∀p∈b,(p.1.b==97)=true->(∀t∈p.1.A.qH,BJ t)/\Z p.1.A.qH<=1000)/\
  ∀e∈qU (Ce s) [Bm] (b.map kD),∀p∈b,(p.1.b==97)=false->MO e p.1:=by
 have k:=PO D;have q:∀e∈qU (Ce s) [Bm] (b.map kD),∀p∈b,∀t∈AA p,0<(AI e t).size/\(AI e t).size<=1000000:=by
  intro e d p a t i;by_cases l:t.v=0
  .have n:=E p a t i l;unfold AI;rw[mo l];exact n
  .obtain⟨_,_,_,_,C⟩:=CY o.facts _ [Bm] (λe d=>by simp at d;rw[d];rfl) o.qH e d;rcases o.safe p.1 (mx a) t oa with n|⟨y,hy,m,u,hu,huv⟩
   .exact rl n l
   .have n:=(F _ (C y hy m).1).qH _ (mx hu);have k:=GS hF _ n;(have g:AI e u=AI e t:=by unfold AI;rw[huv,mm l,mm l]);rw[g]at k;exact k
 refine⟨λp a m=>⟨o.qH p.1 (mx a) m,?_⟩,λe d p a m=>?_⟩
 .have g:=k p a;unfold AA L5 at g;rw[m]at g;simp at g;omega
 .have h:=o.g p.1 (mx a);have g:=k p a;refine⟨λw=>?_,λr=>?_⟩
  .unfold Di at h;rw[mo w]at h;(have j:AA p=p.1.A.qH:=by unfold AA L5;rw[w];rfl);rw[j]at g;refine⟨λt i=>(h.qH t i).fit,lc,⟨by simp[Av];omega,λx G=>?_⟩⟩;obtain⟨t,i,rfl⟩:=me.1 G;exact q e d p a t (by rw[j];exact i)
  .unfold Di at h;rw[mm (by rw[r];simp)]at h;(have j:AA p=[p.1.L,p.1.R]:=by unfold AA L5;rw[r];rfl);have z:=q e d p a p.1.L (by rw[j];simp);have B:=q e d p a p.1.R (by rw[j];simp);exact⟨h.1.fit,h.2.1.fit,z.1,z.2,B.1,B.2⟩
end
section
variable{k:Nat}{s:bN}{c:kN AW}{I:Int}
def Tc(s q:bN)(er at_:Int):Prop:=
 ∃e1 a1:Int,Ds s e1 a1/\((e1≠0/\er=e1/\at_=a1)\/
  (e1=0/\∃cs:kN AW,cs.map AW.erase=(Ao s (Af s 0)).1/\CH cs=(0,0)/\Es q cs er at_))
def ij(s q t:bN)(er:Int):Prop:=
 (er≠0->t=ky)/\
 (er=0->∃(cs:kN AW) (fs:kN Ae) (bl:kN Bc),cs.map AW.erase=(Ao s (Af s 0)).1/\Cb cs/\Hu cs (BW cs 6) 7 fs/\bl.map kD=(By q 0).1/\aF (bl.map kD) fs/\
  t=F5 (Bf (bl.map kD)) ky ((F6 (Bf (bl.map kD)) [] (BN (bl.map kD) fs)).map Ae.qH))
def Yr(b){a:kN (kN bN)}(c):F6 b [] (qT (k+1) a)=A3 (F6 b [] (qT k a)) (LO b a[k]):=by
 unfold F6;rw[lW c,m6];rfl
def Es.zero(h:Es s c 0 I):I=0:=by
 unfold Es at h;split at h
 .exact h.2
 .split at h
  .exact lc
  .split at h
   .exact h.2
   .obtain⟨a,_,h⟩:=h;unfold LQ at h;split at h
    .exact rl (rk kD h) ln
    .split at h
     .exact rl (rk kD h) ln
     .exact rk Prod.snd h
def Tc.zero{s q}{a}(h:Tc s q 0 a):a=0:=by
 obtain⟨d,b,_,h|⟨_,c,_,_,h⟩⟩:=h
 .exact lc
 .exact h.zero
set_option maxRecDepth 100000
theorem gH(s q:bN)(w)(X2:s.size<=9223372036854775807)(YP:q.size<=9223372036854775807):rE rF 69 #[O s,O q] w λe w'=>∃(t:bN) (G P:Int),e=.returned (.tuple #[O t,X .i64 G,X .i64 P])/\Tc s q G P/\ij s q t G/\Ac [] w w':=by
 obtain⟨i0,K3,W3,b0,av⟩:=mW Tryz.zk;have TL:=Ab (Ju s w X2);go_enter func69,ntmps69;go_wp2_with fail
 refine(Aa TL).G ?_;rintro _ w1 ⟨pv,G,P,rfl,M0,Ix,k1⟩;have HJ:=Ab M0;have HU:=Ab Ix;have FO:=Ab k1;clear TL M0 Ix k1;by_cases h0:G=0
 .subst h0;obtain⟨pb,TS,QR,cs,rfl,hP,hR,hF,HZ,hr,AB,FP⟩:=Aa HU rfl;have bz:((0:Int) !=0)=false:=rfl;have A:=EN hr AB FP;have SB:=Ab (bQ q pb TS QR cs w1 YP hP hR hF);have HM:jV (∀a,Ac [] w1 a->_):=λa y=>No s pb TS QR cs a (hP.C y) (hR.C y) hF hr AB FP
  have RI:jV (∀G P,Es q cs G P->Tc s q G P):=λch cB h=>⟨0,P,Aa HJ,Or.inr ⟨rfl,cs,AB,FP,h⟩⟩
  have K2:=Ab (And.intro A (And.intro hF AB));clear hP hR hF HZ hr AB FP HU A;go_wp2_with fail
  refine(Aa SB).G ?_;rintro _ w2 ⟨bv,e2,a2,rfl,ST,RE,k2⟩;have IS:=Ab (Aa RI e2 a2 ST);have K9:=Ab RE;have HD:=Ab k2;clear SB RI HJ ST RE k2;by_cases h2:e2=0
  .subst h2;obtain⟨MN,H4,a8,D,F,m,rfl,IJ,EM,K4,HT,CL⟩:=Aa K9 rfl;(have H9:∀x∈m.map kD,Di x:=by rw[EM];exact Nb H4);have HV:=Ab (dL D F m w2 K4 HT lc (λp A=>by
    have h1:=(Kx q 0 (mr _)).2.1 p.1 (by rw[<-EM];exact mx A)
    omega))
   rw[ey]at HV;have h6:=QP CL IJ;have NA:=YV MN EM H4;obtain⟨A,hF,AB⟩:=Aa K2;have QQ:jV (∀(B2:rB) (B0:Nat) (l:kN BE) (a:World),Ac [] w2 a->CS a (U B2 (Z l) B0) l->Hu cs (BW cs 6) 7 (l.map BE.f)->
     rE rF 47 #[U D (Z m) F,U B2 (Z l) B0] a λr w'=>∃D F,r=.returned (U D (Z (BN (m.map kD) (l.map BE.f))) F)/\BR w' a.heap.size (U D (Z (BN (m.map kD) (l.map BE.f))) F) (BN (m.map kD) (l.map BE.f))/\Ac [] a w'):=by
    intro B2 B0 l a y hS M;have AH:=Sq A M.zS CL H9;have NV:=bL A hF M.zS CL AH NA;refine Tn D F m B2 B0 l a (Ad K4 y) (λp A=>Ad (HT p A) y) hS IJ ?_ NV.1 NV.2;have:=(A.fit hF).len _ M.zV;rw[mh]at this;exact this
   have HX:jV (∀l:kN BE,Hu cs (BW cs 6) 7 (l.map BE.f)->aF (m.map kD) (l.map BE.f)/\(∀e∈BN (m.map kD) (l.map BE.f),Z e=26/\M4 (LO (Bf (m.map kD)) e))/\(∀k,Z (F6 (Bf (m.map kD)) [] (qT k (BN (m.map kD) (l.map BE.f))))<=46656)/\(∀v∈Bf (m.map kD),EB v)/\(∀g∈F6 (Bf (m.map kD)) [] (BN (m.map kD) (l.map BE.f)),Z g.qH=Z (Bf (m.map kD)))/\
     ij s q (F5 (Bf (m.map kD)) ky ((F6 (Bf (m.map kD)) [] (BN (m.map kD) (l.map BE.f))).map Ae.qH)) 0):=by
    intro l M;have AH:=Sq A M.zS CL H9;refine⟨AH,λe he=>⟨UN e he,?_,λx hx=>?_⟩,λk=>W7 A M.zS AH h6 _ (λe he=>ny he),λv hv=>(AH.vars v hv).1,λg hg=>?_,λh=>rl rfl h,λ_=>⟨cs,l.map BE.f,m,AB,A,M,EM,AH,rfl⟩⟩
    .show Z (F0 _ e)<=1000;unfold F0;rw[mh];omega
    .obtain⟨v,hv,rfl⟩:=me.1 hx;exact GS hF _ (M8 M.zS AH he v hv)
    .rcases((Kt _ _ [] (λe he=>AH.zv he) rp (λf hf=>by cases hf)).2.2 g).1 hg with h|⟨e,_,rfl⟩
     .cases h
     .show Z (F0 _ e)=_;unfold F0;rw[mh]
   clear K4 HT CL NA H9 EM IJ A hF AB MN H4 a8 K2;generalize Bf (m.map kD)=VS at HV HX h6;(go_wp2_with fail);refine(Aa HV).G ?_;rintro _ w3 ⟨N4,H7,rfl,Nq,k3⟩;have S1:=Ab Nq;have KS:=Ab k3;have SS:=Ab (Aa HM w3 ((Aa HD).H k3));clear HV Nq k3 HM;(go_wp2_with fail);refine(Aa SS).G ?_;rintro _ w4 ⟨B2,B0,l,rfl,hS,M,k4⟩;have Jx:=Ab (Aa QQ B2 B0 l w4 ((Aa KS).H k4) hS M);have AT:=Ab (Aa HX l M);have S0:=Ab (Ad (Aa S1) k4);have SL:=Ab ((Aa KS).H k4);clear SS hS M k4 QQ HX S1 KS;generalize BN (m.map kD) (l.map BE.f)=ES at Jx AT;(go_wp2_with fail);refine(Aa Jx).G ?_;rintro _ w5 ⟨b6,al,rfl,hE,k5⟩;have HE:=Ab hE;have K6:=Ab (Ad (Aa S0) k5);have Pl:=Ab ((Aa HD).H ((Aa SL).H k5));clear Jx hE k5 S0 SL HD;have ar:=VH (Aa HE).row;go_wp2_with fail
   go_loopw [15,16] (λo i wr=>∃(k:Nat) (b:kN BE) (D:rB) (F:Nat),i=X .i64 k/\k<=Z ES/\o=U D (Z b) F/\jV (b.map BE.f=F6 VS [] (qT k ES))/\jV (CS wr (U D (Z b) F) b)/\jV (Ac [] w5 wr)) (λ_ i _=>Z ES-(rG i).toNat)
   case atStart=>exact⟨0,[],Y,0,rfl,mr _,rfl,by show _=_;simp[F6],⟨mw _ _ _ _,λp A=>by cases A⟩,kR _ _⟩
   case round=>
    obtain⟨k,b,H5,HW,rfl,y,rfl,W,LB,B9⟩:=hrel;by_cases T:k<Z ES
    .obtain⟨ge,ce,NY,_,TX⟩:=Jb ((Aa HE).C (Aa B9)) k T;obtain⟨rfl,_,rfl⟩:=qX NY;obtain⟨E,Go⟩:=kQ (ES[k]);(have NB:E∈ES:=by rw[<-Go];exact lV T);obtain⟨cx,NS⟩:=(Aa AT).2.1 E NB;(have WS:jV (F6 VS [] (qT (k+1) ES)=A3 (F6 VS [] (qT k ES)) (LO VS E)):=by show _=_;rw[Yr VS T,Go]);have PT:jV (∀j (hj:j<Z VS) a,Ac [] wr a->∃u:Nat,(VS[j].toNat:Int)=(u:Int)+65/\u<26/\jY a ⟨ge,k*26+u,Y⟩=V (O (NR E VS[j]))):=by
      intro j hj a K7;obtain⟨h1,h2⟩:=(Aa AT).2.2.2.1 _ (lV hj);refine⟨VS[j].toNat-65,lc,lc,K7.cellAt (TX _ _ ?_)⟩;rw[Go];unfold Al NR;rw[no,mc lc,mq,mc lc];rfl
     (have SP:jV (∀a,Ac [] wr a->kt a w2.heap.size 5 1 (U N4 (Z VS) H7) (Z VS) (qS Ea VS)):=λa K7=>Ad (Aa K6) ((Aa B9).H K7));have VL:=Ab NS;have HG:=Ab (kR [] wr);have WW:(k:Int)<(Z ES:Int):=lc;have X3:=rJ k;clear Go NB NS TX;obtain⟨N0,L0⟩:=kQ wr.heap.size;have LE:=Ab L0;clear L0;generalize wr=wo at*;go_wp2_with fail
     go_loopw [17,18] (λo i a=>∃(j:Nat) (D:rB) (F:Nat),i=X .i64 j/\j<=Z VS/\o=U D j F/\jV (kt a N0 9 1 (U D j F) j (qS Ai ((qT j VS).map (NR E))))/\jV (Ac [] wo a)) (λ_ i _=>Z VS-(rG i).toNat)
     case atStart=>exact⟨0,Y,0,rfl,mr _,rfl,mw _ _ _ _,HG⟩
     case round=>
      obtain⟨j,S,Q,rfl,hj,rfl,FL,C⟩:=hrel;by_cases N:j<Z VS
      .obtain⟨gv,cv,FF,_,EY⟩:=Az (Aa SP wr (Aa C)) (λc _=>Hs c) j N;obtain⟨rfl,_,rfl⟩:=qX FF;have v0:=EY j N 0 lc;simp[Ea]at v0;obtain⟨u,e1,dc,x0⟩:=Aa PT j N wr (Aa C);rw[e1]at v0;have H6:jV (qS Ai ((qT (j+1) VS).map (NR E))=qS Ai ((qT j VS).map (NR E))++[O (NR E VS[j])]):=by
        show _=_;rw[lW N,mO,mD];rfl
       obtain⟨z,hX⟩:=kQ (NR E VS[j]);rw[hX]at x0 H6;(have LS:IntKind.u8.wrap (u:Int)=u:=by rw[IntKind.wrap_u8];omega);(have U0:IntKind.u8.wrap ((u:Int)+65-65)=u:=by rw[show(u:Int)+65-65=u by omega];exact LS);have W0:=rJ u;have cb:(u:Int)<26:=lc;have cR:(j:Int)<(Z VS:Int):=lc;have c6:=rJ j;have HZ:=(Aa C).size;rw[Aa LE]at HZ;have HL:jV (∀a,Ac [] wo a->jY a ⟨gv,j,Y⟩=V (X .u8 ((u:Int)+65))/\jY a ⟨ge,k*26+u,Y⟩=V (O z)):=λa y=>by
        obtain⟨df,c0,NN,_,X1⟩:=Az (Aa SP a y) (λc _=>Hs c) j N;simp only[lU,lZ,mR]at NN;obtain⟨⟨rfl,_,_⟩,_,_⟩:=NN;have v1:=X1 j N 0 lc;simp[Ea]at v1;obtain⟨bs,ds,_,x1⟩:=Aa PT j N a y;obtain rfl:bs=u:=lc;rw[e1]at v1;rw[hX]at x1;exact⟨v1,x1⟩
       clear EY e1 hX;(go_wp2_with fail);have L:jV (jY wr.drew ⟨gv,j,Y⟩=V (X .u8 ((u:Int)+65))/\jY wr.drew ⟨ge,k*26+u,Y⟩=V (O z)):=Aa HL _ (Aa C).drew;refine Cx 13 (λa=>jY a ⟨gv,j,Y⟩=V (X .u8 ((u:Int)+65))/\jY a ⟨ge,k*26+u,Y⟩=V (O z)) lo ?_;refine Cw.tq (i:=0) (v:=U S j Q) rfl (λ_ _ _ h=>h) L ?_;simp only[kF,lR,lS,lT];refine Cw.tq (i:=1) (v:=U (V ⟨ge,0,Y⟩) (Z ES) al) rfl (λ_ _ _ h=>h) L ?_;simp only[kF,lR,lS,lT];refine Cw.tq (i:=2) (v:=X .i64 k) rfl (λ_ _ _ h=>h) L ?_;simp only[kF,lR,lS,lT];refine Cw.tq (i:=3) (v:=U (V ⟨gv,0,Y⟩) (Z VS) H7) rfl (λ_ _ _ h=>h) L ?_;simp only[kF,lR,lS,lT];refine Cw.tq (i:=4) (v:=X .i64 j) rfl (λ_ _ _ h=>h) L ?_;simp only[kF,lR,lS,lT];refine Cw.tq (i:=5) (v:=jj (V ⟨gv,j,Y⟩)) rfl (λ_ _ _ h=>h) L ?_;simp only[kF,lR,lS,lT];refine Cw.tq (i:=6) (v:=X .u8 ((u:Int)+65)) rfl (λ_ _ _ h=>h) L ?_;simp only[kF,lR,lS,lT];refine Cw.tq (i:=7) (v:=X .u8 (u:Int)) rfl (λ_ _ _ h=>h) L ?_;simp only[kF,lR,lS,lT];refine Cw.tq (i:=8) (v:=jj (V ⟨ge,k*26,Y⟩)) rfl (λ_ _ _ h=>h) L ?_;simp only[kF,lR,lS,lT];refine Cw.tq (i:=9) (v:=jj (V ⟨ge,k*26+u,Y⟩)) rfl (λ_ _ _ h=>h) L ?_;simp only[kF,lR,lS,lT];refine Cw.tq (i:=10) (v:=O z) rfl (λ_ _ _ h=>h) L ?_;simp only[kF,lR,lS,lT];refine Cw.one (i:=11) lo rfl (λFC hK=>?_)
       go_simp
       refine hK.o _ _ (λ_=>Aa HL _ ((Aa C).drew.alloc _)) ?_;clear hK FC
       try simp only[kF,lR,lS,lT]
       refine Cw.one (i:=12) lo rfl (λFC hK=>?_);refine oJ _ lx _ _ _ lx N0 9 i0 _ 1 16 underlying41 K3 W3 b0 av rfl lc (U S j Q) j (qS Ai ((qT j VS).map (NR E))) lx (mg (CV (Aa FL)) _) ⟨wr.drew.heap.size,0,Y⟩ 1 1 [O z] lx lx (mz (mG wr.drew _)) lC lc lw lc li (wr.drew.heap.size+1) ln ?_;intro g5 Os w6 LL TT Wa bp;have H8:Ac [] wo w6:=((Aa C).drew.alloc _).grown TT (λq hq=>Or.inr (by have:=((Aa FL).lt q hq).1;have:=Aa LE;omega));refine hK.o _ _ (λ_=>Aa HL _ H8) ?_;clear hK FC
       try simp only[kF,lR,lS,lT]
       refine Cw.one (i:=13) lo rfl (λFC hK=>?_)
       go_simp
       refine hK.o _ _ (λh=>rl rfl h) ?_;clear hK FC;refine Cw.done lo ?_ _
       try simp only[kF,lR,lS,lT]
       (have aT:jV (kt w6 N0 9 1 (U (V ⟨g5,0,Y⟩) (j+1) Os) (j+1) (qS Ai ((qT (j+1) VS).map (NR E)))):=by rw[Aa H6];exact LL);have bt:=Ab H8;clear LL TT Wa bp H8 H6 FL C HL L v0 x0 LS U0;go_wp2
       go_roundw
       case rel=>exact⟨j+1,V ⟨g5,0,Y⟩,Os,ly,lc,rfl,aT,bt⟩
       case measure=>simp[rG];omega
      ·have a3:j=Z VS:=lc;subst a3;have Mo:jV (DR wr ⟨LO VS E,U S (Z VS) Q⟩):=by
        show kt wr 0 9 1 _ (Z (F0 VS E)) _;have h:=Ak (Aa FL) (mr _);rw[lY (mt _)]at h;unfold LO F0;rw[mh];exact h
       have DT:jV (Z b<=46656):=by
        have h:=(Aa AT).2.2.1 k;rw[<-Aa W,mh]at h;exact h
       have K5:jV (rE rF 57 #[U H5 (Z b) HW,.agg #[O ⟨#[]⟩,U S (Z VS) Q]] wr λe w'=>∃D F,e=.returned (U D (Z (Eh b ⟨LO VS E,U S (Z VS) Q⟩)) F)/\CS w' (U D (Z (Eh b ⟨LO VS E,U S (Z VS) Q⟩)) F) (Eh b ⟨LO VS E,U S (Z VS) Q⟩)/\Ac [] wr w'):=
        LZ H5 HW b ⟨LO VS E,U S (Z VS) Q⟩ wr ((Aa LB).C (Aa C)) (Aa Mo) (by have:=Aa DT;omega) (Aa VL)
       (have M6:jV ((Eh b ⟨LO VS E,U S (Z VS) Q⟩).map BE.f=F6 VS [] (qT (k+1) ES)):=by show _=_;rw[JF,Aa WS,Aa W]);generalize Eh b ⟨LO VS E,U S (Z VS) Q⟩=rs2 at K5 M6;clear FL Mo DT;(go_wp2_with fail);refine(Aa K5).G ?_;rintro _ w7 ⟨a4,W1,rfl,SJ,k7⟩;have b2:=Ab SJ;have ba:jV (Ac [] w5 w7):=(Aa B9).H ((Aa C).H k7);clear SJ k7 K5 C;go_wp2
       go_roundw
       case rel=>exact⟨k+1,rs2,a4,W1,ly,lc,rfl,M6,b2,ba⟩
       case measure=>simp[rG];omega
    ·(have H1:jV (b.map BE.f=F6 VS [] ES):=by show _=_;have h:=Aa W;rwa [lY lc]at h);have DT:jV (Z b<=46656):=by
      have h:=(Aa AT).2.2.1 k;rw[<-Aa W,mh]at h;exact h
     (have XS:jV (∀p∈b,Z p.f.qH=Z VS):=λp A=>(Aa AT).2.2.2.2.1 p.f (by rw[<-Aa H1];exact mx A));obtain⟨R,hR⟩:=kQ (F5 VS ky ((F6 VS [] ES).map Ae.qH));have LD:jV (F5 VS ky ((b.drop 0).map λp=>p.f.qH)=R):=by
      show _=_;rw[<-hR,<-Aa H1,nh];rfl
     (have VR:jV (ij s q R 0):=by rw[<-hR];exact(Aa AT).2.2.2.2.2);(have a9:jV (∀a,Ac [] wr a->kt a w2.heap.size 5 1 (U N4 (Z VS) H7) (Z VS) (qS Ea VS)):=λa y=>Ad (Aa K6) ((Aa B9).H y));(have FW:jV (∀a,Ac [] wr a->CS a (U H5 (Z b) HW) b):=λa y=>(Aa LB).C y);have ag:jV (Ac [] w wr):=(Aa FO).H ((Aa Pl).H (Aa B9));have HG:=Ab (kR [] wr);(have a0:jV (Tc s q 0 0):=by have h:=Aa IS;rw[h.zero]at h;exact h);have Ix:=Aa DT;clear W H1 hR AT K6 HE B9 LB FO Pl DT ar IS K9;generalize wr=wo at*;(go_wp2_with fail);clear T y
     go_loopw [19,20] (λo i a=>∃(k:Nat) (t:bN),i=X .i64 k/\k<=Z b/\o=O t/\t.size<=k*10000000/\jV (F5 VS t ((b.drop k).map λp=>p.f.qH)=R)/\jV (Ac [] wo a)) (λ_ i _=>Z b-(rG i).toNat)
     case atStart=>exact⟨0,ky,rfl,mr _,rfl,ln,LD,HG⟩
     case round=>
      clear LD HG;obtain⟨k,t,rfl,y,rfl,a6,HC,C⟩:=hrel;have b7:k*10000000<=46656*10000000:=m5 _ lc;by_cases T:k<Z b
      .obtain⟨gr,cr,n,B,N2,NE,he,HH,d0,d1⟩:=Dd (Aa FW wr (Aa C)) k T;obtain⟨rfl,_,rfl⟩:=qX he;have EX:=lV T;rw[HH]at EX;have MY:Z B=Z VS:=Aa XS _ EX;(have Nj:jV (∀a,Ac [] wo a->kt a 0 9 1 (U N2 (Z B) NE) (Z B) (qS Ai B)):=λa y=>((Aa FW a y).j _ EX).1);(have b1:jV (∀x∈B,x.size<=1000000):=λx hx=>(((Aa FW wr (Aa C)).j _ EX).2.j x hx).2);obtain⟨H,H0⟩:=kQ (KI t false VS B);have Nd:jV (KI t (decide (0<0)) (VS.drop 0) (B.drop 0)=H):=H0;have af:jV (F5 VS (H++⟨#[10]⟩) ((b.drop (k+1)).map λp=>p.f.qH)=R):=by
        have h:=Aa HC;rw[mu T,mA,F5,HH,H0]at h;exact h
       have NM:jV (∀a,Ac [] wo a->jY a ⟨gr,k*2+1,Y⟩=V (U N2 (Z B) NE)):=by
        intro a y;obtain⟨b5,b4,n',c5,c8,db,LM,M1,_,ap⟩:=Dd (Aa FW a y) _ T;simp only[lU,lZ,mR]at LM;obtain⟨⟨rfl,_,_⟩,_,_⟩:=LM;rw[HH]at M1;cases M1
        exact ap
       have WW:(k:Int)<(Z b:Int):=lc;have X3:=rJ k;clear HH EX HC H0 d0;rw[MY]at Nj NM d1;(go_wp2_with fail);clear d1
       go_loopw [19,21] (λo i a=>∃(j:Nat) (d:bN),i=X .i64 j/\j<=Z VS/\o=O d/\d.size<=k*10000000+j*1000010/\jV (KI d (decide (0<j)) (VS.drop j) (B.drop j)=H)/\jV (Ac [] wo a)) (λ_ i _=>Z VS-(rG i).toNat)
       case atStart=>exact⟨0,t,rfl,mr _,rfl,by rw[Nat.zero_mul,pN];exact a6,Nd,C⟩
       case round=>
        clear Nd C;obtain⟨j,d,rfl,hj,rfl,T0,HB,CC⟩:=hrel;have cL:j*1000010<=6*1000010:=m5 _ lc;have d1:=Aa NM _ (Aa CC);by_cases N:j<Z VS
        .obtain⟨gv,cv,FF,_,EY⟩:=Az (Aa a9 _ (Aa CC)) (λc _=>Hs c) j N;obtain⟨rfl,_,rfl⟩:=qX FF;have v0:=EY j N 0 lc;simp[Ea]at v0;have KK:j<Z B:=lc;have HS:=Aa Nj _ (Aa CC);rw[<-MY]at HS;obtain⟨ga,ca,NX,x0⟩:=Hc HS j KK;obtain⟨rfl,_,rfl⟩:=qX NX;have BA:jV (KI ((if decide (0<j)then d++⟨#[32]⟩else d)++⟨#[VS[j]]⟩++⟨#[61]⟩++B[j]) true (VS.drop (j+1)) (B.drop (j+1))=H):=by
          have h:=Aa HB;rw[mu N,mu KK,KI]at h;exact h
         have bd:=Aa b1 B[j] (lV KK);obtain⟨I,hV⟩:=kQ (VS[j]);obtain⟨z,hX⟩:=kQ (B[j]);rw[hV]at v0 BA;rw[hX]at x0 BA bd;have c3:(j:Int)<(Z VS:Int):=lc;have W0:=rJ j;have c9:(convert 143 9 (U (V ⟨wr.heap.size,0,Y⟩) 1 1)).run rF (wr.alloc (.cells #[X .u8 (I.toNat:Int)] 5)).drew=.ok (O ⟨#[I]⟩) (wr.alloc (.cells #[X .u8 (I.toNat:Int)] 5)).drew:=by
          refine run_convert_bytes_back _ 143 9 5 ⟨wr.heap.size,0,Y⟩ 1 [I] underlying143 underlying5 underlying9 (λi hi=>?_);(have K3:i=0:=by simp at hi;omega);subst K3;exact(kS wr [X .u8 (I.toNat:Int)] 5).D 0
         have x1:=((kR [] wr).alloc (.cells #[X .u8 (I.toNat:Int)] 5)).cellAt x0;have d2:=((kR [] wr).alloc (.cells #[X .u8 (I.toNat:Int)] 5)).cellAt d1;clear EY hV hX HS HB;by_cases h0:0<j
         ·have bn:(0:Int)<(j:Int):=lc;(have a1:(d++⟨#[32]⟩:bN).size=d.size+1:=by rw[mj];rfl);have hb:d.size<=466566000060:=lc;have OH:¬9223372036854775807<d.size+1+1:=lc;have aa:¬9223372036854775807<d.size+1+1+1:=lc;have UO:¬9223372036854775807<d.size+1+1+1+z.size:=lc;have KA:jV (KI (d++⟨#[32]⟩++⟨#[I]⟩++⟨#[61]⟩++z) (decide (0<j+1)) (VS.drop (j+1)) (B.drop (j+1))=H):=by
           have h:=Aa BA;simp only[h0,decide_true,ro]at h;show _=_;simpa using h
          have EK:(d++⟨#[32]⟩++⟨#[I]⟩++⟨#[61]⟩++z:bN).size<=k*10000000+(j+1)*1000010:=by
           rw[mj,mj,mj,a1];show d.size+1+1+1+z.size<=_;omega
          clear BA;go_wp2_with fail
          go_region
          go_wp2
          go_roundw
          case rel=>exact⟨j+1,_,ly,lc,rfl,EK,KA,((Aa CC).alloc _).drew⟩
          case measure=>simp[rG];omega
         ·have bn:¬(0:Int)<(j:Int):=lc;have hb:d.size<=466566000060:=lc;have OH:¬9223372036854775807<d.size+1:=lc;have aa:¬9223372036854775807<d.size+1+1:=lc;have UO:¬9223372036854775807<d.size+1+1+z.size:=lc;have KA:jV (KI (d++⟨#[I]⟩++⟨#[61]⟩++z) (decide (0<j+1)) (VS.drop (j+1)) (B.drop (j+1))=H):=by
           have h:=Aa BA;simp only[h0,pX,ma,rm]at h;show _=_;simpa using h
          have EK:(d++⟨#[I]⟩++⟨#[61]⟩++z:bN).size<=k*10000000+(j+1)*1000010:=by
           rw[mj,mj,mj];show d.size+1+1+z.size<=_;omega
          clear BA;go_wp2_with fail
          go_region
          go_wp2
          go_roundw
          case rel=>exact⟨j+1,_,ly,lc,rfl,EK,KA,((Aa CC).alloc _).drew⟩
          case measure=>simp[rG];omega
        .have Ha:jV (d=H):=by
          have h:=Aa HB;rw[mN lc,mN lc,KI]at h
          .exact h
          .intro v vs x xs h;cases h
         rw[Aa Ha]at T0|-;have hb:H.size<=466566000060:=lc;have OH:¬9223372036854775807<H.size+1:=lc;have EK:(H++⟨#[10]⟩:bN).size<=(k+1)*10000000:=by
          rw[mj];show H.size+1<=_;omega
         clear HB Ha;go_wp2
         go_roundw
         case rel=>exact⟨k+1,_,ly,lc,rfl,EK,af,CC⟩
         case measure=>simp[rG];omega
      .have Ha:jV (t=R):=by
        have h:=Aa HC;rw[mN lc,om,F5]at h;exact h
       clear HC;go_wp2;go_ret3;rw[Aa Ha];exact⟨R,0,0,rfl,Aa a0,Aa VR,(Aa ag).H (Aa C)⟩
  ·(have cf:(e2 !=0)=true:=by simp[h2]);have W:jV (ij s q ky e2):=⟨λ_=>rfl,λh=>rl h h2⟩;clear h2 K9 HM K2;(go_wp2_with fail);go_ret3;exact⟨ky,e2,a2,rfl,Aa IS,Aa W,(Aa FO).H (Aa HD)⟩
 .have bz:(G !=0)=true:=by simp[h0]
  have W:jV (ij s q ky G):=⟨λ_=>rfl,λh=>rl h h0⟩;have HI:jV (Tc s q G P):=⟨G,P,Aa HJ,Or.inl ⟨h0,rfl,rfl⟩⟩;clear h0 HU HJ;go_wp2_with fail
  go_ret3;exact⟨ky,G,P,rfl,Aa HI,Aa W,Aa FO⟩
end
section
variable{s t:bN}{M:kN Nat}{w v u:jH}{m n k i j b:Nat}{z:jR}{y x:kN jR}{T:TypeId}{f:kN Ae}
def Uu(x:bN):Lit:=.string x.data.toList
def eZ(h:Uu s=Uu t):s=t:=by
 unfold Uu at h;obtain⟨⟨a⟩⟩:=s;simp at h;rw[h]
def Z1(h:s.size<=1000000):keyOf rF 9 (.string s)=some (Uu s):=by
 rw[keyOf_string underlying9];have a:s.size<=maxLen:=lw
 simp[mapKey,underlying9,Uu,a]
structure EI(w:World)(mb n:Nat)(L:bN->Nat):Prop where
 e:∃D:DataW Unit,w.ownsMap rF 9 (plainElem rF 3) mb n D/\Maps.IsMap D/\∀x,D.atKey (Uu x) (.lit (.int .i64 0))=.lit (.int .i64 (L x))
def EI.zR{L}(h:EI w m n L)(k:Ac M w v)(b:m∉M):EI v m n L:=by
 obtain⟨D,⟨f,j,a,d,i,e⟩,g,c⟩:=h.e;refine⟨D,⟨f,j,?_,d,i,e⟩,g,c⟩;rw[k.block m (mV.1 a).1 b];exact a
def MA(L:bN->Nat)(n:Nat)(x:PL):Nat:=if x.sort=0 then max n (L x.an)else if x.sort=1 then max n (L x.an+1)else n
def Ij(L:bN->Nat)(n:Nat)(ls:kN PL):Nat:=qU (MA L) n ls
def Q2(L):∀(a:kN Bt) (n),Ij L n (a.map Mn)=qU (Gr L) n a
 |[],n=>rfl
 |x::a,n=>by
  have e:MA L n (Mn x)=Gr L n x:=by
   unfold MA Gr;have d:=Th x.b;have c:=dY x.b;have f:(Mn x).sort=Gk x.b:=rfl;have b:(Mn x).an=x.A.a:=rfl;rw[f,b,<-d,<-c];simp
  unfold Ij;rw[mA,mK,mK,e];exact Q2 L a _
def Rq(a b:Nat):max (a:Int) (b:Int)=((max a b:Nat):Int):=lc
set_option maxRecDepth 100000
theorem QE(v n L Q N)(a:kN L6)(w)(M:EI w v n L)(hB:Cg w 0 (U Q (Z a) N) a)(ES:Z a<=1000)(T:∀x,L x<=100000)(Ax:∀p∈a,p.1.an.size<=1000000):rE rF 195 #[.map (V v),U Q (Z a) N] w λr w'=>r=.returned (X J (Ij L 0 (a.map kD):Nat))/\Ac [] w w':=by
 have CL:=Ab hB;have B2:=Ab M;have B0:=Ab T;have EK:=Ab Ax;obtain⟨R,H⟩:=kQ (Ij L 0 (a.map kD));have q:jV (Ij L 0 ((a.drop 0).map kD)=R):=H;rw[H];clear hB M T Ax H;go_enter func195,ntmps195;go_wp2_with fail
 go_loopg [5,10] (Z a) (λgk o i wr=>∃(k m:Nat),o=X J m/\i=X J k/\k<=Z a/\gk=Z a-k/\m<=200000/\jV (Ij L m ((a.drop k).map kD)=R)/\jV (Ac [] w wr))
 case atStart=>exact⟨0,0,rfl,rfl,lc,rfl,lc,q,kR _ _⟩
 case round=>
  clear q;obtain⟨k,m,rfl,rfl,hk,S,hm,q,z⟩:=hrel;have C:=Ab S;clear S;by_cases B:k<Z a
  .obtain⟨g,E0,x,AB,W,he,G,_,d0,d1,d2,d3,d4,d5,d6,d7,d8⟩:=VT (CL.C z) k B;obtain⟨rfl,_,rfl⟩:=qX he;(have AH:(x,U AB (Z x.ts) W)∈a:=by rw[<-G];exact lV B);have E:=Z1 (EK _ AH);have Bx:=Aa B0 x.an;have y:jV (Ij L (MA L m x) ((a.drop (k+1)).map kD)=R):=by
    have h:=Aa q;rw[mu B,mA,G]at h;exact h
   have t:=Ab (z.alloc (Y6 (Ay (x,U AB (Z x.ts) W)).toArray 217));obtain⟨D,A,_,P⟩:=(B2.zR t ln).e;have u:=Ab (P x.an);have d:jV (MA L m x=if x.sort=0 then max m (L x.an)else if x.sort=1 then max m (L x.an+1)else m):=rfl;clear P G AH q z;generalize MA L m x=LM at d y;obtain⟨f,I⟩:=kQ (L x.an);rw[I]at Bx u d;clear I;obtain⟨pl,j,ap,an,ts,⟨lv,FW⟩,⟨rv,FC⟩⟩:=x;simp only[Ay]at t A E d u d0 d1 d2 d3 d4 d5 d6 d7 d8;by_cases e:j=0
   ·(have CW:(j==0)=true:=by simp[e]);(have b:jV (LM=max m f):=by show _=_;rw[Aa d,mo e]);clear e d;go_wp2_with (at_lookup;refine wpList_lookup_own_int _ rfl _ _ 269 rfl 9 3 J (Maps.string_keyed underlying9) underlying269 underlying3 (zeroValue3 _) v n D rfl A _ _ rfl E ?_;intro c s F;obtain rfl:c=(f:Int):=(by have h:=s.symm.H u;simpa using h);clear s F)
    go_roundg (Z a-(k+1))
    case measure=>exact qu
    case rel=>exact⟨k+1,LM,by first|(rw[Aa b,<-Rq];done)|(rw[Aa b,<-Rq];rfl),ly,lc,rfl,by rw[Aa b];omega,y,t⟩
   ·(have CW:(j==0)=K:=by simp[e]);by_cases l:j=1
    ·(have AT:(j==1)=true:=by simp[l]);(have b:jV (LM=max m (f+1)):=by show _=_;rw[Aa d,mm e,mo l]);(have EX:IntKind.i64.wrap ((f:Int)+1)=(f:Int)+1:=by rw[oT];omega);clear e l d;go_wp2_with (at_lookup;refine wpList_lookup_own_int _ rfl _ _ 269 rfl 9 3 J (Maps.string_keyed underlying9) underlying269 underlying3 (zeroValue3 _) v n D rfl A _ _ rfl E ?_;intro c s F;obtain rfl:c=(f:Int):=(by have h:=s.symm.H u;simpa using h);clear s F)
     go_roundg (Z a-(k+1))
     case measure=>exact qu
     case rel=>exact⟨k+1,LM,by first|(rw[Aa b,<-Rq];done)|(rw[Aa b,<-Rq];rfl),ly,lc,rfl,by rw[Aa b];omega,y,t⟩
    ·(have AT:(j==1)=K:=by simp[l]);(have b:jV (LM=m):=by show _=_;rw[Aa d,mm e,mm l]);clear e l d;go_wp2
     go_roundg (Z a-(k+1))
     case measure=>exact qu
     case rel=>exact⟨k+1,LM,by rw[Aa b],ly,lc,rfl,by rw[Aa b];omega,y,t⟩
  .have b:jV (m=R):=by
    have h:=Aa q;rw[mN lc]at h;exact h
   go_wp2;go_ret;rw[Aa b];exact⟨rfl,z⟩
def F2.at{α β}{R}:∀{l:kN α} {m:kN β},F2 R l m->∀k c (d:k<Z m),R l[k] m[k]
 |[],[],_,k,c,_=>by simp at c
 |a::l,b::m,h,0,_,_=>h.1
 |a::l,b::m,h,k+1,c,d=>F2.at (l:=l) (m:=m) h.2 k (by simpa using c) (by simpa using d)
def EI.put{b}{c n}{L}{D:DataW Unit}{x}{v:Nat}(f:Maps.IsMap D)(d:∀y,D.atKey (Uu y) (.lit (.int .i64 0))=.lit (.int .i64 (L y)))(h:b.ownsMap rF 9 (plainElem rF 3) c n (D.put (Uu x) (.lit (.int .i64 v)))):EI b c n (Qr L x v):=by
 refine⟨_,h,?_,λy=>?_⟩
 .obtain⟨g,i,_,_,_,e⟩:=h;exact⟨_,e⟩
 .by_cases a:y=x
  .subst a;rw[If,Maps.atKey_put_same f (by exact trivial)]
  .rw[Ka _ a,Maps.atKey_put_other (λe=>a (eZ e))];exact d y
def EI.G{w}{b n a}{L}(h:EI w b n L)(e:n<=a):EI w b a L:=by
 obtain⟨D,d,c⟩:=h.e;exact⟨D,d.mono e,c⟩
def TD:∀a,EL a (λ_=>0)=0
 |[]=>rfl
 |c::a=>by
  have e:EL (c::a) (λ_=>0)=0+EL a (λ_=>0):=lx
  rw[e,TD a]
def ZD(x):(DataW.map []:DataW Unit).atKey (Uu x) (.lit (.int .i64 0))=.lit (.int .i64 0):=lx
def j9(rcs:kN AW)(zQ:bN->Nat)(w:jH)(r:Ending)(w':jH):Prop:=∃(mb n:Nat) (L:bN->Nat),r=.returned (.map (V mb))/\EI w' mb n L/\CP rcs L/\(∀x,L x<=zQ x)/\w.heap.size<=mb/\Ac [] w w'
theorem OM(HT HP f d w l)(hP:CA w (.slice HT f.length HP) f)(hC:F2 Qi f d)(K9:f.length<=1000)(HR:∀c∈f,c.ea.length<=1000)(FT:∀c∈f,c.hn.size<=1000000/\∀p∈c.ea,p.1.an.size<=1000000)(hL:CP d l)(HU:∀x,l x<=1000)(HE:EL d l<=100000):rE rF 166 #[.slice HT f.length HP] w λr w'=>j9 d l w r w':=by
 have HV:=Ab hP;have K3:=Ab hC;have H0:=Ab HR;have H4:=Ab FT;have HW:=Ab hL;have M:=Ab HU;have IJ:=Ab HE;have FP:=Ab hC.lenX;have W:Hid (EI _ _ 0 (λ_=>0)):=⟨_,World.ownsMap_made w _ _ _,⟨_,rfl⟩,ZD⟩;have EM:=Ab ((kR [] w).alloc (.map #[] 0));have K1:= @run_makeMap rF;obtain⟨n,Ax⟩:∃n,w.heap.size=n:=⟨_,rfl⟩;have FF:=Ab Ax;clear hP hC HR FT hL HU HE;go_enter func166,ntmps166;go_wp2_with fail
 generalize hw1:w.alloc (.map #[] 0)=w1 at W EM|-;clear hw1 K1;rw[Ax]at W
 try rw[Ax]
 clear Ax
 go_loopg [4] (EL d l+2) (λgk rv wr=>∃(R:rD) (L:bN->Nat),rv=.bool R/\gk=(if R then EL d l-EL d L+2 else 1)/\Hid (EI wr n (EL d L) L)/\Hid (∀x,L x<=l x)/\Hid (R=false->CP d L)/\Hid (Ac [] w wr))
 case atStart=>
  refine⟨true,λ_=>0,rfl,?_,W.G (mr _),λx=>mr _,λh=>oj,EM⟩;rw[mo rfl,TD,Nat.sub_zero]
 case round=>
  clear W EM;obtain⟨R,L,rfl,HS,u,Bx,K2,s⟩:=hrel;have HG:=Ab HS;clear HS;cases R with
  |false=>
   have H1:=Ab (K2 rfl);go_wp2;go_ret;exact⟨n,_,L,rfl,u,H1,Bx,by have:=Aa FF;omega,s⟩
  |true=>
   go_wp2_with fail
   go_loopg [4,12] f.length (λK8 rv i wq=>∃(k:Nat) (m:rD) (a:bN->Nat),rv=.bool m/\i=.int .i64 k/\k<=f.length/\K8=f.length-k/\Hid (qU E4 (L,false) (qT k d)=(a,m))/\Hid (EI wq n (EL d a) a)/\Hid (Ac [] w wq))
   case atStart=>exact⟨0,false,L,rfl,rfl,lc,rfl,rfl,u,s⟩
   case round=>
    clear u s;obtain⟨k,m,a,rfl,rfl,hk,HA,AH,u,s⟩:=hrel;have HI:=Ab HA;clear HA;have FC:Hid ((∀x,a x<=l x)/\EL d a<=EL d l):=by
     have h:=Kv HW (qT k d) L false (λc hc=>ny hc) Bx;rw[Aa AH]at h;exact⟨h.2.1,ZY h.2.1⟩
    by_cases A0:k<f.length
    ·(have BS:k<d.length:=by have:=Aa FP;omega);have T:=K3.at k A0 BS;obtain⟨g,LL,hp,e,ES,FB,AB,Q,P,o,he,Go,d0,d1,d2,d3⟩:=Fs (HV.C s) k A0;obtain⟨rfl,-,rfl⟩:=qX he;have N:f[k]∈f:=lV A0;have CW:=HV.j _ N;have BT:=Aa H0 _ N;have G:=Aa H4 _ N;rw[Go]at T CW BT G;have EK:=Ab (s.alloc (.cells #[.int .i64 hp,.string e,.slice FB ES.length AB,.slice Q o.length P] 189));have E0:=Ab (u.zR ((kR [] wr).alloc (.cells #[.int .i64 hp,.string e,.slice FB ES.length AB,.slice Q o.length P] 189)) ln);have Ha:=Ab (kS wr [.int .i64 hp,.string e,.slice FB ES.length AB,.slice Q o.length P] 189);have z:=Aa FC;have A1:=Ab (QE n _ a Q P o _ E0 (CW.body.C EK ln) BT (λx=>by have:=z.1 x;have:=Aa M x;omega) G.2);have B0:Ij a 0 (o.map Prod.fst)=Hf a (Am d[k]):=by
      have t:=F2.fst T.g;rw[t,Q2];rfl
     have C:e=d[k].E.a:=T.hn;have Df:Hid (qU E4 (L,false) (qT (k+1) d)=E4 (a,m) d[k]):=by
      rw[lW BS,m6,Aa AH];rfl
     have CL:Hid (E4 (a,m) d[k]=if a e<Ij a 0 (o.map Prod.fst)then(Qr a e (Ij a 0 (o.map Prod.fst)),true)else(a,m)):=by
      show _=_;unfold E4;rw[B0,C]
     have KD:Hid (∀v,a e<v->EL d a+1<=EL d (Qr a e v)):=by
      intro v hv;refine ii (λx=>?_) (lV BS) ?_
      .by_cases hx:x=e
       .rw[hx,If];omega
       .rw[Ka _ hx];exact mt _
      .rw[<-C,If];exact hv
     have CC:=Z1 G.1;have I:=z.1 e;have H9:=Aa M e;(have LE:Hid (a e<=1000):=by show a e<=1000;omega);(have KB:Hid (EL d a<=100000):=by have:=Aa IJ;show EL d a<=100000;omega);have HF:Hid (Ij a 0 (o.map Prod.fst)<=100000):=by
      have h:=O2 (L:=a) (b:=2000) (Am d[k]) 0 lc (λx hx=>⟨λ_=>by have:=z.1 x.A.a;have:=Aa M x.A.a;omega,λ_=>by have:=z.1 x.A.a;have:=Aa M x.A.a;omega⟩);rw[B0];have t:Hf a _<=2000:=h;show Hf a (Am d[k])<=100000;omega
     clear T CW BT G N Go z B0 C I H9;obtain⟨j,HX⟩:∃j,Ij a 0 (o.map Prod.fst)=j:=⟨_,rfl⟩;rw[HX]at A1 CL HF;clear HX s u FC;(go_wp2_with fail);refine A1.G ?_;rintro _ w3 ⟨rfl,S⟩;have HQ:=Ab (EK.H S);have A2:=E0.zR S ln;have K7:=Ab A2;have AT:=Ha.C S ln;obtain⟨e0,e1⟩:=AT.c2;simp at e0 e1;obtain⟨D,EX,HL,hD⟩:=A2.e;have JJ:=Ab HL;have HD:=Ab hD;obtain⟨y,I⟩:∃y,a e=y:=⟨_,rfl⟩;have E:=Ab I;clear A2 AT Ha E0 EK A1 S d0 d1 d2 d3 HL hD I;by_cases FL:y<j
     ·have KS:(y:Int)<j:=lc;have K6:plainElem (H:=Unit) rF 3 (.int .i64 j)=some _:=plainElem_int underlying3 (by
       have:=Aa HF
       simp[Lit.wf,IntKind.min,IntKind.max,IntKind.signed,IntKind.bits]
       omega)
      (have C:EL d a<maxLen:=by have:=Aa KB;unfold maxLen;omega);clear FL;go_wp2_with (first
       |(at_lookup;refine wpList_lookup_own_int _ rfl _ _ 269 rfl 9 3 .i64 (Maps.string_keyed underlying9) underlying269 underlying3 (zeroValue3 _) n (EL d a) D rfl EX _ _ rfl CC ?_;intro c F DT;obtain rfl:c=(y:Int):=(by have h:=F.symm.H (HD e);rw[Aa E]at h;simpa using h);clear F DT)
       |(at_mapUpdate;refine wpList_mapUpdate_own _ rfl _ _ _ 269 rfl 9 3 (Maps.string_keyed underlying9) underlying269 _ n (EL d a) D rfl EX C _ _ (Uu e) rfl rfl CC _ [] K6 ?_;intro w4 H6 H3))
      have IS:Hid _:=(EI.put JJ HD H6).G (KD j (by have:=Aa E;omega));have K4:Hid _:=HQ.grown H3 (λq hq=>Or.inr (by simp at hq;have:=Aa FF;omega));have B9:Hid (qU E4 (L,false) (qT (k+1) d)=(Qr a e j,true)):=by show _=_;rw[Aa Df,Aa CL,mo (by have:=Aa E;omega)]
      go_roundg (f.length-(k+1))
      case measure=>exact qu
      case rel=>exact⟨k+1,true,_,rfl,ly,lc,rfl,B9,IS,K4⟩
     ·have KS:¬(y:Int)<j:=lc;(have B9:Hid (qU E4 (L,false) (qT (k+1) d)=(a,m)):=by show _=_;rw[Aa Df,Aa CL,mm (by have:=Aa E;omega)]);clear FL;go_wp2_with (at_lookup;refine wpList_lookup_own_int _ rfl _ _ 269 rfl 9 3 .i64 (Maps.string_keyed underlying9) underlying269 underlying3 (zeroValue3 _) n (EL d a) D rfl EX _ _ rfl CC ?_;intro c F DT;obtain rfl:c=(y:Int):=(by have h:=F.symm.H (HD e);rw[Aa E]at h;simpa using h);clear F DT)
      go_roundg (f.length-(k+1))
      case measure=>exact qu
      case rel=>exact⟨k+1,m,a,rfl,ly,lc,rfl,B9,K7,HQ⟩
    .have HB:Hid (MR d L=(a,m)):=by
      have h:=Aa AH;rw[lY (by have:=Aa FP;omega)]at h;exact h
     have FW:=Ab (Zp HW Bx);go_wp2_with fail
     go_roundg (if m then EL d l-EL d a+2 else 1)
     case measure=>
      have B:=Aa FW;rw[Aa HB]at B;have t:=Aa HG;simp at t;cases m with
      |true=>
       have h3:=B.2.2.1 rfl;have h4:=B.2.2.2;simp at h3 h4;exact li
      |false=>
       exact li
     case rel=>
      refine⟨m,a,rfl,rfl,u,λx=>FC.1 x,λhm=>?_,s⟩;have B:=FW.2.1;rw[Aa HB]at B;obtain⟨t,h3⟩:=B hm;simp at t;rw[t];exact h3
theorem Tryz.yT:(Tryz.prog.info? 221).map (λi=>(i.zero,i.size,i.bytes))=V (V (U Y 0 0),1,24):=lo
abbrev Qu:=kN Nat×jR
structure Et(w:jH)(base:Nat)(pv:jR)(ps:kN Qu):Prop where
 row:kt w base 221 1 pv (Z ps) (ps.flatMap λp=>[p.2])
 j:∀p∈ps,kt w base 3 1 p.2 (Z p.1) (qS Cp p.1)
 apart:ps.Pairwise λa b=>∀q,a.2.ownBlock=V q->b.2.ownBlock≠V q
def Et.C{w w'}{a}(h:Et w n z a)(k:Ac [] w w'):Et w' n z a:=⟨Ad h.row k,λp b=>Ad (h.j p b) k,h.apart⟩
def cI{a}(h:kt w k 3 1 z n y)(c:kt w i 221 1 a m x)(b:w.grownBy u a.ownBlock):kt u k 3 1 z n y:=
 nF h b (by
  cases hp:z.ownBlock with
  |none=>exact ln
  |some q=>exact j3 (λe=>Be h c lu q hp e.symm))
def TM{a}(h:Et w n z a)(k i):∃g j f b,z=U (V ⟨g,0,Y⟩) (Z a) j/\a[k].2=U f a[k].1.length b/\jY w ⟨g,k,Y⟩=V (U f a[k].1.length b):=by
 obtain⟨g,j,l,_,m⟩:=Az h.row (λc _=>rfl) k i;have d:=m k i 0 lc;obtain⟨f,b,e⟩:=Aj (h.j _ (lV i));exact qr
structure Jc(f:Nat->Nat)(k:Nat)(ps:kN Qu):Prop where
 lists:∀j (hj:j<Z ps),ps[j].1=(List.range k).filter λi=>f i==j
 top:∀i,i<k->f i<Z ps
 len:Z ps<=1001
def Jc.more{f}{a}(h:Jc f k a)(l:Z a<=1000)(v):Jc f k (a++[([],v)]):=by
 refine⟨λj d=>?_,λi b=>by have:=h.top i b;simp;omega,li⟩;by_cases c:j<Z a
 .rw[nB c];exact h.lists j c
 .have e:j=Z a:=by simp at d;omega
  subst e;rw[rq (mt _)];simp only[Nat.sub_self,pu]
  symm
  rw[pK];intro i b g;have m:=h.top i (qi.1 b);exact qr
def Jc.put{f}{a}(h:Jc f k a)(b v):Jc f (k+1) (a.set (f k) (a[f k].1++[k],v)):=by
 refine⟨λj c=>?_,λi l=>?_,by rw[nO];exact h.len⟩
 .have d:j<Z a:=by rw[nO]at c;exact c
  rw[List.range_succ,oA,List.getElem_set];split
  .rename_i e;subst e;rw[h.lists _ b]
   simp
  .rw[h.lists j d];exact li
 .rw[nO];by_cases g:i=k
  .rw[g];exact b
  .exact h.top i lc
def cO(b:kN Qu)(j x):(b.set j x).flatMap (λp=>[p.2])=(b.flatMap λp=>[p.2]).set j x.2:=by
 have e:∀l:kN Qu,l.flatMap (λp=>[p.2])=l.map λp=>p.2:=λl=>by
  induction l with
  |nil=>rfl
  |cons a l ih=>simp[ih]
 rw[e,e,qq]
def Et.put{w r z}{g B}{c:kN Qu}(s){x}(h:Et w m (U (V ⟨g,0,Y⟩) (Z c) B) c)(F:w.grownBy r c[j].2.ownBlock)(N:kt r m 3 1 x.2 (Z x.1) (qS Cp x.1))(E:∀q,x.2.ownBlock=V q->c[j].2.ownBlock=V q\/w.heap.size<=q)(D:z=r.setCell ⟨g,j,Y⟩ x.2):Et z m (U (V ⟨g,0,Y⟩) (Z c) B) (c.set j x):=by
 have P:=h.j _ (lV s);have G:=nF h.row F (j3 (λe=>Be h.row P lu g rfl e.symm));have L:∀i (f:i<Z c),i≠j->kt r m 3 1 c[i].2 _ _:=λi f I=>nF (h.j _ (lV f)) F (by
  cases t:c[i].2.ownBlock with
  |none=>exact ln
  |some q=>
   refine j3 (λe=>?_)
   have l:=ox.1 h.apart
   rcases Nat.lt_or_gt_of_ne I with d|d
   .exact l i j f s d q t e.symm
   .exact l j i s f d q e.symm t)
 have H:∀{v:jR} {n:Nat} {C:kN jR},kt r m 3 1 v n C->kt z m 3 1 v n C:=fun{v n C} hv=>by
  rw[D];exact Ah hv (λe=>Be hv G lu g e rfl) _
 refine⟨?_,λp t=>?_,?_⟩
 .rw[nO,cO,D];exact BO G j x.2
 .obtain⟨i,f,rfl⟩:=mS t;rw[nO]at f;rw[List.getElem_set];split
  .exact H N
  .rename_i e;exact H (L i f (λM=>e M.symm))
 .have l:=ox.1 h.apart;refine ox.2 (λa b y u A q o k=>?_);rw[nO]at y u;rw[List.getElem_set]at o k;split at o
  .rename_i e;subst e;rw[mm lc]at k;rcases E q o with d|d
   .exact l j b s u A q d k
   .have:=((h.j _ (lV u)).lt q k).2;omega
  .split at k
   .rename_i e;subst e;rcases E q k with d|d
    .exact l a j y s A q o d
    .have:=((h.j _ (lV y)).lt q o).2;omega
   .exact l a b y u A q o k
def Hk(pcs:kN CQ)(i:Nat):bN:=((pcs[i]?).map CQ.hn).getD ByteArray.empty
def bh(pcs:kN CQ)(rcs:kN AW)(zQ:bN->Nat)(w:jH)(r:Ending)(w':jH):Prop:=∃(ad:rB) (cp:Nat) (ps:kN Qu) (L:bN->Nat),r=.returned (U ad (Z ps) cp)/\Et w' w.heap.size (U ad (Z ps) cp) ps/\Jc (λi=>L (Hk pcs i)) (Z pcs) ps/\CP rcs L/\(∀x,L x<=zQ x)/\Ac [] w w'
theorem Zq(HF HB)(m:kN CQ)(AB w AH)(hP:CA w (U HF (Z m) HB) m)(hC:F2 Qi m AB)(KB:Z m<=1000)(H7:∀c∈m,Z c.ea<=1000)(E0:∀c∈m,c.hn.size<=1000000/\∀p∈c.ea,p.1.an.size<=1000000)(hL:CP AB AH)(HH:∀x,AH x<=1000)(HX:EL AB AH<=100000):rE rF 123 #[U HF (Z m) HB] w λr w'=>bh m AB AH w r w':=by
 obtain⟨i0,Nd,K5,NA,M0⟩:=mW Tryz.yT;obtain⟨j0,K1,M6,JA,K6⟩:=mW Tryz.z9;have NM:=Ab hP;have KS:=Ab E0;have K9:=Ab HH;have HZ:=Ab (OM HF HB m AB w AH hP hC KB H7 E0 hL HH HX);obtain⟨z,H1⟩:=kQ w.heap.size;have W:=Ab H1;clear hP hC H7 E0 hL HH HX H1;go_enter func123,ntmps123;go_wp2_with fail
 refine HZ.G ?_;rintro _ w1 ⟨H,n,L,rfl,hM,H5,IS,NB,k1⟩;have IJ:=Ab hM;have KA:=Ab H5;have HS:=Ab IS;have HL:=Ab k1;have NN:jV (z<=H):=qu
 clear HZ hM H5 IS NB k1;go_wp2_with fail
 go_loopg [4,12] (Z m) (λgk pv i wr=>∃(k:Nat) (f:kN Qu) (E:rB) (y:Nat),pv=U E (Z f) y/\i=X J k/\k<=Z m/\gk=Z m-k/\jV (Jc (λi=>L (Hk m i)) k f)/\jV (Et wr z (U E (Z f) y) f)/\jV (EI wr H n L)/\jV (Ac [] w wr))
 case atStart=>exact⟨0,[],Y,0,rfl,rfl,lc,rfl,⟨λj hj=>by simp at hj,λi hi=>lc,ln⟩,⟨mw _ _ _ _,λp P=>by simp at P,rp⟩,IJ,HL⟩
 case round=>
  clear IJ HL;obtain⟨k,f,E,y,rfl,rfl,hk,Ix,S,F,Q,N⟩:=hrel;have HG:=Ab Ix;clear Ix;by_cases FC:k<Z m
  .obtain⟨g,Nx,P,I,CL,DT,BS,B9,B0,BT,he,FB,d0,d1,d2,d3⟩:=Fs (NM.C N) k FC;obtain⟨rfl,-,rfl⟩:=qX he;have ES:=(KS _ (lV FC)).1;rw[FB]at ES;have H0:=Z1 ES;have MB:jV (Hk m k=I):=by
    unfold Hk;rw[mc FC,FB];rfl
   (have LS:L I<=1000:=by have:=Aa HS I;have:=Aa K9 I;omega);have FW:=Ab (N.alloc (Y6 #[X J P,O I,U DT (Z CL) BS,U B9 (Z BT) B0] 189));have EX:=Q.zR ((kR [] wr).alloc (Y6 #[X J P,O I,U DT (Z CL) BS,U B9 (Z BT) B0] 189)) ln;have HE:=Ab EX;have A2:=Ab (F.C ((kR [] wr).alloc (Y6 #[X J P,O I,U DT (Z CL) BS,U B9 (Z BT) B0] 189)));obtain⟨D,H4,M2,hD⟩:=EX.e;have HD:=Ab (hD I);obtain⟨l,FT⟩:=kQ (L I);rw[FT]at HD LS;(have K3:jV (L (Hk m k)=l):=by rw[Aa MB];exact FT);clear EX M2 hD ES FB FT F Q N;go_wp2_with (at_lookup;refine wpList_lookup_own_int _ rfl _ _ 269 rfl 9 3 J (Maps.string_keyed underlying9) underlying269 underlying3 (zeroValue3 _) H n D rfl H4 _ _ rfl H0 ?_;intro c H9 M1;obtain rfl:c=(l:Int):=(by have h:=H9.symm.H HD;simpa using h);clear H9 M1)
   clear H4 HD H0 d0 d1 d2 d3;generalize wr.alloc (Y6 #[X J P,O I,U DT (Z CL) BS,U B9 (Z BT) B0] 189)=wa at FW HE A2|-
   go_loopg [4] (l+2-Z f) (λNE pv wq=>∃(f:kN Qu) (E:rB) (y:Nat),pv=U E (Z f) y/\NE=l+2-Z f/\jV (Jc (λi=>L (Hk m i)) k f)/\jV (Et wq z (U E (Z f) y) f)/\jV (EI wq H n L)/\jV (Ac [] w wq))
   case atStart=>exact⟨f,E,y,rfl,rfl,S,A2,HE,FW⟩
   case round=>
    clear S A2 HE FW;obtain⟨f,E,y,rfl,IA,S,F,Q,N⟩:=hrel;have MY:=Ab IA;clear IA;(have N2:z<=wr.heap.size:=by have:=N.size;have:=Aa W;omega);by_cases NX:Z f<=l
    ·have LM:(Z f:Int)<=l:=lc;have v:=F.row;go_wp2_with (at_builtin;refine mE _ rfl (.tmp 26) (.tmp 27) _ rfl z 221 i0 _ 1 24 underlying219 Nd K5 NA M0 rfl lc (U E (Z f) y) (Z f) (f.flatMap λp=>[p.2]) rfl (mg v _) ⟨wr.heap.size,0,Y⟩ 1 1 [U Y 0 0] rfl rfl (mz (mG wr _)) lC lc lw lc li (wr.heap.size+1) ln ?_;intro G C u AR A BA FA)
     have B2:=Ab (S.more lc (U Y 0 0));have AO:jV (Et u z (U (V ⟨G,0,Y⟩) (Z (f++[([],U Y 0 0)])) C) (f++[([],U Y 0 0)])):=by
      refine⟨?_,λp P=>?_,?_⟩
      .exact li
      .rcases mi.1 P with h|h
       .exact cI (mg (F.j p h) _) (mg v _) A
       .simp at h;subst h;exact mw _ _ _ _
      .rw[pS];refine⟨F.apart,ln,λa ha b B q _ s=>?_⟩;simp at B;subst B;simp[kE]at s
     have HI:=(N.alloc _).grown A (λq s=>j3 (by have:=(v.lt q s).1;have:=Aa W;omega));have EK:jV (EI u H n L):=by
      have CW:=Q.zR ((kR [] wr).alloc (Y6 #[U Y 0 0] 221)) ln;refine CW.zR (M:=qV (qW _)) ((kR _ _).grown A (λq s=>j2 li)) (λT=>?_);obtain⟨D,⟨es,HP,B,_⟩,_⟩:=CW.e;rcases(mg v (Y6 #[U Y 0 0] 221)).2 with⟨e,_⟩|⟨g',c',HO,e,_,AT,_⟩
      .rw[e]at T;simp[kE]at T
      .rw[e]at T;simp[kE]at T;subst T;rw[AT]at B;cases B
     have CC:=Ab HI;clear AR A BA FA v HI
     go_roundg (l+2-(Z f+1))
     case measure=>exact qu
     case rel=>exact⟨_,_,C,ln,ln,B2,AO,EK,CC⟩
    ·have LM:¬(Z f:Int)<=l:=lc;have R:l<Z f:=lc;obtain⟨NY,N0⟩:=rI lc;obtain⟨g,Nx,Ax,Bx,he,hv,HT⟩:=TM F l R;obtain⟨rfl,-,rfl⟩:=qX he;have v:=F.j _ (lV R);rw[hv]at v;have HV:=Ab hv;have M3:f[l].1.length<=1000:=by
      rw[(Aa S).lists l R];have:=nL (λi=>L (Hk m i)==l) (List.range k);rw[List.length_range]at this;omega
     obtain⟨o,HC⟩:=kQ (f[l].1);have Nq:=Ab HC;rw[HC]at v M3 HT HV;clear HC hv;have A1:=F.row;have A2:=Ab (F.C ((kR [] wr).alloc (Y6 #[X J k] 3)));have LE:jV (∀u:jH,(wr.alloc (Y6 #[X J k] 3)).grownBy u (U Ax (Z o) Bx).ownBlock->kt u z 221 1 (U (V ⟨g,0,Y⟩) (Z f) y) (Z f) (f.flatMap λp=>[p.2])/\u.frozen? ⟨g,l,Y⟩=K/\jY u ⟨g,l,Y⟩=V (U Ax (Z o) Bx)):=by
      intro u A;have Go:=nF (mg A1 _) A (j3 (λe=>Be A1 v lu g rfl e.symm));obtain⟨g',NS,HN,_,K7⟩:=Az Go (λc _=>rfl) l R;obtain⟨⟨rfl,-,-⟩,-,-⟩:=HN;have d:=K7 l R 0 lc;simp[Aa HV]at d;exact⟨Go,Go.frozenAt l,d⟩
     go_wp2_with (at_builtin;refine mE _ rfl (.tmp 34) (.tmp 36) _ rfl z 3 j0 _ 1 8 underlying221 K1 M6 JA K6 rfl lc (U Ax (Z o) Bx) (Z o) (qS Cp o) rfl (mg v _) ⟨wr.heap.size,0,Y⟩ 1 1 [X J k] rfl rfl (mz (mG wr _)) lC lc lw lc li (wr.heap.size+1) ln ?_;intro G C u AR A BA FA;have n9:=Aa LE u A;have f9:=n9.2.1;have c9:=n9.2.2;clear n9)
     have hx:kt u z 3 1 (U (V ⟨G,0,Y⟩) (Z (o++[k])) C) (Z (o++[k])) (qS Cp (o++[k])):=by
      rw[mD];simp;exact AR
     have AO:=Ab (Et.put (x:=(o++[k],U _ _ C)) R A2 (by rw[Aa HV];exact A) hx (λq s=>by
      simp only[kE,lZ]at s
      subst s
      rw[Aa HV]
      rcases BA with h|h
      .exact j2 h
      exact li) rfl)
     have B2:jV (Jc (λi=>L (Hk m i)) (k+1) (f.set l (o++[k],U (V ⟨G,0,Y⟩) (Z (o++[k])) C))):=by
      have hf:=Aa K3;have h:=S.put lc (U (V ⟨G,0,Y⟩) (Z (o++[k])) C);simp only[hf]at h;rw[Aa Nq]at h;exact h
     have KK:=mg v (Y6 #[X J k] 3);have HR:∀q,(U Ax (Z o) Bx).ownBlock=V q->q≠H:=by
      intro q s e;subst e;obtain⟨D,⟨es,HP,B,_⟩,_⟩:=Q.e;rcases v.2 with⟨e,_⟩|⟨g',c',HO,e,_,AT,_⟩
      .rw[e]at s;simp[kE]at s
      .rw[e]at s;simp[kE]at s;subst s;rw[AT]at B;cases B
     have Mo:g≠H:=by
      intro e;subst e;obtain⟨D,⟨es,HP,B,_⟩,_⟩:=Q.e;rcases A1.2 with⟨e,_⟩|⟨g',c',HO,e,_,AT,_⟩
      .cases e
      .obtain⟨⟨rfl,-,-⟩,-,-⟩:=e;rw[AT]at B;cases B
     have EK:jV (EI (u.setCell ⟨g,l,Y⟩ (U (V ⟨G,0,Y⟩) (Z o+1) C)) H n L):=by
      have CW:=Q.zR ((kR [] wr).alloc (Y6 #[X J k] 3)) ln;have LC:=CW.zR (M:=qV (qW _)) ((kR _ _).grown A (λq s=>j2 li)) (λT=>HR H (by simpa using T) rfl);exact LC.zR (M:=[g]) ((kR [g] u).setCell (p:=⟨g,l,Y⟩) (j2 ln) _) li
     have CC:=Ab (((N.alloc _).grown A (λq s=>j3 (by have:=(v.lt q s).1;have:=Aa W;omega))).setCell (p:=⟨g,l,Y⟩) (j3 (by have:=(A1.lt g rfl).1;have:=Aa W;simp;omega)) (U (V ⟨G,0,Y⟩) (Z o+1) C));simp at AO B2;generalize u.setCell ⟨g,l,Y⟩ (U (V ⟨G,0,Y⟩) (Z o+1) C)=wz at AO EK CC|-;clear AR A BA FA v A1 f9 c9 hx KK HR HT;go_wp2
     go_roundg (Z m-(k+1))
     case measure=>exact qu
     case rel=>exact⟨k+1,_,V ⟨g,0,Y⟩,y,ln,ly,lc,rfl,B2,li,EK,CC⟩
  .have LB:jV (Jc (λi=>L (Hk m i)) (Z m) f):=by
    have e:k=Z m:=lc;have h:=Aa S;rw[e]at h;exact h
   go_wp2;go_ret;exact⟨E,y,f,L,rfl,by rw[Aa W];exact F,LB,KA,HS,N⟩
structure GF(w w':jH):Prop where
 size:w.heap.size<=w'.heap.size
 e:∀(q:Nat) (cs:Array jR) (t:TypeId) (fr:Nat×Nat),w.heap[q]?=V (Y6 cs t fr)->t≠139->t≠104->t≠176->w'.heap[q]?=V (Y6 cs t fr)
def GF.refl(w):GF w w:=⟨mt _,λ_ _ _ _ h _ _ _=>h⟩
def GF.H(h:GF w v)(k:GF v u):GF w u:=⟨mZ h.size k.size,λq e t i j f d g=>k.e q e t i (h.e q e t i j f d g) f d g⟩
def GF.of(k:Ac M w v)(g:∀q∈M,∃(c:Array jR) (t:TypeId) (d:Nat×Nat),w.heap[q]?=V (Y6 c t d)/\(t=139\/t=104\/t=176)):GF w v:=by
 refine⟨k.size,λq c t d a i f l=>?_⟩;rw[k.block q (mV.1 a).1 (λe=>?_)]
 .exact a
 .obtain⟨m,n,o,b,j⟩:=g q e;exact qr
def GF.C{w w'}(k:Ac [] w w'):GF w w':=GF.of k (λq a=>sF)
def GF.row(h:GF w u){v}(a:kt w m k i v n y)(j:k≠139)(f:k≠104)(q:k≠176):kt u m k i v n y:=by
 refine⟨a.1,?_⟩;rcases a.2 with l|⟨g,c,b,rfl,p,s,t,d,r,o⟩
 .exact j2 l
 .exact j3 ⟨g,c,b,rfl,p,h.e _ _ _ _ s j f q,t,d,r,o⟩
def aL(h:AF w b y T):∃(c:Array jR) (a:TypeId) (d:Nat×Nat),w.heap[b]?=V (Y6 c a d)/\a=T:=⟨_,_,_,h,rfl⟩
def aR(h:kt w m k i z n y){q}(a:z.ownBlock=V q):∃(d:Array jR) (b:TypeId) (j:Nat×Nat),w.heap[q]?=V (Y6 d b j)/\b=k:=by
 rcases h.2 with⟨rfl,_⟩|⟨g,c,l,rfl,_,f,_⟩
 .simp[kE]at a
 .simp only[kE,lZ]at a;subst a;exact⟨_,_,_,f,rfl⟩
structure Ta(w0:jH)(cb:Nat)(clv:jR)(X:kN Nat)(s:kN Ae)(w:jH):Prop where
 C:Ac [] w0 w
 yR:w0.heap.size<=cb
 o:∃(sad:rB) (scp:Nat) (fs:kN D5) (tad:rB) (tcp:Nat) (xs:kN jR),AF w cb [clv,U sad (Z fs) scp,U tad (Z s) tcp] 139/\Ic w (U sad (Z fs) scp) fs/\CJ fs s/\
  kt w w0.heap.size 176 4 (U tad (Z s) tcp) (Z s) xs/\(∀q,(U sad (Z fs) scp).ownBlock=V q->w0.heap.size<=q)/\∀q,(U tad (Z s) tcp).ownBlock=V q->q∉X
def Cl(p:Nat×Vn):kN jR:=Lh p.1 p.2
structure YD(w:jH)(B:Nat)(kv:jR)(hs:kN (Nat×G9 Ae))(sts:kN (Nat×Vn)):Prop where
 eq:sts.map (λp=>(p.1,p.2.f.f,p.2.ns.map D5.f))=hs.map λh=>(h.1,Bn h.2.E,h.2.pos.map Bn)
 j:∀p∈sts,LK w p.2/\∀q,p.2.n.ownBlock=V q->B<=q/\kv.ownBlock≠V q
def YD.C{w w'}{B}{c}{a}{d}(h:YD w B c a d)(k:Ac [] w w'):YD w' B c a d:=⟨h.eq,λp b=>⟨(h.j p b).1.C k,(h.j p b).2⟩⟩
structure Ng(w0:jH)(cb:Nat)(clv:jR)(X Y:kN Nat)(s:kN Ae)(hs:kN (Nat×G9 Ae))(w:jH):Prop where
 C:Ac [] w0 w
 yR:w0.heap.size<=cb
 o:∃(sad:rB) (scp:Nat) (fs:kN D5) (tad:rB) (tcp:Nat) (sts:kN (Nat×Vn)),AF w cb [clv,U sad (Z fs) scp,U tad (Z s) tcp] 139/\Ic w (U sad (Z fs) scp) fs/\CJ fs s/\
  kt w w0.heap.size 176 4 (U tad (Z s) tcp) (Z s) (qS Cl sts)/\(∀q,(U sad (Z fs) scp).ownBlock=V q->w0.heap.size<=q/\q∉Y)/\(∀q,(U tad (Z s) tcp).ownBlock=V q->q∉X)/\YD w w0.heap.size (U sad (Z fs) scp) hs sts
def Ng.cou{a j}{o}(h:Ng v n z a j f o w):Ta v n z a f w:=by
 obtain⟨t,l,p,g,c,u,k,e,r,i,m,b,_⟩:=h.o;exact⟨h.C,h.yR,t,l,p,g,c,_,k,e,r,i,λq d=>(m q d).1,b⟩
def Ng.grow{a b}{c}(h:Ng v n z a b f c w)(k:Ac [] w u):Ng v n z a b f c u:=by
 obtain⟨x,q,r,g,e,l,m,i,t,j,p,d,o⟩:=h.o;exact⟨h.C.H k,h.yR,x,q,r,g,e,l,m.C k,i.C k,t,Ad j k,p,d,o.C k⟩
abbrev kH:AW->kN Ae->rC->kN bN->kN bN:=λc s=>Jr (Am c) s
abbrev IU(r:AW)(s:kN Ae):kN Ae:=SN (Jr (Am r) s) r (CK r) (DE r) s
structure aM(pcs:kN CQ)(J:kN (Nat×G9 Ae)->kN Ae->Prop)(num:Nat)(r:AW)(hs:kN (Nat×G9 Ae))(s:kN Ae):Prop where
 lt:num<Z pcs
 cl:Ra (pcs[num]'lt) r s
 nd:(IU r s).Nodup
 new:∀f∈IU r s,f∉s/\AG f/\Z f.qH<=1000
 len:Z (IU r s)<=100000
 mid:∀IS:kN (G9 Ae),IS.map G9.E=IU r s->(∀i∈IS,∃σ,(∀x∈Am r,Cm (Bq σ) (Eo σ) s x=true)/\i=Dr r σ)->∀j,J (hs++(qT j IS).map (Prod.mk num)) (qU A3 s (qT j (IU r s)))
def UA{l:kN Ae}(a):qU A3 f (qT (j+1) l)=A3 (qU A3 f (qT j l)) l[j]:=by
 rw[lW a,m6];rfl
def fd{l:kN Ae}{s}(t:D3 s)(v:∀f∈s,AG f)(x:l.Nodup)(h:∀f∈l,f∉s/\AG f):∀j c,D3 (qU A3 s (qT j l))/\(∀f∈qU A3 s (qT j l),AG f)/\(∀f,f∈qU A3 s (qT j l)↔f∈s\/f∈qT j l)/\l[j]∉qU A3 s (qT j l):=by
 have p:∀j,j<=Z l->D3 (qU A3 s (qT j l))/\(∀f∈qU A3 s (qT j l),AG f)/\(∀f,f∈qU A3 s (qT j l)↔f∈s\/f∈qT j l):=by
  intro j
  induction j with
  |zero=>exact qr
  |succ j ih=>
   intro c;obtain⟨o,k,d⟩:=ih lc;have g:j<Z l:=lc;have u:=(h _ (lV g)).2;obtain⟨a,b,m⟩:=CR u o k;rw[UA g];refine⟨a,b,λf=>?_⟩;rw[m,d,lW g,mi,lX,or_assoc]
 intro j c;obtain⟨o,k,d⟩:=p j lc;refine⟨o,k,d,λq=>?_⟩;rcases(d _).1 q with n|n
 .exact(h _ (lV c)).1 n
 .obtain⟨i,w,e⟩:=mS n;rw[mT]at w;rw[po]at e;have r:=ox.1 x i j lc c lc;exact r e
def gE(f):Z (Bn f).dN=Z f.qH:=by unfold Bn;simp
theorem eU(HM w0 u BT BS)(AO:kN CQ)(a4 TX)(ns:kN Nat)(ds s hs w)(hP:CA w0 (U BT (Z AO) BS) AO)(b2:Z AO<=1000)(fk:Z ns<=1000)(hY:kt w 0 3 1 (U a4 (Z ns) TX) (Z ns) (qS Cp ns))(hC:Ng w0 u (U BT (Z AO) BS) [] [] s hs w)(hJ:HM hs s)(Wa:∀hs s,HM hs s->D3 s/\(∀f∈s,AG f)/\Z s<=9000)(ST:∀hs s,HM hs s->F2 (λy r=>aM AO HM y r hs s) ns ds):rE rF 124 #[jj (V ⟨u,0,Y⟩),U a4 (Z ns) TX] w λr w'=>∃s' af,s'=(Gm (E6 kH) ds s).1/\r=.returned (.bool (decide (Z s<Z s')))/\HM af s'/\Ng w0 u (U BT (Z AO) BS) [] [] s' af w'/\GF w w':=by
 obtain⟨i0,df,cf,d3,c6⟩:=mW Tryz.zn;have b0:=Ab hP;have co:=Ab hY;have UO:=Ab hC;have HJ:=Ab hJ;have aa:=Ab Wa;have d7:=Ab ST;have TL:jV (Z ns=Z ds):=(ST hs s hJ).lenX;obtain⟨em,eh,eA,eT,ef,fp,X0,_⟩:=hC.o;have c2:=X0.D 2;simp at c2;obtain⟨S0,N4⟩:=kQ (Z s);have b3:=Ab N4;rw[N4]at c2;clear hP hY hC hJ Wa ST X0 N4;go_enter func124,ntmps124;go_wp2_with fail
 clear c2
 go_loopg [17] (Z ns) (λgk i wr=>∃(k:Nat) (o:kN Ae) (B0:kN (Nat×G9 Ae)),i=X J k/\k<=Z ns/\gk=Z ns-k/\jV (o=(qU (Km (E6 kH)) (s,K) (qT k ds)).1)/\jV (HM B0 o)/\jV (Ng w0 u (U BT (Z AO) BS) [] [] o B0 wr)/\jV (GF w wr))
 case atStart=>exact⟨0,s,hs,rfl,lc,rfl,rfl,HJ,UO,GF.refl _⟩
 case round=>
  clear UO HJ;obtain⟨k,o,B0,rfl,hk,br,TT,RI,FT,K9⟩:=hrel;have HG:=Ab br;clear br;by_cases VR:k<Z ns
  ·(have a2:k<Z ds:=by have:=Aa TL;omega);have HH:=(d7 B0 o RI).at k VR a2;obtain⟨yg,e5,he,bv⟩:=aS (K9.row co lu lu lu) k VR;obtain⟨rfl,-,rfl⟩:=qX he;obtain⟨y,bx⟩:=kQ (ns[k]);rw[bx]at bv HH;obtain⟨r,T⟩:=kQ (ds[k]);rw[T]at HH;have Df:jV ((qU (Km (E6 kH)) (s,K) (qT (k+1) ds)).1=qU A3 o (IU r o)):=by
    show _=_;rw[lW a2,m6,T];have h:=Aa TT;rw[mK,List.foldl_nil];generalize qU (Km (E6 kH)) (s,K) (qT k ds)=acc at h|-;rw[h];rfl
   clear bx T;obtain⟨EM,CW,P,Ax,W,xs,hb,HI,HN,HV,HZ,hX,H9⟩:=(Aa FT).o;have a9:=Ab (Vl u y BT BS AO EM CW P (U Ax (Z o) W) r o wr HH.lt b2 hb (by exact(Aa b0).C (Aa FT).C) HI HN HH.cl HH.len);have HF:=Ab HH;obtain⟨e4,ek⟩:=rI (lc:k<Z ns);have ab:jV (∀w2 nv nn TV (z:kN Vn),Ac [] wr w2->kt w2 wr.heap.size 176 4 nv nn TV->(∀m∈z,LK w2 m/\gQ wr.heap.size r o m)->Ng w0 u (U BT (Z AO) BS) (qV (qW nv)) (z.filterMap λm=>m.n.ownBlock) o B0 w2):=λw2 nv nn TV z k2 hn AR=>⟨(Aa FT).C.H k2,(Aa FT).yR,EM,CW,P,Ax,W,xs,hb.C k2,HI.C k2,HN,Ad HV k2,λq d=>⟨(HZ q d).1,λS=>by
    obtain⟨m,NL,e⟩:=nY.1 S
    have N:=(HI.row.lt q d).2
    have M:=(AR m NL).2.1 q e
    omega⟩,λq d S=>by
    have N:=(HV.lt q d).2
    have M:=(hn.lt q (by simpa using S)).1
    omega,H9.C k2⟩
   clear HH hb HI HN HV HZ hX H9;(go_wp2_with fail);refine a9.G ?_;rintro _ w2 ⟨a7,LE,z,rfl,LB,Nd,JJ,k2⟩;have W2:=Ab (K9.H (GF.C k2));have eb:=Ab LB;have H6:=Ab (Ak Nd (mr _));(have HU:jV (∀m∈z,LK w2 m):=λm AR=>(JJ m AR).1);(have d4:jV (∀m∈z,∀q,m.n.ownBlock=V q->w0.heap.size<=q):=λm AR q d=>mZ FT.C.size ((JJ m AR).2.1 q d));obtain⟨IS,QR,a6,al⟩:=UD z (IU r o) LB (λf hf=>(HF.new f hf).2.1) (λm AR=>(JJ m AR).2);have NE:=Ab QR;have c9:=Ab al;have TS:=Ab (HF.mid IS QR a6);clear QR a6 al;(have ew:Z z=Z (IU r o):=by have:=rk List.length LB;simpa using this);have YP:=Ab (ab w2 _ _ _ z k2 Nd JJ);have er:=HF.len;clear a9 LB Nd JJ FT K9 ab bv k2;go_wp2_with fail
   go_loopg [25] (Z z) (λd8 i wq=>∃(j:Nat),i=X J j/\j<=Z z/\d8=Z z-j/\jV (Ng w0 u (U BT (Z AO) BS) (qV (qW (U a7 (Z z) LE))) (z.filterMap λm=>m.n.ownBlock) (qU A3 o (qT j (IU r o))) (B0++(qT j IS).map (Prod.mk y)) wq)/\jV (kt wq 0 176 4 (U a7 (Z z) LE) (Z z) (qS (Lh y) z))/\jV (∀m∈z,LK wq m)/\jV (GF w wq))
   case atStart=>exact⟨0,rfl,lc,rfl,(by simpa using YP),H6,HU,W2⟩
   case round=>
    clear YP H6 HU W2;obtain⟨j,rfl,hj,W1,FW,H6,HU,an⟩:=hrel;have c5:=Ab W1;clear W1;by_cases EX:j<Z z
    ·have K2:j<Z (IU r o):=lc;obtain⟨g,fa,he,_,H4⟩:=Az H6 (λc _=>rfl) j EX;obtain⟨rfl,-,rfl⟩:=qX he;have e0:=H4 j EX 0 lc;have e1:=H4 j EX 1 lc;have e2:=H4 j EX 2 lc;have e3:=H4 j EX 3 lc;obtain⟨K7,QQ,H1,R,Q,hn⟩:=HU _ (lV EX);(have IA:∀q,z[j].n.ownBlock=V q->w0.heap.size<=q/\q∈z.filterMap λm=>m.n.ownBlock:=λq d=>⟨d4 _ (lV EX) q d,nY.2 ⟨_,lV EX,d⟩⟩);(have WB:j<Z IS:=by have h:=rk List.length NE;rw[mh]at h;omega);(have a8:jV ((qT (j+1) IS).map (Prod.mk y)=(qT j IS).map (Prod.mk y)++[(y,IS[j])]):=by show _=_;rw[lW WB,mO];rfl);have H8:(z[j].f.f,z[j].ns.map D5.f)=(Bn IS[j].E,IS[j].pos.map Bn):=by
      have h:=rk (λl=>l[j]?) c9;simp only[no,mc EX,mc WB,nM,lZ]at h;exact h
     obtain⟨IJ,ZV⟩:=kQ (IS[j]);rw[ZV]at a8 H8;clear ZV;have KA:z[j].f.f=Bn (IU r o)[j]:=by
      have h:=rk (λl=>l[j]?) eb;simp only[no,mc EX,mc K2,nM,lZ]at h;exact h
     obtain⟨⟨⟨⟨B,BA⟩,fv⟩,nv,RT⟩,AR⟩:∃m,z[j]=m:=⟨_,rfl⟩;rw[AR]at e0 e1 e2 e3 K7 QQ hn KA H1 IA H8;have c8:=Ab AR;obtain⟨D,C,bn⟩:=Aj K7;simp only at bn hn QQ KA H1 IA H8;subst bn hn;obtain⟨L,SP⟩:=kQ (Z RT);rw[SP]at e0 e1 e2 e3 H1 IA;have cz:=Ab SP;have e7:=Ab H1;have X2:=Ab IA;have db:=Ab H8;clear SP H1 IA H8;obtain⟨A,Os⟩:=kQ (Z BA);simp[Lh,Os]at e0 e1 e2 e3;obtain⟨F,hF⟩:=kQ ((IU r o)[j]);rw[hF]at KA;have bs:=HF.new F (by rw[<-hF];exact lV K2);have RO:=Aa aa B0 o RI;have Mo:=fd RO.1 RO.2.1 HF.nd (λf hf=>⟨(HF.new f hf).1,(HF.new f hf).2.1⟩) j K2;rw[hF]at Mo;(have W3:jV (qU A3 o (qT (j+1) (IU r o))=A3 (qU A3 o (qT j (IU r o))) F):=by show _=_;rw[UA K2,hF]);have K4:=Aa aa _ _ (TS j);obtain⟨SJ,T0⟩:=kQ (qU A3 o (qT j (IU r o)));rw[T0]at FW Mo W3 K4;have WS:=Ab Mo;have H0:=Ab KA;have c4:=Ab K7;have OH:=Ab bs;have bz:=Ab Os;obtain⟨EM,CW,P,Ax,W,xs,hb,HI,HN,HV,HZ,hX,H9⟩:=(Aa FW).o;have ce:=HN.len;have HB:=Ab hb;have Op:=Ab HI;have NV:=Ab HN;have WW:=Ab HV;have TH:=Ab HZ;have HX:=Ab hX;have HR:=Ab H9;obtain⟨fz,eg⟩:=rI (lc:j<Z z);obtain⟨H,ao⟩:=kQ (Z SJ);have M0:=Ab ao;(have cL:jV (H<=9000):=by show H<=9000;have:=K4.2.2;omega);(have cy:jV (Z P<=9000):=by show Z P<=9000;have:=K4.2.2;omega);have MB:=Ab (kS wr [O B,U D A C,X J y,U R L Q] 176);have LM:=Ab ((kR [] wr).alloc (Y6 #[O B,U D A C,X J y,U R L Q] 176));clear hb HI HN HV HZ hX H9 Mo bs RO hF KA K7 AR H4 T0 K4 ce Os QQ ao;refine kI (λK1 CL=>?_);go_wp2;refine CL _ _ ?_;clear CL K1;refine kI (λK1 CL=>?_);go_wp2;refine CL _ _ ?_;clear CL K1;refine kI (λK5 a0=>?_);refine wp_block ?_;refine kI (λK1 CL=>?_);go_wp2;refine CL _ _ ?_;clear CL K1 e0 e1 e2 e3;change Code.wp _ _ _ _ (wr.alloc (Y6 #[O B,U D A C,X J y,U R L Q] 176));generalize hw3:wr.alloc (Y6 #[O B,U D A C,X J y,U R L Q] 176)=w3 at MB LM|-;clear hw3;obtain⟨G,SS⟩:=kQ wr.heap.size;have cp:=Ab SS;rw[SS]at MB|-;clear SS;have RE:jV (∀E,AF E G [O B,U D A C,X J y,U R L Q] 176->jY E ⟨G,0,Y⟩=V (O B)/\jY E ⟨G,1,Y⟩=V (U D A C)/\jY E ⟨G,2,Y⟩=V (X J y)/\jY E ⟨G,3,Y⟩=V (U R L Q)):=by
      intro E hb;obtain⟨h0,N,M,h3⟩:=hb.c4;simp at h0 N M h3;exact⟨h0,N,M,h3⟩
     have A1:=Ab (RE w3.drew MB);refine kI (λK1 CL=>?_);refine Cx 6 (λE=>jY E ⟨G,0,Y⟩=V (O B)/\jY E ⟨G,1,Y⟩=V (U D A C)/\jY E ⟨G,2,Y⟩=V (X J y)/\jY E ⟨G,3,Y⟩=V (U R L Q)) lo ?_;refine Cw.tqH (i:=0) (v:=jj (V ⟨u,0,Y⟩)) rfl (λ_ _ _ h=>h) A1 ?_;simp only[kF,lR,lS,lT];refine Cw.tqH (i:=1) (v:=jj (V ⟨u,0,Y⟩)) rfl (λ_ _ _ h=>h) A1 ?_;simp only[kF,lR,lS,lT];refine Cw.tqH (i:=2) (v:=jj (V ⟨u,1,Y⟩)) rfl (λ_ _ _ h=>h) A1 ?_;simp only[kF,lR,lS,lT];refine Cw.tqH (i:=3) (v:=jj (V ⟨G,0,Y⟩)) rfl (λ_ _ _ h=>h) A1 ?_;simp only[kF,lR,lS,lT];refine Cw.tqH (i:=4) (v:=.agg #[O B,U D A C]) rfl (λ_ _ _ h=>h) A1 ?_;simp only[kF,lR,lS,lT];refine Cw.one (i:=5) lo rfl (λEK hK=>?_)
     go_simp
     have HA:Ac [] wr w3.drew:=LM.drew;have M2:=Ab (OB u 1 [U BT (Z AO) BS,U EM (Z P) CW,U Ax (Z SJ) W] 139 EM CW P ⟨⟨B,BA⟩,U D (Z BA) C⟩ w3.drew (HB.C HA) rfl lu lu (Op.C HA) (c4.C HA) (by show Z BA<=1000;have h:=rk (λp=>Z p.dN) H0;simp only[gE]at h;have:=OH.2.2;omega) (by have:=Aa cy;omega) (NV.G _));simp only[AJ]at M2;rw[Aa bz]at M2;refine M2.G ?_;rintro _ I ⟨rfl,hA⟩;have HO:AF w3.drew G [O B,U D A C,X J y,U R L Q] 176:=MB;have L0:=HB.C HA;have N0:=Op.C HA;have X1:G∉u::qV (qW (U EM (Z P) CW)):=by
      intro S;rcases l9.1 S with h|h
      .rw[h]at HO;unfold AF at HO L0;rw[L0]at HO;simp at HO
      .exact Ap N0.row HO lu sE
     have M6:=HO.C hA.C X1;refine hK.o _ _ (λ_=>RE _ M6) ?_;clear hK EK;refine Cw.done lo ?_ _
     try simp only[kF,lR,lS,lT]
     refine CL _ _ ?_;clear CL K1 A1 M2;obtain⟨p,HT,HQ,hcut,H7,bd,NM⟩:=hA.o;simp only[lT,lS]at H7;have P0:EW P (Bn F) p:=by
      have h:=hcut;simp only at h;rw[Aa H0]at h;exact h
     have NA:Dg P ⟨B,BA⟩ p=K:=by
      rw[Aa H0,(Aa NV).ze (Aa OH).2.1 P0];cases hh:C7 SJ F with
      |false=>rfl
      |true=>exact rl ((B1 _ _).1 hh) WS.2.2.2
     have cR:jV (CJ (Ll P ⟨⟨B,BA⟩,U D A C⟩ p) (A3 SJ F)):=by
      have h:=NV.zm (x:=⟨⟨B,BA⟩,U D A C⟩) H0 OH.2.1 P0 (by rw[<-Aa H0];exact NA);unfold Ll;simp only[NA,ma,rm];exact h
     (have Nj:jV (Z (A3 SJ F)=H+1):=by show _=_;rw[(LY SJ F).2 (Aa WS).2.2.2,Aa M0]);have H2:=Ab bd;have bt:jV (∀q,(U HT (Z (Ll P ⟨⟨B,BA⟩,U D A C⟩ p)) HQ).ownBlock=V q->w0.heap.size<=q/\q∉z.filterMap λm=>m.n.ownBlock):=by
      intro q d;rcases NM q d with h|h
      .exact TH q h
      .have N:w3.heap.size<=q:=h;have M:=FW.C.size;have h3:=LM.size;refine⟨lc,λS=>?_⟩;obtain⟨m,NL,e⟩:=nY.1 S;have h4:=((HU m NL).nds.row.lt q e).2;omega
     have c1:jV (∀p'∈xs,∀q,p'.2.n.ownBlock=V q->(U HT (Z (Ll P ⟨⟨B,BA⟩,U D A C⟩ p)) HQ).ownBlock≠V q):=by
      intro p' HD q d he;rcases NM q he with h|h
      .exact((HR.j p' HD).2 q d).2 h
      .have N:w3.heap.size<=q:=h;have h4:=((HR.j p' HD).1.nds.row.lt q d).2;have h3:=LM.size;omega
     have LS:Ac (u::qV (qW (U EM (Z P) CW))) wr I:=((HA.G ln).H hA.C);have b4:jV (GF w I):=an.H ((GF.C HA).H (GF.of hA.C (λq d=>by
      rcases l9.1 d with rfl|d
      .obtain⟨a,b,c,N,M⟩:=aL L0
       exact⟨a,b,c,N,j2 M⟩
      .obtain⟨a,b,c,N,M⟩:=aR N0.row (q:=q) (by simpa using d)
       exact⟨a,b,c,N,j3 (j2 M)⟩)))
     have bl:jV (Ac [] w0 I):=FW.C.trans' LS (λq d=>j3 (by
      rcases l9.1 d with rfl|d
      .exact FW.yR
      .exact(TH q (by simpa using d)).1))
     have H5:∀{b e sz n:Nat} {v:jR} {ys:kN jR},kt wr b e sz v n ys->e≠139->e≠104->kt I b e sz v n ys:=fun{b e sz n v ys} T N M=>Ag T LS (λq d S=>by
      rcases l9.1 S with rfl|S
      .exact Ap T HB N d
      .exact Be T Op.row M q d (by simpa using S))
     have NS:=H5 WW lu lu;rw[Aa M0]at NS;have HK:=Ab NS;have VL:=Ab (H5 H6 lu lu);have Pl:∀{b sz n:Nat} {v:jR} {ys:kN jR},kt wr b 104 sz v n ys->(∀q,v.ownBlock=V q->(U EM (Z P) CW).ownBlock≠V q)->kt I b 104 sz v n ys:=fun{b sz n v ys} T M=>Ag T LS (λq d S=>by
      rcases l9.1 S with rfl|S
      .exact Ap T HB lu d
      .exact M q d (by simpa using S))
     (have U1:jV (∀m∈z,LK I m):=λm AR=>(HU m AR).map (λp hp=>H5 (v:=p.tv) hp lu lu) (λT=>Pl T (λq d he=>(TH q he).2 (nY.2 ⟨m,AR,d⟩))));(have d5:jV (∀p'∈xs,LK I p'.2):=λp' HD=>(HR.j p' HD).1.map (λp hp=>H5 (v:=p.tv) hp lu lu) (λT=>Pl T (λq d=>((HR.j p' HD).2 q d).2)));have b6:jV (LK I ⟨⟨⟨B,BA⟩,U D A C⟩,U R L Q,RT⟩):=by
      have h:=Aa U1 _ (lV EX);rw[Aa c8,Aa cz,Aa bz]at h;exact h
     have aT:=Ab M6;have Nx:jV (∀q,(U Ax H W).ownBlock=V q->q<G/\q∉(qV (qW (U (V ⟨g,0,Y⟩) (Z z) LE)))):=λq d=>by
      have N:=Aa WW;have M:=Aa HX;rw[Aa M0]at N M;have h3:=(N.lt q d).2;have h4:=Aa cp;exact⟨lc,M q d⟩
     rw[Aa M0]at H7;obtain⟨FL,PT⟩:=kQ (Z (Ll P ⟨⟨B,BA⟩,U D A C⟩ p));have cr:=Ab PT;have N2:jV (AF I u [U BT (Z AO) BS,U HT FL HQ,U Ax H W] 139):=by
      rw[PT]at H7;exact H7
     clear hA HO L0 N0 X1 M6 HA hcut P0 H7 bd NM NA LS NS PT H5 Pl;have Jx:jV (∀E,AF E G [O B,U D A C,X J y,U R L Q] 176->AF E u [U BT (Z AO) BS,U HT FL HQ,U Ax H W] 139->jY E ⟨u,2,Y⟩=V (U Ax H W)/\jY E ⟨G,0,Y⟩=V (O B)/\jY E ⟨G,1,Y⟩=V (U D A C)/\jY E ⟨G,2,Y⟩=V (X J y)/\jY E ⟨G,3,Y⟩=V (U R L Q)):=by
      intro E hb hc;have h0:=hc.D 2;simp at h0;exact⟨h0,RE E hb⟩
     have A1:=Ab (Jx I.drew aT N2);refine Cx 10 (λE=>jY E ⟨u,2,Y⟩=V (U Ax H W)/\jY E ⟨G,0,Y⟩=V (O B)/\jY E ⟨G,1,Y⟩=V (U D A C)/\jY E ⟨G,2,Y⟩=V (X J y)/\jY E ⟨G,3,Y⟩=V (U R L Q)) lo ?_;refine Cw.tq (i:=0) (v:=jj (V ⟨u,0,Y⟩)) rfl (λ_ _ _ h=>h) A1 ?_;simp only[kF,lR,lS,lT];refine Cw.tq (i:=1) (v:=jj (V ⟨u,0,Y⟩)) rfl (λ_ _ _ h=>h) A1 ?_;simp only[kF,lR,lS,lT];refine Cw.tq (i:=2) (v:=jj (V ⟨u,0,Y⟩)) rfl (λ_ _ _ h=>h) A1 ?_;simp only[kF,lR,lS,lT];refine Cw.tq (i:=3) (v:=jj (V ⟨u,2,Y⟩)) rfl (λ_ _ _ h=>h) A1 ?_;simp only[kF,lR,lS,lT];refine Cw.tq (i:=4) (v:=U Ax H W) rfl (λ_ _ _ h=>h) A1 ?_;simp only[kF,lR,lS,lT];refine Cw.tq (i:=5) (v:=.agg #[O B,U D A C,X J y,U R L Q]) rfl (λ_ _ _ h=>h) A1 ?_;simp only[kF,lR,lS,lT];refine Cw.one (i:=6) lo rfl (λEK hK=>?_)
     go_simp
     have RV:AF (I.drew.alloc (Y6 #[O B,U D A C,X J y,U R L Q] 176)) G [O B,U D A C,X J y,U R L Q] 176:=AF.alloc (w:=I.drew) aT _;have NX:AF (I.drew.alloc (Y6 #[O B,U D A C,X J y,U R L Q] 176)) u [U BT (Z AO) BS,U HT FL HQ,U Ax H W] 139:=AF.alloc (w:=I.drew) N2 _;refine hK.o _ _ (λ_=>Jx _ RV NX) ?_;clear hK EK
     try simp only[kF,lR,lS,lT]
     have Nq:kt I.drew w0.heap.size 176 4 (U Ax H W) H (qS Cl xs):=HK;have ch:w0.heap.size<=I.heap.size:=bl.size;have eB:=Aa cL;refine Cw.one (i:=7) lo rfl (λEK hK=>?_);refine oJ _ lx _ _ _ lx w0.heap.size 176 i0 _ 4 72 underlying137 df cf d3 c6 rfl lc (U Ax H W) H (qS Cl xs) lx (mg Nq _)
      ⟨I.drew.heap.size,0,Y⟩ 1 1 [O B,U D A C,X J y,U R L Q] lx lx (mz (mG I.drew _)) lC
      lc lw lc (by simp;exact Nat.le_succ_of_le ch) (I.heap.size+1) ln ?_
     intro gg Go u3 NY LC ag dT;have KD:=RV.grown LC (λe=>by have:=(Nx G e).1;omega);have EY:=NX.grown LC (Ap Nq N2 lu);refine hK.o _ _ (λ_=>Jx _ KD EY) ?_;clear hK EK
     try simp only[kF,lR,lS,lT]
     refine Cw.one (i:=8) lo rfl (λEK hK=>?_)
     go_simp
     refine hK.o _ _ (λ_=>Jx _ KD EY) ?_;clear hK EK
     try simp only[kF,lR,lS,lT]
     refine Cw.one (i:=9) lo rfl (λEK hK=>?_)
     go_simp
     refine hK.o _ _ (λ_=>Jx _ KD EY) ?_;clear hK EK
     try simp only[kF,lR,lS,lT]
     have U0:=EY.D 2;have d0:=EY.qI 2;simp at U0;refine Cw.one (i:=10) lo rfl (λEK hK=>?_)
     go_simp
     refine hK.o _ _ (λh=>rl rfl h) ?_;clear hK EK;refine Cw.done lo ?_ _
     try simp only[kF,lR,lS,lT]
     have MY:Ac (qV (qW (U Ax H W))) I u3:=(((kR _ I).drew).alloc (Y6 #[O B,U D A C,X J y,U R L Q] 176)).grown LC (λq d=>j2 (by rw[d];simp));have NN:Ac [u] u3 (u3.setCell ⟨u,2,Y⟩ (U (V ⟨gg,0,Y⟩) (H+1) Go)):=(kR [u] u3).setCell (p:=⟨u,2,Y⟩) (j2 ln) _;have HS:∀{b e sz n:Nat} {v:jR} {ys:kN jR},kt I b e sz v n ys->e≠139->(∀q,v.ownBlock=V q->(U Ax H W).ownBlock≠V q)->kt (u3.setCell ⟨u,2,Y⟩ (U (V ⟨gg,0,Y⟩) (H+1) Go)) b e sz v n ys:=fun{b e sz n v ys} T N M=>by
      have h3:=Ag T MY (λq d S=>M q d (by simpa using S));exact Ah h3 (Ap h3 EY N) _
     (have K3:∀m,LK I m->LK (u3.setCell ⟨u,2,Y⟩ (U (V ⟨gg,0,Y⟩) (H+1) Go)) m:=λm h=>h.map (λp hp=>HS (v:=p.tv) hp lu (λq d=>Be (v1:=p.tv) hp HK lu q d)) (λT=>HS T lu (λq d=>Be T HK lu q d)));have av:jV (Ng w0 u (U BT (Z AO) BS) (qV (qW (U (V ⟨g,0,Y⟩) (Z z) LE))) (z.filterMap λm=>m.n.ownBlock) (qU A3 o (qT (j+1) (IU r o))) (B0++(qT (j+1) IS).map (Prod.mk y)) (u3.setCell ⟨u,2,Y⟩ (U (V ⟨gg,0,Y⟩) (H+1) Go))):=by
      rw[Aa W3,Aa a8,<-mY];refine⟨(bl.trans' MY (λq d=>j3 (HK.lt q (by simpa using d)).1)).trans' NN (λq d=>j3 (by simp only[lX]at d;rw[d];exact FW.yR)),FW.yR,HT,HQ,Ll P ⟨⟨B,BA⟩,U D A C⟩ p,V ⟨gg,0,Y⟩,Go,xs++[(y,⟨⟨⟨B,BA⟩,U D A C⟩,U R L Q,RT⟩)],?_,⟨?_,λq d=>⟨?_,?_⟩⟩,cR,?_,bt,?_,?_,λp' HD=>?_⟩
      .rw[Aa Nj,Aa cr];exact EY.set 2 _
      .exact HS H2.row lu (λq d=>Be H2.row HK lu q d)
      .exact HS (v:=q.tv) (H2.j q d).1 lu (λq' dc=>Be (v1:=q.tv) (H2.j q d).1 HK lu q' dc)
      .exact(H2.j q d).2
      .rw[Aa Nj,mD];exact Ah NY (Ap NY EY lu) _
      .rw[Aa Nj];intro q d;simp only[kE,lZ]at d;subst d;rcases ag with h|h
       .exact(Nx gg h).2
       .intro S;have N:=(VL.lt gg (by simpa using S)).2;omega
      .have h:=Aa db;simp only[mU]at h;rw[mO,mO,(Aa HR).eq];simp only[mA,om,h.1,h.2]
      .rcases mi.1 HD with h|h
       .exact⟨K3 _ (d5 p' h),λq d=>⟨((HR.j p' h).2 q d).1,c1 p' h q d⟩⟩
       .simp only[lX]at h;subst h;exact⟨K3 _ b6,λq d=>⟨(X2 q d).1,λhe=>(bt q he).2 (X2 q d).2⟩⟩
     have ad:=Ab (HS VL lu (λq d h=>(Nx q h).2 (by rw[d];simp)));(have X3:jV (∀m∈z,LK (u3.setCell ⟨u,2,Y⟩ (U (V ⟨gg,0,Y⟩) (H+1) Go)) m):=λm AR=>K3 m (U1 m AR));have bp:jV (GF w (u3.setCell ⟨u,2,Y⟩ (U (V ⟨gg,0,Y⟩) (H+1) Go))):=(b4.H (GF.of MY (λq d=>by
      obtain⟨a,b,c,N,M⟩:=aR HK (q:=q) (by simpa using d)
      exact⟨a,b,c,N,j3 (j3 M)⟩))).H (GF.of NN (λq d=>by
      simp only[lX]at d
      rw[d]
      obtain⟨a,b,c,N,M⟩:=aL EY
      exact⟨a,b,c,N,j2 M⟩))
     generalize u3.setCell ⟨u,2,Y⟩ (U (V ⟨gg,0,Y⟩) (H+1) Go)=w6 at av ad X3 bp|-;clear NY LC ag dT KD EY RV NX Nq U0 d0 MY NN HS K3 A1;refine a0 _ _ ?_;clear a0;go_wp2
     go_roundg (Z z-(j+1))
     case measure=>exact qu
     case rel=>exact⟨j+1,ly,lc,rfl,av,ad,X3,bp⟩
    .have b7:jV (Ng w0 u (U BT (Z AO) BS) [] [] (qU A3 o (IU r o)) (B0++IS.map (Prod.mk y)) wr):=by
      have h:=Aa FW;rw[lY lc,lY (by have h:=rk List.length (Aa NE);rw[mh]at h;omega)]at h;obtain⟨EM,CW,P,Ax,W,xs,g1,g2,g3,g4,g5,g6,g7⟩:=h.o;exact⟨h.C,h.yR,EM,CW,P,Ax,W,xs,g1,g2,g3,g4,λq d=>⟨(g5 q d).1,ln⟩,λq d=>ln,g7⟩
     have b5:jV (HM (B0++IS.map (Prod.mk y)) (qU A3 o (IU r o))):=by
      have h:=Aa TS (Z (IU r o));rw[nw,lY (by have h:=rk List.length (Aa NE);rw[mh]at h;omega)]at h;exact h
     go_wp2_with fail
     go_roundg (Z ns-(k+1))
     case measure=>exact qu
     case rel=>exact⟨k+1,qU A3 o (IU r o),B0++IS.map (Prod.mk y),ly,lc,rfl,Df.symm,b5,b7,an⟩
  .have HE:jV (o=(Gm (E6 kH) ds s).1):=by
    have h:=Aa TT;rw[lY (by have:=Aa TL;omega)]at h;exact h
   obtain⟨EM,CW,P,Ax,W,xs,hb,_⟩:=(Aa FT).o;have c2:=hb.D 2;simp at c2;obtain⟨S1,SB⟩:=kQ (Z o);rw[SB]at c2;have d2:=Ab SB;clear hb SB;go_wp2;go_ret;refine⟨o,B0,HE,?_,RI,FT,K9⟩;rw[Aa b3,Aa d2]
   first|rfl|(simp;done)|simp
end
variable{p:kN CQ}{c:kN AW}{n m i k b j:Nat}{w v u:jH}{z:jR}{y x:kN jR}{M:kN Nat}{o:rB}
structure Ia(pcs:kN CQ)(rcs:kN AW):Prop where
 zg:F2 Qi pcs rcs
 pass:Cb rcs
 zD:∀c∈pcs,Lf c.pc
 names:∀c∈pcs,c.hn.size<=1000000/\∀p∈c.ea,p.1.an.size<=1000000
def Ia.len(h:Ia p c):Z p<=1000:=by rw[h.zg.lenX];exact h.pass.order.small.1
def Ia.fit{a}(h:Ia p a){c}(b:c∈p):lq c:=(Sa (h.zD c b)).1
def Ia.litW{i}{n}(h:Ia i n){c}{r}(y:c∈i)(k:r∈n)(v:Qi c r):∀x∈Am r,Qt (Mn x):=by
 intro x o;obtain⟨q,g,rfl⟩:=me.1 o;obtain⟨p,s,j⟩:=v.g.mem q g;have b:=h.pass.g r k q.1 o;have f:=(h.pass.order.small.2 r k).2.2 q g;have z:Z q.1.A.qH<=2:=by
  have:=pE f;omega
 have e:=(h.zD c y).g p.1 (by exact mx s);rw[j.eq]at e;unfold Di at b;by_cases d:(q.1.b==97||q.1.b==33)=true
 .rw[mo d]at b;have m:=e.bare (by rw[IP];exact d);refine⟨by show Z (q.1.A.qH.map ct)<=1000;exact li,λt a=>?_,by rw[m.1];exact Or.inl rfl,by rw[m.2];exact Or.inl rfl⟩;obtain⟨u,w,rfl⟩:=me.1 a;exact KJ (b.qH u w)
 .rw[mm d]at b;have l:=j.plain (by unfold L5;simpa using d);refine⟨by show Z (q.1.A.qH.map ct)<=1000;rw[l];simp,λt a=>?_,KJ b.1,KJ b.2.1⟩;have a:t∈q.1.A.qH.map ct:=a;rw[l]at a;simp at a
def Ia.zV(h:Ia p c){L}{s}(a:Hu c L n s):D3 s/\(∀f∈s,AG f)/\Z s<=6912:=by
 have d:=h.pass.order.few s (a.zB.nodup λf b=>(a.zS f b).qK h.pass.prog.zI) a.zS;exact⟨a.zB,λf b=>(a.zS f b).qK h.pass.prog.zI,lc⟩
def Ia.cl(h:Ia p c){L}{s}(k:Hu c L n s)(i)(g:m<Z c):Ra p[m] c[m] s:=by
 have j:=h.zg.at m i g;have e:p[m]∈p:=lV i;have a:c[m]∈c:=lV g;have o:=h.zV k;refine⟨j,(h.fit e).pc,(h.fit e).zN,λx b=>⟨h.pass.g _ a x b,h.litW e a j x b⟩,X4 h.pass.prog.zD a (h.pass.g _ a),h.pass.zI _ a,λf r x b q v=>?_,o.2.1,lc⟩;obtain⟨d,l,t,u⟩:=(k.zS f r).zV;rw[u];exact h.pass.order.ar3 d l _ a x b q (by rw[<-t];exact v)
def Ia.steps(h:Ia p c){L}(w:CP c L){s}(g:Hu c L n s){l}(M:ZP c l s)(u:m<Z p)(o)(B:L c[m].E.a=n):aM p (λl s=>Hu c L n s/\ZP c l s) m c[m] l s:=by
 have d:=h.cl g u o;have z:c[m]∈c:=lV o;have y:=λv e t q=>(d.al v e t q).size
 have k:∀f∈IU c[m] s,f∉s/\∃σ,(∀x∈Am c[m],Cm _ _ s x=true)/\f=Bq σ _:=λf a=>UF d.parts y a
 have C:=λj=>(L7 (h.pass.other w) g z B (qT j _) s (λf a=>(k f (ny a)).2) g (λf a=>a) (λf a=>Or.inl a)).1
 have i:∀f∈IU c[m] s,AG f/\Z f.qH<=1000:=by
  intro f a;obtain⟨b,D,rfl⟩:=me.1 a;have N:=MZ d.al d.parts d.E (my.1 D).1;refine⟨GP N,?_⟩;have:=(h.pass.order.small.2 _ z).2.1;unfold Av;exact li
 have A:=Ex c[m].E.qH [] oH;have r:(IU c[m] s).Nodup:=bR (λv e=>TZ d.qK d.fitA v e) y d.parts A.2.1 (λv I=>by
  rcases(A.2.2 v).1 I with h|⟨_,t,q,e⟩
  .simp at h
  .exact⟨t,q,e⟩)
 refine⟨u,d,r,λf a=>⟨(k f a).1,(i f a).1,(i f a).2⟩,?_,λP G E j=>⟨C j,M.batch w g.zB d.qK (λf a=>g.work.top f a) o B r (λf a=>⟨(k f a).1,(i f a).1⟩) G E j⟩⟩;have H:=XM _ s g.zB d.qK r (λf a=>⟨(k f a).1,(i f a).1⟩);have F:=(h.zV (C (Z (IU c[m] s)))).2.2;rw[nw,H]at F;omega
def Kh(rcs:kN AW)(ns:kN Nat):kN AW:=ns.filterMap λi=>rcs[i]?
def XE{b}{R}:∀a,(∀i∈a,∃h,R i b[i])->F2 R a (Kh b a)
 |[],_=>F2.nil
 |i::a,h=>by
  obtain⟨f,d⟩:=h i ln;have ih:=XE a (λj c=>h j ss);have e:Kh b (i::a)=b[i]::Kh b a:=by
   unfold Kh;rw[pW,mc f]
  rw[e];exact F2.cons d ih
def Ke(h:F2 Qi p c)(a):Hk p i=c[i].E.a:=by
 have b:i<Z p:=by rw[h.lenX];exact a
 have:=(h.at i b a).hn;unfold Hk;rw[mc b];exact this
def cn{b}(h:F2 Qi p b){L:bN->Nat}(c):c∈Kh b ((List.range (Z p)).filter λi=>L (Hk p i)==n)↔c∈b/\L c.E.a=n:=by
 unfold Kh;rw[nY];constructor
 .rintro ⟨i,a,e⟩;obtain⟨a,f⟩:=my.1 a;obtain⟨d,rfl⟩:=oI.1 e;rw[Ke h d]at f;exact qr
 .rintro ⟨g,j⟩;obtain⟨i,a,rfl⟩:=mS g;refine⟨i,my.2 ⟨qi.2 (by rw[h.lenX];exact a),?_⟩,mc a⟩;rw[Ke h a];exact li
def GF.parts(h:GF w v){b}(a:Et w n z b):Et v n z b:=⟨h.row a.row lu lu lu,λp c=>h.row (a.j p c) lu lu lu,a.apart⟩
def kW(lad:rB)(lcp:Nat)(pcs:kN CQ)(rcs:kN AW)(w:jH)(r:Ending)(w':jH):Prop:=∃(cb:Nat) (s:kN Ae) (hs:kN (Nat×G9 Ae)) (L:bN->Nat) (N:Nat),r=j1 (jj (V ⟨cb,0,Y⟩))/\Ng w cb (U lad (Z pcs) lcp) [] [] s hs w'/\ZP rcs hs s/\CP rcs L/\Hu rcs L N s/\∀c∈rcs,L c.E.a<N
set_option maxRecDepth 100000
theorem MI(m j)(b:kN CQ)(a w)(hP:CA w (U m (Z b) j) b)(A:Ia b a):rE rF 74 #[U m (Z b) j] w λr G=>kW m j b a w r G:=by
 have HM:=A.len;have B2:=Sy a 6;have FL:EL a (BW a 6)<=100000:=by
  have P:∀(l:kN AW),EL l _<=Z l*6:=λl=>by
   induction l with
   |nil=>simp[EL]
   |cons c l ih=>
    (have e:EL (c::l) (BW a 6)=BW a 6 c.E.a+EL l (BW a 6):=lx);have:=B2 c.E.a;rw[e,mn,oD];omega
  have h2:=P a;have h3:=A.pass.order.small.1;omega
 have FB:Hid _:=λt hk=>Zq m j b a t _ (hP.C hk) A.zg lc (λc hc=>(A.fit hc).pc.g) A.names A.pass.prog.lay (λx=>by have:=B2 x;omega) FL
 have HL:=Ab hP;have z:=Ab A;have E0:=Ab HM;have I:Hid (Ng w _ _ [] [] [] [] (w.alloc (.cells #[U m (Z b) j,U Y 0 0,U Y 0 0] 139))):=⟨(kR [] w).alloc _,mt _,Y,0,[],Y,0,[],kS w _ 139,⟨mw _ _ _ _,λp R=>by simp at R⟩,⟨rfl,rp,λf hf=>by simp at hf⟩,mw _ _ _ _,λq hq=>by simp[kE]at hq,λq hq=>ln,rfl,λp R=>by simp at R⟩;obtain⟨y,Ha⟩:=kQ w.heap.size;clear hP A B2 FL;go_enter func74,ntmps74;go_wp2_with fail
 have AT:=Ab I.C;change rE _ _ _ (w.alloc (.cells #[U m (Z b) j,U Y 0 0,U Y 0 0] 139)) _;generalize w.alloc (.cells #[U m (Z b) j,U Y 0 0,U Y 0 0] 139)=w1 at I AT|-;rw[Ha]at I;clear Ha;refine(FB w1 AT).G ?_;rintro _ w2 ⟨ad,cp,v,L,rfl,T,BA,EM,HU,k2⟩;have FF:=Ab (I.grow k2);have FT:=Ab (Et.mk (Ak T.row (mr _)) (λp R=>Ak (T.j p R) (mr _)) T.apart);have FA:=Ab BA;have AO:=Ab EM;have Ix:=BA.len;clear I AT FB T BA EM HU k2;go_wp2_with fail
 go_loopg [12] (Z v) (λgk i wr=>∃(k:Nat) (s:kN Ae) (d:kN (Nat×G9 Ae)),i=X .i64 k/\k<=Z v/\gk=Z v-k/\Hid (Hu a L k s/\ZP a d s)/\Hid (Ng w y (U m (Z b) j) [] [] s d wr)/\Hid (GF w2 wr))
 case atStart=>exact⟨0,[],[],rfl,lc,rfl,⟨Hu.start _ _,ZP.start _⟩,FF,GF.refl _⟩
 case round=>
  clear FF;obtain⟨k,s,d,rfl,hk,HD,C,Q,H⟩:=hrel;have HG:=Ab HD;clear HD;by_cases A2:k<Z v
  .obtain⟨g,Jx,CW,HK,M,hv,FC⟩:=TM (H.parts FT) k A2;obtain⟨rfl,-,rfl⟩:=qX M;have Ax:=FT.j _ (lV A2);rw[hv]at Ax;have AB:=FA.lists k A2;obtain⟨o,EX⟩:=kQ (v[k].1);rw[EX]at Ax AB FC;have H1:=Ab Ax;have HA:=Ab AB;have HJ:Z o<=1000:=by
    rw[AB];have:=nL (λi=>L (Hk b i)==k) (List.range (Z b));rw[List.length_range]at this;have:=Aa E0;omega
   have HT:=Ab HJ;obtain⟨NL,A0⟩:=kQ (Z o);have HZ:=Ab A0;rw[A0]at FC;obtain⟨IJ,H8⟩:=rI lc;have HP:Hid (∀s d t,Hu a L k s/\ZP a d s->Ng w y (U m (Z b) j) [] [] s d t->GF w2 t->rE rF 124 #[jj (V ⟨y,0,Y⟩),U CW NL HK] t λr G=>∃u F,u=(Gm (E6 kH) (Kh a o) s).1/\r=j1 (.bool (decide (Z s<Z u)))/\(Hu a L k u/\ZP a F u)/\Ng w y (U m (Z b) j) [] [] u F G/\GF t G):=by
    intro s d t B hC hR;rw[<-Aa HZ];refine eU _ w y m j b CW HK o _ s d t HL oa HT (hR.row H1 lu lu lu) hC B (λd s B=>by have h:=z.zV B.1;exact⟨h.1,h.2.1,lc⟩) (λd s B=>XE o (λi D=>?_));rw[Aa HA]at D;obtain⟨D,S⟩:=my.1 D;have CC:=qi.1 D;(have B0:i<Z a:=by rw[<-(Aa z).zg.lenX];exact CC);refine⟨B0,z.steps AO B.1 B.2 CC B0 ?_⟩;rw[<-Ke (Aa z).zg B0];simpa using S
   have HO:Hid (∀s,Hu a L k s->((Gm (E6 kH) (Kh a o) s).2=false->(Gm (E6 kH) (Kh a o) s).1=s/\Hu a L (k+1) s)/\((Gm (E6 kH) (Kh a o) s).2=true->Z s<Z (Gm (E6 kH) (Kh a o) s).1)):=by
    intro s B;have h:=z.pass.grow (al:=kH) (λc _ s=>Gj _ s) AO (n:=k) (ds:=Kh a o) (λc=>by rw[Aa HA];exact cn z.zg c) B;exact⟨h.2.1,h.2.2.1⟩
   clear Ax AB HJ hv EX A0;go_wp2_with fail
   go_loopg [] (7000-Z s) (λH5 wq=>∃(s:kN Ae) (d:kN (Nat×G9 Ae)),H5=7000-Z s/\Hid (Hu a L k s/\ZP a d s)/\Hid (Ng w y (U m (Z b) j) [] [] s d wq)/\Hid (GF w2 wq))
   case atStart=>exact⟨s,d,rfl,C,Q,H⟩
   case round=>
    clear C Q H;obtain⟨s,d,HF,C,Q,H⟩:=hrel;have HY:=Ab HF;clear HF;have HH:=Ab (HP s d wr C Q H);(go_wp2_with fail);refine HH.G ?_;rintro _ w5 ⟨u,W,F,rfl,FP,Go,CL⟩;have H9:=Ab F;have AR:=Ab FP;have DT:=Ab Go;have EK:=Ab (H.H CL);have BS:=Aa HO s C.1;rw[<-F]at BS;have HQ:=Ab BS;clear HH F FP Go CL BS;by_cases E:Z s<Z u
    .have N:=oy E;rw[N];have H0:=Ab E;clear N E;go_wp2_with fail
     go_roundg (7000-Z u)
     case measure=>
      have P:=(z.zV AR.1).2.2;have h2:=Aa H0;have h3:=Aa HY;omega
     case rel=>exact⟨u,W,rfl,AR,DT,EK⟩
    .have N:=nC E;rw[N];have HE:Hid (u=s/\Hu a L (k+1) s):=by
      have h:=Aa HQ;cases S:(Gm (E6 kH) (Kh a o) s).2 with
      |true=>exact rl (h.2 S) E
      |false=>exact h.1 S
     have H4:Hid (Ng w y (U m (Z b) j) [] [] s W w5):=by
      have h:=Aa DT;rw[(Aa HE).1]at h;exact h
     have H2:Hid (ZP a W s):=by
      have h:=AR.2;rw[(Aa HE).1]at h;exact h
     clear N E;go_wp2_with fail
     go_roundg (Z v-(k+1))
     case measure=>exact qu
     case rel=>exact⟨k+1,s,W,ly,lc,rfl,⟨HE.2,H2⟩,H4,EK⟩
  ·have M:k=Z v:=lc;(have HV:Hid (Hu a L (Z v) s):=by have h:=C.1;rw[M]at h;exact h);clear M;go_wp2;go_ret;refine⟨y,s,d,L,Z v,rfl,Q,C.2,AO,HV,λc hc=>?_⟩;obtain⟨i,D,rfl⟩:=mS hc;have P:=FA.top i (by rw[(Aa z).zg.lenX];exact D);rw[Ke (Aa z).zg D]at P;exact P
def jX(lad:rB)(lcp:Nat)(pcs:kN CQ)(rcs:kN AW)(w:jH)(r:Ending)(w':jH):Prop:=∃(cb:Nat) (s:kN Ae) (L:bN->Nat) (N:Nat),r=j1 (jj (V ⟨cb,1,Y⟩))/\Ta w cb (U lad (Z pcs) lcp) [] s w'/\CP rcs L/\Hu rcs L N s/\∀c∈rcs,L c.E.a<N
theorem Lx(c b)(a:kN CQ)(d w)(g:CA w (U c (Z a) b) a)(k:Ia a d):rE rF 41 #[U c (Z a) b] w λr m=>jX c b a d w r m:=by
 have f:=Ab (MI c b a d w g k);clear g k;go_enter func41,ntmps41;go_wp2_with fail
 refine f.G ?_;rintro _ n ⟨e,s,p,L,N,rfl,j,_,h,l,i⟩;have o:Hid (jX c b a d w (j1 (jj (V ⟨e,1,Y⟩))) n):=⟨e,s,L,N,rfl,j.cou,h,l,i⟩;clear f j h l i;go_wp2;go_ret;exact o
def MF{e t}{l cs:kN jR}{N}(h:kt w m e k z n l)(j:AF w N cs t)(f:(e==t)=false):∀i,z.ownBlock=V i->i∉[N]:=by
 intro i b d;rw[lX]at d;subst d;rcases h.2 with⟨rfl,_⟩|⟨g,c,o,rfl,_,a,_⟩
 .simp[kE]at b
 .simp only[kE,lZ]at b;subst b;rw[j]at a;exact qr
def Z0{e t}(h:AF w n y e)(c:AF w b x t)(f:(e==t)=false):n∉[b]:=by
 intro d;unfold AF at h c;exact qr
def Ic.yB{b}(h:Ic w z b)(c:AF w n y 145)(k:Ac [n] w v):Ic v z b:=
 ⟨Ag h.row k (MF h.row c lx),λp a=>⟨Ag (h.j p a).1 k (MF (h.j p a).1 c lx),(h.j p a).2⟩⟩
def Cg.yB{c}(h:Cg w n z c)(b:AF w m y 145)(k:Ac [m] w u):Cg u n z c:=
 ⟨Ag h.row k (MF h.row b lx),λp a=>⟨Ag (h.j p a).1 k (MF (h.j p a).1 b lx),(h.j p a).2⟩⟩
structure kP(w:jH)(bv:jR)(ea:kN L6)(body:kN Bt):Prop where
 e:Cg w 0 bv ea
 map:ea.map Prod.fst=body.map Mn
 zD:∀p∈ea,Hm p.1
 len:Z ea<=3
def Zt(k:Ac M w u)(h:jY w ⟨b,n,Y⟩=V z)(d:b∉M):jY u ⟨b,n,Y⟩=V z:=by
 unfold World.cell? at h|-;have c:b<w.heap.size:=by
  rcases Nat.lt_or_ge b w.heap.size with a|a
  .exact a
  .simp[px a]at h
 rw[k.block b c d];exact h
def kP.zN{a}{b}(h:kP w z a b):A6 a=(qS Bw b).map ct:=by
 unfold A6;have e:a.flatMap (λp=>AQ p.1)=qS AQ (a.map Prod.fst):=by rw[List.flatMap_map]
 rw[e,h.map,List.flatMap_map,pU]
 congr 1
 funext x
 exact QX x
def kP.vars{b}{a}(h:kP w z b a):D6 (A6 b)=De (Bf a):=by
 rw[h.zN,So];rfl
def kP.litW{g}{i}(h:kP w z g i)(n:∀x∈i,Di x):∀x∈i,Qt (Mn x):=by
 intro x l;obtain⟨p,f,m⟩:∃p∈g,p.1=Mn x:=by
  have:Mn x∈g.map Prod.fst:=by rw[h.map];exact mx l
  exact qr
 have d:=h.zD p f;rw[m]at d;have a:=n x l;unfold Di at a;by_cases b:(x.b==97||x.b==33)=true
 .rw[mo b]at a;have k:=d.bare (by rw[IP];exact b);refine⟨by have:=d.le;omega,λt c=>?_,by rw[k.1];exact Or.inl rfl,by rw[k.2];exact Or.inl rfl⟩;obtain⟨u,o,rfl⟩:=me.1 c;exact KJ (a.qH u o)
 .rw[mm b]at a;have j:=d.plain (by rw[IP];simpa using b);refine⟨by rw[j];simp,λt c=>?_,KJ a.1,KJ a.2.1⟩;rw[j]at c;simp at c
def kP.fit{a}{f}(h:kP w z a f):(∀p∈a,0<Z (AQ p.1)/\Z (AQ p.1)<=1000)/\Z (A6 a)<=90000:=by
 have c:∀p∈a,0<Z (AQ p.1)/\Z (AQ p.1)<=1000:=λp b=>by
  have d:=h.zD p b;have:=d.le;unfold AQ;split
  .rename_i e;exact⟨d.some e,lc⟩
  exact ln
 refine⟨c,?_⟩;have g:=Jf (λp b=>(c p b).2);have:=h.len;omega
theorem S5(k n F G)(q:kN D5)(i h)(b:kN L6)(a s w N cs)(hN:AF w N cs 145)(B2:k∉[N])(hc:jY w ⟨k,n,Y⟩=V (U F (Z q) G))(hF:Ic w (U F (Z q) G) q)(e:kP w (U i (Z b) h) b a)(S:CJ q s)(BA:Z s<=10000)(o:aF a s)(h6:Z (Bf a)<=6):rE rF 94 #[jj (V ⟨k,n,Y⟩),U i (Z b) h] w λr c=>∃l E,r=j1 (.func (.func 140) #[] #[jj (V ⟨E,0,Y⟩)])/\AF c E [jj (V ⟨l,0,Y⟩)] 233/\w.heap.size<=E/\(∀d,Ac [N] c d->eV d l a s (Bf a))/\Ac [] w c:=by
 obtain⟨CC,T⟩:=e.fit;have I:=Ab (QW i h b w e.e (by have:=e.len;omega) CC);have H:Hid (∀z D d,kt d w.heap.size 215 2 (U z (Z (A6 b)) D) (Z (A6 b)) (qS Ar (A6 b))->rE rF 138 #[U z (Z (A6 b)) D] d λr c=>∃A B,r=j1 (U A (Z (Bf a)) B)/\kt c d.heap.size 21 1 (U A (Z (De (Bf a))) B) (Z (De (Bf a))) (qS AX (De (Bf a)))/\Ac [] d c):=by
  intro z D d C;refine(OX z D _ _ d C T).G ?_;rintro r c ⟨A,B,rfl,y,t⟩;rw[e.vars]at y;exact⟨A,B,by rw[e.vars,GM],y,t⟩
 have BS:Hid (∀l f g c,Ac [] w c->w.heap.size<=l->AF c l [jj (V ⟨k,n,Y⟩),U i (Z b) h,U f (Z (Bf a)) g] 237->kt c 0 21 1 (U f (Z (De (Bf a))) g) (Z (De (Bf a))) (qS AX (De (Bf a)))->∀d,Ac [N] c d->eV d l a s (Bf a)):=by
  intro l f g c m EK P C d p;have u:=hN.C m;have CL:Z a=Z b:=by have:=rk List.length e.map;simpa using this.symm
  have CW:=e.len;refine⟨⟨k,n,i,h,b,f,g,F,G,q,⟨?_,?_,(hF.C m).yB u p⟩,(e.e.C m).yB u p,e.map,Ag C p (MF C u lx),S⟩,BA,λx hx=>⟨o.g x hx,e.litW o.g x hx⟩,lc,lc,o.fit,λv hv=>(o.vars v hv).1⟩
  .rw[GM];exact P.C p (Z0 P u lx)
  .exact Zt p (m.cellAt hc) B2
 clear hF e S o hN hc;generalize(A6 b)=BT at I H T;go_enter func94,ntmps94;go_wp2_with fail
 refine(Aa I).G ?_;rintro _ w1 ⟨A2,A1,rfl,W,L⟩;have M:=Ab (Aa H A2 A1 w1 W);have Q:=Ab L;clear I H W L;go_wp2_with fail
 refine(Aa M).G ?_;rintro _ j ⟨f,g,rfl,Ax,k2⟩;have A0:=Ab Ax;have R:=Ab ((Aa Q).H k2);have B0:=(Aa R).size;clear M Q Ax k2;go_wp2;go_ret;have y:=(kS j [jj (V ⟨k,n,Y⟩),U i (Z b) h,U f (Z (Bf a)) g] 237).alloc (.cells #[jj (V ⟨j.heap.size,0,Y⟩)] 233);have t:=kS (j.alloc (.cells #[jj (V ⟨k,n,Y⟩),U i (Z b) h,U f (Z (Bf a)) g] 237)) [jj (V ⟨j.heap.size,0,Y⟩)] 233;rw[mJ]at t;have m:=((Aa R).alloc (.cells #[jj (V ⟨k,n,Y⟩),U i (Z b) h,U f (Z (Bf a)) g] 237)).alloc (.cells #[jj (V ⟨j.heap.size,0,Y⟩)] 233);exact⟨j.heap.size,j.heap.size+1,rfl,t,lc,Aa BS j.heap.size f g _ m B0 y (Ak (((Aa A0).alloc _).alloc _) (mr _)),m⟩
def aN(sts:kN (Nat×Vn))(i:Nat):kN jR:=(sts[i]?).elim [] Cl
def jh(sts:kN (Nat×Vn))(i:Nat):Array jR:=#[X .i64 i,.agg (aN sts i).toArray]
structure ML(b1:Nat)(sad:rB)(scp:Nat)(sts:kN (Nat×Vn))(M:kN Nat)(w:jH):Prop where
 e:jY w ⟨b1,0,Y⟩=V (U sad (Z sts) scp)
 row:kt w 0 176 4 (U sad (Z sts) scp) (Z sts) (qS Cl sts)
 apart:∀k∈M,k≠b1/\(U sad (Z sts) scp).ownBlock≠V k/\k<w.heap.size
def ML.grow{b}(h:ML n o m b M w)(k:Ac [] w v):ML n o m b M v:=
 ⟨k.cellAt h.e,Ad h.row k,λi a=>⟨(h.apart i a).1,(h.apart i a).2.1,nR (h.apart i a).2.2 k.size⟩⟩
def ML.round{f}{M g}(h:ML n o m f M w)(k:Ac M w v)(d:∀i∈g,(i∈M\/w.heap.size<=i)/\i<v.heap.size):ML n o m f g v:=by
 have j:=KV h.e;refine⟨I5 k h.e (λb=>(h.apart _ b).1 rfl),Ag h.row k (λq c b=>(h.apart q b).2.1 c),λi e=>⟨?_,?_,(d i e).2⟩⟩
 .rcases(d i e).1 with a|a
  .exact(h.apart i a).1
  .omega
 .rcases(d i e).1 with a|a
  .exact(h.apart i a).2.1
  .intro c;have:=(h.row.lt i c).2;omega
def Zj(d:j<n):(List.range n).reverse=(List.range n).reverse.take (n-(j+1))++j::(List.range n).reverse.drop (n-j):=by
 have b:n-(j+1)<Z (List.range n).reverse:=li
 have c:(List.range n).reverse[n-(j+1)]=j:=li
 have a:=ni (n-(j+1)) (List.range n).reverse;rw[mu b,c,show n-(j+1)+1=n-j by omega]at a;exact a.symm
def bC(c:j<n):(List.range n).reverse.take (n-(j+1))++[j]=(List.range n).reverse.take (n-j):=by
 have a:n-(j+1)<Z (List.range n).reverse:=li
 have b:(List.range n).reverse[n-(j+1)]=j:=li
 rw[show n-j=n-(j+1)+1 by omega,lW a,b]
def Kd{a:kN (Nat×Vn)}(h:kt w 0 176 4 (U o (Z a) m) (Z a) (qS Cl a))(j b):
  ∃g,o=V ⟨g,0,Y⟩/\jY w ⟨g,j*4,Y⟩=V (O a[j].2.f.f.a)/\jY w ⟨g,j*4+1,Y⟩=V a[j].2.f.tv/\jY w ⟨g,j*4+2,Y⟩=V (X .i64 a[j].1)/\jY w ⟨g,j*4+3,Y⟩=V a[j].2.n:=by
 obtain⟨g,q,l,_,d⟩:=Az h (λc _=>rfl) j b;simp only[lU]at l;have e:=d j b 0 lc;have i:=d j b 1 lc;have p:=d j b 2 lc;have k:=d j b 3 lc;exact⟨g,l.1,e,i,p,k⟩
theorem cW(r Ax AH a w x)(hB:ML r Ax AH a x w)(ES:Z a<=900000):K0 rF 182 #[jj (V ⟨r,0,Y⟩)] (jh a) (List.range (Z a)).reverse x w:=by
 intro l o Jx W A2 _ _ hJ EX hR AR;have z:=hB.grow A2;have u:=z.e;have R:=Ab z;have HJ:=Ab hJ;have HR:=Ab hR;have S:Hid (o ((List.range (Z a)).reverse.take (Z a-Z a)) x W):=by show o _ _ _;rw[Nat.sub_self,pk];exact AR
 have CW:Hid ((List.range (Z a)).reverse.take (Z a-0)=(List.range (Z a)).reverse):=by show _=_;rw[lY ln]
 clear hB z hJ hR AR A2;show rE rF 182 #[.func (.yield l) #[] #[],jj (V ⟨r,0,Y⟩)] W _;go_enter func182,ntmps182;go_wp2_with fail
 go_loopg [3] (Z a) (λgk i wr=>∃(j:Nat) (M:kN Nat),i=X .i64 ((j:Int)-1)/\j<=Z a/\gk=j/\Hid (ML r Ax AH a M wr)/\Hid (o ((List.range (Z a)).reverse.take (Z a-j)) M wr)/\Hid (W.heap.size<=wr.heap.size))
 case atStart=>exact⟨Z a,x,ly,lc,rfl,R,S,mt _⟩
 case round=>
  clear R S u;obtain⟨j,M,rfl,hj,T,m,p,C⟩:=hrel;have HG:=Ab T;clear T;by_cases I:0<j
  .obtain⟨k,rfl⟩:∃k,j=k+1:=⟨j-1,lc⟩;have L:((k+1:Nat):Int)-1=(k:Int):=lc;rw[L];have t:k<Z a:=lc;obtain⟨g,hg,y,E,A,F⟩:=Kd m.row k t;subst hg;have Df:Hid (jh a k=#[X .i64 k,.agg #[O a[k].2.f.f.a,a[k].2.f.tv,X .i64 a[k].1,a[k].2.n]]):=by
    show _=_;unfold jh aN;rw[mc t];rfl
   have b:=Ab (HR _ _ _ M wr (Zj t) p);rw[Aa Df]at b;have D:Hid ((List.range (Z a)).reverse.take (Z a-(k+1))++[k]=(List.range (Z a)).reverse.take (Z a-k)):=bC t;have u:=m.e;obtain⟨EY,B0⟩:=rI (lc:k<Z a);generalize a[k].2.f.f.a=X0 at y b;generalize a[k].2.f.tv=X1 at E b;generalize a[k].1=X2 at A b;generalize a[k].2.n=X3 at F b;clear Df L I;refine kI (λQ c=>?_);go_wp2;refine c _ _ ?_;clear c Q;refine kI (λK5 AT=>?_);refine wp_block ?_;refine kI (λQ c=>?_);refine Gz (n:=0) 6 lM (λK2 AB=>?_);simp only[oL,pk];go_wp2;refine AB _ _ ?_;clear AB K2;simp only[oW,pG];refine Iy (λ_=>trivial) rfl rfl (l:=l) (args:=#[X .i64 k,.agg #[O X0,X1,X .i64 X2,X3]]) lx sG b ?_;rintro e H (⟨rfl,s,d,B,N⟩|⟨rfl,s,d,-⟩)
   .refine⟨_,rfl,Dj lM ?_⟩;simp only[Act.put,lR,lS,lT];have CC:=Ab (m.round B N);(have G:Hid (o ((List.range (Z a)).reverse.take (Z a-k)) s H):=by rw[<-Aa D];exact d);have B2:Hid (W.heap.size<=H.heap.size):=mZ C B.size;clear d B N y E A F u b m p C D;go_wp2;refine c _ _ ?_;clear c;go_wp2;refine AT _ _ ?_;clear AT;go_wp2
    go_roundg k
    case measure=>exact qu
    case rel=>exact⟨k,s,ly,lc,rfl,CC,G,B2⟩
   .refine⟨_,rfl,Dj lM ?_⟩;simp only[Act.put,lR,lS,lT];have G:=Ab d;clear d y E A F u b m p C D;go_wp2;refine c _ _ ?_;clear c;go_wp2;refine mF (pI rfl _ _ _) rfl ?_;exact⟨⟨_,rfl⟩,Or.inr ⟨_,s,G⟩⟩
  ·have B9:j=0:=lc;subst B9;have CL:Hid (o (List.range (Z a)).reverse M wr):=by
    have h:=Aa p;rw[Aa CW]at h;exact h
   have B0:¬(0:Int)<=((0:Nat):Int)-1:=lc;clear p I;go_wp2;go_end0;exact⟨⟨_,rfl⟩,Or.inl ⟨M,CL⟩⟩
theorem UZ(c n b w):rE rF 145 #[U c n b] w λr d=>∃a,r=j1 (.func (.func 182) #[] #[jj (V ⟨a,0,Y⟩)])/\AF d a [U c n b] 137/\w.heap.size<=a/\Ac [] w d:=by
 have e:=Ab (kS w [U c n b] 137);go_enter func145,ntmps145;go_wp2;go_ret;exact⟨w.heap.size,rfl,e,mt _,(kR [] w).alloc _⟩
