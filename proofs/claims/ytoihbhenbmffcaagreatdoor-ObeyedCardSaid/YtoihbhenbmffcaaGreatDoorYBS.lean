import Derived.LoopIn
import Derived.Test.YtoihbhenbmffcaaGreatDoorYBQ
set_option linter.all false
set_option maxHeartbeats 0
open List renaming length->Z
open Option renaming none->Y,some->V
open Go.Value renaming slice->U,int->X,string->O,pointer->kt,ownBlock->lX
open Go.Obj renaming cells->j2
open Or renaming inl->lx,inr->ly
open Go renaming World->l9
open Go.RowKit renaming Hid->lO
open Go.World renaming ownsRow->lQ
namespace Go.Proofs.YtoihbhenbmffcaaGreatDoor
open Go.RowKit Go.Proofs.Tryz
structure ZQ(w w5:l9)(NB RB:Nat)(sts:mc (Nat×Ti))(T:mc Af)(A:mc EU)(Nd:mc Af)(M:mc Nat)(W:l9):Prop where
 kept:Ac [] w W
 each:∀p∈sts,Kg W p.2
 sub:∀f∈Nd,f∈T
 out:∃(nad:Option Addr) (ncp:Nat) (ns:mc EN) (rad:Option Addr) (rcp:Nat) (rs:mc (Nat×Ti)),
  AH W NB [U nad (Z ns) ncp] 115/\Iw W (U nad (Z ns) ncp) ns/\Dc ns Nd/\
  (∀q,(U nad (Z ns) ncp).ownBlock=V q->w.heap.size<=q/\∀p∈sts,p.2.n.ownBlock≠V q)/\
  AH W RB [U rad (Z rs) rcp] 137/\lQ W w5.heap.size 176 4 (U rad (Z rs) rcp) (Z rs) (rs.flatMap BV)/\
  rs.map (λp=>(p.1,p.2.f.f))=A.map (λh=>(h.1,BN h.2.head))/\(∀p∈rs,p∈sts)/\
  M=NB::RB::((U nad (Z ns) ncp).ownBlock.toList++(U rad (Z rs) rcp).ownBlock.toList)
def ZQ.own{w C:l9}{x z B:Nat}{l:mc (Nat×Ti)}{T:mc Af}{st:mc Nat->mc EU×mc Af}(A:w.heap.size<=B):OwnFrom B (fun(s:mc Nat×mc Nat) W=>ZQ w C x z l T (st s.1).1 (st s.1).2 s.2 W):=
 BF (λs W E M h k a=>by
  obtain⟨j,t,m,D,n,u,e,b,y,o,f,i,r⟩:=h.out
  refine⟨DX h.kept k a A,λp c=>(h.each p c).map (λq d=>Ai (v:=q.tv) d k (B4 (v:=q.tv) a d)) (λg=>Ai g k (B4 a g)),h.sub,j,t,m,D,n,u,e.kept k (Ct a e),⟨Ai b.row k (B4 a b.row),λp c=>⟨Ai (v:=p.tv) (b.each p c).1 k (B4 (v:=p.tv) a (b.each p c).1),(b.each p c).2⟩⟩,y,o,f.kept k (Ct a f),Ai i k (B4 a i),r⟩)
def ZQ.calm{w e:l9}{c b:Nat}{d:mc (Nat×Ti)}{T:mc Af}{A:mc EU}{a:mc Af}{M:mc Nat}{W f:l9}(h:ZQ w e c b d T A a M W)(k:Ac [] W f):ZQ w e c b d T A a M f:=
 BB (ZQ.own (st:=λ_=>(A,a)) (ig w.heap.size)) (s:=([],M)) h k
def ZQ.lt{w l:l9}{g j:Nat}{c:mc (Nat×Ti)}{T:mc Af}{A:mc EU}{f:mc Af}{M:mc Nat}{W:l9}(h:ZQ w l g j c T A f M W):∀k∈M,k<W.heap.size:=by
 obtain⟨m,r,n,v,o,s,d,b,u,p,e,i,q,t,rfl⟩:=h.out;intro k a;simp only[gP,ic,jP]at a;rcases a with rfl|rfl|a|a
 .exact d.lt
 .exact e.lt
 .exact(b.row.lt k a).2
 .exact(i.lt k a).2
structure R0(M:mc Nat)(W:l9)(M2:mc Nat)(wz:l9):Prop where
 kept:Ac M W wz
 mem:∀k∈M2,(k∈M\/W.heap.size<=k)/\k<wz.heap.size
def R0.step{M d f:mc Nat}{W c w':l9}(h:R0 M W d c)(k:Ac d c w')(e:∀q∈f,(q∈d\/c.heap.size<=q)/\q<w'.heap.size):R0 M W f w':=by
 refine⟨h.kept.trans' k (λq a=>(h.mem q a).1),λq a=>⟨?_,(e q a).2⟩⟩;rcases(e q a).1 with b|b
 .exact(h.mem q b).1
 .exact ly (iQ h.kept.size b)
def bV{R:mc EU}{j:Nat}(b:j<Z R)(a:mc EU×mc Af):(R.take (j+1)).foldl Gp a=Gp ((R.take j).foldl Gp a) R[j]:=by
 rw[gQ b,jo];rfl
def PA:∀(R:mc EU) (a:mc EU×mc Af),Z (R.foldl Gp a).1<=Z a.1+Z R
 |[],a=>by simp
 |h::R,a=>by
  rw[iA];have b:=PA R (Gp a h);have c:Z (Gp a h).1<=Z a.1+1:=by
   unfold Gp;split
   .simp
   .omega
  rw[gW];omega
def dH{n:Nat}{pre b:mc Nat}{x:Nat}(h:(List.range n).reverse=pre++x::b):Z pre<n/\x=n-1-Z pre:=by
 have c:=congrArg List.length h;simp at c;have a:=congrArg (λl=>l[Z pre]?) h;simp only[j9 (ig _),Nat.sub_self,List.getElem?_cons_zero]at a;have d:Z pre<n:=by omega
 rw[List.getElem?_reverse (by simp;omega),List.length_range,List.getElem?_range (by omega)]at a;exact⟨d,by have:=kJ a;omega⟩
set_option maxRecDepth 100000
theorem ck(lad:Option Addr)(lcp:Nat)(pcs:mc Db)(rcs:mc A6)(F:Af)(fp:EN)(w:l9)(hP:C9 w (U lad (Z pcs) lcp) pcs)(hB:LW pcs rcs)(hf:fp.f=BN F)(hc:AJ F)(hpf:DS w fp)(hfl:Z fp.f.zC<=1000):
  Calls prog 98 #[U lad (Z pcs) lcp,.agg (AW fp).toArray] w λr w'=>∃(ad:Option Addr) (cp:Nat) (sts:mc (Nat×Ti)) (s:mc Af) (hs:mc EU) (L:zA->Nat) (N:Nat),r=.returned (U ad (Z sts) cp)/\lQ w' 0 176 4 (U ad (Z sts) cp) (Z sts) (sts.flatMap BV)/\(∀p∈sts,DS w' p.2.f/\Z p.2.f.f.zC<=1000/\∃a n c,p.2.n=U a n c)/\sts.map (λp=>(p.1,p.2.f.f))=(Hz hs F).map (λh=>(h.1,BN h.2.head))/\Xm rcs hs s/\Cn rcs L/\Il rcs L N s/\(∀c∈rcs,L c.head.name<N)/\Ac [] w w':=by
 obtain⟨i0,hi0,hz0,hz1,hz2⟩:=iR Tryz.zq;obtain⟨⟨fn,fts⟩,ftv⟩:=fp;obtain⟨fad,fcp,e⟩:=Al hpf;simp only at e hf hfl;subst e;simp only[AW];obtain⟨N,hN⟩:∃N,w.heap.size=N:=⟨_,rfl⟩;have HN:=Ab hN;have HK2:=Ab (((me [] w).alloc (j2 [O fn,U fad (Z fts) fcp].toArray 104)).alloc (j2 [U Y 0 0].toArray 115));have HBx:=Ab ((mf w [O fn,U fad (Z fts) fcp] 104).alloc (j2 [U Y 0 0].toArray 115));have HBn:=Ab (mf (w.alloc (j2 [O fn,U fad (Z fts) fcp].toArray 104)) [U Y 0 0] 115);rw[iz]at HBn;have HPf:=Ab hpf;have HF:=Ab hf;have HC:=Ab hc;have HFL:lO (Z fts<=1000):=hfl;have HPr:=Ab hP;have HBo:=Ab hB;obtain⟨QQ,hQQ⟩:∃QQ,JD (bodyPostM Fence.wide 0 prog Tryz.f98 λr w'=>∃(ad:Option Addr) (cp:Nat) (sts:mc (Nat×Ti)) (s:mc Af) (hs:mc EU) (L:zA->Nat) (N:Nat),r=.returned (U ad (Z sts) cp)/\lQ w' 0 176 4 (U ad (Z sts) cp) (Z sts) (sts.flatMap BV)/\(∀p∈sts,DS w' p.2.f/\Z p.2.f.f.zC<=1000/\∃a n c,p.2.n=U a n c)/\sts.map (λp=>(p.1,p.2.f.f))=(Hz hs F).map (λh=>(h.1,BN h.2.head))/\Xm rcs hs s/\Cn rcs L/\Il rcs L N s/\(∀c∈rcs,L c.head.name<N)/\Ac [] w w')=QQ:=⟨_,rfl⟩;have HQQ:=Ab hQQ;clear hpf hf hc hP hB hN hfl;refine Ec func98 rfl (FV ?_);rw[hQQ];clear hQQ;simp only[ntmps98,i7,gW,iv,Nat.reduceAdd,Nat.reduceSub,jZ,j4,kx,ke,i6,js];refine ma (λKK HKK=>?_);go_wp2;refine HKK _ _ ?_;clear HKK KK;refine ma (λKK HKK=>?_);go_wp2;refine HKK _ _ ?_;clear HKK KK;change Code.wp _ _ _ _ ((w.alloc (j2 [O fn,U fad (Z fts) fcp].toArray 104)).alloc (j2 [U Y 0 0].toArray 115));generalize(w.alloc (j2 [O fn,U fad (Z fts) fcp].toArray 104)).alloc (j2 [U Y 0 0].toArray 115)=w2 at HK2 HBx HBn⊢;rw[Aa HN]at HBx HBn⊢;have HAd:=Ab (Qy (N+1) 0 [U Y 0 0] 115 Y 0 [] ⟨⟨fn,fts⟩,U fad (Z fts) fcp⟩ w2 HBn rfl (by decide) (by decide) ⟨ip _ _ _ _,λp hp=>by simp at hp⟩ (HPf.kept HK2) HFL (by simp) (λi j hi=>by simp at hi));simp only[AW]at HAd;have b0:=HBx.cell 0;have b1:=HBx.cell 1;simp at b0 b1;refine ma (λKK HKK=>?_);go_wp2_with fail
 refine HAd.mono ?_;rintro _ w3 ⟨rfl,hA⟩;obtain⟨p0,nad0,ncp0,hcut0,hnb0,hps0,how0⟩:=hA.out;have hadd:LA [] ⟨⟨fn,fts⟩,U fad (Z fts) fcp⟩ p0=[⟨⟨fn,fts⟩,U fad (Z fts) fcp⟩]:=by
  unfold LA Ev;simp
 rw[hadd]at hnb0 hps0 how0;have hk3:Ac [] w w3:=HK2.trans' hA.kept (λq hq=>ly (by
  have:=Aa HN
  simp[lX]at hq
  omega))
 simp only[gJ]at hnb0;have HKw3:=Ab hk3;have HNb3:=Ab hnb0;have HPs3:=Ab hps0;have HOw3:lO (∀q,(U nad0 1 ncp0).ownBlock=V q->w.heap.size<=q/\q<w3.heap.size):=λq hq=>by
  rcases how0 q hq with h|h
  .simp[lX]at h
  .exact⟨iQ HK2.size h,(hps0.row.lt q hq).2⟩
 have HSe3:lO (Dc [⟨⟨fn,fts⟩,U fad (Z fts) fcp⟩] [F]):=⟨by simp only[ii,jM];rw[Aa HF],List.pairwise_singleton _ _,λf hf=>by simp at hf;rw[hf];exact HC⟩;clear HAd hA hcut0 hnb0 hps0 how0 hadd hk3 b0 b1 HBx HBn;go_wp2;refine HKK _ _ ?_;clear HKK KK;have HK4:=Ab ((me [] w3).alloc (j2 [U Y 0 0].toArray 137));have HR4:=Ab (mf w3 [U Y 0 0] 137);refine ma (λKK HKK=>?_);go_wp2;refine HKK _ _ ?_;clear HKK KK;change Code.wp _ _ _ _ (w3.alloc (j2 [U Y 0 0].toArray 137));generalize w3.alloc (j2 [U Y 0 0].toArray 137)=w4 at HK4 HR4⊢;obtain⟨RB,hRB⟩:∃RB,w3.heap.size=RB:=⟨_,rfl⟩;have HRB:=Ab hRB;rw[hRB]at HR4⊢;clear hRB;have HGo:=Ab (KY lad lcp pcs rcs w4 (HPr.kept (HKw3.trans HK4)) HBo);refine ma (λKK HKK=>?_);refine ma (λK5 HK5=>?_);go_wp2_with fail
 refine HGo.mono ?_;rintro _ w6 ⟨cb,s,hs,L,NN,rfl,hCo,hRe,hLv,hIn,hTop⟩;obtain⟨sad,scp,fs,tad,tcp,sts,hcb,-,-,hrow,-,-,hsti⟩:=hCo.out;have hsl:Z s=Z sts:=by
  have h1:=hrow.1;rw[XP]at h1;omega
 rw[hsl]at hcb hrow;have c2:=hcb.cell 2;simp at c2;have hway:=HBo.zh hIn;have HBk:=Ab (SU tad (Z sts) tcp w6);clear HGo;go_wp2_with fail
 refine HBk.mono ?_;rintro _ w5 ⟨b1,rfl,hb1,hb1l,k5⟩;have hk46:=hCo.kept;have HSti:lO (Wc w5 w4.heap.size (U sad (Z fs) scp) hs sts):=hsti.kept k5;have HRow:=Ab (Ad hrow k5 (by simp));have HB1:=Ab hb1;have HK45:lO (Ac [] w4 w5):=hk46.trans k5;have HW6:lO (w4.heap.size<=w6.heap.size):=hk46.size;have HPl:lO (Xm rcs hs s/\Cn rcs L/\Il rcs L NN s/\(∀c∈rcs,L c.head.name<NN)):=⟨hRe,hLv,hIn,hTop⟩;have HWay:=Ab hway;have HSl:=Ab hsl;clear hCo hRe hLv hIn hTop hcb hrow hsti hsl c2 hway HBk hb1 k5 hk46;go_wp2;refine HK5 _ _ ?_;clear HK5 K5;refine wp_block ?_;have HWs:lO (RB<w4.heap.size/\N+1<RB/\w4.heap.size<=w5.heap.size/\w4.heap.size<=b1/\w.heap.size<=N):=by
  have h1:=HR4.lt;have h2:=HNb3.lt;have h3:=Aa HRB;have h4:=HK45.size;have h5:=Aa HW6;have h6:=Aa HN;exact⟨h1,by omega,h4,by omega,by omega⟩
 have HKw5:lO (Ac [] w w5):=(HKw3.trans HK4).trans HK45;have HK35:lO (Ac [] w3 w5):=HK4.trans HK45;have HFo:lO (∀x,x<Z sts->∃A0 pa pn pc A2 qa qn qc,X8 sts x=[O A0,U pa pn pc,X .i64 (A2:Nat),U qa qn qc]):=by
  intro x hx;have h:=(HSti.each sts[x] (gL hx)).1;obtain⟨pa,pc,e1⟩:=Al h.pf;obtain⟨qa,qc,e2⟩:=h.sl;refine⟨sts[x].2.f.f.name,pa,sts[x].2.f.f.zC.length,pc,sts[x].1,qa,sts[x].2.ns.length,qc,?_⟩;unfold X8;rw[gS hx];show[_,sts[x].2.f.tv,_,sts[x].2.n]=_;rw[e1,e2]
 have zn:=Zo b1 tad tcp sts w5 ((N+1)::RB::((U nad0 1 ncp0).ownBlock.toList++(U Y 0 0).ownBlock.toList)) ⟨by have h:=HB1.cell 0;simpa using h,Am HRow (ik _),λk hk=>by
  have hw:=Aa HWs
  have hkl:k<w4.heap.size:=by
   simp only[gP,ic,jP]at hk
   rcases hk with rfl|rfl|hk|hk
   .omega
   .omega
   .have h1:=(HOw3 k hk).2
    have h2:=HK4.size
    omega
   .simp[lX]at hk
  exact⟨by omega,λh=>by have:=(HRow.lt k h).1;omega,by omega⟩⟩ (by have:=HWay.2.2;have:=Aa HSl;omega)
 have HI0:lO (ZQ w w5 (N+1) RB sts (F::s) [] [F] ((N+1)::RB::((U nad0 1 ncp0).ownBlock.toList++(U Y 0 0).ownBlock.toList)) w5):=by
  refine⟨HKw5,λp hp=>(HSti.each p hp).1,λf hf=>by simp at hf;simp[hf],nad0,ncp0,_,Y,0,[],HNb3.kept HK35 (by simp),HPs3.kept HK35,HSe3,λq hq=>⟨(HOw3 q hq).1,λp hp he=>?_⟩,HR4.kept HK45 (by simp),ip _ _ _ _,rfl,λp hp=>by simp at hp,rfl⟩;have h1:=((HSti.each p hp).2 q he).1;have h2:=(HOw3 q hq).2;have h3:=HK4.size;omega
 have hM0:=HI0.lt;have hw5:w.heap.size<=w5.heap.size:=HKw5.size;refine SI (encs:=dL sts) rfl (enters_of func182 (by kernel_rfl) rfl) zn (λ_=>rfl) hM0 (λpre M W=>ZQ w w5 (N+1) RB sts (F::s) ((hs.reverse.take (Z pre)).foldl Gp ([],[F])).1 ((hs.reverse.take (Z pre)).foldl Gp ([],[F])).2 M W) (λ_ _ _ _=>False) (ZQ.own (st:=λpre=>(hs.reverse.take (Z pre)).foldl Gp ([],[F])) hw5) (λ_ _ _ _ _ h _ _=>h) HI0
  (λn0 x a' W=>AH W n0 (X8 sts x) 176/\a'=⟨#[U lad (Z pcs) lcp,.agg #[O fn,U fad (Z fts) fcp],undef,kt (V ⟨N,0,Y⟩),U Y 0 0,kt (V ⟨N+1,0,Y⟩),kt (V ⟨RB,0,Y⟩),undef,kt (V ⟨n0,0,Y⟩),undef,undef,.agg #[O fn,U fad (Z fts) fcp],.tuple #[],U lad (Z pcs) lcp,kt (V ⟨cb,0,Y⟩),kt (V ⟨cb,0,Y⟩),kt (V ⟨cb,2,Y⟩),U tad (Z sts) tcp,.func (.func 182) #[] #[kt (V ⟨b1,0,Y⟩)],X .i64 x,.agg (X8 sts x).toArray,undef,undef,undef,undef,undef,undef,undef,undef,undef,undef,undef,undef,undef,undef,undef,undef,undef,undef,undef,undef,undef],[]⟩)
  (λn0 x a'=>BF (λ_ W W' M h k hM=>⟨h.1.kept k (Ct hM h.1),h.2⟩)) ?rassign ?rbody ?rdone ?rstop
 case rassign=>
  intro l x W' K hx _ HK;have HKK2:lO (∀a' W'',Ac [] W' W''->_->K a' W''):=HK;have hx':x<Z sts:=by
   rw[List.mem_reverse,k0]at hx;exact hx
  obtain⟨A0,pa,pn,pc,A2,qa,qn,qc,hst⟩:=HFo x hx';unfold dL;rw[hst]at HKK2⊢;have HBz:=Ab (mf W' [O ⟨#[]⟩,U Y 0 0,X .i64 0,U Y 0 0] 176);have z0:=HBz.cell 0;have z1:=HBz.cell 1;have z2:=HBz.cell 2;have z3:=HBz.cell 3;have y0:=HBz.frozen 0;have y1:=HBz.frozen 1;have y2:=HBz.frozen 2;have y3:=HBz.frozen 3;simp at z0 z1 z2 z3;clear HK hst zn;refine AG (by rfl) (Hc F0) ?_;go_wp2;exact HKK2 _ _ ((me [] W').alloc _) ⟨mf W' [O A0,U pa pn pc,X .i64 (A2:Nat),U qa qn qc] 176,rfl⟩
 case rbody=>
  intro l n0 pre x rest M a' W hxs hi hM hn0 hn1 hax;obtain⟨hbx,rfl⟩:=hax;obtain⟨hpl,hxe⟩:=dH hxs;have hhl:Z hs=Z sts:=by have h:=congrArg List.length HSti.eq;simpa using h.symm
  have hx:x<Z sts:=by omega
  have hxh:x<Z hs:=by omega
  have hrx:hs.reverse[Z pre]'(by simp;omega)=hs[x]:=by
   rw[List.getElem_reverse]
   congr 1
   omega
  have hnext:(hs.reverse.take (Z (pre++[x]))).foldl Gp ([],[F])=Gp ((hs.reverse.take (Z pre)).foldl Gp ([],[F])) hs[x]:=by
   rw[ib,List.length_singleton,bV (by simp;omega),hrx]
  obtain⟨⟨A,Nd⟩,hAN⟩:∃a,(hs.reverse.take (Z pre)).foldl Gp ([],[F])=a:=⟨_,rfl⟩;rw[hAN]at hnext hi;simp only at hi;obtain⟨H,hH⟩:∃H,hs[x]=H:=⟨_,rfl⟩;rw[hH]at hnext;have hHm:H∈hs:=by rw[<-hH];exact gL hxh
  have hHs:H.2.head∈s:=(HPl.1.mem _).2 (gX.2 ⟨H,hHm,rfl⟩);have hHp:∀g∈H.2.pos,g∈s:=by
   obtain⟨_,_,_,_,h4,_⟩:=HPl.1.each x hxh;rw[hH]at h4;intro g hg;obtain⟨y,hy,e⟩:=gX.1 (h4 g hg);exact(HPl.1.mem g).2 (gX.2 ⟨y,jr hy,e⟩)
  have HPl3:lO (Z H.2.pos<=1000):=by
   obtain⟨h1,σ,_,h3,_,_⟩:=HPl.1.each x hxh;simp only[hH]at h1 h3;have h5:=(HBo.pass.order.small.2 _ (gL h1)).1;show Z H.2.pos<=1000;rw[h3];show Z (((Ak _).filter _).map _)<=1000;rw[ie];have h6:=jn (λx:Bi=>x.kind==97) (Ak rcs[H.1]);(have h7:Z (Ak rcs[H.1])=rcs[H.1].bl.length:=by unfold Ak;rw[ie]);omega
  have hst:=congrArg (λl=>l[x]?) HSti.eq;simp only[jf,gS hx,gS hxh,jC,gT,hH,iE]at hst;obtain⟨hs1,hs2,hs3⟩:=hst;have hmem:sts[x]∈sts:=gL hx;have hsA:X8 sts x=BV sts[x]:=by unfold X8;rw[gS hx];rfl
  rw[hsA]at hbx;simp only[hsA];obtain⟨⟨num,⟨⟨fnm,fth⟩,ftv⟩,nv,nps⟩,hsx⟩:∃p,sts[x]=p:=⟨_,rfl⟩;rw[hsx]at hs1 hs2 hs3 hmem hbx;simp only[hsx];simp only at hs1 hs2 hs3;obtain⟨pa,pc,e1⟩:=Al (hi.each _ hmem).pf;obtain⟨qa,qc,e2⟩:=(hi.each _ hmem).sl;simp only at e1 e2;subst e1 e2;subst hs1;have HPost:lO (∀A' Nd' M2 wz,Gp (A,Nd) H=(A',Nd')->ZQ w w5 (N+1) RB sts (F::s) A' Nd' M2 wz->R0 M W M2 wz->LI (λpre M W=>ZQ w w5 (N+1) RB sts (F::s) ((hs.reverse.take (Z pre)).foldl Gp ([],[F])).1 ((hs.reverse.take (Z pre)).foldl Gp ([],[F])).2 M W) (λ_ _ _ _=>False) (pre++[x]) M W .normal ⟨#[],[]⟩ wz):=by
   intro A' Nd' M2 wz he hW hO;refine⟨hO.kept,M2,?_,hO.mem⟩;show ZQ w w5 (N+1) RB sts (F::s) ((hs.reverse.take (Z (pre++[x]))).foldl Gp ([],[F])).1 ((hs.reverse.take (Z (pre++[x]))).foldl Gp ([],[F])).2 M2 wz;rw[hnext,he];exact hW
  have HMn:=Ab hM;have HAl:lO (Z A<=7000):=by
   have h1:=PA (hs.reverse.take (Z pre)) ([],[F]);rw[hAN,iH]at h1;have h2:=HWay.2.2;have h3:=Aa HSl;simp only[iv]at h1;show Z A<=7000;omega
  have HNl:lO (∀(ns:mc EN) (Nd':mc Af),Dc ns Nd'->(∀f∈Nd',f∈F::s)->Z ns<=7000):=by
   intro ns Nd' h1 h2;have h3:=Ju Nd' (F::s) (h1.zL.nodup h1.canon) h2;have h4:=h1.len;have h5:=HWay.2.2;simp only[gW]at h3;omega
  have HCh:lO (AJ H.2.head):=HWay.2.1 _ hHs;have HCp:lO (∀g∈H.2.pos,AJ g/\g∈F::s):=λg hg=>⟨HWay.2.1 _ (hHp g hg),iB _ (hHp g hg)⟩
  have HHd:lO ((⟨fnm,fth⟩:CG)=BN H.2.head):=hs2;have HNs:lO (nps.map EN.f=H.2.pos.map BN):=hs3;have HMem:=Ab hmem;have HS0:=Ab hi;have HBx:=Ab hbx;have HOt:lO (R0 M W M W):=⟨me _ _,λk hk=>⟨lx hk,hi.lt k hk⟩⟩;have HHas:lO (∀wz,ZQ w w5 (N+1) RB sts (F::s) A Nd M wz->Calls prog 60 #[kt (V ⟨N+1,0,Y⟩),.agg #[O fnm,U pa (Z fth) pc]] wz λr w'=>r=.returned (.bool (D9 Nd H.2.head))/\Ac [] wz w'):=by
   intro wz hz;obtain⟨nad,ncp,ns,rad,rcp,rs,g1,g2,g3,_⟩:=hz.out;have hc0:=g1.cell 0;simp at hc0;have hin:=(hz.each _ HMem);refine(Ng (N+1) 0 nad ncp ns ⟨⟨fnm,fth⟩,U pa (Z fth) pc⟩ wz hc0 g2 hin.pf hin.len (by have:=Aa HNl ns Nd g3 hz.sub;omega) (g3.mono _)).mono ?_;rintro e w' ⟨p,rfl,hcut,k⟩;simp only at hcut⊢;rw[Aa HHd]at hcut⊢;exact⟨by rw[g3.zn (Aa HCh) hcut],k⟩
  clear hi hbx hmem hsx hsA hs2 hs3 hHp hHs hHm hH hAN hnext hrx hhl hxs hM zn hpl hxe hx hxh HFo;have e0:=HBx.cell 0;have e1:=HBx.cell 1;simp[BV,JV]at e0 e1;simp only[BV,JV]at HBx⊢;refine wpIn_block ?_;refine jd (λK8 hK8=>?_);have HK8:=Ab hK8;clear hK8;refine jd (λK7 hK7=>?_);have HK7:=Ab hK7;clear hK7;refine AG (by rfl) (by rintro ⟨_,_,h⟩;exact h) ?_;go_wp2_with fail
  refine(HHas W HS0).mono ?_;rintro _ w7 ⟨rfl,k7⟩;have HK7a:=Ab k7;clear HHas k7 e0 e1;go_wp2;refine HK7 _ _ ?_;clear HK7 K7;have HS7:=Ab (HS0.calm HK7a);have HO7:lO (R0 M W M w7):=HOt.step (HK7a.mono (by simp)) (λq hq=>⟨lx hq,jw (HS0.lt q hq) HK7a.size⟩);have HBx7:=Ab (HBx.kept HK7a (by simp));clear HS0 HOt HBx HK7a;cases hhf:D9 Nd H.2.head with
  |false=>
   refine ku rfl (wpIn_exit ?_);exact HPost A Nd M _ (by unfold Gp;rw[gV (by rw[hhf];simp)]) HS7 HO7
  |true=>
   refine ki rfl (wpIn_skip ?_);refine HK8 _ _ ?_;clear HK8 K8;(have HPo2:lO (∀M2 wz,ZQ w w5 (N+1) RB sts (F::s) (A++[H]) (H.2.pos.foldl A9 Nd) M2 wz->R0 M W M2 wz->LI (λpre M W=>ZQ w w5 (N+1) RB sts (F::s) ((hs.reverse.take (Z pre)).foldl Gp ([],[F])).1 ((hs.reverse.take (Z pre)).foldl Gp ([],[F])).2 M W) (λ_ _ _ _=>False) (pre++[x]) M W .normal ⟨#[],[]⟩ wz):=λM2 wz=>HPost _ _ M2 wz (by unfold Gp;rw[gY hhf]));clear HPost hhf;obtain⟨nad,ncp,ns,rad,rcp,rs,g1,g2,g3,g4,g5,g6,g7,g8,hMe⟩:=(Aa HS7).out;have hrl:Z rs<=7000:=by
    have h:=congrArg List.length g7;rw[ie,ie]at h;have:=Aa HAl;omega
   have d0:=HBx7.cell 0;have d1:=HBx7.cell 1;have d2:=HBx7.cell 2;have d3:=(Aa HBx7).cell 3;have r0:=g5.cell 0;simp at d0 d1 d2 d3 r0;(have hw57:w5.heap.size<=w7.heap.size:=by have:=HO7.kept.size;omega);have HG1:=Ab g1;have HG2:=Ab g2;have HG3:=Ab g3;have HG4:=Ab g4;have HG5:=Ab g5;have HG6:=Ab g6;have HG7:=Ab g7;have HG8:=Ab g8;have HMe:=Ab hMe;clear g1 g2 g3 g4 g5 g7 g8 hMe;refine jd (λK8 hK8=>?_);have HK8:=Ab hK8;clear hK8;refine AG (by rfl) (by rintro ⟨_,_,h⟩;exact h) ?_;go_wp2_with (at_builtin;refine io _ rfl (.tmp 25) (.tmp 27) _ rfl w5.heap.size 176 i0 _ 4 72 underlying137 hi0 hz0 hz1 hz2 rfl (by omega) (U rad (Z rs) rcp) (Z rs) (rs.flatMap BV) rfl (gU g6 _) ⟨w7.heap.size,0,Y⟩ 1 1 [O fnm,U pa (Z fth) pc,X .i64 H.1,U qa (Z nps) qc] rfl rfl (iu (cs:=#[O fnm,U pa (Z fth) pc,X .i64 H.1,U qa (Z nps) qc]) (t:=176) (fr:=(0,0)) (iD w7 _)) (by simp[Value.oneCell']) (by omega) (by unfold maxLen;omega) (by omega) (by simp;omega) (w7.heap.size+1) (by simp) ?_;intro gg cp1 w9 ho1 hg1 ha1 hl1;have hR9:=(HG5.alloc (j2 #[O fnm,U pa (Z fth) pc,X .i64 H.1,U qa (Z nps) qc] 176)).grown hg1 (Ar g6 HG5 (by decide));have c9:=hR9.cell 0;have f9:=hR9.frozen 0;simp at c9)
   have hM7:=Aa HMe;have kM:Ac M w7 (w9.setCell ⟨RB,0,Y⟩ (U (V ⟨gg,0,Y⟩) (Z rs+1) cp1)):=(((me M w7).alloc (j2 #[O fnm,U pa (Z fth) pc,X .i64 H.1,U qa (Z nps) qc] 176)).grown hg1 (λq hq=>lx (by rw[hM7];simp[hq]))).setCell (p:=⟨RB,0,Y⟩) (lx (by rw[hM7];simp)) _;have hge:∀q∈M,w.heap.size<=q:=by
    intro q hq;have hw:=Aa HWs;rw[hM7]at hq;simp only[gP,ic,jP]at hq;rcases hq with rfl|rfl|hq|hq
    .omega
    .omega
    .exact(HG4 q hq).1
    .have:=(g6.lt q hq).1;omega
   have hrw:∀{b e sz n:Nat} {v:Value} {ys:mc Value},lQ w7 b e sz v n ys->e≠176->e≠137->lQ (w9.setCell ⟨RB,0,Y⟩ (U (V ⟨gg,0,Y⟩) (Z rs+1) cp1)) b e sz v n ys:=fun{b e sz n v ys} hr h1 h2=>by
    have hr3:=je (v:=v) (gU (v:=v) hr _) hg1 (by
     cases hpo:v.ownBlock with
     |none=>exact lx rfl
     |some q=>exact ly (λe=>A7 hr g6 h1 q hpo e.symm))
    exact Ag hr3 (Ar hr3 hR9 h2) _
   have HS10:lO (ZQ w w5 (N+1) RB sts (F::s) (A++[H]) Nd ((N+1)::RB::((U nad (Z ns) ncp).ownBlock.toList++[gg])) (w9.setCell ⟨RB,0,Y⟩ (U (V ⟨gg,0,Y⟩) (Z rs+1) cp1))):=by
    (have hne:N+1≠RB:=by have:=Aa HWs;omega);refine⟨HS7.kept.trans' kM (λq hq=>ly (hge q hq)),λp hp=>(HS7.each p hp).map (λq hq=>hrw (v:=q.tv) hq (by decide) (by decide)) (λhr=>hrw hr (by decide) (by decide)),HS7.sub,nad,ncp,ns,V ⟨gg,0,Y⟩,cp1,rs++[(H.1,⟨⟨⟨fnm,fth⟩,U pa (Z fth) pc⟩,U qa (Z nps) qc,nps⟩)],?_,⟨hrw HG2.row (by decide) (by decide),λp hp=>⟨hrw (v:=p.tv) (HG2.each p hp).1 (by decide) (by decide),(HG2.each p hp).2⟩⟩,HG3,HG4,?_,?_,?_,?_,rfl⟩
    .have h:=(HG1.alloc (j2 #[O fnm,U pa (Z fth) pc,X .i64 H.1,U qa (Z nps) qc] 176)).grown hg1 (Ar g6 HG1 (by decide));exact h.zB ⟨RB,0,Y⟩ (Ne.symm hne) _
    .rw[ib];exact hR9.set 0 _
    .rw[ib,ix];exact Ag ho1 (Ar ho1 hR9 (by decide)) _
    .rw[iG,iG,Aa HG7];simp only[ii,jM];rw[Aa HHd]
    .intro p hp;rcases ic.1 hp with h|h
     .exact HG8 p h
     .simp only[gN]at h;rw[h];exact HMem
   have HO10:lO (R0 M W ((N+1)::RB::((U nad (Z ns) ncp).ownBlock.toList++[gg])) (w9.setCell ⟨RB,0,Y⟩ (U (V ⟨gg,0,Y⟩) (Z rs+1) cp1))):=by
    refine HO7.step kM (λq hq=>⟨?_,HS10.lt q hq⟩);simp only[gP,ic,gN,iU,or_false,jP]at hq;rcases hq with rfl|rfl|hq|rfl
    .exact lx (by rw[hM7];simp)
    .exact lx (by rw[hM7];simp)
    .exact lx (by rw[hM7];simp[hq])
    .rcases ha1 with h|h
     .exact lx (by rw[hM7];simp[h])
     .exact ly (by omega)
   have HBx10:=Ab (HBx7.kept kM (λhm=>by have:=Aa HMn n0 hm;omega));have HSc:lO (∃A1 Nd0 M1,A1=A++[H]/\Nd0=Nd/\ZQ w w5 (N+1) RB sts (F::s) A1 Nd0 M1 (w9.setCell ⟨RB,0,Y⟩ (U (V ⟨gg,0,Y⟩) (Z rs+1) cp1))/\R0 M W M1 (w9.setCell ⟨RB,0,Y⟩ (U (V ⟨gg,0,Y⟩) (Z rs+1) cp1))):=⟨_,_,_,rfl,rfl,HS10,HO10⟩;go_wp2;refine HK8 _ _ ?_;clear HK8 K8;generalize w9.setCell ⟨RB,0,Y⟩ (U (V ⟨gg,0,Y⟩) (Z rs+1) cp1)=w10 at HS10 HO10 HBx10⊢;generalize(N+1)::RB::((U nad (Z ns) ncp).ownBlock.toList++[gg])=M1 at HS10 HO10;clear HSc hrw hge kM hM7 hR9 c9 f9 ho1 hg1 ha1 hl1 g6 HG1 HG2 HG3 HG4 HG5 HG6 HG7 HG8 HMe d0 d1 d2 d3 r0 hrl hw57 HS7 HO7 HBx7;have d3:=HBx10.cell 3;simp at d3;(have HPln:lO (Z nps=Z H.2.pos):=by show _=_;have h:=congrArg List.length HNs;simpa using h);have HS00:lO (ZQ w w5 (N+1) RB sts (F::s) (A++[H]) ((H.2.pos.take 0).foldl A9 Nd) M1 w10):=HS10;refine jd (λK4 hK4=>?_);have HK4:=Ab hK4;clear hK4;refine AG (by rfl) (by rintro ⟨_,_,h⟩;exact h) ?_;go_wp2;refine HK4 _ _ ?_;clear HK4 K4 d3;refine wpIn_block ?_
   gi_loopw [32] (λi wz=>∃(j:Nat) (M2:mc Nat),i=X .i64 j/\j<=Z nps/\lO (ZQ w w5 (N+1) RB sts (F::s) (A++[H]) ((H.2.pos.take j).foldl A9 Nd) M2 wz)/\lO (R0 M W M2 wz)) (λi _=>Z nps-(intOf i).toNat)
   case atStart=>exact⟨0,M1,rfl,ik _,HS00,HO10⟩
   case round=>
    clear HS00 HO10 HS10 HBx10;obtain⟨j,M2,rfl,hj,HS,HO⟩:=hrel;by_cases hlj:j<Z nps
    .obtain⟨g,cap,n1,ts1,ad1,cp1,he,hnj,q0,q1⟩:=ID (HS.each _ HMem).nds j hlj;simp only[gM]at he;obtain⟨rfl,-,rfl⟩:=he;(have hjp:j<Z H.2.pos:=by have:=Aa HPln;omega);have hnx:(H.2.pos.take (j+1)).foldl A9 Nd=A9 ((H.2.pos.take j).foldl A9 Nd) H.2.pos[j]:=by
      rw[gQ hjp,jo];rfl
     have hfj:nps[j].f=BN H.2.pos[j]:=by
      have h:=congrArg (λl=>l[j]?) HNs;simp only[jf,gS hlj,gS hjp,jC,gT]at h;exact h
     have hgc:=Aa HCp H.2.pos[j] (gL hjp);have hpj:=(HS.each _ HMem).nds.each nps[j] (gL hlj);obtain⟨G,hG⟩:∃G,H.2.pos[j]=G:=⟨_,rfl⟩;rw[hG]at hnx hfj hgc;rw[hnj]at hfj hpj;obtain⟨Nj,hNj⟩:∃Nj,(H.2.pos.take j).foldl A9 Nd=Nj:=⟨_,rfl⟩;rw[hNj]at hnx HS;have HNx:=Ab hnx;have HGc:=Ab hgc;have HFj:=Ab hfj;have HPj:=Ab hpj;(have hr0:(0:Int)<=(j:Int):=by omega);(have hr1:(j:Int)<(Z nps:Int):=by omega);(have hjb:j<1000:=by have:=Aa HPln;have:=Aa HPl3;omega);have HSa:=Ab (HS.calm ((me [] wr).alloc (j2 [O n1,U ad1 (Z ts1) cp1].toArray 104)));have HOa:lO (R0 M W M2 (wr.alloc (j2 [O n1,U ad1 (Z ts1) cp1].toArray 104))):=HO.step (((me [] wr).alloc _).mono (by simp)) (λq hq=>⟨lx hq,HSa.lt q hq⟩);have HBa:=Ab (mf wr [O n1,U ad1 (Z ts1) cp1] 104);have HPja:=Ab (HPj.1.kept ((me [] wr).alloc (j2 [O n1,U ad1 (Z ts1) cp1].toArray 104)));clear hnx hgc hfj hpj hG hNj hnj hjp;refine jd (λK4 hK4=>?_);have HK4:=Ab hK4;clear hK4;refine AG (by rfl) (by rintro ⟨_,_,h⟩;exact h) ?_;go_wp2;refine HK4 _ _ ?_;clear HK4 K4;refine jd (λK4 hK4=>?_);have HK4:=Ab hK4;clear hK4;refine ku rfl (wpIn_skip ?_);refine HK4 _ _ ?_;clear HK4 K4;refine jd (λK6 hK6=>?_);have HK6:=Ab hK6;clear hK6;refine wpIn_block ?_;refine jd (λK4 hK4=>?_);have HK4:=Ab hK4;clear hK4;refine AG (by rfl) (by rintro ⟨_,_,h⟩;exact h) ?_;go_wp2;refine HK4 _ _ ?_;clear HK4 K4 q0 q1;change Code.wpIn _ _ _ _ _ _ (wr.alloc (j2 [O n1,U ad1 (Z ts1) cp1].toArray 104));generalize wr.alloc (j2 [O n1,U ad1 (Z ts1) cp1].toArray 104)=wa at HSa HOa HBa HPja⊢;obtain⟨BA,hBA⟩:∃BA,wr.heap.size=BA:=⟨_,rfl⟩;rw[hBA]at HBa⊢;clear hBA HS HO;have q0:=(Aa HBa).cell 0;have q1:=(Aa HBa).cell 1;simp at q0 q1;obtain⟨nad,ncp,ns,rad,rcp,rs,g1,g2,g3,g4,g5,g6,g7,g8,hMe⟩:=(Aa HSa).out;have hnl:=Aa HNl ns Nj g3 (Aa HSa).sub;have HAd:=Ab (Qy (N+1) 0 [U nad (Z ns) ncp] 115 nad ncp ns ⟨⟨n1,ts1⟩,U ad1 (Z ts1) cp1⟩ wa g1 rfl (by decide) (by decide) g2 (Aa HPja) (Aa HPj).2 (by omega) (g3.mono _));simp only[AW]at HAd;have HStp:lO (∀wb,Tn (N+1) 0 [U nad (Z ns) ncp] 115 (U nad (Z ns) ncp) ns ⟨⟨n1,ts1⟩,U ad1 (Z ts1) cp1⟩ wa wb->∃M3,ZQ w w5 (N+1) RB sts (F::s) (A++[H]) ((H.2.pos.take (j+1)).foldl A9 Nd) M3 wb/\R0 M W M3 wb):=by
      intro wb hA;obtain⟨p,ad4,cp4,hcut,hnb,hps,how⟩:=hA.out;simp only[gJ]at hnb;have hcut2:Gg ns (BN G) p:=by
       have h:=hcut;simp only at h;rw[Aa HFj]at h;exact h
      have hse:Dc (LA ns ⟨⟨n1,ts1⟩,U ad1 (Z ts1) cp1⟩ p) (A9 Nj G):=by
       unfold LA;simp only;cases hh:Ev ns ⟨n1,ts1⟩ p with
       |true=>
        simp only[if_true];rw[Aa HFj]at hh;exact g3.yQ HGc.1 hcut2 hh
       |false=>
        simp only[gO,if_false];have h2:=hh;rw[Aa HFj]at h2;exact g3.zx (x:=⟨⟨n1,ts1⟩,U ad1 (Z ts1) cp1⟩) HFj HGc.1 hcut2 h2
      have hkM:Ac M2 wa wb:=hA.kept.mono (λq hq=>by
       rw[hMe]
       rcases gP.1 hq with rfl|hq
       .simp
       .simp only[gP,ic];exact ly (ly (lx hq)))
      have hge:∀q∈M2,w.heap.size<=q:=by
       intro q hq;have hw:=Aa HWs;rw[hMe]at hq;simp only[gP,ic,jP]at hq;rcases hq with rfl|rfl|hq|hq
       .omega
       .omega
       .exact(g4 q hq).1
       .have:=(g6.lt q hq).1;omega
      have hrw:∀{b e sz n:Nat} {v:Value} {ys:mc Value},lQ wa b e sz v n ys->e≠115->(∀q,v.ownBlock=V q->(U nad (Z ns) ncp).ownBlock≠V q)->lQ wb b e sz v n ys:=fun{b e sz n v ys} hr h1 h2=>Ai hr hA.kept (λq hq hm=>by
       rcases gP.1 hm with rfl|hm
       .exact Ar hr g1 h1 hq
       .exact h2 q hq (by simpa using hm))
      have hnr:RB∉(N+1)::(U nad (Z ns) ncp).ownBlock.toList:=by
       intro hm;rcases gP.1 hm with h|h
       .have:=Aa HWs;omega
       .exact Ar g2.row g5 (by decide) (by simpa using h)
      have hsz:=hA.kept.size;have hS:ZQ w w5 (N+1) RB sts (F::s) (A++[H]) (A9 Nj G) ((N+1)::RB::((U ad4 (Z (LA ns ⟨⟨n1,ts1⟩,U ad1 (Z ts1) cp1⟩ p)) cp4).ownBlock.toList++(U rad (Z rs) rcp).ownBlock.toList)) wb:=by
       refine⟨HSa.kept.trans' hkM (λq hq=>ly (hge q hq)),λp' hp'=>(HSa.each p' hp').map (λq hq=>hrw (v:=q.tv) hq (by decide) (λq' hq'=>A7 (v1:=q.tv) hq g2.row (by decide) q' hq')) (λhr=>hrw hr (by decide) (λq' hq' he=>(g4 q' he).2 p' hp' hq')),λf hf=>?_,ad4,cp4,_,rad,rcp,rs,hnb,hps,hse,λq hq=>?_,g5.kept hA.kept hnr,hrw g6 (by decide) (λq' hq'=>A7 g6 g2.row (by decide) q' hq'),g7,g8,rfl⟩
       .rcases((Dg HGc.1 g3.zL g3.canon).2.2 f).1 hf with h|h
        .exact HSa.sub f h
        .rw[h];exact HGc.2
       .rcases how q hq with h|h
        .exact g4 q h
        .refine⟨iQ HSa.kept.size h,λp' hp' he=>?_⟩;have:=((HSa.each p' hp').nds.row.lt q he).2;omega
      refine⟨_,by rw[Aa HNx];exact hS,HOa.step hkM (λq hq=>⟨?_,hS.lt q hq⟩)⟩;simp only[gP,ic,jP]at hq;rcases hq with rfl|rfl|hq|hq
      .exact lx (by rw[hMe];simp)
      .exact lx (by rw[hMe];simp)
      .rcases how q hq with h|h
       .exact lx (by rw[hMe];simp[h])
       .exact ly h
      .exact lx (by rw[hMe];simp[hq])
     clear g1 g2 g3 g4 g5 g6 g7 g8 hMe hnl HSa HOa HPja HPj HFj HGc HNx;refine AG (by rfl) (by rintro ⟨_,_,h⟩;exact h) ?_;(go_wp2_with fail);refine HAd.mono ?_;rintro _ wb ⟨rfl,hA⟩;obtain⟨M3,hS3,hO3⟩:=HStp wb hA;have HS3:=Ab hS3;have HO3:=Ab hO3;clear HAd HStp hA hS3 hO3 q0 q1 HBa;go_wp2;refine HK6 _ _ ?_;clear HK6;refine AG (by rfl) (by rintro ⟨_,_,h⟩;exact h) ?_;go_wp2
     go_roundw
     case rel=>exact⟨j+1,M3,by go_num,by omega,HS3,HO3⟩
     case measure=>simp[intOf];omega
    .have HSf:lO (ZQ w w5 (N+1) RB sts (F::s) (A++[H]) (H.2.pos.foldl A9 Nd) M2 wr):=by
      have h:=Aa HS;rw[gR (by have:=Aa HPln;omega)]at h;exact h
     have HP:=Ab (HPo2 M2 wr HSf HO);(have hr1:¬(j:Int)<(Z nps:Int):=by omega);clear HS HSf HO HPo2;refine jd (λK4 hK4=>?_);have HK4:=Ab hK4;clear hK4;refine AG (by rfl) (by rintro ⟨_,_,h⟩;exact h) ?_;go_wp2;refine HK4 _ _ ?_;clear HK4 K4;refine jd (λK4 hK4=>?_);have HK4:=Ab hK4;clear hK4 HK4;refine ki rfl (wpIn_exit ?_);exact HP
 case rdone=>
  intro D M' W2 hD hi hd hMD;have hhl:Z hs=Z sts:=by have h:=congrArg List.length HSti.eq;simpa using h.symm
  have hst:(hs.reverse.take (Z (List.range (Z sts)).reverse)).foldl Gp ([],[F])=hs.reverse.foldl Gp ([],[F]):=by
   rw[gR (by simp;omega)]
  have hA:(hs.reverse.foldl Gp ([],[F])).1=(Hz hs F).reverse:=by
   rw[Py];rfl
  have hi':ZQ w w5 (N+1) RB sts (F::s) (Hz hs F).reverse (hs.reverse.foldl Gp ([],[F])).2 M' W2:=by
   have h:=hi;rw[hst,hA]at h;exact h
  obtain⟨nad,ncp,ns,rad,rcp,rs,-,-,-,-,g5,g6,g7,g8,hMe⟩:=hi'.out;have hlen:Z rs<=7000:=by
   have h:=congrArg List.length g7;rw[ie,ie,List.length_reverse]at h;have h1:=PA hs.reverse ([],[F]);rw[hA,List.length_reverse,List.length_reverse]at h1;have h2:=HWay.2.2;have h3:=Aa HSl;simp only[iv]at h1;omega
  have HRv:=Ab (UF w5.heap.size rad rcp rs W2 g6 (by omega) (λp hp=>by
   have h:=hi'.each p (g8 p hp)
   obtain⟨a,c,e⟩:=Al h.pf
   obtain⟨a2,c2,e2⟩:=h.sl
   exact⟨⟨a,_,c,e⟩,a2,_,c2,e2⟩))
  have HFin:lO (∀(tmps:Array Value) (w':l9),tmps.getD 4 undef=U rad (Z rs) rcp->lQ w' w5.heap.size 176 4 (U rad (Z rs) rcp) (Z rs) (rs.reverse.flatMap BV)->Ac (U rad (Z rs) rcp).ownBlock.toList W2 w'->QQ .ret ⟨tmps,[D8 D]⟩ w'):=by
   intro tmps w' h4 hr hk;rw[<-Aa HQQ];(have hDn:D∉(U rad (Z rs) rcp).ownBlock.toList:=λhm=>hMD D (by rw[hMe];simp only[gP,ic];exact ly (ly (ly hm))) rfl);have hDl:D<W2.heap.size:=(iK.1 hd).1;have hd':w'.heap[D]?=V (.deferred (V [])):=(hk.block D hDl hDn).trans hd;have hmk:C6 w.heap.size [D] w':=⟨by simp,λd hd2=>by simp only[gN]at hd2;have:=HKw5.size;omega,λd hd2=>by simp only[gN]at hd2;rw[hd2];exact hd'⟩;refine C5 [D] w' hmk (λw'' hsv=>?_);have hkw:Ac [] w w':=hi'.kept.trans' hk (λq hq=>ly (by have h1:=(g6.lt q (by simpa using hq)).1;have h2:=HKw5.size;omega));have hpf:∀p∈rs,DS w' p.2.f:=λp hp=>by
    have h:=(hi'.each p (g8 p hp)).pf;exact Ai (v:=p.2.f.tv) h hk (λq hq hm=>A7 (v1:=p.2.f.tv) h g6 (by decide) q hq (by simpa using hm))
   have hown:OwnFrom w.heap.size (fun(_:Unit) W=>lQ W w5.heap.size 176 4 (U rad (Z rs) rcp) (Z rs) (rs.reverse.flatMap BV)/\(∀p∈rs,DS W p.2.f)/\Ac [] w W):=BF (λ_ W W' M h kk hM=>⟨Ai h.1 kk (B4 hM h.1),λp hp=>Ai (v:=p.2.f.tv) (h.2.1 p hp) kk (B4 (v:=p.2.f.tv) hM (h.2.1 p hp)),DX h.2.2 kk hM (ig _)⟩);obtain⟨k1,k2,k3⟩:=hsv.own hown (s:=()) hmk ⟨hr,hpf,hkw⟩;obtain⟨l1,l2,l3,l4⟩:=HPl;refine⟨_,results_tmp rfl _ _ _,rad,rcp,rs.reverse,s,hs,L,NN,by rw[h4,List.length_reverse],by rw[List.length_reverse];exact Am k1 (ik _),λp hp=>⟨k2 p (List.mem_reverse.1 hp),(hi'.each p (g8 p (List.mem_reverse.1 hp))).len,by obtain⟨a,c,e⟩:=(hi'.each p (g8 p (List.mem_reverse.1 hp))).sl;exact⟨a,_,c,e⟩⟩,?_,l1,l2,l3,l4,k3⟩;rw[List.map_reverse,g7,<-List.map_reverse,List.reverse_reverse]
  have r0:=g5.cell 0;simp at r0;have HR2:=Ab g5;have HApp:lO (∀w',Ac (U rad (Z rs) rcp).ownBlock.toList W2 w'->AH w' RB [U rad (Z rs) rcp] 137):=λw' hk=>g5.kept hk (λhm=>Ar g6 g5 (by decide) (by simpa using hm))
  clear hi hi' hd hMD hst hA hhl g5 g6 g7 g8 hMe zn hlen HR2;refine HKK _ _ ?_;clear HKK;refine ma (λK3 HK3=>?_);go_wp2_with fail
  refine HRv.mono ?_;rintro _ w8 ⟨⟨v8,rfl⟩,hr8,k8⟩;have hb8:=Aa HApp w8 k8;have r8:=hb8.cell 0;simp at r8;have HR8:=Ab hr8;have HK8:=Ab k8;clear HRv hr8 k8 hb8 r0 HApp;go_wp2;refine HK3 _ _ ?_;clear HK3 K3;refine ma (λK3 HK3=>?_);go_wp2;refine HK3 _ _ ?_;clear HK3 K3;refine wp_ret ?_;exact HFin _ _ rfl HR8 HK8
 case rstop=>
  intro D c pre M' W2 _ h _;exact h.elim
