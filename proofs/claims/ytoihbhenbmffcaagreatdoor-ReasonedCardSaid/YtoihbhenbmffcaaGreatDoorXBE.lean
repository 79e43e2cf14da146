import Derived.Shelf.RegionOpenPlain
import Derived.LoopIn
import Derived.Test.YtoihbhenbmffcaaGreatDoorXBC
set_option linter.all false
set_option maxHeartbeats 0
open List renaming length->Z
open Option renaming none->Y,some->V
open Go.Value renaming slice->U,int->X,string->O,pointer->m2,ownBlock->pI
open Go.IntKind renaming i64->J
open Go.Obj renaming cells->j3
open Or renaming inl->oi,inr->oj
open Go renaming World->py
open Go.RowKit renaming Hid->p7
open Go.World renaming ownsRow->p9
namespace Go.Proofs.YtoihbhenbmffcaaGreatDoor
open Go.RowKit Go.Proofs.Tryz
variable{k n m i j:Nat}{w u v:py}{f:pM Af}{M:pM Nat}
def eH{α:Type}(l:pM α):Nat->pM α
 |0=>l
 |k+1=>match l[k]?,l[Z l-1-k]? with
  |some a,V b=>((eH l k).set k b).set (Z l-1-k) a
  |_,_=>eH l k
def If{α:Type}(l:pM α):∀k,Z (eH l k)=Z l
 |0=>rfl
 |k+1=>by
  rw[eH];split
  .rw[mQ,mQ,If l k]
  .exact If l k
def W8{α:Type}(l:pM α)(b:k<Z l)(a:Z l-1-k<Z l):eH l (k+1)=((eH l k).set k l[Z l-1-k]).set (Z l-1-k) l[k]:=by
 rw[eH,lc b,lc a]
def Vz{α:Type}(l:pM α):∀k,2*k<=Z l->∀i,i<Z l->(eH l k)[i]?=if i<k\/Z l-k<=i then l[Z l-1-i]? else l[i]?
 |0,_,i,hi=>by
  rw[li (by omega)];rfl
 |k+1,hk,i,hi=>by
  rw[W8 l (by omega) (by omega)];by_cases b:i=Z l-1-k
  .subst b;rw[mK (by rw[mQ,If];omega),ln (by omega),show Z l-1-(Z l-1-k)=k by omega,lc]
  .rw[mm (by omega)];by_cases c:i=k
   .subst c;rw[mK (by rw[If];omega),ln (by omega),lc]
   .rw[mm (by omega),Vz l k (by omega) i hi];by_cases a:i<k\/Z l-k<=i
    .rw[ln a,ln (by omega)]
    .rw[li a,li (by omega)]
def ij{α:Type}(l:pM α)(c:2*k<=Z l)(d:Z l<=2*k+1):eH l k=l.reverse:=by
 apply List.ext_getElem?;intro i;by_cases a:i<Z l
 .rw[Vz l k c i a,List.getElem?_reverse a];by_cases b:i<k\/Z l-k<=i
  .rw[ln b]
  .rw[li b,show Z l-1-i=i by omega]
 .rw[List.getElem?_eq_none (by rw[If];omega),List.getElem?_eq_none (by simp;omega)]
def ZN(l:pM (Nat×U3)):Z (l.flatMap Cc)=4*Z l:=by
 induction l with
 |nil=>rfl
 |cons a l ih=>rw[lF,lu,ih,lj];simp[Cc,KJ];omega
def Zx(l:pM (Nat×U3))(k a:Nat)(c:a<4):(l.flatMap Cc)[4*k+a]?=(l[k]?).bind λp=>(Cc p)[a]?:=by
 induction l generalizing k with
 |nil=>simp
 |cons p l ih=>
  rw[lF];have b:Z (Cc p)=4:=rfl;cases k with
  |zero=>rw[List.getElem?_append_left (by omega)];simp
  |succ k=>
   rw[nO (by omega),b,show 4*(k+1)+a-4=4*k+a by omega,ih k];simp
def ZG(l:pM (Nat×U3))(k:Nat)(c:k<Z l)(p:Nat×U3):(l.set k p).flatMap Cc=((((l.flatMap Cc).set (4*k) (O p.2.f.f.name)).set (4*k+1) p.2.f.tv).set (4*k+2) (X J p.1)).set (4*k+3) p.2.n:=by
 apply List.ext_getElem?;intro i;have b:i=4*(i/4)+i%4:=by omega
 have a:i%4<4:=Nat.mod_lt _ (by omega);have m:=ZN l;by_cases d:i/4=k
 .have e:(((l.set k p).flatMap Cc)[i]?)=(Cc p)[i%4]?:=by
   rw[b,Zx _ _ _ (by omega),show(4*(i/4)+i%4)%4=i%4 by omega,d,mK c];rfl
  rw[e];have g:i%4=0\/i%4=1\/i%4=2\/i%4=3:=by omega
  have j:4*k+4<=Z (l.flatMap Cc):=by omega
  rcases g with h|h|h|h
  .rw[h,mm (by omega),mm (by omega),mm (by omega),show i=4*k by omega,mK (by omega)];rfl
  .rw[h,mm (by omega),mm (by omega),show i=4*k+1 by omega,mK (by simp only[mQ];omega)];rfl
  .rw[h,mm (by omega),show i=4*k+2 by omega,mK (by simp only[mQ];omega)];rfl
  .rw[h,show i=4*k+3 by omega,mK (by simp only[mQ];omega)];rfl
 .rw[mm (by omega),mm (by omega),mm (by omega),mm (by omega),b,Zx _ _ _ a,Zx _ _ _ a,mm (by omega)]
set_option maxRecDepth 100000
theorem Wq(F:Nat)(m:Option Addr)(l:Nat)(b:pM (Nat×U3))(w:py)(hR:p9 w F 176 4 (U m (Z b) l) (Z b) (b.flatMap Cc))(HZ:Z b<=900000)(E0:∀p∈b,(∃a n c,p.2.f.tv=U a n c)/\∃a n c,p.2.n=U a n c):
  Calls prog 146 #[U m (Z b) l] w λr w'=>(∃v,r=.returned v)/\p9 w' F 176 4 (U m (Z b) l) (Z b) (b.reverse.flatMap Cc)/\Ac (U m (Z b) l).ownBlock.toList w w':=by
 have HR:=Ab hR;have FB:=Ab E0;have mixed:prog.follows .mixedOrders=true:=by kernel_rfl
 clear hR E0;go_enter func146,ntmps146;have FF:p7 (p9 w F 176 4 (U m (Z b) l) (Z b) ((eH b 0).flatMap Cc)):=HR;go_wp2_with fail
 go_loopg [2,3] (Z b) (λgk i jv wr=>∃(k:Nat),i=X J k/\jv=X J ((Z b:Int)-1-k)/\2*k<=Z b/\gk=Z b-k/\p7 (p9 wr F 176 4 (U m (Z b) l) (Z b) ((eH b k).flatMap Cc))/\p7 (Ac (U m (Z b) l).ownBlock.toList w wr))
 case atStart=>exact⟨0,rfl,by go_num,by omega,rfl,FF,pO _ _⟩
 case round=>
  clear FF;obtain⟨k,rfl,rfl,hk,FL,HW,HK⟩:=hrel;have HG:=Ab FL;clear FL;by_cases H0:2*k+1<Z b
  .obtain⟨j,hj⟩:=pN (Z b-1-k);(have HJ:(Z b:Int)-1-k=(j:Int):=by omega);rw[HJ];(have S:k<Z (eH b k):=by rw[If];omega);(have P:j<Z (eH b k):=by rw[If];omega);have d:=Aa HW;rw[<-If b k]at d;obtain⟨g,hg,a0,a1,a2,a3⟩:=JT (Am d (lz _)) k S;obtain⟨g',AT,b0,b1,b2,W⟩:=JT (Am d (lz _)) j P;rw[hg]at AT;simp only[ld,lW]at AT;obtain⟨rfl,-,-⟩:=AT;subst hg;have H4:=d.frozenAt (k*4);have H7:=d.frozenAt (k*4+1);have HX:=d.frozenAt (k*4+2);have H1:=d.frozenAt (k*4+3);have H9:=d.frozenAt (j*4);have H3:=d.frozenAt (j*4+1);have H6:=d.frozenAt (j*4+2);have HU:=d.frozenAt (j*4+3);have EX:(eH b k)[k]=b[k]:=by
    have h:=Vz b k hk k (by omega);rw[li (by omega),lc S,lc (by omega)]at h;simpa using h
   have FP:(eH b k)[j]=b[j]:=by
    have h:=Vz b k hk j (by omega);rw[li (by omega),lc P,lc (by omega)]at h;simpa using h
   rw[EX]at a0 a1 a2 a3;rw[FP]at b0 b1 b2 W;obtain⟨A,Q⟩:=pN (b[k]);obtain⟨B,R⟩:=pN (b[j]);have HB:p7 (eH b (k+1)=((eH b k).set k B).set j A):=by
    show _=_;have h:=W8 b (show k<Z b by omega) (show Z b-1-k<Z b by omega);simp only[hj]at h;rw[h,Q,R]
   rw[Q]at a0 a1 a2 a3;rw[R]at b0 b1 b2 W;obtain⟨t,Bx⟩:∃x,A.2.f.f.name=x:=⟨_,rfl⟩;obtain⟨⟨I,y,M,B9⟩,z,o,G,CC⟩:=FB A (by rw[<-Q];exact kV _);obtain⟨⟨D,E,C,T⟩,q,H,s,AH⟩:=FB B (by rw[<-R];exact kV _);obtain⟨N,AB⟩:∃x,A.1=x:=⟨_,rfl⟩;obtain⟨u,CL⟩:∃x,B.2.f.f.name=x:=⟨_,rfl⟩;obtain⟨L,BA⟩:∃x,B.1=x:=⟨_,rfl⟩;have FT:p7 (A.2.f.f.name=t/\A.2.f.tv=U I y M/\A.1=N/\A.2.n=U z o G):=⟨Bx,B9,AB,CC⟩;have HT:p7 (B.2.f.f.name=u/\B.2.f.tv=U D E C/\B.1=L/\B.2.n=U q H s):=⟨CL,T,BA,AH⟩;rw[Bx]at a0;rw[B9]at a1;rw[AB]at a2;rw[CC]at a3;rw[CL]at b0;rw[T]at b1;rw[BA]at b2;rw[AH]at W;(have H5:(0:Int)<=(k:Int):=by omega);(have HC:(k:Int)<(j:Int):=by omega);(have HV:(k:Int)<(Z b:Int):=by omega);(have H2:(j:Int)<(Z b:Int):=by omega);(have H8:(0:Int)<=(j:Int):=by omega);have HA:p7 (p9 ((((((((wr.setCell ⟨g,k*4,Y⟩ (O u)).setCell ⟨g,k*4+1,Y⟩ (U D E C)).setCell ⟨g,k*4+2,Y⟩ (X J L)).setCell ⟨g,k*4+3,Y⟩ (U q H s)).setCell ⟨g,j*4,Y⟩ (O t)).setCell ⟨g,j*4+1,Y⟩ (U I y M)).setCell ⟨g,j*4+2,Y⟩ (X J N)).setCell ⟨g,j*4+3,Y⟩ (U z o G)) F 176 4 (U (V ⟨g,0,Y⟩) (Z b) l) (Z b) ((eH b (k+1)).flatMap Cc)):=by
    (have HF:j<Z ((eH b k).set k B):=by rw[mQ];exact P);have h:=(BG (BG (BG (BG (BG (BG (BG (BG d (4*k) (O u)) (4*k+1) (U D E C)) (4*k+2) (X J L)) (4*k+3) (U q H s)) (4*j) (O t)) (4*j+1) (U I y M)) (4*j+2) (X J N)) (4*j+3) (U z o G));have e:(eH b (k+1)).flatMap Cc=(((((((((eH b k).flatMap Cc).set (4*k) (O u)).set (4*k+1) (U D E C)).set (4*k+2) (X J L)).set (4*k+3) (U q H s)).set (4*j) (O t)).set (4*j+1) (U I y M)).set (4*j+2) (X J N)).set (4*j+3) (U z o G):=by
     obtain⟨p1,p2,p3,p4⟩:=FT;obtain⟨q1,q2,q3,q4⟩:=HT;rw[Aa HB,ZG _ _ HF,ZG _ _ S,p1,p2,p3,p4,q1,q2,q3,q4]
    rw[e];rw[If]at h;simp only[Nat.mul_comm 4]at h⊢;exact h
   have HM:p7 (Ac (U (V ⟨g,0,Y⟩) (Z b) l).ownBlock.toList w ((((((((wr.setCell ⟨g,k*4,Y⟩ (O u)).setCell ⟨g,k*4+1,Y⟩ (U D E C)).setCell ⟨g,k*4+2,Y⟩ (X J L)).setCell ⟨g,k*4+3,Y⟩ (U q H s)).setCell ⟨g,j*4,Y⟩ (O t)).setCell ⟨g,j*4+1,Y⟩ (U I y M)).setCell ⟨g,j*4+2,Y⟩ (X J N)).setCell ⟨g,j*4+3,Y⟩ (U z o G))):=((((((((HK.setCell (p:=⟨g,k*4,Y⟩) (oi (by simp[pI])) (O u)).setCell (p:=⟨g,k*4+1,Y⟩) (oi (by simp[pI])) (U D E C)).setCell (p:=⟨g,k*4+2,Y⟩) (oi (by simp[pI])) (X J L)).setCell (p:=⟨g,k*4+3,Y⟩) (oi (by simp[pI])) (U q H s)).setCell (p:=⟨g,j*4,Y⟩) (oi (by simp[pI])) (O t)).setCell (p:=⟨g,j*4+1,Y⟩) (oi (by simp[pI])) (U I y M)).setCell (p:=⟨g,j*4+2,Y⟩) (oi (by simp[pI])) (X J N)).setCell (p:=⟨g,j*4+3,Y⟩) (oi (by simp[pI])) (U z o G));have HI:=Ab (Ad HA (pO [] _).drew);have HN:=Ab HM.drew;clear d EX FP Q R Bx B9 AB CC CL T BA AH HW S P;go_wp2_with fail
   go_region_o
   all_goals go_wp2
   go_roundg (Z b-(k+1))
   case measure=>have:=Aa HG;omega
   case rel=>exact⟨k+1,congrArg (X J) (by omega),congrArg (X J) (by omega),by omega,rfl,HI,HN⟩
  .have Go:p7 (p9 wr F 176 4 (U m (Z b) l) (Z b) (b.reverse.flatMap Cc)):=by
    have h:=Aa HW;rw[ij b hk (by omega)]at h;exact h
   (have HC:¬(k:Int)<(Z b:Int)-1-k:=by omega);go_wp2;go_end0;exact⟨⟨_,rfl⟩,Go,HK⟩
structure cS(w w5:py)(NB RB:Nat)(sts:pM (Nat×U3))(T:pM Af)(A:pM Dk)(Nd:pM Af)(M:pM Nat)(W:py):Prop where
 kept:Ac [] w W
 each:∀p∈sts,Lk W p.2
 sub:∀f∈Nd,f∈T
 out:∃(nad:Option Addr) (ncp:Nat) (ns:pM Fa) (rad:Option Addr) (rcp:Nat) (rs:pM (Nat×U3)),
  AF W NB [U nad (Z ns) ncp] 115/\Jm W (U nad (Z ns) ncp) ns/\Df ns Nd/\
  (∀q,(U nad (Z ns) ncp).ownBlock=V q->w.heap.size<=q/\∀p∈sts,p.2.n.ownBlock≠V q)/\
  AF W RB [U rad (Z rs) rcp] 137/\p9 W w5.heap.size 176 4 (U rad (Z rs) rcp) (Z rs) (rs.flatMap Cc)/\
  rs.map (λp=>(p.1,p.2.f.f))=A.map (λh=>(h.1,BU h.2.head))/\(∀p∈rs,p∈sts)/\
  M=NB::RB::((U nad (Z ns) ncp).ownBlock.toList++(U rad (Z rs) rcp).ownBlock.toList)
def cS.own{r:pM (Nat×U3)}{st:pM Nat->pM Dk×pM Af}(E:w.heap.size<=i):OwnFrom i (fun(s:pM Nat×pM Nat) W=>cS w u n m r f (st s.1).1 (st s.1).2 s.2 W):=
 BO (λs W G M h k a=>by
  obtain⟨o,A,t,F,x,C,e,b,D,y,g,l,z⟩:=h.out
  refine⟨Eo h.kept k a E,λp c=>(h.each p c).map (λq d=>Ai (v:=q.tv) d k (Co (v:=q.tv) a d)) (λj=>Ai j k (Co a j)),h.sub,o,A,t,F,x,C,e.kept k (CY a e),⟨Ai b.row k (Co a b.row),λp c=>⟨Ai (v:=p.tv) (b.each p c).1 k (Co (v:=p.tv) a (b.each p c).1),(b.each p c).2⟩⟩,D,y,g.kept k (CY a g),Ai l k (Co a l),z⟩)
def cS.calm{c:pM (Nat×U3)}{A:pM Dk}{a:pM Af}{W b:py}(h:cS w v n m c f A a M W)(k:Ac [] W b):cS w v n m c f A a M b:=
 BI (cS.own (st:=λ_=>(A,a)) (lC w.heap.size)) (s:=([],M)) h k
def cS.lt{w l:py}{g j:Nat}{c:pM (Nat×U3)}{T:pM Af}{A:pM Dk}{f:pM Af}{M:pM Nat}{W:py}(h:cS w l g j c T A f M W):∀k∈M,k<W.heap.size:=by
 obtain⟨m,r,n,v,o,s,d,b,u,p,e,i,q,t,rfl⟩:=h.out;intro k a;simp only[kZ,lw,nC]at a;rcases a with rfl|rfl|a|a
 .exact d.lt
 .exact e.lt
 .exact(b.row.lt k a).2
 .exact(i.lt k a).2
structure TD(M:pM Nat)(W:py)(M2:pM Nat)(wz:py):Prop where
 kept:Ac M W wz
 mem:∀k∈M2,(k∈M\/W.heap.size<=k)/\k<wz.heap.size
def TD.step{M c e:pM Nat}(h:TD M w c v)(k:Ac c v u)(d:∀q∈e,(q∈c\/v.heap.size<=q)/\q<u.heap.size):TD M w e u:=by
 refine⟨h.kept.trans' k (λq a=>(h.mem q a).1),λq a=>⟨?_,(d q a).2⟩⟩;rcases(d q a).1 with b|b
 .exact(h.mem q b).1
 .exact oj (mp h.kept.size b)
def eX{R:pM Dk}(b:j<Z R)(a:pM Dk×pM Af):(R.take (j+1)).foldl GX a=GX ((R.take j).foldl GX a) R[j]:=by
 rw[kW b,mi];rfl
def QW:∀(R:pM Dk) (a:pM Dk×pM Af),Z (R.foldl GX a).1<=Z a.1+Z R
 |[],a=>by simp
 |h::R,a=>by
  rw[lR];have b:=QW R (GX a h);have c:Z (GX a h).1<=Z a.1+1:=by
   unfold GX;split
   .simp
   .omega
  rw[lj];omega
def gW{a d:pM Nat}(h:(List.range n).reverse=a++m::d):Z a<n/\m=n-1-Z a:=by
 have c:=congrArg List.length h;simp at c;have b:=congrArg (λl=>l[Z a]?) h;simp only[nO (lC _),Nat.sub_self,List.getElem?_cons_zero]at b;have e:Z a<n:=by omega
 rw[List.getElem?_reverse (by simp;omega),List.length_range,List.getElem?_range (by omega)]at b;exact⟨e,by have:=mZ b;omega⟩
theorem fh(lad:Option Addr)(lcp:Nat)(pcs:pM Dy)(rcs:pM A4)(F:Af)(fp:Fa)(w:py)(hP:DE w (U lad (Z pcs) lcp) pcs)(hB:M9 pcs rcs)(hf:fp.f=BU F)(hc:AL F)(hpf:Ea w fp)(hfl:Z fp.f.zC<=1000):
  Calls prog 98 #[U lad (Z pcs) lcp,.agg (A6 fp).toArray] w λr w'=>∃(ad:Option Addr) (cp:Nat) (sts:pM (Nat×U3)) (s:pM Af) (hs:pM Dk) (L:zA->Nat) (N:Nat),r=.returned (U ad (Z sts) cp)/\p9 w' 0 176 4 (U ad (Z sts) cp) (Z sts) (sts.flatMap Cc)/\(∀p∈sts,Ea w' p.2.f/\Z p.2.f.f.zC<=1000/\∃a n c,p.2.n=U a n c)/\sts.map (λp=>(p.1,p.2.f.f))=(Ij hs F).map (λh=>(h.1,BU h.2.head))/\Zk rcs hs s/\CR rcs L/\GF rcs L N s/\(∀c∈rcs,L c.head.name<N)/\Ac [] w w':=by
 obtain⟨i0,hi0,hz0,hz1,hz2⟩:=mg Tryz.zr;obtain⟨⟨fn,fts⟩,ftv⟩:=fp;obtain⟨fad,fcp,e⟩:=Ak hpf;simp only at e hf hfl;subst e;simp only[A6];obtain⟨N,hN⟩:=pN w.heap.size;have HN:=Ab hN;have HK2:=Ab (((pO [] w).alloc (j3 [O fn,U fad (Z fts) fcp].toArray 104)).alloc (j3 [U Y 0 0].toArray 115));have HBx:=Ab ((pP w [O fn,U fad (Z fts) fcp] 104).alloc (j3 [U Y 0 0].toArray 115));have HBn:=Ab (pP (w.alloc (j3 [O fn,U fad (Z fts) fcp].toArray 104)) [U Y 0 0] 115);rw[lT]at HBn;have HPf:=Ab hpf;have HF:=Ab hf;have HC:=Ab hc;have HFL:p7 (Z fts<=1000):=hfl;have HPr:=Ab hP;have HBo:=Ab hB;obtain⟨QQ,hQQ⟩:=pN (Kr (bodyPostM Fence.wide 0 prog Tryz.f98 λr w'=>∃(ad:Option Addr) (cp:Nat) (sts:pM (Nat×U3)) (s:pM Af) (hs:pM Dk) (L:zA->Nat) (N:Nat),r=.returned (U ad (Z sts) cp)/\p9 w' 0 176 4 (U ad (Z sts) cp) (Z sts) (sts.flatMap Cc)/\(∀p∈sts,Ea w' p.2.f/\Z p.2.f.f.zC<=1000/\∃a n c,p.2.n=U a n c)/\sts.map (λp=>(p.1,p.2.f.f))=(Ij hs F).map (λh=>(h.1,BU h.2.head))/\Zk rcs hs s/\CR rcs L/\GF rcs L N s/\(∀c∈rcs,L c.head.name<N)/\Ac [] w w'));have HQQ:=Ab hQQ;clear hpf hf hc hP hB hN hfl;refine EC func98 rfl (Gt ?_);rw[hQQ];clear hQQ;simp only[ntmps98,mE,lj,lO,Nat.reduceAdd,Nat.reduceSub,nL,nM,oh,nR,mw,mV];refine pL (λKK HKK=>?_);go_wp2;refine HKK _ _ ?_;clear HKK KK;refine pL (λKK HKK=>?_);go_wp2;refine HKK _ _ ?_;clear HKK KK;change Code.wp _ _ _ _ ((w.alloc (j3 [O fn,U fad (Z fts) fcp].toArray 104)).alloc (j3 [U Y 0 0].toArray 115));generalize(w.alloc (j3 [O fn,U fad (Z fts) fcp].toArray 104)).alloc (j3 [U Y 0 0].toArray 115)=w2 at HK2 HBx HBn⊢;rw[Aa HN]at HBx HBn⊢;have HAd:=Ab (R4 (N+1) 0 [U Y 0 0] 115 Y 0 [] ⟨⟨fn,fts⟩,U fad (Z fts) fcp⟩ w2 HBn rfl (by decide) (by decide) ⟨lH _ _ _ _,λp hp=>by simp at hp⟩ (HPf.kept HK2) HFL (by simp) (λi j hi=>by simp at hi));simp only[A6]at HAd;have b0:=HBx.cell 0;have b1:=HBx.cell 1;simp at b0 b1;refine pL (λKK HKK=>?_);go_wp2_with fail
 refine HAd.mono ?_;rintro _ w3 ⟨rfl,hA⟩;obtain⟨p0,nad0,ncp0,hcut0,hnb0,hps0,how0⟩:=hA.out;have hadd:MM [] ⟨⟨fn,fts⟩,U fad (Z fts) fcp⟩ p0=[⟨⟨fn,fts⟩,U fad (Z fts) fcp⟩]:=by
  unfold MM ER;simp
 rw[hadd]at hnb0 hps0 how0;have hk3:Ac [] w w3:=HK2.trans' hA.kept (λq hq=>oj (by
  have:=Aa HN
  simp[pI]at hq
  omega))
 simp only[kT]at hnb0;have HKw3:=Ab hk3;have HNb3:=Ab hnb0;have HPs3:=Ab hps0;have HOw3:p7 (∀q,(U nad0 1 ncp0).ownBlock=V q->w.heap.size<=q/\q<w3.heap.size):=λq hq=>by
  rcases how0 q hq with h|h
  .simp[pI]at h
  .exact⟨mp HK2.size h,(hps0.row.lt q hq).2⟩
 have HSe3:p7 (Df [⟨⟨fn,fts⟩,U fad (Z fts) fcp⟩] [F]):=⟨by simp only[lE,m8];rw[Aa HF],List.pairwise_singleton _ _,λf hf=>by simp at hf;rw[hf];exact HC⟩;clear HAd hA hcut0 hnb0 hps0 how0 hadd hk3 b0 b1 HBx HBn;go_wp2;refine HKK _ _ ?_;clear HKK KK;have HK4:=Ab ((pO [] w3).alloc (j3 [U Y 0 0].toArray 137));have HR4:=Ab (pP w3 [U Y 0 0] 137);refine pL (λKK HKK=>?_);go_wp2;refine HKK _ _ ?_;clear HKK KK;change Code.wp _ _ _ _ (w3.alloc (j3 [U Y 0 0].toArray 137));generalize w3.alloc (j3 [U Y 0 0].toArray 137)=w4 at HK4 HR4⊢;obtain⟨RB,hRB⟩:=pN w3.heap.size;have HRB:=Ab hRB;rw[hRB]at HR4⊢;clear hRB;have HGo:=Ab (Md lad lcp pcs rcs w4 (HPr.kept (HKw3.trans HK4)) HBo);refine pL (λKK HKK=>?_);refine pL (λK5 HK5=>?_);go_wp2_with fail
 refine HGo.mono ?_;rintro _ w6 ⟨cb,s,hs,L,NN,rfl,hCo,hRe,hLv,hIn,hTop⟩;obtain⟨sad,scp,fs,tad,tcp,sts,hcb,-,-,hrow,-,-,hsti⟩:=hCo.out;have hsl:Z s=Z sts:=by
  have h1:=hrow.1;rw[ZN]at h1;omega
 rw[hsl]at hcb hrow;have c2:=hcb.cell 2;simp at c2;have hway:=HBo.zb hIn;have HBk:=Ab (UF tad (Z sts) tcp w6);clear HGo;go_wp2_with fail
 refine HBk.mono ?_;rintro _ w5 ⟨b1,rfl,hb1,hb1l,k5⟩;have hk46:=hCo.kept;have HSti:p7 (Ya w5 w4.heap.size (U sad (Z fs) scp) hs sts):=hsti.kept k5;have HRow:=Ab (Ad hrow k5);have HB1:=Ab hb1;have HK45:p7 (Ac [] w4 w5):=hk46.trans k5;have HW6:p7 (w4.heap.size<=w6.heap.size):=hk46.size;have HPl:p7 (Zk rcs hs s/\CR rcs L/\GF rcs L NN s/\(∀c∈rcs,L c.head.name<NN)):=⟨hRe,hLv,hIn,hTop⟩;have HWay:=Ab hway;have HSl:=Ab hsl;clear hCo hRe hLv hIn hTop hcb hrow hsti hsl c2 hway HBk hb1 k5 hk46;go_wp2;refine HK5 _ _ ?_;clear HK5 K5;refine wp_block ?_;have HWs:p7 (RB<w4.heap.size/\N+1<RB/\w4.heap.size<=w5.heap.size/\w4.heap.size<=b1/\w.heap.size<=N):=by
  have h1:=HR4.lt;have h2:=HNb3.lt;have h3:=Aa HRB;have h4:=HK45.size;have h5:=Aa HW6;have h6:=Aa HN;exact⟨h1,by omega,h4,by omega,by omega⟩
 have HKw5:p7 (Ac [] w w5):=(HKw3.trans HK4).trans HK45;have HK35:p7 (Ac [] w3 w5):=HK4.trans HK45;have HFo:p7 (∀x,x<Z sts->∃A0 pa pn pc A2 qa qn qc,Z5 sts x=[O A0,U pa pn pc,X J (A2:Nat),U qa qn qc]):=by
  intro x hx;have h:=(HSti.each sts[x] (kV hx)).1;obtain⟨pa,pc,e1⟩:=Ak h.pf;obtain⟨qa,qc,e2⟩:=h.sl;refine⟨sts[x].2.f.f.name,pa,sts[x].2.f.f.zC.length,pc,sts[x].1,qa,sts[x].2.ns.length,qc,?_⟩;unfold Z5;rw[lc hx];show[_,sts[x].2.f.tv,_,sts[x].2.n]=_;rw[e1,e2]
 have yD:=bZ b1 tad tcp sts w5 ((N+1)::RB::((U nad0 1 ncp0).ownBlock.toList++(U Y 0 0).ownBlock.toList)) ⟨by have h:=HB1.cell 0;simpa using h,Am HRow (lz _),λk hk=>by
  have hw:=Aa HWs
  have hkl:k<w4.heap.size:=by
   simp only[kZ,lw,nC]at hk
   rcases hk with rfl|rfl|hk|hk
   .omega
   .omega
   .have h1:=(HOw3 k hk).2
    have h2:=HK4.size
    omega
   .simp[pI]at hk
  exact⟨by omega,λh=>by have:=(HRow.lt k h).1;omega,by omega⟩⟩ (by have:=HWay.2.2;have:=Aa HSl;omega)
 have HI0:p7 (cS w w5 (N+1) RB sts (F::s) [] [F] ((N+1)::RB::((U nad0 1 ncp0).ownBlock.toList++(U Y 0 0).ownBlock.toList)) w5):=by
  refine⟨HKw5,λp hp=>(HSti.each p hp).1,λf hf=>by simp at hf;simp[hf],nad0,ncp0,_,Y,0,[],HNb3.kept HK35,HPs3.kept HK35,HSe3,λq hq=>⟨(HOw3 q hq).1,λp hp he=>?_⟩,HR4.kept HK45,lH _ _ _ _,rfl,λp hp=>by simp at hp,rfl⟩;have h1:=((HSti.each p hp).2 q he).1;have h2:=(HOw3 q hq).2;have h3:=HK4.size;omega
 have hM0:=HI0.lt;have hw5:w.heap.size<=w5.heap.size:=HKw5.size;refine Uu (encs:=ia sts) rfl (enters_of func182 (by kernel_rfl) rfl) yD (λ_=>rfl) hM0 (λpre M W=>cS w w5 (N+1) RB sts (F::s) ((hs.reverse.take (Z pre)).foldl GX ([],[F])).1 ((hs.reverse.take (Z pre)).foldl GX ([],[F])).2 M W) (λ_ _ _ _=>False) (cS.own (st:=λpre=>(hs.reverse.take (Z pre)).foldl GX ([],[F])) hw5) (λ_ _ _ _ _ h _ _=>h) HI0
  (λn0 x a' W=>AF W n0 (Z5 sts x) 176/\a'=⟨#[U lad (Z pcs) lcp,.agg #[O fn,U fad (Z fts) fcp],undef,m2 (V ⟨N,0,Y⟩),U Y 0 0,m2 (V ⟨N+1,0,Y⟩),m2 (V ⟨RB,0,Y⟩),undef,m2 (V ⟨n0,0,Y⟩),undef,undef,.agg #[O fn,U fad (Z fts) fcp],.tuple #[],U lad (Z pcs) lcp,m2 (V ⟨cb,0,Y⟩),m2 (V ⟨cb,0,Y⟩),m2 (V ⟨cb,2,Y⟩),U tad (Z sts) tcp,.func (.func 182) #[] #[m2 (V ⟨b1,0,Y⟩)],X J x,.agg (Z5 sts x).toArray,undef,undef,undef,undef,undef,undef,undef,undef,undef,undef,undef,undef,undef,undef,undef,undef,undef,undef,undef,undef,undef],[]⟩)
  (λn0 x a'=>BO (λ_ W W' M h k hM=>⟨h.1.kept k (CY hM h.1),h.2⟩)) ?rassign ?rbody ?rdone ?rstop
 case rassign=>
  intro l x W' K hx _ HK;have HKK2:p7 (∀a' W'',Ac [] W' W''->_->K a' W''):=HK;have hx':x<Z sts:=by
   rw[List.mem_reverse,oQ]at hx;exact hx
  obtain⟨A0,pa,pn,pc,A2,qa,qn,qc,hst⟩:=HFo x hx';unfold ia;rw[hst]at HKK2⊢;have HBz:=Ab (pP W' [O ⟨#[]⟩,U Y 0 0,X J 0,U Y 0 0] 176);have z0:=HBz.cell 0;have z1:=HBz.cell 1;have z2:=HBz.cell 2;have z3:=HBz.cell 3;have y0:=HBz.frozen 0;have y1:=HBz.frozen 1;have y2:=HBz.frozen 2;have y3:=HBz.frozen 3;simp at z0 z1 z2 z3;clear HK hst yD;refine AM (by rfl) (Iw Gz) ?_;go_wp2;exact HKK2 _ _ ((pO [] W').alloc _) ⟨pP W' [O A0,U pa pn pc,X J (A2:Nat),U qa qn qc] 176,rfl⟩
 case rbody=>
  intro l n0 pre x rest M a' W hxs hi hM hn0 hn1 hax;obtain⟨hbx,rfl⟩:=hax;obtain⟨hpl,hxe⟩:=gW hxs;have hhl:Z hs=Z sts:=by have h:=congrArg List.length HSti.eq;simpa using h.symm
  have hx:x<Z sts:=by omega
  have hxh:x<Z hs:=by omega
  have hrx:hs.reverse[Z pre]'(by simp;omega)=hs[x]:=by
   rw[List.getElem_reverse]
   congr 1
   omega
  have hnext:(hs.reverse.take (Z (pre++[x]))).foldl GX ([],[F])=GX ((hs.reverse.take (Z pre)).foldl GX ([],[F])) hs[x]:=by
   rw[lu,List.length_singleton,eX (by simp;omega),hrx]
  obtain⟨⟨A,Nd⟩,hAN⟩:∃a,(hs.reverse.take (Z pre)).foldl GX ([],[F])=a:=⟨_,rfl⟩;rw[hAN]at hnext hi;simp only at hi;obtain⟨H,hH⟩:=pN (hs[x]);rw[hH]at hnext;have hHm:H∈hs:=by rw[<-hH];exact kV hxh
  have hHs:H.2.head∈s:=(HPl.1.mem _).2 (lk.2 ⟨H,hHm,rfl⟩);have hHp:∀g∈H.2.pos,g∈s:=by
   obtain⟨_,_,_,_,h4,_⟩:=HPl.1.each x hxh;rw[hH]at h4;intro g hg;obtain⟨y,hy,e⟩:=lk.1 (h4 g hg);exact(HPl.1.mem g).2 (lk.2 ⟨y,mD hy,e⟩)
  have HPl3:p7 (Z H.2.pos<=1000):=by
   obtain⟨h1,σ,_,h3,_,_⟩:=HPl.1.each x hxh;simp only[hH]at h1 h3;have h5:=(HBo.pass.order.small.2 _ (kV h1)).1;show Z H.2.pos<=1000;rw[h3];show Z (((Al _).filter _).map _)<=1000;rw[lm];have h6:=mS (λx:Br=>x.kind==97) (Al rcs[H.1]);(have h7:Z (Al rcs[H.1])=rcs[H.1].bl.length:=by unfold Al;rw[lm]);omega
  have hst:=congrArg (λl=>l[x]?) HSti.eq;simp only[mA,lc hx,lc hxh,m0,ld,hH,lZ]at hst;obtain⟨hs1,hs2,hs3⟩:=hst;have hmem:sts[x]∈sts:=kV hx;have hsA:Z5 sts x=Cc sts[x]:=by unfold Z5;rw[lc hx];rfl
  rw[hsA]at hbx;simp only[hsA];obtain⟨⟨num,⟨⟨fnm,fth⟩,ftv⟩,nv,nps⟩,hsx⟩:∃p,sts[x]=p:=⟨_,rfl⟩;rw[hsx]at hs1 hs2 hs3 hmem hbx;simp only[hsx];simp only at hs1 hs2 hs3;obtain⟨pa,pc,e1⟩:=Ak (hi.each _ hmem).pf;obtain⟨qa,qc,e2⟩:=(hi.each _ hmem).sl;simp only at e1 e2;subst e1 e2;subst hs1;have HPost:p7 (∀A' Nd' M2 wz,GX (A,Nd) H=(A',Nd')->cS w w5 (N+1) RB sts (F::s) A' Nd' M2 wz->TD M W M2 wz->LP (λpre M W=>cS w w5 (N+1) RB sts (F::s) ((hs.reverse.take (Z pre)).foldl GX ([],[F])).1 ((hs.reverse.take (Z pre)).foldl GX ([],[F])).2 M W) (λ_ _ _ _=>False) (pre++[x]) M W .normal ⟨#[],[]⟩ wz):=by
   intro A' Nd' M2 wz he hW hO;refine⟨hO.kept,M2,?_,hO.mem⟩;show cS w w5 (N+1) RB sts (F::s) ((hs.reverse.take (Z (pre++[x]))).foldl GX ([],[F])).1 ((hs.reverse.take (Z (pre++[x]))).foldl GX ([],[F])).2 M2 wz;rw[hnext,he];exact hW
  have HMn:=Ab hM;have HAl:p7 (Z A<=7000):=by
   have h1:=QW (hs.reverse.take (Z pre)) ([],[F]);rw[hAN,l9]at h1;have h2:=HWay.2.2;have h3:=Aa HSl;simp only[lO]at h1;show Z A<=7000;omega
  have HNl:p7 (∀(ns:pM Fa) (Nd':pM Af),Df ns Nd'->(∀f∈Nd',f∈F::s)->Z ns<=7000):=by
   intro ns Nd' h1 h2;have h3:=Ia Nd' (F::s) (h1.zM.nodup h1.canon) h2;have h4:=h1.len;have h5:=HWay.2.2;simp only[lj]at h3;omega
  have HCh:p7 (AL H.2.head):=HWay.2.1 _ hHs;have HCp:p7 (∀g∈H.2.pos,AL g/\g∈F::s):=λg hg=>⟨HWay.2.1 _ (hHp g hg),lY _ (hHp g hg)⟩
  have HHd:p7 ((⟨fnm,fth⟩:C4)=BU H.2.head):=hs2;have HNs:p7 (nps.map Fa.f=H.2.pos.map BU):=hs3;have HMem:=Ab hmem;have HS0:=Ab hi;have HBx:=Ab hbx;have HOt:p7 (TD M W M W):=⟨pO _ _,λk hk=>⟨oi hk,hi.lt k hk⟩⟩;have HHas:p7 (∀wz,cS w w5 (N+1) RB sts (F::s) A Nd M wz->Calls prog 60 #[m2 (V ⟨N+1,0,Y⟩),.agg #[O fnm,U pa (Z fth) pc]] wz λr w'=>r=.returned (.bool (C3 Nd H.2.head))/\Ac [] wz w'):=by
   intro wz hz;obtain⟨nad,ncp,ns,rad,rcp,rs,g1,g2,g3,_⟩:=hz.out;have hc0:=g1.cell 0;simp at hc0;have hin:=(hz.each _ HMem);refine(OQ (N+1) 0 nad ncp ns ⟨⟨fnm,fth⟩,U pa (Z fth) pc⟩ wz hc0 g2 hin.pf hin.len (by have:=Aa HNl ns Nd g3 hz.sub;omega) (g3.mono _)).mono ?_;rintro e w' ⟨p,rfl,hcut,k⟩;simp only at hcut⊢;rw[Aa HHd]at hcut⊢;exact⟨by rw[g3.yD (Aa HCh) hcut],k⟩
  clear hi hbx hmem hsx hsA hs2 hs3 hHp hHs hHm hH hAN hnext hrx hhl hxs hM yD hpl hxe hx hxh HFo;have e0:=HBx.cell 0;have e1:=HBx.cell 1;simp[Cc,KJ]at e0 e1;simp only[Cc,KJ]at HBx⊢;refine wpIn_block ?_;refine mM (λK8 hK8=>?_);have HK8:=Ab hK8;clear hK8;refine mM (λK7 hK7=>?_);have HK7:=Ab hK7;clear hK7;refine AM (by rfl) (by rintro ⟨_,_,h⟩;exact h) ?_;go_wp2_with fail
  refine(HHas W HS0).mono ?_;rintro _ w7 ⟨rfl,k7⟩;have HK7a:=Ab k7;clear HHas k7 e0 e1;go_wp2;refine HK7 _ _ ?_;clear HK7 K7;have HS7:=Ab (HS0.calm HK7a);have HO7:p7 (TD M W M w7):=HOt.step (HK7a.mono (by simp)) (λq hq=>⟨oi hq,mX (HS0.lt q hq) HK7a.size⟩);have HBx7:=Ab (HBx.kept HK7a);clear HS0 HOt HBx HK7a;cases hhf:C3 Nd H.2.head with
  |false=>
   refine n7 rfl (wpIn_exit ?_);exact HPost A Nd M _ (by unfold GX;rw[li (by rw[hhf];simp)]) HS7 HO7
  |true=>
   refine nW rfl (wpIn_skip ?_);refine HK8 _ _ ?_;clear HK8 K8;(have HPo2:p7 (∀M2 wz,cS w w5 (N+1) RB sts (F::s) (A++[H]) (H.2.pos.foldl A3 Nd) M2 wz->TD M W M2 wz->LP (λpre M W=>cS w w5 (N+1) RB sts (F::s) ((hs.reverse.take (Z pre)).foldl GX ([],[F])).1 ((hs.reverse.take (Z pre)).foldl GX ([],[F])).2 M W) (λ_ _ _ _=>False) (pre++[x]) M W .normal ⟨#[],[]⟩ wz):=λM2 wz=>HPost _ _ M2 wz (by unfold GX;rw[ln hhf]));clear HPost hhf;obtain⟨nad,ncp,ns,rad,rcp,rs,g1,g2,g3,g4,g5,g6,g7,g8,hMe⟩:=(Aa HS7).out;have hrl:Z rs<=7000:=by
    have h:=congrArg List.length g7;rw[lm,lm]at h;have:=Aa HAl;omega
   have d0:=HBx7.cell 0;have d1:=HBx7.cell 1;have d2:=HBx7.cell 2;have d3:=(Aa HBx7).cell 3;have r0:=g5.cell 0;simp at d0 d1 d2 d3 r0;(have hw57:w5.heap.size<=w7.heap.size:=by have:=HO7.kept.size;omega);have HG1:=Ab g1;have HG2:=Ab g2;have HG3:=Ab g3;have HG4:=Ab g4;have HG5:=Ab g5;have HG6:=Ab g6;have HG7:=Ab g7;have HG8:=Ab g8;have HMe:=Ab hMe;clear g1 g2 g3 g4 g5 g7 g8 hMe;refine mM (λK8 hK8=>?_);have HK8:=Ab hK8;clear hK8;refine AM (by rfl) (by rintro ⟨_,_,h⟩;exact h) ?_;go_wp2_with (at_builtin;refine lG _ rfl (.tmp 25) (.tmp 27) _ rfl w5.heap.size 176 i0 _ 4 72 underlying137 hi0 hz0 hz1 hz2 rfl (by omega) (U rad (Z rs) rcp) (Z rs) (rs.flatMap Cc) rfl (lg g6 _) ⟨w7.heap.size,0,Y⟩ 1 1 [O fnm,U pa (Z fth) pc,X J H.1,U qa (Z nps) qc] rfl rfl (lI (lP w7 _)) (by simp[Value.oneCell']) (by omega) (by unfold maxLen;omega) (by omega) (by simp;omega) (w7.heap.size+1) (by simp) ?_;intro gg cp1 w9 ho1 hg1 ha1 hl1;have hR9:=(HG5.alloc (j3 #[O fnm,U pa (Z fth) pc,X J H.1,U qa (Z nps) qc] 176)).grown hg1 (As g6 HG5 (by decide));have c9:=hR9.cell 0;have f9:=hR9.frozen 0;simp at c9)
   have hM7:=Aa HMe;have kM:Ac M w7 (w9.setCell ⟨RB,0,Y⟩ (U (V ⟨gg,0,Y⟩) (Z rs+1) cp1)):=(((pO M w7).alloc (j3 #[O fnm,U pa (Z fth) pc,X J H.1,U qa (Z nps) qc] 176)).grown hg1 (λq hq=>oi (by rw[hM7];simp[hq]))).setCell (p:=⟨RB,0,Y⟩) (oi (by rw[hM7];simp)) _;have hge:∀q∈M,w.heap.size<=q:=by
    intro q hq;have hw:=Aa HWs;rw[hM7]at hq;simp only[kZ,lw,nC]at hq;rcases hq with rfl|rfl|hq|hq
    .omega
    .omega
    .exact(HG4 q hq).1
    .have:=(g6.lt q hq).1;omega
   have hrw:∀{b e sz n:Nat} {v:Value} {ys:pM Value},p9 w7 b e sz v n ys->e≠176->e≠137->p9 (w9.setCell ⟨RB,0,Y⟩ (U (V ⟨gg,0,Y⟩) (Z rs+1) cp1)) b e sz v n ys:=fun{b e sz n v ys} hr h1 h2=>by
    have hr3:=mI (v:=v) (lg (v:=v) hr _) hg1 (by
     cases hpo:v.ownBlock with
     |none=>exact oi rfl
     |some q=>exact oj (λe=>Bc hr g6 h1 q hpo e.symm))
    exact Ag hr3 (As hr3 hR9 h2) _
   have HS10:p7 (cS w w5 (N+1) RB sts (F::s) (A++[H]) Nd ((N+1)::RB::((U nad (Z ns) ncp).ownBlock.toList++[gg])) (w9.setCell ⟨RB,0,Y⟩ (U (V ⟨gg,0,Y⟩) (Z rs+1) cp1))):=by
    (have hne:N+1≠RB:=by have:=Aa HWs;omega);refine⟨HS7.kept.trans' kM (λq hq=>oj (hge q hq)),λp hp=>(HS7.each p hp).map (λq hq=>hrw (v:=q.tv) hq (by decide) (by decide)) (λhr=>hrw hr (by decide) (by decide)),HS7.sub,nad,ncp,ns,V ⟨gg,0,Y⟩,cp1,rs++[(H.1,⟨⟨⟨fnm,fth⟩,U pa (Z fth) pc⟩,U qa (Z nps) qc,nps⟩)],?_,⟨hrw HG2.row (by decide) (by decide),λp hp=>⟨hrw (v:=p.tv) (HG2.each p hp).1 (by decide) (by decide),(HG2.each p hp).2⟩⟩,HG3,HG4,?_,?_,?_,?_,rfl⟩
    .have h:=(HG1.alloc (j3 #[O fnm,U pa (Z fth) pc,X J H.1,U qa (Z nps) qc] 176)).grown hg1 (As g6 HG1 (by decide));exact h.zB ⟨RB,0,Y⟩ (Ne.symm hne) _
    .rw[lu];exact hR9.set 0 _
    .rw[lu,lM];exact Ag ho1 (As ho1 hR9 (by decide)) _
    .rw[lV,lV,Aa HG7];simp only[lE,m8];rw[Aa HHd]
    .intro p hp;rcases lw.1 hp with h|h
     .exact HG8 p h
     .simp only[kY]at h;rw[h];exact HMem
   have HO10:p7 (TD M W ((N+1)::RB::((U nad (Z ns) ncp).ownBlock.toList++[gg])) (w9.setCell ⟨RB,0,Y⟩ (U (V ⟨gg,0,Y⟩) (Z rs+1) cp1))):=by
    refine HO7.step kM (λq hq=>⟨?_,HS10.lt q hq⟩);simp only[kZ,lw,kY,mr,or_false,nC]at hq;rcases hq with rfl|rfl|hq|rfl
    .exact oi (by rw[hM7];simp)
    .exact oi (by rw[hM7];simp)
    .exact oi (by rw[hM7];simp[hq])
    .rcases ha1 with h|h
     .exact oi (by rw[hM7];simp[h])
     .exact oj (by omega)
   have HBx10:=Ab (HBx7.kept kM (λhm=>by have:=Aa HMn n0 hm;omega));have HSc:p7 (∃A1 Nd0 M1,A1=A++[H]/\Nd0=Nd/\cS w w5 (N+1) RB sts (F::s) A1 Nd0 M1 (w9.setCell ⟨RB,0,Y⟩ (U (V ⟨gg,0,Y⟩) (Z rs+1) cp1))/\TD M W M1 (w9.setCell ⟨RB,0,Y⟩ (U (V ⟨gg,0,Y⟩) (Z rs+1) cp1))):=⟨_,_,_,rfl,rfl,HS10,HO10⟩;go_wp2;refine HK8 _ _ ?_;clear HK8 K8;generalize w9.setCell ⟨RB,0,Y⟩ (U (V ⟨gg,0,Y⟩) (Z rs+1) cp1)=w10 at HS10 HO10 HBx10⊢;generalize(N+1)::RB::((U nad (Z ns) ncp).ownBlock.toList++[gg])=M1 at HS10 HO10;clear HSc hrw hge kM hM7 hR9 c9 f9 ho1 hg1 ha1 hl1 g6 HG1 HG2 HG3 HG4 HG5 HG6 HG7 HG8 HMe d0 d1 d2 d3 r0 hrl hw57 HS7 HO7 HBx7;have d3:=HBx10.cell 3;simp at d3;(have HPln:p7 (Z nps=Z H.2.pos):=by show _=_;have h:=congrArg List.length HNs;simpa using h);have HS00:p7 (cS w w5 (N+1) RB sts (F::s) (A++[H]) ((H.2.pos.take 0).foldl A3 Nd) M1 w10):=HS10;refine mM (λK4 hK4=>?_);have HK4:=Ab hK4;clear hK4;refine AM (by rfl) (by rintro ⟨_,_,h⟩;exact h) ?_;go_wp2;refine HK4 _ _ ?_;clear HK4 K4 d3;refine wpIn_block ?_
   gi_loopw [32] (λi wz=>∃(j:Nat) (M2:pM Nat),i=X J j/\j<=Z nps/\p7 (cS w w5 (N+1) RB sts (F::s) (A++[H]) ((H.2.pos.take j).foldl A3 Nd) M2 wz)/\p7 (TD M W M2 wz)) (λi _=>Z nps-(intOf i).toNat)
   case atStart=>exact⟨0,M1,rfl,lz _,HS00,HO10⟩
   case round=>
    clear HS00 HO10 HS10 HBx10;obtain⟨j,M2,rfl,hj,HS,HO⟩:=hrel;by_cases hlj:j<Z nps
    .obtain⟨g,cap,n1,ts1,ad1,cp1,he,hnj,q0,q1⟩:=Jt (HS.each _ HMem).nds j hlj;simp only[kS]at he;obtain⟨rfl,-,rfl⟩:=he;(have hjp:j<Z H.2.pos:=by have:=Aa HPln;omega);have hnx:(H.2.pos.take (j+1)).foldl A3 Nd=A3 ((H.2.pos.take j).foldl A3 Nd) H.2.pos[j]:=by
      rw[kW hjp,mi];rfl
     have hfj:nps[j].f=BU H.2.pos[j]:=by
      have h:=congrArg (λl=>l[j]?) HNs;simp only[mA,lc hlj,lc hjp,m0,ld]at h;exact h
     have hgc:=Aa HCp H.2.pos[j] (kV hjp);have hpj:=(HS.each _ HMem).nds.each nps[j] (kV hlj);obtain⟨G,hG⟩:=pN (H.2.pos[j]);rw[hG]at hnx hfj hgc;rw[hnj]at hfj hpj;obtain⟨Nj,hNj⟩:=pN ((H.2.pos.take j).foldl A3 Nd);rw[hNj]at hnx HS;have HNx:=Ab hnx;have HGc:=Ab hgc;have HFj:=Ab hfj;have HPj:=Ab hpj;(have hr0:(0:Int)<=(j:Int):=by omega);(have hr1:(j:Int)<(Z nps:Int):=by omega);(have hjb:j<1000:=by have:=Aa HPln;have:=Aa HPl3;omega);have HSa:=Ab (HS.calm ((pO [] wr).alloc (j3 [O n1,U ad1 (Z ts1) cp1].toArray 104)));have HOa:p7 (TD M W M2 (wr.alloc (j3 [O n1,U ad1 (Z ts1) cp1].toArray 104))):=HO.step (((pO [] wr).alloc _).mono (by simp)) (λq hq=>⟨oi hq,HSa.lt q hq⟩);have HBa:=Ab (pP wr [O n1,U ad1 (Z ts1) cp1] 104);have HPja:=Ab (HPj.1.kept ((pO [] wr).alloc (j3 [O n1,U ad1 (Z ts1) cp1].toArray 104)));clear hnx hgc hfj hpj hG hNj hnj hjp;refine mM (λK4 hK4=>?_);have HK4:=Ab hK4;clear hK4;refine AM (by rfl) (by rintro ⟨_,_,h⟩;exact h) ?_;go_wp2;refine HK4 _ _ ?_;clear HK4 K4;refine mM (λK4 hK4=>?_);have HK4:=Ab hK4;clear hK4;refine n7 rfl (wpIn_skip ?_);refine HK4 _ _ ?_;clear HK4 K4;refine mM (λK6 hK6=>?_);have HK6:=Ab hK6;clear hK6;refine wpIn_block ?_;refine mM (λK4 hK4=>?_);have HK4:=Ab hK4;clear hK4;refine AM (by rfl) (by rintro ⟨_,_,h⟩;exact h) ?_;go_wp2;refine HK4 _ _ ?_;clear HK4 K4 q0 q1;change Code.wpIn _ _ _ _ _ _ (wr.alloc (j3 [O n1,U ad1 (Z ts1) cp1].toArray 104));generalize wr.alloc (j3 [O n1,U ad1 (Z ts1) cp1].toArray 104)=wa at HSa HOa HBa HPja⊢;obtain⟨BA,hBA⟩:=pN wr.heap.size;rw[hBA]at HBa⊢;clear hBA HS HO;have q0:=(Aa HBa).cell 0;have q1:=(Aa HBa).cell 1;simp at q0 q1;obtain⟨nad,ncp,ns,rad,rcp,rs,g1,g2,g3,g4,g5,g6,g7,g8,hMe⟩:=(Aa HSa).out;have hnl:=Aa HNl ns Nj g3 (Aa HSa).sub;have HAd:=Ab (R4 (N+1) 0 [U nad (Z ns) ncp] 115 nad ncp ns ⟨⟨n1,ts1⟩,U ad1 (Z ts1) cp1⟩ wa g1 rfl (by decide) (by decide) g2 (Aa HPja) (Aa HPj).2 (by omega) (g3.mono _));simp only[A6]at HAd;have HStp:p7 (∀wb,U8 (N+1) 0 [U nad (Z ns) ncp] 115 (U nad (Z ns) ncp) ns ⟨⟨n1,ts1⟩,U ad1 (Z ts1) cp1⟩ wa wb->∃M3,cS w w5 (N+1) RB sts (F::s) (A++[H]) ((H.2.pos.take (j+1)).foldl A3 Nd) M3 wb/\TD M W M3 wb):=by
      intro wb hA;obtain⟨p,ad4,cp4,hcut,hnb,hps,how⟩:=hA.out;simp only[kT]at hnb;have hcut2:Gs ns (BU G) p:=by
       have h:=hcut;simp only at h;rw[Aa HFj]at h;exact h
      have hse:Df (MM ns ⟨⟨n1,ts1⟩,U ad1 (Z ts1) cp1⟩ p) (A3 Nj G):=by
       unfold MM;simp only;cases hh:ER ns ⟨n1,ts1⟩ p with
       |true=>
        simp only[if_true];rw[Aa HFj]at hh;exact g3.yS HGc.1 hcut2 hh
       |false=>
        simp only[k0,if_false];have h2:=hh;rw[Aa HFj]at h2;exact g3.z6 (x:=⟨⟨n1,ts1⟩,U ad1 (Z ts1) cp1⟩) HFj HGc.1 hcut2 h2
      have hkM:Ac M2 wa wb:=hA.kept.mono (λq hq=>by
       rw[hMe]
       rcases kZ.1 hq with rfl|hq
       .simp
       .simp only[kZ,lw];exact oj (oj (oi hq)))
      have hge:∀q∈M2,w.heap.size<=q:=by
       intro q hq;have hw:=Aa HWs;rw[hMe]at hq;simp only[kZ,lw,nC]at hq;rcases hq with rfl|rfl|hq|hq
       .omega
       .omega
       .exact(g4 q hq).1
       .have:=(g6.lt q hq).1;omega
      have hrw:∀{b e sz n:Nat} {v:Value} {ys:pM Value},p9 wa b e sz v n ys->e≠115->(∀q,v.ownBlock=V q->(U nad (Z ns) ncp).ownBlock≠V q)->p9 wb b e sz v n ys:=fun{b e sz n v ys} hr h1 h2=>Ai hr hA.kept (λq hq hm=>by
       rcases kZ.1 hm with rfl|hm
       .exact As hr g1 h1 hq
       .exact h2 q hq (by simpa using hm))
      have hnr:RB∉(N+1)::(U nad (Z ns) ncp).ownBlock.toList:=by
       intro hm;rcases kZ.1 hm with h|h
       .have:=Aa HWs;omega
       .exact As g2.row g5 (by decide) (by simpa using h)
      have hsz:=hA.kept.size;have hS:cS w w5 (N+1) RB sts (F::s) (A++[H]) (A3 Nj G) ((N+1)::RB::((U ad4 (Z (MM ns ⟨⟨n1,ts1⟩,U ad1 (Z ts1) cp1⟩ p)) cp4).ownBlock.toList++(U rad (Z rs) rcp).ownBlock.toList)) wb:=by
       refine⟨HSa.kept.trans' hkM (λq hq=>oj (hge q hq)),λp' hp'=>(HSa.each p' hp').map (λq hq=>hrw (v:=q.tv) hq (by decide) (λq' hq'=>Bc (v1:=q.tv) hq g2.row (by decide) q' hq')) (λhr=>hrw hr (by decide) (λq' hq' he=>(g4 q' he).2 p' hp' hq')),λf hf=>?_,ad4,cp4,_,rad,rcp,rs,hnb,hps,hse,λq hq=>?_,g5.kept hA.kept hnr,hrw g6 (by decide) (λq' hq'=>Bc g6 g2.row (by decide) q' hq'),g7,g8,rfl⟩
       .rcases((CZ HGc.1 g3.zM g3.canon).2.2 f).1 hf with h|h
        .exact HSa.sub f h
        .rw[h];exact HGc.2
       .rcases how q hq with h|h
        .exact g4 q h
        .refine⟨mp HSa.kept.size h,λp' hp' he=>?_⟩;have:=((HSa.each p' hp').nds.row.lt q he).2;omega
      refine⟨_,by rw[Aa HNx];exact hS,HOa.step hkM (λq hq=>⟨?_,hS.lt q hq⟩)⟩;simp only[kZ,lw,nC]at hq;rcases hq with rfl|rfl|hq|hq
      .exact oi (by rw[hMe];simp)
      .exact oi (by rw[hMe];simp)
      .rcases how q hq with h|h
       .exact oi (by rw[hMe];simp[h])
       .exact oj h
      .exact oi (by rw[hMe];simp[hq])
     clear g1 g2 g3 g4 g5 g6 g7 g8 hMe hnl HSa HOa HPja HPj HFj HGc HNx;refine AM (by rfl) (by rintro ⟨_,_,h⟩;exact h) ?_;(go_wp2_with fail);refine HAd.mono ?_;rintro _ wb ⟨rfl,hA⟩;obtain⟨M3,hS3,hO3⟩:=HStp wb hA;have HS3:=Ab hS3;have HO3:=Ab hO3;clear HAd HStp hA hS3 hO3 q0 q1 HBa;go_wp2;refine HK6 _ _ ?_;clear HK6;refine AM (by rfl) (by rintro ⟨_,_,h⟩;exact h) ?_;go_wp2
     go_roundw
     case rel=>exact⟨j+1,M3,by go_num,by omega,HS3,HO3⟩
     case measure=>simp[intOf];omega
    .have HSf:p7 (cS w w5 (N+1) RB sts (F::s) (A++[H]) (H.2.pos.foldl A3 Nd) M2 wr):=by
      have h:=Aa HS;rw[kX (by have:=Aa HPln;omega)]at h;exact h
     have HP:=Ab (HPo2 M2 wr HSf HO);(have hr1:¬(j:Int)<(Z nps:Int):=by omega);clear HS HSf HO HPo2;refine mM (λK4 hK4=>?_);have HK4:=Ab hK4;clear hK4;refine AM (by rfl) (by rintro ⟨_,_,h⟩;exact h) ?_;go_wp2;refine HK4 _ _ ?_;clear HK4 K4;refine mM (λK4 hK4=>?_);have HK4:=Ab hK4;clear hK4 HK4;refine nW rfl (wpIn_exit ?_);exact HP
 case rdone=>
  intro D M' W2 hD hi hd hMD;have hhl:Z hs=Z sts:=by have h:=congrArg List.length HSti.eq;simpa using h.symm
  have hst:(hs.reverse.take (Z (List.range (Z sts)).reverse)).foldl GX ([],[F])=hs.reverse.foldl GX ([],[F]):=by
   rw[kX (by simp;omega)]
  have hA:(hs.reverse.foldl GX ([],[F])).1=(Ij hs F).reverse:=by
   rw[QU];rfl
  have hi':cS w w5 (N+1) RB sts (F::s) (Ij hs F).reverse (hs.reverse.foldl GX ([],[F])).2 M' W2:=by
   have h:=hi;rw[hst,hA]at h;exact h
  obtain⟨nad,ncp,ns,rad,rcp,rs,-,-,-,-,g5,g6,g7,g8,hMe⟩:=hi'.out;have hlen:Z rs<=7000:=by
   have h:=congrArg List.length g7;rw[lm,lm,List.length_reverse]at h;have h1:=QW hs.reverse ([],[F]);rw[hA,List.length_reverse,List.length_reverse]at h1;have h2:=HWay.2.2;have h3:=Aa HSl;simp only[lO]at h1;omega
  have HRv:=Ab (Wq w5.heap.size rad rcp rs W2 g6 (by omega) (λp hp=>by
   have h:=hi'.each p (g8 p hp)
   obtain⟨a,c,e⟩:=Ak h.pf
   obtain⟨a2,c2,e2⟩:=h.sl
   exact⟨⟨a,_,c,e⟩,a2,_,c2,e2⟩))
  have HFin:p7 (∀(tmps:Array Value) (w':py),tmps.getD 4 undef=U rad (Z rs) rcp->p9 w' w5.heap.size 176 4 (U rad (Z rs) rcp) (Z rs) (rs.reverse.flatMap Cc)->Ac (U rad (Z rs) rcp).ownBlock.toList W2 w'->QQ .ret ⟨tmps,[EA D]⟩ w'):=by
   intro tmps w' h4 hr hk;rw[<-Aa HQQ];(have hDn:D∉(U rad (Z rs) rcp).ownBlock.toList:=λhm=>hMD D (by rw[hMe];simp only[kZ,lw];exact oj (oj (oj hm))) rfl);have hDl:D<W2.heap.size:=(mc.1 hd).1;have hd':w'.heap[D]?=V (.deferred (V [])):=(hk.block D hDl hDn).trans hd;have hmk:Dv w.heap.size [D] w':=⟨by simp,λd hd2=>by simp only[kY]at hd2;have:=HKw5.size;omega,λd hd2=>by simp only[kY]at hd2;rw[hd2];exact hd'⟩;refine Du [D] w' hmk (λw'' hsv=>?_);have hkw:Ac [] w w':=hi'.kept.trans' hk (λq hq=>oj (by have h1:=(g6.lt q (by simpa using hq)).1;have h2:=HKw5.size;omega));have hpf:∀p∈rs,Ea w' p.2.f:=λp hp=>by
    have h:=(hi'.each p (g8 p hp)).pf;exact Ai (v:=p.2.f.tv) h hk (λq hq hm=>Bc (v1:=p.2.f.tv) h g6 (by decide) q hq (by simpa using hm))
   have hown:OwnFrom w.heap.size (fun(_:Unit) W=>p9 W w5.heap.size 176 4 (U rad (Z rs) rcp) (Z rs) (rs.reverse.flatMap Cc)/\(∀p∈rs,Ea W p.2.f)/\Ac [] w W):=BO (λ_ W W' M h kk hM=>⟨Ai h.1 kk (Co hM h.1),λp hp=>Ai (v:=p.2.f.tv) (h.2.1 p hp) kk (Co (v:=p.2.f.tv) hM (h.2.1 p hp)),Eo h.2.2 kk hM (lC _)⟩);obtain⟨k1,k2,k3⟩:=hsv.own hown (s:=()) hmk ⟨hr,hpf,hkw⟩;obtain⟨l1,l2,l3,l4⟩:=HPl;refine⟨_,results_tmp rfl _ _ _,rad,rcp,rs.reverse,s,hs,L,NN,by rw[h4,List.length_reverse],by rw[List.length_reverse];exact Am k1 (lz _),λp hp=>⟨k2 p (List.mem_reverse.1 hp),(hi'.each p (g8 p (List.mem_reverse.1 hp))).len,by obtain⟨a,c,e⟩:=(hi'.each p (g8 p (List.mem_reverse.1 hp))).sl;exact⟨a,_,c,e⟩⟩,?_,l1,l2,l3,l4,k3⟩;rw[List.map_reverse,g7,<-List.map_reverse,List.reverse_reverse]
  have r0:=g5.cell 0;simp at r0;have HR2:=Ab g5;have HApp:p7 (∀w',Ac (U rad (Z rs) rcp).ownBlock.toList W2 w'->AF w' RB [U rad (Z rs) rcp] 137):=λw' hk=>g5.kept hk (λhm=>As g6 g5 (by decide) (by simpa using hm))
  clear hi hi' hd hMD hst hA hhl g5 g6 g7 g8 hMe yD hlen HR2;refine HKK _ _ ?_;clear HKK;refine pL (λK3 HK3=>?_);go_wp2_with fail
  refine HRv.mono ?_;rintro _ w8 ⟨⟨v8,rfl⟩,hr8,k8⟩;have hb8:=Aa HApp w8 k8;have r8:=hb8.cell 0;simp at r8;have HR8:=Ab hr8;have HK8:=Ab k8;clear HRv hr8 k8 hb8 r0 HApp;go_wp2;refine HK3 _ _ ?_;clear HK3 K3;refine pL (λK3 HK3=>?_);go_wp2;refine HK3 _ _ ?_;clear HK3 K3;refine wp_ret ?_;exact HFin _ _ rfl HR8 HK8
 case rstop=>
  intro D c pre M' W2 _ h _;exact h.elim
