import Derived.Shelf.RegionOpenPlain
import Derived.LoopIn
import Derived.Test.YtoihbhenbmffcaaGreatDoorTAZ
set_option linter.all false
set_option maxHeartbeats 0
open List renaming length->Z
open Option renaming none->Y,some->V
open Go.Value renaming slice->U,int->X,string->O,pointer->j3,ownBlock->qX
open Go.IntKind renaming i64->J
open Go.Obj renaming cells->j1
open Or renaming inl->lo,inr->lx
open Go renaming World->ly
open Go.RowKit renaming Hid->nc
open Go.World renaming ownsRow->oi
namespace Go.Proofs.YtoihbhenbmffcaaGreatDoor
open Go.RowKit Go.Proofs.Tryz
variable{k n m i j:Nat}{w u v:ly}{f:rc Af}{M:rc Nat}
def fD{α:Type}(l:rc α):Nat->rc α
 |0=>l
 |k+1=>match l[k]?,l[Z l-1-k]? with
  |some a,V b=>((fD l k).set k b).set (Z l-1-k) a
  |_,_=>fD l k
def IK{α:Type}(l:rc α):∀k,Z (fD l k)=Z l
 |0=>rfl
 |k+1=>by
  rw[fD];split
  .rw[ou,ou,IK l k]
  .exact IK l k
def XI{α:Type}(l:rc α)(b:k<Z l)(a:Z l-1-k<Z l):fD l (k+1)=((fD l k).set k l[Z l-1-k]).set (Z l-1-k) l[k]:=by
 rw[fD,mG b,mG a]
def V8{α:Type}(l:rc α):∀k,2*k<=Z l->∀i,i<Z l->(fD l k)[i]?=if i<k\/Z l-k<=i then l[Z l-1-i]? else l[i]?
 |0,_,i,hi=>by
  rw[mJ (by omega)];rfl
 |k+1,hk,i,hi=>by
  rw[XI l (by omega) (by omega)];by_cases b:i=Z l-1-k
  .subst b;rw[od (by rw[ou,IK];omega),mK (by omega),show Z l-1-(Z l-1-k)=k by omega,mG]
  .rw[nJ (by omega)];by_cases c:i=k
   .subst c;rw[od (by rw[IK];omega),mK (by omega),mG]
   .rw[nJ (by omega),V8 l k (by omega) i hi];by_cases a:i<k\/Z l-k<=i
    .rw[mK a,mK (by omega)]
    .rw[mJ a,mJ (by omega)]
def jh{α:Type}(l:rc α)(c:2*k<=Z l)(d:Z l<=2*k+1):fD l k=l.reverse:=by
 apply List.ext_getElem?;intro i;by_cases a:i<Z l
 .rw[V8 l k c i a,List.getElem?_reverse a];by_cases b:i<k\/Z l-k<=i
  .rw[mK b]
  .rw[mJ b,show Z l-1-i=i by omega]
 .rw[List.getElem?_eq_none (by rw[IK];omega),List.getElem?_eq_none (by simp;omega)]
def aB(l:rc (Nat×Vy)):Z (l.flatMap Cl)=4*Z l:=by
 induction l with
 |nil=>rfl
 |cons a l ih=>rw[mX,mM,ih,mL];simp[Cl,Ly];omega
def Z8(l:rc (Nat×Vy))(k a:Nat)(c:a<4):(l.flatMap Cl)[4*k+a]?=(l[k]?).bind λp=>(Cl p)[a]?:=by
 induction l generalizing k with
 |nil=>simp
 |cons p l ih=>
  rw[mX];have b:Z (Cl p)=4:=rfl;cases k with
  |zero=>rw[List.getElem?_append_left (by omega)];simp
  |succ k=>
   rw[px (by omega),b,show 4*(k+1)+a-4=4*k+a by omega,ih k];simp
def aq(l:rc (Nat×Vy))(k:Nat)(c:k<Z l)(p:Nat×Vy):(l.set k p).flatMap Cl=((((l.flatMap Cl).set (4*k) (O p.2.f.f.name)).set (4*k+1) p.2.f.tv).set (4*k+2) (X J p.1)).set (4*k+3) p.2.n:=by
 apply List.ext_getElem?;intro i;have b:i=4*(i/4)+i%4:=by omega
 have a:i%4<4:=Nat.mod_lt _ (by omega);have m:=aB l;by_cases d:i/4=k
 .have e:(((l.set k p).flatMap Cl)[i]?)=(Cl p)[i%4]?:=by
   rw[b,Z8 _ _ _ (by omega),show(4*(i/4)+i%4)%4=i%4 by omega,d,od c];rfl
  rw[e];have g:i%4=0\/i%4=1\/i%4=2\/i%4=3:=by omega
  have j:4*k+4<=Z (l.flatMap Cl):=by omega
  rcases g with h|h|h|h
  .rw[h,nJ (by omega),nJ (by omega),nJ (by omega),show i=4*k by omega,od (by omega)];rfl
  .rw[h,nJ (by omega),nJ (by omega),show i=4*k+1 by omega,od (by simp only[ou];omega)];rfl
  .rw[h,nJ (by omega),show i=4*k+2 by omega,od (by simp only[ou];omega)];rfl
  .rw[h,show i=4*k+3 by omega,od (by simp only[ou];omega)];rfl
 .rw[nJ (by omega),nJ (by omega),nJ (by omega),nJ (by omega),b,Z8 _ _ _ a,Z8 _ _ _ a,nJ (by omega)]
set_option maxRecDepth 100000
theorem WV(F:Nat)(m:Option Addr)(l:Nat)(b:rc (Nat×Vy))(w:ly)(hR:oi w F 176 4 (U m (Z b) l) (Z b) (b.flatMap Cl))(HX:Z b<=900000)(EX:∀p∈b,(∃a n c,p.2.f.tv=U a n c)/\∃a n c,p.2.n=U a n c):
  Calls prog 146 #[U m (Z b) l] w λr w'=>(∃v,r=.returned v)/\oi w' F 176 4 (U m (Z b) l) (Z b) (b.reverse.flatMap Cl)/\Ac (U m (Z b) l).ownBlock.toList w w':=by
 have HR:=Ab hR;have E0:=Ab EX;have mixed:prog.follows .mixedOrders=true:=by kernel_rfl
 clear hR EX;go_enter func146,ntmps146;have FB:nc (oi w F 176 4 (U m (Z b) l) (Z b) ((fD b 0).flatMap Cl)):=HR;go_wp2_with fail
 go_loopg [2,3] (Z b) (λgk i jv wr=>∃(k:Nat),i=X J k/\jv=X J ((Z b:Int)-1-k)/\2*k<=Z b/\gk=Z b-k/\nc (oi wr F 176 4 (U m (Z b) l) (Z b) ((fD b k).flatMap Cl))/\nc (Ac (U m (Z b) l).ownBlock.toList w wr))
 case atStart=>exact⟨0,rfl,by go_num,by omega,rfl,FB,re _ _⟩
 case round=>
  clear FB;obtain⟨k,rfl,rfl,hk,FC,HW,HK⟩:=hrel;have HG:=Ab FC;clear FC;by_cases HY:2*k+1<Z b
  .obtain⟨j,hj⟩:=rd (Z b-1-k);(have HH:(Z b:Int)-1-k=(j:Int):=by omega);rw[HH];(have S:k<Z (fD b k):=by rw[IK];omega);(have P:j<Z (fD b k):=by rw[IK];omega);have d:=Aa HW;rw[<-IK b k]at d;obtain⟨g,hg,a0,a1,a2,a3⟩:=Kt (Ak d (mO _)) k S;obtain⟨g',AR,b0,b1,b2,W⟩:=Kt (Ak d (mO _)) j P;rw[hg]at AR;simp only[mB,nr]at AR;obtain⟨rfl,-,-⟩:=AR;subst hg;have H2:=d.frozenAt (k*4);have H5:=d.frozenAt (k*4+1);have HU:=d.frozenAt (k*4+2);have HZ:=d.frozenAt (k*4+3);have H7:=d.frozenAt (j*4);have H1:=d.frozenAt (j*4+1);have H4:=d.frozenAt (j*4+2);have HS:=d.frozenAt (j*4+3);have EM:(fD b k)[k]=b[k]:=by
    have h:=V8 b k hk k (by omega);rw[mJ (by omega),mG S,mG (by omega)]at h;simpa using h
   have FL:(fD b k)[j]=b[j]:=by
    have h:=V8 b k hk j (by omega);rw[mJ (by omega),mG P,mG (by omega)]at h;simpa using h
   rw[EM]at a0 a1 a2 a3;rw[FL]at b0 b1 b2 W;obtain⟨A,Q⟩:=rd (b[k]);obtain⟨B,R⟩:=rd (b[j]);have Ha:nc (fD b (k+1)=((fD b k).set k B).set j A):=by
    show _=_;have h:=XI b (show k<Z b by omega) (show Z b-1-k<Z b by omega);simp only[hj]at h;rw[h,Q,R]
   rw[Q]at a0 a1 a2 a3;rw[R]at b0 b1 b2 W;obtain⟨t,A1⟩:∃x,A.2.f.f.name=x:=⟨_,rfl⟩;obtain⟨⟨I,y,M,BT⟩,z,o,G,B9⟩:=E0 A (by rw[<-Q];exact mw _);obtain⟨⟨D,E,C,T⟩,q,H,s,AH⟩:=E0 B (by rw[<-R];exact mw _);obtain⟨N,AB⟩:∃x,A.1=x:=⟨_,rfl⟩;obtain⟨u,CC⟩:∃x,B.2.f.f.name=x:=⟨_,rfl⟩;obtain⟨L,Bx⟩:∃x,B.1=x:=⟨_,rfl⟩;have FO:nc (A.2.f.f.name=t/\A.2.f.tv=U I y M/\A.1=N/\A.2.n=U z o G):=⟨A1,BT,AB,B9⟩;have HQ:nc (B.2.f.f.name=u/\B.2.f.tv=U D E C/\B.1=L/\B.2.n=U q H s):=⟨CC,T,Bx,AH⟩;rw[A1]at a0;rw[BT]at a1;rw[AB]at a2;rw[B9]at a3;rw[CC]at b0;rw[T]at b1;rw[Bx]at b2;rw[AH]at W;(have H3:(0:Int)<=(k:Int):=by omega);(have HA:(k:Int)<(j:Int):=by omega);(have HT:(k:Int)<(Z b:Int):=by omega);(have H0:(j:Int)<(Z b:Int):=by omega);(have H6:(0:Int)<=(j:Int):=by omega);have Go:nc (oi ((((((((wr.setCell ⟨g,k*4,Y⟩ (O u)).setCell ⟨g,k*4+1,Y⟩ (U D E C)).setCell ⟨g,k*4+2,Y⟩ (X J L)).setCell ⟨g,k*4+3,Y⟩ (U q H s)).setCell ⟨g,j*4,Y⟩ (O t)).setCell ⟨g,j*4+1,Y⟩ (U I y M)).setCell ⟨g,j*4+2,Y⟩ (X J N)).setCell ⟨g,j*4+3,Y⟩ (U z o G)) F 176 4 (U (V ⟨g,0,Y⟩) (Z b) l) (Z b) ((fD b (k+1)).flatMap Cl)):=by
    (have HD:j<Z ((fD b k).set k B):=by rw[ou];exact P);have h:=(BN (BN (BN (BN (BN (BN (BN (BN d (4*k) (O u)) (4*k+1) (U D E C)) (4*k+2) (X J L)) (4*k+3) (U q H s)) (4*j) (O t)) (4*j+1) (U I y M)) (4*j+2) (X J N)) (4*j+3) (U z o G));have e:(fD b (k+1)).flatMap Cl=(((((((((fD b k).flatMap Cl).set (4*k) (O u)).set (4*k+1) (U D E C)).set (4*k+2) (X J L)).set (4*k+3) (U q H s)).set (4*j) (O t)).set (4*j+1) (U I y M)).set (4*j+2) (X J N)).set (4*j+3) (U z o G):=by
     obtain⟨p1,p2,p3,p4⟩:=FO;obtain⟨q1,q2,q3,q4⟩:=HQ;rw[Aa Ha,aq _ _ HD,aq _ _ S,p1,p2,p3,p4,q1,q2,q3,q4]
    rw[e];rw[IK]at h;simp only[Nat.mul_comm 4]at h⊢;exact h
   have HJ:nc (Ac (U (V ⟨g,0,Y⟩) (Z b) l).ownBlock.toList w ((((((((wr.setCell ⟨g,k*4,Y⟩ (O u)).setCell ⟨g,k*4+1,Y⟩ (U D E C)).setCell ⟨g,k*4+2,Y⟩ (X J L)).setCell ⟨g,k*4+3,Y⟩ (U q H s)).setCell ⟨g,j*4,Y⟩ (O t)).setCell ⟨g,j*4+1,Y⟩ (U I y M)).setCell ⟨g,j*4+2,Y⟩ (X J N)).setCell ⟨g,j*4+3,Y⟩ (U z o G))):=((((((((HK.setCell (p:=⟨g,k*4,Y⟩) (lo (by simp[qX])) (O u)).setCell (p:=⟨g,k*4+1,Y⟩) (lo (by simp[qX])) (U D E C)).setCell (p:=⟨g,k*4+2,Y⟩) (lo (by simp[qX])) (X J L)).setCell (p:=⟨g,k*4+3,Y⟩) (lo (by simp[qX])) (U q H s)).setCell (p:=⟨g,j*4,Y⟩) (lo (by simp[qX])) (O t)).setCell (p:=⟨g,j*4+1,Y⟩) (lo (by simp[qX])) (U I y M)).setCell (p:=⟨g,j*4+2,Y⟩) (lo (by simp[qX])) (X J N)).setCell (p:=⟨g,j*4+3,Y⟩) (lo (by simp[qX])) (U z o G));have HF:=Ab (Ad Go (re [] _).drew);have HL:=Ab HJ.drew;clear d EM FL Q R A1 BT AB B9 CC T Bx AH HW S P;go_wp2_with fail
   go_region_o
   all_goals go_wp2
   go_roundg (Z b-(k+1))
   case measure=>have:=Aa HG;omega
   case rel=>exact⟨k+1,congrArg (X J) (by omega),congrArg (X J) (by omega),by omega,rfl,HF,HL⟩
  .have FT:nc (oi wr F 176 4 (U m (Z b) l) (Z b) (b.reverse.flatMap Cl)):=by
    have h:=Aa HW;rw[jh b hk (by omega)]at h;exact h
   (have HA:¬(k:Int)<(Z b:Int)-1-k:=by omega);go_wp2;go_end0;exact⟨⟨_,rfl⟩,FT,HK⟩
structure dI(w w5:ly)(NB RB:Nat)(sts:rc (Nat×Vy))(T:rc Af)(A:rc DG)(Nd:rc Af)(M:rc Nat)(W:ly):Prop where
 kept:Ac [] w W
 each:∀p∈sts,L6 W p.2
 sub:∀f∈Nd,f∈T
 out:∃(nad:Option Addr) (ncp:Nat) (ns:rc Eb) (rad:Option Addr) (rcp:Nat) (rs:rc (Nat×Vy)),
  AI W NB [U nad (Z ns) ncp] 115/\Io W (U nad (Z ns) ncp) ns/\Cx ns Nd/\
  (∀q,(U nad (Z ns) ncp).ownBlock=V q->w.heap.size<=q/\∀p∈sts,p.2.n.ownBlock≠V q)/\
  AI W RB [U rad (Z rs) rcp] 137/\oi W w5.heap.size 176 4 (U rad (Z rs) rcp) (Z rs) (rs.flatMap Cl)/\
  rs.map (λp=>(p.1,p.2.f.f))=A.map (λh=>(h.1,Bq h.2.head))/\(∀p∈rs,p∈sts)/\
  M=NB::RB::((U nad (Z ns) ncp).ownBlock.toList++(U rad (Z rs) rcp).ownBlock.toList)
def dI.own{r:rc (Nat×Vy)}{st:rc Nat->rc DG×rc Af}(E:w.heap.size<=i):OwnFrom i (fun(s:rc Nat×rc Nat) W=>dI w u n m r f (st s.1).1 (st s.1).2 s.2 W):=
 BF (λs W G M h k a=>by
  obtain⟨o,A,t,F,x,C,e,b,D,y,g,l,z⟩:=h.out
  refine⟨DS h.kept k a E,λp c=>(h.each p c).map (λq d=>Ag (v:=q.tv) d k (BZ (v:=q.tv) a d)) (λj=>Ag j k (BZ a j)),h.sub,o,A,t,F,x,C,e.kept k (C3 a e),⟨Ag b.row k (BZ a b.row),λp c=>⟨Ag (v:=p.tv) (b.each p c).1 k (BZ (v:=p.tv) a (b.each p c).1),(b.each p c).2⟩⟩,D,y,g.kept k (C3 a g),Ag l k (BZ a l),z⟩)
def dI.calm{c:rc (Nat×Vy)}{A:rc DG}{a:rc Af}{W b:ly}(h:dI w v n m c f A a M W)(k:Ac [] W b):dI w v n m c f A a M b:=
 BD (dI.own (st:=λ_=>(A,a)) (mP w.heap.size)) (s:=([],M)) h k
def dI.lt{w l:ly}{g j:Nat}{c:rc (Nat×Vy)}{T:rc Af}{A:rc DG}{f:rc Af}{M:rc Nat}{W:ly}(h:dI w l g j c T A f M W):∀k∈M,k<W.heap.size:=by
 obtain⟨m,r,n,v,o,s,d,b,u,p,e,i,q,t,rfl⟩:=h.out;intro k a;simp only[mA,mF,oK]at a;rcases a with rfl|rfl|a|a
 .exact d.lt
 .exact e.lt
 .exact(b.row.lt k a).2
 .exact(i.lt k a).2
structure Ud(M:rc Nat)(W:ly)(M2:rc Nat)(wz:ly):Prop where
 kept:Ac M W wz
 mem:∀k∈M2,(k∈M\/W.heap.size<=k)/\k<wz.heap.size
def Ud.step{M c e:rc Nat}(h:Ud M w c v)(k:Ac c v u)(d:∀q∈e,(q∈c\/v.heap.size<=q)/\q<u.heap.size):Ud M w e u:=by
 refine⟨h.kept.trans' k (λq a=>(h.mem q a).1),λq a=>⟨?_,(d q a).2⟩⟩;rcases(d q a).1 with b|b
 .exact(h.mem q b).1
 .exact lx (nD h.kept.size b)
def fW{R:rc DG}(b:j<Z R)(a:rc DG×rc Af):(R.take (j+1)).foldl Hi a=Hi ((R.take j).foldl Hi a) R[j]:=by
 rw[mx b,nH];rfl
def Rz:∀(R:rc DG) (a:rc DG×rc Af),Z (R.foldl Hi a).1<=Z a.1+Z R
 |[],a=>by simp
 |h::R,a=>by
  rw[nh];have b:=Rz R (Hi a h);have c:Z (Hi a h).1<=Z a.1+1:=by
   unfold Hi;split
   .simp
   .omega
  rw[mL];omega
def iY{a d:rc Nat}(h:(List.range n).reverse=a++m::d):Z a<n/\m=n-1-Z a:=by
 have c:=congrArg List.length h;simp at c;have b:=congrArg (λl=>l[Z a]?) h;simp only[px (mP _),Nat.sub_self,List.getElem?_cons_zero]at b;have e:Z a<n:=by omega
 rw[List.getElem?_reverse (by simp;omega),List.length_range,List.getElem?_range (by omega)]at b;exact⟨e,by have:=pH b;omega⟩
theorem gE(lad:Option Addr)(lcp:Nat)(pcs:rc CU)(rcs:rc AV)(F:Af)(fp:Eb)(w:ly)(hP:CE w (U lad (Z pcs) lcp) pcs)(hB:Im pcs rcs)(hf:fp.f=Bq F)(hc:AL F)(hpf:C8 w fp)(hfl:Z fp.f.zC<=1000):
  Calls prog 98 #[U lad (Z pcs) lcp,.agg (AM fp).toArray] w λr w'=>∃(ad:Option Addr) (cp:Nat) (sts:rc (Nat×Vy)) (s:rc Af) (hs:rc DG) (L:zA->Nat) (N:Nat),r=.returned (U ad (Z sts) cp)/\oi w' 0 176 4 (U ad (Z sts) cp) (Z sts) (sts.flatMap Cl)/\(∀p∈sts,C8 w' p.2.f/\Z p.2.f.f.zC<=1000/\∃a n c,p.2.n=U a n c)/\sts.map (λp=>(p.1,p.2.f.f))=(Jv hs F).map (λh=>(h.1,Bq h.2.head))/\ZT rcs hs s/\CG rcs L/\Hm rcs L N s/\(∀c∈rcs,L c.head.name<N)/\Ac [] w w':=by
 obtain⟨i0,hi0,hz0,hz1,hz2⟩:=nC Tryz.zv;obtain⟨⟨fn,fts⟩,ftv⟩:=fp;obtain⟨fad,fcp,e⟩:=Al hpf;simp only at e hf hfl;subst e;simp only[AM];obtain⟨N,hN⟩:=rd w.heap.size;have HN:=Ab hN;have HK2:=Ab (((re [] w).alloc (j1 [O fn,U fad (Z fts) fcp].toArray 104)).alloc (j1 [U Y 0 0].toArray 115));have HBx:=Ab ((rf w [O fn,U fad (Z fts) fcp] 104).alloc (j1 [U Y 0 0].toArray 115));have HBn:=Ab (rf (w.alloc (j1 [O fn,U fad (Z fts) fcp].toArray 104)) [U Y 0 0] 115);rw[m9]at HBn;have HPf:=Ab hpf;have HF:=Ab hf;have HC:=Ab hc;have HFL:nc (Z fts<=1000):=hfl;have HPr:=Ab hP;have HBo:=Ab hB;obtain⟨QQ,hQQ⟩:=rd (Lj (bodyPostM Fence.wide 0 prog Tryz.f98 λr w'=>∃(ad:Option Addr) (cp:Nat) (sts:rc (Nat×Vy)) (s:rc Af) (hs:rc DG) (L:zA->Nat) (N:Nat),r=.returned (U ad (Z sts) cp)/\oi w' 0 176 4 (U ad (Z sts) cp) (Z sts) (sts.flatMap Cl)/\(∀p∈sts,C8 w' p.2.f/\Z p.2.f.f.zC<=1000/\∃a n c,p.2.n=U a n c)/\sts.map (λp=>(p.1,p.2.f.f))=(Jv hs F).map (λh=>(h.1,Bq h.2.head))/\ZT rcs hs s/\CG rcs L/\Hm rcs L N s/\(∀c∈rcs,L c.head.name<N)/\Ac [] w w'));have HQQ:=Ab hQQ;clear hpf hf hc hP hB hN hfl;refine En func98 rfl (GP ?_);rw[hQQ];clear hQQ;simp only[ntmps98,nQ,mL,m8,Nat.reduceAdd,Nat.reduceSub,pd,pg,pD,pm,nM,ot];refine ra (λKK HKK=>?_);go_wp2;refine HKK _ _ ?_;clear HKK KK;refine ra (λKK HKK=>?_);go_wp2;refine HKK _ _ ?_;clear HKK KK;change Code.wp _ _ _ _ ((w.alloc (j1 [O fn,U fad (Z fts) fcp].toArray 104)).alloc (j1 [U Y 0 0].toArray 115));generalize(w.alloc (j1 [O fn,U fad (Z fts) fcp].toArray 104)).alloc (j1 [U Y 0 0].toArray 115)=w2 at HK2 HBx HBn⊢;rw[Aa HN]at HBx HBn⊢;have HAd:=Ab (OP (N+1) 0 [U Y 0 0] 115 Y 0 [] ⟨⟨fn,fts⟩,U fad (Z fts) fcp⟩ w2 HBn rfl (by decide) (by decide) ⟨mS _ _ _ _,λp hp=>by simp at hp⟩ (HPf.kept HK2) HFL (by simp) (λi j hi=>by simp at hi));simp only[AM]at HAd;have b0:=HBx.cell 0;have b1:=HBx.cell 1;simp at b0 b1;refine ra (λKK HKK=>?_);go_wp2_with fail
 refine HAd.mono ?_;rintro _ w3 ⟨rfl,hA⟩;obtain⟨p0,nad0,ncp0,hcut0,hnb0,hps0,how0⟩:=hA.out;have hadd:LG [] ⟨⟨fn,fts⟩,U fad (Z fts) fcp⟩ p0=[⟨⟨fn,fts⟩,U fad (Z fts) fcp⟩]:=by
  unfold LG De;simp
 rw[hadd]at hnb0 hps0 how0;have hk3:Ac [] w w3:=HK2.trans' hA.kept (λq hq=>lx (by
  have:=Aa HN
  simp[qX]at hq
  omega))
 simp only[mr]at hnb0;have HKw3:=Ab hk3;have HNb3:=Ab hnb0;have HPs3:=Ab hps0;have HOw3:nc (∀q,(U nad0 1 ncp0).ownBlock=V q->w.heap.size<=q/\q<w3.heap.size):=λq hq=>by
  rcases how0 q hq with h|h
  .simp[qX]at h
  .exact⟨nD HK2.size h,(hps0.row.lt q hq).2⟩
 have HSe3:nc (Cx [⟨⟨fn,fts⟩,U fad (Z fts) fcp⟩] [F]):=⟨by simp only[mU,oH];rw[Aa HF],List.pairwise_singleton _ _,λf hf=>by simp at hf;rw[hf];exact HC⟩;clear HAd hA hcut0 hnb0 hps0 how0 hadd hk3 b0 b1 HBx HBn;go_wp2;refine HKK _ _ ?_;clear HKK KK;have HK4:=Ab ((re [] w3).alloc (j1 [U Y 0 0].toArray 137));have HR4:=Ab (rf w3 [U Y 0 0] 137);refine ra (λKK HKK=>?_);go_wp2;refine HKK _ _ ?_;clear HKK KK;change Code.wp _ _ _ _ (w3.alloc (j1 [U Y 0 0].toArray 137));generalize w3.alloc (j1 [U Y 0 0].toArray 137)=w4 at HK4 HR4⊢;obtain⟨RB,hRB⟩:=rd w3.heap.size;have HRB:=Ab hRB;rw[hRB]at HR4⊢;clear hRB;have HGo:=Ab (MW lad lcp pcs rcs w4 (HPr.kept (HKw3.trans HK4)) HBo);refine ra (λKK HKK=>?_);refine ra (λK5 HK5=>?_);go_wp2_with fail
 refine HGo.mono ?_;rintro _ w6 ⟨cb,s,hs,L,NN,rfl,hCo,hRe,hLv,hIn,hTop⟩;obtain⟨sad,scp,fs,tad,tcp,sts,hcb,-,-,hrow,-,-,hsti⟩:=hCo.out;have hsl:Z s=Z sts:=by
  have h1:=hrow.1;rw[aB]at h1;omega
 rw[hsl]at hcb hrow;have c2:=hcb.cell 2;simp at c2;have hway:=HBo.zd hIn;have HBk:=Ab (Vc tad (Z sts) tcp w6);clear HGo;go_wp2_with fail
 refine HBk.mono ?_;rintro _ w5 ⟨b1,rfl,hb1,hb1l,k5⟩;have hk46:=hCo.kept;have HSti:nc (YM w5 w4.heap.size (U sad (Z fs) scp) hs sts):=hsti.kept k5;have HRow:=Ab (Ad hrow k5);have HB1:=Ab hb1;have HK45:nc (Ac [] w4 w5):=hk46.trans k5;have HW6:nc (w4.heap.size<=w6.heap.size):=hk46.size;have HPl:nc (ZT rcs hs s/\CG rcs L/\Hm rcs L NN s/\(∀c∈rcs,L c.head.name<NN)):=⟨hRe,hLv,hIn,hTop⟩;have HWay:=Ab hway;have HSl:=Ab hsl;clear hCo hRe hLv hIn hTop hcb hrow hsti hsl c2 hway HBk hb1 k5 hk46;go_wp2;refine HK5 _ _ ?_;clear HK5 K5;refine wp_block ?_;have HWs:nc (RB<w4.heap.size/\N+1<RB/\w4.heap.size<=w5.heap.size/\w4.heap.size<=b1/\w.heap.size<=N):=by
  have h1:=HR4.lt;have h2:=HNb3.lt;have h3:=Aa HRB;have h4:=HK45.size;have h5:=Aa HW6;have h6:=Aa HN;exact⟨h1,by omega,h4,by omega,by omega⟩
 have HKw5:nc (Ac [] w w5):=(HKw3.trans HK4).trans HK45;have HK35:nc (Ac [] w3 w5):=HK4.trans HK45;have HFo:nc (∀x,x<Z sts->∃A0 pa pn pc A2 qa qn qc,aR sts x=[O A0,U pa pn pc,X J (A2:Nat),U qa qn qc]):=by
  intro x hx;have h:=(HSti.each sts[x] (mw hx)).1;obtain⟨pa,pc,e1⟩:=Al h.pf;obtain⟨qa,qc,e2⟩:=h.sl;refine⟨sts[x].2.f.f.name,pa,sts[x].2.f.f.zC.length,pc,sts[x].1,qa,sts[x].2.ns.length,qc,?_⟩;unfold aR;rw[mG hx];show[_,sts[x].2.f.tv,_,sts[x].2.n]=_;rw[e1,e2]
 have zk:=cZ b1 tad tcp sts w5 ((N+1)::RB::((U nad0 1 ncp0).ownBlock.toList++(U Y 0 0).ownBlock.toList)) ⟨by have h:=HB1.cell 0;simpa using h,Ak HRow (mO _),λk hk=>by
  have hw:=Aa HWs
  have hkl:k<w4.heap.size:=by
   simp only[mA,mF,oK]at hk
   rcases hk with rfl|rfl|hk|hk
   .omega
   .omega
   .have h1:=(HOw3 k hk).2
    have h2:=HK4.size
    omega
   .simp[qX]at hk
  exact⟨by omega,λh=>by have:=(HRow.lt k h).1;omega,by omega⟩⟩ (by have:=HWay.2.2;have:=Aa HSl;omega)
 have HI0:nc (dI w w5 (N+1) RB sts (F::s) [] [F] ((N+1)::RB::((U nad0 1 ncp0).ownBlock.toList++(U Y 0 0).ownBlock.toList)) w5):=by
  refine⟨HKw5,λp hp=>(HSti.each p hp).1,λf hf=>by simp at hf;simp[hf],nad0,ncp0,_,Y,0,[],HNb3.kept HK35,HPs3.kept HK35,HSe3,λq hq=>⟨(HOw3 q hq).1,λp hp he=>?_⟩,HR4.kept HK45,mS _ _ _ _,rfl,λp hp=>by simp at hp,rfl⟩;have h1:=((HSti.each p hp).2 q he).1;have h2:=(HOw3 q hq).2;have h3:=HK4.size;omega
 have hM0:=HI0.lt;have hw5:w.heap.size<=w5.heap.size:=HKw5.size;refine UZ (encs:=i9 sts) rfl (enters_of func182 (by kernel_rfl) rfl) zk (λ_=>rfl) hM0 (λpre M W=>dI w w5 (N+1) RB sts (F::s) ((hs.reverse.take (Z pre)).foldl Hi ([],[F])).1 ((hs.reverse.take (Z pre)).foldl Hi ([],[F])).2 M W) (λ_ _ _ _=>False) (dI.own (st:=λpre=>(hs.reverse.take (Z pre)).foldl Hi ([],[F])) hw5) (λ_ _ _ _ _ h _ _=>h) HI0
  (λn0 x a' W=>AI W n0 (aR sts x) 176/\a'=⟨#[U lad (Z pcs) lcp,.agg #[O fn,U fad (Z fts) fcp],undef,j3 (V ⟨N,0,Y⟩),U Y 0 0,j3 (V ⟨N+1,0,Y⟩),j3 (V ⟨RB,0,Y⟩),undef,j3 (V ⟨n0,0,Y⟩),undef,undef,.agg #[O fn,U fad (Z fts) fcp],.tuple #[],U lad (Z pcs) lcp,j3 (V ⟨cb,0,Y⟩),j3 (V ⟨cb,0,Y⟩),j3 (V ⟨cb,2,Y⟩),U tad (Z sts) tcp,.func (.func 182) #[] #[j3 (V ⟨b1,0,Y⟩)],X J x,.agg (aR sts x).toArray,undef,undef,undef,undef,undef,undef,undef,undef,undef,undef,undef,undef,undef,undef,undef,undef,undef,undef,undef,undef,undef],[]⟩)
  (λn0 x a'=>BF (λ_ W W' M h k hM=>⟨h.1.kept k (C3 hM h.1),h.2⟩)) ?rassign ?rbody ?rdone ?rstop
 case rassign=>
  intro l x W' K hx _ HK;have HKK2:nc (∀a' W'',Ac [] W' W''->_->K a' W''):=HK;have hx':x<Z sts:=by
   rw[List.mem_reverse,qr]at hx;exact hx
  obtain⟨A0,pa,pn,pc,A2,qa,qn,qc,hst⟩:=HFo x hx';unfold i9;rw[hst]at HKK2⊢;have HBz:=Ab (rf W' [O ⟨#[]⟩,U Y 0 0,X J 0,U Y 0 0] 176);have z0:=HBz.cell 0;have z1:=HBz.cell 1;have z2:=HBz.cell 2;have z3:=HBz.cell 3;have y0:=HBz.frozen 0;have y1:=HBz.frozen 1;have y2:=HBz.frozen 2;have y3:=HBz.frozen 3;simp at z0 z1 z2 z3;clear HK hst zk;refine AN (by rfl) (Hj Ga) ?_;go_wp2;exact HKK2 _ _ ((re [] W').alloc _) ⟨rf W' [O A0,U pa pn pc,X J (A2:Nat),U qa qn qc] 176,rfl⟩
 case rbody=>
  intro l n0 pre x rest M a' W hxs hi hM hn0 hn1 hax;obtain⟨hbx,rfl⟩:=hax;obtain⟨hpl,hxe⟩:=iY hxs;have hhl:Z hs=Z sts:=by have h:=congrArg List.length HSti.eq;simpa using h.symm
  have hx:x<Z sts:=by omega
  have hxh:x<Z hs:=by omega
  have hrx:hs.reverse[Z pre]'(by simp;omega)=hs[x]:=by
   rw[List.getElem_reverse]
   congr 1
   omega
  have hnext:(hs.reverse.take (Z (pre++[x]))).foldl Hi ([],[F])=Hi ((hs.reverse.take (Z pre)).foldl Hi ([],[F])) hs[x]:=by
   rw[mM,List.length_singleton,fW (by simp;omega),hrx]
  obtain⟨⟨A,Nd⟩,hAN⟩:∃a,(hs.reverse.take (Z pre)).foldl Hi ([],[F])=a:=⟨_,rfl⟩;rw[hAN]at hnext hi;simp only at hi;obtain⟨H,hH⟩:=rd (hs[x]);rw[hH]at hnext;have hHm:H∈hs:=by rw[<-hH];exact mw hxh
  have hHs:H.2.head∈s:=(HPl.1.mem _).2 (mD.2 ⟨H,hHm,rfl⟩);have hHp:∀g∈H.2.pos,g∈s:=by
   obtain⟨_,_,_,_,h4,_⟩:=HPl.1.each x hxh;rw[hH]at h4;intro g hg;obtain⟨y,hy,e⟩:=mD.1 (h4 g hg);exact(HPl.1.mem g).2 (mD.2 ⟨y,ow hy,e⟩)
  have HPl3:nc (Z H.2.pos<=1000):=by
   obtain⟨h1,σ,_,h3,_,_⟩:=HPl.1.each x hxh;simp only[hH]at h1 h3;have h5:=(HBo.pass.order.small.2 _ (mw h1)).1;show Z H.2.pos<=1000;rw[h3];show Z (((An _).filter _).map _)<=1000;rw[mI];have h6:=oo (λx:Bw=>x.kind==97) (An rcs[H.1]);(have h7:Z (An rcs[H.1])=rcs[H.1].bl.length:=by unfold An;rw[mI]);omega
  have hst:=congrArg (λl=>l[x]?) HSti.eq;simp only[n6,mG hx,mG hxh,ox,mB,hH,ny]at hst;obtain⟨hs1,hs2,hs3⟩:=hst;have hmem:sts[x]∈sts:=mw hx;have hsA:aR sts x=Cl sts[x]:=by unfold aR;rw[mG hx];rfl
  rw[hsA]at hbx;simp only[hsA];obtain⟨⟨num,⟨⟨fnm,fth⟩,ftv⟩,nv,nps⟩,hsx⟩:∃p,sts[x]=p:=⟨_,rfl⟩;rw[hsx]at hs1 hs2 hs3 hmem hbx;simp only[hsx];simp only at hs1 hs2 hs3;obtain⟨pa,pc,e1⟩:=Al (hi.each _ hmem).pf;obtain⟨qa,qc,e2⟩:=(hi.each _ hmem).sl;simp only at e1 e2;subst e1 e2;subst hs1;have HPost:nc (∀A' Nd' M2 wz,Hi (A,Nd) H=(A',Nd')->dI w w5 (N+1) RB sts (F::s) A' Nd' M2 wz->Ud M W M2 wz->Mw (λpre M W=>dI w w5 (N+1) RB sts (F::s) ((hs.reverse.take (Z pre)).foldl Hi ([],[F])).1 ((hs.reverse.take (Z pre)).foldl Hi ([],[F])).2 M W) (λ_ _ _ _=>False) (pre++[x]) M W .normal ⟨#[],[]⟩ wz):=by
   intro A' Nd' M2 wz he hW hO;refine⟨hO.kept,M2,?_,hO.mem⟩;show dI w w5 (N+1) RB sts (F::s) ((hs.reverse.take (Z (pre++[x]))).foldl Hi ([],[F])).1 ((hs.reverse.take (Z (pre++[x]))).foldl Hi ([],[F])).2 M2 wz;rw[hnext,he];exact hW
  have HMn:=Ab hM;have HAl:nc (Z A<=7000):=by
   have h1:=Rz (hs.reverse.take (Z pre)) ([],[F]);rw[hAN,nu]at h1;have h2:=HWay.2.2;have h3:=Aa HSl;simp only[m8]at h1;show Z A<=7000;omega
  have HNl:nc (∀(ns:rc Eb) (Nd':rc Af),Cx ns Nd'->(∀f∈Nd',f∈F::s)->Z ns<=7000):=by
   intro ns Nd' h1 h2;have h3:=IE Nd' (F::s) (h1.zG.nodup h1.canon) h2;have h4:=h1.len;have h5:=HWay.2.2;simp only[mL]at h3;omega
  have HCh:nc (AL H.2.head):=HWay.2.1 _ hHs;have HCp:nc (∀g∈H.2.pos,AL g/\g∈F::s):=λg hg=>⟨HWay.2.1 _ (hHp g hg),no _ (hHp g hg)⟩
  have HHd:nc ((⟨fnm,fth⟩:CJ)=Bq H.2.head):=hs2;have HNs:nc (nps.map Eb.f=H.2.pos.map Bq):=hs3;have HMem:=Ab hmem;have HS0:=Ab hi;have HBx:=Ab hbx;have HOt:nc (Ud M W M W):=⟨re _ _,λk hk=>⟨lo hk,hi.lt k hk⟩⟩;have HHas:nc (∀wz,dI w w5 (N+1) RB sts (F::s) A Nd M wz->Calls prog 60 #[j3 (V ⟨N+1,0,Y⟩),.agg #[O fnm,U pa (Z fth) pc]] wz λr w'=>r=.returned (.bool (DB Nd H.2.head))/\Ac [] wz w'):=by
   intro wz hz;obtain⟨nad,ncp,ns,rad,rcp,rs,g1,g2,g3,_⟩:=hz.out;have hc0:=g1.cell 0;simp at hc0;have hin:=(hz.each _ HMem);refine(JO (N+1) 0 nad ncp ns ⟨⟨fnm,fth⟩,U pa (Z fth) pc⟩ wz hc0 g2 hin.pf hin.len (by have:=Aa HNl ns Nd g3 hz.sub;omega) (g3.mono _)).mono ?_;rintro e w' ⟨p,rfl,hcut,k⟩;simp only at hcut⊢;rw[Aa HHd]at hcut⊢;exact⟨by rw[g3.zk (Aa HCh) hcut],k⟩
  clear hi hbx hmem hsx hsA hs2 hs3 hHp hHs hHm hH hAN hnext hrx hhl hxs hM zk hpl hxe hx hxh HFo;have e0:=HBx.cell 0;have e1:=HBx.cell 1;simp[Cl,Ly]at e0 e1;simp only[Cl,Ly]at HBx⊢;refine wpIn_block ?_;refine ol (λK8 hK8=>?_);have HK8:=Ab hK8;clear hK8;refine ol (λK7 hK7=>?_);have HK7:=Ab hK7;clear hK7;refine AN (by rfl) (by rintro ⟨_,_,h⟩;exact h) ?_;go_wp2_with fail
  refine(HHas W HS0).mono ?_;rintro _ w7 ⟨rfl,k7⟩;have HK7a:=Ab k7;clear HHas k7 e0 e1;go_wp2;refine HK7 _ _ ?_;clear HK7 K7;have HS7:=Ab (HS0.calm HK7a);have HO7:nc (Ud M W M w7):=HOt.step (HK7a.mono (by simp)) (λq hq=>⟨lo hq,oz (HS0.lt q hq) HK7a.size⟩);have HBx7:=Ab (HBx.kept HK7a);clear HS0 HOt HBx HK7a;cases hhf:DB Nd H.2.head with
  |false=>
   refine pO rfl (wpIn_exit ?_);exact HPost A Nd M _ (by unfold Hi;rw[mJ (by rw[hhf];simp)]) HS7 HO7
  |true=>
   refine pJ rfl (wpIn_skip ?_);refine HK8 _ _ ?_;clear HK8 K8;(have HPo2:nc (∀M2 wz,dI w w5 (N+1) RB sts (F::s) (A++[H]) (H.2.pos.foldl A9 Nd) M2 wz->Ud M W M2 wz->Mw (λpre M W=>dI w w5 (N+1) RB sts (F::s) ((hs.reverse.take (Z pre)).foldl Hi ([],[F])).1 ((hs.reverse.take (Z pre)).foldl Hi ([],[F])).2 M W) (λ_ _ _ _=>False) (pre++[x]) M W .normal ⟨#[],[]⟩ wz):=λM2 wz=>HPost _ _ M2 wz (by unfold Hi;rw[mK hhf]));clear HPost hhf;obtain⟨nad,ncp,ns,rad,rcp,rs,g1,g2,g3,g4,g5,g6,g7,g8,hMe⟩:=(Aa HS7).out;have hrl:Z rs<=7000:=by
    have h:=congrArg List.length g7;rw[mI,mI]at h;have:=Aa HAl;omega
   have d0:=HBx7.cell 0;have d1:=HBx7.cell 1;have d2:=HBx7.cell 2;have d3:=(Aa HBx7).cell 3;have r0:=g5.cell 0;simp at d0 d1 d2 d3 r0;(have hw57:w5.heap.size<=w7.heap.size:=by have:=HO7.kept.size;omega);have HG1:=Ab g1;have HG2:=Ab g2;have HG3:=Ab g3;have HG4:=Ab g4;have HG5:=Ab g5;have HG6:=Ab g6;have HG7:=Ab g7;have HG8:=Ab g8;have HMe:=Ab hMe;clear g1 g2 g3 g4 g5 g7 g8 hMe;refine ol (λK8 hK8=>?_);have HK8:=Ab hK8;clear hK8;refine AN (by rfl) (by rintro ⟨_,_,h⟩;exact h) ?_;go_wp2_with (at_builtin;refine mZ _ rfl (.tmp 25) (.tmp 27) _ rfl w5.heap.size 176 i0 _ 4 72 underlying137 hi0 hz0 hz1 hz2 rfl (by omega) (U rad (Z rs) rcp) (Z rs) (rs.flatMap Cl) rfl (mE g6 _) ⟨w7.heap.size,0,Y⟩ 1 1 [O fnm,U pa (Z fth) pc,X J H.1,U qa (Z nps) qc] rfl rfl (mW (m7 w7 _)) (by simp[Value.oneCell']) (by omega) (by unfold maxLen;omega) (by omega) (by simp;omega) (w7.heap.size+1) (by simp) ?_;intro gg cp1 w9 ho1 hg1 ha1 hl1;have hR9:=(HG5.alloc (j1 #[O fnm,U pa (Z fth) pc,X J H.1,U qa (Z nps) qc] 176)).grown hg1 (Aq g6 HG5 (by decide));have c9:=hR9.cell 0;have f9:=hR9.frozen 0;simp at c9)
   have hM7:=Aa HMe;have kM:Ac M w7 (w9.setCell ⟨RB,0,Y⟩ (U (V ⟨gg,0,Y⟩) (Z rs+1) cp1)):=(((re M w7).alloc (j1 #[O fnm,U pa (Z fth) pc,X J H.1,U qa (Z nps) qc] 176)).grown hg1 (λq hq=>lo (by rw[hM7];simp[hq]))).setCell (p:=⟨RB,0,Y⟩) (lo (by rw[hM7];simp)) _;have hge:∀q∈M,w.heap.size<=q:=by
    intro q hq;have hw:=Aa HWs;rw[hM7]at hq;simp only[mA,mF,oK]at hq;rcases hq with rfl|rfl|hq|hq
    .omega
    .omega
    .exact(HG4 q hq).1
    .have:=(g6.lt q hq).1;omega
   have hrw:∀{b e sz n:Nat} {v:Value} {ys:rc Value},oi w7 b e sz v n ys->e≠176->e≠137->oi (w9.setCell ⟨RB,0,Y⟩ (U (V ⟨gg,0,Y⟩) (Z rs+1) cp1)) b e sz v n ys:=fun{b e sz n v ys} hr h1 h2=>by
    have hr3:=n5 (v:=v) (mE (v:=v) hr _) hg1 (by
     cases hpo:v.ownBlock with
     |none=>exact lo rfl
     |some q=>exact lx (λe=>Bh hr g6 h1 q hpo e.symm))
    exact Ah hr3 (Aq hr3 hR9 h2) _
   have HS10:nc (dI w w5 (N+1) RB sts (F::s) (A++[H]) Nd ((N+1)::RB::((U nad (Z ns) ncp).ownBlock.toList++[gg])) (w9.setCell ⟨RB,0,Y⟩ (U (V ⟨gg,0,Y⟩) (Z rs+1) cp1))):=by
    (have hne:N+1≠RB:=by have:=Aa HWs;omega);refine⟨HS7.kept.trans' kM (λq hq=>lx (hge q hq)),λp hp=>(HS7.each p hp).map (λq hq=>hrw (v:=q.tv) hq (by decide) (by decide)) (λhr=>hrw hr (by decide) (by decide)),HS7.sub,nad,ncp,ns,V ⟨gg,0,Y⟩,cp1,rs++[(H.1,⟨⟨⟨fnm,fth⟩,U pa (Z fth) pc⟩,U qa (Z nps) qc,nps⟩)],?_,⟨hrw HG2.row (by decide) (by decide),λp hp=>⟨hrw (v:=p.tv) (HG2.each p hp).1 (by decide) (by decide),(HG2.each p hp).2⟩⟩,HG3,HG4,?_,?_,?_,?_,rfl⟩
    .have h:=(HG1.alloc (j1 #[O fnm,U pa (Z fth) pc,X J H.1,U qa (Z nps) qc] 176)).grown hg1 (Aq g6 HG1 (by decide));exact h.zB ⟨RB,0,Y⟩ (Ne.symm hne) _
    .rw[mM];exact hR9.set 0 _
    .rw[mM,mY];exact Ah ho1 (Aq ho1 hR9 (by decide)) _
    .rw[nk,nk,Aa HG7];simp only[mU,oH];rw[Aa HHd]
    .intro p hp;rcases mF.1 hp with h|h
     .exact HG8 p h
     .simp only[my]at h;rw[h];exact HMem
   have HO10:nc (Ud M W ((N+1)::RB::((U nad (Z ns) ncp).ownBlock.toList++[gg])) (w9.setCell ⟨RB,0,Y⟩ (U (V ⟨gg,0,Y⟩) (Z rs+1) cp1))):=by
    refine HO7.step kM (λq hq=>⟨?_,HS10.lt q hq⟩);simp only[mA,mF,my,nI,or_false,oK]at hq;rcases hq with rfl|rfl|hq|rfl
    .exact lo (by rw[hM7];simp)
    .exact lo (by rw[hM7];simp)
    .exact lo (by rw[hM7];simp[hq])
    .rcases ha1 with h|h
     .exact lo (by rw[hM7];simp[h])
     .exact lx (by omega)
   have HBx10:=Ab (HBx7.kept kM (λhm=>by have:=Aa HMn n0 hm;omega));have HSc:nc (∃A1 Nd0 M1,A1=A++[H]/\Nd0=Nd/\dI w w5 (N+1) RB sts (F::s) A1 Nd0 M1 (w9.setCell ⟨RB,0,Y⟩ (U (V ⟨gg,0,Y⟩) (Z rs+1) cp1))/\Ud M W M1 (w9.setCell ⟨RB,0,Y⟩ (U (V ⟨gg,0,Y⟩) (Z rs+1) cp1))):=⟨_,_,_,rfl,rfl,HS10,HO10⟩;go_wp2;refine HK8 _ _ ?_;clear HK8 K8;generalize w9.setCell ⟨RB,0,Y⟩ (U (V ⟨gg,0,Y⟩) (Z rs+1) cp1)=w10 at HS10 HO10 HBx10⊢;generalize(N+1)::RB::((U nad (Z ns) ncp).ownBlock.toList++[gg])=M1 at HS10 HO10;clear HSc hrw hge kM hM7 hR9 c9 f9 ho1 hg1 ha1 hl1 g6 HG1 HG2 HG3 HG4 HG5 HG6 HG7 HG8 HMe d0 d1 d2 d3 r0 hrl hw57 HS7 HO7 HBx7;have d3:=HBx10.cell 3;simp at d3;(have HPln:nc (Z nps=Z H.2.pos):=by show _=_;have h:=congrArg List.length HNs;simpa using h);have HS00:nc (dI w w5 (N+1) RB sts (F::s) (A++[H]) ((H.2.pos.take 0).foldl A9 Nd) M1 w10):=HS10;refine ol (λK4 hK4=>?_);have HK4:=Ab hK4;clear hK4;refine AN (by rfl) (by rintro ⟨_,_,h⟩;exact h) ?_;go_wp2;refine HK4 _ _ ?_;clear HK4 K4 d3;refine wpIn_block ?_
   gi_loopw [32] (λi wz=>∃(j:Nat) (M2:rc Nat),i=X J j/\j<=Z nps/\nc (dI w w5 (N+1) RB sts (F::s) (A++[H]) ((H.2.pos.take j).foldl A9 Nd) M2 wz)/\nc (Ud M W M2 wz)) (λi _=>Z nps-(intOf i).toNat)
   case atStart=>exact⟨0,M1,rfl,mO _,HS00,HO10⟩
   case round=>
    clear HS00 HO10 HS10 HBx10;obtain⟨j,M2,rfl,hj,HS,HO⟩:=hrel;by_cases hlj:j<Z nps
    .obtain⟨g,cap,n1,ts1,ad1,cp1,he,hnj,q0,q1⟩:=J5 (HS.each _ HMem).nds j hlj;simp only[mu]at he;obtain⟨rfl,-,rfl⟩:=he;(have hjp:j<Z H.2.pos:=by have:=Aa HPln;omega);have hnx:(H.2.pos.take (j+1)).foldl A9 Nd=A9 ((H.2.pos.take j).foldl A9 Nd) H.2.pos[j]:=by
      rw[mx hjp,nH];rfl
     have hfj:nps[j].f=Bq H.2.pos[j]:=by
      have h:=congrArg (λl=>l[j]?) HNs;simp only[n6,mG hlj,mG hjp,ox,mB]at h;exact h
     have hgc:=Aa HCp H.2.pos[j] (mw hjp);have hpj:=(HS.each _ HMem).nds.each nps[j] (mw hlj);obtain⟨G,hG⟩:=rd (H.2.pos[j]);rw[hG]at hnx hfj hgc;rw[hnj]at hfj hpj;obtain⟨Nj,hNj⟩:=rd ((H.2.pos.take j).foldl A9 Nd);rw[hNj]at hnx HS;have HNx:=Ab hnx;have HGc:=Ab hgc;have HFj:=Ab hfj;have HPj:=Ab hpj;(have hr0:(0:Int)<=(j:Int):=by omega);(have hr1:(j:Int)<(Z nps:Int):=by omega);(have hjb:j<1000:=by have:=Aa HPln;have:=Aa HPl3;omega);have HSa:=Ab (HS.calm ((re [] wr).alloc (j1 [O n1,U ad1 (Z ts1) cp1].toArray 104)));have HOa:nc (Ud M W M2 (wr.alloc (j1 [O n1,U ad1 (Z ts1) cp1].toArray 104))):=HO.step (((re [] wr).alloc _).mono (by simp)) (λq hq=>⟨lo hq,HSa.lt q hq⟩);have HBa:=Ab (rf wr [O n1,U ad1 (Z ts1) cp1] 104);have HPja:=Ab (HPj.1.kept ((re [] wr).alloc (j1 [O n1,U ad1 (Z ts1) cp1].toArray 104)));clear hnx hgc hfj hpj hG hNj hnj hjp;refine ol (λK4 hK4=>?_);have HK4:=Ab hK4;clear hK4;refine AN (by rfl) (by rintro ⟨_,_,h⟩;exact h) ?_;go_wp2;refine HK4 _ _ ?_;clear HK4 K4;refine ol (λK4 hK4=>?_);have HK4:=Ab hK4;clear hK4;refine pO rfl (wpIn_skip ?_);refine HK4 _ _ ?_;clear HK4 K4;refine ol (λK6 hK6=>?_);have HK6:=Ab hK6;clear hK6;refine wpIn_block ?_;refine ol (λK4 hK4=>?_);have HK4:=Ab hK4;clear hK4;refine AN (by rfl) (by rintro ⟨_,_,h⟩;exact h) ?_;go_wp2;refine HK4 _ _ ?_;clear HK4 K4 q0 q1;change Code.wpIn _ _ _ _ _ _ (wr.alloc (j1 [O n1,U ad1 (Z ts1) cp1].toArray 104));generalize wr.alloc (j1 [O n1,U ad1 (Z ts1) cp1].toArray 104)=wa at HSa HOa HBa HPja⊢;obtain⟨BA,hBA⟩:=rd wr.heap.size;rw[hBA]at HBa⊢;clear hBA HS HO;have q0:=(Aa HBa).cell 0;have q1:=(Aa HBa).cell 1;simp at q0 q1;obtain⟨nad,ncp,ns,rad,rcp,rs,g1,g2,g3,g4,g5,g6,g7,g8,hMe⟩:=(Aa HSa).out;have hnl:=Aa HNl ns Nj g3 (Aa HSa).sub;have HAd:=Ab (OP (N+1) 0 [U nad (Z ns) ncp] 115 nad ncp ns ⟨⟨n1,ts1⟩,U ad1 (Z ts1) cp1⟩ wa g1 rfl (by decide) (by decide) g2 (Aa HPja) (Aa HPj).2 (by omega) (g3.mono _));simp only[AM]at HAd;have HStp:nc (∀wb,VD (N+1) 0 [U nad (Z ns) ncp] 115 (U nad (Z ns) ncp) ns ⟨⟨n1,ts1⟩,U ad1 (Z ts1) cp1⟩ wa wb->∃M3,dI w w5 (N+1) RB sts (F::s) (A++[H]) ((H.2.pos.take (j+1)).foldl A9 Nd) M3 wb/\Ud M W M3 wb):=by
      intro wb hA;obtain⟨p,ad4,cp4,hcut,hnb,hps,how⟩:=hA.out;simp only[mr]at hnb;have hcut2:E8 ns (Bq G) p:=by
       have h:=hcut;simp only at h;rw[Aa HFj]at h;exact h
      have hse:Cx (LG ns ⟨⟨n1,ts1⟩,U ad1 (Z ts1) cp1⟩ p) (A9 Nj G):=by
       unfold LG;simp only;cases hh:De ns ⟨n1,ts1⟩ p with
       |true=>
        simp only[if_true];rw[Aa HFj]at hh;exact g3.yY HGc.1 hcut2 hh
       |false=>
        simp only[mC,if_false];have h2:=hh;rw[Aa HFj]at h2;exact g3.zu (x:=⟨⟨n1,ts1⟩,U ad1 (Z ts1) cp1⟩) HFj HGc.1 hcut2 h2
      have hkM:Ac M2 wa wb:=hA.kept.mono (λq hq=>by
       rw[hMe]
       rcases mA.1 hq with rfl|hq
       .simp
       .simp only[mA,mF];exact lx (lx (lo hq)))
      have hge:∀q∈M2,w.heap.size<=q:=by
       intro q hq;have hw:=Aa HWs;rw[hMe]at hq;simp only[mA,mF,oK]at hq;rcases hq with rfl|rfl|hq|hq
       .omega
       .omega
       .exact(g4 q hq).1
       .have:=(g6.lt q hq).1;omega
      have hrw:∀{b e sz n:Nat} {v:Value} {ys:rc Value},oi wa b e sz v n ys->e≠115->(∀q,v.ownBlock=V q->(U nad (Z ns) ncp).ownBlock≠V q)->oi wb b e sz v n ys:=fun{b e sz n v ys} hr h1 h2=>Ag hr hA.kept (λq hq hm=>by
       rcases mA.1 hm with rfl|hm
       .exact Aq hr g1 h1 hq
       .exact h2 q hq (by simpa using hm))
      have hnr:RB∉(N+1)::(U nad (Z ns) ncp).ownBlock.toList:=by
       intro hm;rcases mA.1 hm with h|h
       .have:=Aa HWs;omega
       .exact Aq g2.row g5 (by decide) (by simpa using h)
      have hsz:=hA.kept.size;have hS:dI w w5 (N+1) RB sts (F::s) (A++[H]) (A9 Nj G) ((N+1)::RB::((U ad4 (Z (LG ns ⟨⟨n1,ts1⟩,U ad1 (Z ts1) cp1⟩ p)) cp4).ownBlock.toList++(U rad (Z rs) rcp).ownBlock.toList)) wb:=by
       refine⟨HSa.kept.trans' hkM (λq hq=>lx (hge q hq)),λp' hp'=>(HSa.each p' hp').map (λq hq=>hrw (v:=q.tv) hq (by decide) (λq' hq'=>Bh (v1:=q.tv) hq g2.row (by decide) q' hq')) (λhr=>hrw hr (by decide) (λq' hq' he=>(g4 q' he).2 p' hp' hq')),λf hf=>?_,ad4,cp4,_,rad,rcp,rs,hnb,hps,hse,λq hq=>?_,g5.kept hA.kept hnr,hrw g6 (by decide) (λq' hq'=>Bh g6 g2.row (by decide) q' hq'),g7,g8,rfl⟩
       .rcases((Ct HGc.1 g3.zG g3.canon).2.2 f).1 hf with h|h
        .exact HSa.sub f h
        .rw[h];exact HGc.2
       .rcases how q hq with h|h
        .exact g4 q h
        .refine⟨nD HSa.kept.size h,λp' hp' he=>?_⟩;have:=((HSa.each p' hp').nds.row.lt q he).2;omega
      refine⟨_,by rw[Aa HNx];exact hS,HOa.step hkM (λq hq=>⟨?_,hS.lt q hq⟩)⟩;simp only[mA,mF,oK]at hq;rcases hq with rfl|rfl|hq|hq
      .exact lo (by rw[hMe];simp)
      .exact lo (by rw[hMe];simp)
      .rcases how q hq with h|h
       .exact lo (by rw[hMe];simp[h])
       .exact lx h
      .exact lo (by rw[hMe];simp[hq])
     clear g1 g2 g3 g4 g5 g6 g7 g8 hMe hnl HSa HOa HPja HPj HFj HGc HNx;refine AN (by rfl) (by rintro ⟨_,_,h⟩;exact h) ?_;(go_wp2_with fail);refine HAd.mono ?_;rintro _ wb ⟨rfl,hA⟩;obtain⟨M3,hS3,hO3⟩:=HStp wb hA;have HS3:=Ab hS3;have HO3:=Ab hO3;clear HAd HStp hA hS3 hO3 q0 q1 HBa;go_wp2;refine HK6 _ _ ?_;clear HK6;refine AN (by rfl) (by rintro ⟨_,_,h⟩;exact h) ?_;go_wp2
     go_roundw
     case rel=>exact⟨j+1,M3,by go_num,by omega,HS3,HO3⟩
     case measure=>simp[intOf];omega
    .have HSf:nc (dI w w5 (N+1) RB sts (F::s) (A++[H]) (H.2.pos.foldl A9 Nd) M2 wr):=by
      have h:=Aa HS;rw[mz (by have:=Aa HPln;omega)]at h;exact h
     have HP:=Ab (HPo2 M2 wr HSf HO);(have hr1:¬(j:Int)<(Z nps:Int):=by omega);clear HS HSf HO HPo2;refine ol (λK4 hK4=>?_);have HK4:=Ab hK4;clear hK4;refine AN (by rfl) (by rintro ⟨_,_,h⟩;exact h) ?_;go_wp2;refine HK4 _ _ ?_;clear HK4 K4;refine ol (λK4 hK4=>?_);have HK4:=Ab hK4;clear hK4 HK4;refine pJ rfl (wpIn_exit ?_);exact HP
 case rdone=>
  intro D M' W2 hD hi hd hMD;have hhl:Z hs=Z sts:=by have h:=congrArg List.length HSti.eq;simpa using h.symm
  have hst:(hs.reverse.take (Z (List.range (Z sts)).reverse)).foldl Hi ([],[F])=hs.reverse.foldl Hi ([],[F]):=by
   rw[mz (by simp;omega)]
  have hA:(hs.reverse.foldl Hi ([],[F])).1=(Jv hs F).reverse:=by
   rw[Ry];rfl
  have hi':dI w w5 (N+1) RB sts (F::s) (Jv hs F).reverse (hs.reverse.foldl Hi ([],[F])).2 M' W2:=by
   have h:=hi;rw[hst,hA]at h;exact h
  obtain⟨nad,ncp,ns,rad,rcp,rs,-,-,-,-,g5,g6,g7,g8,hMe⟩:=hi'.out;have hlen:Z rs<=7000:=by
   have h:=congrArg List.length g7;rw[mI,mI,List.length_reverse]at h;have h1:=Rz hs.reverse ([],[F]);rw[hA,List.length_reverse,List.length_reverse]at h1;have h2:=HWay.2.2;have h3:=Aa HSl;simp only[m8]at h1;omega
  have HRv:=Ab (WV w5.heap.size rad rcp rs W2 g6 (by omega) (λp hp=>by
   have h:=hi'.each p (g8 p hp)
   obtain⟨a,c,e⟩:=Al h.pf
   obtain⟨a2,c2,e2⟩:=h.sl
   exact⟨⟨a,_,c,e⟩,a2,_,c2,e2⟩))
  have HFin:nc (∀(tmps:Array Value) (w':ly),tmps.getD 4 undef=U rad (Z rs) rcp->oi w' w5.heap.size 176 4 (U rad (Z rs) rcp) (Z rs) (rs.reverse.flatMap Cl)->Ac (U rad (Z rs) rcp).ownBlock.toList W2 w'->QQ .ret ⟨tmps,[EU D]⟩ w'):=by
   intro tmps w' h4 hr hk;rw[<-Aa HQQ];(have hDn:D∉(U rad (Z rs) rcp).ownBlock.toList:=λhm=>hMD D (by rw[hMe];simp only[mA,mF];exact lx (lx (lx hm))) rfl);have hDl:D<W2.heap.size:=(nz.1 hd).1;have hd':w'.heap[D]?=V (.deferred (V [])):=(hk.block D hDl hDn).trans hd;have hmk:DC w.heap.size [D] w':=⟨by simp,λd hd2=>by simp only[my]at hd2;have:=HKw5.size;omega,λd hd2=>by simp only[my]at hd2;rw[hd2];exact hd'⟩;refine Dg [D] w' hmk (λw'' hsv=>?_);have hkw:Ac [] w w':=hi'.kept.trans' hk (λq hq=>lx (by have h1:=(g6.lt q (by simpa using hq)).1;have h2:=HKw5.size;omega));have hpf:∀p∈rs,C8 w' p.2.f:=λp hp=>by
    have h:=(hi'.each p (g8 p hp)).pf;exact Ag (v:=p.2.f.tv) h hk (λq hq hm=>Bh (v1:=p.2.f.tv) h g6 (by decide) q hq (by simpa using hm))
   have hown:OwnFrom w.heap.size (fun(_:Unit) W=>oi W w5.heap.size 176 4 (U rad (Z rs) rcp) (Z rs) (rs.reverse.flatMap Cl)/\(∀p∈rs,C8 W p.2.f)/\Ac [] w W):=BF (λ_ W W' M h kk hM=>⟨Ag h.1 kk (BZ hM h.1),λp hp=>Ag (v:=p.2.f.tv) (h.2.1 p hp) kk (BZ (v:=p.2.f.tv) hM (h.2.1 p hp)),DS h.2.2 kk hM (mP _)⟩);obtain⟨k1,k2,k3⟩:=hsv.own hown (s:=()) hmk ⟨hr,hpf,hkw⟩;obtain⟨l1,l2,l3,l4⟩:=HPl;refine⟨_,results_tmp rfl _ _ _,rad,rcp,rs.reverse,s,hs,L,NN,by rw[h4,List.length_reverse],by rw[List.length_reverse];exact Ak k1 (mO _),λp hp=>⟨k2 p (List.mem_reverse.1 hp),(hi'.each p (g8 p (List.mem_reverse.1 hp))).len,by obtain⟨a,c,e⟩:=(hi'.each p (g8 p (List.mem_reverse.1 hp))).sl;exact⟨a,_,c,e⟩⟩,?_,l1,l2,l3,l4,k3⟩;rw[List.map_reverse,g7,<-List.map_reverse,List.reverse_reverse]
  have r0:=g5.cell 0;simp at r0;have HR2:=Ab g5;have HApp:nc (∀w',Ac (U rad (Z rs) rcp).ownBlock.toList W2 w'->AI w' RB [U rad (Z rs) rcp] 137):=λw' hk=>g5.kept hk (λhm=>Aq g6 g5 (by decide) (by simpa using hm))
  clear hi hi' hd hMD hst hA hhl g5 g6 g7 g8 hMe zk hlen HR2;refine HKK _ _ ?_;clear HKK;refine ra (λK3 HK3=>?_);go_wp2_with fail
  refine HRv.mono ?_;rintro _ w8 ⟨⟨v8,rfl⟩,hr8,k8⟩;have hb8:=Aa HApp w8 k8;have r8:=hb8.cell 0;simp at r8;have HR8:=Ab hr8;have HK8:=Ab k8;clear HRv hr8 k8 hb8 r0 HApp;go_wp2;refine HK3 _ _ ?_;clear HK3 K3;refine ra (λK3 HK3=>?_);go_wp2;refine HK3 _ _ ?_;clear HK3 K3;refine wp_ret ?_;exact HFin _ _ rfl HR8 HK8
 case rstop=>
  intro D c pre M' W2 _ h _;exact h.elim
