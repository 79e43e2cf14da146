import Derived.Shelf.RegionOpenPlain
import Derived.LoopIn
import Derived.Test.YtoihbhenbmffcaaGreatDoorVBC
set_option linter.all false
set_option maxHeartbeats 0
open List renaming length->Z
open Option renaming none->Y,some->V
open Go.Value renaming slice->U,int->X,string->O,pointer->Gi,ownBlock->OC
open Go.IntKind renaming i64->J
open Go.Obj renaming cells->Dj
open Or renaming inl->Hd,inr->Hf
open Go renaming World->Hq
open Go.RowKit renaming Hid->JR
open Go.World renaming ownsRow->Mi
namespace Go.Proofs.YtoihbhenbmffcaaGreatDoor
open Go.RowKit Go.Proofs.Tryz
variable{k n m i j:Nat}{w u v:Hq}{f:QC Af}{M:QC Nat}
def eU{α:Type}(l:QC α):Nat->QC α
 |0=>l
 |k+1=>match l[k]?,l[Z l-1-k]? with
  |some a,V b=>((eU l k).set k b).set (Z l-1-k) a
  |_,_=>eU l k
def Ic{α:Type}(l:QC α):∀k,Z (eU l k)=Z l
 |0=>rfl
 |k+1=>by
  rw[eU];split
  .rw[nj,nj,Ic l k]
  .exact Ic l k
def Xb{α:Type}(l:QC α)(b:k<Z l)(a:Z l-1-k<Z l):eU l (k+1)=((eU l k).set k l[Z l-1-k]).set (Z l-1-k) l[k]:=by
 rw[eU,lN b,lN a]
def Vx{α:Type}(l:QC α):∀k,2*k<=Z l->∀i,i<Z l->(eU l k)[i]?=if i<k\/Z l-k<=i then l[Z l-1-i]? else l[i]?
 |0,_,i,hi=>by
  rw[lO (by omega)];rfl
 |k+1,hk,i,hi=>by
  rw[Xb l (by omega) (by omega)];by_cases b:i=Z l-1-k
  .subst b;rw[m5 (by rw[nj,Ic];omega),lS (by omega),show Z l-1-(Z l-1-k)=k by omega,lN]
  .rw[mK (by omega)];by_cases c:i=k
   .subst c;rw[m5 (by rw[Ic];omega),lS (by omega),lN]
   .rw[mK (by omega),Vx l k (by omega) i hi];by_cases a:i<k\/Z l-k<=i
    .rw[lS a,lS (by omega)]
    .rw[lO a,lO (by omega)]
def iA{α:Type}(l:QC α)(c:2*k<=Z l)(d:Z l<=2*k+1):eU l k=l.reverse:=by
 apply List.ext_getElem?;intro i;by_cases a:i<Z l
 .rw[Vx l k c i a,List.getElem?_reverse a];by_cases b:i<k\/Z l-k<=i
  .rw[lS b]
  .rw[lO b,show Z l-1-i=i by omega]
 .rw[List.getElem?_eq_none (by rw[Ic];omega),List.getElem?_eq_none (by simp;omega)]
def ZT(l:QC (Nat×UZ)):Z (l.flatMap Ci)=4*Z l:=by
 induction l with
 |nil=>rfl
 |cons a l ih=>rw[mc,lU,ih,lQ];simp[Ci,KI];omega
def ZD(l:QC (Nat×UZ))(k a:Nat)(c:a<4):(l.flatMap Ci)[4*k+a]?=(l[k]?).bind λp=>(Ci p)[a]?:=by
 induction l generalizing k with
 |nil=>simp
 |cons p l ih=>
  rw[mc];have b:Z (Ci p)=4:=rfl;cases k with
  |zero=>rw[List.getElem?_append_left (by omega)];simp
  |succ k=>
   rw[ow (by omega),b,show 4*(k+1)+a-4=4*k+a by omega,ih k];simp
def ZM(l:QC (Nat×UZ))(k:Nat)(c:k<Z l)(p:Nat×UZ):(l.set k p).flatMap Ci=((((l.flatMap Ci).set (4*k) (O p.2.f.f.name)).set (4*k+1) p.2.f.tv).set (4*k+2) (X J p.1)).set (4*k+3) p.2.n:=by
 apply List.ext_getElem?;intro i;have b:i=4*(i/4)+i%4:=by omega
 have a:i%4<4:=Nat.mod_lt _ (by omega);have m:=ZT l;by_cases d:i/4=k
 .have e:(((l.set k p).flatMap Ci)[i]?)=(Ci p)[i%4]?:=by
   rw[b,ZD _ _ _ (by omega),show(4*(i/4)+i%4)%4=i%4 by omega,d,m5 c];rfl
  rw[e];have g:i%4=0\/i%4=1\/i%4=2\/i%4=3:=by omega
  have j:4*k+4<=Z (l.flatMap Ci):=by omega
  rcases g with h|h|h|h
  .rw[h,mK (by omega),mK (by omega),mK (by omega),show i=4*k by omega,m5 (by omega)];rfl
  .rw[h,mK (by omega),mK (by omega),show i=4*k+1 by omega,m5 (by simp only[nj];omega)];rfl
  .rw[h,mK (by omega),show i=4*k+2 by omega,m5 (by simp only[nj];omega)];rfl
  .rw[h,show i=4*k+3 by omega,m5 (by simp only[nj];omega)];rfl
 .rw[mK (by omega),mK (by omega),mK (by omega),mK (by omega),b,ZD _ _ _ a,ZD _ _ _ a,mK (by omega)]
set_option maxRecDepth 100000
theorem Wq(F:Nat)(m:Option Addr)(l:Nat)(b:QC (Nat×UZ))(w:Hq)(hR:Mi w F 176 4 (U m (Z b) l) (Z b) (b.flatMap Ci))(HX:Z b<=900000)(EX:∀p∈b,(∃a n c,p.2.f.tv=U a n c)/\∃a n c,p.2.n=U a n c):
  Calls prog 146 #[U m (Z b) l] w λr w'=>(∃v,r=.returned v)/\Mi w' F 176 4 (U m (Z b) l) (Z b) (b.reverse.flatMap Ci)/\Ac (U m (Z b) l).ownBlock.toList w w':=by
 have HR:=Ab hR;have E0:=Ab EX;have mixed:prog.follows .mixedOrders=true:=by kernel_rfl
 clear hR EX;go_enter func146,ntmps146;have FB:JR (Mi w F 176 4 (U m (Z b) l) (Z b) ((eU b 0).flatMap Ci)):=HR;go_wp2_with fail
 go_loopg [2,3] (Z b) (λgk i jv wr=>∃(k:Nat),i=X J k/\jv=X J ((Z b:Int)-1-k)/\2*k<=Z b/\gk=Z b-k/\JR (Mi wr F 176 4 (U m (Z b) l) (Z b) ((eU b k).flatMap Ci))/\JR (Ac (U m (Z b) l).ownBlock.toList w wr))
 case atStart=>exact⟨0,rfl,by go_num,by omega,rfl,FB,SF _ _⟩
 case round=>
  clear FB;obtain⟨k,rfl,rfl,hk,FC,HW,HK⟩:=hrel;have HG:=Ab FC;clear FC;by_cases HY:2*k+1<Z b
  .obtain⟨j,hj⟩:=QP (Z b-1-k);(have HH:(Z b:Int)-1-k=(j:Int):=by omega);rw[HH];(have S:k<Z (eU b k):=by rw[Ic];omega);(have P:j<Z (eU b k):=by rw[Ic];omega);have d:=Aa HW;rw[<-Ic b k]at d;obtain⟨g,hg,a0,a1,a2,a3⟩:=JX (Al d (lW _)) k S;obtain⟨g',AR,b0,b1,b2,W⟩:=JX (Al d (lW _)) j P;rw[hg]at AR;simp only[lL,mu]at AR;obtain⟨rfl,-,-⟩:=AR;subst hg;have H2:=d.frozenAt (k*4);have H5:=d.frozenAt (k*4+1);have HU:=d.frozenAt (k*4+2);have HZ:=d.frozenAt (k*4+3);have H7:=d.frozenAt (j*4);have H1:=d.frozenAt (j*4+1);have H4:=d.frozenAt (j*4+2);have HS:=d.frozenAt (j*4+3);have EM:(eU b k)[k]=b[k]:=by
    have h:=Vx b k hk k (by omega);rw[lO (by omega),lN S,lN (by omega)]at h;simpa using h
   have FL:(eU b k)[j]=b[j]:=by
    have h:=Vx b k hk j (by omega);rw[lO (by omega),lN P,lN (by omega)]at h;simpa using h
   rw[EM]at a0 a1 a2 a3;rw[FL]at b0 b1 b2 W;obtain⟨A,Q⟩:=QP (b[k]);obtain⟨B,R⟩:=QP (b[j]);have Ha:JR (eU b (k+1)=((eU b k).set k B).set j A):=by
    show _=_;have h:=Xb b (show k<Z b by omega) (show Z b-1-k<Z b by omega);simp only[hj]at h;rw[h,Q,R]
   rw[Q]at a0 a1 a2 a3;rw[R]at b0 b1 b2 W;obtain⟨t,A1⟩:∃x,A.2.f.f.name=x:=⟨_,rfl⟩;obtain⟨⟨I,y,M,BS⟩,z,o,G,BT⟩:=E0 A (by rw[<-Q];exact lE _);obtain⟨⟨D,E,C,T⟩,q,H,s,AH⟩:=E0 B (by rw[<-R];exact lE _);obtain⟨N,AB⟩:∃x,A.1=x:=⟨_,rfl⟩;obtain⟨u,B9⟩:∃x,B.2.f.f.name=x:=⟨_,rfl⟩;obtain⟨L,Bx⟩:∃x,B.1=x:=⟨_,rfl⟩;have FO:JR (A.2.f.f.name=t/\A.2.f.tv=U I y M/\A.1=N/\A.2.n=U z o G):=⟨A1,BS,AB,BT⟩;have HQ:JR (B.2.f.f.name=u/\B.2.f.tv=U D E C/\B.1=L/\B.2.n=U q H s):=⟨B9,T,Bx,AH⟩;rw[A1]at a0;rw[BS]at a1;rw[AB]at a2;rw[BT]at a3;rw[B9]at b0;rw[T]at b1;rw[Bx]at b2;rw[AH]at W;(have H3:(0:Int)<=(k:Int):=by omega);(have HA:(k:Int)<(j:Int):=by omega);(have HT:(k:Int)<(Z b:Int):=by omega);(have H0:(j:Int)<(Z b:Int):=by omega);(have H6:(0:Int)<=(j:Int):=by omega);have Go:JR (Mi ((((((((wr.setCell ⟨g,k*4,Y⟩ (O u)).setCell ⟨g,k*4+1,Y⟩ (U D E C)).setCell ⟨g,k*4+2,Y⟩ (X J L)).setCell ⟨g,k*4+3,Y⟩ (U q H s)).setCell ⟨g,j*4,Y⟩ (O t)).setCell ⟨g,j*4+1,Y⟩ (U I y M)).setCell ⟨g,j*4+2,Y⟩ (X J N)).setCell ⟨g,j*4+3,Y⟩ (U z o G)) F 176 4 (U (V ⟨g,0,Y⟩) (Z b) l) (Z b) ((eU b (k+1)).flatMap Ci)):=by
    (have HD:j<Z ((eU b k).set k B):=by rw[nj];exact P);have h:=(BG (BG (BG (BG (BG (BG (BG (BG d (4*k) (O u)) (4*k+1) (U D E C)) (4*k+2) (X J L)) (4*k+3) (U q H s)) (4*j) (O t)) (4*j+1) (U I y M)) (4*j+2) (X J N)) (4*j+3) (U z o G));have e:(eU b (k+1)).flatMap Ci=(((((((((eU b k).flatMap Ci).set (4*k) (O u)).set (4*k+1) (U D E C)).set (4*k+2) (X J L)).set (4*k+3) (U q H s)).set (4*j) (O t)).set (4*j+1) (U I y M)).set (4*j+2) (X J N)).set (4*j+3) (U z o G):=by
     obtain⟨p1,p2,p3,p4⟩:=FO;obtain⟨q1,q2,q3,q4⟩:=HQ;rw[Aa Ha,ZM _ _ HD,ZM _ _ S,p1,p2,p3,p4,q1,q2,q3,q4]
    rw[e];rw[Ic]at h;simp only[Nat.mul_comm 4]at h⊢;exact h
   have HJ:JR (Ac (U (V ⟨g,0,Y⟩) (Z b) l).ownBlock.toList w ((((((((wr.setCell ⟨g,k*4,Y⟩ (O u)).setCell ⟨g,k*4+1,Y⟩ (U D E C)).setCell ⟨g,k*4+2,Y⟩ (X J L)).setCell ⟨g,k*4+3,Y⟩ (U q H s)).setCell ⟨g,j*4,Y⟩ (O t)).setCell ⟨g,j*4+1,Y⟩ (U I y M)).setCell ⟨g,j*4+2,Y⟩ (X J N)).setCell ⟨g,j*4+3,Y⟩ (U z o G))):=((((((((HK.setCell (p:=⟨g,k*4,Y⟩) (Hd (by simp[OC])) (O u)).setCell (p:=⟨g,k*4+1,Y⟩) (Hd (by simp[OC])) (U D E C)).setCell (p:=⟨g,k*4+2,Y⟩) (Hd (by simp[OC])) (X J L)).setCell (p:=⟨g,k*4+3,Y⟩) (Hd (by simp[OC])) (U q H s)).setCell (p:=⟨g,j*4,Y⟩) (Hd (by simp[OC])) (O t)).setCell (p:=⟨g,j*4+1,Y⟩) (Hd (by simp[OC])) (U I y M)).setCell (p:=⟨g,j*4+2,Y⟩) (Hd (by simp[OC])) (X J N)).setCell (p:=⟨g,j*4+3,Y⟩) (Hd (by simp[OC])) (U z o G));have HF:=Ab (Ad Go (SF [] _).drew);have HL:=Ab HJ.drew;clear d EM FL Q R A1 BS AB BT B9 T Bx AH HW S P;go_wp2_with fail
   go_region_o
   all_goals go_wp2
   go_roundg (Z b-(k+1))
   case measure=>have:=Aa HG;omega
   case rel=>exact⟨k+1,congrArg (X J) (by omega),congrArg (X J) (by omega),by omega,rfl,HF,HL⟩
  .have FT:JR (Mi wr F 176 4 (U m (Z b) l) (Z b) (b.reverse.flatMap Ci)):=by
    have h:=Aa HW;rw[iA b hk (by omega)]at h;exact h
   (have HA:¬(k:Int)<(Z b:Int)-1-k:=by omega);go_wp2;go_end0;exact⟨⟨_,rfl⟩,FT,HK⟩
structure cZ(w w5:Hq)(NB RB:Nat)(sts:QC (Nat×UZ))(T:QC Af)(A:QC DY)(Nd:QC Af)(M:QC Nat)(W:Hq):Prop where
 kept:Ac [] w W
 each:∀p∈sts,Lj W p.2
 sub:∀f∈Nd,f∈T
 out:∃(nad:Option Addr) (ncp:Nat) (ns:QC Fh) (rad:Option Addr) (rcp:Nat) (rs:QC (Nat×UZ)),
  AI W NB [U nad (Z ns) ncp] 115/\Jr W (U nad (Z ns) ncp) ns/\Dp ns Nd/\
  (∀q,(U nad (Z ns) ncp).ownBlock=V q->w.heap.size<=q/\∀p∈sts,p.2.n.ownBlock≠V q)/\
  AI W RB [U rad (Z rs) rcp] 137/\Mi W w5.heap.size 176 4 (U rad (Z rs) rcp) (Z rs) (rs.flatMap Ci)/\
  rs.map (λp=>(p.1,p.2.f.f))=A.map (λh=>(h.1,BX h.2.head))/\(∀p∈rs,p∈sts)/\
  M=NB::RB::((U nad (Z ns) ncp).ownBlock.toList++(U rad (Z rs) rcp).ownBlock.toList)
def cZ.own{r:QC (Nat×UZ)}{st:QC Nat->QC DY×QC Af}(E:w.heap.size<=i):OwnFrom i (fun(s:QC Nat×QC Nat) W=>cZ w u n m r f (st s.1).1 (st s.1).2 s.2 W):=
 BQ (λs W G M h k a=>by
  obtain⟨o,A,t,F,x,C,e,b,D,y,g,l,z⟩:=h.out
  refine⟨EA h.kept k a E,λp c=>(h.each p c).map (λq d=>Ai (v:=q.tv) d k (Cs (v:=q.tv) a d)) (λj=>Ai j k (Cs a j)),h.sub,o,A,t,F,x,C,e.kept k (C4 a e),⟨Ai b.row k (Cs a b.row),λp c=>⟨Ai (v:=p.tv) (b.each p c).1 k (Cs (v:=p.tv) a (b.each p c).1),(b.each p c).2⟩⟩,D,y,g.kept k (C4 a g),Ai l k (Cs a l),z⟩)
def cZ.calm{c:QC (Nat×UZ)}{A:QC DY}{a:QC Af}{W b:Hq}(h:cZ w v n m c f A a M W)(k:Ac [] W b):cZ w v n m c f A a M b:=
 BK (cZ.own (st:=λ_=>(A,a)) (lX w.heap.size)) (s:=([],M)) h k
def cZ.lt{w l:Hq}{g j:Nat}{c:QC (Nat×UZ)}{T:QC Af}{A:QC DY}{f:QC Af}{M:QC Nat}{W:Hq}(h:cZ w l g j c T A f M W):∀k∈M,k<W.heap.size:=by
 obtain⟨m,r,n,v,o,s,d,b,u,p,e,i,q,t,rfl⟩:=h.out;intro k a;simp only[lI,lV,nX]at a;rcases a with rfl|rfl|a|a
 .exact d.lt
 .exact e.lt
 .exact(b.row.lt k a).2
 .exact(i.lt k a).2
structure TD(M:QC Nat)(W:Hq)(M2:QC Nat)(wz:Hq):Prop where
 kept:Ac M W wz
 mem:∀k∈M2,(k∈M\/W.heap.size<=k)/\k<wz.heap.size
def TD.step{M c e:QC Nat}(h:TD M w c v)(k:Ac c v u)(d:∀q∈e,(q∈c\/v.heap.size<=q)/\q<u.heap.size):TD M w e u:=by
 refine⟨h.kept.trans' k (λq a=>(h.mem q a).1),λq a=>⟨?_,(d q a).2⟩⟩;rcases(d q a).1 with b|b
 .exact(h.mem q b).1
 .exact Hf (mM h.kept.size b)
def fm{R:QC DY}(b:j<Z R)(a:QC DY×QC Af):(R.take (j+1)).foldl GX a=GX ((R.take j).foldl GX a) R[j]:=by
 rw[lF b,mL];rfl
def QX:∀(R:QC DY) (a:QC DY×QC Af),Z (R.foldl GX a).1<=Z a.1+Z R
 |[],a=>by simp
 |h::R,a=>by
  rw[mr];have b:=QX R (GX a h);have c:Z (GX a h).1<=Z a.1+1:=by
   unfold GX;split
   .simp
   .omega
  rw[lQ];omega
def ip{a d:QC Nat}(h:(List.range n).reverse=a++m::d):Z a<n/\m=n-1-Z a:=by
 have c:=congrArg List.length h;simp at c;have b:=congrArg (λl=>l[Z a]?) h;simp only[ow (lX _),Nat.sub_self,List.getElem?_cons_zero]at b;have e:Z a<n:=by omega
 rw[List.getElem?_reverse (by simp;omega),List.length_range,List.getElem?_range (by omega)]at b;exact⟨e,by have:=oU b;omega⟩
theorem fG(lad:Option Addr)(lcp:Nat)(pcs:QC DF)(rcs:QC A7)(F:Af)(fp:Fh)(w:Hq)(hP:DK w (U lad (Z pcs) lcp) pcs)(hB:M7 pcs rcs)(hf:fp.f=BX F)(hc:AJ F)(hpf:Ek w fp)(hfl:Z fp.f.bc<=1000):
  Calls prog 98 #[U lad (Z pcs) lcp,.agg (A8 fp).toArray] w λr w'=>∃(ad:Option Addr) (cp:Nat) (sts:QC (Nat×UZ)) (s:QC Af) (hs:QC DY) (L:bC->Nat) (N:Nat),r=.returned (U ad (Z sts) cp)/\Mi w' 0 176 4 (U ad (Z sts) cp) (Z sts) (sts.flatMap Ci)/\(∀p∈sts,Ek w' p.2.f/\Z p.2.f.f.bc<=1000/\∃a n c,p.2.n=U a n c)/\sts.map (λp=>(p.1,p.2.f.f))=(I4 hs F).map (λh=>(h.1,BX h.2.head))/\Zq rcs hs s/\CX rcs L/\GN rcs L N s/\(∀c∈rcs,L c.head.name<N)/\Ac [] w w':=by
 obtain⟨i0,hi0,hz0,hz1,hz2⟩:=mH Tryz.zJ;obtain⟨⟨fn,fts⟩,ftv⟩:=fp;obtain⟨fad,fcp,e⟩:=Ak hpf;simp only at e hf hfl;subst e;simp only[A8];obtain⟨N,hN⟩:=QP w.heap.size;have HN:=Ab hN;have HK2:=Ab (((SF [] w).alloc (Dj [O fn,U fad (Z fts) fcp].toArray 104)).alloc (Dj [U Y 0 0].toArray 115));have HBx:=Ab ((Tc w [O fn,U fad (Z fts) fcp] 104).alloc (Dj [U Y 0 0].toArray 115));have HBn:=Ab (Tc (w.alloc (Dj [O fn,U fad (Z fts) fcp].toArray 104)) [U Y 0 0] 115);rw[mt]at HBn;have HPf:=Ab hpf;have HF:=Ab hf;have HC:=Ab hc;have HFL:JR (Z fts<=1000):=hfl;have HPr:=Ab hP;have HBo:=Ab hB;obtain⟨QQ,hQQ⟩:=QP (Ks (bodyPostM Fence.wide 0 prog Tryz.f98 λr w'=>∃(ad:Option Addr) (cp:Nat) (sts:QC (Nat×UZ)) (s:QC Af) (hs:QC DY) (L:bC->Nat) (N:Nat),r=.returned (U ad (Z sts) cp)/\Mi w' 0 176 4 (U ad (Z sts) cp) (Z sts) (sts.flatMap Ci)/\(∀p∈sts,Ek w' p.2.f/\Z p.2.f.f.bc<=1000/\∃a n c,p.2.n=U a n c)/\sts.map (λp=>(p.1,p.2.f.f))=(I4 hs F).map (λh=>(h.1,BX h.2.head))/\Zq rcs hs s/\CX rcs L/\GN rcs L N s/\(∀c∈rcs,L c.head.name<N)/\Ac [] w w'));have HQQ:=Ab hQQ;clear hpf hf hc hP hB hN hfl;refine EQ func98 rfl (Gv ?_);rw[hQQ];clear hQQ;simp only[ntmps98,mW,lQ,mn,Nat.reduceAdd,Nat.reduceSub,om,oo,oK,oz,mR,ny];refine Q0 (λKK HKK=>?_);go_wp2;refine HKK _ _ ?_;clear HKK KK;refine Q0 (λKK HKK=>?_);go_wp2;refine HKK _ _ ?_;clear HKK KK;change Code.wp _ _ _ _ ((w.alloc (Dj [O fn,U fad (Z fts) fcp].toArray 104)).alloc (Dj [U Y 0 0].toArray 115));generalize(w.alloc (Dj [O fn,U fad (Z fts) fcp].toArray 104)).alloc (Dj [U Y 0 0].toArray 115)=w2 at HK2 HBx HBn⊢;rw[Aa HN]at HBx HBn⊢;have HAd:=Ab (R7 (N+1) 0 [U Y 0 0] 115 Y 0 [] ⟨⟨fn,fts⟩,U fad (Z fts) fcp⟩ w2 HBn rfl (by decide) (by decide) ⟨mf _ _ _ _,λp hp=>by simp at hp⟩ (HPf.kept HK2) HFL (by simp) (λi j hi=>by simp at hi));simp only[A8]at HAd;have b0:=HBx.cell 0;have b1:=HBx.cell 1;simp at b0 b1;refine Q0 (λKK HKK=>?_);go_wp2_with fail
 refine HAd.mono ?_;rintro _ w3 ⟨rfl,hA⟩;obtain⟨p0,nad0,ncp0,hcut0,hnb0,hps0,how0⟩:=hA.out;have hadd:MM [] ⟨⟨fn,fts⟩,U fad (Z fts) fcp⟩ p0=[⟨⟨fn,fts⟩,U fad (Z fts) fcp⟩]:=by
  unfold MM E5;simp
 rw[hadd]at hnb0 hps0 how0;have hk3:Ac [] w w3:=HK2.trans' hA.kept (λq hq=>Hf (by
  have:=Aa HN
  simp[OC]at hq
  omega))
 simp only[lC]at hnb0;have HKw3:=Ab hk3;have HNb3:=Ab hnb0;have HPs3:=Ab hps0;have HOw3:JR (∀q,(U nad0 1 ncp0).ownBlock=V q->w.heap.size<=q/\q<w3.heap.size):=λq hq=>by
  rcases how0 q hq with h|h
  .simp[OC]at h
  .exact⟨mM HK2.size h,(hps0.row.lt q hq).2⟩
 have HSe3:JR (Dp [⟨⟨fn,fts⟩,U fad (Z fts) fcp⟩] [F]):=⟨by simp only[l9,nE];rw[Aa HF],List.pairwise_singleton _ _,λf hf=>by simp at hf;rw[hf];exact HC⟩;clear HAd hA hcut0 hnb0 hps0 how0 hadd hk3 b0 b1 HBx HBn;go_wp2;refine HKK _ _ ?_;clear HKK KK;have HK4:=Ab ((SF [] w3).alloc (Dj [U Y 0 0].toArray 137));have HR4:=Ab (Tc w3 [U Y 0 0] 137);refine Q0 (λKK HKK=>?_);go_wp2;refine HKK _ _ ?_;clear HKK KK;change Code.wp _ _ _ _ (w3.alloc (Dj [U Y 0 0].toArray 137));generalize w3.alloc (Dj [U Y 0 0].toArray 137)=w4 at HK4 HR4⊢;obtain⟨RB,hRB⟩:=QP w3.heap.size;have HRB:=Ab hRB;rw[hRB]at HR4⊢;clear hRB;have HGo:=Ab (Md lad lcp pcs rcs w4 (HPr.kept (HKw3.trans HK4)) HBo);refine Q0 (λKK HKK=>?_);refine Q0 (λK5 HK5=>?_);go_wp2_with fail
 refine HGo.mono ?_;rintro _ w6 ⟨cb,s,hs,L,NN,rfl,hCo,hRe,hLv,hIn,hTop⟩;obtain⟨sad,scp,fs,tad,tcp,sts,hcb,-,-,hrow,-,-,hsti⟩:=hCo.out;have hsl:Z s=Z sts:=by
  have h1:=hrow.1;rw[ZT]at h1;omega
 rw[hsl]at hcb hrow;have c2:=hcb.cell 2;simp at c2;have hway:=HBo.zB hIn;have HBk:=Ab (UE tad (Z sts) tcp w6);clear HGo;go_wp2_with fail
 refine HBk.mono ?_;rintro _ w5 ⟨b1,rfl,hb1,hb1l,k5⟩;have hk46:=hCo.kept;have HSti:JR (Yg w5 w4.heap.size (U sad (Z fs) scp) hs sts):=hsti.kept k5;have HRow:=Ab (Ad hrow k5);have HB1:=Ab hb1;have HK45:JR (Ac [] w4 w5):=hk46.trans k5;have HW6:JR (w4.heap.size<=w6.heap.size):=hk46.size;have HPl:JR (Zq rcs hs s/\CX rcs L/\GN rcs L NN s/\(∀c∈rcs,L c.head.name<NN)):=⟨hRe,hLv,hIn,hTop⟩;have HWay:=Ab hway;have HSl:=Ab hsl;clear hCo hRe hLv hIn hTop hcb hrow hsti hsl c2 hway HBk hb1 k5 hk46;go_wp2;refine HK5 _ _ ?_;clear HK5 K5;refine wp_block ?_;have HWs:JR (RB<w4.heap.size/\N+1<RB/\w4.heap.size<=w5.heap.size/\w4.heap.size<=b1/\w.heap.size<=N):=by
  have h1:=HR4.lt;have h2:=HNb3.lt;have h3:=Aa HRB;have h4:=HK45.size;have h5:=Aa HW6;have h6:=Aa HN;exact⟨h1,by omega,h4,by omega,by omega⟩
 have HKw5:JR (Ac [] w w5):=(HKw3.trans HK4).trans HK45;have HK35:JR (Ac [] w3 w5):=HK4.trans HK45;have HFo:JR (∀x,x<Z sts->∃A0 pa pn pc A2 qa qn qc,Z9 sts x=[O A0,U pa pn pc,X J (A2:Nat),U qa qn qc]):=by
  intro x hx;have h:=(HSti.each sts[x] (lE hx)).1;obtain⟨pa,pc,e1⟩:=Ak h.pf;obtain⟨qa,qc,e2⟩:=h.sl;refine⟨sts[x].2.f.f.name,pa,sts[x].2.f.f.bc.length,pc,sts[x].1,qa,sts[x].2.ns.length,qc,?_⟩;unfold Z9;rw[lN hx];show[_,sts[x].2.f.tv,_,sts[x].2.n]=_;rw[e1,e2]
 have zW:=ck b1 tad tcp sts w5 ((N+1)::RB::((U nad0 1 ncp0).ownBlock.toList++(U Y 0 0).ownBlock.toList)) ⟨by have h:=HB1.cell 0;simpa using h,Al HRow (lW _),λk hk=>by
  have hw:=Aa HWs
  have hkl:k<w4.heap.size:=by
   simp only[lI,lV,nX]at hk
   rcases hk with rfl|rfl|hk|hk
   .omega
   .omega
   .have h1:=(HOw3 k hk).2
    have h2:=HK4.size
    omega
   .simp[OC]at hk
  exact⟨by omega,λh=>by have:=(HRow.lt k h).1;omega,by omega⟩⟩ (by have:=HWay.2.2;have:=Aa HSl;omega)
 have HI0:JR (cZ w w5 (N+1) RB sts (F::s) [] [F] ((N+1)::RB::((U nad0 1 ncp0).ownBlock.toList++(U Y 0 0).ownBlock.toList)) w5):=by
  refine⟨HKw5,λp hp=>(HSti.each p hp).1,λf hf=>by simp at hf;simp[hf],nad0,ncp0,_,Y,0,[],HNb3.kept HK35,HPs3.kept HK35,HSe3,λq hq=>⟨(HOw3 q hq).1,λp hp he=>?_⟩,HR4.kept HK45,mf _ _ _ _,rfl,λp hp=>by simp at hp,rfl⟩;have h1:=((HSti.each p hp).2 q he).1;have h2:=(HOw3 q hq).2;have h3:=HK4.size;omega
 have hM0:=HI0.lt;have hw5:w.heap.size<=w5.heap.size:=HKw5.size;refine Uv (encs:=iu sts) rfl (enters_of func182 (by kernel_rfl) rfl) zW (λ_=>rfl) hM0 (λpre M W=>cZ w w5 (N+1) RB sts (F::s) ((hs.reverse.take (Z pre)).foldl GX ([],[F])).1 ((hs.reverse.take (Z pre)).foldl GX ([],[F])).2 M W) (λ_ _ _ _=>False) (cZ.own (st:=λpre=>(hs.reverse.take (Z pre)).foldl GX ([],[F])) hw5) (λ_ _ _ _ _ h _ _=>h) HI0
  (λn0 x a' W=>AI W n0 (Z9 sts x) 176/\a'=⟨#[U lad (Z pcs) lcp,.agg #[O fn,U fad (Z fts) fcp],undef,Gi (V ⟨N,0,Y⟩),U Y 0 0,Gi (V ⟨N+1,0,Y⟩),Gi (V ⟨RB,0,Y⟩),undef,Gi (V ⟨n0,0,Y⟩),undef,undef,.agg #[O fn,U fad (Z fts) fcp],.tuple #[],U lad (Z pcs) lcp,Gi (V ⟨cb,0,Y⟩),Gi (V ⟨cb,0,Y⟩),Gi (V ⟨cb,2,Y⟩),U tad (Z sts) tcp,.func (.func 182) #[] #[Gi (V ⟨b1,0,Y⟩)],X J x,.agg (Z9 sts x).toArray,undef,undef,undef,undef,undef,undef,undef,undef,undef,undef,undef,undef,undef,undef,undef,undef,undef,undef,undef,undef,undef],[]⟩)
  (λn0 x a'=>BQ (λ_ W W' M h k hM=>⟨h.1.kept k (C4 hM h.1),h.2⟩)) ?rassign ?rbody ?rdone ?rstop
 case rassign=>
  intro l x W' K hx _ HK;have HKK2:JR (∀a' W'',Ac [] W' W''->_->K a' W''):=HK;have hx':x<Z sts:=by
   rw[List.mem_reverse,pu]at hx;exact hx
  obtain⟨A0,pa,pn,pc,A2,qa,qn,qc,hst⟩:=HFo x hx';unfold iu;rw[hst]at HKK2⊢;have HBz:=Ab (Tc W' [O ⟨#[]⟩,U Y 0 0,X J 0,U Y 0 0] 176);have z0:=HBz.cell 0;have z1:=HBz.cell 1;have z2:=HBz.cell 2;have z3:=HBz.cell 3;have y0:=HBz.frozen 0;have y1:=HBz.frozen 1;have y2:=HBz.frozen 2;have y3:=HBz.frozen 3;simp at z0 z1 z2 z3;clear HK hst zW;refine AN (by rfl) (It GC) ?_;go_wp2;exact HKK2 _ _ ((SF [] W').alloc _) ⟨Tc W' [O A0,U pa pn pc,X J (A2:Nat),U qa qn qc] 176,rfl⟩
 case rbody=>
  intro l n0 pre x rest M a' W hxs hi hM hn0 hn1 hax;obtain⟨hbx,rfl⟩:=hax;obtain⟨hpl,hxe⟩:=ip hxs;have hhl:Z hs=Z sts:=by have h:=congrArg List.length HSti.eq;simpa using h.symm
  have hx:x<Z sts:=by omega
  have hxh:x<Z hs:=by omega
  have hrx:hs.reverse[Z pre]'(by simp;omega)=hs[x]:=by
   rw[List.getElem_reverse]
   congr 1
   omega
  have hnext:(hs.reverse.take (Z (pre++[x]))).foldl GX ([],[F])=GX ((hs.reverse.take (Z pre)).foldl GX ([],[F])) hs[x]:=by
   rw[lU,List.length_singleton,fm (by simp;omega),hrx]
  obtain⟨⟨A,Nd⟩,hAN⟩:∃a,(hs.reverse.take (Z pre)).foldl GX ([],[F])=a:=⟨_,rfl⟩;rw[hAN]at hnext hi;simp only at hi;obtain⟨H,hH⟩:=QP (hs[x]);rw[hH]at hnext;have hHm:H∈hs:=by rw[<-hH];exact lE hxh
  have hHs:H.2.head∈s:=(HPl.1.mem _).2 (lP.2 ⟨H,hHm,rfl⟩);have hHp:∀g∈H.2.pos,g∈s:=by
   obtain⟨_,_,_,_,h4,_⟩:=HPl.1.each x hxh;rw[hH]at h4;intro g hg;obtain⟨y,hy,e⟩:=lP.1 (h4 g hg);exact(HPl.1.mem g).2 (lP.2 ⟨y,nk hy,e⟩)
  have HPl3:JR (Z H.2.pos<=1000):=by
   obtain⟨h1,σ,_,h3,_,_⟩:=HPl.1.each x hxh;simp only[hH]at h1 h3;have h5:=(HBo.pass.order.small.2 _ (lE h1)).1;show Z H.2.pos<=1000;rw[h3];show Z (((Am _).filter _).map _)<=1000;rw[lR];have h6:=nr (λx:Bp=>x.kind==97) (Am rcs[H.1]);(have h7:Z (Am rcs[H.1])=rcs[H.1].bl.length:=by unfold Am;rw[lR]);omega
  have hst:=congrArg (λl=>l[x]?) HSti.eq;simp only[m6,lN hx,lN hxh,nF,lL,hH,mA]at hst;obtain⟨hs1,hs2,hs3⟩:=hst;have hmem:sts[x]∈sts:=lE hx;have hsA:Z9 sts x=Ci sts[x]:=by unfold Z9;rw[lN hx];rfl
  rw[hsA]at hbx;simp only[hsA];obtain⟨⟨num,⟨⟨fnm,fth⟩,ftv⟩,nv,nps⟩,hsx⟩:∃p,sts[x]=p:=⟨_,rfl⟩;rw[hsx]at hs1 hs2 hs3 hmem hbx;simp only[hsx];simp only at hs1 hs2 hs3;obtain⟨pa,pc,e1⟩:=Ak (hi.each _ hmem).pf;obtain⟨qa,qc,e2⟩:=(hi.each _ hmem).sl;simp only at e1 e2;subst e1 e2;subst hs1;have HPost:JR (∀A' Nd' M2 wz,GX (A,Nd) H=(A',Nd')->cZ w w5 (N+1) RB sts (F::s) A' Nd' M2 wz->TD M W M2 wz->LK (λpre M W=>cZ w w5 (N+1) RB sts (F::s) ((hs.reverse.take (Z pre)).foldl GX ([],[F])).1 ((hs.reverse.take (Z pre)).foldl GX ([],[F])).2 M W) (λ_ _ _ _=>False) (pre++[x]) M W .normal ⟨#[],[]⟩ wz):=by
   intro A' Nd' M2 wz he hW hO;refine⟨hO.kept,M2,?_,hO.mem⟩;show cZ w w5 (N+1) RB sts (F::s) ((hs.reverse.take (Z (pre++[x]))).foldl GX ([],[F])).1 ((hs.reverse.take (Z (pre++[x]))).foldl GX ([],[F])).2 M2 wz;rw[hnext,he];exact hW
  have HMn:=Ab hM;have HAl:JR (Z A<=7000):=by
   have h1:=QX (hs.reverse.take (Z pre)) ([],[F]);rw[hAN,mB]at h1;have h2:=HWay.2.2;have h3:=Aa HSl;simp only[mn]at h1;show Z A<=7000;omega
  have HNl:JR (∀(ns:QC Fh) (Nd':QC Af),Dp ns Nd'->(∀f∈Nd',f∈F::s)->Z ns<=7000):=by
   intro ns Nd' h1 h2;have h3:=Kl Nd' (F::s) (h1.cE.nodup h1.canon) h2;have h4:=h1.len;have h5:=HWay.2.2;simp only[lQ]at h3;omega
  have HCh:JR (AJ H.2.head):=HWay.2.1 _ hHs;have HCp:JR (∀g∈H.2.pos,AJ g/\g∈F::s):=λg hg=>⟨HWay.2.1 _ (hHp g hg),my _ (hHp g hg)⟩
  have HHd:JR ((⟨fnm,fth⟩:C9)=BX H.2.head):=hs2;have HNs:JR (nps.map Fh.f=H.2.pos.map BX):=hs3;have HMem:=Ab hmem;have HS0:=Ab hi;have HBx:=Ab hbx;have HOt:JR (TD M W M W):=⟨SF _ _,λk hk=>⟨Hd hk,hi.lt k hk⟩⟩;have HHas:JR (∀wz,cZ w w5 (N+1) RB sts (F::s) A Nd M wz->Calls prog 60 #[Gi (V ⟨N+1,0,Y⟩),.agg #[O fnm,U pa (Z fth) pc]] wz λr w'=>r=.returned (.bool (CW Nd H.2.head))/\Ac [] wz w'):=by
   intro wz hz;obtain⟨nad,ncp,ns,rad,rcp,rs,g1,g2,g3,_⟩:=hz.out;have hc0:=g1.cell 0;simp at hc0;have hin:=(hz.each _ HMem);refine(OS (N+1) 0 nad ncp ns ⟨⟨fnm,fth⟩,U pa (Z fth) pc⟩ wz hc0 g2 hin.pf hin.len (by have:=Aa HNl ns Nd g3 hz.sub;omega) (g3.mono _)).mono ?_;rintro e w' ⟨p,rfl,hcut,k⟩;simp only at hcut⊢;rw[Aa HHd]at hcut⊢;exact⟨by rw[g3.zW (Aa HCh) hcut],k⟩
  clear hi hbx hmem hsx hsA hs2 hs3 hHp hHs hHm hH hAN hnext hrx hhl hxs hM zW hpl hxe hx hxh HFo;have e0:=HBx.cell 0;have e1:=HBx.cell 1;simp[Ci,KI]at e0 e1;simp only[Ci,KI]at HBx⊢;refine wpIn_block ?_;refine m8 (λK8 hK8=>?_);have HK8:=Ab hK8;clear hK8;refine m8 (λK7 hK7=>?_);have HK7:=Ab hK7;clear hK7;refine AN (by rfl) (by rintro ⟨_,_,h⟩;exact h) ?_;go_wp2_with fail
  refine(HHas W HS0).mono ?_;rintro _ w7 ⟨rfl,k7⟩;have HK7a:=Ab k7;clear HHas k7 e0 e1;go_wp2;refine HK7 _ _ ?_;clear HK7 K7;have HS7:=Ab (HS0.calm HK7a);have HO7:JR (TD M W M w7):=HOt.step (HK7a.mono (by simp)) (λq hq=>⟨Hd hq,nz (HS0.lt q hq) HK7a.size⟩);have HBx7:=Ab (HBx.kept HK7a);clear HS0 HOt HBx HK7a;cases hhf:CW Nd H.2.head with
  |false=>
   refine oI rfl (wpIn_exit ?_);exact HPost A Nd M _ (by unfold GX;rw[lO (by rw[hhf];simp)]) HS7 HO7
  |true=>
   refine oC rfl (wpIn_skip ?_);refine HK8 _ _ ?_;clear HK8 K8;(have HPo2:JR (∀M2 wz,cZ w w5 (N+1) RB sts (F::s) (A++[H]) (H.2.pos.foldl Bb Nd) M2 wz->TD M W M2 wz->LK (λpre M W=>cZ w w5 (N+1) RB sts (F::s) ((hs.reverse.take (Z pre)).foldl GX ([],[F])).1 ((hs.reverse.take (Z pre)).foldl GX ([],[F])).2 M W) (λ_ _ _ _=>False) (pre++[x]) M W .normal ⟨#[],[]⟩ wz):=λM2 wz=>HPost _ _ M2 wz (by unfold GX;rw[lS hhf]));clear HPost hhf;obtain⟨nad,ncp,ns,rad,rcp,rs,g1,g2,g3,g4,g5,g6,g7,g8,hMe⟩:=(Aa HS7).out;have hrl:Z rs<=7000:=by
    have h:=congrArg List.length g7;rw[lR,lR]at h;have:=Aa HAl;omega
   have d0:=HBx7.cell 0;have d1:=HBx7.cell 1;have d2:=HBx7.cell 2;have d3:=(Aa HBx7).cell 3;have r0:=g5.cell 0;simp at d0 d1 d2 d3 r0;(have hw57:w5.heap.size<=w7.heap.size:=by have:=HO7.kept.size;omega);have HG1:=Ab g1;have HG2:=Ab g2;have HG3:=Ab g3;have HG4:=Ab g4;have HG5:=Ab g5;have HG6:=Ab g6;have HG7:=Ab g7;have HG8:=Ab g8;have HMe:=Ab hMe;clear g1 g2 g3 g4 g5 g7 g8 hMe;refine m8 (λK8 hK8=>?_);have HK8:=Ab hK8;clear hK8;refine AN (by rfl) (by rintro ⟨_,_,h⟩;exact h) ?_;go_wp2_with (at_builtin;refine me _ rfl (.tmp 25) (.tmp 27) _ rfl w5.heap.size 176 i0 _ 4 72 underlying137 hi0 hz0 hz1 hz2 rfl (by omega) (U rad (Z rs) rcp) (Z rs) (rs.flatMap Ci) rfl (lM g6 _) ⟨w7.heap.size,0,Y⟩ 1 1 [O fnm,U pa (Z fth) pc,X J H.1,U qa (Z nps) qc] rfl rfl (mg (mo w7 _)) (by simp[Value.oneCell']) (by omega) (by unfold maxLen;omega) (by omega) (by simp;omega) (w7.heap.size+1) (by simp) ?_;intro gg cp1 w9 ho1 hg1 ha1 hl1;have hR9:=(HG5.alloc (Dj #[O fnm,U pa (Z fth) pc,X J H.1,U qa (Z nps) qc] 176)).grown hg1 (As g6 HG5 (by decide));have c9:=hR9.cell 0;have f9:=hR9.frozen 0;simp at c9)
   have hM7:=Aa HMe;have kM:Ac M w7 (w9.setCell ⟨RB,0,Y⟩ (U (V ⟨gg,0,Y⟩) (Z rs+1) cp1)):=(((SF M w7).alloc (Dj #[O fnm,U pa (Z fth) pc,X J H.1,U qa (Z nps) qc] 176)).grown hg1 (λq hq=>Hd (by rw[hM7];simp[hq]))).setCell (p:=⟨RB,0,Y⟩) (Hd (by rw[hM7];simp)) _;have hge:∀q∈M,w.heap.size<=q:=by
    intro q hq;have hw:=Aa HWs;rw[hM7]at hq;simp only[lI,lV,nX]at hq;rcases hq with rfl|rfl|hq|hq
    .omega
    .omega
    .exact(HG4 q hq).1
    .have:=(g6.lt q hq).1;omega
   have hrw:∀{b e sz n:Nat} {v:Value} {ys:QC Value},Mi w7 b e sz v n ys->e≠176->e≠137->Mi (w9.setCell ⟨RB,0,Y⟩ (U (V ⟨gg,0,Y⟩) (Z rs+1) cp1)) b e sz v n ys:=fun{b e sz n v ys} hr h1 h2=>by
    have hr3:=m0 (v:=v) (lM (v:=v) hr _) hg1 (by
     cases hpo:v.ownBlock with
     |none=>exact Hd rfl
     |some q=>exact Hf (λe=>Bg hr g6 h1 q hpo e.symm))
    exact Ah hr3 (As hr3 hR9 h2) _
   have HS10:JR (cZ w w5 (N+1) RB sts (F::s) (A++[H]) Nd ((N+1)::RB::((U nad (Z ns) ncp).ownBlock.toList++[gg])) (w9.setCell ⟨RB,0,Y⟩ (U (V ⟨gg,0,Y⟩) (Z rs+1) cp1))):=by
    (have hne:N+1≠RB:=by have:=Aa HWs;omega);refine⟨HS7.kept.trans' kM (λq hq=>Hf (hge q hq)),λp hp=>(HS7.each p hp).map (λq hq=>hrw (v:=q.tv) hq (by decide) (by decide)) (λhr=>hrw hr (by decide) (by decide)),HS7.sub,nad,ncp,ns,V ⟨gg,0,Y⟩,cp1,rs++[(H.1,⟨⟨⟨fnm,fth⟩,U pa (Z fth) pc⟩,U qa (Z nps) qc,nps⟩)],?_,⟨hrw HG2.row (by decide) (by decide),λp hp=>⟨hrw (v:=p.tv) (HG2.each p hp).1 (by decide) (by decide),(HG2.each p hp).2⟩⟩,HG3,HG4,?_,?_,?_,?_,rfl⟩
    .have h:=(HG1.alloc (Dj #[O fnm,U pa (Z fth) pc,X J H.1,U qa (Z nps) qc] 176)).grown hg1 (As g6 HG1 (by decide));exact h.bI ⟨RB,0,Y⟩ (Ne.symm hne) _
    .rw[lU];exact hR9.set 0 _
    .rw[lU,mm];exact Ah ho1 (As ho1 hR9 (by decide)) _
    .rw[mx,mx,Aa HG7];simp only[l9,nE];rw[Aa HHd]
    .intro p hp;rcases lV.1 hp with h|h
     .exact HG8 p h
     .simp only[lG]at h;rw[h];exact HMem
   have HO10:JR (TD M W ((N+1)::RB::((U nad (Z ns) ncp).ownBlock.toList++[gg])) (w9.setCell ⟨RB,0,Y⟩ (U (V ⟨gg,0,Y⟩) (Z rs+1) cp1))):=by
    refine HO7.step kM (λq hq=>⟨?_,HS10.lt q hq⟩);simp only[lI,lV,lG,mQ,or_false,nX]at hq;rcases hq with rfl|rfl|hq|rfl
    .exact Hd (by rw[hM7];simp)
    .exact Hd (by rw[hM7];simp)
    .exact Hd (by rw[hM7];simp[hq])
    .rcases ha1 with h|h
     .exact Hd (by rw[hM7];simp[h])
     .exact Hf (by omega)
   have HBx10:=Ab (HBx7.kept kM (λhm=>by have:=Aa HMn n0 hm;omega));have HSc:JR (∃A1 Nd0 M1,A1=A++[H]/\Nd0=Nd/\cZ w w5 (N+1) RB sts (F::s) A1 Nd0 M1 (w9.setCell ⟨RB,0,Y⟩ (U (V ⟨gg,0,Y⟩) (Z rs+1) cp1))/\TD M W M1 (w9.setCell ⟨RB,0,Y⟩ (U (V ⟨gg,0,Y⟩) (Z rs+1) cp1))):=⟨_,_,_,rfl,rfl,HS10,HO10⟩;go_wp2;refine HK8 _ _ ?_;clear HK8 K8;generalize w9.setCell ⟨RB,0,Y⟩ (U (V ⟨gg,0,Y⟩) (Z rs+1) cp1)=w10 at HS10 HO10 HBx10⊢;generalize(N+1)::RB::((U nad (Z ns) ncp).ownBlock.toList++[gg])=M1 at HS10 HO10;clear HSc hrw hge kM hM7 hR9 c9 f9 ho1 hg1 ha1 hl1 g6 HG1 HG2 HG3 HG4 HG5 HG6 HG7 HG8 HMe d0 d1 d2 d3 r0 hrl hw57 HS7 HO7 HBx7;have d3:=HBx10.cell 3;simp at d3;(have HPln:JR (Z nps=Z H.2.pos):=by show _=_;have h:=congrArg List.length HNs;simpa using h);have HS00:JR (cZ w w5 (N+1) RB sts (F::s) (A++[H]) ((H.2.pos.take 0).foldl Bb Nd) M1 w10):=HS10;refine m8 (λK4 hK4=>?_);have HK4:=Ab hK4;clear hK4;refine AN (by rfl) (by rintro ⟨_,_,h⟩;exact h) ?_;go_wp2;refine HK4 _ _ ?_;clear HK4 K4 d3;refine wpIn_block ?_
   gi_loopw [32] (λi wz=>∃(j:Nat) (M2:QC Nat),i=X J j/\j<=Z nps/\JR (cZ w w5 (N+1) RB sts (F::s) (A++[H]) ((H.2.pos.take j).foldl Bb Nd) M2 wz)/\JR (TD M W M2 wz)) (λi _=>Z nps-(intOf i).toNat)
   case atStart=>exact⟨0,M1,rfl,lW _,HS00,HO10⟩
   case round=>
    clear HS00 HO10 HS10 HBx10;obtain⟨j,M2,rfl,hj,HS,HO⟩:=hrel;by_cases hlj:j<Z nps
    .obtain⟨g,cap,n1,ts1,ad1,cp1,he,hnj,q0,q1⟩:=Jw (HS.each _ HMem).nds j hlj;simp only[lB]at he;obtain⟨rfl,-,rfl⟩:=he;(have hjp:j<Z H.2.pos:=by have:=Aa HPln;omega);have hnx:(H.2.pos.take (j+1)).foldl Bb Nd=Bb ((H.2.pos.take j).foldl Bb Nd) H.2.pos[j]:=by
      rw[lF hjp,mL];rfl
     have hfj:nps[j].f=BX H.2.pos[j]:=by
      have h:=congrArg (λl=>l[j]?) HNs;simp only[m6,lN hlj,lN hjp,nF,lL]at h;exact h
     have hgc:=Aa HCp H.2.pos[j] (lE hjp);have hpj:=(HS.each _ HMem).nds.each nps[j] (lE hlj);obtain⟨G,hG⟩:=QP (H.2.pos[j]);rw[hG]at hnx hfj hgc;rw[hnj]at hfj hpj;obtain⟨Nj,hNj⟩:=QP ((H.2.pos.take j).foldl Bb Nd);rw[hNj]at hnx HS;have HNx:=Ab hnx;have HGc:=Ab hgc;have HFj:=Ab hfj;have HPj:=Ab hpj;(have hr0:(0:Int)<=(j:Int):=by omega);(have hr1:(j:Int)<(Z nps:Int):=by omega);(have hjb:j<1000:=by have:=Aa HPln;have:=Aa HPl3;omega);have HSa:=Ab (HS.calm ((SF [] wr).alloc (Dj [O n1,U ad1 (Z ts1) cp1].toArray 104)));have HOa:JR (TD M W M2 (wr.alloc (Dj [O n1,U ad1 (Z ts1) cp1].toArray 104))):=HO.step (((SF [] wr).alloc _).mono (by simp)) (λq hq=>⟨Hd hq,HSa.lt q hq⟩);have HBa:=Ab (Tc wr [O n1,U ad1 (Z ts1) cp1] 104);have HPja:=Ab (HPj.1.kept ((SF [] wr).alloc (Dj [O n1,U ad1 (Z ts1) cp1].toArray 104)));clear hnx hgc hfj hpj hG hNj hnj hjp;refine m8 (λK4 hK4=>?_);have HK4:=Ab hK4;clear hK4;refine AN (by rfl) (by rintro ⟨_,_,h⟩;exact h) ?_;go_wp2;refine HK4 _ _ ?_;clear HK4 K4;refine m8 (λK4 hK4=>?_);have HK4:=Ab hK4;clear hK4;refine oI rfl (wpIn_skip ?_);refine HK4 _ _ ?_;clear HK4 K4;refine m8 (λK6 hK6=>?_);have HK6:=Ab hK6;clear hK6;refine wpIn_block ?_;refine m8 (λK4 hK4=>?_);have HK4:=Ab hK4;clear hK4;refine AN (by rfl) (by rintro ⟨_,_,h⟩;exact h) ?_;go_wp2;refine HK4 _ _ ?_;clear HK4 K4 q0 q1;change Code.wpIn _ _ _ _ _ _ (wr.alloc (Dj [O n1,U ad1 (Z ts1) cp1].toArray 104));generalize wr.alloc (Dj [O n1,U ad1 (Z ts1) cp1].toArray 104)=wa at HSa HOa HBa HPja⊢;obtain⟨BA,hBA⟩:=QP wr.heap.size;rw[hBA]at HBa⊢;clear hBA HS HO;have q0:=(Aa HBa).cell 0;have q1:=(Aa HBa).cell 1;simp at q0 q1;obtain⟨nad,ncp,ns,rad,rcp,rs,g1,g2,g3,g4,g5,g6,g7,g8,hMe⟩:=(Aa HSa).out;have hnl:=Aa HNl ns Nj g3 (Aa HSa).sub;have HAd:=Ab (R7 (N+1) 0 [U nad (Z ns) ncp] 115 nad ncp ns ⟨⟨n1,ts1⟩,U ad1 (Z ts1) cp1⟩ wa g1 rfl (by decide) (by decide) g2 (Aa HPja) (Aa HPj).2 (by omega) (g3.mono _));simp only[A8]at HAd;have HStp:JR (∀wb,U6 (N+1) 0 [U nad (Z ns) ncp] 115 (U nad (Z ns) ncp) ns ⟨⟨n1,ts1⟩,U ad1 (Z ts1) cp1⟩ wa wb->∃M3,cZ w w5 (N+1) RB sts (F::s) (A++[H]) ((H.2.pos.take (j+1)).foldl Bb Nd) M3 wb/\TD M W M3 wb):=by
      intro wb hA;obtain⟨p,ad4,cp4,hcut,hnb,hps,how⟩:=hA.out;simp only[lC]at hnb;have hcut2:Gu ns (BX G) p:=by
       have h:=hcut;simp only at h;rw[Aa HFj]at h;exact h
      have hse:Dp (MM ns ⟨⟨n1,ts1⟩,U ad1 (Z ts1) cp1⟩ p) (Bb Nj G):=by
       unfold MM;simp only;cases hh:E5 ns ⟨n1,ts1⟩ p with
       |true=>
        simp only[if_true];rw[Aa HFj]at hh;exact g3.zl HGc.1 hcut2 hh
       |false=>
        simp only[lJ,if_false];have h2:=hh;rw[Aa HFj]at h2;exact g3.zQ (x:=⟨⟨n1,ts1⟩,U ad1 (Z ts1) cp1⟩) HFj HGc.1 hcut2 h2
      have hkM:Ac M2 wa wb:=hA.kept.mono (λq hq=>by
       rw[hMe]
       rcases lI.1 hq with rfl|hq
       .simp
       .simp only[lI,lV];exact Hf (Hf (Hd hq)))
      have hge:∀q∈M2,w.heap.size<=q:=by
       intro q hq;have hw:=Aa HWs;rw[hMe]at hq;simp only[lI,lV,nX]at hq;rcases hq with rfl|rfl|hq|hq
       .omega
       .omega
       .exact(g4 q hq).1
       .have:=(g6.lt q hq).1;omega
      have hrw:∀{b e sz n:Nat} {v:Value} {ys:QC Value},Mi wa b e sz v n ys->e≠115->(∀q,v.ownBlock=V q->(U nad (Z ns) ncp).ownBlock≠V q)->Mi wb b e sz v n ys:=fun{b e sz n v ys} hr h1 h2=>Ai hr hA.kept (λq hq hm=>by
       rcases lI.1 hm with rfl|hm
       .exact As hr g1 h1 hq
       .exact h2 q hq (by simpa using hm))
      have hnr:RB∉(N+1)::(U nad (Z ns) ncp).ownBlock.toList:=by
       intro hm;rcases lI.1 hm with h|h
       .have:=Aa HWs;omega
       .exact As g2.row g5 (by decide) (by simpa using h)
      have hsz:=hA.kept.size;have hS:cZ w w5 (N+1) RB sts (F::s) (A++[H]) (Bb Nj G) ((N+1)::RB::((U ad4 (Z (MM ns ⟨⟨n1,ts1⟩,U ad1 (Z ts1) cp1⟩ p)) cp4).ownBlock.toList++(U rad (Z rs) rcp).ownBlock.toList)) wb:=by
       refine⟨HSa.kept.trans' hkM (λq hq=>Hf (hge q hq)),λp' hp'=>(HSa.each p' hp').map (λq hq=>hrw (v:=q.tv) hq (by decide) (λq' hq'=>Bg (v1:=q.tv) hq g2.row (by decide) q' hq')) (λhr=>hrw hr (by decide) (λq' hq' he=>(g4 q' he).2 p' hp' hq')),λf hf=>?_,ad4,cp4,_,rad,rcp,rs,hnb,hps,hse,λq hq=>?_,g5.kept hA.kept hnr,hrw g6 (by decide) (λq' hq'=>Bg g6 g2.row (by decide) q' hq'),g7,g8,rfl⟩
       .rcases((C5 HGc.1 g3.cE g3.canon).2.2 f).1 hf with h|h
        .exact HSa.sub f h
        .rw[h];exact HGc.2
       .rcases how q hq with h|h
        .exact g4 q h
        .refine⟨mM HSa.kept.size h,λp' hp' he=>?_⟩;have:=((HSa.each p' hp').nds.row.lt q he).2;omega
      refine⟨_,by rw[Aa HNx];exact hS,HOa.step hkM (λq hq=>⟨?_,hS.lt q hq⟩)⟩;simp only[lI,lV,nX]at hq;rcases hq with rfl|rfl|hq|hq
      .exact Hd (by rw[hMe];simp)
      .exact Hd (by rw[hMe];simp)
      .rcases how q hq with h|h
       .exact Hd (by rw[hMe];simp[h])
       .exact Hf h
      .exact Hd (by rw[hMe];simp[hq])
     clear g1 g2 g3 g4 g5 g6 g7 g8 hMe hnl HSa HOa HPja HPj HFj HGc HNx;refine AN (by rfl) (by rintro ⟨_,_,h⟩;exact h) ?_;(go_wp2_with fail);refine HAd.mono ?_;rintro _ wb ⟨rfl,hA⟩;obtain⟨M3,hS3,hO3⟩:=HStp wb hA;have HS3:=Ab hS3;have HO3:=Ab hO3;clear HAd HStp hA hS3 hO3 q0 q1 HBa;go_wp2;refine HK6 _ _ ?_;clear HK6;refine AN (by rfl) (by rintro ⟨_,_,h⟩;exact h) ?_;go_wp2
     go_roundw
     case rel=>exact⟨j+1,M3,by go_num,by omega,HS3,HO3⟩
     case measure=>simp[intOf];omega
    .have HSf:JR (cZ w w5 (N+1) RB sts (F::s) (A++[H]) (H.2.pos.foldl Bb Nd) M2 wr):=by
      have h:=Aa HS;rw[lH (by have:=Aa HPln;omega)]at h;exact h
     have HP:=Ab (HPo2 M2 wr HSf HO);(have hr1:¬(j:Int)<(Z nps:Int):=by omega);clear HS HSf HO HPo2;refine m8 (λK4 hK4=>?_);have HK4:=Ab hK4;clear hK4;refine AN (by rfl) (by rintro ⟨_,_,h⟩;exact h) ?_;go_wp2;refine HK4 _ _ ?_;clear HK4 K4;refine m8 (λK4 hK4=>?_);have HK4:=Ab hK4;clear hK4 HK4;refine oC rfl (wpIn_exit ?_);exact HP
 case rdone=>
  intro D M' W2 hD hi hd hMD;have hhl:Z hs=Z sts:=by have h:=congrArg List.length HSti.eq;simpa using h.symm
  have hst:(hs.reverse.take (Z (List.range (Z sts)).reverse)).foldl GX ([],[F])=hs.reverse.foldl GX ([],[F]):=by
   rw[lH (by simp;omega)]
  have hA:(hs.reverse.foldl GX ([],[F])).1=(I4 hs F).reverse:=by
   rw[QU];rfl
  have hi':cZ w w5 (N+1) RB sts (F::s) (I4 hs F).reverse (hs.reverse.foldl GX ([],[F])).2 M' W2:=by
   have h:=hi;rw[hst,hA]at h;exact h
  obtain⟨nad,ncp,ns,rad,rcp,rs,-,-,-,-,g5,g6,g7,g8,hMe⟩:=hi'.out;have hlen:Z rs<=7000:=by
   have h:=congrArg List.length g7;rw[lR,lR,List.length_reverse]at h;have h1:=QX hs.reverse ([],[F]);rw[hA,List.length_reverse,List.length_reverse]at h1;have h2:=HWay.2.2;have h3:=Aa HSl;simp only[mn]at h1;omega
  have HRv:=Ab (Wq w5.heap.size rad rcp rs W2 g6 (by omega) (λp hp=>by
   have h:=hi'.each p (g8 p hp)
   obtain⟨a,c,e⟩:=Ak h.pf
   obtain⟨a2,c2,e2⟩:=h.sl
   exact⟨⟨a,_,c,e⟩,a2,_,c2,e2⟩))
  have HFin:JR (∀(tmps:Array Value) (w':Hq),tmps.getD 4 undef=U rad (Z rs) rcp->Mi w' w5.heap.size 176 4 (U rad (Z rs) rcp) (Z rs) (rs.reverse.flatMap Ci)->Ac (U rad (Z rs) rcp).ownBlock.toList W2 w'->QQ .ret ⟨tmps,[EO D]⟩ w'):=by
   intro tmps w' h4 hr hk;rw[<-Aa HQQ];(have hDn:D∉(U rad (Z rs) rcp).ownBlock.toList:=λhm=>hMD D (by rw[hMe];simp only[lI,lV];exact Hf (Hf (Hf hm))) rfl);have hDl:D<W2.heap.size:=(mE.1 hd).1;have hd':w'.heap[D]?=V (.deferred (V [])):=(hk.block D hDl hDn).trans hd;have hmk:DD w.heap.size [D] w':=⟨by simp,λd hd2=>by simp only[lG]at hd2;have:=HKw5.size;omega,λd hd2=>by simp only[lG]at hd2;rw[hd2];exact hd'⟩;refine DC [D] w' hmk (λw'' hsv=>?_);have hkw:Ac [] w w':=hi'.kept.trans' hk (λq hq=>Hf (by have h1:=(g6.lt q (by simpa using hq)).1;have h2:=HKw5.size;omega));have hpf:∀p∈rs,Ek w' p.2.f:=λp hp=>by
    have h:=(hi'.each p (g8 p hp)).pf;exact Ai (v:=p.2.f.tv) h hk (λq hq hm=>Bg (v1:=p.2.f.tv) h g6 (by decide) q hq (by simpa using hm))
   have hown:OwnFrom w.heap.size (fun(_:Unit) W=>Mi W w5.heap.size 176 4 (U rad (Z rs) rcp) (Z rs) (rs.reverse.flatMap Ci)/\(∀p∈rs,Ek W p.2.f)/\Ac [] w W):=BQ (λ_ W W' M h kk hM=>⟨Ai h.1 kk (Cs hM h.1),λp hp=>Ai (v:=p.2.f.tv) (h.2.1 p hp) kk (Cs (v:=p.2.f.tv) hM (h.2.1 p hp)),EA h.2.2 kk hM (lX _)⟩);obtain⟨k1,k2,k3⟩:=hsv.own hown (s:=()) hmk ⟨hr,hpf,hkw⟩;obtain⟨l1,l2,l3,l4⟩:=HPl;refine⟨_,results_tmp rfl _ _ _,rad,rcp,rs.reverse,s,hs,L,NN,by rw[h4,List.length_reverse],by rw[List.length_reverse];exact Al k1 (lW _),λp hp=>⟨k2 p (List.mem_reverse.1 hp),(hi'.each p (g8 p (List.mem_reverse.1 hp))).len,by obtain⟨a,c,e⟩:=(hi'.each p (g8 p (List.mem_reverse.1 hp))).sl;exact⟨a,_,c,e⟩⟩,?_,l1,l2,l3,l4,k3⟩;rw[List.map_reverse,g7,<-List.map_reverse,List.reverse_reverse]
  have r0:=g5.cell 0;simp at r0;have HR2:=Ab g5;have HApp:JR (∀w',Ac (U rad (Z rs) rcp).ownBlock.toList W2 w'->AI w' RB [U rad (Z rs) rcp] 137):=λw' hk=>g5.kept hk (λhm=>As g6 g5 (by decide) (by simpa using hm))
  clear hi hi' hd hMD hst hA hhl g5 g6 g7 g8 hMe zW hlen HR2;refine HKK _ _ ?_;clear HKK;refine Q0 (λK3 HK3=>?_);go_wp2_with fail
  refine HRv.mono ?_;rintro _ w8 ⟨⟨v8,rfl⟩,hr8,k8⟩;have hb8:=Aa HApp w8 k8;have r8:=hb8.cell 0;simp at r8;have HR8:=Ab hr8;have HK8:=Ab k8;clear HRv hr8 k8 hb8 r0 HApp;go_wp2;refine HK3 _ _ ?_;clear HK3 K3;refine Q0 (λK3 HK3=>?_);go_wp2;refine HK3 _ _ ?_;clear HK3 K3;refine wp_ret ?_;exact HFin _ _ rfl HR8 HK8
 case rstop=>
  intro D c pre M' W2 _ h _;exact h.elim
