import Derived.Shelf.RegionOpenPlain
import Derived.Test.YtoihbhenbmffcaaGreatDoorYBQ
set_option linter.all false
set_option maxHeartbeats 0
open List renaming length->Z
open Option renaming none->Y
open Go.Value renaming slice->U,int->X,string->O,ownBlock->jN
open Go.IntKind renaming i64->J
open Or renaming inl->j5
namespace Go.Proofs.YtoihbhenbmffcaaGreatDoor
open Go.RowKit Go.Proofs.Tryz
def Z3{α:Type}(l:List α):Nat->List α
 |0=>l
 |k+1=>match l[k]?,l[Z l-1-k]? with
  |some a,some b=>((Z3 l k).set k b).set (Z l-1-k) a
  |_,_=>Z3 l k
def GN{α:Type}(l:List α):∀k,Z (Z3 l k)=Z l
 |0=>rfl
 |k+1=>by
  rw[Z3];split
  .rw[fY,fY,GN l k]
  .exact GN l k
def Ua{α:Type}(l:List α){k:Nat}(b:k<Z l)(a:Z l-1-k<Z l):Z3 l (k+1)=((Z3 l k).set k l[Z l-1-k]).set (Z l-1-k) l[k]:=by
 rw[Z3,ez b,ez a]
def SO{α:Type}(l:List α):∀k,2*k<=Z l->∀i,i<Z l->(Z3 l k)[i]?=if i<k\/Z l-k<=i then l[Z l-1-i]? else l[i]?
 |0,_,i,hi=>by
  rw[eE (by omega)];rfl
 |k+1,hk,i,hi=>by
  rw[Ua l (by omega) (by omega)];by_cases b:i=Z l-1-k
  .subst b;rw[gi (by rw[fY,GN];omega),eI (by omega),show Z l-1-(Z l-1-k)=k by omega,ez]
  .rw[fG (by omega)];by_cases c:i=k
   .subst c;rw[gi (by rw[GN];omega),eI (by omega),ez]
   .rw[fG (by omega),SO l k (by omega) i hi];by_cases a:i<k\/Z l-k<=i
    .rw[eI a,eI (by omega)]
    .rw[eE a,eE (by omega)]
def cq{α:Type}(l:List α){k:Nat}(c:2*k<=Z l)(d:Z l<=2*k+1):Z3 l k=l.reverse:=by
 apply List.ext_getElem?;intro i;by_cases a:i<Z l
 .rw[SO l k c i a,List.getElem?_reverse a];by_cases b:i<k\/Z l-k<=i
  .rw[eI b]
  .rw[eE b,show Z l-1-i=i by omega]
 .rw[List.getElem?_eq_none (by rw[GN];omega),List.getElem?_eq_none (by simp;omega)]
def WE(l:List (Nat×Si)):Z (l.flatMap BU)=4*Z l:=by
 induction l with
 |nil=>rfl
 |cons a l ih=>rw[eN,eJ,ih,eF];simp[BU,Jz];omega
def Wq(l:List (Nat×Si))(k a:Nat)(c:a<4):(l.flatMap BU)[4*k+a]?=(l[k]?).bind λp=>(BU p)[a]?:=by
 induction l generalizing k with
 |nil=>simp
 |cons p l ih=>
  rw[eN];have b:Z (BU p)=4:=rfl;cases k with
  |zero=>rw[List.getElem?_append_left (by omega)];simp
  |succ k=>
   rw[iF (by omega),b,show 4*(k+1)+a-4=4*k+a by omega,ih k];simp
def Wz(l:List (Nat×Si))(k:Nat)(c:k<Z l)(p:Nat×Si):(l.set k p).flatMap BU=((((l.flatMap BU).set (4*k) (O p.2.f.f.name)).set (4*k+1) p.2.f.tv).set (4*k+2) (X J p.1)).set (4*k+3) p.2.n:=by
 apply List.ext_getElem?;intro i;have b:i=4*(i/4)+i%4:=by omega
 have a:i%4<4:=Nat.mod_lt _ (by omega);have m:=WE l;by_cases d:i/4=k
 .have e:(((l.set k p).flatMap BU)[i]?)=(BU p)[i%4]?:=by
   rw[b,Wq _ _ _ (by omega),show(4*(i/4)+i%4)%4=i%4 by omega,d,gi c];rfl
  rw[e];have g:i%4=0\/i%4=1\/i%4=2\/i%4=3:=by omega
  have j:4*k+4<=Z (l.flatMap BU):=by omega
  rcases g with h|h|h|h
  .rw[h,fG (by omega),fG (by omega),fG (by omega),show i=4*k by omega,gi (by omega)];rfl
  .rw[h,fG (by omega),fG (by omega),show i=4*k+1 by omega,gi (by simp only[fY];omega)];rfl
  .rw[h,fG (by omega),show i=4*k+2 by omega,gi (by simp only[fY];omega)];rfl
  .rw[h,show i=4*k+3 by omega,gi (by simp only[fY];omega)];rfl
 .rw[fG (by omega),fG (by omega),fG (by omega),fG (by omega),b,Wq _ _ _ a,Wq _ _ _ a,fG (by omega)]
set_option maxRecDepth 100000
theorem Ty(base:Nat)(m:Option Addr)(l:Nat)(b:List (Nat×Si))(w:World)(hR:w.ownsRow base 176 4 (U m (Z b) l) (Z b) (b.flatMap BU))(H2:Z b<=900000)(FA:∀p∈b,(∃a n c,p.2.f.tv=U a n c)/\∃a n c,p.2.n=U a n c):
  Calls prog 146 #[U m (Z b) l] w λr w'=>(∃v,r=.returned v)/\w'.ownsRow base 176 4 (U m (Z b) l) (Z b) (b.reverse.flatMap BU)/\Ac (U m (Z b) l).ownBlock.toList w w':=by
 have HR:=Ab hR;have FC:=Ab FA;have mixed:prog.follows .mixedOrders=true:=by kernel_rfl
 clear hR FA;go_enter func146,ntmps146;have FL:Hid (w.ownsRow base 176 4 (U m (Z b) l) (Z b) ((Z3 b 0).flatMap BU)):=HR;go_wp2_with fail
 go_loopg [2,3] (Z b) (λgk i jv wr=>∃(k:Nat),i=X J k/\jv=X J ((Z b:Int)-1-k)/\2*k<=Z b/\gk=Z b-k/\Hid (wr.ownsRow base 176 4 (U m (Z b) l) (Z b) ((Z3 b k).flatMap BU))/\Hid (Ac (U m (Z b) l).ownBlock.toList w wr))
 case atStart=>exact⟨0,rfl,by go_num,by omega,rfl,FL,Ac.refl _ _⟩
 case round=>
  clear FL;obtain⟨k,rfl,rfl,hk,FO,HW,HK⟩:=hrel;have HG:=Ab FO;clear FO;by_cases H3:2*k+1<Z b
  .obtain⟨j,hj⟩:∃j,Z b-1-k=j:=⟨_,rfl⟩;(have HM:(Z b:Int)-1-k=(j:Int):=by omega);rw[HM];(have R:k<Z (Z3 b k):=by rw[GN];omega);(have N:j<Z (Z3 b k):=by rw[GN];omega);have d:=Aa HW;rw[<-GN b k]at d;obtain⟨g,hg,a0,a1,a2,a3⟩:=IN (Am d (eV _)) k R;obtain⟨g',AT,W,b1,b2,T⟩:=IN (Am d (eV _)) j N;rw[hg]at AT;simp only[eD,fm]at AT;obtain⟨rfl,-,-⟩:=AT;subst hg;have H7:=d.frozenAt (k*4);have Ix:=d.frozenAt (k*4+1);have H0:=d.frozenAt (k*4+2);have H4:=d.frozenAt (k*4+3);have IS:=d.frozenAt (j*4);have H6:=d.frozenAt (j*4+1);have H9:=d.frozenAt (j*4+2);have HY:=d.frozenAt (j*4+3);have EY:(Z3 b k)[k]=b[k]:=by
    have h:=SO b k hk k (by omega);rw[eE (by omega),ez R,ez (by omega)]at h;simpa using h
   have FT:(Z3 b k)[j]=b[j]:=by
    have h:=SO b k hk j (by omega);rw[eE (by omega),ez N,ez (by omega)]at h;simpa using h
   rw[EY]at a0 a1 a2 a3;rw[FT]at W b1 b2 T;obtain⟨A,P⟩:∃A,b[k]=A:=⟨_,rfl⟩;obtain⟨B,Q⟩:∃B,b[j]=B:=⟨_,rfl⟩;have HD:Hid (Z3 b (k+1)=((Z3 b k).set k B).set j A):=by
    show _=_;have h:=Ua b (show k<Z b by omega) (show Z b-1-k<Z b by omega);simp only[hj]at h;rw[h,P,Q]
   rw[P]at a0 a1 a2 a3;rw[Q]at W b1 b2 T;obtain⟨t,Bx⟩:∃x,A.2.f.f.name=x:=⟨_,rfl⟩;obtain⟨⟨H,y,L,B9⟩,z,o,F,CC⟩:=FC A (by rw[<-P];exact eo _);obtain⟨⟨D,E,C,S⟩,q,G,s,AB⟩:=FC B (by rw[<-Q];exact eo _);obtain⟨M,Ax⟩:∃x,A.1=x:=⟨_,rfl⟩;obtain⟨u,CL⟩:∃x,B.2.f.f.name=x:=⟨_,rfl⟩;obtain⟨I,BA⟩:∃x,B.1=x:=⟨_,rfl⟩;have FW:Hid (A.2.f.f.name=t/\A.2.f.tv=U H y L/\A.1=M/\A.2.n=U z o F):=⟨Bx,B9,Ax,CC⟩;have HX:Hid (B.2.f.f.name=u/\B.2.f.tv=U D E C/\B.1=I/\B.2.n=U q G s):=⟨CL,S,BA,AB⟩;rw[Bx]at a0;rw[B9]at a1;rw[Ax]at a2;rw[CC]at a3;rw[CL]at W;rw[S]at b1;rw[BA]at b2;rw[AB]at T;(have H8:(0:Int)<=(k:Int):=by omega);(have HE:(k:Int)<(j:Int):=by omega);(have HZ:(k:Int)<(Z b:Int):=by omega);(have H5:(j:Int)<(Z b:Int):=by omega);(have IJ:(0:Int)<=(j:Int):=by omega);have HC:Hid (((((((((wr.setCell ⟨g,k*4,Y⟩ (O u)).setCell ⟨g,k*4+1,Y⟩ (U D E C)).setCell ⟨g,k*4+2,Y⟩ (X J I)).setCell ⟨g,k*4+3,Y⟩ (U q G s)).setCell ⟨g,j*4,Y⟩ (O t)).setCell ⟨g,j*4+1,Y⟩ (U H y L)).setCell ⟨g,j*4+2,Y⟩ (X J M)).setCell ⟨g,j*4+3,Y⟩ (U z o F)).ownsRow base 176 4 (U (some ⟨g,0,Y⟩) (Z b) l) (Z b) ((Z3 b (k+1)).flatMap BU)):=by
    (have HI:j<Z ((Z3 b k).set k B):=by rw[fY];exact N);have h:=(BE (BE (BE (BE (BE (BE (BE (BE d (4*k) (O u)) (4*k+1) (U D E C)) (4*k+2) (X J I)) (4*k+3) (U q G s)) (4*j) (O t)) (4*j+1) (U H y L)) (4*j+2) (X J M)) (4*j+3) (U z o F));have e:(Z3 b (k+1)).flatMap BU=(((((((((Z3 b k).flatMap BU).set (4*k) (O u)).set (4*k+1) (U D E C)).set (4*k+2) (X J I)).set (4*k+3) (U q G s)).set (4*j) (O t)).set (4*j+1) (U H y L)).set (4*j+2) (X J M)).set (4*j+3) (U z o F):=by
     obtain⟨p1,p2,p3,p4⟩:=FW;obtain⟨q1,q2,q3,q4⟩:=HX;rw[Aa HD,Wz _ _ HI,Wz _ _ R,p1,p2,p3,p4,q1,q2,q3,q4]
    rw[e];rw[GN]at h;simp only[Nat.mul_comm 4]at h⊢;exact h
   have HO:Hid (Ac (U (some ⟨g,0,Y⟩) (Z b) l).ownBlock.toList w ((((((((wr.setCell ⟨g,k*4,Y⟩ (O u)).setCell ⟨g,k*4+1,Y⟩ (U D E C)).setCell ⟨g,k*4+2,Y⟩ (X J I)).setCell ⟨g,k*4+3,Y⟩ (U q G s)).setCell ⟨g,j*4,Y⟩ (O t)).setCell ⟨g,j*4+1,Y⟩ (U H y L)).setCell ⟨g,j*4+2,Y⟩ (X J M)).setCell ⟨g,j*4+3,Y⟩ (U z o F))):=((((((((HK.setCell (p:=⟨g,k*4,Y⟩) (j5 (by simp[jN])) (O u)).setCell (p:=⟨g,k*4+1,Y⟩) (j5 (by simp[jN])) (U D E C)).setCell (p:=⟨g,k*4+2,Y⟩) (j5 (by simp[jN])) (X J I)).setCell (p:=⟨g,k*4+3,Y⟩) (j5 (by simp[jN])) (U q G s)).setCell (p:=⟨g,j*4,Y⟩) (j5 (by simp[jN])) (O t)).setCell (p:=⟨g,j*4+1,Y⟩) (j5 (by simp[jN])) (U H y L)).setCell (p:=⟨g,j*4+2,Y⟩) (j5 (by simp[jN])) (X J M)).setCell (p:=⟨g,j*4+3,Y⟩) (j5 (by simp[jN])) (U z o F));have HL:=Ab (Ad HC (Ac.refl [] _).drew (by simp));have HP:=Ab HO.drew;clear d EY FT P Q Bx B9 Ax CC CL S BA AB HW R N;go_wp2_with fail
   go_region_o
   all_goals go_wp2
   go_roundg (Z b-(k+1))
   case measure=>have:=Aa HG;omega
   case rel=>exact⟨k+1,congrArg (X J) (by omega),congrArg (X J) (by omega),by omega,rfl,HL,HP⟩
  .have Ha:Hid (wr.ownsRow base 176 4 (U m (Z b) l) (Z b) (b.reverse.flatMap BU)):=by
    have h:=Aa HW;rw[cq b hk (by omega)]at h;exact h
   (have HE:¬(k:Int)<(Z b:Int)-1-k:=by omega);go_wp2;go_end0;exact⟨⟨_,rfl⟩,Ha,HK⟩
