import Derived.Shelf.RegionOpenPlain
import Derived.Test.YtoihbhenbmffcaaGreatDoorYBP
set_option linter.all false
set_option maxHeartbeats 0
open List renaming length->Z
open Option renaming none->Y
open Go.Value renaming slice->U,int->X,string->O,ownBlock->lX
open Go.IntKind renaming i64->J
open Or renaming inl->lx
namespace Go.Proofs.YtoihbhenbmffcaaGreatDoor
open Go.RowKit Go.Proofs.Tryz
def bE{α:Type}(l:mc α):Nat->mc α
 |0=>l
 |k+1=>match l[k]?,l[Z l-1-k]? with
  |some a,some b=>((bE l k).set k b).set (Z l-1-k) a
  |_,_=>bE l k
def G0{α:Type}(l:mc α):∀k,Z (bE l k)=Z l
 |0=>rfl
 |k+1=>by
  rw[bE];split
  .rw[jm,jm,G0 l k]
  .exact G0 l k
def Vh{α:Type}(l:mc α){k:Nat}(b:k<Z l)(a:Z l-1-k<Z l):bE l (k+1)=((bE l k).set k l[Z l-1-k]).set (Z l-1-k) l[k]:=by
 rw[bE,gS b,gS a]
def TN{α:Type}(l:mc α):∀k,2*k<=Z l->∀i,i<Z l->(bE l k)[i]?=if i<k\/Z l-k<=i then l[Z l-1-i]? else l[i]?
 |0,_,i,hi=>by
  rw[gV (by omega)];rfl
 |k+1,hk,i,hi=>by
  rw[Vh l (by omega) (by omega)];by_cases b:i=Z l-1-k
  .subst b;rw[jc (by rw[jm,G0];omega),gY (by omega),show Z l-1-(Z l-1-k)=k by omega,gS]
  .rw[iO (by omega)];by_cases c:i=k
   .subst c;rw[jc (by rw[G0];omega),gY (by omega),gS]
   .rw[iO (by omega),TN l k (by omega) i hi];by_cases a:i<k\/Z l-k<=i
    .rw[gY a,gY (by omega)]
    .rw[gV a,gV (by omega)]
def dR{α:Type}(l:mc α){k:Nat}(c:2*k<=Z l)(d:Z l<=2*k+1):bE l k=l.reverse:=by
 apply List.ext_getElem?;intro i;by_cases a:i<Z l
 .rw[TN l k c i a,List.getElem?_reverse a];by_cases b:i<k\/Z l-k<=i
  .rw[gY b]
  .rw[gV b,show Z l-1-i=i by omega]
 .rw[List.getElem?_eq_none (by rw[G0];omega),List.getElem?_eq_none (by simp;omega)]
def XP(l:mc (Nat×Ti)):Z (l.flatMap BV)=4*Z l:=by
 induction l with
 |nil=>rfl
 |cons a l ih=>rw[il,ib,ih,gW];simp[BV,JV];omega
def Xy(l:mc (Nat×Ti))(k a:Nat)(c:a<4):(l.flatMap BV)[4*k+a]?=(l[k]?).bind λp=>(BV p)[a]?:=by
 induction l generalizing k with
 |nil=>simp
 |cons p l ih=>
  rw[il];have b:Z (BV p)=4:=rfl;cases k with
  |zero=>rw[List.getElem?_append_left (by omega)];simp
  |succ k=>
   rw[j9 (by omega),b,show 4*(k+1)+a-4=4*k+a by omega,ih k];simp
def XH(l:mc (Nat×Ti))(k:Nat)(c:k<Z l)(p:Nat×Ti):(l.set k p).flatMap BV=((((l.flatMap BV).set (4*k) (O p.2.f.f.name)).set (4*k+1) p.2.f.tv).set (4*k+2) (X J p.1)).set (4*k+3) p.2.n:=by
 apply List.ext_getElem?;intro i;have b:i=4*(i/4)+i%4:=by omega
 have a:i%4<4:=Nat.mod_lt _ (by omega);have m:=XP l;by_cases d:i/4=k
 .have e:(((l.set k p).flatMap BV)[i]?)=(BV p)[i%4]?:=by
   rw[b,Xy _ _ _ (by omega),show(4*(i/4)+i%4)%4=i%4 by omega,d,jc c];rfl
  rw[e];have g:i%4=0\/i%4=1\/i%4=2\/i%4=3:=by omega
  have j:4*k+4<=Z (l.flatMap BV):=by omega
  rcases g with h|h|h|h
  .rw[h,iO (by omega),iO (by omega),iO (by omega),show i=4*k by omega,jc (by omega)];rfl
  .rw[h,iO (by omega),iO (by omega),show i=4*k+1 by omega,jc (by simp only[jm];omega)];rfl
  .rw[h,iO (by omega),show i=4*k+2 by omega,jc (by simp only[jm];omega)];rfl
  .rw[h,show i=4*k+3 by omega,jc (by simp only[jm];omega)];rfl
 .rw[iO (by omega),iO (by omega),iO (by omega),iO (by omega),b,Xy _ _ _ a,Xy _ _ _ a,iO (by omega)]
set_option maxRecDepth 100000
theorem UF(base:Nat)(m:Option Addr)(l:Nat)(b:mc (Nat×Ti))(w:World)(hR:w.ownsRow base 176 4 (U m (Z b) l) (Z b) (b.flatMap BV))(H3:Z b<=900000)(FC:∀p∈b,(∃a n c,p.2.f.tv=U a n c)/\∃a n c,p.2.n=U a n c):
  Calls prog 146 #[U m (Z b) l] w λr w'=>(∃v,r=.returned v)/\w'.ownsRow base 176 4 (U m (Z b) l) (Z b) (b.reverse.flatMap BV)/\Ac (U m (Z b) l).ownBlock.toList w w':=by
 have HR:=Ab hR;have FL:=Ab FC;have mixed:prog.follows .mixedOrders=true:=by kernel_rfl
 clear hR FC;go_enter func146,ntmps146;have FP:Hid (w.ownsRow base 176 4 (U m (Z b) l) (Z b) ((bE b 0).flatMap BV)):=HR;go_wp2_with fail
 go_loopg [2,3] (Z b) (λgk i jv wr=>∃(k:Nat),i=X J k/\jv=X J ((Z b:Int)-1-k)/\2*k<=Z b/\gk=Z b-k/\Hid (wr.ownsRow base 176 4 (U m (Z b) l) (Z b) ((bE b k).flatMap BV))/\Hid (Ac (U m (Z b) l).ownBlock.toList w wr))
 case atStart=>exact⟨0,rfl,by go_num,by omega,rfl,FP,me _ _⟩
 case round=>
  clear FP;obtain⟨k,rfl,rfl,hk,FT,HW,HK⟩:=hrel;have HG:=Ab FT;clear FT;by_cases H4:2*k+1<Z b
  .obtain⟨j,hj⟩:∃j,Z b-1-k=j:=⟨_,rfl⟩;(have HO:(Z b:Int)-1-k=(j:Int):=by omega);rw[HO];(have R:k<Z (bE b k):=by rw[G0];omega);(have N:j<Z (bE b k):=by rw[G0];omega);have d:=Aa HW;rw[<-G0 b k]at d;obtain⟨g,hg,a0,a1,a2,a3⟩:=I4 (Am d (ik _)) k R;obtain⟨g',A1,W,b1,b2,T⟩:=I4 (Am d (ik _)) j N;rw[hg]at A1;simp only[gT,iL]at A1;obtain⟨rfl,-,-⟩:=A1;subst hg;have H8:=d.frozenAt (k*4);have IJ:=d.frozenAt (k*4+1);have H1:=d.frozenAt (k*4+2);have H5:=d.frozenAt (k*4+3);have Jx:=d.frozenAt (j*4);have H7:=d.frozenAt (j*4+1);have Ix:=d.frozenAt (j*4+2);have HZ:=d.frozenAt (j*4+3);have FA:(bE b k)[k]=b[k]:=by
    have h:=TN b k hk k (by omega);rw[gV (by omega),gS R,gS (by omega)]at h;simpa using h
   have Ha:(bE b k)[j]=b[j]:=by
    have h:=TN b k hk j (by omega);rw[gV (by omega),gS N,gS (by omega)]at h;simpa using h
   rw[FA]at a0 a1 a2 a3;rw[Ha]at W b1 b2 T;obtain⟨A,P⟩:∃A,b[k]=A:=⟨_,rfl⟩;obtain⟨B,Q⟩:∃B,b[j]=B:=⟨_,rfl⟩;have HF:Hid (bE b (k+1)=((bE b k).set k B).set j A):=by
    show _=_;have h:=Vh b (show k<Z b by omega) (show Z b-1-k<Z b by omega);simp only[hj]at h;rw[h,P,Q]
   rw[P]at a0 a1 a2 a3;rw[Q]at W b1 b2 T;obtain⟨t,BA⟩:∃x,A.2.f.f.name=x:=⟨_,rfl⟩;obtain⟨⟨H,y,L,CC⟩,z,o,F,CL⟩:=FL A (by rw[<-P];exact gL _);obtain⟨⟨D,E,C,S⟩,q,G,s,AO⟩:=FL B (by rw[<-Q];exact gL _);obtain⟨M,Ax⟩:∃x,A.1=x:=⟨_,rfl⟩;obtain⟨u,DT⟩:∃x,B.2.f.f.name=x:=⟨_,rfl⟩;obtain⟨I,BS⟩:∃x,B.1=x:=⟨_,rfl⟩;have HA:Hid (A.2.f.f.name=t/\A.2.f.tv=U H y L/\A.1=M/\A.2.n=U z o F):=⟨BA,CC,Ax,CL⟩;have HY:Hid (B.2.f.f.name=u/\B.2.f.tv=U D E C/\B.1=I/\B.2.n=U q G s):=⟨DT,S,BS,AO⟩;rw[BA]at a0;rw[CC]at a1;rw[Ax]at a2;rw[CL]at a3;rw[DT]at W;rw[S]at b1;rw[BS]at b2;rw[AO]at T;(have H9:(0:Int)<=(k:Int):=by omega);(have HH:(k:Int)<(j:Int):=by omega);(have H0:(k:Int)<(Z b:Int):=by omega);(have H6:(j:Int)<(Z b:Int):=by omega);(have IS:(0:Int)<=(j:Int):=by omega);have HE:Hid (((((((((wr.setCell ⟨g,k*4,Y⟩ (O u)).setCell ⟨g,k*4+1,Y⟩ (U D E C)).setCell ⟨g,k*4+2,Y⟩ (X J I)).setCell ⟨g,k*4+3,Y⟩ (U q G s)).setCell ⟨g,j*4,Y⟩ (O t)).setCell ⟨g,j*4+1,Y⟩ (U H y L)).setCell ⟨g,j*4+2,Y⟩ (X J M)).setCell ⟨g,j*4+3,Y⟩ (U z o F)).ownsRow base 176 4 (U (some ⟨g,0,Y⟩) (Z b) l) (Z b) ((bE b (k+1)).flatMap BV)):=by
    (have HL:j<Z ((bE b k).set k B):=by rw[jm];exact N);have h:=(Bw (Bw (Bw (Bw (Bw (Bw (Bw (Bw d (4*k) (O u)) (4*k+1) (U D E C)) (4*k+2) (X J I)) (4*k+3) (U q G s)) (4*j) (O t)) (4*j+1) (U H y L)) (4*j+2) (X J M)) (4*j+3) (U z o F));have e:(bE b (k+1)).flatMap BV=(((((((((bE b k).flatMap BV).set (4*k) (O u)).set (4*k+1) (U D E C)).set (4*k+2) (X J I)).set (4*k+3) (U q G s)).set (4*j) (O t)).set (4*j+1) (U H y L)).set (4*j+2) (X J M)).set (4*j+3) (U z o F):=by
     obtain⟨p1,p2,p3,p4⟩:=HA;obtain⟨q1,q2,q3,q4⟩:=HY;rw[Aa HF,XH _ _ HL,XH _ _ R,p1,p2,p3,p4,q1,q2,q3,q4]
    rw[e];rw[G0]at h;simp only[Nat.mul_comm 4]at h⊢;exact h
   have HQ:Hid (Ac (U (some ⟨g,0,Y⟩) (Z b) l).ownBlock.toList w ((((((((wr.setCell ⟨g,k*4,Y⟩ (O u)).setCell ⟨g,k*4+1,Y⟩ (U D E C)).setCell ⟨g,k*4+2,Y⟩ (X J I)).setCell ⟨g,k*4+3,Y⟩ (U q G s)).setCell ⟨g,j*4,Y⟩ (O t)).setCell ⟨g,j*4+1,Y⟩ (U H y L)).setCell ⟨g,j*4+2,Y⟩ (X J M)).setCell ⟨g,j*4+3,Y⟩ (U z o F))):=((((((((HK.setCell (p:=⟨g,k*4,Y⟩) (lx (by simp[lX])) (O u)).setCell (p:=⟨g,k*4+1,Y⟩) (lx (by simp[lX])) (U D E C)).setCell (p:=⟨g,k*4+2,Y⟩) (lx (by simp[lX])) (X J I)).setCell (p:=⟨g,k*4+3,Y⟩) (lx (by simp[lX])) (U q G s)).setCell (p:=⟨g,j*4,Y⟩) (lx (by simp[lX])) (O t)).setCell (p:=⟨g,j*4+1,Y⟩) (lx (by simp[lX])) (U H y L)).setCell (p:=⟨g,j*4+2,Y⟩) (lx (by simp[lX])) (X J M)).setCell (p:=⟨g,j*4+3,Y⟩) (lx (by simp[lX])) (U z o F));have HN:=Ab (Ad HE (me [] _).drew (by simp));have HS:=Ab HQ.drew;clear d FA Ha P Q BA CC Ax CL DT S BS AO HW R N;go_wp2_with fail
   go_region_o
   all_goals go_wp2
   go_roundg (Z b-(k+1))
   case measure=>have:=Aa HG;omega
   case rel=>exact⟨k+1,congrArg (X J) (by omega),congrArg (X J) (by omega),by omega,rfl,HN,HS⟩
  .have HC:Hid (wr.ownsRow base 176 4 (U m (Z b) l) (Z b) (b.reverse.flatMap BV)):=by
    have h:=Aa HW;rw[dR b hk (by omega)]at h;exact h
   (have HH:¬(k:Int)<(Z b:Int)-1-k:=by omega);go_wp2;go_end0;exact⟨⟨_,rfl⟩,HC,HK⟩
