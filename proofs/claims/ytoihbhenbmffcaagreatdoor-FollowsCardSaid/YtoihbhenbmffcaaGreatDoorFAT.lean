import Derived.Test.YtoihbhenbmffcaaGreatDoorFAS
import Derived.Test.YtoihbhenbmffcaaGreatDoorFAN
set_option linter.all false
set_option maxHeartbeats 0
open List renaming length->Z,toArray->ml
open Option renaming none->Y,some->V
open Go.Value renaming slice->U,int->X,string->O,pointer->m2,agg->pC
open Bool renaming false->K,true->jj
open Go.IntKind renaming i64->J
open Go.Obj renaming cells->j3
open Go.Ending renaming returned->oa
open Or renaming inl->oi,inr->oj
open Go renaming World->py,Value->p5
open Go.RowKit renaming Hid->p7
open Go.World renaming cell?->p8,ownsRow->p9
open ByteArray renaming empty->pF
open Prod renaming fst->pH
open Go.Act renaming put->pJ
namespace Go.Proofs.YtoihbhenbmffcaaGreatDoor
open Go.RowKit Go.Proofs.Tryz
variable{m k b n i:Nat}{v w u:py}{M:pM Nat}{z:p5}{s t:zA}{e:pM zA}{f:pM Af}{B:Bool}{g:UInt8}{I:Int}{y:pM p5}
def ci{c:pM Fa}(o:c.Pairwise λa b=>CP a.f b.f<0)(n:zA)(l:Gs c ⟨n,[]⟩ m):(c.drop m).takeWhile (P8 n)=c.filter (P8 n):=by
 have r:∀q∈c.drop m,¬DU q.f.name n<0:=by
  intro q g;obtain⟨i,j,rfl⟩:=lX g;rw[mf]at j;rw[oM,<-NR];exact l.zh (m+i) (by omega) (by omega)
 have s:(c.drop m).takeWhile (P8 n)=(c.drop m).filter (P8 n):=by
  refine JN _ (nz (fun{a b} ha hb hab hbn=>?_) (o.drop (i:=m)));have e:b.f.name=n:=toList_inj (by simpa[P8] using hbn);have t:¬DU a.f.name n<0:=r a ha;have h:DU a.f.name b.f.name<=0:=by
   unfold CP at hab;split at hab<;>omega
  rw[e]at h;have d:DU a.f.name n=0:=by omega
  unfold P8;rw[(Bw _ _).1 d];simp
 have h:(c.take m).filter (P8 n)=[]:=by
  refine oH.2 (λq g k=>?_);obtain⟨i,j,rfl⟩:=lX g;rw[l9]at j;rw[od]at k;have d:=(NR _ _).1 (l.below i (by omega) (by omega));have e:c[i].f.name=n:=toList_inj (by simpa[P8] using k);rw[e]at d;have:DU n n=0:=(Bw n n).2 rfl;omega
 have d:c.filter (P8 n)=(c.drop m).filter (P8 n):=by
  conv=>lhs;rw[<-mt m c,nF,h,mw]
 rw[s,<-d]
def gX{α:Type}{q:α->Bool}{l:pM α}(a:k<Z l)(h:q l[k]=jj):(l.drop k).takeWhile q=l[k]::(l.drop (k+1)).takeWhile q:=by
 rw[lD a,List.takeWhile_cons,h,ln rfl]
def iU{α:Type}{q:α->Bool}{l:pM α}(a:k<Z l)(h:q l[k]=K):(l.drop k).takeWhile q=[]:=by
 rw[lD a,List.takeWhile_cons,h,li (by simp)]
structure Vl(w0:py)(b2:Nat)(n:zA)(M:pM Nat)(w:py):Prop where
 kept:Ac [] w0 w
 name:p8 w ⟨b2,0,Y⟩=V (O n)
 apart:∀k∈M,w0.heap.size<=k/\k≠b2/\k<w.heap.size
def Vl.grow{n:zA}(h:Vl v m n M w)(k:Ac [] w u):Vl v m n M u:=
 ⟨h.kept.trans k,k.cellAt h.name,λi a=>⟨(h.apart i a).1,(h.apart i a).2.1,mX (h.apart i a).2.2 k.size⟩⟩
def Lg(k:Ac M w u)(h:p8 w ⟨b,n,Y⟩=V z)(a:b∉M):p8 u ⟨b,n,Y⟩=V z:=by
 have e:=k.block b (Oy h) a;simp only[World.cell?,e]at h⊢;exact h
def Vl.round{M d:pM Nat}(h:Vl v m s M w)(k:Ac M w u)(c:∀i∈d,(i∈M\/w.heap.size<=i)/\i<u.heap.size):Vl v m s d u:=by
 have g:=Oy h.name;have f:=h.kept.size;refine⟨h.kept.trans' k (λi b=>oj (h.apart i b).1),Lg k h.name (λe=>(h.apart _ e).2.1 rfl),λi b=>⟨?_,?_,(c i b).2⟩⟩
 .rcases(c i b).1 with a|a
  .exact(h.apart i a).1
  .omega
 .rcases(c i b).1 with a|a
  .exact(h.apart i a).2.1
  .omega
set_option maxRecDepth 100000
theorem gn(b1 H S P:Nat)(D:Option Addr)(o:Nat)(d:pM Fa)(n:zA)(w0 w:py)(G:pM Nat)(x:p8 w ⟨b1,0,Y⟩=V (m2 (V ⟨S,P,Y⟩)))
  (hO:Vl w0 H n G w) (hs:p8 w0 ⟨S,P,Y⟩=V (U D (Z d) o)) (hP:Jm w0 (U D (Z d) o) d) (M3:Z d<=900000) (HK:d.Pairwise λa b=>CP a.f b.f<0)
  (H6:∀i j (hi:i<Z d) (hj:j<Z d),i<=j->CP d[j].f ⟨n,[]⟩<0->CP d[i].f ⟨n,[]⟩<0):
  Lx prog 235 #[m2 (V ⟨b1,0,Y⟩),m2 (V ⟨H,0,Y⟩)] (λq:Fa=>#[pC (ml (A6 q))]) (d.filter (P8 n)) G w:=by
 intro l BS Jx W FO _ _ hJ NV hR HH;have AO:=hO.grow FO;have c1:=FO.cellAt x;have cs:=AO.kept.cellAt hs;have c2:=AO.name;have FT:p7 (∀wr,Ac [] W wr->Calls prog 103 #[U D (Z d) o,pC #[O n,U Y 0 0],.func (.func 104) #[] #[]] wr λe w'=>∃p:Nat,e=oa (.tuple #[X J p,.bool (ER d ⟨n,[]⟩ p)])/\Gs d ⟨n,[]⟩ p/\Ac [] wr w'):=λwr z=>La D o d ⟨⟨n,[]⟩,U Y 0 0⟩ wr (hP.kept (AO.kept.trans z)) (lH _ _ _ _) (by simp) (by omega) H6
 have HO:=Ab AO;have HP:=Ab hP;have HJ:=Ab hJ;have HR:=Ab hR;have Ha:=Ab HH;have HF:p7 (∀p,Gs d ⟨n,[]⟩ p->d.filter (P8 n)=(d.drop p).take 0++((d.drop p).drop 0).takeWhile (P8 n)):=λp hc=>by rw[oA,mw,oF,ci HK n hc]
 obtain⟨A,HT⟩:=pN (d.filter (P8 n));rw[HT]at HF HR⊢;have FA:p7 (∀u,Ac [] W u->p8 u ⟨b1,0,Y⟩=V (m2 (V ⟨S,P,Y⟩))/\p8 u ⟨S,P,Y⟩=V (U D (Z d) o)/\p8 u ⟨H,0,Y⟩=V (O n)):=λu z=>⟨z.cellAt c1,z.cellAt cs,z.cellAt c2⟩
 clear HT hO AO hs hP HK H6 hJ hR HH FO x;show Calls prog 235 #[.func (.yield l) #[] #[],m2 (V ⟨b1,0,Y⟩),m2 (V ⟨H,0,Y⟩)] W _;go_enter func235,ntmps235;go_wp2_with fail
 go_region_held3 (λu=>Ac [] W u/\p8 u ⟨b1,0,Y⟩=V (m2 (V ⟨S,P,Y⟩))/\p8 u ⟨S,P,Y⟩=V (U D (Z d) o)/\p8 u ⟨H,0,Y⟩=V (O n)) ((go_split_ands;refine(fun(IA:Ac [] W _)=>And.intro IA (FA _ IA)) ?_;repeat (first|assumption|exact pO [] _|refine Ac.drew ?_|refine Ac.alloc ?_ _))) ((go_at_call 103;refine(FT _ (by go_split_ands;assumption)).mono ?_;rintro e w3 ⟨p,rfl,hcut,k3⟩;have FC:=Ab hcut;have H4:Ac [] W w3:=(by go_split_ands;exact Ac.trans (by assumption) k3);have BT:=Ab H4;clear hcut k3 H4))
 clear c1 cs c2 FT;have H9:=Ab (HO.grow BT);have B0:p7 (BS [] G w3):=BI HJ (s:=([],G)) Ha BT;obtain⟨d1,d2,d3⟩:=FA w3 BT;have LC:=FC.le;have NX:(0:Int)<=(p:Int):=by omega
 have Mo:(p:Int)<=(Z d:Int):=by omega
 have EM:=Ab (HF p FC);have H5:=BT.size;clear FA HO Ha HF FC;have Go:(D=Y/\o=0/\Z d=0)\/∃g,D=V ⟨g,0,Y⟩/\Z d<=o:=by
  rcases HP.row.2 with⟨x,h2⟩|⟨g,c,Nd,x,_,_,h3,_⟩
  .simp only[kS]at x;exact oi ⟨x.1,x.2.2,h2⟩
  .simp only[kS]at x;exact oj ⟨g,x.1,by omega⟩
 by_cases FB:p=Z d
 .have E:p7 (A=[]):=by
   show _=_;rw[Aa EM,FB];simp
  have K4:Z d-p=0:=by omega
  rcases Go with⟨rfl,rfl,hz⟩|⟨g,rfl,KA⟩
  .rw[hz]at K4 Mo d2 LC;go_wp2_with fail
   go_loopg [25] 0 (λgk i wr=>i=X J 0/\wr=w3)
   case atStart=>exact⟨rfl,rfl⟩
   case round=>
    obtain⟨rfl,rfl⟩:=hrel;go_wp2;go_end0;exact⟨⟨_,rfl⟩,oi ⟨G,by rw[Aa E];exact B0⟩⟩
  ·(have MY:(Z d:Int)<=(o:Int):=by omega);(have K8:(p:Int)<=(o:Int):=by omega);clear FB;(go_wp2_with fail);all_goals
    go_loopg [25] 0 (λgk i wr=>i=X J 0/\wr=w3)
    case atStart=>exact⟨rfl,rfl⟩
    case round=>
     obtain⟨rfl,rfl⟩:=hrel;go_wp2;go_end0;exact⟨⟨_,rfl⟩,oi ⟨G,by rw[Aa E];exact B0⟩⟩
 .rcases Go with⟨rfl,rfl,hz⟩|⟨g,rfl,KA⟩
  .omega
  have MY:(Z d:Int)<=(o:Int):=by omega
  have K8:(p:Int)<=(o:Int):=by omega
  have NL:¬o=p:=by omega
  obtain⟨L,hL⟩:=pN (Z d-p);have HL:=Ab hL;have K6:p7 (∀k,k<L->∃(z:p+k<Z d),(d.drop p)[k]?=V d[p+k]):=by
   intro k z;(have h:p+k<Z d:=by omega);exact⟨h,by rw[oI,lc h]⟩
  go_wp2_with fail
  clear hL FB
  go_loopg [7,25] L (λgk bx i wr=>∃(k:Nat) (M:pM Nat),i=X J k/\k<=L/\gk=L-k/\p7 (A=(d.drop p).take k++((d.drop p).drop k).takeWhile (P8 n))/\p7 (Vl w0 H n M wr)/\p7 (BS ((d.drop p).take k) M wr)/\p7 (W.heap.size<=wr.heap.size))
  case atStart=>exact⟨0,G,rfl,by omega,rfl,EM,H9,B0,H5⟩
  case round=>
   clear EM H9 B0 H5;obtain⟨k,M,rfl,z,H8,E,A1,EK,HD⟩:=hrel;have HG:=Ab H8;clear H8;by_cases K3:k<L
   .obtain⟨MN,KK⟩:=K6 k K3;obtain⟨g',NA,y,r,C,B,HB,hf,e0,e1⟩:=Jt (HP.kept A1.kept) (p+k) MN;simp only[kS,ld,lW]at HB;obtain⟨⟨JJ,-,-⟩,-,-⟩:=HB;subst JJ;rw[show(p+k)*2=p*2+k*2 by omega]at e0 e1;(have ES:k<Z (d.drop p):=by rw[mf];omega);(have T:(d.drop p)[k]=⟨⟨y,r⟩,U C (Z r) B⟩:=by rw[oM,hf]);(have NM:(0:Int)<=(k:Int):=by omega);(have KB:(k:Int)<(L:Int):=by omega);have c2:=A1.name;have Q:=Ab (pP wr [O y,U C (Z r) B] 104);have R:=Ab ((pO [] wr).alloc (j3 [O y,U C (Z r) B].toArray 104));have B2:=R.cellAt c2;refine pL (λI m=>?_);go_wp2;refine m _ _ ?_;clear m I;refine pL (λI m=>?_);go_wp2;refine m _ _ ?_;clear m I;refine pL (λK5 H3=>?_);refine wp_block ?_;refine pL (λI m=>?_);go_wp2;refine m _ _ ?_;clear m I;change Code.wp _ _ _ _ (wr.alloc (j3 [O y,U C (Z r) B].toArray 104));generalize hw2:wr.alloc (j3 [O y,U C (Z r) B].toArray 104)=w2 at Q R B2⊢;have IJ:=Q.lt;generalize wr.heap.size=N at Q IJ⊢;have DT:p7 (Vl w0 H n M w2):=A1.grow R;have BA:p7 (BS ((d.drop p).take k) M w2):=BI HJ (s:=((d.drop p).take k,M)) EK R;have B9:p7 (W.heap.size<=w2.heap.size):=mp HD R.size;have x0:=Q.cell 0;have x1:=Q.cell 1;simp at x0 x1;clear hw2 e0 e1 c2 A1 EK HD KK R Q IJ;cases hnn:(y.toList==n.toList)with
    |false=>
     have F:p7 (A=(d.drop p).take k):=by
      show _=_;rw[Aa E,iU ES (by rw[T];exact hnn),lU]
     clear T;go_wp2;refine lL (oL rfl _ _ _) rfl ?_;exact⟨⟨_,rfl⟩,oi ⟨M,by rw[Aa F];exact BA⟩⟩
    |true=>
     have F:p7 (A=(d.drop p).take k++⟨⟨y,r⟩,U C (Z r) B⟩::((d.drop p).drop (k+1)).takeWhile (P8 n)):=by
      show _=_;rw[Aa E,gX ES (by rw[T];exact hnn),T]
     have Bx:p7 ((d.drop p).take k++[⟨⟨y,r⟩,U C (Z r) B⟩]=(d.drop p).take (k+1)):=by
      show _=_;rw[<-T,kW ES]
     have HY:=Ab (HR _ _ _ M w2 F BA);clear T;refine pL (λI m=>?_);refine I1 (n:=0) 7 (by rintro ⟨_,_,h⟩;obtain⟨⟨v,e⟩,_⟩:=h;cases e) (λK2 H2=>?_);simp only[nQ,oA];go_wp2;refine H2 _ _ ?_;clear H2 K2;simp only[om,oF];refine J6 (λ_=>trivial) rfl rfl (l:=l) (args:=#[pC #[O y,U C (Z r) B]]) (by rfl) (by first|(simp[go_sem,Oper.semAt];done)|(simp[go_sem,Oper.semAt,execOp,resolve,invoke];done)) HY ?_;rintro e w4 (⟨rfl,M',AT,FF,FW⟩|⟨rfl,M',AT,-⟩)
     .refine⟨_,rfl,Eh (by rintro ⟨_,_,h⟩;obtain⟨⟨v,e⟩,_⟩:=h;cases e) ?_⟩;simp only[pJ,kR,kT,kU];have K9:=Ab (DT.round FF FW);(have FL:p7 (BS ((d.drop p).take (k+1)) M' w4):=by rw[<-Aa Bx];exact AT);have KD:p7 (W.heap.size<=w4.heap.size):=mp B9 FF.size;have L0:p7 (A=(d.drop p).take (k+1)++((d.drop p).drop (k+1)).takeWhile (P8 n)):=by
       show _=_;rw[Aa F,<-Aa Bx,mo];rfl
      clear AT FF FW x0 x1 B2 HY DT BA B9 E F Bx;go_wp2;refine m _ _ ?_;clear m;go_wp2;refine H3 _ _ ?_;clear H3;go_wp2
      go_roundg (L-(k+1))
      case measure=>have:=Aa HG;omega
      case rel=>exact⟨k+1,M',by go_num,by omega,rfl,L0,K9,FL,KD⟩
     .refine⟨_,rfl,Eh (by rintro ⟨_,_,h⟩;obtain⟨⟨v,e⟩,_⟩:=h;cases e) ?_⟩;simp only[pJ,kR,kT,kU];have FL:=Ab AT;clear AT x0 x1 B2 HY DT BA B9 E F Bx;go_wp2;refine m _ _ ?_;clear m;go_wp2;refine lL (oL rfl _ _ _) rfl ?_;exact⟨⟨_,rfl⟩,oj ⟨_,M',FL⟩⟩
   .have F:p7 (A=(d.drop p).take k):=by
     show _=_;(have hl:Z (d.drop p)<=k:=by rw[mf,Aa HL];omega);rw[Aa E,lS hl];simp
    (have KB:¬(k:Int)<(L:Int):=by omega);go_wp2;go_end0;exact⟨⟨_,rfl⟩,oi ⟨M,by rw[Aa F];exact EK⟩⟩
theorem aZ(b a:Nat)(n:zA)(w:py):
  Calls prog 221 #[m2 (V ⟨b,a,Y⟩),O n] w λr d=>∃c e,r=oa (.func (.func 235) #[] #[m2 (V ⟨c,0,Y⟩),m2 (V ⟨e,0,Y⟩)])/\AF d c [m2 (V ⟨b,a,Y⟩)] 69/\AF d e [O n] 9/\w.heap.size<=c/\w.heap.size<=e/\Ac [] w d:=by
 go_enter func221,ntmps221;go_wp2;go_ret;refine⟨w.heap.size,w.heap.size+1,rfl,(pP w [m2 (V ⟨b,a,Y⟩)] 69).alloc _,?_,lC _,by omega,((pO [] w).alloc _).alloc _⟩;have h:=pP (w.alloc (j3 #[m2 (V ⟨b,a,Y⟩)] 69)) [O n] 9;rw[lT]at h;exact h
def YR(b:pM zA)(ts:pM AW)(at_:Nat)(fs:pM Fa)(m:pM zA):Prop:=∀y,y∈m↔∃q∈fs,In b ts q.f.zC=jj/\y=q.f.zC.getD at_ pF
structure ZM(w:py)(N:Nat)(ap:Int)(nm:zA)(tv:p5)(E:pM p5)(b:pM zA)(ts:pM AW)(at_:Nat)(pre:pM Fa)(M:pM Nat)(W:py):Prop where
 kept:Ac [] w W
 b5:AF W N [X J ap,O nm,tv] 187
 b6:AF W (N+1) [X J at_] 3
 b7:AF W (N+2) E 243
 out:∃(m:pM zA) (ad:Option Addr) (cp:Nat),AF W (N+3) [U ad (Z m) cp] 102/\p9 W N 170 1 (U ad (Z m) cp) (Z m) (m.flatMap Ah)/\C9 FQ m/\YR b ts at_ pre m/\Z m<=Z pre/\M=(N+3)::(U ad (Z m) cp).ownBlock.toList
def ZM.own{N B:Nat}{ap:Int}{nm:zA}{tv:p5}{E:pM p5}{b:pM zA}{ts:pM AW}{at_:Nat}(f:w.heap.size<=B):OwnFrom B (fun(s:pM Fa×pM Nat) W=>ZM w N ap nm tv E b ts at_ s.1 s.2 W):=
 BO (λs W j M h k a=>by
  obtain⟨m,i,e,d,c,g⟩:=h.out
  exact⟨Eo h.kept k a f,h.b5.kept k (CY a h.b5),h.b6.kept k (CY a h.b6),h.b7.kept k (CY a h.b7),m,i,e,d.kept k (CY a d),Ai c k (Co a c),g⟩)
theorem XN(sp kb ko:Nat)(bv ov:p5)(RB:Option Addr)(NS:Nat)(u:pM Fa)(ap:Int)(nm:zA)(A:Option Addr)(z:Nat)(ts:pM AW)(at_:Nat)(b:pM zA)(w:py)(hb:Z b=26)(hS:PQ w sp kb ko bv ov RB NS u)
  (ht:p9 w 0 215 2 (U A (Z ts) z) (Z ts) (ts.flatMap Ar)) (bd:Z ts<=1000) (hv:∀t∈ts,P2 t) (ST:Z u<=900000) (MY:u.Pairwise λa b=>CP a.f b.f<0)
  (N4:∀i j (B:i<Z u) (hj:j<Z u),i<=j->CP u[j].f ⟨nm,[]⟩<0->CP u[i].f ⟨nm,[]⟩<0)
  (o:∀q∈u,P8 nm q=jj->Z ts<=Z q.f.zC/\at_<Z q.f.zC):
  Calls prog 207 #[m2 (V ⟨sp,0,Y⟩),pC #[X J ap,O nm,U A (Z ts) z],X J at_,pC (ml (Aj b))] w λr G=>∃(ad:Option Addr) (cp:Nat) (m:pM zA),r=oa (U ad (Z m) cp)/\C9 FQ m/\YR b ts at_ (u.filter (P8 nm)) m/\Z m<=Z u/\p9 G w.heap.size 170 1 (U ad (Z m) cp) (Z m) (m.flatMap Ah)/\Ac [] w G:=by
 have Os:p7 (∀nb (p:Fa) g,p∈u->P8 nm p=jj->Ac [] w g->AF g nb (Aj b) 243->Calls prog 222 #[m2 (V ⟨nb,0,Y⟩),pC #[X J ap,O nm,U A (Z ts) z],pC (ml (A6 p))] g λr G=>r=oa (.bool (In b ts p.f.zC))/\Ac [] g G):=λnb p g hp hn n hB=>eV nb 243 b ap nm A z ts p 0 g hb hB (Ad ht n) ((hS.facts.each p hp).1.kept n) (by omega) (o p hp hn).1 hv
 have X1:p7 (∀S Q M0 g,p8 g ⟨S,0,Y⟩=V (m2 (V ⟨kb,ko,Y⟩))->Vl w Q nm M0 g->Lx prog 235 #[m2 (V ⟨S,0,Y⟩),m2 (V ⟨Q,0,Y⟩)] (λq:Fa=>#[pC (ml (A6 q))]) (u.filter (P8 nm)) M0 g):=λS Q M0 g h1 hO=>gn S Q kb ko RB NS u nm w g M0 h1 hO hS.set hS.facts ST MY N4
 have HJ:=Ab hS;have HQ:=Ab o;have hc:=Bp b;have XS:Z (Aj b)=26:=by unfold Aj;simp[hb]
 obtain⟨E,hE⟩:=pN (Aj b);rw[hE]at hc XS Os⊢;clear hE hS MY N4 o hv;have a8:=Ab ht;clear ht;obtain⟨N,hN⟩:=pN w.heap.size;have HN:=Ab hN;obtain⟨C,B0⟩:=pN ((((w.alloc (j3 #[X J ap,O nm,U A (Z ts) z] 187)).alloc (j3 #[X J at_] 3)).alloc (j3 (ml E) 243)).alloc (j3 #[U Y 0 0] 102));have NV:=Ab B0;have R:Ac [] w C:=by rw[<-B0];exact((((pO [] w).alloc _).alloc _).alloc _).alloc _
 have NN:AF C N [X J ap,O nm,U A (Z ts) z] 187:=by
  rw[<-B0,<-hN];exact(((pP w [X J ap,O nm,U A (Z ts) z] 187).alloc _).alloc _).alloc _
 have NA:AF C (N+1) [X J at_] 3:=by
  rw[<-B0];have h:=((pP (w.alloc (j3 #[X J ap,O nm,U A (Z ts) z] 187)) [X J at_] 3).alloc (j3 (ml E) 243)).alloc (j3 #[U Y 0 0] 102);rw[lT,hN]at h;exact h
 have P0:AF C (N+2) E 243:=by
  rw[<-B0];have h:=(pP ((w.alloc (j3 #[X J ap,O nm,U A (Z ts) z] 187)).alloc (j3 #[X J at_] 3)) E 243).alloc (j3 #[U Y 0 0] 102);rw[lT,lT,hN]at h;exact h
 have LB:AF C (N+3) [U Y 0 0] 102:=by
  rw[<-B0];have h:=pP (((w.alloc (j3 #[X J ap,O nm,U A (Z ts) z] 187)).alloc (j3 #[X J at_] 3)).alloc (j3 (ml E) 243)) [U Y 0 0] 102;rw[lT,lT,lT,hN]at h;exact h
 have H6:p7 (ZM w N ap nm (U A (Z ts) z) E b ts at_ [] [N+3] C):=⟨R,NN,NA,P0,[],Y,0,LB,lH _ _ _ _,λi j h=>absurd h (by simp),λy=>by simp,by simp,by simp[Value.ownBlock]⟩;have M3:=Ab LB.lt;clear B0 R NN NA P0 LB hN;refine EC func207 rfl ?_;simp only[ntmps207,mE,lj,lO,Nat.reduceAdd,Nat.reduceSub,nL,nM,oh,nR,mw,mV];have K9:¬LetsOut (bodyPostM Fence.wide 0 prog Tryz.f207 λr G=>∃(ad:Option Addr) (cp:Nat) (m:pM zA),r=oa (U ad (Z m) cp)/\C9 FQ m/\YR b ts at_ (u.filter (P8 nm)) m/\Z m<=Z u/\p9 G w.heap.size 170 1 (U ad (Z m) cp) (Z m) (m.flatMap Ah)/\Ac [] w G):=TQ (λ_ ⟨_,_,_,h,_⟩=>by cases h);obtain⟨QQ,K8⟩:=pN (bodyPostM Fence.wide 0 prog Tryz.f207 λr G=>∃(ad:Option Addr) (cp:Nat) (m:pM zA),r=oa (U ad (Z m) cp)/\C9 FQ m/\YR b ts at_ (u.filter (P8 nm)) m/\Z m<=Z u/\p9 G w.heap.size 170 1 (U ad (Z m) cp) (Z m) (m.flatMap Ah)/\Ac [] w G);have VS:=Ab K8;rw[K8]at K9⊢;have a5:=Ab K9;clear K8 K9;refine pL (λK1 AT=>?_);go_wp2;refine AT _ _ ?_;clear AT K1;refine pL (λK1 AT=>?_);go_wp2;refine AT _ _ ?_;clear AT K1;change Code.wp _ _ _ _ ((((w.alloc (j3 #[X J ap,O nm,U A (Z ts) z] 187)).alloc (j3 #[X J at_] 3)).alloc (j3 (ml E) 243)).alloc (j3 #[U Y 0 0] 102));rw[Aa NV,Aa HN];clear NV;have KS:p7 (∀g,Ac [] C g->p8 g ⟨sp,0,Y⟩=V (m2 (V ⟨kb,ko,Y⟩))/\p8 g ⟨N,1,Y⟩=V (O nm)):=λg n=>by
  have h1:=(HJ.kept (H6.kept.trans n)).zN.cell 0;have h2:=(H6.b5.kept n).cell 1;simp at h1 h2;exact⟨h1,h2⟩
 have LS:p7 (∀g,Calls prog 221 #[m2 (V ⟨kb,ko,Y⟩),O nm] g λr G=>∃S Q,r=oa (.func (.func 235) #[] #[m2 (V ⟨S,0,Y⟩),m2 (V ⟨Q,0,Y⟩)])/\AF G S [m2 (V ⟨kb,ko,Y⟩)] 69/\AF G Q [O nm] 9/\g.heap.size<=S/\g.heap.size<=Q/\Ac [] g G):=λg=>aZ kb ko nm g
 obtain⟨s0,s1⟩:=KS C (pO _ _);refine pL (λK1 AT=>?_);refine pL (λK2 NM=>?_)
 go_region_held3 (λg=>Ac [] C g/\p8 g ⟨sp,0,Y⟩=V (m2 (V ⟨kb,ko,Y⟩))/\p8 g ⟨N,1,Y⟩=V (O nm)) ((go_split_ands;refine(fun(RE:Ac [] C _)=>And.intro RE (KS _ RE)) ?_;repeat (first|assumption|exact pO [] _|refine Ac.drew ?_|refine Ac.alloc ?_ _))) ((go_at_call 221;refine(LS _).mono ?_;rintro e w3 ⟨S,Q,rfl,RV,Nq,H7,JJ,k3⟩;have NX:Ac [] C w3:=(by go_split_ands;exact Ac.trans (by assumption) k3);have X0:=Ab RV;have U0:=Ab Nq;have KK:=Ab NX;have X3:p7 (C.heap.size<=S/\C.heap.size<=Q):=⟨H7,JJ⟩;clear RV Nq H7 JJ k3 NX))
 refine NM _ _ ?_;clear NM K2 s0 s1 LS KS;refine wp_block ?_;have KD:p7 (ZM w N ap nm (U A (Z ts) z) E b ts at_ [] [N+3] w3):=BI (ZM.own (lC _)) (s:=([],[N+3])) H6 KK;have aa:p7 (Vl w Q nm [N+3] w3):=by
  have h1:=U0.cell 0;simp at h1;refine⟨KD.kept,h1,λk n=>?_⟩;have hn:=Aa HN;have h2:=X3.2;have h3:=Aa M3;have h4:=KK.size;simp only[kY]at n;omega
 have TX:=Aa X1 S Q [N+3] w3 (by have h:=X0.cell 0;simp at h;exact h) aa;have a7:N+4<=w3.heap.size:=by have h3:=Aa M3;have h4:=KK.size;omega
 refine Jh (T:=104) (q:=10) rfl (enters_of func235 (by kernel_rfl) rfl) TX (λk n=>by simp only[kY]at n;omega) (ZM w N ap nm (U A (Z ts) z) E b ts at_) (λ_ _ _ _=>False) (ZM.own (by have:=Aa HN;omega)) (λ_ _ _ _ _ h _ _=>h) KD ?assign ?body ?done ?stop
 case assign=>
  intro l x W HU hx HK;have A0:=(lK.1 hx).1;obtain⟨⟨xn,xt⟩,xv⟩:=x;obtain⟨Jx,FA,FT⟩:=Ak (HJ.facts.each _ A0).1;simp only at FT;subst FT;simp only[A6]at HK⊢;clear hx A0;simp only[kR,kT,kU]at HK⊢;refine AM (by rfl) (Iw Gz) ?_;go_wp2;refine HK _ ((pO [] W).alloc _) ?_;exact pP W [O xn,U Jx (Z xt) FA] 104
 case body=>
  intro l Bx M1 x a0 M W K4 B hM ba hB;have hx:x∈u.filter (P8 nm):=by rw[K4];simp
  have A0:=(lK.1 hx).1;have IA:=(lK.1 hx).2;have IJ:=(HQ x A0 IA).2;have HL:=Ab (Os (N+2) x W A0 IA B.kept B.b7);have W1:p7 (Ea W x):=(HJ.facts.each x A0).1.kept B.kept;have UO:p7 (Ea w x):=(HJ.facts.each x A0).1;obtain⟨⟨xn,xt⟩,xv⟩:=x;obtain⟨Jx,FA,FT⟩:=Ak W1;simp only at FT IJ;subst FT;obtain⟨m,AB,AH,h9,HT,HO,HR,Nj,JA⟩:=B.out;simp only[A6]at HL hB⊢;have d0:=B.b5.cell 0;have d1:=B.b5.cell 1;have d2:=B.b5.cell 2;have e0:=hB.cell 0;have e1:=hB.cell 1;simp at d0 d1 d2 e0 e1;have P:=Ab B;have MB:=Ab hB;have H9:=Ab h9;have HM:=Ab HT;have U1:=Ab HO;have TS:=Ab HR;have EX:=Ab JA;obtain⟨Ix,hX⟩:∃Ix:Fa,Ix=⟨⟨xn,xt⟩,U Jx (Z xt) FA⟩:=⟨_,rfl⟩;have HX:=Ab hX;rw[<-hX]at K4⊢;clear hx A0 IA B hB h9 HT HO HR JA hM hX;obtain⟨F,hF⟩:=pN (In b ts xt);rw[hF]at HL;have HF:=Ab hF;clear hF;simp only[kR,kT,kU];refine wpIn_block ?_;refine mM (λK3 FP=>?_);have FC:=Ab FP;clear FP;refine AM (by rfl) (by rintro ⟨_,_,h⟩;exact h) ?_;go_wp2_with fail
  refine HL.mono ?_;rintro _ w4 ⟨rfl,k4⟩;have H:=Ab k4;clear k4 d0 d1 d2 e0 e1 HL;go_wp2;refine FC _ _ ?_;clear FC K3;cases F with
  |false=>
   refine nW rfl (wpIn_skip ?_);refine⟨H.mono (by simp),M,?_,λk n=>⟨oi n,?_⟩⟩
   .have FL:=BI (ZM.own (N:=N) (ap:=ap) (nm:=nm) (tv:=U A (Z ts) z) (E:=E) (b:=b) (ts:=ts) (at_:=at_) (lC w.heap.size)) (s:=(M1,M)) P H;obtain⟨m',DT,CC,g1,g2,g3,g4,g5,g6⟩:=FL.out;refine⟨FL.kept,FL.b5,FL.b6,FL.b7,m',DT,CC,g1,g2,g3,λy=>?_,by have:=g5;simp at this⊢;omega,g6⟩;rw[g4 y];constructor
    .rintro ⟨q,o,L⟩;exact⟨q,by simp[o],L⟩
    .rintro ⟨q,o,L⟩;rcases lw.1 o with o|o
     .exact⟨q,o,L⟩
     .simp only[kY]at o;subst o;rw[Aa HX]at L;rw[Aa HF]at L;cases L.1
   .rw[Aa EX]at n;have h4:=H.size;rcases kZ.1 n with rfl|n
    .have:=H9.lt;omega
    .have:=(HM.lt k (by simpa using n)).2;omega
  |true=>
   refine n7 rfl ?_;have ES:=Ai HM H;have N2:(U AB (Z m) AH).ownBlock≠V (N+3):=As ES (H9.kept H) (by decide);obtain⟨gx,cx,RO,H0⟩:=GA UO at_ IJ;simp only[kS]at RO;obtain⟨rfl,-,rfl⟩:=RO;obtain⟨BT,hY⟩:=pN (xt[at_]);rw[hY]at H0;have aT:=Oy H0;have QR:p7 (∀g,Ac (U AB (Z m) AH).ownBlock.toList w4 g->p8 g ⟨N+3,0,Y⟩=V (U AB (Z m) AH)/\p8 g ⟨Bx,1,Y⟩=V (U (V ⟨gx,0,Y⟩) (Z xt) FA)/\p8 g ⟨N+1,0,Y⟩=V (X J at_)/\p8 g ⟨gx,at_,Y⟩=V (O BT)):=by
    intro g hz;have a1:=((H9.kept H).kept hz (λI=>N2 (by simpa using I))).cell 0;have a2:=((MB.kept H).kept hz (λI=>As ES (MB.kept H) (by decide) (by simpa using I))).cell 1;have a3:=((P.b6.kept H).kept hz (λI=>As ES (P.b6.kept H) (by decide) (by simpa using I))).cell 0;have a4:=Lg hz (H.cellAt (P.kept.cellAt H0)) (λI=>by have:=(ES.lt gx (by simpa using I)).1;have:=Aa HN;omega);simp at a1 a2 a3;exact⟨a1,a2,a3,a4⟩
   have E0:=Ab (QR w4.drew (pO _ _).drew);(have ar:(0:Int)<=(at_:Int):=by omega);(have an:(at_:Int)<(Z xt:Int):=by omega);have af:=Ab (Xk AB AH m BT N w4.drew ES.drew (by have h1:=congrArg List.length K4;have h2:=mS (P8 nm) u;simp at h1;omega) U1 (by have:=P.kept.size;have:=H.size;have:=Aa HN;show N<=w4.heap.size;omega));have OB:p7 (xt.getD at_ pF=BT):=by
    show _=_;rw[lq,lc IJ,hY];rfl
   clear hY H0 ES;refine ED 7 (λg=>p8 g ⟨N+3,0,Y⟩=V (U AB (Z m) AH)/\p8 g ⟨Bx,1,Y⟩=V (U (V ⟨gx,0,Y⟩) (Z xt) FA)/\p8 g ⟨N+1,0,Y⟩=V (X J at_)/\p8 g ⟨gx,at_,Y⟩=V (O BT)) (by kernel_rfl) (by rfl) (by rintro ⟨_,_,h⟩;exact h) ?_;refine CF.tq (i:=0) (v:=U AB (Z m) AH) rfl (λ_ _ _ h=>h) E0 ?_;simp only[pJ,kR,kT,kU];refine CF.tq (i:=1) (v:=m2 (V ⟨Bx,1,Y⟩)) rfl (λ_ _ _ h=>h) E0 ?_;simp only[pJ,kR,kT,kU];refine CF.tq (i:=2) (v:=U (V ⟨gx,0,Y⟩) (Z xt) FA) rfl (λ_ _ _ h=>h) E0 ?_;simp only[pJ,kR,kT,kU];refine CF.tq (i:=3) (v:=X J at_) rfl (λ_ _ _ h=>h) E0 ?_;simp only[pJ,kR,kT,kU];refine CF.tq (i:=4) (v:=m2 (V ⟨gx,at_,Y⟩)) rfl (λ_ _ _ h=>h) E0 ?_;simp only[pJ,kR,kT,kU];refine CF.tq (i:=5) (v:=O BT) rfl (λ_ _ _ h=>h) E0 ?_;simp only[pJ,kR,kT,kU];refine CF.one (i:=6) (by kernel_rfl) rfl (λHU hK=>?_)
   go_simp
   refine af.mono ?_;rintro e w5 ⟨m',DT,CC,rfl,SJ,Wa,H7,JJ,FW,W0,YP⟩;have HV:Ac (U AB (Z m) AH).ownBlock.toList w4 w5:=(pO _ _).drew.trans W0;refine hK.out _ _ (λ_=>QR w5 HV) ?_;clear hK HU
   try simp only[pJ,kR,kT,kU]
   have Ha:AF w5 (N+3) [U AB (Z m) AH] 102:=(H9.kept H).kept HV (λI=>N2 (by simpa using I));have c9:=Ha.cell 0;have f9:=Ha.frozen 0;simp at c9;refine CF.one (i:=7) (by kernel_rfl) rfl (λHU hK=>?_)
   go_simp
   refine hK.out _ _ (λh=>absurd rfl h) ?_;clear hK HU;refine CF.done (by kernel_rfl) ?_ _;have TV:(U DT (Z m') CC).ownBlock≠V (N+3):=As FW Ha (by decide);have HB:Ac M W (w5.setCell ⟨N+3,0,Y⟩ (U DT (Z m') CC)):=by
    rw[Aa EX];exact((H.mono (by simp)).trans (HV.mono (λi B=>lY _ B))).setCell (p:=⟨N+3,0,Y⟩) (oi (mz ..)) _
   have ZV:∀k∈M,N<=k:=by
    intro k n;rw[Aa EX]at n;rcases kZ.1 n with rfl|n
    .omega
    .exact(HM.lt k (by simpa using n)).1
   have KB:∀{bb:Nat} {cs:pM p5} {t:TypeId},AF W bb cs t->bb≠N+3->170≠t->bb∉M:=by
    intro bb cs t S0 SB TH I;rw[Aa EX]at I;rcases kZ.1 I with rfl|I
    .exact SB rfl
    .exact As HM S0 TH (by simpa using I)
   refine⟨HB,(N+3)::(U DT (Z m') CC).ownBlock.toList,⟨P.kept.trans' HB (λk n=>oj (by have:=ZV k n;have:=Aa HN;omega)),P.b5.kept HB (KB P.b5 (by omega) (by decide)),P.b6.kept HB (KB P.b6 (by omega) (by decide)),P.b7.kept HB (KB P.b7 (by omega) (by decide)),m',DT,CC,Ha.set 0 _,Ag FW TV _,SJ,λy=>?_,by simp;omega,rfl⟩,λk n=>?_⟩
   .rw[Wa y,Aa TS y];constructor
    .rintro (rfl|⟨q,o,L⟩)
     .exact⟨Ix,by simp,by rw[Aa HX];exact HF,by rw[Aa HX];exact OB.symm⟩
     .exact⟨q,by simp[o],L⟩
    .rintro ⟨q,o,L⟩;rcases lw.1 o with o|o
     .exact oj ⟨q,o,L⟩
     .simp only[kY]at o;subst o;rw[Aa HX]at L;exact oi (L.2.trans OB)
   .have h6:=HV.size;have h4:=H.size;rcases kZ.1 n with rfl|n
    .exact⟨oi (by rw[Aa EX];exact mz ..),by have:=Ha.lt;simp;omega⟩
    ·(have LM:(U DT (Z m') CC).ownBlock=V k:=by simpa using n);refine⟨?_,by have:=(FW.lt k LM).2;simp;omega⟩;rcases YP k LM with h|h
     .exact oi (by rw[Aa EX];exact lY _ (by rw[h];simp))
     .exact oj (by have h2:w4.heap.size<=k:=h;omega)
 case done=>
  intro D M' W hD B hd _;obtain⟨m,AB,AH,h9,HT,HO,HR,Nj,JA⟩:=B.out;have c9:=h9.cell 0;simp at c9;refine AT _ _ ?_;clear AT;simp only[mw];refine pL (λK3 FC=>?_);go_wp2;refine FC _ _ ?_;clear FC K3;refine wp_ret ?_;rw[<-Aa VS];have FW:OwnFrom w.heap.size (fun(_:Unit) W=>p9 W N 170 1 (U AB (Z m) AH) (Z m) (m.flatMap Ah)/\Ac [] w W):=BO (λ_ W W' M h k hM=>⟨Ai h.1 k (Co hM h.1),Eo h.2 k hM (lC _)⟩);have Nd:Dv w.heap.size [D] W:=⟨by simp,λd HH=>by simp only[kY]at HH;have:=KD.kept.size;omega,λd HH=>by simp only[kY]at HH;rw[HH];exact hd⟩;refine Du [D] W Nd (λG hs=>?_);obtain⟨g1,g2⟩:=hs.own FW (s:=()) Nd ⟨HT,B.kept⟩;refine⟨_,results_tmp rfl _ _ _,AB,AH,m,rfl,HO,HR,mp Nj (mS _ _),?_,g2⟩;rw[Aa HN];exact g1
 case stop=>
  intro D c M1 M' W _ h _;exact h.elim
structure Di(e:pM zA):Prop where
 len:Z e=26
 each:∀x∈e,SA x
def Di.start:Di Bk:=⟨by simp[Bk],λx a=>oi (by rw[(List.mem_replicate.1 a).2];rfl)⟩
def Di.set{e:pM zA}(h:Di e)(j:Nat){x:zA}(c:A8 x):Di (e.set j x):=⟨by simp[h.len],λy b=>by
 rcases List.mem_or_eq_of_mem_set b with a|rfl
 .exact h.each y a
 .exact oj c⟩
def Iv(h:Di e):Z (Bn e)=26:=by unfold Bn;rw[lm,h.len]
def RJ(h:A8 s):DX s=AE s:=by
 have a:=h.size;unfold DX AE;rw[li a];cases hn:I2 s with
 |false=>simp
 |true=>
  simp only[if_true];rcases h with⟨c,r,e,b,_⟩|h
  .unfold I2 at hn;rw[e,Fh]at hn;have:=nr hn;omega
  .rw[ln h]
def Iy{t:AK}(h:Do t)(e:pM zA):BH (Bn e) (ct t)=WD (AI e t):=by
 have f:(ct t).v.toNat=t.v.toNat:=by unfold ct;simp
 unfold BH fJ;rw[f];rcases h with⟨a,c⟩|⟨b,g,_⟩
 .rw[a,ln (show(0:UInt8).toNat=0 from rfl)]
  unfold AI;rw[ln a,CK c];exact RJ c
 .have a:t.v≠0:=λd=>by rw[d]at b;exact absurd b (by decide)
  rw[li (by omega),<-Er];unfold QY;rw[li a]
def Di.val(b:Di e){t:AK}(h:Do t):SA (AI e t):=by
 unfold AI;split
 .rename_i d;rcases h with⟨_,c⟩|⟨a,_⟩
  .exact oj c
  .rw[d]at a;exact absurd a (by decide)
 .rw[lq];cases hg:e[t.v.toNat-65]? with
  |none=>exact oi rfl
  |some x=>exact b.each x (List.mem_of_getElem? hg)
def Wb(f:Di e){b:pM AK}(h:∀t∈b,Do t):GT (Bn e) (b.map ct)=DK e b:=by
 rw[<-Nt b (λt a=>f.val (h t a))];unfold GT RP;rw[List.all_map,mN,mC,mC];have d:∀t∈b,((λt=> !U4 (BH (Bn e) t))∘ct) t= !U4 (QY (Bn e) t):=λt a=>by
  simp only[Function.comp];rw[Iy (h t a),Er]
 exact⟨λc t a=>by rw[<-d t a];exact c t a,λc t a=>by rw[d t a];exact c t a⟩
def Qz(x:Br):AR (LU x)=(Bu x).map ct:=by
 unfold AR Bu;rw[IB];split<;>simp[LU]
def Db.zQ{x:Br}(h:Db x):∀t∈Bu x,Do t:=by
 intro t a;unfold Db at h;unfold Bu at a;split at h
 .rename_i b;rw[ln b]at a;exact h.args t a
 .rename_i b;rw[li b]at a;rcases kZ.1 a with rfl|a
  .exact h.1
  .rw[kY]at a;subst a;exact h.2.1
def SN(d:Di e){a:pM AK}(h:∀t∈a,Do t)(f:DK e a=jj):∀t∈a,A8 (AI e t):=by
 intro t c;rcases d.val (h t c)with h1|h1
 .have b:=mC.1 f t c;rw[(D5 _).2 h1]at b;cases b
 .exact h1
def XD{x:Br}(h:∀t∈x.A.args,Do t)(b:∀t∈x.A.args,A8 (AI e t)):Fn (Bn e) (LU x)=BU (Aq e x.A):=by
 unfold Fn BU Aq LU;simp only;rw[mq,mq]
 congr 1
 refine mu (λt a=>?_);simp only[Function.comp];rw[Iy (h t a),CK (b t a)]
def GJ{A:Dg}(a:∀t∈A.args,A8 (AI e t)):AL (Aq e A):=by
 intro y b;obtain⟨t,c,rfl⟩:=lk.1 b;exact a t c
def Yv{u:pM Fa}{x:Br}(v:Df u f)(F:Di e)(E:Db x)(D:DK e (Bu x)=jj)(h:Kz u (Bn e) (LU x) B):B=Cg (Aq e) (AI e) f x:=by
 have c:=E.zQ;have b:=SN F c D;have G:(LU x).sort=F9 x.kind:=rfl;unfold Kz at h;unfold Cg;rw[G]at h;by_cases g:x.kind=97
 .have a:F9 x.kind=0:=by rw[g];rfl
  have d:Bu x=x.A.args:=by unfold Bu;rw[g];rfl
  rw[d]at c b;rw[ln a,XD c b]at h;rw[ln (by rw[g];rfl)];obtain⟨p,n,rfl⟩:=h;exact v.yD (GJ b) n
 .have t:¬(x.kind==97)=jj:=by simpa using g
  rw[li t];by_cases i:x.kind=33
  ·(have a:F9 x.kind=1:=by rw[i];rfl);(have d:Bu x=x.A.args:=by unfold Bu;rw[i];rfl);rw[d]at c b;rw[a,li (by decide),ln rfl,XD c b]at h;rw[ln (by rw[i];rfl)];obtain⟨p,n,rfl⟩:=h;rw[v.yD (GJ b) n]
  ·(have q:¬(x.kind==33)=jj:=by simpa using i);(have d:Bu x=[x.L,x.R]:=by unfold Bu;rw[li (by rw[mP,not_or];exact⟨t,q⟩)]);rw[d]at c b;have m:=b x.L (by simp);have o:=b x.R (by simp);have w:BH (Bn e) (LU x).l=QY (Bn e) x.L:=(Iy (c x.L (by simp)) e).trans (Er e x.L).symm;have z:BH (Bn e) (LU x).r=QY (Bn e) x.R:=(Iy (c x.R (by simp)) e).trans (Er e x.R).symm;rw[w,z]at h;rw[li q];by_cases j:x.kind=61
   ·(have a:F9 x.kind=2:=by rw[j];rfl);rw[a,li (by decide),li (by decide),ln rfl,Xb m o]at h;rw[ln (by rw[j];rfl)];exact h
   ·(have C:¬(x.kind==61)=jj:=by simpa using j);rw[li C];by_cases k:x.kind=35
    ·(have a:F9 x.kind=3:=by rw[k];rfl);rw[a,li (by decide),li (by decide),li (by decide),ln rfl,Xb m o]at h;rw[ln (by rw[k];rfl)];exact h
    ·(have y:¬(x.kind==35)=jj:=by simpa using k);(have a:F9 x.kind=4:=by unfold F9;rw[li g,li i,li j,li k]);rw[a,li (by decide),li (by decide),li (by decide),li (by decide),dM m o]at h;rw[li y];exact h
def XE{d:pM Fa}{s:pM Af}{e:pM zA}(f:Df d s)(c:Di e):∀(a:pM Br),(∀x∈a,Db x)->∀B,FH d (Bn e) (a.map LU) B->B=Eg a s e
 |[],_,B,h=>h
 |x::a,hb,B,h=>by
  have ih:=XE f c a (λy j=>hb y (by simp[j]));have g:=hb x (by simp);rw[lE,FH,Qz,Wb c g.zQ]at h;have i:Eg (x::a) s e=((DK e (Bu x)&& !Cg (Aq e) (AI e) s x)||Eg a s e):=by
   unfold Eg;rw[oy]
  rw[i];cases hset:DK e (Bu x)with
  |false=>
   rw[hset,li (by simp)]at h;rw[n5,nI];exact ih B h
  |true=>
   rw[hset,ln rfl]at h;obtain⟨H,k,b⟩:=h;have l:=Yv f c g hset k;rw[<-l,mR];cases H with
   |true=>
    rw[ln rfl]at b;rw[nJ,nI];exact ih B b
   |false=>
    rw[li (by simp)]at b;rw[b];rfl
def Xy(g:Di e):∀(a:pM AK) (b:pM zA),(∀t∈a,Do t)->(∀x∈b,A8 x)->In (Bn e) (a.map ct) (b.map AE)=Rs e a b:=by
 intro a b c f;rw[<-Ut a b (λt h=>g.val (c t h)) f];clear f;generalize b.map AE=ys
 induction a generalizing ys with
 |nil=>cases ys<;>simp[In,SW]
 |cons t a ih=>
  cases ys with
  |nil=>simp[In,SW]
  |cons y ys=>
   have d:=ih (λu i=>c u (by simp[i])) ys;unfold SW at d⊢;rw[lE,In,d,ph,oz,Iy (c t (by simp)),Er]
def kf(s:pM Af)(A:Dg)(i:Nat)(e:pM zA)(m:pM zA):Prop:=∀y,y∈m↔∃t∈GS s A i e,y=AE t
def bD{o:pM Fa}{s:pM Af}{A:Dg}{m:pM zA}(c:Df o s)(u:Di e)(x:∀t∈A.args,Do t)(w:∀f∈s,f.name=A.name->i<Z f.args)(h:YR (Bn e) (A.args.map ct) i (o.filter (P8 A.name)) m):kf s A i e m:=by
 intro y;rw[h y];unfold GS;constructor
 .rintro ⟨q,l,b,rfl⟩;obtain⟨z,p⟩:=lK.1 l;have j:q.f∈s.map BU:=by rw[<-c.same];exact lB z
  obtain⟨g,a,r⟩:=lk.1 j;have v:g.name.toList==A.name.toList:=by
   (have B:q.f.name=g.name:=by rw[<-r];rfl);unfold P8 at p;rw[B]at p;exact p
  have k:=w g a (toList_inj (by simpa using v));rw[<-r]at b⊢;unfold BU at b⊢;simp only at b⊢;rw[Xy u _ _ x (c.canon g a)]at b;refine⟨g.args.getD i pF,lk.2 ⟨g,lK.2 ⟨a,by rw[v,b];rfl⟩,rfl⟩,?_⟩;rw[lq,lq,mA,lc k];rfl
 .rintro ⟨t,C,rfl⟩;obtain⟨g,a,rfl⟩:=lk.1 C;obtain⟨a,d⟩:=lK.1 a;rw[lJ]at d;have k:=w g a (toList_inj (by simpa using d.1));have j:BU g∈o.map Fa.f:=by rw[c.same];exact lB a
  obtain⟨q,l,n⟩:=lk.1 j;refine⟨q,lK.2 ⟨l,?_⟩,?_,?_⟩
  .unfold P8;rw[n];exact d.1
  .rw[n];unfold BU;simp only;rw[Xy u _ _ x (c.canon g a)];exact d.2
  .rw[n];unfold BU;simp only;rw[lq,lq,mA,lc k];rfl
def jR(a b:zA):Prop:=FQ (AE a) (AE b)=jj
def XC(x:zA):pM zA->pM zA
 |[]=>[x]
 |y::l=>if FQ (AE x) (AE y)then x::y::l else if x.toList==y.toList then y::l else y::XC x l
def iq(e:A8 s)(f:A8 t)(d:FQ (AE s) (AE t)=K)(c:FQ (AE t) (AE s)=K):s=t:=by
 refine Gp e f ?_;cases he:iK (AE s) (AE t)with
 |true=>exact(Gg.eqv _ _).1 he
 |false=>rw[Gg.tot _ _ d he]at c;cases c
def RZ(x:zA):∀(l:pM zA) (y:zA),y∈XC x l↔y=x\/y∈l
 |[],y=>by simp[XC]
 |z::l,y=>by
  rw[XC];split
  .simp
  .split
   .rename_i a;have e:x=z:=toList_inj (by simpa using a);rw[e];simp
   .rw[kZ,RZ x l,kZ];constructor<;>(rintro (h|h|h)<;>simp[h])
def T8{x:zA}(d:A8 x):∀(l:pM zA),(∀y∈l,A8 y)->l.Pairwise jR->(XC x l).Pairwise jR
 |[],_,_=>by simp[XC]
 |z::l,hc,hp=>by
  obtain⟨c,f⟩:=mY.1 hp;rw[XC];split
  .rename_i b;refine mY.2 ⟨λy a=>?_,hp⟩;rcases kZ.1 a with rfl|a
   .exact b
   .exact Gg.trans _ _ _ b (c y a)
  .rename_i g;split
   .exact hp
   .rename_i e;refine mY.2 ⟨λy a=>?_,T8 d l (λy a=>hc y (by simp[a])) f⟩;rcases(RZ x l y).1 a with rfl|a
    .cases hg:FQ (AE z) (AE y)with
     |true=>exact hg
     |false=>exact absurd (by rw[iq d (hc z (by simp)) (by simpa using g) hg];simp) e
    .exact c y a
def Kp(body:pM Br)(s:pM Af)(v:UInt8)(e:pM zA)(t:zA):Prop:=C5 body s v e≠[]/\∀l∈C5 body s v e,t∈l
def ku(body:pM Br)(s:pM Af)(v:UInt8)(e:pM zA):pM zA:=match C5 body s v e with
 |[]=>[]
 |l::ls=>l.filter λt=>ls.all λm=>m.any λx=>x.toList==t.toList
def Jc(body:pM Br)(s:pM Af)(v:UInt8)(e:pM zA):pM zA:=(ku body s v e).foldr XC []
def Rw:∀(l:pM zA) (y:zA),y∈l.foldr XC []↔y∈l
 |[],y=>Iff.rfl
 |x::l,y=>by rw[List.foldr_cons,RZ,Rw l,kZ]
def TZ:∀(l:pM zA),(∀y∈l,A8 y)->(l.foldr XC []).Pairwise jR
 |[],_=>List.Pairwise.nil
 |x::l,h=>T8 (h x (by simp)) _ (λy a=>h y (by simp[(Rw l y).1 a])) (TZ l λy a=>h y (by simp[a]))
def ZK(c:pM Br)(s:pM Af)(v:UInt8)(e:pM zA)(t:zA):t∈ku c s v e↔Kp c s v e t:=by
 unfold ku Kp;cases C5 c s v e with
 |nil=>simp
 |cons l ls=>
  rw[lK,mC];have a:∀m:pM zA,(m.any λx=>x.toList==t.toList)=jj↔t∈m:=λm=>by
   rw[mH];constructor
   .rintro ⟨x,f,e⟩;rw[<-toList_inj (by simpa using e:x.toList=t.toList)];exact f
   .exact λh=>⟨t,h,by simp⟩
  simp only[a];constructor
  .rintro ⟨d,b⟩;refine⟨by simp,λm a=>?_⟩;rcases kZ.1 a with rfl|a
   .exact d
   .exact b m a
  .rintro ⟨_,b⟩;exact⟨b l (by simp),λm a=>b m (by simp[a])⟩
def Fk(a:pM Br)(s:pM Af):PY (Jc a s) a s:=λv e t=>(Rw _ t).trans (ZK a s v e t)
def NK{a:pM Br}(h:∀t,Kp a f g e t->A8 t):(Jc a f g e).Pairwise jR:=TZ _ λt b=>h t ((ZK a f g e t).1 b)
def EJ(fs:pM Fa)(b:pM zA)(v:Int):pM PL->pM (pM zA)->Prop
 |[],r=>r=[]
 |x::l,r=>if x.sort=0 then∃n,SZ x.ts ⟨v,pF⟩ n/\(if n<0 then EJ fs b v l r else∃m r',r=m::r'/\YR b x.ts n.toNat (fs.filter (P8 x.an)) m/\EJ fs b v l r')else EJ fs b v l r
def iV{a:pM AK}(h:∀t∈a,Do t)(f:Ew g)(z:SZ (a.map ct) ⟨(g.toNat:Int),pF⟩ I):(I<0/\a.findIdx? (λt=>t.v==g)=Y)\/(0<=I/\a.findIdx? (λt=>t.v==g)=V I.toNat):=by
 have c:∀t∈a,Jw ⟨(g.toNat:Int),pF⟩ (ct t)=(t.v==g):=by
  intro t b;unfold Jw;have r:((g.toNat:Int)==(ct t).v)=(t.v==g):=by
   rw[<-iG t g,mN];simp only[mT];exact⟨λh=>h.symm,λh=>h.symm⟩
  simp only[r];cases hb:(t.v==g)with
  |false=>rfl
  |true=>
   (have p:t.v=g:=by simpa using hb);rcases h t b with⟨l,_⟩|⟨_,_,x⟩
   .rw[p]at l;rw[l]at f;exact absurd f.1 (by decide)
   .have y:(ct t).s=pF:=by
     unfold ct;simp only;rw[x];rfl
    rw[y,mR];simp
 rcases z with⟨rfl,o⟩|⟨k,q,rfl,d,w⟩
 .left;refine⟨by decide,List.findIdx?_eq_none_iff.2 (λt b=>?_)⟩;rw[<-c t b];exact o _ (lB b)
 .right;have e:k<Z a:=by simpa using q
  refine⟨by omega,?_⟩;rw[show((k:Nat):Int).toNat=k by omega];refine ny.2 ⟨e,?_,λj u=>?_⟩
  .rw[<-c _ (kV e)];rw[List.getElem_map]at d;exact d
  ·(have m:j<Z a:=by omega);have i:=w j (by simpa using m) u;rw[List.getElem_map,c _ (kV m)]at i;simpa using i
def ZH(s:pM Af)(body:pM Br):Prop:=∀f∈s,∀x∈body,(x.kind==97)=jj->f.name=x.A.name->Z f.args=Z x.A.args
def aG{F:pM Fa}{s:pM Af}{e:pM zA}(u:Df F s)(G:Di e){v:UInt8}(H:Ew v):∀(a:pM Br),(∀x∈a,Db x)->ZH s a->∀r,EJ F (Bn e) (v.toNat:Int) (a.map LU) r->F2 (λm l=>∀y,y∈m↔∃t∈l,y=AE t) r (C5 a s v e)/\∀l∈C5 a s v e,∀t∈l,A8 t
 |[],_,_,r,h=>by
  have h:r=[]:=h;subst h;exact⟨F2.nil,λl d=>by simp[C5]at d⟩
 |x::a,hb,hf,r,h=>by
  have ih:=aG u G H a (λy q=>hb y (by simp[q])) (λf T y q=>hf f T y (by simp[q]));have hx:=hb x (by simp);rw[lE,EJ]at h;have AO:(LU x).sort=F9 x.kind:=rfl;rw[AO]at h;have e1:C5 (x::a) s v e=match(if x.kind==97 then(x.A.args.findIdx? λt=>t.v==v).map λi=>GS s x.A i e else Y)with|some c=>c::C5 a s v e|none=>C5 a s v e:=by
   unfold C5;rw[oU];generalize(if(x.kind==97)=jj then(x.A.args.findIdx? λt=>t.v==v).map λi=>GS s x.A i e else Y)=o;cases o<;>rfl
  rw[e1];by_cases b:(x.kind==97)=jj
  ·(have p:x.kind=97:=by simpa using b);(have k:F9 x.kind=0:=by rw[p];rfl);have E:∀t∈x.A.args,Do t:=by
    have:=hx.zQ;unfold Bu at this;rw[b,ox,ln rfl]at this;exact this
   rw[ln k]at h;obtain⟨n,w,h⟩:=h;rw[ln b];rcases iV E H w with⟨AT,S⟩|⟨A0,z⟩
   .rw[ln AT]at h;rw[S];exact ih r h
   .rw[li (by omega)]at h;obtain⟨m,N,rfl,R,P⟩:=h;rw[z];simp only[m0];obtain⟨i1,Q⟩:=ih N P;obtain⟨M,_,_⟩:=ny.1 z;have C:∀f∈s,f.name=x.A.name->n.toNat<Z f.args:=λf L w=>by
     rw[hf f L x (by simp) b w];exact M
    refine⟨F2.cons (bD u G E C R) i1,λl d=>?_⟩;rcases kZ.1 d with rfl|d
    .intro t B;unfold GS at B;obtain⟨g,j,rfl⟩:=lk.1 B;obtain⟨j,D⟩:=lK.1 j;rw[lJ]at D;have I:=C g j (toList_inj (by simpa using D.1));rw[lq,lc I];exact u.canon g j _ (kV I)
    .exact Q l d
  ·(have p:x.kind≠97:=by simpa using b);have k:F9 x.kind≠0:=by
    intro W;have:=SY x.kind;rw[W]at this;exact p (by simpa using this)
   rw[li k]at h;rw[li b];exact ih r h
def ee{r a:pM (pM zA)}(h:F2 (λm l=>∀y,y∈m↔∃t∈l,y=AE t) r a)(i:∀l∈a,∀t∈l,A8 t)(y:zA):(r≠[]/\Kw r y)↔∃t,(a≠[]/\∀l∈a,t∈l)/\y=AE t:=by
 cases r with
 |nil=>
  cases a with
  |nil=>simp
  |cons l a=>exact absurd h (by simp[F2])
 |cons m r=>
  cases a with
  |nil=>exact absurd h (by simp[F2])
  |cons l a=>
   have j:=h.mem;have p:=h.yK;constructor
   .rintro ⟨_,c⟩;obtain⟨t,n,f⟩:=(h.1 y).1 (c m (by simp));refine⟨t,⟨by simp,λk b=>?_⟩,f⟩;obtain⟨q,d,e⟩:=j k b;obtain⟨u,g,o⟩:=(e y).1 (c q d);have:u=t:=Gp (i k b u g) (i l (by simp) t n) (by rw[<-o,f]);rw[<-this];exact g
   .rintro ⟨t,⟨_,c⟩,rfl⟩;refine⟨by simp,λq d=>?_⟩;obtain⟨k,b,e⟩:=p q d;exact(e _).2 ⟨t,c k b,rfl⟩
def YJ{p:pM Fa}(E:Df p f)(A:Di e)(B:Ew g){d:pM Br}(D:∀x∈d,Db x)(r:ZH f d){i:pM Xh}(q:EJ p (Bn e) (g.toNat:Int) (d.map LU) (i.map pH)){m:pM zA}(k:Kx i m):m=(Jc d f g e).map AE/\∀t∈Jc d f g e,A8 t:=by
 obtain⟨C,o⟩:=aG E A B d D r _ q;have n:∀t,Kp d f g e t->A8 t:=by
  rintro t ⟨z,u⟩;cases hl:C5 d f g e with
  |nil=>exact absurd hl z
  |cons l ls=>exact o l (by rw[hl];simp) t (u l (by rw[hl];simp))
 refine⟨?_,λt j=>n t ((Fk d f g e t).1 j)⟩;refine Il (lt:=λa b=>FQ a b=jj) (λa h=>by rw[Gg.irr]at h;cases h) (λa b c=>Gg.trans a b c) _ _ k.zM ?_ (λy=>?_)
 .rw[nD];exact NK n
 .rw[k.mem y];have w:(i≠[]/\Kw (i.map pH) y)↔(i.map pH≠[]/\Kw (i.map pH) y):=by
   rw[ne_eq,ne_eq,List.map_eq_nil_iff]
  rw[w,ee C o,lk];constructor
  .rintro ⟨t,j,rfl⟩;exact⟨t,(Fk d f g e t).2 j,rfl⟩
  .rintro ⟨t,j,rfl⟩;exact⟨t,(Fk d f g e t).1 j,rfl⟩
def Mg{c:UInt8->pM zA->pM zA}{o:pM Br}{s:pM Af}(j:∀v e,(c v e).Nodup)(d:∀v e,∀t∈c v e,t.size≠0):
  ∀(a:pM UInt8) (e:pM zA),Z e=26->a.Nodup->(∀v∈a,Ew v)->(Aw c o s a e).Nodup
 |[],e,_,_,_=>by
  rw[Aw];split<;>simp
 |v::a,e,he,hd,hv=>by
  rw[Aw];obtain⟨g,k⟩:=nh.1 hd;have f:=hv v (by simp);have b:∀u∈a,Ew u:=λu p=>hv u (by simp[p])
  split
  .simp
  .unfold List.Nodup;rw[List.pairwise_flatMap];refine⟨λt _=>Mg j d a _ (by simp[he]) k b,?_⟩;refine List.Pairwise.imp ?_ (j v e);intro t u m x q y n l;subst l;have i:=(BQ d a _ x (by simp[he]) b q).2.2.1 v f g;have h:=(BQ d a _ x (by simp[he]) b n).2.2.1 v f g;rw[Lo he f]at i h;exact m (by rw[<-i,h])
def gR{a b:pM zA}(g:Z a=26)(j:Z b=26)(h:∀u,Ew u->Nk a u=Nk b u):a=b:=by
 refine List.ext_getElem (by omega) (λi f e=>?_);have c:(UInt8.ofNat (i+65)).toNat=i+65:=by
  rw[UInt8.toNat_ofNat'];omega
 have d:=h (UInt8.ofNat (i+65)) ⟨by rw[c];omega,by rw[c];omega⟩;unfold Nk at d;rw[c,Nat.add_sub_cancel,lq,lq,lc f,lc e]at d;exact d
def aY{j:UInt8->pM zA->pM zA}{c:A4}{d p:pM UInt8}(C:∀v e,(j v e).Nodup)(l:∀v e,∀t∈j v e,t.size≠0)(A:SU c d p)(r:d.Nodup)(B:∀v∈d,∃t∈c.head.args,t.v=v):(Ss j c d p f).Nodup:=by
 have i:∀v∈d,Ew v:=λv h=>(A.ok v (oi h)).1
 unfold Ss List.Nodup;rw[nD];refine nz ?_ ((Mg C l d Bk rfl r i).filter _);intro a b E y w D;have m:=BQ l d Bk a rfl i (lK.1 E).1;have q:=BQ l d Bk b rfl i (lK.1 y).1;refine w (gR m.1 q.1 (λu g=>?_));by_cases k:u∈d
 .obtain⟨t,x,rfl⟩:=B u k;have o:t.v≠0:=λh=>by rw[h]at g;exact absurd g.1 (by decide)
  have z:c.head.args.map (AI a)=c.head.args.map (AI b):=congrArg Af.args D;have n:=List.map_inj_left.1 z t x;rw[EF o,EF o]at n;exact n
 .rw[m.2.2.1 u g k,q.2.2.1 u g k]
def Xm:∀(l:pM Af) (s:pM Af),Eb s->(∀f∈s,AL f)->l.Nodup->(∀f∈l,f∉s/\AL f)->Z (l.foldl A3 s)=Z s+Z l
 |[],s,_,_,_,_=>by simp
 |f::l,s,hr,hc,hn,h=>by
  obtain⟨n,k⟩:=nh.1 hn;obtain⟨j,e⟩:=h f (by simp);obtain⟨a,b,m⟩:=CZ e hr hc;rw[lR,Xm l (A3 s f) a b k (λg c=>⟨λi=>?_,(h g (by simp[c])).2⟩),(Lt s f).2 j,lj]
  .omega
  .rcases(m g).1 i with d|d
   .exact(h g (by simp[c])).1 d
   .rw[d]at c;exact n c
def Jg{b:pM Br}{s:pM Af}(q:∀f∈s,AL f)(n:ZH s b):∀v e t,Kp b s v e t->A8 t:=by
 rintro v e t ⟨p,o⟩;cases hl:C5 b s v e with
 |nil=>exact absurd hl p
 |cons l ls=>
  have g:=o l (by rw[hl];simp);have k:l∈C5 b s v e:=by rw[hl];simp
  unfold C5 at k;obtain⟨x,u,a⟩:=m3.1 k;by_cases c:(x.kind==97)=jj
  .rw[ln c,ot]at a;obtain⟨i,r,rfl⟩:=a;obtain⟨w,_,_⟩:=ny.1 r;unfold GS at g;obtain⟨f,m,rfl⟩:=lk.1 g;obtain⟨j,d⟩:=lK.1 m;rw[lJ]at d;have y:=n f j x u c (toList_inj (by simpa using d.1));(have h:i<Z f.args:=by omega);rw[lq,lc h];exact q f j _ (kV h)
  .rw[li c]at a;cases a
def TE{c:pM Br}{s:pM Af}(g:∀f∈s,AL f)(i:ZH s c)(v:UInt8)(e:pM zA):(Jc c s v e).Nodup:=by
 refine List.Pairwise.imp ?_ (NK (Jg g i v e));intro a b h d;subst d;unfold jR at h;rw[Gg.irr]at h;cases h
theorem Tryz.yT:(Tryz.prog.info? 102).map (λi=>(i.zero,i.size,i.bytes))=V (V (U Y 0 0),1,24):=by kernel_rfl
def TA{p:Xh}(h:p9 w 0 170 1 p.2 (Z p.1) (p.1.flatMap Ah))(b:p9 w m 102 1 z n y)(a:w.grownBy u z.ownBlock):p9 u 0 170 1 p.2 (Z p.1) (p.1.flatMap Ah):=
 mI h a (by
  cases hp:p.2.ownBlock with
  |none=>exact oi rfl
  |some q=>exact oj (λe=>Bc h b (by decide) q hp e.symm))
theorem VV(sp kb ko:Nat)(K1:Option Addr)(H1:Nat)(e:pM Lz)(ov:p5)(M0:Option Addr)(K6:Nat)(d:pM Fa)(v:Int)(b:pM zA)(w:py)(hb:Z b=26)(hS:PQ w sp kb ko (U K1 (Z e) H1) ov M0 K6 d)(hB:B8 w 0 (U K1 (Z e) H1) e)(RE:Z d<=10000)(SP:Z e<=1000)(hl:∀p∈e,P6 p.1)(IJ:d.Pairwise λa b=>CP a.f b.f<0)
  (LL:∀(KA:C4) i j (hi:i<Z d) (hj:j<Z d),i<=j->CP d[j].f KA<0->CP d[i].f KA<0)
  (hq:∀p∈e,p.1.sort=0->∀q∈d,P8 p.1.an q=jj->Z p.1.ts<=Z q.f.zC):
  Calls prog 178 #[m2 (V ⟨sp,0,Y⟩),X .i32 v,pC (ml (Aj b))] w λr T=>∃(l:Option Addr) (s:Nat) (m:pM zA) (c:pM Xh),r=oa (U l (Z m) s)/\Kx c m/\EJ d b v (e.map pH) (c.map pH)/\p9 T w.heap.size 170 1 (U l (Z m) s) (Z m) (m.flatMap Ah)/\Ac [] w T:=by
 obtain⟨i0,PT,NN,QQ,OH⟩:=mg Tryz.yT;have NM:=Ab hS;have K8:=Ab hB;have RB:p7 (∀(x:PL) l s z,Ac [] w z->P6 x->KV w 0 (x,U l (Z x.ts) s)->Calls prog 206 #[U l (Z x.ts) s,pC #[X .i32 v,O ⟨#[]⟩]] z λr T=>∃n,r=oa (X J n)/\SZ x.ts ⟨v,pF⟩ n/\Ac [] z T):=λx l s z S hc hx=>cA l s x.ts ⟨v,pF⟩ 0 z (hx.kept S) (by have:=hc.len;omega)
 have H5:p7 (∀(x:PL) l s (u:Nat) z,Ac [] w z->P6 x->KV w 0 (x,U l (Z x.ts) s)->(∀q∈d,P8 x.an q=jj->Z x.ts<=Z q.f.zC)->u<Z x.ts->Calls prog 207 #[m2 (V ⟨sp,0,Y⟩),pC #[X J x.ap,O x.an,U l (Z x.ts) s],X J u,pC (ml (Aj b))] z λr T=>∃(l:Option Addr) (s:Nat) (m:pM zA),r=oa (U l (Z m) s)/\C9 FQ m/\YR b x.ts u (d.filter (P8 x.an)) m/\Z m<=Z d/\p9 T z.heap.size 170 1 (U l (Z m) s) (Z m) (m.flatMap Ah)/\Ac [] z T):=
  λx l s u z S hc hx MB Mo=>XN sp kb ko _ ov M0 K6 d x.ap x.an l s x.ts u b z hb (hS.kept S) (hx.kept S) hc.len hc.ts (by omega) IJ (LL _) (λq H9 LS=>⟨MB q H9 LS,by have:=MB q H9 LS;omega⟩)
 have N4:=Ab hl;have Nj:=Ab hq;have hc:=Bp b;have K7:Z (Aj b)=26:=by unfold Aj;simp[hb]
 have IS:=Ab K7;obtain⟨E,hE⟩:=pN (Aj b);rw[hE]at hc K7 IS H5⊢;have P:=Ab (pP w E 243);have D:=Ab ((pO [] w).alloc (j3 (ml E) 243));clear hE hS hB hl LL hq IJ;obtain⟨G,HL⟩:∃G:pM (pM zA)->Prop,G=EJ d b v (e.map pH):=⟨_,rfl⟩;have W:p7 (∀R,EJ d b v ((e.drop 0).map pH) R->G (([]:pM Xh).map pH++R)):=λR h=>by rw[HL];exact h
 rw[<-HL];clear HL;obtain⟨F,HM⟩:=pN w.heap.size;have FP:=Ab HM;go_enter func178,ntmps178;apply wp_seq_k;intro KK MY;have HZ:=Ab MY;clear MY;go_wp2;refine HZ _ _ ?_;clear HZ KK;generalize hw1:w.alloc (j3 (ml E) 243)=w1 at P D⊢;clear hw1;rw[HM]at P⊢;clear HM;have s1:=(NM.kept D).zN.cell 1;simp at s1;go_wp2_with fail
 go_loopg [7,16] (Z e) (λgk o i wr=>∃(k:Nat) (c:pM Xh) (Ax:Option Addr) (Q:Nat),o=U Ax (Z c) Q/\i=X J k/\k<=Z e/\gk=Z e-k/\Z c<=k/\p7 (∀R,EJ d b v ((e.drop k).map pH) R->G (c.map pH++R))/\p7 (p9 wr F 102 1 (U Ax (Z c) Q) (Z c) (c.flatMap λp=>[p.2]))/\p7 (∀p∈c,p9 wr 0 170 1 p.2 (Z p.1) (p.1.flatMap Ah)/\C9 FQ p.1/\Z p.1<=10000)/\p7 (AF wr F E 243)/\p7 (Ac [] w wr))
 case atStart=>exact⟨0,[],Y,0,rfl,rfl,by omega,rfl,by simp,W,lH _ _ _ _,(λp B=>by cases B),P,D⟩
 case round=>
  clear W P D s1;obtain⟨k,c,Ax,Q,rfl,rfl,S,MN,SB,W,HO,HE,P,D⟩:=hrel;have HG:=Ab MN;clear MN;by_cases Ha:k<Z e
  .obtain⟨g,ST,x,I,N,he,FT,_,d0,d1,d2,d3,d4,d5,d6,d7,d8⟩:=Vu (K8.kept D) k Ha;simp only[kS]at he;obtain⟨rfl,_,rfl⟩:=he;(have FC:(x,U I (Z x.ts) N)∈e:=by rw[<-FT];exact kV Ha);have HH:=Aa N4 _ FC;have HC:KV w 0 (x,U I (Z x.ts) N):=(K8.each _ FC).1;(have H7:x.sort=0->∀q∈d,P8 x.an q=jj->Z x.ts<=Z q.f.zC:=λh=>Nj _ FC h);have B2:p7 (∀R,(if x.sort=0 then∃n,SZ x.ts ⟨v,pF⟩ n/\(if n<0 then EJ d b v ((e.drop (k+1)).map pH) R else∃m r',R=m::r'/\YR b x.ts n.toNat (d.filter (P8 x.an)) m/\EJ d b v ((e.drop (k+1)).map pH) r')else EJ d b v ((e.drop (k+1)).map pH) R)->G (c.map pH++R)):=by
    intro R h;refine W R ?_;rw[lD Ha,lE,FT];exact h
   have EK:=Ab (D.alloc (j3 (ml (Ay (x,U I (Z x.ts) N))) 217));have EX:=Ab (lg HO (j3 (ml (Ay (x,U I (Z x.ts) N))) 217));(have BS:p7 (∀p∈c,p9 (wr.alloc (j3 (ml (Ay (x,U I (Z x.ts) N))) 217)) 0 170 1 p.2 (Z p.1) (p.1.flatMap Ah)/\C9 FQ p.1/\Z p.1<=10000):=λp B=>⟨lg (HE p B).1 _,(HE p B).2⟩);have FO:=Ab (P.alloc (j3 (ml (Ay (x,U I (Z x.ts) N))) 217));have HJ:=Ab (pP wr (Ay (x,U I (Z x.ts) N)) 217);have FA:=Ab (RB x I N _ EK HH HC);have CL:=Ab (λu z S hq=>H5 x I N u z S HH HC hq);have EY:=Ab H7;(have SK:F<=wr.heap.size:=by have:=D.size;have:=Aa FP;omega);obtain⟨pl,so,ap,an,ts,⟨lv,RO⟩,⟨rv,S0⟩⟩:=x;simp only[Ay]at EK EX BS FO HJ FA CL B2 EY d0 d1 d2 d3 d4 d5 d6 d7 d8;clear FT FC HH HC H7 W HO HE P D;by_cases M:so=0
   ·(have Os:(so !=0)=K:=by simp[M]);(have NA:(so==0)=jj:=by simp[M]);have P0:=Ab (EY M);(have A1:p7 (∀R,(∃n,SZ ts ⟨v,pF⟩ n/\(if n<0 then EJ d b v ((e.drop (k+1)).map pH) R else∃m r',R=m::r'/\YR b ts n.toNat (d.filter (P8 an)) m/\EJ d b v ((e.drop (k+1)).map pH) r'))->G (c.map pH++R)):=λR h=>B2 R (by rw[ln M];exact h));clear B2 EY M;(go_wp2_with fail);refine FA.mono ?_;rintro _ w3 ⟨n,rfl,L0,L⟩;have HF:=Ab L0;have A2:=Ab (EK.trans L);have FF:=Ab (FO.kept L);have AB:=HJ.kept L;have HT:=Ab (Ad EX L);(have FL:p7 (∀p∈c,p9 w3 0 170 1 p.2 (Z p.1) (p.1.flatMap Ah)/\C9 FQ p.1/\Z p.1<=10000):=λp B=>⟨Ad (BS p B).1 L,(BS p B).2⟩);clear L0 FA EK FO EX BS L d0 d1 d2 d3 d4 d5 d6 d7 d8 HJ;by_cases hn:n<0
    ·(have N0:¬(0:Int)<=n:=by omega);(have AH:p7 (∀R,EJ d b v ((e.drop (k+1)).map pH) R->G (c.map pH++R)):=λR h=>A1 R ⟨n,HF,by rw[ln hn];exact h⟩);clear A1 hn CL AB;go_wp2
     go_roundg (Z e-(k+1))
     case measure=>have:=Aa HG;omega
     case rel=>exact⟨k+1,c,Ax,Q,rfl,by go_num,by omega,rfl,by omega,AH,HT,FL,FF,A2⟩
    ·(have N0:(0:Int)<=n:=by omega);obtain⟨u,rfl⟩:∃u:Nat,n=(u:Int):=⟨n.toNat,by omega⟩;have Mo:u<Z ts:=by
      rcases HF with⟨h,_⟩|⟨j,hj,h,_⟩
      .omega
      .omega
     have Ix:=Ab (CL u w3 A2 P0 Mo);have e0:=AB.cell 0;have e1:=AB.cell 1;have e2:=AB.cell 2;have e3:=AB.cell 3;have e4:=AB.cell 4;simp at e0 e1 e2 e3 e4;clear AB CL hn;go_wp2_with ((with_reducible show wpList _ _ _ ({dst:=_,op:=Op.load 243 _,type:=_,pos:=_,after:=_,guard:=_}::_) _ _);refine BR (by rfl) 243 _ rfl F 0 (by rfl) E _ FF.range underlying243 rfl (by rw[Aa IS];exact Tryz.zG) ?_)
     refine Ix.mono ?_;rintro _ w4 ⟨C,A,m,rfl,LC,KS,H,EM,k4⟩;have HS:=Ab (A2.trans k4);have HQ:=Ab (FF.kept k4);have AT:=Ad HT k4;(have HP:p7 (∀p∈c,p9 w4 0 170 1 p.2 (Z p.1) (p.1.flatMap Ah)/\C9 FQ p.1/\Z p.1<=10000):=λp B=>⟨Ad (FL p B).1 k4,(FL p B).2⟩);have B0:p7 (p9 w4 0 170 1 (U C (Z m) A) (Z m) (m.flatMap Ah)):=Am EM (lz _);have Pl:p7 (C9 FQ m/\Z m<=10000):=⟨LC,by omega⟩;have AH:p7 (∀R,EJ d b v ((e.drop (k+1)).map pH) R->G ((c++[(m,U C (Z m) A)]).map pH++R)):=by
      intro R h;have h2:=Aa A1 (m::R) ⟨u,HF,by rw[li (by omega)];exact⟨m,R,rfl,by rw[show((u:Nat):Int).toNat=u by omega];exact KS,h⟩⟩;rw[lV,mo];exact h2
     (have SJ:F<=w4.heap.size:=by have:=HS.size;have:=Aa FP;omega);clear Ix A2 FF HT FL k4 LC KS H EM A1 e0 e1 e2 e3 e4;obtain⟨y,H⟩:=pN (Z m);have HB:=Ab H;rw[H]at AH B0⊢;clear H;go_wp2_with (at_builtin;refine lG _ rfl (.tmp 31) (.tmp 38) _ rfl F 102 i0 _ 1 24 underlying303 PT NN QQ OH rfl (by omega) (U Ax (Z c) Q) (Z c) (c.flatMap λp=>[p.2]) rfl (lg AT _) ⟨w4.heap.size,0,Y⟩ 1 1 [U C y A] rfl rfl (lI (lP w4 _)) (by simp[Value.oneCell']) (by omega) (by unfold maxLen;omega) (by omega) (by simp;omega) (w4.heap.size+1) (by simp) ?_;intro g1 Jx w9 K4 B9 Nd NB)
     have Nq:p7 (p9 w9 F 102 1 (U (V ⟨g1,0,Y⟩) (Z (c++[(m,U C y A)])) Jx) (Z (c++[(m,U C y A)])) ((c++[(m,U C y A)]).flatMap λp=>[p.2])):=by
      rw[lM];simp only[lu,lj,lO,me,lF,mx,lU];exact K4
     have NL:p7 (∀p∈c++[(m,U C y A)],p9 w9 0 170 1 p.2 (Z p.1) (p.1.flatMap Ah)/\C9 FQ p.1/\Z p.1<=10000):=by
      intro p B;rcases lw.1 B with h|h
      .exact⟨TA (lg (HP p h).1 _) (lg AT _) B9,(HP p h).2⟩
      .simp only[kY]at h;subst h;exact⟨TA (p:=(m,U C y A)) (lg (by rw[Aa HB];exact B0) _) (lg AT _) B9,Pl⟩
     have OB:=Ab ((HS.alloc (j3 #[U C y A] 102)).grown B9 (λq hq=>oj (by have:=(AT.lt q hq).1;have:=Aa FP;omega)));have NV:p7 (AF w9 F E 243):=(HQ.alloc (j3 #[U C y A] 102)).grown B9 (As AT HQ (by decide));clear K4 B9 Nd NB AT HP HS HQ B0
     go_roundg (Z e-(k+1))
     case measure=>have:=Aa HG;omega
     case rel=>exact⟨k+1,c++[(m,U C y A)],V ⟨g1,0,Y⟩,Jx,by simp,by go_num,by omega,rfl,by simp;omega,AH,Nq,NL,NV,OB⟩
   ·(have Os:(so !=0)=jj:=by simp[M]);(have NA:(so==0)=K:=by simp[M]);(have AH:p7 (∀R,EJ d b v ((e.drop (k+1)).map pH) R->G (c.map pH++R)):=λR h=>B2 R (by rw[li M];exact h));clear M B2 FA CL EY;go_wp2
    go_roundg (Z e-(k+1))
    case measure=>have:=Aa HG;omega
    case rel=>exact⟨k+1,c,Ax,Q,rfl,by go_num,by omega,rfl,by omega,AH,EX,BS,FO,EK⟩
  .have A1:p7 (G (c.map pH)):=by
    have h:=Aa W [] (by rw[lS (by omega)];rfl);rw[lU]at h;exact h
   have HX:=Ab (XV Ax Q c wr ⟨Am HO (lz _),HE⟩ (by omega));clear W HO HE P;(go_wp2_with fail);refine HX.mono ?_;rintro _ w3 ⟨l,s,m,rfl,H0,EM,L⟩;have NY:=Ab H0;have B0:=Ab (Am EM (show w.heap.size<=wr.heap.size from D.size))
   have A2:=Ab (D.trans L);obtain⟨y,H⟩:=pN (Z m);have HB:=Ab H;rw[H];clear H0 EM L HX H;go_wp2;go_ret;rw[<-Aa HB];refine⟨l,s,m,c,rfl,NY,A1,?_,A2⟩;rw[<-Aa FP];exact B0
def C2(vs:pM UInt8):pM Int:=vs.map λv=>(v.toNat:Int)
structure dU(w:py)(sp:Nat)(body:pM Br)(s:pM Af)(vs:pM UInt8):Prop where
 at_:∃(kb ko:Nat) (bad:Option Addr) (bcp:Nat) (zH:pM Lz) (oad:Option Addr) (ocp:Nat) (sad:Option Addr) (scp:Nat) (fs:pM Fa),
  PQ w sp kb ko (U bad (Z zH) bcp) (U oad (Z (C2 vs)) ocp) sad scp fs/\B8 w 0 (U bad (Z zH) bcp) zH/\zH.map pH=body.map LU/\
  p9 w 0 21 1 (U oad (Z (C2 vs)) ocp) (Z (C2 vs)) ((C2 vs).flatMap AU)/\Df fs s
 len:Z s<=10000
 lits:∀x∈body,Db x/\P6 (LU x)
 blen:Z body<=1000
 yB:Z vs<=1000
 fit:ZH s body
 ok:∀v∈vs,Ew v
def dU.kept{w w':py}{a:Nat}{c:pM Br}{s:pM Af}{b:pM UInt8}(h:dU w a c s b)(k:Ac [] w w'):dU w' a c s b:=by
 obtain⟨t,n,u,l,i,o,d,r,g,p,j,e,q,f,m⟩:=h.at_;exact⟨⟨t,n,u,l,i,o,d,r,g,p,j.kept k,e.kept k,q,Ad f k,m⟩,h.len,h.lits,h.blen,h.yB,h.fit,h.ok⟩
def Df.len{a:pM Fa}(h:Df a f):Z a=Z f:=by
 have:=congrArg List.length h.same;simpa using this
def Uo{a:pM Br}{t:pM UInt8}(h:dU w n a f t)(i:Di e):
  Calls prog 177 #[m2 (V ⟨n,0,Y⟩),pC (ml (Aj (Bn e)))] w λr g=>r=oa (.bool (Eg a f e))/\Ac [] w g:=by
 obtain⟨F,v,q,o,j,G,L,y,C,D,u,m,c,I,b⟩:=h.at_;have M:=b.len;have P:Z j=Z a:=by have:=congrArg List.length c;simpa using this
 have H:=h.blen;have N:=h.len;refine(Zd n F v q o j _ y C D (Bn e) w (Iv i) u m (by omega) (by omega) (λp z=>?_) (λA=>b.mono A)).mono ?_
 .have:p.1∈a.map LU:=by rw[<-c];exact lB z
  obtain⟨x,d,E⟩:=lk.1 this;rw[<-E];exact(h.lits x d).2
 .rintro r g ⟨B,rfl,l,k⟩;rw[c]at l;exact⟨by rw[XE b i a (λx d=>(h.lits x d).1) B l],k⟩
def VT{a:pM Br}{s:pM Af}{N:pM UInt8}(h:dU w n a s N)(D:Di e){v:UInt8}(hv:Ew v):
  Calls prog 178 #[m2 (V ⟨n,0,Y⟩),X .i32 (v.toNat:Int),pC (ml (Aj (Bn e)))] w λr t=>∃(l:Option Addr) (o:Nat),r=oa (U l (Z ((Jc a s v e).map AE)) o)/\
   p9 t w.heap.size 170 1 (U l (Z ((Jc a s v e).map AE)) o) (Z ((Jc a s v e).map AE)) (((Jc a s v e).map AE).flatMap Ah)/\Ac [] w t:=by
 obtain⟨kb,Q,I,G,y,A1,BS,S,W,fs,P,F,u,h4,b⟩:=h.at_;have hl:=b.len;have B2:Z y=Z a:=by have:=congrArg List.length u;simpa using this
 have hb:=h.blen;have hn:=h.len;have C:∀p∈y,∃x∈a,LU x=p.1:=λp c=>by
  have:p.1∈a.map LU:=by rw[<-u];exact lB c
  exact lk.1 this
 refine(VV n kb Q I G y _ S W fs (v.toNat:Int) (Bn e) w (Iv D) P F (by omega) (by omega) (λp c=>?_) b.pair (λT=>b.mono T) (λp c E q M j=>?_)).mono ?_
 .obtain⟨x,d,i⟩:=C p c;rw[<-i];exact(h.lits x d).2
 .obtain⟨x,d,i⟩:=C p c;have hm:q.f∈s.map BU:=by rw[<-b.same];exact lB M
  obtain⟨g,H,B⟩:=lk.1 hm;rw[<-i]at E j⊢;have L:(x.kind==97)=jj:=by
   rw[<-SY];have:F9 x.kind=0:=E;rw[this];rfl
  have AO:g.name=x.A.name:=by
   unfold P8 at j;rw[<-B]at j;exact toList_inj (by simpa[LU,BU] using j)
  have:=h.fit g H x d L AO;rw[<-B];simp[LU,BU];omega
 .rintro r t ⟨l,o,m,ps,rfl,R,z,AT,k⟩;rw[u]at z;obtain⟨i,_⟩:=YJ b D hv (λx d=>(h.lits x d).1) h.fit z R;rw[<-i];exact⟨l,o,rfl,AT,k⟩
def cG{a:pM Br}{b:pM UInt8}(h:dU w n a f b)(v:UInt8)(e:pM zA):∀t∈Jc a f v e,A8 t:=by
 obtain⟨y,q,z,o,l,p,g,u,k,r,m,i,x,j,c⟩:=h.at_;exact λt d=>Jg c.canon h.fit v e t ((Fk a f v e t).1 d)
def cN{l:pM Br}{a:pM UInt8}(h:dU w n l f a)(k:Nat)(m:k<Z a):
  ∃(d c:Nat) (u:p5) (g b:Nat),AF w n [m2 (V ⟨d,c,Y⟩),u,U (V ⟨g,0,Y⟩) (Z a) b] 237/\p8 w ⟨g,k,Y⟩=V (X .i32 (a[k].toNat:Int)):=by
 obtain⟨d,c,z,x,G,y,C,B,D,E,p,v,F,o,A⟩:=h.at_;have j:k<Z (C2 a):=by unfold C2;simpa using m
 obtain⟨g,b,r,t⟩:=Rz o k j;have q:Z (C2 a)=Z a:=by unfold C2;simp
 have i:=p.zN;rw[r,q]at i;refine⟨d,c,_,g,b,i,?_⟩;have e:(C2 a)[k]=(a[k].toNat:Int):=by simp[C2]
 rw[t,e]
