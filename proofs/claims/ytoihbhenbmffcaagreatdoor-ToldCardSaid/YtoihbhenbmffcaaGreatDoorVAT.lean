import Derived.Test.YtoihbhenbmffcaaGreatDoorVAS
import Derived.Test.YtoihbhenbmffcaaGreatDoorVAN
set_option linter.all false
set_option maxHeartbeats 0
open List renaming length->Z,toArray->D6
open Option renaming none->Y,some->V
open Go.Value renaming slice->U,int->X,string->O,pointer->Gi,agg->Ms
open Bool renaming false->K,true->Cm
open Go.IntKind renaming i64->J
open Go.Obj renaming cells->Dj
open Go.Ending renaming returned->G3
open Or renaming inl->Hd,inr->Hf
open Go renaming World->Hq,Value->Hs
open Go.RowKit renaming Hid->JR
open Go.World renaming cell?->Lc,ownsRow->Mi
open ByteArray renaming empty->ND
open Prod renaming fst->O0
open Go.Act renaming put->OD
namespace Go.Proofs.YtoihbhenbmffcaaGreatDoor
open Go.RowKit Go.Proofs.Tryz
variable{m k b n i:Nat}{v w u:Hq}{M:QC Nat}{z:Hs}{s t:bC}{e:QC bC}{f:QC Af}{B:Bool}{g:UInt8}{I:Int}{y:QC Hs}
def cw{c:QC Fh}(o:c.Pairwise λa b=>CQ a.f b.f<0)(n:bC)(l:Gu c ⟨n,[]⟩ m):(c.drop m).takeWhile (P9 n)=c.filter (P9 n):=by
 have r:∀q∈c.drop m,¬DX q.f.name n<0:=by
  intro q g;obtain⟨i,j,rfl⟩:=mw g;rw[mG]at j;rw[pk,<-NU];exact l.zF (m+i) (by omega) (by omega)
 have s:(c.drop m).takeWhile (P9 n)=(c.drop m).filter (P9 n):=by
  refine JS _ (nG (fun{a b} ha hb hab hbn=>?_) (o.drop (i:=m)));have e:b.f.name=n:=toList_inj (by simpa[P9] using hbn);have t:¬DX a.f.name n<0:=r a ha;have h:DX a.f.name b.f.name<=0:=by
   unfold CQ at hab;split at hab<;>omega
  rw[e]at h;have d:DX a.f.name n=0:=by omega
  unfold P9;rw[(By _ _).1 d];simp
 have h:(c.take m).filter (P9 n)=[]:=by
  refine pg.2 (λq g k=>?_);obtain⟨i,j,rfl⟩:=mw g;rw[mB]at j;rw[oJ]at k;have d:=(NU _ _).1 (l.below i (by omega) (by omega));have e:c[i].f.name=n:=toList_inj (by simpa[P9] using k);rw[e]at d;have:DX n n=0:=(By n n).2 rfl;omega
 have d:c.filter (P9 n)=(c.drop m).filter (P9 n):=by
  conv=>lhs;rw[<-mU m c,nZ,h,mR]
 rw[s,<-d]
def iq{α:Type}{q:α->Bool}{l:QC α}(a:k<Z l)(h:q l[k]=Cm):(l.drop k).takeWhile q=l[k]::(l.drop (k+1)).takeWhile q:=by
 rw[lY a,List.takeWhile_cons,h,lS rfl]
def jk{α:Type}{q:α->Bool}{l:QC α}(a:k<Z l)(h:q l[k]=K):(l.drop k).takeWhile q=[]:=by
 rw[lY a,List.takeWhile_cons,h,lO (by simp)]
structure Vk(w0:Hq)(b2:Nat)(n:bC)(M:QC Nat)(w:Hq):Prop where
 kept:Ac [] w0 w
 name:Lc w ⟨b2,0,Y⟩=V (O n)
 apart:∀k∈M,w0.heap.size<=k/\k≠b2/\k<w.heap.size
def Vk.grow{n:bC}(h:Vk v m n M w)(k:Ac [] w u):Vk v m n M u:=
 ⟨h.kept.trans k,k.cellAt h.name,λi a=>⟨(h.apart i a).1,(h.apart i a).2.1,nz (h.apart i a).2.2 k.size⟩⟩
def Lf(k:Ac M w u)(h:Lc w ⟨b,n,Y⟩=V z)(a:b∉M):Lc u ⟨b,n,Y⟩=V z:=by
 have e:=k.block b (Oz h) a;simp only[World.cell?,e]at h⊢;exact h
def Vk.round{M d:QC Nat}(h:Vk v m s M w)(k:Ac M w u)(c:∀i∈d,(i∈M\/w.heap.size<=i)/\i<u.heap.size):Vk v m s d u:=by
 have g:=Oz h.name;have f:=h.kept.size;refine⟨h.kept.trans' k (λi b=>Hf (h.apart i b).1),Lf k h.name (λe=>(h.apart _ e).2.1 rfl),λi b=>⟨?_,?_,(c i b).2⟩⟩
 .rcases(c i b).1 with a|a
  .exact(h.apart i a).1
  .omega
 .rcases(c i b).1 with a|a
  .exact(h.apart i a).2.1
  .omega
set_option maxRecDepth 100000
theorem gN(b1 H S P:Nat)(D:Option Addr)(o:Nat)(d:QC Fh)(n:bC)(w0 w:Hq)(G:QC Nat)(x:Lc w ⟨b1,0,Y⟩=V (Gi (V ⟨S,P,Y⟩)))
  (hO:Vk w0 H n G w) (hs:Lc w0 ⟨S,P,Y⟩=V (U D (Z d) o)) (hP:Jr w0 (U D (Z d) o) d) (M2:Z d<=900000) (HH:d.Pairwise λa b=>CQ a.f b.f<0)
  (H4:∀i j (hi:i<Z d) (hj:j<Z d),i<=j->CQ d[j].f ⟨n,[]⟩<0->CQ d[i].f ⟨n,[]⟩<0):
  Lv prog 235 #[Gi (V ⟨b1,0,Y⟩),Gi (V ⟨H,0,Y⟩)] (λq:Fh=>#[Ms (D6 (A8 q))]) (d.filter (P9 n)) G w:=by
 intro l BA Jx W FF _ _ hJ NS hR HD;have AO:=hO.grow FF;have c1:=FF.cellAt x;have cs:=AO.kept.cellAt hs;have c2:=AO.name;have FO:JR (∀wr,Ac [] W wr->Calls prog 103 #[U D (Z d) o,Ms #[O n,U Y 0 0],.func (.func 104) #[] #[]] wr λe w'=>∃p:Nat,e=G3 (.tuple #[X J p,.bool (E5 d ⟨n,[]⟩ p)])/\Gu d ⟨n,[]⟩ p/\Ac [] wr w'):=λwr z=>KZ D o d ⟨⟨n,[]⟩,U Y 0 0⟩ wr (hP.kept (AO.kept.trans z)) (mf _ _ _ _) (by simp) (by omega) H4
 have HO:=Ab AO;have HP:=Ab hP;have HJ:=Ab hJ;have HR:=Ab hR;have FW:=Ab HD;have HF:JR (∀p,Gu d ⟨n,[]⟩ p->d.filter (P9 n)=(d.drop p).take 0++((d.drop p).drop 0).takeWhile (P9 n)):=λp hc=>by rw[oT,mR,pd,cw HH n hc]
 obtain⟨A,HQ⟩:=QP (d.filter (P9 n));rw[HQ]at HF HR⊢;have EY:JR (∀u,Ac [] W u->Lc u ⟨b1,0,Y⟩=V (Gi (V ⟨S,P,Y⟩))/\Lc u ⟨S,P,Y⟩=V (U D (Z d) o)/\Lc u ⟨H,0,Y⟩=V (O n)):=λu z=>⟨z.cellAt c1,z.cellAt cs,z.cellAt c2⟩
 clear HQ hO AO hs hP HH H4 hJ hR HD FF x;show Calls prog 235 #[.func (.yield l) #[] #[],Gi (V ⟨b1,0,Y⟩),Gi (V ⟨H,0,Y⟩)] W _;go_enter func235,ntmps235;go_wp2_with fail
 go_region_held3 (λu=>Ac [] W u/\Lc u ⟨b1,0,Y⟩=V (Gi (V ⟨S,P,Y⟩))/\Lc u ⟨S,P,Y⟩=V (U D (Z d) o)/\Lc u ⟨H,0,Y⟩=V (O n)) ((go_split_ands;refine(fun(H9:Ac [] W _)=>And.intro H9 (EY _ H9)) ?_;repeat (first|assumption|exact SF [] _|refine Ac.drew ?_|refine Ac.alloc ?_ _))) ((go_at_call 103;refine(FO _ (by go_split_ands;assumption)).mono ?_;rintro e w3 ⟨p,rfl,hcut,k3⟩;have FA:=Ab hcut;have H2:Ac [] W w3:=(by go_split_ands;exact Ac.trans (by assumption) k3);have BB:=Ab H2;clear hcut k3 H2))
 clear c1 cs c2 FO;have H7:=Ab (HO.grow BB);have BS:JR (BA [] G w3):=BK HJ (s:=([],G)) FW BB;obtain⟨d1,d2,d3⟩:=EY w3 BB;have LB:=FA.le;have NV:(0:Int)<=(p:Int):=by omega
 have L0:(p:Int)<=(Z d:Int):=by omega
 have DT:=Ab (HF p FA);have H3:=BB.size;clear EY HO FW HF FA;have FT:(D=Y/\o=0/\Z d=0)\/∃g,D=V ⟨g,0,Y⟩/\Z d<=o:=by
  rcases HP.row.2 with⟨x,h2⟩|⟨g,c,M6,x,_,_,h3,_⟩
  .simp only[lB]at x;exact Hd ⟨x.1,x.2.2,h2⟩
  .simp only[lB]at x;exact Hf ⟨g,x.1,by omega⟩
 by_cases E0:p=Z d
 .have E:JR (A=[]):=by
   show _=_;rw[Aa DT,E0];simp
  have K3:Z d-p=0:=by omega
  rcases FT with⟨rfl,rfl,hz⟩|⟨g,rfl,JA⟩
  .rw[hz]at K3 L0 d2 LB;go_wp2_with fail
   go_loopg [25] 0 (λgk i wr=>i=X J 0/\wr=w3)
   case atStart=>exact⟨rfl,rfl⟩
   case round=>
    obtain⟨rfl,rfl⟩:=hrel;go_wp2;go_end0;exact⟨⟨_,rfl⟩,Hd ⟨G,by rw[Aa E];exact BS⟩⟩
  ·(have MN:(Z d:Int)<=(o:Int):=by omega);(have K7:(p:Int)<=(o:Int):=by omega);clear E0;(go_wp2_with fail);all_goals
    go_loopg [25] 0 (λgk i wr=>i=X J 0/\wr=w3)
    case atStart=>exact⟨rfl,rfl⟩
    case round=>
     obtain⟨rfl,rfl⟩:=hrel;go_wp2;go_end0;exact⟨⟨_,rfl⟩,Hd ⟨G,by rw[Aa E];exact BS⟩⟩
 .rcases FT with⟨rfl,rfl,hz⟩|⟨g,rfl,JA⟩
  .omega
  have MN:(Z d:Int)<=(o:Int):=by omega
  have K7:(p:Int)<=(o:Int):=by omega
  have NB:¬o=p:=by omega
  obtain⟨L,hL⟩:=QP (Z d-p);have HL:=Ab hL;have K4:JR (∀k,k<L->∃(z:p+k<Z d),(d.drop p)[k]?=V d[p+k]):=by
   intro k z;(have h:p+k<Z d:=by omega);exact⟨h,by rw[ph,lN h]⟩
  go_wp2_with fail
  clear hL E0
  go_loopg [7,25] L (λgk bx i wr=>∃(k:Nat) (M:QC Nat),i=X J k/\k<=L/\gk=L-k/\JR (A=(d.drop p).take k++((d.drop p).drop k).takeWhile (P9 n))/\JR (Vk w0 H n M wr)/\JR (BA ((d.drop p).take k) M wr)/\JR (W.heap.size<=wr.heap.size))
  case atStart=>exact⟨0,G,rfl,by omega,rfl,DT,H7,BS,H3⟩
  case round=>
   clear DT H7 BS H3;obtain⟨k,M,rfl,z,H6,E,A0,CL,HB⟩:=hrel;have HG:=Ab H6;clear H6;by_cases KS:k<L
   .obtain⟨MB,KD⟩:=K4 k KS;obtain⟨g',Nx,y,r,C,B,Ha,hf,e0,e1⟩:=Jw (HP.kept A0.kept) (p+k) MB;simp only[lB,lL,mu]at Ha;obtain⟨⟨IS,-,-⟩,-,-⟩:=Ha;subst IS;rw[show(p+k)*2=p*2+k*2 by omega]at e0 e1;(have EK:k<Z (d.drop p):=by rw[mG];omega);(have T:(d.drop p)[k]=⟨⟨y,r⟩,U C (Z r) B⟩:=by rw[pk,hf]);(have NL:(0:Int)<=(k:Int):=by omega);(have JJ:(k:Int)<(L:Int):=by omega);have c2:=A0.name;have Q:=Ab (Tc wr [O y,U C (Z r) B] 104);have R:=Ab ((SF [] wr).alloc (Dj [O y,U C (Z r) B].toArray 104));have BT:=R.cellAt c2;refine Q0 (λI m=>?_);go_wp2;refine m _ _ ?_;clear m I;refine Q0 (λI m=>?_);go_wp2;refine m _ _ ?_;clear m I;refine Q0 (λK5 H1=>?_);refine wp_block ?_;refine Q0 (λI m=>?_);go_wp2;refine m _ _ ?_;clear m I;change Code.wp _ _ _ _ (wr.alloc (Dj [O y,U C (Z r) B].toArray 104));generalize hw2:wr.alloc (Dj [O y,U C (Z r) B].toArray 104)=w2 at Q R BT⊢;have Ix:=Q.lt;generalize wr.heap.size=N at Q Ix⊢;have CC:JR (Vk w0 H n M w2):=A0.grow R;have Bx:JR (BA ((d.drop p).take k) M w2):=BK HJ (s:=((d.drop p).take k,M)) CL R;have B0:JR (W.heap.size<=w2.heap.size):=mM HB R.size;have x0:=Q.cell 0;have x1:=Q.cell 1;simp at x0 x1;clear hw2 e0 e1 c2 A0 CL HB KD R Q Ix;cases hnn:(y.toList==n.toList)with
    |false=>
     have F:JR (A=(d.drop p).take k):=by
      show _=_;rw[Aa E,jk EK (by rw[T];exact hnn),mz]
     clear T;go_wp2;refine mj (pj rfl _ _ _) rfl ?_;exact⟨⟨_,rfl⟩,Hd ⟨M,by rw[Aa F];exact Bx⟩⟩
    |true=>
     have F:JR (A=(d.drop p).take k++⟨⟨y,r⟩,U C (Z r) B⟩::((d.drop p).drop (k+1)).takeWhile (P9 n)):=by
      show _=_;rw[Aa E,iq EK (by rw[T];exact hnn),T]
     have A2:JR ((d.drop p).take k++[⟨⟨y,r⟩,U C (Z r) B⟩]=(d.drop p).take (k+1)):=by
      show _=_;rw[<-T,lF EK]
     have HY:=Ab (HR _ _ _ M w2 F Bx);clear T;refine Q0 (λI m=>?_);refine I5 (n:=0) 7 (by rintro ⟨_,_,h⟩;obtain⟨⟨v,e⟩,_⟩:=h;cases e) (λK2 H0=>?_);simp only[oy,oT];go_wp2;refine H0 _ _ ?_;clear H0 K2;simp only[oM,pd];refine J8 (λ_=>trivial) rfl rfl (l:=l) (args:=#[Ms #[O y,U C (Z r) B]]) (by rfl) (by first|(simp[go_sem,Oper.semAt];done)|(simp[go_sem,Oper.semAt,execOp,resolve,invoke];done)) HY ?_;rintro e w4 (⟨rfl,M',AR,FB,FP⟩|⟨rfl,M',AR,-⟩)
     .refine⟨_,rfl,Ep (by rintro ⟨_,_,h⟩;obtain⟨⟨v,e⟩,_⟩:=h;cases e) ?_⟩;simp only[OD,lz,lC,lD];have K8:=Ab (CC.round FB FP);(have FC:JR (BA ((d.drop p).take (k+1)) M' w4):=by rw[<-Aa A2];exact AR);have KA:JR (W.heap.size<=w4.heap.size):=mM B0 FB.size;have LS:JR (A=(d.drop p).take (k+1)++((d.drop p).drop (k+1)).takeWhile (P9 n)):=by
       show _=_;rw[Aa F,<-Aa A2,mO];rfl
      clear AR FB FP x0 x1 BT HY CC Bx B0 E F A2;go_wp2;refine m _ _ ?_;clear m;go_wp2;refine H1 _ _ ?_;clear H1;go_wp2
      go_roundg (L-(k+1))
      case measure=>have:=Aa HG;omega
      case rel=>exact⟨k+1,M',by go_num,by omega,rfl,LS,K8,FC,KA⟩
     .refine⟨_,rfl,Ep (by rintro ⟨_,_,h⟩;obtain⟨⟨v,e⟩,_⟩:=h;cases e) ?_⟩;simp only[OD,lz,lC,lD];have FC:=Ab AR;clear AR x0 x1 BT HY CC Bx B0 E F A2;go_wp2;refine m _ _ ?_;clear m;go_wp2;refine mj (pj rfl _ _ _) rfl ?_;exact⟨⟨_,rfl⟩,Hf ⟨_,M',FC⟩⟩
   .have F:JR (A=(d.drop p).take k):=by
     show _=_;(have hl:Z (d.drop p)<=k:=by rw[mG,Aa HL];omega);rw[Aa E,mp hl];simp
    (have JJ:¬(k:Int)<(L:Int):=by omega);go_wp2;go_end0;exact⟨⟨_,rfl⟩,Hd ⟨M,by rw[Aa F];exact CL⟩⟩
theorem bk(b a:Nat)(n:bC)(w:Hq):
  Calls prog 221 #[Gi (V ⟨b,a,Y⟩),O n] w λr d=>∃c e,r=G3 (.func (.func 235) #[] #[Gi (V ⟨c,0,Y⟩),Gi (V ⟨e,0,Y⟩)])/\AI d c [Gi (V ⟨b,a,Y⟩)] 69/\AI d e [O n] 9/\w.heap.size<=c/\w.heap.size<=e/\Ac [] w d:=by
 go_enter func221,ntmps221;go_wp2;go_ret;refine⟨w.heap.size,w.heap.size+1,rfl,(Tc w [Gi (V ⟨b,a,Y⟩)] 69).alloc _,?_,lX _,by omega,((SF [] w).alloc _).alloc _⟩;have h:=Tc (w.alloc (Dj #[Gi (V ⟨b,a,Y⟩)] 69)) [O n] 9;rw[mt]at h;exact h
def YV(b:QC bC)(ts:QC AY)(at_:Nat)(fs:QC Fh)(m:QC bC):Prop:=∀y,y∈m↔∃q∈fs,Ik b ts q.f.bc=Cm/\y=q.f.bc.getD at_ ND
structure ZS(w:Hq)(N:Nat)(ap:Int)(nm:bC)(tv:Hs)(E:QC Hs)(b:QC bC)(ts:QC AY)(at_:Nat)(pre:QC Fh)(M:QC Nat)(W:Hq):Prop where
 kept:Ac [] w W
 b5:AI W N [X J ap,O nm,tv] 187
 b6:AI W (N+1) [X J at_] 3
 b7:AI W (N+2) E 243
 out:∃(m:QC bC) (ad:Option Addr) (cp:Nat),AI W (N+3) [U ad (Z m) cp] 102/\Mi W N 170 1 (U ad (Z m) cp) (Z m) (m.flatMap Ag)/\Di FY m/\YV b ts at_ pre m/\Z m<=Z pre/\M=(N+3)::(U ad (Z m) cp).ownBlock.toList
def ZS.own{N B:Nat}{ap:Int}{nm:bC}{tv:Hs}{E:QC Hs}{b:QC bC}{ts:QC AY}{at_:Nat}(f:w.heap.size<=B):OwnFrom B (fun(s:QC Fh×QC Nat) W=>ZS w N ap nm tv E b ts at_ s.1 s.2 W):=
 BQ (λs W j M h k a=>by
  obtain⟨m,i,e,d,c,g⟩:=h.out
  exact⟨EA h.kept k a f,h.b5.kept k (C4 a h.b5),h.b6.kept k (C4 a h.b6),h.b7.kept k (C4 a h.b7),m,i,e,d.kept k (C4 a d),Ai c k (Cs a c),g⟩)
theorem XT(sp kb ko:Nat)(bv ov:Hs)(QR:Option Addr)(NN:Nat)(u:QC Fh)(ap:Int)(nm:bC)(A:Option Addr)(z:Nat)(ts:QC AY)(at_:Nat)(b:QC bC)(w:Hq)(hb:Z b=26)(hS:PS w sp kb ko bv ov QR NN u)
  (ht:Mi w 0 215 2 (U A (Z ts) z) (Z ts) (ts.flatMap Ar)) (a7:Z ts<=1000) (hv:∀t∈ts,P4 t) (SL:Z u<=900000) (MN:u.Pairwise λa b=>CQ a.f b.f<0)
  (N2:∀i j (B:i<Z u) (hj:j<Z u),i<=j->CQ u[j].f ⟨nm,[]⟩<0->CQ u[i].f ⟨nm,[]⟩<0)
  (o:∀q∈u,P9 nm q=Cm->Z ts<=Z q.f.bc/\at_<Z q.f.bc):
  Calls prog 207 #[Gi (V ⟨sp,0,Y⟩),Ms #[X J ap,O nm,U A (Z ts) z],X J at_,Ms (D6 (Aj b))] w λr G=>∃(ad:Option Addr) (cp:Nat) (m:QC bC),r=G3 (U ad (Z m) cp)/\Di FY m/\YV b ts at_ (u.filter (P9 nm)) m/\Z m<=Z u/\Mi G w.heap.size 170 1 (U ad (Z m) cp) (Z m) (m.flatMap Ag)/\Ac [] w G:=by
 have Op:JR (∀nb (p:Fh) g,p∈u->P9 nm p=Cm->Ac [] w g->AI g nb (Aj b) 243->Calls prog 222 #[Gi (V ⟨nb,0,Y⟩),Ms #[X J ap,O nm,U A (Z ts) z],Ms (D6 (A8 p))] g λr G=>r=G3 (.bool (Ik b ts p.f.bc))/\Ac [] g G):=λnb p g hp hn n hB=>fi nb 243 b ap nm A z ts p 0 g hb hB (Ad ht n) ((hS.facts.each p hp).1.kept n) (by omega) (o p hp hn).1 hv
 have XS:JR (∀S Q M0 g,Lc g ⟨S,0,Y⟩=V (Gi (V ⟨kb,ko,Y⟩))->Vk w Q nm M0 g->Lv prog 235 #[Gi (V ⟨S,0,Y⟩),Gi (V ⟨Q,0,Y⟩)] (λq:Fh=>#[Ms (D6 (A8 q))]) (u.filter (P9 nm)) M0 g):=λS Q M0 g h1 hO=>gN S Q kb ko QR NN u nm w g M0 h1 hO hS.set hS.facts SL MN N2
 have HH:=Ab hS;have HQ:=Ab o;have hc:=Bt b;have W2:Z (Aj b)=26:=by unfold Aj;simp[hb]
 obtain⟨E,hE⟩:=QP (Aj b);rw[hE]at hc W2 Op⊢;clear hE hS MN N2 o hv;have a0:=Ab ht;clear ht;obtain⟨N,hN⟩:=QP w.heap.size;have HN:=Ab hN;obtain⟨C,BS⟩:=QP ((((w.alloc (Dj #[X J ap,O nm,U A (Z ts) z] 187)).alloc (Dj #[X J at_] 3)).alloc (Dj (D6 E) 243)).alloc (Dj #[U Y 0 0] 102));have NS:=Ab BS;have R:Ac [] w C:=by rw[<-BS];exact((((SF [] w).alloc _).alloc _).alloc _).alloc _
 have NM:AI C N [X J ap,O nm,U A (Z ts) z] 187:=by
  rw[<-BS,<-hN];exact(((Tc w [X J ap,O nm,U A (Z ts) z] 187).alloc _).alloc _).alloc _
 have Nx:AI C (N+1) [X J at_] 3:=by
  rw[<-BS];have h:=((Tc (w.alloc (Dj #[X J ap,O nm,U A (Z ts) z] 187)) [X J at_] 3).alloc (Dj (D6 E) 243)).alloc (Dj #[U Y 0 0] 102);rw[mt,hN]at h;exact h
 have PT:AI C (N+2) E 243:=by
  rw[<-BS];have h:=(Tc ((w.alloc (Dj #[X J ap,O nm,U A (Z ts) z] 187)).alloc (Dj #[X J at_] 3)) E 243).alloc (Dj #[U Y 0 0] 102);rw[mt,mt,hN]at h;exact h
 have K9:AI C (N+3) [U Y 0 0] 102:=by
  rw[<-BS];have h:=Tc (((w.alloc (Dj #[X J ap,O nm,U A (Z ts) z] 187)).alloc (Dj #[X J at_] 3)).alloc (Dj (D6 E) 243)) [U Y 0 0] 102;rw[mt,mt,mt,hN]at h;exact h
 have H4:JR (ZS w N ap nm (U A (Z ts) z) E b ts at_ [] [N+3] C):=⟨R,NM,Nx,PT,[],Y,0,K9,mf _ _ _ _,λi j h=>absurd h (by simp),λy=>by simp,by simp,by simp[Value.ownBlock]⟩;have M2:=Ab K9.lt;clear BS R NM Nx PT K9 hN;refine EQ func207 rfl ?_;simp only[ntmps207,mW,lQ,mn,Nat.reduceAdd,Nat.reduceSub,om,oo,oK,oz,mR,ny];have K8:¬LetsOut (bodyPostM Fence.wide 0 prog Tryz.f207 λr G=>∃(ad:Option Addr) (cp:Nat) (m:QC bC),r=G3 (U ad (Z m) cp)/\Di FY m/\YV b ts at_ (u.filter (P9 nm)) m/\Z m<=Z u/\Mi G w.heap.size 170 1 (U ad (Z m) cp) (Z m) (m.flatMap Ag)/\Ac [] w G):=TR (λ_ ⟨_,_,_,h,_⟩=>by cases h);obtain⟨QQ,K7⟩:=QP (bodyPostM Fence.wide 0 prog Tryz.f207 λr G=>∃(ad:Option Addr) (cp:Nat) (m:QC bC),r=G3 (U ad (Z m) cp)/\Di FY m/\YV b ts at_ (u.filter (P9 nm)) m/\Z m<=Z u/\Mi G w.heap.size 170 1 (U ad (Z m) cp) (Z m) (m.flatMap Ag)/\Ac [] w G);have VL:=Ab K7;rw[K7]at K8⊢;have aB:=Ab K8;clear K7 K8;refine Q0 (λK1 AR=>?_);go_wp2;refine AR _ _ ?_;clear AR K1;refine Q0 (λK1 AR=>?_);go_wp2;refine AR _ _ ?_;clear AR K1;change Code.wp _ _ _ _ ((((w.alloc (Dj #[X J ap,O nm,U A (Z ts) z] 187)).alloc (Dj #[X J at_] 3)).alloc (Dj (D6 E) 243)).alloc (Dj #[U Y 0 0] 102));rw[Aa NS,Aa HN];clear NS;have KK:JR (∀g,Ac [] C g->Lc g ⟨sp,0,Y⟩=V (Gi (V ⟨kb,ko,Y⟩))/\Lc g ⟨N,1,Y⟩=V (O nm)):=λg n=>by
  have h1:=(HH.kept (H4.kept.trans n)).dI.cell 0;have h2:=(H4.b5.kept n).cell 1;simp at h1 h2;exact⟨h1,h2⟩
 have LM:JR (∀g,Calls prog 221 #[Gi (V ⟨kb,ko,Y⟩),O nm] g λr G=>∃S Q,r=G3 (.func (.func 235) #[] #[Gi (V ⟨S,0,Y⟩),Gi (V ⟨Q,0,Y⟩)])/\AI G S [Gi (V ⟨kb,ko,Y⟩)] 69/\AI G Q [O nm] 9/\g.heap.size<=S/\g.heap.size<=Q/\Ac [] g G):=λg=>bk kb ko nm g
 obtain⟨s0,s1⟩:=KK C (SF _ _);refine Q0 (λK1 AR=>?_);refine Q0 (λK2 NL=>?_)
 go_region_held3 (λg=>Ac [] C g/\Lc g ⟨sp,0,Y⟩=V (Gi (V ⟨kb,ko,Y⟩))/\Lc g ⟨N,1,Y⟩=V (O nm)) ((go_split_ands;refine(fun(RB:Ac [] C _)=>And.intro RB (KK _ RB)) ?_;repeat (first|assumption|exact SF [] _|refine Ac.drew ?_|refine Ac.alloc ?_ _))) ((go_at_call 221;refine(LM _).mono ?_;rintro e w3 ⟨S,Q,rfl,RO,Nj,H5,Jx,k3⟩;have NV:Ac [] C w3:=(by go_split_ands;exact Ac.trans (by assumption) k3);have W3:=Ab RO;have T0:=Ab Nj;have KD:=Ab NV;have X1:JR (C.heap.size<=S/\C.heap.size<=Q):=⟨H5,Jx⟩;clear RO Nj H5 Jx k3 NV))
 refine NL _ _ ?_;clear NL K2 s0 s1 LM KK;refine wp_block ?_;have KA:JR (ZS w N ap nm (U A (Z ts) z) E b ts at_ [] [N+3] w3):=BK (ZS.own (lX _)) (s:=([],[N+3])) H4 KD;have YP:JR (Vk w Q nm [N+3] w3):=by
  have h1:=T0.cell 0;simp at h1;refine⟨KA.kept,h1,λk n=>?_⟩;have hn:=Aa HN;have h2:=X1.2;have h3:=Aa M2;have h4:=KD.size;simp only[lG]at n;omega
 have TS:=Aa XS S Q [N+3] w3 (by have h:=W3.cell 0;simp at h;exact h) YP;have aT:N+4<=w3.heap.size:=by have h3:=Aa M2;have h4:=KD.size;omega
 refine Jm (T:=104) (q:=10) rfl (enters_of func235 (by kernel_rfl) rfl) TS (λk n=>by simp only[lG]at n;omega) (ZS w N ap nm (U A (Z ts) z) E b ts at_) (λ_ _ _ _=>False) (ZS.own (by have:=Aa HN;omega)) (λ_ _ _ _ _ h _ _=>h) KA ?assign ?body ?done ?stop
 case assign=>
  intro l x W HS hx HK;have AT:=(mh.1 hx).1;obtain⟨⟨xn,xt⟩,xv⟩:=x;obtain⟨IJ,EY,FO⟩:=Ak (HH.facts.each _ AT).1;simp only at FO;subst FO;simp only[A8]at HK⊢;clear hx AT;simp only[lz,lC,lD]at HK⊢;refine AN (by rfl) (It GC) ?_;go_wp2;refine HK _ ((SF [] W).alloc _) ?_;exact Tc W [O xn,U IJ (Z xt) EY] 104
 case body=>
  intro l Bx MY x av M W KS B hM a6 hB;have hx:x∈u.filter (P9 nm):=by rw[KS];simp
  have AT:=(mh.1 hx).1;have H8:=(mh.1 hx).2;have Ix:=(HQ x AT H8).2;have HI:=Ab (Op (N+2) x W AT H8 B.kept B.b7);have WW:JR (Ek W x):=(HH.facts.each x AT).1.kept B.kept;have TX:JR (Ek w x):=(HH.facts.each x AT).1;obtain⟨⟨xn,xt⟩,xv⟩:=x;obtain⟨IJ,EY,FO⟩:=Ak WW;simp only at FO Ix;subst FO;obtain⟨m,AB,AH,h9,HR,HL,HO,Nd,IS⟩:=B.out;simp only[A8]at HI hB⊢;have d0:=B.b5.cell 0;have d1:=B.b5.cell 1;have d2:=B.b5.cell 2;have e0:=hB.cell 0;have e1:=hB.cell 1;simp at d0 d1 d2 e0 e1;have P:=Ab B;have Mo:=Ab hB;have H9:=Ab h9;have HJ:=Ab HR;have UO:=Ab HL;have TK:=Ab HO;have EM:=Ab IS;obtain⟨H7,hX⟩:∃H7:Fh,H7=⟨⟨xn,xt⟩,U IJ (Z xt) EY⟩:=⟨_,rfl⟩;have HV:=Ab hX;rw[<-hX]at KS⊢;clear hx AT H8 B hB h9 HR HL HO IS hM hX;obtain⟨F,hF⟩:=QP (Ik b ts xt);rw[hF]at HI;have HF:=Ab hF;clear hF;simp only[lz,lC,lD];refine wpIn_block ?_;refine m8 (λK3 FL=>?_);have FA:=Ab FL;clear FL;refine AN (by rfl) (by rintro ⟨_,_,h⟩;exact h) ?_;go_wp2_with fail
  refine HI.mono ?_;rintro _ w4 ⟨rfl,k4⟩;have H:=Ab k4;clear k4 d0 d1 d2 e0 e1 HI;go_wp2;refine FA _ _ ?_;clear FA K3;cases F with
  |false=>
   refine oC rfl (wpIn_skip ?_);refine⟨H.mono (by simp),M,?_,λk n=>⟨Hd n,?_⟩⟩
   .have FC:=BK (ZS.own (N:=N) (ap:=ap) (nm:=nm) (tv:=U A (Z ts) z) (E:=E) (b:=b) (ts:=ts) (at_:=at_) (lX w.heap.size)) (s:=(MY,M)) P H;obtain⟨m',CC,B2,g1,g2,g3,g4,g5,g6⟩:=FC.out;refine⟨FC.kept,FC.b5,FC.b6,FC.b7,m',CC,B2,g1,g2,g3,λy=>?_,by have:=g5;simp at this⊢;omega,g6⟩;rw[g4 y];constructor
    .rintro ⟨q,o,L⟩;exact⟨q,by simp[o],L⟩
    .rintro ⟨q,o,L⟩;rcases lV.1 o with o|o
     .exact⟨q,o,L⟩
     .simp only[lG]at o;subst o;rw[Aa HV]at L;rw[Aa HF]at L;cases L.1
   .rw[Aa EM]at n;have h4:=H.size;rcases lI.1 n with rfl|n
    .have:=H9.lt;omega
    .have:=(HJ.lt k (by simpa using n)).2;omega
  |true=>
   refine oI rfl ?_;have EK:=Ai HJ H;have N0:(U AB (Z m) AH).ownBlock≠V (N+3):=As EK (H9.kept H) (by decide);obtain⟨gx,cx,RG,HY⟩:=GD TX at_ Ix;simp only[lB]at RG;obtain⟨rfl,-,rfl⟩:=RG;obtain⟨BB,hY⟩:=QP (xt[at_]);rw[hY]at HY;have ar:=Oz HY;have P0:JR (∀g,Ac (U AB (Z m) AH).ownBlock.toList w4 g->Lc g ⟨N+3,0,Y⟩=V (U AB (Z m) AH)/\Lc g ⟨Bx,1,Y⟩=V (U (V ⟨gx,0,Y⟩) (Z xt) EY)/\Lc g ⟨N+1,0,Y⟩=V (X J at_)/\Lc g ⟨gx,at_,Y⟩=V (O BB)):=by
    intro g hz;have a1:=((H9.kept H).kept hz (λI=>N0 (by simpa using I))).cell 0;have a2:=((Mo.kept H).kept hz (λI=>As EK (Mo.kept H) (by decide) (by simpa using I))).cell 1;have a3:=((P.b6.kept H).kept hz (λI=>As EK (P.b6.kept H) (by decide) (by simpa using I))).cell 0;have a4:=Lf hz (H.cellAt (P.kept.cellAt HY)) (λI=>by have:=(EK.lt gx (by simpa using I)).1;have:=Aa HN;omega);simp at a1 a2 a3;exact⟨a1,a2,a3,a4⟩
   have EX:=Ab (P0 w4.drew (SF _ _).drew);(have an:(0:Int)<=(at_:Int):=by omega);(have ag:(at_:Int)<(Z xt:Int):=by omega);have aa:=Ab (Xn AB AH m BB N w4.drew EK.drew (by have h1:=congrArg List.length KS;have h2:=nr (P9 nm) u;simp at h1;omega) UO (by have:=P.kept.size;have:=H.size;have:=Aa HN;show N<=w4.heap.size;omega));have Os:JR (xt.getD at_ ND=BB):=by
    show _=_;rw[lT,lN Ix,hY];rfl
   clear hY HY EK;refine ER 7 (λg=>Lc g ⟨N+3,0,Y⟩=V (U AB (Z m) AH)/\Lc g ⟨Bx,1,Y⟩=V (U (V ⟨gx,0,Y⟩) (Z xt) EY)/\Lc g ⟨N+1,0,Y⟩=V (X J at_)/\Lc g ⟨gx,at_,Y⟩=V (O BB)) (by kernel_rfl) (by rfl) (by rintro ⟨_,_,h⟩;exact h) ?_;refine CH.tq (i:=0) (v:=U AB (Z m) AH) rfl (λ_ _ _ h=>h) EX ?_;simp only[OD,lz,lC,lD];refine CH.tq (i:=1) (v:=Gi (V ⟨Bx,1,Y⟩)) rfl (λ_ _ _ h=>h) EX ?_;simp only[OD,lz,lC,lD];refine CH.tq (i:=2) (v:=U (V ⟨gx,0,Y⟩) (Z xt) EY) rfl (λ_ _ _ h=>h) EX ?_;simp only[OD,lz,lC,lD];refine CH.tq (i:=3) (v:=X J at_) rfl (λ_ _ _ h=>h) EX ?_;simp only[OD,lz,lC,lD];refine CH.tq (i:=4) (v:=Gi (V ⟨gx,at_,Y⟩)) rfl (λ_ _ _ h=>h) EX ?_;simp only[OD,lz,lC,lD];refine CH.tq (i:=5) (v:=O BB) rfl (λ_ _ _ h=>h) EX ?_;simp only[OD,lz,lC,lD];refine CH.one (i:=6) (by kernel_rfl) rfl (λHS hK=>?_)
   go_simp
   refine aa.mono ?_;rintro e w5 ⟨m',CC,B2,rfl,RV,VR,H5,Jx,FP,WS,X2⟩;have HT:Ac (U AB (Z m) AH).ownBlock.toList w4 w5:=(SF _ _).drew.trans WS;refine hK.out _ _ (λ_=>P0 w5 HT) ?_;clear hK HS
   try simp only[OD,lz,lC,lD]
   have FW:AI w5 (N+3) [U AB (Z m) AH] 102:=(H9.kept H).kept HT (λI=>N0 (by simpa using I));have c9:=FW.cell 0;have f9:=FW.frozen 0;simp at c9;refine CH.one (i:=7) (by kernel_rfl) rfl (λHS hK=>?_)
   go_simp
   refine hK.out _ _ (λh=>absurd rfl h) ?_;clear hK HS;refine CH.done (by kernel_rfl) ?_ _;have TL:(U CC (Z m') B2).ownBlock≠V (N+3):=As FP FW (by decide);have Ha:Ac M W (w5.setCell ⟨N+3,0,Y⟩ (U CC (Z m') B2)):=by
    rw[Aa EM];exact((H.mono (by simp)).trans (HT.mono (λi B=>my _ B))).setCell (p:=⟨N+3,0,Y⟩) (Hd (mV ..)) _
   have X3:∀k∈M,N<=k:=by
    intro k n;rw[Aa EM]at n;rcases lI.1 n with rfl|n
    .omega
    .exact(HJ.lt k (by simpa using n)).1
   have JJ:∀{bb:Nat} {cs:QC Hs} {t:TypeId},AI W bb cs t->bb≠N+3->170≠t->bb∉M:=by
    intro bb cs t SP RT S0 I;rw[Aa EM]at I;rcases lI.1 I with rfl|I
    .exact RT rfl
    .exact As HJ SP S0 (by simpa using I)
   refine⟨Ha,(N+3)::(U CC (Z m') B2).ownBlock.toList,⟨P.kept.trans' Ha (λk n=>Hf (by have:=X3 k n;have:=Aa HN;omega)),P.b5.kept Ha (JJ P.b5 (by omega) (by decide)),P.b6.kept Ha (JJ P.b6 (by omega) (by decide)),P.b7.kept Ha (JJ P.b7 (by omega) (by decide)),m',CC,B2,FW.set 0 _,Ah FP TL _,RV,λy=>?_,by simp;omega,rfl⟩,λk n=>?_⟩
   .rw[VR y,Aa TK y];constructor
    .rintro (rfl|⟨q,o,L⟩)
     .exact⟨H7,by simp,by rw[Aa HV];exact HF,by rw[Aa HV];exact Os.symm⟩
     .exact⟨q,by simp[o],L⟩
    .rintro ⟨q,o,L⟩;rcases lV.1 o with o|o
     .exact Hf ⟨q,o,L⟩
     .simp only[lG]at o;subst o;rw[Aa HV]at L;exact Hd (L.2.trans Os)
   .have h6:=HT.size;have h4:=H.size;rcases lI.1 n with rfl|n
    .exact⟨Hd (by rw[Aa EM];exact mV ..),by have:=FW.lt;simp;omega⟩
    ·(have LL:(U CC (Z m') B2).ownBlock=V k:=by simpa using n);refine⟨?_,by have:=(FP.lt k LL).2;simp;omega⟩;rcases X2 k LL with h|h
     .exact Hd (by rw[Aa EM];exact my _ (by rw[h];simp))
     .exact Hf (by have h2:w4.heap.size<=k:=h;omega)
 case done=>
  intro D M' W hD B hd _;obtain⟨m,AB,AH,h9,HR,HL,HO,Nd,IS⟩:=B.out;have c9:=h9.cell 0;simp at c9;refine AR _ _ ?_;clear AR;simp only[mR];refine Q0 (λK3 FA=>?_);go_wp2;refine FA _ _ ?_;clear FA K3;refine wp_ret ?_;rw[<-Aa VL];have FP:OwnFrom w.heap.size (fun(_:Unit) W=>Mi W N 170 1 (U AB (Z m) AH) (Z m) (m.flatMap Ag)/\Ac [] w W):=BQ (λ_ W W' M h k hM=>⟨Ai h.1 k (Cs hM h.1),EA h.2 k hM (lX _)⟩);have M6:DD w.heap.size [D] W:=⟨by simp,λd HE=>by simp only[lG]at HE;have:=KA.kept.size;omega,λd HE=>by simp only[lG]at HE;rw[HE];exact hd⟩;refine DC [D] W M6 (λG hs=>?_);obtain⟨g1,g2⟩:=hs.own FP (s:=()) M6 ⟨HR,B.kept⟩;refine⟨_,results_tmp rfl _ _ _,AB,AH,m,rfl,HL,HO,mM Nd (nr _ _),?_,g2⟩;rw[Aa HN];exact g1
 case stop=>
  intro D c MY M' W _ h _;exact h.elim
structure Dr(e:QC bC):Prop where
 len:Z e=26
 each:∀x∈e,SA x
def Dr.start:Dr Bj:=⟨by simp[Bj],λx a=>Hd (by rw[(List.mem_replicate.1 a).2];rfl)⟩
def Dr.set{e:QC bC}(h:Dr e)(j:Nat){x:bC}(c:A6 x):Dr (e.set j x):=⟨by simp[h.len],λy b=>by
 rcases List.mem_or_eq_of_mem_set b with a|rfl
 .exact h.each y a
 .exact Hf c⟩
def Is(h:Dr e):Z (Bq e)=26:=by unfold Bq;rw[lR,h.len]
def RJ(h:A6 s):D4 s=AD s:=by
 have a:=h.size;unfold D4 AD;rw[lO a];cases hn:I7 s with
 |false=>simp
 |true=>
  simp only[if_true];rcases h with⟨c,r,e,b,_⟩|h
  .unfold I7 at hn;rw[e,Fo]at hn;have:=of_decide_eq_true hn;omega
  .rw[lS h]
def Iu{t:AF}(h:Dw t)(e:QC bC):BJ (Bq e) (ct t)=WD (AL e t):=by
 have f:(ct t).v.toNat=t.v.toNat:=by unfold ct;simp
 unfold BJ gd;rw[f];rcases h with⟨a,c⟩|⟨b,g,_⟩
 .rw[a,lS (show(0:UInt8).toNat=0 from rfl)]
  unfold AL;rw[lS a,CM c];exact RJ c
 .have a:t.v≠0:=λd=>by rw[d]at b;exact absurd b (by decide)
  rw[lO (by omega),<-ED];unfold QZ;rw[lO a]
def Dr.val(b:Dr e){t:AF}(h:Dw t):SA (AL e t):=by
 unfold AL;split
 .rename_i d;rcases h with⟨_,c⟩|⟨a,_⟩
  .exact Hf c
  .rw[d]at a;exact absurd a (by decide)
 .rw[lT];cases hg:e[t.v.toNat-65]? with
  |none=>exact Hd rfl
  |some x=>exact b.each x (List.mem_of_getElem? hg)
def V9(f:Dr e){b:QC AF}(h:∀t∈b,Dw t):GT (Bq e) (b.map ct)=Dh e b:=by
 rw[<-Nt b (λt a=>f.val (h t a))];unfold GT RQ;rw[List.all_map,m9,m3,m3];have d:∀t∈b,((λt=> !UJ (BJ (Bq e) t))∘ct) t= !UJ (QZ (Bq e) t):=λt a=>by
  simp only[Function.comp];rw[Iu (h t a),ED]
 exact⟨λc t a=>by rw[<-d t a];exact c t a,λc t a=>by rw[d t a];exact c t a⟩
def QA(x:Bp):AU (LQ x)=(Bo x).map ct:=by
 unfold AU Bo;rw[Iw];split<;>simp[LQ]
def Dk.dP{x:Bp}(h:Dk x):∀t∈Bo x,Dw t:=by
 intro t a;unfold Dk at h;unfold Bo at a;split at h
 .rename_i b;rw[lS b]at a;exact h.args t a
 .rename_i b;rw[lO b]at a;rcases lI.1 a with rfl|a
  .exact h.1
  .rw[lG]at a;subst a;exact h.2.1
def SM(d:Dr e){a:QC AF}(h:∀t∈a,Dw t)(f:Dh e a=Cm):∀t∈a,A6 (AL e t):=by
 intro t c;rcases d.val (h t c)with h1|h1
 .have b:=m3.1 f t c;rw[(Ed _).2 h1]at b;cases b
 .exact h1
def XH{x:Bp}(h:∀t∈x.A.args,Dw t)(b:∀t∈x.A.args,A6 (AL e t)):Fu (Bq e) (LQ x)=BX (Aq e x.A):=by
 unfold Fu BX Aq LQ;simp only;rw[mJ,mJ]
 congr 1
 refine mI (λt a=>?_);simp only[Function.comp];rw[Iu (h t a),CM (b t a)]
def GJ{A:C8}(a:∀t∈A.args,A6 (AL e t)):AJ (Aq e A):=by
 intro y b;obtain⟨t,c,rfl⟩:=lP.1 b;exact a t c
def Yz{u:QC Fh}{x:Bp}(v:Dp u f)(F:Dr e)(E:Dk x)(D:Dh e (Bo x)=Cm)(h:Kz u (Bq e) (LQ x) B):B=Ce (Aq e) (AL e) f x:=by
 have c:=E.dP;have b:=SM F c D;have G:(LQ x).sort=Gb x.kind:=rfl;unfold Kz at h;unfold Ce;rw[G]at h;by_cases g:x.kind=97
 .have a:Gb x.kind=0:=by rw[g];rfl
  have d:Bo x=x.A.args:=by unfold Bo;rw[g];rfl
  rw[d]at c b;rw[lS a,XH c b]at h;rw[lS (by rw[g];rfl)];obtain⟨p,n,rfl⟩:=h;exact v.zW (GJ b) n
 .have t:¬(x.kind==97)=Cm:=by simpa using g
  rw[lO t];by_cases i:x.kind=33
  ·(have a:Gb x.kind=1:=by rw[i];rfl);(have d:Bo x=x.A.args:=by unfold Bo;rw[i];rfl);rw[d]at c b;rw[a,lO (by decide),lS rfl,XH c b]at h;rw[lS (by rw[i];rfl)];obtain⟨p,n,rfl⟩:=h;rw[v.zW (GJ b) n]
  ·(have q:¬(x.kind==33)=Cm:=by simpa using i);(have d:Bo x=[x.L,x.R]:=by unfold Bo;rw[lO (by rw[ni,not_or];exact⟨t,q⟩)]);rw[d]at c b;have m:=b x.L (by simp);have o:=b x.R (by simp);have w:BJ (Bq e) (LQ x).l=QZ (Bq e) x.L:=(Iu (c x.L (by simp)) e).trans (ED e x.L).symm;have z:BJ (Bq e) (LQ x).r=QZ (Bq e) x.R:=(Iu (c x.R (by simp)) e).trans (ED e x.R).symm;rw[w,z]at h;rw[lO q];by_cases j:x.kind=61
   ·(have a:Gb x.kind=2:=by rw[j];rfl);rw[a,lO (by decide),lO (by decide),lS rfl,Xf m o]at h;rw[lS (by rw[j];rfl)];exact h
   ·(have C:¬(x.kind==61)=Cm:=by simpa using j);rw[lO C];by_cases k:x.kind=35
    ·(have a:Gb x.kind=3:=by rw[k];rfl);rw[a,lO (by decide),lO (by decide),lO (by decide),lS rfl,Xf m o]at h;rw[lS (by rw[k];rfl)];exact h
    ·(have y:¬(x.kind==35)=Cm:=by simpa using k);(have a:Gb x.kind=4:=by unfold Gb;rw[lO g,lO i,lO j,lO k]);rw[a,lO (by decide),lO (by decide),lO (by decide),lO (by decide),dV m o]at h;rw[lO y];exact h
def XI{d:QC Fh}{s:QC Af}{e:QC bC}(f:Dp d s)(c:Dr e):∀(a:QC Bp),(∀x∈a,Dk x)->∀B,FV d (Bq e) (a.map LQ) B->B=DU a s e
 |[],_,B,h=>h
 |x::a,hb,B,h=>by
  have ih:=XI f c a (λy j=>hb y (by simp[j]));have g:=hb x (by simp);rw[l9,FV,QA,V9 c g.dP]at h;have i:DU (x::a) s e=((Dh e (Bo x)&& !Ce (Aq e) (AL e) s x)||DU a s e):=by
   unfold DU;rw[oF]
  rw[i];cases hset:Dh e (Bo x)with
  |false=>
   rw[hset,lO (by simp)]at h;rw[oH,oe];exact ih B h
  |true=>
   rw[hset,lS rfl]at h;obtain⟨H,k,b⟩:=h;have l:=Yz f c g hset k;rw[<-l,np];cases H with
   |true=>
    rw[lS rfl]at b;rw[oh,oe];exact ih B b
   |false=>
    rw[lO (by simp)]at b;rw[b];rfl
def XA(g:Dr e):∀(a:QC AF) (b:QC bC),(∀t∈a,Dw t)->(∀x∈b,A6 x)->Ik (Bq e) (a.map ct) (b.map AD)=Rt e a b:=by
 intro a b c f;rw[<-Uu a b (λt h=>g.val (c t h)) f];clear f;generalize b.map AD=ys
 induction a generalizing ys with
 |nil=>cases ys<;>simp[Ik,SV]
 |cons t a ih=>
  cases ys with
  |nil=>simp[Ik,SV]
  |cons y ys=>
   have d:=ih (λu i=>c u (by simp[i])) ys;unfold SV at d⊢;rw[l9,Ik,d,pL,oS,Iu (c t (by simp)),ED]
def kJ(s:QC Af)(A:C8)(i:Nat)(e:QC bC)(m:QC bC):Prop:=∀y,y∈m↔∃t∈GS s A i e,y=AD t
def bL{o:QC Fh}{s:QC Af}{A:C8}{m:QC bC}(c:Dp o s)(u:Dr e)(x:∀t∈A.args,Dw t)(w:∀f∈s,f.name=A.name->i<Z f.args)(h:YV (Bq e) (A.args.map ct) i (o.filter (P9 A.name)) m):kJ s A i e m:=by
 intro y;rw[h y];unfold GS;constructor
 .rintro ⟨q,l,b,rfl⟩;obtain⟨z,p⟩:=mh.1 l;have j:q.f∈s.map BX:=by rw[<-c.same];exact lZ z
  obtain⟨g,a,r⟩:=lP.1 j;have v:g.name.toList==A.name.toList:=by
   (have B:q.f.name=g.name:=by rw[<-r];rfl);unfold P9 at p;rw[B]at p;exact p
  have k:=w g a (toList_inj (by simpa using v));rw[<-r]at b⊢;unfold BX at b⊢;simp only at b⊢;rw[XA u _ _ x (c.canon g a)]at b;refine⟨g.args.getD i ND,lP.2 ⟨g,mh.2 ⟨a,by rw[v,b];rfl⟩,rfl⟩,?_⟩;rw[lT,lT,m6,lN k];rfl
 .rintro ⟨t,C,rfl⟩;obtain⟨g,a,rfl⟩:=lP.1 C;obtain⟨a,d⟩:=mh.1 a;rw[mi]at d;have k:=w g a (toList_inj (by simpa using d.1));have j:BX g∈o.map Fh.f:=by rw[c.same];exact lZ a
  obtain⟨q,l,n⟩:=lP.1 j;refine⟨q,mh.2 ⟨l,?_⟩,?_,?_⟩
  .unfold P9;rw[n];exact d.1
  .rw[n];unfold BX;simp only;rw[XA u _ _ x (c.canon g a)];exact d.2
  .rw[n];unfold BX;simp only;rw[lT,lT,m6,lN k];rfl
def ke(a b:bC):Prop:=FY (AD a) (AD b)=Cm
def XG(x:bC):QC bC->QC bC
 |[]=>[x]
 |y::l=>if FY (AD x) (AD y)then x::y::l else if x.toList==y.toList then y::l else y::XG x l
def iH(e:A6 s)(f:A6 t)(d:FY (AD s) (AD t)=K)(c:FY (AD t) (AD s)=K):s=t:=by
 refine Gr e f ?_;cases he:i6 (AD s) (AD t)with
 |true=>exact(Gh.eqv _ _).1 he
 |false=>rw[Gh.tot _ _ d he]at c;cases c
def R0(x:bC):∀(l:QC bC) (y:bC),y∈XG x l↔y=x\/y∈l
 |[],y=>by simp[XG]
 |z::l,y=>by
  rw[XG];split
  .simp
  .split
   .rename_i a;have e:x=z:=toList_inj (by simpa using a);rw[e];simp
   .rw[lI,R0 x l,lI];constructor<;>(rintro (h|h|h)<;>simp[h])
def T8{x:bC}(d:A6 x):∀(l:QC bC),(∀y∈l,A6 y)->l.Pairwise ke->(XG x l).Pairwise ke
 |[],_,_=>by simp[XG]
 |z::l,hc,hp=>by
  obtain⟨c,f⟩:=nA.1 hp;rw[XG];split
  .rename_i b;refine nA.2 ⟨λy a=>?_,hp⟩;rcases lI.1 a with rfl|a
   .exact b
   .exact Gh.trans _ _ _ b (c y a)
  .rename_i g;split
   .exact hp
   .rename_i e;refine nA.2 ⟨λy a=>?_,T8 d l (λy a=>hc y (by simp[a])) f⟩;rcases(R0 x l y).1 a with rfl|a
    .cases hg:FY (AD z) (AD y)with
     |true=>exact hg
     |false=>exact absurd (by rw[iH d (hc z (by simp)) (by simpa using g) hg];simp) e
    .exact c y a
def Kq(body:QC Bp)(s:QC Af)(v:UInt8)(e:QC bC)(t:bC):Prop:=Dc body s v e≠[]/\∀l∈Dc body s v e,t∈l
def kV(body:QC Bp)(s:QC Af)(v:UInt8)(e:QC bC):QC bC:=match Dc body s v e with
 |[]=>[]
 |l::ls=>l.filter λt=>ls.all λm=>m.any λx=>x.toList==t.toList
def Jd(body:QC Bp)(s:QC Af)(v:UInt8)(e:QC bC):QC bC:=(kV body s v e).foldr XG []
def Rw:∀(l:QC bC) (y:bC),y∈l.foldr XG []↔y∈l
 |[],y=>Iff.rfl
 |x::l,y=>by rw[List.foldr_cons,R0,Rw l,lI]
def TZ:∀(l:QC bC),(∀y∈l,A6 y)->(l.foldr XG []).Pairwise ke
 |[],_=>List.Pairwise.nil
 |x::l,h=>T8 (h x (by simp)) _ (λy a=>h y (by simp[(Rw l y).1 a])) (TZ l λy a=>h y (by simp[a]))
def ZQ(c:QC Bp)(s:QC Af)(v:UInt8)(e:QC bC)(t:bC):t∈kV c s v e↔Kq c s v e t:=by
 unfold kV Kq;cases Dc c s v e with
 |nil=>simp
 |cons l ls=>
  rw[mh,m3];have a:∀m:QC bC,(m.any λx=>x.toList==t.toList)=Cm↔t∈m:=λm=>by
   rw[mZ];constructor
   .rintro ⟨x,f,e⟩;rw[<-toList_inj (by simpa using e:x.toList=t.toList)];exact f
   .exact λh=>⟨t,h,by simp⟩
  simp only[a];constructor
  .rintro ⟨d,b⟩;refine⟨by simp,λm a=>?_⟩;rcases lI.1 a with rfl|a
   .exact d
   .exact b m a
  .rintro ⟨_,b⟩;exact⟨b l (by simp),λm a=>b m (by simp[a])⟩
def Fr(a:QC Bp)(s:QC Af):P1 (Jd a s) a s:=λv e t=>(Rw _ t).trans (ZQ a s v e t)
def NO{a:QC Bp}(h:∀t,Kq a f g e t->A6 t):(Jd a f g e).Pairwise ke:=TZ _ λt b=>h t ((ZQ a f g e t).1 b)
def E1(fs:QC Fh)(b:QC bC)(v:Int):QC PL->QC (QC bC)->Prop
 |[],r=>r=[]
 |x::l,r=>if x.sort=0 then∃n,SZ x.ts ⟨v,ND⟩ n/\(if n<0 then E1 fs b v l r else∃m r',r=m::r'/\YV b x.ts n.toNat (fs.filter (P9 x.an)) m/\E1 fs b v l r')else E1 fs b v l r
def jl{a:QC AF}(h:∀t∈a,Dw t)(f:EH g)(z:SZ (a.map ct) ⟨(g.toNat:Int),ND⟩ I):(I<0/\a.findIdx? (λt=>t.v==g)=Y)\/(0<=I/\a.findIdx? (λt=>t.v==g)=V I.toNat):=by
 have c:∀t∈a,JB ⟨(g.toNat:Int),ND⟩ (ct t)=(t.v==g):=by
  intro t b;unfold JB;have r:((g.toNat:Int)==(ct t).v)=(t.v==g):=by
   rw[<-iV t g,m9];simp only[nu];exact⟨λh=>h.symm,λh=>h.symm⟩
  simp only[r];cases hb:(t.v==g)with
  |false=>rfl
  |true=>
   (have p:t.v=g:=by simpa using hb);rcases h t b with⟨l,_⟩|⟨_,_,x⟩
   .rw[p]at l;rw[l]at f;exact absurd f.1 (by decide)
   .have y:(ct t).s=ND:=by
     unfold ct;simp only;rw[x];rfl
    rw[y,np];simp
 rcases z with⟨rfl,o⟩|⟨k,q,rfl,d,w⟩
 .left;refine⟨by decide,List.findIdx?_eq_none_iff.2 (λt b=>?_)⟩;rw[<-c t b];exact o _ (lZ b)
 .right;have e:k<Z a:=by simpa using q
  refine⟨by omega,?_⟩;rw[show((k:Nat):Int).toNat=k by omega];refine nT.2 ⟨e,?_,λj u=>?_⟩
  .rw[<-c _ (lE e)];rw[List.getElem_map]at d;exact d
  ·(have m:j<Z a:=by omega);have i:=w j (by simpa using m) u;rw[List.getElem_map,c _ (lE m)]at i;simpa using i
def ZN(s:QC Af)(body:QC Bp):Prop:=∀f∈s,∀x∈body,(x.kind==97)=Cm->f.name=x.A.name->Z f.args=Z x.A.args
def aN{F:QC Fh}{s:QC Af}{e:QC bC}(u:Dp F s)(G:Dr e){v:UInt8}(H:EH v):∀(a:QC Bp),(∀x∈a,Dk x)->ZN s a->∀r,E1 F (Bq e) (v.toNat:Int) (a.map LQ) r->F2 (λm l=>∀y,y∈m↔∃t∈l,y=AD t) r (Dc a s v e)/\∀l∈Dc a s v e,∀t∈l,A6 t
 |[],_,_,r,h=>by
  have h:r=[]:=h;subst h;exact⟨F2.nil,λl d=>by simp[Dc]at d⟩
 |x::a,hb,hf,r,h=>by
  have ih:=aN u G H a (λy q=>hb y (by simp[q])) (λf T y q=>hf f T y (by simp[q]));have hx:=hb x (by simp);rw[l9,E1]at h;have AO:(LQ x).sort=Gb x.kind:=rfl;rw[AO]at h;have e1:Dc (x::a) s v e=match(if x.kind==97 then(x.A.args.findIdx? λt=>t.v==v).map λi=>GS s x.A i e else Y)with|some c=>c::Dc a s v e|none=>Dc a s v e:=by
   unfold Dc;rw[pC];generalize(if(x.kind==97)=Cm then(x.A.args.findIdx? λt=>t.v==v).map λi=>GS s x.A i e else Y)=o;cases o<;>rfl
  rw[e1];by_cases b:(x.kind==97)=Cm
  ·(have p:x.kind=97:=by simpa using b);(have k:Gb x.kind=0:=by rw[p];rfl);have E:∀t∈x.A.args,Dw t:=by
    have:=hx.dP;unfold Bo at this;rw[b,oR,lS rfl]at this;exact this
   rw[lS k]at h;obtain⟨n,w,h⟩:=h;rw[lS b];rcases jl E H w with⟨AR,S⟩|⟨AT,z⟩
   .rw[lS AR]at h;rw[S];exact ih r h
   .rw[lO (by omega)]at h;obtain⟨m,N,rfl,R,P⟩:=h;rw[z];simp only[nF];obtain⟨i1,Q⟩:=ih N P;obtain⟨M,_,_⟩:=nT.1 z;have C:∀f∈s,f.name=x.A.name->n.toNat<Z f.args:=λf L w=>by
     rw[hf f L x (by simp) b w];exact M
    refine⟨F2.cons (bL u G E C R) i1,λl d=>?_⟩;rcases lI.1 d with rfl|d
    .intro t B;unfold GS at B;obtain⟨g,j,rfl⟩:=lP.1 B;obtain⟨j,D⟩:=mh.1 j;rw[mi]at D;have I:=C g j (toList_inj (by simpa using D.1));rw[lT,lN I];exact u.canon g j _ (lE I)
    .exact Q l d
  ·(have p:x.kind≠97:=by simpa using b);have k:Gb x.kind≠0:=by
    intro W;have:=SW x.kind;rw[W]at this;exact p (by simpa using this)
   rw[lO k]at h;rw[lO b];exact ih r h
def ez{r a:QC (QC bC)}(h:F2 (λm l=>∀y,y∈m↔∃t∈l,y=AD t) r a)(i:∀l∈a,∀t∈l,A6 t)(y:bC):(r≠[]/\Kw r y)↔∃t,(a≠[]/\∀l∈a,t∈l)/\y=AD t:=by
 cases r with
 |nil=>
  cases a with
  |nil=>simp
  |cons l a=>exact absurd h (by simp[F2])
 |cons m r=>
  cases a with
  |nil=>exact absurd h (by simp[F2])
  |cons l a=>
   have j:=h.mem;have p:=h.zn;constructor
   .rintro ⟨_,c⟩;obtain⟨t,n,f⟩:=(h.1 y).1 (c m (by simp));refine⟨t,⟨by simp,λk b=>?_⟩,f⟩;obtain⟨q,d,e⟩:=j k b;obtain⟨u,g,o⟩:=(e y).1 (c q d);have:u=t:=Gr (i k b u g) (i l (by simp) t n) (by rw[<-o,f]);rw[<-this];exact g
   .rintro ⟨t,⟨_,c⟩,rfl⟩;refine⟨by simp,λq d=>?_⟩;obtain⟨k,b,e⟩:=p q d;exact(e _).2 ⟨t,c k b,rfl⟩
def YQ{p:QC Fh}(E:Dp p f)(A:Dr e)(B:EH g){d:QC Bp}(D:∀x∈d,Dk x)(r:ZN f d){i:QC Xk}(q:E1 p (Bq e) (g.toNat:Int) (d.map LQ) (i.map O0)){m:QC bC}(k:Kx i m):m=(Jd d f g e).map AD/\∀t∈Jd d f g e,A6 t:=by
 obtain⟨C,o⟩:=aN E A B d D r _ q;have n:∀t,Kq d f g e t->A6 t:=by
  rintro t ⟨z,u⟩;cases hl:Dc d f g e with
  |nil=>exact absurd hl z
  |cons l ls=>exact o l (by rw[hl];simp) t (u l (by rw[hl];simp))
 refine⟨?_,λt j=>n t ((Fr d f g e t).1 j)⟩;refine Ih (lt:=λa b=>FY a b=Cm) (λa h=>by rw[Gh.irr]at h;cases h) (λa b c=>Gh.trans a b c) _ _ k.cE ?_ (λy=>?_)
 .rw[nQ];exact NO n
 .rw[k.mem y];have w:(i≠[]/\Kw (i.map O0) y)↔(i.map O0≠[]/\Kw (i.map O0) y):=by
   rw[ne_eq,ne_eq,List.map_eq_nil_iff]
  rw[w,ez C o,lP];constructor
  .rintro ⟨t,j,rfl⟩;exact⟨t,(Fr d f g e t).2 j,rfl⟩
  .rintro ⟨t,j,rfl⟩;exact⟨t,(Fr d f g e t).1 j,rfl⟩
def Mg{c:UInt8->QC bC->QC bC}{o:QC Bp}{s:QC Af}(j:∀v e,(c v e).Nodup)(d:∀v e,∀t∈c v e,t.size≠0):
  ∀(a:QC UInt8) (e:QC bC),Z e=26->a.Nodup->(∀v∈a,EH v)->(Av c o s a e).Nodup
 |[],e,_,_,_=>by
  rw[Av];split<;>simp
 |v::a,e,he,hd,hv=>by
  rw[Av];obtain⟨g,k⟩:=nL.1 hd;have f:=hv v (by simp);have b:∀u∈a,EH u:=λu p=>hv u (by simp[p])
  split
  .simp
  .unfold List.Nodup;rw[List.pairwise_flatMap];refine⟨λt _=>Mg j d a _ (by simp[he]) k b,?_⟩;refine List.Pairwise.imp ?_ (j v e);intro t u m x q y n l;subst l;have i:=(BV d a _ x (by simp[he]) b q).2.2.1 v f g;have h:=(BV d a _ x (by simp[he]) b n).2.2.1 v f g;rw[Lm he f]at i h;exact m (by rw[<-i,h])
def ik{a b:QC bC}(g:Z a=26)(j:Z b=26)(h:∀u,EH u->Nc a u=Nc b u):a=b:=by
 refine List.ext_getElem (by omega) (λi f e=>?_);have c:(UInt8.ofNat (i+65)).toNat=i+65:=by
  rw[UInt8.toNat_ofNat'];omega
 have d:=h (UInt8.ofNat (i+65)) ⟨by rw[c];omega,by rw[c];omega⟩;unfold Nc at d;rw[c,Nat.add_sub_cancel,lT,lT,lN f,lN e]at d;exact d
def bj{j:UInt8->QC bC->QC bC}{c:A7}{d p:QC UInt8}(C:∀v e,(j v e).Nodup)(l:∀v e,∀t∈j v e,t.size≠0)(A:SS c d p)(r:d.Nodup)(B:∀v∈d,∃t∈c.head.args,t.v=v):(Ss j c d p f).Nodup:=by
 have i:∀v∈d,EH v:=λv h=>(A.ok v (Hd h)).1
 unfold Ss List.Nodup;rw[nQ];refine nG ?_ ((Mg C l d Bj rfl r i).filter _);intro a b E y w D;have m:=BV l d Bj a rfl i (mh.1 E).1;have q:=BV l d Bj b rfl i (mh.1 y).1;refine w (ik m.1 q.1 (λu g=>?_));by_cases k:u∈d
 .obtain⟨t,x,rfl⟩:=B u k;have o:t.v≠0:=λh=>by rw[h]at g;exact absurd g.1 (by decide)
  have z:c.head.args.map (AL a)=c.head.args.map (AL b):=congrArg Af.args D;have n:=List.map_inj_left.1 z t x;rw[EU o,EU o]at n;exact n
 .rw[m.2.2.1 u g k,q.2.2.1 u g k]
def Xp:∀(l:QC Af) (s:QC Af),D1 s->(∀f∈s,AJ f)->l.Nodup->(∀f∈l,f∉s/\AJ f)->Z (l.foldl Bb s)=Z s+Z l
 |[],s,_,_,_,_=>by simp
 |f::l,s,hr,hc,hn,h=>by
  obtain⟨n,k⟩:=nL.1 hn;obtain⟨j,e⟩:=h f (by simp);obtain⟨a,b,m⟩:=C5 e hr hc;rw[mr,Xp l (Bb s f) a b k (λg c=>⟨λi=>?_,(h g (by simp[c])).2⟩),(Ls s f).2 j,lQ]
  .omega
  .rcases(m g).1 i with d|d
   .exact(h g (by simp[c])).1 d
   .rw[d]at c;exact n c
def Jl{b:QC Bp}{s:QC Af}(q:∀f∈s,AJ f)(n:ZN s b):∀v e t,Kq b s v e t->A6 t:=by
 rintro v e t ⟨p,o⟩;cases hl:Dc b s v e with
 |nil=>exact absurd hl p
 |cons l ls=>
  have g:=o l (by rw[hl];simp);have k:l∈Dc b s v e:=by rw[hl];simp
  unfold Dc at k;obtain⟨x,u,a⟩:=nD.1 k;by_cases c:(x.kind==97)=Cm
  .rw[lS c,oO]at a;obtain⟨i,r,rfl⟩:=a;obtain⟨w,_,_⟩:=nT.1 r;unfold GS at g;obtain⟨f,m,rfl⟩:=lP.1 g;obtain⟨j,d⟩:=mh.1 m;rw[mi]at d;have y:=n f j x u c (toList_inj (by simpa using d.1));(have h:i<Z f.args:=by omega);rw[lT,lN h];exact q f j _ (lE h)
  .rw[lO c]at a;cases a
def TF{c:QC Bp}{s:QC Af}(g:∀f∈s,AJ f)(i:ZN s c)(v:UInt8)(e:QC bC):(Jd c s v e).Nodup:=by
 refine List.Pairwise.imp ?_ (NO (Jl g i v e));intro a b h d;subst d;unfold ke at h;rw[Gh.irr]at h;cases h
theorem Tryz.zm:(Tryz.prog.info? 102).map (λi=>(i.zero,i.size,i.bytes))=V (V (U Y 0 0),1,24):=by kernel_rfl
def TA{p:Xk}(h:Mi w 0 170 1 p.2 (Z p.1) (p.1.flatMap Ag))(b:Mi w m 102 1 z n y)(a:w.grownBy u z.ownBlock):Mi u 0 170 1 p.2 (Z p.1) (p.1.flatMap Ag):=
 m0 h a (by
  cases hp:p.2.ownBlock with
  |none=>exact Hd rfl
  |some q=>exact Hf (λe=>Bg h b (by decide) q hp e.symm))
theorem VU(sp kb ko:Nat)(KS:Option Addr)(HZ:Nat)(e:QC Lx)(ov:Hs)(MY:Option Addr)(K5:Nat)(d:QC Fh)(v:Int)(b:QC bC)(w:Hq)(hb:Z b=26)(hS:PS w sp kb ko (U KS (Z e) HZ) ov MY K5 d)(hB:Cd w 0 (U KS (Z e) HZ) e)(RB:Z d<=10000)(SK:Z e<=1000)(hl:∀p∈e,P7 p.1)(Ix:d.Pairwise λa b=>CQ a.f b.f<0)
  (LE:∀(JA:C9) i j (hi:i<Z d) (hj:j<Z d),i<=j->CQ d[j].f JA<0->CQ d[i].f JA<0)
  (hq:∀p∈e,p.1.sort=0->∀q∈d,P9 p.1.an q=Cm->Z p.1.ts<=Z q.f.bc):
  Calls prog 178 #[Gi (V ⟨sp,0,Y⟩),X .i32 v,Ms (D6 (Aj b))] w λr T=>∃(l:Option Addr) (s:Nat) (m:QC bC) (c:QC Xk),r=G3 (U l (Z m) s)/\Kx c m/\E1 d b v (e.map O0) (c.map O0)/\Mi T w.heap.size 170 1 (U l (Z m) s) (Z m) (m.flatMap Ag)/\Ac [] w T:=by
 obtain⟨i0,Pl,NM,P0,OB⟩:=mH Tryz.zm;have NL:=Ab hS;have K7:=Ab hB;have QR:JR (∀(x:PL) l s z,Ac [] w z->P7 x->KR w 0 (x,U l (Z x.ts) s)->Calls prog 206 #[U l (Z x.ts) s,Ms #[X .i32 v,O ⟨#[]⟩]] z λr T=>∃n,r=G3 (X J n)/\SZ x.ts ⟨v,ND⟩ n/\Ac [] z T):=λx l s z S hc hx=>cJ l s x.ts ⟨v,ND⟩ 0 z (hx.kept S) (by have:=hc.len;omega)
 have H3:JR (∀(x:PL) l s (u:Nat) z,Ac [] w z->P7 x->KR w 0 (x,U l (Z x.ts) s)->(∀q∈d,P9 x.an q=Cm->Z x.ts<=Z q.f.bc)->u<Z x.ts->Calls prog 207 #[Gi (V ⟨sp,0,Y⟩),Ms #[X J x.ap,O x.an,U l (Z x.ts) s],X J u,Ms (D6 (Aj b))] z λr T=>∃(l:Option Addr) (s:Nat) (m:QC bC),r=G3 (U l (Z m) s)/\Di FY m/\YV b x.ts u (d.filter (P9 x.an)) m/\Z m<=Z d/\Mi T z.heap.size 170 1 (U l (Z m) s) (Z m) (m.flatMap Ag)/\Ac [] z T):=
  λx l s u z S hc hx Mo L0=>XT sp kb ko _ ov MY K5 d x.ap x.an l s x.ts u b z hb (hS.kept S) (hx.kept S) hc.len hc.ts (by omega) Ix (LE _) (λq H7 LM=>⟨Mo q H7 LM,by have:=Mo q H7 LM;omega⟩)
 have N2:=Ab hl;have Nd:=Ab hq;have hc:=Bt b;have K6:Z (Aj b)=26:=by unfold Aj;simp[hb]
 have IA:=Ab K6;obtain⟨E,hE⟩:=QP (Aj b);rw[hE]at hc K6 IA H3⊢;have P:=Ab (Tc w E 243);have D:=Ab ((SF [] w).alloc (Dj (D6 E) 243));clear hE hS hB hl LE hq Ix;obtain⟨G,HI⟩:∃G:QC (QC bC)->Prop,G=E1 d b v (e.map O0):=⟨_,rfl⟩;have W:JR (∀R,E1 d b v ((e.drop 0).map O0) R->G (([]:QC Xk).map O0++R)):=λR h=>by rw[HI];exact h
 rw[<-HI];clear HI;obtain⟨F,HJ⟩:=QP w.heap.size;have FL:=Ab HJ;go_enter func178,ntmps178;apply wp_seq_k;intro KK MN;have HX:=Ab MN;clear MN;go_wp2;refine HX _ _ ?_;clear HX KK;generalize hw1:w.alloc (Dj (D6 E) 243)=w1 at P D⊢;clear hw1;rw[HJ]at P⊢;clear HJ;have s1:=(NL.kept D).dI.cell 1;simp at s1;go_wp2_with fail
 go_loopg [7,16] (Z e) (λgk o i wr=>∃(k:Nat) (c:QC Xk) (Ax:Option Addr) (Q:Nat),o=U Ax (Z c) Q/\i=X J k/\k<=Z e/\gk=Z e-k/\Z c<=k/\JR (∀R,E1 d b v ((e.drop k).map O0) R->G (c.map O0++R))/\JR (Mi wr F 102 1 (U Ax (Z c) Q) (Z c) (c.flatMap λp=>[p.2]))/\JR (∀p∈c,Mi wr 0 170 1 p.2 (Z p.1) (p.1.flatMap Ag)/\Di FY p.1/\Z p.1<=10000)/\JR (AI wr F E 243)/\JR (Ac [] w wr))
 case atStart=>exact⟨0,[],Y,0,rfl,rfl,by omega,rfl,by simp,W,mf _ _ _ _,(λp B=>by cases B),P,D⟩
 case round=>
  clear W P D s1;obtain⟨k,c,Ax,Q,rfl,rfl,S,MB,RT,W,HO,HE,P,D⟩:=hrel;have HG:=Ab MB;clear MB;by_cases FW:k<Z e
  .obtain⟨g,SL,x,I,N,he,FO,_,d0,d1,d2,d3,d4,d5,d6,d7,d8⟩:=Vt (K7.kept D) k FW;simp only[lB]at he;obtain⟨rfl,_,rfl⟩:=he;(have FA:(x,U I (Z x.ts) N)∈e:=by rw[<-FO];exact lE FW);have HD:=Aa N2 _ FA;have HA:KR w 0 (x,U I (Z x.ts) N):=(K7.each _ FA).1;(have H5:x.sort=0->∀q∈d,P9 x.an q=Cm->Z x.ts<=Z q.f.bc:=λh=>Nd _ FA h);have BT:JR (∀R,(if x.sort=0 then∃n,SZ x.ts ⟨v,ND⟩ n/\(if n<0 then E1 d b v ((e.drop (k+1)).map O0) R else∃m r',R=m::r'/\YV b x.ts n.toNat (d.filter (P9 x.an)) m/\E1 d b v ((e.drop (k+1)).map O0) r')else E1 d b v ((e.drop (k+1)).map O0) R)->G (c.map O0++R)):=by
    intro R h;refine W R ?_;rw[lY FW,l9,FO];exact h
   have CL:=Ab (D.alloc (Dj (D6 (Ay (x,U I (Z x.ts) N))) 217));have EM:=Ab (lM HO (Dj (D6 (Ay (x,U I (Z x.ts) N))) 217));(have BA:JR (∀p∈c,Mi (wr.alloc (Dj (D6 (Ay (x,U I (Z x.ts) N))) 217)) 0 170 1 p.2 (Z p.1) (p.1.flatMap Ag)/\Di FY p.1/\Z p.1<=10000):=λp B=>⟨lM (HE p B).1 _,(HE p B).2⟩);have FF:=Ab (P.alloc (Dj (D6 (Ay (x,U I (Z x.ts) N))) 217));have HH:=Ab (Tc wr (Ay (x,U I (Z x.ts) N)) 217);have EY:=Ab (QR x I N _ CL HD HA);have B2:=Ab (λu z S hq=>H3 x I N u z S HD HA hq);have ES:=Ab H5;(have SB:F<=wr.heap.size:=by have:=D.size;have:=Aa FL;omega);obtain⟨pl,so,ap,an,ts,⟨lv,RG⟩,⟨rv,SP⟩⟩:=x;simp only[Ay]at CL EM BA FF HH EY B2 BT ES d0 d1 d2 d3 d4 d5 d6 d7 d8;clear FO FA HD HA H5 W HO HE P D;by_cases M:so=0
   ·(have N4:(so !=0)=K:=by simp[M]);(have Nx:(so==0)=Cm:=by simp[M]);have PT:=Ab (ES M);(have A0:JR (∀R,(∃n,SZ ts ⟨v,ND⟩ n/\(if n<0 then E1 d b v ((e.drop (k+1)).map O0) R else∃m r',R=m::r'/\YV b ts n.toNat (d.filter (P9 an)) m/\E1 d b v ((e.drop (k+1)).map O0) r'))->G (c.map O0++R)):=λR h=>BT R (by rw[lS M];exact h));clear BT ES M;(go_wp2_with fail);refine EY.mono ?_;rintro _ w3 ⟨n,rfl,LS,L⟩;have HC:=Ab LS;have A1:=Ab (CL.trans L);have FB:=Ab (FF.kept L);have AB:=HH.kept L;have HQ:=Ab (Ad EM L);(have FC:JR (∀p∈c,Mi w3 0 170 1 p.2 (Z p.1) (p.1.flatMap Ag)/\Di FY p.1/\Z p.1<=10000):=λp B=>⟨Ad (BA p B).1 L,(BA p B).2⟩);clear LS EY CL FF EM BA L d0 d1 d2 d3 d4 d5 d6 d7 d8 HH;by_cases hn:n<0
    ·(have NY:¬(0:Int)<=n:=by omega);(have AH:JR (∀R,E1 d b v ((e.drop (k+1)).map O0) R->G (c.map O0++R)):=λR h=>A0 R ⟨n,HC,by rw[lS hn];exact h⟩);clear A0 hn B2 AB;go_wp2
     go_roundg (Z e-(k+1))
     case measure=>have:=Aa HG;omega
     case rel=>exact⟨k+1,c,Ax,Q,rfl,by go_num,by omega,rfl,by omega,AH,HQ,FC,FB,A1⟩
    ·(have NY:(0:Int)<=n:=by omega);obtain⟨u,rfl⟩:∃u:Nat,n=(u:Int):=⟨n.toNat,by omega⟩;have L0:u<Z ts:=by
      rcases HC with⟨h,_⟩|⟨j,hj,h,_⟩
      .omega
      .omega
     have H8:=Ab (B2 u w3 A1 PT L0);have e0:=AB.cell 0;have e1:=AB.cell 1;have e2:=AB.cell 2;have e3:=AB.cell 3;have e4:=AB.cell 4;simp at e0 e1 e2 e3 e4;clear AB B2 hn;go_wp2_with ((with_reducible show wpList _ _ _ ({dst:=_,op:=Op.load 243 _,type:=_,pos:=_,after:=_,guard:=_}::_) _ _);refine BW (by rfl) 243 _ rfl F 0 (by rfl) E _ FB.range underlying243 rfl (by rw[Aa IA];exact Tryz.bi) ?_)
     refine H8.mono ?_;rintro _ w4 ⟨C,A,m,rfl,LB,KD,H,DT,k4⟩;have HP:=Ab (A1.trans k4);have HM:=Ab (FB.kept k4);have AR:=Ad HQ k4;(have HL:JR (∀p∈c,Mi w4 0 170 1 p.2 (Z p.1) (p.1.flatMap Ag)/\Di FY p.1/\Z p.1<=10000):=λp B=>⟨Ad (FC p B).1 k4,(FC p B).2⟩);have BS:JR (Mi w4 0 170 1 (U C (Z m) A) (Z m) (m.flatMap Ag)):=Al DT (lW _);have OH:JR (Di FY m/\Z m<=10000):=⟨LB,by omega⟩;have AH:JR (∀R,E1 d b v ((e.drop (k+1)).map O0) R->G ((c++[(m,U C (Z m) A)]).map O0++R)):=by
      intro R h;have h2:=Aa A0 (m::R) ⟨u,HC,by rw[lO (by omega)];exact⟨m,R,rfl,by rw[show((u:Nat):Int).toNat=u by omega];exact KD,h⟩⟩;rw[mx,mO];exact h2
     (have RV:F<=w4.heap.size:=by have:=HP.size;have:=Aa FL;omega);clear H8 A1 FB HQ FC k4 LB KD H DT A0 e0 e1 e2 e3 e4;obtain⟨y,H⟩:=QP (Z m);have Ha:=Ab H;rw[H]at AH BS⊢;clear H;go_wp2_with (at_builtin;refine me _ rfl (.tmp 31) (.tmp 38) _ rfl F 102 i0 _ 1 24 underlying303 Pl NM P0 OB rfl (by omega) (U Ax (Z c) Q) (Z c) (c.flatMap λp=>[p.2]) rfl (lM AR _) ⟨w4.heap.size,0,Y⟩ 1 1 [U C y A] rfl rfl (mg (mo w4 _)) (by simp[Value.oneCell']) (by omega) (by unfold maxLen;omega) (by omega) (by simp;omega) (w4.heap.size+1) (by simp) ?_;intro g1 IJ w9 K3 B0 M6 NA)
     have Nj:JR (Mi w9 F 102 1 (U (V ⟨g1,0,Y⟩) (Z (c++[(m,U C y A)])) IJ) (Z (c++[(m,U C y A)])) ((c++[(m,U C y A)]).flatMap λp=>[p.2])):=by
      rw[mm];simp only[lU,lQ,mn,mC,mc,mS,mz];exact K3
     have NB:JR (∀p∈c++[(m,U C y A)],Mi w9 0 170 1 p.2 (Z p.1) (p.1.flatMap Ag)/\Di FY p.1/\Z p.1<=10000):=by
      intro p B;rcases lV.1 B with h|h
      .exact⟨TA (lM (HL p h).1 _) (lM AR _) B0,(HL p h).2⟩
      .simp only[lG]at h;subst h;exact⟨TA (p:=(m,U C y A)) (lM (by rw[Aa Ha];exact BS) _) (lM AR _) B0,OH⟩
     have Os:=Ab ((HP.alloc (Dj #[U C y A] 102)).grown B0 (λq hq=>Hf (by have:=(AR.lt q hq).1;have:=Aa FL;omega)));have NS:JR (AI w9 F E 243):=(HM.alloc (Dj #[U C y A] 102)).grown B0 (As AR HM (by decide));clear K3 B0 M6 NA AR HL HP HM BS
     go_roundg (Z e-(k+1))
     case measure=>have:=Aa HG;omega
     case rel=>exact⟨k+1,c++[(m,U C y A)],V ⟨g1,0,Y⟩,IJ,by simp,by go_num,by omega,rfl,by simp;omega,AH,Nj,NB,NS,Os⟩
   ·(have N4:(so !=0)=Cm:=by simp[M]);(have Nx:(so==0)=K:=by simp[M]);(have AH:JR (∀R,E1 d b v ((e.drop (k+1)).map O0) R->G (c.map O0++R)):=λR h=>BT R (by rw[lO M];exact h));clear M BT EY B2 ES;go_wp2
    go_roundg (Z e-(k+1))
    case measure=>have:=Aa HG;omega
    case rel=>exact⟨k+1,c,Ax,Q,rfl,by go_num,by omega,rfl,by omega,AH,EM,BA,FF,CL⟩
  .have A0:JR (G (c.map O0)):=by
    have h:=Aa W [] (by rw[mp (by omega)];rfl);rw[mz]at h;exact h
   have HV:=Ab (X5 Ax Q c wr ⟨Al HO (lW _),HE⟩ (by omega));clear W HO HE P;(go_wp2_with fail);refine HV.mono ?_;rintro _ w3 ⟨l,s,m,rfl,HY,DT,L⟩;have NX:=Ab HY;have BS:=Ab (Al DT (show w.heap.size<=wr.heap.size from D.size))
   have A1:=Ab (D.trans L);obtain⟨y,H⟩:=QP (Z m);have Ha:=Ab H;rw[H];clear HY DT L HV H;go_wp2;go_ret;rw[<-Aa Ha];refine⟨l,s,m,c,rfl,NX,A0,?_,A1⟩;rw[<-Aa FL];exact BS
def C7(vs:QC UInt8):QC Int:=vs.map λv=>(v.toNat:Int)
structure eh(w:Hq)(sp:Nat)(body:QC Bp)(s:QC Af)(vs:QC UInt8):Prop where
 at_:∃(kb ko:Nat) (bad:Option Addr) (bcp:Nat) (bm:QC Lx) (oad:Option Addr) (ocp:Nat) (sad:Option Addr) (scp:Nat) (fs:QC Fh),
  PS w sp kb ko (U bad (Z bm) bcp) (U oad (Z (C7 vs)) ocp) sad scp fs/\Cd w 0 (U bad (Z bm) bcp) bm/\bm.map O0=body.map LQ/\
  Mi w 0 21 1 (U oad (Z (C7 vs)) ocp) (Z (C7 vs)) ((C7 vs).flatMap AW)/\Dp fs s
 len:Z s<=10000
 lits:∀x∈body,Dk x/\P7 (LQ x)
 blen:Z body<=1000
 zU:Z vs<=1000
 fit:ZN s body
 ok:∀v∈vs,EH v
def eh.kept{w w':Hq}{a:Nat}{c:QC Bp}{s:QC Af}{b:QC UInt8}(h:eh w a c s b)(k:Ac [] w w'):eh w' a c s b:=by
 obtain⟨t,n,u,l,i,o,d,r,g,p,j,e,q,f,m⟩:=h.at_;exact⟨⟨t,n,u,l,i,o,d,r,g,p,j.kept k,e.kept k,q,Ad f k,m⟩,h.len,h.lits,h.blen,h.zU,h.fit,h.ok⟩
def Dp.len{a:QC Fh}(h:Dp a f):Z a=Z f:=by
 have:=congrArg List.length h.same;simpa using this
def Un{a:QC Bp}{t:QC UInt8}(h:eh w n a f t)(i:Dr e):
  Calls prog 177 #[Gi (V ⟨n,0,Y⟩),Ms (D6 (Aj (Bq e)))] w λr g=>r=G3 (.bool (DU a f e))/\Ac [] w g:=by
 obtain⟨F,v,q,o,j,G,L,y,C,D,u,m,c,I,b⟩:=h.at_;have M:=b.len;have P:Z j=Z a:=by have:=congrArg List.length c;simpa using this
 have H:=h.blen;have N:=h.len;refine(Zj n F v q o j _ y C D (Bq e) w (Is i) u m (by omega) (by omega) (λp z=>?_) (λA=>b.mono A)).mono ?_
 .have:p.1∈a.map LQ:=by rw[<-c];exact lZ z
  obtain⟨x,d,E⟩:=lP.1 this;rw[<-E];exact(h.lits x d).2
 .rintro r g ⟨B,rfl,l,k⟩;rw[c]at l;exact⟨by rw[XI b i a (λx d=>(h.lits x d).1) B l],k⟩
def VQ{a:QC Bp}{s:QC Af}{N:QC UInt8}(h:eh w n a s N)(D:Dr e){v:UInt8}(hv:EH v):
  Calls prog 178 #[Gi (V ⟨n,0,Y⟩),X .i32 (v.toNat:Int),Ms (D6 (Aj (Bq e)))] w λr t=>∃(l:Option Addr) (o:Nat),r=G3 (U l (Z ((Jd a s v e).map AD)) o)/\
   Mi t w.heap.size 170 1 (U l (Z ((Jd a s v e).map AD)) o) (Z ((Jd a s v e).map AD)) (((Jd a s v e).map AD).flatMap Ag)/\Ac [] w t:=by
 obtain⟨kb,Q,I,G,y,A0,BA,S,W,fs,P,F,u,h4,b⟩:=h.at_;have hl:=b.len;have BT:Z y=Z a:=by have:=congrArg List.length u;simpa using this
 have hb:=h.blen;have hn:=h.len;have C:∀p∈y,∃x∈a,LQ x=p.1:=λp c=>by
  have:p.1∈a.map LQ:=by rw[<-u];exact lZ c
  exact lP.1 this
 refine(VU n kb Q I G y _ S W fs (v.toNat:Int) (Bq e) w (Is D) P F (by omega) (by omega) (λp c=>?_) b.pair (λT=>b.mono T) (λp c E q M j=>?_)).mono ?_
 .obtain⟨x,d,i⟩:=C p c;rw[<-i];exact(h.lits x d).2
 .obtain⟨x,d,i⟩:=C p c;have hm:q.f∈s.map BX:=by rw[<-b.same];exact lZ M
  obtain⟨g,H,B⟩:=lP.1 hm;rw[<-i]at E j⊢;have L:(x.kind==97)=Cm:=by
   rw[<-SW];have:Gb x.kind=0:=E;rw[this];rfl
  have AO:g.name=x.A.name:=by
   unfold P9 at j;rw[<-B]at j;exact toList_inj (by simpa[LQ,BX] using j)
  have:=h.fit g H x d L AO;rw[<-B];simp[LQ,BX];omega
 .rintro r t ⟨l,o,m,ps,rfl,R,z,AR,k⟩;rw[u]at z;obtain⟨i,_⟩:=YQ b D hv (λx d=>(h.lits x d).1) h.fit z R;rw[<-i];exact⟨l,o,rfl,AR,k⟩
def cO{a:QC Bp}{b:QC UInt8}(h:eh w n a f b)(v:UInt8)(e:QC bC):∀t∈Jd a f v e,A6 t:=by
 obtain⟨y,q,z,o,l,p,g,u,k,r,m,i,x,j,c⟩:=h.at_;exact λt d=>Jl c.canon h.fit v e t ((Fr a f v e t).1 d)
def cV{l:QC Bp}{a:QC UInt8}(h:eh w n l f a)(k:Nat)(m:k<Z a):
  ∃(d c:Nat) (u:Hs) (g b:Nat),AI w n [Gi (V ⟨d,c,Y⟩),u,U (V ⟨g,0,Y⟩) (Z a) b] 237/\Lc w ⟨g,k,Y⟩=V (X .i32 (a[k].toNat:Int)):=by
 obtain⟨d,c,z,x,G,y,C,B,D,E,p,v,F,o,A⟩:=h.at_;have j:k<Z (C7 a):=by unfold C7;simpa using m
 obtain⟨g,b,r,t⟩:=Rz o k j;have q:Z (C7 a)=Z a:=by unfold C7;simp
 have i:=p.dI;rw[r,q]at i;refine⟨d,c,_,g,b,i,?_⟩;have e:(C7 a)[k]=(a[k].toNat:Int):=by simp[C7]
 rw[t,e]
