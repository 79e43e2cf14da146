import Derived.LoopIn
import Derived.Test.YtoihbhenbmffcaaGreatDoorVBD
set_option linter.all false
set_option maxHeartbeats 0
open List renaming length->Z
open Option renaming none->Y,some->V
open Go.Value renaming slice->U,int->X,string->O,pointer->Gi,ownBlock->OC
open Bool renaming false->K
open Go.Ending renaming returned->G3
open Go renaming World->Hq
open ByteArray renaming empty->ND
namespace Go.Proofs.YtoihbhenbmffcaaGreatDoor
open Go.RowKit Go.Proofs.Tryz
variable{w:Hq}{e:QC bC}{g:UInt8}{T:TypeId}{z:Value}{y:QC Value}{s t:bC}{M:QC Nat}{b n m:Nat}
def Q4(a:QC UInt8):∀(l:QC (QC bC)) (t:bC) (r:QC bC),EJ a t (l++[r])=I0 (EJ a t l) K a r++⟨#[10]⟩
 |[],t,r=>rfl
 |x::l,t,r=>by rw[ny,EJ,Q4 a l,EJ]
def T1:∀(a:QC UInt8) (c:QC bC) (t:bC) (b:Bool),(∀x∈c,x.size<=1000000)->(I0 t b a c).size<=t.size+Z a*1000010
 |[],c,t,b,_=>by simp[I0]
 |v::a,[],t,b,_=>by simp[I0]
 |v::a,x::c,t,b,h=>by
  rw[I0];have f:=T1 a c ((if b then t++⟨#[32]⟩else t)++⟨#[v]⟩++⟨#[61]⟩++x) true (λy d=>h y (by simp[d]));have e:((if b then t++⟨#[32]⟩else t)++⟨#[v]⟩++⟨#[61]⟩++x:bC).size<=t.size+1+1+1+x.size:=by
   rw[lK,lK,lK];cases b with
   |true=>
    rw[lS rfl,lK];show t.size+1+1+1+x.size<=_;omega
   |false=>
    show t.size+1+1+x.size<=_;omega
  have g:=h x (by simp);rw[lQ];omega
def Qm{a:QC UInt8}(b:Z a<=6):∀(l:QC (QC bC)) (t:bC),(∀r∈l,∀x∈r,x.size<=1000000)->(EJ a t l).size<=t.size+Z l*10000000
 |[],t,_=>by simp[EJ]
 |r::l,t,h=>by
  rw[EJ];have d:=Qm b l (I0 t K a r++⟨#[10]⟩) (λr c=>h r (by simp[c]));have e:=T1 a r t K (h r (by simp));rw[lK]at d;have g:(⟨#[10]⟩:bC).size=1:=rfl;have f:Z a*1000010<=6*1000010:=mF _ b;rw[lQ];omega
structure kQ(w:Hq)(N:Nat)(vs:QC UInt8)(pre:QC (QC bC))(M:QC Nat)(W:Hq):Prop where
 zS:KQ N (EJ vs ND (pre.map (Ex vs))) M W
 kept:Ac [] w W
def kQ.own{N B:Nat}{g:QC UInt8}(j:w.heap.size<=B):OwnFrom B (fun(q:QC (QC bC)×QC Nat) W=>kQ w N g q.1 q.2 W):=
 BQ (λq W l M h a b=>by
  refine⟨?_,EA h.kept a b j⟩
  obtain⟨p,k,i,e,d,c,f⟩:=h.zS
  exact⟨p,k,i,e,d.kept a (C4 b d),Ai c a (Cs b c),f⟩)
structure gG(vs:QC UInt8)(XS:QC (QC bC)):Prop where
 len:Z XS<=46656
 canon:∀x∈XS,∀v∈vs,A6 (Nc x v)/\(Nc x v).size<=1000
 ok:∀x∈XS,Z x=26
 vars:∀v∈vs,EH v
 six:Z vs<=6
def gJ(c:Z e=26)(b:EH g)(a:A6 (Nc e g)):Nc (Bq e) g=AD (Nc e g):=by
 unfold Nc at a⊢;obtain⟨f,d⟩:=b;unfold Bq;rw[lT,m6,lN (by omega)];rw[lT,lN (by omega)]at a⊢;exact CM a
def cF{q x n N:Nat}(h:w.ownsRow q T x z n y)(r:KQ N s M w)(l:(T==145)=K)(j:(T==5)=K):∀i,z.ownBlock=V i->i∉M:=by
 intro i d a;obtain⟨p,A,m,_,o,k,rfl⟩:=r;rcases lI.1 a with rfl|a
 .exact Mb h o l _ d (by simp)
 .have a:(U A s.size m).ownBlock=V i:=by simpa using a
  rcases k.2 with⟨b,_⟩|⟨g,c,f,b,_,u,_⟩
  .rw[b]at a;simp[OC]at a
  .rw[b]at a;simp only[OC,lL]at a;subst a;exact Mb (t:=5) h (N:=g) (cs:=f.toList) (by unfold AI;simpa using u) j _ d (by simp)
def S8(h:AI w b y T)(j:KQ n s M w)(f:(T==145)=K)(c:(T==5)=K):b∉M:=by
 intro a;obtain⟨p,k,g,_,i,d,rfl⟩:=j;rcases lI.1 a with rfl|a
 .exact Zz h i f (by simp)
 .have a:(U k s.size g).ownBlock=V b:=by simpa using a
  exact Mb d h (by cases hh:((5:TypeId)==T)with|false=>rfl|true=>rw[nu]at hh;rw[<-hh]at c;simp at c) b a (by simp)
structure Pm(w:Hq)(N:Nat)(M:QC Nat)(W:Hq)(g:Nat)(vs:QC UInt8)(x:QC bC)(t:bC)(wz:Hq):Prop where
 zS:∃M2,KQ N t M2 wz/\Ze M W M2 wz
 row:wz.ownsRow 0 172 2 (U (V ⟨g,0,Y⟩) (Z vs) (Z vs)) (Z vs) (vs.flatMap (Jf (Bq x)))
 kept:Ac [] w wz
def Pm.step{w W a e:Hq}{N g:Nat}{M c:QC Nat}{d:QC UInt8}{x:QC bC}{t f:bC}(q:w.heap.size=N)(h:Pm w N M W g d x t a)(j:KQ N t c a)(m:Ze M W c a)(k:dD N f c a e):Pm w N M W g d x f e:=by
 obtain⟨l,n,b,o⟩:=k;exact⟨⟨l,n,m.step b o⟩,Ai h.row b (cF h.row j (by rfl) (by rfl)),h.kept.trans' b (λi p=>Or.inr (by have:=(j.lt i p).1;omega))⟩
def Pm.calm{w W f c:Hq}{b:QC UInt8}(h:Pm w n M W m b e t f)(k:Ac [] f c):Pm w n M W m b e t c:=by
 obtain⟨j,d,i⟩:=h.zS;exact⟨⟨j,d.kept k,i.step (k.mono (by simp)) (λq a=>⟨Or.inl a,nz (d.lt q a).2 k.size⟩)⟩,Ad h.row k,h.kept.trans k⟩
set_option maxRecDepth 100000
theorem Wi(BS:Option Addr)(Bx:Nat)(P:QC DF)(H:QC A7)(A1:Option Addr)(AR:Nat)(AB:QC Lx)(o:QC Bp)(w:Hq)(hP:DK w (U BS (Z P) Bx) P)(hB:M7 P H)(hQ:kf w (U A1 (Z AB) AR) AB o)
  (hq:∀s,(∀f∈s,DV H f)->Zx o s/\gG (A9 o) (Av (Jd o s) o s (A9 o) Bj)):
  Calls prog 52 #[U BS (Z P) Bx,U A1 (Z AB) AR] w λr p=>∃(t:bC) (s:QC Af) (L:bC->Nat) (n:Nat),r=G3 (O t)/\CX H L/\GN H L n s/\(∀c∈H,L c.head.name<n)/\t=EJ (A9 o) ND ((Av (Jd o s) o s (A9 o) Bj).map (Ex (A9 o)))/\Ac [] w p:=by
 obtain⟨N,hN⟩:=QP w.heap.size;have HN:=Ab hN;have HM:=Ab ((SF [] w).alloc (.cells #[Gi Y,U Y 0 0] 145));have FW:=Ab (KQ.new w);rw[hN]at FW;have JA:=Ab (Pz BS Bx P H _ (hP.kept (Aa HM)) hB);have Jx:Hid (∀cb s L n S,SO (w.alloc (.cells #[Gi Y,U Y 0 0] 145)) cb (U BS (Z P) Bx) [] s S->GN H L n s->Calls prog 94 #[Gi (V ⟨cb,1,Y⟩),U A1 (Z AB) AR] S λr p=>∃sp b1,r=G3 (.func (.func 140) #[] #[Gi (V ⟨b1,0,Y⟩)])/\AI p b1 [Gi (V ⟨sp,0,Y⟩)] 233/\S.heap.size<=b1/\(∀m,Ac [N] p m->eh m sp o s (A9 o))/\Ac [] S p):=by
  intro cb s L n S hC hI;obtain⟨a5,ap,fs,b4,bx,xs,g1,g2,g3,_⟩:=hC.out;have hc:=g1.cell 1;have JJ:AI S N [Gi Y,U Y 0 0] 145:=by
   have h:=(Tc w [Gi Y,U Y 0 0] 145).kept hC.kept;rw[hN]at h;exact h
  have hw:=hB.zB hI;obtain⟨ao,a3⟩:=hq s hI.fw;exact SH cb 1 a5 ap fs A1 AR AB o s S N _ JJ (Zz g1 JJ (by rfl)) (by simpa using hc) g2 ⟨hQ.at_.kept ((Aa HM).trans hC.kept),hQ.map,hQ.cI,hQ.len⟩ g3 (by omega) ao a3.six
 have Nd:Hid (∀s L n,GN H L n s->gG (A9 o) (Av (Jd o s) o s (A9 o) Bj)):=λs L n hI=>(hq s hI.fw).2
 clear hP hB hQ hq hN;refine EQ func52 rfl (Gv ?_);simp only[ntmps52,mW,lQ,mn,Nat.reduceAdd,Nat.reduceSub,om,oo,oK,oz,mR,ny];refine Q0 (λK1 A0=>?_);go_wp2;refine Aa A0 _ _ ?_;clear A0 K1;refine Q0 (λK1 A0=>?_);go_wp2;refine Aa A0 _ _ ?_;clear A0 K1;rw[Aa HN];generalize hw1:w.alloc (.cells #[Gi Y,U Y 0 0] 145)=w1 at HM FW JA Jx⊢;clear hw1;obtain⟨QQ,MY⟩:=QP (Ks (bodyPostM Fence.wide 0 prog Tryz.f52 λr p=>∃(t:bC) (s:QC Af) (L:bC->Nat) (n:Nat),r=G3 (O t)/\CX H L/\GN H L n s/\(∀c∈H,L c.head.name<n)/\t=EJ (A9 o) ND ((Av (Jd o s) o s (A9 o) Bj).map (Ex (A9 o)))/\Ac [] w p));have ZV:=Ab MY;rw[MY];clear MY;refine Q0 (λK1 A0=>?_);refine Q0 (λK5 RB=>?_);go_wp2_with fail
 refine(Aa JA).mono ?_;rintro _ S ⟨cb,s,L,n,rfl,g1,g2,g3,g4⟩;have Op:=Ab (Aa Jx cb s L n S g1 g3);have KK:=Ab (Aa Nd s L n g3);have HI:=Ab (And.intro g2 (And.intro g3 g4));have LC:=Ab g1.kept;clear JA Jx Nd g1 g2 g3 g4;go_wp2_with fail
 refine(Aa Op).mono ?_;rintro _ w5 ⟨sp,b1,rfl,TH,a9,K8,k5⟩;have SP:Hid (Ac [] w1 w5):=(Aa LC).trans k5;have RV:=Ab ((Aa FW).kept (Aa SP));have NA:=((Aa RV).lt N (by simp)).2;have JJ:N<S.heap.size:=by
  have h:=((Aa FW).kept (Aa LC)).lt N (by simp);exact h.2
 obtain⟨a,LL⟩:=QP (A9 o);obtain⟨XS,HZ⟩:=QP (Av (Jd o s) o s a Bj);rw[LL]at K8 KK;rw[HZ]at KK;have Ha:=fD sp o s a w5 [N] K8 b1 w5 [N] ⟨SF _ _,TH,λk I=>by rw[lG]at I;subst I;exact⟨Or.inl (by simp),by omega,NA⟩⟩;rw[HZ]at Ha;have VL:Hid (A9 o=a/\Av (Jd o s) o s a Bj=XS):=⟨LL,HZ⟩;have QR:Hid (Ac [] w w5):=(Aa HM).trans (Aa SP);have Wa:w.heap.size<=w5.heap.size:=(Aa QR).size;clear Op TH a9 K8 k5 LC FW LL HZ;go_wp2;refine Aa RB _ _ ?_;clear RB K5;refine wp_block ?_;refine S6 rfl (enters_of func140 (by kernel_rfl) rfl) Ha (λx vs W h=>by obtain⟨g,rfl,_⟩:=h;rfl) (λk I=>by rw[lG]at I;subst I;exact NA) (kQ w N a) (λ_ _ _ _=>False) (kQ.own Wa) (λ_ _ _ _ _ h _ _=>h) ⟨Aa RV,Aa QR⟩
  (λn0 x a' W=>∃g,a'=⟨#[U BS (Z P) Bx,U A1 (Z AB) AR,undef,undef,O ⟨#[]⟩,Gi (V ⟨N,0,Y⟩),U (V ⟨g,0,Y⟩) (Z a) (Z a),undef,undef,U BS (Z P) Bx,Gi (V ⟨cb,1,Y⟩),U A1 (Z AB) AR,.func (.func 140) #[] #[Gi (V ⟨b1,0,Y⟩)],U (V ⟨g,0,Y⟩) (Z a) (Z a),undef,undef,undef,undef,undef,undef,undef,undef,undef,undef,undef,undef,undef,undef,undef,undef,undef,undef,undef,undef,undef],[]⟩/\W.ownsRow 0 172 2 (U (V ⟨g,0,Y⟩) (Z a) (Z a)) (Z a) (a.flatMap (Jf (Bq x))))
  (λn0 x a'=>BQ (λ_ W W' M h k hM=>by obtain⟨g,B,F⟩:=h;exact⟨g,B,Ai F k (Cs hM F)⟩)) ?rassign ?rbody ?rdone ?rstop
 case rassign=>
  intro l x vs W' aT hx _ W0 HK;obtain⟨g,rfl,hr⟩:=W0;have TL:Hid (∀a' OH,Ac [] W' OH->_->aT a' OH):=HK;have HR:=Ab hr;clear HK hr Ha;refine AN (by rfl) (It GC) ?_;go_wp2;exact Aa TL _ _ (SF _ _) ⟨g,rfl,Aa HR⟩
 case rbody=>
  intro l n0 EX x br M a' W H6 hi hM aa UO ad;obtain⟨g,rfl,hr⟩:=ad;have Ax:=Aa KK;have KS:x∈XS:=by rw[H6];simp
  obtain⟨T0,HO⟩:=QP (EJ a ND (EX.map (Ex a)));have BA:=hi.zS;rw[HO]at BA;have U0:Hid (Pm w N M W g a x T0 W):=⟨⟨M,BA,⟨SF _ _,λq hq=>⟨Or.inl hq,(BA.lt q hq).2⟩⟩⟩,hr,hi.kept⟩;have b5:T0.size<=466560000000:=by
   have B:=Qm Ax.six (EX.map (Ex a)) ND (λr hr y hy=>by
    obtain⟨z,hz,rfl⟩:=lP.1 hr
    obtain⟨v,hv,rfl⟩:=lP.1 hy
    have:=(Ax.canon z (by rw[H6];exact oE _ hz) v hv).2
    omega)
   rw[HO,lR]at B;(have F:Z EX<=Z XS:=by rw[H6];simp);have h3:Z EX*10000000<=46656*10000000:=mF _ (by have:=Ax.len;omega);have h4:ByteArray.empty.size=0:=rfl;omega
  obtain⟨RT,IJ⟩:=QP (I0 T0 K a (Ex a x));have W1:Hid (I0 T0 (decide (0<0)) (a.drop 0) ((Ex a x).drop 0)=RT):=IJ;have H9:Hid (∀m,Pm w N M W g a x (RT++⟨#[10]⟩) m->LK (kQ w N a) (λ_ _ _ _=>False) (EX++[x]) M W .normal ⟨#[],[]⟩ m):=by
   intro m hz;obtain⟨M2,B,F⟩:=hz.zS;refine⟨F.kept,M2,⟨?_,hz.kept⟩,F.mem⟩;rw[mx,l9,nE,Q4,HO,IJ];exact B
  have YP:Hid (∀v∈a,B4 (Nc (Bq x) v)=Nc x v/\(Nc x v).size<=1000/\(Nc (Bq x) v).size<=1000000):=λv hv=>by
   obtain⟨hc,hz⟩:=Ax.canon x KS v hv;rw[gJ (Ax.ok x KS) (Ax.vars v hv) hc];have:=Pt (Nc x v);exact⟨Gt hc,hz,by omega⟩
  have TS:Hid (∀v∈a,EH v):=Ax.vars;have h6:=Ax.six;have MN:=Aa HN;have IS:Hid (∀(d:UInt8) t m,Pm w N M W g a x t m->t.size+1<=140737488355328->Calls prog 77 #[Gi (V ⟨N,0,Y⟩),X .u8 (d.toNat:Int)] m λe p=>e=G3 .nilIface/\Pm w N M W g a x (t++⟨#[d]⟩) p/\∀b cs,AI m b cs 172->AI p b cs 172):=by
   intro d t m h hl;obtain⟨M2,B,F⟩:=h.zS;refine(Ur N t M2 d m B hl).mono ?_;rintro e p ⟨rfl,hW⟩;refine⟨rfl,h.step MN B F hW,λb cs hb=>?_⟩;obtain⟨_,_,I,_⟩:=hW;exact hb.kept I (S8 hb B (by rfl) (by rfl))
  have VR:Hid (∀(d:UInt8) t m,Pm w N M W g a x t m->d.toNat<=127->t.size+1<=140737488355328->Calls prog 95 #[Gi (V ⟨N,0,Y⟩),X .i32 (d.toNat:Int)] m λe p=>(∃v,e=G3 v)/\Pm w N M W g a x (t++⟨#[d]⟩) p/\∀b cs,AI m b cs 172->AI p b cs 172):=by
   intro d t m h hd hl;obtain⟨M2,B,F⟩:=h.zS;refine(bg N t M2 d m B hd hl).mono ?_;rintro e p ⟨hv,hW⟩;refine⟨hv,h.step MN B F hW,λb cs hb=>?_⟩;obtain⟨_,_,I,_⟩:=hW;exact hb.kept I (S8 hb B (by rfl) (by rfl))
  have an:Hid (∀(y:bC) t m,Pm w N M W g a x t m->t.size+y.size<=140737488355328->Calls prog 75 #[Gi (V ⟨N,0,Y⟩),O y] m λe p=>e=G3 (.tuple #[X .i64 y.size,.nilIface])/\Pm w N M W g a x (t++y) p):=by
   intro y t m h hl;obtain⟨M2,B,F⟩:=h.zS;refine(Xh N t M2 y m B hl).mono ?_;rintro e p ⟨rfl,hW⟩;exact⟨rfl,h.step MN B F hW⟩
  clear hi hr BA Ax KS HO IJ H6 hM aa UO Ha;refine wpIn_block ?_;refine m8 (λK3 HB=>?_);have HG:=Ab HB;clear HB;refine m8 (λG u=>?_);have A:=Ab u;clear u;refine AN (by rfl) (by rintro ⟨_,_,h⟩;exact h) ?_;go_wp2;refine Aa A _ _ ?_;clear A G;refine wpIn_block ?_
  gi_loopw [16] (λi m=>∃(j:Nat) (t:bC),i=X .i64 j/\j<=Z a/\t.size<=T0.size+j*1000010/\Hid (I0 t (decide (0<j)) (a.drop j) ((Ex a x).drop j)=RT)/\Hid (Pm w N M W g a x t m)) (λi _=>Z a-(intOf i).toNat)
  case atStart=>exact⟨0,T0,rfl,lW _,by omega,W1,U0⟩
  case round=>
   obtain⟨j,t,rfl,hj,av,HC,FP⟩:=hrel;have bz:j*1000010<=6*1000010:=mF _ (by omega);by_cases B2:j<Z a
   .obtain⟨g',bt,he,_,KD⟩:=AC (Aa FP).row (λc _=>TT (Bq x) c) j B2;simp only[lB,lL,mu]at he;obtain⟨⟨rfl,-,-⟩,-,-⟩:=he;have d0:=KD j B2 0 (by omega);have d1:=KD j B2 1 (by omega);simp[Jf]at d0 d1;(have aB:j<Z (Ex a x):=by unfold Ex;rw[lR];exact B2);have HA:Hid (I0 ((if decide (0<j)then t++⟨#[32]⟩else t)++⟨#[a[j]]⟩++⟨#[61]⟩++Nc x a[j]) true (a.drop (j+1)) ((Ex a x).drop (j+1))=RT):=by
     have h:=Aa HC;rw[lY B2,lY aB,I0]at h;(have e:(Ex a x)[j]=Nc x a[j]:=by simp[Ex]);rw[e]at h;exact h
    obtain⟨HJ,M1,HU⟩:=Aa YP a[j] (lE B2);have af:=(Aa TS a[j] (lE B2)).2;obtain⟨E,hV⟩:=QP (a[j]);rw[hV]at d0 d1 HA HJ M1 HU af;obtain⟨T,hY⟩:=QP (Nc (Bq x) E);obtain⟨EY,hX⟩:=QP (Nc x E);rw[hY]at d1 HJ HU;rw[hX]at HA HJ M1;(have b7:(0:Int)<=(j:Int):=by omega);(have WB:(j:Int)<(Z a:Int):=by omega);have N0:=Ab (λm=>JZ T m HU);rw[HJ]at N0;clear KD HC hV hY hX HJ HU;refine m8 (λG u=>?_);have A:=Ab u;clear u;refine AN (by rfl) (by rintro ⟨_,_,h⟩;exact h) ?_;go_wp2;refine Aa A _ _ ?_;clear A G;refine m8 (λG u=>?_);have A:=Ab u;clear u;refine oI rfl (wpIn_skip ?_);refine Aa A _ _ ?_;clear A G;refine m8 (λK6 NN=>?_);have MB:=Ab NN;clear NN;refine wpIn_block ?_;refine m8 (λG u=>?_);have A:=Ab u;clear u;refine AN (by rfl) (by rintro ⟨_,_,h⟩;exact h) ?_;have HW:=Ab (Tc wr [X .i32 (E.toNat:Int),O T] 172);have HY:=Ab ((Aa FP).calm ((SF [] wr).alloc (.cells #[X .i32 (E.toNat:Int),O T] 172)));go_wp2;refine Aa A _ _ ?_;clear A G;change Code.wpIn _ _ _ _ _ _ (wr.alloc (.cells [X .i32 (E.toNat:Int),O T].toArray 172));generalize wr.alloc (.cells [X .i32 (E.toNat:Int),O T].toArray 172)=w7 at HW HY⊢;obtain⟨NX,S0⟩:=QP wr.heap.size;rw[S0]at HW⊢;clear S0 d0 d1 FP;obtain⟨t3,LM,b9⟩:∃t3,(if decide (0<j)then t++⟨#[32]⟩else t)=t3/\t3.size<=t.size+1:=⟨_,rfl,by
     split
     .rw[lK];exact lX _
     .omega⟩
    rw[LM]at HA;have NL:Hid (I0 (t3++⟨#[E]⟩++⟨#[61]⟩++EY) (decide (0<j+1)) (a.drop (j+1)) ((Ex a x).drop (j+1))=RT):=by
     have h:=Aa HA;show _=_;simpa using h
    have NM:(t3++⟨#[E]⟩++⟨#[61]⟩++EY:bC).size<=T0.size+(j+1)*1000010:=by
     rw[lK,lK,lK];show t3.size+1+1+EY.size<=_;omega
    (have TV:(t3++⟨#[E]⟩:bC).size=t3.size+1:=by rw[lK];rfl);(have cf:(t3++⟨#[E]⟩++⟨#[61]⟩:bC).size=t3.size+1+1:=by rw[lK,TV];rfl);have TK:=Ab LM;clear HA LM;refine m8 (λG u=>?_);have A:=Ab u;clear u;have NB:Hid (∀SK OB SL m,Pm w N M W g a x t3 m->AI m NX [X .i32 (E.toNat:Int),O T] 172->G ⟨#[U BS (Z P) Bx,U A1 (Z AB) AR,undef,undef,O ⟨#[]⟩,Gi (V ⟨N,0,Y⟩),U (V ⟨g,0,Y⟩) (Z a) (Z a),X .i64 j,Gi (V ⟨NX,0,Y⟩),U BS (Z P) Bx,Gi (V ⟨cb,1,Y⟩),U A1 (Z AB) AR,.func (.func 140) #[] #[Gi (V ⟨b1,0,Y⟩)],U (V ⟨g,0,Y⟩) (Z a) (Z a),U (V ⟨g,0,Y⟩) (Z a) (Z a),X .i64 (Z a),X .i64 j,.bool true,X .i64 j,Gi (V ⟨g,j*2,Y⟩),.agg #[X .i32 (E.toNat:Int),O T],SK,OB,SL,u24,u25,u26,u27,u28,u29,u30,u31,u32,undef,undef],[]⟩ m):=by
     intro SK OB SL m C KA;refine Aa A _ _ ?_;have e0:=KA.cell 0;simp at e0;have SJ:=Ab (Aa VR E t3 m C (by omega) (by omega));have S1:=Ab KA;clear A C KA;refine m8 (λK7 A2=>?_);have R:=Ab A2;clear A2;refine AN (by rfl) (by rintro ⟨_,_,h⟩;exact h) ?_;(go_wp2_with fail);refine(Aa SJ).mono ?_;rintro _ w8 ⟨⟨v8,rfl⟩,C,Q⟩;have Pl:=Ab (Q _ _ (Aa S1));have ST:=Ab (Aa IS 61 (t3++⟨#[E]⟩) w8 C (by omega));clear SJ S1 C Q e0;go_wp2;refine Aa R _ _ ?_;clear R K7;refine m8 (λK7 A2=>?_);have R:=Ab A2;clear A2;refine AN (by rfl) (by rintro ⟨_,_,h⟩;exact h) ?_;(go_wp2_with fail);refine(Aa ST).mono ?_;rintro _ w9 ⟨rfl,C,Q⟩;have NV:=Q _ _ (Aa Pl);have e1:=NV.cell 1;simp at e1;have SB:=Ab (Aa an EY (t3++⟨#[E]⟩++⟨#[61]⟩) w9 C (by omega));have Nq:=Ab (Aa N0 w9);clear ST Pl C Q NV;go_wp2;refine Aa R _ _ ?_;clear R K7;refine AN (by rfl) (by rintro ⟨_,_,h⟩;exact h) ?_;(go_wp2_with fail);refine(Aa Nq).mono ?_;rintro _ ce ⟨rfl,rfl⟩;clear Nq;(go_wp2_with fail);refine(Aa SB).mono ?_;rintro _ b2 ⟨rfl,C⟩;have a7:=Ab C;clear SB C e1;go_wp2;refine Aa MB _ _ ?_;clear MB;refine AN (by rfl) (by rintro ⟨_,_,h⟩;exact h) ?_;go_wp2
     go_roundw
     case rel=>exact⟨j+1,_,by go_num,by omega,NM,NL,a7⟩
     case measure=>simp[intOf];omega
    clear A MB NL NM;refine m8 (λK7 A2=>?_);have R:=Ab A2;clear A2;refine AN (by rfl) (by rintro ⟨_,_,h⟩;exact h) ?_;by_cases h0:0<j
    ·(have a2:(0:Int)<(j:Int):=by omega);have ES:Hid (t++⟨#[32]⟩=t3):=by
      have h:=Aa TK;rw[lS (by simpa using h0)]at h;exact h
     have FB:=Ab (Aa IS 32 t w7 (Aa HY) (by omega));rw[Aa ES]at FB;go_wp2;refine Aa R _ _ ?_;clear R K7;refine oI rfl ?_;refine AN (by rfl) (by rintro ⟨_,_,h⟩;exact h) ?_;(go_wp2_with fail);refine(Aa FB).mono ?_;rintro _ w8 ⟨rfl,C,Q⟩;have a1:=Ab C;have WS:=Ab (Q _ _ (Aa HW));clear FB C Q;go_wp2;exact Aa NB _ _ _ _ (Aa a1) (Aa WS)
    ·(have a2:¬(0:Int)<(j:Int):=by omega);have ES:Hid (t=t3):=by
      have h:=Aa TK;rw[lO (by simpa using h0)]at h;exact h
     rw[Aa ES]at HY;go_wp2;refine Aa R _ _ ?_;clear R K7;refine oC rfl (wpIn_skip ?_);exact Aa NB _ _ _ _ (Aa HY) (Aa HW)
   .have ES:Hid (t=RT):=by
     have h:=Aa HC;rw[mp (by omega)]at h;(have e:∀(b:Bool) (l:QC bC),I0 t b [] l=t:=λb l=>by cases l<;>rfl);rw[e]at h;exact h
    rw[Aa ES]at av FP;have FB:=Ab (Aa IS 10 RT wr (Aa FP) (by omega));(have WB:¬(j:Int)<(Z a:Int):=by omega);clear HC ES FP;refine m8 (λG u=>?_);have A:=Ab u;clear u;refine AN (by rfl) (by rintro ⟨_,_,h⟩;exact h) ?_;go_wp2;refine Aa A _ _ ?_;clear A G;refine m8 (λG u=>?_);have A:=Ab u;clear u A;refine oC rfl (wpIn_exit ?_);refine Aa HG _ _ ?_;clear HG;refine AN (by rfl) (by rintro ⟨_,_,h⟩;exact h) ?_;(go_wp2_with fail);refine(Aa FB).mono ?_;rintro _ w8 ⟨rfl,C,_⟩;have HP:=Ab (Aa H9 w8 C);clear FB C H9;go_wp2;exact Aa HP
 case rdone=>
  intro D M' W2 hD hi hd _;have W3:D≠N:=by omega
  obtain⟨TX,K9⟩:=QP (EJ a ND (XS.map (Ex a)));have BA:=hi.zS;rw[K9]at BA;have DY:=Ab (WU N TX M' W2 BA);have H9:Hid (∀(LB:Array Value) p,LB.getD 4 undef=O TX->Below N W2 p->Lib.OthersKept 5 (V N) W2 p->QQ .ret ⟨LB,[EO D]⟩ p):=by
   intro LB p h4 Q WW;rw[<-Aa ZV];have N2:DD w.heap.size [D] p:=⟨by simp,λd HS=>by simp only[lG]at HS;omega,λd HS=>by simp only[lG]at HS;rw[HS];exact WW D _ hd (by simpa using W3) (λc fz h=>by cases h)⟩;refine DC [D] p N2 (λca hs=>?_);have aC:OwnFrom w.heap.size (fun(_:Unit) W=>Ac [] w W):=BQ (λ_ W W' M h kk hM=>EA h kk hM (lX _));have a0:Ac [] w p:=by
    have h:=Q;rw[<-Aa HN]at h;exact Ia hi.kept h
   have I:=hs.own aC (s:=()) N2 a0;obtain⟨g2,g3,g4⟩:=Aa HI;obtain⟨e1,e2⟩:=Aa VL;refine⟨_,results_tmp rfl _ _ _,TX,s,L,n,by rw[h4],g2,g3,g4,?_,I⟩;rw[e1,e2,K9]
  clear hi hd BA K9 Ha;refine Aa A0 _ _ ?_;clear A0;refine Q0 (λK3 HG=>?_);go_wp2_with fail
  refine(Aa DY).mono ?_;rintro _ w3 ⟨rfl,B,F⟩;have ar:=Ab B;have X2:=Ab F;clear DY B F;go_wp2;refine Aa HG _ _ ?_;clear HG K3;refine wp_ret ?_;exact Aa H9 _ _ rfl (Aa ar) (Aa X2)
 case rstop=>
  intro D c EX M' W2 _ h _;exact h.elim
