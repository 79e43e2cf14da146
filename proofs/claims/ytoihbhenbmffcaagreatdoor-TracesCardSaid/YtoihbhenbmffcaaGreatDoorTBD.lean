import Derived.LoopIn
import Derived.Test.YtoihbhenbmffcaaGreatDoorTBA
set_option linter.all false
set_option maxHeartbeats 0
open List renaming length->Z
open Option renaming none->Y,some->V
open Go.Value renaming slice->U,int->X,string->O,pointer->j3,ownBlock->qX
open Bool renaming false->K
open Go.Ending renaming returned->kt
open Go renaming World->ly
open ByteArray renaming empty->q9
namespace Go.Proofs.YtoihbhenbmffcaaGreatDoor
open Go.RowKit Go.Proofs.Tryz
variable{w:ly}{e:rc zA}{g:UInt8}{T:TypeId}{z:Value}{y:rc Value}{s t:zA}{M:rc Nat}{b n m:Nat}
def RH(a:rc UInt8):∀(l:rc (rc zA)) (t:zA) (r:rc zA),Ge a t (l++[r])=Lb (Ge a t l) K a r++⟨#[10]⟩
 |[],t,r=>rfl
 |x::l,t,r=>by rw[ot,Ge,RH a l,Ge]
def Uu:∀(a:rc UInt8) (c:rc zA) (t:zA) (b:Bool),(∀x∈c,x.size<=1000000)->(Lb t b a c).size<=t.size+Z a*1000010
 |[],c,t,b,_=>by simp[Lb]
 |v::a,[],t,b,_=>by simp[Lb]
 |v::a,x::c,t,b,h=>by
  rw[Lb];have f:=Uu a c ((if b then t++⟨#[32]⟩else t)++⟨#[v]⟩++⟨#[61]⟩++x) true (λy d=>h y (by simp[d]));have e:((if b then t++⟨#[32]⟩else t)++⟨#[v]⟩++⟨#[61]⟩++x:zA).size<=t.size+1+1+1+x.size:=by
   rw[mH,mH,mH];cases b with
   |true=>
    rw[mK rfl,mH];show t.size+1+1+1+x.size<=_;omega
   |false=>
    show t.size+1+1+x.size<=_;omega
  have g:=h x (by simp);rw[mL];omega
def Q0{a:rc UInt8}(b:Z a<=6):∀(l:rc (rc zA)) (t:zA),(∀r∈l,∀x∈r,x.size<=1000000)->(Ge a t l).size<=t.size+Z l*10000000
 |[],t,_=>by simp[Ge]
 |r::l,t,h=>by
  rw[Ge];have d:=Q0 b l (Lb t K a r++⟨#[10]⟩) (λr c=>h r (by simp[c]));have e:=Uu a r t K (h r (by simp));rw[mH]at d;have g:(⟨#[10]⟩:zA).size=1:=rfl;have f:Z a*1000010<=6*1000010:=nB _ b;rw[mL];omega
structure lO(w:ly)(N:Nat)(vs:rc UInt8)(pre:rc (rc zA))(M:rc Nat)(W:ly):Prop where
 yE:LN N (Ge vs q9 (pre.map (Gc vs))) M W
 kept:Ac [] w W
def lO.own{N B:Nat}{g:rc UInt8}(j:w.heap.size<=B):OwnFrom B (fun(q:rc (rc zA)×rc Nat) W=>lO w N g q.1 q.2 W):=
 BF (λq W l M h a b=>by
  refine⟨?_,DS h.kept a b j⟩
  obtain⟨p,k,i,e,d,c,f⟩:=h.yE
  exact⟨p,k,i,e,d.kept a (C3 b d),Ag c a (BZ b c),f⟩)
structure io(vs:rc UInt8)(XS:rc (rc zA)):Prop where
 len:Z XS<=46656
 canon:∀x∈XS,∀v∈vs,A8 (N8 x v)/\(N8 x v).size<=1000
 ok:∀x∈XS,Z x=26
 vars:∀v∈vs,EP v
 six:Z vs<=6
def it(c:Z e=26)(b:EP g)(a:A8 (N8 e g)):N8 (Br e) g=AD (N8 e g):=by
 unfold N8 at a⊢;obtain⟨f,d⟩:=b;unfold Br;rw[mN,n6,mG (by omega)];rw[mN,mG (by omega)]at a⊢;exact CY a
def dn{q x n N:Nat}(h:w.ownsRow q T x z n y)(r:LN N s M w)(l:(T==145)=K)(j:(T==5)=K):∀i,z.ownBlock=V i->i∉M:=by
 intro i d a;obtain⟨p,A,m,_,o,k,rfl⟩:=r;rcases mA.1 a with rfl|a
 .exact MT h o l _ d (by simp)
 .have a:(U A s.size m).ownBlock=V i:=by simpa using a
  rcases k.2 with⟨b,_⟩|⟨g,c,f,b,_,u,_⟩
  .rw[b]at a;simp[qX]at a
  .rw[b]at a;simp only[qX,mB]at a;subst a;exact MT (t:=5) h (N:=g) (cs:=f.toList) (by unfold AI;simpa using u) j _ d (by simp)
def TG(h:AI w b y T)(j:LN n s M w)(f:(T==145)=K)(c:(T==5)=K):b∉M:=by
 intro a;obtain⟨p,k,g,_,i,d,rfl⟩:=j;rcases mA.1 a with rfl|a
 .exact Z4 h i f (by simp)
 .have a:(U k s.size g).ownBlock=V b:=by simpa using a
  exact MT d h (by cases hh:((5:TypeId)==T)with|false=>rfl|true=>rw[oI]at hh;rw[<-hh]at c;simp at c) b a (by simp)
structure PU(w:ly)(N:Nat)(M:rc Nat)(W:ly)(g:Nat)(vs:rc UInt8)(x:rc zA)(t:zA)(wz:ly):Prop where
 yE:∃M2,LN N t M2 wz/\ZF M W M2 wz
 row:wz.ownsRow 0 172 2 (U (V ⟨g,0,Y⟩) (Z vs) (Z vs)) (Z vs) (vs.flatMap (JK (Br x)))
 kept:Ac [] w wz
def PU.step{w W a e:ly}{N g:Nat}{M c:rc Nat}{d:rc UInt8}{x:rc zA}{t f:zA}(q:w.heap.size=N)(h:PU w N M W g d x t a)(j:LN N t c a)(m:ZF M W c a)(k:ep N f c a e):PU w N M W g d x f e:=by
 obtain⟨l,n,b,o⟩:=k;exact⟨⟨l,n,m.step b o⟩,Ag h.row b (dn h.row j (by rfl) (by rfl)),h.kept.trans' b (λi p=>Or.inr (by have:=(j.lt i p).1;omega))⟩
def PU.calm{w W f c:ly}{b:rc UInt8}(h:PU w n M W m b e t f)(k:Ac [] f c):PU w n M W m b e t c:=by
 obtain⟨j,d,i⟩:=h.yE;exact⟨⟨j,d.kept k (by simp),i.step (k.mono (by simp)) (λq a=>⟨Or.inl a,oz (d.lt q a).2 k.size⟩)⟩,Ad h.row k,h.kept.trans k⟩
set_option maxRecDepth 100000
theorem WN(BT:Option Addr)(Bx:Nat)(P:rc CU)(H:rc AV)(A1:Option Addr)(AR:Nat)(AB:rc Mk)(o:rc Bw)(w:ly)(hP:CE w (U BT (Z P) Bx) P)(hB:Im P H)(hQ:kW w (U A1 (Z AB) AR) AB o)
  (hq:∀s,(∀f∈s,Dw H f)->aK o s/\io (Bf o) (Aw (JN o s) o s (Bf o) Bl)):
  Calls prog 52 #[U BT (Z P) Bx,U A1 (Z AB) AR] w λr p=>∃(t:zA) (s:rc Af) (L:zA->Nat) (n:Nat),r=kt (O t)/\CG H L/\Hm H L n s/\(∀c∈H,L c.head.name<n)/\t=Ge (Bf o) q9 ((Aw (JN o s) o s (Bf o) Bl).map (Gc (Bf o)))/\Ac [] w p:=by
 obtain⟨N,hN⟩:=rd w.heap.size;have HN:=Ab hN;have HM:=Ab ((re [] w).alloc (.cells #[j3 Y,U Y 0 0] 145));have FW:=Ab (LN.new w);rw[hN]at FW;have JA:=Ab (LX BT Bx P H _ (hP.kept (Aa HM)) hB);have Jx:Hid (∀cb s L n S,Tn (w.alloc (.cells #[j3 Y,U Y 0 0] 145)) cb (U BT (Z P) Bx) [] s S->Hm H L n s->Calls prog 94 #[j3 (V ⟨cb,1,Y⟩),U A1 (Z AB) AR] S λr p=>∃sp b1,r=kt (.func (.func 140) #[] #[j3 (V ⟨b1,0,Y⟩)])/\AI p b1 [j3 (V ⟨sp,0,Y⟩)] 233/\S.heap.size<=b1/\(∀m,Ac [N] p m->eR m sp o s (Bf o))/\Ac [] S p):=by
  intro cb s L n S hC hI;obtain⟨a7,ap,fs,b6,b0,xs,g1,g2,g3,_⟩:=hC.out;have hc:=g1.cell 1;have JJ:AI S N [j3 Y,U Y 0 0] 145:=by
   have h:=(rf w [j3 Y,U Y 0 0] 145).kept hC.kept;rw[hN]at h;exact h
  have hw:=hB.zd hI;obtain⟨ao,a5⟩:=hq s hI.zX;exact Th cb 1 a7 ap fs A1 AR AB o s S N _ JJ (Z4 g1 JJ (by rfl)) (by simpa using hc) g2 ⟨hQ.at_.kept ((Aa HM).trans hC.kept),hQ.map,hQ.zM,hQ.len⟩ g3 (by omega) ao a5.six
 have M6:Hid (∀s L n,Hm H L n s->io (Bf o) (Aw (JN o s) o s (Bf o) Bl)):=λs L n hI=>(hq s hI.zX).2
 clear hP hB hQ hq hN;refine En func52 rfl (GP ?_);simp only[ntmps52,nQ,mL,m8,Nat.reduceAdd,Nat.reduceSub,pd,pg,pD,pm,nM,ot];refine ra (λK1 A0=>?_);go_wp2;refine Aa A0 _ _ ?_;clear A0 K1;refine ra (λK1 A0=>?_);go_wp2;refine Aa A0 _ _ ?_;clear A0 K1;rw[Aa HN];generalize hw1:w.alloc (.cells #[j3 Y,U Y 0 0] 145)=w1 at HM FW JA Jx⊢;clear hw1;obtain⟨QQ,MN⟩:=rd (Lj (bodyPostM Fence.wide 0 prog Tryz.f52 λr p=>∃(t:zA) (s:rc Af) (L:zA->Nat) (n:Nat),r=kt (O t)/\CG H L/\Hm H L n s/\(∀c∈H,L c.head.name<n)/\t=Ge (Bf o) q9 ((Aw (JN o s) o s (Bf o) Bl).map (Gc (Bf o)))/\Ac [] w p));have ZV:=Ab MN;rw[MN];clear MN;refine ra (λK1 A0=>?_);refine ra (λK5 QR=>?_);go_wp2_with fail
 refine(Aa JA).mono ?_;rintro _ S ⟨cb,s,L,n,rfl,g1,g2,g3,g4⟩;have N2:=Ab (Aa Jx cb s L n S g1 g3);have KK:=Ab (Aa M6 s L n g3);have HI:=Ab (And.intro g2 (And.intro g3 g4));have LC:=Ab g1.kept;clear JA Jx M6 g1 g2 g3 g4;go_wp2_with fail
 refine(Aa N2).mono ?_;rintro _ w5 ⟨sp,b1,rfl,TH,bb,K8,k5⟩;have SS:Hid (Ac [] w1 w5):=(Aa LC).trans k5;have RV:=Ab ((Aa FW).kept (Aa SS) (by simp));have Nx:=((Aa RV).lt N (by simp)).2;have JJ:N<S.heap.size:=by
  have h:=((Aa FW).kept (Aa LC) (by simp)).lt N (by simp);exact h.2
 obtain⟨a,LE⟩:=rd (Bf o);obtain⟨XS,HZ⟩:=rd (Aw (JN o s) o s a Bl);rw[LE]at K8 KK;rw[HZ]at KK;have Ha:=gA sp o s a w5 [N] K8 b1 w5 [N] ⟨re _ _,TH,λk I=>by rw[my]at I;subst I;exact⟨Or.inl (by simp),by omega,Nx⟩⟩;rw[HZ]at Ha;have VL:Hid (Bf o=a/\Aw (JN o s) o s a Bl=XS):=⟨LE,HZ⟩;have P0:Hid (Ac [] w w5):=(Aa HM).trans (Aa SS);have Wa:w.heap.size<=w5.heap.size:=(Aa P0).size;clear N2 TH bb K8 k5 LC FW LE HZ;go_wp2;refine Aa QR _ _ ?_;clear QR K5;refine wp_block ?_;refine TE rfl (enters_of func140 (by kernel_rfl) rfl) Ha (λx vs W h=>by obtain⟨g,rfl,_⟩:=h;rfl) (λk I=>by rw[my]at I;subst I;exact Nx) (lO w N a) (λ_ _ _ _=>False) (lO.own Wa) (λ_ _ _ _ _ h _ _=>h) ⟨Aa RV,Aa P0⟩
  (λn0 x a' W=>∃g,a'=⟨#[U BT (Z P) Bx,U A1 (Z AB) AR,undef,undef,O ⟨#[]⟩,j3 (V ⟨N,0,Y⟩),U (V ⟨g,0,Y⟩) (Z a) (Z a),undef,undef,U BT (Z P) Bx,j3 (V ⟨cb,1,Y⟩),U A1 (Z AB) AR,.func (.func 140) #[] #[j3 (V ⟨b1,0,Y⟩)],U (V ⟨g,0,Y⟩) (Z a) (Z a),undef,undef,undef,undef,undef,undef,undef,undef,undef,undef,undef,undef,undef,undef,undef,undef,undef,undef,undef,undef,undef],[]⟩/\W.ownsRow 0 172 2 (U (V ⟨g,0,Y⟩) (Z a) (Z a)) (Z a) (a.flatMap (JK (Br x))))
  (λn0 x a'=>BF (λ_ W W' M h k hM=>by obtain⟨g,B,F⟩:=h;exact⟨g,B,Ag F k (BZ hM F)⟩)) ?rassign ?rbody ?rdone ?rstop
 case rassign=>
  intro l x vs W' a1 hx _ W0 HK;obtain⟨g,rfl,hr⟩:=W0;have TS:Hid (∀a' Os,Ac [] W' Os->_->a1 a' Os):=HK;have HR:=Ab hr;clear HK hr Ha;refine AN (by rfl) (Hj Ga) ?_;go_wp2;exact Aa TS _ _ (re _ _) ⟨g,rfl,Aa HR⟩
 case rbody=>
  intro l n0 EX x bt M a' W H6 hi hM aa UO ad;obtain⟨g,rfl,hr⟩:=ad;have Ax:=Aa KK;have KS:x∈XS:=by rw[H6];simp
  obtain⟨T0,HO⟩:=rd (Ge a q9 (EX.map (Gc a)));have BA:=hi.yE;rw[HO]at BA;have U0:Hid (PU w N M W g a x T0 W):=⟨⟨M,BA,⟨re _ _,λq hq=>⟨Or.inl hq,(BA.lt q hq).2⟩⟩⟩,hr,hi.kept⟩;have b7:T0.size<=466560000000:=by
   have B:=Q0 Ax.six (EX.map (Gc a)) q9 (λr hr y hy=>by
    obtain⟨z,hz,rfl⟩:=mD.1 hr
    obtain⟨v,hv,rfl⟩:=mD.1 hy
    have:=(Ax.canon z (by rw[H6];exact nS _ hz) v hv).2
    omega)
   rw[HO,mI]at B;(have F:Z EX<=Z XS:=by rw[H6];simp);have h3:Z EX*10000000<=46656*10000000:=nB _ (by have:=Ax.len;omega);have h4:ByteArray.empty.size=0:=rfl;omega
  obtain⟨RT,IJ⟩:=rd (Lb T0 K a (Gc a x));have W1:Hid (Lb T0 (decide (0<0)) (a.drop 0) ((Gc a x).drop 0)=RT):=IJ;have H9:Hid (∀m,PU w N M W g a x (RT++⟨#[10]⟩) m->Mw (lO w N a) (λ_ _ _ _=>False) (EX++[x]) M W .normal ⟨#[],[]⟩ m):=by
   intro m hz;obtain⟨M2,B,F⟩:=hz.yE;refine⟨F.kept,M2,⟨?_,hz.kept⟩,F.mem⟩;rw[nk,mU,oH,RH,HO,IJ];exact B
  have YP:Hid (∀v∈a,B5 (N8 (Br x) v)=N8 x v/\(N8 x v).size<=1000/\(N8 (Br x) v).size<=1000000):=λv hv=>by
   obtain⟨hc,hz⟩:=Ax.canon x KS v hv;rw[it (Ax.ok x KS) (Ax.vars v hv) hc];have:=LU (N8 x v);exact⟨GO hc,hz,by omega⟩
  have TT:Hid (∀v∈a,EP v):=Ax.vars;have h6:=Ax.six;have MB:=Aa HN;have IS:Hid (∀(d:UInt8) t m,PU w N M W g a x t m->t.size+1<=140737488355328->Calls prog 77 #[j3 (V ⟨N,0,Y⟩),X .u8 (d.toNat:Int)] m λe p=>e=kt .nilIface/\PU w N M W g a x (t++⟨#[d]⟩) p/\∀b cs,AI m b cs 172->AI p b cs 172):=by
   intro d t m h hl;obtain⟨M2,B,F⟩:=h.yE;refine(UW N t M2 d m B hl).mono ?_;rintro e p ⟨rfl,hW⟩;refine⟨rfl,h.step MB B F hW,λb cs hb=>?_⟩;obtain⟨_,_,I,_⟩:=hW;exact hb.kept I (TG hb B (by rfl) (by rfl))
  have VR:Hid (∀(d:UInt8) t m,PU w N M W g a x t m->d.toNat<=127->t.size+1<=140737488355328->Calls prog 95 #[j3 (V ⟨N,0,Y⟩),X .i32 (d.toNat:Int)] m λe p=>(∃v,e=kt v)/\PU w N M W g a x (t++⟨#[d]⟩) p/\∀b cs,AI m b cs 172->AI p b cs 172):=by
   intro d t m h hd hl;obtain⟨M2,B,F⟩:=h.yE;refine(bU N t M2 d m B hd hl).mono ?_;rintro e p ⟨hv,hW⟩;refine⟨hv,h.step MB B F hW,λb cs hb=>?_⟩;obtain⟨_,_,I,_⟩:=hW;exact hb.kept I (TG hb B (by rfl) (by rfl))
  have an:Hid (∀(y:zA) t m,PU w N M W g a x t m->t.size+y.size<=140737488355328->Calls prog 75 #[j3 (V ⟨N,0,Y⟩),O y] m λe p=>e=kt (.tuple #[X .i64 y.size,.nilIface])/\PU w N M W g a x (t++y) p):=by
   intro y t m h hl;obtain⟨M2,B,F⟩:=h.yE;refine(XO N t M2 y m B hl).mono ?_;rintro e p ⟨rfl,hW⟩;exact⟨rfl,h.step MB B F hW⟩
  clear hi hr BA Ax KS HO IJ H6 hM aa UO Ha;refine wpIn_block ?_;refine ol (λK3 HB=>?_);have HG:=Ab HB;clear HB;refine ol (λG u=>?_);have A:=Ab u;clear u;refine AN (by rfl) (by rintro ⟨_,_,h⟩;exact h) ?_;go_wp2;refine Aa A _ _ ?_;clear A G;refine wpIn_block ?_
  gi_loopw [16] (λi m=>∃(j:Nat) (t:zA),i=X .i64 j/\j<=Z a/\t.size<=T0.size+j*1000010/\Hid (Lb t (decide (0<j)) (a.drop j) ((Gc a x).drop j)=RT)/\Hid (PU w N M W g a x t m)) (λi _=>Z a-(intOf i).toNat)
  case atStart=>exact⟨0,T0,rfl,mO _,by omega,W1,U0⟩
  case round=>
   obtain⟨j,t,rfl,hj,av,HC,FP⟩:=hrel;have b2:j*1000010<=6*1000010:=nB _ (by omega);by_cases B9:j<Z a
   .obtain⟨g',bx,he,_,KD⟩:=AC (Aa FP).row (λc _=>Uo (Br x) c) j B9;simp only[mu,mB,nr]at he;obtain⟨⟨rfl,-,-⟩,-,-⟩:=he;have d0:=KD j B9 0 (by omega);have d1:=KD j B9 1 (by omega);simp[JK]at d0 d1;(have aT:j<Z (Gc a x):=by unfold Gc;rw[mI];exact B9);have HA:Hid (Lb ((if decide (0<j)then t++⟨#[32]⟩else t)++⟨#[a[j]]⟩++⟨#[61]⟩++N8 x a[j]) true (a.drop (j+1)) ((Gc a x).drop (j+1))=RT):=by
     have h:=Aa HC;rw[mQ B9,mQ aT,Lb]at h;(have e:(Gc a x)[j]=N8 x a[j]:=by simp[Gc]);rw[e]at h;exact h
    obtain⟨HJ,M0,HU⟩:=Aa YP a[j] (mw B9);have af:=(Aa TT a[j] (mw B9)).2;obtain⟨E,hV⟩:=rd (a[j]);rw[hV]at d0 d1 HA HJ M0 HU af;obtain⟨T,hY⟩:=rd (N8 (Br x) E);obtain⟨EY,hX⟩:=rd (N8 x E);rw[hY]at d1 HJ HU;rw[hX]at HA HJ M0;(have ca:(0:Int)<=(j:Int):=by omega);(have WB:(j:Int)<(Z a:Int):=by omega);have NV:=Ab (λm=>Kv T m HU);rw[HJ]at NV;clear KD HC hV hY hX HJ HU;refine ol (λG u=>?_);have A:=Ab u;clear u;refine AN (by rfl) (by rintro ⟨_,_,h⟩;exact h) ?_;go_wp2;refine Aa A _ _ ?_;clear A G;refine ol (λG u=>?_);have A:=Ab u;clear u;refine pO rfl (wpIn_skip ?_);refine Aa A _ _ ?_;clear A G;refine ol (λK6 NL=>?_);have Mo:=Ab NL;clear NL;refine wpIn_block ?_;refine ol (λG u=>?_);have A:=Ab u;clear u;refine AN (by rfl) (by rintro ⟨_,_,h⟩;exact h) ?_;have HW:=Ab (rf wr [X .i32 (E.toNat:Int),O T] 172);have HY:=Ab ((Aa FP).calm ((re [] wr).alloc (.cells #[X .i32 (E.toNat:Int),O T] 172)));go_wp2;refine Aa A _ _ ?_;clear A G;change Code.wpIn _ _ _ _ _ _ (wr.alloc (.cells [X .i32 (E.toNat:Int),O T].toArray 172));generalize wr.alloc (.cells [X .i32 (E.toNat:Int),O T].toArray 172)=w7 at HW HY⊢;obtain⟨NX,S0⟩:=rd wr.heap.size;rw[S0]at HW⊢;clear S0 d0 d1 FP;obtain⟨t3,LL,cc⟩:∃t3,(if decide (0<j)then t++⟨#[32]⟩else t)=t3/\t3.size<=t.size+1:=⟨_,rfl,by
     split
     .rw[mH];exact mP _
     .omega⟩
    rw[LL]at HA;have NB:Hid (Lb (t3++⟨#[E]⟩++⟨#[61]⟩++EY) (decide (0<j+1)) (a.drop (j+1)) ((Gc a x).drop (j+1))=RT):=by
     have h:=Aa HA;show _=_;simpa using h
    have NE:(t3++⟨#[E]⟩++⟨#[61]⟩++EY:zA).size<=T0.size+(j+1)*1000010:=by
     rw[mH,mH,mH];show t3.size+1+1+EY.size<=_;omega
    (have TV:(t3++⟨#[E]⟩:zA).size=t3.size+1:=by rw[mH];rfl);(have ch:(t3++⟨#[E]⟩++⟨#[61]⟩:zA).size=t3.size+1+1:=by rw[mH,TV];rfl);have TL:=Ab LL;clear HA LL;refine ol (λG u=>?_);have A:=Ab u;clear u;have NA:Hid (∀SL Op SP m,PU w N M W g a x t3 m->AI m NX [X .i32 (E.toNat:Int),O T] 172->G ⟨#[U BT (Z P) Bx,U A1 (Z AB) AR,undef,undef,O ⟨#[]⟩,j3 (V ⟨N,0,Y⟩),U (V ⟨g,0,Y⟩) (Z a) (Z a),X .i64 j,j3 (V ⟨NX,0,Y⟩),U BT (Z P) Bx,j3 (V ⟨cb,1,Y⟩),U A1 (Z AB) AR,.func (.func 140) #[] #[j3 (V ⟨b1,0,Y⟩)],U (V ⟨g,0,Y⟩) (Z a) (Z a),U (V ⟨g,0,Y⟩) (Z a) (Z a),X .i64 (Z a),X .i64 j,.bool true,X .i64 j,j3 (V ⟨g,j*2,Y⟩),.agg #[X .i32 (E.toNat:Int),O T],SL,Op,SP,u24,u25,u26,u27,u28,u29,u30,u31,u32,undef,undef],[]⟩ m):=by
     intro SL Op SP m C KA;refine Aa A _ _ ?_;have e0:=KA.cell 0;simp at e0;have SJ:=Ab (Aa VR E t3 m C (by omega) (by omega));have S1:=Ab KA;clear A C KA;refine ol (λK7 A2=>?_);have R:=Ab A2;clear A2;refine AN (by rfl) (by rintro ⟨_,_,h⟩;exact h) ?_;(go_wp2_with fail);refine(Aa SJ).mono ?_;rintro _ w8 ⟨⟨v8,rfl⟩,C,Q⟩;have OH:=Ab (Q _ _ (Aa S1));have ST:=Ab (Aa IS 61 (t3++⟨#[E]⟩) w8 C (by omega));clear SJ S1 C Q e0;go_wp2;refine Aa R _ _ ?_;clear R K7;refine ol (λK7 A2=>?_);have R:=Ab A2;clear A2;refine AN (by rfl) (by rintro ⟨_,_,h⟩;exact h) ?_;(go_wp2_with fail);refine(Aa ST).mono ?_;rintro _ w9 ⟨rfl,C,Q⟩;have NN:=Q _ _ (Aa OH);have e1:=NN.cell 1;simp at e1;have SB:=Ab (Aa an EY (t3++⟨#[E]⟩++⟨#[61]⟩) w9 C (by omega));have Nj:=Ab (Aa NV w9);clear ST OH C Q NN;go_wp2;refine Aa R _ _ ?_;clear R K7;refine AN (by rfl) (by rintro ⟨_,_,h⟩;exact h) ?_;(go_wp2_with fail);refine(Aa Nj).mono ?_;rintro _ cf ⟨rfl,rfl⟩;clear Nj;(go_wp2_with fail);refine(Aa SB).mono ?_;rintro _ b4 ⟨rfl,C⟩;have a9:=Ab C;clear SB C e1;go_wp2;refine Aa Mo _ _ ?_;clear Mo;refine AN (by rfl) (by rintro ⟨_,_,h⟩;exact h) ?_;go_wp2
     go_roundw
     case rel=>exact⟨j+1,_,by go_num,by omega,NE,NB,a9⟩
     case measure=>simp[intOf];omega
    clear A Mo NB NE;refine ol (λK7 A2=>?_);have R:=Ab A2;clear A2;refine AN (by rfl) (by rintro ⟨_,_,h⟩;exact h) ?_;by_cases h0:0<j
    ·(have a4:(0:Int)<(j:Int):=by omega);have ES:Hid (t++⟨#[32]⟩=t3):=by
      have h:=Aa TL;rw[mK (by simpa using h0)]at h;exact h
     have FB:=Ab (Aa IS 32 t w7 (Aa HY) (by omega));rw[Aa ES]at FB;go_wp2;refine Aa R _ _ ?_;clear R K7;refine pO rfl ?_;refine AN (by rfl) (by rintro ⟨_,_,h⟩;exact h) ?_;(go_wp2_with fail);refine(Aa FB).mono ?_;rintro _ w8 ⟨rfl,C,Q⟩;have a3:=Ab C;have WS:=Ab (Q _ _ (Aa HW));clear FB C Q;go_wp2;exact Aa NA _ _ _ _ (Aa a3) (Aa WS)
    ·(have a4:¬(0:Int)<(j:Int):=by omega);have ES:Hid (t=t3):=by
      have h:=Aa TL;rw[mJ (by simpa using h0)]at h;exact h
     rw[Aa ES]at HY;go_wp2;refine Aa R _ _ ?_;clear R K7;refine pJ rfl (wpIn_skip ?_);exact Aa NA _ _ _ _ (Aa HY) (Aa HW)
   .have ES:Hid (t=RT):=by
     have h:=Aa HC;rw[ni (by omega)]at h;(have e:∀(b:Bool) (l:rc zA),Lb t b [] l=t:=λb l=>by cases l<;>rfl);rw[e]at h;exact h
    rw[Aa ES]at av FP;have FB:=Ab (Aa IS 10 RT wr (Aa FP) (by omega));(have WB:¬(j:Int)<(Z a:Int):=by omega);clear HC ES FP;refine ol (λG u=>?_);have A:=Ab u;clear u;refine AN (by rfl) (by rintro ⟨_,_,h⟩;exact h) ?_;go_wp2;refine Aa A _ _ ?_;clear A G;refine ol (λG u=>?_);have A:=Ab u;clear u A;refine pJ rfl (wpIn_exit ?_);refine Aa HG _ _ ?_;clear HG;refine AN (by rfl) (by rintro ⟨_,_,h⟩;exact h) ?_;(go_wp2_with fail);refine(Aa FB).mono ?_;rintro _ w8 ⟨rfl,C,_⟩;have HP:=Ab (Aa H9 w8 C);clear FB C H9;go_wp2;exact Aa HP
 case rdone=>
  intro D M' W2 hD hi hd _;have W3:D≠N:=by omega
  obtain⟨TX,K9⟩:=rd (Ge a q9 (XS.map (Gc a)));have BA:=hi.yE;rw[K9]at BA;have DG:=Ab (Xx N TX M' W2 BA);have H9:Hid (∀(LB:Array Value) p,LB.getD 4 undef=O TX->Below N W2 p->Lib.OthersKept 5 (V N) W2 p->QQ .ret ⟨LB,[EU D]⟩ p):=by
   intro LB p h4 Q WW;rw[<-Aa ZV];have NY:DC w.heap.size [D] p:=⟨by simp,λd HS=>by simp only[my]at HS;omega,λd HS=>by simp only[my]at HS;rw[HS];exact WW D _ hd (by simpa using W3) (λc fz h=>by cases h)⟩;refine Dg [D] p NY (λce hs=>?_);have a0:OwnFrom w.heap.size (fun(_:Unit) W=>Ac [] w W):=BF (λ_ W W' M h kk hM=>DS h kk hM (mP _));have a2:Ac [] w p:=by
    have h:=Q;rw[<-Aa HN]at h;exact IG hi.kept h
   have I:=hs.own a0 (s:=()) NY a2;obtain⟨g2,g3,g4⟩:=Aa HI;obtain⟨e1,e2⟩:=Aa VL;refine⟨_,results_tmp rfl _ _ _,TX,s,L,n,by rw[h4],g2,g3,g4,?_,I⟩;rw[e1,e2,K9]
  clear hi hd BA K9 Ha;refine Aa A0 _ _ ?_;clear A0;refine ra (λK3 HG=>?_);go_wp2_with fail
  refine(Aa DG).mono ?_;rintro _ w3 ⟨rfl,B,F⟩;have ar:=Ab B;have X2:=Ab F;clear DG B F;go_wp2;refine Aa HG _ _ ?_;clear HG K3;refine wp_ret ?_;exact Aa H9 _ _ rfl (Aa ar) (Aa X2)
 case rstop=>
  intro D c EX M' W2 _ h _;exact h.elim
