import Derived.LoopIn
import Derived.Test.YtoihbhenbmffcaaGreatDoorXBD
set_option linter.all false
set_option maxHeartbeats 0
open List renaming length->Z
open Option renaming none->Y,some->V
open Go.Value renaming slice->U,int->X,string->O,pointer->m2,ownBlock->pI
open Bool renaming false->K
open Go.Ending renaming returned->oa
open Go renaming World->py
open ByteArray renaming empty->pF
namespace Go.Proofs.YtoihbhenbmffcaaGreatDoor
open Go.RowKit Go.Proofs.Tryz
variable{w:py}{e:pM zA}{g:UInt8}{T:TypeId}{z:Value}{y:pM Value}{s t:zA}{M:pM Nat}{b n m:Nat}
def Q3(a:pM UInt8):∀(l:pM (pM zA)) (t:zA) (r:pM zA),FK a t (l++[r])=Kl (FK a t l) K a r++⟨#[10]⟩
 |[],t,r=>rfl
 |x::l,t,r=>by rw[mV,FK,Q3 a l,FK]
def T1:∀(a:pM UInt8) (c:pM zA) (t:zA) (b:Bool),(∀x∈c,x.size<=1000000)->(Kl t b a c).size<=t.size+Z a*1000010
 |[],c,t,b,_=>by simp[Kl]
 |v::a,[],t,b,_=>by simp[Kl]
 |v::a,x::c,t,b,h=>by
  rw[Kl];have f:=T1 a c ((if b then t++⟨#[32]⟩else t)++⟨#[v]⟩++⟨#[61]⟩++x) true (λy d=>h y (by simp[d]));have e:((if b then t++⟨#[32]⟩else t)++⟨#[v]⟩++⟨#[61]⟩++x:zA).size<=t.size+1+1+1+x.size:=by
   rw[lh,lh,lh];cases b with
   |true=>
    rw[ln rfl,lh];show t.size+1+1+1+x.size<=_;omega
   |false=>
    show t.size+1+1+x.size<=_;omega
  have g:=h x (by simp);rw[lj];omega
def Qm{a:pM UInt8}(b:Z a<=6):∀(l:pM (pM zA)) (t:zA),(∀r∈l,∀x∈r,x.size<=1000000)->(FK a t l).size<=t.size+Z l*10000000
 |[],t,_=>by simp[FK]
 |r::l,t,h=>by
  rw[FK];have d:=Qm b l (Kl t K a r++⟨#[10]⟩) (λr c=>h r (by simp[c]));have e:=T1 a r t K (h r (by simp));rw[lh]at d;have g:(⟨#[10]⟩:zA).size=1:=rfl;have f:Z a*1000010<=6*1000010:=mh _ b;rw[lj];omega
structure km(w:py)(N:Nat)(vs:pM UInt8)(pre:pM (pM zA))(M:pM Nat)(W:py):Prop where
 z9:KU N (FK vs pF (pre.map (FI vs))) M W
 kept:Ac [] w W
def km.own{N B:Nat}{g:pM UInt8}(j:w.heap.size<=B):OwnFrom B (fun(q:pM (pM zA)×pM Nat) W=>km w N g q.1 q.2 W):=
 BO (λq W l M h a b=>by
  refine⟨?_,Eo h.kept a b j⟩
  obtain⟨p,k,i,e,d,c,f⟩:=h.z9
  exact⟨p,k,i,e,d.kept a (CY b d),Ai c a (Co b c),f⟩)
structure fW(vs:pM UInt8)(XS:pM (pM zA)):Prop where
 len:Z XS<=46656
 canon:∀x∈XS,∀v∈vs,A8 (Nk x v)/\(Nk x v).size<=1000
 ok:∀x∈XS,Z x=26
 vars:∀v∈vs,Ew v
 six:Z vs<=6
def gd(c:Z e=26)(b:Ew g)(a:A8 (Nk e g)):Nk (Bn e) g=AE (Nk e g):=by
 unfold Nk at a⊢;obtain⟨f,d⟩:=b;unfold Bn;rw[lq,mA,lc (by omega)];rw[lq,lc (by omega)]at a⊢;exact CK a
def cq{q x n N:Nat}(h:w.ownsRow q T x z n y)(r:KU N s M w)(l:(T==145)=K)(j:(T==5)=K):∀i,z.ownBlock=V i->i∉M:=by
 intro i d a;obtain⟨p,A,m,_,o,k,rfl⟩:=r;rcases kZ.1 a with rfl|a
 .exact Mb h o l _ d (by simp)
 .have a:(U A s.size m).ownBlock=V i:=by simpa using a
  rcases k.2 with⟨b,_⟩|⟨g,c,f,b,_,u,_⟩
  .rw[b]at a;simp[pI]at a
  .rw[b]at a;simp only[pI,ld]at a;subst a;exact Mb (t:=5) h (N:=g) (cs:=f.toList) (by unfold AF;simpa using u) j _ d (by simp)
def S9(h:AF w b y T)(j:KU n s M w)(f:(T==145)=K)(c:(T==5)=K):b∉M:=by
 intro a;obtain⟨p,k,g,_,i,d,rfl⟩:=j;rcases kZ.1 a with rfl|a
 .exact Zt h i f (by simp)
 .have a:(U k s.size g).ownBlock=V b:=by simpa using a
  exact Mb d h (by cases hh:((5:TypeId)==T)with|false=>rfl|true=>rw[mT]at hh;rw[<-hh]at c;simp at c) b a (by simp)
structure Pe(w:py)(N:Nat)(M:pM Nat)(W:py)(g:Nat)(vs:pM UInt8)(x:pM zA)(t:zA)(wz:py):Prop where
 z9:∃M2,KU N t M2 wz/\Y7 M W M2 wz
 row:wz.ownsRow 0 172 2 (U (V ⟨g,0,Y⟩) (Z vs) (Z vs)) (Z vs) (vs.flatMap (Jb (Bn x)))
 kept:Ac [] w wz
def Pe.step{w W a e:py}{N g:Nat}{M c:pM Nat}{d:pM UInt8}{x:pM zA}{t f:zA}(q:w.heap.size=N)(h:Pe w N M W g d x t a)(j:KU N t c a)(m:Y7 M W c a)(k:dv N f c a e):Pe w N M W g d x f e:=by
 obtain⟨l,n,b,o⟩:=k;exact⟨⟨l,n,m.step b o⟩,Ai h.row b (cq h.row j (by rfl) (by rfl)),h.kept.trans' b (λi p=>Or.inr (by have:=(j.lt i p).1;omega))⟩
def Pe.calm{w W f c:py}{b:pM UInt8}(h:Pe w n M W m b e t f)(k:Ac [] f c):Pe w n M W m b e t c:=by
 obtain⟨j,d,i⟩:=h.z9;exact⟨⟨j,d.kept k,i.step (k.mono (by simp)) (λq a=>⟨Or.inl a,mX (d.lt q a).2 k.size⟩)⟩,Ad h.row k,h.kept.trans k⟩
set_option maxRecDepth 100000
theorem Wk(B0:Option Addr)(BA:Nat)(P:pM Dy)(H:pM A4)(A2:Option Addr)(AT:Nat)(AB:pM Lz)(o:pM Br)(w:py)(hP:DE w (U B0 (Z P) BA) P)(hB:M9 P H)(hQ:jS w (U A2 (Z AB) AT) AB o)
  (hq:∀s,(∀f∈s,D0 H f)->ZX o s/\fW (Bf o) (Aw (Jc o s) o s (Bf o) Bk)):
  Calls prog 52 #[U B0 (Z P) BA,U A2 (Z AB) AT] w λr p=>∃(t:zA) (s:pM Af) (L:zA->Nat) (n:Nat),r=oa (O t)/\CR H L/\GF H L n s/\(∀c∈H,L c.head.name<n)/\t=FK (Bf o) pF ((Aw (Jc o s) o s (Bf o) Bk).map (FI (Bf o)))/\Ac [] w p:=by
 obtain⟨N,hN⟩:=pN w.heap.size;have HN:=Ab hN;have HQ:=Ab ((pO [] w).alloc (.cells #[m2 Y,U Y 0 0] 145));have Ha:=Ab (KU.new w);rw[hN]at Ha;have KA:=Ab (Pr B0 BA P H _ (hP.kept (Aa HQ)) hB);have JJ:Hid (∀cb s L n S,SQ (w.alloc (.cells #[m2 Y,U Y 0 0] 145)) cb (U B0 (Z P) BA) [] s S->GF H L n s->Calls prog 94 #[m2 (V ⟨cb,1,Y⟩),U A2 (Z AB) AT] S λr p=>∃sp b1,r=oa (.func (.func 140) #[] #[m2 (V ⟨b1,0,Y⟩)])/\AF p b1 [m2 (V ⟨sp,0,Y⟩)] 233/\S.heap.size<=b1/\(∀m,Ac [N] p m->dU m sp o s (Bf o))/\Ac [] S p):=by
  intro cb s L n S hC hI;obtain⟨a9,av,fs,b9,b3,xs,g1,g2,g3,_⟩:=hC.out;have hc:=g1.cell 1;have KB:AF S N [m2 Y,U Y 0 0] 145:=by
   have h:=(pP w [m2 Y,U Y 0 0] 145).kept hC.kept;rw[hN]at h;exact h
  have hw:=hB.zb hI;obtain⟨ar,a7⟩:=hq s hI.zW;exact SI cb 1 a9 av fs A2 AT AB o s S N _ KB (Zt g1 KB (by rfl)) (by simpa using hc) g2 ⟨hQ.at_.kept ((Aa HQ).trans hC.kept),hQ.map,hQ.zK,hQ.len⟩ g3 (by omega) ar a7.six
 have Nj:Hid (∀s L n,GF H L n s->fW (Bf o) (Aw (Jc o s) o s (Bf o) Bk)):=λs L n hI=>(hq s hI.zW).2
 clear hP hB hQ hq hN;refine EC func52 rfl (Gt ?_);simp only[ntmps52,mE,lj,lO,Nat.reduceAdd,Nat.reduceSub,nL,nM,oh,nR,mw,mV];refine pL (λK1 A1=>?_);go_wp2;refine Aa A1 _ _ ?_;clear A1 K1;refine pL (λK1 A1=>?_);go_wp2;refine Aa A1 _ _ ?_;clear A1 K1;rw[Aa HN];generalize hw1:w.alloc (.cells #[m2 Y,U Y 0 0] 145)=w1 at HQ Ha KA JJ⊢;clear hw1;obtain⟨QQ,M0⟩:=pN (Kr (bodyPostM Fence.wide 0 prog Tryz.f52 λr p=>∃(t:zA) (s:pM Af) (L:zA->Nat) (n:Nat),r=oa (O t)/\CR H L/\GF H L n s/\(∀c∈H,L c.head.name<n)/\t=FK (Bf o) pF ((Aw (Jc o s) o s (Bf o) Bk).map (FI (Bf o)))/\Ac [] w p));have ab:=Ab M0;rw[M0];clear M0;refine pL (λK1 A1=>?_);refine pL (λK5 RE=>?_);go_wp2_with fail
 refine(Aa KA).mono ?_;rintro _ S ⟨cb,s,L,n,rfl,g1,g2,g3,g4⟩;have Os:=Ab (Aa JJ cb s L n S g1 g3);have KS:=Ab (Aa Nj s L n g3);have HI:=Ab (And.intro g2 (And.intro g3 g4));have LE:=Ab g1.kept;clear KA JJ Nj g1 g2 g3 g4;go_wp2_with fail
 refine(Aa Os).mono ?_;rintro _ w5 ⟨sp,b1,rfl,TL,bl,K9,k5⟩;have S0:Hid (Ac [] w1 w5):=(Aa LE).trans k5;have SJ:=Ab ((Aa Ha).kept (Aa S0));have NB:=((Aa SJ).lt N (by simp)).2;have KB:N<S.heap.size:=by
  have h:=((Aa Ha).kept (Aa LE)).lt N (by simp);exact h.2
 obtain⟨a,LM⟩:=pN (Bf o);obtain⟨XS,H1⟩:=pN (Aw (Jc o s) o s a Bk);rw[LM]at K9 KS;rw[H1]at KS;have HB:=fe sp o s a w5 [N] K9 b1 w5 [N] ⟨pO _ _,TL,λk I=>by rw[kY]at I;subst I;exact⟨Or.inl (by simp),by omega,NB⟩⟩;rw[H1]at HB;have Wa:Hid (Bf o=a/\Aw (Jc o s) o s a Bk=XS):=⟨LM,H1⟩;have RB:Hid (Ac [] w w5):=(Aa HQ).trans (Aa S0);have WS:w.heap.size<=w5.heap.size:=(Aa RB).size;clear Os TL bl K9 k5 LE Ha LM H1;go_wp2;refine Aa RE _ _ ?_;clear RE K5;refine wp_block ?_;refine S7 rfl (enters_of func140 (by kernel_rfl) rfl) HB (λx vs W h=>by obtain⟨g,rfl,_⟩:=h;rfl) (λk I=>by rw[kY]at I;subst I;exact NB) (km w N a) (λ_ _ _ _=>False) (km.own WS) (λ_ _ _ _ _ h _ _=>h) ⟨Aa SJ,Aa RB⟩
  (λn0 x a' W=>∃g,a'=⟨#[U B0 (Z P) BA,U A2 (Z AB) AT,undef,undef,O ⟨#[]⟩,m2 (V ⟨N,0,Y⟩),U (V ⟨g,0,Y⟩) (Z a) (Z a),undef,undef,U B0 (Z P) BA,m2 (V ⟨cb,1,Y⟩),U A2 (Z AB) AT,.func (.func 140) #[] #[m2 (V ⟨b1,0,Y⟩)],U (V ⟨g,0,Y⟩) (Z a) (Z a),undef,undef,undef,undef,undef,undef,undef,undef,undef,undef,undef,undef,undef,undef,undef,undef,undef,undef,undef,undef,undef],[]⟩/\W.ownsRow 0 172 2 (U (V ⟨g,0,Y⟩) (Z a) (Z a)) (Z a) (a.flatMap (Jb (Bn x))))
  (λn0 x a'=>BO (λ_ W W' M h k hM=>by obtain⟨g,B,F⟩:=h;exact⟨g,B,Ai F k (Co hM F)⟩)) ?rassign ?rbody ?rdone ?rstop
 case rassign=>
  intro l x vs W' a3 hx _ W3 HK;obtain⟨g,rfl,hr⟩:=W3;have TV:Hid (∀a' Pl,Ac [] W' Pl->_->a3 a' Pl):=HK;have HR:=Ab hr;clear HK hr HB;refine AM (by rfl) (Iw Gz) ?_;go_wp2;exact Aa TV _ _ (pO _ _) ⟨g,rfl,Aa HR⟩
 case rbody=>
  intro l n0 E0 x bx M a' W H8 hi hM ad U1 ag;obtain⟨g,rfl,hr⟩:=ag;have Ax:=Aa KS;have K2:x∈XS:=by rw[H8];simp
  obtain⟨T0,HS⟩:=pN (FK a pF (E0.map (FI a)));have BS:=hi.z9;rw[HS]at BS;have VL:Hid (Pe w N M W g a x T0 W):=⟨⟨M,BS,⟨pO _ _,λq hq=>⟨Or.inl hq,(BS.lt q hq).2⟩⟩⟩,hr,hi.kept⟩;have ca:T0.size<=466560000000:=by
   have B:=Qm Ax.six (E0.map (FI a)) pF (λr hr y hy=>by
    obtain⟨z,hz,rfl⟩:=lk.1 hr
    obtain⟨v,hv,rfl⟩:=lk.1 hy
    have:=(Ax.canon z (by rw[H8];exact nY _ hz) v hv).2
    omega)
   rw[HS,lm]at B;(have F:Z E0<=Z XS:=by rw[H8];simp);have h3:Z E0*10000000<=46656*10000000:=mh _ (by have:=Ax.len;omega);have h4:ByteArray.empty.size=0:=rfl;omega
  obtain⟨RT,Jx⟩:=pN (Kl T0 K a (FI a x));have X0:Hid (Kl T0 (decide (0<0)) (a.drop 0) ((FI a x).drop 0)=RT):=Jx;have IA:Hid (∀m,Pe w N M W g a x (RT++⟨#[10]⟩) m->LP (km w N a) (λ_ _ _ _=>False) (E0++[x]) M W .normal ⟨#[],[]⟩ m):=by
   intro m hz;obtain⟨M2,B,F⟩:=hz.z9;refine⟨F.kept,M2,⟨?_,hz.kept⟩,F.mem⟩;rw[lV,lE,m8,Q3,HS,Jx];exact B
  have aa:Hid (∀v∈a,BZ (Nk (Bn x) v)=Nk x v/\(Nk x v).size<=1000/\(Nk (Bn x) v).size<=1000000):=λv hv=>by
   obtain⟨hc,hz⟩:=Ax.canon x K2 v hv;rw[gd (Ax.ok x K2) (Ax.vars v hv) hc];have:=Pk (Nk x v);exact⟨Gr hc,hz,by omega⟩
  have UO:Hid (∀v∈a,Ew v):=Ax.vars;have h6:=Ax.six;have MY:=Aa HN;have JA:Hid (∀(d:UInt8) t m,Pe w N M W g a x t m->t.size+1<=140737488355328->Calls prog 77 #[m2 (V ⟨N,0,Y⟩),X .u8 (d.toNat:Int)] m λe p=>e=oa .nilIface/\Pe w N M W g a x (t++⟨#[d]⟩) p/\∀b cs,AF m b cs 172->AF p b cs 172):=by
   intro d t m h hl;obtain⟨M2,B,F⟩:=h.z9;refine(Ur N t M2 d m B hl).mono ?_;rintro e p ⟨rfl,hW⟩;refine⟨rfl,h.step MY B F hW,λb cs hb=>?_⟩;obtain⟨_,_,I,_⟩:=hW;exact hb.kept I (S9 hb B (by rfl) (by rfl))
  have WB:Hid (∀(d:UInt8) t m,Pe w N M W g a x t m->d.toNat<=127->t.size+1<=140737488355328->Calls prog 95 #[m2 (V ⟨N,0,Y⟩),X .i32 (d.toNat:Int)] m λe p=>(∃v,e=oa v)/\Pe w N M W g a x (t++⟨#[d]⟩) p/\∀b cs,AF m b cs 172->AF p b cs 172):=by
   intro d t m h hd hl;obtain⟨M2,B,F⟩:=h.z9;refine(aV N t M2 d m B hd hl).mono ?_;rintro e p ⟨hv,hW⟩;refine⟨hv,h.step MY B F hW,λb cs hb=>?_⟩;obtain⟨_,_,I,_⟩:=hW;exact hb.kept I (S9 hb B (by rfl) (by rfl))
  have ap:Hid (∀(y:zA) t m,Pe w N M W g a x t m->t.size+y.size<=140737488355328->Calls prog 75 #[m2 (V ⟨N,0,Y⟩),O y] m λe p=>e=oa (.tuple #[X .i64 y.size,.nilIface])/\Pe w N M W g a x (t++y) p):=by
   intro y t m h hl;obtain⟨M2,B,F⟩:=h.z9;refine(Xd N t M2 y m B hl).mono ?_;rintro e p ⟨rfl,hW⟩;exact⟨rfl,h.step MY B F hW⟩
  clear hi hr BS Ax K2 HS Jx H8 hM ad U1 HB;refine wpIn_block ?_;refine mM (λK3 HE=>?_);have HJ:=Ab HE;clear HE;refine mM (λG u=>?_);have A:=Ab u;clear u;refine AM (by rfl) (by rintro ⟨_,_,h⟩;exact h) ?_;go_wp2;refine Aa A _ _ ?_;clear A G;refine wpIn_block ?_
  gi_loopw [16] (λi m=>∃(j:Nat) (t:zA),i=X .i64 j/\j<=Z a/\t.size<=T0.size+j*1000010/\Hid (Kl t (decide (0<j)) (a.drop j) ((FI a x).drop j)=RT)/\Hid (Pe w N M W g a x t m)) (λi _=>Z a-(intOf i).toNat)
  case atStart=>exact⟨0,T0,rfl,lz _,by omega,X0,VL⟩
  case round=>
   obtain⟨j,t,rfl,hj,a0,HC,FW⟩:=hrel;have b4:j*1000010<=6*1000010:=mh _ (by omega);by_cases CC:j<Z a
   .obtain⟨g',b0,he,_,KK⟩:=AC (Aa FW).row (λc _=>TR (Bn x) c) j CC;simp only[kS,ld,lW]at he;obtain⟨⟨rfl,-,-⟩,-,-⟩:=he;have d0:=KK j CC 0 (by omega);have d1:=KK j CC 1 (by omega);simp[Jb]at d0 d1;(have a1:j<Z (FI a x):=by unfold FI;rw[lm];exact CC);have HD:Hid (Kl ((if decide (0<j)then t++⟨#[32]⟩else t)++⟨#[a[j]]⟩++⟨#[61]⟩++Nk x a[j]) true (a.drop (j+1)) ((FI a x).drop (j+1))=RT):=by
     have h:=Aa HC;rw[lD CC,lD a1,Kl]at h;(have e:(FI a x)[j]=Nk x a[j]:=by simp[FI]);rw[e]at h;exact h
    obtain⟨HM,M3,HW⟩:=Aa aa a[j] (kV CC);have al:=(Aa UO a[j] (kV CC)).2;obtain⟨E,hV⟩:=pN (a[j]);rw[hV]at d0 d1 HD HM M3 HW al;obtain⟨T,hY⟩:=pN (Nk (Bn x) E);obtain⟨FA,hX⟩:=pN (Nk x E);rw[hY]at d1 HM HW;rw[hX]at HD HM M3;(have cf:(0:Int)<=(j:Int):=by omega);(have WW:(j:Int)<(Z a:Int):=by omega);have N2:=Ab (λm=>JV T m HW);rw[HM]at N2;clear KK HC hV hY hX HM HW;refine mM (λG u=>?_);have A:=Ab u;clear u;refine AM (by rfl) (by rintro ⟨_,_,h⟩;exact h) ?_;go_wp2;refine Aa A _ _ ?_;clear A G;refine mM (λG u=>?_);have A:=Ab u;clear u;refine n7 rfl (wpIn_skip ?_);refine Aa A _ _ ?_;clear A G;refine mM (λK6 NS=>?_);have MN:=Ab NS;clear NS;refine wpIn_block ?_;refine mM (λG u=>?_);have A:=Ab u;clear u;refine AM (by rfl) (by rintro ⟨_,_,h⟩;exact h) ?_;have HY:=Ab (pP wr [X .i32 (E.toNat:Int),O T] 172);have H0:=Ab ((Aa FW).calm ((pO [] wr).alloc (.cells #[X .i32 (E.toNat:Int),O T] 172)));go_wp2;refine Aa A _ _ ?_;clear A G;change Code.wpIn _ _ _ _ _ _ (wr.alloc (.cells [X .i32 (E.toNat:Int),O T].toArray 172));generalize wr.alloc (.cells [X .i32 (E.toNat:Int),O T].toArray 172)=w7 at HY H0⊢;obtain⟨NX,TH⟩:=pN wr.heap.size;rw[TH]at HY⊢;clear TH d0 d1 FW;obtain⟨t3,LS,ch⟩:∃t3,(if decide (0<j)then t++⟨#[32]⟩else t)=t3/\t3.size<=t.size+1:=⟨_,rfl,by
     split
     .rw[lh];exact lC _
     .omega⟩
    rw[LS]at HD;have NM:Hid (Kl (t3++⟨#[E]⟩++⟨#[61]⟩++FA) (decide (0<j+1)) (a.drop (j+1)) ((FI a x).drop (j+1))=RT):=by
     have h:=Aa HD;show _=_;simpa using h
    have NN:(t3++⟨#[E]⟩++⟨#[61]⟩++FA:zA).size<=T0.size+(j+1)*1000010:=by
     rw[lh,lh,lh];show t3.size+1+1+FA.size<=_;omega
    (have U0:(t3++⟨#[E]⟩:zA).size=t3.size+1:=by rw[lh];rfl);(have cp:(t3++⟨#[E]⟩++⟨#[61]⟩:zA).size=t3.size+1+1:=by rw[lh,U0];rfl);have TS:=Ab LS;clear HD LS;refine mM (λG u=>?_);have A:=Ab u;clear u;have NL:Hid (∀SP OH ST m,Pe w N M W g a x t3 m->AF m NX [X .i32 (E.toNat:Int),O T] 172->G ⟨#[U B0 (Z P) BA,U A2 (Z AB) AT,undef,undef,O ⟨#[]⟩,m2 (V ⟨N,0,Y⟩),U (V ⟨g,0,Y⟩) (Z a) (Z a),X .i64 j,m2 (V ⟨NX,0,Y⟩),U B0 (Z P) BA,m2 (V ⟨cb,1,Y⟩),U A2 (Z AB) AT,.func (.func 140) #[] #[m2 (V ⟨b1,0,Y⟩)],U (V ⟨g,0,Y⟩) (Z a) (Z a),U (V ⟨g,0,Y⟩) (Z a) (Z a),X .i64 (Z a),X .i64 j,.bool true,X .i64 j,m2 (V ⟨g,j*2,Y⟩),.agg #[X .i32 (E.toNat:Int),O T],SP,OH,ST,u24,u25,u26,u27,u28,u29,u30,u31,u32,undef,undef],[]⟩ m):=by
     intro SP OH ST m C KD;refine Aa A _ _ ?_;have e0:=KD.cell 0;simp at e0;have SL:=Ab (Aa WB E t3 m C (by omega) (by omega));have TK:=Ab KD;clear A C KD;refine mM (λK7 Bx=>?_);have R:=Ab Bx;clear Bx;refine AM (by rfl) (by rintro ⟨_,_,h⟩;exact h) ?_;(go_wp2_with fail);refine(Aa SL).mono ?_;rintro _ w8 ⟨⟨v8,rfl⟩,C,Q⟩;have PT:=Ab (Q _ _ (Aa TK));have S1:=Ab (Aa JA 61 (t3++⟨#[E]⟩) w8 C (by omega));clear SL TK C Q e0;go_wp2;refine Aa R _ _ ?_;clear R K7;refine mM (λK7 Bx=>?_);have R:=Ab Bx;clear Bx;refine AM (by rfl) (by rintro ⟨_,_,h⟩;exact h) ?_;(go_wp2_with fail);refine(Aa S1).mono ?_;rintro _ w9 ⟨rfl,C,Q⟩;have NY:=Q _ _ (Aa PT);have e1:=NY.cell 1;simp at e1;have SK:=Ab (Aa ap FA (t3++⟨#[E]⟩++⟨#[61]⟩) w9 C (by omega));have Nx:=Ab (Aa N2 w9);clear S1 PT C Q NY;go_wp2;refine Aa R _ _ ?_;clear R K7;refine AM (by rfl) (by rintro ⟨_,_,h⟩;exact h) ?_;(go_wp2_with fail);refine(Aa Nx).mono ?_;rintro _ co ⟨rfl,rfl⟩;clear Nx;(go_wp2_with fail);refine(Aa SK).mono ?_;rintro _ b6 ⟨rfl,C⟩;have bb:=Ab C;clear SK C e1;go_wp2;refine Aa MN _ _ ?_;clear MN;refine AM (by rfl) (by rintro ⟨_,_,h⟩;exact h) ?_;go_wp2
     go_roundw
     case rel=>exact⟨j+1,_,by go_num,by omega,NN,NM,bb⟩
     case measure=>simp[intOf];omega
    clear A MN NM NN;refine mM (λK7 Bx=>?_);have R:=Ab Bx;clear Bx;refine AM (by rfl) (by rintro ⟨_,_,h⟩;exact h) ?_;by_cases h0:0<j
    ·(have a6:(0:Int)<(j:Int):=by omega);have EY:Hid (t++⟨#[32]⟩=t3):=by
      have h:=Aa TS;rw[ln (by simpa using h0)]at h;exact h
     have FF:=Ab (Aa JA 32 t w7 (Aa H0) (by omega));rw[Aa EY]at FF;go_wp2;refine Aa R _ _ ?_;clear R K7;refine n7 rfl ?_;refine AM (by rfl) (by rintro ⟨_,_,h⟩;exact h) ?_;(go_wp2_with fail);refine(Aa FF).mono ?_;rintro _ w8 ⟨rfl,C,Q⟩;have a5:=Ab C;have W0:=Ab (Q _ _ (Aa HY));clear FF C Q;go_wp2;exact Aa NL _ _ _ _ (Aa a5) (Aa W0)
    ·(have a6:¬(0:Int)<(j:Int):=by omega);have EY:Hid (t=t3):=by
      have h:=Aa TS;rw[li (by simpa using h0)]at h;exact h
     rw[Aa EY]at H0;go_wp2;refine Aa R _ _ ?_;clear R K7;refine nW rfl (wpIn_skip ?_);exact Aa NL _ _ _ _ (Aa H0) (Aa HY)
   .have EY:Hid (t=RT):=by
     have h:=Aa HC;rw[lS (by omega)]at h;(have e:∀(b:Bool) (l:pM zA),Kl t b [] l=t:=λb l=>by cases l<;>rfl);rw[e]at h;exact h
    rw[Aa EY]at a0 FW;have FF:=Ab (Aa JA 10 RT wr (Aa FW) (by omega));(have WW:¬(j:Int)<(Z a:Int):=by omega);clear HC EY FW;refine mM (λG u=>?_);have A:=Ab u;clear u;refine AM (by rfl) (by rintro ⟨_,_,h⟩;exact h) ?_;go_wp2;refine Aa A _ _ ?_;clear A G;refine mM (λG u=>?_);have A:=Ab u;clear u A;refine nW rfl (wpIn_exit ?_);refine Aa HJ _ _ ?_;clear HJ;refine AM (by rfl) (by rintro ⟨_,_,h⟩;exact h) ?_;(go_wp2_with fail);refine(Aa FF).mono ?_;rintro _ w8 ⟨rfl,C,_⟩;have HP:=Ab (Aa IA w8 C);clear FF C IA;go_wp2;exact Aa HP
 case rdone=>
  intro D M' W2 hD hi hd _;have X1:D≠N:=by omega
  obtain⟨TX,LB⟩:=pN (FK a pF (XS.map (FI a)));have BS:=hi.z9;rw[LB]at BS;have Dk:=Ab (WR N TX M' W2 BS);have IA:Hid (∀(LC:Array Value) p,LC.getD 4 undef=O TX->Below N W2 p->Lib.OthersKept 5 (V N) W2 p->QQ .ret ⟨LC,[EA D]⟩ p):=by
   intro LC p h4 Q W1;rw[<-Aa ab];have N4:Dv w.heap.size [D] p:=⟨by simp,λd HU=>by simp only[kY]at HU;omega,λd HU=>by simp only[kY]at HU;rw[HU];exact W1 D _ hd (by simpa using X1) (λc fz h=>by cases h)⟩;refine Du [D] p N4 (λcl hs=>?_);have a2:OwnFrom w.heap.size (fun(_:Unit) W=>Ac [] w W):=BO (λ_ W W' M h kk hM=>Eo h kk hM (lC _));have a4:Ac [] w p:=by
    have h:=Q;rw[<-Aa HN]at h;exact Ic hi.kept h
   have I:=hs.own a2 (s:=()) N4 a4;obtain⟨g2,g3,g4⟩:=Aa HI;obtain⟨e1,e2⟩:=Aa Wa;refine⟨_,results_tmp rfl _ _ _,TX,s,L,n,by rw[h4],g2,g3,g4,?_,I⟩;rw[e1,e2,LB]
  clear hi hd BS LB HB;refine Aa A1 _ _ ?_;clear A1;refine pL (λK3 HJ=>?_);go_wp2_with fail
  refine(Aa Dk).mono ?_;rintro _ w3 ⟨rfl,B,F⟩;have aT:=Ab B;have YP:=Ab F;clear Dk B F;go_wp2;refine Aa HJ _ _ ?_;clear HJ K3;refine wp_ret ?_;exact Aa IA _ _ rfl (Aa aT) (Aa YP)
 case rstop=>
  intro D c E0 M' W2 _ h _;exact h.elim
