import Derived.LoopIn
import Derived.Test.YtoihbhenbmffcaaGreatDoorABD
set_option linter.all false
set_option maxHeartbeats 0
open List renaming length->Z
open Bool renaming false->K
namespace Go.Proofs.YtoihbhenbmffcaaGreatDoor
open Go.RowKit Go.Proofs.Tryz
variable{w:World}{e:pM zA}{g:UInt8}{T:TypeId}{z:Value}{y:pM Value}{s:zA}{M:pM Nat}{b n:Nat}
def Q3(a:pM UInt8):∀(l:pM (pM zA)) (t:zA) (r:pM zA),FK a t (l++[r])=Kl (FK a t l) K a r++⟨#[10]⟩
 |[],t,r=>rfl
 |x::l,t,r=>by rw[mV,FK,Q3 a l,FK]
def T1:∀(a:pM UInt8) (c:pM zA) (t:zA) (b:Bool),(∀x∈c,x.size<=1000000)->(Kl t b a c).size<=t.size+Z a*1000010
 |[],c,t,b,_=>by simp[Kl]
 |v::a,[],t,b,_=>by simp[Kl]
 |v::a,x::c,t,b,h=>by
  rw[Kl];have f:=T1 a c ((if b then t++⟨#[32]⟩else t)++⟨#[v]⟩++⟨#[61]⟩++x) true (λy d=>h y (by simp[d]));have e:((if b then t++⟨#[32]⟩else t)++⟨#[v]⟩++⟨#[61]⟩++x:zA).size<=t.size+1+1+1+x.size:=by
   rw[lh,lh,lh];cases b with
   |true=>
    rw[ln rfl,lh];show t.size+1+1+1+x.size<=_;omega
   |false=>
    show t.size+1+1+x.size<=_;omega
  have g:=h x (by simp);rw[lj];omega
def Qm{a:pM UInt8}(b:Z a<=6):∀(l:pM (pM zA)) (t:zA),(∀r∈l,∀x∈r,x.size<=1000000)->(FK a t l).size<=t.size+Z l*10000000
 |[],t,_=>by simp[FK]
 |r::l,t,h=>by
  rw[FK];have d:=Qm b l (Kl t K a r++⟨#[10]⟩) (λr c=>h r (by simp[c]));have e:=T1 a r t K (h r (by simp));rw[lh]at d;have g:(⟨#[10]⟩:zA).size=1:=rfl;have f:Z a*1000010<=6*1000010:=mh _ b;rw[lj];omega
structure km(w:World)(N:Nat)(vs:pM UInt8)(pre:pM (pM zA))(M:pM Nat)(W:World):Prop where
 z9:KU N (FK vs ByteArray.empty (pre.map (FI vs))) M W
 kept:Ac [] w W
def km.own{N B:Nat}{g:pM UInt8}(j:w.heap.size<=B):OwnFrom B (fun(q:pM (pM zA)×pM Nat) W=>km w N g q.1 q.2 W):=
 BO (λq W l M h a b=>by
  refine⟨?_,Eo h.kept a b j⟩
  obtain⟨p,k,i,e,d,c,f⟩:=h.z9
  exact⟨p,k,i,e,d.kept a (CY b d),Ai c a (Co b c),f⟩)
structure fW(vs:pM UInt8)(XS:pM (pM zA)):Prop where
 len:Z XS<=46656
 canon:∀x∈XS,∀v∈vs,A8 (Nk x v)/\(Nk x v).size<=1000
 ok:∀x∈XS,Z x=26
 vars:∀v∈vs,Ew v
 six:Z vs<=6
def gd(c:Z e=26)(b:Ew g)(a:A8 (Nk e g)):Nk (Bn e) g=AE (Nk e g):=by
 unfold Nk at a⊢;obtain⟨f,d⟩:=b;unfold Bn;rw[lq,mA,lc (by omega)];rw[lq,lc (by omega)]at a⊢;exact CK a
def cq{q x n N:Nat}(h:w.ownsRow q T x z n y)(r:KU N s M w)(l:(T==145)=K)(j:(T==5)=K):∀i,z.ownBlock=some i->i∉M:=by
 intro i d a;obtain⟨p,A,m,_,o,k,rfl⟩:=r;rcases kZ.1 a with rfl|a
 .exact Mb h o l _ d (by simp)
 .have a:(Value.slice A s.size m).ownBlock=some i:=by simpa using a
  rcases k.2 with⟨b,_⟩|⟨g,c,f,b,_,u,_⟩
  .rw[b]at a;simp[Value.ownBlock]at a
  .rw[b]at a;simp only[Value.ownBlock,ld]at a;subst a;exact Mb (t:=5) h (N:=g) (cs:=f.toList) (by unfold AF;simpa using u) j _ d (by simp)
def S9(h:AF w b y T)(j:KU n s M w)(f:(T==145)=K)(c:(T==5)=K):b∉M:=by
 intro a;obtain⟨p,k,g,_,i,d,rfl⟩:=j;rcases kZ.1 a with rfl|a
 .exact Zt h i f (by simp)
 .have a:(Value.slice k s.size g).ownBlock=some b:=by simpa using a
  exact Mb d h (by cases hh:((5:TypeId)==T)with|false=>rfl|true=>rw[mT]at hh;rw[<-hh]at c;simp at c) b a (by simp)
structure Pe(w:World)(N:Nat)(M:pM Nat)(W:World)(g:Nat)(vs:pM UInt8)(x:pM zA)(t:zA)(wz:World):Prop where
 z9:∃M2,KU N t M2 wz/\Y7 M W M2 wz
 row:wz.ownsRow 0 172 2 (.slice (some ⟨g,0,none⟩) (Z vs) (Z vs)) (Z vs) (vs.flatMap (Jb (Bn x)))
 kept:Ac [] w wz
def Pe.step{w W a e:World}{N g:Nat}{M c:pM Nat}{d:pM UInt8}{x:pM zA}{t f:zA}(q:w.heap.size=N)(h:Pe w N M W g d x t a)(j:KU N t c a)(m:Y7 M W c a)(k:dv N f c a e):Pe w N M W g d x f e:=by
 obtain⟨l,n,b,o⟩:=k;exact⟨⟨l,n,m.step b o⟩,Ai h.row b (cq h.row j (by rfl) (by rfl)),h.kept.trans' b (λi p=>Or.inr (by have:=(j.lt i p).1;omega))⟩
def Pe.calm{w W wz w':World}{N g:Nat}{M:pM Nat}{vs:pM UInt8}{x:pM zA}{t:zA}(h:Pe w N M W g vs x t wz)(k:Ac [] wz w'):Pe w N M W g vs x t w':=by
 obtain⟨M2,h1,h2⟩:=h.z9;exact⟨⟨M2,h1.kept k (by simp),h2.step (k.mono (by simp)) (λq hq=>⟨Or.inl hq,mX (h1.lt q hq).2 k.size⟩)⟩,Ad h.row k (by simp),h.kept.trans k⟩
set_option maxRecDepth 100000
theorem Wk(lad:Option Addr)(lcp:Nat)(pcs:pM Dy)(rcs:pM A4)(bad:Option Addr)(bcp:Nat)(zH:pM Lz)(body:pM Br)(w:World)(hP:DE w (.slice lad pcs.length lcp) pcs)(hB:M9 pcs rcs)(hQ:jS w (.slice bad zH.length bcp) zH body)
  (hq:∀s,(∀f∈s,D0 rcs f)->ZX body s/\fW (Bf body) (Aw (Jc body s) body s (Bf body) Bk)):
  Calls prog 52 #[.slice lad pcs.length lcp,.slice bad zH.length bcp] w λr w'=>∃(t:zA) (s:pM Af) (L:zA->Nat) (n:Nat),r=.returned (.string t)/\CR rcs L/\GF rcs L n s/\(∀c∈rcs,L c.head.name<n)/\t=FK (Bf body) ByteArray.empty ((Aw (Jc body s) body s (Bf body) Bk).map (FI (Bf body)))/\Ac [] w w':=by
 obtain⟨N,hN⟩:∃N,w.heap.size=N:=⟨_,rfl⟩;have HN:=Ab hN;have HK1:=Ab ((pO [] w).alloc (.cells #[.pointer none,.slice none 0 0] 145));have HBu:=Ab (KU.new w);rw[hN]at HBu;have HIf:=Ab (Pr lad lcp pcs rcs _ (hP.kept (Aa HK1)) hB);have HAn:Hid (∀cb s L n w2,SQ (w.alloc (.cells #[.pointer none,.slice none 0 0] 145)) cb (.slice lad pcs.length lcp) [] s w2->GF rcs L n s->Calls prog 94 #[.pointer (some ⟨cb,1,none⟩),.slice bad zH.length bcp] w2 λr w'=>∃sp b1,r=.returned (.func (.func 140) #[] #[.pointer (some ⟨b1,0,none⟩)])/\AF w' b1 [.pointer (some ⟨sp,0,none⟩)] 233/\w2.heap.size<=b1/\(∀wz,Ac [N] w' wz->dU wz sp body s (Bf body))/\Ac [] w2 w'):=by
  intro cb s L n w2 hC hI;obtain⟨sad,scp,fs,tad,tcp,xs,g1,g2,g3,_⟩:=hC.out;have hc:=g1.cell 1;have hNb:AF w2 N [.pointer none,.slice none 0 0] 145:=by
   have h:=(pP w [.pointer none,.slice none 0 0] 145).kept hC.kept (by simp);rw[hN]at h;exact h
  have hw:=hB.zb hI;obtain⟨hqo,hao⟩:=hq s hI.zW;exact SI cb 1 sad scp fs bad bcp zH body s w2 N _ hNb (Zt g1 hNb (by rfl)) (by simpa using hc) g2 ⟨hQ.at_.kept ((Aa HK1).trans hC.kept) (by simp),hQ.map,hQ.zK,hQ.len⟩ g3 (by omega) hqo hao.six
 have HOk:Hid (∀s L n,GF rcs L n s->fW (Bf body) (Aw (Jc body s) body s (Bf body) Bk)):=λs L n hI=>(hq s hI.zW).2
 clear hP hB hQ hq hN;refine EC func52 rfl (Gt ?_);simp only[ntmps52,mE,lj,lO,Nat.reduceAdd,Nat.reduceSub,nL,nM,oh,nR,mw,mV];refine pL (λK1 HKk=>?_);go_wp2;refine Aa HKk _ _ ?_;clear HKk K1;refine pL (λK1 HKk=>?_);go_wp2;refine Aa HKk _ _ ?_;clear HKk K1;rw[Aa HN];generalize hw1:w.alloc (.cells #[.pointer none,.slice none 0 0] 145)=w1 at HK1 HBu HIf HAn⊢;clear hw1;obtain⟨QQ,hQQ⟩:∃QQ,Kr (bodyPostM Fence.wide 0 prog Tryz.f52 λr w'=>∃(t:zA) (s:pM Af) (L:zA->Nat) (n:Nat),r=.returned (.string t)/\CR rcs L/\GF rcs L n s/\(∀c∈rcs,L c.head.name<n)/\t=FK (Bf body) ByteArray.empty ((Aw (Jc body s) body s (Bf body) Bk).map (FI (Bf body)))/\Ac [] w w')=QQ:=⟨_,rfl⟩;have HQQ:=Ab hQQ;rw[hQQ];clear hQQ;refine pL (λK1 HKk=>?_);refine pL (λK5 HK5=>?_);go_wp2_with fail
 refine(Aa HIf).mono ?_;rintro _ w2 ⟨cb,s,L,n,rfl,g1,g2,g3,g4⟩;have HA2:=Ab (Aa HAn cb s L n w2 g1 g3);have HOk2:=Ab (Aa HOk s L n g3);have HI:=Ab (And.intro g2 (And.intro g3 g4));have HK2:=Ab g1.kept;clear HIf HAn HOk g1 g2 g3 g4;go_wp2_with fail
 refine(Aa HA2).mono ?_;rintro _ w5 ⟨sp,b1,rfl,hb1,hlb,hsea,k5⟩;have HK15:Hid (Ac [] w1 w5):=(Aa HK2).trans k5;have HBu5:=Ab ((Aa HBu).kept (Aa HK15) (by simp));have hN5:=((Aa HBu5).lt N (by simp)).2;have hNb:N<w2.heap.size:=by
  have h:=((Aa HBu).kept (Aa HK2) (by simp)).lt N (by simp);exact h.2
 obtain⟨VS,hVS⟩:∃VS,Bf body=VS:=⟨_,rfl⟩;obtain⟨XS,hXS⟩:∃XS,Aw (Jc body s) body s VS Bk=XS:=⟨_,rfl⟩;rw[hVS]at hsea HOk2;rw[hXS]at HOk2;have yD:=fe sp body s VS w5 [N] hsea b1 w5 [N] ⟨pO _ _,hb1,λk hk=>by rw[kY]at hk;subst hk;exact⟨Or.inl (by simp),by omega,hN5⟩⟩;rw[hXS]at yD;have HVX:Hid (Bf body=VS/\Aw (Jc body s) body s VS Bk=XS):=⟨hVS,hXS⟩;have HKw5:Hid (Ac [] w w5):=(Aa HK1).trans (Aa HK15);have hww5:w.heap.size<=w5.heap.size:=(Aa HKw5).size;clear HA2 hb1 hlb hsea k5 HK2 HBu hVS hXS;go_wp2;refine Aa HK5 _ _ ?_;clear HK5 K5;refine wp_block ?_;refine S7 rfl (enters_of func140 (by kernel_rfl) rfl) yD (λx vs W h=>by obtain⟨g,rfl,_⟩:=h;rfl) (λk hk=>by rw[kY]at hk;subst hk;exact hN5) (km w N VS) (λ_ _ _ _=>False) (km.own hww5) (λ_ _ _ _ _ h _ _=>h) ⟨Aa HBu5,Aa HKw5⟩
  (λn0 x a' W=>∃g,a'=⟨#[.slice lad pcs.length lcp,.slice bad zH.length bcp,undef,undef,.string ⟨#[]⟩,.pointer (some ⟨N,0,none⟩),.slice (some ⟨g,0,none⟩) VS.length VS.length,undef,undef,.slice lad pcs.length lcp,.pointer (some ⟨cb,1,none⟩),.slice bad zH.length bcp,.func (.func 140) #[] #[.pointer (some ⟨b1,0,none⟩)],.slice (some ⟨g,0,none⟩) VS.length VS.length,undef,undef,undef,undef,undef,undef,undef,undef,undef,undef,undef,undef,undef,undef,undef,undef,undef,undef,undef,undef,undef],[]⟩/\W.ownsRow 0 172 2 (.slice (some ⟨g,0,none⟩) VS.length VS.length) VS.length (VS.flatMap (Jb (Bn x))))
  (λn0 x a'=>BO (λ_ W W' M h k hM=>by obtain⟨g,h1,h2⟩:=h;exact⟨g,h1,Ai h2 k (Co hM h2)⟩)) ?rassign ?rbody ?rdone ?rstop
 case rassign=>
  intro l x vs W' K hx _ hoff HK;obtain⟨g,rfl,hr⟩:=hoff;have HKK:Hid (∀a' W'',Ac [] W' W''->_->K a' W''):=HK;have HR:=Ab hr;clear HK hr yD;refine AM (by rfl) (Iw Gz) ?_;go_wp2;exact Aa HKK _ _ (pO _ _) ⟨g,rfl,Aa HR⟩
 case rbody=>
  intro l n0 pre x rest M a' W hxs hi hM hn0 hn1 hax;obtain⟨g,rfl,hr⟩:=hax;have hAo:=Aa HOk2;have hxm:x∈XS:=by rw[hxs];simp
  obtain⟨T0,hT0⟩:∃T0,FK VS ByteArray.empty (pre.map (FI VS))=T0:=⟨_,rfl⟩;have hbu:=hi.z9;rw[hT0]at hbu;have HR0:Hid (Pe w N M W g VS x T0 W):=⟨⟨M,hbu,⟨pO _ _,λq hq=>⟨Or.inl hq,(hbu.lt q hq).2⟩⟩⟩,hr,hi.kept⟩;have hT0s:T0.size<=466560000000:=by
   have h1:=Qm hAo.six (pre.map (FI VS)) ByteArray.empty (λr hr y hy=>by
    obtain⟨z,hz,rfl⟩:=lk.1 hr
    obtain⟨v,hv,rfl⟩:=lk.1 hy
    have:=(hAo.canon z (by rw[hxs];exact nY _ hz) v hv).2
    omega)
   rw[hT0,lm]at h1;(have h2:pre.length<=XS.length:=by rw[hxs];simp);have h3:pre.length*10000000<=46656*10000000:=mh _ (by have:=hAo.len;omega);have h4:ByteArray.empty.size=0:=rfl;omega
  obtain⟨RT,hRT⟩:∃RT,Kl T0 false VS (FI VS x)=RT:=⟨_,rfl⟩;have HT0:Hid (Kl T0 (decide (0<0)) (VS.drop 0) ((FI VS x).drop 0)=RT):=hRT;have HFin:Hid (∀wz,Pe w N M W g VS x (RT++⟨#[10]⟩) wz->LP (km w N VS) (λ_ _ _ _=>False) (pre++[x]) M W .normal ⟨#[],[]⟩ wz):=by
   intro wz hz;obtain⟨M2,h1,h2⟩:=hz.z9;refine⟨h2.kept,M2,⟨?_,hz.kept⟩,h2.mem⟩;rw[lV,lE,m8,Q3,hT0,hRT];exact h1
  have HXv:Hid (∀v∈VS,BZ (Nk (Bn x) v)=Nk x v/\(Nk x v).size<=1000/\(Nk (Bn x) v).size<=1000000):=λv hv=>by
   obtain⟨hc,hz⟩:=hAo.canon x hxm v hv;rw[gd (hAo.ok x hxm) (hAo.vars v hv) hc];have:=Pk (Nk x v);exact⟨Gr hc,hz,by omega⟩
  have HVo:Hid (∀v∈VS,Ew v):=hAo.vars;have h6:=hAo.six;have hNw:=Aa HN;have HWb:Hid (∀(d:UInt8) t wz,Pe w N M W g VS x t wz->t.size+1<=140737488355328->Calls prog 77 #[.pointer (some ⟨N,0,none⟩),.int .u8 (d.toNat:Int)] wz λe w'=>e=.returned .nilIface/\Pe w N M W g VS x (t++⟨#[d]⟩) w'/\∀b cs,AF wz b cs 172->AF w' b cs 172):=by
   intro d t wz h hl;obtain⟨M2,h1,h2⟩:=h.z9;refine(Ur N t M2 d wz h1 hl).mono ?_;rintro e w' ⟨rfl,hW⟩;refine⟨rfl,h.step hNw h1 h2 hW,λb cs hb=>?_⟩;obtain⟨_,_,hk,_⟩:=hW;exact hb.kept hk (S9 hb h1 (by rfl) (by rfl))
  have HWr:Hid (∀(d:UInt8) t wz,Pe w N M W g VS x t wz->d.toNat<=127->t.size+1<=140737488355328->Calls prog 95 #[.pointer (some ⟨N,0,none⟩),.int .i32 (d.toNat:Int)] wz λe w'=>(∃v,e=.returned v)/\Pe w N M W g VS x (t++⟨#[d]⟩) w'/\∀b cs,AF wz b cs 172->AF w' b cs 172):=by
   intro d t wz h hd hl;obtain⟨M2,h1,h2⟩:=h.z9;refine(aV N t M2 d wz h1 hd hl).mono ?_;rintro e w' ⟨hv,hW⟩;refine⟨hv,h.step hNw h1 h2 hW,λb cs hb=>?_⟩;obtain⟨_,_,hk,_⟩:=hW;exact hb.kept hk (S9 hb h1 (by rfl) (by rfl))
  have HWs:Hid (∀(y:zA) t wz,Pe w N M W g VS x t wz->t.size+y.size<=140737488355328->Calls prog 75 #[.pointer (some ⟨N,0,none⟩),.string y] wz λe w'=>e=.returned (.tuple #[.int .i64 y.size,.nilIface])/\Pe w N M W g VS x (t++y) w'):=by
   intro y t wz h hl;obtain⟨M2,h1,h2⟩:=h.z9;refine(Xd N t M2 y wz h1 hl).mono ?_;rintro e w' ⟨rfl,hW⟩;exact⟨rfl,h.step hNw h1 h2 hW⟩
  clear hi hr hbu hAo hxm hT0 hRT hxs hM hn0 hn1 yD;refine wpIn_block ?_;refine mM (λK3 hK3=>?_);have HK3:=Ab hK3;clear hK3;refine mM (λK4 hK4=>?_);have HK4:=Ab hK4;clear hK4;refine AM (by rfl) (by rintro ⟨_,_,h⟩;exact h) ?_;go_wp2;refine Aa HK4 _ _ ?_;clear HK4 K4;refine wpIn_block ?_
  gi_loopw [16] (λi wz=>∃(j:Nat) (t:zA),i=.int .i64 j/\j<=VS.length/\t.size<=T0.size+j*1000010/\Hid (Kl t (decide (0<j)) (VS.drop j) ((FI VS x).drop j)=RT)/\Hid (Pe w N M W g VS x t wz)) (λi _=>VS.length-(intOf i).toNat)
  case atStart=>exact⟨0,T0,rfl,lz _,by omega,HT0,HR0⟩
  case round=>
   obtain⟨j,t,rfl,hj,zV,HC,HRw⟩:=hrel;have hjj:j*1000010<=6*1000010:=mh _ (by omega);by_cases hlj:j<VS.length
   .obtain⟨g',cap',he,_,hcell⟩:=AC (Aa HRw).row (λc _=>TR (Bn x) c) j hlj;simp only[kS,ld,lW]at he;obtain⟨⟨rfl,-,-⟩,-,-⟩:=he;have d0:=hcell j hlj 0 (by omega);have d1:=hcell j hlj 1 (by omega);simp[Jb]at d0 d1;(have hlj2:j<(FI VS x).length:=by unfold FI;rw[lm];exact hlj);have HC2:Hid (Kl ((if decide (0<j)then t++⟨#[32]⟩else t)++⟨#[VS[j]]⟩++⟨#[61]⟩++Nk x VS[j]) true (VS.drop (j+1)) ((FI VS x).drop (j+1))=RT):=by
     have h:=Aa HC;rw[lD hlj,lD hlj2,Kl]at h;(have e:(FI VS x)[j]=Nk x VS[j]:=by simp[FI]);rw[e]at h;exact h
    obtain⟨hx1,hx2,hx3⟩:=Aa HXv VS[j] (kV hlj);have hv2:=(Aa HVo VS[j] (kV hlj)).2;obtain⟨V,hV⟩:∃V,VS[j]=V:=⟨_,rfl⟩;rw[hV]at d0 d1 HC2 hx1 hx2 hx3 hv2;obtain⟨Y,hY⟩:∃Y,Nk (Bn x) V=Y:=⟨_,rfl⟩;obtain⟨X,hX⟩:∃X,Nk x V=X:=⟨_,rfl⟩;rw[hY]at d1 hx1 hx3;rw[hX]at HC2 hx1 hx2;(have hr0:(0:Int)<=(j:Int):=by omega);(have hr1:(j:Int)<(VS.length:Int):=by omega);have HTs:=Ab (λwz=>JV Y wz hx3);rw[hx1]at HTs;clear hcell HC hV hY hX hx1 hx3;refine mM (λK4 hK4=>?_);have HK4:=Ab hK4;clear hK4;refine AM (by rfl) (by rintro ⟨_,_,h⟩;exact h) ?_;go_wp2;refine Aa HK4 _ _ ?_;clear HK4 K4;refine mM (λK4 hK4=>?_);have HK4:=Ab hK4;clear hK4;refine n7 rfl (wpIn_skip ?_);refine Aa HK4 _ _ ?_;clear HK4 K4;refine mM (λK6 hK6=>?_);have HK6:=Ab hK6;clear hK6;refine wpIn_block ?_;refine mM (λK4 hK4=>?_);have HK4:=Ab hK4;clear hK4;refine AM (by rfl) (by rintro ⟨_,_,h⟩;exact h) ?_;have HBx:=Ab (pP wr [.int .i32 (V.toNat:Int),.string Y] 172);have HR1:=Ab ((Aa HRw).calm ((pO [] wr).alloc (.cells #[.int .i32 (V.toNat:Int),.string Y] 172)));go_wp2;refine Aa HK4 _ _ ?_;clear HK4 K4;change Code.wpIn _ _ _ _ _ _ (wr.alloc (.cells [.int .i32 (V.toNat:Int),.string Y].toArray 172));generalize wr.alloc (.cells [.int .i32 (V.toNat:Int),.string Y].toArray 172)=w7 at HBx HR1⊢;obtain⟨NX,hNX⟩:∃NX,wr.heap.size=NX:=⟨_,rfl⟩;rw[hNX]at HBx⊢;clear hNX d0 d1 HRw;obtain⟨t3,ht3,hts3⟩:∃t3,(if decide (0<j)then t++⟨#[32]⟩else t)=t3/\t3.size<=t.size+1:=⟨_,rfl,by
     split
     .rw[lh];exact lC _
     .omega⟩
    rw[ht3]at HC2;have HCn:Hid (Kl (t3++⟨#[V]⟩++⟨#[61]⟩++X) (decide (0<j+1)) (VS.drop (j+1)) ((FI VS x).drop (j+1))=RT):=by
     have h:=Aa HC2;show _=_;simpa using h
    have hsn:(t3++⟨#[V]⟩++⟨#[61]⟩++X:zA).size<=T0.size+(j+1)*1000010:=by
     rw[lh,lh,lh];show t3.size+1+1+X.size<=_;omega
    (have hsv:(t3++⟨#[V]⟩:zA).size=t3.size+1:=by rw[lh];rfl);(have hse:(t3++⟨#[V]⟩++⟨#[61]⟩:zA).size=t3.size+1+1:=by rw[lh,hsv];rfl);have HT3:=Ab ht3;clear HC2 ht3;refine mM (λK4 hK4=>?_);have HK4:=Ab hK4;clear hK4;have HRest:Hid (∀y21 y22 y23 wz,Pe w N M W g VS x t3 wz->AF wz NX [.int .i32 (V.toNat:Int),.string Y] 172->K4 ⟨#[.slice lad pcs.length lcp,.slice bad zH.length bcp,undef,undef,.string ⟨#[]⟩,.pointer (some ⟨N,0,none⟩),.slice (some ⟨g,0,none⟩) VS.length VS.length,.int .i64 j,.pointer (some ⟨NX,0,none⟩),.slice lad pcs.length lcp,.pointer (some ⟨cb,1,none⟩),.slice bad zH.length bcp,.func (.func 140) #[] #[.pointer (some ⟨b1,0,none⟩)],.slice (some ⟨g,0,none⟩) VS.length VS.length,.slice (some ⟨g,0,none⟩) VS.length VS.length,.int .i64 VS.length,.int .i64 j,.bool true,.int .i64 j,.pointer (some ⟨g,j*2,none⟩),.agg #[.int .i32 (V.toNat:Int),.string Y],y21,y22,y23,u24,u25,u26,u27,u28,u29,u30,u31,u32,undef,undef],[]⟩ wz):=by
     intro y21 y22 y23 wz hrw hbx;refine Aa HK4 _ _ ?_;have e0:=hbx.cell 0;simp at e0;have HCr:=Ab (Aa HWr V t3 wz hrw (by omega) (by omega));have HBy:=Ab hbx;clear HK4 hrw hbx;refine mM (λK7 hK7=>?_);have HK7:=Ab hK7;clear hK7;refine AM (by rfl) (by rintro ⟨_,_,h⟩;exact h) ?_;(go_wp2_with fail);refine(Aa HCr).mono ?_;rintro _ w8 ⟨⟨v8,rfl⟩,hrw,hbl⟩;have HB8:=Ab (hbl _ _ (Aa HBy));have HCe:=Ab (Aa HWb 61 (t3++⟨#[V]⟩) w8 hrw (by omega));clear HCr HBy hrw hbl e0;go_wp2;refine Aa HK7 _ _ ?_;clear HK7 K7;refine mM (λK7 hK7=>?_);have HK7:=Ab hK7;clear hK7;refine AM (by rfl) (by rintro ⟨_,_,h⟩;exact h) ?_;(go_wp2_with fail);refine(Aa HCe).mono ?_;rintro _ w9 ⟨rfl,hrw,hbl⟩;have hb9:=hbl _ _ (Aa HB8);have e1:=hb9.cell 1;simp at e1;have HCs:=Ab (Aa HWs X (t3++⟨#[V]⟩++⟨#[61]⟩) w9 hrw (by omega));have HTw:=Ab (Aa HTs w9);clear HCe HB8 hrw hbl hb9;go_wp2;refine Aa HK7 _ _ ?_;clear HK7 K7;refine AM (by rfl) (by rintro ⟨_,_,h⟩;exact h) ?_;(go_wp2_with fail);refine(Aa HTw).mono ?_;rintro _ w10 ⟨rfl,rfl⟩;clear HTw;(go_wp2_with fail);refine(Aa HCs).mono ?_;rintro _ w11 ⟨rfl,hrw⟩;have HRn:=Ab hrw;clear HCs hrw e1;go_wp2;refine Aa HK6 _ _ ?_;clear HK6;refine AM (by rfl) (by rintro ⟨_,_,h⟩;exact h) ?_;go_wp2
     go_roundw
     case rel=>exact⟨j+1,_,by go_num,by omega,hsn,HCn,HRn⟩
     case measure=>simp[intOf];omega
    clear HK4 HK6 HCn hsn;refine mM (λK7 hK7=>?_);have HK7:=Ab hK7;clear hK7;refine AM (by rfl) (by rintro ⟨_,_,h⟩;exact h) ?_;by_cases h0:0<j
    ·(have h0i:(0:Int)<(j:Int):=by omega);have HTe:Hid (t++⟨#[32]⟩=t3):=by
      have h:=Aa HT3;rw[ln (by simpa using h0)]at h;exact h
     have HCb:=Ab (Aa HWb 32 t w7 (Aa HR1) (by omega));rw[Aa HTe]at HCb;go_wp2;refine Aa HK7 _ _ ?_;clear HK7 K7;refine n7 rfl ?_;refine AM (by rfl) (by rintro ⟨_,_,h⟩;exact h) ?_;(go_wp2_with fail);refine(Aa HCb).mono ?_;rintro _ w8 ⟨rfl,hrw,hbl⟩;have HRb:=Ab hrw;have HBb:=Ab (hbl _ _ (Aa HBx));clear HCb hrw hbl;go_wp2;exact Aa HRest _ _ _ _ (Aa HRb) (Aa HBb)
    ·(have h0i:¬(0:Int)<(j:Int):=by omega);have HTe:Hid (t=t3):=by
      have h:=Aa HT3;rw[li (by simpa using h0)]at h;exact h
     rw[Aa HTe]at HR1;go_wp2;refine Aa HK7 _ _ ?_;clear HK7 K7;refine nW rfl (wpIn_skip ?_);exact Aa HRest _ _ _ _ (Aa HR1) (Aa HBx)
   .have HTe:Hid (t=RT):=by
     have h:=Aa HC;rw[lS (by omega)]at h;(have e:∀(b:Bool) (l:pM zA),Kl t b [] l=t:=λb l=>by cases l<;>rfl);rw[e]at h;exact h
    rw[Aa HTe]at zV HRw;have HCb:=Ab (Aa HWb 10 RT wr (Aa HRw) (by omega));(have hr1:¬(j:Int)<(VS.length:Int):=by omega);clear HC HTe HRw;refine mM (λK4 hK4=>?_);have HK4:=Ab hK4;clear hK4;refine AM (by rfl) (by rintro ⟨_,_,h⟩;exact h) ?_;go_wp2;refine Aa HK4 _ _ ?_;clear HK4 K4;refine mM (λK4 hK4=>?_);have HK4:=Ab hK4;clear hK4 HK4;refine nW rfl (wpIn_exit ?_);refine Aa HK3 _ _ ?_;clear HK3;refine AM (by rfl) (by rintro ⟨_,_,h⟩;exact h) ?_;(go_wp2_with fail);refine(Aa HCb).mono ?_;rintro _ w8 ⟨rfl,hrw,_⟩;have HP:=Ab (Aa HFin w8 hrw);clear HCb hrw HFin;go_wp2;exact Aa HP
 case rdone=>
  intro D M' W2 hD hi hd _;have hND:D≠N:=by omega
  obtain⟨TX,hTX⟩:∃TX,FK VS ByteArray.empty (XS.map (FI VS))=TX:=⟨_,rfl⟩;have hbu:=hi.z9;rw[hTX]at hbu;have Dk:=Ab (WR N TX M' W2 hbu);have HFin:Hid (∀(tmps:Array Value) w',tmps.getD 4 undef=.string TX->Below N W2 w'->Lib.OthersKept 5 (some N) W2 w'->QQ .ret ⟨tmps,[EA D]⟩ w'):=by
   intro tmps w' h4 hbl hok;rw[<-Aa HQQ];have hmk:Dv w.heap.size [D] w':=⟨by simp,λd hd'=>by simp only[kY]at hd';omega,λd hd'=>by simp only[kY]at hd';rw[hd'];exact hok D _ hd (by simpa using hND) (λc fz h=>by cases h)⟩;refine Du [D] w' hmk (λw'' hs=>?_);have hown:OwnFrom w.heap.size (fun(_:Unit) W=>Ac [] w W):=BO (λ_ W W' M h kk hM=>Eo h kk hM (lC _));have hkw:Ac [] w w':=by
    have h:=hbl;rw[<-Aa HN]at h;exact Ic hi.kept h
   have hk:=hs.own hown (s:=()) hmk hkw;obtain⟨g2,g3,g4⟩:=Aa HI;obtain⟨e1,e2⟩:=Aa HVX;refine⟨_,results_tmp rfl _ _ _,TX,s,L,n,by rw[h4],g2,g3,g4,?_,hk⟩;rw[e1,e2,hTX]
  clear hi hd hbu hTX yD;refine Aa HKk _ _ ?_;clear HKk;refine pL (λK3 HK3=>?_);go_wp2_with fail
  refine(Aa Dk).mono ?_;rintro _ w3 ⟨rfl,h1,h2⟩;have HB1:=Ab h1;have HB2:=Ab h2;clear Dk h1 h2;go_wp2;refine Aa HK3 _ _ ?_;clear HK3 K3;refine wp_ret ?_;exact Aa HFin _ _ rfl (Aa HB1) (Aa HB2)
 case rstop=>
  intro D c pre M' W2 _ h _;exact h.elim
