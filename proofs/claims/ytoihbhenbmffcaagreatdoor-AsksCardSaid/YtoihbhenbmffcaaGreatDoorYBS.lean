import Derived.LoopIn
import Derived.Test.YtoihbhenbmffcaaGreatDoorYBR
set_option linter.all false
set_option maxHeartbeats 0
namespace Go.Proofs.YtoihbhenbmffcaaGreatDoor
open Go.RowKit Go.Proofs.Tryz
theorem Om(a:List UInt8):∀(l:List (List cR)) (t:cR) (r:List cR),ET a t (l++[r])=IT (ET a t l) false a r++⟨#[10]⟩
 |[],t,r=>rfl
 |x::l,t,r=>by rw[dG,ET,Om a l,ET]
theorem Qz:∀(a:List UInt8) (c:List cR) (t:cR) (b:Bool),(∀x∈c,x.size<=1000000)->(IT t b a c).size<=t.size+a.length*1000010
 |[],c,t,b,_=>by simp[IT]
 |v::a,[],t,b,_=>by simp[IT]
 |v::a,x::c,t,b,h=>by
  rw[IT];have f:=Qz a c ((if b then t++⟨#[32]⟩else t)++⟨#[v]⟩++⟨#[61]⟩++x) true (λy d=>h y (by simp[d]));have e:((if b then t++⟨#[32]⟩else t)++⟨#[v]⟩++⟨#[61]⟩++x:cR).size<=t.size+1+1+1+x.size:=by
   rw[cH,cH,cH];cases b with
   |true=>
    rw[if_pos rfl,cH];show t.size+1+1+1+x.size<=_;omega
   |false=>
    show t.size+1+1+x.size<=_;omega
  have g:=h x (by simp);rw[bU];omega
theorem NH{a:List UInt8}(b:a.length<=6):∀(l:List (List cR)) (t:cR),(∀r∈l,∀x∈r,x.size<=1000000)->(ET a t l).size<=t.size+l.length*10000000
 |[],t,_=>by simp[ET]
 |r::l,t,h=>by
  rw[ET];have d:=NH b l (IT t false a r++⟨#[10]⟩) (λr c=>h r (by simp[c]));have e:=Qz a r t false (h r (by simp));rw[cH]at d;have g:(⟨#[10]⟩:cR).size=1:=rfl;have f:a.length*1000010<=6*1000010:=dj _ b;rw[bU];omega
structure bu(w:World)(N:Nat)(vs:List UInt8)(pre:List (List cR))(M:List Nat)(W:World):Prop where
 zS:Li N (ET vs ByteArray.empty (pre.map (EO vs))) M W
 kept:Ac [] w W
theorem bu.own{w:World}{N B:Nat}{g:List UInt8}(j:w.heap.size<=B):OwnFrom B (fun(q:List (List cR)×List Nat) W=>bu w N g q.1 q.2 W):=
 BV (λq W l M h a b=>by
  refine⟨?_,EL h.kept a b j⟩
  obtain⟨p,k,i,e,d,c,f⟩:=h.zS
  exact⟨p,k,i,e,d.kept a (C5 b d),Al c a (EI b c),f⟩)
structure Zs(vs:List UInt8)(XS:List (List cR)):Prop where
 len:XS.length<=46656
 canon:∀x∈XS,∀v∈vs,AX (Lv x v)/\(Lv x v).size<=1000
 ok:∀x∈XS,x.length=26
 vars:∀v∈vs,DH v
 six:vs.length<=6
theorem Zu{x:List cR}{v:UInt8}(c:x.length=26)(b:DH v)(a:AX (Lv x v)):Lv (Bf x) v=Aw (Lv x v):=by
 unfold Lv at a⊢;obtain⟨e,d⟩:=b;unfold Bf;rw[bT,dI,bW (by omega)];rw[bT,bW (by omega)]at a⊢;exact CD a
theorem Xj{w:World}{base size n N:Nat}{e:TypeId}{v:Value}{m:List Value}{s:cR}{M:List Nat}(h:w.ownsRow base e size v n m)(r:Li N s M w)(l:(e==145)=false)(j:(e==5)=false):∀i,v.ownBlock=some i->i∉M:=by
 intro i d a;obtain⟨p,x,o,_,q,k,rfl⟩:=r;rcases bS.1 a with rfl|a
 .exact J6 h q l _ d (by simp)
 .have a:(Value.slice x s.size o).ownBlock=some i:=by simpa using a
  rcases k.2 with⟨b,_⟩|⟨g,c,f,b,_,u,_⟩
  .rw[b]at a;simp[Value.ownBlock]at a
  .rw[b]at a;simp only[Value.ownBlock,bR]at a;subst a;exact J6 (t:=5) h (N:=g) (cs:=f.toList) (by unfold AE;simpa using u) j _ d (by simp)
theorem PZ{w:World}{b N:Nat}{cs:List Value}{e:TypeId}{s:cR}{M:List Nat}(h:AE w b cs e)(j:Li N s M w)(f:(e==145)=false)(c:(e==5)=false):b∉M:=by
 intro a;obtain⟨p,k,g,_,i,d,rfl⟩:=j;rcases bS.1 a with rfl|a
 .exact Vo h i f (by simp)
 .have a:(Value.slice k s.size g).ownBlock=some b:=by simpa using a
  exact J6 d h (by cases hh:((5:TypeId)==e)with|false=>rfl|true=>rw[dE]at hh;rw[<-hh]at c;simp at c) b a (by simp)
structure My(w:World)(N:Nat)(M:List Nat)(W:World)(g:Nat)(vs:List UInt8)(x:List cR)(t:cR)(wz:World):Prop where
 zS:∃M2,Li N t M2 wz/\U4 M W M2 wz
 row:wz.ownsRow 0 172 2 (.slice (some ⟨g,0,none⟩) vs.length vs.length) vs.length (vs.flatMap (Iy (Bf x)))
 kept:Ac [] w wz
theorem My.step{w W a w':World}{N g:Nat}{M c:List Nat}{d:List UInt8}{x:List cR}{t e:cR}(p:w.heap.size=N)(h:My w N M W g d x t a)(f:Li N t c a)(l:U4 M W c a)(j:Zh N e c a w'):My w N M W g d x e w':=by
 obtain⟨k,m,b,n⟩:=j;exact⟨⟨k,m,l.step b n⟩,Al h.row b (Xj h.row f (by rfl) (by rfl)),h.kept.trans' b (λi o=>Or.inr (by have:=(f.lt i o).1;omega))⟩
theorem My.calm{w W d w':World}{N g:Nat}{M:List Nat}{a:List UInt8}{x:List cR}{t:cR}(h:My w N M W g a x t d)(k:Ac [] d w'):My w N M W g a x t w':=by
 obtain⟨f,c,e⟩:=h.zS;exact⟨⟨f,c.kept k (by simp),e.step (k.mono (by simp)) (λq b=>⟨Or.inl b,dJ (c.lt q b).2 k.size⟩)⟩,Ad h.row k (by simp),h.kept.trans k⟩
set_option maxRecDepth 100000
theorem Sy(BT:Option Addr)(AT:Nat)(J:List C0)(H:List A7)(AH:Option Addr)(Z:Nat)(S:List JF)(o:List Bg)(w:World)(hP:C9 w (.slice BT J.length AT) J)(hB:L1 J H)(hQ:aY w (.slice AH S.length Z) S o)
  (hq:∀s,(∀f∈s,Eg H f)->VI o s/\Zs (A1 o) (As (IX o s) o s (A1 o) BX)):
  Calls prog 52 #[.slice BT J.length AT,.slice AH S.length Z] w λr p=>∃(t:cR) (s:List Ah) (L:cR->Nat) (n:Nat),r=.returned (.string t)/\DE H L/\I7 H L n s/\(∀c∈H,L c.head.name<n)/\t=ET (A1 o) ByteArray.empty ((As (IX o s) o s (A1 o) BX).map (EO (A1 o)))/\Ac [] w p:=by
 obtain⟨N,hN⟩:∃N,w.heap.size=N:=⟨_,rfl⟩;have HN:=Ab hN;have HW:=Ab ((Ac.refl [] w).alloc (.cells #[.pointer none,.slice none 0 0] 145));have HF:=Ab (Li.new w);rw[hN]at HF;have LC:=Ab (Sn BT AT J H _ (hP.kept (Aa HW)) hB);have LB:Hid (∀cb s L n Q,FR (w.alloc (.cells #[.pointer none,.slice none 0 0] 145)) cb (.slice BT J.length AT) [] s Q->I7 H L n s->Calls prog 94 #[.pointer (some ⟨cb,1,none⟩),.slice AH S.length Z] Q λr p=>∃sp b1,r=.returned (.func (.func 140) #[] #[.pointer (some ⟨b1,0,none⟩)])/\AE p b1 [.pointer (some ⟨sp,0,none⟩)] 233/\Q.heap.size<=b1/\(∀m,Ac [N] p m->Yl m sp o s (A1 o))/\Ac [] Q p):=by
  intro cb s L n Q hC hI;obtain⟨bR,bH,fs,cd,b7,xs,g1,g2,g3,_⟩:=hC.out;have hc:=g1.cell 1;have LE:AE Q N [.pointer none,.slice none 0 0] 145:=by
   have h:=(AE.new w [.pointer none,.slice none 0 0] 145).kept hC.kept (by simp);rw[hN]at h;exact h
  have hw:=hB.gi hI;obtain⟨bz,bP⟩:=hq s hI.gQ;exact PH cb 1 bR bH fs AH Z S o s Q N _ LE (Vo g1 LE (by rfl)) (by simpa using hc) g2 ⟨hQ.at_.kept ((Aa HW).trans hC.kept) (by simp),hQ.map,hQ.fl,hQ.len⟩ g3 (by omega) bz bP.six
 have Os:Hid (∀s L n,I7 H L n s->Zs (A1 o) (As (IX o s) o s (A1 o) BX)):=λs L n hI=>(hq s hI.gQ).2
 clear hP hB hQ hq hN;refine EB func52 rfl (GJ ?_);simp only[ntmps52,dh,bU,cE,Nat.reduceAdd,Nat.reduceSub,eu,ev,eU,eH,dm,dG];refine wp_seq_k (λK1 Ax=>?_);have AB:=Ab Ax;clear Ax;go_wp2;refine Aa AB _ _ ?_;clear AB K1;refine wp_seq_k (λK1 Ax=>?_);have AB:=Ab Ax;clear Ax;go_wp2;refine Aa AB _ _ ?_;clear AB K1;rw[Aa HN];generalize hw1:w.alloc (.cells #[.pointer none,.slice none 0 0] 145)=w1 at HW HF LC LB⊢;clear hw1;obtain⟨QQ,NV⟩:∃QQ,Kd (bodyPostM Fence.wide 0 prog Tryz.f52 λr p=>∃(t:cR) (s:List Ah) (L:cR->Nat) (n:Nat),r=.returned (.string t)/\DE H L/\I7 H L n s/\(∀c∈H,L c.head.name<n)/\t=ET (A1 o) ByteArray.empty ((As (IX o s) o s (A1 o) BX).map (EO (A1 o)))/\Ac [] w p)=QQ:=⟨_,rfl⟩;have bl:=Ab NV;rw[NV];clear NV;refine wp_seq_k (λK1 Ax=>?_);have AB:=Ab Ax;clear Ax;refine wp_seq_k (λK5 RO=>?_);have U0:=Ab RO;clear RO;go_wp2_with fail
 refine(Aa LC).mono ?_;rintro _ Q ⟨cb,s,L,n,rfl,g1,g2,g3,g4⟩;have ST:=Ab (Aa LB cb s L n Q g1 g3);have LS:=Ab (Aa Os s L n g3);have HI:=Ab (And.intro g2 (And.intro g3 g4));have M0:=Ab g1.kept;clear LC LB Os g1 g2 g3 g4;go_wp2_with fail
 refine(Aa ST).mono ?_;rintro _ w5 ⟨sp,b1,rfl,af,bV,MB,k5⟩;have ZV:Hid (Ac [] w1 w5):=(Aa M0).trans k5;have WB:=Ab ((Aa HF).kept (Aa ZV) (by simp));have P0:=((Aa WB).lt N (by simp)).2;have LE:N<Q.heap.size:=by
  have h:=((Aa HF).kept (Aa M0) (by simp)).lt N (by simp);exact h.2
 obtain⟨a,M3⟩:∃a,A1 o=a:=⟨_,rfl⟩;obtain⟨XS,H6⟩:∃XS,As (IX o s) o s a BX=XS:=⟨_,rfl⟩;rw[M3]at MB LS;rw[H6]at LS;have HH:=Y3 sp o s a w5 [N] MB b1 w5 [N] ⟨Ac.refl _ _,af,λk I=>by rw[bO]at I;subst I;exact⟨Or.inl (by simp),by omega,P0⟩⟩;rw[H6]at HH;have aT:Hid (A1 o=a/\As (IX o s) o s a BX=XS):=⟨M3,H6⟩;have UO:Hid (Ac [] w w5):=(Aa HW).trans (Aa ZV);have a1:w.heap.size<=w5.heap.size:=(Aa UO).size;clear ST af bV MB k5 M0 HF M3 H6;go_wp2;refine Aa U0 _ _ ?_;clear U0 K5;refine wp_block ?_;refine PY rfl (enters_of func140 (by kernel_rfl) rfl) HH (λx vs W h=>by obtain⟨g,rfl,_⟩:=h;rfl) (λk I=>by rw[bO]at I;subst I;exact P0) (bu w N a) (λ_ _ _ _=>False) (bu.own a1) (λ_ _ _ _ _ h _ _=>h) ⟨Aa WB,Aa UO⟩
  (λn0 x a' W=>∃g,a'=⟨#[.slice BT J.length AT,.slice AH S.length Z,undef,undef,.string ⟨#[]⟩,.pointer (some ⟨N,0,none⟩),.slice (some ⟨g,0,none⟩) a.length a.length,undef,undef,.slice BT J.length AT,.pointer (some ⟨cb,1,none⟩),.slice AH S.length Z,.func (.func 140) #[] #[.pointer (some ⟨b1,0,none⟩)],.slice (some ⟨g,0,none⟩) a.length a.length,undef,undef,undef,undef,undef,undef,undef,undef,undef,undef,undef,undef,undef,undef,undef,undef,undef,undef,undef,undef,undef],[]⟩/\W.ownsRow 0 172 2 (.slice (some ⟨g,0,none⟩) a.length a.length) a.length (a.flatMap (Iy (Bf x))))
  (λn0 x a'=>BV (λ_ W W' M h k hM=>by obtain⟨g,B,F⟩:=h;exact⟨g,B,Al F k (EI hM F)⟩)) ?rassign ?rbody ?rdone ?rstop
 case rassign=>
  intro l x vs W' K hx _ a5 HK;obtain⟨g,rfl,hr⟩:=a5;have al:Hid (∀a' TH,Ac [] W' TH->_->K a' TH):=HK;have HR:=Ab hr;clear HK hr HH;refine AZ (by rfl) (If Gx) ?_;go_wp2;exact Aa al _ _ (Ac.refl _ _) ⟨g,rfl,Aa HR⟩
 case rbody=>
  intro l n0 FL x b3 M a' W JA hi hM bn ap br;obtain⟨g,rfl,hr⟩:=br;have R:=Aa LS;have L0:x∈XS:=by rw[JA];simp
  obtain⟨U,HX⟩:∃U,ET a ByteArray.empty (FL.map (EO a))=U:=⟨_,rfl⟩;have Bx:=hi.zS;rw[HX]at Bx;have ar:Hid (My w N M W g a x U W):=⟨⟨M,Bx,⟨Ac.refl _ _,λq hq=>⟨Or.inl hq,(Bx.lt q hq).2⟩⟩⟩,hr,hi.kept⟩;have ce:U.size<=466560000000:=by
   have B:=NH R.six (FL.map (EO a)) ByteArray.empty (λr hr y hy=>by
    obtain⟨z,hz,rfl⟩:=bV.1 hr
    obtain⟨v,hv,rfl⟩:=bV.1 hy
    have:=(R.canon z (by rw[JA];exact ep _ hz) v hv).2
    omega)
   rw[HX,bX]at B;(have F:FL.length<=XS.length:=by rw[JA];simp);have h3:FL.length*10000000<=46656*10000000:=dj _ (by have:=R.len;omega);have h4:ByteArray.empty.size=0:=rfl;omega
  obtain⟨T,K8⟩:∃T,IT U false a (EO a x)=T:=⟨_,rfl⟩;have a6:Hid (IT U (decide (0<0)) (a.drop 0) ((EO a x).drop 0)=T):=K8;have KK:Hid (∀m,My w N M W g a x (T++⟨#[10]⟩) m->M5 (bu w N a) (λ_ _ _ _=>False) (FL++[x]) M W .normal ⟨#[],[]⟩ m):=by
   intro m hz;obtain⟨M2,B,F⟩:=hz.zS;refine⟨F.kept,M2,⟨?_,hz.kept⟩,F.mem⟩;rw[cW,cu,eW,Om,HX,K8];exact B
  have bd:Hid (∀v∈a,Fb (Lv (Bf x) v)=Lv x v/\(Lv x v).size<=1000/\(Lv (Bf x) v).size<=1000000):=λv hv=>by
   obtain⟨hc,hz⟩:=R.canon x L0 v hv;rw[Zu (R.ok x L0) (R.vars v hv) hc];have:=Se (Lv x v);exact⟨KM hc,hz,by omega⟩
  have an:Hid (∀v∈a,DH v):=R.vars;have h6:=R.six;have NS:=Aa HN;have K9:Hid (∀(d:UInt8) t m,My w N M W g a x t m->t.size+1<=140737488355328->Calls prog 77 #[.pointer (some ⟨N,0,none⟩),.int .u8 (d.toNat:Int)] m λe p=>e=.returned .nilIface/\My w N M W g a x (t++⟨#[d]⟩) p/\∀b cs,AE m b cs 172->AE p b cs 172):=by
   intro d t m h hl;obtain⟨M2,B,F⟩:=h.zS;refine(XC N t M2 d m B hl).mono ?_;rintro e p ⟨rfl,hW⟩;refine⟨rfl,h.step NS B F hW,λb cs hb=>?_⟩;obtain⟨_,_,I,_⟩:=hW;exact hb.kept I (PZ hb B (by rfl) (by rfl))
  have a0:Hid (∀(d:UInt8) t m,My w N M W g a x t m->d.toNat<=127->t.size+1<=140737488355328->Calls prog 95 #[.pointer (some ⟨N,0,none⟩),.int .i32 (d.toNat:Int)] m λe p=>(∃v,e=.returned v)/\My w N M W g a x (t++⟨#[d]⟩) p/\∀b cs,AE m b cs 172->AE p b cs 172):=by
   intro d t m h hd hl;obtain⟨M2,B,F⟩:=h.zS;refine(Wq N t M2 d m B hd hl).mono ?_;rintro e p ⟨hv,hW⟩;refine⟨hv,h.step NS B F hW,λb cs hb=>?_⟩;obtain⟨_,_,I,_⟩:=hW;exact hb.kept I (PZ hb B (by rfl) (by rfl))
  have bx:Hid (∀(y:cR) t m,My w N M W g a x t m->t.size+y.size<=140737488355328->Calls prog 75 #[.pointer (some ⟨N,0,none⟩),.string y] m λe p=>e=.returned (.tuple #[.int .i64 y.size,.nilIface])/\My w N M W g a x (t++y) p):=by
   intro y t m h hl;obtain⟨M2,B,F⟩:=h.zS;refine(YM N t M2 y m B hl).mono ?_;rintro e p ⟨rfl,hW⟩;exact⟨rfl,h.step NS B F hW⟩
  clear hi hr Bx R L0 HX K8 JA hM bn ap HH;refine wpIn_block ?_;refine dM (λK3 HL=>?_);have HS:=Ab HL;clear HL;refine dM (λG u=>?_);have A:=Ab u;clear u;refine AZ (by rfl) (by rintro ⟨_,_,h⟩;exact h) ?_;go_wp2;refine Aa A _ _ ?_;clear A G;refine wpIn_block ?_
  gi_loopw [16] (λi m=>∃(j:Nat) (t:cR),i=.int .i64 j/\j<=a.length/\t.size<=U.size+j*1000010/\Hid (IT t (decide (0<j)) (a.drop j) ((EO a x).drop j)=T)/\Hid (My w N M W g a x t m)) (λi _=>a.length-(intOf i).toNat)
  case atStart=>exact⟨0,U,rfl,b8 _,by omega,a6,ar⟩
  case round=>
   obtain⟨j,t,rfl,hj,bJ,HC,HD⟩:=hrel;have b8:j*1000010<=6*1000010:=dj _ (by omega);by_cases CL:j<a.length
   .obtain⟨g',b5,he,_,LM⟩:=Av (Aa HD).row (λc _=>WY (Bf x) c) j CL;simp only[bK,bR,cI]at he;obtain⟨⟨rfl,-,-⟩,-,-⟩:=he;have d0:=LM j CL 0 (by omega);have d1:=LM j CL 1 (by omega);simp[Iy]at d0 d1;(have bK:j<(EO a x).length:=by unfold EO;rw[bX];exact CL);have HJ:Hid (IT ((if decide (0<j)then t++⟨#[32]⟩else t)++⟨#[a[j]]⟩++⟨#[61]⟩++Lv x a[j]) true (a.drop (j+1)) ((EO a x).drop (j+1))=T):=by
     have h:=Aa HC;rw[ci CL,ci bK,IT]at h;(have e:(EO a x)[j]=Lv x a[j]:=by simp[EO]);rw[e]at h;exact h
    obtain⟨HU,N0,H1⟩:=Aa bd a[j] (bL CL);have bs:=(Aa an a[j] (bL CL)).2;obtain⟨V,hV⟩:∃V,a[j]=V:=⟨_,rfl⟩;rw[hV]at d0 d1 HJ HU N0 H1 bs;obtain⟨Y,hY⟩:∃Y,Lv (Bf x) V=Y:=⟨_,rfl⟩;obtain⟨X,hX⟩:∃X,Lv x V=X:=⟨_,rfl⟩;rw[hY]at d1 HU H1;rw[hX]at HJ HU N0;(have cg:(0:Int)<=(j:Int):=by omega);(have a2:(j:Int)<(a.length:Int):=by omega);have SJ:=Ab (λm=>MW Y m H1);rw[HU]at SJ;clear LM HC hV hY hX HU H1;refine dM (λG u=>?_);have A:=Ab u;clear u;refine AZ (by rfl) (by rintro ⟨_,_,h⟩;exact h) ?_;go_wp2;refine Aa A _ _ ?_;clear A G;refine dM (λG u=>?_);have A:=Ab u;clear u;refine ff rfl (wpIn_skip ?_);refine Aa A _ _ ?_;clear A G;refine dM (λK6 RI=>?_);have NM:=Ab RI;clear RI;refine wpIn_block ?_;refine dM (λG u=>?_);have A:=Ab u;clear u;refine AZ (by rfl) (by rintro ⟨_,_,h⟩;exact h) ?_;have H3:=Ab (AE.new wr [.int .i32 (V.toNat:Int),.string Y] 172);have H5:=Ab ((Aa HD).calm ((Ac.refl [] wr).alloc (.cells #[.int .i32 (V.toNat:Int),.string Y] 172)));go_wp2;refine Aa A _ _ ?_;clear A G;change Code.wpIn _ _ _ _ _ _ (wr.alloc (.cells [.int .i32 (V.toNat:Int),.string Y].toArray 172));generalize wr.alloc (.cells [.int .i32 (V.toNat:Int),.string Y].toArray 172)=w7 at H3 H5⊢;obtain⟨NX,ab⟩:∃NX,wr.heap.size=NX:=⟨_,rfl⟩;rw[ab]at H3⊢;clear ab d0 d1 HD;obtain⟨E,M6,ch⟩:∃E,(if decide (0<j)then t++⟨#[32]⟩else t)=E/\E.size<=t.size+1:=⟨_,rfl,by
     split
     .rw[cH];exact bZ _
     .omega⟩
    rw[M6]at HJ;have RB:Hid (IT (E++⟨#[V]⟩++⟨#[61]⟩++X) (decide (0<j+1)) (a.drop (j+1)) ((EO a x).drop (j+1))=T):=by
     have h:=Aa HJ;show _=_;simpa using h
    have RE:(E++⟨#[V]⟩++⟨#[61]⟩++X:cR).size<=U.size+(j+1)*1000010:=by
     rw[cH,cH,cH];show E.size+1+1+X.size<=_;omega
    (have ao:(E++⟨#[V]⟩:cR).size=E.size+1:=by rw[cH];rfl);(have ck:(E++⟨#[V]⟩++⟨#[61]⟩:cR).size=E.size+1+1:=by rw[cH,ao];rfl);have ag:=Ab M6;clear HJ M6;refine dM (λG u=>?_);have A:=Ab u;clear u;have QR:Hid (∀W1 S1 W3 m,My w N M W g a x E m->AE m NX [.int .i32 (V.toNat:Int),.string Y] 172->G ⟨#[.slice BT J.length AT,.slice AH S.length Z,undef,undef,.string ⟨#[]⟩,.pointer (some ⟨N,0,none⟩),.slice (some ⟨g,0,none⟩) a.length a.length,.int .i64 j,.pointer (some ⟨NX,0,none⟩),.slice BT J.length AT,.pointer (some ⟨cb,1,none⟩),.slice AH S.length Z,.func (.func 140) #[] #[.pointer (some ⟨b1,0,none⟩)],.slice (some ⟨g,0,none⟩) a.length a.length,.slice (some ⟨g,0,none⟩) a.length a.length,.int .i64 a.length,.int .i64 j,.bool true,.int .i64 j,.pointer (some ⟨g,j*2,none⟩),.agg #[.int .i32 (V.toNat:Int),.string Y],W1,S1,W3,u24,u25,u26,u27,u28,u29,u30,u31,u32,undef,undef],[]⟩ m):=by
     intro W1 S1 W3 m C LL;refine Aa A _ _ ?_;have e0:=LL.cell 0;simp at e0;have W0:=Ab (Aa a0 V E m C (by omega) (by omega));have ad:=Ab LL;clear A C LL;refine dM (λK7 AO=>?_);have P:=Ab AO;clear AO;refine AZ (by rfl) (by rintro ⟨_,_,h⟩;exact h) ?_;(go_wp2_with fail);refine(Aa W0).mono ?_;rintro _ w8 ⟨⟨v8,rfl⟩,C,O⟩;have TL:=Ab (O _ _ (Aa ad));have aa:=Ab (Aa K9 61 (E++⟨#[V]⟩) w8 C (by omega));clear W0 ad C O e0;go_wp2;refine Aa P _ _ ?_;clear P K7;refine dM (λK7 AO=>?_);have P:=Ab AO;clear AO;refine AZ (by rfl) (by rintro ⟨_,_,h⟩;exact h) ?_;(go_wp2_with fail);refine(Aa aa).mono ?_;rintro _ w9 ⟨rfl,C,O⟩;have RV:=O _ _ (Aa TL);have e1:=RV.cell 1;simp at e1;have WW:=Ab (Aa bx X (E++⟨#[V]⟩++⟨#[61]⟩) w9 C (by omega));have Pl:=Ab (Aa SJ w9);clear aa TL C O RV;go_wp2;refine Aa P _ _ ?_;clear P K7;refine AZ (by rfl) (by rintro ⟨_,_,h⟩;exact h) ?_;(go_wp2_with fail);refine(Aa Pl).mono ?_;rintro _ cj ⟨rfl,rfl⟩;clear Pl;(go_wp2_with fail);refine(Aa WW).mono ?_;rintro _ ca ⟨rfl,C⟩;have bT:=Ab C;clear WW C e1;go_wp2;refine Aa NM _ _ ?_;clear NM;refine AZ (by rfl) (by rintro ⟨_,_,h⟩;exact h) ?_;go_wp2
     go_roundw
     case rel=>exact⟨j+1,_,by go_num,by omega,RE,RB,bT⟩
     case measure=>simp[intOf];omega
    clear A NM RB RE;refine dM (λK7 AO=>?_);have P:=Ab AO;clear AO;refine AZ (by rfl) (by rintro ⟨_,_,h⟩;exact h) ?_;by_cases h0:0<j
    ·(have bO:(0:Int)<(j:Int):=by omega);have FF:Hid (t++⟨#[32]⟩=E):=by
      have h:=Aa ag;rw[if_pos (by simpa using h0)]at h;exact h
     have FW:=Ab (Aa K9 32 t w7 (Aa H5) (by omega));rw[Aa FF]at FW;go_wp2;refine Aa P _ _ ?_;clear P K7;refine ff rfl ?_;refine AZ (by rfl) (by rintro ⟨_,_,h⟩;exact h) ?_;(go_wp2_with fail);refine(Aa FW).mono ?_;rintro _ w8 ⟨rfl,C,O⟩;have bN:=Ab C;have a3:=Ab (O _ _ (Aa H3));clear FW C O;go_wp2;exact Aa QR _ _ _ _ (Aa bN) (Aa a3)
    ·(have bO:¬(0:Int)<(j:Int):=by omega);have FF:Hid (t=E):=by
      have h:=Aa ag;rw[if_neg (by simpa using h0)]at h;exact h
     rw[Aa FF]at H5;go_wp2;refine Aa P _ _ ?_;clear P K7;refine eV rfl (wpIn_skip ?_);exact Aa QR _ _ _ _ (Aa H5) (Aa H3)
   .have FF:Hid (t=T):=by
     have h:=Aa HC;rw[cG (by omega)]at h;(have e:∀(b:Bool) (l:List cR),IT t b [] l=t:=λb l=>by cases l<;>rfl);rw[e]at h;exact h
    rw[Aa FF]at bJ HD;have FW:=Ab (Aa K9 10 T wr (Aa HD) (by omega));(have a2:¬(j:Int)<(a.length:Int):=by omega);clear HC FF HD;refine dM (λG u=>?_);have A:=Ab u;clear u;refine AZ (by rfl) (by rintro ⟨_,_,h⟩;exact h) ?_;go_wp2;refine Aa A _ _ ?_;clear A G;refine dM (λG u=>?_);have A:=Ab u;clear u A;refine eV rfl (wpIn_exit ?_);refine Aa HS _ _ ?_;clear HS;refine AZ (by rfl) (by rintro ⟨_,_,h⟩;exact h) ?_;(go_wp2_with fail);refine(Aa FW).mono ?_;rintro _ w8 ⟨rfl,C,_⟩;have HP:=Ab (Aa KK w8 C);clear FW C KK;go_wp2;exact Aa HP
 case rdone=>
  intro D M' W2 hD hi hd _;have a7:D≠N:=by omega
  obtain⟨TX,MN⟩:∃TX,ET a ByteArray.empty (XS.map (EO a))=TX:=⟨_,rfl⟩;have Bx:=hi.zS;rw[MN]at Bx;have N2:=Ab (Yt N TX M' W2 Bx);have KK:Hid (∀(MY:Array Value) p,MY.getD 4 undef=.string TX->Below N W2 p->Lib.OthersKept 5 (some N) W2 p->QQ .ret ⟨MY,[DY D]⟩ p):=by
   intro MY p h4 O a4;rw[<-Aa bl];have SL:C1 w.heap.size [D] p:=⟨by simp,λd HZ=>by simp only[bO]at HZ;omega,λd HZ=>by simp only[bO]at HZ;rw[HZ];exact a4 D _ hd (by simpa using a7) (λc fz h=>by cases h)⟩;refine Dk [D] p SL (λci hs=>?_);have bL:OwnFrom w.heap.size (fun(_:Unit) W=>Ac [] w W):=BV (λ_ W W' M h kk hM=>EL h kk hM (bZ _));have bM:Ac [] w p:=by
    have h:=O;rw[<-Aa HN]at h;exact TR hi.kept h
   have I:=hs.own bL (s:=()) SL bM;obtain⟨g2,g3,g4⟩:=Aa HI;obtain⟨e1,e2⟩:=Aa aT;refine⟨_,results_tmp rfl _ _ _,TX,s,L,n,by rw[h4],g2,g3,g4,?_,I⟩;rw[e1,e2,MN]
  clear hi hd Bx MN HH;refine Aa AB _ _ ?_;clear AB;refine wp_seq_k (λK3 HL=>?_);have HS:=Ab HL;clear HL;go_wp2_with fail
  refine(Aa N2).mono ?_;rintro _ w3 ⟨rfl,B,F⟩;have bI:=Ab B;have ba:=Ab F;clear N2 B F;go_wp2;refine Aa HS _ _ ?_;clear HS K3;refine wp_ret ?_;exact Aa KK _ _ rfl (Aa bI) (Aa ba)
 case rstop=>
  intro D c FL M' W2 _ h _;exact h.elim
