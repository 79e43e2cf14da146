import Derived.LoopIn
import Derived.Test.YtoihbhenbmffcaaGreatDoorYBR
set_option linter.all false
set_option maxHeartbeats 0
open List renaming length->Z
open Option renaming none->Y,some->V
open Go.Value renaming slice->U,int->X,string->O,pointer->kt,ownBlock->lX
open Bool renaming false->K
open Go.Ending renaming returned->lo
open Go renaming World->l9
open ByteArray renaming empty->lU
namespace Go.Proofs.YtoihbhenbmffcaaGreatDoor
open Go.RowKit Go.Proofs.Tryz
def PH(a:mc UInt8):∀(l:mc (mc zA)) (t:zA) (r:mc zA),I7 a t (l++[r])=OG (I7 a t l) K a r++⟨#[10]⟩
 |[],t,r=>rfl
 |x::l,t,r=>by rw[js,I7,PH a l,I7]
def Se:∀(a:mc UInt8) (c:mc zA) (t:zA) (b:Bool),(∀x∈c,x.size<=1000000)->(OG t b a c).size<=t.size+Z a*1000010
 |[],c,t,b,_=>by simp[OG]
 |v::a,[],t,b,_=>by simp[OG]
 |v::a,x::c,t,b,h=>by
  rw[OG];have f:=Se a c ((if b then t++⟨#[32]⟩else t)++⟨#[v]⟩++⟨#[61]⟩++x) true (λy d=>h y (by simp[d]));have e:((if b then t++⟨#[32]⟩else t)++⟨#[v]⟩++⟨#[61]⟩++x:zA).size<=t.size+1+1+1+x.size:=by
   rw[gZ,gZ,gZ];cases b with
   |true=>
    rw[gY rfl,gZ];show t.size+1+1+1+x.size<=_;omega
   |false=>
    show t.size+1+1+x.size<=_;omega
  have g:=h x (by simp);rw[gW];omega
def O1{a:mc UInt8}(b:Z a<=6):∀(l:mc (mc zA)) (t:zA),(∀r∈l,∀x∈r,x.size<=1000000)->(I7 a t l).size<=t.size+Z l*10000000
 |[],t,_=>by simp[I7]
 |r::l,t,h=>by
  rw[I7];have d:=O1 b l (OG t K a r++⟨#[10]⟩) (λr c=>h r (by simp[c]));have e:=Se a r t K (h r (by simp));rw[gZ]at d;have g:(⟨#[10]⟩:zA).size=1:=rfl;have f:Z a*1000010<=6*1000010:=iS _ b;rw[gW];omega
structure fV(w:l9)(N:Nat)(vs:mc UInt8)(pre:mc (mc zA))(M:mc Nat)(W:l9):Prop where
 zz:J0 N (I7 vs lU (pre.map (Gs vs))) M W
 kept:Ac [] w W
def fV.own{w:l9}{N B:Nat}{g:mc UInt8}(j:w.heap.size<=B):OwnFrom B (fun(q:mc (mc zA)×mc Nat) W=>fV w N g q.1 q.2 W):=
 BF (λq W l M h a b=>by
  refine⟨?_,DX h.kept a b j⟩
  obtain⟨p,k,i,e,d,c,f⟩:=h.zz
  exact⟨p,k,i,e,d.kept a (Ct b d),Ai c a (B4 b c),f⟩)
structure da(vs:mc UInt8)(XS:mc (mc zA)):Prop where
 len:Z XS<=46656
 canon:∀x∈XS,∀v∈vs,A3 (OI x v)/\(OI x v).size<=1000
 ok:∀x∈XS,Z x=26
 vars:∀v∈vs,Ed v
 six:Z vs<=6
def dg{x:mc zA}{v:UInt8}(c:Z x=26)(b:Ed v)(a:A3 (OI x v)):OI (Be x) v=AA (OI x v):=by
 unfold OI at a⊢;obtain⟨e,d⟩:=b;unfold Be;rw[ia,jf,gS (by omega)];rw[ia,gS (by omega)]at a⊢;exact Cv a
def Zy{w:l9}{base size n N:Nat}{e:TypeId}{v:Value}{m:mc Value}{s:zA}{M:mc Nat}(h:w.ownsRow base e size v n m)(r:J0 N s M w)(l:(e==145)=K)(j:(e==5)=K):∀i,v.ownBlock=V i->i∉M:=by
 intro i d a;obtain⟨p,x,o,_,q,k,rfl⟩:=r;rcases gP.1 a with rfl|a
 .exact KV h q l _ d (by simp)
 .have a:(U x s.size o).ownBlock=V i:=by simpa using a
  rcases k.2 with⟨b,_⟩|⟨g,c,f,b,_,u,_⟩
  .rw[b]at a;simp[lX]at a
  .rw[b]at a;simp only[lX,gT]at a;subst a;exact KV (t:=5) h (N:=g) (cs:=f.toList) (by unfold AH;simpa using u) j _ d (by simp)
def Rt{w:l9}{b N:Nat}{cs:mc Value}{e:TypeId}{s:zA}{M:mc Nat}(h:AH w b cs e)(j:J0 N s M w)(f:(e==145)=K)(c:(e==5)=K):b∉M:=by
 intro a;obtain⟨p,k,g,_,i,d,rfl⟩:=j;rcases gP.1 a with rfl|a
 .exact Xv h i f (by simp)
 .have a:(U k s.size g).ownBlock=V b:=by simpa using a
  exact KV d h (by cases hh:((5:TypeId)==e)with|false=>rfl|true=>rw[jA]at hh;rw[<-hh]at c;simp at c) b a (by simp)
structure NH(w:l9)(N:Nat)(M:mc Nat)(W:l9)(g:Nat)(vs:mc UInt8)(x:mc zA)(t:zA)(wz:l9):Prop where
 zz:∃M2,J0 N t M2 wz/\Xa M W M2 wz
 row:wz.ownsRow 0 172 2 (U (V ⟨g,0,Y⟩) (Z vs) (Z vs)) (Z vs) (vs.flatMap (Jb (Be x)))
 kept:Ac [] w wz
def NH.step{w W a w':l9}{N g:Nat}{M c:mc Nat}{d:mc UInt8}{x:mc zA}{t e:zA}(p:w.heap.size=N)(h:NH w N M W g d x t a)(f:J0 N t c a)(l:Xa M W c a)(j:am N e c a w'):NH w N M W g d x e w':=by
 obtain⟨k,m,b,n⟩:=j;exact⟨⟨k,m,l.step b n⟩,Ai h.row b (Zy h.row f (by rfl) (by rfl)),h.kept.trans' b (λi o=>Or.inr (by have:=(f.lt i o).1;omega))⟩
def NH.calm{w W d w':l9}{N g:Nat}{M:mc Nat}{a:mc UInt8}{x:mc zA}{t:zA}(h:NH w N M W g a x t d)(k:Ac [] d w'):NH w N M W g a x t w':=by
 obtain⟨f,c,e⟩:=h.zz;exact⟨⟨f,c.kept k (by simp),e.step (k.mono (by simp)) (λq b=>⟨Or.inl b,jw (c.lt q b).2 k.size⟩)⟩,Ad h.row k (by simp),h.kept.trans k⟩
set_option maxRecDepth 100000
theorem Ux(B9:Option Addr)(BT:Nat)(P:mc Db)(H:mc A6)(BA:Option Addr)(A1:Nat)(AO:mc Ks)(o:mc Bi)(w:l9)(hP:C9 w (U B9 (Z P) BT) P)(hB:LW P H)(hQ:fD w (U BA (Z AO) A1) AO o)
  (hq:∀s,(∀f∈s,DP H f)->aj o s/\da (Bk o) (Av (Im o s) o s (Bk o) Bs)):
  Calls prog 52 #[U B9 (Z P) BT,U BA (Z AO) A1] w λr p=>∃(t:zA) (s:mc Af) (L:zA->Nat) (n:Nat),r=lo (O t)/\Cn H L/\Il H L n s/\(∀c∈H,L c.head.name<n)/\t=I7 (Bk o) lU ((Av (Im o s) o s (Bk o) Bs).map (Gs (Bk o)))/\Ac [] w p:=by
 obtain⟨N,hN⟩:∃N,w.heap.size=N:=⟨_,rfl⟩;have HN:=Ab hN;have HW:=Ab ((me [] w).alloc (.cells #[kt Y,U Y 0 0] 145));have HF:=Ab (J0.new w);rw[hN]at HF;have LE:=Ab (N0 B9 BT P H _ (hP.kept (Aa HW)) hB);have LC:Hid (∀cb s L n S,Z2 (w.alloc (.cells #[kt Y,U Y 0 0] 145)) cb (U B9 (Z P) BT) [] s S->Il H L n s->Calls prog 94 #[kt (V ⟨cb,1,Y⟩),U BA (Z AO) A1] S λr p=>∃sp b1,r=lo (.func (.func 140) #[] #[kt (V ⟨b1,0,Y⟩)])/\AH p b1 [kt (V ⟨sp,0,Y⟩)] 233/\S.heap.size<=b1/\(∀m,Ac [N] p m->aQ m sp o s (Bk o))/\Ac [] S p):=by
  intro cb s L n S hC hI;obtain⟨b3,bl,fs,c1,cy,xs,g1,g2,g3,_⟩:=hC.out;have hc:=g1.cell 1;have LL:AH S N [kt Y,U Y 0 0] 145:=by
   have h:=(mf w [kt Y,U Y 0 0] 145).kept hC.kept (by simp);rw[hN]at h;exact h
  have hw:=hB.zh hI;obtain⟨bd,b0⟩:=hq s hI.zZ;exact Q7 cb 1 b3 bl fs BA A1 AO o s S N _ LL (Xv g1 LL (by rfl)) (by simpa using hc) g2 ⟨hQ.at_.kept ((Aa HW).trans hC.kept) (by simp),hQ.map,hQ.zM,hQ.len⟩ g3 (by omega) bd b0.six
 have N2:Hid (∀s L n,Il H L n s->da (Bk o) (Av (Im o s) o s (Bk o) Bs)):=λs L n hI=>(hq s hI.zZ).2
 clear hP hB hQ hq hN;refine Ec func52 rfl (FV ?_);simp only[ntmps52,i7,gW,iv,Nat.reduceAdd,Nat.reduceSub,jZ,j4,kx,ke,i6,js];refine ma (λK1 Bx=>?_);go_wp2;refine Aa Bx _ _ ?_;clear Bx K1;refine ma (λK1 Bx=>?_);go_wp2;refine Aa Bx _ _ ?_;clear Bx K1;rw[Aa HN];generalize hw1:w.alloc (.cells #[kt Y,U Y 0 0] 145)=w1 at HW HF LE LC⊢;clear hw1;obtain⟨QQ,NM⟩:∃QQ,JD (bodyPostM Fence.wide 0 prog Tryz.f52 λr p=>∃(t:zA) (s:mc Af) (L:zA->Nat) (n:Nat),r=lo (O t)/\Cn H L/\Il H L n s/\(∀c∈H,L c.head.name<n)/\t=I7 (Bk o) lU ((Av (Im o s) o s (Bk o) Bs).map (Gs (Bk o)))/\Ac [] w p)=QQ:=⟨_,rfl⟩;have a4:=Ab NM;rw[NM];clear NM;refine ma (λK1 Bx=>?_);refine ma (λK5 TL=>?_);go_wp2_with fail
 refine(Aa LE).mono ?_;rintro _ S ⟨cb,s,L,n,rfl,g1,g2,g3,g4⟩;have SB:=Ab (Aa LC cb s L n S g1 g3);have L0:=Ab (Aa N2 s L n g3);have HI:=Ab (And.intro g2 (And.intro g3 g4));have M1:=Ab g1.kept;clear LE LC N2 g1 g2 g3 g4;go_wp2_with fail
 refine(Aa SB).mono ?_;rintro _ w5 ⟨sp,b1,rfl,X0,b7,MN,k5⟩;have WW:Hid (Ac [] w1 w5):=(Aa M1).trans k5;have U1:=Ab ((Aa HF).kept (Aa WW) (by simp));have OB:=((Aa U1).lt N (by simp)).2;have LL:N<S.heap.size:=by
  have h:=((Aa HF).kept (Aa M1) (by simp)).lt N (by simp);exact h.2
 obtain⟨a,M6⟩:∃a,Bk o=a:=⟨_,rfl⟩;obtain⟨XS,H6⟩:∃XS,Av (Im o s) o s a Bs=XS:=⟨_,rfl⟩;rw[M6]at MN L0;rw[H6]at L0;have HH:=cg sp o s a w5 [N] MN b1 w5 [N] ⟨me _ _,X0,λk I=>by rw[gN]at I;subst I;exact⟨Or.inl (by simp),by omega,OB⟩⟩;rw[H6]at HH;have ad:Hid (Bk o=a/\Av (Im o s) o s a Bs=XS):=⟨M6,H6⟩;have TH:Hid (Ac [] w w5):=(Aa HW).trans (Aa WW);have ag:w.heap.size<=w5.heap.size:=(Aa TH).size;clear SB X0 b7 MN k5 M1 HF M6 H6;go_wp2;refine Aa TL _ _ ?_;clear TL K5;refine wp_block ?_;refine Rr rfl (enters_of func140 (by kernel_rfl) rfl) HH (λx vs W h=>by obtain⟨g,rfl,_⟩:=h;rfl) (λk I=>by rw[gN]at I;subst I;exact OB) (fV w N a) (λ_ _ _ _=>False) (fV.own ag) (λ_ _ _ _ _ h _ _=>h) ⟨Aa U1,Aa TH⟩
  (λn0 x a' W=>∃g,a'=⟨#[U B9 (Z P) BT,U BA (Z AO) A1,undef,undef,O ⟨#[]⟩,kt (V ⟨N,0,Y⟩),U (V ⟨g,0,Y⟩) (Z a) (Z a),undef,undef,U B9 (Z P) BT,kt (V ⟨cb,1,Y⟩),U BA (Z AO) A1,.func (.func 140) #[] #[kt (V ⟨b1,0,Y⟩)],U (V ⟨g,0,Y⟩) (Z a) (Z a),undef,undef,undef,undef,undef,undef,undef,undef,undef,undef,undef,undef,undef,undef,undef,undef,undef,undef,undef,undef,undef],[]⟩/\W.ownsRow 0 172 2 (U (V ⟨g,0,Y⟩) (Z a) (Z a)) (Z a) (a.flatMap (Jb (Be x))))
  (λn0 x a'=>BF (λ_ W W' M h k hM=>by obtain⟨g,B,F⟩:=h;exact⟨g,B,Ai F k (B4 hM F)⟩)) ?rassign ?rbody ?rdone ?rstop
 case rassign=>
  intro l x vs W' bt hx _ ap HK;obtain⟨g,rfl,hr⟩:=ap;have X2:Hid (∀a' SP,Ac [] W' SP->_->bt a' SP):=HK;have HR:=Ab hr;clear HK hr HH;refine AG (by rfl) (Hc F0) ?_;go_wp2;exact Aa X2 _ _ (me _ _) ⟨g,rfl,Aa HR⟩
 case rbody=>
  intro l n0 FF x cp M a' W Jx hi hM a5 ZV a7;obtain⟨g,rfl,hr⟩:=a7;have Ax:=Aa L0;have Mo:x∈XS:=by rw[Jx];simp
  obtain⟨T0,HX⟩:∃T0,I7 a lU (FF.map (Gs a))=T0:=⟨_,rfl⟩;have B0:=hi.zz;rw[HX]at B0;have aa:Hid (NH w N M W g a x T0 W):=⟨⟨M,B0,⟨me _ _,λq hq=>⟨Or.inl hq,(B0.lt q hq).2⟩⟩⟩,hr,hi.kept⟩;have c2:T0.size<=466560000000:=by
   have B:=O1 Ax.six (FF.map (Gs a)) lU (λr hr y hy=>by
    obtain⟨z,hz,rfl⟩:=gX.1 hr
    obtain⟨v,hv,rfl⟩:=gX.1 hy
    have:=(Ax.canon z (by rw[Jx];exact kn _ hz) v hv).2
    omega)
   rw[HX,ie]at B;(have F:Z FF<=Z XS:=by rw[Jx];simp);have h3:Z FF*10000000<=46656*10000000:=iS _ (by have:=Ax.len;omega);have h4:ByteArray.empty.size=0:=rfl;omega
  obtain⟨RT,K9⟩:∃RT,OG T0 K a (Gs a x)=RT:=⟨_,rfl⟩;have ar:Hid (OG T0 (decide (0<0)) (a.drop 0) ((Gs a x).drop 0)=RT):=K9;have KS:Hid (∀m,NH w N M W g a x (RT++⟨#[10]⟩) m->LI (fV w N a) (λ_ _ _ _=>False) (FF++[x]) M W .normal ⟨#[],[]⟩ m):=by
   intro m hz;obtain⟨M2,B,F⟩:=hz.zz;refine⟨F.kept,M2,⟨?_,hz.kept⟩,F.mem⟩;rw[iG,ii,jM,PH,HX,K9];exact B
  have a3:Hid (∀v∈a,BL (OI (Be x) v)=OI x v/\(OI x v).size<=1000/\(OI (Be x) v).size<=1000000):=λv hv=>by
   obtain⟨hc,hz⟩:=Ax.canon x Mo v hv;rw[dg (Ax.ok x Mo) (Ax.vars v hv) hc];have:=NQ (OI x v);exact⟨FU hc,hz,by omega⟩
  have X3:Hid (∀v∈a,Ed v):=Ax.vars;have h6:=Ax.six;have NL:=Aa HN;have LB:Hid (∀(d:UInt8) t m,NH w N M W g a x t m->t.size+1<=140737488355328->Calls prog 77 #[kt (V ⟨N,0,Y⟩),X .u8 (d.toNat:Int)] m λe p=>e=lo .nilIface/\NH w N M W g a x (t++⟨#[d]⟩) p/\∀b cs,AH m b cs 172->AH p b cs 172):=by
   intro d t m h hl;obtain⟨M2,B,F⟩:=h.zz;refine(SF N t M2 d m B hl).mono ?_;rintro e p ⟨rfl,hW⟩;refine⟨rfl,h.step NL B F hW,λb cs hb=>?_⟩;obtain⟨_,_,I,_⟩:=hW;exact hb.kept I (Rt hb B (by rfl) (by rfl))
  have af:Hid (∀(d:UInt8) t m,NH w N M W g a x t m->d.toNat<=127->t.size+1<=140737488355328->Calls prog 95 #[kt (V ⟨N,0,Y⟩),X .i32 (d.toNat:Int)] m λe p=>(∃v,e=lo v)/\NH w N M W g a x (t++⟨#[d]⟩) p/\∀b cs,AH m b cs 172->AH p b cs 172):=by
   intro d t m h hd hl;obtain⟨M2,B,F⟩:=h.zz;refine(YI N t M2 d m B hd hl).mono ?_;rintro e p ⟨hv,hW⟩;refine⟨hv,h.step NL B F hW,λb cs hb=>?_⟩;obtain⟨_,_,I,_⟩:=hW;exact hb.kept I (Rt hb B (by rfl) (by rfl))
  have bb:Hid (∀(y:zA) t m,NH w N M W g a x t m->t.size+y.size<=140737488355328->Calls prog 75 #[kt (V ⟨N,0,Y⟩),O y] m λe p=>e=lo (.tuple #[X .i64 y.size,.nilIface])/\NH w N M W g a x (t++y) p):=by
   intro y t m h hl;obtain⟨M2,B,F⟩:=h.zz;refine(Vm N t M2 y m B hl).mono ?_;rintro e p ⟨rfl,hW⟩;exact⟨rfl,h.step NL B F hW⟩
  clear hi hr B0 Ax Mo HX K9 Jx hM a5 ZV HH;refine wpIn_block ?_;refine jd (λK3 HL=>?_);have HS:=Ab HL;clear HL;refine jd (λG u=>?_);have A:=Ab u;clear u;refine AG (by rfl) (by rintro ⟨_,_,h⟩;exact h) ?_;go_wp2;refine Aa A _ _ ?_;clear A G;refine wpIn_block ?_
  gi_loopw [16] (λi m=>∃(j:Nat) (t:zA),i=X .i64 j/\j<=Z a/\t.size<=T0.size+j*1000010/\Hid (OG t (decide (0<j)) (a.drop j) ((Gs a x).drop j)=RT)/\Hid (NH w N M W g a x t m)) (λi _=>Z a-(intOf i).toNat)
  case atStart=>exact⟨0,T0,rfl,ik _,by omega,ar,aa⟩
  case round=>
   obtain⟨j,t,rfl,hj,bp,HC,HD⟩:=hrel;have cz:j*1000010<=6*1000010:=iS _ (by omega);by_cases DT:j<Z a
   .obtain⟨g',cv,he,_,LS⟩:=AF (Aa HD).row (λc _=>Zi (Be x) c) j DT;simp only[gM,gT,iL]at he;obtain⟨⟨rfl,-,-⟩,-,-⟩:=he;have d0:=LS j DT 0 (by omega);have d1:=LS j DT 1 (by omega);simp[Jb]at d0 d1;(have br:j<Z (Gs a x):=by unfold Gs;rw[ie];exact DT);have HJ:Hid (OG ((if decide (0<j)then t++⟨#[32]⟩else t)++⟨#[a[j]]⟩++⟨#[61]⟩++OI x a[j]) true (a.drop (j+1)) ((Gs a x).drop (j+1))=RT):=by
     have h:=Aa HC;rw[ij DT,ij br,OG]at h;(have e:(Gs a x)[j]=OI x a[j]:=by simp[Gs]);rw[e]at h;exact h
    obtain⟨HU,NS,H1⟩:=Aa a3 a[j] (gL DT);have a8:=(Aa X3 a[j] (gL DT)).2;obtain⟨E,hV⟩:∃E,a[j]=E:=⟨_,rfl⟩;rw[hV]at d0 d1 HJ HU NS H1 a8;obtain⟨T,hY⟩:∃T,OI (Be x) E=T:=⟨_,rfl⟩;obtain⟨FL,hX⟩:∃FL,OI x E=FL:=⟨_,rfl⟩;rw[hY]at d1 HU H1;rw[hX]at HJ HU NS;(have c4:(0:Int)<=(j:Int):=by omega);(have al:(j:Int)<(Z a:Int):=by omega);have RI:=Ab (λm=>I6 T m H1);rw[HU]at RI;clear LS HC hV hY hX HU H1;refine jd (λG u=>?_);have A:=Ab u;clear u;refine AG (by rfl) (by rintro ⟨_,_,h⟩;exact h) ?_;go_wp2;refine Aa A _ _ ?_;clear A G;refine jd (λG u=>?_);have A:=Ab u;clear u;refine ku rfl (wpIn_skip ?_);refine Aa A _ _ ?_;clear A G;refine jd (λK6 P0=>?_);have NB:=Ab P0;clear P0;refine wpIn_block ?_;refine jd (λG u=>?_);have A:=Ab u;clear u;refine AG (by rfl) (by rintro ⟨_,_,h⟩;exact h) ?_;have H3:=Ab (mf wr [X .i32 (E.toNat:Int),O T] 172);have H5:=Ab ((Aa HD).calm ((me [] wr).alloc (.cells #[X .i32 (E.toNat:Int),O T] 172)));go_wp2;refine Aa A _ _ ?_;clear A G;change Code.wpIn _ _ _ _ _ _ (wr.alloc (.cells [X .i32 (E.toNat:Int),O T].toArray 172));generalize wr.alloc (.cells [X .i32 (E.toNat:Int),O T].toArray 172)=w7 at H3 H5⊢;obtain⟨NX,W1⟩:∃NX,wr.heap.size=NX:=⟨_,rfl⟩;rw[W1]at H3⊢;clear W1 d0 d1 HD;obtain⟨t3,Nd,c5⟩:∃t3,(if decide (0<j)then t++⟨#[32]⟩else t)=t3/\t3.size<=t.size+1:=⟨_,rfl,by
     split
     .rw[gZ];exact ig _
     .omega⟩
    rw[Nd]at HJ;have Pl:Hid (OG (t3++⟨#[E]⟩++⟨#[61]⟩++FL) (decide (0<j+1)) (a.drop (j+1)) ((Gs a x).drop (j+1))=RT):=by
     have h:=Aa HJ;show _=_;simpa using h
    have PT:(t3++⟨#[E]⟩++⟨#[61]⟩++FL:zA).size<=T0.size+(j+1)*1000010:=by
     rw[gZ,gZ,gZ];show t3.size+1+1+FL.size<=_;omega
    (have YP:(t3++⟨#[E]⟩:zA).size=t3.size+1:=by rw[gZ];rfl);(have c8:(t3++⟨#[E]⟩++⟨#[61]⟩:zA).size=t3.size+1+1:=by rw[gZ,YP];rfl);have X1:=Ab Nd;clear HJ Nd;refine jd (λG u=>?_);have A:=Ab u;clear u;have OH:Hid (∀Wa SL WB m,NH w N M W g a x t3 m->AH m NX [X .i32 (E.toNat:Int),O T] 172->G ⟨#[U B9 (Z P) BT,U BA (Z AO) A1,undef,undef,O ⟨#[]⟩,kt (V ⟨N,0,Y⟩),U (V ⟨g,0,Y⟩) (Z a) (Z a),X .i64 j,kt (V ⟨NX,0,Y⟩),U B9 (Z P) BT,kt (V ⟨cb,1,Y⟩),U BA (Z AO) A1,.func (.func 140) #[] #[kt (V ⟨b1,0,Y⟩)],U (V ⟨g,0,Y⟩) (Z a) (Z a),U (V ⟨g,0,Y⟩) (Z a) (Z a),X .i64 (Z a),X .i64 j,.bool true,X .i64 j,kt (V ⟨g,j*2,Y⟩),.agg #[X .i32 (E.toNat:Int),O T],Wa,SL,WB,u24,u25,u26,u27,u28,u29,u30,u31,u32,undef,undef],[]⟩ m):=by
     intro Wa SL WB m C LM;refine Aa A _ _ ?_;have e0:=LM.cell 0;simp at e0;have VR:=Ab (Aa af E t3 m C (by omega) (by omega));have W3:=Ab LM;clear A C LM;refine jd (λK7 BS=>?_);have R:=Ab BS;clear BS;refine AG (by rfl) (by rintro ⟨_,_,h⟩;exact h) ?_;(go_wp2_with fail);refine(Aa VR).mono ?_;rintro _ w8 ⟨⟨v8,rfl⟩,C,Q⟩;have ST:=Ab (Q _ _ (Aa W3));have W0:=Ab (Aa LB 61 (t3++⟨#[E]⟩) w8 C (by omega));clear VR W3 C Q e0;go_wp2;refine Aa R _ _ ?_;clear R K7;refine jd (λK7 BS=>?_);have R:=Ab BS;clear BS;refine AG (by rfl) (by rintro ⟨_,_,h⟩;exact h) ?_;(go_wp2_with fail);refine(Aa W0).mono ?_;rintro _ w9 ⟨rfl,C,Q⟩;have RB:=Q _ _ (Aa ST);have e1:=RB.cell 1;simp at e1;have VL:=Ab (Aa bb FL (t3++⟨#[E]⟩++⟨#[61]⟩) w9 C (by omega));have Op:=Ab (Aa RI w9);clear W0 ST C Q RB;go_wp2;refine Aa R _ _ ?_;clear R K7;refine AG (by rfl) (by rintro ⟨_,_,h⟩;exact h) ?_;(go_wp2_with fail);refine(Aa Op).mono ?_;rintro _ c7 ⟨rfl,rfl⟩;clear Op;(go_wp2_with fail);refine(Aa VL).mono ?_;rintro _ cR ⟨rfl,C⟩;have b5:=Ab C;clear VL C e1;go_wp2;refine Aa NB _ _ ?_;clear NB;refine AG (by rfl) (by rintro ⟨_,_,h⟩;exact h) ?_;go_wp2
     go_roundw
     case rel=>exact⟨j+1,_,by go_num,by omega,PT,Pl,b5⟩
     case measure=>simp[intOf];omega
    clear A NB Pl PT;refine jd (λK7 BS=>?_);have R:=Ab BS;clear BS;refine AG (by rfl) (by rintro ⟨_,_,h⟩;exact h) ?_;by_cases h0:0<j
    ·(have bz:(0:Int)<(j:Int):=by omega);have FC:Hid (t++⟨#[32]⟩=t3):=by
      have h:=Aa X1;rw[gY (by simpa using h0)]at h;exact h
     have FT:=Ab (Aa LB 32 t w7 (Aa H5) (by omega));rw[Aa FC]at FT;go_wp2;refine Aa R _ _ ?_;clear R K7;refine ku rfl ?_;refine AG (by rfl) (by rintro ⟨_,_,h⟩;exact h) ?_;(go_wp2_with fail);refine(Aa FT).mono ?_;rintro _ w8 ⟨rfl,C,Q⟩;have bx:=Ab C;have an:=Ab (Q _ _ (Aa H3));clear FT C Q;go_wp2;exact Aa OH _ _ _ _ (Aa bx) (Aa an)
    ·(have bz:¬(0:Int)<(j:Int):=by omega);have FC:Hid (t=t3):=by
      have h:=Aa X1;rw[gV (by simpa using h0)]at h;exact h
     rw[Aa FC]at H5;go_wp2;refine Aa R _ _ ?_;clear R K7;refine ki rfl (wpIn_skip ?_);exact Aa OH _ _ _ _ (Aa H5) (Aa H3)
   .have FC:Hid (t=RT):=by
     have h:=Aa HC;rw[iC (by omega)]at h;(have e:∀(b:Bool) (l:mc zA),OG t b [] l=t:=λb l=>by cases l<;>rfl);rw[e]at h;exact h
    rw[Aa FC]at bp HD;have FT:=Ab (Aa LB 10 RT wr (Aa HD) (by omega));(have al:¬(j:Int)<(Z a:Int):=by omega);clear HC FC HD;refine jd (λG u=>?_);have A:=Ab u;clear u;refine AG (by rfl) (by rintro ⟨_,_,h⟩;exact h) ?_;go_wp2;refine Aa A _ _ ?_;clear A G;refine jd (λG u=>?_);have A:=Ab u;clear u A;refine ki rfl (wpIn_exit ?_);refine Aa HS _ _ ?_;clear HS;refine AG (by rfl) (by rintro ⟨_,_,h⟩;exact h) ?_;(go_wp2_with fail);refine(Aa FT).mono ?_;rintro _ w8 ⟨rfl,C,_⟩;have HP:=Ab (Aa KS w8 C);clear FT C KS;go_wp2;exact Aa HP
 case rdone=>
  intro D M' W2 hD hi hd _;have av:D≠N:=by omega
  obtain⟨TX,MY⟩:∃TX,I7 a lU (XS.map (Gs a))=TX:=⟨_,rfl⟩;have B0:=hi.zz;rw[MY]at B0;have EU:=Ab (U5 N TX M' W2 B0);have KS:Hid (∀(M0:Array Value) p,M0.getD 4 undef=O TX->Below N W2 p->Lib.OthersKept 5 (V N) W2 p->QQ .ret ⟨M0,[D8 D]⟩ p):=by
   intro M0 p h4 Q ao;rw[<-Aa a4];have RO:C6 w.heap.size [D] p:=⟨by simp,λd HZ=>by simp only[gN]at HZ;omega,λd HZ=>by simp only[gN]at HZ;rw[HZ];exact ao D _ hd (by simpa using av) (λc fz h=>by cases h)⟩;refine C5 [D] p RO (λc6 hs=>?_);have bs:OwnFrom w.heap.size (fun(_:Unit) W=>Ac [] w W):=BF (λ_ W W' M h kk hM=>DX h kk hM (ig _));have bv:Ac [] w p:=by
    have h:=Q;rw[<-Aa HN]at h;exact GZ hi.kept h
   have I:=hs.own bs (s:=()) RO bv;obtain⟨g2,g3,g4⟩:=Aa HI;obtain⟨e1,e2⟩:=Aa ad;refine⟨_,results_tmp rfl _ _ _,TX,s,L,n,by rw[h4],g2,g3,g4,?_,I⟩;rw[e1,e2,MY]
  clear hi hd B0 MY HH;refine Aa Bx _ _ ?_;clear Bx;refine ma (λK3 HS=>?_);go_wp2_with fail
  refine(Aa EU).mono ?_;rintro _ w3 ⟨rfl,B,F⟩;have bn:=Ab B;have a1:=Ab F;clear EU B F;go_wp2;refine Aa HS _ _ ?_;clear HS K3;refine wp_ret ?_;exact Aa KS _ _ rfl (Aa bn) (Aa a1)
 case rstop=>
  intro D c FF M' W2 _ h _;exact h.elim
