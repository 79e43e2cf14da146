import Derived.Test.YtoihbhenbmffcaaGreatZBC
set_option linter.all false
set_option maxHeartbeats 0
open List renaming length->Z
open Option renaming none->Y,some->V
open Go.Value renaming slice->U,int->X,string->O,pointer->j2,agg->kx
open Go.Obj renaming cells->jj
open Go.World renaming cell?->ku,ownsRow->kw
open Go.Act renaming put->kG
namespace Go.Proofs.YtoihbhenbmffcaaGreat
open Go.RowKit Go.Proofs.Tryz
variable{n m:Nat}{o:Option Addr}{M:kJ Nat}{w v:World}{p:kJ CB}
structure Oq(b1:Nat)(sad:Option Addr)(scp:Nat)(fs:kJ DF)(M:kJ Nat)(w:World):Prop where
 at_:ku w ⟨b1,0,Y⟩=V (U sad (Z fs) scp)
 row:kw w 0 56 2 (U sad (Z fs) scp) (Z fs) (fs.flatMap AI)
 apart:∀k∈M,k≠b1/\(U sad (Z fs) scp).ownBlock≠V k/\k<w.heap.size
def Oq.grow{b:kJ DF}(h:Oq n o m b M w)(k:Ac [] w v):Oq n o m b M v:=
 ⟨k.cellAt h.at_,Ad h.row k,λi a=>⟨(h.apart i a).1,(h.apart i a).2.1,iM (h.apart i a).2.2 k.size⟩⟩
def Oq.round{f:kJ DF}{M g:kJ Nat}(h:Oq n o m f M w)(k:Ac M w v)(d:∀i∈g,(i∈M\/w.heap.size<=i)/\i<v.heap.size):Oq n o m f g v:=by
 have j:=KV h.at_;refine⟨JT k h.at_ (λb=>(h.apart _ b).1 rfl),Am h.row k (λq c b=>(h.apart q b).2.1 c),λi e=>⟨?_,?_,(d i e).2⟩⟩
 .rcases(d i e).1 with a|a
  .exact(h.apart i a).1
  .omega
 .rcases(d i e).1 with a|a
  .exact(h.apart i a).2.1
  .intro c;have:=(h.row.lt i c).2;omega
def bQ{a:kJ DF}(h:kw w 0 56 2 (U o (Z a) n) (Z a) (a.flatMap AI))(j:Nat)(b:j<Z a):
  ∃g,o=V ⟨g,0,Y⟩/\ku w ⟨g,j*2,Y⟩=V (O a[j].f.name)/\ku w ⟨g,j*2+1,Y⟩=V a[j].tv:=by
 obtain⟨g,l,i,_,k⟩:=AC h (λc _=>rfl) j b;simp only[fg]at i;have d:=k j b 0 (by omega);have e:=k j b 1 (by omega);simp[AI]at d e;exact⟨g,i.1,d,e⟩
set_option maxRecDepth 100000
theorem T3(y:Nat)(CC:Option Addr)(EK:Nat)(a:kJ DF)(w:World)(A:kJ Nat)(hB:Oq y CC EK a A w)(AT:∀q∈a,∃ad n cp,q.tv=U ad n cp)(HS:Z a<=900000):
  Le prog 125 #[j2 (V ⟨y,0,Y⟩)] (λq:DF=>#[kx (AI q).toArray]) a A w:=by
 intro l z Jx W FO _ _ hJ HT hR EY;have D:=hB.grow FO;have c1:=D.at_;have HB:=Ab D;have HJ:=Ab hJ;have HR:=Ab hR;have HA:=Ab AT;have BT:Hid (z (a.take 0) A W):=EY;clear hB D hJ hR EY FO AT;show Calls prog 125 #[.func (.yield l) #[] #[],j2 (V ⟨y,0,Y⟩)] W _;go_enter func125,ntmps125;go_wp2_with fail
 go_loopg [4,7] (Z a) (λgk bx i wr=>∃(k:Nat) (M:kJ Nat),i=X .i64 k/\k<=Z a/\gk=Z a-k/\Hid (Oq y CC EK a M wr)/\Hid (z (a.take k) M wr)/\Hid (W.heap.size<=wr.heap.size))
 case atStart=>exact⟨0,A,rfl,by omega,rfl,HB,BT,fJ _⟩
 case round=>
  clear HB BT c1;obtain⟨k,M,rfl,hk,B9,F,B,EM⟩:=hrel;have HG:=Ab B9;clear B9;by_cases t:k<Z a
  .obtain⟨g,hg,e0,e1⟩:=bQ F.row k t;subst hg;obtain⟨m,r,j,R⟩:=HA a[k] (fj t);rw[R]at e1;obtain⟨d,S⟩:=kK (a[k].f.name);rw[S]at e0;have E0:Hid ((#[kx (AI a[k]).toArray]:Array Value)=#[kx #[O d,U m r j]]):=by
    show _=_;unfold AI;rw[S,R]
   have AH:Hid (a.take k++[a[k]]=a.take (k+1)):=by
    show _=_;rw[fm t]
   have FA:Hid (a=a.take k++a[k]::a.drop (k+1)):=by
    show _=_
    conv=>lhs;rw[<-gL k a]
    rw[fQ t]
   (have HU:(0:Int)<=(k:Int):=by omega);(have HF:(k:Int)<(Z a:Int):=by omega);have p:=Ab (kN wr [O d,U m r j] 56);have x:=Ab ((kL [] wr).alloc (jj [O d,U m r j].toArray 56));clear S R;refine kI (λo b=>?_);go_wp2;refine b _ _ ?_;clear b o;refine kI (λo b=>?_);go_wp2;refine b _ _ ?_;clear b o;refine kI (λK5 FB=>?_);refine wp_block ?_;refine kI (λo b=>?_);go_wp2;refine b _ _ ?_;clear b o;change Code.wp _ _ _ _ (wr.alloc (jj [O d,U m r j].toArray 56));generalize hw2:wr.alloc (jj [O d,U m r j].toArray 56)=w2 at p x⊢;have CW:=p.lt;generalize wr.heap.size=N at p CW⊢;have Q:=Ab (F.grow x);have G:Hid (z (a.take k) M w2):=Bz HJ (s:=(a.take k,M)) B x;have I:Hid (W.heap.size<=w2.heap.size):=gQ EM x.size;have C:=p.cell 0;have T:=p.cell 1;simp at C T;have H:YieldAt Fence.wide 0 prog l #[kx (AI a[k]).toArray] w2 _:=HR _ _ _ M w2 FA G;rw[Aa E0,Aa AH]at H;have L:=Ab H;clear H;clear hw2 e0 e1 F B EM x p CW E0 AH FA;refine kI (λo b=>?_);refine Hw (n:=0) 2 (by rintro ⟨_,_,h⟩;obtain⟨⟨v,e⟩,_⟩:=h;cases e) (λK2 CL=>?_);simp only[iX,jJ];go_wp2;refine CL _ _ ?_;clear CL K2;simp only[ji,jK];refine Jb (λ_=>trivial) rfl rfl (l:=l) (args:=#[kx #[O d,U m r j]]) (by rfl) (by first|(simp[go_sem,Oper.semAt];done)|(simp[go_sem,Oper.semAt,execOp,resolve,invoke];done)) L ?_;rintro e w4 (⟨rfl,E,u,P,AR⟩|⟨rfl,E,u,-⟩)
   .refine⟨_,rfl,DM (by rintro ⟨_,_,h⟩;obtain⟨⟨v,e⟩,_⟩:=h;cases e) ?_⟩;simp only[kG,ff,fh,fi];have HI:=Ab (Q.round P AR);have Ax:=Ab u;have HH:Hid (W.heap.size<=w4.heap.size):=gQ I P.size;clear u P AR C T L Q G I;go_wp2;refine b _ _ ?_;clear b;go_wp2;refine FB _ _ ?_;clear FB;go_wp2
    go_roundg (Z a-(k+1))
    case measure=>have:=Aa HG;omega
    case rel=>exact⟨k+1,E,by go_num,by omega,rfl,HI,Ax,HH⟩
   .refine⟨_,rfl,DM (by rintro ⟨_,_,h⟩;obtain⟨⟨v,e⟩,_⟩:=h;cases e) ?_⟩;simp only[kG,ff,fh,fi];have Ax:=Ab u;clear u C T L Q G I;go_wp2;refine b _ _ ?_;clear b;go_wp2;refine fL (jR rfl _ _ _) rfl ?_;exact⟨⟨_,rfl⟩,Or.inr ⟨_,E,Ax⟩⟩
  ·(obtain rfl:k=Z a:=by omega);have HK:Hid (z a M wr):=by
    have h:=Aa B;rw[gT]at h;exact h
   (have HF:¬(Z a:Int)<(Z a:Int):=by omega);clear B t;go_wp2;go_end0;exact⟨⟨_,rfl⟩,Or.inl ⟨M,HK⟩⟩
def Q4(f:Cg)(c:CB):Prop:=c.hp=0/\c.hn=f.name/\c.zD=f.zC.map IY/\c.bv=U Y 0 0/\c.zE=[]
structure eN(w:World)(N:Nat)(pcs:kJ CB)(pre:kJ DF)(M:kJ Nat)(W:World):Prop where
 kept:Ac [] w W
 out:∃(ad:Option Addr) (cp:Nat) (qs:kJ CB),AF W N [U ad (Z (pcs++qs)) cp] 40/\kw W w.heap.size 120 4 (U ad (Z (pcs++qs)) cp) (Z (pcs++qs)) ((pcs++qs).flatMap AZ)/\(∀c∈qs,kw W w.heap.size 164 2 c.hv (Z c.zD) (c.zD.flatMap Ap))/\F2 Q4 (pre.map DF.f) qs/\M=N::(U ad (Z (pcs++qs)) cp).ownBlock.toList
def eN.own{N B:Nat}(l:w.heap.size<=B):OwnFrom B (fun(s:kJ DF×kJ Nat) W=>eN w N p s.1 s.2 W):=
 Cm (λs W n M h k a=>by
  obtain⟨m,j,g,d,b,e,i⟩:=h.out
  exact⟨E9 h.kept k a l,m,j,g,d.kept k (Dt a d),Am b k (Df a b),λc f=>Am (e c f) k (Df a (e c f)),i⟩)
def P2(pcs:kJ CB)(fs:kJ DF)(w:World)(e:Ending)(w':World):Prop:=∃(ad:Option Addr) (cp:Nat) (qs:kJ CB),e=.returned (U ad (Z (pcs++qs)) cp)/\Cv w' (U ad (Z (pcs++qs)) cp) (pcs++qs)/\F2 Q4 (fs.map DF.f) qs/\Ac [] w w'
def cO{c:CB}(h:Iv w 0 c.hv c.bv c.zD c.zE):∀u∈AZ c,u.oneCell'=true:=by
 obtain⟨i,g,b⟩:=Aj h.head;obtain⟨e,f,d⟩:=Aj h.body.row;intro u a;unfold AZ at a;rw[b,d]at a;simp only[fx,gP,or_false]at a;rcases a with rfl|rfl|rfl|rfl<;>rfl
theorem Qz(sb so:Nat)(JJ:Option Addr)(H8:Nat)(a:kJ CB)(E0:Option Addr)(EY:Nat)(A:kJ DF)(w:World)(hP:Cv w (U JJ (Z a) H8) a)(r:ku w ⟨sb,so,Y⟩=V (U E0 (Z A) EY))(hF:Iw w (U E0 (Z A) EY) A)(a7:Z a<=12)(a5:Z A<=300):
  Calls prog 26 #[U JJ (Z a) H8,j2 (V ⟨sb,so,Y⟩)] w (P2 a A w):=by
 have NX:=Ab (XT JJ H8 (Z a) (a.flatMap AZ) w hP.row (by omega) (λu hu=>by obtain⟨c,r,hu⟩:=gc.1 hu;exact cO (hP.each c r) u hu));have N4:Hid (∀g,Ac [] w g->Calls prog 52 #[j2 (V ⟨sb,so,Y⟩)] g (Io (U E0 (Z A) EY) g)):=λg y=>V8 sb so E0 (Z A) EY g (y.cellAt r)
 have RI:Hid (∀(j:zA) (S:kJ zA) (HA:Option Addr) (HB:Nat) g,(⟨⟨j,S⟩,U HA (Z S) HB⟩:DF)∈A->Ac [] w g->Calls prog 53 #[kx #[O j,U HA (Z S) HB]] g λe w'=>∃(ad:Option Addr) (cp:Nat),e=.returned (kx #[X .i64 0,O j,U ad (Z S) cp,U Y 0 0])/\kw w' g.heap.size 164 2 (U ad (Z S) cp) (Z S) ((S.map IY).flatMap Ap)/\Ac [] g w'):=λj S HA HB g hm y=>St j S HA HB g ((hF.each _ hm).1.kept y) (hF.each _ hm).2
 have HP:=Ab hP;have HF:=Ab hF;have a6:=KV r;obtain⟨i0,W2,SP,af,WS⟩:=gH Tryz.info120;clear hP hF r;refine F6 func26 rfl ?_;simp only[ntmps26,gS,fD,gh,Nat.reduceAdd,Nat.reduceSub,ju,jv,jG,jB,ia,iO];have IS:¬LetsOut (bodyPostM Fence.wide 0 prog Tryz.f26 (P2 a A w)):=Nm (λ_ ⟨_,_,_,h,_⟩=>by cases h);obtain⟨QQ,IJ⟩:=kK (bodyPostM Fence.wide 0 prog Tryz.f26 (P2 a A w));have TT:=Ab IJ;rw[IJ]at IS⊢;have aT:=Ab IS;clear IJ IS;refine kI (λK1 Ax=>?_);go_wp2;refine Ax _ _ ?_;clear Ax K1;refine kI (λK1 Ax=>?_);go_wp2_with fail
 refine NX.mono ?_;rintro _ w1 ⟨Q,H,rfl,N2,E⟩;have NE:=Ab N2;have NY:=Ab E;clear NX N2 E;go_wp2_with fail
 refine Ax _ _ ?_;clear Ax K1;have HD:=Ab (kN w1 [U Q (Z a) H] 40);have HM:=Ab ((kL [] w1).alloc (jj [U Q (Z a) H].toArray 40));change Code.wp _ _ _ _ (w1.alloc (jj [U Q (Z a) H].toArray 40));generalize w1.alloc (jj [U Q (Z a) H].toArray 40)=w2 at HD HM⊢;obtain⟨N,hN⟩:=kK w1.heap.size;rw[hN]at HD⊢;have NS:w.heap.size<=N:=by have:=NY.size;omega
 have SB:=HD.lt;have Go:=Ab (NY.trans HM);have TV:Hid (eN w N a [] (N::(U Q (Z a) H).ownBlock.toList) w2):=by
  refine⟨Go,Q,H,[],?_,?_,(λc r=>by cases r),F2.nil,?_⟩
  .rw[gd];exact HD
  .rw[gd];exact Ad NE HM
  .rw[gd]
 have Op:=Ab (N4 w2 Go);clear N4;refine kI (λK1 Ax=>?_);refine kI (λK2 MY=>?_);go_wp2_with fail
 refine Op.mono ?_;rintro _ w3 ⟨b1,rfl,EK,K6,k3⟩;have W0:=Ab EK;have TS:=Ab K6;have FO:=Ab k3;clear Op EK K6 k3;go_wp2_with fail
 refine MY _ _ ?_;clear MY K2;refine wp_block ?_;have M0:Hid (eN w N a [] (N::(U Q (Z a) H).ownBlock.toList) w3):=Bz (eN.own (fJ _)) (s:=([],N::(U Q (Z a) H).ownBlock.toList)) TV FO;have M1:Hid (∀k∈N::(U Q (Z a) H).ownBlock.toList,w.heap.size<=k/\k<w2.heap.size):=by
  intro k y;rcases fx.1 y with rfl|y
  .exact⟨NS,SB⟩
  .have F:=NE.lt k (by simpa using y);exact⟨F.1,by have:=HM.size;omega⟩
 have TX:Hid (Oq b1 E0 EY A (N::(U Q (Z a) H).ownBlock.toList) w3):=by
  have F:=W0.cell 0;simp at F;refine⟨F,(Iw.kept HF (Go.trans FO)).row,λk y=>?_⟩;have h2:=M1 k y;have h3:=FO.size;have h4:=Aa TS;refine⟨by omega,λhs=>?_,by omega⟩;have:=(HF.row.lt k hs).2;omega
 have S0:=T3 b1 E0 EY A w3 _ TX (λq o=>by obtain⟨ad,cp,e⟩:=Aj (HF.each q o).1;exact⟨ad,_,cp,e⟩) (by omega);refine Iq (T:=56) (q:=6) rfl (enters_of func125 (by kernel_rfl) rfl) S0 (λk y=>by have:=M1 k y;have:=FO.size;omega) (eN w N a) (λ_ _ _ _=>False) (eN.own (by have:=Go.size;have:=FO.size;omega)) (λ_ _ _ _ _ h _ _=>h) M0 ?assign ?body ?done ?stop
 case assign=>
  intro l x W BT hx HK;obtain⟨⟨j,m⟩,xv⟩:=x;obtain⟨I,P,FF⟩:=Aj (HF.each _ hx).1;simp only at FF;subst FF;simp only[AI]at HK⊢;clear hx;simp only[ff,fh,fi]at HK⊢;refine CM (by rfl) (J2 Is) ?_;go_wp2;refine HK _ ((kL [] W).alloc _) ?_;exact kN W [O j,U I (Z m) P] 56
 case body=>
  intro l Bx ST x av M W Ix hi hM bb hB;have hx:x∈A:=by rw[Ix];simp
  obtain⟨⟨j,m⟩,xv⟩:=x;obtain⟨I,P,FF⟩:=Aj (HF.each _ hx).1;simp only at FF;subst FF;obtain⟨B,C,z,F,h2,h3,h4,h5⟩:=hi.out;simp only[AI]at hB⊢;have a9:Z z<=300:=by
   have e1:=h4.lenX;have e2:=congrArg List.length Ix;simp at e1 e2;omega
  have K9:=Ab (RI j m I P W.drew hx hi.kept.drew);have HX:=Ab hi.kept;have SS:=Ab hB;have H1:=Ab F;have H2:=Ab h2;have H3:=Ab h3;have H4:=Ab h4;have H5:=Ab h5;obtain⟨LD,hX⟩:∃LD:DF,LD=⟨⟨j,m⟩,U I (Z m) P⟩:=⟨_,rfl⟩;have aa:=Ab hX;rw[<-hX]at Ix⊢;obtain⟨L,hL⟩:=kK (Z (a++z));have S1:=Ab hL;have a0:L<=1000:=by rw[<-hL,fE];omega
  rw[hL]at H1 H2 H5;clear hx hi hB F h2 h3 h4 h5 hM hX hL;have FT:Hid (∀g,Ac [] W g->AF g N [U B L C] 40/\AF g Bx [O j,U I (Z m) P] 56):=λg y=>⟨H1.kept y,SS.kept y⟩
  have HS:Hid (∀g,AF g N [U B L C] 40/\AF g Bx [O j,U I (Z m) P] 56->ku g ⟨N,0,Y⟩=V (U B L C)/\ku g ⟨Bx,0,Y⟩=V (O j)/\ku g ⟨Bx,1,Y⟩=V (U I (Z m) P)):=λg h=>by
   have a1:=h.1.cell 0;have a2:=h.2.cell 0;have a3:=h.2.cell 1;simp at a1 a2 a3;exact⟨a1,a2,a3⟩
  have NA:=Ab (HS W.drew (FT _ (kL [] W).drew));simp only[ff,fh,fi];refine wpIn_block ?_;refine Dp 5 (λg=>ku g ⟨N,0,Y⟩=V (U B L C)/\ku g ⟨Bx,0,Y⟩=V (O j)/\ku g ⟨Bx,1,Y⟩=V (U I (Z m) P)) (by kernel_rfl) (by rfl) (by rintro ⟨_,_,h⟩;exact h) ?_;refine Ci.tq (i:=0) (v:=U B L C) rfl (λ_ _ _ h=>h) NA ?_;simp only[kG,ff,fh,fi];refine Ci.tq (i:=1) (v:=kx #[O j,U I (Z m) P]) rfl (λ_ _ _ h=>h) NA ?_;simp only[kG,ff,fh,fi];refine Ci.one (i:=2) (by kernel_rfl) rfl (λBT G=>?_)
  go_simp
  refine K9.mono ?_;rintro _ R ⟨CL,CC,rfl,K4,ag⟩;have W1:=Ab K4;clear K4 K9;have E:Ac [] W R:=(kL [] W).drew.trans ag;refine G.out _ _ (λ_=>HS _ (FT _ E)) ?_;clear G BT
  try simp only[kG,ff,fh,fi]
  refine Ci.one (i:=3) (by kernel_rfl) rfl (λBT G=>?_)
  go_simp
  have k2:=E.alloc (jj #[X .i64 0,O j,U CL (Z m) CC,U Y 0 0] 120);refine G.out _ _ (λ_=>HS _ (FT _ k2)) ?_;clear G BT
  try simp only[kG,ff,fh,fi]
  have HI:kw R w.heap.size 120 4 (U B L C) L ((a++z).flatMap AZ):=Ad H2 E;have a4:w.heap.size<=R.heap.size:=by have:=HX.size;have:=E.size;omega
  refine Ci.one (i:=4) (by kernel_rfl) rfl (λBT G=>?_);refine iU _ (by rfl) _ _ _ (by rfl) w.heap.size 120 i0 _ 4 72 underlying40 W2 SP af WS rfl (by omega) (U B L C) L ((a++z).flatMap AZ) (by rfl) (fw HI _)
   ⟨R.heap.size,0,Y⟩ 1 1 [X .i64 0,O j,U CL (Z m) CC,U Y 0 0] (by rfl) (by rfl) (fM (fX R _)) (by simp[Value.oneCell'])
   (by omega) (by unfold maxLen;omega) (by omega) (by simp;omega) (R.heap.size+1) (by simp) ?_
  intro gg HQ u3 HW HG VR ba;have MN:∀{b:Nat} {cs:kJ Value} {t:TypeId},AF R b cs t->120≠t->(U B L C).ownBlock≠V b:=λhb OH=>As HI hb OH
  have EK:=Aa FT R E;have L0:AF u3 N [U B L C] 40/\AF u3 Bx [O j,U I (Z m) P] 56:=⟨(EK.1.alloc _).grown HG (MN EK.1 (by decide)),(EK.2.alloc _).grown HG (MN EK.2 (by decide))⟩;have EX:=L0.1;have kM:Ac (N::(U B L C).ownBlock.toList) W u3:=((E.mono (by simp)).alloc (jj #[X .i64 0,O j,U CL (Z m) CC,U Y 0 0] 120)).grown HG (λq o=>Or.inl (gu _ (by simpa using o)));refine G.out _ _ (λ_=>HS _ L0) ?_;clear G BT
  try simp only[kG,ff,fh,fi]
  have c8:=EX.cell 0;have f8:=EX.frozen 0;simp at c8;refine Ci.one (i:=5) (by kernel_rfl) rfl (λBT G=>?_)
  go_simp
  refine G.out _ _ (λh=>absurd rfl h) ?_;clear G BT;refine Ci.done (by kernel_rfl) ?_ _;have HE:=Aa H5;have M6:Ac M W (u3.setCell ⟨N,0,Y⟩ (U (V ⟨gg,0,Y⟩) (L+1) HQ)):=by
   rw[HE];exact kM.setCell (p:=⟨N,0,Y⟩) (Or.inl (gJ ..)) _
  have YP:∀q∈M,w.heap.size<=q:=by
   intro q o;rw[HE]at o;rcases fx.1 o with rfl|o
   .exact NS
   .exact(HI.lt q (by simpa using o)).1
  have NB:∀{b e sz n:Nat} {v:Value} {ys:kJ Value},kw R b e sz v n ys->e≠120->e≠40->kw (u3.setCell ⟨N,0,Y⟩ (U (V ⟨gg,0,Y⟩) (L+1) HQ)) b e sz v n ys:=fun{b e sz n v ys} hr F h2=>by
   have LL:=gY (v:=v) (fw (v:=v) hr _) HG (by
    cases hpo:v.ownBlock with
    |none=>exact Or.inl rfl
    |some q=>exact Or.inr (λe=>Bg hr HI F q hpo e.symm))
   exact Af LL (As LL EX h2) _
  have H0:Z (a++(z++[(⟨0,j,m.map IY,U CL (Z m) CC,U Y 0 0,[]⟩:CB)]))=L+1:=by rw[<-gF,fE,Aa S1];rfl
  refine⟨M6,N::[gg],⟨HX.trans' M6 (λq o=>Or.inr (YP q o)),V ⟨gg,0,Y⟩,HQ,z++[⟨0,j,m.map IY,U CL (Z m) CC,U Y 0 0,[]⟩],?_,?_,?_,?_,?_⟩,?_⟩
  .rw[H0];exact EX.set 0 _
  .rw[H0,<-gF,fR];have h:=Af HW (As HW EX (by decide)) (p:=⟨N,0,Y⟩) (U (V ⟨gg,0,Y⟩) (L+1) HQ);exact h
  .intro c r;rcases fA.1 r with h|h
   .exact NB (Ad (H3 c h) E) (by decide) (by decide)
   .simp only[ft]at h;subst h;show World.ownsRow _ _ 164 2 (U CL (Z m) CC) (Z (m.map IY)) _;rw[fH];exact NB (Al W1 (by have:=HX.size;show w.heap.size<=W.heap.size;omega)) (by decide) (by decide)
  .rw[gn];refine F2.snoc H4 ?_;rw[Aa aa];exact⟨rfl,rfl,rfl,rfl,rfl⟩
  .rw[H0];rfl
  .intro q o;have h3:=EX.lt;rcases fx.1 o with rfl|o
   .exact⟨Or.inl (by rw[HE];exact gJ ..),by simp;omega⟩
   .simp only[ft]at o;subst o;have h4:=(HW.lt q rfl).2;refine⟨?_,by simp;omega⟩;rcases VR with h|h
    .exact Or.inl (by rw[HE];exact gu _ (by rw[h];simp))
    .exact Or.inr (by have:=E.size;omega)
 case done=>
  intro D M' W hD hi hd _;obtain⟨B,C,z,F,h2,h3,h4,h5⟩:=hi.out;have c9:=F.cell 0;simp at c9;refine Ax _ _ ?_;clear Ax;simp only[ia];have ZV:=Ab h2;have TH:=Ab h3;have LB:=Ab h4;have RE:=Ab hi.kept;clear h2 h3 h4 h5 hi;obtain⟨L,hL⟩:=kK (Z (a++z));have HL:=Ab hL;rw[fE]at hL;rw[hL]at c9;refine kI (λK3 K8=>?_);go_wp2;refine K8 _ _ ?_;clear K8 K3;refine wp_ret ?_;rw[<-Aa TT];have XS:OwnFrom w.heap.size (fun(_:Unit) W=>kw W w.heap.size 120 4 (U B (Z (a++z)) C) (Z (a++z)) ((a++z).flatMap AZ)/\(∀c∈z,kw W w.heap.size 164 2 c.hv (Z c.zD) (c.zD.flatMap Ap))/\Ac [] w W):=Cm (λ_ W W' M h k hM=>⟨Am h.1 k (Df hM h.1),λc r=>Am (h.2.1 c r) k (Df hM (h.2.1 c r)),E9 h.2.2 k hM (fJ _)⟩);have LE:Ea w.heap.size [D] W:=⟨by simp,λd Ha=>by simp only[ft]at Ha;have:=M0.kept.size;omega,λd Ha=>by simp only[ft]at Ha;rw[Ha];exact hd⟩;refine Eg [D] W LE (λw' hs=>?_);obtain⟨g1,g2,g3⟩:=hs.own XS (s:=()) LE ⟨ZV,TH,RE⟩;refine⟨_,results_tmp rfl _ _ _,B,C,z,by rw[Aa HL];rfl,⟨Al g1 (fP _),λc r=>?_⟩,LB,g3⟩;rcases fA.1 r with h|h
  .exact(HP.each c h).kept g3
  .obtain⟨f,_,hf⟩:=LB.mem c h;refine⟨Al (g2 c h) (fP _),?_⟩;rw[hf.2.2.2.1,hf.2.2.2.2];exact⟨fK _ _ _ _,λp hp=>by cases hp⟩
 case stop=>
  intro D c ST M' W _ h _;exact h.elim
