import Derived.Lib.SliceRun
import Derived.Test.YtoihbhenbmffcaaGreatDoorTBA
set_option linter.all false
set_option maxHeartbeats 0
open List renaming length->Z
open Option renaming none->Y,some->V
open Go.Value renaming slice->U,int->X,string->O,pointer->j3,agg->oj
open Go.Obj renaming cells->j1
open Go.Ending renaming returned->kt
open Or renaming inl->lo,inr->lx
open Go renaming World->ly
open Go.World renaming cell?->oa,ownsRow->oi
open Go.Act renaming put->qY
namespace Go.Proofs.YtoihbhenbmffcaaGreatDoor
open Go.RowKit Go.Proofs.Tryz
variable{n m:Nat}{o:Option Addr}{M:rc Nat}{w v:ly}{p:rc CU}
set_option maxRecDepth 100000
theorem bP(d:Option Addr)(b n:Nat)(c:rc Value)(w:ly)(h:oi w 0 189 4 (U d n b) n c)(R:n<=1000)(o:∀u∈c,u.oneCell'=true):
  Calls prog 106 #[U d n b] w λe m=>∃(i:Option Addr) (s:Nat),e=kt (U i n s)/\oi m w.heap.size 189 4 (U i n s) n c/\Ac [] w m:=by
 have k:=Ab h;have G:=Ab o;clear h o;have f:∀(w:ly),(binOp .eql 66 (U d n b) (U Y 0 0)).run prog w=.ok (.bool d.isNone) w:=λw=>Lib.run_eql_slice_nil w 66 189 d n b 0 0 underlying66
 cases d with
 |none=>
  simp only[Option.isNone_none]at f;obtain⟨rfl,rfl⟩:n=0/\b=0:=by
   rcases(Aa k).2 with⟨e,y⟩|⟨g,p,Q,e,_⟩
   .simp only[mu]at e;exact⟨y,e.2.2⟩
   .simp at e
  obtain rfl:c=[]:=oQ (by have:=(Aa k).1;simpa using this);go_enter func106,ntmps106;go_wp2;go_ret;exact⟨Y,0,rfl,mS _ _ _ _,re _ _⟩
 |some a=>
  simp only[Option.isNone_some]at f;obtain⟨B,P,x,A,C⟩:=nC Tryz.zy;obtain⟨N,j⟩:=rd w.heap.size;have E:=Ab j;have l:World.ownsRow (w.alloc (j1 #[] 189)) N 189 4 (U (V ⟨N,0,Y⟩) 0 0) 0 []:=by
   refine⟨by simp,lx ⟨N,0,#[],rfl,mP _,?_,mP _,by unfold maxLen;omega,by simp,by simp⟩⟩;have h:=m7 w (j1 #[] 189 (0,0));rw[j]at h;exact h
  have v:World.ownsRow (w.alloc (j1 #[] 189)) 0 189 4 (U (V a) n b) n c:=mE (Aa k) _;have z:=Ab ((re [] w).alloc (j1 #[] 189));have I:=Ab l;have L:=Ab v;have D:(w.alloc (j1 #[] 189)).heap.size=N+1:=by rw[m9,j]
  clear l v;go_enter func106,ntmps106;go_wp2_with (at_builtin;refine Gd _ rfl (.tmp 5) (.tmp 6) _ rfl N 189 B _ 4 72 underlying66 P x A C rfl (by omega) (V ⟨N,0,Y⟩) 0 0 [] rfl (Aa I) 0 (V a) n b c rfl (Aa L) (Aa G) (by unfold maxLen;omega) (by omega) (by rw[D];omega) ?_;intro i p S r t F)
  have M:=Ab r;have H:=Ab ((Aa z).grown t (λq f=>lx (by simp[Value.ownBlock]at f;have:=Aa E;omega)));clear r t F;go_ret;refine⟨i,p,by simp,?_,H⟩;have h:=Aa M;simp only[nE,nM]at h;rw[j];exact h
def JT(v:Value)(w:ly)(e:Ending)(w':ly):Prop:=∃b1:Nat,e=kt (.func (.func 189) #[] #[j3 (V ⟨b1,0,Y⟩)])/\AI w' b1 [v] 113/\w.heap.size<=b1/\Ac [] w w'
theorem WK(b:Option Addr)(n a:Nat)(w:ly):Calls prog 154 #[U b n a] w (JT (U b n a) w):=by
 have c:Hid (JT (U b n a) w (kt (.func (.func 189) #[] #[j3 (V ⟨w.heap.size,0,Y⟩)])) (w.alloc (j1 #[U b n a] 113))):=⟨w.heap.size,rfl,rf w [U b n a] 113,mP _,(re [] w).alloc _⟩;go_enter func154,ntmps154;go_wp2_with fail
 go_ret;exact c
theorem Zj(i g:Nat)(b:Option Addr)(n a:Nat)(w:ly)(l:oa w ⟨i,g,Y⟩=V (U b n a)):Calls prog 107 #[j3 (V ⟨i,g,Y⟩)] w (JT (U b n a) w):=by
 have f:=Ab (WK b n a w);go_enter func107,ntmps107;go_wp2_with fail
 refine f.mono ?_;rintro _ k ⟨c,rfl,e,d,h⟩;have j:Hid (JT (U b n a) w (kt (.func (.func 189) #[] #[j3 (V ⟨c,0,Y⟩)])) k):=⟨c,rfl,e,d,h⟩;clear f e d h;go_wp2_with fail
 go_ret;exact j
structure Qn(b1:Nat)(sad:Option Addr)(scp:Nat)(fs:rc Eb)(M:rc Nat)(w:ly):Prop where
 at_:oa w ⟨b1,0,Y⟩=V (U sad (Z fs) scp)
 row:oi w 0 104 2 (U sad (Z fs) scp) (Z fs) (fs.flatMap AM)
 apart:∀k∈M,k≠b1/\(U sad (Z fs) scp).ownBlock≠V k/\k<w.heap.size
def Qn.grow{b:rc Eb}(h:Qn n o m b M w)(k:Ac [] w v):Qn n o m b M v:=
 ⟨k.cellAt h.at_,Ad h.row k,λi a=>⟨(h.apart i a).1,(h.apart i a).2.1,oz (h.apart i a).2.2 k.size⟩⟩
def Qn.round{f:rc Eb}{M g:rc Nat}(h:Qn n o m f M w)(k:Ac M w v)(d:∀i∈g,(i∈M\/w.heap.size<=i)/\i<v.heap.size):Qn n o m f g v:=by
 have j:=Ln h.at_;refine⟨Jl k h.at_ (λb=>(h.apart _ b).1 rfl),Ag h.row k (λq c b=>(h.apart q b).2.1 c),λi e=>⟨?_,?_,(d i e).2⟩⟩
 .rcases(d i e).1 with a|a
  .exact(h.apart i a).1
  .omega
 .rcases(d i e).1 with a|a
  .exact(h.apart i a).2.1
  .intro c;have:=(h.row.lt i c).2;omega
def iA{a:rc Eb}(h:oi w 0 104 2 (U o (Z a) n) (Z a) (a.flatMap AM))(j:Nat)(b:j<Z a):
  ∃g,o=V ⟨g,0,Y⟩/\oa w ⟨g,j*2,Y⟩=V (O a[j].f.name)/\oa w ⟨g,j*2+1,Y⟩=V a[j].tv:=by
 obtain⟨g,l,i,_,k⟩:=AC h (λc _=>rfl) j b;simp only[mu]at i;have d:=k j b 0 (by omega);have e:=k j b 1 (by omega);simp[AM]at d e;exact⟨g,i.1,d,e⟩
theorem WU(y:Nat)(Bx:Option Addr)(BT:Nat)(a:rc Eb)(w:ly)(A:rc Nat)(hB:Qn y Bx BT a A w)(AR:∀q∈a,∃ad n cp,q.tv=U ad n cp)(HF:Z a<=900000):
  Lq prog 189 #[j3 (V ⟨y,0,Y⟩)] (λq:Eb=>#[oj (AM q).toArray]) a A w:=by
 intro l z Jx W ES _ _ hJ HH hR B9;have D:=hB.grow ES;have c1:=D.at_;have HB:=Ab D;have HJ:=Ab hJ;have HR:=Ab hR;have FC:=Ab AR;have A1:Hid (z (a.take 0) A W):=B9;clear hB D hJ hR B9 ES AR;show Calls prog 189 #[.func (.yield l) #[] #[],j3 (V ⟨y,0,Y⟩)] W _;go_enter func189,ntmps189;go_wp2_with fail
 go_loopg [4,7] (Z a) (λgk bx i wr=>∃(k:Nat) (M:rc Nat),i=X .i64 k/\k<=Z a/\gk=Z a-k/\Hid (Qn y Bx BT a M wr)/\Hid (z (a.take k) M wr)/\Hid (W.heap.size<=wr.heap.size))
 case atStart=>exact⟨0,A,rfl,by omega,rfl,HB,A1,mP _⟩
 case round=>
  clear HB A1 c1;obtain⟨k,M,rfl,hk,A2,F,B,B0⟩:=hrel;have HG:=Ab A2;clear A2;by_cases t:k<Z a
  .obtain⟨g,hg,e0,e1⟩:=iA F.row k t;subst hg;obtain⟨m,r,j,R⟩:=FC a[k] (mw t);rw[R]at e1;obtain⟨d,S⟩:=rd (a[k].f.name);rw[S]at e0;have CC:Hid ((#[oj (AM a[k]).toArray]:Array Value)=#[oj #[O d,U m r j]]):=by
    show _=_;unfold AM;rw[S,R]
   have AH:Hid (a.take k++[a[k]]=a.take (k+1)):=by
    show _=_;rw[mx t]
   have CL:Hid (a=a.take k++a[k]::a.drop (k+1)):=by
    show _=_
    conv=>lhs;rw[<-nO k a]
    rw[mQ t]
   (have HI:(0:Int)<=(k:Int):=by omega);(have FP:(k:Int)<(Z a:Int):=by omega);have p:=Ab (rf wr [O d,U m r j] 104);have x:=Ab ((re [] wr).alloc (j1 [O d,U m r j].toArray 104));clear S R;refine ra (λo b=>?_);go_wp2;refine b _ _ ?_;clear b o;refine ra (λo b=>?_);go_wp2;refine b _ _ ?_;clear b o;refine ra (λK5 CW=>?_);refine wp_block ?_;refine ra (λo b=>?_);go_wp2;refine b _ _ ?_;clear b o;change Code.wp _ _ _ _ (wr.alloc (j1 [O d,U m r j].toArray 104));generalize hw2:wr.alloc (j1 [O d,U m r j].toArray 104)=w2 at p x⊢;have BS:=p.lt;generalize wr.heap.size=N at p BS⊢;have Q:=Ab (F.grow x);have G:Hid (z (a.take k) M w2):=BD HJ (s:=(a.take k,M)) B x;have I:Hid (W.heap.size<=w2.heap.size):=nD B0 x.size;have C:=p.cell 0;have T:=p.cell 1;simp at C T;have H:YieldAt Fence.wide 0 prog l #[oj (AM a[k]).toArray] w2 _:=HR _ _ _ M w2 CL G;rw[Aa CC,Aa AH]at H;have L:=Ab H;clear H;clear hw2 e0 e1 F B B0 x p BS CC AH CL;refine ra (λo b=>?_);refine GJ (n:=0) 2 (by rintro ⟨_,_,h⟩;obtain⟨⟨v,e⟩,_⟩:=h;cases e) (λK2 BA=>?_);simp only[pk,pN];go_wp2;refine BA _ _ ?_;clear BA K2;simp only[pC,pF];refine IP (λ_=>trivial) rfl rfl (l:=l) (args:=#[oj #[O d,U m r j]]) (by rfl) (by first|(simp[go_sem,Oper.semAt];done)|(simp[go_sem,Oper.semAt,execOp,resolve,invoke];done)) L ?_;rintro e w4 (⟨rfl,E,u,P,AO⟩|⟨rfl,E,u,-⟩)
   .refine⟨_,rfl,Dj (by rintro ⟨_,_,h⟩;obtain⟨⟨v,e⟩,_⟩:=h;cases e) ?_⟩;simp only[qY,mq,mr,mt];have FW:=Ab (Q.round P AO);have Ax:=Ab u;have FT:Hid (W.heap.size<=w4.heap.size):=nD I P.size;clear u P AO C T L Q G I;go_wp2;refine b _ _ ?_;clear b;go_wp2;refine CW _ _ ?_;clear CW;go_wp2
    go_roundg (Z a-(k+1))
    case measure=>have:=Aa HG;omega
    case rel=>exact⟨k+1,E,by go_num,by omega,rfl,FW,Ax,FT⟩
   .refine⟨_,rfl,Dj (by rintro ⟨_,_,h⟩;obtain⟨⟨v,e⟩,_⟩:=h;cases e) ?_⟩;simp only[qY,mq,mr,mt];have Ax:=Ab u;clear u C T L Q G I;go_wp2;refine b _ _ ?_;clear b;go_wp2;refine m5 (qe rfl _ _ _) rfl ?_;exact⟨⟨_,rfl⟩,lx ⟨_,E,Ax⟩⟩
  ·(obtain rfl:k=Z a:=by omega);have Go:Hid (z a M wr):=by
    have h:=Aa B;rw[nR]at h;exact h
   (have FP:¬(Z a:Int)<(Z a:Int):=by omega);clear B t;go_wp2;go_end0;exact⟨⟨_,rfl⟩,lo ⟨M,Go⟩⟩
def Tx(f:CJ)(c:CU):Prop:=c.hp=0/\c.hn=f.name/\c.zE=f.zC.map Kq/\c.bv=U Y 0 0/\c.zD=[]
structure lC(w:ly)(N:Nat)(pcs:rc CU)(pre:rc Eb)(M:rc Nat)(W:ly):Prop where
 kept:Ac [] w W
 out:∃(ad:Option Addr) (cp:Nat) (qs:rc CU),AI W N [U ad (Z (pcs++qs)) cp] 66/\oi W w.heap.size 189 4 (U ad (Z (pcs++qs)) cp) (Z (pcs++qs)) ((pcs++qs).flatMap Bc)/\(∀c∈qs,oi W w.heap.size 215 2 c.hv (Z c.zE) (c.zE.flatMap Ar))/\F2 Tx (pre.map Eb.f) qs/\M=N::(U ad (Z (pcs++qs)) cp).ownBlock.toList
def lC.own{N B:Nat}(l:w.heap.size<=B):OwnFrom B (fun(s:rc Eb×rc Nat) W=>lC w N p s.1 s.2 W):=
 BF (λs W n M h k a=>by
  obtain⟨m,j,g,d,b,e,i⟩:=h.out
  exact⟨DS h.kept k a l,m,j,g,d.kept k (C3 a d),Ag b k (BZ a b),λc f=>Ag (e c f) k (BZ a (e c f)),i⟩)
def R8(pcs:rc CU)(fs:rc Eb)(w:ly)(e:Ending)(w':ly):Prop:=∃(ad:Option Addr) (cp:Nat) (qs:rc CU),e=kt (U ad (Z (pcs++qs)) cp)/\CE w' (U ad (Z (pcs++qs)) cp) (pcs++qs)/\F2 Tx (fs.map Eb.f) qs/\Ac [] w w'
def jg{c:CU}(h:JY w 0 c.hv c.bv c.zE c.zD):∀u∈Bc c,u.oneCell'=true:=by
 obtain⟨i,g,b⟩:=Al h.head;obtain⟨e,f,d⟩:=Al h.body.row;intro u a;unfold Bc at a;rw[b,d]at a;simp only[mA,nI,or_false]at a;rcases a with rfl|rfl|rfl|rfl<;>rfl
theorem SY(sb so:Nat)(HZ:Option Addr)(HT:Nat)(a:rc CU)(CC:Option Addr)(B9:Nat)(A:rc Eb)(w:ly)(hP:CE w (U HZ (Z a) HT) a)(r:oa w ⟨sb,so,Y⟩=V (U CC (Z A) B9))(hF:Io w (U CC (Z A) B9) A)(Wa:Z a<=12)(VR:Z A<=300):
  Calls prog 63 #[U HZ (Z a) HT,j3 (V ⟨sb,so,Y⟩)] w (R8 a A w):=by
 have MN:=Ab (bP HZ HT (Z a) (a.flatMap Bc) w hP.row (by omega) (λu hu=>by obtain⟨c,r,hu⟩:=m6.1 hu;exact jg (hP.each c r) u hu));have M1:Hid (∀g,Ac [] w g->Calls prog 107 #[j3 (V ⟨sb,so,Y⟩)] g (JT (U CC (Z A) B9) g)):=λg y=>Zj sb so CC (Z A) B9 g (y.cellAt r)
 have NB:Hid (∀(j:zA) (S:rc zA) (FC:Option Addr) (FF:Nat) g,(⟨⟨j,S⟩,U FC (Z S) FF⟩:Eb)∈A->Ac [] w g->Calls prog 108 #[oj #[O j,U FC (Z S) FF]] g λe w'=>∃(ad:Option Addr) (cp:Nat),e=kt (oj #[X .i64 0,O j,U ad (Z S) cp,U Y 0 0])/\oi w' g.heap.size 215 2 (U ad (Z S) cp) (Z S) ((S.map Kq).flatMap Ar)/\Ac [] g w'):=λj S FC FF g hm y=>Vg j S FC FF g ((hF.each _ hm).1.kept y) (hF.each _ hm).2
 have HP:=Ab hP;have HF:=Ab hF;have VS:=Ln r;obtain⟨i0,SJ,NV,TH,RO⟩:=nC Tryz.zy;clear hP hF r;refine En func63 rfl ?_;simp only[ntmps63,nQ,mL,m8,Nat.reduceAdd,Nat.reduceSub,pd,pg,pD,pm,nM,ot];have HX:¬LetsOut (bodyPostM Fence.wide 0 prog Tryz.f63 (R8 a A w)):=Px (λ_ ⟨_,_,_,h,_⟩=>by cases h);obtain⟨QQ,HW⟩:=rd (bodyPostM Fence.wide 0 prog Tryz.f63 (R8 a A w));have OH:=Ab HW;rw[HW]at HX⊢;have U0:=Ab HX;clear HW HX;refine ra (λK1 Ax=>?_);go_wp2;refine Ax _ _ ?_;clear Ax K1;refine ra (λK1 Ax=>?_);go_wp2_with fail
 refine MN.mono ?_;rintro _ w1 ⟨Q,H,rfl,M0,E⟩;have LM:=Ab M0;have MY:=Ab E;clear MN M0 E;go_wp2_with fail
 refine Ax _ _ ?_;clear Ax K1;have FO:=Ab (rf w1 [U Q (Z a) H] 66);have HA:=Ab ((re [] w1).alloc (j1 [U Q (Z a) H].toArray 66));change Code.wp _ _ _ _ (w1.alloc (j1 [U Q (Z a) H].toArray 66));generalize w1.alloc (j1 [U Q (Z a) H].toArray 66)=w2 at FO HA⊢;obtain⟨N,hN⟩:=rd w1.heap.size;rw[hN]at FO⊢;have Mo:w.heap.size<=N:=by have:=MY.size;omega
 have NM:=FO.lt;have FA:=Ab (MY.trans HA);have Pl:Hid (lC w N a [] (N::(U Q (Z a) H).ownBlock.toList) w2):=by
  refine⟨FA,Q,H,[],?_,?_,(λc r=>by cases r),F2.nil,?_⟩
  .rw[np];exact FO
  .rw[np];exact Ad LM HA
  .rw[np]
 have M2:=Ab (M1 w2 FA);clear M1;refine ra (λK1 Ax=>?_);refine ra (λK2 K7=>?_);go_wp2_with fail
 refine M2.mono ?_;rintro _ w3 ⟨b1,rfl,BT,H9,k3⟩;have RV:=Ab BT;have Os:=Ab H9;have ES:=Ab k3;clear M2 BT H9 k3;go_wp2_with fail
 refine K7 _ _ ?_;clear K7 K2;refine wp_block ?_;have K8:Hid (lC w N a [] (N::(U Q (Z a) H).ownBlock.toList) w3):=BD (lC.own (mP _)) (s:=([],N::(U Q (Z a) H).ownBlock.toList)) Pl ES;have K9:Hid (∀k∈N::(U Q (Z a) H).ownBlock.toList,w.heap.size<=k/\k<w2.heap.size):=by
  intro k y;rcases mA.1 y with rfl|y
  .exact⟨Mo,NM⟩
  .have F:=LM.lt k (by simpa using y);exact⟨F.1,by have:=HA.size;omega⟩
 have PT:Hid (Qn b1 CC B9 A (N::(U Q (Z a) H).ownBlock.toList) w3):=by
  have F:=RV.cell 0;simp at F;refine⟨F,(Io.kept HF (FA.trans ES)).row,λk y=>?_⟩;have h2:=K9 k y;have h3:=ES.size;have h4:=Aa Os;refine⟨by omega,λhs=>?_,by omega⟩;have:=(HF.row.lt k hs).2;omega
 have N0:=WU b1 CC B9 A w3 _ PT (λq o=>by obtain⟨ad,cp,e⟩:=Al (HF.each q o).1;exact⟨ad,_,cp,e⟩) (by omega);refine Iv (T:=104) (q:=6) rfl (enters_of func189 (by kernel_rfl) rfl) N0 (λk y=>by have:=K9 k y;have:=ES.size;omega) (lC w N a) (λ_ _ _ _=>False) (lC.own (by have:=FA.size;have:=ES.size;omega)) (λ_ _ _ _ _ h _ _=>h) K8 ?assign ?body ?done ?stop
 case assign=>
  intro l x W A0 hx HK;obtain⟨⟨j,m⟩,xv⟩:=x;obtain⟨I,P,EK⟩:=Al (HF.each _ hx).1;simp only at EK;subst EK;simp only[AM]at HK⊢;clear hx;simp only[mq,mr,mt]at HK⊢;refine AN (by rfl) (Hj Ga) ?_;go_wp2;refine HK _ ((re [] W).alloc _) ?_;exact rf W [O j,U I (Z m) P] 104
 case body=>
  intro l Bx NY x UO M W HV hi hM W0 hB;have hx:x∈A:=by rw[HV];simp
  obtain⟨⟨j,m⟩,xv⟩:=x;obtain⟨I,P,EK⟩:=Al (HF.each _ hx).1;simp only at EK;subst EK;obtain⟨B,C,z,F,h2,h3,h4,h5⟩:=hi.out;simp only[AM]at hB⊢;have WS:Z z<=300:=by
   have e1:=h4.lenX;have e2:=congrArg List.length HV;simp at e1 e2;omega
  have IJ:=Ab (NB j m I P W.drew hx hi.kept.drew);have HM:=Ab hi.kept;have NX:=Ab hB;have H1:=Ab F;have H2:=Ab h2;have H3:=Ab h3;have H4:=Ab h4;have H5:=Ab h5;obtain⟨JA,hX⟩:∃JA:Eb,JA=⟨⟨j,m⟩,U I (Z m) P⟩:=⟨_,rfl⟩;have S0:=Ab hX;rw[<-hX]at HV⊢;obtain⟨L,hL⟩:=rd (Z (a++z));have N2:=Ab hL;have U1:L<=1000:=by rw[<-hL,mM];omega
  rw[hL]at H1 H2 H5;clear hx hi hB F h2 h3 h4 h5 hM hX hL;have EY:Hid (∀g,Ac [] W g->AI g N [U B L C] 66/\AI g Bx [O j,U I (Z m) P] 104):=λg y=>⟨H1.kept y,NX.kept y⟩
  have DG:Hid (∀g,AI g N [U B L C] 66/\AI g Bx [O j,U I (Z m) P] 104->oa g ⟨N,0,Y⟩=V (U B L C)/\oa g ⟨Bx,0,Y⟩=V (O j)/\oa g ⟨Bx,1,Y⟩=V (U I (Z m) P)):=λg h=>by
   have a1:=h.1.cell 0;have a2:=h.2.cell 0;have a3:=h.2.cell 1;simp at a1 a2 a3;exact⟨a1,a2,a3⟩
  have LE:=Ab (DG W.drew (EY _ (re [] W).drew));simp only[mq,mr,mt];refine wpIn_block ?_;refine D7 5 (λg=>oa g ⟨N,0,Y⟩=V (U B L C)/\oa g ⟨Bx,0,Y⟩=V (O j)/\oa g ⟨Bx,1,Y⟩=V (U I (Z m) P)) (by kernel_rfl) (by rfl) (by rintro ⟨_,_,h⟩;exact h) ?_;refine Cz.tq (i:=0) (v:=U B L C) rfl (λ_ _ _ h=>h) LE ?_;simp only[qY,mq,mr,mt];refine Cz.tq (i:=1) (v:=oj #[O j,U I (Z m) P]) rfl (λ_ _ _ h=>h) LE ?_;simp only[qY,mq,mr,mt];refine Cz.one (i:=2) (by kernel_rfl) rfl (λA0 G=>?_)
  go_simp
  refine IJ.mono ?_;rintro _ R ⟨BA,A2,rfl,H7,TL⟩;have SB:=Ab H7;clear H7 IJ;have E:Ac [] W R:=(re [] W).drew.trans TL;refine G.out _ _ (λ_=>DG _ (EY _ E)) ?_;clear G A0
  try simp only[qY,mq,mr,mt]
  refine Cz.one (i:=3) (by kernel_rfl) rfl (λA0 G=>?_)
  go_simp
  have k2:=E.alloc (j1 #[X .i64 0,O j,U BA (Z m) A2,U Y 0 0] 189);refine G.out _ _ (λ_=>DG _ (EY _ k2)) ?_;clear G A0
  try simp only[qY,mq,mr,mt]
  have Go:oi R w.heap.size 189 4 (U B L C) L ((a++z).flatMap Bc):=Ad H2 E;have VL:w.heap.size<=R.heap.size:=by have:=HM.size;have:=E.size;omega
  refine Cz.one (i:=4) (by kernel_rfl) rfl (λA0 G=>?_);refine pi _ (by rfl) _ _ _ (by rfl) w.heap.size 189 i0 _ 4 72 underlying66 SJ NV TH RO rfl (by omega) (U B L C) L ((a++z).flatMap Bc) (by rfl) (mE Go _)
   ⟨R.heap.size,0,Y⟩ 1 1 [X .i64 0,O j,U BA (Z m) A2,U Y 0 0] (by rfl) (by rfl) (mW (m7 R _)) (by simp[Value.oneCell'])
   (by omega) (by unfold maxLen;omega) (by omega) (by simp;omega) (R.heap.size+1) (by simp) ?_
  intro gg HD u3 HJ FT RB WW;have K6:∀{b:Nat} {cs:rc Value} {t:TypeId},AI R b cs t->189≠t->(U B L C).ownBlock≠V b:=λhb M6=>Aq Go hb M6
  have BT:=Aa EY R E;have KS:AI u3 N [U B L C] 66/\AI u3 Bx [O j,U I (Z m) P] 104:=⟨(BT.1.alloc _).grown FT (K6 BT.1 (by decide)),(BT.2.alloc _).grown FT (K6 BT.2 (by decide))⟩;have B2:=KS.1;have kM:Ac (N::(U B L C).ownBlock.toList) W u3:=((E.mono (by simp)).alloc (j1 #[X .i64 0,O j,U BA (Z m) A2,U Y 0 0] 189)).grown FT (λq o=>lo (no _ (by simpa using o)));refine G.out _ _ (λ_=>DG _ KS) ?_;clear G A0
  try simp only[qY,mq,mr,mt]
  have c8:=B2.cell 0;have f8:=B2.frozen 0;simp at c8;refine Cz.one (i:=5) (by kernel_rfl) rfl (λA0 G=>?_)
  go_simp
  refine G.out _ _ (λh=>absurd rfl h) ?_;clear G A0;refine Cz.done (by kernel_rfl) ?_ _;have FP:=Aa H5;have LB:Ac M W (u3.setCell ⟨N,0,Y⟩ (U (V ⟨gg,0,Y⟩) (L+1) HD)):=by
   rw[FP];exact kM.setCell (p:=⟨N,0,Y⟩) (lo (nK ..)) _
  have SS:∀q∈M,w.heap.size<=q:=by
   intro q o;rw[FP]at o;rcases mA.1 o with rfl|o
   .exact Mo
   .exact(Go.lt q (by simpa using o)).1
  have LL:∀{b e sz n:Nat} {v:Value} {ys:rc Value},oi R b e sz v n ys->e≠189->e≠66->oi (u3.setCell ⟨N,0,Y⟩ (U (V ⟨gg,0,Y⟩) (L+1) HD)) b e sz v n ys:=fun{b e sz n v ys} hr F h2=>by
   have KA:=n5 (v:=v) (mE (v:=v) hr _) FT (by
    cases hpo:v.ownBlock with
    |none=>exact lo rfl
    |some q=>exact lx (λe=>Bh hr Go F q hpo e.symm))
   exact Ah KA (Aq KA B2 h2) _
  have HQ:Z (a++(z++[(⟨0,j,m.map Kq,U BA (Z m) A2,U Y 0 0,[]⟩:CU)]))=L+1:=by rw[<-nA,mM,Aa N2];rfl
  refine⟨LB,N::[gg],⟨HM.trans' LB (λq o=>lx (SS q o)),V ⟨gg,0,Y⟩,HD,z++[⟨0,j,m.map Kq,U BA (Z m) A2,U Y 0 0,[]⟩],?_,?_,?_,?_,?_⟩,?_⟩
  .rw[HQ];exact B2.set 0 _
  .rw[HQ,<-nA,mY];have h:=Ah HJ (Aq HJ B2 (by decide)) (p:=⟨N,0,Y⟩) (U (V ⟨gg,0,Y⟩) (L+1) HD);exact h
  .intro c r;rcases mF.1 r with h|h
   .exact LL (Ad (H3 c h) E) (by decide) (by decide)
   .simp only[my]at h;subst h;show World.ownsRow _ _ 215 2 (U BA (Z m) A2) (Z (m.map Kq)) _;rw[mI];exact LL (Ak SB (by have:=HM.size;show w.heap.size<=W.heap.size;omega)) (by decide) (by decide)
  .rw[nk];refine F2.snoc H4 ?_;rw[Aa S0];exact⟨rfl,rfl,rfl,rfl,rfl⟩
  .rw[HQ];rfl
  .intro q o;have h3:=B2.lt;rcases mA.1 o with rfl|o
   .exact⟨lo (by rw[FP];exact nK ..),by simp;omega⟩
   .simp only[my]at o;subst o;have h4:=(HJ.lt q rfl).2;refine⟨?_,by simp;omega⟩;rcases RB with h|h
    .exact lo (by rw[FP];exact no _ (by rw[h];simp))
    .exact lx (by have:=E.size;omega)
 case done=>
  intro D M' W hD hi hd _;obtain⟨B,C,z,F,h2,h3,h4,h5⟩:=hi.out;have c9:=F.cell 0;simp at c9;refine Ax _ _ ?_;clear Ax;simp only[nM];have ST:=Ab h2;have N4:=Ab h3;have IS:=Ab h4;have NA:=Ab hi.kept;clear h2 h3 h4 h5 hi;obtain⟨L,hL⟩:=rd (Z (a++z));have HL:=Ab hL;rw[mM]at hL;rw[hL]at c9;refine ra (λK3 IA=>?_);go_wp2;refine IA _ _ ?_;clear IA K3;refine wp_ret ?_;rw[<-Aa OH];have SP:OwnFrom w.heap.size (fun(_:Unit) W=>oi W w.heap.size 189 4 (U B (Z (a++z)) C) (Z (a++z)) ((a++z).flatMap Bc)/\(∀c∈z,oi W w.heap.size 215 2 c.hv (Z c.zE) (c.zE.flatMap Ar))/\Ac [] w W):=BF (λ_ W W' M h k hM=>⟨Ag h.1 k (BZ hM h.1),λc r=>Ag (h.2.1 c r) k (BZ hM (h.2.1 c r)),DS h.2.2 k hM (mP _)⟩);have JJ:DC w.heap.size [D] W:=⟨by simp,λd FB=>by simp only[my]at FB;have:=K8.kept.size;omega,λd FB=>by simp only[my]at FB;rw[FB];exact hd⟩;refine Dg [D] W JJ (λw' hs=>?_);obtain⟨g1,g2,g3⟩:=hs.own SP (s:=()) JJ ⟨ST,N4,NA⟩;refine⟨_,results_tmp rfl _ _ _,B,C,z,by rw[Aa HL];rfl,⟨Ak g1 (mO _),λc r=>?_⟩,IS,g3⟩;rcases mF.1 r with h|h
  .exact(HP.each c h).kept g3
  .obtain⟨f,_,hf⟩:=IS.mem c h;refine⟨Ak (g2 c h) (mO _),?_⟩;rw[hf.2.2.2.1,hf.2.2.2.2];exact⟨mS _ _ _ _,λp hp=>by cases hp⟩
 case stop=>
  intro D c NY M' W _ h _;exact h.elim
