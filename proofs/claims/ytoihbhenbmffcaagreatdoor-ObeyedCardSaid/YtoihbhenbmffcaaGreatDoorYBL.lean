import Derived.Test.YtoihbhenbmffcaaGreatDoorYBJ
set_option linter.all false
set_option maxHeartbeats 0
open List renaming length->Z,replicate->lV
open Option renaming none->Y,some->V
open Go.Value renaming slice->U,int->X,string->O,pointer->kt
open Go.IntKind renaming i64->J,i32->lS
open Go.Obj renaming cells->j2
open Go.Ending renaming returned->lo
open Or renaming inl->lx,inr->ly
open Go renaming World->l9,Value->lN
open Go.World renaming cell?->lP,ownsRow->lQ
open Go.Act renaming put->lY
namespace Go.Proofs.YtoihbhenbmffcaaGreatDoor
open Go.RowKit Go.Proofs.Tryz
theorem Tryz.yW:(Tryz.prog.info? 172).map (λi=>(i.zero,i.size,i.bytes))=V (V (.agg #[X lS 0,O ⟨#[]⟩]),2,24):=by kernel_rfl
def Jb(b:mc zA)(v:UInt8):mc lN:=[X lS (v.toNat:Int),O (OI b v)]
def Zi(b:mc zA)(v:UInt8):Z (Jb b v)=2:=rfl
def ci{L:mc lN}{n:Nat}(h:2*n+1<Z L)(a c:lN):((L.set (2*n) a).set (2*n+1) c).take (2*(n+1))=L.take (2*n)++[a,c]:=by
 apply List.ext_getElem?;intro i;rw[jD];by_cases b:i<2*n
 .rw[gY (by omega),iO (by omega),iO (by omega),List.getElem?_append_left (by simp;omega),jD,gY b]
 .have d:Z (L.take (2*n))=2*n:=by simp;omega
  rw[j9 (by omega),d];by_cases e:i=2*n
  .subst e;rw[gY (by omega),iO (by omega),jc (by omega),Nat.sub_self];rfl
  .by_cases f:i=2*n+1
   .subst f;rw[gY (by omega),jc (by simp;omega),show 2*n+1-2*n=1 by omega];rfl
   .rw[gV (by omega),List.getElem?_eq_none (by simp;omega)]
set_option maxRecDepth 100000
theorem Wp(n:Nat)(b:mc zA)(G:Option Addr)(T:Nat)(a:mc UInt8)(w:l9)(hb:Z b=26)(hB:AH w n (Aj b) 243)(S:lQ w 0 21 1 (U G (Z (Cw a)) T) (Z (Cw a)) ((Cw a).flatMap AP))(FL:Z a<=1000)(B:∀v∈a,Ed v):
  Calls prog 142 #[kt (V ⟨n,0,Y⟩),U G (Z a) T] w λr m=>∃g,r=lo (U (V ⟨g,0,Y⟩) (Z a) (Z a))/\lQ m w.heap.size 172 2 (U (V ⟨g,0,Y⟩) (Z a) (Z a)) (Z a) (a.flatMap (Jb b))/\Ac [] w m:=by
 obtain⟨i0,FA,A2,B0,CC⟩:=iR Tryz.yW;have HT:Hid (∀v∈a,∀c,Ac [] w c->Calls prog 180 #[kt (V ⟨n,0,Y⟩),.agg #[.int lS (v.toNat:Int),O ⟨#[]⟩]] c λr m=>r=lo (O (OI b v))/\Ac [] c m):=by
  intro v I c H;have h:=Pw n 243 b v.toNat ByteArray.empty c hb (hB.kept H (by simp)) (ly (B v I));have h0:v.toNat≠0:=by have:=(B v I).1;omega
  have e:cO b v.toNat ByteArray.empty=OI b v:=by unfold cO OI;rw[gV h0]
  rw[e]at h;exact h
 have EY:=Ab S;obtain⟨N,C⟩:∃N,w.heap.size=N:=⟨_,rfl⟩;have y:=Ab C;clear S B hB;have FP:∀c:l9,(Instr.makeSlice 169 (.int J (Z a:Int)) (.int J (Z a:Int))).run prog c=.ok (U (V ⟨c.heap.size,0,Y⟩) (Z a) (Z a)) (c.alloc (j2 (madeCells #[.int lS 0,O ⟨#[]⟩] (Z a*2)) 172)):=by
  intro c;have W:=run_make (P:=prog) c 169 172 i0 _ underlying169 FA A2 J J (Z a) (Z a) (by omega) (Int.le_refl _) (by rw[CC];omega) (by omega);simp only[Int.toNat_natCast,B0]at W;exact W
 go_enter func142,ntmps142;go_wp2;have f:Hid (∃L:mc lN,Z L=2*Z a/\L.take (2*0)=(a.take 0).flatMap (Jb b)/\lQ (w.alloc (j2 (madeCells #[.int lS 0,O ⟨#[]⟩] (Z a*2)) 172)) N 172 2 (U (V ⟨N,0,Y⟩) (Z a) (Z a)) (Z a) L):=by
  have h:=lw (e:=172) (size:=2) (base:=N) w (madeCells #[.int lS 0,O ⟨#[]⟩] (Z a*2)) (Z a) (by omega) (by unfold maxLen;omega) (by rw[size_madeCells]);rw[C]at h;exact⟨_,by rw[Array.length_toList,size_madeCells];omega,by simp,h⟩
 have z:=Ab ((me [] w).alloc (j2 (madeCells #[.int lS 0,O ⟨#[]⟩] (Z a*2)) 172));clear C;generalize w.alloc (j2 (madeCells #[.int lS 0,O ⟨#[]⟩] (Z a*2)) 172)=w2 at f z⊢
 go_loopg [13] (Z a) (λgk i wr=>∃(k:Nat),i=.int J k/\k<=Z a/\gk=Z a-k/\Hid (∃L:mc lN,Z L=2*Z a/\L.take (2*k)=(a.take k).flatMap (Jb b)/\lQ wr N 172 2 (U (V ⟨N,0,Y⟩) (Z a) (Z a)) (Z a) L)/\Hid (Ac [] w wr))
 case atStart=>exact⟨0,rfl,by omega,rfl,f,z⟩
 case round=>
  clear f z;obtain⟨k,rfl,H,M,f,l⟩:=hrel;have HG:=Ab M;clear M;by_cases q:k<Z a
  ·(have D:k<Z (Cw a):=by rw[F6];exact q);obtain⟨g,FF,he,x⟩:=Qd (Ad (Aa EY) (Aa l) (by simp)) k D;simp only[gM]at he;obtain⟨rfl,_,rfl⟩:=he;(have e:(Cw a)[k]=(a[k].toNat:Int):=by simp[Cw]);rw[e]at x;obtain⟨d,o⟩:∃d,a[k]=d:=⟨_,rfl⟩;rw[o]at x;have u:=Ab (Aa HT d (by rw[<-o];exact gL q) wr (Aa l));(have FO:(0:Int)<=(k:Int):=by omega);(have FT:(k:Int)<(Z a:Int):=by omega);have F:Hid ((a.take (k+1)).flatMap (Jb b)=(a.take k).flatMap (Jb b)++[.int lS (d.toNat:Int),O (OI b d)]):=by
    show _=_;rw[gQ q,ix,o];rfl
   generalize OI b d=X at u F;clear e o D;(go_wp2_with fail);refine(Aa u).mono ?_;rintro _ w3 ⟨rfl,t⟩;have AO:=Ab ((Aa l).trans t);obtain⟨L,Q,A0,R⟩:=Aa f;have j:=Ad R t (by simp);have A:=j.cellAt (2*k) (by omega);have s:=j.cellAt (2*k+1) (by omega);have CL:=j.frozenAt (2*k);have EX:=j.frozenAt (2*k+1);rw[Nat.mul_comm]at A s CL EX;rw[gS (by omega)]at A s;generalize L[k*2]=U0 at A;generalize L[k*2+1]=U1 at s;have EM:Hid (∃L:mc lN,Z L=2*Z a/\L.take (2*(k+1))=(a.take (k+1)).flatMap (Jb b)/\lQ ((w3.setCell ⟨N,k*2,Y⟩ (.int lS (d.toNat:Int))).setCell ⟨N,k*2+1,Y⟩ (O X)) N 172 2 (U (V ⟨N,0,Y⟩) (Z a) (Z a)) (Z a) L):=by
    refine⟨(L.set (2*k) (.int lS (d.toNat:Int))).set (2*k+1) (O X),by simp[Q],?_,?_⟩
    .rw[ci (by omega),Aa F,A0]
    .rw[Nat.mul_comm k 2];exact Bw (Bw j (2*k) _) (2*k+1) _
   have BT:=Ab (((Aa AO).setCell (p:=⟨N,k*2,Y⟩) (ly (by have:=Aa y;show _<=N;omega)) (.int lS (d.toNat:Int))).setCell (p:=⟨N,k*2+1,Y⟩) (ly (by have:=Aa y;show _<=N;omega)) (O X));clear u l AO t j x f Q A0 R;go_wp2
   go_roundg (Z a-(k+1))
   case measure=>have:=Aa HG;omega
   case rel=>exact⟨k+1,by go_num,by omega,rfl,EM,BT⟩
  ·(have B2:k=Z a:=by omega);subst B2;have EK:Hid (lQ wr N 172 2 (U (V ⟨N,0,Y⟩) (Z a) (Z a)) (Z a) (a.flatMap (Jb b))):=by
    obtain⟨L,h1,E,h3⟩:=Aa f;rw[gR (by omega),gR (ig _)]at E;rw[<-E];exact h3
   clear f;go_wp2;go_ret;exact⟨N,rfl,by rw[Aa y];exact Aa EK,Aa l⟩
structure eC(w0:l9)(M1:mc Nat)(sp b1:Nat)(M:mc Nat)(w:l9):Prop where
 kept:Ac M1 w0 w
 s:AH w b1 [kt (V ⟨sp,0,Y⟩)] 233
 apart:∀k∈M,(k∈M1\/w0.heap.size<=k)/\k≠b1/\k<w.heap.size
def fW(vs:mc UInt8)(x:mc zA)(a:Array lN)(W:l9):Prop:=
 ∃g,a=#[U (V ⟨g,0,Y⟩) (Z vs) (Z vs)]/\lQ W 0 172 2 (U (V ⟨g,0,Y⟩) (Z vs) (Z vs)) (Z vs) (vs.flatMap (Jb (Be x)))
theorem cg(p:Nat)(B2:mc Bi)(s:mc Af)(m:mc UInt8)(w0:l9)(I:mc Nat)(hS:∀f,Ac I w0 f->aQ f p B2 s m)(E:Nat)(w:l9)(C:mc Nat)(hB:eC w0 I p E C w):
  eF prog 140 #[kt (V ⟨E,0,Y⟩)] (fW m) (Av (Im B2 s) B2 s m Bs) C w:=by
 intro l A0 Jx W HM MY NS hJ K5 hR LS;have HW:eC w0 I p E C W:=⟨hB.kept.trans (HM.mono (by simp)),hB.s.kept HM (by simp),λk o=>⟨(hB.apart k o).1,(hB.apart k o).2.1,jw (hB.apart k o).2.2 HM.size⟩⟩;obtain⟨XS,HH⟩:∃XS,Av (Im B2 s) B2 s m Bs=XS:=⟨_,rfl⟩;have ad:Hid (∀f,Ac I w0 f->aQ f p B2 s m):=hS;have H3:=hS _ HW.kept;have X1:=H3.z9;have RB:Hid (∀d1 Q S d4 f M,Tv w0 I p d1 Q S d4 0 (Z m) Bs M f->Kq prog 176 #[kt (V ⟨d1,0,Y⟩),kt (V ⟨Q,0,Y⟩),kt (V ⟨S,0,Y⟩),kt (V ⟨d4,0,Y⟩)] (λx=>#[.agg (Aj (Be x)).toArray]) XS M f):=λd1 Q S d4 f M hb=>by
  rw[<-HH];exact KP p B2 s m w0 I hS (Z m) (ig _) m 0 Bs d1 Q S d4 f M CQ.start (ik _) (by rw[j6,kS]) hb
 have HS:Hid (∀x∈XS,Z x=26):=by
  intro x R;rw[<-HH]at R;exact Gd m Bs rfl x R
 have HV:Hid (∀f,Ac I w0 f->∃(BA:Option Addr) (A2:Nat),lP f ⟨p,2,Y⟩=V (U BA (Z m) A2)/\lQ f 0 21 1 (U BA (Z (Cw m)) A2) (Z (Cw m)) ((Cw m).flatMap AP)):=by
  intro f o;obtain⟨kb,ko,ao,aa,ab,BA,A2,a8,av,fs,h1,_,_,h4,_⟩:=(hS f o).at_;have h2:=h1.zO.cell 2;simp[F6]at h2;exact⟨BA,A2,h2,h4⟩
 have S0:Hid (∀v∈m,Ed v):=H3.ok;rw[HH]at hR⊢;have ST:=Ab hR;have HJ:=Ab hJ;have W1:=Ab K5;have LM:=Ab LS;have HB:=Ab HW;have TH:Hid (w0.heap.size<=l/\l<W.heap.size):=⟨iQ hB.kept.size MY,NS⟩;obtain⟨QQ,HU⟩:∃QQ,JD (bodyPostM Fence.wide 0 prog Tryz.f140 λe j=>(∃v,e=lo v)/\((∃n,A0 XS n j)\/(∃B n,Jx B n j)))=QQ:=⟨_,rfl⟩;have ar:Hid (∀c a w,¬QQ (.panic c) a w):=by
  intro c a w h;rw[<-HU]at h;exact h
 have M3:Hid (∀(HQ:Array lN) (ds:mc Nat) (f:l9),C6 W.heap.size ds f->((∃n,A0 XS n f)\/(∃B n,Jx B n f))->QQ .ret ⟨HQ,ds.map D8⟩ f/\QQ .normal ⟨HQ,ds.map D8⟩ f):=by
  intro HQ ds f hm hp;rw[<-HU];have RV:LeavesInM Fence.wide 0 prog Tryz.f140 HQ (λe j=>(∃v,e=lo v)/\((∃n,A0 XS n j)\/(∃B n,Jx B n j))) (ds.map D8) .returning f:=by
   refine C5 ds f hm (λP hs=>⟨_,kV rfl _ _ _,⟨_,rfl⟩,?_⟩);rcases hp with⟨n,h⟩|⟨B,n,h⟩
   .exact lx ⟨n,hs.own hJ (s:=(XS,n)) hm h⟩
   .exact ly ⟨B,n,hs.own K5 (s:=(B,n)) hm h⟩
  exact⟨RV,RV⟩
 have EK:=Ab ((me [] W).alloc (j2 #[.func (.yield l) #[] #[]] 238));have HC:=Ab (mf W [.func (.yield l) #[] #[]] 238);have RE:Hid (∀f,Calls prog 141 #[kt (V ⟨p,0,Y⟩),X J 0,X J (Z m),.agg (lV 26 (O ⟨#[]⟩)).toArray] f λr P=>∃E b2 b3 b4,r=lo (.func (.func 176) #[] #[kt (V ⟨E,0,Y⟩),kt (V ⟨b2,0,Y⟩),kt (V ⟨b3,0,Y⟩),kt (V ⟨b4,0,Y⟩)])/\
   AH P E [kt (V ⟨p,0,Y⟩)] 233/\AH P b2 (Aj (Be Bs)) 243/\AH P b3 [X J ((0:Nat):Int)] 3/\AH P b4 [X J (Z m)] 3/\(f.heap.size<=E/\f.heap.size<=b2/\f.heap.size<=b3/\f.heap.size<=b4)/\Ac [] f P):=λf=>by
  have h:=Hr p 0 (Z m) (Aj (Be Bs)) f (Bv _) (Ex Bs rfl).1;rw[J3]at h⊢;exact h
 show Calls prog 140 #[.func (.yield l) #[] #[],kt (V ⟨E,0,Y⟩)] W _;refine Ec func140 rfl (FV ?_);rw[HU];clear HU hB HW hR hJ LS K5 HH HM MY NS hS H3;simp only[ntmps140,i7,gW,iv,Nat.reduceAdd,Nat.reduceSub,jZ,j4,kx,ke,i6,js];refine ma (λK1 FP=>?_);go_wp2;refine Aa FP _ _ ?_;clear FP K1;change Code.wp _ _ _ _ (W.alloc (j2 [.func (.yield l) #[] #[]].toArray 238));generalize hw1:W.alloc (j2 [.func (.yield l) #[] #[]].toArray 238)=w1 at EK HC⊢;clear hw1;obtain⟨N,hN⟩:∃N,W.heap.size=N:=⟨_,rfl⟩;have HN:=Ab hN;rw[hN]at HC⊢;clear hN;have QR:Hid (∀f,Ac [] w1 f->Ac I w0 f):=λf o=>(Aa HB).kept.trans (((Aa EK).trans o).mono (by simp))
 obtain⟨BA,A2,o2,_⟩:=Aa HV w1 (Aa QR w1 (me _ _));have c1:=((Aa HB).s.kept (Aa EK) (by simp)).cell 0;simp at c1;have CC:Hid (∀f,Ac [] w1 f->lP f ⟨E,0,Y⟩=V (kt (V ⟨p,0,Y⟩))/\lP f ⟨p,2,Y⟩=V (U BA (Z m) A2)):=λf o=>⟨o.cellAt c1,o.cellAt o2⟩
 refine ma (λK1 FP=>?_)
 go_region_held3 (λf=>Ac [] w1 f/\lP f ⟨E,0,Y⟩=V (kt (V ⟨p,0,Y⟩))/\lP f ⟨p,2,Y⟩=V (U BA (Z m) A2)) ((go_split_ands;refine(fun(RT:Ac [] w1 _)=>And.intro RT (Aa CC _ RT)) ?_;repeat (first|assumption|exact me [] _|refine Ac.drew ?_|refine Ac.alloc ?_ _))) ((go_at_call 141;refine(Aa RE _).mono ?_;rintro e A ⟨d1,Q,S,d4,rfl,n1,n2,n3,n4,NN,k5⟩;have NV:Ac [] w1 A:=(by go_split_ands;exact Ac.trans (by assumption) k5);have X0:=k5.size;have SL:Hid (AH A d1 [kt (V ⟨p,0,Y⟩)] 233/\AH A Q (Aj (Be Bs)) 243/\AH A S [X J ((0:Nat):Int)] 3/\AH A d4 [X J (Z m)] 3/\(w1.heap.size<=d1/\w1.heap.size<=Q/\w1.heap.size<=S/\w1.heap.size<=d4)):=⟨n1,n2,n3,n4,by have h1:w1.heap.size<=_:=(by go_split_ands;exact Ac.size (by assumption));obtain⟨g1,g2,g3,g4⟩:=NN;exact⟨iQ h1 g1,iQ h1 g2,iQ h1 g3,iQ h1 g4⟩⟩;have FT:=Ab NV;clear n1 n2 n3 n4 NN k5 NV))
 rename_i W0;clear W0 X0;refine Aa FP _ _ ?_;clear FP K1 RE c1 o2 CC;have ZV:=Ab (Aa EK).size;have VS:=Ab (Aa FT).size;have H7:Hid (Ac [] W A):=(Aa EK).trans (Aa FT);have WW:=Ab ((Aa HC).kept (Aa FT) (by simp));have YP:Hid (A0 [] C A):=BB (Aa HJ) (s:=([],C)) (Aa LM) (Aa H7);have Nj:Hid (Ac I w0 A):=Aa QR A (Aa FT);have NY:W.heap.size<=A.heap.size:=(Aa H7).size;have DT:Hid (∀k∈C,(k∈I\/w0.heap.size<=k)/\k≠E/\k<W.heap.size):=(Aa HB).apart;have af:N<w1.heap.size:=(Aa HC).lt;have KS:=Aa TH;have U0:=Aa RB d1 Q S d4 A (l::C) (by
  obtain⟨n1,n2,n3,n4,g1,g2,g3,g4⟩:=Aa SL
  refine⟨Aa Nj,n1,n2,n3,n4,λq z=>?_⟩
  have h0:=(Aa HB).kept.size
  have hn:=Aa HN
  have h5:=Aa VS
  rcases gP.1 z with rfl|z
  .have h6:=Aa ZV
   exact⟨ly KS.1,by omega,by omega,by omega,by omega,by omega⟩
  .obtain⟨a1,a2,a3⟩:=Aa DT q z
   exact⟨a1,by omega,by omega,by omega,by omega,by omega⟩)
 clear RB SL HC EK FT LM;refine wp_block ?_;refine Ir (T:=243) (q:=3) rfl (enters_of func176 (by kernel_rfl) rfl) U0 (λq z=>by
  rcases gP.1 z with rfl|z
  .omega
  .have:=(Aa DT q z).2.2;omega) (Vx A0 l [] C A) (λc _ _ j=>VG Jx l C A c j) (Vx.own (Aa HJ) NY) (λc=>VG.own (Aa W1) NY c) ⟨C,rfl,Aa YP,me _ _,λq z=>⟨lx z,by have:=(Aa DT q z).2.2;omega⟩⟩ ?rassign ?rbody ?rdone ?rstop
 case rassign=>
  intro l' x j G R HK;have HG:Z (Aj (Be x))=26:=by unfold Aj Be;rw[ie,ie];exact Aa HS x R
  have N4:Hid (∀u∈Aj (Be x),u.oneCell'=true):=by
   intro u hu;unfold Aj at hu;obtain⟨y,_,rfl⟩:=gX.1 hu;rfl
  obtain⟨EX,OB⟩:∃EX,Aj (Be x)=EX:=⟨_,rfl⟩;rw[OB]at HG N4 HK⊢;have HS:=Ab HG;have NX:Hid (EX.toArray.size=26):=by show _=_;simp[HG]
  clear R OB HG;simp only[gI,gJ,gK]at HK⊢;refine AG (by rfl) (Hc F0) ?_;go_wp2_with ((with_reducible show wpList _ _ _ ({dst:=_,op:=Op.store 243 _ _,type:=_,pos:=_,after:=_,guard:=_}::_) _ _);refine jO rfl 243 _ _ rfl j.heap.size 0 EX.toArray (by rfl) (by rfl) ?_ ?_ ?_ ?_)
  .have h:=(mf j (lV 26 (O ⟨#[]⟩)) 243).there;simp only[jE]at h;rw[Aa NX];exact h
  .rw[Aa NX];exact Tryz.zH
  .exact jk (Aa N4)
  .refine Aa HK _ (((me [] j).alloc (j2 (lV 26 (O ⟨#[]⟩)).toArray 243)).zJ (b:=j.heap.size) (ly (ig _)) EX 0) ?_;exact(mf j (lV 26 (O ⟨#[]⟩)) 243).zU EX (by rw[Aa HS];simp)
 case rbody=>
  intro l' Bx B x VR n j K4 F TV a4 Nx;obtain⟨H,rfl,EM,B0⟩:=F.at_;rw[i6]at EM;have TX:=Aa HS x (by rw[K4];simp);have MB:Hid (∀f,Ac [] j f->Ac I w0 f):=λf o=>((Aa Nj).trans' B0.kept (λi F=>(Aa DT i F).1)).trans (o.mono (by simp))
  have PT:AH j N [.func (.yield l) #[] #[]] 238:=(Aa WW).kept B0.kept (λh=>by have h1:=(Aa DT N h).2.2;have h2:=Aa HN;omega);have MN:AH j E [kt (V ⟨p,0,Y⟩)] 233:=((Aa HB).s.kept (Aa H7) (by simp)).kept B0.kept (λh=>(Aa DT E h).2.1 rfl);have cy:=PT.cell 0;have cb:=MN.cell 0;simp at cy cb;obtain⟨H5,H1,o6,_⟩:=Aa HV j (Aa MB j (me _ _));have CC:Hid (∀f,Ac [] j f->lP f ⟨N,0,Y⟩=V (.func (.yield l) #[] #[])/\lP f ⟨E,0,Y⟩=V (kt (V ⟨p,0,Y⟩))/\lP f ⟨p,2,Y⟩=V (U H5 (Z m) H1)):=λf o=>⟨o.cellAt cy,o.cellAt cb,o.cellAt o6⟩
  have P0:Hid (Calls prog 142 #[kt (V ⟨Bx,0,Y⟩),U H5 (Z m) H1] j.drew λr P=>∃g,r=lo (U (V ⟨g,0,Y⟩) (Z m) (Z m))/\lQ P j.drew.heap.size 172 2 (U (V ⟨g,0,Y⟩) (Z m) (Z m)) (Z m) (m.flatMap (Jb (Be x)))/\Ac [] j.drew P):=by
   obtain⟨TS,W3,o7,HF⟩:=Aa HV j.drew (Aa MB _ (me [] j).drew);have o8:=(Aa CC _ (me [] j).drew).2.2;rw[o7]at o8;simp only[gT,gM]at o8;obtain⟨rfl,_,rfl⟩:=o8;exact Wp Bx (Be x) TS W3 m j.drew (by unfold Be;rw[ie];exact TX) (Nx.kept (me [] j).drew (by simp)) HF X1 (Aa S0)
  have NB:Hid (∀g f,Ac [] j f->lQ f 0 172 2 (U (V ⟨g,0,Y⟩) (Z m) (Z m)) (Z m) (m.flatMap (Jb (Be x)))->YieldAt Fence.wide 0 prog l #[U (V ⟨g,0,Y⟩) (Z m) (Z m)] f λe j=>
    (e=lo (.bool true)/\∃n,A0 (B++[x]) n j/\Ac H f j/\∀k∈n,(k∈H\/f.heap.size<=k)/\k<j.heap.size)\/(e=lo (.bool false)/\∃n,Jx (B++[x]) n j/\Ac (l::H) f j)):=λg f o hr=>Aa ST B x VR H f _ K4 (BB (Aa HJ) (s:=(B,H)) EM o) ⟨g,rfl,hr⟩
  have IJ:=Ab B0;have ag:l<j.heap.size:=by have:=B0.kept.size;omega
  clear F Nx PT MN EM B0 TV K4 cy cb o6;simp only[gI,gJ,gK];refine wpIn_block ?_;refine jd (λK3 NL=>?_);have HR:=Ab NL;clear NL;have B9:=Ab (Aa CC j.drew (me [] j).drew);refine OS 6 (λf=>lP f ⟨N,0,Y⟩=V (.func (.yield l) #[] #[])/\lP f ⟨E,0,Y⟩=V (kt (V ⟨p,0,Y⟩))/\lP f ⟨p,2,Y⟩=V (U H5 (Z m) H1)) (by kernel_rfl) (by rfl) (by rintro ⟨_,_,h⟩;exact h) ?_;refine Fn.take (i:=0) (v:=.func (.yield l) #[] #[]) rfl (by kernel_rfl) (λ_ _ _ h=>h) (Aa B9) (lx ⟨by rfl,?_⟩) ?_
  ·(intro f UO;obtain⟨z0,z1,z2⟩:=UO;go_simp)
  simp only[lY,gI,gJ,gK];obtain⟨z0,z1,z2⟩:=Aa B9;refine Fn.one (i:=1) (by kernel_rfl) (by rfl) rfl (λG t=>?_)
  go_simp
  refine t.out _ _ (λ_=>Aa B9) ?_;clear t G
  try simp only[lY,gI,gJ,gK]
  refine Fn.one (i:=2) (by kernel_rfl) (by rfl) rfl (λG t=>?_)
  go_simp
  refine t.out _ _ (λ_=>Aa B9) ?_;clear t G
  try simp only[lY,gI,gJ,gK]
  refine Fn.one (i:=3) (by kernel_rfl) (by rfl) rfl (λG t=>?_)
  go_simp
  refine t.out _ _ (λ_=>Aa B9) ?_;clear t G
  try simp only[lY,gI,gJ,gK]
  refine Fn.one (i:=4) (by kernel_rfl) (by rfl) rfl (λG t=>?_)
  go_simp
  refine t.out _ _ (λ_=>Aa B9) ?_;clear t G
  try simp only[lY,gI,gJ,gK]
  refine Fn.one (i:=5) (by kernel_rfl) (by rfl) rfl (λG t=>?_)
  go_simp
  refine(Aa P0).mono ?_;rintro _ w7 ⟨g,rfl,HF,k7⟩;have HE:Ac [] j w7:=(me [] j).drew.trans k7;refine t.out _ _ (λ_=>Aa CC w7 HE) ?_;clear t G z0 z1 z2
  try simp only[lY,gI,gJ,gK]
  have HY:=Ab (Aa NB g w7 HE (Am HF (ik _)));have K2:=Ab HE;clear HF k7 HE P0 NB B9 CC;refine Fn.yield (by kernel_rfl) rfl (q:=l) (args:=#[U (V ⟨g,0,Y⟩) (Z m) (Z m)]) (by rfl) (by first|(simp[go_sem,Oper.semAt];done)|(simp[go_sem,Oper.semAt,execOp,resolve,invoke];done)) (Aa HY) ?_;rintro r w8 (⟨rfl,M6,FC,EY,FO⟩|⟨rfl,M6,FC,EY⟩)
  .refine⟨_,rfl,?_⟩
   try simp only[lY,gI,gJ,gK]
   have HP:Hid (LI (Vx A0 l [] C A) (λc _ _ j=>VG Jx l C A c j) (B++[x]) (l::H) j .normal ⟨#[],[]⟩ w8):=by
    have h7:=(Aa K2).size;(have KS:l<w8.heap.size:=by have:=EY.size;omega);have o:Ac H j w8:=((Aa K2).mono (by simp)).trans EY;refine⟨o.mono (λi F=>iB _ F),l::M6,⟨M6,rfl,by rw[i6];exact FC,(Aa IJ).step o (λq z=>⟨((FO q z).1).imp id (λh=>by omega),(FO q z).2⟩)⟩,λq z=>?_⟩;rcases gP.1 z with rfl|z
    .exact⟨lx (iV ..),KS⟩
    .refine⟨?_,(FO q z).2⟩;rcases(FO q z).1 with h|h
     .exact lx (iB _ h)
     .exact ly (by omega)
   clear FC EY FO HY;refine Fn.one (i:=7) (by kernel_rfl) (by rfl) rfl (λG t=>?_)
   go_simp
   refine t.out _ _ (λh=>by cases h) ?_;clear t G;refine Fn.done (by kernel_rfl) ?_ _
   try simp only[lY,gI,gJ,gK]
   refine Aa HR _ _ ?_;clear HR K3;refine ki rfl (wpIn_skip ?_);exact Aa HP
  .refine⟨_,rfl,?_⟩
   try simp only[lY,gI,gJ,gK]
   have HP:Hid (LI (Vx A0 l [] C A) (λc _ _ j=>VG Jx l C A c j) (B++[x]) (l::H) j .ret ⟨#[],[]⟩ w8):=by
    have o:Ac (l::H) j w8:=((Aa K2).mono (by simp)).trans EY;refine⟨o,M6,rfl,⟨_,M6,FC⟩,?_⟩;refine((Aa IJ).kept.mono (N:=l::C) (λi F=>iB _ F)).trans' o (λi F=>?_);rcases gP.1 F with rfl|F
    .exact lx (iV ..)
    .exact(((Aa IJ).mem i F).1).imp (λh=>iB _ h) id
   clear FC EY HY;refine Fn.one (i:=7) (by kernel_rfl) (by rfl) rfl (λG t=>?_)
   go_simp
   refine t.out _ _ (λh=>by cases h) ?_;clear t G;refine Fn.done (by kernel_rfl) ?_ _
   try simp only[lY,gI,gJ,gK]
   refine Aa HR _ _ ?_;clear HR K3;refine ku rfl (wpIn_ret ?_);exact Aa HP
 case rdone=>
  intro D n j hD F hd a9;obtain⟨H,rfl,EM,B0⟩:=F.at_;rw[i6]at EM;have hm:C6 W.heap.size [D] j:=⟨by simp,λd L=>by rw[gN]at L;subst L;omega,λd L=>by rw[gN]at L;subst L;exact hd⟩;exact(Aa M3 _ [D] j hm (lx ⟨H,EM⟩)).2
 case rstop=>
  intro D c B n j hD R hd;obtain rfl:=R.ret;obtain⟨U1,H,W2⟩:=R.at_;have hm:C6 W.heap.size [D] j:=⟨by simp,λd L=>by rw[gN]at L;subst L;omega,λd L=>by rw[gN]at L;subst L;exact hd⟩;refine wp_ret ?_;exact(Aa M3 _ [D] j hm (ly ⟨U1,H,W2⟩)).1
