import Derived.Test.YtoihbhenbmffcaaGreatDoorYBK
set_option linter.all false
set_option maxHeartbeats 0
namespace Go.Proofs.YtoihbhenbmffcaaGreatDoor
open Go.RowKit Go.Proofs.Tryz
theorem Tryz.zW:(Tryz.prog.info? 172).map (λi=>(i.zero,i.size,i.bytes))=some (some (.agg #[.int .i32 0,.string ⟨#[]⟩]),2,24):=by kernel_rfl
def Iy(b:List cR)(v:UInt8):List Value:=[.int .i32 (v.toNat:Int),.string (Lv b v)]
theorem WY(b:List cR)(v:UInt8):(Iy b v).length=2:=rfl
theorem Y4{L:List Value}{n:Nat}(h:2*n+1<L.length)(a c:Value):((L.set (2*n) a).set (2*n+1) c).take (2*(n+1))=L.take (2*n)++[a,c]:=by
 apply List.ext_getElem?;intro i;rw[dz];by_cases b:i<2*n
 .rw[if_pos (by omega),el (by omega),el (by omega),List.getElem?_append_left (by simp;omega),dz,if_pos b]
 .have d:(L.take (2*n)).length=2*n:=by simp;omega
  rw[fm (by omega),d];by_cases e:i=2*n
  .subst e;rw[if_pos (by omega),el (by omega),eJ (by omega),Nat.sub_self];rfl
  .by_cases f:i=2*n+1
   .subst f;rw[if_pos (by omega),eJ (by simp;omega),show 2*n+1-2*n=1 by omega];rfl
   .rw[if_neg (by omega),List.getElem?_eq_none (by simp;omega)]
set_option maxRecDepth 100000
theorem Ul(m:Nat)(b:List cR)(F:Option Addr)(O:Nat)(a:List UInt8)(w:World)(hb:b.length=26)(T:AE w m (Ai b) 243)(M:w.ownsRow 0 21 1 (.slice F (Cm a).length O) (Cm a).length ((Cm a).flatMap AK))(FF:a.length<=1000)(A:∀v∈a,DH v):
  Calls prog 142 #[.pointer (some ⟨m,0,none⟩),.slice F a.length O] w λr l=>∃g,r=.returned (.slice (some ⟨g,0,none⟩) a.length a.length)/\l.ownsRow w.heap.size 172 2 (.slice (some ⟨g,0,none⟩) a.length a.length) a.length (a.flatMap (Iy b))/\Ac [] w l:=by
 obtain⟨i0,EX,Y,AO,BA⟩:=cU Tryz.zW;have HT:Hid (∀v∈a,∀c,Ac [] w c->Calls prog 180 #[.pointer (some ⟨m,0,none⟩),.agg #[.int .i32 (v.toNat:Int),.string ⟨#[]⟩]] c λr l=>r=.returned (.string (Lv b v))/\Ac [] c l):=by
  intro v H c G;have h:=Og m 243 b v.toNat ByteArray.empty c hb (T.kept G (by simp)) (Or.inr (A v H));have Z:v.toNat≠0:=by have:=(A v H).1;omega
  have e:Zi b v.toNat ByteArray.empty=Lv b v:=by unfold Zi Lv;rw[if_neg Z]
  rw[e]at h;exact h
 have ES:=Ab M;obtain⟨N,B⟩:∃N,w.heap.size=N:=⟨_,rfl⟩;have x:=Ab B;clear M A T;have FO:∀c:World,(Instr.makeSlice 169 (.int .i64 (a.length:Int)) (.int .i64 (a.length:Int))).run prog c=.ok (.slice (some ⟨c.heap.size,0,none⟩) a.length a.length) (c.alloc (.cells (madeCells #[.int .i32 0,.string ⟨#[]⟩] (a.length*2)) 172)):=by
  intro c;have Q:=run_make (P:=prog) c 169 172 i0 _ underlying169 EX Y .i64 .i64 a.length a.length (by omega) (Int.le_refl _) (by rw[BA];omega) (by omega);simp only[Int.toNat_natCast,AO]at Q;exact Q
 go_enter func142,ntmps142;go_wp2;have d:Hid (∃L:List Value,L.length=2*a.length/\L.take (2*0)=(a.take 0).flatMap (Iy b)/\(w.alloc (.cells (madeCells #[.int .i32 0,.string ⟨#[]⟩] (a.length*2)) 172)).ownsRow N 172 2 (.slice (some ⟨N,0,none⟩) a.length a.length) a.length L):=by
  have h:=fM (e:=172) (size:=2) (base:=N) w (madeCells #[.int .i32 0,.string ⟨#[]⟩] (a.length*2)) a.length (by omega) (by unfold maxLen;omega) (by rw[size_madeCells]);rw[B]at h;exact⟨_,by rw[Array.length_toList,size_madeCells];omega,by simp,h⟩
 have y:=Ab ((Ac.refl [] w).alloc (.cells (madeCells #[.int .i32 0,.string ⟨#[]⟩] (a.length*2)) 172));clear B;generalize w.alloc (.cells (madeCells #[.int .i32 0,.string ⟨#[]⟩] (a.length*2)) 172)=w2 at d y⊢
 go_loopg [13] a.length (λgk i wr=>∃(k:Nat),i=.int .i64 k/\k<=a.length/\gk=a.length-k/\Hid (∃L:List Value,L.length=2*a.length/\L.take (2*k)=(a.take k).flatMap (Iy b)/\wr.ownsRow N 172 2 (.slice (some ⟨N,0,none⟩) a.length a.length) a.length L)/\Hid (Ac [] w wr))
 case atStart=>exact⟨0,rfl,by omega,rfl,d,y⟩
 case round=>
  clear d y;obtain⟨k,rfl,G,I,d,j⟩:=hrel;have HG:=Ab I;clear I;by_cases o:k<a.length
  ·(have C:k<(Cm a).length:=by rw[FI];exact o);obtain⟨g,FC,R,u⟩:=OS (Ad (Aa ES) (Aa j) (by simp)) k C;simp only[bK]at R;obtain⟨rfl,_,rfl⟩:=R;(have e:(Cm a)[k]=(a[k].toNat:Int):=by simp[Cm]);rw[e]at u;obtain⟨V,n⟩:∃V,a[k]=V:=⟨_,rfl⟩;rw[n]at u;have t:=Ab (Aa HT V (by rw[<-n];exact bL o) wr (Aa j));(have FL:(0:Int)<=(k:Int):=by omega);(have FP:(k:Int)<(a.length:Int):=by omega);have E:Hid ((a.take (k+1)).flatMap (Iy b)=(a.take k).flatMap (Iy b)++[.int .i32 (V.toNat:Int),.string (Lv b V)]):=by
    show _=_;rw[bM o,cw,n];rfl
   generalize Lv b V=X at t E;clear e n C;(go_wp2_with fail);refine(Aa t).mono ?_;rintro _ W ⟨rfl,s⟩;have S:=Ab ((Aa j).trans s);obtain⟨L,J,U,K⟩:=Aa d;have f:=Ad K s (by simp);have z:=f.cellAt (2*k) (by omega);have q:=f.cellAt (2*k+1) (by omega);have BT:=f.frozenAt (2*k);have EK:=f.frozenAt (2*k+1);rw[Nat.mul_comm]at z q BT EK;rw[bW (by omega)]at z q;generalize L[k*2]=U0 at z;generalize L[k*2+1]=U1 at q;have CL:Hid (∃L:List Value,L.length=2*a.length/\L.take (2*(k+1))=(a.take (k+1)).flatMap (Iy b)/\((W.setCell ⟨N,k*2,none⟩ (.int .i32 (V.toNat:Int))).setCell ⟨N,k*2+1,none⟩ (.string X)).ownsRow N 172 2 (.slice (some ⟨N,0,none⟩) a.length a.length) a.length L):=by
    refine⟨(L.set (2*k) (.int .i32 (V.toNat:Int))).set (2*k+1) (.string X),by simp[J],?_,?_⟩
    .rw[Y4 (by omega),Aa E,U]
    .rw[Nat.mul_comm k 2];exact Ds (Ds f (2*k) _) (2*k+1) _
   have AH:=Ab (((Aa S).setCell (p:=⟨N,k*2,none⟩) (Or.inr (by have:=Aa x;show _<=N;omega)) (.int .i32 (V.toNat:Int))).setCell (p:=⟨N,k*2+1,none⟩) (Or.inr (by have:=Aa x;show _<=N;omega)) (.string X));clear t j S s f u d J U K;go_wp2
   go_roundg (a.length-(k+1))
   case measure=>have:=Aa HG;omega
   case rel=>exact⟨k+1,by go_num,by omega,rfl,CL,AH⟩
  ·(have AT:k=a.length:=by omega);subst AT;have CC:Hid (wr.ownsRow N 172 2 (.slice (some ⟨N,0,none⟩) a.length a.length) a.length (a.flatMap (Iy b))):=by
    obtain⟨L,h1,D,h3⟩:=Aa d;rw[bP (by omega),bP (bZ _)]at D;rw[<-D];exact h3
   clear d;go_wp2;go_ret;exact⟨N,rfl,by rw[Aa x];exact Aa CC,Aa j⟩
structure aj(w0:World)(M1:List Nat)(sp b1:Nat)(M:List Nat)(w:World):Prop where
 kept:Ac M1 w0 w
 s:AE w b1 [.pointer (some ⟨sp,0,none⟩)] 233
 apart:∀k∈M,(k∈M1\/w0.heap.size<=k)/\k≠b1/\k<w.heap.size
def bw(vs:List UInt8)(x:List cR)(a:Array Value)(W:World):Prop:=
 ∃g,a=#[.slice (some ⟨g,0,none⟩) vs.length vs.length]/\W.ownsRow 0 172 2 (.slice (some ⟨g,0,none⟩) vs.length vs.length) vs.length (vs.flatMap (Iy (Bf x)))
theorem Y3(p:Nat)(AH:List Bg)(s:List Ah)(m:List UInt8)(w0:World)(H:List Nat)(hS:∀f,Ac H w0 f->Yl f p AH s m)(E:Nat)(w:World)(C:List Nat)(hB:aj w0 H p E C w):
  aq prog 140 #[.pointer (some ⟨E,0,none⟩)] (bw m) (As (IX AH s) AH s m BX) C w:=by
 intro l J V W HI L0 NV hJ KS hR LE;have HU:aj w0 H p E C W:=⟨hB.kept.trans (HI.mono (by simp)),hB.s.kept HI (by simp),λk o=>⟨(hB.apart k o).1,(hB.apart k o).2.1,dJ (hB.apart k o).2.2 HI.size⟩⟩;obtain⟨U,HF⟩:∃U,As (IX AH s) AH s m BX=U:=⟨_,rfl⟩;have ap:Hid (∀f,Ac H w0 f->Yl f p AH s m):=hS;have H1:=hS _ HU.kept;have ab:=H1.zC;have RE:Hid (∀R O Q S f M,Ry w0 H p R O Q S 0 m.length BX M f->Kr prog 176 #[.pointer (some ⟨R,0,none⟩),.pointer (some ⟨O,0,none⟩),.pointer (some ⟨Q,0,none⟩),.pointer (some ⟨S,0,none⟩)] (λx=>#[.agg (Ai (Bf x)).toArray]) U M f):=λR O Q S f M hb=>by
  rw[<-HF];exact J1 p AH s m w0 H hS m.length (bZ _) m 0 BX R O Q S f M CP.start (b8 _) (by rw[eN,ft]) hb
 have HQ:Hid (∀x∈U,x.length=26):=by
  intro x P;rw[<-HF]at P;exact FQ m BX rfl x P
 have HT:Hid (∀f,Ac H w0 f->∃(Y:Option Addr) (X:Nat),f.cell? ⟨p,2,none⟩=some (.slice Y m.length X)/\f.ownsRow 0 21 1 (.slice Y (Cm m).length X) (Cm m).length ((Cm m).flatMap AK)):=by
  intro f o;obtain⟨kb,ko,a4,an,ao,Y,X,bn,a7,fs,h1,_,_,h4,_⟩:=(hS f o).at_;have h2:=h1.gA.cell 2;simp[FI]at h2;exact⟨Y,X,h2,h4⟩
 have S1:Hid (∀v∈m,DH v):=H1.ok;rw[HF]at hR⊢;have S0:=Ab hR;have HJ:=Ab hJ;have W2:=Ab KS;have LC:=Ab LE;have HB:=Ab HU;have TL:Hid (w0.heap.size<=l/\l<W.heap.size):=⟨da hB.kept.size L0,NV⟩;obtain⟨QQ,HS⟩:∃QQ,Kd (bodyPostM Fence.wide 0 prog Tryz.f140 λe j=>(∃v,e=.returned v)/\((∃n,J U n j)\/(∃B n,V B n j)))=QQ:=⟨_,rfl⟩;have a6:Hid (∀c a w,¬QQ (.panic c) a w):=by
  intro c a w h;rw[<-HS]at h;exact h
 have MN:Hid (∀(HM:Array Value) (ds:List Nat) (f:World),C1 W.heap.size ds f->((∃n,J U n f)\/(∃B n,V B n f))->QQ .ret ⟨HM,ds.map DY⟩ f/\QQ .normal ⟨HM,ds.map DY⟩ f):=by
  intro HM ds f Z hp;rw[<-HS];have SB:LeavesInM Fence.wide 0 prog Tryz.f140 HM (λe j=>(∃v,e=.returned v)/\((∃n,J U n j)\/(∃B n,V B n j))) (ds.map DY) .returning f:=by
   refine Dk ds f Z (λL hs=>⟨_,fE rfl _ _ _,⟨_,rfl⟩,?_⟩);rcases hp with⟨n,h⟩|⟨B,n,h⟩
   .exact Or.inl ⟨n,hs.own hJ (s:=(U,n)) Z h⟩
   .exact Or.inr ⟨B,n,hs.own KS (s:=(B,n)) Z h⟩
  exact⟨SB,SB⟩
 have B9:=Ab ((Ac.refl [] W).alloc (.cells #[.func (.yield l) #[] #[]] 238));have Ha:=Ab (AE.new W [.func (.yield l) #[] #[]] 238);have RI:Hid (∀f,Calls prog 141 #[.pointer (some ⟨p,0,none⟩),.int .i64 0,.int .i64 m.length,.agg (List.replicate 26 (Value.string ⟨#[]⟩)).toArray] f λr L=>∃E b2 b3 b4,r=.returned (.func (.func 176) #[] #[.pointer (some ⟨E,0,none⟩),.pointer (some ⟨b2,0,none⟩),.pointer (some ⟨b3,0,none⟩),.pointer (some ⟨b4,0,none⟩)])/\
   AE L E [.pointer (some ⟨p,0,none⟩)] 233/\AE L b2 (Ai (Bf BX)) 243/\AE L b3 [.int .i64 ((0:Nat):Int)] 3/\AE L b4 [.int .i64 m.length] 3/\(f.heap.size<=E/\f.heap.size<=b2/\f.heap.size<=b3/\f.heap.size<=b4)/\Ac [] f L):=λf=>by
  have h:=G1 p 0 m.length (Ai (Bf BX)) f (Bo _) (D4 BX rfl).1;rw[Jg]at h⊢;exact h
 show Calls prog 140 #[.func (.yield l) #[] #[],.pointer (some ⟨E,0,none⟩)] W _;refine EB func140 rfl (GJ ?_);rw[HS];clear HS hB HU hR hJ LE KS HF HI L0 NV hS H1;simp only[ntmps140,dh,bU,cE,Nat.reduceAdd,Nat.reduceSub,eu,ev,eU,eH,dm,dG];refine wp_seq_k (λK1 FC=>?_);have FL:=Ab FC;clear FC;go_wp2;refine Aa FL _ _ ?_;clear FL K1;change Code.wp _ _ _ _ (W.alloc (.cells [.func (.yield l) #[] #[]].toArray 238));generalize hw1:W.alloc (.cells [.func (.yield l) #[] #[]].toArray 238)=w1 at B9 Ha⊢;clear hw1;obtain⟨N,hN⟩:∃N,W.heap.size=N:=⟨_,rfl⟩;have HN:=Ab hN;rw[hN]at Ha⊢;clear hN;have RB:Hid (∀f,Ac [] w1 f->Ac H w0 f):=λf o=>(Aa HB).kept.trans (((Aa B9).trans o).mono (by simp))
 obtain⟨Y,X,o2,_⟩:=Aa HT w1 (Aa RB w1 (Ac.refl _ _));have c1:=((Aa HB).s.kept (Aa B9) (by simp)).cell 0;simp at c1;have AT:Hid (∀f,Ac [] w1 f->f.cell? ⟨E,0,none⟩=some (.pointer (some ⟨p,0,none⟩))/\f.cell? ⟨p,2,none⟩=some (.slice Y m.length X)):=λf o=>⟨o.cellAt c1,o.cellAt o2⟩
 refine wp_seq_k (λK1 FC=>?_);have FL:=Ab FC;clear FC
 go_region_held3 (λf=>Ac [] w1 f/\f.cell? ⟨E,0,none⟩=some (.pointer (some ⟨p,0,none⟩))/\f.cell? ⟨p,2,none⟩=some (.slice Y m.length X)) ((go_split_ands;refine(fun(RV:Ac [] w1 _)=>And.intro RV (Aa AT _ RV)) ?_;repeat (first|assumption|exact Ac.refl [] _|refine Ac.drew ?_|refine Ac.alloc ?_ _))) ((go_at_call 141;refine(Aa RI _).mono ?_;rintro e A ⟨R,O,Q,S,rfl,n1,n2,n3,n4,NS,k5⟩;have NX:Ac [] w1 A:=(by go_split_ands;exact Ac.trans (by assumption) k5);have aa:=k5.size;have SP:Hid (AE A R [.pointer (some ⟨p,0,none⟩)] 233/\AE A O (Ai (Bf BX)) 243/\AE A Q [.int .i64 ((0:Nat):Int)] 3/\AE A S [.int .i64 m.length] 3/\(w1.heap.size<=R/\w1.heap.size<=O/\w1.heap.size<=Q/\w1.heap.size<=S)):=⟨n1,n2,n3,n4,by have h1:w1.heap.size<=_:=(by go_split_ands;exact Ac.size (by assumption));obtain⟨g1,g2,g3,g4⟩:=NS;exact⟨da h1 g1,da h1 g2,da h1 g3,da h1 g4⟩⟩;have FO:=Ab NX;clear n1 n2 n3 n4 NS k5 NX))
 rename_i W1;clear W1 aa;refine Aa FL _ _ ?_;clear FL K1 RI c1 o2 AT;have al:=Ab (Aa B9).size;have Wa:=Ab (Aa FO).size;have H5:Hid (Ac [] W A):=(Aa B9).trans (Aa FO);have W0:=Ab ((Aa Ha).kept (Aa FO) (by simp));have ag:Hid (J [] C A):=BC (Aa HJ) (s:=([],C)) (Aa LC) (Aa H5);have M2:Hid (Ac H w0 A):=Aa RB A (Aa FO);have N0:W.heap.size<=A.heap.size:=(Aa H5).size;have BT:Hid (∀k∈C,(k∈H\/w0.heap.size<=k)/\k≠E/\k<W.heap.size):=(Aa HB).apart;have ar:N<w1.heap.size:=(Aa Ha).lt;have JJ:=Aa TL;have U1:=Aa RE R O Q S A (l::C) (by
  obtain⟨n1,n2,n3,n4,g1,g2,g3,g4⟩:=Aa SP
  refine⟨Aa M2,n1,n2,n3,n4,λq z=>?_⟩
  have h0:=(Aa HB).kept.size
  have hn:=Aa HN
  have h5:=Aa Wa
  rcases bS.1 z with rfl|z
  .have h6:=Aa al
   exact⟨Or.inr JJ.1,by omega,by omega,by omega,by omega,by omega⟩
  .obtain⟨a1,a2,a3⟩:=Aa BT q z
   exact⟨a1,by omega,by omega,by omega,by omega,by omega⟩)
 clear RE SP Ha B9 FO LC;refine wp_block ?_;refine Hp (T:=243) (q:=3) rfl (enters_of func176 (by kernel_rfl) rfl) U1 (λq z=>by
  rcases bS.1 z with rfl|z
  .omega
  .have:=(Aa BT q z).2.2;omega) (Tq J l [] C A) (λc _ _ j=>TB V l C A c j) (Tq.own (Aa HJ) N0) (λc=>TB.own (Aa W2) N0 c) ⟨C,rfl,Aa ag,Ac.refl _ _,λq z=>⟨Or.inl z,by have:=(Aa BT q z).2.2;omega⟩⟩ ?rassign ?rbody ?rdone ?rstop
 case rassign=>
  intro l' x j K P HK;have HE:(Ai (Bf x)).length=26:=by unfold Ai Bf;rw[bX,bX];exact Aa HQ x P
  have N4:Hid (∀u∈Ai (Bf x),u.oneCell'=true):=by
   intro u hu;unfold Ai at hu;obtain⟨y,_,rfl⟩:=bV.1 hu;rfl
  obtain⟨EX,OH⟩:∃EX,Ai (Bf x)=EX:=⟨_,rfl⟩;rw[OH]at HE N4 HK⊢;have HQ:=Ab HE;have NY:Hid (EX.toArray.size=26):=by show _=_;simp[HE]
  clear P OH HE;simp only[bH,bI,bJ]at HK⊢;refine AZ (by rfl) (If Gx) ?_;go_wp2_with ((with_reducible show wpList _ _ _ ({dst:=_,op:=Op.store 243 _ _,type:=_,pos:=_,after:=_,guard:=_}::_) _ _);refine dP rfl 243 _ _ rfl j.heap.size 0 EX.toArray (by rfl) (by rfl) ?_ ?_ ?_ ?_)
  .have h:=(AE.new j (List.replicate 26 (Value.string ⟨#[]⟩)) 243).there;simp only[dD]at h;rw[Aa NY];exact h
  .rw[Aa NY];exact Tryz.ea
  .exact dq (Aa N4)
  .refine Aa HK _ (((Ac.refl [] j).alloc (.cells (List.replicate 26 (Value.string ⟨#[]⟩)).toArray 243)).ek (b:=j.heap.size) (Or.inr (bZ _)) EX 0) ?_;exact(AE.new j (List.replicate 26 (Value.string ⟨#[]⟩)) 243).gH EX (by rw[Aa HQ];simp)
 case rbody=>
  intro l' Bx B x VS n j KK F TX ba Nq;obtain⟨G,rfl,CC,AB⟩:=F.at_;rw[dm]at CC;have T0:=Aa HQ x (by rw[KK];simp);have LM:Hid (∀f,Ac [] j f->Ac H w0 f):=λf o=>((Aa M2).trans' AB.kept (λi F=>(Aa BT i F).1)).trans (o.mono (by simp))
  have P0:AE j N [.func (.yield l) #[] #[]] 238:=(Aa W0).kept AB.kept (λh=>by have h1:=(Aa BT N h).2.2;have h2:=Aa HN;omega);have LS:AE j E [.pointer (some ⟨p,0,none⟩)] 233:=((Aa HB).s.kept (Aa H5) (by simp)).kept AB.kept (λh=>(Aa BT E h).2.1 rfl);have cy:=P0.cell 0;have cb:=LS.cell 0;simp at cy cb;obtain⟨H3,HZ,o6,_⟩:=Aa HT j (Aa LM j (Ac.refl _ _));have AT:Hid (∀f,Ac [] j f->f.cell? ⟨N,0,none⟩=some (.func (.yield l) #[] #[])/\f.cell? ⟨E,0,none⟩=some (.pointer (some ⟨p,0,none⟩))/\f.cell? ⟨p,2,none⟩=some (.slice H3 m.length HZ)):=λf o=>⟨o.cellAt cy,o.cellAt cb,o.cellAt o6⟩
  have QR:Hid (Calls prog 142 #[.pointer (some ⟨Bx,0,none⟩),.slice H3 m.length HZ] j.drew λr L=>∃g,r=.returned (.slice (some ⟨g,0,none⟩) m.length m.length)/\L.ownsRow j.drew.heap.size 172 2 (.slice (some ⟨g,0,none⟩) m.length m.length) m.length (m.flatMap (Iy (Bf x)))/\Ac [] j.drew L):=by
   obtain⟨TV,ZV,o7,HD⟩:=Aa HT j.drew (Aa LM _ (Ac.refl [] j).drew);have o8:=(Aa AT _ (Ac.refl [] j).drew).2.2;rw[o7]at o8;simp only[bR,bK]at o8;obtain⟨rfl,_,rfl⟩:=o8;exact Ul Bx (Bf x) TV ZV m j.drew (by unfold Bf;rw[bX];exact T0) (Nq.kept (Ac.refl [] j).drew (by simp)) HD ab (Aa S1)
  have Nx:Hid (∀g f,Ac [] j f->f.ownsRow 0 172 2 (.slice (some ⟨g,0,none⟩) m.length m.length) m.length (m.flatMap (Iy (Bf x)))->YieldAt Fence.wide 0 prog l #[.slice (some ⟨g,0,none⟩) m.length m.length] f λe j=>
    (e=.returned (.bool true)/\∃n,J (B++[x]) n j/\Ac G f j/\∀k∈n,(k∈G\/f.heap.size<=k)/\k<j.heap.size)\/(e=.returned (.bool false)/\∃n,V (B++[x]) n j/\Ac (l::G) f j)):=λg f o hr=>Aa S0 B x VS G f _ KK (BC (Aa HJ) (s:=(B,G)) CC o) ⟨g,rfl,hr⟩
  have H9:=Ab AB;have av:l<j.heap.size:=by have:=AB.kept.size;omega
  clear F Nq P0 LS CC AB TX KK cy cb o6;simp only[bH,bI,bJ];refine wpIn_block ?_;refine dM (λK3 NL=>?_);have HO:=Ab NL;clear NL;have AO:=Ab (Aa AT j.drew (Ac.refl [] j).drew);refine NA 6 (λf=>f.cell? ⟨N,0,none⟩=some (.func (.yield l) #[] #[])/\f.cell? ⟨E,0,none⟩=some (.pointer (some ⟨p,0,none⟩))/\f.cell? ⟨p,2,none⟩=some (.slice H3 m.length HZ)) (by kernel_rfl) (by rfl) (by rintro ⟨_,_,h⟩;exact h) ?_;refine E7.take (i:=0) (v:=.func (.yield l) #[] #[]) rfl (by kernel_rfl) (λ_ _ _ h=>h) (Aa AO) (Or.inl ⟨by rfl,?_⟩) ?_
  ·(intro f U0;obtain⟨z0,z1,z2⟩:=U0;go_simp)
  simp only[Act.put,bH,bI,bJ];obtain⟨z0,z1,z2⟩:=Aa AO;refine E7.one (i:=1) (by kernel_rfl) (by rfl) rfl (λK t=>?_)
  go_simp
  refine t.out _ _ (λ_=>Aa AO) ?_;clear t K
  try simp only[Act.put,bH,bI,bJ]
  refine E7.one (i:=2) (by kernel_rfl) (by rfl) rfl (λK t=>?_)
  go_simp
  refine t.out _ _ (λ_=>Aa AO) ?_;clear t K
  try simp only[Act.put,bH,bI,bJ]
  refine E7.one (i:=3) (by kernel_rfl) (by rfl) rfl (λK t=>?_)
  go_simp
  refine t.out _ _ (λ_=>Aa AO) ?_;clear t K
  try simp only[Act.put,bH,bI,bJ]
  refine E7.one (i:=4) (by kernel_rfl) (by rfl) rfl (λK t=>?_)
  go_simp
  refine t.out _ _ (λ_=>Aa AO) ?_;clear t K
  try simp only[Act.put,bH,bI,bJ]
  refine E7.one (i:=5) (by kernel_rfl) (by rfl) rfl (λK t=>?_)
  go_simp
  refine(Aa QR).mono ?_;rintro _ w7 ⟨g,rfl,HD,k7⟩;have HC:Ac [] j w7:=(Ac.refl [] j).drew.trans k7;refine t.out _ _ (λ_=>Aa AT w7 HC) ?_;clear t K z0 z1 z2
  try simp only[Act.put,bH,bI,bJ]
  have HY:=Ab (Aa Nx g w7 HC (Ak HD (b8 _)));have KD:=Ab HC;clear HD k7 HC QR Nx AO AT;refine E7.yield (by kernel_rfl) rfl (q:=l) (args:=#[.slice (some ⟨g,0,none⟩) m.length m.length]) (by rfl) (by first|(simp[go_sem,Oper.semAt];done)|(simp[go_sem,Oper.semAt,execOp,resolve,invoke];done)) (Aa HY) ?_;rintro r w8 (⟨rfl,M6,EY,CL,FF⟩|⟨rfl,M6,EY,CL⟩)
  .refine⟨_,rfl,?_⟩
   try simp only[Act.put,bH,bI,bJ]
   have HP:Hid (M5 (Tq J l [] C A) (λc _ _ j=>TB V l C A c j) (B++[x]) (l::G) j .normal ⟨#[],[]⟩ w8):=by
    have h7:=(Aa KD).size;(have JJ:l<w8.heap.size:=by have:=CL.size;omega);have o:Ac G j w8:=((Aa KD).mono (by simp)).trans CL;refine⟨o.mono (λi F=>cF _ F),l::M6,⟨M6,rfl,by rw[dm];exact EY,(Aa H9).step o (λq z=>⟨((FF q z).1).imp id (λh=>by omega),(FF q z).2⟩)⟩,λq z=>?_⟩;rcases bS.1 z with rfl|z
    .exact⟨Or.inl (dg ..),JJ⟩
    .refine⟨?_,(FF q z).2⟩;rcases(FF q z).1 with h|h
     .exact Or.inl (cF _ h)
     .exact Or.inr (by omega)
   clear EY CL FF HY;refine E7.one (i:=7) (by kernel_rfl) (by rfl) rfl (λK t=>?_)
   go_simp
   refine t.out _ _ (λh=>by cases h) ?_;clear t K;refine E7.done (by kernel_rfl) ?_ _
   try simp only[Act.put,bH,bI,bJ]
   refine Aa HO _ _ ?_;clear HO K3;refine eV rfl (wpIn_skip ?_);exact Aa HP
  .refine⟨_,rfl,?_⟩
   try simp only[Act.put,bH,bI,bJ]
   have HP:Hid (M5 (Tq J l [] C A) (λc _ _ j=>TB V l C A c j) (B++[x]) (l::G) j .ret ⟨#[],[]⟩ w8):=by
    have o:Ac (l::G) j w8:=((Aa KD).mono (by simp)).trans CL;refine⟨o,M6,rfl,⟨_,M6,EY⟩,?_⟩;refine((Aa H9).kept.mono (N:=l::C) (λi F=>cF _ F)).trans' o (λi F=>?_);rcases bS.1 F with rfl|F
    .exact Or.inl (dg ..)
    .exact(((Aa H9).mem i F).1).imp (λh=>cF _ h) id
   clear EY CL HY;refine E7.one (i:=7) (by kernel_rfl) (by rfl) rfl (λK t=>?_)
   go_simp
   refine t.out _ _ (λh=>by cases h) ?_;clear t K;refine E7.done (by kernel_rfl) ?_ _
   try simp only[Act.put,bH,bI,bJ]
   refine Aa HO _ _ ?_;clear HO K3;refine ff rfl (wpIn_ret ?_);exact Aa HP
 case rdone=>
  intro D n j hD F hd bp;obtain⟨G,rfl,CC,AB⟩:=F.at_;rw[dm]at CC;have Z:C1 W.heap.size [D] j:=⟨by simp,λd I=>by rw[bO]at I;subst I;omega,λd I=>by rw[bO]at I;subst I;exact hd⟩;exact(Aa MN _ [D] j Z (Or.inl ⟨G,CC⟩)).2
 case rstop=>
  intro D c B n j hD P hd;obtain rfl:=P.ret;obtain⟨VL,G,W3⟩:=P.at_;have Z:C1 W.heap.size [D] j:=⟨by simp,λd I=>by rw[bO]at I;subst I;omega,λd I=>by rw[bO]at I;subst I;exact hd⟩;refine wp_ret ?_;exact(Aa MN _ [D] j Z (Or.inr ⟨VL,G,W3⟩)).1
