import Derived.Test.YtoihbhenbmffcaaGreatDoorTAT
set_option linter.all false
set_option maxHeartbeats 0
open List renaming length->Z,replicate->qV
open Option renaming none->Y,some->V
open Go.Value renaming slice->U,int->X,string->O,pointer->j3
open Go.IntKind renaming i64->J,i32->q7
open Go.Obj renaming cells->j1
open Go.Ending renaming returned->kt
open Or renaming inl->lo,inr->lx
open Go renaming World->ly,Value->ml
open Go.World renaming cell?->oa,ownsRow->oi
open Go.Act renaming put->qY
namespace Go.Proofs.YtoihbhenbmffcaaGreatDoor
open Go.RowKit Go.Proofs.Tryz
variable{y:rc ml}{n:Nat}
theorem Tryz.yd:(Tryz.prog.info? 172).map (λi=>(i.zero,i.size,i.bytes))=V (V (.agg #[X q7 0,O ⟨#[]⟩]),2,24):=by kernel_rfl
def JK(b:rc zA)(v:UInt8):rc ml:=[X q7 (v.toNat:Int),O (N8 b v)]
def Uo(b:rc zA)(v:UInt8):Z (JK b v)=2:=rfl
def gB(h:2*n+1<Z y)(a c:ml):((y.set (2*n) a).set (2*n+1) c).take (2*(n+1))=y.take (2*n)++[a,c]:=by
 apply List.ext_getElem?;intro i;rw[oD];by_cases b:i<2*n
 .rw[mK (by omega),nJ (by omega),nJ (by omega),List.getElem?_append_left (by simp;omega),oD,mK b]
 .have d:Z (y.take (2*n))=2*n:=by simp;omega
  rw[px (by omega),d];by_cases e:i=2*n
  .subst e;rw[mK (by omega),nJ (by omega),od (by omega),Nat.sub_self];rfl
  .by_cases f:i=2*n+1
   .subst f;rw[mK (by omega),od (by simp;omega),show 2*n+1-2*n=1 by omega];rfl
   .rw[mJ (by omega),List.getElem?_eq_none (by simp;omega)]
set_option maxRecDepth 100000
theorem YV(n:Nat)(b:rc zA)(G:Option Addr)(T:Nat)(a:rc UInt8)(w:ly)(hb:Z b=26)(hB:AI w n (Am b) 243)(S:oi w 0 21 1 (U G (Z (Dd a)) T) (Z (Dd a)) ((Dd a).flatMap AX))(EY:Z a<=1000)(B:∀v∈a,EP v):
  Calls prog 142 #[j3 (V ⟨n,0,Y⟩),U G (Z a) T] w λr m=>∃g,r=kt (U (V ⟨g,0,Y⟩) (Z a) (Z a))/\oi m w.heap.size 172 2 (U (V ⟨g,0,Y⟩) (Z a) (Z a)) (Z a) (a.flatMap (JK b))/\Ac [] w m:=by
 obtain⟨i0,EK,AT,BA,B0⟩:=nC Tryz.yd;have HT:Hid (∀v∈a,∀c,Ac [] w c->Calls prog 180 #[j3 (V ⟨n,0,Y⟩),.agg #[.int q7 (v.toNat:Int),O ⟨#[]⟩]] c λr m=>r=kt (O (N8 b v))/\Ac [] c m):=by
  intro v I c H;have h:=Rw n 243 b v.toNat ByteArray.empty c hb (hB.kept H) (lx (B v I));have h0:v.toNat≠0:=by have:=(B v I).1;omega
  have e:gX b v.toNat ByteArray.empty=N8 b v:=by unfold gX N8;rw[mJ h0]
  rw[e]at h;exact h
 have DT:=Ab S;obtain⟨N,C⟩:=rd w.heap.size;have y:=Ab C;clear S B hB;have FA:∀c:ly,(Instr.makeSlice 169 (.int J (Z a:Int)) (.int J (Z a:Int))).run prog c=.ok (U (V ⟨c.heap.size,0,Y⟩) (Z a) (Z a)) (c.alloc (j1 (madeCells #[.int q7 0,O ⟨#[]⟩] (Z a*2)) 172)):=by
  intro c;have W:=run_make (P:=prog) c 169 172 i0 _ underlying169 EK AT J J (Z a) (Z a) (by omega) (Int.le_refl _) (by rw[B0];omega) (by omega);simp only[Int.toNat_natCast,BA]at W;exact W
 go_enter func142,ntmps142;go_wp2;have f:Hid (∃L:rc ml,Z L=2*Z a/\L.take (2*0)=(a.take 0).flatMap (JK b)/\oi (w.alloc (j1 (madeCells #[.int q7 0,O ⟨#[]⟩] (Z a*2)) 172)) N 172 2 (U (V ⟨N,0,Y⟩) (Z a) (Z a)) (Z a) L):=by
  have h:=qo (e:=172) (size:=2) (base:=N) w (madeCells #[.int q7 0,O ⟨#[]⟩] (Z a*2)) (Z a) (by omega) (by unfold maxLen;omega) (by rw[size_madeCells]);rw[C]at h;exact⟨_,by rw[Array.length_toList,size_madeCells];omega,by simp,h⟩
 have z:=Ab ((re [] w).alloc (j1 (madeCells #[.int q7 0,O ⟨#[]⟩] (Z a*2)) 172));clear C;generalize w.alloc (j1 (madeCells #[.int q7 0,O ⟨#[]⟩] (Z a*2)) 172)=w2 at f z⊢
 go_loopg [13] (Z a) (λgk i wr=>∃(k:Nat),i=.int J k/\k<=Z a/\gk=Z a-k/\Hid (∃L:rc ml,Z L=2*Z a/\L.take (2*k)=(a.take k).flatMap (JK b)/\oi wr N 172 2 (U (V ⟨N,0,Y⟩) (Z a) (Z a)) (Z a) L)/\Hid (Ac [] w wr))
 case atStart=>exact⟨0,rfl,by omega,rfl,f,z⟩
 case round=>
  clear f z;obtain⟨k,rfl,H,M,f,l⟩:=hrel;have HG:=Ab M;clear M;by_cases q:k<Z a
  ·(have D:k<Z (Dd a):=by rw[GX];exact q);obtain⟨g,EX,he,x⟩:=Sf (Ad (Aa DT) (Aa l)) k D;simp only[mu]at he;obtain⟨rfl,_,rfl⟩:=he;(have e:(Dd a)[k]=(a[k].toNat:Int):=by simp[Dd]);rw[e]at x;obtain⟨d,o⟩:=rd (a[k]);rw[o]at x;have u:=Ab (Aa HT d (by rw[<-o];exact mw q) wr (Aa l));(have E0:(0:Int)<=(k:Int):=by omega);(have FB:(k:Int)<(Z a:Int):=by omega);have F:Hid ((a.take (k+1)).flatMap (JK b)=(a.take k).flatMap (JK b)++[.int q7 (d.toNat:Int),O (N8 b d)]):=by
    show _=_;rw[mx q,mY,o];rfl
   generalize N8 b d=X at u F;clear e o D;(go_wp2_with fail);refine(Aa u).mono ?_;rintro _ w3 ⟨rfl,t⟩;have AB:=Ab ((Aa l).trans t);obtain⟨L,Q,AO,R⟩:=Aa f;have j:=Ad R t;have A:=j.cellAt (2*k) (by omega);have s:=j.cellAt (2*k+1) (by omega);have B2:=j.frozenAt (2*k);have CW:=j.frozenAt (2*k+1);rw[Nat.mul_comm]at A s B2 CW;rw[mG (by omega)]at A s;generalize L[k*2]=U0 at A;generalize L[k*2+1]=U1 at s;have CL:Hid (∃L:rc ml,Z L=2*Z a/\L.take (2*(k+1))=(a.take (k+1)).flatMap (JK b)/\oi ((w3.setCell ⟨N,k*2,Y⟩ (.int q7 (d.toNat:Int))).setCell ⟨N,k*2+1,Y⟩ (O X)) N 172 2 (U (V ⟨N,0,Y⟩) (Z a) (Z a)) (Z a) L):=by
    refine⟨(L.set (2*k) (.int q7 (d.toNat:Int))).set (2*k+1) (O X),by simp[Q],?_,?_⟩
    .rw[gB (by omega),Aa F,AO]
    .rw[Nat.mul_comm k 2];exact BN (BN j (2*k) _) (2*k+1) _
   have Bx:=Ab (((Aa AB).setCell (p:=⟨N,k*2,Y⟩) (lx (by have:=Aa y;show _<=N;omega)) (.int q7 (d.toNat:Int))).setCell (p:=⟨N,k*2+1,Y⟩) (lx (by have:=Aa y;show _<=N;omega)) (O X));clear u l AB t j x f Q AO R;go_wp2
   go_roundg (Z a-(k+1))
   case measure=>have:=Aa HG;omega
   case rel=>exact⟨k+1,by go_num,by omega,rfl,CL,Bx⟩
  ·(have BS:k=Z a:=by omega);subst BS;have CC:Hid (oi wr N 172 2 (U (V ⟨N,0,Y⟩) (Z a) (Z a)) (Z a) (a.flatMap (JK b))):=by
    obtain⟨L,h1,E,h3⟩:=Aa f;rw[mz (by omega),mz (mP _)]at E;rw[<-E];exact h3
   clear f;go_wp2;go_ret;exact⟨N,rfl,by rw[Aa y];exact Aa CC,Aa l⟩
structure jM(w0:ly)(M1:rc Nat)(sp b1:Nat)(M:rc Nat)(w:ly):Prop where
 kept:Ac M1 w0 w
 s:AI w b1 [j3 (V ⟨sp,0,Y⟩)] 233
 apart:∀k∈M,(k∈M1\/w0.heap.size<=k)/\k≠b1/\k<w.heap.size
def lP(vs:rc UInt8)(x:rc zA)(a:Array ml)(W:ly):Prop:=
 ∃g,a=#[U (V ⟨g,0,Y⟩) (Z vs) (Z vs)]/\oi W 0 172 2 (U (V ⟨g,0,Y⟩) (Z vs) (Z vs)) (Z vs) (vs.flatMap (JK (Br x)))
theorem gA(p:Nat)(BT:rc Bw)(s:rc Af)(m:rc UInt8)(I:ly)(L:rc Nat)(hS:∀f,Ac L I f->eR f p BT s m)(E:Nat)(w:ly)(C:rc Nat)(hB:jM I L p E C w):
  jP prog 140 #[j3 (V ⟨E,0,Y⟩)] (lP m) (Aw (JN BT s) BT s m Bl) C w:=by
 intro l AR Jx W HE K9 MY hJ IJ hR K5;have HQ:jM I L p E C W:=⟨hB.kept.trans (HE.mono (by simp)),hB.s.kept HE,λk o=>⟨(hB.apart k o).1,(hB.apart k o).2.1,oz (hB.apart k o).2.2 HE.size⟩⟩;obtain⟨XS,HA⟩:=rd (Aw (JN BT s) BT s m Bl);have Wa:Hid (∀f,Ac L I f->eR f p BT s m):=hS;have HW:=hS _ HQ.kept;have T0:=HW.yH;have NS:Hid (∀d1 R d3 d4 f M,VP I L p d1 R d3 d4 0 (Z m) Bl M f->Lq prog 176 #[j3 (V ⟨d1,0,Y⟩),j3 (V ⟨R,0,Y⟩),j3 (V ⟨d3,0,Y⟩),j3 (V ⟨d4,0,Y⟩)] (λx=>#[.agg (Am (Br x)).toArray]) XS M f):=λd1 R d3 d4 f M hb=>by
  rw[<-HA];exact MM p BT s m I L hS (Z m) (mP _) m 0 Bl d1 R d3 d4 f M DF.start (mO _) (by rw[nR,pF]) hb
 have HI:Hid (∀x∈XS,Z x=26):=by
  intro x S;rw[<-HA]at S;exact G5 m Bl rfl x S
 have HO:Hid (∀f,Ac L I f->∃(A1:Option Addr) (A0:Nat),oa f ⟨p,2,Y⟩=V (U A1 (Z m) A0)/\oi f 0 21 1 (U A1 (Z (Dd m)) A0) (Z (Dd m)) ((Dd m).flatMap AX)):=by
  intro f o;obtain⟨kb,ko,W1,VR,VS,A1,A0,ab,X0,fs,h1,_,_,h4,_⟩:=(hS f o).at_;have h2:=h1.zO.cell 2;simp[GX]at h2;exact⟨A1,A0,h2,h4⟩
 have P0:Hid (∀v∈m,EP v):=HW.ok;rw[HA]at hR⊢;have PT:=Ab hR;have HJ:=Ab hJ;have TS:=Ab IJ;have K4:=Ab K5;have HB:=Ab HQ;have RB:Hid (I.heap.size<=l/\l<W.heap.size):=⟨nD hB.kept.size K9,MY⟩;obtain⟨QQ,HM⟩:=rd (Lj (bodyPostM Fence.wide 0 prog Tryz.f140 λe j=>(∃v,e=kt v)/\((∃n,AR XS n j)\/(∃B n,Jx B n j))));have W3:Hid (∀c a w,¬QQ (.panic c) a w):=by
  intro c a w h;rw[<-HM]at h;exact h
 have LC:Hid (∀(HG:Array ml) (ds:rc Nat) (f:ly),DC W.heap.size ds f->((∃n,AR XS n f)\/(∃B n,Jx B n f))->QQ .ret ⟨HG,ds.map EU⟩ f/\QQ .normal ⟨HG,ds.map EU⟩ f):=by
  intro HG ds f hm hp;rw[<-HM];have N2:LeavesInM Fence.wide 0 prog Tryz.f140 HG (λe j=>(∃v,e=kt v)/\((∃n,AR XS n j)\/(∃B n,Jx B n j))) (ds.map EU) .returning f:=by
   refine Dg ds f hm (λQ hs=>⟨_,qe rfl _ _ _,⟨_,rfl⟩,?_⟩);rcases hp with⟨n,h⟩|⟨B,n,h⟩
   .exact lo ⟨n,hs.own hJ (s:=(XS,n)) hm h⟩
   .exact lx ⟨B,n,hs.own IJ (s:=(B,n)) hm h⟩
  exact⟨N2,N2⟩
 have CL:=Ab ((re [] W).alloc (j1 #[.func (.yield l) #[] #[]] 238));have FP:=Ab (rf W [.func (.yield l) #[] #[]] 238);have NV:Hid (∀f,Calls prog 141 #[j3 (V ⟨p,0,Y⟩),X J 0,X J (Z m),.agg (qV 26 (O ⟨#[]⟩)).toArray] f λr Q=>∃E b2 b3 b4,r=kt (.func (.func 176) #[] #[j3 (V ⟨E,0,Y⟩),j3 (V ⟨b2,0,Y⟩),j3 (V ⟨b3,0,Y⟩),j3 (V ⟨b4,0,Y⟩)])/\
   AI Q E [j3 (V ⟨p,0,Y⟩)] 233/\AI Q b2 (Am (Br Bl)) 243/\AI Q b3 [X J ((0:Nat):Int)] 3/\AI Q b4 [X J (Z m)] 3/\(f.heap.size<=E/\f.heap.size<=b2/\f.heap.size<=b3/\f.heap.size<=b4)/\Ac [] f Q):=λf=>by
  have h:=Jh p 0 (Z m) (Am (Br Bl)) f (Bs _) (Fk Bl rfl).1;rw[LR]at h⊢;exact h
 show Calls prog 140 #[.func (.yield l) #[] #[],j3 (V ⟨E,0,Y⟩)] W _;refine En func140 rfl (GP ?_);rw[HM];clear HM hB HQ hR hJ K5 IJ HA HE K9 MY hS HW;simp only[ntmps140,nQ,mL,m8,Nat.reduceAdd,Nat.reduceSub,pd,pg,pD,pm,nM,ot];refine ra (λK1 FB=>?_);go_wp2;refine Aa FB _ _ ?_;clear FB K1;change Code.wp _ _ _ _ (W.alloc (j1 [.func (.yield l) #[] #[]].toArray 238));generalize hw1:W.alloc (j1 [.func (.yield l) #[] #[]].toArray 238)=w1 at CL FP⊢;clear hw1;obtain⟨N,hN⟩:=rd W.heap.size;have HN:=Ab hN;rw[hN]at FP⊢;clear hN;have NN:Hid (∀f,Ac [] w1 f->Ac L I f):=λf o=>(Aa HB).kept.trans (((Aa CL).trans o).mono (by simp))
 obtain⟨A1,A0,o2,_⟩:=Aa HO w1 (Aa NN w1 (re _ _));have c1:=((Aa HB).s.kept (Aa CL)).cell 0;simp at c1;have B2:Hid (∀f,Ac [] w1 f->oa f ⟨E,0,Y⟩=V (j3 (V ⟨p,0,Y⟩))/\oa f ⟨p,2,Y⟩=V (U A1 (Z m) A0)):=λf o=>⟨o.cellAt c1,o.cellAt o2⟩
 refine ra (λK1 FB=>?_)
 go_region_held3 (λf=>Ac [] w1 f/\oa f ⟨E,0,Y⟩=V (j3 (V ⟨p,0,Y⟩))/\oa f ⟨p,2,Y⟩=V (U A1 (Z m) A0)) ((go_split_ands;refine(fun(N0:Ac [] w1 _)=>And.intro N0 (Aa B2 _ N0)) ?_;repeat (first|assumption|exact re [] _|refine Ac.drew ?_|refine Ac.alloc ?_ _))) ((go_at_call 141;refine(Aa NV _).mono ?_;rintro e A ⟨d1,R,d3,d4,rfl,n1,n2,n3,n4,MN,k5⟩;have M2:Ac [] w1 A:=(by go_split_ands;exact Ac.trans (by assumption) k5);have TX:=k5.size;have OH:Hid (AI A d1 [j3 (V ⟨p,0,Y⟩)] 233/\AI A R (Am (Br Bl)) 243/\AI A d3 [X J ((0:Nat):Int)] 3/\AI A d4 [X J (Z m)] 3/\(w1.heap.size<=d1/\w1.heap.size<=R/\w1.heap.size<=d3/\w1.heap.size<=d4)):=⟨n1,n2,n3,n4,by have h1:w1.heap.size<=_:=(by go_split_ands;exact Ac.size (by assumption));obtain⟨g1,g2,g3,g4⟩:=MN;exact⟨nD h1 g1,nD h1 g2,nD h1 g3,nD h1 g4⟩⟩;have FC:=Ab M2;clear n1 n2 n3 n4 MN k5 M2))
 rename_i TL;clear TL TX;refine Aa FB _ _ ?_;clear FB K1 NV c1 o2 B2;have VL:=Ab (Aa CL).size;have ST:=Ab (Aa FC).size;have H1:Hid (Ac [] W A):=(Aa CL).trans (Aa FC);have TH:=Ab ((Aa FP).kept (Aa FC));have U1:Hid (AR [] C A):=BD (Aa HJ) (s:=([],C)) (Aa K4) (Aa H1);have LE:Hid (Ac L I A):=Aa NN A (Aa FC);have Nd:W.heap.size<=A.heap.size:=(Aa H1).size;have CC:Hid (∀k∈C,(k∈L\/I.heap.size<=k)/\k≠E/\k<W.heap.size):=(Aa HB).apart;have WB:N<w1.heap.size:=(Aa FP).lt;have H9:=Aa RB;have SJ:=Aa NS d1 R d3 d4 A (l::C) (by
  obtain⟨n1,n2,n3,n4,g1,g2,g3,g4⟩:=Aa OH
  refine⟨Aa LE,n1,n2,n3,n4,λq z=>?_⟩
  have h0:=(Aa HB).kept.size
  have hn:=Aa HN
  have h5:=Aa ST
  rcases mA.1 z with rfl|z
  .have h6:=Aa VL
   exact⟨lx H9.1,by omega,by omega,by omega,by omega,by omega⟩
  .obtain⟨a1,a2,a3⟩:=Aa CC q z
   exact⟨a1,by omega,by omega,by omega,by omega,by omega⟩)
 clear NS OH FP CL FC K4;refine wp_block ?_;refine Iv (T:=243) (q:=3) rfl (enters_of func176 (by kernel_rfl) rfl) SJ (λq z=>by
  rcases mA.1 z with rfl|z
  .omega
  .have:=(Aa CC q z).2.2;omega) (XY AR l [] C A) (λc _ _ j=>Yc Jx l C A c j) (XY.own (Aa HJ) Nd) (λc=>Yc.own (Aa TS) Nd c) ⟨C,rfl,Aa U1,re _ _,λq z=>⟨lo z,by have:=(Aa CC q z).2.2;omega⟩⟩ ?rassign ?rbody ?rdone ?rstop
 case rassign=>
  intro l' x j G S HK;have Ha:Z (Am (Br x))=26:=by unfold Am Br;rw[mI,mI];exact Aa HI x S
  have Nq:Hid (∀u∈Am (Br x),u.oneCell'=true):=by
   intro u hu;unfold Am at hu;obtain⟨y,_,rfl⟩:=mD.1 hu;rfl
  obtain⟨EX,NA⟩:=rd (Am (Br x));rw[NA]at Ha Nq HK⊢;have HI:=Ab Ha;have M3:Hid (EX.toArray.size=26):=by show _=_;simp[Ha]
  clear S NA Ha;simp only[mq,mr,mt]at HK⊢;refine AN (by rfl) (Hj Ga) ?_;go_wp2_with ((with_reducible show wpList _ _ _ ({dst:=_,op:=Op.store 243 _ _,type:=_,pos:=_,after:=_,guard:=_}::_) _ _);refine oR rfl 243 _ _ rfl j.heap.size 0 EX.toArray (by rfl) (by rfl) ?_ ?_ ?_ ?_)
  .have h:=(rf j (qV 26 (O ⟨#[]⟩)) 243).there;simp only[oO]at h;rw[Aa M3];exact h
  .rw[Aa M3];exact Tryz.zI
  .exact oe (Aa Nq)
  .refine Aa HK _ (((re [] j).alloc (j1 (qV 26 (O ⟨#[]⟩)).toArray 243)).zK (b:=j.heap.size) (lx (mP _)) EX 0) ?_;exact(rf j (qV 26 (O ⟨#[]⟩)) 243).zQ EX (by rw[Aa HI];simp)
 case rbody=>
  intro l' Bx B x SS n j IA F RO X3 LM;obtain⟨H,rfl,CW,BS⟩:=F.at_;rw[nM]at CW;have RT:=Aa HI x (by rw[IA];simp);have K7:Hid (∀f,Ac [] j f->Ac L I f):=λf o=>((Aa LE).trans' BS.kept (λi F=>(Aa CC i F).1)).trans (o.mono (by simp))
  have NL:AI j N [.func (.yield l) #[] #[]] 238:=(Aa TH).kept BS.kept (λh=>by have h1:=(Aa CC N h).2.2;have h2:=Aa HN;omega);have K8:AI j E [j3 (V ⟨p,0,Y⟩)] 233:=((Aa HB).s.kept (Aa H1)).kept BS.kept (λh=>(Aa CC E h).2.1 rfl);have cy:=NL.cell 0;have cb:=K8.cell 0;simp at cy cb;obtain⟨HZ,HU,o6,_⟩:=Aa HO j (Aa K7 j (re _ _));have B2:Hid (∀f,Ac [] j f->oa f ⟨N,0,Y⟩=V (.func (.yield l) #[] #[])/\oa f ⟨E,0,Y⟩=V (j3 (V ⟨p,0,Y⟩))/\oa f ⟨p,2,Y⟩=V (U HZ (Z m) HU)):=λf o=>⟨o.cellAt cy,o.cellAt cb,o.cellAt o6⟩
  have NM:Hid (Calls prog 142 #[j3 (V ⟨Bx,0,Y⟩),U HZ (Z m) HU] j.drew λr Q=>∃g,r=kt (U (V ⟨g,0,Y⟩) (Z m) (Z m))/\oi Q j.drew.heap.size 172 2 (U (V ⟨g,0,Y⟩) (Z m) (Z m)) (Z m) (m.flatMap (JK (Br x)))/\Ac [] j.drew Q):=by
   obtain⟨RI,TV,o7,Go⟩:=Aa HO j.drew (Aa K7 _ (re [] j).drew);have o8:=(Aa B2 _ (re [] j).drew).2.2;rw[o7]at o8;simp only[mB,mu]at o8;obtain⟨rfl,_,rfl⟩:=o8;exact YV Bx (Br x) RI TV m j.drew (by unfold Br;rw[mI];exact RT) (LM.kept (re [] j).drew) Go T0 (Aa P0)
  have LS:Hid (∀g f,Ac [] j f->oi f 0 172 2 (U (V ⟨g,0,Y⟩) (Z m) (Z m)) (Z m) (m.flatMap (JK (Br x)))->YieldAt Fence.wide 0 prog l #[U (V ⟨g,0,Y⟩) (Z m) (Z m)] f λe j=>
    (e=kt (.bool true)/\∃n,AR (B++[x]) n j/\Ac H f j/\∀k∈n,(k∈H\/f.heap.size<=k)/\k<j.heap.size)\/(e=kt (.bool false)/\∃n,Jx (B++[x]) n j/\Ac (l::H) f j)):=λg f o hr=>Aa PT B x SS H f _ IA (BD (Aa HJ) (s:=(B,H)) CW o) ⟨g,rfl,hr⟩
  have H5:=Ab BS;have WS:l<j.heap.size:=by have:=BS.kept.size;omega
  clear F LM NL K8 CW BS RO IA cy cb o6;simp only[mq,mr,mt];refine wpIn_block ?_;refine ol (λK3 L0=>?_);have HH:=Ab L0;clear L0;have B0:=Ab (Aa B2 j.drew (re [] j).drew);refine QV 6 (λf=>oa f ⟨N,0,Y⟩=V (.func (.yield l) #[] #[])/\oa f ⟨E,0,Y⟩=V (j3 (V ⟨p,0,Y⟩))/\oa f ⟨p,2,Y⟩=V (U HZ (Z m) HU)) (by kernel_rfl) (by rfl) (by rintro ⟨_,_,h⟩;exact h) ?_;refine Gp.take (i:=0) (v:=.func (.yield l) #[] #[]) rfl (by kernel_rfl) (λ_ _ _ h=>h) (Aa B0) (lo ⟨by rfl,?_⟩) ?_
  ·(intro f SB;obtain⟨z0,z1,z2⟩:=SB;go_simp)
  simp only[qY,mq,mr,mt];obtain⟨z0,z1,z2⟩:=Aa B0;refine Gp.one (i:=1) (by kernel_rfl) (by rfl) rfl (λG t=>?_)
  go_simp
  refine t.out _ _ (λ_=>Aa B0) ?_;clear t G
  try simp only[qY,mq,mr,mt]
  refine Gp.one (i:=2) (by kernel_rfl) (by rfl) rfl (λG t=>?_)
  go_simp
  refine t.out _ _ (λ_=>Aa B0) ?_;clear t G
  try simp only[qY,mq,mr,mt]
  refine Gp.one (i:=3) (by kernel_rfl) (by rfl) rfl (λG t=>?_)
  go_simp
  refine t.out _ _ (λ_=>Aa B0) ?_;clear t G
  try simp only[qY,mq,mr,mt]
  refine Gp.one (i:=4) (by kernel_rfl) (by rfl) rfl (λG t=>?_)
  go_simp
  refine t.out _ _ (λ_=>Aa B0) ?_;clear t G
  try simp only[qY,mq,mr,mt]
  refine Gp.one (i:=5) (by kernel_rfl) (by rfl) rfl (λG t=>?_)
  go_simp
  refine(Aa NM).mono ?_;rintro _ w7 ⟨g,rfl,Go,k7⟩;have FW:Ac [] j w7:=(re [] j).drew.trans k7;refine t.out _ _ (λ_=>Aa B2 w7 FW) ?_;clear t G z0 z1 z2
  try simp only[qY,mq,mr,mt]
  have HY:=Ab (Aa LS g w7 FW (Ak Go (mO _)));have Ix:=Ab FW;clear Go k7 FW NM LS B0 B2;refine Gp.yield (by kernel_rfl) rfl (q:=l) (args:=#[U (V ⟨g,0,Y⟩) (Z m) (Z m)]) (by rfl) (by first|(simp[go_sem,Oper.semAt];done)|(simp[go_sem,Oper.semAt,execOp,resolve,invoke];done)) (Aa HY) ?_;rintro r w8 (⟨rfl,M6,ES,DT,FA⟩|⟨rfl,M6,ES,DT⟩)
  .refine⟨_,rfl,?_⟩
   try simp only[qY,mq,mr,mt]
   have HP:Hid (Mw (XY AR l [] C A) (λc _ _ j=>Yc Jx l C A c j) (B++[x]) (l::H) j .normal ⟨#[],[]⟩ w8):=by
    have h7:=(Aa Ix).size;(have H9:l<w8.heap.size:=by have:=DT.size;omega);have o:Ac H j w8:=((Aa Ix).mono (by simp)).trans DT;refine⟨o.mono (λi F=>no _ F),l::M6,⟨M6,rfl,by rw[nM];exact ES,(Aa H5).step o (λq z=>⟨((FA q z).1).imp id (λh=>by omega),(FA q z).2⟩)⟩,λq z=>?_⟩;rcases mA.1 z with rfl|z
    .exact⟨lo (nK ..),H9⟩
    .refine⟨?_,(FA q z).2⟩;rcases(FA q z).1 with h|h
     .exact lo (no _ h)
     .exact lx (by omega)
   clear ES DT FA HY;refine Gp.one (i:=7) (by kernel_rfl) (by rfl) rfl (λG t=>?_)
   go_simp
   refine t.out _ _ (λh=>by cases h) ?_;clear t G;refine Gp.done (by kernel_rfl) ?_ _
   try simp only[qY,mq,mr,mt]
   refine Aa HH _ _ ?_;clear HH K3;refine pJ rfl (wpIn_skip ?_);exact Aa HP
  .refine⟨_,rfl,?_⟩
   try simp only[qY,mq,mr,mt]
   have HP:Hid (Mw (XY AR l [] C A) (λc _ _ j=>Yc Jx l C A c j) (B++[x]) (l::H) j .ret ⟨#[],[]⟩ w8):=by
    have o:Ac (l::H) j w8:=((Aa Ix).mono (by simp)).trans DT;refine⟨o,M6,rfl,⟨_,M6,ES⟩,?_⟩;refine((Aa H5).kept.mono (N:=l::C) (λi F=>no _ F)).trans' o (λi F=>?_);rcases mA.1 F with rfl|F
    .exact lo (nK ..)
    .exact(((Aa H5).mem i F).1).imp (λh=>no _ h) id
   clear ES DT HY;refine Gp.one (i:=7) (by kernel_rfl) (by rfl) rfl (λG t=>?_)
   go_simp
   refine t.out _ _ (λh=>by cases h) ?_;clear t G;refine Gp.done (by kernel_rfl) ?_ _
   try simp only[qY,mq,mr,mt]
   refine Aa HH _ _ ?_;clear HH K3;refine pO rfl (wpIn_ret ?_);exact Aa HP
 case rdone=>
  intro D n j hD F hd ad;obtain⟨H,rfl,CW,BS⟩:=F.at_;rw[nM]at CW;have hm:DC W.heap.size [D] j:=⟨by simp,λd P=>by rw[my]at P;subst P;omega,λd P=>by rw[my]at P;subst P;exact hd⟩;exact(Aa LC _ [D] j hm (lo ⟨H,CW⟩)).2
 case rstop=>
  intro D c B n j hD S hd;obtain rfl:=S.ret;obtain⟨SL,H,TT⟩:=S.at_;have hm:DC W.heap.size [D] j:=⟨by simp,λd P=>by rw[my]at P;subst P;omega,λd P=>by rw[my]at P;subst P;exact hd⟩;refine wp_ret ?_;exact(Aa LC _ [D] j hm (lx ⟨SL,H,TT⟩)).1
