import Derived.Test.YtoihbhenbmffcaaGreatDoorVAW
set_option linter.all false
set_option maxHeartbeats 0
open List renaming length->Z,replicate->NP
open Option renaming none->Y,some->V
open Go.Value renaming slice->U,int->X,string->O,pointer->Gi
open Go.IntKind renaming i64->J,i32->M8
open Go.Obj renaming cells->Dj
open Go.Ending renaming returned->G3
open Or renaming inl->Hd,inr->Hf
open Go renaming World->Hq,Value->Hs
open Go.World renaming cell?->Lc,ownsRow->Mi
open Go.Act renaming put->OD
namespace Go.Proofs.YtoihbhenbmffcaaGreatDoor
open Go.RowKit Go.Proofs.Tryz
variable{y:QC Hs}{n:Nat}
theorem Tryz.zr:(Tryz.prog.info? 172).map (λi=>(i.zero,i.size,i.bytes))=V (V (.agg #[X M8 0,O ⟨#[]⟩]),2,24):=by kernel_rfl
def Jf(b:QC bC)(v:UInt8):QC Hs:=[X M8 (v.toNat:Int),O (Nc b v)]
def TT(b:QC bC)(v:UInt8):Z (Jf b v)=2:=rfl
def fE(h:2*n+1<Z y)(a c:Hs):((y.set (2*n) a).set (2*n+1) c).take (2*(n+1))=y.take (2*n)++[a,c]:=by
 apply List.ext_getElem?;intro i;rw[nI];by_cases b:i<2*n
 .rw[lS (by omega),mK (by omega),mK (by omega),List.getElem?_append_left (by simp;omega),nI,lS b]
 .have d:Z (y.take (2*n))=2*n:=by simp;omega
  rw[ow (by omega),d];by_cases e:i=2*n
  .subst e;rw[lS (by omega),mK (by omega),m5 (by omega),Nat.sub_self];rfl
  .by_cases f:i=2*n+1
   .subst f;rw[lS (by omega),m5 (by simp;omega),show 2*n+1-2*n=1 by omega];rfl
   .rw[lO (by omega),List.getElem?_eq_none (by simp;omega)]
set_option maxRecDepth 100000
theorem Yr(n:Nat)(b:QC bC)(G:Option Addr)(T:Nat)(a:QC UInt8)(w:Hq)(hb:Z b=26)(hB:AI w n (Aj b) 243)(S:Mi w 0 21 1 (U G (Z (C7 a)) T) (Z (C7 a)) ((C7 a).flatMap AW))(EY:Z a<=1000)(B:∀v∈a,EH v):
  Calls prog 142 #[Gi (V ⟨n,0,Y⟩),U G (Z a) T] w λr m=>∃g,r=G3 (U (V ⟨g,0,Y⟩) (Z a) (Z a))/\Mi m w.heap.size 172 2 (U (V ⟨g,0,Y⟩) (Z a) (Z a)) (Z a) (a.flatMap (Jf b))/\Ac [] w m:=by
 obtain⟨i0,EK,AT,BA,BT⟩:=mH Tryz.zr;have HT:Hid (∀v∈a,∀c,Ac [] w c->Calls prog 180 #[Gi (V ⟨n,0,Y⟩),.agg #[.int M8 (v.toNat:Int),O ⟨#[]⟩]] c λr m=>r=G3 (O (Nc b v))/\Ac [] c m):=by
  intro v I c H;have h:=QS n 243 b v.toNat ByteArray.empty c hb (hB.kept H) (Hf (B v I));have h0:v.toNat≠0:=by have:=(B v I).1;omega
  have e:gd b v.toNat ByteArray.empty=Nc b v:=by unfold gd Nc;rw[lO h0]
  rw[e]at h;exact h
 have DT:=Ab S;obtain⟨N,C⟩:=QP w.heap.size;have y:=Ab C;clear S B hB;have FA:∀c:Hq,(Instr.makeSlice 169 (.int J (Z a:Int)) (.int J (Z a:Int))).run prog c=.ok (U (V ⟨c.heap.size,0,Y⟩) (Z a) (Z a)) (c.alloc (Dj (madeCells #[.int M8 0,O ⟨#[]⟩] (Z a*2)) 172)):=by
  intro c;have W:=run_make (P:=prog) c 169 172 i0 _ underlying169 EK AT J J (Z a) (Z a) (by omega) (Int.le_refl _) (by rw[BT];omega) (by omega);simp only[Int.toNat_natCast,BA]at W;exact W
 go_enter func142,ntmps142;go_wp2;have f:Hid (∃L:QC Hs,Z L=2*Z a/\L.take (2*0)=(a.take 0).flatMap (Jf b)/\Mi (w.alloc (Dj (madeCells #[.int M8 0,O ⟨#[]⟩] (Z a*2)) 172)) N 172 2 (U (V ⟨N,0,Y⟩) (Z a) (Z a)) (Z a) L):=by
  have h:=pm (e:=172) (size:=2) (base:=N) w (madeCells #[.int M8 0,O ⟨#[]⟩] (Z a*2)) (Z a) (by omega) (by unfold maxLen;omega) (by rw[size_madeCells]);rw[C]at h;exact⟨_,by rw[Array.length_toList,size_madeCells];omega,by simp,h⟩
 have z:=Ab ((SF [] w).alloc (Dj (madeCells #[.int M8 0,O ⟨#[]⟩] (Z a*2)) 172));clear C;generalize w.alloc (Dj (madeCells #[.int M8 0,O ⟨#[]⟩] (Z a*2)) 172)=w2 at f z⊢
 go_loopg [13] (Z a) (λgk i wr=>∃(k:Nat),i=.int J k/\k<=Z a/\gk=Z a-k/\Hid (∃L:QC Hs,Z L=2*Z a/\L.take (2*k)=(a.take k).flatMap (Jf b)/\Mi wr N 172 2 (U (V ⟨N,0,Y⟩) (Z a) (Z a)) (Z a) L)/\Hid (Ac [] w wr))
 case atStart=>exact⟨0,rfl,by omega,rfl,f,z⟩
 case round=>
  clear f z;obtain⟨k,rfl,H,M,f,l⟩:=hrel;have HG:=Ab M;clear M;by_cases q:k<Z a
  ·(have D:k<Z (C7 a):=by rw[GG];exact q);obtain⟨g,EX,he,x⟩:=Rz (Ad (Aa DT) (Aa l)) k D;simp only[lB]at he;obtain⟨rfl,_,rfl⟩:=he;(have e:(C7 a)[k]=(a[k].toNat:Int):=by simp[C7]);rw[e]at x;obtain⟨d,o⟩:=QP (a[k]);rw[o]at x;have u:=Ab (Aa HT d (by rw[<-o];exact lE q) wr (Aa l));(have E0:(0:Int)<=(k:Int):=by omega);(have FB:(k:Int)<(Z a:Int):=by omega);have F:Hid ((a.take (k+1)).flatMap (Jf b)=(a.take k).flatMap (Jf b)++[.int M8 (d.toNat:Int),O (Nc b d)]):=by
    show _=_;rw[lF q,mm,o];rfl
   generalize Nc b d=X at u F;clear e o D;(go_wp2_with fail);refine(Aa u).mono ?_;rintro _ w3 ⟨rfl,t⟩;have AB:=Ab ((Aa l).trans t);obtain⟨L,Q,AO,R⟩:=Aa f;have j:=Ad R t;have A:=j.cellAt (2*k) (by omega);have s:=j.cellAt (2*k+1) (by omega);have B0:=j.frozenAt (2*k);have CL:=j.frozenAt (2*k+1);rw[Nat.mul_comm]at A s B0 CL;rw[lN (by omega)]at A s;generalize L[k*2]=U0 at A;generalize L[k*2+1]=U1 at s;have CC:Hid (∃L:QC Hs,Z L=2*Z a/\L.take (2*(k+1))=(a.take (k+1)).flatMap (Jf b)/\Mi ((w3.setCell ⟨N,k*2,Y⟩ (.int M8 (d.toNat:Int))).setCell ⟨N,k*2+1,Y⟩ (O X)) N 172 2 (U (V ⟨N,0,Y⟩) (Z a) (Z a)) (Z a) L):=by
    refine⟨(L.set (2*k) (.int M8 (d.toNat:Int))).set (2*k+1) (O X),by simp[Q],?_,?_⟩
    .rw[fE (by omega),Aa F,AO]
    .rw[Nat.mul_comm k 2];exact BG (BG j (2*k) _) (2*k+1) _
   have Bx:=Ab (((Aa AB).setCell (p:=⟨N,k*2,Y⟩) (Hf (by have:=Aa y;show _<=N;omega)) (.int M8 (d.toNat:Int))).setCell (p:=⟨N,k*2+1,Y⟩) (Hf (by have:=Aa y;show _<=N;omega)) (O X));clear u l AB t j x f Q AO R;go_wp2
   go_roundg (Z a-(k+1))
   case measure=>have:=Aa HG;omega
   case rel=>exact⟨k+1,by go_num,by omega,rfl,CC,Bx⟩
  ·(have BB:k=Z a:=by omega);subst BB;have B9:Hid (Mi wr N 172 2 (U (V ⟨N,0,Y⟩) (Z a) (Z a)) (Z a) (a.flatMap (Jf b))):=by
    obtain⟨L,h1,E,h3⟩:=Aa f;rw[lH (by omega),lH (lX _)]at E;rw[<-E];exact h3
   clear f;go_wp2;go_ret;exact⟨N,rfl,by rw[Aa y];exact Aa B9,Aa l⟩
structure iW(w0:Hq)(M1:QC Nat)(sp b1:Nat)(M:QC Nat)(w:Hq):Prop where
 kept:Ac M1 w0 w
 s:AI w b1 [Gi (V ⟨sp,0,Y⟩)] 233
 apart:∀k∈M,(k∈M1\/w0.heap.size<=k)/\k≠b1/\k<w.heap.size
def kR(vs:QC UInt8)(x:QC bC)(a:Array Hs)(W:Hq):Prop:=
 ∃g,a=#[U (V ⟨g,0,Y⟩) (Z vs) (Z vs)]/\Mi W 0 172 2 (U (V ⟨g,0,Y⟩) (Z vs) (Z vs)) (Z vs) (vs.flatMap (Jf (Bq x)))
theorem fD(p:Nat)(BS:QC Bp)(s:QC Af)(m:QC UInt8)(I:Hq)(L:QC Nat)(hS:∀f,Ac L I f->eh f p BS s m)(E:Nat)(w:Hq)(C:QC Nat)(hB:iW I L p E C w):
  i7 prog 140 #[Gi (V ⟨E,0,Y⟩)] (kR m) (Av (Jd BS s) BS s m Bj) C w:=by
 intro l AR Jx W HE K9 M2 hJ IJ hR K5;have HQ:iW I L p E C W:=⟨hB.kept.trans (HE.mono (by simp)),hB.s.kept HE,λk o=>⟨(hB.apart k o).1,(hB.apart k o).2.1,nz (hB.apart k o).2.2 HE.size⟩⟩;obtain⟨XS,HA⟩:=QP (Av (Jd BS s) BS s m Bj);have Wa:Hid (∀f,Ac L I f->eh f p BS s m):=hS;have HW:=hS _ HQ.kept;have T0:=HW.zU;have NX:Hid (∀d1 R d3 d4 f M,Vd I L p d1 R d3 d4 0 (Z m) Bj M f->Lv prog 176 #[Gi (V ⟨d1,0,Y⟩),Gi (V ⟨R,0,Y⟩),Gi (V ⟨d3,0,Y⟩),Gi (V ⟨d4,0,Y⟩)] (λx=>#[.agg (Aj (Bq x)).toArray]) XS M f):=λd1 R d3 d4 f M hb=>by
  rw[<-HA];exact L4 p BS s m I L hS (Z m) (lX _) m 0 Bj d1 R d3 d4 f M Dr.start (lW _) (by rw[nM,pd]) hb
 have HI:Hid (∀x∈XS,Z x=26):=by
  intro x S;rw[<-HA]at S;exact GM m Bj rfl x S
 have HO:Hid (∀f,Ac L I f->∃(A1:Option Addr) (A0:Nat),Lc f ⟨p,2,Y⟩=V (U A1 (Z m) A0)/\Mi f 0 21 1 (U A1 (Z (C7 m)) A0) (Z (C7 m)) ((C7 m).flatMap AW)):=by
  intro f o;obtain⟨kb,ko,W1,VR,VS,A1,A0,ab,X0,fs,h1,_,_,h4,_⟩:=(hS f o).at_;have h2:=h1.dI.cell 2;simp[GG]at h2;exact⟨A1,A0,h2,h4⟩
 have QR:Hid (∀v∈m,EH v):=HW.ok;rw[HA]at hR⊢;have P0:=Ab hR;have HJ:=Ab hJ;have TL:=Ab IJ;have K4:=Ab K5;have HB:=Ab HQ;have RE:Hid (I.heap.size<=l/\l<W.heap.size):=⟨mM hB.kept.size K9,M2⟩;obtain⟨QQ,HM⟩:=QP (Ks (bodyPostM Fence.wide 0 prog Tryz.f140 λe j=>(∃v,e=G3 v)/\((∃n,AR XS n j)\/(∃B n,Jx B n j))));have W3:Hid (∀c a w,¬QQ (.panic c) a w):=by
  intro c a w h;rw[<-HM]at h;exact h
 have LC:Hid (∀(HG:Array Hs) (ds:QC Nat) (f:Hq),DD W.heap.size ds f->((∃n,AR XS n f)\/(∃B n,Jx B n f))->QQ .ret ⟨HG,ds.map EO⟩ f/\QQ .normal ⟨HG,ds.map EO⟩ f):=by
  intro HG ds f hm hp;rw[<-HM];have Os:LeavesInM Fence.wide 0 prog Tryz.f140 HG (λe j=>(∃v,e=G3 v)/\((∃n,AR XS n j)\/(∃B n,Jx B n j))) (ds.map EO) .returning f:=by
   refine DC ds f hm (λQ hs=>⟨_,pj rfl _ _ _,⟨_,rfl⟩,?_⟩);rcases hp with⟨n,h⟩|⟨B,n,h⟩
   .exact Hd ⟨n,hs.own hJ (s:=(XS,n)) hm h⟩
   .exact Hf ⟨B,n,hs.own IJ (s:=(B,n)) hm h⟩
  exact⟨Os,Os⟩
 have CC:=Ab ((SF [] W).alloc (Dj #[.func (.yield l) #[] #[]] 238));have FP:=Ab (Tc W [.func (.yield l) #[] #[]] 238);have NY:Hid (∀f,Calls prog 141 #[Gi (V ⟨p,0,Y⟩),X J 0,X J (Z m),.agg (NP 26 (O ⟨#[]⟩)).toArray] f λr Q=>∃E b2 b3 b4,r=G3 (.func (.func 176) #[] #[Gi (V ⟨E,0,Y⟩),Gi (V ⟨b2,0,Y⟩),Gi (V ⟨b3,0,Y⟩),Gi (V ⟨b4,0,Y⟩)])/\
   AI Q E [Gi (V ⟨p,0,Y⟩)] 233/\AI Q b2 (Aj (Bq Bj)) 243/\AI Q b3 [X J ((0:Nat):Int)] 3/\AI Q b4 [X J (Z m)] 3/\(f.heap.size<=E/\f.heap.size<=b2/\f.heap.size<=b3/\f.heap.size<=b4)/\Ac [] f Q):=λf=>by
  have h:=IR p 0 (Z m) (Aj (Bq Bj)) f (Bt _) (E7 Bj rfl).1;rw[KV]at h⊢;exact h
 show Calls prog 140 #[.func (.yield l) #[] #[],Gi (V ⟨E,0,Y⟩)] W _;refine EQ func140 rfl (Gv ?_);rw[HM];clear HM hB HQ hR hJ K5 IJ HA HE K9 M2 hS HW;simp only[ntmps140,mW,lQ,mn,Nat.reduceAdd,Nat.reduceSub,om,oo,oK,oz,mR,ny];refine Q0 (λK1 FB=>?_);go_wp2;refine Aa FB _ _ ?_;clear FB K1;change Code.wp _ _ _ _ (W.alloc (Dj [.func (.yield l) #[] #[]].toArray 238));generalize hw1:W.alloc (Dj [.func (.yield l) #[] #[]].toArray 238)=w1 at CC FP⊢;clear hw1;obtain⟨N,hN⟩:=QP W.heap.size;have HN:=Ab hN;rw[hN]at FP⊢;clear hN;have NV:Hid (∀f,Ac [] w1 f->Ac L I f):=λf o=>(Aa HB).kept.trans (((Aa CC).trans o).mono (by simp))
 obtain⟨A1,A0,o2,_⟩:=Aa HO w1 (Aa NV w1 (SF _ _));have c1:=((Aa HB).s.kept (Aa CC)).cell 0;simp at c1;have B0:Hid (∀f,Ac [] w1 f->Lc f ⟨E,0,Y⟩=V (Gi (V ⟨p,0,Y⟩))/\Lc f ⟨p,2,Y⟩=V (U A1 (Z m) A0)):=λf o=>⟨o.cellAt c1,o.cellAt o2⟩
 refine Q0 (λK1 FB=>?_)
 go_region_held3 (λf=>Ac [] w1 f/\Lc f ⟨E,0,Y⟩=V (Gi (V ⟨p,0,Y⟩))/\Lc f ⟨p,2,Y⟩=V (U A1 (Z m) A0)) ((go_split_ands;refine(fun(N4:Ac [] w1 _)=>And.intro N4 (Aa B0 _ N4)) ?_;repeat (first|assumption|exact SF [] _|refine Ac.drew ?_|refine Ac.alloc ?_ _))) ((go_at_call 141;refine(Aa NY _).mono ?_;rintro e A ⟨d1,R,d3,d4,rfl,n1,n2,n3,n4,MY,k5⟩;have M3:Ac [] w1 A:=(by go_split_ands;exact Ac.trans (by assumption) k5);have TX:=k5.size;have Pl:Hid (AI A d1 [Gi (V ⟨p,0,Y⟩)] 233/\AI A R (Aj (Bq Bj)) 243/\AI A d3 [X J ((0:Nat):Int)] 3/\AI A d4 [X J (Z m)] 3/\(w1.heap.size<=d1/\w1.heap.size<=R/\w1.heap.size<=d3/\w1.heap.size<=d4)):=⟨n1,n2,n3,n4,by have h1:w1.heap.size<=_:=(by go_split_ands;exact Ac.size (by assumption));obtain⟨g1,g2,g3,g4⟩:=MY;exact⟨mM h1 g1,mM h1 g2,mM h1 g3,mM h1 g4⟩⟩;have FC:=Ab M3;clear n1 n2 n3 n4 MY k5 M3))
 rename_i TK;clear TK TX;refine Aa FB _ _ ?_;clear FB K1 NY c1 o2 B0;have VL:=Ab (Aa CC).size;have ST:=Ab (Aa FC).size;have H1:Hid (Ac [] W A):=(Aa CC).trans (Aa FC);have TH:=Ab ((Aa FP).kept (Aa FC));have U1:Hid (AR [] C A):=BK (Aa HJ) (s:=([],C)) (Aa K4) (Aa H1);have LL:Hid (Ac L I A):=Aa NV A (Aa FC);have Nj:W.heap.size<=A.heap.size:=(Aa H1).size;have B9:Hid (∀k∈C,(k∈L\/I.heap.size<=k)/\k≠E/\k<W.heap.size):=(Aa HB).apart;have WB:N<w1.heap.size:=(Aa FP).lt;have H9:=Aa RE;have SJ:=Aa NX d1 R d3 d4 A (l::C) (by
  obtain⟨n1,n2,n3,n4,g1,g2,g3,g4⟩:=Aa Pl
  refine⟨Aa LL,n1,n2,n3,n4,λq z=>?_⟩
  have h0:=(Aa HB).kept.size
  have hn:=Aa HN
  have h5:=Aa ST
  rcases lI.1 z with rfl|z
  .have h6:=Aa VL
   exact⟨Hf H9.1,by omega,by omega,by omega,by omega,by omega⟩
  .obtain⟨a1,a2,a3⟩:=Aa B9 q z
   exact⟨a1,by omega,by omega,by omega,by omega,by omega⟩)
 clear NX Pl FP CC FC K4;refine wp_block ?_;refine Jm (T:=243) (q:=3) rfl (enters_of func176 (by kernel_rfl) rfl) SJ (λq z=>by
  rcases lI.1 z with rfl|z
  .omega
  .have:=(Aa B9 q z).2.2;omega) (Xq AR l [] C A) (λc _ _ j=>XB Jx l C A c j) (Xq.own (Aa HJ) Nj) (λc=>XB.own (Aa TL) Nj c) ⟨C,rfl,Aa U1,SF _ _,λq z=>⟨Hd z,by have:=(Aa B9 q z).2.2;omega⟩⟩ ?rassign ?rbody ?rdone ?rstop
 case rassign=>
  intro l' x j G S HK;have Ha:Z (Aj (Bq x))=26:=by unfold Aj Bq;rw[lR,lR];exact Aa HI x S
  have Nx:Hid (∀u∈Aj (Bq x),u.oneCell'=true):=by
   intro u hu;unfold Aj at hu;obtain⟨y,_,rfl⟩:=lP.1 hu;rfl
  obtain⟨EX,NB⟩:=QP (Aj (Bq x));rw[NB]at Ha Nx HK⊢;have HI:=Ab Ha;have Nd:Hid (EX.toArray.size=26):=by show _=_;simp[Ha]
  clear S NB Ha;simp only[lz,lC,lD]at HK⊢;refine AN (by rfl) (It GC) ?_;go_wp2_with ((with_reducible show wpList _ _ _ ({dst:=_,op:=Op.store 243 _ _,type:=_,pos:=_,after:=_,guard:=_}::_) _ _);refine nN rfl 243 _ _ rfl j.heap.size 0 EX.toArray (by rfl) (by rfl) ?_ ?_ ?_ ?_)
  .have h:=(Tc j (NP 26 (O ⟨#[]⟩)) 243).there;simp only[nJ]at h;rw[Aa Nd];exact h
  .rw[Aa Nd];exact Tryz.bi
  .exact m7 (Aa Nx)
  .refine Aa HK _ (((SF [] j).alloc (Dj (NP 26 (O ⟨#[]⟩)).toArray 243)).di (b:=j.heap.size) (Hf (lX _)) EX 0) ?_;exact(Tc j (NP 26 (O ⟨#[]⟩)) 243).fo EX (by rw[Aa HI];simp)
 case rbody=>
  intro l' Bx B x SP n j IA F RO X3 LS;obtain⟨H,rfl,CL,BB⟩:=F.at_;rw[mR]at CL;have RT:=Aa HI x (by rw[IA];simp);have K7:Hid (∀f,Ac [] j f->Ac L I f):=λf o=>((Aa LL).trans' BB.kept (λi F=>(Aa B9 i F).1)).trans (o.mono (by simp))
  have NN:AI j N [.func (.yield l) #[] #[]] 238:=(Aa TH).kept BB.kept (λh=>by have h1:=(Aa B9 N h).2.2;have h2:=Aa HN;omega);have K8:AI j E [Gi (V ⟨p,0,Y⟩)] 233:=((Aa HB).s.kept (Aa H1)).kept BB.kept (λh=>(Aa B9 E h).2.1 rfl);have cy:=NN.cell 0;have cb:=K8.cell 0;simp at cy cb;obtain⟨HZ,HU,o6,_⟩:=Aa HO j (Aa K7 j (SF _ _));have B0:Hid (∀f,Ac [] j f->Lc f ⟨N,0,Y⟩=V (.func (.yield l) #[] #[])/\Lc f ⟨E,0,Y⟩=V (Gi (V ⟨p,0,Y⟩))/\Lc f ⟨p,2,Y⟩=V (U HZ (Z m) HU)):=λf o=>⟨o.cellAt cy,o.cellAt cb,o.cellAt o6⟩
  have NS:Hid (Calls prog 142 #[Gi (V ⟨Bx,0,Y⟩),U HZ (Z m) HU] j.drew λr Q=>∃g,r=G3 (U (V ⟨g,0,Y⟩) (Z m) (Z m))/\Mi Q j.drew.heap.size 172 2 (U (V ⟨g,0,Y⟩) (Z m) (Z m)) (Z m) (m.flatMap (Jf (Bq x)))/\Ac [] j.drew Q):=by
   obtain⟨RI,TV,o7,Go⟩:=Aa HO j.drew (Aa K7 _ (SF [] j).drew);have o8:=(Aa B0 _ (SF [] j).drew).2.2;rw[o7]at o8;simp only[lL,lB]at o8;obtain⟨rfl,_,rfl⟩:=o8;exact Yr Bx (Bq x) RI TV m j.drew (by unfold Bq;rw[lR];exact RT) (LS.kept (SF [] j).drew) Go T0 (Aa QR)
  have L0:Hid (∀g f,Ac [] j f->Mi f 0 172 2 (U (V ⟨g,0,Y⟩) (Z m) (Z m)) (Z m) (m.flatMap (Jf (Bq x)))->YieldAt Fence.wide 0 prog l #[U (V ⟨g,0,Y⟩) (Z m) (Z m)] f λe j=>
    (e=G3 (.bool true)/\∃n,AR (B++[x]) n j/\Ac H f j/\∀k∈n,(k∈H\/f.heap.size<=k)/\k<j.heap.size)\/(e=G3 (.bool false)/\∃n,Jx (B++[x]) n j/\Ac (l::H) f j)):=λg f o hr=>Aa P0 B x SP H f _ IA (BK (Aa HJ) (s:=(B,H)) CL o) ⟨g,rfl,hr⟩
  have H5:=Ab BB;have WS:l<j.heap.size:=by have:=BB.kept.size;omega
  clear F LS NN K8 CL BB RO IA cy cb o6;simp only[lz,lC,lD];refine wpIn_block ?_;refine m8 (λK3 MB=>?_);have HH:=Ab MB;clear MB;have BT:=Ab (Aa B0 j.drew (SF [] j).drew);refine Qg 6 (λf=>Lc f ⟨N,0,Y⟩=V (.func (.yield l) #[] #[])/\Lc f ⟨E,0,Y⟩=V (Gi (V ⟨p,0,Y⟩))/\Lc f ⟨p,2,Y⟩=V (U HZ (Z m) HU)) (by kernel_rfl) (by rfl) (by rintro ⟨_,_,h⟩;exact h) ?_;refine F6.take (i:=0) (v:=.func (.yield l) #[] #[]) rfl (by kernel_rfl) (λ_ _ _ h=>h) (Aa BT) (Hd ⟨by rfl,?_⟩) ?_
  ·(intro f SB;obtain⟨z0,z1,z2⟩:=SB;go_simp)
  simp only[OD,lz,lC,lD];obtain⟨z0,z1,z2⟩:=Aa BT;refine F6.one (i:=1) (by kernel_rfl) (by rfl) rfl (λG t=>?_)
  go_simp
  refine t.out _ _ (λ_=>Aa BT) ?_;clear t G
  try simp only[OD,lz,lC,lD]
  refine F6.one (i:=2) (by kernel_rfl) (by rfl) rfl (λG t=>?_)
  go_simp
  refine t.out _ _ (λ_=>Aa BT) ?_;clear t G
  try simp only[OD,lz,lC,lD]
  refine F6.one (i:=3) (by kernel_rfl) (by rfl) rfl (λG t=>?_)
  go_simp
  refine t.out _ _ (λ_=>Aa BT) ?_;clear t G
  try simp only[OD,lz,lC,lD]
  refine F6.one (i:=4) (by kernel_rfl) (by rfl) rfl (λG t=>?_)
  go_simp
  refine t.out _ _ (λ_=>Aa BT) ?_;clear t G
  try simp only[OD,lz,lC,lD]
  refine F6.one (i:=5) (by kernel_rfl) (by rfl) rfl (λG t=>?_)
  go_simp
  refine(Aa NS).mono ?_;rintro _ w7 ⟨g,rfl,Go,k7⟩;have FW:Ac [] j w7:=(SF [] j).drew.trans k7;refine t.out _ _ (λ_=>Aa B0 w7 FW) ?_;clear t G z0 z1 z2
  try simp only[OD,lz,lC,lD]
  have HY:=Ab (Aa L0 g w7 FW (Al Go (lW _)));have Ix:=Ab FW;clear Go k7 FW NS L0 BT B0;refine F6.yield (by kernel_rfl) rfl (q:=l) (args:=#[U (V ⟨g,0,Y⟩) (Z m) (Z m)]) (by rfl) (by first|(simp[go_sem,Oper.semAt];done)|(simp[go_sem,Oper.semAt,execOp,resolve,invoke];done)) (Aa HY) ?_;rintro r w8 (⟨rfl,M6,ES,DT,FA⟩|⟨rfl,M6,ES,DT⟩)
  .refine⟨_,rfl,?_⟩
   try simp only[OD,lz,lC,lD]
   have HP:Hid (LK (Xq AR l [] C A) (λc _ _ j=>XB Jx l C A c j) (B++[x]) (l::H) j .normal ⟨#[],[]⟩ w8):=by
    have h7:=(Aa Ix).size;(have H9:l<w8.heap.size:=by have:=DT.size;omega);have o:Ac H j w8:=((Aa Ix).mono (by simp)).trans DT;refine⟨o.mono (λi F=>my _ F),l::M6,⟨M6,rfl,by rw[mR];exact ES,(Aa H5).step o (λq z=>⟨((FA q z).1).imp id (λh=>by omega),(FA q z).2⟩)⟩,λq z=>?_⟩;rcases lI.1 z with rfl|z
    .exact⟨Hd (mV ..),H9⟩
    .refine⟨?_,(FA q z).2⟩;rcases(FA q z).1 with h|h
     .exact Hd (my _ h)
     .exact Hf (by omega)
   clear ES DT FA HY;refine F6.one (i:=7) (by kernel_rfl) (by rfl) rfl (λG t=>?_)
   go_simp
   refine t.out _ _ (λh=>by cases h) ?_;clear t G;refine F6.done (by kernel_rfl) ?_ _
   try simp only[OD,lz,lC,lD]
   refine Aa HH _ _ ?_;clear HH K3;refine oC rfl (wpIn_skip ?_);exact Aa HP
  .refine⟨_,rfl,?_⟩
   try simp only[OD,lz,lC,lD]
   have HP:Hid (LK (Xq AR l [] C A) (λc _ _ j=>XB Jx l C A c j) (B++[x]) (l::H) j .ret ⟨#[],[]⟩ w8):=by
    have o:Ac (l::H) j w8:=((Aa Ix).mono (by simp)).trans DT;refine⟨o,M6,rfl,⟨_,M6,ES⟩,?_⟩;refine((Aa H5).kept.mono (N:=l::C) (λi F=>my _ F)).trans' o (λi F=>?_);rcases lI.1 F with rfl|F
    .exact Hd (mV ..)
    .exact(((Aa H5).mem i F).1).imp (λh=>my _ h) id
   clear ES DT HY;refine F6.one (i:=7) (by kernel_rfl) (by rfl) rfl (λG t=>?_)
   go_simp
   refine t.out _ _ (λh=>by cases h) ?_;clear t G;refine F6.done (by kernel_rfl) ?_ _
   try simp only[OD,lz,lC,lD]
   refine Aa HH _ _ ?_;clear HH K3;refine oI rfl (wpIn_ret ?_);exact Aa HP
 case rdone=>
  intro D n j hD F hd ad;obtain⟨H,rfl,CL,BB⟩:=F.at_;rw[mR]at CL;have hm:DD W.heap.size [D] j:=⟨by simp,λd P=>by rw[lG]at P;subst P;omega,λd P=>by rw[lG]at P;subst P;exact hd⟩;exact(Aa LC _ [D] j hm (Hd ⟨H,CL⟩)).2
 case rstop=>
  intro D c B n j hD S hd;obtain rfl:=S.ret;obtain⟨SK,H,TS⟩:=S.at_;have hm:DD W.heap.size [D] j:=⟨by simp,λd P=>by rw[lG]at P;subst P;omega,λd P=>by rw[lG]at P;subst P;exact hd⟩;refine wp_ret ?_;exact(Aa LC _ [D] j hm (Hf ⟨SK,H,TS⟩)).1
