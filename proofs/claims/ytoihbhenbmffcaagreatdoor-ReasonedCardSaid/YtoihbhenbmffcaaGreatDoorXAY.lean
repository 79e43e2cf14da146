import Derived.Test.YtoihbhenbmffcaaGreatDoorXAW
set_option linter.all false
set_option maxHeartbeats 0
open List renaming length->Z,replicate->pG
open Option renaming none->Y,some->V
open Go.Value renaming slice->U,int->X,string->O,pointer->m2
open Go.IntKind renaming i64->J,i32->pD
open Go.Obj renaming cells->j3
open Go.Ending renaming returned->oa
open Or renaming inl->oi,inr->oj
open Go renaming World->py,Value->p5
open Go.World renaming cell?->p8,ownsRow->p9
open Go.Act renaming put->pJ
namespace Go.Proofs.YtoihbhenbmffcaaGreatDoor
open Go.RowKit Go.Proofs.Tryz
variable{y:pM p5}{n:Nat}
theorem Tryz.yY:(Tryz.prog.info? 172).map (λi=>(i.zero,i.size,i.bytes))=V (V (.agg #[X pD 0,O ⟨#[]⟩]),2,24):=by kernel_rfl
def Jb(b:pM zA)(v:UInt8):pM p5:=[X pD (v.toNat:Int),O (Nk b v)]
def TR(b:pM zA)(v:UInt8):Z (Jb b v)=2:=rfl
def ff(h:2*n+1<Z y)(a c:p5):((y.set (2*n) a).set (2*n+1) c).take (2*(n+1))=y.take (2*n)++[a,c]:=by
 apply List.ext_getElem?;intro i;rw[m6];by_cases b:i<2*n
 .rw[ln (by omega),mm (by omega),mm (by omega),List.getElem?_append_left (by simp;omega),m6,ln b]
 .have d:Z (y.take (2*n))=2*n:=by simp;omega
  rw[nO (by omega),d];by_cases e:i=2*n
  .subst e;rw[ln (by omega),mm (by omega),mK (by omega),Nat.sub_self];rfl
  .by_cases f:i=2*n+1
   .subst f;rw[ln (by omega),mK (by simp;omega),show 2*n+1-2*n=1 by omega];rfl
   .rw[li (by omega),List.getElem?_eq_none (by simp;omega)]
set_option maxRecDepth 100000
theorem Ym(n:Nat)(b:pM zA)(G:Option Addr)(T:Nat)(a:pM UInt8)(w:py)(hb:Z b=26)(hB:AF w n (Aj b) 243)(S:p9 w 0 21 1 (U G (Z (C2 a)) T) (Z (C2 a)) ((C2 a).flatMap AU))(FA:Z a<=1000)(B:∀v∈a,Ew v):
  Calls prog 142 #[m2 (V ⟨n,0,Y⟩),U G (Z a) T] w λr m=>∃g,r=oa (U (V ⟨g,0,Y⟩) (Z a) (Z a))/\p9 m w.heap.size 172 2 (U (V ⟨g,0,Y⟩) (Z a) (Z a)) (Z a) (a.flatMap (Jb b))/\Ac [] w m:=by
 obtain⟨i0,ES,A0,BS,B2⟩:=mg Tryz.yY;have HT:Hid (∀v∈a,∀c,Ac [] w c->Calls prog 180 #[m2 (V ⟨n,0,Y⟩),.agg #[.int pD (v.toNat:Int),O ⟨#[]⟩]] c λr m=>r=oa (O (Nk b v))/\Ac [] c m):=by
  intro v I c H;have h:=QS n 243 b v.toNat ByteArray.empty c hb (hB.kept H) (oj (B v I));have h0:v.toNat≠0:=by have:=(B v I).1;omega
  have e:fJ b v.toNat ByteArray.empty=Nk b v:=by unfold fJ Nk;rw[li h0]
  rw[e]at h;exact h
 have EM:=Ab S;obtain⟨N,C⟩:=pN w.heap.size;have y:=Ab C;clear S B hB;have FC:∀c:py,(Instr.makeSlice 169 (.int J (Z a:Int)) (.int J (Z a:Int))).run prog c=.ok (U (V ⟨c.heap.size,0,Y⟩) (Z a) (Z a)) (c.alloc (j3 (madeCells #[.int pD 0,O ⟨#[]⟩] (Z a*2)) 172)):=by
  intro c;have W:=run_make (P:=prog) c 169 172 i0 _ underlying169 ES A0 J J (Z a) (Z a) (by omega) (Int.le_refl _) (by rw[B2];omega) (by omega);simp only[Int.toNat_natCast,BS]at W;exact W
 go_enter func142,ntmps142;go_wp2;have f:Hid (∃L:pM p5,Z L=2*Z a/\L.take (2*0)=(a.take 0).flatMap (Jb b)/\p9 (w.alloc (j3 (madeCells #[.int pD 0,O ⟨#[]⟩] (Z a*2)) 172)) N 172 2 (U (V ⟨N,0,Y⟩) (Z a) (Z a)) (Z a) L):=by
  have h:=oN (e:=172) (size:=2) (base:=N) w (madeCells #[.int pD 0,O ⟨#[]⟩] (Z a*2)) (Z a) (by omega) (by unfold maxLen;omega) (by rw[size_madeCells]);rw[C]at h;exact⟨_,by rw[Array.length_toList,size_madeCells];omega,by simp,h⟩
 have z:=Ab ((pO [] w).alloc (j3 (madeCells #[.int pD 0,O ⟨#[]⟩] (Z a*2)) 172));clear C;generalize w.alloc (j3 (madeCells #[.int pD 0,O ⟨#[]⟩] (Z a*2)) 172)=w2 at f z⊢
 go_loopg [13] (Z a) (λgk i wr=>∃(k:Nat),i=.int J k/\k<=Z a/\gk=Z a-k/\Hid (∃L:pM p5,Z L=2*Z a/\L.take (2*k)=(a.take k).flatMap (Jb b)/\p9 wr N 172 2 (U (V ⟨N,0,Y⟩) (Z a) (Z a)) (Z a) L)/\Hid (Ac [] w wr))
 case atStart=>exact⟨0,rfl,by omega,rfl,f,z⟩
 case round=>
  clear f z;obtain⟨k,rfl,H,M,f,l⟩:=hrel;have HG:=Ab M;clear M;by_cases q:k<Z a
  ·(have D:k<Z (C2 a):=by rw[GE];exact q);obtain⟨g,E0,he,x⟩:=Rz (Ad (Aa EM) (Aa l)) k D;simp only[kS]at he;obtain⟨rfl,_,rfl⟩:=he;(have e:(C2 a)[k]=(a[k].toNat:Int):=by simp[C2]);rw[e]at x;obtain⟨d,o⟩:=pN (a[k]);rw[o]at x;have u:=Ab (Aa HT d (by rw[<-o];exact kV q) wr (Aa l));(have FB:(0:Int)<=(k:Int):=by omega);(have FF:(k:Int)<(Z a:Int):=by omega);have F:Hid ((a.take (k+1)).flatMap (Jb b)=(a.take k).flatMap (Jb b)++[.int pD (d.toNat:Int),O (Nk b d)]):=by
    show _=_;rw[kW q,lM,o];rfl
   generalize Nk b d=X at u F;clear e o D;(go_wp2_with fail);refine(Aa u).mono ?_;rintro _ w3 ⟨rfl,t⟩;have AB:=Ab ((Aa l).trans t);obtain⟨L,Q,AO,R⟩:=Aa f;have j:=Ad R t;have A:=j.cellAt (2*k) (by omega);have s:=j.cellAt (2*k+1) (by omega);have B9:=j.frozenAt (2*k);have EK:=j.frozenAt (2*k+1);rw[Nat.mul_comm]at A s B9 EK;rw[lc (by omega)]at A s;generalize L[k*2]=U0 at A;generalize L[k*2+1]=U1 at s;have DT:Hid (∃L:pM p5,Z L=2*Z a/\L.take (2*(k+1))=(a.take (k+1)).flatMap (Jb b)/\p9 ((w3.setCell ⟨N,k*2,Y⟩ (.int pD (d.toNat:Int))).setCell ⟨N,k*2+1,Y⟩ (O X)) N 172 2 (U (V ⟨N,0,Y⟩) (Z a) (Z a)) (Z a) L):=by
    refine⟨(L.set (2*k) (.int pD (d.toNat:Int))).set (2*k+1) (O X),by simp[Q],?_,?_⟩
    .rw[ff (by omega),Aa F,AO]
    .rw[Nat.mul_comm k 2];exact BG (BG j (2*k) _) (2*k+1) _
   have BA:=Ab (((Aa AB).setCell (p:=⟨N,k*2,Y⟩) (oj (by have:=Aa y;show _<=N;omega)) (.int pD (d.toNat:Int))).setCell (p:=⟨N,k*2+1,Y⟩) (oj (by have:=Aa y;show _<=N;omega)) (O X));clear u l AB t j x f Q AO R;go_wp2
   go_roundg (Z a-(k+1))
   case measure=>have:=Aa HG;omega
   case rel=>exact⟨k+1,by go_num,by omega,rfl,DT,BA⟩
  ·(have BT:k=Z a:=by omega);subst BT;have CL:Hid (p9 wr N 172 2 (U (V ⟨N,0,Y⟩) (Z a) (Z a)) (Z a) (a.flatMap (Jb b))):=by
    obtain⟨L,h1,E,h3⟩:=Aa f;rw[kX (by omega),kX (lC _)]at E;rw[<-E];exact h3
   clear f;go_wp2;go_ret;exact⟨N,rfl,by rw[Aa y];exact Aa CL,Aa l⟩
structure iH(w0:py)(M1:pM Nat)(sp b1:Nat)(M:pM Nat)(w:py):Prop where
 kept:Ac M1 w0 w
 s:AF w b1 [m2 (V ⟨sp,0,Y⟩)] 233
 apart:∀k∈M,(k∈M1\/w0.heap.size<=k)/\k≠b1/\k<w.heap.size
def kn(vs:pM UInt8)(x:pM zA)(a:Array p5)(W:py):Prop:=
 ∃g,a=#[U (V ⟨g,0,Y⟩) (Z vs) (Z vs)]/\p9 W 0 172 2 (U (V ⟨g,0,Y⟩) (Z vs) (Z vs)) (Z vs) (vs.flatMap (Jb (Bn x)))
theorem fe(p:Nat)(B0:pM Br)(s:pM Af)(m:pM UInt8)(I:py)(L:pM Nat)(hS:∀f,Ac L I f->dU f p B0 s m)(E:Nat)(w:py)(C:pM Nat)(hB:iH I L p E C w):
  iL prog 140 #[m2 (V ⟨E,0,Y⟩)] (kn m) (Aw (Jc B0 s) B0 s m Bk) C w:=by
 intro l AT Jx W HG LB M3 hJ JA hR K6;have HS:iH I L p E C W:=⟨hB.kept.trans (HG.mono (by simp)),hB.s.kept HG,λk o=>⟨(hB.apart k o).1,(hB.apart k o).2.1,mX (hB.apart k o).2.2 HG.size⟩⟩;obtain⟨XS,HD⟩:=pN (Aw (Jc B0 s) B0 s m Bk);have WS:Hid (∀f,Ac L I f->dU f p B0 s m):=hS;have HZ:=hS _ HS.kept;have U0:=HZ.yB;have NY:Hid (∀d1 R d3 d4 f M,Vf I L p d1 R d3 d4 0 (Z m) Bk M f->Lx prog 176 #[m2 (V ⟨d1,0,Y⟩),m2 (V ⟨R,0,Y⟩),m2 (V ⟨d3,0,Y⟩),m2 (V ⟨d4,0,Y⟩)] (λx=>#[.agg (Aj (Bn x)).toArray]) XS M f):=λd1 R d3 d4 f M hb=>by
  rw[<-HD];exact L6 p B0 s m I L hS (Z m) (lC _) m 0 Bk d1 R d3 d4 f M Di.start (lz _) (by rw[ni,oF]) hb
 have HM:Hid (∀x∈XS,Z x=26):=by
  intro x S;rw[<-HD]at S;exact GN m Bk rfl x S
 have HR:Hid (∀f,Ac L I f->∃(A2:Option Addr) (A1:Nat),p8 f ⟨p,2,Y⟩=V (U A2 (Z m) A1)/\p9 f 0 21 1 (U A2 (Z (C2 m)) A1) (Z (C2 m)) ((C2 m).flatMap AU)):=by
  intro f o;obtain⟨kb,ko,W3,Wa,WB,A2,A1,af,X2,fs,h1,_,_,h4,_⟩:=(hS f o).at_;have h2:=h1.zN.cell 2;simp[GE]at h2;exact⟨A2,A1,h2,h4⟩
 have RB:Hid (∀v∈m,Ew v):=HZ.ok;rw[HD]at hR⊢;have QR:=Ab hR;have HJ:=Ab hJ;have TV:=Ab JA;have K5:=Ab K6;have HB:=Ab HS;have RI:Hid (I.heap.size<=l/\l<W.heap.size):=⟨mp hB.kept.size LB,M3⟩;obtain⟨QQ,HQ⟩:=pN (Kr (bodyPostM Fence.wide 0 prog Tryz.f140 λe j=>(∃v,e=oa v)/\((∃n,AT XS n j)\/(∃B n,Jx B n j))));have X1:Hid (∀c a w,¬QQ (.panic c) a w):=by
  intro c a w h;rw[<-HQ]at h;exact h
 have LE:Hid (∀(HI:Array p5) (ds:pM Nat) (f:py),Dv W.heap.size ds f->((∃n,AT XS n f)\/(∃B n,Jx B n f))->QQ .ret ⟨HI,ds.map EA⟩ f/\QQ .normal ⟨HI,ds.map EA⟩ f):=by
  intro HI ds f hm hp;rw[<-HQ];have OB:LeavesInM Fence.wide 0 prog Tryz.f140 HI (λe j=>(∃v,e=oa v)/\((∃n,AT XS n j)\/(∃B n,Jx B n j))) (ds.map EA) .returning f:=by
   refine Du ds f hm (λQ hs=>⟨_,oL rfl _ _ _,⟨_,rfl⟩,?_⟩);rcases hp with⟨n,h⟩|⟨B,n,h⟩
   .exact oi ⟨n,hs.own hJ (s:=(XS,n)) hm h⟩
   .exact oj ⟨B,n,hs.own JA (s:=(B,n)) hm h⟩
  exact⟨OB,OB⟩
 have DT:=Ab ((pO [] W).alloc (j3 #[.func (.yield l) #[] #[]] 238));have FW:=Ab (pP W [.func (.yield l) #[] #[]] 238);have N0:Hid (∀f,Calls prog 141 #[m2 (V ⟨p,0,Y⟩),X J 0,X J (Z m),.agg (pG 26 (O ⟨#[]⟩)).toArray] f λr Q=>∃E b2 b3 b4,r=oa (.func (.func 176) #[] #[m2 (V ⟨E,0,Y⟩),m2 (V ⟨b2,0,Y⟩),m2 (V ⟨b3,0,Y⟩),m2 (V ⟨b4,0,Y⟩)])/\
   AF Q E [m2 (V ⟨p,0,Y⟩)] 233/\AF Q b2 (Aj (Bn Bk)) 243/\AF Q b3 [X J ((0:Nat):Int)] 3/\AF Q b4 [X J (Z m)] 3/\(f.heap.size<=E/\f.heap.size<=b2/\f.heap.size<=b3/\f.heap.size<=b4)/\Ac [] f Q):=λf=>by
  have h:=IQ p 0 (Z m) (Aj (Bn Bk)) f (Bp _) (EU Bk rfl).1;rw[KY]at h⊢;exact h
 show Calls prog 140 #[.func (.yield l) #[] #[],m2 (V ⟨E,0,Y⟩)] W _;refine EC func140 rfl (Gt ?_);rw[HQ];clear HQ hB HS hR hJ K6 JA HD HG LB M3 hS HZ;simp only[ntmps140,mE,lj,lO,Nat.reduceAdd,Nat.reduceSub,nL,nM,oh,nR,mw,mV];refine pL (λK1 FF=>?_);go_wp2;refine Aa FF _ _ ?_;clear FF K1;change Code.wp _ _ _ _ (W.alloc (j3 [.func (.yield l) #[] #[]].toArray 238));generalize hw1:W.alloc (j3 [.func (.yield l) #[] #[]].toArray 238)=w1 at DT FW⊢;clear hw1;obtain⟨N,hN⟩:=pN W.heap.size;have HN:=Ab hN;rw[hN]at FW⊢;clear hN;have NX:Hid (∀f,Ac [] w1 f->Ac L I f):=λf o=>(Aa HB).kept.trans (((Aa DT).trans o).mono (by simp))
 obtain⟨A2,A1,o2,_⟩:=Aa HR w1 (Aa NX w1 (pO _ _));have c1:=((Aa HB).s.kept (Aa DT)).cell 0;simp at c1;have B9:Hid (∀f,Ac [] w1 f->p8 f ⟨E,0,Y⟩=V (m2 (V ⟨p,0,Y⟩))/\p8 f ⟨p,2,Y⟩=V (U A2 (Z m) A1)):=λf o=>⟨o.cellAt c1,o.cellAt o2⟩
 refine pL (λK1 FF=>?_)
 go_region_held3 (λf=>Ac [] w1 f/\p8 f ⟨E,0,Y⟩=V (m2 (V ⟨p,0,Y⟩))/\p8 f ⟨p,2,Y⟩=V (U A2 (Z m) A1)) ((go_split_ands;refine(fun(Os:Ac [] w1 _)=>And.intro Os (Aa B9 _ Os)) ?_;repeat (first|assumption|exact pO [] _|refine Ac.drew ?_|refine Ac.alloc ?_ _))) ((go_at_call 141;refine(Aa N0 _).mono ?_;rintro e A ⟨d1,R,d3,d4,rfl,n1,n2,n3,n4,M2,k5⟩;have Nd:Ac [] w1 A:=(by go_split_ands;exact Ac.trans (by assumption) k5);have UO:=k5.size;have PT:Hid (AF A d1 [m2 (V ⟨p,0,Y⟩)] 233/\AF A R (Aj (Bn Bk)) 243/\AF A d3 [X J ((0:Nat):Int)] 3/\AF A d4 [X J (Z m)] 3/\(w1.heap.size<=d1/\w1.heap.size<=R/\w1.heap.size<=d3/\w1.heap.size<=d4)):=⟨n1,n2,n3,n4,by have h1:w1.heap.size<=_:=(by go_split_ands;exact Ac.size (by assumption));obtain⟨g1,g2,g3,g4⟩:=M2;exact⟨mp h1 g1,mp h1 g2,mp h1 g3,mp h1 g4⟩⟩;have FL:=Ab Nd;clear n1 n2 n3 n4 M2 k5 Nd))
 rename_i TS;clear TS UO;refine Aa FF _ _ ?_;clear FF K1 N0 c1 o2 B9;have VS:=Ab (Aa DT).size;have S1:=Ab (Aa FL).size;have H3:Hid (Ac [] W A):=(Aa DT).trans (Aa FL);have TL:=Ab ((Aa FW).kept (Aa FL));have VR:Hid (AT [] C A):=BI (Aa HJ) (s:=([],C)) (Aa K5) (Aa H3);have LM:Hid (Ac L I A):=Aa NX A (Aa FL);have Nq:W.heap.size<=A.heap.size:=(Aa H3).size;have CL:Hid (∀k∈C,(k∈L\/I.heap.size<=k)/\k≠E/\k<W.heap.size):=(Aa HB).apart;have WW:N<w1.heap.size:=(Aa FW).lt;have IA:=Aa RI;have SL:=Aa NY d1 R d3 d4 A (l::C) (by
  obtain⟨n1,n2,n3,n4,g1,g2,g3,g4⟩:=Aa PT
  refine⟨Aa LM,n1,n2,n3,n4,λq z=>?_⟩
  have h0:=(Aa HB).kept.size
  have hn:=Aa HN
  have h5:=Aa S1
  rcases kZ.1 z with rfl|z
  .have h6:=Aa VS
   exact⟨oj IA.1,by omega,by omega,by omega,by omega,by omega⟩
  .obtain⟨a1,a2,a3⟩:=Aa CL q z
   exact⟨a1,by omega,by omega,by omega,by omega,by omega⟩)
 clear NY PT FW DT FL K5;refine wp_block ?_;refine Jh (T:=243) (q:=3) rfl (enters_of func176 (by kernel_rfl) rfl) SL (λq z=>by
  rcases kZ.1 z with rfl|z
  .omega
  .have:=(Aa CL q z).2.2;omega) (Xn AT l [] C A) (λc _ _ j=>Xz Jx l C A c j) (Xn.own (Aa HJ) Nq) (λc=>Xz.own (Aa TV) Nq c) ⟨C,rfl,Aa VR,pO _ _,λq z=>⟨oi z,by have:=(Aa CL q z).2.2;omega⟩⟩ ?rassign ?rbody ?rdone ?rstop
 case rassign=>
  intro l' x j G S HK;have HC:Z (Aj (Bn x))=26:=by unfold Aj Bn;rw[lm,lm];exact Aa HM x S
  have NA:Hid (∀u∈Aj (Bn x),u.oneCell'=true):=by
   intro u hu;unfold Aj at hu;obtain⟨y,_,rfl⟩:=lk.1 hu;rfl
  obtain⟨EX,NL⟩:=pN (Aj (Bn x));rw[NL]at HC NA HK⊢;have HM:=Ab HC;have Nj:Hid (EX.toArray.size=26):=by show _=_;simp[HC]
  clear S NL HC;simp only[kR,kT,kU]at HK⊢;refine AM (by rfl) (Iw Gz) ?_;go_wp2_with ((with_reducible show wpList _ _ _ ({dst:=_,op:=Op.store 243 _ _,type:=_,pos:=_,after:=_,guard:=_}::_) _ _);refine nj rfl 243 _ _ rfl j.heap.size 0 EX.toArray (by rfl) (by rfl) ?_ ?_ ?_ ?_)
  .have h:=(pP j (pG 26 (O ⟨#[]⟩)) 243).there;simp only[m9]at h;rw[Aa Nj];exact h
  .rw[Aa Nj];exact Tryz.zG
  .exact mL (Aa NA)
  .refine Aa HK _ (((pO [] j).alloc (j3 (pG 26 (O ⟨#[]⟩)).toArray 243)).zI (b:=j.heap.size) (oj (lC _)) EX 0) ?_;exact(pP j (pG 26 (O ⟨#[]⟩)) 243).zP EX (by rw[Aa HM];simp)
 case rbody=>
  intro l' Bx B x S0 n j IS F RV ZV L0;obtain⟨H,rfl,EK,BT⟩:=F.at_;rw[mw]at EK;have SB:=Aa HM x (by rw[IS];simp);have K8:Hid (∀f,Ac [] j f->Ac L I f):=λf o=>((Aa LM).trans' BT.kept (λi F=>(Aa CL i F).1)).trans (o.mono (by simp))
  have NS:AF j N [.func (.yield l) #[] #[]] 238:=(Aa TL).kept BT.kept (λh=>by have h1:=(Aa CL N h).2.2;have h2:=Aa HN;omega);have K9:AF j E [m2 (V ⟨p,0,Y⟩)] 233:=((Aa HB).s.kept (Aa H3)).kept BT.kept (λh=>(Aa CL E h).2.1 rfl);have cy:=NS.cell 0;have cb:=K9.cell 0;simp at cy cb;obtain⟨H1,HW,o6,_⟩:=Aa HR j (Aa K8 j (pO _ _));have B9:Hid (∀f,Ac [] j f->p8 f ⟨N,0,Y⟩=V (.func (.yield l) #[] #[])/\p8 f ⟨E,0,Y⟩=V (m2 (V ⟨p,0,Y⟩))/\p8 f ⟨p,2,Y⟩=V (U H1 (Z m) HW)):=λf o=>⟨o.cellAt cy,o.cellAt cb,o.cellAt o6⟩
  have NV:Hid (Calls prog 142 #[m2 (V ⟨Bx,0,Y⟩),U H1 (Z m) HW] j.drew λr Q=>∃g,r=oa (U (V ⟨g,0,Y⟩) (Z m) (Z m))/\p9 Q j.drew.heap.size 172 2 (U (V ⟨g,0,Y⟩) (Z m) (Z m)) (Z m) (m.flatMap (Jb (Bn x)))/\Ac [] j.drew Q):=by
   obtain⟨RT,T0,o7,HA⟩:=Aa HR j.drew (Aa K8 _ (pO [] j).drew);have o8:=(Aa B9 _ (pO [] j).drew).2.2;rw[o7]at o8;simp only[ld,kS]at o8;obtain⟨rfl,_,rfl⟩:=o8;exact Ym Bx (Bn x) RT T0 m j.drew (by unfold Bn;rw[lm];exact SB) (L0.kept (pO [] j).drew) HA U0 (Aa RB)
  have MB:Hid (∀g f,Ac [] j f->p9 f 0 172 2 (U (V ⟨g,0,Y⟩) (Z m) (Z m)) (Z m) (m.flatMap (Jb (Bn x)))->YieldAt Fence.wide 0 prog l #[U (V ⟨g,0,Y⟩) (Z m) (Z m)] f λe j=>
    (e=oa (.bool true)/\∃n,AT (B++[x]) n j/\Ac H f j/\∀k∈n,(k∈H\/f.heap.size<=k)/\k<j.heap.size)\/(e=oa (.bool false)/\∃n,Jx (B++[x]) n j/\Ac (l::H) f j)):=λg f o hr=>Aa QR B x S0 H f _ IS (BI (Aa HJ) (s:=(B,H)) EK o) ⟨g,rfl,hr⟩
  have H7:=Ab BT;have W0:l<j.heap.size:=by have:=BT.kept.size;omega
  clear F L0 NS K9 EK BT RV IS cy cb o6;simp only[kR,kT,kU];refine wpIn_block ?_;refine mM (λK3 MN=>?_);have HL:=Ab MN;clear MN;have B2:=Ab (Aa B9 j.drew (pO [] j).drew);refine Qg 6 (λf=>p8 f ⟨N,0,Y⟩=V (.func (.yield l) #[] #[])/\p8 f ⟨E,0,Y⟩=V (m2 (V ⟨p,0,Y⟩))/\p8 f ⟨p,2,Y⟩=V (U H1 (Z m) HW)) (by kernel_rfl) (by rfl) (by rintro ⟨_,_,h⟩;exact h) ?_;refine F3.take (i:=0) (v:=.func (.yield l) #[] #[]) rfl (by kernel_rfl) (λ_ _ _ h=>h) (Aa B2) (oi ⟨by rfl,?_⟩) ?_
  ·(intro f SK;obtain⟨z0,z1,z2⟩:=SK;go_simp)
  simp only[pJ,kR,kT,kU];obtain⟨z0,z1,z2⟩:=Aa B2;refine F3.one (i:=1) (by kernel_rfl) (by rfl) rfl (λG t=>?_)
  go_simp
  refine t.out _ _ (λ_=>Aa B2) ?_;clear t G
  try simp only[pJ,kR,kT,kU]
  refine F3.one (i:=2) (by kernel_rfl) (by rfl) rfl (λG t=>?_)
  go_simp
  refine t.out _ _ (λ_=>Aa B2) ?_;clear t G
  try simp only[pJ,kR,kT,kU]
  refine F3.one (i:=3) (by kernel_rfl) (by rfl) rfl (λG t=>?_)
  go_simp
  refine t.out _ _ (λ_=>Aa B2) ?_;clear t G
  try simp only[pJ,kR,kT,kU]
  refine F3.one (i:=4) (by kernel_rfl) (by rfl) rfl (λG t=>?_)
  go_simp
  refine t.out _ _ (λ_=>Aa B2) ?_;clear t G
  try simp only[pJ,kR,kT,kU]
  refine F3.one (i:=5) (by kernel_rfl) (by rfl) rfl (λG t=>?_)
  go_simp
  refine(Aa NV).mono ?_;rintro _ w7 ⟨g,rfl,HA,k7⟩;have Ha:Ac [] j w7:=(pO [] j).drew.trans k7;refine t.out _ _ (λ_=>Aa B9 w7 Ha) ?_;clear t G z0 z1 z2
  try simp only[pJ,kR,kT,kU]
  have HY:=Ab (Aa MB g w7 Ha (Am HA (lz _)));have IJ:=Ab Ha;clear HA k7 Ha NV MB B2 B9;refine F3.yield (by kernel_rfl) rfl (q:=l) (args:=#[U (V ⟨g,0,Y⟩) (Z m) (Z m)]) (by rfl) (by first|(simp[go_sem,Oper.semAt];done)|(simp[go_sem,Oper.semAt,execOp,resolve,invoke];done)) (Aa HY) ?_;rintro r w8 (⟨rfl,M6,E0,EM,FC⟩|⟨rfl,M6,E0,EM⟩)
  .refine⟨_,rfl,?_⟩
   try simp only[pJ,kR,kT,kU]
   have HP:Hid (LP (Xn AT l [] C A) (λc _ _ j=>Xz Jx l C A c j) (B++[x]) (l::H) j .normal ⟨#[],[]⟩ w8):=by
    have h7:=(Aa IJ).size;(have IA:l<w8.heap.size:=by have:=EM.size;omega);have o:Ac H j w8:=((Aa IJ).mono (by simp)).trans EM;refine⟨o.mono (λi F=>lY _ F),l::M6,⟨M6,rfl,by rw[mw];exact E0,(Aa H7).step o (λq z=>⟨((FC q z).1).imp id (λh=>by omega),(FC q z).2⟩)⟩,λq z=>?_⟩;rcases kZ.1 z with rfl|z
    .exact⟨oi (mz ..),IA⟩
    .refine⟨?_,(FC q z).2⟩;rcases(FC q z).1 with h|h
     .exact oi (lY _ h)
     .exact oj (by omega)
   clear E0 EM FC HY;refine F3.one (i:=7) (by kernel_rfl) (by rfl) rfl (λG t=>?_)
   go_simp
   refine t.out _ _ (λh=>by cases h) ?_;clear t G;refine F3.done (by kernel_rfl) ?_ _
   try simp only[pJ,kR,kT,kU]
   refine Aa HL _ _ ?_;clear HL K3;refine nW rfl (wpIn_skip ?_);exact Aa HP
  .refine⟨_,rfl,?_⟩
   try simp only[pJ,kR,kT,kU]
   have HP:Hid (LP (Xn AT l [] C A) (λc _ _ j=>Xz Jx l C A c j) (B++[x]) (l::H) j .ret ⟨#[],[]⟩ w8):=by
    have o:Ac (l::H) j w8:=((Aa IJ).mono (by simp)).trans EM;refine⟨o,M6,rfl,⟨_,M6,E0⟩,?_⟩;refine((Aa H7).kept.mono (N:=l::C) (λi F=>lY _ F)).trans' o (λi F=>?_);rcases kZ.1 F with rfl|F
    .exact oi (mz ..)
    .exact(((Aa H7).mem i F).1).imp (λh=>lY _ h) id
   clear E0 EM HY;refine F3.one (i:=7) (by kernel_rfl) (by rfl) rfl (λG t=>?_)
   go_simp
   refine t.out _ _ (λh=>by cases h) ?_;clear t G;refine F3.done (by kernel_rfl) ?_ _
   try simp only[pJ,kR,kT,kU]
   refine Aa HL _ _ ?_;clear HL K3;refine n7 rfl (wpIn_ret ?_);exact Aa HP
 case rdone=>
  intro D n j hD F hd ag;obtain⟨H,rfl,EK,BT⟩:=F.at_;rw[mw]at EK;have hm:Dv W.heap.size [D] j:=⟨by simp,λd P=>by rw[kY]at P;subst P;omega,λd P=>by rw[kY]at P;subst P;exact hd⟩;exact(Aa LE _ [D] j hm (oi ⟨H,EK⟩)).2
 case rstop=>
  intro D c B n j hD S hd;obtain rfl:=S.ret;obtain⟨SP,H,TX⟩:=S.at_;have hm:Dv W.heap.size [D] j:=⟨by simp,λd P=>by rw[kY]at P;subst P;omega,λd P=>by rw[kY]at P;subst P;exact hd⟩;refine wp_ret ?_;exact(Aa LE _ [D] j hm (oj ⟨SP,H,TX⟩)).1
