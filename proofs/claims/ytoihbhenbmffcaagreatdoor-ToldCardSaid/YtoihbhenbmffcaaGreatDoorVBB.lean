import Derived.Maps.OwnOps
import Derived.Maps.Views
import Derived.Carry
import Derived.Test.YtoihbhenbmffcaaGreatDoorVAX
set_option linter.all false
set_option maxHeartbeats 0
open List renaming length->Z
open Option renaming none->Y,some->V
open Go.Value renaming slice->U,int->X,string->O,pointer->Gi,ownBlock->OC
open Bool renaming false->K
open Go.IntKind renaming i64->J
open Go.Obj renaming cells->Dj
open Or renaming inl->Hd,inr->Hf
open Go renaming World->Hq,Value->Hs
open Go.RowKit renaming Hid->JR
open Go.World renaming cell?->Lc,ownsRow->Mi
open Prod renaming fst->O0
open Go.Act renaming put->OD
namespace Go.Proofs.YtoihbhenbmffcaaGreatDoor
open Go.RowKit Go.Proofs.Tryz
variable{s t:bC}{M:QC Nat}{w v u:Hq}{m n k i j b:Nat}{z:Hs}{y x:QC Hs}{T:TypeId}{f:QC Af}
def Ud(x:bC):Lit:=.string x.data.toList
def ej(h:Ud s=Ud t):s=t:=by
 unfold Ud at h;simp only[Lit.string.injEq]at h;obtain⟨⟨a⟩⟩:=s;obtain⟨⟨b⟩⟩:=t;simp at h;rw[h]
def ZA(h:s.size<=1000000):keyOf prog 9 (.string s)=some (Ud s):=by
 rw[keyOf_string underlying9];have a:s.size<=maxLen:=by unfold maxLen;omega
 simp[mapKey,underlying9,Ud,a]
structure EN(w:World)(mb n:Nat)(L:bC->Nat):Prop where
 at_:∃D:DataW Unit,w.ownsMap prog 9 (plainElem prog 3) mb n D/\Maps.IsMap D/\∀x,D.atKey (Ud x) (.lit (.int .i64 0))=.lit (.int .i64 (L x))
def EN.eF{L:bC->Nat}(h:EN w m n L)(k:Ac M w v)(b:m∉M):EN v m n L:=by
 obtain⟨D,⟨f,j,a,d,i,e⟩,g,c⟩:=h.at_;refine⟨D,⟨f,j,?_,d,i,e⟩,g,c⟩;rw[k.block m (mE.1 a).1 b];exact a
def L5(L:bC->Nat)(n:Nat)(x:PL):Nat:=if x.sort=0 then max n (L x.an)else if x.sort=1 then max n (L x.an+1)else n
def Hp(L:bC->Nat)(n:Nat)(ls:QC PL):Nat:=ls.foldl (L5 L) n
def QE(L:bC->Nat):∀(a:QC Bp) (n:Nat),Hp L n (a.map LQ)=a.foldl (Gg L) n
 |[],n=>rfl
 |x::a,n=>by
  have e:L5 L n (LQ x)=Gg L n x:=by
   unfold L5 Gg;have d:=SW x.kind;have c:=dw x.kind;have f:(LQ x).sort=Gb x.kind:=rfl;have b:(LQ x).an=x.A.name:=rfl;rw[f,b,<-d,<-c];simp only[nu]
  unfold Hp;rw[l9,mr,mr,e];exact QE L a _
def Q5(a b:Nat):max (a:Int) (b:Int)=((max a b:Nat):Int):=by omega
set_option maxRecDepth 100000
theorem Qi(v n:Nat)(L:bC->Nat)(Q:Option Addr)(N:Nat)(a:QC Lx)(w:Hq)(M:EN w v n L)(hB:Cd w 0 (U Q (Z a) N) a)(ES:Z a<=1000)(T:∀x,L x<=100000)(Ax:∀p∈a,p.1.an.size<=1000000):
  Calls prog 195 #[.map (V v),U Q (Z a) N] w λr w'=>r=.returned (X J (Hp L 0 (a.map O0):Nat))/\Ac [] w w':=by
 have CC:=Ab hB;have B0:=Ab M;have BT:=Ab T;have EK:=Ab Ax;obtain⟨R,H⟩:=QP (Hp L 0 (a.map O0));have q:JR (Hp L 0 ((a.drop 0).map O0)=R):=H;rw[H];clear hB M T Ax H;go_enter func195,ntmps195;go_wp2_with fail
 go_loopg [5,10] (Z a) (λgk o i wr=>∃(k m:Nat),o=X J m/\i=X J k/\k<=Z a/\gk=Z a-k/\m<=200000/\JR (Hp L m ((a.drop k).map O0)=R)/\JR (Ac [] w wr))
 case atStart=>exact⟨0,0,rfl,rfl,by omega,rfl,by omega,q,SF _ _⟩
 case round=>
  clear q;obtain⟨k,m,rfl,rfl,hk,S,hm,q,z⟩:=hrel;have C:=Ab S;clear S;by_cases B:k<Z a
  .obtain⟨g,E0,x,AB,W,he,G,_,d0,d1,d2,d3,d4,d5,d6,d7,d8⟩:=Vt (CC.kept z) k B;simp only[lB]at he;obtain⟨rfl,_,rfl⟩:=he;(have AH:(x,U AB (Z x.ts) W)∈a:=by rw[<-G];exact lE B);have E:=ZA (EK _ AH);have Bx:=Aa BT x.an;have y:JR (Hp L (L5 L m x) ((a.drop (k+1)).map O0)=R):=by
    have h:=Aa q;rw[lY B,l9,G]at h;exact h
   have t:=Ab (z.alloc (Dj (Ay (x,U AB (Z x.ts) W)).toArray 217));obtain⟨D,A,_,P⟩:=(B0.eF t (by simp)).at_;have u:=Ab (P x.an);have d:JR (L5 L m x=if x.sort=0 then max m (L x.an)else if x.sort=1 then max m (L x.an+1)else m):=rfl;clear P G AH q z;generalize L5 L m x=LM at d y;obtain⟨f,I⟩:=QP (L x.an);rw[I]at Bx u d;clear I;obtain⟨pl,j,ap,an,ts,⟨lv,FW⟩,⟨rv,FC⟩⟩:=x;simp only[Ay]at t A E d u d0 d1 d2 d3 d4 d5 d6 d7 d8;by_cases e:j=0
   ·(have CL:(j==0)=true:=by simp[e]);(have b:JR (LM=max m f):=by show _=_;rw[Aa d,lS e]);clear e d;go_wp2_with (at_lookup;refine wpList_lookup_own_int _ rfl _ _ 269 rfl 9 3 J (Maps.string_keyed underlying9) underlying269 underlying3 (zeroValue3 _) v n D rfl A _ _ rfl E ?_;intro c s F;obtain rfl:c=(f:Int):=(by have h:=s.symm.trans u;simpa using h);clear s F)
    go_roundg (Z a-(k+1))
    case measure=>have:=Aa C;omega
    case rel=>exact⟨k+1,LM,by first|(rw[Aa b,<-Q5];done)|(rw[Aa b,<-Q5];rfl),by go_num,by omega,rfl,by rw[Aa b];omega,y,t⟩
   ·(have CL:(j==0)=K:=by simp[e]);by_cases l:j=1
    ·(have AT:(j==1)=true:=by simp[l]);(have b:JR (LM=max m (f+1)):=by show _=_;rw[Aa d,lO e,lS l]);(have EX:IntKind.i64.wrap ((f:Int)+1)=(f:Int)+1:=by rw[nU];omega);clear e l d;go_wp2_with (at_lookup;refine wpList_lookup_own_int _ rfl _ _ 269 rfl 9 3 J (Maps.string_keyed underlying9) underlying269 underlying3 (zeroValue3 _) v n D rfl A _ _ rfl E ?_;intro c s F;obtain rfl:c=(f:Int):=(by have h:=s.symm.trans u;simpa using h);clear s F)
     go_roundg (Z a-(k+1))
     case measure=>have:=Aa C;omega
     case rel=>exact⟨k+1,LM,by first|(rw[Aa b,<-Q5];done)|(rw[Aa b,<-Q5];rfl),by go_num,by omega,rfl,by rw[Aa b];omega,y,t⟩
    ·(have AT:(j==1)=K:=by simp[l]);(have b:JR (LM=m):=by show _=_;rw[Aa d,lO e,lO l]);clear e l d;go_wp2
     go_roundg (Z a-(k+1))
     case measure=>have:=Aa C;omega
     case rel=>exact⟨k+1,LM,by rw[Aa b],by go_num,by omega,rfl,by rw[Aa b];omega,y,t⟩
  .have b:JR (m=R):=by
    have h:=Aa q;rw[mp (by omega)]at h;exact h
   go_wp2;go_ret;rw[Aa b];exact⟨rfl,z⟩
def F2.at{α β:Type}{R:α->β->Prop}:∀{l:QC α} {m:QC β},F2 R l m->∀k (c:k<Z l) (d:k<Z m),R l[k] m[k]
 |[],[],_,k,c,_=>by simp at c
 |a::l,b::m,h,0,_,_=>h.1
 |a::l,b::m,h,k+1,c,d=>F2.at (l:=l) (m:=m) h.2 k (by simpa using c) (by simpa using d)
def EN.put{b:World}{c n:Nat}{L:bC->Nat}{D:DataW Unit}{x:bC}{v:Nat}(f:Maps.IsMap D)(d:∀y,D.atKey (Ud y) (.lit (.int .i64 0))=.lit (.int .i64 (L y)))(h:b.ownsMap prog 9 (plainElem prog 3) c n (D.put (Ud x) (.lit (.int .i64 v)))):EN b c n (P6 L x v):=by
 refine⟨_,h,?_,λy=>?_⟩
 .obtain⟨g,i,_,_,_,e⟩:=h;exact⟨_,e⟩
 .by_cases a:y=x
  .subst a;rw[Hl,Maps.atKey_put_same f (by unfold Ud;exact trivial)]
  .rw[JU _ a,Maps.atKey_put_other (λe=>a (ej e))];exact d y
def EN.mono{w:Hq}{b n a:Nat}{L:bC->Nat}(h:EN w b n L)(e:n<=a):EN w b a L:=by
 obtain⟨D,d,c⟩:=h.at_;exact⟨D,d.mono e,c⟩
def To:∀(a:QC A7),EP a (λ_=>0)=0
 |[]=>rfl
 |c::a=>by
  have e:EP (c::a) (λ_=>0)=0+EP a (λ_=>0):=by unfold EP;rw[l9,List.sum_cons]
  rw[e,To a]
def Zg(x:bC):(DataW.map []:DataW Unit).atKey (Ud x) (.lit (.int .i64 0))=.lit (.int .i64 0):=by
 first|rfl|(unfold Ud;rfl)|simp[DataW.atKey]
def jp(rcs:QC A7)(dp:bC->Nat)(w:Hq)(r:Ending)(w':Hq):Prop:=∃(mb n:Nat) (L:bC->Nat),r=.returned (.map (V mb))/\EN w' mb n L/\CX rcs L/\(∀x,L x<=dp x)/\w.heap.size<=mb/\Ac [] w w'
theorem Oq(HT:Option Addr)(HP:Nat)(f:QC DF)(d:QC A7)(w:World)(l:bC->Nat)(hP:DK w (.slice HT f.length HP) f)(hC:F2 RY f d)(LB:f.length<=1000)(HR:∀c∈f,c.bm.length<=1000)(FT:∀c∈f,c.hn.size<=1000000/\∀p∈c.bm,p.1.an.size<=1000000)(hL:CX d l)(HU:∀x,l x<=1000)(HE:EP d l<=100000):
  Calls prog 166 #[.slice HT f.length HP] w λr w'=>jp d l w r w':=by
 have HV:=Ab hP;have K4:=Ab hC;have H0:=Ab HR;have H4:=Ab FT;have HW:=Ab hL;have M:=Ab HU;have IJ:=Ab HE;have FP:=Ab hC.lenX;have W:Hid (EN (w.alloc (.map #[] 0)) w.heap.size 0 (λ_=>0)):=⟨.map [],World.ownsMap_made w _ _ _,⟨_,rfl⟩,Zg⟩;have EM:=Ab ((SF [] w).alloc (.map #[] 0));have K2:= @run_makeMap prog;obtain⟨n,Ax⟩:∃n,w.heap.size=n:=⟨_,rfl⟩;have FF:=Ab Ax;clear hP hC HR FT hL HU HE;go_enter func166,ntmps166;go_wp2_with fail
 generalize hw1:w.alloc (.map #[] 0)=w1 at W EM⊢;clear hw1 K2;rw[Ax]at W
 try rw[Ax]
 clear Ax
 go_loopg [4] (EP d l+2) (λgk rv wr=>∃(R:Bool) (L:bC->Nat),rv=.bool R/\gk=(if R then EP d l-EP d L+2 else 1)/\Hid (EN wr n (EP d L) L)/\Hid (∀x,L x<=l x)/\Hid (R=false->CX d L)/\Hid (Ac [] w wr))
 case atStart=>
  refine⟨true,λ_=>0,rfl,?_,W.mono (lW _),λx=>lW _,λh=>(by cases h),EM⟩;rw[lS rfl,To,Nat.sub_zero]
 case round=>
  clear W EM;obtain⟨R,L,rfl,HS,u,Bx,K3,s⟩:=hrel;have HG:=Ab HS;clear HS;cases R with
  |false=>
   have H1:=Ab (K3 rfl);go_wp2;go_ret;exact⟨n,_,L,rfl,u,H1,Bx,by have:=Aa FF;omega,s⟩
  |true=>
   go_wp2_with fail
   go_loopg [4,12] f.length (λK9 rv i wq=>∃(k:Nat) (m:Bool) (a:bC->Nat),rv=.bool m/\i=.int .i64 k/\k<=f.length/\K9=f.length-k/\Hid ((d.take k).foldl E2 (L,false)=(a,m))/\Hid (EN wq n (EP d a) a)/\Hid (Ac [] w wq))
   case atStart=>exact⟨0,false,L,rfl,rfl,by omega,rfl,rfl,u,s⟩
   case round=>
    clear u s;obtain⟨k,m,a,rfl,rfl,hk,HA,AH,u,s⟩:=hrel;have HI:=Ab HA;clear HA;have FC:Hid ((∀x,a x<=l x)/\EP d a<=EP d l):=by
     have h:=Ke HW (d.take k) L false (λc hc=>nk hc) Bx;rw[Aa AH]at h;exact⟨h.2.1,Zy h.2.1⟩
    by_cases A0:k<f.length
    ·(have BB:k<d.length:=by have:=Aa FP;omega);have T:=K4.at k A0 BB;obtain⟨g,LS,hp,e,ES,FB,AB,Q,P,o,he,Go,d0,d1,d2,d3⟩:=F9 (HV.kept s) k A0;simp only[lB]at he;obtain⟨rfl,-,rfl⟩:=he;have N:f[k]∈f:=lE A0;have CL:=HV.each _ N;have BS:=Aa H0 _ N;have G:=Aa H4 _ N;rw[Go]at T CL BS G;have EK:=Ab (s.alloc (.cells #[.int .i64 hp,.string e,.slice FB ES.length AB,.slice Q o.length P] 189));have E0:=Ab (u.eF ((SF [] wr).alloc (.cells #[.int .i64 hp,.string e,.slice FB ES.length AB,.slice Q o.length P] 189)) (by simp));have Ha:=Ab (Tc wr [.int .i64 hp,.string e,.slice FB ES.length AB,.slice Q o.length P] 189);have z:=Aa FC;have A1:=Ab (Qi n (EP d a) a Q P o _ E0 (CL.body.kept EK (by simp)) BS (λx=>by have:=z.1 x;have:=Aa M x;omega) G.2);have BT:Hp a 0 (o.map Prod.fst)=G4 a (Am d[k]):=by
      have t:=F2.fst T.lits;simp only at t;rw[t,QE];rfl
     have C:e=d[k].head.name:=T.hn;have DY:Hid ((d.take (k+1)).foldl E2 (L,false)=E2 (a,m) d[k]):=by
      show _=_;rw[lF BB,mL,Aa AH];rfl
     have CC:Hid (E2 (a,m) d[k]=if a e<Hp a 0 (o.map Prod.fst)then(P6 a e (Hp a 0 (o.map Prod.fst)),true)else(a,m)):=by
      show _=_;unfold E2;rw[BT,C]
     have KK:Hid (∀v,a e<v->EP d a+1<=EP d (P6 a e v)):=by
      intro v hv;refine gn (λx=>?_) (lE BB) ?_
      .by_cases hx:x=e
       .rw[hx,Hl];omega
       .rw[JU _ hx];exact lX _
      .rw[<-C,Hl];exact hv
     have B9:=ZA G.1;have I:=z.1 e;have H9:=Aa M e;(have LM:Hid (a e<=1000):=by show a e<=1000;omega);(have KD:Hid (EP d a<=100000):=by have:=z.2;have:=Aa IJ;show EP d a<=100000;omega);have HF:Hid (Hp a 0 (o.map Prod.fst)<=100000):=by
      have h:=OK (L:=a) (b:=2000) (Am d[k]) 0 (by omega) (λx hx=>⟨λ_=>by have:=z.1 x.A.name;have:=Aa M x.A.name;omega,λ_=>by have:=z.1 x.A.name;have:=Aa M x.A.name;omega⟩);rw[BT];have t:G4 a (Am d[k])<=2000:=h;show G4 a (Am d[k])<=100000;omega
     clear T CL BS G N Go z BT C I H9;obtain⟨j,HX⟩:∃j,Hp a 0 (o.map Prod.fst)=j:=⟨_,rfl⟩;rw[HX]at A1 CC HF;clear HX s u FC;(go_wp2_with fail);refine A1.mono ?_;rintro _ w3 ⟨rfl,S⟩;have HQ:=Ab (EK.trans S);have A2:=E0.eF S (by simp);have K8:=Ab A2;have AT:=Ha.kept S (by simp);have e0:=AT.cell 0;have e1:=AT.cell 1;simp at e0 e1;obtain⟨D,EX,HL,hD⟩:=A2.at_;have JJ:=Ab HL;have HD:=Ab hD;obtain⟨y,I⟩:∃y,a e=y:=⟨_,rfl⟩;have E:=Ab I;clear A2 AT Ha E0 EK A1 S d0 d1 d2 d3 HL hD I;by_cases FL:y<j
     ·(have K1:(y:Int)<(j:Int):=by omega);have K7:plainElem (H:=Unit) prog 3 (.int .i64 (j:Int))=some (.lit (.int .i64 (j:Int)),[]):=plainElem_int underlying3 (by
       have:=Aa HF
       simp[Lit.wf,IntKind.min,IntKind.max,IntKind.signed,IntKind.bits]
       omega)
      (have C:EP d a<maxLen:=by have:=Aa KD;unfold maxLen;omega);clear FL;go_wp2_with (first
       |(at_lookup;refine wpList_lookup_own_int _ rfl _ _ 269 rfl 9 3 .i64 (Maps.string_keyed underlying9) underlying269 underlying3 (zeroValue3 _) n (EP d a) D rfl EX _ _ rfl B9 ?_;intro c F DT;obtain rfl:c=(y:Int):=(by have h:=F.symm.trans (HD e);rw[Aa E]at h;simpa using h);clear F DT)
       |(at_mapUpdate;refine wpList_mapUpdate_own _ rfl _ _ _ 269 rfl 9 3 (Maps.string_keyed underlying9) underlying269 _ n (EP d a) D rfl EX C _ _ (Ud e) rfl rfl B9 _ [] K7 ?_;intro w4 H6 H3))
      have IS:Hid (EN w4 n (EP d (P6 a e j)) (P6 a e j)):=(EN.put JJ HD H6).mono (KK j (by have:=Aa E;omega));have K5:Hid (Ac [] w w4):=HQ.grown H3 (λq hq=>Or.inr (by simp only[lL]at hq;have:=Aa FF;omega));have B2:Hid ((d.take (k+1)).foldl E2 (L,false)=(P6 a e j,true)):=by show _=_;rw[Aa DY,Aa CC,lS (by have:=Aa E;omega)]
      go_roundg (f.length-(k+1))
      case measure=>have:=Aa HI;omega
      case rel=>exact⟨k+1,true,P6 a e j,rfl,by go_num,by omega,rfl,B2,IS,K5⟩
     ·(have K1:¬(y:Int)<(j:Int):=by omega);(have B2:Hid ((d.take (k+1)).foldl E2 (L,false)=(a,m)):=by show _=_;rw[Aa DY,Aa CC,lO (by have:=Aa E;omega)]);clear FL;go_wp2_with (at_lookup;refine wpList_lookup_own_int _ rfl _ _ 269 rfl 9 3 .i64 (Maps.string_keyed underlying9) underlying269 underlying3 (zeroValue3 _) n (EP d a) D rfl EX _ _ rfl B9 ?_;intro c F DT;obtain rfl:c=(y:Int):=(by have h:=F.symm.trans (HD e);rw[Aa E]at h;simpa using h);clear F DT)
      go_roundg (f.length-(k+1))
      case measure=>have:=Aa HI;omega
      case rel=>exact⟨k+1,m,a,rfl,by go_num,by omega,rfl,B2,K8,HQ⟩
    .have HB:Hid (Ml d L=(a,m)):=by
      have h:=Aa AH;rw[lH (by have:=Aa FP;omega)]at h;exact h
     have FW:=Ab (YZ HW Bx);go_wp2_with fail
     go_roundg (if m then EP d l-EP d a+2 else 1)
     case measure=>
      have B:=Aa FW;rw[Aa HB]at B;have t:=Aa HG;simp only[if_true]at t;cases m with
      |true=>
       have h3:=B.2.2.1 rfl;have h4:=B.2.2.2;simp only at h3 h4;simp only[if_true];omega
      |false=>
       simp only[lJ,if_false];omega
     case rel=>
      refine⟨m,a,rfl,rfl,u,λx=>FC.1 x,λhm=>?_,s⟩;have B:=FW.2.1;rw[Aa HB]at B;obtain⟨t,h3⟩:=B hm;simp only at t;rw[t];exact h3
theorem Tryz.zp:(Tryz.prog.info? 221).map (λi=>(i.zero,i.size,i.bytes))=V (V (U Y 0 0),1,24):=by kernel_rfl
abbrev P8:=QC Nat×Hs
structure Ev(w:Hq)(base:Nat)(pv:Hs)(ps:QC P8):Prop where
 row:Mi w base 221 1 pv (Z ps) (ps.flatMap λp=>[p.2])
 each:∀p∈ps,Mi w base 3 1 p.2 (Z p.1) (p.1.flatMap Ck)
 apart:ps.Pairwise λa b=>∀q,a.2.ownBlock=V q->b.2.ownBlock≠V q
def Ev.kept{w w':Hq}{a:QC P8}(h:Ev w n z a)(k:Ac [] w w'):Ev w' n z a:=⟨Ad h.row k,λp b=>Ad (h.each p b) k,h.apart⟩
def bW{a:Hs}(h:Mi w k 3 1 z n y)(c:Mi w i 221 1 a m x)(b:w.grownBy u a.ownBlock):Mi u k 3 1 z n y:=
 m0 h b (by
  cases hp:z.ownBlock with
  |none=>exact Hd rfl
  |some q=>exact Hf (λe=>Bg h c (by decide) q hp e.symm))
def Tv{a:QC P8}(h:Ev w n z a)(k:Nat)(i:k<Z a):∃g j f b,z=U (V ⟨g,0,Y⟩) (Z a) j/\a[k].2=U f a[k].1.length b/\Lc w ⟨g,k,Y⟩=V (U f a[k].1.length b):=by
 obtain⟨g,j,l,_,m⟩:=AC h.row (λc _=>rfl) k i;have d:=m k i 0 (by omega);obtain⟨f,b,e⟩:=Ak (h.each _ (lE i));simp[e]at d;exact⟨g,j,f,b,l,e,d⟩
structure I2(f:Nat->Nat)(k:Nat)(ps:QC P8):Prop where
 lists:∀j (hj:j<Z ps),ps[j].1=(List.range k).filter λi=>f i==j
 top:∀i,i<k->f i<Z ps
 len:Z ps<=1001
def I2.more{f:Nat->Nat}{a:QC P8}(h:I2 f k a)(l:Z a<=1000)(v:Hs):I2 f k (a++[([],v)]):=by
 refine⟨λj d=>?_,λi b=>by have:=h.top i b;simp;omega,by simp;omega⟩;by_cases c:j<Z a
 .rw[mT c];exact h.lists j c
 .have e:j=Z a:=by simp at d;omega
  subst e;rw[List.getElem_append_right (lX _)];simp only[Nat.sub_self,ox]
  symm
  rw[pg];intro i b g;have m:=h.top i (pu.1 b);have:f i=Z a:=by simpa using g
  omega
def I2.put{f:Nat->Nat}{a:QC P8}(h:I2 f k a)(b:f k<Z a)(v:Hs):I2 f (k+1) (a.set (f k) (a[f k].1++[k],v)):=by
 refine⟨λj c=>?_,λi l=>?_,by rw[nj];exact h.len⟩
 .have d:j<Z a:=by rw[nj]at c;exact c
  rw[List.range_succ,nZ,List.getElem_set];split
  .rename_i e;subst e;simp only;rw[h.lists _ b]
   congr 1
   simp
  .rename_i e;rw[h.lists j d];(have:([k].filter λi=>f i==j)=[]:=by simp;exact e);rw[this,mz]
 .rw[nj];by_cases g:i=k
  .rw[g];exact b
  .exact h.top i (by omega)
def b8(b:QC P8)(j:Nat)(x:P8):(b.set j x).flatMap (λp=>[p.2])=(b.flatMap λp=>[p.2]).set j x.2:=by
 have e:∀l:QC P8,l.flatMap (λp=>[p.2])=l.map λp=>p.2:=λl=>by
  induction l with
  |nil=>rfl
  |cons a l ih=>simp[ih]
 rw[e,e,pV]
def Ev.put{w r z:Hq}{g B:Nat}{c:QC P8}(s:j<Z c){x:P8}(h:Ev w m (U (V ⟨g,0,Y⟩) (Z c) B) c)(F:w.grownBy r c[j].2.ownBlock)(N:Mi r m 3 1 x.2 (Z x.1) (x.1.flatMap Ck))(E:∀q,x.2.ownBlock=V q->c[j].2.ownBlock=V q\/w.heap.size<=q)
  (D:z=r.setCell ⟨g,j,Y⟩ x.2):Ev z m (U (V ⟨g,0,Y⟩) (Z c) B) (c.set j x):=by
 have P:=h.each _ (lE s);have G:Mi r m 221 1 (U (V ⟨g,0,Y⟩) (Z c) B) (Z c) (c.flatMap λp=>[p.2]):=m0 h.row F (Hf (λe=>Bg h.row P (by decide) g rfl e.symm));have L:∀i (f:i<Z c),i≠j->Mi r m 3 1 c[i].2 c[i].1.length (c[i].1.flatMap Ck):=λi f I=>m0 (h.each _ (lE f)) F (by
  cases t:c[i].2.ownBlock with
  |none=>exact Hd rfl
  |some q=>
   refine Hf (λe=>?_)
   have l:=nO.1 h.apart
   rcases Nat.lt_or_gt_of_ne I with d|d
   .exact l i j f s d q t e.symm
   .exact l j i s f d q e.symm t)
 have H:∀{v:Hs} {n:Nat} {C:QC Hs},Mi r m 3 1 v n C->Mi z m 3 1 v n C:=fun{v n C} hv=>by
  rw[D];exact Ah hv (λe=>Bg hv G (by decide) g e rfl) _
 refine⟨?_,λp t=>?_,?_⟩
 .rw[nj,b8,D];exact BG G j x.2
 .obtain⟨i,f,rfl⟩:=mw t;rw[nj]at f;rw[List.getElem_set];split
  .exact H N
  .rename_i e;exact H (L i f (λM=>e M.symm))
 .have l:=nO.1 h.apart;refine nO.2 (λa b y u A q o k=>?_);rw[nj]at y u;rw[List.getElem_set]at o k;split at o
  .rename_i e;subst e;rw[lO (by omega)]at k;rcases E q o with d|d
   .exact l j b s u A q d k
   .have:=((h.each _ (lE u)).lt q k).2;omega
  .split at k
   .rename_i e;subst e;rcases E q k with d|d
    .exact l a j y s A q o d
    .have:=((h.each _ (lE y)).lt q o).2;omega
   .exact l a b y u A q o k
def G6(pcs:QC DF)(i:Nat):bC:=((pcs[i]?).map DF.hn).getD ByteArray.empty
def aH(pcs:QC DF)(rcs:QC A7)(dp:bC->Nat)(w:Hq)(r:Ending)(w':Hq):Prop:=∃(ad:Option Addr) (cp:Nat) (ps:QC P8) (L:bC->Nat),r=.returned (U ad (Z ps) cp)/\Ev w' w.heap.size (U ad (Z ps) cp) ps/\I2 (λi=>L (G6 pcs i)) (Z pcs) ps/\CX rcs L/\(∀x,L x<=dp x)/\Ac [] w w'
theorem Y0(HF:Option Addr)(HB:Nat)(m:QC DF)(AB:QC A7)(w:Hq)(AH:bC->Nat)(hP:DK w (U HF (Z m) HB) m)(hC:F2 RY m AB)(KD:Z m<=1000)(H7:∀c∈m,Z c.bm<=1000)(E0:∀c∈m,c.hn.size<=1000000/\∀p∈c.bm,p.1.an.size<=1000000)(hL:CX AB AH)(HH:∀x,AH x<=1000)(HX:EP AB AH<=100000):
  Calls prog 123 #[U HF (Z m) HB] w λr w'=>aH m AB AH w r w':=by
 obtain⟨i0,Nq,K6,NL,M2⟩:=mH Tryz.zp;obtain⟨j0,K2,Nj,JA,K7⟩:=mH Tryz.zX;have NV:=Ab hP;have K1:=Ab E0;have LB:=Ab HH;have HZ:=Ab (Oq HF HB m AB w AH hP hC KD H7 E0 hL HH HX);obtain⟨z,H1⟩:=QP w.heap.size;have W:=Ab H1;clear hP hC H7 E0 hL HH HX H1;go_enter func123,ntmps123;go_wp2_with fail
 refine HZ.mono ?_;rintro _ w1 ⟨H,n,L,rfl,hM,H5,IS,NM,k1⟩;have IJ:=Ab hM;have KA:=Ab H5;have HS:=Ab IS;have HL:=Ab k1;have NX:JR (z<=H):=by have:=Aa W;show z<=H;omega
 clear HZ hM H5 IS NM k1;go_wp2_with fail
 go_loopg [4,12] (Z m) (λgk pv i wr=>∃(k:Nat) (f:QC P8) (E:Option Addr) (y:Nat),pv=U E (Z f) y/\i=X J k/\k<=Z m/\gk=Z m-k/\JR (I2 (λi=>L (G6 m i)) k f)/\JR (Ev wr z (U E (Z f) y) f)/\JR (EN wr H n L)/\JR (Ac [] w wr))
 case atStart=>exact⟨0,[],Y,0,rfl,rfl,by omega,rfl,⟨λj hj=>by simp at hj,λi hi=>by omega,by simp⟩,⟨mf _ _ _ _,λp P=>by simp at P,List.Pairwise.nil⟩,IJ,HL⟩
 case round=>
  clear IJ HL;obtain⟨k,f,E,y,rfl,rfl,hk,Ix,S,F,Q,N⟩:=hrel;have HG:=Ab Ix;clear Ix;by_cases FC:k<Z m
  .obtain⟨g,NB,P,I,CC,DT,BB,B2,BT,BS,he,FB,d0,d1,d2,d3⟩:=F9 (NV.kept N) k FC;simp only[lB]at he;obtain⟨rfl,-,rfl⟩:=he;have ES:=(K1 _ (lE FC)).1;rw[FB]at ES;have H0:=ZA ES;have MY:JR (G6 m k=I):=by
    show _=_;unfold G6;rw[lN FC,FB];rfl
   (have Mo:L I<=1000:=by have:=Aa HS I;have:=Aa LB I;omega);have FW:=Ab (N.alloc (Dj #[X J P,O I,U DT (Z CC) BB,U B2 (Z BS) BT] 189));have EX:=Q.eF ((SF [] wr).alloc (Dj #[X J P,O I,U DT (Z CC) BB,U B2 (Z BS) BT] 189)) (by simp);have HE:=Ab EX;have A2:=Ab (F.kept ((SF [] wr).alloc (Dj #[X J P,O I,U DT (Z CC) BB,U B2 (Z BS) BT] 189)));obtain⟨D,H4,M6,hD⟩:=EX.at_;have HD:=Ab (hD I);obtain⟨l,FT⟩:=QP (L I);rw[FT]at HD Mo;(have K4:JR (L (G6 m k)=l):=by show _=_;rw[Aa MY];exact FT);clear EX M6 hD ES FB FT F Q N;go_wp2_with (at_lookup;refine wpList_lookup_own_int _ rfl _ _ 269 rfl 9 3 J (Maps.string_keyed underlying9) underlying269 underlying3 (zeroValue3 _) H n D rfl H4 _ _ rfl H0 ?_;intro c H9 M3;obtain rfl:c=(l:Int):=(by have h:=H9.symm.trans HD;simpa using h);clear H9 M3)
   clear H4 HD H0 d0 d1 d2 d3;generalize wr.alloc (Dj #[X J P,O I,U DT (Z CC) BB,U B2 (Z BS) BT] 189)=wa at FW HE A2⊢
   go_loopg [4] (l+2-Z f) (λNN pv wq=>∃(f:QC P8) (E:Option Addr) (y:Nat),pv=U E (Z f) y/\NN=l+2-Z f/\JR (I2 (λi=>L (G6 m i)) k f)/\JR (Ev wq z (U E (Z f) y) f)/\JR (EN wq H n L)/\JR (Ac [] w wq))
   case atStart=>exact⟨f,E,y,rfl,rfl,S,A2,HE,FW⟩
   case round=>
    clear S A2 HE FW;obtain⟨f,E,y,rfl,IA,S,F,Q,N⟩:=hrel;have M1:=Ab IA;clear IA;(have Os:z<=wr.heap.size:=by have:=N.size;have:=Aa W;omega);by_cases N2:Z f<=l
    ·(have L0:(Z f:Int)<=(l:Int):=by omega);have v:=F.row;go_wp2_with (at_builtin;refine me _ rfl (.tmp 26) (.tmp 27) _ rfl z 221 i0 _ 1 24 underlying219 Nq K6 NL M2 rfl (by omega) (U E (Z f) y) (Z f) (f.flatMap λp=>[p.2]) rfl (lM v _) ⟨wr.heap.size,0,Y⟩ 1 1 [U Y 0 0] rfl rfl (mg (mo wr _)) (by simp[Value.oneCell']) (by omega) (by unfold maxLen;omega) (by omega) (by simp;omega) (wr.heap.size+1) (by simp) ?_;intro G C u AR A BA FA)
     have B0:=Ab (S.more (by omega) (U Y 0 0));have AO:JR (Ev u z (U (V ⟨G,0,Y⟩) (Z (f++[([],U Y 0 0)])) C) (f++[([],U Y 0 0)])):=by
      refine⟨?_,λp P=>?_,?_⟩
      .rw[mm];simp only[lU,lQ,mn,mC,mc,mS,mz];exact AR
      .rcases lV.1 P with h|h
       .exact bW (lM (F.each p h) _) (lM v _) A
       .simp only[lG]at h;subst h;exact mf _ _ _ _
      .rw[pq];refine⟨F.apart,by simp,λa ha b B q _ s=>?_⟩;simp only[lG]at B;subst B;simp[OC]at s
     have HI:Ac [] w u:=(N.alloc (Dj #[U Y 0 0] 221)).grown A (λq s=>Hf (by have:=(v.lt q s).1;have:=Aa W;omega));have EK:JR (EN u H n L):=by
      have CL:=Q.eF ((SF [] wr).alloc (Dj #[U Y 0 0] 221)) (by simp);refine CL.eF (M:=(U E (Z f) y).ownBlock.toList) ((SF _ _).grown A (λq s=>Hd (by rw[s];simp))) (λT=>?_);obtain⟨D,⟨es,HP,B,_⟩,_⟩:=CL.at_;rcases(lM v (Dj #[U Y 0 0] 221)).2 with⟨e,_⟩|⟨g',c',HO,e,_,AT,_⟩
      .rw[e]at T;simp[OC]at T
      .rw[e]at T;simp[OC]at T;subst T;rw[AT]at B;cases B
     have B9:=Ab HI;clear AR A BA FA v HI
     go_roundg (l+2-(Z f+1))
     case measure=>have:=Aa M1;omega
     case rel=>exact⟨f++[([],U Y 0 0)],V ⟨G,0,Y⟩,C,by simp,by simp,B0,AO,EK,B9⟩
    ·(have L0:¬(Z f:Int)<=(l:Int):=by omega);(have R:l<Z f:=by omega);(have N4:(0:Int)<=(l:Int):=by omega);(have Op:(l:Int)<(Z f:Int):=by omega);obtain⟨g,NB,Ax,Bx,he,hv,HT⟩:=Tv F l R;simp only[lB]at he;obtain⟨rfl,-,rfl⟩:=he;have v:=F.each _ (lE R);rw[hv]at v;have HV:=Ab hv;have Nd:f[l].1.length<=1000:=by
      rw[(Aa S).lists l R];have:=nr (λi=>L (G6 m i)==l) (List.range k);rw[List.length_range]at this;omega
     obtain⟨o,HC⟩:=QP (f[l].1);have NA:=Ab HC;rw[HC]at v Nd HT HV;clear HC hv;have A1:=F.row;have A2:=Ab (F.kept ((SF [] wr).alloc (Dj #[X J k] 3)));have LS:JR (∀u:Hq,(wr.alloc (Dj #[X J k] 3)).grownBy u (U Ax (Z o) Bx).ownBlock->Mi u z 221 1 (U (V ⟨g,0,Y⟩) (Z f) y) (Z f) (f.flatMap λp=>[p.2])/\u.frozen? ⟨g,l,Y⟩=K/\Lc u ⟨g,l,Y⟩=V (U Ax (Z o) Bx)):=by
      intro u A;have Go:Mi u z 221 1 (U (V ⟨g,0,Y⟩) (Z f) y) (Z f) (f.flatMap λp=>[p.2]):=m0 (lM A1 (Dj #[X J k] 3)) A (Hf (λe=>Bg A1 v (by decide) g rfl e.symm));obtain⟨g',NY,HN,_,K8⟩:=AC Go (λc _=>rfl) l R;simp only[lB,lL,mu]at HN;obtain⟨⟨rfl,-,-⟩,-,-⟩:=HN;have d:=K8 l R 0 (by omega);simp[Aa HV]at d;exact⟨Go,Go.frozenAt l,d⟩
     go_wp2_with (at_builtin;refine me _ rfl (.tmp 34) (.tmp 36) _ rfl z 3 j0 _ 1 8 underlying221 K2 Nj JA K7 rfl (by omega) (U Ax (Z o) Bx) (Z o) (o.flatMap Ck) rfl (lM v _) ⟨wr.heap.size,0,Y⟩ 1 1 [X J k] rfl rfl (mg (mo wr _)) (by simp[Value.oneCell']) (by omega) (by unfold maxLen;omega) (by omega) (by simp;omega) (wr.heap.size+1) (by simp) ?_;intro G C u AR A BA FA;have n9:=Aa LS u A;have f9:=n9.2.1;have c9:=n9.2.2;clear n9)
     have hx:Mi u z 3 1 (U (V ⟨G,0,Y⟩) (Z (o++[k])) C) (Z (o++[k])) ((o++[k]).flatMap Ck):=by
      rw[mm];simp only[lU,lQ,mn,mC,mc,mS,mz];exact AR
     have AO:=Ab (Ev.put (x:=(o++[k],U (V ⟨G,0,Y⟩) (Z (o++[k])) C)) R A2 (by rw[Aa HV];exact A) hx (λq s=>by
      simp only[OC,lL]at s
      subst s
      rw[Aa HV]
      rcases BA with h|h
      .exact Hd h
      .exact Hf (by simp;omega)) rfl)
     have B0:JR (I2 (λi=>L (G6 m i)) (k+1) (f.set l (o++[k],U (V ⟨G,0,Y⟩) (Z (o++[k])) C))):=by
      have hf:=Aa K4;have h:=S.put (by simp only[hf];exact R) (U (V ⟨G,0,Y⟩) (Z (o++[k])) C);simp only[hf]at h;rw[Aa NA]at h;exact h
     have KS:=lM v (Dj #[X J k] 3);have HR:∀q,(U Ax (Z o) Bx).ownBlock=V q->q≠H:=by
      intro q s e;subst e;obtain⟨D,⟨es,HP,B,_⟩,_⟩:=Q.at_;rcases v.2 with⟨e,_⟩|⟨g',c',HO,e,_,AT,_⟩
      .rw[e]at s;simp[OC]at s
      .rw[e]at s;simp[OC]at s;subst s;rw[AT]at B;cases B
     have MN:g≠H:=by
      intro e;subst e;obtain⟨D,⟨es,HP,B,_⟩,_⟩:=Q.at_;rcases A1.2 with⟨e,_⟩|⟨g',c',HO,e,_,AT,_⟩
      .cases e
      .simp only[lB,lL,mu]at e;obtain⟨⟨rfl,-,-⟩,-,-⟩:=e;rw[AT]at B;cases B
     have EK:JR (EN (u.setCell ⟨g,l,Y⟩ (U (V ⟨G,0,Y⟩) (Z o+1) C)) H n L):=by
      have CL:=Q.eF ((SF [] wr).alloc (Dj #[X J k] 3)) (by simp);have LE:=CL.eF (M:=(U Ax (Z o) Bx).ownBlock.toList) ((SF _ _).grown A (λq s=>Hd (by rw[s];simp))) (λT=>HR H (by simpa using T) rfl);exact LE.eF (M:=[g]) ((SF [g] u).setCell (p:=⟨g,l,Y⟩) (Hd (by simp)) _) (by simp;exact λe=>MN e.symm)
     have B9:=Ab (((N.alloc (Dj #[X J k] 3)).grown A (λq s=>Hf (by have:=(v.lt q s).1;have:=Aa W;omega))).setCell (p:=⟨g,l,Y⟩) (Hf (by have:=(A1.lt g rfl).1;have:=Aa W;simp;omega)) (U (V ⟨G,0,Y⟩) (Z o+1) C));simp only[lU,lQ,mn,mC]at AO B0;generalize u.setCell ⟨g,l,Y⟩ (U (V ⟨G,0,Y⟩) (Z o+1) C)=wz at AO EK B9⊢;clear AR A BA FA v A1 f9 c9 hx KS HR HT;go_wp2
     go_roundg (Z m-(k+1))
     case measure=>have:=Aa HG;omega
     case rel=>exact⟨k+1,f.set l (o++[k],U (V ⟨G,0,Y⟩) (Z o+1) C),V ⟨g,0,Y⟩,y,by simp,by go_num,by omega,rfl,B0,by rw[nj];exact AO,EK,B9⟩
  .have LC:JR (I2 (λi=>L (G6 m i)) (Z m) f):=by
    (have e:k=Z m:=by omega);have h:=Aa S;rw[e]at h;exact h
   go_wp2;go_ret;exact⟨E,y,f,L,rfl,by rw[Aa W];exact F,LC,KA,HS,N⟩
structure Gy(w w':Hq):Prop where
 size:w.heap.size<=w'.heap.size
 at_:∀(q:Nat) (cs:Array Hs) (t:TypeId) (fr:Nat×Nat),w.heap[q]?=V (Dj cs t fr)->t≠139->t≠104->t≠176->w'.heap[q]?=V (Dj cs t fr)
def Gy.refl(w:Hq):Gy w w:=⟨lX _,λ_ _ _ _ h _ _ _=>h⟩
def Gy.trans(h:Gy w v)(k:Gy v u):Gy w u:=⟨mM h.size k.size,λq e t i j f d g=>k.at_ q e t i (h.at_ q e t i j f d g) f d g⟩
def Gy.of(k:Ac M w v)(g:∀q∈M,∃(c:Array Hs) (t:TypeId) (d:Nat×Nat),w.heap[q]?=V (Dj c t d)/\(t=139\/t=104\/t=176)):Gy w v:=by
 refine⟨k.size,λq c t d a i f l=>?_⟩;rw[k.block q (mE.1 a).1 (λe=>?_)]
 .exact a
 .obtain⟨m,n,o,b,j⟩:=g q e;rw[a]at b;simp only[lL,Obj.cells.injEq]at b;obtain⟨_,rfl,_⟩:=b;rcases j with h|h|h
  .exact i h
  .exact f h
  .exact l h
def Gy.kept{w w':Hq}(k:Ac [] w w'):Gy w w':=Gy.of k (λq a=>by simp at a)
def Gy.row(h:Gy w u){v:Hs}(a:Mi w m k i v n y)(j:k≠139)(f:k≠104)(q:k≠176):Mi u m k i v n y:=by
 refine⟨a.1,?_⟩;rcases a.2 with l|⟨g,c,b,rfl,p,s,t,d,r,o⟩
 .exact Hd l
 .exact Hf ⟨g,c,b,rfl,p,h.at_ _ _ _ _ s j f q,t,d,r,o⟩
def Z7(h:AI w b y T):∃(c:Array Hs) (a:TypeId) (d:Nat×Nat),w.heap[b]?=V (Dj c a d)/\a=T:=⟨_,_,_,h,rfl⟩
def ai(h:Mi w m k i z n y){q:Nat}(a:z.ownBlock=V q):∃(d:Array Hs) (b:TypeId) (j:Nat×Nat),w.heap[q]?=V (Dj d b j)/\b=k:=by
 rcases h.2 with⟨rfl,_⟩|⟨g,c,l,rfl,_,f,_⟩
 .simp[OC]at a
 .simp only[OC,lL]at a;subst a;exact⟨_,_,_,f,rfl⟩
structure SO(w0:Hq)(cb:Nat)(clv:Hs)(X:QC Nat)(s:QC Af)(w:Hq):Prop where
 kept:Ac [] w0 w
 zy:w0.heap.size<=cb
 out:∃(sad:Option Addr) (scp:Nat) (fs:QC Fh) (tad:Option Addr) (tcp:Nat) (xs:QC Hs),AI w cb [clv,U sad (Z fs) scp,U tad (Z s) tcp] 139/\Jr w (U sad (Z fs) scp) fs/\Dp fs s/\
  Mi w w0.heap.size 176 4 (U tad (Z s) tcp) (Z s) xs/\(∀q,(U sad (Z fs) scp).ownBlock=V q->w0.heap.size<=q)/\∀q,(U tad (Z s) tcp).ownBlock=V q->q∉X
def Ci(p:Nat×UZ):QC Hs:=KI p.1 p.2
structure Yg(w:Hq)(B:Nat)(kv:Hs)(hs:QC (Nat×GZ Af))(sts:QC (Nat×UZ)):Prop where
 eq:sts.map (λp=>(p.1,p.2.f.f,p.2.ns.map Fh.f))=hs.map λh=>(h.1,BX h.2.head,h.2.pos.map BX)
 each:∀p∈sts,Lj w p.2/\∀q,p.2.n.ownBlock=V q->B<=q/\kv.ownBlock≠V q
def Yg.kept{w w':Hq}{B:Nat}{c:Hs}{a:QC (Nat×GZ Af)}{d:QC (Nat×UZ)}(h:Yg w B c a d)(k:Ac [] w w'):Yg w' B c a d:=⟨h.eq,λp b=>⟨(h.each p b).1.kept k,(h.each p b).2⟩⟩
structure ME(w0:Hq)(cb:Nat)(clv:Hs)(X Y:QC Nat)(s:QC Af)(hs:QC (Nat×GZ Af))(w:Hq):Prop where
 kept:Ac [] w0 w
 zy:w0.heap.size<=cb
 out:∃(sad:Option Addr) (scp:Nat) (fs:QC Fh) (tad:Option Addr) (tcp:Nat) (sts:QC (Nat×UZ)),AI w cb [clv,U sad (Z fs) scp,U tad (Z s) tcp] 139/\Jr w (U sad (Z fs) scp) fs/\Dp fs s/\
  Mi w w0.heap.size 176 4 (U tad (Z s) tcp) (Z s) (sts.flatMap Ci)/\(∀q,(U sad (Z fs) scp).ownBlock=V q->w0.heap.size<=q/\q∉Y)/\(∀q,(U tad (Z s) tcp).ownBlock=V q->q∉X)/\Yg w w0.heap.size (U sad (Z fs) scp) hs sts
def ME.cou{a j:QC Nat}{o:QC (Nat×GZ Af)}(h:ME v n z a j f o w):SO v n z a f w:=by
 obtain⟨t,l,p,g,c,u,k,e,r,i,m,b,_⟩:=h.out;exact⟨h.kept,h.zy,t,l,p,g,c,_,k,e,r,i,λq d=>(m q d).1,b⟩
def ME.grow{a b:QC Nat}{c:QC (Nat×GZ Af)}(h:ME v n z a b f c w)(k:Ac [] w u):ME v n z a b f c u:=by
 obtain⟨x,q,r,g,e,l,m,i,t,j,p,d,o⟩:=h.out;exact⟨h.kept.trans k,h.zy,x,q,r,g,e,l,m.kept k,i.kept k,t,Ad j k,p,d,o.kept k⟩
abbrev jW:A7->QC Af->UInt8->QC bC->QC bC:=λc s=>Jd (Am c) s
abbrev IE(r:A7)(s:QC Af):QC Af:=Ss (Jd (Am r) s) r (CE r) (Dy r) s
structure Z8(pcs:QC DF)(J:QC (Nat×GZ Af)->QC Af->Prop)(num:Nat)(r:A7)(hs:QC (Nat×GZ Af))(s:QC Af):Prop where
 lt:num<Z pcs
 cl:QK (pcs[num]'lt) r s
 nd:(IE r s).Nodup
 new:∀f∈IE r s,f∉s/\AJ f/\Z f.args<=1000
 len:Z (IE r s)<=100000
 mid:∀IS:QC (GZ Af),IS.map GZ.head=IE r s->(∀i∈IS,∃σ,(∀x∈Am r,Ce (Bk σ) (DZ σ) s x=true)/\i=C1 r σ)->∀j,J (hs++(IS.take j).map (Prod.mk num)) (((IE r s).take j).foldl Bb s)
def Ui{l:QC Af}(a:j<Z l):(l.take (j+1)).foldl Bb f=Bb ((l.take j).foldl Bb f) l[j]:=by
 rw[lF a,mL];rfl
def eu{l:QC Af}{s:QC Af}(t:D1 s)(v:∀f∈s,AJ f)(x:l.Nodup)(h:∀f∈l,f∉s/\AJ f):∀j (c:j<Z l),D1 ((l.take j).foldl Bb s)/\(∀f∈(l.take j).foldl Bb s,AJ f)/\(∀f,f∈(l.take j).foldl Bb s↔f∈s\/f∈l.take j)/\l[j]∉(l.take j).foldl Bb s:=by
 have p:∀j,j<=Z l->D1 ((l.take j).foldl Bb s)/\(∀f∈(l.take j).foldl Bb s,AJ f)/\(∀f,f∈(l.take j).foldl Bb s↔f∈s\/f∈l.take j):=by
  intro j
  induction j with
  |zero=>intro _;exact⟨t,v,λf=>by simp⟩
  |succ j ih=>
   intro c;obtain⟨o,k,d⟩:=ih (by omega);(have g:j<Z l:=by omega);have u:=(h _ (lE g)).2;obtain⟨a,b,m⟩:=C5 u o k;rw[Ui g];refine⟨a,b,λf=>?_⟩;rw[m,d,lF g,lV,lG,or_assoc]
 intro j c;obtain⟨o,k,d⟩:=p j (by omega);refine⟨o,k,d,λq=>?_⟩;rcases(d _).1 q with n|n
 .exact(h _ (lE c)).1 n
 .obtain⟨i,w,e⟩:=mw n;rw[mB]at w;rw[oJ]at e;have r:=nO.1 x i j (by omega) c (by omega);exact r e
def fF(f:Af):Z (BX f).bc=Z f.args:=by unfold BX;simp
theorem ee(HL:QC (Nat×GZ Af)->QC Af->Prop)(w0:Hq)(o:Nat)(BB:Option Addr)(BA:Nat)(AH:QC DF)(a2:Option Addr)(TX:Nat)(ns:QC Nat)(ds:QC A7)(s:QC Af)(hs:QC (Nat×GZ Af))(w:Hq)(hP:DK w0 (U BB (Z AH) BA) AH)(b0:Z AH<=1000)(fa:Z ns<=1000)
  (hY:Mi w 0 3 1 (U a2 (Z ns) TX) (Z ns) (ns.flatMap Ck)) (hC:ME w0 o (U BB (Z AH) BA) [] [] s hs w) (hJ:HL hs s) (Wa:∀hs s,HL hs s->D1 s/\(∀f∈s,AJ f)/\Z s<=9000)
  (ST:∀hs s,HL hs s->F2 (λu r=>Z8 AH HL u r hs s) ns ds):
  Calls prog 124 #[Gi (V ⟨o,0,Y⟩),U a2 (Z ns) TX] w λr w'=>∃s' af,s'=(Ge (E3 jW) ds s).1/\r=.returned (.bool (decide (Z s<Z s')))/\HL af s'/\ME w0 o (U BB (Z AH) BA) [] [] s' af w'/\Gy w w':=by
 obtain⟨i0,db,ca,d1,c4⟩:=mH Tryz.zJ;have bx:=Ab hP;have cf:=Ab hY;have UO:=Ab hC;have HJ:=Ab hJ;have aa:=Ab Wa;have d5:=Ab ST;have TK:JR (Z ns=Z ds):=(ST hs s hJ).lenX;obtain⟨ek,ef,ew,eB,ea,fk,X0,_⟩:=hC.out;have c2:=X0.cell 2;simp at c2;obtain⟨S0,Os⟩:=QP (Z s);have b1:=Ab Os;rw[Os]at c2;clear hP hY hC hJ Wa ST X0 Os;go_enter func124,ntmps124;go_wp2_with fail
 clear c2
 go_loopg [17] (Z ns) (λgk i wr=>∃(k:Nat) (s1:QC Af) (BS:QC (Nat×GZ Af)),i=X J k/\k<=Z ns/\gk=Z ns-k/\JR (s1=((ds.take k).foldl (J6 (E3 jW)) (s,K)).1)/\JR (HL BS s1)/\JR (ME w0 o (U BB (Z AH) BA) [] [] s1 BS wr)/\JR (Gy w wr))
 case atStart=>exact⟨0,s,hs,rfl,by omega,rfl,rfl,HJ,UO,Gy.refl _⟩
 case round=>
  clear UO HJ;obtain⟨k,s1,BS,rfl,hk,bn,TS,RI,FP,K9⟩:=hrel;have HG:=Ab bn;clear bn;by_cases VR:k<Z ns
  ·(have a0:k<Z ds:=by have:=Aa TK;omega);have HF:=(d5 BS s1 RI).at k VR a0;obtain⟨yg,e4,he,bs⟩:=aj (K9.row cf (by decide) (by decide) (by decide)) k VR;simp only[lB]at he;obtain⟨rfl,-,rfl⟩:=he;obtain⟨u,bt⟩:=QP (ns[k]);rw[bt]at bs HF;obtain⟨r,S⟩:=QP (ds[k]);rw[S]at HF;have DY:JR (((ds.take (k+1)).foldl (J6 (E3 jW)) (s,K)).1=(IE r s1).foldl Bb s1):=by
    show _=_;rw[lF a0,mL,S];have h:=Aa TS;rw[mr,List.foldl_nil];generalize(ds.take k).foldl (J6 (E3 jW)) (s,K)=acc at h⊢;rw[h];rfl
   clear bt S;obtain⟨EK,CC,N,W,T,xs,hb,HH,HM,HU,HY,hX,H8⟩:=(Aa FP).out;have a7:=Ab (UY o u BB BA AH EK CC N (U W (Z s1) T) r s1 wr HF.lt b0 hb (by exact(Aa bx).kept (Aa FP).kept) HH HM HF.cl HF.len);have HD:=Ab HF;(have eT:(0:Int)<=(k:Int):=by omega);(have eg:(k:Int)<(Z ns:Int):=by omega);have ab:JR (∀w2 nv nn TV (y:QC UZ),Ac [] wr w2->Mi w2 wr.heap.size 176 4 nv nn TV->(∀m∈y,Lj w2 m/\fL wr.heap.size r s1 m)->ME w0 o (U BB (Z AH) BA) nv.ownBlock.toList (y.filterMap λm=>m.n.ownBlock) s1 BS w2):=λw2 nv nn TV y k2 hn AO=>⟨(Aa FP).kept.trans k2,(Aa FP).zy,EK,CC,N,W,T,xs,hb.kept k2,HH.kept k2,HM,Ad HU k2,λq d=>⟨(HY q d).1,λR=>by
    obtain⟨m,NN,e⟩:=nD.1 R
    have M:=(HH.row.lt q d).2
    have L:=(AO m NN).2.1 q e
    omega⟩,λq d R=>by
    have M:=(HU.lt q d).2
    have L:=(hn.lt q (by simpa using R)).1
    omega,H8.kept k2⟩
   clear HF hb HH HM HU HY hX H8;(go_wp2_with fail);refine a7.mono ?_;rintro _ w2 ⟨a5,LL,y,rfl,LB,Nj,JA,k2⟩;have W2:=Ab (K9.trans (Gy.kept k2));have d8:=Ab LB;have H5:=Ab (Al Nj (lW _));(have HT:JR (∀m∈y,Lj w2 m):=λm AO=>(JA m AO).1);(have d2:JR (∀m∈y,∀q,m.n.ownBlock=V q->w0.heap.size<=q):=λm AO q d=>mM FP.kept.size ((JA m AO).2.1 q d));obtain⟨IS,RB,a4,al⟩:=Ul y (IE r s1) LB (λf hf=>(HD.new f hf).2.1) (λm AO=>(JA m AO).2);have NM:=Ab RB;have c7:=Ab al;have TL:=Ab (HD.mid IS RB a4);clear RB a4 al;(have et:Z y=Z (IE r s1):=by have:=congrArg List.length LB;simpa using this);have YP:=Ab (ab w2 _ _ _ y k2 Nj JA);have en:=HD.len;clear a7 LB Nj JA FP K9 ab bs k2;go_wp2_with fail
   go_loopg [25] (Z y) (λd6 i wq=>∃(j:Nat),i=X J j/\j<=Z y/\d6=Z y-j/\JR (ME w0 o (U BB (Z AH) BA) (U a5 (Z y) LL).ownBlock.toList (y.filterMap λm=>m.n.ownBlock) (((IE r s1).take j).foldl Bb s1) (BS++(IS.take j).map (Prod.mk u)) wq)/\JR (Mi wq 0 176 4 (U a5 (Z y) LL) (Z y) (y.flatMap (KI u)))/\JR (∀m∈y,Lj wq m)/\JR (Gy w wq))
   case atStart=>exact⟨0,rfl,by omega,rfl,(by simpa using YP),H5,HT,W2⟩
   case round=>
    clear YP H5 HT W2;obtain⟨j,rfl,hj,W1,FT,H5,HT,an⟩:=hrel;have c3:=Ab W1;clear W1;by_cases ES:j<Z y
    ·(have K2:j<Z (IE r s1):=by omega);obtain⟨g,e8,he,_,H3⟩:=AC H5 (λc _=>rfl) j ES;simp only[lB]at he;obtain⟨rfl,-,rfl⟩:=he;have e0:=H3 j ES 0 (by omega);have e1:=H3 j ES 1 (by omega);have e2:=H3 j ES 2 (by omega);have e3:=H3 j ES 3 (by omega);obtain⟨K7,QR,H0,Q,P,hn⟩:=HT _ (lE ES);(have Ix:∀q,y[j].n.ownBlock=V q->w0.heap.size<=q/\q∈y.filterMap λm=>m.n.ownBlock:=λq d=>⟨d2 _ (lE ES) q d,nD.2 ⟨_,lE ES,d⟩⟩);(have WB:j<Z IS:=by have h:=congrArg List.length NM;rw[lR]at h;omega);(have a6:JR ((IS.take (j+1)).map (Prod.mk u)=(IS.take j).map (Prod.mk u)++[(u,IS[j])]):=by show _=_;rw[lF WB,mx];rfl);have H7:(y[j].f.f,y[j].ns.map Fh.f)=(BX IS[j].head,IS[j].pos.map BX):=by
      have h:=congrArg (λl=>l[j]?) c7;simp only[m6,lN ES,lN WB,nF,lL]at h;exact h
     obtain⟨IJ,ZV⟩:=QP (IS[j]);rw[ZV]at a6 H7;clear ZV;have JJ:y[j].f.f=BX (IE r s1)[j]:=by
      have h:=congrArg (λl=>l[j]?) d8;simp only[m6,lN ES,lN K2,nF,lL]at h;exact h
     obtain⟨⟨⟨⟨A,Bx⟩,fv⟩,nv,RT⟩,AO⟩:∃m,y[j]=m:=⟨_,rfl⟩;rw[AO]at e0 e1 e2 e3 K7 QR hn JJ H0 Ix H7;have c6:=Ab AO;obtain⟨C,B,bd⟩:=Ak K7;simp only at bd hn QR JJ H0 Ix H7;subst bd hn;obtain⟨I,SK⟩:=QP (Z RT);rw[SK]at e0 e1 e2 e3 H0 Ix;have cx:=Ab SK;have e6:=Ab H0;have X2:=Ab Ix;have c8:=Ab H7;clear SK H0 Ix H7;obtain⟨z,OH⟩:=QP (Z Bx);simp[KI,OH]at e0 e1 e2 e3;obtain⟨F,hF⟩:=QP ((IE r s1)[j]);rw[hF]at JJ;have bp:=HD.new F (by rw[<-hF];exact lE K2);have RO:=Aa aa BS s1 RI;have MB:=eu RO.1 RO.2.1 HD.nd (λf hf=>⟨(HD.new f hf).1,(HD.new f hf).2.1⟩) j K2;rw[hF]at MB;(have W3:JR (((IE r s1).take (j+1)).foldl Bb s1=Bb (((IE r s1).take j).foldl Bb s1) F):=by show _=_;rw[Ui K2,hF]);have K4:=Aa aa _ _ (TL j);obtain⟨SJ,T0⟩:=QP (((IE r s1).take j).foldl Bb s1);rw[T0]at FT MB W3 K4;have WS:=Ab MB;have HZ:=Ab JJ;have c1:=Ab K7;have Pl:=Ab bp;have bv:=Ab OH;obtain⟨EK,CC,N,W,T,xs,hb,HH,HM,HU,HY,hX,H8⟩:=(Aa FT).out;have b9:=HM.len;have HB:=Ab hb;have OB:=Ab HH;have NY:=Ab HM;have WW:=Ab HU;have TH:=Ab HY;have HX:=Ab hX;have HQ:=Ab H8;(have fy:(0:Int)<=(j:Int):=by omega);(have eb:(j:Int)<(Z y:Int):=by omega);obtain⟨G,ao⟩:=QP (Z SJ);have M1:=Ab ao;(have cz:JR (G<=9000):=by show G<=9000;have:=K4.2.2;omega);(have cv:JR (Z N<=9000):=by show Z N<=9000;have:=K4.2.2;omega);have MN:=Ab (Tc wr [O A,U C z B,X J u,U Q I P] 176);have LS:=Ab ((SF [] wr).alloc (Dj [O A,U C z B,X J u,U Q I P].toArray 176));clear hb HH HM HU HY hX H8 MB bp RO hF JJ K7 AO H3 T0 K4 b9 OH QR ao;refine Q0 (λK1 B2=>?_);go_wp2;refine B2 _ _ ?_;clear B2 K1;refine Q0 (λK1 B2=>?_);go_wp2;refine B2 _ _ ?_;clear B2 K1;refine Q0 (λK5 aC=>?_);refine wp_block ?_;refine Q0 (λK1 B2=>?_);go_wp2;refine B2 _ _ ?_;clear B2 K1 e0 e1 e2 e3;change Code.wp _ _ _ _ (wr.alloc (Dj [O A,U C z B,X J u,U Q I P].toArray 176));generalize hw3:wr.alloc (Dj [O A,U C z B,X J u,U Q I P].toArray 176)=w3 at MN LS⊢;clear hw3;obtain⟨E,SP⟩:=QP wr.heap.size;have ch:=Ab SP;rw[SP]at MN⊢;clear SP;have RG:JR (∀D,AI D E [O A,U C z B,X J u,U Q I P] 176->Lc D ⟨E,0,Y⟩=V (O A)/\Lc D ⟨E,1,Y⟩=V (U C z B)/\Lc D ⟨E,2,Y⟩=V (X J u)/\Lc D ⟨E,3,Y⟩=V (U Q I P)):=by
      intro D hb;have h0:=hb.cell 0;have M:=hb.cell 1;have L:=hb.cell 2;have h3:=hb.cell 3;simp at h0 M L h3;exact⟨h0,M,L,h3⟩
     have A0:=Ab (RG w3.drew MN);refine Q0 (λK1 B2=>?_);refine CI 6 (λD=>Lc D ⟨E,0,Y⟩=V (O A)/\Lc D ⟨E,1,Y⟩=V (U C z B)/\Lc D ⟨E,2,Y⟩=V (X J u)/\Lc D ⟨E,3,Y⟩=V (U Q I P)) (by kernel_rfl) ?_;refine CH.tqH (i:=0) (v:=Gi (V ⟨o,0,Y⟩)) rfl (λ_ _ _ h=>h) A0 ?_;simp only[OD,lz,lC,lD];refine CH.tqH (i:=1) (v:=Gi (V ⟨o,0,Y⟩)) rfl (λ_ _ _ h=>h) A0 ?_;simp only[OD,lz,lC,lD];refine CH.tqH (i:=2) (v:=Gi (V ⟨o,1,Y⟩)) rfl (λ_ _ _ h=>h) A0 ?_;simp only[OD,lz,lC,lD];refine CH.tqH (i:=3) (v:=Gi (V ⟨E,0,Y⟩)) rfl (λ_ _ _ h=>h) A0 ?_;simp only[OD,lz,lC,lD];refine CH.tqH (i:=4) (v:=.agg #[O A,U C z B]) rfl (λ_ _ _ h=>h) A0 ?_;simp only[OD,lz,lC,lD];refine CH.one (i:=5) (by kernel_rfl) rfl (λDT hK=>?_)
     go_simp
     have Ha:Ac [] wr w3.drew:=LS.drew;have M3:=Ab (R7 o 1 [U BB (Z AH) BA,U EK (Z N) CC,U W (Z SJ) T] 139 EK CC N ⟨⟨A,Bx⟩,U C (Z Bx) B⟩ w3.drew (HB.kept Ha) rfl (by decide) (by decide) (OB.kept Ha) (c1.kept Ha) (by show Z Bx<=1000;have h:=congrArg (λp=>Z p.bc) HZ;simp only[fF]at h;have:=Pl.2.2;omega) (by have:=Aa cv;omega) (NY.mono _));simp only[A8]at M3;rw[Aa bv]at M3;refine M3.mono ?_;rintro _ H ⟨rfl,hA⟩;have HN:AI w3.drew E [O A,U C z B,X J u,U Q I P] 176:=MN;have Mo:=HB.kept Ha;have N4:=OB.kept Ha;have X1:E∉o::(U EK (Z N) CC).ownBlock.toList:=by
      intro R;rcases lI.1 R with h|h
      .rw[h]at HN;unfold AI at HN Mo;rw[Mo]at HN;simp at HN
      .exact As N4.row HN (by decide) (by simpa using h)
     have Nd:=HN.kept hA.kept X1;refine hK.out _ _ (λ_=>RG _ Nd) ?_;clear hK DT;refine CH.done (by kernel_rfl) ?_ _
     try simp only[OD,lz,lC,lD]
     refine B2 _ _ ?_;clear B2 K1 A0 M3;obtain⟨p,HS,HP,hcut,H6,ba,NS⟩:=hA.out;simp only[lD,lC]at H6;have QQ:Gu N (BX F) p:=by
      have h:=hcut;simp only at h;rw[Aa HZ]at h;exact h
     have NB:E5 N ⟨A,Bx⟩ p=K:=by
      rw[Aa HZ,(Aa NY).zW (Aa Pl).2.1 QQ];cases hh:CW SJ F with
      |false=>rfl
      |true=>exact absurd ((B3 _ _).1 hh) WS.2.2.2
     have cB:JR (Dp (MM N ⟨⟨A,Bx⟩,U C z B⟩ p) (Bb SJ F)):=by
      have h:=NY.zQ (x:=⟨⟨A,Bx⟩,U C z B⟩) HZ Pl.2.1 QQ (by rw[<-Aa HZ];exact NB);unfold MM;simp only[NB,lJ,if_false];exact h
     (have Nq:JR (Z (Bb SJ F)=G+1):=by show _=_;rw[(Ls SJ F).2 (Aa WS).2.2.2,Aa M1]);have H1:=Ab ba;have br:JR (∀q,(U HS (Z (MM N ⟨⟨A,Bx⟩,U C z B⟩ p)) HP).ownBlock=V q->w0.heap.size<=q/\q∉y.filterMap λm=>m.n.ownBlock):=by
      intro q d;rcases NS q d with h|h
      .exact TH q h
      .have M:w3.heap.size<=q:=h;have L:=FT.kept.size;have h3:=LS.size;refine⟨by omega,λR=>?_⟩;obtain⟨m,NN,e⟩:=nD.1 R;have h4:=((HT m NN).nds.row.lt q e).2;omega
     have cR:JR (∀p'∈xs,∀q,p'.2.n.ownBlock=V q->(U HS (Z (MM N ⟨⟨A,Bx⟩,U C z B⟩ p)) HP).ownBlock≠V q):=by
      intro p' HC q d he;rcases NS q he with h|h
      .exact((HQ.each p' HC).2 q d).2 h
      .have M:w3.heap.size<=q:=h;have h4:=((HQ.each p' HC).1.nds.row.lt q d).2;have h3:=LS.size;omega
     have L0:Ac (o::(U EK (Z N) CC).ownBlock.toList) wr H:=((Ha.mono (by simp)).trans hA.kept);have b2:JR (Gy w H):=an.trans ((Gy.kept Ha).trans (Gy.of hA.kept (λq d=>by
      rcases lI.1 d with rfl|d
      .obtain⟨a,b,c,M,L⟩:=Z7 Mo
       exact⟨a,b,c,M,Hd L⟩
      .obtain⟨a,b,c,M,L⟩:=ai N4.row (q:=q) (by simpa using d)
       exact⟨a,b,c,M,Hf (Hd L)⟩)))
     have bb:JR (Ac [] w0 H):=FT.kept.trans' L0 (λq d=>Hf (by
      rcases lI.1 d with rfl|d
      .exact FT.zy
      .exact(TH q (by simpa using d)).1))
     have H4:∀{b e sz n:Nat} {v:Hs} {ys:QC Hs},Mi wr b e sz v n ys->e≠139->e≠104->Mi H b e sz v n ys:=fun{b e sz n v ys} S M L=>Ai S L0 (λq d R=>by
      rcases lI.1 R with rfl|R
      .exact As S HB M d
      .exact Bg S OB.row L q d (by simpa using R))
     have NX:=H4 WW (by decide) (by decide);rw[Aa M1]at NX;have HI:=Ab NX;have VL:=Ab (H4 H5 (by decide) (by decide));have PT:∀{b sz n:Nat} {v:Hs} {ys:QC Hs},Mi wr b 104 sz v n ys->(∀q,v.ownBlock=V q->(U EK (Z N) CC).ownBlock≠V q)->Mi H b 104 sz v n ys:=fun{b sz n v ys} S L=>Ai S L0 (λq d R=>by
      rcases lI.1 R with rfl|R
      .exact As S HB (by decide) d
      .exact L q d (by simpa using R))
     (have U1:JR (∀m∈y,Lj H m):=λm AO=>(HT m AO).map (λp hp=>H4 (v:=p.tv) hp (by decide) (by decide)) (λS=>PT S (λq d he=>(TH q he).2 (nD.2 ⟨m,AO,d⟩))));(have d3:JR (∀p'∈xs,Lj H p'.2):=λp' HC=>(HQ.each p' HC).1.map (λp hp=>H4 (v:=p.tv) hp (by decide) (by decide)) (λS=>PT S (λq d=>((HQ.each p' HC).2 q d).2)));have b4:JR (Lj H ⟨⟨⟨A,Bx⟩,U C z B⟩,U Q I P,RT⟩):=by
      have h:=Aa U1 _ (lE ES);rw[Aa c6,Aa cx,Aa bv]at h;exact h
     have aB:=Ab Nd;have NA:JR (∀q,(U W G T).ownBlock=V q->q<E/\q∉(U (V ⟨g,0,Y⟩) (Z y) LL).ownBlock.toList):=λq d=>by
      have M:=Aa WW;have L:=Aa HX;rw[Aa M1]at M L;have h3:=(M.lt q d).2;have h4:=Aa ch;exact⟨by omega,L q d⟩
     rw[Aa M1]at H6;obtain⟨FL,P0⟩:=QP (Z (MM N ⟨⟨A,Bx⟩,U C z B⟩ p));have co:=Ab P0;have Op:JR (AI H o [U BB (Z AH) BA,U HS FL HP,U W G T] 139):=by
      rw[P0]at H6;exact H6
     clear hA HN Mo N4 X1 Nd Ha hcut QQ H6 ba NS NB L0 NX P0 H4 PT;have IA:JR (∀D,AI D E [O A,U C z B,X J u,U Q I P] 176->AI D o [U BB (Z AH) BA,U HS FL HP,U W G T] 139->Lc D ⟨o,2,Y⟩=V (U W G T)/\Lc D ⟨E,0,Y⟩=V (O A)/\Lc D ⟨E,1,Y⟩=V (U C z B)/\Lc D ⟨E,2,Y⟩=V (X J u)/\Lc D ⟨E,3,Y⟩=V (U Q I P)):=by
      intro D hb hc;have h0:=hc.cell 2;simp at h0;exact⟨h0,RG D hb⟩
     have A0:=Ab (IA H.drew aB Op);refine CI 10 (λD=>Lc D ⟨o,2,Y⟩=V (U W G T)/\Lc D ⟨E,0,Y⟩=V (O A)/\Lc D ⟨E,1,Y⟩=V (U C z B)/\Lc D ⟨E,2,Y⟩=V (X J u)/\Lc D ⟨E,3,Y⟩=V (U Q I P)) (by kernel_rfl) ?_;refine CH.tq (i:=0) (v:=Gi (V ⟨o,0,Y⟩)) rfl (λ_ _ _ h=>h) A0 ?_;simp only[OD,lz,lC,lD];refine CH.tq (i:=1) (v:=Gi (V ⟨o,0,Y⟩)) rfl (λ_ _ _ h=>h) A0 ?_;simp only[OD,lz,lC,lD];refine CH.tq (i:=2) (v:=Gi (V ⟨o,0,Y⟩)) rfl (λ_ _ _ h=>h) A0 ?_;simp only[OD,lz,lC,lD];refine CH.tq (i:=3) (v:=Gi (V ⟨o,2,Y⟩)) rfl (λ_ _ _ h=>h) A0 ?_;simp only[OD,lz,lC,lD];refine CH.tq (i:=4) (v:=U W G T) rfl (λ_ _ _ h=>h) A0 ?_;simp only[OD,lz,lC,lD];refine CH.tq (i:=5) (v:=.agg #[O A,U C z B,X J u,U Q I P]) rfl (λ_ _ _ h=>h) A0 ?_;simp only[OD,lz,lC,lD];refine CH.one (i:=6) (by kernel_rfl) rfl (λDT hK=>?_)
     go_simp
     have RV:AI (H.drew.alloc (Dj #[O A,U C z B,X J u,U Q I P] 176)) E [O A,U C z B,X J u,U Q I P] 176:=AI.alloc (w:=H.drew) aB _;have N0:AI (H.drew.alloc (Dj #[O A,U C z B,X J u,U Q I P] 176)) o [U BB (Z AH) BA,U HS FL HP,U W G T] 139:=AI.alloc (w:=H.drew) Op _;refine hK.out _ _ (λ_=>IA _ RV N0) ?_;clear hK DT
     try simp only[OD,lz,lC,lD]
     have Nx:Mi H.drew w0.heap.size 176 4 (U W G T) G (xs.flatMap Ci):=HI;have ce:w0.heap.size<=H.heap.size:=bb.size;have eA:=Aa cz;refine CH.one (i:=7) (by kernel_rfl) rfl (λDT hK=>?_);refine oY _ (by rfl) _ _ _ (by rfl) w0.heap.size 176 i0 _ 4 72 underlying137 db ca d1 c4 rfl (by omega) (U W G T) G (xs.flatMap Ci) (by rfl) (lM Nx _)
      ⟨H.drew.heap.size,0,Y⟩ 1 1 [O A,U C z B,X J u,U Q I P] (by rfl) (by rfl) (mg (mo H.drew _)) (by simp[Value.oneCell'])
      (by omega) (by unfold maxLen;omega) (by omega) (by simp;exact Nat.le_succ_of_le ce) (H.heap.size+1) (by simp) ?_
     intro gg FW u3 N2 LC ag dc;have KD:=RV.grown LC (λe=>by have:=(NA E e).1;omega);have EX:=N0.grown LC (As Nx Op (by decide));refine hK.out _ _ (λ_=>IA _ KD EX) ?_;clear hK DT
     try simp only[OD,lz,lC,lD]
     refine CH.one (i:=8) (by kernel_rfl) rfl (λDT hK=>?_)
     go_simp
     refine hK.out _ _ (λ_=>IA _ KD EX) ?_;clear hK DT
     try simp only[OD,lz,lC,lD]
     refine CH.one (i:=9) (by kernel_rfl) rfl (λDT hK=>?_)
     go_simp
     refine hK.out _ _ (λ_=>IA _ KD EX) ?_;clear hK DT
     try simp only[OD,lz,lC,lD]
     have U0:=EX.cell 2;have df:=EX.frozen 2;simp at U0;refine CH.one (i:=10) (by kernel_rfl) rfl (λDT hK=>?_)
     go_simp
     refine hK.out _ _ (λh=>absurd rfl h) ?_;clear hK DT;refine CH.done (by kernel_rfl) ?_ _
     try simp only[OD,lz,lC,lD]
     have M0:Ac ((U W G T).ownBlock.toList) H u3:=(((SF _ H).drew).alloc (Dj #[O A,U C z B,X J u,U Q I P] 176)).grown LC (λq d=>Hd (by rw[d];simp));have NV:Ac [o] u3 (u3.setCell ⟨o,2,Y⟩ (U (V ⟨gg,0,Y⟩) (G+1) FW)):=(SF [o] u3).setCell (p:=⟨o,2,Y⟩) (Hd (by simp)) _;have HR:∀{b e sz n:Nat} {v:Hs} {ys:QC Hs},Mi H b e sz v n ys->e≠139->(∀q,v.ownBlock=V q->(U W G T).ownBlock≠V q)->Mi (u3.setCell ⟨o,2,Y⟩ (U (V ⟨gg,0,Y⟩) (G+1) FW)) b e sz v n ys:=fun{b e sz n v ys} S M L=>by
      have h3:=Ai S M0 (λq d R=>L q d (by simpa using R));exact Ah h3 (As h3 EX M) _
     (have K3:∀m,Lj H m->Lj (u3.setCell ⟨o,2,Y⟩ (U (V ⟨gg,0,Y⟩) (G+1) FW)) m:=λm h=>h.map (λp hp=>HR (v:=p.tv) hp (by decide) (λq d=>Bg (v1:=p.tv) hp HI (by decide) q d)) (λS=>HR S (by decide) (λq d=>Bg S HI (by decide) q d)));have av:JR (ME w0 o (U BB (Z AH) BA) (U (V ⟨g,0,Y⟩) (Z y) LL).ownBlock.toList (y.filterMap λm=>m.n.ownBlock) (((IE r s1).take (j+1)).foldl Bb s1) (BS++(IS.take (j+1)).map (Prod.mk u)) (u3.setCell ⟨o,2,Y⟩ (U (V ⟨gg,0,Y⟩) (G+1) FW))):=by
      rw[Aa W3,Aa a6,<-mO];refine⟨(bb.trans' M0 (λq d=>Hf (HI.lt q (by simpa using d)).1)).trans' NV (λq d=>Hf (by simp only[lG]at d;rw[d];exact FT.zy)),FT.zy,HS,HP,MM N ⟨⟨A,Bx⟩,U C z B⟩ p,V ⟨gg,0,Y⟩,FW,xs++[(u,⟨⟨⟨A,Bx⟩,U C z B⟩,U Q I P,RT⟩)],?_,⟨?_,λq d=>⟨?_,?_⟩⟩,cB,?_,br,?_,?_,λp' HC=>?_⟩
      .rw[Aa Nq,Aa co];exact EX.set 2 _
      .exact HR H1.row (by decide) (λq d=>Bg H1.row HI (by decide) q d)
      .exact HR (v:=q.tv) (H1.each q d).1 (by decide) (λq' c9=>Bg (v1:=q.tv) (H1.each q d).1 HI (by decide) q' c9)
      .exact(H1.each q d).2
      .rw[Aa Nq,mm];exact Ah N2 (As N2 EX (by decide)) _
      .rw[Aa Nq];intro q d;simp only[OC,lL]at d;subst d;rcases ag with h|h
       .exact(NA gg h).2
       .intro R;have M:=(VL.lt gg (by simpa using R)).2;omega
      .have h:=Aa c8;simp only[mA]at h;rw[mx,mx,(Aa HQ).eq];simp only[l9,nE,h.1,h.2]
      .rcases lV.1 HC with h|h
       .exact⟨K3 _ (d3 p' h),λq d=>⟨((HQ.each p' h).2 q d).1,cR p' h q d⟩⟩
       .simp only[lG]at h;subst h;exact⟨K3 _ b4,λq d=>⟨(X2 q d).1,λhe=>(br q he).2 (X2 q d).2⟩⟩
     have ad:=Ab (HR VL (by decide) (λq d h=>(NA q h).2 (by rw[d];simp)));(have X3:JR (∀m∈y,Lj (u3.setCell ⟨o,2,Y⟩ (U (V ⟨gg,0,Y⟩) (G+1) FW)) m):=λm AO=>K3 m (U1 m AO));have bl:JR (Gy w (u3.setCell ⟨o,2,Y⟩ (U (V ⟨gg,0,Y⟩) (G+1) FW))):=(b2.trans (Gy.of M0 (λq d=>by
      obtain⟨a,b,c,M,L⟩:=ai HI (q:=q) (by simpa using d)
      exact⟨a,b,c,M,Hf (Hf L)⟩))).trans (Gy.of NV (λq d=>by
      simp only[lG]at d
      rw[d]
      obtain⟨a,b,c,M,L⟩:=Z7 EX
      exact⟨a,b,c,M,Hd L⟩))
     generalize u3.setCell ⟨o,2,Y⟩ (U (V ⟨gg,0,Y⟩) (G+1) FW)=w6 at av ad X3 bl⊢;clear N2 LC ag dc KD EX RV N0 Nx U0 df M0 NV HR K3 A0;refine aC _ _ ?_;clear aC;go_wp2
     go_roundg (Z y-(j+1))
     case measure=>have:=Aa c3;omega
     case rel=>exact⟨j+1,by go_num,by omega,rfl,av,ad,X3,bl⟩
    .have b5:JR (ME w0 o (U BB (Z AH) BA) [] [] ((IE r s1).foldl Bb s1) (BS++IS.map (Prod.mk u)) wr):=by
      have h:=Aa FT;rw[lH (by omega),lH (by have h:=congrArg List.length (Aa NM);rw[lR]at h;omega)]at h;obtain⟨EK,CC,N,W,T,xs,g1,g2,g3,g4,g5,g6,g7⟩:=h.out;exact⟨h.kept,h.zy,EK,CC,N,W,T,xs,g1,g2,g3,g4,λq d=>⟨(g5 q d).1,by simp⟩,λq d=>by simp,g7⟩
     have b3:JR (HL (BS++IS.map (Prod.mk u)) ((IE r s1).foldl Bb s1)):=by
      have h:=Aa TL (Z (IE r s1));rw[nM,lH (by have h:=congrArg List.length (Aa NM);rw[lR]at h;omega)]at h;exact h
     go_wp2_with fail
     go_roundg (Z ns-(k+1))
     case measure=>have:=Aa HG;omega
     case rel=>exact⟨k+1,(IE r s1).foldl Bb s1,BS++IS.map (Prod.mk u),by go_num,by omega,rfl,DY.symm,b3,b5,an⟩
  .have HE:JR (s1=(Ge (E3 jW) ds s).1):=by
    have h:=Aa TS;rw[lH (by have:=Aa TK;omega)]at h;exact h
   obtain⟨EK,CC,N,W,T,xs,hb,_⟩:=(Aa FP).out;have c2:=hb.cell 2;simp at c2;obtain⟨S1,SB⟩:=QP (Z s1);rw[SB]at c2;have d0:=Ab SB;clear hb SB;go_wp2;go_ret;refine⟨s1,BS,HE,?_,RI,FP,K9⟩;rw[Aa b1,Aa d0]
   first|rfl|(simp;done)|simp
