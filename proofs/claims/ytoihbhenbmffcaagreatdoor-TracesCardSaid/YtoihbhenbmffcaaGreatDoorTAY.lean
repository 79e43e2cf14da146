import Derived.Maps.OwnOps
import Derived.Maps.Views
import Derived.Carry
import Derived.Test.YtoihbhenbmffcaaGreatDoorTAU
set_option linter.all false
set_option maxHeartbeats 0
open List renaming length->Z
open Option renaming none->Y,some->V
open Go.Value renaming slice->U,int->X,string->O,pointer->j3,ownBlock->qX
open Bool renaming false->K
open Go.IntKind renaming i64->J
open Go.Obj renaming cells->j1
open Or renaming inl->lo,inr->lx
open Go renaming World->ly,Value->ml
open Go.RowKit renaming Hid->nc
open Go.World renaming cell?->oa,ownsRow->oi
open Prod renaming fst->qW
open Go.Act renaming put->qY
namespace Go.Proofs.YtoihbhenbmffcaaGreatDoor
open Go.RowKit Go.Proofs.Tryz
variable{s t:zA}{M:rc Nat}{w v u:ly}{m n k i j b:Nat}{z:ml}{y x:rc ml}{T:TypeId}{f:rc Af}
def UH(x:zA):Lit:=.string x.data.toList
def eV(h:UH s=UH t):s=t:=by
 unfold UH at h;simp only[Lit.string.injEq]at h;obtain⟨⟨a⟩⟩:=s;obtain⟨⟨b⟩⟩:=t;simp at h;rw[h]
def Z6(h:s.size<=1000000):keyOf prog 9 (.string s)=some (UH s):=by
 rw[keyOf_string underlying9];have a:s.size<=maxLen:=by unfold maxLen;omega
 simp[mapKey,underlying9,UH,a]
structure ET(w:World)(mb n:Nat)(L:zA->Nat):Prop where
 at_:∃D:DataW Unit,w.ownsMap prog 9 (plainElem prog 3) mb n D/\Maps.IsMap D/\∀x,D.atKey (UH x) (.lit (.int .i64 0))=.lit (.int .i64 (L x))
def ET.zV{L:zA->Nat}(h:ET w m n L)(k:Ac M w v)(b:m∉M):ET v m n L:=by
 obtain⟨D,⟨f,j,a,d,i,e⟩,g,c⟩:=h.at_;refine⟨D,⟨f,j,?_,d,i,e⟩,g,c⟩;rw[k.block m (nz.1 a).1 b];exact a
def MO(L:zA->Nat)(n:Nat)(x:PL):Nat:=if x.sort=0 then max n (L x.an)else if x.sort=1 then max n (L x.an+1)else n
def Iu(L:zA->Nat)(n:Nat)(ls:rc PL):Nat:=ls.foldl (MO L) n
def Rj(L:zA->Nat):∀(a:rc Bw) (n:Nat),Iu L n (a.map MA)=a.foldl (GA L) n
 |[],n=>rfl
 |x::a,n=>by
  have e:MO L n (MA x)=GA L n x:=by
   unfold MO GA;have d:=Tu x.kind;have c:=ed x.kind;have f:(MA x).sort=Gu x.kind:=rfl;have b:(MA x).an=x.A.name:=rfl;rw[f,b,<-d,<-c];simp only[oI]
  unfold Iu;rw[mU,nh,nh,e];exact Rj L a _
def RJ(a b:Nat):max (a:Int) (b:Int)=((max a b:Nat):Int):=by omega
set_option maxRecDepth 100000
theorem QX(v n:Nat)(L:zA->Nat)(Q:Option Addr)(N:Nat)(a:rc Mk)(w:ly)(M:ET w v n L)(hB:Cf w 0 (U Q (Z a) N) a)(ES:Z a<=1000)(T:∀x,L x<=100000)(Ax:∀p∈a,p.1.an.size<=1000000):
  Calls prog 195 #[.map (V v),U Q (Z a) N] w λr w'=>r=.returned (X J (Iu L 0 (a.map qW):Nat))/\Ac [] w w':=by
 have CL:=Ab hB;have B2:=Ab M;have B0:=Ab T;have EK:=Ab Ax;obtain⟨R,H⟩:=rd (Iu L 0 (a.map qW));have q:nc (Iu L 0 ((a.drop 0).map qW)=R):=H;rw[H];clear hB M T Ax H;go_enter func195,ntmps195;go_wp2_with fail
 go_loopg [5,10] (Z a) (λgk o i wr=>∃(k m:Nat),o=X J m/\i=X J k/\k<=Z a/\gk=Z a-k/\m<=200000/\nc (Iu L m ((a.drop k).map qW)=R)/\nc (Ac [] w wr))
 case atStart=>exact⟨0,0,rfl,rfl,by omega,rfl,by omega,q,re _ _⟩
 case round=>
  clear q;obtain⟨k,m,rfl,rfl,hk,S,hm,q,z⟩:=hrel;have C:=Ab S;clear S;by_cases B:k<Z a
  .obtain⟨g,E0,x,AB,W,he,G,_,d0,d1,d2,d3,d4,d5,d6,d7,d8⟩:=V4 (CL.kept z) k B;simp only[mu]at he;obtain⟨rfl,_,rfl⟩:=he;(have AH:(x,U AB (Z x.ts) W)∈a:=by rw[<-G];exact mw B);have E:=Z6 (EK _ AH);have Bx:=Aa B0 x.an;have y:nc (Iu L (MO L m x) ((a.drop (k+1)).map qW)=R):=by
    have h:=Aa q;rw[mQ B,mU,G]at h;exact h
   have t:=Ab (z.alloc (j1 (Ay (x,U AB (Z x.ts) W)).toArray 217));obtain⟨D,A,_,P⟩:=(B2.zV t (by simp)).at_;have u:=Ab (P x.an);have d:nc (MO L m x=if x.sort=0 then max m (L x.an)else if x.sort=1 then max m (L x.an+1)else m):=rfl;clear P G AH q z;generalize MO L m x=LM at d y;obtain⟨f,I⟩:=rd (L x.an);rw[I]at Bx u d;clear I;obtain⟨pl,j,ap,an,ts,⟨lv,FW⟩,⟨rv,FC⟩⟩:=x;simp only[Ay]at t A E d u d0 d1 d2 d3 d4 d5 d6 d7 d8;by_cases e:j=0
   ·(have CW:(j==0)=true:=by simp[e]);(have b:nc (LM=max m f):=by show _=_;rw[Aa d,mK e]);clear e d;go_wp2_with (at_lookup;refine wpList_lookup_own_int _ rfl _ _ 269 rfl 9 3 J (Maps.string_keyed underlying9) underlying269 underlying3 (zeroValue3 _) v n D rfl A _ _ rfl E ?_;intro c s F;obtain rfl:c=(f:Int):=(by have h:=s.symm.trans u;simpa using h);clear s F)
    go_roundg (Z a-(k+1))
    case measure=>have:=Aa C;omega
    case rel=>exact⟨k+1,LM,by first|(rw[Aa b,<-RJ];done)|(rw[Aa b,<-RJ];rfl),by go_num,by omega,rfl,by rw[Aa b];omega,y,t⟩
   ·(have CW:(j==0)=K:=by simp[e]);by_cases l:j=1
    ·(have AT:(j==1)=true:=by simp[l]);(have b:nc (LM=max m (f+1)):=by show _=_;rw[Aa d,mJ e,mK l]);(have EX:IntKind.i64.wrap ((f:Int)+1)=(f:Int)+1:=by rw[pV];omega);clear e l d;go_wp2_with (at_lookup;refine wpList_lookup_own_int _ rfl _ _ 269 rfl 9 3 J (Maps.string_keyed underlying9) underlying269 underlying3 (zeroValue3 _) v n D rfl A _ _ rfl E ?_;intro c s F;obtain rfl:c=(f:Int):=(by have h:=s.symm.trans u;simpa using h);clear s F)
     go_roundg (Z a-(k+1))
     case measure=>have:=Aa C;omega
     case rel=>exact⟨k+1,LM,by first|(rw[Aa b,<-RJ];done)|(rw[Aa b,<-RJ];rfl),by go_num,by omega,rfl,by rw[Aa b];omega,y,t⟩
    ·(have AT:(j==1)=K:=by simp[l]);(have b:nc (LM=m):=by show _=_;rw[Aa d,mJ e,mJ l]);clear e l d;go_wp2
     go_roundg (Z a-(k+1))
     case measure=>have:=Aa C;omega
     case rel=>exact⟨k+1,LM,by rw[Aa b],by go_num,by omega,rfl,by rw[Aa b];omega,y,t⟩
  .have b:nc (m=R):=by
    have h:=Aa q;rw[ni (by omega)]at h;exact h
   go_wp2;go_ret;rw[Aa b];exact⟨rfl,z⟩
def F2.at{α β:Type}{R:α->β->Prop}:∀{l:rc α} {m:rc β},F2 R l m->∀k (c:k<Z l) (d:k<Z m),R l[k] m[k]
 |[],[],_,k,c,_=>by simp at c
 |a::l,b::m,h,0,_,_=>h.1
 |a::l,b::m,h,k+1,c,d=>F2.at (l:=l) (m:=m) h.2 k (by simpa using c) (by simpa using d)
def ET.put{b:World}{c n:Nat}{L:zA->Nat}{D:DataW Unit}{x:zA}{v:Nat}(f:Maps.IsMap D)(d:∀y,D.atKey (UH y) (.lit (.int .i64 0))=.lit (.int .i64 (L y)))(h:b.ownsMap prog 9 (plainElem prog 3) c n (D.put (UH x) (.lit (.int .i64 v)))):ET b c n (QH L x v):=by
 refine⟨_,h,?_,λy=>?_⟩
 .obtain⟨g,i,_,_,_,e⟩:=h;exact⟨_,e⟩
 .by_cases a:y=x
  .subst a;rw[Iq,Maps.atKey_put_same f (by unfold UH;exact trivial)]
  .rw[Kr _ a,Maps.atKey_put_other (λe=>a (eV e))];exact d y
def ET.mono{w:ly}{b n a:Nat}{L:zA->Nat}(h:ET w b n L)(e:n<=a):ET w b a L:=by
 obtain⟨D,d,c⟩:=h.at_;exact⟨D,d.mono e,c⟩
def TY:∀(a:rc AV),EW a (λ_=>0)=0
 |[]=>rfl
 |c::a=>by
  have e:EW (c::a) (λ_=>0)=0+EW a (λ_=>0):=by unfold EW;rw[mU,List.sum_cons]
  rw[e,TY a]
def ZH(x:zA):(DataW.map []:DataW Unit).atKey (UH x) (.lit (.int .i64 0))=.lit (.int .i64 0):=by
 first|rfl|(unfold UH;rfl)|simp[DataW.atKey]
def j8(rcs:rc AV)(zS:zA->Nat)(w:ly)(r:Ending)(w':ly):Prop:=∃(mb n:Nat) (L:zA->Nat),r=.returned (.map (V mb))/\ET w' mb n L/\CG rcs L/\(∀x,L x<=zS x)/\w.heap.size<=mb/\Ac [] w w'
theorem OZ(HT:Option Addr)(HP:Nat)(f:rc CU)(d:rc AV)(w:World)(l:zA->Nat)(hP:CE w (.slice HT f.length HP) f)(hC:F2 Qy f d)(LB:f.length<=1000)(HR:∀c∈f,c.zD.length<=1000)(FT:∀c∈f,c.hn.size<=1000000/\∀p∈c.zD,p.1.an.size<=1000000)(hL:CG d l)(HU:∀x,l x<=1000)(HE:EW d l<=100000):
  Calls prog 166 #[.slice HT f.length HP] w λr w'=>j8 d l w r w':=by
 have HV:=Ab hP;have K4:=Ab hC;have H0:=Ab HR;have H4:=Ab FT;have HW:=Ab hL;have M:=Ab HU;have IJ:=Ab HE;have FP:=Ab hC.lenX;have W:Hid (ET (w.alloc (.map #[] 0)) w.heap.size 0 (λ_=>0)):=⟨.map [],World.ownsMap_made w _ _ _,⟨_,rfl⟩,ZH⟩;have EM:=Ab ((re [] w).alloc (.map #[] 0));have K2:= @run_makeMap prog;obtain⟨n,Ax⟩:∃n,w.heap.size=n:=⟨_,rfl⟩;have FF:=Ab Ax;clear hP hC HR FT hL HU HE;go_enter func166,ntmps166;go_wp2_with fail
 generalize hw1:w.alloc (.map #[] 0)=w1 at W EM⊢;clear hw1 K2;rw[Ax]at W
 try rw[Ax]
 clear Ax
 go_loopg [4] (EW d l+2) (λgk rv wr=>∃(R:Bool) (L:zA->Nat),rv=.bool R/\gk=(if R then EW d l-EW d L+2 else 1)/\Hid (ET wr n (EW d L) L)/\Hid (∀x,L x<=l x)/\Hid (R=false->CG d L)/\Hid (Ac [] w wr))
 case atStart=>
  refine⟨true,λ_=>0,rfl,?_,W.mono (mO _),λx=>mO _,λh=>(by cases h),EM⟩;rw[mK rfl,TY,Nat.sub_zero]
 case round=>
  clear W EM;obtain⟨R,L,rfl,HS,u,Bx,K3,s⟩:=hrel;have HG:=Ab HS;clear HS;cases R with
  |false=>
   have H1:=Ab (K3 rfl);go_wp2;go_ret;exact⟨n,_,L,rfl,u,H1,Bx,by have:=Aa FF;omega,s⟩
  |true=>
   go_wp2_with fail
   go_loopg [4,12] f.length (λK9 rv i wq=>∃(k:Nat) (m:Bool) (a:zA->Nat),rv=.bool m/\i=.int .i64 k/\k<=f.length/\K9=f.length-k/\Hid ((d.take k).foldl Ff (L,false)=(a,m))/\Hid (ET wq n (EW d a) a)/\Hid (Ac [] w wq))
   case atStart=>exact⟨0,false,L,rfl,rfl,by omega,rfl,rfl,u,s⟩
   case round=>
    clear u s;obtain⟨k,m,a,rfl,rfl,hk,HA,AH,u,s⟩:=hrel;have HI:=Ab HA;clear HA;have FC:Hid ((∀x,a x<=l x)/\EW d a<=EW d l):=by
     have h:=KO HW (d.take k) L false (λc hc=>ow hc) Bx;rw[Aa AH]at h;exact⟨h.2.1,Z2 h.2.1⟩
    by_cases A0:k<f.length
    ·(have BS:k<d.length:=by have:=Aa FP;omega);have T:=K4.at k A0 BS;obtain⟨g,LM,hp,e,ES,FB,AB,Q,P,o,he,Go,d0,d1,d2,d3⟩:=FE (HV.kept s) k A0;simp only[mu]at he;obtain⟨rfl,-,rfl⟩:=he;have N:f[k]∈f:=mw A0;have CW:=HV.each _ N;have BT:=Aa H0 _ N;have G:=Aa H4 _ N;rw[Go]at T CW BT G;have EK:=Ab (s.alloc (.cells #[.int .i64 hp,.string e,.slice FB ES.length AB,.slice Q o.length P] 189));have E0:=Ab (u.zV ((re [] wr).alloc (.cells #[.int .i64 hp,.string e,.slice FB ES.length AB,.slice Q o.length P] 189)) (by simp));have Ha:=Ab (rf wr [.int .i64 hp,.string e,.slice FB ES.length AB,.slice Q o.length P] 189);have z:=Aa FC;have A1:=Ab (QX n (EW d a) a Q P o _ E0 (CW.body.kept EK (by simp)) BT (λx=>by have:=z.1 x;have:=Aa M x;omega) G.2);have B0:Iu a 0 (o.map Prod.fst)=Hq a (An d[k]):=by
      have t:=F2.fst T.lits;simp only at t;rw[t,Rj];rfl
     have C:e=d[k].head.name:=T.hn;have DG:Hid ((d.take (k+1)).foldl Ff (L,false)=Ff (a,m) d[k]):=by
      show _=_;rw[mx BS,nH,Aa AH];rfl
     have CL:Hid (Ff (a,m) d[k]=if a e<Iu a 0 (o.map Prod.fst)then(QH a e (Iu a 0 (o.map Prod.fst)),true)else(a,m)):=by
      show _=_;unfold Ff;rw[B0,C]
     have KK:Hid (∀v,a e<v->EW d a+1<=EW d (QH a e v)):=by
      intro v hv;refine ic (λx=>?_) (mw BS) ?_
      .by_cases hx:x=e
       .rw[hx,Iq];omega
       .rw[Kr _ hx];exact mP _
      .rw[<-C,Iq];exact hv
     have CC:=Z6 G.1;have I:=z.1 e;have H9:=Aa M e;(have LL:Hid (a e<=1000):=by show a e<=1000;omega);(have KD:Hid (EW d a<=100000):=by have:=z.2;have:=Aa IJ;show EW d a<=100000;omega);have HF:Hid (Iu a 0 (o.map Prod.fst)<=100000):=by
      have h:=Ph (L:=a) (b:=2000) (An d[k]) 0 (by omega) (λx hx=>⟨λ_=>by have:=z.1 x.A.name;have:=Aa M x.A.name;omega,λ_=>by have:=z.1 x.A.name;have:=Aa M x.A.name;omega⟩);rw[B0];have t:Hq a (An d[k])<=2000:=h;show Hq a (An d[k])<=100000;omega
     clear T CW BT G N Go z B0 C I H9;obtain⟨j,HX⟩:∃j,Iu a 0 (o.map Prod.fst)=j:=⟨_,rfl⟩;rw[HX]at A1 CL HF;clear HX s u FC;(go_wp2_with fail);refine A1.mono ?_;rintro _ w3 ⟨rfl,S⟩;have HQ:=Ab (EK.trans S);have A2:=E0.zV S (by simp);have K8:=Ab A2;have AT:=Ha.kept S (by simp);have e0:=AT.cell 0;have e1:=AT.cell 1;simp at e0 e1;obtain⟨D,EX,HL,hD⟩:=A2.at_;have JJ:=Ab HL;have HD:=Ab hD;obtain⟨y,I⟩:∃y,a e=y:=⟨_,rfl⟩;have E:=Ab I;clear A2 AT Ha E0 EK A1 S d0 d1 d2 d3 HL hD I;by_cases FL:y<j
     ·(have K1:(y:Int)<(j:Int):=by omega);have K7:plainElem (H:=Unit) prog 3 (.int .i64 (j:Int))=some (.lit (.int .i64 (j:Int)),[]):=plainElem_int underlying3 (by
       have:=Aa HF
       simp[Lit.wf,IntKind.min,IntKind.max,IntKind.signed,IntKind.bits]
       omega)
      (have C:EW d a<maxLen:=by have:=Aa KD;unfold maxLen;omega);clear FL;go_wp2_with (first
       |(at_lookup;refine wpList_lookup_own_int _ rfl _ _ 269 rfl 9 3 .i64 (Maps.string_keyed underlying9) underlying269 underlying3 (zeroValue3 _) n (EW d a) D rfl EX _ _ rfl CC ?_;intro c F DT;obtain rfl:c=(y:Int):=(by have h:=F.symm.trans (HD e);rw[Aa E]at h;simpa using h);clear F DT)
       |(at_mapUpdate;refine wpList_mapUpdate_own _ rfl _ _ _ 269 rfl 9 3 (Maps.string_keyed underlying9) underlying269 _ n (EW d a) D rfl EX C _ _ (UH e) rfl rfl CC _ [] K7 ?_;intro w4 H6 H3))
      have IS:Hid (ET w4 n (EW d (QH a e j)) (QH a e j)):=(ET.put JJ HD H6).mono (KK j (by have:=Aa E;omega));have K5:Hid (Ac [] w w4):=HQ.grown H3 (λq hq=>Or.inr (by simp only[mB]at hq;have:=Aa FF;omega));have B9:Hid ((d.take (k+1)).foldl Ff (L,false)=(QH a e j,true)):=by show _=_;rw[Aa DG,Aa CL,mK (by have:=Aa E;omega)]
      go_roundg (f.length-(k+1))
      case measure=>have:=Aa HI;omega
      case rel=>exact⟨k+1,true,QH a e j,rfl,by go_num,by omega,rfl,B9,IS,K5⟩
     ·(have K1:¬(y:Int)<(j:Int):=by omega);(have B9:Hid ((d.take (k+1)).foldl Ff (L,false)=(a,m)):=by show _=_;rw[Aa DG,Aa CL,mJ (by have:=Aa E;omega)]);clear FL;go_wp2_with (at_lookup;refine wpList_lookup_own_int _ rfl _ _ 269 rfl 9 3 .i64 (Maps.string_keyed underlying9) underlying269 underlying3 (zeroValue3 _) n (EW d a) D rfl EX _ _ rfl CC ?_;intro c F DT;obtain rfl:c=(y:Int):=(by have h:=F.symm.trans (HD e);rw[Aa E]at h;simpa using h);clear F DT)
      go_roundg (f.length-(k+1))
      case measure=>have:=Aa HI;omega
      case rel=>exact⟨k+1,m,a,rfl,by go_num,by omega,rfl,B9,K8,HQ⟩
    .have HB:Hid (M9 d L=(a,m)):=by
      have h:=Aa AH;rw[mz (by have:=Aa FP;omega)]at h;exact h
     have FW:=Ab (Zt HW Bx);go_wp2_with fail
     go_roundg (if m then EW d l-EW d a+2 else 1)
     case measure=>
      have B:=Aa FW;rw[Aa HB]at B;have t:=Aa HG;simp only[if_true]at t;cases m with
      |true=>
       have h3:=B.2.2.1 rfl;have h4:=B.2.2.2;simp only at h3 h4;simp only[if_true];omega
      |false=>
       simp only[mC,if_false];omega
     case rel=>
      refine⟨m,a,rfl,rfl,u,λx=>FC.1 x,λhm=>?_,s⟩;have B:=FW.2.1;rw[Aa HB]at B;obtain⟨t,h3⟩:=B hm;simp only at t;rw[t];exact h3
theorem Tryz.yc:(Tryz.prog.info? 221).map (λi=>(i.zero,i.size,i.bytes))=V (V (U Y 0 0),1,24):=by kernel_rfl
abbrev QL:=rc Nat×ml
structure EE(w:ly)(base:Nat)(pv:ml)(ps:rc QL):Prop where
 row:oi w base 221 1 pv (Z ps) (ps.flatMap λp=>[p.2])
 each:∀p∈ps,oi w base 3 1 p.2 (Z p.1) (p.1.flatMap Cr)
 apart:ps.Pairwise λa b=>∀q,a.2.ownBlock=V q->b.2.ownBlock≠V q
def EE.kept{w w':ly}{a:rc QL}(h:EE w n z a)(k:Ac [] w w'):EE w' n z a:=⟨Ad h.row k,λp b=>Ad (h.each p b) k,h.apart⟩
def cO{a:ml}(h:oi w k 3 1 z n y)(c:oi w i 221 1 a m x)(b:w.grownBy u a.ownBlock):oi u k 3 1 z n y:=
 n5 h b (by
  cases hp:z.ownBlock with
  |none=>exact lo rfl
  |some q=>exact lx (λe=>Bh h c (by decide) q hp e.symm))
def T6{a:rc QL}(h:EE w n z a)(k:Nat)(i:k<Z a):∃g j f b,z=U (V ⟨g,0,Y⟩) (Z a) j/\a[k].2=U f a[k].1.length b/\oa w ⟨g,k,Y⟩=V (U f a[k].1.length b):=by
 obtain⟨g,j,l,_,m⟩:=AC h.row (λc _=>rfl) k i;have d:=m k i 0 (by omega);obtain⟨f,b,e⟩:=Al (h.each _ (mw i));simp[e]at d;exact⟨g,j,f,b,l,e,d⟩
structure Jt(f:Nat->Nat)(k:Nat)(ps:rc QL):Prop where
 lists:∀j (hj:j<Z ps),ps[j].1=(List.range k).filter λi=>f i==j
 top:∀i,i<k->f i<Z ps
 len:Z ps<=1001
def Jt.more{f:Nat->Nat}{a:rc QL}(h:Jt f k a)(l:Z a<=1000)(v:ml):Jt f k (a++[([],v)]):=by
 refine⟨λj d=>?_,λi b=>by have:=h.top i b;simp;omega,by simp;omega⟩;by_cases c:j<Z a
 .rw[nV c];exact h.lists j c
 .have e:j=Z a:=by simp at d;omega
  subst e;rw[List.getElem_append_right (mP _)];simp only[Nat.sub_self,pS]
  symm
  rw[qh];intro i b g;have m:=h.top i (qr.1 b);have:f i=Z a:=by simpa using g
  omega
def Jt.put{f:Nat->Nat}{a:rc QL}(h:Jt f k a)(b:f k<Z a)(v:ml):Jt f (k+1) (a.set (f k) (a[f k].1++[k],v)):=by
 refine⟨λj c=>?_,λi l=>?_,by rw[ou];exact h.len⟩
 .have d:j<Z a:=by rw[ou]at c;exact c
  rw[List.range_succ,oW,List.getElem_set];split
  .rename_i e;subst e;simp only;rw[h.lists _ b]
   congr 1
   simp
  .rename_i e;rw[h.lists j d];(have:([k].filter λi=>f i==j)=[]:=by simp;exact e);rw[this,np]
 .rw[ou];by_cases g:i=k
  .rw[g];exact b
  .exact h.top i (by omega)
def cT(b:rc QL)(j:Nat)(x:QL):(b.set j x).flatMap (λp=>[p.2])=(b.flatMap λp=>[p.2]).set j x.2:=by
 have e:∀l:rc QL,l.flatMap (λp=>[p.2])=l.map λp=>p.2:=λl=>by
  induction l with
  |nil=>rfl
  |cons a l ih=>simp[ih]
 rw[e,e,qT]
def EE.put{w r z:ly}{g B:Nat}{c:rc QL}(s:j<Z c){x:QL}(h:EE w m (U (V ⟨g,0,Y⟩) (Z c) B) c)(F:w.grownBy r c[j].2.ownBlock)(N:oi r m 3 1 x.2 (Z x.1) (x.1.flatMap Cr))(E:∀q,x.2.ownBlock=V q->c[j].2.ownBlock=V q\/w.heap.size<=q)
  (D:z=r.setCell ⟨g,j,Y⟩ x.2):EE z m (U (V ⟨g,0,Y⟩) (Z c) B) (c.set j x):=by
 have P:=h.each _ (mw s);have G:oi r m 221 1 (U (V ⟨g,0,Y⟩) (Z c) B) (Z c) (c.flatMap λp=>[p.2]):=n5 h.row F (lx (λe=>Bh h.row P (by decide) g rfl e.symm));have L:∀i (f:i<Z c),i≠j->oi r m 3 1 c[i].2 c[i].1.length (c[i].1.flatMap Cr):=λi f I=>n5 (h.each _ (mw f)) F (by
  cases t:c[i].2.ownBlock with
  |none=>exact lo rfl
  |some q=>
   refine lx (λe=>?_)
   have l:=oT.1 h.apart
   rcases Nat.lt_or_gt_of_ne I with d|d
   .exact l i j f s d q t e.symm
   .exact l j i s f d q e.symm t)
 have H:∀{v:ml} {n:Nat} {C:rc ml},oi r m 3 1 v n C->oi z m 3 1 v n C:=fun{v n C} hv=>by
  rw[D];exact Ah hv (λe=>Bh hv G (by decide) g e rfl) _
 refine⟨?_,λp t=>?_,?_⟩
 .rw[ou,cT,D];exact BN G j x.2
 .obtain⟨i,f,rfl⟩:=nw t;rw[ou]at f;rw[List.getElem_set];split
  .exact H N
  .rename_i e;exact H (L i f (λM=>e M.symm))
 .have l:=oT.1 h.apart;refine oT.2 (λa b y u A q o k=>?_);rw[ou]at y u;rw[List.getElem_set]at o k;split at o
  .rename_i e;subst e;rw[mJ (by omega)]at k;rcases E q o with d|d
   .exact l j b s u A q d k
   .have:=((h.each _ (mw u)).lt q k).2;omega
  .split at k
   .rename_i e;subst e;rcases E q k with d|d
    .exact l a j y s A q o d
    .have:=((h.each _ (mw y)).lt q o).2;omega
   .exact l a b y u A q o k
def Hv(pcs:rc CU)(i:Nat):zA:=((pcs[i]?).map CU.hn).getD ByteArray.empty
def bq(pcs:rc CU)(rcs:rc AV)(zS:zA->Nat)(w:ly)(r:Ending)(w':ly):Prop:=∃(ad:Option Addr) (cp:Nat) (ps:rc QL) (L:zA->Nat),r=.returned (U ad (Z ps) cp)/\EE w' w.heap.size (U ad (Z ps) cp) ps/\Jt (λi=>L (Hv pcs i)) (Z pcs) ps/\CG rcs L/\(∀x,L x<=zS x)/\Ac [] w w'
theorem Zu(HF:Option Addr)(HB:Nat)(m:rc CU)(AB:rc AV)(w:ly)(AH:zA->Nat)(hP:CE w (U HF (Z m) HB) m)(hC:F2 Qy m AB)(KD:Z m<=1000)(H7:∀c∈m,Z c.zD<=1000)(E0:∀c∈m,c.hn.size<=1000000/\∀p∈c.zD,p.1.an.size<=1000000)(hL:CG AB AH)(HH:∀x,AH x<=1000)(HX:EW AB AH<=100000):
  Calls prog 123 #[U HF (Z m) HB] w λr w'=>bq m AB AH w r w':=by
 obtain⟨i0,Nj,K6,NB,M1⟩:=nC Tryz.yc;obtain⟨j0,K2,Nd,JA,K7⟩:=nC Tryz.yJ;have NN:=Ab hP;have K1:=Ab E0;have LB:=Ab HH;have HZ:=Ab (OZ HF HB m AB w AH hP hC KD H7 E0 hL HH HX);obtain⟨z,H1⟩:=rd w.heap.size;have W:=Ab H1;clear hP hC H7 E0 hL HH HX H1;go_enter func123,ntmps123;go_wp2_with fail
 refine HZ.mono ?_;rintro _ w1 ⟨H,n,L,rfl,hM,H5,IS,NE,k1⟩;have IJ:=Ab hM;have KA:=Ab H5;have HS:=Ab IS;have HL:=Ab k1;have NS:nc (z<=H):=by have:=Aa W;show z<=H;omega
 clear HZ hM H5 IS NE k1;go_wp2_with fail
 go_loopg [4,12] (Z m) (λgk pv i wr=>∃(k:Nat) (f:rc QL) (E:Option Addr) (y:Nat),pv=U E (Z f) y/\i=X J k/\k<=Z m/\gk=Z m-k/\nc (Jt (λi=>L (Hv m i)) k f)/\nc (EE wr z (U E (Z f) y) f)/\nc (ET wr H n L)/\nc (Ac [] w wr))
 case atStart=>exact⟨0,[],Y,0,rfl,rfl,by omega,rfl,⟨λj hj=>by simp at hj,λi hi=>by omega,by simp⟩,⟨mS _ _ _ _,λp P=>by simp at P,List.Pairwise.nil⟩,IJ,HL⟩
 case round=>
  clear IJ HL;obtain⟨k,f,E,y,rfl,rfl,hk,Ix,S,F,Q,N⟩:=hrel;have HG:=Ab Ix;clear Ix;by_cases FC:k<Z m
  .obtain⟨g,NA,P,I,CL,DT,BS,B9,B0,BT,he,FB,d0,d1,d2,d3⟩:=FE (NN.kept N) k FC;simp only[mu]at he;obtain⟨rfl,-,rfl⟩:=he;have ES:=(K1 _ (mw FC)).1;rw[FB]at ES;have H0:=Z6 ES;have MN:nc (Hv m k=I):=by
    show _=_;unfold Hv;rw[mG FC,FB];rfl
   (have L0:L I<=1000:=by have:=Aa HS I;have:=Aa LB I;omega);have FW:=Ab (N.alloc (j1 #[X J P,O I,U DT (Z CL) BS,U B9 (Z BT) B0] 189));have EX:=Q.zV ((re [] wr).alloc (j1 #[X J P,O I,U DT (Z CL) BS,U B9 (Z BT) B0] 189)) (by simp);have HE:=Ab EX;have A2:=Ab (F.kept ((re [] wr).alloc (j1 #[X J P,O I,U DT (Z CL) BS,U B9 (Z BT) B0] 189)));obtain⟨D,H4,M3,hD⟩:=EX.at_;have HD:=Ab (hD I);obtain⟨l,FT⟩:=rd (L I);rw[FT]at HD L0;(have K4:nc (L (Hv m k)=l):=by show _=_;rw[Aa MN];exact FT);clear EX M3 hD ES FB FT F Q N;go_wp2_with (at_lookup;refine wpList_lookup_own_int _ rfl _ _ 269 rfl 9 3 J (Maps.string_keyed underlying9) underlying269 underlying3 (zeroValue3 _) H n D rfl H4 _ _ rfl H0 ?_;intro c H9 M2;obtain rfl:c=(l:Int):=(by have h:=H9.symm.trans HD;simpa using h);clear H9 M2)
   clear H4 HD H0 d0 d1 d2 d3;generalize wr.alloc (j1 #[X J P,O I,U DT (Z CL) BS,U B9 (Z BT) B0] 189)=wa at FW HE A2⊢
   go_loopg [4] (l+2-Z f) (λNL pv wq=>∃(f:rc QL) (E:Option Addr) (y:Nat),pv=U E (Z f) y/\NL=l+2-Z f/\nc (Jt (λi=>L (Hv m i)) k f)/\nc (EE wq z (U E (Z f) y) f)/\nc (ET wq H n L)/\nc (Ac [] w wq))
   case atStart=>exact⟨f,E,y,rfl,rfl,S,A2,HE,FW⟩
   case round=>
    clear S A2 HE FW;obtain⟨f,E,y,rfl,IA,S,F,Q,N⟩:=hrel;have M0:=Ab IA;clear IA;(have N4:z<=wr.heap.size:=by have:=N.size;have:=Aa W;omega);by_cases NY:Z f<=l
    ·(have LS:(Z f:Int)<=(l:Int):=by omega);have v:=F.row;go_wp2_with (at_builtin;refine mZ _ rfl (.tmp 26) (.tmp 27) _ rfl z 221 i0 _ 1 24 underlying219 Nj K6 NB M1 rfl (by omega) (U E (Z f) y) (Z f) (f.flatMap λp=>[p.2]) rfl (mE v _) ⟨wr.heap.size,0,Y⟩ 1 1 [U Y 0 0] rfl rfl (mW (m7 wr _)) (by simp[Value.oneCell']) (by omega) (by unfold maxLen;omega) (by omega) (by simp;omega) (wr.heap.size+1) (by simp) ?_;intro G C u AR A BA FA)
     have B2:=Ab (S.more (by omega) (U Y 0 0));have AO:nc (EE u z (U (V ⟨G,0,Y⟩) (Z (f++[([],U Y 0 0)])) C) (f++[([],U Y 0 0)])):=by
      refine⟨?_,λp P=>?_,?_⟩
      .rw[mY];simp only[mM,mL,m8,nE,mX,nP,np];exact AR
      .rcases mF.1 P with h|h
       .exact cO (mE (F.each p h) _) (mE v _) A
       .simp only[my]at h;subst h;exact mS _ _ _ _
      .rw[qq];refine⟨F.apart,by simp,λa ha b B q _ s=>?_⟩;simp only[my]at B;subst B;simp[qX]at s
     have HI:Ac [] w u:=(N.alloc (j1 #[U Y 0 0] 221)).grown A (λq s=>lx (by have:=(v.lt q s).1;have:=Aa W;omega));have EK:nc (ET u H n L):=by
      have CW:=Q.zV ((re [] wr).alloc (j1 #[U Y 0 0] 221)) (by simp);refine CW.zV (M:=(U E (Z f) y).ownBlock.toList) ((re _ _).grown A (λq s=>lo (by rw[s];simp))) (λT=>?_);obtain⟨D,⟨es,HP,B,_⟩,_⟩:=CW.at_;rcases(mE v (j1 #[U Y 0 0] 221)).2 with⟨e,_⟩|⟨g',c',HO,e,_,AT,_⟩
      .rw[e]at T;simp[qX]at T
      .rw[e]at T;simp[qX]at T;subst T;rw[AT]at B;cases B
     have CC:=Ab HI;clear AR A BA FA v HI
     go_roundg (l+2-(Z f+1))
     case measure=>have:=Aa M0;omega
     case rel=>exact⟨f++[([],U Y 0 0)],V ⟨G,0,Y⟩,C,by simp,by simp,B2,AO,EK,CC⟩
    ·(have LS:¬(Z f:Int)<=(l:Int):=by omega);(have R:l<Z f:=by omega);(have N0:(0:Int)<=(l:Int):=by omega);(have N2:(l:Int)<(Z f:Int):=by omega);obtain⟨g,NA,Ax,Bx,he,hv,HT⟩:=T6 F l R;simp only[mu]at he;obtain⟨rfl,-,rfl⟩:=he;have v:=F.each _ (mw R);rw[hv]at v;have HV:=Ab hv;have M6:f[l].1.length<=1000:=by
      rw[(Aa S).lists l R];have:=oo (λi=>L (Hv m i)==l) (List.range k);rw[List.length_range]at this;omega
     obtain⟨o,HC⟩:=rd (f[l].1);have Nx:=Ab HC;rw[HC]at v M6 HT HV;clear HC hv;have A1:=F.row;have A2:=Ab (F.kept ((re [] wr).alloc (j1 #[X J k] 3)));have LM:nc (∀u:ly,(wr.alloc (j1 #[X J k] 3)).grownBy u (U Ax (Z o) Bx).ownBlock->oi u z 221 1 (U (V ⟨g,0,Y⟩) (Z f) y) (Z f) (f.flatMap λp=>[p.2])/\u.frozen? ⟨g,l,Y⟩=K/\oa u ⟨g,l,Y⟩=V (U Ax (Z o) Bx)):=by
      intro u A;have Go:oi u z 221 1 (U (V ⟨g,0,Y⟩) (Z f) y) (Z f) (f.flatMap λp=>[p.2]):=n5 (mE A1 (j1 #[X J k] 3)) A (lx (λe=>Bh A1 v (by decide) g rfl e.symm));obtain⟨g',NV,HN,_,K8⟩:=AC Go (λc _=>rfl) l R;simp only[mu,mB,nr]at HN;obtain⟨⟨rfl,-,-⟩,-,-⟩:=HN;have d:=K8 l R 0 (by omega);simp[Aa HV]at d;exact⟨Go,Go.frozenAt l,d⟩
     go_wp2_with (at_builtin;refine mZ _ rfl (.tmp 34) (.tmp 36) _ rfl z 3 j0 _ 1 8 underlying221 K2 Nd JA K7 rfl (by omega) (U Ax (Z o) Bx) (Z o) (o.flatMap Cr) rfl (mE v _) ⟨wr.heap.size,0,Y⟩ 1 1 [X J k] rfl rfl (mW (m7 wr _)) (by simp[Value.oneCell']) (by omega) (by unfold maxLen;omega) (by omega) (by simp;omega) (wr.heap.size+1) (by simp) ?_;intro G C u AR A BA FA;have n9:=Aa LM u A;have f9:=n9.2.1;have c9:=n9.2.2;clear n9)
     have hx:oi u z 3 1 (U (V ⟨G,0,Y⟩) (Z (o++[k])) C) (Z (o++[k])) ((o++[k]).flatMap Cr):=by
      rw[mY];simp only[mM,mL,m8,nE,mX,nP,np];exact AR
     have AO:=Ab (EE.put (x:=(o++[k],U (V ⟨G,0,Y⟩) (Z (o++[k])) C)) R A2 (by rw[Aa HV];exact A) hx (λq s=>by
      simp only[qX,mB]at s
      subst s
      rw[Aa HV]
      rcases BA with h|h
      .exact lo h
      .exact lx (by simp;omega)) rfl)
     have B2:nc (Jt (λi=>L (Hv m i)) (k+1) (f.set l (o++[k],U (V ⟨G,0,Y⟩) (Z (o++[k])) C))):=by
      have hf:=Aa K4;have h:=S.put (by simp only[hf];exact R) (U (V ⟨G,0,Y⟩) (Z (o++[k])) C);simp only[hf]at h;rw[Aa Nx]at h;exact h
     have KS:=mE v (j1 #[X J k] 3);have HR:∀q,(U Ax (Z o) Bx).ownBlock=V q->q≠H:=by
      intro q s e;subst e;obtain⟨D,⟨es,HP,B,_⟩,_⟩:=Q.at_;rcases v.2 with⟨e,_⟩|⟨g',c',HO,e,_,AT,_⟩
      .rw[e]at s;simp[qX]at s
      .rw[e]at s;simp[qX]at s;subst s;rw[AT]at B;cases B
     have MB:g≠H:=by
      intro e;subst e;obtain⟨D,⟨es,HP,B,_⟩,_⟩:=Q.at_;rcases A1.2 with⟨e,_⟩|⟨g',c',HO,e,_,AT,_⟩
      .cases e
      .simp only[mu,mB,nr]at e;obtain⟨⟨rfl,-,-⟩,-,-⟩:=e;rw[AT]at B;cases B
     have EK:nc (ET (u.setCell ⟨g,l,Y⟩ (U (V ⟨G,0,Y⟩) (Z o+1) C)) H n L):=by
      have CW:=Q.zV ((re [] wr).alloc (j1 #[X J k] 3)) (by simp);have LD:=CW.zV (M:=(U Ax (Z o) Bx).ownBlock.toList) ((re _ _).grown A (λq s=>lo (by rw[s];simp))) (λT=>HR H (by simpa using T) rfl);exact LD.zV (M:=[g]) ((re [g] u).setCell (p:=⟨g,l,Y⟩) (lo (by simp)) _) (by simp;exact λe=>MB e.symm)
     have CC:=Ab (((N.alloc (j1 #[X J k] 3)).grown A (λq s=>lx (by have:=(v.lt q s).1;have:=Aa W;omega))).setCell (p:=⟨g,l,Y⟩) (lx (by have:=(A1.lt g rfl).1;have:=Aa W;simp;omega)) (U (V ⟨G,0,Y⟩) (Z o+1) C));simp only[mM,mL,m8,nE]at AO B2;generalize u.setCell ⟨g,l,Y⟩ (U (V ⟨G,0,Y⟩) (Z o+1) C)=wz at AO EK CC⊢;clear AR A BA FA v A1 f9 c9 hx KS HR HT;go_wp2
     go_roundg (Z m-(k+1))
     case measure=>have:=Aa HG;omega
     case rel=>exact⟨k+1,f.set l (o++[k],U (V ⟨G,0,Y⟩) (Z o+1) C),V ⟨g,0,Y⟩,y,by simp,by go_num,by omega,rfl,B2,by rw[ou];exact AO,EK,CC⟩
  .have LC:nc (Jt (λi=>L (Hv m i)) (Z m) f):=by
    (have e:k=Z m:=by omega);have h:=Aa S;rw[e]at h;exact h
   go_wp2;go_ret;exact⟨E,y,f,L,rfl,by rw[Aa W];exact F,LC,KA,HS,N⟩
structure GR(w w':ly):Prop where
 size:w.heap.size<=w'.heap.size
 at_:∀(q:Nat) (cs:Array ml) (t:TypeId) (fr:Nat×Nat),w.heap[q]?=V (j1 cs t fr)->t≠139->t≠104->t≠176->w'.heap[q]?=V (j1 cs t fr)
def GR.refl(w:ly):GR w w:=⟨mP _,λ_ _ _ _ h _ _ _=>h⟩
def GR.trans(h:GR w v)(k:GR v u):GR w u:=⟨nD h.size k.size,λq e t i j f d g=>k.at_ q e t i (h.at_ q e t i j f d g) f d g⟩
def GR.of(k:Ac M w v)(g:∀q∈M,∃(c:Array ml) (t:TypeId) (d:Nat×Nat),w.heap[q]?=V (j1 c t d)/\(t=139\/t=104\/t=176)):GR w v:=by
 refine⟨k.size,λq c t d a i f l=>?_⟩;rw[k.block q (nz.1 a).1 (λe=>?_)]
 .exact a
 .obtain⟨m,n,o,b,j⟩:=g q e;rw[a]at b;simp only[mB,Obj.cells.injEq]at b;obtain⟨_,rfl,_⟩:=b;rcases j with h|h|h
  .exact i h
  .exact f h
  .exact l h
def GR.kept{w w':ly}(k:Ac [] w w'):GR w w':=GR.of k (λq a=>by simp at a)
def GR.row(h:GR w u){v:ml}(a:oi w m k i v n y)(j:k≠139)(f:k≠104)(q:k≠176):oi u m k i v n y:=by
 refine⟨a.1,?_⟩;rcases a.2 with l|⟨g,c,b,rfl,p,s,t,d,r,o⟩
 .exact lo l
 .exact lx ⟨g,c,b,rfl,p,h.at_ _ _ _ _ s j f q,t,d,r,o⟩
def aP(h:AI w b y T):∃(c:Array ml) (a:TypeId) (d:Nat×Nat),w.heap[b]?=V (j1 c a d)/\a=T:=⟨_,_,_,h,rfl⟩
def aW(h:oi w m k i z n y){q:Nat}(a:z.ownBlock=V q):∃(d:Array ml) (b:TypeId) (j:Nat×Nat),w.heap[q]?=V (j1 d b j)/\b=k:=by
 rcases h.2 with⟨rfl,_⟩|⟨g,c,l,rfl,_,f,_⟩
 .simp[qX]at a
 .simp only[qX,mB]at a;subst a;exact⟨_,_,_,f,rfl⟩
structure Tn(w0:ly)(cb:Nat)(clv:ml)(X:rc Nat)(s:rc Af)(w:ly):Prop where
 kept:Ac [] w0 w
 ya:w0.heap.size<=cb
 out:∃(sad:Option Addr) (scp:Nat) (fs:rc Eb) (tad:Option Addr) (tcp:Nat) (xs:rc ml),AI w cb [clv,U sad (Z fs) scp,U tad (Z s) tcp] 139/\Io w (U sad (Z fs) scp) fs/\Cx fs s/\
  oi w w0.heap.size 176 4 (U tad (Z s) tcp) (Z s) xs/\(∀q,(U sad (Z fs) scp).ownBlock=V q->w0.heap.size<=q)/\∀q,(U tad (Z s) tcp).ownBlock=V q->q∉X
def Tn.grow(h:Tn v n z M f w)(k:Ac [] w u):Tn v n z M f u:=by
 obtain⟨o,e,l,c,a,i,g,b,m,d,j⟩:=h.out;exact⟨h.kept.trans k,h.ya,o,e,l,c,a,i,g.kept k,b.kept k,m,Ad d k,j⟩
def Cl(p:Nat×Vy):rc ml:=Ly p.1 p.2
structure YM(w:ly)(B:Nat)(kv:ml)(hs:rc (Nat×G1 Af))(sts:rc (Nat×Vy)):Prop where
 eq:sts.map (λp=>(p.1,p.2.f.f,p.2.ns.map Eb.f))=hs.map λh=>(h.1,Bq h.2.head,h.2.pos.map Bq)
 each:∀p∈sts,L6 w p.2/\∀q,p.2.n.ownBlock=V q->B<=q/\kv.ownBlock≠V q
def YM.kept{w w':ly}{B:Nat}{c:ml}{a:rc (Nat×G1 Af)}{d:rc (Nat×Vy)}(h:YM w B c a d)(k:Ac [] w w'):YM w' B c a d:=⟨h.eq,λp b=>⟨(h.each p b).1.kept k,(h.each p b).2⟩⟩
structure Nv(w0:ly)(cb:Nat)(clv:ml)(X Y:rc Nat)(s:rc Af)(hs:rc (Nat×G1 Af))(w:ly):Prop where
 kept:Ac [] w0 w
 ya:w0.heap.size<=cb
 out:∃(sad:Option Addr) (scp:Nat) (fs:rc Eb) (tad:Option Addr) (tcp:Nat) (sts:rc (Nat×Vy)),AI w cb [clv,U sad (Z fs) scp,U tad (Z s) tcp] 139/\Io w (U sad (Z fs) scp) fs/\Cx fs s/\
  oi w w0.heap.size 176 4 (U tad (Z s) tcp) (Z s) (sts.flatMap Cl)/\(∀q,(U sad (Z fs) scp).ownBlock=V q->w0.heap.size<=q/\q∉Y)/\(∀q,(U tad (Z s) tcp).ownBlock=V q->q∉X)/\YM w w0.heap.size (U sad (Z fs) scp) hs sts
def Nv.cou{a j:rc Nat}{o:rc (Nat×G1 Af)}(h:Nv v n z a j f o w):Tn v n z a f w:=by
 obtain⟨t,l,p,g,c,u,k,e,r,i,m,b,_⟩:=h.out;exact⟨h.kept,h.ya,t,l,p,g,c,_,k,e,r,i,λq d=>(m q d).1,b⟩
def Nv.grow{a b:rc Nat}{c:rc (Nat×G1 Af)}(h:Nv v n z a b f c w)(k:Ac [] w u):Nv v n z a b f c u:=by
 obtain⟨x,q,r,g,e,l,m,i,t,j,p,d,o⟩:=h.out;exact⟨h.kept.trans k,h.ya,x,q,r,g,e,l,m.kept k,i.kept k,t,Ad j k,p,d,o.kept k⟩
abbrev kN:AV->rc Af->UInt8->rc zA->rc zA:=λc s=>JN (An c) s
abbrev I9(r:AV)(s:rc Af):rc Af:=S4 (JN (An r) s) r (CP r) (DL r) s
structure aQ(pcs:rc CU)(J:rc (Nat×G1 Af)->rc Af->Prop)(num:Nat)(r:AV)(hs:rc (Nat×G1 Af))(s:rc Af):Prop where
 lt:num<Z pcs
 cl:Rq (pcs[num]'lt) r s
 nd:(I9 r s).Nodup
 new:∀f∈I9 r s,f∉s/\AL f/\Z f.args<=1000
 len:Z (I9 r s)<=100000
 mid:∀IS:rc (G1 Af),IS.map G1.head=I9 r s->(∀i∈IS,∃σ,(∀x∈An r,Cp (Bo σ) (Eu σ) s x=true)/\i=Da r σ)->∀j,J (hs++(IS.take j).map (Prod.mk num)) (((I9 r s).take j).foldl A9 s)
def UM{l:rc Af}(a:j<Z l):(l.take (j+1)).foldl A9 f=A9 ((l.take j).foldl A9 f) l[j]:=by
 rw[mx a,nH];rfl
def eZ{l:rc Af}{s:rc Af}(t:Dy s)(v:∀f∈s,AL f)(x:l.Nodup)(h:∀f∈l,f∉s/\AL f):∀j (c:j<Z l),Dy ((l.take j).foldl A9 s)/\(∀f∈(l.take j).foldl A9 s,AL f)/\(∀f,f∈(l.take j).foldl A9 s↔f∈s\/f∈l.take j)/\l[j]∉(l.take j).foldl A9 s:=by
 have p:∀j,j<=Z l->Dy ((l.take j).foldl A9 s)/\(∀f∈(l.take j).foldl A9 s,AL f)/\(∀f,f∈(l.take j).foldl A9 s↔f∈s\/f∈l.take j):=by
  intro j
  induction j with
  |zero=>intro _;exact⟨t,v,λf=>by simp⟩
  |succ j ih=>
   intro c;obtain⟨o,k,d⟩:=ih (by omega);(have g:j<Z l:=by omega);have u:=(h _ (mw g)).2;obtain⟨a,b,m⟩:=Ct u o k;rw[UM g];refine⟨a,b,λf=>?_⟩;rw[m,d,mx g,mF,my,or_assoc]
 intro j c;obtain⟨o,k,d⟩:=p j (by omega);refine⟨o,k,d,λq=>?_⟩;rcases(d _).1 q with n|n
 .exact(h _ (mw c)).1 n
 .obtain⟨i,w,e⟩:=nw n;rw[nu]at w;rw[pP]at e;have r:=oT.1 x i j (by omega) c (by omega);exact r e
def gC(f:Af):Z (Bq f).zC=Z f.args:=by unfold Bq;simp
theorem eQ(HL:rc (Nat×G1 Af)->rc Af->Prop)(w0:ly)(o:Nat)(BS:Option Addr)(BA:Nat)(AH:rc CU)(a4:Option Addr)(TX:Nat)(ns:rc Nat)(ds:rc AV)(s:rc Af)(hs:rc (Nat×G1 Af))(w:ly)(hP:CE w0 (U BS (Z AH) BA) AH)(b2:Z AH<=1000)(fc:Z ns<=1000)
  (hY:oi w 0 3 1 (U a4 (Z ns) TX) (Z ns) (ns.flatMap Cr)) (hC:Nv w0 o (U BS (Z AH) BA) [] [] s hs w) (hJ:HL hs s) (Wa:∀hs s,HL hs s->Dy s/\(∀f∈s,AL f)/\Z s<=9000)
  (ST:∀hs s,HL hs s->F2 (λu r=>aQ AH HL u r hs s) ns ds):
  Calls prog 124 #[j3 (V ⟨o,0,Y⟩),U a4 (Z ns) TX] w λr w'=>∃s' af,s'=(Gw (Fg kN) ds s).1/\r=.returned (.bool (decide (Z s<Z s')))/\HL af s'/\Nv w0 o (U BS (Z AH) BA) [] [] s' af w'/\GR w w':=by
 obtain⟨i0,dc,ce,d2,c5⟩:=nC Tryz.zv;have b0:=Ab hP;have ch:=Ab hY;have UO:=Ab hC;have HJ:=Ab hJ;have aa:=Ab Wa;have d6:=Ab ST;have TL:nc (Z ns=Z ds):=(ST hs s hJ).lenX;obtain⟨em,eg,eA,eT,eb,fk,X0,_⟩:=hC.out;have c2:=X0.cell 2;simp at c2;obtain⟨S0,N4⟩:=rd (Z s);have b3:=Ab N4;rw[N4]at c2;clear hP hY hC hJ Wa ST X0 N4;go_enter func124,ntmps124;go_wp2_with fail
 clear c2
 go_loopg [17] (Z ns) (λgk i wr=>∃(k:Nat) (s1:rc Af) (BT:rc (Nat×G1 Af)),i=X J k/\k<=Z ns/\gk=Z ns-k/\nc (s1=((ds.take k).foldl (KF (Fg kN)) (s,K)).1)/\nc (HL BT s1)/\nc (Nv w0 o (U BS (Z AH) BA) [] [] s1 BT wr)/\nc (GR w wr))
 case atStart=>exact⟨0,s,hs,rfl,by omega,rfl,rfl,HJ,UO,GR.refl _⟩
 case round=>
  clear UO HJ;obtain⟨k,s1,BT,rfl,hk,br,TT,RI,FP,K9⟩:=hrel;have HG:=Ab br;clear br;by_cases VR:k<Z ns
  ·(have a2:k<Z ds:=by have:=Aa TL;omega);have HF:=(d6 BT s1 RI).at k VR a2;obtain⟨yg,e5,he,bv⟩:=aX (K9.row ch (by decide) (by decide) (by decide)) k VR;simp only[mu]at he;obtain⟨rfl,-,rfl⟩:=he;obtain⟨u,bx⟩:=rd (ns[k]);rw[bx]at bv HF;obtain⟨r,S⟩:=rd (ds[k]);rw[S]at HF;have DG:nc (((ds.take (k+1)).foldl (KF (Fg kN)) (s,K)).1=(I9 r s1).foldl A9 s1):=by
    show _=_;rw[mx a2,nH,S];have h:=Aa TT;rw[nh,List.foldl_nil];generalize(ds.take k).foldl (KF (Fg kN)) (s,K)=acc at h⊢;rw[h];rfl
   clear bx S;obtain⟨EK,CL,N,W,T,xs,hb,HH,HM,HU,HY,hX,H8⟩:=(Aa FP).out;have a9:=Ab (Vw o u BS BA AH EK CL N (U W (Z s1) T) r s1 wr HF.lt b2 hb (by exact(Aa b0).kept (Aa FP).kept) HH HM HF.cl HF.len);have HD:=Ab HF;(have e4:(0:Int)<=(k:Int):=by omega);(have ek:(k:Int)<(Z ns:Int):=by omega);have ab:nc (∀w2 nv nn TV (y:rc Vy),Ac [] wr w2->oi w2 wr.heap.size 176 4 nv nn TV->(∀m∈y,L6 w2 m/\gM wr.heap.size r s1 m)->Nv w0 o (U BS (Z AH) BA) nv.ownBlock.toList (y.filterMap λm=>m.n.ownBlock) s1 BT w2):=λw2 nv nn TV y k2 hn AO=>⟨(Aa FP).kept.trans k2,(Aa FP).ya,EK,CL,N,W,T,xs,hb.kept k2,HH.kept k2,HM,Ad HU k2,λq d=>⟨(HY q d).1,λR=>by
    obtain⟨m,NL,e⟩:=oG.1 R
    have M:=(HH.row.lt q d).2
    have L:=(AO m NL).2.1 q e
    omega⟩,λq d R=>by
    have M:=(HU.lt q d).2
    have L:=(hn.lt q (by simpa using R)).1
    omega,H8.kept k2⟩
   clear HF hb HH HM HU HY hX H8;(go_wp2_with fail);refine a9.mono ?_;rintro _ w2 ⟨a7,LE,y,rfl,LB,Nd,JA,k2⟩;have W2:=Ab (K9.trans (GR.kept k2));have ea:=Ab LB;have H5:=Ab (Ak Nd (mO _));(have HT:nc (∀m∈y,L6 w2 m):=λm AO=>(JA m AO).1);(have d3:nc (∀m∈y,∀q,m.n.ownBlock=V q->w0.heap.size<=q):=λm AO q d=>nD FP.kept.size ((JA m AO).2.1 q d));obtain⟨IS,QR,a6,al⟩:=UQ y (I9 r s1) LB (λf hf=>(HD.new f hf).2.1) (λm AO=>(JA m AO).2);have NE:=Ab QR;have c8:=Ab al;have TS:=Ab (HD.mid IS QR a6);clear QR a6 al;(have ew:Z y=Z (I9 r s1):=by have:=congrArg List.length LB;simpa using this);have YP:=Ab (ab w2 _ _ _ y k2 Nd JA);have er:=HD.len;clear a9 LB Nd JA FP K9 ab bv k2;go_wp2_with fail
   go_loopg [25] (Z y) (λd7 i wq=>∃(j:Nat),i=X J j/\j<=Z y/\d7=Z y-j/\nc (Nv w0 o (U BS (Z AH) BA) (U a7 (Z y) LE).ownBlock.toList (y.filterMap λm=>m.n.ownBlock) (((I9 r s1).take j).foldl A9 s1) (BT++(IS.take j).map (Prod.mk u)) wq)/\nc (oi wq 0 176 4 (U a7 (Z y) LE) (Z y) (y.flatMap (Ly u)))/\nc (∀m∈y,L6 wq m)/\nc (GR w wq))
   case atStart=>exact⟨0,rfl,by omega,rfl,(by simpa using YP),H5,HT,W2⟩
   case round=>
    clear YP H5 HT W2;obtain⟨j,rfl,hj,W1,FT,H5,HT,an⟩:=hrel;have c4:=Ab W1;clear W1;by_cases ES:j<Z y
    ·(have K2:j<Z (I9 r s1):=by omega);obtain⟨g,fa,he,_,H3⟩:=AC H5 (λc _=>rfl) j ES;simp only[mu]at he;obtain⟨rfl,-,rfl⟩:=he;have e0:=H3 j ES 0 (by omega);have e1:=H3 j ES 1 (by omega);have e2:=H3 j ES 2 (by omega);have e3:=H3 j ES 3 (by omega);obtain⟨K7,QQ,H0,Q,P,hn⟩:=HT _ (mw ES);(have Ix:∀q,y[j].n.ownBlock=V q->w0.heap.size<=q/\q∈y.filterMap λm=>m.n.ownBlock:=λq d=>⟨d3 _ (mw ES) q d,oG.2 ⟨_,mw ES,d⟩⟩);(have WB:j<Z IS:=by have h:=congrArg List.length NE;rw[mI]at h;omega);(have a8:nc ((IS.take (j+1)).map (Prod.mk u)=(IS.take j).map (Prod.mk u)++[(u,IS[j])]):=by show _=_;rw[mx WB,nk];rfl);have H7:(y[j].f.f,y[j].ns.map Eb.f)=(Bq IS[j].head,IS[j].pos.map Bq):=by
      have h:=congrArg (λl=>l[j]?) c8;simp only[n6,mG ES,mG WB,ox,mB]at h;exact h
     obtain⟨IJ,ZV⟩:=rd (IS[j]);rw[ZV]at a8 H7;clear ZV;have JJ:y[j].f.f=Bq (I9 r s1)[j]:=by
      have h:=congrArg (λl=>l[j]?) ea;simp only[n6,mG ES,mG K2,ox,mB]at h;exact h
     obtain⟨⟨⟨⟨A,Bx⟩,fv⟩,nv,RT⟩,AO⟩:∃m,y[j]=m:=⟨_,rfl⟩;rw[AO]at e0 e1 e2 e3 K7 QQ hn JJ H0 Ix H7;have c7:=Ab AO;obtain⟨C,B,bn⟩:=Al K7;simp only at bn hn QQ JJ H0 Ix H7;subst bn hn;obtain⟨I,SP⟩:=rd (Z RT);rw[SP]at e0 e1 e2 e3 H0 Ix;have cy:=Ab SP;have e7:=Ab H0;have X2:=Ab Ix;have c9:=Ab H7;clear SP H0 Ix H7;obtain⟨z,Os⟩:=rd (Z Bx);simp[Ly,Os]at e0 e1 e2 e3;obtain⟨F,hF⟩:=rd ((I9 r s1)[j]);rw[hF]at JJ;have bs:=HD.new F (by rw[<-hF];exact mw K2);have RO:=Aa aa BT s1 RI;have Mo:=eZ RO.1 RO.2.1 HD.nd (λf hf=>⟨(HD.new f hf).1,(HD.new f hf).2.1⟩) j K2;rw[hF]at Mo;(have W3:nc (((I9 r s1).take (j+1)).foldl A9 s1=A9 (((I9 r s1).take j).foldl A9 s1) F):=by show _=_;rw[UM K2,hF]);have K4:=Aa aa _ _ (TS j);obtain⟨SJ,T0⟩:=rd (((I9 r s1).take j).foldl A9 s1);rw[T0]at FT Mo W3 K4;have WS:=Ab Mo;have HZ:=Ab JJ;have c3:=Ab K7;have OH:=Ab bs;have bz:=Ab Os;obtain⟨EK,CL,N,W,T,xs,hb,HH,HM,HU,HY,hX,H8⟩:=(Aa FT).out;have cc:=HM.len;have HB:=Ab hb;have Op:=Ab HH;have NV:=Ab HM;have WW:=Ab HU;have TH:=Ab HY;have HX:=Ab hX;have HQ:=Ab H8;(have fy:(0:Int)<=(j:Int):=by omega);(have ef:(j:Int)<(Z y:Int):=by omega);obtain⟨G,ao⟩:=rd (Z SJ);have M0:=Ab ao;(have cB:nc (G<=9000):=by show G<=9000;have:=K4.2.2;omega);(have cx:nc (Z N<=9000):=by show Z N<=9000;have:=K4.2.2;omega);have MB:=Ab (rf wr [O A,U C z B,X J u,U Q I P] 176);have LM:=Ab ((re [] wr).alloc (j1 [O A,U C z B,X J u,U Q I P].toArray 176));clear hb HH HM HU HY hX H8 Mo bs RO hF JJ K7 AO H3 T0 K4 cc Os QQ ao;refine ra (λK1 CC=>?_);go_wp2;refine CC _ _ ?_;clear CC K1;refine ra (λK1 CC=>?_);go_wp2;refine CC _ _ ?_;clear CC K1;refine ra (λK5 a0=>?_);refine wp_block ?_;refine ra (λK1 CC=>?_);go_wp2;refine CC _ _ ?_;clear CC K1 e0 e1 e2 e3;change Code.wp _ _ _ _ (wr.alloc (j1 [O A,U C z B,X J u,U Q I P].toArray 176));generalize hw3:wr.alloc (j1 [O A,U C z B,X J u,U Q I P].toArray 176)=w3 at MB LM⊢;clear hw3;obtain⟨E,SS⟩:=rd wr.heap.size;have co:=Ab SS;rw[SS]at MB⊢;clear SS;have RE:nc (∀D,AI D E [O A,U C z B,X J u,U Q I P] 176->oa D ⟨E,0,Y⟩=V (O A)/\oa D ⟨E,1,Y⟩=V (U C z B)/\oa D ⟨E,2,Y⟩=V (X J u)/\oa D ⟨E,3,Y⟩=V (U Q I P)):=by
      intro D hb;have h0:=hb.cell 0;have M:=hb.cell 1;have L:=hb.cell 2;have h3:=hb.cell 3;simp at h0 M L h3;exact⟨h0,M,L,h3⟩
     have A0:=Ab (RE w3.drew MB);refine ra (λK1 CC=>?_);refine CA 6 (λD=>oa D ⟨E,0,Y⟩=V (O A)/\oa D ⟨E,1,Y⟩=V (U C z B)/\oa D ⟨E,2,Y⟩=V (X J u)/\oa D ⟨E,3,Y⟩=V (U Q I P)) (by kernel_rfl) ?_;refine Cz.tqH (i:=0) (v:=j3 (V ⟨o,0,Y⟩)) rfl (λ_ _ _ h=>h) A0 ?_;simp only[qY,mq,mr,mt];refine Cz.tqH (i:=1) (v:=j3 (V ⟨o,0,Y⟩)) rfl (λ_ _ _ h=>h) A0 ?_;simp only[qY,mq,mr,mt];refine Cz.tqH (i:=2) (v:=j3 (V ⟨o,1,Y⟩)) rfl (λ_ _ _ h=>h) A0 ?_;simp only[qY,mq,mr,mt];refine Cz.tqH (i:=3) (v:=j3 (V ⟨E,0,Y⟩)) rfl (λ_ _ _ h=>h) A0 ?_;simp only[qY,mq,mr,mt];refine Cz.tqH (i:=4) (v:=.agg #[O A,U C z B]) rfl (λ_ _ _ h=>h) A0 ?_;simp only[qY,mq,mr,mt];refine Cz.one (i:=5) (by kernel_rfl) rfl (λDT hK=>?_)
     go_simp
     have Ha:Ac [] wr w3.drew:=LM.drew;have M2:=Ab (OP o 1 [U BS (Z AH) BA,U EK (Z N) CL,U W (Z SJ) T] 139 EK CL N ⟨⟨A,Bx⟩,U C (Z Bx) B⟩ w3.drew (HB.kept Ha) rfl (by decide) (by decide) (Op.kept Ha) (c3.kept Ha) (by show Z Bx<=1000;have h:=congrArg (λp=>Z p.zC) HZ;simp only[gC]at h;have:=OH.2.2;omega) (by have:=Aa cx;omega) (NV.mono _));simp only[AM]at M2;rw[Aa bz]at M2;refine M2.mono ?_;rintro _ H ⟨rfl,hA⟩;have HN:AI w3.drew E [O A,U C z B,X J u,U Q I P] 176:=MB;have L0:=HB.kept Ha;have N0:=Op.kept Ha;have X1:E∉o::(U EK (Z N) CL).ownBlock.toList:=by
      intro R;rcases mA.1 R with h|h
      .rw[h]at HN;unfold AI at HN L0;rw[L0]at HN;simp at HN
      .exact Aq N0.row HN (by decide) (by simpa using h)
     have M6:=HN.kept hA.kept X1;refine hK.out _ _ (λ_=>RE _ M6) ?_;clear hK DT;refine Cz.done (by kernel_rfl) ?_ _
     try simp only[qY,mq,mr,mt]
     refine CC _ _ ?_;clear CC K1 A0 M2;obtain⟨p,HS,HP,hcut,H6,bd,NM⟩:=hA.out;simp only[mt,mr]at H6;have P0:E8 N (Bq F) p:=by
      have h:=hcut;simp only at h;rw[Aa HZ]at h;exact h
     have NA:De N ⟨A,Bx⟩ p=K:=by
      rw[Aa HZ,(Aa NV).zk (Aa OH).2.1 P0];cases hh:DB SJ F with
      |false=>rfl
      |true=>exact absurd ((Ck _ _).1 hh) WS.2.2.2
     have cL:nc (Cx (LG N ⟨⟨A,Bx⟩,U C z B⟩ p) (A9 SJ F)):=by
      have h:=NV.zu (x:=⟨⟨A,Bx⟩,U C z B⟩) HZ OH.2.1 P0 (by rw[<-Aa HZ];exact NA);unfold LG;simp only[NA,mC,if_false];exact h
     (have Nj:nc (Z (A9 SJ F)=G+1):=by show _=_;rw[(Me SJ F).2 (Aa WS).2.2.2,Aa M0]);have H1:=Ab bd;have bt:nc (∀q,(U HS (Z (LG N ⟨⟨A,Bx⟩,U C z B⟩ p)) HP).ownBlock=V q->w0.heap.size<=q/\q∉y.filterMap λm=>m.n.ownBlock):=by
      intro q d;rcases NM q d with h|h
      .exact TH q h
      .have M:w3.heap.size<=q:=h;have L:=FT.kept.size;have h3:=LM.size;refine⟨by omega,λR=>?_⟩;obtain⟨m,NL,e⟩:=oG.1 R;have h4:=((HT m NL).nds.row.lt q e).2;omega
     have c0:nc (∀p'∈xs,∀q,p'.2.n.ownBlock=V q->(U HS (Z (LG N ⟨⟨A,Bx⟩,U C z B⟩ p)) HP).ownBlock≠V q):=by
      intro p' HC q d he;rcases NM q he with h|h
      .exact((HQ.each p' HC).2 q d).2 h
      .have M:w3.heap.size<=q:=h;have h4:=((HQ.each p' HC).1.nds.row.lt q d).2;have h3:=LM.size;omega
     have LS:Ac (o::(U EK (Z N) CL).ownBlock.toList) wr H:=((Ha.mono (by simp)).trans hA.kept);have b4:nc (GR w H):=an.trans ((GR.kept Ha).trans (GR.of hA.kept (λq d=>by
      rcases mA.1 d with rfl|d
      .obtain⟨a,b,c,M,L⟩:=aP L0
       exact⟨a,b,c,M,lo L⟩
      .obtain⟨a,b,c,M,L⟩:=aW N0.row (q:=q) (by simpa using d)
       exact⟨a,b,c,M,lx (lo L)⟩)))
     have bl:nc (Ac [] w0 H):=FT.kept.trans' LS (λq d=>lx (by
      rcases mA.1 d with rfl|d
      .exact FT.ya
      .exact(TH q (by simpa using d)).1))
     have H4:∀{b e sz n:Nat} {v:ml} {ys:rc ml},oi wr b e sz v n ys->e≠139->e≠104->oi H b e sz v n ys:=fun{b e sz n v ys} S M L=>Ag S LS (λq d R=>by
      rcases mA.1 R with rfl|R
      .exact Aq S HB M d
      .exact Bh S Op.row L q d (by simpa using R))
     have NS:=H4 WW (by decide) (by decide);rw[Aa M0]at NS;have HI:=Ab NS;have VL:=Ab (H4 H5 (by decide) (by decide));have Pl:∀{b sz n:Nat} {v:ml} {ys:rc ml},oi wr b 104 sz v n ys->(∀q,v.ownBlock=V q->(U EK (Z N) CL).ownBlock≠V q)->oi H b 104 sz v n ys:=fun{b sz n v ys} S L=>Ag S LS (λq d R=>by
      rcases mA.1 R with rfl|R
      .exact Aq S HB (by decide) d
      .exact L q d (by simpa using R))
     (have U1:nc (∀m∈y,L6 H m):=λm AO=>(HT m AO).map (λp hp=>H4 (v:=p.tv) hp (by decide) (by decide)) (λS=>Pl S (λq d he=>(TH q he).2 (oG.2 ⟨m,AO,d⟩))));(have d4:nc (∀p'∈xs,L6 H p'.2):=λp' HC=>(HQ.each p' HC).1.map (λp hp=>H4 (v:=p.tv) hp (by decide) (by decide)) (λS=>Pl S (λq d=>((HQ.each p' HC).2 q d).2)));have b6:nc (L6 H ⟨⟨⟨A,Bx⟩,U C z B⟩,U Q I P,RT⟩):=by
      have h:=Aa U1 _ (mw ES);rw[Aa c7,Aa cy,Aa bz]at h;exact h
     have aT:=Ab M6;have Nx:nc (∀q,(U W G T).ownBlock=V q->q<E/\q∉(U (V ⟨g,0,Y⟩) (Z y) LE).ownBlock.toList):=λq d=>by
      have M:=Aa WW;have L:=Aa HX;rw[Aa M0]at M L;have h3:=(M.lt q d).2;have h4:=Aa co;exact⟨by omega,L q d⟩
     rw[Aa M0]at H6;obtain⟨FL,PT⟩:=rd (Z (LG N ⟨⟨A,Bx⟩,U C z B⟩ p));have cp:=Ab PT;have N2:nc (AI H o [U BS (Z AH) BA,U HS FL HP,U W G T] 139):=by
      rw[PT]at H6;exact H6
     clear hA HN L0 N0 X1 M6 Ha hcut P0 H6 bd NM NA LS NS PT H4 Pl;have IA:nc (∀D,AI D E [O A,U C z B,X J u,U Q I P] 176->AI D o [U BS (Z AH) BA,U HS FL HP,U W G T] 139->oa D ⟨o,2,Y⟩=V (U W G T)/\oa D ⟨E,0,Y⟩=V (O A)/\oa D ⟨E,1,Y⟩=V (U C z B)/\oa D ⟨E,2,Y⟩=V (X J u)/\oa D ⟨E,3,Y⟩=V (U Q I P)):=by
      intro D hb hc;have h0:=hc.cell 2;simp at h0;exact⟨h0,RE D hb⟩
     have A0:=Ab (IA H.drew aT N2);refine CA 10 (λD=>oa D ⟨o,2,Y⟩=V (U W G T)/\oa D ⟨E,0,Y⟩=V (O A)/\oa D ⟨E,1,Y⟩=V (U C z B)/\oa D ⟨E,2,Y⟩=V (X J u)/\oa D ⟨E,3,Y⟩=V (U Q I P)) (by kernel_rfl) ?_;refine Cz.tq (i:=0) (v:=j3 (V ⟨o,0,Y⟩)) rfl (λ_ _ _ h=>h) A0 ?_;simp only[qY,mq,mr,mt];refine Cz.tq (i:=1) (v:=j3 (V ⟨o,0,Y⟩)) rfl (λ_ _ _ h=>h) A0 ?_;simp only[qY,mq,mr,mt];refine Cz.tq (i:=2) (v:=j3 (V ⟨o,0,Y⟩)) rfl (λ_ _ _ h=>h) A0 ?_;simp only[qY,mq,mr,mt];refine Cz.tq (i:=3) (v:=j3 (V ⟨o,2,Y⟩)) rfl (λ_ _ _ h=>h) A0 ?_;simp only[qY,mq,mr,mt];refine Cz.tq (i:=4) (v:=U W G T) rfl (λ_ _ _ h=>h) A0 ?_;simp only[qY,mq,mr,mt];refine Cz.tq (i:=5) (v:=.agg #[O A,U C z B,X J u,U Q I P]) rfl (λ_ _ _ h=>h) A0 ?_;simp only[qY,mq,mr,mt];refine Cz.one (i:=6) (by kernel_rfl) rfl (λDT hK=>?_)
     go_simp
     have RV:AI (H.drew.alloc (j1 #[O A,U C z B,X J u,U Q I P] 176)) E [O A,U C z B,X J u,U Q I P] 176:=AI.alloc (w:=H.drew) aT _;have NX:AI (H.drew.alloc (j1 #[O A,U C z B,X J u,U Q I P] 176)) o [U BS (Z AH) BA,U HS FL HP,U W G T] 139:=AI.alloc (w:=H.drew) N2 _;refine hK.out _ _ (λ_=>IA _ RV NX) ?_;clear hK DT
     try simp only[qY,mq,mr,mt]
     have Nq:oi H.drew w0.heap.size 176 4 (U W G T) G (xs.flatMap Cl):=HI;have cf:w0.heap.size<=H.heap.size:=bl.size;have eB:=Aa cB;refine Cz.one (i:=7) (by kernel_rfl) rfl (λDT hK=>?_);refine pi _ (by rfl) _ _ _ (by rfl) w0.heap.size 176 i0 _ 4 72 underlying137 dc ce d2 c5 rfl (by omega) (U W G T) G (xs.flatMap Cl) (by rfl) (mE Nq _)
      ⟨H.drew.heap.size,0,Y⟩ 1 1 [O A,U C z B,X J u,U Q I P] (by rfl) (by rfl) (mW (m7 H.drew _)) (by simp[Value.oneCell'])
      (by omega) (by unfold maxLen;omega) (by omega) (by simp;exact Nat.le_succ_of_le cf) (H.heap.size+1) (by simp) ?_
     intro gg FW u3 NY LC ag df;have KD:=RV.grown LC (λe=>by have:=(Nx E e).1;omega);have EX:=NX.grown LC (Aq Nq N2 (by decide));refine hK.out _ _ (λ_=>IA _ KD EX) ?_;clear hK DT
     try simp only[qY,mq,mr,mt]
     refine Cz.one (i:=8) (by kernel_rfl) rfl (λDT hK=>?_)
     go_simp
     refine hK.out _ _ (λ_=>IA _ KD EX) ?_;clear hK DT
     try simp only[qY,mq,mr,mt]
     refine Cz.one (i:=9) (by kernel_rfl) rfl (λDT hK=>?_)
     go_simp
     refine hK.out _ _ (λ_=>IA _ KD EX) ?_;clear hK DT
     try simp only[qY,mq,mr,mt]
     have U0:=EX.cell 2;have dT:=EX.frozen 2;simp at U0;refine Cz.one (i:=10) (by kernel_rfl) rfl (λDT hK=>?_)
     go_simp
     refine hK.out _ _ (λh=>absurd rfl h) ?_;clear hK DT;refine Cz.done (by kernel_rfl) ?_ _
     try simp only[qY,mq,mr,mt]
     have MY:Ac ((U W G T).ownBlock.toList) H u3:=(((re _ H).drew).alloc (j1 #[O A,U C z B,X J u,U Q I P] 176)).grown LC (λq d=>lo (by rw[d];simp));have NN:Ac [o] u3 (u3.setCell ⟨o,2,Y⟩ (U (V ⟨gg,0,Y⟩) (G+1) FW)):=(re [o] u3).setCell (p:=⟨o,2,Y⟩) (lo (by simp)) _;have HR:∀{b e sz n:Nat} {v:ml} {ys:rc ml},oi H b e sz v n ys->e≠139->(∀q,v.ownBlock=V q->(U W G T).ownBlock≠V q)->oi (u3.setCell ⟨o,2,Y⟩ (U (V ⟨gg,0,Y⟩) (G+1) FW)) b e sz v n ys:=fun{b e sz n v ys} S M L=>by
      have h3:=Ag S MY (λq d R=>L q d (by simpa using R));exact Ah h3 (Aq h3 EX M) _
     (have K3:∀m,L6 H m->L6 (u3.setCell ⟨o,2,Y⟩ (U (V ⟨gg,0,Y⟩) (G+1) FW)) m:=λm h=>h.map (λp hp=>HR (v:=p.tv) hp (by decide) (λq d=>Bh (v1:=p.tv) hp HI (by decide) q d)) (λS=>HR S (by decide) (λq d=>Bh S HI (by decide) q d)));have av:nc (Nv w0 o (U BS (Z AH) BA) (U (V ⟨g,0,Y⟩) (Z y) LE).ownBlock.toList (y.filterMap λm=>m.n.ownBlock) (((I9 r s1).take (j+1)).foldl A9 s1) (BT++(IS.take (j+1)).map (Prod.mk u)) (u3.setCell ⟨o,2,Y⟩ (U (V ⟨gg,0,Y⟩) (G+1) FW))):=by
      rw[Aa W3,Aa a8,<-nA];refine⟨(bl.trans' MY (λq d=>lx (HI.lt q (by simpa using d)).1)).trans' NN (λq d=>lx (by simp only[my]at d;rw[d];exact FT.ya)),FT.ya,HS,HP,LG N ⟨⟨A,Bx⟩,U C z B⟩ p,V ⟨gg,0,Y⟩,FW,xs++[(u,⟨⟨⟨A,Bx⟩,U C z B⟩,U Q I P,RT⟩)],?_,⟨?_,λq d=>⟨?_,?_⟩⟩,cL,?_,bt,?_,?_,λp' HC=>?_⟩
      .rw[Aa Nj,Aa cp];exact EX.set 2 _
      .exact HR H1.row (by decide) (λq d=>Bh H1.row HI (by decide) q d)
      .exact HR (v:=q.tv) (H1.each q d).1 (by decide) (λq' db=>Bh (v1:=q.tv) (H1.each q d).1 HI (by decide) q' db)
      .exact(H1.each q d).2
      .rw[Aa Nj,mY];exact Ah NY (Aq NY EX (by decide)) _
      .rw[Aa Nj];intro q d;simp only[qX,mB]at d;subst d;rcases ag with h|h
       .exact(Nx gg h).2
       .intro R;have M:=(VL.lt gg (by simpa using R)).2;omega
      .have h:=Aa c9;simp only[ny]at h;rw[nk,nk,(Aa HQ).eq];simp only[mU,oH,h.1,h.2]
      .rcases mF.1 HC with h|h
       .exact⟨K3 _ (d4 p' h),λq d=>⟨((HQ.each p' h).2 q d).1,c0 p' h q d⟩⟩
       .simp only[my]at h;subst h;exact⟨K3 _ b6,λq d=>⟨(X2 q d).1,λhe=>(bt q he).2 (X2 q d).2⟩⟩
     have ad:=Ab (HR VL (by decide) (λq d h=>(Nx q h).2 (by rw[d];simp)));(have X3:nc (∀m∈y,L6 (u3.setCell ⟨o,2,Y⟩ (U (V ⟨gg,0,Y⟩) (G+1) FW)) m):=λm AO=>K3 m (U1 m AO));have bp:nc (GR w (u3.setCell ⟨o,2,Y⟩ (U (V ⟨gg,0,Y⟩) (G+1) FW))):=(b4.trans (GR.of MY (λq d=>by
      obtain⟨a,b,c,M,L⟩:=aW HI (q:=q) (by simpa using d)
      exact⟨a,b,c,M,lx (lx L)⟩))).trans (GR.of NN (λq d=>by
      simp only[my]at d
      rw[d]
      obtain⟨a,b,c,M,L⟩:=aP EX
      exact⟨a,b,c,M,lo L⟩))
     generalize u3.setCell ⟨o,2,Y⟩ (U (V ⟨gg,0,Y⟩) (G+1) FW)=w6 at av ad X3 bp⊢;clear NY LC ag df KD EX RV NX Nq U0 dT MY NN HR K3 A0;refine a0 _ _ ?_;clear a0;go_wp2
     go_roundg (Z y-(j+1))
     case measure=>have:=Aa c4;omega
     case rel=>exact⟨j+1,by go_num,by omega,rfl,av,ad,X3,bp⟩
    .have b7:nc (Nv w0 o (U BS (Z AH) BA) [] [] ((I9 r s1).foldl A9 s1) (BT++IS.map (Prod.mk u)) wr):=by
      have h:=Aa FT;rw[mz (by omega),mz (by have h:=congrArg List.length (Aa NE);rw[mI]at h;omega)]at h;obtain⟨EK,CL,N,W,T,xs,g1,g2,g3,g4,g5,g6,g7⟩:=h.out;exact⟨h.kept,h.ya,EK,CL,N,W,T,xs,g1,g2,g3,g4,λq d=>⟨(g5 q d).1,by simp⟩,λq d=>by simp,g7⟩
     have b5:nc (HL (BT++IS.map (Prod.mk u)) ((I9 r s1).foldl A9 s1)):=by
      have h:=Aa TS (Z (I9 r s1));rw[nR,mz (by have h:=congrArg List.length (Aa NE);rw[mI]at h;omega)]at h;exact h
     go_wp2_with fail
     go_roundg (Z ns-(k+1))
     case measure=>have:=Aa HG;omega
     case rel=>exact⟨k+1,(I9 r s1).foldl A9 s1,BT++IS.map (Prod.mk u),by go_num,by omega,rfl,DG.symm,b5,b7,an⟩
  .have HE:nc (s1=(Gw (Fg kN) ds s).1):=by
    have h:=Aa TT;rw[mz (by have:=Aa TL;omega)]at h;exact h
   obtain⟨EK,CL,N,W,T,xs,hb,_⟩:=(Aa FP).out;have c2:=hb.cell 2;simp at c2;obtain⟨S1,SB⟩:=rd (Z s1);rw[SB]at c2;have d1:=Ab SB;clear hb SB;go_wp2;go_ret;refine⟨s1,BT,HE,?_,RI,FP,K9⟩;rw[Aa b3,Aa d1]
   first|rfl|(simp;done)|simp
