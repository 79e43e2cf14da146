import Derived.Maps.OwnOps
import Derived.Maps.Views
import Derived.Carry
import Derived.Test.YtoihbhenbmffcaaGreatDoorFAX
set_option linter.all false
set_option maxHeartbeats 0
open List renaming length->Z
open Option renaming none->Y,some->V
open Go.Value renaming slice->U,int->X,string->O,pointer->m2,ownBlock->pI
open Bool renaming false->K
open Go.IntKind renaming i64->J
open Go.Obj renaming cells->j3
open Or renaming inl->oi,inr->oj
open Go renaming World->py,Value->p5
open Go.RowKit renaming Hid->p7
open Go.World renaming cell?->p8,ownsRow->p9
open Prod renaming fst->pH
open Go.Act renaming put->pJ
namespace Go.Proofs.YtoihbhenbmffcaaGreatDoor
open Go.RowKit Go.Proofs.Tryz
variable{s t:zA}{M:pM Nat}{w v u:py}{m n k i j b:Nat}{z:p5}{y x:pM p5}{T:TypeId}{f:pM Af}
def Ue(x:zA):Lit:=.string x.data.toList
def dX(h:Ue s=Ue t):s=t:=by
 unfold Ue at h;simp only[Lit.string.injEq]at h;obtain⟨⟨a⟩⟩:=s;obtain⟨⟨b⟩⟩:=t;simp at h;rw[h]
def Zu(h:s.size<=1000000):keyOf prog 9 (.string s)=some (Ue s):=by
 rw[keyOf_string underlying9];have a:s.size<=maxLen:=by unfold maxLen;omega
 simp[mapKey,underlying9,Ue,a]
structure Ez(w:World)(mb n:Nat)(L:zA->Nat):Prop where
 at_:∃D:DataW Unit,w.ownsMap prog 9 (plainElem prog 3) mb n D/\Maps.IsMap D/\∀x,D.atKey (Ue x) (.lit (.int .i64 0))=.lit (.int .i64 (L x))
def Ez.zX{L:zA->Nat}(h:Ez w m n L)(k:Ac M w v)(b:m∉M):Ez v m n L:=by
 obtain⟨D,⟨f,j,a,d,i,e⟩,g,c⟩:=h.at_;refine⟨D,⟨f,j,?_,d,i,e⟩,g,c⟩;rw[k.block m (mc.1 a).1 b];exact a
def L7(L:zA->Nat)(n:Nat)(x:PL):Nat:=if x.sort=0 then max n (L x.an)else if x.sort=1 then max n (L x.an+1)else n
def Hs(L:zA->Nat)(n:Nat)(ls:pM PL):Nat:=ls.foldl (L7 L) n
def QD(L:zA->Nat):∀(a:pM Br) (n:Nat),Hs L n (a.map LU)=a.foldl (Gf L) n
 |[],n=>rfl
 |x::a,n=>by
  have e:L7 L n (LU x)=Gf L n x:=by
   unfold L7 Gf;have d:=SY x.kind;have c:=dm x.kind;have f:(LU x).sort=F9 x.kind:=rfl;have b:(LU x).an=x.A.name:=rfl;rw[f,b,<-d,<-c];simp only[mT]
  unfold Hs;rw[lE,lR,lR,e];exact QD L a _
def Q4(a b:Nat):max (a:Int) (b:Int)=((max a b:Nat):Int):=by omega
set_option maxRecDepth 100000
theorem Qi(v n:Nat)(L:zA->Nat)(Q:Option Addr)(N:Nat)(a:pM Lz)(w:py)(M:Ez w v n L)(hB:B8 w 0 (U Q (Z a) N) a)(EY:Z a<=1000)(T:∀x,L x<=100000)(Ax:∀p∈a,p.1.an.size<=1000000):
  Calls prog 195 #[.map (V v),U Q (Z a) N] w λr w'=>r=.returned (X J (Hs L 0 (a.map pH):Nat))/\Ac [] w w':=by
 have DT:=Ab hB;have B9:=Ab M;have B2:=Ab T;have ES:=Ab Ax;obtain⟨R,H⟩:=pN (Hs L 0 (a.map pH));have q:p7 (Hs L 0 ((a.drop 0).map pH)=R):=H;rw[H];clear hB M T Ax H;go_enter func195,ntmps195;go_wp2_with fail
 go_loopg [5,10] (Z a) (λgk o i wr=>∃(k m:Nat),o=X J m/\i=X J k/\k<=Z a/\gk=Z a-k/\m<=200000/\p7 (Hs L m ((a.drop k).map pH)=R)/\p7 (Ac [] w wr))
 case atStart=>exact⟨0,0,rfl,rfl,by omega,rfl,by omega,q,pO _ _⟩
 case round=>
  clear q;obtain⟨k,m,rfl,rfl,hk,S,hm,q,z⟩:=hrel;have C:=Ab S;clear S;by_cases B:k<Z a
  .obtain⟨g,FB,x,AB,W,he,G,_,d0,d1,d2,d3,d4,d5,d6,d7,d8⟩:=Vu (DT.kept z) k B;simp only[kS]at he;obtain⟨rfl,_,rfl⟩:=he;(have AH:(x,U AB (Z x.ts) W)∈a:=by rw[<-G];exact kV B);have E:=Zu (ES _ AH);have BA:=Aa B2 x.an;have y:p7 (Hs L (L7 L m x) ((a.drop (k+1)).map pH)=R):=by
    have h:=Aa q;rw[lD B,lE,G]at h;exact h
   have t:=Ab (z.alloc (j3 (Ay (x,U AB (Z x.ts) W)).toArray 217));obtain⟨D,A,_,P⟩:=(B9.zX t (by simp)).at_;have u:=Ab (P x.an);have d:p7 (L7 L m x=if x.sort=0 then max m (L x.an)else if x.sort=1 then max m (L x.an+1)else m):=rfl;clear P G AH q z;generalize L7 L m x=LM at d y;obtain⟨f,I⟩:=pN (L x.an);rw[I]at BA u d;clear I;obtain⟨pl,j,ap,an,ts,⟨lv,Ha⟩,⟨rv,FL⟩⟩:=x;simp only[Ay]at t A E d u d0 d1 d2 d3 d4 d5 d6 d7 d8;by_cases e:j=0
   ·(have EK:(j==0)=true:=by simp[e]);(have b:p7 (LM=max m f):=by show _=_;rw[Aa d,ln e]);clear e d;go_wp2_with (at_lookup;refine wpList_lookup_own_int _ rfl _ _ 269 rfl 9 3 J (Maps.string_keyed underlying9) underlying269 underlying3 (zeroValue3 _) v n D rfl A _ _ rfl E ?_;intro c s F;obtain rfl:c=(f:Int):=(by have h:=s.symm.trans u;simpa using h);clear s F)
    go_roundg (Z a-(k+1))
    case measure=>have:=Aa C;omega
    case rel=>exact⟨k+1,LM,by first|(rw[Aa b,<-Q4];done)|(rw[Aa b,<-Q4];rfl),by go_num,by omega,rfl,by rw[Aa b];omega,y,t⟩
   ·(have EK:(j==0)=K:=by simp[e]);by_cases l:j=1
    ·(have A0:(j==1)=true:=by simp[l]);(have b:p7 (LM=max m (f+1)):=by show _=_;rw[Aa d,li e,ln l]);(have E0:IntKind.i64.wrap ((f:Int)+1)=(f:Int)+1:=by rw[nB];omega);clear e l d;go_wp2_with (at_lookup;refine wpList_lookup_own_int _ rfl _ _ 269 rfl 9 3 J (Maps.string_keyed underlying9) underlying269 underlying3 (zeroValue3 _) v n D rfl A _ _ rfl E ?_;intro c s F;obtain rfl:c=(f:Int):=(by have h:=s.symm.trans u;simpa using h);clear s F)
     go_roundg (Z a-(k+1))
     case measure=>have:=Aa C;omega
     case rel=>exact⟨k+1,LM,by first|(rw[Aa b,<-Q4];done)|(rw[Aa b,<-Q4];rfl),by go_num,by omega,rfl,by rw[Aa b];omega,y,t⟩
    ·(have A0:(j==1)=K:=by simp[l]);(have b:p7 (LM=m):=by show _=_;rw[Aa d,li e,li l]);clear e l d;go_wp2
     go_roundg (Z a-(k+1))
     case measure=>have:=Aa C;omega
     case rel=>exact⟨k+1,LM,by rw[Aa b],by go_num,by omega,rfl,by rw[Aa b];omega,y,t⟩
  .have b:p7 (m=R):=by
    have h:=Aa q;rw[lS (by omega)]at h;exact h
   go_wp2;go_ret;rw[Aa b];exact⟨rfl,z⟩
def F2.at{α β:Type}{R:α->β->Prop}:∀{l:pM α} {m:pM β},F2 R l m->∀k (c:k<Z l) (d:k<Z m),R l[k] m[k]
 |[],[],_,k,c,_=>by simp at c
 |a::l,b::m,h,0,_,_=>h.1
 |a::l,b::m,h,k+1,c,d=>F2.at (l:=l) (m:=m) h.2 k (by simpa using c) (by simpa using d)
def Ez.put{b:World}{c n:Nat}{L:zA->Nat}{D:DataW Unit}{x:zA}{v:Nat}(f:Maps.IsMap D)(d:∀y,D.atKey (Ue y) (.lit (.int .i64 0))=.lit (.int .i64 (L y)))(h:b.ownsMap prog 9 (plainElem prog 3) c n (D.put (Ue x) (.lit (.int .i64 v)))):Ez b c n (P4 L x v):=by
 refine⟨_,h,?_,λy=>?_⟩
 .obtain⟨g,i,_,_,_,e⟩:=h;exact⟨_,e⟩
 .by_cases a:y=x
  .subst a;rw[Ho,Maps.atKey_put_same f (by unfold Ue;exact trivial)]
  .rw[JQ _ a,Maps.atKey_put_other (λe=>a (dX e))];exact d y
def Ez.mono{w:py}{b n a:Nat}{L:zA->Nat}(h:Ez w b n L)(e:n<=a):Ez w b a L:=by
 obtain⟨D,d,c⟩:=h.at_;exact⟨D,d.mono e,c⟩
def Tl:∀(a:pM A4),EB a (λ_=>0)=0
 |[]=>rfl
 |c::a=>by
  have e:EB (c::a) (λ_=>0)=0+EB a (λ_=>0):=by unfold EB;rw[lE,List.sum_cons]
  rw[e,Tl a]
def Y9(x:zA):(DataW.map []:DataW Unit).atKey (Ue x) (.lit (.int .i64 0))=.lit (.int .i64 0):=by
 first|rfl|(unfold Ue;rfl)|simp[DataW.atKey]
def iZ(rcs:pM A4)(zR:zA->Nat)(w:py)(r:Ending)(w':py):Prop:=∃(mb n:Nat) (L:zA->Nat),r=.returned (.map (V mb))/\Ez w' mb n L/\CR rcs L/\(∀x,L x<=zR x)/\w.heap.size<=mb/\Ac [] w w'
theorem Oo(HV:Option Addr)(HR:Nat)(f:pM Dy)(d:pM A4)(w:World)(l:zA->Nat)(hP:DE w (.slice HV f.length HR) f)(hC:F2 RX f d)(LE:f.length<=1000)(HT:∀c∈f,c.zH.length<=1000)(Go:∀c∈f,c.hn.size<=1000000/\∀p∈c.zH,p.1.an.size<=1000000)(hL:CR d l)(HW:∀x,l x<=1000)(HH:EB d l<=100000):
  Calls prog 166 #[.slice HV f.length HR] w λr w'=>iZ d l w r w':=by
 have HX:=Ab hP;have K5:=Ab hC;have H2:=Ab HT;have H6:=Ab Go;have HY:=Ab hL;have M:=Ab HW;have Jx:=Ab HH;have FW:=Ab hC.lenX;have W:Hid (Ez (w.alloc (.map #[] 0)) w.heap.size 0 (λ_=>0)):=⟨.map [],World.ownsMap_made w _ _ _,⟨_,rfl⟩,Y9⟩;have EX:=Ab ((pO [] w).alloc (.map #[] 0));have K3:= @run_makeMap prog;obtain⟨n,Ax⟩:∃n,w.heap.size=n:=⟨_,rfl⟩;have FO:=Ab Ax;clear hP hC HT Go hL HW HH;go_enter func166,ntmps166;go_wp2_with fail
 generalize hw1:w.alloc (.map #[] 0)=w1 at W EX⊢;clear hw1 K3;rw[Ax]at W
 try rw[Ax]
 clear Ax
 go_loopg [4] (EB d l+2) (λgk rv wr=>∃(R:Bool) (L:zA->Nat),rv=.bool R/\gk=(if R then EB d l-EB d L+2 else 1)/\Hid (Ez wr n (EB d L) L)/\Hid (∀x,L x<=l x)/\Hid (R=false->CR d L)/\Hid (Ac [] w wr))
 case atStart=>
  refine⟨true,λ_=>0,rfl,?_,W.mono (lz _),λx=>lz _,λh=>(by cases h),EX⟩;rw[ln rfl,Tl,Nat.sub_zero]
 case round=>
  clear W EX;obtain⟨R,L,rfl,HU,u,BA,K4,s⟩:=hrel;have HG:=Ab HU;clear HU;cases R with
  |false=>
   have H3:=Ab (K4 rfl);go_wp2;go_ret;exact⟨n,_,L,rfl,u,H3,BA,by have:=Aa FO;omega,s⟩
  |true=>
   go_wp2_with fail
   go_loopg [4,12] f.length (λLB rv i wq=>∃(k:Nat) (m:Bool) (a:zA->Nat),rv=.bool m/\i=.int .i64 k/\k<=f.length/\LB=f.length-k/\Hid ((d.take k).foldl EL (L,false)=(a,m))/\Hid (Ez wq n (EB d a) a)/\Hid (Ac [] w wq))
   case atStart=>exact⟨0,false,L,rfl,rfl,by omega,rfl,rfl,u,s⟩
   case round=>
    clear u s;obtain⟨k,m,a,rfl,rfl,hk,HC,AH,u,s⟩:=hrel;have HL:=Ab HC;clear HC;have FL:Hid ((∀x,a x<=l x)/\EB d a<=EB d l):=by
     have h:=Kd HY (d.take k) L false (λc hc=>mD hc) BA;rw[Aa AH]at h;exact⟨h.2.1,Zs h.2.1⟩
    by_cases A1:k<f.length
    ·(have BT:k<d.length:=by have:=Aa FW;omega);have T:=K5.at k A1 BT;obtain⟨g,L0,hp,e,EY,FF,AB,Q,P,o,he,HA,d0,d1,d2,d3⟩:=F6 (HX.kept s) k A1;simp only[kS]at he;obtain⟨rfl,-,rfl⟩:=he;have N:f[k]∈f:=kV A1;have EK:=HX.each _ N;have B0:=Aa H2 _ N;have G:=Aa H6 _ N;rw[HA]at T EK B0 G;have ES:=Ab (s.alloc (.cells #[.int .i64 hp,.string e,.slice FF EY.length AB,.slice Q o.length P] 189));have FB:=Ab (u.zX ((pO [] wr).alloc (.cells #[.int .i64 hp,.string e,.slice FF EY.length AB,.slice Q o.length P] 189)) (by simp));have HB:=Ab (pP wr [.int .i64 hp,.string e,.slice FF EY.length AB,.slice Q o.length P] 189);have z:=Aa FL;have A2:=Ab (Qi n (EB d a) a Q P o _ FB (EK.body.kept ES (by simp)) B0 (λx=>by have:=z.1 x;have:=Aa M x;omega) G.2);have B2:Hs a 0 (o.map Prod.fst)=G5 a (Al d[k]):=by
      have t:=F2.fst T.lits;simp only at t;rw[t,QD];rfl
     have C:e=d[k].head.name:=T.hn;have Dk:Hid ((d.take (k+1)).foldl EL (L,false)=EL (a,m) d[k]):=by
      show _=_;rw[kW BT,mi,Aa AH];rfl
     have DT:Hid (EL (a,m) d[k]=if a e<Hs a 0 (o.map Prod.fst)then(P4 a e (Hs a 0 (o.map Prod.fst)),true)else(a,m)):=by
      show _=_;unfold EL;rw[B2,C]
     have KS:Hid (∀v,a e<v->EB d a+1<=EB d (P4 a e v)):=by
      intro v hv;refine fN (λx=>?_) (kV BT) ?_
      .by_cases hx:x=e
       .rw[hx,Ho];omega
       .rw[JQ _ hx];exact lC _
      .rw[<-C,Ho];exact hv
     have CL:=Zu G.1;have I:=z.1 e;have IA:=Aa M e;(have LS:Hid (a e<=1000):=by show a e<=1000;omega);(have KK:Hid (EB d a<=100000):=by have:=z.2;have:=Aa Jx;show EB d a<=100000;omega);have HI:Hid (Hs a 0 (o.map Prod.fst)<=100000):=by
      have h:=OI (L:=a) (b:=2000) (Al d[k]) 0 (by omega) (λx hx=>⟨λ_=>by have:=z.1 x.A.name;have:=Aa M x.A.name;omega,λ_=>by have:=z.1 x.A.name;have:=Aa M x.A.name;omega⟩);rw[B2];have t:G5 a (Al d[k])<=2000:=h;show G5 a (Al d[k])<=100000;omega
     clear T EK B0 G N HA z B2 C I IA;obtain⟨j,HZ⟩:∃j,Hs a 0 (o.map Prod.fst)=j:=⟨_,rfl⟩;rw[HZ]at A2 DT HI;clear HZ s u FL;(go_wp2_with fail);refine A2.mono ?_;rintro _ w3 ⟨rfl,S⟩;have HS:=Ab (ES.trans S);have Bx:=FB.zX S (by simp);have K9:=Ab Bx;have A0:=HB.kept S (by simp);have e0:=A0.cell 0;have e1:=A0.cell 1;simp at e0 e1;obtain⟨D,E0,HO,hD⟩:=Bx.at_;have KB:=Ab HO;have HD:=Ab hD;obtain⟨y,I⟩:∃y,a e=y:=⟨_,rfl⟩;have E:=Ab I;clear Bx A0 HB FB ES A2 S d0 d1 d2 d3 HO hD I;by_cases FP:y<j
     ·(have K2:(y:Int)<(j:Int):=by omega);have K8:plainElem (H:=Unit) prog 3 (.int .i64 (j:Int))=some (.lit (.int .i64 (j:Int)),[]):=plainElem_int underlying3 (by
       have:=Aa HI
       simp[Lit.wf,IntKind.min,IntKind.max,IntKind.signed,IntKind.bits]
       omega)
      (have C:EB d a<maxLen:=by have:=Aa KK;unfold maxLen;omega);clear FP;go_wp2_with (first
       |(at_lookup;refine wpList_lookup_own_int _ rfl _ _ 269 rfl 9 3 .i64 (Maps.string_keyed underlying9) underlying269 underlying3 (zeroValue3 _) n (EB d a) D rfl E0 _ _ rfl CL ?_;intro c F EM;obtain rfl:c=(y:Int):=(by have h:=F.symm.trans (HD e);rw[Aa E]at h;simpa using h);clear F EM)
       |(at_mapUpdate;refine wpList_mapUpdate_own _ rfl _ _ _ 269 rfl 9 3 (Maps.string_keyed underlying9) underlying269 _ n (EB d a) D rfl E0 C _ _ (Ue e) rfl rfl CL _ [] K8 ?_;intro w4 H8 H5))
      have JA:Hid (Ez w4 n (EB d (P4 a e j)) (P4 a e j)):=(Ez.put KB HD H8).mono (KS j (by have:=Aa E;omega));have K6:Hid (Ac [] w w4):=HS.grown H5 (λq hq=>Or.inr (by simp only[ld]at hq;have:=Aa FO;omega));have CC:Hid ((d.take (k+1)).foldl EL (L,false)=(P4 a e j,true)):=by show _=_;rw[Aa Dk,Aa DT,ln (by have:=Aa E;omega)]
      go_roundg (f.length-(k+1))
      case measure=>have:=Aa HL;omega
      case rel=>exact⟨k+1,true,P4 a e j,rfl,by go_num,by omega,rfl,CC,JA,K6⟩
     ·(have K2:¬(y:Int)<(j:Int):=by omega);(have CC:Hid ((d.take (k+1)).foldl EL (L,false)=(a,m)):=by show _=_;rw[Aa Dk,Aa DT,li (by have:=Aa E;omega)]);clear FP;go_wp2_with (at_lookup;refine wpList_lookup_own_int _ rfl _ _ 269 rfl 9 3 .i64 (Maps.string_keyed underlying9) underlying269 underlying3 (zeroValue3 _) n (EB d a) D rfl E0 _ _ rfl CL ?_;intro c F EM;obtain rfl:c=(y:Int):=(by have h:=F.symm.trans (HD e);rw[Aa E]at h;simpa using h);clear F EM)
      go_roundg (f.length-(k+1))
      case measure=>have:=Aa HL;omega
      case rel=>exact⟨k+1,m,a,rfl,by go_num,by omega,rfl,CC,K9,HS⟩
    .have HE:Hid (Mm d L=(a,m)):=by
      have h:=Aa AH;rw[kX (by have:=Aa FW;omega)]at h;exact h
     have Ha:=Ab (YU HY BA);go_wp2_with fail
     go_roundg (if m then EB d l-EB d a+2 else 1)
     case measure=>
      have B:=Aa Ha;rw[Aa HE]at B;have t:=Aa HG;simp only[if_true]at t;cases m with
      |true=>
       have h3:=B.2.2.1 rfl;have h4:=B.2.2.2;simp only at h3 h4;simp only[if_true];omega
      |false=>
       simp only[k0,if_false];omega
     case rel=>
      refine⟨m,a,rfl,rfl,u,λx=>FL.1 x,λhm=>?_,s⟩;have B:=Ha.2.1;rw[Aa HE]at B;obtain⟨t,h3⟩:=B hm;simp only at t;rw[t];exact h3
theorem Tryz.yW:(Tryz.prog.info? 221).map (λi=>(i.zero,i.size,i.bytes))=V (V (U Y 0 0),1,24):=by kernel_rfl
abbrev P7:=pM Nat×p5
structure El(w:py)(base:Nat)(pv:p5)(ps:pM P7):Prop where
 row:p9 w base 221 1 pv (Z ps) (ps.flatMap λp=>[p.2])
 each:∀p∈ps,p9 w base 3 1 p.2 (Z p.1) (p.1.flatMap Cd)
 apart:ps.Pairwise λa b=>∀q,a.2.ownBlock=V q->b.2.ownBlock≠V q
def El.kept{w w':py}{a:pM P7}(h:El w n z a)(k:Ac [] w w'):El w' n z a:=⟨Ad h.row k,λp b=>Ad (h.each p b) k,h.apart⟩
def bO{a:p5}(h:p9 w k 3 1 z n y)(c:p9 w i 221 1 a m x)(b:w.grownBy u a.ownBlock):p9 u k 3 1 z n y:=
 mI h b (by
  cases hp:z.ownBlock with
  |none=>exact oi rfl
  |some q=>exact oj (λe=>Bc h c (by decide) q hp e.symm))
def Tv{a:pM P7}(h:El w n z a)(k:Nat)(i:k<Z a):∃g j f b,z=U (V ⟨g,0,Y⟩) (Z a) j/\a[k].2=U f a[k].1.length b/\p8 w ⟨g,k,Y⟩=V (U f a[k].1.length b):=by
 obtain⟨g,j,l,_,m⟩:=AC h.row (λc _=>rfl) k i;have d:=m k i 0 (by omega);obtain⟨f,b,e⟩:=Ak (h.each _ (kV i));simp[e]at d;exact⟨g,j,f,b,l,e,d⟩
structure IZ(f:Nat->Nat)(k:Nat)(ps:pM P7):Prop where
 lists:∀j (hj:j<Z ps),ps[j].1=(List.range k).filter λi=>f i==j
 top:∀i,i<k->f i<Z ps
 len:Z ps<=1001
def IZ.more{f:Nat->Nat}{a:pM P7}(h:IZ f k a)(l:Z a<=1000)(v:p5):IZ f k (a++[([],v)]):=by
 refine⟨λj d=>?_,λi b=>by have:=h.top i b;simp;omega,by simp;omega⟩;by_cases c:j<Z a
 .rw[mB c];exact h.lists j c
 .have e:j=Z a:=by simp at d;omega
  subst e;rw[List.getElem_append_right (lC _)];simp only[Nat.sub_self,oG]
  symm
  rw[oH];intro i b g;have m:=h.top i (oQ.1 b);have:f i=Z a:=by simpa using g
  omega
def IZ.put{f:Nat->Nat}{a:pM P7}(h:IZ f k a)(b:f k<Z a)(v:p5):IZ f (k+1) (a.set (f k) (a[f k].1++[k],v)):=by
 refine⟨λj c=>?_,λi l=>?_,by rw[mQ];exact h.len⟩
 .have d:j<Z a:=by rw[mQ]at c;exact c
  rw[List.range_succ,nF,List.getElem_set];split
  .rename_i e;subst e;simp only;rw[h.lists _ b]
   congr 1
   simp
  .rename_i e;rw[h.lists j d];(have:([k].filter λi=>f i==j)=[]:=by simp;exact e);rw[this,lU]
 .rw[mQ];by_cases g:i=k
  .rw[g];exact b
  .exact h.top i (by omega)
def bT(b:pM P7)(j:Nat)(x:P7):(b.set j x).flatMap (λp=>[p.2])=(b.flatMap λp=>[p.2]).set j x.2:=by
 have e:∀l:pM P7,l.flatMap (λp=>[p.2])=l.map λp=>p.2:=λl=>by
  induction l with
  |nil=>rfl
  |cons a l ih=>simp[ih]
 rw[e,e,px]
def El.put{w r z:py}{g B:Nat}{c:pM P7}(s:j<Z c){x:P7}(h:El w m (U (V ⟨g,0,Y⟩) (Z c) B) c)(F:w.grownBy r c[j].2.ownBlock)(N:p9 r m 3 1 x.2 (Z x.1) (x.1.flatMap Cd))(E:∀q,x.2.ownBlock=V q->c[j].2.ownBlock=V q\/w.heap.size<=q)
  (D:z=r.setCell ⟨g,j,Y⟩ x.2):El z m (U (V ⟨g,0,Y⟩) (Z c) B) (c.set j x):=by
 have P:=h.each _ (kV s);have G:p9 r m 221 1 (U (V ⟨g,0,Y⟩) (Z c) B) (Z c) (c.flatMap λp=>[p.2]):=mI h.row F (oj (λe=>Bc h.row P (by decide) g rfl e.symm));have L:∀i (f:i<Z c),i≠j->p9 r m 3 1 c[i].2 c[i].1.length (c[i].1.flatMap Cd):=λi f I=>mI (h.each _ (kV f)) F (by
  cases t:c[i].2.ownBlock with
  |none=>exact oi rfl
  |some q=>
   refine oj (λe=>?_)
   have l:=nk.1 h.apart
   rcases Nat.lt_or_gt_of_ne I with d|d
   .exact l i j f s d q t e.symm
   .exact l j i s f d q e.symm t)
 have H:∀{v:p5} {n:Nat} {C:pM p5},p9 r m 3 1 v n C->p9 z m 3 1 v n C:=fun{v n C} hv=>by
  rw[D];exact Ag hv (λe=>Bc hv G (by decide) g e rfl) _
 refine⟨?_,λp t=>?_,?_⟩
 .rw[mQ,bT,D];exact BG G j x.2
 .obtain⟨i,f,rfl⟩:=lX t;rw[mQ]at f;rw[List.getElem_set];split
  .exact H N
  .rename_i e;exact H (L i f (λM=>e M.symm))
 .have l:=nk.1 h.apart;refine nk.2 (λa b y u A q o k=>?_);rw[mQ]at y u;rw[List.getElem_set]at o k;split at o
  .rename_i e;subst e;rw[li (by omega)]at k;rcases E q o with d|d
   .exact l j b s u A q d k
   .have:=((h.each _ (kV u)).lt q k).2;omega
  .split at k
   .rename_i e;subst e;rcases E q k with d|d
    .exact l a j y s A q o d
    .have:=((h.each _ (kV y)).lt q o).2;omega
   .exact l a b y u A q o k
def G8(pcs:pM Dy)(i:Nat):zA:=((pcs[i]?).map Dy.hn).getD ByteArray.empty
def aA(pcs:pM Dy)(rcs:pM A4)(zR:zA->Nat)(w:py)(r:Ending)(w':py):Prop:=∃(ad:Option Addr) (cp:Nat) (ps:pM P7) (L:zA->Nat),r=.returned (U ad (Z ps) cp)/\El w' w.heap.size (U ad (Z ps) cp) ps/\IZ (λi=>L (G8 pcs i)) (Z pcs) ps/\CR rcs L/\(∀x,L x<=zR x)/\Ac [] w w'
theorem YV(HI:Option Addr)(HE:Nat)(m:pM Dy)(AB:pM A4)(w:py)(AH:zA->Nat)(hP:DE w (U HI (Z m) HE) m)(hC:F2 RX m AB)(KK:Z m<=1000)(H9:∀c∈m,Z c.zH<=1000)(FB:∀c∈m,c.hn.size<=1000000/\∀p∈c.zH,p.1.an.size<=1000000)(hL:CR AB AH)(HJ:∀x,AH x<=1000)(HZ:EB AB AH<=100000):
  Calls prog 123 #[U HI (Z m) HE] w λr w'=>aA m AB AH w r w':=by
 obtain⟨i0,Nx,K7,NM,M3⟩:=mg Tryz.yW;obtain⟨j0,K3,Nq,KA,K8⟩:=mg Tryz.yE;have NX:=Ab hP;have K2:=Ab FB;have LC:=Ab HJ;have H1:=Ab (Oo HI HE m AB w AH hP hC KK H9 FB hL HJ HZ);obtain⟨z,H3⟩:=pN w.heap.size;have W:=Ab H3;clear hP hC H9 FB hL HJ HZ H3;go_enter func123,ntmps123;go_wp2_with fail
 refine H1.mono ?_;rintro _ w1 ⟨H,n,L,rfl,hM,H7,JA,NN,k1⟩;have Jx:=Ab hM;have KD:=Ab H7;have HU:=Ab JA;have HO:=Ab k1;have NY:p7 (z<=H):=by have:=Aa W;show z<=H;omega
 clear H1 hM H7 JA NN k1;go_wp2_with fail
 go_loopg [4,12] (Z m) (λgk pv i wr=>∃(k:Nat) (f:pM P7) (E:Option Addr) (y:Nat),pv=U E (Z f) y/\i=X J k/\k<=Z m/\gk=Z m-k/\p7 (IZ (λi=>L (G8 m i)) k f)/\p7 (El wr z (U E (Z f) y) f)/\p7 (Ez wr H n L)/\p7 (Ac [] w wr))
 case atStart=>exact⟨0,[],Y,0,rfl,rfl,by omega,rfl,⟨λj hj=>by simp at hj,λi hi=>by omega,by simp⟩,⟨lH _ _ _ _,λp P=>by simp at P,List.Pairwise.nil⟩,Jx,HO⟩
 case round=>
  clear Jx HO;obtain⟨k,f,E,y,rfl,rfl,hk,IJ,S,F,Q,N⟩:=hrel;have HG:=Ab IJ;clear IJ;by_cases FL:k<Z m
  .obtain⟨g,NL,P,I,DT,EM,BT,CC,B2,B0,he,FF,d0,d1,d2,d3⟩:=F6 (NX.kept N) k FL;simp only[kS]at he;obtain⟨rfl,-,rfl⟩:=he;have EY:=(K2 _ (kV FL)).1;rw[FF]at EY;have H2:=Zu EY;have M0:p7 (G8 m k=I):=by
    show _=_;unfold G8;rw[lc FL,FF];rfl
   (have MB:L I<=1000:=by have:=Aa HU I;have:=Aa LC I;omega);have Ha:=Ab (N.alloc (j3 #[X J P,O I,U EM (Z DT) BT,U CC (Z B0) B2] 189));have E0:=Q.zX ((pO [] wr).alloc (j3 #[X J P,O I,U EM (Z DT) BT,U CC (Z B0) B2] 189)) (by simp);have HH:=Ab E0;have Bx:=Ab (F.kept ((pO [] wr).alloc (j3 #[X J P,O I,U EM (Z DT) BT,U CC (Z B0) B2] 189)));obtain⟨D,H6,Nd,hD⟩:=E0.at_;have HD:=Ab (hD I);obtain⟨l,Go⟩:=pN (L I);rw[Go]at HD MB;(have K5:p7 (L (G8 m k)=l):=by show _=_;rw[Aa M0];exact Go);clear E0 Nd hD EY FF Go F Q N;go_wp2_with (at_lookup;refine wpList_lookup_own_int _ rfl _ _ 269 rfl 9 3 J (Maps.string_keyed underlying9) underlying269 underlying3 (zeroValue3 _) H n D rfl H6 _ _ rfl H2 ?_;intro c IA M6;obtain rfl:c=(l:Int):=(by have h:=IA.symm.trans HD;simpa using h);clear IA M6)
   clear H6 HD H2 d0 d1 d2 d3;generalize wr.alloc (j3 #[X J P,O I,U EM (Z DT) BT,U CC (Z B0) B2] 189)=wa at Ha HH Bx⊢
   go_loopg [4] (l+2-Z f) (λNS pv wq=>∃(f:pM P7) (E:Option Addr) (y:Nat),pv=U E (Z f) y/\NS=l+2-Z f/\p7 (IZ (λi=>L (G8 m i)) k f)/\p7 (El wq z (U E (Z f) y) f)/\p7 (Ez wq H n L)/\p7 (Ac [] w wq))
   case atStart=>exact⟨f,E,y,rfl,rfl,S,Bx,HH,Ha⟩
   case round=>
    clear S Bx HH Ha;obtain⟨f,E,y,rfl,IS,S,F,Q,N⟩:=hrel;have M2:=Ab IS;clear IS;(have OB:z<=wr.heap.size:=by have:=N.size;have:=Aa W;omega);by_cases N4:Z f<=l
    ·(have Mo:(Z f:Int)<=(l:Int):=by omega);have v:=F.row;go_wp2_with (at_builtin;refine lG _ rfl (.tmp 26) (.tmp 27) _ rfl z 221 i0 _ 1 24 underlying219 Nx K7 NM M3 rfl (by omega) (U E (Z f) y) (Z f) (f.flatMap λp=>[p.2]) rfl (lg v _) ⟨wr.heap.size,0,Y⟩ 1 1 [U Y 0 0] rfl rfl (lI (lP wr _)) (by simp[Value.oneCell']) (by omega) (by unfold maxLen;omega) (by omega) (by simp;omega) (wr.heap.size+1) (by simp) ?_;intro G C u AT A BS FC)
     have B9:=Ab (S.more (by omega) (U Y 0 0));have AO:p7 (El u z (U (V ⟨G,0,Y⟩) (Z (f++[([],U Y 0 0)])) C) (f++[([],U Y 0 0)])):=by
      refine⟨?_,λp P=>?_,?_⟩
      .rw[lM];simp only[lu,lj,lO,me,lF,mx,lU];exact AT
      .rcases lw.1 P with h|h
       .exact bO (lg (F.each p h) _) (lg v _) A
       .simp only[kY]at h;subst h;exact lH _ _ _ _
      .rw[oP];refine⟨F.apart,by simp,λa ha b B q _ s=>?_⟩;simp only[kY]at B;subst B;simp[pI]at s
     have HL:Ac [] w u:=(N.alloc (j3 #[U Y 0 0] 221)).grown A (λq s=>oj (by have:=(v.lt q s).1;have:=Aa W;omega));have ES:p7 (Ez u H n L):=by
      have EK:=Q.zX ((pO [] wr).alloc (j3 #[U Y 0 0] 221)) (by simp);refine EK.zX (M:=(U E (Z f) y).ownBlock.toList) ((pO _ _).grown A (λq s=>oi (by rw[s];simp))) (λT=>?_);obtain⟨D,⟨es,HR,B,_⟩,_⟩:=EK.at_;rcases(lg v (j3 #[U Y 0 0] 221)).2 with⟨e,_⟩|⟨g',c',HQ,e,_,A0,_⟩
      .rw[e]at T;simp[pI]at T
      .rw[e]at T;simp[pI]at T;subst T;rw[A0]at B;cases B
     have CL:=Ab HL;clear AT A BS FC v HL
     go_roundg (l+2-(Z f+1))
     case measure=>have:=Aa M2;omega
     case rel=>exact⟨f++[([],U Y 0 0)],V ⟨G,0,Y⟩,C,by simp,by simp,B9,AO,ES,CL⟩
    ·(have Mo:¬(Z f:Int)<=(l:Int):=by omega);(have R:l<Z f:=by omega);(have Op:(0:Int)<=(l:Int):=by omega);(have Os:(l:Int)<(Z f:Int):=by omega);obtain⟨g,NL,Ax,BA,he,hv,HW⟩:=Tv F l R;simp only[kS]at he;obtain⟨rfl,-,rfl⟩:=he;have v:=F.each _ (kV R);rw[hv]at v;have HV:=Ab hv;have Nj:f[l].1.length<=1000:=by
      rw[(Aa S).lists l R];have:=mS (λi=>L (G8 m i)==l) (List.range k);rw[List.length_range]at this;omega
     obtain⟨o,HF⟩:=pN (f[l].1);have NB:=Ab HF;rw[HF]at v Nj HW HV;clear HF hv;have A2:=F.row;have Bx:=Ab (F.kept ((pO [] wr).alloc (j3 #[X J k] 3)));have L0:p7 (∀u:py,(wr.alloc (j3 #[X J k] 3)).grownBy u (U Ax (Z o) BA).ownBlock->p9 u z 221 1 (U (V ⟨g,0,Y⟩) (Z f) y) (Z f) (f.flatMap λp=>[p.2])/\u.frozen? ⟨g,l,Y⟩=K/\p8 u ⟨g,l,Y⟩=V (U Ax (Z o) BA)):=by
      intro u A;have HA:p9 u z 221 1 (U (V ⟨g,0,Y⟩) (Z f) y) (Z f) (f.flatMap λp=>[p.2]):=mI (lg A2 (j3 #[X J k] 3)) A (oj (λe=>Bc A2 v (by decide) g rfl e.symm));obtain⟨g',N0,HP,_,K9⟩:=AC HA (λc _=>rfl) l R;simp only[kS,ld,lW]at HP;obtain⟨⟨rfl,-,-⟩,-,-⟩:=HP;have d:=K9 l R 0 (by omega);simp[Aa HV]at d;exact⟨HA,HA.frozenAt l,d⟩
     go_wp2_with (at_builtin;refine lG _ rfl (.tmp 34) (.tmp 36) _ rfl z 3 j0 _ 1 8 underlying221 K3 Nq KA K8 rfl (by omega) (U Ax (Z o) BA) (Z o) (o.flatMap Cd) rfl (lg v _) ⟨wr.heap.size,0,Y⟩ 1 1 [X J k] rfl rfl (lI (lP wr _)) (by simp[Value.oneCell']) (by omega) (by unfold maxLen;omega) (by omega) (by simp;omega) (wr.heap.size+1) (by simp) ?_;intro G C u AT A BS FC;have n9:=Aa L0 u A;have f9:=n9.2.1;have c9:=n9.2.2;clear n9)
     have hx:p9 u z 3 1 (U (V ⟨G,0,Y⟩) (Z (o++[k])) C) (Z (o++[k])) ((o++[k]).flatMap Cd):=by
      rw[lM];simp only[lu,lj,lO,me,lF,mx,lU];exact AT
     have AO:=Ab (El.put (x:=(o++[k],U (V ⟨G,0,Y⟩) (Z (o++[k])) C)) R Bx (by rw[Aa HV];exact A) hx (λq s=>by
      simp only[pI,ld]at s
      subst s
      rw[Aa HV]
      rcases BS with h|h
      .exact oi h
      .exact oj (by simp;omega)) rfl)
     have B9:p7 (IZ (λi=>L (G8 m i)) (k+1) (f.set l (o++[k],U (V ⟨G,0,Y⟩) (Z (o++[k])) C))):=by
      have hf:=Aa K5;have h:=S.put (by simp only[hf];exact R) (U (V ⟨G,0,Y⟩) (Z (o++[k])) C);simp only[hf]at h;rw[Aa NB]at h;exact h
     have K1:=lg v (j3 #[X J k] 3);have HT:∀q,(U Ax (Z o) BA).ownBlock=V q->q≠H:=by
      intro q s e;subst e;obtain⟨D,⟨es,HR,B,_⟩,_⟩:=Q.at_;rcases v.2 with⟨e,_⟩|⟨g',c',HQ,e,_,A0,_⟩
      .rw[e]at s;simp[pI]at s
      .rw[e]at s;simp[pI]at s;subst s;rw[A0]at B;cases B
     have MY:g≠H:=by
      intro e;subst e;obtain⟨D,⟨es,HR,B,_⟩,_⟩:=Q.at_;rcases A2.2 with⟨e,_⟩|⟨g',c',HQ,e,_,A0,_⟩
      .cases e
      .simp only[kS,ld,lW]at e;obtain⟨⟨rfl,-,-⟩,-,-⟩:=e;rw[A0]at B;cases B
     have ES:p7 (Ez (u.setCell ⟨g,l,Y⟩ (U (V ⟨G,0,Y⟩) (Z o+1) C)) H n L):=by
      have EK:=Q.zX ((pO [] wr).alloc (j3 #[X J k] 3)) (by simp);have LM:=EK.zX (M:=(U Ax (Z o) BA).ownBlock.toList) ((pO _ _).grown A (λq s=>oi (by rw[s];simp))) (λT=>HT H (by simpa using T) rfl);exact LM.zX (M:=[g]) ((pO [g] u).setCell (p:=⟨g,l,Y⟩) (oi (by simp)) _) (by simp;exact λe=>MY e.symm)
     have CL:=Ab (((N.alloc (j3 #[X J k] 3)).grown A (λq s=>oj (by have:=(v.lt q s).1;have:=Aa W;omega))).setCell (p:=⟨g,l,Y⟩) (oj (by have:=(A2.lt g rfl).1;have:=Aa W;simp;omega)) (U (V ⟨G,0,Y⟩) (Z o+1) C));simp only[lu,lj,lO,me]at AO B9;generalize u.setCell ⟨g,l,Y⟩ (U (V ⟨G,0,Y⟩) (Z o+1) C)=wz at AO ES CL⊢;clear AT A BS FC v A2 f9 c9 hx K1 HT HW;go_wp2
     go_roundg (Z m-(k+1))
     case measure=>have:=Aa HG;omega
     case rel=>exact⟨k+1,f.set l (o++[k],U (V ⟨G,0,Y⟩) (Z o+1) C),V ⟨g,0,Y⟩,y,by simp,by go_num,by omega,rfl,B9,by rw[mQ];exact AO,ES,CL⟩
  .have LE:p7 (IZ (λi=>L (G8 m i)) (Z m) f):=by
    (have e:k=Z m:=by omega);have h:=Aa S;rw[e]at h;exact h
   go_wp2;go_ret;exact⟨E,y,f,L,rfl,by rw[Aa W];exact F,LE,KD,HU,N⟩
structure Gv(w w':py):Prop where
 size:w.heap.size<=w'.heap.size
 at_:∀(q:Nat) (cs:Array p5) (t:TypeId) (fr:Nat×Nat),w.heap[q]?=V (j3 cs t fr)->t≠139->t≠104->t≠176->w'.heap[q]?=V (j3 cs t fr)
def Gv.refl(w:py):Gv w w:=⟨lC _,λ_ _ _ _ h _ _ _=>h⟩
def Gv.trans(h:Gv w v)(k:Gv v u):Gv w u:=⟨mp h.size k.size,λq e t i j f d g=>k.at_ q e t i (h.at_ q e t i j f d g) f d g⟩
def Gv.of(k:Ac M w v)(g:∀q∈M,∃(c:Array p5) (t:TypeId) (d:Nat×Nat),w.heap[q]?=V (j3 c t d)/\(t=139\/t=104\/t=176)):Gv w v:=by
 refine⟨k.size,λq c t d a i f l=>?_⟩;rw[k.block q (mc.1 a).1 (λe=>?_)]
 .exact a
 .obtain⟨m,n,o,b,j⟩:=g q e;rw[a]at b;simp only[ld,Obj.cells.injEq]at b;obtain⟨_,rfl,_⟩:=b;rcases j with h|h|h
  .exact i h
  .exact f h
  .exact l h
def Gv.kept{w w':py}(k:Ac [] w w'):Gv w w':=Gv.of k (λq a=>by simp at a)
def Gv.row(h:Gv w u){v:p5}(a:p9 w m k i v n y)(j:k≠139)(f:k≠104)(q:k≠176):p9 u m k i v n y:=by
 refine⟨a.1,?_⟩;rcases a.2 with l|⟨g,c,b,rfl,p,s,t,d,r,o⟩
 .exact oi l
 .exact oj ⟨g,c,b,rfl,p,h.at_ _ _ _ _ s j f q,t,d,r,o⟩
def Z3(h:AF w b y T):∃(c:Array p5) (a:TypeId) (d:Nat×Nat),w.heap[b]?=V (j3 c a d)/\a=T:=⟨_,_,_,h,rfl⟩
def Z9(h:p9 w m k i z n y){q:Nat}(a:z.ownBlock=V q):∃(d:Array p5) (b:TypeId) (j:Nat×Nat),w.heap[q]?=V (j3 d b j)/\b=k:=by
 rcases h.2 with⟨rfl,_⟩|⟨g,c,l,rfl,_,f,_⟩
 .simp[pI]at a
 .simp only[pI,ld]at a;subst a;exact⟨_,_,_,f,rfl⟩
structure SQ(w0:py)(cb:Nat)(clv:p5)(X:pM Nat)(s:pM Af)(w:py):Prop where
 kept:Ac [] w0 w
 yU:w0.heap.size<=cb
 out:∃(sad:Option Addr) (scp:Nat) (fs:pM Fa) (tad:Option Addr) (tcp:Nat) (xs:pM p5),AF w cb [clv,U sad (Z fs) scp,U tad (Z s) tcp] 139/\Jm w (U sad (Z fs) scp) fs/\Df fs s/\
  p9 w w0.heap.size 176 4 (U tad (Z s) tcp) (Z s) xs/\(∀q,(U sad (Z fs) scp).ownBlock=V q->w0.heap.size<=q)/\∀q,(U tad (Z s) tcp).ownBlock=V q->q∉X
def Cc(p:Nat×U3):pM p5:=KJ p.1 p.2
structure Ya(w:py)(B:Nat)(kv:p5)(hs:pM (Nat×GZ Af))(sts:pM (Nat×U3)):Prop where
 eq:sts.map (λp=>(p.1,p.2.f.f,p.2.ns.map Fa.f))=hs.map λh=>(h.1,BU h.2.head,h.2.pos.map BU)
 each:∀p∈sts,Lk w p.2/\∀q,p.2.n.ownBlock=V q->B<=q/\kv.ownBlock≠V q
def Ya.kept{w w':py}{B:Nat}{c:p5}{a:pM (Nat×GZ Af)}{d:pM (Nat×U3)}(h:Ya w B c a d)(k:Ac [] w w'):Ya w' B c a d:=⟨h.eq,λp b=>⟨(h.each p b).1.kept k,(h.each p b).2⟩⟩
structure ME(w0:py)(cb:Nat)(clv:p5)(X Y:pM Nat)(s:pM Af)(hs:pM (Nat×GZ Af))(w:py):Prop where
 kept:Ac [] w0 w
 yU:w0.heap.size<=cb
 out:∃(sad:Option Addr) (scp:Nat) (fs:pM Fa) (tad:Option Addr) (tcp:Nat) (sts:pM (Nat×U3)),AF w cb [clv,U sad (Z fs) scp,U tad (Z s) tcp] 139/\Jm w (U sad (Z fs) scp) fs/\Df fs s/\
  p9 w w0.heap.size 176 4 (U tad (Z s) tcp) (Z s) (sts.flatMap Cc)/\(∀q,(U sad (Z fs) scp).ownBlock=V q->w0.heap.size<=q/\q∉Y)/\(∀q,(U tad (Z s) tcp).ownBlock=V q->q∉X)/\Ya w w0.heap.size (U sad (Z fs) scp) hs sts
def ME.cou{a j:pM Nat}{o:pM (Nat×GZ Af)}(h:ME v n z a j f o w):SQ v n z a f w:=by
 obtain⟨t,l,p,g,c,u,k,e,r,i,m,b,_⟩:=h.out;exact⟨h.kept,h.yU,t,l,p,g,c,_,k,e,r,i,λq d=>(m q d).1,b⟩
def ME.grow{a b:pM Nat}{c:pM (Nat×GZ Af)}(h:ME v n z a b f c w)(k:Ac [] w u):ME v n z a b f c u:=by
 obtain⟨x,q,r,g,e,l,m,i,t,j,p,d,o⟩:=h.out;exact⟨h.kept.trans k,h.yU,x,q,r,g,e,l,m.kept k,i.kept k,t,Ad j k,p,d,o.kept k⟩
abbrev jI:A4->pM Af->UInt8->pM zA->pM zA:=λc s=>Jc (Al c) s
abbrev IH(r:A4)(s:pM Af):pM Af:=Ss (Jc (Al r) s) r (CA r) (Dp r) s
structure Z4(pcs:pM Dy)(J:pM (Nat×GZ Af)->pM Af->Prop)(num:Nat)(r:A4)(hs:pM (Nat×GZ Af))(s:pM Af):Prop where
 lt:num<Z pcs
 cl:QK (pcs[num]'lt) r s
 nd:(IH r s).Nodup
 new:∀f∈IH r s,f∉s/\AL f/\Z f.args<=1000
 len:Z (IH r s)<=100000
 mid:∀IS:pM (GZ Af),IS.map GZ.head=IH r s->(∀i∈IS,∃σ,(∀x∈Al r,Cg (Bm σ) (Ed σ) s x=true)/\i=CG r σ)->∀j,J (hs++(IS.take j).map (Prod.mk num)) (((IH r s).take j).foldl A3 s)
def Uj{l:pM Af}(a:j<Z l):(l.take (j+1)).foldl A3 f=A3 ((l.take j).foldl A3 f) l[j]:=by
 rw[kW a,mi];rfl
def ec{l:pM Af}{s:pM Af}(t:Eb s)(v:∀f∈s,AL f)(x:l.Nodup)(h:∀f∈l,f∉s/\AL f):∀j (c:j<Z l),Eb ((l.take j).foldl A3 s)/\(∀f∈(l.take j).foldl A3 s,AL f)/\(∀f,f∈(l.take j).foldl A3 s↔f∈s\/f∈l.take j)/\l[j]∉(l.take j).foldl A3 s:=by
 have p:∀j,j<=Z l->Eb ((l.take j).foldl A3 s)/\(∀f∈(l.take j).foldl A3 s,AL f)/\(∀f,f∈(l.take j).foldl A3 s↔f∈s\/f∈l.take j):=by
  intro j
  induction j with
  |zero=>intro _;exact⟨t,v,λf=>by simp⟩
  |succ j ih=>
   intro c;obtain⟨o,k,d⟩:=ih (by omega);(have g:j<Z l:=by omega);have u:=(h _ (kV g)).2;obtain⟨a,b,m⟩:=CZ u o k;rw[Uj g];refine⟨a,b,λf=>?_⟩;rw[m,d,kW g,lw,kY,or_assoc]
 intro j c;obtain⟨o,k,d⟩:=p j (by omega);refine⟨o,k,d,λq=>?_⟩;rcases(d _).1 q with n|n
 .exact(h _ (kV c)).1 n
 .obtain⟨i,w,e⟩:=lX n;rw[l9]at w;rw[od]at e;have r:=nk.1 x i j (by omega) c (by omega);exact r e
def fg(f:Af):Z (BU f).zC=Z f.args:=by unfold BU;simp
theorem dS(HN:pM (Nat×GZ Af)->pM Af->Prop)(w0:py)(o:Nat)(BT:Option Addr)(BS:Nat)(AH:pM Dy)(a6:Option Addr)(UO:Nat)(ns:pM Nat)(ds:pM A4)(s:pM Af)(hs:pM (Nat×GZ Af))(w:py)(hP:DE w0 (U BT (Z AH) BS) AH)(b4:Z AH<=1000)(fy:Z ns<=1000)
  (hY:p9 w 0 3 1 (U a6 (Z ns) UO) (Z ns) (ns.flatMap Cd)) (hC:ME w0 o (U BT (Z AH) BS) [] [] s hs w) (hJ:HN hs s) (WS:∀hs s,HN hs s->Eb s/\(∀f∈s,AL f)/\Z s<=9000)
  (TK:∀hs s,HN hs s->F2 (λu r=>Z4 AH HN u r hs s) ns ds):
  Calls prog 124 #[m2 (V ⟨o,0,Y⟩),U a6 (Z ns) UO] w λr w'=>∃s' al,s'=(Gc (EN jI) ds s).1/\r=.returned (.bool (decide (Z s<Z s')))/\HN al s'/\ME w0 o (U BT (Z AH) BS) [] [] s' al w'/\Gv w w':=by
 obtain⟨i0,d0,co,d5,c8⟩:=mg Tryz.zr;have b2:=Ab hP;have cr:=Ab hY;have U1:=Ab hC;have HJ:=Ab hJ;have ad:=Ab WS;have ea:=Ab TK;have TS:p7 (Z ns=Z ds):=(TK hs s hJ).lenX;obtain⟨er,em,eT,e5,eh,fz,X2,_⟩:=hC.out;have c2:=X2.cell 2;simp at c2;obtain⟨S0,OB⟩:=pN (Z s);have b5:=Ab OB;rw[OB]at c2;clear hP hY hC hJ WS TK X2 OB;go_enter func124,ntmps124;go_wp2_with fail
 clear c2
 go_loopg [17] (Z ns) (λgk i wr=>∃(k:Nat) (s1:pM Af) (B0:pM (Nat×GZ Af)),i=X J k/\k<=Z ns/\gk=Z ns-k/\p7 (s1=((ds.take k).foldl (J4 (EN jI)) (s,K)).1)/\p7 (HN B0 s1)/\p7 (ME w0 o (U BT (Z AH) BS) [] [] s1 B0 wr)/\p7 (Gv w wr))
 case atStart=>exact⟨0,s,hs,rfl,by omega,rfl,rfl,HJ,U1,Gv.refl _⟩
 case round=>
  clear U1 HJ;obtain⟨k,s1,B0,rfl,hk,bt,TX,RT,FW,LB⟩:=hrel;have HG:=Ab bt;clear bt;by_cases Wa:k<Z ns
  ·(have a4:k<Z ds:=by have:=Aa TS;omega);have HI:=(ea B0 s1 RT).at k Wa a4;obtain⟨yg,e7,he,bz⟩:=ae (LB.row cr (by decide) (by decide) (by decide)) k Wa;simp only[kS]at he;obtain⟨rfl,-,rfl⟩:=he;obtain⟨u,b0⟩:=pN (ns[k]);rw[b0]at bz HI;obtain⟨r,S⟩:=pN (ds[k]);rw[S]at HI;have Dk:p7 (((ds.take (k+1)).foldl (J4 (EN jI)) (s,K)).1=(IH r s1).foldl A3 s1):=by
    show _=_;rw[kW a4,mi,S];have h:=Aa TX;rw[lR,List.foldl_nil];generalize(ds.take k).foldl (J4 (EN jI)) (s,K)=acc at h⊢;rw[h];rfl
   clear b0 S;obtain⟨ES,DT,N,W,T,xs,hb,HK,HO,HW,H0,hX,Ix⟩:=(Aa FW).out;have bb:=Ab (U2 o u BT BS AH ES DT N (U W (Z s1) T) r s1 wr HI.lt b4 hb (by exact(Aa b2).kept (Aa FW).kept) HK HO HI.cl HI.len);have HH:=Ab HI;(have e6:(0:Int)<=(k:Int):=by omega);(have en:(k:Int)<(Z ns:Int):=by omega);have af:p7 (∀w2 nv nn T0 (y:pM U3),Ac [] wr w2->p9 w2 wr.heap.size 176 4 nv nn T0->(∀m∈y,Lk w2 m/\fq wr.heap.size r s1 m)->ME w0 o (U BT (Z AH) BS) nv.ownBlock.toList (y.filterMap λm=>m.n.ownBlock) s1 B0 w2):=λw2 nv nn T0 y k2 hn AO=>⟨(Aa FW).kept.trans k2,(Aa FW).yU,ES,DT,N,W,T,xs,hb.kept k2,HK.kept k2,HO,Ad HW k2,λq d=>⟨(H0 q d).1,λR=>by
    obtain⟨m,NS,e⟩:=m3.1 R
    have M:=(HK.row.lt q d).2
    have L:=(AO m NS).2.1 q e
    omega⟩,λq d R=>by
    have M:=(HW.lt q d).2
    have L:=(hn.lt q (by simpa using R)).1
    omega,Ix.kept k2⟩
   clear HI hb HK HO HW H0 hX Ix;(go_wp2_with fail);refine bb.mono ?_;rintro _ w2 ⟨a9,LM,y,rfl,LC,Nq,KA,k2⟩;have XS:=Ab (LB.trans (Gv.kept k2));have eg:=Ab LC;have H7:=Ab (Am Nq (lz _));(have HV:p7 (∀m∈y,Lk w2 m):=λm AO=>(KA m AO).1);(have d6:p7 (∀m∈y,∀q,m.n.ownBlock=V q->w0.heap.size<=q):=λm AO q d=>mp FW.kept.size ((KA m AO).2.1 q d));obtain⟨IS,RE,a8,ao⟩:=Um y (IH r s1) LC (λf hf=>(HH.new f hf).2.1) (λm AO=>(KA m AO).2);have NN:=Ab RE;have dc:=Ab ao;have TV:=Ab (HH.mid IS RE a8);clear RE a8 ao;(have eB:Z y=Z (IH r s1):=by have:=congrArg List.length LC;simpa using this);have aa:=Ab (af w2 _ _ _ y k2 Nq KA);have et:=HH.len;clear bb LC Nq KA FW LB af bz k2;go_wp2_with fail
   go_loopg [25] (Z y) (λeb i wq=>∃(j:Nat),i=X J j/\j<=Z y/\eb=Z y-j/\p7 (ME w0 o (U BT (Z AH) BS) (U a9 (Z y) LM).ownBlock.toList (y.filterMap λm=>m.n.ownBlock) (((IH r s1).take j).foldl A3 s1) (B0++(IS.take j).map (Prod.mk u)) wq)/\p7 (p9 wq 0 176 4 (U a9 (Z y) LM) (Z y) (y.flatMap (KJ u)))/\p7 (∀m∈y,Lk wq m)/\p7 (Gv w wq))
   case atStart=>exact⟨0,rfl,by omega,rfl,(by simpa using aa),H7,HV,XS⟩
   case round=>
    clear aa H7 HV XS;obtain⟨j,rfl,hj,W3,Go,H7,HV,ap⟩:=hrel;have c7:=Ab W3;clear W3;by_cases EY:j<Z y
    ·(have K3:j<Z (IH r s1):=by omega);obtain⟨g,fp,he,_,H5⟩:=AC H7 (λc _=>rfl) j EY;simp only[kS]at he;obtain⟨rfl,-,rfl⟩:=he;have e0:=H5 j EY 0 (by omega);have e1:=H5 j EY 1 (by omega);have e2:=H5 j EY 2 (by omega);have e3:=H5 j EY 3 (by omega);obtain⟨K8,RB,H2,Q,P,hn⟩:=HV _ (kV EY);(have Jx:∀q,y[j].n.ownBlock=V q->w0.heap.size<=q/\q∈y.filterMap λm=>m.n.ownBlock:=λq d=>⟨d6 _ (kV EY) q d,m3.2 ⟨_,kV EY,d⟩⟩);(have WW:j<Z IS:=by have h:=congrArg List.length NN;rw[lm]at h;omega);(have ba:p7 ((IS.take (j+1)).map (Prod.mk u)=(IS.take j).map (Prod.mk u)++[(u,IS[j])]):=by show _=_;rw[kW WW,lV];rfl);have H9:(y[j].f.f,y[j].ns.map Fa.f)=(BU IS[j].head,IS[j].pos.map BU):=by
      have h:=congrArg (λl=>l[j]?) dc;simp only[mA,lc EY,lc WW,m0,ld]at h;exact h
     obtain⟨IJ,ab⟩:=pN (IS[j]);rw[ab]at ba H9;clear ab;have KB:y[j].f.f=BU (IH r s1)[j]:=by
      have h:=congrArg (λl=>l[j]?) eg;simp only[mA,lc EY,lc K3,m0,ld]at h;exact h
     obtain⟨⟨⟨⟨A,BA⟩,fv⟩,nv,SB⟩,AO⟩:∃m,y[j]=m:=⟨_,rfl⟩;rw[AO]at e0 e1 e2 e3 K8 RB hn KB H2 Jx H9;have db:=Ab AO;obtain⟨C,B,br⟩:=Ak K8;simp only at br hn RB KB H2 Jx H9;subst br hn;obtain⟨I,ST⟩:=pN (Z SB);rw[ST]at e0 e1 e2 e3 H2 Jx;have cL:=Ab ST;have fa:=Ab H2;have YP:=Ab Jx;have df:=Ab H9;clear ST H2 Jx H9;obtain⟨z,Pl⟩:=pN (Z BA);simp[KJ,Pl]at e0 e1 e2 e3;obtain⟨F,hF⟩:=pN ((IH r s1)[j]);rw[hF]at KB;have bv:=HH.new F (by rw[<-hF];exact kV K3);have RV:=Aa ad B0 s1 RT;have MN:=ec RV.1 RV.2.1 HH.nd (λf hf=>⟨(HH.new f hf).1,(HH.new f hf).2.1⟩) j K3;rw[hF]at MN;(have X0:p7 (((IH r s1).take (j+1)).foldl A3 s1=A3 (((IH r s1).take j).foldl A3 s1) F):=by show _=_;rw[Uj K3,hF]);have K6:=Aa ad _ _ (TV j);obtain⟨SJ,U0⟩:=pN (((IH r s1).take j).foldl A3 s1);rw[U0]at Go MN X0 K6;have W0:=Ab MN;have H1:=Ab KB;have c6:=Ab K8;have PT:=Ab bv;have b1:=Ab Pl;obtain⟨ES,DT,N,W,T,xs,hb,HK,HO,HW,H0,hX,Ix⟩:=(Aa Go).out;have ch:=HO.len;have HB:=Ab hb;have OH:=Ab HK;have N0:=Ab HO;have W1:=Ab HW;have TL:=Ab H0;have HX:=Ab hX;have HS:=Ab Ix;(have f1:(0:Int)<=(j:Int):=by omega);(have ek:(j:Int)<(Z y:Int):=by omega);obtain⟨G,ar⟩:=pN (Z SJ);have M2:=Ab ar;(have c0:p7 (G<=9000):=by show G<=9000;have:=K6.2.2;omega);(have cB:p7 (Z N<=9000):=by show Z N<=9000;have:=K6.2.2;omega);have MY:=Ab (pP wr [O A,U C z B,X J u,U Q I P] 176);have L0:=Ab ((pO [] wr).alloc (j3 [O A,U C z B,X J u,U Q I P].toArray 176));clear hb HK HO HW H0 hX Ix MN bv RV hF KB K8 AO H5 U0 K6 ch Pl RB ar;refine pL (λK1 CL=>?_);go_wp2;refine CL _ _ ?_;clear CL K1;refine pL (λK1 CL=>?_);go_wp2;refine CL _ _ ?_;clear CL K1;refine pL (λK5 a2=>?_);refine wp_block ?_;refine pL (λK1 CL=>?_);go_wp2;refine CL _ _ ?_;clear CL K1 e0 e1 e2 e3;change Code.wp _ _ _ _ (wr.alloc (j3 [O A,U C z B,X J u,U Q I P].toArray 176));generalize hw3:wr.alloc (j3 [O A,U C z B,X J u,U Q I P].toArray 176)=w3 at MY L0⊢;clear hw3;obtain⟨E,TH⟩:=pN wr.heap.size;have cv:=Ab TH;rw[TH]at MY⊢;clear TH;have RO:p7 (∀D,AF D E [O A,U C z B,X J u,U Q I P] 176->p8 D ⟨E,0,Y⟩=V (O A)/\p8 D ⟨E,1,Y⟩=V (U C z B)/\p8 D ⟨E,2,Y⟩=V (X J u)/\p8 D ⟨E,3,Y⟩=V (U Q I P)):=by
      intro D hb;have h0:=hb.cell 0;have M:=hb.cell 1;have L:=hb.cell 2;have h3:=hb.cell 3;simp at h0 M L h3;exact⟨h0,M,L,h3⟩
     have A1:=Ab (RO w3.drew MY);refine pL (λK1 CL=>?_);refine CH 6 (λD=>p8 D ⟨E,0,Y⟩=V (O A)/\p8 D ⟨E,1,Y⟩=V (U C z B)/\p8 D ⟨E,2,Y⟩=V (X J u)/\p8 D ⟨E,3,Y⟩=V (U Q I P)) (by kernel_rfl) ?_;refine CF.tqH (i:=0) (v:=m2 (V ⟨o,0,Y⟩)) rfl (λ_ _ _ h=>h) A1 ?_;simp only[pJ,kR,kT,kU];refine CF.tqH (i:=1) (v:=m2 (V ⟨o,0,Y⟩)) rfl (λ_ _ _ h=>h) A1 ?_;simp only[pJ,kR,kT,kU];refine CF.tqH (i:=2) (v:=m2 (V ⟨o,1,Y⟩)) rfl (λ_ _ _ h=>h) A1 ?_;simp only[pJ,kR,kT,kU];refine CF.tqH (i:=3) (v:=m2 (V ⟨E,0,Y⟩)) rfl (λ_ _ _ h=>h) A1 ?_;simp only[pJ,kR,kT,kU];refine CF.tqH (i:=4) (v:=.agg #[O A,U C z B]) rfl (λ_ _ _ h=>h) A1 ?_;simp only[pJ,kR,kT,kU];refine CF.one (i:=5) (by kernel_rfl) rfl (λEM hK=>?_)
     go_simp
     have HC:Ac [] wr w3.drew:=L0.drew;have M6:=Ab (R4 o 1 [U BT (Z AH) BS,U ES (Z N) DT,U W (Z SJ) T] 139 ES DT N ⟨⟨A,BA⟩,U C (Z BA) B⟩ w3.drew (HB.kept HC) rfl (by decide) (by decide) (OH.kept HC) (c6.kept HC) (by show Z BA<=1000;have h:=congrArg (λp=>Z p.zC) H1;simp only[fg]at h;have:=PT.2.2;omega) (by have:=Aa cB;omega) (N0.mono _));simp only[A6]at M6;rw[Aa b1]at M6;refine M6.mono ?_;rintro _ H ⟨rfl,hA⟩;have HP:AF w3.drew E [O A,U C z B,X J u,U Q I P] 176:=MY;have MB:=HB.kept HC;have Op:=OH.kept HC;have X3:E∉o::(U ES (Z N) DT).ownBlock.toList:=by
      intro R;rcases kZ.1 R with h|h
      .rw[h]at HP;unfold AF at HP MB;rw[MB]at HP;simp at HP
      .exact As Op.row HP (by decide) (by simpa using h)
     have Nj:=HP.kept hA.kept X3;refine hK.out _ _ (λ_=>RO _ Nj) ?_;clear hK EM;refine CF.done (by kernel_rfl) ?_ _
     try simp only[pJ,kR,kT,kU]
     refine CL _ _ ?_;clear CL K1 A1 M6;obtain⟨p,HU,HR,hcut,H8,bn,NV⟩:=hA.out;simp only[kU,kT]at H8;have QR:Gs N (BU F) p:=by
      have h:=hcut;simp only at h;rw[Aa H1]at h;exact h
     have NL:ER N ⟨A,BA⟩ p=K:=by
      rw[Aa H1,(Aa N0).yD (Aa PT).2.1 QR];cases hh:C3 SJ F with
      |false=>rfl
      |true=>exact absurd ((BK _ _).1 hh) W0.2.2.2
     have c1:p7 (Df (MM N ⟨⟨A,BA⟩,U C z B⟩ p) (A3 SJ F)):=by
      have h:=N0.z6 (x:=⟨⟨A,BA⟩,U C z B⟩) H1 PT.2.1 QR (by rw[<-Aa H1];exact NL);unfold MM;simp only[NL,k0,if_false];exact h
     (have Nx:p7 (Z (A3 SJ F)=G+1):=by show _=_;rw[(Lt SJ F).2 (Aa W0).2.2.2,Aa M2]);have H3:=Ab bn;have bx:p7 (∀q,(U HU (Z (MM N ⟨⟨A,BA⟩,U C z B⟩ p)) HR).ownBlock=V q->w0.heap.size<=q/\q∉y.filterMap λm=>m.n.ownBlock):=by
      intro q d;rcases NV q d with h|h
      .exact TL q h
      .have M:w3.heap.size<=q:=h;have L:=Go.kept.size;have h3:=L0.size;refine⟨by omega,λR=>?_⟩;obtain⟨m,NS,e⟩:=m3.1 R;have h4:=((HV m NS).nds.row.lt q e).2;omega
     have c4:p7 (∀p'∈xs,∀q,p'.2.n.ownBlock=V q->(U HU (Z (MM N ⟨⟨A,BA⟩,U C z B⟩ p)) HR).ownBlock≠V q):=by
      intro p' HF q d he;rcases NV q he with h|h
      .exact((HS.each p' HF).2 q d).2 h
      .have M:w3.heap.size<=q:=h;have h4:=((HS.each p' HF).1.nds.row.lt q d).2;have h3:=L0.size;omega
     have Mo:Ac (o::(U ES (Z N) DT).ownBlock.toList) wr H:=((HC.mono (by simp)).trans hA.kept);have b6:p7 (Gv w H):=ap.trans ((Gv.kept HC).trans (Gv.of hA.kept (λq d=>by
      rcases kZ.1 d with rfl|d
      .obtain⟨a,b,c,M,L⟩:=Z3 MB
       exact⟨a,b,c,M,oi L⟩
      .obtain⟨a,b,c,M,L⟩:=Z9 Op.row (q:=q) (by simpa using d)
       exact⟨a,b,c,M,oj (oi L)⟩)))
     have bp:p7 (Ac [] w0 H):=Go.kept.trans' Mo (λq d=>oj (by
      rcases kZ.1 d with rfl|d
      .exact Go.yU
      .exact(TL q (by simpa using d)).1))
     have H6:∀{b e sz n:Nat} {v:p5} {ys:pM p5},p9 wr b e sz v n ys->e≠139->e≠104->p9 H b e sz v n ys:=fun{b e sz n v ys} S M L=>Ai S Mo (λq d R=>by
      rcases kZ.1 R with rfl|R
      .exact As S HB M d
      .exact Bc S OH.row L q d (by simpa using R))
     have NY:=H6 W1 (by decide) (by decide);rw[Aa M2]at NY;have HL:=Ab NY;have VS:=Ab (H6 H7 (by decide) (by decide));have P0:∀{b sz n:Nat} {v:p5} {ys:pM p5},p9 wr b 104 sz v n ys->(∀q,v.ownBlock=V q->(U ES (Z N) DT).ownBlock≠V q)->p9 H b 104 sz v n ys:=fun{b sz n v ys} S L=>Ai S Mo (λq d R=>by
      rcases kZ.1 R with rfl|R
      .exact As S HB (by decide) d
      .exact L q d (by simpa using R))
     (have VR:p7 (∀m∈y,Lk H m):=λm AO=>(HV m AO).map (λp hp=>H6 (v:=p.tv) hp (by decide) (by decide)) (λS=>P0 S (λq d he=>(TL q he).2 (m3.2 ⟨m,AO,d⟩))));(have d7:p7 (∀p'∈xs,Lk H p'.2):=λp' HF=>(HS.each p' HF).1.map (λp hp=>H6 (v:=p.tv) hp (by decide) (by decide)) (λS=>P0 S (λq d=>((HS.each p' HF).2 q d).2)));have b9:p7 (Lk H ⟨⟨⟨A,BA⟩,U C z B⟩,U Q I P,SB⟩):=by
      have h:=Aa VR _ (kV EY);rw[Aa db,Aa cL,Aa b1]at h;exact h
     have a1:=Ab Nj;have NB:p7 (∀q,(U W G T).ownBlock=V q->q<E/\q∉(U (V ⟨g,0,Y⟩) (Z y) LM).ownBlock.toList):=λq d=>by
      have M:=Aa W1;have L:=Aa HX;rw[Aa M2]at M L;have h3:=(M.lt q d).2;have h4:=Aa cv;exact⟨by omega,L q d⟩
     rw[Aa M2]at H8;obtain⟨FL,QQ⟩:=pN (Z (MM N ⟨⟨A,BA⟩,U C z B⟩ p));have cx:=Ab QQ;have Os:p7 (AF H o [U BT (Z AH) BS,U HU FL HR,U W G T] 139):=by
      rw[QQ]at H8;exact H8
     clear hA HP MB Op X3 Nj HC hcut QR H8 bn NV NL Mo NY QQ H6 P0;have JA:p7 (∀D,AF D E [O A,U C z B,X J u,U Q I P] 176->AF D o [U BT (Z AH) BS,U HU FL HR,U W G T] 139->p8 D ⟨o,2,Y⟩=V (U W G T)/\p8 D ⟨E,0,Y⟩=V (O A)/\p8 D ⟨E,1,Y⟩=V (U C z B)/\p8 D ⟨E,2,Y⟩=V (X J u)/\p8 D ⟨E,3,Y⟩=V (U Q I P)):=by
      intro D hb hc;have h0:=hc.cell 2;simp at h0;exact⟨h0,RO D hb⟩
     have A1:=Ab (JA H.drew a1 Os);refine CH 10 (λD=>p8 D ⟨o,2,Y⟩=V (U W G T)/\p8 D ⟨E,0,Y⟩=V (O A)/\p8 D ⟨E,1,Y⟩=V (U C z B)/\p8 D ⟨E,2,Y⟩=V (X J u)/\p8 D ⟨E,3,Y⟩=V (U Q I P)) (by kernel_rfl) ?_;refine CF.tq (i:=0) (v:=m2 (V ⟨o,0,Y⟩)) rfl (λ_ _ _ h=>h) A1 ?_;simp only[pJ,kR,kT,kU];refine CF.tq (i:=1) (v:=m2 (V ⟨o,0,Y⟩)) rfl (λ_ _ _ h=>h) A1 ?_;simp only[pJ,kR,kT,kU];refine CF.tq (i:=2) (v:=m2 (V ⟨o,0,Y⟩)) rfl (λ_ _ _ h=>h) A1 ?_;simp only[pJ,kR,kT,kU];refine CF.tq (i:=3) (v:=m2 (V ⟨o,2,Y⟩)) rfl (λ_ _ _ h=>h) A1 ?_;simp only[pJ,kR,kT,kU];refine CF.tq (i:=4) (v:=U W G T) rfl (λ_ _ _ h=>h) A1 ?_;simp only[pJ,kR,kT,kU];refine CF.tq (i:=5) (v:=.agg #[O A,U C z B,X J u,U Q I P]) rfl (λ_ _ _ h=>h) A1 ?_;simp only[pJ,kR,kT,kU];refine CF.one (i:=6) (by kernel_rfl) rfl (λEM hK=>?_)
     go_simp
     have SK:AF (H.drew.alloc (j3 #[O A,U C z B,X J u,U Q I P] 176)) E [O A,U C z B,X J u,U Q I P] 176:=AF.alloc (w:=H.drew) a1 _;have N2:AF (H.drew.alloc (j3 #[O A,U C z B,X J u,U Q I P] 176)) o [U BT (Z AH) BS,U HU FL HR,U W G T] 139:=AF.alloc (w:=H.drew) Os _;refine hK.out _ _ (λ_=>JA _ SK N2) ?_;clear hK EM
     try simp only[pJ,kR,kT,kU]
     have NA:p9 H.drew w0.heap.size 176 4 (U W G T) G (xs.flatMap Cc):=HL;have cp:w0.heap.size<=H.heap.size:=bp.size;have e4:=Aa c0;refine CF.one (i:=7) (by kernel_rfl) rfl (λEM hK=>?_);refine oC _ (by rfl) _ _ _ (by rfl) w0.heap.size 176 i0 _ 4 72 underlying137 d0 co d5 c8 rfl (by omega) (U W G T) G (xs.flatMap Cc) (by rfl) (lg NA _)
      ⟨H.drew.heap.size,0,Y⟩ 1 1 [O A,U C z B,X J u,U Q I P] (by rfl) (by rfl) (lI (lP H.drew _)) (by simp[Value.oneCell'])
      (by omega) (by unfold maxLen;omega) (by omega) (by simp;exact Nat.le_succ_of_le cp) (H.heap.size+1) (by simp) ?_
     intro gg Ha u3 N4 LE an d1;have KK:=SK.grown LE (λe=>by have:=(NB E e).1;omega);have E0:=N2.grown LE (As NA Os (by decide));refine hK.out _ _ (λ_=>JA _ KK E0) ?_;clear hK EM
     try simp only[pJ,kR,kT,kU]
     refine CF.one (i:=8) (by kernel_rfl) rfl (λEM hK=>?_)
     go_simp
     refine hK.out _ _ (λ_=>JA _ KK E0) ?_;clear hK EM
     try simp only[pJ,kR,kT,kU]
     refine CF.one (i:=9) (by kernel_rfl) rfl (λEM hK=>?_)
     go_simp
     refine hK.out _ _ (λ_=>JA _ KK E0) ?_;clear hK EM
     try simp only[pJ,kR,kT,kU]
     have VL:=E0.cell 2;have d2:=E0.frozen 2;simp at VL;refine CF.one (i:=10) (by kernel_rfl) rfl (λEM hK=>?_)
     go_simp
     refine hK.out _ _ (λh=>absurd rfl h) ?_;clear hK EM;refine CF.done (by kernel_rfl) ?_ _
     try simp only[pJ,kR,kT,kU]
     have M1:Ac ((U W G T).ownBlock.toList) H u3:=(((pO _ H).drew).alloc (j3 #[O A,U C z B,X J u,U Q I P] 176)).grown LE (λq d=>oi (by rw[d];simp));have NX:Ac [o] u3 (u3.setCell ⟨o,2,Y⟩ (U (V ⟨gg,0,Y⟩) (G+1) Ha)):=(pO [o] u3).setCell (p:=⟨o,2,Y⟩) (oi (by simp)) _;have HT:∀{b e sz n:Nat} {v:p5} {ys:pM p5},p9 H b e sz v n ys->e≠139->(∀q,v.ownBlock=V q->(U W G T).ownBlock≠V q)->p9 (u3.setCell ⟨o,2,Y⟩ (U (V ⟨gg,0,Y⟩) (G+1) Ha)) b e sz v n ys:=fun{b e sz n v ys} S M L=>by
      have h3:=Ai S M1 (λq d R=>L q d (by simpa using R));exact Ag h3 (As h3 E0 M) _
     (have K4:∀m,Lk H m->Lk (u3.setCell ⟨o,2,Y⟩ (U (V ⟨gg,0,Y⟩) (G+1) Ha)) m:=λm h=>h.map (λp hp=>HT (v:=p.tv) hp (by decide) (λq d=>Bc (v1:=p.tv) hp HL (by decide) q d)) (λS=>HT S (by decide) (λq d=>Bc S HL (by decide) q d)));have a0:p7 (ME w0 o (U BT (Z AH) BS) (U (V ⟨g,0,Y⟩) (Z y) LM).ownBlock.toList (y.filterMap λm=>m.n.ownBlock) (((IH r s1).take (j+1)).foldl A3 s1) (B0++(IS.take (j+1)).map (Prod.mk u)) (u3.setCell ⟨o,2,Y⟩ (U (V ⟨gg,0,Y⟩) (G+1) Ha))):=by
      rw[Aa X0,Aa ba,<-mo];refine⟨(bp.trans' M1 (λq d=>oj (HL.lt q (by simpa using d)).1)).trans' NX (λq d=>oj (by simp only[kY]at d;rw[d];exact Go.yU)),Go.yU,HU,HR,MM N ⟨⟨A,BA⟩,U C z B⟩ p,V ⟨gg,0,Y⟩,Ha,xs++[(u,⟨⟨⟨A,BA⟩,U C z B⟩,U Q I P,SB⟩)],?_,⟨?_,λq d=>⟨?_,?_⟩⟩,c1,?_,bx,?_,?_,λp' HF=>?_⟩
      .rw[Aa Nx,Aa cx];exact E0.set 2 _
      .exact HT H3.row (by decide) (λq d=>Bc H3.row HL (by decide) q d)
      .exact HT (v:=q.tv) (H3.each q d).1 (by decide) (λq' dT=>Bc (v1:=q.tv) (H3.each q d).1 HL (by decide) q' dT)
      .exact(H3.each q d).2
      .rw[Aa Nx,lM];exact Ag N4 (As N4 E0 (by decide)) _
      .rw[Aa Nx];intro q d;simp only[pI,ld]at d;subst d;rcases an with h|h
       .exact(NB gg h).2
       .intro R;have M:=(VS.lt gg (by simpa using R)).2;omega
      .have h:=Aa df;simp only[lZ]at h;rw[lV,lV,(Aa HS).eq];simp only[lE,m8,h.1,h.2]
      .rcases lw.1 HF with h|h
       .exact⟨K4 _ (d7 p' h),λq d=>⟨((HS.each p' h).2 q d).1,c4 p' h q d⟩⟩
       .simp only[kY]at h;subst h;exact⟨K4 _ b9,λq d=>⟨(YP q d).1,λhe=>(bx q he).2 (YP q d).2⟩⟩
     have ag:=Ab (HT VS (by decide) (λq d h=>(NB q h).2 (by rw[d];simp)));(have ZV:p7 (∀m∈y,Lk (u3.setCell ⟨o,2,Y⟩ (U (V ⟨gg,0,Y⟩) (G+1) Ha)) m):=λm AO=>K4 m (VR m AO));have bs:p7 (Gv w (u3.setCell ⟨o,2,Y⟩ (U (V ⟨gg,0,Y⟩) (G+1) Ha))):=(b6.trans (Gv.of M1 (λq d=>by
      obtain⟨a,b,c,M,L⟩:=Z9 HL (q:=q) (by simpa using d)
      exact⟨a,b,c,M,oj (oj L)⟩))).trans (Gv.of NX (λq d=>by
      simp only[kY]at d
      rw[d]
      obtain⟨a,b,c,M,L⟩:=Z3 E0
      exact⟨a,b,c,M,oi L⟩))
     generalize u3.setCell ⟨o,2,Y⟩ (U (V ⟨gg,0,Y⟩) (G+1) Ha)=w6 at a0 ag ZV bs⊢;clear N4 LE an d1 KK E0 SK N2 NA VL d2 M1 NX HT K4 A1;refine a2 _ _ ?_;clear a2;go_wp2
     go_roundg (Z y-(j+1))
     case measure=>have:=Aa c7;omega
     case rel=>exact⟨j+1,by go_num,by omega,rfl,a0,ag,ZV,bs⟩
    .have ca:p7 (ME w0 o (U BT (Z AH) BS) [] [] ((IH r s1).foldl A3 s1) (B0++IS.map (Prod.mk u)) wr):=by
      have h:=Aa Go;rw[kX (by omega),kX (by have h:=congrArg List.length (Aa NN);rw[lm]at h;omega)]at h;obtain⟨ES,DT,N,W,T,xs,g1,g2,g3,g4,g5,g6,g7⟩:=h.out;exact⟨h.kept,h.yU,ES,DT,N,W,T,xs,g1,g2,g3,g4,λq d=>⟨(g5 q d).1,by simp⟩,λq d=>by simp,g7⟩
     have b7:p7 (HN (B0++IS.map (Prod.mk u)) ((IH r s1).foldl A3 s1)):=by
      have h:=Aa TV (Z (IH r s1));rw[ni,kX (by have h:=congrArg List.length (Aa NN);rw[lm]at h;omega)]at h;exact h
     go_wp2_with fail
     go_roundg (Z ns-(k+1))
     case measure=>have:=Aa HG;omega
     case rel=>exact⟨k+1,(IH r s1).foldl A3 s1,B0++IS.map (Prod.mk u),by go_num,by omega,rfl,Dk.symm,b7,ca,ap⟩
  .have HE:p7 (s1=(Gc (EN jI) ds s).1):=by
    have h:=Aa TX;rw[kX (by have:=Aa TS;omega)]at h;exact h
   obtain⟨ES,DT,N,W,T,xs,hb,_⟩:=(Aa FW).out;have c2:=hb.cell 2;simp at c2;obtain⟨S1,SP⟩:=pN (Z s1);rw[SP]at c2;have d4:=Ab SP;clear hb SP;go_wp2;go_ret;refine⟨s1,B0,HE,?_,RT,FW,LB⟩;rw[Aa b5,Aa d4]
   first|rfl|(simp;done)|simp
