import Derived.Maps.OwnOps
import Derived.Maps.Views
import Derived.Carry
import Derived.Test.YtoihbhenbmffcaaGreatZAW
set_option linter.all false
set_option maxHeartbeats 0
open List renaming length->Z
open Option renaming none->Y,some->V
open Go.Value renaming slice->U,int->X,string->O,pointer->j2,ownBlock->kF
open Bool renaming false->K
open Go.IntKind renaming i64->J
open Go.Obj renaming cells->jj
open Or renaming inl->kn,inr->kp
open Go renaming World->kq,Value->ks
open Go.RowKit renaming Hid->kt
open Go.World renaming cell?->ku,ownsRow->kw
open Prod renaming fst->kE
open Go.Act renaming put->kG
namespace Go.Proofs.YtoihbhenbmffcaaGreat
open Go.RowKit Go.Proofs.Tryz
variable{s t:zA}{M:kJ Nat}{w v u:kq}{m n k i j b:Nat}{z:ks}{y x:kJ ks}{T:TypeId}{f:kJ Ag}
def R4(x:zA):Lit:=.string x.data.toList
def ZQ(h:R4 s=R4 t):s=t:=by
 unfold R4 at h;simp only[Lit.string.injEq]at h;obtain⟨⟨a⟩⟩:=s;obtain⟨⟨b⟩⟩:=t;simp at h;rw[h]
def WQ(h:s.size<=1000000):keyOf prog 9 (.string s)=some (R4 s):=by
 rw[keyOf_string underlying9];have a:s.size<=maxLen:=by unfold maxLen;omega
 simp[mapKey,underlying9,R4,a]
structure D2(w:World)(mb n:Nat)(L:zA->Nat):Prop where
 at_:∃D:DataW Unit,w.ownsMap prog 9 (plainElem prog 3) mb n D/\Maps.IsMap D/\∀x,D.atKey (R4 x) (.lit (.int .i64 0))=.lit (.int .i64 (L x))
def D2.zS{L:zA->Nat}(h:D2 w m n L)(k:Ac M w v)(b:m∉M):D2 v m n L:=by
 obtain⟨D,⟨f,j,a,d,i,e⟩,g,c⟩:=h.at_;refine⟨D,⟨f,j,?_,d,i,e⟩,g,c⟩;rw[k.block m (gB.1 a).1 b];exact a
def KC(L:zA->Nat)(n:Nat)(x:PL):Nat:=if x.sort=0 then max n (L x.an)else if x.sort=1 then max n (L x.an+1)else n
def GU(L:zA->Nat)(n:Nat)(ls:kJ PL):Nat:=ls.foldl (KC L) n
def Ph(L:zA->Nat):∀(a:kJ BH) (n:Nat),GU L n (a.map L1)=a.foldl (Fx L) n
 |[],n=>rfl
 |x::a,n=>by
  have e:KC L n (L1 x)=Fx L n x:=by
   unfold KC Fx;have d:=Q1 x.kind;have c:=Zk x.kind;have f:(L1 x).sort=Fr x.kind:=rfl;have b:(L1 x).an=x.A.name:=rfl;rw[f,b,<-d,<-c];simp only[iF]
  unfold GU;rw[fS,fZ,fZ,e];exact Ph L a _
def Pz(a b:Nat):max (a:Int) (b:Int)=((max a b:Nat):Int):=by omega
set_option maxRecDepth 100000
theorem OY(v n:Nat)(L:zA->Nat)(Q:Option Addr)(N:Nat)(a:kJ OR)(w:kq)(M:D2 w v n L)(hB:CF w 0 (U Q (Z a) N) a)(FO:Z a<=1000)(T:∀x,L x<=100000)(Ax:∀p∈a,p.1.an.size<=1000000):
  Calls prog 144 #[.map (V v),U Q (Z a) N] w λr w'=>r=.returned (X J (GU L 0 (a.map kE):Nat))/\Ac [] w w':=by
 have FA:=Ab hB;have EX:=Ab M;have EM:=Ab T;have FF:=Ab Ax;obtain⟨R,H⟩:=kK (GU L 0 (a.map kE));have q:kt (GU L 0 ((a.drop 0).map kE)=R):=H;rw[H];clear hB M T Ax H;go_enter func144,ntmps144;go_wp2_with fail
 go_loopg [5,10] (Z a) (λgk o i wr=>∃(k m:Nat),o=X J m/\i=X J k/\k<=Z a/\gk=Z a-k/\m<=200000/\kt (GU L m ((a.drop k).map kE)=R)/\kt (Ac [] w wr))
 case atStart=>exact⟨0,0,rfl,rfl,by omega,rfl,by omega,q,kL _ _⟩
 case round=>
  clear q;obtain⟨k,m,rfl,rfl,hk,S,hm,q,z⟩:=hrel;have C:=Ab S;clear S;by_cases B:k<Z a
  .obtain⟨g,FW,x,AB,W,he,G,_,d0,d1,d2,d3,d4,d5,d6,d7,d8⟩:=Te (FA.kept z) k B;simp only[fg]at he;obtain⟨rfl,_,rfl⟩:=he;(have AH:(x,U AB (Z x.ts) W)∈a:=by rw[<-G];exact fj B);have E:=WQ (FF _ AH);have CC:=Aa EM x.an;have y:kt (GU L (KC L m x) ((a.drop (k+1)).map kE)=R):=by
    have h:=Aa q;rw[fQ B,fS,G]at h;exact h
   have t:=Ab (z.alloc (jj (Aw (x,U AB (Z x.ts) W)).toArray 166));obtain⟨D,A,_,P⟩:=(EX.zS t (by simp)).at_;have u:=Ab (P x.an);have d:kt (KC L m x=if x.sort=0 then max m (L x.an)else if x.sort=1 then max m (L x.an+1)else m):=rfl;clear P G AH q z;generalize KC L m x=LM at d y;obtain⟨f,I⟩:=kK (L x.an);rw[I]at CC u d;clear I;obtain⟨pl,j,ap,an,ts,⟨lv,HI⟩,⟨rv,HA⟩⟩:=x;simp only[Aw]at t A E d u d0 d1 d2 d3 d4 d5 d6 d7 d8;by_cases e:j=0
   ·(have FB:(j==0)=true:=by simp[e]);(have b:kt (LM=max m f):=by show _=_;rw[Aa d,fF e]);clear e d;go_wp2_with (at_lookup;refine wpList_lookup_own_int _ rfl _ _ 216 rfl 9 3 J (Maps.string_keyed underlying9) underlying216 underlying3 (zeroValue3 _) v n D rfl A _ _ rfl E ?_;intro c s F;obtain rfl:c=(f:Int):=(by have h:=s.symm.trans u;simpa using h);clear s F)
    go_roundg (Z a-(k+1))
    case measure=>have:=Aa C;omega
    case rel=>exact⟨k+1,LM,by first|(rw[Aa b,<-Pz];done)|(rw[Aa b,<-Pz];rfl),by go_num,by omega,rfl,by rw[Aa b];omega,y,t⟩
   ·(have FB:(j==0)=K:=by simp[e]);by_cases l:j=1
    ·(have Bx:(j==1)=true:=by simp[l]);(have b:kt (LM=max m (f+1)):=by show _=_;rw[Aa d,fB e,fF l]);(have FP:IntKind.i64.wrap ((f:Int)+1)=(f:Int)+1:=by rw[jn];omega);clear e l d;go_wp2_with (at_lookup;refine wpList_lookup_own_int _ rfl _ _ 216 rfl 9 3 J (Maps.string_keyed underlying9) underlying216 underlying3 (zeroValue3 _) v n D rfl A _ _ rfl E ?_;intro c s F;obtain rfl:c=(f:Int):=(by have h:=s.symm.trans u;simpa using h);clear s F)
     go_roundg (Z a-(k+1))
     case measure=>have:=Aa C;omega
     case rel=>exact⟨k+1,LM,by first|(rw[Aa b,<-Pz];done)|(rw[Aa b,<-Pz];rfl),by go_num,by omega,rfl,by rw[Aa b];omega,y,t⟩
    ·(have Bx:(j==1)=K:=by simp[l]);(have b:kt (LM=m):=by show _=_;rw[Aa d,fB e,fB l]);clear e l d;go_wp2
     go_roundg (Z a-(k+1))
     case measure=>have:=Aa C;omega
     case rel=>exact⟨k+1,LM,by rw[Aa b],by go_num,by omega,rfl,by rw[Aa b];omega,y,t⟩
  .have b:kt (m=R):=by
    have h:=Aa q;rw[gr (by omega)]at h;exact h
   go_wp2;go_ret;rw[Aa b];exact⟨rfl,z⟩
def F2.at{α β:Type}{R:α->β->Prop}:∀{l:kJ α} {m:kJ β},F2 R l m->∀k (c:k<Z l) (d:k<Z m),R l[k] m[k]
 |[],[],_,k,c,_=>by simp at c
 |a::l,b::m,h,0,_,_=>h.1
 |a::l,b::m,h,k+1,c,d=>F2.at (l:=l) (m:=m) h.2 k (by simpa using c) (by simpa using d)
def D2.put{b:World}{c n:Nat}{L:zA->Nat}{D:DataW Unit}{x:zA}{v:Nat}(f:Maps.IsMap D)(d:∀y,D.atKey (R4 y) (.lit (.int .i64 0))=.lit (.int .i64 (L y)))(h:b.ownsMap prog 9 (plainElem prog 3) c n (D.put (R4 x) (.lit (.int .i64 v)))):D2 b c n (ON L x v):=by
 refine⟨_,h,?_,λy=>?_⟩
 .obtain⟨g,i,_,_,_,e⟩:=h;exact⟨_,e⟩
 .by_cases a:y=x
  .subst a;rw[GQ,Maps.atKey_put_same f (by unfold R4;exact trivial)]
  .rw[I0 _ a,Maps.atKey_put_other (λe=>a (ZQ e))];exact d y
def D2.mono{w:kq}{b n a:Nat}{L:zA->Nat}(h:D2 w b n L)(e:n<=a):D2 w b a L:=by
 obtain⟨D,d,c⟩:=h.at_;exact⟨D,d.mono e,c⟩
def Rl:∀(a:kJ AY),D4 a (λ_=>0)=0
 |[]=>rfl
 |c::a=>by
  have e:D4 (c::a) (λ_=>0)=0+D4 a (λ_=>0):=by unfold D4;rw[fS,List.sum_cons]
  rw[e,Rl a]
def Wu(x:zA):(DataW.map []:DataW Unit).atKey (R4 x) (.lit (.int .i64 0))=.lit (.int .i64 0):=by
 first|rfl|(unfold R4;rfl)|simp[DataW.atKey]
def dI(rcs:kJ AY)(zR:zA->Nat)(w:kq)(r:Ending)(w':kq):Prop:=∃(mb n:Nat) (L:zA->Nat),r=.returned (.map (V mb))/\D2 w' mb n L/\Dl rcs L/\(∀x,L x<=zR x)/\w.heap.size<=mb/\Ac [] w w'
theorem MM(H2:Option Addr)(HY:Nat)(f:kJ CB)(d:kJ AY)(w:World)(l:zA->Nat)(hP:Cv w (.slice H2 f.length HY) f)(hC:F2 Qj f d)(Nx:f.length<=1000)(H0:∀c∈f,c.zE.length<=1000)(HH:∀c∈f,c.hn.size<=1000000/\∀p∈c.zE,p.1.an.size<=1000000)(hL:Dl d l)(H3:∀x,l x<=1000)(HQ:D4 d l<=100000):
  Calls prog 123 #[.slice H2 f.length HY] w λr w'=>dI d l w r w':=by
 have H4:=Ab hP;have MN:=Ab hC;have Ix:=Ab H0;have JJ:=Ab HH;have H6:=Ab hL;have M:=Ab H3;have K6:=Ab HQ;have HF:=Ab hC.lenX;have W:Hid (D2 (w.alloc (.map #[] 0)) w.heap.size 0 (λ_=>0)):=⟨.map [],World.ownsMap_made w _ _ _,⟨_,rfl⟩,Wu⟩;have FL:=Ab ((kL [] w).alloc (.map #[] 0));have L0:= @run_makeMap prog;obtain⟨n,Ax⟩:∃n,w.heap.size=n:=⟨_,rfl⟩;have HB:=Ab Ax;clear hP hC H0 HH hL H3 HQ;go_enter func123,ntmps123;go_wp2_with fail
 generalize hw1:w.alloc (.map #[] 0)=w1 at W FL⊢;clear hw1 L0;rw[Ax]at W
 try rw[Ax]
 clear Ax
 go_loopg [4] (D4 d l+2) (λgk rv wr=>∃(R:Bool) (L:zA->Nat),rv=.bool R/\gk=(if R then D4 d l-D4 d L+2 else 1)/\Hid (D2 wr n (D4 d L) L)/\Hid (∀x,L x<=l x)/\Hid (R=false->Dl d L)/\Hid (Ac [] w wr))
 case atStart=>
  refine⟨true,λ_=>0,rfl,?_,W.mono (fP _),λx=>fP _,λh=>(by cases h),FL⟩;rw[fF rfl,Rl,Nat.sub_zero]
 case round=>
  clear W FL;obtain⟨R,L,rfl,H1,u,CC,Mo,s⟩:=hrel;have HG:=Ab H1;clear H1;cases R with
  |false=>
   have IJ:=Ab (Mo rfl);go_wp2;go_ret;exact⟨n,_,L,rfl,u,IJ,CC,by have:=Aa HB;omega,s⟩
  |true=>
   go_wp2_with fail
   go_loopg [4,12] f.length (λNq rv i wq=>∃(k:Nat) (m:Bool) (a:zA->Nat),rv=.bool m/\i=.int .i64 k/\k<=f.length/\Nq=f.length-k/\Hid ((d.take k).foldl Ei (L,false)=(a,m))/\Hid (D2 wq n (D4 d a) a)/\Hid (Ac [] w wq))
   case atStart=>exact⟨0,false,L,rfl,rfl,by omega,rfl,rfl,u,s⟩
   case round=>
    clear u s;obtain⟨k,m,a,rfl,rfl,hk,HN,AH,u,s⟩:=hrel;have HT:=Ab HN;clear HN;have HA:Hid ((∀x,a x<=l x)/\D4 d a<=D4 d l):=by
     have h:=Jf H6 (d.take k) L false (λc hc=>iy hc) CC;rw[Aa AH]at h;exact⟨h.2.1,WN h.2.1⟩
    by_cases BA:k<f.length
    ·(have CW:k<d.length:=by have:=Aa HF;omega);have T:=MN.at k BA CW;obtain⟨g,NL,hp,e,FO,Ha,AB,Q,P,o,he,HJ,d0,d1,d2,d3⟩:=EP (H4.kept s) k BA;simp only[fg]at he;obtain⟨rfl,-,rfl⟩:=he;have N:f[k]∈f:=fj BA;have FB:=H4.each _ N;have EK:=Aa Ix _ N;have G:=Aa JJ _ N;rw[HJ]at T FB EK G;have FF:=Ab (s.alloc (.cells #[.int .i64 hp,.string e,.slice Ha FO.length AB,.slice Q o.length P] 120));have FW:=Ab (u.zS ((kL [] wr).alloc (.cells #[.int .i64 hp,.string e,.slice Ha FO.length AB,.slice Q o.length P] 120)) (by simp));have HL:=Ab (kN wr [.int .i64 hp,.string e,.slice Ha FO.length AB,.slice Q o.length P] 120);have z:=Aa HA;have BT:=Ab (OY n (D4 d a) a Q P o _ FW (FB.body.kept FF (by simp)) EK (λx=>by have:=z.1 x;have:=Aa M x;omega) G.2);have EM:GU a 0 (o.map Prod.fst)=Gy a (Ak d[k]):=by
      have t:=F2.fst T.lits;simp only at t;rw[t,Ph];rfl
     have C:e=d[k].head.name:=T.hn;have H5:Hid ((d.take (k+1)).foldl Ei (L,false)=Ei (a,m) d[k]):=by
      show _=_;rw[fm CW,gM,Aa AH];rfl
     have FA:Hid (Ei (a,m) d[k]=if a e<GU a 0 (o.map Prod.fst)then(ON a e (GU a 0 (o.map Prod.fst)),true)else(a,m)):=by
      show _=_;unfold Ei;rw[EM,C]
     have LL:Hid (∀v,a e<v->D4 d a+1<=D4 d (ON a e v)):=by
      intro v hv;refine bB (λx=>?_) (fj CW) ?_
      .by_cases hx:x=e
       .rw[hx,GQ];omega
       .rw[I0 _ hx];exact fJ _
      .rw[<-C,GQ];exact hv
     have E0:=WQ G.1;have I:=z.1 e;have K3:=Aa M e;(have NE:Hid (a e<=1000):=by show a e<=1000;omega);(have LE:Hid (D4 d a<=100000):=by have:=z.2;have:=Aa K6;show D4 d a<=100000;omega);have HR:Hid (GU a 0 (o.map Prod.fst)<=100000):=by
      have h:=M3 (L:=a) (b:=2000) (Ak d[k]) 0 (by omega) (λx hx=>⟨λ_=>by have:=z.1 x.A.name;have:=Aa M x.A.name;omega,λ_=>by have:=z.1 x.A.name;have:=Aa M x.A.name;omega⟩);rw[EM];have t:Gy a (Ak d[k])<=2000:=h;show Gy a (Ak d[k])<=100000;omega
     clear T FB EK G N HJ z EM C I K3;obtain⟨j,H7⟩:∃j,GU a 0 (o.map Prod.fst)=j:=⟨_,rfl⟩;rw[H7]at BT FA HR;clear H7 s u HA;(go_wp2_with fail);refine BT.mono ?_;rintro _ w3 ⟨rfl,S⟩;have HZ:=Ab (FF.trans S);have B9:=FW.zS S (by simp);have M6:=Ab B9;have Bx:=HL.kept S (by simp);have e0:=Bx.cell 0;have e1:=Bx.cell 1;simp at e0 e1;obtain⟨D,FP,HV,hD⟩:=B9.at_;have LB:=Ab HV;have HD:=Ab hD;obtain⟨y,I⟩:∃y,a e=y:=⟨_,rfl⟩;have E:=Ab I;clear B9 Bx HL FW FF BT S d0 d1 d2 d3 HV hD I;by_cases HC:y<j
     ·(have LS:(y:Int)<(j:Int):=by omega);have M1:plainElem (H:=Unit) prog 3 (.int .i64 (j:Int))=some (.lit (.int .i64 (j:Int)),[]):=plainElem_int underlying3 (by
       have:=Aa HR
       simp[Lit.wf,IntKind.min,IntKind.max,IntKind.signed,IntKind.bits]
       omega)
      (have C:D4 d a<maxLen:=by have:=Aa LE;unfold maxLen;omega);clear HC;go_wp2_with (first
       |(at_lookup;refine wpList_lookup_own_int _ rfl _ _ 216 rfl 9 3 .i64 (Maps.string_keyed underlying9) underlying216 underlying3 (zeroValue3 _) n (D4 d a) D rfl FP _ _ rfl E0 ?_;intro c F FC;obtain rfl:c=(y:Int):=(by have h:=F.symm.trans (HD e);rw[Aa E]at h;simpa using h);clear F FC)
       |(at_mapUpdate;refine wpList_mapUpdate_own _ rfl _ _ _ 216 rfl 9 3 (Maps.string_keyed underlying9) underlying216 _ n (D4 d a) D rfl FP C _ _ (R4 e) rfl rfl E0 _ [] M1 ?_;intro w4 KS Jx))
      have K7:Hid (D2 w4 n (D4 d (ON a e j)) (ON a e j)):=(D2.put LB HD KS).mono (LL j (by have:=Aa E;omega));have MY:Hid (Ac [] w w4):=HZ.grown Jx (λq hq=>Or.inr (by simp only[fu]at hq;have:=Aa HB;omega));have EY:Hid ((d.take (k+1)).foldl Ei (L,false)=(ON a e j,true)):=by show _=_;rw[Aa H5,Aa FA,fF (by have:=Aa E;omega)]
      go_roundg (f.length-(k+1))
      case measure=>have:=Aa HT;omega
      case rel=>exact⟨k+1,true,ON a e j,rfl,by go_num,by omega,rfl,EY,K7,MY⟩
     ·(have LS:¬(y:Int)<(j:Int):=by omega);(have EY:Hid ((d.take (k+1)).foldl Ei (L,false)=(a,m)):=by show _=_;rw[Aa H5,Aa FA,fB (by have:=Aa E;omega)]);clear HC;go_wp2_with (at_lookup;refine wpList_lookup_own_int _ rfl _ _ 216 rfl 9 3 .i64 (Maps.string_keyed underlying9) underlying216 underlying3 (zeroValue3 _) n (D4 d a) D rfl FP _ _ rfl E0 ?_;intro c F FC;obtain rfl:c=(y:Int):=(by have h:=F.symm.trans (HD e);rw[Aa E]at h;simpa using h);clear F FC)
      go_roundg (f.length-(k+1))
      case measure=>have:=Aa HT;omega
      case rel=>exact⟨k+1,m,a,rfl,by go_num,by omega,rfl,EY,M6,HZ⟩
    .have HO:Hid (KO d L=(a,m)):=by
      have h:=Aa AH;rw[fo (by have:=Aa HF;omega)]at h;exact h
     have HI:=Ab (Wi H6 CC);go_wp2_with fail
     go_roundg (if m then D4 d l-D4 d a+2 else 1)
     case measure=>
      have B:=Aa HI;rw[Aa HO]at B;have t:=Aa HG;simp only[if_true]at t;cases m with
      |true=>
       have h3:=B.2.2.1 rfl;have h4:=B.2.2.2;simp only at h3 h4;simp only[if_true];omega
      |false=>
       simp only[fq,if_false];omega
     case rel=>
      refine⟨m,a,rfl,rfl,u,λx=>HA.1 x,λhm=>?_,s⟩;have B:=HI.2.1;rw[Aa HO]at B;obtain⟨t,h3⟩:=B hm;simp only at t;rw[t];exact h3
theorem Tryz.info136:(Tryz.prog.info? 136).map (λi=>(i.zero,i.size,i.bytes))=V (V (U Y 0 0),1,24):=by kernel_rfl
abbrev OP:=kJ Nat×ks
structure DP(w:kq)(base:Nat)(pv:ks)(ps:kJ OP):Prop where
 row:kw w base 136 1 pv (Z ps) (ps.flatMap λp=>[p.2])
 each:∀p∈ps,kw w base 3 1 p.2 (Z p.1) (p.1.flatMap BU)
 apart:ps.Pairwise λa b=>∀q,a.2.ownBlock=V q->b.2.ownBlock≠V q
def DP.kept{w w':kq}{a:kJ OP}(h:DP w n z a)(k:Ac [] w w'):DP w' n z a:=⟨Ad h.row k,λp b=>Ad (h.each p b) k,h.apart⟩
def Yo{a:ks}(h:kw w k 3 1 z n y)(c:kw w i 136 1 a m x)(b:w.grownBy u a.ownBlock):kw u k 3 1 z n y:=
 gY h b (by
  cases hp:z.ownBlock with
  |none=>exact kn rfl
  |some q=>exact kp (λe=>Bg h c (by decide) q hp e.symm))
def Rr{a:kJ OP}(h:DP w n z a)(k:Nat)(i:k<Z a):∃g j f b,z=U (V ⟨g,0,Y⟩) (Z a) j/\a[k].2=U f a[k].1.length b/\ku w ⟨g,k,Y⟩=V (U f a[k].1.length b):=by
 obtain⟨g,j,l,_,m⟩:=AC h.row (λc _=>rfl) k i;have d:=m k i 0 (by omega);obtain⟨f,b,e⟩:=Aj (h.each _ (fj i));simp[e]at d;exact⟨g,j,f,b,l,e,d⟩
structure Hv(f:Nat->Nat)(k:Nat)(ps:kJ OP):Prop where
 lists:∀j (hj:j<Z ps),ps[j].1=(List.range k).filter λi=>f i==j
 top:∀i,i<k->f i<Z ps
 len:Z ps<=1001
def Hv.more{f:Nat->Nat}{a:kJ OP}(h:Hv f k a)(l:Z a<=1000)(v:ks):Hv f k (a++[([],v)]):=by
 refine⟨λj d=>?_,λi b=>by have:=h.top i b;simp;omega,by simp;omega⟩;by_cases c:j<Z a
 .rw[jw c];exact h.lists j c
 .have e:j=Z a:=by simp at d;omega
  subst e;rw[List.getElem_append_right (fJ _)];simp only[Nat.sub_self,jl]
  symm
  rw[jC];intro i b g;have m:=h.top i (List.mem_range.1 b);have:f i=Z a:=by simpa using g
  omega
def Hv.put{f:Nat->Nat}{a:kJ OP}(h:Hv f k a)(b:f k<Z a)(v:ks):Hv f (k+1) (a.set (f k) (a[f k].1++[k],v)):=by
 refine⟨λj c=>?_,λi l=>?_,by rw[iR];exact h.len⟩
 .have d:j<Z a:=by rw[iR]at c;exact c
  rw[List.range_succ,iD,List.getElem_set];split
  .rename_i e;subst e;simp only;rw[h.lists _ b]
   congr 1
   simp
  .rename_i e;rw[h.lists j d];(have:([k].filter λi=>f i==j)=[]:=by simp;exact e);rw[this,gd]
 .rw[iR];by_cases g:i=k
  .rw[g];exact b
  .exact h.top i (by omega)
def Ys(b:kJ OP)(j:Nat)(x:OP):(b.set j x).flatMap (λp=>[p.2])=(b.flatMap λp=>[p.2]).set j x.2:=by
 have e:∀l:kJ OP,l.flatMap (λp=>[p.2])=l.map λp=>p.2:=λl=>by
  induction l with
  |nil=>rfl
  |cons a l ih=>simp[ih]
 rw[e,e,km]
def DP.put{w r z:kq}{g B:Nat}{c:kJ OP}(s:j<Z c){x:OP}(h:DP w m (U (V ⟨g,0,Y⟩) (Z c) B) c)(F:w.grownBy r c[j].2.ownBlock)(N:kw r m 3 1 x.2 (Z x.1) (x.1.flatMap BU))(E:∀q,x.2.ownBlock=V q->c[j].2.ownBlock=V q\/w.heap.size<=q)
  (D:z=r.setCell ⟨g,j,Y⟩ x.2):DP z m (U (V ⟨g,0,Y⟩) (Z c) B) (c.set j x):=by
 have P:=h.each _ (fj s);have G:kw r m 136 1 (U (V ⟨g,0,Y⟩) (Z c) B) (Z c) (c.flatMap λp=>[p.2]):=gY h.row F (kp (λe=>Bg h.row P (by decide) g rfl e.symm));have L:∀i (f:i<Z c),i≠j->kw r m 3 1 c[i].2 c[i].1.length (c[i].1.flatMap BU):=λi f I=>gY (h.each _ (fj f)) F (by
  cases t:c[i].2.ownBlock with
  |none=>exact kn rfl
  |some q=>
   refine kp (λe=>?_)
   have l:=iw.1 h.apart
   rcases Nat.lt_or_gt_of_ne I with d|d
   .exact l i j f s d q t e.symm
   .exact l j i s f d q e.symm t)
 have H:∀{v:ks} {n:Nat} {C:kJ ks},kw r m 3 1 v n C->kw z m 3 1 v n C:=fun{v n C} hv=>by
  rw[D];exact Af hv (λe=>Bg hv G (by decide) g e rfl) _
 refine⟨?_,λp t=>?_,?_⟩
 .rw[iR,Ys,D];exact FK G j x.2
 .obtain⟨i,f,rfl⟩:=gv t;rw[iR]at f;rw[List.getElem_set];split
  .exact H N
  .rename_i e;exact H (L i f (λM=>e M.symm))
 .have l:=iw.1 h.apart;refine iw.2 (λa b y u A q o k=>?_);rw[iR]at y u;rw[List.getElem_set]at o k;split at o
  .rename_i e;subst e;rw[fB (by omega)]at k;rcases E q o with d|d
   .exact l j b s u A q d k
   .have:=((h.each _ (fj u)).lt q k).2;omega
  .split at k
   .rename_i e;subst e;rcases E q k with d|d
    .exact l a j y s A q o d
    .have:=((h.each _ (fj y)).lt q o).2;omega
   .exact l a b y u A q o k
def GD(pcs:kJ CB)(i:Nat):zA:=((pcs[i]?).map CB.hn).getD ByteArray.empty
def Xx(pcs:kJ CB)(rcs:kJ AY)(zR:zA->Nat)(w:kq)(r:Ending)(w':kq):Prop:=∃(ad:Option Addr) (cp:Nat) (ps:kJ OP) (L:zA->Nat),r=.returned (U ad (Z ps) cp)/\DP w' w.heap.size (U ad (Z ps) cp) ps/\Hv (λi=>L (GD pcs i)) (Z pcs) ps/\Dl rcs L/\(∀x,L x<=zR x)/\Ac [] w w'
theorem Wj(HR:Option Addr)(HO:Nat)(m:kJ CB)(AB:kJ AY)(w:kq)(AH:zA->Nat)(hP:Cv w (U HR (Z m) HO) m)(hC:F2 Qj m AB)(LC:Z m<=1000)(KS:∀c∈m,Z c.zE<=1000)(FW:∀c∈m,c.hn.size<=1000000/\∀p∈c.zE,p.1.an.size<=1000000)(hL:Dl AB AH)(HS:∀x,AH x<=1000)(H6:D4 AB AH<=100000):
  Calls prog 88 #[U HR (Z m) HO] w λr w'=>Xx m AB AH w r w':=by
 obtain⟨i0,Pl,MN,RB,N2⟩:=gH Tryz.info136;obtain⟨j0,LS,OH,K8,MY⟩:=gH Tryz.zq;have RV:=Ab hP;have LM:=Ab FW;have M6:=Ab HS;have H8:=Ab (MM HR HO m AB w AH hP hC LC KS FW hL HS H6);obtain⟨z,Ix⟩:=kK w.heap.size;have W:=Ab Ix;clear hP hC KS FW hL HS H6 Ix;go_enter func88,ntmps88;go_wp2_with fail
 refine H8.mono ?_;rintro _ w1 ⟨H,n,L,rfl,hM,JJ,K6,RE,k1⟩;have K5:=Ab hM;have LB:=Ab JJ;have H2:=Ab K6;have HW:=Ab k1;have SB:kt (z<=H):=by have:=Aa W;show z<=H;omega
 clear H8 hM JJ K6 RE k1;go_wp2_with fail
 go_loopg [4,12] (Z m) (λgk pv i wr=>∃(k:Nat) (f:kJ OP) (E:Option Addr) (y:Nat),pv=U E (Z f) y/\i=X J k/\k<=Z m/\gk=Z m-k/\kt (Hv (λi=>L (GD m i)) k f)/\kt (DP wr z (U E (Z f) y) f)/\kt (D2 wr H n L)/\kt (Ac [] w wr))
 case atStart=>exact⟨0,[],Y,0,rfl,rfl,by omega,rfl,⟨λj hj=>by simp at hj,λi hi=>by omega,by simp⟩,⟨fK _ _ _ _,λp P=>by simp at P,List.Pairwise.nil⟩,K5,HW⟩
 case round=>
  clear K5 HW;obtain⟨k,f,E,y,rfl,rfl,hk,K3,S,F,Q,N⟩:=hrel;have HG:=Ab K3;clear K3;by_cases HA:k<Z m
  .obtain⟨g,QQ,P,I,FA,FC,CW,EY,EM,EK,he,Ha,d0,d1,d2,d3⟩:=EP (RV.kept N) k HA;simp only[fg]at he;obtain⟨rfl,-,rfl⟩:=he;have FO:=(LM _ (fj HA)).1;rw[Ha]at FO;have H9:=WQ FO;have NV:kt (GD m k=I):=by
    show _=_;unfold GD;rw[fI HA,Ha];rfl
   (have NL:L I<=1000:=by have:=Aa H2 I;have:=Aa M6 I;omega);have HI:=Ab (N.alloc (jj #[X J P,O I,U FC (Z FA) CW,U EY (Z EK) EM] 120));have FP:=Q.zS ((kL [] wr).alloc (jj #[X J P,O I,U FC (Z FA) CW,U EY (Z EK) EM] 120)) (by simp);have HQ:=Ab FP;have B9:=Ab (F.kept ((kL [] wr).alloc (jj #[X J P,O I,U FC (Z FA) CW,U EY (Z EK) EM] 120)));obtain⟨D,Jx,Op,hD⟩:=FP.at_;have HD:=Ab (hD I);obtain⟨l,HH⟩:=kK (L I);rw[HH]at HD NL;(have Mo:kt (L (GD m k)=l):=by show _=_;rw[Aa NV];exact HH);clear FP Op hD FO Ha HH F Q N;go_wp2_with (at_lookup;refine wpList_lookup_own_int _ rfl _ _ 216 rfl 9 3 J (Maps.string_keyed underlying9) underlying216 underlying3 (zeroValue3 _) H n D rfl Jx _ _ rfl H9 ?_;intro c K2 N4;obtain rfl:c=(l:Int):=(by have h:=K2.symm.trans HD;simpa using h);clear K2 N4)
   clear Jx HD H9 d0 d1 d2 d3;generalize wr.alloc (jj #[X J P,O I,U FC (Z FA) CW,U EY (Z EK) EM] 120)=wa at HI HQ B9⊢
   go_loopg [4] (l+2-Z f) (λRI pv wq=>∃(f:kJ OP) (E:Option Addr) (y:Nat),pv=U E (Z f) y/\RI=l+2-Z f/\kt (Hv (λi=>L (GD m i)) k f)/\kt (DP wq z (U E (Z f) y) f)/\kt (D2 wq H n L)/\kt (Ac [] w wq))
   case atStart=>exact⟨f,E,y,rfl,rfl,S,B9,HQ,HI⟩
   case round=>
    clear S B9 HQ HI;obtain⟨f,E,y,rfl,K4,S,F,Q,N⟩:=hrel;have NY:=Ab K4;clear K4;(have S0:z<=wr.heap.size:=by have:=N.size;have:=Aa W;omega);by_cases SP:Z f<=l
    ·(have NE:(Z f:Int)<=(l:Int):=by omega);have v:=F.row;go_wp2_with (at_builtin;refine fO _ rfl (.tmp 26) (.tmp 27) _ rfl z 136 i0 _ 1 24 underlying185 Pl MN RB N2 rfl (by omega) (U E (Z f) y) (Z f) (f.flatMap λp=>[p.2]) rfl (fw v _) ⟨wr.heap.size,0,Y⟩ 1 1 [U Y 0 0] rfl rfl (fM (fX wr _)) (by simp[Value.oneCell']) (by omega) (by unfold maxLen;omega) (by omega) (by simp;omega) (wr.heap.size+1) (by simp) ?_;intro G C u AT A CL Go)
     have EX:=Ab (S.more (by omega) (U Y 0 0));have AR:kt (DP u z (U (V ⟨G,0,Y⟩) (Z (f++[([],U Y 0 0)])) C) (f++[([],U Y 0 0)])):=by
      refine⟨?_,λp P=>?_,?_⟩
      .rw[fR];simp only[fE,fD,gh,gE,fN,gI,gd];exact AT
      .rcases fA.1 P with h|h
       .exact Yo (fw (F.each p h) _) (fw v _) A
       .simp only[ft]at h;subst h;exact fK _ _ _ _
      .rw[jI];refine⟨F.apart,by simp,λa ha b B q _ s=>?_⟩;simp only[ft]at B;subst B;simp[kF]at s
     have HT:Ac [] w u:=(N.alloc (jj #[U Y 0 0] 136)).grown A (λq s=>kp (by have:=(v.lt q s).1;have:=Aa W;omega));have FF:kt (D2 u H n L):=by
      have FB:=Q.zS ((kL [] wr).alloc (jj #[U Y 0 0] 136)) (by simp);refine FB.zS (M:=(U E (Z f) y).ownBlock.toList) ((kL _ _).grown A (λq s=>kn (by rw[s];simp))) (λT=>?_);obtain⟨D,⟨es,HZ,B,_⟩,_⟩:=FB.at_;rcases(fw v (jj #[U Y 0 0] 136)).2 with⟨e,_⟩|⟨g',c',HY,e,_,Bx,_⟩
      .rw[e]at T;simp[kF]at T
      .rw[e]at T;simp[kF]at T;subst T;rw[Bx]at B;cases B
     have E0:=Ab HT;clear AT A CL Go v HT
     go_roundg (l+2-(Z f+1))
     case measure=>have:=Aa NY;omega
     case rel=>exact⟨f++[([],U Y 0 0)],V ⟨G,0,Y⟩,C,by simp,by simp,EX,AR,FF,E0⟩
    ·(have NE:¬(Z f:Int)<=(l:Int):=by omega);(have R:l<Z f:=by omega);(have SS:(0:Int)<=(l:Int):=by omega);(have ST:(l:Int)<(Z f:Int):=by omega);obtain⟨g,QQ,Ax,CC,he,hv,H3⟩:=Rr F l R;simp only[fg]at he;obtain⟨rfl,-,rfl⟩:=he;have v:=F.each _ (fj R);rw[hv]at v;have HV:=Ab hv;have Os:f[l].1.length<=1000:=by
      rw[(Aa S).lists l R];have:=ib (λi=>L (GD m i)==l) (List.range k);rw[List.length_range]at this;omega
     obtain⟨o,HP⟩:=kK (f[l].1);have P0:=Ab HP;rw[HP]at v Os H3 HV;clear HP hv;have BT:=F.row;have B9:=Ab (F.kept ((kL [] wr).alloc (jj #[X J k] 3)));have NB:kt (∀u:kq,(wr.alloc (jj #[X J k] 3)).grownBy u (U Ax (Z o) CC).ownBlock->kw u z 136 1 (U (V ⟨g,0,Y⟩) (Z f) y) (Z f) (f.flatMap λp=>[p.2])/\u.frozen? ⟨g,l,Y⟩=K/\ku u ⟨g,l,Y⟩=V (U Ax (Z o) CC)):=by
      intro u A;have HJ:kw u z 136 1 (U (V ⟨g,0,Y⟩) (Z f) y) (Z f) (f.flatMap λp=>[p.2]):=gY (fw BT (jj #[X J k] 3)) A (kp (λe=>Bg BT v (by decide) g rfl e.symm));obtain⟨g',SJ,HX,_,M0⟩:=AC HJ (λc _=>rfl) l R;simp only[fg,fu,gi]at HX;obtain⟨⟨rfl,-,-⟩,-,-⟩:=HX;have d:=M0 l R 0 (by omega);simp[Aa HV]at d;exact⟨HJ,HJ.frozenAt l,d⟩
     go_wp2_with (at_builtin;refine fO _ rfl (.tmp 34) (.tmp 36) _ rfl z 3 j0 _ 1 8 underlying136 LS OH K8 MY rfl (by omega) (U Ax (Z o) CC) (Z o) (o.flatMap BU) rfl (fw v _) ⟨wr.heap.size,0,Y⟩ 1 1 [X J k] rfl rfl (fM (fX wr _)) (by simp[Value.oneCell']) (by omega) (by unfold maxLen;omega) (by omega) (by simp;omega) (wr.heap.size+1) (by simp) ?_;intro G C u AT A CL Go;have n9:=Aa NB u A;have f9:=n9.2.1;have c9:=n9.2.2;clear n9)
     have hx:kw u z 3 1 (U (V ⟨G,0,Y⟩) (Z (o++[k])) C) (Z (o++[k])) ((o++[k]).flatMap BU):=by
      rw[fR];simp only[fE,fD,gh,gE,fN,gI,gd];exact AT
     have AR:=Ab (DP.put (x:=(o++[k],U (V ⟨G,0,Y⟩) (Z (o++[k])) C)) R B9 (by rw[Aa HV];exact A) hx (λq s=>by
      simp only[kF,fu]at s
      subst s
      rw[Aa HV]
      rcases CL with h|h
      .exact kn h
      .exact kp (by simp;omega)) rfl)
     have EX:kt (Hv (λi=>L (GD m i)) (k+1) (f.set l (o++[k],U (V ⟨G,0,Y⟩) (Z (o++[k])) C))):=by
      have hf:=Aa Mo;have h:=S.put (by simp only[hf];exact R) (U (V ⟨G,0,Y⟩) (Z (o++[k])) C);simp only[hf]at h;rw[Aa P0]at h;exact h
     have LE:=fw v (jj #[X J k] 3);have H1:∀q,(U Ax (Z o) CC).ownBlock=V q->q≠H:=by
      intro q s e;subst e;obtain⟨D,⟨es,HZ,B,_⟩,_⟩:=Q.at_;rcases v.2 with⟨e,_⟩|⟨g',c',HY,e,_,Bx,_⟩
      .rw[e]at s;simp[kF]at s
      .rw[e]at s;simp[kF]at s;subst s;rw[Bx]at B;cases B
     have NS:g≠H:=by
      intro e;subst e;obtain⟨D,⟨es,HZ,B,_⟩,_⟩:=Q.at_;rcases BT.2 with⟨e,_⟩|⟨g',c',HY,e,_,Bx,_⟩
      .cases e
      .simp only[fg,fu,gi]at e;obtain⟨⟨rfl,-,-⟩,-,-⟩:=e;rw[Bx]at B;cases B
     have FF:kt (D2 (u.setCell ⟨g,l,Y⟩ (U (V ⟨G,0,Y⟩) (Z o+1) C)) H n L):=by
      have FB:=Q.zS ((kL [] wr).alloc (jj #[X J k] 3)) (by simp);have Nx:=FB.zS (M:=(U Ax (Z o) CC).ownBlock.toList) ((kL _ _).grown A (λq s=>kn (by rw[s];simp))) (λT=>H1 H (by simpa using T) rfl);exact Nx.zS (M:=[g]) ((kL [g] u).setCell (p:=⟨g,l,Y⟩) (kn (by simp)) _) (by simp;exact λe=>NS e.symm)
     have E0:=Ab (((N.alloc (jj #[X J k] 3)).grown A (λq s=>kp (by have:=(v.lt q s).1;have:=Aa W;omega))).setCell (p:=⟨g,l,Y⟩) (kp (by have:=(BT.lt g rfl).1;have:=Aa W;simp;omega)) (U (V ⟨G,0,Y⟩) (Z o+1) C));simp only[fE,fD,gh,gE]at AR EX;generalize u.setCell ⟨g,l,Y⟩ (U (V ⟨G,0,Y⟩) (Z o+1) C)=wz at AR FF E0⊢;clear AT A CL Go v BT f9 c9 hx LE H1 H3;go_wp2
     go_roundg (Z m-(k+1))
     case measure=>have:=Aa HG;omega
     case rel=>exact⟨k+1,f.set l (o++[k],U (V ⟨G,0,Y⟩) (Z o+1) C),V ⟨g,0,Y⟩,y,by simp,by go_num,by omega,rfl,EX,by rw[iR];exact AR,FF,E0⟩
  .have Nq:kt (Hv (λi=>L (GD m i)) (Z m) f):=by
    (have e:k=Z m:=by omega);have h:=Aa S;rw[e]at h;exact h
   go_wp2;go_ret;exact⟨E,y,f,L,rfl,by rw[Aa W];exact F,Nq,LB,H2,N⟩
structure FR(w w':kq):Prop where
 size:w.heap.size<=w'.heap.size
 at_:∀(q:Nat) (cs:Array ks) (t:TypeId) (fr:Nat×Nat),w.heap[q]?=V (jj cs t fr)->t≠110->t≠56->t≠220->w'.heap[q]?=V (jj cs t fr)
def FR.refl(w:kq):FR w w:=⟨fJ _,λ_ _ _ _ h _ _ _=>h⟩
def FR.trans(h:FR w v)(k:FR v u):FR w u:=⟨gQ h.size k.size,λq e t i j f d g=>k.at_ q e t i (h.at_ q e t i j f d g) f d g⟩
def FR.of(k:Ac M w v)(g:∀q∈M,∃(c:Array ks) (t:TypeId) (d:Nat×Nat),w.heap[q]?=V (jj c t d)/\(t=110\/t=56\/t=220)):FR w v:=by
 refine⟨k.size,λq c t d a i f l=>?_⟩;rw[k.block q (gB.1 a).1 (λe=>?_)]
 .exact a
 .obtain⟨m,n,o,b,j⟩:=g q e;rw[a]at b;simp only[fu,Obj.cells.injEq]at b;obtain⟨_,rfl,_⟩:=b;rcases j with h|h|h
  .exact i h
  .exact f h
  .exact l h
def FR.kept{w w':kq}(k:Ac [] w w'):FR w w':=FR.of k (λq a=>by simp at a)
def FR.row(h:FR w u){v:ks}(a:kw w m k i v n y)(j:k≠110)(f:k≠56)(q:k≠220):kw u m k i v n y:=by
 refine⟨a.1,?_⟩;rcases a.2 with l|⟨g,c,b,rfl,p,s,t,d,r,o⟩
 .exact kn l
 .exact kp ⟨g,c,b,rfl,p,h.at_ _ _ _ _ s j f q,t,d,r,o⟩
def FR.pf(h:FR w u){p:DF}(a:Dc w p):Dc u p:=FR.row (v:=p.tv) h a (by decide) (by decide) (by decide)
def Xi(h:AF w b y T):∃(c:Array ks) (a:TypeId) (d:Nat×Nat),w.heap[b]?=V (jj c a d)/\a=T:=⟨_,_,_,h,rfl⟩
def Xl(h:kw w m k i z n y){q:Nat}(a:z.ownBlock=V q):∃(d:Array ks) (b:TypeId) (j:Nat×Nat),w.heap[q]?=V (jj d b j)/\b=k:=by
 rcases h.2 with⟨rfl,_⟩|⟨g,c,l,rfl,_,f,_⟩
 .simp[kF]at a
 .simp only[kF,fu]at a;subst a;exact⟨_,_,_,f,rfl⟩
structure Tf(w0:kq)(cb:Nat)(clv:ks)(X:kJ Nat)(s:kJ Ag)(w:kq):Prop where
 kept:Ac [] w0 w
 z2:w0.heap.size<=cb
 out:∃(sad:Option Addr) (scp:Nat) (fs:kJ DF) (tad:Option Addr) (tcp:Nat) (xs:kJ ks),AF w cb [clv,U sad (Z fs) scp,U tad (Z s) tcp] 110/\Iw w (U sad (Z fs) scp) fs/\CG fs s/\
  kw w w0.heap.size 220 4 (U tad (Z s) tcp) (Z s) xs/\(∀q,(U sad (Z fs) scp).ownBlock=V q->w0.heap.size<=q)/\∀q,(U tad (Z s) tcp).ownBlock=V q->q∉X
def Tf.grow(h:Tf v n z M f w)(k:Ac [] w u):Tf v n z M f u:=by
 obtain⟨o,e,l,c,a,i,g,b,m,d,j⟩:=h.out;exact⟨h.kept.trans k,h.z2,o,e,l,c,a,i,g.kept k,b.kept k,m,Ad d k,j⟩
def WG(p:Nat×dr):kJ ks:=Ox p.1 p.2
structure Zh(w:kq)(B:Nat)(kv:ks)(hs:kJ (Nat×GE Ag))(sts:kJ (Nat×dr)):Prop where
 eq:sts.map (λp=>(p.1,p.2.f.f,p.2.ns.map DF.f))=hs.map λh=>(h.1,Bn h.2.head,h.2.pos.map Bn)
 each:∀p∈sts,KD w p.2/\∀q,p.2.n.ownBlock=V q->B<=q/\kv.ownBlock≠V q
def Zh.kept{w w':kq}{B:Nat}{c:ks}{a:kJ (Nat×GE Ag)}{d:kJ (Nat×dr)}(h:Zh w B c a d)(k:Ac [] w w'):Zh w' B c a d:=⟨h.eq,λp b=>⟨(h.each p b).1.kept k,(h.each p b).2⟩⟩
structure Lg(w0:kq)(cb:Nat)(clv:ks)(X Y:kJ Nat)(s:kJ Ag)(hs:kJ (Nat×GE Ag))(w:kq):Prop where
 kept:Ac [] w0 w
 z2:w0.heap.size<=cb
 out:∃(sad:Option Addr) (scp:Nat) (fs:kJ DF) (tad:Option Addr) (tcp:Nat) (sts:kJ (Nat×dr)),AF w cb [clv,U sad (Z fs) scp,U tad (Z s) tcp] 110/\Iw w (U sad (Z fs) scp) fs/\CG fs s/\
  kw w w0.heap.size 220 4 (U tad (Z s) tcp) (Z s) (sts.flatMap WG)/\(∀q,(U sad (Z fs) scp).ownBlock=V q->w0.heap.size<=q/\q∉Y)/\(∀q,(U tad (Z s) tcp).ownBlock=V q->q∉X)/\Zh w w0.heap.size (U sad (Z fs) scp) hs sts
def Lg.cou{a j:kJ Nat}{o:kJ (Nat×GE Ag)}(h:Lg v n z a j f o w):Tf v n z a f w:=by
 obtain⟨t,l,p,g,c,u,k,e,r,i,m,b,_⟩:=h.out;exact⟨h.kept,h.z2,t,l,p,g,c,_,k,e,r,i,λq d=>(m q d).1,b⟩
def Lg.grow{a b:kJ Nat}{c:kJ (Nat×GE Ag)}(h:Lg v n z a b f c w)(k:Ac [] w u):Lg v n z a b f c u:=by
 obtain⟨x,q,r,g,e,l,m,i,t,j,p,d,o⟩:=h.out;exact⟨h.kept.trans k,h.z2,x,q,r,g,e,l,m.kept k,i.kept k,t,Ad j k,p,d,o.kept k⟩
abbrev ee:AY->kJ Ag->UInt8->kJ zA->kJ zA:=λc s=>Kv (Ak c) s
abbrev Hi(r:AY)(s:kJ Ag):kJ Ag:=QE (Kv (Ak r) s) r (Cf r) (C7 r) s
structure Xj(pcs:kJ CB)(J:kJ (Nat×GE Ag)->kJ Ag->Prop)(num:Nat)(r:AY)(hs:kJ (Nat×GE Ag))(s:kJ Ag):Prop where
 lt:num<Z pcs
 cl:Pp (pcs[num]'lt) r s
 nd:(Hi r s).Nodup
 new:∀f∈Hi r s,f∉s/\AQ f/\Z f.args<=1000
 len:Z (Hi r s)<=100000
 mid:∀IS:kJ (GE Ag),IS.map GE.head=Hi r s->(∀i∈IS,∃σ,(∀x∈Ak r,B7 (Br σ) (Ev σ) s x=true)/\i=DL r σ)->∀j,J (hs++(IS.take j).map (Prod.mk num)) (((Hi r s).take j).foldl Ba s)
def R9{l:kJ Ag}(a:j<Z l):(l.take (j+1)).foldl Ba f=Ba ((l.take j).foldl Ba f) l[j]:=by
 rw[fm a,gM];rfl
def ZT{l:kJ Ag}{s:kJ Ag}(t:D5 s)(v:∀f∈s,AQ f)(x:l.Nodup)(h:∀f∈l,f∉s/\AQ f):∀j (c:j<Z l),D5 ((l.take j).foldl Ba s)/\(∀f∈(l.take j).foldl Ba s,AQ f)/\(∀f,f∈(l.take j).foldl Ba s↔f∈s\/f∈l.take j)/\l[j]∉(l.take j).foldl Ba s:=by
 have p:∀j,j<=Z l->D5 ((l.take j).foldl Ba s)/\(∀f∈(l.take j).foldl Ba s,AQ f)/\(∀f,f∈(l.take j).foldl Ba s↔f∈s\/f∈l.take j):=by
  intro j
  induction j with
  |zero=>intro _;exact⟨t,v,λf=>by simp⟩
  |succ j ih=>
   intro c;obtain⟨o,k,d⟩:=ih (by omega);(have g:j<Z l:=by omega);have u:=(h _ (fj g)).2;obtain⟨a,b,m⟩:=C0 u o k;rw[R9 g];refine⟨a,b,λf=>?_⟩;rw[m,d,fm g,fA,ft,or_assoc]
 intro j c;obtain⟨o,k,d⟩:=p j (by omega);refine⟨o,k,d,λq=>?_⟩;rcases(d _).1 q with n|n
 .exact(h _ (fj c)).1 n
 .obtain⟨i,w,e⟩:=gv n;rw[gq]at w;rw[jf]at e;have r:=iw.1 x i j (by omega) c (by omega);exact r e
def aO(f:Ag):Z (Bn f).zC=Z f.args:=by unfold Bn;simp
theorem ZN(HV:kJ (Nat×GE Ag)->kJ Ag->Prop)(w0:kq)(u:Nat)(EM:Option Addr)(EK:Nat)(AR:kJ CB)(co:Option Addr)(ao:Nat)(ns:kJ Nat)(ds:kJ AY)(s:kJ Ag)(hs:kJ (Nat×GE Ag))(w:kq)(hP:Cv w0 (U EM (Z AR) EK) AR)(dc:Z AR<=1000)(hi:Z ns<=1000)
  (hY:kw w 0 3 1 (U co (Z ns) ao) (Z ns) (ns.flatMap BU)) (hC:Lg w0 u (U EM (Z AR) EK) [] [] s hs w) (hJ:HV hs s) (a3:∀hs s,HV hs s->D5 s/\(∀f∈s,AQ f)/\Z s<=9000)
  (ab:∀hs s,HV hs s->F2 (λy r=>Xj AR HV y r hs s) ns ds):
  Calls prog 89 #[j2 (V ⟨u,0,Y⟩),U co (Z ns) ao] w λr w'=>∃s' bz,s'=(Fv (Ek ee) ds s).1/\r=.returned (.bool (decide (Z s<Z s')))/\HV bz s'/\Lg w0 u (U EM (Z AR) EK) [] [] s' bz w'/\FR w w':=by
 obtain⟨i0,fk,d6,f1,e4⟩:=gH Tryz.info220;have c9:=Ab hP;have d8:=Ab hY;have ar:=Ab hC;have HJ:=Ab hJ;have bt:=Ab a3;have f5:=Ab ab;have af:kt (Z ns=Z ds):=(ab hs s hJ).lenX;obtain⟨gj,ge,gx,gz,ga,hl,bd,_⟩:=hC.out;have c2:=bd.cell 2;simp at c2;obtain⟨S0,TT⟩:=kK (Z s);have df:=Ab TT;rw[TT]at c2;clear hP hY hC hJ a3 ab bd TT;go_enter func89,ntmps89;go_wp2_with fail
 clear c2
 go_loopg [17] (Z ns) (λgk i wr=>∃(k:Nat) (o:kJ Ag) (EX:kJ (Nat×GE Ag)),i=X J k/\k<=Z ns/\gk=Z ns-k/\kt (o=((ds.take k).foldl (Ja (Ek ee)) (s,K)).1)/\kt (HV EX o)/\kt (Lg w0 u (U EM (Z AR) EK) [] [] o EX wr)/\kt (FR w wr))
 case atStart=>exact⟨0,s,hs,rfl,by omega,rfl,rfl,HJ,ar,FR.refl _⟩
 case round=>
  clear ar HJ;obtain⟨k,o,EX,rfl,hk,c3,al,W1,HI,M1⟩:=hrel;have HG:=Ab c3;clear c3;by_cases a1:k<Z ns
  ·(have cf:k<Z ds:=by have:=Aa af;omega);have HR:=(f5 EX o W1).at k a1 cf;obtain⟨yg,g8,he,c6⟩:=Xm (M1.row d8 (by decide) (by decide) (by decide)) k a1;simp only[fg]at he;obtain⟨rfl,-,rfl⟩:=he;obtain⟨y,c7⟩:=kK (ns[k]);rw[c7]at c6 HR;obtain⟨r,T⟩:=kK (ds[k]);rw[T]at HR;have f9:kt (((ds.take (k+1)).foldl (Ja (Ek ee)) (s,K)).1=(Hi r o).foldl Ba o):=by
    show _=_;rw[fm cf,gM,T];have h:=Aa al;rw[fZ,List.foldl_nil];generalize(ds.take k).foldl (Ja (Ek ee)) (s,K)=acc at h⊢;rw[h];rfl
   clear c7 T;obtain⟨FO,FB,P,Ax,W,xs,hb,HS,HW,H5,H8,hX,K6⟩:=(Aa HI).out;have cy:=Ab (SM u y EM EK AR FO FB P (U Ax (Z o) W) r o wr HR.lt dc hb (by exact(Aa c9).kept (Aa HI).kept) HS HW HR.cl HR.len);have HQ:=Ab HR;(have g0:(0:Int)<=(k:Int):=by omega);(have gf:(k:Int)<(Z ns:Int):=by omega);have bv:kt (∀w2 nv nn an (z:kJ dr),Ac [] wr w2->kw w2 wr.heap.size 220 4 nv nn an->(∀m∈z,KD w2 m/\aZ wr.heap.size r o m)->Lg w0 u (U EM (Z AR) EK) nv.ownBlock.toList (z.filterMap λm=>m.n.ownBlock) o EX w2):=λw2 nv nn an z k2 hn AT=>⟨(Aa HI).kept.trans k2,(Aa HI).z2,FO,FB,P,Ax,W,xs,hb.kept k2,HS.kept k2,HW,Ad H5 k2,λq d=>⟨(H8 q d).1,λS=>by
    obtain⟨m,RO,e⟩:=ig.1 S
    have N:=(HS.row.lt q d).2
    have M:=(AT m RO).2.1 q e
    omega⟩,λq d S=>by
    have N:=(H5.lt q d).2
    have M:=(hn.lt q (by simpa using S)).1
    omega,K6.kept k2⟩
   clear HR hb HS HW H5 H8 hX K6;(go_wp2_with fail);refine cy.mono ?_;rintro _ w2 ⟨cv,NA,z,rfl,M6,Pl,LC,k2⟩;have a9:=Ab (M1.trans (FR.kept k2));have f8:=Ab M6;have K2:=Ab (Al Pl (fP _));(have H4:kt (∀m∈z,KD w2 m):=λm AT=>(LC m AT).1);(have f2:kt (∀m∈z,∀q,m.n.ownBlock=V q->w0.heap.size<=q):=λm AT q d=>gQ HI.kept.size ((LC m AT).2.1 q d));obtain⟨IS,WS,cr,b1⟩:=Sb z (Hi r o) M6 (λf hf=>(HQ.new f hf).2.1) (λm AT=>(LC m AT).2);have RI:=Ab WS;have e7:=Ab b1;have ag:=Ab (HQ.mid IS WS cr);clear WS cr b1;(have gw:Z z=Z (Hi r o):=by have:=congrArg List.length M6;simpa using this);have br:=Ab (bv w2 _ _ _ z k2 Pl LC);have gp:=HQ.len;clear cy M6 Pl LC HI M1 bv c6 k2;go_wp2_with fail
   go_loopg [25] (Z z) (λf6 i wq=>∃(j:Nat),i=X J j/\j<=Z z/\f6=Z z-j/\kt (Lg w0 u (U EM (Z AR) EK) (U cv (Z z) NA).ownBlock.toList (z.filterMap λm=>m.n.ownBlock) (((Hi r o).take j).foldl Ba o) (EX++(IS.take j).map (Prod.mk y)) wq)/\kt (kw wq 0 220 4 (U cv (Z z) NA) (Z z) (z.flatMap (Ox y)))/\kt (∀m∈z,KD wq m)/\kt (FR w wq))
   case atStart=>exact⟨0,rfl,by omega,rfl,(by simpa using br),K2,H4,a9⟩
   case round=>
    clear br K2 H4 a9;obtain⟨j,rfl,hj,a8,HK,K2,H4,b2⟩:=hrel;have eT:=Ab a8;clear a8;by_cases FT:j<Z z
    ·(have L0:j<Z (Hi r o):=by omega);obtain⟨g,hg,he,_,KK⟩:=AC K2 (λc _=>rfl) j FT;simp only[fg]at he;obtain⟨rfl,-,rfl⟩:=he;have e0:=KK j FT 0 (by omega);have e1:=KK j FT 1 (by omega);have e2:=KK j FT 2 (by omega);have e3:=KK j FT 3 (by omega);obtain⟨MY,WB,Ix,R,Q,hn⟩:=H4 _ (fj FT);(have K8:∀q,z[j].n.ownBlock=V q->w0.heap.size<=q/\q∈z.filterMap λm=>m.n.ownBlock:=λq d=>⟨f2 _ (fj FT) q d,ig.2 ⟨_,fj FT,d⟩⟩);(have a4:j<Z IS:=by have h:=congrArg List.length RI;rw[fH]at h;omega);(have cx:kt ((IS.take (j+1)).map (Prod.mk y)=(IS.take j).map (Prod.mk y)++[(y,IS[j])]):=by show _=_;rw[fm a4,gn];rfl);have K4:(z[j].f.f,z[j].ns.map DF.f)=(Bn IS[j].head,IS[j].pos.map Bn):=by
      have h:=congrArg (λl=>l[j]?) e7;simp only[io,fI FT,fI a4,im,fu]at h;exact h
     obtain⟨IJ,bs⟩:=kK (IS[j]);rw[bs]at cx K4;clear bs;have LD:z[j].f.f=Bn (Hi r o)[j]:=by
      have h:=congrArg (λl=>l[j]?) f8;simp only[io,fI FT,fI L0,im,fu]at h;exact h
     obtain⟨⟨⟨⟨B,CW⟩,fv⟩,nv,W3⟩,AT⟩:∃m,z[j]=m:=⟨_,rfl⟩;rw[AT]at e0 e1 e2 e3 MY WB hn LD Ix K8 K4;have e6:=Ab AT;obtain⟨D,C,c0⟩:=Aj MY;simp only at c0 hn WB LD Ix K8 K4;subst c0 hn;obtain⟨L,ZV⟩:=kK (Z W3);rw[ZV]at e0 e1 e2 e3 Ix K8;have em:=Ab ZV;have ha:=Ab Ix;have bn:=Ab K8;have e8:=Ab K4;clear ZV Ix K8 K4;obtain⟨A,TX⟩:=kK (Z CW);simp[Ox,TX]at e0 e1 e2 e3;obtain⟨F,hF⟩:=kK ((Hi r o)[j]);rw[hF]at LD;have c4:=HQ.new F (by rw[<-hF];exact fj L0);have W2:=Aa bt EX o W1;have NS:=ZT W2.1 W2.2.1 HQ.nd (λf hf=>⟨(HQ.new f hf).1,(HQ.new f hf).2.1⟩) j L0;rw[hF]at NS;(have ba:kt (((Hi r o).take (j+1)).foldl Ba o=Ba (((Hi r o).take j).foldl Ba o) F):=by show _=_;rw[R9 L0,hF]);have MB:=Aa bt _ _ (ag j);obtain⟨SJ,ap⟩:=kK (((Hi r o).take j).foldl Ba o);rw[ap]at HK NS ba MB;have a5:=Ab NS;have H9:=Ab LD;have eB:=Ab MY;have UO:=Ab c4;have c8:=Ab TX;obtain⟨FO,FB,P,Ax,W,xs,hb,HS,HW,H5,H8,hX,K6⟩:=(Aa HK).out;have d5:=HW.len;have HB:=Ab hb;have TV:=Ab HS;have SS:=Ab HW;have a6:=Ab H5;have ad:=Ab H8;have HX:=Ab hX;have H1:=Ab K6;(have ht:(0:Int)<=(j:Int):=by omega);(have gb:(j:Int)<(Z z:Int):=by omega);obtain⟨H,b3⟩:=kK (Z SJ);have N2:=Ab b3;(have er:kt (H<=9000):=by show H<=9000;have:=MB.2.2;omega);(have ek:kt (Z P<=9000):=by show Z P<=9000;have:=MB.2.2;omega);have NV:=Ab (kN wr [O B,U D A C,X J y,U R L Q] 220);have NE:=Ab ((kL [] wr).alloc (jj [O B,U D A C,X J y,U R L Q].toArray 220));clear hb HS HW H5 H8 hX K6 NS c4 W2 hF LD MY AT KK ap MB d5 TX WB b3;refine kI (λK1 FA=>?_);go_wp2;refine FA _ _ ?_;clear FA K1;refine kI (λK1 FA=>?_);go_wp2;refine FA _ _ ?_;clear FA K1;refine kI (λK5 b9=>?_);refine wp_block ?_;refine kI (λK1 FA=>?_);go_wp2;refine FA _ _ ?_;clear FA K1 e0 e1 e2 e3;change Code.wp _ _ _ _ (wr.alloc (jj [O B,U D A C,X J y,U R L Q].toArray 220));generalize hw3:wr.alloc (jj [O B,U D A C,X J y,U R L Q].toArray 220)=w3 at NV NE⊢;clear hw3;obtain⟨G,aa⟩:=kK wr.heap.size;have ea:=Ab aa;rw[aa]at NV⊢;clear aa;have W0:kt (∀E,AF E G [O B,U D A C,X J y,U R L Q] 220->ku E ⟨G,0,Y⟩=V (O B)/\ku E ⟨G,1,Y⟩=V (U D A C)/\ku E ⟨G,2,Y⟩=V (X J y)/\ku E ⟨G,3,Y⟩=V (U R L Q)):=by
      intro E hb;have h0:=hb.cell 0;have N:=hb.cell 1;have M:=hb.cell 2;have h3:=hb.cell 3;simp at h0 N M h3;exact⟨h0,N,M,h3⟩
     have BT:=Ab (W0 w3.drew NV);refine kI (λK1 FA=>?_);refine Cn 6 (λE=>ku E ⟨G,0,Y⟩=V (O B)/\ku E ⟨G,1,Y⟩=V (U D A C)/\ku E ⟨G,2,Y⟩=V (X J y)/\ku E ⟨G,3,Y⟩=V (U R L Q)) (by kernel_rfl) ?_;refine Ci.tqH (i:=0) (v:=j2 (V ⟨u,0,Y⟩)) rfl (λ_ _ _ h=>h) BT ?_;simp only[kG,ff,fh,fi];refine Ci.tqH (i:=1) (v:=j2 (V ⟨u,0,Y⟩)) rfl (λ_ _ _ h=>h) BT ?_;simp only[kG,ff,fh,fi];refine Ci.tqH (i:=2) (v:=j2 (V ⟨u,1,Y⟩)) rfl (λ_ _ _ h=>h) BT ?_;simp only[kG,ff,fh,fi];refine Ci.tqH (i:=3) (v:=j2 (V ⟨G,0,Y⟩)) rfl (λ_ _ _ h=>h) BT ?_;simp only[kG,ff,fh,fi];refine Ci.tqH (i:=4) (v:=.agg #[O B,U D A C]) rfl (λ_ _ _ h=>h) BT ?_;simp only[kG,ff,fh,fi];refine Ci.one (i:=5) (by kernel_rfl) rfl (λFF hK=>?_)
     go_simp
     have HN:Ac [] wr w3.drew:=NE.drew;have Op:=Ab (UU u 1 [U EM (Z AR) EK,U FO (Z P) FB,U Ax (Z SJ) W] 110 FO FB P ⟨⟨B,CW⟩,U D (Z CW) C⟩ w3.drew (HB.kept HN) rfl (by decide) (by decide) (TV.kept HN) (eB.kept HN) (by show Z CW<=1000;have h:=congrArg (λp=>Z p.zC) H9;simp only[aO]at h;have:=UO.2.2;omega) (by have:=Aa ek;omega) (SS.mono _));simp only[AI]at Op;rw[Aa c8]at Op;refine Op.mono ?_;rintro _ I ⟨rfl,hA⟩;have HY:AF w3.drew G [O B,U D A C,X J y,U R L Q] 220:=NV;have NM:=HB.kept HN;have TL:=TV.kept HN;have bl:G∉u::(U FO (Z P) FB).ownBlock.toList:=by
      intro S;rcases fx.1 S with h|h
      .rw[h]at HY;unfold AF at HY NM;rw[NM]at HY;simp at HY
      .exact As TL.row HY (by decide) (by simpa using h)
     have OH:=HY.kept hA.kept bl;refine hK.out _ _ (λ_=>W0 _ OH) ?_;clear hK FF;refine Ci.done (by kernel_rfl) ?_ _
     try simp only[kG,ff,fh,fi]
     refine FA _ _ ?_;clear FA K1 BT Op;obtain⟨p,H3,H0,hcut,K3,cL,RV⟩:=hA.out;simp only[fi,fh]at K3;have Wa:Eu P (Bn F) p:=by
      have h:=hcut;simp only at h;rw[Aa H9]at h;exact h
     have RB:CY P ⟨B,CW⟩ p=K:=by
      rw[Aa H9,(Aa SS).zh (Aa UO).2.1 Wa];cases hh:DI SJ F with
      |false=>rfl
      |true=>exact absurd ((C5 _ _).1 hh) a5.2.2.2
     have es:kt (CG (MG P ⟨⟨B,CW⟩,U D A C⟩ p) (Ba SJ F)):=by
      have h:=SS.zn (x:=⟨⟨B,CW⟩,U D A C⟩) H9 UO.2.1 Wa (by rw[<-Aa H9];exact RB);unfold MG;simp only[RB,fq,if_false];exact h
     (have PT:kt (Z (Ba SJ F)=H+1):=by show _=_;rw[(J8 SJ F).2 (Aa a5).2.2.2,Aa N2]);have Jx:=Ab cL;have c5:kt (∀q,(U H3 (Z (MG P ⟨⟨B,CW⟩,U D A C⟩ p)) H0).ownBlock=V q->w0.heap.size<=q/\q∉z.filterMap λm=>m.n.ownBlock):=by
      intro q d;rcases RV q d with h|h
      .exact ad q h
      .have N:w3.heap.size<=q:=h;have M:=HK.kept.size;have h3:=NE.size;refine⟨by omega,λS=>?_⟩;obtain⟨m,RO,e⟩:=ig.1 S;have h4:=((H4 m RO).nds.row.lt q e).2;omega
     have ew:kt (∀p'∈xs,∀q,p'.2.n.ownBlock=V q->(U H3 (Z (MG P ⟨⟨B,CW⟩,U D A C⟩ p)) H0).ownBlock≠V q):=by
      intro p' HP q d he;rcases RV q he with h|h
      .exact((H1.each p' HP).2 q d).2 h
      .have N:w3.heap.size<=q:=h;have h4:=((H1.each p' HP).1.nds.row.lt q d).2;have h3:=NE.size;omega
     have NL:Ac (u::(U FO (Z P) FB).ownBlock.toList) wr I:=((HN.mono (by simp)).trans hA.kept);have dT:kt (FR w I):=b2.trans ((FR.kept HN).trans (FR.of hA.kept (λq d=>by
      rcases fx.1 d with rfl|d
      .obtain⟨a,b,c,N,M⟩:=Xi NM
       exact⟨a,b,c,N,kn M⟩
      .obtain⟨a,b,c,N,M⟩:=Xl TL.row (q:=q) (by simpa using d)
       exact⟨a,b,c,N,kp (kn M)⟩)))
     have cR:kt (Ac [] w0 I):=HK.kept.trans' NL (λq d=>kp (by
      rcases fx.1 d with rfl|d
      .exact HK.z2
      .exact(ad q (by simpa using d)).1))
     have KS:∀{b e sz n:Nat} {v:ks} {ys:kJ ks},kw wr b e sz v n ys->e≠110->e≠56->kw I b e sz v n ys:=fun{b e sz n v ys} T N M=>Am T NL (λq d S=>by
      rcases fx.1 S with rfl|S
      .exact As T HB N d
      .exact Bg T TV.row M q d (by simpa using S))
     have SP:=KS a6 (by decide) (by decide);rw[Aa N2]at SP;have HT:=Ab SP;have a0:=Ab (KS K2 (by decide) (by decide));have VL:∀{b sz n:Nat} {v:ks} {ys:kJ ks},kw wr b 56 sz v n ys->(∀q,v.ownBlock=V q->(U FO (Z P) FB).ownBlock≠V q)->kw I b 56 sz v n ys:=fun{b sz n v ys} T M=>Am T NL (λq d S=>by
      rcases fx.1 S with rfl|S
      .exact As T HB (by decide) d
      .exact M q d (by simpa using S))
     (have aT:kt (∀m∈z,KD I m):=λm AT=>(H4 m AT).map (λp hp=>KS (v:=p.tv) hp (by decide) (by decide)) (λT=>VL T (λq d he=>(ad q he).2 (ig.2 ⟨m,AT,d⟩))));(have f3:kt (∀p'∈xs,KD I p'.2):=λp' HP=>(H1.each p' HP).1.map (λp hp=>KS (v:=p.tv) hp (by decide) (by decide)) (λT=>VL T (λq d=>((H1.each p' HP).2 q d).2)));have d1:kt (KD I ⟨⟨⟨B,CW⟩,U D A C⟩,U R L Q,W3⟩):=by
      have h:=Aa aT _ (fj FT);rw[Aa e6,Aa em,Aa c8]at h;exact h
     have b7:=Ab OH;have QQ:kt (∀q,(U Ax H W).ownBlock=V q->q<G/\q∉(U (V ⟨g,0,Y⟩) (Z z) NA).ownBlock.toList):=λq d=>by
      have N:=Aa a6;have M:=Aa HX;rw[Aa N2]at N M;have h3:=(N.lt q d).2;have h4:=Aa ea;exact⟨by omega,M q d⟩
     rw[Aa N2]at K3;obtain⟨FL,VR⟩:=kK (Z (MG P ⟨⟨B,CW⟩,U D A C⟩ p));have eb:=Ab VR;have TS:kt (AF I u [U EM (Z AR) EK,U H3 FL H0,U Ax H W] 110):=by
      rw[VR]at K3;exact K3
     clear hA HY NM TL bl OH HN hcut Wa K3 cL RV RB NL SP VR KS VL;have K9:kt (∀E,AF E G [O B,U D A C,X J y,U R L Q] 220->AF E u [U EM (Z AR) EK,U H3 FL H0,U Ax H W] 110->ku E ⟨u,2,Y⟩=V (U Ax H W)/\ku E ⟨G,0,Y⟩=V (O B)/\ku E ⟨G,1,Y⟩=V (U D A C)/\ku E ⟨G,2,Y⟩=V (X J y)/\ku E ⟨G,3,Y⟩=V (U R L Q)):=by
      intro E hb hc;have h0:=hc.cell 2;simp at h0;exact⟨h0,W0 E hb⟩
     have BT:=Ab (K9 I.drew b7 TS);refine Cn 10 (λE=>ku E ⟨u,2,Y⟩=V (U Ax H W)/\ku E ⟨G,0,Y⟩=V (O B)/\ku E ⟨G,1,Y⟩=V (U D A C)/\ku E ⟨G,2,Y⟩=V (X J y)/\ku E ⟨G,3,Y⟩=V (U R L Q)) (by kernel_rfl) ?_;refine Ci.tq (i:=0) (v:=j2 (V ⟨u,0,Y⟩)) rfl (λ_ _ _ h=>h) BT ?_;simp only[kG,ff,fh,fi];refine Ci.tq (i:=1) (v:=j2 (V ⟨u,0,Y⟩)) rfl (λ_ _ _ h=>h) BT ?_;simp only[kG,ff,fh,fi];refine Ci.tq (i:=2) (v:=j2 (V ⟨u,0,Y⟩)) rfl (λ_ _ _ h=>h) BT ?_;simp only[kG,ff,fh,fi];refine Ci.tq (i:=3) (v:=j2 (V ⟨u,2,Y⟩)) rfl (λ_ _ _ h=>h) BT ?_;simp only[kG,ff,fh,fi];refine Ci.tq (i:=4) (v:=U Ax H W) rfl (λ_ _ _ h=>h) BT ?_;simp only[kG,ff,fh,fi];refine Ci.tq (i:=5) (v:=.agg #[O B,U D A C,X J y,U R L Q]) rfl (λ_ _ _ h=>h) BT ?_;simp only[kG,ff,fh,fi];refine Ci.one (i:=6) (by kernel_rfl) rfl (λFF hK=>?_)
     go_simp
     have XS:AF (I.drew.alloc (jj #[O B,U D A C,X J y,U R L Q] 220)) G [O B,U D A C,X J y,U R L Q] 220:=AF.alloc (w:=I.drew) b7 _;have ST:AF (I.drew.alloc (jj #[O B,U D A C,X J y,U R L Q] 220)) u [U EM (Z AR) EK,U H3 FL H0,U Ax H W] 110:=AF.alloc (w:=I.drew) TS _;refine hK.out _ _ (λ_=>K9 _ XS ST) ?_;clear hK FF
     try simp only[kG,ff,fh,fi]
     have P0:kw I.drew w0.heap.size 220 4 (U Ax H W) H (xs.flatMap WG):=HT;have d7:w0.heap.size<=I.heap.size:=cR.size;have gy:=Aa er;refine Ci.one (i:=7) (by kernel_rfl) rfl (λFF hK=>?_);refine iU _ (by rfl) _ _ _ (by rfl) w0.heap.size 220 i0 _ 4 72 underlying108 fk d6 f1 e4 rfl (by omega) (U Ax H W) H (xs.flatMap WG) (by rfl) (fw P0 _)
      ⟨I.drew.heap.size,0,Y⟩ 1 1 [O B,U D A C,X J y,U R L Q] (by rfl) (by rfl) (fM (fX I.drew _)) (by simp[Value.oneCell'])
      (by omega) (by unfold maxLen;omega) (by omega) (by simp;exact Nat.le_succ_of_le d7) (I.heap.size+1) (by simp) ?_
     intro gg HL u3 TH Nq b0 fp;have LL:=XS.grown Nq (λe=>by have:=(QQ G e).1;omega);have FW:=ST.grown Nq (As P0 TS (by decide));refine hK.out _ _ (λ_=>K9 _ LL FW) ?_;clear hK FF
     try simp only[kG,ff,fh,fi]
     refine Ci.one (i:=8) (by kernel_rfl) rfl (λFF hK=>?_)
     go_simp
     refine hK.out _ _ (λ_=>K9 _ LL FW) ?_;clear hK FF
     try simp only[kG,ff,fh,fi]
     refine Ci.one (i:=9) (by kernel_rfl) rfl (λFF hK=>?_)
     go_simp
     refine hK.out _ _ (λ_=>K9 _ LL FW) ?_;clear hK FF
     try simp only[kG,ff,fh,fi]
     have av:=FW.cell 2;have fy:=FW.frozen 2;simp at av;refine Ci.one (i:=10) (by kernel_rfl) rfl (λFF hK=>?_)
     go_simp
     refine hK.out _ _ (λh=>absurd rfl h) ?_;clear hK FF;refine Ci.done (by kernel_rfl) ?_ _
     try simp only[kG,ff,fh,fi]
     have NY:Ac ((U Ax H W).ownBlock.toList) I u3:=(((kL _ I).drew).alloc (jj #[O B,U D A C,X J y,U R L Q] 220)).grown Nq (λq d=>kn (by rw[d];simp));have SB:Ac [u] u3 (u3.setCell ⟨u,2,Y⟩ (U (V ⟨gg,0,Y⟩) (H+1) HL)):=(kL [u] u3).setCell (p:=⟨u,2,Y⟩) (kn (by simp)) _;have H2:∀{b e sz n:Nat} {v:ks} {ys:kJ ks},kw I b e sz v n ys->e≠110->(∀q,v.ownBlock=V q->(U Ax H W).ownBlock≠V q)->kw (u3.setCell ⟨u,2,Y⟩ (U (V ⟨gg,0,Y⟩) (H+1) HL)) b e sz v n ys:=fun{b e sz n v ys} T N M=>by
      have h3:=Am T NY (λq d S=>M q d (by simpa using S));exact Af h3 (As h3 FW N) _
     (have Mo:∀m,KD I m->KD (u3.setCell ⟨u,2,Y⟩ (U (V ⟨gg,0,Y⟩) (H+1) HL)) m:=λm h=>h.map (λp hp=>H2 (v:=p.tv) hp (by decide) (λq d=>Bg (v1:=p.tv) hp HT (by decide) q d)) (λT=>H2 T (by decide) (λq d=>Bg T HT (by decide) q d)));have b6:kt (Lg w0 u (U EM (Z AR) EK) (U (V ⟨g,0,Y⟩) (Z z) NA).ownBlock.toList (z.filterMap λm=>m.n.ownBlock) (((Hi r o).take (j+1)).foldl Ba o) (EX++(IS.take (j+1)).map (Prod.mk y)) (u3.setCell ⟨u,2,Y⟩ (U (V ⟨gg,0,Y⟩) (H+1) HL))):=by
      rw[Aa ba,Aa cx,<-gF];refine⟨(cR.trans' NY (λq d=>kp (HT.lt q (by simpa using d)).1)).trans' SB (λq d=>kp (by simp only[ft]at d;rw[d];exact HK.z2)),HK.z2,H3,H0,MG P ⟨⟨B,CW⟩,U D A C⟩ p,V ⟨gg,0,Y⟩,HL,xs++[(y,⟨⟨⟨B,CW⟩,U D A C⟩,U R L Q,W3⟩)],?_,⟨?_,λq d=>⟨?_,?_⟩⟩,es,?_,c5,?_,?_,λp' HP=>?_⟩
      .rw[Aa PT,Aa eb];exact FW.set 2 _
      .exact H2 Jx.row (by decide) (λq d=>Bg Jx.row HT (by decide) q d)
      .exact H2 (v:=q.tv) (Jx.each q d).1 (by decide) (λq' fa=>Bg (v1:=q.tv) (Jx.each q d).1 HT (by decide) q' fa)
      .exact(Jx.each q d).2
      .rw[Aa PT,fR];exact Af TH (As TH FW (by decide)) _
      .rw[Aa PT];intro q d;simp only[kF,fu]at d;subst d;rcases b0 with h|h
       .exact(QQ gg h).2
       .intro S;have N:=(a0.lt gg (by simpa using S)).2;omega
      .have h:=Aa e8;simp only[gA]at h;rw[gn,gn,(Aa H1).eq];simp only[fS,iV,h.1,h.2]
      .rcases fA.1 HP with h|h
       .exact⟨Mo _ (f3 p' h),λq d=>⟨((H1.each p' h).2 q d).1,ew p' h q d⟩⟩
       .simp only[ft]at h;subst h;exact⟨Mo _ d1,λq d=>⟨(bn q d).1,λhe=>(c5 q he).2 (bn q d).2⟩⟩
     have bx:=Ab (H2 a0 (by decide) (λq d h=>(QQ q h).2 (by rw[d];simp)));(have bp:kt (∀m∈z,KD (u3.setCell ⟨u,2,Y⟩ (U (V ⟨gg,0,Y⟩) (H+1) HL)) m):=λm AT=>Mo m (aT m AT));have c1:kt (FR w (u3.setCell ⟨u,2,Y⟩ (U (V ⟨gg,0,Y⟩) (H+1) HL))):=(dT.trans (FR.of NY (λq d=>by
      obtain⟨a,b,c,N,M⟩:=Xl HT (q:=q) (by simpa using d)
      exact⟨a,b,c,N,kp (kp M)⟩))).trans (FR.of SB (λq d=>by
      simp only[ft]at d
      rw[d]
      obtain⟨a,b,c,N,M⟩:=Xi FW
      exact⟨a,b,c,N,kn M⟩))
     generalize u3.setCell ⟨u,2,Y⟩ (U (V ⟨gg,0,Y⟩) (H+1) HL)=w6 at b6 bx bp c1⊢;clear TH Nq b0 fp LL FW XS ST P0 av fy NY SB H2 Mo BT;refine b9 _ _ ?_;clear b9;go_wp2
     go_roundg (Z z-(j+1))
     case measure=>have:=Aa eT;omega
     case rel=>exact⟨j+1,by go_num,by omega,rfl,b6,bx,bp,c1⟩
    .have d2:kt (Lg w0 u (U EM (Z AR) EK) [] [] ((Hi r o).foldl Ba o) (EX++IS.map (Prod.mk y)) wr):=by
      have h:=Aa HK;rw[fo (by omega),fo (by have h:=congrArg List.length (Aa RI);rw[fH]at h;omega)]at h;obtain⟨FO,FB,P,Ax,W,xs,g1,g2,g3,g4,g5,g6,g7⟩:=h.out;exact⟨h.kept,h.z2,FO,FB,P,Ax,W,xs,g1,g2,g3,g4,λq d=>⟨(g5 q d).1,by simp⟩,λq d=>by simp,g7⟩
     have d0:kt (HV (EX++IS.map (Prod.mk y)) ((Hi r o).foldl Ba o)):=by
      have h:=Aa ag (Z (Hi r o));rw[gT,fo (by have h:=congrArg List.length (Aa RI);rw[fH]at h;omega)]at h;exact h
     go_wp2_with fail
     go_roundg (Z ns-(k+1))
     case measure=>have:=Aa HG;omega
     case rel=>exact⟨k+1,(Hi r o).foldl Ba o,EX++IS.map (Prod.mk y),by go_num,by omega,rfl,f9.symm,d0,d2,b2⟩
  .have HE:kt (o=(Fv (Ek ee) ds s).1):=by
    have h:=Aa al;rw[fo (by have:=Aa af;omega)]at h;exact h
   obtain⟨FO,FB,P,Ax,W,xs,hb,_⟩:=(Aa HI).out;have c2:=hb.cell 2;simp at c2;obtain⟨S1,YP⟩:=kK (Z o);rw[YP]at c2;have f0:=Ab YP;clear hb YP;go_wp2;go_ret;refine⟨o,EX,HE,?_,W1,HI,M1⟩;rw[Aa df,Aa f0]
   first|rfl|(simp;done)|simp
