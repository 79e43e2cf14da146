import Derived.Test.YtoihbhenbmffcaaGreatDoorFAH
import Derived.Test.YtoihbhenbmffcaaGreatDoorXAI
set_option linter.all false
set_option maxHeartbeats 0
open List renaming length->Z,toArray->ml,replicate->pG
open Option renaming none->Y,some->V
open Go.Value renaming slice->U,int->X,string->O,agg->pC,ownBlock->pI
open Go.IntKind renaming i64->J
open Go.RowKit renaming Hid->p7
open Go.World renaming cell?->p8
open Prod renaming fst->pH
namespace Go.Proofs.YtoihbhenbmffcaaGreatDoor
open Go.RowKit Go.Proofs.Tryz
variable{n:Nat}{M:pM Nat}{w u:World}{z:Value}{y:pM Value}
abbrev iJ:Array Value:=#[O ⟨#[]⟩,O ⟨#[]⟩,O ⟨#[]⟩,O ⟨#[]⟩,O ⟨#[]⟩,O ⟨#[]⟩,O ⟨#[]⟩,O ⟨#[]⟩,O ⟨#[]⟩,O ⟨#[]⟩,O ⟨#[]⟩,O ⟨#[]⟩,O ⟨#[]⟩,O ⟨#[]⟩,O ⟨#[]⟩,O ⟨#[]⟩,O ⟨#[]⟩,O ⟨#[]⟩,O ⟨#[]⟩,O ⟨#[]⟩,O ⟨#[]⟩,O ⟨#[]⟩,O ⟨#[]⟩,O ⟨#[]⟩,O ⟨#[]⟩,O ⟨#[]⟩]
structure BJ(w:World)(base:Nat)(v:Value)(L:pM (pM zA)):Prop where
 row:w.ownsRow base 90 26 v (Z L) (L.flatMap Aj)
 each:∀e∈L,Z e=26
def BJ.kept{w w':World}{v:Value}{L:pM (pM zA)}(h:BJ w n v L)(k:Ac M w w')(a:∀i,v.ownBlock=V i->i∉M:=by simp):BJ w' n v L:=⟨Ai h.row k a,h.each⟩
def BJ.nil(w:World)(a:Nat):BJ w a (U Y 0 0) []:=⟨lH _ _ _ _,by simp⟩
def G4{L:pM (pM zA)}(h:BJ w n z L)(k:Nat)(b:k<Z L):∃g a,z=U (V ⟨g,0,Y⟩) (Z L) a/\Z L<=a/\w.rangeAt g (k*26) (Aj L[k]):=by
 obtain⟨g,a,c,j,l⟩:=AC h.row (λe c=>by rw[Ci];exact h.each e c) k b;refine⟨g,a,c,j,λi z d=>?_⟩;have f:i<26:=by
  have:=(nS.1 d).1;rw[Ci,h.each _ (kV b)]at this;exact this
 rw[l k b i f];exact d
def Mi{d:pM Ba}(h:w.ownsRow 0 95 9 z (Z d) (d.flatMap AX))(D:∀p∈d,B4 w 0 p)(k:Nat)(a:k<Z d):
  ∃g n x f i,z=U (V ⟨g,0,Y⟩) (Z d) n/\d[k]=(x,U f (Z x.A.args) i)/\
   p8 w ⟨g,k*9,Y⟩=V (X .u8 x.kind.toNat)/\p8 w ⟨g,k*9+1,Y⟩=V (O x.A.name)/\p8 w ⟨g,k*9+2,Y⟩=V (U f (Z x.A.args) i)/\p8 w ⟨g,k*9+3,Y⟩=V (X J x.A.at_)/\
   p8 w ⟨g,k*9+4,Y⟩=V (X .u8 x.L.v.toNat)/\p8 w ⟨g,k*9+5,Y⟩=V (O x.L.s)/\p8 w ⟨g,k*9+6,Y⟩=V (X .u8 x.R.v.toNat)/\p8 w ⟨g,k*9+7,Y⟩=V (O x.R.s)/\p8 w ⟨g,k*9+8,Y⟩=V (X J x.at_):=by
 obtain⟨g,n,E,_,b⟩:=AC h (λc _=>BP c) k a;have B:=D _ (kV a);have r:=b k a 0 (by omega);have m:=b k a 1 (by omega);have j:=b k a 2 (by omega);have l:=b k a 3 (by omega);have y:=b k a 4 (by omega);have t:=b k a 5 (by omega);have q:=b k a 6 (by omega);have o:=b k a 7 (by omega);have u:=b k a 8 (by omega);obtain⟨⟨x,F⟩,C⟩:∃p,d[k]=p:=⟨_,rfl⟩;rw[C]at r m j l y t q o u B;obtain⟨f,i,e⟩:=Ak B;simp only at e;subst e;simp[AX,Cj]at r m j l y t q o u;exact⟨g,n,x,f,i,E,C,r,m,j,l,y,t,q,o,u⟩
def Oz(S:pM Af)(A:Dg):∀(L:pM (pM zA)),Z (L.flatMap λe=>S.filterMap (Ih e A))<=Z L*Z S
 |[]=>by simp
 |e::L=>by
  have a:=Oz S A L;have b:=List.length_filterMap_le (Ih e A) S;simp only[lF,lu,lj,nA,Nat.one_mul];omega
def JM:∀(a:pM AK) (b:pM zA) (e:pM zA),Z (Dd e a b).1=Z e
 |[],_,e=>by simp[Dd]
 |_::_,[],e=>by simp[Dd]
 |t::a,x::b,e=>by
  unfold Dd;split
  .rw[JM a b];simp
  .split
   .exact JM a b e
   .rfl
def FY(e:pM zA)(A:Dg)(f:Af):Z (B3 e A f).1=Z e:=by
 unfold B3;split
 .exact JM _ _ _
 .rfl
def Le(w:World)(a:Z y=26):(w.alloc (.cells iJ 90)).there w.heap.size 0 y.toArray.size:=Ht (pP w (pG 26 (O ⟨#[]⟩)) 90) a
def Np(k:Ac [] (u.alloc (.cells iJ 90)).drew w)(a:Z y=26):w.there u.heap.size 0 y.toArray.size:=Ht ((pP u (pG 26 (O ⟨#[]⟩)) 90).drew.kept k) a
theorem Tryz.yG:(Tryz.prog.info? 90).map (λi=>(i.zero,i.size,i.bytes))=V (V (pC (ml (pG 26 (O ⟨#[]⟩)))),26,416):=by kernel_rfl
set_option maxRecDepth 100000
theorem OA(YP:Option Addr)(VS:Nat)(d:pM Ba)(L0:Option Addr)(LE:Nat)(c:pM Bv)(w:World)(hb:w.ownsRow 0 95 9 (U YP (Z d) VS) (Z d) (d.flatMap AX))(hl:∀p∈d,B4 w 0 p)(hs:Cv w (U L0 (Z c) LE) c)(c9:Z d<=3)(XS:Z c<=6912)
  (hg:∀p∈d,(p.1.kind==97)=true->(∀t∈p.1.A.args,BC t)/\Z p.1.A.args<=1000)
  (al:∀e∈(d.map pH).foldl (B7 (c.map Bv.f)) [Bk],∀p∈d,(p.1.kind==97)=false->Mj e p.1):
  Calls prog 47 #[U YP (Z d) VS,U L0 (Z c) LE] w λr w'=>∃ad cp,r=.returned (U ad (Z (Bt (d.map pH) (c.map Bv.f))) cp)/\BJ w' w.heap.size (U ad (Z (Bt (d.map pH) (c.map Bv.f))) cp) (Bt (d.map pH) (c.map Bv.f))/\Ac [] w w':=by
 obtain⟨i0,a0,W2,a4,HO⟩:=mg Tryz.yG;obtain⟨H9,T0⟩:=pN (Bt (d.map pH) (c.map Bv.f));rw[T0];have W1:p7 (((d.map pH).foldl (B7 (c.map Bv.f)) [Bk]).filter (λe=>(d.map pH).all λx=>x.kind==97||Cg (Aq e) (AI e) (c.map Bv.f) x)=H9):=T0;have HB:=Ab hb;have HV:=Ab hl;have HS:=Ab hs;have a1:=Ab hg;have av:=Ab al;obtain⟨N,hN⟩:=pN w.heap.size;rw[hN];have HN:=Ab hN;clear T0 hb hl hs hg al;go_enter func47,ntmps47;apply wp_seq_k;intro KK KA;have HX:=Ab KA;clear KA;go_wp2;refine HX _ _ ?_;clear HX KK;apply wp_seq_k;intro KK KA;have HX:=Ab KA;clear KA;go_wp2;refine HX _ _ ?_;clear HX KK;have NB:p7 (BJ (w.alloc (.cells iJ 90)) N (U (V ⟨N,0,Y⟩) [Bk].length 1) [Bk]):=by
  have h:=oN (e:=90) (size:=26) (base:=N) w (ml (pG 26 (O ⟨#[]⟩))) 1 (by rw[Aa HN];exact lC _) (by unfold maxLen;omega) (by simp);rw[Aa HN]at h;exact⟨h,by simp[Bk]⟩
 have S0:=Ab ((pO [] w).alloc (.cells iJ 90));generalize w.alloc (.cells iJ 90)=w1 at NB S0⊢;generalize pC iJ=U17;go_wp2_with fail
 go_loopg [5,6] (Z d) (λgk l i wr=>∃(k:Nat) (L:pM (pM zA)) (FC:Option Addr) (G:Nat),l=U FC (Z L) G/\i=X J k/\k<=Z d/\gk=Z d-k/\p7 (((d.take k).map pH).foldl (B7 (c.map Bv.f)) [Bk]=L)/\p7 (Z L<=6912^k)/\p7 (BJ wr N (U FC (Z L) G) L)/\p7 (Ac [] w wr))
 case atStart=>exact⟨0,[Bk],V ⟨N,0,Y⟩,1,rfl,rfl,by omega,rfl,rfl,(by show _<=_;simp),NB,S0⟩
 case round=>
  clear NB S0;obtain⟨k,L,FC,G,rfl,rfl,hk,a5,HF,KB,j,g⟩:=hrel;have HG:=Ab a5;clear a5;by_cases K2:k<Z d
  .obtain⟨y,bv,x,A0,A2,JA,B2,d0,d1,d2,d3,d4,d5,d6,d7,d8⟩:=Mi (Ad HB g) (λp hp=>(HV p hp).kept g) k K2;simp only[kS]at JA;obtain⟨rfl,_,rfl⟩:=JA;have Dk:p7 (((d.take (k+1)).map pH).foldl (B7 (c.map Bv.f)) [Bk]=if x.kind==97 then L.flatMap (λe=>(c.map Bv.f).filterMap (Ih e x.A))else L):=by
    show _=_;rw[kW K2,lV,mi,Aa HF,B2];rfl
   (have DT:(x,U A0 (Z x.A.args) A2)∈d:=by rw[<-B2];exact kV K2);have c0:=Ab DT;have b6:=Ab B2;have ce:=Ab (HV _ DT);have RI:=Ab (a1 _ DT);clear B2 HF DT d4 d5 d6 d7 d8;have E0:((x.kind.toNat:Int)==97)=(x.kind==97):=Cq _ 97;(have dc:(0:Int)<=(k:Int):=by omega);(have c1:(k:Int)<(Z d:Int):=by omega);cases h97:(x.kind==97)with
   |false=>
    rw[h97]at E0 Dk;(have a8:((x.kind.toNat:Int) !=97)=true:=by simp[bne,E0]);have SB:p7 (Z L<=6912^(k+1)):=by
     have h:=Aa KB;show _<=_;rw[Nat.pow_succ];omega
    have MB:p7 (((d.take (k+1)).map pH).foldl (B7 (c.map Bv.f)) [Bk]=L):=Dk;clear Dk;go_wp2
    go_roundg (Z d-(k+1))
    case measure=>have:=Aa HG;omega
    case rel=>exact⟨k+1,L,FC,G,rfl,by go_num,by omega,rfl,MB,SB,j,g⟩
   |true=>
    rw[h97]at E0 Dk RI;(have a8:((x.kind.toNat:Int) !=97)=false:=by simp[bne,E0]);have b1:Z L<=47775744:=by
     have h:=Aa KB;have h2:6912^k<=6912^2:=Nat.pow_le_pow_right (by omega) (by omega);omega
    have ZV:=Ab (RI rfl);clear RI;go_wp2_with fail
    go_loopg [7,8] (Z L) (λgk nx i wr=>∃(m:Nat) (H:pM (pM zA)) (B0:Option Addr) (BS:Nat),nx=U B0 (Z H) BS/\i=X J m/\m<=Z L/\gk=Z L-m/\p7 ((L.take m).flatMap (λe=>(c.map Bv.f).filterMap (Ih e x.A))=H)/\p7 (BJ wr N (U B0 (Z H) BS) H)/\p7 (BJ wr N (U FC (Z L) G) L)/\p7 (B6 (U B0 (Z H) BS) (U FC (Z L) G))/\p7 (Ac [] w wr))
    case atStart=>exact⟨0,[],Y,0,rfl,rfl,by omega,rfl,rfl,BJ.nil _ _,j,(λq hq=>by cases hq),g⟩
    case round=>
     clear j g d0 d1 d2 d3;obtain⟨m,H,B0,BS,rfl,rfl,hm,H6,H8,BT,j,M,g⟩:=hrel;have K4:=Ab H6;clear H6;have K6:p7 (Z H<=m*Z c):=by
      show _<=_;rw[<-Aa H8];have h:=Oz (c.map Bv.f) x.A (L.take m);rw[lm,l9,nU hm]at h;exact h
     by_cases Bx:m<Z L
     .obtain⟨C,cL,Ix,cz,r0⟩:=G4 j m Bx;simp only[kS]at Ix;obtain⟨rfl,_,rfl⟩:=Ix;obtain⟨e,he⟩:=pN (L[m]);(have FA:Z e=26:=by rw[<-he];exact j.each _ (kV Bx));have H3:p7 ((L.take (m+1)).flatMap (λe=>(c.map Bv.f).filterMap (Ih e x.A))=H++(c.map Bv.f).filterMap (Ih e x.A)):=by
       show _=_;rw[kW Bx,lM,Aa H8,he];simp
      rw[he]at r0;(have ba:(0:Int)<=(m:Int):=by omega);(have b4:(m:Int)<(Z L:Int):=by omega);have c5:Z H+Z c<=330225942528:=by
       have h:=Aa K6;have h2:(m+1)*Z c<=47775744*6912:=Nat.mul_le_mul (by omega) XS;rw[nA,Nat.one_mul]at h2;omega
      clear K6 r0;have KD:p7 (∀b,BJ b N (U (V ⟨C,0,Y⟩) (Z L) G) L->b.rangeAt C (m*26) (Aj e)):=by
       intro b hz;obtain⟨g',an,AB,_,r'⟩:=G4 hz m Bx;simp only[kS,ld,lW]at AB;obtain⟨⟨rfl,_,_⟩,_,_⟩:=AB;rw[he]at r';exact r'
      clear he;go_wp2_with fail
      go_loopg [7,9] (Z c) (λgk nx i wr=>∃(q:Nat) (F:pM (pM zA)) (B0:Option Addr) (BS:Nat),nx=U B0 (Z F) BS/\i=X J q/\q<=Z c/\gk=Z c-q/\Z F<=Z H+q/\p7 (H++((c.take q).map Bv.f).filterMap (Ih e x.A)=F)/\p7 (BJ wr N (U B0 (Z F) BS) F)/\p7 (BJ wr N (U (V ⟨C,0,Y⟩) (Z L) G) L)/\p7 (B6 (U B0 (Z F) BS) (U (V ⟨C,0,Y⟩) (Z L) G))/\p7 (Ac [] w wr))
      case atStart=>exact⟨0,H,B0,BS,rfl,rfl,by omega,rfl,by omega,(by show _=_;simp),BT,j,M,g⟩
      case round=>
       clear BT j M g H8;obtain⟨q,F,SL,NS,rfl,rfl,hq,HY,df,U1,BT,j,M,g⟩:=hrel;have HT:=Ab HY;clear HY;by_cases ES:q<Z c
       .obtain⟨gs,c4,fn,Q,LC,K8,ap,LL,s0,s1⟩:=C1 (HS.kept g) q ES;simp only[kS]at ap;obtain⟨rfl,_,rfl⟩:=ap;(have bp:(0:Int)<=(q:Int):=by omega);(have ca:(q:Int)<(Z c:Int):=by omega);have K7:=HS.each _ (kV ES);rw[LL]at K7;have H7:p7 (∀b,Ac [] wr b->Calls prog 87 #[pC (ml (Aj e)),pC #[O x.A.name,U A0 (Z x.A.args) A2,X J x.A.at_],pC #[O fn,U LC (Z Q) K8]] b λr w'=>r=.returned (.tuple #[pC (ml (Aj (B3 e x.A ⟨fn,Q⟩).1)),.bool (B3 e x.A ⟨fn,Q⟩).2])/\Ac [] b w'):=λb I=>
         Na e x.A A0 A2 ⟨⟨fn,Q⟩,U LC (Z Q) K8⟩ b FA (ce.kept (g.trans I)) (K7.1.kept (g.trans I)) ZV.2 (by have:=K7.2.len;simp at this⊢;omega) ZV.1
        have T:p7 (H++((c.take (q+1)).map Bv.f).filterMap (Ih e x.A)=if(B3 e x.A ⟨fn,Q⟩).2 then F++[(B3 e x.A ⟨fn,Q⟩).1] else F):=by
         show _=_;rw[kW ES,lV,List.filterMap_append,<-mo,Aa U1,LL];simp only[lE,m8,oU,List.filterMap_nil,Ih];cases(B3 e x.A ⟨fn,Q⟩).2<;>simp
        (have QQ:p7 (Z (B3 e x.A ⟨fn,Q⟩).1=26):=by show _=_;rw[FY,FA]);have EX:p7 (∀b,Ac [] wr b->b.rangeAt C (m*26) (Aj e)/\p8 b ⟨y,k*9+1,Y⟩=V (O x.A.name)/\p8 b ⟨y,k*9+2,Y⟩=V (U A0 (Z x.A.args) A2)/\p8 b ⟨y,k*9+3,Y⟩=V (X J x.A.at_)/\p8 b ⟨gs,q*2,Y⟩=V (O fn)/\p8 b ⟨gs,q*2+1,Y⟩=V (U LC (Z Q) K8)):=by
         intro b I;have HR:=g.trans I;obtain⟨cl,bb,x',b2,cf,H5,HJ,WS,P0,QR,N2,_⟩:=Mi (Ad HB HR) (λp hp=>(HV p hp).kept HR) k K2;simp only[kS,ld,lW]at H5;obtain⟨⟨rfl,_,_⟩,_,_⟩:=H5;rw[Aa b6]at HJ;simp only[lZ,kS]at HJ;obtain⟨rfl,rfl,_,rfl⟩:=HJ;obtain⟨g',c3,n',c8,dT,an,AB,bn,f0,f1⟩:=C1 (HS.kept HR) q ES;have e2:=bn.symm.trans LL;simp only[kS,ld,lW,Bv.mk.injEq,Af.mk.injEq]at AB e2;obtain⟨⟨rfl,_,_⟩,_,_⟩:=AB;obtain⟨⟨rfl,rfl⟩,rfl,_,rfl⟩:=e2;exact⟨KD b (j.kept I),P0,QR,N2,f0,f1⟩
        clear LL K7;obtain⟨E,HM⟩:=pN (Aj (B3 e x.A ⟨fn,Q⟩).1);obtain⟨RB,TK⟩:=pN (B3 e x.A ⟨fn,Q⟩).2;obtain⟨RE,TL⟩:=pN (B3 e x.A ⟨fn,Q⟩).1;rw[TK,TL]at T;rw[HM,TK]at H7;rw[TL]at QQ HM;have LM:=Ab HM;(have Go:Z E=26:=by rw[<-HM,Ci];exact QQ);(have VL:∀v∈E,v.oneCell'=true:=by rw[<-HM];exact Gh RE);clear HM TK TL;obtain⟨u,P⟩:=pN (Aj e);rw[P]at H7 EX;(have HH:Z u=26:=by rw[<-P,Ci,FA]);clear P;have hu:=underlying90;(have hi:(prog.info? 90).map (·.size)=V (Z u):=by rw[HH];exact Tryz.zF);(have a9:(prog.info? 90).map (·.size)=V (Z E):=by rw[Go];exact Tryz.zF);(have ea:(k:Int)<(Z d:Int):=by omega);obtain⟨nm,H0⟩:=pN x.A.name;obtain⟨ja,IA⟩:=pN x.A.at_;obtain⟨na,H1⟩:=pN (Z x.A.args);rw[H0,IA,H1]at H7 EX;clear H0 IA H1;go_wp2_with fail
        go_region_held3 (λb=>Ac [] wr b/\b.rangeAt C (m*26) u/\p8 b ⟨y,k*9+1,Y⟩=V (O nm)/\p8 b ⟨y,k*9+2,Y⟩=V (U A0 na A2)/\p8 b ⟨y,k*9+3,Y⟩=V (X J ja)/\p8 b ⟨gs,q*2,Y⟩=V (O fn)/\p8 b ⟨gs,q*2+1,Y⟩=V (U LC (Z Q) K8)) ((go_split_ands;refine(fun(I:Ac [] wr _)=>And.intro I (EX _ I)) ?_;repeat (first|assumption|exact pO [] _|refine Ac.drew ?_|refine Ac.alloc ?_ _|(refine Ac.zI ?_ (Or.inr (by first|omega|(simp;omega))) _ _)))) ((go_at_call 87;refine(H7 _ (by go_split_ands;assumption)).mono ?_;rintro e w3 ⟨rfl,k3⟩;have HA:Ac [] wr w3:=(by go_split_ands;exact Ac.trans (by assumption) k3);have WW:=Le w3 Go;(try have co:=Np k3 Go);have MY:=HA.size;have HC:=Ab k3;clear k3))
        all_goals
         rename_i K9;have S:=Ab K9.1;clear K9 H7 EX
         first
          |(
            have FB:p7 (AF (w3.setCells wr.heap.size 0 E) wr.heap.size E 90):=AF.zP ((pP wr (pG 26 (O ⟨#[]⟩)) 90).drew.kept HC) E (by rw[Go];rfl)
            obtain⟨B,hB⟩:=pN wr.heap.size
            rw[hB]at FB S⊢
            have br:wr.heap.size<=B:=by omega
            clear WW co MY HC hB
            generalize w3.setCells B 0 E=W at FB S⊢)
          |(
            have FB:p7 (AF ((w3.alloc (.cells iJ 90)).setCells w3.heap.size 0 E) w3.heap.size E 90):=AF.zP (pP w3 (pG 26 (O ⟨#[]⟩)) 90) E (by rw[Go];rfl)
            obtain⟨B,hB⟩:=pN w3.heap.size
            rw[hB]at FB S MY⊢
            have br:wr.heap.size<=B:=by omega
            clear WW MY HC hB
            generalize(w3.alloc (.cells iJ 90)).setCells B 0 E=W at FB S⊢)
         clear HA;have ds:=S.size;cases RB with
         |false=>
          have FT:p7 (H++((c.take (q+1)).map Bv.f).filterMap (Ih e x.A)=F):=T;have cb:=Ab (BT.kept S);have UO:=Ab (j.kept S);have SJ:=Ab (g.trans S);clear T BT j g FB S;go_wp2
          go_roundg (Z c-(q+1))
          case measure=>have:=Aa HT;omega
          case rel=>exact⟨q+1,F,SL,NS,rfl,by go_num,by omega,rfl,by omega,FT,cb,UO,M,SJ⟩
         |true=>
          have FT:p7 (H++((c.take (q+1)).map Bv.f).filterMap (Ih e x.A)=F++[RE]):=T;have Nj:=(BT.kept S).row;(have M0:0<Z E:=by omega);(have bx:N<=wr.heap.size:=by have:=g.size;have:=Aa HN;omega);(have NM:(pC (ml E)).cells=ml E:=by rw[<-Aa LM];exact Bp RE);(have HZ:p7 ((prog.info? 90).map (λi=>(i.zero,i.size))=V (V (pC (ml (pG 26 (O ⟨#[]⟩)))),Z E)):=by rw[Go];exact Tryz.zu);clear T;go_wp2_with (first|((with_reducible show wpList _ _ _ ({dst:=_,op:=Op.load 90 _,type:=_,pos:=_,after:=_,guard:=_}::_) _ _);refine m5 rfl 90 _ rfl B 0 (by rfl) E _ FB.range underlying90 rfl a9 ?_)|((with_reducible show wpList _ _ _ ({dst:=_,op:=Op.buildSlice 87 1 _,type:=_,pos:=_,after:=_,guard:=_}::_) _ _);refine Da rfl 87 _ rfl E (by rfl) 90 _ underlying87 NM HZ (by rw[Go];rfl) M0 (by omega) ?_)|(at_builtin;change p7 (wpList _ _ _ _ _ _)))
          show wpList _ _ _ _ _ _;refine lG _ rfl (.tmp 61) (.tmp 63) _ rfl N 90 i0 _ 26 416 underlying87 a0 W2 a4 HO rfl (by omega) (U SL (Z F) NS) (Z F) (F.flatMap Aj) rfl (lg Nj _) ⟨W.heap.size,0,Y⟩ 1 1 E rfl (by omega) (lI (lP W _)) VL (by omega) (by unfold maxLen;omega) (by omega) (by simp;omega) (W.heap.size+1) (by simp) ?_;intro g1 FO w9 IS FP HW Nx;have bt:p7 (BJ w9 N (U (V ⟨g1,0,Y⟩) (Z (F++[RE])) FO) (F++[RE])):=by
           refine⟨?_,λe' AB=>?_⟩
           .rw[lu,lM];simp only[lF,mx,lU,Aa LM,lj,lO,me];exact IS
           .rcases lw.1 AB with h|h
            .exact BT.each e' h
            .simp only[kY]at h;rw[h];exact QQ
          have SK:p7 (BJ w9 N (U (V ⟨C,0,Y⟩) (Z L) G) L):=
           ⟨mI (v:=U (V ⟨C,0,Y⟩) (Z L) G) ((j.kept S).row.alloc _) FP (Or.inr (λh=>M C h.symm rfl)),j.each⟩
          have Nq:p7 (B6 (U (V ⟨g1,0,Y⟩) (Z (F++[RE])) FO) (U (V ⟨C,0,Y⟩) (Z L) G)):=by
           intro z hz HO;simp only[pI,ld]at hz HO;rcases HW with h|h
           .exact M g1 h (by simp only[pI,ld];omega)
           .have:=(j.row.lt C rfl).2;omega
          have HC:p7 (Ac [] w w9):=(((g.trans S).alloc _).grown FP (λz hz=>Or.inr (by have:=(Nj.lt z hz).1;have:=Aa HN;omega)));clear IS FP HW Nx Nj BT j M g S FB;go_wp2_with fail
          go_roundg (Z c-(q+1))
          case measure=>have:=Aa HT;omega
          case rel=>exact⟨q+1,F++[RE],V ⟨g1,0,Y⟩,FO,by simp,by go_num,by omega,rfl,by simp;omega,FT,bt,SK,Nq,HC⟩
       .have HU:p7 ((L.take (m+1)).flatMap (λe=>(c.map Bv.f).filterMap (Ih e x.A))=F):=by
         show _=_;rw[Aa H3,<-Aa U1,kX (by omega)]
        clear U1 H3;go_wp2
        go_roundg (Z L-(m+1))
        case measure=>have:=Aa K4;omega
        case rel=>exact⟨m+1,F,SL,NS,rfl,by go_num,by omega,rfl,HU,BT,j,M,g⟩
     .have MB:p7 (((d.take (k+1)).map pH).foldl (B7 (c.map Bv.f)) [Bk]=H):=by
       show _=_;rw[Aa Dk,ln True.intro,<-Aa H8,kX (by omega)]
      have SB:p7 (Z H<=6912^(k+1)):=by
       show _<=_;have h:=Aa K6;have h2:m*Z c<=6912^k*6912:=Nat.mul_le_mul (by have:=Aa KB;omega) XS;rw[Nat.pow_succ];omega
      clear H8 Dk K6 j M;go_wp2
      go_roundg (Z d-(k+1))
      case measure=>have:=Aa HG;omega
      case rel=>exact⟨k+1,H,B0,BS,rfl,by go_num,by omega,rfl,MB,SB,BT,g⟩
  .have TH:p7 ((d.map pH).foldl (B7 (c.map Bv.f)) [Bk]=L):=by
    have h:=Aa HF;rw[kX (by omega)]at h;exact h
   have b1:Z L<=330225942528:=by
    have h:=Aa KB;have h2:6912^k<=6912^3:=Nat.pow_le_pow_right (by omega) (by omega);omega
   have b9:p7 (L.filter (λe=>(d.map pH).all λx=>x.kind==97||Cg (Aq e) (AI e) (c.map Bv.f) x)=H9):=by
    have h:=Aa W1;rw[Aa TH]at h;exact h
   have cx:p7 (∀e∈L,∀p∈d,(p.1.kind==97)=false->Mj e p.1):=by
    have h:=Aa av;rw[Aa TH]at h;exact h
   clear W1 av HF TH a1 KB HG;go_wp2_with fail
   go_loopg [12,13] (Z L) (λgk o i wr=>∃(m:Nat) (D:pM (pM zA)) (CL:Option Addr) (CC:Nat),o=U CL (Z D) CC/\i=X J m/\m<=Z L/\gk=Z L-m/\Z D<=m/\p7 ((L.take m).filter (λe=>(d.map pH).all λx=>x.kind==97||Cg (Aq e) (AI e) (c.map Bv.f) x)=D)/\p7 (BJ wr N (U CL (Z D) CC) D)/\p7 (BJ wr N (U FC (Z L) G) L)/\p7 (B6 (U CL (Z D) CC) (U FC (Z L) G))/\p7 (Ac [] w wr))
   case atStart=>exact⟨0,[],Y,0,rfl,rfl,by omega,rfl,by simp,rfl,BJ.nil _ _,j,(λq hq=>by cases hq),g⟩
   case round=>
    clear j g;obtain⟨m,D,CL,CC,rfl,rfl,hm,H6,db,aa,AO,j,M,g⟩:=hrel;have K4:=Ab H6;clear H6;by_cases Bx:m<Z L
    .obtain⟨C,cL,Ix,cz,r0⟩:=G4 j m Bx;simp only[kS]at Ix;obtain⟨rfl,_,rfl⟩:=Ix;obtain⟨e,he⟩:=pN (L[m]);(have FA:Z e=26:=by rw[<-he];exact j.each _ (kV Bx));have bd:=Ab (cx e (by rw[<-he];exact kV Bx));have H3:p7 ((L.take (m+1)).filter (λe=>(d.map pH).all λx=>x.kind==97||Cg (Aq e) (AI e) (c.map Bv.f) x)=D++if((d.take (Z d)).map pH).all (λx=>x.kind==97||Cg (Aq e) (AI e) (c.map Bv.f) x)then[e] else[]):=by
      show _=_;rw[kW Bx,nF,Aa aa,he,ni,mW,List.filter_nil]
     (have ba:(0:Int)<=(m:Int):=by omega);(have b4:(m:Int)<(Z L:Int):=by omega);clear r0;have KD:p7 (∀b,BJ b N (U (V ⟨C,0,Y⟩) (Z L) G) L->b.rangeAt C (m*26) (Aj e)):=by
      intro b hz;obtain⟨g',an,AB,_,r'⟩:=G4 hz m Bx;simp only[kS,ld,lW]at AB;obtain⟨⟨rfl,_,_⟩,_,_⟩:=AB;rw[he]at r';exact r'
     clear he;go_wp2_with fail
     go_loopg [14,15] (Z d) (λgk a i wr=>∃(q:Nat) (ab:Bool),a=.bool ab/\i=X J q/\q<=Z d/\gk=Z d-q/\p7 (((d.take q).map pH).all (λx=>x.kind==97||Cg (Aq e) (AI e) (c.map Bv.f) x)=ab)/\p7 (BJ wr N (U CL (Z D) CC) D)/\p7 (BJ wr N (U (V ⟨C,0,Y⟩) (Z L) G) L)/\p7 (Ac [] w wr))
     case atStart=>exact⟨0,true,rfl,rfl,by omega,rfl,rfl,AO,j,g⟩
     case round=>
      clear AO j g;obtain⟨q,ab,rfl,rfl,hq,HY,Jx,AO,j,g⟩:=hrel;have HT:=Ab HY;clear HY;by_cases ES:q<Z d
      .obtain⟨y,bv,x,A0,A2,JA,B2,d0,d1,d2,d3,d4,d5,d6,d7,d8⟩:=Mi (Ad HB g) (λp hp=>(HV p hp).kept g) q ES;simp only[kS]at JA;obtain⟨rfl,_,rfl⟩:=JA;(have DT:(x,U A0 (Z x.A.args) A2)∈d:=by rw[<-B2];exact kV ES);have T:p7 (((d.take (q+1)).map pH).all (λx=>x.kind==97||Cg (Aq e) (AI e) (c.map Bv.f) x)=(ab&&(x.kind==97||Cg (Aq e) (AI e) (c.map Bv.f) x))):=by
        show _=_;rw[kW ES,lV,List.all_append,Aa Jx,B2];simp
       (have bp:(0:Int)<=(q:Int):=by omega);(have ca:(q:Int)<(Z d:Int):=by omega);have E0:((x.kind.toNat:Int)==97)=(x.kind==97):=Cq _ 97;cases h97:(x.kind==97)with
       |true=>
        rw[h97]at E0 T;have FT:p7 (((d.take (q+1)).map pH).all (λx=>x.kind==97||Cg (Aq e) (AI e) (c.map Bv.f) x)=ab):=by
         have h:=Aa T;rw[ox,Bool.and_true]at h;exact h
        (have HD:p7 (∀n,BJ (wr.drewN n) N (U CL (Z D) CC) D/\BJ (wr.drewN n) N (U (V ⟨C,0,Y⟩) (Z L) G) L/\Ac [] w (wr.drewN n)):=λn=>⟨AO.kept ((pO [] wr).drewN n),j.kept ((pO [] wr).drewN n),g.drewN n⟩);clear T B2 DT AO j g Jx;go_wp2_with fail
        go_quiet (fail)
        cases ab
        all_goals
         go_wp2
         go_roundg (Z d-(q+1))
         case measure=>have:=Aa HT;omega
         case rel=>exact⟨q+1,_,rfl,by go_num,by omega,rfl,FT,(HD _).1,(HD _).2.1,(HD _).2.2⟩
       |false=>
        rw[h97]at E0 T;have IJ:p7 (∀b,Ac [] wr b->Calls prog 88 #[pC (ml (Aj e)),pC #[X .u8 x.kind.toNat,O x.A.name,U A0 (Z x.A.args) A2,X J x.A.at_,X .u8 x.L.v.toNat,O x.L.s,X .u8 x.R.v.toNat,O x.R.s,X J x.at_],U L0 (Z c) LE] b λr w'=>r=.returned (.bool (Cg (Aq e) (AI e) (c.map Bv.f) x))/\Ac [] b w'):=λb I=>
         QZ e x A0 A2 L0 LE c b FA ((HV _ DT).kept (g.trans I)) (HS.kept (g.trans I)) (by omega) (bd _ DT h97)
        have EX:p7 (∀b,Ac [] wr b->b.rangeAt C (m*26) (Aj e)/\p8 b ⟨y,q*9,Y⟩=V (X .u8 x.kind.toNat)/\p8 b ⟨y,q*9+1,Y⟩=V (O x.A.name)/\p8 b ⟨y,q*9+2,Y⟩=V (U A0 (Z x.A.args) A2)/\p8 b ⟨y,q*9+3,Y⟩=V (X J x.A.at_)/\p8 b ⟨y,q*9+4,Y⟩=V (X .u8 x.L.v.toNat)/\p8 b ⟨y,q*9+5,Y⟩=V (O x.L.s)/\p8 b ⟨y,q*9+6,Y⟩=V (X .u8 x.R.v.toNat)/\p8 b ⟨y,q*9+7,Y⟩=V (O x.R.s)/\p8 b ⟨y,q*9+8,Y⟩=V (X J x.at_)):=by
         intro b I;have HR:=g.trans I;obtain⟨cl,bb,x',b2,cf,H5,HJ,WS,P0,QR,N2,cy,bs,cR,cv,bz⟩:=Mi (Ad HB HR) (λp hp=>(HV p hp).kept HR) q ES;simp only[kS,ld,lW]at H5;obtain⟨⟨rfl,_,_⟩,_,_⟩:=H5;rw[B2]at HJ;simp only[lZ,kS]at HJ;obtain⟨rfl,rfl,_,rfl⟩:=HJ;exact⟨KD b (j.kept I),WS,P0,QR,N2,cy,bs,cR,cv,bz⟩
        obtain⟨LB,Nd⟩:=pN (Cg (Aq e) (AI e) (c.map Bv.f) x);rw[Nd,nI]at T;rw[Nd]at IJ;clear Nd B2 DT;obtain⟨u,P⟩:=pN (Aj e);rw[P]at IJ EX;(have HH:Z u=26:=by rw[<-P,Ci,FA]);clear P;have hu:=underlying90;(have hi:(prog.info? 90).map (·.size)=V (Z u):=by rw[HH];exact Tryz.zF);obtain⟨kd,RT⟩:=pN x.kind.toNat;obtain⟨nm,H0⟩:=pN x.A.name;obtain⟨ja,IA⟩:=pN x.A.at_;obtain⟨na,H1⟩:=pN (Z x.A.args);obtain⟨lv,a6⟩:=pN x.L.v.toNat;obtain⟨ls,aT⟩:=pN x.L.s;obtain⟨rv,VR⟩:=pN x.R.v.toNat;obtain⟨rs,a3⟩:=pN x.R.s;obtain⟨MN,a2⟩:=pN x.at_;rw[RT,H0,IA,H1,a6,aT,VR,a3,a2]at IJ EX;rw[RT]at E0;clear h97 RT H0 IA H1 a6 aT VR a3 a2 d0 d1 d2 d3 d4 d5 d6 d7 d8;go_wp2_with fail
        go_region_held3 (λb=>Ac [] wr b/\b.rangeAt C (m*26) u/\p8 b ⟨y,q*9,Y⟩=V (X .u8 kd)/\p8 b ⟨y,q*9+1,Y⟩=V (O nm)/\p8 b ⟨y,q*9+2,Y⟩=V (U A0 na A2)/\p8 b ⟨y,q*9+3,Y⟩=V (X J ja)/\p8 b ⟨y,q*9+4,Y⟩=V (X .u8 lv)/\p8 b ⟨y,q*9+5,Y⟩=V (O ls)/\p8 b ⟨y,q*9+6,Y⟩=V (X .u8 rv)/\p8 b ⟨y,q*9+7,Y⟩=V (O rs)/\p8 b ⟨y,q*9+8,Y⟩=V (X J MN)) ((go_split_ands;refine(fun(I:Ac [] wr _)=>And.intro I (EX _ I)) ?_;repeat (first|assumption|exact pO [] _|refine Ac.drew ?_|refine Ac.alloc ?_ _))) ((go_at_call 88;refine(IJ _ (by go_split_ands;assumption)).mono ?_;rintro e w3 ⟨rfl,k3⟩;have HA:Ac [] wr w3:=(by go_split_ands;exact Ac.trans (by assumption) k3);clear k3))
        rename_i K9;clear K9 IJ EX;have cB:=Ab (AO.kept HA);have UO:=Ab (j.kept HA);have SJ:=Ab (g.trans HA);clear AO j g HA Jx;cases ab
        all_goals
         have FT:=Ab T;clear T;go_wp2
         go_roundg (Z d-(q+1))
         case measure=>have:=Aa HT;omega
         case rel=>exact⟨q+1,_,rfl,by go_num,by omega,rfl,FT,cB,UO,SJ⟩
      .have HU:p7 ((L.take (m+1)).filter (λe=>(d.map pH).all λx=>x.kind==97||Cg (Aq e) (AI e) (c.map Bv.f) x)=D++if ab then[e] else[]):=by
        have h:=Aa H3;have h2:=Aa Jx;rw[show q=Z d by omega]at h2;rw[h2]at h;exact h
       clear H3 Jx HT;cases ab with
       |false=>
        have M1:p7 ((L.take (m+1)).filter (λe=>(d.map pH).all λx=>x.kind==97||Cg (Aq e) (AI e) (c.map Bv.f) x)=D):=by
         have h:=Aa HU;rw[li (by simp),lU]at h;exact h
        clear HU;go_wp2
        go_roundg (Z L-(m+1))
        case measure=>have:=Aa K4;omega
        case rel=>exact⟨m+1,D,CL,CC,rfl,by go_num,by omega,rfl,by omega,M1,AO,j,M,g⟩
       |true=>
        have M1:p7 ((L.take (m+1)).filter (λe=>(d.map pH).all λx=>x.kind==97||Cg (Aq e) (AI e) (c.map Bv.f) x)=D++[e]):=HU;obtain⟨u,P⟩:=pN (Aj e);(have HH:Z u=26:=by rw[<-P,Ci,FA]);(have VL:∀v∈u,v.oneCell'=true:=by rw[<-P];exact Gh e);(have NM:(pC (ml u)).cells=ml u:=by rw[<-P];exact Bp e);(have W0:p7 (wr.rangeAt C (m*26) u):=by rw[<-P];exact KD wr j);have LM:=Ab P;(have hi:(prog.info? 90).map (·.size)=V (Z u):=by rw[HH];exact Tryz.zF);(have M0:0<Z u:=by omega);(have HZ:p7 ((prog.info? 90).map (λi=>(i.zero,i.size))=V (V (pC (ml (pG 26 (O ⟨#[]⟩)))),Z u)):=by rw[HH];exact Tryz.zu);(have bx:N<=wr.heap.size:=by have:=g.size;have:=Aa HN;omega);have TV:=AO.row;clear HU P;go_wp2_with (first|((with_reducible show wpList _ _ _ ({dst:=_,op:=Op.load 90 _,type:=_,pos:=_,after:=_,guard:=_}::_) _ _);refine m5 rfl 90 _ rfl C (m*26) (by rfl) u _ W0 underlying90 rfl hi ?_)|((with_reducible show wpList _ _ _ ({dst:=_,op:=Op.buildSlice 87 1 _,type:=_,pos:=_,after:=_,guard:=_}::_) _ _);refine Da rfl 87 _ rfl u (by rfl) 90 _ underlying87 NM HZ (by rw[HH];rfl) M0 (by omega) ?_)|(at_builtin;change p7 (wpList _ _ _ _ _ _)))
        show wpList _ _ _ _ _ _;refine lG _ rfl (.tmp 101) (.tmp 106) _ rfl N 90 i0 _ 26 416 underlying87 a0 W2 a4 HO rfl (by omega) (U CL (Z D) CC) (Z D) (D.flatMap Aj) rfl (lg TV _) ⟨wr.heap.size,0,Y⟩ 1 1 u rfl (by omega) (lI (lP wr _)) VL (by omega) (by unfold maxLen;omega) (by omega) (by simp;omega) (wr.heap.size+1) (by simp) ?_;intro g1 FO w9 IS FP HW Nx;have b0:p7 (BJ w9 N (U (V ⟨g1,0,Y⟩) (Z (D++[e])) FO) (D++[e])):=by
         refine⟨?_,λe' AB=>?_⟩
         .rw[lu,lM];simp only[lF,mx,lU,Aa LM,lj,lO,me];exact IS
         .rcases lw.1 AB with h|h
          .exact AO.each e' h
          .simp only[kY]at h;rw[h];exact FA
        have SK:p7 (BJ w9 N (U (V ⟨C,0,Y⟩) (Z L) G) L):=
         ⟨mI (v:=U (V ⟨C,0,Y⟩) (Z L) G) (j.row.alloc _) FP (Or.inr (λh=>M C h.symm rfl)),j.each⟩
        have Nq:p7 (B6 (U (V ⟨g1,0,Y⟩) (Z (D++[e])) FO) (U (V ⟨C,0,Y⟩) (Z L) G)):=by
         intro z hz HO;simp only[pI,ld]at hz HO;rcases HW with h|h
         .exact M g1 h (by simp only[pI,ld];omega)
         .have:=(j.row.lt C rfl).2;omega
        have HC:p7 (Ac [] w w9):=(g.alloc _).grown FP (λz hz=>Or.inr (by have:=(TV.lt z hz).1;have:=Aa HN;omega));clear IS FP HW Nx TV AO j M g W0;go_wp2_with fail
        go_roundg (Z L-(m+1))
        case measure=>have:=Aa K4;omega
        case rel=>exact⟨m+1,D++[e],V ⟨g1,0,Y⟩,FO,by simp,by go_num,by omega,rfl,by simp;omega,M1,b0,SK,Nq,HC⟩
    .have b7:p7 (D=H9):=by
      have h:=Aa b9;have h2:=Aa aa;rw[kX (by omega)]at h2;exact h2.symm.trans h
     go_wp2;go_ret;rw[<-Aa b7];exact⟨CL,CC,rfl,AO,g⟩
