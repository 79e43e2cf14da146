import Derived.Test.YtoihbhenbmffcaaGreatZAJ
import Derived.Test.YtoihbhenbmffcaaGreatZAO
set_option linter.all false
set_option maxHeartbeats 0
open List renaming length->Z
open Option renaming none->Y,some->V
open Go.Value renaming slice->U,int->X,string->O
open Bool renaming false->K,true->hG
open Go.RowKit renaming Hid->kt
namespace Go.Proofs.YtoihbhenbmffcaaGreat
open Go.RowKit Go.Proofs.Tryz
variable{w u:World}{n m k:Nat}{z:Value}{T:TypeId}{y:kJ Value}{c:kJ AY}{f:kJ Ag}{s:zA}{I:Int}
structure bu(cs:kJ AY)(J:kJ Ag->Prop):Prop where
 len:∀s,J s->Z s<=6912
 body:∀c∈cs,Z c.bl<=3
 args:∀c∈cs,∀p∈c.bl,(p.1.kind==97)=hG->(∀t∈p.1.A.args,By t)/\Z p.1.A.args<=1000
 lit:∀s,J s->∀c∈cs,∀e∈(Ak c).foldl (B1 s) [BM],∀p∈c.bl,(p.1.kind==97)=K->OE e p.1
 head:∀c∈cs,(∀t∈c.head.args,OG t)/\Z c.head.args<=1000
 fact:∀s,J s->∀c∈cs,∀e∈Cp (Ak c) s,O0 (Av e c.head)
 add:∀s0 s,J s0->J s->∀c∈cs,∀e∈Cp (Ak c) s0,J (Ba s (Av e c.head))
def Zc{d:kJ BH}{s:kJ Ag}:∀e∈Cp d s,Z e=26:=by
 have j:∀(b:kJ BH) (l:kJ (kJ zA)),(∀e∈l,Z e=26)->∀e∈b.foldl (B1 s) l,Z e=26:=by
  intro b
  induction b with
  |nil=>exact λl h=>h
  |cons x b ih=>
   intro l h;refine ih _ (λe a=>?_);unfold B1 at a;split at a
   .obtain⟨g,k,i⟩:=gc.1 a;obtain⟨f,_,c⟩:=ig.1 i;unfold G0 at c;split at c
    .cases c
     rw[GJ];exact h g k
    .cases c
   .exact h e a
 intro e a;unfold Cp at a;exact j d [BM] (by simp[BM]) e (fT.1 a).1
def dP{a:kJ AY}{b:zA->Nat}(h:w.ownsRow n 3 1 z (Z a) ((a.map λc=>b c.head.name).flatMap BU))(k:Nat)(f:k<Z a):∃g e,z=U (V ⟨g,0,Y⟩) (Z a) e/\w.cell? ⟨g,k,Y⟩=V (X .i64 (b a[k].head.name)):=by
 have j:w.ownsRow n 3 1 z (Z (a.map λc=>b c.head.name)) ((a.map λc=>b c.head.name).flatMap BU):=by rw[fH];exact h
 obtain⟨g,e,i,_,l⟩:=AC j (λc _=>rfl) k (by simpa using f);have d:=l k (by simpa using f) 0 (by omega);rw[fH]at i;simp[BU]at d;exact⟨g,e,i,d⟩
def Xt(h:w.ownsRow m T k z n y):n<=9223372036854775807:=by
 rcases h.2 with⟨_,f⟩|⟨g,d,b,_,_,_,c,a,_⟩
 .omega
 .unfold maxLen at a;omega
def YX(k:Ac [] (u.alloc (.cells #[O ⟨#[]⟩,U Y 0 0] 63)).drew w):AF w u.heap.size [O ⟨#[]⟩,U Y 0 0] 63:=(kN u [O ⟨#[]⟩,U Y 0 0] 63).drew.kept k
set_option maxRecDepth 100000
theorem RU(C:zA->Nat)(I:Nat->kJ Ag->Prop)(EM:kJ Ag->Prop)(pb:Nat)(NS:Option Addr)(HQ:Nat)(l:kJ AY)(w:World)(hP:AF w pb [U NS (Z l) HQ] 84)(hR:Cd w (U NS (Z l) HQ) l)(a7:Z l<=1000)
  (av:∀(x:zA) (d:World),Ac [] w d->Calls prog 93 #[.pointer (V ⟨pb,0,Y⟩),O x,X .i64 6] d λe M=>e=.returned (X .i64 (C x))/\Ac [] d M) (K2:∀x,C x<=1000)
  (hF:bu l EM) (SS:I 0 []) (S1:∀n s,I n s->EM s) (RE:∀n s,I n s->I n (DZ l C n s).1/\((DZ l C n s).2=K->I (n+1) (DZ l C n s).1)/\((DZ l C n s).2=hG->Z s<Z (DZ l C n s).1)):
  Calls prog 29 #[.pointer (V ⟨pb,0,Y⟩)] w λr M=>∃(D:Option Addr) (E:Nat) (j:kJ BD),r=.returned (U D (Z j) E)/\D8 M (U D (Z j) E) j/\I 7 (j.map BD.f)/\Ac [] w M:=by
 have SP:=Ab (VN C pb NS HQ l w hP hR a7 av);have HP:=Ab hP;have NV:=Ab hR;have AB:=Ab hF;have ba:=Ab S1;have ch:=Ab RE;have cb:=Ab SS;have b9:=Ab K2;clear hP hR av hF S1 RE SS K2;go_enter func29,ntmps29;go_wp2_with fail
 refine SP.mono ?_;rintro _ w1 ⟨c8,c2,rfl,QQ,k1⟩;have br:=Ab QQ;have ap:=Ab (HP.kept k1);have LS:=Ab (NV.kept k1);have a3:=Ab k1;clear SP HP NV QQ k1;go_wp2_with fail
 go_loopg [3,5] 7 (λgk sv i wr=>∃(n:Nat) (j:kJ BD) (L:Option Addr) (H:Nat),sv=U L (Z j) H/\i=X .i64 n/\n<=7/\gk=7-n/\kt (I n (j.map BD.f))/\kt (D8 wr (U L (Z j) H) j)/\kt (Ac [] w1 wr))
 case atStart=>exact⟨0,[],Y,0,rfl,rfl,by omega,rfl,cb,⟨fK _ _ _ _,by simp⟩,kL _ _⟩
 case round=>
  obtain⟨n,j,L,H,rfl,rfl,hn,PT,HI,A,u⟩:=hrel;have b7:=Ab PT;clear PT;by_cases c9:n<=6
  ·(have cx:(n:Int)<=6:=by omega);go_wp2_with fail
   go_loopg [3,6] (6913-Z j) (λgk sv mv wr=>∃(o:Bool) (j:kJ BD) (L:Option Addr) (H:Nat),sv=U L (Z j) H/\mv=.bool o/\gk=(if o then 6913-Z j else 0)/\kt (if o then I n (j.map BD.f)else I (n+1) (j.map BD.f))/\kt (D8 wr (U L (Z j) H) j)/\kt (Ac [] w1 wr))
   case atStart=>exact⟨hG,j,L,H,rfl,rfl,rfl,HI,A,u⟩
   case round=>
    clear HI A u;obtain⟨o,j,L,H,rfl,rfl,HN,HI,A,u⟩:=hrel;have bv:=Ab HN;clear HN;cases o with
    |false=>
     have H6:kt (I (n+1) (j.map BD.f)):=HI;clear HI;go_wp2
     go_roundg (7-(n+1))
     case measure=>have:=Aa b7;omega
     case rel=>exact⟨n+1,j,L,H,rfl,by go_num,by omega,rfl,H6,A,u⟩
    |true=>
     have H6:kt (I n (j.map BD.f)):=HI;have Op:=Ab (ba n _ H6);clear HI;obtain⟨T,LM⟩:=kK (j.map BD.f);(have b6:kt (Z j=Z T):=by show _=_;rw[<-LM,fH]);have Pl:=Ab LM;clear LM;go_wp2_with fail
     go_loopg [3,6,7] (Z l) (λgk sv mv i wr=>∃(k:Nat) (o:Bool) (j:kJ BD) (L:Option Addr) (H:Nat),sv=U L (Z j) H/\mv=.bool o/\i=X .i64 k/\k<=Z l/\gk=Z l-k/\kt ((l.take k).foldl (CO C n) (T,K)=(j.map BD.f,o))/\kt (EM (j.map BD.f))/\kt (D8 wr (U L (Z j) H) j)/\kt (Ac [] w1 wr))
     case atStart=>exact⟨0,K,j,L,H,rfl,rfl,rfl,by omega,rfl,(by show _=_;rw[<-Aa Pl];rfl),Op,A,u⟩
     case round=>
      clear A u;obtain⟨k,o,z,KS,H8,rfl,rfl,rfl,hk,an,HC,HJ,A,u⟩:=hrel;have WB:=Ab an;clear an;have p0:=(ap.kept u).cell 0;simp at p0;by_cases FF:k<Z l
      .obtain⟨g,d5,b,HD,FB,Mo,L0,bl,a5,TV,HG,HU,d0,d1,d2,d3⟩:=Iu (LS.kept u) k FF;simp only[fg]at TV;obtain⟨rfl,_,rfl⟩:=TV;obtain⟨ga,c5,VL,l0⟩:=dP (Ad br u) k FF;simp only[fg]at VL;obtain⟨rfl,_,rfl⟩:=VL;have Ax:l[k]∈l:=fj FF;rw[HG]at l0 Ax;simp only at l0;have HY:kt ((l.take (k+1)).foldl (CO C n) (T,K)=CO C n (z.map BD.f,o) ⟨b,U HD (Z b.args) FB,U Mo (Z bl) L0,bl,a5⟩):=by
        show _=_;rw[fm FF,gM,Aa HC,HG];rfl
       have K2:=Aa b9 b.name;(have d4:(0:Int)<=(k:Int):=by omega);(have dT:(k:Int)<(Z l:Int):=by omega);obtain⟨lv,HX⟩:=kK (C b.name);rw[HX]at l0 K2;by_cases K4:lv=n
       ·(have a1:((lv:Int) !=(n:Int))=K:=by simp[K4]);have ek:=Ab HU;have ab:=Ab HG;obtain⟨c,hc⟩:∃c:AY,c=⟨b,U HD (Z b.args) FB,U Mo (Z bl) L0,bl,a5⟩:=⟨_,rfl⟩;rw[<-hc]at Ax HY;(have HR:Ak c=bl.map Prod.fst:=by rw[hc];rfl);(have K1:c.bl=bl:=by rw[hc]);(have FW:c.head=b:=by rw[hc]);(have N2:C c.head.name=n:=by rw[FW,HX,K4]);have E0:kt ((l.take (k+1)).foldl (CO C n) (T,K)=(Cp (bl.map Prod.fst) (z.map BD.f)).foldl (G3 c) (z.map BD.f,o)):=by
         have h:=Aa HY;rw[h];show CO C n (z.map BD.f,o) c=_;unfold CO;rw[fF N2,HR]
        (have RB:Z z<=6912:=by have:=AB.len _ HJ;rw[fH]at this;exact this);have LL:=Ab (XH Mo L0 bl KS H8 z wr HU.body HU.lits A (by have:=AB.body c Ax;rw[K1]at this;exact this) RB (by have:=AB.args c Ax;rw[K1]at this;exact this) (by have:=AB.lit _ HJ c Ax;rw[HR,K1]at this;exact this));have NY:kt (∀e∈Cp (bl.map Prod.fst) (z.map BD.f),O0 (Av e b)/\Z e=26/\∀s,EM s->EM (Ba s (Av e b))):=by
         intro e he;have h1:=AB.fact _ HJ c Ax e (by rw[HR];exact he);rw[FW]at h1;refine⟨h1,Zc e he,λs hs=>?_⟩;have h2:=AB.add _ s HJ hs c Ax e (by rw[HR];exact he);rw[FW]at h2;exact h2
        (have TT:kt ((∀t∈b.args,OG t)/\Z b.args<=1000):=by have:=AB.head c Ax;rw[FW]at this;exact this);(have ar:kt (∀a e,G3 c a e=if DI a.1 (Av e b)then a else(Ba a.1 (Av e b),hG)):=λa e=>by unfold G3;rw[FW]);obtain⟨G,SL⟩:=kK (Cp (bl.map Prod.fst) (z.map BD.f));rw[SL]at E0 LL NY;generalize G3 c=AH at E0 ar;clear HY HC HG HU Ax hc HR K1 FW N2 SL HX;(go_wp2_with fail);refine LL.mono ?_;rintro _ w5 ⟨c3,ea,rfl,OH,k5⟩;have MB:=Ab OH;have MN:=Ab (u.trans k5);have ST:=Ab (A.kept k5);have c4:=k5.size;clear LL OH k5 A u;go_wp2_with fail
        go_loopg [3,6,9] (Z G) (λgk sv mv i wr=>∃(m:Nat) (BT:Bool) (y:kJ BD) (AT:Option Addr) (Bx:Nat),sv=U AT (Z y) Bx/\mv=.bool BT/\i=X .i64 m/\m<=Z G/\gk=Z G-m/\kt ((G.take m).foldl AH (z.map BD.f,o)=(y.map BD.f,BT))/\kt (EM (y.map BD.f))/\kt (D8 wr (U AT (Z y) Bx) y)/\kt (Ac [] w5 wr))
        case atStart=>exact⟨0,o,z,KS,H8,rfl,rfl,rfl,by omega,rfl,rfl,HJ,ST,kL _ _⟩
        case round=>
         clear ST;obtain⟨m,BT,y,AT,Bx,rfl,rfl,rfl,hm,HN,HA,H4,A,u⟩:=hrel;have RV:=Ab HN;clear HN;by_cases H5:m<Z G
         .obtain⟨gl,eg,VR,d6,r0⟩:=IF (MB.kept u) m H5;simp only[fg]at VR;obtain⟨rfl,_,rfl⟩:=VR;obtain⟨e,he⟩:=kK (G[m]);obtain⟨TS,UO,al⟩:=NY e (by rw[<-he];exact fj H5);have H1:=Ab (al _ H4);have K7:=Ab TS;have FC:kt ((G.take (m+1)).foldl AH (z.map BD.f,o)=if DI (y.map BD.f) (Av e b)then(y.map BD.f,BT)else(Ba (y.map BD.f) (Av e b),hG)):=by
           show _=_;rw[fm H5,gM,Aa HA,he];exact ar _ _
          have cv:=Xt MB.row;(have cr:(0:Int)<=(m:Int):=by omega);(have dc:(m:Int)<(Z G:Int):=by omega);have HF:kt (∀d,Ac [] wr d->Calls prog 60 #[.agg (Ai e).toArray,.agg #[O b.name,U HD (Z b.args) FB,X .i64 b.at_]] d λr M=>∃D E,r=.returned (.agg (Bp ⟨Av e b,U D (Z b.args) E⟩).toArray)/\Ew M ⟨Av e b,U D (Z b.args) E⟩/\(∀q,(U D (Z b.args) E).ownBlock=V q->d.heap.size<=q)/\Ac [] d M):=by
           intro d S;have TL:=(LS.kept ((MN.trans u).trans S)).each _ (fj FF);rw[Aa ab]at TL;exact Nv e b HD FB d UO TL.args TT.2 TT.1
          have Jx:kt (∀d,Ac [] wr d->d.rangeAt gl (m*26) (Ai e)/\d.cell? ⟨pb,0,Y⟩=V (U (V ⟨g,0,Y⟩) (Z l) HQ)/\d.cell? ⟨g,k*5,Y⟩=V (O b.name)/\d.cell? ⟨g,k*5+1,Y⟩=V (U HD (Z b.args) FB)/\d.cell? ⟨g,k*5+2,Y⟩=V (X .i64 b.at_)):=by
           intro d S;have ag:=(MN.trans u).trans S;obtain⟨g',c0,cB,cR,d7,d8,cy,c7,cz,W1,M0,_,f0,f1,f2,f3⟩:=Iu (LS.kept ag) k FF;simp only[fg,fu,gi]at W1;obtain⟨⟨rfl,_,_⟩,_,_⟩:=W1;rw[Aa ab]at M0;simp only[AY.mk.injEq,fg]at M0;obtain⟨rfl,⟨rfl,_,rfl⟩,_⟩:=M0;have q0:=(ap.kept ag).cell 0;simp at q0;obtain⟨g',db,Os,_,r'⟩:=IF (MB.kept (u.trans S)) m H5;simp only[fg,fu,gi]at Os;obtain⟨⟨rfl,_,_⟩,_,_⟩:=Os;rw[he]at r';exact⟨r',q0,f0,f1,f2⟩
          clear he r0 HA al TS;(have c6:Z y<=6912:=by have:=AB.len _ H4;rw[fH]at this;exact this);have NL:kt (∀v d,Ac [] wr d->Ew d ⟨Av e b,v⟩->Calls prog 21 #[U AT (Z y) Bx,.agg (Bp ⟨Av e b,v⟩).toArray] d λe' M=>e'=.returned (.bool (DI (y.map BD.f) (Av e b)))/\Ac [] d M):=by
           intro v d S FO;have h:=JZ AT Bx y ⟨Av e b,v⟩ d (A.kept S) FO (by omega) K7;(have hh:(y.any λp=>Cl p.f (Av e b))=DI (y.map BD.f) (Av e b):=by unfold DI;rw[jy];rfl);rw[hh]at h;exact h
          have IS:kt (∀v d,Ac [] wr d->Ew d ⟨Av e b,v⟩->Calls prog 22 #[U AT (Z y) Bx,.agg (Bp ⟨Av e b,v⟩).toArray] d λe' M=>∃(D:Option Addr) (E:Nat) (CC:kJ BD),e'=.returned (U D (Z CC) E)/\D8 M (U D (Z CC) E) CC/\CC.map BD.f=Ba (y.map BD.f) (Av e b)/\Ac [] d M):=by
           intro v d S FO;refine(Re AT Bx y ⟨Av e b,v⟩ d (A.kept S) FO (by omega) K7).mono ?_;rintro e' M ⟨D,E,rfl,h1,h2⟩;exact⟨D,E,_,rfl,h1,Nw y ⟨Av e b,v⟩,h2⟩
          (have HE:kt (∀D E,Bp ⟨Av e b,U D (Z b.args) E⟩=[O b.name,U D (Z b.args) E]):=λD E=>rfl);obtain⟨EK,K8⟩:=kK (Ai e);(have b4:Z EK=26:=by rw[<-K8,B6,UO]);rw[K8]at HF Jx;generalize Av e b=FP at HF FC NL IS HE H1 K7;clear K8;have hu:=underlying141;(have hi:(prog.info? 141).map (·.size)=V (Z EK):=by rw[b4];exact Tryz.size141);obtain⟨N,K9⟩:=kK b.name;obtain⟨ja,W0⟩:=kK b.at_;obtain⟨F,LC⟩:=kK (Z b.args);rw[K9,W0,LC]at HF Jx;rw[K9,LC]at HE;clear K9 W0 LC d0 d1 d2 d3 l0;go_wp2_with fail
          go_region_held3 (λd=>Ac [] wr d/\d.rangeAt gl (m*26) EK/\d.cell? ⟨pb,0,Y⟩=V (U (V ⟨g,0,Y⟩) (Z l) HQ)/\d.cell? ⟨g,k*5,Y⟩=V (O N)/\d.cell? ⟨g,k*5+1,Y⟩=V (U HD F FB)/\d.cell? ⟨g,k*5+2,Y⟩=V (X .i64 ja)) ((go_split_ands;refine(fun(S:Ac [] wr _)=>And.intro S (Jx _ S)) ?_;repeat (first|assumption|exact kL [] _|refine Ac.drew ?_|refine Ac.alloc ?_ _|(refine Ac.setCell ?_ (Or.inr (by first|omega|(simp;done)|(simp;omega))) _)))) ((go_at_call 60;refine(HF _ (by go_split_ands;assumption)).mono ?_;rintro _ R ⟨Q,P,rfl,FO,TX,k3⟩;rw[Aa HE];have W2:Ac [] wr R:=(by go_split_ands;exact Ac.trans (by assumption) k3);(try (have HW:=YX k3;have y0:=HW.cell 0;have y1:=HW.cell 1;have yf:=HW.frozen;simp at y0 y1));have NX:=W2.size;have H3:=Ab FO;have M6:=Ab TX;have YP:=Ab k3;clear k3 FO TX))
          all_goals
           rename_i WS;have FA:=Ab WS.1;clear WS HF Jx
           first
            |(
              have BA:kt (AF ((R.setCell ⟨wr.heap.size,0,Y⟩ (O N)).setCell ⟨wr.heap.size,1,Y⟩ (U Q F P)) wr.heap.size [O N,U Q F P] 63):=(HW.set 0 _).set 1 _
              have K3:(U Q F P).ownBlock≠V wr.heap.size:=λh=>by have:=Aa M6 _ h;simp at this;omega
              have CW:kt (Ew ((R.setCell ⟨wr.heap.size,0,Y⟩ (O N)).setCell ⟨wr.heap.size,1,Y⟩ (U Q F P)) ⟨FP,U Q F P⟩):=Af (Af H3 (p:=⟨wr.heap.size,0,Y⟩) K3 _) (p:=⟨wr.heap.size,1,Y⟩) K3 _
              obtain⟨B,hB⟩:=kK wr.heap.size
              rw[hB]at BA FA CW⊢
              clear HW y0 y1 yf NX YP H3 M6 K3 hB
              generalize(R.setCell ⟨B,0,Y⟩ (O N)).setCell ⟨B,1,Y⟩ (U Q F P)=W at BA FA CW⊢)
            |(
              have BA:kt (AF (R.alloc (.cells #[O N,U Q F P] 63)) R.heap.size [O N,U Q F P] 63):=kN R [O N,U Q F P] 63
              have CW:kt (Ew (R.alloc (.cells #[O N,U Q F P] 63)) ⟨FP,U Q F P⟩):=H3.kept ((kL [] R).alloc _)
              obtain⟨B,hB⟩:=kK R.heap.size
              rw[hB]at BA⊢
              clear NX YP H3 M6 hB
              generalize R.alloc (.cells #[O N,U Q F P] 63)=W at BA FA CW⊢)
           clear W2;have x0:=BA.cell 0;have x1:=BA.cell 1;simp at x0 x1;have H2:=Ab (NL _ W FA CW);rw[Aa HE]at H2;obtain⟨HB,N4⟩:=kK (DI (y.map BD.f) FP);rw[N4]at H2 FC;clear N4 NL;(go_wp2_with fail);refine H2.mono ?_;rintro _ w6 ⟨rfl,k6⟩;have Go:=Ab (FA.trans k6);have MY:=BA.kept k6;have z0:=MY.cell 0;have z1:=MY.cell 1;simp at z0 z1;have Nq:=Ab (CW.kept k6);clear MY x0 x1 BA FA CW H2 k6;cases HB with
           |true=>
            have LB:kt ((G.take (m+1)).foldl AH (z.map BD.f,o)=(y.map BD.f,BT)):=FC;have NA:=Ab (u.trans Go);have NE:=Ab (A.kept Go);clear FC A u IS H1 Nq;go_wp2
            go_roundg (Z G-(m+1))
            case measure=>have:=Aa RV;omega
            case rel=>exact⟨m+1,BT,y,AT,Bx,rfl,rfl,by go_num,by omega,rfl,LB,H4,NE,NA⟩
           |false=>
            have FL:=Ab (IS _ w6 Go Nq);rw[Aa HE]at FL;clear IS;(go_wp2_with fail);refine FL.mono ?_;rintro _ w7 ⟨b3,bp,CC,rfl,XS,K5,k7⟩;have LB:kt ((G.take (m+1)).foldl AH (z.map BD.f,o)=(CC.map BD.f,hG)):=by
             show _=_;rw[K5];exact FC
            (have a4:kt (EM (CC.map BD.f)):=by rw[K5];exact H1);have NA:=Ab ((u.trans Go).trans k7);have NE:=Ab XS;clear FC A u H1 Nq FL XS K5 k7 z0 z1;go_wp2
            go_roundg (Z G-(m+1))
            case measure=>have:=Aa RV;omega
            case rel=>exact⟨m+1,hG,CC,b3,bp,rfl,rfl,by go_num,by omega,rfl,LB,a4,NE,NA⟩
         .have a8:kt ((l.take (k+1)).foldl (CO C n) (T,K)=(y.map BD.f,BT)):=by
           have h:=Aa HA;rw[fo (by omega)]at h;exact E0.trans h
          have Go:=Ab (MN.trans u);clear HA E0;go_wp2
          go_roundg (Z l-(k+1))
          case measure=>have:=Aa WB;omega
          case rel=>exact⟨k+1,BT,y,AT,Bx,rfl,rfl,by go_num,by omega,rfl,a8,H4,A,Go⟩
       ·(have a1:((lv:Int) !=(n:Int))=hG:=by simp[bne];omega);have E0:kt ((l.take (k+1)).foldl (CO C n) (T,K)=(z.map BD.f,o)):=by
         have h:=Aa HY;unfold CO at h⊢;rw[fB (by simp only;rw[HX];exact K4)]at h;exact h
        clear HY HC HG HU Ax HX;go_wp2
        go_roundg (Z l-(k+1))
        case measure=>have:=Aa WB;omega
        case rel=>exact⟨k+1,o,z,KS,H8,rfl,rfl,by go_num,by omega,rfl,E0,HJ,A,u⟩
      .have FL:kt (DZ l C n T=(z.map BD.f,o)):=by
        have h:=Aa HC;rw[fo (by omega)]at h;exact h
       have K6:kt ((if o then I n (z.map BD.f)else I (n+1) (z.map BD.f))/\(o=hG->Z j<Z z)):=by
        have hI:=Aa H6;rw[Aa Pl]at hI;have h:=Aa ch n T hI;rw[Aa FL]at h;refine⟨?_,λhm=>?_⟩
        .cases o with
         |true=>exact h.1
         |false=>exact h.2.1 rfl
        .have:=h.2.2 hm;rw[fH]at this;have:=Aa b6;omega
       (have RB:Z z<=6912:=by have:=AB.len _ HJ;rw[fH]at this;exact this);have b0:=Ab K6.1;have b1:=K6.2;clear HC FL K6;go_wp2
       go_roundg (if o then 6913-Z z else 0)
       case measure=>
        have h1:=Aa bv;rw[fF True.intro]at h1;cases o with
        |true=>have:=b1 rfl;simp;omega
        |false=>have:=AB.len _ Op;rw[fH]at this;simp;omega
       case rel=>exact⟨o,z,KS,H8,rfl,rfl,rfl,b0,A,u⟩
  ·(have ca:n=7:=by omega);subst ca;go_wp2;go_ret;exact⟨L,H,j,rfl,A,HI,a3.trans u⟩
def Q2(cs:kJ AY)(s:kJ Ag):Prop:=D5 s/\∀f∈s,FV cs f
def Jj.ze{a:zA->Nat}(h:Jj c a n f):Q2 c f:=⟨h.zH,h.zX⟩
def Oi{a:kJ AY}(hF:N6 a):∀x∈consts a,0<x.size/\x.size<=1000000:=by
 intro x b;unfold consts at b;obtain⟨c,h,d⟩:=gc.1 b;obtain⟨t,g,rfl⟩:=fC.1 d;obtain⟨f,e⟩:=fT.1 g;exact(hF.full c h).head t f (by simpa using e)
def CS.fit{t:AG}(h:CS t):OG t:=by
 rcases h with h|h
 .exact Or.inl h.1
 .exact Or.inr ⟨h.1,h.2.1⟩
def CX.fit{l:kJ AY}(h:CX l)(hF:N6 l):bu l (Q2 l):=by
 obtain⟨AH,r⟩:=h.order.small;have F:∀s,Q2 l s->∀f∈s,Kh f:=λs b f o=>AQ.zN ((b.2 f o).canon h.prog.zL)
 have S:∀s,Q2 l s->∀c∈l,∀e∈(Ak c).foldl (B1 s) [BM],∀t,Gx (Ak c) t->t.v≠0->0<(AJ e t).size/\(AJ e t).size<=1000000:=by
  intro s b c a e d t g i;obtain⟨_,_,_,_,E⟩:=DE (F s b) (Ak c) [BM] (λe d=>by simp at d;rw[d];rfl) (h.prog.zN.args c a) e d;rcases g with j|⟨y,W,n,u,hu,AB⟩
  .exact absurd j i
  .have j:=(b.2 _ (E y W n).1).args (AJ e u) (fW hu);have m:=Oi hF _ j;(have G:AJ e u=AJ e t:=by unfold AJ;rw[AB,fB i,fB i]);rw[G]at m;exact m
 have I:∀s,Q2 l s->∀c∈l,∀e∈(Ak c).foldl (B1 s) [BM],∀p∈c.bl,∀t∈A2 p,Gx (Ak c) t->0<(AJ e t).size/\(AJ e t).size<=1000000:=by
  intro s b c a e d p k t g E;by_cases i:t.v=0
  .have j:=(hF.full c a).body p k t g i;unfold AJ;rw[fF i];exact j
  .exact S s b c a e d t E i
 refine⟨λs b=>?_,λc a=>(r c a).1,λc a p k n=>?_,λs b c a e d p k n=>?_,λc a=>⟨λt g=>((h.zL c a).args t g).fit,by have:=(r c a).2.1;omega⟩,λs b c a e d=>?_,λT s i b c a e d=>?_⟩
 .exact h.order.few s (b.1.nodup λf o=>(b.2 f o).canon h.prog.zL) b.2
 .have w:=(r c a).2.2 p k;refine⟨h.prog.zN.args c a p.1 (fW k) n,?_⟩;unfold Bo at w;have m:¬2<Z p.1.A.args:=jV w;omega
 .have w:=(r c a).2.2 p k;unfold Bo at w;have m:¬2<Z p.1.A.args:=jV w;have P:p.1∈Ak c:=fW k;have q:=h.lits c a p.1 P;have M:=h.prog.zN.safe c a p.1 P n;refine⟨λC=>?_,λB=>?_⟩
  ·(have D:(p.1.kind==33)=hG:=by rw[n]at C;simpa using C);unfold DN at q;rw[fF C]at q;(have z:A2 p=p.1.A.args:=by unfold A2 On;rw[C];rfl);refine⟨λt g=>(q.args t g).fit,by omega,⟨by simp[Av];omega,λx H=>?_⟩⟩;obtain⟨t,g,rfl⟩:=fC.1 H;exact I s b c a e d p k t (by rw[z];exact g) (M.1 D t g)
  ·(have D:(p.1.kind==33)=K:=by rw[n]at B;simpa using B);unfold DN at q;rw[fB (by rw[B];simp)]at q;(have z:A2 p=[p.1.L,p.1.R]:=by unfold A2 On;rw[B];rfl);have N:=I s b c a e d p k p.1.L (by rw[z];simp) (M.2 D).1;have Q:=I s b c a e d p k p.1.R (by rw[z];simp) (M.2 D).2;exact⟨q.1.fit,q.2.1.fit,N.1,N.2,Q.1,Q.2⟩
 .have j:=Qd h.prog.zN b.2 (F s b) a d;refine⟨?_,λx H=>Oi hF x (j.args x H)⟩;have:=(r c a).2.1;simp[Av];omega
 .have j:=Qd h.prog.zN i.2 (F T i) a d;have m:=C0 (j.canon h.prog.zL) b.1 (λf o=>(b.2 f o).canon h.prog.zL);refine⟨m.1,λf o=>?_⟩;rcases(m.2.2 f).1 o with G|rfl
  .exact b.2 f G
  .exact j
def Lh(s:zA)(b:Nat)(a:Bool):(A3 s b a).1.size<=s.size:=by
 unfold A3;split
 .exact fP _
 .split
  .exact fP _
  .rw[iA];omega
def Ed.zero(h:Ed s 0 I):I=0:=by
 unfold Ed at h;split at h
 .exact absurd h.1 (by decide)
 .split at h
  .exact absurd h.1 (by decide)
  .obtain⟨cs,_,a⟩:=h;have b:=Hk (cs:=cs) (by rw[<-a]);rw[b]at a;exact(Prod.mk.inj a).2
