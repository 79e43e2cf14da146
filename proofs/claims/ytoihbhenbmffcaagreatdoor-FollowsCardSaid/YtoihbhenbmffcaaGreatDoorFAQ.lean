import Derived.Test.YtoihbhenbmffcaaGreatDoorFAJ
import Derived.Test.YtoihbhenbmffcaaGreatDoorFAO
set_option linter.all false
set_option maxHeartbeats 0
open List renaming length->Z
open Option renaming none->Y,some->V
open Go.Value renaming slice->U,int->X,string->O,pointer->m2
open Bool renaming false->K,true->jj
open Go.IntKind renaming i64->J
open Go.Ending renaming returned->oa
open Go.RowKit renaming Hid->p7
open ByteArray renaming empty->pF
namespace Go.Proofs.YtoihbhenbmffcaaGreatDoor
open Go.RowKit Go.Proofs.Tryz
variable{w u:World}{n m k:Nat}{z:Value}{T:TypeId}{y:pM Value}{c:pM A4}{f:pM Af}{s:zA}{I:Int}
structure Zv(cs:pM A4)(J:pM Af->Prop):Prop where
 len:∀s,J s->Z s<=6912
 body:∀c∈cs,Z c.bl<=3
 args:∀c∈cs,∀p∈c.bl,(p.1.kind==97)=jj->(∀t∈p.1.A.args,BC t)/\Z p.1.A.args<=1000
 lit:∀s,J s->∀c∈cs,∀e∈(Al c).foldl (B7 s) [Bk],∀p∈c.bl,(p.1.kind==97)=K->Mj e p.1
 head:∀c∈cs,(∀t∈c.head.args,NH t)/\Z c.head.args<=1000
 fact:∀s,J s->∀c∈cs,∀e∈Bt (Al c) s,JP (Aq e c.head)
 add:∀s0 s,J s0->J s->∀c∈cs,∀e∈Bt (Al c) s0,J (A3 s (Aq e c.head))
def O8{d:pM Br}{s:pM Af}:∀e∈Bt d s,Z e=26:=by
 have j:∀(b:pM Br) (l:pM (pM zA)),(∀e∈l,Z e=26)->∀e∈b.foldl (B7 s) l,Z e=26:=by
  intro b
  induction b with
  |nil=>exact λl h=>h
  |cons x b ih=>
   intro l h;refine ih _ (λe a=>?_);unfold B7 at a;split at a
   .obtain⟨g,k,i⟩:=ma.1 a;obtain⟨f,_,c⟩:=m3.1 i;unfold Ih at c;split at c
    .cases c
     rw[FY];exact h g k
    .cases c
   .exact h e a
 intro e a;unfold Bt at a;exact j d [Bk] (by simp[Bk]) e (lK.1 a).1
def ji{a:pM A4}{b:zA->Nat}(h:w.ownsRow n 3 1 z (Z a) ((a.map λc=>b c.head.name).flatMap Cd))(k:Nat)(f:k<Z a):∃g e,z=U (V ⟨g,0,Y⟩) (Z a) e/\w.cell? ⟨g,k,Y⟩=V (X J (b a[k].head.name)):=by
 have j:w.ownsRow n 3 1 z (Z (a.map λc=>b c.head.name)) ((a.map λc=>b c.head.name).flatMap Cd):=by rw[lm];exact h
 obtain⟨g,e,i,_,l⟩:=AC j (λc _=>rfl) k (by simpa using f);have d:=l k (by simpa using f) 0 (by omega);rw[lm]at i;simp[Cd]at d;exact⟨g,e,i,d⟩
def Vm(h:w.ownsRow m T k z n y):n<=9223372036854775807:=by
 rcases h.2 with⟨_,f⟩|⟨g,d,b,_,_,_,c,a,_⟩
 .omega
 .unfold maxLen at a;omega
def cM(k:Ac [] (u.alloc (.cells #[O ⟨#[]⟩,U Y 0 0] 43)).drew w):AF w u.heap.size [O ⟨#[]⟩,U Y 0 0] 43:=(pP u [O ⟨#[]⟩,U Y 0 0] 43).drew.kept k
set_option maxRecDepth 100000
theorem cn(C:zA->Nat)(I:Nat->pM Af->Prop)(B0:pM Af->Prop)(pb:Nat)(MN:Option Addr)(HF:Nat)(l:pM A4)(w:World)(hP:AF w pb [U MN (Z l) HF] 76)(hR:Cl w (U MN (Z l) HF) l)(W0:Z l<=1000)
  (U1:∀(x:zA) (d:World),Ac [] w d->Calls prog 190 #[m2 (V ⟨pb,0,Y⟩),O x,X J 6] d λe M=>e=oa (X J (C x))/\Ac [] d M) (Ix:∀x,C x<=1000)
  (hF:Zv l B0) (N4:I 0 []) (Os:∀n s,I n s->B0 s) (NM:∀n s,I n s->I n (Dq l C n s).1/\((Dq l C n s).2=K->I (n+1) (Dq l C n s).1)/\((Dq l C n s).2=jj->Z s<Z (Dq l C n s).1)):
  Calls prog 111 #[m2 (V ⟨pb,0,Y⟩)] w λr M=>∃(D:Option Addr) (E:Nat) (j:pM Bv),r=oa (U D (Z j) E)/\Cv M (U D (Z j) E) j/\I 7 (j.map Bv.f)/\Ac [] w M:=by
 have N2:=Ab (Yr C pb MN HF l w hP hR W0 U1);have HP:=Ab hP;have MY:=Ab hR;have AB:=Ab hF;have W3:=Ab Os;have a4:=Ab NM;have a2:=Ab N4;have a0:=Ab Ix;clear hP hR U1 hF Os NM N4 Ix;go_enter func111,ntmps111;go_wp2_with fail
 refine N2.mono ?_;rintro _ w1 ⟨b3,bv,rfl,NB,k1⟩;have X3:=Ab NB;have UO:=Ab (HP.kept k1);have K2:=Ab (MY.kept k1);have WB:=Ab k1;clear N2 HP MY NB k1;go_wp2_with fail
 go_loopg [3,5] 7 (λgk sv i wr=>∃(n:Nat) (j:pM Bv) (L:Option Addr) (H:Nat),sv=U L (Z j) H/\i=X J n/\n<=7/\gk=7-n/\p7 (I n (j.map Bv.f))/\p7 (Cv wr (U L (Z j) H) j)/\p7 (Ac [] w1 wr))
 case atStart=>exact⟨0,[],Y,0,rfl,rfl,by omega,rfl,a2,⟨lH _ _ _ _,by simp⟩,pO _ _⟩
 case round=>
  obtain⟨n,j,L,H,rfl,rfl,hn,Nx,HI,A,u⟩:=hrel;have aT:=Ab Nx;clear Nx;by_cases b4:n<=6
  ·(have ba:(n:Int)<=6:=by omega);go_wp2_with fail
   go_loopg [3,6] (6913-Z j) (λgk sv mv wr=>∃(o:Bool) (j:pM Bv) (L:Option Addr) (H:Nat),sv=U L (Z j) H/\mv=.bool o/\gk=(if o then 6913-Z j else 0)/\p7 (if o then I n (j.map Bv.f)else I (n+1) (j.map Bv.f))/\p7 (Cv wr (U L (Z j) H) j)/\p7 (Ac [] w1 wr))
   case atStart=>exact⟨jj,j,L,H,rfl,rfl,rfl,HI,A,u⟩
   case round=>
    clear HI A u;obtain⟨o,j,L,H,rfl,rfl,HD,HI,A,u⟩:=hrel;have aa:=Ab HD;clear HD;cases o with
    |false=>
     have HY:p7 (I (n+1) (j.map Bv.f)):=HI;clear HI;go_wp2
     go_roundg (7-(n+1))
     case measure=>have:=Aa aT;omega
     case rel=>exact⟨n+1,j,L,H,rfl,by go_num,by omega,rfl,HY,A,u⟩
    |true=>
     have HY:p7 (I n (j.map Bv.f)):=HI;have M6:=Ab (W3 n _ HY);clear HI;obtain⟨T,K1⟩:=pN (j.map Bv.f);(have av:p7 (Z j=Z T):=by show _=_;rw[<-K1,lm]);have Nq:=Ab K1;clear K1;go_wp2_with fail
     go_loopg [3,6,7] (Z l) (λgk sv mv i wr=>∃(k:Nat) (o:Bool) (j:pM Bv) (L:Option Addr) (H:Nat),sv=U L (Z j) H/\mv=.bool o/\i=X J k/\k<=Z l/\gk=Z l-k/\p7 ((l.take k).foldl (C6 C n) (T,K)=(j.map Bv.f,o))/\p7 (B0 (j.map Bv.f))/\p7 (Cv wr (U L (Z j) H) j)/\p7 (Ac [] w1 wr))
     case atStart=>exact⟨0,K,j,L,H,rfl,rfl,rfl,by omega,rfl,(by show _=_;rw[<-Aa Nq];rfl),M6,A,u⟩
     case round=>
      clear A u;obtain⟨k,o,z,H8,H0,rfl,rfl,rfl,hk,TX,HC,HJ,A,u⟩:=hrel;have RO:=Ab TX;clear TX;have p0:=(UO.kept u).cell 0;simp at p0;by_cases ES:k<Z l
      .obtain⟨g,ce,b,FF,DT,K4,K3,bl,a5,P0,FT,HL,d0,d1,d2,d3⟩:=Hv (K2.kept u) k ES;simp only[kS]at P0;obtain⟨rfl,_,rfl⟩:=P0;obtain⟨ga,b0,RB,l0⟩:=ji (Ad X3 u) k ES;simp only[kS]at RB;obtain⟨rfl,_,rfl⟩:=RB;have Ax:l[k]∈l:=kV ES;rw[FT]at l0 Ax;simp only at l0;have Dk:p7 ((l.take (k+1)).foldl (C6 C n) (T,K)=C6 C n (z.map Bv.f,o) ⟨b,U FF (Z b.args) DT,U K4 (Z bl) K3,bl,a5⟩):=by
        show _=_;rw[kW ES,mi,Aa HC,FT];rfl
       have Ix:=Aa a0 b.name;(have cb:(0:Int)<=(k:Int):=by omega);(have ca:(k:Int)<(Z l:Int):=by omega);obtain⟨lv,HO⟩:=pN (C b.name);rw[HO]at l0 Ix;by_cases IJ:lv=n
       ·(have VS:((lv:Int) !=(n:Int))=K:=by simp[IJ]);have cy:=Ab HL;have TK:=Ab FT;obtain⟨c,hc⟩:∃c:A4,c=⟨b,U FF (Z b.args) DT,U K4 (Z bl) K3,bl,a5⟩:=⟨_,rfl⟩;rw[<-hc]at Ax Dk;(have HG:Al c=bl.map Prod.fst:=by rw[hc];rfl);(have H9:c.bl=bl:=by rw[hc]);(have FA:c.head=b:=by rw[hc]);(have M2:C c.head.name=n:=by rw[FA,HO,IJ]);have CC:p7 ((l.take (k+1)).foldl (C6 C n) (T,K)=(Bt (bl.map Prod.fst) (z.map Bv.f)).foldl (Im c) (z.map Bv.f,o)):=by
         have h:=Aa Dk;rw[h];show C6 C n (z.map Bv.f,o) c=_;unfold C6;rw[ln M2,HG]
        (have NL:Z z<=6912:=by have:=AB.len _ HJ;rw[lm]at this;exact this);have KS:=Ab (OA K4 K3 bl H8 H0 z wr HL.body HL.lits A (by have:=AB.body c Ax;rw[H9]at this;exact this) NL (by have:=AB.args c Ax;rw[H9]at this;exact this) (by have:=AB.lit _ HJ c Ax;rw[HG,H9]at this;exact this));have M1:p7 (∀e∈Bt (bl.map Prod.fst) (z.map Bv.f),JP (Aq e b)/\Z e=26/\∀s,B0 s->B0 (A3 s (Aq e b))):=by
         intro e he;have h1:=AB.fact _ HJ c Ax e (by rw[HG];exact he);rw[FA]at h1;refine⟨h1,O8 e he,λs hs=>?_⟩;have h2:=AB.add _ s HJ hs c Ax e (by rw[HG];exact he);rw[FA]at h2;exact h2
        (have PT:p7 ((∀t∈b.args,NH t)/\Z b.args<=1000):=by have:=AB.head c Ax;rw[FA]at this;exact this);(have U0:p7 (∀a e,Im c a e=if C3 a.1 (Aq e b)then a else(A3 a.1 (Aq e b),jj)):=λa e=>by unfold Im;rw[FA]);obtain⟨G,N0⟩:=pN (Bt (bl.map Prod.fst) (z.map Bv.f));rw[N0]at CC KS M1;generalize Im c=AH at CC U0;clear Dk HC FT HL Ax hc HG H9 FA M2 N0 HO;(go_wp2_with fail);refine KS.mono ?_;rintro _ w5 ⟨bx,co,rfl,Nj,k5⟩;have K5:=Ab Nj;have K6:=Ab (u.trans k5);have Op:=Ab (A.kept k5);have bz:=k5.size;clear KS Nj k5 A u;go_wp2_with fail
        go_loopg [3,6,9] (Z G) (λgk sv mv i wr=>∃(m:Nat) (A2:Bool) (y:pM Bv) (AT:Option Addr) (A0:Nat),sv=U AT (Z y) A0/\mv=.bool A2/\i=X J m/\m<=Z G/\gk=Z G-m/\p7 ((G.take m).foldl AH (z.map Bv.f,o)=(y.map Bv.f,A2))/\p7 (B0 (y.map Bv.f))/\p7 (Cv wr (U AT (Z y) A0) y)/\p7 (Ac [] w5 wr))
        case atStart=>exact⟨0,o,z,H8,H0,rfl,rfl,rfl,by omega,rfl,rfl,HJ,Op,pO _ _⟩
        case round=>
         clear Op;obtain⟨m,A2,y,AT,A0,rfl,rfl,rfl,hm,HD,HA,HW,A,u⟩:=hrel;have NV:=Ab HD;clear HD;by_cases HX:m<Z G
         .obtain⟨gl,cx,RE,cf,r0⟩:=G4 (K5.kept u) m HX;simp only[kS]at RE;obtain⟨rfl,_,rfl⟩:=RE;obtain⟨e,he⟩:=pN (G[m]);obtain⟨Pl,QR,TV⟩:=M1 e (by rw[<-he];exact kV HX);have HT:=Ab (TV _ HW);have JA:=Ab Pl;have EM:p7 ((G.take (m+1)).foldl AH (z.map Bv.f,o)=if C3 (y.map Bv.f) (Aq e b)then(y.map Bv.f,A2)else(A3 (y.map Bv.f) (Aq e b),jj)):=by
           show _=_;rw[kW HX,mi,Aa HA,he];exact U0 _ _
          have a9:=Vm K5.row;(have a8:(0:Int)<=(m:Int):=by omega);(have b6:(m:Int)<(Z G:Int):=by omega);have FO:p7 (∀d,Ac [] wr d->Calls prog 48 #[.agg (Aj e).toArray,.agg #[O b.name,U FF (Z b.args) DT,X J b.at_]] d λr M=>∃D E,r=oa (.agg (Be ⟨Aq e b,U D (Z b.args) E⟩).toArray)/\Dx M ⟨Aq e b,U D (Z b.args) E⟩/\(∀q,(U D (Z b.args) E).ownBlock=V q->d.heap.size<=q)/\Ac [] d M):=by
           intro d S;have OH:=(K2.kept ((K6.trans u).trans S)).each _ (kV ES);rw[Aa TK]at OH;exact LW e b FF DT d QR OH.args PT.2 PT.1
          have H5:p7 (∀d,Ac [] wr d->d.rangeAt gl (m*26) (Aj e)/\d.cell? ⟨pb,0,Y⟩=V (U (V ⟨g,0,Y⟩) (Z l) HF)/\d.cell? ⟨g,k*5,Y⟩=V (O b.name)/\d.cell? ⟨g,k*5+1,Y⟩=V (U FF (Z b.args) DT)/\d.cell? ⟨g,k*5+2,Y⟩=V (X J b.at_)):=by
           intro d S;have TS:=(K6.trans u).trans S;obtain⟨g',bs,bn,br,ch,cl,bb,b2,bd,SJ,K8,_,f0,f1,f2,f3⟩:=Hv (K2.kept TS) k ES;simp only[kS,ld,lW]at SJ;obtain⟨⟨rfl,_,_⟩,_,_⟩:=SJ;rw[Aa TK]at K8;simp only[A4.mk.injEq,kS]at K8;obtain⟨rfl,⟨rfl,_,rfl⟩,_⟩:=K8;have q0:=(UO.kept TS).cell 0;simp at q0;obtain⟨g',b5,Nd,_,r'⟩:=G4 (K5.kept (u.trans S)) m HX;simp only[kS,ld,lW]at Nd;obtain⟨⟨rfl,_,_⟩,_,_⟩:=Nd;rw[he]at r';exact⟨r',q0,f0,f1,f2⟩
          clear he r0 HA TV Pl;(have b1:Z y<=6912:=by have:=AB.len _ HW;rw[lm]at this;exact this);have Mo:p7 (∀v d,Ac [] wr d->Dx d ⟨Aq e b,v⟩->Calls prog 21 #[U AT (Z y) A0,.agg (Be ⟨Aq e b,v⟩).toArray] d λe' M=>e'=oa (.bool (C3 (y.map Bv.f) (Aq e b)))/\Ac [] d M):=by
           intro v d S EY;have h:=Jv AT A0 y ⟨Aq e b,v⟩ d (A.kept S) EY (by omega) JA;(have hh:(y.any λp=>DJ p.f (Aq e b))=C3 (y.map Bv.f) (Aq e b):=by unfold C3;rw[n6];rfl);rw[hh]at h;exact h
          have H4:p7 (∀v d,Ac [] wr d->Dx d ⟨Aq e b,v⟩->Calls prog 57 #[U AT (Z y) A0,.agg (Be ⟨Aq e b,v⟩).toArray] d λe' M=>∃(D:Option Addr) (E:Nat) (BA:pM Bv),e'=oa (U D (Z BA) E)/\Cv M (U D (Z BA) E) BA/\BA.map Bv.f=A3 (y.map Bv.f) (Aq e b)/\Ac [] d M):=by
           intro v d S EY;refine(OF AT A0 y ⟨Aq e b,v⟩ d (A.kept S) EY (by omega) JA).mono ?_;rintro e' M ⟨D,E,rfl,h1,h2⟩;exact⟨D,E,_,rfl,h1,LX y ⟨Aq e b,v⟩,h2⟩
          (have FL:p7 (∀D E,Be ⟨Aq e b,U D (Z b.args) E⟩=[O b.name,U D (Z b.args) E]):=λD E=>rfl);obtain⟨EK,JJ⟩:=pN (Aj e);(have ap:Z EK=26:=by rw[<-JJ,Ci,QR]);rw[JJ]at FO H5;generalize Aq e b=FP at FO EM Mo H4 FL HT JA;clear JJ;have hu:=underlying90;(have hi:(prog.info? 90).map (·.size)=V (Z EK):=by rw[ap];exact Tryz.zF);obtain⟨N,KA⟩:=pN b.name;obtain⟨ja,SB⟩:=pN b.at_;obtain⟨F,KD⟩:=pN (Z b.args);rw[KA,SB,KD]at FO H5;rw[KA,KD]at FL;clear KA SB KD d0 d1 d2 d3 l0;go_wp2_with fail
          go_region_held3 (λd=>Ac [] wr d/\d.rangeAt gl (m*26) EK/\d.cell? ⟨pb,0,Y⟩=V (U (V ⟨g,0,Y⟩) (Z l) HF)/\d.cell? ⟨g,k*5,Y⟩=V (O N)/\d.cell? ⟨g,k*5+1,Y⟩=V (U FF F DT)/\d.cell? ⟨g,k*5+2,Y⟩=V (X J ja)) ((go_split_ands;refine(fun(S:Ac [] wr _)=>And.intro S (H5 _ S)) ?_;repeat (first|assumption|exact pO [] _|refine Ac.drew ?_|refine Ac.alloc ?_ _|(refine Ac.setCell ?_ (Or.inr (by first|omega|(simp;done)|(simp;omega))) _)))) ((go_at_call 48;refine(FO _ (by go_split_ands;assumption)).mono ?_;rintro _ R ⟨Q,P,rfl,EY,QQ,k3⟩;rw[Aa FL];have SK:Ac [] wr R:=(by go_split_ands;exact Ac.trans (by assumption) k3);(try (have HN:=cM k3;have y0:=HN.cell 0;have y1:=HN.cell 1;have yf:=HN.frozen;simp at y0 y1));have M0:=SK.size;have HV:=Ab EY;have LB:=Ab QQ;have ST:=Ab k3;clear k3 EY QQ))
          all_goals
           rename_i RT;have CL:=Ab RT.1;clear RT FO H5
           first
            |(
              have A1:p7 (AF ((R.setCell ⟨wr.heap.size,0,Y⟩ (O N)).setCell ⟨wr.heap.size,1,Y⟩ (U Q F P)) wr.heap.size [O N,U Q F P] 43):=(HN.set 0 _).set 1 _
              have IA:(U Q F P).ownBlock≠V wr.heap.size:=λh=>by have:=Aa LB _ h;simp at this;omega
              have BT:p7 (Dx ((R.setCell ⟨wr.heap.size,0,Y⟩ (O N)).setCell ⟨wr.heap.size,1,Y⟩ (U Q F P)) ⟨FP,U Q F P⟩):=Ag (Ag HV (p:=⟨wr.heap.size,0,Y⟩) IA _) (p:=⟨wr.heap.size,1,Y⟩) IA _
              obtain⟨B,hB⟩:=pN wr.heap.size
              rw[hB]at A1 CL BT⊢
              clear HN y0 y1 yf M0 ST HV LB IA hB
              generalize(R.setCell ⟨B,0,Y⟩ (O N)).setCell ⟨B,1,Y⟩ (U Q F P)=W at A1 CL BT⊢)
            |(
              have A1:p7 (AF (R.alloc (.cells #[O N,U Q F P] 43)) R.heap.size [O N,U Q F P] 43):=pP R [O N,U Q F P] 43
              have BT:p7 (Dx (R.alloc (.cells #[O N,U Q F P] 43)) ⟨FP,U Q F P⟩):=HV.kept ((pO [] R).alloc _)
              obtain⟨B,hB⟩:=pN R.heap.size
              rw[hB]at A1⊢
              clear M0 ST HV LB hB
              generalize R.alloc (.cells #[O N,U Q F P] 43)=W at A1 CL BT⊢)
           clear SK;have x0:=A1.cell 0;have x1:=A1.cell 1;simp at x0 x1;have HU:=Ab (Mo _ W CL BT);rw[Aa FL]at HU;obtain⟨HB,M3⟩:=pN (C3 (y.map Bv.f) FP);rw[M3]at HU EM;clear M3 Mo;(go_wp2_with fail);refine HU.mono ?_;rintro _ w6 ⟨rfl,k6⟩;have FB:=Ab (CL.trans k6);have K7:=A1.kept k6;have z0:=K7.cell 0;have z1:=K7.cell 1;simp at z0 z1;have LC:=Ab (BT.kept k6);clear K7 x0 x1 A1 CL BT HU k6;cases HB with
           |true=>
            have KB:p7 ((G.take (m+1)).foldl AH (z.map Bv.f,o)=(y.map Bv.f,A2)):=EM;have LM:=Ab (u.trans FB);have L0:=Ab (A.kept FB);clear EM A u H4 HT LC;go_wp2
            go_roundg (Z G-(m+1))
            case measure=>have:=Aa NV;omega
            case rel=>exact⟨m+1,A2,y,AT,A0,rfl,rfl,by go_num,by omega,rfl,KB,HW,L0,LM⟩
           |false=>
            have EX:=Ab (H4 _ w6 FB LC);rw[Aa FL]at EX;clear H4;(go_wp2_with fail);refine EX.mono ?_;rintro _ w7 ⟨ao,X2,BA,rfl,SP,IS,k7⟩;have KB:p7 ((G.take (m+1)).foldl AH (z.map Bv.f,o)=(BA.map Bv.f,jj)):=by
             show _=_;rw[IS];exact EM
            (have WS:p7 (B0 (BA.map Bv.f)):=by rw[IS];exact HT);have LM:=Ab ((u.trans FB).trans k7);have L0:=Ab SP;clear EM A u HT LC EX SP IS k7 z0 z1;go_wp2
            go_roundg (Z G-(m+1))
            case measure=>have:=Aa NV;omega
            case rel=>exact⟨m+1,jj,BA,ao,X2,rfl,rfl,by go_num,by omega,rfl,KB,WS,L0,LM⟩
         .have W1:p7 ((l.take (k+1)).foldl (C6 C n) (T,K)=(y.map Bv.f,A2)):=by
           have h:=Aa HA;rw[kX (by omega)]at h;exact CC.trans h
          have FB:=Ab (K6.trans u);clear HA CC;go_wp2
          go_roundg (Z l-(k+1))
          case measure=>have:=Aa RO;omega
          case rel=>exact⟨k+1,A2,y,AT,A0,rfl,rfl,by go_num,by omega,rfl,W1,HW,A,FB⟩
       ·(have VS:((lv:Int) !=(n:Int))=jj:=by simp[bne];omega);have CC:p7 ((l.take (k+1)).foldl (C6 C n) (T,K)=(z.map Bv.f,o)):=by
         have h:=Aa Dk;unfold C6 at h⊢;rw[li (by simp only;rw[HO];exact IJ)]at h;exact h
        clear Dk HC FT HL Ax HO;go_wp2
        go_roundg (Z l-(k+1))
        case measure=>have:=Aa RO;omega
        case rel=>exact⟨k+1,o,z,H8,H0,rfl,rfl,by go_num,by omega,rfl,CC,HJ,A,u⟩
      .have EX:p7 (Dq l C n T=(z.map Bv.f,o)):=by
        have h:=Aa HC;rw[kX (by omega)]at h;exact h
       have Jx:p7 ((if o then I n (z.map Bv.f)else I (n+1) (z.map Bv.f))/\(o=jj->Z j<Z z)):=by
        have hI:=Aa HY;rw[Aa Nq]at hI;have h:=Aa a4 n T hI;rw[Aa EX]at h;refine⟨?_,λhm=>?_⟩
        .cases o with
         |true=>exact h.1
         |false=>exact h.2.1 rfl
        .have:=h.2.2 hm;rw[lm]at this;have:=Aa av;omega
       (have NL:Z z<=6912:=by have:=AB.len _ HJ;rw[lm]at this;exact this);have ag:=Ab Jx.1;have al:=Jx.2;clear HC EX Jx;go_wp2
       go_roundg (if o then 6913-Z z else 0)
       case measure=>
        have h1:=Aa aa;rw[ln True.intro]at h1;cases o with
        |true=>have:=al rfl;simp;omega
        |false=>have:=AB.len _ M6;rw[lm]at this;simp;omega
       case rel=>exact⟨o,z,H8,H0,rfl,rfl,rfl,ag,A,u⟩
  ·(have a1:n=7:=by omega);subst a1;go_wp2;go_ret;exact⟨L,H,j,rfl,A,HI,WB.trans u⟩
def Is(cs:pM A4)(s:pM Af):Prop:=Eb s/\∀f∈s,D0 cs f
def GF.zb{a:zA->Nat}(h:GF c a n f):Is c f:=⟨h.zM,h.zW⟩
def Dj.small{a:pM A4}(h:Dj a):Z a<=12/\∀c∈a,Z c.bl<=3/\Z c.head.args<=2/\∀p∈c.bl,BF p=K:=by
 have e:∀k (d:k<Z a),k<12/\a[k].bl.length<=3/\a[k].head.args.length<=2/\∀p∈a[k].bl,BF p=K:=by
  intro k d;have b:=h.each k d;unfold Cm at b;by_cases f:12<=k\/3<a[k].bl.length
  .rw[ln f]at b;cases b
  rw[li f]at b;by_cases g:2<a[k].head.args.length
  .rw[ln g]at b;cases b
  rw[li g]at b;cases a3:a[k].bl.any BF with
  |true=>rw[a3,ln rfl]at b;cases b
  |false=>
   refine⟨by omega,by omega,by omega,λp i=>?_⟩;rw[mU]at a3;cases hm:BF p with
   |false=>rfl
   |true=>exact absurd hm (a3 p i)
 refine⟨?_,λc l=>?_⟩
 .by_cases j:Z a<=12
  .exact j
  .have:=(e 12 (by omega)).1;omega
 .obtain⟨k,d,rfl⟩:=lX l;exact(e k d).2
def XR(a:pM A4)(h:∀c∈a,Z c.head.args<=2):Z (consts a)<=Z a*2:=by
 unfold consts
 induction a with
 |nil=>simp
 |cons c a ih=>
  have f:=ih (λd b=>h d (lY _ b));have e:=h c (mz ..);have g:=mS (λt:AK=>t.v==0) c.head.args;simp only[lF,lu,lm,lj];omega
def MP(l:pM zA):∀n,Z (I3 l n)=Z l^n
 |0=>rfl
 |n+1=>by
  have ih:=MP l n;unfold I3;have:∀m:pM zA,Z (m.flatMap λx=>(I3 l n).map (x:: ·))=Z m*Z l^n:=by
   intro m
   induction m with
   |nil=>simp
   |cons x m ih2=>
    simp only[lF,lu,lm,ih2,ih,lj,nA,Nat.one_mul];omega
  rw[this l,Nat.pow_succ,Nat.mul_comm]
def Oe{a:pM A4}(m:Z a<=12)(h:∀c∈a,Z c.head.args<=2):Z (So a)<=6912:=by
 have j:Z (consts a)<=24:=by have:=XR a h;omega
 have g:∀n,n<=2->Z (I3 (consts a) n)<=576:=by
  intro n k;rw[MP]
  match n,k with
  |0,_=>simp
  |1,_=>simp;omega
  |2,_=>
   have:Z (consts a)^2<=24^2:=Nat.pow_le_pow_left j 2;omega
 have f:∀b:pM A4,(∀c∈b,Z c.head.args<=2)->Z (b.flatMap λc=>(I3 (consts a) (Z c.head.args)).map (Af.mk c.head.name))<=Z b*576:=by
  intro b
  induction b with
  |nil=>simp
  |cons c b ih=>
   intro e;have o:=ih (λd i=>e d (lY _ i));have l:=g _ (e c (mz ..));simp only[lF,lu,lm,lj,nA,Nat.one_mul];omega
 have:=f a h;unfold So;omega
def GM{a:pM A4}(hF:QV a):∀x∈consts a,0<x.size/\x.size<=1000000:=by
 intro x b;unfold consts at b;obtain⟨c,h,d⟩:=ma.1 b;obtain⟨t,g,rfl⟩:=lk.1 d;obtain⟨f,e⟩:=lK.1 g;exact(hF.full c h).head t f (by simpa using e)
def Do.fit{t:AK}(h:Do t):NH t:=by
 rcases h with h|h
 .exact Or.inl h.1
 .exact Or.inr ⟨h.1,h.2.1⟩
def Cf.fit{j:pM A4}(h:Cf j)(hF:QV j):Zv j (Is j):=by
 obtain⟨S,r⟩:=h.order.small;have F:∀s,Is j s->∀f∈s,Ig f:=λs b f m=>AL.zK ((b.2 f m).canon h.prog.zL)
 have T:∀s,Is j s->∀c∈j,∀e∈(Al c).foldl (B7 s) [Bk],∀t,E8 (Al c) t->t.v≠0->0<(AI e t).size/\(AI e t).size<=1000000:=by
  intro s b c a e d t g i;obtain⟨_,_,_,_,E⟩:=CN (F s b) (Al c) [Bk] (λe d=>by simp at d;rw[d];rfl) (h.prog.zK.args c a) e d;rcases g with k|⟨y,hy,o,u,hu,AH⟩
  .exact absurd k i
  .have k:=(b.2 _ (E y hy o).1).args (AI e u) (lB hu);have n:=GM hF _ k;(have G:AI e u=AI e t:=by unfold AI;rw[AH,li i,li i]);rw[G]at n;exact n
 have I:∀s,Is j s->∀c∈j,∀e∈(Al c).foldl (B7 s) [Bk],∀p∈c.bl,∀t∈AA p,E8 (Al c) t->0<(AI e t).size/\(AI e t).size<=1000000:=by
  intro s b c a e d p l t g E;by_cases i:t.v=0
  .have k:=(hF.full c a).body p l t g i;unfold AI;rw[ln i];exact k
  .exact T s b c a e d t E i
 refine⟨λs b=>?_,λc a=>(r c a).1,λc a p l o=>?_,λs b c a e d p l o=>?_,λc a=>⟨λt g=>((h.zL c a).args t g).fit,by have:=(r c a).2.1;omega⟩,λs b c a e d=>?_,λW s i b c a e d=>?_⟩
 .have:=Ia s (So j) (b.1.nodup λf m=>(b.2 f m).canon h.prog.zL) λf m=>(b.2 f m).mem
  have:=Oe S (λc a=>(r c a).2.1);omega
 .have w:=(r c a).2.2 p l;refine⟨h.prog.zK.args c a p.1 (lB l) o,?_⟩;unfold BF at w;have n:¬2<Z p.1.A.args:=oJ w;omega
 .have w:=(r c a).2.2 p l;unfold BF at w;have n:¬2<Z p.1.A.args:=oJ w;have P:p.1∈Al c:=lB l;have q:=h.lits c a p.1 P;have M:=h.prog.zK.safe c a p.1 P o;refine⟨λC=>?_,λB=>?_⟩
  ·(have D:(p.1.kind==33)=jj:=by rw[o]at C;simpa using C);unfold Db at q;rw[ln C]at q;(have z:AA p=p.1.A.args:=by unfold AA MF;rw[C];rfl);refine⟨λt g=>(q.args t g).fit,by omega,⟨by simp[Aq];omega,λx H=>?_⟩⟩;obtain⟨t,g,rfl⟩:=lk.1 H;exact I s b c a e d p l t (by rw[z];exact g) (M.1 D t g)
  ·(have D:(p.1.kind==33)=K:=by rw[o]at B;simpa using B);unfold Db at q;rw[li (by rw[B];simp)]at q;(have z:AA p=[p.1.L,p.1.R]:=by unfold AA MF;rw[B];rfl);have N:=I s b c a e d p l p.1.L (by rw[z];simp) (M.2 D).1;have Q:=I s b c a e d p l p.1.R (by rw[z];simp) (M.2 D).2;exact⟨q.1.fit,q.2.1.fit,N.1,N.2,Q.1,Q.2⟩
 .have k:=RL h.prog.zK b.2 (F s b) a d;refine⟨?_,λx H=>GM hF x (k.args x H)⟩;have:=(r c a).2.1;simp[Aq];omega
 .have k:=RL h.prog.zK i.2 (F W i) a d;have n:=CZ (k.canon h.prog.zL) b.1 (λf m=>(b.2 f m).canon h.prog.zL);refine⟨n.1,λf m=>?_⟩;rcases(n.2.2 f).1 m with G|rfl
  .exact b.2 f G
  .exact k
def MG(s:zA)(b:Nat)(a:Bool):(A9 s b a).1.size<=s.size:=by
 unfold A9;split
 .exact lz _
 .split
  .exact lz _
  .rw[my];omega
def NC(s:zA)(a:Nat)(h:(Ao s a).2.2=K):(Ao s a).1.head.name.size<=s.size:=by
 have b:(Ao s a).1.head=(AZ s (Ae s a) K).1:=by
  unfold Ao;simp only
 rw[b];unfold AZ;simp only;exact MG _ _ _
def SF{s:zA}{b:Nat}(h:(An s b).2.2=K):∀c∈(An s b).1,c.head.name.size<=s.size:=by
 fun_induction An s b with
 |case1 b ha hc ih=>
  intro c a;rcases kZ.1 a with rfl|a
  .exact NC s _ hc.1
  .exact ih h c a
 |case2 b ha hc=>
  intro c a;rw[kY]at a;subst a;exact NC s _ h
 |case3 b ha=>intro c a;cases a
def XK{a:pM A4}(h:(An s n).2.2=K)(e:a.map A4.erase=(An s n).1):∀c∈a,c.head.name.size<=s.size:=by
 intro c d;have b:c.erase∈(An s n).1:=by rw[<-e];exact lB d
 exact SF h _ b
def CI.zero(h:CI s 0 I):I=0:=by
 unfold CI at h;split at h
 .exact absurd h.1 (by decide)
 .split at h
  .exact absurd h.1 (by decide)
  .obtain⟨cs,_,a⟩:=h;have b:=IL (cs:=cs) (by rw[<-a]);rw[b]at a;exact(Prod.mk.inj a).2
def Oj(s:zA)(t:zA)(er:Int):Prop:=
 (er≠0->t=pF)/\
 (er=0->∃(cs:pM A4) (fs:pM Bv),cs.map A4.erase=(An s (Ae s 0)).1/\Cf cs/\(∀c∈cs,c.head.args≠[])/\GF cs (B5 cs 6) 7 (fs.map Bv.f)/\t=Ow pF fs)
def MO(s:zA)(g:Nat)(d:Option Addr)(c:Nat)(a:pM A4)(w:World)(l:AF w g [U d (Z a) c] 76)(o:Cl w (U d (Z a) c) a)(hF:QV a)(b:(An s (Ae s 0)).2.2=K)(z:a.map A4.erase=(An s (Ae s 0)).1)(u:CJ a=(0,0)):
  Calls prog 111 #[m2 (V ⟨g,0,Y⟩)] w λr k=>∃(q:Option Addr) (p:Nat) (e:pM Bv),r=oa (U q (Z e) p)/\Cv k (U q (Z e) p) e/\GF a (B5 a 6) 7 (e.map Bv.f)/\Ac [] w k:=by
 have i:=C7 b z u;exact cn (B5 a 6) (GF a (B5 a 6)) (Is a) g d c a w l o hF.len
  (λx y j=>dg g d c a hF.len hF.body 6 x y (l.kept j) (o.kept j) (by omega)) (λx=>by have:=Vk a 6 x;omega)
  (i.fit hF) (GF.start a _) (λn t h=>h.zb) (λn t h=>by
   have b:=i.round h
   exact⟨b.1,λv=>by have m:=b.2.1 v;rw[m.1];exact m.2,b.2.2.1⟩)
theorem Wg(s:zA)(w:World)(Q:s.size<=9223372036854775807):
  Calls prog 68 #[O s] w λe N=>∃(t:zA) (b j:Int),e=oa (.tuple #[O t,X J b,X J j])/\CI s b j/\Oj s t b/\Ac [] w N:=by
 have E:=Ab (Hr s w Q);go_enter func68,ntmps68;go_wp2_with fail
 refine E.mono ?_;rintro _ M ⟨pv,b,j,rfl,I,B,r⟩;have D:=Ab I;have n:=Ab B;have y:=Ab r;clear E I B r;by_cases k:b=0
 .subst k;obtain⟨T,A0,AT,g,rfl,F,G,hF,Ax,i,d,m⟩:=n rfl;have S:((0:Int) !=0)=K:=rfl;have u:=Ab (MO s T A0 AT g M F G hF i d m);have v:p7 (∀a:pM Bv,GF g (B5 g 6) 7 (a.map Bv.f)->Z a<=100000/\∀p∈a,p.f.name.size<=1000000):=by
   intro a l;have hp:=C7 i d m;refine⟨?_,λp R=>?_⟩
   .have:=(hp.fit hF).len _ l.zb;rw[lm]at this;omega
   .obtain⟨c,hc,hn,_⟩:=(l.zW p.f (lB R)).zb;rw[hn];have:=XK i d c hc;omega
  have z:p7 (∀a:pM Bv,GF g (B5 g 6) 7 (a.map Bv.f)->Oj s (Ow pF a) 0):=λa l=>⟨λh=>absurd rfl h,λ_=>⟨g,a,d,C7 i d m,R2 i d,l,rfl⟩⟩
  clear F G hF Ax i d m n;go_wp2_with fail
  refine u.mono ?_;rintro _ w2 ⟨ad,cp,a,rfl,H,o,C⟩;have q:=Aa v a o;have L:=Ab (V0 ad cp a w2 H q.1 q.2);have A:=Ab (z a o);have W:=Ab (y.trans C);clear u H o C q v z;go_wp2_with fail
  refine L.mono ?_;rintro _ w3 ⟨rfl,x⟩;have A1:=Ab (W.trans x);generalize Ow pF a=TX at A;clear L x;go_wp2_with fail
  go_ret3;exact⟨TX,0,0,rfl,by have h:=Aa D;rw[h.zero]at h;exact h,A,A1⟩
 .have S:(b !=0)=jj:=by simp[k]
  have P:p7 (Oj s pF b):=⟨λ_=>rfl,λh=>absurd h k⟩;clear k n;go_wp2_with fail
  go_ret3;exact⟨pF,b,j,rfl,D,P,y⟩
