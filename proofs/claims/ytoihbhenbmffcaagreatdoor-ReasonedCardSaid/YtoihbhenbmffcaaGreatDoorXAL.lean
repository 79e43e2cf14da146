import Derived.Test.YtoihbhenbmffcaaGreatDoorXAJ
import Derived.Test.YtoihbhenbmffcaaGreatDoorXAK
set_option linter.all false
set_option maxHeartbeats 0
open List renaming length->Z,toArray->ml,replicate->pG
open Option renaming none->Y,some->V
open Go.Value renaming slice->U,int->X,string->O,agg->pC,bool->pE,ownBlock->pI
open Bool renaming false->K,true->jj
open Go.IntKind renaming i64->J
open Go.Obj renaming cells->j3
open Go.RowKit renaming Hid->p7
open Go.World renaming cell?->p8
open Prod renaming fst->pH
namespace Go.Proofs.YtoihbhenbmffcaaGreatDoor
open Go.RowKit Go.Proofs.Tryz
def W7:Aj Bk=pG 26 (O ⟨#[]⟩):=by
 unfold Bk Aj;rw[List.map_replicate];rfl
set_option maxRecDepth 100000
theorem VM(c:CD)(DT:Option Addr)(B9:Nat)(HU:Option Addr)(BA:Nat)(g:pM Ba)(fp:Bv)(cy:Option Addr)(b3:Nat)(u:pM Bv)(Nx:Option Addr)(NM:Nat)(E:pM Bv)(w:World)(hh:w.ownsRow 0 93 2 (U DT (Z c.head.args) B9) (Z c.head.args) (c.head.args.flatMap AV))(hb:w.ownsRow 0 95 9 (U HU (Z g) BA) (Z g) (g.flatMap AX))(hl:∀p∈g,B4 w 0 p)(hf:Dx w fp)(hs:Cv w (U cy (Z u) b3) u)(cl:Cv w (U Nx (Z E) NM) E)(gx:Z g<=3)(a8:Z u<=6912)(g3:Z E<=6912)
  (av:∀t∈c.head.args,BC t) (ao:Z c.head.args<=1000) (ba:Z fp.f.args<=1000000)
  (hg:∀p∈g,(p.1.kind==97)=jj->(∀t∈p.1.A.args,BC t)/\Z p.1.A.args<=1000)
  (a1:(B3 Bk c.head fp.f).2=jj)
  (Nd:∀e∈(g.map pH).foldl (B7 (u.map Bv.f)) [(B3 Bk c.head fp.f).1],∀p∈g,(p.1.kind==97)=K->Mj e p.1):
  Calls prog 56 #[pC (ml (C0 c (U DT (Z c.head.args) B9) (U HU (Z g) BA))),pC (ml (Be fp)),U cy (Z u) b3,U Nx (Z E) NM] w λr w'=>r=.returned (pE (((g.map pH).foldl (B7 (u.map Bv.f)) [(B3 Bk c.head fp.f).1]).any λe=>(g.map pH).all λx=>x.kind==97||Cg (Aq e) (AI e) (E.map Bv.f) x))/\Ac [] w w':=by
 obtain⟨i0,e6,df,fk,WB⟩:=mg Tryz.yG;have LC:=Ab (λd (hk:Ac [] w d)=>Na Bk c.head DT B9 fp d rfl (Ad hh hk) (hf.kept hk) ao ba av);obtain⟨⟨S,CL,Bx⟩,gf,JA⟩:=c;obtain⟨⟨FT,bt⟩,HV⟩:=fp;simp only[Cy,Be,C0,a1]at LC Nd⊢;have ST:Z (B3 Bk ⟨S,CL,Bx⟩ ⟨FT,bt⟩).1=26:=by rw[FY];rfl
 obtain⟨E0,RT⟩:=pN (B3 Bk ⟨S,CL,Bx⟩ ⟨FT,bt⟩).1;simp only[RT]at LC;rw[RT]at Nd ST⊢;obtain⟨H6,aa⟩:=pN (((g.map pH).foldl (B7 (u.map Bv.f)) [E0]).any λe=>(g.map pH).all λx=>x.kind==97||Cg (Aq e) (AI e) (E.map Bv.f) x);rw[aa];have a3:=Ab aa;have HB:=Ab hb;have cz:=Ab hl;have HS:=Ab hs;have a4:=Ab cl;have ch:=Ab hg;have cb:=Ab Nd;obtain⟨N,hN⟩:=pN w.heap.size;have HN:=Ab hN;clear aa hb hl hs hg Nd cl hh hf av a1 RT ao ba;simp only[W7]at LC;have Ha:=Ab (((pO [] w).alloc (j3 [O S,U DT (Z CL) B9,X J Bx,U HU (Z g) BA,X J JA].toArray 82)).alloc (j3 [O FT,HV].toArray 43));have HC:=Ab ((pP w [O S,U DT (Z CL) B9,X J Bx,U HU (Z g) BA,X J JA] 82).alloc (j3 [O FT,HV].toArray 43));have LS:=Ab (pP (w.alloc (j3 [O S,U DT (Z CL) B9,X J Bx,U HU (Z g) BA,X J JA].toArray 82)) [O FT,HV] 43);rw[lT]at LS;go_enter func56,ntmps56;refine pL (λKK IA=>?_);go_wp2;refine IA _ _ ?_;clear IA KK;change Code.wp _ _ _ _ ((w.alloc (j3 [O S,U DT (Z CL) B9,X J Bx,U HU (Z g) BA,X J JA].toArray 82)).alloc (j3 [O FT,HV].toArray 43));generalize(w.alloc (j3 [O S,U DT (Z CL) B9,X J Bx,U HU (Z g) BA,X J JA].toArray 82)).alloc (j3 [O FT,HV].toArray 43)=w1 at Ha HC LS⊢;rw[Aa HN]at HC LS
 try rw[Aa HN]
 have ES:p7 (∀d,Ac [] w1 d->Calls prog 87 #[pC (ml (pG 26 (O ⟨#[]⟩))),pC #[O S,U DT (Z CL) B9,X J Bx],pC #[O FT,HV]] d λr w'=>r=.returned (.tuple #[pC (ml (Aj E0)),pE jj])/\Ac [] d w'):=λd hk=>LC d (Ha.trans hk)
 have AT:p7 (∀d,Ac [] w1 d->p8 d ⟨N,0,Y⟩=V (O S)/\p8 d ⟨N,1,Y⟩=V (U DT (Z CL) B9)/\p8 d ⟨N,2,Y⟩=V (X J Bx)/\p8 d ⟨N+1,0,Y⟩=V (O FT)/\p8 d ⟨N+1,1,Y⟩=V HV):=by
  intro d G;have hc:=HC.kept G;have hd:=LS.kept G;have h0:=hc.cell 0;have h1:=hc.cell 1;have h2:=hc.cell 2;have h3:=hd.cell 0;have h4:=hd.cell 1;simp at h0 h1 h2 h3 h4;exact⟨h0,h1,h2,h3,h4⟩
 obtain⟨j,A2⟩:=pN (Aj E0);have H8:=Ab A2;have T:Z j=26:=by rw[<-A2,Ci,ST]
 have NN:∀v∈j,v.oneCell'=jj:=by rw[<-A2];exact Gh E0
 rw[A2]at ES;clear A2 LC;have hu:=underlying90;have IS:(prog.info? 90).map (·.size)=V (Z j):=by rw[T];exact Tryz.zF
 obtain⟨NA,a6⟩:=pN (Z CL);rw[a6]at ES AT HC⊢;clear a6;obtain⟨c0,c1,c2,c3,c4⟩:=AT w1 (pO _ _);refine pL (λKK IA=>?_);go_wp2_with fail
 refine(ES _ (pO _ _)).mono ?_;rintro _ D ⟨rfl,k3⟩;have Jx:=Le D T;have H2:=k3.size;have HL:=Ab k3;clear k3 c0 c1 c2 c3 c4;go_wp2_with ((with_reducible show wpList _ _ _ ({dst:=_,op:=Op.store 90 _ _,type:=_,pos:=_,after:=_,guard:=_}::_) _ _);refine nj rfl 90 _ _ rfl D.heap.size 0 (ml j) (by rfl) (by rfl) Jx IS (mL NN) ?_)
 refine IA _ _ ?_;clear IA KK;have A1:p7 (AF ((D.alloc (j3 iJ 90)).setCells D.heap.size 0 j) D.heap.size j 90):=AF.zP (pP D (pG 26 (O ⟨#[]⟩)) 90) j (by rw[T];rfl);have H:p7 (Ac [] w1 ((D.alloc (j3 iJ 90)).setCells D.heap.size 0 j)):=(HL.alloc _).zI (b:=D.heap.size) (Or.inr H2) j 0
 try simp only[oo]
 generalize(D.alloc (j3 iJ 90)).setCells D.heap.size 0 j=W at A1 H⊢;obtain⟨B,hB⟩:=pN D.heap.size;rw[hB]at A1⊢;clear Jx H2 HL hB;have LE:0<Z j:=by omega
 have Mo:(pC (ml j)).cells=ml j:=by rw[<-Aa H8];exact Bp E0
 have HZ:p7 ((prog.info? 90).map (λi=>(i.zero,i.size))=V (V (pC (ml (pG 26 (O ⟨#[]⟩)))),Z j)):=by rw[T];exact Tryz.zu
 have JJ:p7 (BJ (W.alloc (j3 (ml j) 90)) w1.heap.size (U (V ⟨W.heap.size,0,Y⟩) [E0].length 1) [E0]):=by
  have h:=oN (e:=90) (size:=26) (base:=w1.heap.size) W (ml j) 1 H.size (by unfold maxLen;omega) (by simp[T]);refine⟨?_,λe he=>by simp at he;rw[he];exact ST⟩;simp only[lF,mx,lU,Aa H8];exact h
 have W2:=Ab (H.alloc (j3 (ml j) 90));obtain⟨Q,ZV⟩:=pN w1.heap.size;have b7:=Ab ZV;rw[ZV]at JJ;clear ZV;have Nj:=Ab (Ad HB Ha);have H3:p7 (∀p∈g,B4 w1 0 p):=λp hp=>(cz p hp).kept Ha
 have N4:=Ab (HS.kept Ha);have et:=Ab (a4.kept Ha);clear HB cz HS a4 AT ES;go_wp2_with (first|((with_reducible show wpList _ _ _ ({dst:=_,op:=Op.load 90 _,type:=_,pos:=_,after:=_,guard:=_}::_) _ _);refine m5 rfl 90 _ rfl B 0 (by rfl) j _ A1.range underlying90 rfl IS ?_)|((with_reducible show wpList _ _ _ ({dst:=_,op:=Op.buildSlice 87 1 _,type:=_,pos:=_,after:=_,guard:=_}::_) _ _);refine Da rfl 87 _ rfl j (by rfl) 90 _ underlying87 Mo HZ (by rw[T];rfl) LE (by omega) ?_))
 generalize W.alloc (j3 (ml j) 90)=w4 at JJ W2⊢;generalize W.heap.size=WS at JJ⊢;clear A1 H HZ LE Mo IS NN T H8
 go_loopg [11,12] (Z g) (λgk l i wr=>∃(k:Nat) (L:pM (pM zA)) (H1:Option Addr) (P:Nat),l=U H1 (Z L) P/\i=X J k/\k<=Z g/\gk=Z g-k/\p7 (((g.take k).map pH).foldl (B7 (u.map Bv.f)) [E0]=L)/\p7 (Z L<=6912^k)/\p7 (BJ wr Q (U H1 (Z L) P) L)/\p7 (Ac [] w1 wr))
 case atStart=>exact⟨0,[E0],V ⟨WS,0,Y⟩,1,rfl,rfl,by omega,rfl,rfl,(by show _<=_;simp),JJ,W2⟩
 case round=>
  clear JJ W2;obtain⟨k,L,H1,P,rfl,rfl,hk,cx,HF,K9,y,o⟩:=hrel;have HG:=Ab cx;clear cx;have cB:=(HC.kept o).cell 3;simp at cB;by_cases MB:k<Z g
  .obtain⟨C,em,x,BS,B0,K7,FC,d0,d1,d2,d3,d4,d5,d6,d7,d8⟩:=Mi (Ad Nj o) (λp hp=>(H3 p hp).kept o) k MB;simp only[kS]at K7;obtain⟨rfl,_,rfl⟩:=K7;have Dk:p7 (((g.take (k+1)).map pH).foldl (B7 (u.map Bv.f)) [E0]=if x.kind==97 then L.flatMap (λe=>(u.map Bv.f).filterMap (Ih e x.A))else L):=by
    show _=_;rw[kW MB,lV,mi,Aa HF,FC];rfl
   (have FO:(x,U BS (Z x.A.args) B0)∈g:=by rw[<-FC];exact kV MB);have ga:=Ab FO;have eT:=Ab FC;have e7:=Ab (H3 _ FO);have U1:=Ab (ch _ FO);clear FC HF FO d4 d5 d6 d7 d8;have HI:((x.kind.toNat:Int)==97)=(x.kind==97):=Cq _ 97;(have gy:(0:Int)<=(k:Int):=by omega);(have ge:(k:Int)<(Z g:Int):=by omega);cases h97:(x.kind==97)with
   |false=>
    rw[h97]at HI Dk;(have cR:((x.kind.toNat:Int) !=97)=jj:=by simp[bne,HI]);have VS:p7 (Z L<=6912^(k+1)):=by
     have h:=Aa K9;show _<=_;rw[Nat.pow_succ];omega
    have NV:p7 (((g.take (k+1)).map pH).foldl (B7 (u.map Bv.f)) [E0]=L):=Dk;clear Dk;go_wp2
    go_roundg (Z g-(k+1))
    case measure=>have:=Aa HG;omega
    case rel=>exact⟨k+1,L,H1,P,rfl,by go_num,by omega,rfl,NV,VS,y,o⟩
   |true=>
    rw[h97]at HI Dk U1;(have cR:((x.kind.toNat:Int) !=97)=K:=by simp[bne,HI]);have es:Z L<=47775744:=by
     have h:=Aa K9;have h2:6912^k<=6912^2:=Nat.pow_le_pow_right (by omega) (by omega);omega
    have bv:=Ab (U1 rfl);clear U1;go_wp2_with fail
    go_loopg [13,14] (Z L) (λgk nx i wr=>∃(m:Nat) (I:pM (pM zA)) (FB:Option Addr) (EY:Nat),nx=U FB (Z I) EY/\i=X J m/\m<=Z L/\gk=Z L-m/\p7 ((L.take m).flatMap (λe=>(u.map Bv.f).filterMap (Ih e x.A))=I)/\p7 (BJ wr Q (U FB (Z I) EY) I)/\p7 (BJ wr Q (U H1 (Z L) P) L)/\p7 (B6 (U FB (Z I) EY) (U H1 (Z L) P))/\p7 (Ac [] w1 wr))
    case atStart=>exact⟨0,[],Y,0,rfl,rfl,by omega,rfl,rfl,BJ.nil _ _,y,(λq hq=>by cases hq),o⟩
    case round=>
     clear y o d0 d1 d2 d3 cB;obtain⟨m,I,FB,EY,rfl,rfl,hm,K1,K2,FA,y,FF,o⟩:=hrel;have S0:=Ab K1;clear K1;have M0:p7 (Z I<=m*Z u):=by
      show _<=_;rw[<-Aa K2];have h:=Oz (u.map Bv.f) x.A (L.take m);rw[lm,l9,nU hm]at h;exact h
     by_cases EM:m<Z L
     .obtain⟨M,f7,K3,f6,r0⟩:=G4 y m EM;simp only[kS]at K3;obtain⟨rfl,_,rfl⟩:=K3;obtain⟨e,he⟩:=pN (L[m]);(have H5:Z e=26:=by rw[<-he];exact y.each _ (kV EM));have H4:p7 ((L.take (m+1)).flatMap (λe=>(u.map Bv.f).filterMap (Ih e x.A))=I++(u.map Bv.f).filterMap (Ih e x.A)):=by
       show _=_;rw[kW EM,lM,Aa K2,he];simp
      rw[he]at r0;(have c6:(0:Int)<=(m:Int):=by omega);(have eB:(m:Int)<(Z L:Int):=by omega);have gr:Z I+Z u<=330225942528:=by
       have h:=Aa M0;have h2:(m+1)*Z u<=47775744*6912:=Nat.mul_le_mul (by omega) a8;rw[nA,Nat.one_mul]at h2;omega
      clear M0 r0;have N2:p7 (∀d,BJ d Q (U (V ⟨M,0,Y⟩) (Z L) P) L->d.rangeAt M (m*26) (Aj e)):=by
       intro d hz;obtain⟨g',b1,CC,_,r'⟩:=G4 hz m EM;simp only[kS,ld,lW]at CC;obtain⟨⟨rfl,_,_⟩,_,_⟩:=CC;rw[he]at r';exact r'
      clear he;go_wp2_with fail
      go_loopg [13,15] (Z u) (λgk nx i wr=>∃(q:Nat) (F:pM (pM zA)) (FB:Option Addr) (EY:Nat),nx=U FB (Z F) EY/\i=X J q/\q<=Z u/\gk=Z u-q/\Z F<=Z I+q/\p7 (I++((u.take q).map Bv.f).filterMap (Ih e x.A)=F)/\p7 (BJ wr Q (U FB (Z F) EY) F)/\p7 (BJ wr Q (U (V ⟨M,0,Y⟩) (Z L) P) L)/\p7 (B6 (U FB (Z F) EY) (U (V ⟨M,0,Y⟩) (Z L) P))/\p7 (Ac [] w1 wr))
      case atStart=>exact⟨0,I,FB,EY,rfl,rfl,by omega,rfl,by omega,(by show _=_;simp),FA,y,FF,o⟩
      case round=>
       clear FA y FF o K2;obtain⟨q,F,W0,RI,rfl,rfl,hq,IJ,gz,ag,FA,y,FF,o⟩:=hrel;have Ix:=Ab IJ;clear IJ;by_cases FW:q<Z u
       .obtain⟨gs,gp,fn,xs,M6,M2,b9,Nq,s0,s1⟩:=C1 (N4.kept o) q FW;simp only[kS]at b9;obtain⟨rfl,_,rfl⟩:=b9;(have eb:(0:Int)<=(q:Int):=by omega);(have e1:(q:Int)<(Z u:Int):=by omega);have M1:=N4.each _ (kV FW);rw[Nq]at M1;have ES:p7 (∀d,Ac [] wr d->Calls prog 87 #[pC (ml (Aj e)),pC #[O x.A.name,U BS (Z x.A.args) B0,X J x.A.at_],pC #[O fn,U M6 (Z xs) M2]] d λr w'=>r=.returned (.tuple #[pC (ml (Aj (B3 e x.A ⟨fn,xs⟩).1)),pE (B3 e x.A ⟨fn,xs⟩).2])/\Ac [] d w'):=λd G=>
         Na e x.A BS B0 ⟨⟨fn,xs⟩,U M6 (Z xs) M2⟩ d H5 (e7.kept (o.trans G)) (M1.1.kept (o.trans G)) bv.2 (by have:=M1.2.len;simp at this⊢;omega) bv.1
        have AO:p7 (I++((u.take (q+1)).map Bv.f).filterMap (Ih e x.A)=if(B3 e x.A ⟨fn,xs⟩).2 then F++[(B3 e x.A ⟨fn,xs⟩).1] else F):=by
         show _=_;rw[kW FW,lV,List.filterMap_append,<-mo,Aa ag,Nq];simp only[lE,m8,oU,List.filterMap_nil,Ih];cases(B3 e x.A ⟨fn,xs⟩).2<;>simp
        (have UO:p7 (Z (B3 e x.A ⟨fn,xs⟩).1=26):=by show _=_;rw[FY,H5]);have AT:p7 (∀d,Ac [] wr d->p8 d ⟨N,3,Y⟩=V (U (V ⟨C,0,Y⟩) (Z g) BA)/\d.rangeAt M (m*26) (Aj e)/\p8 d ⟨C,k*9+1,Y⟩=V (O x.A.name)/\p8 d ⟨C,k*9+2,Y⟩=V (U BS (Z x.A.args) B0)/\p8 d ⟨C,k*9+3,Y⟩=V (X J x.A.at_)/\p8 d ⟨gs,q*2,Y⟩=V (O fn)/\p8 d ⟨gs,q*2+1,Y⟩=V (U M6 (Z xs) M2)):=by
         intro d G;have HM:=o.trans G;obtain⟨fl,c8,x',er,e8,KS,H0,a0,T0,U0,SL,_⟩:=Mi (Ad Nj HM) (λp hp=>(H3 p hp).kept HM) k MB;simp only[kS,ld,lW]at KS;obtain⟨⟨rfl,_,_⟩,_,_⟩:=KS;rw[Aa eT]at H0;simp only[lZ,kS]at H0;obtain⟨rfl,rfl,_,rfl⟩:=H0;obtain⟨g',gj,n',gv,g2,b1,CC,ds,f0,f1⟩:=C1 (N4.kept HM) q FW;have e2:=ds.symm.trans Nq;simp only[kS,ld,lW,Bv.mk.injEq,Af.mk.injEq]at CC e2;obtain⟨⟨rfl,_,_⟩,_,_⟩:=CC;obtain⟨⟨rfl,rfl⟩,rfl,_,rfl⟩:=e2;have h3:=(HC.kept HM).cell 3;simp at h3;exact⟨h3,N2 d (y.kept G),T0,U0,SL,f0,f1⟩
        clear Nq M1;obtain⟨j,A2⟩:=pN (Aj (B3 e x.A ⟨fn,xs⟩).1);obtain⟨RB,X0⟩:=pN (B3 e x.A ⟨fn,xs⟩).2;obtain⟨RE,X1⟩:=pN (B3 e x.A ⟨fn,xs⟩).1;rw[X0,X1]at AO;rw[A2,X0]at ES;rw[X1]at UO A2;have H8:=Ab A2;(have T:Z j=26:=by rw[<-A2,Ci];exact UO);(have NN:∀v∈j,v.oneCell'=jj:=by rw[<-A2];exact Gh RE);clear A2 X0 X1;obtain⟨EK,HQ⟩:=pN (Aj e);rw[HQ]at ES AT;(have X3:Z EK=26:=by rw[<-HQ,Ci,H5]);clear HQ;have hu:=underlying90;(have hi:(prog.info? 90).map (·.size)=V (Z EK):=by rw[X3];exact Tryz.zF);(have IS:(prog.info? 90).map (·.size)=V (Z j):=by rw[T];exact Tryz.zF);(have g4:(k:Int)<(Z g:Int):=by omega);obtain⟨nm,S⟩:=pN x.A.name;obtain⟨ja,K4⟩:=pN x.A.at_;obtain⟨na,KA⟩:=pN (Z x.A.args);rw[S,K4,KA]at ES AT;clear S K4 KA;go_wp2_with fail
        go_region_held3 (λd=>Ac [] wr d/\p8 d ⟨N,3,Y⟩=V (U (V ⟨C,0,Y⟩) (Z g) BA)/\d.rangeAt M (m*26) EK/\p8 d ⟨C,k*9+1,Y⟩=V (O nm)/\p8 d ⟨C,k*9+2,Y⟩=V (U BS na B0)/\p8 d ⟨C,k*9+3,Y⟩=V (X J ja)/\p8 d ⟨gs,q*2,Y⟩=V (O fn)/\p8 d ⟨gs,q*2+1,Y⟩=V (U M6 (Z xs) M2)) ((go_split_ands;refine(fun(G:Ac [] wr _)=>And.intro G (AT _ G)) ?_;repeat (first|assumption|exact pO [] _|refine Ac.drew ?_|refine Ac.alloc ?_ _|(refine Ac.zI ?_ (Or.inr (by first|omega|(simp;omega))) _ _)))) ((go_at_call 87;refine(ES _ (by go_split_ands;assumption)).mono ?_;rintro e D ⟨rfl,k3⟩;have H7:Ac [] wr D:=(by go_split_ands;exact Ac.trans (by assumption) k3);have Jx:=Le D T;(try have fv:=Np k3 T);have H2:=H7.size;have HL:=Ab k3;clear k3))
        all_goals
         rename_i M3;have H:=Ab M3.1;clear M3 ES AT
         first
          |(
            have A1:p7 (AF (D.setCells wr.heap.size 0 j) wr.heap.size j 90):=AF.zP ((pP wr (pG 26 (O ⟨#[]⟩)) 90).drew.kept HL) j (by rw[T];rfl)
            obtain⟨B,hB⟩:=pN wr.heap.size
            rw[hB]at A1 H⊢
            have ef:wr.heap.size<=B:=by omega
            clear Jx fv H2 HL hB
            generalize D.setCells B 0 j=W at A1 H⊢)
          |(
            have A1:p7 (AF ((D.alloc (j3 iJ 90)).setCells D.heap.size 0 j) D.heap.size j 90):=AF.zP (pP D (pG 26 (O ⟨#[]⟩)) 90) j (by rw[T];rfl)
            obtain⟨B,hB⟩:=pN D.heap.size
            rw[hB]at A1 H H2⊢
            have ef:wr.heap.size<=B:=by omega
            clear Jx H2 HL hB
            generalize(D.alloc (j3 iJ 90)).setCells B 0 j=W at A1 H⊢)
         clear H7;have g0:=H.size;cases RB with
         |false=>
          have HT:p7 (I++((u.take (q+1)).map Bv.f).filterMap (Ih e x.A)=F):=AO;have e4:=Ab (FA.kept H);have ad:=Ab (y.kept H);have Wa:=Ab (o.trans H);clear AO FA y o A1 H;go_wp2
          go_roundg (Z u-(q+1))
          case measure=>have:=Aa Ix;omega
          case rel=>exact⟨q+1,F,W0,RI,rfl,by go_num,by omega,rfl,by omega,HT,e4,ad,FF,Wa⟩
         |true=>
          have HT:p7 (I++((u.take (q+1)).map Bv.f).filterMap (Ih e x.A)=F++[RE]):=AO;have P0:=(FA.kept H).row;(have LE:0<Z j:=by omega);(have gw:Q<=wr.heap.size:=by have:=o.size;have:=Aa b7;omega);(have Mo:(pC (ml j)).cells=ml j:=by rw[<-Aa H8];exact Bp RE);(have HZ:p7 ((prog.info? 90).map (λi=>(i.zero,i.size))=V (V (pC (ml (pG 26 (O ⟨#[]⟩)))),Z j)):=by rw[T];exact Tryz.zu);clear AO;go_wp2_with (first|((with_reducible show wpList _ _ _ ({dst:=_,op:=Op.load 90 _,type:=_,pos:=_,after:=_,guard:=_}::_) _ _);refine m5 rfl 90 _ rfl B 0 (by rfl) j _ A1.range underlying90 rfl IS ?_)|((with_reducible show wpList _ _ _ ({dst:=_,op:=Op.buildSlice 87 1 _,type:=_,pos:=_,after:=_,guard:=_}::_) _ _);refine Da rfl 87 _ rfl j (by rfl) 90 _ underlying87 Mo HZ (by rw[T];rfl) LE (by omega) ?_)|(at_builtin;change p7 (wpList _ _ _ _ _ _)))
          show wpList _ _ _ _ _ _;refine lG _ rfl (.tmp 79) (.tmp 81) _ rfl Q 90 i0 _ 26 416 underlying87 e6 df fk WB rfl (by omega) (U W0 (Z F) RI) (Z F) (F.flatMap Aj) rfl (lg P0 _) ⟨W.heap.size,0,Y⟩ 1 1 j rfl (by omega) (lI (lP W _)) NN (by omega) (by unfold maxLen;omega) (by omega) (by simp;omega) (W.heap.size+1) (by simp) ?_;intro g1 SK w9 b2 S1 al dc;have ek:p7 (BJ w9 Q (U (V ⟨g1,0,Y⟩) (Z (F++[RE])) SK) (F++[RE])):=by
           refine⟨?_,λe' CC=>?_⟩
           .rw[lu,lM];simp only[lF,mx,lU,Aa H8,lj,lO,me];exact b2
           .rcases lw.1 CC with h|h
            .exact FA.each e' h
            .simp only[kY]at h;rw[h];exact UO
          have eA:p7 (BJ w9 Q (U (V ⟨M,0,Y⟩) (Z L) P) L):=
           ⟨mI (v:=U (V ⟨M,0,Y⟩) (Z L) P) ((y.kept H).row.alloc _) S1 (Or.inr (λh=>FF M h.symm rfl)),y.each⟩
          have db:p7 (B6 (U (V ⟨g1,0,Y⟩) (Z (F++[RE])) SK) (U (V ⟨M,0,Y⟩) (Z L) P)):=by
           intro z hz WB;simp only[pI,ld]at hz WB;rcases al with h|h
           .exact FF g1 h (by simp only[pI,ld];omega)
           .have:=(y.row.lt M rfl).2;omega
          have HL:p7 (Ac [] w1 w9):=(((o.trans H).alloc _).grown S1 (λz hz=>Or.inr (by have:=(P0.lt z hz).1;have:=Aa b7;omega)));clear b2 S1 al dc P0 FA y FF o H A1;go_wp2_with fail
          go_roundg (Z u-(q+1))
          case measure=>have:=Aa Ix;omega
          case rel=>exact⟨q+1,F++[RE],V ⟨g1,0,Y⟩,SK,by simp,by go_num,by omega,rfl,by simp;omega,HT,ek,eA,db,HL⟩
       .have fz:p7 ((L.take (m+1)).flatMap (λe=>(u.map Bv.f).filterMap (Ih e x.A))=F):=by
         show _=_;rw[Aa H4,<-Aa ag,kX (by omega)]
        clear ag H4;go_wp2
        go_roundg (Z L-(m+1))
        case measure=>have:=Aa S0;omega
        case rel=>exact⟨m+1,F,W0,RI,rfl,by go_num,by omega,rfl,fz,FA,y,FF,o⟩
     .have NV:p7 (((g.take (k+1)).map pH).foldl (B7 (u.map Bv.f)) [E0]=I):=by
       show _=_;rw[Aa Dk,ln True.intro,<-Aa K2,kX (by omega)]
      have VS:p7 (Z I<=6912^(k+1)):=by
       show _<=_;have h:=Aa M0;have h2:m*Z u<=6912^k*6912:=Nat.mul_le_mul (by have:=Aa K9;omega) a8;rw[Nat.pow_succ];omega
      clear K2 Dk M0 y FF;go_wp2
      go_roundg (Z g-(k+1))
      case measure=>have:=Aa HG;omega
      case rel=>exact⟨k+1,I,FB,EY,rfl,by go_num,by omega,rfl,NV,VS,FA,o⟩
  .have XS:p7 ((g.map pH).foldl (B7 (u.map Bv.f)) [E0]=L):=by
    have h:=Aa HF;rw[kX (by omega)]at h;exact h
   have es:Z L<=330225942528:=by
    have h:=Aa K9;have h2:6912^k<=6912^3:=Nat.pow_le_pow_right (by omega) (by omega);omega
   have ca:p7 (L.any (λe=>(g.map pH).all λx=>x.kind==97||Cg (Aq e) (AI e) (E.map Bv.f) x)=H6):=by
    have h:=Aa a3;rw[Aa XS]at h;exact h
   have f4:p7 (∀e∈L,∀p∈g,(p.1.kind==97)=K->Mj e p.1):=by
    have h:=Aa cb;rw[Aa XS]at h;exact h
   clear a3 cb HF XS ch K9 HG;(go_wp2_with fail);clear cB
   go_loopg [18] (Z L) (λgk i wr=>∃(m:Nat),i=X J m/\m<=Z L/\gk=Z L-m/\p7 ((L.take m).any (λe=>(g.map pH).all λx=>x.kind==97||Cg (Aq e) (AI e) (E.map Bv.f) x)=K)/\p7 (BJ wr Q (U H1 (Z L) P) L)/\p7 (Ac [] w1 wr))
   case atStart=>exact⟨0,rfl,by omega,rfl,rfl,y,o⟩
   case round=>
    clear y o;obtain⟨m,rfl,hm,K1,bz,y,o⟩:=hrel;have S0:=Ab K1;clear K1;by_cases EM:m<Z L
    .obtain⟨M,f7,K3,f6,r0⟩:=G4 y m EM;simp only[kS]at K3;obtain⟨rfl,_,rfl⟩:=K3;obtain⟨e,he⟩:=pN (L[m]);(have H5:Z e=26:=by rw[<-he];exact y.each _ (kV EM));(have ar:e∈L:=by rw[<-he];exact kV EM);have c9:=Ab (f4 e ar);have H4:p7 ((L.take (m+1)).any (λe=>(g.map pH).all λx=>x.kind==97||Cg (Aq e) (AI e) (E.map Bv.f) x)=((g.take (Z g)).map pH).all (λx=>x.kind==97||Cg (Aq e) (AI e) (E.map Bv.f) x)):=by
      show _=_;rw[kW EM,pg,Aa bz,he,ni];simp
     have Os:p7 (((g.take (Z g)).map pH).all (λx=>x.kind==97||Cg (Aq e) (AI e) (E.map Bv.f) x)=jj->H6=jj):=by
      intro h;rw[<-Aa ca];rw[ni]at h;exact mH.2 ⟨e,ar,h⟩
     (have c6:(0:Int)<=(m:Int):=by omega);(have eB:(m:Int)<(Z L:Int):=by omega);clear r0;have N2:p7 (∀d,BJ d Q (U (V ⟨M,0,Y⟩) (Z L) P) L->d.rangeAt M (m*26) (Aj e)):=by
      intro d hz;obtain⟨g',b1,CC,_,r'⟩:=G4 hz m EM;simp only[kS,ld,lW]at CC;obtain⟨⟨rfl,_,_⟩,_,_⟩:=CC;rw[he]at r';exact r'
     clear he;go_wp2_with fail
     go_loopg [19,20] (Z g) (λgk a i wr=>∃(q:Nat) (ab:Bool),a=pE ab/\i=X J q/\q<=Z g/\gk=Z g-q/\p7 (((g.take q).map pH).all (λx=>x.kind==97||Cg (Aq e) (AI e) (E.map Bv.f) x)=ab)/\p7 (BJ wr Q (U (V ⟨M,0,Y⟩) (Z L) P) L)/\p7 (Ac [] w1 wr))
     case atStart=>exact⟨0,jj,rfl,rfl,by omega,rfl,rfl,y,o⟩
     case round=>
      clear y o;obtain⟨q,ab,rfl,rfl,hq,IJ,K6,y,o⟩:=hrel;have Ix:=Ab IJ;clear IJ;have cB:=(HC.kept o).cell 3;simp at cB;by_cases FW:q<Z g
      .obtain⟨C,em,x,BS,B0,K7,FC,d0,d1,d2,d3,d4,d5,d6,d7,d8⟩:=Mi (Ad Nj o) (λp hp=>(H3 p hp).kept o) q FW;simp only[kS]at K7;obtain⟨rfl,_,rfl⟩:=K7;(have FO:(x,U BS (Z x.A.args) B0)∈g:=by rw[<-FC];exact kV FW);have AO:p7 (((g.take (q+1)).map pH).all (λx=>x.kind==97||Cg (Aq e) (AI e) (E.map Bv.f) x)=(ab&&(x.kind==97||Cg (Aq e) (AI e) (E.map Bv.f) x))):=by
        show _=_;rw[kW FW,lV,List.all_append,Aa K6,FC];simp
       (have eb:(0:Int)<=(q:Int):=by omega);(have e1:(q:Int)<(Z g:Int):=by omega);have HI:((x.kind.toNat:Int)==97)=(x.kind==97):=Cq _ 97;cases h97:(x.kind==97)with
       |true=>
        rw[h97]at HI AO;have HT:p7 (((g.take (q+1)).map pH).all (λx=>x.kind==97||Cg (Aq e) (AI e) (E.map Bv.f) x)=ab):=by
         have h:=Aa AO;rw[ox,Bool.and_true]at h;exact h
        (have HD:p7 (∀n,BJ (wr.drewN n) Q (U (V ⟨M,0,Y⟩) (Z L) P) L/\Ac [] w1 (wr.drewN n)):=λn=>⟨y.kept ((pO [] wr).drewN n),o.drewN n⟩);clear AO FC FO y o K6;go_wp2_with fail
        go_quiet (fail)
        cases ab
        all_goals
         go_wp2
         go_roundg (Z g-(q+1))
         case measure=>have:=Aa Ix;omega
         case rel=>exact⟨q+1,_,rfl,by go_num,by omega,rfl,HT,(HD _).1,(HD _).2⟩
       |false=>
        rw[h97]at HI AO;have K5:p7 (∀d,Ac [] wr d->Calls prog 88 #[pC (ml (Aj e)),pC #[X .u8 x.kind.toNat,O x.A.name,U BS (Z x.A.args) B0,X J x.A.at_,X .u8 x.L.v.toNat,O x.L.s,X .u8 x.R.v.toNat,O x.R.s,X J x.at_],U Nx (Z E) NM] d λr w'=>r=.returned (pE (Cg (Aq e) (AI e) (E.map Bv.f) x))/\Ac [] d w'):=λd G=>
         QZ e x BS B0 Nx NM E d H5 ((H3 _ FO).kept (o.trans G)) (et.kept (o.trans G)) (by omega) (c9 _ FO h97)
        have AT:p7 (∀d,Ac [] wr d->p8 d ⟨N,3,Y⟩=V (U (V ⟨C,0,Y⟩) (Z g) BA)/\d.rangeAt M (m*26) (Aj e)/\p8 d ⟨C,q*9,Y⟩=V (X .u8 x.kind.toNat)/\p8 d ⟨C,q*9+1,Y⟩=V (O x.A.name)/\p8 d ⟨C,q*9+2,Y⟩=V (U BS (Z x.A.args) B0)/\p8 d ⟨C,q*9+3,Y⟩=V (X J x.A.at_)/\p8 d ⟨C,q*9+4,Y⟩=V (X .u8 x.L.v.toNat)/\p8 d ⟨C,q*9+5,Y⟩=V (O x.L.s)/\p8 d ⟨C,q*9+6,Y⟩=V (X .u8 x.R.v.toNat)/\p8 d ⟨C,q*9+7,Y⟩=V (O x.R.s)/\p8 d ⟨C,q*9+8,Y⟩=V (X J x.at_)):=by
         intro d G;have HM:=o.trans G;obtain⟨fl,c8,x',er,e8,KS,H0,a0,T0,U0,SL,f5,eh,f9,f3,en⟩:=Mi (Ad Nj HM) (λp hp=>(H3 p hp).kept HM) q FW;simp only[kS,ld,lW]at KS;obtain⟨⟨rfl,_,_⟩,_,_⟩:=KS;rw[FC]at H0;simp only[lZ,kS]at H0;obtain⟨rfl,rfl,_,rfl⟩:=H0;have h3:=(HC.kept HM).cell 3;simp at h3;exact⟨h3,N2 d (y.kept G),a0,T0,U0,SL,f5,eh,f9,f3,en⟩
        obtain⟨LB,PT⟩:=pN (Cg (Aq e) (AI e) (E.map Bv.f) x);rw[PT,nI]at AO;rw[PT]at K5;clear PT FC FO;obtain⟨EK,HQ⟩:=pN (Aj e);rw[HQ]at K5 AT;(have X3:Z EK=26:=by rw[<-HQ,Ci,H5]);clear HQ;have hu:=underlying90;(have hi:(prog.info? 90).map (·.size)=V (Z EK):=by rw[X3];exact Tryz.zF);obtain⟨kd,VR⟩:=pN x.kind.toNat;obtain⟨nm,S⟩:=pN x.A.name;obtain⟨ja,K4⟩:=pN x.A.at_;obtain⟨na,KA⟩:=pN (Z x.A.args);obtain⟨lv,cL⟩:=pN x.L.v.toNat;obtain⟨ls,ce⟩:=pN x.L.s;obtain⟨rv,an⟩:=pN x.R.v.toNat;obtain⟨rs,cp⟩:=pN x.R.s;obtain⟨N0,Bx⟩:=pN x.at_;rw[VR,S,K4,KA,cL,ce,an,cp,Bx]at K5 AT;rw[VR]at HI;clear h97 VR S K4 KA cL ce an cp Bx d0 d1 d2 d3 d4 d5 d6 d7 d8;(go_wp2_with fail);clear cB
        go_region_held3 (λd=>Ac [] wr d/\p8 d ⟨N,3,Y⟩=V (U (V ⟨C,0,Y⟩) (Z g) BA)/\d.rangeAt M (m*26) EK/\p8 d ⟨C,q*9,Y⟩=V (X .u8 kd)/\p8 d ⟨C,q*9+1,Y⟩=V (O nm)/\p8 d ⟨C,q*9+2,Y⟩=V (U BS na B0)/\p8 d ⟨C,q*9+3,Y⟩=V (X J ja)/\p8 d ⟨C,q*9+4,Y⟩=V (X .u8 lv)/\p8 d ⟨C,q*9+5,Y⟩=V (O ls)/\p8 d ⟨C,q*9+6,Y⟩=V (X .u8 rv)/\p8 d ⟨C,q*9+7,Y⟩=V (O rs)/\p8 d ⟨C,q*9+8,Y⟩=V (X J N0)) ((go_split_ands;refine(fun(G:Ac [] wr _)=>And.intro G (AT _ G)) ?_;repeat (first|assumption|exact pO [] _|refine Ac.drew ?_|refine Ac.alloc ?_ _))) ((go_at_call 88;refine(K5 _ (by go_split_ands;assumption)).mono ?_;rintro e D ⟨rfl,k3⟩;have H7:Ac [] wr D:=(by go_split_ands;exact Ac.trans (by assumption) k3);clear k3))
        rename_i M3;clear M3 K5 AT;have ad:=Ab (y.kept H7);have Wa:=Ab (o.trans H7);clear y o H7 K6;cases ab
        all_goals
         have HT:=Ab AO;clear AO;go_wp2
         go_roundg (Z g-(q+1))
         case measure=>have:=Aa Ix;omega
         case rel=>exact⟨q+1,_,rfl,by go_num,by omega,rfl,HT,ad,Wa⟩
      ·(have a5:q=Z g:=by omega);have MN:p7 (((g.take (Z g)).map pH).all (λx=>x.kind==97||Cg (Aq e) (AI e) (E.map Bv.f) x)=ab):=by
        have h2:=Aa K6;rw[a5]at h2;exact h2
       clear K6 Ix a5;cases ab with
       |false=>
        have c5:p7 ((L.take (m+1)).any (λe=>(g.map pH).all λx=>x.kind==97||Cg (Aq e) (AI e) (E.map Bv.f) x)=K):=H4.trans MN;clear H4 Os MN;go_wp2
        go_roundg (Z L-(m+1))
        case measure=>have:=Aa S0;omega
        case rel=>exact⟨m+1,by go_num,by omega,rfl,c5,y,o⟩
       |true=>
        have HY:p7 (H6=jj):=Os MN;have TS:p7 (Ac [] w wr):=Ha.trans o;clear H4 Os MN;go_wp2;go_ret;rw[Aa HY];exact⟨rfl,TS⟩
    .have HY:p7 (H6=K):=by
      have h:=Aa bz;rw[kX (by omega)]at h;exact ca.symm.trans h
     have TS:p7 (Ac [] w wr):=Ha.trans o;go_wp2;go_ret;rw[Aa HY];exact⟨rfl,TS⟩
