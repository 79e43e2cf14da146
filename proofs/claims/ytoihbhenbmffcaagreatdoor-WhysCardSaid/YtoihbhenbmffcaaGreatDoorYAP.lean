import Derived.Test.YtoihbhenbmffcaaGreatDoorYAO
import Derived.Test.YtoihbhenbmffcaaGreatDoorYAE
set_option linter.all false
set_option maxHeartbeats 0
open List renaming length->Z,toArray->j2
open Option renaming none->Y,some->V
open Go.Value renaming slice->U,int->X,string->O,pointer->j3,agg->jH,bool->jJ
open Bool renaming false->K,true->jj
open Go.IntKind renaming i64->J
open Go.Obj renaming cells->j1
open Go.Ending renaming returned->j4
open Or renaming inl->j5,inr->j6
open Go renaming World->j7,Value->j8
open Go.RowKit renaming Hid->j9
open Go.World renaming cell?->jF,ownsRow->jG
open ByteArray renaming empty->jK
open Go.Act renaming put->jO
namespace Go.Proofs.YtoihbhenbmffcaaGreatDoor
open Go.RowKit Go.Proofs.Tryz
structure Dm(w:j7)(sv:j8)(fs:List B5):Prop where
 row:jG w 0 43 2 sv (Z fs) (fs.flatMap Bq)
 each:∀p∈fs,Ew w p/\QB p.f
def Dm.kept{w w':j7}{b:j8}{fs:List B5}(h:Dm w b fs)(k:Ac [] w w'):Dm w' b fs:=⟨Ad h.row k (by simp),λp a=>⟨(h.each p a).1.kept k,(h.each p a).2⟩⟩
def EL{w:j7}{q:j8}{fs:List B5}(h:Dm w q fs)(k:Nat)(b:k<Z fs):
  ∃g l n a f d,q=U (V ⟨g,0,Y⟩) (Z fs) l/\fs[k]=⟨⟨n,a⟩,U f (Z a) d⟩/\jF w ⟨g,k*2,Y⟩=V (O n)/\jF w ⟨g,k*2+1,Y⟩=V (U f (Z a) d):=by
 obtain⟨g,l,s,_,r⟩:=AC h.row (λc _=>rfl) k b;have i:=r k b 0 (by omega);have j:=r k b 1 (by omega);obtain⟨⟨⟨n,a⟩,t⟩,m⟩:∃p,fs[k]=p:=⟨_,rfl⟩;have o:=(h.each _ (eo b)).1;rw[m]at i j o;obtain⟨f,d,e⟩:=Ak o;simp only at e;subst e;simp[Bq]at i j;exact⟨g,l,n,a,f,d,s,m,i,j⟩
set_option maxRecDepth 100000
theorem JZ(F:Option Addr)(M:Nat)(fs:List B5)(x:B5)(w:j7)(h:Dm w (U F (Z fs) M) fs)(y:Ew w x)(BS:Z fs<=1000000)(C:QB x.f):
  Calls prog 21 #[U F (Z fs) M,jH (j2 (Bq x))] w λe s=>e=j4 (jJ (fs.any λp=>Fg p.f x.f))/\Ac [] w s:=by
 have S:j9 (∀(p:B5) wr,p∈fs->Ac [] w wr->Calls prog 49 #[jH (j2 (Bq p)),jH (j2 (Bq x))] wr λe s=>e=j4 (jJ (Fg p.f x.f))/\Ac [] wr s):=λp wr H t=>Rm p x wr ((h.each p H).1.kept t) (y.kept t) (by have:=(h.each p H).2.len;omega) (by have:=C.len;omega)
 have HS:=Ab h;obtain⟨⟨b,a⟩,xv⟩:=x;obtain⟨l,j,I⟩:=Ak y;simp only at I;subst I;obtain⟨R,z⟩:∃R,(fs.any λp=>Fg p.f ⟨b,a⟩)=R:=⟨_,rfl⟩;rw[show(fs.any λp=>Fg p.f (⟨⟨b,a⟩,U l (Z a) j⟩:B5).f)=R from z]
 have P:=Ab z;have c:=Ab (AI.new w [O b,U l (Z a) j] 43);have d:=Ab ((Ac.refl [] w).alloc (j1 [O b,U l (Z a) j].toArray 43));clear h y C z;simp only[Bq]at S⊢;go_enter func21,ntmps21;go_wp2;change Code.wp _ _ _ _ (w.alloc (j1 [O b,U l (Z a) j].toArray 43));generalize w.alloc (j1 [O b,U l (Z a) j].toArray 43)=w1 at c d⊢;generalize w.heap.size=N at c⊢
 go_loopg [5,6] (Z fs) (λgk i q wr=>∃(k:Nat),i=X J k/\k<=Z fs/\gk=Z fs-k/\j9 ((fs.take k).any (λp=>Fg p.f ⟨b,a⟩)=K)/\j9 (Ac [] w wr)/\j9 (AI wr N [O b,U l (Z a) j] 43))
 case atStart=>exact⟨0,rfl,by omega,rfl,by show _=_;simp,d,c⟩
 case round=>
  clear c d;obtain⟨k,rfl,t,E,G,d,c⟩:=hrel;have W:=Ab E;clear E;by_cases o:k<Z fs
  .obtain⟨g,BA,n,A,ad,cp,Q,r,d0,d1⟩:=EL (HS.kept d) k o;simp only[ei]at Q;obtain⟨rfl,_,rfl⟩:=Q;have c0:=c.cell 0;have c1:=c.cell 1;simp at c0 c1;have m:=Ab (S fs[k] wr.drew (eo o) d.drew);have L:j9 (Fg ⟨n,A⟩ ⟨b,a⟩=jj->R=jj):=by
    intro v;rw[<-Aa P];exact Jf _ _ k o (by rw[r];exact v)
   have D:j9 (Fg ⟨n,A⟩ ⟨b,a⟩=K->(fs.take (k+1)).any (λp=>Fg p.f ⟨b,a⟩)=K):=by
    intro v;rw[CY _ _ k o (Aa G),r];exact v
   rw[r]at m;simp only at m;generalize Fg ⟨n,A⟩ ⟨b,a⟩=SB at m L D;clear r;go_wp2_with fail
   go_region_law (go_simp;go_at_call 49;refine m.mono ?_;rintro e w3 ⟨rfl,u⟩;have T:=Ab (d.drew.trans u);have AB:=Ab (c.drew.kept u (by simp));clear u)
   all_goals
    clear m;cases SB with
    |true=>
     have B:=Ab (L rfl);go_wp2;go_ret;rw[Aa B];exact⟨rfl,T⟩
    |false=>
     have B:=Ab (D rfl);go_wp2
     go_roundg (Z fs-(k+1))
     case measure=>have:=Aa W;omega
     case rel=>exact⟨k+1,by go_num,by omega,rfl,B,T,AB⟩
  .have HE:j9 (R=K):=by
    have h:=Aa G;rw[eu (by omega)]at h;show _=_;rw[<-Aa P];exact h
   go_wp2;go_ret;rw[HE.out];exact⟨rfl,d⟩
theorem Tryz.info43:(Tryz.prog.info? 43).map (λi=>(i.zero,i.size,i.bytes))=V (V (jH #[O ⟨#[]⟩,U Y 0 0]),2,40):=by kernel_rfl
def F5(x:B5)(a:List B5×Bool)(y:B5):List B5×Bool:=if !a.2&&DI x.f y.f then(a.1++[x]++[y],jj)else(a.1++[y],a.2)
def Jc(l:List B5)(x:B5):List B5×Bool:=l.foldl (F5 x) ([],K)
def Of(l:List B5)(x:B5):List B5:=if(Jc l x).2 then(Jc l x).1 else(Jc l x).1++[x]
def UD(l:List B5)(x:Af):Bool:=l.any λp=>Fg p.f x
def Fx(l:List B5)(x:B5):List B5:=if UD l x.f then l else Of l x
def U2{l:List B5}{k:Nat}(a:k<Z l)(x:B5):Jc (l.take (k+1)) x=F5 x (Jc (l.take k) x) l[k]:=by
 unfold Jc;rw[ep a,fE];rfl
def Rb(x p:B5):∀(l:List B5) (a:List B5×Bool),p∈(l.foldl (F5 x) a).1->p=x\/p∈a.1\/p∈l
 |[],a,h=>j6 (j5 h)
 |y::l,a,h=>by
  rcases Rb x p l (F5 x a y) h with h|h|h
  .exact j5 h
  .unfold F5 at h;split at h
   .simp only[eG,ex]at h;rcases h with(h|h)|h
    .exact j6 (j5 h)
    .exact j5 h
    .exact j6 (j6 (by simp[h]))
   .simp only[eG,ex]at h;rcases h with h|h
    .exact j6 (j5 h)
    .exact j6 (j6 (by simp[h]))
  .exact j6 (j6 (by simp[h]))
def az{l:List B5}{x p:B5}(h:p∈Of l x):p=x\/p∈l:=by
 unfold Of at h;have a:∀p,p∈(Jc l x).1->p=x\/p∈l:=λp b=>by
  rcases Rb x p l ([],K) b with h|h|h
  .exact j5 h
  .simp at h
  .exact j6 h
 split at h
 .exact a p h
 .rcases eG.1 h with h|h
  .exact a p h
  .exact j5 (by simpa using h)
def T0{w:j7}{p:B5}(h:Ew w p):∀u∈Bq p,u.oneCell'=jj:=by
 obtain⟨c,b,e⟩:=Ak h;intro u a;simp only[Bq,ey,fP,or_false]at a;rcases a with rfl|rfl
 .rfl
 .rw[e];rfl
theorem QG(EX:Option Addr)(CC:Nat)(fs:List B5)(x:B5)(w:j7)(h:Dm w (U EX (Z fs) CC) fs)(P:Ew w x)(MY:Z fs<=100000)(FA:QB x.f):
  Calls prog 57 #[U EX (Z fs) CC,jH (j2 (Bq x))] w λe W=>∃b c,e=j4 (U b (Z (Fx fs x)) c)/\Dm W (U b (Z (Fx fs x)) c) (Fx fs x)/\Ac [] w W:=by
 obtain⟨i0,EK,Bx,EM,B9⟩:=fC Tryz.info43;have H1:j9 (∀wr,Ac [] w wr->Calls prog 21 #[U EX (Z fs) CC,jH (j2 (Bq x))] wr λe W=>e=j4 (jJ (UD fs x.f))/\Ac [] wr W):=λwr D=>JZ EX CC fs x wr (h.kept D) (P.kept D) (by omega) FA
 have KK:j9 (∀(p:B5) wr,p∈fs->Ac [] w wr->Calls prog 46 #[jH (j2 (Bq x)),jH (j2 (Bq p))] wr λe W=>e=j4 (jJ (DI x.f p.f))/\Ac [] wr W):=λp wr G D=>Xy x p wr (P.kept D) ((h.each p G).1.kept D) FA (h.each p G).2
 have HS:=Ab h;have K1:j9 (∀(wr:j7) b c,Ac [] w wr->jG wr 0 43 2 (U b (Z (Of fs x)) c) (Z (Of fs x)) ((Of fs x).flatMap Bq)->Dm wr (U b (Z (Of fs x)) c) (Of fs x)):=by
  intro wr b c D hr;refine⟨hr,λp G=>?_⟩;rcases az G with rfl|G
  .exact⟨P.kept D,FA⟩
  .exact⟨(h.each p G).1.kept D,(h.each p G).2⟩
 have HI:=Ab (T0 P);have LB:j9 (∀p∈fs,∀u∈Bq p,u.oneCell'=jj):=λp G=>T0 (h.each p G).1
 obtain⟨s,z,IS⟩:=Ak P;obtain⟨C,NN,A2⟩:∃n v,Bq x=[O n,v]/\v=U s (Z x.f.args) z:=⟨_,_,rfl,IS⟩;obtain⟨A2,rfl⟩:=A2;rw[A2]at H1 KK HI⊢;have K2:=Ab A2;generalize Z x.f.args=xl at*;clear h P FA IS A2;have m:=Ab (AI.new w [O C,U s xl z] 43);have j:=Ab ((Ac.refl [] w).alloc (j1 [O C,U s xl z].toArray 43));have NB:∀(x:Bool) (w:j7),(Op.unary .not (jJ x)).run prog w=.ok (jJ (!x)) w:=λ_ _=>rfl
 obtain⟨FW,H0⟩:∃FW,Fx fs x=FW:=⟨_,rfl⟩;rw[H0];have EY:j9 ((if UD fs x.f then fs else Of fs x)=FW):=H0;clear H0;go_enter func57,ntmps57;go_wp2_with fail
 refine(H1 _ j).mono ?_;rintro e w2 ⟨rfl,k2⟩;have HC:=Ab (m.kept k2 (by simp));have FO:=Ab (j.trans k2);clear H1 m j k2;generalize UD fs x.f=HB at EY;cases HB with
 |true=>
  have HE:j9 (fs=FW):=EY;go_wp2;go_ret;rw[<-Aa HE];exact⟨EX,CC,rfl,HS.kept FO,FO⟩
 |false=>
  have HE:j9 (Of fs x=FW):=EY;clear EY;go_wp2;obtain⟨N,HV⟩:∃N,w.heap.size=N:=⟨_,rfl⟩;rw[HV]at HC⊢;have DT:=Ab HV;clear HV
  go_loopg [6,7,8] (Z fs) (λgk o d i wr=>∃(k:Nat) (a:List B5) (r:Bool) (B:Option Addr) (A:Nat),o=U B (Z a) A/\d=jJ r/\i=X J k/\k<=Z fs/\gk=Z fs-k/\Z a<=k+r.toNat/\j9 (Jc (fs.take k) x=(a,r))/\jG wr (N+1) 43 2 (U B (Z a) A) (Z a) (a.flatMap Bq)/\j9 (Ac [] w wr)/\j9 (AI wr N [O C,U s xl z] 43))
  case atStart=>exact⟨0,[],K,Y,0,rfl,rfl,rfl,by omega,rfl,by simp,by show _=_;simp[Jc],eU _ _ _ _,FO,HC⟩
  case round=>
   clear HC FO;obtain⟨k,a,r,B,A,rfl,rfl,rfl,D,KB,H4,HF,H,j,m⟩:=hrel;have HG:=Ab KB;clear KB;have NL:=m.lt;(have Nq:r.toNat<=1:=by cases r<;>simp);have Go:j9 (Z a<=k+r.toNat):=H4;(have Nx:Z a<=100001:=by omega);clear H4;by_cases A1:k<Z fs
   .obtain⟨g,NS,n,E,b,c,he,HR,d0,d1⟩:=EL (HS.kept j) k A1;simp only[ei]at he;obtain⟨rfl,_,rfl⟩:=he;have c0:=m.cell 0;have c1:=m.cell 1;simp at c0 c1;(have De:j9 (Jc (fs.take (k+1)) x=F5 x (a,r) fs[k]):=by show _=_;rw[U2 A1,Aa HF]);have BA:=Ab (KK fs[k] wr.drew (eo A1) j.drew);have E0:=Ab (LB fs[k] (eo A1));obtain⟨AB,HX⟩:∃AB,DI x.f fs[k].f=AB:=⟨_,rfl⟩;have M:=Ab HX;rw[HX]at BA;(have AT:j9 (Bq fs[k]=[O n,U b (Z E) c]):=by show _=_;rw[HR];rfl);rw[Aa AT]at BA E0;have HY:j9 (∀wz:j7,Ac [] w wz->jF wz ⟨g,k*2,Y⟩=V (O n)/\jF wz ⟨g,k*2+1,Y⟩=V (U b (Z E) c)):=by
     intro wz LS;obtain⟨g',M3,n',Nd,NV,NM,H3,K5,f0,f1⟩:=EL (HS.kept LS) k A1;have e2:=K5.symm.trans HR;simp only[ei,eD,fm,B5.mk.injEq,Af.mk.injEq]at H3 e2;obtain⟨⟨rfl,_,_⟩,_,_⟩:=H3;obtain⟨⟨rfl,rfl⟩,rfl,_,rfl⟩:=e2;exact⟨f0,f1⟩
    obtain⟨y,hy⟩:∃y,fs[k]=y:=⟨_,rfl⟩;rw[hy]at De AT M;clear HR HX HF hy;cases r with
    |true=>
     (have A0:j9 (Jc (fs.take (k+1)) x=(a++[y],jj)):=by show _=_;rw[Aa De];simp[F5]);clear De BA M;(have H9:j9 (∀(nq:Nat) (l:j7),((wr.drewN nq).alloc (j1 #[O n,U b (Z E) c] 43)).grownBy l (U B (Z a) A).ownBlock->Ac [] w l/\AI l N [O C,U s xl z] 43):=λnq l hg=>⟨((j.drewN nq).alloc _).grown hg (λq F=>j6 (by have:=(H.lt q F).1;have:=Aa DT;omega)),((m.drewN nq).alloc _).grown hg (λe=>by have:=(H.lt N e).1;omega)⟩);go_wp2_with fail
     go_quiet (fail)
     all_goals
      go_wp2_with (at_builtin;refine eP _ rfl (.tmp 34) (.tmp 39) _ rfl (N+1) 43 i0 _ 2 40 underlying35 EK Bx EM B9 rfl (by omega) (U B (Z a) A) (Z a) (a.flatMap Bq) rfl (eC (Db H nq) _) ⟨wr.heap.size,0,Y⟩ 1 1 [O n,U b (Z E) c] rfl rfl (eS (cs:=#[O n,U b (Z E) c]) (t:=43) (fr:=(0,0)) (fe (wr.drewN nq) _)) E0 (by omega) (by unfold maxLen;omega) (by omega) (by simp;omega) (wr.heap.size+1) (by simp) ?_;intro g1 K6 l LE H6 MB M1)
      go_roundg (Z fs-(k+1))
      case measure=>have:=Aa HG;omega
      case rel=>exact⟨k+1,a++[y],jj,V ⟨g1,0,Y⟩,K6,by simp,rfl,by go_num,by omega,rfl,by have:=Aa Go;simp at this⊢;omega,A0,by rw[eY,eN,fF,fh,Aa AT];simpa using LE,(H9 nq l H6).1,(H9 nq l H6).2⟩
    |false=>
     go_wp2_with fail
     go_region_law (go_simp;go_at_call 46;refine BA.mono ?_;rintro e L ⟨rfl,k3⟩;have HT:=Ab (j.drew.trans k3);have BT:=Ab (m.drew.kept k3 (by simp));have Q:=Ad (Gw H) k3 (by simp);clear k3)
     all_goals
      clear BA j m H;have Nj:=BT.lt;obtain⟨M0,NA⟩:=HY L HT;have x0:=BT.cell 0;have x1:=BT.cell 1;simp at x0 x1;have HL:=Aa Go;simp only[jz,jC]at HL;clear d0 d1 c0 c1;cases AB with
      |true=>
       have A0:j9 (Jc (fs.take (k+1)) x=(a++[x]++[y],jj)):=by
        show _=_;rw[Aa De];have hh:=Aa M;simp[F5,hh]
       clear De M;go_wp2_with (first
        |(at_builtin;refine eP _ rfl (.tmp 30) (.tmp 32) _ rfl (N+1) 43 i0 _ 2 40 underlying35 EK Bx EM B9 rfl (by omega) (U B (Z a) A) (Z a) (a.flatMap Bq) rfl (eC Q _) ⟨L.heap.size,0,Y⟩ 1 1 [O C,U s xl z] rfl rfl (eS (cs:=#[O C,U s xl z]) (t:=43) (fr:=(0,0)) (fe L _)) HI (by omega) (by unfold maxLen;omega) (by omega) (by simp;omega) (L.heap.size+1) (by simp) ?_;intro g8 LL S FT FP K8 K3;have FL:=(HT.alloc _).grown FP (λq F=>j6 (by have:=(Q.lt q F).1;have:=Aa DT;omega));have f0:=(HY S FL).1;have f1:=(HY S FL).2;have LC:=Ab FL;have K9:=Ab ((BT.alloc _).grown FP (λe=>by have:=(Q.lt N e).1;omega));have M6:N+1<=S.heap.size:=(by have:=FP.size;simp at this;omega);clear FP K8 K3 FL)
        |(at_builtin;refine eP _ rfl (.tmp 34) (.tmp 39) _ rfl (N+1) 43 i0 _ 2 40 underlying35 EK Bx EM B9 rfl (by omega) (U (V ⟨g8,0,Y⟩) (Z a+1) LL) (Z a+1) (a.flatMap Bq++[O C,U s xl z]) rfl (eC FT _) ⟨S.heap.size,0,Y⟩ 1 1 [O n,U b (Z E) c] rfl rfl (eS (cs:=#[O n,U b (Z E) c]) (t:=43) (fr:=(0,0)) (fe S _)) E0 (by omega) (by unfold maxLen;omega) (by omega) (by simp;omega) (S.heap.size+1) (by simp) ?_;intro R Ax l T I HP HZ))
       have AH:=(LC.alloc _).grown I (λq F=>j6 (by have:=(FT.lt q F).1;have:=Aa DT;omega));have H2:=(K9.alloc _).grown I (λe=>by have:=(FT.lt N e).1;omega)
       go_roundg (Z fs-(k+1))
       case measure=>have:=Aa HG;omega
       case rel=>exact⟨k+1,a++[x]++[y],jj,V ⟨R,0,Y⟩,Ax,by simp,rfl,by go_num,by omega,rfl,by simp;omega,A0,by simp only[eY,eN,fF,fh];rw[Aa AT,Aa K2];simpa using T,AH,H2⟩
      |false=>
       have A0:j9 (Jc (fs.take (k+1)) x=(a++[y],K)):=by
        show _=_;rw[Aa De];have hh:=Aa M;simp[F5,hh]
       clear De M;go_wp2_with (at_builtin;refine eP _ rfl (.tmp 34) (.tmp 39) _ rfl (N+1) 43 i0 _ 2 40 underlying35 EK Bx EM B9 rfl (by omega) (U B (Z a) A) (Z a) (a.flatMap Bq) rfl (eC Q _) ⟨L.heap.size,0,Y⟩ 1 1 [O n,U b (Z E) c] rfl rfl (eS (cs:=#[O n,U b (Z E) c]) (t:=43) (fr:=(0,0)) (fe L _)) E0 (by omega) (by unfold maxLen;omega) (by omega) (by simp;omega) (L.heap.size+1) (by simp) ?_;intro R Ax l T I HP HZ)
       have AH:=(HT.alloc _).grown I (λq F=>j6 (by have:=(Q.lt q F).1;have:=Aa DT;omega));have H2:=(BT.alloc _).grown I (λe=>by have:=(Q.lt N e).1;omega)
       go_roundg (Z fs-(k+1))
       case measure=>have:=Aa HG;omega
       case rel=>exact⟨k+1,a++[y],K,V ⟨R,0,Y⟩,Ax,by simp,rfl,by go_num,by omega,rfl,by simp;omega,A0,by simp only[eY,eN,fF,fh];rw[Aa AT];simpa using T,AH,H2⟩
   .have KS:j9 (Jc fs x=(a,r)):=by
     have h:=Aa HF
     rwa [eu (by omega)]at h
    cases r with
    |true=>
     (have HW:j9 (Of fs x=a):=by show _=_;unfold Of;rw[Aa KS];rfl);go_wp2;go_ret;rw[<-Aa HE,Aa HW];have CL:=Aa K1 wr B A j;rw[Aa HW]at CL;exact⟨B,A,rfl,CL (Am H (eV _)),j⟩
    |false=>
     (have HW:j9 (Of fs x=a++[x]):=by show _=_;unfold Of;rw[Aa KS];rfl);have x0:=m.cell 0;have x1:=m.cell 1;simp at x0 x1;have HL:=Aa Go;simp only[jz,jC]at HL;go_wp2_with (at_builtin;refine eP _ rfl (.tmp 43) (.tmp 45) _ rfl (N+1) 43 i0 _ 2 40 underlying35 EK Bx EM B9 rfl (by omega) (U B (Z a) A) (Z a) (a.flatMap Bq) rfl (eC H _) ⟨wr.heap.size,0,Y⟩ 1 1 [O C,U s xl z] rfl rfl (eS (cs:=#[O C,U s xl z]) (t:=43) (fr:=(0,0)) (fe wr _)) HI (by omega) (by unfold maxLen;omega) (by omega) (by simp;omega) (wr.heap.size+1) (by simp) ?_;intro R Ax l T I HP HZ)
     have AH:=(j.alloc _).grown I (λq F=>j6 (by have:=(H.lt q F).1;have:=Aa DT;omega));have HD:=Ab (And.intro T AH);clear T AH I HP HZ;go_wp2;go_ret;rw[<-Aa HE,Aa HW];have CL:=Aa K1 l (V ⟨R,0,Y⟩) Ax HD.2;rw[Aa HW]at CL;refine⟨V ⟨R,0,Y⟩,Ax,by simp,CL ?_,HD.2⟩;simp only[eY,eN,fF,fh];rw[Aa K2];simpa using Am HD.1 (eV _)
def Gv:g0->Bool->List g0->g0
 |s,_,[]=>s
 |s,b,x::l=>Gv ((if b then s++⟨#[44]⟩else s)++x) jj l
def Cq(f:Af):g0:=Gv (f.name++⟨#[40]⟩) K f.args++⟨#[41,46]⟩
def aJ(c:UInt8):(⟨#[c]⟩:g0).size=1:=rfl
theorem R8(p:B5)(w:j7)(h:Ew w p)(P:Z p.f.args<=1000)(u:∀x∈p.f.args,x.size<=1000000)(Q:p.f.name.size<=1000000):
  Calls prog 28 #[jH (j2 (Bq p))] w λe E=>e=j4 (O (Cq p.f))/\Ac [] w E:=by
 obtain⟨⟨n,a⟩,av⟩:=p;have H:j9 (∀x∈a,x.size<=1000000):=u;simp only at P Q;obtain⟨b,c,e⟩:=Ak h;simp only at e;subst e;have I:j9 (jG w 0 9 1 (U b (Z a) c) (Z a) (a.flatMap Ah)):=h;obtain⟨R,v⟩:∃R,Cq ⟨n,a⟩=R:=⟨_,rfl⟩;rw[v];have B:j9 (Gv (n++⟨#[40]⟩) K (a.drop 0)++⟨#[41,46]⟩=R):=v;have q:=Ab (AI.new w [O n,U b (Z a) c] 43);have t:=Ab ((Ac.refl [] w).alloc (j1 [O n,U b (Z a) c].toArray 43));clear h u v;simp only[Bq];have G:(n++⟨#[40]⟩:g0).size<=1000001:=by rw[eO,aJ];omega
 have Ax:(⟨#[40]⟩:g0).size=1:=rfl;have AB:(⟨#[44]⟩:g0).size=1:=rfl;have A0:(⟨#[41,46]⟩:g0).size=2:=rfl;go_enter func28,ntmps28;go_wp2;change Code.wp _ _ _ _ (w.alloc (j1 [O n,U b (Z a) c].toArray 43));generalize w.alloc (j1 [O n,U b (Z a) c].toArray 43)=w1 at q t⊢;generalize w.heap.size=N at q⊢;have L:=q.cell 1;simp at L
 go_loopg [3,4] (Z a) (λgk o i wr=>∃(k:Nat) (s:g0),o=O s/\i=X J k/\k<=Z a/\gk=Z a-k/\s.size<=1000001+k*1000001/\j9 (Gv s (decide (0<k)) (a.drop k)++⟨#[41,46]⟩=R)/\wr=w1)
 case atStart=>exact⟨0,_,rfl,rfl,by omega,rfl,by simpa using G,B,rfl⟩
 case round=>
  clear B;obtain⟨k,s,rfl,rfl,T,A,AH,d,rfl⟩:=hrel;have z:=Ab A;clear A;by_cases l:k<Z a
  .obtain⟨g,W,C,d0⟩:=G3 (Ad I t (by simp)) k l;simp only[ei]at C;obtain⟨rfl,_,rfl⟩:=C;have u:=Aa H a[k] (eo l);have j:j9 (Gv ((if decide (0<k)then s++⟨#[44]⟩else s)++a[k]) jj (a.drop (k+1))++⟨#[41,46]⟩=R):=by
    have h:=Aa d;rw[eQ l,Gv]at h;exact h
   have D:k*1000001<=1000*1000001:=fV _ (by omega);by_cases y:0<k
   ·(have F:(0:Int)<(k:Int):=by omega);have m:j9 (Gv (s++⟨#[44]⟩++a[k]) (decide (0<k+1)) (a.drop (k+1))++⟨#[41,46]⟩=R):=by
     have h:=Aa j;simp only[y,decide_true,if_true]at h;show _=_;simpa using h
    (have M:(s++⟨#[44]⟩:g0).size=s.size+1:=by rw[eO];rfl);(have r:(s++⟨#[44]⟩++a[k]:g0).size<=1000001+(k+1)*1000001:=by rw[eO,M];omega);clear d j;go_wp2
    go_roundg (Z a-(k+1))
    case measure=>have:=Aa z;omega
    case rel=>exact⟨k+1,_,rfl,by go_num,by omega,rfl,r,m,rfl⟩
   ·(have F:¬(0:Int)<(k:Int):=by omega);have m:j9 (Gv (s++a[k]) (decide (0<k+1)) (a.drop (k+1))++⟨#[41,46]⟩=R):=by
     have h:=Aa j;simp only[y,jr,ev,if_false]at h;show _=_;simpa using h
    (have r:(s++a[k]:g0).size<=1000001+(k+1)*1000001:=by rw[eO];omega);clear d j;go_wp2
    go_roundg (Z a-(k+1))
    case measure=>have:=Aa z;omega
    case rel=>exact⟨k+1,_,rfl,by go_num,by omega,rfl,r,m,rfl⟩
  .have S:j9 (s++⟨#[41,46]⟩=R):=by
    have h:=Aa d;rw[fq (by omega)]at h;exact h
   have D:k*1000001<=1000*1000001:=fV _ (by omega);go_wp2;go_ret;rw[<-Aa S];exact⟨rfl,t⟩
def Ai(e:List g0):List j8:=e.map O
def Bj(e:List g0):(jH (j2 (Ai e))).cells=j2 (Ai e):=by
 unfold Ai;simp[Value.cells]
def AJ(e:List g0)(t:AG):g0:=if t.v=0 then t.s else e.getD (t.v.toNat-65) jK
theorem Kj(e:List g0)(t:AG)(w:j7)(C:Z e=26)(f:t.v=0\/(65<=t.v.toNat/\t.v.toNat<=90)):
  Calls prog 89 #[jH (j2 (Ai e)),jH (j2 (AQ t))] w λr x=>r=j4 (O (AJ e t))/\Ac [] w x:=by
 have D:=Bj e;have A:Z (Ai e)=26:=by unfold Ai;simp[C]
 have g:j9 (∀i (h:i<26),(Ai e)[i]?=V (O (e.getD i jK))):=by
  intro i h;unfold Ai;rw[fM,eK,ez (by omega)];rfl
 obtain⟨a,c⟩:=t;obtain⟨R,m⟩:∃R,AJ e ⟨a,c⟩=R:=⟨_,rfl⟩;rw[m];have k:j9 ((if a=0 then c else e.getD (a.toNat-65) jK)=R):=m;generalize Ai e=E at D A g⊢;have l:=Ab (((Ac.refl [] w).alloc (j1 (j2 E) 90)).alloc (j1 [X .u8 a.toNat,O c].toArray 93));have p:=Ab ((AI.new w E 90).alloc (j1 [X .u8 a.toNat,O c].toArray 93));simp only[AQ];clear m;simp only at f;by_cases b:a=0
 .have d:j9 (c=R):=by have h:=Aa k;rw[eI b]at h;exact h
  subst b;go_enter func89,ntmps89;go_wp2;go_ret;rw[<-Aa d];exact⟨rfl,l⟩
 .have d:j9 (e.getD (a.toNat-65) jK=R):=by have h:=Aa k;rw[eE b]at h;exact h
  have B:65<=a.toNat/\a.toNat<=90:=by
   rcases f with h|h
   .exact absurd h b
   .exact h
  have z:((a.toNat:Int)==0)=K:=by rw[ff];omega
  obtain⟨j,u⟩:∃j,a.toNat-65=j:=⟨_,rfl⟩;have s:a.toNat=j+65:=by omega
  rw[u]at d;have q:j<26:=by omega
  rw[s]at p l z⊢;have o:=p.cell j;rw[Aa g j q]at o;have y:j9 (∀h:j<Z E,E[j]=O (e.getD j jK)):=λh=>by
   have n:=Aa g j q;rw[ez h]at n;exact iM n
  clear k u s B f b o;go_enter func89,ntmps89;go_wp2;go_ret;rw[<-Aa d];exact⟨congrArg j4 (y _),l⟩
def So(x:g0):Bool:=x.toList==[]
def DO(x:g0):So x=jj↔x.size=0:=by
 unfold So;rw[A7];cases h:x.toList<;>simp
def Er(a b:g0):(a.toList==b.toList)=jj↔a=b:=by
 constructor
 .intro h;exact toList_inj (by simpa using h)
 .intro h;rw[h];simp
def CT:List g0->List AG->List g0->List g0×Bool
 |e,[],_=>(e,jj)
 |e,_::_,[]=>(e,jj)
 |e,t::ts,x::xs=>if So (AJ e t)then CT (e.set (t.v.toNat-65) x) ts xs else if(AJ e t).toList==x.toList then CT e ts xs else(e,K)
def cZ(e e':List g0):Prop:=Z e'=Z e/\∀j,(e.getD j jK).size≠0->e'.getD j jK=e.getD j jK
def cZ.refl(e:List g0):cZ e e:=⟨rfl,λ_ _=>rfl⟩
def cZ.trans{a b c:List g0}(h:cZ a b)(k:cZ b c):cZ a c:=⟨k.1.trans h.1,λj d=>(k.2 j (by rw[h.2 j d];exact d)).trans (h.2 j d)⟩
def cZ.set{e:List g0}{j:Nat}(h:(e.getD j jK).size=0)(x:g0):cZ e (e.set j x):=by
 refine⟨by simp,λi b=>?_⟩;by_cases a:j=i
 .subst a;exact absurd h b
 .rw[eK,eK,fG a]
def PO{e c:List g0}(h:cZ e c){t:AG}(b:(AJ e t).size≠0):AJ c t=AJ e t:=by
 unfold AJ at b⊢;by_cases a:t.v=0
 .rw[eI a,eI a]
 .rw[eE a]at b⊢;rw[eE a];exact h.2 _ b
def Bs(t:AG):Prop:=(t.v=0/\t.s.size≠0)\/(65<=t.v.toNat/\t.v.toNat<=90)
def Bs.yH{e:List g0}{t:AG}(h:Bs t)(a:(AJ e t).size=0):t.v≠0/\65<=t.v.toNat/\t.v.toNat<=90/\(e.getD (t.v.toNat-65) jK).size=0:=by
 rcases h with⟨c,b⟩|⟨b,d⟩
 .unfold AJ at a;rw[eI c]at a;exact absurd a b
 .have c:t.v≠0:=λh=>by rw[h]at b;exact absurd b (by decide)
  unfold AJ at a;rw[eE c]at a;exact⟨c,b,d,a⟩
def Z1{e:List g0}{t:AG}(c:Z e=26)(a:t.v≠0)(b:65<=t.v.toNat)(d:t.v.toNat<=90)(x:g0):AJ (e.set (t.v.toNat-65) x) t=x:=by
 unfold AJ;rw[eE a,eK,gi (by omega)];rfl
def GB:∀(a:List AG) (b:List g0) (e c:List g0),Z e=26->Z a=Z b->(∀t∈a,Bs t)->(∀x∈b,x.size≠0)->CT e a b=(c,jj)->cZ e c/\a.map (AJ c)=b
 |[],[],e,c,_,_,_,_,h=>by
  simp only[CT,fo]at h;rw[<-h.1];exact⟨cZ.refl e,rfl⟩
 |[],_::_,_,_,_,h,_,_,_=>by simp at h
 |_::_,[],_,_,_,h,_,_,_=>by simp at h
 |t::a,x::b,e,c,he,hl,hg,hx,h=>by
  rw[CT]at h;have n:Z a=Z b:=by simpa using hl
  have o:∀t∈a,Bs t:=λu j=>hg u (by simp[j])
  have l:∀x∈b,x.size≠0:=λu j=>hx u (by simp[j])
  have m:=hx x (by simp);by_cases k:So (AJ e t)=jj
  .rw[eI k]at h;obtain⟨r,q,p,s⟩:=(hg t (by simp)).yH ((DO _).1 k);obtain⟨d,g⟩:=GB a b (e.set (t.v.toNat-65) x) c (by simp[he]) n o l h;have f:=Z1 he r q p x;refine⟨(cZ.set s x).trans d,?_⟩;rw[eR,g,PO d (by rw[f];exact m),f]
  .rw[eE k]at h;by_cases i:((AJ e t).toList==x.toList)=jj
   .rw[eI i]at h;obtain⟨d,g⟩:=GB a b e c he n o l h;have f:=(Er _ _).1 i;refine⟨d,?_⟩;rw[eR,g,PO d (by rw[f];exact m),f]
   .rw[eE i]at h;simp at h
def DU(σ:UInt8->g0)(t:AG):g0:=if t.v=0 then t.s else σ t.v
def DX(e:List g0)(σ:UInt8->g0):Prop:=Z e=26/\∀v:UInt8,65<=v.toNat->v.toNat<=90->(e.getD (v.toNat-65) jK).size=0\/e.getD (v.toNat-65) jK=σ v
def DX.val{e:List g0}{σ:UInt8->g0}(h:DX e σ){t:AG}(g:Bs t)(d:(AJ e t).size≠0):AJ e t=DU σ t:=by
 unfold AJ at d⊢;unfold DU;by_cases a:t.v=0
 .rw[eI a,eI a]
 .rw[eE a]at d⊢;rw[eE a];rcases g with⟨b,_⟩|⟨b,f⟩
  .exact absurd b a
  .rcases h.2 t.v b f with c|c
   .exact absurd c d
   .exact c
def DX.set{e:List g0}{σ:UInt8->g0}(h:DX e σ){v:UInt8}(f:65<=v.toNat)(d:v.toNat<=90):DX (e.set (v.toNat-65) (σ v)) σ:=by
 refine⟨by simp[h.1],λu a b=>?_⟩;by_cases c:v.toNat-65=u.toNat-65
 .have:v=u:=gn.1 (by omega);subst this;right;rw[eK,gi (by rw[h.1];omega)];rfl
 .rw[eK,fG c,<-eK];exact h.2 u a b
def Hc(σ:UInt8->g0):∀(a:List AG) (e:List g0),DX e σ->(∀t∈a,Bs t/\(DU σ t).size≠0)->∃f,CT e a (a.map (DU σ))=(f,jj)/\DX f σ
 |[],e,h,_=>⟨e,rfl,h⟩
 |t::a,e,h,hg=>by
  rw[eR,CT];have g:∀u∈a,Bs u/\(DU σ u).size≠0:=λu l=>hg u (by simp[l])
  obtain⟨d,o⟩:=hg t (by simp);by_cases b:So (AJ e t)=jj
  .rw[eI b];obtain⟨m,k,i,n⟩:=d.yH ((DO _).1 b);(have c:DU σ t=σ t.v:=by unfold DU;rw[eE m]);rw[c];exact Hc σ a _ (h.set k i) g
  .rw[eE b];have c:=h.val d (λj=>b ((DO _).2 j));rw[eI (by rw[c];simp)];exact Hc σ a e h g
def Re:∀(l m:List g0),GM l m=jj↔l=m
 |[],[]=>by simp[GM]
 |[],_::_=>by simp[GM]
 |_::_,[]=>by simp[GM]
 |x::l,y::m=>by
  rw[GM,eW,Er,Re l m];simp
def Ik(a b:Af):Fg a b=jj↔a=b:=by
 obtain⟨d,f⟩:=a;obtain⟨e,c⟩:=b;unfold Fg;rw[eW,Er,Re];simp
def Av(e:List g0)(A:Dj):Af:=⟨A.name,A.args.map (AJ e)⟩
def Bh(σ:UInt8->g0)(A:Dj):Af:=⟨A.name,A.args.map (DU σ)⟩
def BH(e:List g0)(A:Dj)(f:Af):List g0×Bool:=if(A.name.toList==f.name.toList)&&(Z A.args==Z f.args)then CT e A.args f.args else(e,K)
def GP(e:List g0)(A:Dj)(f:Af):Option (List g0):=if(BH e A f).2 then V (BH e A f).1 else Y
def BY(s:List Af)(l:List (List g0))(x:BF):List (List g0):=if x.kind==97 then l.flatMap (λe=>s.filterMap (GP e x.A))else l
def DD(s:List Af)(f:Af):Bool:=s.any λg=>Fg g f
def BL(s:List Af)(f:Af):DD s f=jj↔f∈s:=by
 unfold DD;rw[fW];constructor
 .rintro ⟨g,a,h⟩;rw[Ik]at h;rw[<-h];exact a
 .intro h;exact⟨f,h,(Ik f f).2 rfl⟩
def Cg(fact:Dj->Af)(val:AG->g0)(s:List Af)(x:BF):Bool:=
 if x.kind==97 then DD s (fact x.A)else if x.kind==33 then !DD s (fact x.A)else if x.kind==61 then(val x.L).toList==(val x.R).toList else if x.kind==35 then !((val x.L).toList==(val x.R).toList)else Fm (val x.L) (val x.R)
def BM:List g0:=List.replicate 26 jK
def CD(body:List BF)(s:List Af):List (List g0):=(body.foldl (BY s) [BM]).filter λe=>body.all λx=>x.kind==97||Cg (Av e) (AJ e) s x
def Jp(f:Af):Prop:=∀x∈f.args,x.size≠0
def Rx{e d:List g0}{A:Dj}{f:Af}(h:GP e A f=V d):A.name=f.name/\Z A.args=Z f.args/\CT e A.args f.args=(d,jj):=by
 unfold GP BH at h;by_cases c:((A.name.toList==f.name.toList)&&(Z A.args==Z f.args))=jj
 .rw[eI c]at h;rw[eW]at c;cases hm:CT e A.args f.args with
  |mk a b=>
   rw[hm]at h;cases b with
   |false=>simp at h
   |true=>
    simp at h;exact⟨(Er _ _).1 c.1,by simpa using c.2,by rw[h]⟩
 .rw[eE c]at h;simp at h
def cI{e a:List g0}{A:Dj}{f:Af}(d:A.name=f.name)(c:Z A.args=Z f.args)(g:CT e A.args f.args=(a,jj)):GP e A f=V a:=by
 have h:((A.name.toList==f.name.toList)&&(Z A.args==Z f.args))=jj:=by
  rw[eW,Er];exact⟨d,by simpa using c⟩
 have b:BH e A f=(a,jj):=by
  unfold BH;rw[eI h,g]
 unfold GP;rw[b];rfl
def C8{s:List Af}(n:∀f∈s,Jp f):∀(g:List BF) (l:List (List g0)),(∀e∈l,Z e=26)->(∀x∈g,(x.kind==97)=jj->∀t∈x.A.args,Bs t)->
  ∀a∈g.foldl (BY s) l,Z a=26/\∃e∈l,cZ e a/\∀x∈g,(x.kind==97)=jj->Av a x.A∈s/\∀t∈x.A.args,(AJ a t).size≠0
 |[],l,hl,_,a,he'=>⟨hl a he',a,he',cZ.refl a,λx M=>by simp at M⟩
 |x::g,l,hl,hg,a,he'=>by
  rw[fd]at he';have w:∀x∈g,(x.kind==97)=jj->∀t∈x.A.args,Bs t:=λy c=>hg y (by simp[c])
  by_cases j:(x.kind==97)=jj
  .have D:∀b∈BY s l x,∃e∈l,∃f∈s,GP e x.A f=V b:=by
    intro b k;unfold BY at k;rw[eI j]at k;obtain⟨e,d,F⟩:=fA.1 k;obtain⟨f,h,m⟩:=gA.1 F;exact⟨e,d,f,h,m⟩
   have I:∀b∈BY s l x,Z b=26:=by
    intro b k;obtain⟨e,d,f,h,m⟩:=D b k;obtain⟨_,r,v⟩:=Rx m;rw[(GB _ _ _ _ (hl e d) r (hg x (by simp) j) (n f h) v).1.1,hl e d]
   obtain⟨u,b,L,p,q⟩:=C8 n g (BY s l x) I w a he';obtain⟨e,d,f,h,m⟩:=D b L;obtain⟨H,r,v⟩:=Rx m;obtain⟨E,B⟩:=GB _ _ _ _ (hl e d) r (hg x (by simp) j) (n f h) v;(have C:∀t∈x.A.args,(AJ b t).size≠0:=λt i=>n f h _ (by rw[<-B];exact eZ i));(have z:∀t∈x.A.args,AJ a t=AJ b t:=λt i=>PO p (C t i));refine⟨u,e,d,E.trans p,λy c o=>?_⟩;rcases ey.1 c with rfl|c
   .refine⟨?_,λt i=>by rw[z t i];exact C t i⟩;have:Av a y.A=f:=by
     unfold Av;rw[fQ z,B,H]
    rw[this];exact h
   .exact q y c o
  ·(have G:BY s l x=l:=by unfold BY;rw[eE j]);rw[G]at he';obtain⟨u,e,d,p,q⟩:=C8 n g l hl w a he';refine⟨u,e,d,p,λy c o=>?_⟩;rcases ey.1 c with rfl|c
   .exact absurd o j
   .exact q y c o
def Hj{s:List Af}(σ:UInt8->g0):∀(a:List BF) (l:List (List g0)) (e:List g0),e∈l->DX e σ->(∀x∈a,(x.kind==97)=jj->(∀t∈x.A.args,Bs t/\(DU σ t).size≠0)/\Bh σ x.A∈s)->
  ∃m∈a.foldl (BY s) l,DX m σ
 |[],l,e,he,ha,_=>⟨e,he,ha⟩
 |x::a,l,e,he,ha,hb=>by
  rw[fd];have c:∀y∈a,(y.kind==97)=jj->(∀t∈y.A.args,Bs t/\(DU σ t).size≠0)/\Bh σ y.A∈s:=λy h=>hb y (by simp[h])
  by_cases b:(x.kind==97)=jj
  .obtain⟨j,g⟩:=hb x (by simp) b;obtain⟨d,k,i⟩:=Hc σ x.A.args e ha j;refine Hj σ a _ d ?_ i c;unfold BY;rw[eI b];exact fA.2 ⟨e,he,gA.2 ⟨_,g,cI rfl (by simp[Bh]) k⟩⟩
  ·(have f:BY s l x=l:=by unfold BY;rw[eE b]);rw[f];exact Hj σ a l e he ha c
def DX.start(σ:UInt8->g0):DX BM σ:=by
 refine⟨rfl,λv a b=>j5 ?_⟩;unfold BM;rw[eK,List.getElem?_replicate];split<;>rfl
def ES(body:List BF)(t:AG):Prop:=t.v=0\/∃x∈body,(x.kind==97)=jj/\∃u∈x.A.args,u.v=t.v
def Oe(e:List g0)(v:UInt8):g0:=e.getD (v.toNat-65) jK
def J3(e:List g0)(t:AG):DU (Oe e) t=AJ e t:=rfl
def Sd{s:List Af}(k:∀f∈s,Jp f){b:List BF}(l:∀x∈b,(x.kind==97)=jj->∀t∈x.A.args,Bs t){e:List g0}(a:e∈CD b s):
  ∀x∈b,Cg (Av e) (AJ e) s x=jj:=by
 unfold CD at a;obtain⟨i,g⟩:=e9.1 a;obtain⟨_,_,_,_,j⟩:=C8 k b [BM] (λe a=>by simp at a;rw[a];rfl) l e i;intro x d;by_cases c:(x.kind==97)=jj
 .unfold Cg;rw[eI c];exact(BL _ _).2 (j x d c).1
 .have:=(gN.1 g) x d;simp only[gr]at this;rcases this with h|h
  .exact absurd h c
  .exact h
def TF{s:List Af}(o:∀f∈s,Jp f){a:List BF}(l:∀x∈a,(x.kind==97)=jj->∀t∈x.A.args,Bs t)(σ:UInt8->g0)(p:∀x∈a,Cg (Bh σ) (DU σ) s x=jj)
  (C:∀x∈a,(x.kind==97)=K->((x.kind==33)=jj->∀t∈x.A.args,ES a t)/\((x.kind==33)=K->ES a x.L/\ES a x.R)):
  ∃e∈CD a s,∀t,ES a t->AJ e t=DU σ t:=by
 have r:∀x∈a,(x.kind==97)=jj->(∀t∈x.A.args,Bs t/\(DU σ t).size≠0)/\Bh σ x.A∈s:=by
  intro x c b;have h:=p x c;unfold Cg at h;rw[eI b,BL]at h;exact⟨λt g=>⟨l x c b t g,o _ h _ (eZ g)⟩,h⟩
 obtain⟨e,i,B⟩:=Hj σ a [BM] BM (by simp) (DX.start σ) r;obtain⟨_,_,_,_,q⟩:=C8 o a [BM] (λe i=>by simp at i;rw[i];rfl) l e i;have j:∀t,ES a t->AJ e t=DU σ t:=by
  intro t g;rcases g with d|⟨x,c,b,u,n,z⟩
  .unfold AJ DU;rw[eI d,eI d]
  .have w:=(q x c b).2 u n;have k:=B.val (l x c b u n) w;unfold AJ DU at k⊢;rw[<-z];by_cases d:u.v=0
   .rw[eI d,eI d]
   .rw[eE d,eE d]at k⊢;exact k
 refine⟨e,?_,j⟩;unfold CD;refine e9.2 ⟨i,gN.2 λx c=>?_⟩;cases b:(x.kind==97)with
 |true=>rfl
 |false=>
  obtain⟨y,m⟩:=C x c b;rw[ib,<-p x c];unfold Cg;simp only[b,ev,if_false];cases hk2:(x.kind==33)with
  |true=>
   simp only[if_true];have:Av e x.A=Bh σ x.A:=by
    unfold Av Bh;rw[fQ (λt g=>j t (y hk2 t g))]
   rw[this]
  |false=>
   simp only[ev,if_false];rw[j _ (m hk2).1,j _ (m hk2).2]
def Aj(c:A8):List BF:=c.bl.map Prod.fst
def CR(c:A8)(σ:UInt8->g0):Gp Af:=
 ⟨((Aj c).filter λx=>x.kind==97).map λx=>Bh σ x.A,((Aj c).filter λx=>x.kind==33).map λx=>Bh σ x.A,Bh σ c.head⟩
def Mf(c:A8)(σ:UInt8->g0):Prop:=∀x∈Aj c,(x.kind==97)=K->(x.kind==33)=K->Cg (Bh σ) (DU σ) [] x=jj
def E4(cs:List A8)(i:Gp Af):Prop:=∃c∈cs,∃σ,Mf c σ/\i=CR c σ
def PX{f:Dj->Af}{v:AG->g0}{s t:List Af}{x:BF}(a:(x.kind==97)=K)(b:(x.kind==33)=K):Cg f v s x=Cg f v t x:=by
 unfold Cg;rw[a,b];rfl
def GO(c:A8)(σ:UInt8->g0)(s:List Af):(∀x∈Aj c,Cg (Bh σ) (DU σ) s x=jj)↔Jh (CR c σ) (·∈s) (·∈s)/\Mf c σ:=by
 constructor
 .intro h;refine⟨⟨λg i=>?_,λg i l=>?_⟩,λx a f e=>?_⟩
  .obtain⟨x,a,rfl⟩:=eH.1 i;obtain⟨a,b⟩:=e9.1 a;have d:=h x a;unfold Cg at d;rw[eI b,BL]at d;exact d
  .obtain⟨x,a,rfl⟩:=eH.1 i;obtain⟨a,b⟩:=e9.1 a;have d:=h x a;have j:(x.kind==97)=K:=by
    (have:x.kind=33:=by simpa using b);rw[this];rfl
   unfold Cg at d;rw[eE (by rw[j];simp),eI b,(BL _ _).2 l]at d;cases d
  .rw[PX f e (t:=s)];exact h x a
 .rintro ⟨⟨f,e⟩,k⟩ x a;cases b:(x.kind==97)with
  |true=>
   unfold Cg;rw[b,eI rfl,BL];exact f _ (eH.2 ⟨x,e9.2 ⟨a,b⟩,rfl⟩)
  |false=>
   cases hk2:(x.kind==33)with
   |true=>
    unfold Cg;rw[b,hk2,eE (by simp),eI rfl];cases d:DD s (Bh σ x.A)with
    |false=>rfl
    |true=>exact absurd ((BL _ _).1 d) (e _ (eH.2 ⟨x,e9.2 ⟨a,hk2⟩,rfl⟩))
   |false=>
    rw[PX b hk2 (t:=[])];exact k x a b hk2
structure Qw(cs:List A8):Prop where
 args:∀c∈cs,∀x∈Aj c,(x.kind==97)=jj->∀t∈x.A.args,Bs t
 safe:∀c∈cs,∀x∈Aj c,(x.kind==97)=K->((x.kind==33)=jj->∀t∈x.A.args,ES (Aj c) t)/\((x.kind==33)=K->ES (Aj c) x.L/\ES (Aj c) x.R)
 head:∀c∈cs,∀t∈c.head.args,ES (Aj c) t
structure Di(cs:List A8)(zM:g0->Nat):Prop where
 pos:∀c∈cs,∀x∈Aj c,(x.kind==97)=jj->zM x.A.name<=zM c.head.name
 neg:∀c∈cs,∀x∈Aj c,(x.kind==33)=jj->zM x.A.name<zM c.head.name
def Di.zW{cs:List A8}{j:g0->Nat}(h:Di cs j):KE (E4 cs) (λf=>j f.name):=by
 refine⟨?_,?_⟩
 .rintro i ⟨c,e,σ,_,rfl⟩ g d;obtain⟨x,a,rfl⟩:=eH.1 d;obtain⟨a,b⟩:=e9.1 a;exact h.pos c e x a b
 .rintro i ⟨c,e,σ,_,rfl⟩ g d;obtain⟨x,a,rfl⟩:=eH.1 d;obtain⟨a,b⟩:=e9.1 a;exact h.neg c e x a b
def ai{cs:List A8}{a:g0->Nat}(k:Di cs a)(v:Qw cs){n:Nat}{b s:List Af}(t:Do (E4 cs) (λf=>a f.name) n (·∈s))(w:∀f∈b,f∈s)(r:∀f∈s,f∈b\/a f.name=n)(p:∀f∈b,Jp f)
  {c:A8} (o:c∈cs) (m:a c.head.name=n) {e:List g0} (x:e∈CD (Aj c) b):Do (E4 cs) (λf=>a f.name) n (λf=>f∈s\/f=Av e c.head):=by
 have q:=Sd p (v.args c o) x;have i:Jh (CR c (Oe e)) (·∈b) (·∈b)/\Mf c (Oe e):=(GO c (Oe e) b).1 q;have l:E4 cs (CR c (Oe e)):=⟨c,o,Oe e,i.2,rfl⟩;have j:(CR c (Oe e)).head=Av e c.head:=rfl;have:=t.step (E4 cs) (λf=>a f.name) k.zW l (by rw[j];exact m) ⟨λg d=>w g (i.1.1 g d),λg d u=>by
  rcases r g u with h|h
  .exact i.1.2 g d h
  .have z:a g.name<a (CR c (Oe e)).head.name:=k.zW.neg _ l g d
   have y:a (CR c (Oe e)).head.name=n:=by rw[j];exact m
   omega⟩
 rw[j]at this;exact this
def YK{cs:List A8}{a:g0->Nat}(d:Qw cs){n:Nat}{s:List Af}(j:Do (E4 cs) (λf=>a f.name) n (·∈s))(u:∀f∈s,Jp f)
  (h:∀c∈cs,a c.head.name=n->∀e∈CD (Aj c) s,Av e c.head∈s):Do (E4 cs) (λf=>a f.name) (n+1) (·∈s):=by
 refine j.next (E4 cs) (λf=>a f.name) ?_;rintro i ⟨c,b,σ,o,rfl⟩ v r;have m:=(GO c σ s).2 ⟨r,o⟩;obtain⟨e,k,l⟩:=TF u (d.args c b) σ m (d.safe c b);have g:=h c b v e k;have q:Av e c.head=Bh σ c.head:=by
  unfold Av Bh;rw[fQ (λt p=>l t (d.head c b t p))]
 rw[q]at g;exact g
def aK{cs:List A8}{a b:g0->Nat}(o:Di cs a)(n:Di cs b){h k:Nat}{M N:Af->Prop}(l:Do (E4 cs) (λf=>a f.name) h M)(q:Do (E4 cs) (λf=>b f.name) k N)(m:∀c∈cs,a c.head.name<h)(p:∀c∈cs,b c.head.name<k):∀f,M f↔N f:=by
 have j:=l.done (E4 cs) (λf=>a f.name) (λi e=>by obtain⟨c,d,σ,_,rfl⟩:=e;exact m c d);have g:=q.done (E4 cs) (λf=>b f.name) (λi e=>by obtain⟨c,d,σ,_,rfl⟩:=e;exact p c d);exact Yi (E4 cs) _ _ o.zW n.zW j.1 j.2 g.1 g.2
def Ks{w:j7}{v:j8}{cs:List A8}(h:Cn w v cs)(k:Nat)(d:k<Z cs):
  ∃g r a i f e j b l,v=U (V ⟨g,0,Y⟩) (Z cs) r/\cs[k]=⟨a,U i (Z a.args) f,U e (Z b) j,b,l⟩/\Uj w ⟨a,U i (Z a.args) f,U e (Z b) j,b,l⟩/\
   jF w ⟨g,k*5,Y⟩=V (O a.name)/\jF w ⟨g,k*5+1,Y⟩=V (U i (Z a.args) f)/\jF w ⟨g,k*5+2,Y⟩=V (X J a.at_)/\jF w ⟨g,k*5+3,Y⟩=V (U e (Z b) j):=by
 obtain⟨g,r,y,_,m⟩:=AC h.row (λc _=>BG c) k d;have n:=h.each _ (eo d);have s:=m k d 0 (by omega);have q:=m k d 1 (by omega);have o:=m k d 2 (by omega);have p:=m k d 3 (by omega);obtain⟨⟨a,z,A,b,l⟩,x⟩:∃c,cs[k]=c:=⟨_,rfl⟩;rw[x]at s q o p n;obtain⟨i,f,u⟩:=Ak n.args;obtain⟨e,j,t⟩:=Ak n.body;simp only at u t;subst u t;simp[BX]at s q o p;exact⟨g,r,a,i,f,e,j,b,l,y,x,n,s,q,o,p⟩
theorem Tryz.info3:(Tryz.prog.info? 3).map (λi=>(i.zero,i.size,i.bytes))=V (V (X J 0),1,8):=by kernel_rfl
def BW(n:Nat):List j8:=[X J n]
theorem Vj(f:g0->Nat)(A:Nat)(R:Option Addr)(N:Nat)(cs:List A8)(w:j7)(L:AI w A [U R (Z cs) N] 76)(M:Cn w (U R (Z cs) N) cs)(FL:Z cs<=1000)
  (G:∀(x:g0) (z:j7),Ac [] w z->Calls prog 190 #[j3 (V ⟨A,0,Y⟩),O x,X J 6] z λe n=>e=j4 (X J (f x))/\Ac [] z n):
  Calls prog 155 #[j3 (V ⟨A,0,Y⟩)] w λe n=>∃b d,e=j4 (U b (Z cs) d)/\jG n w.heap.size 3 1 (U b (Z cs) d) (Z cs) ((cs.map λc=>f c.head.name).flatMap BW)/\Ac [] w n:=by
 obtain⟨i0,EM,AT,BT,B9⟩:=fC Tryz.info3;have HP:=Ab L;have S:=Ab M;have B0:=Ab G;clear L M G;go_enter func155,ntmps155;go_wp2
 go_loopg [3,4] (Z cs) (λgk o i wr=>∃(k:Nat) (a:List Nat) (b:Option Addr) (d:Nat),o=U b (Z a) d/\i=X J k/\k<=Z cs/\gk=Z cs-k/\Z a<=1000/\j9 (a=(cs.take k).map λc=>f c.head.name)/\jG wr w.heap.size 3 1 (U b (Z a) d) (Z a) (a.flatMap BW)/\j9 (Ac [] w wr))
 case atStart=>exact⟨0,[],Y,0,rfl,rfl,by omega,rfl,by simp,by show _=_;simp,eU _ _ _ _,Ac.refl _ _⟩
 case round=>
  obtain⟨k,a,b,d,rfl,rfl,hk,F,Ha,y,s,j⟩:=hrel;have HG:=Ab F;clear F;have H:=(HP.kept j (by simp)).cell 0;simp at H;have Go:=j.size;by_cases C:k<Z cs
  .obtain⟨g,FC,m,FP,FF,E0,HB,bl,a5,I,P,CL,d0,d1,T,W⟩:=Ks (S.kept j) k C;simp only[ei]at I;obtain⟨rfl,_,rfl⟩:=I;have u:=Ab (B0 m.name wr j);have B:j9 (a++[f m.name]=(cs.take (k+1)).map λc=>f c.head.name):=by
    show _=_;rw[ep C,fi,Aa y,P];rfl
   (have E:Z (a++[f m.name])<=1000:=by rw[Aa B];simp;omega);generalize f m.name=v at u B E;clear CL P d1 T W y;(go_wp2_with fail);refine u.mono ?_;rintro e p ⟨rfl,r⟩;have EK:=Ab (j.trans r);have D:=Ad s r (by simp);have EY:=r.size;(have HF:j9 (∀l,(p.alloc (j1 #[X J v] 3)).grownBy l (U b (Z a) d).ownBlock->Ac [] w l):=λl hg=>(EK.alloc _).grown hg (λq hq=>j6 ((D.lt q hq).1)));clear u r H d0 s;go_wp2_with (at_builtin;refine eP _ rfl (.tmp 14) (.tmp 26) _ rfl w.heap.size 3 i0 _ 1 8 underlying221 EM AT BT B9 rfl (by omega) (U b (Z a) d) (Z a) (a.flatMap BW) rfl (eC D _) ⟨p.heap.size,0,Y⟩ 1 1 [X J v] rfl rfl (eS (cs:=#[X J v]) (t:=3) (fr:=(0,0)) (fe p _)) (by simp[Value.oneCell']) (by omega) (by unfold maxLen;omega) (by omega) (by simp;omega) (p.heap.size+1) (by simp) ?_;intro g9 AH l Ax DT FW FT)
   go_roundg (Z cs-(k+1))
   case measure=>have:=Aa HG;omega
   case rel=>exact⟨k+1,a++[v],V ⟨g9,0,Y⟩,AH,by simp,by go_num,by omega,rfl,E,B,by simpa[BW] using Ax,HF l DT⟩
  .have Q:j9 (a=cs.map λc=>f c.head.name):=by
    have h:=Aa y;rw[eu (by omega)]at h;exact h
   (have BA:j9 (Z cs=Z a):=by show _=_;rw[Aa Q];simp);go_wp2;go_ret;rw[Aa BA,<-Aa Q];exact⟨b,d,rfl,s,j⟩
def Mt(f:g0->Nat)(p:Bw):Nat:=if p.1.kind==97 then f p.1.A.name else if p.1.kind==33 then f p.1.A.name+1 else 0
def Ii(f:g0->Nat)(n:Nat)(bl:List Bw):Nat:=bl.foldl (λn p=>max n (Mt f p)) n
def JA(f:g0->Nat)(x:g0)(n:Nat)(c:A8):Nat:=if c.head.name.toList==x.toList then Ii f n c.bl else n
def Cd(cs:List A8):Nat->g0->Nat
 |0,_=>0
 |d+1,x=>cs.foldl (JA (Cd cs d) x) 0
def WF{f:g0->Nat}{b:Nat}(c:∀y,f y+1<=b):∀(a:List Bw) (n:Nat),n<=b->Ii f n a<=b
 |[],n,h=>h
 |p::a,n,h=>by
  unfold Ii;rw[fd];refine WF c a _ ?_;have:Mt f p<=b:=by
   unfold Mt;have:=c p.1.A.name;split
   .omega
   .split
    .omega
    .omega
  omega
def Sy(cs:List A8):∀(d:Nat) (x:g0),Cd cs d x<=d
 |0,_=>eM _
 |d+1,x=>by
  rw[Cd];have a:∀(l:List A8) (n:Nat),n<=d+1->l.foldl (JA (Cd cs d) x) n<=d+1:=by
   intro l
   induction l with
   |nil=>intro n h;exact h
   |cons c l ih=>
    intro n h;rw[fd];refine ih _ ?_;unfold JA;split
    .exact WF (λy=>by have:=Sy cs d y;omega) c.bl n h
    .exact h
  exact a cs 0 (by omega)
def XD(f:g0->Nat)(n:Nat){a:List Bw}{k:Nat}(b:k<Z a):Ii f n (a.take (k+1))=max (Ii f n (a.take k)) (Mt f a[k]):=by
 unfold Ii;rw[ep b,fE];rfl
def YV(f:g0->Nat)(x:g0){cs:List A8}{k:Nat}(a:k<Z cs):(cs.take (k+1)).foldl (JA f x) 0=JA f x ((cs.take k).foldl (JA f x) 0) cs[k]:=by
 rw[ep a,fE];rfl
def VW{w:j7}{C:j8}{d:List Bw}(h:jG w 0 95 9 C (Z d) (d.flatMap Bb))(D:∀p∈d,Cv w 0 p)(k:Nat)(a:k<Z d):
  ∃g m x e f,C=U (V ⟨g,0,Y⟩) (Z d) m/\d[k]=(x,U e (Z x.A.args) f)/\Cv w 0 (x,U e (Z x.A.args) f)/\
   jF w ⟨g,k*9,Y⟩=V (X .u8 x.kind.toNat)/\jF w ⟨g,k*9+1,Y⟩=V (O x.A.name)/\jF w ⟨g,k*9+2,Y⟩=V (U e (Z x.A.args) f)/\jF w ⟨g,k*9+3,Y⟩=V (X J x.A.at_)/\
   jF w ⟨g,k*9+4,Y⟩=V (X .u8 x.L.v.toNat)/\jF w ⟨g,k*9+5,Y⟩=V (O x.L.s)/\jF w ⟨g,k*9+6,Y⟩=V (X .u8 x.R.v.toNat)/\jF w ⟨g,k*9+7,Y⟩=V (O x.R.s)/\jF w ⟨g,k*9+8,Y⟩=V (X J x.at_):=by
 obtain⟨g,m,E,_,b⟩:=AC h (λc _=>BV c) k a;have r:=D _ (eo a);have q:=b k a 0 (by omega);have l:=b k a 1 (by omega);have i:=b k a 2 (by omega);have j:=b k a 3 (by omega);have y:=b k a 4 (by omega);have t:=b k a 5 (by omega);have o:=b k a 6 (by omega);have n:=b k a 7 (by omega);have u:=b k a 8 (by omega);obtain⟨⟨x,F⟩,B⟩:∃c,d[k]=c:=⟨_,rfl⟩;rw[B]at q l i j y t o n u r;obtain⟨e,f,z⟩:=Ak r;simp only at z;subst z;simp[Bb,Cs]at q l i j y t o n u;exact⟨g,m,x,e,f,E,B,r,q,l,i,j,y,t,o,n,u⟩
theorem Vu(f:Nat)(d:Option Addr)(c:Nat)(cs:List A8)(m:Z cs<=1000)(x:g0)(w:j7)(b:AI w f [U d (Z cs) c] 76)(h:Cn w (U d (Z cs) c) cs):
  Calls prog 190 #[j3 (V ⟨f,0,Y⟩),O x,X J 0] w λe g=>e=j4 (X J (Cd cs 0 x))/\Ac [] w g:=by
 have j:=b.cell 0;simp at j;have a:j9 (Cd cs 0 x=0):=rfl;generalize Cd cs 0 x=R at a⊢;clear b h;go_enter func190,ntmps190;go_wp2
 go_loopg [7,8] 1 (λgk n i wr=>n=X J 0/\i=X J 0/\wr=w)
 case atStart=>exact⟨rfl,rfl,rfl⟩
 case round=>
  obtain⟨rfl,rfl,rfl⟩:=hrel;by_cases l:0<Z cs
  ·(have k:(0:Int)<(Z cs:Int):=by omega);go_wp2;go_ret;rw[Aa a];exact⟨rfl,Ac.refl _ _⟩
  ·(have k:¬(0:Int)<(Z cs:Int):=by omega);go_wp2;go_ret;rw[Aa a];exact⟨rfl,Ac.refl _ _⟩
theorem V8(I:Nat)(HL:Option Addr)(S:Nat)(cs:List A8)(H8:Z cs<=1000)(FC:∀c∈cs,Z c.bl<=1000)(d:Nat)(x:g0)(w:j7)(hP:AI w I [U HL (Z cs) S] 76)(hR:Cn w (U HL (Z cs) S) cs)(hd:d+1<=100)
  (Bx:j9 (∀(y:g0) (l:j7),Ac [] w l->Calls prog 190 #[j3 (V ⟨I,0,Y⟩),O y,X J d] l λe w'=>e=j4 (X J (Cd cs d y))/\Ac [] l w')):
  Calls prog 190 #[j3 (V ⟨I,0,Y⟩),O x,X J ((d:Int)+1)] w λe w'=>e=j4 (X J (Cd cs (d+1) x))/\Ac [] w w':=by
 have CL:j9 (∀y,Cd cs d y<=d):=λy=>Sy cs d y
 have HP:=Ab hP;have AT:=Ab hR;have H2:=Ab FC;obtain⟨R,v⟩:∃R,Cd cs (d+1) x=R:=⟨_,rfl⟩;rw[v];rw[Cd]at v;generalize Cd cs d=f at Bx CL v;have H0:=Ab v;clear hP hR FC v;have JJ:(0:Int)<(d:Int)+1:=by omega
 go_enter func190,ntmps190;go_wp2
 go_loopg [7,8] (Z cs) (λgk o i wr=>∃(k n:Nat),o=X J n/\i=X J k/\k<=Z cs/\gk=Z cs-k/\j9 ((cs.take k).foldl (JA f x) 0=n)/\j9 (Ac [] w wr))
 case atStart=>exact⟨0,0,rfl,rfl,by omega,rfl,by show _=_;simp,Ac.refl _ _⟩
 case round=>
  obtain⟨k,n,rfl,rfl,hk,Ha,G,B⟩:=hrel;have HG:=Ab Ha;clear Ha;have p0:=(HP.kept B (by simp)).cell 0;simp at p0;by_cases p:k<Z cs
  .obtain⟨g,KB,H,H5,HQ,FF,EY,a,a5,he,M,H4,d0,d1,d2,d3⟩:=Ks (AT.kept B) k p;simp only[ei]at he;obtain⟨rfl,_,rfl⟩:=he;have De:=Ab (YV f x p);have E0:=Aa H2 _ (eo p);rw[M]at De E0;rw[Aa G]at De;simp only[JA]at De E0;cases hnm:(H.name.toList==x.toList)with
   |false=>
    have T:j9 ((cs.take (k+1)).foldl (JA f x) 0=n):=by
     have h:=Aa De;rw[hnm]at h;exact h
    clear De G;go_wp2
    go_loopg [7,9] 1 (λgj o i P=>o=X J n/\i=X J 0/\wr=P)
    case atStart=>exact⟨rfl,rfl,rfl⟩
    case round=>
     obtain⟨rfl,rfl,rfl⟩:=hrel;go_wp2
     go_roundg (Z cs-(k+1))
     case measure=>have:=Aa HG;omega
     case rel=>exact⟨k+1,n,rfl,by go_num,by omega,rfl,T,B⟩
   |true=>
    have T:j9 ((cs.take (k+1)).foldl (JA f x) 0=Ii f n a):=by
     have h:=Aa De;rw[hnm]at h;exact h
    clear De G;have H3:j9 (∀l,Ac [] w l->jF l ⟨g,k*5,Y⟩=V (O H.name)/\jF l ⟨g,k*5+3,Y⟩=V (U FF (Z a) EY)/\jF l ⟨I,0,Y⟩=V (U (V ⟨g,0,Y⟩) (Z cs) S)/\Uj l ⟨H,U H5 (Z H.args) HQ,U FF (Z a) EY,a,a5⟩):=by
     intro l HA;have A2:=AT.kept HA;obtain⟨g',H9,BA,_,DT⟩:=AC A2.row (λc _=>BG c) k p;simp only[ei,eD,fm]at BA;obtain⟨⟨rfl,_,_⟩,_,_⟩:=BA;have t:=DT k p 0 (by omega);have u:=DT k p 3 (by omega);have z4:=A2.each _ (eo p);rw[M]at t u z4;simp[BX]at t u;have pz:=(HP.kept HA (by simp)).cell 0;exact⟨t,u,by simpa using pz,z4⟩
    go_wp2;clear H4 M d0 d1 d2 d3 p0
    go_loopg [7,9] (Z a) (λgj o i P=>∃(m b:Nat),o=X J b/\i=X J m/\m<=Z a/\gj=Z a-m/\j9 (Ii f n (a.take m)=b)/\j9 (Ac [] w P))
    case atStart=>exact⟨0,n,rfl,rfl,by omega,rfl,by show _=_;simp[Ii],B⟩
    case round=>
     obtain⟨m,b,rfl,rfl,hm,BS,L,AH⟩:=hrel;have E:=Ab BS;clear BS;obtain⟨t,u,zp,Q⟩:=H3 _ AH;by_cases EK:m<Z a
     .obtain⟨gb,IS,y,HD,EM,FA,BT,H1,e0,e1,e2,e3,e4,e5,e6,e7,e8⟩:=VW Q.body Q.lits m EK;simp only[ei]at FA;obtain⟨rfl,_,rfl⟩:=FA;have W:=Ab (XD f n EK);rw[Aa L,BT]at W;have HV:=Aa CL y.A.name;have s:=Ab (AH.alloc (j1 (j2 (Cs y (U HD (Z y.A.args) EM))) 95));have N:=Ab (AI.new wr (Cs y (U HD (Z y.A.args) EM)) 95);have q:=Ab (Bx y.A.name _ s);clear BT H1 Q L;simp only[Cs]at s N q;have r:j9 (Ii f n (a.take (m+1))=max b (if y.kind==97 then f y.A.name else if y.kind==33 then f y.A.name+1 else 0)):=W;clear W;generalize f y.A.name=fy at q HV r;have EX:((y.kind.toNat:Int)==97)=(y.kind==97):=Cp _ 97;have AB:((y.kind.toNat:Int)==33)=(y.kind==33):=Cp _ 33;cases hk97:(y.kind==97)with
      |true=>
       (have z:j9 (Ii f n (a.take (m+1))=max b fy):=by have h:=Aa r;rw[hk97]at h;exact h);rw[hk97]at EX;clear r hk97 AB;(go_wp2_with fail);refine q.mono ?_;rintro e w5 ⟨rfl,C⟩;have D:=Ab (s.trans C);clear q s N C t u zp e0 e1 e2 e3 e4 e5 e6 e7 e8;by_cases HX:b<fy
       ·(have F:(b:Int)<(fy:Int):=by omega);(have j:j9 (Ii f n (a.take (m+1))=fy):=by show _=_;rw[Aa z];omega);go_wp2
        go_roundg (Z a-(m+1))
        case measure=>have:=Aa E;omega
        case rel=>exact⟨m+1,fy,rfl,by go_num,by omega,rfl,j,D⟩
       ·(have F:¬(b:Int)<(fy:Int):=by omega);(have j:j9 (Ii f n (a.take (m+1))=b):=by show _=_;rw[Aa z];omega);go_wp2
        go_roundg (Z a-(m+1))
        case measure=>have:=Aa E;omega
        case rel=>exact⟨m+1,b,rfl,by go_num,by omega,rfl,j,D⟩
      |false=>
       rw[hk97]at EX;cases hk33:(y.kind==33)with
       |true=>
        (have z:j9 (Ii f n (a.take (m+1))=max b (fy+1)):=by have h:=Aa r;rw[hk97,hk33]at h;exact h);rw[hk33]at AB;clear r hk97 hk33;(go_wp2_with fail);refine q.mono ?_;rintro e w5 ⟨rfl,C⟩;have D:=Ab (s.trans C);clear q s N C t u zp e0 e1 e2 e3 e4 e5 e6 e7 e8;by_cases HX:b<fy+1
        ·(have F:(b:Int)<(fy:Int)+1:=by omega);(have j:j9 (Ii f n (a.take (m+1))=fy+1):=by show _=_;rw[Aa z];omega);go_wp2
         go_roundg (Z a-(m+1))
         case measure=>have:=Aa E;omega
         case rel=>exact⟨m+1,fy+1,by go_num,by go_num,by omega,rfl,j,D⟩
        ·(have F:¬(b:Int)<(fy:Int)+1:=by omega);(have j:j9 (Ii f n (a.take (m+1))=b):=by show _=_;rw[Aa z];omega);go_wp2
         go_roundg (Z a-(m+1))
         case measure=>have:=Aa E;omega
         case rel=>exact⟨m+1,b,rfl,by go_num,by omega,rfl,j,D⟩
       |false=>
        (have j:j9 (Ii f n (a.take (m+1))=b):=by have h:=Aa r;rw[hk97,hk33]at h;show _=_;rw[h];simp);rw[hk33]at AB;clear r hk97 hk33 q;(have F:¬(b:Int)<0:=by omega);go_wp2
        go_roundg (Z a-(m+1))
        case measure=>have:=Aa E;omega
        case rel=>exact⟨m+1,b,rfl,by go_num,by omega,rfl,j,s⟩
     .have j:j9 ((cs.take (k+1)).foldl (JA f x) 0=b):=by
       have h:=Aa L;rw[eu (by omega)]at h;show _=_;rw[Aa T,h]
      clear L;go_wp2
      go_roundg (Z cs-(k+1))
      case measure=>have:=Aa HG;omega
      case rel=>exact⟨k+1,b,rfl,by go_num,by omega,rfl,j,AH⟩
  .have HE:j9 (n=R):=by
    have h:=Aa G;rw[eu (by omega),Aa H0]at h;exact h.symm
   go_wp2;go_ret;rw[<-Aa HE];exact⟨rfl,B⟩
def Y0(h:Nat)(g:Option Addr)(f:Nat)(cs:List A8)(j:Z cs<=1000)(l:∀c∈cs,Z c.bl<=1000)(d:Nat):
  ∀(x:g0) (w:j7),AI w h [U g (Z cs) f] 76->Cn w (U g (Z cs) f) cs->d<=100->
  Calls prog 190 #[j3 (V ⟨h,0,Y⟩),O x,X J d] w λe m=>e=j4 (X J (Cd cs d x))/\Ac [] w m:=by
 induction d with
 |zero=>exact λx w a b _=>Vu h g f cs j x w a b
 |succ d ih=>exact λx w a b k=>V8 h g f cs j l d x w a b k (λy n i=>ih y n (a.kept i (by simp)) (b.kept i) (by omega))
def da(e:List g0)(v:Nat)(s:g0):g0:=if v=0 then s else e.getD (v-65) jK
theorem Vp(b E:Nat)(e:List g0)(v:Nat)(s:g0)(w:j7)(F:Z e=26)(o:AI w b (Ai e) E)(p:v=0\/(65<=v/\v<=90)):
  Calls prog 180 #[j3 (V ⟨b,0,Y⟩),jH [Value.int .i32 v,O s].toArray] w λr f=>r=j4 (O (da e v s))/\Ac [] w f:=by
 have x:=o.lt;have I:Z (Ai e)=26:=by unfold Ai;simp[F]
 have q:j9 (∀i (h:i<26),(Ai e)[i]?=V (O (e.getD i jK))):=by
  intro i h;unfold Ai;rw[fM,eK,ez (by omega)];rfl
 obtain⟨R,n⟩:∃R,da e v s=R:=⟨_,rfl⟩;rw[n];have m:j9 ((if v=0 then s else e.getD (v-65) jK)=R):=n;have k:=Ab ((Ac.refl [] w).alloc (j1 [.int .i32 v,O s].toArray 215));have g:=Ab (o.alloc (j1 [.int .i32 v,O s].toArray 215));clear n;by_cases a:v=0
 .have c:j9 (s=R):=by have h:=Aa m;rw[eI a]at h;exact h
  subst a;go_enter func180,ntmps180;go_wp2;go_ret;rw[<-Aa c];exact⟨rfl,k⟩
 .have c:j9 (e.getD (v-65) jK=R):=by have h:=Aa m;rw[eE a]at h;exact h
  have C:65<=v/\v<=90:=by
   rcases p with h|h
   .exact absurd h a
   .exact h
  have z:((v:Int)==0)=K:=by rw[ff];omega
  obtain⟨j,t⟩:∃j,v-65=j:=⟨_,rfl⟩;have A:v=j+65:=by omega
  rw[t]at c;have y:j<26:=by omega
  subst A;have B:(((j+65:Nat)):Int)=(j:Int)+65:=by omega
  rw[B]at k g z⊢;have l:=g.cell j;rw[Aa q j y]at l;generalize e.getD j jK=X at c l;have d:=AI.new w [.int .i32 ((j:Int)+65),O s] 215;clear m t C p a o q;have M:(0:Int)<=(j:Int):=by omega
  have H:(j:Int)<26:=by omega
  have D:IntKind.i32.wrap (j:Int)=j:=by rw[IntKind.wrap_i32];omega
  have G:IntKind.i32.wrap ((j:Int)+65-65)=j:=by rw[show(j:Int)+65-65=j by omega];exact D
  go_enter func180,ntmps180;go_wp2;change Code.wp _ _ _ _ (w.alloc (j1 [.int .i32 ((j:Int)+65),O s].toArray 215));generalize w.alloc (j1 [.int .i32 ((j:Int)+65),O s].toArray 215)=w1 at k g d l⊢;generalize w.heap.size=N at d x⊢;have u:=d.cell 0;simp at u;have L:=Ab d;clear d g
  go_region_held3 (λf=>jF f ⟨b,j,Y⟩=V (O X)/\jF f ⟨N,0,Y⟩=V (.int .i32 ((j:Int)+65))) (go_keep) (fail)
  go_wp2;all_goals
   go_ret;rw[<-Aa c];refine⟨rfl,?_⟩
   repeat (first|exact k|refine Ac.drew ?_|refine Ac.alloc ?_ _|refine Ac.drewN ?_ _)
def Mh{w:j7}{base:Nat}{v:j8}{l:List AG}(h:jG w base 93 2 v (Z l) (l.flatMap AQ))(k:Nat)(a:k<Z l):
  ∃g b,v=U (V ⟨g,0,Y⟩) (Z l) b/\jF w ⟨g,k*2,Y⟩=V (X .u8 l[k].v.toNat)/\jF w ⟨g,k*2+1,Y⟩=V (O l[k].s):=by
 obtain⟨g,b,i,_,f⟩:=AC h (λc _=>FZ c) k a;have d:=f k a 0 (by omega);have e:=f k a 1 (by omega);simp[AQ]at d e;exact⟨g,b,i,d,e⟩
structure TT(w:j7)(N:Nat)(E:List j8)(nm:g0)(av:j8)(j:Nat)(ts:List AG)(fv:j8):Prop where
 b0:AI w N E 90
 b1:AI w (N+1) [O nm,av,X J j] 79
 b2:AI w (N+1+1) [O ⟨#[]⟩,U Y 0 0] 43
 b3:AI w (N+1+1+1) [O nm,fv] 43
 row:jG w 0 93 2 av (Z ts) (ts.flatMap AQ)
 low:∀q,av.ownBlock=V q->q<N
def TT.kept{w w':j7}{N:Nat}{E:List j8}{nm:g0}{b:j8}{j:Nat}{ts:List AG}{a:j8}(h:TT w N E nm b j ts a)(k:Ac [] w w'):TT w' N E nm b j ts a:=
 ⟨h.b0.kept k (by simp),h.b1.kept k (by simp),h.b2.kept k (by simp),h.b3.kept k (by simp),Ad h.row k (by simp),h.low⟩
def TT.grown{w w':j7}{N:Nat}{E:List j8}{nm:g0}{b:j8}{j:Nat}{ts:List AG}{c:j8}{r:Option Nat}(h:TT w N E nm b j ts c)(k:w.grownBy w' r)(a:∀q,r=V q->N+1+1+1+1<=q):TT w' N E nm b j ts c:=
 ⟨h.b0.grown k (λe=>by have:=a _ e;omega),h.b1.grown k (λe=>by have:=a _ e;omega),h.b2.grown k (λe=>by have:=a _ e;omega),h.b3.grown k (λe=>by have:=a _ e;omega),
  fT (v:=b) h.row k (by
   cases hv:b.ownBlock with
   |none=>exact j5 rfl
   |some q=>exact j6 (λe=>by have:=h.low q hv;have:=a q e.symm;omega)),h.low⟩
theorem M8(e:List g0)(A:Dj)(u:Option Addr)(d:Nat)(w:j7)(he:Z e=26)(hA:jG w 0 93 2 (U u (Z A.args) d) (Z A.args) (A.args.flatMap AQ))(HX:Z A.args<=1000)(hg:∀t∈A.args,t.v=0\/(65<=t.v.toNat/\t.v.toNat<=90)):
  Calls prog 48 #[jH (j2 (Ai e)),jH (j2 (Cj A.name (U u (Z A.args) d) A.at_))] w λr w'=>∃x y,r=j4 (jH (j2 (Bq ⟨Av e A,U x (Z A.args) y⟩)))/\Ew w' ⟨Av e A,U x (Z A.args) y⟩/\(∀q,(U x (Z A.args) y).ownBlock=V q->w.heap.size<=q)/\Ac [] w w':=by
 obtain⟨i0,Jx,H2,JJ,H8⟩:=fC Tryz.zs;obtain⟨b,a,j⟩:=A;simp only at hA HX hg⊢;have HV:j9 (∀t wr,t∈a->Calls prog 89 #[jH (j2 (Ai e)),jH (j2 (AQ t))] wr λr w'=>r=j4 (O (AJ e t))/\Ac [] wr w'):=λt wr ht=>Kj e t wr he (hg t ht)
 have HF:j9 (∀x y wr,jG wr 0 9 1 (U x (Z a) y) (Z a) ((a.map (AJ e)).flatMap Ah)->Ew wr ⟨Av e ⟨b,a,j⟩,U x (Z a) y⟩):=by
  intro x y wr h;show jG wr 0 9 1 _ (Z (a.map (AJ e))) _;rw[eL];exact h
 have FA:j9 (∀x y,Bq ⟨Av e ⟨b,a,j⟩,U x (Z a) y⟩=[O b,U x (Z a) y]):=λx y=>rfl
 generalize Av e ⟨b,a,j⟩=FP at HF FA⊢;have hc:=Bj e;have hl:Z (Ai e)=26:=by unfold Ai;simp[he]
 generalize Ai e=E at hc hl HV⊢;have z:=Ab (((Ac.refl [] w).alloc (j1 (j2 E) 90)).alloc (j1 (j2 (Cj b (U u (Z a) d) j)) 79));have HB:=Ab ((AI.new w E 90).alloc (j1 (j2 (Cj b (U u (Z a) d) j)) 79));have HA:=Ab hA;simp only[Cj]at z HB⊢;clear hA hg;go_enter func48,ntmps48;go_wp2_with fail
 obtain⟨N,hN⟩:∃N,w.heap.size=N:=⟨_,rfl⟩;have FL:TT ((((w.alloc (j1 (j2 E) 90)).alloc (j1 #[O b,U u (Z a) d,X J ↑j] 79)).alloc (j1 #[O {data:=#[]},U Y 0 0] 43)).alloc (j1 #[O b,U Y 0 0] 43)) N E b (U u (Z a) d) j a (U Y 0 0):=by
  have b1:=AI.new (w.alloc (j1 (j2 E) 90)) [O b,U u (Z a) d,X J j] 79;have b2:=AI.new ((w.alloc (j1 (j2 E) 90)).alloc (j1 #[O b,U u (Z a) d,X J ↑j] 79)) [O ⟨#[]⟩,U Y 0 0] 43;have b3:=AI.new (((w.alloc (j1 (j2 E) 90)).alloc (j1 #[O b,U u (Z a) d,X J ↑j] 79)).alloc (j1 #[O {data:=#[]},U Y 0 0] 43)) [O b,U Y 0 0] 43;simp only[fg,hN]at b1 b2 b3;have b0:=Aa HB;rw[hN]at b0;exact⟨(b0.alloc _).alloc _,(b1.alloc _).alloc _,b2.alloc _,b3,Ad HA (z.alloc _|>.alloc _) (by simp),λq D=>by have:=(HA.lt q D).2;omega⟩
 have BA:=Ab FL;have CC:=Ab ((z.alloc (j1 #[O {data:=#[]},U Y 0 0] 43)).alloc (j1 #[O b,U Y 0 0] 43));rw[hN];have W:=Ab hN;clear FL z HB HA hN;change Code.wp _ _ _ _ ((((w.alloc (j1 (j2 E) 90)).alloc (j1 #[O b,U u (Z a) d,X J ↑j] 79)).alloc (j1 #[O {data:=#[]},U Y 0 0] 43)).alloc (j1 #[O b,U Y 0 0] 43));generalize((((w.alloc (j1 (j2 E) 90)).alloc (j1 #[O b,U u (Z a) d,X J ↑j] 79)).alloc (j1 #[O {data:=#[]},U Y 0 0] 43)).alloc (j1 #[O b,U Y 0 0] 43))=w1 at BA CC⊢
 go_loopg [6] (Z a) (λgk i wr=>∃(k:Nat) (l:Option Addr) (f:Nat),i=X J k/\k<=Z a/\gk=Z a-k/\j9 (TT wr N E b (U u (Z a) d) j a (U l k f))/\j9 (jG wr (N+1+1+1+1) 9 1 (U l k f) k (((a.take k).map (AJ e)).flatMap Ah))/\j9 (Ac [] w wr))
 case atStart=>exact⟨0,Y,0,rfl,by omega,rfl,BA,eU _ _ _ _,CC⟩
 case round=>
  clear BA CC;obtain⟨k,l,f,rfl,hk,HQ,o,R,z⟩:=hrel;have HG:=Ab HQ;clear HQ;have HM:=o.b1.cell 1;simp at HM;by_cases AH:k<Z a
  .obtain⟨g,F,HJ,d0,d1⟩:=Mh o.row k AH;simp only[ei]at HJ;obtain⟨rfl,_,rfl⟩:=HJ;obtain⟨T,Q⟩:∃T,a[k]=T:=⟨_,rfl⟩;(have HY:j9 (T∈a):=by show _∈_;rw[<-Q];exact eo AH);have H1:j9 (a[k]=T):=Q;rw[Q]at d0 d1;(have K4:(0:Int)<=(k:Int):=by omega);(have K1:(k:Int)<(Z a:Int):=by omega);have M:j9 (∀c,TT c N E b (U (V ⟨g,0,Y⟩) (Z a) d) j a (U l k f)->c.rangeAt N 0 E/\jF c ⟨N+1+1+1,1,Y⟩=V (U l k f)/\jF c ⟨N+1,1,Y⟩=V (U (V ⟨g,0,Y⟩) (Z a) d)/\jF c ⟨g,k*2,Y⟩=V (X .u8 T.v.toNat)/\jF c ⟨g,k*2+1,Y⟩=V (O T.s)):=by
    intro c H;obtain⟨g',K2,FB,f0,f1⟩:=Mh H.row k AH;simp only[ei,eD,fm]at FB;obtain⟨⟨rfl,_,_⟩,_,_⟩:=FB;rw[Q]at f0 f1;have x3:=H.b3.cell 1;have x1:=H.b1.cell 1;simp at x1 x3;exact⟨H.b0.range,x3,x1,f0,f1⟩
   clear Q;have B:=Ab (M wr.drew (o.kept (Ac.refl [] wr).drew));(go_wp2_with fail);refine CK 12 (λc=>c.rangeAt N 0 E/\jF c ⟨N+1+1+1,1,Y⟩=V (U l k f)/\jF c ⟨N+1,1,Y⟩=V (U (V ⟨g,0,Y⟩) (Z a) d)/\jF c ⟨g,k*2,Y⟩=V (X .u8 T.v.toNat)/\jF c ⟨g,k*2+1,Y⟩=V (O T.s)) (by kernel_rfl) ?_;refine CI.tk (i:=0) (v:=j3 (V ⟨N+1+1+1,1,Y⟩)) rfl (by kernel_rfl) (λ_ _ _ h=>h) B (by rfl) ?_ ?_
   ·(intro c I;go_simp)
   simp only[jO,ee,ej,el];refine CI.tk (i:=1) (v:=U l k f) rfl (by kernel_rfl) (λ_ _ _ h=>h) B (by rfl) ?_ ?_
   ·(intro c I;go_simp)
   simp only[jO,ee,ej,el];refine CI.take (i:=2) (v:=jH (j2 E)) rfl (by kernel_rfl) (by kernel_rfl) (by kernel_rfl) (by kernel_rfl) (λ_ _ _ h=>h) B (yieldsIf_load_mid (by rfl) 90 _ rfl N 0 (by rfl) E _ (λc H=>H.1) underlying90 rfl (by rw[hl];exact Tryz.zG)) ?_;simp only[jO,ee,ej,el];refine CI.tk (i:=3) (v:=j3 (V ⟨N+1,1,Y⟩)) rfl (by kernel_rfl) (λ_ _ _ h=>h) B (by rfl) ?_ ?_
   ·(intro c I;go_simp)
   simp only[jO,ee,ej,el];refine CI.tk (i:=4) (v:=U (V ⟨g,0,Y⟩) (Z a) d) rfl (by kernel_rfl) (λ_ _ _ h=>h) B (by rfl) ?_ ?_
   ·(intro c I;go_simp)
   simp only[jO,ee,ej,el];refine CI.tk (i:=5) (v:=X J k) rfl (by kernel_rfl) (λ_ _ _ h=>h) B (by rfl) ?_ ?_
   ·(intro c I;go_simp)
   simp only[jO,ee,ej,el];refine CI.tk (i:=6) (v:=j3 (V ⟨g,k*2,Y⟩)) rfl (by kernel_rfl) (λ_ _ _ h=>h) B (by rfl) ?_ ?_
   ·(intro c I;go_simp)
   simp only[jO,ee,ej,el];refine CI.tk (i:=7) (v:=jH (j2 (AQ T))) rfl (by kernel_rfl) (λ_ _ _ h=>h) B (by rfl) ?_ ?_
   ·(intro c I;simp only[AQ];go_simp)
   simp only[jO,ee,ej,el];refine CI.one (i:=8) (by kernel_rfl) rfl (λC m=>?_)
   go_simp
   obtain⟨P,hV⟩:∃P,AJ e T=P:=⟨_,rfl⟩;have BT:=Ab (HV T wr.drew HY);rw[hV]at BT;have IS:=Ab hV;clear hV;refine BT.mono ?_;rintro _ L ⟨rfl,S⟩;have AB:=o.kept ((Ac.refl [] wr).drew.trans S);refine m.out _ _ (λ_=>M L AB) ?_;clear m C BT
   try simp only[jO,ee,ej,el]
   refine CI.one (i:=9) (by kernel_rfl) rfl (λC m=>?_)
   go_simp
   have CL:=AB.kept ((Ac.refl [] L).alloc (j1 #[O P] 9));refine m.out _ _ (λ_=>M _ CL) ?_;clear m C
   try simp only[jO,ee,ej,el]
   have A0:=Ad R ((Ac.refl [] wr).drew.trans S) (by simp);have KB:=S.size;(have KS:N+1+1+1+1<=L.heap.size:=by have:=AB.b3.lt;omega);refine CI.one (i:=10) (by kernel_rfl) rfl (λC m=>?_);refine jb _ (by rfl) _ _ _ (by rfl) (N+1+1+1+1) 9 i0 _ 1 16 underlying41 Jx H2 JJ H8 rfl (by omega) (U l k f) k (((a.take k).map (AJ e)).flatMap Ah) (by rfl) (eC A0 _)
         ⟨L.heap.size,0,Y⟩ 1 1 [O P] (by rfl) (by rfl) (eS (cs:=#[O P]) (t:=9) (fr:=(0,0)) (fe L _)) (by simp[Value.oneCell'])
         (by omega) (by unfold maxLen;omega) (by omega) (by simp;omega) (L.heap.size+1) (by simp) ?_
   intro G F w5 B9 B2 H9 Ix;have n:=CL.grown B2 (λq D=>(A0.lt q D).1);refine m.out _ _ (λ_=>M _ n) ?_;clear m C
   try simp only[jO,ee,ej,el]
   refine CI.one (i:=11) (by kernel_rfl) rfl (λC m=>?_)
   go_simp
   refine m.out _ _ (λ_=>M _ n) ?_;clear m C
   try simp only[jO,ee,ej,el]
   have y1:=n.b3.cell 1;have yf:=n.b3.frozen 1;simp at y1;refine CI.one (i:=12) (by kernel_rfl) rfl (λC m=>?_)
   go_simp
   refine m.out _ _ (λh=>absurd rfl h) ?_;clear m C;refine CI.done (by kernel_rfl) ?_ _
   try simp only[jO,ee,ej,el]
   have HH:j9 (TT (w5.setCell ⟨N+1+1+1,1,Y⟩ (U (V ⟨G,0,Y⟩) (k+1) F)) N E b (U (V ⟨g,0,Y⟩) (Z a) d) j a (U (V ⟨G,0,Y⟩) (k+1) F)):=
    ⟨n.b0.zA _ (show N+1+1+1≠N by omega) _,n.b1.zA _ (show N+1+1+1≠N+1 by omega) _,n.b2.zA _ (show N+1+1+1≠N+1+1 by omega) _,n.b3.set 1 _,Ag n.row (λh=>by have:=n.low _ h;simp at this;omega) _,n.low⟩
   have HC:j9 (jG (w5.setCell ⟨N+1+1+1,1,Y⟩ (U (V ⟨G,0,Y⟩) (k+1) F)) (N+1+1+1+1) 9 1 (U (V ⟨G,0,Y⟩) (k+1) F) (k+1) (((a.take (k+1)).map (AJ e)).flatMap Ah)):=by
    have h:=Ag B9 (p:=⟨N+1+1+1,1,Y⟩) (λh=>by have:=(B9.lt _ h).1;simp at this;omega) (U (V ⟨G,0,Y⟩) (k+1) F);rw[ep AH,fi,eY,Aa H1];simp only[eR,gU,eN,fF,fh,Aa IS,Ah];exact h
   have HP:=Ab (((z.drew.trans S).alloc (j1 #[O P] 9)).grown B2 (λq D=>j6 (by have:=(A0.lt q D).1;have:=Aa W;omega))|>.setCell (p:=⟨N+1+1+1,1,Y⟩) (j6 (by have:=Aa W;simp;omega)) (U (V ⟨G,0,Y⟩) (k+1) F));clear B9 B2 H9 Ix n CL AB A0 S B M o R z y1 yf d0 d1 HM;generalize w5.setCell ⟨N+1+1+1,1,Y⟩ (U (V ⟨G,0,Y⟩) (k+1) F)=w6 at HH HC HP⊢;go_wp2
   go_roundg (Z a-(k+1))
   case measure=>have:=Aa HG;omega
   case rel=>exact⟨k+1,V ⟨G,0,Y⟩,F,by go_num,by omega,rfl,HH,HC,HP⟩
  ·(have H4:k=Z a:=by omega);have x0:=o.b3.cell 0;have x1:=o.b3.cell 1;have y0:=o.b2.cell 0;have y1:=o.b2.cell 1;have yf:=o.b2.frozen;simp at x0 x1 y0 y1;have H6:j9 (AI ((wr.setCell ⟨N+1+1,0,Y⟩ (O b)).setCell ⟨N+1+1,1,Y⟩ (U l k f)) (N+1+1) [O b,U l k f] 43):=(o.b2.set 0 _).set 1 _;have HU:j9 (jG ((wr.setCell ⟨N+1+1,0,Y⟩ (O b)).setCell ⟨N+1+1,1,Y⟩ (U l k f)) 0 9 1 (U l k f) k ((a.map (AJ e)).flatMap Ah)):=by
    have h:=Aa R;rw[eu (by omega)]at h;(have hb:∀q,(U l k f).ownBlock=V q->q≠N+1+1:=λq D=>by have:=(h.lt q D).1;omega);exact Am (Ag (Ag h (λh=>hb _ h rfl) _) (λh=>hb _ h rfl) _) (by omega)
   (have KA:j9 (∀q,(U l k f).ownBlock=V q->w.heap.size<=q):=λq D=>by have:=(R.lt q D).1;have:=Aa W;omega);have H3:=Ab ((z.setCell (p:=⟨N+1+1,0,Y⟩) (j6 (by have:=Aa W;simp;omega)) (O b)).setCell (p:=⟨N+1+1,1,Y⟩) (j6 (by have:=Aa W;simp;omega)) (U l k f));clear o R z;go_wp2;subst H4;refine eX (BQ rfl rfl H6 underlying43 rfl (by kernel_rfl)) rfl ⟨l,f,?_,HF l f _ HU,KA,H3⟩;rw[Aa FA]
def XR(e:List g0)(A:Dj)(d:Option Addr)(f:Nat)(w:j7)(g:Z e=26)(h:jG w 0 93 2 (U d (Z A.args) f) (Z A.args) (A.args.flatMap AQ))(j:Z A.args<=1000)(i:∀t∈A.args,t.v=0\/(65<=t.v.toNat/\t.v.toNat<=90)):
  Calls prog 48 #[jH (j2 (Ai e)),jH (j2 (Cj A.name (U d (Z A.args) f) A.at_))] w λr c=>∃b a,r=j4 (jH (j2 (Bq ⟨Av e A,U b (Z A.args) a⟩)))/\Ew c ⟨Av e A,U b (Z A.args) a⟩/\Ac [] w c:=
 (M8 e A d f w g h j i).mono λr c ⟨b,a,h1,h2,_,h4⟩=>⟨b,a,h1,h2,h4⟩
