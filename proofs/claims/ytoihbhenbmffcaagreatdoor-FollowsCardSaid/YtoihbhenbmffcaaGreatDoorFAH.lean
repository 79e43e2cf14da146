import Derived.Test.YtoihbhenbmffcaaGreatDoorXAG
set_option linter.all false
set_option maxHeartbeats 0
open List renaming length->Z,toArray->ml,replicate->pG
open Option renaming none->Y,some->V
open Go.Value renaming slice->U,int->X,string->O,pointer->m2,agg->pC,bool->pE
open Bool renaming false->K,true->jj
open Go.IntKind renaming i64->J
open Go.Obj renaming cells->j3
open Go.Ending renaming returned->oa
open Or renaming inl->oi,inr->oj
open Go renaming World->py,Value->p5
open Go.RowKit renaming Hid->p7
open Go.World renaming cell?->p8,ownsRow->p9
open ByteArray renaming empty->pF
open Go.Act renaming put->pJ
namespace Go.Proofs.YtoihbhenbmffcaaGreatDoor
open Go.RowKit Go.Proofs.Tryz
variable{w:py}{z:p5}{k n m b:Nat}{e:pM zA}{c:pM A4}{y:pM p5}
structure Cv(w:py)(sv:p5)(fs:pM Bv):Prop where
 row:p9 w 0 43 2 sv (Z fs) (fs.flatMap Be)
 each:∀p∈fs,Dx w p/\JP p.f
def Cv.kept{w w':py}{c:p5}{b:pM Bv}(h:Cv w c b)(k:Ac [] w w'):Cv w' c b:=⟨Ad h.row k,λp a=>⟨(h.each p a).1.kept k,(h.each p a).2⟩⟩
def C1{b:pM Bv}(h:Cv w z b)(k:Nat)(d:k<Z b):
  ∃g m n a i f,z=U (V ⟨g,0,Y⟩) (Z b) m/\b[k]=⟨⟨n,a⟩,U i (Z a) f⟩/\p8 w ⟨g,k*2,Y⟩=V (O n)/\p8 w ⟨g,k*2+1,Y⟩=V (U i (Z a) f):=by
 obtain⟨g,m,s,_,r⟩:=AC h.row (λc _=>rfl) k d;have j:=r k d 0 (by omega);have l:=r k d 1 (by omega);obtain⟨⟨⟨n,a⟩,t⟩,o⟩:∃p,b[k]=p:=⟨_,rfl⟩;have q:=(h.each _ (kV d)).1;rw[o]at j l q;obtain⟨i,f,e⟩:=Ak q;simp only at e;subst e;simp[Be]at j l;exact⟨g,m,n,a,i,f,s,o,j,l⟩
set_option maxRecDepth 100000
theorem Jv(G:Option Addr)(P:Nat)(a:pM Bv)(x:Bv)(w:py)(h:Cv w (U G (Z a) P) a)(z:Dx w x)(BS:Z a<=1000000)(D:JP x.f):
  Calls prog 21 #[U G (Z a) P,pC (ml (Be x))] w λe t=>e=oa (pE (a.any λp=>DJ p.f x.f))/\Ac [] w t:=by
 have T:p7 (∀(p:Bv) wr,p∈a->Ac [] w wr->Calls prog 49 #[pC (ml (Be p)),pC (ml (Be x))] wr λe t=>e=oa (pE (DJ p.f x.f))/\Ac [] wr t):=λp wr I u=>O4 p x wr ((h.each p I).1.kept u) (z.kept u) (by have:=(h.each p I).2.len;omega) (by have:=D.len;omega)
 have HS:=Ab h;obtain⟨⟨c,b⟩,xv⟩:=x;obtain⟨m,l,L⟩:=Ak z;simp only at L;subst L;obtain⟨R,A⟩:=pN (a.any λp=>DJ p.f ⟨c,b⟩);rw[show(a.any λp=>DJ p.f (⟨⟨c,b⟩,U m (Z b) l⟩:Bv).f)=R from A]
 have Q:=Ab A;have d:=Ab (pP w [O c,U m (Z b) l] 43);have j:=Ab ((pO [] w).alloc (j3 [O c,U m (Z b) l].toArray 43));clear h z D A;simp only[Be]at T⊢;go_enter func21,ntmps21;go_wp2;change Code.wp _ _ _ _ (w.alloc (j3 [O c,U m (Z b) l].toArray 43));generalize w.alloc (j3 [O c,U m (Z b) l].toArray 43)=w1 at d j⊢;generalize w.heap.size=N at d⊢
 go_loopg [5,6] (Z a) (λgk i q wr=>∃(k:Nat),i=X J k/\k<=Z a/\gk=Z a-k/\p7 ((a.take k).any (λp=>DJ p.f ⟨c,b⟩)=K)/\p7 (Ac [] w wr)/\p7 (AF wr N [O c,U m (Z b) l] 43))
 case atStart=>exact⟨0,rfl,by omega,rfl,by show _=_;simp,j,d⟩
 case round=>
  clear d j;obtain⟨k,rfl,u,F,H,j,d⟩:=hrel;have HG:=Ab F;clear F;by_cases r:k<Z a
  .obtain⟨g,BA,n,B,ad,cp,S,s,d0,d1⟩:=C1 (HS.kept j) k r;simp only[kS]at S;obtain⟨rfl,_,rfl⟩:=S;have c0:=d.cell 0;have c1:=d.cell 1;simp at c0 c1;have o:=Ab (T a[k] wr.drew (kV r) j.drew);have M:p7 (DJ ⟨n,B⟩ ⟨c,b⟩=jj->R=jj):=by
    intro y;rw[<-Aa Q];exact I7 _ _ k r (by rw[s];exact y)
   have E:p7 (DJ ⟨n,B⟩ ⟨c,b⟩=K->(a.take (k+1)).any (λp=>DJ p.f ⟨c,b⟩)=K):=by
    intro y;rw[CU _ _ k r (Aa H),s];exact y
   rw[s]at o;simp only at o;generalize DJ ⟨n,B⟩ ⟨c,b⟩=SB at o M E;clear s;go_wp2_with fail
   go_region_law (go_simp;go_at_call 49;refine o.mono ?_;rintro e w3 ⟨rfl,v⟩;have W:=Ab (j.drew.trans v);have AH:=Ab (d.drew.kept v);clear v)
   all_goals
    clear o;cases SB with
    |true=>
     have C:=Ab (M rfl);go_wp2;go_ret;rw[Aa C];exact⟨rfl,W⟩
    |false=>
     have C:=Ab (E rfl);go_wp2
     go_roundg (Z a-(k+1))
     case measure=>have:=Aa HG;omega
     case rel=>exact⟨k+1,by go_num,by omega,rfl,C,W,AH⟩
  .have HE:p7 (R=K):=by
    have h:=Aa H;rw[kX (by omega)]at h;show _=_;rw[<-Aa Q];exact h
   go_wp2;go_ret;rw[HE.out];exact⟨rfl,j⟩
theorem Tryz.yL:(Tryz.prog.info? 43).map (λi=>(i.zero,i.size,i.bytes))=V (V (pC #[O ⟨#[]⟩,U Y 0 0]),2,40):=by kernel_rfl
def E2(x:Bv)(a:pM Bv×Bool)(y:Bv):pM Bv×Bool:=if !a.2&&CW x.f y.f then(a.1++[x]++[y],jj)else(a.1++[y],a.2)
def Hk(l:pM Bv)(x:Bv):pM Bv×Bool:=l.foldl (E2 x) ([],K)
def Ot(l:pM Bv)(x:Bv):pM Bv:=if(Hk l x).2 then(Hk l x).1 else(Hk l x).1++[x]
def XF(l:pM Bv)(x:Af):Bool:=l.any λp=>DJ p.f x
def EW(l:pM Bv)(x:Bv):pM Bv:=if XF l x.f then l else Ot l x
def X7{l:pM Bv}(a:k<Z l)(x:Bv):Hk (l.take (k+1)) x=E2 x (Hk (l.take k) x) l[k]:=by
 unfold Hk;rw[kW a,mi];rfl
def TJ(x p:Bv):∀(l:pM Bv) (a:pM Bv×Bool),p∈(l.foldl (E2 x) a).1->p=x\/p∈a.1\/p∈l
 |[],a,h=>oj (oi h)
 |y::l,a,h=>by
  rcases TJ x p l (E2 x a y) h with h|h|h
  .exact oi h
  .unfold E2 at h;split at h
   .simp only[lw,kY]at h;rcases h with(h|h)|h
    .exact oj (oi h)
    .exact oi h
    .exact oj (oj (by simp[h]))
   .simp only[lw,kY]at h;rcases h with h|h
    .exact oj (oi h)
    .exact oj (oj (by simp[h]))
  .exact oj (oj (by simp[h]))
def eY{l:pM Bv}{x p:Bv}(h:p∈Ot l x):p=x\/p∈l:=by
 unfold Ot at h;have a:∀p,p∈(Hk l x).1->p=x\/p∈l:=λp b=>by
  rcases TJ x p l ([],K) b with h|h|h
  .exact oi h
  .simp at h
  .exact oj h
 split at h
 .exact a p h
 .rcases lw.1 h with h|h
  .exact a p h
  .exact oi (by simpa using h)
def WQ{p:Bv}(h:Dx w p):∀u∈Be p,u.oneCell'=jj:=by
 obtain⟨c,b,e⟩:=Ak h;intro u a;simp only[Be,kZ,mr,or_false]at a;rcases a with rfl|rfl
 .rfl
 .rw[e];rfl
theorem OF(ES:Option Addr)(CC:Nat)(a:pM Bv)(x:Bv)(w:py)(h:Cv w (U ES (Z a) CC) a)(Q:Dx w x)(L0:Z a<=100000)(E0:JP x.f):
  Calls prog 57 #[U ES (Z a) CC,pC (ml (Be x))] w λe w'=>∃c j,e=oa (U c (Z (EW a x)) j)/\Cv w' (U c (Z (EW a x)) j) (EW a x)/\Ac [] w w':=by
 obtain⟨i0,EK,Bx,EM,B9⟩:=mg Tryz.yL;have H0:p7 (∀wr,Ac [] w wr->Calls prog 21 #[U ES (Z a) CC,pC (ml (Be x))] wr λe w'=>e=oa (pE (XF a x.f))/\Ac [] wr w'):=λwr E=>Jv ES CC a x wr (h.kept E) (Q.kept E) (by omega) E0
 have JJ:p7 (∀(p:Bv) wr,p∈a->Ac [] w wr->Calls prog 46 #[pC (ml (Be x)),pC (ml (Be p))] wr λe w'=>e=oa (pE (CW x.f p.f))/\Ac [] wr w'):=λp wr H E=>Tc x p wr (Q.kept E) ((h.each p H).1.kept E) E0 (h.each p H).2
 have HS:=Ab h;have KB:p7 (∀(wr:py) c j,Ac [] w wr->p9 wr 0 43 2 (U c (Z (Ot a x)) j) (Z (Ot a x)) ((Ot a x).flatMap Be)->Cv wr (U c (Z (Ot a x)) j) (Ot a x)):=by
  intro wr c j E hr;refine⟨hr,λp H=>?_⟩;rcases eY H with rfl|H
  .exact⟨Q.kept E,E0⟩
  .exact⟨(h.each p H).1.kept E,(h.each p H).2⟩
 have HH:=Ab (WQ Q);have K6:p7 (∀p∈a,∀u∈Be p,u.oneCell'=jj):=λp H=>WQ (h.each p H).1
 obtain⟨z,A,IA⟩:=Ak Q;obtain⟨D,NA,A2⟩:∃n v,Be x=[O n,v]/\v=U z (Z x.f.args) A:=⟨_,_,rfl,IA⟩;obtain⟨A2,rfl⟩:=A2;rw[A2]at H0 JJ HH⊢;have KD:=Ab A2;generalize Z x.f.args=xl at*;clear h Q E0 IA A2;have r:=Ab (pP w [O D,U z xl A] 43);have l:=Ab ((pO [] w).alloc (j3 [O D,U z xl A].toArray 43));have Nj:∀(x:Bool) (w:py),(Op.unary .not (pE x)).run prog w=.ok (pE (!x)) w:=λ_ _=>rfl
 obtain⟨FW,HZ⟩:=pN (EW a x);rw[HZ];have EX:p7 ((if XF a x.f then a else Ot a x)=FW):=HZ;clear HZ;go_enter func57,ntmps57;go_wp2_with fail
 refine(H0 _ l).mono ?_;rintro e w2 ⟨rfl,k2⟩;have HA:=Ab (r.kept k2);have FL:=Ab (l.trans k2);clear H0 r l k2;generalize XF a x.f=HB at EX;cases HB with
 |true=>
  have HE:p7 (a=FW):=EX;go_wp2;go_ret;rw[<-Aa HE];exact⟨ES,CC,rfl,HS.kept FL,FL⟩
 |false=>
  have HE:p7 (Ot a x=FW):=EX;clear EX;go_wp2;obtain⟨N,HU⟩:=pN w.heap.size;rw[HU]at HA⊢;have DT:=Ab HU;clear HU
  go_loopg [6,7,8] (Z a) (λgk o d i wr=>∃(k:Nat) (b:pM Bv) (s:Bool) (C:Option Addr) (B:Nat),o=U C (Z b) B/\d=pE s/\i=X J k/\k<=Z a/\gk=Z a-k/\Z b<=k+s.toNat/\p7 (Hk (a.take k) x=(b,s))/\p9 wr (N+1) 43 2 (U C (Z b) B) (Z b) (b.flatMap Be)/\p7 (Ac [] w wr)/\p7 (AF wr N [O D,U z xl A] 43))
  case atStart=>exact⟨0,[],K,Y,0,rfl,rfl,rfl,by omega,rfl,by simp,by show _=_;simp[Hk],lH _ _ _ _,FL,HA⟩
  case round=>
   clear HA FL;obtain⟨k,b,s,C,B,rfl,rfl,rfl,E,JA,H3,HF,I,l,r⟩:=hrel;have HG:=Ab JA;clear JA;have Nq:=r.lt;(have M3:s.toNat<=1:=by cases s<;>simp);have FT:p7 (Z b<=k+s.toNat):=H3;(have M6:Z b<=100001:=by omega);clear H3;by_cases A1:k<Z a
   .obtain⟨g,NB,n,F,c,j,he,HQ,d0,d1⟩:=C1 (HS.kept l) k A1;simp only[kS]at he;obtain⟨rfl,_,rfl⟩:=he;have c0:=r.cell 0;have c1:=r.cell 1;simp at c0 c1;(have Dk:p7 (Hk (a.take (k+1)) x=E2 x (b,s) a[k]):=by show _=_;rw[X7 A1,Aa HF]);have BA:=Ab (JJ a[k] wr.drew (kV A1) l.drew);have EY:=Ab (K6 a[k] (kV A1));obtain⟨AB,HV⟩:=pN (CW x.f a[k].f);have P:=Ab HV;rw[HV]at BA;(have AT:p7 (Be a[k]=[O n,U c (Z F) j]):=by show _=_;rw[HQ];rfl);rw[Aa AT]at BA EY;have HX:p7 (∀wz:py,Ac [] w wz->p8 wz ⟨g,k*2,Y⟩=V (O n)/\p8 wz ⟨g,k*2+1,Y⟩=V (U c (Z F) j)):=by
     intro wz LC;obtain⟨g',MY,n',M1,NL,Nx,H2,K1,f0,f1⟩:=C1 (HS.kept LC) k A1;have e2:=K1.symm.trans HQ;simp only[kS,ld,lW,Bv.mk.injEq,Af.mk.injEq]at H2 e2;obtain⟨⟨rfl,_,_⟩,_,_⟩:=H2;obtain⟨⟨rfl,rfl⟩,rfl,_,rfl⟩:=e2;exact⟨f0,f1⟩
    obtain⟨y,hy⟩:=pN (a[k]);rw[hy]at Dk AT P;clear HQ HV HF hy;cases s with
    |true=>
     (have A0:p7 (Hk (a.take (k+1)) x=(b++[y],jj)):=by show _=_;rw[Aa Dk];simp[E2]);clear Dk BA P;(have H8:p7 (∀(nq:Nat) (m:py),((wr.drewN nq).alloc (j3 #[O n,U c (Z F) j] 43)).grownBy m (U C (Z b) B).ownBlock->Ac [] w m/\AF m N [O D,U z xl A] 43):=λnq m hg=>⟨((l.drewN nq).alloc _).grown hg (λq G=>oj (by have:=(I.lt q G).1;have:=Aa DT;omega)),((r.drewN nq).alloc _).grown hg (λe=>by have:=(I.lt N e).1;omega)⟩);go_wp2_with fail
     go_quiet (fail)
     all_goals
      go_wp2_with (at_builtin;refine lG _ rfl (.tmp 34) (.tmp 39) _ rfl (N+1) 43 i0 _ 2 40 underlying35 EK Bx EM B9 rfl (by omega) (U C (Z b) B) (Z b) (b.flatMap Be) rfl (lg (DC I nq) _) ⟨wr.heap.size,0,Y⟩ 1 1 [O n,U c (Z F) j] rfl rfl (lI (lP (wr.drewN nq) _)) EY (by omega) (by unfold maxLen;omega) (by omega) (by simp;omega) (wr.heap.size+1) (by simp) ?_;intro g1 K2 m K8 H5 LM MB)
      go_roundg (Z a-(k+1))
      case measure=>have:=Aa HG;omega
      case rel=>exact⟨k+1,b++[y],jj,V ⟨g1,0,Y⟩,K2,by simp,rfl,by go_num,by omega,rfl,by have:=Aa FT;simp at this⊢;omega,A0,by rw[lM,lF,mx,lU,Aa AT];simpa using K8,(H8 nq m H5).1,(H8 nq m H5).2⟩
    |false=>
     go_wp2_with fail
     go_region_law (go_simp;go_at_call 46;refine BA.mono ?_;rintro e M ⟨rfl,k3⟩;have HR:=Ab (l.drew.trans k3);have BT:=Ab (r.drew.kept k3);have R:=Ad (FX I) k3;clear k3)
     all_goals
      clear BA l r I;have M2:=BT.lt;obtain⟨Mo,Nd⟩:=HX M HR;have x0:=BT.cell 0;have x1:=BT.cell 1;simp at x0 x1;have HJ:=Aa FT;simp only[oR,oX]at HJ;clear d0 d1 c0 c1;cases AB with
      |true=>
       have A0:p7 (Hk (a.take (k+1)) x=(b++[x]++[y],jj)):=by
        show _=_;rw[Aa Dk];have hh:=Aa P;simp[E2,hh]
       clear Dk P;go_wp2_with (first
        |(at_builtin;refine lG _ rfl (.tmp 30) (.tmp 32) _ rfl (N+1) 43 i0 _ 2 40 underlying35 EK Bx EM B9 rfl (by omega) (U C (Z b) B) (Z b) (b.flatMap Be) rfl (lg R _) ⟨M.heap.size,0,Y⟩ 1 1 [O D,U z xl A] rfl rfl (lI (lP M _)) HH (by omega) (by unfold maxLen;omega) (by omega) (by simp;omega) (M.heap.size+1) (by simp) ?_;intro g8 K9 T FP FO K4 KK;have FF:=(HR.alloc _).grown FO (λq G=>oj (by have:=(R.lt q G).1;have:=Aa DT;omega));have f0:=(HX T FF).1;have f1:=(HX T FF).2;have K7:=Ab FF;have K5:=Ab ((BT.alloc _).grown FO (λe=>by have:=(R.lt N e).1;omega));have M0:N+1<=T.heap.size:=(by have:=FO.size;simp at this;omega);clear FO K4 KK FF)
        |(at_builtin;refine lG _ rfl (.tmp 34) (.tmp 39) _ rfl (N+1) 43 i0 _ 2 40 underlying35 EK Bx EM B9 rfl (by omega) (U (V ⟨g8,0,Y⟩) (Z b+1) K9) (Z b+1) (b.flatMap Be++[O D,U z xl A]) rfl (lg FP _) ⟨T.heap.size,0,Y⟩ 1 1 [O n,U c (Z F) j] rfl rfl (lI (lP T _)) EY (by omega) (by unfold maxLen;omega) (by omega) (by simp;omega) (T.heap.size+1) (by simp) ?_;intro S AH m W L HO HY))
       have AO:=(K7.alloc _).grown L (λq G=>oj (by have:=(FP.lt q G).1;have:=Aa DT;omega));have H1:=(K5.alloc _).grown L (λe=>by have:=(FP.lt N e).1;omega)
       go_roundg (Z a-(k+1))
       case measure=>have:=Aa HG;omega
       case rel=>exact⟨k+1,b++[x]++[y],jj,V ⟨S,0,Y⟩,AH,by simp,rfl,by go_num,by omega,rfl,by simp;omega,A0,by simp only[lM,lF,mx,lU];rw[Aa AT,Aa KD];simpa using W,AO,H1⟩
      |false=>
       have A0:p7 (Hk (a.take (k+1)) x=(b++[y],K)):=by
        show _=_;rw[Aa Dk];have hh:=Aa P;simp[E2,hh]
       clear Dk P;go_wp2_with (at_builtin;refine lG _ rfl (.tmp 34) (.tmp 39) _ rfl (N+1) 43 i0 _ 2 40 underlying35 EK Bx EM B9 rfl (by omega) (U C (Z b) B) (Z b) (b.flatMap Be) rfl (lg R _) ⟨M.heap.size,0,Y⟩ 1 1 [O n,U c (Z F) j] rfl rfl (lI (lP M _)) EY (by omega) (by unfold maxLen;omega) (by omega) (by simp;omega) (M.heap.size+1) (by simp) ?_;intro S AH m W L HO HY)
       have AO:=(HR.alloc _).grown L (λq G=>oj (by have:=(R.lt q G).1;have:=Aa DT;omega));have H1:=(BT.alloc _).grown L (λe=>by have:=(R.lt N e).1;omega)
       go_roundg (Z a-(k+1))
       case measure=>have:=Aa HG;omega
       case rel=>exact⟨k+1,b++[y],K,V ⟨S,0,Y⟩,AH,by simp,rfl,by go_num,by omega,rfl,by simp;omega,A0,by simp only[lM,lF,mx,lU];rw[Aa AT];simpa using W,AO,H1⟩
   .have KA:p7 (Hk a x=(b,s)):=by
     have h:=Aa HF
     rwa [kX (by omega)]at h
    cases s with
    |true=>
     (have HW:p7 (Ot a x=b):=by show _=_;unfold Ot;rw[Aa KA];rfl);go_wp2;go_ret;rw[<-Aa HE,Aa HW];have CL:=Aa KB wr C B l;rw[Aa HW]at CL;exact⟨C,B,rfl,CL (Am I (lz _)),l⟩
    |false=>
     (have HW:p7 (Ot a x=b++[x]):=by show _=_;unfold Ot;rw[Aa KA];rfl);have x0:=r.cell 0;have x1:=r.cell 1;simp at x0 x1;have HJ:=Aa FT;simp only[oR,oX]at HJ;go_wp2_with (at_builtin;refine lG _ rfl (.tmp 43) (.tmp 45) _ rfl (N+1) 43 i0 _ 2 40 underlying35 EK Bx EM B9 rfl (by omega) (U C (Z b) B) (Z b) (b.flatMap Be) rfl (lg I _) ⟨wr.heap.size,0,Y⟩ 1 1 [O D,U z xl A] rfl rfl (lI (lP wr _)) HH (by omega) (by unfold maxLen;omega) (by omega) (by simp;omega) (wr.heap.size+1) (by simp) ?_;intro S AH m W L HO HY)
     have AO:=(l.alloc _).grown L (λq G=>oj (by have:=(I.lt q G).1;have:=Aa DT;omega));have HC:=Ab (And.intro W AO);clear W AO L HO HY;go_wp2;go_ret;rw[<-Aa HE,Aa HW];have CL:=Aa KB m (V ⟨S,0,Y⟩) AH HC.2;rw[Aa HW]at CL;refine⟨V ⟨S,0,Y⟩,AH,by simp,CL ?_,HC.2⟩;simp only[lM,lF,mx,lU];rw[Aa KD];simpa using Am HC.1 (lz _)
def F4:zA->Bool->pM zA->zA
 |s,_,[]=>s
 |s,b,x::l=>F4 ((if b then s++⟨#[44]⟩else s)++x) jj l
def BN(f:Af):zA:=F4 (f.name++⟨#[40]⟩) K f.args++⟨#[41,46]⟩
def Sf(c:UInt8):(⟨#[c]⟩:zA).size=1:=rfl
def dz(c d:UInt8):(⟨#[c,d]⟩:zA).size=2:=rfl
def QB:∀(l:pM zA) (s:zA) (b:Bool),(∀x∈l,x.size<=1000000)->(F4 s b l).size<=s.size+Z l*1000001
 |[],s,b,_=>by simp[F4]
 |x::l,s,b,h=>by
  have c:=h x (by simp);have ih:=QB l ((if b then s++⟨#[44]⟩else s)++x) jj (λy a=>h y (by simp[a]));rw[F4];simp only[lj];have:((if b then s++⟨#[44]⟩else s)++x).size<=s.size+1+x.size:=by
   rw[lh];cases b
   .simp
   .simp only[if_true];rw[lh,Sf];omega
  omega
def X9{f:Af}(h:JP f)(c:f.name.size<=1000000):(BN f).size<=2000000000:=by
 have:=QB f.args (f.name++⟨#[40]⟩) K (λx a=>(h.each x a).2);have b:=h.len;unfold BN;rw[lh,dz];rw[lh,Sf]at this;omega
theorem Nw(p:Bv)(w:py)(h:Dx w p)(P:Z p.f.args<=1000)(u:∀x∈p.f.args,x.size<=1000000)(Q:p.f.name.size<=1000000):
  Calls prog 28 #[pC (ml (Be p))] w λe E=>e=oa (O (BN p.f))/\Ac [] w E:=by
 obtain⟨⟨n,a⟩,av⟩:=p;have H:p7 (∀x∈a,x.size<=1000000):=u;simp only at P Q;obtain⟨b,c,e⟩:=Ak h;simp only at e;subst e;have I:p7 (p9 w 0 9 1 (U b (Z a) c) (Z a) (a.flatMap Ah)):=h;obtain⟨R,v⟩:=pN (BN ⟨n,a⟩);rw[v];have B:p7 (F4 (n++⟨#[40]⟩) K (a.drop 0)++⟨#[41,46]⟩=R):=v;have q:=Ab (pP w [O n,U b (Z a) c] 43);have t:=Ab ((pO [] w).alloc (j3 [O n,U b (Z a) c].toArray 43));clear h u v;simp only[Be];have G:(n++⟨#[40]⟩:zA).size<=1000001:=by rw[lh,Sf];omega
 have Ax:(⟨#[40]⟩:zA).size=1:=rfl;have AB:(⟨#[44]⟩:zA).size=1:=rfl;have AT:(⟨#[41,46]⟩:zA).size=2:=rfl;go_enter func28,ntmps28;go_wp2;change Code.wp _ _ _ _ (w.alloc (j3 [O n,U b (Z a) c].toArray 43));generalize w.alloc (j3 [O n,U b (Z a) c].toArray 43)=w1 at q t⊢;generalize w.heap.size=N at q⊢;have L:=q.cell 1;simp at L
 go_loopg [3,4] (Z a) (λgk o i wr=>∃(k:Nat) (s:zA),o=O s/\i=X J k/\k<=Z a/\gk=Z a-k/\s.size<=1000001+k*1000001/\p7 (F4 s (decide (0<k)) (a.drop k)++⟨#[41,46]⟩=R)/\wr=w1)
 case atStart=>exact⟨0,_,rfl,rfl,by omega,rfl,by simpa using G,B,rfl⟩
 case round=>
  clear B;obtain⟨k,s,rfl,rfl,T,A,AH,d,rfl⟩:=hrel;have z:=Ab A;clear A;by_cases l:k<Z a
  .obtain⟨g,W,C,d0⟩:=G0 (Ad I t) k l;simp only[kS]at C;obtain⟨rfl,_,rfl⟩:=C;have u:=Aa H a[k] (kV l);have j:p7 (F4 ((if decide (0<k)then s++⟨#[44]⟩else s)++a[k]) jj (a.drop (k+1))++⟨#[41,46]⟩=R):=by
    have h:=Aa d;rw[lD l,F4]at h;exact h
   have D:k*1000001<=1000*1000001:=mh _ (by omega);by_cases y:0<k
   ·(have F:(0:Int)<(k:Int):=by omega);have m:p7 (F4 (s++⟨#[44]⟩++a[k]) (decide (0<k+1)) (a.drop (k+1))++⟨#[41,46]⟩=R):=by
     have h:=Aa j;simp only[y,decide_true,if_true]at h;show _=_;simpa using h
    (have M:(s++⟨#[44]⟩:zA).size=s.size+1:=by rw[lh];rfl);(have r:(s++⟨#[44]⟩++a[k]:zA).size<=1000001+(k+1)*1000001:=by rw[lh,M];omega);clear d j;go_wp2
    go_roundg (Z a-(k+1))
    case measure=>have:=Aa z;omega
    case rel=>exact⟨k+1,_,rfl,by go_num,by omega,rfl,r,m,rfl⟩
   ·(have F:¬(0:Int)<(k:Int):=by omega);have m:p7 (F4 (s++a[k]) (decide (0<k+1)) (a.drop (k+1))++⟨#[41,46]⟩=R):=by
     have h:=Aa j;simp only[y,oW,k0,if_false]at h;show _=_;simpa using h
    (have r:(s++a[k]:zA).size<=1000001+(k+1)*1000001:=by rw[lh];omega);clear d j;go_wp2
    go_roundg (Z a-(k+1))
    case measure=>have:=Aa z;omega
    case rel=>exact⟨k+1,_,rfl,by go_num,by omega,rfl,r,m,rfl⟩
  .have S:p7 (s++⟨#[41,46]⟩=R):=by
    have h:=Aa d;rw[lS (by omega)]at h;exact h
   have D:k*1000001<=1000*1000001:=mh _ (by omega);go_wp2;go_ret;rw[<-Aa S];exact⟨rfl,t⟩
def Nf(p:Bv)(w:py)(h:Dx w p)(a:JP p.f)(d:p.f.name.size<=1000000):
  Calls prog 28 #[pC (ml (Be p))] w λe b=>e=oa (O (BN p.f))/\Ac [] w b:=
 Nw p w h a.len (λx c=>(a.each x c).2) d
def Ow:zA->pM Bv->zA
 |t,[]=>t
 |t,p::l=>Ow (t++BN p.f++⟨#[10]⟩) l
theorem V0(z:Option Addr)(B:Nat)(a:pM Bv)(w:py)(h:Cv w (U z (Z a) B) a)(AB:Z a<=100000)(u:∀p∈a,p.f.name.size<=1000000):
  Calls prog 66 #[U z (Z a) B] w λe m=>e=oa (O (Ow pF a))/\Ac [] w m:=by
 have H:=Ab h;have P:p7 (∀(p:Bv) wr,p∈a->Ac [] w wr->Calls prog 28 #[pC (ml (Be p))] wr λe m=>e=oa (O (BN p.f))/\Ac [] wr m):=λp wr b v=>Nf p wr ((h.each p b).1.kept v) (h.each p b).2 (u p b)
 have I:p7 (∀p∈a,(BN p.f).size<=2000000000):=λp b=>X9 (h.each p b).2 (u p b)
 obtain⟨R,t⟩:=pN (Ow pF a);rw[t];have A:p7 (Ow pF (a.drop 0)=R):=t;clear h t u;have Ax:(⟨#[10]⟩:zA).size=1:=rfl;go_enter func66,ntmps66;go_wp2
 go_loopg [3,4] (Z a) (λgk o i wr=>∃(k:Nat) (s:zA),o=O s/\i=X J k/\k<=Z a/\gk=Z a-k/\s.size<=k*2000000001/\p7 (Ow s (a.drop k)=R)/\p7 (Ac [] w wr))
 case atStart=>exact⟨0,pF,rfl,rfl,by omega,rfl,by simp,A,pO _ _⟩
 case round=>
  clear A;obtain⟨k,s,rfl,rfl,v,y,AH,q,l⟩:=hrel;have E:=Ab y;clear y;have Q:k*2000000001<=100000*2000000001:=mh _ (by omega);by_cases d:k<Z a
  .obtain⟨g,W,n,L,ad,cp,D,C,d0,T⟩:=C1 (H.kept l) k d;simp only[kS]at D;obtain⟨rfl,_,rfl⟩:=D;have c:=Ab (P a[k] wr (kV d) l);have r:=Aa I a[k] (kV d);have j:p7 (Ow (s++BN a[k].f++⟨#[10]⟩) (a.drop (k+1))=R):=by
    have h:=Aa q;rw[lD d,Ow]at h;exact h
   rw[C]at c r j;simp only[Be]at c r j;generalize BN ⟨n,L⟩=FT at c r j;clear C q;(have F:(s++FT:zA).size=s.size+FT.size:=by rw[lh]);(have G:(s++FT++⟨#[10]⟩:zA).size<=(k+1)*2000000001:=by rw[lh,F];omega);(go_wp2_with fail);refine c.mono ?_;rintro e S ⟨rfl,x⟩;have M:=Ab (l.trans x);clear c x;go_wp2
   go_roundg (Z a-(k+1))
   case measure=>have:=Aa E;omega
   case rel=>exact⟨k+1,_,rfl,by go_num,by omega,rfl,G,j,M⟩
  .have N:p7 (s=R):=by
    have h:=Aa q;rw[lS (by omega)]at h;exact h
   go_wp2;go_ret;rw[<-Aa N];exact⟨rfl,l⟩
def Aj(e:pM zA):pM p5:=e.map O
def Bp(e:pM zA):(pC (ml (Aj e))).cells=ml (Aj e):=by
 unfold Aj;simp[Value.cells]
def AI(e:pM zA)(t:AK):zA:=if t.v=0 then t.s else e.getD (t.v.toNat-65) pF
theorem LK(e:pM zA)(t:AK)(w:py)(C:Z e=26)(f:t.v=0\/(65<=t.v.toNat/\t.v.toNat<=90)):
  Calls prog 89 #[pC (ml (Aj e)),pC (ml (AV t))] w λr x=>r=oa (O (AI e t))/\Ac [] w x:=by
 have D:=Bp e;have A:Z (Aj e)=26:=by unfold Aj;simp[C]
 have g:p7 (∀i (h:i<26),(Aj e)[i]?=V (O (e.getD i pF))):=by
  intro i h;unfold Aj;rw[mA,lq,lc (by omega)];rfl
 obtain⟨a,c⟩:=t;obtain⟨R,m⟩:=pN (AI e ⟨a,c⟩);rw[m];have k:p7 ((if a=0 then c else e.getD (a.toNat-65) pF)=R):=m;generalize Aj e=E at D A g⊢;have l:=Ab (((pO [] w).alloc (j3 (ml E) 90)).alloc (j3 [X .u8 a.toNat,O c].toArray 93));have p:=Ab ((pP w E 90).alloc (j3 [X .u8 a.toNat,O c].toArray 93));simp only[AV];clear m;simp only at f;by_cases b:a=0
 .have d:p7 (c=R):=by have h:=Aa k;rw[ln b]at h;exact h
  subst b;go_enter func89,ntmps89;go_wp2;go_ret;rw[<-Aa d];exact⟨rfl,l⟩
 .have d:p7 (e.getD (a.toNat-65) pF=R):=by have h:=Aa k;rw[li b]at h;exact h
  have B:65<=a.toNat/\a.toNat<=90:=by
   rcases f with h|h
   .exact absurd h b
   .exact h
  have z:((a.toNat:Int)==0)=K:=by rw[lQ];omega
  obtain⟨j,u⟩:=pN (a.toNat-65);have s:a.toNat=j+65:=by omega
  rw[u]at d;have q:j<26:=by omega
  rw[s]at p l z⊢;have o:=p.cell j;rw[Aa g j q]at o;have y:p7 (∀h:j<Z E,E[j]=O (e.getD j pF)):=λh=>by
   have n:=Aa g j q;rw[lc h]at n;exact mZ n
  clear k u s B f b o;go_enter func89,ntmps89;go_wp2;go_ret;rw[<-Aa d];exact⟨congrArg oa (y _),l⟩
def U4(x:zA):Bool:=x.toList==[]
def D5(x:zA):U4 x=jj↔x.size=0:=by
 unfold U4;rw[AY];cases h:x.toList<;>simp
def EH(a b:zA):(a.toList==b.toList)=jj↔a=b:=by
 constructor
 .intro h;exact toList_inj (by simpa using h)
 .intro h;rw[h];simp
def Dd:pM zA->pM AK->pM zA->pM zA×Bool
 |e,[],_=>(e,jj)
 |e,_::_,[]=>(e,jj)
 |e,t::ts,x::xs=>if U4 (AI e t)then Dd (e.set (t.v.toNat-65) x) ts xs else if(AI e t).toList==x.toList then Dd e ts xs else(e,K)
def iM(e e':pM zA):Prop:=Z e'=Z e/\∀j,(e.getD j pF).size≠0->e'.getD j pF=e.getD j pF
def iM.refl(e:pM zA):iM e e:=⟨rfl,λ_ _=>rfl⟩
def iM.trans{a b c:pM zA}(h:iM a b)(k:iM b c):iM a c:=⟨k.1.trans h.1,λj d=>(k.2 j (by rw[h.2 j d];exact d)).trans (h.2 j d)⟩
def iM.set{e:pM zA}{j:Nat}(h:(e.getD j pF).size=0)(x:zA):iM e (e.set j x):=by
 refine⟨by simp,λi b=>?_⟩;by_cases a:j=i
 .subst a;exact absurd h b
 .rw[lq,lq,mm a]
def R0{e c:pM zA}(h:iM e c){t:AK}(b:(AI e t).size≠0):AI c t=AI e t:=by
 unfold AI at b⊢;by_cases a:t.v=0
 .rw[ln a,ln a]
 .rw[li a]at b⊢;rw[li a];exact h.2 _ b
def BC(t:AK):Prop:=(t.v=0/\t.s.size≠0)\/(65<=t.v.toNat/\t.v.toNat<=90)
def BC.yM{t:AK}(h:BC t)(a:(AI e t).size=0):t.v≠0/\65<=t.v.toNat/\t.v.toNat<=90/\(e.getD (t.v.toNat-65) pF).size=0:=by
 rcases h with⟨c,b⟩|⟨b,d⟩
 .unfold AI at a;rw[ln c]at a;exact absurd a b
 .have c:t.v≠0:=λh=>by rw[h]at b;exact absurd b (by decide)
  unfold AI at a;rw[li c]at a;exact⟨c,b,d,a⟩
def eF{t:AK}(c:Z e=26)(a:t.v≠0)(b:65<=t.v.toNat)(d:t.v.toNat<=90)(x:zA):AI (e.set (t.v.toNat-65) x) t=x:=by
 unfold AI;rw[li a,lq,mK (by omega)];rfl
def Hm:∀(a:pM AK) (b:pM zA) (e c:pM zA),Z e=26->Z a=Z b->(∀t∈a,BC t)->(∀x∈b,x.size≠0)->Dd e a b=(c,jj)->iM e c/\a.map (AI c)=b
 |[],[],e,c,_,_,_,_,h=>by
  simp only[Dd,lZ]at h;rw[<-h.1];exact⟨iM.refl e,rfl⟩
 |[],_::_,_,_,_,h,_,_,_=>by simp at h
 |_::_,[],_,_,_,h,_,_,_=>by simp at h
 |t::a,x::b,e,c,he,hl,hg,hx,h=>by
  rw[Dd]at h;have n:Z a=Z b:=by simpa using hl
  have o:∀t∈a,BC t:=λu j=>hg u (by simp[j])
  have l:∀x∈b,x.size≠0:=λu j=>hx u (by simp[j])
  have m:=hx x (by simp);by_cases k:U4 (AI e t)=jj
  .rw[ln k]at h;obtain⟨r,q,p,s⟩:=(hg t (by simp)).yM ((D5 _).1 k);obtain⟨d,g⟩:=Hm a b (e.set (t.v.toNat-65) x) c (by simp[he]) n o l h;have f:=eF he r q p x;refine⟨(iM.set s x).trans d,?_⟩;rw[lE,g,R0 d (by rw[f];exact m),f]
  .rw[li k]at h;by_cases i:((AI e t).toList==x.toList)=jj
   .rw[ln i]at h;obtain⟨d,g⟩:=Hm a b e c he n o l h;have f:=(EH _ _).1 i;refine⟨d,?_⟩;rw[lE,g,R0 d (by rw[f];exact m),f]
   .rw[li i]at h;simp at h
def Ed(σ:UInt8->zA)(t:AK):zA:=if t.v=0 then t.s else σ t.v
def Ef(e:pM zA)(σ:UInt8->zA):Prop:=Z e=26/\∀v:UInt8,65<=v.toNat->v.toNat<=90->(e.getD (v.toNat-65) pF).size=0\/e.getD (v.toNat-65) pF=σ v
def Ef.val{σ:UInt8->zA}(h:Ef e σ){t:AK}(g:BC t)(d:(AI e t).size≠0):AI e t=Ed σ t:=by
 unfold AI at d⊢;unfold Ed;by_cases a:t.v=0
 .rw[ln a,ln a]
 .rw[li a]at d⊢;rw[li a];rcases g with⟨b,_⟩|⟨b,f⟩
  .exact absurd b a
  .rcases h.2 t.v b f with c|c
   .exact absurd c d
   .exact c
def Ef.set{e:pM zA}{σ:UInt8->zA}(h:Ef e σ){v:UInt8}(f:65<=v.toNat)(d:v.toNat<=90):Ef (e.set (v.toNat-65) (σ v)) σ:=by
 refine⟨by simp[h.1],λu a b=>?_⟩;by_cases c:v.toNat-65=u.toNat-65
 .have:v=u:=mO.1 (by omega);subst this;right;rw[lq,mK (by rw[h.1];omega)];rfl
 .rw[lq,mm c,<-lq];exact h.2 u a b
def IM(σ:UInt8->zA):∀(a:pM AK) (e:pM zA),Ef e σ->(∀t∈a,BC t/\(Ed σ t).size≠0)->∃f,Dd e a (a.map (Ed σ))=(f,jj)/\Ef f σ
 |[],e,h,_=>⟨e,rfl,h⟩
 |t::a,e,h,hg=>by
  rw[lE,Dd];have g:∀u∈a,BC u/\(Ed σ u).size≠0:=λu l=>hg u (by simp[l])
  obtain⟨d,o⟩:=hg t (by simp);by_cases b:U4 (AI e t)=jj
  .rw[ln b];obtain⟨m,k,i,n⟩:=d.yM ((D5 _).1 b);(have c:Ed σ t=σ t.v:=by unfold Ed;rw[li m]);rw[c];exact IM σ a _ (h.set k i) g
  .rw[li b];have c:=h.val d (λj=>b ((D5 _).2 j));rw[ln (by rw[c];simp)];exact IM σ a e h g
def TP:∀(l m:pM zA),Hz l m=jj↔l=m
 |[],[]=>by simp[Hz]
 |[],_::_=>by simp[Hz]
 |_::_,[]=>by simp[Hz]
 |x::l,y::m=>by
  rw[Hz,lJ,EH,TP l m];simp
def Jo(a b:Af):DJ a b=jj↔a=b:=by
 obtain⟨d,f⟩:=a;obtain⟨e,c⟩:=b;unfold DJ;rw[lJ,EH,TP];simp
def Aq(e:pM zA)(A:Dg):Af:=⟨A.name,A.args.map (AI e)⟩
def Bm(σ:UInt8->zA)(A:Dg):Af:=⟨A.name,A.args.map (Ed σ)⟩
def B3(e:pM zA)(A:Dg)(f:Af):pM zA×Bool:=if(A.name.toList==f.name.toList)&&(Z A.args==Z f.args)then Dd e A.args f.args else(e,K)
def Ih(e:pM zA)(A:Dg)(f:Af):Option (pM zA):=if(B3 e A f).2 then V (B3 e A f).1 else Y
def B7(s:pM Af)(l:pM (pM zA))(x:Br):pM (pM zA):=if x.kind==97 then l.flatMap (λe=>s.filterMap (Ih e x.A))else l
def C3(s:pM Af)(f:Af):Bool:=s.any λg=>DJ g f
def BK(s:pM Af)(f:Af):C3 s f=jj↔f∈s:=by
 unfold C3;rw[mH];constructor
 .rintro ⟨g,a,h⟩;rw[Jo]at h;rw[<-h];exact a
 .intro h;exact⟨f,h,(Jo f f).2 rfl⟩
def Cg(fact:Dg->Af)(val:AK->zA)(s:pM Af)(x:Br):Bool:=
 if x.kind==97 then C3 s (fact x.A)else if x.kind==33 then !C3 s (fact x.A)else if x.kind==61 then(val x.L).toList==(val x.R).toList else if x.kind==35 then !((val x.L).toList==(val x.R).toList)else Gb (val x.L) (val x.R)
def Bk:pM zA:=pG 26 pF
def Bt(body:pM Br)(s:pM Af):pM (pM zA):=(body.foldl (B7 s) [Bk]).filter λe=>body.all λx=>x.kind==97||Cg (Aq e) (AI e) s x
def Ig(f:Af):Prop:=∀x∈f.args,x.size≠0
def Ui{e d:pM zA}{A:Dg}{f:Af}(h:Ih e A f=V d):A.name=f.name/\Z A.args=Z f.args/\Dd e A.args f.args=(d,jj):=by
 unfold Ih B3 at h;by_cases c:((A.name.toList==f.name.toList)&&(Z A.args==Z f.args))=jj
 .rw[ln c]at h;rw[lJ]at c;cases hm:Dd e A.args f.args with
  |mk a b=>
   rw[hm]at h;cases b with
   |false=>simp at h
   |true=>
    simp at h;exact⟨(EH _ _).1 c.1,by simpa using c.2,by rw[h]⟩
 .rw[li c]at h;simp at h
def it{e a:pM zA}{A:Dg}{f:Af}(d:A.name=f.name)(c:Z A.args=Z f.args)(g:Dd e A.args f.args=(a,jj)):Ih e A f=V a:=by
 have h:((A.name.toList==f.name.toList)&&(Z A.args==Z f.args))=jj:=by
  rw[lJ,EH];exact⟨d,by simpa using c⟩
 have b:B3 e A f=(a,jj):=by
  unfold B3;rw[ln h,g]
 unfold Ih;rw[b];rfl
def CN{s:pM Af}(n:∀f∈s,Ig f):∀(g:pM Br) (l:pM (pM zA)),(∀e∈l,Z e=26)->(∀x∈g,(x.kind==97)=jj->∀t∈x.A.args,BC t)->
  ∀a∈g.foldl (B7 s) l,Z a=26/\∃e∈l,iM e a/\∀x∈g,(x.kind==97)=jj->Aq a x.A∈s/\∀t∈x.A.args,(AI a t).size≠0
 |[],l,hl,_,a,he'=>⟨hl a he',a,he',iM.refl a,λx M=>by simp at M⟩
 |x::g,l,hl,hg,a,he'=>by
  rw[lR]at he';have w:∀x∈g,(x.kind==97)=jj->∀t∈x.A.args,BC t:=λy c=>hg y (by simp[c])
  by_cases j:(x.kind==97)=jj
  .have D:∀b∈B7 s l x,∃e∈l,∃f∈s,Ih e x.A f=V b:=by
    intro b k;unfold B7 at k;rw[ln j]at k;obtain⟨e,d,F⟩:=ma.1 k;obtain⟨f,h,m⟩:=m3.1 F;exact⟨e,d,f,h,m⟩
   have I:∀b∈B7 s l x,Z b=26:=by
    intro b k;obtain⟨e,d,f,h,m⟩:=D b k;obtain⟨_,r,v⟩:=Ui m;rw[(Hm _ _ _ _ (hl e d) r (hg x (by simp) j) (n f h) v).1.1,hl e d]
   obtain⟨u,b,L,p,q⟩:=CN n g (B7 s l x) I w a he';obtain⟨e,d,f,h,m⟩:=D b L;obtain⟨H,r,v⟩:=Ui m;obtain⟨E,B⟩:=Hm _ _ _ _ (hl e d) r (hg x (by simp) j) (n f h) v;(have C:∀t∈x.A.args,(AI b t).size≠0:=λt i=>n f h _ (by rw[<-B];exact lB i));(have z:∀t∈x.A.args,AI a t=AI b t:=λt i=>R0 p (C t i));refine⟨u,e,d,E.trans p,λy c o=>?_⟩;rcases kZ.1 c with rfl|c
   .refine⟨?_,λt i=>by rw[z t i];exact C t i⟩;have:Aq a y.A=f:=by
     unfold Aq;rw[mu z,B,H]
    rw[this];exact h
   .exact q y c o
  ·(have G:B7 s l x=l:=by unfold B7;rw[li j]);rw[G]at he';obtain⟨u,e,d,p,q⟩:=CN n g l hl w a he';refine⟨u,e,d,p,λy c o=>?_⟩;rcases kZ.1 c with rfl|c
   .exact absurd o j
   .exact q y c o
def IU{s:pM Af}(σ:UInt8->zA):∀(a:pM Br) (l:pM (pM zA)) (e:pM zA),e∈l->Ef e σ->(∀x∈a,(x.kind==97)=jj->(∀t∈x.A.args,BC t/\(Ed σ t).size≠0)/\Bm σ x.A∈s)->
  ∃m∈a.foldl (B7 s) l,Ef m σ
 |[],l,e,he,ha,_=>⟨e,he,ha⟩
 |x::a,l,e,he,ha,hb=>by
  rw[lR];have c:∀y∈a,(y.kind==97)=jj->(∀t∈y.A.args,BC t/\(Ed σ t).size≠0)/\Bm σ y.A∈s:=λy h=>hb y (by simp[h])
  by_cases b:(x.kind==97)=jj
  .obtain⟨j,g⟩:=hb x (by simp) b;obtain⟨d,k,i⟩:=IM σ x.A.args e ha j;refine IU σ a _ d ?_ i c;unfold B7;rw[ln b];exact ma.2 ⟨e,he,m3.2 ⟨_,g,it rfl (by simp[Bm]) k⟩⟩
  ·(have f:B7 s l x=l:=by unfold B7;rw[li b]);rw[f];exact IU σ a l e he ha c
def Ef.start(σ:UInt8->zA):Ef Bk σ:=by
 refine⟨rfl,λv a b=>oi ?_⟩;unfold Bk;rw[lq,List.getElem?_replicate];split<;>rfl
def E8(body:pM Br)(t:AK):Prop:=t.v=0\/∃x∈body,(x.kind==97)=jj/\∃u∈x.A.args,u.v=t.v
def Jl(e:pM zA)(v:UInt8):zA:=e.getD (v.toNat-65) pF
def GU(e:pM zA)(t:AK):Ed (Jl e) t=AI e t:=rfl
def Hj{s:pM Af}(k:∀f∈s,Ig f){b:pM Br}(l:∀x∈b,(x.kind==97)=jj->∀t∈x.A.args,BC t)(a:e∈Bt b s):
  ∀x∈b,Cg (Aq e) (AI e) s x=jj:=by
 unfold Bt at a;obtain⟨i,g⟩:=lK.1 a;obtain⟨_,_,_,_,j⟩:=CN k b [Bk] (λe a=>by simp at a;rw[a];rfl) l e i;intro x d;by_cases c:(x.kind==97)=jj
 .unfold Cg;rw[ln c];exact(BK _ _).2 (j x d c).1
 .have:=(mC.1 g) x d;simp only[mP]at this;rcases this with h|h
  .exact absurd h c
  .exact h
def PH{s:pM Af}(o:∀f∈s,Ig f){a:pM Br}(l:∀x∈a,(x.kind==97)=jj->∀t∈x.A.args,BC t)(σ:UInt8->zA)(m:∀x∈a,Cg (Bm σ) (Ed σ) s x=jj)
  (w:∀x∈a,(x.kind==97)=K->((x.kind==33)=jj->∀t∈x.A.args,E8 a t)/\((x.kind==33)=K->E8 a x.L/\E8 a x.R)):
  ∃e∈Bt a s,∀t,E8 a t->AI e t=Ed σ t:=by
 have q:∀x∈a,(x.kind==97)=jj->(∀t∈x.A.args,BC t/\(Ed σ t).size≠0)/\Bm σ x.A∈s:=by
  intro x c b;have h:=m x c;unfold Cg at h;rw[ln b,BK]at h;exact⟨λt g=>⟨l x c b t g,o _ h _ (lB g)⟩,h⟩
 obtain⟨e,i,p⟩:=IU σ a [Bk] Bk (by simp) (Ef.start σ) q;obtain⟨_,_,_,_,y⟩:=CN o a [Bk] (λe i=>by simp at i;rw[i];rfl) l e i;have j:∀t,E8 a t->AI e t=Ed σ t:=by
  intro t g;rcases g with d|⟨x,c,b,u,n,z⟩
  .unfold AI Ed;rw[ln d,ln d]
  .have r:=(y x c b).2 u n;have k:=p.val (l x c b u n) r;unfold AI Ed at k⊢;rw[<-z];by_cases d:u.v=0
   .rw[ln d,ln d]
   .rw[li d,li d]at k⊢;exact k
 refine⟨e,?_,j⟩;unfold Bt;refine lK.2 ⟨i,mC.2 λx c=>?_⟩;cases b:(x.kind==97)with
 |true=>rfl
 |false=>
  obtain⟨s1,s2⟩:=w x c b;rw[nI,<-m x c];unfold Cg;simp only[b,k0,if_false];cases hk2:(x.kind==33)with
  |true=>
   simp only[if_true];have:Aq e x.A=Bm σ x.A:=by
    unfold Aq Bm;rw[mu (λt g=>j t (s1 hk2 t g))]
   rw[this]
  |false=>
   simp only[k0,if_false];rw[j _ (s2 hk2).1,j _ (s2 hk2).2]
def Al(c:A4):pM Br:=c.bl.map Prod.fst
def CG(c:A4)(σ:UInt8->zA):GZ Af:=
 ⟨((Al c).filter λx=>x.kind==97).map λx=>Bm σ x.A,((Al c).filter λx=>x.kind==33).map λx=>Bm σ x.A,Bm σ c.head⟩
def N8(c:A4)(σ:UInt8->zA):Prop:=∀x∈Al c,(x.kind==97)=K->(x.kind==33)=K->Cg (Bm σ) (Ed σ) [] x=jj
def FR(cs:pM A4)(i:GZ Af):Prop:=∃c∈cs,∃σ,N8 c σ/\i=CG c σ
def Sd{f:Dg->Af}{v:AK->zA}{s t:pM Af}{x:Br}(a:(x.kind==97)=K)(b:(x.kind==33)=K):Cg f v s x=Cg f v t x:=by
 unfold Cg;rw[a,b];rfl
def Gl(c:A4)(σ:UInt8->zA)(s:pM Af):(∀x∈Al c,Cg (Bm σ) (Ed σ) s x=jj)↔Kn (CG c σ) (·∈s) (·∈s)/\N8 c σ:=by
 constructor
 .intro h;refine⟨⟨λg i=>?_,λg i l=>?_⟩,λx a f e=>?_⟩
  .obtain⟨x,a,rfl⟩:=lk.1 i;obtain⟨a,b⟩:=lK.1 a;have d:=h x a;unfold Cg at d;rw[ln b,BK]at d;exact d
  .obtain⟨x,a,rfl⟩:=lk.1 i;obtain⟨a,b⟩:=lK.1 a;have d:=h x a;have j:(x.kind==97)=K:=by
    (have:x.kind=33:=by simpa using b);rw[this];rfl
   unfold Cg at d;rw[li (by rw[j];simp),ln b,(BK _ _).2 l]at d;cases d
  .rw[Sd f e (t:=s)];exact h x a
 .rintro ⟨⟨f,e⟩,k⟩ x a;cases b:(x.kind==97)with
  |true=>
   unfold Cg;rw[b,ln rfl,BK];exact f _ (lk.2 ⟨x,lK.2 ⟨a,b⟩,rfl⟩)
  |false=>
   cases hk2:(x.kind==33)with
   |true=>
    unfold Cg;rw[b,hk2,li (by simp),ln rfl];cases d:C3 s (Bm σ x.A)with
    |false=>rfl
    |true=>exact absurd ((BK _ _).1 d) (e _ (lk.2 ⟨x,lK.2 ⟨a,hk2⟩,rfl⟩))
   |false=>
    rw[Sd b hk2 (t:=[])];exact k x a b hk2
structure Rn(cs:pM A4):Prop where
 args:∀c∈cs,∀x∈Al c,(x.kind==97)=jj->∀t∈x.A.args,BC t
 safe:∀c∈cs,∀x∈Al c,(x.kind==97)=K->((x.kind==33)=jj->∀t∈x.A.args,E8 (Al c) t)/\((x.kind==33)=K->E8 (Al c) x.L/\E8 (Al c) x.R)
 head:∀c∈cs,∀t∈c.head.args,E8 (Al c) t
structure CR(cs:pM A4)(zR:zA->Nat):Prop where
 pos:∀c∈cs,∀x∈Al c,(x.kind==97)=jj->zR x.A.name<=zR c.head.name
 neg:∀c∈cs,∀x∈Al c,(x.kind==33)=jj->zR x.A.name<zR c.head.name
def CR.zZ{k:pM A4}{j:zA->Nat}(h:CR k j):Mc (FR k) (λf=>j f.name):=by
 refine⟨?_,?_⟩
 .rintro i ⟨c,e,σ,_,rfl⟩ g d;obtain⟨x,a,rfl⟩:=lk.1 d;obtain⟨a,b⟩:=lK.1 a;exact h.pos c e x a b
 .rintro i ⟨c,e,σ,_,rfl⟩ g d;obtain⟨x,a,rfl⟩:=lk.1 d;obtain⟨a,b⟩:=lK.1 a;exact h.neg c e x a b
def eQ{b:pM A4}{a:zA->Nat}(l:CR b a)(w:Rn b){d s:pM Af}(u:DW (FR b) (λf=>a f.name) n (·∈s))(x:∀f∈d,f∈s)(t:∀f∈s,f∈d\/a f.name=n)(q:∀f∈d,Ig f)
  {c:A4} (p:c∈b) (o:a c.head.name=n)  (y:e∈Bt (Al c) d):DW (FR b) (λf=>a f.name) n (λf=>f∈s\/f=Aq e c.head):=by
 have r:=Hj q (w.args c p) y;have j:Kn (CG c (Jl e)) (·∈d) (·∈d)/\N8 c (Jl e):=(Gl c (Jl e) d).1 r;have m:FR b (CG c (Jl e)):=⟨c,p,Jl e,j.2,rfl⟩;have k:(CG c (Jl e)).head=Aq e c.head:=rfl;have:=u.step (FR b) (λf=>a f.name) l.zZ m (by rw[k];exact o) ⟨λg i=>x g (j.1.1 g i),λg i v=>by
  rcases t g v with h|h
  .exact j.1.2 g i h
  .have A:a g.name<a (CG c (Jl e)).head.name:=l.zZ.neg _ m g i
   have z:a (CG c (Jl e)).head.name=n:=by rw[k];exact o
   omega⟩
 rw[k]at this;exact this
def cP{a:pM A4}{b:zA->Nat}(g:Rn a){s:pM Af}(j:DW (FR a) (λf=>b f.name) n (·∈s))(v:∀f∈s,Ig f)
  (k:∀c∈a,b c.head.name=n->∀e∈Bt (Al c) s,Aq e c.head∈s):DW (FR a) (λf=>b f.name) (n+1) (·∈s):=by
 refine j.next (FR a) (λf=>b f.name) ?_;rintro i ⟨c,d,σ,p,rfl⟩ w u;have o:=(Gl c σ s).2 ⟨u,p⟩;obtain⟨e,l,m⟩:=PH v (g.args c d) σ o (g.safe c d);have h:=k c d w e l;have r:Aq e c.head=Bm σ c.head:=by
  unfold Aq Bm;rw[mu (λt q=>m t (g.head c d t q))]
 rw[r]at h;exact h
def fm{a:pM A4}{b d:zA->Nat}(p:CR a b)(o:CR a d){M N:Af->Prop}(k:DW (FR a) (λf=>b f.name) n M)(r:DW (FR a) (λf=>d f.name) m N)(l:∀c∈a,b c.head.name<n)(q:∀c∈a,d c.head.name<m):∀f,M f↔N f:=by
 have j:=k.done (FR a) (λf=>b f.name) (λi g=>by obtain⟨c,e,σ,_,rfl⟩:=g;exact l c e);have h:=r.done (FR a) (λf=>d f.name) (λi g=>by obtain⟨c,e,σ,_,rfl⟩:=g;exact q c e);exact bX (FR a) _ _ p.zZ o.zZ j.1 j.2 h.1 h.2
def Hv{f:pM A4}(h:Cl w z f)(k:Nat)(d:k<Z f):
  ∃g s a j i e l b m,z=U (V ⟨g,0,Y⟩) (Z f) s/\f[k]=⟨a,U j (Z a.args) i,U e (Z b) l,b,m⟩/\Xg w ⟨a,U j (Z a.args) i,U e (Z b) l,b,m⟩/\
   p8 w ⟨g,k*5,Y⟩=V (O a.name)/\p8 w ⟨g,k*5+1,Y⟩=V (U j (Z a.args) i)/\p8 w ⟨g,k*5+2,Y⟩=V (X J a.at_)/\p8 w ⟨g,k*5+3,Y⟩=V (U e (Z b) l):=by
 obtain⟨g,s,y,_,n⟩:=AC h.row (λc _=>B1 c) k d;have o:=h.each _ (kV d);have t:=n k d 0 (by omega);have r:=n k d 1 (by omega);have p:=n k d 2 (by omega);have q:=n k d 3 (by omega);obtain⟨⟨a,A,B,b,m⟩,x⟩:∃c,f[k]=c:=⟨_,rfl⟩;rw[x]at t r p q o;obtain⟨j,i,v⟩:=Ak o.args;obtain⟨e,l,u⟩:=Ak o.body;simp only at v u;subst v u;simp[Ce]at t r p q;exact⟨g,s,a,j,i,e,l,b,m,y,x,o,t,r,p,q⟩
theorem Tryz.info3:(Tryz.prog.info? 3).map (λi=>(i.zero,i.size,i.bytes))=V (V (X J 0),1,8):=by kernel_rfl
def Cd(n:Nat):pM p5:=[X J n]
theorem Yr(f:zA->Nat)(A:Nat)(R:Option Addr)(N:Nat)(cs:pM A4)(w:py)(L:AF w A [U R (Z cs) N] 76)(M:Cl w (U R (Z cs) N) cs)(FC:Z cs<=1000)
  (G:∀(x:zA) (z:py),Ac [] w z->Calls prog 190 #[m2 (V ⟨A,0,Y⟩),O x,X J 6] z λe n=>e=oa (X J (f x))/\Ac [] z n):
  Calls prog 155 #[m2 (V ⟨A,0,Y⟩)] w λe n=>∃b d,e=oa (U b (Z cs) d)/\p9 n w.heap.size 3 1 (U b (Z cs) d) (Z cs) ((cs.map λc=>f c.head.name).flatMap Cd)/\Ac [] w n:=by
 obtain⟨i0,EK,AO,BS,B2⟩:=mg Tryz.info3;have HP:=Ab L;have S:=Ab M;have BT:=Ab G;clear L M G;go_enter func155,ntmps155;go_wp2
 go_loopg [3,4] (Z cs) (λgk o i wr=>∃(k:Nat) (a:pM Nat) (b:Option Addr) (d:Nat),o=U b (Z a) d/\i=X J k/\k<=Z cs/\gk=Z cs-k/\Z a<=1000/\p7 (a=(cs.take k).map λc=>f c.head.name)/\p9 wr w.heap.size 3 1 (U b (Z a) d) (Z a) (a.flatMap Cd)/\p7 (Ac [] w wr))
 case atStart=>exact⟨0,[],Y,0,rfl,rfl,by omega,rfl,by simp,by show _=_;simp,lH _ _ _ _,pO _ _⟩
 case round=>
  obtain⟨k,a,b,d,rfl,rfl,hk,F,FW,y,s,j⟩:=hrel;have HG:=Ab F;clear F;have H:=(HP.kept j).cell 0;simp at H;have FT:=j.size;by_cases C:k<Z cs
  .obtain⟨g,FA,m,FL,FB,EX,Go,bl,a5,I,P,CC,d0,d1,T,W⟩:=Hv (S.kept j) k C;simp only[kS]at I;obtain⟨rfl,_,rfl⟩:=I;have u:=Ab (BT m.name wr j);have B:p7 (a++[f m.name]=(cs.take (k+1)).map λc=>f c.head.name):=by
    show _=_;rw[kW C,lV,Aa y,P];rfl
   (have E:Z (a++[f m.name])<=1000:=by rw[Aa B];simp;omega);generalize f m.name=v at u B E;clear CC P d1 T W y;(go_wp2_with fail);refine u.mono ?_;rintro e p ⟨rfl,r⟩;have DT:=Ab (j.trans r);have D:=Ad s r;have ES:=r.size;(have HF:p7 (∀l,(p.alloc (j3 #[X J v] 3)).grownBy l (U b (Z a) d).ownBlock->Ac [] w l):=λl hg=>(DT.alloc _).grown hg (λq hq=>oj ((D.lt q hq).1)));clear u r H d0 s;go_wp2_with (at_builtin;refine lG _ rfl (.tmp 14) (.tmp 26) _ rfl w.heap.size 3 i0 _ 1 8 underlying221 EK AO BS B2 rfl (by omega) (U b (Z a) d) (Z a) (a.flatMap Cd) rfl (lg D _) ⟨p.heap.size,0,Y⟩ 1 1 [X J v] rfl rfl (lI (lP p _)) (by simp[Value.oneCell']) (by omega) (by unfold maxLen;omega) (by omega) (by simp;omega) (p.heap.size+1) (by simp) ?_;intro g9 AH l Ax CL FP FO)
   go_roundg (Z cs-(k+1))
   case measure=>have:=Aa HG;omega
   case rel=>exact⟨k+1,a++[v],V ⟨g9,0,Y⟩,AH,by simp,by go_num,by omega,rfl,E,B,by simpa[Cd] using Ax,HF l CL⟩
  .have Q:p7 (a=cs.map λc=>f c.head.name):=by
    have h:=Aa y;rw[kX (by omega)]at h;exact h
   (have Bx:p7 (Z cs=Z a):=by show _=_;rw[Aa Q];simp);go_wp2;go_ret;rw[Aa Bx,<-Aa Q];exact⟨b,d,rfl,s,j⟩
def Ol(f:zA->Nat)(p:Ba):Nat:=if p.1.kind==97 then f p.1.A.name else if p.1.kind==33 then f p.1.A.name+1 else 0
def Jj(f:zA->Nat)(n:Nat)(bl:pM Ba):Nat:=bl.foldl (λn p=>max n (Ol f p)) n
def KL(f:zA->Nat)(x:zA)(n:Nat)(c:A4):Nat:=if c.head.name.toList==x.toList then Jj f n c.bl else n
def B5(cs:pM A4):Nat->zA->Nat
 |0,_=>0
 |d+1,x=>cs.foldl (KL (B5 cs d) x) 0
def ZO{f:zA->Nat}{b:Nat}(c:∀y,f y+1<=b):∀(a:pM Ba) (n:Nat),n<=b->Jj f n a<=b
 |[],n,h=>h
 |p::a,n,h=>by
  unfold Jj;rw[lR];refine ZO c a _ ?_;have:Ol f p<=b:=by
   unfold Ol;have:=c p.1.A.name;split
   .omega
   .split
    .omega
    .omega
  omega
def Vk(a:pM A4):∀(d:Nat) (x:zA),B5 a d x<=d
 |0,_=>lC _
 |d+1,x=>by
  rw[B5];have b:∀(l:pM A4) (n:Nat),n<=d+1->l.foldl (KL (B5 a d) x) n<=d+1:=by
   intro l
   induction l with
   |nil=>intro n h;exact h
   |cons c l ih=>
    intro n h;rw[lR];refine ih _ ?_;unfold KL;split
    .exact ZO (λy=>by have:=Vk a d y;omega) c.bl n h
    .exact h
  exact b a 0 (by omega)
def bc(f:zA->Nat)(n:Nat){a:pM Ba}(b:k<Z a):Jj f n (a.take (k+1))=max (Jj f n (a.take k)) (Ol f a[k]):=by
 unfold Jj;rw[kW b,mi];rfl
def cZ(f:zA->Nat)(x:zA)(a:k<Z c):(c.take (k+1)).foldl (KL f x) 0=KL f x ((c.take k).foldl (KL f x) 0) c[k]:=by
 rw[kW a,mi];rfl
def Y2{d:pM Ba}(h:p9 w 0 95 9 z (Z d) (d.flatMap AX))(D:∀p∈d,B4 w 0 p)(k:Nat)(a:k<Z d):
  ∃g m x e f,z=U (V ⟨g,0,Y⟩) (Z d) m/\d[k]=(x,U e (Z x.A.args) f)/\B4 w 0 (x,U e (Z x.A.args) f)/\
   p8 w ⟨g,k*9,Y⟩=V (X .u8 x.kind.toNat)/\p8 w ⟨g,k*9+1,Y⟩=V (O x.A.name)/\p8 w ⟨g,k*9+2,Y⟩=V (U e (Z x.A.args) f)/\p8 w ⟨g,k*9+3,Y⟩=V (X J x.A.at_)/\
   p8 w ⟨g,k*9+4,Y⟩=V (X .u8 x.L.v.toNat)/\p8 w ⟨g,k*9+5,Y⟩=V (O x.L.s)/\p8 w ⟨g,k*9+6,Y⟩=V (X .u8 x.R.v.toNat)/\p8 w ⟨g,k*9+7,Y⟩=V (O x.R.s)/\p8 w ⟨g,k*9+8,Y⟩=V (X J x.at_):=by
 obtain⟨g,m,E,_,b⟩:=AC h (λc _=>BP c) k a;have r:=D _ (kV a);have q:=b k a 0 (by omega);have l:=b k a 1 (by omega);have i:=b k a 2 (by omega);have j:=b k a 3 (by omega);have y:=b k a 4 (by omega);have t:=b k a 5 (by omega);have o:=b k a 6 (by omega);have n:=b k a 7 (by omega);have u:=b k a 8 (by omega);obtain⟨⟨x,F⟩,C⟩:∃c,d[k]=c:=⟨_,rfl⟩;rw[C]at q l i j y t o n u r;obtain⟨e,f,B⟩:=Ak r;simp only at B;subst B;simp[AX,Cj]at q l i j y t o n u;exact⟨g,m,x,e,f,E,C,r,q,l,i,j,y,t,o,n,u⟩
theorem YC(g:Nat)(f:Option Addr)(d:Nat)(a:pM A4)(o:Z a<=1000)(x:zA)(w:py)(c:AF w g [U f (Z a) d] 76)(j:Cl w (U f (Z a) d) a):
  Calls prog 190 #[m2 (V ⟨g,0,Y⟩),O x,X J 0] w λe h=>e=oa (X J (B5 a 0 x))/\Ac [] w h:=by
 have k:=c.cell 0;simp at k;have b:p7 (B5 a 0 x=0):=rfl;generalize B5 a 0 x=R at b⊢;clear c j;go_enter func190,ntmps190;go_wp2
 go_loopg [7,8] 1 (λgk n i wr=>n=X J 0/\i=X J 0/\wr=w)
 case atStart=>exact⟨rfl,rfl,rfl⟩
 case round=>
  obtain⟨rfl,rfl,rfl⟩:=hrel;by_cases m:0<Z a
  ·(have l:(0:Int)<(Z a:Int):=by omega);go_wp2;go_ret;rw[Aa b];exact⟨rfl,pO _ _⟩
  ·(have l:¬(0:Int)<(Z a:Int):=by omega);go_wp2;go_ret;rw[Aa b];exact⟨rfl,pO _ _⟩
theorem Zf(L:Nat)(HJ:Option Addr)(T:Nat)(a:pM A4)(H7:Z a<=1000)(FB:∀c∈a,Z c.bl<=1000)(d:Nat)(x:zA)(w:py)(hP:AF w L [U HJ (Z a) T] 76)(hR:Cl w (U HJ (Z a) T) a)(hd:d+1<=100)
  (Bx:p7 (∀(y:zA) (p:py),Ac [] w p->Calls prog 190 #[m2 (V ⟨L,0,Y⟩),O y,X J d] p λe w'=>e=oa (X J (B5 a d y))/\Ac [] p w')):
  Calls prog 190 #[m2 (V ⟨L,0,Y⟩),O x,X J ((d:Int)+1)] w λe w'=>e=oa (X J (B5 a (d+1) x))/\Ac [] w w':=by
 have CL:p7 (∀y,B5 a d y<=d):=λy=>Vk a d y
 have HP:=Ab hP;have AT:=Ab hR;have H1:=Ab FB;obtain⟨R,z⟩:=pN (B5 a (d+1) x);rw[z];rw[B5]at z;generalize B5 a d=f at Bx CL z;have HZ:=Ab z;clear hP hR FB z;have IS:(0:Int)<(d:Int)+1:=by omega
 go_enter func190,ntmps190;go_wp2
 go_loopg [7,8] (Z a) (λgk o i wr=>∃(k n:Nat),o=X J n/\i=X J k/\k<=Z a/\gk=Z a-k/\p7 ((a.take k).foldl (KL f x) 0=n)/\p7 (Ac [] w wr))
 case atStart=>exact⟨0,0,rfl,rfl,by omega,rfl,by show _=_;simp,pO _ _⟩
 case round=>
  obtain⟨k,n,rfl,rfl,hk,Go,H,C⟩:=hrel;have HG:=Ab Go;clear Go;have p0:=(HP.kept C).cell 0;simp at p0;by_cases q:k<Z a
  .obtain⟨g,JA,I,H4,HO,FC,EX,b,a5,he,N,H3,d0,d1,d2,d3⟩:=Hv (AT.kept C) k q;simp only[kS]at he;obtain⟨rfl,_,rfl⟩:=he;have Dk:=Ab (cZ f x q);have EY:=Aa H1 _ (kV q);rw[N]at Dk EY;rw[Aa H]at Dk;simp only[KL]at Dk EY;cases hnm:(I.name.toList==x.toList)with
   |false=>
    have W:p7 ((a.take (k+1)).foldl (KL f x) 0=n):=by
     have h:=Aa Dk;rw[hnm]at h;exact h
    clear Dk H;go_wp2
    go_loopg [7,9] 1 (λgj o i Q=>o=X J n/\i=X J 0/\wr=Q)
    case atStart=>exact⟨rfl,rfl,rfl⟩
    case round=>
     obtain⟨rfl,rfl,rfl⟩:=hrel;go_wp2
     go_roundg (Z a-(k+1))
     case measure=>have:=Aa HG;omega
     case rel=>exact⟨k+1,n,rfl,by go_num,by omega,rfl,W,C⟩
   |true=>
    have W:p7 ((a.take (k+1)).foldl (KL f x) 0=Jj f n b):=by
     have h:=Aa Dk;rw[hnm]at h;exact h
    clear Dk H;have H2:p7 (∀p,Ac [] w p->p8 p ⟨g,k*5,Y⟩=V (O I.name)/\p8 p ⟨g,k*5+3,Y⟩=V (U FC (Z b) EX)/\p8 p ⟨L,0,Y⟩=V (U (V ⟨g,0,Y⟩) (Z a) T)/\Xg p ⟨I,U H4 (Z I.args) HO,U FC (Z b) EX,b,a5⟩):=by
     intro p Ha;have A2:=AT.kept Ha;obtain⟨g',H8,BA,_,DT⟩:=AC A2.row (λc _=>B1 c) k q;simp only[kS,ld,lW]at BA;obtain⟨⟨rfl,_,_⟩,_,_⟩:=BA;have u:=DT k q 0 (by omega);have v:=DT k q 3 (by omega);have z4:=A2.each _ (kV q);rw[N]at u v z4;simp[Ce]at u v;have pz:=(HP.kept Ha).cell 0;exact⟨u,v,by simpa using pz,z4⟩
    go_wp2;clear H3 N d0 d1 d2 d3 p0
    go_loopg [7,9] (Z b) (λgj o i Q=>∃(m j:Nat),o=X J j/\i=X J m/\m<=Z b/\gj=Z b-m/\p7 (Jj f n (b.take m)=j)/\p7 (Ac [] w Q))
    case atStart=>exact⟨0,n,rfl,rfl,by omega,rfl,by show _=_;simp[Jj],C⟩
    case round=>
     obtain⟨m,j,rfl,rfl,hm,BS,M,AO⟩:=hrel;have F:=Ab BS;clear BS;obtain⟨u,v,zp,S⟩:=H2 _ AO;by_cases EK:m<Z b
     .obtain⟨gb,IA,y,HC,EM,E0,BT,H0,e0,e1,e2,e3,e4,e5,e6,e7,e8⟩:=Y2 S.body S.lits m EK;simp only[kS]at E0;obtain⟨rfl,_,rfl⟩:=E0;have Ax:=Ab (bc f n EK);rw[Aa M,BT]at Ax;have HU:=Aa CL y.A.name;have t:=Ab (AO.alloc (j3 (ml (Cj y (U HC (Z y.A.args) EM))) 95));have P:=Ab (pP wr (Cj y (U HC (Z y.A.args) EM)) 95);have r:=Ab (Bx y.A.name _ t);clear BT H0 S M;simp only[Cj]at t P r;have s:p7 (Jj f n (b.take (m+1))=max j (if y.kind==97 then f y.A.name else if y.kind==33 then f y.A.name+1 else 0)):=Ax;clear Ax;generalize f y.A.name=fy at r HU s;have ES:((y.kind.toNat:Int)==97)=(y.kind==97):=Cq _ 97;have AH:((y.kind.toNat:Int)==33)=(y.kind==33):=Cq _ 33;cases hk97:(y.kind==97)with
      |true=>
       (have B:p7 (Jj f n (b.take (m+1))=max j fy):=by have h:=Aa s;rw[hk97]at h;exact h);rw[hk97]at ES;clear s hk97 AH;(go_wp2_with fail);refine r.mono ?_;rintro e w5 ⟨rfl,D⟩;have E:=Ab (t.trans D);clear r t P D u v zp e0 e1 e2 e3 e4 e5 e6 e7 e8;by_cases HW:j<fy
       ·(have G:(j:Int)<(fy:Int):=by omega);(have l:p7 (Jj f n (b.take (m+1))=fy):=by show _=_;rw[Aa B];omega);go_wp2
        go_roundg (Z b-(m+1))
        case measure=>have:=Aa F;omega
        case rel=>exact⟨m+1,fy,rfl,by go_num,by omega,rfl,l,E⟩
       ·(have G:¬(j:Int)<(fy:Int):=by omega);(have l:p7 (Jj f n (b.take (m+1))=j):=by show _=_;rw[Aa B];omega);go_wp2
        go_roundg (Z b-(m+1))
        case measure=>have:=Aa F;omega
        case rel=>exact⟨m+1,j,rfl,by go_num,by omega,rfl,l,E⟩
      |false=>
       rw[hk97]at ES;cases hk33:(y.kind==33)with
       |true=>
        (have B:p7 (Jj f n (b.take (m+1))=max j (fy+1)):=by have h:=Aa s;rw[hk97,hk33]at h;exact h);rw[hk33]at AH;clear s hk97 hk33;(go_wp2_with fail);refine r.mono ?_;rintro e w5 ⟨rfl,D⟩;have E:=Ab (t.trans D);clear r t P D u v zp e0 e1 e2 e3 e4 e5 e6 e7 e8;by_cases HW:j<fy+1
        ·(have G:(j:Int)<(fy:Int)+1:=by omega);(have l:p7 (Jj f n (b.take (m+1))=fy+1):=by show _=_;rw[Aa B];omega);go_wp2
         go_roundg (Z b-(m+1))
         case measure=>have:=Aa F;omega
         case rel=>exact⟨m+1,fy+1,by go_num,by go_num,by omega,rfl,l,E⟩
        ·(have G:¬(j:Int)<(fy:Int)+1:=by omega);(have l:p7 (Jj f n (b.take (m+1))=j):=by show _=_;rw[Aa B];omega);go_wp2
         go_roundg (Z b-(m+1))
         case measure=>have:=Aa F;omega
         case rel=>exact⟨m+1,j,rfl,by go_num,by omega,rfl,l,E⟩
       |false=>
        (have l:p7 (Jj f n (b.take (m+1))=j):=by have h:=Aa s;rw[hk97,hk33]at h;show _=_;rw[h];simp);rw[hk33]at AH;clear s hk97 hk33 r;(have G:¬(j:Int)<0:=by omega);go_wp2
        go_roundg (Z b-(m+1))
        case measure=>have:=Aa F;omega
        case rel=>exact⟨m+1,j,rfl,by go_num,by omega,rfl,l,t⟩
     .have l:p7 ((a.take (k+1)).foldl (KL f x) 0=j):=by
       have h:=Aa M;rw[kX (by omega)]at h;show _=_;rw[Aa W,h]
      clear M;go_wp2
      go_roundg (Z a-(k+1))
      case measure=>have:=Aa HG;omega
      case rel=>exact⟨k+1,j,rfl,by go_num,by omega,rfl,l,AO⟩
  .have HE:p7 (n=R):=by
    have h:=Aa H;rw[kX (by omega),Aa HZ]at h;exact h.symm
   go_wp2;go_ret;rw[<-Aa HE];exact⟨rfl,C⟩
def dg(i:Nat)(h:Option Addr)(g:Nat)(a:pM A4)(k:Z a<=1000)(m:∀c∈a,Z c.bl<=1000)(d:Nat):
  ∀(x:zA) (w:py),AF w i [U h (Z a) g] 76->Cl w (U h (Z a) g) a->d<=100->
  Calls prog 190 #[m2 (V ⟨i,0,Y⟩),O x,X J d] w λe n=>e=oa (X J (B5 a d x))/\Ac [] w n:=by
 induction d with
 |zero=>exact λx w b f _=>YC i h g a k x w b f
 |succ d ih=>exact λx w b f l=>Zf i h g a k m d x w b f l (λy o j=>ih y o (b.kept j) (f.kept j) (by omega))
def fJ(e:pM zA)(v:Nat)(s:zA):zA:=if v=0 then s else e.getD (v-65) pF
theorem QS(b E:Nat)(e:pM zA)(v:Nat)(s:zA)(w:py)(F:Z e=26)(o:AF w b (Aj e) E)(p:v=0\/(65<=v/\v<=90)):
  Calls prog 180 #[m2 (V ⟨b,0,Y⟩),pC [Value.int .i32 v,O s].toArray] w λr f=>r=oa (O (fJ e v s))/\Ac [] w f:=by
 have x:=o.lt;have I:Z (Aj e)=26:=by unfold Aj;simp[F]
 have q:p7 (∀i (h:i<26),(Aj e)[i]?=V (O (e.getD i pF))):=by
  intro i h;unfold Aj;rw[mA,lq,lc (by omega)];rfl
 obtain⟨R,n⟩:=pN (fJ e v s);rw[n];have m:p7 ((if v=0 then s else e.getD (v-65) pF)=R):=n;have k:=Ab ((pO [] w).alloc (j3 [.int .i32 v,O s].toArray 215));have g:=Ab (o.alloc (j3 [.int .i32 v,O s].toArray 215));clear n;by_cases a:v=0
 .have c:p7 (s=R):=by have h:=Aa m;rw[ln a]at h;exact h
  subst a;go_enter func180,ntmps180;go_wp2;go_ret;rw[<-Aa c];exact⟨rfl,k⟩
 .have c:p7 (e.getD (v-65) pF=R):=by have h:=Aa m;rw[li a]at h;exact h
  have C:65<=v/\v<=90:=by
   rcases p with h|h
   .exact absurd h a
   .exact h
  have z:((v:Int)==0)=K:=by rw[lQ];omega
  obtain⟨j,t⟩:=pN (v-65);have A:v=j+65:=by omega
  rw[t]at c;have y:j<26:=by omega
  subst A;have B:(((j+65:Nat)):Int)=(j:Int)+65:=by omega
  rw[B]at k g z⊢;have l:=g.cell j;rw[Aa q j y]at l;generalize e.getD j pF=X at c l;have d:=pP w [.int .i32 ((j:Int)+65),O s] 215;clear m t C p a o q;have M:(0:Int)<=(j:Int):=by omega
  have H:(j:Int)<26:=by omega
  have D:IntKind.i32.wrap (j:Int)=j:=by rw[IntKind.wrap_i32];omega
  have G:IntKind.i32.wrap ((j:Int)+65-65)=j:=by rw[show(j:Int)+65-65=j by omega];exact D
  go_enter func180,ntmps180;go_wp2;change Code.wp _ _ _ _ (w.alloc (j3 [.int .i32 ((j:Int)+65),O s].toArray 215));generalize w.alloc (j3 [.int .i32 ((j:Int)+65),O s].toArray 215)=w1 at k g d l⊢;generalize w.heap.size=N at d x⊢;have u:=d.cell 0;simp at u;have L:=Ab d;clear d g
  go_region_held3 (λf=>p8 f ⟨b,j,Y⟩=V (O X)/\p8 f ⟨N,0,Y⟩=V (.int .i32 ((j:Int)+65))) (go_keep) (fail)
  go_wp2;all_goals
   go_ret;rw[<-Aa c];refine⟨rfl,?_⟩
   repeat (first|exact k|refine Ac.drew ?_|refine Ac.alloc ?_ _|refine Ac.drewN ?_ _)
def Oa{l:pM AK}(h:p9 w n 93 2 z (Z l) (l.flatMap AV))(k:Nat)(a:k<Z l):
  ∃g b,z=U (V ⟨g,0,Y⟩) (Z l) b/\p8 w ⟨g,k*2,Y⟩=V (X .u8 l[k].v.toNat)/\p8 w ⟨g,k*2+1,Y⟩=V (O l[k].s):=by
 obtain⟨g,b,i,_,f⟩:=AC h (λc _=>FD c) k a;have d:=f k a 0 (by omega);have e:=f k a 1 (by omega);simp[AV]at d e;exact⟨g,b,i,d,e⟩
structure WL(w:py)(N:Nat)(E:pM p5)(nm:zA)(av:p5)(j:Nat)(ts:pM AK)(fv:p5):Prop where
 b0:AF w N E 90
 b1:AF w (N+1) [O nm,av,X J j] 79
 b2:AF w (N+1+1) [O ⟨#[]⟩,U Y 0 0] 43
 b3:AF w (N+1+1+1) [O nm,fv] 43
 row:p9 w 0 93 2 av (Z ts) (ts.flatMap AV)
 low:∀q,av.ownBlock=V q->q<N
def WL.kept{w w':py}{N:Nat}{E:pM p5}{d:zA}{c:p5}{j:Nat}{b:pM AK}{a:p5}(h:WL w N E d c j b a)(k:Ac [] w w'):WL w' N E d c j b a:=
 ⟨h.b0.kept k,h.b1.kept k,h.b2.kept k,h.b3.kept k,Ad h.row k,h.low⟩
def WL.grown{w d:py}{N:Nat}{E:pM p5}{c:zA}{b:p5}{j:Nat}{f:pM AK}{g:p5}{r:Option Nat}(h:WL w N E c b j f g)(k:w.grownBy d r)(a:∀q,r=V q->N+1+1+1+1<=q):WL d N E c b j f g:=
 ⟨h.b0.grown k (λe=>by have:=a _ e;omega),h.b1.grown k (λe=>by have:=a _ e;omega),h.b2.grown k (λe=>by have:=a _ e;omega),h.b3.grown k (λe=>by have:=a _ e;omega),
  mI (v:=b) h.row k (by
   cases hv:b.ownBlock with
   |none=>exact oi rfl
   |some q=>exact oj (λe=>by have:=h.low q hv;have:=a q e.symm;omega)),h.low⟩
theorem LW(e:pM zA)(A:Dg)(u:Option Addr)(c:Nat)(w:py)(he:Z e=26)(hA:p9 w 0 93 2 (U u (Z A.args) c) (Z A.args) (A.args.flatMap AV))(HT:Z A.args<=1000)(hg:∀t∈A.args,t.v=0\/(65<=t.v.toNat/\t.v.toNat<=90)):
  Calls prog 48 #[pC (ml (Aj e)),pC (ml (Cy A.name (U u (Z A.args) c) A.at_))] w λr w'=>∃x y,r=oa (pC (ml (Be ⟨Aq e A,U x (Z A.args) y⟩)))/\Dx w' ⟨Aq e A,U x (Z A.args) y⟩/\(∀q,(U x (Z A.args) y).ownBlock=V q->w.heap.size<=q)/\Ac [] w w':=by
 obtain⟨i0,Ix,HZ,IA,H5⟩:=mg Tryz.zo;obtain⟨b,a,j⟩:=A;simp only at hA HT hg⊢;have HV:p7 (∀t wr,t∈a->Calls prog 89 #[pC (ml (Aj e)),pC (ml (AV t))] wr λr w'=>r=oa (O (AI e t))/\Ac [] wr w'):=λt wr ht=>LK e t wr he (hg t ht)
 have HF:p7 (∀x y wr,p9 wr 0 9 1 (U x (Z a) y) (Z a) ((a.map (AI e)).flatMap Ah)->Dx wr ⟨Aq e ⟨b,a,j⟩,U x (Z a) y⟩):=by
  intro x y wr h;show p9 wr 0 9 1 _ (Z (a.map (AI e))) _;rw[lm];exact h
 have EX:p7 (∀x y,Be ⟨Aq e ⟨b,a,j⟩,U x (Z a) y⟩=[O b,U x (Z a) y]):=λx y=>rfl
 generalize Aq e ⟨b,a,j⟩=FP at HF EX⊢;have hc:=Bp e;have hl:Z (Aj e)=26:=by unfold Aj;simp[he]
 generalize Aj e=E at hc hl HV⊢;have z:=Ab (((pO [] w).alloc (j3 (ml E) 90)).alloc (j3 (ml (Cy b (U u (Z a) c) j)) 79));have HB:=Ab ((pP w E 90).alloc (j3 (ml (Cy b (U u (Z a) c) j)) 79));have HA:=Ab hA;simp only[Cy]at z HB⊢;clear hA hg;go_enter func48,ntmps48;go_wp2_with fail
 obtain⟨N,W⟩:=pN w.heap.size;have FB:WL ((((w.alloc (j3 (ml E) 90)).alloc (j3 #[O b,U u (Z a) c,X J ↑j] 79)).alloc (j3 #[O {data:=#[]},U Y 0 0] 43)).alloc (j3 #[O b,U Y 0 0] 43)) N E b (U u (Z a) c) j a (U Y 0 0):=by
  have b1:=pP (w.alloc (j3 (ml E) 90)) [O b,U u (Z a) c,X J j] 79;have b2:=pP ((w.alloc (j3 (ml E) 90)).alloc (j3 #[O b,U u (Z a) c,X J ↑j] 79)) [O ⟨#[]⟩,U Y 0 0] 43;have b3:=pP (((w.alloc (j3 (ml E) 90)).alloc (j3 #[O b,U u (Z a) c,X J ↑j] 79)).alloc (j3 #[O {data:=#[]},U Y 0 0] 43)) [O b,U Y 0 0] 43;simp only[lT,W]at b1 b2 b3;have b0:=Aa HB;rw[W]at b0;exact⟨(b0.alloc _).alloc _,(b1.alloc _).alloc _,b2.alloc _,b3,Ad HA (z.alloc _|>.alloc _),λq D=>by have:=(HA.lt q D).2;omega⟩
 have A2:=Ab FB;have B2:=Ab ((z.alloc (j3 #[O {data:=#[]},U Y 0 0] 43)).alloc (j3 #[O b,U Y 0 0] 43));rw[W];have S:=Ab W;clear FB z HB HA W;change Code.wp _ _ _ _ ((((w.alloc (j3 (ml E) 90)).alloc (j3 #[O b,U u (Z a) c,X J ↑j] 79)).alloc (j3 #[O {data:=#[]},U Y 0 0] 43)).alloc (j3 #[O b,U Y 0 0] 43));generalize((((w.alloc (j3 (ml E) 90)).alloc (j3 #[O b,U u (Z a) c,X J ↑j] 79)).alloc (j3 #[O {data:=#[]},U Y 0 0] 43)).alloc (j3 #[O b,U Y 0 0] 43))=w1 at A2 B2⊢
 go_loopg [6] (Z a) (λgk i wr=>∃(k:Nat) (f:Option Addr) (d:Nat),i=X J k/\k<=Z a/\gk=Z a-k/\p7 (WL wr N E b (U u (Z a) c) j a (U f k d))/\p7 (p9 wr (N+1+1+1+1) 9 1 (U f k d) k (((a.take k).map (AI e)).flatMap Ah))/\p7 (Ac [] w wr))
 case atStart=>exact⟨0,Y,0,rfl,by omega,rfl,A2,lH _ _ _ _,B2⟩
 case round=>
  clear A2 B2;obtain⟨k,f,d,rfl,hk,HL,o,Q,z⟩:=hrel;have HG:=Ab HL;clear HL;have HI:=o.b1.cell 1;simp at HI;by_cases AB:k<Z a
  .obtain⟨g,F,HD,d0,d1⟩:=Oa o.row k AB;simp only[kS]at HD;obtain⟨rfl,_,rfl⟩:=HD;obtain⟨T,P⟩:=pN (a[k]);(have HU:p7 (T∈a):=by show _∈_;rw[<-P];exact kV AB);have HY:p7 (a[k]=T):=P;rw[P]at d0 d1;(have KK:(0:Int)<=(k:Int):=by omega);(have JJ:(k:Int)<(Z a:Int):=by omega);have L:p7 (∀l,WL l N E b (U (V ⟨g,0,Y⟩) (Z a) c) j a (U f k d)->l.rangeAt N 0 E/\p8 l ⟨N+1+1+1,1,Y⟩=V (U f k d)/\p8 l ⟨N+1,1,Y⟩=V (U (V ⟨g,0,Y⟩) (Z a) c)/\p8 l ⟨g,k*2,Y⟩=V (X .u8 T.v.toNat)/\p8 l ⟨g,k*2+1,Y⟩=V (O T.s)):=by
    intro l H;obtain⟨g',KB,EY,f0,f1⟩:=Oa H.row k AB;simp only[kS,ld,lW]at EY;obtain⟨⟨rfl,_,_⟩,_,_⟩:=EY;rw[P]at f0 f1;have x3:=H.b3.cell 1;have x1:=H.b1.cell 1;simp at x1 x3;exact⟨H.b0.range,x3,x1,f0,f1⟩
   clear P;have B:=Ab (L wr.drew (o.kept (pO [] wr).drew));(go_wp2_with fail);refine CH 12 (λl=>l.rangeAt N 0 E/\p8 l ⟨N+1+1+1,1,Y⟩=V (U f k d)/\p8 l ⟨N+1,1,Y⟩=V (U (V ⟨g,0,Y⟩) (Z a) c)/\p8 l ⟨g,k*2,Y⟩=V (X .u8 T.v.toNat)/\p8 l ⟨g,k*2+1,Y⟩=V (O T.s)) (by kernel_rfl) ?_;refine CF.tq (i:=0) (v:=m2 (V ⟨N+1+1+1,1,Y⟩)) rfl (λ_ _ _ h=>h) B ?_;simp only[pJ,kR,kT,kU];refine CF.tq (i:=1) (v:=U f k d) rfl (λ_ _ _ h=>h) B ?_;simp only[pJ,kR,kT,kU];refine CF.take (i:=2) (v:=pC (ml E)) rfl (by kernel_rfl) (by kernel_rfl) (by kernel_rfl) (by kernel_rfl) (λ_ _ _ h=>h) B (yieldsIf_load_mid (by rfl) 90 _ rfl N 0 (by rfl) E _ (λl H=>H.1) underlying90 rfl (by rw[hl];exact Tryz.zF)) ?_;simp only[pJ,kR,kT,kU];refine CF.tq (i:=3) (v:=m2 (V ⟨N+1,1,Y⟩)) rfl (λ_ _ _ h=>h) B ?_;simp only[pJ,kR,kT,kU];refine CF.tq (i:=4) (v:=U (V ⟨g,0,Y⟩) (Z a) c) rfl (λ_ _ _ h=>h) B ?_;simp only[pJ,kR,kT,kU];refine CF.tq (i:=5) (v:=X J k) rfl (λ_ _ _ h=>h) B ?_;simp only[pJ,kR,kT,kU];refine CF.tq (i:=6) (v:=m2 (V ⟨g,k*2,Y⟩)) rfl (λ_ _ _ h=>h) B ?_;simp only[pJ,kR,kT,kU];refine CF.tk (i:=7) (v:=pC (ml (AV T))) rfl (by kernel_rfl) (λ_ _ _ h=>h) B (by rfl) ?_ ?_
   ·(intro l KA;simp only[AV];go_simp)
   simp only[pJ,kR,kT,kU];refine CF.one (i:=8) (by kernel_rfl) rfl (λC m=>?_)
   go_simp
   obtain⟨M,hV⟩:=pN (AI e T);have BA:=Ab (HV T wr.drew HU);rw[hV]at BA;have H9:=Ab hV;clear hV;refine BA.mono ?_;rintro _ I ⟨rfl,R⟩;have Ax:=o.kept ((pO [] wr).drew.trans R);refine m.out _ _ (λ_=>L I Ax) ?_;clear m C BA
   try simp only[pJ,kR,kT,kU]
   refine CF.one (i:=9) (by kernel_rfl) rfl (λC m=>?_)
   go_simp
   have B9:=Ax.kept ((pO [] I).alloc (j3 #[O M] 9));refine m.out _ _ (λ_=>L _ B9) ?_;clear m C
   try simp only[pJ,kR,kT,kU]
   have AO:=Ad Q ((pO [] wr).drew.trans R);have IS:=R.size;(have JA:N+1+1+1+1<=I.heap.size:=by have:=Ax.b3.lt;omega);refine CF.one (i:=10) (by kernel_rfl) rfl (λC m=>?_);refine oC _ (by rfl) _ _ _ (by rfl) (N+1+1+1+1) 9 i0 _ 1 16 underlying41 Ix HZ IA H5 rfl (by omega) (U f k d) k (((a.take k).map (AI e)).flatMap Ah) (by rfl) (lg AO _)
         ⟨I.heap.size,0,Y⟩ 1 1 [O M] (by rfl) (by rfl) (lI (lP I _)) (by simp[Value.oneCell'])
         (by omega) (by unfold maxLen;omega) (by omega) (by simp;omega) (I.heap.size+1) (by simp) ?_
   intro G F w5 B0 BT H6 H7;have n:=B9.grown BT (λq D=>(AO.lt q D).1);refine m.out _ _ (λ_=>L _ n) ?_;clear m C
   try simp only[pJ,kR,kT,kU]
   refine CF.one (i:=11) (by kernel_rfl) rfl (λC m=>?_)
   go_simp
   refine m.out _ _ (λ_=>L _ n) ?_;clear m C
   try simp only[pJ,kR,kT,kU]
   have y1:=n.b3.cell 1;have yf:=n.b3.frozen 1;simp at y1;refine CF.one (i:=12) (by kernel_rfl) rfl (λC m=>?_)
   go_simp
   refine m.out _ _ (λh=>absurd rfl h) ?_;clear m C;refine CF.done (by kernel_rfl) ?_ _
   try simp only[pJ,kR,kT,kU]
   have Ha:p7 (WL (w5.setCell ⟨N+1+1+1,1,Y⟩ (U (V ⟨G,0,Y⟩) (k+1) F)) N E b (U (V ⟨g,0,Y⟩) (Z a) c) j a (U (V ⟨G,0,Y⟩) (k+1) F)):=
    ⟨n.b0.zB _ (show N+1+1+1≠N by omega) _,n.b1.zB _ (show N+1+1+1≠N+1 by omega) _,n.b2.zB _ (show N+1+1+1≠N+1+1 by omega) _,n.b3.set 1 _,Ag n.row (λh=>by have:=n.low _ h;simp at this;omega) _,n.low⟩
   have FW:p7 (p9 (w5.setCell ⟨N+1+1+1,1,Y⟩ (U (V ⟨G,0,Y⟩) (k+1) F)) (N+1+1+1+1) 9 1 (U (V ⟨G,0,Y⟩) (k+1) F) (k+1) (((a.take (k+1)).map (AI e)).flatMap Ah)):=by
    have h:=Ag B0 (p:=⟨N+1+1+1,1,Y⟩) (λh=>by have:=(B0.lt _ h).1;simp at this;omega) (U (V ⟨G,0,Y⟩) (k+1) F);rw[kW AB,lV,lM,Aa HY];simp only[lE,m8,lF,mx,lU,Aa H9,Ah];exact h
   have HJ:=Ab (((z.drew.trans R).alloc (j3 #[O M] 9)).grown BT (λq D=>oj (by have:=(AO.lt q D).1;have:=Aa S;omega))|>.setCell (p:=⟨N+1+1+1,1,Y⟩) (oj (by have:=Aa S;simp;omega)) (U (V ⟨G,0,Y⟩) (k+1) F));clear B0 BT H6 H7 n B9 Ax AO R B L o Q z y1 yf d0 d1 HI;generalize w5.setCell ⟨N+1+1+1,1,Y⟩ (U (V ⟨G,0,Y⟩) (k+1) F)=w6 at Ha FW HJ⊢;go_wp2
   go_roundg (Z a-(k+1))
   case measure=>have:=Aa HG;omega
   case rel=>exact⟨k+1,V ⟨G,0,Y⟩,F,by go_num,by omega,rfl,Ha,FW,HJ⟩
  ·(have H1:k=Z a:=by omega);have x0:=o.b3.cell 0;have x1:=o.b3.cell 1;have y0:=o.b2.cell 0;have y1:=o.b2.cell 1;have yf:=o.b2.frozen;simp at x0 x1 y0 y1;have H3:p7 (AF ((wr.setCell ⟨N+1+1,0,Y⟩ (O b)).setCell ⟨N+1+1,1,Y⟩ (U f k d)) (N+1+1) [O b,U f k d] 43):=(o.b2.set 0 _).set 1 _;have HQ:p7 (p9 ((wr.setCell ⟨N+1+1,0,Y⟩ (O b)).setCell ⟨N+1+1,1,Y⟩ (U f k d)) 0 9 1 (U f k d) k ((a.map (AI e)).flatMap Ah)):=by
    have h:=Aa Q;rw[kX (by omega)]at h;(have hb:∀q,(U f k d).ownBlock=V q->q≠N+1+1:=λq D=>by have:=(h.lt q D).1;omega);exact Am (Ag (Ag h (λh=>hb _ h rfl) _) (λh=>hb _ h rfl) _) (by omega)
   (have IJ:p7 (∀q,(U f k d).ownBlock=V q->w.heap.size<=q):=λq D=>by have:=(Q.lt q D).1;have:=Aa S;omega);have H0:=Ab ((z.setCell (p:=⟨N+1+1,0,Y⟩) (oj (by have:=Aa S;simp;omega)) (O b)).setCell (p:=⟨N+1+1,1,Y⟩) (oj (by have:=Aa S;simp;omega)) (U f k d));clear o Q z;go_wp2;subst H1;refine lL (Ca rfl rfl H3 underlying43 rfl (by kernel_rfl)) rfl ⟨f,d,?_,HF f d _ HQ,IJ,H0⟩;rw[Aa EX]
def bB(e:pM zA)(A:Dg)(d:Option Addr)(f:Nat)(w:py)(g:Z e=26)(h:p9 w 0 93 2 (U d (Z A.args) f) (Z A.args) (A.args.flatMap AV))(j:Z A.args<=1000)(i:∀t∈A.args,t.v=0\/(65<=t.v.toNat/\t.v.toNat<=90)):
  Calls prog 48 #[pC (ml (Aj e)),pC (ml (Cy A.name (U d (Z A.args) f) A.at_))] w λr c=>∃b a,r=oa (pC (ml (Be ⟨Aq e A,U b (Z A.args) a⟩)))/\Dx c ⟨Aq e A,U b (Z A.args) a⟩/\Ac [] w c:=
 (LW e A d f w g h j i).mono λr c ⟨b,a,h1,h2,_,h4⟩=>⟨b,a,h1,h2,h4⟩
def Ci(e:pM zA):Z (Aj e)=Z e:=by unfold Aj;simp
def XJ(e:pM zA)(j:Nat)(x:zA):Aj (e.set j x)=(Aj e).set j (O x):=by unfold Aj;rw[px]
def Gh(e:pM zA):∀v∈Aj e,v.oneCell'=jj:=λv a=>by
 unfold Aj at a;obtain⟨x,_,rfl⟩:=lk.1 a;rfl
structure Va(w:py)(N:Nat)(E:pM p5)(nm:zA)(av:p5)(j:Nat)(ts:pM AK)(fn:zA)(fv:p5)(xs:pM zA):Prop where
 b0:AF w N E 90
 b1:AF w (N+1) [O nm,av,X J j] 79
 b2:AF w (N+1+1) [O fn,fv] 43
 b3:AF w (N+1+1+1) (pG 26 (O ⟨#[]⟩)) 90
 row:p9 w 0 93 2 av (Z ts) (ts.flatMap AV)
 rof:p9 w 0 9 1 fv (Z xs) (xs.flatMap Ah)
 low:∀q,av.ownBlock=V q->q<N
 lof:∀q,fv.ownBlock=V q->q<N
def Va.kept{w w':py}{N:Nat}{E:pM p5}{a c:zA}{f e:p5}{j:Nat}{b:pM AK}{d:pM zA}(h:Va w N E a f j b c e d)(k:Ac [] w w'):Va w' N E a f j b c e d:=
 ⟨h.b0.kept k,h.b1.kept k,h.b2.kept k,h.b3.kept k,Ad h.row k,Ad h.rof k,h.low,h.lof⟩
def Va.set{w:py}{N:Nat}{E:pM p5}{a c:zA}{g f:p5}{j:Nat}{b:pM AK}{d:pM zA}(h:Va w N E a g j b c f d)(i:Nat)(u:p5):Va (w.setCell ⟨N,i,Y⟩ u) N (E.set i u) a g j b c f d:=
 ⟨h.b0.set i u,h.b1.zB _ (show N≠N+1 by omega) _,h.b2.zB _ (show N≠N+1+1 by omega) _,h.b3.zB _ (show N≠N+1+1+1 by omega) _,
  Ag h.row (λe=>by have:=h.low _ e;simp at this) _,Ag h.rof (λe=>by have:=h.lof _ e;simp at this) _,h.low,h.lof⟩
def Ht(h:AF w b (pG 26 (O ⟨#[]⟩)) 90)(a:Z y=26):w.there b 0 y.toArray.size:=by
 have:=h.there;rw[m9]at this;rw[mE,a];exact this
theorem Na(e:pM zA)(A:Dg)(D:Option Addr)(x:Nat)(p:Bv)(w:py)(he:Z e=26)(hA:p9 w 0 93 2 (U D (Z A.args) x) (Z A.args) (A.args.flatMap AV))(hP:Dx w p)(LC:Z A.args<=1000)(K9:Z p.f.args<=1000000)(hg:∀t∈A.args,BC t):
  Calls prog 87 #[pC (ml (Aj e)),pC (ml (Cy A.name (U D (Z A.args) x) A.at_)),pC (ml (Be p))] w λr w'=>r=oa (.tuple #[pC (ml (Aj (B3 e A p.f).1)),pE (B3 e A p.f).2])/\Ac [] w w':=by
 obtain⟨d,a,j⟩:=A;obtain⟨⟨m,b⟩,pv⟩:=p;obtain⟨G,y,K3⟩:=Ak hP;simp only at K3;subst K3;simp only at hA LC hg K9⊢;obtain⟨R,hR⟩:=pN (B3 e ⟨d,a,j⟩ ⟨m,b⟩);have HR:p7 ((if(d.toList==m.toList)&&(Z a==Z b)then Dd e a b else(e,K))=R):=hR;rw[hR];have HV:p7 (∀e' t wr,Z e'=26->t∈a->Calls prog 89 #[pC (ml (Aj e')),pC (ml (AV t))] wr λr w'=>r=oa (O (AI e' t))/\Ac [] wr w'):=λe' t wr AT ht=>LK e' t wr AT (by rcases hg t ht with h|h;exact oi h.1;exact oj h)
 have Nj:=Ab hg;have hc:=Bp e;have hl:Z (Aj e)=26:=by rw[Ci,he]
 have n:=Ab hl;have HO:p7 (∀v∈Aj e,v.oneCell'=jj):=Gh e;have c:p7 (Va ((((w.alloc (j3 (ml (Aj e)) 90)).alloc (j3 [O d,U D (Z a) x,X J j].toArray 79)).alloc (j3 [O m,U G (Z b) y].toArray 43)).alloc (j3 (ml (pG 26 (O ⟨#[]⟩))) 90)) w.heap.size (Aj e) d (U D (Z a) x) j a m (U G (Z b) y) b):=by
  have b0:=pP w (Aj e) 90;have b1:=pP (w.alloc (j3 (ml (Aj e)) 90)) [O d,U D (Z a) x,X J j] 79;have b2:=pP ((w.alloc (j3 (ml (Aj e)) 90)).alloc (j3 [O d,U D (Z a) x,X J j].toArray 79)) [O m,U G (Z b) y] 43;have b3:=pP (((w.alloc (j3 (ml (Aj e)) 90)).alloc (j3 [O d,U D (Z a) x,X J j].toArray 79)).alloc (j3 [O m,U G (Z b) y].toArray 43)) (pG 26 (O ⟨#[]⟩)) 90;simp only[lT]at b1 b2 b3;have hk:=((((pO [] w).alloc (j3 (ml (Aj e)) 90)).alloc (j3 [O d,U D (Z a) x,X J j].toArray 79)).alloc (j3 [O m,U G (Z b) y].toArray 43)).alloc (j3 (ml (pG 26 (O ⟨#[]⟩))) 90);exact⟨((b0.alloc _).alloc _).alloc _,(b1.alloc _).alloc _,b2.alloc _,b3,Ad hA hk,Ad hP hk,λq hq=>(hA.lt q hq).2,λq hq=>(World.ownsRow.lt hP q hq).2⟩
 have I:=Ab (((((pO [] w).alloc (j3 (ml (Aj e)) 90)).alloc (j3 [O d,U D (Z a) x,X J j].toArray 79)).alloc (j3 [O m,U G (Z b) y].toArray 43)).alloc (j3 (ml (pG 26 (O ⟨#[]⟩))) 90));simp only[Cy,Be];clear hR hA hP hg;obtain⟨E,hE⟩:=pN (Aj e);rw[hE]at hc hl n HO c I⊢;have HJ:=Ab hE;clear hE;obtain⟨C,hC⟩:=pN ((d.toList==m.toList)&&(Z a==Z b));rw[hC]at HR;cases C with
 |false=>
  have P:p7 (Aj R.1=E/\R.2=K):=by rw[<-Aa HR,<-Aa HJ];exact⟨rfl,rfl⟩
  have HC:p7 (((d.toList==m.toList)&&(Z a==Z b))=K):=hC;clear hC HR;cases hn:(d.toList==m.toList)with
  |false=>
   (have K4:(d.toList !=m.toList)=jj:=by simp[bne,hn]);clear HC;go_enter func87,ntmps87;apply wp_seq_k;intro KK AO;have AB:=Ab AO;clear AO;go_wp2;refine AB _ _ ?_;clear AB KK;change Code.wp _ _ _ _ ((((w.alloc (j3 (ml E) 90)).alloc (j3 [O d,U D (Z a) x,X J j].toArray 79)).alloc (j3 [O m,U G (Z b) y].toArray 43)).alloc (j3 (ml (pG 26 (O ⟨#[]⟩))) 90));generalize((((w.alloc (j3 (ml E) 90)).alloc (j3 [O d,U D (Z a) x,X J j].toArray 79)).alloc (j3 [O m,U G (Z b) y].toArray 43)).alloc (j3 (ml (pG 26 (O ⟨#[]⟩))) 90))=w1 at c I⊢;obtain⟨N,M⟩:=pN w.heap.size;rw[M]at c⊢;have HN:=Ab M;clear M;have c0:=c.b1.cell 0;have c2:=c.b2.cell 0;have W:=c.b1.cell 1;have c3:=c.b2.cell 1;simp at c0 c2 W c3;go_wp2_with (first|((with_reducible show wpList _ _ _ ({dst:=_,op:=Op.load 90 _,type:=_,pos:=_,after:=_,guard:=_}::_) _ _);refine m5 rfl 90 _ rfl N 0 (by rfl) E _ c.b0.range underlying90 rfl (by rw[Aa n];exact Tryz.zF) ?_)|((with_reducible show wpList _ _ _ ({dst:=_,op:=Op.store 90 _ _,type:=_,pos:=_,after:=_,guard:=_}::_) _ _);refine nj rfl 90 _ _ rfl (N+1+1+1) 0 (ml E) (by rfl) (by rfl) (Ht c.b3 n) (by rw[mE,Aa n];exact Tryz.zF) (mL HO) ?_))
   refine lL (Av rfl (by rfl) (c.b3.zP E (by rw[Aa n];rfl)) underlying90 rfl (by rw[Aa n];exact Tryz.zF)) rfl ⟨?_,I.zI (oj (by have:=Aa HN;omega)) _ _⟩;rw[(Aa P).1,(Aa P).2];rfl
  |true=>
   (have K4:(d.toList !=m.toList)=K:=by simp[bne,hn]);have L0:¬Z a=Z b:=by
    have h:=Aa HC;rw[hn]at h;simpa using h
   (have M3:((Z a:Int) !=(Z b:Int))=jj:=by simp[bne];omega);(have M0:((Z a:Int)==(Z b:Int))=K:=by rw[lQ];omega);clear HC L0;go_enter func87,ntmps87;apply wp_seq_k;intro KK AO;have AB:=Ab AO;clear AO;go_wp2;refine AB _ _ ?_;clear AB KK;change Code.wp _ _ _ _ ((((w.alloc (j3 (ml E) 90)).alloc (j3 [O d,U D (Z a) x,X J j].toArray 79)).alloc (j3 [O m,U G (Z b) y].toArray 43)).alloc (j3 (ml (pG 26 (O ⟨#[]⟩))) 90));generalize((((w.alloc (j3 (ml E) 90)).alloc (j3 [O d,U D (Z a) x,X J j].toArray 79)).alloc (j3 [O m,U G (Z b) y].toArray 43)).alloc (j3 (ml (pG 26 (O ⟨#[]⟩))) 90))=w1 at c I⊢;obtain⟨N,M⟩:=pN w.heap.size;rw[M]at c⊢;have HN:=Ab M;clear M;have c0:=c.b1.cell 0;have c2:=c.b2.cell 0;have W:=c.b1.cell 1;have c3:=c.b2.cell 1;simp at c0 c2 W c3;go_wp2_with (first|((with_reducible show wpList _ _ _ ({dst:=_,op:=Op.load 90 _,type:=_,pos:=_,after:=_,guard:=_}::_) _ _);refine m5 rfl 90 _ rfl N 0 (by rfl) E _ c.b0.range underlying90 rfl (by rw[Aa n];exact Tryz.zF) ?_)|((with_reducible show wpList _ _ _ ({dst:=_,op:=Op.store 90 _ _,type:=_,pos:=_,after:=_,guard:=_}::_) _ _);refine nj rfl 90 _ _ rfl (N+1+1+1) 0 (ml E) (by rfl) (by rfl) (Ht c.b3 n) (by rw[mE,Aa n];exact Tryz.zF) (mL HO) ?_))
   refine lL (Av rfl (by rfl) (c.b3.zP E (by rw[Aa n];rfl)) underlying90 rfl (by rw[Aa n];exact Tryz.zF)) rfl ⟨?_,I.zI (oj (by have:=Aa HN;omega)) _ _⟩;rw[(Aa P).1,(Aa P).2];rfl
 |true=>
  have BS:(d.toList==m.toList)=jj/\Z a=Z b:=by simpa using hC
  have hn:=BS.1;have K4:(d.toList !=m.toList)=K:=by simp[bne,BS.1]
  have M3:((Z a:Int) !=(Z b:Int))=K:=by simp[BS.2]
  have M0:((Z a:Int)==(Z b:Int))=jj:=by simp[BS.2]
  have MN:=Ab BS.2;have H1:p7 (Dd e (a.drop 0) (b.drop 0)=R):=by have h:=Aa HR;rw[ln rfl]at h;exact h
  clear hC HR BS;go_enter func87,ntmps87;apply wp_seq_k;intro KK AO;have AB:=Ab AO;clear AO;go_wp2;refine AB _ _ ?_;clear AB KK;change Code.wp _ _ _ _ ((((w.alloc (j3 (ml E) 90)).alloc (j3 [O d,U D (Z a) x,X J j].toArray 79)).alloc (j3 [O m,U G (Z b) y].toArray 43)).alloc (j3 (ml (pG 26 (O ⟨#[]⟩))) 90));generalize((((w.alloc (j3 (ml E) 90)).alloc (j3 [O d,U D (Z a) x,X J j].toArray 79)).alloc (j3 [O m,U G (Z b) y].toArray 43)).alloc (j3 (ml (pG 26 (O ⟨#[]⟩))) 90))=w1 at c I⊢;obtain⟨N,M⟩:=pN w.heap.size;rw[M]at c⊢;have HN:=Ab M;clear M;have c0:=c.b1.cell 0;have c2:=c.b2.cell 0;have W:=c.b1.cell 1;have c3:=c.b2.cell 1;simp at c0 c2 W c3;clear n HO;go_wp2_with fail
  have LE:(prog.info? 90).map (·.size)=V 26:=Tryz.zF
  go_loopg [8] (Z a) (λgk i wr=>∃(k:Nat) (B:pM zA),i=X J k/\k<=Z a/\gk=Z a-k/\Z B=26/\p7 (Dd B (a.drop k) (b.drop k)=R)/\p7 (Va wr N (Aj B) d (U D (Z a) x) j a m (U G (Z b) y) b)/\p7 (Ac [] w wr))
  case atStart=>exact⟨0,e,rfl,by omega,rfl,he,H1,(by rw[Aa HJ];exact c),I⟩
  case round=>
   clear H1 c I c0 W c2 c3 hl hc HJ;obtain⟨k,B,rfl,hk,K1,FF,HM,Q,I⟩:=hrel;have HG:=Ab K1;clear K1 he;have W:=Q.b1.cell 1;have c3:=Q.b2.cell 1;simp at W c3;obtain⟨z,AH⟩:=pN (Aj B);(have B9:Z z=26:=by rw[<-AH,Ci,FF]);(have IJ:p7 (∀v∈z,v.oneCell'=jj):=by show∀v∈z,_;rw[<-AH];exact Gh B);rw[AH]at Q;by_cases EX:k<Z a
   ·(have HI:k<Z b:=by have:=Aa MN;omega);obtain⟨g,QR,KA,d0,d1⟩:=Oa Q.row k EX;simp only[kS]at KA;obtain⟨rfl,_,rfl⟩:=KA;obtain⟨S,RI,H9,f0⟩:=G0 Q.rof k HI;simp only[kS]at H9;obtain⟨rfl,_,rfl⟩:=H9;obtain⟨T,hT⟩:=pN (a[k]);obtain⟨F,hX⟩:=pN (b[k]);(have H5:p7 (T∈a):=by show _∈_;rw[<-hT];exact kV EX);have Dk:p7 (Dd B (T::a.drop (k+1)) (F::b.drop (k+1))=R):=by
     have h:=Aa HM;rw[lD EX,lD HI,hT,hX]at h;exact h
    have HS:p7 (∀o,Va o N z d (U (V ⟨g,0,Y⟩) (Z a) x) j a m (U (V ⟨S,0,Y⟩) (Z b) y) b->o.rangeAt N 0 z/\p8 o ⟨N+1,1,Y⟩=V (U (V ⟨g,0,Y⟩) (Z a) x)/\p8 o ⟨g,k*2,Y⟩=V (X .u8 T.v.toNat)/\p8 o ⟨g,k*2+1,Y⟩=V (O T.s)/\p8 o ⟨N+1+1,1,Y⟩=V (U (V ⟨S,0,Y⟩) (Z b) y)/\p8 o ⟨S,k,Y⟩=V (O F)):=by
     intro o hz;obtain⟨g',MB,AT,q0,q1⟩:=Oa hz.row k EX;simp only[kS,ld,lW]at AT;obtain⟨⟨rfl,_,_⟩,_,_⟩:=AT;obtain⟨g',MB,AT,q2⟩:=G0 hz.rof k HI;simp only[kS,ld,lW]at AT;obtain⟨⟨rfl,_,_⟩,_,_⟩:=AT;rw[hT]at q0 q1;rw[hX]at q2;have x1:=hz.b1.cell 1;have x2:=hz.b2.cell 1;simp at x1 x2;exact⟨hz.b0.range,x1,q0,q1,x2,q2⟩
    rw[hT]at d0 d1;rw[hX]at f0;clear hT hX HM;(have P0:(0:Int)<=(k:Int):=by omega);(have NV:(k:Int)<(Z a:Int):=by omega);(have NL:(k:Int)<(Z b:Int):=by omega);obtain⟨L,hV⟩:=pN (AI B T);have E0:=Ab (HV B T wr.drew FF H5);rw[hV,AH]at E0;have FP:=Ab hV;have HP:=Ab AH;clear hV AH;have hu:=underlying90;(have hi:(prog.info? 90).map (·.size)=V (Z z):=by rw[B9];exact LE);have e0:=Q.b0.range;have H8:=Ab (Q.kept (pO [] wr).drew);simp only[AV]at E0;go_wp2_with fail
    go_region_held3 (λo=>o.rangeAt N 0 z/\p8 o ⟨N+1,1,Y⟩=V (U (V ⟨g,0,Y⟩) (Z a) x)/\p8 o ⟨g,k*2,Y⟩=V (X .u8 T.v.toNat)/\p8 o ⟨g,k*2+1,Y⟩=V (O T.s)) (first|(refine⟨?_,?_,?_,?_⟩<;>assumption)|go_keep_ranges) ((go_at_call 89;refine E0.mono ?_;rintro e w3 ⟨rfl,k3⟩;have H:=Ab (H8.kept k3);have FW:=Ab (I.drew.trans k3);obtain⟨y0,y1,y2,y3,y4,y5⟩:=HS w3 H;clear k3))
    rename_i M6;clear M6 E0 H8 e0 W c3 d0 d1 f0;cases hv:U4 L with
    |true=>
     have LS:T.v≠0/\65<=T.v.toNat/\T.v.toNat<=90:=by
      (have hz:(AI B T).size=0:=by rw[Aa FP];exact(D5 L).1 hv);have h:=(Nj T H5).yM hz;exact⟨h.1,h.2.1,h.2.2.1⟩
     have ES:p7 (Dd (B.set (T.v.toNat-65) F) (a.drop (k+1)) (b.drop (k+1))=R):=by
      have h:=Aa Dk;rw[Dd,Aa FP,hv,ln rfl]at h;exact h
     have HB:(L.toList==[])=jj:=hv;(have M2:L.toList=[]:=by simpa using HB);obtain⟨l,IA⟩:=pN (T.v.toNat-65);(have NB:T.v.toNat=l+65:=by omega);(have RE:l<26:=by omega);rw[IA]at ES;(have MY:((T.v.toNat:Nat):Int)=(l:Int)+65:=by omega);rw[MY]at y2;(have NX:(0:Int)<=(l:Int):=by omega);(have NN:(l:Int)<26:=by omega);(have LM:IntKind.u8.wrap (l:Int)=l:=by rw[IntKind.wrap_u8];omega);(have NM:IntKind.u8.wrap ((l:Int)+65-65)=l:=by rw[show(l:Int)+65-65=l by omega];exact LM);have yN:∃u,p8 w3 ⟨N,l,Y⟩=V u:=by
      refine⟨z[l]'(by omega),?_⟩;rw[(Aa H).b0.cell,lc (by omega)]
     obtain⟨u0,yN⟩:=yN;have yF:=H.b0.frozen l;have FO:p7 (∀o,o=w3->Va (o.setCell ⟨N,l,Y⟩ (O F)).drew N (Aj (B.set l F)) d (U (V ⟨g,0,Y⟩) (Z a) x) j a m (U (V ⟨S,0,Y⟩) (Z b) y) b):=by
      rintro o rfl;rw[XJ,Aa HP];exact(H.set l _).kept (pO [] _).drew
     have KD:p7 (Ac [] w (w3.setCell ⟨N,l,Y⟩ (O F)).drew):=(FW.setCell (p:=⟨N,l,Y⟩) (oj (by have:=Aa HN;simp;omega)) _).drew;(have M1:Z (B.set l F)=26:=by simp[FF]);(have n1:¬N=N+1:=by omega);(have n2:¬N=N+1+1:=by omega);(have NS:¬N=g:=by have:=H.low g rfl;omega);(have Os:¬N=S:=by have:=H.lof S rfl;omega);(have NY:¬N+1=N:=by omega);(have N2:¬N+1+1=N:=by omega);(have N0:¬g=N:=by omega);(have Pl:¬S=N:=by omega);have N4:=Ab yN;clear hv LS IA NB HS Dk H FW y0 y3;go_wp2_with fail
     go_region_held3 (λo=>p8 o ⟨N+1,1,Y⟩=V (U (V ⟨g,0,Y⟩) (Z a) x)/\p8 o ⟨g,k*2,Y⟩=V (X .u8 ((l:Int)+65))/\p8 o ⟨N+1+1,1,Y⟩=V (U (V ⟨S,0,Y⟩) (Z b) y)/\p8 o ⟨S,k,Y⟩=V (O F)) (go_keep) (fail)
     rename_i LL;clear LL y1 y2 y4 y5 yN yF;have Jx:=Ab (FO _ rfl);clear FO;generalize(w3.setCell ⟨N,l,Y⟩ (O F)).drew=w4 at Jx KD⊢;go_wp2
     go_roundg (Z a-(k+1))
     case measure=>have:=Aa HG;omega
     case rel=>exact⟨k+1,B.set l F,by go_num,by omega,rfl,M1,ES,Jx,KD⟩
    |false=>
     have HB:(L.toList==[])=K:=hv;(have M2:¬L.toList=[]:=by simpa using HB);cases hx:(L.toList==F.toList)with
     |true=>
      (have K6:(L.toList !=F.toList)=K:=by simp[bne,hx]);have ES:p7 (Dd B (a.drop (k+1)) (b.drop (k+1))=R):=by
       have h:=Aa Dk;rw[Dd,Aa FP,hv,li (by simp),hx,ln rfl]at h;exact h
      (have FO:p7 (Va w3 N (Aj B) d (U (V ⟨g,0,Y⟩) (Z a) x) j a m (U (V ⟨S,0,Y⟩) (Z b) y) b):=by rw[Aa HP];exact H);clear hv HS Dk H y0 y1 y2 y3;go_wp2
      go_roundg (Z a-(k+1))
      case measure=>have:=Aa HG;omega
      case rel=>exact⟨k+1,B,by go_num,by omega,rfl,FF,ES,FO,FW⟩
     |false=>
      (have K6:(L.toList !=F.toList)=jj:=by simp[bne,hx]);have P:p7 (Aj R.1=z/\R.2=K):=by
       have h:=Aa Dk;rw[Dd,Aa FP,hv,li (by simp),hx,li (by simp)]at h;rw[<-h,<-Aa HP];exact⟨rfl,rfl⟩
      have n:=Ab B9;clear hv HS Dk y0 y1 y2 y3 hi B9;go_wp2_with (first|((with_reducible show wpList _ _ _ ({dst:=_,op:=Op.load 90 _,type:=_,pos:=_,after:=_,guard:=_}::_) _ _);refine m5 rfl 90 _ rfl N 0 (by rfl) z _ H.b0.range underlying90 rfl (by rw[Aa n];exact Tryz.zF) ?_)|((with_reducible show wpList _ _ _ ({dst:=_,op:=Op.store 90 _ _,type:=_,pos:=_,after:=_,guard:=_}::_) _ _);refine nj rfl 90 _ _ rfl (N+1+1+1) 0 (ml z) (by rfl) (by rfl) (Ht H.b3 n) (by rw[mE,Aa n];exact Tryz.zF) (mL IJ) ?_))
      refine lL (Av rfl (by rfl) (H.b3.zP z (by rw[Aa n];rfl)) underlying90 rfl (by rw[Aa n];exact Tryz.zF)) rfl ⟨?_,FW.zI (oj (by have:=Aa HN;omega)) _ _⟩;rw[(Aa P).1,(Aa P).2];rfl
   .have P:p7 (Aj R.1=z/\R.2=jj):=by
     have h:=Aa HM;rw[lS (by omega),Dd]at h;rw[<-h,<-AH];exact⟨rfl,rfl⟩
    have n:=Ab B9;clear B9 AH HM;go_wp2_with (first|((with_reducible show wpList _ _ _ ({dst:=_,op:=Op.load 90 _,type:=_,pos:=_,after:=_,guard:=_}::_) _ _);refine m5 rfl 90 _ rfl N 0 (by rfl) z _ Q.b0.range underlying90 rfl (by rw[Aa n];exact Tryz.zF) ?_)|((with_reducible show wpList _ _ _ ({dst:=_,op:=Op.store 90 _ _,type:=_,pos:=_,after:=_,guard:=_}::_) _ _);refine nj rfl 90 _ _ rfl (N+1+1+1) 0 (ml z) (by rfl) (by rfl) (Ht Q.b3 n) (by rw[mE,Aa n];exact Tryz.zF) (mL IJ) ?_))
    refine lL (Av rfl (by rfl) (Q.b3.zP z (by rw[Aa n];rfl)) underlying90 rfl (by rw[Aa n];exact Tryz.zF)) rfl ⟨?_,I.zI (oj (by have:=Aa HN;omega)) _ _⟩;rw[(Aa P).1,(Aa P).2];rfl
def NH(t:AK):Prop:=t.v=0\/(65<=t.v.toNat/\t.v.toNat<=90)
structure Mj(e:pM zA)(x:Br):Prop where
 atom:(x.kind==97||x.kind==33)=jj->(∀t∈x.A.args,NH t)/\Z x.A.args<=1000/\JP (Aq e x.A)
 cmp:(x.kind==97||x.kind==33)=K->NH x.L/\NH x.R/\0<(AI e x.L).size/\(AI e x.L).size<=1000000/\0<(AI e x.R).size/\(AI e x.R).size<=1000000
theorem QZ(e:pM zA)(x:Br)(k:Option Addr)(i:Nat)(CL:Option Addr)(EK:Nat)(l:pM Bv)(w:py)(he:Z e=26)(hx:B4 w 0 (x,U k (Z x.A.args) i))(hs:Cv w (U CL (Z l) EK) l)(HI:Z l<=1000000)(D:Mj e x):
  Calls prog 88 #[pC (ml (Aj e)),pC (ml (Cj x (U k (Z x.A.args) i))),U CL (Z l) EK] w λr m=>r=oa (pE (Cg (Aq e) (AI e) (l.map Bv.f) x))/\Ac [] w m:=by
 have o:p7 ((x.kind==97||x.kind==33)=jj->∀wr,Ac [] w wr->Calls prog 48 #[pC (ml (Aj e)),pC (ml (Cy x.A.name (U k (Z x.A.args) i) x.A.at_))] wr λr m=>∃F I,r=oa (pC (ml (Be ⟨Aq e x.A,U F (Z x.A.args) I⟩)))/\Dx m ⟨Aq e x.A,U F (Z x.A.args) I⟩/\Ac [] wr m):=λh wr hk=>bB e x.A k i wr he (Ad hx hk) (D.atom h).2.1 (D.atom h).1
 have t:p7 ((x.kind==97||x.kind==33)=jj->∀av wr,Ac [] w wr->Dx wr ⟨Aq e x.A,av⟩->Calls prog 21 #[U CL (Z l) EK,pC (ml (Be ⟨Aq e x.A,av⟩))] wr λe' m=>e'=oa (pE (l.any λp=>DJ p.f (Aq e x.A)))/\Ac [] wr m):=λh av wr hk hr=>Jv CL EK l ⟨Aq e x.A,av⟩ wr (hs.kept hk) hr HI (D.atom h).2.2
 have FB:p7 ((l.any λp=>DJ p.f (Aq e x.A))=C3 (l.map Bv.f) (Aq e x.A)):=by show _=_;unfold C3;rw[n6];rfl
 have H:p7 ((x.kind==97||x.kind==33)=K->∀wr,Calls prog 89 #[pC (ml (Aj e)),pC (ml (AV x.L))] wr λr m=>r=oa (O (AI e x.L))/\Ac [] wr m):=λh wr=>LK e x.L wr he (D.cmp h).1
 have G:p7 ((x.kind==97||x.kind==33)=K->∀wr,Calls prog 89 #[pC (ml (Aj e)),pC (ml (AV x.R))] wr λr m=>r=oa (O (AI e x.R))/\Ac [] wr m):=λh wr=>LK e x.R wr he (D.cmp h).2.1
 have P:p7 ((x.kind==97||x.kind==33)=K->∀wr,Calls prog 86 #[O (AI e x.L),O (AI e x.R)] wr λe' m=>e'=oa (pE (Gb (AI e x.L) (AI e x.R)))/\m=wr):=λh wr=>NU _ _ wr (D.cmp h).2.2.1 (D.cmp h).2.2.2.2.1 (D.cmp h).2.2.2.1 (D.cmp h).2.2.2.2.2
 obtain⟨B,hB⟩:=pN (Cg (Aq e) (AI e) (l.map Bv.f) x);rw[hB];have b:p7 ((if x.kind==97 then C3 (l.map Bv.f) (Aq e x.A)else if x.kind==33 then !C3 (l.map Bv.f) (Aq e x.A)else if x.kind==61 then(AI e x.L).toList==(AI e x.R).toList else if x.kind==35 then !((AI e x.L).toList==(AI e x.R).toList)else Gb (AI e x.L) (AI e x.R))=B):=hB;clear hB D hs hx;obtain⟨c,⟨g,d,j⟩,⟨v,n⟩,⟨q,s⟩,y⟩:=x;simp only at o t FB H G P b⊢;rw[Aa FB]at t;clear FB;have EY:p7 (∀F I,Be ⟨Aq e ⟨g,d,j⟩,U F (Z d) I⟩=[O g,U F (Z d) I]):=λF I=>rfl
 generalize C3 (l.map Bv.f) (Aq e ⟨g,d,j⟩)=HH at t b;generalize Aq e ⟨g,d,j⟩=FP at o t EY;generalize AI e ⟨v,n⟩=VL at H P b;generalize AI e ⟨q,s⟩=VR at G P b;have hc:=Bp e;have Ax:p7 (Z (Aj e)=26):=by show _=_;rw[Ci,he]
 have hl:=Aa Ax;generalize Aj e=E at hc hl Ax o H G⊢;simp only[Cj,Cy,AV]at o H G⊢;have z:=Ab ((pP w E 90).alloc (j3 [X .u8 c.toNat,O g,U k (Z d) i,X J j,X .u8 v.toNat,O n,X .u8 q.toNat,O s,X J y].toArray 95));have a:p7 (AF ((w.alloc (j3 (ml E) 90)).alloc (j3 [X .u8 c.toNat,O g,U k (Z d) i,X J j,X .u8 v.toNat,O n,X .u8 q.toNat,O s,X J y].toArray 95)) (w.heap.size+1) [X .u8 c.toNat,O g,U k (Z d) i,X J j,X .u8 v.toNat,O n,X .u8 q.toNat,O s,X J y] 95):=by
  have h:=pP (w.alloc (j3 (ml E) 90)) [X .u8 c.toNat,O g,U k (Z d) i,X J j,X .u8 v.toNat,O n,X .u8 q.toNat,O s,X J y] 95;simp only[lT]at h;exact h
 have C:=Ab (((pO [] w).alloc (j3 (ml E) 90)).alloc (j3 [X .u8 c.toNat,O g,U k (Z d) i,X J j,X .u8 v.toNat,O n,X .u8 q.toNat,O s,X J y].toArray 95));have HF:((c.toNat:Int)==97)=(c==97):=Cq _ 97;have FC:((c.toNat:Int)==33)=(c==33):=Cq _ 33;have DT:((c.toNat:Int)==61)=(c==61):=Cq _ 61;have CC:((c.toNat:Int)==35)=(c==35):=Cq _ 35;cases h97:(c==97)with
 |true=>
  rw[h97]at b o t HF;rw[ln rfl]at b;have B2:=Ab (o rfl);have B0:=Ab (t rfl);clear o t H G P FC DT CC;go_enter func88,ntmps88;apply wp_seq_k;intro KK S;have Q:=Ab S;clear S;go_wp2;refine Q _ _ ?_;clear Q KK;change Code.wp _ _ _ _ ((w.alloc (j3 (ml E) 90)).alloc (j3 [X .u8 c.toNat,O g,U k (Z d) i,X J j,X .u8 v.toNat,O n,X .u8 q.toNat,O s,X J y].toArray 95));generalize((w.alloc (j3 (ml E) 90)).alloc (j3 [X .u8 c.toNat,O g,U k (Z d) i,X J j,X .u8 v.toNat,O n,X .u8 q.toNat,O s,X J y].toArray 95))=w1 at z a C⊢;generalize w.heap.size=N at z a⊢;have c0:=a.cell 0;have c1:=a.cell 1;have c2:=a.cell 2;have c3:=a.cell 3;have c4:=a.cell 4;have c5:=a.cell 5;have c6:=a.cell 6;have c7:=a.cell 7;simp at c0 c1 c2 c3 c4 c5 c6 c7;go_wp2_with (first|((with_reducible show wpList _ _ _ ({dst:=_,op:=Op.load 90 _,type:=_,pos:=_,after:=_,guard:=_}::_) _ _);refine m5 rfl 90 _ rfl N 0 (by rfl) E _ z.range underlying90 rfl (by rw[Aa Ax];exact Tryz.zF) ?_)|fail)
  refine(B2 _ C).mono ?_;rintro _ w2 ⟨F,I,rfl,BS,u⟩;have T:=Ab (B0 (U F (Z d) I) w2 (C.trans u) BS);have AO:=Ab (C.trans u);rw[Aa EY]at T⊢;clear BS u B2 B0;go_wp2_with fail
  refine T.mono ?_;rintro _ w3 ⟨rfl,M⟩;have W:=Ab (AO.trans M);clear M T;go_wp2;go_ret;rw[<-Aa b];exact⟨rfl,W⟩
 |false=>
  rw[h97]at b o t HF H G P;rw[li (by simp)]at b;cases h33:(c==33)with
  |true=>
   rw[h33]at b o t FC;rw[ln rfl]at b;have B2:=Ab (o rfl);have B0:=Ab (t rfl);clear o t H G P DT CC;go_enter func88,ntmps88;apply wp_seq_k;intro KK S;have Q:=Ab S;clear S;go_wp2;refine Q _ _ ?_;clear Q KK;change Code.wp _ _ _ _ ((w.alloc (j3 (ml E) 90)).alloc (j3 [X .u8 c.toNat,O g,U k (Z d) i,X J j,X .u8 v.toNat,O n,X .u8 q.toNat,O s,X J y].toArray 95));generalize((w.alloc (j3 (ml E) 90)).alloc (j3 [X .u8 c.toNat,O g,U k (Z d) i,X J j,X .u8 v.toNat,O n,X .u8 q.toNat,O s,X J y].toArray 95))=w1 at z a C⊢;generalize w.heap.size=N at z a⊢;have c0:=a.cell 0;have c1:=a.cell 1;have c2:=a.cell 2;have c3:=a.cell 3;have c4:=a.cell 4;have c5:=a.cell 5;have c6:=a.cell 6;have c7:=a.cell 7;simp at c0 c1 c2 c3 c4 c5 c6 c7;go_wp2_with (first|((with_reducible show wpList _ _ _ ({dst:=_,op:=Op.load 90 _,type:=_,pos:=_,after:=_,guard:=_}::_) _ _);refine m5 rfl 90 _ rfl N 0 (by rfl) E _ z.range underlying90 rfl (by rw[Aa Ax];exact Tryz.zF) ?_)|fail)
   refine(B2 _ C).mono ?_;rintro _ w2 ⟨F,I,rfl,BS,u⟩;have T:=Ab (B0 (U F (Z d) I) w2 (C.trans u) BS);have AO:=Ab (C.trans u);rw[Aa EY]at T⊢;clear BS u B2 B0;(go_wp2_with fail);refine T.mono ?_;rintro _ w3 ⟨rfl,M⟩;have W:=Ab (AO.trans M);clear M T;go_wp2;go_ret;rw[<-Aa b];exact⟨rfl,W⟩
  |false=>
   rw[h33]at b FC H G P;rw[li (by simp)]at b;have FO:=Ab (H rfl);have HA:=Ab (G rfl);have HG:=Ab (P rfl);clear o t H G P;go_enter func88,ntmps88;apply wp_seq_k;intro KK S;have Q:=Ab S;clear S;go_wp2;refine Q _ _ ?_;clear Q KK;change Code.wp _ _ _ _ ((w.alloc (j3 (ml E) 90)).alloc (j3 [X .u8 c.toNat,O g,U k (Z d) i,X J j,X .u8 v.toNat,O n,X .u8 q.toNat,O s,X J y].toArray 95));generalize((w.alloc (j3 (ml E) 90)).alloc (j3 [X .u8 c.toNat,O g,U k (Z d) i,X J j,X .u8 v.toNat,O n,X .u8 q.toNat,O s,X J y].toArray 95))=w1 at z a C⊢;generalize w.heap.size=N at z a⊢;have c0:=a.cell 0;have c1:=a.cell 1;have c2:=a.cell 2;have c3:=a.cell 3;have c4:=a.cell 4;have c5:=a.cell 5;have c6:=a.cell 6;have c7:=a.cell 7;simp at c0 c1 c2 c3 c4 c5 c6 c7;go_wp2_with (first|((with_reducible show wpList _ _ _ ({dst:=_,op:=Op.load 90 _,type:=_,pos:=_,after:=_,guard:=_}::_) _ _);refine m5 rfl 90 _ rfl N 0 (by rfl) E _ z.range underlying90 rfl (by rw[Aa Ax];exact Tryz.zF) ?_)|fail)
   refine(FO _).mono ?_;rintro _ w2 ⟨rfl,u⟩;have FL:=Ab (z.kept u);have B9:=a.kept u;have AO:=Ab (C.trans u);have d0:=B9.cell 0;have d6:=B9.cell 6;have d7:=B9.cell 7;simp at d0 d6 d7;have FW:=Ab B9;clear u z a C FO B9 c0 c1 c2 c3 c4 c5 c6 c7;go_wp2_with (first|((with_reducible show wpList _ _ _ ({dst:=_,op:=Op.load 90 _,type:=_,pos:=_,after:=_,guard:=_}::_) _ _);refine m5 rfl 90 _ rfl N 0 (by rfl) E _ FL.range underlying90 rfl (by rw[Aa Ax];exact Tryz.zF) ?_)|fail)
   refine(HA _).mono ?_;rintro _ w3 ⟨rfl,M⟩;have W:=Ab (AO.trans M);have HJ:=(FW.kept M).cell 0;simp at HJ;clear M AO HA FL FW d0 d6 d7;cases h61:(c==61)with
   |true=>
    rw[h61]at b DT;rw[ln rfl]at b;go_wp2;go_ret;rw[<-Aa b];exact⟨rfl,W⟩
   |false=>
    rw[h61]at b DT;rw[li (by simp)]at b;cases h35:(c==35)with
    |true=>
     rw[h35]at b CC;rw[ln rfl]at b;go_wp2;go_ret;rw[<-Aa b];exact⟨rfl,W⟩
    |false=>
     rw[h35]at b CC;rw[li (by simp)]at b;(go_wp2_with fail);refine(HG _).mono ?_;rintro _ w4 ⟨rfl,rfl⟩;go_wp2;go_ret;rw[<-Aa b];exact⟨rfl,W⟩
