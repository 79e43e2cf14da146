import Derived.Test.YtoihbhenbmffcaaGreatDoorTAG
set_option linter.all false
set_option maxHeartbeats 0
open List renaming length->Z,toArray->j2
open Option renaming none->Y,some->V
open Go.Value renaming slice->U,int->X,string->O,pointer->j3,agg->oj,bool->q8
open Bool renaming false->K,true->jj
open Go.IntKind renaming i64->J
open Go.Obj renaming cells->j1
open Go.Ending renaming returned->kt
open Or renaming inl->lo,inr->lx
open Go renaming World->ly,Value->ml
open Go.RowKit renaming Hid->nc
open Go.World renaming cell?->oa,ownsRow->oi
open ByteArray renaming empty->q9
open Go.Act renaming put->qY
namespace Go.Proofs.YtoihbhenbmffcaaGreatDoor
open Go.RowKit Go.Proofs.Tryz
variable{k n m:Nat}{w:ly}{e:rc zA}{z:ml}{I:Int}
theorem Tryz.yQ:(Tryz.prog.info? 43).map (λi=>(i.zero,i.size,i.bytes))=V (V (oj #[O ⟨#[]⟩,U Y 0 0]),2,40):=by kernel_rfl
def Fn(x:BP)(a:rc BP×Bool)(y:BP):rc BP×Bool:=if !a.2&&Ea x.f y.f then(a.1++[x]++[y],jj)else(a.1++[y],a.2)
def Ii(l:rc BP)(x:BP):rc BP×Bool:=l.foldl (Fn x) ([],K)
def O3(l:rc BP)(x:BP):rc BP:=if(Ii l x).2 then(Ii l x).1 else(Ii l x).1++[x]
def Yk(l:rc BP)(x:Af):Bool:=l.any λp=>CV p.f x
def GF(l:rc BP)(x:BP):rc BP:=if Yk l x.f then l else O3 l x
def YJ{l:rc BP}(a:k<Z l)(x:BP):Ii (l.take (k+1)) x=Fn x (Ii (l.take k) x) l[k]:=by
 unfold Ii;rw[mx a,nH];rfl
def Ui(x p:BP):∀(l:rc BP) (a:rc BP×Bool),p∈(l.foldl (Fn x) a).1->p=x\/p∈a.1\/p∈l
 |[],a,h=>lx (lo h)
 |y::l,a,h=>by
  rcases Ui x p l (Fn x a y) h with h|h|h
  .exact lo h
  .unfold Fn at h;split at h
   .simp only[mF,my]at h;rcases h with(h|h)|h
    .exact lx (lo h)
    .exact lo h
    .exact lx (lx (by simp[h]))
   .simp only[mF,my]at h;rcases h with h|h
    .exact lx (lo h)
    .exact lx (lx (by simp[h]))
  .exact lx (lx (by simp[h]))
def fX{l:rc BP}{x p:BP}(h:p∈O3 l x):p=x\/p∈l:=by
 unfold O3 at h;have a:∀p,p∈(Ii l x).1->p=x\/p∈l:=λp b=>by
  rcases Ui x p l ([],K) b with h|h|h
  .exact lo h
  .simp at h
  .exact lx h
 split at h
 .exact a p h
 .rcases mF.1 h with h|h
  .exact a p h
  .exact lo (by simpa using h)
def Xw{p:BP}(h:Ev w p):∀u∈BL p,u.oneCell'=jj:=by
 obtain⟨c,b,e⟩:=Al h;intro u a;simp only[BL,mA,nI,or_false]at a;rcases a with rfl|rfl
 .rfl
 .rw[e];rfl
set_option maxRecDepth 100000
theorem Pe(EK:Option Addr)(B9:Nat)(a:rc BP)(x:BP)(w:ly)(h:Ei w (U EK (Z a) B9) a)(Q:Ev w x)(LM:Z a<=100000)(EX:QE x.f):
  Calls prog 57 #[U EK (Z a) B9,oj (j2 (BL x))] w λe w'=>∃c j,e=kt (U c (Z (GF a x)) j)/\Ei w' (U c (Z (GF a x)) j) (GF a x)/\Ac [] w w':=by
 obtain⟨i0,CW,A2,DT,B2⟩:=nC Tryz.yQ;have HY:nc (∀wr,Ac [] w wr->Calls prog 21 #[U EK (Z a) B9,oj (j2 (BL x))] wr λe w'=>e=kt (q8 (Yk a x.f))/\Ac [] wr w'):=λwr E=>L5 EK B9 a x wr (h.kept E) (Q.kept E) (by omega) EX
 have Jx:nc (∀(p:BP) wr,p∈a->Ac [] w wr->Calls prog 46 #[oj (j2 (BL x)),oj (j2 (BL p))] wr λe w'=>e=kt (q8 (Ea x.f p.f))/\Ac [] wr w'):=λp wr H E=>bO x p wr (Q.kept E) ((h.each p H).1.kept E) EX (h.each p H).2
 have HS:=Ab h;have JJ:nc (∀(wr:ly) c j,Ac [] w wr->oi wr 0 43 2 (U c (Z (O3 a x)) j) (Z (O3 a x)) ((O3 a x).flatMap BL)->Ei wr (U c (Z (O3 a x)) j) (O3 a x)):=by
  intro wr c j E hr;refine⟨hr,λp H=>?_⟩;rcases fX H with rfl|H
  .exact⟨Q.kept E,EX⟩
  .exact⟨(h.each p H).1.kept E,(h.each p H).2⟩
 have HC:=Ab (Xw Q);have K5:nc (∀p∈a,∀u∈BL p,u.oneCell'=jj):=λp H=>Xw (h.each p H).1
 obtain⟨z,A,H9⟩:=Al Q;obtain⟨D,Nq,A1⟩:∃n v,BL x=[O n,v]/\v=U z (Z x.f.args) A:=⟨_,_,rfl,H9⟩;obtain⟨A1,rfl⟩:=A1;rw[A1]at HY Jx HC⊢;have KA:=Ab A1;generalize Z x.f.args=xl at*;clear h Q EX H9 A1;have r:=Ab (rf w [O D,U z xl A] 43);have l:=Ab ((re [] w).alloc (j1 [O D,U z xl A].toArray 43));have M6:∀(x:Bool) (w:ly),(Op.unary .not (q8 x)).run prog w=.ok (q8 (!x)) w:=λ_ _=>rfl
 obtain⟨FW,HX⟩:=rd (GF a x);rw[HX];have EM:nc ((if Yk a x.f then a else O3 a x)=FW):=HX;clear HX;go_enter func57,ntmps57;go_wp2_with fail
 refine(HY _ l).mono ?_;rintro e w2 ⟨rfl,k2⟩;have Go:=Ab (r.kept k2);have FC:=Ab (l.trans k2);clear HY r l k2;generalize Yk a x.f=HB at EM;cases HB with
 |true=>
  have HE:nc (a=FW):=EM;go_wp2;go_ret;rw[<-Aa HE];exact⟨EK,B9,rfl,HS.kept FC,FC⟩
 |false=>
  have HE:nc (O3 a x=FW):=EM;clear EM;go_wp2;obtain⟨N,HR⟩:=rd w.heap.size;rw[HR]at Go⊢;have CL:=Ab HR;clear HR
  go_loopg [6,7,8] (Z a) (λgk o d i wr=>∃(k:Nat) (b:rc BP) (s:Bool) (C:Option Addr) (B:Nat),o=U C (Z b) B/\d=q8 s/\i=X J k/\k<=Z a/\gk=Z a-k/\Z b<=k+s.toNat/\nc (Ii (a.take k) x=(b,s))/\oi wr (N+1) 43 2 (U C (Z b) B) (Z b) (b.flatMap BL)/\nc (Ac [] w wr)/\nc (AI wr N [O D,U z xl A] 43))
  case atStart=>exact⟨0,[],K,Y,0,rfl,rfl,rfl,by omega,rfl,by simp,by show _=_;simp[Ii],mS _ _ _ _,FC,Go⟩
  case round=>
   clear Go FC;obtain⟨k,b,s,C,B,rfl,rfl,rfl,E,IS,H1,HF,I,l,r⟩:=hrel;have HG:=Ab IS;clear IS;have Nd:=r.lt;(have M1:s.toNat<=1:=by cases s<;>simp);have FO:nc (Z b<=k+s.toNat):=H1;(have M2:Z b<=100001:=by omega);clear H1;by_cases A0:k<Z a
   .obtain⟨g,Nx,n,F,c,j,he,HO,d0,d1⟩:=CZ (HS.kept l) k A0;simp only[mu]at he;obtain⟨rfl,_,rfl⟩:=he;have c0:=r.cell 0;have c1:=r.cell 1;simp at c0 c1;(have DG:nc (Ii (a.take (k+1)) x=Fn x (b,s) a[k]):=by show _=_;rw[YJ A0,Aa HF]);have Bx:=Ab (Jx a[k] wr.drew (mw A0) l.drew);have ES:=Ab (K5 a[k] (mw A0));obtain⟨AB,HT⟩:=rd (Ea x.f a[k].f);have P:=Ab HT;rw[HT]at Bx;(have AR:nc (BL a[k]=[O n,U c (Z F) j]):=by show _=_;rw[HO];rfl);rw[Aa AR]at Bx ES;have HU:nc (∀wz:ly,Ac [] w wz->oa wz ⟨g,k*2,Y⟩=V (O n)/\oa wz ⟨g,k*2+1,Y⟩=V (U c (Z F) j)):=by
     intro wz LB;obtain⟨g',MB,n',MY,NA,Nj,H0,KS,f0,f1⟩:=CZ (HS.kept LB) k A0;have e2:=KS.symm.trans HO;simp only[mu,mB,nr,BP.mk.injEq,Af.mk.injEq]at H0 e2;obtain⟨⟨rfl,_,_⟩,_,_⟩:=H0;obtain⟨⟨rfl,rfl⟩,rfl,_,rfl⟩:=e2;exact⟨f0,f1⟩
    obtain⟨y,hy⟩:=rd (a[k]);rw[hy]at DG AR P;clear HO HT HF hy;cases s with
    |true=>
     (have AT:nc (Ii (a.take (k+1)) x=(b++[y],jj)):=by show _=_;rw[Aa DG];simp[Fn]);clear DG Bx P;(have H6:nc (∀(nq:Nat) (m:ly),((wr.drewN nq).alloc (j1 #[O n,U c (Z F) j] 43)).grownBy m (U C (Z b) B).ownBlock->Ac [] w m/\AI m N [O D,U z xl A] 43):=λnq m hg=>⟨((l.drewN nq).alloc _).grown hg (λq G=>lx (by have:=(I.lt q G).1;have:=Aa CL;omega)),((r.drewN nq).alloc _).grown hg (λe=>by have:=(I.lt N e).1;omega)⟩);go_wp2_with fail
     go_quiet (fail)
     all_goals
      go_wp2_with (at_builtin;refine mZ _ rfl (.tmp 34) (.tmp 39) _ rfl (N+1) 43 i0 _ 2 40 underlying35 CW A2 DT B2 rfl (by omega) (U C (Z b) B) (Z b) (b.flatMap BL) rfl (mE (DW I nq) _) ⟨wr.heap.size,0,Y⟩ 1 1 [O n,U c (Z F) j] rfl rfl (mW (m7 (wr.drewN nq) _)) ES (by omega) (by unfold maxLen;omega) (by omega) (by simp;omega) (wr.heap.size+1) (by simp) ?_;intro g1 K1 m K7 H3 LE L0)
      go_roundg (Z a-(k+1))
      case measure=>have:=Aa HG;omega
      case rel=>exact⟨k+1,b++[y],jj,V ⟨g1,0,Y⟩,K1,by simp,rfl,by go_num,by omega,rfl,by have:=Aa FO;simp at this⊢;omega,AT,by rw[mY,mX,nP,np,Aa AR];simpa using K7,(H6 nq m H3).1,(H6 nq m H3).2⟩
    |false=>
     go_wp2_with fail
     go_region_law (go_simp;go_at_call 46;refine Bx.mono ?_;rintro e M ⟨rfl,k3⟩;have HP:=Ab (l.drew.trans k3);have BS:=Ab (r.drew.kept k3);have R:=Ad (C1 I) k3;clear k3)
     all_goals
      clear Bx l r I;have M0:=BS.lt;obtain⟨LS,M3⟩:=HU M HP;have x0:=BS.cell 0;have x1:=BS.cell 1;simp at x0 x1;have HH:=Aa FO;simp only[qu,qk]at HH;clear d0 d1 c0 c1;cases AB with
      |true=>
       have AT:nc (Ii (a.take (k+1)) x=(b++[x]++[y],jj)):=by
        show _=_;rw[Aa DG];have hh:=Aa P;simp[Fn,hh]
       clear DG P;go_wp2_with (first
        |(at_builtin;refine mZ _ rfl (.tmp 30) (.tmp 32) _ rfl (N+1) 43 i0 _ 2 40 underlying35 CW A2 DT B2 rfl (by omega) (U C (Z b) B) (Z b) (b.flatMap BL) rfl (mE R _) ⟨M.heap.size,0,Y⟩ 1 1 [O D,U z xl A] rfl rfl (mW (m7 M _)) HC (by omega) (by unfold maxLen;omega) (by omega) (by simp;omega) (M.heap.size+1) (by simp) ?_;intro g8 K8 T FL FF K3 KD;have FB:=(HP.alloc _).grown FF (λq G=>lx (by have:=(R.lt q G).1;have:=Aa CL;omega));have f0:=(HU T FB).1;have f1:=(HU T FB).2;have K6:=Ab FB;have K4:=Ab ((BS.alloc _).grown FF (λe=>by have:=(R.lt N e).1;omega));have MN:N+1<=T.heap.size:=(by have:=FF.size;simp at this;omega);clear FF K3 KD FB)
        |(at_builtin;refine mZ _ rfl (.tmp 34) (.tmp 39) _ rfl (N+1) 43 i0 _ 2 40 underlying35 CW A2 DT B2 rfl (by omega) (U (V ⟨g8,0,Y⟩) (Z b+1) K8) (Z b+1) (b.flatMap BL++[O D,U z xl A]) rfl (mE FL _) ⟨T.heap.size,0,Y⟩ 1 1 [O n,U c (Z F) j] rfl rfl (mW (m7 T _)) ES (by omega) (by unfold maxLen;omega) (by omega) (by simp;omega) (T.heap.size+1) (by simp) ?_;intro S AH m W L HL HV))
       have AO:=(K6.alloc _).grown L (λq G=>lx (by have:=(FL.lt q G).1;have:=Aa CL;omega));have HZ:=(K4.alloc _).grown L (λe=>by have:=(FL.lt N e).1;omega)
       go_roundg (Z a-(k+1))
       case measure=>have:=Aa HG;omega
       case rel=>exact⟨k+1,b++[x]++[y],jj,V ⟨S,0,Y⟩,AH,by simp,rfl,by go_num,by omega,rfl,by simp;omega,AT,by simp only[mY,mX,nP,np];rw[Aa AR,Aa KA];simpa using W,AO,HZ⟩
      |false=>
       have AT:nc (Ii (a.take (k+1)) x=(b++[y],K)):=by
        show _=_;rw[Aa DG];have hh:=Aa P;simp[Fn,hh]
       clear DG P;go_wp2_with (at_builtin;refine mZ _ rfl (.tmp 34) (.tmp 39) _ rfl (N+1) 43 i0 _ 2 40 underlying35 CW A2 DT B2 rfl (by omega) (U C (Z b) B) (Z b) (b.flatMap BL) rfl (mE R _) ⟨M.heap.size,0,Y⟩ 1 1 [O n,U c (Z F) j] rfl rfl (mW (m7 M _)) ES (by omega) (by unfold maxLen;omega) (by omega) (by simp;omega) (M.heap.size+1) (by simp) ?_;intro S AH m W L HL HV)
       have AO:=(HP.alloc _).grown L (λq G=>lx (by have:=(R.lt q G).1;have:=Aa CL;omega));have HZ:=(BS.alloc _).grown L (λe=>by have:=(R.lt N e).1;omega)
       go_roundg (Z a-(k+1))
       case measure=>have:=Aa HG;omega
       case rel=>exact⟨k+1,b++[y],K,V ⟨S,0,Y⟩,AH,by simp,rfl,by go_num,by omega,rfl,by simp;omega,AT,by simp only[mY,mX,nP,np];rw[Aa AR];simpa using W,AO,HZ⟩
   .have JA:nc (Ii a x=(b,s)):=by
     have h:=Aa HF
     rwa [mz (by omega)]at h
    cases s with
    |true=>
     (have HW:nc (O3 a x=b):=by show _=_;unfold O3;rw[Aa JA];rfl);go_wp2;go_ret;rw[<-Aa HE,Aa HW];have CC:=Aa JJ wr C B l;rw[Aa HW]at CC;exact⟨C,B,rfl,CC (Ak I (mO _)),l⟩
    |false=>
     (have HW:nc (O3 a x=b++[x]):=by show _=_;unfold O3;rw[Aa JA];rfl);have x0:=r.cell 0;have x1:=r.cell 1;simp at x0 x1;have HH:=Aa FO;simp only[qu,qk]at HH;go_wp2_with (at_builtin;refine mZ _ rfl (.tmp 43) (.tmp 45) _ rfl (N+1) 43 i0 _ 2 40 underlying35 CW A2 DT B2 rfl (by omega) (U C (Z b) B) (Z b) (b.flatMap BL) rfl (mE I _) ⟨wr.heap.size,0,Y⟩ 1 1 [O D,U z xl A] rfl rfl (mW (m7 wr _)) HC (by omega) (by unfold maxLen;omega) (by omega) (by simp;omega) (wr.heap.size+1) (by simp) ?_;intro S AH m W L HL HV)
     have AO:=(l.alloc _).grown L (λq G=>lx (by have:=(I.lt q G).1;have:=Aa CL;omega));have Ha:=Ab (And.intro W AO);clear W AO L HL HV;go_wp2;go_ret;rw[<-Aa HE,Aa HW];have CC:=Aa JJ m (V ⟨S,0,Y⟩) AH Ha.2;rw[Aa HW]at CC;refine⟨V ⟨S,0,Y⟩,AH,by simp,CC ?_,Ha.2⟩;simp only[mY,mX,nP,np];rw[Aa KA];simpa using Ak Ha.1 (mO _)
def Gr:zA->Bool->rc zA->zA
 |s,_,[]=>s
 |s,b,x::l=>Gr ((if b then s++⟨#[44]⟩else s)++x) jj l
def Bv(f:Af):zA:=Gr (f.name++⟨#[40]⟩) K f.args++⟨#[41,46]⟩
def SQ(c:UInt8):(⟨#[c]⟩:zA).size=1:=rfl
theorem Ol(p:BP)(w:ly)(h:Ev w p)(P:Z p.f.args<=1000)(u:∀x∈p.f.args,x.size<=1000000)(Q:p.f.name.size<=1000000):
  Calls prog 28 #[oj (j2 (BL p))] w λe E=>e=kt (O (Bv p.f))/\Ac [] w E:=by
 obtain⟨⟨n,a⟩,av⟩:=p;have H:nc (∀x∈a,x.size<=1000000):=u;simp only at P Q;obtain⟨b,c,e⟩:=Al h;simp only at e;subst e;have I:nc (oi w 0 9 1 (U b (Z a) c) (Z a) (a.flatMap Ai)):=h;obtain⟨R,v⟩:=rd (Bv ⟨n,a⟩);rw[v];have B:nc (Gr (n++⟨#[40]⟩) K (a.drop 0)++⟨#[41,46]⟩=R):=v;have q:=Ab (rf w [O n,U b (Z a) c] 43);have t:=Ab ((re [] w).alloc (j1 [O n,U b (Z a) c].toArray 43));clear h u v;simp only[BL];have G:(n++⟨#[40]⟩:zA).size<=1000001:=by rw[mH,SQ];omega
 have Ax:(⟨#[40]⟩:zA).size=1:=rfl;have AB:(⟨#[44]⟩:zA).size=1:=rfl;have AR:(⟨#[41,46]⟩:zA).size=2:=rfl;go_enter func28,ntmps28;go_wp2;change Code.wp _ _ _ _ (w.alloc (j1 [O n,U b (Z a) c].toArray 43));generalize w.alloc (j1 [O n,U b (Z a) c].toArray 43)=w1 at q t⊢;generalize w.heap.size=N at q⊢;have L:=q.cell 1;simp at L
 go_loopg [3,4] (Z a) (λgk o i wr=>∃(k:Nat) (s:zA),o=O s/\i=X J k/\k<=Z a/\gk=Z a-k/\s.size<=1000001+k*1000001/\nc (Gr s (decide (0<k)) (a.drop k)++⟨#[41,46]⟩=R)/\wr=w1)
 case atStart=>exact⟨0,_,rfl,rfl,by omega,rfl,by simpa using G,B,rfl⟩
 case round=>
  clear B;obtain⟨k,s,rfl,rfl,T,A,AH,d,rfl⟩:=hrel;have z:=Ab A;clear A;by_cases l:k<Z a
  .obtain⟨g,W,C,d0⟩:=Hn (Ad I t) k l;simp only[mu]at C;obtain⟨rfl,_,rfl⟩:=C;have u:=Aa H a[k] (mw l);have j:nc (Gr ((if decide (0<k)then s++⟨#[44]⟩else s)++a[k]) jj (a.drop (k+1))++⟨#[41,46]⟩=R):=by
    have h:=Aa d;rw[mQ l,Gr]at h;exact h
   have D:k*1000001<=1000*1000001:=nB _ (by omega);by_cases y:0<k
   ·(have F:(0:Int)<(k:Int):=by omega);have m:nc (Gr (s++⟨#[44]⟩++a[k]) (decide (0<k+1)) (a.drop (k+1))++⟨#[41,46]⟩=R):=by
     have h:=Aa j;simp only[y,decide_true,if_true]at h;show _=_;simpa using h
    (have M:(s++⟨#[44]⟩:zA).size=s.size+1:=by rw[mH];rfl);(have r:(s++⟨#[44]⟩++a[k]:zA).size<=1000001+(k+1)*1000001:=by rw[mH,M];omega);clear d j;go_wp2
    go_roundg (Z a-(k+1))
    case measure=>have:=Aa z;omega
    case rel=>exact⟨k+1,_,rfl,by go_num,by omega,rfl,r,m,rfl⟩
   ·(have F:¬(0:Int)<(k:Int):=by omega);have m:nc (Gr (s++a[k]) (decide (0<k+1)) (a.drop (k+1))++⟨#[41,46]⟩=R):=by
     have h:=Aa j;simp only[y,qz,mC,if_false]at h;show _=_;simpa using h
    (have r:(s++a[k]:zA).size<=1000001+(k+1)*1000001:=by rw[mH];omega);clear d j;go_wp2
    go_roundg (Z a-(k+1))
    case measure=>have:=Aa z;omega
    case rel=>exact⟨k+1,_,rfl,by go_num,by omega,rfl,r,m,rfl⟩
  .have S:nc (s++⟨#[41,46]⟩=R):=by
    have h:=Aa d;rw[ni (by omega)]at h;exact h
   have D:k*1000001<=1000*1000001:=nB _ (by omega);go_wp2;go_ret;rw[<-Aa S];exact⟨rfl,t⟩
def N7(p:BP)(w:ly)(h:Ev w p)(a:QE p.f)(d:p.f.name.size<=1000000):
  Calls prog 28 #[oj (j2 (BL p))] w λe b=>e=kt (O (Bv p.f))/\Ac [] w b:=
 Ol p w h a.len (λx c=>(a.each x c).2) d
def On:zA->rc BP->zA
 |t,[]=>t
 |t,p::l=>On (t++Bv p.f++⟨#[10]⟩) l
def Am(e:rc zA):rc ml:=e.map O
def Bs(e:rc zA):(oj (j2 (Am e))).cells=j2 (Am e):=by
 unfold Am;simp[Value.cells]
def AP(e:rc zA)(t:AJ):zA:=if t.v=0 then t.s else e.getD (t.v.toNat-65) q9
theorem Mt(e:rc zA)(t:AJ)(w:ly)(C:Z e=26)(f:t.v=0\/(65<=t.v.toNat/\t.v.toNat<=90)):
  Calls prog 89 #[oj (j2 (Am e)),oj (j2 (AQ t))] w λr x=>r=kt (O (AP e t))/\Ac [] w x:=by
 have D:=Bs e;have A:Z (Am e)=26:=by unfold Am;simp[C]
 have g:nc (∀i (h:i<26),(Am e)[i]?=V (O (e.getD i q9))):=by
  intro i h;unfold Am;rw[n6,mN,mG (by omega)];rfl
 obtain⟨a,c⟩:=t;obtain⟨R,m⟩:=rd (AP e ⟨a,c⟩);rw[m];have k:nc ((if a=0 then c else e.getD (a.toNat-65) q9)=R):=m;generalize Am e=E at D A g⊢;have l:=Ab (((re [] w).alloc (j1 (j2 E) 90)).alloc (j1 [X .u8 a.toNat,O c].toArray 93));have p:=Ab ((rf w E 90).alloc (j1 [X .u8 a.toNat,O c].toArray 93));simp only[AQ];clear m;simp only at f;by_cases b:a=0
 .have d:nc (c=R):=by have h:=Aa k;rw[mK b]at h;exact h
  subst b;go_enter func89,ntmps89;go_wp2;go_ret;rw[<-Aa d];exact⟨rfl,l⟩
 .have d:nc (e.getD (a.toNat-65) q9=R):=by have h:=Aa k;rw[mJ b]at h;exact h
  have B:65<=a.toNat/\a.toNat<=90:=by
   rcases f with h|h
   .exact absurd h b
   .exact h
  have z:((a.toNat:Int)==0)=K:=by rw[nj];omega
  obtain⟨j,u⟩:=rd (a.toNat-65);have s:a.toNat=j+65:=by omega
  rw[u]at d;have q:j<26:=by omega
  rw[s]at p l z⊢;have o:=p.cell j;rw[Aa g j q]at o;have y:nc (∀h:j<Z E,E[j]=O (e.getD j q9)):=λh=>by
   have n:=Aa g j q;rw[mG h]at n;exact pH n
  clear k u s B f b o;go_enter func89,ntmps89;go_wp2;go_ret;rw[<-Aa d];exact⟨congrArg kt (y _),l⟩
def Vz(x:zA):Bool:=x.toList==[]
def Ep(x:zA):Vz x=jj↔x.size=0:=by
 unfold Vz;rw[A5];cases h:x.toList<;>simp
def E7(a b:zA):(a.toList==b.toList)=jj↔a=b:=by
 constructor
 .intro h;exact toList_inj (by simpa using h)
 .intro h;rw[h];simp
def Du:rc zA->rc AJ->rc zA->rc zA×Bool
 |e,[],_=>(e,jj)
 |e,_::_,[]=>(e,jj)
 |e,t::ts,x::xs=>if Vz (AP e t)then Du (e.set (t.v.toNat-65) x) ts xs else if(AP e t).toList==x.toList then Du e ts xs else(e,K)
def jQ(e e':rc zA):Prop:=Z e'=Z e/\∀j,(e.getD j q9).size≠0->e'.getD j q9=e.getD j q9
def jQ.refl(e:rc zA):jQ e e:=⟨rfl,λ_ _=>rfl⟩
def jQ.trans{a b c:rc zA}(h:jQ a b)(k:jQ b c):jQ a c:=⟨k.1.trans h.1,λj d=>(k.2 j (by rw[h.2 j d];exact d)).trans (h.2 j d)⟩
def jQ.set{e:rc zA}{j:Nat}(h:(e.getD j q9).size=0)(x:zA):jQ e (e.set j x):=by
 refine⟨by simp,λi b=>?_⟩;by_cases a:j=i
 .subst a;exact absurd h b
 .rw[mN,mN,nJ a]
def Sx{e c:rc zA}(h:jQ e c){t:AJ}(b:(AP e t).size≠0):AP c t=AP e t:=by
 unfold AP at b⊢;by_cases a:t.v=0
 .rw[mK a,mK a]
 .rw[mJ a]at b⊢;rw[mJ a];exact h.2 _ b
def BH(t:AJ):Prop:=(t.v=0/\t.s.size≠0)\/(65<=t.v.toNat/\t.v.toNat<=90)
def BH.yR{t:AJ}(h:BH t)(a:(AP e t).size=0):t.v≠0/\65<=t.v.toNat/\t.v.toNat<=90/\(e.getD (t.v.toNat-65) q9).size=0:=by
 rcases h with⟨c,b⟩|⟨b,d⟩
 .unfold AP at a;rw[mK c]at a;exact absurd a b
 .have c:t.v≠0:=λh=>by rw[h]at b;exact absurd b (by decide)
  unfold AP at a;rw[mJ c]at a;exact⟨c,b,d,a⟩
def fB{t:AJ}(c:Z e=26)(a:t.v≠0)(b:65<=t.v.toNat)(d:t.v.toNat<=90)(x:zA):AP (e.set (t.v.toNat-65) x) t=x:=by
 unfold AP;rw[mJ a,mN,od (by omega)];rfl
def Ik:∀(a:rc AJ) (b:rc zA) (e c:rc zA),Z e=26->Z a=Z b->(∀t∈a,BH t)->(∀x∈b,x.size≠0)->Du e a b=(c,jj)->jQ e c/\a.map (AP c)=b
 |[],[],e,c,_,_,_,_,h=>by
  simp only[Du,ny]at h;rw[<-h.1];exact⟨jQ.refl e,rfl⟩
 |[],_::_,_,_,_,h,_,_,_=>by simp at h
 |_::_,[],_,_,_,h,_,_,_=>by simp at h
 |t::a,x::b,e,c,he,hl,hg,hx,h=>by
  rw[Du]at h;have n:Z a=Z b:=by simpa using hl
  have o:∀t∈a,BH t:=λu j=>hg u (by simp[j])
  have l:∀x∈b,x.size≠0:=λu j=>hx u (by simp[j])
  have m:=hx x (by simp);by_cases k:Vz (AP e t)=jj
  .rw[mK k]at h;obtain⟨r,q,p,s⟩:=(hg t (by simp)).yR ((Ep _).1 k);obtain⟨d,g⟩:=Ik a b (e.set (t.v.toNat-65) x) c (by simp[he]) n o l h;have f:=fB he r q p x;refine⟨(jQ.set s x).trans d,?_⟩;rw[mU,g,Sx d (by rw[f];exact m),f]
  .rw[mJ k]at h;by_cases i:((AP e t).toList==x.toList)=jj
   .rw[mK i]at h;obtain⟨d,g⟩:=Ik a b e c he n o l h;have f:=(E7 _ _).1 i;refine⟨d,?_⟩;rw[mU,g,Sx d (by rw[f];exact m),f]
   .rw[mJ i]at h;simp at h
def Eu(σ:UInt8->zA)(t:AJ):zA:=if t.v=0 then t.s else σ t.v
def Ew(e:rc zA)(σ:UInt8->zA):Prop:=Z e=26/\∀v:UInt8,65<=v.toNat->v.toNat<=90->(e.getD (v.toNat-65) q9).size=0\/e.getD (v.toNat-65) q9=σ v
def Ew.val{σ:UInt8->zA}(h:Ew e σ){t:AJ}(g:BH t)(d:(AP e t).size≠0):AP e t=Eu σ t:=by
 unfold AP at d⊢;unfold Eu;by_cases a:t.v=0
 .rw[mK a,mK a]
 .rw[mJ a]at d⊢;rw[mJ a];rcases g with⟨b,_⟩|⟨b,f⟩
  .exact absurd b a
  .rcases h.2 t.v b f with c|c
   .exact absurd c d
   .exact c
def Ew.set{e:rc zA}{σ:UInt8->zA}(h:Ew e σ){v:UInt8}(f:65<=v.toNat)(d:v.toNat<=90):Ew (e.set (v.toNat-65) (σ v)) σ:=by
 refine⟨by simp[h.1],λu a b=>?_⟩;by_cases c:v.toNat-65=u.toNat-65
 .have:v=u:=oE.1 (by omega);subst this;right;rw[mN,od (by rw[h.1];omega)];rfl
 .rw[mN,nJ c,<-mN];exact h.2 u a b
def Je(σ:UInt8->zA):∀(a:rc AJ) (e:rc zA),Ew e σ->(∀t∈a,BH t/\(Eu σ t).size≠0)->∃f,Du e a (a.map (Eu σ))=(f,jj)/\Ew f σ
 |[],e,h,_=>⟨e,rfl,h⟩
 |t::a,e,h,hg=>by
  rw[mU,Du];have g:∀u∈a,BH u/\(Eu σ u).size≠0:=λu l=>hg u (by simp[l])
  obtain⟨d,o⟩:=hg t (by simp);by_cases b:Vz (AP e t)=jj
  .rw[mK b];obtain⟨m,k,i,n⟩:=d.yR ((Ep _).1 b);(have c:Eu σ t=σ t.v:=by unfold Eu;rw[mJ m]);rw[c];exact Je σ a _ (h.set k i) g
  .rw[mJ b];have c:=h.val d (λj=>b ((Ep _).2 j));rw[mK (by rw[c];simp)];exact Je σ a e h g
def Un:∀(l m:rc zA),ID l m=jj↔l=m
 |[],[]=>by simp[ID]
 |[],_::_=>by simp[ID]
 |_::_,[]=>by simp[ID]
 |x::l,y::m=>by
  rw[ID,mV,E7,Un l m];simp
def GY(a b:Af):CV a b=jj↔a=b:=by
 obtain⟨d,f⟩:=a;obtain⟨e,c⟩:=b;unfold CV;rw[mV,E7,Un];simp
def Av(e:rc zA)(A:Dr):Af:=⟨A.name,A.args.map (AP e)⟩
def Bo(σ:UInt8->zA)(A:Dr):Af:=⟨A.name,A.args.map (Eu σ)⟩
def Cc(e:rc zA)(A:Dr)(f:Af):rc zA×Bool:=if(A.name.toList==f.name.toList)&&(Z A.args==Z f.args)then Du e A.args f.args else(e,K)
def IM(e:rc zA)(A:Dr)(f:Af):Option (rc zA):=if(Cc e A f).2 then V (Cc e A f).1 else Y
def Cm(s:rc Af)(l:rc (rc zA))(x:Bw):rc (rc zA):=if x.kind==97 then l.flatMap (λe=>s.filterMap (IM e x.A))else l
def DB(s:rc Af)(f:Af):Bool:=s.any λg=>CV g f
def Ck(s:rc Af)(f:Af):DB s f=jj↔f∈s:=by
 unfold DB;rw[nX];constructor
 .rintro ⟨g,a,h⟩;rw[GY]at h;rw[<-h];exact a
 .intro h;exact⟨f,h,(GY f f).2 rfl⟩
def Cp(fact:Dr->Af)(val:AJ->zA)(s:rc Af)(x:Bw):Bool:=
 if x.kind==97 then DB s (fact x.A)else if x.kind==33 then !DB s (fact x.A)else if x.kind==61 then(val x.L).toList==(val x.R).toList else if x.kind==35 then !((val x.L).toList==(val x.R).toList)else Gv (val x.L) (val x.R)
def Bl:rc zA:=List.replicate 26 q9
def BK(body:rc Bw)(s:rc Af):rc (rc zA):=(body.foldl (Cm s) [Bl]).filter λe=>body.all λx=>x.kind==97||Cp (Av e) (AP e) s x
def JL(f:Af):Prop:=∀x∈f.args,x.size≠0
def UL{e d:rc zA}{A:Dr}{f:Af}(h:IM e A f=V d):A.name=f.name/\Z A.args=Z f.args/\Du e A.args f.args=(d,jj):=by
 unfold IM Cc at h;by_cases c:((A.name.toList==f.name.toList)&&(Z A.args==Z f.args))=jj
 .rw[mK c]at h;rw[mV]at c;cases hm:Du e A.args f.args with
  |mk a b=>
   rw[hm]at h;cases b with
   |false=>simp at h
   |true=>
    simp at h;exact⟨(E7 _ _).1 c.1,by simpa using c.2,by rw[h]⟩
 .rw[mJ c]at h;simp at h
def jr{e a:rc zA}{A:Dr}{f:Af}(d:A.name=f.name)(c:Z A.args=Z f.args)(g:Du e A.args f.args=(a,jj)):IM e A f=V a:=by
 have h:((A.name.toList==f.name.toList)&&(Z A.args==Z f.args))=jj:=by
  rw[mV,E7];exact⟨d,by simpa using c⟩
 have b:Cc e A f=(a,jj):=by
  unfold Cc;rw[mK h,g]
 unfold IM;rw[b];rfl
def Dh{s:rc Af}(n:∀f∈s,JL f):∀(g:rc Bw) (l:rc (rc zA)),(∀e∈l,Z e=26)->(∀x∈g,(x.kind==97)=jj->∀t∈x.A.args,BH t)->
  ∀a∈g.foldl (Cm s) l,Z a=26/\∃e∈l,jQ e a/\∀x∈g,(x.kind==97)=jj->Av a x.A∈s/\∀t∈x.A.args,(AP a t).size≠0
 |[],l,hl,_,a,he'=>⟨hl a he',a,he',jQ.refl a,λx M=>by simp at M⟩
 |x::g,l,hl,hg,a,he'=>by
  rw[nh]at he';have w:∀x∈g,(x.kind==97)=jj->∀t∈x.A.args,BH t:=λy c=>hg y (by simp[c])
  by_cases j:(x.kind==97)=jj
  .have D:∀b∈Cm s l x,∃e∈l,∃f∈s,IM e x.A f=V b:=by
    intro b k;unfold Cm at k;rw[mK j]at k;obtain⟨e,d,F⟩:=m6.1 k;obtain⟨f,h,m⟩:=oG.1 F;exact⟨e,d,f,h,m⟩
   have I:∀b∈Cm s l x,Z b=26:=by
    intro b k;obtain⟨e,d,f,h,m⟩:=D b k;obtain⟨_,r,v⟩:=UL m;rw[(Ik _ _ _ _ (hl e d) r (hg x (by simp) j) (n f h) v).1.1,hl e d]
   obtain⟨u,b,L,p,q⟩:=Dh n g (Cm s l x) I w a he';obtain⟨e,d,f,h,m⟩:=D b L;obtain⟨H,r,v⟩:=UL m;obtain⟨E,B⟩:=Ik _ _ _ _ (hl e d) r (hg x (by simp) j) (n f h) v;(have C:∀t∈x.A.args,(AP b t).size≠0:=λt i=>n f h _ (by rw[<-B];exact mR i));(have z:∀t∈x.A.args,AP a t=AP b t:=λt i=>Sx p (C t i));refine⟨u,e,d,E.trans p,λy c o=>?_⟩;rcases mA.1 c with rfl|c
   .refine⟨?_,λt i=>by rw[z t i];exact C t i⟩;have:Av a y.A=f:=by
     unfold Av;rw[nL z,B,H]
    rw[this];exact h
   .exact q y c o
  ·(have G:Cm s l x=l:=by unfold Cm;rw[mJ j]);rw[G]at he';obtain⟨u,e,d,p,q⟩:=Dh n g l hl w a he';refine⟨u,e,d,p,λy c o=>?_⟩;rcases mA.1 c with rfl|c
   .exact absurd o j
   .exact q y c o
def Jm{s:rc Af}(σ:UInt8->zA):∀(a:rc Bw) (l:rc (rc zA)) (e:rc zA),e∈l->Ew e σ->(∀x∈a,(x.kind==97)=jj->(∀t∈x.A.args,BH t/\(Eu σ t).size≠0)/\Bo σ x.A∈s)->
  ∃m∈a.foldl (Cm s) l,Ew m σ
 |[],l,e,he,ha,_=>⟨e,he,ha⟩
 |x::a,l,e,he,ha,hb=>by
  rw[nh];have c:∀y∈a,(y.kind==97)=jj->(∀t∈y.A.args,BH t/\(Eu σ t).size≠0)/\Bo σ y.A∈s:=λy h=>hb y (by simp[h])
  by_cases b:(x.kind==97)=jj
  .obtain⟨j,g⟩:=hb x (by simp) b;obtain⟨d,k,i⟩:=Je σ x.A.args e ha j;refine Jm σ a _ d ?_ i c;unfold Cm;rw[mK b];exact m6.2 ⟨e,he,oG.2 ⟨_,g,jr rfl (by simp[Bo]) k⟩⟩
  ·(have f:Cm s l x=l:=by unfold Cm;rw[mJ b]);rw[f];exact Jm σ a l e he ha c
def Ew.start(σ:UInt8->zA):Ew Bl σ:=by
 refine⟨rfl,λv a b=>lo ?_⟩;unfold Bl;rw[mN,List.getElem?_replicate];split<;>rfl
def Gl(body:rc Bw)(t:AJ):Prop:=t.v=0\/∃x∈body,(x.kind==97)=jj/\∃u∈x.A.args,u.v=t.v
def LO(e:rc zA)(v:UInt8):zA:=e.getD (v.toNat-65) q9
def Hd(e:rc zA)(t:AJ):Eu (LO e) t=AP e t:=rfl
def Ko{s:rc Af}(k:∀f∈s,JL f){b:rc Bw}(l:∀x∈b,(x.kind==97)=jj->∀t∈x.A.args,BH t)(a:e∈BK b s):
  ∀x∈b,Cp (Av e) (AP e) s x=jj:=by
 unfold BK at a;obtain⟨i,g⟩:=mT.1 a;obtain⟨_,_,_,_,j⟩:=Dh k b [Bl] (λe a=>by simp at a;rw[a];rfl) l e i;intro x d;by_cases c:(x.kind==97)=jj
 .unfold Cp;rw[mK c];exact(Ck _ _).2 (j x d c).1
 .have:=(nY.1 g) x d;simp only[om]at this;rcases this with h|h
  .exact absurd h c
  .exact h
def Qi{s:rc Af}(o:∀f∈s,JL f){a:rc Bw}(l:∀x∈a,(x.kind==97)=jj->∀t∈x.A.args,BH t)(σ:UInt8->zA)(m:∀x∈a,Cp (Bo σ) (Eu σ) s x=jj)
  (w:∀x∈a,(x.kind==97)=K->((x.kind==33)=jj->∀t∈x.A.args,Gl a t)/\((x.kind==33)=K->Gl a x.L/\Gl a x.R)):
  ∃e∈BK a s,∀t,Gl a t->AP e t=Eu σ t:=by
 have q:∀x∈a,(x.kind==97)=jj->(∀t∈x.A.args,BH t/\(Eu σ t).size≠0)/\Bo σ x.A∈s:=by
  intro x c b;have h:=m x c;unfold Cp at h;rw[mK b,Ck]at h;exact⟨λt g=>⟨l x c b t g,o _ h _ (mR g)⟩,h⟩
 obtain⟨e,i,p⟩:=Jm σ a [Bl] Bl (by simp) (Ew.start σ) q;obtain⟨_,_,_,_,y⟩:=Dh o a [Bl] (λe i=>by simp at i;rw[i];rfl) l e i;have j:∀t,Gl a t->AP e t=Eu σ t:=by
  intro t g;rcases g with d|⟨x,c,b,u,n,z⟩
  .unfold AP Eu;rw[mK d,mK d]
  .have r:=(y x c b).2 u n;have k:=p.val (l x c b u n) r;unfold AP Eu at k⊢;rw[<-z];by_cases d:u.v=0
   .rw[mK d,mK d]
   .rw[mJ d,mJ d]at k⊢;exact k
 refine⟨e,?_,j⟩;unfold BK;refine mT.2 ⟨i,nY.2 λx c=>?_⟩;cases b:(x.kind==97)with
 |true=>rfl
 |false=>
  obtain⟨s1,s2⟩:=w x c b;rw[pq,<-m x c];unfold Cp;simp only[b,mC,if_false];cases hk2:(x.kind==33)with
  |true=>
   simp only[if_true];have:Av e x.A=Bo σ x.A:=by
    unfold Av Bo;rw[nL (λt g=>j t (s1 hk2 t g))]
   rw[this]
  |false=>
   simp only[mC,if_false];rw[j _ (s2 hk2).1,j _ (s2 hk2).2]
def An(c:AV):rc Bw:=c.bl.map Prod.fst
def Da(c:AV)(σ:UInt8->zA):G1 Af:=
 ⟨((An c).filter λx=>x.kind==97).map λx=>Bo σ x.A,((An c).filter λx=>x.kind==33).map λx=>Bo σ x.A,Bo σ c.head⟩
def Qp(c:AV)(σ:UInt8->zA):Prop:=∀x∈An c,(x.kind==97)=K->(x.kind==33)=K->Cp (Bo σ) (Eu σ) [] x=jj
def Fa(cs:rc AV)(i:G1 Af):Prop:=∃c∈cs,∃σ,Qp c σ/\i=Da c σ
def SN{f:Dr->Af}{v:AJ->zA}{s t:rc Af}{x:Bw}(a:(x.kind==97)=K)(b:(x.kind==33)=K):Cp f v s x=Cp f v t x:=by
 unfold Cp;rw[a,b];rfl
def IL(c:AV)(σ:UInt8->zA)(s:rc Af):(∀x∈An c,Cp (Bo σ) (Eu σ) s x=jj)↔Ld (Da c σ) (·∈s) (·∈s)/\Qp c σ:=by
 constructor
 .intro h;refine⟨⟨λg i=>?_,λg i l=>?_⟩,λx a f e=>?_⟩
  .obtain⟨x,a,rfl⟩:=mD.1 i;obtain⟨a,b⟩:=mT.1 a;have d:=h x a;unfold Cp at d;rw[mK b,Ck]at d;exact d
  .obtain⟨x,a,rfl⟩:=mD.1 i;obtain⟨a,b⟩:=mT.1 a;have d:=h x a;have j:(x.kind==97)=K:=by
    (have:x.kind=33:=by simpa using b);rw[this];rfl
   unfold Cp at d;rw[mJ (by rw[j];simp),mK b,(Ck _ _).2 l]at d;cases d
  .rw[SN f e (t:=s)];exact h x a
 .rintro ⟨⟨f,e⟩,k⟩ x a;cases b:(x.kind==97)with
  |true=>
   unfold Cp;rw[b,mK rfl,Ck];exact f _ (mD.2 ⟨x,mT.2 ⟨a,b⟩,rfl⟩)
  |false=>
   cases hk2:(x.kind==33)with
   |true=>
    unfold Cp;rw[b,hk2,mJ (by simp),mK rfl];cases d:DB s (Bo σ x.A)with
    |false=>rfl
    |true=>exact absurd ((Ck _ _).1 d) (e _ (mD.2 ⟨x,mT.2 ⟨a,hk2⟩,rfl⟩))
   |false=>
    rw[SN b hk2 (t:=[])];exact k x a b hk2
structure R2(cs:rc AV):Prop where
 args:∀c∈cs,∀x∈An c,(x.kind==97)=jj->∀t∈x.A.args,BH t
 safe:∀c∈cs,∀x∈An c,(x.kind==97)=K->((x.kind==33)=jj->∀t∈x.A.args,Gl (An c) t)/\((x.kind==33)=K->Gl (An c) x.L/\Gl (An c) x.R)
 head:∀c∈cs,∀t∈c.head.args,Gl (An c) t
structure CG(cs:rc AV)(zS:zA->Nat):Prop where
 pos:∀c∈cs,∀x∈An c,(x.kind==97)=jj->zS x.A.name<=zS c.head.name
 neg:∀c∈cs,∀x∈An c,(x.kind==33)=jj->zS x.A.name<zS c.head.name
def CG.zY{k:rc AV}{j:zA->Nat}(h:CG k j):MV (Fa k) (λf=>j f.name):=by
 refine⟨?_,?_⟩
 .rintro i ⟨c,e,σ,_,rfl⟩ g d;obtain⟨x,a,rfl⟩:=mD.1 d;obtain⟨a,b⟩:=mT.1 a;exact h.pos c e x a b
 .rintro i ⟨c,e,σ,_,rfl⟩ g d;obtain⟨x,a,rfl⟩:=mD.1 d;obtain⟨a,b⟩:=mT.1 a;exact h.neg c e x a b
def fP{b:rc AV}{a:zA->Nat}(l:CG b a)(w:R2 b){d s:rc Af}(u:Ej (Fa b) (λf=>a f.name) n (·∈s))(x:∀f∈d,f∈s)(t:∀f∈s,f∈d\/a f.name=n)(q:∀f∈d,JL f)
  {c:AV} (p:c∈b) (o:a c.head.name=n)  (y:e∈BK (An c) d):Ej (Fa b) (λf=>a f.name) n (λf=>f∈s\/f=Av e c.head):=by
 have r:=Ko q (w.args c p) y;have j:Ld (Da c (LO e)) (·∈d) (·∈d)/\Qp c (LO e):=(IL c (LO e) d).1 r;have m:Fa b (Da c (LO e)):=⟨c,p,LO e,j.2,rfl⟩;have k:(Da c (LO e)).head=Av e c.head:=rfl;have:=u.step (Fa b) (λf=>a f.name) l.zY m (by rw[k];exact o) ⟨λg i=>x g (j.1.1 g i),λg i v=>by
  rcases t g v with h|h
  .exact j.1.2 g i h
  .have A:a g.name<a (Da c (LO e)).head.name:=l.zY.neg _ m g i
   have z:a (Da c (LO e)).head.name=n:=by rw[k];exact o
   omega⟩
 rw[k]at this;exact this
def dG{a:rc AV}{b:zA->Nat}(g:R2 a){s:rc Af}(j:Ej (Fa a) (λf=>b f.name) n (·∈s))(v:∀f∈s,JL f)
  (k:∀c∈a,b c.head.name=n->∀e∈BK (An c) s,Av e c.head∈s):Ej (Fa a) (λf=>b f.name) (n+1) (·∈s):=by
 refine j.next (Fa a) (λf=>b f.name) ?_;rintro i ⟨c,d,σ,p,rfl⟩ w u;have o:=(IL c σ s).2 ⟨u,p⟩;obtain⟨e,l,m⟩:=Qi v (g.args c d) σ o (g.safe c d);have h:=k c d w e l;have r:Av e c.head=Bo σ c.head:=by
  unfold Av Bo;rw[nL (λt q=>m t (g.head c d t q))]
 rw[r]at h;exact h
def gH{a:rc AV}{b d:zA->Nat}(p:CG a b)(o:CG a d){M N:Af->Prop}(k:Ej (Fa a) (λf=>b f.name) n M)(r:Ej (Fa a) (λf=>d f.name) m N)(l:∀c∈a,b c.head.name<n)(q:∀c∈a,d c.head.name<m):∀f,M f↔N f:=by
 have j:=k.done (Fa a) (λf=>b f.name) (λi g=>by obtain⟨c,e,σ,_,rfl⟩:=g;exact l c e);have h:=r.done (Fa a) (λf=>d f.name) (λi g=>by obtain⟨c,e,σ,_,rfl⟩:=g;exact q c e);exact cY (Fa a) _ _ p.zY o.zY j.1 j.2 h.1 h.2
def Cr(n:Nat):rc ml:=[X J n]
def OW(f:zA->Nat)(p:Bb):Nat:=if p.1.kind==97 then f p.1.A.name else if p.1.kind==33 then f p.1.A.name+1 else 0
def JF(f:zA->Nat)(n:Nat)(bl:rc Bb):Nat:=bl.foldl (λn p=>max n (OW f p)) n
def Jq(f:zA->Nat)(x:zA)(n:Nat)(c:AV):Nat:=if c.head.name.toList==x.toList then JF f n c.bl else n
def B3(cs:rc AV):Nat->zA->Nat
 |0,_=>0
 |d+1,x=>cs.foldl (Jq (B3 cs d) x) 0
def gX(e:rc zA)(v:Nat)(s:zA):zA:=if v=0 then s else e.getD (v-65) q9
theorem Rw(b E:Nat)(e:rc zA)(v:Nat)(s:zA)(w:ly)(F:Z e=26)(o:AI w b (Am e) E)(p:v=0\/(65<=v/\v<=90)):
  Calls prog 180 #[j3 (V ⟨b,0,Y⟩),oj [Value.int .i32 v,O s].toArray] w λr f=>r=kt (O (gX e v s))/\Ac [] w f:=by
 have x:=o.lt;have I:Z (Am e)=26:=by unfold Am;simp[F]
 have q:nc (∀i (h:i<26),(Am e)[i]?=V (O (e.getD i q9))):=by
  intro i h;unfold Am;rw[n6,mN,mG (by omega)];rfl
 obtain⟨R,n⟩:=rd (gX e v s);rw[n];have m:nc ((if v=0 then s else e.getD (v-65) q9)=R):=n;have k:=Ab ((re [] w).alloc (j1 [.int .i32 v,O s].toArray 215));have g:=Ab (o.alloc (j1 [.int .i32 v,O s].toArray 215));clear n;by_cases a:v=0
 .have c:nc (s=R):=by have h:=Aa m;rw[mK a]at h;exact h
  subst a;go_enter func180,ntmps180;go_wp2;go_ret;rw[<-Aa c];exact⟨rfl,k⟩
 .have c:nc (e.getD (v-65) q9=R):=by have h:=Aa m;rw[mJ a]at h;exact h
  have C:65<=v/\v<=90:=by
   rcases p with h|h
   .exact absurd h a
   .exact h
  have z:((v:Int)==0)=K:=by rw[nj];omega
  obtain⟨j,t⟩:=rd (v-65);have A:v=j+65:=by omega
  rw[t]at c;have y:j<26:=by omega
  subst A;have B:(((j+65:Nat)):Int)=(j:Int)+65:=by omega
  rw[B]at k g z⊢;have l:=g.cell j;rw[Aa q j y]at l;generalize e.getD j q9=X at c l;have d:=rf w [.int .i32 ((j:Int)+65),O s] 215;clear m t C p a o q;have M:(0:Int)<=(j:Int):=by omega
  have H:(j:Int)<26:=by omega
  have D:IntKind.i32.wrap (j:Int)=j:=by rw[IntKind.wrap_i32];omega
  have G:IntKind.i32.wrap ((j:Int)+65-65)=j:=by rw[show(j:Int)+65-65=j by omega];exact D
  go_enter func180,ntmps180;go_wp2;change Code.wp _ _ _ _ (w.alloc (j1 [.int .i32 ((j:Int)+65),O s].toArray 215));generalize w.alloc (j1 [.int .i32 ((j:Int)+65),O s].toArray 215)=w1 at k g d l⊢;generalize w.heap.size=N at d x⊢;have u:=d.cell 0;simp at u;have L:=Ab d;clear d g
  go_region_held3 (λf=>oa f ⟨b,j,Y⟩=V (O X)/\oa f ⟨N,0,Y⟩=V (.int .i32 ((j:Int)+65))) (go_keep) (fail)
  go_wp2;all_goals
   go_ret;rw[<-Aa c];refine⟨rfl,?_⟩
   repeat (first|exact k|refine Ac.drew ?_|refine Ac.alloc ?_ _|refine Ac.drewN ?_ _)
def ON{l:rc AJ}(h:oi w n 93 2 z (Z l) (l.flatMap AQ))(k:Nat)(a:k<Z l):
  ∃g b,z=U (V ⟨g,0,Y⟩) (Z l) b/\oa w ⟨g,k*2,Y⟩=V (X .u8 l[k].v.toNat)/\oa w ⟨g,k*2+1,Y⟩=V (O l[k].s):=by
 obtain⟨g,b,i,_,f⟩:=AC h (λc _=>F5 c) k a;have d:=f k a 0 (by omega);have e:=f k a 1 (by omega);simp[AQ]at d e;exact⟨g,b,i,d,e⟩
structure Xq(w:ly)(N:Nat)(E:rc ml)(nm:zA)(av:ml)(j:Nat)(ts:rc AJ)(fv:ml):Prop where
 b0:AI w N E 90
 b1:AI w (N+1) [O nm,av,X J j] 79
 b2:AI w (N+1+1) [O ⟨#[]⟩,U Y 0 0] 43
 b3:AI w (N+1+1+1) [O nm,fv] 43
 row:oi w 0 93 2 av (Z ts) (ts.flatMap AQ)
 low:∀q,av.ownBlock=V q->q<N
def Xq.kept{w w':ly}{N:Nat}{E:rc ml}{d:zA}{c:ml}{j:Nat}{b:rc AJ}{a:ml}(h:Xq w N E d c j b a)(k:Ac [] w w'):Xq w' N E d c j b a:=
 ⟨h.b0.kept k,h.b1.kept k,h.b2.kept k,h.b3.kept k,Ad h.row k,h.low⟩
def Xq.grown{w d:ly}{N:Nat}{E:rc ml}{c:zA}{b:ml}{j:Nat}{f:rc AJ}{g:ml}{r:Option Nat}(h:Xq w N E c b j f g)(k:w.grownBy d r)(a:∀q,r=V q->N+1+1+1+1<=q):Xq d N E c b j f g:=
 ⟨h.b0.grown k (λe=>by have:=a _ e;omega),h.b1.grown k (λe=>by have:=a _ e;omega),h.b2.grown k (λe=>by have:=a _ e;omega),h.b3.grown k (λe=>by have:=a _ e;omega),
  n5 (v:=b) h.row k (by
   cases hv:b.ownBlock with
   |none=>exact lo rfl
   |some q=>exact lx (λe=>by have:=h.low q hv;have:=a q e.symm;omega)),h.low⟩
theorem PH(e:rc zA)(A:Dr)(u:Option Addr)(c:Nat)(w:ly)(he:Z e=26)(hA:oi w 0 93 2 (U u (Z A.args) c) (Z A.args) (A.args.flatMap AQ))(HQ:Z A.args<=1000)(hg:∀t∈A.args,t.v=0\/(65<=t.v.toNat/\t.v.toNat<=90)):
  Calls prog 48 #[oj (j2 (Am e)),oj (j2 (CS A.name (U u (Z A.args) c) A.at_))] w λr w'=>∃x y,r=kt (oj (j2 (BL ⟨Av e A,U x (Z A.args) y⟩)))/\Ev w' ⟨Av e A,U x (Z A.args) y⟩/\(∀q,(U x (Z A.args) y).ownBlock=V q->w.heap.size<=q)/\Ac [] w w':=by
 obtain⟨i0,H8,HX,H9,H3⟩:=nC Tryz.zs;obtain⟨b,a,j⟩:=A;simp only at hA HQ hg⊢;have HV:nc (∀t wr,t∈a->Calls prog 89 #[oj (j2 (Am e)),oj (j2 (AQ t))] wr λr w'=>r=kt (O (AP e t))/\Ac [] wr w'):=λt wr ht=>Mt e t wr he (hg t ht)
 have HF:nc (∀x y wr,oi wr 0 9 1 (U x (Z a) y) (Z a) ((a.map (AP e)).flatMap Ai)->Ev wr ⟨Av e ⟨b,a,j⟩,U x (Z a) y⟩):=by
  intro x y wr h;show oi wr 0 9 1 _ (Z (a.map (AP e))) _;rw[mI];exact h
 have EM:nc (∀x y,BL ⟨Av e ⟨b,a,j⟩,U x (Z a) y⟩=[O b,U x (Z a) y]):=λx y=>rfl
 generalize Av e ⟨b,a,j⟩=FP at HF EM⊢;have hc:=Bs e;have hl:Z (Am e)=26:=by unfold Am;simp[he]
 generalize Am e=E at hc hl HV⊢;have z:=Ab (((re [] w).alloc (j1 (j2 E) 90)).alloc (j1 (j2 (CS b (U u (Z a) c) j)) 79));have HB:=Ab ((rf w E 90).alloc (j1 (j2 (CS b (U u (Z a) c) j)) 79));have HA:=Ab hA;simp only[CS]at z HB⊢;clear hA hg;go_enter func48,ntmps48;go_wp2_with fail
 obtain⟨N,W⟩:=rd w.heap.size;have E0:Xq ((((w.alloc (j1 (j2 E) 90)).alloc (j1 #[O b,U u (Z a) c,X J ↑j] 79)).alloc (j1 #[O {data:=#[]},U Y 0 0] 43)).alloc (j1 #[O b,U Y 0 0] 43)) N E b (U u (Z a) c) j a (U Y 0 0):=by
  have b1:=rf (w.alloc (j1 (j2 E) 90)) [O b,U u (Z a) c,X J j] 79;have b2:=rf ((w.alloc (j1 (j2 E) 90)).alloc (j1 #[O b,U u (Z a) c,X J ↑j] 79)) [O ⟨#[]⟩,U Y 0 0] 43;have b3:=rf (((w.alloc (j1 (j2 E) 90)).alloc (j1 #[O b,U u (Z a) c,X J ↑j] 79)).alloc (j1 #[O {data:=#[]},U Y 0 0] 43)) [O b,U Y 0 0] 43;simp only[m9,W]at b1 b2 b3;have b0:=Aa HB;rw[W]at b0;exact⟨(b0.alloc _).alloc _,(b1.alloc _).alloc _,b2.alloc _,b3,Ad HA (z.alloc _|>.alloc _),λq D=>by have:=(HA.lt q D).2;omega⟩
 have A1:=Ab E0;have B0:=Ab ((z.alloc (j1 #[O {data:=#[]},U Y 0 0] 43)).alloc (j1 #[O b,U Y 0 0] 43));rw[W];have S:=Ab W;clear E0 z HB HA W;change Code.wp _ _ _ _ ((((w.alloc (j1 (j2 E) 90)).alloc (j1 #[O b,U u (Z a) c,X J ↑j] 79)).alloc (j1 #[O {data:=#[]},U Y 0 0] 43)).alloc (j1 #[O b,U Y 0 0] 43));generalize((((w.alloc (j1 (j2 E) 90)).alloc (j1 #[O b,U u (Z a) c,X J ↑j] 79)).alloc (j1 #[O {data:=#[]},U Y 0 0] 43)).alloc (j1 #[O b,U Y 0 0] 43))=w1 at A1 B0⊢
 go_loopg [6] (Z a) (λgk i wr=>∃(k:Nat) (f:Option Addr) (d:Nat),i=X J k/\k<=Z a/\gk=Z a-k/\nc (Xq wr N E b (U u (Z a) c) j a (U f k d))/\nc (oi wr (N+1+1+1+1) 9 1 (U f k d) k (((a.take k).map (AP e)).flatMap Ai))/\nc (Ac [] w wr))
 case atStart=>exact⟨0,Y,0,rfl,by omega,rfl,A1,mS _ _ _ _,B0⟩
 case round=>
  clear A1 B0;obtain⟨k,f,d,rfl,hk,HI,o,Q,z⟩:=hrel;have HG:=Ab HI;clear HI;have HD:=o.b1.cell 1;simp at HD;by_cases AB:k<Z a
  .obtain⟨g,F,Ha,d0,d1⟩:=ON o.row k AB;simp only[mu]at Ha;obtain⟨rfl,_,rfl⟩:=Ha;obtain⟨T,P⟩:=rd (a[k]);(have HR:nc (T∈a):=by show _∈_;rw[<-P];exact mw AB);have HW:nc (a[k]=T):=P;rw[P]at d0 d1;(have KD:(0:Int)<=(k:Int):=by omega);(have Jx:(k:Int)<(Z a:Int):=by omega);have L:nc (∀l,Xq l N E b (U (V ⟨g,0,Y⟩) (Z a) c) j a (U f k d)->l.rangeAt N 0 E/\oa l ⟨N+1+1+1,1,Y⟩=V (U f k d)/\oa l ⟨N+1,1,Y⟩=V (U (V ⟨g,0,Y⟩) (Z a) c)/\oa l ⟨g,k*2,Y⟩=V (X .u8 T.v.toNat)/\oa l ⟨g,k*2+1,Y⟩=V (O T.s)):=by
    intro l H;obtain⟨g',JJ,ES,f0,f1⟩:=ON H.row k AB;simp only[mu,mB,nr]at ES;obtain⟨⟨rfl,_,_⟩,_,_⟩:=ES;rw[P]at f0 f1;have x3:=H.b3.cell 1;have x1:=H.b1.cell 1;simp at x1 x3;exact⟨H.b0.range,x3,x1,f0,f1⟩
   clear P;have B:=Ab (L wr.drew (o.kept (re [] wr).drew));(go_wp2_with fail);refine CA 12 (λl=>l.rangeAt N 0 E/\oa l ⟨N+1+1+1,1,Y⟩=V (U f k d)/\oa l ⟨N+1,1,Y⟩=V (U (V ⟨g,0,Y⟩) (Z a) c)/\oa l ⟨g,k*2,Y⟩=V (X .u8 T.v.toNat)/\oa l ⟨g,k*2+1,Y⟩=V (O T.s)) (by kernel_rfl) ?_;refine Cz.tq (i:=0) (v:=j3 (V ⟨N+1+1+1,1,Y⟩)) rfl (λ_ _ _ h=>h) B ?_;simp only[qY,mq,mr,mt];refine Cz.tq (i:=1) (v:=U f k d) rfl (λ_ _ _ h=>h) B ?_;simp only[qY,mq,mr,mt];refine Cz.take (i:=2) (v:=oj (j2 E)) rfl (by kernel_rfl) (by kernel_rfl) (by kernel_rfl) (by kernel_rfl) (λ_ _ _ h=>h) B (yieldsIf_load_mid (by rfl) 90 _ rfl N 0 (by rfl) E _ (λl H=>H.1) underlying90 rfl (by rw[hl];exact Tryz.zJ)) ?_;simp only[qY,mq,mr,mt];refine Cz.tq (i:=3) (v:=j3 (V ⟨N+1,1,Y⟩)) rfl (λ_ _ _ h=>h) B ?_;simp only[qY,mq,mr,mt];refine Cz.tq (i:=4) (v:=U (V ⟨g,0,Y⟩) (Z a) c) rfl (λ_ _ _ h=>h) B ?_;simp only[qY,mq,mr,mt];refine Cz.tq (i:=5) (v:=X J k) rfl (λ_ _ _ h=>h) B ?_;simp only[qY,mq,mr,mt];refine Cz.tq (i:=6) (v:=j3 (V ⟨g,k*2,Y⟩)) rfl (λ_ _ _ h=>h) B ?_;simp only[qY,mq,mr,mt];refine Cz.tk (i:=7) (v:=oj (j2 (AQ T))) rfl (by kernel_rfl) (λ_ _ _ h=>h) B (by rfl) ?_ ?_
   ·(intro l JA;simp only[AQ];go_simp)
   simp only[qY,mq,mr,mt];refine Cz.one (i:=8) (by kernel_rfl) rfl (λC m=>?_)
   go_simp
   obtain⟨M,hV⟩:=rd (AP e T);have Bx:=Ab (HV T wr.drew HR);rw[hV]at Bx;have H7:=Ab hV;clear hV;refine Bx.mono ?_;rintro _ I ⟨rfl,R⟩;have Ax:=o.kept ((re [] wr).drew.trans R);refine m.out _ _ (λ_=>L I Ax) ?_;clear m C Bx
   try simp only[qY,mq,mr,mt]
   refine Cz.one (i:=9) (by kernel_rfl) rfl (λC m=>?_)
   go_simp
   have B2:=Ax.kept ((re [] I).alloc (j1 #[O M] 9));refine m.out _ _ (λ_=>L _ B2) ?_;clear m C
   try simp only[qY,mq,mr,mt]
   have AO:=Ad Q ((re [] wr).drew.trans R);have IA:=R.size;(have IS:N+1+1+1+1<=I.heap.size:=by have:=Ax.b3.lt;omega);refine Cz.one (i:=10) (by kernel_rfl) rfl (λC m=>?_);refine pi _ (by rfl) _ _ _ (by rfl) (N+1+1+1+1) 9 i0 _ 1 16 underlying41 H8 HX H9 H3 rfl (by omega) (U f k d) k (((a.take k).map (AP e)).flatMap Ai) (by rfl) (mE AO _)
         ⟨I.heap.size,0,Y⟩ 1 1 [O M] (by rfl) (by rfl) (mW (m7 I _)) (by simp[Value.oneCell'])
         (by omega) (by unfold maxLen;omega) (by omega) (by simp;omega) (I.heap.size+1) (by simp) ?_
   intro G F w5 BT BS H4 H5;have n:=B2.grown BS (λq D=>(AO.lt q D).1);refine m.out _ _ (λ_=>L _ n) ?_;clear m C
   try simp only[qY,mq,mr,mt]
   refine Cz.one (i:=11) (by kernel_rfl) rfl (λC m=>?_)
   go_simp
   refine m.out _ _ (λ_=>L _ n) ?_;clear m C
   try simp only[qY,mq,mr,mt]
   have y1:=n.b3.cell 1;have yf:=n.b3.frozen 1;simp at y1;refine Cz.one (i:=12) (by kernel_rfl) rfl (λC m=>?_)
   go_simp
   refine m.out _ _ (λh=>absurd rfl h) ?_;clear m C;refine Cz.done (by kernel_rfl) ?_ _
   try simp only[qY,mq,mr,mt]
   have FW:nc (Xq (w5.setCell ⟨N+1+1+1,1,Y⟩ (U (V ⟨G,0,Y⟩) (k+1) F)) N E b (U (V ⟨g,0,Y⟩) (Z a) c) j a (U (V ⟨G,0,Y⟩) (k+1) F)):=
    ⟨n.b0.zB _ (show N+1+1+1≠N by omega) _,n.b1.zB _ (show N+1+1+1≠N+1 by omega) _,n.b2.zB _ (show N+1+1+1≠N+1+1 by omega) _,n.b3.set 1 _,Ah n.row (λh=>by have:=n.low _ h;simp at this;omega) _,n.low⟩
   have FO:nc (oi (w5.setCell ⟨N+1+1+1,1,Y⟩ (U (V ⟨G,0,Y⟩) (k+1) F)) (N+1+1+1+1) 9 1 (U (V ⟨G,0,Y⟩) (k+1) F) (k+1) (((a.take (k+1)).map (AP e)).flatMap Ai)):=by
    have h:=Ah BT (p:=⟨N+1+1+1,1,Y⟩) (λh=>by have:=(BT.lt _ h).1;simp at this;omega) (U (V ⟨G,0,Y⟩) (k+1) F);rw[mx AB,nk,mY,Aa HW];simp only[mU,oH,mX,nP,np,Aa H7,Ai];exact h
   have HH:=Ab (((z.drew.trans R).alloc (j1 #[O M] 9)).grown BS (λq D=>lx (by have:=(AO.lt q D).1;have:=Aa S;omega))|>.setCell (p:=⟨N+1+1+1,1,Y⟩) (lx (by have:=Aa S;simp;omega)) (U (V ⟨G,0,Y⟩) (k+1) F));clear BT BS H4 H5 n B2 Ax AO R B L o Q z y1 yf d0 d1 HD;generalize w5.setCell ⟨N+1+1+1,1,Y⟩ (U (V ⟨G,0,Y⟩) (k+1) F)=w6 at FW FO HH⊢;go_wp2
   go_roundg (Z a-(k+1))
   case measure=>have:=Aa HG;omega
   case rel=>exact⟨k+1,V ⟨G,0,Y⟩,F,by go_num,by omega,rfl,FW,FO,HH⟩
  ·(have HZ:k=Z a:=by omega);have x0:=o.b3.cell 0;have x1:=o.b3.cell 1;have y0:=o.b2.cell 0;have y1:=o.b2.cell 1;have yf:=o.b2.frozen;simp at x0 x1 y0 y1;have H1:nc (AI ((wr.setCell ⟨N+1+1,0,Y⟩ (O b)).setCell ⟨N+1+1,1,Y⟩ (U f k d)) (N+1+1) [O b,U f k d] 43):=(o.b2.set 0 _).set 1 _;have HM:nc (oi ((wr.setCell ⟨N+1+1,0,Y⟩ (O b)).setCell ⟨N+1+1,1,Y⟩ (U f k d)) 0 9 1 (U f k d) k ((a.map (AP e)).flatMap Ai)):=by
    have h:=Aa Q;rw[mz (by omega)]at h;(have hb:∀q,(U f k d).ownBlock=V q->q≠N+1+1:=λq D=>by have:=(h.lt q D).1;omega);exact Ak (Ah (Ah h (λh=>hb _ h rfl) _) (λh=>hb _ h rfl) _) (by omega)
   (have Ix:nc (∀q,(U f k d).ownBlock=V q->w.heap.size<=q):=λq D=>by have:=(Q.lt q D).1;have:=Aa S;omega);have HY:=Ab ((z.setCell (p:=⟨N+1+1,0,Y⟩) (lx (by have:=Aa S;simp;omega)) (O b)).setCell (p:=⟨N+1+1,1,Y⟩) (lx (by have:=Aa S;simp;omega)) (U f k d));clear o Q z;go_wp2;subst HZ;refine m5 (Cj rfl rfl H1 underlying43 rfl (by kernel_rfl)) rfl ⟨f,d,?_,HF f d _ HM,Ix,HY⟩;rw[Aa EM]
def QI(cs:rc AV)(p:Bb):Bool:=MP p&&((decide (0<=BQ cs p.1.A.name)&& !(BQ cs p.1.A.name==(Z p.1.A.args:Int)))||decide (2<Z p.1.A.args))
def Gj:Dr:=⟨q9,[],0⟩
def LI(cs:rc AV)(bl:rc Bb):Int×Int:=
 match bl.find? (QI cs)with
 |some p=>(4,p.1.A.at_)
 |none=>if 0<=Ee Gj bl then(5,Ee Gj bl)else(0,0)
def D5(s:zA)(cs:rc AV)(er at_:Int):Prop:=
 if 300<s.size then er=1/\at_=0
 else if(Bg s 0).2.2=jj\/Ae s (Bg s 0).2.1<s.size then er=2/\at_=(AF s (Bg s 0).2.1 (Bg s 0).2.2:Int)
 else if 3<Z (Bg s 0).1 then er=3/\at_=0
 else∃bl:rc Bb,bl.map Prod.fst=(Bg s 0).1/\(er,at_)=LI cs bl
def Nt(d:rc AV)(p:Bb)(e:BQ d p.1.A.name=I)(f:Z p.1.A.args=n):
  (QI d p=jj/\MP p=jj/\((0<=I/\(I==(n:Int))=K/\¬I=(n:Int)/\True)\/(0<=I/\(I==(n:Int))=jj/\I=(n:Int)/\(2:Int)<(n:Int))\/(I<0/\True/\True/\(2:Int)<(n:Int))))\/
  (QI d p=K/\(MP p=K\/(MP p=jj/\((0<=I/\(I==(n:Int))=jj/\I=(n:Int)/\¬(2:Int)<(n:Int))\/(I<0/\True/\True/\¬(2:Int)<(n:Int)))))):=by
 unfold QI;rw[e,f];cases hi:MP p with
 |false=>exact lx ⟨rfl,lo rfl⟩
 |true=>
  by_cases c:0<=I
  .by_cases a:I=(n:Int)
   .by_cases b:2<n
    .exact lo ⟨by simp[b],rfl,lx (lo ⟨c,by simp[a],a,by omega⟩)⟩
    .exact lx ⟨by simp[b,a],lx ⟨rfl,lo ⟨c,by simp[a],a,by omega⟩⟩⟩
   .exact lo ⟨by simp[c,a],rfl,lo ⟨c,by simp[a],a,trivial⟩⟩
  .by_cases b:2<n
   .exact lo ⟨by simp[b],rfl,lx (lx ⟨by omega,trivial,trivial,by omega⟩)⟩
   .exact lx ⟨by simp[b,c],lx ⟨rfl,lx ⟨by omega,trivial,trivial,by omega⟩⟩⟩
