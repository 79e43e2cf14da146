import Derived.Test.YtoihbhenbmffcaaGreatZBA
set_option linter.all false
set_option maxHeartbeats 0
open List renaming length->Z
open Option renaming none->Y,some->V
open Go.Value renaming slice->U,int->X,string->O,pointer->j2,agg->kx,bool->k0,ownBlock->kF
open Bool renaming false->K,true->hG
open Go.IntKind renaming i64->J
open Go.Obj renaming cells->jj
open Go.Ending renaming returned->j3
open Or renaming inr->kp
open Go renaming World->kq,Value->ks
open Go.RowKit renaming Hid->kt
open Go.World renaming cell?->ku,ownsRow->kw
namespace Go.Proofs.YtoihbhenbmffcaaGreat
open Go.RowKit Go.Proofs.Tryz
variable{s:zA}{c:kJ AY}{w v u:kq}{m k n b j i:Nat}{z:ks}{y x:kJ ks}{o:Option Addr}{M:kJ Nat}{p:kJ CB}
def WP(h:KG s=hG):O0 (CI s)/\Z (CI s).args<=2:=by
 obtain⟨_,b,_⟩:=Ik h;unfold KG at h;rw[fU]at h;obtain⟨a,_⟩:=h;have hF:CI s=Av BM (Ao s 0).1.head:=by unfold CI;rw[fF a]
 unfold KP at a;simp only[fU,iK,it]at a;obtain⟨m,e,g,l,j⟩:=a;rw[hF]at b⊢;refine⟨⟨by simp[Av];omega,λx c=>?_⟩,by simp[Av];omega⟩;have i:=(b x c).size;obtain⟨t,d,rfl⟩:=fC.1 c;have f:=(I6 s 0).1.2 t d;have k:(AJ BM t).size<=t.s.size:=by
  unfold AJ BM;split
  .exact fJ _
  .rw[fG,List.getElem?_replicate];split<;>exact fP _
 omega
def GO(cs:kJ AY)(u:kJ Ag)(s:zA):Int×kJ Ag:=if EI cs s=0 then(if DI u (CI s)=hG then(8,u)else(0,Ba u (CI s)))else(EI cs s,u)
def J5(h:EI c s=0):KG s=hG:=by
 unfold EI at h;cases ho:KG s with
 |true=>rfl
 |false=>rw[ho]at h;simp at h
def G2(bb pb:Nat)(lad:Option Addr)(lcp:Nat)(cs:kJ AY)(r:Int×kJ Ag)(w:kq)(e:Ending)(w':kq):Prop:=∃(ad:Option Addr) (cp:Nat) (fs:kJ BD),e=j3 (X J r.1)/\fs.map BD.f=r.2/\G5 w' bb pb lad lcp cs ad cp fs/\Ac [bb] w w'
def cw{e t:TypeId}(h:kw w m e k z n y)(d:AF w b x t)(f:e≠t):z.ownBlock≠V b:=by
 intro a;rcases h.2 with⟨rfl,_⟩|⟨g,j,i,rfl,_,c,_⟩
 .simp[kF]at a
 .simp only[kF,fu]at a;subst a;unfold AF at d;rw[d]at c;simp only[fu,Obj.cells.injEq]at c;exact f c.2.1.symm
def cZ{t u:TypeId}(h:AF w n y t)(c:AF w b x u)(d:t≠u):n≠b:=by
 rintro rfl;unfold AF at h c;rw[h]at c;simp only[fu,Obj.cells.injEq]at c;exact d c.2.1
def G5.put{u:kJ AY}{z:Option Addr}{A:kJ BD}(h:G5 w m k o j u z b A){g:Option Addr}{f:Nat}{a:kJ BD}(q:D8 w (U g (Z a) f) a):
  G5 (w.setCell ⟨m,1,Y⟩ (U g (Z a) f)) m k o j u g f a:=by
 have t:Ac [m] w (w.setCell ⟨m,1,Y⟩ (U g (Z a) f)):=(kL [m] w).setCell (p:=⟨m,1,Y⟩) (by simp) _;have d:∀{base e sz n v xs},kw w base e sz v n xs->e≠52->World.ownsRow (w.setCell ⟨m,1,Y⟩ (U g (Z a) f)) base e sz v n xs:=λx y=>Am x t (λi B s=>by
  simp only[ft]at s
  subst s
  exact cw x h.base y B)
 exact⟨by have:=h.base.set 1 (U g (Z a) f);simpa using this,h.prog.kept t (by simpa using cZ h.prog h.base (by decide)),⟨d h.rows.row (by decide),λc r=>⟨d (h.rows.each c r).args (by decide),d (h.rows.each c r).body (by decide),λp l=>d ((h.rows.each c r).lits p l) (by decide)⟩⟩,⟨d q.row (by decide),λp l=>⟨d (q.each p l).1 (by decide),(q.each p l).2⟩⟩⟩
set_option maxRecDepth 100000
theorem aR(m x:Nat)(A:Option Addr)(z:Nat)(j:kJ AY)(q:Option Addr)(o:Nat)(g:kJ BD)(s:zA)(w:kq)(h:G5 w m x A z j q o g)(hF:N6 j)(hl:Z j<=12)(CC:∀c∈j,GC c)(FP:Z (Bc j)<=6)(FB:s.size<=9223372036854775807)(HF:Z g<=1000):
  Calls prog 8 #[j2 (V ⟨m,0,Y⟩),O s] w (G2 m x A z j (GO j (g.map BD.f) s) w):=by
 have CW:=Ab (Xy m x A z j q o g s w h hF hl CC FP FB);have HB:=Ab h;clear h hF CC;go_enter func8,ntmps8;go_wp2_with fail
 refine CW.mono ?_;rintro _ t ⟨⟨⟨i,a⟩,xv⟩,rfl,M,W,T⟩;obtain⟨l,k,e⟩:=Aj W;simp only at e M;subst e;simp only[Bp];have H:=Ab (HB.kept T);have Q:=Ab T;have AH:=Ab M;have EX:=Ab W;clear CW M W T;by_cases D:EI j s=0
 .have FA:(EI j s !=0)=K:=by simp[D]
  have EM:=WP (J5 D);have r:kt (GO j (g.map BD.f) s=if DI (g.map BD.f) ⟨i,a⟩=hG then(8,g.map BD.f)else(0,Ba (g.map BD.f) ⟨i,a⟩)):=by
   show _=_;unfold GO;rw[fF D,<-Aa AH]
  have G:=Ab (kN t [O i,U l (Z a) k] 63);have u:=Ab (H.kept ((kL [] t).alloc (jj [O i,U l (Z a) k].toArray 63)));have Ax:=Ab (Q.alloc (jj [O i,U l (Z a) k].toArray 63));have R:=Ab (Ew.kept (Aa EX) ((kL [] t).alloc (jj [O i,U l (Z a) k].toArray 63)));have E0:m<t.heap.size:=H.base.lt;go_wp2_with fail
  change Code.wp _ _ _ _ (t.alloc (jj [O i,U l (Z a) k].toArray 63));generalize t.alloc (jj [O i,U l (Z a) k].toArray 63)=w3 at G u Ax R⊢;obtain⟨y,hX⟩:=kK t.heap.size;rw[hX]at G E0⊢;clear hX;have L:kt (∀d,Ac [] w3 d->ku d ⟨m,1,Y⟩=V (U q (Z g) o)/\ku d ⟨y,0,Y⟩=V (O i)/\ku d ⟨y,1,Y⟩=V (U l (Z a) k)):=λd n=>⟨by have:=(u.kept n).base.cell 1;simpa using this,n.cellAt (by have:=G.cell 0;simpa using this),n.cellAt (by have:=G.cell 1;simpa using this)⟩
  have P:O0 ⟨i,a⟩:=by rw[Aa AH];exact EM.1
  obtain⟨F,N⟩:=kK (DI (g.map BD.f) ⟨i,a⟩);have EK:kt (∀d,Ac [] w3 d->Calls prog 21 #[U q (Z g) o,kx #[O i,U l (Z a) k]] d λe B=>e=j3 (k0 F)/\Ac [] d B):=λd n=>by
   have h:=JZ q o g ⟨⟨i,a⟩,U l (Z a) k⟩ d (u.kept n).facts (Ew.kept (Aa R) n) (by omega) P;(have hh:(g.any λp=>Cl p.f (⟨i,a⟩:Ag))=F:=by rw[<-N];unfold DI;rw[jy];rfl);exact h.mono λe B h=>⟨h.1.trans (congrArg (λb=>j3 (k0 b)) hh),h.2⟩
  have FT:kt (∀d,Ac [] w3 d->Calls prog 22 #[U q (Z g) o,kx #[O i,U l (Z a) k]] d λe B=>∃ad cp,e=j3 (U ad (Z (Ii g ⟨⟨i,a⟩,U l (Z a) k⟩)) cp)/\D8 B (U ad (Z (Ii g ⟨⟨i,a⟩,U l (Z a) k⟩)) cp) (Ii g ⟨⟨i,a⟩,U l (Z a) k⟩)/\Ac [] d B):=λd n=>Re q o g ⟨⟨i,a⟩,U l (Z a) k⟩ d (u.kept n).facts (Ew.kept (Aa R) n) (by omega) P
  rw[N]at r;clear N EM P H Q EX
  go_region_held3 (λd=>Ac [] w3 d/\ku d ⟨m,1,Y⟩=V (U q (Z g) o)/\ku d ⟨y,0,Y⟩=V (O i)/\ku d ⟨y,1,Y⟩=V (U l (Z a) k)) ((go_split_ands;refine(fun(BT:Ac [] w3 _)=>And.intro BT (L _ BT)) ?_;repeat (first|assumption|exact kL [] _|refine Ac.drew ?_|refine Ac.alloc ?_ _))) ((go_at_call 21;refine(EK _ (by go_split_ands;assumption)).mono ?_;rintro _ C ⟨rfl,k5⟩;have v:Ac [] w3 C:=(by go_split_ands;exact Ac.trans (by assumption) k5);clear k5))
  rename_i FO;clear FO EK;cases F with
  |true=>
   have E:kt (G2 m x A z j (GO j (g.map BD.f) s) w (j3 (X J 8)) C):=⟨q,o,g,by rw[Aa r];rfl,by rw[Aa r];rfl,u.kept v,Ac.mono (Ax.trans v) (by simp)⟩;(go_wp2_with fail);go_ret;exact E
  |false=>
   obtain⟨d0,d1,d2⟩:=L C v;(have FC:kt (∀d,Ac [] C d->ku d ⟨m,1,Y⟩=V (U q (Z g) o)/\d.frozen? ⟨m,1,Y⟩=K):=λd n=>⟨(L d (v.trans n)).1,(u.kept (v.trans n)).base.frozen 1⟩);go_wp2_with fail
   go_region_law (go_simp;go_at_call 22;refine(FT _ (v.drew)).mono ?_;rintro _ I ⟨AB,AT,rfl,CL,S⟩;obtain⟨g1,g2⟩:=FC I ((kL [] C).drew.trans S))
   all_goals
    have E:kt (G2 m x A z j (GO j (g.map BD.f) s) w (j3 (X J 0)) (I.setCell ⟨m,1,Y⟩ (U AB (Z (Ii g ⟨⟨i,a⟩,U l (Z a) k⟩)) AT))):=by
     have B9:Ac [] w3 I:=(v.drew).trans S;refine⟨AB,AT,_,by rw[Aa r];rfl,?_,(u.kept B9).put CL,(Ac.mono (Ax.trans B9) (by simp)).setCell (p:=⟨m,1,Y⟩) (by simp) _⟩;rw[Aa r,Nw];rfl
    clear CL S g1 g2 r;(go_wp2_with fail);go_ret;exact E
 .have FA:(EI j s !=0)=hG:=by simp[D]
  have r:kt (GO j (g.map BD.f) s=(EI j s,g.map BD.f)):=by show _=_;unfold GO;rw[fB D]
  have E:kt (G2 m x A z j (GO j (g.map BD.f) s) w (j3 (X J (EI j s))) (t.alloc (jj #[O i,U l (Z a) k] 63))):=⟨q,o,g,by rw[Aa r],by rw[Aa r],H.kept ((kL [] t).alloc _),(Ac.mono (Aa Q) (by simp)).alloc _⟩;go_wp2_with fail
  go_ret;exact E
def GN(cs:kJ AY)(u:kJ Ag)(s:zA):Int×kJ Ag:=if EI cs s=0 then(if DI u (CI s)=hG then(0,u.filter λg=> !Cl g (CI s))else(7,u))else(EI cs s,u)
theorem ZD(u Q:Nat)(S:Option Addr)(R:Nat)(n:kJ AY)(F:Option Addr)(z:Nat)(a:kJ BD)(s:zA)(w:kq)(h:G5 w u Q S R n F z a)(hF:N6 n)(hl:Z n<=12)(HU:∀c∈n,GC c)(KK:Z (Bc n)<=6)(K3:s.size<=9223372036854775807)(M0:Z a<=1000):
  Calls prog 10 #[j2 (V ⟨u,0,Y⟩),O s] w (G2 u Q S R n (GN n (a.map BD.f) s) w):=by
 have Ix:=Ab (Xy u Q S R n F z a s w h hF hl HU KK K3);have HB:=Ab h;clear h hF HU;go_enter func10,ntmps10;go_wp2_with fail
 refine Ix.mono ?_;rintro _ B ⟨⟨⟨l,j⟩,xv⟩,rfl,HA,Ha,k2⟩;obtain⟨r,t,e⟩:=Aj Ha;simp only at e HA;subst e;simp only[Bp];have CC:=Ab (HB.kept k2);have HF:=Ab k2;have HM:=Ab HA;have HW:=Ab Ha;clear Ix HA Ha k2;by_cases hz:EI n s=0
 .have JJ:(EI n s !=0)=K:=by simp[hz]
  have HV:=WP (J5 hz);have G:kt (GN n (a.map BD.f) s=if DI (a.map BD.f) ⟨l,j⟩=hG then(0,(a.map BD.f).filter λg=> !Cl g ⟨l,j⟩)else(7,a.map BD.f)):=by
   show _=_;unfold GN;rw[fF hz,<-Aa HM]
  have CL:=Ab (kN B [O l,U r (Z j) t] 63);have y:=Ab (CC.kept ((kL [] B).alloc (jj [O l,U r (Z j) t].toArray 63)));have HJ:=Ab (HF.alloc (jj [O l,U r (Z j) t].toArray 63));have HH:=Ab (Ew.kept (Aa HW) ((kL [] B).alloc (jj [O l,U r (Z j) t].toArray 63)));have LB:u<B.heap.size:=CC.base.lt;go_wp2_with fail
  change Code.wp _ _ _ _ (B.alloc (jj [O l,U r (Z j) t].toArray 63));generalize B.alloc (jj [O l,U r (Z j) t].toArray 63)=w3 at CL y HJ HH⊢;obtain⟨x,hX⟩:=kK B.heap.size;rw[hX]at CL LB⊢;clear hX;have HL:kt (∀d,Ac [] w3 d->ku d ⟨u,1,Y⟩=V (U F (Z a) z)/\ku d ⟨x,0,Y⟩=V (O l)/\ku d ⟨x,1,Y⟩=V (U r (Z j) t)):=λd o=>⟨by have:=(y.kept o).base.cell 1;simpa using this,o.cellAt (by have:=CL.cell 0;simpa using this),o.cellAt (by have:=CL.cell 1;simpa using this)⟩
  have HE:O0 ⟨l,j⟩:=by rw[Aa HM];exact HV.1
  obtain⟨HS,FT⟩:=kK (DI (a.map BD.f) ⟨l,j⟩);have H5:kt (∀d,Ac [] w3 d->Calls prog 21 #[U F (Z a) z,kx #[O l,U r (Z j) t]] d λe w'=>e=j3 (k0 HS)/\Ac [] d w'):=λd o=>by
   have h:=JZ F z a ⟨⟨l,j⟩,U r (Z j) t⟩ d (y.kept o).facts (Ew.kept (Aa HH) o) (by omega) HE;(have hh:(a.any λp=>Cl p.f (⟨l,j⟩:Ag))=HS:=by rw[<-FT];unfold DI;rw[jy];rfl);exact h.mono λe w' h=>⟨h.1.trans (congrArg (λb=>j3 (k0 b)) hh),h.2⟩
  have LM:kt (∀p∈a,∀d,Ac [] w3 d->Calls prog 24 #[kx (Bp p).toArray,kx #[O l,U r (Z j) t]] d λe w'=>e=j3 (k0 (Cl p.f ⟨l,j⟩))/\Ac [] d w'):=λp hp d o=>RW p ⟨⟨l,j⟩,U r (Z j) t⟩ d (((y.kept o).facts.each p hp).1) (Ew.kept (Aa HH) o) (by have:=((y.facts).each p hp).2.len;omega) (by have h:Z j<=1000:=HE.len;show Z j<=1000000;omega)
  rw[FT]at G;clear FT HV HE CC HF HW
  go_region_held3 (λd=>Ac [] w3 d/\ku d ⟨u,1,Y⟩=V (U F (Z a) z)/\ku d ⟨x,0,Y⟩=V (O l)/\ku d ⟨x,1,Y⟩=V (U r (Z j) t)) ((go_split_ands;refine(fun(BA:Ac [] w3 _)=>And.intro BA (HL _ BA)) ?_;repeat (first|assumption|exact kL [] _|refine Ac.drew ?_|refine Ac.alloc ?_ _))) ((go_at_call 21;refine(H5 _ (by go_split_ands;assumption)).mono ?_;rintro _ w5 ⟨rfl,k5⟩;have L:Ac [] w3 w5:=(by go_split_ands;exact Ac.trans (by assumption) k5);clear k5))
  rename_i LC;clear LC H5;cases HS with
  |false=>
   have I:kt (G2 u Q S R n (GN n (a.map BD.f) s) w (j3 (X J 7)) w5):=⟨F,z,a,by rw[Aa G];rfl,by rw[Aa G];rfl,y.kept L,Ac.mono (HJ.trans L) (by simp)⟩;(go_wp2_with fail);go_ret;exact I
  |true=>
   obtain⟨d0,d1,T⟩:=HL w5 L;obtain⟨i0,LS,K2,MB,LD⟩:=gH Tryz.info63;obtain⟨N,hN⟩:=kK w5.heap.size;have HN:=Ab hN;clear hN;go_wp2_with fail
   go_loopg [8,9] (Z a) (λgk lv i wq=>∃(k:Nat) (m:kJ BD) (D:Option Addr) (E:Nat),lv=U D (Z m) E/\i=X J k/\k<=Z a/\gk=Z a-k/\kt (m=(a.take k).filter λp=> !Cl p.f ⟨l,j⟩)/\kt (kw wq N 63 2 (U D (Z m) E) (Z m) (m.flatMap Bp))/\kt (Ac [] w5 wq))
   case atStart=>exact⟨0,[],Y,0,rfl,rfl,by omega,rfl,by show _=_;simp,fK _ _ _ _,kL _ _⟩
   case round=>
    obtain⟨k,m,D,E,rfl,rfl,o,H8,EK,I,W⟩:=hrel;have HG:=Ab H8;clear H8 d0 d1 T;have M1:Z m<=1000:=by
     have h1:=ib (λp:BD=> !Cl p.f ⟨l,j⟩) (a.take k);rw[<-Aa EK,gq]at h1;omega
    obtain⟨d0,d1,T⟩:=HL wr (L.trans W);by_cases FP:k<Z a
    ·(have NA:(k:Int)<(Z a:Int):=by omega);(have MY:(0:Int)<=(k:Int):=by omega);obtain⟨g,NL,A,v,M,H,he,HI,e0,e1⟩:=Dn (y.kept (L.trans W)).facts k FP;simp only[fg]at he;obtain⟨rfl,-,rfl⟩:=he;have Bx:=Ab (LM _ (fj FP));rw[HI]at Bx;have AH:kt ((a.take (k+1)).filter (λp=> !Cl p.f ⟨l,j⟩)=if Cl ⟨A,v⟩ ⟨l,j⟩=hG then m else m++[⟨⟨A,v⟩,U M (Z v) H⟩]):=by
      show _=_;rw[fm FP,iD,<-Aa EK,HI];cases hb:Cl (⟨A,v⟩:Ag) ⟨l,j⟩<;>simp[gW,hb]
     obtain⟨SB,H2⟩:=kK (Cl (⟨A,v⟩:Ag) ⟨l,j⟩);simp only[Bp]at Bx;rw[H2]at Bx AH;(have EM:kt (∀d,Ac [] wr d->ku d ⟨u,1,Y⟩=V (U (V ⟨g,0,Y⟩) (Z a) z)/\ku d ⟨g,k*2,Y⟩=V (O A)/\ku d ⟨g,k*2+1,Y⟩=V (U M (Z v) H)/\ku d ⟨x,0,Y⟩=V (O l)/\ku d ⟨x,1,Y⟩=V (U r (Z j) t)):=λd o=>⟨o.cellAt d0,o.cellAt e0,o.cellAt e1,o.cellAt d1,o.cellAt T⟩);have K7:=Ab (L.trans W);clear H2 HI;go_wp2_with fail
     go_region_held3 (λd=>Ac [] wr d/\ku d ⟨u,1,Y⟩=V (U (V ⟨g,0,Y⟩) (Z a) z)/\ku d ⟨g,k*2,Y⟩=V (O A)/\ku d ⟨g,k*2+1,Y⟩=V (U M (Z v) H)/\ku d ⟨x,0,Y⟩=V (O l)/\ku d ⟨x,1,Y⟩=V (U r (Z j) t)) ((go_split_ands;refine(fun(BA:Ac [] wr _)=>And.intro BA (EM _ BA)) ?_;repeat (first|assumption|exact kL [] _|refine Ac.drew ?_|refine Ac.alloc ?_ _))) ((go_at_call 24;refine(Bx _ (K7.trans (by go_split_ands;assumption))).mono ?_;rintro _ P ⟨rfl,k7⟩;have FB:Ac [] wr P:=(by go_split_ands;exact Ac.trans (by assumption) k7);clear k7))
     rename_i KS;clear KS Bx;have FW:=Ab (W.trans FB);have Go:=Ab (Ad (Aa I) FB);cases SB with
     |true=>
      (have EY:kt (m=(a.take (k+1)).filter λp=> !Cl p.f ⟨l,j⟩):=by show _=_;rw[Aa AH];rfl);clear AH EM d0 d1 T e0 e1;go_wp2_with fail
      go_roundg (Z a-(k+1))
      case measure=>have:=Aa HG;omega
      case rel=>exact⟨k+1,m,D,E,rfl,by go_num,by omega,rfl,EY,Go,FW⟩
     |false=>
      (have EY:kt (m++[⟨⟨A,v⟩,U M (Z v) H⟩]=(a.take (k+1)).filter λp=> !Cl p.f ⟨l,j⟩):=by show _=_;rw[Aa AH];rfl);obtain⟨f0,f1,f2,-,-⟩:=EM P FB;clear AH EM d0 d1 T e0 e1;have NB:=(Aa FW).size;(have NS:N<=P.heap.size:=by have:=Aa HN;omega);go_wp2_with (at_builtin;refine fO _ rfl (.tmp 48) (.tmp 56) _ rfl N 63 i0 _ 2 40 underlying37 LS K2 MB LD rfl (by omega) (U D (Z m) E) (Z m) (m.flatMap Bp) rfl (fw (Aa Go) _) ⟨P.heap.size,0,Y⟩ 1 1 [O A,U M (Z v) H] rfl rfl (fM (fX P _)) (by simp[Value.oneCell']) (by omega) (by unfold maxLen;omega) (by omega) (by simp;omega) (P.heap.size+1) (by simp) ?_;intro g1 HY w8 H3 HZ Jx K1;have HT:=Ab H3;have K5:=Ab (((Aa FW).alloc (jj #[O A,U M (Z v) H] 63)).grown HZ (λq hq=>kp (by have h1:=(World.ownsRow.lt (Aa Go) q hq).1;have:=Aa HN;omega)));clear H3 HZ Jx K1)
      obtain⟨C,CW⟩:∃C:kJ BD,C=m++[⟨⟨A,v⟩,U M (Z v) H⟩]:=⟨_,rfl⟩;(have HC:Z m+1=Z C:=by rw[CW];simp);have FC:kt (kw w8 N 63 2 (U (V ⟨g1,0,Y⟩) (Z C) HY) (Z C) (C.flatMap Bp)):=by
       show World.ownsRow _ _ _ _ _ _ _;rw[<-HC,CW,fR];exact Aa HT
      (have K9:kt (C=(a.take (k+1)).filter λp=> !Cl p.f ⟨l,j⟩):=by show _=_;rw[CW];exact Aa EY);rw[HC];clear HT EY CW HC
      go_roundg (Z a-(k+1))
      case measure=>have:=Aa HG;omega
      case rel=>exact⟨k+1,C,V ⟨g1,0,Y⟩,HY,rfl,by go_num,by omega,rfl,K9,FC,K5⟩
    ·(obtain rfl:k=Z a:=by omega);(have HK:kt (m=a.filter λp=> !Cl p.f ⟨l,j⟩):=by have h:=Aa EK;rw[gT]at h;exact h);have E0:=L.trans W;have IS:kt (D8 wr (U D (Z m) E) m):=by
      refine⟨Al (Aa I) (fP _),λp hp=>?_⟩;rw[Aa HK]at hp;exact(y.kept E0).facts.each p (fT.1 hp).1
     have FC:kt (G2 u Q S R n (GN n (a.map BD.f) s) w (j3 (X J 0)) (wr.setCell ⟨u,1,Y⟩ (U D (Z m) E))):=by
      refine⟨D,E,m,by rw[Aa G];rfl,?_,(y.kept E0).put (Aa IS),(Ac.mono (HJ.trans E0) (by simp)).setCell (p:=⟨u,1,Y⟩) (by simp) _⟩;rw[Aa G,Aa HK,fF (by simp)];show(a.filter λp=> !Cl p.f ⟨l,j⟩).map BD.f=(a.map BD.f).filter λg=> !Cl g ⟨l,j⟩
      rw[List.filter_map];rfl
     have M6:=(y.kept E0).base.frozen 1;(have NM:¬(Z a:Int)<(Z a:Int):=by omega);clear EK HK I HG IS;(go_wp2_with fail);go_ret;exact FC
 .have JJ:(EI n s !=0)=hG:=by simp[hz]
  have G:kt (GN n (a.map BD.f) s=(EI n s,a.map BD.f)):=by show _=_;unfold GN;rw[fB hz]
  have I:kt (G2 u Q S R n (GN n (a.map BD.f) s) w (j3 (X J (EI n s))) (B.alloc (jj #[O l,U r (Z j) t] 63))):=⟨F,z,a,by rw[Aa G],by rw[Aa G],CC.kept ((kL [] B).alloc _),(Ac.mono (Aa HF) (by simp)).alloc _⟩;go_wp2_with fail
  go_ret;exact I
def Wy{e b:kJ AY}{u:kJ Ag}(hF:N6 e)(w:Z e<=12)(i:F2 Gi u b)(l:∀f∈u,O0 f)(v:Z u<=900):N6 (e++b):=by
 have j:∀c∈b,c.bl=[]:=λc a=>by obtain⟨f,_,h⟩:=i.mem c a;exact h.2.1
 refine⟨by rw[fE,<-i.lenX];omega,λc a=>?_,λc a=>?_,λc a p d=>?_,?_,λc a=>?_⟩
 .rcases fA.1 a with a|a
  .exact hF.body c a
  .rw[j c a];simp
 .rcases fA.1 a with a|a
  .exact hF.head c a
  .obtain⟨f,k,h⟩:=i.mem c a;rw[h.1];show Z (f.args.map Ku)<=_;rw[fH];have:=(l f k).len;omega
 .rcases fA.1 a with a|a
  .exact hF.lits c a p d
  .rw[j c a]at d;cases d
 .have o:=hF.atoms;have m:C2 (e++b)=C2 e:=by
   unfold C2;rw[fR];have:b.flatMap (λc=>(c.bl.filter On).map λp=>(c,p))=b.flatMap (λc=>(c.bl.filter On).map λp=>(c,p)):=rfl;(have s:∀{β:Type} (g:AY->kJ β),(∀c∈b,g c=[])->b.flatMap g=[]:=λg q=>List.flatMap_eq_nil_iff.2 q);rw[s _ (λc a=>by rw[j c a];rfl),gd]
  rw[m];exact o
 .rcases fA.1 a with a|a
  .exact hF.full c a
  .obtain⟨f,k,h⟩:=i.mem c a;refine⟨?_,λp d=>by rw[j c a]at d;cases d⟩;rw[h.1];intro t r _;obtain⟨y,n,rfl⟩:=fC.1 r;exact(l f k).each y n
def SZ(cs:kJ AY)(u:kJ Ag)(w:kq)(e:Ending)(w':kq):Prop:=∃(ad:Option Addr) (cp:Nat) (ms:kJ BD) (ws:kJ AY),e=j3 (U ad (Z ms) cp)/\D8 w' (U ad (Z ms) cp) ms/\F2 Gi u ws/\CX (cs++ws)/\Jj (cs++ws) (BJ (cs++ws) 6) 7 (ms.map BD.f)/\Ac [] w w'
theorem V6(v H:Nat)(Ax:Option Addr)(W:Nat)(a:kJ AY)(C:Option Addr)(B:Nat)(c:kJ BD)(w:kq)(h:G5 w v H Ax W a C B c)(hF:N6 a)(hl:Z a<=12)(N:BI a)(L:CX a)(P:∀f∈c.map BD.f,D0 a f)(EK:Z c<=300):
  Calls prog 12 #[j2 (V ⟨v,0,Y⟩)] w (SZ a (c.map BD.f) w):=by
 have R:=Ab (XM v H Ax W a C B c w h.base h.prog h.rows h.facts (by omega) (by omega));have D:kt (∀e i g b j,Ac [] w j->AF j e [U i (Z (a++b)) g] 84->Cd j (U i (Z (a++b)) g) (a++b)->F2 Gi (c.map BD.f) b->Calls prog 29 #[j2 (V ⟨e,0,Y⟩)] j (SZ a (c.map BD.f) w)):=by
  intro e i g b j m E T y;have u:=LO N L y P (by rw[fH];omega);have r:=Wy hF hl y (λf hf=>by obtain⟨p,Bx,rfl⟩:=fC.1 hf;exact(h.facts.each p Bx).2) (by rw[fH];omega);refine(RU (BJ (a++b) 6) (Jj (a++b) (BJ (a++b) 6)) (Q2 (a++b)) e i g (a++b) j E T r.len
   (λx wy m=>Sl e i g (a++b) r.len r.body 6 x wy (E.kept m) (T.kept m) (by omega)) (λx=>by have:=PJ (a++b) 6 x;omega)
   (u.fit r) (Jj.start (a++b) _) (λn t h=>h.ze) (λn t h=>by
    have z:=u.round h
    exact⟨z.1,λh0=>by have d:=z.2.1 h0;rw[d.1];exact d.2,z.2.2.1⟩)).mono ?_
  rintro _ w' ⟨q,s,l,rfl,o,d,k⟩;exact⟨q,s,l,b,rfl,o,y,u,d,m.trans k⟩
 clear h hF N L P;go_enter func12,ntmps12;go_wp2_with fail
 refine R.mono ?_;rintro _ w2 ⟨e,i,g,b,rfl,o,d,Q,S⟩;have A:=Ab (D e i g b w2 S o d Q);clear R D o d Q S;go_wp2_with fail
 refine A.mono ?_;rintro _ w3 ⟨q,s,l,BT,rfl,M,F,g3,I,G⟩;have HO:kt (SZ a (c.map BD.f) w (j3 (U q (Z l) s)) w3):=⟨q,s,l,BT,rfl,M,F,g3,I,G⟩;clear A M F g3 I G;go_wp2_with fail
 go_ret;exact HO
def Kr(s:zA)(w:kq)(e:Ending)(w':kq):Prop:=∃(bv:ks) (er at_:Int),e=j3 (.tuple #[bv,X J er,X J at_])/\Ed s er at_/\(er≠0->bv=j2 Y)/\(er=0->∃(bb pb:Nat) (lad:Option Addr) (lcp:Nat) (cs:kJ AY),bv=j2 (V ⟨bb,0,Y⟩)/\w.heap.size<=bb/\G5 w' bb pb lad lcp cs Y 0 []/\N6 cs/\s.size<=300/\(Ar s (Ae s 0)).2.2=K/\cs.map AY.erase=(Ar s (Ae s 0)).1/\CD cs=(0,0))/\Ac [] w w'
theorem VE(s:zA)(w:kq)(y:s.size<=9223372036854775807):Calls prog 5 #[O s] w (Kr s w):=by
 have t:=Ab (Ng s w y);go_enter func5,ntmps5;go_wp2_with fail
 refine t.mono ?_;rintro _ a ⟨E,b,k,rfl,x,n,j⟩;have r:=Ab x;have e:=Ab n;have f:=Ab j;clear t x n j;by_cases c:b=0
 .subst c;obtain⟨d,D,C,z,rfl,u,v,hF,l,m,o,q⟩:=e rfl;have A:((0:Int) !=0)=K:=rfl;have g:kt (Kr s w (j3 (.tuple #[j2 (V ⟨a.heap.size,0,Y⟩),X J 0,X J 0])) (a.alloc (jj [j2 (V ⟨d,0,Y⟩),U Y 0 0].toArray 52))):=by
   have i:=(kL [] a).alloc (jj [j2 (V ⟨d,0,Y⟩),U Y 0 0].toArray 52);refine⟨_,0,0,rfl,by have h:=Aa r;rw[h.zero]at h;exact h,λh=>absurd rfl h,λ_=>⟨a.heap.size,d,D,C,z,rfl,f.size,⟨kN a [j2 (V ⟨d,0,Y⟩),U Y 0 0] 52,u.kept i,v.kept i,⟨fK _ _ _ _,λp B=>by cases B⟩⟩,hF,l,m,o,q⟩,f.trans i⟩
  clear u v hF l m o q e;go_wp2_with fail
  go_ret3;exact g
 .have A:(b !=0)=hG:=by simp[c]
  have g:kt (Kr s w (j3 (.tuple #[j2 Y,X J b,X J k])) a):=⟨_,b,k,rfl,r,λ_=>rfl,λh=>absurd h c,f⟩;clear c e;go_wp2_with fail
  go_ret3;exact g
structure IZ(T:kJ TypeId)(w w':kq):Prop where
 size:w.heap.size<=w'.heap.size
 at_:∀(q:Nat) (cs:Array ks) (t:TypeId) (fr:Nat×Nat),w.heap[q]?=V (jj cs t fr)->t∉T->w'.heap[q]?=V (jj cs t fr)
def IZ.refl(T:kJ TypeId)(w:kq):IZ T w w:=⟨fJ _,λ_ _ _ _ h _=>h⟩
def IZ.trans{T:kJ TypeId}(h:IZ T w v)(k:IZ T v u):IZ T w u:=⟨gQ h.size k.size,λq e t f g d=>k.at_ q e t f (h.at_ q e t f g d) d⟩
def IZ.of{T:kJ TypeId}(k:Ac M w v)(f:∀q∈M,∀(b:Array ks) (t:TypeId) (c:Nat×Nat),w.heap[q]?=V (jj b t c)->t∈T):IZ T w v:=
 ⟨k.size,λq b t c a g=>by
  have e:=(gB.1 a).1
  rw[k.block q e (λd=>g (f q d b t c a))]
  exact a⟩
def IZ.kept{T:kJ TypeId}{w w':kq}(k:Ac [] w w'):IZ T w w':=IZ.of k (λq a=>by cases a)
def IZ.row{T:kJ TypeId}(h:IZ T w u){v:ks}(b:kw w m k i v n y)(j:k∉T):kw u m k i v n y:=by
 refine⟨b.1,?_⟩;rcases b.2 with o|⟨g,l,a,c,p,d,f⟩
 .exact Or.inl o
 .exact kp ⟨g,l,a,c,p,h.at_ g a k (0,0) d j,f⟩
def IZ.zK{T:kJ TypeId}(h:IZ T w v){t:TypeId}(c:AF w b y t)(a:t∉T):AF v b y t:=h.at_ b y.toArray t (0,0) c a
def G5.rst{T:kJ TypeId}{g:kJ AY}{f:Option Addr}{l:kJ BD}(h:G5 w n m o i g f j l)(k:IZ T w v)(s:∀t∈T,t=47\/t=56):G5 v n m o i g f j l:=by
 have a:∀e:TypeId,e≠47->e≠56->e∉T:=λe u r q=>by rcases s e q with h|h;exact u h;exact r h
 exact⟨k.zK h.base (a _ (by decide) (by decide)),k.zK h.prog (a _ (by decide) (by decide)),⟨k.row h.rows.row (a _ (by decide) (by decide)),λc d=>⟨k.row (h.rows.each c d).args (a _ (by decide) (by decide)),k.row (h.rows.each c d).body (a _ (by decide) (by decide)),λp b=>k.row ((h.rows.each c d).lits p b) (a _ (by decide) (by decide))⟩⟩,⟨k.row h.facts.row (a _ (by decide) (by decide)),λp b=>⟨k.row (h.facts.each p b).1 (a _ (by decide) (by decide)),(h.facts.each p b).2⟩⟩⟩
def Cv.rst{T:kJ TypeId}{f:kJ CB}(h:Cv w z f)(k:IZ T w v)(j:∀t∈T,t=47\/t=56\/t=52):Cv v z f:=by
 have b:∀e:TypeId,e≠47->e≠56->e≠52->e∉T:=λe l i m g=>by rcases j e g with h|h|h;exact l h;exact i h;exact m h
 refine⟨k.row h.row (b _ (by decide) (by decide) (by decide)),λc a=>⟨k.row (h.each c a).head (b _ (by decide) (by decide) (by decide)),⟨k.row (h.each c a).body.row (b _ (by decide) (by decide) (by decide)),λp d=>⟨?_,((h.each c a).body.each p d).2⟩⟩⟩⟩;exact k.row ((h.each c a).body.each p d).1 (b _ (by decide) (by decide) (by decide))
structure Ij(w:kq)(bb:Nat)(lad:Option Addr)(lcp:Nat)(pcs:kJ CB)(sad:Option Addr)(scp:Nat)(fs:kJ DF):Prop where
 base:AF w bb [U lad (Z pcs) lcp,U sad (Z fs) scp] 47
 prog:Cv w (U lad (Z pcs) lcp) pcs
 facts:Iw w (U sad (Z fs) scp) fs
def Ij.kept{w w':kq}{d:Nat}{c:Option Addr}{b:Nat}{g:kJ CB}{f:Option Addr}{a:Nat}{e:kJ DF}(h:Ij w d c b g f a e)(k:Ac [] w w'):Ij w' d c b g f a e:=⟨h.base.kept k,h.prog.kept k,h.facts.kept k⟩
theorem JM(a:Nat)(w:kq):Calls prog 16 #[j2 (V ⟨a,0,Y⟩)] w λe b=>e=j3 (j2 (V ⟨a,0,Y⟩))/\b=w:=by
 go_enter func16,ntmps16;go_wp2;go_ret;exact⟨rfl,rfl⟩
def M9(s:zA)(w:kq)(e:Ending)(w':kq):Prop:=∃(bv:ks) (er at_:Int),e=j3 (.tuple #[bv,X J er,X J at_])/\Ey s (ep s) (er,at_)/\(er≠0->bv=j2 Y)/\(er=0->∃(bb:Nat) (lad:Option Addr) (lcp:Nat) (pcs:kJ CB) (rcs:kJ AY),bv=j2 (V ⟨bb,0,Y⟩)/\w.heap.size<=bb/\Ij w' bb lad lcp pcs Y 0 []/\s.size<=300/\rcs.map AY.erase=(Ar s (Ae s 0)).1/\Ih pcs rcs)/\Ac [] w w'
theorem Ws(s:zA)(w:kq)(C:s.size<=9223372036854775807):Calls prog 4 #[O s] w (M9 s w):=by
 have v:=Ab (NC s (ep s) w C (λd D b c i=>MH d b i));go_enter func4,ntmps4;go_wp2_with fail
 refine v.mono ?_;rintro _ a ⟨g,n,j,⟨e,k⟩,rfl,z,u,t⟩;have o:=Ab z;have l:=Ab u;have m:=Ab t;clear v z u t;by_cases f:e=0
 .subst f;obtain⟨d,D,c,b,i,rfl,r⟩:=l rfl;obtain⟨x,F,B,A⟩:=RR d b i r o rfl;obtain rfl:k=0:=(Prod.mk.inj x).2;have E:((0:Int) !=0)=K:=rfl;have q:kt (M9 s w (j3 (.tuple #[j2 (V ⟨a.heap.size,0,Y⟩),X J 0,X J 0])) (a.alloc (jj [U g (Z c) j,U Y 0 0].toArray 47))):=by
   have y:=(kL [] a).alloc (jj [U g (Z c) j,U Y 0 0].toArray 47);exact⟨_,0,0,rfl,o,λh=>absurd rfl h,λ_=>⟨a.heap.size,g,j,c,F,rfl,m.size,⟨kN a [U g (Z c) j,U Y 0 0] 47,r.kept y,⟨fK _ _ _ _,λp b=>by cases b⟩⟩,d,B,A⟩,m.trans y⟩
  clear d b i r x B A l;go_wp2_with fail
  go_ret3;exact q
 .have E:(e !=0)=hG:=by simp[f]
  have q:kt (M9 s w (j3 (.tuple #[j2 Y,X J e,X J k])) a):=⟨_,e,k,rfl,o,λ_=>rfl,λh=>absurd h f,m⟩;clear f l;go_wp2_with fail
  go_ret3;exact q
def IY(x:zA):AO:=⟨0,x⟩
theorem St(b:zA)(a:kJ zA)(m:Option Addr)(n:Nat)(w:kq)(S:Dc w ⟨⟨b,a⟩,U m (Z a) n⟩)(HS:Z a<=1000):
  Calls prog 53 #[kx #[O b,U m (Z a) n]] w λe w'=>∃(ad:Option Addr) (cp:Nat),e=j3 (kx #[X J 0,O b,U ad (Z a) cp,U Y 0 0])/\kw w' w.heap.size 164 2 (U ad (Z a) cp) (Z a) ((a.map IY).flatMap Ap)/\Ac [] w w':=by
 have HX:=Ab S;clear S;go_enter func53,ntmps53;obtain⟨N,C⟩:=kK w.heap.size;have A:=Ab C;obtain⟨i0,HD,EY,HI,FW⟩:=gH Tryz.info164;have x:=Ab ((((kL [] w).alloc (jj #[O b,U m (Z a) n] 56)).alloc (jj #[X J 0,O ⟨#[]⟩,U Y 0 0,U Y 0 0] 120)).alloc (jj #[X J 0,O b,U Y 0 0] 116));have I:kt (AF (((w.alloc (jj #[O b,U m (Z a) n] 56)).alloc (jj #[X J 0,O ⟨#[]⟩,U Y 0 0,U Y 0 0] 120)).alloc (jj #[X J 0,O b,U Y 0 0] 116)) (N+1+1) [X J 0,O b,U Y 0 0] 116):=by
  have h:=kN ((w.alloc (jj #[O b,U m (Z a) n] 56)).alloc (jj #[X J 0,O ⟨#[]⟩,U Y 0 0,U Y 0 0] 120)) [X J 0,O b,U Y 0 0] 116;rw[fY,fY,C]at h;exact h
 have G:kt (AF (((w.alloc (jj #[O b,U m (Z a) n] 56)).alloc (jj #[X J 0,O ⟨#[]⟩,U Y 0 0,U Y 0 0] 120)).alloc (jj #[X J 0,O b,U Y 0 0] 116)) (N+1) [X J 0,O ⟨#[]⟩,U Y 0 0,U Y 0 0] 120):=by
  have h:=(kN (w.alloc (jj #[O b,U m (Z a) n] 56)) [X J 0,O ⟨#[]⟩,U Y 0 0,U Y 0 0] 120).alloc (jj #[X J 0,O b,U Y 0 0] 116);rw[fY,C]at h;exact h
 have FL:=Ab (Dc.kept (Aa HX) x);go_wp2_with fail
 generalize((w.alloc (jj #[O b,U m (Z a) n] 56)).alloc (jj #[X J 0,O ⟨#[]⟩,U Y 0 0,U Y 0 0] 120)).alloc (jj #[X J 0,O b,U Y 0 0] 116)=w1 at x I G FL⊢;clear C
 go_loopg [12] (Z a) (λgk i wr=>∃(t:Nat) (H:ks),i=X J t/\t<=Z a/\gk=Z a-t/\kt (AF wr (N+1+1) [X J 0,O b,H] 116)/\kt (AF wr (N+1) [X J 0,O ⟨#[]⟩,U Y 0 0,U Y 0 0] 120)/\kt (kw wr (N+1+1+1) 164 2 H t (((a.take t).map IY).flatMap Ap))/\kt (Ac [] w wr))
 case atStart=>exact⟨0,U Y 0 0,rfl,by omega,rfl,I,G,fK _ _ _ _,x⟩
 case round=>
  clear I G x;obtain⟨t,H,rfl,ht,AH,o,c,j,B⟩:=hrel;have HG:=Ab AH;clear AH;obtain⟨g,d,rfl⟩:=Aj j;have W:=o.cell 0;have m1:=o.cell 1;have m2:=o.cell 2;have mf:=o.frozen 2;simp at W m1 m2;have H0:=o.lt;by_cases P:t<Z a
  ·(have H2:(t:Int)<(Z a:Int):=by omega);(have HW:(0:Int)<=(t:Int):=by omega);obtain⟨ga,HU,AB,_,R⟩:=AC (f:=Ah) (l:=a) (Dc.kept (Aa HX) B) (λ_ _=>rfl) t P;have M:=R t P 0 (by omega);simp only[fg]at AB;obtain⟨rfl,-,rfl⟩:=AB;simp[Ah]at M;have Ax:kt (((a.take t).map IY).flatMap Ap++[X .i32 0,O a[t]]=((a.take (t+1)).map IY).flatMap Ap):=by
    show _=_;rw[fm P,gn,fR];rfl
   obtain⟨D,T⟩:=kK (a[t]);rw[T]at M Ax;clear T R;go_wp2_with (at_builtin;refine fO _ rfl (.tmp 17) (.tmp 20) _ rfl (N+1+1+1) 164 i0 _ 2 24 underlying114 HD EY HI FW rfl (by omega) (U g t d) t (((a.take t).map IY).flatMap Ap) rfl (fw (Aa j) _) ⟨wr.heap.size,0,Y⟩ 1 1 [X .i32 0,O D] rfl rfl (fM (fX wr _)) (by simp[Value.oneCell']) (by omega) (by unfold maxLen;omega) (by omega) (by simp;omega) (wr.heap.size+1) (by simp) ?_;intro r u w5 L y Ha HB;have z:=((Aa o).alloc _).grown y (AS (Aa j) (N+1+1) (by omega));have B9:=((Aa c).alloc _).grown y (AS (Aa j) (N+1) (by omega));have q5:=z.cell 2;have Go:=z.frozen 2;simp at q5)
   have HV:=(L.lt r rfl).1;have HC:=Ab (z.set 2 (U (V ⟨r,0,Y⟩) (t+1) u));have EX:=Ab (B9.zB ⟨N+1+1,2,Y⟩ (by simp) (U (V ⟨r,0,Y⟩) (t+1) u));have F:=Af L (p:=⟨N+1+1,2,Y⟩) (by simp[kF];omega) (U (V ⟨r,0,Y⟩) (t+1) u);rw[Aa Ax]at F;have HK:=Ab F;have HL:=Ab ((((Aa B).alloc _).grown y (λk hk=>kp (by have h1:=(World.ownsRow.lt (Aa j) k hk).1;have h2:=Aa A;omega))).setCell (p:=⟨N+1+1,2,Y⟩) (kp (by have h2:=Aa A;show _<=N+1+1;omega)) (U (V ⟨r,0,Y⟩) (t+1) u));clear L y Ha HB z B9 Go q5 F j o c B W m1 m2 mf M
   go_roundg (Z a-(t+1))
   case measure=>have:=Aa HG;omega
   case rel=>exact⟨t+1,U (V ⟨r,0,Y⟩) (t+1) u,by go_num,by omega,rfl,HC,EX,HK,HL⟩
  ·(obtain rfl:t=Z a:=by omega);have E:kt (kw wr (N+1+1+1) 164 2 (U g (Z a) d) (Z a) ((a.map IY).flatMap Ap)):=by
    have h:=Aa j;rw[gT]at h;exact h
   have r0:=c.cell 0;have r1:=c.cell 1;have r2:=c.cell 2;have r3:=c.cell 3;have HQ:=c.frozen 0;have HO:=c.frozen 1;have HP:=c.frozen 2;have HY:=c.frozen 3;simp at r0 r1 r2 r3;(have H1:¬(Z a:Int)<(Z a:Int):=by omega);clear j HG;have FA:kt (World.ownsRow ((((wr.setCell ⟨N+1,0,Y⟩ (X J 0)).setCell ⟨N+1,1,Y⟩ (O b)).setCell ⟨N+1,2,Y⟩ (U g (Z a) d)).setCell ⟨N+1,3,Y⟩ (U Y 0 0)) w.heap.size 164 2 (U g (Z a) d) (Z a) ((a.map IY).flatMap Ap)):=by
    (have hb:∀q,(U g (Z a) d).ownBlock=V q->q≠N+1:=λq hq=>by have:=(World.ownsRow.lt (Aa E) q hq).1;omega);(have v:(U g (Z a) d).ownBlock≠V (N+1):=λe=>hb _ e rfl);exact Al (Af (Af (Af (Af (Aa E) (p:=⟨N+1,0,Y⟩) v _) (p:=⟨N+1,1,Y⟩) v _) (p:=⟨N+1,2,Y⟩) v _) (p:=⟨N+1,3,Y⟩) v _) (by have:=Aa A;omega)
   (have s:w.heap.size<=N+1:=by have:=Aa A;omega);have FB:=Ab (((((Aa B).setCell (p:=⟨N+1,0,Y⟩) (kp s) (X J 0)).setCell (p:=⟨N+1,1,Y⟩) (kp s) (O b)).setCell (p:=⟨N+1,2,Y⟩) (kp s) (U g (Z a) d)).setCell (p:=⟨N+1,3,Y⟩) (kp s) (U Y 0 0));have Q:=(((Aa c).set 0 (X J 0)).set 1 (O b)).set 2 (U g (Z a) d)|>.set 3 (U Y 0 0);simp only[fh,fi]at Q;have FF:=Ab Q;clear Q s E;(go_wp2_with fail);refine fL (BK rfl rfl (Aa FF) underlying120 rfl (by kernel_rfl)) rfl ?_;exact⟨g,d,rfl,FA,FB⟩
structure bG(pcs:kJ CB)(cs:kJ AY)(s:zA):Prop where
 same:Ug pcs s=EI cs s
 fact:EI cs s=0->Zu s=V (Bn (CI s))/\AQ (CI s)
def Em(bb:Nat)(lad:Option Addr)(lcp:Nat)(pcs:kJ CB)(sv:ks)(r:Int×kJ Ag)(w:kq)(e:Ending)(w':kq):Prop:=∃(sad:Option Addr) (scp:Nat) (fs:kJ DF),e=j3 (X J r.1)/\Ij w' bb lad lcp pcs sad scp fs/\CG fs r.2/\Ac (bb::sv.ownBlock.toList) w w'/\∀q,(U sad (Z fs) scp).ownBlock=V q->sv.ownBlock=V q\/w.heap.size<=q
def Ij.rstT{d:Option Addr}{c:kJ DF}(h:Ij w n o m p d i c)(k:Ac (n::(U d (Z c) i).ownBlock.toList) w v):IZ [47,56] w v:=IZ.of k (λq a l t s b=>by
 rcases fx.1 a with rfl|a
 .have:=h.base
  unfold AF at this
  rw[this]at b
  simp only[fu,Obj.cells.injEq]at b
  rw[<-b.2.1]
  simp
 .simp only[jx]at a
  rcases h.facts.row.2 with⟨e,_⟩|⟨g,r,j,e,_,f,_⟩
  .rw[e]at a;simp[kF]at a
  .rw[e]at a
   simp only[kF,fu]at a
   subst a
   rw[f]at b
   simp only[fu,Obj.cells.injEq]at b
   rw[<-b.2.1]
   simp)
theorem ZU(m:Nat)(x:Option Addr)(v:Nat)(n:kJ CB)(r:Option Addr)(o:Nat)(f:kJ DF)(l:kJ AY)(u:kJ Ag)(s:zA)(w:kq)(h:Ij w m x v n r o f)(FT:CG f u)(HA:bG n l s)(HD:Z n<=12)(hf:∀c∈n,Js c/\Z (A5 c)<=70000)(FB:∀c∈n,Z c.zE<=1000)(HG:s.size<=9223372036854775807)(HX:Z f<=1000):
  Calls prog 7 #[j2 (V ⟨m,0,Y⟩),O s] w (Em m x v n (U r (Z f) o) (GO l u s) w):=by
 have Go:=Ab (JD x v n s w h.prog HD hf FB HG);have HB:=Ab h;have z:=Ab FT;have T:=Ab HA;have c0:=h.base.cell 0;simp at c0;have EY:=Ab (JM m w);clear h FT HA hf FB;go_enter func7,ntmps7;go_wp2_with fail
 refine EY.mono ?_;rintro _ R ⟨rfl,HE⟩;subst HE;go_wp2_with fail
 refine Go.mono ?_;rintro _ y ⟨⟨⟨d,a⟩,xv⟩,rfl,N,Bx,AH,W⟩;obtain⟨g,i,e⟩:=Aj Bx;simp only at e N AH;subst e;simp only[AI];rw[(Aa T).same]at N⊢;have AT:=Ab (HB.kept W);have FF:=Ab W;have BT:=Ab N;have EM:=Ab Bx;clear Go N Bx W EY c0;by_cases C:EI l s=0
 .have HC:(EI l s !=0)=K:=by simp[C]
  obtain⟨CW,S⟩:=(Aa T).fact C;have D:(⟨d,a⟩:Cg)=Bn (CI s):=by
   have:=(Aa BT C).symm.trans CW;exact jD this
  have B:kt (GO l u s=if DI u (CI s)=hG then(8,u)else(0,Ba u (CI s))):=by show _=_;unfold GO;rw[fF C]
  have M:=Ab (kN y [O d,U g (Z a) i] 56);have F:=Ab (AT.kept ((kL [] y).alloc (jj [O d,U g (Z a) i].toArray 56)));have Q:=Ab (FF.alloc (jj [O d,U g (Z a) i].toArray 56));have BA:=Ab (Dc.kept (Aa EM) ((kL [] y).alloc (jj [O d,U g (Z a) i].toArray 56)));go_wp2_with fail
  change Code.wp _ _ _ _ (y.alloc (jj [O d,U g (Z a) i].toArray 56));generalize y.alloc (jj [O d,U g (Z a) i].toArray 56)=w3 at M F Q BA⊢;obtain⟨E,hX⟩:=kK y.heap.size;rw[hX]at M⊢;clear hX;have FP:kt (∀b,Ac [] w3 b->ku b ⟨E,0,Y⟩=V (O d)/\ku b ⟨E,1,Y⟩=V (U g (Z a) i)):=λb j=>⟨j.cellAt (by have:=M.cell 0;simpa using this),j.cellAt (by have:=M.cell 1;simpa using this)⟩
  have FL:kt (∀b,Ac [] w3 b->Calls prog 18 #[j2 (V ⟨m,1,Y⟩),kx #[O d,U g (Z a) i]] b λe A=>e=j3 (k0 (DI u (CI s)))/\Ac [] b A):=λb j=>by
   refine(Ki m 1 r o f ⟨⟨d,a⟩,U g (Z a) i⟩ b (by have:=(F.kept j).base.cell 1;simpa using this) (F.kept j).facts (Dc.kept (Aa BA) j) AH (by omega) ((Aa z).mono ⟨d,a⟩)).mono ?_;rintro _ A ⟨p,rfl,hc,k⟩;refine⟨?_,k⟩;(have L:Eu f (Bn (CI s)) p:=by rw[<-D];exact hc);show j3 (k0 (CY f ⟨d,a⟩ p))=_;rw[D,(Aa z).zh S L]
  have Ha:kt (∀b,Ac [] w3 b->DI u (CI s)=K->Calls prog 19 #[j2 (V ⟨m,1,Y⟩),kx #[O d,U g (Z a) i]] b λe A=>e=j3 (.tuple #[])/\Em m x v n (U r (Z f) o) (GO l u s) R (j3 (X J 0)) A):=λb j AB=>by
   have I:=F.kept j;refine(UU m 1 [U x (Z n) v,U r (Z f) o] 47 r o f ⟨⟨d,a⟩,U g (Z a) i⟩ b I.base rfl (by decide) (by decide) I.facts (Dc.kept (Aa BA) j) AH (by omega) ((Aa z).mono ⟨d,a⟩)).mono ?_;rintro _ A ⟨rfl,⟨p,ad,cp,hc,HQ,HN,HP⟩,EX⟩;(have L:Eu f (Bn (CI s)) p:=by rw[<-D];exact hc);(have hh:CY f (Bn (CI s)) p=K:=by rw[(Aa z).zh S L];exact AB);have he:MG f ⟨⟨d,a⟩,U g (Z a) i⟩ p=f.take p++⟨⟨d,a⟩,U g (Z a) i⟩::f.drop p:=by
    unfold MG;show(if CY f ⟨d,a⟩ p=hG then _ else _)=_;rw[D,hh];rfl
   have HF:=I.rstT EX;have HU:=(Q.trans j).size;refine⟨rfl,ad,cp,MG f ⟨⟨d,a⟩,U g (Z a) i⟩ p,by rw[Aa B,AB];rfl,⟨HQ,I.prog.rst HF (λt ht=>by simp at ht;rcases ht with h|h<;>simp[h]),HN⟩,?_,(Ac.mono (Q.trans j) (by simp)).trans EX,λq G=>?_⟩
   .rw[Aa B,AB,he];exact(Aa z).zn D S L hh
   .rcases HP q G with h|h
    .exact Or.inl h
    .exact kp (by omega)
  clear D CW S AT EM BT T
  go_region_held3 (λb=>Ac [] w3 b/\ku b ⟨E,0,Y⟩=V (O d)/\ku b ⟨E,1,Y⟩=V (U g (Z a) i)) ((go_split_ands;refine(fun(FW:Ac [] w3 _)=>And.intro FW (FP _ FW)) ?_;repeat (first|assumption|exact kL [] _|refine Ac.drew ?_|refine Ac.alloc ?_ _))) ((go_at_call 18;refine(FL _ (by go_split_ands;assumption)).mono ?_;rintro _ H ⟨rfl,k5⟩;have P:Ac [] w3 H:=(by go_split_ands;exact Ac.trans (by assumption) k5);clear k5))
  rename_i HH;clear HH FL;cases HS:DI u (CI s)with
  |true=>
   have HO:kt (Em m x v n (U r (Z f) o) (GO l u s) R (j3 (X J 8)) H):=⟨r,o,f,by rw[Aa B,HS];rfl,F.kept P,by rw[Aa B,HS];exact z,Ac.mono (Q.trans P) (by simp),λq G=>Or.inl G⟩;(go_wp2_with fail);go_ret;exact HO
  |false=>
   obtain⟨d1,d2⟩:=FP H P;(have CL:kt (∀b,Ac [] H b->Calls prog 19 #[j2 (V ⟨m,1,Y⟩),kx #[O d,U g (Z a) i]] b λe A=>e=j3 (.tuple #[])/\Em m x v n (U r (Z f) o) (GO l u s) R (j3 (X J 0)) A):=λb j=>Ha b (P.trans j) HS);clear Ha;go_wp2_with fail
   go_region_law (go_simp;go_at_call 19;refine(CL _ ((kL [] H).drew)).mono ?_;rintro _ w6 ⟨rfl,EK⟩;have HJ:=Ab EK;clear EK)
   all_goals
    clear CL;(go_wp2_with fail);go_ret;exact HJ
 .have HC:(EI l s !=0)=hG:=by simp[C]
  have B:kt (GO l u s=(EI l s,u)):=by show _=_;unfold GO;rw[fB C]
  have HO:kt (Em m x v n (U r (Z f) o) (GO l u s) R (j3 (X J (EI l s))) (y.alloc (jj #[O d,U g (Z a) i] 56))):=⟨r,o,f,by rw[Aa B],AT.kept ((kL [] y).alloc _),by rw[Aa B];exact z,(Ac.mono (Aa FF) (by simp)).alloc _,λq G=>Or.inl G⟩;go_wp2_with fail
  go_ret;exact HO
