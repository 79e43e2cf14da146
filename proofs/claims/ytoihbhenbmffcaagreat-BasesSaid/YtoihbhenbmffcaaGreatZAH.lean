import Derived.Test.YtoihbhenbmffcaaGreatZAG
set_option linter.all false
set_option maxHeartbeats 0
open List renaming length->Z,toArray->j1,replicate->kD
open Option renaming none->Y,some->V
open Go.Value renaming slice->U,int->X,string->O,pointer->j2,agg->kx,bool->k0
open Bool renaming false->K,true->hG
open Go.IntKind renaming i64->J
open Go.Obj renaming cells->jj
open Go.Ending renaming returned->j3
open Or renaming inl->kn,inr->kp
open Go renaming World->kq,Value->ks
open Go.RowKit renaming Hid->kt
open Go.World renaming cell?->ku,ownsRow->kw
open ByteArray renaming empty->kB
open Go.Act renaming put->kG
namespace Go.Proofs.YtoihbhenbmffcaaGreat
open Go.RowKit Go.Proofs.Tryz
variable{w:kq}{z:ks}{k n m b:Nat}{e:kJ zA}{c:kJ AY}{y:kJ ks}
structure D8(w:kq)(sv:ks)(fs:kJ BD):Prop where
 row:kw w 0 63 2 sv (Z fs) (fs.flatMap Bp)
 each:∀p∈fs,Ew w p/\O0 p.f
def D8.kept{w w':kq}{c:ks}{b:kJ BD}(h:D8 w c b)(k:Ac [] w w'):D8 w' c b:=⟨Ad h.row k,λp a=>⟨(h.each p a).1.kept k,(h.each p a).2⟩⟩
def Dn{b:kJ BD}(h:D8 w z b)(k:Nat)(d:k<Z b):
  ∃g m n a i f,z=U (V ⟨g,0,Y⟩) (Z b) m/\b[k]=⟨⟨n,a⟩,U i (Z a) f⟩/\ku w ⟨g,k*2,Y⟩=V (O n)/\ku w ⟨g,k*2+1,Y⟩=V (U i (Z a) f):=by
 obtain⟨g,m,s,_,r⟩:=AC h.row (λc _=>rfl) k d;have j:=r k d 0 (by omega);have l:=r k d 1 (by omega);obtain⟨⟨⟨n,a⟩,t⟩,o⟩:∃p,b[k]=p:=⟨_,rfl⟩;have q:=(h.each _ (fj d)).1;rw[o]at j l q;obtain⟨i,f,e⟩:=Aj q;simp only at e;subst e;simp[Bp]at j l;exact⟨g,m,n,a,i,f,s,o,j,l⟩
set_option maxRecDepth 100000
theorem JZ(G:Option Addr)(P:Nat)(a:kJ BD)(x:BD)(w:kq)(h:D8 w (U G (Z a) P) a)(z:Ew w x)(CL:Z a<=1000000)(D:O0 x.f):
  Calls prog 21 #[U G (Z a) P,kx (j1 (Bp x))] w λe t=>e=j3 (k0 (a.any λp=>Cl p.f x.f))/\Ac [] w t:=by
 have T:kt (∀(p:BD) wr,p∈a->Ac [] w wr->Calls prog 24 #[kx (j1 (Bp p)),kx (j1 (Bp x))] wr λe t=>e=j3 (k0 (Cl p.f x.f))/\Ac [] wr t):=λp wr I u=>RW p x wr ((h.each p I).1.kept u) (z.kept u) (by have:=(h.each p I).2.len;omega) (by have:=D.len;omega)
 have HS:=Ab h;obtain⟨⟨c,b⟩,xv⟩:=x;obtain⟨m,l,L⟩:=Aj z;simp only at L;subst L;obtain⟨R,A⟩:=kK (a.any λp=>Cl p.f ⟨c,b⟩);rw[show(a.any λp=>Cl p.f (⟨⟨c,b⟩,U m (Z b) l⟩:BD).f)=R from A]
 have Q:=Ab A;have d:=Ab (kN w [O c,U m (Z b) l] 63);have j:=Ab ((kL [] w).alloc (jj [O c,U m (Z b) l].toArray 63));clear h z D A;simp only[Bp]at T⊢;go_enter func21,ntmps21;go_wp2;change Code.wp _ _ _ _ (w.alloc (jj [O c,U m (Z b) l].toArray 63));generalize w.alloc (jj [O c,U m (Z b) l].toArray 63)=w1 at d j⊢;generalize w.heap.size=N at d⊢
 go_loopg [5,6] (Z a) (λgk i q wr=>∃(k:Nat),i=X J k/\k<=Z a/\gk=Z a-k/\kt ((a.take k).any (λp=>Cl p.f ⟨c,b⟩)=K)/\kt (Ac [] w wr)/\kt (AF wr N [O c,U m (Z b) l] 63))
 case atStart=>exact⟨0,rfl,by omega,rfl,by show _=_;simp,j,d⟩
 case round=>
  clear d j;obtain⟨k,rfl,u,F,H,j,d⟩:=hrel;have HG:=Ab F;clear F;by_cases r:k<Z a
  .obtain⟨g,CC,n,B,ad,cp,S,s,d0,d1⟩:=Dn (HS.kept j) k r;simp only[fg]at S;obtain⟨rfl,_,rfl⟩:=S;have c0:=d.cell 0;have c1:=d.cell 1;simp at c0 c1;have o:=Ab (T a[k] wr.drew (fj r) j.drew);have M:kt (Cl ⟨n,B⟩ ⟨c,b⟩=hG->R=hG):=by
    intro y;rw[<-Aa Q];exact Jl _ _ k r (by rw[s];exact y)
   have E:kt (Cl ⟨n,B⟩ ⟨c,b⟩=K->(a.take (k+1)).any (λp=>Cl p.f ⟨c,b⟩)=K):=by
    intro y;rw[C4 _ _ k r (Aa H),s];exact y
   rw[s]at o;simp only at o;generalize Cl ⟨n,B⟩ ⟨c,b⟩=SB at o M E;clear s;go_wp2_with fail
   go_region_law (go_simp;go_at_call 24;refine o.mono ?_;rintro e w3 ⟨rfl,v⟩;have W:=Ab (j.drew.trans v);have AH:=Ab (d.drew.kept v);clear v)
   all_goals
    clear o;cases SB with
    |true=>
     have C:=Ab (M rfl);go_wp2;go_ret;rw[Aa C];exact⟨rfl,W⟩
    |false=>
     have C:=Ab (E rfl);go_wp2
     go_roundg (Z a-(k+1))
     case measure=>have:=Aa HG;omega
     case rel=>exact⟨k+1,by go_num,by omega,rfl,C,W,AH⟩
  .have HE:kt (R=K):=by
    have h:=Aa H;rw[fo (by omega)]at h;show _=_;rw[<-Aa Q];exact h
   go_wp2;go_ret;rw[HE.out];exact⟨rfl,j⟩
theorem Tryz.info63:(Tryz.prog.info? 63).map (λi=>(i.zero,i.size,i.bytes))=V (V (kx #[O ⟨#[]⟩,U Y 0 0]),2,40):=by kernel_rfl
def Et(x:BD)(a:kJ BD×Bool)(y:BD):kJ BD×Bool:=if !a.2&&Dy x.f y.f then(a.1++[x]++[y],hG)else(a.1++[y],a.2)
def GK(l:kJ BD)(x:BD):kJ BD×Bool:=l.foldl (Et x) ([],K)
def MP(l:kJ BD)(x:BD):kJ BD:=if(GK l x).2 then(GK l x).1 else(GK l x).1++[x]
def U7(l:kJ BD)(x:Ag):Bool:=l.any λp=>Cl p.f x
def Ii(l:kJ BD)(x:BD):kJ BD:=if U7 l x.f then l else MP l x
def Vy{l:kJ BD}(a:k<Z l)(x:BD):GK (l.take (k+1)) x=Et x (GK (l.take k) x) l[k]:=by
 unfold GK;rw[fm a,gM];rfl
def RD(x p:BD):∀(l:kJ BD) (a:kJ BD×Bool),p∈(l.foldl (Et x) a).1->p=x\/p∈a.1\/p∈l
 |[],a,h=>kp (kn h)
 |y::l,a,h=>by
  rcases RD x p l (Et x a y) h with h|h|h
  .exact kn h
  .unfold Et at h;split at h
   .simp only[fA,ft]at h;rcases h with(h|h)|h
    .exact kp (kn h)
    .exact kn h
    .exact kp (kp (by simp[h]))
   .simp only[fA,ft]at h;rcases h with h|h
    .exact kp (kn h)
    .exact kp (kp (by simp[h]))
  .exact kp (kp (by simp[h]))
def aG{l:kJ BD}{x p:BD}(h:p∈MP l x):p=x\/p∈l:=by
 unfold MP at h;have a:∀p,p∈(GK l x).1->p=x\/p∈l:=λp b=>by
  rcases RD x p l ([],K) b with h|h|h
  .exact kn h
  .simp at h
  .exact kp h
 split at h
 .exact a p h
 .rcases fA.1 h with h|h
  .exact a p h
  .exact kn (by simpa using h)
def Uq{p:BD}(h:Ew w p):∀u∈Bp p,u.oneCell'=hG:=by
 obtain⟨c,b,e⟩:=Aj h;intro u a;simp only[Bp,fx,gP,or_false]at a;rcases a with rfl|rfl
 .rfl
 .rw[e];rfl
theorem Re(FL:Option Addr)(E0:Nat)(a:kJ BD)(x:BD)(w:kq)(h:D8 w (U FL (Z a) E0) a)(R:Ew w x)(NE:Z a<=100000)(FT:O0 x.f):
  Calls prog 22 #[U FL (Z a) E0,kx (j1 (Bp x))] w λe w'=>∃c j,e=j3 (U c (Z (Ii a x)) j)/\D8 w' (U c (Z (Ii a x)) j) (Ii a x)/\Ac [] w w':=by
 obtain⟨i0,FC,CC,FF,EY⟩:=gH Tryz.info63;have H8:kt (∀wr,Ac [] w wr->Calls prog 21 #[U FL (Z a) E0,kx (j1 (Bp x))] wr λe w'=>e=j3 (k0 (U7 a x.f))/\Ac [] wr w'):=λwr E=>JZ FL E0 a x wr (h.kept E) (R.kept E) (by omega) FT
 have K8:kt (∀(p:BD) wr,p∈a->Ac [] w wr->Calls prog 48 #[kx (j1 (Bp x)),kx (j1 (Bp p))] wr λe w'=>e=j3 (k0 (Dy x.f p.f))/\Ac [] wr w'):=λp wr H E=>XR x p wr (R.kept E) ((h.each p H).1.kept E) FT (h.each p H).2
 have HS:=Ab h;have LB:kt (∀(wr:kq) c j,Ac [] w wr->kw wr 0 63 2 (U c (Z (MP a x)) j) (Z (MP a x)) ((MP a x).flatMap Bp)->D8 wr (U c (Z (MP a x)) j) (MP a x)):=by
  intro wr c j E hr;refine⟨hr,λp H=>?_⟩;rcases aG H with rfl|H
  .exact⟨R.kept E,FT⟩
  .exact⟨(h.each p H).1.kept E,(h.each p H).2⟩
 have HR:=Ab (Uq R);have MB:kt (∀p∈a,∀u∈Bp p,u.oneCell'=hG):=λp H=>Uq (h.each p H).1
 obtain⟨z,A,K3⟩:=Aj R;obtain⟨D,QQ,B9⟩:∃n v,Bp x=[O n,v]/\v=U z (Z x.f.args) A:=⟨_,_,rfl,K3⟩;obtain⟨B9,rfl⟩:=B9;rw[B9]at H8 K8 HR⊢;have LC:=Ab B9;generalize Z x.f.args=xl at*;clear h R FT K3 B9;have r:=Ab (kN w [O D,U z xl A] 63);have l:=Ab ((kL [] w).alloc (jj [O D,U z xl A].toArray 63));have Pl:∀(x:Bool) (w:kq),(Op.unary .not (k0 x)).run prog w=.ok (k0 (!x)) w:=λ_ _=>rfl
 obtain⟨FW,H7⟩:=kK (Ii a x);rw[H7];have FO:kt ((if U7 a x.f then a else MP a x)=FW):=H7;clear H7;go_enter func22,ntmps22;go_wp2_with fail
 refine(H8 _ l).mono ?_;rintro e w2 ⟨rfl,k2⟩;have HO:=Ab (r.kept k2);have HD:=Ab (l.trans k2);clear H8 r l k2;generalize U7 a x.f=HB at FO;cases HB with
 |true=>
  have HE:kt (a=FW):=FO;go_wp2;go_ret;rw[<-Aa HE];exact⟨FL,E0,rfl,HS.kept HD,HD⟩
 |false=>
  have HE:kt (MP a x=FW):=FO;clear FO;go_wp2;obtain⟨N,H3⟩:=kK w.heap.size;rw[H3]at HO⊢;have FB:=Ab H3;clear H3
  go_loopg [6,7,8] (Z a) (λgk o d i wr=>∃(k:Nat) (b:kJ BD) (s:Bool) (C:Option Addr) (B:Nat),o=U C (Z b) B/\d=k0 s/\i=X J k/\k<=Z a/\gk=Z a-k/\Z b<=k+s.toNat/\kt (GK (a.take k) x=(b,s))/\kw wr (N+1) 63 2 (U C (Z b) B) (Z b) (b.flatMap Bp)/\kt (Ac [] w wr)/\kt (AF wr N [O D,U z xl A] 63))
  case atStart=>exact⟨0,[],K,Y,0,rfl,rfl,rfl,by omega,rfl,by simp,by show _=_;simp[GK],fK _ _ _ _,HD,HO⟩
  case round=>
   clear HO HD;obtain⟨k,b,s,C,B,rfl,rfl,rfl,E,K7,IJ,HF,I,l,r⟩:=hrel;have HG:=Ab K7;clear K7;have PT:=r.lt;(have N4:s.toNat<=1:=by cases s<;>simp);have HJ:kt (Z b<=k+s.toNat):=IJ;(have Os:Z b<=100001:=by omega);clear IJ;by_cases BT:k<Z a
   .obtain⟨g,RB,n,F,c,j,he,H0,d0,d1⟩:=Dn (HS.kept l) k BT;simp only[fg]at he;obtain⟨rfl,_,rfl⟩:=he;have c0:=r.cell 0;have c1:=r.cell 1;simp at c0 c1;(have P:kt (GK (a.take (k+1)) x=Et x (b,s) a[k]):=by show _=_;rw[Vy BT,Aa HF]);have CL:=Ab (K8 a[k] wr.drew (fj BT) l.drew);have FP:=Ab (MB a[k] (fj BT));obtain⟨AB,H4⟩:=kK (Dy x.f a[k].f);have Q:=Ab H4;rw[H4]at CL;(have Bx:kt (Bp a[k]=[O n,U c (Z F) j]):=by show _=_;rw[H0];rfl);rw[Aa Bx]at CL FP;have H5:kt (∀wz:kq,Ac [] w wz->ku wz ⟨g,k*2,Y⟩=V (O n)/\ku wz ⟨g,k*2+1,Y⟩=V (U c (Z F) j)):=by
     intro wz M6;obtain⟨g',NV,n',NY,RE,P0,Ix,LL,f0,f1⟩:=Dn (HS.kept M6) k BT;have e2:=LL.symm.trans H0;simp only[fg,fu,gi,BD.mk.injEq,Ag.mk.injEq]at Ix e2;obtain⟨⟨rfl,_,_⟩,_,_⟩:=Ix;obtain⟨⟨rfl,rfl⟩,rfl,_,rfl⟩:=e2;exact⟨f0,f1⟩
    obtain⟨y,hy⟩:=kK (a[k]);rw[hy]at P Bx Q;clear H0 H4 HF hy;cases s with
    |true=>
     (have BA:kt (GK (a.take (k+1)) x=(b++[y],hG)):=by show _=_;rw[Aa P];simp[Et]);clear P CL Q;(have KS:kt (∀(nq:Nat) (m:kq),((wr.drewN nq).alloc (jj #[O n,U c (Z F) j] 63)).grownBy m (U C (Z b) B).ownBlock->Ac [] w m/\AF m N [O D,U z xl A] 63):=λnq m hg=>⟨((l.drewN nq).alloc _).grown hg (λq G=>kp (by have:=(I.lt q G).1;have:=Aa FB;omega)),((r.drewN nq).alloc _).grown hg (λe=>by have:=(I.lt N e).1;omega)⟩);go_wp2_with fail
     go_quiet (fail)
     all_goals
      go_wp2_with (at_builtin;refine fO _ rfl (.tmp 34) (.tmp 39) _ rfl (N+1) 63 i0 _ 2 40 underlying37 FC CC FF EY rfl (by omega) (U C (Z b) B) (Z b) (b.flatMap Bp) rfl (fw (Dh I nq) _) ⟨wr.heap.size,0,Y⟩ 1 1 [O n,U c (Z F) j] rfl rfl (fM (fX (wr.drewN nq) _)) FP (by omega) (by unfold maxLen;omega) (by omega) (by simp;omega) (wr.heap.size+1) (by simp) ?_;intro g1 LM m MY Jx NA NM)
      go_roundg (Z a-(k+1))
      case measure=>have:=Aa HG;omega
      case rel=>exact⟨k+1,b++[y],hG,V ⟨g1,0,Y⟩,LM,by simp,rfl,by go_num,by omega,rfl,by have:=Aa HJ;simp at this⊢;omega,BA,by rw[fR,fN,gI,gd,Aa Bx];simpa using MY,(KS nq m Jx).1,(KS nq m Jx).2⟩
    |false=>
     go_wp2_with fail
     go_region_law (go_simp;go_at_call 48;refine CL.mono ?_;rintro e M ⟨rfl,k3⟩;have H1:=Ab (l.drew.trans k3);have EK:=Ab (r.drew.kept k3);have S:=Ad (CN I) k3;clear k3)
     all_goals
      clear CL l r I;have N2:=EK.lt;obtain⟨NL,OH⟩:=H5 M H1;have x0:=EK.cell 0;have x1:=EK.cell 1;simp at x0 x1;have HU:=Aa HJ;simp only[jL,jP]at HU;clear d0 d1 c0 c1;cases AB with
      |true=>
       have BA:kt (GK (a.take (k+1)) x=(b++[x]++[y],hG)):=by
        show _=_;rw[Aa P];have hh:=Aa Q;simp[Et,hh]
       clear P Q;go_wp2_with (first
        |(at_builtin;refine fO _ rfl (.tmp 30) (.tmp 32) _ rfl (N+1) 63 i0 _ 2 40 underlying37 FC CC FF EY rfl (by omega) (U C (Z b) B) (Z b) (b.flatMap Bp) rfl (fw S _) ⟨M.heap.size,0,Y⟩ 1 1 [O D,U z xl A] rfl rfl (fM (fX M _)) HR (by omega) (by unfold maxLen;omega) (by omega) (by simp;omega) (M.heap.size+1) (by simp) ?_;intro g8 M0 W HI HH L0 LD;have HC:=(H1.alloc _).grown HH (λq G=>kp (by have:=(S.lt q G).1;have:=Aa FB;omega));have f0:=(H5 W HC).1;have f1:=(H5 W HC).2;have MN:=Ab HC;have Mo:=Ab ((EK.alloc _).grown HH (λe=>by have:=(S.lt N e).1;omega));have NX:N+1<=W.heap.size:=(by have:=HH.size;simp at this;omega);clear HH L0 LD HC)
        |(at_builtin;refine fO _ rfl (.tmp 34) (.tmp 39) _ rfl (N+1) 63 i0 _ 2 40 underlying37 FC CC FF EY rfl (by omega) (U (V ⟨g8,0,Y⟩) (Z b+1) M0) (Z b+1) (b.flatMap Bp++[O D,U z xl A]) rfl (fw HI _) ⟨W.heap.size,0,Y⟩ 1 1 [O n,U c (Z F) j] rfl rfl (fM (fX W _)) FP (by omega) (by unfold maxLen;omega) (by omega) (by simp;omega) (W.heap.size+1) (by simp) ?_;intro T AR m Ax L HY H6))
       have AT:=(MN.alloc _).grown L (λq G=>kp (by have:=(HI.lt q G).1;have:=Aa FB;omega));have H9:=(Mo.alloc _).grown L (λe=>by have:=(HI.lt N e).1;omega)
       go_roundg (Z a-(k+1))
       case measure=>have:=Aa HG;omega
       case rel=>exact⟨k+1,b++[x]++[y],hG,V ⟨T,0,Y⟩,AR,by simp,rfl,by go_num,by omega,rfl,by simp;omega,BA,by simp only[fR,fN,gI,gd];rw[Aa Bx,Aa LC];simpa using Ax,AT,H9⟩
      |false=>
       have BA:kt (GK (a.take (k+1)) x=(b++[y],K)):=by
        show _=_;rw[Aa P];have hh:=Aa Q;simp[Et,hh]
       clear P Q;go_wp2_with (at_builtin;refine fO _ rfl (.tmp 34) (.tmp 39) _ rfl (N+1) 63 i0 _ 2 40 underlying37 FC CC FF EY rfl (by omega) (U C (Z b) B) (Z b) (b.flatMap Bp) rfl (fw S _) ⟨M.heap.size,0,Y⟩ 1 1 [O n,U c (Z F) j] rfl rfl (fM (fX M _)) FP (by omega) (by unfold maxLen;omega) (by omega) (by simp;omega) (M.heap.size+1) (by simp) ?_;intro T AR m Ax L HY H6)
       have AT:=(H1.alloc _).grown L (λq G=>kp (by have:=(S.lt q G).1;have:=Aa FB;omega));have H9:=(EK.alloc _).grown L (λe=>by have:=(S.lt N e).1;omega)
       go_roundg (Z a-(k+1))
       case measure=>have:=Aa HG;omega
       case rel=>exact⟨k+1,b++[y],K,V ⟨T,0,Y⟩,AR,by simp,rfl,by go_num,by omega,rfl,by simp;omega,BA,by simp only[fR,fN,gI,gd];rw[Aa Bx];simpa using Ax,AT,H9⟩
   .have K9:kt (GK a x=(b,s)):=by
     have h:=Aa HF
     rwa [fo (by omega)]at h
    cases s with
    |true=>
     (have HW:kt (MP a x=b):=by show _=_;unfold MP;rw[Aa K9];rfl);go_wp2;go_ret;rw[<-Aa HE,Aa HW];have FA:=Aa LB wr C B l;rw[Aa HW]at FA;exact⟨C,B,rfl,FA (Al I (fP _)),l⟩
    |false=>
     (have HW:kt (MP a x=b++[x]):=by show _=_;unfold MP;rw[Aa K9];rfl);have x0:=r.cell 0;have x1:=r.cell 1;simp at x0 x1;have HU:=Aa HJ;simp only[jL,jP]at HU;go_wp2_with (at_builtin;refine fO _ rfl (.tmp 43) (.tmp 45) _ rfl (N+1) 63 i0 _ 2 40 underlying37 FC CC FF EY rfl (by omega) (U C (Z b) B) (Z b) (b.flatMap Bp) rfl (fw I _) ⟨wr.heap.size,0,Y⟩ 1 1 [O D,U z xl A] rfl rfl (fM (fX wr _)) HR (by omega) (by unfold maxLen;omega) (by omega) (by simp;omega) (wr.heap.size+1) (by simp) ?_;intro T AR m Ax L HY H6)
     have AT:=(l.alloc _).grown L (λq G=>kp (by have:=(I.lt q G).1;have:=Aa FB;omega));have HP:=Ab (And.intro Ax AT);clear Ax AT L HY H6;go_wp2;go_ret;rw[<-Aa HE,Aa HW];have FA:=Aa LB m (V ⟨T,0,Y⟩) AR HP.2;rw[Aa HW]at FA;refine⟨V ⟨T,0,Y⟩,AR,by simp,FA ?_,HP.2⟩;simp only[fR,fN,gI,gd];rw[Aa LC];simpa using Al HP.1 (fP _)
def Fo:zA->Bool->kJ zA->zA
 |s,_,[]=>s
 |s,b,x::l=>Fo ((if b then s++⟨#[44]⟩else s)++x) hG l
def EZ(f:Ag):zA:=Fo (f.name++⟨#[40]⟩) K f.args++⟨#[41,46]⟩
def Qu(c:UInt8):(⟨#[c]⟩:zA).size=1:=rfl
def Zx(c d:UInt8):(⟨#[c,d]⟩:zA).size=2:=rfl
def Pf:∀(l:kJ zA) (s:zA) (b:Bool),(∀x∈l,x.size<=1000000)->(Fo s b l).size<=s.size+Z l*1000001
 |[],s,b,_=>by simp[Fo]
 |x::l,s,b,h=>by
  have c:=h x (by simp);have ih:=Pf l ((if b then s++⟨#[44]⟩else s)++x) hG (λy a=>h y (by simp[a]));rw[Fo];simp only[fD];have:((if b then s++⟨#[44]⟩else s)++x).size<=s.size+1+x.size:=by
   rw[fV];cases b
   .simp
   .simp only[if_true];rw[fV,Qu];omega
  omega
def VA{f:Ag}(h:O0 f)(c:f.name.size<=1000000):(EZ f).size<=2000000000:=by
 have:=Pf f.args (f.name++⟨#[40]⟩) K (λx a=>(h.each x a).2);have b:=h.len;unfold EZ;rw[fV,Zx];rw[fV,Qu]at this;omega
theorem L5(p:BD)(w:kq)(h:Ew w p)(P:Z p.f.args<=1000)(u:∀x∈p.f.args,x.size<=1000000)(Q:p.f.name.size<=1000000):
  Calls prog 30 #[kx (j1 (Bp p))] w λe E=>e=j3 (O (EZ p.f))/\Ac [] w E:=by
 obtain⟨⟨n,a⟩,av⟩:=p;have H:kt (∀x∈a,x.size<=1000000):=u;simp only at P Q;obtain⟨b,c,e⟩:=Aj h;simp only at e;subst e;have I:kt (kw w 0 9 1 (U b (Z a) c) (Z a) (a.flatMap Ah)):=h;obtain⟨R,v⟩:=kK (EZ ⟨n,a⟩);rw[v];have B:kt (Fo (n++⟨#[40]⟩) K (a.drop 0)++⟨#[41,46]⟩=R):=v;have q:=Ab (kN w [O n,U b (Z a) c] 63);have t:=Ab ((kL [] w).alloc (jj [O n,U b (Z a) c].toArray 63));clear h u v;simp only[Bp];have G:(n++⟨#[40]⟩:zA).size<=1000001:=by rw[fV,Qu];omega
 have Ax:(⟨#[40]⟩:zA).size=1:=rfl;have AB:(⟨#[44]⟩:zA).size=1:=rfl;have AT:(⟨#[41,46]⟩:zA).size=2:=rfl;go_enter func30,ntmps30;go_wp2;change Code.wp _ _ _ _ (w.alloc (jj [O n,U b (Z a) c].toArray 63));generalize w.alloc (jj [O n,U b (Z a) c].toArray 63)=w1 at q t⊢;generalize w.heap.size=N at q⊢;have L:=q.cell 1;simp at L
 go_loopg [3,4] (Z a) (λgk o i wr=>∃(k:Nat) (s:zA),o=O s/\i=X J k/\k<=Z a/\gk=Z a-k/\s.size<=1000001+k*1000001/\kt (Fo s (decide (0<k)) (a.drop k)++⟨#[41,46]⟩=R)/\wr=w1)
 case atStart=>exact⟨0,_,rfl,rfl,by omega,rfl,by simpa using G,B,rfl⟩
 case round=>
  clear B;obtain⟨k,s,rfl,rfl,T,A,AH,d,rfl⟩:=hrel;have z:=Ab A;clear A;by_cases l:k<Z a
  .obtain⟨g,W,C,d0⟩:=He (Ad I t) k l;simp only[fg]at C;obtain⟨rfl,_,rfl⟩:=C;have u:=Aa H a[k] (fj l);have j:kt (Fo ((if decide (0<k)then s++⟨#[44]⟩else s)++a[k]) hG (a.drop (k+1))++⟨#[41,46]⟩=R):=by
    have h:=Aa d;rw[fQ l,Fo]at h;exact h
   have D:k*1000001<=1000*1000001:=gK _ (by omega);by_cases y:0<k
   ·(have F:(0:Int)<(k:Int):=by omega);have m:kt (Fo (s++⟨#[44]⟩++a[k]) (decide (0<k+1)) (a.drop (k+1))++⟨#[41,46]⟩=R):=by
     have h:=Aa j;simp only[y,decide_true,if_true]at h;show _=_;simpa using h
    (have M:(s++⟨#[44]⟩:zA).size=s.size+1:=by rw[fV];rfl);(have r:(s++⟨#[44]⟩++a[k]:zA).size<=1000001+(k+1)*1000001:=by rw[fV,M];omega);clear d j;go_wp2
    go_roundg (Z a-(k+1))
    case measure=>have:=Aa z;omega
    case rel=>exact⟨k+1,_,rfl,by go_num,by omega,rfl,r,m,rfl⟩
   ·(have F:¬(0:Int)<(k:Int):=by omega);have m:kt (Fo (s++a[k]) (decide (0<k+1)) (a.drop (k+1))++⟨#[41,46]⟩=R):=by
     have h:=Aa j;simp only[y,j9,fq,if_false]at h;show _=_;simpa using h
    (have r:(s++a[k]:zA).size<=1000001+(k+1)*1000001:=by rw[fV];omega);clear d j;go_wp2
    go_roundg (Z a-(k+1))
    case measure=>have:=Aa z;omega
    case rel=>exact⟨k+1,_,rfl,by go_num,by omega,rfl,r,m,rfl⟩
  .have S:kt (s++⟨#[41,46]⟩=R):=by
    have h:=Aa d;rw[gr (by omega)]at h;exact h
   have D:k*1000001<=1000*1000001:=gK _ (by omega);go_wp2;go_ret;rw[<-Aa S];exact⟨rfl,t⟩
def Sn(p:BD)(w:kq)(h:Ew w p)(a:O0 p.f)(d:p.f.name.size<=1000000):
  Calls prog 30 #[kx (j1 (Bp p))] w λe b=>e=j3 (O (EZ p.f))/\Ac [] w b:=
 L5 p w h a.len (λx c=>(a.each x c).2) d
def L7:zA->kJ BD->zA
 |t,[]=>t
 |t,p::l=>L7 (t++EZ p.f++⟨#[10]⟩) l
theorem NZ(z:Option Addr)(B:Nat)(a:kJ BD)(w:kq)(h:D8 w (U z (Z a) B) a)(AB:Z a<=100000)(u:∀p∈a,p.f.name.size<=1000000):
  Calls prog 13 #[U z (Z a) B] w λe m=>e=j3 (O (L7 kB a))/\Ac [] w m:=by
 have H:=Ab h;have P:kt (∀(p:BD) wr,p∈a->Ac [] w wr->Calls prog 30 #[kx (j1 (Bp p))] wr λe m=>e=j3 (O (EZ p.f))/\Ac [] wr m):=λp wr b v=>Sn p wr ((h.each p b).1.kept v) (h.each p b).2 (u p b)
 have I:kt (∀p∈a,(EZ p.f).size<=2000000000):=λp b=>VA (h.each p b).2 (u p b)
 obtain⟨R,t⟩:=kK (L7 kB a);rw[t];have A:kt (L7 kB (a.drop 0)=R):=t;clear h t u;have Ax:(⟨#[10]⟩:zA).size=1:=rfl;go_enter func13,ntmps13;go_wp2
 go_loopg [3,4] (Z a) (λgk o i wr=>∃(k:Nat) (s:zA),o=O s/\i=X J k/\k<=Z a/\gk=Z a-k/\s.size<=k*2000000001/\kt (L7 s (a.drop k)=R)/\kt (Ac [] w wr))
 case atStart=>exact⟨0,kB,rfl,rfl,by omega,rfl,by simp,A,kL _ _⟩
 case round=>
  clear A;obtain⟨k,s,rfl,rfl,v,y,AH,q,l⟩:=hrel;have E:=Ab y;clear y;have Q:k*2000000001<=100000*2000000001:=gK _ (by omega);by_cases d:k<Z a
  .obtain⟨g,W,n,L,ad,cp,D,C,d0,T⟩:=Dn (H.kept l) k d;simp only[fg]at D;obtain⟨rfl,_,rfl⟩:=D;have c:=Ab (P a[k] wr (fj d) l);have r:=Aa I a[k] (fj d);have j:kt (L7 (s++EZ a[k].f++⟨#[10]⟩) (a.drop (k+1))=R):=by
    have h:=Aa q;rw[fQ d,L7]at h;exact h
   rw[C]at c r j;simp only[Bp]at c r j;generalize EZ ⟨n,L⟩=FT at c r j;clear C q;(have F:(s++FT:zA).size=s.size+FT.size:=by rw[fV]);(have G:(s++FT++⟨#[10]⟩:zA).size<=(k+1)*2000000001:=by rw[fV,F];omega);(go_wp2_with fail);refine c.mono ?_;rintro e S ⟨rfl,x⟩;have M:=Ab (l.trans x);clear c x;go_wp2
   go_roundg (Z a-(k+1))
   case measure=>have:=Aa E;omega
   case rel=>exact⟨k+1,_,rfl,by go_num,by omega,rfl,G,j,M⟩
  .have N:kt (s=R):=by
    have h:=Aa q;rw[gr (by omega)]at h;exact h
   go_wp2;go_ret;rw[<-Aa N];exact⟨rfl,l⟩
def Ai(e:kJ zA):kJ ks:=e.map O
def Bh(e:kJ zA):(kx (j1 (Ai e))).cells=j1 (Ai e):=by
 unfold Ai;simp[Value.cells]
def AJ(e:kJ zA)(t:AG):zA:=if t.v=0 then t.s else e.getD (t.v.toNat-65) kB
theorem Kk(e:kJ zA)(t:AG)(w:kq)(C:Z e=26)(f:t.v=0\/(65<=t.v.toNat/\t.v.toNat<=90)):
  Calls prog 96 #[kx (j1 (Ai e)),kx (j1 (AP t))] w λr x=>r=j3 (O (AJ e t))/\Ac [] w x:=by
 have D:=Bh e;have A:Z (Ai e)=26:=by unfold Ai;simp[C]
 have g:kt (∀i (h:i<26),(Ai e)[i]?=V (O (e.getD i kB))):=by
  intro i h;unfold Ai;rw[io,fG,fI (by omega)];rfl
 obtain⟨a,c⟩:=t;obtain⟨R,m⟩:=kK (AJ e ⟨a,c⟩);rw[m];have k:kt ((if a=0 then c else e.getD (a.toNat-65) kB)=R):=m;generalize Ai e=E at D A g⊢;have l:=Ab (((kL [] w).alloc (jj (j1 E) 141)).alloc (jj [X .u8 a.toNat,O c].toArray 135));have p:=Ab ((kN w E 141).alloc (jj [X .u8 a.toNat,O c].toArray 135));simp only[AP];clear m;simp only at f;by_cases b:a=0
 .have d:kt (c=R):=by have h:=Aa k;rw[fF b]at h;exact h
  subst b;go_enter func96,ntmps96;go_wp2;go_ret;rw[<-Aa d];exact⟨rfl,l⟩
 .have d:kt (e.getD (a.toNat-65) kB=R):=by have h:=Aa k;rw[fB b]at h;exact h
  have B:65<=a.toNat/\a.toNat<=90:=by
   rcases f with h|h
   .exact absurd h b
   .exact h
  have z:((a.toNat:Int)==0)=K:=by rw[gm];omega
  obtain⟨j,u⟩:=kK (a.toNat-65);have s:a.toNat=j+65:=by omega
  rw[u]at d;have q:j<26:=by omega
  rw[s]at p l z⊢;have o:=p.cell j;rw[Aa g j q]at o;have y:kt (∀h:j<Z E,E[j]=O (e.getD j kB)):=λh=>by
   have n:=Aa g j q;rw[fI h]at n;exact jD n
  clear k u s B f b o;go_enter func96,ntmps96;go_wp2;go_ret;rw[<-Aa d];exact⟨congrArg j3 (y _),l⟩
def SX(x:zA):Bool:=x.toList==[]
def DQ(x:zA):SX x=hG↔x.size=0:=by
 unfold SX;rw[BY];cases h:x.toList<;>simp
def ED(a b:zA):(a.toList==b.toList)=hG↔a=b:=by
 constructor
 .intro h;exact toList_inj (by simpa using h)
 .intro h;rw[h];simp
def CU:kJ zA->kJ AG->kJ zA->kJ zA×Bool
 |e,[],_=>(e,hG)
 |e,_::_,[]=>(e,hG)
 |e,t::ts,x::xs=>if SX (AJ e t)then CU (e.set (t.v.toNat-65) x) ts xs else if(AJ e t).toList==x.toList then CU e ts xs else(e,K)
def dx(e e':kJ zA):Prop:=Z e'=Z e/\∀j,(e.getD j kB).size≠0->e'.getD j kB=e.getD j kB
def dx.refl(e:kJ zA):dx e e:=⟨rfl,λ_ _=>rfl⟩
def dx.trans{a b c:kJ zA}(h:dx a b)(k:dx b c):dx a c:=⟨k.1.trans h.1,λj d=>(k.2 j (by rw[h.2 j d];exact d)).trans (h.2 j d)⟩
def dx.set{e:kJ zA}{j:Nat}(h:(e.getD j kB).size=0)(x:zA):dx e (e.set j x):=by
 refine⟨by simp,λi b=>?_⟩;by_cases a:j=i
 .subst a;exact absurd h b
 .rw[fG,fG,List.getElem?_set_ne a]
def Qm{e c:kJ zA}(h:dx e c){t:AG}(b:(AJ e t).size≠0):AJ c t=AJ e t:=by
 unfold AJ at b⊢;by_cases a:t.v=0
 .rw[fF a,fF a]
 .rw[fB a]at b⊢;rw[fB a];exact h.2 _ b
def By(t:AG):Prop:=(t.v=0/\t.s.size≠0)\/(65<=t.v.toNat/\t.v.toNat<=90)
def By.zv{t:AG}(h:By t)(a:(AJ e t).size=0):t.v≠0/\65<=t.v.toNat/\t.v.toNat<=90/\(e.getD (t.v.toNat-65) kB).size=0:=by
 rcases h with⟨c,b⟩|⟨b,d⟩
 .unfold AJ at a;rw[fF c]at a;exact absurd a b
 .have c:t.v≠0:=λh=>by rw[h]at b;exact absurd b (by decide)
  unfold AJ at a;rw[fB c]at a;exact⟨c,b,d,a⟩
def ae{t:AG}(c:Z e=26)(a:t.v≠0)(b:65<=t.v.toNat)(d:t.v.toNat<=90)(x:zA):AJ (e.set (t.v.toNat-65) x) t=x:=by
 unfold AJ;rw[fB a,fG,jW (by omega)];rfl
def GM:∀(a:kJ AG) (b:kJ zA) (e c:kJ zA),Z e=26->Z a=Z b->(∀t∈a,By t)->(∀x∈b,x.size≠0)->CU e a b=(c,hG)->dx e c/\a.map (AJ c)=b
 |[],[],e,c,_,_,_,_,h=>by
  simp only[CU,gA]at h;rw[<-h.1];exact⟨dx.refl e,rfl⟩
 |[],_::_,_,_,_,h,_,_,_=>by simp at h
 |_::_,[],_,_,_,h,_,_,_=>by simp at h
 |t::a,x::b,e,c,he,hl,hg,hx,h=>by
  rw[CU]at h;have n:Z a=Z b:=by simpa using hl
  have o:∀t∈a,By t:=λu j=>hg u (by simp[j])
  have l:∀x∈b,x.size≠0:=λu j=>hx u (by simp[j])
  have m:=hx x (by simp);by_cases k:SX (AJ e t)=hG
  .rw[fF k]at h;obtain⟨r,q,p,s⟩:=(hg t (by simp)).zv ((DQ _).1 k);obtain⟨d,g⟩:=GM a b (e.set (t.v.toNat-65) x) c (by simp[he]) n o l h;have f:=ae he r q p x;refine⟨(dx.set s x).trans d,?_⟩;rw[fS,g,Qm d (by rw[f];exact m),f]
  .rw[fB k]at h;by_cases i:((AJ e t).toList==x.toList)=hG
   .rw[fF i]at h;obtain⟨d,g⟩:=GM a b e c he n o l h;have f:=(ED _ _).1 i;refine⟨d,?_⟩;rw[fS,g,Qm d (by rw[f];exact m),f]
   .rw[fB i]at h;simp at h
def Ev(σ:UInt8->zA)(t:AG):zA:=if t.v=0 then t.s else σ t.v
def Ee(e:kJ zA)(σ:UInt8->zA):Prop:=Z e=26/\∀v:UInt8,65<=v.toNat->v.toNat<=90->(e.getD (v.toNat-65) kB).size=0\/e.getD (v.toNat-65) kB=σ v
def Ee.val{σ:UInt8->zA}(h:Ee e σ){t:AG}(g:By t)(d:(AJ e t).size≠0):AJ e t=Ev σ t:=by
 unfold AJ at d⊢;unfold Ev;by_cases a:t.v=0
 .rw[fF a,fF a]
 .rw[fB a]at d⊢;rw[fB a];rcases g with⟨b,_⟩|⟨b,f⟩
  .exact absurd b a
  .rcases h.2 t.v b f with c|c
   .exact absurd c d
   .exact c
def Ee.set{e:kJ zA}{σ:UInt8->zA}(h:Ee e σ){v:UInt8}(f:65<=v.toNat)(d:v.toNat<=90):Ee (e.set (v.toNat-65) (σ v)) σ:=by
 refine⟨by simp[h.1],λu a b=>?_⟩;by_cases c:v.toNat-65=u.toNat-65
 .have:v=u:=il.1 (by omega);subst this;right;rw[fG,jW (by rw[h.1];omega)];rfl
 .rw[fG,List.getElem?_set_ne c,<-fG];exact h.2 u a b
def JO(σ:UInt8->zA):∀(a:kJ AG) (e:kJ zA),Ee e σ->(∀t∈a,By t/\(Ev σ t).size≠0)->∃f,CU e a (a.map (Ev σ))=(f,hG)/\Ee f σ
 |[],e,h,_=>⟨e,rfl,h⟩
 |t::a,e,h,hg=>by
  rw[fS,CU];have g:∀u∈a,By u/\(Ev σ u).size≠0:=λu l=>hg u (by simp[l])
  obtain⟨d,o⟩:=hg t (by simp);by_cases b:SX (AJ e t)=hG
  .rw[fF b];obtain⟨m,k,i,n⟩:=d.zv ((DQ _).1 b);(have c:Ev σ t=σ t.v:=by unfold Ev;rw[fB m]);rw[c];exact JO σ a _ (h.set k i) g
  .rw[fB b];have c:=h.val d (λj=>b ((DQ _).2 j));rw[fF (by rw[c];simp)];exact JO σ a e h g
def RK:∀(l m:kJ zA),GX l m=hG↔l=m
 |[],[]=>by simp[GX]
 |[],_::_=>by simp[GX]
 |_::_,[]=>by simp[GX]
 |x::l,y::m=>by
  rw[GX,fU,ED,RK l m];simp
def F5(a b:Ag):Cl a b=hG↔a=b:=by
 obtain⟨d,f⟩:=a;obtain⟨e,c⟩:=b;unfold Cl;rw[fU,ED,RK];simp
def Av(e:kJ zA)(A:C8):Ag:=⟨A.name,A.args.map (AJ e)⟩
def Br(σ:UInt8->zA)(A:C8):Ag:=⟨A.name,A.args.map (Ev σ)⟩
def BX(e:kJ zA)(A:C8)(f:Ag):kJ zA×Bool:=if(A.name.toList==f.name.toList)&&(Z A.args==Z f.args)then CU e A.args f.args else(e,K)
def G0(e:kJ zA)(A:C8)(f:Ag):Option (kJ zA):=if(BX e A f).2 then V (BX e A f).1 else Y
def B1(s:kJ Ag)(l:kJ (kJ zA))(x:BH):kJ (kJ zA):=if x.kind==97 then l.flatMap (λe=>s.filterMap (G0 e x.A))else l
def DI(s:kJ Ag)(f:Ag):Bool:=s.any λg=>Cl g f
def C5(s:kJ Ag)(f:Ag):DI s f=hG↔f∈s:=by
 unfold DI;rw[gV];constructor
 .rintro ⟨g,a,h⟩;rw[F5]at h;rw[<-h];exact a
 .intro h;exact⟨f,h,(F5 f f).2 rfl⟩
def B7(fact:C8->Ag)(val:AG->zA)(s:kJ Ag)(x:BH):Bool:=
 if x.kind==97 then DI s (fact x.A)else if x.kind==33 then !DI s (fact x.A)else if x.kind==61 then(val x.L).toList==(val x.R).toList else if x.kind==35 then !((val x.L).toList==(val x.R).toList)else Fu (val x.L) (val x.R)
def BM:kJ zA:=kD 26 kB
def Cp(body:kJ BH)(s:kJ Ag):kJ (kJ zA):=(body.foldl (B1 s) [BM]).filter λe=>body.all λx=>x.kind==97||B7 (Av e) (AJ e) s x
def Kh(f:Ag):Prop:=∀x∈f.args,x.size≠0
def R7{e d:kJ zA}{A:C8}{f:Ag}(h:G0 e A f=V d):A.name=f.name/\Z A.args=Z f.args/\CU e A.args f.args=(d,hG):=by
 unfold G0 BX at h;by_cases c:((A.name.toList==f.name.toList)&&(Z A.args==Z f.args))=hG
 .rw[fF c]at h;rw[fU]at c;cases hm:CU e A.args f.args with
  |mk a b=>
   rw[hm]at h;cases b with
   |false=>simp at h
   |true=>
    simp at h;exact⟨(ED _ _).1 c.1,by simpa using c.2,by rw[h]⟩
 .rw[fB c]at h;simp at h
def cY{e a:kJ zA}{A:C8}{f:Ag}(d:A.name=f.name)(c:Z A.args=Z f.args)(g:CU e A.args f.args=(a,hG)):G0 e A f=V a:=by
 have h:((A.name.toList==f.name.toList)&&(Z A.args==Z f.args))=hG:=by
  rw[fU,ED];exact⟨d,by simpa using c⟩
 have b:BX e A f=(a,hG):=by
  unfold BX;rw[fF h,g]
 unfold G0;rw[b];rfl
def DE{s:kJ Ag}(n:∀f∈s,Kh f):∀(g:kJ BH) (l:kJ (kJ zA)),(∀e∈l,Z e=26)->(∀x∈g,(x.kind==97)=hG->∀t∈x.A.args,By t)->
  ∀a∈g.foldl (B1 s) l,Z a=26/\∃e∈l,dx e a/\∀x∈g,(x.kind==97)=hG->Av a x.A∈s/\∀t∈x.A.args,(AJ a t).size≠0
 |[],l,hl,_,a,he'=>⟨hl a he',a,he',dx.refl a,λx M=>by simp at M⟩
 |x::g,l,hl,hg,a,he'=>by
  rw[fZ]at he';have w:∀x∈g,(x.kind==97)=hG->∀t∈x.A.args,By t:=λy c=>hg y (by simp[c])
  by_cases j:(x.kind==97)=hG
  .have D:∀b∈B1 s l x,∃e∈l,∃f∈s,G0 e x.A f=V b:=by
    intro b k;unfold B1 at k;rw[fF j]at k;obtain⟨e,d,F⟩:=gc.1 k;obtain⟨f,h,m⟩:=ig.1 F;exact⟨e,d,f,h,m⟩
   have I:∀b∈B1 s l x,Z b=26:=by
    intro b k;obtain⟨e,d,f,h,m⟩:=D b k;obtain⟨_,r,v⟩:=R7 m;rw[(GM _ _ _ _ (hl e d) r (hg x (by simp) j) (n f h) v).1.1,hl e d]
   obtain⟨u,b,L,p,q⟩:=DE n g (B1 s l x) I w a he';obtain⟨e,d,f,h,m⟩:=D b L;obtain⟨H,r,v⟩:=R7 m;obtain⟨E,B⟩:=GM _ _ _ _ (hl e d) r (hg x (by simp) j) (n f h) v;(have C:∀t∈x.A.args,(AJ b t).size≠0:=λt i=>n f h _ (by rw[<-B];exact fW i));(have z:∀t∈x.A.args,AJ a t=AJ b t:=λt i=>Qm p (C t i));refine⟨u,e,d,E.trans p,λy c o=>?_⟩;rcases fx.1 c with rfl|c
   .refine⟨?_,λt i=>by rw[z t i];exact C t i⟩;have:Av a y.A=f:=by
     unfold Av;rw[gN z,B,H]
    rw[this];exact h
   .exact q y c o
  ·(have G:B1 s l x=l:=by unfold B1;rw[fB j]);rw[G]at he';obtain⟨u,e,d,p,q⟩:=DE n g l hl w a he';refine⟨u,e,d,p,λy c o=>?_⟩;rcases fx.1 c with rfl|c
   .exact absurd o j
   .exact q y c o
def JU{s:kJ Ag}(σ:UInt8->zA):∀(a:kJ BH) (l:kJ (kJ zA)) (e:kJ zA),e∈l->Ee e σ->(∀x∈a,(x.kind==97)=hG->(∀t∈x.A.args,By t/\(Ev σ t).size≠0)/\Br σ x.A∈s)->
  ∃m∈a.foldl (B1 s) l,Ee m σ
 |[],l,e,he,ha,_=>⟨e,he,ha⟩
 |x::a,l,e,he,ha,hb=>by
  rw[fZ];have c:∀y∈a,(y.kind==97)=hG->(∀t∈y.A.args,By t/\(Ev σ t).size≠0)/\Br σ y.A∈s:=λy h=>hb y (by simp[h])
  by_cases b:(x.kind==97)=hG
  .obtain⟨j,g⟩:=hb x (by simp) b;obtain⟨d,k,i⟩:=JO σ x.A.args e ha j;refine JU σ a _ d ?_ i c;unfold B1;rw[fF b];exact gc.2 ⟨e,he,ig.2 ⟨_,g,cY rfl (by simp[Br]) k⟩⟩
  ·(have f:B1 s l x=l:=by unfold B1;rw[fB b]);rw[f];exact JU σ a l e he ha c
def Ee.start(σ:UInt8->zA):Ee BM σ:=by
 refine⟨rfl,λv a b=>kn ?_⟩;unfold BM;rw[fG,List.getElem?_replicate];split<;>rfl
def Gx(body:kJ BH)(t:AG):Prop:=t.v=0\/∃x∈body,(x.kind==97)=hG/\∃u∈x.A.args,u.v=t.v
def OO(e:kJ zA)(v:UInt8):zA:=e.getD (v.toNat-65) kB
def J1(e:kJ zA)(t:AG):Ev (OO e) t=AJ e t:=rfl
def SH{s:kJ Ag}(k:∀f∈s,Kh f){b:kJ BH}(l:∀x∈b,(x.kind==97)=hG->∀t∈x.A.args,By t)(a:e∈Cp b s):
  ∀x∈b,B7 (Av e) (AJ e) s x=hG:=by
 unfold Cp at a;obtain⟨i,g⟩:=fT.1 a;obtain⟨_,_,_,_,j⟩:=DE k b [BM] (λe a=>by simp at a;rw[a];rfl) l e i;intro x d;by_cases c:(x.kind==97)=hG
 .unfold B7;rw[fF c];exact(C5 _ _).2 (j x d c).1
 .have:=(ik.1 g) x d;simp only[ie]at this;rcases this with h|h
  .exact absurd h c
  .exact h
def T8{s:kJ Ag}(o:∀f∈s,Kh f){a:kJ BH}(l:∀x∈a,(x.kind==97)=hG->∀t∈x.A.args,By t)(σ:UInt8->zA)(p:∀x∈a,B7 (Br σ) (Ev σ) s x=hG)
  (C:∀x∈a,(x.kind==97)=K->((x.kind==33)=hG->∀t∈x.A.args,Gx a t)/\((x.kind==33)=K->Gx a x.L/\Gx a x.R)):
  ∃e∈Cp a s,∀t,Gx a t->AJ e t=Ev σ t:=by
 have r:∀x∈a,(x.kind==97)=hG->(∀t∈x.A.args,By t/\(Ev σ t).size≠0)/\Br σ x.A∈s:=by
  intro x c b;have h:=p x c;unfold B7 at h;rw[fF b,C5]at h;exact⟨λt g=>⟨l x c b t g,o _ h _ (fW g)⟩,h⟩
 obtain⟨e,i,B⟩:=JU σ a [BM] BM (by simp) (Ee.start σ) r;obtain⟨_,_,_,_,q⟩:=DE o a [BM] (λe i=>by simp at i;rw[i];rfl) l e i;have j:∀t,Gx a t->AJ e t=Ev σ t:=by
  intro t g;rcases g with d|⟨x,c,b,u,n,z⟩
  .unfold AJ Ev;rw[fF d,fF d]
  .have w:=(q x c b).2 u n;have k:=B.val (l x c b u n) w;unfold AJ Ev at k⊢;rw[<-z];by_cases d:u.v=0
   .rw[fF d,fF d]
   .rw[fB d,fB d]at k⊢;exact k
 refine⟨e,?_,j⟩;unfold Cp;refine fT.2 ⟨i,ik.2 λx c=>?_⟩;cases b:(x.kind==97)with
 |true=>rfl
 |false=>
  obtain⟨y,m⟩:=C x c b;rw[iZ,<-p x c];unfold B7;simp only[b,fq,if_false];cases hk2:(x.kind==33)with
  |true=>
   simp only[if_true];have:Av e x.A=Br σ x.A:=by
    unfold Av Br;rw[gN (λt g=>j t (y hk2 t g))]
   rw[this]
  |false=>
   simp only[fq,if_false];rw[j _ (m hk2).1,j _ (m hk2).2]
def Ak(c:AY):kJ BH:=c.bl.map Prod.fst
def DL(c:AY)(σ:UInt8->zA):GE Ag:=
 ⟨((Ak c).filter λx=>x.kind==97).map λx=>Br σ x.A,((Ak c).filter λx=>x.kind==33).map λx=>Br σ x.A,Br σ c.head⟩
def Ti(c:AY)(σ:UInt8->zA):Prop:=∀x∈Ak c,(x.kind==97)=K->(x.kind==33)=K->B7 (Br σ) (Ev σ) [] x=hG
def Fj(cs:kJ AY)(i:GE Ag):Prop:=∃c∈cs,∃σ,Ti c σ/\i=DL c σ
def U3{f:C8->Ag}{v:AG->zA}{s t:kJ Ag}{x:BH}(a:(x.kind==97)=K)(b:(x.kind==33)=K):B7 f v s x=B7 f v t x:=by
 unfold B7;rw[a,b];rfl
def GZ(c:AY)(σ:UInt8->zA)(s:kJ Ag):(∀x∈Ak c,B7 (Br σ) (Ev σ) s x=hG)↔Jn (DL c σ) (·∈s) (·∈s)/\Ti c σ:=by
 constructor
 .intro h;refine⟨⟨λg i=>?_,λg i l=>?_⟩,λx a f e=>?_⟩
  .obtain⟨x,a,rfl⟩:=fC.1 i;obtain⟨a,b⟩:=fT.1 a;have d:=h x a;unfold B7 at d;rw[fF b,C5]at d;exact d
  .obtain⟨x,a,rfl⟩:=fC.1 i;obtain⟨a,b⟩:=fT.1 a;have d:=h x a;have j:(x.kind==97)=K:=by
    (have:x.kind=33:=by simpa using b);rw[this];rfl
   unfold B7 at d;rw[fB (by rw[j];simp),fF b,(C5 _ _).2 l]at d;cases d
  .rw[U3 f e (t:=s)];exact h x a
 .rintro ⟨⟨f,e⟩,k⟩ x a;cases b:(x.kind==97)with
  |true=>
   unfold B7;rw[b,fF rfl,C5];exact f _ (fC.2 ⟨x,fT.2 ⟨a,b⟩,rfl⟩)
  |false=>
   cases hk2:(x.kind==33)with
   |true=>
    unfold B7;rw[b,hk2,fB (by simp),fF rfl];cases d:DI s (Br σ x.A)with
    |false=>rfl
    |true=>exact absurd ((C5 _ _).1 d) (e _ (fC.2 ⟨x,fT.2 ⟨a,hk2⟩,rfl⟩))
   |false=>
    rw[U3 b hk2 (t:=[])];exact k x a b hk2
structure Q5(cs:kJ AY):Prop where
 args:∀c∈cs,∀x∈Ak c,(x.kind==97)=hG->∀t∈x.A.args,By t
 safe:∀c∈cs,∀x∈Ak c,(x.kind==97)=K->((x.kind==33)=hG->∀t∈x.A.args,Gx (Ak c) t)/\((x.kind==33)=K->Gx (Ak c) x.L/\Gx (Ak c) x.R)
 head:∀c∈cs,∀t∈c.head.args,Gx (Ak c) t
structure Dl(cs:kJ AY)(zR:zA->Nat):Prop where
 pos:∀c∈cs,∀x∈Ak c,(x.kind==97)=hG->zR x.A.name<=zR c.head.name
 neg:∀c∈cs,∀x∈Ak c,(x.kind==33)=hG->zR x.A.name<zR c.head.name
def Dl.zU{k:kJ AY}{j:zA->Nat}(h:Dl k j):KH (Fj k) (λf=>j f.name):=by
 refine⟨?_,?_⟩
 .rintro i ⟨c,e,σ,_,rfl⟩ g d;obtain⟨x,a,rfl⟩:=fC.1 d;obtain⟨a,b⟩:=fT.1 a;exact h.pos c e x a b
 .rintro i ⟨c,e,σ,_,rfl⟩ g d;obtain⟨x,a,rfl⟩:=fC.1 d;obtain⟨a,b⟩:=fT.1 a;exact h.neg c e x a b
def ay{b:kJ AY}{a:zA->Nat}(l:Dl b a)(w:Q5 b){d s:kJ Ag}(u:Dw (Fj b) (λf=>a f.name) n (·∈s))(x:∀f∈d,f∈s)(t:∀f∈s,f∈d\/a f.name=n)(q:∀f∈d,Kh f)
  {c:AY} (p:c∈b) (o:a c.head.name=n)  (y:e∈Cp (Ak c) d):Dw (Fj b) (λf=>a f.name) n (λf=>f∈s\/f=Av e c.head):=by
 have r:=SH q (w.args c p) y;have j:Jn (DL c (OO e)) (·∈d) (·∈d)/\Ti c (OO e):=(GZ c (OO e) d).1 r;have m:Fj b (DL c (OO e)):=⟨c,p,OO e,j.2,rfl⟩;have k:(DL c (OO e)).head=Av e c.head:=rfl;have:=u.step (Fj b) (λf=>a f.name) l.zU m (by rw[k];exact o) ⟨λg i=>x g (j.1.1 g i),λg i v=>by
  rcases t g v with h|h
  .exact j.1.2 g i h
  .have A:a g.name<a (DL c (OO e)).head.name:=l.zU.neg _ m g i
   have z:a (DL c (OO e)).head.name=n:=by rw[k];exact o
   omega⟩
 rw[k]at this;exact this
def Y1{a:kJ AY}{b:zA->Nat}(g:Q5 a){s:kJ Ag}(j:Dw (Fj a) (λf=>b f.name) n (·∈s))(v:∀f∈s,Kh f)
  (k:∀c∈a,b c.head.name=n->∀e∈Cp (Ak c) s,Av e c.head∈s):Dw (Fj a) (λf=>b f.name) (n+1) (·∈s):=by
 refine j.next (Fj a) (λf=>b f.name) ?_;rintro i ⟨c,d,σ,p,rfl⟩ w u;have o:=(GZ c σ s).2 ⟨u,p⟩;obtain⟨e,l,m⟩:=T8 v (g.args c d) σ o (g.safe c d);have h:=k c d w e l;have r:Av e c.head=Br σ c.head:=by
  unfold Av Br;rw[gN (λt q=>m t (g.head c d t q))]
 rw[r]at h;exact h
def aU{a:kJ AY}{b d:zA->Nat}(p:Dl a b)(o:Dl a d){M N:Ag->Prop}(k:Dw (Fj a) (λf=>b f.name) n M)(r:Dw (Fj a) (λf=>d f.name) m N)(l:∀c∈a,b c.head.name<n)(q:∀c∈a,d c.head.name<m):∀f,M f↔N f:=by
 have j:=k.done (Fj a) (λf=>b f.name) (λi g=>by obtain⟨c,e,σ,_,rfl⟩:=g;exact l c e);have h:=r.done (Fj a) (λf=>d f.name) (λi g=>by obtain⟨c,e,σ,_,rfl⟩:=g;exact q c e);exact Yx (Fj a) _ _ p.zU o.zU j.1 j.2 h.1 h.2
def Iu{f:kJ AY}(h:Cd w z f)(k:Nat)(d:k<Z f):
  ∃g s a j i e l b m,z=U (V ⟨g,0,Y⟩) (Z f) s/\f[k]=⟨a,U j (Z a.args) i,U e (Z b) l,b,m⟩/\V2 w ⟨a,U j (Z a.args) i,U e (Z b) l,b,m⟩/\
   ku w ⟨g,k*5,Y⟩=V (O a.name)/\ku w ⟨g,k*5+1,Y⟩=V (U j (Z a.args) i)/\ku w ⟨g,k*5+2,Y⟩=V (X J a.at_)/\ku w ⟨g,k*5+3,Y⟩=V (U e (Z b) l):=by
 obtain⟨g,s,y,_,n⟩:=AC h.row (λc _=>Bw c) k d;have o:=h.each _ (fj d);have t:=n k d 0 (by omega);have r:=n k d 1 (by omega);have p:=n k d 2 (by omega);have q:=n k d 3 (by omega);obtain⟨⟨a,A,B,b,m⟩,x⟩:∃c,f[k]=c:=⟨_,rfl⟩;rw[x]at t r p q o;obtain⟨j,i,v⟩:=Aj o.args;obtain⟨e,l,u⟩:=Aj o.body;simp only at v u;subst v u;simp[BG]at t r p q;exact⟨g,s,a,j,i,e,l,b,m,y,x,o,t,r,p,q⟩
theorem Tryz.info3:(Tryz.prog.info? 3).map (λi=>(i.zero,i.size,i.bytes))=V (V (X J 0),1,8):=by kernel_rfl
def BU(n:Nat):kJ ks:=[X J n]
theorem VN(f:zA->Nat)(A:Nat)(R:Option Addr)(N:Nat)(cs:kJ AY)(w:kq)(L:AF w A [U R (Z cs) N] 84)(M:Cd w (U R (Z cs) N) cs)(Go:Z cs<=1000)
  (G:∀(x:zA) (z:kq),Ac [] w z->Calls prog 93 #[j2 (V ⟨A,0,Y⟩),O x,X J 6] z λe n=>e=j3 (X J (f x))/\Ac [] z n):
  Calls prog 58 #[j2 (V ⟨A,0,Y⟩)] w λe n=>∃b d,e=j3 (U b (Z cs) d)/\kw n w.heap.size 3 1 (U b (Z cs) d) (Z cs) ((cs.map λc=>f c.head.name).flatMap BU)/\Ac [] w n:=by
 obtain⟨i0,FB,AR,CL,EM⟩:=gH Tryz.info3;have HP:=Ab L;have S:=Ab M;have CW:=Ab G;clear L M G;go_enter func58,ntmps58;go_wp2
 go_loopg [3,4] (Z cs) (λgk o i wr=>∃(k:Nat) (a:kJ Nat) (b:Option Addr) (d:Nat),o=U b (Z a) d/\i=X J k/\k<=Z cs/\gk=Z cs-k/\Z a<=1000/\kt (a=(cs.take k).map λc=>f c.head.name)/\kw wr w.heap.size 3 1 (U b (Z a) d) (Z a) (a.flatMap BU)/\kt (Ac [] w wr))
 case atStart=>exact⟨0,[],Y,0,rfl,rfl,by omega,rfl,by simp,by show _=_;simp,fK _ _ _ _,kL _ _⟩
 case round=>
  obtain⟨k,a,b,d,rfl,rfl,hk,F,HI,y,s,j⟩:=hrel;have HG:=Ab F;clear F;have H:=(HP.kept j).cell 0;simp at H;have HH:=j.size;by_cases C:k<Z cs
  .obtain⟨g,FT,m,HB,FW,FL,HJ,bl,a5,I,P,EY,d0,d1,T,W⟩:=Iu (S.kept j) k C;simp only[fg]at I;obtain⟨rfl,_,rfl⟩:=I;have u:=Ab (CW m.name wr j);have B:kt (a++[f m.name]=(cs.take (k+1)).map λc=>f c.head.name):=by
    show _=_;rw[fm C,gn,Aa y,P];rfl
   (have E:Z (a++[f m.name])<=1000:=by rw[Aa B];simp;omega);generalize f m.name=v at u B E;clear EY P d1 T W y;(go_wp2_with fail);refine u.mono ?_;rintro e p ⟨rfl,r⟩;have FA:=Ab (j.trans r);have D:=Ad s r;have FF:=r.size;(have HF:kt (∀l,(p.alloc (jj #[X J v] 3)).grownBy l (U b (Z a) d).ownBlock->Ac [] w l):=λl hg=>(FA.alloc _).grown hg (λq hq=>kp ((D.lt q hq).1)));clear u r H d0 s;go_wp2_with (at_builtin;refine fO _ rfl (.tmp 14) (.tmp 26) _ rfl w.heap.size 3 i0 _ 1 8 underlying136 FB AR CL EM rfl (by omega) (U b (Z a) d) (Z a) (a.flatMap BU) rfl (fw D _) ⟨p.heap.size,0,Y⟩ 1 1 [X J v] rfl rfl (fM (fX p _)) (by simp[Value.oneCell']) (by omega) (by unfold maxLen;omega) (by omega) (by simp;omega) (p.heap.size+1) (by simp) ?_;intro g9 AH l Ax E0 HD HC)
   go_roundg (Z cs-(k+1))
   case measure=>have:=Aa HG;omega
   case rel=>exact⟨k+1,a++[v],V ⟨g9,0,Y⟩,AH,by simp,by go_num,by omega,rfl,E,B,by simpa[BU] using Ax,HF l E0⟩
  .have Q:kt (a=cs.map λc=>f c.head.name):=by
    have h:=Aa y;rw[fo (by omega)]at h;exact h
   (have B9:kt (Z cs=Z a):=by show _=_;rw[Aa Q];simp);go_wp2;go_ret;rw[Aa B9,<-Aa Q];exact⟨b,d,rfl,s,j⟩
def MJ(f:zA->Nat)(p:Bs):Nat:=if p.1.kind==97 then f p.1.A.name else if p.1.kind==33 then f p.1.A.name+1 else 0
def If(f:zA->Nat)(n:Nat)(bl:kJ Bs):Nat:=bl.foldl (λn p=>max n (MJ f p)) n
def Ht(f:zA->Nat)(x:zA)(n:Nat)(c:AY):Nat:=if c.head.name.toList==x.toList then If f n c.bl else n
def BJ(cs:kJ AY):Nat->zA->Nat
 |0,_=>0
 |d+1,x=>cs.foldl (Ht (BJ cs d) x) 0
def W8{f:zA->Nat}{b:Nat}(c:∀y,f y+1<=b):∀(a:kJ Bs) (n:Nat),n<=b->If f n a<=b
 |[],n,h=>h
 |p::a,n,h=>by
  unfold If;rw[fZ];refine W8 c a _ ?_;have:MJ f p<=b:=by
   unfold MJ;have:=c p.1.A.name;split
   .omega
   .split
    .omega
    .omega
  omega
def PJ(a:kJ AY):∀(d:Nat) (x:zA),BJ a d x<=d
 |0,_=>fJ _
 |d+1,x=>by
  rw[BJ];have b:∀(l:kJ AY) (n:Nat),n<=d+1->l.foldl (Ht (BJ a d) x) n<=d+1:=by
   intro l
   induction l with
   |nil=>intro n h;exact h
   |cons c l ih=>
    intro n h;rw[fZ];refine ih _ ?_;unfold Ht;split
    .exact W8 (λy=>by have:=PJ a d y;omega) c.bl n h
    .exact h
  exact b a 0 (by omega)
def X0(f:zA->Nat)(n:Nat){a:kJ Bs}(b:k<Z a):If f n (a.take (k+1))=max (If f n (a.take k)) (MJ f a[k]):=by
 unfold If;rw[fm b,gM];rfl
def Y9(f:zA->Nat)(x:zA)(a:k<Z c):(c.take (k+1)).foldl (Ht f x) 0=Ht f x ((c.take k).foldl (Ht f x) 0) c[k]:=by
 rw[fm a,gM];rfl
def Wp{d:kJ Bs}(h:kw w 0 173 9 z (Z d) (d.flatMap A8))(D:∀p∈d,Cu w 0 p)(k:Nat)(a:k<Z d):
  ∃g m x e f,z=U (V ⟨g,0,Y⟩) (Z d) m/\d[k]=(x,U e (Z x.A.args) f)/\Cu w 0 (x,U e (Z x.A.args) f)/\
   ku w ⟨g,k*9,Y⟩=V (X .u8 x.kind.toNat)/\ku w ⟨g,k*9+1,Y⟩=V (O x.A.name)/\ku w ⟨g,k*9+2,Y⟩=V (U e (Z x.A.args) f)/\ku w ⟨g,k*9+3,Y⟩=V (X J x.A.at_)/\
   ku w ⟨g,k*9+4,Y⟩=V (X .u8 x.L.v.toNat)/\ku w ⟨g,k*9+5,Y⟩=V (O x.L.s)/\ku w ⟨g,k*9+6,Y⟩=V (X .u8 x.R.v.toNat)/\ku w ⟨g,k*9+7,Y⟩=V (O x.R.s)/\ku w ⟨g,k*9+8,Y⟩=V (X J x.at_):=by
 obtain⟨g,m,E,_,b⟩:=AC h (λc _=>BS c) k a;have r:=D _ (fj a);have q:=b k a 0 (by omega);have l:=b k a 1 (by omega);have i:=b k a 2 (by omega);have j:=b k a 3 (by omega);have y:=b k a 4 (by omega);have t:=b k a 5 (by omega);have o:=b k a 6 (by omega);have n:=b k a 7 (by omega);have u:=b k a 8 (by omega);obtain⟨⟨x,F⟩,C⟩:∃c,d[k]=c:=⟨_,rfl⟩;rw[C]at q l i j y t o n u r;obtain⟨e,f,B⟩:=Aj r;simp only at B;subst B;simp[A8,Co]at q l i j y t o n u;exact⟨g,m,x,e,f,E,C,r,q,l,i,j,y,t,o,n,u⟩
theorem VX(g:Nat)(f:Option Addr)(d:Nat)(a:kJ AY)(o:Z a<=1000)(x:zA)(w:kq)(c:AF w g [U f (Z a) d] 84)(j:Cd w (U f (Z a) d) a):
  Calls prog 93 #[j2 (V ⟨g,0,Y⟩),O x,X J 0] w λe h=>e=j3 (X J (BJ a 0 x))/\Ac [] w h:=by
 have k:=c.cell 0;simp at k;have b:kt (BJ a 0 x=0):=rfl;generalize BJ a 0 x=R at b⊢;clear c j;go_enter func93,ntmps93;go_wp2
 go_loopg [7,8] 1 (λgk n i wr=>n=X J 0/\i=X J 0/\wr=w)
 case atStart=>exact⟨rfl,rfl,rfl⟩
 case round=>
  obtain⟨rfl,rfl,rfl⟩:=hrel;by_cases m:0<Z a
  ·(have l:(0:Int)<(Z a:Int):=by omega);go_wp2;go_ret;rw[Aa b];exact⟨rfl,kL _ _⟩
  ·(have l:¬(0:Int)<(Z a:Int):=by omega);go_wp2;go_ret;rw[Aa b];exact⟨rfl,kL _ _⟩
theorem WA(M:Nat)(HV:Option Addr)(W:Nat)(a:kJ AY)(KK:Z a<=1000)(Go:∀c∈a,Z c.bl<=1000)(d:Nat)(x:zA)(w:kq)(hP:AF w M [U HV (Z a) W] 84)(hR:Cd w (U HV (Z a) W) a)(hd:d+1<=100)
  (CC:kt (∀(y:zA) (p:kq),Ac [] w p->Calls prog 93 #[j2 (V ⟨M,0,Y⟩),O y,X J d] p λe w'=>e=j3 (X J (BJ a d y))/\Ac [] p w')):
  Calls prog 93 #[j2 (V ⟨M,0,Y⟩),O x,X J ((d:Int)+1)] w λe w'=>e=j3 (X J (BJ a (d+1) x))/\Ac [] w w':=by
 have FA:kt (∀y,BJ a d y<=d):=λy=>PJ a d y
 have HP:=Ab hP;have Bx:=Ab hR;have H9:=Ab Go;obtain⟨R,B⟩:=kK (BJ a (d+1) x);rw[B];rw[BJ]at B;generalize BJ a d=f at CC FA B;have H7:=Ab B;clear hP hR Go B;have K5:(0:Int)<(d:Int)+1:=by omega
 go_enter func93,ntmps93;go_wp2
 go_loopg [7,8] (Z a) (λgk o i wr=>∃(k n:Nat),o=X J n/\i=X J k/\k<=Z a/\gk=Z a-k/\kt ((a.take k).foldl (Ht f x) 0=n)/\kt (Ac [] w wr))
 case atStart=>exact⟨0,0,rfl,rfl,by omega,rfl,by show _=_;simp,kL _ _⟩
 case round=>
  obtain⟨k,n,rfl,rfl,hk,HL,I,D⟩:=hrel;have HG:=Ab HL;clear HL;have p0:=(HP.kept D).cell 0;simp at p0;by_cases q:k<Z a
  .obtain⟨g,K7,L,IS,HY,Ha,FO,b,a5,he,P,IJ,d0,d1,d2,d3⟩:=Iu (Bx.kept D) k q;simp only[fg]at he;obtain⟨rfl,_,rfl⟩:=he;have u:=Ab (Y9 f x q);have FP:=Aa H9 _ (fj q);rw[P]at u FP;rw[Aa I]at u;simp only[Ht]at u FP;cases hnm:(L.name.toList==x.toList)with
   |false=>
    have HT:kt ((a.take (k+1)).foldl (Ht f x) 0=n):=by
     have h:=Aa u;rw[hnm]at h;exact h
    clear u I;go_wp2
    go_loopg [7,9] 1 (λgj o i S=>o=X J n/\i=X J 0/\wr=S)
    case atStart=>exact⟨rfl,rfl,rfl⟩
    case round=>
     obtain⟨rfl,rfl,rfl⟩:=hrel;go_wp2
     go_roundg (Z a-(k+1))
     case measure=>have:=Aa HG;omega
     case rel=>exact⟨k+1,n,rfl,by go_num,by omega,rfl,HT,D⟩
   |true=>
    have HT:kt ((a.take (k+1)).foldl (Ht f x) 0=If f n b):=by
     have h:=Aa u;rw[hnm]at h;exact h
    clear u I;have Ix:kt (∀p,Ac [] w p->ku p ⟨g,k*5,Y⟩=V (O L.name)/\ku p ⟨g,k*5+3,Y⟩=V (U Ha (Z b) FO)/\ku p ⟨M,0,Y⟩=V (U (V ⟨g,0,Y⟩) (Z a) W)/\V2 p ⟨L,U IS (Z L.args) HY,U Ha (Z b) FO,b,a5⟩):=by
     intro p HN;have B9:=Bx.kept HN;obtain⟨g',KS,CL,_,FB⟩:=AC B9.row (λc _=>Bw c) k q;simp only[fg,fu,gi]at CL;obtain⟨⟨rfl,_,_⟩,_,_⟩:=CL;have v:=FB k q 0 (by omega);have z:=FB k q 3 (by omega);have z4:=B9.each _ (fj q);rw[P]at v z z4;simp[BG]at v z;have pz:=(HP.kept HN).cell 0;exact⟨v,z,by simpa using pz,z4⟩
    go_wp2;clear IJ P d0 d1 d2 d3 p0
    go_loopg [7,9] (Z b) (λgj o i S=>∃(m j:Nat),o=X J j/\i=X J m/\m<=Z b/\gj=Z b-m/\kt (If f n (b.take m)=j)/\kt (Ac [] w S))
    case atStart=>exact⟨0,n,rfl,rfl,by omega,rfl,by show _=_;simp[If],D⟩
    case round=>
     obtain⟨m,j,rfl,rfl,hm,CW,N,AT⟩:=hrel;have G:=Ab CW;clear CW;obtain⟨v,z,zp,T⟩:=Ix _ AT;by_cases FC:m<Z b
     .obtain⟨gb,K3,y,HQ,FF,FT,EK,H8,e0,e1,e2,e3,e4,e5,e6,e7,e8⟩:=Wp T.body T.lits m FC;simp only[fg]at FT;obtain⟨rfl,_,rfl⟩:=FT;have AB:=Ab (X0 f n FC);rw[Aa N,EK]at AB;have H2:=Aa FA y.A.name;have t:=Ab (AT.alloc (jj (j1 (Co y (U HQ (Z y.A.args) FF))) 173));have Q:=Ab (kN wr (Co y (U HQ (Z y.A.args) FF)) 173);have r:=Ab (CC y.A.name _ t);clear EK H8 T N;simp only[Co]at t Q r;have s:kt (If f n (b.take (m+1))=max j (if y.kind==97 then f y.A.name else if y.kind==33 then f y.A.name+1 else 0)):=AB;clear AB;generalize f y.A.name=fy at r H2 s;have FL:((y.kind.toNat:Int)==97)=(y.kind==97):=Ck _ 97;have AR:((y.kind.toNat:Int)==33)=(y.kind==33):=Ck _ 33;cases hk97:(y.kind==97)with
      |true=>
       (have C:kt (If f n (b.take (m+1))=max j fy):=by have h:=Aa s;rw[hk97]at h;exact h);rw[hk97]at FL;clear s hk97 AR;(go_wp2_with fail);refine r.mono ?_;rintro e w5 ⟨rfl,E⟩;have F:=Ab (t.trans E);clear r t Q E v z zp e0 e1 e2 e3 e4 e5 e6 e7 e8;by_cases H4:j<fy
       ·(have H:(j:Int)<(fy:Int):=by omega);(have l:kt (If f n (b.take (m+1))=fy):=by show _=_;rw[Aa C];omega);go_wp2
        go_roundg (Z b-(m+1))
        case measure=>have:=Aa G;omega
        case rel=>exact⟨m+1,fy,rfl,by go_num,by omega,rfl,l,F⟩
       ·(have H:¬(j:Int)<(fy:Int):=by omega);(have l:kt (If f n (b.take (m+1))=j):=by show _=_;rw[Aa C];omega);go_wp2
        go_roundg (Z b-(m+1))
        case measure=>have:=Aa G;omega
        case rel=>exact⟨m+1,j,rfl,by go_num,by omega,rfl,l,F⟩
      |false=>
       rw[hk97]at FL;cases hk33:(y.kind==33)with
       |true=>
        (have C:kt (If f n (b.take (m+1))=max j (fy+1)):=by have h:=Aa s;rw[hk97,hk33]at h;exact h);rw[hk33]at AR;clear s hk97 hk33;(go_wp2_with fail);refine r.mono ?_;rintro e w5 ⟨rfl,E⟩;have F:=Ab (t.trans E);clear r t Q E v z zp e0 e1 e2 e3 e4 e5 e6 e7 e8;by_cases H4:j<fy+1
        ·(have H:(j:Int)<(fy:Int)+1:=by omega);(have l:kt (If f n (b.take (m+1))=fy+1):=by show _=_;rw[Aa C];omega);go_wp2
         go_roundg (Z b-(m+1))
         case measure=>have:=Aa G;omega
         case rel=>exact⟨m+1,fy+1,by go_num,by go_num,by omega,rfl,l,F⟩
        ·(have H:¬(j:Int)<(fy:Int)+1:=by omega);(have l:kt (If f n (b.take (m+1))=j):=by show _=_;rw[Aa C];omega);go_wp2
         go_roundg (Z b-(m+1))
         case measure=>have:=Aa G;omega
         case rel=>exact⟨m+1,j,rfl,by go_num,by omega,rfl,l,F⟩
       |false=>
        (have l:kt (If f n (b.take (m+1))=j):=by have h:=Aa s;rw[hk97,hk33]at h;show _=_;rw[h];simp);rw[hk33]at AR;clear s hk97 hk33 r;(have H:¬(j:Int)<0:=by omega);go_wp2
        go_roundg (Z b-(m+1))
        case measure=>have:=Aa G;omega
        case rel=>exact⟨m+1,j,rfl,by go_num,by omega,rfl,l,t⟩
     .have l:kt ((a.take (k+1)).foldl (Ht f x) 0=j):=by
       have h:=Aa N;rw[fo (by omega)]at h;show _=_;rw[Aa HT,h]
      clear N;go_wp2
      go_roundg (Z a-(k+1))
      case measure=>have:=Aa HG;omega
      case rel=>exact⟨k+1,j,rfl,by go_num,by omega,rfl,l,AT⟩
  .have HE:kt (n=R):=by
    have h:=Aa I;rw[fo (by omega),Aa H7]at h;exact h.symm
   go_wp2;go_ret;rw[<-Aa HE];exact⟨rfl,D⟩
def Sl(i:Nat)(h:Option Addr)(g:Nat)(a:kJ AY)(k:Z a<=1000)(m:∀c∈a,Z c.bl<=1000)(d:Nat):
  ∀(x:zA) (w:kq),AF w i [U h (Z a) g] 84->Cd w (U h (Z a) g) a->d<=100->
  Calls prog 93 #[j2 (V ⟨i,0,Y⟩),O x,X J d] w λe n=>e=j3 (X J (BJ a d x))/\Ac [] w n:=by
 induction d with
 |zero=>exact λx w b f _=>VX i h g a k x w b f
 |succ d ih=>exact λx w b f l=>WA i h g a k m d x w b f l (λy o j=>ih y o (b.kept j) (f.kept j) (by omega))
def dy(e:kJ zA)(v:Nat)(s:zA):zA:=if v=0 then s else e.getD (v-65) kB
theorem VU(b E:Nat)(e:kJ zA)(v:Nat)(s:zA)(w:kq)(F:Z e=26)(o:AF w b (Ai e) E)(p:v=0\/(65<=v/\v<=90)):
  Calls prog 164 #[j2 (V ⟨b,0,Y⟩),kx [Value.int .i32 v,O s].toArray] w λr f=>r=j3 (O (dy e v s))/\Ac [] w f:=by
 have x:=o.lt;have I:Z (Ai e)=26:=by unfold Ai;simp[F]
 have q:kt (∀i (h:i<26),(Ai e)[i]?=V (O (e.getD i kB))):=by
  intro i h;unfold Ai;rw[io,fG,fI (by omega)];rfl
 obtain⟨R,n⟩:=kK (dy e v s);rw[n];have m:kt ((if v=0 then s else e.getD (v-65) kB)=R):=n;have k:=Ab ((kL [] w).alloc (jj [.int .i32 v,O s].toArray 164));have g:=Ab (o.alloc (jj [.int .i32 v,O s].toArray 164));clear n;by_cases a:v=0
 .have c:kt (s=R):=by have h:=Aa m;rw[fF a]at h;exact h
  subst a;go_enter func164,ntmps164;go_wp2;go_ret;rw[<-Aa c];exact⟨rfl,k⟩
 .have c:kt (e.getD (v-65) kB=R):=by have h:=Aa m;rw[fB a]at h;exact h
  have C:65<=v/\v<=90:=by
   rcases p with h|h
   .exact absurd h a
   .exact h
  have z:((v:Int)==0)=K:=by rw[gm];omega
  obtain⟨j,t⟩:=kK (v-65);have A:v=j+65:=by omega
  rw[t]at c;have y:j<26:=by omega
  subst A;have B:(((j+65:Nat)):Int)=(j:Int)+65:=by omega
  rw[B]at k g z⊢;have l:=g.cell j;rw[Aa q j y]at l;generalize e.getD j kB=X at c l;have d:=kN w [.int .i32 ((j:Int)+65),O s] 164;clear m t C p a o q;have M:(0:Int)<=(j:Int):=by omega
  have H:(j:Int)<26:=by omega
  have D:IntKind.i32.wrap (j:Int)=j:=by rw[IntKind.wrap_i32];omega
  have G:IntKind.i32.wrap ((j:Int)+65-65)=j:=by rw[show(j:Int)+65-65=j by omega];exact D
  go_enter func164,ntmps164;go_wp2;change Code.wp _ _ _ _ (w.alloc (jj [.int .i32 ((j:Int)+65),O s].toArray 164));generalize w.alloc (jj [.int .i32 ((j:Int)+65),O s].toArray 164)=w1 at k g d l⊢;generalize w.heap.size=N at d x⊢;have u:=d.cell 0;simp at u;have L:=Ab d;clear d g
  go_region_held3 (λf=>ku f ⟨b,j,Y⟩=V (O X)/\ku f ⟨N,0,Y⟩=V (.int .i32 ((j:Int)+65))) (go_keep) (fail)
  go_wp2;all_goals
   go_ret;rw[<-Aa c];refine⟨rfl,?_⟩
   repeat (first|exact k|refine Ac.drew ?_|refine Ac.alloc ?_ _|refine Ac.drewN ?_ _)
def Mv{l:kJ AG}(h:kw w n 135 2 z (Z l) (l.flatMap AP))(k:Nat)(a:k<Z l):
  ∃g b,z=U (V ⟨g,0,Y⟩) (Z l) b/\ku w ⟨g,k*2,Y⟩=V (X .u8 l[k].v.toNat)/\ku w ⟨g,k*2+1,Y⟩=V (O l[k].s):=by
 obtain⟨g,b,i,_,f⟩:=AC h (λc _=>Ge c) k a;have d:=f k a 0 (by omega);have e:=f k a 1 (by omega);simp[AP]at d e;exact⟨g,b,i,d,e⟩
structure Ul(w:kq)(N:Nat)(E:kJ ks)(nm:zA)(av:ks)(j:Nat)(ts:kJ AG)(fv:ks):Prop where
 b0:AF w N E 141
 b1:AF w (N+1) [O nm,av,X J j] 87
 b2:AF w (N+1+1) [O ⟨#[]⟩,U Y 0 0] 63
 b3:AF w (N+1+1+1) [O nm,fv] 63
 row:kw w 0 135 2 av (Z ts) (ts.flatMap AP)
 low:∀q,av.ownBlock=V q->q<N
def Ul.kept{w w':kq}{N:Nat}{E:kJ ks}{d:zA}{c:ks}{j:Nat}{b:kJ AG}{a:ks}(h:Ul w N E d c j b a)(k:Ac [] w w'):Ul w' N E d c j b a:=
 ⟨h.b0.kept k,h.b1.kept k,h.b2.kept k,h.b3.kept k,Ad h.row k,h.low⟩
def Ul.grown{w d:kq}{N:Nat}{E:kJ ks}{c:zA}{b:ks}{j:Nat}{f:kJ AG}{g:ks}{r:Option Nat}(h:Ul w N E c b j f g)(k:w.grownBy d r)(a:∀q,r=V q->N+1+1+1+1<=q):Ul d N E c b j f g:=
 ⟨h.b0.grown k (λe=>by have:=a _ e;omega),h.b1.grown k (λe=>by have:=a _ e;omega),h.b2.grown k (λe=>by have:=a _ e;omega),h.b3.grown k (λe=>by have:=a _ e;omega),
  gY (v:=b) h.row k (by
   cases hv:b.ownBlock with
   |none=>exact kn rfl
   |some q=>exact kp (λe=>by have:=h.low q hv;have:=a q e.symm;omega)),h.low⟩
theorem Nv(e:kJ zA)(A:C8)(u:Option Addr)(c:Nat)(w:kq)(he:Z e=26)(hA:kw w 0 135 2 (U u (Z A.args) c) (Z A.args) (A.args.flatMap AP))(H1:Z A.args<=1000)(hg:∀t∈A.args,t.v=0\/(65<=t.v.toNat/\t.v.toNat<=90)):
  Calls prog 60 #[kx (j1 (Ai e)),kx (j1 (Cc A.name (U u (Z A.args) c) A.at_))] w λr w'=>∃x y,r=j3 (kx (j1 (Bp ⟨Av e A,U x (Z A.args) y⟩)))/\Ew w' ⟨Av e A,U x (Z A.args) y⟩/\(∀q,(U x (Z A.args) y).ownBlock=V q->w.heap.size<=q)/\Ac [] w w':=by
 obtain⟨i0,K1,H6,K2,IS⟩:=gH Tryz.zk;obtain⟨b,a,j⟩:=A;simp only at hA H1 hg⊢;have HV:kt (∀t wr,t∈a->Calls prog 96 #[kx (j1 (Ai e)),kx (j1 (AP t))] wr λr w'=>r=j3 (O (AJ e t))/\Ac [] wr w'):=λt wr ht=>Kk e t wr he (hg t ht)
 have HF:kt (∀x y wr,kw wr 0 9 1 (U x (Z a) y) (Z a) ((a.map (AJ e)).flatMap Ah)->Ew wr ⟨Av e ⟨b,a,j⟩,U x (Z a) y⟩):=by
  intro x y wr h;show kw wr 0 9 1 _ (Z (a.map (AJ e))) _;rw[fH];exact h
 have FL:kt (∀x y,Bp ⟨Av e ⟨b,a,j⟩,U x (Z a) y⟩=[O b,U x (Z a) y]):=λx y=>rfl
 generalize Av e ⟨b,a,j⟩=FP at HF FL⊢;have hc:=Bh e;have hl:Z (Ai e)=26:=by unfold Ai;simp[he]
 generalize Ai e=E at hc hl HV⊢;have z:=Ab (((kL [] w).alloc (jj (j1 E) 141)).alloc (jj (j1 (Cc b (U u (Z a) c) j)) 87));have HB:=Ab ((kN w E 141).alloc (jj (j1 (Cc b (U u (Z a) c) j)) 87));have HA:=Ab hA;simp only[Cc]at z HB⊢;clear hA hg;go_enter func60,ntmps60;go_wp2_with fail
 obtain⟨N,W⟩:=kK w.heap.size;have Go:Ul ((((w.alloc (jj (j1 E) 141)).alloc (jj #[O b,U u (Z a) c,X J ↑j] 87)).alloc (jj #[O {data:=#[]},U Y 0 0] 63)).alloc (jj #[O b,U Y 0 0] 63)) N E b (U u (Z a) c) j a (U Y 0 0):=by
  have b1:=kN (w.alloc (jj (j1 E) 141)) [O b,U u (Z a) c,X J j] 87;have b2:=kN ((w.alloc (jj (j1 E) 141)).alloc (jj #[O b,U u (Z a) c,X J ↑j] 87)) [O ⟨#[]⟩,U Y 0 0] 63;have b3:=kN (((w.alloc (jj (j1 E) 141)).alloc (jj #[O b,U u (Z a) c,X J ↑j] 87)).alloc (jj #[O {data:=#[]},U Y 0 0] 63)) [O b,U Y 0 0] 63;simp only[fY,W]at b1 b2 b3;have b0:=Aa HB;rw[W]at b0;exact⟨(b0.alloc _).alloc _,(b1.alloc _).alloc _,b2.alloc _,b3,Ad HA (z.alloc _|>.alloc _),λq D=>by have:=(HA.lt q D).2;omega⟩
 have BT:=Ab Go;have EM:=Ab ((z.alloc (jj #[O {data:=#[]},U Y 0 0] 63)).alloc (jj #[O b,U Y 0 0] 63));rw[W];have S:=Ab W;clear Go z HB HA W;change Code.wp _ _ _ _ ((((w.alloc (jj (j1 E) 141)).alloc (jj #[O b,U u (Z a) c,X J ↑j] 87)).alloc (jj #[O {data:=#[]},U Y 0 0] 63)).alloc (jj #[O b,U Y 0 0] 63));generalize((((w.alloc (jj (j1 E) 141)).alloc (jj #[O b,U u (Z a) c,X J ↑j] 87)).alloc (jj #[O {data:=#[]},U Y 0 0] 63)).alloc (jj #[O b,U Y 0 0] 63))=w1 at BT EM⊢
 go_loopg [6] (Z a) (λgk i wr=>∃(k:Nat) (f:Option Addr) (d:Nat),i=X J k/\k<=Z a/\gk=Z a-k/\kt (Ul wr N E b (U u (Z a) c) j a (U f k d))/\kt (kw wr (N+1+1+1+1) 9 1 (U f k d) k (((a.take k).map (AJ e)).flatMap Ah))/\kt (Ac [] w wr))
 case atStart=>exact⟨0,Y,0,rfl,by omega,rfl,BT,fK _ _ _ _,EM⟩
 case round=>
  clear BT EM;obtain⟨k,f,d,rfl,hk,HW,o,Q,z⟩:=hrel;have HG:=Ab HW;clear HW;have HT:=o.b1.cell 1;simp at HT;by_cases AB:k<Z a
  .obtain⟨g,F,HQ,d0,d1⟩:=Mv o.row k AB;simp only[fg]at HQ;obtain⟨rfl,_,rfl⟩:=HQ;obtain⟨T,P⟩:=kK (a[k]);(have H2:kt (T∈a):=by show _∈_;rw[<-P];exact fj AB);have H5:kt (a[k]=T):=P;rw[P]at d0 d1;(have LC:(0:Int)<=(k:Int):=by omega);(have K7:(k:Int)<(Z a:Int):=by omega);have L:kt (∀l,Ul l N E b (U (V ⟨g,0,Y⟩) (Z a) c) j a (U f k d)->l.rangeAt N 0 E/\ku l ⟨N+1+1+1,1,Y⟩=V (U f k d)/\ku l ⟨N+1,1,Y⟩=V (U (V ⟨g,0,Y⟩) (Z a) c)/\ku l ⟨g,k*2,Y⟩=V (X .u8 T.v.toNat)/\ku l ⟨g,k*2+1,Y⟩=V (O T.s)):=by
    intro l H;obtain⟨g',K9,FO,f0,f1⟩:=Mv H.row k AB;simp only[fg,fu,gi]at FO;obtain⟨⟨rfl,_,_⟩,_,_⟩:=FO;rw[P]at f0 f1;have x3:=H.b3.cell 1;have x1:=H.b1.cell 1;simp at x1 x3;exact⟨H.b0.range,x3,x1,f0,f1⟩
   clear P;have B:=Ab (L wr.drew (o.kept (kL [] wr).drew));(go_wp2_with fail);refine Cn 12 (λl=>l.rangeAt N 0 E/\ku l ⟨N+1+1+1,1,Y⟩=V (U f k d)/\ku l ⟨N+1,1,Y⟩=V (U (V ⟨g,0,Y⟩) (Z a) c)/\ku l ⟨g,k*2,Y⟩=V (X .u8 T.v.toNat)/\ku l ⟨g,k*2+1,Y⟩=V (O T.s)) (by kernel_rfl) ?_;refine Ci.tq (i:=0) (v:=j2 (V ⟨N+1+1+1,1,Y⟩)) rfl (λ_ _ _ h=>h) B ?_;simp only[kG,ff,fh,fi];refine Ci.tq (i:=1) (v:=U f k d) rfl (λ_ _ _ h=>h) B ?_;simp only[kG,ff,fh,fi];refine Ci.take (i:=2) (v:=kx (j1 E)) rfl (by kernel_rfl) (by kernel_rfl) (by kernel_rfl) (by kernel_rfl) (λ_ _ _ h=>h) B (yieldsIf_load_mid (by rfl) 141 _ rfl N 0 (by rfl) E _ (λl H=>H.1) underlying141 rfl (by rw[hl];exact Tryz.size141)) ?_;simp only[kG,ff,fh,fi];refine Ci.tq (i:=3) (v:=j2 (V ⟨N+1,1,Y⟩)) rfl (λ_ _ _ h=>h) B ?_;simp only[kG,ff,fh,fi];refine Ci.tq (i:=4) (v:=U (V ⟨g,0,Y⟩) (Z a) c) rfl (λ_ _ _ h=>h) B ?_;simp only[kG,ff,fh,fi];refine Ci.tq (i:=5) (v:=X J k) rfl (λ_ _ _ h=>h) B ?_;simp only[kG,ff,fh,fi];refine Ci.tq (i:=6) (v:=j2 (V ⟨g,k*2,Y⟩)) rfl (λ_ _ _ h=>h) B ?_;simp only[kG,ff,fh,fi];refine Ci.tk (i:=7) (v:=kx (j1 (AP T))) rfl (by kernel_rfl) (λ_ _ _ h=>h) B (by rfl) ?_ ?_
   ·(intro l K8;simp only[AP];go_simp)
   simp only[kG,ff,fh,fi];refine Ci.one (i:=8) (by kernel_rfl) rfl (λC m=>?_)
   go_simp
   obtain⟨M,hV⟩:=kK (AJ e T);have CC:=Ab (HV T wr.drew H2);rw[hV]at CC;have KS:=Ab hV;clear hV;refine CC.mono ?_;rintro _ I ⟨rfl,R⟩;have Ax:=o.kept ((kL [] wr).drew.trans R);refine m.out _ _ (λ_=>L I Ax) ?_;clear m C CC
   try simp only[kG,ff,fh,fi]
   refine Ci.one (i:=9) (by kernel_rfl) rfl (λC m=>?_)
   go_simp
   have EX:=Ax.kept ((kL [] I).alloc (jj #[O M] 9));refine m.out _ _ (λ_=>L _ EX) ?_;clear m C
   try simp only[kG,ff,fh,fi]
   have AR:=Ad Q ((kL [] wr).drew.trans R);have K4:=R.size;(have K6:N+1+1+1+1<=I.heap.size:=by have:=Ax.b3.lt;omega);refine Ci.one (i:=10) (by kernel_rfl) rfl (λC m=>?_);refine iU _ (by rfl) _ _ _ (by rfl) (N+1+1+1+1) 9 i0 _ 1 16 underlying61 K1 H6 K2 IS rfl (by omega) (U f k d) k (((a.take k).map (AJ e)).flatMap Ah) (by rfl) (fw AR _)
         ⟨I.heap.size,0,Y⟩ 1 1 [O M] (by rfl) (by rfl) (fM (fX I _)) (by simp[Value.oneCell'])
         (by omega) (by unfold maxLen;omega) (by omega) (by simp;omega) (I.heap.size+1) (by simp) ?_
   intro G F w5 EK CW Jx JJ;have n:=EX.grown CW (λq D=>(AR.lt q D).1);refine m.out _ _ (λ_=>L _ n) ?_;clear m C
   try simp only[kG,ff,fh,fi]
   refine Ci.one (i:=11) (by kernel_rfl) rfl (λC m=>?_)
   go_simp
   refine m.out _ _ (λ_=>L _ n) ?_;clear m C
   try simp only[kG,ff,fh,fi]
   have y1:=n.b3.cell 1;have yf:=n.b3.frozen 1;simp at y1;refine Ci.one (i:=12) (by kernel_rfl) rfl (λC m=>?_)
   go_simp
   refine m.out _ _ (λh=>absurd rfl h) ?_;clear m C;refine Ci.done (by kernel_rfl) ?_ _
   try simp only[kG,ff,fh,fi]
   have HM:kt (Ul (w5.setCell ⟨N+1+1+1,1,Y⟩ (U (V ⟨G,0,Y⟩) (k+1) F)) N E b (U (V ⟨g,0,Y⟩) (Z a) c) j a (U (V ⟨G,0,Y⟩) (k+1) F)):=
    ⟨n.b0.zB _ (show N+1+1+1≠N by omega) _,n.b1.zB _ (show N+1+1+1≠N+1 by omega) _,n.b2.zB _ (show N+1+1+1≠N+1+1 by omega) _,n.b3.set 1 _,Af n.row (λh=>by have:=n.low _ h;simp at this;omega) _,n.low⟩
   have HJ:kt (kw (w5.setCell ⟨N+1+1+1,1,Y⟩ (U (V ⟨G,0,Y⟩) (k+1) F)) (N+1+1+1+1) 9 1 (U (V ⟨G,0,Y⟩) (k+1) F) (k+1) (((a.take (k+1)).map (AJ e)).flatMap Ah)):=by
    have h:=Af EK (p:=⟨N+1+1+1,1,Y⟩) (λh=>by have:=(EK.lt _ h).1;simp at this;omega) (U (V ⟨G,0,Y⟩) (k+1) F);rw[fm AB,gn,fR,Aa H5];simp only[fS,iV,fN,gI,gd,Aa KS,Ah];exact h
   have HU:=Ab (((z.drew.trans R).alloc (jj #[O M] 9)).grown CW (λq D=>kp (by have:=(AR.lt q D).1;have:=Aa S;omega))|>.setCell (p:=⟨N+1+1+1,1,Y⟩) (kp (by have:=Aa S;simp;omega)) (U (V ⟨G,0,Y⟩) (k+1) F));clear EK CW Jx JJ n EX Ax AR R B L o Q z y1 yf d0 d1 HT;generalize w5.setCell ⟨N+1+1+1,1,Y⟩ (U (V ⟨G,0,Y⟩) (k+1) F)=w6 at HM HJ HU⊢;go_wp2
   go_roundg (Z a-(k+1))
   case measure=>have:=Aa HG;omega
   case rel=>exact⟨k+1,V ⟨G,0,Y⟩,F,by go_num,by omega,rfl,HM,HJ,HU⟩
  ·(have H8:k=Z a:=by omega);have x0:=o.b3.cell 0;have x1:=o.b3.cell 1;have y0:=o.b2.cell 0;have y1:=o.b2.cell 1;have yf:=o.b2.frozen;simp at x0 x1 y0 y1;have Ix:kt (AF ((wr.setCell ⟨N+1+1,0,Y⟩ (O b)).setCell ⟨N+1+1,1,Y⟩ (U f k d)) (N+1+1) [O b,U f k d] 63):=(o.b2.set 0 _).set 1 _;have HZ:kt (kw ((wr.setCell ⟨N+1+1,0,Y⟩ (O b)).setCell ⟨N+1+1,1,Y⟩ (U f k d)) 0 9 1 (U f k d) k ((a.map (AJ e)).flatMap Ah)):=by
    have h:=Aa Q;rw[fo (by omega)]at h;(have hb:∀q,(U f k d).ownBlock=V q->q≠N+1+1:=λq D=>by have:=(h.lt q D).1;omega);exact Al (Af (Af h (λh=>hb _ h rfl) _) (λh=>hb _ h rfl) _) (by omega)
   (have K3:kt (∀q,(U f k d).ownBlock=V q->w.heap.size<=q):=λq D=>by have:=(Q.lt q D).1;have:=Aa S;omega);have H7:=Ab ((z.setCell (p:=⟨N+1+1,0,Y⟩) (kp (by have:=Aa S;simp;omega)) (O b)).setCell (p:=⟨N+1+1,1,Y⟩) (kp (by have:=Aa S;simp;omega)) (U f k d));clear o Q z;go_wp2;subst H8;refine fL (BK rfl rfl Ix underlying63 rfl (by kernel_rfl)) rfl ⟨f,d,?_,HF f d _ HZ,K3,H7⟩;rw[Aa FL]
def Yd(e:kJ zA)(A:C8)(d:Option Addr)(f:Nat)(w:kq)(g:Z e=26)(h:kw w 0 135 2 (U d (Z A.args) f) (Z A.args) (A.args.flatMap AP))(j:Z A.args<=1000)(i:∀t∈A.args,t.v=0\/(65<=t.v.toNat/\t.v.toNat<=90)):
  Calls prog 60 #[kx (j1 (Ai e)),kx (j1 (Cc A.name (U d (Z A.args) f) A.at_))] w λr c=>∃b a,r=j3 (kx (j1 (Bp ⟨Av e A,U b (Z A.args) a⟩)))/\Ew c ⟨Av e A,U b (Z A.args) a⟩/\Ac [] w c:=
 (Nv e A d f w g h j i).mono λr c ⟨b,a,h1,h2,_,h4⟩=>⟨b,a,h1,h2,h4⟩
def B6(e:kJ zA):Z (Ai e)=Z e:=by unfold Ai;simp
def Vc(e:kJ zA)(j:Nat)(x:zA):Ai (e.set j x)=(Ai e).set j (O x):=by unfold Ai;rw[km]
def Fy(e:kJ zA):∀v∈Ai e,v.oneCell'=hG:=λv a=>by
 unfold Ai at a;obtain⟨x,_,rfl⟩:=fC.1 a;rfl
structure SU(w:kq)(N:Nat)(E:kJ ks)(nm:zA)(av:ks)(j:Nat)(ts:kJ AG)(fn:zA)(fv:ks)(xs:kJ zA):Prop where
 b0:AF w N E 141
 b1:AF w (N+1) [O nm,av,X J j] 87
 b2:AF w (N+1+1) [O fn,fv] 63
 b3:AF w (N+1+1+1) (kD 26 (O ⟨#[]⟩)) 141
 row:kw w 0 135 2 av (Z ts) (ts.flatMap AP)
 rof:kw w 0 9 1 fv (Z xs) (xs.flatMap Ah)
 low:∀q,av.ownBlock=V q->q<N
 lof:∀q,fv.ownBlock=V q->q<N
def SU.kept{w w':kq}{N:Nat}{E:kJ ks}{a c:zA}{f e:ks}{j:Nat}{b:kJ AG}{d:kJ zA}(h:SU w N E a f j b c e d)(k:Ac [] w w'):SU w' N E a f j b c e d:=
 ⟨h.b0.kept k,h.b1.kept k,h.b2.kept k,h.b3.kept k,Ad h.row k,Ad h.rof k,h.low,h.lof⟩
def SU.set{w:kq}{N:Nat}{E:kJ ks}{a c:zA}{g f:ks}{j:Nat}{b:kJ AG}{d:kJ zA}(h:SU w N E a g j b c f d)(i:Nat)(u:ks):SU (w.setCell ⟨N,i,Y⟩ u) N (E.set i u) a g j b c f d:=
 ⟨h.b0.set i u,h.b1.zB _ (show N≠N+1 by omega) _,h.b2.zB _ (show N≠N+1+1 by omega) _,h.b3.zB _ (show N≠N+1+1+1 by omega) _,
  Af h.row (λe=>by have:=h.low _ e;simp at this) _,Af h.rof (λe=>by have:=h.lof _ e;simp at this) _,h.low,h.lof⟩
def GV(h:AF w b (kD 26 (O ⟨#[]⟩)) 141)(a:Z y=26):w.there b 0 y.toArray.size:=by
 have:=h.there;rw[iI]at this;rw[gS,a];exact this
theorem LF(e:kJ zA)(A:C8)(D:Option Addr)(x:Nat)(p:BD)(w:kq)(he:Z e=26)(hA:kw w 0 135 2 (U D (Z A.args) x) (Z A.args) (A.args.flatMap AP))(hP:Ew w p)(Nq:Z A.args<=1000)(M1:Z p.f.args<=1000000)(hg:∀t∈A.args,By t):
  Calls prog 94 #[kx (j1 (Ai e)),kx (j1 (Cc A.name (U D (Z A.args) x) A.at_)),kx (j1 (Bp p))] w λr w'=>r=j3 (.tuple #[kx (j1 (Ai (BX e A p.f).1)),k0 (BX e A p.f).2])/\Ac [] w w':=by
 obtain⟨d,a,j⟩:=A;obtain⟨⟨m,b⟩,pv⟩:=p;obtain⟨G,y,L0⟩:=Aj hP;simp only at L0;subst L0;simp only at hA Nq hg M1⊢;obtain⟨R,hR⟩:=kK (BX e ⟨d,a,j⟩ ⟨m,b⟩);have HR:kt ((if(d.toList==m.toList)&&(Z a==Z b)then CU e a b else(e,K))=R):=hR;rw[hR];have HV:kt (∀e' t wr,Z e'=26->t∈a->Calls prog 96 #[kx (j1 (Ai e')),kx (j1 (AP t))] wr λr w'=>r=j3 (O (AJ e' t))/\Ac [] wr w'):=λe' t wr AT ht=>Kk e' t wr AT (by rcases hg t ht with h|h;exact kn h.1;exact kp h)
 have PT:=Ab hg;have hc:=Bh e;have hl:Z (Ai e)=26:=by rw[B6,he]
 have n:=Ab hl;have HO:kt (∀v∈Ai e,v.oneCell'=hG):=Fy e;have c:kt (SU ((((w.alloc (jj (j1 (Ai e)) 141)).alloc (jj [O d,U D (Z a) x,X J j].toArray 87)).alloc (jj [O m,U G (Z b) y].toArray 63)).alloc (jj (j1 (kD 26 (O ⟨#[]⟩))) 141)) w.heap.size (Ai e) d (U D (Z a) x) j a m (U G (Z b) y) b):=by
  have b0:=kN w (Ai e) 141;have b1:=kN (w.alloc (jj (j1 (Ai e)) 141)) [O d,U D (Z a) x,X J j] 87;have b2:=kN ((w.alloc (jj (j1 (Ai e)) 141)).alloc (jj [O d,U D (Z a) x,X J j].toArray 87)) [O m,U G (Z b) y] 63;have b3:=kN (((w.alloc (jj (j1 (Ai e)) 141)).alloc (jj [O d,U D (Z a) x,X J j].toArray 87)).alloc (jj [O m,U G (Z b) y].toArray 63)) (kD 26 (O ⟨#[]⟩)) 141;simp only[fY]at b1 b2 b3;have hk:=((((kL [] w).alloc (jj (j1 (Ai e)) 141)).alloc (jj [O d,U D (Z a) x,X J j].toArray 87)).alloc (jj [O m,U G (Z b) y].toArray 63)).alloc (jj (j1 (kD 26 (O ⟨#[]⟩))) 141);exact⟨((b0.alloc _).alloc _).alloc _,(b1.alloc _).alloc _,b2.alloc _,b3,Ad hA hk,Ad hP hk,λq hq=>(hA.lt q hq).2,λq hq=>(World.ownsRow.lt hP q hq).2⟩
 have I:=Ab (((((kL [] w).alloc (jj (j1 (Ai e)) 141)).alloc (jj [O d,U D (Z a) x,X J j].toArray 87)).alloc (jj [O m,U G (Z b) y].toArray 63)).alloc (jj (j1 (kD 26 (O ⟨#[]⟩))) 141));simp only[Cc,Bp];clear hR hA hP hg;obtain⟨E,hE⟩:=kK (Ai e);rw[hE]at hc hl n HO c I⊢;have HY:=Ab hE;clear hE;obtain⟨C,hC⟩:=kK ((d.toList==m.toList)&&(Z a==Z b));rw[hC]at HR;cases C with
 |false=>
  have P:kt (Ai R.1=E/\R.2=K):=by rw[<-Aa HR,<-Aa HY];exact⟨rfl,rfl⟩
  have HC:kt (((d.toList==m.toList)&&(Z a==Z b))=K):=hC;clear hC HR;cases hn:(d.toList==m.toList)with
  |false=>
   (have Mo:(d.toList !=m.toList)=hG:=by simp[bne,hn]);clear HC;go_enter func94,ntmps94;apply wp_seq_k;intro KK AR;have AB:=Ab AR;clear AR;go_wp2;refine AB _ _ ?_;clear AB KK;change Code.wp _ _ _ _ ((((w.alloc (jj (j1 E) 141)).alloc (jj [O d,U D (Z a) x,X J j].toArray 87)).alloc (jj [O m,U G (Z b) y].toArray 63)).alloc (jj (j1 (kD 26 (O ⟨#[]⟩))) 141));generalize((((w.alloc (jj (j1 E) 141)).alloc (jj [O d,U D (Z a) x,X J j].toArray 87)).alloc (jj [O m,U G (Z b) y].toArray 63)).alloc (jj (j1 (kD 26 (O ⟨#[]⟩))) 141))=w1 at c I⊢;obtain⟨N,M⟩:=kK w.heap.size;rw[M]at c⊢;have HN:=Ab M;clear M;have c0:=c.b1.cell 0;have c2:=c.b2.cell 0;have W:=c.b1.cell 1;have c3:=c.b2.cell 1;simp at c0 c2 W c3;go_wp2_with (first|((with_reducible show wpList _ _ _ ({dst:=_,op:=Op.load 141 _,type:=_,pos:=_,after:=_,guard:=_}::_) _ _);refine iq rfl 141 _ rfl N 0 (by rfl) E _ c.b0.range underlying141 rfl (by rw[Aa n];exact Tryz.size141) ?_)|((with_reducible show wpList _ _ _ ({dst:=_,op:=Op.store 141 _ _,type:=_,pos:=_,after:=_,guard:=_}::_) _ _);refine iJ rfl 141 _ _ rfl (N+1+1+1) 0 (j1 E) (by rfl) (by rfl) (GV c.b3 n) (by rw[gS,Aa n];exact Tryz.size141) (gZ HO) ?_))
   refine fL (An rfl (by rfl) (c.b3.zO E (by rw[Aa n];rfl)) underlying141 rfl (by rw[Aa n];exact Tryz.size141)) rfl ⟨?_,I.zI (kp (by have:=Aa HN;omega)) _ _⟩;rw[(Aa P).1,(Aa P).2];rfl
  |true=>
   (have Mo:(d.toList !=m.toList)=K:=by simp[bne,hn]);have NL:¬Z a=Z b:=by
    have h:=Aa HC;rw[hn]at h;simpa using h
   (have Os:((Z a:Int) !=(Z b:Int))=hG:=by simp[bne];omega);(have NY:((Z a:Int)==(Z b:Int))=K:=by rw[gm];omega);clear HC NL;go_enter func94,ntmps94;apply wp_seq_k;intro KK AR;have AB:=Ab AR;clear AR;go_wp2;refine AB _ _ ?_;clear AB KK;change Code.wp _ _ _ _ ((((w.alloc (jj (j1 E) 141)).alloc (jj [O d,U D (Z a) x,X J j].toArray 87)).alloc (jj [O m,U G (Z b) y].toArray 63)).alloc (jj (j1 (kD 26 (O ⟨#[]⟩))) 141));generalize((((w.alloc (jj (j1 E) 141)).alloc (jj [O d,U D (Z a) x,X J j].toArray 87)).alloc (jj [O m,U G (Z b) y].toArray 63)).alloc (jj (j1 (kD 26 (O ⟨#[]⟩))) 141))=w1 at c I⊢;obtain⟨N,M⟩:=kK w.heap.size;rw[M]at c⊢;have HN:=Ab M;clear M;have c0:=c.b1.cell 0;have c2:=c.b2.cell 0;have W:=c.b1.cell 1;have c3:=c.b2.cell 1;simp at c0 c2 W c3;go_wp2_with (first|((with_reducible show wpList _ _ _ ({dst:=_,op:=Op.load 141 _,type:=_,pos:=_,after:=_,guard:=_}::_) _ _);refine iq rfl 141 _ rfl N 0 (by rfl) E _ c.b0.range underlying141 rfl (by rw[Aa n];exact Tryz.size141) ?_)|((with_reducible show wpList _ _ _ ({dst:=_,op:=Op.store 141 _ _,type:=_,pos:=_,after:=_,guard:=_}::_) _ _);refine iJ rfl 141 _ _ rfl (N+1+1+1) 0 (j1 E) (by rfl) (by rfl) (GV c.b3 n) (by rw[gS,Aa n];exact Tryz.size141) (gZ HO) ?_))
   refine fL (An rfl (by rfl) (c.b3.zO E (by rw[Aa n];rfl)) underlying141 rfl (by rw[Aa n];exact Tryz.size141)) rfl ⟨?_,I.zI (kp (by have:=Aa HN;omega)) _ _⟩;rw[(Aa P).1,(Aa P).2];rfl
 |true=>
  have CL:(d.toList==m.toList)=hG/\Z a=Z b:=by simpa using hC
  have hn:=CL.1;have Mo:(d.toList !=m.toList)=K:=by simp[bne,CL.1]
  have Os:((Z a:Int) !=(Z b:Int))=K:=by simp[CL.2]
  have NY:((Z a:Int)==(Z b:Int))=hG:=by simp[CL.2]
  have NV:=Ab CL.2;have H9:kt (CU e (a.drop 0) (b.drop 0)=R):=by have h:=Aa HR;rw[fF rfl]at h;exact h
  clear hC HR CL;go_enter func94,ntmps94;apply wp_seq_k;intro KK AR;have AB:=Ab AR;clear AR;go_wp2;refine AB _ _ ?_;clear AB KK;change Code.wp _ _ _ _ ((((w.alloc (jj (j1 E) 141)).alloc (jj [O d,U D (Z a) x,X J j].toArray 87)).alloc (jj [O m,U G (Z b) y].toArray 63)).alloc (jj (j1 (kD 26 (O ⟨#[]⟩))) 141));generalize((((w.alloc (jj (j1 E) 141)).alloc (jj [O d,U D (Z a) x,X J j].toArray 87)).alloc (jj [O m,U G (Z b) y].toArray 63)).alloc (jj (j1 (kD 26 (O ⟨#[]⟩))) 141))=w1 at c I⊢;obtain⟨N,M⟩:=kK w.heap.size;rw[M]at c⊢;have HN:=Ab M;clear M;have c0:=c.b1.cell 0;have c2:=c.b2.cell 0;have W:=c.b1.cell 1;have c3:=c.b2.cell 1;simp at c0 c2 W c3;clear n HO;go_wp2_with fail
  have Nx:(prog.info? 141).map (·.size)=V 26:=Tryz.size141
  go_loopg [8] (Z a) (λgk i wr=>∃(k:Nat) (B:kJ zA),i=X J k/\k<=Z a/\gk=Z a-k/\Z B=26/\kt (CU B (a.drop k) (b.drop k)=R)/\kt (SU wr N (Ai B) d (U D (Z a) x) j a m (U G (Z b) y) b)/\kt (Ac [] w wr))
  case atStart=>exact⟨0,e,rfl,by omega,rfl,he,H9,(by rw[Aa HY];exact c),I⟩
  case round=>
   clear H9 c I c0 W c2 c3 hl hc HY;obtain⟨k,B,rfl,hk,LM,HA,HM,Q,I⟩:=hrel;have HG:=Ab LM;clear LM he;have W:=Q.b1.cell 1;have c3:=Q.b2.cell 1;simp at W c3;obtain⟨z,AH⟩:=kK (Ai B);(have E0:Z z=26:=by rw[<-AH,B6,HA]);(have K5:kt (∀v∈z,v.oneCell'=hG):=by show∀v∈z,_;rw[<-AH];exact Fy B);rw[AH]at Q;by_cases FO:k<Z a
   ·(have HX:k<Z b:=by have:=Aa NV;omega);obtain⟨g,UO,LC,d0,d1⟩:=Mv Q.row k FO;simp only[fg]at LC;obtain⟨rfl,_,rfl⟩:=LC;obtain⟨S,Wa,K2,f0⟩:=He Q.rof k HX;simp only[fg]at K2;obtain⟨rfl,_,rfl⟩:=K2;obtain⟨T,hT⟩:=kK (a[k]);obtain⟨F,hX⟩:=kK (b[k]);(have Jx:kt (T∈a):=by show _∈_;rw[<-hT];exact fj FO);have CW:kt (CU B (T::a.drop (k+1)) (F::b.drop (k+1))=R):=by
     have h:=Aa HM;rw[fQ FO,fQ HX,hT,hX]at h;exact h
    have HS:kt (∀o,SU o N z d (U (V ⟨g,0,Y⟩) (Z a) x) j a m (U (V ⟨S,0,Y⟩) (Z b) y) b->o.rangeAt N 0 z/\ku o ⟨N+1,1,Y⟩=V (U (V ⟨g,0,Y⟩) (Z a) x)/\ku o ⟨g,k*2,Y⟩=V (X .u8 T.v.toNat)/\ku o ⟨g,k*2+1,Y⟩=V (O T.s)/\ku o ⟨N+1+1,1,Y⟩=V (U (V ⟨S,0,Y⟩) (Z b) y)/\ku o ⟨S,k,Y⟩=V (O F)):=by
     intro o hz;obtain⟨g',NS,AT,q0,q1⟩:=Mv hz.row k FO;simp only[fg,fu,gi]at AT;obtain⟨⟨rfl,_,_⟩,_,_⟩:=AT;obtain⟨g',NS,AT,q2⟩:=He hz.rof k HX;simp only[fg,fu,gi]at AT;obtain⟨⟨rfl,_,_⟩,_,_⟩:=AT;rw[hT]at q0 q1;rw[hX]at q2;have x1:=hz.b1.cell 1;have x2:=hz.b2.cell 1;simp at x1 x2;exact⟨hz.b0.range,x1,q0,q1,x2,q2⟩
    rw[hT]at d0 d1;rw[hX]at f0;clear hT hX HM;(have TV:(0:Int)<=(k:Int):=by omega);(have SJ:(k:Int)<(Z a:Int):=by omega);(have RI:(k:Int)<(Z b:Int):=by omega);obtain⟨L,hV⟩:=kK (AJ B T);have FT:=Ab (HV B T wr.drew HA Jx);rw[hV,AH]at FT;have HF:=Ab hV;have H0:=Ab AH;clear hV AH;have hu:=underlying141;(have hi:(prog.info? 141).map (·.size)=V (Z z):=by rw[E0];exact Nx);have e0:=Q.b0.range;have K1:=Ab (Q.kept (kL [] wr).drew);simp only[AP]at FT;go_wp2_with fail
    go_region_held3 (λo=>o.rangeAt N 0 z/\ku o ⟨N+1,1,Y⟩=V (U (V ⟨g,0,Y⟩) (Z a) x)/\ku o ⟨g,k*2,Y⟩=V (X .u8 T.v.toNat)/\ku o ⟨g,k*2+1,Y⟩=V (O T.s)) (first|(refine⟨?_,?_,?_,?_⟩<;>assumption)|go_keep_ranges) ((go_at_call 96;refine FT.mono ?_;rintro e w3 ⟨rfl,k3⟩;have H:=Ab (K1.kept k3);have HI:=Ab (I.drew.trans k3);obtain⟨y0,y1,y2,y3,y4,y5⟩:=HS w3 H;clear k3))
    rename_i OH;clear OH FT K1 e0 W c3 d0 d1 f0;cases hv:SX L with
    |true=>
     have NE:T.v≠0/\65<=T.v.toNat/\T.v.toNat<=90:=by
      (have hz:(AJ B T).size=0:=by rw[Aa HF];exact(DQ L).1 hv);have h:=(PT T Jx).zv hz;exact⟨h.1,h.2.1,h.2.2.1⟩
     have FL:kt (CU (B.set (T.v.toNat-65) F) (a.drop (k+1)) (b.drop (k+1))=R):=by
      have h:=Aa CW;rw[CU,Aa HF,hv,fF rfl]at h;exact h
     have HQ:(L.toList==[])=hG:=hv;(have N4:L.toList=[]:=by simpa using HQ);obtain⟨l,K4⟩:=kK (T.v.toNat-65);(have RE:T.v.toNat=l+65:=by omega);(have VR:l<26:=by omega);rw[K4]at FL;(have NX:((T.v.toNat:Nat):Int)=(l:Int)+65:=by omega);rw[NX]at y2;(have SL:(0:Int)<=(l:Int):=by omega);(have RV:(l:Int)<26:=by omega);(have NB:IntKind.u8.wrap (l:Int)=l:=by rw[IntKind.wrap_u8];omega);(have RO:IntKind.u8.wrap ((l:Int)+65-65)=l:=by rw[show(l:Int)+65-65=l by omega];exact NB);have yN:∃u,ku w3 ⟨N,l,Y⟩=V u:=by
      refine⟨z[l]'(by omega),?_⟩;rw[(Aa H).b0.cell,fI (by omega)]
     obtain⟨u0,yN⟩:=yN;have yF:=H.b0.frozen l;have HD:kt (∀o,o=w3->SU (o.setCell ⟨N,l,Y⟩ (O F)).drew N (Ai (B.set l F)) d (U (V ⟨g,0,Y⟩) (Z a) x) j a m (U (V ⟨S,0,Y⟩) (Z b) y) b):=by
      rintro o rfl;rw[Vc,Aa H0];exact(H.set l _).kept (kL [] _).drew
     have LE:kt (Ac [] w (w3.setCell ⟨N,l,Y⟩ (O F)).drew):=(HI.setCell (p:=⟨N,l,Y⟩) (kp (by have:=Aa HN;simp;omega)) _).drew;(have N2:Z (B.set l F)=26:=by simp[HA]);(have n1:¬N=N+1:=by omega);(have n2:¬N=N+1+1:=by omega);(have SB:¬N=g:=by have:=H.low g rfl;omega);(have S1:¬N=S:=by have:=H.lof S rfl;omega);(have SP:¬N+1=N:=by omega);(have ST:¬N+1+1=N:=by omega);(have SS:¬g=N:=by omega);(have TS:¬S=N:=by omega);have S0:=Ab yN;clear hv NE K4 RE HS CW H HI y0 y3;go_wp2_with fail
     go_region_held3 (λo=>ku o ⟨N+1,1,Y⟩=V (U (V ⟨g,0,Y⟩) (Z a) x)/\ku o ⟨g,k*2,Y⟩=V (X .u8 ((l:Int)+65))/\ku o ⟨N+1+1,1,Y⟩=V (U (V ⟨S,0,Y⟩) (Z b) y)/\ku o ⟨S,k,Y⟩=V (O F)) (go_keep) (fail)
     rename_i NA;clear NA y1 y2 y4 y5 yN yF;have K7:=Ab (HD _ rfl);clear HD;generalize(w3.setCell ⟨N,l,Y⟩ (O F)).drew=w4 at K7 LE⊢;go_wp2
     go_roundg (Z a-(k+1))
     case measure=>have:=Aa HG;omega
     case rel=>exact⟨k+1,B.set l F,by go_num,by omega,rfl,N2,FL,K7,LE⟩
    |false=>
     have HQ:(L.toList==[])=K:=hv;(have N4:¬L.toList=[]:=by simpa using HQ);cases hx:(L.toList==F.toList)with
     |true=>
      (have MN:(L.toList !=F.toList)=K:=by simp[bne,hx]);have FL:kt (CU B (a.drop (k+1)) (b.drop (k+1))=R):=by
       have h:=Aa CW;rw[CU,Aa HF,hv,fB (by simp),hx,fF rfl]at h;exact h
      (have HD:kt (SU w3 N (Ai B) d (U (V ⟨g,0,Y⟩) (Z a) x) j a m (U (V ⟨S,0,Y⟩) (Z b) y) b):=by rw[Aa H0];exact H);clear hv HS CW H y0 y1 y2 y3;go_wp2
      go_roundg (Z a-(k+1))
      case measure=>have:=Aa HG;omega
      case rel=>exact⟨k+1,B,by go_num,by omega,rfl,HA,FL,HD,HI⟩
     |false=>
      (have MN:(L.toList !=F.toList)=hG:=by simp[bne,hx]);have P:kt (Ai R.1=z/\R.2=K):=by
       have h:=Aa CW;rw[CU,Aa HF,hv,fB (by simp),hx,fB (by simp)]at h;rw[<-h,<-Aa H0];exact⟨rfl,rfl⟩
      have n:=Ab E0;clear hv HS CW y0 y1 y2 y3 hi E0;go_wp2_with (first|((with_reducible show wpList _ _ _ ({dst:=_,op:=Op.load 141 _,type:=_,pos:=_,after:=_,guard:=_}::_) _ _);refine iq rfl 141 _ rfl N 0 (by rfl) z _ H.b0.range underlying141 rfl (by rw[Aa n];exact Tryz.size141) ?_)|((with_reducible show wpList _ _ _ ({dst:=_,op:=Op.store 141 _ _,type:=_,pos:=_,after:=_,guard:=_}::_) _ _);refine iJ rfl 141 _ _ rfl (N+1+1+1) 0 (j1 z) (by rfl) (by rfl) (GV H.b3 n) (by rw[gS,Aa n];exact Tryz.size141) (gZ K5) ?_))
      refine fL (An rfl (by rfl) (H.b3.zO z (by rw[Aa n];rfl)) underlying141 rfl (by rw[Aa n];exact Tryz.size141)) rfl ⟨?_,HI.zI (kp (by have:=Aa HN;omega)) _ _⟩;rw[(Aa P).1,(Aa P).2];rfl
   .have P:kt (Ai R.1=z/\R.2=hG):=by
     have h:=Aa HM;rw[gr (by omega),CU]at h;rw[<-h,<-AH];exact⟨rfl,rfl⟩
    have n:=Ab E0;clear E0 AH HM;go_wp2_with (first|((with_reducible show wpList _ _ _ ({dst:=_,op:=Op.load 141 _,type:=_,pos:=_,after:=_,guard:=_}::_) _ _);refine iq rfl 141 _ rfl N 0 (by rfl) z _ Q.b0.range underlying141 rfl (by rw[Aa n];exact Tryz.size141) ?_)|((with_reducible show wpList _ _ _ ({dst:=_,op:=Op.store 141 _ _,type:=_,pos:=_,after:=_,guard:=_}::_) _ _);refine iJ rfl 141 _ _ rfl (N+1+1+1) 0 (j1 z) (by rfl) (by rfl) (GV Q.b3 n) (by rw[gS,Aa n];exact Tryz.size141) (gZ K5) ?_))
    refine fL (An rfl (by rfl) (Q.b3.zO z (by rw[Aa n];rfl)) underlying141 rfl (by rw[Aa n];exact Tryz.size141)) rfl ⟨?_,I.zI (kp (by have:=Aa HN;omega)) _ _⟩;rw[(Aa P).1,(Aa P).2];rfl
def OG(t:AG):Prop:=t.v=0\/(65<=t.v.toNat/\t.v.toNat<=90)
structure OE(e:kJ zA)(x:BH):Prop where
 atom:(x.kind==97||x.kind==33)=hG->(∀t∈x.A.args,OG t)/\Z x.A.args<=1000/\O0 (Av e x.A)
 cmp:(x.kind==97||x.kind==33)=K->OG x.L/\OG x.R/\0<(AJ e x.L).size/\(AJ e x.L).size<=1000000/\0<(AJ e x.R).size/\(AJ e x.R).size<=1000000
theorem Pw(e:kJ zA)(x:BH)(k:Option Addr)(i:Nat)(E0:Option Addr)(FB:Nat)(l:kJ BD)(w:kq)(he:Z e=26)(hx:Cu w 0 (x,U k (Z x.A.args) i))(hs:D8 w (U E0 (Z l) FB) l)(HQ:Z l<=1000000)(D:OE e x):
  Calls prog 95 #[kx (j1 (Ai e)),kx (j1 (Co x (U k (Z x.A.args) i))),U E0 (Z l) FB] w λr m=>r=j3 (k0 (B7 (Av e) (AJ e) (l.map BD.f) x))/\Ac [] w m:=by
 have o:kt ((x.kind==97||x.kind==33)=hG->∀wr,Ac [] w wr->Calls prog 60 #[kx (j1 (Ai e)),kx (j1 (Cc x.A.name (U k (Z x.A.args) i) x.A.at_))] wr λr m=>∃F I,r=j3 (kx (j1 (Bp ⟨Av e x.A,U F (Z x.A.args) I⟩)))/\Ew m ⟨Av e x.A,U F (Z x.A.args) I⟩/\Ac [] wr m):=λh wr hk=>Yd e x.A k i wr he (Ad hx hk) (D.atom h).2.1 (D.atom h).1
 have t:kt ((x.kind==97||x.kind==33)=hG->∀av wr,Ac [] w wr->Ew wr ⟨Av e x.A,av⟩->Calls prog 21 #[U E0 (Z l) FB,kx (j1 (Bp ⟨Av e x.A,av⟩))] wr λe' m=>e'=j3 (k0 (l.any λp=>Cl p.f (Av e x.A)))/\Ac [] wr m):=λh av wr hk hr=>JZ E0 FB l ⟨Av e x.A,av⟩ wr (hs.kept hk) hr HQ (D.atom h).2.2
 have Go:kt ((l.any λp=>Cl p.f (Av e x.A))=DI (l.map BD.f) (Av e x.A)):=by show _=_;unfold DI;rw[jy];rfl
 have H:kt ((x.kind==97||x.kind==33)=K->∀wr,Calls prog 96 #[kx (j1 (Ai e)),kx (j1 (AP x.L))] wr λr m=>r=j3 (O (AJ e x.L))/\Ac [] wr m):=λh wr=>Kk e x.L wr he (D.cmp h).1
 have G:kt ((x.kind==97||x.kind==33)=K->∀wr,Calls prog 96 #[kx (j1 (Ai e)),kx (j1 (AP x.R))] wr λr m=>r=j3 (O (AJ e x.R))/\Ac [] wr m):=λh wr=>Kk e x.R wr he (D.cmp h).2.1
 have P:kt ((x.kind==97||x.kind==33)=K->∀wr,Calls prog 87 #[O (AJ e x.L),O (AJ e x.R)] wr λe' m=>e'=j3 (k0 (Fu (AJ e x.L) (AJ e x.R)))/\m=wr):=λh wr=>Mm _ _ wr (D.cmp h).2.2.1 (D.cmp h).2.2.2.2.1 (D.cmp h).2.2.2.1 (D.cmp h).2.2.2.2.2
 obtain⟨B,hB⟩:=kK (B7 (Av e) (AJ e) (l.map BD.f) x);rw[hB];have b:kt ((if x.kind==97 then DI (l.map BD.f) (Av e x.A)else if x.kind==33 then !DI (l.map BD.f) (Av e x.A)else if x.kind==61 then(AJ e x.L).toList==(AJ e x.R).toList else if x.kind==35 then !((AJ e x.L).toList==(AJ e x.R).toList)else Fu (AJ e x.L) (AJ e x.R))=B):=hB;clear hB D hs hx;obtain⟨c,⟨g,d,j⟩,⟨v,n⟩,⟨q,s⟩,y⟩:=x;simp only at o t Go H G P b⊢;rw[Aa Go]at t;clear Go;have FO:kt (∀F I,Bp ⟨Av e ⟨g,d,j⟩,U F (Z d) I⟩=[O g,U F (Z d) I]):=λF I=>rfl
 generalize DI (l.map BD.f) (Av e ⟨g,d,j⟩)=HH at t b;generalize Av e ⟨g,d,j⟩=FP at o t FO;generalize AJ e ⟨v,n⟩=VL at H P b;generalize AJ e ⟨q,s⟩=VR at G P b;have hc:=Bh e;have Ax:kt (Z (Ai e)=26):=by show _=_;rw[B6,he]
 have hl:=Aa Ax;generalize Ai e=E at hc hl Ax o H G⊢;simp only[Co,Cc,AP]at o H G⊢;have z:=Ab ((kN w E 141).alloc (jj [X .u8 c.toNat,O g,U k (Z d) i,X J j,X .u8 v.toNat,O n,X .u8 q.toNat,O s,X J y].toArray 173));have a:kt (AF ((w.alloc (jj (j1 E) 141)).alloc (jj [X .u8 c.toNat,O g,U k (Z d) i,X J j,X .u8 v.toNat,O n,X .u8 q.toNat,O s,X J y].toArray 173)) (w.heap.size+1) [X .u8 c.toNat,O g,U k (Z d) i,X J j,X .u8 v.toNat,O n,X .u8 q.toNat,O s,X J y] 173):=by
  have h:=kN (w.alloc (jj (j1 E) 141)) [X .u8 c.toNat,O g,U k (Z d) i,X J j,X .u8 v.toNat,O n,X .u8 q.toNat,O s,X J y] 173;simp only[fY]at h;exact h
 have C:=Ab (((kL [] w).alloc (jj (j1 E) 141)).alloc (jj [X .u8 c.toNat,O g,U k (Z d) i,X J j,X .u8 v.toNat,O n,X .u8 q.toNat,O s,X J y].toArray 173));have HO:((c.toNat:Int)==97)=(c==97):=Ck _ 97;have Ha:((c.toNat:Int)==33)=(c==33):=Ck _ 33;have FA:((c.toNat:Int)==61)=(c==61):=Ck _ 61;have EY:((c.toNat:Int)==35)=(c==35):=Ck _ 35;cases h97:(c==97)with
 |true=>
  rw[h97]at b o t HO;rw[fF rfl]at b;have EM:=Ab (o rfl);have EK:=Ab (t rfl);clear o t H G P Ha FA EY;go_enter func95,ntmps95;apply wp_seq_k;intro KK S;have Q:=Ab S;clear S;go_wp2;refine Q _ _ ?_;clear Q KK;change Code.wp _ _ _ _ ((w.alloc (jj (j1 E) 141)).alloc (jj [X .u8 c.toNat,O g,U k (Z d) i,X J j,X .u8 v.toNat,O n,X .u8 q.toNat,O s,X J y].toArray 173));generalize((w.alloc (jj (j1 E) 141)).alloc (jj [X .u8 c.toNat,O g,U k (Z d) i,X J j,X .u8 v.toNat,O n,X .u8 q.toNat,O s,X J y].toArray 173))=w1 at z a C⊢;generalize w.heap.size=N at z a⊢;have c0:=a.cell 0;have c1:=a.cell 1;have c2:=a.cell 2;have c3:=a.cell 3;have c4:=a.cell 4;have c5:=a.cell 5;have c6:=a.cell 6;have c7:=a.cell 7;simp at c0 c1 c2 c3 c4 c5 c6 c7;go_wp2_with (first|((with_reducible show wpList _ _ _ ({dst:=_,op:=Op.load 141 _,type:=_,pos:=_,after:=_,guard:=_}::_) _ _);refine iq rfl 141 _ rfl N 0 (by rfl) E _ z.range underlying141 rfl (by rw[Aa Ax];exact Tryz.size141) ?_)|fail)
  refine(EM _ C).mono ?_;rintro _ w2 ⟨F,I,rfl,CL,u⟩;have T:=Ab (EK (U F (Z d) I) w2 (C.trans u) CL);have AR:=Ab (C.trans u);rw[Aa FO]at T⊢;clear CL u EM EK;go_wp2_with fail
  refine T.mono ?_;rintro _ w3 ⟨rfl,M⟩;have W:=Ab (AR.trans M);clear M T;go_wp2;go_ret;rw[<-Aa b];exact⟨rfl,W⟩
 |false=>
  rw[h97]at b o t HO H G P;rw[fB (by simp)]at b;cases h33:(c==33)with
  |true=>
   rw[h33]at b o t Ha;rw[fF rfl]at b;have EM:=Ab (o rfl);have EK:=Ab (t rfl);clear o t H G P FA EY;go_enter func95,ntmps95;apply wp_seq_k;intro KK S;have Q:=Ab S;clear S;go_wp2;refine Q _ _ ?_;clear Q KK;change Code.wp _ _ _ _ ((w.alloc (jj (j1 E) 141)).alloc (jj [X .u8 c.toNat,O g,U k (Z d) i,X J j,X .u8 v.toNat,O n,X .u8 q.toNat,O s,X J y].toArray 173));generalize((w.alloc (jj (j1 E) 141)).alloc (jj [X .u8 c.toNat,O g,U k (Z d) i,X J j,X .u8 v.toNat,O n,X .u8 q.toNat,O s,X J y].toArray 173))=w1 at z a C⊢;generalize w.heap.size=N at z a⊢;have c0:=a.cell 0;have c1:=a.cell 1;have c2:=a.cell 2;have c3:=a.cell 3;have c4:=a.cell 4;have c5:=a.cell 5;have c6:=a.cell 6;have c7:=a.cell 7;simp at c0 c1 c2 c3 c4 c5 c6 c7;go_wp2_with (first|((with_reducible show wpList _ _ _ ({dst:=_,op:=Op.load 141 _,type:=_,pos:=_,after:=_,guard:=_}::_) _ _);refine iq rfl 141 _ rfl N 0 (by rfl) E _ z.range underlying141 rfl (by rw[Aa Ax];exact Tryz.size141) ?_)|fail)
   refine(EM _ C).mono ?_;rintro _ w2 ⟨F,I,rfl,CL,u⟩;have T:=Ab (EK (U F (Z d) I) w2 (C.trans u) CL);have AR:=Ab (C.trans u);rw[Aa FO]at T⊢;clear CL u EM EK;(go_wp2_with fail);refine T.mono ?_;rintro _ w3 ⟨rfl,M⟩;have W:=Ab (AR.trans M);clear M T;go_wp2;go_ret;rw[<-Aa b];exact⟨rfl,W⟩
  |false=>
   rw[h33]at b Ha H G P;rw[fB (by simp)]at b;have HD:=Ab (H rfl);have HJ:=Ab (G rfl);have HP:=Ab (P rfl);clear o t H G P;go_enter func95,ntmps95;apply wp_seq_k;intro KK S;have Q:=Ab S;clear S;go_wp2;refine Q _ _ ?_;clear Q KK;change Code.wp _ _ _ _ ((w.alloc (jj (j1 E) 141)).alloc (jj [X .u8 c.toNat,O g,U k (Z d) i,X J j,X .u8 v.toNat,O n,X .u8 q.toNat,O s,X J y].toArray 173));generalize((w.alloc (jj (j1 E) 141)).alloc (jj [X .u8 c.toNat,O g,U k (Z d) i,X J j,X .u8 v.toNat,O n,X .u8 q.toNat,O s,X J y].toArray 173))=w1 at z a C⊢;generalize w.heap.size=N at z a⊢;have c0:=a.cell 0;have c1:=a.cell 1;have c2:=a.cell 2;have c3:=a.cell 3;have c4:=a.cell 4;have c5:=a.cell 5;have c6:=a.cell 6;have c7:=a.cell 7;simp at c0 c1 c2 c3 c4 c5 c6 c7;go_wp2_with (first|((with_reducible show wpList _ _ _ ({dst:=_,op:=Op.load 141 _,type:=_,pos:=_,after:=_,guard:=_}::_) _ _);refine iq rfl 141 _ rfl N 0 (by rfl) E _ z.range underlying141 rfl (by rw[Aa Ax];exact Tryz.size141) ?_)|fail)
   refine(HD _).mono ?_;rintro _ w2 ⟨rfl,u⟩;have HC:=Ab (z.kept u);have EX:=a.kept u;have AR:=Ab (C.trans u);have d0:=EX.cell 0;have d6:=EX.cell 6;have d7:=EX.cell 7;simp at d0 d6 d7;have HF:=Ab EX;clear u z a C HD EX c0 c1 c2 c3 c4 c5 c6 c7;go_wp2_with (first|((with_reducible show wpList _ _ _ ({dst:=_,op:=Op.load 141 _,type:=_,pos:=_,after:=_,guard:=_}::_) _ _);refine iq rfl 141 _ rfl N 0 (by rfl) E _ HC.range underlying141 rfl (by rw[Aa Ax];exact Tryz.size141) ?_)|fail)
   refine(HJ _).mono ?_;rintro _ w3 ⟨rfl,M⟩;have W:=Ab (AR.trans M);have HR:=(HF.kept M).cell 0;simp at HR;clear M AR HJ HC HF d0 d6 d7;cases h61:(c==61)with
   |true=>
    rw[h61]at b FA;rw[fF rfl]at b;go_wp2;go_ret;rw[<-Aa b];exact⟨rfl,W⟩
   |false=>
    rw[h61]at b FA;rw[fB (by simp)]at b;cases h35:(c==35)with
    |true=>
     rw[h35]at b EY;rw[fF rfl]at b;go_wp2;go_ret;rw[<-Aa b];exact⟨rfl,W⟩
    |false=>
     rw[h35]at b EY;rw[fB (by simp)]at b;(go_wp2_with fail);refine(HP _).mono ?_;rintro _ w4 ⟨rfl,rfl⟩;go_wp2;go_ret;rw[<-Aa b];exact⟨rfl,W⟩
