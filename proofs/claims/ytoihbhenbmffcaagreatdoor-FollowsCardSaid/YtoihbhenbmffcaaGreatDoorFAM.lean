import Derived.Test.YtoihbhenbmffcaaGreatDoorFAK
import Derived.Test.YtoihbhenbmffcaaGreatDoorXAC
set_option linter.all false
set_option maxHeartbeats 0
open List renaming length->Z,toArray->ml
open Option renaming none->Y,some->V
open Go.Value renaming slice->U,int->X,string->O,agg->pC,bool->pE,ownBlock->pI
open Bool renaming false->K,true->jj
open Go.IntKind renaming i64->J,i32->pD
open Go.Obj renaming cells->j3
open Go.Ending renaming returned->oa
open Or renaming inl->oi,inr->oj
open Go renaming World->py,Value->p5
open Go.RowKit renaming Hid->p7
open Go.World renaming cell?->p8,ownsRow->p9
namespace Go.Proofs.YtoihbhenbmffcaaGreatDoor
open Go.RowKit Go.Proofs.Tryz
variable{w v u:py}{m n k i j b:Nat}{y:pM p5}{T:TypeId}{z:p5}{o:Option Addr}{p:pM Dy}{s t:zA}{M:pM Nat}{I:Int}{c:pM A4}
def Bi(l:PL):Bool:=l.sort==0||l.sort==1
def AR(l:PL):pM AW:=if Bi l then l.ts else[l.l,l.r]
theorem Px(l:PL)(p:Option Addr)(n o:Nat)(w:py):
  Calls prog 135 #[pC (ml (Ay (l,U p n o)))] w λe q=>e=oa (pE (Bi l))/\Ac [] w q:=by
 have j:=(pO [] w).alloc (j3 (ml (Ay (l,U p n o))) 217);obtain⟨i,a,m,c,d,f,g⟩:=l;have r:p7 (∀b,Bi ⟨i,a,m,c,d,f,g⟩=b->(a==0||a==1)=b):=λb h=>h
 simp only[Ay]at j⊢;go_enter func135,ntmps135;cases h0:(a==0)with
 |true=>
  have k:p7 (Bi ⟨i,a,m,c,d,f,g⟩=jj):=by show _=_;unfold Bi;simp only;rw[h0];rfl
  go_wp2;go_ret;rw[k.out];exact⟨rfl,j⟩
 |false=>
  have k:p7 (Bi ⟨i,a,m,c,d,f,g⟩=(a==1)):=by show _=_;unfold Bi;simp only;rw[h0];rfl
  go_wp2;go_ret;rw[k.out];exact⟨rfl,j⟩
def bE(h:AF w m y T)(a:Z y=n*k)(b:n<=maxLen):p9 w 0 T k (U (V ⟨m,0,Y⟩) n n) n y:=by
 refine⟨a,oj ⟨m,n,ml y,rfl,lz _,h,lC _,b,by simpa using a,?_⟩⟩;rw[<-a];simp
theorem MZ(l:PL)(c:Option Addr)(d:Nat)(w:py)(h:KV w 0 (l,U c (Z l.ts) d)):
  Calls prog 137 #[pC (ml (Ay (l,U c (Z l.ts) d)))] w λe p=>∃z A,e=oa (U z (Z (AR l)) A)/\p9 p 0 215 2 (U z (Z (AR l)) A) (Z (AR l)) ((AR l).flatMap Ar)/\Ac [] w p:=by
 have j:=Ab ((pO [] w).alloc (j3 (ml (Ay (l,U c (Z l.ts) d))) 217));have o:=Ab (pP w (Ay (l,U c (Z l.ts) d)) 217);have r:=Ab (Ad h j);have t:p7 (∀w,Calls prog 135 #[pC (ml (Ay (l,U c (Z l.ts) d)))] w λe p=>e=oa (pE (Bi l))/\Ac [] w p):=λw=>Px l c (Z l.ts) d w
 clear h;obtain⟨k,i,n,m,f,a,b⟩:=l;simp only[Ay]at j o r t⊢;go_enter func137,ntmps137;go_wp2_with fail
 change Calls _ _ _ (w.alloc (j3 [X J k,X J i,X J n,O m,U c (Z f) d,X pD a.v,O a.s,X pD b.v,O b.s].toArray 217)) _;generalize w.alloc (j3 [X J k,X J i,X J n,O m,U c (Z f) d,X pD a.v,O a.s,X pD b.v,O b.s].toArray 217)=w1 at j o r⊢;generalize w.heap.size=N at o⊢;refine(t w1).mono ?_;rintro e u ⟨rfl,q⟩;have g:=o.kept q;have y:=Ab (j.trans q);have F:=Ab (Ad r q);have H:=g.cell 4;have E:=g.cell 5;have G:=g.cell 6;have C:=g.cell 7;have B:=g.cell 8;simp at H E G C B;clear g o r j q t;cases hh:Bi ⟨k,i,n,m,f,a,b⟩with
 |true=>
  have x:p7 (AR ⟨k,i,n,m,f,a,b⟩=f):=by show _=_;unfold AR;rw[hh];rfl
  clear hh;go_wp2;go_ret;rw[x.out];exact⟨c,d,rfl,F,y⟩
 |false=>
  have x:p7 (AR ⟨k,i,n,m,f,a,b⟩=[a,b]):=by show _=_;unfold AR;rw[hh];rfl
  clear hh;have D:p7 (p9 (u.alloc (j3 [X pD a.v,O a.s,X pD b.v,O b.s].toArray 215)) 0 215 2 (U (V ⟨u.heap.size,0,Y⟩) 2 2) 2 [X pD a.v,O a.s,X pD b.v,O b.s]):=bE (pP u _ 215) rfl (by unfold maxLen;omega);go_wp2;go_ret;rw[x.out];exact⟨_,_,rfl,D,y.alloc _⟩
theorem Tryz.yA:(Tryz.prog.info? 187).map (λi=>(i.zero,i.size,i.bytes))=V (V (pC #[X J 0,O ⟨#[]⟩,U Y 0 0]),3,48):=by kernel_rfl
def UU(p:Lz):Z (Ay p)=9:=rfl
def UG(p:Hl):Z (AP p)=3:=rfl
def UZ(p:AW):Z (Ar p)=2:=rfl
def Jp{e:pM Lz}(h:B8 w n z e)(k:Nat)(a:k<Z e):
  ∃g p l d f,z=U (V ⟨g,0,Y⟩) (Z e) p/\e[k]=(l,U d (Z l.ts) f)/\KV w n (l,U d (Z l.ts) f)/\
   p8 w ⟨g,k*9,Y⟩=V (X J l.place)/\p8 w ⟨g,k*9+1,Y⟩=V (X J l.sort)/\p8 w ⟨g,k*9+2,Y⟩=V (X J l.ap)/\p8 w ⟨g,k*9+3,Y⟩=V (O l.an)/\p8 w ⟨g,k*9+4,Y⟩=V (U d (Z l.ts) f)/\
   p8 w ⟨g,k*9+5,Y⟩=V (X pD l.l.v)/\p8 w ⟨g,k*9+6,Y⟩=V (O l.l.s)/\p8 w ⟨g,k*9+7,Y⟩=V (X pD l.r.v)/\p8 w ⟨g,k*9+8,Y⟩=V (O l.r.s):=by
 obtain⟨g,p,E,_,b⟩:=AC h.row (λc _=>UU c) k a;have x:=(h.each _ (kV a)).1;obtain⟨d,f,m⟩:=Ak x;have u:=b k a 0 (by omega);have o:=b k a 1 (by omega);have i:=b k a 2 (by omega);have j:=b k a 3 (by omega);have B:=b k a 4 (by omega);have y:=b k a 5 (by omega);have t:=b k a 6 (by omega);have q:=b k a 7 (by omega);have A:=b k a 8 (by omega);obtain⟨l,C,D⟩:∃l C,e[k]=(l,C):=⟨_,_,rfl⟩;rw[D]at u o i j B y t q A x m;simp only at m;subst m;simp[Ay]at u o i j B y t q A;exact⟨g,p,l,d,f,E,D,x,u,o,i,j,B,y,t,q,A⟩
def AS(zH:pM Lz):pM Hl:=(zH.filter λp=>Bi p.1).map λp=>⟨p.1.ap,p.1.an,p.2⟩
def Bz(c:Dy):pM Hl:=⟨c.hp,c.hn,c.hv⟩::AS c.zH
def Qd{a:pM Lz}(b:k<Z a):AS (a.take (k+1))=AS (a.take k)++(if Bi a[k].1 then[⟨a[k].1.ap,a[k].1.an,a[k].2⟩] else[]):=by
 unfold AS;rw[kW b,nF,lV]
 congr 1
 by_cases h:Bi a[k].1=jj<;>simp[h]
def Ej(a:pM Lz):Z (AS a)<=Z a:=by
 unfold AS;rw[lm];exact mS _ _
set_option maxRecDepth 100000
theorem Mp(D:Option Addr)(P:Nat)(a:pM Lz)(w:py)(h:B8 w 0 (U D (Z a) P) a)(FL:Z a<=1000):
  Calls prog 92 #[U D (Z a) P] w λe B=>∃f j,e=oa (U f (Z (AS a)) j)/\p9 B w.heap.size 187 3 (U f (Z (AS a)) j) (Z (AS a)) ((AS a).flatMap AP)/\Ac [] w B:=by
 obtain⟨i0,FA,W,A0,B2⟩:=mg Tryz.yA;have HB:=Ab h;clear h;go_enter func92,ntmps92;go_wp2
 go_loopg [3,8] (Z a) (λgk o i wr=>∃(k:Nat) (b:pM Hl) (f:Option Addr) (j:Nat),o=U f (Z b) j/\i=X J k/\k<=Z a/\Z b<=k/\gk=Z a-k/\p7 (b=AS (a.take k))/\p9 wr w.heap.size 187 3 (U f (Z b) j) (Z b) (b.flatMap AP)/\p7 (Ac [] w wr))
 case atStart=>exact⟨0,[],Y,0,rfl,rfl,by omega,by simp,rfl,by show _=_;simp[AS],lH _ _ _ _,pO _ _⟩
 case round=>
  obtain⟨k,b,f,j,rfl,rfl,G,FO,I,q,v,p⟩:=hrel;have H:=Ab I;clear I;by_cases A:k<Z a
  .have Q:=HB.kept p;have FT:=p.size;obtain⟨g,FF,l,c,d,E,N,B9,d0,d1,S,T,d4,d5,d6,d7,d8⟩:=Jp Q k A;simp only[kS]at E;obtain⟨rfl,_,rfl⟩:=E;have s:=Ab (Qd A);rw[N]at s;clear Q B9 N;have z:=Ab (Px l c (Z l.ts) d (wr.alloc (j3 (ml (Ay (l,U c (Z l.ts) d))) 217)));simp only[Ay]at z;have R:=Ab (pP wr (Ay (l,U c (Z l.ts) d)) 217);have C:=Ab (p.alloc (j3 (ml (Ay (l,U c (Z l.ts) d))) 217));have F:=Ab (lg v (j3 (ml (Ay (l,U c (Z l.ts) d))) 217));(go_wp2_with fail);refine z.mono ?_;rintro e m ⟨rfl,n⟩;have u:=R.kept n;have M:=Ab (C.trans n);have x:=Ad F n;have L:=n.size;(have FC:wr.heap.size+1<=m.heap.size:=by simpa using L);have c2:=u.cell 2;have c3:=u.cell 3;have c4:=u.cell 4;simp[Ay]at c2 c3 c4;clear u n R C F z d0 d1 S T d4 d5 d6 d7 d8 v p L;cases hh:Bi l with
   |false=>
    (have y:p7 (b=AS (a.take (k+1))):=by show _=_;rw[Aa s,hh,Aa q];simp);clear hh q s;go_wp2
    go_roundg (Z a-(k+1))
    case measure=>have:=Aa H;omega
    case rel=>exact⟨k+1,b,f,j,rfl,by go_num,by omega,by omega,rfl,y,x,M⟩
   |true=>
    (have y:p7 (b++[⟨l.ap,l.an,U c (Z l.ts) d⟩]=AS (a.take (k+1))):=by show _=_;rw[Aa s,hh,Aa q];simp);clear hh q s;have BA:=lP m (j3 (ml (AP ⟨l.ap,l.an,U c (Z l.ts) d⟩)) 187);have ES:=lg x (j3 (ml (AP ⟨l.ap,l.an,U c (Z l.ts) d⟩)) 187);(have HF:p7 (∀r,(m.alloc (j3 (ml (AP ⟨l.ap,l.an,U c (Z l.ts) d⟩)) 187)).grownBy r (U f (Z b) j).ownBlock->Ac [] w r):=λr hg=>(M.alloc _).grown hg (λk G=>oj ((x.lt k G).1)));go_wp2_with (at_builtin;refine lG _ rfl (.tmp 14) (.tmp 17) _ rfl w.heap.size 187 i0 _ 3 48 underlying163 FA W A0 B2 rfl (by omega) (U f (Z b) j) (Z b) (b.flatMap AP) rfl ES ⟨m.heap.size,0,Y⟩ 1 1 (AP ⟨l.ap,l.an,U c (Z l.ts) d⟩) rfl rfl (lI (cs:=ml (AP ⟨l.ap,l.an,U c (Z l.ts) d⟩)) (t:=187) (fr:=(0,0)) BA) (by simp[Value.oneCell',AP]) (by omega) (by unfold maxLen;omega) (by omega) (by simp;omega) (m.heap.size+1) (by simp) ?_;intro g1 AH r CL Bx FB FP)
    go_roundg (Z a-(k+1))
    case measure=>have:=Aa H;omega
    case rel=>exact⟨k+1,b++[⟨l.ap,l.an,U c (Z l.ts) d⟩],V ⟨g1,0,Y⟩,AH,by simp,by go_num,by omega,by simp;omega,rfl,y,by simpa using CL,HF r Bx⟩
  .have HE:p7 (b=AS a):=by
    have h:=Aa q;rw[kX (by omega)]at h;exact h
   go_wp2;go_ret;rw[<-HE.out];exact⟨f,j,rfl,v,p⟩
def bi(w:py)(g:Nat)(b:pM Lz)(v:p5)(h:B8 w g v b):∀u∈(AS b).flatMap AP,u.oneCell'=jj:=by
 intro u f;obtain⟨t,d,a⟩:=ma.1 f;obtain⟨p,c,rfl⟩:=lk.1 d;obtain⟨j,i,e⟩:=Ak (h.each p (lK.1 c).1).1;simp only[AP,kZ,mr,or_false]at a;rcases a with rfl|rfl|rfl
 .rfl
 .rfl
 .rw[e];rfl
theorem LT(c:Dy)(w:py)(h:Ki w 0 c.hv c.bv c.zV c.zH)(W:Z c.zH<=1000):
  Calls prog 119 #[pC (ml (Bo c))] w λe t=>∃v z,e=oa (U v (Z (Bz c)) z)/\p9 t w.heap.size 187 3 (U v (Z (Bz c)) z) (Z (Bz c)) ((Bz c).flatMap AP)/\Ac [] w t:=by
 obtain⟨i0,S,M,T,Ax⟩:=mg Tryz.yA;obtain⟨f,i,b,hv,bv,a⟩:=c;simp only at h W;obtain⟨g,d,rfl⟩:=Ak h.head;obtain⟨l,m,rfl⟩:=Ak h.body.row;have Q:p7 (∀wr,Ac [] w wr->Calls prog 92 #[U l (Z a) m] wr λe t=>∃v z,e=oa (U v (Z (AS a)) z)/\p9 t wr.heap.size 187 3 (U v (Z (AS a)) z) (Z (AS a)) ((AS a).flatMap AP)/\Ac [] wr t):=λwr p=>Mp l m a wr (h.body.kept p) W
 have E:=Ab (bi w 0 a _ h.body);have BS:=Ej a;have A:p7 (Bz ⟨f,i,b,U g (Z b) d,U l (Z a) m,a⟩=[⟨f,i,U g (Z b) d⟩]++AS a):=rfl;generalize Bz ⟨f,i,b,U g (Z b) d,U l (Z a) m,a⟩=AT at A⊢;generalize AS a=BA at Q E BS A;clear h;simp only[Bo];have q:=Ab (pP w [X J f,O i,U g (Z b) d,U l (Z a) m] 189);have x:=Ab ((pO [] w).alloc (j3 [X J f,O i,U g (Z b) d,U l (Z a) m].toArray 189));go_enter func119,ntmps119;go_wp2_with fail
 change Code.wp _ _ _ _ (w.alloc (j3 [X J f,O i,U g (Z b) d,U l (Z a) m].toArray 189));have F:(w.alloc (j3 [X J f,O i,U g (Z b) d,U l (Z a) m].toArray 189)).heap.size=w.heap.size+1:=by simp
 generalize w.alloc (j3 [X J f,O i,U g (Z b) d,U l (Z a) m].toArray 189)=w1 at q x F⊢;obtain⟨N,C⟩:=pN w.heap.size;rw[C]at q F⊢;have c0:=q.cell 0;have c1:=q.cell 1;have c2:=q.cell 2;have c3:=q.cell 3;simp at c0 c1 c2 c3;have H:=Ab C;have G:Z AT=1+Z BA:=by rw[Aa A];simp;omega
 have A2:p7 (∀(r:py) (o:Option Addr) (n:Nat),p9 r N 187 3 (U o (1+Z BA) n) (1+Z BA) (AP ⟨f,i,U g (Z b) d⟩++BA.flatMap AP)->p9 r N 187 3 (U o (Z AT) n) (Z AT) (AT.flatMap AP)):=by
  intro r o n ho;rw[G,Aa A,lM];simpa using ho
 have P:=Ab G;have EM:p7 (p9 (w1.drew.alloc (j3 (ml (AP ⟨f,i,U g (Z b) d⟩)) 187)) N 187 3 (U (V ⟨N+1,0,Y⟩) 1 1) 1 (AP ⟨f,i,U g (Z b) d⟩)):=by
  have hh:=pP w1.drew (AP ⟨f,i,U g (Z b) d⟩) 187;rw[show w1.drew.heap.size=N+1 from F]at hh
  exact⟨rfl,oj ⟨N+1,1,_,rfl,by omega,hh,lC _,by unfold maxLen;omega,rfl,rfl⟩⟩
 have DT:p7 (∀j:py,N<=j.heap.size->p9 (j.alloc (j3 (ml (AP ⟨f,i,U g (Z b) d⟩)) 187)) N 187 3 (U (V ⟨j.heap.size,0,Y⟩) 1 1) 1 (AP ⟨f,i,U g (Z b) d⟩)):=λj p=>⟨rfl,oj ⟨j.heap.size,1,_,rfl,p,pP j _ 187,lC _,by unfold maxLen;omega,rfl,rfl⟩⟩
 clear C G
 go_region_law
  (first
   |(
     go_simp;go_at_call 92;refine(Q _ (by first|exact x.drew|exact(x.drew).alloc _)).mono ?_;rintro e j ⟨AH,A0,rfl,A1,u⟩;
     have R:=u.size;
     first
      |(have BT:=Ad EM u;have D:=(x.drew.alloc _).trans u;have B9:N+2<=j.heap.size:=by simp at R;omega)
      |(have I:=q.drew.kept u;have e0:=I.cell 0;have e1:=I.cell 1;have e2:=I.cell 2;simp at e0 e1 e2;have D:=x.drew.trans u;have B9:N+1<=j.heap.size:=by simp at R;omega))
   |(refine JZ _ (by rfl) _ _ _ (by rfl) N 187 i0 _ 3 48 underlying163 S M T Ax rfl (by omega) (V ⟨N+1,0,Y⟩) 1 1 (AP ⟨f,i,U g (Z b) d⟩) (by rfl) BT _ AH (Z BA) A0 (BA.flatMap AP) (by rfl) A1 E (by unfold maxLen;omega) (by omega) (by omega) ?_;intro o n r s y L;have B:=Ab (And.intro (A2 r o n s) (D.grown y (λk p=>oj (by simp[pI]at p;have:=Aa H;omega))));clear s y L)
   |(refine JZ _ (by rfl) _ _ _ (by rfl) N 187 i0 _ 3 48 underlying163 S M T Ax rfl (by omega) (V ⟨j.heap.size,0,Y⟩) 1 1 (AP ⟨f,i,U g (Z b) d⟩) (by rfl) (DT j (by omega)) _ AH (Z BA) A0 (BA.flatMap AP) (by rfl) (lg A1 _) E (by unfold maxLen;omega) (by omega) (by simp;omega) ?_;intro o n r s y L;have B:=Ab (And.intro (A2 r o n s) ((D.alloc _).grown y (λk p=>oj (by simp[pI]at p;have:=Aa H;omega))));clear s y L))
 all_goals
  go_wp2;go_ret;rw[Aa H,Aa P];exact⟨o,n,rfl,by have h:=B.1;rw[Aa P]at h;exact h,B.2⟩
def A5(zH:pM Lz):pM AW:=zH.flatMap λp=>AR p.1
def BE(c:Dy):pM AW:=c.zV++A5 c.zH
def Qh{a:pM Lz}(b:k<Z a):A5 (a.take (k+1))=A5 (a.take k)++AR a[k].1:=by
 unfold A5;rw[kW b,lM];simp
def Lu(a:pM AW):∀u∈a.flatMap Ar,u.oneCell'=jj:=by
 intro u b;obtain⟨t,_,h⟩:=ma.1 b;simp[Ar]at h;rcases h with rfl|rfl<;>rfl
def ax(h:p9 w m T k (U o n i) n y)(p:0<n):
  ∃g,o=V ⟨g,0,Y⟩/\Z y=n*k/\(∀j u,y[j]?=V u->p8 w ((⟨g,0,Y⟩:Addr).add j)=V u)/\m<=g/\g<w.heap.size:=by
 rcases h.2 with⟨a,d⟩|⟨g,c,b,a,f,l⟩
 .omega
 .simp only[kS]at a;obtain⟨rfl,_,rfl⟩:=a;exact⟨g,rfl,h.1,h.cells rfl,(h.lt g rfl)⟩
structure Qk(c:Dy):Prop where
 head:0<Z c.zV/\Z c.zV<=1000
 lits:Z c.zH<=1000
 each:∀p∈c.zH,(Bi p.1=jj->0<Z p.1.ts)/\Z p.1.ts<=1000
def Qk.zQ{c:Dy}(h:Qk c){p:Lz}(a:p∈c.zH):0<Z (AR p.1)/\Z (AR p.1)<=1000:=by
 have:=h.each p a;unfold AR;split
 .rename_i b;exact⟨this.1 b,this.2⟩
 .simp
set_option maxRecDepth 512
theorem cQ(n:Nat)(w:py)(r:0<n)(v:n<=2000000):
  Calls prog 228 #[U Y 0 0,X J n] w λe j=>∃g G,e=oa (U (V ⟨g,0,Y⟩) 0 G)/\p9 j w.heap.size 215 2 (U (V ⟨g,0,Y⟩) 0 G) 0 []/\Ac [] w j:=by
 obtain⟨f,s,q,y,m⟩:=mg Tryz.zg;have l:(Builtin.firstCells f.size 0 (U Y 0 0)).run prog w.drew=.ok (ml ([]:pM p5)) w.drew:=run_firstCells_none w.drew f.size 0 0 0;have k:∀i,(Builtin.append_ #[185,3] i #[U Y 0 0,X J (n:Int)]).run prog w=
   .ok (U (V ⟨w.heap.size,0,Y⟩) n (grownCap w n 0 215)) (w.drew.alloc (j3 (ml ([]:pM p5)++Builtin.zeroCells (pC #[X pD 0,O ⟨#[]⟩]:p5).cells n++Builtin.zeroCells (pC #[X pD 0,O ⟨#[]⟩]:p5).cells (grownCap w n 0 215-n)) 215)):=λi=>by
  have h:=Lib.run_append_grow_zeros w 185 3 i 215 f _ J J underlying185 underlying3 s q Y 0 0 [] l n r (by omega) (by omega) (by omega) (by rw[m];omega) (by rw[m,me];exact growslice_fits (by omega) (by omega));simp only[me]at h;exact h
 obtain⟨G,b⟩:∃G,G=grownCap w n 0 215:=⟨_,rfl⟩;obtain⟨a,c⟩:∃a:Array p5,a=ml ([]:pM p5)++Builtin.zeroCells (pC #[X pD 0,O ⟨#[]⟩]:p5).cells n++Builtin.zeroCells (pC #[X pD 0,O ⟨#[]⟩]:p5).cells (G-n):=⟨_,rfl⟩;rw[<-b,<-c]at k;have t:n<=G:=by rw[b];exact grownCap_ge w _ _ _
 have d:G<=maxLen:=by rw[b];exact grownCap_le_maxLen w n 0 215 (by unfold maxLen;omega)
 have p:a.size=G*2:=by
  rw[c];simp[Builtin.zeroCells,Value.cells];omega
 have u:G<=9223372036854775807:=by unfold maxLen at d;omega
 have o:p7 (p9 (w.alloc (j3 a 215)) w.heap.size 215 2 (U (V ⟨w.heap.size,0,Y⟩) 0 G) 0 []/\Ac [] w (w.alloc (j3 a 215))):=
  ⟨⟨rfl,oj ⟨w.heap.size,G,a,rfl,lC _,lP w _,lz _,d,p,by simp⟩⟩,(pO [] w).alloc _⟩
 have x:(0:Int)<(n:Int):=by omega
 have z:¬((n:Int)<0):=by omega
 clear l c b p d;go_enter func228,ntmps228;go_wp2_with (at_builtin;refine Lib.wpList_append_run _ rfl _ _ _ _ rfl _ _ rfl rfl _ _ (k _) ?_)
 go_ret;exact⟨_,G,rfl,o.1,o.2.drew⟩
set_option maxRecDepth 100000
theorem Wo(R:Nat)(E:Option Addr)(z:Nat)(v:Option Addr)(C:Nat)(a b:pM AW)(I b2:Nat)(w:py)(r:AF w R [U E (Z a) z,U v (Z b) C] 185)(S:p9 w I 215 2 (U E (Z a) z) (Z a) (a.flatMap Ar))(M:p9 w b2 215 2 (U v (Z b) C) (Z b) (b.flatMap Ar))(W:0<Z a)(B0:Z a+Z b<=2000000):
  Calls prog 213 #[U (V ⟨R,0,Y⟩) 2 2] w λe L=>∃d h,e=oa (U d (Z (a++b)) h)/\p9 L w.heap.size 215 2 (U d (Z (a++b)) h) (Z (a++b)) ((a++b).flatMap Ar)/\Ac [] w L:=by
 obtain⟨i0,BA,N,T,AO⟩:=mg Tryz.zg;have HV:=Ab r;have H1:=Ab S;have H2:=Ab M;have s:=r.cell 0;have q:=r.cell 1;simp at s q;have A2:=Ab (cQ (Z a+Z b) w (by omega) B0);have BT:p7 (Z (a++b)=Z a+Z b):=by show _=_;simp
 generalize hAB:a++b=ab at BT⊢;have CC:=Ab hAB;have EM:=Ab W;clear r S M hAB W;have CL:¬((Z a:Int)<0):=by omega
 have EX:¬((Z a:Int)+(Z b:Int)<0):=by omega
 go_enter func213,ntmps213;go_wp2
 go_loopg [3,11] 2 (λgk o i wr=>∃k:Nat,i=X J k/\((k=0/\o=X J 0)\/(k=1/\o=X J (Z a))\/(k=2/\o=X J ((Z a:Int)+(Z b:Int))))/\gk=2-k/\w=wr)
 case atStart=>exact⟨0,rfl,oi ⟨rfl,rfl⟩,rfl,rfl⟩
 case round=>
  obtain⟨k,rfl,l,B,rfl⟩:=hrel;rcases l with⟨rfl,rfl⟩|⟨rfl,rfl⟩|⟨rfl,rfl⟩
  .go_wp2
   go_roundg 1
   case measure=>omega
   case rel=>exact⟨1,by go_num,oj (oi ⟨rfl,by go_num⟩),rfl,rfl⟩
  .go_wp2
   go_roundg 0
   case measure=>omega
   case rel=>exact⟨2,by go_num,oj (oj ⟨rfl,by go_num⟩),rfl,rfl⟩
  ·(go_wp2_with fail);refine A2.mono ?_;rintro e w2 ⟨g,G,rfl,A1,k2⟩;have P:=Ab A1;have Ax:=Ab k2;clear A2 A1 k2 s q;go_wp2
   go_loopg [6,27] 2 (λgk o i wr=>∃(k:Nat) (c:pM AW) (d:Option Addr) (h:Nat),o=U d (Z c) h/\i=X J k/\((k=0/\p7 (c=[]))\/(k=1/\p7 (c=a))\/(k=2/\p7 (c=ab)))/\gk=2-k/\Z c<=Z a+Z b/\(p9 wr w.heap.size 215 2 (U d (Z c) h) (Z c) (c.flatMap Ar))/\p7 (Ac [] w wr))
   case atStart=>exact⟨0,[],_,_,rfl,rfl,oi ⟨rfl,rfl⟩,rfl,by simp,P,Ax⟩
   case round=>
    clear P Ax;obtain⟨k,c,d,h,rfl,rfl,l,B,EK,p,j⟩:=hrel;have Q:=Ab B;clear B;have DT:=j.size;rcases l with⟨rfl,m⟩|⟨rfl,m⟩|⟨rfl,m⟩
    .have s:=(HV.kept j).cell 0;simp at s;have H:=Ad H1 j;(have hz:Z c=0:=by rw[Aa m];rfl);(have y:p7 (∀f,wr.grownBy f (U d (Z c) h).ownBlock->Ac [] w f):=λf x=>j.grown x (λk l=>oj ((p.lt k l).1)));(have F:p7 (c++a=a):=by show _=_;rw[Aa m];rfl);have n:=Ab hz;clear hz;go_wp2_with (at_builtin;refine IE _ rfl (.tmp 31) (.tmp 32) _ rfl w.heap.size 215 i0 _ 2 24 underlying185 BA N T AO rfl (by omega) d (Z c) h (c.flatMap Ar) rfl p I E (Z a) z (a.flatMap Ar) rfl H (Lu _) (by have:=Aa n;unfold maxLen;omega) (by have:=Aa n;omega) (by omega) ?_;intro A u f t D BS)
     go_roundg 1
     case measure=>have:=Aa Q;omega
     case rel=>exact⟨1,c++a,A,u,by simp,by go_num,oj (oi ⟨rfl,F⟩),rfl,by simp;have:=Aa n;omega,by simpa using t,y f D⟩
    .have q:=(HV.kept j).cell 1;simp at q;have H:=Ad H2 j;(have n:p7 (Z c=Z a):=by show _=_;rw[Aa m]);(have y:p7 (∀f,wr.grownBy f (U d (Z c) h).ownBlock->Ac [] w f):=λf x=>j.grown x (λk l=>oj ((p.lt k l).1)));(have F:p7 (c++b=ab):=by show _=_;rw[Aa m];exact CC);go_wp2_with (at_builtin;refine IE _ rfl (.tmp 31) (.tmp 32) _ rfl w.heap.size 215 i0 _ 2 24 underlying185 BA N T AO rfl (by omega) d (Z c) h (c.flatMap Ar) rfl p b2 v (Z b) C (b.flatMap Ar) rfl H (Lu _) (by have:=Aa n;unfold maxLen;omega) (by have:=Aa n;omega) (by omega) ?_;intro A u f t D BS)
     go_roundg 0
     case measure=>have:=Aa Q;omega
     case rel=>exact⟨2,c++b,A,u,by simp,by go_num,oj (oj ⟨rfl,F⟩),rfl,by simp;have:=Aa n;omega,by simpa using t,y f D⟩
    .go_wp2;go_ret;rw[<-Aa m];exact⟨d,h,rfl,p,j⟩
theorem Qy(B:Option Addr)(N:Nat)(a:pM Lz)(w:py)(h:B8 w 0 (U B (Z a) N) a)(FW:Z a<=1000)(f:∀p∈a,0<Z (AR p.1)/\Z (AR p.1)<=1000):
  Calls prog 139 #[U B (Z a) N] w λe y=>∃c d,e=oa (U c (Z (A5 a)) d)/\p9 y w.heap.size 215 2 (U c (Z (A5 a)) d) (Z (A5 a)) ((A5 a).flatMap Ar)/\Ac [] w y:=by
 obtain⟨i0,FC,T,A1,BT⟩:=mg Tryz.zg;have HB:=Ab h;have FB:=Ab f;clear h f;go_enter func139,ntmps139;go_wp2
 go_loopg [3,8] (Z a) (λgk o i wr=>∃(k:Nat) (b:pM AW) (c:Option Addr) (d:Nat),o=U c (Z b) d/\i=X J k/\k<=Z a/\Z b<=k*1000/\gk=Z a-k/\p7 (b=A5 (a.take k))/\p9 wr w.heap.size 215 2 (U c (Z b) d) (Z b) (b.flatMap Ar)/\p7 (Ac [] w wr))
 case atStart=>exact⟨0,[],Y,0,rfl,rfl,by omega,by simp,rfl,by show _=_;simp[A5],lH _ _ _ _,pO _ _⟩
 case round=>
  obtain⟨k,b,c,d,rfl,rfl,E,Go,F,u,s,j⟩:=hrel;have HG:=Ab F;clear F;by_cases t:k<Z a
  .have P:=HB.kept j;have HC:=j.size;obtain⟨g,FT,l,q,r,C,L,I,d0,d1,R,S,d4,d5,d6,d7,d8⟩:=Jp P k t;simp only[kS]at C;obtain⟨rfl,_,rfl⟩:=C;have x:=Ab (Qh t);have f:=Aa FB a[k] (kV t);rw[L]at x f;simp only at f;have v:=Ab (MZ l q r (wr.alloc (j3 (ml (Ay (l,U q (Z l.ts) r))) 217)) (Ad I ((pO [] wr).alloc _)));clear P I L;simp only[Ay]at v;have z:=Ab (j.alloc (j3 (ml (Ay (l,U q (Z l.ts) r))) 217));have D:=Ab (lg s (j3 (ml (Ay (l,U q (Z l.ts) r))) 217));(go_wp2_with fail);refine v.mono ?_;rintro e A ⟨FL,ES,rfl,Q,n⟩;have CL:=Ab (z.trans n);have M:=Ad D n;have G:=n.size;(have FO:wr.heap.size+1<=A.heap.size:=by simpa using G);obtain⟨g3,rfl,EK,H,_,_⟩:=ax Q f.1;have B2:=Ab H;(have EY:p7 (b++AR l=A5 (a.take (k+1))):=by show _=_;rw[Aa x,Aa u]);(have HF:p7 (∀m,A.grownBy m (U c (Z b) d).ownBlock->Ac [] w m):=λm W=>CL.grown W (λk E=>oj ((M.lt k E).1)));clear n z D v d0 d1 R S d4 d5 d6 d7 d8 s j G Q H x u;(have E0:Z (b++AR l)<=(k+1)*1000:=by simp;omega);(have FP:k<=1000:=by omega);go_wp2_with (at_builtin;refine lG _ rfl (.tmp 12) (.tmp 14) _ rfl w.heap.size 215 i0 _ 2 24 underlying185 FC T A1 BT rfl (by omega) (U c (Z b) d) (Z b) (b.flatMap Ar) rfl M ⟨g3,0,Y⟩ (Z (AR l)) ES ((AR l).flatMap Ar) rfl EK B2 (Lu _) (by omega) (by unfold maxLen;omega) (by omega) (by omega) _ rfl ?_;intro g1 AO m B9 BA FF Ha)
   go_roundg (Z a-(k+1))
   case measure=>have:=Aa HG;omega
   case rel=>exact⟨k+1,b++AR l,V ⟨g1,0,Y⟩,AO,by simp,by go_num,by omega,E0,rfl,EY,by simpa using B9,HF m BA⟩
  .have HE:p7 (b=A5 a):=by
    have h:=Aa u;rw[kX (by omega)]at h;exact h
   go_wp2;go_ret;rw[<-HE.out];exact⟨c,d,rfl,s,j⟩
def I4{a:pM Lz}(h:∀p∈a,Z (AR p.1)<=1000):Z (A5 a)<=Z a*1000:=by
 unfold A5
 induction a with
 |nil=>simp
 |cons p l ih=>
  have c:=h p (by simp);have d:=ih (λq b=>h q (by simp[b]));simp only[lF,lu,lj];omega
theorem Rc(c:Dy)(w:py)(h:Ki w 0 c.hv c.bv c.zV c.zH)(G:Qk c):
  Calls prog 184 #[pC (ml (Bo c))] w λe k=>∃f j,e=oa (U f (Z (BE c)) j)/\p9 k w.heap.size 215 2 (U f (Z (BE c)) j) (Z (BE c)) ((BE c).flatMap Ar)/\Ac [] w k:=by
 have z:p7 (∀p∈c.zH,0<Z (AR p.1)/\Z (AR p.1)<=1000):=λp g=>G.zQ g
 obtain⟨g,q,b,hv,bv,a⟩:=c;obtain⟨⟨I,AT⟩,C,Ax⟩:=G;simp only at h I AT C z;clear Ax;obtain⟨i,d,rfl⟩:=Ak h.head;obtain⟨l,o,rfl⟩:=Ak h.body.row;have M:=I4 (λp g=>(z p g).2);have BA:Z (A5 a)<=1000000:=by omega
 have B:p7 (∀wr,Ac [] w wr->Calls prog 139 #[U l (Z a) o] wr λe k=>∃f j,e=oa (U f (Z (A5 a)) j)/\p9 k wr.heap.size 215 2 (U f (Z (A5 a)) j) (Z (A5 a)) ((A5 a).flatMap Ar)/\Ac [] wr k):=λwr r=>Qy l o a wr (h.body.kept r) C z
 have HH:=Ab h.head;have u:p7 (BE ⟨g,q,b,U i (Z b) d,U l (Z a) o,a⟩=b++A5 a):=rfl;generalize BE ⟨g,q,b,U i (Z b) d,U l (Z a) o,a⟩=TV at u⊢;generalize A5 a=BT at B BA u;have F:p7 (∀(wr:py) (m:Option Addr) (n A:Nat),Ac [] w wr->p9 wr A 215 2 (U m (Z BT) n) (Z BT) (BT.flatMap Ar)->Calls prog 213 #[U (V ⟨wr.heap.size,0,Y⟩) 2 2] (wr.alloc (j3 #[U i (Z b) d,U m (Z BT) n] 185)) λe k=>∃f j,e=oa (U f (Z TV) j)/\p9 k w.heap.size 215 2 (U f (Z TV) j) (Z TV) (TV.flatMap Ar)/\Ac [] w k):=by
  intro wr m n A r hr;have t:=(pO [] wr).alloc (j3 #[U i (Z b) d,U m (Z BT) n] 185);refine(Wo wr.heap.size i d m n b BT 0 A _ (pP wr [U i (Z b) d,U m (Z BT) n] 185) (Ad HH (r.trans t)) (Ad hr t) I (by omega)).mono ?_;rintro e k ⟨f,j,rfl,W,k2⟩;rw[Aa u];exact⟨f,j,rfl,Am W (by have:=(r.trans t).size;exact this),(r.trans t).trans k2⟩
 clear h M;simp only[Bo];have s:=Ab (pP w [X J g,O q,U i (Z b) d,U l (Z a) o] 189);have y:=Ab ((pO [] w).alloc (j3 [X J g,O q,U i (Z b) d,U l (Z a) o].toArray 189));go_enter func184,ntmps184;go_wp2_with fail
 change Code.wp _ _ _ _ (w.alloc (j3 [X J g,O q,U i (Z b) d,U l (Z a) o].toArray 189));generalize w.alloc (j3 [X J g,O q,U i (Z b) d,U l (Z a) o].toArray 189)=w1 at s y⊢;obtain⟨N,v⟩:=pN w.heap.size;rw[v]at s F⊢;have T:=s.cell 2;have c3:=s.cell 3;simp at T c3;have A2:=Ab v;clear v
 go_region_law
  (first
   |(go_simp;go_at_call 139;refine(B _ y.drew).mono ?_;rintro e wt ⟨m,n,rfl,L,x⟩;have R:=(s.drew.kept x).cell 2;simp at R;have A1:=Ab (y.drew.trans x);have Q:=Ab L;clear L x)
   |(go_simp;go_at_call 213;refine(F wt m n _ A1 Q).mono ?_;rintro e w9 ⟨S,P,rfl,H,E⟩;have D:=Ab (And.intro H E);clear H E))
 all_goals
  go_wp2;go_ret;rw[Aa A2];exact⟨S,P,rfl,D.1,D.2⟩
def Gw(zH:pM Lz):pM zA:=(zH.filter λp=>Bi p.1).map λp=>p.1.an
def Ck(c:Dy):pM zA:=c.hn::Gw c.zH
def cT(c:Dy):(Bz c).map Hl.name=Ck c:=by
 simp[Bz,Ck,AS,Gw]
def II{c:Dy}(h:Ki w 0 c.hv c.bv c.zV c.zH):∀a∈Bz c,∃f n d,a.tv=U f n d:=by
 intro a b;rcases kZ.1 b with rfl|b
 .obtain⟨f,d,e⟩:=Ak h.head;exact⟨_,_,_,e⟩
 .unfold AS at b;obtain⟨p,g,rfl⟩:=lk.1 b;obtain⟨f,d,e⟩:=Ak (h.body.each p (lK.1 g).1).1;exact⟨_,_,_,e⟩
def J1{l:pM Hl}(h:p9 w n 187 3 z (Z l) (l.flatMap AP))(k:Nat)(a:k<Z l):
  ∃g b,z=U (V ⟨g,0,Y⟩) (Z l) b/\p8 w ⟨g,k*3,Y⟩=V (X J l[k].place)/\p8 w ⟨g,k*3+1,Y⟩=V (O l[k].name)/\p8 w ⟨g,k*3+2,Y⟩=V l[k].tv:=by
 obtain⟨g,b,j,_,d⟩:=AC h (λc _=>UG c) k a;have f:=d k a 0 (by omega);have i:=d k a 1 (by omega);have e:=d k a 2 (by omega);simp[AP]at f i e;exact⟨g,b,j,f,i,e⟩
structure Ox(base:Nat)(lv:p5)(l:pM zA)(xs:pM zA)(w:py)(l':pM zA)(ad':Option Addr)(cp':Nat)(w':py):Prop where
 zM:C9 FQ l'
 mem:∀y,y∈l'↔y∈xs\/y∈l
 ge:Z l<=Z l'
 le:Z l'<=Z l+Z xs
 own:p9 w' base 9 1 (U ad' (Z l') cp') (Z l') (l'.flatMap Ah)
 kept:Ac lv.ownBlock.toList w w'
 new:∀k,(U ad' (Z l') cp').ownBlock=V k->lv.ownBlock=V k\/w.heap.size<=k
theorem Nl(c:Dy)(a:Option Addr)(b:Nat)(l:pM zA)(n:Nat)(w:py)(h:Ki w 0 c.hv c.bv c.zV c.zH)(EM:Z c.zH<=1000)
  (hl:p9 w n 9 1 (U a (Z l) b) (Z l) (l.flatMap Ah)) (HK:Z l<=900000) (hr:C9 FQ l) (HD:n<=w.heap.size):
  Calls prog 164 #[U a (Z l) b,pC (ml (Bo c))] w λe w'=>∃S B9 AT,e=oa (U B9 (Z S) AT)/\Ox n (U a (Z l) b) l (Ck c) w S B9 AT w':=by
 have u:=Ab (LT c (w.alloc (j3 (ml (Bo c)) 189)) (h.kept ((pO [] w).alloc _)) EM);have Ax:=Ab (II h);have E:=Ab (cT c);have EK:p7 (Z (Bz c)<=1001):=by
  show _<=_;have:=Ej c.zH;simp[Bz];omega
 obtain⟨hp,hn,x,hv,bv,t⟩:=c;simp only at h;obtain⟨CC,Q,rfl⟩:=Ak h.head;obtain⟨AH,AB,rfl⟩:=Ak h.body.row;generalize Bz ⟨hp,hn,x,U CC (Z x) Q,U AH (Z t) AB,t⟩=aT at u Ax E EK;generalize Ck ⟨hp,hn,x,U CC (Z x) Q,U AH (Z t) AB,t⟩=ns at E⊢;have HL:=Ab hl;have FT:=Ab hr;clear h hl hr;simp only[Bo]at u⊢;go_enter func164,ntmps164;go_wp2_with fail
 refine u.mono ?_;rintro e s ⟨FO,R,rfl,BA,z⟩;have I:p7 (Ac [] w s):=((pO [] w).alloc _).trans z;have HB:w.heap.size+1<=s.heap.size:=by have:=z.size;simpa using this
 have W:=Ab (Am BA (show w.heap.size<=_ by simp));clear u BA z;go_wp2
 go_loopg [0,10] (Z aT) (λgk o i wr=>∃(k:Nat) (m:pM zA) (d:Option Addr) (f:Nat),o=U d (Z m) f/\i=X J k/\k<=Z aT/\gk=Z aT-k/\Z m<=Z l+k/\p7 (Ox n (U a (Z l) b) l ((aT.take k).map Hl.name) w m d f wr)/\p7 (p9 wr w.heap.size 187 3 (U FO (Z aT) R) (Z aT) (aT.flatMap AP))/\p7 (∀q,(U d (Z m) f).ownBlock=V q->(U a (Z l) b).ownBlock=V q\/s.heap.size<=q)/\s.heap.size<=wr.heap.size)
 case atStart=>exact⟨0,l,a,b,rfl,rfl,by omega,rfl,by omega,⟨FT,λy=>by simp,by omega,by omega,Ad HL I,I.mono (by simp),λk T=>oi T⟩,W,λq p=>oi p,by omega⟩
 case round=>
  clear I;obtain⟨k,m,d,f,rfl,rfl,T,B0,HF,r,H,L,Ha⟩:=hrel;have HG:=Ab B0;clear B0;have HC:=Aa EK;by_cases A:k<Z aT
  .obtain⟨g,HA,he,d0,d1,P⟩:=J1 H k A;simp only[kS]at he;obtain⟨rfl,_,rfl⟩:=he;obtain⟨Go,nt,FA,BS⟩:=Ax aT[k] (kV A);rw[BS]at P;clear BS;have Bx:=Ab (eD d f m aT[k].name n (wr.alloc (j3 [X J aT[k].place,O aT[k].name,U Go nt FA].toArray 187)) (lg r.own _) (by omega) r.zM (by simp;omega));(go_wp2_with fail);refine Bx.mono ?_;rintro e v ⟨N,F,D,rfl,q1,q2,q3,q4,q5,C,B⟩;have M:Ac (U d (Z m) f).ownBlock.toList wr v:=((pO _ wr).alloc _).trans C;(have HI:wr.heap.size+1<=v.heap.size:=by have:=C.size;simpa using this);have EX:p7 (Ox n (U a (Z l) b) l ((aT.take (k+1)).map Hl.name) w N F D v):=by
    have j:=Aa r;refine⟨q1,λy=>?_,by have:=j.ge;omega,?_,q5,j.kept.trans' M (λi G=>?_),λq p=>?_⟩
    .rw[q2,j.mem,kW A];simp only[lV,lE,m8,lw,kY];constructor
     .rintro (h|h|h)
      .exact oi (oj h)
      .exact oi (oi h)
      .exact oj h
     .rintro ((h|h)|h)
      .exact oj (oi h)
      .exact oi h
      .exact oj (oj h)
    .have:=j.le;simp only[lm,l9]at this⊢;omega
    .rcases j.new i (by simpa using G)with h|h
     .exact oi (by simp[h])
     .exact oj h
    .rcases B q p with h|h
     .exact j.new q h
     .exact oj (by have:=j.kept.size;simp at h;omega)
   have FF:p7 (p9 v w.heap.size 187 3 (U (V ⟨g,0,Y⟩) (Z aT) R) (Z aT) (aT.flatMap AP)):=by
    refine Ai H M (λi G hm=>?_);have h1:=(W.lt i G);rcases L i (by simpa using hm)with h|h
    .have:=(HL.lt i h).2;omega
    .omega
   have E0:p7 (∀q,(U F (Z N) D).ownBlock=V q->(U a (Z l) b).ownBlock=V q\/s.heap.size<=q):=by
    intro q p;rcases B q p with h|h
    .exact L q h
    .exact oj (by simp at h;omega)
   clear Bx q1 q2 q3 q5 C B M r H L d0 d1 P;go_wp2
   go_roundg (Z aT-(k+1))
   case measure=>have:=Aa HG;omega
   case rel=>exact⟨k+1,N,F,D,rfl,by go_num,by omega,rfl,by omega,EX,FF,E0,by omega⟩
  .have HE:p7 (Ox n (U a (Z l) b) l ns w m d f wr):=by
    have h:=Aa r;rw[kX (by omega),Aa E]at h;exact h
   go_wp2;go_ret;exact⟨m,d,f,rfl,HE⟩
def Fp{l:pM AW}(h:p9 w n 215 2 z (Z l) (l.flatMap Ar))(k:Nat)(a:k<Z l):
  ∃g b,z=U (V ⟨g,0,Y⟩) (Z l) b/\p8 w ⟨g,k*2,Y⟩=V (X pD l[k].v)/\p8 w ⟨g,k*2+1,Y⟩=V (O l[k].s):=by
 obtain⟨g,b,i,_,f⟩:=AC h (λc _=>UZ c) k a;have d:=f k a 0 (by omega);have e:=f k a 1 (by omega);simp[Ar]at d e;exact⟨g,b,i,d,e⟩
structure G7(ts:pM AW)(l:pM Int):Prop where
 zM:C9 Pn l
 mem:∀y,y∈l↔y≠0/\∃t∈ts,t.v=y
 le:Z l<=Z ts
def G7.nil:G7 [] []:=⟨λi j a=>by simp at a,λy=>by simp,by simp⟩
theorem L3(E:Option Addr)(M:Nat)(a:pM AW)(S:Nat)(w:py)(h:p9 w S 215 2 (U E (Z a) M) (Z a) (a.flatMap Ar))(B2:Z a<=900000):
  Calls prog 174 #[U E (Z a) M] w λe z=>∃l F G,e=oa (U F (Z l) G)/\G7 a l/\p9 z w.heap.size 21 1 (U F (Z l) G) (Z l) (l.flatMap AU)/\Ac [] w z:=by
 have HT:=Ab h;clear h;go_enter func174,ntmps174;go_wp2
 go_loopg [3,8] (Z a) (λgk o i wr=>∃(k:Nat) (l:pM Int) (f:Option Addr) (m:Nat),o=U f (Z l) m/\i=X J k/\k<=Z a/\gk=Z a-k/\p7 (G7 (a.take k) l)/\p9 wr w.heap.size 21 1 (U f (Z l) m) (Z l) (l.flatMap AU)/\p7 (Ac [] w wr))
 case atStart=>exact⟨0,[],Y,0,rfl,rfl,by omega,rfl,by show G7 _ _;simpa using G7.nil,lH _ _ _ _,pO _ _⟩
 case round=>
  obtain⟨k,l,f,m,rfl,rfl,hk,D,n,r,p⟩:=hrel;have A:=Ab D;clear D;have Q:=n.le;simp only[l9]at Q;have CL:=p.size;by_cases u:k<Z a
  .obtain⟨g,CC,L,d0,d1⟩:=Fp (Ad HT p) k u;simp only[kS]at L;obtain⟨rfl,_,rfl⟩:=L;have x:=Ab (p.alloc (j3 [X pD a[k].v,O a[k].s].toArray 215));have q:=lg r (j3 [X pD a[k].v,O a[k].s].toArray 215);cases hv:(a[k].v==0)with
   |true=>
    (have W:(a[k].v !=0)=K:=by simp[bne,hv]);have AH:p7 (G7 (a.take (k+1)) l):=by
     have j:=Aa n;refine⟨j.zM,λy=>?_,by have:=j.le;simp only[l9]at this⊢;omega⟩;rw[j.mem,kW u];(have hz:a[k].v=0:=by simpa using hv);constructor
     .rintro ⟨c,t,b,d⟩;exact⟨c,t,nY _ b,d⟩
     .rintro ⟨c,t,b,d⟩;rcases lw.1 b with b|b
      .exact⟨c,t,b,d⟩
      .simp only[kY]at b;subst b;exact absurd (d.symm.trans hz) c
    clear hv;go_wp2
    go_roundg (Z a-(k+1))
    case measure=>have:=Aa A;omega
    case rel=>exact⟨k+1,l,f,m,rfl,by go_num,by omega,rfl,AH,q,x⟩
   |false=>
    (have W:(a[k].v !=0)=jj:=by simp[bne,hv]);(have N:a[k].v≠0:=by simpa using hv);have I:=Ab (dF f m l a[k].v w.heap.size (wr.alloc (j3 [X pD a[k].v,O a[k].s].toArray 215)) q (by omega) n.zM (by simp;omega));have Bx:=Ab N;clear hv N;(go_wp2_with fail);refine I.mono ?_;rintro e P ⟨H,T,AB,rfl,C,q2,q3,q4,q5,B,R⟩;have Ax:p7 (Ac [] w P):=x.trans' B (λi hi=>oj ((q.lt i (by simpa using hi)).1));have A1:p7 (G7 (a.take (k+1)) H):=by
     have j:=Aa n;refine⟨C,λy=>?_,by have:=j.le;simp only[l9]at this⊢;omega⟩;rw[q2,j.mem,kW u];constructor
     .rintro (c|⟨c,t,b,d⟩)
      .exact⟨by rw[c];exact Bx,a[k],List.mem_append_right _ (kY.2 rfl),c.symm⟩
      .exact⟨c,t,nY _ b,d⟩
     .rintro ⟨c,t,b,d⟩;rcases lw.1 b with b|b
      .exact oj ⟨c,t,b,d⟩
      .simp only[kY]at b;subst b;exact oi d.symm
    clear I C q2 q3 q4 B R r q x p n;go_wp2
    go_roundg (Z a-(k+1))
    case measure=>have:=Aa A;omega
    case rel=>exact⟨k+1,H,T,AB,rfl,by go_num,by omega,rfl,A1,q5,Ax⟩
  .have HE:p7 (G7 a l):=by
    have h:=Aa n;rw[kX (by omega)]at h;exact h
   go_wp2;go_ret;exact⟨l,f,m,rfl,HE,r,p⟩
theorem Wz(G:Option Addr)(P:Nat)(l:pM Int)(u:Option Addr)(v:Nat)(o:pM Int)(R C:Nat)(w:py)(h:p9 w R 21 1 (U G (Z l) P) (Z l) (l.flatMap AU))(z:p9 w C 21 1 (U u (Z o) v) (Z o) (o.flatMap AU))(hl:Z l<=900000)(ho:Z o<=900000)(L:C9 Pn o):
  Calls prog 173 #[U G (Z l) P,U u (Z o) v] w λe x=>∃H I,e=oa (U H (Z (l.filter λy=> !KQ o y)) I)/\p9 x w.heap.size 21 1 (U H (Z (l.filter λy=> !KQ o y)) I) (Z (l.filter λy=> !KQ o y)) ((l.filter λy=> !KQ o y).flatMap AU)/\Ac [] w x:=by
 obtain⟨i0,B9,Q,Ax,A0⟩:=mg Tryz.zw;have HT:=Ab h;have B0:=Ab z;have BT:=Ab L;obtain⟨F,hF⟩:=pN (l.filter λy=> !KQ o y);rw[hF];have T:=Ab hF;clear h z hF L;go_enter func173,ntmps173;go_wp2
 go_loopg [5,10] (Z l) (λgk o' i wr=>∃(k:Nat) (m:pM Int) (a:Option Addr) (b:Nat),o'=U a (Z m) b/\i=X J k/\k<=Z l/\Z m<=k/\gk=Z l-k/\p7 (m=(l.take k).filter λy=> !KQ o y)/\p9 wr w.heap.size 21 1 (U a (Z m) b) (Z m) (m.flatMap AU)/\p7 (Ac [] w wr))
 case atStart=>exact⟨0,[],Y,0,rfl,rfl,by omega,by simp,rfl,by show _=_;simp,lH _ _ _ _,pO _ _⟩
 case round=>
  obtain⟨k,m,a,b,rfl,rfl,A,ES,D,q,n,d⟩:=hrel;have B:=Ab D;clear D;have EY:=d.size;by_cases r:k<Z l
  .obtain⟨g,EM,N,_,E⟩:=AC (Ad HT d) (by simp[AU]) k r;simp only[kS]at N;obtain⟨rfl,_,rfl⟩:=N;have d0:=E k r 0 (by omega);simp[AU]at d0;clear E;have M:=Ab (cI u v o l[k] C wr (Ad B0 d) (by omega) BT);have p:p7 ((l.take (k+1)).filter (λy=> !KQ o y)=m++if KQ o l[k] then[] else[l[k]]):=by
    show _=_;rw[kW r,nF,<-Aa q];by_cases c:KQ o l[k]=jj<;>simp[c]
   (go_wp2_with fail);refine M.mono ?_;rintro e j ⟨rfl,rfl⟩;clear M;cases c:KQ o l[k] with
   |true=>
    (have s:p7 (m=(l.take (k+1)).filter λy=> !KQ o y):=by show _=_;rw[Aa p,c];simp);clear c p q;go_wp2
    go_roundg (Z l-(k+1))
    case measure=>have:=Aa B;omega
    case rel=>exact⟨k+1,m,a,b,rfl,by go_num,by omega,by omega,rfl,s,n,d⟩
   |false=>
    (have s:p7 (m++[l[k]]=(l.take (k+1)).filter λy=> !KQ o y):=by show _=_;rw[Aa p,c];simp);clear c p q;have AO:=lP j (j3 [X pD l[k]].toArray 21);have BS:=lg n (j3 [X pD l[k]].toArray 21);(have AB:p7 (∀f,(j.alloc (j3 [X pD l[k]].toArray 21)).grownBy f (U a (Z m) b).ownBlock->Ac [] w f):=λf S=>(d.alloc _).grown S (λk A=>oj ((n.lt k A).1)));go_wp2_with (at_builtin;refine lG _ rfl (.tmp 18) (.tmp 20) _ rfl w.heap.size 21 i0 _ 1 4 underlying234 B9 Q Ax A0 rfl (by omega) (U a (Z m) b) (Z m) (m.flatMap AU) rfl BS ⟨j.heap.size,0,Y⟩ 1 1 [X pD l[k]] rfl rfl (lI (cs:=[X pD l[k]].toArray) (t:=21) (fr:=(0,0)) AO) (by simp[Value.oneCell']) (by omega) (by unfold maxLen;omega) (by omega) (by simp;omega) (j.heap.size+1) (by simp) ?_;intro g1 W f Bx AH CL EX)
    go_roundg (Z l-(k+1))
    case measure=>have:=Aa B;omega
    case rel=>exact⟨k+1,m++[l[k]],V ⟨g1,0,Y⟩,W,by simp,by go_num,by omega,by simp;omega,rfl,s,by simpa[AU] using Bx,AB f AH⟩
  .have HE:p7 (m=F):=by
    have h:=Aa q;rw[kX (by omega),Aa T]at h;exact h
   go_wp2;go_ret;rw[<-HE.out];exact⟨a,b,rfl,n,d⟩
def lenOf:p5->Nat
 | U _ n _=>n
 |_=>0
def KG(c:Dy):Bool:=(Bz c).any (λa=>decide (2<lenOf a.tv))||decide (3<Z c.zH)
theorem Qe(c:Dy)(w:py)(h:Ki w 0 c.hv c.bv c.zV c.zH)(L:Z c.zH<=1000):
  Calls prog 118 #[pC (ml (Bo c))] w λe w'=>e=oa (pE (KG c))/\Ac [] w w':=by
 have q:=Ab (LT c (w.alloc (j3 (ml (Bo c)) 189)) (h.kept ((pO [] w).alloc _)) L);have S:=Ab (II h);have A0:Z (Bz c)<=1001:=by
  have:=Ej c.zH;simp[Bz];omega
 have p:p7 (KG c=((Bz c).any (λa=>decide (2<lenOf a.tv))||decide (3<Z c.zH))):=rfl;obtain⟨u,f,j,hv,bv,b⟩:=c;simp only at h L;obtain⟨y,s,rfl⟩:=Ak h.head;obtain⟨r,C,rfl⟩:=Ak h.body.row;generalize KG ⟨u,f,j,U y (Z j) s,U r (Z b) C,b⟩=G at p⊢;generalize Bz ⟨u,f,j,U y (Z j) s,U r (Z b) C,b⟩=aT at q S A0 p;clear h;have D:=Ab (pP w (Bo ⟨u,f,j,U y (Z j) s,U r (Z b) C,b⟩) 189);simp only[Bo]at q D⊢;go_enter func118,ntmps118;go_wp2_with fail
 refine q.mono ?_;rintro e w2 ⟨BA,B0,rfl,F,B⟩;have I:p7 (Ac [] w w2):=((pO [] w).alloc _).trans B;have W:=Ab (D.kept B);have HO:=Ab F;clear q F B D;go_wp2;generalize w.heap.size=N at W⊢
 go_loopg [8] (Z aT) (λgk i wr=>∃(k:Nat),i=X J k/\k<=Z aT/\gk=Z aT-k/\p7 ((aT.take k).any (λa=>decide (2<lenOf a.tv))=K)/\p7 (Ac [] w wr)/\p7 (Ac [] w2 wr))
 case atStart=>exact⟨0,rfl,by omega,rfl,by show _=_;simp,I,pO _ _⟩
 case round=>
  clear I;obtain⟨k,rfl,hk,H,M,A,t⟩:=hrel;have HG:=Ab H;clear H;by_cases n:k<Z aT
  .obtain⟨g,B9,T,d0,d1,d2⟩:=J1 (Ad HO t) k n;simp only[kS]at T;obtain⟨rfl,_,rfl⟩:=T;obtain⟨P,d,Q,o⟩:=S aT[k] (kV n);rw[o]at d2;have x:p7 (2<d->G=jj):=by
    intro f;rw[Aa p,I7 _ _ k n (by simp[o,lenOf,f])];rfl
   have z:p7 (¬2<d->(aT.take (k+1)).any (λa=>decide (2<lenOf a.tv))=K):=by
    intro f;rw[CU _ _ k n (Aa M)];simp[o,lenOf,f]
   clear o;have R:=Ab (A.alloc (j3 [X J aT[k].place,O aT[k].name,U P d Q].toArray 187));have AT:=Ab (t.alloc (j3 [X J aT[k].place,O aT[k].name,U P d Q].toArray 187));by_cases m:2<d
   .have E:=Ab (x m);(have l:(2:Int)<(d:Int):=by omega);clear x z;go_wp2;go_ret;rw[Aa E];exact⟨rfl,R⟩
   .have E:=Ab (z m);(have l:¬(2:Int)<(d:Int):=by omega);clear x z;go_wp2
    go_roundg (Z aT-(k+1))
    case measure=>have:=Aa HG;omega
    case rel=>exact⟨k+1,by go_num,by omega,rfl,E,R,AT⟩
  .have HE:p7 (G=decide (3<Z b)):=by
    have h:=Aa M;rw[kX (by omega)]at h;show _=_;rw[Aa p,h];rfl
   have c3:=(W.kept t).cell 3;simp at c3;by_cases m:3<Z b
   ·(have l:(3:Int)<(Z b:Int):=by omega);(have v:p7 (G=jj):=by show _=_;rw[Aa HE];simp[m]);go_wp2;go_ret;rw[v.out];exact⟨by simp[l],A⟩
   ·(have l:¬(3:Int)<(Z b:Int):=by omega);(have v:p7 (G=K):=by show _=_;rw[Aa HE];simp[m]);go_wp2;go_ret;rw[v.out];exact⟨by simp[l],A⟩
def BM(o:Option Int):p5:=match o with|some p=> .tuple #[X J p,pE jj]|none=> .tuple #[X J 0,pE K]
def UL(c:Dy):Z (Bo c)=4:=rfl
structure DE(w:py)(lv:p5)(cs:pM Dy):Prop where
 row:p9 w 0 189 4 lv (Z cs) (cs.flatMap Bo)
 each:∀c∈cs,Ki w 0 c.hv c.bv c.zV c.zH
def DE.kept{w w':py}{a:p5}{b:pM Dy}(h:DE w a b)(k:Ac [] w w'):DE w' a b:=⟨Ad h.row k,λc d=>(h.each c d).kept k⟩
def F6(h:DE w z p)(k:Nat)(a:k<Z p):
  ∃g t j n b m f e o d,z=U (V ⟨g,0,Y⟩) (Z p) t/\p[k]=⟨j,n,b,U m (Z b) f,U e (Z d) o,d⟩/\
   p8 w ⟨g,k*4,Y⟩=V (X J j)/\p8 w ⟨g,k*4+1,Y⟩=V (O n)/\p8 w ⟨g,k*4+2,Y⟩=V (U m (Z b) f)/\p8 w ⟨g,k*4+3,Y⟩=V (U e (Z d) o):=by
 obtain⟨g,t,x,_,i⟩:=AC h.row (λc _=>UL c) k a;have l:=h.each _ (kV a);have u:=i k a 0 (by omega);have s:=i k a 1 (by omega);have q:=i k a 2 (by omega);have r:=i k a 3 (by omega);obtain⟨⟨j,n,b,y,A,d⟩,v⟩:∃c,p[k]=c:=⟨_,rfl⟩;rw[v]at u s q r l;simp only at l;obtain⟨m,f,rfl⟩:=Ak l.head;obtain⟨e,o,rfl⟩:=Ak l.body.row;simp[Bo]at u s q r;exact⟨g,t,j,n,b,m,f,e,o,d,x,v,u,s,q,r⟩
def Vs(x:zA)(a:Hl):Bool:=a.name.toList==x.toList
def jO(cs:pM Dy)(x:zA):Option Nat:=((cs.flatMap Bz).find? (Vs x)).map λa=>lenOf a.tv
def Sy(cs:pM Dy)(a:Hl):Bool:=decide (2<lenOf a.tv)||(match jO cs a.name with|some n=> !(n==lenOf a.tv)|none=>K)
def jl(cs:pM Dy)(l:pM Hl):Option Int:=(l.find? (Sy cs)).map λa=>a.place
def LF{α:Type}{p:α->Bool}{l:pM α}(h:l.any p=K):l.find? p=Y:=by
 rw[m7];intro y a b;rw[mU]at h;exact h y a b
def dK(a:k<Z p):p.flatMap Bz=(p.take k).flatMap Bz++(Bz p[k]++(p.drop (k+1)).flatMap Bz):=by
 rw[show p.flatMap Bz=(p.take k++p[k]::p.drop (k+1)).flatMap Bz from by rw[List.getElem_cons_drop,mt]]
 rw[lM,lF]
def ir(a:k<Z p){l:pM Hl}(c:Bz p[k]=l)(e:((p.take k).flatMap Bz).any (Vs s)=K)(b:j<Z l)(d:(l.take j).any (Vs s)=K)(f:Vs s l[j]=jj):
  jO p s=V (lenOf l[j].tv):=by
 unfold jO;rw[dK a,pi,LF e,c,pi,FG _ _ j b d f];rfl
def dQ(c:k<Z p){l:pM Hl}(b:Bz p[k]=l)(d:((p.take k).flatMap Bz).any (Vs s)=K)(a:l.any (Vs s)=K):((p.take (k+1)).flatMap Bz).any (Vs s)=K:=by
 rw[kW c,lM,pg,d];simp[b,a]
theorem Wi(x:zA)(B9:Option Addr)(BT:Nat)(b:pM Dy)(w:py)(h:DE w (U B9 (Z b) BT) b)(A1:∀c∈b,Z c.zH<=1000)(Go:Z b<=1000):
  Calls prog 100 #[O x,U B9 (Z b) BT] w λe w'=>e=oa (BM ((jO b x).map fun(n:Nat)=>(n:Int)))/\Ac [] w w':=by
 have HP:=Ab h;have DT:=Ab A1;obtain⟨R,N⟩:=pN (jO b x);rw[N];have BA:=Ab N;clear h A1 N;go_enter func100,ntmps100;go_wp2
 go_loopg [12] (Z b) (λgk i wr=>∃(k:Nat),i=X J k/\k<=Z b/\gk=Z b-k/\p7 (((b.take k).flatMap Bz).any (Vs x)=K)/\p7 (Ac [] w wr))
 case atStart=>exact⟨0,rfl,by omega,rfl,by show _=_;simp,pO _ _⟩
 case round=>
  obtain⟨k,rfl,hk,Ax,H,z⟩:=hrel;have HG:=Ab Ax;clear Ax;by_cases o:k<Z b
  .obtain⟨g,FT,v,A,m,y,u,s,B,d,r,B0,d0,W,D,d3⟩:=F6 (HP.kept z) k o;simp only[kS]at r;obtain⟨rfl,_,rfl⟩:=r;have p:=(HP.kept z).each _ (kV o);have E:=Aa DT _ (kV o);obtain⟨a,f⟩:=pN (Bz b[k]);have HY:=Ab (λj (hj:j<Z a) h2 h3=>ir o f H hj h2 h3);have HS:=Ab (dQ o f H);rw[B0]at p E f;simp only at p E;have C:=Ab (LT ⟨v,A,m,U y (Z m) u,U s (Z d) B,d⟩ (wr.alloc (j3 [X J v,O A,U y (Z m) u,U s (Z d) B].toArray 189)) (p.kept ((pO [] wr).alloc _)) E);have A2:=Ab (II (c:=⟨v,A,m,U y (Z m) u,U s (Z d) B,d⟩) p);have FP:Z a<=1001:=by
    have:=Ej d;rw[<-f];simp[Bz];omega
   rw[f]at C A2;have q:=Ab (z.alloc (j3 [X J v,O A,U y (Z m) u,U s (Z d) B].toArray 189));clear p B0 f;simp only[Bo]at C;(go_wp2_with fail);refine C.mono ?_;rintro e w2 ⟨FL,FW,rfl,S,k2⟩;have AB:=Ab (q.trans k2);have HO:=Ab S;clear C S k2 q d0 W D d3;go_wp2
   go_loopg [19] (Z a) (λgj i T=>∃(j:Nat),i=X J j/\j<=Z a/\gj=Z a-j/\p7 ((a.take j).any (Vs x)=K)/\p7 (Ac [] w T)/\p7 (Ac [] w2 T))
   case atStart=>exact⟨0,rfl,by omega,rfl,by show _=_;simp,AB,pO _ _⟩
   case round=>
    clear AB;obtain⟨j,rfl,hj,A0,L,B2,CL⟩:=hrel;have FC:=Ab A0;clear A0;by_cases t:j<Z a
    .obtain⟨gg,HA,r,d0,W,D⟩:=J1 (Ad HO CL) j t;simp only[kS]at r;obtain⟨rfl,_,rfl⟩:=r;obtain⟨AO,I,AT,F⟩:=A2 a[j] (kV t);rw[F]at D;have M:p7 ((a[j].name.toList==x.toList)=jj->R=V I):=by
      intro l;have:=Aa HY j t L l;rw[F]at this;rw[<-Aa BA];exact this
     have G:p7 ((a[j].name.toList==x.toList)=K->(a.take (j+1)).any (Vs x)=K):=by
      intro l;rw[CU _ _ j t (Aa L)];exact l
     have q:=Ab (B2.alloc (j3 [X J a[j].place,O a[j].name,U AO I AT].toArray 187));have ES:=Ab (CL.alloc (j3 [X J a[j].place,O a[j].name,U AO I AT].toArray 187));clear F;cases l:(a[j].name.toList==x.toList)with
     |true=>
      have Q:=Ab (M l);clear M G;go_wp2;go_ret2;rw[Aa Q];exact⟨rfl,q⟩
     |false=>
      have Q:=Ab (G l);clear M G;go_wp2
      go_roundg (Z a-(j+1))
      case measure=>have:=Aa FC;omega
      case rel=>exact⟨j+1,by go_num,by omega,rfl,Q,q,ES⟩
    .have P:p7 (((b.take (k+1)).flatMap Bz).any (Vs x)=K):=by
      have h:=Aa L;rw[kX (by omega)]at h;exact HS h
     go_wp2
     go_roundg (Z b-(k+1))
     case measure=>have:=Aa HG;omega
     case rel=>exact⟨k+1,by go_num,by omega,rfl,P,B2⟩
  .have P:p7 (R=Y):=by
    have h:=Aa H;rw[kX (by omega)]at h;show _=_;rw[<-Aa BA];unfold jO;rw[LF h];rfl
   go_wp2;go_ret2;rw[P.out];exact⟨rfl,z⟩
theorem Mf(AB:Option Addr)(Ax:Nat)(b:pM Hl)(A1:Nat)(t:Option Addr)(s:Nat)(d:pM Dy)(w:py)(AT:p9 w A1 187 3 (U AB (Z b) Ax) (Z b) (b.flatMap AP))(H:∀a∈b,∃ad n cp,a.tv=U ad n cp)(E0:Z b<=1001)(A2:∀a∈b,lenOf a.tv<=1000)(h:DE w (U t (Z d) s) d)(W:∀c∈d,Z c.zH<=1000)(BS:Z d<=1000):
  Calls prog 91 #[U AB (Z b) Ax,U t (Z d) s] w λe u=>e=oa (BM (jl d b))/\Ac [] w u:=by
 have HO:=Ab AT;have CL:=Ab H;have BA:p7 (∀x wr,Ac [] w wr->Calls prog 100 #[O x,U t (Z d) s] wr λe u=>e=oa (BM ((jO d x).map fun(n:Nat)=>(n:Int)))/\Ac [] wr u):=λx wr L=>Wi x t s d wr (h.kept L) W BS
 obtain⟨R,E⟩:=pN (jl d b);rw[E];have AH:p7 ((b.find? (Sy d)).map (λa=>a.place)=R):=E;clear h W E AT H A2;go_enter func91,ntmps91;go_wp2
 go_loopg [12] (Z b) (λgk i wr=>∃(k:Nat),i=X J k/\k<=Z b/\gk=Z b-k/\p7 ((b.take k).any (Sy d)=K)/\p7 (Ac [] w wr))
 case atStart=>exact⟨0,rfl,by omega,rfl,by show _=_;simp,pO _ _⟩
 case round=>
  obtain⟨k,rfl,L,N,B,D⟩:=hrel;have M:=Ab N;clear N;by_cases r:k<Z b
  .obtain⟨g,EY,he,d0,d1,G⟩:=J1 (Ad HO D) k r;simp only[kS]at he;obtain⟨rfl,_,rfl⟩:=he;obtain⟨Q,f,S,y⟩:=CL b[k] (kV r);rw[y]at G;have m:p7 (Sy d b[k]=jj->R=V b[k].place):=by
    intro C;rw[<-Aa AH,FG _ _ k r (Aa B) C];rfl
   have o:p7 (Sy d b[k]=K->(b.take (k+1)).any (Sy d)=K):=by
    intro C;rw[CU _ _ k r (Aa B)];exact C
   have j:p7 (Sy d b[k]=(decide (2<f)||(match jO d b[k].name with|some n=> !(n==f)|none=>K))):=by
    show _=_;unfold Sy;rw[y];rfl
   clear y;have A:=D.alloc (j3 [X J b[k].place,O b[k].name,U Q f S].toArray 187);have P:=Ab (pP wr [X J b[k].place,O b[k].name,U Q f S] 187);have I:=Ab (BA b[k].name _ A);have T:=Ab A;clear A;(go_wp2_with fail);refine I.mono ?_;rintro e w3 ⟨rfl,z⟩;have F:=P.kept z;have q:=Ab (T.trans z);have c0:=F.cell 0;have c2:=F.cell 2;simp at c0 c2;clear I P T z F d0 d1 G;by_cases v:2<f
   ·(have A0:(2:Int)<(f:Int):=by omega);have l:p7 (R=V b[k].place):=m (by rw[Aa j];simp[v]);clear m o j;cases jO d b[k].name with
    |none=>
     simp only[Option.map_none,BM];go_wp2;go_ret2;rw[Aa l];exact⟨rfl,q⟩
    |some n=>
     simp only[m0,BM];go_wp2;go_ret2;rw[Aa l];exact⟨rfl,q⟩
   ·(have A0:¬(2:Int)<(f:Int):=by omega);cases hv:jO d b[k].name with
    |none=>
     have l:p7 ((b.take (k+1)).any (Sy d)=K):=o (by rw[Aa j,hv];simp[v]);clear m o j hv;simp only[Option.map_none,BM];go_wp2
     go_roundg (Z b-(k+1))
     case measure=>have:=Aa M;omega
     case rel=>exact⟨k+1,by go_num,by omega,rfl,l,q⟩
    |some n=>
     by_cases p:n=f
     .have l:p7 ((b.take (k+1)).any (Sy d)=K):=o (by rw[Aa j,hv];simp[v,p]);(have DT:((f:Int) !=(n:Int))=K:=by rw[p];simp);(have B2:((f:Int)==(n:Int))=jj:=by rw[p];simp);clear m o j hv;simp only[m0,BM];clear p;go_wp2
      go_roundg (Z b-(k+1))
      case measure=>have:=Aa M;omega
      case rel=>exact⟨k+1,by go_num,by omega,rfl,l,q⟩
     .have l:p7 (R=V b[k].place):=m (by rw[Aa j,hv];simp[p]);(have DT:((f:Int) !=(n:Int))=jj:=by simp[bne];omega);(have B2:((f:Int)==(n:Int))=K:=by rw[lQ];omega);clear m o j hv;simp only[m0,BM];go_wp2;go_ret2;rw[Aa l];exact⟨rfl,q⟩
  .have HE:p7 (R=Y):=by
    have h:=Aa B;rw[kX (by omega)]at h;show _=_;rw[<-Aa AH,LF h];rfl
   go_wp2;go_ret2;rw[HE.out];exact⟨rfl,D⟩
def GO(zH:pM Lz):pM AW:=zH.flatMap λp=>if p.1.sort==0 then p.1.ts else[]
def XG{a:pM Lz}(b:k<Z a):GO (a.take (k+1))=GO (a.take k)++(if a[k].1.sort==0 then a[k].1.ts else[]):=by
 unfold GO;rw[kW b,lM];simp
def Uk(a:pM Lz):Z (GO a)<=Z (A5 a):=by
 induction a with
 |nil=>simp[GO]
 |cons p l ih=>
  unfold GO A5 at*;simp only[lF,lu];have:Z (if p.1.sort==0 then p.1.ts else[])<=Z (AR p.1):=by
   by_cases h:(p.1.sort==0)=jj
   .simp[h,AR,Bi]
   .simp[h]
  omega
def PV(zH:pM Lz)(y:Int):Bool:=(GO zH).any λt=>t.v==y
def Dn(zH:pM Lz)(t:AW):Bool:=t.v !=0&& !PV zH t.v
def bg{h:pM AW}{c:pM Lz}{g a:pM Int}(i:G7 h g)(f:G7 (GO c) a):0<Z (g.filter λy=> !KQ a y)↔h.any (Dn c)=jj:=by
 rw[List.length_pos_iff_exists_mem,mH];constructor
 .rintro ⟨y,n⟩;obtain⟨p,k⟩:=lK.1 n;obtain⟨j,t,m,q⟩:=(i.mem y).1 p;refine⟨t,m,?_⟩;unfold Dn PV;rw[q];have e:((GO c).any λt=>t.v==y)=K:=by
   rw[mU];intro u d o;have:y∈a:=(f.mem y).2 ⟨j,u,d,by simpa using o⟩;rw[(RD a y).2 this]at k;cases k
  rw[e];simp[j]
 .rintro ⟨t,r,b⟩;unfold Dn PV at b;simp only[lJ,bne_iff_ne,ne_eq,no,mU]at b;refine⟨t.v,lK.2 ⟨(i.mem _).2 ⟨b.1,t,r,rfl⟩,?_⟩⟩;cases e:KQ a t.v with
  |false=>rfl
  |true=>
   obtain⟨_,u,d,l⟩:=(f.mem _).1 ((RD a _).1 e);exact absurd (by simpa using l) (b.2 u d)
theorem PD(T:Option Addr)(I:Nat)(c:pM AW)(bt:Nat)(BT:Option Addr)(A2:Nat)(a:pM Lz)(w:py)(ht:p9 w bt 215 2 (U T (Z c) I) (Z c) (c.flatMap Ar))(h:B8 w 0 (U BT (Z a) A2) a)(IA:Z a<=1000)(CC:∀p∈a,(p.1.sort==0)=jj->0<Z p.1.ts/\Z p.1.ts<=1000)(HY:Z c<=900000)(B:Z (GO a)<=900000):
  Calls prog 136 #[U T (Z c) I,U BT (Z a) A2] w λe w'=>e=oa (pE (c.any (Dn a)))/\Ac [] w w':=by
 obtain⟨i0,HR,FL,H0,HN⟩:=mg Tryz.zg;have EK:p7 (∀m d,G7 c m->G7 (GO a) d->(0<Z (m.filter λy=> !KQ d y)↔c.any (Dn a)=jj)):=λm d h1 h2=>bg h1 h2
 generalize c.any (Dn a)=LB at EK⊢;have HT:=Ab ht;have HB:=Ab h;have HQ:=Ab CC;have H2:=Ab B;clear ht h CC B;go_enter func136,ntmps136;go_wp2
 go_loopg [5,10] (Z a) (λgk o i wr=>∃(k:Nat) (b:pM AW) (f:Option Addr) (j:Nat),o=U f (Z b) j/\i=X J k/\k<=Z a/\Z b<=k*1000/\gk=Z a-k/\p7 (b=GO (a.take k))/\p9 wr w.heap.size 215 2 (U f (Z b) j) (Z b) (b.flatMap Ar)/\p7 (Ac [] w wr))
 case atStart=>exact⟨0,[],Y,0,rfl,rfl,by omega,by simp,rfl,by show _=_;simp[GO],lH _ _ _ _,pO _ _⟩
 case round=>
  obtain⟨k,b,f,j,rfl,rfl,hk,KA,EM,n,R,x⟩:=hrel;have HG:=Ab EM;clear EM;have KD:=x.size;by_cases E:k<Z a
  .have hB:=HB.kept x;obtain⟨g,K1,l,z,q,B0,AH,ES,d0,d1,d2,d3,d4,d5,d6,d7,d8⟩:=Jp hB k E;simp only[kS]at B0;obtain⟨rfl,_,rfl⟩:=B0;have t:=Ab (XG E);have A:=Ab (HQ a[k] (kV E));rw[AH]at t A;have L:=Ab (Ad ES ((pO [] wr).alloc (j3 (ml (Ay (l,U z (Z l.ts) q))) 217)));clear hB ES AH;have N:=Ab (x.alloc (j3 (ml (Ay (l,U z (Z l.ts) q))) 217));have H:=lg R (j3 (ml (Ay (l,U z (Z l.ts) q))) 217);(have AB:w.heap.size<=(wr.alloc (j3 (ml (Ay (l,U z (Z l.ts) q))) 217)).heap.size:=by simp;omega);simp only[Ay]at L N H AB;cases hs:(l.sort==0)with
   |false=>
    (have M:p7 (b=GO (a.take (k+1))):=by show _=_;rw[Aa t,Aa n];simp[hs]);clear t n A;go_wp2
    go_roundg (Z a-(k+1))
    case measure=>have:=Aa HG;omega
    case rel=>exact⟨k+1,b,f,j,rfl,by go_num,by omega,by omega,rfl,M,H,N⟩
   |true=>
    (have M:p7 (b++l.ts=GO (a.take (k+1))):=by show _=_;rw[Aa t,Aa n];simp[hs]);obtain⟨EY,HJ⟩:=A hs;simp only at EY HJ;obtain⟨gl,rfl,HH,A1,_,_⟩:=ax L EY;have HU:=Ab A1;(have HF:p7 (∀u,(wr.alloc (j3 [X J l.place,X J l.sort,X J l.ap,O l.an,U (V ⟨gl,0,Y⟩) (Z l.ts) q,X pD l.l.v,O l.l.s,X pD l.r.v,O l.r.s].toArray 217)).grownBy u (U f (Z b) j).ownBlock->Ac [] w u):=λu hg=>N.grown hg (λk hk=>oj ((R.lt k hk).1)));clear t n A A1 L;(have FC:Z (b++l.ts)<=(k+1)*1000:=by simp;omega);(have H8:k<=1000:=by omega);go_wp2_with (at_builtin;refine lG _ rfl (.tmp 17) (.tmp 20) _ rfl w.heap.size 215 i0 _ 2 24 underlying185 HR FL H0 HN rfl (by omega) (U f (Z b) j) (Z b) (b.flatMap Ar) rfl H ⟨gl,0,Y⟩ (Z l.ts) q (l.ts.flatMap Ar) rfl HH HU (Lu _) (by omega) (by unfold maxLen;omega) (by omega) AB _ rfl ?_;intro g1 Go u HO HC H6 FB)
    go_roundg (Z a-(k+1))
    case measure=>have:=Aa HG;omega
    case rel=>exact⟨k+1,b++l.ts,V ⟨g1,0,Y⟩,Go,by simp,by go_num,by omega,FC,rfl,M,by simpa using HO,HF u HC⟩
  .have HE:p7 (b=GO a):=by
    have h:=Aa n;rw[kX (by omega)]at h;exact h
   (have B:Z b<=900000:=by rw[Aa HE];exact H2);have W:=Ab (L3 T I c bt wr (Ad HT x) HY);clear n;(go_wp2_with fail);refine W.mono ?_;rintro e w4 ⟨m,HM,Ha,rfl,G,FF,k4⟩;have FA:=Ad R k4;have EX:=Ab (L3 f j b w.heap.size w4 FA B);have E0:=Ab (x.trans k4);have HV:=Ab G;have FB:=G.le;clear W G;(go_wp2_with fail);refine EX.mono ?_;rintro e w5 ⟨d,HX,HP,rfl,C,HI,k5⟩;have FP:=Ad FF k5;have KK:=C.le;have S:=Ab (Wz HM Ha m HX HP d _ _ w5 FP HI (by omega) (by omega) C.zM);have FW:=Ab (E0.trans k5);have Q:=Ab (EK m d HV (by rw[<-Aa HE];exact C));clear EX C;generalize(m.filter λy=> !KQ d y)=F at S Q;(go_wp2_with fail);refine S.mono ?_;rintro e w6 ⟨K4,IS,rfl,K3,k6⟩;have AT:=Ab (FW.trans k6);clear S;by_cases A0:0<Z F
   ·(have P:(0:Int)<(Z F:Int):=by omega);have D:p7 (LB=jj):=Q.1 A0;go_wp2;go_ret;rw[D.out];exact⟨by simp[P],AT⟩
   ·(have P:¬(0:Int)<(Z F:Int):=by omega);have D:p7 (LB=K):=by
     cases hb:LB with
     |false=>rfl
     |true=>exact absurd (Q.2 hb) A0
    go_wp2;go_ret;rw[D.out];exact⟨by simp[P],AT⟩
theorem IF(f:Option Addr)(s:Nat)(a:pM Lz)(w:py)(h:B8 w 0 (U f (Z a) s) a)(B2:Z a<=1000)(T:∀p∈a,(p.1.sort==0)=jj->0<Z p.1.ts/\Z p.1.ts<=1000)(L:∀p∈a,Z (AR p.1)<=1000)(G:Z (GO a)<=900000):
  Calls prog 93 #[U f (Z a) s] w λe u=>e=oa (BM ((a.find? λp=>(AR p.1).any (Dn a)).map λp=>p.1.place))/\Ac [] w u:=by
 have HB:=Ab h;have EK:=Ab L;have AO:p7 (∀(m:Option Addr) (o:Nat) (b:pM AW) (wr:py),Ac [] w wr->p9 wr 0 215 2 (U m (Z b) o) (Z b) (b.flatMap Ar)->Z b<=900000->Calls prog 136 #[U m (Z b) o,U f (Z a) s] wr λe u=>e=oa (pE (b.any (Dn a)))/\Ac [] wr u):=λm o b wr M hr hl=>PD m o b 0 f s a wr hr (h.kept M) B2 T hl G
 obtain⟨R,E⟩:=pN ((a.find? λp=>(AR p.1).any (Dn a)).map λp=>p.1.place);rw[E];have AB:=Ab E;clear h L E T G;go_enter func93,ntmps93;go_wp2
 go_loopg [8] (Z a) (λgk i wr=>∃(k:Nat),i=X J k/\k<=Z a/\gk=Z a-k/\p7 ((a.take k).any (λp=>(AR p.1).any (Dn a))=K)/\p7 (Ac [] w wr))
 case atStart=>exact⟨0,rfl,by omega,rfl,by show _=_;simp,pO _ _⟩
 case round=>
  obtain⟨k,rfl,M,Q,z,B⟩:=hrel;have HG:=Ab Q;clear Q;by_cases d:k<Z a
  .obtain⟨g,FA,q,l,t,I,c,W,d0,d1,d2,d3,d4,d5,d6,d7,d8⟩:=Jp (HB.kept B) k d;simp only[kS]at I;obtain⟨rfl,_,rfl⟩:=I;have C:=Aa EK a[k] (kV d);have n:p7 ((AR q).any (Dn a)=jj->R=V q.place):=by
    intro A;rw[<-Aa AB,FG _ _ k d (Aa z) (by rw[c];exact A),c];rfl
   have r:p7 ((AR q).any (Dn a)=K->(a.take (k+1)).any (λp=>(AR p.1).any (Dn a))=K):=by
    intro A;rw[CU _ _ k d (Aa z)];rw[c];exact A
   rw[c]at C;simp only at C;have D:=Ab (MZ q l t (wr.alloc (j3 (ml (Ay (q,U l (Z q.ts) t))) 217)) (Ad W ((pO [] wr).alloc _)));have hN:=Ab (pP wr (Ay (q,U l (Z q.ts) t)) 217);have AH:=Ab (B.alloc (j3 (ml (Ay (q,U l (Z q.ts) t))) 217));clear W c;simp only[Ay]at D;(go_wp2_with fail);refine D.mono ?_;rintro e w3 ⟨A2,ES,rfl,P,x⟩;have S:=Ab (hN.kept x);have H:=Ab (AH.trans x);have j:=Ab (AO A2 ES (AR q) w3 H P (by omega));clear D P x hN AH d0 d1 d2 d3 d4 d5 d6 d7 d8;generalize(AR q).any (Dn a)=LB at j n r;generalize Z (AR q)=tl at j C⊢;(go_wp2_with fail);refine j.mono ?_;rintro e w5 ⟨rfl,y⟩;have v:=S.kept y;have N:=Ab (H.trans y);clear j y S;cases LB with
   |true=>
    have F:=Ab (n rfl);have c0:=v.cell 0;simp[Ay]at c0;clear n r v;go_wp2;go_ret2;rw[Aa F];exact⟨rfl,N⟩
   |false=>
    have F:=Ab (r rfl);clear n r v;go_wp2
    go_roundg (Z a-(k+1))
    case measure=>have:=Aa HG;omega
    case rel=>exact⟨k+1,by go_num,by omega,rfl,F,N⟩
  .have HE:p7 (R=Y):=by
    have h:=Aa z;rw[kX (by omega)]at h;show _=_;rw[<-Aa AB,LF h];rfl
   go_wp2;go_ret2;rw[HE.out];exact⟨rfl,B⟩
def PX(c:Dy)(t:AW):Bool:=t.v !=0&& !PV c.zH t.v
def Ik(c:Dy):Option Int:=if c.zV.any (PX c)then V c.hp else(c.zH.find? λp=>(AR p.1).any (PX c)).map λp=>p.1.place
def N1{α:Type}{f g:α->Bool}:∀{l:pM α},(∀x∈l,f x=g x)->l.any f=l.any g
 |[],_=>rfl
 |x::l,h=>by rw[oy,oy,h x (by simp),N1 (λy a=>h y (by simp[a]))]
def OL{α:Type}{f g:α->Bool}:∀{l:pM α},(∀x∈l,f x=g x)->l.find? f=l.find? g
 |[],_=>rfl
 |x::l,h=>by rw[nV,nV,h x (by simp),OL (λy a=>h y (by simp[a]))]
theorem P9(c:Dy)(w:py)(h:Ki w 0 c.hv c.bv c.zV c.zH)(f:Qk c)(C:Z (BE c)<=900000):
  Calls prog 120 #[pC (ml (Bo c))] w λe q=>e=oa (BM (Ik c))/\Ac [] w q:=by
 have o:Z (GO c.zH)<=900000:=by
  have:=Uk c.zH;simp only[BE,lu]at C;omega
 have A:Z c.zV<=900000:=by have:=f.head.2;omega
 have j:∀p∈c.zH,(p.1.sort==0)=jj->0<Z p.1.ts/\Z p.1.ts<=1000:=λp b M=>⟨(f.each p b).1 (by simp[Bi,M]),(f.each p b).2⟩
 have s:∀p∈c.zH,Z (AR p.1)<=1000:=λp b=>(f.zQ b).2
 have v:=f.lits;have d:p7 (Ik c=if c.zV.any (Dn c.zH)then V c.hp else(c.zH.find? λp=>(AR p.1).any (Dn c.zH)).map λp=>p.1.place):=rfl;generalize Ik c=U at d⊢;clear f C;obtain⟨b,H,k,R,S,a⟩:=c;simp only at h o A j s v d;obtain⟨x,t,rfl⟩:=Ak h.head;obtain⟨g,i,rfl⟩:=Ak h.body.row;have G:=Ab (pP w [X J b,O H,.slice x (Z k) t,.slice g (Z a) i] 189);have l:=(pO [] w).alloc (j3 [X J b,O H,.slice x (Z k) t,.slice g (Z a) i].toArray 189);have n:=Ab (PD x t k 0 g i a _ (Ad h.head l) (h.body.kept l) v j A o);have z:p7 (∀wr,Ac [] w wr->Calls prog 93 #[.slice g (Z a) i] wr λe q=>e=oa (BM ((a.find? λp=>(AR p.1).any (Dn a)).map λp=>p.1.place))/\Ac [] wr q):=λwr I=>IF g i a wr (h.body.kept I) v j s o
 have D:=Ab l;generalize((a.find? λp=>(AR p.1).any (Dn a)).map λp=>p.1.place)=FO at z d;generalize k.any (Dn a)=LB at n d;clear h l j s;simp only[Bo];go_enter func120,ntmps120;go_wp2_with fail
 refine n.mono ?_;rintro e N ⟨rfl,y⟩;have r:=G.kept y;have u:=Ab (D.trans y);have P:=r.cell 0;have L:=r.cell 3;simp at P L;have F:=Ab (z N u);clear n G D y r z;cases LB with
 |true=>
  have m:p7 (U=V b):=by have h:=Aa d;exact h
  clear d;go_wp2;go_ret2;rw[Aa m];exact⟨rfl,u⟩
 |false=>
  have m:p7 (U=FO):=by have h:=Aa d;exact h
  clear d;go_wp2_with fail
  refine F.mono ?_;rintro e Q ⟨rfl,B⟩;have E:=Ab (u.trans B);clear F B;cases FO with
  |none=>
   simp only[BM];go_wp2;go_ret2;rw[Aa m];exact⟨rfl,E⟩
  |some p=>
   simp only[BM];go_wp2;go_ret2;rw[Aa m];exact⟨rfl,E⟩
structure VY(b:Nat)(w w':py):Prop where
 os:w'.os=w.os
 tape:w'.tape=w.tape
 output:w'.output=w.output
 size:w.heap.size<=w'.heap.size
 block:∀k,k<b->w'.heap[k]?=w.heap[k]?
def VY.trans{b:Nat}{u v w:py}(h:VY b u v)(k:VY b v w):VY b u w:=⟨k.os.trans h.os,k.tape.trans h.tape,k.output.trans h.output,mp h.size k.size,λi a=>(k.block i a).trans (h.block i a)⟩
def VY.of(k:Ac M w v)(d:b<=w.heap.size)(a:∀i,i∈M->b<=i):VY b w v:=
 ⟨k.os,k.tape,k.output,k.size,λi c=>k.block i (by omega) (λh=>by have:=a i h;omega)⟩
def VY.kept{w w':py}(h:VY b w w')(c:w.heap.size<=b):Ac [] w w':=⟨h.os,h.tape,h.output,h.size,λk a _=>h.block k (by omega)⟩
def KZ(h:p9 w m T j z n y)(k:VY b w u)(c:∀i,z.ownBlock=V i->i<b):p9 u m T j z n y:=by
 refine⟨h.1,?_⟩;rcases h.2 with p|⟨g,d,a,rfl,l,f,o⟩
 .exact .inl p
 .refine .inr ⟨g,d,a,rfl,l,?_,o⟩;rw[k.block g (c g rfl)];exact f
structure fF(w:py)(b:Nat)(c:Dy):Prop where
 at_:Ki w 0 c.hv c.bv c.zV c.zH
 lt1:∀k,c.hv.ownBlock=V k->k<b
 lt2:∀k,c.bv.ownBlock=V k->k<b
 lt3:∀p∈c.zH,∀k,p.2.ownBlock=V k->k<b
def fF.low{c:Dy}(h:fF w b c)(k:VY b w v):fF v b c:=
 ⟨⟨KZ h.at_.head k h.lt1,⟨KZ h.at_.body.row k h.lt2,λp a=>⟨KZ (h.at_.body.each p a).1 k (h.lt3 p a),(h.at_.body.each p a).2⟩⟩⟩,h.lt1,h.lt2,h.lt3⟩
structure Fe(w:py)(b:Nat)(n:Int)(nv tv:p5)(names zC:pM zA):Prop where
 zN:AF w b [X J n,nv,tv] 210
 rn:p9 w (b+1) 9 1 nv (Z names) (names.flatMap Ah)
 rt:p9 w (b+1) 170 1 tv (Z zC) (zC.flatMap Ah)
 ant:B6 nv tv
 rin:C9 FQ names
 rit:C9 FQ zC
def Fe.kept{w w':py}{b:Nat}{n:Int}{a c:p5}{e d:pM zA}(h:Fe w b n a c e d)(k:Ac [] w w'):Fe w' b n a c e d:=
 ⟨h.zN.kept k,Ad h.rn k,Ad h.rt k,h.ant,h.rin,h.rit⟩
def B6.symm{u v:p5}(h:B6 u v):B6 v u:=λk b a=>h k a b
theorem SM(b:Nat)(n:Nat)(q m:p5)(c a:pM zA)(w:py)(h:Fe w b n q m c a):
  Calls prog 117 #[.pointer (V ⟨b,0,Y⟩)] w λe l=>e=oa (pE (decide (12<n)||decide (6<Z c)||decide (6<Z a)))/\l=w:=by
 obtain⟨u,y,rfl⟩:=Ak h.rn;obtain⟨x,v,rfl⟩:=Ak h.rt;have t:=h.zN.cell 0;have o:=h.zN.cell 1;have p:=h.zN.cell 2;simp at t o p;clear h;obtain⟨f,i⟩:=pN (decide (12<n)||decide (6<Z c)||decide (6<Z a));rw[i];have g:=Ab i;clear i;by_cases k:12<n
 .have s:(12:Int)<(n:Int):=by omega
  have d:p7 (f=jj):=by show _=_;rw[<-Aa g];simp[k]
  go_enter func117,ntmps117;go_wp2;go_ret;rw[Aa d];exact⟨by simp,rfl⟩
 .have s:¬(12:Int)<(n:Int):=by omega
  by_cases j:6<Z c
  ·(have r:(6:Int)<(Z c:Int):=by omega);(have d:p7 (f=jj):=by show _=_;rw[<-Aa g];simp[j]);go_enter func117,ntmps117;go_wp2;go_ret;rw[Aa d];exact⟨by simp,rfl⟩
  ·(have r:¬(6:Int)<(Z c:Int):=by omega);have d:p7 (f=decide ((6:Int)<(Z a:Int))):=by
    show _=_;rw[<-Aa g];have e:decide ((6:Int)<(Z a:Int))=decide (6<Z a):=by
     by_cases h:6<Z a
     ·(have:(6:Int)<(Z a:Int):=by omega);simp[h,this]
     ·(have:¬(6:Int)<(Z a:Int):=by omega);simp[h,this]
    rw[e];simp[k,j]
   go_enter func117,ntmps117;go_wp2;go_ret;rw[Aa d];exact⟨by simp,rfl⟩
def Fe.setN{n m:Int}{a c:p5}{f g:pM zA}(h:Fe w b n a c f g):Fe (w.setCell ⟨b,0,Y⟩ (X J m)) b m a c f g:=by
 have d:∀{e:TypeId} {i:Nat} {v:p5} {k:Nat} {j:pM p5},p9 w (b+1) e i v k j->v.ownBlock≠V b:=λh e=>by have:=(h.lt b e).1;omega
 exact⟨h.zN.set 0 _,Ag h.rn (p:=⟨b,0,Y⟩) (d h.rn) _,Ag h.rt (p:=⟨b,0,Y⟩) (d h.rt) _,h.ant,h.rin,h.rit⟩
def Tp{v b u:p5}(f:p9 w n T m u k y)(d:B6 v u)(g:∀q,b.ownBlock=V q->v.ownBlock=V q\/w.heap.size<=q):B6 b u:=λq c a=>by
 rcases g q c with h|h
 .exact d q h a
 .have:=(f.lt q a).2;omega
def Fe.names{w a:py}{b:Nat}{n:Int}{c g:p5}{x t:pM zA}(h:Fe w b n c g x t){f:p5}{d:pM zA}
  (o:Ac c.ownBlock.toList w a) (r:p9 a (b+1) 9 1 f (Z d) (d.flatMap Ah)) (B:∀q,f.ownBlock=V q->c.ownBlock=V q\/w.heap.size<=q) (y:C9 FQ d):
  Fe (a.setCell ⟨b,1,Y⟩ f) b n f g d t/\p8 a ⟨b,1,Y⟩=V c/\a.frozen? ⟨b,1,Y⟩=K:=by
 have l:∀{w:py} {e:TypeId} {u:Nat} {v:p5} {k:Nat} {z:pM p5},p9 w (b+1) e u v k z->v.ownBlock≠V b:=λh e=>by have:=(h.lt b e).1;omega
 have m:AF a b [X J n,c,g] 210:=h.zN.kept o (λj=>l h.rn (by simpa using j));have s:=Ai h.rt o (λi A j=>h.ant i (by simpa using j) A);exact⟨⟨m.set 1 _,Ag r (p:=⟨b,1,Y⟩) (l r) _,Ag s (p:=⟨b,1,Y⟩) (l s) _,Tp h.rt h.ant B,y,h.rit⟩,m.cell 1,m.frozen 1⟩
def Fe.zC{w a:py}{b:Nat}{n:Int}{g c:p5}{s A:pM zA}(h:Fe w b n g c s A){d:p5}{f:pM zA}
  (o:Ac c.ownBlock.toList w a) (r:p9 a (b+1) 170 1 d (Z f) (f.flatMap Ah)) (y:∀q,d.ownBlock=V q->c.ownBlock=V q\/w.heap.size<=q) (x:C9 FQ f):
  Fe (a.setCell ⟨b,2,Y⟩ d) b n g d s f/\p8 a ⟨b,2,Y⟩=V c/\a.frozen? ⟨b,2,Y⟩=K:=by
 have l:∀{w:py} {e:TypeId} {u:Nat} {v:p5} {k:Nat} {z:pM p5},p9 w (b+1) e u v k z->v.ownBlock≠V b:=λh e=>by have:=(h.lt b e).1;omega
 have m:AF a b [X J n,g,c] 210:=h.zN.kept o (λj=>l h.rt (by simpa using j));have t:=Ai h.rn o (λi B j=>h.ant i B (by simpa using j));exact⟨⟨m.set 2 _,Ag t (p:=⟨b,2,Y⟩) (l t) _,Ag r (p:=⟨b,2,Y⟩) (l r) _,(Tp h.rn h.ant.symm y).symm,h.rin,x⟩,m.cell 2,m.frozen 2⟩
def Fe.yI{c d:p5}{e f:pM zA}(h:Fe w b I c d e f):(∀i,i∈c.ownBlock.toList->b<=i)/\(∀i,i∈d.ownBlock.toList->b<=i):=
 ⟨λi a=>by have:=(h.rn.lt i (by simpa using a)).1;omega,λi a=>by have:=(h.rt.lt i (by simpa using a)).1;omega⟩
def VY.drew{b:Nat}{u w:py}(h:VY b u w):VY b u w.drew:=⟨h.os,h.tape,h.output,h.size,h.block⟩
def Fe.drew{w:py}{b:Nat}{n:Int}{a c:p5}{e d:pM zA}(h:Fe w b n a c e d):Fe w.drew b n a c e d:=h.kept (pO [] w).drew
structure gY(M:pM Nat)(b N:Nat)(cs:pM p5)(u w':py)(i:Nat)(old new:p5)(n:Int)(nv tv:p5)(names zC:pM zA):Prop where
 cell:p8 w' ⟨b,i,Y⟩=V old
 frozen:w'.frozen? ⟨b,i,Y⟩=K
 cen:Fe (w'.setCell ⟨b,i,Y⟩ new) b n nv tv names zC
 low:Ac M u (w'.setCell ⟨b,i,Y⟩ new)
 box:AF (w'.setCell ⟨b,i,Y⟩ new) N cs 189
def Fg(ts:pM AW)(l l':pM zA):Prop:=∀y,y∈l'↔(∃t∈ts,t.v=0/\t.s=y)\/y∈l
structure Jz(base:Nat)(lv:p5)(l:pM zA)(ts:pM AW)(w:py)(l':pM zA)(ad':Option Addr)(cp':Nat)(w':py):Prop where
 zM:C9 FQ l'
 mem:Fg ts l l'
 le:Z l'<=Z l+Z ts
 own:p9 w' base 170 1 (U ad' (Z l') cp') (Z l') (l'.flatMap Ah)
 kept:Ac lv.ownBlock.toList w w'
 new:∀k,(U ad' (Z l') cp').ownBlock=V k->lv.ownBlock=V k\/w.heap.size<=k
def Fg.skip{l d:pM zA}{c:pM AW}(e:k<Z c)(f:c[k].v≠0)(h:Fg (c.take k) l d):Fg (c.take (k+1)) l d:=by
 intro y;rw[h y,kW e];constructor
 .rintro (⟨t,a,b⟩|a)
  .exact oi ⟨t,nY _ a,b⟩
  .exact oj a
 .rintro (⟨t,a,b⟩|a)
  .rcases lw.1 a with a|a
   .exact oi ⟨t,a,b⟩
   .simp only[kY]at a;subst a;exact absurd b.1 f
  .exact oj a
def Fg.take{l d e:pM zA}{b:pM AW}{k:Nat}(f:k<Z b)(g:b[k].v=0)(h:Fg (b.take k) l d)(q2:∀y,y∈e↔y=b[k].s\/y∈d):Fg (b.take (k+1)) l e:=by
 intro y;rw[q2,h y,kW f];constructor
 .rintro (a|⟨t,a,c⟩|a)
  .exact oi ⟨b[k],List.mem_append_right _ (kY.2 rfl),g,a.symm⟩
  .exact oi ⟨t,nY _ a,c⟩
  .exact oj a
 .rintro (⟨t,a,c⟩|a)
  .rcases lw.1 a with a|a
   .exact oj (oi ⟨t,a,c⟩)
   .simp only[kY]at a;subst a;exact oi c.2.symm
  .exact oj (oj a)
theorem Sj(c:Dy)(f:Option Addr)(d:Nat)(l:pM zA)(n:Nat)(w:py)(h:Ki w 0 c.hv c.bv c.zV c.zH)(hf:Qk c)(hT:Z (BE c)<=90000)
  (hl:p9 w n 170 1 (U f (Z l) d) (Z l) (l.flatMap Ah)) (FL:Z l<=900000) (hr:C9 FQ l) (FP:n<=w.heap.size):
  Calls prog 148 #[U f (Z l) d,pC (ml (Bo c))] w λe w'=>∃l' BS A2,e=oa (U BS (Z l') A2)/\Jz n (U f (Z l) d) l (BE c) w l' BS A2 w':=by
 have B:=Ab (Rc c (w.alloc (j3 (ml (Bo c)) 189)) (h.kept ((pO [] w).alloc _)) hf);generalize BE c=TV at B hT⊢;obtain⟨hp,hn,HI,R,bv,HJ⟩:=c;simp only at h;obtain⟨HB,FW,rfl⟩:=Ak h.head;obtain⟨FO,HK,rfl⟩:=Ak h.body.row;have HL:=Ab hl;have FA:=Ab hr;clear h hl hr hf;simp only[Bo]at B⊢;go_enter func148,ntmps148;go_wp2_with fail
 refine B.mono ?_;rintro e r ⟨DT,AH,rfl,S,Q⟩;have H:p7 (Ac [] w r):=((pO [] w).alloc _).trans Q;have HD:w.heap.size+1<=r.heap.size:=by have:=Q.size;simpa using this
 have HO:=Ab (Am S (show w.heap.size<=_ by simp));clear B S Q;go_wp2
 go_loopg [0,10] (Z TV) (λgk o i wr=>∃(k:Nat) (m:pM zA) (b:Option Addr) (j:Nat),o=U b (Z m) j/\i=X J k/\k<=Z TV/\gk=Z TV-k/\Z m<=Z l+k/\p7 (Jz n (U f (Z l) d) l (TV.take k) w m b j wr)/\p7 (p9 wr w.heap.size 215 2 (U DT (Z TV) AH) (Z TV) (TV.flatMap Ar))/\p7 (∀q,(U b (Z m) j).ownBlock=V q->(U f (Z l) d).ownBlock=V q\/r.heap.size<=q)/\r.heap.size<=wr.heap.size)
 case atStart=>exact⟨0,l,f,d,rfl,rfl,by omega,rfl,by omega,⟨FA,λy=>by simp,by omega,Ad HL H,H.mono (by simp),λk T=>oi T⟩,HO,λq t=>oi t,by omega⟩
 case round=>
  clear H;obtain⟨k,m,b,j,rfl,rfl,T,AO,HF,p,u,A,FF⟩:=hrel;have W:=Ab AO;clear AO;by_cases C:k<Z TV
  .obtain⟨g,HC,he,d0,d1⟩:=Fp u k C;simp only[kS]at he;obtain⟨rfl,_,rfl⟩:=he;have P:Ac [] wr (wr.alloc (j3 [X pD TV[k].v,O TV[k].s].toArray 215)):=(pO [] wr).alloc _;have A1:=Ab (Ad u P);(have Ax:r.heap.size<=(wr.alloc (j3 [X pD TV[k].v,O TV[k].s].toArray 215)).heap.size:=by simp;omega);cases R:(TV[k].v==0)with
   |false=>
    (have x:TV[k].v≠0:=by simpa using R);have N:p7 (Jz n (U f (Z l) d) l (TV.take (k+1)) w m b j (wr.alloc (j3 [X pD TV[k].v,O TV[k].s].toArray 215))):=by
     have a:=Aa p;refine⟨a.zM,a.mem.skip C x,?_,lg a.own _,a.kept.alloc _,a.new⟩;have:=a.le;simp only[l9]at this⊢;omega
    clear p u P x;go_wp2
    go_roundg (Z TV-(k+1))
    case measure=>have:=Aa W;omega
    case rel=>exact⟨k+1,m,b,j,rfl,by go_num,by omega,rfl,by omega,N,A1,A,Ax⟩
   |true=>
    (have x:TV[k].v=0:=by simpa using R);have HZ:=Ab x;have CC:=Ab (Xk b j m TV[k].s n (wr.alloc (j3 [X pD TV[k].v,O TV[k].s].toArray 215)) (lg p.own _) (by omega) p.zM (by simp;omega));clear x P;(go_wp2_with fail);refine CC.mono ?_;rintro e z ⟨M,E,G,rfl,q1,q2,q3,q4,q5,F,D⟩;have I:Ac (U b (Z m) j).ownBlock.toList wr z:=((pO _ wr).alloc _).trans F;(have Go:wr.heap.size+1<=z.heap.size:=by have:=F.size;simpa using this);have N:p7 (Jz n (U f (Z l) d) l (TV.take (k+1)) w M E G z):=by
     have a:=Aa p;refine⟨q1,a.mem.take C HZ q2,?_,q5,a.kept.trans' I (λi L=>?_),λq t=>?_⟩
     .have:=a.le;simp only[l9]at this⊢;omega
     .rcases a.new i (by simpa using L)with h|h
      .exact oi (by simp[h])
      .exact oj h
     .rcases D q t with h|h
      .exact a.new q h
      .exact oj (by have:=a.kept.size;simp at h;omega)
    have E0:p7 (p9 z w.heap.size 215 2 (U (V ⟨g,0,Y⟩) (Z TV) AH) (Z TV) (TV.flatMap Ar)):=by
     refine Ai u I (λi L hm=>?_);have h1:=(HO.lt i L);rcases A i (by simpa using hm)with h|h
     .have:=(HL.lt i h).2;omega
     .omega
    have ES:p7 (∀q,(U E (Z M) G).ownBlock=V q->(U f (Z l) d).ownBlock=V q\/r.heap.size<=q):=by
     intro q t;rcases D q t with h|h
     .exact A q h
     .exact oj (by simp at h;omega)
    clear CC q1 q2 q3 q5 F D I p u A1 Ax A d0 d1;go_wp2
    go_roundg (Z TV-(k+1))
    case measure=>have:=Aa W;omega
    case rel=>exact⟨k+1,M,E,G,rfl,by go_num,by omega,rfl,by omega,N,E0,ES,by omega⟩
  .have HE:p7 (Jz n (U f (Z l) d) l TV w m b j wr):=by
    have h:=Aa p;rw[kX (by omega)]at h;exact h
   go_wp2;go_ret;exact⟨m,b,j,rfl,HE⟩
theorem bL(b:Nat)(n:Nat)(nv tv:p5)(r q:pM zA)(c:Dy)(w:py)(h:Fe w b n nv tv r q)(hc:fF w b c)(hf:Qk c)(hT:Z (BE c)<=90000)(hn:n<=1000)(HZ:Z r<=800000)(H7:Z q<=800000):
  Calls prog 116 #[.pointer (V ⟨b,0,Y⟩),pC (ml (Bo c))] w λe g=>e=oa (.tuple #[])/\∃HP HS FF EY,Fe g b ((n+1:Nat):Int) HP HS FF EY/\(∀y,y∈FF↔y∈Ck c\/y∈r)/\Fg (BE c) q EY/\Z FF<=Z r+1001/\Z EY<=Z q+90000/\Ac (b::(nv.ownBlock.toList++tv.ownBlock.toList)) w g:=by
 have H3:=h.zN.lt;obtain⟨S,R,rfl⟩:=Ak h.rn;obtain⟨I,G,rfl⟩:=Ak h.rt;obtain⟨M,B0⟩:=pN (b::((U S (Z r) R).ownBlock.toList++(U I (Z q) G).ownBlock.toList));rw[B0];have T:p7 (b∈M/\(∀i,i∈(U S (Z r) R).ownBlock.toList->i∈M)/\(∀i,i∈(U I (Z q) G).ownBlock.toList->i∈M)):=by
  rw[<-B0];exact⟨by simp,λi f=>by simp only[kZ,lw];exact oj (oi f),λi f=>by simp only[kZ,lw];exact oj (oj f)⟩
 have HH:p7 (∀wr,Ac M w wr->VY b w wr):=by
  intro wr W;refine VY.of W (by omega) (λi f=>?_);rw[<-B0]at f;simp only[kZ,lw]at f;rcases f with f|f|f
  .omega
  .exact h.yI.1 i f
  .exact h.yI.2 i f
 clear B0;have AT:p7 (∀wr A C l,VY b w wr->p9 wr (b+1) 170 1 (U A (Z l) C) (Z l) (l.flatMap Ah)->Z l<=900000->C9 FQ l->b+1<=wr.heap.size->Calls prog 148 #[U A (Z l) C,pC (ml (Bo c))] wr λe g=>∃a k j,e=oa (U k (Z a) j)/\Jz (b+1) (U A (Z l) C) l (BE c) wr a k j g):=λwr A C l W h1 h2 h3 h4=>Sj c A C l (b+1) wr (hc.low W).at_ hf hT h1 h2 h3 h4
 have EM:p7 (∀wr A C l,VY b w wr->p9 wr (b+1) 9 1 (U A (Z l) C) (Z l) (l.flatMap Ah)->Z l<=900000->C9 FQ l->b+1<=wr.heap.size->Calls prog 164 #[U A (Z l) C,pC (ml (Bo c))] wr λe g=>∃a k j,e=oa (U k (Z a) j)/\Ox (b+1) (U A (Z l) C) l (Ck c) wr a k j g):=λwr A C l W h1 h2 h3 h4=>Nl c A C l (b+1) wr (hc.low W).at_ hf.lits h1 h2 h3 h4
 have HD:p7 (Z (Ck c)<=1001):=by
  show _<=_;have:=hf.lits;have h2:=mS (λp=>Bi p.1) c.zH;simp only[Ck,Gw,lj,lm];omega
 generalize BE c=TV at AT hT⊢;generalize Ck c=NV at EM HD⊢;obtain⟨D,v,B,hv,bv,t⟩:=c;have CL:=hc.at_;clear hc hf;simp only at CL;obtain⟨E,s,rfl⟩:=Ak CL.head;obtain⟨z,x,rfl⟩:=Ak CL.body.row;clear CL;simp only[Bo]at AT EM⊢;have c0:=h.zN.cell 0;have cf:=h.zN.frozen;have d0:=λo=>(h.zN.alloc o).cell 0
 have df:=λo=>(h.zN.alloc o).frozen
 simp at c0 d0;have q1:¬b=w.heap.size:=by omega
 have q2:¬w.heap.size=b:=by omega
 have H0:=Ab h;clear h;go_enter func116,ntmps116;go_wp2_with fail
 obtain⟨N,AB⟩:=pN w.heap.size;have H2:b<N:=by omega
 have H:p7 (AF ((w.setCell ⟨b,0,Y⟩ (X J ((n:Int)+1))).alloc (j3 [X J D,O v,U E (Z B) s,U z (Z t) x].toArray 189)) N [X J D,O v,U E (Z B) s,U z (Z t) x] 189):=by
  have hh:=pP (w.setCell ⟨b,0,Y⟩ (X J ((n:Int)+1))) [X J D,O v,U E (Z B) s,U z (Z t) x] 189;rw[show(w.setCell ⟨b,0,Y⟩ (X J ((n:Int)+1))).heap.size=N from by simp[AB]]at hh
  exact hh
 have F:=Ab ((H0.setN (m:=(n:Int)+1)).kept ((pO [] _).alloc (j3 [X J D,O v,U E (Z B) s,U z (Z t) x].toArray 189)));have BT:p7 (Ac M w ((w.setCell ⟨b,0,Y⟩ (X J ((n:Int)+1))).alloc (j3 [X J D,O v,U E (Z B) s,U z (Z t) x].toArray 189))):=((pO M w).setCell (p:=⟨b,0,Y⟩) (oi T.1) _).alloc _;have HQ:p7 ((U S (Z r) R).ownBlock≠V N/\(U I (Z q) G).ownBlock≠V N):=⟨λe=>by have:=(H0.rn.lt _ e).2;omega,λe=>by have:=(H0.rt.lt _ e).2;omega⟩;have HV:N+1<=((w.setCell ⟨b,0,Y⟩ (X J ((n:Int)+1))).alloc (j3 [X J D,O v,U E (Z B) s,U z (Z t) x].toArray 189)).heap.size:=by simp[AB]
 clear c0 cf d0 df q1 q2 H0;change Code.wp _ _ _ _ ((w.setCell ⟨b,0,Y⟩ (X J ((n:Int)+1))).alloc (j3 [X J D,O v,U E (Z B) s,U z (Z t) x].toArray 189));generalize(w.setCell ⟨b,0,Y⟩ (X J ((n:Int)+1))).alloc (j3 [X J D,O v,U E (Z B) s,U z (Z t) x].toArray 189)=w1 at H F BT HV⊢;rw[AB];have H5:=Ab AB;clear AB;have Dk:p7 (Calls prog 164 #[U S (Z r) R,pC #[X J D,O v,U E (Z B) s,U z (Z t) x]] w1.drew λe g=>∃a k j,e=oa (U k (Z a) j)/\gY M b N [X J D,O v,U E (Z B) s,U z (Z t) x] w g 1 (U S (Z r) R) (U k (Z a) j) ((n:Int)+1) (U k (Z a) j) (U I (Z q) G) a q/\(∀y,y∈a↔y∈NV\/y∈r)/\Z a<=Z r+1001/\N+1<=g.heap.size):=by
  refine(EM w1.drew S R r (HH _ BT.drew) F.drew.rn (by omega) F.rin (by show b+1<=w1.heap.size;omega)).mono ?_;rintro e g ⟨a,k,j,rfl,d⟩;obtain⟨FA,FB,FO⟩:=F.drew.names d.kept d.own d.new d.zM;have HY:=F.drew.yI.1;refine⟨a,k,j,rfl,⟨FB,FO,FA,?_,?_⟩,d.mem,by have:=d.le;have:=Aa HD;omega,by have:=d.kept.size;have h2:w1.drew.heap.size=w1.heap.size:=rfl;omega⟩
  .exact(BT.drew.trans' d.kept (λi f=>oi (T.2.1 i f))).setCell (p:=⟨b,1,Y⟩) (oi T.1) _
  .exact(H.drew.kept d.kept (λhm=>HQ.1 (by simpa using hm))).zB ⟨b,1,Y⟩ (by simp;omega) _
 have e1:=F.zN.cell 1;have b0:=H.cell 0;have b1:=H.cell 1;have b2:=H.cell 2;have b3:=H.cell 3;simp at e1 b0 b1 b2 b3;clear EM F BT H
 go_region_law
  (go_simp;go_at_call 164;refine Dk.mono ?_;rintro e wt ⟨a,k,j,rfl,Bx,HE,HK,HL⟩;have HF:=Bx.cell;have HA:=Bx.frozen;have EX:=Ab Bx;clear Bx)
 all_goals
  have BS:=Ab EX.cen;have B9:=Ab EX.low;have Q:=Ab EX.box;have HO:N+1<=(wt.setCell ⟨b,1,Y⟩ (U k (Z a) j)).heap.size:=by simp;omega
  have HM:=Ab HE;clear EX HF HA Dk HE e1 b0 b1 b2 b3 HL;generalize wt.setCell ⟨b,1,Y⟩ (U k (Z a) j)=w2 at BS B9 Q HO⊢;have b0:=Q.cell 0;have b1:=Q.cell 1;have b2:=Q.cell 2;have b3:=Q.cell 3;simp at b0 b1 b2 b3;have e2:=BS.zN.cell 2;simp at e2;have HG:p7 (Calls prog 148 #[U I (Z q) G,pC #[X J D,O v,U E (Z B) s,U z (Z t) x]] w2.drew λe g=>∃u P L,e=oa (U P (Z u) L)/\p8 g ⟨b,2,Y⟩=V (U I (Z q) G)/\g.frozen? ⟨b,2,Y⟩=K/\Fe (g.setCell ⟨b,2,Y⟩ (U P (Z u) L)) b ((n:Int)+1) (U k (Z a) j) (U P (Z u) L) a u/\Fg TV q u/\Z u<=Z q+90000/\Ac M w (g.setCell ⟨b,2,Y⟩ (U P (Z u) L))):=by
   have FC:=BS.drew;refine(AT w2.drew I G q (HH _ B9.drew) FC.rt (by omega) FC.rit (by show b+1<=w2.heap.size;omega)).mono ?_;rintro e g ⟨u,P,L,rfl,d⟩;obtain⟨FA,FB,FO⟩:=FC.zC d.kept d.own d.new d.zM;refine⟨u,P,L,rfl,FB,FO,FA,d.mem,by have:=d.le;omega,?_⟩;exact(B9.drew.trans' d.kept (λi f=>oi (T.2.2 i f))).setCell (p:=⟨b,2,Y⟩) (oi T.1) _
  clear AT BS B9 Q;go_wp2_with fail
  go_region_law
   (go_simp;go_at_call 148;refine HG.mono ?_;rintro e H6 ⟨u,P,L,rfl,HF,HA,r1,r2,r3,r4⟩;have HN:=Ab (And.intro r1 (And.intro r2 (And.intro r3 r4)));clear r1 r2 r3 r4)
  all_goals
   clear HG;(go_wp2_with fail);go_end0;obtain⟨r1,r2,r3,r4⟩:=HN;exact⟨rfl,_,_,a,u,r1,HM,r2,HK,r3,r4⟩
def ig(cs:pM Dy)(S:zA->Prop):Prop:=∀c∈cs,S c.hn->∀y∈Ck c,S y
def Ie(cs:pM Dy)(x y:zA):Prop:=∀S:zA->Prop,S x->ig cs S->S y
structure Zp(cs:pM Dy)(x:zA)(l:pM zA):Prop where
 zM:C9 FQ l
 iff:∀y,y∈l↔Ie cs x y
def NG{α:Type} [DecidableEq α]:∀(l b:pM α),l.Nodup->(∀y∈l,y∈b)->Z l<=Z b
 |[],_,_,_=>lz _
 |a::t,b,hn,hs=>by
  rw[nh]at hn;have c:a∈b:=hs a (by simp);have ih:=NG t (b.erase a) hn.2 (λy d=>(List.mem_erase_of_ne (λe=>hn.1 (by rw[<-e];exact d))).2 (hs y (by simp[d])));have g:=List.length_erase_of_mem c;have f:0<Z b:=List.length_pos_of_mem c;simp only[lj];omega
def Wu{l a:pM zA}(d:C9 FQ l)(e:∀y∈l,y∈a)(f:Z a=Z l):∀y∈a,y∈l:=by
 intro y c;by_cases h:y∈l
 .exact h
 .have:=NG (y::l) a (nh.2 ⟨h,d.nodup Gg⟩) (λz b=>by
   rcases kZ.1 b with rfl|b
   .exact c
   .exact e z b)
  simp only[lj]at this;omega
theorem Wm(FT:Option Addr)(FA:Nat)(a:pM Dy)(x:zA)(w:py)(h:DE w (U FT (Z a) FA) a)(H9:Z a<=1000)(hf:∀c∈a,Z c.zH<=1000)(hU:Z (a.flatMap Ck)<=800000):
  Calls prog 122 #[U FT (Z a) FA,O x] w λe w'=>∃l v A,e=oa (U v (Z l) A)/\Zp a x l/\Z l<=800001/\p9 w' w.heap.size 9 1 (U v (Z l) A) (Z l) (l.flatMap Ah)/\Ac [] w w':=by
 have HP:=Ab h;have H5:=Ab hf;clear h hf;have FO:p7 (∀l:pM zA,C9 FQ l->(∀y∈l,Ie a x y)->Z l<=1+Z (a.flatMap Ck)):=by
  intro l hr hs;have:=NG l (x::a.flatMap Ck) (hr.nodup Gg) (λy d=>by
   refine hs y d (λz=>z∈x::a.flatMap Ck) (by simp) (λc b _ z hz=>?_)
   exact lY _ (ma.2 ⟨c,b,hz⟩))
  simp only[lj]at this;omega
 obtain⟨u,FB⟩:=pN (Z (a.flatMap Ck));rw[FB]at hU FO;clear FB;have EX:p9 (w.alloc (j3 [O x].toArray 9)) w.heap.size 9 1 (U (V ⟨w.heap.size,0,Y⟩) 1 1) 1 ([x].flatMap Ah):=⟨rfl,oj ⟨w.heap.size,1,_,rfl,lC _,pP w [O x] 9,lC _,by unfold maxLen;omega,rfl,rfl⟩⟩;have CC:=(pO [] w).alloc (j3 [O x].toArray 9);have AB:=Ab EX;have A2:=Ab CC;clear EX CC;go_enter func122,ntmps122;go_wp2;change Code.wp _ _ _ _ (w.alloc (j3 [O x].toArray 9));generalize w.alloc (j3 [O x].toArray 9)=w1 at AB A2⊢
 go_loopg [5] (u+2-1) (λgk o wr=>∃(l:pM zA) (v:Option Addr) (A:Nat),o=U v (Z l) A/\gk=u+2-Z l/\Z l<=u+1/\p7 (C9 FQ l)/\p7 (x∈l)/\p7 (∀y∈l,Ie a x y)/\p7 (p9 wr w.heap.size 9 1 (U v (Z l) A) (Z l) (l.flatMap Ah))/\p7 (Ac [] w wr))
 case atStart=>exact⟨[x],_,_,rfl,rfl,by simp,λi j hi hj IS=>by simp at hi hj;omega,by simp[p7],λy d S P h2=>by simp at d;subst d;exact P,AB,A2⟩
 case round=>
  clear AB A2;obtain⟨l,v,A,rfl,FL,HA,HV,HX,HW,Go,HK⟩:=hrel;have HG:=Ab FL;clear FL;go_wp2
  go_loopg [5,15] (Z a) (λH3 o i BT=>∃(k:Nat) (m:pM zA) (t:Option Addr) (s:Nat),o=U t (Z m) s/\i=X J k/\k<=Z a/\H3=Z a-k/\Z l<=Z m/\Z m<=u+1/\p7 (C9 FQ m)/\p7 (∀y∈l,y∈m)/\p7 (∀y∈m,Ie a x y)/\p7 (Z m=Z l->∀c∈a.take k,c.hn∈m->∀y∈Ck c,y∈m)/\p7 (p9 BT w.heap.size 9 1 (U t (Z m) s) (Z m) (m.flatMap Ah))/\p7 (Ac [] w BT))
  case atStart=>exact⟨0,l,v,A,rfl,rfl,by omega,rfl,by omega,HA,HV,λy d=>d,HW,λ_ c b=>by simp at b,Go,HK⟩
  case round=>
   obtain⟨k,m,t,s,rfl,rfl,hk,CL,HI,EM,C,M,E,Q,W,N⟩:=hrel;have ES:=Ab CL;clear CL;by_cases L:k<Z a
   .have AT:=HP.kept N;obtain⟨g,KK,H,f,q,I,D,G,F,p,he,T,d0,d1,d2,d3⟩:=F6 AT k L;simp only[kS]at he;obtain⟨rfl,_,rfl⟩:=he;have JJ:=N.size;have B2:=Ab (AT.each _ (kV L));have Bx:=Aa H5 _ (kV L);have B0:p7 (∀c,c∈a.take (k+1)↔c∈a.take k\/c=⟨H,f,q,U I (Z q) D,U G (Z p) F,p⟩):=by
     intro c;rw[kW L,T,lw,kY]
    (have H2:p7 ((⟨H,f,q,U I (Z q) D,U G (Z p) F,p⟩:Dy)∈a):=by rw[<-T];exact kV L);rw[T]at B2 Bx;simp only at Bx;clear AT T;have A0:=Ab (N.alloc (j3 [X J H,O f,U I (Z q) D,U G (Z p) F].toArray 189));have R:=Ab (lg W (j3 [X J H,O f,U I (Z q) D,U G (Z p) F].toArray 189));have FP:=Ab (T5 t s m f w.heap.size _ R (by omega) C);(go_wp2_with fail);refine FP.mono ?_;rintro e w4 ⟨rfl,Ha⟩;subst Ha;clear FP;cases hh:aq m f with
    |false=>
     have BA:p7 (Z m=Z l->∀c∈a.take (k+1),c.hn∈m->∀y∈Ck c,y∈m):=by
      intro hl c b B;rcases(B0 c).1 b with b|b
      .exact Q hl c b B
      .subst b;simp only at B;rw[(Lm m f).2 B]at hh;cases hh
     clear hh Q;go_wp2
     go_roundg (Z a-(k+1))
     case measure=>have:=Aa ES;omega
     case rel=>exact⟨k+1,m,t,s,rfl,by go_num,by omega,rfl,HI,EM,C,M,E,BA,R,A0⟩
    |true=>
     have EK:p7 (f∈m):=(Lm m f).1 hh;have BS:=Ab (Nl ⟨H,f,q,U I (Z q) D,U G (Z p) F,p⟩ t s m w.heap.size (wr.alloc (j3 [X J H,O f,U I (Z q) D,U G (Z p) F].toArray 189)) ((Aa B2).kept ((pO [] wr).alloc _)) Bx (Aa R) (by omega) (Aa C) (by simp;omega));simp only[Bo]at BS;clear hh;(go_wp2_with fail);refine BS.mono ?_;rintro e w5 ⟨r,HY,HS,rfl,n⟩;have B9:Ac [] w w5:=A0.trans' n.kept (λi hi=>oj ((R.lt i (by simpa using hi)).1));have AO:∀y∈r,Ie a x y:=by
      intro y d;rcases(n.mem y).1 d with P|P
      .intro S hS hC;exact hC _ H2 (E _ EK S hS hC) y P
      .exact E y P
     (have Ax:∀y∈m,y∈r:=λy d=>(n.mem y).2 (oj d));have BA:p7 (Z r=Z l->∀c∈a.take (k+1),c.hn∈r->∀y∈Ck c,y∈r):=by
      intro hl c b B y d;have KD:=n.ge;have HT:=Wu C Ax (by omega);rcases(B0 c).1 b with b|b
      .exact Ax y (Q (by omega) c b (HT _ B) y d)
      .subst b;exact(n.mem y).2 (oi d)
     (have HB:Z l<=Z r:=by have:=n.ge;omega);have IA:=Aa FO r n.zM AO;have HJ:=Ab AO;(have HF:p7 (∀y∈l,y∈r):=λy d=>Ax y (M y d));have H0:=Ab n.zM;have HD:=Ab n.own;have HU:=Ab B9;clear BS n B9 AO Ax Q E M C W R A0 EK;go_wp2
     go_roundg (Z a-(k+1))
     case measure=>have:=Aa ES;omega
     case rel=>exact⟨k+1,r,HY,HS,rfl,by go_num,by omega,rfl,HB,by omega,H0,HF,HJ,BA,HD,HU⟩
   .by_cases HL:Z m=Z l
    .have HE:p7 (Zp a x m):=by
      refine⟨C,λy=>⟨E y,λd=>?_⟩⟩;refine d (λz=>z∈m) (M x HX) (λc b B z hz=>?_);have h:=Aa Q HL;rw[kX (by omega)]at h;exact h c b B z hz
     (have HR:(Z m:Int)=(Z l:Int):=by omega);go_wp2;go_ret;exact⟨m,t,s,rfl,HE,by omega,W,N⟩
    ·(have HR:¬(Z m:Int)=(Z l:Int):=by omega);have HZ:p7 (x∈m):=M x HX;go_wp2
     go_roundg (u+2-Z m)
     case measure=>have:=Aa HG;omega
     case rel=>exact⟨m,t,s,rfl,rfl,EM,C,HZ,E,W,N⟩
def MK(f:zA->zA->Bool)(hn:zA)(p:Lz):Bool:=p.1.sort==1&&f p.1.an hn
def Ly(f:zA->zA->Bool)(c:Dy):Option Int:=(c.zH.find? (MK f c.hn)).map λp=>p.1.place
def PM(f:zA->zA->Bool)(cs:pM Dy):Option Int:=cs.findSome? (Ly f)
def Sp{α β:Type}(f:α->Option β)(l:pM α)(k:Nat)(a:k<Z l)(h:∀c∈l.take k,f c=Y){b:β}(d:f l[k]=V b):l.findSome? f=V b:=by
 conv=>lhs;rw[<-mt k l]
 rw[pk];have:(l.take k).findSome? f=Y:=by rw[oO];exact h
 rw[this,lD a,oB,d];rfl
theorem UP(f:zA->zA->Bool)(HI:Option Addr)(Go:Nat)(d:pM Dy)(EY:∀x y,f x y=jj↔Ie d x y)(w:py)(h:DE w (U HI (Z d) Go) d)(HO:Z d<=1000)(hf:∀c∈d,Z c.zH<=1000)(hU:Z (d.flatMap Ck)<=800000):
  Calls prog 73 #[U HI (Z d) Go] w λe m=>e=oa (BM (PM f d))/\Ac [] w m:=by
 have HP:=Ab h;have HH:=Ab hf;have FL:=Ab EY;clear h hf EY;obtain⟨R,hR⟩:=pN (PM f d);rw[hR];have HF:=Ab hR;clear hR;go_enter func73,ntmps73;go_wp2
 go_loopg [10] (Z d) (λgk i wr=>∃(k:Nat),i=X J k/\k<=Z d/\gk=Z d-k/\p7 (∀c∈d.take k,Ly f c=Y)/\p7 (Ac [] w wr))
 case atStart=>exact⟨0,rfl,by omega,rfl,λc u=>by simp at u,pO _ _⟩
 case round=>
  obtain⟨k,rfl,hk,HB,HC,E⟩:=hrel;have HG:=Ab HB;clear HB;by_cases M:k<Z d
  .have A2:=HP.kept E;obtain⟨g,K5,B,a,o,C,t,A,z,b,he,W,d0,d1,d2,d3⟩:=F6 A2 k M;simp only[kS]at he;obtain⟨rfl,_,rfl⟩:=he;have AB:=Ab (A2.each _ (kV M)).body;have FP:=Aa HH _ (kV M);have Ix:p7 (∀p,Ly f ⟨B,a,o,U C (Z o) t,U A (Z b) z,b⟩=V p->R=V p):=by
    intro p HN;rw[<-Aa HF];exact Sp _ _ k M HC (by rw[W];exact HN)
   have H0:p7 (Ly f ⟨B,a,o,U C (Z o) t,U A (Z b) z,b⟩=Y->∀c∈d.take (k+1),Ly f c=Y):=by
    intro HS c u;rw[kW M,W,lw,kY]at u;rcases u with u|u
    .exact HC c u
    .rw[u];exact HS
   rw[W]at AB FP;simp only at FP AB;clear A2 W;have A0:=Ab (E.alloc (j3 [X J B,O a,U C (Z o) t,U A (Z b) z].toArray 189));have HD:=Ab ((pO [] wr).alloc (j3 [X J B,O a,U C (Z o) t,U A (Z b) z].toArray 189));have Ax:=Ab (pP wr [X J B,O a,U C (Z o) t,U A (Z b) z] 189);go_wp2;change Code.wp _ _ _ _ (wr.alloc (j3 [X J B,O a,U C (Z o) t,U A (Z b) z].toArray 189));have FO:=Ab (AB.kept HD);generalize wr.alloc (j3 [X J B,O a,U C (Z o) t,U A (Z b) z].toArray 189)=w1 at A0 Ax FO⊢;generalize wr.heap.size=N at Ax⊢;clear HD AB E d0 d1 d2 d3
   go_loopg [17] (Z b) (λgk i wr=>∃(j:Nat),i=X J j/\j<=Z b/\gk=Z b-j/\p7 ((b.take j).any (MK f a)=K)/\p7 (Ac [] w wr)/\p7 (Ac [] w1 wr))
   case atStart=>exact⟨0,rfl,by omega,rfl,by show _=_;simp,A0,pO _ _⟩
   case round=>
    clear A0;obtain⟨j,rfl,hj,ES,HJ,E,E0⟩:=hrel;have FF:=Ab ES;clear ES;by_cases BS:j<Z b
    .obtain⟨g2,K6,q,D,H,FC,S,IJ,e0,e1,e2,e3,e4,e5,e6,e7,e8⟩:=Jp (FO.kept E0) j BS;simp only[kS]at FC;obtain⟨rfl,_,rfl⟩:=FC;have HY:p7 (MK f a (q,U D (Z q.ts) H)=jj->R=V q.place):=by
      intro n;refine Ix _ ?_;unfold Ly;simp only;rw[FG _ _ j BS (Aa HJ) (by rw[S];exact n),S];rfl
     have AT:p7 (MK f a (q,U D (Z q.ts) H)=K->(b.take (j+1)).any (MK f a)=K):=by
      intro n;rw[CU _ _ j BS (Aa HJ),S];exact n
     clear S IJ;have I:=Ab (E.alloc (j3 (ml (Ay (q,U D (Z q.ts) H))) 217));have F:=Ab (E0.alloc (j3 (ml (Ay (q,U D (Z q.ts) H))) 217));have G:=Ab (pP wr (Ay (q,U D (Z q.ts) H)) 217);simp only[Ay]at I F G;cases hs:(q.sort==1)with
     |false=>
      (have HR:(q.sort !=1)=jj:=by simp[bne,hs]);have A1:=Ab (AT (by unfold MK;simp only;rw[hs];rfl));clear HY AT hs;go_wp2
      go_roundg (Z b-(j+1))
      case measure=>have:=Aa FF;omega
      case rel=>exact⟨j+1,by go_num,by omega,rfl,A1,I,F⟩
     |true=>
      (have HR:(q.sort !=1)=K:=by simp[bne,hs]);(have BA:p7 (f q.an a=jj->R=V q.place):=λn=>HY (by unfold MK;simp only;rw[hs,n];rfl));(have B9:p7 (f q.an a=K->(b.take (j+1)).any (MK f a)=K):=λn=>AT (by unfold MK;simp only;rw[hs,n];rfl));clear HY AT hs;(go_wp2_with fail);change Code.wp _ _ _ _ (wr.alloc (j3 [X J q.place,X J q.sort,X J q.ap,O q.an,U D (Z q.ts) H,X pD q.l.v,O q.l.s,X pD q.r.v,O q.r.s].toArray 217));generalize wr.alloc (j3 [X J q.place,X J q.sort,X J q.ap,O q.an,U D (Z q.ts) H,X pD q.l.v,O q.l.s,X pD q.r.v,O q.r.s].toArray 217)=w3 at I F G⊢;generalize wr.heap.size=T at G⊢;have t3:=G.cell 3;have n1:=(Ax.kept F).cell 1;simp at t3 n1;have HW:=Ab (Wm _ _ d q.an w3.drew (HP.kept I.drew) HO HH hU);have IA:p7 (∀m,Ac [] w3.drew m->p8 m ⟨T,3,Y⟩=V (O q.an)/\p8 m ⟨N,1,Y⟩=V (O a)/\p8 m ⟨T,0,Y⟩=V (X J q.place)/\Ac [] w m/\Ac [] w1 m):=by
       intro m L;exact⟨(G.drew.kept L).cell 3,((Ax.kept F).drew.kept L).cell 1,(G.drew.kept L).cell 0,I.drew.trans L,F.drew.trans L⟩
      have H9:p7 (∀(l:pM zA) ad cp B0 m,Zp d q.an l->Z l<=800001->p9 m B0 9 1 (U ad (Z l) cp) (Z l) (l.flatMap Ah)->Calls prog 121 #[U ad (Z l) cp,O a] m λe w9=>e=oa (pE (f q.an a))/\w9=m):=by
       intro l ad cp B0 m Q h1 h2;(have H5:aq l a=f q.an a:=by rw[mN,Lm,Q.iff,Aa FL]);have n:=T5 ad cp l a B0 m h2 (by omega) Q.zM;rw[H5]at n;exact n
      clear I F G HP FL
      go_region_held3 (λm=>p8 m ⟨T,3,Y⟩=V (O q.an)/\p8 m ⟨N,1,Y⟩=V (O a)) (go_keep) ((first|(go_at_call 122;refine HW.mono ?_;rintro e w4 ⟨l,H6,HZ,rfl,Q,HA,FW,k4⟩;have P:=Aa IA w4 k4;have f3:=P.1;have f1:=P.2.1;have f0:=P.2.2.1;have Bx:=Ab P;have HV:=Ab (H9 l H6 HZ _ w4 Q HA FW);clear Q HA FW k4 P)|(go_at_call 121;refine HV.mono ?_;rintro e w9 ⟨rfl,HM⟩;subst HM)))
      rename_i H8;clear H8;cases n:f q.an a with
      |true=>
       have HT:=Ab (BA n);clear BA B9 n;go_wp2;go_ret2;rw[Aa HT];exact⟨rfl,Bx.2.2.2.1⟩
      |false=>
       have HT:=Ab (B9 n);clear BA B9 n;go_wp2
       go_roundg (Z b-(j+1))
       case measure=>have:=Aa FF;omega
       case rel=>exact⟨j+1,by go_num,by omega,rfl,HT,Bx.2.2.2.1,Bx.2.2.2.2⟩
    .have HE:p7 (Ly f ⟨B,a,o,U C (Z o) t,U A (Z b) z,b⟩=Y):=by
      have h:=Aa HJ;rw[kX (by omega)]at h;show _=_;unfold Ly;simp only;have:b.find? (MK f a)=Y:=by
       rw[m7];intro y hy n;rw[mU]at h;exact h y hy n
      rw[this];rfl
     have A1:=Ab (H0 HE);go_wp2
     go_roundg (Z d-(k+1))
     case measure=>have:=Aa HG;omega
     case rel=>exact⟨k+1,by go_num,by omega,rfl,A1,E⟩
  .have HE:p7 (R=Y):=by
    have h:=Aa HC;rw[kX (by omega)]at h;show _=_;rw[<-Aa HF];unfold PM;rw[oO];exact h
   go_wp2;go_ret2;rw[HE.out];exact⟨rfl,E⟩
def Vt(cs:pM A4)(x y:zA)(b:Nat):Prop:=∃c∈cs,c.head.name=x/\∃l∈Al c,l.A.name=y/\(((l.kind==97)=jj/\b=0)\/((l.kind==33)=jj/\b=1))
def Hd(cs:pM A4)(x y:zA):Prop:=∀S:zA->Prop,S x->(∀u v b,Vt cs u v b->S u->S v)->S y
def Hd.refl(a:pM A4)(x:zA):Hd a x x:=λS h _=>h
def Hd.trans{x y z:zA}(h:Hd c x y)(k:Hd c y z):Hd c x z:=λS b a=>k S (h S b a) a
def Hd.edge(h:Vt c s t b):Hd c s t:=λS d a=>a s t b h d
def di(cs:pM A4):Prop:=∀x y,Vt cs x y 1->¬Hd cs y x
def Ve(f:zA->Nat):∀(a:pM Ba) (n:Nat),n<=Jj f n a/\∀p∈a,Ol f p<=Jj f n a
 |[],n=>⟨lC _,λp b=>by simp at b⟩
 |q::a,n=>by
  have ih:=Ve f a (max n (Ol f q));have e:Jj f n (q::a)=Jj f (max n (Ol f q)) a:=rfl;rw[e];refine⟨by have:=ih.1;omega,λp b=>?_⟩;rcases kZ.1 b with rfl|b
  .have:=ih.1;omega
  .exact ih.2 p b
def Z1(f:zA->Nat):∀(a:pM Ba) (n:Nat),Jj f n a=n\/∃p∈a,Jj f n a=Ol f p
 |[],n=>oi rfl
 |q::a,n=>by
  have e:Jj f n (q::a)=Jj f (max n (Ol f q)) a:=rfl;rw[e];rcases Z1 f a (max n (Ol f q))with h|⟨p,hp,h⟩
  .by_cases b:n<=Ol f q
   .exact oj ⟨q,by simp,by rw[h];omega⟩
   .exact oi (by rw[h];omega)
  .exact oj ⟨p,by simp[hp],h⟩
def ZE(f:zA->Nat)(x:zA):∀(a:pM A4) (n:Nat),n<=a.foldl (KL f x) n/\∀c∈a,c.head.name=x->∀p∈c.bl,Ol f p<=a.foldl (KL f x) n
 |[],n=>⟨lC _,λc h=>by simp at h⟩
 |c::a,n=>by
  rw[lR];have ih:=ZE f x a (KL f x n c);have j:n<=KL f x n c:=by
   unfold KL;split
   .exact(Ve f c.bl n).1
   .exact lC _
  refine⟨by have:=ih.1;omega,λd b g p e=>?_⟩;rcases kZ.1 b with rfl|b
  .have i:Ol f p<=KL f x n d:=by
    unfold KL;rw[ln ((EH _ _).2 g)];exact(Ve f d.bl n).2 p e
   have:=ih.1;omega
  .exact ih.2 d b g p e
def ZB(f:zA->Nat)(x:zA):∀(a:pM A4) (n:Nat),a.foldl (KL f x) n=n\/∃c∈a,c.head.name=x/\∃p∈c.bl,a.foldl (KL f x) n=Ol f p
 |[],n=>oi rfl
 |c::a,n=>by
  rw[lR];rcases ZB f x a (KL f x n c)with h|⟨d,hd,hx,p,b,h⟩
  .rw[h];unfold KL;by_cases e:(c.head.name.toList==x.toList)=jj
   .rw[ln e];rcases Z1 f c.bl n with g|⟨p,b,g⟩
    .exact oi g
    .exact oj ⟨c,by simp,(EH _ _).1 e,p,b,g⟩
   .rw[li e];exact oi rfl
  .exact oj ⟨d,by simp[hd],hx,p,b,h⟩
def L1{cs:pM A4}{x y:zA}(h:Vt cs x y b)(d:Nat):B5 cs d y+b<=B5 cs (d+1) x:=by
 obtain⟨c,k,m,l,i,e,j⟩:=h;obtain⟨p,f,rfl⟩:=lk.1 i;rw[B5];have o:=(ZE (B5 cs d) x cs 0).2 c k m p f;have n:Ol (B5 cs d) p=B5 cs d y+b:=by
  unfold Ol;rcases j with⟨a,rfl⟩|⟨a,rfl⟩
  .rw[ln a,e];rfl
  .have g:(p.1.kind==97)=K:=by
    (have:p.1.kind=33:=by simpa using a);rw[this];rfl
   rw[li (by rw[g];simp),ln a,e]
 omega
def Ru(e:pM A4)(d:Nat)(x:zA)(h:0<B5 e (d+1) x):∃y b,Vt e x y b/\B5 e (d+1) x=B5 e d y+b:=by
 rw[B5]at h⊢;rcases ZB (B5 e d) x e 0 with a|⟨c,j,k,p,i,a⟩
 .omega
 .unfold Ol at a;by_cases f:(p.1.kind==97)=jj
  .rw[ln f]at a;exact⟨p.1.A.name,0,⟨c,j,k,p.1,lB i,rfl,oi ⟨f,rfl⟩⟩,a⟩
  .rw[li f]at a;by_cases g:(p.1.kind==33)=jj
   .rw[ln g]at a;exact⟨p.1.A.name,1,⟨c,j,k,p.1,lB i,rfl,oj ⟨g,rfl⟩⟩,a⟩
   .rw[li g]at a;omega
def OC(a:pM A4):∀(d:Nat) (x:zA),B5 a d x<=B5 a (d+1) x
 |0,x=>by rw[show B5 a 0 x=0 from rfl];omega
 |d+1,x=>by
  by_cases h:0<B5 a (d+1) x
  .obtain⟨y,b,c,e⟩:=Ru a d x h;have g:=OC a d y;have f:=L1 c (d+1);omega
  .omega
def Yg(a:pM A4)(x:zA)(h:n<=m):B5 a n x<=B5 a m x:=by
 induction h with
 |refl=>exact lC _
 |step _ ih=>exact mp ih (OC a _ x)
structure kG(cs:pM A4)(d:Nat)(x v:zA):Prop where
 zb:∃D B:Nat,d<D/\B5 cs D v<B5 cs (D+1) v/\B5 cs (D+1) v=B+B5 cs (d+1) x/\Hd cs v x/\(0<B->∃u t,Vt cs u t 1/\Hd cs v u/\Hd cs t x)
def ZW(i:di c)(h:kG c n s s):False:=by
 obtain⟨D,B,l,j,k,_,f⟩:=h.zb;by_cases g:0<B
 .obtain⟨u,t,a,e,b⟩:=f g;exact i u t a (b.trans e)
 .have:=Yg c s (show n+1<=D by omega);omega
def ep{a:pM A4}(C:di a)(i:pM zA)(E:∀c∈a,c.head.name∈i)(hN:Z i<=6):∀(d:Nat) (x:zA) (e:pM zA),6<=Z e+d->e.Nodup->(∀v∈e,v∈i)->(∀v∈e,kG a d x v)->B5 a d x<B5 a (d+1) x->False:=by
 intro d
 induction d with
 |zero=>
  intro x e I p q j w;obtain⟨y,b,f,_⟩:=Ru a 0 x (by omega);obtain⟨c,s,o,_⟩:=f;have n:x∈i:=by rw[<-o];exact E c s
  have k:x∉e:=λh=>ZW C (j x h)
  have:=NG (x::e) i (nh.2 ⟨k,p⟩) (λz g=>by
   rcases kZ.1 g with rfl|g
   .exact n
   .exact q z g)
  simp only[lj]at this;omega
 |succ d ih=>
  intro x e I p q j w;obtain⟨y,b,f,W⟩:=Ru a (d+1) x (by omega);have n:x∈i:=by
   obtain⟨c,s,o,_⟩:=f;rw[<-o];exact E c s
  have k:x∉e:=λh=>ZW C (j x h)
  have S:=L1 f d;have Q:b<=1:=by
   obtain⟨c,_,_,l,_,_,h|h⟩:=f<;>omega
  refine ih y (x::e) (by simp only[lj];omega) (nh.2 ⟨k,p⟩) (λz g=>?_) (λv m=>?_) (by omega)
  .rcases kZ.1 g with rfl|g
   .exact n
   .exact q z g
  .rcases kZ.1 m with rfl|m
   .refine⟨d+1,b,by omega,w,by omega,Hd.edge f,λH=>?_⟩;(have r:b=1:=by omega);subst r;exact⟨v,y,f,Hd.refl a v,Hd.refl a y⟩
   .obtain⟨D,B,R,N,T,A,P⟩:=(j v m).zb;refine⟨D,B+b,by omega,N,by omega,A.trans (Hd.edge f),λH=>?_⟩;by_cases L:0<B
    .obtain⟨u,t,G,F,M⟩:=P L;exact⟨u,t,G,F,M.trans (Hd.edge f)⟩
    ·(have r:b=1:=by omega);subst r;exact⟨x,y,f,A,Hd.refl a y⟩
def gm{cs:pM A4}(k:di cs)(a:pM zA)(j:∀c∈cs,c.head.name∈a)(l:Z a<=6):CR cs (B5 cs 6):=by
 have i:∀x,B5 cs 7 x=B5 cs 6 x:=by
  intro x;have m:B5 cs 6 x<=B5 cs 7 x:=OC cs 6 x;by_cases h:B5 cs 6 x<B5 cs 7 x
  .exact(ep k a j l 6 x [] (by simp) nG (λv e=>by simp at e) (λv e=>by simp at e) h).elim
  .omega
 refine⟨λc f x g d=>?_,λc f x g d=>?_⟩
 .have h:=L1 (cs:=cs) (x:=c.head.name) (y:=x.A.name) (b:=0) ⟨c,f,rfl,x,g,rfl,oi ⟨d,rfl⟩⟩ 6;rw[i]at h;omega
 .have h:=L1 (cs:=cs) (x:=c.head.name) (y:=x.A.name) (b:=1) ⟨c,f,rfl,x,g,rfl,oj ⟨d,rfl⟩⟩ 6;rw[i]at h;omega
def iB(l:pM zA):pM zA:=l.foldl CS []
def It(c:Dy):pM zA:=((BE c).filter λt=>t.v==0).map λt=>t.s
def Og(l:pM zA)(x:zA):Em l x=jj↔x∈l:=Lm l x
def TG(l:pM zA)(x y:zA):y∈CS l x↔y=x\/y∈l:=by
 unfold CS;cases h:Em l x with
 |true=>
  simp only[if_true];have b:=(Og l x).1 h;exact⟨oj,λa=>by rcases a with rfl|a;exact b;exact a⟩
 |false=>
  simp only[k0,if_false,lw,kY];exact⟨λa=>by rcases a with a|a;exact oj a;exact oi a,λa=>by rcases a with a|a;exact oj a;exact oi a⟩
def Wh{l:pM zA}(h:l.Nodup)(x:zA):(CS l x).Nodup:=by
 unfold CS;cases hb:Em l x with
 |true=>simpa using h
 |false=>
  simp only[k0,if_false];rw[oe];refine⟨h,by simp,λa d b c e=>?_⟩;simp only[kY]at c;subst e c;rw[(Og l a).2 d]at hb;cases hb
def QC:∀(a l:pM zA),l.Nodup->(a.foldl CS l).Nodup/\∀y,y∈a.foldl CS l↔y∈a\/y∈l
 |[],l,h=>⟨h,λy=>by simp⟩
 |x::a,l,h=>by
  obtain⟨b,c⟩:=QC a (CS l x) (Wh h x);refine⟨b,λy=>?_⟩;rw[lR,c,TG,kZ];exact⟨λh=>by rcases h with h|h|h;exact oi (oj h);exact oi (oi h);exact oj h,λh=>by rcases h with(h|h)|h;exact oj (oi h);exact oi h;exact oj (oj h)⟩
def EQ(l:pM zA):(iB l).Nodup/\∀y,y∈iB l↔y∈l:=by
 obtain⟨a,b⟩:=QC l [] nG;exact⟨a,λy=>by rw[iB,b];simp⟩
def Mz{a b:pM zA}(d:a.Nodup)(e:b.Nodup)(h:∀y,y∈a↔y∈b):Z a=Z b:=
 Nat.le_antisymm (NG a b d (λy c=>(h y).1 c)) (NG b a e (λy c=>(h y).2 c))
def XL(cs:pM Dy)(k:Nat):Bool:=decide (12<k+1)||decide (6<Z (iB ((cs.take (k+1)).flatMap Ck)))||decide (6<Z (iB ((cs.take (k+1)).flatMap It)))
def XU(cs:pM Dy)(k:Nat)(c:Dy):Option (Int×Int):=
 if XL cs k||KG c then V (3,c.hp)
 else match jl cs (Bz c)with
  |some p=>V (4,p)
  |none=>match Ik c with
   |some p=>V (5,p)
   |none=>Y
def Pw(cs:pM Dy):Nat->pM Dy->Option (Int×Int)
 |_,[]=>Y
 |k,c::l=>match XU cs k c with
  |some r=>V r
  |none=>Pw cs (k+1) l
def Zq:Option (Int×Int)->p5
 |some r=> .tuple #[X J r.1,X J r.2]
 |none=> .tuple #[X J 0,X J 0]
structure j9(c:Dy):Prop where
 pc:Qk c
 zQ:Z (BE c)<=90000
def j9.atoms{c:Dy}(h:j9 c)(d:Ki w 0 c.hv c.bv c.zV c.zH):∀a∈Bz c,lenOf a.tv<=1000:=by
 intro a b;rcases kZ.1 b with rfl|b
 .obtain⟨j,i,e⟩:=Ak d.head;simp only;rw[e];exact h.pc.head.2
 .unfold AS at b;obtain⟨p,g,rfl⟩:=lk.1 b;have f:=(lK.1 g).1;obtain⟨j,i,e⟩:=Ak (d.body.each p f).1;simp only;rw[e];exact(h.pc.each p f).2
def V6(e:k<Z p){d th':pM zA}(h:∀y,y∈d↔y∈(p.take k).flatMap It)(a:Fg (BE p[k]) d th'):∀y,y∈th'↔y∈(p.take (k+1)).flatMap It:=by
 intro y;rw[a y,h y,kW e,lM,lw];simp only[lF,mx,lU];have:(∃t∈BE p[k],t.v=0/\t.s=y)↔y∈It p[k]:=by
  unfold It;rw[lk];constructor
  .rintro ⟨t,b,a,c⟩;exact⟨t,lK.2 ⟨b,by simpa using a⟩,c⟩
  .rintro ⟨t,b,c⟩;obtain⟨f,g⟩:=lK.1 b;exact⟨t,f,by simpa using g,c⟩
 rw[this];exact⟨λh=>by rcases h with h|h;exact oj h;exact oi h,λh=>by rcases h with h|h;exact oj h;exact oi h⟩
def Y4(c:k<Z p){a nm':pM zA}(h:∀y,y∈a↔y∈(p.take k).flatMap Ck)(b:∀y,y∈nm'↔y∈Ck p[k]\/y∈a):∀y,y∈nm'↔y∈(p.take (k+1)).flatMap Ck:=by
 intro y;rw[b y,h y,kW c,lM,lw];simp only[lF,mx,lU];exact⟨λh=>by rcases h with h|h;exact oj h;exact oi h,λh=>by rcases h with h|h;exact oj h;exact oi h⟩
theorem Ov(KD:Option Addr)(IJ:Nat)(a:pM Dy)(w:py)(h:DE w (U KD (Z a) IJ) a)(A:∀c∈a,fF w w.heap.size c)(K4:Z a<=1000)(hf:∀c∈a,j9 c):
  Calls prog 72 #[U KD (Z a) IJ] w λe w'=>e=oa (Zq (Pw a 0 a))/\Ac [] w w':=by
 have HP:=Ab h;have JA:=Ab hf;have Ix:=Ab A;obtain⟨R,hR⟩:=pN (Pw a 0 a);rw[hR];have KB:=Ab hR;clear h hf A hR;have BA:p7 (Fe (w.alloc (j3 [X J 0,U Y 0 0,U Y 0 0].toArray 210)) w.heap.size ((0:Nat):Int) (U Y 0 0) (U Y 0 0) [] []):=
  ⟨pP w _ 210,lH _ _ _ _,lH _ _ _ _,λk hk=>by simp[pI]at hk,λi j u=>by simp at u,λi j u=>by simp at u⟩
 have Bx:=Ab (VY.of ((pO [] w).alloc (j3 [X J 0,U Y 0 0,U Y 0 0].toArray 210)) (lC _) (by simp));have C:p7 (∀wr,VY w.heap.size w wr->Ac [] w wr):=λwr hl=>hl.kept (lC _)
 go_enter func72,ntmps72;go_wp2;change Code.wp _ _ _ _ (w.alloc (j3 [X J 0,U Y 0 0,U Y 0 0].toArray 210));generalize w.alloc (j3 [X J 0,U Y 0 0,U Y 0 0].toArray 210)=w1 at BA Bx⊢;obtain⟨b,HO⟩:=pN w.heap.size;rw[HO]at BA Bx Ix C⊢;have Nd:=Ab HO;clear HO
 go_loopg [13] (Z a) (λgk i wr=>∃(k:Nat) (nv S:p5) (N W:pM zA),i=X J k/\k<=Z a/\k<=12/\gk=Z a-k/\Z N<=6/\Z W<=6/\p7 (Fe wr b (k:Int) nv S N W)/\p7 (∀y,y∈N↔y∈(a.take k).flatMap Ck)/\p7 (∀y,y∈W↔y∈(a.take k).flatMap It)/\p7 (Pw a k (a.drop k)=R)/\p7 (VY b w wr))
 case atStart=>exact⟨0,_,_,[],[],rfl,by omega,by omega,rfl,by simp,by simp,BA,λy=>by simp,λy=>by simp,KB,Bx⟩
 case round=>
  clear BA Bx KB;obtain⟨k,nv,S,N,W,rfl,hk,NB,JJ,NM,Nq,HC,H7,HU,HR,HL⟩:=hrel;have HG:=Ab JJ;clear JJ;by_cases A:k<Z a
  .have HX:=Aa C wr HL;have H2:=HP.kept HX;obtain⟨g,NA,l,s,f,q,m,o,n,d,he,HW,d0,d1,d2,d3⟩:=F6 H2 k A;simp only[kS]at he;obtain⟨rfl,_,rfl⟩:=he;have E0:=Ab ((Ix _ (kV A)).low HL);have z:=Ab (JA _ (kV A));have F:p7 ((match XU a k a[k] with|some r=>V r|none=>Pw a (k+1) (a.drop (k+1)))=R):=by
    have h:=Aa HR;rw[lD A,Pw]at h;exact h
   have HH:=Ab (λnm'=>Y4 (nm':=nm') A H7);have FF:=Ab (λth'=>V6 (th':=th') A HU);rw[HW]at E0 z F HH FF;clear H2 HW HR H7 HU HX;have M3:=HC.zN.lt;have kA:=(pO [] wr).alloc (j3 [X J l,O s,U q (Z f) m,U o (Z d) n].toArray 189);have E:=Ab (HC.kept kA);have P:=Ab (pP wr [X J l,O s,U q (Z f) m,U o (Z d) n] 189);have lA:=VY.of kA (b:=b) (by omega) (by simp);have I:=Ab (HL.trans lA);have M:=Ab (E0.low lA);have HB:p7 (∀v:p5,(v=nv\/v=S)->v.ownBlock≠V wr.heap.size):=by
    intro v hv e;rcases hv with rfl|rfl
    .have:=(HC.rn.lt _ e).2;omega
    .have:=(HC.rt.lt _ e).2;omega
   have FA:=Ab (bL b k nv S N W ⟨l,s,f,U q (Z f) m,U o (Z d) n,d⟩ _ E M z.pc z.zQ (by omega) (by omega) (by omega));(have LS:b+1<=(wr.alloc (j3 [X J l,O s,U q (Z f) m,U o (Z d) n].toArray 189)).heap.size:=by simp;omega);clear kA lA;simp only[Bo]at FA;(go_wp2_with fail);refine FA.mono ?_;rintro e w5 ⟨rfl,KA,HV,B9,B0,AT,H4,H5,NL,Nx,k5⟩;have Ha:=P.kept k5 (by
    intro t
    simp only[kZ,lw]at t
    rcases t with t|t|t
    .omega
    .exact HB nv (oi rfl) (by simpa using t)
    .exact HB S (oj rfl) (by simpa using t))
   have l5:VY b (wr.alloc (j3 [X J l,O s,U q (Z f) m,U o (Z d) n].toArray 189)) w5:=VY.of k5 (by omega) (λi u=>by
    simp only[kZ,lw]at u
    rcases u with u|u|u
    .omega
    .exact E.yI.1 i u
    .exact E.yI.2 i u)
   have FW:=Ab (I.trans l5);have HF:=Ab (M.low l5);have Jx:=Ab (HH B9 H4);have H1:=Ab (FF B0 H5);have B2:p7 ((decide (12<k+1)||decide (6<Z B9)||decide (6<Z B0))=XL a k):=by
    show _=_;unfold XL;rw[Mz (AT.rin.nodup Gg) (EQ _).1 (λy=>(Aa Jx y).trans ((EQ _).2 y).symm),Mz (AT.rit.nodup Gg) (EQ _).1 (λy=>(Aa H1 y).trans ((EQ _).2 y).symm)]
   have ES:=Ab (SM b (k+1) KA HV B9 B0 w5 AT);rw[Aa B2]at ES;have LB:wr.heap.size<w5.heap.size:=Ha.lt;have G:=Ab Ha;have FT:=Ab AT;(have K1:wr.heap.size≠b:=by omega);clear FA AT H4 H5 k5 l5 E P I M HB HH FF Ha d0 d1 d2 d3 LS HL E0 HC;generalize wr.heap.size=T at G LB K1⊢;(go_wp2_with fail);refine ES.mono ?_;rintro e w6 ⟨rfl,K2⟩;subst K2;clear ES;have D:=G.cell 0;have t1:=G.cell 1;have t2:=G.cell 2;have t3:=G.cell 3;simp at D t1 t2 t3;cases t:XL a k with
   |true=>
    have B:p7 (R=V (3,l)):=by
     show _=_;rw[<-Aa F];unfold XU;rw[t];rfl
    clear t B2 F;go_wp2_with fail
    go_region_held3 (λw'=>p8 w' ⟨T,0,Y⟩=V (X J l)) (go_keep) (fail)
    rename_i FP;clear FP;go_wp2;go_ret2;rw[Aa B];exact⟨rfl,C _ FW.drew⟩
   |false=>
    have L:=Aa B2;rw[t]at L;simp only[nK,ng]at L;have EX:=Ab (Qe ⟨l,s,f,U q (Z f) m,U o (Z d) n,d⟩ w6 HF.at_ z.pc.lits);simp only[Bo]at EX;have H9:=Ab t;have M1:=L.1.1;have NN:=L.1.2;have M2:=L.2;clear t B2 L;(go_wp2_with fail);refine EX.mono ?_;rintro e w7 ⟨rfl,k7⟩;have H:=Ab (G.kept k7);have DT:=Ab (FT.kept k7);have l7:=VY.of k7 (b:=b) (by have:=FT.zN.lt;omega) (by simp);have HJ:=Ab (FW.trans l7);have Q:=Ab (HF.low l7);have Nj:T<w7.heap.size:=H.lt;(have M0:b<=w7.heap.size:=by have:=DT.zN.lt;omega);clear D t1 t2 t3 EX k7 l7 G FT FW HF;have D:=H.cell 0;have t1:=H.cell 1;have t2:=H.cell 2;have t3:=H.cell 3;simp at D t1 t2 t3;cases hg:KG ⟨l,s,f,U q (Z f) m,U o (Z d) n,d⟩with
    |true=>
     have B:p7 (R=V (3,l)):=by
      show _=_;rw[<-Aa F];unfold XU;rw[hg,oY];rfl
     clear hg F;go_wp2_with fail
     go_region_held3 (λw'=>p8 w' ⟨T,0,Y⟩=V (X J l)) (go_keep) (fail)
     rename_i FP;clear FP;go_wp2;go_ret2;rw[Aa B];exact⟨rfl,C _ HJ.drew⟩
    |false=>
     have x:p7 ((match(match jl a (Bz ⟨l,s,f,U q (Z f) m,U o (Z d) n,d⟩)with|some p=>V ((4:Int),p)|none=>match Ik ⟨l,s,f,U q (Z f) m,U o (Z d) n,d⟩with|some p=>V ((5:Int),p)|none=>Y)with|some r=>V r|none=>Pw a (k+1) (a.drop (k+1)))=R):=by
      have h:=Aa F;unfold XU at h;rw[Aa H9,hg]at h;exact h
     clear hg F H9;have BS:=Ab (LT ⟨l,s,f,U q (Z f) m,U o (Z d) n,d⟩ w7 Q.at_ z.pc.lits);have H6:=Ab (II Q.at_);have H0:Z (Bz ⟨l,s,f,U q (Z f) m,U o (Z d) n,d⟩)<=1001:=by
      have:=Ej d;have h2:=z.pc.lits;simp only at h2;simp[Bz];omega
     have H8:=Ab (z.atoms Q.at_);simp only[Bo]at BS;generalize Bz ⟨l,s,f,U q (Z f) m,U o (Z d) n,d⟩=aT at BS x H6 H0 H8;(go_wp2_with fail);refine BS.mono ?_;rintro e wa ⟨MY,LE,rfl,IS,ka⟩;have P:=Ab (H.kept ka);have E:=Ab (DT.kept ka);have la:=VY.of ka (b:=b) M0 (by simp);have I:=Ab (HJ.trans la);have M:=Ab (Q.low la);(have MB:b<=wa.heap.size:=by have:=E.zN.lt;omega);have FB:=Ab (Mf MY LE aT _ _ _ a wa IS H6 H0 H8 (HP.kept (C wa I)) (λc hc=>(JA c hc).pc.lits) K4);clear BS IS ka la H DT HJ Q D t1 t2 t3;generalize jl a aT=RO at FB x;(go_wp2_with fail);refine FB.mono ?_;rintro e w8 ⟨rfl,k8⟩;have AB:=Ab (P.kept k8);have HD:=Ab (E.kept k8);have l8:VY b wa w8:=VY.of k8 MB (by simp);have Go:=Ab (I.trans l8);have HT:=Ab (M.low l8);(have K6:b<=w8.heap.size:=by have:=HD.zN.lt;omega);clear FB k8 l8 P E I M;have D:=AB.cell 0;have t1:=AB.cell 1;have t2:=AB.cell 2;have t3:=AB.cell 3;simp at D t1 t2 t3;cases RO with
     |some p=>
      have B:p7 (R=V (4,p)):=x.symm;clear x;simp only[BM];go_wp2;go_ret2;rw[Aa B];exact⟨rfl,C _ Go⟩
     |none=>
      have A2:=Ab (P9 ⟨l,s,f,U q (Z f) m,U o (Z d) n,d⟩ w8 HT.at_ z.pc (by have:=z.zQ;omega));simp only[Bo]at A2;simp only at x;generalize Ik ⟨l,s,f,U q (Z f) m,U o (Z d) n,d⟩=UO at A2 x;simp only[BM];(go_wp2_with fail);refine A2.mono ?_;rintro e w9 ⟨rfl,k9⟩;have K3:=Ab (HD.kept k9);have HY:=Ab (Go.trans (VY.of k9 K6 (by simp)));clear A2 k9 HD Go HT AB D t1 t2 t3;cases UO with
      |some p=>
       have B:p7 (R=V (5,p)):=x.symm;clear x;simp only[BM];go_wp2;go_ret2;rw[Aa B];exact⟨rfl,C _ HY⟩
      |none=>
       have MN:p7 (Pw a (k+1) (a.drop (k+1))=R):=x;clear x;simp only[BM];go_wp2
       go_roundg (Z a-(k+1))
       case measure=>have:=Aa HG;omega
       case rel=>exact⟨k+1,KA,HV,B9,B0,by go_num,by omega,by omega,rfl,by omega,by omega,K3,Jx,H1,MN,HY⟩
  .have B:p7 (R=Y):=by
    have h:=Aa HR;rw[lS (by omega),Pw]at h;exact h.symm
   go_wp2;go_ret2;rw[B.out];exact⟨rfl,C wr HL⟩
def SR(f:zA->zA->Bool)(pcs:pM Dy):Int×Int:=match Pw pcs 0 pcs with
 |some r=>r
 |none=>match PM f pcs with
  |some p=>(6,p)
  |none=>(0,0)
structure Wf(c:Dy):Prop where
 head:lenOf c.hv=Z c.zV
 lits:∀p∈c.zH,lenOf p.2=Z p.1.ts
def Ki.wf{c:Dy}(h:Ki w 0 c.hv c.bv c.zV c.zH):Wf c:=by
 refine⟨?_,λp a=>?_⟩
 .obtain⟨d,b,e⟩:=Ak h.head;rw[e];rfl
 .obtain⟨d,b,e⟩:=Ak (h.body.each p a).1;rw[e];rfl
def Ex(s:zA)(f:zA->zA->Bool)(r:Int×Int):Prop:=
 if 300<s.size then r=(1,0)
 else match Dc (Dl s) 0 [] with
  | .error p=>r=(2,p)
  | .ok cs=>∃pcs:pM Dy,pcs.map Dy.pc=cs/\(∀c∈pcs,Wf c)/\r=SR f pcs
structure Vy(f:zA->zA->Bool)(pcs:pM Dy):Prop where
 yd:∀x y,f x y=jj↔Ie pcs x y
 fit:∀c∈pcs,j9 c
 len:Z pcs<=1000
 names:Z (pcs.flatMap Ck)<=800000
def Gq.into{d:pM Dy}(h:Gq w n z d):DE w z d/\∀c∈d,fF w w.heap.size c:=by
 refine⟨⟨Am h.row (lz _),λc e=>(h.each c e).at_.base (lz _)⟩,λc e=>?_⟩;have b:=(h.each c e).at_;exact⟨b.base (lz _),λk a=>(b.head.lt k a).2,λk a=>(b.body.row.lt k a).2,λp f k a=>(World.ownsRow.lt (b.body.each p f).1 k a).2⟩
def gE{c:Dy}{r:Int×Int}(h:XU p k c=V r):r.1≠0:=by
 unfold XU at h;split at h
 .simp only[ld]at h;subst h;simp
 .split at h
  .simp only[ld]at h;subst h;simp
  .split at h
   .simp only[ld]at h;subst h;simp
   .cases h
def aB{b:pM Dy}:∀(l:pM Dy) (k:Nat) {r:Int×Int},Pw b k l=V r->r.1≠0
 |[],k,r,h=>by simp[Pw]at h
 |c::l,k,r,h=>by
  rw[Pw]at h;split at h
  .rename_i d a;simp only[ld]at h;subst h;exact gE a
  .exact aB l (k+1) h
def ev(s:zA)(w:py)(lv:p5)(n:Nat)(r:Int×Int):Prop:=r.1=0->s.size<=300/\∃cs pcs,Dc (Dl s) 0 []=.ok cs/\pcs.map Dy.pc=cs/\n=Z pcs/\DE w lv pcs
theorem LY(s:zA)(f:zA->zA->Bool)(w:py)(BS:s.size<=9223372036854775807)(B:s.size<=300->∀b,Dc (Dl s) 0 []=.ok b->∀a,a.map Dy.pc=b->Vy f a):
  Calls prog 40 #[O s] w λe M=>∃(j:Option Addr) (n k:Nat) (r:Int×Int),e=oa (.tuple #[U j n k,X J r.1,X J r.2])/\Ex s f r/\ev s M (U j n k) n r/\Ac [] w M:=by
 by_cases S:300<s.size
 .have A0:(300:Int)<(s.size:Int):=by omega
  have i:p7 (Ex s f (1,0)):=by
   show Ex _ _ _;unfold Ex;rw[ln S]
  clear B;go_enter func40,ntmps40;go_wp2;go_ret3;exact⟨Y,0,0,(1,0),rfl,i,λh=>absurd h (by decide),pO _ _⟩
 .have A0:¬(300:Int)<(s.size:Int):=by omega
  have W:=Ab (Ka s w (by omega));have y:=Ab (B (by omega));have u:p7 (∀r,Ex s f r↔(match Dc (Dl s) 0 [] with| .error p=>r=(2,p)| .ok b=>∃a:pM Dy,a.map Dy.pc=b/\(∀c∈a,Wf c)/\r=SR f a)):=by
   intro r;unfold Ex;rw[li S]
  clear B;go_enter func40,ntmps40;go_wp2_with fail
  refine W.mono ?_;intro e w2 x;clear W;cases hp:Dc (Dl s) 0 [] with
  |error p=>
   rw[hp]at x;obtain⟨rfl,m⟩:=x;have i:p7 (Ex s f (2,p)):=by
    show Ex _ _ _;rw[Aa u,hp]
   have v:=Ab m;clear hp u y m;go_wp2;go_ret3;exact⟨Y,0,0,(2,p),rfl,i,λh=>absurd h (by simp),v⟩
  |ok b=>
   rw[hp]at x;obtain⟨j,k,a,rfl,o,G,m⟩:=x;have q:=Aa y b hp a o;(have AO:Z b=Z a:=by rw[<-o];simp);rw[AO]at G⊢;obtain⟨t,R⟩:=G.into;have i:p7 (∀r,r=SR f a->Ex s f r):=by
    intro r E;rw[Aa u,hp];exact⟨a,o,λc d=>(t.each c d).wf,E⟩
   have L:=Ab (Ov j k a w2 t R q.len q.fit);have T:=Ab t;have P:p7 (Dc (Dl s) 0 []=.ok b/\a.map Dy.pc=b):=⟨hp,o⟩;have l:=Ab q;have v:=Ab m;clear hp u y m o G t R q;(go_wp2_with fail);refine L.mono ?_;rintro e w3 ⟨rfl,C⟩;have z:=Ab (T.kept C);have H:=Ab (v.trans C);clear L T v C;cases d:Pw a 0 a with
   |some r=>
    have F:=aB _ _ d;(have AH:(r.1 !=0)=jj:=by simp[bne,F]);have g:=Ab (i r (by unfold SR;rw[d]));obtain⟨N,r2⟩:=r;simp only at AH F;have A2:p7 (N≠0):=F;clear d i;simp only[Zq];go_wp2;go_ret3;exact⟨Y,0,0,(N,r2),rfl,g,λh=>absurd h A2,H⟩
   |none=>
    have Ax:=Ab (UP f j k a l.yd w3 z l.len (λc d=>(l.fit c d).pc.lits) l.names);have g:p7 (∀r,r=(match PM f a with|some p=>((6:Int),p)|none=>(0,0))->Ex s f r):=by
     intro r E;refine i r ?_;unfold SR;rw[d];exact E
    clear d i l;simp only[Zq];(go_wp2_with fail);refine Ax.mono ?_;rintro e w4 ⟨rfl,I⟩;have Q:=Ab (H.trans I);have A1:p7 (s.size<=300/\∃b A,Dc (Dl s) 0 []=.ok b/\A.map Dy.pc=b/\Z a=Z A/\DE w4 (U j (Z a) k) A):=⟨by omega,b,a,P.1,P.2,rfl,z.kept I⟩;clear Ax I H z;cases hl:PM f a with
    |some p=>
     rw[hl]at g;have D:=Ab (g (6,p) rfl);clear hl g;simp only[BM];go_wp2;go_ret3;exact⟨Y,0,0,(6,p),rfl,D,λh=>absurd h (by simp),Q⟩
    |none=>
     rw[hl]at g;have D:=Ab (g (0,0) rfl);clear hl g;simp only[BM];go_wp2;go_ret3;exact⟨j,Z a,k,(0,0),rfl,D,λ_=>A1,Q⟩
def F2{α β:Type}(R:α->β->Prop):pM α->pM β->Prop
 |[],[]=>True
 |a::l,b::m=>R a b/\F2 R l m
 |_,_=>False
def F2.nil{α β:Type}{R:α->β->Prop}:F2 R ([]:pM α) ([]:pM β):=trivial
def F2.cons{α β:Type}{R:α->β->Prop}{a:α}{b:β}{l:pM α}{m:pM β}(h:R a b)(t:F2 R l m):F2 R (a::l) (b::m):=⟨h,t⟩
def F2.ind{α β:Type}{R:α->β->Prop}{motive:(l:pM α)->(m:pM β)->F2 R l m->Prop}(nil:motive [] [] F2.nil)(cons:∀{a:α} {b:β} {l:pM α} {m:pM β} (h:R a b) (t:F2 R l m),motive l m t->motive (a::l) (b::m) (F2.cons h t)):∀{l:pM α} {m:pM β} (h:F2 R l m),motive l m h
 |[],[],_=>nil
 |[],_::_,h=>h.elim
 |_::_,[],h=>h.elim
 |_::_,_::_,h=>cons h.1 h.2 (F2.ind nil cons h.2)
def F2.of_map{α β γ:Type}{f:α->γ}{g:β->γ}:∀{l:pM α} {m:pM β},l.map f=m.map g->F2 (λa b=>f a=g b) l m
 |[],[],_=>F2.nil
 |[],_::_,h=>by simp at h
 |_::_,[],h=>by simp at h
 |a::l,b::m,h=>by
  simp only[lE,mj]at h;exact F2.cons h.1 (F2.of_map h.2)
def F2.lenX{α β:Type}{R:α->β->Prop}{l:pM α}{m:pM β}(h:F2 R l m):Z l=Z m:=by
 induction h using F2.ind with
 |nil=>rfl
 |cons _ _ ih=>simp[ih]
def F2.take{α β:Type}{R:α->β->Prop}{l:pM α}{m:pM β}(h:F2 R l m)(k:Nat):F2 R (l.take k) (m.take k):=by
 induction h using F2.ind generalizing k with
 |nil=>simp;exact F2.nil
 |cons h1 _ ih=>
  cases k with
  |zero=>simp;exact F2.nil
  |succ k=>simp only[nQ];exact F2.cons h1 (ih k)
def F2.flatMap{α β γ:Type}{R:α->β->Prop}{f:α->pM γ}{g:β->pM γ}(c:∀a b,R a b->f a=g b){l:pM α}{m:pM β}(h:F2 R l m):l.flatMap f=m.flatMap g:=by
 induction h using F2.ind with
 |nil=>rfl
 |cons h1 _ ih=>rw[lF,lF,c _ _ h1,ih]
def F2.find{α β γ:Type}{R:α->β->Prop}{f:α->Bool}{g:β->Bool}{u:α->γ}{v:β->γ}(d:∀a b,R a b->f a=g b/\u a=v b){l:pM α}{m:pM β}(h:F2 R l m):(l.find? f).map u=(m.find? g).map v:=by
 induction h using F2.ind with
 |nil=>rfl
 |cons h1 _ ih=>
  obtain⟨e,c⟩:=d _ _ h1;rw[nV,nV,e];split
  .simp[c]
  .exact ih
def F2.mem{α β:Type}{R:α->β->Prop}{l:pM α}{m:pM β}(h:F2 R l m):∀b∈m,∃a∈l,R a b:=by
 induction h using F2.ind with
 |nil=>intro b c;simp at c
 |cons h1 _ ih=>
  intro b c;rcases kZ.1 c with rfl|c
  .exact⟨_,by simp,h1⟩
  .obtain⟨a,d,e⟩:=ih b c;exact⟨a,by simp[d],e⟩
def F2.yK{α β:Type}{R:α->β->Prop}{l:pM α}{m:pM β}(h:F2 R l m):∀a∈l,∃b∈m,R a b:=by
 induction h using F2.ind with
 |nil=>intro b c;simp at c
 |cons h1 _ ih=>
  intro b c;rcases kZ.1 c with rfl|c
  .exact⟨_,by simp,h1⟩
  .obtain⟨a,d,e⟩:=ih b c;exact⟨a,by simp[d],e⟩
def F2.mono{α β:Type}{R S:α->β->Prop}{l:pM α}{m:pM β}(h:F2 R l m)(c:∀a∈l,∀b∈m,R a b->S a b):F2 S l m:=by
 induction h using F2.ind with
 |nil=>exact F2.nil
 |cons h1 _ ih=>exact F2.cons (c _ (by simp) _ (by simp) h1) (ih (λa d b e=>c a (by simp[d]) b (by simp[e])))
structure T4(p:Lz)(q:Ba):Prop where
 eq:p.1=LU q.1
 len:lenOf p.2=Z q.1.A.args
 plain:MF q=K->q.1.A.args=[]
def Zo(t:AK):((ct t).v==0)=(t.v==0):=by
 unfold ct;simp only;rw[mN];simp only[mT];constructor
 .intro h;apply mO.1;rw[show(0:UInt8).toNat=0 from rfl]
  omega
 .intro h;rw[h];rfl
def iG(t:AK)(v:UInt8):((ct t).v==(v.toNat:Int))=(t.v==v):=by
 unfold ct;simp only;rw[mN];simp only[mT];constructor
 .intro h;apply mO.1;omega
 .intro h;rw[h]
def SY(k:UInt8):(F9 k==0)=(k==97):=by
 unfold F9;by_cases h:k=97
 .simp[h]
 .by_cases a:k=33
  .simp[a]
  .by_cases b:k=61
   .simp[b]
   .by_cases c:k=35
    .simp[c]
    .simp[h,a,b,c]
def dm(k:UInt8):(F9 k==1)=(k==33):=by
 unfold F9;by_cases h:k=97
 .simp[h]
 .by_cases a:k=33
  .simp[a]
  .by_cases b:k=61
   .simp[b]
   .by_cases c:k=35
    .simp[c]
    .simp[h,a,b,c]
def T4.atom{p:Lz}{q:Ba}(h:T4 p q):Bi p.1=MF q:=by
 unfold Bi MF;rw[h.eq];simp only[LU,SY,dm]
def T4.zQ{p:Lz}{q:Ba}(h:T4 p q):AR p.1=(AA q).map ct:=by
 unfold AR AA;rw[h.atom,h.eq];split<;>simp[LU]
structure RX(c:Dy)(r:A4):Prop where
 hp:c.hp=r.head.at_
 hn:c.hn=r.head.name
 zV:c.zV=r.head.args.map ct
 lits:F2 T4 c.zH r.bl
 len:lenOf c.hv=Z r.head.args
 at_:r.at_=r.head.at_
def Hu(r:A4):pM zA:=r.head.name::(r.bl.filter MF).map λq=>q.1.A.name
def GY(r:A4):pM AK:=r.head.args++r.bl.flatMap AA
def Yy{a:pM Lz}{b:pM Ba}(h:F2 T4 a b):Gw a=(b.filter MF).map λq=>q.1.A.name:=by
 unfold Gw
 induction h using F2.ind with
 |nil=>rfl
 |cons h1 _ ih=>
  rw[mW,mW,h1.atom];split
  .rw[lE,lE,ih,h1.eq];rfl
  .exact ih
def RX.names{c:Dy}{r:A4}(h:RX c r):Ck c=Hu r:=by
 unfold Ck Hu;rw[h.hn,Yy h.lits]
def RX.zQ{c:Dy}{r:A4}(h:RX c r):BE c=(GY r).map ct:=by
 unfold BE GY A5;rw[h.zV,lV,oS,F2.flatMap (λa b d=>d.zQ) h.lits]
def Oi(r:A4):pM zA:=((GY r).filter λt=>t.v==0).map λt=>t.s
def RX.zC{c:Dy}{r:A4}(h:RX c r):It c=(Oi r).map DX:=by
 unfold It Oi;rw[h.zQ,List.filter_map,mq,mq];have e:(GY r).filter ((λt=>t.v==0)∘ct)=(GY r).filter λt=>t.v==0:=by
  apply List.filter_congr;intro t _;exact Zo t
 rw[e];rfl
def VU(f:zA->zA)(h:∀a b,f a=f b->a=b)(l:pM zA):Z (iB (l.map f))=Z (iB l):=by
 rw[show Z (iB l)=Z ((iB l).map f) from by simp]
 refine Mz (EQ _).1 (List.Pairwise.map f (λa b g e=>g (h a b e)) (EQ l).1) (λy=>?_);rw[(EQ _).2,lk,lk];constructor
 .rintro ⟨x,d,c⟩;exact⟨x,((EQ l).2 x).2 d,c⟩
 .rintro ⟨x,d,c⟩;exact⟨x,((EQ l).2 x).1 d,c⟩
def V3(l:pM zA)(r:A4):Ml l r=(Hu r).foldl CS l:=by
 unfold Ml Hu;rw[lR];generalize CS l r.head.name=l0
 induction r.bl generalizing l0 with
 |nil=>rfl
 |cons q bl ih=>
  rw[lR,mW];unfold zD;cases hq:MF q with
  |true=>
   simp only[if_true,lE,lR];exact ih _
  |false=>
   simp only[k0,if_false];exact ih _
def MW{α β γ:Type}(f:γ->β->γ)(g:α->pM β):∀(l:pM α) (c:γ),(l.flatMap g).foldl f c=l.foldl (λc a=>(g a).foldl f c) c
 |[],c=>rfl
 |a::l,c=>by rw[lF,mi,lR,MW f g l]
def Rt(a:pM A4):G2 a=iB (a.flatMap Hu):=by
 unfold G2 iB;rw[MW]
 congr 1
 funext l r
 exact V3 l r
def Py(x y:zA):∀(l:pM zA) (a:pM zA×Bool),(y∈(l.foldl (Dh x) a).1↔y∈a.1\/y∈l\/(y=x/\a.2=K/\(l.foldl (Dh x) a).2=jj))/\(a.2=jj->(l.foldl (Dh x) a).2=jj)
 |[],a=>by
  refine⟨?_,λh=>h⟩;simp only[List.foldl_nil,mr,false_or];constructor
  .exact oi
  .rintro (h|⟨_,f,e⟩)
   .exact h
   .rw[f]at e;cases e
 |z::l,a=>by
  obtain⟨b,c⟩:=Py x y l (Dh x a z);rw[lR];unfold Dh at b c⊢;cases hb:(!a.2&&Gb x z)with
  |true=>
   have d:a.2=K:=by
    cases h:a.2 with
    |false=>rfl
    |true=>rw[h]at hb;simp at hb
   rw[hb]at b c;simp only[if_true]at b c⊢;have g:=c trivial;refine⟨?_,λh=>by rw[d]at h;cases h⟩;rw[b,g,d];simp only[lw,kZ,mr,Bool.true_eq_false,false_and,and_false,or_false,true_and,and_true,and_self];constructor
   .rintro ((h|h)|h)
    .rcases h with h|h
     .exact oi h
     .exact oj (oj h)
    .exact oj (oi (oi h))
    .exact oj (oi (oj h))
   .rintro (h|(h|h)|h)
    .exact oi (oi (oi h))
    .exact oi (oj h)
    .exact oj h
    .exact oi (oi (oj h))
  |false=>
   rw[hb]at b c;simp only[k0,if_false]at b c⊢;refine⟨?_,c⟩;rw[b];simp only[lw,kZ,mr,or_false];constructor
   .rintro ((h|h)|h|h)
    .exact oi h
    .exact oj (oi (oi h))
    .exact oj (oi (oj h))
    .exact oj (oj h)
   .rintro (h|(h|h)|h)
    .exact oi (oi h)
    .exact oi (oj h)
    .exact oj (oi h)
    .exact oj (oj h)
def bw(l:pM zA)(x y:zA):y∈IP l x↔y=x\/y∈l:=by
 have h:=(Py x y l ([],K)).1;unfold IP;unfold Nz;cases hf:(l.foldl (Dh x) ([],K)).2 with
 |true=>
  rw[hf]at h;simp only[if_true];rw[h];simp only[mr,false_or,true_and,and_true,and_self];exact⟨λh=>by rcases h with h|h;exact oj h;exact oi h,λh=>by rcases h with h|h;exact oj h;exact oi h⟩
 |false=>
  rw[hf]at h;simp only[k0,if_false,lw,kY];rw[h];simp only[mr,false_or,k0,and_false,or_false];exact⟨λh=>by rcases h with h|h;exact oj h;exact oi h,λh=>by rcases h with h|h;exact oj h;exact oi h⟩
structure PS(a b:pM zA):Prop where
 mem:∀y,y∈a↔y∈b
 len:Z a=Z b
def PS.zc{a b:pM zA}(h:PS a b)(t:AK):PS (zc a t) (if t.v==0 then CS b t.s else b):=by
 unfold Go.Proofs.YtoihbhenbmffcaaGreatDoor.zc CS;cases hv:(t.v==0)with
 |false=>simpa using h
 |true=>
  have e:Em a t.s=Em b t.s:=by rw[mN,Og,Og,h.mem]
  rw[e];cases hh:Em b t.s with
  |true=>simpa using h
  |false=>
   simp only[mJ,nH,if_true,k0,if_false];refine⟨λy=>?_,by rw[OP,h.len];simp⟩;rw[bw,h.mem];simp only[lw,kY];exact⟨λh=>by rcases h with h|h;exact oj h;exact oi h,λh=>by rcases h with h|h;exact oj h;exact oi h⟩
def PS.zS{a b:pM zA}(h:PS a b):∀d:pM AK,PS (zS a d) (((d.filter λt=>t.v==0).map λt=>t.s).foldl CS b):=by
 intro d;unfold Go.Proofs.YtoihbhenbmffcaaGreatDoor.zS
 induction d generalizing a b with
 |nil=>exact h
 |cons t d ih=>
  rw[lR,mW];have c:=h.zc t;cases hv:(t.v==0)with
  |true=>
   rw[hv]at c;simp only[if_true]at c⊢;rw[lE,lR];exact ih c
  |false=>
   rw[hv]at c;simp only[k0,if_false]at c⊢;exact ih c
def WC(l:pM zA)(a b:pM AK):zS l (a++b)=zS (zS l a) b:=by
 unfold zS;rw[mi]
def Yl(l:pM zA)(r:A4):Kk l r=zS l (GY r):=by
 unfold Kk GY;rw[WC];generalize zS l r.head.args=l0
 induction r.bl generalizing l0 with
 |nil=>rfl
 |cons q bl ih=>
  rw[lR,lF,WC];exact ih _
def Nm(d:pM A4):PS (D1 d) (iB (d.flatMap Oi)):=by
 unfold D1 iB;rw[MW];have:∀(l:pM A4) (a b:pM zA),PS a b->PS (l.foldl Kk a) (l.foldl (λc r=>(Oi r).foldl CS c) b):=by
  intro l
  induction l with
  |nil=>intro a b h;exact h
  |cons r l ih=>
   intro a b h;rw[lR,lR];refine ih _ _ ?_;rw[Yl];exact h.zS _
 exact this d [] [] ⟨λy=>Iff.rfl,rfl⟩
abbrev kq:=Int×zA×Nat
def Vj(a:Hl):kq:=(a.place,a.name,lenOf a.tv)
def Fb(r:A4):pM kq:=((r.head.at_:Int),r.head.name,Z r.head.args)::(r.bl.filter MF).map λq=>((q.1.A.at_:Int),q.1.A.name,Z q.1.A.args)
def Yf{a:pM Lz}{b:pM Ba}(h:F2 T4 a b):(AS a).map Vj=(b.filter MF).map λq=>((q.1.A.at_:Int),q.1.A.name,Z q.1.A.args):=by
 unfold AS
 induction h using F2.ind with
 |nil=>rfl
 |cons h1 _ ih=>
  rw[mW,mW,h1.atom];split
  .rw[lE,lE,lE,ih]
   congr 1
   unfold Vj;simp only;rw[h1.eq,h1.len];rfl
  .exact ih
def RX.atoms{c:Dy}{r:A4}(h:RX c r):(Bz c).map Vj=Fb r:=by
 unfold Bz Fb;rw[lE,Yf h.lits]
 congr 1
 unfold Vj;simp only;rw[h.hp,h.hn,h.len]
def jr(x:zA)(p:zA×Nat):Bool:=p.1.toList==x.toList
def P1(L:pM (zA×Nat))(x:zA):Int:=match L.find? (jr x)with|some p=>p.2|none=> -1
def fx(L:pM (zA×Nat))(a:kq):Bool:=P1 L a.2.1 !=(a.2.2:Int)
def FN(cs:pM A4):pM (zA×Nat):=cs.flatMap λr=>(Fb r).map λa=>a.2
def VH(a:pM Ba)(x:zA):Vw a x=(((a.filter MF).map λq=>(q.1.A.name,Z q.1.A.args)).find? (jr x)).map λp=>p.2:=by
 unfold Vw
 induction a with
 |nil=>rfl
 |cons q a ih=>
  rw[oB,mW];cases hq:MF q with
  |false=>
   simp only[n5,k0,if_false];exact ih
  |true=>
   simp only[mR,if_true,lE];rw[nV];unfold jr;simp only;cases hn:(q.1.A.name.toList==x.toList)with
   |true=>rfl
   |false=>exact ih
def VE(r:A4)(x:zA):Hx r x=(((Fb r).map λa=>a.2).find? (jr x)).map λp=>p.2:=by
 unfold Hx Fb;rw[lE,nV,VH,mq];unfold jr;simp only;cases h:(r.head.name.toList==x.toList)with
 |true=>rfl
 |false=>rfl
def OJ(b:pM A4)(x:zA):DG b x=P1 (FN b) x:=by
 have:b.findSome? (Hx · x)=((FN b).find? (jr x)).map λp=>p.2:=by
  unfold FN
  induction b with
  |nil=>rfl
  |cons r b ih=>
   rw[oB,lF,pi,VE,ih];cases((Fb r).map λa=>a.2).find? (jr x)<;>rfl
 unfold DG P1;rw[this];cases(FN b).find? (jr x)<;>rfl
def Ww(L:pM (zA×Nat))(r:A4):((Fb r).find? (fx L)).map (λa=>a.1)=
  if P1 L r.head.name≠(Z r.head.args:Int)then V (r.head.at_:Int)else(r.bl.find? λq=>MF q&&(P1 L q.1.A.name !=(Z q.1.A.args:Int))).map λq=>(q.1.A.at_:Int):=by
 unfold Fb;rw[nV];have e:fx L ((r.head.at_:Int),r.head.name,Z r.head.args)=(P1 L r.head.name !=(Z r.head.args:Int)):=rfl;rw[e];cases hh:(P1 L r.head.name !=(Z r.head.args:Int))with
 |true=>
  have:P1 L r.head.name≠(Z r.head.args:Int):=by simpa using hh
  rw[ln this];rfl
 |false=>
  have:¬P1 L r.head.name≠(Z r.head.args:Int):=by simpa using hh
  rw[li this];simp only
  induction r.bl with
  |nil=>rfl
  |cons q bl ih=>
   rw[mW,nV];cases hq:MF q with
   |false=>
    simp only[n5,k0,if_false];exact ih
   |true=>
    simp only[mR,if_true,lE];rw[nV];have b:fx L ((q.1.A.at_:Int),q.1.A.name,Z q.1.A.args)=(P1 L q.1.A.name !=(Z q.1.A.args:Int)):=rfl;rw[b];cases(P1 L q.1.A.name !=(Z q.1.A.args:Int))with
    |true=>rfl
    |false=>exact ih
def RX.bound{c:Dy}{r:A4}(h:RX c r)(v:UInt8):PV c.zH (v.toNat:Int)=Ky r.bl v:=by
 unfold PV Ky GO;have b:=h.lits;generalize c.zH=zH at b;generalize r.bl=bl at b
 induction b using F2.ind with
 |nil=>rfl
 |cons h1 _ ih=>
  rw[lF,pg,oy,ih]
  congr 1
  unfold KE SH;rw[h1.eq];simp only[LU,SY];split
  .rename_i a;rw[a,n6];simp only[mR];apply N1;intro t _;exact iG t v
  .rename_i a;simp only[Bool.not_eq_true]at a;rw[a];rfl
def RX.loose{c:Dy}{r:A4}(h:RX c r)(t:AK):PX c (ct t)=CV r.bl t:=by
 unfold PX CV;have e:((ct t).v !=0)= !(t.v==0):=by rw[bne,Zo]
 rw[e];have:(ct t).v=(t.v.toNat:Int):=rfl;rw[this,h.bound];cases(t.v==0)<;>simp
def RX.yb{c:Dy}{r:A4}(h:RX c r):Ik c=if 0<=DR r.head r.bl then V (DR r.head r.bl)else Y:=by
 unfold Ik DR;have d:c.zV.any (PX c)=r.head.args.any (CV r.bl):=by
  rw[h.zV,n6];apply N1;intro t _;exact h.loose t
 have b:(c.zH.find? λp=>(AR p.1).any (PX c)).map (λp=>p.1.place)=(r.bl.find? (JW r.bl)).map λq=>(q.1.at_:Int):=by
  refine F2.find (λp q a=>⟨?_,?_⟩) h.lits
  .unfold JW;rw[a.zQ,n6];apply N1;intro t _;exact h.loose t
  .rw[a.eq];rfl
 rw[d,b,h.hp];cases r.head.args.any (CV r.bl)with
 |true=>
  simp only[if_true];rw[ln (by omega)]
 |false=>
  simp only[k0,if_false];cases r.bl.find? (JW r.bl)with
  |none=>rfl
  |some q=>
   simp only[m0];rw[ln (by omega)]
def RX.yZ{c:Dy}{r:A4}(h:RX c r):KG c=(decide (2<Z r.head.args)||r.bl.any BF||decide (3<Z r.bl)):=by
 unfold KG;rw[h.lits.lenX]
 congr 1
 have e:(Bz c).any (λa=>decide (2<lenOf a.tv))=(Fb r).any λa=>decide (2<a.2.2):=by
  rw[<-h.atoms,n6];rfl
 rw[e];unfold Fb;rw[oy]
 congr 1
 have d:∀q∈r.bl,MF q=K->q.1.A.args=[]:=λq b=>by
  obtain⟨p,_,f⟩:=h.lits.mem q b;exact f.plain
 generalize r.bl=bl at d
 induction bl with
 |nil=>rfl
 |cons q bl ih=>
  rw[mW,oy];have ih:=ih (λq b=>d q (by simp[b]));cases b:MF q with
  |true=>
   simp only[if_true,lE,oy];rw[ih];rfl
  |false=>
   have:=d q (by simp) b;simp only[k0,if_false];rw[ih];unfold BF;rw[this];rfl
def aO{d:pM A4}(h:F2 RX p d):FN d=((p.flatMap Bz).map Vj).map λa=>a.2:=by
 unfold FN;rw[oS,<-F2.flatMap (f:=λc=>(Bz c).map Vj) (g:=Fb) (λa b e=>e.atoms) h|>.symm,oS]
def Xp{a:pM Dy}(h:F2 RX a c)(x:zA):jO a x=((FN c).find? (jr x)).map λp=>p.2:=by
 rw[aO h,mq,List.find?_map,Option.map_map];rfl
def eo{d:pM Dy}{b:pM A4}(h:F2 RX d b){c:Dy}{r:A4}(j:RX c r)(k:∀a∈Fb r,a.2∈FN b)(f:KG c=K):
  jl d (Bz c)=((Fb r).find? (fx (FN b))).map λa=>a.1:=by
 unfold jl;rw[<-j.atoms,List.find?_map,Option.map_map];have e:(Bz c).find? (Sy d)=(Bz c).find? (fx (FN b)∘Vj):=by
  apply OL;intro a i;have m:¬2<lenOf a.tv:=by
   unfold KG at f;simp only[nK]at f;have:=(mU.1 f.1) a i;simpa using this
  have l:(Vj a).2∈FN b:=k _ (by rw[<-j.atoms];exact lB i);have g:((FN b).find? (jr a.name)).isSome=jj:=by
   rw[List.find?_isSome];exact⟨_,l,by simp[jr,Vj]⟩
  unfold Sy fx P1;simp only[Function.comp];rw[Xp h];rw[show(Vj a).2.1=a.name from rfl,show(Vj a).2.2=lenOf a.tv from rfl]
  cases hq:(FN b).find? (jr a.name)with
  |none=>rw[hq]at g;cases g
  |some p=>
   simp only[m0,m,oW,nI];rw[mN];simp only[no,lQ,bne_iff_ne,ne_eq];omega
 rw[e];rfl
def bM{d:pM A4}(h:F2 RX p d){c:Dy}{r:A4}(e:RX c r)(x:∀a∈Fb r,a.2∈FN d):
  XU p k c=Cm d k r:=by
 have s:=eo h e x;have w:Z (iB ((p.take (k+1)).flatMap Ck))=Z (G2 (d.take (k+1))):=by
  rw[Rt,F2.flatMap (λa b m=>m.names) (h.take (k+1))]
 have v:Z (iB ((p.take (k+1)).flatMap It))=Z (D1 (d.take (k+1))):=by
  rw[(Nm _).len,F2.flatMap (g:=λr=>(Oi r).map DX) (λa b m=>m.zC) (h.take (k+1)),<-oS,VU _ (λa b=>Y0)]
 unfold XU Cm XL;rw[e.yZ]at s;rw[w,v,e.yZ,e.yb,OJ,e.hp,e.at_];generalize Z (G2 (d.take (k+1)))=N;generalize Z (D1 (d.take (k+1)))=T;cases hcond:((decide (12<k+1)||decide (6<N)||decide (6<T))||(decide (2<Z r.head.args)||r.bl.any BF||decide (3<Z r.bl)))with
 |true=>
  rw[ln rfl];by_cases i:12<=k\/3<Z r.bl
  .rw[ln i]
  .rw[li i];by_cases l:2<Z r.head.args
   .rw[ln l]
   .rw[li l];by_cases n:r.bl.any BF=jj
    .rw[ln n]
    .rw[li n];by_cases f:6<N\/6<T
     .rw[ln f]
     .exfalso
      simp only[mP,nP]at hcond;simp only[not_or]at i f;rcases hcond with((h|h)|h)|((h|h)|h)
      .omega
      .exact f.1 h
      .exact f.2 h
      .exact l h
      .exact n h
      .exact i.2 h
 |false=>
  simp only[nK,ng]at hcond;obtain⟨⟨⟨B,C⟩,D⟩,⟨t,o⟩,z⟩:=hcond;rw[s (by simp only[t,o,z,oW,pw]),Ww];rw[li (show¬(K=jj) by simp),li (show¬(12<=k\/3<Z r.bl) by omega),li t,li (show¬(r.bl.any BF=jj) by rw[o];simp),li (show¬(6<N\/6<T) by omega)];by_cases j:P1 (FN d) r.head.name≠(Z r.head.args:Int)
  .rw[ln j,ln j]
  .rw[li j,li j];have u:(r.bl.find? λq=>MF q&&(P1 (FN d) q.1.A.name !=(Z q.1.A.args:Int)))=r.bl.find? (BV d):=by
    apply OL;intro q _;unfold BV;rw[OJ]
   rw[u];cases r.bl.find? (BV d)with
   |some q=>rfl
   |none=>
    simp only[Option.map_none];by_cases y:0<=DR r.head r.bl<;>simp[y]
def YD{b:pM A4}(h:F2 RX p b):∀{l:pM Dy} {m:pM A4},F2 RX l m->∀(k:Nat),(∀r∈m,r∈b)->Pw p k l=Ey b k m:=by
 intro l m g
 induction g using F2.ind with
 |nil=>intro k _;rfl
 |cons hc _ ih=>
  rename_i c r l m _;intro k e;have d:∀a∈Fb r,a.2∈FN b:=λa f=>ma.2 ⟨r,e r (by simp),lB f⟩
  rw[Pw,Ey,bM h hc d];cases hs:Cm b k r with
  |some x=>rfl
  |none=>exact ih (k+1) (λr d=>e r (by simp[d]))
def Yo{d:pM Dy}{a:pM A4}(h:F2 RX d a){f:zA->zA->Bool}(i:∀x y,f x y=Hw a x y):(PM f d).map (λp=>((6:Int),p))=a.findSome? (DM a):=by
 unfold PM;have g:∀{l:pM Dy} {m:pM A4},F2 RX l m->(l.findSome? (Ly f)).map (λp=>((6:Int),p))=m.findSome? (DM a):=by
  intro l m j
  induction j using F2.ind with
  |nil=>rfl
  |cons hc _ ih=>
   rename_i c r l m _;rw[oB,oB];have e:(Ly f c).map (λp=>((6:Int),p))=DM a r:=by
    unfold Ly DM;rw[Option.map_map];refine F2.find (λp q b=>⟨?_,?_⟩) hc.lits
    .unfold MK E7;rw[b.eq,i,hc.hn];simp only[LU,dm]
    .simp only[Function.comp];rw[b.eq];rfl
   rw[<-e];cases Ly f c with
   |some p=>rfl
   |none=>exact ih
 exact g h
def YI(h:F2 RX p c){f:zA->zA->Bool}(a:∀x y,f x y=Hw c x y):SR f p=CJ c:=by
 unfold SR CJ;rw[YD h h 0 (λr b=>b),<-Yo h a];cases Ey c 0 c with
 |some r=>rfl
 |none=>
  simp only;cases PM f p<;>rfl
def Sv(cs:pM A4)(x y:zA):Prop:=∀S:zA->Prop,S x->(∀r∈cs,S r.head.name->∀z∈Hu r,S z)->S y
def J2(h:(s.toList==t.toList)=jj):s=t:=(Gg.eqv s t).1 h
def KR(y:zA):∀(a:pM Ba) (l:pM zA),y∈a.foldl zD l↔y∈l\/y∈(a.filter MF).map λq=>q.1.A.name
 |[],l=>by simp
 |q::a,l=>by
  rw[lR,KR y a,mW];unfold zD;cases hq:MF q with
  |false=>simp only[k0,if_false]
  |true=>
   simp only[if_true,TG,lE,kZ];constructor
   .rintro ((h|h)|h)
    .exact oj (oi h)
    .exact oi h
    .exact oj (oj h)
   .rintro (h|h|h)
    .exact oi (oj h)
    .exact oi (oi h)
    .exact oj h
def LD(x y:zA):∀(d:pM A4) (l:pM zA),y∈NJ d l x↔y∈l\/∃r∈d,r.head.name=x/\y∈(r.bl.filter MF).map λq=>q.1.A.name
 |[],l=>by simp[NJ]
 |r::d,l=>by
  have ih:=LD x y d (NZ x l r);unfold NJ at ih⊢;rw[lR,ih];unfold NZ;cases hr:(r.head.name.toList==x.toList)with
  |true=>
   have g:=J2 hr;simp only[if_true,KR];constructor
   .rintro ((h|h)|⟨c,a,b⟩)
    .exact oi h
    .exact oj ⟨r,by simp,g,h⟩
    .exact oj ⟨c,by simp[a],b⟩
   .rintro (h|⟨c,a,b,f⟩)
    .exact oi (oi h)
    .rcases kZ.1 a with rfl|a
     .exact oi (oj f)
     .exact oj ⟨c,a,b,f⟩
  |false=>
   (have i:r.head.name≠x:=λe=>by rw[e]at hr;simp at hr);simp only[k0,if_false];constructor
   .rintro (h|⟨c,a,b⟩)
    .exact oi h
    .exact oj ⟨c,by simp[a],b⟩
   .rintro (h|⟨c,a,b,f⟩)
    .exact oi h
    .rcases kZ.1 a with rfl|a
     .exact absurd b i
     .exact oj ⟨c,a,b,f⟩
def Qj{d:pM A4}{c:A4}(e:c∈d){l:pM zA}:∀(b:pM Ba) (a:pM zA),(∀q∈b,q∈c.bl)->E1 d l a->E1 d l (b.foldl zD a)
 |[],a,_,h=>h
 |q::b,a,hs,h=>by
  rw[lR];exact Qj e b _ (λf g=>hs f (by simp[g])) (h.zD e (hs q (by simp)))
def Rh{d:pM A4}{l:pM zA}(x:zA):∀(a:pM A4) (b:pM zA),(∀c∈a,c∈d)->E1 d l b->E1 d l (NJ a b x)
 |[],b,_,h=>h
 |c::a,b,hs,h=>by
  unfold NJ;rw[lR];refine Rh x a _ (λg f=>hs g (by simp[f])) ?_;unfold NZ;split
  .exact Qj (hs c (by simp)) c.bl _ (λq e=>e) h
  .exact h
def Q8{a:pM A4}{t g:zA}:∀(f:Nat) (l:pM zA) (n:Nat),2+Z (D4 a)<=f+n->Bd a l->n<=Z l->(∀i (h:i<Z l),i<n->l[i]≠g)->
  (∀i (h:i<Z l),i<n->∀r∈a,r.head.name=l[i]->∀y∈(r.bl.filter MF).map (λq=>q.1.A.name),y∈l)->t∈l->(∀y∈l,Sv a t y)->(Kv f a g l n=jj↔Sv a t g)
 |0,l,n,hf,hb,hn,_,_,_,_=>by
  unfold Bd at hb;omega
 |f+1,l,n,hf,hb,hn,hno,hcl,hfr,hso=>by
  rw[Kv];by_cases m:n<Z l
  .rw[dif_pos m];cases he:(l[n].toList==g.toList)with
   |true=>
    have:=J2 he;simp only[if_true,true_iff];rw[<-this];exact hso _ (kV m)
   |false=>
    simp only[k0,if_false];have o:E1 a l (NJ a l l[n]):=Rh l[n] a l (λc E=>E) ⟨⟨[],by simp⟩,hb⟩;(have x:l[n]≠g:=λe=>by rw[e]at he;simp at he);have F:=o.len.1;refine Q8 f (NJ a l l[n]) (n+1) (by omega) o.bd (by omega) ?_ ?_ ((LD _ _ _ _).2 (oi hfr)) ?_
    .intro i k u;obtain⟨_,e⟩:=o.at (show i<Z l by omega);rw[e];rcases ow (show i<=n by omega)with b|b
     .exact hno i (by omega) b
     .subst b;exact x
    .intro i k u r j d y s;obtain⟨_,e⟩:=o.at (show i<Z l by omega);rw[e]at d;rw[LD];rcases ow (show i<=n by omega)with b|b
     .exact oi (hcl i (by omega) b r j d y s)
     .subst b;exact oj ⟨r,j,d,s⟩
    .intro y s;rcases(LD _ _ _ _).1 s with b|⟨r,j,d,B⟩
     .exact hso y b
     .intro S D v;have w:=hso _ (kV m) S D v;rw[<-d]at w;exact v r j w y (by unfold Hu;exact lY _ B)
  .rw[dif_neg m];simp only[k0,false_iff];intro C;have u:g∈l:=C (λz=>z∈l) hfr (λr j d z p=>by
    obtain⟨i,k,e⟩:=lX d
    unfold Hu at p
    rcases kZ.1 p with rfl|p
    .exact d
    .exact hcl i k (by omega) r j e.symm z p)
   obtain⟨i,k,e⟩:=lX u;exact hno i k (by omega) e
def Mw(b:pM A4)(a c:zA):Hw b a c=jj↔Sv b a c:=by
 unfold Hw;refine Q8 _ [a] 0 (by omega) ?_ (by simp) (λi h f=>by omega) (λi h f=>by omega) (by simp) (λy d S e _=>by simp at d;subst d;exact e);unfold Bd Qw;have:=pq (p:=λx=> !Em [a] x) (l:=D4 b);simp only[lj,lO];omega
structure Hb(l:PL):Prop where
 some:Bi l=jj->0<Z l.ts
 le:Z l.ts<=151
 plain:Bi l=K->l.ts=[]
 bare:Bi l=jj->l.l=AJ/\l.r=AJ
def Ql{c:pM Bb}:∀(k a:Nat) (d:pM AW) {b:pM AW} {n:Nat},Z c-a<=k->GP c a d=.ok (b,n)->0<Z b/\Z b<=Z d+(Z c-a+1)/2
 |k,a,d,b,n,hk,h=>by
  unfold GP at h;split at h
  .rename_i e;split at h
   .cases h
   .split at h
    .match k with
     |0=>omega
     |k+1=>
      have:=Ql k (a+2) _ (by omega) h;simp only[lu,lj,lO]at this;omega
    .split at h
     .simp only[mF,lZ]at h;rw[<-h.1];simp only[lu,lj,lO];omega
     .cases h
  .cases h
def ML{b:pM Bb}(d:Z b<=301){a:pM AW}(h:Fo b m=.ok ((k,s,a),n)):0<Z a/\Z a<=151:=by
 unfold Fo at h;split at h
 .split at h
  .split at h
   .cases h
   .rename_i c;simp only[mF,lZ]at h;have:=Ql _ _ _ (lC _) c;rw[<-h.1.2.2];simp only[lO]at this;omega
  .cases h
 .cases h
def bu{g:pM Bb}(j:Z g<=301){l:dw}(h:IG g m=.ok (l,n)):Hb (Kt l):=by
 unfold IG at h;split at h
 .split at h
  .cases h
  .rename_i a k b;obtain⟨p,s,o⟩:=a;have:=ML j b;simp only[mF,lZ]at h;rw[<-h.1];exact⟨λ_=>this.1,this.2,λf=>by simp[Kt,Bi]at f,λ_=>⟨rfl,rfl⟩⟩
 .split at h
  .split at h
   .cases h
   .rename_i a k b;obtain⟨p,s,o⟩:=a;have:=ML j b;simp only[mF,lZ]at h;rw[<-h.1];exact⟨λ_=>this.1,this.2,λf=>by simp[Kt,Bi]at f,λ_=>⟨rfl,rfl⟩⟩
  .split at h
   .cases h
   .rename_i c k b;simp only[mF,lZ]at h;rw[<-h.1];have d:c.sort=2\/c.sort=3\/c.sort=4:=by
     unfold ID at b;split at b
     .cases b
     .split at b
      .cases b
      .rename_i q d;split at b
       .cases b
       .simp only[mF,lZ]at b;rw[<-b.1];unfold Od at d;split at d
        .simp only[ld]at d;exact oi d.symm
        .split at d
         .simp only[ld]at d;exact oj (oi d.symm)
         .split at d
          .simp only[ld]at d;exact oj (oj d.symm)
          .cases d
    have i:Bi (Kt (.inr c))=jj->False:=λf=>by
     unfold Bi Kt at f;simp only at f;rcases d with e|e|e<;>simp[e]at f
    exact⟨λf=>(i f).elim,by simp[Kt],λ_=>rfl,λf=>(i f).elim⟩
def MJ{a:pM Bb}(g:Z a<=301):∀(k b:Nat) (d:pM PL) {e:pM PL} {n:Nat},Z a-b<=k->(∀l∈d,Hb l)->E4 a b d=.ok (e,n)->(∀l∈e,Hb l)/\Z e<=Z d+(Z a-b+1)/2
 |k,b,d,e,n,hk,ha,h=>by
  by_cases f:b<Z a
  .cases hl:IG a b with
   |error p=>rw[IN f hl]at h;cases h
   |ok r=>
    obtain⟨l,j⟩:=r;have o:=Jq hl;have m:=bu g hl;have i:∀x∈d++[Kt l],Hb x:=by
     intro x c;rcases lw.1 c with c|c
     .exact ha x c
     .simp only[kY]at c;subst c;exact m
    rw[Oc f hl]at h;split at h
    .match k with
     |0=>omega
     |k+1=>
      have:=MJ g k (j+1) _ (by omega) i h;simp only[lu,lj,lO]at this;exact⟨this.1,by omega⟩
    .simp only[mF,lZ]at h;rw[<-h.1];refine⟨i,?_⟩;simp only[lu,lj,lO];omega
  .unfold E4 at h;rw[dif_neg f]at h;cases h
structure KF(c:PC):Prop where
 head:0<Z c.zV/\Z c.zV<=151
 body:Z c.body<=151
 lits:∀l∈c.body,Hb l
def ZR{b:pM Bb}{c a:PC}(h:Ou b n c=.ok (a,m)):a=c:=by
 unfold Ou at h;split at h
 .simp only[mF,lZ]at h;exact h.1.symm
 .cases h
def UX{a:pM Bb}(b:Z a<=301){c:PC}(h:CO a m=.ok (c,n)):KF c:=by
 unfold CO at h;split at h
 .cases h
 .rename_i p s i j g;have e:=ML b g;split at h
  .cases h
  .split at h
   .split at h
    .cases h
    .rename_i l k f;have d:=MJ b _ _ _ (lC _) (by simp) f;rw[ZR h];simp only[lO]at d;exact⟨e,by simp only;omega,d.1⟩
   .rw[ZR h];exact⟨e,by simp,by simp⟩
def J8{a:pM Bb}(i:Z a<=301):∀(k b:Nat) (e:pM PC) {g:pM PC},Z a-b<=k->(∀c∈e,KF c)->Dc a b e=.ok g->(∀c∈g,KF c)/\Z g<=Z e+(Z a-b)
 |k,b,e,g,hk,ha,h=>by
  by_cases f:b<Z a
  .cases he:((Au a b).kind==1)with
   |true=>
    rw[OR f he]at h;simp only[mF]at h;rw[<-h];exact⟨ha,by omega⟩
   |false=>
    cases hc:CO a b with
    |error p=>rw[Ld f he hc]at h;cases h
    |ok r=>
     obtain⟨c,n⟩:=r;have l:=Hf hc;rw[R9 f he hc]at h;have j:∀x∈e++[c],KF x:=by
      intro x d;rcases lw.1 d with d|d
      .exact ha x d
      .simp only[kY]at d;subst d;exact UX i hc
     match k with
     |0=>omega
     |k+1=>
      have:=J8 i k n _ (by omega) j h;simp only[lu,lj,lO]at this;exact⟨this.1,by omega⟩
  .unfold Dc at h;rw[dif_neg f]at h;cases h
def Q5{α β:Type}(f:α->pM β)(N:Nat):∀l:pM α,(∀a∈l,Z (f a)<=N)->Z (l.flatMap f)<=Z l*N
 |[],_=>by simp
 |a::l,h=>by
  have c:=Q5 f N l (λx b=>h x (by simp[b]));have d:=h a (by simp);rw[lF,lu,lj,nA];omega
def RH{c:Dy}(h:KF c.pc):j9 c/\Z (Ck c)<=152:=by
 have d:Z c.zH<=151:=by have:=h.body;simpa[Dy.pc] using this
 have b:∀p∈c.zH,Hb p.1:=λp a=>h.lits p.1 (by simp only[Dy.pc];exact lk.2 ⟨p,a,rfl⟩)
 have e:0<Z c.zV/\Z c.zV<=151:=h.head;refine⟨⟨⟨⟨e.1,by omega⟩,by omega,λp a=>⟨(b p a).some,by have:=(b p a).le;omega⟩⟩,?_⟩,?_⟩
 .have f:Z (A5 c.zH)<=Z c.zH*151:=Q5 _ 151 _ (λp a=>by
   unfold AR
   split
   .exact(b p a).le
   .simp)
  have:Z c.zH*151<=151*151:=mh _ d;unfold BE;rw[lu];omega
 .unfold Ck Gw;have:=mS (λp=>Bi p.1) c.zH;simp only[lj,lm];omega
def Ph{a:pM A4}:∀(l:pM A4) (i:Nat),Ey a i l=Y->∀k (h:k<Z l),Cm a (i+k) l[k]=Y
 |[],i,_,k,h=>by simp at h
 |c::l,i,h,k,hk=>by
  rw[Ey]at h;cases hc:Cm a i c with
  |some r=>rw[hc]at h;simp at h
  |none=>
   rw[hc]at h;simp only at h;cases k with
   |zero=>exact hc
   |succ k=>
    have:=Ph l (i+1) h k (by simpa using hk);rw[show i+(k+1)=i+1+k by omega];simpa using this
structure Dj(cs:pM A4):Prop where
 each:∀k (h:k<Z cs),Cm cs k cs[k]=Y
 strata:cs.findSome? (DM cs)=Y
def Up{b:pM A4}(h:CJ b=(0,0)):Dj b:=by
 unfold CJ at h;cases h1:Ey b 0 b with
 |some r=>
  rw[h1]at h;simp only at h;have:∀(l:pM A4) (i:Nat) (r:Int×Int),Ey b i l=V r->r.1≠0:=by
   intro l
   induction l with
   |nil=>intro i r d;simp[Ey]at d
   |cons c l ih=>
    intro i r d;rw[Ey]at d;cases a:Cm b i c with
    |some q=>
     rw[a]at d;simp only[ld]at d;subst d;unfold Cm at a
     repeat (first
      |(split at a)
      |(simp only[ld]at a;subst a;simp)
      |(cases a))
    |none=>
     rw[a]at d;exact ih (i+1) r d
  exact absurd (by rw[h]) (this b 0 r h1)
 |none=>
  rw[h1]at h;simp only at h;refine⟨λk f=>by have:=Ph b 0 h1 k f;simpa using this,?_⟩;cases h2:b.findSome? (DM b)with
  |none=>rfl
  |some r=>
   rw[h2]at h;simp only at h;obtain⟨c,_,a⟩:=List.exists_of_findSome?_eq_some h2;unfold DM at a;rw[ot]at a;obtain⟨p,_,e⟩:=a;rw[h]at e;simp at e
def FV{a:pM A4}{c:A4}(h:Cm a i c=Y):Z c.bl<=3/\Z c.head.args<=2/\c.bl.any BF=K/\Z (G2 (a.take (i+1)))<=6/\Z (D1 (a.take (i+1)))<=6/\DG a c.head.name=(Z c.head.args:Int)/\c.bl.find? (BV a)=Y/\DR c.head c.bl<0:=by
 unfold Cm at h;by_cases d:12<=i\/3<Z c.bl
 .rw[ln d]at h;cases h
 rw[li d]at h;by_cases g:2<Z c.head.args
 .rw[ln g]at h;cases h
 rw[li g]at h;by_cases f:c.bl.any BF=jj
 .rw[ln f]at h;cases h
 rw[li f]at h;by_cases b:6<Z (G2 (a.take (i+1)))\/6<Z (D1 (a.take (i+1)))
 .rw[ln b]at h;cases h
 rw[li b]at h;by_cases e:DG a c.head.name≠(Z c.head.args:Int)
 .rw[ln e]at h;cases h
 rw[li e]at h;cases h6:c.bl.find? (BV a)with
 |some p=>rw[h6]at h;cases h
 |none=>
  rw[h6]at h;simp only at h;by_cases j:0<=DR c.head c.bl
  .rw[ln j]at h;cases h
  .simp only[not_or]at d b;exact⟨by omega,by omega,by simpa using f,by omega,by omega,by simpa using e,rfl,by omega⟩
def OE{b:Dg}{a:pM Ba}(h:DR b a<0):(∀t∈b.args,CV a t=K)/\∀p∈a,∀t∈AA p,CV a t=K:=by
 unfold DR at h;cases h1:b.args.any (CV a)with
 |true=>rw[h1,ln rfl]at h;omega
 |false=>
  rw[h1,li (by simp)]at h;cases h2:a.find? (JW a)with
  |some p=>rw[h2]at h;simp only at h;omega
  |none=>
   refine⟨λt c=>?_,λp e t c=>?_⟩
   .have:=(mU.1 h1) t c;simpa using this
   .have d:=(m7.1 h2) p e;unfold JW at d;(have f:(AA p).any (CV a)=K:=by simpa using d);have:=(mU.1 f) t c;simpa using this
def GK{c:A4}{t:AK}(h:CV c.bl t=K):E8 (Al c) t:=by
 unfold CV at h;rw[Bool.not_eq_false',mP]at h;rcases h with h|h
 .exact oi (by simpa using h)
 .right;unfold Ky at h;rw[mH]at h;obtain⟨p,b,a⟩:=h;unfold KE at a;rw[lJ]at a;unfold SH at a;rw[mH]at a;obtain⟨d,u,e,f⟩:=a;exact⟨p.1,lB b,d,u,e,by simpa using f⟩
def Dj.zK{b:pM A4}(h:Dj b)(i:∀c∈b,∀x∈Al c,(x.kind==97)=jj->∀t∈x.A.args,BC t):Rn b:=by
 have j:∀c∈b,DR c.head c.bl<0:=by
  intro c a;obtain⟨k,g,rfl⟩:=lX a;exact(FV (h.each k g)).2.2.2.2.2.2.2
 refine⟨i,λc a x m g=>?_,λc a t i=>GK ((OE (j c a)).1 t i)⟩;obtain⟨p,l,rfl⟩:=lk.1 m;have d:=(OE (j c a)).2 p l;refine⟨λf t o=>?_,λf=>?_⟩
 .refine GK (d t ?_);unfold AA MF;rw[f,oY,ln rfl];exact o
 .have n:MF p=K:=by unfold MF;rw[g,f];rfl
  have e:AA p=[p.1.L,p.1.R]:=by unfold AA;rw[n];rfl
  rw[e]at d;exact⟨GK (d _ (by simp)),GK (d _ (by simp))⟩
def Dj.strat{j:pM A4}(h:Dj j):di j:=by
 rintro x y ⟨c,A,B,l,f,s,e⟩ n;have a:(l.kind==33)=jj:=by
  rcases e with⟨_,e⟩|⟨a,_⟩
  .cases e
  .exact a
 obtain⟨p,m,rfl⟩:=lk.1 f;have i:=(oO.1 h.strata) c A;unfold DM at i;rw[Option.map_eq_none_iff,m7]at i;have g:=i p m;unfold E7 at g;rw[a,mR]at g;apply g;rw[Mw,s,B];intro S t w;refine n S t (λu v b r z=>?_);obtain⟨d,k,rfl,l,f,rfl,e⟩:=r;obtain⟨q,o,rfl⟩:=lk.1 f;refine w d k z _ ?_;unfold Hu;refine lY _ (lk.2 ⟨q,lK.2 ⟨o,?_⟩,rfl⟩);unfold MF;rcases e with⟨a,_⟩|⟨a,_⟩
 .rw[a];rfl
 .rw[a,oY]
def Dj.levels{a:pM A4}(h:Dj a):CR a (B5 a 6):=by
 by_cases e:Z a=0
 .have:a=[]:=oD e;subst this;exact⟨λc b=>by simp at b,λc b=>by simp at b⟩
 .have d:=(FV (h.each (Z a-1) (by omega))).2.2.2.1;rw[show Z a-1+1=Z a by omega,ni]at d;refine gm h.strat (G2 a) (λc b=>?_) d;rw[Rt,(EQ _).2];exact ma.2 ⟨c,b,by unfold Hu;simp⟩
