import Derived.Test.YtoihbhenbmffcaaGreatDoorVAK
import Derived.Test.YtoihbhenbmffcaaGreatDoorVAC
set_option linter.all false
set_option maxHeartbeats 0
open List renaming length->Z,toArray->D6
open Option renaming none->Y,some->V
open Go.Value renaming slice->U,int->X,string->O,agg->Ms,bool->No,ownBlock->OC
open Bool renaming false->K,true->Cm
open Go.IntKind renaming i64->J,i32->M8
open Go.Obj renaming cells->Dj
open Go.Ending renaming returned->G3
open Or renaming inl->Hd,inr->Hf
open Go renaming World->Hq,Value->Hs
open Go.RowKit renaming Hid->JR
open Go.World renaming cell?->Lc,ownsRow->Mi
namespace Go.Proofs.YtoihbhenbmffcaaGreatDoor
open Go.RowKit Go.Proofs.Tryz
variable{w v u:Hq}{m n k i j b:Nat}{y:QC Hs}{T:TypeId}{z:Hs}{o:Option Addr}{p:QC DF}{s t:bC}{M:QC Nat}{I:Int}{c:QC A7}
def Bl(l:PL):Bool:=l.sort==0||l.sort==1
def AU(l:PL):QC AY:=if Bl l then l.ts else[l.l,l.r]
theorem PG(l:PL)(p:Option Addr)(n o:Nat)(w:Hq):
  Calls prog 135 #[Ms (D6 (Ay (l,U p n o)))] w λe q=>e=G3 (No (Bl l))/\Ac [] w q:=by
 have j:=(SF [] w).alloc (Dj (D6 (Ay (l,U p n o))) 217);obtain⟨i,a,m,c,d,f,g⟩:=l;have r:JR (∀b,Bl ⟨i,a,m,c,d,f,g⟩=b->(a==0||a==1)=b):=λb h=>h
 simp only[Ay]at j⊢;go_enter func135,ntmps135;cases h0:(a==0)with
 |true=>
  have k:JR (Bl ⟨i,a,m,c,d,f,g⟩=Cm):=by show _=_;unfold Bl;simp only;rw[h0];rfl
  go_wp2;go_ret;rw[k.out];exact⟨rfl,j⟩
 |false=>
  have k:JR (Bl ⟨i,a,m,c,d,f,g⟩=(a==1)):=by show _=_;unfold Bl;simp only;rw[h0];rfl
  go_wp2;go_ret;rw[k.out];exact⟨rfl,j⟩
def bN(h:AI w m y T)(a:Z y=n*k)(b:n<=maxLen):Mi w 0 T k (U (V ⟨m,0,Y⟩) n n) n y:=by
 refine⟨a,Hf ⟨m,n,D6 y,rfl,lW _,h,lX _,b,by simpa using a,?_⟩⟩;rw[<-a];simp
theorem MX(l:PL)(c:Option Addr)(d:Nat)(w:Hq)(h:KR w 0 (l,U c (Z l.ts) d)):
  Calls prog 137 #[Ms (D6 (Ay (l,U c (Z l.ts) d)))] w λe p=>∃z A,e=G3 (U z (Z (AU l)) A)/\Mi p 0 215 2 (U z (Z (AU l)) A) (Z (AU l)) ((AU l).flatMap Ar)/\Ac [] w p:=by
 have j:=Ab ((SF [] w).alloc (Dj (D6 (Ay (l,U c (Z l.ts) d))) 217));have o:=Ab (Tc w (Ay (l,U c (Z l.ts) d)) 217);have r:=Ab (Ad h j);have t:JR (∀w,Calls prog 135 #[Ms (D6 (Ay (l,U c (Z l.ts) d)))] w λe p=>e=G3 (No (Bl l))/\Ac [] w p):=λw=>PG l c (Z l.ts) d w
 clear h;obtain⟨k,i,n,m,f,a,b⟩:=l;simp only[Ay]at j o r t⊢;go_enter func137,ntmps137;go_wp2_with fail
 change Calls _ _ _ (w.alloc (Dj [X J k,X J i,X J n,O m,U c (Z f) d,X M8 a.v,O a.s,X M8 b.v,O b.s].toArray 217)) _;generalize w.alloc (Dj [X J k,X J i,X J n,O m,U c (Z f) d,X M8 a.v,O a.s,X M8 b.v,O b.s].toArray 217)=w1 at j o r⊢;generalize w.heap.size=N at o⊢;refine(t w1).mono ?_;rintro e u ⟨rfl,q⟩;have g:=o.kept q;have y:=Ab (j.trans q);have F:=Ab (Ad r q);have H:=g.cell 4;have E:=g.cell 5;have G:=g.cell 6;have C:=g.cell 7;have B:=g.cell 8;simp at H E G C B;clear g o r j q t;cases hh:Bl ⟨k,i,n,m,f,a,b⟩with
 |true=>
  have x:JR (AU ⟨k,i,n,m,f,a,b⟩=f):=by show _=_;unfold AU;rw[hh];rfl
  clear hh;go_wp2;go_ret;rw[x.out];exact⟨c,d,rfl,F,y⟩
 |false=>
  have x:JR (AU ⟨k,i,n,m,f,a,b⟩=[a,b]):=by show _=_;unfold AU;rw[hh];rfl
  clear hh;have D:JR (Mi (u.alloc (Dj [X M8 a.v,O a.s,X M8 b.v,O b.s].toArray 215)) 0 215 2 (U (V ⟨u.heap.size,0,Y⟩) 2 2) 2 [X M8 a.v,O a.s,X M8 b.v,O b.s]):=bN (Tc u _ 215) rfl (by unfold maxLen;omega);go_wp2;go_ret;rw[x.out];exact⟨_,_,rfl,D,y.alloc _⟩
theorem Tryz.zT:(Tryz.prog.info? 187).map (λi=>(i.zero,i.size,i.bytes))=V (V (Ms #[X J 0,O ⟨#[]⟩,U Y 0 0]),3,48):=by kernel_rfl
def UT(p:Lx):Z (Ay p)=9:=rfl
def UF(p:Hh):Z (AS p)=3:=rfl
def UX(p:AY):Z (Ar p)=2:=rfl
def Js{e:QC Lx}(h:Cd w n z e)(k:Nat)(a:k<Z e):
  ∃g p l d f,z=U (V ⟨g,0,Y⟩) (Z e) p/\e[k]=(l,U d (Z l.ts) f)/\KR w n (l,U d (Z l.ts) f)/\
   Lc w ⟨g,k*9,Y⟩=V (X J l.place)/\Lc w ⟨g,k*9+1,Y⟩=V (X J l.sort)/\Lc w ⟨g,k*9+2,Y⟩=V (X J l.ap)/\Lc w ⟨g,k*9+3,Y⟩=V (O l.an)/\Lc w ⟨g,k*9+4,Y⟩=V (U d (Z l.ts) f)/\
   Lc w ⟨g,k*9+5,Y⟩=V (X M8 l.l.v)/\Lc w ⟨g,k*9+6,Y⟩=V (O l.l.s)/\Lc w ⟨g,k*9+7,Y⟩=V (X M8 l.r.v)/\Lc w ⟨g,k*9+8,Y⟩=V (O l.r.s):=by
 obtain⟨g,p,E,_,b⟩:=AC h.row (λc _=>UT c) k a;have x:=(h.each _ (lE a)).1;obtain⟨d,f,m⟩:=Ak x;have u:=b k a 0 (by omega);have o:=b k a 1 (by omega);have i:=b k a 2 (by omega);have j:=b k a 3 (by omega);have B:=b k a 4 (by omega);have y:=b k a 5 (by omega);have t:=b k a 6 (by omega);have q:=b k a 7 (by omega);have A:=b k a 8 (by omega);obtain⟨l,C,D⟩:∃l C,e[k]=(l,C):=⟨_,_,rfl⟩;rw[D]at u o i j B y t q A x m;simp only at m;subst m;simp[Ay]at u o i j B y t q A;exact⟨g,p,l,d,f,E,D,x,u,o,i,j,B,y,t,q,A⟩
def AV(bm:QC Lx):QC Hh:=(bm.filter λp=>Bl p.1).map λp=>⟨p.1.ap,p.1.an,p.2⟩
def BC(c:DF):QC Hh:=⟨c.hp,c.hn,c.hv⟩::AV c.bm
def Qd{a:QC Lx}(b:k<Z a):AV (a.take (k+1))=AV (a.take k)++(if Bl a[k].1 then[⟨a[k].1.ap,a[k].1.an,a[k].2⟩] else[]):=by
 unfold AV;rw[lF b,nZ,mx]
 congr 1
 by_cases h:Bl a[k].1=Cm<;>simp[h]
def Es(a:QC Lx):Z (AV a)<=Z a:=by
 unfold AV;rw[lR];exact nr _ _
set_option maxRecDepth 100000
theorem Mn(D:Option Addr)(P:Nat)(a:QC Lx)(w:Hq)(h:Cd w 0 (U D (Z a) P) a)(FC:Z a<=1000):
  Calls prog 92 #[U D (Z a) P] w λe B=>∃f j,e=G3 (U f (Z (AV a)) j)/\Mi B w.heap.size 187 3 (U f (Z (AV a)) j) (Z (AV a)) ((AV a).flatMap AS)/\Ac [] w B:=by
 obtain⟨i0,EY,W,AT,BT⟩:=mH Tryz.zT;have HB:=Ab h;clear h;go_enter func92,ntmps92;go_wp2
 go_loopg [3,8] (Z a) (λgk o i wr=>∃(k:Nat) (b:QC Hh) (f:Option Addr) (j:Nat),o=U f (Z b) j/\i=X J k/\k<=Z a/\Z b<=k/\gk=Z a-k/\JR (b=AV (a.take k))/\Mi wr w.heap.size 187 3 (U f (Z b) j) (Z b) (b.flatMap AS)/\JR (Ac [] w wr))
 case atStart=>exact⟨0,[],Y,0,rfl,rfl,by omega,by simp,rfl,by show _=_;simp[AV],mf _ _ _ _,SF _ _⟩
 case round=>
  obtain⟨k,b,f,j,rfl,rfl,G,FF,I,q,v,p⟩:=hrel;have H:=Ab I;clear I;by_cases A:k<Z a
  .have Q:=HB.kept p;have FO:=p.size;obtain⟨g,FB,l,c,d,E,N,B0,d0,d1,S,T,d4,d5,d6,d7,d8⟩:=Js Q k A;simp only[lB]at E;obtain⟨rfl,_,rfl⟩:=E;have s:=Ab (Qd A);rw[N]at s;clear Q B0 N;have z:=Ab (PG l c (Z l.ts) d (wr.alloc (Dj (D6 (Ay (l,U c (Z l.ts) d))) 217)));simp only[Ay]at z;have R:=Ab (Tc wr (Ay (l,U c (Z l.ts) d)) 217);have C:=Ab (p.alloc (Dj (D6 (Ay (l,U c (Z l.ts) d))) 217));have F:=Ab (lM v (Dj (D6 (Ay (l,U c (Z l.ts) d))) 217));(go_wp2_with fail);refine z.mono ?_;rintro e m ⟨rfl,n⟩;have u:=R.kept n;have M:=Ab (C.trans n);have x:=Ad F n;have L:=n.size;(have FA:wr.heap.size+1<=m.heap.size:=by simpa using L);have c2:=u.cell 2;have c3:=u.cell 3;have c4:=u.cell 4;simp[Ay]at c2 c3 c4;clear u n R C F z d0 d1 S T d4 d5 d6 d7 d8 v p L;cases hh:Bl l with
   |false=>
    (have y:JR (b=AV (a.take (k+1))):=by show _=_;rw[Aa s,hh,Aa q];simp);clear hh q s;go_wp2
    go_roundg (Z a-(k+1))
    case measure=>have:=Aa H;omega
    case rel=>exact⟨k+1,b,f,j,rfl,by go_num,by omega,by omega,rfl,y,x,M⟩
   |true=>
    (have y:JR (b++[⟨l.ap,l.an,U c (Z l.ts) d⟩]=AV (a.take (k+1))):=by show _=_;rw[Aa s,hh,Aa q];simp);clear hh q s;have Bx:=mo m (Dj (D6 (AS ⟨l.ap,l.an,U c (Z l.ts) d⟩)) 187);have EK:=lM x (Dj (D6 (AS ⟨l.ap,l.an,U c (Z l.ts) d⟩)) 187);(have HF:JR (∀r,(m.alloc (Dj (D6 (AS ⟨l.ap,l.an,U c (Z l.ts) d⟩)) 187)).grownBy r (U f (Z b) j).ownBlock->Ac [] w r):=λr hg=>(M.alloc _).grown hg (λk G=>Hf ((x.lt k G).1)));go_wp2_with (at_builtin;refine me _ rfl (.tmp 14) (.tmp 17) _ rfl w.heap.size 187 i0 _ 3 48 underlying163 EY W AT BT rfl (by omega) (U f (Z b) j) (Z b) (b.flatMap AS) rfl EK ⟨m.heap.size,0,Y⟩ 1 1 (AS ⟨l.ap,l.an,U c (Z l.ts) d⟩) rfl rfl (mg (cs:=D6 (AS ⟨l.ap,l.an,U c (Z l.ts) d⟩)) (t:=187) (fr:=(0,0)) Bx) (by simp[Value.oneCell',AS]) (by omega) (by unfold maxLen;omega) (by omega) (by simp;omega) (m.heap.size+1) (by simp) ?_;intro g1 AH r B9 A2 E0 FL)
    go_roundg (Z a-(k+1))
    case measure=>have:=Aa H;omega
    case rel=>exact⟨k+1,b++[⟨l.ap,l.an,U c (Z l.ts) d⟩],V ⟨g1,0,Y⟩,AH,by simp,by go_num,by omega,by simp;omega,rfl,y,by simpa using B9,HF r A2⟩
  .have HE:JR (b=AV a):=by
    have h:=Aa q;rw[lH (by omega)]at h;exact h
   go_wp2;go_ret;rw[<-HE.out];exact⟨f,j,rfl,v,p⟩
def bA(w:Hq)(g:Nat)(b:QC Lx)(v:Hs)(h:Cd w g v b):∀u∈(AV b).flatMap AS,u.oneCell'=Cm:=by
 intro u f;obtain⟨t,d,a⟩:=mD.1 f;obtain⟨p,c,rfl⟩:=lP.1 d;obtain⟨j,i,e⟩:=Ak (h.each p (mh.1 c).1).1;simp only[AS,lI,mQ,or_false]at a;rcases a with rfl|rfl|rfl
 .rfl
 .rfl
 .rw[e];rfl
theorem LP(c:DF)(w:Hq)(h:Kj w 0 c.hv c.bv c.dx c.bm)(W:Z c.bm<=1000):
  Calls prog 119 #[Ms (D6 (Br c))] w λe t=>∃v z,e=G3 (U v (Z (BC c)) z)/\Mi t w.heap.size 187 3 (U v (Z (BC c)) z) (Z (BC c)) ((BC c).flatMap AS)/\Ac [] w t:=by
 obtain⟨i0,S,M,T,Ax⟩:=mH Tryz.zT;obtain⟨f,i,b,hv,bv,a⟩:=c;simp only at h W;obtain⟨g,d,rfl⟩:=Ak h.head;obtain⟨l,m,rfl⟩:=Ak h.body.row;have Q:JR (∀wr,Ac [] w wr->Calls prog 92 #[U l (Z a) m] wr λe t=>∃v z,e=G3 (U v (Z (AV a)) z)/\Mi t wr.heap.size 187 3 (U v (Z (AV a)) z) (Z (AV a)) ((AV a).flatMap AS)/\Ac [] wr t):=λwr p=>Mn l m a wr (h.body.kept p) W
 have E:=Ab (bA w 0 a _ h.body);have Bx:=Es a;have A:JR (BC ⟨f,i,b,U g (Z b) d,U l (Z a) m,a⟩=[⟨f,i,U g (Z b) d⟩]++AV a):=rfl;generalize BC ⟨f,i,b,U g (Z b) d,U l (Z a) m,a⟩=AT at A⊢;generalize AV a=BA at Q E Bx A;clear h;simp only[Br];have q:=Ab (Tc w [X J f,O i,U g (Z b) d,U l (Z a) m] 189);have x:=Ab ((SF [] w).alloc (Dj [X J f,O i,U g (Z b) d,U l (Z a) m].toArray 189));go_enter func119,ntmps119;go_wp2_with fail
 change Code.wp _ _ _ _ (w.alloc (Dj [X J f,O i,U g (Z b) d,U l (Z a) m].toArray 189));have F:(w.alloc (Dj [X J f,O i,U g (Z b) d,U l (Z a) m].toArray 189)).heap.size=w.heap.size+1:=by simp
 generalize w.alloc (Dj [X J f,O i,U g (Z b) d,U l (Z a) m].toArray 189)=w1 at q x F⊢;obtain⟨N,C⟩:=QP w.heap.size;rw[C]at q F⊢;have c0:=q.cell 0;have c1:=q.cell 1;have c2:=q.cell 2;have c3:=q.cell 3;simp at c0 c1 c2 c3;have H:=Ab C;have G:Z AT=1+Z BA:=by rw[Aa A];simp;omega
 have A1:JR (∀(r:Hq) (o:Option Addr) (n:Nat),Mi r N 187 3 (U o (1+Z BA) n) (1+Z BA) (AS ⟨f,i,U g (Z b) d⟩++BA.flatMap AS)->Mi r N 187 3 (U o (Z AT) n) (Z AT) (AT.flatMap AS)):=by
  intro r o n ho;rw[G,Aa A,mm];simpa using ho
 have P:=Ab G;have DT:JR (Mi (w1.drew.alloc (Dj (D6 (AS ⟨f,i,U g (Z b) d⟩)) 187)) N 187 3 (U (V ⟨N+1,0,Y⟩) 1 1) 1 (AS ⟨f,i,U g (Z b) d⟩)):=by
  have hh:=Tc w1.drew (AS ⟨f,i,U g (Z b) d⟩) 187;rw[show w1.drew.heap.size=N+1 from F]at hh
  exact⟨rfl,Hf ⟨N+1,1,_,rfl,by omega,hh,lX _,by unfold maxLen;omega,rfl,rfl⟩⟩
 have CC:JR (∀j:Hq,N<=j.heap.size->Mi (j.alloc (Dj (D6 (AS ⟨f,i,U g (Z b) d⟩)) 187)) N 187 3 (U (V ⟨j.heap.size,0,Y⟩) 1 1) 1 (AS ⟨f,i,U g (Z b) d⟩)):=λj p=>⟨rfl,Hf ⟨j.heap.size,1,_,rfl,p,Tc j _ 187,lX _,by unfold maxLen;omega,rfl,rfl⟩⟩
 clear C G
 go_region_law
  (first
   |(
     go_simp;go_at_call 92;refine(Q _ (by first|exact x.drew|exact(x.drew).alloc _)).mono ?_;rintro e j ⟨AH,AR,rfl,A0,u⟩;
     have R:=u.size;
     first
      |(have BB:=Ad DT u;have D:=(x.drew.alloc _).trans u;have B0:N+2<=j.heap.size:=by simp at R;omega)
      |(have I:=q.drew.kept u;have e0:=I.cell 0;have e1:=I.cell 1;have e2:=I.cell 2;simp at e0 e1 e2;have D:=x.drew.trans u;have B0:N+1<=j.heap.size:=by simp at R;omega))
   |(refine J1 _ (by rfl) _ _ _ (by rfl) N 187 i0 _ 3 48 underlying163 S M T Ax rfl (by omega) (V ⟨N+1,0,Y⟩) 1 1 (AS ⟨f,i,U g (Z b) d⟩) (by rfl) BB _ AH (Z BA) AR (BA.flatMap AS) (by rfl) A0 E (by unfold maxLen;omega) (by omega) (by omega) ?_;intro o n r s y L;have B:=Ab (And.intro (A1 r o n s) (D.grown y (λk p=>Hf (by simp[OC]at p;have:=Aa H;omega))));clear s y L)
   |(refine J1 _ (by rfl) _ _ _ (by rfl) N 187 i0 _ 3 48 underlying163 S M T Ax rfl (by omega) (V ⟨j.heap.size,0,Y⟩) 1 1 (AS ⟨f,i,U g (Z b) d⟩) (by rfl) (CC j (by omega)) _ AH (Z BA) AR (BA.flatMap AS) (by rfl) (lM A0 _) E (by unfold maxLen;omega) (by omega) (by simp;omega) ?_;intro o n r s y L;have B:=Ab (And.intro (A1 r o n s) ((D.alloc _).grown y (λk p=>Hf (by simp[OC]at p;have:=Aa H;omega))));clear s y L))
 all_goals
  go_wp2;go_ret;rw[Aa H,Aa P];exact⟨o,n,rfl,by have h:=B.1;rw[Aa P]at h;exact h,B.2⟩
def A5(bm:QC Lx):QC AY:=bm.flatMap λp=>AU p.1
def BF(c:DF):QC AY:=c.dx++A5 c.bm
def Qh{a:QC Lx}(b:k<Z a):A5 (a.take (k+1))=A5 (a.take k)++AU a[k].1:=by
 unfold A5;rw[lF b,mm];simp
def Lt(a:QC AY):∀u∈a.flatMap Ar,u.oneCell'=Cm:=by
 intro u b;obtain⟨t,_,h⟩:=mD.1 b;simp[Ar]at h;rcases h with rfl|rfl<;>rfl
def aD(h:Mi w m T k (U o n i) n y)(p:0<n):
  ∃g,o=V ⟨g,0,Y⟩/\Z y=n*k/\(∀j u,y[j]?=V u->Lc w ((⟨g,0,Y⟩:Addr).add j)=V u)/\m<=g/\g<w.heap.size:=by
 rcases h.2 with⟨a,d⟩|⟨g,c,b,a,f,l⟩
 .omega
 .simp only[lB]at a;obtain⟨rfl,_,rfl⟩:=a;exact⟨g,rfl,h.1,h.cells rfl,(h.lt g rfl)⟩
structure Qk(c:DF):Prop where
 head:0<Z c.dx/\Z c.dx<=1000
 lits:Z c.bm<=1000
 each:∀p∈c.bm,(Bl p.1=Cm->0<Z p.1.ts)/\Z p.1.ts<=1000
def Qk.dP{c:DF}(h:Qk c){p:Lx}(a:p∈c.bm):0<Z (AU p.1)/\Z (AU p.1)<=1000:=by
 have:=h.each p a;unfold AU;split
 .rename_i b;exact⟨this.1 b,this.2⟩
 .simp
set_option maxRecDepth 512
theorem cY(n:Nat)(w:Hq)(r:0<n)(v:n<=2000000):
  Calls prog 228 #[U Y 0 0,X J n] w λe j=>∃g G,e=G3 (U (V ⟨g,0,Y⟩) 0 G)/\Mi j w.heap.size 215 2 (U (V ⟨g,0,Y⟩) 0 G) 0 []/\Ac [] w j:=by
 obtain⟨f,s,q,y,m⟩:=mH Tryz.gu;have l:(Builtin.firstCells f.size 0 (U Y 0 0)).run prog w.drew=.ok (D6 ([]:QC Hs)) w.drew:=run_firstCells_none w.drew f.size 0 0 0;have k:∀i,(Builtin.append_ #[185,3] i #[U Y 0 0,X J (n:Int)]).run prog w=
   .ok (U (V ⟨w.heap.size,0,Y⟩) n (grownCap w n 0 215)) (w.drew.alloc (Dj (D6 ([]:QC Hs)++Builtin.zeroCells (Ms #[X M8 0,O ⟨#[]⟩]:Hs).cells n++Builtin.zeroCells (Ms #[X M8 0,O ⟨#[]⟩]:Hs).cells (grownCap w n 0 215-n)) 215)):=λi=>by
  have h:=Lib.run_append_grow_zeros w 185 3 i 215 f _ J J underlying185 underlying3 s q Y 0 0 [] l n r (by omega) (by omega) (by omega) (by rw[m];omega) (by rw[m,mC];exact growslice_fits (by omega) (by omega));simp only[mC]at h;exact h
 obtain⟨G,b⟩:∃G,G=grownCap w n 0 215:=⟨_,rfl⟩;obtain⟨a,c⟩:∃a:Array Hs,a=D6 ([]:QC Hs)++Builtin.zeroCells (Ms #[X M8 0,O ⟨#[]⟩]:Hs).cells n++Builtin.zeroCells (Ms #[X M8 0,O ⟨#[]⟩]:Hs).cells (G-n):=⟨_,rfl⟩;rw[<-b,<-c]at k;have t:n<=G:=by rw[b];exact grownCap_ge w _ _ _
 have d:G<=maxLen:=by rw[b];exact grownCap_le_maxLen w n 0 215 (by unfold maxLen;omega)
 have p:a.size=G*2:=by
  rw[c];simp[Builtin.zeroCells,Value.cells];omega
 have u:G<=9223372036854775807:=by unfold maxLen at d;omega
 have o:JR (Mi (w.alloc (Dj a 215)) w.heap.size 215 2 (U (V ⟨w.heap.size,0,Y⟩) 0 G) 0 []/\Ac [] w (w.alloc (Dj a 215))):=
  ⟨⟨rfl,Hf ⟨w.heap.size,G,a,rfl,lX _,mo w _,lW _,d,p,by simp⟩⟩,(SF [] w).alloc _⟩
 have x:(0:Int)<(n:Int):=by omega
 have z:¬((n:Int)<0):=by omega
 clear l c b p d;go_enter func228,ntmps228;go_wp2_with (at_builtin;refine Lib.wpList_append_run _ rfl _ _ _ _ rfl _ _ rfl rfl _ _ (k _) ?_)
 go_ret;exact⟨_,G,rfl,o.1,o.2.drew⟩
set_option maxRecDepth 100000
theorem Wn(R:Nat)(E:Option Addr)(z:Nat)(v:Option Addr)(C:Nat)(a b:QC AY)(I b2:Nat)(w:Hq)(r:AI w R [U E (Z a) z,U v (Z b) C] 185)(S:Mi w I 215 2 (U E (Z a) z) (Z a) (a.flatMap Ar))(M:Mi w b2 215 2 (U v (Z b) C) (Z b) (b.flatMap Ar))(W:0<Z a)(BS:Z a+Z b<=2000000):
  Calls prog 213 #[U (V ⟨R,0,Y⟩) 2 2] w λe L=>∃d h,e=G3 (U d (Z (a++b)) h)/\Mi L w.heap.size 215 2 (U d (Z (a++b)) h) (Z (a++b)) ((a++b).flatMap Ar)/\Ac [] w L:=by
 obtain⟨i0,Bx,N,T,AO⟩:=mH Tryz.gu;have HV:=Ab r;have H1:=Ab S;have H2:=Ab M;have s:=r.cell 0;have q:=r.cell 1;simp at s q;have A1:=Ab (cY (Z a+Z b) w (by omega) BS);have BB:JR (Z (a++b)=Z a+Z b):=by show _=_;simp
 generalize hAB:a++b=ab at BB⊢;have B2:=Ab hAB;have DT:=Ab W;clear r S M hAB W;have B9:¬((Z a:Int)<0):=by omega
 have EM:¬((Z a:Int)+(Z b:Int)<0):=by omega
 go_enter func213,ntmps213;go_wp2
 go_loopg [3,11] 2 (λgk o i wr=>∃k:Nat,i=X J k/\((k=0/\o=X J 0)\/(k=1/\o=X J (Z a))\/(k=2/\o=X J ((Z a:Int)+(Z b:Int))))/\gk=2-k/\w=wr)
 case atStart=>exact⟨0,rfl,Hd ⟨rfl,rfl⟩,rfl,rfl⟩
 case round=>
  obtain⟨k,rfl,l,B,rfl⟩:=hrel;rcases l with⟨rfl,rfl⟩|⟨rfl,rfl⟩|⟨rfl,rfl⟩
  .go_wp2
   go_roundg 1
   case measure=>omega
   case rel=>exact⟨1,by go_num,Hf (Hd ⟨rfl,by go_num⟩),rfl,rfl⟩
  .go_wp2
   go_roundg 0
   case measure=>omega
   case rel=>exact⟨2,by go_num,Hf (Hf ⟨rfl,by go_num⟩),rfl,rfl⟩
  ·(go_wp2_with fail);refine A1.mono ?_;rintro e w2 ⟨g,G,rfl,A0,k2⟩;have P:=Ab A0;have Ax:=Ab k2;clear A1 A0 k2 s q;go_wp2
   go_loopg [6,27] 2 (λgk o i wr=>∃(k:Nat) (c:QC AY) (d:Option Addr) (h:Nat),o=U d (Z c) h/\i=X J k/\((k=0/\JR (c=[]))\/(k=1/\JR (c=a))\/(k=2/\JR (c=ab)))/\gk=2-k/\Z c<=Z a+Z b/\(Mi wr w.heap.size 215 2 (U d (Z c) h) (Z c) (c.flatMap Ar))/\JR (Ac [] w wr))
   case atStart=>exact⟨0,[],_,_,rfl,rfl,Hd ⟨rfl,rfl⟩,rfl,by simp,P,Ax⟩
   case round=>
    clear P Ax;obtain⟨k,c,d,h,rfl,rfl,l,B,CL,p,j⟩:=hrel;have Q:=Ab B;clear B;have CC:=j.size;rcases l with⟨rfl,m⟩|⟨rfl,m⟩|⟨rfl,m⟩
    .have s:=(HV.kept j).cell 0;simp at s;have H:=Ad H1 j;(have hz:Z c=0:=by rw[Aa m];rfl);(have y:JR (∀f,wr.grownBy f (U d (Z c) h).ownBlock->Ac [] w f):=λf x=>j.grown x (λk l=>Hf ((p.lt k l).1)));(have F:JR (c++a=a):=by show _=_;rw[Aa m];rfl);have n:=Ab hz;clear hz;go_wp2_with (at_builtin;refine IB _ rfl (.tmp 31) (.tmp 32) _ rfl w.heap.size 215 i0 _ 2 24 underlying185 Bx N T AO rfl (by omega) d (Z c) h (c.flatMap Ar) rfl p I E (Z a) z (a.flatMap Ar) rfl H (Lt _) (by have:=Aa n;unfold maxLen;omega) (by have:=Aa n;omega) (by omega) ?_;intro A u f t D BA)
     go_roundg 1
     case measure=>have:=Aa Q;omega
     case rel=>exact⟨1,c++a,A,u,by simp,by go_num,Hf (Hd ⟨rfl,F⟩),rfl,by simp;have:=Aa n;omega,by simpa using t,y f D⟩
    .have q:=(HV.kept j).cell 1;simp at q;have H:=Ad H2 j;(have n:JR (Z c=Z a):=by show _=_;rw[Aa m]);(have y:JR (∀f,wr.grownBy f (U d (Z c) h).ownBlock->Ac [] w f):=λf x=>j.grown x (λk l=>Hf ((p.lt k l).1)));(have F:JR (c++b=ab):=by show _=_;rw[Aa m];exact B2);go_wp2_with (at_builtin;refine IB _ rfl (.tmp 31) (.tmp 32) _ rfl w.heap.size 215 i0 _ 2 24 underlying185 Bx N T AO rfl (by omega) d (Z c) h (c.flatMap Ar) rfl p b2 v (Z b) C (b.flatMap Ar) rfl H (Lt _) (by have:=Aa n;unfold maxLen;omega) (by have:=Aa n;omega) (by omega) ?_;intro A u f t D BA)
     go_roundg 0
     case measure=>have:=Aa Q;omega
     case rel=>exact⟨2,c++b,A,u,by simp,by go_num,Hf (Hf ⟨rfl,F⟩),rfl,by simp;have:=Aa n;omega,by simpa using t,y f D⟩
    .go_wp2;go_ret;rw[<-Aa m];exact⟨d,h,rfl,p,j⟩
theorem Qz(B:Option Addr)(N:Nat)(a:QC Lx)(w:Hq)(h:Cd w 0 (U B (Z a) N) a)(FP:Z a<=1000)(f:∀p∈a,0<Z (AU p.1)/\Z (AU p.1)<=1000):
  Calls prog 139 #[U B (Z a) N] w λe y=>∃c d,e=G3 (U c (Z (A5 a)) d)/\Mi y w.heap.size 215 2 (U c (Z (A5 a)) d) (Z (A5 a)) ((A5 a).flatMap Ar)/\Ac [] w y:=by
 obtain⟨i0,FA,T,A0,BB⟩:=mH Tryz.gu;have HB:=Ab h;have E0:=Ab f;clear h f;go_enter func139,ntmps139;go_wp2
 go_loopg [3,8] (Z a) (λgk o i wr=>∃(k:Nat) (b:QC AY) (c:Option Addr) (d:Nat),o=U c (Z b) d/\i=X J k/\k<=Z a/\Z b<=k*1000/\gk=Z a-k/\JR (b=A5 (a.take k))/\Mi wr w.heap.size 215 2 (U c (Z b) d) (Z b) (b.flatMap Ar)/\JR (Ac [] w wr))
 case atStart=>exact⟨0,[],Y,0,rfl,rfl,by omega,by simp,rfl,by show _=_;simp[A5],mf _ _ _ _,SF _ _⟩
 case round=>
  obtain⟨k,b,c,d,rfl,rfl,E,FT,F,u,s,j⟩:=hrel;have HG:=Ab F;clear F;by_cases t:k<Z a
  .have P:=HB.kept j;have Go:=j.size;obtain⟨g,FO,l,q,r,C,L,I,d0,d1,R,S,d4,d5,d6,d7,d8⟩:=Js P k t;simp only[lB]at C;obtain⟨rfl,_,rfl⟩:=C;have x:=Ab (Qh t);have f:=Aa E0 a[k] (lE t);rw[L]at x f;simp only at f;have v:=Ab (MX l q r (wr.alloc (Dj (D6 (Ay (l,U q (Z l.ts) r))) 217)) (Ad I ((SF [] wr).alloc _)));clear P I L;simp only[Ay]at v;have z:=Ab (j.alloc (Dj (D6 (Ay (l,U q (Z l.ts) r))) 217));have D:=Ab (lM s (Dj (D6 (Ay (l,U q (Z l.ts) r))) 217));(go_wp2_with fail);refine v.mono ?_;rintro e A ⟨FC,EK,rfl,Q,n⟩;have B9:=Ab (z.trans n);have M:=Ad D n;have G:=n.size;(have FF:wr.heap.size+1<=A.heap.size:=by simpa using G);obtain⟨g3,rfl,CL,H,_,_⟩:=aD Q f.1;have BT:=Ab H;(have ES:JR (b++AU l=A5 (a.take (k+1))):=by show _=_;rw[Aa x,Aa u]);(have HF:JR (∀m,A.grownBy m (U c (Z b) d).ownBlock->Ac [] w m):=λm W=>B9.grown W (λk E=>Hf ((M.lt k E).1)));clear n z D v d0 d1 R S d4 d5 d6 d7 d8 s j G Q H x u;(have EX:Z (b++AU l)<=(k+1)*1000:=by simp;omega);(have FL:k<=1000:=by omega);go_wp2_with (at_builtin;refine me _ rfl (.tmp 12) (.tmp 14) _ rfl w.heap.size 215 i0 _ 2 24 underlying185 FA T A0 BB rfl (by omega) (U c (Z b) d) (Z b) (b.flatMap Ar) rfl M ⟨g3,0,Y⟩ (Z (AU l)) EK ((AU l).flatMap Ar) rfl CL BT (Lt _) (by omega) (by unfold maxLen;omega) (by omega) (by omega) _ rfl ?_;intro g1 AO m B0 Bx FB FW)
   go_roundg (Z a-(k+1))
   case measure=>have:=Aa HG;omega
   case rel=>exact⟨k+1,b++AU l,V ⟨g1,0,Y⟩,AO,by simp,by go_num,by omega,EX,rfl,ES,by simpa using B0,HF m Bx⟩
  .have HE:JR (b=A5 a):=by
    have h:=Aa u;rw[lH (by omega)]at h;exact h
   go_wp2;go_ret;rw[<-HE.out];exact⟨c,d,rfl,s,j⟩
def I9{a:QC Lx}(h:∀p∈a,Z (AU p.1)<=1000):Z (A5 a)<=Z a*1000:=by
 unfold A5
 induction a with
 |nil=>simp
 |cons p l ih=>
  have c:=h p (by simp);have d:=ih (λq b=>h q (by simp[b]));simp only[mc,lU,lQ];omega
theorem Re(c:DF)(w:Hq)(h:Kj w 0 c.hv c.bv c.dx c.bm)(G:Qk c):
  Calls prog 184 #[Ms (D6 (Br c))] w λe k=>∃f j,e=G3 (U f (Z (BF c)) j)/\Mi k w.heap.size 215 2 (U f (Z (BF c)) j) (Z (BF c)) ((BF c).flatMap Ar)/\Ac [] w k:=by
 have z:JR (∀p∈c.bm,0<Z (AU p.1)/\Z (AU p.1)<=1000):=λp g=>G.dP g
 obtain⟨g,q,b,hv,bv,a⟩:=c;obtain⟨⟨I,AR⟩,C,Ax⟩:=G;simp only at h I AR C z;clear Ax;obtain⟨i,d,rfl⟩:=Ak h.head;obtain⟨l,o,rfl⟩:=Ak h.body.row;have M:=I9 (λp g=>(z p g).2);have Bx:Z (A5 a)<=1000000:=by omega
 have B:JR (∀wr,Ac [] w wr->Calls prog 139 #[U l (Z a) o] wr λe k=>∃f j,e=G3 (U f (Z (A5 a)) j)/\Mi k wr.heap.size 215 2 (U f (Z (A5 a)) j) (Z (A5 a)) ((A5 a).flatMap Ar)/\Ac [] wr k):=λwr r=>Qz l o a wr (h.body.kept r) C z
 have HH:=Ab h.head;have u:JR (BF ⟨g,q,b,U i (Z b) d,U l (Z a) o,a⟩=b++A5 a):=rfl;generalize BF ⟨g,q,b,U i (Z b) d,U l (Z a) o,a⟩=TV at u⊢;generalize A5 a=BT at B Bx u;have F:JR (∀(wr:Hq) (m:Option Addr) (n A:Nat),Ac [] w wr->Mi wr A 215 2 (U m (Z BT) n) (Z BT) (BT.flatMap Ar)->Calls prog 213 #[U (V ⟨wr.heap.size,0,Y⟩) 2 2] (wr.alloc (Dj #[U i (Z b) d,U m (Z BT) n] 185)) λe k=>∃f j,e=G3 (U f (Z TV) j)/\Mi k w.heap.size 215 2 (U f (Z TV) j) (Z TV) (TV.flatMap Ar)/\Ac [] w k):=by
  intro wr m n A r hr;have t:=(SF [] wr).alloc (Dj #[U i (Z b) d,U m (Z BT) n] 185);refine(Wn wr.heap.size i d m n b BT 0 A _ (Tc wr [U i (Z b) d,U m (Z BT) n] 185) (Ad HH (r.trans t)) (Ad hr t) I (by omega)).mono ?_;rintro e k ⟨f,j,rfl,W,k2⟩;rw[Aa u];exact⟨f,j,rfl,Al W (by have:=(r.trans t).size;exact this),(r.trans t).trans k2⟩
 clear h M;simp only[Br];have s:=Ab (Tc w [X J g,O q,U i (Z b) d,U l (Z a) o] 189);have y:=Ab ((SF [] w).alloc (Dj [X J g,O q,U i (Z b) d,U l (Z a) o].toArray 189));go_enter func184,ntmps184;go_wp2_with fail
 change Code.wp _ _ _ _ (w.alloc (Dj [X J g,O q,U i (Z b) d,U l (Z a) o].toArray 189));generalize w.alloc (Dj [X J g,O q,U i (Z b) d,U l (Z a) o].toArray 189)=w1 at s y⊢;obtain⟨N,v⟩:=QP w.heap.size;rw[v]at s F⊢;have T:=s.cell 2;have c3:=s.cell 3;simp at T c3;have A1:=Ab v;clear v
 go_region_law
  (first
   |(go_simp;go_at_call 139;refine(B _ y.drew).mono ?_;rintro e wt ⟨m,n,rfl,L,x⟩;have R:=(s.drew.kept x).cell 2;simp at R;have A0:=Ab (y.drew.trans x);have Q:=Ab L;clear L x)
   |(go_simp;go_at_call 213;refine(F wt m n _ A0 Q).mono ?_;rintro e w9 ⟨S,P,rfl,H,E⟩;have D:=Ab (And.intro H E);clear H E))
 all_goals
  go_wp2;go_ret;rw[Aa A1];exact⟨S,P,rfl,D.1,D.2⟩
def Gz(bm:QC Lx):QC bC:=(bm.filter λp=>Bl p.1).map λp=>p.1.an
def Co(c:DF):QC bC:=c.hn::Gz c.bm
def da(c:DF):(BC c).map Hh.name=Co c:=by
 simp[BC,Co,AV,Gz]
def IG{c:DF}(h:Kj w 0 c.hv c.bv c.dx c.bm):∀a∈BC c,∃f n d,a.tv=U f n d:=by
 intro a b;rcases lI.1 b with rfl|b
 .obtain⟨f,d,e⟩:=Ak h.head;exact⟨_,_,_,e⟩
 .unfold AV at b;obtain⟨p,g,rfl⟩:=lP.1 b;obtain⟨f,d,e⟩:=Ak (h.body.each p (mh.1 g).1).1;exact⟨_,_,_,e⟩
def J3{l:QC Hh}(h:Mi w n 187 3 z (Z l) (l.flatMap AS))(k:Nat)(a:k<Z l):
  ∃g b,z=U (V ⟨g,0,Y⟩) (Z l) b/\Lc w ⟨g,k*3,Y⟩=V (X J l[k].place)/\Lc w ⟨g,k*3+1,Y⟩=V (O l[k].name)/\Lc w ⟨g,k*3+2,Y⟩=V l[k].tv:=by
 obtain⟨g,b,j,_,d⟩:=AC h (λc _=>UF c) k a;have f:=d k a 0 (by omega);have i:=d k a 1 (by omega);have e:=d k a 2 (by omega);simp[AS]at f i e;exact⟨g,b,j,f,i,e⟩
structure Oy(base:Nat)(lv:Hs)(l:QC bC)(xs:QC bC)(w:Hq)(l':QC bC)(ad':Option Addr)(cp':Nat)(w':Hq):Prop where
 cE:Di FY l'
 mem:∀y,y∈l'↔y∈xs\/y∈l
 ge:Z l<=Z l'
 le:Z l'<=Z l+Z xs
 own:Mi w' base 9 1 (U ad' (Z l') cp') (Z l') (l'.flatMap Ag)
 kept:Ac lv.ownBlock.toList w w'
 new:∀k,(U ad' (Z l') cp').ownBlock=V k->lv.ownBlock=V k\/w.heap.size<=k
theorem Nk(c:DF)(a:Option Addr)(b:Nat)(l:QC bC)(n:Nat)(w:Hq)(h:Kj w 0 c.hv c.bv c.dx c.bm)(DT:Z c.bm<=1000)
  (hl:Mi w n 9 1 (U a (Z l) b) (Z l) (l.flatMap Ag)) (HI:Z l<=900000) (hr:Di FY l) (HB:n<=w.heap.size):
  Calls prog 164 #[U a (Z l) b,Ms (D6 (Br c))] w λe w'=>∃S B0 AR,e=G3 (U B0 (Z S) AR)/\Oy n (U a (Z l) b) l (Co c) w S B0 AR w':=by
 have u:=Ab (LP c (w.alloc (Dj (D6 (Br c)) 189)) (h.kept ((SF [] w).alloc _)) DT);have Ax:=Ab (IG h);have E:=Ab (da c);have CL:JR (Z (BC c)<=1001):=by
  show _<=_;have:=Es c.bm;simp[BC];omega
 obtain⟨hp,hn,x,hv,bv,t⟩:=c;simp only at h;obtain⟨B2,Q,rfl⟩:=Ak h.head;obtain⟨AH,AB,rfl⟩:=Ak h.body.row;generalize BC ⟨hp,hn,x,U B2 (Z x) Q,U AH (Z t) AB,t⟩=aT at u Ax E CL;generalize Co ⟨hp,hn,x,U B2 (Z x) Q,U AH (Z t) AB,t⟩=ns at E⊢;have HL:=Ab hl;have FO:=Ab hr;clear h hl hr;simp only[Br]at u⊢;go_enter func164,ntmps164;go_wp2_with fail
 refine u.mono ?_;rintro e s ⟨FF,R,rfl,Bx,z⟩;have I:JR (Ac [] w s):=((SF [] w).alloc _).trans z;have Ha:w.heap.size+1<=s.heap.size:=by have:=z.size;simpa using this
 have W:=Ab (Al Bx (show w.heap.size<=_ by simp));clear u Bx z;go_wp2
 go_loopg [0,10] (Z aT) (λgk o i wr=>∃(k:Nat) (m:QC bC) (d:Option Addr) (f:Nat),o=U d (Z m) f/\i=X J k/\k<=Z aT/\gk=Z aT-k/\Z m<=Z l+k/\JR (Oy n (U a (Z l) b) l ((aT.take k).map Hh.name) w m d f wr)/\JR (Mi wr w.heap.size 187 3 (U FF (Z aT) R) (Z aT) (aT.flatMap AS))/\JR (∀q,(U d (Z m) f).ownBlock=V q->(U a (Z l) b).ownBlock=V q\/s.heap.size<=q)/\s.heap.size<=wr.heap.size)
 case atStart=>exact⟨0,l,a,b,rfl,rfl,by omega,rfl,by omega,⟨FO,λy=>by simp,by omega,by omega,Ad HL I,I.mono (by simp),λk T=>Hd T⟩,W,λq p=>Hd p,by omega⟩
 case round=>
  clear I;obtain⟨k,m,d,f,rfl,rfl,T,BS,HC,r,H,L,FW⟩:=hrel;have HG:=Ab BS;clear BS;have HA:=Aa CL;by_cases A:k<Z aT
  .obtain⟨g,Go,he,d0,d1,P⟩:=J3 H k A;simp only[lB]at he;obtain⟨rfl,_,rfl⟩:=he;obtain⟨FT,nt,EY,BA⟩:=Ax aT[k] (lE A);rw[BA]at P;clear BA;have A2:=Ab (eP d f m aT[k].name n (wr.alloc (Dj [X J aT[k].place,O aT[k].name,U FT nt EY].toArray 187)) (lM r.own _) (by omega) r.cE (by simp;omega));(go_wp2_with fail);refine A2.mono ?_;rintro e v ⟨N,F,D,rfl,q1,q2,q3,q4,q5,C,B⟩;have M:Ac (U d (Z m) f).ownBlock.toList wr v:=((SF _ wr).alloc _).trans C;(have HF:wr.heap.size+1<=v.heap.size:=by have:=C.size;simpa using this);have EM:JR (Oy n (U a (Z l) b) l ((aT.take (k+1)).map Hh.name) w N F D v):=by
    have j:=Aa r;refine⟨q1,λy=>?_,by have:=j.ge;omega,?_,q5,j.kept.trans' M (λi G=>?_),λq p=>?_⟩
    .rw[q2,j.mem,lF A];simp only[mx,l9,nE,lV,lG];constructor
     .rintro (h|h|h)
      .exact Hd (Hf h)
      .exact Hd (Hd h)
      .exact Hf h
     .rintro ((h|h)|h)
      .exact Hf (Hd h)
      .exact Hd h
      .exact Hf (Hf h)
    .have:=j.le;simp only[lR,mB]at this⊢;omega
    .rcases j.new i (by simpa using G)with h|h
     .exact Hd (by simp[h])
     .exact Hf h
    .rcases B q p with h|h
     .exact j.new q h
     .exact Hf (by have:=j.kept.size;simp at h;omega)
   have FB:JR (Mi v w.heap.size 187 3 (U (V ⟨g,0,Y⟩) (Z aT) R) (Z aT) (aT.flatMap AS)):=by
    refine Ai H M (λi G hm=>?_);have h1:=(W.lt i G);rcases L i (by simpa using hm)with h|h
    .have:=(HL.lt i h).2;omega
    .omega
   have EX:JR (∀q,(U F (Z N) D).ownBlock=V q->(U a (Z l) b).ownBlock=V q\/s.heap.size<=q):=by
    intro q p;rcases B q p with h|h
    .exact L q h
    .exact Hf (by simp at h;omega)
   clear A2 q1 q2 q3 q5 C B M r H L d0 d1 P;go_wp2
   go_roundg (Z aT-(k+1))
   case measure=>have:=Aa HG;omega
   case rel=>exact⟨k+1,N,F,D,rfl,by go_num,by omega,rfl,by omega,EM,FB,EX,by omega⟩
  .have HE:JR (Oy n (U a (Z l) b) l ns w m d f wr):=by
    have h:=Aa r;rw[lH (by omega),Aa E]at h;exact h
   go_wp2;go_ret;exact⟨m,d,f,rfl,HE⟩
def Fx{l:QC AY}(h:Mi w n 215 2 z (Z l) (l.flatMap Ar))(k:Nat)(a:k<Z l):
  ∃g b,z=U (V ⟨g,0,Y⟩) (Z l) b/\Lc w ⟨g,k*2,Y⟩=V (X M8 l[k].v)/\Lc w ⟨g,k*2+1,Y⟩=V (O l[k].s):=by
 obtain⟨g,b,i,_,f⟩:=AC h (λc _=>UX c) k a;have d:=f k a 0 (by omega);have e:=f k a 1 (by omega);simp[Ar]at d e;exact⟨g,b,i,d,e⟩
structure G5(ts:QC AY)(l:QC Int):Prop where
 cE:Di Pv l
 mem:∀y,y∈l↔y≠0/\∃t∈ts,t.v=y
 le:Z l<=Z ts
def G5.nil:G5 [] []:=⟨λi j a=>by simp at a,λy=>by simp,by simp⟩
theorem LZ(E:Option Addr)(M:Nat)(a:QC AY)(S:Nat)(w:Hq)(h:Mi w S 215 2 (U E (Z a) M) (Z a) (a.flatMap Ar))(BT:Z a<=900000):
  Calls prog 174 #[U E (Z a) M] w λe z=>∃l F G,e=G3 (U F (Z l) G)/\G5 a l/\Mi z w.heap.size 21 1 (U F (Z l) G) (Z l) (l.flatMap AW)/\Ac [] w z:=by
 have HT:=Ab h;clear h;go_enter func174,ntmps174;go_wp2
 go_loopg [3,8] (Z a) (λgk o i wr=>∃(k:Nat) (l:QC Int) (f:Option Addr) (m:Nat),o=U f (Z l) m/\i=X J k/\k<=Z a/\gk=Z a-k/\JR (G5 (a.take k) l)/\Mi wr w.heap.size 21 1 (U f (Z l) m) (Z l) (l.flatMap AW)/\JR (Ac [] w wr))
 case atStart=>exact⟨0,[],Y,0,rfl,rfl,by omega,rfl,by show G5 _ _;simpa using G5.nil,mf _ _ _ _,SF _ _⟩
 case round=>
  obtain⟨k,l,f,m,rfl,rfl,hk,D,n,r,p⟩:=hrel;have A:=Ab D;clear D;have Q:=n.le;simp only[mB]at Q;have B9:=p.size;by_cases u:k<Z a
  .obtain⟨g,B2,L,d0,d1⟩:=Fx (Ad HT p) k u;simp only[lB]at L;obtain⟨rfl,_,rfl⟩:=L;have x:=Ab (p.alloc (Dj [X M8 a[k].v,O a[k].s].toArray 215));have q:=lM r (Dj [X M8 a[k].v,O a[k].s].toArray 215);cases hv:(a[k].v==0)with
   |true=>
    (have W:(a[k].v !=0)=K:=by simp[bne,hv]);have AH:JR (G5 (a.take (k+1)) l):=by
     have j:=Aa n;refine⟨j.cE,λy=>?_,by have:=j.le;simp only[mB]at this⊢;omega⟩;rw[j.mem,lF u];(have hz:a[k].v=0:=by simpa using hv);constructor
     .rintro ⟨c,t,b,d⟩;exact⟨c,t,oE _ b,d⟩
     .rintro ⟨c,t,b,d⟩;rcases lV.1 b with b|b
      .exact⟨c,t,b,d⟩
      .simp only[lG]at b;subst b;exact absurd (d.symm.trans hz) c
    clear hv;go_wp2
    go_roundg (Z a-(k+1))
    case measure=>have:=Aa A;omega
    case rel=>exact⟨k+1,l,f,m,rfl,by go_num,by omega,rfl,AH,q,x⟩
   |false=>
    (have W:(a[k].v !=0)=Cm:=by simp[bne,hv]);(have N:a[k].v≠0:=by simpa using hv);have I:=Ab (dN f m l a[k].v w.heap.size (wr.alloc (Dj [X M8 a[k].v,O a[k].s].toArray 215)) q (by omega) n.cE (by simp;omega));have A2:=Ab N;clear hv N;(go_wp2_with fail);refine I.mono ?_;rintro e P ⟨H,T,AB,rfl,C,q2,q3,q4,q5,B,R⟩;have Ax:JR (Ac [] w P):=x.trans' B (λi hi=>Hf ((q.lt i (by simpa using hi)).1));have A0:JR (G5 (a.take (k+1)) H):=by
     have j:=Aa n;refine⟨C,λy=>?_,by have:=j.le;simp only[mB]at this⊢;omega⟩;rw[q2,j.mem,lF u];constructor
     .rintro (c|⟨c,t,b,d⟩)
      .exact⟨by rw[c];exact A2,a[k],List.mem_append_right _ (lG.2 rfl),c.symm⟩
      .exact⟨c,t,oE _ b,d⟩
     .rintro ⟨c,t,b,d⟩;rcases lV.1 b with b|b
      .exact Hf ⟨c,t,b,d⟩
      .simp only[lG]at b;subst b;exact Hd d.symm
    clear I C q2 q3 q4 B R r q x p n;go_wp2
    go_roundg (Z a-(k+1))
    case measure=>have:=Aa A;omega
    case rel=>exact⟨k+1,H,T,AB,rfl,by go_num,by omega,rfl,A0,q5,Ax⟩
  .have HE:JR (G5 a l):=by
    have h:=Aa n;rw[lH (by omega)]at h;exact h
   go_wp2;go_ret;exact⟨l,f,m,rfl,HE,r,p⟩
theorem WA(G:Option Addr)(P:Nat)(l:QC Int)(u:Option Addr)(v:Nat)(o:QC Int)(R C:Nat)(w:Hq)(h:Mi w R 21 1 (U G (Z l) P) (Z l) (l.flatMap AW))(z:Mi w C 21 1 (U u (Z o) v) (Z o) (o.flatMap AW))(hl:Z l<=900000)(ho:Z o<=900000)(L:Di Pv o):
  Calls prog 173 #[U G (Z l) P,U u (Z o) v] w λe x=>∃H I,e=G3 (U H (Z (l.filter λy=> !KO o y)) I)/\Mi x w.heap.size 21 1 (U H (Z (l.filter λy=> !KO o y)) I) (Z (l.filter λy=> !KO o y)) ((l.filter λy=> !KO o y).flatMap AW)/\Ac [] w x:=by
 obtain⟨i0,B0,Q,Ax,AT⟩:=mH Tryz.zN;have HT:=Ab h;have BS:=Ab z;have BB:=Ab L;obtain⟨F,hF⟩:=QP (l.filter λy=> !KO o y);rw[hF];have T:=Ab hF;clear h z hF L;go_enter func173,ntmps173;go_wp2
 go_loopg [5,10] (Z l) (λgk o' i wr=>∃(k:Nat) (m:QC Int) (a:Option Addr) (b:Nat),o'=U a (Z m) b/\i=X J k/\k<=Z l/\Z m<=k/\gk=Z l-k/\JR (m=(l.take k).filter λy=> !KO o y)/\Mi wr w.heap.size 21 1 (U a (Z m) b) (Z m) (m.flatMap AW)/\JR (Ac [] w wr))
 case atStart=>exact⟨0,[],Y,0,rfl,rfl,by omega,by simp,rfl,by show _=_;simp,mf _ _ _ _,SF _ _⟩
 case round=>
  obtain⟨k,m,a,b,rfl,rfl,A,EK,D,q,n,d⟩:=hrel;have B:=Ab D;clear D;have ES:=d.size;by_cases r:k<Z l
  .obtain⟨g,DT,N,_,E⟩:=AC (Ad HT d) (by simp[AW]) k r;simp only[lB]at N;obtain⟨rfl,_,rfl⟩:=N;have d0:=E k r 0 (by omega);simp[AW]at d0;clear E;have M:=Ab (cQ u v o l[k] C wr (Ad BS d) (by omega) BB);have p:JR ((l.take (k+1)).filter (λy=> !KO o y)=m++if KO o l[k] then[] else[l[k]]):=by
    show _=_;rw[lF r,nZ,<-Aa q];by_cases c:KO o l[k]=Cm<;>simp[c]
   (go_wp2_with fail);refine M.mono ?_;rintro e j ⟨rfl,rfl⟩;clear M;cases c:KO o l[k] with
   |true=>
    (have s:JR (m=(l.take (k+1)).filter λy=> !KO o y):=by show _=_;rw[Aa p,c];simp);clear c p q;go_wp2
    go_roundg (Z l-(k+1))
    case measure=>have:=Aa B;omega
    case rel=>exact⟨k+1,m,a,b,rfl,by go_num,by omega,by omega,rfl,s,n,d⟩
   |false=>
    (have s:JR (m++[l[k]]=(l.take (k+1)).filter λy=> !KO o y):=by show _=_;rw[Aa p,c];simp);clear c p q;have AO:=mo j (Dj [X M8 l[k]].toArray 21);have BA:=lM n (Dj [X M8 l[k]].toArray 21);(have AB:JR (∀f,(j.alloc (Dj [X M8 l[k]].toArray 21)).grownBy f (U a (Z m) b).ownBlock->Ac [] w f):=λf S=>(d.alloc _).grown S (λk A=>Hf ((n.lt k A).1)));go_wp2_with (at_builtin;refine me _ rfl (.tmp 18) (.tmp 20) _ rfl w.heap.size 21 i0 _ 1 4 underlying234 B0 Q Ax AT rfl (by omega) (U a (Z m) b) (Z m) (m.flatMap AW) rfl BA ⟨j.heap.size,0,Y⟩ 1 1 [X M8 l[k]] rfl rfl (mg (cs:=[X M8 l[k]].toArray) (t:=21) (fr:=(0,0)) AO) (by simp[Value.oneCell']) (by omega) (by unfold maxLen;omega) (by omega) (by simp;omega) (j.heap.size+1) (by simp) ?_;intro g1 W f A2 AH B9 EM)
    go_roundg (Z l-(k+1))
    case measure=>have:=Aa B;omega
    case rel=>exact⟨k+1,m++[l[k]],V ⟨g1,0,Y⟩,W,by simp,by go_num,by omega,by simp;omega,rfl,s,by simpa[AW] using A2,AB f AH⟩
  .have HE:JR (m=F):=by
    have h:=Aa q;rw[lH (by omega),Aa T]at h;exact h
   go_wp2;go_ret;rw[<-HE.out];exact⟨a,b,rfl,n,d⟩
def lenOf:Hs->Nat
 | U _ n _=>n
 |_=>0
def KF(c:DF):Bool:=(BC c).any (λa=>decide (2<lenOf a.tv))||decide (3<Z c.bm)
theorem Qe(c:DF)(w:Hq)(h:Kj w 0 c.hv c.bv c.dx c.bm)(L:Z c.bm<=1000):
  Calls prog 118 #[Ms (D6 (Br c))] w λe w'=>e=G3 (No (KF c))/\Ac [] w w':=by
 have q:=Ab (LP c (w.alloc (Dj (D6 (Br c)) 189)) (h.kept ((SF [] w).alloc _)) L);have S:=Ab (IG h);have AT:Z (BC c)<=1001:=by
  have:=Es c.bm;simp[BC];omega
 have p:JR (KF c=((BC c).any (λa=>decide (2<lenOf a.tv))||decide (3<Z c.bm))):=rfl;obtain⟨u,f,j,hv,bv,b⟩:=c;simp only at h L;obtain⟨y,s,rfl⟩:=Ak h.head;obtain⟨r,C,rfl⟩:=Ak h.body.row;generalize KF ⟨u,f,j,U y (Z j) s,U r (Z b) C,b⟩=G at p⊢;generalize BC ⟨u,f,j,U y (Z j) s,U r (Z b) C,b⟩=aT at q S AT p;clear h;have D:=Ab (Tc w (Br ⟨u,f,j,U y (Z j) s,U r (Z b) C,b⟩) 189);simp only[Br]at q D⊢;go_enter func118,ntmps118;go_wp2_with fail
 refine q.mono ?_;rintro e w2 ⟨Bx,BS,rfl,F,B⟩;have I:JR (Ac [] w w2):=((SF [] w).alloc _).trans B;have W:=Ab (D.kept B);have HO:=Ab F;clear q F B D;go_wp2;generalize w.heap.size=N at W⊢
 go_loopg [8] (Z aT) (λgk i wr=>∃(k:Nat),i=X J k/\k<=Z aT/\gk=Z aT-k/\JR ((aT.take k).any (λa=>decide (2<lenOf a.tv))=K)/\JR (Ac [] w wr)/\JR (Ac [] w2 wr))
 case atStart=>exact⟨0,rfl,by omega,rfl,by show _=_;simp,I,SF _ _⟩
 case round=>
  clear I;obtain⟨k,rfl,hk,H,M,A,t⟩:=hrel;have HG:=Ab H;clear H;by_cases n:k<Z aT
  .obtain⟨g,B0,T,d0,d1,d2⟩:=J3 (Ad HO t) k n;simp only[lB]at T;obtain⟨rfl,_,rfl⟩:=T;obtain⟨P,d,Q,o⟩:=S aT[k] (lE n);rw[o]at d2;have x:JR (2<d->G=Cm):=by
    intro f;rw[Aa p,Jb _ _ k n (by simp[o,lenOf,f])];rfl
   have z:JR (¬2<d->(aT.take (k+1)).any (λa=>decide (2<lenOf a.tv))=K):=by
    intro f;rw[C0 _ _ k n (Aa M)];simp[o,lenOf,f]
   clear o;have R:=Ab (A.alloc (Dj [X J aT[k].place,O aT[k].name,U P d Q].toArray 187));have AR:=Ab (t.alloc (Dj [X J aT[k].place,O aT[k].name,U P d Q].toArray 187));by_cases m:2<d
   .have E:=Ab (x m);(have l:(2:Int)<(d:Int):=by omega);clear x z;go_wp2;go_ret;rw[Aa E];exact⟨rfl,R⟩
   .have E:=Ab (z m);(have l:¬(2:Int)<(d:Int):=by omega);clear x z;go_wp2
    go_roundg (Z aT-(k+1))
    case measure=>have:=Aa HG;omega
    case rel=>exact⟨k+1,by go_num,by omega,rfl,E,R,AR⟩
  .have HE:JR (G=decide (3<Z b)):=by
    have h:=Aa M;rw[lH (by omega)]at h;show _=_;rw[Aa p,h];rfl
   have c3:=(W.kept t).cell 3;simp at c3;by_cases m:3<Z b
   ·(have l:(3:Int)<(Z b:Int):=by omega);(have v:JR (G=Cm):=by show _=_;rw[Aa HE];simp[m]);go_wp2;go_ret;rw[v.out];exact⟨by simp[l],A⟩
   ·(have l:¬(3:Int)<(Z b:Int):=by omega);(have v:JR (G=K):=by show _=_;rw[Aa HE];simp[m]);go_wp2;go_ret;rw[v.out];exact⟨by simp[l],A⟩
def BP(o:Option Int):Hs:=match o with|some p=> .tuple #[X J p,No Cm]|none=> .tuple #[X J 0,No K]
def UL(c:DF):Z (Br c)=4:=rfl
structure DK(w:Hq)(lv:Hs)(cs:QC DF):Prop where
 row:Mi w 0 189 4 lv (Z cs) (cs.flatMap Br)
 each:∀c∈cs,Kj w 0 c.hv c.bv c.dx c.bm
def DK.kept{w w':Hq}{a:Hs}{b:QC DF}(h:DK w a b)(k:Ac [] w w'):DK w' a b:=⟨Ad h.row k,λc d=>(h.each c d).kept k⟩
def F9(h:DK w z p)(k:Nat)(a:k<Z p):
  ∃g t j n b m f e o d,z=U (V ⟨g,0,Y⟩) (Z p) t/\p[k]=⟨j,n,b,U m (Z b) f,U e (Z d) o,d⟩/\
   Lc w ⟨g,k*4,Y⟩=V (X J j)/\Lc w ⟨g,k*4+1,Y⟩=V (O n)/\Lc w ⟨g,k*4+2,Y⟩=V (U m (Z b) f)/\Lc w ⟨g,k*4+3,Y⟩=V (U e (Z d) o):=by
 obtain⟨g,t,x,_,i⟩:=AC h.row (λc _=>UL c) k a;have l:=h.each _ (lE a);have u:=i k a 0 (by omega);have s:=i k a 1 (by omega);have q:=i k a 2 (by omega);have r:=i k a 3 (by omega);obtain⟨⟨j,n,b,y,A,d⟩,v⟩:∃c,p[k]=c:=⟨_,rfl⟩;rw[v]at u s q r l;simp only at l;obtain⟨m,f,rfl⟩:=Ak l.head;obtain⟨e,o,rfl⟩:=Ak l.body.row;simp[Br]at u s q r;exact⟨g,t,j,n,b,m,f,e,o,d,x,v,u,s,q,r⟩
def Vr(x:bC)(a:Hh):Bool:=a.name.toList==x.toList
def j6(cs:QC DF)(x:bC):Option Nat:=((cs.flatMap BC).find? (Vr x)).map λa=>lenOf a.tv
def Sy(cs:QC DF)(a:Hh):Bool:=decide (2<lenOf a.tv)||(match j6 cs a.name with|some n=> !(n==lenOf a.tv)|none=>K)
def jA(cs:QC DF)(l:QC Hh):Option Int:=(l.find? (Sy cs)).map λa=>a.place
def LA{α:Type}{p:α->Bool}{l:QC α}(h:l.any p=K):l.find? p=Y:=by
 rw[nB];intro y a b;rw[ng]at h;exact h y a b
def dS(a:k<Z p):p.flatMap BC=(p.take k).flatMap BC++(BC p[k]++(p.drop (k+1)).flatMap BC):=by
 rw[show p.flatMap BC=(p.take k++p[k]::p.drop (k+1)).flatMap BC from by rw[List.getElem_cons_drop,mU]]
 rw[mm,mc]
def iI(a:k<Z p){l:QC Hh}(c:BC p[k]=l)(e:((p.take k).flatMap BC).any (Vr s)=K)(b:j<Z l)(d:(l.take j).any (Vr s)=K)(f:Vr s l[j]=Cm):
  j6 p s=V (lenOf l[j].tv):=by
 unfold j6;rw[dS a,pM,LA e,c,pM,FU _ _ j b d f];rfl
def dZ(c:k<Z p){l:QC Hh}(b:BC p[k]=l)(d:((p.take k).flatMap BC).any (Vr s)=K)(a:l.any (Vr s)=K):((p.take (k+1)).flatMap BC).any (Vr s)=K:=by
 rw[lF c,mm,pK,d];simp[b,a]
theorem Wg(x:bC)(B0:Option Addr)(BB:Nat)(b:QC DF)(w:Hq)(h:DK w (U B0 (Z b) BB) b)(A0:∀c∈b,Z c.bm<=1000)(FT:Z b<=1000):
  Calls prog 100 #[O x,U B0 (Z b) BB] w λe w'=>e=G3 (BP ((j6 b x).map fun(n:Nat)=>(n:Int)))/\Ac [] w w':=by
 have HP:=Ab h;have CC:=Ab A0;obtain⟨R,N⟩:=QP (j6 b x);rw[N];have Bx:=Ab N;clear h A0 N;go_enter func100,ntmps100;go_wp2
 go_loopg [12] (Z b) (λgk i wr=>∃(k:Nat),i=X J k/\k<=Z b/\gk=Z b-k/\JR (((b.take k).flatMap BC).any (Vr x)=K)/\JR (Ac [] w wr))
 case atStart=>exact⟨0,rfl,by omega,rfl,by show _=_;simp,SF _ _⟩
 case round=>
  obtain⟨k,rfl,hk,Ax,H,z⟩:=hrel;have HG:=Ab Ax;clear Ax;by_cases o:k<Z b
  .obtain⟨g,FO,v,A,m,y,u,s,B,d,r,BS,d0,W,D,d3⟩:=F9 (HP.kept z) k o;simp only[lB]at r;obtain⟨rfl,_,rfl⟩:=r;have p:=(HP.kept z).each _ (lE o);have E:=Aa CC _ (lE o);obtain⟨a,f⟩:=QP (BC b[k]);have HY:=Ab (λj (hj:j<Z a) h2 h3=>iI o f H hj h2 h3);have HS:=Ab (dZ o f H);rw[BS]at p E f;simp only at p E;have C:=Ab (LP ⟨v,A,m,U y (Z m) u,U s (Z d) B,d⟩ (wr.alloc (Dj [X J v,O A,U y (Z m) u,U s (Z d) B].toArray 189)) (p.kept ((SF [] wr).alloc _)) E);have A1:=Ab (IG (c:=⟨v,A,m,U y (Z m) u,U s (Z d) B,d⟩) p);have FL:Z a<=1001:=by
    have:=Es d;rw[<-f];simp[BC];omega
   rw[f]at C A1;have q:=Ab (z.alloc (Dj [X J v,O A,U y (Z m) u,U s (Z d) B].toArray 189));clear p BS f;simp only[Br]at C;(go_wp2_with fail);refine C.mono ?_;rintro e w2 ⟨FC,FP,rfl,S,k2⟩;have AB:=Ab (q.trans k2);have HO:=Ab S;clear C S k2 q d0 W D d3;go_wp2
   go_loopg [19] (Z a) (λgj i T=>∃(j:Nat),i=X J j/\j<=Z a/\gj=Z a-j/\JR ((a.take j).any (Vr x)=K)/\JR (Ac [] w T)/\JR (Ac [] w2 T))
   case atStart=>exact⟨0,rfl,by omega,rfl,by show _=_;simp,AB,SF _ _⟩
   case round=>
    clear AB;obtain⟨j,rfl,hj,AT,L,BT,B9⟩:=hrel;have FA:=Ab AT;clear AT;by_cases t:j<Z a
    .obtain⟨gg,Go,r,d0,W,D⟩:=J3 (Ad HO B9) j t;simp only[lB]at r;obtain⟨rfl,_,rfl⟩:=r;obtain⟨AO,I,AR,F⟩:=A1 a[j] (lE t);rw[F]at D;have M:JR ((a[j].name.toList==x.toList)=Cm->R=V I):=by
      intro l;have:=Aa HY j t L l;rw[F]at this;rw[<-Aa Bx];exact this
     have G:JR ((a[j].name.toList==x.toList)=K->(a.take (j+1)).any (Vr x)=K):=by
      intro l;rw[C0 _ _ j t (Aa L)];exact l
     have q:=Ab (BT.alloc (Dj [X J a[j].place,O a[j].name,U AO I AR].toArray 187));have EK:=Ab (B9.alloc (Dj [X J a[j].place,O a[j].name,U AO I AR].toArray 187));clear F;cases l:(a[j].name.toList==x.toList)with
     |true=>
      have Q:=Ab (M l);clear M G;go_wp2;go_ret2;rw[Aa Q];exact⟨rfl,q⟩
     |false=>
      have Q:=Ab (G l);clear M G;go_wp2
      go_roundg (Z a-(j+1))
      case measure=>have:=Aa FA;omega
      case rel=>exact⟨j+1,by go_num,by omega,rfl,Q,q,EK⟩
    .have P:JR (((b.take (k+1)).flatMap BC).any (Vr x)=K):=by
      have h:=Aa L;rw[lH (by omega)]at h;exact HS h
     go_wp2
     go_roundg (Z b-(k+1))
     case measure=>have:=Aa HG;omega
     case rel=>exact⟨k+1,by go_num,by omega,rfl,P,BT⟩
  .have P:JR (R=Y):=by
    have h:=Aa H;rw[lH (by omega)]at h;show _=_;rw[<-Aa Bx];unfold j6;rw[LA h];rfl
   go_wp2;go_ret2;rw[P.out];exact⟨rfl,z⟩
theorem Mf(AB:Option Addr)(Ax:Nat)(b:QC Hh)(A0:Nat)(t:Option Addr)(s:Nat)(d:QC DF)(w:Hq)(AR:Mi w A0 187 3 (U AB (Z b) Ax) (Z b) (b.flatMap AS))(H:∀a∈b,∃ad n cp,a.tv=U ad n cp)(EX:Z b<=1001)(A1:∀a∈b,lenOf a.tv<=1000)(h:DK w (U t (Z d) s) d)(W:∀c∈d,Z c.bm<=1000)(BA:Z d<=1000):
  Calls prog 91 #[U AB (Z b) Ax,U t (Z d) s] w λe u=>e=G3 (BP (jA d b))/\Ac [] w u:=by
 have HO:=Ab AR;have B9:=Ab H;have Bx:JR (∀x wr,Ac [] w wr->Calls prog 100 #[O x,U t (Z d) s] wr λe u=>e=G3 (BP ((j6 d x).map fun(n:Nat)=>(n:Int)))/\Ac [] wr u):=λx wr L=>Wg x t s d wr (h.kept L) W BA
 obtain⟨R,E⟩:=QP (jA d b);rw[E];have AH:JR ((b.find? (Sy d)).map (λa=>a.place)=R):=E;clear h W E AR H A1;go_enter func91,ntmps91;go_wp2
 go_loopg [12] (Z b) (λgk i wr=>∃(k:Nat),i=X J k/\k<=Z b/\gk=Z b-k/\JR ((b.take k).any (Sy d)=K)/\JR (Ac [] w wr))
 case atStart=>exact⟨0,rfl,by omega,rfl,by show _=_;simp,SF _ _⟩
 case round=>
  obtain⟨k,rfl,L,N,B,D⟩:=hrel;have M:=Ab N;clear N;by_cases r:k<Z b
  .obtain⟨g,ES,he,d0,d1,G⟩:=J3 (Ad HO D) k r;simp only[lB]at he;obtain⟨rfl,_,rfl⟩:=he;obtain⟨Q,f,S,y⟩:=B9 b[k] (lE r);rw[y]at G;have m:JR (Sy d b[k]=Cm->R=V b[k].place):=by
    intro C;rw[<-Aa AH,FU _ _ k r (Aa B) C];rfl
   have o:JR (Sy d b[k]=K->(b.take (k+1)).any (Sy d)=K):=by
    intro C;rw[C0 _ _ k r (Aa B)];exact C
   have j:JR (Sy d b[k]=(decide (2<f)||(match j6 d b[k].name with|some n=> !(n==f)|none=>K))):=by
    show _=_;unfold Sy;rw[y];rfl
   clear y;have A:=D.alloc (Dj [X J b[k].place,O b[k].name,U Q f S].toArray 187);have P:=Ab (Tc wr [X J b[k].place,O b[k].name,U Q f S] 187);have I:=Ab (Bx b[k].name _ A);have T:=Ab A;clear A;(go_wp2_with fail);refine I.mono ?_;rintro e w3 ⟨rfl,z⟩;have F:=P.kept z;have q:=Ab (T.trans z);have c0:=F.cell 0;have c2:=F.cell 2;simp at c0 c2;clear I P T z F d0 d1 G;by_cases v:2<f
   ·(have AT:(2:Int)<(f:Int):=by omega);have l:JR (R=V b[k].place):=m (by rw[Aa j];simp[v]);clear m o j;cases j6 d b[k].name with
    |none=>
     simp only[Option.map_none,BP];go_wp2;go_ret2;rw[Aa l];exact⟨rfl,q⟩
    |some n=>
     simp only[nF,BP];go_wp2;go_ret2;rw[Aa l];exact⟨rfl,q⟩
   ·(have AT:¬(2:Int)<(f:Int):=by omega);cases hv:j6 d b[k].name with
    |none=>
     have l:JR ((b.take (k+1)).any (Sy d)=K):=o (by rw[Aa j,hv];simp[v]);clear m o j hv;simp only[Option.map_none,BP];go_wp2
     go_roundg (Z b-(k+1))
     case measure=>have:=Aa M;omega
     case rel=>exact⟨k+1,by go_num,by omega,rfl,l,q⟩
    |some n=>
     by_cases p:n=f
     .have l:JR ((b.take (k+1)).any (Sy d)=K):=o (by rw[Aa j,hv];simp[v,p]);(have CC:((f:Int) !=(n:Int))=K:=by rw[p];simp);(have BT:((f:Int)==(n:Int))=Cm:=by rw[p];simp);clear m o j hv;simp only[nF,BP];clear p;go_wp2
      go_roundg (Z b-(k+1))
      case measure=>have:=Aa M;omega
      case rel=>exact⟨k+1,by go_num,by omega,rfl,l,q⟩
     .have l:JR (R=V b[k].place):=m (by rw[Aa j,hv];simp[p]);(have CC:((f:Int) !=(n:Int))=Cm:=by simp[bne];omega);(have BT:((f:Int)==(n:Int))=K:=by rw[mq];omega);clear m o j hv;simp only[nF,BP];go_wp2;go_ret2;rw[Aa l];exact⟨rfl,q⟩
  .have HE:JR (R=Y):=by
    have h:=Aa B;rw[lH (by omega)]at h;show _=_;rw[<-Aa AH,LA h];rfl
   go_wp2;go_ret2;rw[HE.out];exact⟨rfl,D⟩
def GO(bm:QC Lx):QC AY:=bm.flatMap λp=>if p.1.sort==0 then p.1.ts else[]
def XL{a:QC Lx}(b:k<Z a):GO (a.take (k+1))=GO (a.take k)++(if a[k].1.sort==0 then a[k].1.ts else[]):=by
 unfold GO;rw[lF b,mm];simp
def Uj(a:QC Lx):Z (GO a)<=Z (A5 a):=by
 induction a with
 |nil=>simp[GO]
 |cons p l ih=>
  unfold GO A5 at*;simp only[mc,lU];have:Z (if p.1.sort==0 then p.1.ts else[])<=Z (AU p.1):=by
   by_cases h:(p.1.sort==0)=Cm
   .simp[h,AU,Bl]
   .simp[h]
  omega
def PX(bm:QC Lx)(y:Int):Bool:=(GO bm).any λt=>t.v==y
def Dv(bm:QC Lx)(t:AY):Bool:=t.v !=0&& !PX bm t.v
def bu{h:QC AY}{c:QC Lx}{g a:QC Int}(i:G5 h g)(f:G5 (GO c) a):0<Z (g.filter λy=> !KO a y)↔h.any (Dv c)=Cm:=by
 rw[List.length_pos_iff_exists_mem,mZ];constructor
 .rintro ⟨y,n⟩;obtain⟨p,k⟩:=mh.1 n;obtain⟨j,t,m,q⟩:=(i.mem y).1 p;refine⟨t,m,?_⟩;unfold Dv PX;rw[q];have e:((GO c).any λt=>t.v==y)=K:=by
   rw[ng];intro u d o;have:y∈a:=(f.mem y).2 ⟨j,u,d,by simpa using o⟩;rw[(RC a y).2 this]at k;cases k
  rw[e];simp[j]
 .rintro ⟨t,r,b⟩;unfold Dv PX at b;simp only[mi,bne_iff_ne,ne_eq,nW,ng]at b;refine⟨t.v,mh.2 ⟨(i.mem _).2 ⟨b.1,t,r,rfl⟩,?_⟩⟩;cases e:KO a t.v with
  |false=>rfl
  |true=>
   obtain⟨_,u,d,l⟩:=(f.mem _).1 ((RC a _).1 e);exact absurd (by simpa using l) (b.2 u d)
theorem PJ(T:Option Addr)(I:Nat)(c:QC AY)(bt:Nat)(BB:Option Addr)(A1:Nat)(a:QC Lx)(w:Hq)(ht:Mi w bt 215 2 (U T (Z c) I) (Z c) (c.flatMap Ar))(h:Cd w 0 (U BB (Z a) A1) a)(H9:Z a<=1000)(B2:∀p∈a,(p.1.sort==0)=Cm->0<Z p.1.ts/\Z p.1.ts<=1000)(HW:Z c<=900000)(B:Z (GO a)<=900000):
  Calls prog 136 #[U T (Z c) I,U BB (Z a) A1] w λe w'=>e=G3 (No (c.any (Dv a)))/\Ac [] w w':=by
 obtain⟨i0,HP,FC,HY,HL⟩:=mH Tryz.gu;have CL:JR (∀m d,G5 c m->G5 (GO a) d->(0<Z (m.filter λy=> !KO d y)↔c.any (Dv a)=Cm)):=λm d h1 h2=>bu h1 h2
 generalize c.any (Dv a)=LB at CL⊢;have HT:=Ab ht;have HB:=Ab h;have HO:=Ab B2;have H0:=Ab B;clear ht h B2 B;go_enter func136,ntmps136;go_wp2
 go_loopg [5,10] (Z a) (λgk o i wr=>∃(k:Nat) (b:QC AY) (f:Option Addr) (j:Nat),o=U f (Z b) j/\i=X J k/\k<=Z a/\Z b<=k*1000/\gk=Z a-k/\JR (b=GO (a.take k))/\Mi wr w.heap.size 215 2 (U f (Z b) j) (Z b) (b.flatMap Ar)/\JR (Ac [] w wr))
 case atStart=>exact⟨0,[],Y,0,rfl,rfl,by omega,by simp,rfl,by show _=_;simp[GO],mf _ _ _ _,SF _ _⟩
 case round=>
  obtain⟨k,b,f,j,rfl,rfl,hk,JA,DT,n,R,x⟩:=hrel;have HG:=Ab DT;clear DT;have KA:=x.size;by_cases E:k<Z a
  .have hB:=HB.kept x;obtain⟨g,KS,l,z,q,BS,AH,EK,d0,d1,d2,d3,d4,d5,d6,d7,d8⟩:=Js hB k E;simp only[lB]at BS;obtain⟨rfl,_,rfl⟩:=BS;have t:=Ab (XL E);have A:=Ab (HO a[k] (lE E));rw[AH]at t A;have L:=Ab (Ad EK ((SF [] wr).alloc (Dj (D6 (Ay (l,U z (Z l.ts) q))) 217)));clear hB EK AH;have N:=Ab (x.alloc (Dj (D6 (Ay (l,U z (Z l.ts) q))) 217));have H:=lM R (Dj (D6 (Ay (l,U z (Z l.ts) q))) 217);(have AB:w.heap.size<=(wr.alloc (Dj (D6 (Ay (l,U z (Z l.ts) q))) 217)).heap.size:=by simp;omega);simp only[Ay]at L N H AB;cases hs:(l.sort==0)with
   |false=>
    (have M:JR (b=GO (a.take (k+1))):=by show _=_;rw[Aa t,Aa n];simp[hs]);clear t n A;go_wp2
    go_roundg (Z a-(k+1))
    case measure=>have:=Aa HG;omega
    case rel=>exact⟨k+1,b,f,j,rfl,by go_num,by omega,by omega,rfl,M,H,N⟩
   |true=>
    (have M:JR (b++l.ts=GO (a.take (k+1))):=by show _=_;rw[Aa t,Aa n];simp[hs]);obtain⟨ES,HH⟩:=A hs;simp only at ES HH;obtain⟨gl,rfl,HC,A0,_,_⟩:=aD L ES;have HR:=Ab A0;(have HF:JR (∀u,(wr.alloc (Dj [X J l.place,X J l.sort,X J l.ap,O l.an,U (V ⟨gl,0,Y⟩) (Z l.ts) q,X M8 l.l.v,O l.l.s,X M8 l.r.v,O l.r.s].toArray 217)).grownBy u (U f (Z b) j).ownBlock->Ac [] w u):=λu hg=>N.grown hg (λk hk=>Hf ((R.lt k hk).1)));clear t n A A0 L;(have FA:Z (b++l.ts)<=(k+1)*1000:=by simp;omega);(have H6:k<=1000:=by omega);go_wp2_with (at_builtin;refine me _ rfl (.tmp 17) (.tmp 20) _ rfl w.heap.size 215 i0 _ 2 24 underlying185 HP FC HY HL rfl (by omega) (U f (Z b) j) (Z b) (b.flatMap Ar) rfl H ⟨gl,0,Y⟩ (Z l.ts) q (l.ts.flatMap Ar) rfl HC HR (Lt _) (by omega) (by unfold maxLen;omega) (by omega) AB _ rfl ?_;intro g1 FT u HM Go H4 E0)
    go_roundg (Z a-(k+1))
    case measure=>have:=Aa HG;omega
    case rel=>exact⟨k+1,b++l.ts,V ⟨g1,0,Y⟩,FT,by simp,by go_num,by omega,FA,rfl,M,by simpa using HM,HF u Go⟩
  .have HE:JR (b=GO a):=by
    have h:=Aa n;rw[lH (by omega)]at h;exact h
   (have B:Z b<=900000:=by rw[Aa HE];exact H0);have W:=Ab (LZ T I c bt wr (Ad HT x) HW);clear n;(go_wp2_with fail);refine W.mono ?_;rintro e w4 ⟨m,HK,FW,rfl,G,FB,k4⟩;have EY:=Ad R k4;have EM:=Ab (LZ f j b w.heap.size w4 EY B);have EX:=Ab (x.trans k4);have HS:=Ab G;have E0:=G.le;clear W G;(go_wp2_with fail);refine EM.mono ?_;rintro e w5 ⟨d,HV,HN,rfl,C,HD,k5⟩;have FL:=Ad FB k5;have KD:=C.le;have S:=Ab (WA HK FW m HV HN d _ _ w5 FL HD (by omega) (by omega) C.cE);have FP:=Ab (EX.trans k5);have Q:=Ab (CL m d HS (by rw[<-Aa HE];exact C));clear EM C;generalize(m.filter λy=> !KO d y)=F at S Q;(go_wp2_with fail);refine S.mono ?_;rintro e w6 ⟨K3,IA,rfl,K2,k6⟩;have AR:=Ab (FP.trans k6);clear S;by_cases AT:0<Z F
   ·(have P:(0:Int)<(Z F:Int):=by omega);have D:JR (LB=Cm):=Q.1 AT;go_wp2;go_ret;rw[D.out];exact⟨by simp[P],AR⟩
   ·(have P:¬(0:Int)<(Z F:Int):=by omega);have D:JR (LB=K):=by
     cases hb:LB with
     |false=>rfl
     |true=>exact absurd (Q.2 hb) AT
    go_wp2;go_ret;rw[D.out];exact⟨by simp[P],AR⟩
theorem IC(f:Option Addr)(s:Nat)(a:QC Lx)(w:Hq)(h:Cd w 0 (U f (Z a) s) a)(BT:Z a<=1000)(T:∀p∈a,(p.1.sort==0)=Cm->0<Z p.1.ts/\Z p.1.ts<=1000)(L:∀p∈a,Z (AU p.1)<=1000)(G:Z (GO a)<=900000):
  Calls prog 93 #[U f (Z a) s] w λe u=>e=G3 (BP ((a.find? λp=>(AU p.1).any (Dv a)).map λp=>p.1.place))/\Ac [] w u:=by
 have HB:=Ab h;have CL:=Ab L;have AO:JR (∀(m:Option Addr) (o:Nat) (b:QC AY) (wr:Hq),Ac [] w wr->Mi wr 0 215 2 (U m (Z b) o) (Z b) (b.flatMap Ar)->Z b<=900000->Calls prog 136 #[U m (Z b) o,U f (Z a) s] wr λe u=>e=G3 (No (b.any (Dv a)))/\Ac [] wr u):=λm o b wr M hr hl=>PJ m o b 0 f s a wr hr (h.kept M) BT T hl G
 obtain⟨R,E⟩:=QP ((a.find? λp=>(AU p.1).any (Dv a)).map λp=>p.1.place);rw[E];have AB:=Ab E;clear h L E T G;go_enter func93,ntmps93;go_wp2
 go_loopg [8] (Z a) (λgk i wr=>∃(k:Nat),i=X J k/\k<=Z a/\gk=Z a-k/\JR ((a.take k).any (λp=>(AU p.1).any (Dv a))=K)/\JR (Ac [] w wr))
 case atStart=>exact⟨0,rfl,by omega,rfl,by show _=_;simp,SF _ _⟩
 case round=>
  obtain⟨k,rfl,M,Q,z,B⟩:=hrel;have HG:=Ab Q;clear Q;by_cases d:k<Z a
  .obtain⟨g,EY,q,l,t,I,c,W,d0,d1,d2,d3,d4,d5,d6,d7,d8⟩:=Js (HB.kept B) k d;simp only[lB]at I;obtain⟨rfl,_,rfl⟩:=I;have C:=Aa CL a[k] (lE d);have n:JR ((AU q).any (Dv a)=Cm->R=V q.place):=by
    intro A;rw[<-Aa AB,FU _ _ k d (Aa z) (by rw[c];exact A),c];rfl
   have r:JR ((AU q).any (Dv a)=K->(a.take (k+1)).any (λp=>(AU p.1).any (Dv a))=K):=by
    intro A;rw[C0 _ _ k d (Aa z)];rw[c];exact A
   rw[c]at C;simp only at C;have D:=Ab (MX q l t (wr.alloc (Dj (D6 (Ay (q,U l (Z q.ts) t))) 217)) (Ad W ((SF [] wr).alloc _)));have hN:=Ab (Tc wr (Ay (q,U l (Z q.ts) t)) 217);have AH:=Ab (B.alloc (Dj (D6 (Ay (q,U l (Z q.ts) t))) 217));clear W c;simp only[Ay]at D;(go_wp2_with fail);refine D.mono ?_;rintro e w3 ⟨A1,EK,rfl,P,x⟩;have S:=Ab (hN.kept x);have H:=Ab (AH.trans x);have j:=Ab (AO A1 EK (AU q) w3 H P (by omega));clear D P x hN AH d0 d1 d2 d3 d4 d5 d6 d7 d8;generalize(AU q).any (Dv a)=LB at j n r;generalize Z (AU q)=tl at j C⊢;(go_wp2_with fail);refine j.mono ?_;rintro e w5 ⟨rfl,y⟩;have v:=S.kept y;have N:=Ab (H.trans y);clear j y S;cases LB with
   |true=>
    have F:=Ab (n rfl);have c0:=v.cell 0;simp[Ay]at c0;clear n r v;go_wp2;go_ret2;rw[Aa F];exact⟨rfl,N⟩
   |false=>
    have F:=Ab (r rfl);clear n r v;go_wp2
    go_roundg (Z a-(k+1))
    case measure=>have:=Aa HG;omega
    case rel=>exact⟨k+1,by go_num,by omega,rfl,F,N⟩
  .have HE:JR (R=Y):=by
    have h:=Aa z;rw[lH (by omega)]at h;show _=_;rw[<-Aa AB,LA h];rfl
   go_wp2;go_ret2;rw[HE.out];exact⟨rfl,B⟩
def PZ(c:DF)(t:AY):Bool:=t.v !=0&& !PX c.bm t.v
def Ig(c:DF):Option Int:=if c.dx.any (PZ c)then V c.hp else(c.bm.find? λp=>(AU p.1).any (PZ c)).map λp=>p.1.place
def N5{α:Type}{f g:α->Bool}:∀{l:QC α},(∀x∈l,f x=g x)->l.any f=l.any g
 |[],_=>rfl
 |x::l,h=>by rw[oF,oF,h x (by simp),N5 (λy a=>h y (by simp[a]))]
def OM{α:Type}{f g:α->Bool}:∀{l:QC α},(∀x∈l,f x=g x)->l.find? f=l.find? g
 |[],_=>rfl
 |x::l,h=>by rw[n5,n5,h x (by simp),OM (λy a=>h y (by simp[a]))]
theorem Qa(c:DF)(w:Hq)(h:Kj w 0 c.hv c.bv c.dx c.bm)(f:Qk c)(C:Z (BF c)<=900000):
  Calls prog 120 #[Ms (D6 (Br c))] w λe q=>e=G3 (BP (Ig c))/\Ac [] w q:=by
 have o:Z (GO c.bm)<=900000:=by
  have:=Uj c.bm;simp only[BF,lU]at C;omega
 have A:Z c.dx<=900000:=by have:=f.head.2;omega
 have j:∀p∈c.bm,(p.1.sort==0)=Cm->0<Z p.1.ts/\Z p.1.ts<=1000:=λp b M=>⟨(f.each p b).1 (by simp[Bl,M]),(f.each p b).2⟩
 have s:∀p∈c.bm,Z (AU p.1)<=1000:=λp b=>(f.dP b).2
 have v:=f.lits;have d:JR (Ig c=if c.dx.any (Dv c.bm)then V c.hp else(c.bm.find? λp=>(AU p.1).any (Dv c.bm)).map λp=>p.1.place):=rfl;generalize Ig c=U at d⊢;clear f C;obtain⟨b,H,k,R,S,a⟩:=c;simp only at h o A j s v d;obtain⟨x,t,rfl⟩:=Ak h.head;obtain⟨g,i,rfl⟩:=Ak h.body.row;have G:=Ab (Tc w [X J b,O H,.slice x (Z k) t,.slice g (Z a) i] 189);have l:=(SF [] w).alloc (Dj [X J b,O H,.slice x (Z k) t,.slice g (Z a) i].toArray 189);have n:=Ab (PJ x t k 0 g i a _ (Ad h.head l) (h.body.kept l) v j A o);have z:JR (∀wr,Ac [] w wr->Calls prog 93 #[.slice g (Z a) i] wr λe q=>e=G3 (BP ((a.find? λp=>(AU p.1).any (Dv a)).map λp=>p.1.place))/\Ac [] wr q):=λwr I=>IC g i a wr (h.body.kept I) v j s o
 have D:=Ab l;generalize((a.find? λp=>(AU p.1).any (Dv a)).map λp=>p.1.place)=FO at z d;generalize k.any (Dv a)=LB at n d;clear h l j s;simp only[Br];go_enter func120,ntmps120;go_wp2_with fail
 refine n.mono ?_;rintro e N ⟨rfl,y⟩;have r:=G.kept y;have u:=Ab (D.trans y);have P:=r.cell 0;have L:=r.cell 3;simp at P L;have F:=Ab (z N u);clear n G D y r z;cases LB with
 |true=>
  have m:JR (U=V b):=by have h:=Aa d;exact h
  clear d;go_wp2;go_ret2;rw[Aa m];exact⟨rfl,u⟩
 |false=>
  have m:JR (U=FO):=by have h:=Aa d;exact h
  clear d;go_wp2_with fail
  refine F.mono ?_;rintro e Q ⟨rfl,B⟩;have E:=Ab (u.trans B);clear F B;cases FO with
  |none=>
   simp only[BP];go_wp2;go_ret2;rw[Aa m];exact⟨rfl,E⟩
  |some p=>
   simp only[BP];go_wp2;go_ret2;rw[Aa m];exact⟨rfl,E⟩
structure VX(b:Nat)(w w':Hq):Prop where
 os:w'.os=w.os
 tape:w'.tape=w.tape
 output:w'.output=w.output
 size:w.heap.size<=w'.heap.size
 block:∀k,k<b->w'.heap[k]?=w.heap[k]?
def VX.trans{b:Nat}{u v w:Hq}(h:VX b u v)(k:VX b v w):VX b u w:=⟨k.os.trans h.os,k.tape.trans h.tape,k.output.trans h.output,mM h.size k.size,λi a=>(k.block i a).trans (h.block i a)⟩
def VX.of(k:Ac M w v)(d:b<=w.heap.size)(a:∀i,i∈M->b<=i):VX b w v:=
 ⟨k.os,k.tape,k.output,k.size,λi c=>k.block i (by omega) (λh=>by have:=a i h;omega)⟩
def VX.kept{w w':Hq}(h:VX b w w')(c:w.heap.size<=b):Ac [] w w':=⟨h.os,h.tape,h.output,h.size,λk a _=>h.block k (by omega)⟩
def KX(h:Mi w m T j z n y)(k:VX b w u)(c:∀i,z.ownBlock=V i->i<b):Mi u m T j z n y:=by
 refine⟨h.1,?_⟩;rcases h.2 with p|⟨g,d,a,rfl,l,f,o⟩
 .exact .inl p
 .refine .inr ⟨g,d,a,rfl,l,?_,o⟩;rw[k.block g (c g rfl)];exact f
structure fW(w:Hq)(b:Nat)(c:DF):Prop where
 at_:Kj w 0 c.hv c.bv c.dx c.bm
 lt1:∀k,c.hv.ownBlock=V k->k<b
 lt2:∀k,c.bv.ownBlock=V k->k<b
 lt3:∀p∈c.bm,∀k,p.2.ownBlock=V k->k<b
def fW.low{c:DF}(h:fW w b c)(k:VX b w v):fW v b c:=
 ⟨⟨KX h.at_.head k h.lt1,⟨KX h.at_.body.row k h.lt2,λp a=>⟨KX (h.at_.body.each p a).1 k (h.lt3 p a),(h.at_.body.each p a).2⟩⟩⟩,h.lt1,h.lt2,h.lt3⟩
structure Fl(w:Hq)(b:Nat)(n:Int)(nv tv:Hs)(names bc:QC bC):Prop where
 dI:AI w b [X J n,nv,tv] 210
 rn:Mi w (b+1) 9 1 nv (Z names) (names.flatMap Ag)
 rt:Mi w (b+1) 170 1 tv (Z bc) (bc.flatMap Ag)
 ant:Cc nv tv
 rin:Di FY names
 rit:Di FY bc
def Fl.kept{w w':Hq}{b:Nat}{n:Int}{a c:Hs}{e d:QC bC}(h:Fl w b n a c e d)(k:Ac [] w w'):Fl w' b n a c e d:=
 ⟨h.dI.kept k,Ad h.rn k,Ad h.rt k,h.ant,h.rin,h.rit⟩
def Cc.symm{u v:Hs}(h:Cc u v):Cc v u:=λk b a=>h k a b
theorem SI(b:Nat)(n:Nat)(q m:Hs)(c a:QC bC)(w:Hq)(h:Fl w b n q m c a):
  Calls prog 117 #[.pointer (V ⟨b,0,Y⟩)] w λe l=>e=G3 (No (decide (12<n)||decide (6<Z c)||decide (6<Z a)))/\l=w:=by
 obtain⟨u,y,rfl⟩:=Ak h.rn;obtain⟨x,v,rfl⟩:=Ak h.rt;have t:=h.dI.cell 0;have o:=h.dI.cell 1;have p:=h.dI.cell 2;simp at t o p;clear h;obtain⟨f,i⟩:=QP (decide (12<n)||decide (6<Z c)||decide (6<Z a));rw[i];have g:=Ab i;clear i;by_cases k:12<n
 .have s:(12:Int)<(n:Int):=by omega
  have d:JR (f=Cm):=by show _=_;rw[<-Aa g];simp[k]
  go_enter func117,ntmps117;go_wp2;go_ret;rw[Aa d];exact⟨by simp,rfl⟩
 .have s:¬(12:Int)<(n:Int):=by omega
  by_cases j:6<Z c
  ·(have r:(6:Int)<(Z c:Int):=by omega);(have d:JR (f=Cm):=by show _=_;rw[<-Aa g];simp[j]);go_enter func117,ntmps117;go_wp2;go_ret;rw[Aa d];exact⟨by simp,rfl⟩
  ·(have r:¬(6:Int)<(Z c:Int):=by omega);have d:JR (f=decide ((6:Int)<(Z a:Int))):=by
    show _=_;rw[<-Aa g];have e:decide ((6:Int)<(Z a:Int))=decide (6<Z a):=by
     by_cases h:6<Z a
     ·(have:(6:Int)<(Z a:Int):=by omega);simp[h,this]
     ·(have:¬(6:Int)<(Z a:Int):=by omega);simp[h,this]
    rw[e];simp[k,j]
   go_enter func117,ntmps117;go_wp2;go_ret;rw[Aa d];exact⟨by simp,rfl⟩
def Fl.setN{n m:Int}{a c:Hs}{f g:QC bC}(h:Fl w b n a c f g):Fl (w.setCell ⟨b,0,Y⟩ (X J m)) b m a c f g:=by
 have d:∀{e:TypeId} {i:Nat} {v:Hs} {k:Nat} {j:QC Hs},Mi w (b+1) e i v k j->v.ownBlock≠V b:=λh e=>by have:=(h.lt b e).1;omega
 exact⟨h.dI.set 0 _,Ah h.rn (p:=⟨b,0,Y⟩) (d h.rn) _,Ah h.rt (p:=⟨b,0,Y⟩) (d h.rt) _,h.ant,h.rin,h.rit⟩
def Tr{v b u:Hs}(f:Mi w n T m u k y)(d:Cc v u)(g:∀q,b.ownBlock=V q->v.ownBlock=V q\/w.heap.size<=q):Cc b u:=λq c a=>by
 rcases g q c with h|h
 .exact d q h a
 .have:=(f.lt q a).2;omega
def Fl.names{w a:Hq}{b:Nat}{n:Int}{c g:Hs}{x t:QC bC}(h:Fl w b n c g x t){f:Hs}{d:QC bC}
  (o:Ac c.ownBlock.toList w a) (r:Mi a (b+1) 9 1 f (Z d) (d.flatMap Ag)) (B:∀q,f.ownBlock=V q->c.ownBlock=V q\/w.heap.size<=q) (y:Di FY d):
  Fl (a.setCell ⟨b,1,Y⟩ f) b n f g d t/\Lc a ⟨b,1,Y⟩=V c/\a.frozen? ⟨b,1,Y⟩=K:=by
 have l:∀{w:Hq} {e:TypeId} {u:Nat} {v:Hs} {k:Nat} {z:QC Hs},Mi w (b+1) e u v k z->v.ownBlock≠V b:=λh e=>by have:=(h.lt b e).1;omega
 have m:AI a b [X J n,c,g] 210:=h.dI.kept o (λj=>l h.rn (by simpa using j));have s:=Ai h.rt o (λi A j=>h.ant i (by simpa using j) A);exact⟨⟨m.set 1 _,Ah r (p:=⟨b,1,Y⟩) (l r) _,Ah s (p:=⟨b,1,Y⟩) (l s) _,Tr h.rt h.ant B,y,h.rit⟩,m.cell 1,m.frozen 1⟩
def Fl.bc{w a:Hq}{b:Nat}{n:Int}{g c:Hs}{s A:QC bC}(h:Fl w b n g c s A){d:Hs}{f:QC bC}
  (o:Ac c.ownBlock.toList w a) (r:Mi a (b+1) 170 1 d (Z f) (f.flatMap Ag)) (y:∀q,d.ownBlock=V q->c.ownBlock=V q\/w.heap.size<=q) (x:Di FY f):
  Fl (a.setCell ⟨b,2,Y⟩ d) b n g d s f/\Lc a ⟨b,2,Y⟩=V c/\a.frozen? ⟨b,2,Y⟩=K:=by
 have l:∀{w:Hq} {e:TypeId} {u:Nat} {v:Hs} {k:Nat} {z:QC Hs},Mi w (b+1) e u v k z->v.ownBlock≠V b:=λh e=>by have:=(h.lt b e).1;omega
 have m:AI a b [X J n,g,c] 210:=h.dI.kept o (λj=>l h.rt (by simpa using j));have t:=Ai h.rn o (λi B j=>h.ant i B (by simpa using j));exact⟨⟨m.set 2 _,Ah t (p:=⟨b,2,Y⟩) (l t) _,Ah r (p:=⟨b,2,Y⟩) (l r) _,(Tr h.rn h.ant.symm y).symm,h.rin,x⟩,m.cell 2,m.frozen 2⟩
def Fl.zZ{c d:Hs}{e f:QC bC}(h:Fl w b I c d e f):(∀i,i∈c.ownBlock.toList->b<=i)/\(∀i,i∈d.ownBlock.toList->b<=i):=
 ⟨λi a=>by have:=(h.rn.lt i (by simpa using a)).1;omega,λi a=>by have:=(h.rt.lt i (by simpa using a)).1;omega⟩
def VX.drew{b:Nat}{u w:Hq}(h:VX b u w):VX b u w.drew:=⟨h.os,h.tape,h.output,h.size,h.block⟩
def Fl.drew{w:Hq}{b:Nat}{n:Int}{a c:Hs}{e d:QC bC}(h:Fl w b n a c e d):Fl w.drew b n a c e d:=h.kept (SF [] w).drew
structure ir(M:QC Nat)(b N:Nat)(cs:QC Hs)(u w':Hq)(i:Nat)(old new:Hs)(n:Int)(nv tv:Hs)(names bc:QC bC):Prop where
 cell:Lc w' ⟨b,i,Y⟩=V old
 frozen:w'.frozen? ⟨b,i,Y⟩=K
 cen:Fl (w'.setCell ⟨b,i,Y⟩ new) b n nv tv names bc
 low:Ac M u (w'.setCell ⟨b,i,Y⟩ new)
 box:AI (w'.setCell ⟨b,i,Y⟩ new) N cs 189
def Fn(ts:QC AY)(l l':QC bC):Prop:=∀y,y∈l'↔(∃t∈ts,t.v=0/\t.s=y)\/y∈l
structure JD(base:Nat)(lv:Hs)(l:QC bC)(ts:QC AY)(w:Hq)(l':QC bC)(ad':Option Addr)(cp':Nat)(w':Hq):Prop where
 cE:Di FY l'
 mem:Fn ts l l'
 le:Z l'<=Z l+Z ts
 own:Mi w' base 170 1 (U ad' (Z l') cp') (Z l') (l'.flatMap Ag)
 kept:Ac lv.ownBlock.toList w w'
 new:∀k,(U ad' (Z l') cp').ownBlock=V k->lv.ownBlock=V k\/w.heap.size<=k
def Fn.skip{l d:QC bC}{c:QC AY}(e:k<Z c)(f:c[k].v≠0)(h:Fn (c.take k) l d):Fn (c.take (k+1)) l d:=by
 intro y;rw[h y,lF e];constructor
 .rintro (⟨t,a,b⟩|a)
  .exact Hd ⟨t,oE _ a,b⟩
  .exact Hf a
 .rintro (⟨t,a,b⟩|a)
  .rcases lV.1 a with a|a
   .exact Hd ⟨t,a,b⟩
   .simp only[lG]at a;subst a;exact absurd b.1 f
  .exact Hf a
def Fn.take{l d e:QC bC}{b:QC AY}{k:Nat}(f:k<Z b)(g:b[k].v=0)(h:Fn (b.take k) l d)(q2:∀y,y∈e↔y=b[k].s\/y∈d):Fn (b.take (k+1)) l e:=by
 intro y;rw[q2,h y,lF f];constructor
 .rintro (a|⟨t,a,c⟩|a)
  .exact Hd ⟨b[k],List.mem_append_right _ (lG.2 rfl),g,a.symm⟩
  .exact Hd ⟨t,oE _ a,c⟩
  .exact Hf a
 .rintro (⟨t,a,c⟩|a)
  .rcases lV.1 a with a|a
   .exact Hf (Hd ⟨t,a,c⟩)
   .simp only[lG]at a;subst a;exact Hd c.2.symm
  .exact Hf (Hf a)
theorem Sl(c:DF)(f:Option Addr)(d:Nat)(l:QC bC)(n:Nat)(w:Hq)(h:Kj w 0 c.hv c.bv c.dx c.bm)(hf:Qk c)(hT:Z (BF c)<=90000)
  (hl:Mi w n 170 1 (U f (Z l) d) (Z l) (l.flatMap Ag)) (FC:Z l<=900000) (hr:Di FY l) (FL:n<=w.heap.size):
  Calls prog 148 #[U f (Z l) d,Ms (D6 (Br c))] w λe w'=>∃l' BA A1,e=G3 (U BA (Z l') A1)/\JD n (U f (Z l) d) l (BF c) w l' BA A1 w':=by
 have B:=Ab (Re c (w.alloc (Dj (D6 (Br c)) 189)) (h.kept ((SF [] w).alloc _)) hf);generalize BF c=TV at B hT⊢;obtain⟨hp,hn,HF,R,bv,HH⟩:=c;simp only at h;obtain⟨Ha,FP,rfl⟩:=Ak h.head;obtain⟨FF,HI,rfl⟩:=Ak h.body.row;have HL:=Ab hl;have EY:=Ab hr;clear h hl hr hf;simp only[Br]at B⊢;go_enter func148,ntmps148;go_wp2_with fail
 refine B.mono ?_;rintro e r ⟨CC,AH,rfl,S,Q⟩;have H:JR (Ac [] w r):=((SF [] w).alloc _).trans Q;have HB:w.heap.size+1<=r.heap.size:=by have:=Q.size;simpa using this
 have HO:=Ab (Al S (show w.heap.size<=_ by simp));clear B S Q;go_wp2
 go_loopg [0,10] (Z TV) (λgk o i wr=>∃(k:Nat) (m:QC bC) (b:Option Addr) (j:Nat),o=U b (Z m) j/\i=X J k/\k<=Z TV/\gk=Z TV-k/\Z m<=Z l+k/\JR (JD n (U f (Z l) d) l (TV.take k) w m b j wr)/\JR (Mi wr w.heap.size 215 2 (U CC (Z TV) AH) (Z TV) (TV.flatMap Ar))/\JR (∀q,(U b (Z m) j).ownBlock=V q->(U f (Z l) d).ownBlock=V q\/r.heap.size<=q)/\r.heap.size<=wr.heap.size)
 case atStart=>exact⟨0,l,f,d,rfl,rfl,by omega,rfl,by omega,⟨EY,λy=>by simp,by omega,Ad HL H,H.mono (by simp),λk T=>Hd T⟩,HO,λq t=>Hd t,by omega⟩
 case round=>
  clear H;obtain⟨k,m,b,j,rfl,rfl,T,AO,HC,p,u,A,FB⟩:=hrel;have W:=Ab AO;clear AO;by_cases C:k<Z TV
  .obtain⟨g,HA,he,d0,d1⟩:=Fx u k C;simp only[lB]at he;obtain⟨rfl,_,rfl⟩:=he;have P:Ac [] wr (wr.alloc (Dj [X M8 TV[k].v,O TV[k].s].toArray 215)):=(SF [] wr).alloc _;have A0:=Ab (Ad u P);(have Ax:r.heap.size<=(wr.alloc (Dj [X M8 TV[k].v,O TV[k].s].toArray 215)).heap.size:=by simp;omega);cases R:(TV[k].v==0)with
   |false=>
    (have x:TV[k].v≠0:=by simpa using R);have N:JR (JD n (U f (Z l) d) l (TV.take (k+1)) w m b j (wr.alloc (Dj [X M8 TV[k].v,O TV[k].s].toArray 215))):=by
     have a:=Aa p;refine⟨a.cE,a.mem.skip C x,?_,lM a.own _,a.kept.alloc _,a.new⟩;have:=a.le;simp only[mB]at this⊢;omega
    clear p u P x;go_wp2
    go_roundg (Z TV-(k+1))
    case measure=>have:=Aa W;omega
    case rel=>exact⟨k+1,m,b,j,rfl,by go_num,by omega,rfl,by omega,N,A0,A,Ax⟩
   |true=>
    (have x:TV[k].v=0:=by simpa using R);have HZ:=Ab x;have B2:=Ab (Xn b j m TV[k].s n (wr.alloc (Dj [X M8 TV[k].v,O TV[k].s].toArray 215)) (lM p.own _) (by omega) p.cE (by simp;omega));clear x P;(go_wp2_with fail);refine B2.mono ?_;rintro e z ⟨M,E,G,rfl,q1,q2,q3,q4,q5,F,D⟩;have I:Ac (U b (Z m) j).ownBlock.toList wr z:=((SF _ wr).alloc _).trans F;(have FT:wr.heap.size+1<=z.heap.size:=by have:=F.size;simpa using this);have N:JR (JD n (U f (Z l) d) l (TV.take (k+1)) w M E G z):=by
     have a:=Aa p;refine⟨q1,a.mem.take C HZ q2,?_,q5,a.kept.trans' I (λi L=>?_),λq t=>?_⟩
     .have:=a.le;simp only[mB]at this⊢;omega
     .rcases a.new i (by simpa using L)with h|h
      .exact Hd (by simp[h])
      .exact Hf h
     .rcases D q t with h|h
      .exact a.new q h
      .exact Hf (by have:=a.kept.size;simp at h;omega)
    have EX:JR (Mi z w.heap.size 215 2 (U (V ⟨g,0,Y⟩) (Z TV) AH) (Z TV) (TV.flatMap Ar)):=by
     refine Ai u I (λi L hm=>?_);have h1:=(HO.lt i L);rcases A i (by simpa using hm)with h|h
     .have:=(HL.lt i h).2;omega
     .omega
    have EK:JR (∀q,(U E (Z M) G).ownBlock=V q->(U f (Z l) d).ownBlock=V q\/r.heap.size<=q):=by
     intro q t;rcases D q t with h|h
     .exact A q h
     .exact Hf (by simp at h;omega)
    clear B2 q1 q2 q3 q5 F D I p u A0 Ax A d0 d1;go_wp2
    go_roundg (Z TV-(k+1))
    case measure=>have:=Aa W;omega
    case rel=>exact⟨k+1,M,E,G,rfl,by go_num,by omega,rfl,by omega,N,EX,EK,by omega⟩
  .have HE:JR (JD n (U f (Z l) d) l TV w m b j wr):=by
    have h:=Aa p;rw[lH (by omega)]at h;exact h
   go_wp2;go_ret;exact⟨m,b,j,rfl,HE⟩
theorem bU(b:Nat)(n:Nat)(nv tv:Hs)(r q:QC bC)(c:DF)(w:Hq)(h:Fl w b n nv tv r q)(hc:fW w b c)(hf:Qk c)(hT:Z (BF c)<=90000)(hn:n<=1000)(HX:Z r<=800000)(H5:Z q<=800000):
  Calls prog 116 #[.pointer (V ⟨b,0,Y⟩),Ms (D6 (Br c))] w λe g=>e=G3 (.tuple #[])/\∃HN HQ FB ES,Fl g b ((n+1:Nat):Int) HN HQ FB ES/\(∀y,y∈FB↔y∈Co c\/y∈r)/\Fn (BF c) q ES/\Z FB<=Z r+1001/\Z ES<=Z q+90000/\Ac (b::(nv.ownBlock.toList++tv.ownBlock.toList)) w g:=by
 have H1:=h.dI.lt;obtain⟨S,R,rfl⟩:=Ak h.rn;obtain⟨I,G,rfl⟩:=Ak h.rt;obtain⟨M,BS⟩:=QP (b::((U S (Z r) R).ownBlock.toList++(U I (Z q) G).ownBlock.toList));rw[BS];have T:JR (b∈M/\(∀i,i∈(U S (Z r) R).ownBlock.toList->i∈M)/\(∀i,i∈(U I (Z q) G).ownBlock.toList->i∈M)):=by
  rw[<-BS];exact⟨by simp,λi f=>by simp only[lI,lV];exact Hf (Hd f),λi f=>by simp only[lI,lV];exact Hf (Hf f)⟩
 have HF:JR (∀wr,Ac M w wr->VX b w wr):=by
  intro wr W;refine VX.of W (by omega) (λi f=>?_);rw[<-BS]at f;simp only[lI,lV]at f;rcases f with f|f|f
  .omega
  .exact h.zZ.1 i f
  .exact h.zZ.2 i f
 clear BS;have AR:JR (∀wr A C l,VX b w wr->Mi wr (b+1) 170 1 (U A (Z l) C) (Z l) (l.flatMap Ag)->Z l<=900000->Di FY l->b+1<=wr.heap.size->Calls prog 148 #[U A (Z l) C,Ms (D6 (Br c))] wr λe g=>∃a k j,e=G3 (U k (Z a) j)/\JD (b+1) (U A (Z l) C) l (BF c) wr a k j g):=λwr A C l W h1 h2 h3 h4=>Sl c A C l (b+1) wr (hc.low W).at_ hf hT h1 h2 h3 h4
 have DT:JR (∀wr A C l,VX b w wr->Mi wr (b+1) 9 1 (U A (Z l) C) (Z l) (l.flatMap Ag)->Z l<=900000->Di FY l->b+1<=wr.heap.size->Calls prog 164 #[U A (Z l) C,Ms (D6 (Br c))] wr λe g=>∃a k j,e=G3 (U k (Z a) j)/\Oy (b+1) (U A (Z l) C) l (Co c) wr a k j g):=λwr A C l W h1 h2 h3 h4=>Nk c A C l (b+1) wr (hc.low W).at_ hf.lits h1 h2 h3 h4
 have HB:JR (Z (Co c)<=1001):=by
  show _<=_;have:=hf.lits;have h2:=nr (λp=>Bl p.1) c.bm;simp only[Co,Gz,lQ,lR];omega
 generalize BF c=TV at AR hT⊢;generalize Co c=NV at DT HB⊢;obtain⟨D,v,B,hv,bv,t⟩:=c;have B9:=hc.at_;clear hc hf;simp only at B9;obtain⟨E,s,rfl⟩:=Ak B9.head;obtain⟨z,x,rfl⟩:=Ak B9.body.row;clear B9;simp only[Br]at AR DT⊢;have c0:=h.dI.cell 0;have cf:=h.dI.frozen;have d0:=λo=>(h.dI.alloc o).cell 0
 have df:=λo=>(h.dI.alloc o).frozen
 simp at c0 d0;have q1:¬b=w.heap.size:=by omega
 have q2:¬w.heap.size=b:=by omega
 have H0:=Ab h;clear h;go_enter func116,ntmps116;go_wp2_with fail
 obtain⟨N,AB⟩:=QP w.heap.size;have HZ:b<N:=by omega
 have H:JR (AI ((w.setCell ⟨b,0,Y⟩ (X J ((n:Int)+1))).alloc (Dj [X J D,O v,U E (Z B) s,U z (Z t) x].toArray 189)) N [X J D,O v,U E (Z B) s,U z (Z t) x] 189):=by
  have hh:=Tc (w.setCell ⟨b,0,Y⟩ (X J ((n:Int)+1))) [X J D,O v,U E (Z B) s,U z (Z t) x] 189;rw[show(w.setCell ⟨b,0,Y⟩ (X J ((n:Int)+1))).heap.size=N from by simp[AB]]at hh
  exact hh
 have F:=Ab ((H0.setN (m:=(n:Int)+1)).kept ((SF [] _).alloc (Dj [X J D,O v,U E (Z B) s,U z (Z t) x].toArray 189)));have BB:JR (Ac M w ((w.setCell ⟨b,0,Y⟩ (X J ((n:Int)+1))).alloc (Dj [X J D,O v,U E (Z B) s,U z (Z t) x].toArray 189))):=((SF M w).setCell (p:=⟨b,0,Y⟩) (Hd T.1) _).alloc _;have HO:JR ((U S (Z r) R).ownBlock≠V N/\(U I (Z q) G).ownBlock≠V N):=⟨λe=>by have:=(H0.rn.lt _ e).2;omega,λe=>by have:=(H0.rt.lt _ e).2;omega⟩;have HT:N+1<=((w.setCell ⟨b,0,Y⟩ (X J ((n:Int)+1))).alloc (Dj [X J D,O v,U E (Z B) s,U z (Z t) x].toArray 189)).heap.size:=by simp[AB]
 clear c0 cf d0 df q1 q2 H0;change Code.wp _ _ _ _ ((w.setCell ⟨b,0,Y⟩ (X J ((n:Int)+1))).alloc (Dj [X J D,O v,U E (Z B) s,U z (Z t) x].toArray 189));generalize(w.setCell ⟨b,0,Y⟩ (X J ((n:Int)+1))).alloc (Dj [X J D,O v,U E (Z B) s,U z (Z t) x].toArray 189)=w1 at H F BB HT⊢;rw[AB];have H3:=Ab AB;clear AB;have DY:JR (Calls prog 164 #[U S (Z r) R,Ms #[X J D,O v,U E (Z B) s,U z (Z t) x]] w1.drew λe g=>∃a k j,e=G3 (U k (Z a) j)/\ir M b N [X J D,O v,U E (Z B) s,U z (Z t) x] w g 1 (U S (Z r) R) (U k (Z a) j) ((n:Int)+1) (U k (Z a) j) (U I (Z q) G) a q/\(∀y,y∈a↔y∈NV\/y∈r)/\Z a<=Z r+1001/\N+1<=g.heap.size):=by
  refine(DT w1.drew S R r (HF _ BB.drew) F.drew.rn (by omega) F.rin (by show b+1<=w1.heap.size;omega)).mono ?_;rintro e g ⟨a,k,j,rfl,d⟩;obtain⟨EY,E0,FF⟩:=F.drew.names d.kept d.own d.new d.cE;have HW:=F.drew.zZ.1;refine⟨a,k,j,rfl,⟨E0,FF,EY,?_,?_⟩,d.mem,by have:=d.le;have:=Aa HB;omega,by have:=d.kept.size;have h2:w1.drew.heap.size=w1.heap.size:=rfl;omega⟩
  .exact(BB.drew.trans' d.kept (λi f=>Hd (T.2.1 i f))).setCell (p:=⟨b,1,Y⟩) (Hd T.1) _
  .exact(H.drew.kept d.kept (λhm=>HO.1 (by simpa using hm))).bI ⟨b,1,Y⟩ (by simp;omega) _
 have e1:=F.dI.cell 1;have b0:=H.cell 0;have b1:=H.cell 1;have b2:=H.cell 2;have b3:=H.cell 3;simp at e1 b0 b1 b2 b3;clear DT F BB H
 go_region_law
  (go_simp;go_at_call 164;refine DY.mono ?_;rintro e wt ⟨a,k,j,rfl,A2,HC,HI,HJ⟩;have HD:=A2.cell;have Go:=A2.frozen;have EM:=Ab A2;clear A2)
 all_goals
  have BA:=Ab EM.cen;have B0:=Ab EM.low;have Q:=Ab EM.box;have HM:N+1<=(wt.setCell ⟨b,1,Y⟩ (U k (Z a) j)).heap.size:=by simp;omega
  have HK:=Ab HC;clear EM HD Go DY HC e1 b0 b1 b2 b3 HJ;generalize wt.setCell ⟨b,1,Y⟩ (U k (Z a) j)=w2 at BA B0 Q HM⊢;have b0:=Q.cell 0;have b1:=Q.cell 1;have b2:=Q.cell 2;have b3:=Q.cell 3;simp at b0 b1 b2 b3;have e2:=BA.dI.cell 2;simp at e2;have HE:JR (Calls prog 148 #[U I (Z q) G,Ms #[X J D,O v,U E (Z B) s,U z (Z t) x]] w2.drew λe g=>∃u P L,e=G3 (U P (Z u) L)/\Lc g ⟨b,2,Y⟩=V (U I (Z q) G)/\g.frozen? ⟨b,2,Y⟩=K/\Fl (g.setCell ⟨b,2,Y⟩ (U P (Z u) L)) b ((n:Int)+1) (U k (Z a) j) (U P (Z u) L) a u/\Fn TV q u/\Z u<=Z q+90000/\Ac M w (g.setCell ⟨b,2,Y⟩ (U P (Z u) L))):=by
   have FA:=BA.drew;refine(AR w2.drew I G q (HF _ B0.drew) FA.rt (by omega) FA.rit (by show b+1<=w2.heap.size;omega)).mono ?_;rintro e g ⟨u,P,L,rfl,d⟩;obtain⟨EY,E0,FF⟩:=FA.bc d.kept d.own d.new d.cE;refine⟨u,P,L,rfl,E0,FF,EY,d.mem,by have:=d.le;omega,?_⟩;exact(B0.drew.trans' d.kept (λi f=>Hd (T.2.2 i f))).setCell (p:=⟨b,2,Y⟩) (Hd T.1) _
  clear AR BA B0 Q;go_wp2_with fail
  go_region_law
   (go_simp;go_at_call 148;refine HE.mono ?_;rintro e H4 ⟨u,P,L,rfl,HD,Go,r1,r2,r3,r4⟩;have HL:=Ab (And.intro r1 (And.intro r2 (And.intro r3 r4)));clear r1 r2 r3 r4)
  all_goals
   clear HE;(go_wp2_with fail);go_end0;obtain⟨r1,r2,r3,r4⟩:=HL;exact⟨rfl,_,_,a,u,r1,HK,r2,HI,r3,r4⟩
def iy(cs:QC DF)(S:bC->Prop):Prop:=∀c∈cs,S c.hn->∀y∈Co c,S y
def Ib(cs:QC DF)(x y:bC):Prop:=∀S:bC->Prop,S x->iy cs S->S y
structure Zu(cs:QC DF)(x:bC)(l:QC bC):Prop where
 cE:Di FY l
 iff:∀y,y∈l↔Ib cs x y
def NH{α:Type} [DecidableEq α]:∀(l b:QC α),l.Nodup->(∀y∈l,y∈b)->Z l<=Z b
 |[],_,_,_=>lW _
 |a::t,b,hn,hs=>by
  rw[nL]at hn;have c:a∈b:=hs a (by simp);have ih:=NH t (b.erase a) hn.2 (λy d=>(List.mem_erase_of_ne (λe=>hn.1 (by rw[<-e];exact d))).2 (hs y (by simp[d])));have g:=List.length_erase_of_mem c;have f:0<Z b:=List.length_pos_of_mem c;simp only[lQ];omega
def Wv{l a:QC bC}(d:Di FY l)(e:∀y∈l,y∈a)(f:Z a=Z l):∀y∈a,y∈l:=by
 intro y c;by_cases h:y∈l
 .exact h
 .have:=NH (y::l) a (nL.2 ⟨h,d.nodup Gh⟩) (λz b=>by
   rcases lI.1 b with rfl|b
   .exact c
   .exact e z b)
  simp only[lQ]at this;omega
theorem Wk(FO:Option Addr)(EY:Nat)(a:QC DF)(x:bC)(w:Hq)(h:DK w (U FO (Z a) EY) a)(H7:Z a<=1000)(hf:∀c∈a,Z c.bm<=1000)(hU:Z (a.flatMap Co)<=800000):
  Calls prog 122 #[U FO (Z a) EY,O x] w λe w'=>∃l v A,e=G3 (U v (Z l) A)/\Zu a x l/\Z l<=800001/\Mi w' w.heap.size 9 1 (U v (Z l) A) (Z l) (l.flatMap Ag)/\Ac [] w w':=by
 have HP:=Ab h;have H3:=Ab hf;clear h hf;have FF:JR (∀l:QC bC,Di FY l->(∀y∈l,Ib a x y)->Z l<=1+Z (a.flatMap Co)):=by
  intro l hr hs;have:=NH l (x::a.flatMap Co) (hr.nodup Gh) (λy d=>by
   refine hs y d (λz=>z∈x::a.flatMap Co) (by simp) (λc b _ z hz=>?_)
   exact my _ (mD.2 ⟨c,b,hz⟩))
  simp only[lQ]at this;omega
 obtain⟨u,E0⟩:=QP (Z (a.flatMap Co));rw[E0]at hU FF;clear E0;have EM:Mi (w.alloc (Dj [O x].toArray 9)) w.heap.size 9 1 (U (V ⟨w.heap.size,0,Y⟩) 1 1) 1 ([x].flatMap Ag):=⟨rfl,Hf ⟨w.heap.size,1,_,rfl,lX _,Tc w [O x] 9,lX _,by unfold maxLen;omega,rfl,rfl⟩⟩;have B2:=(SF [] w).alloc (Dj [O x].toArray 9);have AB:=Ab EM;have A1:=Ab B2;clear EM B2;go_enter func122,ntmps122;go_wp2;change Code.wp _ _ _ _ (w.alloc (Dj [O x].toArray 9));generalize w.alloc (Dj [O x].toArray 9)=w1 at AB A1⊢
 go_loopg [5] (u+2-1) (λgk o wr=>∃(l:QC bC) (v:Option Addr) (A:Nat),o=U v (Z l) A/\gk=u+2-Z l/\Z l<=u+1/\JR (Di FY l)/\JR (x∈l)/\JR (∀y∈l,Ib a x y)/\JR (Mi wr w.heap.size 9 1 (U v (Z l) A) (Z l) (l.flatMap Ag))/\JR (Ac [] w wr))
 case atStart=>exact⟨[x],_,_,rfl,rfl,by simp,λi j hi hj IA=>by simp at hi hj;omega,by simp[JR],λy d S P h2=>by simp at d;subst d;exact P,AB,A1⟩
 case round=>
  clear AB A1;obtain⟨l,v,A,rfl,FC,Go,HT,HX,HU,FT,HK⟩:=hrel;have HG:=Ab FC;clear FC;go_wp2
  go_loopg [5,15] (Z a) (λH1 o i BB=>∃(k:Nat) (m:QC bC) (t:Option Addr) (s:Nat),o=U t (Z m) s/\i=X J k/\k<=Z a/\H1=Z a-k/\Z l<=Z m/\Z m<=u+1/\JR (Di FY m)/\JR (∀y∈l,y∈m)/\JR (∀y∈m,Ib a x y)/\JR (Z m=Z l->∀c∈a.take k,c.hn∈m->∀y∈Co c,y∈m)/\JR (Mi BB w.heap.size 9 1 (U t (Z m) s) (Z m) (m.flatMap Ag))/\JR (Ac [] w BB))
  case atStart=>exact⟨0,l,v,A,rfl,rfl,by omega,rfl,by omega,Go,HT,λy d=>d,HU,λ_ c b=>by simp at b,FT,HK⟩
  case round=>
   obtain⟨k,m,t,s,rfl,rfl,hk,B9,HF,DT,C,M,E,Q,W,N⟩:=hrel;have EK:=Ab B9;clear B9;by_cases L:k<Z a
   .have AR:=HP.kept N;obtain⟨g,KD,H,f,q,I,D,G,F,p,he,T,d0,d1,d2,d3⟩:=F9 AR k L;simp only[lB]at he;obtain⟨rfl,_,rfl⟩:=he;have Jx:=N.size;have BT:=Ab (AR.each _ (lE L));have A2:=Aa H3 _ (lE L);have BS:JR (∀c,c∈a.take (k+1)↔c∈a.take k\/c=⟨H,f,q,U I (Z q) D,U G (Z p) F,p⟩):=by
     intro c;rw[lF L,T,lV,lG]
    (have H0:JR ((⟨H,f,q,U I (Z q) D,U G (Z p) F,p⟩:DF)∈a):=by rw[<-T];exact lE L);rw[T]at BT A2;simp only at A2;clear AR T;have AT:=Ab (N.alloc (Dj [X J H,O f,U I (Z q) D,U G (Z p) F].toArray 189));have R:=Ab (lM W (Dj [X J H,O f,U I (Z q) D,U G (Z p) F].toArray 189));have FL:=Ab (T5 t s m f w.heap.size _ R (by omega) C);(go_wp2_with fail);refine FL.mono ?_;rintro e w4 ⟨rfl,FW⟩;subst FW;clear FL;cases hh:ay m f with
    |false=>
     have Bx:JR (Z m=Z l->∀c∈a.take (k+1),c.hn∈m->∀y∈Co c,y∈m):=by
      intro hl c b B;rcases(BS c).1 b with b|b
      .exact Q hl c b B
      .subst b;simp only at B;rw[(Ll m f).2 B]at hh;cases hh
     clear hh Q;go_wp2
     go_roundg (Z a-(k+1))
     case measure=>have:=Aa EK;omega
     case rel=>exact⟨k+1,m,t,s,rfl,by go_num,by omega,rfl,HF,DT,C,M,E,Bx,R,AT⟩
    |true=>
     have CL:JR (f∈m):=(Ll m f).1 hh;have BA:=Ab (Nk ⟨H,f,q,U I (Z q) D,U G (Z p) F,p⟩ t s m w.heap.size (wr.alloc (Dj [X J H,O f,U I (Z q) D,U G (Z p) F].toArray 189)) ((Aa BT).kept ((SF [] wr).alloc _)) A2 (Aa R) (by omega) (Aa C) (by simp;omega));simp only[Br]at BA;clear hh;(go_wp2_with fail);refine BA.mono ?_;rintro e w5 ⟨r,HV,HQ,rfl,n⟩;have B0:Ac [] w w5:=AT.trans' n.kept (λi hi=>Hf ((R.lt i (by simpa using hi)).1));have AO:∀y∈r,Ib a x y:=by
      intro y d;rcases(n.mem y).1 d with P|P
      .intro S hS hC;exact hC _ H0 (E _ CL S hS hC) y P
      .exact E y P
     (have Ax:∀y∈m,y∈r:=λy d=>(n.mem y).2 (Hf d));have Bx:JR (Z r=Z l->∀c∈a.take (k+1),c.hn∈r->∀y∈Co c,y∈r):=by
      intro hl c b B y d;have KA:=n.ge;have HR:=Wv C Ax (by omega);rcases(BS c).1 b with b|b
      .exact Ax y (Q (by omega) c b (HR _ B) y d)
      .subst b;exact(n.mem y).2 (Hd d)
     (have Ha:Z l<=Z r:=by have:=n.ge;omega);have H9:=Aa FF r n.cE AO;have HH:=Ab AO;(have HC:JR (∀y∈l,y∈r):=λy d=>Ax y (M y d));have HY:=Ab n.cE;have HB:=Ab n.own;have HS:=Ab B0;clear BA n B0 AO Ax Q E M C W R AT CL;go_wp2
     go_roundg (Z a-(k+1))
     case measure=>have:=Aa EK;omega
     case rel=>exact⟨k+1,r,HV,HQ,rfl,by go_num,by omega,rfl,Ha,by omega,HY,HC,HH,Bx,HB,HS⟩
   .by_cases HI:Z m=Z l
    .have HE:JR (Zu a x m):=by
      refine⟨C,λy=>⟨E y,λd=>?_⟩⟩;refine d (λz=>z∈m) (M x HX) (λc b B z hz=>?_);have h:=Aa Q HI;rw[lH (by omega)]at h;exact h c b B z hz
     (have HO:(Z m:Int)=(Z l:Int):=by omega);go_wp2;go_ret;exact⟨m,t,s,rfl,HE,by omega,W,N⟩
    ·(have HO:¬(Z m:Int)=(Z l:Int):=by omega);have HW:JR (x∈m):=M x HX;go_wp2
     go_roundg (u+2-Z m)
     case measure=>have:=Aa HG;omega
     case rel=>exact⟨m,t,s,rfl,rfl,DT,C,HW,E,W,N⟩
def MK(f:bC->bC->Bool)(hn:bC)(p:Lx):Bool:=p.1.sort==1&&f p.1.an hn
def Lw(f:bC->bC->Bool)(c:DF):Option Int:=(c.bm.find? (MK f c.hn)).map λp=>p.1.place
def PQ(f:bC->bC->Bool)(cs:QC DF):Option Int:=cs.findSome? (Lw f)
def Sq{α β:Type}(f:α->Option β)(l:QC α)(k:Nat)(a:k<Z l)(h:∀c∈l.take k,f c=Y){b:β}(d:f l[k]=V b):l.findSome? f=V b:=by
 conv=>lhs;rw[<-mU k l]
 rw[pO];have:(l.take k).findSome? f=Y:=by rw[po];exact h
 rw[this,lY a,oX,d];rfl
theorem UN(f:bC->bC->Bool)(HF:Option Addr)(FT:Nat)(d:QC DF)(ES:∀x y,f x y=Cm↔Ib d x y)(w:Hq)(h:DK w (U HF (Z d) FT) d)(HM:Z d<=1000)(hf:∀c∈d,Z c.bm<=1000)(hU:Z (d.flatMap Co)<=800000):
  Calls prog 73 #[U HF (Z d) FT] w λe m=>e=G3 (BP (PQ f d))/\Ac [] w m:=by
 have HP:=Ab h;have HD:=Ab hf;have FC:=Ab ES;clear h hf ES;obtain⟨R,hR⟩:=QP (PQ f d);rw[hR];have HB:=Ab hR;clear hR;go_enter func73,ntmps73;go_wp2
 go_loopg [10] (Z d) (λgk i wr=>∃(k:Nat),i=X J k/\k<=Z d/\gk=Z d-k/\JR (∀c∈d.take k,Lw f c=Y)/\JR (Ac [] w wr))
 case atStart=>exact⟨0,rfl,by omega,rfl,λc u=>by simp at u,SF _ _⟩
 case round=>
  obtain⟨k,rfl,hk,Ha,HC,E⟩:=hrel;have HG:=Ab Ha;clear Ha;by_cases M:k<Z d
  .have A1:=HP.kept E;obtain⟨g,K4,B,a,o,C,t,A,z,b,he,W,d0,d1,d2,d3⟩:=F9 A1 k M;simp only[lB]at he;obtain⟨rfl,_,rfl⟩:=he;have AB:=Ab (A1.each _ (lE M)).body;have FL:=Aa HD _ (lE M);have H8:JR (∀p,Lw f ⟨B,a,o,U C (Z o) t,U A (Z b) z,b⟩=V p->R=V p):=by
    intro p HL;rw[<-Aa HB];exact Sq _ _ k M HC (by rw[W];exact HL)
   have HX:JR (Lw f ⟨B,a,o,U C (Z o) t,U A (Z b) z,b⟩=Y->∀c∈d.take (k+1),Lw f c=Y):=by
    intro HQ c u;rw[lF M,W,lV,lG]at u;rcases u with u|u
    .exact HC c u
    .rw[u];exact HQ
   rw[W]at AB FL;simp only at FL AB;clear A1 W;have AT:=Ab (E.alloc (Dj [X J B,O a,U C (Z o) t,U A (Z b) z].toArray 189));have HA:=Ab ((SF [] wr).alloc (Dj [X J B,O a,U C (Z o) t,U A (Z b) z].toArray 189));have Ax:=Ab (Tc wr [X J B,O a,U C (Z o) t,U A (Z b) z] 189);go_wp2;change Code.wp _ _ _ _ (wr.alloc (Dj [X J B,O a,U C (Z o) t,U A (Z b) z].toArray 189));have FF:=Ab (AB.kept HA);generalize wr.alloc (Dj [X J B,O a,U C (Z o) t,U A (Z b) z].toArray 189)=w1 at AT Ax FF⊢;generalize wr.heap.size=N at Ax⊢;clear HA AB E d0 d1 d2 d3
   go_loopg [17] (Z b) (λgk i wr=>∃(j:Nat),i=X J j/\j<=Z b/\gk=Z b-j/\JR ((b.take j).any (MK f a)=K)/\JR (Ac [] w wr)/\JR (Ac [] w1 wr))
   case atStart=>exact⟨0,rfl,by omega,rfl,by show _=_;simp,AT,SF _ _⟩
   case round=>
    clear AT;obtain⟨j,rfl,hj,EK,HJ,E,EX⟩:=hrel;have FB:=Ab EK;clear EK;by_cases BA:j<Z b
    .obtain⟨g2,K5,q,D,H,FA,S,Ix,e0,e1,e2,e3,e4,e5,e6,e7,e8⟩:=Js (FF.kept EX) j BA;simp only[lB]at FA;obtain⟨rfl,_,rfl⟩:=FA;have HY:JR (MK f a (q,U D (Z q.ts) H)=Cm->R=V q.place):=by
      intro n;refine H8 _ ?_;unfold Lw;simp only;rw[FU _ _ j BA (Aa HJ) (by rw[S];exact n),S];rfl
     have AR:JR (MK f a (q,U D (Z q.ts) H)=K->(b.take (j+1)).any (MK f a)=K):=by
      intro n;rw[C0 _ _ j BA (Aa HJ),S];exact n
     clear S Ix;have I:=Ab (E.alloc (Dj (D6 (Ay (q,U D (Z q.ts) H))) 217));have F:=Ab (EX.alloc (Dj (D6 (Ay (q,U D (Z q.ts) H))) 217));have G:=Ab (Tc wr (Ay (q,U D (Z q.ts) H)) 217);simp only[Ay]at I F G;cases hs:(q.sort==1)with
     |false=>
      (have HO:(q.sort !=1)=Cm:=by simp[bne,hs]);have A0:=Ab (AR (by unfold MK;simp only;rw[hs];rfl));clear HY AR hs;go_wp2
      go_roundg (Z b-(j+1))
      case measure=>have:=Aa FB;omega
      case rel=>exact⟨j+1,by go_num,by omega,rfl,A0,I,F⟩
     |true=>
      (have HO:(q.sort !=1)=K:=by simp[bne,hs]);(have Bx:JR (f q.an a=Cm->R=V q.place):=λn=>HY (by unfold MK;simp only;rw[hs,n];rfl));(have B0:JR (f q.an a=K->(b.take (j+1)).any (MK f a)=K):=λn=>AR (by unfold MK;simp only;rw[hs,n];rfl));clear HY AR hs;(go_wp2_with fail);change Code.wp _ _ _ _ (wr.alloc (Dj [X J q.place,X J q.sort,X J q.ap,O q.an,U D (Z q.ts) H,X M8 q.l.v,O q.l.s,X M8 q.r.v,O q.r.s].toArray 217));generalize wr.alloc (Dj [X J q.place,X J q.sort,X J q.ap,O q.an,U D (Z q.ts) H,X M8 q.l.v,O q.l.s,X M8 q.r.v,O q.r.s].toArray 217)=w3 at I F G⊢;generalize wr.heap.size=T at G⊢;have t3:=G.cell 3;have n1:=(Ax.kept F).cell 1;simp at t3 n1;have HU:=Ab (Wk _ _ d q.an w3.drew (HP.kept I.drew) HM HD hU);have H9:JR (∀m,Ac [] w3.drew m->Lc m ⟨T,3,Y⟩=V (O q.an)/\Lc m ⟨N,1,Y⟩=V (O a)/\Lc m ⟨T,0,Y⟩=V (X J q.place)/\Ac [] w m/\Ac [] w1 m):=by
       intro m L;exact⟨(G.drew.kept L).cell 3,((Ax.kept F).drew.kept L).cell 1,(G.drew.kept L).cell 0,I.drew.trans L,F.drew.trans L⟩
      have H7:JR (∀(l:QC bC) ad cp BS m,Zu d q.an l->Z l<=800001->Mi m BS 9 1 (U ad (Z l) cp) (Z l) (l.flatMap Ag)->Calls prog 121 #[U ad (Z l) cp,O a] m λe w9=>e=G3 (No (f q.an a))/\w9=m):=by
       intro l ad cp BS m Q h1 h2;(have H3:ay l a=f q.an a:=by rw[m9,Ll,Q.iff,Aa FC]);have n:=T5 ad cp l a BS m h2 (by omega) Q.cE;rw[H3]at n;exact n
      clear I F G HP FC
      go_region_held3 (λm=>Lc m ⟨T,3,Y⟩=V (O q.an)/\Lc m ⟨N,1,Y⟩=V (O a)) (go_keep) ((first|(go_at_call 122;refine HU.mono ?_;rintro e w4 ⟨l,H4,HW,rfl,Q,Go,FP,k4⟩;have P:=Aa H9 w4 k4;have f3:=P.1;have f1:=P.2.1;have f0:=P.2.2.1;have A2:=Ab P;have HS:=Ab (H7 l H4 HW _ w4 Q Go FP);clear Q Go FP k4 P)|(go_at_call 121;refine HS.mono ?_;rintro e w9 ⟨rfl,HI⟩;subst HI)))
      rename_i H6;clear H6;cases n:f q.an a with
      |true=>
       have HT:=Ab (Bx n);clear Bx B0 n;go_wp2;go_ret2;rw[Aa HT];exact⟨rfl,A2.2.2.2.1⟩
      |false=>
       have HT:=Ab (B0 n);clear Bx B0 n;go_wp2
       go_roundg (Z b-(j+1))
       case measure=>have:=Aa FB;omega
       case rel=>exact⟨j+1,by go_num,by omega,rfl,HT,A2.2.2.2.1,A2.2.2.2.2⟩
    .have HE:JR (Lw f ⟨B,a,o,U C (Z o) t,U A (Z b) z,b⟩=Y):=by
      have h:=Aa HJ;rw[lH (by omega)]at h;show _=_;unfold Lw;simp only;have:b.find? (MK f a)=Y:=by
       rw[nB];intro y hy n;rw[ng]at h;exact h y hy n
      rw[this];rfl
     have A0:=Ab (HX HE);go_wp2
     go_roundg (Z d-(k+1))
     case measure=>have:=Aa HG;omega
     case rel=>exact⟨k+1,by go_num,by omega,rfl,A0,E⟩
  .have HE:JR (R=Y):=by
    have h:=Aa HC;rw[lH (by omega)]at h;show _=_;rw[<-Aa HB];unfold PQ;rw[po];exact h
   go_wp2;go_ret2;rw[HE.out];exact⟨rfl,E⟩
def Vs(cs:QC A7)(x y:bC)(b:Nat):Prop:=∃c∈cs,c.head.name=x/\∃l∈Am c,l.A.name=y/\(((l.kind==97)=Cm/\b=0)\/((l.kind==33)=Cm/\b=1))
def G8(cs:QC A7)(x y:bC):Prop:=∀S:bC->Prop,S x->(∀u v b,Vs cs u v b->S u->S v)->S y
def G8.refl(a:QC A7)(x:bC):G8 a x x:=λS h _=>h
def G8.trans{x y z:bC}(h:G8 c x y)(k:G8 c y z):G8 c x z:=λS b a=>k S (h S b a) a
def G8.edge(h:Vs c s t b):G8 c s t:=λS d a=>a s t b h d
def dq(cs:QC A7):Prop:=∀x y,Vs cs x y 1->¬G8 cs y x
def Vc(f:bC->Nat):∀(a:QC Be) (n:Nat),n<=Jo f n a/\∀p∈a,Om f p<=Jo f n a
 |[],n=>⟨lX _,λp b=>by simp at b⟩
 |q::a,n=>by
  have ih:=Vc f a (max n (Om f q));have e:Jo f n (q::a)=Jo f (max n (Om f q)) a:=rfl;rw[e];refine⟨by have:=ih.1;omega,λp b=>?_⟩;rcases lI.1 b with rfl|b
  .have:=ih.1;omega
  .exact ih.2 p b
def Z5(f:bC->Nat):∀(a:QC Be) (n:Nat),Jo f n a=n\/∃p∈a,Jo f n a=Om f p
 |[],n=>Hd rfl
 |q::a,n=>by
  have e:Jo f n (q::a)=Jo f (max n (Om f q)) a:=rfl;rw[e];rcases Z5 f a (max n (Om f q))with h|⟨p,hp,h⟩
  .by_cases b:n<=Om f q
   .exact Hf ⟨q,by simp,by rw[h];omega⟩
   .exact Hd (by rw[h];omega)
  .exact Hf ⟨p,by simp[hp],h⟩
def ZK(f:bC->Nat)(x:bC):∀(a:QC A7) (n:Nat),n<=a.foldl (KJ f x) n/\∀c∈a,c.head.name=x->∀p∈c.bl,Om f p<=a.foldl (KJ f x) n
 |[],n=>⟨lX _,λc h=>by simp at h⟩
 |c::a,n=>by
  rw[mr];have ih:=ZK f x a (KJ f x n c);have j:n<=KJ f x n c:=by
   unfold KJ;split
   .exact(Vc f c.bl n).1
   .exact lX _
  refine⟨by have:=ih.1;omega,λd b g p e=>?_⟩;rcases lI.1 b with rfl|b
  .have i:Om f p<=KJ f x n d:=by
    unfold KJ;rw[lS ((EW _ _).2 g)];exact(Vc f d.bl n).2 p e
   have:=ih.1;omega
  .exact ih.2 d b g p e
def ZH(f:bC->Nat)(x:bC):∀(a:QC A7) (n:Nat),a.foldl (KJ f x) n=n\/∃c∈a,c.head.name=x/\∃p∈c.bl,a.foldl (KJ f x) n=Om f p
 |[],n=>Hd rfl
 |c::a,n=>by
  rw[mr];rcases ZH f x a (KJ f x n c)with h|⟨d,hd,hx,p,b,h⟩
  .rw[h];unfold KJ;by_cases e:(c.head.name.toList==x.toList)=Cm
   .rw[lS e];rcases Z5 f c.bl n with g|⟨p,b,g⟩
    .exact Hd g
    .exact Hf ⟨c,by simp,(EW _ _).1 e,p,b,g⟩
   .rw[lO e];exact Hd rfl
  .exact Hf ⟨d,by simp[hd],hx,p,b,h⟩
def LW{cs:QC A7}{x y:bC}(h:Vs cs x y b)(d:Nat):Cf cs d y+b<=Cf cs (d+1) x:=by
 obtain⟨c,k,m,l,i,e,j⟩:=h;obtain⟨p,f,rfl⟩:=lP.1 i;rw[Cf];have o:=(ZK (Cf cs d) x cs 0).2 c k m p f;have n:Om (Cf cs d) p=Cf cs d y+b:=by
  unfold Om;rcases j with⟨a,rfl⟩|⟨a,rfl⟩
  .rw[lS a,e];rfl
  .have g:(p.1.kind==97)=K:=by
    (have:p.1.kind=33:=by simpa using a);rw[this];rfl
   rw[lO (by rw[g];simp),lS a,e]
 omega
def Ru(e:QC A7)(d:Nat)(x:bC)(h:0<Cf e (d+1) x):∃y b,Vs e x y b/\Cf e (d+1) x=Cf e d y+b:=by
 rw[Cf]at h⊢;rcases ZH (Cf e d) x e 0 with a|⟨c,j,k,p,i,a⟩
 .omega
 .unfold Om at a;by_cases f:(p.1.kind==97)=Cm
  .rw[lS f]at a;exact⟨p.1.A.name,0,⟨c,j,k,p.1,lZ i,rfl,Hd ⟨f,rfl⟩⟩,a⟩
  .rw[lO f]at a;by_cases g:(p.1.kind==33)=Cm
   .rw[lS g]at a;exact⟨p.1.A.name,1,⟨c,j,k,p.1,lZ i,rfl,Hf ⟨g,rfl⟩⟩,a⟩
   .rw[lO g]at a;omega
def OE(a:QC A7):∀(d:Nat) (x:bC),Cf a d x<=Cf a (d+1) x
 |0,x=>by rw[show Cf a 0 x=0 from rfl];omega
 |d+1,x=>by
  by_cases h:0<Cf a (d+1) x
  .obtain⟨y,b,c,e⟩:=Ru a d x h;have g:=OE a d y;have f:=LW c (d+1);omega
  .omega
def Yl(a:QC A7)(x:bC)(h:n<=m):Cf a n x<=Cf a m x:=by
 induction h with
 |refl=>exact lX _
 |step _ ih=>exact mM ih (OE a _ x)
structure lg(cs:QC A7)(d:Nat)(x v:bC):Prop where
 zB:∃D B:Nat,d<D/\Cf cs D v<Cf cs (D+1) v/\Cf cs (D+1) v=B+Cf cs (d+1) x/\G8 cs v x/\(0<B->∃u t,Vs cs u t 1/\G8 cs v u/\G8 cs t x)
def Z1(i:dq c)(h:lg c n s s):False:=by
 obtain⟨D,B,l,j,k,_,f⟩:=h.zB;by_cases g:0<B
 .obtain⟨u,t,a,e,b⟩:=f g;exact i u t a (b.trans e)
 .have:=Yl c s (show n+1<=D by omega);omega
def eH{a:QC A7}(C:dq a)(i:QC bC)(E:∀c∈a,c.head.name∈i)(hN:Z i<=6):∀(d:Nat) (x:bC) (e:QC bC),6<=Z e+d->e.Nodup->(∀v∈e,v∈i)->(∀v∈e,lg a d x v)->Cf a d x<Cf a (d+1) x->False:=by
 intro d
 induction d with
 |zero=>
  intro x e I p q j w;obtain⟨y,b,f,_⟩:=Ru a 0 x (by omega);obtain⟨c,s,o,_⟩:=f;have n:x∈i:=by rw[<-o];exact E c s
  have k:x∉e:=λh=>Z1 C (j x h)
  have:=NH (x::e) i (nL.2 ⟨k,p⟩) (λz g=>by
   rcases lI.1 g with rfl|g
   .exact n
   .exact q z g)
  simp only[lQ]at this;omega
 |succ d ih=>
  intro x e I p q j w;obtain⟨y,b,f,W⟩:=Ru a (d+1) x (by omega);have n:x∈i:=by
   obtain⟨c,s,o,_⟩:=f;rw[<-o];exact E c s
  have k:x∉e:=λh=>Z1 C (j x h)
  have S:=LW f d;have Q:b<=1:=by
   obtain⟨c,_,_,l,_,_,h|h⟩:=f<;>omega
  refine ih y (x::e) (by simp only[lQ];omega) (nL.2 ⟨k,p⟩) (λz g=>?_) (λv m=>?_) (by omega)
  .rcases lI.1 g with rfl|g
   .exact n
   .exact q z g
  .rcases lI.1 m with rfl|m
   .refine⟨d+1,b,by omega,w,by omega,G8.edge f,λH=>?_⟩;(have r:b=1:=by omega);subst r;exact⟨v,y,f,G8.refl a v,G8.refl a y⟩
   .obtain⟨D,B,R,N,T,A,P⟩:=(j v m).zB;refine⟨D,B+b,by omega,N,by omega,A.trans (G8.edge f),λH=>?_⟩;by_cases L:0<B
    .obtain⟨u,t,G,F,M⟩:=P L;exact⟨u,t,G,F,M.trans (G8.edge f)⟩
    ·(have r:b=1:=by omega);subst r;exact⟨x,y,f,A,G8.refl a y⟩
def gM{cs:QC A7}(k:dq cs)(a:QC bC)(j:∀c∈cs,c.head.name∈a)(l:Z a<=6):CX cs (Cf cs 6):=by
 have i:∀x,Cf cs 7 x=Cf cs 6 x:=by
  intro x;have m:Cf cs 6 x<=Cf cs 7 x:=OE cs 6 x;by_cases h:Cf cs 6 x<Cf cs 7 x
  .exact(eH k a j l 6 x [] (by simp) n6 (λv e=>by simp at e) (λv e=>by simp at e) h).elim
  .omega
 refine⟨λc f x g d=>?_,λc f x g d=>?_⟩
 .have h:=LW (cs:=cs) (x:=c.head.name) (y:=x.A.name) (b:=0) ⟨c,f,rfl,x,g,rfl,Hd ⟨d,rfl⟩⟩ 6;rw[i]at h;omega
 .have h:=LW (cs:=cs) (x:=c.head.name) (y:=x.A.name) (b:=1) ⟨c,f,rfl,x,g,rfl,Hf ⟨d,rfl⟩⟩ 6;rw[i]at h;omega
def iQ(l:QC bC):QC bC:=l.foldl CY []
def Iq(c:DF):QC bC:=((BF c).filter λt=>t.v==0).map λt=>t.s
def Of(l:QC bC)(x:bC):Ew l x=Cm↔x∈l:=Ll l x
def TI(l:QC bC)(x y:bC):y∈CY l x↔y=x\/y∈l:=by
 unfold CY;cases h:Ew l x with
 |true=>
  simp only[if_true];have b:=(Of l x).1 h;exact⟨Hf,λa=>by rcases a with rfl|a;exact b;exact a⟩
 |false=>
  simp only[lJ,if_false,lV,lG];exact⟨λa=>by rcases a with a|a;exact Hf a;exact Hd a,λa=>by rcases a with a|a;exact Hf a;exact Hd a⟩
def We{l:QC bC}(h:l.Nodup)(x:bC):(CY l x).Nodup:=by
 unfold CY;cases hb:Ew l x with
 |true=>simpa using h
 |false=>
  simp only[lJ,if_false];rw[oV];refine⟨h,by simp,λa d b c e=>?_⟩;simp only[lG]at c;subst e c;rw[(Of l a).2 d]at hb;cases hb
def QD:∀(a l:QC bC),l.Nodup->(a.foldl CY l).Nodup/\∀y,y∈a.foldl CY l↔y∈a\/y∈l
 |[],l,h=>⟨h,λy=>by simp⟩
 |x::a,l,h=>by
  obtain⟨b,c⟩:=QD a (CY l x) (We h x);refine⟨b,λy=>?_⟩;rw[mr,c,TI,lI];exact⟨λh=>by rcases h with h|h|h;exact Hd (Hf h);exact Hd (Hd h);exact Hf h,λh=>by rcases h with(h|h)|h;exact Hf (Hd h);exact Hd h;exact Hf (Hf h)⟩
def EF(l:QC bC):(iQ l).Nodup/\∀y,y∈iQ l↔y∈l:=by
 obtain⟨a,b⟩:=QD l [] n6;exact⟨a,λy=>by rw[iQ,b];simp⟩
def Mz{a b:QC bC}(d:a.Nodup)(e:b.Nodup)(h:∀y,y∈a↔y∈b):Z a=Z b:=
 Nat.le_antisymm (NH a b d (λy c=>(h y).1 c)) (NH b a e (λy c=>(h y).2 c))
def XQ(cs:QC DF)(k:Nat):Bool:=decide (12<k+1)||decide (6<Z (iQ ((cs.take (k+1)).flatMap Co)))||decide (6<Z (iQ ((cs.take (k+1)).flatMap Iq)))
def X4(cs:QC DF)(k:Nat)(c:DF):Option (Int×Int):=
 if XQ cs k||KF c then V (3,c.hp)
 else match jA cs (BC c)with
  |some p=>V (4,p)
  |none=>match Ig c with
   |some p=>V (5,p)
   |none=>Y
def PF(cs:QC DF):Nat->QC DF->Option (Int×Int)
 |_,[]=>Y
 |k,c::l=>match X4 cs k c with
  |some r=>V r
  |none=>PF cs (k+1) l
def Zv:Option (Int×Int)->Hs
 |some r=> .tuple #[X J r.1,X J r.2]
 |none=> .tuple #[X J 0,X J 0]
structure kF(c:DF):Prop where
 pc:Qk c
 dP:Z (BF c)<=90000
def kF.atoms{c:DF}(h:kF c)(d:Kj w 0 c.hv c.bv c.dx c.bm):∀a∈BC c,lenOf a.tv<=1000:=by
 intro a b;rcases lI.1 b with rfl|b
 .obtain⟨j,i,e⟩:=Ak d.head;simp only;rw[e];exact h.pc.head.2
 .unfold AV at b;obtain⟨p,g,rfl⟩:=lP.1 b;have f:=(mh.1 g).1;obtain⟨j,i,e⟩:=Ak (d.body.each p f).1;simp only;rw[e];exact(h.pc.each p f).2
def V4(e:k<Z p){d th':QC bC}(h:∀y,y∈d↔y∈(p.take k).flatMap Iq)(a:Fn (BF p[k]) d th'):∀y,y∈th'↔y∈(p.take (k+1)).flatMap Iq:=by
 intro y;rw[a y,h y,lF e,mm,lV];simp only[mc,mS,mz];have:(∃t∈BF p[k],t.v=0/\t.s=y)↔y∈Iq p[k]:=by
  unfold Iq;rw[lP];constructor
  .rintro ⟨t,b,a,c⟩;exact⟨t,mh.2 ⟨b,by simpa using a⟩,c⟩
  .rintro ⟨t,b,c⟩;obtain⟨f,g⟩:=mh.1 b;exact⟨t,f,by simpa using g,c⟩
 rw[this];exact⟨λh=>by rcases h with h|h;exact Hf h;exact Hd h,λh=>by rcases h with h|h;exact Hf h;exact Hd h⟩
def Zb(c:k<Z p){a nm':QC bC}(h:∀y,y∈a↔y∈(p.take k).flatMap Co)(b:∀y,y∈nm'↔y∈Co p[k]\/y∈a):∀y,y∈nm'↔y∈(p.take (k+1)).flatMap Co:=by
 intro y;rw[b y,h y,lF c,mm,lV];simp only[mc,mS,mz];exact⟨λh=>by rcases h with h|h;exact Hf h;exact Hd h,λh=>by rcases h with h|h;exact Hf h;exact Hd h⟩
theorem Ow(KA:Option Addr)(Ix:Nat)(a:QC DF)(w:Hq)(h:DK w (U KA (Z a) Ix) a)(A:∀c∈a,fW w w.heap.size c)(K3:Z a<=1000)(hf:∀c∈a,kF c):
  Calls prog 72 #[U KA (Z a) Ix] w λe w'=>e=G3 (Zv (PF a 0 a))/\Ac [] w w':=by
 have HP:=Ab h;have IS:=Ab hf;have H8:=Ab A;obtain⟨R,hR⟩:=QP (PF a 0 a);rw[hR];have JJ:=Ab hR;clear h hf A hR;have Bx:JR (Fl (w.alloc (Dj [X J 0,U Y 0 0,U Y 0 0].toArray 210)) w.heap.size ((0:Nat):Int) (U Y 0 0) (U Y 0 0) [] []):=
  ⟨Tc w _ 210,mf _ _ _ _,mf _ _ _ _,λk hk=>by simp[OC]at hk,λi j u=>by simp at u,λi j u=>by simp at u⟩
 have A2:=Ab (VX.of ((SF [] w).alloc (Dj [X J 0,U Y 0 0,U Y 0 0].toArray 210)) (lX _) (by simp));have C:JR (∀wr,VX w.heap.size w wr->Ac [] w wr):=λwr hl=>hl.kept (lX _)
 go_enter func72,ntmps72;go_wp2;change Code.wp _ _ _ _ (w.alloc (Dj [X J 0,U Y 0 0,U Y 0 0].toArray 210));generalize w.alloc (Dj [X J 0,U Y 0 0,U Y 0 0].toArray 210)=w1 at Bx A2⊢;obtain⟨b,HM⟩:=QP w.heap.size;rw[HM]at Bx A2 H8 C⊢;have M6:=Ab HM;clear HM
 go_loopg [13] (Z a) (λgk i wr=>∃(k:Nat) (nv S:Hs) (N W:QC bC),i=X J k/\k<=Z a/\k<=12/\gk=Z a-k/\Z N<=6/\Z W<=6/\JR (Fl wr b (k:Int) nv S N W)/\JR (∀y,y∈N↔y∈(a.take k).flatMap Co)/\JR (∀y,y∈W↔y∈(a.take k).flatMap Iq)/\JR (PF a k (a.drop k)=R)/\JR (VX b w wr))
 case atStart=>exact⟨0,_,_,[],[],rfl,by omega,by omega,rfl,by simp,by simp,Bx,λy=>by simp,λy=>by simp,JJ,A2⟩
 case round=>
  clear Bx A2 JJ;obtain⟨k,nv,S,N,W,rfl,hk,NA,Jx,NL,Nj,HC,H5,HS,HR,HL⟩:=hrel;have HG:=Ab Jx;clear Jx;by_cases A:k<Z a
  .have HV:=Aa C wr HL;have H0:=HP.kept HV;obtain⟨g,Nx,l,s,f,q,m,o,n,d,he,HU,d0,d1,d2,d3⟩:=F9 H0 k A;simp only[lB]at he;obtain⟨rfl,_,rfl⟩:=he;have EX:=Ab ((H8 _ (lE A)).low HL);have z:=Ab (IS _ (lE A));have F:JR ((match X4 a k a[k] with|some r=>V r|none=>PF a (k+1) (a.drop (k+1)))=R):=by
    have h:=Aa HR;rw[lY A,PF]at h;exact h
   have HD:=Ab (λnm'=>Zb (nm':=nm') A H5);have FB:=Ab (λth'=>V4 (th':=th') A HS);rw[HU]at EX z F HD FB;clear H0 HU HR H5 HS HV;have M2:=HC.dI.lt;have kA:=(SF [] wr).alloc (Dj [X J l,O s,U q (Z f) m,U o (Z d) n].toArray 189);have E:=Ab (HC.kept kA);have P:=Ab (Tc wr [X J l,O s,U q (Z f) m,U o (Z d) n] 189);have lA:=VX.of kA (b:=b) (by omega) (by simp);have I:=Ab (HL.trans lA);have M:=Ab (EX.low lA);have Ha:JR (∀v:Hs,(v=nv\/v=S)->v.ownBlock≠V wr.heap.size):=by
    intro v hv e;rcases hv with rfl|rfl
    .have:=(HC.rn.lt _ e).2;omega
    .have:=(HC.rt.lt _ e).2;omega
   have EY:=Ab (bU b k nv S N W ⟨l,s,f,U q (Z f) m,U o (Z d) n,d⟩ _ E M z.pc z.dP (by omega) (by omega) (by omega));(have LM:b+1<=(wr.alloc (Dj [X J l,O s,U q (Z f) m,U o (Z d) n].toArray 189)).heap.size:=by simp;omega);clear kA lA;simp only[Br]at EY;(go_wp2_with fail);refine EY.mono ?_;rintro e w5 ⟨rfl,JA,HT,B0,BS,AR,H2,H3,NB,Nq,k5⟩;have FW:=P.kept k5 (by
    intro t
    simp only[lI,lV]at t
    rcases t with t|t|t
    .omega
    .exact Ha nv (Hd rfl) (by simpa using t)
    .exact Ha S (Hf rfl) (by simpa using t))
   have l5:VX b (wr.alloc (Dj [X J l,O s,U q (Z f) m,U o (Z d) n].toArray 189)) w5:=VX.of k5 (by omega) (λi u=>by
    simp only[lI,lV]at u
    rcases u with u|u|u
    .omega
    .exact E.zZ.1 i u
    .exact E.zZ.2 i u)
   have FP:=Ab (I.trans l5);have HB:=Ab (M.low l5);have IJ:=Ab (HD B0 H2);have HZ:=Ab (FB BS H3);have BT:JR ((decide (12<k+1)||decide (6<Z B0)||decide (6<Z BS))=XQ a k):=by
    show _=_;unfold XQ;rw[Mz (AR.rin.nodup Gh) (EF _).1 (λy=>(Aa IJ y).trans ((EF _).2 y).symm),Mz (AR.rit.nodup Gh) (EF _).1 (λy=>(Aa HZ y).trans ((EF _).2 y).symm)]
   have EK:=Ab (SI b (k+1) JA HT B0 BS w5 AR);rw[Aa BT]at EK;have K9:wr.heap.size<w5.heap.size:=FW.lt;have G:=Ab FW;have FO:=Ab AR;(have KS:wr.heap.size≠b:=by omega);clear EY AR H2 H3 k5 l5 E P I M Ha HD FB FW d0 d1 d2 d3 LM HL EX HC;generalize wr.heap.size=T at G K9 KS⊢;(go_wp2_with fail);refine EK.mono ?_;rintro e w6 ⟨rfl,K1⟩;subst K1;clear EK;have D:=G.cell 0;have t1:=G.cell 1;have t2:=G.cell 2;have t3:=G.cell 3;simp at D t1 t2 t3;cases t:XQ a k with
   |true=>
    have B:JR (R=V (3,l)):=by
     show _=_;rw[<-Aa F];unfold X4;rw[t];rfl
    clear t BT F;go_wp2_with fail
    go_region_held3 (λw'=>Lc w' ⟨T,0,Y⟩=V (X J l)) (go_keep) (fail)
    rename_i FL;clear FL;go_wp2;go_ret2;rw[Aa B];exact⟨rfl,C _ FP.drew⟩
   |false=>
    have L:=Aa BT;rw[t]at L;simp only[ol,nV]at L;have EM:=Ab (Qe ⟨l,s,f,U q (Z f) m,U o (Z d) n,d⟩ w6 HB.at_ z.pc.lits);simp only[Br]at EM;have H7:=Ab t;have M0:=L.1.1;have NM:=L.1.2;have M1:=L.2;clear t BT L;(go_wp2_with fail);refine EM.mono ?_;rintro e w7 ⟨rfl,k7⟩;have H:=Ab (G.kept k7);have CC:=Ab (FO.kept k7);have l7:=VX.of k7 (b:=b) (by have:=FO.dI.lt;omega) (by simp);have HH:=Ab (FP.trans l7);have Q:=Ab (HB.low l7);have Nd:T<w7.heap.size:=H.lt;(have MY:b<=w7.heap.size:=by have:=CC.dI.lt;omega);clear D t1 t2 t3 EM k7 l7 G FO FP HB;have D:=H.cell 0;have t1:=H.cell 1;have t2:=H.cell 2;have t3:=H.cell 3;simp at D t1 t2 t3;cases hg:KF ⟨l,s,f,U q (Z f) m,U o (Z d) n,d⟩with
    |true=>
     have B:JR (R=V (3,l)):=by
      show _=_;rw[<-Aa F];unfold X4;rw[hg,pG];rfl
     clear hg F;go_wp2_with fail
     go_region_held3 (λw'=>Lc w' ⟨T,0,Y⟩=V (X J l)) (go_keep) (fail)
     rename_i FL;clear FL;go_wp2;go_ret2;rw[Aa B];exact⟨rfl,C _ HH.drew⟩
    |false=>
     have x:JR ((match(match jA a (BC ⟨l,s,f,U q (Z f) m,U o (Z d) n,d⟩)with|some p=>V ((4:Int),p)|none=>match Ig ⟨l,s,f,U q (Z f) m,U o (Z d) n,d⟩with|some p=>V ((5:Int),p)|none=>Y)with|some r=>V r|none=>PF a (k+1) (a.drop (k+1)))=R):=by
      have h:=Aa F;unfold X4 at h;rw[Aa H7,hg]at h;exact h
     clear hg F H7;have BA:=Ab (LP ⟨l,s,f,U q (Z f) m,U o (Z d) n,d⟩ w7 Q.at_ z.pc.lits);have H4:=Ab (IG Q.at_);have HY:Z (BC ⟨l,s,f,U q (Z f) m,U o (Z d) n,d⟩)<=1001:=by
      have:=Es d;have h2:=z.pc.lits;simp only at h2;simp[BC];omega
     have H6:=Ab (z.atoms Q.at_);simp only[Br]at BA;generalize BC ⟨l,s,f,U q (Z f) m,U o (Z d) n,d⟩=aT at BA x H4 HY H6;(go_wp2_with fail);refine BA.mono ?_;rintro e wa ⟨MN,LC,rfl,IA,ka⟩;have P:=Ab (H.kept ka);have E:=Ab (CC.kept ka);have la:=VX.of ka (b:=b) MY (by simp);have I:=Ab (HH.trans la);have M:=Ab (Q.low la);(have Mo:b<=wa.heap.size:=by have:=E.dI.lt;omega);have E0:=Ab (Mf MN LC aT _ _ _ a wa IA H4 HY H6 (HP.kept (C wa I)) (λc hc=>(IS c hc).pc.lits) K3);clear BA IA ka la H CC HH Q D t1 t2 t3;generalize jA a aT=RO at E0 x;(go_wp2_with fail);refine E0.mono ?_;rintro e w8 ⟨rfl,k8⟩;have AB:=Ab (P.kept k8);have HA:=Ab (E.kept k8);have l8:VX b wa w8:=VX.of k8 Mo (by simp);have FT:=Ab (I.trans l8);have HQ:=Ab (M.low l8);(have K5:b<=w8.heap.size:=by have:=HA.dI.lt;omega);clear E0 k8 l8 P E I M;have D:=AB.cell 0;have t1:=AB.cell 1;have t2:=AB.cell 2;have t3:=AB.cell 3;simp at D t1 t2 t3;cases RO with
     |some p=>
      have B:JR (R=V (4,p)):=x.symm;clear x;simp only[BP];go_wp2;go_ret2;rw[Aa B];exact⟨rfl,C _ FT⟩
     |none=>
      have A1:=Ab (Qa ⟨l,s,f,U q (Z f) m,U o (Z d) n,d⟩ w8 HQ.at_ z.pc (by have:=z.dP;omega));simp only[Br]at A1;simp only at x;generalize Ig ⟨l,s,f,U q (Z f) m,U o (Z d) n,d⟩=UO at A1 x;simp only[BP];(go_wp2_with fail);refine A1.mono ?_;rintro e w9 ⟨rfl,k9⟩;have K2:=Ab (HA.kept k9);have HW:=Ab (FT.trans (VX.of k9 K5 (by simp)));clear A1 k9 HA FT HQ AB D t1 t2 t3;cases UO with
      |some p=>
       have B:JR (R=V (5,p)):=x.symm;clear x;simp only[BP];go_wp2;go_ret2;rw[Aa B];exact⟨rfl,C _ HW⟩
      |none=>
       have MB:JR (PF a (k+1) (a.drop (k+1))=R):=x;clear x;simp only[BP];go_wp2
       go_roundg (Z a-(k+1))
       case measure=>have:=Aa HG;omega
       case rel=>exact⟨k+1,JA,HT,B0,BS,by go_num,by omega,by omega,rfl,by omega,by omega,K2,IJ,HZ,MB,HW⟩
  .have B:JR (R=Y):=by
    have h:=Aa HR;rw[mp (by omega),PF]at h;exact h.symm
   go_wp2;go_ret2;rw[B.out];exact⟨rfl,C wr HL⟩
def SQ(f:bC->bC->Bool)(pcs:QC DF):Int×Int:=match PF pcs 0 pcs with
 |some r=>r
 |none=>match PQ f pcs with
  |some p=>(6,p)
  |none=>(0,0)
structure Wf(c:DF):Prop where
 head:lenOf c.hv=Z c.dx
 lits:∀p∈c.bm,lenOf p.2=Z p.1.ts
def Kj.wf{c:DF}(h:Kj w 0 c.hv c.bv c.dx c.bm):Wf c:=by
 refine⟨?_,λp a=>?_⟩
 .obtain⟨d,b,e⟩:=Ak h.head;rw[e];rfl
 .obtain⟨d,b,e⟩:=Ak (h.body.each p a).1;rw[e];rfl
def EI(s:bC)(f:bC->bC->Bool)(r:Int×Int):Prop:=
 if 300<s.size then r=(1,0)
 else match Dl (Dt s) 0 [] with
  | .error p=>r=(2,p)
  | .ok cs=>∃pcs:QC DF,pcs.map DF.pc=cs/\(∀c∈pcs,Wf c)/\r=SQ f pcs
structure Vw(f:bC->bC->Bool)(pcs:QC DF):Prop where
 zw:∀x y,f x y=Cm↔Ib pcs x y
 fit:∀c∈pcs,kF c
 len:Z pcs<=1000
 names:Z (pcs.flatMap Co)<=800000
def Gs.into{d:QC DF}(h:Gs w n z d):DK w z d/\∀c∈d,fW w w.heap.size c:=by
 refine⟨⟨Al h.row (lW _),λc e=>(h.each c e).at_.base (lW _)⟩,λc e=>?_⟩;have b:=(h.each c e).at_;exact⟨b.base (lW _),λk a=>(b.head.lt k a).2,λk a=>(b.body.row.lt k a).2,λp f k a=>(World.ownsRow.lt (b.body.each p f).1 k a).2⟩
def gU{c:DF}{r:Int×Int}(h:X4 p k c=V r):r.1≠0:=by
 unfold X4 at h;split at h
 .simp only[lL]at h;subst h;simp
 .split at h
  .simp only[lL]at h;subst h;simp
  .split at h
   .simp only[lL]at h;subst h;simp
   .cases h
def aI{b:QC DF}:∀(l:QC DF) (k:Nat) {r:Int×Int},PF b k l=V r->r.1≠0
 |[],k,r,h=>by simp[PF]at h
 |c::l,k,r,h=>by
  rw[PF]at h;split at h
  .rename_i d a;simp only[lL]at h;subst h;exact gU a
  .exact aI l (k+1) h
def eJ(s:bC)(w:Hq)(lv:Hs)(n:Nat)(r:Int×Int):Prop:=r.1=0->s.size<=300/\∃cs pcs,Dl (Dt s) 0 []=.ok cs/\pcs.map DF.pc=cs/\n=Z pcs/\DK w lv pcs
theorem LV(s:bC)(f:bC->bC->Bool)(w:Hq)(BA:s.size<=9223372036854775807)(B:s.size<=300->∀b,Dl (Dt s) 0 []=.ok b->∀a,a.map DF.pc=b->Vw f a):
  Calls prog 40 #[O s] w λe M=>∃(j:Option Addr) (n k:Nat) (r:Int×Int),e=G3 (.tuple #[U j n k,X J r.1,X J r.2])/\EI s f r/\eJ s M (U j n k) n r/\Ac [] w M:=by
 by_cases S:300<s.size
 .have AT:(300:Int)<(s.size:Int):=by omega
  have i:JR (EI s f (1,0)):=by
   show EI _ _ _;unfold EI;rw[lS S]
  clear B;go_enter func40,ntmps40;go_wp2;go_ret3;exact⟨Y,0,0,(1,0),rfl,i,λh=>absurd h (by decide),SF _ _⟩
 .have AT:¬(300:Int)<(s.size:Int):=by omega
  have W:=Ab (Kb s w (by omega));have y:=Ab (B (by omega));have u:JR (∀r,EI s f r↔(match Dl (Dt s) 0 [] with| .error p=>r=(2,p)| .ok b=>∃a:QC DF,a.map DF.pc=b/\(∀c∈a,Wf c)/\r=SQ f a)):=by
   intro r;unfold EI;rw[lO S]
  clear B;go_enter func40,ntmps40;go_wp2_with fail
  refine W.mono ?_;intro e w2 x;clear W;cases hp:Dl (Dt s) 0 [] with
  |error p=>
   rw[hp]at x;obtain⟨rfl,m⟩:=x;have i:JR (EI s f (2,p)):=by
    show EI _ _ _;rw[Aa u,hp]
   have v:=Ab m;clear hp u y m;go_wp2;go_ret3;exact⟨Y,0,0,(2,p),rfl,i,λh=>absurd h (by simp),v⟩
  |ok b=>
   rw[hp]at x;obtain⟨j,k,a,rfl,o,G,m⟩:=x;have q:=Aa y b hp a o;(have AO:Z b=Z a:=by rw[<-o];simp);rw[AO]at G⊢;obtain⟨t,R⟩:=G.into;have i:JR (∀r,r=SQ f a->EI s f r):=by
    intro r E;rw[Aa u,hp];exact⟨a,o,λc d=>(t.each c d).wf,E⟩
   have L:=Ab (Ow j k a w2 t R q.len q.fit);have T:=Ab t;have P:JR (Dl (Dt s) 0 []=.ok b/\a.map DF.pc=b):=⟨hp,o⟩;have l:=Ab q;have v:=Ab m;clear hp u y m o G t R q;(go_wp2_with fail);refine L.mono ?_;rintro e w3 ⟨rfl,C⟩;have z:=Ab (T.kept C);have H:=Ab (v.trans C);clear L T v C;cases d:PF a 0 a with
   |some r=>
    have F:=aI _ _ d;(have AH:(r.1 !=0)=Cm:=by simp[bne,F]);have g:=Ab (i r (by unfold SQ;rw[d]));obtain⟨N,r2⟩:=r;simp only at AH F;have A1:JR (N≠0):=F;clear d i;simp only[Zv];go_wp2;go_ret3;exact⟨Y,0,0,(N,r2),rfl,g,λh=>absurd h A1,H⟩
   |none=>
    have Ax:=Ab (UN f j k a l.zw w3 z l.len (λc d=>(l.fit c d).pc.lits) l.names);have g:JR (∀r,r=(match PQ f a with|some p=>((6:Int),p)|none=>(0,0))->EI s f r):=by
     intro r E;refine i r ?_;unfold SQ;rw[d];exact E
    clear d i l;simp only[Zv];(go_wp2_with fail);refine Ax.mono ?_;rintro e w4 ⟨rfl,I⟩;have Q:=Ab (H.trans I);have A0:JR (s.size<=300/\∃b A,Dl (Dt s) 0 []=.ok b/\A.map DF.pc=b/\Z a=Z A/\DK w4 (U j (Z a) k) A):=⟨by omega,b,a,P.1,P.2,rfl,z.kept I⟩;clear Ax I H z;cases hl:PQ f a with
    |some p=>
     rw[hl]at g;have D:=Ab (g (6,p) rfl);clear hl g;simp only[BP];go_wp2;go_ret3;exact⟨Y,0,0,(6,p),rfl,D,λh=>absurd h (by simp),Q⟩
    |none=>
     rw[hl]at g;have D:=Ab (g (0,0) rfl);clear hl g;simp only[BP];go_wp2;go_ret3;exact⟨j,Z a,k,(0,0),rfl,D,λ_=>A0,Q⟩
def F2{α β:Type}(R:α->β->Prop):QC α->QC β->Prop
 |[],[]=>True
 |a::l,b::m=>R a b/\F2 R l m
 |_,_=>False
def F2.nil{α β:Type}{R:α->β->Prop}:F2 R ([]:QC α) ([]:QC β):=trivial
def F2.cons{α β:Type}{R:α->β->Prop}{a:α}{b:β}{l:QC α}{m:QC β}(h:R a b)(t:F2 R l m):F2 R (a::l) (b::m):=⟨h,t⟩
def F2.ind{α β:Type}{R:α->β->Prop}{motive:(l:QC α)->(m:QC β)->F2 R l m->Prop}(nil:motive [] [] F2.nil)(cons:∀{a:α} {b:β} {l:QC α} {m:QC β} (h:R a b) (t:F2 R l m),motive l m t->motive (a::l) (b::m) (F2.cons h t)):∀{l:QC α} {m:QC β} (h:F2 R l m),motive l m h
 |[],[],_=>nil
 |[],_::_,h=>h.elim
 |_::_,[],h=>h.elim
 |_::_,_::_,h=>cons h.1 h.2 (F2.ind nil cons h.2)
def F2.of_map{α β γ:Type}{f:α->γ}{g:β->γ}:∀{l:QC α} {m:QC β},l.map f=m.map g->F2 (λa b=>f a=g b) l m
 |[],[],_=>F2.nil
 |[],_::_,h=>by simp at h
 |_::_,[],h=>by simp at h
 |a::l,b::m,h=>by
  simp only[l9,nC]at h;exact F2.cons h.1 (F2.of_map h.2)
def F2.lenX{α β:Type}{R:α->β->Prop}{l:QC α}{m:QC β}(h:F2 R l m):Z l=Z m:=by
 induction h using F2.ind with
 |nil=>rfl
 |cons _ _ ih=>simp[ih]
def F2.take{α β:Type}{R:α->β->Prop}{l:QC α}{m:QC β}(h:F2 R l m)(k:Nat):F2 R (l.take k) (m.take k):=by
 induction h using F2.ind generalizing k with
 |nil=>simp;exact F2.nil
 |cons h1 _ ih=>
  cases k with
  |zero=>simp;exact F2.nil
  |succ k=>simp only[oy];exact F2.cons h1 (ih k)
def F2.flatMap{α β γ:Type}{R:α->β->Prop}{f:α->QC γ}{g:β->QC γ}(c:∀a b,R a b->f a=g b){l:QC α}{m:QC β}(h:F2 R l m):l.flatMap f=m.flatMap g:=by
 induction h using F2.ind with
 |nil=>rfl
 |cons h1 _ ih=>rw[mc,mc,c _ _ h1,ih]
def F2.find{α β γ:Type}{R:α->β->Prop}{f:α->Bool}{g:β->Bool}{u:α->γ}{v:β->γ}(d:∀a b,R a b->f a=g b/\u a=v b){l:QC α}{m:QC β}(h:F2 R l m):(l.find? f).map u=(m.find? g).map v:=by
 induction h using F2.ind with
 |nil=>rfl
 |cons h1 _ ih=>
  obtain⟨e,c⟩:=d _ _ h1;rw[n5,n5,e];split
  .simp[c]
  .exact ih
def F2.mem{α β:Type}{R:α->β->Prop}{l:QC α}{m:QC β}(h:F2 R l m):∀b∈m,∃a∈l,R a b:=by
 induction h using F2.ind with
 |nil=>intro b c;simp at c
 |cons h1 _ ih=>
  intro b c;rcases lI.1 c with rfl|c
  .exact⟨_,by simp,h1⟩
  .obtain⟨a,d,e⟩:=ih b c;exact⟨a,by simp[d],e⟩
def F2.zn{α β:Type}{R:α->β->Prop}{l:QC α}{m:QC β}(h:F2 R l m):∀a∈l,∃b∈m,R a b:=by
 induction h using F2.ind with
 |nil=>intro b c;simp at c
 |cons h1 _ ih=>
  intro b c;rcases lI.1 c with rfl|c
  .exact⟨_,by simp,h1⟩
  .obtain⟨a,d,e⟩:=ih b c;exact⟨a,by simp[d],e⟩
def F2.mono{α β:Type}{R S:α->β->Prop}{l:QC α}{m:QC β}(h:F2 R l m)(c:∀a∈l,∀b∈m,R a b->S a b):F2 S l m:=by
 induction h using F2.ind with
 |nil=>exact F2.nil
 |cons h1 _ ih=>exact F2.cons (c _ (by simp) _ (by simp) h1) (ih (λa d b e=>c a (by simp[d]) b (by simp[e])))
structure T4(p:Lx)(q:Be):Prop where
 eq:p.1=LQ q.1
 len:lenOf p.2=Z q.1.A.args
 plain:Nf q=K->q.1.A.args=[]
def Zt(t:AF):((ct t).v==0)=(t.v==0):=by
 unfold ct;simp only;rw[m9];simp only[nu];constructor
 .intro h;apply nh.1;rw[show(0:UInt8).toNat=0 from rfl]
  omega
 .intro h;rw[h];rfl
def iV(t:AF)(v:UInt8):((ct t).v==(v.toNat:Int))=(t.v==v):=by
 unfold ct;simp only;rw[m9];simp only[nu];constructor
 .intro h;apply nh.1;omega
 .intro h;rw[h]
def SW(k:UInt8):(Gb k==0)=(k==97):=by
 unfold Gb;by_cases h:k=97
 .simp[h]
 .by_cases a:k=33
  .simp[a]
  .by_cases b:k=61
   .simp[b]
   .by_cases c:k=35
    .simp[c]
    .simp[h,a,b,c]
def dw(k:UInt8):(Gb k==1)=(k==33):=by
 unfold Gb;by_cases h:k=97
 .simp[h]
 .by_cases a:k=33
  .simp[a]
  .by_cases b:k=61
   .simp[b]
   .by_cases c:k=35
    .simp[c]
    .simp[h,a,b,c]
def T4.atom{p:Lx}{q:Be}(h:T4 p q):Bl p.1=Nf q:=by
 unfold Bl Nf;rw[h.eq];simp only[LQ,SW,dw]
def T4.dP{p:Lx}{q:Be}(h:T4 p q):AU p.1=(AE q).map ct:=by
 unfold AU AE;rw[h.atom,h.eq];split<;>simp[LQ]
structure RY(c:DF)(r:A7):Prop where
 hp:c.hp=r.head.at_
 hn:c.hn=r.head.name
 dx:c.dx=r.head.args.map ct
 lits:F2 T4 c.bm r.bl
 len:lenOf c.hv=Z r.head.args
 at_:r.at_=r.head.at_
def Hr(r:A7):QC bC:=r.head.name::(r.bl.filter Nf).map λq=>q.1.A.name
def GY(r:A7):QC AF:=r.head.args++r.bl.flatMap AE
def YD{a:QC Lx}{b:QC Be}(h:F2 T4 a b):Gz a=(b.filter Nf).map λq=>q.1.A.name:=by
 unfold Gz
 induction h using F2.ind with
 |nil=>rfl
 |cons h1 _ ih=>
  rw[nw,nw,h1.atom];split
  .rw[l9,l9,ih,h1.eq];rfl
  .exact ih
def RY.names{c:DF}{r:A7}(h:RY c r):Co c=Hr r:=by
 unfold Co Hr;rw[h.hn,YD h.lits]
def RY.dP{c:DF}{r:A7}(h:RY c r):BF c=(GY r).map ct:=by
 unfold BF GY A5;rw[h.dx,mx,px,F2.flatMap (λa b d=>d.dP) h.lits]
def Oi(r:A7):QC bC:=((GY r).filter λt=>t.v==0).map λt=>t.s
def RY.bc{c:DF}{r:A7}(h:RY c r):Iq c=(Oi r).map D4:=by
 unfold Iq Oi;rw[h.dP,List.filter_map,mJ,mJ];have e:(GY r).filter ((λt=>t.v==0)∘ct)=(GY r).filter λt=>t.v==0:=by
  apply List.filter_congr;intro t _;exact Zt t
 rw[e];rfl
def VT(f:bC->bC)(h:∀a b,f a=f b->a=b)(l:QC bC):Z (iQ (l.map f))=Z (iQ l):=by
 rw[show Z (iQ l)=Z ((iQ l).map f) from by simp]
 refine Mz (EF _).1 (List.Pairwise.map f (λa b g e=>g (h a b e)) (EF l).1) (λy=>?_);rw[(EF _).2,lP,lP];constructor
 .rintro ⟨x,d,c⟩;exact⟨x,((EF l).2 x).2 d,c⟩
 .rintro ⟨x,d,c⟩;exact⟨x,((EF l).2 x).1 d,c⟩
def V0(l:QC bC)(r:A7):Mk l r=(Hr r).foldl CY l:=by
 unfold Mk Hr;rw[mr];generalize CY l r.head.name=l0
 induction r.bl generalizing l0 with
 |nil=>rfl
 |cons q bl ih=>
  rw[mr,nw];unfold be;cases hq:Nf q with
  |true=>
   simp only[if_true,l9,mr];exact ih _
  |false=>
   simp only[lJ,if_false];exact ih _
def MV{α β γ:Type}(f:γ->β->γ)(g:α->QC β):∀(l:QC α) (c:γ),(l.flatMap g).foldl f c=l.foldl (λc a=>(g a).foldl f c) c
 |[],c=>rfl
 |a::l,c=>by rw[mc,mL,mr,MV f g l]
def Nb(a:QC A7):C2 a=iQ (a.flatMap Hr):=by
 unfold C2 iQ;rw[MV]
 congr 1
 funext l r
 exact V0 l r
def PH(x y:bC):∀(l:QC bC) (a:QC bC×Bool),(y∈(l.foldl (Dq x) a).1↔y∈a.1\/y∈l\/(y=x/\a.2=K/\(l.foldl (Dq x) a).2=Cm))/\(a.2=Cm->(l.foldl (Dq x) a).2=Cm)
 |[],a=>by
  refine⟨?_,λh=>h⟩;simp only[List.foldl_nil,mQ,false_or];constructor
  .exact Hd
  .rintro (h|⟨_,f,e⟩)
   .exact h
   .rw[f]at e;cases e
 |z::l,a=>by
  obtain⟨b,c⟩:=PH x y l (Dq x a z);rw[mr];unfold Dq at b c⊢;cases hb:(!a.2&&Gd x z)with
  |true=>
   have d:a.2=K:=by
    cases h:a.2 with
    |false=>rfl
    |true=>rw[h]at hb;simp at hb
   rw[hb]at b c;simp only[if_true]at b c⊢;have g:=c trivial;refine⟨?_,λh=>by rw[d]at h;cases h⟩;rw[b,g,d];simp only[lV,lI,mQ,Bool.true_eq_false,false_and,and_false,or_false,true_and,and_true,and_self];constructor
   .rintro ((h|h)|h)
    .rcases h with h|h
     .exact Hd h
     .exact Hf (Hf h)
    .exact Hf (Hd (Hd h))
    .exact Hf (Hd (Hf h))
   .rintro (h|(h|h)|h)
    .exact Hd (Hd (Hd h))
    .exact Hd (Hf h)
    .exact Hf h
    .exact Hd (Hd (Hf h))
  |false=>
   rw[hb]at b c;simp only[lJ,if_false]at b c⊢;refine⟨?_,c⟩;rw[b];simp only[lV,lI,mQ,or_false];constructor
   .rintro ((h|h)|h|h)
    .exact Hd h
    .exact Hf (Hd (Hd h))
    .exact Hf (Hd (Hf h))
    .exact Hf (Hf h)
   .rintro (h|(h|h)|h)
    .exact Hd (Hd h)
    .exact Hd (Hf h)
    .exact Hf (Hd h)
    .exact Hf (Hf h)
def bG(l:QC bC)(x y:bC):y∈IQ l x↔y=x\/y∈l:=by
 have h:=(PH x y l ([],K)).1;unfold IQ;unfold NC;cases hf:(l.foldl (Dq x) ([],K)).2 with
 |true=>
  rw[hf]at h;simp only[if_true];rw[h];simp only[mQ,false_or,true_and,and_true,and_self];exact⟨λh=>by rcases h with h|h;exact Hf h;exact Hd h,λh=>by rcases h with h|h;exact Hf h;exact Hd h⟩
 |false=>
  rw[hf]at h;simp only[lJ,if_false,lV,lG];rw[h];simp only[mQ,false_or,lJ,and_false,or_false];exact⟨λh=>by rcases h with h|h;exact Hf h;exact Hd h,λh=>by rcases h with h|h;exact Hf h;exact Hd h⟩
structure PV(a b:QC bC):Prop where
 mem:∀y,y∈a↔y∈b
 len:Z a=Z b
def PV.gI{a b:QC bC}(h:PV a b)(t:AF):PV (gI a t) (if t.v==0 then CY b t.s else b):=by
 unfold Go.Proofs.YtoihbhenbmffcaaGreatDoor.gI CY;cases hv:(t.v==0)with
 |false=>simpa using h
 |true=>
  have e:Ew a t.s=Ew b t.s:=by rw[m9,Of,Of,h.mem]
  rw[e];cases hh:Ew b t.s with
  |true=>simpa using h
  |false=>
   simp only[m4,od,if_true,lJ,if_false];refine⟨λy=>?_,by rw[OR,h.len];simp⟩;rw[bG,h.mem];simp only[lV,lG];exact⟨λh=>by rcases h with h|h;exact Hf h;exact Hd h,λh=>by rcases h with h|h;exact Hf h;exact Hd h⟩
def PV.dj{a b:QC bC}(h:PV a b):∀d:QC AF,PV (dj a d) (((d.filter λt=>t.v==0).map λt=>t.s).foldl CY b):=by
 intro d;unfold Go.Proofs.YtoihbhenbmffcaaGreatDoor.dj
 induction d generalizing a b with
 |nil=>exact h
 |cons t d ih=>
  rw[mr,nw];have c:=h.gI t;cases hv:(t.v==0)with
  |true=>
   rw[hv]at c;simp only[if_true]at c⊢;rw[l9,mr];exact ih c
  |false=>
   rw[hv]at c;simp only[lJ,if_false]at c⊢;exact ih c
def WC(l:QC bC)(a b:QC AF):dj l (a++b)=dj (dj l a) b:=by
 unfold dj;rw[mL]
def Yp(l:QC bC)(r:A7):Km l r=dj l (GY r):=by
 unfold Km GY;rw[WC];generalize dj l r.head.args=l0
 induction r.bl generalizing l0 with
 |nil=>rfl
 |cons q bl ih=>
  rw[mr,mc,WC];exact ih _
def Nl(d:QC A7):PV (D9 d) (iQ (d.flatMap Oi)):=by
 unfold D9 iQ;rw[MV];have:∀(l:QC A7) (a b:QC bC),PV a b->PV (l.foldl Km a) (l.foldl (λc r=>(Oi r).foldl CY c) b):=by
  intro l
  induction l with
  |nil=>intro a b h;exact h
  |cons r l ih=>
   intro a b h;rw[mr,mr];refine ih _ _ ?_;rw[Yp];exact h.dj _
 exact this d [] [] ⟨λy=>Iff.rfl,rfl⟩
abbrev kU:=Int×bC×Nat
def Vi(a:Hh):kU:=(a.place,a.name,lenOf a.tv)
def Fi(r:A7):QC kU:=((r.head.at_:Int),r.head.name,Z r.head.args)::(r.bl.filter Nf).map λq=>((q.1.A.at_:Int),q.1.A.name,Z q.1.A.args)
def Yk{a:QC Lx}{b:QC Be}(h:F2 T4 a b):(AV a).map Vi=(b.filter Nf).map λq=>((q.1.A.at_:Int),q.1.A.name,Z q.1.A.args):=by
 unfold AV
 induction h using F2.ind with
 |nil=>rfl
 |cons h1 _ ih=>
  rw[nw,nw,h1.atom];split
  .rw[l9,l9,l9,ih]
   congr 1
   unfold Vi;simp only;rw[h1.eq,h1.len];rfl
  .exact ih
def RY.atoms{c:DF}{r:A7}(h:RY c r):(BC c).map Vi=Fi r:=by
 unfold BC Fi;rw[l9,Yk h.lits]
 congr 1
 unfold Vi;simp only;rw[h.hp,h.hn,h.len]
def jG(x:bC)(p:bC×Nat):Bool:=p.1.toList==x.toList
def P3(L:QC (bC×Nat))(x:bC):Int:=match L.find? (jG x)with|some p=>p.2|none=> -1
def fP(L:QC (bC×Nat))(a:kU):Bool:=P3 L a.2.1 !=(a.2.2:Int)
def FX(cs:QC A7):QC (bC×Nat):=cs.flatMap λr=>(Fi r).map λa=>a.2
def VH(a:QC Be)(x:bC):Vu a x=(((a.filter Nf).map λq=>(q.1.A.name,Z q.1.A.args)).find? (jG x)).map λp=>p.2:=by
 unfold Vu
 induction a with
 |nil=>rfl
 |cons q a ih=>
  rw[oX,nw];cases hq:Nf q with
  |false=>
   simp only[oH,lJ,if_false];exact ih
  |true=>
   simp only[np,if_true,l9];rw[n5];unfold jG;simp only;cases hn:(q.1.A.name.toList==x.toList)with
   |true=>rfl
   |false=>exact ih
def VE(r:A7)(x:bC):Hu r x=(((Fi r).map λa=>a.2).find? (jG x)).map λp=>p.2:=by
 unfold Hu Fi;rw[l9,n5,VH,mJ];unfold jG;simp only;cases h:(r.head.name.toList==x.toList)with
 |true=>rfl
 |false=>rfl
def OL(b:QC A7)(x:bC):BU b x=P3 (FX b) x:=by
 have:b.findSome? (Hu · x)=((FX b).find? (jG x)).map λp=>p.2:=by
  unfold FX
  induction b with
  |nil=>rfl
  |cons r b ih=>
   rw[oX,mc,pM,VE,ih];cases((Fi r).map λa=>a.2).find? (jG x)<;>rfl
 unfold BU P3;rw[this];cases(FX b).find? (jG x)<;>rfl
def Wx(L:QC (bC×Nat))(r:A7):((Fi r).find? (fP L)).map (λa=>a.1)=
  if P3 L r.head.name≠(Z r.head.args:Int)then V (r.head.at_:Int)else(r.bl.find? λq=>Nf q&&(P3 L q.1.A.name !=(Z q.1.A.args:Int))).map λq=>(q.1.A.at_:Int):=by
 unfold Fi;rw[n5];have e:fP L ((r.head.at_:Int),r.head.name,Z r.head.args)=(P3 L r.head.name !=(Z r.head.args:Int)):=rfl;rw[e];cases hh:(P3 L r.head.name !=(Z r.head.args:Int))with
 |true=>
  have:P3 L r.head.name≠(Z r.head.args:Int):=by simpa using hh
  rw[lS this];rfl
 |false=>
  have:¬P3 L r.head.name≠(Z r.head.args:Int):=by simpa using hh
  rw[lO this];simp only
  induction r.bl with
  |nil=>rfl
  |cons q bl ih=>
   rw[nw,n5];cases hq:Nf q with
   |false=>
    simp only[oH,lJ,if_false];exact ih
   |true=>
    simp only[np,if_true,l9];rw[n5];have b:fP L ((q.1.A.at_:Int),q.1.A.name,Z q.1.A.args)=(P3 L q.1.A.name !=(Z q.1.A.args:Int)):=rfl;rw[b];cases(P3 L q.1.A.name !=(Z q.1.A.args:Int))with
    |true=>rfl
    |false=>exact ih
def RY.bound{c:DF}{r:A7}(h:RY c r)(v:UInt8):PX c.bm (v.toNat:Int)=Ky r.bl v:=by
 unfold PX Ky GO;have b:=h.lits;generalize c.bm=bm at b;generalize r.bl=bl at b
 induction b using F2.ind with
 |nil=>rfl
 |cons h1 _ ih=>
  rw[mc,pK,oF,ih]
  congr 1
  unfold KC SG;rw[h1.eq];simp only[LQ,SW];split
  .rename_i a;rw[a,oW];simp only[np];apply N5;intro t _;exact iV t v
  .rename_i a;simp only[Bool.not_eq_true]at a;rw[a];rfl
def RY.loose{c:DF}{r:A7}(h:RY c r)(t:AF):PZ c (ct t)=CR r.bl t:=by
 unfold PZ CR;have e:((ct t).v !=0)= !(t.v==0):=by rw[bne,Zt]
 rw[e];have:(ct t).v=(t.v.toNat:Int):=rfl;rw[this,h.bound];cases(t.v==0)<;>simp
def RY.zu{c:DF}{r:A7}(h:RY c r):Ig c=if 0<=DN r.head r.bl then V (DN r.head r.bl)else Y:=by
 unfold Ig DN;have d:c.dx.any (PZ c)=r.head.args.any (CR r.bl):=by
  rw[h.dx,oW];apply N5;intro t _;exact h.loose t
 have b:(c.bm.find? λp=>(AU p.1).any (PZ c)).map (λp=>p.1.place)=(r.bl.find? (IK r.bl)).map λq=>(q.1.at_:Int):=by
  refine F2.find (λp q a=>⟨?_,?_⟩) h.lits
  .unfold IK;rw[a.dP,oW];apply N5;intro t _;exact h.loose t
  .rw[a.eq];rfl
 rw[d,b,h.hp];cases r.head.args.any (CR r.bl)with
 |true=>
  simp only[if_true];rw[lS (by omega)]
 |false=>
  simp only[lJ,if_false];cases r.bl.find? (IK r.bl)with
  |none=>rfl
  |some q=>
   simp only[nF];rw[lS (by omega)]
def RY.zs{c:DF}{r:A7}(h:RY c r):KF c=(decide (2<Z r.head.args)||r.bl.any BI||decide (3<Z r.bl)):=by
 unfold KF;rw[h.lits.lenX]
 congr 1
 have e:(BC c).any (λa=>decide (2<lenOf a.tv))=(Fi r).any λa=>decide (2<a.2.2):=by
  rw[<-h.atoms,oW];rfl
 rw[e];unfold Fi;rw[oF]
 congr 1
 have d:∀q∈r.bl,Nf q=K->q.1.A.args=[]:=λq b=>by
  obtain⟨p,_,f⟩:=h.lits.mem q b;exact f.plain
 generalize r.bl=bl at d
 induction bl with
 |nil=>rfl
 |cons q bl ih=>
  rw[nw,oF];have ih:=ih (λq b=>d q (by simp[b]));cases b:Nf q with
  |true=>
   simp only[if_true,l9,oF];rw[ih];rfl
  |false=>
   have:=d q (by simp) b;simp only[lJ,if_false];rw[ih];unfold BI;rw[this];rfl
def aX{d:QC A7}(h:F2 RY p d):FX d=((p.flatMap BC).map Vi).map λa=>a.2:=by
 unfold FX;rw[px,<-F2.flatMap (f:=λc=>(BC c).map Vi) (g:=Fi) (λa b e=>e.atoms) h|>.symm,px]
def Xt{a:QC DF}(h:F2 RY a c)(x:bC):j6 a x=((FX c).find? (jG x)).map λp=>p.2:=by
 rw[aX h,mJ,List.find?_map,Option.map_map];rfl
def eG{d:QC DF}{b:QC A7}(h:F2 RY d b){c:DF}{r:A7}(j:RY c r)(k:∀a∈Fi r,a.2∈FX b)(f:KF c=K):
  jA d (BC c)=((Fi r).find? (fP (FX b))).map λa=>a.1:=by
 unfold jA;rw[<-j.atoms,List.find?_map,Option.map_map];have e:(BC c).find? (Sy d)=(BC c).find? (fP (FX b)∘Vi):=by
  apply OM;intro a i;have m:¬2<lenOf a.tv:=by
   unfold KF at f;simp only[ol]at f;have:=(ng.1 f.1) a i;simpa using this
  have l:(Vi a).2∈FX b:=k _ (by rw[<-j.atoms];exact lZ i);have g:((FX b).find? (jG a.name)).isSome=Cm:=by
   rw[List.find?_isSome];exact⟨_,l,by simp[jG,Vi]⟩
  unfold Sy fP P3;simp only[Function.comp];rw[Xt h];rw[show(Vi a).2.1=a.name from rfl,show(Vi a).2.2=lenOf a.tv from rfl]
  cases hq:(FX b).find? (jG a.name)with
  |none=>rw[hq]at g;cases g
  |some p=>
   simp only[nF,m,pE,oe];rw[m9];simp only[nW,mq,bne_iff_ne,ne_eq];omega
 rw[e];rfl
def bV{d:QC A7}(h:F2 RY p d){c:DF}{r:A7}(e:RY c r)(x:∀a∈Fi r,a.2∈FX d):
  X4 p k c=Cq d k r:=by
 have s:=eG h e x;have w:Z (iQ ((p.take (k+1)).flatMap Co))=Z (C2 (d.take (k+1))):=by
  rw[Nb,F2.flatMap (λa b m=>m.names) (h.take (k+1))]
 have v:Z (iQ ((p.take (k+1)).flatMap Iq))=Z (D9 (d.take (k+1))):=by
  rw[(Nl _).len,F2.flatMap (g:=λr=>(Oi r).map D4) (λa b m=>m.bc) (h.take (k+1)),<-px,VT _ (λa b=>Y6)]
 unfold X4 Cq XQ;rw[e.zs]at s;rw[w,v,e.zs,e.zu,OL,e.hp,e.at_];generalize Z (C2 (d.take (k+1)))=N;generalize Z (D9 (d.take (k+1)))=T;cases hcond:((decide (12<k+1)||decide (6<N)||decide (6<T))||(decide (2<Z r.head.args)||r.bl.any BI||decide (3<Z r.bl)))with
 |true=>
  rw[lS rfl];by_cases i:12<=k\/3<Z r.bl
  .rw[lS i]
  .rw[lO i];by_cases l:2<Z r.head.args
   .rw[lS l]
   .rw[lO l];by_cases n:r.bl.any BI=Cm
    .rw[lS n]
    .rw[lO n];by_cases f:6<N\/6<T
     .rw[lS f]
     .exfalso
      simp only[ni,n7]at hcond;simp only[not_or]at i f;rcases hcond with((h|h)|h)|((h|h)|h)
      .omega
      .exact f.1 h
      .exact f.2 h
      .exact l h
      .exact n h
      .exact i.2 h
 |false=>
  simp only[ol,nV]at hcond;obtain⟨⟨⟨B,C⟩,D⟩,⟨t,o⟩,z⟩:=hcond;rw[s (by simp only[t,o,z,pE,pU]),Wx];rw[lO (show¬(K=Cm) by simp),lO (show¬(12<=k\/3<Z r.bl) by omega),lO t,lO (show¬(r.bl.any BI=Cm) by rw[o];simp),lO (show¬(6<N\/6<T) by omega)];by_cases j:P3 (FX d) r.head.name≠(Z r.head.args:Int)
  .rw[lS j,lS j]
  .rw[lO j,lO j];have u:(r.bl.find? λq=>Nf q&&(P3 (FX d) q.1.A.name !=(Z q.1.A.args:Int)))=r.bl.find? (BN d):=by
    apply OM;intro q _;unfold BN;rw[OL]
   rw[u];cases r.bl.find? (BN d)with
   |some q=>rfl
   |none=>
    simp only[Option.map_none];by_cases y:0<=DN r.head r.bl<;>simp[y]
def YI{b:QC A7}(h:F2 RY p b):∀{l:QC DF} {m:QC A7},F2 RY l m->∀(k:Nat),(∀r∈m,r∈b)->PF p k l=EL b k m:=by
 intro l m g
 induction g using F2.ind with
 |nil=>intro k _;rfl
 |cons hc _ ih=>
  rename_i c r l m _;intro k e;have d:∀a∈Fi r,a.2∈FX b:=λa f=>mD.2 ⟨r,e r (by simp),lZ f⟩
  rw[PF,EL,bV h hc d];cases hs:Cq b k r with
  |some x=>rfl
  |none=>exact ih (k+1) (λr d=>e r (by simp[d]))
def Yt{d:QC DF}{a:QC A7}(h:F2 RY d a){f:bC->bC->Bool}(i:∀x y,f x y=Ht a x y):(PQ f d).map (λp=>((6:Int),p))=a.findSome? (DQ a):=by
 unfold PQ;have g:∀{l:QC DF} {m:QC A7},F2 RY l m->(l.findSome? (Lw f)).map (λp=>((6:Int),p))=m.findSome? (DQ a):=by
  intro l m j
  induction j using F2.ind with
  |nil=>rfl
  |cons hc _ ih=>
   rename_i c r l m _;rw[oX,oX];have e:(Lw f c).map (λp=>((6:Int),p))=DQ a r:=by
    unfold Lw DQ;rw[Option.map_map];refine F2.find (λp q b=>⟨?_,?_⟩) hc.lits
    .unfold MK Ff;rw[b.eq,i,hc.hn];simp only[LQ,dw]
    .simp only[Function.comp];rw[b.eq];rfl
   rw[<-e];cases Lw f c with
   |some p=>rfl
   |none=>exact ih
 exact g h
def YO(h:F2 RY p c){f:bC->bC->Bool}(a:∀x y,f x y=Ht c x y):SQ f p=CK c:=by
 unfold SQ CK;rw[YI h h 0 (λr b=>b),<-Yt h a];cases EL c 0 c with
 |some r=>rfl
 |none=>
  simp only;cases PQ f p<;>rfl
def Sv(cs:QC A7)(x y:bC):Prop:=∀S:bC->Prop,S x->(∀r∈cs,S r.head.name->∀z∈Hr r,S z)->S y
def J4(h:(s.toList==t.toList)=Cm):s=t:=(Gh.eqv s t).1 h
def KP(y:bC):∀(a:QC Be) (l:QC bC),y∈a.foldl be l↔y∈l\/y∈(a.filter Nf).map λq=>q.1.A.name
 |[],l=>by simp
 |q::a,l=>by
  rw[mr,KP y a,nw];unfold be;cases hq:Nf q with
  |false=>simp only[lJ,if_false]
  |true=>
   simp only[if_true,TI,l9,lI];constructor
   .rintro ((h|h)|h)
    .exact Hf (Hd h)
    .exact Hd h
    .exact Hf (Hf h)
   .rintro (h|h|h)
    .exact Hd (Hf h)
    .exact Hd (Hd h)
    .exact Hf h
def Lz(x y:bC):∀(d:QC A7) (l:QC bC),y∈NK d l x↔y∈l\/∃r∈d,r.head.name=x/\y∈(r.bl.filter Nf).map λq=>q.1.A.name
 |[],l=>by simp[NK]
 |r::d,l=>by
  have ih:=Lz x y d (N3 x l r);unfold NK at ih⊢;rw[mr,ih];unfold N3;cases hr:(r.head.name.toList==x.toList)with
  |true=>
   have g:=J4 hr;simp only[if_true,KP];constructor
   .rintro ((h|h)|⟨c,a,b⟩)
    .exact Hd h
    .exact Hf ⟨r,by simp,g,h⟩
    .exact Hf ⟨c,by simp[a],b⟩
   .rintro (h|⟨c,a,b,f⟩)
    .exact Hd (Hd h)
    .rcases lI.1 a with rfl|a
     .exact Hd (Hf f)
     .exact Hf ⟨c,a,b,f⟩
  |false=>
   (have i:r.head.name≠x:=λe=>by rw[e]at hr;simp at hr);simp only[lJ,if_false];constructor
   .rintro (h|⟨c,a,b⟩)
    .exact Hd h
    .exact Hf ⟨c,by simp[a],b⟩
   .rintro (h|⟨c,a,b,f⟩)
    .exact Hd h
    .rcases lI.1 a with rfl|a
     .exact absurd b i
     .exact Hf ⟨c,a,b,f⟩
def Qj{d:QC A7}{c:A7}(e:c∈d){l:QC bC}:∀(b:QC Be) (a:QC bC),(∀q∈b,q∈c.bl)->Fb d l a->Fb d l (b.foldl be a)
 |[],a,_,h=>h
 |q::b,a,hs,h=>by
  rw[mr];exact Qj e b _ (λf g=>hs f (by simp[g])) (h.be e (hs q (by simp)))
def Ri{d:QC A7}{l:QC bC}(x:bC):∀(a:QC A7) (b:QC bC),(∀c∈a,c∈d)->Fb d l b->Fb d l (NK a b x)
 |[],b,_,h=>h
 |c::a,b,hs,h=>by
  unfold NK;rw[mr];refine Ri x a _ (λg f=>hs g (by simp[f])) ?_;unfold N3;split
  .exact Qj (hs c (by simp)) c.bl _ (λq e=>e) h
  .exact h
def Ra{a:QC A7}{t g:bC}:∀(f:Nat) (l:QC bC) (n:Nat),2+Z (Ec a)<=f+n->Bd a l->n<=Z l->(∀i (h:i<Z l),i<n->l[i]≠g)->
  (∀i (h:i<Z l),i<n->∀r∈a,r.head.name=l[i]->∀y∈(r.bl.filter Nf).map (λq=>q.1.A.name),y∈l)->t∈l->(∀y∈l,Sv a t y)->(Kv f a g l n=Cm↔Sv a t g)
 |0,l,n,hf,hb,hn,_,_,_,_=>by
  unfold Bd at hb;omega
 |f+1,l,n,hf,hb,hn,hno,hcl,hfr,hso=>by
  rw[Kv];by_cases m:n<Z l
  .rw[dif_pos m];cases he:(l[n].toList==g.toList)with
   |true=>
    have:=J4 he;simp only[if_true,true_iff];rw[<-this];exact hso _ (lE m)
   |false=>
    simp only[lJ,if_false];have o:Fb a l (NK a l l[n]):=Ri l[n] a l (λc E=>E) ⟨⟨[],by simp⟩,hb⟩;(have x:l[n]≠g:=λe=>by rw[e]at he;simp at he);have F:=o.len.1;refine Ra f (NK a l l[n]) (n+1) (by omega) o.bd (by omega) ?_ ?_ ((Lz _ _ _ _).2 (Hd hfr)) ?_
    .intro i k u;obtain⟨_,e⟩:=o.at (show i<Z l by omega);rw[e];rcases oQ (show i<=n by omega)with b|b
     .exact hno i (by omega) b
     .subst b;exact x
    .intro i k u r j d y s;obtain⟨_,e⟩:=o.at (show i<Z l by omega);rw[e]at d;rw[Lz];rcases oQ (show i<=n by omega)with b|b
     .exact Hd (hcl i (by omega) b r j d y s)
     .subst b;exact Hf ⟨r,j,d,s⟩
    .intro y s;rcases(Lz _ _ _ _).1 s with b|⟨r,j,d,B⟩
     .exact hso y b
     .intro S D v;have w:=hso _ (lE m) S D v;rw[<-d]at w;exact v r j w y (by unfold Hr;exact my _ B)
  .rw[dif_neg m];simp only[lJ,false_iff];intro C;have u:g∈l:=C (λz=>z∈l) hfr (λr j d z p=>by
    obtain⟨i,k,e⟩:=mw d
    unfold Hr at p
    rcases lI.1 p with rfl|p
    .exact d
    .exact hcl i k (by omega) r j e.symm z p)
   obtain⟨i,k,e⟩:=mw u;exact hno i k (by omega) e
def Mv(b:QC A7)(a c:bC):Ht b a c=Cm↔Sv b a c:=by
 unfold Ht;refine Ra _ [a] 0 (by omega) ?_ (by simp) (λi h f=>by omega) (λi h f=>by omega) (by simp) (λy d S e _=>by simp at d;subst d;exact e);unfold Bd Qw;have:=pR (p:=λx=> !Ew [a] x) (l:=Ec b);simp only[lQ,mn];omega
structure G7(l:PL):Prop where
 some:Bl l=Cm->0<Z l.ts
 le:Z l.ts<=151
 plain:Bl l=K->l.ts=[]
 bare:Bl l=Cm->l.l=AK/\l.r=AK
def Ql{c:QC Bf}:∀(k a:Nat) (d:QC AY) {b:QC AY} {n:Nat},Z c-a<=k->GP c a d=.ok (b,n)->0<Z b/\Z b<=Z d+(Z c-a+1)/2
 |k,a,d,b,n,hk,h=>by
  unfold GP at h;split at h
  .rename_i e;split at h
   .cases h
   .split at h
    .match k with
     |0=>omega
     |k+1=>
      have:=Ql k (a+2) _ (by omega) h;simp only[lU,lQ,mn]at this;omega
    .split at h
     .simp only[mX,mA]at h;rw[<-h.1];simp only[lU,lQ,mn];omega
     .cases h
  .cases h
def ML{b:QC Bf}(d:Z b<=301){a:QC AY}(h:Fv b m=.ok ((k,s,a),n)):0<Z a/\Z a<=151:=by
 unfold Fv at h;split at h
 .split at h
  .split at h
   .cases h
   .rename_i c;simp only[mX,mA]at h;have:=Ql _ _ _ (lX _) c;rw[<-h.1.2.2];simp only[mn]at this;omega
  .cases h
 .cases h
def bF{g:QC Bf}(j:Z g<=301){l:dE}(h:ID g m=.ok (l,n)):G7 (Ku l):=by
 unfold ID at h;split at h
 .split at h
  .cases h
  .rename_i a k b;obtain⟨p,s,o⟩:=a;have:=ML j b;simp only[mX,mA]at h;rw[<-h.1];exact⟨λ_=>this.1,this.2,λf=>by simp[Ku,Bl]at f,λ_=>⟨rfl,rfl⟩⟩
 .split at h
  .split at h
   .cases h
   .rename_i a k b;obtain⟨p,s,o⟩:=a;have:=ML j b;simp only[mX,mA]at h;rw[<-h.1];exact⟨λ_=>this.1,this.2,λf=>by simp[Ku,Bl]at f,λ_=>⟨rfl,rfl⟩⟩
  .split at h
   .cases h
   .rename_i c k b;simp only[mX,mA]at h;rw[<-h.1];have d:c.sort=2\/c.sort=3\/c.sort=4:=by
     unfold Iz at b;split at b
     .cases b
     .split at b
      .cases b
      .rename_i q d;split at b
       .cases b
       .simp only[mX,mA]at b;rw[<-b.1];unfold Od at d;split at d
        .simp only[lL]at d;exact Hd d.symm
        .split at d
         .simp only[lL]at d;exact Hf (Hd d.symm)
         .split at d
          .simp only[lL]at d;exact Hf (Hf d.symm)
          .cases d
    have i:Bl (Ku (.inr c))=Cm->False:=λf=>by
     unfold Bl Ku at f;simp only at f;rcases d with e|e|e<;>simp[e]at f
    exact⟨λf=>(i f).elim,by simp[Ku],λ_=>rfl,λf=>(i f).elim⟩
def MJ{a:QC Bf}(g:Z a<=301):∀(k b:Nat) (d:QC PL) {e:QC PL} {n:Nat},Z a-b<=k->(∀l∈d,G7 l)->Fd a b d=.ok (e,n)->(∀l∈e,G7 l)/\Z e<=Z d+(Z a-b+1)/2
 |k,b,d,e,n,hk,ha,h=>by
  by_cases f:b<Z a
  .cases hl:ID a b with
   |error p=>rw[IP f hl]at h;cases h
   |ok r=>
    obtain⟨l,j⟩:=r;have o:=Jt hl;have m:=bF g hl;have i:∀x∈d++[Ku l],G7 x:=by
     intro x c;rcases lV.1 c with c|c
     .exact ha x c
     .simp only[lG]at c;subst c;exact m
    rw[Oc f hl]at h;split at h
    .match k with
     |0=>omega
     |k+1=>
      have:=MJ g k (j+1) _ (by omega) i h;simp only[lU,lQ,mn]at this;exact⟨this.1,by omega⟩
    .simp only[mX,mA]at h;rw[<-h.1];refine⟨i,?_⟩;simp only[lU,lQ,mn];omega
  .unfold Fd at h;rw[dif_neg f]at h;cases h
structure KE(c:PC):Prop where
 head:0<Z c.dx/\Z c.dx<=151
 body:Z c.body<=151
 lits:∀l∈c.body,G7 l
def ZX{b:QC Bf}{c a:PC}(h:Ov b n c=.ok (a,m)):a=c:=by
 unfold Ov at h;split at h
 .simp only[mX,mA]at h;exact h.1.symm
 .cases h
def UV{a:QC Bf}(b:Z a<=301){c:PC}(h:CO a m=.ok (c,n)):KE c:=by
 unfold CO at h;split at h
 .cases h
 .rename_i p s i j g;have e:=ML b g;split at h
  .cases h
  .split at h
   .split at h
    .cases h
    .rename_i l k f;have d:=MJ b _ _ _ (lX _) (by simp) f;rw[ZX h];simp only[mn]at d;exact⟨e,by simp only;omega,d.1⟩
   .rw[ZX h];exact⟨e,by simp,by simp⟩
def J9{a:QC Bf}(i:Z a<=301):∀(k b:Nat) (e:QC PC) {g:QC PC},Z a-b<=k->(∀c∈e,KE c)->Dl a b e=.ok g->(∀c∈g,KE c)/\Z g<=Z e+(Z a-b)
 |k,b,e,g,hk,ha,h=>by
  by_cases f:b<Z a
  .cases he:((Au a b).kind==1)with
   |true=>
    rw[OT f he]at h;simp only[mX]at h;rw[<-h];exact⟨ha,by omega⟩
   |false=>
    cases hc:CO a b with
    |error p=>rw[Lb f he hc]at h;cases h
    |ok r=>
     obtain⟨c,n⟩:=r;have l:=Hb hc;rw[Sb f he hc]at h;have j:∀x∈e++[c],KE x:=by
      intro x d;rcases lV.1 d with d|d
      .exact ha x d
      .simp only[lG]at d;subst d;exact UV i hc
     match k with
     |0=>omega
     |k+1=>
      have:=J9 i k n _ (by omega) j h;simp only[lU,lQ,mn]at this;exact⟨this.1,by omega⟩
  .unfold Dl at h;rw[dif_neg f]at h;cases h
def Q7{α β:Type}(f:α->QC β)(N:Nat):∀l:QC α,(∀a∈l,Z (f a)<=N)->Z (l.flatMap f)<=Z l*N
 |[],_=>by simp
 |a::l,h=>by
  have c:=Q7 f N l (λx b=>h x (by simp[b]));have d:=h a (by simp);rw[mc,lU,lQ,nR];omega
def RH{c:DF}(h:KE c.pc):kF c/\Z (Co c)<=152:=by
 have d:Z c.bm<=151:=by have:=h.body;simpa[DF.pc] using this
 have b:∀p∈c.bm,G7 p.1:=λp a=>h.lits p.1 (by simp only[DF.pc];exact lP.2 ⟨p,a,rfl⟩)
 have e:0<Z c.dx/\Z c.dx<=151:=h.head;refine⟨⟨⟨⟨e.1,by omega⟩,by omega,λp a=>⟨(b p a).some,by have:=(b p a).le;omega⟩⟩,?_⟩,?_⟩
 .have f:Z (A5 c.bm)<=Z c.bm*151:=Q7 _ 151 _ (λp a=>by
   unfold AU
   split
   .exact(b p a).le
   .simp)
  have:Z c.bm*151<=151*151:=mF _ d;unfold BF;rw[lU];omega
 .unfold Co Gz;have:=nr (λp=>Bl p.1) c.bm;simp only[lQ,lR];omega
def Pp{a:QC A7}:∀(l:QC A7) (i:Nat),EL a i l=Y->∀k (h:k<Z l),Cq a (i+k) l[k]=Y
 |[],i,_,k,h=>by simp at h
 |c::l,i,h,k,hk=>by
  rw[EL]at h;cases hc:Cq a i c with
  |some r=>rw[hc]at h;simp at h
  |none=>
   rw[hc]at h;simp only at h;cases k with
   |zero=>exact hc
   |succ k=>
    have:=Pp l (i+1) h k (by simpa using hk);rw[show i+(k+1)=i+1+k by omega];simpa using this
structure Ds(cs:QC A7):Prop where
 each:∀k (h:k<Z cs),Cq cs k cs[k]=Y
 strata:cs.findSome? (DQ cs)=Y
def Uo{b:QC A7}(h:CK b=(0,0)):Ds b:=by
 unfold CK at h;cases h1:EL b 0 b with
 |some r=>
  rw[h1]at h;simp only at h;have:∀(l:QC A7) (i:Nat) (r:Int×Int),EL b i l=V r->r.1≠0:=by
   intro l
   induction l with
   |nil=>intro i r d;simp[EL]at d
   |cons c l ih=>
    intro i r d;rw[EL]at d;cases a:Cq b i c with
    |some q=>
     rw[a]at d;simp only[lL]at d;subst d;unfold Cq at a
     repeat (first
      |(split at a)
      |(simp only[lL]at a;subst a;simp)
      |(cases a))
    |none=>
     rw[a]at d;exact ih (i+1) r d
  exact absurd (by rw[h]) (this b 0 r h1)
 |none=>
  rw[h1]at h;simp only at h;refine⟨λk f=>by have:=Pp b 0 h1 k f;simpa using this,?_⟩;cases h2:b.findSome? (DQ b)with
  |none=>rfl
  |some r=>
   rw[h2]at h;simp only at h;obtain⟨c,_,a⟩:=List.exists_of_findSome?_eq_some h2;unfold DQ at a;rw[oO]at a;obtain⟨p,_,e⟩:=a;rw[h]at e;simp at e
def Ee{a:QC A7}{c:A7}(h:Cq a i c=Y):Z c.bl<=3/\Z c.head.args<=2/\c.bl.any BI=K/\Z (C2 (a.take (i+1)))<=6/\Z (D9 (a.take (i+1)))<=6/\BU a c.head.name=(Z c.head.args:Int)/\c.bl.find? (BN a)=Y/\DN c.head c.bl<0:=by
 unfold Cq at h;by_cases d:12<=i\/3<Z c.bl
 .rw[lS d]at h;cases h
 rw[lO d]at h;by_cases g:2<Z c.head.args
 .rw[lS g]at h;cases h
 rw[lO g]at h;by_cases f:c.bl.any BI=Cm
 .rw[lS f]at h;cases h
 rw[lO f]at h;by_cases b:6<Z (C2 (a.take (i+1)))\/6<Z (D9 (a.take (i+1)))
 .rw[lS b]at h;cases h
 rw[lO b]at h;by_cases e:BU a c.head.name≠(Z c.head.args:Int)
 .rw[lS e]at h;cases h
 rw[lO e]at h;cases h6:c.bl.find? (BN a)with
 |some p=>rw[h6]at h;cases h
 |none=>
  rw[h6]at h;simp only at h;by_cases j:0<=DN c.head c.bl
  .rw[lS j]at h;cases h
  .simp only[not_or]at d b;exact⟨by omega,by omega,by simpa using f,by omega,by omega,by simpa using e,rfl,by omega⟩
def OI{b:C8}{a:QC Be}(h:DN b a<0):(∀t∈b.args,CR a t=K)/\∀p∈a,∀t∈AE p,CR a t=K:=by
 unfold DN at h;cases h1:b.args.any (CR a)with
 |true=>rw[h1,lS rfl]at h;omega
 |false=>
  rw[h1,lO (by simp)]at h;cases h2:a.find? (IK a)with
  |some p=>rw[h2]at h;simp only at h;omega
  |none=>
   refine⟨λt c=>?_,λp e t c=>?_⟩
   .have:=(ng.1 h1) t c;simpa using this
   .have d:=(nB.1 h2) p e;unfold IK at d;(have f:(AE p).any (CR a)=K:=by simpa using d);have:=(ng.1 f) t c;simpa using this
def GK{c:A7}{t:AF}(h:CR c.bl t=K):F5 (Am c) t:=by
 unfold CR at h;rw[Bool.not_eq_false',ni]at h;rcases h with h|h
 .exact Hd (by simpa using h)
 .right;unfold Ky at h;rw[mZ]at h;obtain⟨p,b,a⟩:=h;unfold KC at a;rw[mi]at a;unfold SG at a;rw[mZ]at a;obtain⟨d,u,e,f⟩:=a;exact⟨p.1,lZ b,d,u,e,by simpa using f⟩
def Ds.cI{b:QC A7}(h:Ds b)(i:∀c∈b,∀x∈Am c,(x.kind==97)=Cm->∀t∈x.A.args,Bs t):Ro b:=by
 have j:∀c∈b,DN c.head c.bl<0:=by
  intro c a;obtain⟨k,g,rfl⟩:=mw a;exact(Ee (h.each k g)).2.2.2.2.2.2.2
 refine⟨i,λc a x m g=>?_,λc a t i=>GK ((OI (j c a)).1 t i)⟩;obtain⟨p,l,rfl⟩:=lP.1 m;have d:=(OI (j c a)).2 p l;refine⟨λf t o=>?_,λf=>?_⟩
 .refine GK (d t ?_);unfold AE Nf;rw[f,pG,lS rfl];exact o
 .have n:Nf p=K:=by unfold Nf;rw[g,f];rfl
  have e:AE p=[p.1.L,p.1.R]:=by unfold AE;rw[n];rfl
  rw[e]at d;exact⟨GK (d _ (by simp)),GK (d _ (by simp))⟩
def Ds.strat{j:QC A7}(h:Ds j):dq j:=by
 rintro x y ⟨c,A,B,l,f,s,e⟩ n;have a:(l.kind==33)=Cm:=by
  rcases e with⟨_,e⟩|⟨a,_⟩
  .cases e
  .exact a
 obtain⟨p,m,rfl⟩:=lP.1 f;have i:=(po.1 h.strata) c A;unfold DQ at i;rw[Option.map_eq_none_iff,nB]at i;have g:=i p m;unfold Ff at g;rw[a,np]at g;apply g;rw[Mv,s,B];intro S t w;refine n S t (λu v b r z=>?_);obtain⟨d,k,rfl,l,f,rfl,e⟩:=r;obtain⟨q,o,rfl⟩:=lP.1 f;refine w d k z _ ?_;unfold Hr;refine my _ (lP.2 ⟨q,mh.2 ⟨o,?_⟩,rfl⟩);unfold Nf;rcases e with⟨a,_⟩|⟨a,_⟩
 .rw[a];rfl
 .rw[a,pG]
def Ds.levels{a:QC A7}(h:Ds a):CX a (Cf a 6):=by
 by_cases e:Z a=0
 .have:a=[]:=oZ e;subst this;exact⟨λc b=>by simp at b,λc b=>by simp at b⟩
 .have d:=(Ee (h.each (Z a-1) (by omega))).2.2.2.1;rw[show Z a-1+1=Z a by omega,nM]at d;refine gM h.strat (C2 a) (λc b=>?_) d;rw[Nb,(EF _).2];exact mD.2 ⟨c,b,by unfold Hr;simp⟩
