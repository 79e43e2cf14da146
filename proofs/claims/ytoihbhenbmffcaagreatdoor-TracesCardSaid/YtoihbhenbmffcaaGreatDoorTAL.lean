import Derived.Test.YtoihbhenbmffcaaGreatDoorTAJ
import Derived.Test.YtoihbhenbmffcaaGreatDoorTAC
set_option linter.all false
set_option maxHeartbeats 0
open List renaming length->Z,toArray->j2
open Option renaming none->Y,some->V
open Go.Value renaming slice->U,int->X,string->O,agg->oj,bool->q8,ownBlock->qX
open Bool renaming false->K,true->jj
open Go.IntKind renaming i64->J,i32->q7
open Go.Obj renaming cells->j1
open Go.Ending renaming returned->kt
open Or renaming inl->lo,inr->lx
open Go renaming World->ly,Value->ml
open Go.RowKit renaming Hid->nc
open Go.World renaming cell?->oa,ownsRow->oi
namespace Go.Proofs.YtoihbhenbmffcaaGreatDoor
open Go.RowKit Go.Proofs.Tryz
variable{w v u:ly}{m n k i j b:Nat}{y:rc ml}{T:TypeId}{z:ml}{o:Option Addr}{p:rc CU}{s t:zA}{M:rc Nat}{I:Int}{c:rc AV}
def Bm(l:PL):Bool:=l.sort==0||l.sort==1
def AS(l:PL):rc AZ:=if Bm l then l.ts else[l.l,l.r]
theorem Qa(l:PL)(p:Option Addr)(n o:Nat)(w:ly):
  Calls prog 135 #[oj (j2 (Ay (l,U p n o)))] w λe q=>e=kt (q8 (Bm l))/\Ac [] w q:=by
 have j:=(re [] w).alloc (j1 (j2 (Ay (l,U p n o))) 217);obtain⟨i,a,m,c,d,f,g⟩:=l;have r:nc (∀b,Bm ⟨i,a,m,c,d,f,g⟩=b->(a==0||a==1)=b):=λb h=>h
 simp only[Ay]at j⊢;go_enter func135,ntmps135;cases h0:(a==0)with
 |true=>
  have k:nc (Bm ⟨i,a,m,c,d,f,g⟩=jj):=by show _=_;unfold Bm;simp only;rw[h0];rfl
  go_wp2;go_ret;rw[k.out];exact⟨rfl,j⟩
 |false=>
  have k:nc (Bm ⟨i,a,m,c,d,f,g⟩=(a==1)):=by show _=_;unfold Bm;simp only;rw[h0];rfl
  go_wp2;go_ret;rw[k.out];exact⟨rfl,j⟩
def cE(h:AI w m y T)(a:Z y=n*k)(b:n<=maxLen):oi w 0 T k (U (V ⟨m,0,Y⟩) n n) n y:=by
 refine⟨a,lx ⟨m,n,j2 y,rfl,mO _,h,mP _,b,by simpa using a,?_⟩⟩;rw[<-a];simp
theorem NR(l:PL)(c:Option Addr)(d:Nat)(w:ly)(h:LP w 0 (l,U c (Z l.ts) d)):
  Calls prog 137 #[oj (j2 (Ay (l,U c (Z l.ts) d)))] w λe p=>∃z A,e=kt (U z (Z (AS l)) A)/\oi p 0 215 2 (U z (Z (AS l)) A) (Z (AS l)) ((AS l).flatMap Ar)/\Ac [] w p:=by
 have j:=Ab ((re [] w).alloc (j1 (j2 (Ay (l,U c (Z l.ts) d))) 217));have o:=Ab (rf w (Ay (l,U c (Z l.ts) d)) 217);have r:=Ab (Ad h j);have t:nc (∀w,Calls prog 135 #[oj (j2 (Ay (l,U c (Z l.ts) d)))] w λe p=>e=kt (q8 (Bm l))/\Ac [] w p):=λw=>Qa l c (Z l.ts) d w
 clear h;obtain⟨k,i,n,m,f,a,b⟩:=l;simp only[Ay]at j o r t⊢;go_enter func137,ntmps137;go_wp2_with fail
 change Calls _ _ _ (w.alloc (j1 [X J k,X J i,X J n,O m,U c (Z f) d,X q7 a.v,O a.s,X q7 b.v,O b.s].toArray 217)) _;generalize w.alloc (j1 [X J k,X J i,X J n,O m,U c (Z f) d,X q7 a.v,O a.s,X q7 b.v,O b.s].toArray 217)=w1 at j o r⊢;generalize w.heap.size=N at o⊢;refine(t w1).mono ?_;rintro e u ⟨rfl,q⟩;have g:=o.kept q;have y:=Ab (j.trans q);have F:=Ab (Ad r q);have H:=g.cell 4;have E:=g.cell 5;have G:=g.cell 6;have C:=g.cell 7;have B:=g.cell 8;simp at H E G C B;clear g o r j q t;cases hh:Bm ⟨k,i,n,m,f,a,b⟩with
 |true=>
  have x:nc (AS ⟨k,i,n,m,f,a,b⟩=f):=by show _=_;unfold AS;rw[hh];rfl
  clear hh;go_wp2;go_ret;rw[x.out];exact⟨c,d,rfl,F,y⟩
 |false=>
  have x:nc (AS ⟨k,i,n,m,f,a,b⟩=[a,b]):=by show _=_;unfold AS;rw[hh];rfl
  clear hh;have D:nc (oi (u.alloc (j1 [X q7 a.v,O a.s,X q7 b.v,O b.s].toArray 215)) 0 215 2 (U (V ⟨u.heap.size,0,Y⟩) 2 2) 2 [X q7 a.v,O a.s,X q7 b.v,O b.s]):=cE (rf u _ 215) rfl (by unfold maxLen;omega);go_wp2;go_ret;rw[x.out];exact⟨_,_,rfl,D,y.alloc _⟩
theorem Tryz.yG:(Tryz.prog.info? 187).map (λi=>(i.zero,i.size,i.bytes))=V (V (oj #[X J 0,O ⟨#[]⟩,U Y 0 0]),3,48):=by kernel_rfl
def Vs(p:Mk):Z (Ay p)=9:=rfl
def Ve(p:Ij):Z (AW p)=3:=rfl
def Vv(p:AZ):Z (Ar p)=2:=rfl
def J3{e:rc Mk}(h:Cf w n z e)(k:Nat)(a:k<Z e):
  ∃g p l d f,z=U (V ⟨g,0,Y⟩) (Z e) p/\e[k]=(l,U d (Z l.ts) f)/\LP w n (l,U d (Z l.ts) f)/\
   oa w ⟨g,k*9,Y⟩=V (X J l.place)/\oa w ⟨g,k*9+1,Y⟩=V (X J l.sort)/\oa w ⟨g,k*9+2,Y⟩=V (X J l.ap)/\oa w ⟨g,k*9+3,Y⟩=V (O l.an)/\oa w ⟨g,k*9+4,Y⟩=V (U d (Z l.ts) f)/\
   oa w ⟨g,k*9+5,Y⟩=V (X q7 l.l.v)/\oa w ⟨g,k*9+6,Y⟩=V (O l.l.s)/\oa w ⟨g,k*9+7,Y⟩=V (X q7 l.r.v)/\oa w ⟨g,k*9+8,Y⟩=V (O l.r.s):=by
 obtain⟨g,p,E,_,b⟩:=AC h.row (λc _=>Vs c) k a;have x:=(h.each _ (mw a)).1;obtain⟨d,f,m⟩:=Al x;have u:=b k a 0 (by omega);have o:=b k a 1 (by omega);have i:=b k a 2 (by omega);have j:=b k a 3 (by omega);have B:=b k a 4 (by omega);have y:=b k a 5 (by omega);have t:=b k a 6 (by omega);have q:=b k a 7 (by omega);have A:=b k a 8 (by omega);obtain⟨l,C,D⟩:∃l C,e[k]=(l,C):=⟨_,_,rfl⟩;rw[D]at u o i j B y t q A x m;simp only at m;subst m;simp[Ay]at u o i j B y t q A;exact⟨g,p,l,d,f,E,D,x,u,o,i,j,B,y,t,q,A⟩
def AU(zD:rc Mk):rc Ij:=(zD.filter λp=>Bm p.1).map λp=>⟨p.1.ap,p.1.an,p.2⟩
def BG(c:CU):rc Ij:=⟨c.hp,c.hn,c.hv⟩::AU c.zD
def QS{a:rc Mk}(b:k<Z a):AU (a.take (k+1))=AU (a.take k)++(if Bm a[k].1 then[⟨a[k].1.ap,a[k].1.an,a[k].2⟩] else[]):=by
 unfold AU;rw[mx b,oW,nk]
 congr 1
 by_cases h:Bm a[k].1=jj<;>simp[h]
def EB(a:rc Mk):Z (AU a)<=Z a:=by
 unfold AU;rw[mI];exact oo _ _
set_option maxRecDepth 100000
theorem Nb(D:Option Addr)(P:Nat)(a:rc Mk)(w:ly)(h:Cf w 0 (U D (Z a) P) a)(FC:Z a<=1000):
  Calls prog 92 #[U D (Z a) P] w λe B=>∃f j,e=kt (U f (Z (AU a)) j)/\oi B w.heap.size 187 3 (U f (Z (AU a)) j) (Z (AU a)) ((AU a).flatMap AW)/\Ac [] w B:=by
 obtain⟨i0,EY,W,AT,B0⟩:=nC Tryz.yG;have HB:=Ab h;clear h;go_enter func92,ntmps92;go_wp2
 go_loopg [3,8] (Z a) (λgk o i wr=>∃(k:Nat) (b:rc Ij) (f:Option Addr) (j:Nat),o=U f (Z b) j/\i=X J k/\k<=Z a/\Z b<=k/\gk=Z a-k/\nc (b=AU (a.take k))/\oi wr w.heap.size 187 3 (U f (Z b) j) (Z b) (b.flatMap AW)/\nc (Ac [] w wr))
 case atStart=>exact⟨0,[],Y,0,rfl,rfl,by omega,by simp,rfl,by show _=_;simp[AU],mS _ _ _ _,re _ _⟩
 case round=>
  obtain⟨k,b,f,j,rfl,rfl,G,FF,I,q,v,p⟩:=hrel;have H:=Ab I;clear I;by_cases A:k<Z a
  .have Q:=HB.kept p;have FO:=p.size;obtain⟨g,FB,l,c,d,E,N,B2,d0,d1,S,T,d4,d5,d6,d7,d8⟩:=J3 Q k A;simp only[mu]at E;obtain⟨rfl,_,rfl⟩:=E;have s:=Ab (QS A);rw[N]at s;clear Q B2 N;have z:=Ab (Qa l c (Z l.ts) d (wr.alloc (j1 (j2 (Ay (l,U c (Z l.ts) d))) 217)));simp only[Ay]at z;have R:=Ab (rf wr (Ay (l,U c (Z l.ts) d)) 217);have C:=Ab (p.alloc (j1 (j2 (Ay (l,U c (Z l.ts) d))) 217));have F:=Ab (mE v (j1 (j2 (Ay (l,U c (Z l.ts) d))) 217));(go_wp2_with fail);refine z.mono ?_;rintro e m ⟨rfl,n⟩;have u:=R.kept n;have M:=Ab (C.trans n);have x:=Ad F n;have L:=n.size;(have FA:wr.heap.size+1<=m.heap.size:=by simpa using L);have c2:=u.cell 2;have c3:=u.cell 3;have c4:=u.cell 4;simp[Ay]at c2 c3 c4;clear u n R C F z d0 d1 S T d4 d5 d6 d7 d8 v p L;cases hh:Bm l with
   |false=>
    (have y:nc (b=AU (a.take (k+1))):=by show _=_;rw[Aa s,hh,Aa q];simp);clear hh q s;go_wp2
    go_roundg (Z a-(k+1))
    case measure=>have:=Aa H;omega
    case rel=>exact⟨k+1,b,f,j,rfl,by go_num,by omega,by omega,rfl,y,x,M⟩
   |true=>
    (have y:nc (b++[⟨l.ap,l.an,U c (Z l.ts) d⟩]=AU (a.take (k+1))):=by show _=_;rw[Aa s,hh,Aa q];simp);clear hh q s;have Bx:=m7 m (j1 (j2 (AW ⟨l.ap,l.an,U c (Z l.ts) d⟩)) 187);have EK:=mE x (j1 (j2 (AW ⟨l.ap,l.an,U c (Z l.ts) d⟩)) 187);(have HF:nc (∀r,(m.alloc (j1 (j2 (AW ⟨l.ap,l.an,U c (Z l.ts) d⟩)) 187)).grownBy r (U f (Z b) j).ownBlock->Ac [] w r):=λr hg=>(M.alloc _).grown hg (λk G=>lx ((x.lt k G).1)));go_wp2_with (at_builtin;refine mZ _ rfl (.tmp 14) (.tmp 17) _ rfl w.heap.size 187 i0 _ 3 48 underlying163 EY W AT B0 rfl (by omega) (U f (Z b) j) (Z b) (b.flatMap AW) rfl EK ⟨m.heap.size,0,Y⟩ 1 1 (AW ⟨l.ap,l.an,U c (Z l.ts) d⟩) rfl rfl (mW (cs:=j2 (AW ⟨l.ap,l.an,U c (Z l.ts) d⟩)) (t:=187) (fr:=(0,0)) Bx) (by simp[Value.oneCell',AW]) (by omega) (by unfold maxLen;omega) (by omega) (by simp;omega) (m.heap.size+1) (by simp) ?_;intro g1 AH r CC A2 E0 FL)
    go_roundg (Z a-(k+1))
    case measure=>have:=Aa H;omega
    case rel=>exact⟨k+1,b++[⟨l.ap,l.an,U c (Z l.ts) d⟩],V ⟨g1,0,Y⟩,AH,by simp,by go_num,by omega,by simp;omega,rfl,y,by simpa using CC,HF r A2⟩
  .have HE:nc (b=AU a):=by
    have h:=Aa q;rw[mz (by omega)]at h;exact h
   go_wp2;go_ret;rw[<-HE.out];exact⟨f,j,rfl,v,p⟩
def ci(w:ly)(g:Nat)(b:rc Mk)(v:ml)(h:Cf w g v b):∀u∈(AU b).flatMap AW,u.oneCell'=jj:=by
 intro u f;obtain⟨t,d,a⟩:=m6.1 f;obtain⟨p,c,rfl⟩:=mD.1 d;obtain⟨j,i,e⟩:=Al (h.each p (mT.1 c).1).1;simp only[AW,mA,nI,or_false]at a;rcases a with rfl|rfl|rfl
 .rfl
 .rfl
 .rw[e];rfl
theorem Mz(c:CU)(w:ly)(h:JY w 0 c.hv c.bv c.zE c.zD)(W:Z c.zD<=1000):
  Calls prog 119 #[oj (j2 (Bc c))] w λe t=>∃v z,e=kt (U v (Z (BG c)) z)/\oi t w.heap.size 187 3 (U v (Z (BG c)) z) (Z (BG c)) ((BG c).flatMap AW)/\Ac [] w t:=by
 obtain⟨i0,S,M,T,Ax⟩:=nC Tryz.yG;obtain⟨f,i,b,hv,bv,a⟩:=c;simp only at h W;obtain⟨g,d,rfl⟩:=Al h.head;obtain⟨l,m,rfl⟩:=Al h.body.row;have Q:nc (∀wr,Ac [] w wr->Calls prog 92 #[U l (Z a) m] wr λe t=>∃v z,e=kt (U v (Z (AU a)) z)/\oi t wr.heap.size 187 3 (U v (Z (AU a)) z) (Z (AU a)) ((AU a).flatMap AW)/\Ac [] wr t):=λwr p=>Nb l m a wr (h.body.kept p) W
 have E:=Ab (ci w 0 a _ h.body);have Bx:=EB a;have A:nc (BG ⟨f,i,b,U g (Z b) d,U l (Z a) m,a⟩=[⟨f,i,U g (Z b) d⟩]++AU a):=rfl;generalize BG ⟨f,i,b,U g (Z b) d,U l (Z a) m,a⟩=AT at A⊢;generalize AU a=BA at Q E Bx A;clear h;simp only[Bc];have q:=Ab (rf w [X J f,O i,U g (Z b) d,U l (Z a) m] 189);have x:=Ab ((re [] w).alloc (j1 [X J f,O i,U g (Z b) d,U l (Z a) m].toArray 189));go_enter func119,ntmps119;go_wp2_with fail
 change Code.wp _ _ _ _ (w.alloc (j1 [X J f,O i,U g (Z b) d,U l (Z a) m].toArray 189));have F:(w.alloc (j1 [X J f,O i,U g (Z b) d,U l (Z a) m].toArray 189)).heap.size=w.heap.size+1:=by simp
 generalize w.alloc (j1 [X J f,O i,U g (Z b) d,U l (Z a) m].toArray 189)=w1 at q x F⊢;obtain⟨N,C⟩:=rd w.heap.size;rw[C]at q F⊢;have c0:=q.cell 0;have c1:=q.cell 1;have c2:=q.cell 2;have c3:=q.cell 3;simp at c0 c1 c2 c3;have H:=Ab C;have G:Z AT=1+Z BA:=by rw[Aa A];simp;omega
 have A1:nc (∀(r:ly) (o:Option Addr) (n:Nat),oi r N 187 3 (U o (1+Z BA) n) (1+Z BA) (AW ⟨f,i,U g (Z b) d⟩++BA.flatMap AW)->oi r N 187 3 (U o (Z AT) n) (Z AT) (AT.flatMap AW)):=by
  intro r o n ho;rw[G,Aa A,mY];simpa using ho
 have P:=Ab G;have DT:nc (oi (w1.drew.alloc (j1 (j2 (AW ⟨f,i,U g (Z b) d⟩)) 187)) N 187 3 (U (V ⟨N+1,0,Y⟩) 1 1) 1 (AW ⟨f,i,U g (Z b) d⟩)):=by
  have hh:=rf w1.drew (AW ⟨f,i,U g (Z b) d⟩) 187;rw[show w1.drew.heap.size=N+1 from F]at hh
  exact⟨rfl,lx ⟨N+1,1,_,rfl,by omega,hh,mP _,by unfold maxLen;omega,rfl,rfl⟩⟩
 have CL:nc (∀j:ly,N<=j.heap.size->oi (j.alloc (j1 (j2 (AW ⟨f,i,U g (Z b) d⟩)) 187)) N 187 3 (U (V ⟨j.heap.size,0,Y⟩) 1 1) 1 (AW ⟨f,i,U g (Z b) d⟩)):=λj p=>⟨rfl,lx ⟨j.heap.size,1,_,rfl,p,rf j _ 187,mP _,by unfold maxLen;omega,rfl,rfl⟩⟩
 clear C G
 go_region_law
  (first
   |(
     go_simp;go_at_call 92;refine(Q _ (by first|exact x.drew|exact(x.drew).alloc _)).mono ?_;rintro e j ⟨AH,AR,rfl,A0,u⟩;
     have R:=u.size;
     first
      |(have BS:=Ad DT u;have D:=(x.drew.alloc _).trans u;have B2:N+2<=j.heap.size:=by simp at R;omega)
      |(have I:=q.drew.kept u;have e0:=I.cell 0;have e1:=I.cell 1;have e2:=I.cell 2;simp at e0 e1 e2;have D:=x.drew.trans u;have B2:N+1<=j.heap.size:=by simp at R;omega))
   |(refine KB _ (by rfl) _ _ _ (by rfl) N 187 i0 _ 3 48 underlying163 S M T Ax rfl (by omega) (V ⟨N+1,0,Y⟩) 1 1 (AW ⟨f,i,U g (Z b) d⟩) (by rfl) BS _ AH (Z BA) AR (BA.flatMap AW) (by rfl) A0 E (by unfold maxLen;omega) (by omega) (by omega) ?_;intro o n r s y L;have B:=Ab (And.intro (A1 r o n s) (D.grown y (λk p=>lx (by simp[qX]at p;have:=Aa H;omega))));clear s y L)
   |(refine KB _ (by rfl) _ _ _ (by rfl) N 187 i0 _ 3 48 underlying163 S M T Ax rfl (by omega) (V ⟨j.heap.size,0,Y⟩) 1 1 (AW ⟨f,i,U g (Z b) d⟩) (by rfl) (CL j (by omega)) _ AH (Z BA) AR (BA.flatMap AW) (by rfl) (mE A0 _) E (by unfold maxLen;omega) (by omega) (by simp;omega) ?_;intro o n r s y L;have B:=Ab (And.intro (A1 r o n s) ((D.alloc _).grown y (λk p=>lx (by simp[qX]at p;have:=Aa H;omega))));clear s y L))
 all_goals
  go_wp2;go_ret;rw[Aa H,Aa P];exact⟨o,n,rfl,by have h:=B.1;rw[Aa P]at h;exact h,B.2⟩
def A7(zD:rc Mk):rc AZ:=zD.flatMap λp=>AS p.1
def Bn(c:CU):rc AZ:=c.zE++A7 c.zD
def QW{a:rc Mk}(b:k<Z a):A7 (a.take (k+1))=A7 (a.take k)++AS a[k].1:=by
 unfold A7;rw[mx b,mY];simp
def Mf(a:rc AZ):∀u∈a.flatMap Ar,u.oneCell'=jj:=by
 intro u b;obtain⟨t,_,h⟩:=m6.1 b;simp[Ar]at h;rcases h with rfl|rfl<;>rfl
def bk(h:oi w m T k (U o n i) n y)(p:0<n):
  ∃g,o=V ⟨g,0,Y⟩/\Z y=n*k/\(∀j u,y[j]?=V u->oa w ((⟨g,0,Y⟩:Addr).add j)=V u)/\m<=g/\g<w.heap.size:=by
 rcases h.2 with⟨a,d⟩|⟨g,c,b,a,f,l⟩
 .omega
 .simp only[mu]at a;obtain⟨rfl,_,rfl⟩:=a;exact⟨g,rfl,h.1,h.cells rfl,(h.lt g rfl)⟩
structure Lo(c:CU):Prop where
 head:0<Z c.zE/\Z c.zE<=1000
 lits:Z c.zD<=1000
 each:∀p∈c.zD,(Bm p.1=jj->0<Z p.1.ts)/\Z p.1.ts<=1000
def Lo.zR{c:CU}(h:Lo c){p:Mk}(a:p∈c.zD):0<Z (AS p.1)/\Z (AS p.1)<=1000:=by
 have:=h.each p a;unfold AS;split
 .rename_i b;exact⟨this.1 b,this.2⟩
 .simp
set_option maxRecDepth 512
theorem dH(n:Nat)(w:ly)(r:0<n)(v:n<=2000000):
  Calls prog 228 #[U Y 0 0,X J n] w λe j=>∃g G,e=kt (U (V ⟨g,0,Y⟩) 0 G)/\oi j w.heap.size 215 2 (U (V ⟨g,0,Y⟩) 0 G) 0 []/\Ac [] w j:=by
 obtain⟨f,s,q,y,m⟩:=nC Tryz.zZ;have l:(Builtin.firstCells f.size 0 (U Y 0 0)).run prog w.drew=.ok (j2 ([]:rc ml)) w.drew:=run_firstCells_none w.drew f.size 0 0 0;have k:∀i,(Builtin.append_ #[185,3] i #[U Y 0 0,X J (n:Int)]).run prog w=
   .ok (U (V ⟨w.heap.size,0,Y⟩) n (grownCap w n 0 215)) (w.drew.alloc (j1 (j2 ([]:rc ml)++Builtin.zeroCells (oj #[X q7 0,O ⟨#[]⟩]:ml).cells n++Builtin.zeroCells (oj #[X q7 0,O ⟨#[]⟩]:ml).cells (grownCap w n 0 215-n)) 215)):=λi=>by
  have h:=Lib.run_append_grow_zeros w 185 3 i 215 f _ J J underlying185 underlying3 s q Y 0 0 [] l n r (by omega) (by omega) (by omega) (by rw[m];omega) (by rw[m,nE];exact growslice_fits (by omega) (by omega));simp only[nE]at h;exact h
 obtain⟨G,b⟩:∃G,G=grownCap w n 0 215:=⟨_,rfl⟩;obtain⟨a,c⟩:∃a:Array ml,a=j2 ([]:rc ml)++Builtin.zeroCells (oj #[X q7 0,O ⟨#[]⟩]:ml).cells n++Builtin.zeroCells (oj #[X q7 0,O ⟨#[]⟩]:ml).cells (G-n):=⟨_,rfl⟩;rw[<-b,<-c]at k;have t:n<=G:=by rw[b];exact grownCap_ge w _ _ _
 have d:G<=maxLen:=by rw[b];exact grownCap_le_maxLen w n 0 215 (by unfold maxLen;omega)
 have p:a.size=G*2:=by
  rw[c];simp[Builtin.zeroCells,Value.cells];omega
 have u:G<=9223372036854775807:=by unfold maxLen at d;omega
 have o:nc (oi (w.alloc (j1 a 215)) w.heap.size 215 2 (U (V ⟨w.heap.size,0,Y⟩) 0 G) 0 []/\Ac [] w (w.alloc (j1 a 215))):=
  ⟨⟨rfl,lx ⟨w.heap.size,G,a,rfl,mP _,m7 w _,mO _,d,p,by simp⟩⟩,(re [] w).alloc _⟩
 have x:(0:Int)<(n:Int):=by omega
 have z:¬((n:Int)<0):=by omega
 clear l c b p d;go_enter func228,ntmps228;go_wp2_with (at_builtin;refine Lib.wpList_append_run _ rfl _ _ _ _ rfl _ _ rfl rfl _ _ (k _) ?_)
 go_ret;exact⟨_,G,rfl,o.1,o.2.drew⟩
set_option maxRecDepth 100000
theorem WR(R:Nat)(E:Option Addr)(z:Nat)(v:Option Addr)(C:Nat)(a b:rc AZ)(I b2:Nat)(w:ly)(r:AI w R [U E (Z a) z,U v (Z b) C] 185)(S:oi w I 215 2 (U E (Z a) z) (Z a) (a.flatMap Ar))(M:oi w b2 215 2 (U v (Z b) C) (Z b) (b.flatMap Ar))(W:0<Z a)(BT:Z a+Z b<=2000000):
  Calls prog 213 #[U (V ⟨R,0,Y⟩) 2 2] w λe L=>∃d h,e=kt (U d (Z (a++b)) h)/\oi L w.heap.size 215 2 (U d (Z (a++b)) h) (Z (a++b)) ((a++b).flatMap Ar)/\Ac [] w L:=by
 obtain⟨i0,Bx,N,T,AO⟩:=nC Tryz.zZ;have HV:=Ab r;have H1:=Ab S;have H2:=Ab M;have s:=r.cell 0;have q:=r.cell 1;simp at s q;have A1:=Ab (dH (Z a+Z b) w (by omega) BT);have BS:nc (Z (a++b)=Z a+Z b):=by show _=_;simp
 generalize hAB:a++b=ab at BS⊢;have B9:=Ab hAB;have DT:=Ab W;clear r S M hAB W;have CC:¬((Z a:Int)<0):=by omega
 have EM:¬((Z a:Int)+(Z b:Int)<0):=by omega
 go_enter func213,ntmps213;go_wp2
 go_loopg [3,11] 2 (λgk o i wr=>∃k:Nat,i=X J k/\((k=0/\o=X J 0)\/(k=1/\o=X J (Z a))\/(k=2/\o=X J ((Z a:Int)+(Z b:Int))))/\gk=2-k/\w=wr)
 case atStart=>exact⟨0,rfl,lo ⟨rfl,rfl⟩,rfl,rfl⟩
 case round=>
  obtain⟨k,rfl,l,B,rfl⟩:=hrel;rcases l with⟨rfl,rfl⟩|⟨rfl,rfl⟩|⟨rfl,rfl⟩
  .go_wp2
   go_roundg 1
   case measure=>omega
   case rel=>exact⟨1,by go_num,lx (lo ⟨rfl,by go_num⟩),rfl,rfl⟩
  .go_wp2
   go_roundg 0
   case measure=>omega
   case rel=>exact⟨2,by go_num,lx (lx ⟨rfl,by go_num⟩),rfl,rfl⟩
  ·(go_wp2_with fail);refine A1.mono ?_;rintro e w2 ⟨g,G,rfl,A0,k2⟩;have P:=Ab A0;have Ax:=Ab k2;clear A1 A0 k2 s q;go_wp2
   go_loopg [6,27] 2 (λgk o i wr=>∃(k:Nat) (c:rc AZ) (d:Option Addr) (h:Nat),o=U d (Z c) h/\i=X J k/\((k=0/\nc (c=[]))\/(k=1/\nc (c=a))\/(k=2/\nc (c=ab)))/\gk=2-k/\Z c<=Z a+Z b/\(oi wr w.heap.size 215 2 (U d (Z c) h) (Z c) (c.flatMap Ar))/\nc (Ac [] w wr))
   case atStart=>exact⟨0,[],_,_,rfl,rfl,lo ⟨rfl,rfl⟩,rfl,by simp,P,Ax⟩
   case round=>
    clear P Ax;obtain⟨k,c,d,h,rfl,rfl,l,B,CW,p,j⟩:=hrel;have Q:=Ab B;clear B;have CL:=j.size;rcases l with⟨rfl,m⟩|⟨rfl,m⟩|⟨rfl,m⟩
    .have s:=(HV.kept j).cell 0;simp at s;have H:=Ad H1 j;(have hz:Z c=0:=by rw[Aa m];rfl);(have y:nc (∀f,wr.grownBy f (U d (Z c) h).ownBlock->Ac [] w f):=λf x=>j.grown x (λk l=>lx ((p.lt k l).1)));(have F:nc (c++a=a):=by show _=_;rw[Aa m];rfl);have n:=Ab hz;clear hz;go_wp2_with (at_builtin;refine Gd _ rfl (.tmp 31) (.tmp 32) _ rfl w.heap.size 215 i0 _ 2 24 underlying185 Bx N T AO rfl (by omega) d (Z c) h (c.flatMap Ar) rfl p I E (Z a) z (a.flatMap Ar) rfl H (Mf _) (by have:=Aa n;unfold maxLen;omega) (by have:=Aa n;omega) (by omega) ?_;intro A u f t D BA)
     go_roundg 1
     case measure=>have:=Aa Q;omega
     case rel=>exact⟨1,c++a,A,u,by simp,by go_num,lx (lo ⟨rfl,F⟩),rfl,by simp;have:=Aa n;omega,by simpa using t,y f D⟩
    .have q:=(HV.kept j).cell 1;simp at q;have H:=Ad H2 j;(have n:nc (Z c=Z a):=by show _=_;rw[Aa m]);(have y:nc (∀f,wr.grownBy f (U d (Z c) h).ownBlock->Ac [] w f):=λf x=>j.grown x (λk l=>lx ((p.lt k l).1)));(have F:nc (c++b=ab):=by show _=_;rw[Aa m];exact B9);go_wp2_with (at_builtin;refine Gd _ rfl (.tmp 31) (.tmp 32) _ rfl w.heap.size 215 i0 _ 2 24 underlying185 Bx N T AO rfl (by omega) d (Z c) h (c.flatMap Ar) rfl p b2 v (Z b) C (b.flatMap Ar) rfl H (Mf _) (by have:=Aa n;unfold maxLen;omega) (by have:=Aa n;omega) (by omega) ?_;intro A u f t D BA)
     go_roundg 0
     case measure=>have:=Aa Q;omega
     case rel=>exact⟨2,c++b,A,u,by simp,by go_num,lx (lx ⟨rfl,F⟩),rfl,by simp;have:=Aa n;omega,by simpa using t,y f D⟩
    .go_wp2;go_ret;rw[<-Aa m];exact⟨d,h,rfl,p,j⟩
theorem Rd(B:Option Addr)(N:Nat)(a:rc Mk)(w:ly)(h:Cf w 0 (U B (Z a) N) a)(FP:Z a<=1000)(f:∀p∈a,0<Z (AS p.1)/\Z (AS p.1)<=1000):
  Calls prog 139 #[U B (Z a) N] w λe y=>∃c d,e=kt (U c (Z (A7 a)) d)/\oi y w.heap.size 215 2 (U c (Z (A7 a)) d) (Z (A7 a)) ((A7 a).flatMap Ar)/\Ac [] w y:=by
 obtain⟨i0,FA,T,A0,BS⟩:=nC Tryz.zZ;have HB:=Ab h;have E0:=Ab f;clear h f;go_enter func139,ntmps139;go_wp2
 go_loopg [3,8] (Z a) (λgk o i wr=>∃(k:Nat) (b:rc AZ) (c:Option Addr) (d:Nat),o=U c (Z b) d/\i=X J k/\k<=Z a/\Z b<=k*1000/\gk=Z a-k/\nc (b=A7 (a.take k))/\oi wr w.heap.size 215 2 (U c (Z b) d) (Z b) (b.flatMap Ar)/\nc (Ac [] w wr))
 case atStart=>exact⟨0,[],Y,0,rfl,rfl,by omega,by simp,rfl,by show _=_;simp[A7],mS _ _ _ _,re _ _⟩
 case round=>
  obtain⟨k,b,c,d,rfl,rfl,E,FT,F,u,s,j⟩:=hrel;have HG:=Ab F;clear F;by_cases t:k<Z a
  .have P:=HB.kept j;have Go:=j.size;obtain⟨g,FO,l,q,r,C,L,I,d0,d1,R,S,d4,d5,d6,d7,d8⟩:=J3 P k t;simp only[mu]at C;obtain⟨rfl,_,rfl⟩:=C;have x:=Ab (QW t);have f:=Aa E0 a[k] (mw t);rw[L]at x f;simp only at f;have v:=Ab (NR l q r (wr.alloc (j1 (j2 (Ay (l,U q (Z l.ts) r))) 217)) (Ad I ((re [] wr).alloc _)));clear P I L;simp only[Ay]at v;have z:=Ab (j.alloc (j1 (j2 (Ay (l,U q (Z l.ts) r))) 217));have D:=Ab (mE s (j1 (j2 (Ay (l,U q (Z l.ts) r))) 217));(go_wp2_with fail);refine v.mono ?_;rintro e A ⟨FC,EK,rfl,Q,n⟩;have CC:=Ab (z.trans n);have M:=Ad D n;have G:=n.size;(have FF:wr.heap.size+1<=A.heap.size:=by simpa using G);obtain⟨g3,rfl,CW,H,_,_⟩:=bk Q f.1;have B0:=Ab H;(have ES:nc (b++AS l=A7 (a.take (k+1))):=by show _=_;rw[Aa x,Aa u]);(have HF:nc (∀m,A.grownBy m (U c (Z b) d).ownBlock->Ac [] w m):=λm W=>CC.grown W (λk E=>lx ((M.lt k E).1)));clear n z D v d0 d1 R S d4 d5 d6 d7 d8 s j G Q H x u;(have EX:Z (b++AS l)<=(k+1)*1000:=by simp;omega);(have FL:k<=1000:=by omega);go_wp2_with (at_builtin;refine mZ _ rfl (.tmp 12) (.tmp 14) _ rfl w.heap.size 215 i0 _ 2 24 underlying185 FA T A0 BS rfl (by omega) (U c (Z b) d) (Z b) (b.flatMap Ar) rfl M ⟨g3,0,Y⟩ (Z (AS l)) EK ((AS l).flatMap Ar) rfl CW B0 (Mf _) (by omega) (by unfold maxLen;omega) (by omega) (by omega) _ rfl ?_;intro g1 AO m B2 Bx FB FW)
   go_roundg (Z a-(k+1))
   case measure=>have:=Aa HG;omega
   case rel=>exact⟨k+1,b++AS l,V ⟨g1,0,Y⟩,AO,by simp,by go_num,by omega,EX,rfl,ES,by simpa using B2,HF m Bx⟩
  .have HE:nc (b=A7 a):=by
    have h:=Aa u;rw[mz (by omega)]at h;exact h
   go_wp2;go_ret;rw[<-HE.out];exact⟨c,d,rfl,s,j⟩
def Jy{a:rc Mk}(h:∀p∈a,Z (AS p.1)<=1000):Z (A7 a)<=Z a*1000:=by
 unfold A7
 induction a with
 |nil=>simp
 |cons p l ih=>
  have c:=h p (by simp);have d:=ih (λq b=>h q (by simp[b]));simp only[mX,mM,mL];omega
theorem RR(c:CU)(w:ly)(h:JY w 0 c.hv c.bv c.zE c.zD)(G:Lo c):
  Calls prog 184 #[oj (j2 (Bc c))] w λe k=>∃f j,e=kt (U f (Z (Bn c)) j)/\oi k w.heap.size 215 2 (U f (Z (Bn c)) j) (Z (Bn c)) ((Bn c).flatMap Ar)/\Ac [] w k:=by
 have z:nc (∀p∈c.zD,0<Z (AS p.1)/\Z (AS p.1)<=1000):=λp g=>G.zR g
 obtain⟨g,q,b,hv,bv,a⟩:=c;obtain⟨⟨I,AR⟩,C,Ax⟩:=G;simp only at h I AR C z;clear Ax;obtain⟨i,d,rfl⟩:=Al h.head;obtain⟨l,o,rfl⟩:=Al h.body.row;have M:=Jy (λp g=>(z p g).2);have Bx:Z (A7 a)<=1000000:=by omega
 have B:nc (∀wr,Ac [] w wr->Calls prog 139 #[U l (Z a) o] wr λe k=>∃f j,e=kt (U f (Z (A7 a)) j)/\oi k wr.heap.size 215 2 (U f (Z (A7 a)) j) (Z (A7 a)) ((A7 a).flatMap Ar)/\Ac [] wr k):=λwr r=>Rd l o a wr (h.body.kept r) C z
 have HH:=Ab h.head;have u:nc (Bn ⟨g,q,b,U i (Z b) d,U l (Z a) o,a⟩=b++A7 a):=rfl;generalize Bn ⟨g,q,b,U i (Z b) d,U l (Z a) o,a⟩=TV at u⊢;generalize A7 a=BT at B Bx u;have F:nc (∀(wr:ly) (m:Option Addr) (n A:Nat),Ac [] w wr->oi wr A 215 2 (U m (Z BT) n) (Z BT) (BT.flatMap Ar)->Calls prog 213 #[U (V ⟨wr.heap.size,0,Y⟩) 2 2] (wr.alloc (j1 #[U i (Z b) d,U m (Z BT) n] 185)) λe k=>∃f j,e=kt (U f (Z TV) j)/\oi k w.heap.size 215 2 (U f (Z TV) j) (Z TV) (TV.flatMap Ar)/\Ac [] w k):=by
  intro wr m n A r hr;have t:=(re [] wr).alloc (j1 #[U i (Z b) d,U m (Z BT) n] 185);refine(WR wr.heap.size i d m n b BT 0 A _ (rf wr [U i (Z b) d,U m (Z BT) n] 185) (Ad HH (r.trans t)) (Ad hr t) I (by omega)).mono ?_;rintro e k ⟨f,j,rfl,W,k2⟩;rw[Aa u];exact⟨f,j,rfl,Ak W (by have:=(r.trans t).size;exact this),(r.trans t).trans k2⟩
 clear h M;simp only[Bc];have s:=Ab (rf w [X J g,O q,U i (Z b) d,U l (Z a) o] 189);have y:=Ab ((re [] w).alloc (j1 [X J g,O q,U i (Z b) d,U l (Z a) o].toArray 189));go_enter func184,ntmps184;go_wp2_with fail
 change Code.wp _ _ _ _ (w.alloc (j1 [X J g,O q,U i (Z b) d,U l (Z a) o].toArray 189));generalize w.alloc (j1 [X J g,O q,U i (Z b) d,U l (Z a) o].toArray 189)=w1 at s y⊢;obtain⟨N,v⟩:=rd w.heap.size;rw[v]at s F⊢;have T:=s.cell 2;have c3:=s.cell 3;simp at T c3;have A1:=Ab v;clear v
 go_region_law
  (first
   |(go_simp;go_at_call 139;refine(B _ y.drew).mono ?_;rintro e wt ⟨m,n,rfl,L,x⟩;have R:=(s.drew.kept x).cell 2;simp at R;have A0:=Ab (y.drew.trans x);have Q:=Ab L;clear L x)
   |(go_simp;go_at_call 213;refine(F wt m n _ A0 Q).mono ?_;rintro e w9 ⟨S,P,rfl,H,E⟩;have D:=Ab (And.intro H E);clear H E))
 all_goals
  go_wp2;go_ret;rw[Aa A1];exact⟨S,P,rfl,D.1,D.2⟩
def GT(zD:rc Mk):rc zA:=(zD.filter λp=>Bm p.1).map λp=>p.1.an
def Cu(c:CU):rc zA:=c.hn::GT c.zD
def dJ(c:CU):(BG c).map Ij.name=Cu c:=by
 simp[BG,Cu,AU,GT]
def Ja{c:CU}(h:JY w 0 c.hv c.bv c.zE c.zD):∀a∈BG c,∃f n d,a.tv=U f n d:=by
 intro a b;rcases mA.1 b with rfl|b
 .obtain⟨f,d,e⟩:=Al h.head;exact⟨_,_,_,e⟩
 .unfold AU at b;obtain⟨p,g,rfl⟩:=mD.1 b;obtain⟨f,d,e⟩:=Al (h.body.each p (mT.1 g).1).1;exact⟨_,_,_,e⟩
def KE{l:rc Ij}(h:oi w n 187 3 z (Z l) (l.flatMap AW))(k:Nat)(a:k<Z l):
  ∃g b,z=U (V ⟨g,0,Y⟩) (Z l) b/\oa w ⟨g,k*3,Y⟩=V (X J l[k].place)/\oa w ⟨g,k*3+1,Y⟩=V (O l[k].name)/\oa w ⟨g,k*3+2,Y⟩=V l[k].tv:=by
 obtain⟨g,b,j,_,d⟩:=AC h (λc _=>Ve c) k a;have f:=d k a 0 (by omega);have i:=d k a 1 (by omega);have e:=d k a 2 (by omega);simp[AW]at f i e;exact⟨g,b,j,f,i,e⟩
structure O6(base:Nat)(lv:ml)(l:rc zA)(xs:rc zA)(w:ly)(l':rc zA)(ad':Option Addr)(cp':Nat)(w':ly):Prop where
 zG:C6 Hx l'
 mem:∀y,y∈l'↔y∈xs\/y∈l
 ge:Z l<=Z l'
 le:Z l'<=Z l+Z xs
 own:oi w' base 9 1 (U ad' (Z l') cp') (Z l') (l'.flatMap Ai)
 kept:Ac lv.ownBlock.toList w w'
 new:∀k,(U ad' (Z l') cp').ownBlock=V k->lv.ownBlock=V k\/w.heap.size<=k
theorem N9(c:CU)(a:Option Addr)(b:Nat)(l:rc zA)(n:Nat)(w:ly)(h:JY w 0 c.hv c.bv c.zE c.zD)(DT:Z c.zD<=1000)
  (hl:oi w n 9 1 (U a (Z l) b) (Z l) (l.flatMap Ai)) (HI:Z l<=900000) (hr:C6 Hx l) (HB:n<=w.heap.size):
  Calls prog 164 #[U a (Z l) b,oj (j2 (Bc c))] w λe w'=>∃S B2 AR,e=kt (U B2 (Z S) AR)/\O6 n (U a (Z l) b) l (Cu c) w S B2 AR w':=by
 have u:=Ab (Mz c (w.alloc (j1 (j2 (Bc c)) 189)) (h.kept ((re [] w).alloc _)) DT);have Ax:=Ab (Ja h);have E:=Ab (dJ c);have CW:nc (Z (BG c)<=1001):=by
  show _<=_;have:=EB c.zD;simp[BG];omega
 obtain⟨hp,hn,x,hv,bv,t⟩:=c;simp only at h;obtain⟨B9,Q,rfl⟩:=Al h.head;obtain⟨AH,AB,rfl⟩:=Al h.body.row;generalize BG ⟨hp,hn,x,U B9 (Z x) Q,U AH (Z t) AB,t⟩=aT at u Ax E CW;generalize Cu ⟨hp,hn,x,U B9 (Z x) Q,U AH (Z t) AB,t⟩=ns at E⊢;have HL:=Ab hl;have FO:=Ab hr;clear h hl hr;simp only[Bc]at u⊢;go_enter func164,ntmps164;go_wp2_with fail
 refine u.mono ?_;rintro e s ⟨FF,R,rfl,Bx,z⟩;have I:nc (Ac [] w s):=((re [] w).alloc _).trans z;have Ha:w.heap.size+1<=s.heap.size:=by have:=z.size;simpa using this
 have W:=Ab (Ak Bx (show w.heap.size<=_ by simp));clear u Bx z;go_wp2
 go_loopg [0,10] (Z aT) (λgk o i wr=>∃(k:Nat) (m:rc zA) (d:Option Addr) (f:Nat),o=U d (Z m) f/\i=X J k/\k<=Z aT/\gk=Z aT-k/\Z m<=Z l+k/\nc (O6 n (U a (Z l) b) l ((aT.take k).map Ij.name) w m d f wr)/\nc (oi wr w.heap.size 187 3 (U FF (Z aT) R) (Z aT) (aT.flatMap AW))/\nc (∀q,(U d (Z m) f).ownBlock=V q->(U a (Z l) b).ownBlock=V q\/s.heap.size<=q)/\s.heap.size<=wr.heap.size)
 case atStart=>exact⟨0,l,a,b,rfl,rfl,by omega,rfl,by omega,⟨FO,λy=>by simp,by omega,by omega,Ad HL I,I.mono (by simp),λk T=>lo T⟩,W,λq p=>lo p,by omega⟩
 case round=>
  clear I;obtain⟨k,m,d,f,rfl,rfl,T,BT,HC,r,H,L,FW⟩:=hrel;have HG:=Ab BT;clear BT;have HA:=Aa CW;by_cases A:k<Z aT
  .obtain⟨g,Go,he,d0,d1,P⟩:=KE H k A;simp only[mu]at he;obtain⟨rfl,_,rfl⟩:=he;obtain⟨FT,nt,EY,BA⟩:=Ax aT[k] (mw A);rw[BA]at P;clear BA;have A2:=Ab (fx d f m aT[k].name n (wr.alloc (j1 [X J aT[k].place,O aT[k].name,U FT nt EY].toArray 187)) (mE r.own _) (by omega) r.zG (by simp;omega));(go_wp2_with fail);refine A2.mono ?_;rintro e v ⟨N,F,D,rfl,q1,q2,q3,q4,q5,C,B⟩;have M:Ac (U d (Z m) f).ownBlock.toList wr v:=((re _ wr).alloc _).trans C;(have HF:wr.heap.size+1<=v.heap.size:=by have:=C.size;simpa using this);have EM:nc (O6 n (U a (Z l) b) l ((aT.take (k+1)).map Ij.name) w N F D v):=by
    have j:=Aa r;refine⟨q1,λy=>?_,by have:=j.ge;omega,?_,q5,j.kept.trans' M (λi G=>?_),λq p=>?_⟩
    .rw[q2,j.mem,mx A];simp only[nk,mU,oH,mF,my];constructor
     .rintro (h|h|h)
      .exact lo (lx h)
      .exact lo (lo h)
      .exact lx h
     .rintro ((h|h)|h)
      .exact lx (lo h)
      .exact lo h
      .exact lx (lx h)
    .have:=j.le;simp only[mI,nu]at this⊢;omega
    .rcases j.new i (by simpa using G)with h|h
     .exact lo (by simp[h])
     .exact lx h
    .rcases B q p with h|h
     .exact j.new q h
     .exact lx (by have:=j.kept.size;simp at h;omega)
   have FB:nc (oi v w.heap.size 187 3 (U (V ⟨g,0,Y⟩) (Z aT) R) (Z aT) (aT.flatMap AW)):=by
    refine Ag H M (λi G hm=>?_);have h1:=(W.lt i G);rcases L i (by simpa using hm)with h|h
    .have:=(HL.lt i h).2;omega
    .omega
   have EX:nc (∀q,(U F (Z N) D).ownBlock=V q->(U a (Z l) b).ownBlock=V q\/s.heap.size<=q):=by
    intro q p;rcases B q p with h|h
    .exact L q h
    .exact lx (by simp at h;omega)
   clear A2 q1 q2 q3 q5 C B M r H L d0 d1 P;go_wp2
   go_roundg (Z aT-(k+1))
   case measure=>have:=Aa HG;omega
   case rel=>exact⟨k+1,N,F,D,rfl,by go_num,by omega,rfl,by omega,EM,FB,EX,by omega⟩
  .have HE:nc (O6 n (U a (Z l) b) l ns w m d f wr):=by
    have h:=Aa r;rw[mz (by omega),Aa E]at h;exact h
   go_wp2;go_ret;exact⟨m,d,f,rfl,HE⟩
def FJ{l:rc AZ}(h:oi w n 215 2 z (Z l) (l.flatMap Ar))(k:Nat)(a:k<Z l):
  ∃g b,z=U (V ⟨g,0,Y⟩) (Z l) b/\oa w ⟨g,k*2,Y⟩=V (X q7 l[k].v)/\oa w ⟨g,k*2+1,Y⟩=V (O l[k].s):=by
 obtain⟨g,b,i,_,f⟩:=AC h (λc _=>Vv c) k a;have d:=f k a 0 (by omega);have e:=f k a 1 (by omega);simp[Ar]at d e;exact⟨g,b,i,d,e⟩
structure Hs(ts:rc AZ)(l:rc Int):Prop where
 zG:C6 Xk l
 mem:∀y,y∈l↔y≠0/\∃t∈ts,t.v=y
 le:Z l<=Z ts
def Hs.nil:Hs [] []:=⟨λi j a=>by simp at a,λy=>by simp,by simp⟩
theorem MH(E:Option Addr)(M:Nat)(a:rc AZ)(S:Nat)(w:ly)(h:oi w S 215 2 (U E (Z a) M) (Z a) (a.flatMap Ar))(B0:Z a<=900000):
  Calls prog 174 #[U E (Z a) M] w λe z=>∃l F G,e=kt (U F (Z l) G)/\Hs a l/\oi z w.heap.size 21 1 (U F (Z l) G) (Z l) (l.flatMap AX)/\Ac [] w z:=by
 have HT:=Ab h;clear h;go_enter func174,ntmps174;go_wp2
 go_loopg [3,8] (Z a) (λgk o i wr=>∃(k:Nat) (l:rc Int) (f:Option Addr) (m:Nat),o=U f (Z l) m/\i=X J k/\k<=Z a/\gk=Z a-k/\nc (Hs (a.take k) l)/\oi wr w.heap.size 21 1 (U f (Z l) m) (Z l) (l.flatMap AX)/\nc (Ac [] w wr))
 case atStart=>exact⟨0,[],Y,0,rfl,rfl,by omega,rfl,by show Hs _ _;simpa using Hs.nil,mS _ _ _ _,re _ _⟩
 case round=>
  obtain⟨k,l,f,m,rfl,rfl,hk,D,n,r,p⟩:=hrel;have A:=Ab D;clear D;have Q:=n.le;simp only[nu]at Q;have CC:=p.size;by_cases u:k<Z a
  .obtain⟨g,B9,L,d0,d1⟩:=FJ (Ad HT p) k u;simp only[mu]at L;obtain⟨rfl,_,rfl⟩:=L;have x:=Ab (p.alloc (j1 [X q7 a[k].v,O a[k].s].toArray 215));have q:=mE r (j1 [X q7 a[k].v,O a[k].s].toArray 215);cases hv:(a[k].v==0)with
   |true=>
    (have W:(a[k].v !=0)=K:=by simp[bne,hv]);have AH:nc (Hs (a.take (k+1)) l):=by
     have j:=Aa n;refine⟨j.zG,λy=>?_,by have:=j.le;simp only[nu]at this⊢;omega⟩;rw[j.mem,mx u];(have hz:a[k].v=0:=by simpa using hv);constructor
     .rintro ⟨c,t,b,d⟩;exact⟨c,t,nS _ b,d⟩
     .rintro ⟨c,t,b,d⟩;rcases mF.1 b with b|b
      .exact⟨c,t,b,d⟩
      .simp only[my]at b;subst b;exact absurd (d.symm.trans hz) c
    clear hv;go_wp2
    go_roundg (Z a-(k+1))
    case measure=>have:=Aa A;omega
    case rel=>exact⟨k+1,l,f,m,rfl,by go_num,by omega,rfl,AH,q,x⟩
   |false=>
    (have W:(a[k].v !=0)=jj:=by simp[bne,hv]);(have N:a[k].v≠0:=by simpa using hv);have I:=Ab (eE f m l a[k].v w.heap.size (wr.alloc (j1 [X q7 a[k].v,O a[k].s].toArray 215)) q (by omega) n.zG (by simp;omega));have A2:=Ab N;clear hv N;(go_wp2_with fail);refine I.mono ?_;rintro e P ⟨H,T,AB,rfl,C,q2,q3,q4,q5,B,R⟩;have Ax:nc (Ac [] w P):=x.trans' B (λi hi=>lx ((q.lt i (by simpa using hi)).1));have A0:nc (Hs (a.take (k+1)) H):=by
     have j:=Aa n;refine⟨C,λy=>?_,by have:=j.le;simp only[nu]at this⊢;omega⟩;rw[q2,j.mem,mx u];constructor
     .rintro (c|⟨c,t,b,d⟩)
      .exact⟨by rw[c];exact A2,a[k],List.mem_append_right _ (my.2 rfl),c.symm⟩
      .exact⟨c,t,nS _ b,d⟩
     .rintro ⟨c,t,b,d⟩;rcases mF.1 b with b|b
      .exact lx ⟨c,t,b,d⟩
      .simp only[my]at b;subst b;exact lo d.symm
    clear I C q2 q3 q4 B R r q x p n;go_wp2
    go_roundg (Z a-(k+1))
    case measure=>have:=Aa A;omega
    case rel=>exact⟨k+1,H,T,AB,rfl,by go_num,by omega,rfl,A0,q5,Ax⟩
  .have HE:nc (Hs a l):=by
    have h:=Aa n;rw[mz (by omega)]at h;exact h
   go_wp2;go_ret;exact⟨l,f,m,rfl,HE,r,p⟩
theorem W8(G:Option Addr)(P:Nat)(l:rc Int)(u:Option Addr)(v:Nat)(o:rc Int)(R C:Nat)(w:ly)(h:oi w R 21 1 (U G (Z l) P) (Z l) (l.flatMap AX))(z:oi w C 21 1 (U u (Z o) v) (Z o) (o.flatMap AX))(hl:Z l<=900000)(ho:Z o<=900000)(L:C6 Xk o):
  Calls prog 173 #[U G (Z l) P,U u (Z o) v] w λe x=>∃H I,e=kt (U H (Z (l.filter λy=> !LJ o y)) I)/\oi x w.heap.size 21 1 (U H (Z (l.filter λy=> !LJ o y)) I) (Z (l.filter λy=> !LJ o y)) ((l.filter λy=> !LJ o y).flatMap AX)/\Ac [] w x:=by
 obtain⟨i0,B2,Q,Ax,AT⟩:=nC Tryz.z7;have HT:=Ab h;have BT:=Ab z;have BS:=Ab L;obtain⟨F,hF⟩:=rd (l.filter λy=> !LJ o y);rw[hF];have T:=Ab hF;clear h z hF L;go_enter func173,ntmps173;go_wp2
 go_loopg [5,10] (Z l) (λgk o' i wr=>∃(k:Nat) (m:rc Int) (a:Option Addr) (b:Nat),o'=U a (Z m) b/\i=X J k/\k<=Z l/\Z m<=k/\gk=Z l-k/\nc (m=(l.take k).filter λy=> !LJ o y)/\oi wr w.heap.size 21 1 (U a (Z m) b) (Z m) (m.flatMap AX)/\nc (Ac [] w wr))
 case atStart=>exact⟨0,[],Y,0,rfl,rfl,by omega,by simp,rfl,by show _=_;simp,mS _ _ _ _,re _ _⟩
 case round=>
  obtain⟨k,m,a,b,rfl,rfl,A,EK,D,q,n,d⟩:=hrel;have B:=Ab D;clear D;have ES:=d.size;by_cases r:k<Z l
  .obtain⟨g,DT,N,_,E⟩:=AC (Ad HT d) (by simp[AX]) k r;simp only[mu]at N;obtain⟨rfl,_,rfl⟩:=N;have d0:=E k r 0 (by omega);simp[AX]at d0;clear E;have M:=Ab (dA u v o l[k] C wr (Ad BT d) (by omega) BS);have p:nc ((l.take (k+1)).filter (λy=> !LJ o y)=m++if LJ o l[k] then[] else[l[k]]):=by
    show _=_;rw[mx r,oW,<-Aa q];by_cases c:LJ o l[k]=jj<;>simp[c]
   (go_wp2_with fail);refine M.mono ?_;rintro e j ⟨rfl,rfl⟩;clear M;cases c:LJ o l[k] with
   |true=>
    (have s:nc (m=(l.take (k+1)).filter λy=> !LJ o y):=by show _=_;rw[Aa p,c];simp);clear c p q;go_wp2
    go_roundg (Z l-(k+1))
    case measure=>have:=Aa B;omega
    case rel=>exact⟨k+1,m,a,b,rfl,by go_num,by omega,by omega,rfl,s,n,d⟩
   |false=>
    (have s:nc (m++[l[k]]=(l.take (k+1)).filter λy=> !LJ o y):=by show _=_;rw[Aa p,c];simp);clear c p q;have AO:=m7 j (j1 [X q7 l[k]].toArray 21);have BA:=mE n (j1 [X q7 l[k]].toArray 21);(have AB:nc (∀f,(j.alloc (j1 [X q7 l[k]].toArray 21)).grownBy f (U a (Z m) b).ownBlock->Ac [] w f):=λf S=>(d.alloc _).grown S (λk A=>lx ((n.lt k A).1)));go_wp2_with (at_builtin;refine mZ _ rfl (.tmp 18) (.tmp 20) _ rfl w.heap.size 21 i0 _ 1 4 underlying234 B2 Q Ax AT rfl (by omega) (U a (Z m) b) (Z m) (m.flatMap AX) rfl BA ⟨j.heap.size,0,Y⟩ 1 1 [X q7 l[k]] rfl rfl (mW (cs:=[X q7 l[k]].toArray) (t:=21) (fr:=(0,0)) AO) (by simp[Value.oneCell']) (by omega) (by unfold maxLen;omega) (by omega) (by simp;omega) (j.heap.size+1) (by simp) ?_;intro g1 W f A2 AH CC EM)
    go_roundg (Z l-(k+1))
    case measure=>have:=Aa B;omega
    case rel=>exact⟨k+1,m++[l[k]],V ⟨g1,0,Y⟩,W,by simp,by go_num,by omega,by simp;omega,rfl,s,by simpa[AX] using A2,AB f AH⟩
  .have HE:nc (m=F):=by
    have h:=Aa q;rw[mz (by omega),Aa T]at h;exact h
   go_wp2;go_ret;rw[<-HE.out];exact⟨a,b,rfl,n,d⟩
def lenOf:ml->Nat
 | U _ n _=>n
 |_=>0
def Lx(c:CU):Bool:=(BG c).any (λa=>decide (2<lenOf a.tv))||decide (3<Z c.zD)
theorem QT(c:CU)(w:ly)(h:JY w 0 c.hv c.bv c.zE c.zD)(L:Z c.zD<=1000):
  Calls prog 118 #[oj (j2 (Bc c))] w λe w'=>e=kt (q8 (Lx c))/\Ac [] w w':=by
 have q:=Ab (Mz c (w.alloc (j1 (j2 (Bc c)) 189)) (h.kept ((re [] w).alloc _)) L);have S:=Ab (Ja h);have AT:Z (BG c)<=1001:=by
  have:=EB c.zD;simp[BG];omega
 have p:nc (Lx c=((BG c).any (λa=>decide (2<lenOf a.tv))||decide (3<Z c.zD))):=rfl;obtain⟨u,f,j,hv,bv,b⟩:=c;simp only at h L;obtain⟨y,s,rfl⟩:=Al h.head;obtain⟨r,C,rfl⟩:=Al h.body.row;generalize Lx ⟨u,f,j,U y (Z j) s,U r (Z b) C,b⟩=G at p⊢;generalize BG ⟨u,f,j,U y (Z j) s,U r (Z b) C,b⟩=aT at q S AT p;clear h;have D:=Ab (rf w (Bc ⟨u,f,j,U y (Z j) s,U r (Z b) C,b⟩) 189);simp only[Bc]at q D⊢;go_enter func118,ntmps118;go_wp2_with fail
 refine q.mono ?_;rintro e w2 ⟨Bx,BT,rfl,F,B⟩;have I:nc (Ac [] w w2):=((re [] w).alloc _).trans B;have W:=Ab (D.kept B);have HO:=Ab F;clear q F B D;go_wp2;generalize w.heap.size=N at W⊢
 go_loopg [8] (Z aT) (λgk i wr=>∃(k:Nat),i=X J k/\k<=Z aT/\gk=Z aT-k/\nc ((aT.take k).any (λa=>decide (2<lenOf a.tv))=K)/\nc (Ac [] w wr)/\nc (Ac [] w2 wr))
 case atStart=>exact⟨0,rfl,by omega,rfl,by show _=_;simp,I,re _ _⟩
 case round=>
  clear I;obtain⟨k,rfl,hk,H,M,A,t⟩:=hrel;have HG:=Ab H;clear H;by_cases n:k<Z aT
  .obtain⟨g,B2,T,d0,d1,d2⟩:=KE (Ad HO t) k n;simp only[mu]at T;obtain⟨rfl,_,rfl⟩:=T;obtain⟨P,d,Q,o⟩:=S aT[k] (mw n);rw[o]at d2;have x:nc (2<d->G=jj):=by
    intro f;rw[Aa p,K0 _ _ k n (by simp[o,lenOf,f])];rfl
   have z:nc (¬2<d->(aT.take (k+1)).any (λa=>decide (2<lenOf a.tv))=K):=by
    intro f;rw[Do _ _ k n (Aa M)];simp[o,lenOf,f]
   clear o;have R:=Ab (A.alloc (j1 [X J aT[k].place,O aT[k].name,U P d Q].toArray 187));have AR:=Ab (t.alloc (j1 [X J aT[k].place,O aT[k].name,U P d Q].toArray 187));by_cases m:2<d
   .have E:=Ab (x m);(have l:(2:Int)<(d:Int):=by omega);clear x z;go_wp2;go_ret;rw[Aa E];exact⟨rfl,R⟩
   .have E:=Ab (z m);(have l:¬(2:Int)<(d:Int):=by omega);clear x z;go_wp2
    go_roundg (Z aT-(k+1))
    case measure=>have:=Aa HG;omega
    case rel=>exact⟨k+1,by go_num,by omega,rfl,E,R,AR⟩
  .have HE:nc (G=decide (3<Z b)):=by
    have h:=Aa M;rw[mz (by omega)]at h;show _=_;rw[Aa p,h];rfl
   have c3:=(W.kept t).cell 3;simp at c3;by_cases m:3<Z b
   ·(have l:(3:Int)<(Z b:Int):=by omega);(have v:nc (G=jj):=by show _=_;rw[Aa HE];simp[m]);go_wp2;go_ret;rw[v.out];exact⟨by simp[l],A⟩
   ·(have l:¬(3:Int)<(Z b:Int):=by omega);(have v:nc (G=K):=by show _=_;rw[Aa HE];simp[m]);go_wp2;go_ret;rw[v.out];exact⟨by simp[l],A⟩
def BJ(o:Option Int):ml:=match o with|some p=> .tuple #[X J p,q8 jj]|none=> .tuple #[X J 0,q8 K]
def Vk(c:CU):Z (Bc c)=4:=rfl
structure CE(w:ly)(lv:ml)(cs:rc CU):Prop where
 row:oi w 0 189 4 lv (Z cs) (cs.flatMap Bc)
 each:∀c∈cs,JY w 0 c.hv c.bv c.zE c.zD
def CE.kept{w w':ly}{a:ml}{b:rc CU}(h:CE w a b)(k:Ac [] w w'):CE w' a b:=⟨Ad h.row k,λc d=>(h.each c d).kept k⟩
def FE(h:CE w z p)(k:Nat)(a:k<Z p):
  ∃g t j n b m f e o d,z=U (V ⟨g,0,Y⟩) (Z p) t/\p[k]=⟨j,n,b,U m (Z b) f,U e (Z d) o,d⟩/\
   oa w ⟨g,k*4,Y⟩=V (X J j)/\oa w ⟨g,k*4+1,Y⟩=V (O n)/\oa w ⟨g,k*4+2,Y⟩=V (U m (Z b) f)/\oa w ⟨g,k*4+3,Y⟩=V (U e (Z d) o):=by
 obtain⟨g,t,x,_,i⟩:=AC h.row (λc _=>Vk c) k a;have l:=h.each _ (mw a);have u:=i k a 0 (by omega);have s:=i k a 1 (by omega);have q:=i k a 2 (by omega);have r:=i k a 3 (by omega);obtain⟨⟨j,n,b,y,A,d⟩,v⟩:∃c,p[k]=c:=⟨_,rfl⟩;rw[v]at u s q r l;simp only at l;obtain⟨m,f,rfl⟩:=Al l.head;obtain⟨e,o,rfl⟩:=Al l.body.row;simp[Bc]at u s q r;exact⟨g,t,j,n,b,m,f,e,o,d,x,v,u,s,q,r⟩
def V2(x:zA)(a:Ij):Bool:=a.name.toList==x.toList
def iq(cs:rc CU)(x:zA):Option Nat:=((cs.flatMap BG).find? (V2 x)).map λa=>lenOf a.tv
def Ta(cs:rc CU)(a:Ij):Bool:=decide (2<lenOf a.tv)||(match iq cs a.name with|some n=> !(n==lenOf a.tv)|none=>K)
def kn(cs:rc CU)(l:rc Ij):Option Int:=(l.find? (Ta cs)).map λa=>a.place
def Mn{α:Type}{p:α->Bool}{l:rc α}(h:l.any p=K):l.find? p=Y:=by
 rw[oM];intro y a b;rw[oC]at h;exact h y a b
def eI(a:k<Z p):p.flatMap BG=(p.take k).flatMap BG++(BG p[k]++(p.drop (k+1)).flatMap BG):=by
 rw[show p.flatMap BG=(p.take k++p[k]::p.drop (k+1)).flatMap BG from by rw[List.getElem_cons_drop,nO]]
 rw[mY,mX]
def jq(a:k<Z p){l:rc Ij}(c:BG p[k]=l)(e:((p.take k).flatMap BG).any (V2 s)=K)(b:j<Z l)(d:(l.take j).any (V2 s)=K)(f:V2 s l[j]=jj):
  iq p s=V (lenOf l[j].tv):=by
 unfold iq;rw[eI a,qI,Mn e,c,qI,F8 _ _ j b d f];rfl
def eN(c:k<Z p){l:rc Ij}(b:BG p[k]=l)(d:((p.take k).flatMap BG).any (V2 s)=K)(a:l.any (V2 s)=K):((p.take (k+1)).flatMap BG).any (V2 s)=K:=by
 rw[mx c,mY,qF,d];simp[b,a]
theorem P8(x:zA)(B2:Option Addr)(BS:Nat)(b:rc CU)(w:ly)(h:CE w (U B2 (Z b) BS) b)(A0:∀c∈b,Z c.zD<=1000)(FT:Z b<=1000):
  Calls prog 100 #[O x,U B2 (Z b) BS] w λe w'=>e=kt (BJ ((iq b x).map fun(n:Nat)=>(n:Int)))/\Ac [] w w':=by
 have HP:=Ab h;have CL:=Ab A0;obtain⟨R,N⟩:=rd (iq b x);rw[N];have Bx:=Ab N;clear h A0 N;go_enter func100,ntmps100;go_wp2
 go_loopg [12] (Z b) (λgk i wr=>∃(k:Nat),i=X J k/\k<=Z b/\gk=Z b-k/\nc (((b.take k).flatMap BG).any (V2 x)=K)/\nc (Ac [] w wr))
 case atStart=>exact⟨0,rfl,by omega,rfl,by show _=_;simp,re _ _⟩
 case round=>
  obtain⟨k,rfl,hk,Ax,H,z⟩:=hrel;have HG:=Ab Ax;clear Ax;by_cases o:k<Z b
  .obtain⟨g,FO,v,A,m,y,u,s,B,d,r,BT,d0,W,D,d3⟩:=FE (HP.kept z) k o;simp only[mu]at r;obtain⟨rfl,_,rfl⟩:=r;have p:=(HP.kept z).each _ (mw o);have E:=Aa CL _ (mw o);obtain⟨a,f⟩:=rd (BG b[k]);have HY:=Ab (λj (hj:j<Z a) h2 h3=>jq o f H hj h2 h3);have HS:=Ab (eN o f H);rw[BT]at p E f;simp only at p E;have C:=Ab (Mz ⟨v,A,m,U y (Z m) u,U s (Z d) B,d⟩ (wr.alloc (j1 [X J v,O A,U y (Z m) u,U s (Z d) B].toArray 189)) (p.kept ((re [] wr).alloc _)) E);have A1:=Ab (Ja (c:=⟨v,A,m,U y (Z m) u,U s (Z d) B,d⟩) p);have FL:Z a<=1001:=by
    have:=EB d;rw[<-f];simp[BG];omega
   rw[f]at C A1;have q:=Ab (z.alloc (j1 [X J v,O A,U y (Z m) u,U s (Z d) B].toArray 189));clear p BT f;simp only[Bc]at C;(go_wp2_with fail);refine C.mono ?_;rintro e w2 ⟨FC,FP,rfl,S,k2⟩;have AB:=Ab (q.trans k2);have HO:=Ab S;clear C S k2 q d0 W D d3;go_wp2
   go_loopg [19] (Z a) (λgj i T=>∃(j:Nat),i=X J j/\j<=Z a/\gj=Z a-j/\nc ((a.take j).any (V2 x)=K)/\nc (Ac [] w T)/\nc (Ac [] w2 T))
   case atStart=>exact⟨0,rfl,by omega,rfl,by show _=_;simp,AB,re _ _⟩
   case round=>
    clear AB;obtain⟨j,rfl,hj,AT,L,B0,CC⟩:=hrel;have FA:=Ab AT;clear AT;by_cases t:j<Z a
    .obtain⟨gg,Go,r,d0,W,D⟩:=KE (Ad HO CC) j t;simp only[mu]at r;obtain⟨rfl,_,rfl⟩:=r;obtain⟨AO,I,AR,F⟩:=A1 a[j] (mw t);rw[F]at D;have M:nc ((a[j].name.toList==x.toList)=jj->R=V I):=by
      intro l;have:=Aa HY j t L l;rw[F]at this;rw[<-Aa Bx];exact this
     have G:nc ((a[j].name.toList==x.toList)=K->(a.take (j+1)).any (V2 x)=K):=by
      intro l;rw[Do _ _ j t (Aa L)];exact l
     have q:=Ab (B0.alloc (j1 [X J a[j].place,O a[j].name,U AO I AR].toArray 187));have EK:=Ab (CC.alloc (j1 [X J a[j].place,O a[j].name,U AO I AR].toArray 187));clear F;cases l:(a[j].name.toList==x.toList)with
     |true=>
      have Q:=Ab (M l);clear M G;go_wp2;go_ret2;rw[Aa Q];exact⟨rfl,q⟩
     |false=>
      have Q:=Ab (G l);clear M G;go_wp2
      go_roundg (Z a-(j+1))
      case measure=>have:=Aa FA;omega
      case rel=>exact⟨j+1,by go_num,by omega,rfl,Q,q,EK⟩
    .have P:nc (((b.take (k+1)).flatMap BG).any (V2 x)=K):=by
      have h:=Aa L;rw[mz (by omega)]at h;exact HS h
     go_wp2
     go_roundg (Z b-(k+1))
     case measure=>have:=Aa HG;omega
     case rel=>exact⟨k+1,by go_num,by omega,rfl,P,B0⟩
  .have P:nc (R=Y):=by
    have h:=Aa H;rw[mz (by omega)]at h;show _=_;rw[<-Aa Bx];unfold iq;rw[Mn h];rfl
   go_wp2;go_ret2;rw[P.out];exact⟨rfl,z⟩
theorem MX(AB:Option Addr)(Ax:Nat)(b:rc Ij)(A0:Nat)(t:Option Addr)(s:Nat)(d:rc CU)(w:ly)(AR:oi w A0 187 3 (U AB (Z b) Ax) (Z b) (b.flatMap AW))(H:∀a∈b,∃ad n cp,a.tv=U ad n cp)(EX:Z b<=1001)(A1:∀a∈b,lenOf a.tv<=1000)(h:CE w (U t (Z d) s) d)(W:∀c∈d,Z c.zD<=1000)(BA:Z d<=1000):
  Calls prog 91 #[U AB (Z b) Ax,U t (Z d) s] w λe u=>e=kt (BJ (kn d b))/\Ac [] w u:=by
 have HO:=Ab AR;have CC:=Ab H;have Bx:nc (∀x wr,Ac [] w wr->Calls prog 100 #[O x,U t (Z d) s] wr λe u=>e=kt (BJ ((iq d x).map fun(n:Nat)=>(n:Int)))/\Ac [] wr u):=λx wr L=>P8 x t s d wr (h.kept L) W BA
 obtain⟨R,E⟩:=rd (kn d b);rw[E];have AH:nc ((b.find? (Ta d)).map (λa=>a.place)=R):=E;clear h W E AR H A1;go_enter func91,ntmps91;go_wp2
 go_loopg [12] (Z b) (λgk i wr=>∃(k:Nat),i=X J k/\k<=Z b/\gk=Z b-k/\nc ((b.take k).any (Ta d)=K)/\nc (Ac [] w wr))
 case atStart=>exact⟨0,rfl,by omega,rfl,by show _=_;simp,re _ _⟩
 case round=>
  obtain⟨k,rfl,L,N,B,D⟩:=hrel;have M:=Ab N;clear N;by_cases r:k<Z b
  .obtain⟨g,ES,he,d0,d1,G⟩:=KE (Ad HO D) k r;simp only[mu]at he;obtain⟨rfl,_,rfl⟩:=he;obtain⟨Q,f,S,y⟩:=CC b[k] (mw r);rw[y]at G;have m:nc (Ta d b[k]=jj->R=V b[k].place):=by
    intro C;rw[<-Aa AH,F8 _ _ k r (Aa B) C];rfl
   have o:nc (Ta d b[k]=K->(b.take (k+1)).any (Ta d)=K):=by
    intro C;rw[Do _ _ k r (Aa B)];exact C
   have j:nc (Ta d b[k]=(decide (2<f)||(match iq d b[k].name with|some n=> !(n==f)|none=>K))):=by
    show _=_;unfold Ta;rw[y];rfl
   clear y;have A:=D.alloc (j1 [X J b[k].place,O b[k].name,U Q f S].toArray 187);have P:=Ab (rf wr [X J b[k].place,O b[k].name,U Q f S] 187);have I:=Ab (Bx b[k].name _ A);have T:=Ab A;clear A;(go_wp2_with fail);refine I.mono ?_;rintro e w3 ⟨rfl,z⟩;have F:=P.kept z;have q:=Ab (T.trans z);have c0:=F.cell 0;have c2:=F.cell 2;simp at c0 c2;clear I P T z F d0 d1 G;by_cases v:2<f
   ·(have AT:(2:Int)<(f:Int):=by omega);have l:nc (R=V b[k].place):=m (by rw[Aa j];simp[v]);clear m o j;cases iq d b[k].name with
    |none=>
     simp only[Option.map_none,BJ];go_wp2;go_ret2;rw[Aa l];exact⟨rfl,q⟩
    |some n=>
     simp only[ox,BJ];go_wp2;go_ret2;rw[Aa l];exact⟨rfl,q⟩
   ·(have AT:¬(2:Int)<(f:Int):=by omega);cases hv:iq d b[k].name with
    |none=>
     have l:nc ((b.take (k+1)).any (Ta d)=K):=o (by rw[Aa j,hv];simp[v]);clear m o j hv;simp only[Option.map_none,BJ];go_wp2
     go_roundg (Z b-(k+1))
     case measure=>have:=Aa M;omega
     case rel=>exact⟨k+1,by go_num,by omega,rfl,l,q⟩
    |some n=>
     by_cases p:n=f
     .have l:nc ((b.take (k+1)).any (Ta d)=K):=o (by rw[Aa j,hv];simp[v,p]);(have CL:((f:Int) !=(n:Int))=K:=by rw[p];simp);(have B0:((f:Int)==(n:Int))=jj:=by rw[p];simp);clear m o j hv;simp only[ox,BJ];clear p;go_wp2
      go_roundg (Z b-(k+1))
      case measure=>have:=Aa M;omega
      case rel=>exact⟨k+1,by go_num,by omega,rfl,l,q⟩
     .have l:nc (R=V b[k].place):=m (by rw[Aa j,hv];simp[p]);(have CL:((f:Int) !=(n:Int))=jj:=by simp[bne];omega);(have B0:((f:Int)==(n:Int))=K:=by rw[nj];omega);clear m o j hv;simp only[ox,BJ];go_wp2;go_ret2;rw[Aa l];exact⟨rfl,q⟩
  .have HE:nc (R=Y):=by
    have h:=Aa B;rw[mz (by omega)]at h;show _=_;rw[<-Aa AH,Mn h];rfl
   go_wp2;go_ret2;rw[HE.out];exact⟨rfl,D⟩
def G6(zD:rc Mk):rc AZ:=zD.flatMap λp=>if p.1.sort==0 then p.1.ts else[]
def Yl{a:rc Mk}(b:k<Z a):G6 (a.take (k+1))=G6 (a.take k)++(if a[k].1.sort==0 then a[k].1.ts else[]):=by
 unfold G6;rw[mx b,mY];simp
def UN(a:rc Mk):(G6 a).length<=(A7 a).length:=by
 induction a with
 |nil=>simp[G6]
 |cons p l ih=>
  unfold G6 A7 at*;simp only[mX,mM];have:(if p.1.sort==0 then p.1.ts else[]).length<=(AS p.1).length:=by
   by_cases h:(p.1.sort==0)=true
   .simp[h,AS,Bm]
   .simp[h]
  omega
def Qv(zD:rc Mk)(y:Int):Bool:=(G6 zD).any λt=>t.v==y
def DJ(zD:rc Mk)(t:AZ):Bool:=t.v !=0&& !Qv zD t.v
def cd{h:rc AZ}{c:rc Mk}{g a:rc Int}(i:Hs h g)(f:Hs (G6 c) a):0<Z (g.filter λy=> !LJ a y)↔h.any (DJ c)=jj:=by
 rw[List.length_pos_iff_exists_mem,nX];constructor
 .rintro ⟨y,n⟩;obtain⟨p,k⟩:=mT.1 n;obtain⟨j,t,m,q⟩:=(i.mem y).1 p;refine⟨t,m,?_⟩;unfold DJ Qv;rw[q];have e:((G6 c).any λt=>t.v==y)=K:=by
   rw[oC];intro u d o;have:y∈a:=(f.mem y).2 ⟨j,u,d,by simpa using o⟩;rw[(Sh a y).2 this]at k;cases k
  rw[e];simp[j]
 .rintro ⟨t,r,b⟩;unfold DJ Qv at b;simp only[mV,bne_iff_ne,ne_eq,oJ,oC]at b;refine⟨t.v,mT.2 ⟨(i.mem _).2 ⟨b.1,t,r,rfl⟩,?_⟩⟩;cases e:LJ a t.v with
  |false=>rfl
  |true=>
   obtain⟨_,u,d,l⟩:=(f.mem _).1 ((Sh a _).1 e);exact absurd (by simpa using l) (b.2 u d)
theorem Qd(T:Option Addr)(I:Nat)(c:rc AZ)(bt:Nat)(BS:Option Addr)(A1:Nat)(a:rc Mk)(w:ly)(ht:oi w bt 215 2 (U T (Z c) I) (Z c) (c.flatMap Ar))(h:Cf w 0 (U BS (Z a) A1) a)(H9:Z a<=1000)(B9:∀p∈a,(p.1.sort==0)=jj->0<Z p.1.ts/\Z p.1.ts<=1000)(HW:Z c<=900000)(B:Z (G6 a)<=900000):
  Calls prog 136 #[U T (Z c) I,U BS (Z a) A1] w λe w'=>e=kt (q8 (c.any (DJ a)))/\Ac [] w w':=by
 obtain⟨i0,HP,FC,HY,HL⟩:=nC Tryz.zZ;have CW:nc (∀m d,Hs c m->Hs (G6 a) d->(0<Z (m.filter λy=> !LJ d y)↔c.any (DJ a)=jj)):=λm d h1 h2=>cd h1 h2
 generalize c.any (DJ a)=LB at CW⊢;have HT:=Ab ht;have HB:=Ab h;have HO:=Ab B9;have H0:=Ab B;clear ht h B9 B;go_enter func136,ntmps136;go_wp2
 go_loopg [5,10] (Z a) (λgk o i wr=>∃(k:Nat) (b:rc AZ) (f:Option Addr) (j:Nat),o=U f (Z b) j/\i=X J k/\k<=Z a/\Z b<=k*1000/\gk=Z a-k/\nc (b=G6 (a.take k))/\oi wr w.heap.size 215 2 (U f (Z b) j) (Z b) (b.flatMap Ar)/\nc (Ac [] w wr))
 case atStart=>exact⟨0,[],Y,0,rfl,rfl,by omega,by simp,rfl,by show _=_;simp[G6],mS _ _ _ _,re _ _⟩
 case round=>
  obtain⟨k,b,f,j,rfl,rfl,hk,JA,DT,n,R,x⟩:=hrel;have HG:=Ab DT;clear DT;have KA:=x.size;by_cases E:k<Z a
  .have hB:=HB.kept x;obtain⟨g,KS,l,z,q,BT,AH,EK,d0,d1,d2,d3,d4,d5,d6,d7,d8⟩:=J3 hB k E;simp only[mu]at BT;obtain⟨rfl,_,rfl⟩:=BT;have t:=Ab (Yl E);have A:=Ab (HO a[k] (mw E));rw[AH]at t A;have L:=Ab (Ad EK ((re [] wr).alloc (j1 (j2 (Ay (l,U z (Z l.ts) q))) 217)));clear hB EK AH;have N:=Ab (x.alloc (j1 (j2 (Ay (l,U z (Z l.ts) q))) 217));have H:=mE R (j1 (j2 (Ay (l,U z (Z l.ts) q))) 217);(have AB:w.heap.size<=(wr.alloc (j1 (j2 (Ay (l,U z (Z l.ts) q))) 217)).heap.size:=by simp;omega);simp only[Ay]at L N H AB;cases hs:(l.sort==0)with
   |false=>
    (have M:nc (b=G6 (a.take (k+1))):=by show _=_;rw[Aa t,Aa n];simp[hs]);clear t n A;go_wp2
    go_roundg (Z a-(k+1))
    case measure=>have:=Aa HG;omega
    case rel=>exact⟨k+1,b,f,j,rfl,by go_num,by omega,by omega,rfl,M,H,N⟩
   |true=>
    (have M:nc (b++l.ts=G6 (a.take (k+1))):=by show _=_;rw[Aa t,Aa n];simp[hs]);obtain⟨ES,HH⟩:=A hs;simp only at ES HH;obtain⟨gl,rfl,HC,A0,_,_⟩:=bk L ES;have HR:=Ab A0;(have HF:nc (∀u,(wr.alloc (j1 [X J l.place,X J l.sort,X J l.ap,O l.an,U (V ⟨gl,0,Y⟩) (Z l.ts) q,X q7 l.l.v,O l.l.s,X q7 l.r.v,O l.r.s].toArray 217)).grownBy u (U f (Z b) j).ownBlock->Ac [] w u):=λu hg=>N.grown hg (λk hk=>lx ((R.lt k hk).1)));clear t n A A0 L;(have FA:Z (b++l.ts)<=(k+1)*1000:=by simp;omega);(have H6:k<=1000:=by omega);go_wp2_with (at_builtin;refine mZ _ rfl (.tmp 17) (.tmp 20) _ rfl w.heap.size 215 i0 _ 2 24 underlying185 HP FC HY HL rfl (by omega) (U f (Z b) j) (Z b) (b.flatMap Ar) rfl H ⟨gl,0,Y⟩ (Z l.ts) q (l.ts.flatMap Ar) rfl HC HR (Mf _) (by omega) (by unfold maxLen;omega) (by omega) AB _ rfl ?_;intro g1 FT u HM Go H4 E0)
    go_roundg (Z a-(k+1))
    case measure=>have:=Aa HG;omega
    case rel=>exact⟨k+1,b++l.ts,V ⟨g1,0,Y⟩,FT,by simp,by go_num,by omega,FA,rfl,M,by simpa using HM,HF u Go⟩
  .have HE:nc (b=G6 a):=by
    have h:=Aa n;rw[mz (by omega)]at h;exact h
   (have B:Z b<=900000:=by rw[Aa HE];exact H0);have W:=Ab (MH T I c bt wr (Ad HT x) HW);clear n;(go_wp2_with fail);refine W.mono ?_;rintro e w4 ⟨m,HK,FW,rfl,G,FB,k4⟩;have EY:=Ad R k4;have EM:=Ab (MH f j b w.heap.size w4 EY B);have EX:=Ab (x.trans k4);have HS:=Ab G;have E0:=G.le;clear W G;(go_wp2_with fail);refine EM.mono ?_;rintro e w5 ⟨d,HV,HN,rfl,C,HD,k5⟩;have FL:=Ad FB k5;have KD:=C.le;have S:=Ab (W8 HK FW m HV HN d _ _ w5 FL HD (by omega) (by omega) C.zG);have FP:=Ab (EX.trans k5);have Q:=Ab (CW m d HS (by rw[<-Aa HE];exact C));clear EM C;generalize(m.filter λy=> !LJ d y)=F at S Q;(go_wp2_with fail);refine S.mono ?_;rintro e w6 ⟨K3,IA,rfl,K2,k6⟩;have AR:=Ab (FP.trans k6);clear S;by_cases AT:0<Z F
   ·(have P:(0:Int)<(Z F:Int):=by omega);have D:nc (LB=jj):=Q.1 AT;go_wp2;go_ret;rw[D.out];exact⟨by simp[P],AR⟩
   ·(have P:¬(0:Int)<(Z F:Int):=by omega);have D:nc (LB=K):=by
     cases hb:LB with
     |false=>rfl
     |true=>exact absurd (Q.2 hb) AT
    go_wp2;go_ret;rw[D.out];exact⟨by simp[P],AR⟩
theorem I8(f:Option Addr)(s:Nat)(a:rc Mk)(w:ly)(h:Cf w 0 (U f (Z a) s) a)(B0:Z a<=1000)(T:∀p∈a,(p.1.sort==0)=jj->0<Z p.1.ts/\Z p.1.ts<=1000)(L:∀p∈a,Z (AS p.1)<=1000)(G:Z (G6 a)<=900000):
  Calls prog 93 #[U f (Z a) s] w λe u=>e=kt (BJ ((a.find? λp=>(AS p.1).any (DJ a)).map λp=>p.1.place))/\Ac [] w u:=by
 have HB:=Ab h;have CW:=Ab L;have AO:nc (∀(m:Option Addr) (o:Nat) (b:rc AZ) (wr:ly),Ac [] w wr->oi wr 0 215 2 (U m (Z b) o) (Z b) (b.flatMap Ar)->Z b<=900000->Calls prog 136 #[U m (Z b) o,U f (Z a) s] wr λe u=>e=kt (q8 (b.any (DJ a)))/\Ac [] wr u):=λm o b wr M hr hl=>Qd m o b 0 f s a wr hr (h.kept M) B0 T hl G
 obtain⟨R,E⟩:=rd ((a.find? λp=>(AS p.1).any (DJ a)).map λp=>p.1.place);rw[E];have AB:=Ab E;clear h L E T G;go_enter func93,ntmps93;go_wp2
 go_loopg [8] (Z a) (λgk i wr=>∃(k:Nat),i=X J k/\k<=Z a/\gk=Z a-k/\nc ((a.take k).any (λp=>(AS p.1).any (DJ a))=K)/\nc (Ac [] w wr))
 case atStart=>exact⟨0,rfl,by omega,rfl,by show _=_;simp,re _ _⟩
 case round=>
  obtain⟨k,rfl,M,Q,z,B⟩:=hrel;have HG:=Ab Q;clear Q;by_cases d:k<Z a
  .obtain⟨g,EY,q,l,t,I,c,W,d0,d1,d2,d3,d4,d5,d6,d7,d8⟩:=J3 (HB.kept B) k d;simp only[mu]at I;obtain⟨rfl,_,rfl⟩:=I;have C:=Aa CW a[k] (mw d);have n:nc ((AS q).any (DJ a)=jj->R=V q.place):=by
    intro A;rw[<-Aa AB,F8 _ _ k d (Aa z) (by rw[c];exact A),c];rfl
   have r:nc ((AS q).any (DJ a)=K->(a.take (k+1)).any (λp=>(AS p.1).any (DJ a))=K):=by
    intro A;rw[Do _ _ k d (Aa z)];rw[c];exact A
   rw[c]at C;simp only at C;have D:=Ab (NR q l t (wr.alloc (j1 (j2 (Ay (q,U l (Z q.ts) t))) 217)) (Ad W ((re [] wr).alloc _)));have hN:=Ab (rf wr (Ay (q,U l (Z q.ts) t)) 217);have AH:=Ab (B.alloc (j1 (j2 (Ay (q,U l (Z q.ts) t))) 217));clear W c;simp only[Ay]at D;(go_wp2_with fail);refine D.mono ?_;rintro e w3 ⟨A1,EK,rfl,P,x⟩;have S:=Ab (hN.kept x);have H:=Ab (AH.trans x);have j:=Ab (AO A1 EK (AS q) w3 H P (by omega));clear D P x hN AH d0 d1 d2 d3 d4 d5 d6 d7 d8;generalize(AS q).any (DJ a)=LB at j n r;generalize Z (AS q)=tl at j C⊢;(go_wp2_with fail);refine j.mono ?_;rintro e w5 ⟨rfl,y⟩;have v:=S.kept y;have N:=Ab (H.trans y);clear j y S;cases LB with
   |true=>
    have F:=Ab (n rfl);have c0:=v.cell 0;simp[Ay]at c0;clear n r v;go_wp2;go_ret2;rw[Aa F];exact⟨rfl,N⟩
   |false=>
    have F:=Ab (r rfl);clear n r v;go_wp2
    go_roundg (Z a-(k+1))
    case measure=>have:=Aa HG;omega
    case rel=>exact⟨k+1,by go_num,by omega,rfl,F,N⟩
  .have HE:nc (R=Y):=by
    have h:=Aa z;rw[mz (by omega)]at h;show _=_;rw[<-Aa AB,Mn h];rfl
   go_wp2;go_ret2;rw[HE.out];exact⟨rfl,B⟩
def Qx(c:CU)(t:AZ):Bool:=t.v !=0&& !Qv c.zD t.v
def IQ(c:CU):Option Int:=if c.zE.any (Qx c)then V c.hp else(c.zD.find? λp=>(AS p.1).any (Qx c)).map λp=>p.1.place
def OJ{α:Type}{f g:α->Bool}:∀{l:rc α},(∀x∈l,f x=g x)->l.any f=l.any g
 |[],_=>rfl
 |x::l,h=>by rw[pZ,pZ,h x (by simp),OJ (λy a=>h y (by simp[a]))]
def Pi{α:Type}{f g:α->Bool}:∀{l:rc α},(∀x∈l,f x=g x)->l.find? f=l.find? g
 |[],_=>rfl
 |x::l,h=>by rw[pI,pI,h x (by simp),Pi (λy a=>h y (by simp[a]))]
theorem QN(c:CU)(w:ly)(h:JY w 0 c.hv c.bv c.zE c.zD)(f:Lo c)(C:Z (Bn c)<=900000):
  Calls prog 120 #[oj (j2 (Bc c))] w λe q=>e=kt (BJ (IQ c))/\Ac [] w q:=by
 have o:Z (G6 c.zD)<=900000:=by
  have:=UN c.zD;simp only[Bn,mM]at C;omega
 have A:Z c.zE<=900000:=by have:=f.head.2;omega
 have j:∀p∈c.zD,(p.1.sort==0)=jj->0<Z p.1.ts/\Z p.1.ts<=1000:=λp b M=>⟨(f.each p b).1 (by simp[Bm,M]),(f.each p b).2⟩
 have s:∀p∈c.zD,Z (AS p.1)<=1000:=λp b=>(f.zR b).2
 have v:=f.lits;have d:nc (IQ c=if c.zE.any (DJ c.zD)then V c.hp else(c.zD.find? λp=>(AS p.1).any (DJ c.zD)).map λp=>p.1.place):=rfl;generalize IQ c=U at d⊢;clear f C;obtain⟨b,H,k,R,S,a⟩:=c;simp only at h o A j s v d;obtain⟨x,t,rfl⟩:=Al h.head;obtain⟨g,i,rfl⟩:=Al h.body.row;have G:=Ab (rf w [X J b,O H,.slice x (Z k) t,.slice g (Z a) i] 189);have l:=(re [] w).alloc (j1 [X J b,O H,.slice x (Z k) t,.slice g (Z a) i].toArray 189);have n:=Ab (Qd x t k 0 g i a _ (Ad h.head l) (h.body.kept l) v j A o);have z:nc (∀wr,Ac [] w wr->Calls prog 93 #[.slice g (Z a) i] wr λe q=>e=kt (BJ ((a.find? λp=>(AS p.1).any (DJ a)).map λp=>p.1.place))/\Ac [] wr q):=λwr I=>I8 g i a wr (h.body.kept I) v j s o
 have D:=Ab l;generalize((a.find? λp=>(AS p.1).any (DJ a)).map λp=>p.1.place)=FO at z d;generalize k.any (DJ a)=LB at n d;clear h l j s;simp only[Bc];go_enter func120,ntmps120;go_wp2_with fail
 refine n.mono ?_;rintro e N ⟨rfl,y⟩;have r:=G.kept y;have u:=Ab (D.trans y);have P:=r.cell 0;have L:=r.cell 3;simp at P L;have F:=Ab (z N u);clear n G D y r z;cases LB with
 |true=>
  have m:nc (U=V b):=by have h:=Aa d;exact h
  clear d;go_wp2;go_ret2;rw[Aa m];exact⟨rfl,u⟩
 |false=>
  have m:nc (U=FO):=by have h:=Aa d;exact h
  clear d;go_wp2_with fail
  refine F.mono ?_;rintro e Q ⟨rfl,B⟩;have E:=Ab (u.trans B);clear F B;cases FO with
  |none=>
   simp only[BJ];go_wp2;go_ret2;rw[Aa m];exact⟨rfl,E⟩
  |some p=>
   simp only[BJ];go_wp2;go_ret2;rw[Aa m];exact⟨rfl,E⟩
structure Wu(b:Nat)(w w':ly):Prop where
 os:w'.os=w.os
 tape:w'.tape=w.tape
 output:w'.output=w.output
 size:w.heap.size<=w'.heap.size
 block:∀k,k<b->w'.heap[k]?=w.heap[k]?
def Wu.refl(b:Nat)(w:ly):Wu b w w:=⟨rfl,rfl,rfl,mP _,λ_ _=>rfl⟩
def Wu.trans{b:Nat}{u v w:ly}(h:Wu b u v)(k:Wu b v w):Wu b u w:=⟨k.os.trans h.os,k.tape.trans h.tape,k.output.trans h.output,nD h.size k.size,λi a=>(k.block i a).trans (h.block i a)⟩
def Wu.of(k:Ac M w v)(d:b<=w.heap.size)(a:∀i,i∈M->b<=i):Wu b w v:=
 ⟨k.os,k.tape,k.output,k.size,λi c=>k.block i (by omega) (λh=>by have:=a i h;omega)⟩
def Wu.setCell{b:Nat}{u w:ly}(h:Wu b u w){p:Addr}(a:b<=p.block)(v:ml):Wu b u (w.setCell p v):=
 h.trans ⟨rfl,rfl,rfl,by simp,λk c=>qE _ _ _ _ (by omega)⟩
def Wu.kept{w w':ly}(h:Wu b w w')(c:w.heap.size<=b):Ac [] w w':=⟨h.os,h.tape,h.output,h.size,λk a _=>h.block k (by omega)⟩
def LV(h:oi w m T j z n y)(k:Wu b w u)(c:∀i,z.ownBlock=V i->i<b):oi u m T j z n y:=by
 refine⟨h.1,?_⟩;rcases h.2 with p|⟨g,d,a,rfl,l,f,o⟩
 .exact .inl p
 .refine .inr ⟨g,d,a,rfl,l,?_,o⟩;rw[k.block g (c g rfl)];exact f
structure gU(w:ly)(b:Nat)(c:CU):Prop where
 at_:JY w 0 c.hv c.bv c.zE c.zD
 lt1:∀k,c.hv.ownBlock=V k->k<b
 lt2:∀k,c.bv.ownBlock=V k->k<b
 lt3:∀p∈c.zD,∀k,p.2.ownBlock=V k->k<b
def gU.low{c:CU}(h:gU w b c)(k:Wu b w v):gU v b c:=
 ⟨⟨LV h.at_.head k h.lt1,⟨LV h.at_.body.row k h.lt2,λp a=>⟨LV (h.at_.body.each p a).1 k (h.lt3 p a),(h.at_.body.each p a).2⟩⟩⟩,h.lt1,h.lt2,h.lt3⟩
structure Fv(w:ly)(b:Nat)(n:Int)(nv tv:ml)(names zC:rc zA):Prop where
 zO:AI w b [X J n,nv,tv] 210
 rn:oi w (b+1) 9 1 nv (Z names) (names.flatMap Ai)
 rt:oi w (b+1) 170 1 tv (Z zC) (zC.flatMap Ai)
 ant:Ce nv tv
 rin:C6 Hx names
 rit:C6 Hx zC
def Fv.kept{w w':ly}{b:Nat}{n:Int}{a c:ml}{e d:rc zA}(h:Fv w b n a c e d)(k:Ac [] w w'):Fv w' b n a c e d:=
 ⟨h.zO.kept k,Ad h.rn k,Ad h.rt k,h.ant,h.rin,h.rit⟩
def Ce.symm{u v:ml}(h:Ce u v):Ce v u:=λk b a=>h k a b
theorem Ti(b:Nat)(n:Nat)(q m:ml)(c a:rc zA)(w:ly)(h:Fv w b n q m c a):
  Calls prog 117 #[.pointer (V ⟨b,0,Y⟩)] w λe l=>e=kt (q8 (decide (12<n)||decide (6<Z c)||decide (6<Z a)))/\l=w:=by
 obtain⟨u,y,rfl⟩:=Al h.rn;obtain⟨x,v,rfl⟩:=Al h.rt;have t:=h.zO.cell 0;have o:=h.zO.cell 1;have p:=h.zO.cell 2;simp at t o p;clear h;obtain⟨f,i⟩:=rd (decide (12<n)||decide (6<Z c)||decide (6<Z a));rw[i];have g:=Ab i;clear i;by_cases k:12<n
 .have s:(12:Int)<(n:Int):=by omega
  have d:nc (f=jj):=by show _=_;rw[<-Aa g];simp[k]
  go_enter func117,ntmps117;go_wp2;go_ret;rw[Aa d];exact⟨by simp,rfl⟩
 .have s:¬(12:Int)<(n:Int):=by omega
  by_cases j:6<Z c
  ·(have r:(6:Int)<(Z c:Int):=by omega);(have d:nc (f=jj):=by show _=_;rw[<-Aa g];simp[j]);go_enter func117,ntmps117;go_wp2;go_ret;rw[Aa d];exact⟨by simp,rfl⟩
  ·(have r:¬(6:Int)<(Z c:Int):=by omega);have d:nc (f=decide ((6:Int)<(Z a:Int))):=by
    show _=_;rw[<-Aa g];have e:decide ((6:Int)<(Z a:Int))=decide (6<Z a):=by
     by_cases h:6<Z a
     ·(have:(6:Int)<(Z a:Int):=by omega);simp[h,this]
     ·(have:¬(6:Int)<(Z a:Int):=by omega);simp[h,this]
    rw[e];simp[k,j]
   go_enter func117,ntmps117;go_wp2;go_ret;rw[Aa d];exact⟨by simp,rfl⟩
def Fv.setN{n m:Int}{a c:ml}{f g:rc zA}(h:Fv w b n a c f g):Fv (w.setCell ⟨b,0,Y⟩ (X J m)) b m a c f g:=by
 have d:∀{e:TypeId} {i:Nat} {v:ml} {k:Nat} {j:rc ml},oi w (b+1) e i v k j->v.ownBlock≠V b:=λh e=>by have:=(h.lt b e).1;omega
 exact⟨h.zO.set 0 _,Ah h.rn (p:=⟨b,0,Y⟩) (d h.rn) _,Ah h.rt (p:=⟨b,0,Y⟩) (d h.rt) _,h.ant,h.rin,h.rit⟩
def T3{v b u:ml}(f:oi w n T m u k y)(d:Ce v u)(g:∀q,b.ownBlock=V q->v.ownBlock=V q\/w.heap.size<=q):Ce b u:=λq c a=>by
 rcases g q c with h|h
 .exact d q h a
 .have:=(f.lt q a).2;omega
def Fv.names{w a:ly}{b:Nat}{n:Int}{c g:ml}{x t:rc zA}(h:Fv w b n c g x t){f:ml}{d:rc zA}
  (o:Ac c.ownBlock.toList w a) (r:oi a (b+1) 9 1 f (Z d) (d.flatMap Ai)) (B:∀q,f.ownBlock=V q->c.ownBlock=V q\/w.heap.size<=q) (y:C6 Hx d):
  Fv (a.setCell ⟨b,1,Y⟩ f) b n f g d t/\oa a ⟨b,1,Y⟩=V c/\a.frozen? ⟨b,1,Y⟩=K:=by
 have l:∀{w:ly} {e:TypeId} {u:Nat} {v:ml} {k:Nat} {z:rc ml},oi w (b+1) e u v k z->v.ownBlock≠V b:=λh e=>by have:=(h.lt b e).1;omega
 have m:AI a b [X J n,c,g] 210:=h.zO.kept o (λj=>l h.rn (by simpa using j));have s:=Ag h.rt o (λi A j=>h.ant i (by simpa using j) A);exact⟨⟨m.set 1 _,Ah r (p:=⟨b,1,Y⟩) (l r) _,Ah s (p:=⟨b,1,Y⟩) (l s) _,T3 h.rt h.ant B,y,h.rit⟩,m.cell 1,m.frozen 1⟩
def Fv.zC{w a:ly}{b:Nat}{n:Int}{g c:ml}{s A:rc zA}(h:Fv w b n g c s A){d:ml}{f:rc zA}
  (o:Ac c.ownBlock.toList w a) (r:oi a (b+1) 170 1 d (Z f) (f.flatMap Ai)) (y:∀q,d.ownBlock=V q->c.ownBlock=V q\/w.heap.size<=q) (x:C6 Hx f):
  Fv (a.setCell ⟨b,2,Y⟩ d) b n g d s f/\oa a ⟨b,2,Y⟩=V c/\a.frozen? ⟨b,2,Y⟩=K:=by
 have l:∀{w:ly} {e:TypeId} {u:Nat} {v:ml} {k:Nat} {z:rc ml},oi w (b+1) e u v k z->v.ownBlock≠V b:=λh e=>by have:=(h.lt b e).1;omega
 have m:AI a b [X J n,g,c] 210:=h.zO.kept o (λj=>l h.rt (by simpa using j));have t:=Ag h.rn o (λi B j=>h.ant i B (by simpa using j));exact⟨⟨m.set 2 _,Ah t (p:=⟨b,2,Y⟩) (l t) _,Ah r (p:=⟨b,2,Y⟩) (l r) _,(T3 h.rn h.ant.symm y).symm,h.rin,x⟩,m.cell 2,m.frozen 2⟩
def Fv.yM{c d:ml}{e f:rc zA}(h:Fv w b I c d e f):(∀i,i∈c.ownBlock.toList->b<=i)/\(∀i,i∈d.ownBlock.toList->b<=i):=
 ⟨λi a=>by have:=(h.rn.lt i (by simpa using a)).1;omega,λi a=>by have:=(h.rt.lt i (by simpa using a)).1;omega⟩
def Wu.drew{b:Nat}{u w:ly}(h:Wu b u w):Wu b u w.drew:=⟨h.os,h.tape,h.output,h.size,h.block⟩
def Fv.drew{w:ly}{b:Nat}{n:Int}{a c:ml}{e d:rc zA}(h:Fv w b n a c e d):Fv w.drew b n a c e d:=h.kept (re [] w).drew
structure i7(M:rc Nat)(b N:Nat)(cs:rc ml)(u w':ly)(i:Nat)(old new:ml)(n:Int)(nv tv:ml)(names zC:rc zA):Prop where
 cell:oa w' ⟨b,i,Y⟩=V old
 frozen:w'.frozen? ⟨b,i,Y⟩=K
 cen:Fv (w'.setCell ⟨b,i,Y⟩ new) b n nv tv names zC
 low:Ac M u (w'.setCell ⟨b,i,Y⟩ new)
 box:AI (w'.setCell ⟨b,i,Y⟩ new) N cs 189
def Fx(ts:rc AZ)(l l':rc zA):Prop:=∀y,y∈l'↔(∃t∈ts,t.v=0/\t.s=y)\/y∈l
structure I1(base:Nat)(lv:ml)(l:rc zA)(ts:rc AZ)(w:ly)(l':rc zA)(ad':Option Addr)(cp':Nat)(w':ly):Prop where
 zG:C6 Hx l'
 mem:Fx ts l l'
 le:Z l'<=Z l+Z ts
 own:oi w' base 170 1 (U ad' (Z l') cp') (Z l') (l'.flatMap Ai)
 kept:Ac lv.ownBlock.toList w w'
 new:∀k,(U ad' (Z l') cp').ownBlock=V k->lv.ownBlock=V k\/w.heap.size<=k
def Fx.skip{l d:rc zA}{c:rc AZ}(e:k<Z c)(f:c[k].v≠0)(h:Fx (c.take k) l d):Fx (c.take (k+1)) l d:=by
 intro y;rw[h y,mx e];constructor
 .rintro (⟨t,a,b⟩|a)
  .exact lo ⟨t,nS _ a,b⟩
  .exact lx a
 .rintro (⟨t,a,b⟩|a)
  .rcases mF.1 a with a|a
   .exact lo ⟨t,a,b⟩
   .simp only[my]at a;subst a;exact absurd b.1 f
  .exact lx a
def Fx.take{l d e:rc zA}{b:rc AZ}{k:Nat}(f:k<Z b)(g:b[k].v=0)(h:Fx (b.take k) l d)(q2:∀y,y∈e↔y=b[k].s\/y∈d):Fx (b.take (k+1)) l e:=by
 intro y;rw[q2,h y,mx f];constructor
 .rintro (a|⟨t,a,c⟩|a)
  .exact lo ⟨b[k],List.mem_append_right _ (my.2 rfl),g,a.symm⟩
  .exact lo ⟨t,nS _ a,c⟩
  .exact lx a
 .rintro (⟨t,a,c⟩|a)
  .rcases mF.1 a with a|a
   .exact lx (lo ⟨t,a,c⟩)
   .simp only[my]at a;subst a;exact lo c.2.symm
  .exact lx (lx a)
theorem MJ(c:CU)(f:Option Addr)(d:Nat)(l:rc zA)(n:Nat)(w:ly)(h:JY w 0 c.hv c.bv c.zE c.zD)(hf:Lo c)(hT:Z (Bn c)<=90000)
  (hl:oi w n 170 1 (U f (Z l) d) (Z l) (l.flatMap Ai)) (FC:Z l<=900000) (hr:C6 Hx l) (FL:n<=w.heap.size):
  Calls prog 148 #[U f (Z l) d,oj (j2 (Bc c))] w λe w'=>∃l' BA A1,e=kt (U BA (Z l') A1)/\I1 n (U f (Z l) d) l (Bn c) w l' BA A1 w':=by
 have B:=Ab (RR c (w.alloc (j1 (j2 (Bc c)) 189)) (h.kept ((re [] w).alloc _)) hf);generalize Bn c=TV at B hT⊢;obtain⟨hp,hn,HF,R,bv,HH⟩:=c;simp only at h;obtain⟨Ha,FP,rfl⟩:=Al h.head;obtain⟨FF,HI,rfl⟩:=Al h.body.row;have HL:=Ab hl;have EY:=Ab hr;clear h hl hr hf;simp only[Bc]at B⊢;go_enter func148,ntmps148;go_wp2_with fail
 refine B.mono ?_;rintro e r ⟨CL,AH,rfl,S,Q⟩;have H:nc (Ac [] w r):=((re [] w).alloc _).trans Q;have HB:w.heap.size+1<=r.heap.size:=by have:=Q.size;simpa using this
 have HO:=Ab (Ak S (show w.heap.size<=_ by simp));clear B S Q;go_wp2
 go_loopg [0,10] (Z TV) (λgk o i wr=>∃(k:Nat) (m:rc zA) (b:Option Addr) (j:Nat),o=U b (Z m) j/\i=X J k/\k<=Z TV/\gk=Z TV-k/\Z m<=Z l+k/\nc (I1 n (U f (Z l) d) l (TV.take k) w m b j wr)/\nc (oi wr w.heap.size 215 2 (U CL (Z TV) AH) (Z TV) (TV.flatMap Ar))/\nc (∀q,(U b (Z m) j).ownBlock=V q->(U f (Z l) d).ownBlock=V q\/r.heap.size<=q)/\r.heap.size<=wr.heap.size)
 case atStart=>exact⟨0,l,f,d,rfl,rfl,by omega,rfl,by omega,⟨EY,λy=>by simp,by omega,Ad HL H,H.mono (by simp),λk T=>lo T⟩,HO,λq t=>lo t,by omega⟩
 case round=>
  clear H;obtain⟨k,m,b,j,rfl,rfl,T,AO,HC,p,u,A,FB⟩:=hrel;have W:=Ab AO;clear AO;by_cases C:k<Z TV
  .obtain⟨g,HA,he,d0,d1⟩:=FJ u k C;simp only[mu]at he;obtain⟨rfl,_,rfl⟩:=he;have P:Ac [] wr (wr.alloc (j1 [X q7 TV[k].v,O TV[k].s].toArray 215)):=(re [] wr).alloc _;have A0:=Ab (Ad u P);(have Ax:r.heap.size<=(wr.alloc (j1 [X q7 TV[k].v,O TV[k].s].toArray 215)).heap.size:=by simp;omega);cases R:(TV[k].v==0)with
   |false=>
    (have x:TV[k].v≠0:=by simpa using R);have N:nc (I1 n (U f (Z l) d) l (TV.take (k+1)) w m b j (wr.alloc (j1 [X q7 TV[k].v,O TV[k].s].toArray 215))):=by
     have a:=Aa p;refine⟨a.zG,a.mem.skip C x,?_,mE a.own _,a.kept.alloc _,a.new⟩;have:=a.le;simp only[nu]at this⊢;omega
    clear p u P x;go_wp2
    go_roundg (Z TV-(k+1))
    case measure=>have:=Aa W;omega
    case rel=>exact⟨k+1,m,b,j,rfl,by go_num,by omega,rfl,by omega,N,A0,A,Ax⟩
   |true=>
    (have x:TV[k].v=0:=by simpa using R);have HZ:=Ab x;have B9:=Ab (XU b j m TV[k].s n (wr.alloc (j1 [X q7 TV[k].v,O TV[k].s].toArray 215)) (mE p.own _) (by omega) p.zG (by simp;omega));clear x P;(go_wp2_with fail);refine B9.mono ?_;rintro e z ⟨M,E,G,rfl,q1,q2,q3,q4,q5,F,D⟩;have I:Ac (U b (Z m) j).ownBlock.toList wr z:=((re _ wr).alloc _).trans F;(have FT:wr.heap.size+1<=z.heap.size:=by have:=F.size;simpa using this);have N:nc (I1 n (U f (Z l) d) l (TV.take (k+1)) w M E G z):=by
     have a:=Aa p;refine⟨q1,a.mem.take C HZ q2,?_,q5,a.kept.trans' I (λi L=>?_),λq t=>?_⟩
     .have:=a.le;simp only[nu]at this⊢;omega
     .rcases a.new i (by simpa using L)with h|h
      .exact lo (by simp[h])
      .exact lx h
     .rcases D q t with h|h
      .exact a.new q h
      .exact lx (by have:=a.kept.size;simp at h;omega)
    have EX:nc (oi z w.heap.size 215 2 (U (V ⟨g,0,Y⟩) (Z TV) AH) (Z TV) (TV.flatMap Ar)):=by
     refine Ag u I (λi L hm=>?_);have h1:=(HO.lt i L);rcases A i (by simpa using hm)with h|h
     .have:=(HL.lt i h).2;omega
     .omega
    have EK:nc (∀q,(U E (Z M) G).ownBlock=V q->(U f (Z l) d).ownBlock=V q\/r.heap.size<=q):=by
     intro q t;rcases D q t with h|h
     .exact A q h
     .exact lx (by simp at h;omega)
    clear B9 q1 q2 q3 q5 F D I p u A0 Ax A d0 d1;go_wp2
    go_roundg (Z TV-(k+1))
    case measure=>have:=Aa W;omega
    case rel=>exact⟨k+1,M,E,G,rfl,by go_num,by omega,rfl,by omega,N,EX,EK,by omega⟩
  .have HE:nc (I1 n (U f (Z l) d) l TV w m b j wr):=by
    have h:=Aa p;rw[mz (by omega)]at h;exact h
   go_wp2;go_ret;exact⟨m,b,j,rfl,HE⟩
theorem cM(b:Nat)(n:Nat)(nv tv:ml)(r q:rc zA)(c:CU)(w:ly)(h:Fv w b n nv tv r q)(hc:gU w b c)(hf:Lo c)(hT:Z (Bn c)<=90000)(hn:n<=1000)(HX:Z r<=800000)(H5:Z q<=800000):
  Calls prog 116 #[.pointer (V ⟨b,0,Y⟩),oj (j2 (Bc c))] w λe g=>e=kt (.tuple #[])/\∃HN HQ FB ES,Fv g b ((n+1:Nat):Int) HN HQ FB ES/\(∀y,y∈FB↔y∈Cu c\/y∈r)/\Fx (Bn c) q ES/\Z FB<=Z r+1001/\Z ES<=Z q+90000/\Ac (b::(nv.ownBlock.toList++tv.ownBlock.toList)) w g:=by
 have H1:=h.zO.lt;obtain⟨S,R,rfl⟩:=Al h.rn;obtain⟨I,G,rfl⟩:=Al h.rt;obtain⟨M,BT⟩:=rd (b::((U S (Z r) R).ownBlock.toList++(U I (Z q) G).ownBlock.toList));rw[BT];have T:nc (b∈M/\(∀i,i∈(U S (Z r) R).ownBlock.toList->i∈M)/\(∀i,i∈(U I (Z q) G).ownBlock.toList->i∈M)):=by
  rw[<-BT];exact⟨by simp,λi f=>by simp only[mA,mF];exact lx (lo f),λi f=>by simp only[mA,mF];exact lx (lx f)⟩
 have HF:nc (∀wr,Ac M w wr->Wu b w wr):=by
  intro wr W;refine Wu.of W (by omega) (λi f=>?_);rw[<-BT]at f;simp only[mA,mF]at f;rcases f with f|f|f
  .omega
  .exact h.yM.1 i f
  .exact h.yM.2 i f
 clear BT;have AR:nc (∀wr A C l,Wu b w wr->oi wr (b+1) 170 1 (U A (Z l) C) (Z l) (l.flatMap Ai)->Z l<=900000->C6 Hx l->b+1<=wr.heap.size->Calls prog 148 #[U A (Z l) C,oj (j2 (Bc c))] wr λe g=>∃a k j,e=kt (U k (Z a) j)/\I1 (b+1) (U A (Z l) C) l (Bn c) wr a k j g):=λwr A C l W h1 h2 h3 h4=>MJ c A C l (b+1) wr (hc.low W).at_ hf hT h1 h2 h3 h4
 have DT:nc (∀wr A C l,Wu b w wr->oi wr (b+1) 9 1 (U A (Z l) C) (Z l) (l.flatMap Ai)->Z l<=900000->C6 Hx l->b+1<=wr.heap.size->Calls prog 164 #[U A (Z l) C,oj (j2 (Bc c))] wr λe g=>∃a k j,e=kt (U k (Z a) j)/\O6 (b+1) (U A (Z l) C) l (Cu c) wr a k j g):=λwr A C l W h1 h2 h3 h4=>N9 c A C l (b+1) wr (hc.low W).at_ hf.lits h1 h2 h3 h4
 have HB:nc (Z (Cu c)<=1001):=by
  show _<=_;have:=hf.lits;have h2:=oo (λp=>Bm p.1) c.zD;simp only[Cu,GT,mL,mI];omega
 generalize Bn c=TV at AR hT⊢;generalize Cu c=NV at DT HB⊢;obtain⟨D,v,B,hv,bv,t⟩:=c;have CC:=hc.at_;clear hc hf;simp only at CC;obtain⟨E,s,rfl⟩:=Al CC.head;obtain⟨z,x,rfl⟩:=Al CC.body.row;clear CC;simp only[Bc]at AR DT⊢;have c0:=h.zO.cell 0;have cf:=h.zO.frozen;have d0:=λo=>(h.zO.alloc o).cell 0
 have df:=λo=>(h.zO.alloc o).frozen
 simp at c0 d0;have q1:¬b=w.heap.size:=by omega
 have q2:¬w.heap.size=b:=by omega
 have H0:=Ab h;clear h;go_enter func116,ntmps116;go_wp2_with fail
 obtain⟨N,AB⟩:=rd w.heap.size;have HZ:b<N:=by omega
 have H:nc (AI ((w.setCell ⟨b,0,Y⟩ (X J ((n:Int)+1))).alloc (j1 [X J D,O v,U E (Z B) s,U z (Z t) x].toArray 189)) N [X J D,O v,U E (Z B) s,U z (Z t) x] 189):=by
  have hh:=rf (w.setCell ⟨b,0,Y⟩ (X J ((n:Int)+1))) [X J D,O v,U E (Z B) s,U z (Z t) x] 189;rw[show(w.setCell ⟨b,0,Y⟩ (X J ((n:Int)+1))).heap.size=N from by simp[AB]]at hh
  exact hh
 have F:=Ab ((H0.setN (m:=(n:Int)+1)).kept ((re [] _).alloc (j1 [X J D,O v,U E (Z B) s,U z (Z t) x].toArray 189)));have BS:nc (Ac M w ((w.setCell ⟨b,0,Y⟩ (X J ((n:Int)+1))).alloc (j1 [X J D,O v,U E (Z B) s,U z (Z t) x].toArray 189))):=((re M w).setCell (p:=⟨b,0,Y⟩) (lo T.1) _).alloc _;have HO:nc ((U S (Z r) R).ownBlock≠V N/\(U I (Z q) G).ownBlock≠V N):=⟨λe=>by have:=(H0.rn.lt _ e).2;omega,λe=>by have:=(H0.rt.lt _ e).2;omega⟩;have HT:N+1<=((w.setCell ⟨b,0,Y⟩ (X J ((n:Int)+1))).alloc (j1 [X J D,O v,U E (Z B) s,U z (Z t) x].toArray 189)).heap.size:=by simp[AB]
 clear c0 cf d0 df q1 q2 H0;change Code.wp _ _ _ _ ((w.setCell ⟨b,0,Y⟩ (X J ((n:Int)+1))).alloc (j1 [X J D,O v,U E (Z B) s,U z (Z t) x].toArray 189));generalize(w.setCell ⟨b,0,Y⟩ (X J ((n:Int)+1))).alloc (j1 [X J D,O v,U E (Z B) s,U z (Z t) x].toArray 189)=w1 at H F BS HT⊢;rw[AB];have H3:=Ab AB;clear AB;have DG:nc (Calls prog 164 #[U S (Z r) R,oj #[X J D,O v,U E (Z B) s,U z (Z t) x]] w1.drew λe g=>∃a k j,e=kt (U k (Z a) j)/\i7 M b N [X J D,O v,U E (Z B) s,U z (Z t) x] w g 1 (U S (Z r) R) (U k (Z a) j) ((n:Int)+1) (U k (Z a) j) (U I (Z q) G) a q/\(∀y,y∈a↔y∈NV\/y∈r)/\Z a<=Z r+1001/\N+1<=g.heap.size):=by
  refine(DT w1.drew S R r (HF _ BS.drew) F.drew.rn (by omega) F.rin (by show b+1<=w1.heap.size;omega)).mono ?_;rintro e g ⟨a,k,j,rfl,d⟩;obtain⟨EY,E0,FF⟩:=F.drew.names d.kept d.own d.new d.zG;have HW:=F.drew.yM.1;refine⟨a,k,j,rfl,⟨E0,FF,EY,?_,?_⟩,d.mem,by have:=d.le;have:=Aa HB;omega,by have:=d.kept.size;have h2:w1.drew.heap.size=w1.heap.size:=rfl;omega⟩
  .exact(BS.drew.trans' d.kept (λi f=>lo (T.2.1 i f))).setCell (p:=⟨b,1,Y⟩) (lo T.1) _
  .exact(H.drew.kept d.kept (λhm=>HO.1 (by simpa using hm))).zB ⟨b,1,Y⟩ (by simp;omega) _
 have e1:=F.zO.cell 1;have b0:=H.cell 0;have b1:=H.cell 1;have b2:=H.cell 2;have b3:=H.cell 3;simp at e1 b0 b1 b2 b3;clear DT F BS H
 go_region_law
  (go_simp;go_at_call 164;refine DG.mono ?_;rintro e wt ⟨a,k,j,rfl,A2,HC,HI,HJ⟩;have HD:=A2.cell;have Go:=A2.frozen;have EM:=Ab A2;clear A2)
 all_goals
  have BA:=Ab EM.cen;have B2:=Ab EM.low;have Q:=Ab EM.box;have HM:N+1<=(wt.setCell ⟨b,1,Y⟩ (U k (Z a) j)).heap.size:=by simp;omega
  have HK:=Ab HC;clear EM HD Go DG HC e1 b0 b1 b2 b3 HJ;generalize wt.setCell ⟨b,1,Y⟩ (U k (Z a) j)=w2 at BA B2 Q HM⊢;have b0:=Q.cell 0;have b1:=Q.cell 1;have b2:=Q.cell 2;have b3:=Q.cell 3;simp at b0 b1 b2 b3;have e2:=BA.zO.cell 2;simp at e2;have HE:nc (Calls prog 148 #[U I (Z q) G,oj #[X J D,O v,U E (Z B) s,U z (Z t) x]] w2.drew λe g=>∃u P L,e=kt (U P (Z u) L)/\oa g ⟨b,2,Y⟩=V (U I (Z q) G)/\g.frozen? ⟨b,2,Y⟩=K/\Fv (g.setCell ⟨b,2,Y⟩ (U P (Z u) L)) b ((n:Int)+1) (U k (Z a) j) (U P (Z u) L) a u/\Fx TV q u/\Z u<=Z q+90000/\Ac M w (g.setCell ⟨b,2,Y⟩ (U P (Z u) L))):=by
   have FA:=BA.drew;refine(AR w2.drew I G q (HF _ B2.drew) FA.rt (by omega) FA.rit (by show b+1<=w2.heap.size;omega)).mono ?_;rintro e g ⟨u,P,L,rfl,d⟩;obtain⟨EY,E0,FF⟩:=FA.zC d.kept d.own d.new d.zG;refine⟨u,P,L,rfl,E0,FF,EY,d.mem,by have:=d.le;omega,?_⟩;exact(B2.drew.trans' d.kept (λi f=>lo (T.2.2 i f))).setCell (p:=⟨b,2,Y⟩) (lo T.1) _
  clear AR BA B2 Q;go_wp2_with fail
  go_region_law
   (go_simp;go_at_call 148;refine HE.mono ?_;rintro e H4 ⟨u,P,L,rfl,HD,Go,r1,r2,r3,r4⟩;have HL:=Ab (And.intro r1 (And.intro r2 (And.intro r3 r4)));clear r1 r2 r3 r4)
  all_goals
   clear HE;(go_wp2_with fail);go_end0;obtain⟨r1,r2,r3,r4⟩:=HL;exact⟨rfl,_,_,a,u,r1,HK,r2,HI,r3,r4⟩
def je(cs:rc CU)(S:zA->Prop):Prop:=∀c∈cs,S c.hn->∀y∈Cu c,S y
def II(cs:rc CU)(x y:zA):Prop:=∀S:zA->Prop,S x->je cs S->S y
structure ZZ(cs:rc CU)(x:zA)(l:rc zA):Prop where
 zG:C6 Hx l
 iff:∀y,y∈l↔II cs x y
def M8{α:Type} [DecidableEq α]:∀(l b:rc α),l.Nodup->(∀y∈l,y∈b)->Z l<=Z b
 |[],_,_,_=>mO _
 |a::t,b,hn,hs=>by
  rw[oB]at hn;have c:a∈b:=hs a (by simp);have ih:=M8 t (b.erase a) hn.2 (λy d=>(List.mem_erase_of_ne (λe=>hn.1 (by rw[<-e];exact d))).2 (hs y (by simp[d])));have g:=List.length_erase_of_mem c;have f:0<Z b:=List.length_pos_of_mem c;simp only[mL];omega
def WZ{l a:rc zA}(d:C6 Hx l)(e:∀y∈l,y∈a)(f:Z a=Z l):∀y∈a,y∈l:=by
 intro y c;by_cases h:y∈l
 .exact h
 .have:=M8 (y::l) a (oB.2 ⟨h,d.nodup I7⟩) (λz b=>by
   rcases mA.1 b with rfl|b
   .exact c
   .exact e z b)
  simp only[mL]at this;omega
theorem WP(FO:Option Addr)(EY:Nat)(a:rc CU)(x:zA)(w:ly)(h:CE w (U FO (Z a) EY) a)(H7:Z a<=1000)(hf:∀c∈a,Z c.zD<=1000)(hU:Z (a.flatMap Cu)<=800000):
  Calls prog 122 #[U FO (Z a) EY,O x] w λe w'=>∃l v A,e=kt (U v (Z l) A)/\ZZ a x l/\Z l<=800001/\oi w' w.heap.size 9 1 (U v (Z l) A) (Z l) (l.flatMap Ai)/\Ac [] w w':=by
 have HP:=Ab h;have H3:=Ab hf;clear h hf;have FF:nc (∀l:rc zA,C6 Hx l->(∀y∈l,II a x y)->Z l<=1+Z (a.flatMap Cu)):=by
  intro l hr hs;have:=M8 l (x::a.flatMap Cu) (hr.nodup I7) (λy d=>by
   refine hs y d (λz=>z∈x::a.flatMap Cu) (by simp) (λc b _ z hz=>?_)
   exact no _ (m6.2 ⟨c,b,hz⟩))
  simp only[mL]at this;omega
 obtain⟨u,E0⟩:=rd (Z (a.flatMap Cu));rw[E0]at hU FF;clear E0;have EM:oi (w.alloc (j1 [O x].toArray 9)) w.heap.size 9 1 (U (V ⟨w.heap.size,0,Y⟩) 1 1) 1 ([x].flatMap Ai):=⟨rfl,lx ⟨w.heap.size,1,_,rfl,mP _,rf w [O x] 9,mP _,by unfold maxLen;omega,rfl,rfl⟩⟩;have B9:=(re [] w).alloc (j1 [O x].toArray 9);have AB:=Ab EM;have A1:=Ab B9;clear EM B9;go_enter func122,ntmps122;go_wp2;change Code.wp _ _ _ _ (w.alloc (j1 [O x].toArray 9));generalize w.alloc (j1 [O x].toArray 9)=w1 at AB A1⊢
 go_loopg [5] (u+2-1) (λgk o wr=>∃(l:rc zA) (v:Option Addr) (A:Nat),o=U v (Z l) A/\gk=u+2-Z l/\Z l<=u+1/\nc (C6 Hx l)/\nc (x∈l)/\nc (∀y∈l,II a x y)/\nc (oi wr w.heap.size 9 1 (U v (Z l) A) (Z l) (l.flatMap Ai))/\nc (Ac [] w wr))
 case atStart=>exact⟨[x],_,_,rfl,rfl,by simp,λi j hi hj IA=>by simp at hi hj;omega,by simp[nc],λy d S P h2=>by simp at d;subst d;exact P,AB,A1⟩
 case round=>
  clear AB A1;obtain⟨l,v,A,rfl,FC,Go,HT,HX,HU,FT,HK⟩:=hrel;have HG:=Ab FC;clear FC;go_wp2
  go_loopg [5,15] (Z a) (λH1 o i BS=>∃(k:Nat) (m:rc zA) (t:Option Addr) (s:Nat),o=U t (Z m) s/\i=X J k/\k<=Z a/\H1=Z a-k/\Z l<=Z m/\Z m<=u+1/\nc (C6 Hx m)/\nc (∀y∈l,y∈m)/\nc (∀y∈m,II a x y)/\nc (Z m=Z l->∀c∈a.take k,c.hn∈m->∀y∈Cu c,y∈m)/\nc (oi BS w.heap.size 9 1 (U t (Z m) s) (Z m) (m.flatMap Ai))/\nc (Ac [] w BS))
  case atStart=>exact⟨0,l,v,A,rfl,rfl,by omega,rfl,by omega,Go,HT,λy d=>d,HU,λ_ c b=>by simp at b,FT,HK⟩
  case round=>
   obtain⟨k,m,t,s,rfl,rfl,hk,CC,HF,DT,C,M,E,Q,W,N⟩:=hrel;have EK:=Ab CC;clear CC;by_cases L:k<Z a
   .have AR:=HP.kept N;obtain⟨g,KD,H,f,q,I,D,G,F,p,he,T,d0,d1,d2,d3⟩:=FE AR k L;simp only[mu]at he;obtain⟨rfl,_,rfl⟩:=he;have Jx:=N.size;have B0:=Ab (AR.each _ (mw L));have A2:=Aa H3 _ (mw L);have BT:nc (∀c,c∈a.take (k+1)↔c∈a.take k\/c=⟨H,f,q,U I (Z q) D,U G (Z p) F,p⟩):=by
     intro c;rw[mx L,T,mF,my]
    (have H0:nc ((⟨H,f,q,U I (Z q) D,U G (Z p) F,p⟩:CU)∈a):=by rw[<-T];exact mw L);rw[T]at B0 A2;simp only at A2;clear AR T;have AT:=Ab (N.alloc (j1 [X J H,O f,U I (Z q) D,U G (Z p) F].toArray 189));have R:=Ab (mE W (j1 [X J H,O f,U I (Z q) D,U G (Z p) F].toArray 189));have FL:=Ab (Uz t s m f w.heap.size _ R (by omega) C);(go_wp2_with fail);refine FL.mono ?_;rintro e w4 ⟨rfl,FW⟩;subst FW;clear FL;cases hh:JG m f with
    |false=>
     have Bx:nc (Z m=Z l->∀c∈a.take (k+1),c.hn∈m->∀y∈Cu c,y∈m):=by
      intro hl c b B;rcases(BT c).1 b with b|b
      .exact Q hl c b B
      .subst b;simp only at B;rw[(He m f).2 B]at hh;cases hh
     clear hh Q;go_wp2
     go_roundg (Z a-(k+1))
     case measure=>have:=Aa EK;omega
     case rel=>exact⟨k+1,m,t,s,rfl,by go_num,by omega,rfl,HF,DT,C,M,E,Bx,R,AT⟩
    |true=>
     have CW:nc (f∈m):=(He m f).1 hh;have BA:=Ab (N9 ⟨H,f,q,U I (Z q) D,U G (Z p) F,p⟩ t s m w.heap.size (wr.alloc (j1 [X J H,O f,U I (Z q) D,U G (Z p) F].toArray 189)) ((Aa B0).kept ((re [] wr).alloc _)) A2 (Aa R) (by omega) (Aa C) (by simp;omega));simp only[Bc]at BA;clear hh;(go_wp2_with fail);refine BA.mono ?_;rintro e w5 ⟨r,HV,HQ,rfl,n⟩;have B2:Ac [] w w5:=AT.trans' n.kept (λi hi=>lx ((R.lt i (by simpa using hi)).1));have AO:∀y∈r,II a x y:=by
      intro y d;rcases(n.mem y).1 d with P|P
      .intro S hS hC;exact hC _ H0 (E _ CW S hS hC) y P
      .exact E y P
     (have Ax:∀y∈m,y∈r:=λy d=>(n.mem y).2 (lx d));have Bx:nc (Z r=Z l->∀c∈a.take (k+1),c.hn∈r->∀y∈Cu c,y∈r):=by
      intro hl c b B y d;have KA:=n.ge;have HR:=WZ C Ax (by omega);rcases(BT c).1 b with b|b
      .exact Ax y (Q (by omega) c b (HR _ B) y d)
      .subst b;exact(n.mem y).2 (lo d)
     (have Ha:Z l<=Z r:=by have:=n.ge;omega);have H9:=Aa FF r n.zG AO;have HH:=Ab AO;(have HC:nc (∀y∈l,y∈r):=λy d=>Ax y (M y d));have HY:=Ab n.zG;have HB:=Ab n.own;have HS:=Ab B2;clear BA n B2 AO Ax Q E M C W R AT CW;go_wp2
     go_roundg (Z a-(k+1))
     case measure=>have:=Aa EK;omega
     case rel=>exact⟨k+1,r,HV,HQ,rfl,by go_num,by omega,rfl,Ha,by omega,HY,HC,HH,Bx,HB,HS⟩
   .by_cases HI:Z m=Z l
    .have HE:nc (ZZ a x m):=by
      refine⟨C,λy=>⟨E y,λd=>?_⟩⟩;refine d (λz=>z∈m) (M x HX) (λc b B z hz=>?_);have h:=Aa Q HI;rw[mz (by omega)]at h;exact h c b B z hz
     (have HO:(Z m:Int)=(Z l:Int):=by omega);go_wp2;go_ret;exact⟨m,t,s,rfl,HE,by omega,W,N⟩
    ·(have HO:¬(Z m:Int)=(Z l:Int):=by omega);have HW:nc (x∈m):=M x HX;go_wp2
     go_roundg (u+2-Z m)
     case measure=>have:=Aa HG;omega
     case rel=>exact⟨m,t,s,rfl,rfl,DT,C,HW,E,W,N⟩
def ND(f:zA->zA->Bool)(hn:zA)(p:Mk):Bool:=p.1.sort==1&&f p.1.an hn
def Mi(f:zA->zA->Bool)(c:CU):Option Int:=(c.zD.find? (ND f c.hn)).map λp=>p.1.place
def Qm(f:zA->zA->Bool)(cs:rc CU):Option Int:=cs.findSome? (Mi f)
def S2{α β:Type}(f:α->Option β)(l:rc α)(k:Nat)(a:k<Z l)(h:∀c∈l.take k,f c=Y){b:β}(d:f l[k]=V b):l.findSome? f=V b:=by
 conv=>lhs;rw[<-nO k l]
 rw[qj];have:(l.take k).findSome? f=Y:=by rw[qp];exact h
 rw[this,mQ a,qg,d];rfl
theorem Vm(f:zA->zA->Bool)(HF:Option Addr)(FT:Nat)(d:rc CU)(ES:∀x y,f x y=jj↔II d x y)(w:ly)(h:CE w (U HF (Z d) FT) d)(HM:Z d<=1000)(hf:∀c∈d,Z c.zD<=1000)(hU:Z (d.flatMap Cu)<=800000):
  Calls prog 73 #[U HF (Z d) FT] w λe m=>e=kt (BJ (Qm f d))/\Ac [] w m:=by
 have HP:=Ab h;have HD:=Ab hf;have FC:=Ab ES;clear h hf ES;obtain⟨R,hR⟩:=rd (Qm f d);rw[hR];have HB:=Ab hR;clear hR;go_enter func73,ntmps73;go_wp2
 go_loopg [10] (Z d) (λgk i wr=>∃(k:Nat),i=X J k/\k<=Z d/\gk=Z d-k/\nc (∀c∈d.take k,Mi f c=Y)/\nc (Ac [] w wr))
 case atStart=>exact⟨0,rfl,by omega,rfl,λc u=>by simp at u,re _ _⟩
 case round=>
  obtain⟨k,rfl,hk,Ha,HC,E⟩:=hrel;have HG:=Ab Ha;clear Ha;by_cases M:k<Z d
  .have A1:=HP.kept E;obtain⟨g,K4,B,a,o,C,t,A,z,b,he,W,d0,d1,d2,d3⟩:=FE A1 k M;simp only[mu]at he;obtain⟨rfl,_,rfl⟩:=he;have AB:=Ab (A1.each _ (mw M)).body;have FL:=Aa HD _ (mw M);have H8:nc (∀p,Mi f ⟨B,a,o,U C (Z o) t,U A (Z b) z,b⟩=V p->R=V p):=by
    intro p HL;rw[<-Aa HB];exact S2 _ _ k M HC (by rw[W];exact HL)
   have HX:nc (Mi f ⟨B,a,o,U C (Z o) t,U A (Z b) z,b⟩=Y->∀c∈d.take (k+1),Mi f c=Y):=by
    intro HQ c u;rw[mx M,W,mF,my]at u;rcases u with u|u
    .exact HC c u
    .rw[u];exact HQ
   rw[W]at AB FL;simp only at FL AB;clear A1 W;have AT:=Ab (E.alloc (j1 [X J B,O a,U C (Z o) t,U A (Z b) z].toArray 189));have HA:=Ab ((re [] wr).alloc (j1 [X J B,O a,U C (Z o) t,U A (Z b) z].toArray 189));have Ax:=Ab (rf wr [X J B,O a,U C (Z o) t,U A (Z b) z] 189);go_wp2;change Code.wp _ _ _ _ (wr.alloc (j1 [X J B,O a,U C (Z o) t,U A (Z b) z].toArray 189));have FF:=Ab (AB.kept HA);generalize wr.alloc (j1 [X J B,O a,U C (Z o) t,U A (Z b) z].toArray 189)=w1 at AT Ax FF⊢;generalize wr.heap.size=N at Ax⊢;clear HA AB E d0 d1 d2 d3
   go_loopg [17] (Z b) (λgk i wr=>∃(j:Nat),i=X J j/\j<=Z b/\gk=Z b-j/\nc ((b.take j).any (ND f a)=K)/\nc (Ac [] w wr)/\nc (Ac [] w1 wr))
   case atStart=>exact⟨0,rfl,by omega,rfl,by show _=_;simp,AT,re _ _⟩
   case round=>
    clear AT;obtain⟨j,rfl,hj,EK,HJ,E,EX⟩:=hrel;have FB:=Ab EK;clear EK;by_cases BA:j<Z b
    .obtain⟨g2,K5,q,D,H,FA,S,Ix,e0,e1,e2,e3,e4,e5,e6,e7,e8⟩:=J3 (FF.kept EX) j BA;simp only[mu]at FA;obtain⟨rfl,_,rfl⟩:=FA;have HY:nc (ND f a (q,U D (Z q.ts) H)=jj->R=V q.place):=by
      intro n;refine H8 _ ?_;unfold Mi;simp only;rw[F8 _ _ j BA (Aa HJ) (by rw[S];exact n),S];rfl
     have AR:nc (ND f a (q,U D (Z q.ts) H)=K->(b.take (j+1)).any (ND f a)=K):=by
      intro n;rw[Do _ _ j BA (Aa HJ),S];exact n
     clear S Ix;have I:=Ab (E.alloc (j1 (j2 (Ay (q,U D (Z q.ts) H))) 217));have F:=Ab (EX.alloc (j1 (j2 (Ay (q,U D (Z q.ts) H))) 217));have G:=Ab (rf wr (Ay (q,U D (Z q.ts) H)) 217);simp only[Ay]at I F G;cases hs:(q.sort==1)with
     |false=>
      (have HO:(q.sort !=1)=jj:=by simp[bne,hs]);have A0:=Ab (AR (by unfold ND;simp only;rw[hs];rfl));clear HY AR hs;go_wp2
      go_roundg (Z b-(j+1))
      case measure=>have:=Aa FB;omega
      case rel=>exact⟨j+1,by go_num,by omega,rfl,A0,I,F⟩
     |true=>
      (have HO:(q.sort !=1)=K:=by simp[bne,hs]);(have Bx:nc (f q.an a=jj->R=V q.place):=λn=>HY (by unfold ND;simp only;rw[hs,n];rfl));(have B2:nc (f q.an a=K->(b.take (j+1)).any (ND f a)=K):=λn=>AR (by unfold ND;simp only;rw[hs,n];rfl));clear HY AR hs;(go_wp2_with fail);change Code.wp _ _ _ _ (wr.alloc (j1 [X J q.place,X J q.sort,X J q.ap,O q.an,U D (Z q.ts) H,X q7 q.l.v,O q.l.s,X q7 q.r.v,O q.r.s].toArray 217));generalize wr.alloc (j1 [X J q.place,X J q.sort,X J q.ap,O q.an,U D (Z q.ts) H,X q7 q.l.v,O q.l.s,X q7 q.r.v,O q.r.s].toArray 217)=w3 at I F G⊢;generalize wr.heap.size=T at G⊢;have t3:=G.cell 3;have n1:=(Ax.kept F).cell 1;simp at t3 n1;have HU:=Ab (WP _ _ d q.an w3.drew (HP.kept I.drew) HM HD hU);have H9:nc (∀m,Ac [] w3.drew m->oa m ⟨T,3,Y⟩=V (O q.an)/\oa m ⟨N,1,Y⟩=V (O a)/\oa m ⟨T,0,Y⟩=V (X J q.place)/\Ac [] w m/\Ac [] w1 m):=by
       intro m L;exact⟨(G.drew.kept L).cell 3,((Ax.kept F).drew.kept L).cell 1,(G.drew.kept L).cell 0,I.drew.trans L,F.drew.trans L⟩
      have H7:nc (∀(l:rc zA) ad cp BT m,ZZ d q.an l->Z l<=800001->oi m BT 9 1 (U ad (Z l) cp) (Z l) (l.flatMap Ai)->Calls prog 121 #[U ad (Z l) cp,O a] m λe w9=>e=kt (q8 (f q.an a))/\w9=m):=by
       intro l ad cp BT m Q h1 h2;(have H3:JG l a=f q.an a:=by rw[nT,He,Q.iff,Aa FC]);have n:=Uz ad cp l a BT m h2 (by omega) Q.zG;rw[H3]at n;exact n
      clear I F G HP FC
      go_region_held3 (λm=>oa m ⟨T,3,Y⟩=V (O q.an)/\oa m ⟨N,1,Y⟩=V (O a)) (go_keep) ((first|(go_at_call 122;refine HU.mono ?_;rintro e w4 ⟨l,H4,HW,rfl,Q,Go,FP,k4⟩;have P:=Aa H9 w4 k4;have f3:=P.1;have f1:=P.2.1;have f0:=P.2.2.1;have A2:=Ab P;have HS:=Ab (H7 l H4 HW _ w4 Q Go FP);clear Q Go FP k4 P)|(go_at_call 121;refine HS.mono ?_;rintro e w9 ⟨rfl,HI⟩;subst HI)))
      rename_i H6;clear H6;cases n:f q.an a with
      |true=>
       have HT:=Ab (Bx n);clear Bx B2 n;go_wp2;go_ret2;rw[Aa HT];exact⟨rfl,A2.2.2.2.1⟩
      |false=>
       have HT:=Ab (B2 n);clear Bx B2 n;go_wp2
       go_roundg (Z b-(j+1))
       case measure=>have:=Aa FB;omega
       case rel=>exact⟨j+1,by go_num,by omega,rfl,HT,A2.2.2.2.1,A2.2.2.2.2⟩
    .have HE:nc (Mi f ⟨B,a,o,U C (Z o) t,U A (Z b) z,b⟩=Y):=by
      have h:=Aa HJ;rw[mz (by omega)]at h;show _=_;unfold Mi;simp only;have:b.find? (ND f a)=Y:=by
       rw[oM];intro y hy n;rw[oC]at h;exact h y hy n
      rw[this];rfl
     have A0:=Ab (HX HE);go_wp2
     go_roundg (Z d-(k+1))
     case measure=>have:=Aa HG;omega
     case rel=>exact⟨k+1,by go_num,by omega,rfl,A0,E⟩
  .have HE:nc (R=Y):=by
    have h:=Aa HC;rw[mz (by omega)]at h;show _=_;rw[<-Aa HB];unfold Qm;rw[qp];exact h
   go_wp2;go_ret2;rw[HE.out];exact⟨rfl,E⟩
def V3(cs:rc AV)(x y:zA)(b:Nat):Prop:=∃c∈cs,c.head.name=x/\∃l∈An c,l.A.name=y/\(((l.kind==97)=jj/\b=0)\/((l.kind==33)=jj/\b=1))
def Hy(cs:rc AV)(x y:zA):Prop:=∀S:zA->Prop,S x->(∀u v b,V3 cs u v b->S u->S v)->S y
def Hy.refl(a:rc AV)(x:zA):Hy a x x:=λS h _=>h
def Hy.trans{x y z:zA}(h:Hy c x y)(k:Hy c y z):Hy c x z:=λS b a=>k S (h S b a) a
def Hy.edge(h:V3 c s t b):Hy c s t:=λS d a=>a s t b h d
def dX(cs:rc AV):Prop:=∀x y,V3 cs x y 1->¬Hy cs y x
def VN(f:zA->Nat):∀(a:rc Bb) (n:Nat),n<=JF f n a/\∀p∈a,OW f p<=JF f n a
 |[],n=>⟨mP _,λp b=>by simp at b⟩
 |q::a,n=>by
  have ih:=VN f a (max n (OW f q));have e:JF f n (q::a)=JF f (max n (OW f q)) a:=rfl;rw[e];refine⟨by have:=ih.1;omega,λp b=>?_⟩;rcases mA.1 b with rfl|b
  .have:=ih.1;omega
  .exact ih.2 p b
def aN(f:zA->Nat):∀(a:rc Bb) (n:Nat),JF f n a=n\/∃p∈a,JF f n a=OW f p
 |[],n=>lo rfl
 |q::a,n=>by
  have e:JF f n (q::a)=JF f (max n (OW f q)) a:=rfl;rw[e];rcases aN f a (max n (OW f q))with h|⟨p,hp,h⟩
  .by_cases b:n<=OW f q
   .exact lx ⟨q,by simp,by rw[h];omega⟩
   .exact lo (by rw[h];omega)
  .exact lx ⟨p,by simp[hp],h⟩
def ak(f:zA->Nat)(x:zA):∀(a:rc AV) (n:Nat),n<=a.foldl (Jq f x) n/\∀c∈a,c.head.name=x->∀p∈c.bl,OW f p<=a.foldl (Jq f x) n
 |[],n=>⟨mP _,λc h=>by simp at h⟩
 |c::a,n=>by
  rw[nh];have ih:=ak f x a (Jq f x n c);have j:n<=Jq f x n c:=by
   unfold Jq;split
   .exact(VN f c.bl n).1
   .exact mP _
  refine⟨by have:=ih.1;omega,λd b g p e=>?_⟩;rcases mA.1 b with rfl|b
  .have i:OW f p<=Jq f x n d:=by
    unfold Jq;rw[mK ((E7 _ _).2 g)];exact(VN f d.bl n).2 p e
   have:=ih.1;omega
  .exact ih.2 d b g p e
def ah(f:zA->Nat)(x:zA):∀(a:rc AV) (n:Nat),a.foldl (Jq f x) n=n\/∃c∈a,c.head.name=x/\∃p∈c.bl,a.foldl (Jq f x) n=OW f p
 |[],n=>lo rfl
 |c::a,n=>by
  rw[nh];rcases ah f x a (Jq f x n c)with h|⟨d,hd,hx,p,b,h⟩
  .rw[h];unfold Jq;by_cases e:(c.head.name.toList==x.toList)=jj
   .rw[mK e];rcases aN f c.bl n with g|⟨p,b,g⟩
    .exact lo g
    .exact lx ⟨c,by simp,(E7 _ _).1 e,p,b,g⟩
   .rw[mJ e];exact lo rfl
  .exact lx ⟨d,by simp[hd],hx,p,b,h⟩
def MF{cs:rc AV}{x y:zA}(h:V3 cs x y b)(d:Nat):B3 cs d y+b<=B3 cs (d+1) x:=by
 obtain⟨c,k,m,l,i,e,j⟩:=h;obtain⟨p,f,rfl⟩:=mD.1 i;rw[B3];have o:=(ak (B3 cs d) x cs 0).2 c k m p f;have n:OW (B3 cs d) p=B3 cs d y+b:=by
  unfold OW;rcases j with⟨a,rfl⟩|⟨a,rfl⟩
  .rw[mK a,e];rfl
  .have g:(p.1.kind==97)=K:=by
    (have:p.1.kind=33:=by simpa using a);rw[this];rfl
   rw[mJ (by rw[g];simp),mK a,e]
 omega
def Sa(e:rc AV)(d:Nat)(x:zA)(h:0<B3 e (d+1) x):∃y b,V3 e x y b/\B3 e (d+1) x=B3 e d y+b:=by
 rw[B3]at h⊢;rcases ah (B3 e d) x e 0 with a|⟨c,j,k,p,i,a⟩
 .omega
 .unfold OW at a;by_cases f:(p.1.kind==97)=jj
  .rw[mK f]at a;exact⟨p.1.A.name,0,⟨c,j,k,p.1,mR i,rfl,lo ⟨f,rfl⟩⟩,a⟩
  .rw[mJ f]at a;by_cases g:(p.1.kind==33)=jj
   .rw[mK g]at a;exact⟨p.1.A.name,1,⟨c,j,k,p.1,mR i,rfl,lx ⟨g,rfl⟩⟩,a⟩
   .rw[mJ g]at a;omega
def O9(a:rc AV):∀(d:Nat) (x:zA),B3 a d x<=B3 a (d+1) x
 |0,x=>by rw[show B3 a 0 x=0 from rfl];omega
 |d+1,x=>by
  by_cases h:0<B3 a (d+1) x
  .obtain⟨y,b,c,e⟩:=Sa a d x h;have g:=O9 a d y;have f:=MF c (d+1);omega
  .omega
def YR(a:rc AV)(x:zA)(h:n<=m):B3 a n x<=B3 a m x:=by
 induction h with
 |refl=>exact mP _
 |step _ ih=>exact nD ih (O9 a _ x)
structure me(cs:rc AV)(d:Nat)(x v:zA):Prop where
 zd:∃D B:Nat,d<D/\B3 cs D v<B3 cs (D+1) v/\B3 cs (D+1) v=B+B3 cs (d+1) x/\Hy cs v x/\(0<B->∃u t,V3 cs u t 1/\Hy cs v u/\Hy cs t x)
def aJ(i:dX c)(h:me c n s s):False:=by
 obtain⟨D,B,l,j,k,_,f⟩:=h.zd;by_cases g:0<B
 .obtain⟨u,t,a,e,b⟩:=f g;exact i u t a (b.trans e)
 .have:=YR c s (show n+1<=D by omega);omega
def fi{a:rc AV}(C:dX a)(i:rc zA)(E:∀c∈a,c.head.name∈i)(hN:Z i<=6):∀(d:Nat) (x:zA) (e:rc zA),6<=Z e+d->e.Nodup->(∀v∈e,v∈i)->(∀v∈e,me a d x v)->B3 a d x<B3 a (d+1) x->False:=by
 intro d
 induction d with
 |zero=>
  intro x e I p q j w;obtain⟨y,b,f,_⟩:=Sa a 0 x (by omega);obtain⟨c,s,o,_⟩:=f;have n:x∈i:=by rw[<-o];exact E c s
  have k:x∉e:=λh=>aJ C (j x h)
  have:=M8 (x::e) i (oB.2 ⟨k,p⟩) (λz g=>by
   rcases mA.1 g with rfl|g
   .exact n
   .exact q z g)
  simp only[mL]at this;omega
 |succ d ih=>
  intro x e I p q j w;obtain⟨y,b,f,W⟩:=Sa a (d+1) x (by omega);have n:x∈i:=by
   obtain⟨c,s,o,_⟩:=f;rw[<-o];exact E c s
  have k:x∉e:=λh=>aJ C (j x h)
  have S:=MF f d;have Q:b<=1:=by
   obtain⟨c,_,_,l,_,_,h|h⟩:=f<;>omega
  refine ih y (x::e) (by simp only[mL];omega) (oB.2 ⟨k,p⟩) (λz g=>?_) (λv m=>?_) (by omega)
  .rcases mA.1 g with rfl|g
   .exact n
   .exact q z g
  .rcases mA.1 m with rfl|m
   .refine⟨d+1,b,by omega,w,by omega,Hy.edge f,λH=>?_⟩;(have r:b=1:=by omega);subst r;exact⟨v,y,f,Hy.refl a v,Hy.refl a y⟩
   .obtain⟨D,B,R,N,T,A,P⟩:=(j v m).zd;refine⟨D,B+b,by omega,N,by omega,A.trans (Hy.edge f),λH=>?_⟩;by_cases L:0<B
    .obtain⟨u,t,G,F,M⟩:=P L;exact⟨u,t,G,F,M.trans (Hy.edge f)⟩
    ·(have r:b=1:=by omega);subst r;exact⟨x,y,f,A,Hy.refl a y⟩
def iw{cs:rc AV}(k:dX cs)(a:rc zA)(j:∀c∈cs,c.head.name∈a)(l:Z a<=6):CG cs (B3 cs 6):=by
 have i:∀x,B3 cs 7 x=B3 cs 6 x:=by
  intro x;have m:B3 cs 6 x<=B3 cs 7 x:=O9 cs 6 x;by_cases h:B3 cs 6 x<B3 cs 7 x
  .exact(fi k a j l 6 x [] (by simp) ph (λv e=>by simp at e) (λv e=>by simp at e) h).elim
  .omega
 refine⟨λc f x g d=>?_,λc f x g d=>?_⟩
 .have h:=MF (cs:=cs) (x:=c.head.name) (y:=x.A.name) (b:=0) ⟨c,f,rfl,x,g,rfl,lo ⟨d,rfl⟩⟩ 6;rw[i]at h;omega
 .have h:=MF (cs:=cs) (x:=c.head.name) (y:=x.A.name) (b:=1) ⟨c,f,rfl,x,g,rfl,lx ⟨d,rfl⟩⟩ 6;rw[i]at h;omega
def jz(l:rc zA):rc zA:=l.foldl Ed []
def C5(c:CU):rc zA:=((Bn c).filter λt=>t.v==0).map λt=>t.s
def I5(l:rc zA)(x:zA):DY l x=jj↔x∈l:=He l x
def Ug(l:rc zA)(x y:zA):y∈Ed l x↔y=x\/y∈l:=by
 unfold Ed;cases h:DY l x with
 |true=>
  simp only[if_true];have b:=(I5 l x).1 h;exact⟨lx,λa=>by rcases a with rfl|a;exact b;exact a⟩
 |false=>
  simp only[mC,if_false,mF,my];exact⟨λa=>by rcases a with a|a;exact lx a;exact lo a,λa=>by rcases a with a|a;exact lx a;exact lo a⟩
def WJ{l:rc zA}(h:l.Nodup)(x:zA):(Ed l x).Nodup:=by
 unfold Ed;cases hb:DY l x with
 |true=>simpa using h
 |false=>
  simp only[mC,if_false];rw[p9];refine⟨h,by simp,λa d b c e=>?_⟩;simp only[my]at c;subst e c;rw[(I5 l a).2 d]at hb;cases hb
def Ri:∀(a l:rc zA),l.Nodup->(a.foldl Ed l).Nodup/\∀y,y∈a.foldl Ed l↔y∈a\/y∈l
 |[],l,h=>⟨h,λy=>by simp⟩
 |x::a,l,h=>by
  obtain⟨b,c⟩:=Ri a (Ed l x) (WJ h x);refine⟨b,λy=>?_⟩;rw[nh,c,Ug,mA];exact⟨λh=>by rcases h with h|h|h;exact lo (lx h);exact lo (lo h);exact lx h,λh=>by rcases h with(h|h)|h;exact lx (lo h);exact lo h;exact lx (lx h)⟩
def C9(l:rc zA):(jz l).Nodup/\∀y,y∈jz l↔y∈l:=by
 obtain⟨a,b⟩:=Ri l [] ph;exact⟨a,λy=>by rw[jz,b];simp⟩
def Nr{a b:rc zA}(d:a.Nodup)(e:b.Nodup)(h:∀y,y∈a↔y∈b):Z a=Z b:=
 Nat.le_antisymm (M8 a b d (λy c=>(h y).1 c)) (M8 b a e (λy c=>(h y).2 c))
def Yr(cs:rc CU)(k:Nat):Bool:=decide (12<k+1)||decide (6<Z (jz ((cs.take (k+1)).flatMap Cu)))||decide (6<Z (jz ((cs.take (k+1)).flatMap C5)))
def YB(cs:rc CU)(k:Nat)(c:CU):Option (Int×Int):=
 if Yr cs k||Lx c then V (3,c.hp)
 else match kn cs (BG c)with
  |some p=>V (4,p)
  |none=>match IQ c with
   |some p=>V (5,p)
   |none=>Y
def P9(cs:rc CU):Nat->rc CU->Option (Int×Int)
 |_,[]=>Y
 |k,c::l=>match YB cs k c with
  |some r=>V r
  |none=>P9 cs (k+1) l
def Z0:Option (Int×Int)->ml
 |some r=> .tuple #[X J r.1,X J r.2]
 |none=> .tuple #[X J 0,X J 0]
structure lF(c:CU):Prop where
 pc:Lo c
 zR:Z (Bn c)<=90000
def lF.atoms{c:CU}(h:lF c)(d:JY w 0 c.hv c.bv c.zE c.zD):∀a∈BG c,lenOf a.tv<=1000:=by
 intro a b;rcases mA.1 b with rfl|b
 .obtain⟨j,i,e⟩:=Al d.head;simp only;rw[e];exact h.pc.head.2
 .unfold AU at b;obtain⟨p,g,rfl⟩:=mD.1 b;have f:=(mT.1 g).1;obtain⟨j,i,e⟩:=Al (d.body.each p f).1;simp only;rw[e];exact(h.pc.each p f).2
def WC(e:k<Z p){d th':rc zA}(h:∀y,y∈d↔y∈(p.take k).flatMap C5)(a:Fx (Bn p[k]) d th'):∀y,y∈th'↔y∈(p.take (k+1)).flatMap C5:=by
 intro y;rw[a y,h y,mx e,mY,mF];simp only[mX,nP,np];have:(∃t∈Bn p[k],t.v=0/\t.s=y)↔y∈C5 p[k]:=by
  unfold C5;rw[mD];constructor
  .rintro ⟨t,b,a,c⟩;exact⟨t,mT.2 ⟨b,by simpa using a⟩,c⟩
  .rintro ⟨t,b,c⟩;obtain⟨f,g⟩:=mT.1 b;exact⟨t,f,by simpa using g,c⟩
 rw[this];exact⟨λh=>by rcases h with h|h;exact lx h;exact lo h,λh=>by rcases h with h|h;exact lx h;exact lo h⟩
def ZD(c:k<Z p){a nm':rc zA}(h:∀y,y∈a↔y∈(p.take k).flatMap Cu)(b:∀y,y∈nm'↔y∈Cu p[k]\/y∈a):∀y,y∈nm'↔y∈(p.take (k+1)).flatMap Cu:=by
 intro y;rw[b y,h y,mx c,mY,mF];simp only[mX,nP,np];exact⟨λh=>by rcases h with h|h;exact lx h;exact lo h,λh=>by rcases h with h|h;exact lx h;exact lo h⟩
theorem O5(KA:Option Addr)(Ix:Nat)(a:rc CU)(w:ly)(h:CE w (U KA (Z a) Ix) a)(A:∀c∈a,gU w w.heap.size c)(K3:Z a<=1000)(hf:∀c∈a,lF c):
  Calls prog 72 #[U KA (Z a) Ix] w λe w'=>e=kt (Z0 (P9 a 0 a))/\Ac [] w w':=by
 have HP:=Ab h;have IS:=Ab hf;have H8:=Ab A;obtain⟨R,hR⟩:=rd (P9 a 0 a);rw[hR];have JJ:=Ab hR;clear h hf A hR;have Bx:nc (Fv (w.alloc (j1 [X J 0,U Y 0 0,U Y 0 0].toArray 210)) w.heap.size ((0:Nat):Int) (U Y 0 0) (U Y 0 0) [] []):=
  ⟨rf w _ 210,mS _ _ _ _,mS _ _ _ _,λk hk=>by simp[qX]at hk,λi j u=>by simp at u,λi j u=>by simp at u⟩
 have A2:=Ab (Wu.of ((re [] w).alloc (j1 [X J 0,U Y 0 0,U Y 0 0].toArray 210)) (mP _) (by simp));have C:nc (∀wr,Wu w.heap.size w wr->Ac [] w wr):=λwr hl=>hl.kept (mP _)
 go_enter func72,ntmps72;go_wp2;change Code.wp _ _ _ _ (w.alloc (j1 [X J 0,U Y 0 0,U Y 0 0].toArray 210));generalize w.alloc (j1 [X J 0,U Y 0 0,U Y 0 0].toArray 210)=w1 at Bx A2⊢;obtain⟨b,HM⟩:=rd w.heap.size;rw[HM]at Bx A2 H8 C⊢;have M3:=Ab HM;clear HM
 go_loopg [13] (Z a) (λgk i wr=>∃(k:Nat) (nv S:ml) (N W:rc zA),i=X J k/\k<=Z a/\k<=12/\gk=Z a-k/\Z N<=6/\Z W<=6/\nc (Fv wr b (k:Int) nv S N W)/\nc (∀y,y∈N↔y∈(a.take k).flatMap Cu)/\nc (∀y,y∈W↔y∈(a.take k).flatMap C5)/\nc (P9 a k (a.drop k)=R)/\nc (Wu b w wr))
 case atStart=>exact⟨0,_,_,[],[],rfl,by omega,by omega,rfl,by simp,by simp,Bx,λy=>by simp,λy=>by simp,JJ,A2⟩
 case round=>
  clear Bx A2 JJ;obtain⟨k,nv,S,N,W,rfl,hk,Nx,Jx,NB,Nd,HC,H5,HS,HR,HL⟩:=hrel;have HG:=Ab Jx;clear Jx;by_cases A:k<Z a
  .have HV:=Aa C wr HL;have H0:=HP.kept HV;obtain⟨g,Nq,l,s,f,q,m,o,n,d,he,HU,d0,d1,d2,d3⟩:=FE H0 k A;simp only[mu]at he;obtain⟨rfl,_,rfl⟩:=he;have EX:=Ab ((H8 _ (mw A)).low HL);have z:=Ab (IS _ (mw A));have F:nc ((match YB a k a[k] with|some r=>V r|none=>P9 a (k+1) (a.drop (k+1)))=R):=by
    have h:=Aa HR;rw[mQ A,P9]at h;exact h
   have HD:=Ab (λnm'=>ZD (nm':=nm') A H5);have FB:=Ab (λth'=>WC (th':=th') A HS);rw[HU]at EX z F HD FB;clear H0 HU HR H5 HS HV;have M1:=HC.zO.lt;have kA:=(re [] wr).alloc (j1 [X J l,O s,U q (Z f) m,U o (Z d) n].toArray 189);have E:=Ab (HC.kept kA);have P:=Ab (rf wr [X J l,O s,U q (Z f) m,U o (Z d) n] 189);have lA:=Wu.of kA (b:=b) (by omega) (by simp);have I:=Ab (HL.trans lA);have M:=Ab (EX.low lA);have Ha:nc (∀v:ml,(v=nv\/v=S)->v.ownBlock≠V wr.heap.size):=by
    intro v hv e;rcases hv with rfl|rfl
    .have:=(HC.rn.lt _ e).2;omega
    .have:=(HC.rt.lt _ e).2;omega
   have EY:=Ab (cM b k nv S N W ⟨l,s,f,U q (Z f) m,U o (Z d) n,d⟩ _ E M z.pc z.zR (by omega) (by omega) (by omega));(have LL:b+1<=(wr.alloc (j1 [X J l,O s,U q (Z f) m,U o (Z d) n].toArray 189)).heap.size:=by simp;omega);clear kA lA;simp only[Bc]at EY;(go_wp2_with fail);refine EY.mono ?_;rintro e w5 ⟨rfl,JA,HT,B2,BT,AR,H2,H3,NA,Nj,k5⟩;have FW:=P.kept k5 (by
    intro t
    simp only[mA,mF]at t
    rcases t with t|t|t
    .omega
    .exact Ha nv (lo rfl) (by simpa using t)
    .exact Ha S (lx rfl) (by simpa using t))
   have l5:Wu b (wr.alloc (j1 [X J l,O s,U q (Z f) m,U o (Z d) n].toArray 189)) w5:=Wu.of k5 (by omega) (λi u=>by
    simp only[mA,mF]at u
    rcases u with u|u|u
    .omega
    .exact E.yM.1 i u
    .exact E.yM.2 i u)
   have FP:=Ab (I.trans l5);have HB:=Ab (M.low l5);have IJ:=Ab (HD B2 H2);have HZ:=Ab (FB BT H3);have B0:nc ((decide (12<k+1)||decide (6<Z B2)||decide (6<Z BT))=Yr a k):=by
    show _=_;unfold Yr;rw[Nr (AR.rin.nodup I7) (C9 _).1 (λy=>(Aa IJ y).trans ((C9 _).2 y).symm),Nr (AR.rit.nodup I7) (C9 _).1 (λy=>(Aa HZ y).trans ((C9 _).2 y).symm)]
   have EK:=Ab (Ti b (k+1) JA HT B2 BT w5 AR);rw[Aa B0]at EK;have K9:wr.heap.size<w5.heap.size:=FW.lt;have G:=Ab FW;have FO:=Ab AR;(have KS:wr.heap.size≠b:=by omega);clear EY AR H2 H3 k5 l5 E P I M Ha HD FB FW d0 d1 d2 d3 LL HL EX HC;generalize wr.heap.size=T at G K9 KS⊢;(go_wp2_with fail);refine EK.mono ?_;rintro e w6 ⟨rfl,K1⟩;subst K1;clear EK;have D:=G.cell 0;have t1:=G.cell 1;have t2:=G.cell 2;have t3:=G.cell 3;simp at D t1 t2 t3;cases t:Yr a k with
   |true=>
    have B:nc (R=V (3,l)):=by
     show _=_;rw[<-Aa F];unfold YB;rw[t];rfl
    clear t B0 F;go_wp2_with fail
    go_region_held3 (λw'=>oa w' ⟨T,0,Y⟩=V (X J l)) (go_keep) (fail)
    rename_i FL;clear FL;go_wp2;go_ret2;rw[Aa B];exact⟨rfl,C _ FP.drew⟩
   |false=>
    have L:=Aa B0;rw[t]at L;simp only[pu,oF]at L;have EM:=Ab (QT ⟨l,s,f,U q (Z f) m,U o (Z d) n,d⟩ w6 HB.at_ z.pc.lits);simp only[Bc]at EM;have H7:=Ab t;have MY:=L.1.1;have NE:=L.1.2;have M0:=L.2;clear t B0 L;(go_wp2_with fail);refine EM.mono ?_;rintro e w7 ⟨rfl,k7⟩;have H:=Ab (G.kept k7);have CL:=Ab (FO.kept k7);have l7:=Wu.of k7 (b:=b) (by have:=FO.zO.lt;omega) (by simp);have HH:=Ab (FP.trans l7);have Q:=Ab (HB.low l7);have M6:T<w7.heap.size:=H.lt;(have MN:b<=w7.heap.size:=by have:=CL.zO.lt;omega);clear D t1 t2 t3 EM k7 l7 G FO FP HB;have D:=H.cell 0;have t1:=H.cell 1;have t2:=H.cell 2;have t3:=H.cell 3;simp at D t1 t2 t3;cases hg:Lx ⟨l,s,f,U q (Z f) m,U o (Z d) n,d⟩with
    |true=>
     have B:nc (R=V (3,l)):=by
      show _=_;rw[<-Aa F];unfold YB;rw[hg,qB];rfl
     clear hg F;go_wp2_with fail
     go_region_held3 (λw'=>oa w' ⟨T,0,Y⟩=V (X J l)) (go_keep) (fail)
     rename_i FL;clear FL;go_wp2;go_ret2;rw[Aa B];exact⟨rfl,C _ HH.drew⟩
    |false=>
     have x:nc ((match(match kn a (BG ⟨l,s,f,U q (Z f) m,U o (Z d) n,d⟩)with|some p=>V ((4:Int),p)|none=>match IQ ⟨l,s,f,U q (Z f) m,U o (Z d) n,d⟩with|some p=>V ((5:Int),p)|none=>Y)with|some r=>V r|none=>P9 a (k+1) (a.drop (k+1)))=R):=by
      have h:=Aa F;unfold YB at h;rw[Aa H7,hg]at h;exact h
     clear hg F H7;have BA:=Ab (Mz ⟨l,s,f,U q (Z f) m,U o (Z d) n,d⟩ w7 Q.at_ z.pc.lits);have H4:=Ab (Ja Q.at_);have HY:Z (BG ⟨l,s,f,U q (Z f) m,U o (Z d) n,d⟩)<=1001:=by
      have:=EB d;have h2:=z.pc.lits;simp only at h2;simp[BG];omega
     have H6:=Ab (z.atoms Q.at_);simp only[Bc]at BA;generalize BG ⟨l,s,f,U q (Z f) m,U o (Z d) n,d⟩=aT at BA x H4 HY H6;(go_wp2_with fail);refine BA.mono ?_;rintro e wa ⟨MB,LC,rfl,IA,ka⟩;have P:=Ab (H.kept ka);have E:=Ab (CL.kept ka);have la:=Wu.of ka (b:=b) MN (by simp);have I:=Ab (HH.trans la);have M:=Ab (Q.low la);(have L0:b<=wa.heap.size:=by have:=E.zO.lt;omega);have E0:=Ab (MX MB LC aT _ _ _ a wa IA H4 HY H6 (HP.kept (C wa I)) (λc hc=>(IS c hc).pc.lits) K3);clear BA IA ka la H CL HH Q D t1 t2 t3;generalize kn a aT=RO at E0 x;(go_wp2_with fail);refine E0.mono ?_;rintro e w8 ⟨rfl,k8⟩;have AB:=Ab (P.kept k8);have HA:=Ab (E.kept k8);have l8:Wu b wa w8:=Wu.of k8 L0 (by simp);have FT:=Ab (I.trans l8);have HQ:=Ab (M.low l8);(have K5:b<=w8.heap.size:=by have:=HA.zO.lt;omega);clear E0 k8 l8 P E I M;have D:=AB.cell 0;have t1:=AB.cell 1;have t2:=AB.cell 2;have t3:=AB.cell 3;simp at D t1 t2 t3;cases RO with
     |some p=>
      have B:nc (R=V (4,p)):=x.symm;clear x;simp only[BJ];go_wp2;go_ret2;rw[Aa B];exact⟨rfl,C _ FT⟩
     |none=>
      have A1:=Ab (QN ⟨l,s,f,U q (Z f) m,U o (Z d) n,d⟩ w8 HQ.at_ z.pc (by have:=z.zR;omega));simp only[Bc]at A1;simp only at x;generalize IQ ⟨l,s,f,U q (Z f) m,U o (Z d) n,d⟩=UO at A1 x;simp only[BJ];(go_wp2_with fail);refine A1.mono ?_;rintro e w9 ⟨rfl,k9⟩;have K2:=Ab (HA.kept k9);have HW:=Ab (FT.trans (Wu.of k9 K5 (by simp)));clear A1 k9 HA FT HQ AB D t1 t2 t3;cases UO with
      |some p=>
       have B:nc (R=V (5,p)):=x.symm;clear x;simp only[BJ];go_wp2;go_ret2;rw[Aa B];exact⟨rfl,C _ HW⟩
      |none=>
       have Mo:nc (P9 a (k+1) (a.drop (k+1))=R):=x;clear x;simp only[BJ];go_wp2
       go_roundg (Z a-(k+1))
       case measure=>have:=Aa HG;omega
       case rel=>exact⟨k+1,JA,HT,B2,BT,by go_num,by omega,by omega,rfl,by omega,by omega,K2,IJ,HZ,Mo,HW⟩
  .have B:nc (R=Y):=by
    have h:=Aa HR;rw[ni (by omega),P9]at h;exact h.symm
   go_wp2;go_ret2;rw[B.out];exact⟨rfl,C wr HL⟩
def To(f:zA->zA->Bool)(pcs:rc CU):Int×Int:=match P9 pcs 0 pcs with
 |some r=>r
 |none=>match Qm f pcs with
  |some p=>(6,p)
  |none=>(0,0)
structure Wf(c:CU):Prop where
 head:lenOf c.hv=Z c.zE
 lits:∀p∈c.zD,lenOf p.2=Z p.1.ts
def JY.wf{c:CU}(h:JY w 0 c.hv c.bv c.zE c.zD):Wf c:=by
 refine⟨?_,λp a=>?_⟩
 .obtain⟨d,b,e⟩:=Al h.head;rw[e];rfl
 .obtain⟨d,b,e⟩:=Al (h.body.each p a).1;rw[e];rfl
def El(s:zA)(f:zA->zA->Bool)(r:Int×Int):Prop:=
 if 300<s.size then r=(1,0)
 else match Ds (DH s) 0 [] with
  | .error p=>r=(2,p)
  | .ok cs=>∃pcs:rc CU,pcs.map CU.pc=cs/\(∀c∈pcs,Wf c)/\r=To f pcs
structure V7(f:zA->zA->Bool)(pcs:rc CU):Prop where
 yk:∀x y,f x y=jj↔II pcs x y
 fit:∀c∈pcs,lF c
 len:Z pcs<=1000
 names:Z (pcs.flatMap Cu)<=800000
def GM.into{d:rc CU}(h:GM w n z d):CE w z d/\∀c∈d,gU w w.heap.size c:=by
 refine⟨⟨Ak h.row (mO _),λc e=>(h.each c e).at_.base (mO _)⟩,λc e=>?_⟩;have b:=(h.each c e).at_;exact⟨b.base (mO _),λk a=>(b.head.lt k a).2,λk a=>(b.body.row.lt k a).2,λp f k a=>(World.ownsRow.lt (b.body.each p f).1 k a).2⟩
def iH{c:CU}{r:Int×Int}(h:YB p k c=V r):r.1≠0:=by
 unfold YB at h;split at h
 .simp only[mB]at h;subst h;simp
 .split at h
  .simp only[mB]at h;subst h;simp
  .split at h
   .simp only[mB]at h;subst h;simp
   .cases h
def bw{b:rc CU}:∀(l:rc CU) (k:Nat) {r:Int×Int},P9 b k l=V r->r.1≠0
 |[],k,r,h=>by simp[P9]at h
 |c::l,k,r,h=>by
  rw[P9]at h;split at h
  .rename_i d a;simp only[mB]at h;subst h;exact iH a
  .exact bw l (k+1) h
def fm(s:zA)(w:ly)(lv:ml)(n:Nat)(r:Int×Int):Prop:=r.1=0->s.size<=300/\∃cs pcs,Ds (DH s) 0 []=.ok cs/\pcs.map CU.pc=cs/\n=Z pcs/\CE w lv pcs
theorem J2(s:zA)(f:zA->zA->Bool)(w:ly)(BA:s.size<=9223372036854775807)(B:s.size<=300->∀b,Ds (DH s) 0 []=.ok b->∀a,a.map CU.pc=b->V7 f a):
  Calls prog 40 #[O s] w λe M=>∃(j:Option Addr) (n k:Nat) (r:Int×Int),e=kt (.tuple #[U j n k,X J r.1,X J r.2])/\El s f r/\fm s M (U j n k) n r/\Ac [] w M:=by
 by_cases S:300<s.size
 .have AT:(300:Int)<(s.size:Int):=by omega
  have i:nc (El s f (1,0)):=by
   show El _ _ _;unfold El;rw[mK S]
  clear B;go_enter func40,ntmps40;go_wp2;go_ret3;exact⟨Y,0,0,(1,0),rfl,i,λh=>absurd h (by decide),re _ _⟩
 .have AT:¬(300:Int)<(s.size:Int):=by omega
  have W:=Ab (KL s w (by omega));have y:=Ab (B (by omega));have u:nc (∀r,El s f r↔(match Ds (DH s) 0 [] with| .error p=>r=(2,p)| .ok b=>∃a:rc CU,a.map CU.pc=b/\(∀c∈a,Wf c)/\r=To f a)):=by
   intro r;unfold El;rw[mJ S]
  clear B;go_enter func40,ntmps40;go_wp2_with fail
  refine W.mono ?_;intro e w2 x;clear W;cases hp:Ds (DH s) 0 [] with
  |error p=>
   rw[hp]at x;obtain⟨rfl,m⟩:=x;have i:nc (El s f (2,p)):=by
    show El _ _ _;rw[Aa u,hp]
   have v:=Ab m;clear hp u y m;go_wp2;go_ret3;exact⟨Y,0,0,(2,p),rfl,i,λh=>absurd h (by simp),v⟩
  |ok b=>
   rw[hp]at x;obtain⟨j,k,a,rfl,o,G,m⟩:=x;have q:=Aa y b hp a o;(have AO:Z b=Z a:=by rw[<-o];simp);rw[AO]at G⊢;obtain⟨t,R⟩:=G.into;have i:nc (∀r,r=To f a->El s f r):=by
    intro r E;rw[Aa u,hp];exact⟨a,o,λc d=>(t.each c d).wf,E⟩
   have L:=Ab (O5 j k a w2 t R q.len q.fit);have T:=Ab t;have P:nc (Ds (DH s) 0 []=.ok b/\a.map CU.pc=b):=⟨hp,o⟩;have l:=Ab q;have v:=Ab m;clear hp u y m o G t R q;(go_wp2_with fail);refine L.mono ?_;rintro e w3 ⟨rfl,C⟩;have z:=Ab (T.kept C);have H:=Ab (v.trans C);clear L T v C;cases d:P9 a 0 a with
   |some r=>
    have F:=bw _ _ d;(have AH:(r.1 !=0)=jj:=by simp[bne,F]);have g:=Ab (i r (by unfold To;rw[d]));obtain⟨N,r2⟩:=r;simp only at AH F;have A1:nc (N≠0):=F;clear d i;simp only[Z0];go_wp2;go_ret3;exact⟨Y,0,0,(N,r2),rfl,g,λh=>absurd h A1,H⟩
   |none=>
    have Ax:=Ab (Vm f j k a l.yk w3 z l.len (λc d=>(l.fit c d).pc.lits) l.names);have g:nc (∀r,r=(match Qm f a with|some p=>((6:Int),p)|none=>(0,0))->El s f r):=by
     intro r E;refine i r ?_;unfold To;rw[d];exact E
    clear d i l;simp only[Z0];(go_wp2_with fail);refine Ax.mono ?_;rintro e w4 ⟨rfl,I⟩;have Q:=Ab (H.trans I);have A0:nc (s.size<=300/\∃b A,Ds (DH s) 0 []=.ok b/\A.map CU.pc=b/\Z a=Z A/\CE w4 (U j (Z a) k) A):=⟨by omega,b,a,P.1,P.2,rfl,z.kept I⟩;clear Ax I H z;cases hl:Qm f a with
    |some p=>
     rw[hl]at g;have D:=Ab (g (6,p) rfl);clear hl g;simp only[BJ];go_wp2;go_ret3;exact⟨Y,0,0,(6,p),rfl,D,λh=>absurd h (by simp),Q⟩
    |none=>
     rw[hl]at g;have D:=Ab (g (0,0) rfl);clear hl g;simp only[BJ];go_wp2;go_ret3;exact⟨j,Z a,k,(0,0),rfl,D,λ_=>A0,Q⟩
def F2{α β:Type}(R:α->β->Prop):rc α->rc β->Prop
 |[],[]=>True
 |a::l,b::m=>R a b/\F2 R l m
 |_,_=>False
def F2.nil{α β:Type}{R:α->β->Prop}:F2 R ([]:rc α) ([]:rc β):=trivial
def F2.cons{α β:Type}{R:α->β->Prop}{a:α}{b:β}{l:rc α}{m:rc β}(h:R a b)(t:F2 R l m):F2 R (a::l) (b::m):=⟨h,t⟩
def F2.ind{α β:Type}{R:α->β->Prop}{motive:(l:rc α)->(m:rc β)->F2 R l m->Prop}(nil:motive [] [] F2.nil)(cons:∀{a:α} {b:β} {l:rc α} {m:rc β} (h:R a b) (t:F2 R l m),motive l m t->motive (a::l) (b::m) (F2.cons h t)):∀{l:rc α} {m:rc β} (h:F2 R l m),motive l m h
 |[],[],_=>nil
 |[],_::_,h=>h.elim
 |_::_,[],h=>h.elim
 |_::_,_::_,h=>cons h.1 h.2 (F2.ind nil cons h.2)
def F2.of_map{α β γ:Type}{f:α->γ}{g:β->γ}:∀{l:rc α} {m:rc β},l.map f=m.map g->F2 (λa b=>f a=g b) l m
 |[],[],_=>F2.nil
 |[],_::_,h=>by simp at h
 |_::_,[],h=>by simp at h
 |a::l,b::m,h=>by
  simp only[mU,oA]at h;exact F2.cons h.1 (F2.of_map h.2)
def F2.lenX{α β:Type}{R:α->β->Prop}{l:rc α}{m:rc β}(h:F2 R l m):Z l=Z m:=by
 induction h using F2.ind with
 |nil=>rfl
 |cons _ _ ih=>simp[ih]
def F2.take{α β:Type}{R:α->β->Prop}{l:rc α}{m:rc β}(h:F2 R l m)(k:Nat):F2 R (l.take k) (m.take k):=by
 induction h using F2.ind generalizing k with
 |nil=>simp;exact F2.nil
 |cons h1 _ ih=>
  cases k with
  |zero=>simp;exact F2.nil
  |succ k=>simp only[pk];exact F2.cons h1 (ih k)
def F2.flatMap{α β γ:Type}{R:α->β->Prop}{f:α->rc γ}{g:β->rc γ}(c:∀a b,R a b->f a=g b){l:rc α}{m:rc β}(h:F2 R l m):l.flatMap f=m.flatMap g:=by
 induction h using F2.ind with
 |nil=>rfl
 |cons h1 _ ih=>rw[mX,mX,c _ _ h1,ih]
def F2.any{α β:Type}{R:α->β->Prop}{f:α->Bool}{g:β->Bool}(c:∀a b,R a b->f a=g b){l:rc α}{m:rc β}(h:F2 R l m):l.any f=m.any g:=by
 induction h using F2.ind with
 |nil=>rfl
 |cons h1 _ ih=>rw[pZ,pZ,c _ _ h1,ih]
def F2.find{α β γ:Type}{R:α->β->Prop}{f:α->Bool}{g:β->Bool}{u:α->γ}{v:β->γ}(d:∀a b,R a b->f a=g b/\u a=v b){l:rc α}{m:rc β}(h:F2 R l m):(l.find? f).map u=(m.find? g).map v:=by
 induction h using F2.ind with
 |nil=>rfl
 |cons h1 _ ih=>
  obtain⟨e,c⟩:=d _ _ h1;rw[pI,pI,e];split
  .simp[c]
  .exact ih
def F2.mem{α β:Type}{R:α->β->Prop}{l:rc α}{m:rc β}(h:F2 R l m):∀b∈m,∃a∈l,R a b:=by
 induction h using F2.ind with
 |nil=>intro b c;simp at c
 |cons h1 _ ih=>
  intro b c;rcases mA.1 c with rfl|c
  .exact⟨_,by simp,h1⟩
  .obtain⟨a,d,e⟩:=ih b c;exact⟨a,by simp[d],e⟩
def F2.zw{α β:Type}{R:α->β->Prop}{l:rc α}{m:rc β}(h:F2 R l m):∀a∈l,∃b∈m,R a b:=by
 induction h using F2.ind with
 |nil=>intro b c;simp at c
 |cons h1 _ ih=>
  intro b c;rcases mA.1 c with rfl|c
  .exact⟨_,by simp,h1⟩
  .obtain⟨a,d,e⟩:=ih b c;exact⟨a,by simp[d],e⟩
def F2.mono{α β:Type}{R S:α->β->Prop}{l:rc α}{m:rc β}(h:F2 R l m)(c:∀a∈l,∀b∈m,R a b->S a b):F2 S l m:=by
 induction h using F2.ind with
 |nil=>exact F2.nil
 |cons h1 _ ih=>exact F2.cons (c _ (by simp) _ (by simp) h1) (ih (λa d b e=>c a (by simp[d]) b (by simp[e])))
structure Uy(p:Mk)(q:Bb):Prop where
 eq:p.1=MA q.1
 len:lenOf p.2=Z q.1.A.args
 plain:MP q=K->q.1.A.args=[]
def ZY(t:AJ):((ct t).v==0)=(t.v==0):=by
 unfold ct;simp only;rw[nT];simp only[oI];constructor
 .intro h;apply oE.1;rw[show(0:UInt8).toNat=0 from rfl]
  omega
 .intro h;rw[h];rfl
def jL(t:AJ)(v:UInt8):((ct t).v==(v.toNat:Int))=(t.v==v):=by
 unfold ct;simp only;rw[nT];simp only[oI];constructor
 .intro h;apply oE.1;omega
 .intro h;rw[h]
def Tu(k:UInt8):(Gu k==0)=(k==97):=by
 unfold Gu;by_cases h:k=97
 .simp[h]
 .by_cases a:k=33
  .simp[a]
  .by_cases b:k=61
   .simp[b]
   .by_cases c:k=35
    .simp[c]
    .simp[h,a,b,c]
def ed(k:UInt8):(Gu k==1)=(k==33):=by
 unfold Gu;by_cases h:k=97
 .simp[h]
 .by_cases a:k=33
  .simp[a]
  .by_cases b:k=61
   .simp[b]
   .by_cases c:k=35
    .simp[c]
    .simp[h,a,b,c]
def Uy.atom{p:Mk}{q:Bb}(h:Uy p q):Bm p.1=MP q:=by
 unfold Bm MP;rw[h.eq];simp only[MA,Tu,ed]
def Uy.zR{p:Mk}{q:Bb}(h:Uy p q):AS p.1=(AG q).map ct:=by
 unfold AS AG;rw[h.atom,h.eq];split<;>simp[MA]
structure Qy(c:CU)(r:AV):Prop where
 hp:c.hp=r.head.at_
 hn:c.hn=r.head.name
 zE:c.zE=r.head.args.map ct
 lits:F2 Uy c.zD r.bl
 len:lenOf c.hv=Z r.head.args
 at_:r.at_=r.head.at_
def Ht(r:AV):rc zA:=r.head.name::(r.bl.filter MP).map λq=>q.1.A.name
def E5(r:AV):rc AJ:=r.head.args++r.bl.flatMap AG
def Y6{a:rc Mk}{b:rc Bb}(h:F2 Uy a b):GT a=(b.filter MP).map λq=>q.1.A.name:=by
 unfold GT
 induction h using F2.ind with
 |nil=>rfl
 |cons h1 _ ih=>
  rw[oh,oh,h1.atom];split
  .rw[mU,mU,ih,h1.eq];rfl
  .exact ih
def Qy.names{c:CU}{r:AV}(h:Qy c r):Cu c=Ht r:=by
 unfold Cu Ht;rw[h.hn,Y6 h.lits]
def Qy.zR{c:CU}{r:AV}(h:Qy c r):Bn c=(E5 r).map ct:=by
 unfold Bn E5 A7;rw[h.zE,nk,qw,F2.flatMap (λa b d=>d.zR) h.lits]
def JB(r:AV):rc zA:=((E5 r).filter λt=>t.v==0).map λt=>t.s
def Qy.zC{c:CU}{r:AV}(h:Qy c r):C5 c=(JB r).map Ek:=by
 unfold C5 JB;rw[h.zR,List.filter_map,nN,nN];have e:(E5 r).filter ((λt=>t.v==0)∘ct)=(E5 r).filter λt=>t.v==0:=by
  apply List.filter_congr;intro t _;exact ZY t
 rw[e];rfl
def Wq(f:zA->zA)(h:∀a b,f a=f b->a=b)(l:rc zA):Z (jz (l.map f))=Z (jz l):=by
 rw[show Z (jz l)=Z ((jz l).map f) from by simp]
 refine Nr (C9 _).1 (List.Pairwise.map f (λa b g e=>g (h a b e)) (C9 l).1) (λy=>?_);rw[(C9 _).2,mD,mD];constructor
 .rintro ⟨x,d,c⟩;exact⟨x,((C9 l).2 x).2 d,c⟩
 .rintro ⟨x,d,c⟩;exact⟨x,((C9 l).2 x).1 d,c⟩
def Wx(l:rc zA)(r:AV):Qz l r=(Ht r).foldl Ed l:=by
 unfold Qz Ht;rw[nh];generalize Ed l r.head.name=l0
 induction r.bl generalizing l0 with
 |nil=>rfl
 |cons q bl ih=>
  rw[nh,oh];unfold zF;cases hq:MP q with
  |true=>
   simp only[if_true,mU,nh];exact ih _
  |false=>
   simp only[mC,if_false];exact ih _
def NP{α β γ:Type}(f:γ->β->γ)(g:α->rc β):∀(l:rc α) (c:γ),(l.flatMap g).foldl f c=l.foldl (λc a=>(g a).foldl f c) c
 |[],c=>rfl
 |a::l,c=>by rw[mX,nH,nh,NP f g l]
def N5(a:rc AV):EO a=jz (a.flatMap Ht):=by
 unfold EO jz;rw[NP]
 congr 1
 funext l r
 exact Wx l r
def Qb(x y:zA):∀(l:rc zA) (a:rc zA×Bool),(y∈(l.foldl (DA x) a).1↔y∈a.1\/y∈l\/(y=x/\a.2=K/\(l.foldl (DA x) a).2=jj))/\(a.2=jj->(l.foldl (DA x) a).2=jj)
 |[],a=>by
  refine⟨?_,λh=>h⟩;simp only[List.foldl_nil,nI,false_or];constructor
  .exact lo
  .rintro (h|⟨_,f,e⟩)
   .exact h
   .rw[f]at e;cases e
 |z::l,a=>by
  obtain⟨b,c⟩:=Qb x y l (DA x a z);rw[nh];unfold DA at b c⊢;cases hb:(!a.2&&Gv x z)with
  |true=>
   have d:a.2=K:=by
    cases h:a.2 with
    |false=>rfl
    |true=>rw[h]at hb;simp at hb
   rw[hb]at b c;simp only[if_true]at b c⊢;have g:=c trivial;refine⟨?_,λh=>by rw[d]at h;cases h⟩;rw[b,g,d];simp only[mF,mA,nI,Bool.true_eq_false,false_and,and_false,or_false,true_and,and_true,and_self];constructor
   .rintro ((h|h)|h)
    .rcases h with h|h
     .exact lo h
     .exact lx (lx h)
    .exact lx (lo (lo h))
    .exact lx (lo (lx h))
   .rintro (h|(h|h)|h)
    .exact lo (lo (lo h))
    .exact lo (lx h)
    .exact lx h
    .exact lo (lo (lx h))
  |false=>
   rw[hb]at b c;simp only[mC,if_false]at b c⊢;refine⟨?_,c⟩;rw[b];simp only[mF,mA,nI,or_false];constructor
   .rintro ((h|h)|h|h)
    .exact lo h
    .exact lx (lo (lo h))
    .exact lx (lo (lx h))
    .exact lx (lx h)
   .rintro (h|(h|h)|h)
    .exact lo (lo h)
    .exact lo (lx h)
    .exact lx (lo h)
    .exact lx (lx h)
def cu(l:rc zA)(x y:zA):y∈Jg l x↔y=x\/y∈l:=by
 have h:=(Qb x y l ([],K)).1;unfold Jg;unfold Oo;cases hf:(l.foldl (DA x) ([],K)).2 with
 |true=>
  rw[hf]at h;simp only[if_true];rw[h];simp only[nI,false_or,true_and,and_true,and_self];exact⟨λh=>by rcases h with h|h;exact lx h;exact lo h,λh=>by rcases h with h|h;exact lx h;exact lo h⟩
 |false=>
  rw[hf]at h;simp only[mC,if_false,mF,my];rw[h];simp only[nI,false_or,mC,and_false,or_false];exact⟨λh=>by rcases h with h|h;exact lx h;exact lo h,λh=>by rcases h with h|h;exact lx h;exact lo h⟩
structure Qs(a b:rc zA):Prop where
 mem:∀y,y∈a↔y∈b
 len:Z a=Z b
def Qs.zb{a b:rc zA}(h:Qs a b)(t:AJ):Qs (zb a t) (if t.v==0 then Ed b t.s else b):=by
 unfold Go.Proofs.YtoihbhenbmffcaaGreatDoor.zb Ed;cases hv:(t.v==0)with
 |false=>simpa using h
 |true=>
  have e:DY a t.s=DY b t.s:=by rw[nT,I5,I5,h.mem]
  rw[e];cases hh:DY b t.s with
  |true=>simpa using h
  |false=>
   simp only[nZ,pE,if_true,mC,if_false];refine⟨λy=>?_,by rw[Pn,h.len];simp⟩;rw[cu,h.mem];simp only[mF,my];exact⟨λh=>by rcases h with h|h;exact lx h;exact lo h,λh=>by rcases h with h|h;exact lx h;exact lo h⟩
def Qs.zT{a b:rc zA}(h:Qs a b):∀d:rc AJ,Qs (zT a d) (((d.filter λt=>t.v==0).map λt=>t.s).foldl Ed b):=by
 intro d;unfold Go.Proofs.YtoihbhenbmffcaaGreatDoor.zT
 induction d generalizing a b with
 |nil=>exact h
 |cons t d ih=>
  rw[nh,oh];have c:=h.zb t;cases hv:(t.v==0)with
  |true=>
   rw[hv]at c;simp only[if_true]at c⊢;rw[mU,nh];exact ih c
  |false=>
   rw[hv]at c;simp only[mC,if_false]at c⊢;exact ih c
def Xc(l:rc zA)(a b:rc AJ):zT l (a++b)=zT (zT l a) b:=by
 unfold zT;rw[nH]
def YU(l:rc zA)(r:AV):La l r=zT l (E5 r):=by
 unfold La E5;rw[Xc];generalize zT l r.head.args=l0
 induction r.bl generalizing l0 with
 |nil=>rfl
 |cons q bl ih=>
  rw[nh,mX,Xc];exact ih _
def Fc(d:rc AV):Qs (Bj d) (jz (d.flatMap JB)):=by
 unfold Bj jz;rw[NP];have:∀(l:rc AV) (a b:rc zA),Qs a b->Qs (l.foldl La a) (l.foldl (λc r=>(JB r).foldl Ed c) b):=by
  intro l
  induction l with
  |nil=>intro a b h;exact h
  |cons r l ih=>
   intro a b h;rw[nh,nh];refine ih _ _ ?_;rw[YU];exact h.zT _
 exact this d [] [] ⟨λy=>Iff.rfl,rfl⟩
abbrev lS:=Int×zA×Nat
def VU(a:Ij):lS:=(a.place,a.name,lenOf a.tv)
def Fs(r:AV):rc lS:=((r.head.at_:Int),r.head.name,Z r.head.args)::(r.bl.filter MP).map λq=>((q.1.A.at_:Int),q.1.A.name,Z q.1.A.args)
def YQ{a:rc Mk}{b:rc Bb}(h:F2 Uy a b):(AU a).map VU=(b.filter MP).map λq=>((q.1.A.at_:Int),q.1.A.name,Z q.1.A.args):=by
 unfold AU
 induction h using F2.ind with
 |nil=>rfl
 |cons h1 _ ih=>
  rw[oh,oh,h1.atom];split
  .rw[mU,mU,mU,ih]
   congr 1
   unfold VU;simp only;rw[h1.eq,h1.len];rfl
  .exact ih
def Qy.atoms{c:CU}{r:AV}(h:Qy c r):(BG c).map VU=Fs r:=by
 unfold BG Fs;rw[mU,YQ h.lits]
 congr 1
 unfold VU;simp only;rw[h.hp,h.hn,h.len]
def jX(x:zA)(p:zA×Nat):Bool:=p.1.toList==x.toList
def PS(L:rc (zA×Nat))(x:zA):Int:=match L.find? (jX x)with|some p=>p.2|none=> -1
def gP(L:rc (zA×Nat))(a:lS):Bool:=PS L a.2.1 !=(a.2.2:Int)
def FN(cs:rc AV):rc (zA×Nat):=cs.flatMap λr=>(Fs r).map λa=>a.2
def Wi(a:rc Bb)(x:zA):S3 a x=(((a.filter MP).map λq=>(q.1.A.name,Z q.1.A.args)).find? (jX x)).map λp=>p.2:=by
 unfold S3
 induction a with
 |nil=>rfl
 |cons q a ih=>
  rw[qg,oh];cases hq:MP q with
  |false=>
   simp only[pL,mC,if_false];exact ih
  |true=>
   simp only[oy,if_true,mU];rw[pI];unfold jX;simp only;cases hn:(q.1.A.name.toList==x.toList)with
   |true=>rfl
   |false=>exact ih
def We(r:AV)(x:zA):Gm r x=(((Fs r).map λa=>a.2).find? (jX x)).map λp=>p.2:=by
 unfold Gm Fs;rw[mU,pI,Wi,nN];unfold jX;simp only;cases h:(r.head.name.toList==x.toList)with
 |true=>rfl
 |false=>rfl
def Mh(b:rc AV)(x:zA):BQ b x=PS (FN b) x:=by
 have:b.findSome? (Gm · x)=((FN b).find? (jX x)).map λp=>p.2:=by
  unfold FN
  induction b with
  |nil=>rfl
  |cons r b ih=>
   rw[qg,mX,qI,We,ih];cases((Fs r).map λa=>a.2).find? (jX x)<;>rfl
 unfold BQ PS;rw[this];cases(FN b).find? (jX x)<;>rfl
def W5(L:rc (zA×Nat))(r:AV):((Fs r).find? (gP L)).map (λa=>a.1)=
  if PS L r.head.name≠(Z r.head.args:Int)then V (r.head.at_:Int)else(r.bl.find? λq=>MP q&&(PS L q.1.A.name !=(Z q.1.A.args:Int))).map λq=>(q.1.A.at_:Int):=by
 unfold Fs;rw[pI];have e:gP L ((r.head.at_:Int),r.head.name,Z r.head.args)=(PS L r.head.name !=(Z r.head.args:Int)):=rfl;rw[e];cases hh:(PS L r.head.name !=(Z r.head.args:Int))with
 |true=>
  have:PS L r.head.name≠(Z r.head.args:Int):=by simpa using hh
  rw[mK this];rfl
 |false=>
  have:¬PS L r.head.name≠(Z r.head.args:Int):=by simpa using hh
  rw[mJ this];simp only
  induction r.bl with
  |nil=>rfl
  |cons q bl ih=>
   rw[oh,pI];cases hq:MP q with
   |false=>
    simp only[pL,mC,if_false];exact ih
   |true=>
    simp only[oy,if_true,mU];rw[pI];have b:gP L ((q.1.A.at_:Int),q.1.A.name,Z q.1.A.args)=(PS L q.1.A.name !=(Z q.1.A.args:Int)):=rfl;rw[b];cases(PS L q.1.A.name !=(Z q.1.A.args:Int))with
    |true=>rfl
    |false=>exact ih
def Qy.bound{c:CU}{r:AV}(h:Qy c r)(v:UInt8):Qv c.zD (v.toNat:Int)=Ls r.bl v:=by
 unfold Qv Ls G6;have b:=h.lits;generalize c.zD=zD at b;generalize r.bl=bl at b
 induction b using F2.ind with
 |nil=>rfl
 |cons h1 _ ih=>
  rw[mX,qF,pZ,ih]
  congr 1
  unfold Lv Tg;rw[h1.eq];simp only[MA,Tu];split
  .rename_i a;rw[a,qd];simp only[oy];apply OJ;intro t _;exact jL t v
  .rename_i a;simp only[Bool.not_eq_true]at a;rw[a];rfl
def Qy.loose{c:CU}{r:AV}(h:Qy c r)(t:AJ):Qx c (ct t)=Db r.bl t:=by
 unfold Qx Db;have e:((ct t).v !=0)= !(t.v==0):=by rw[bne,ZY]
 rw[e];have:(ct t).v=(t.v.toNat:Int):=rfl;rw[this,h.bound];cases(t.v==0)<;>simp
def Qy.yi{c:CU}{r:AV}(h:Qy c r):IQ c=if 0<=Ee r.head r.bl then V (Ee r.head r.bl)else Y:=by
 unfold IQ Ee;have d:c.zE.any (Qx c)=r.head.args.any (Db r.bl):=by
  rw[h.zE,qd];apply OJ;intro t _;exact h.loose t
 have b:(c.zD.find? λp=>(AS p.1).any (Qx c)).map (λp=>p.1.place)=(r.bl.find? (Kw r.bl)).map λq=>(q.1.at_:Int):=by
  refine F2.find (λp q a=>⟨?_,?_⟩) h.lits
  .unfold Kw;rw[a.zR,qd];apply OJ;intro t _;exact h.loose t
  .rw[a.eq];rfl
 rw[d,b,h.hp];cases r.head.args.any (Db r.bl)with
 |true=>
  simp only[if_true];rw[mK (by omega)]
 |false=>
  simp only[mC,if_false];cases r.bl.find? (Kw r.bl)with
  |none=>rfl
  |some q=>
   simp only[ox];rw[mK (by omega)]
def Qy.ye{c:CU}{r:AV}(h:Qy c r):Lx c=(decide (2<Z r.head.args)||r.bl.any BM||decide (3<Z r.bl)):=by
 unfold Lx;rw[h.lits.lenX]
 congr 1
 have e:(BG c).any (λa=>decide (2<lenOf a.tv))=(Fs r).any λa=>decide (2<a.2.2):=by
  rw[<-h.atoms,qd];rfl
 rw[e];unfold Fs;rw[pZ]
 congr 1
 have d:∀q∈r.bl,MP q=K->q.1.A.args=[]:=λq b=>by
  obtain⟨p,_,f⟩:=h.lits.mem q b;exact f.plain
 generalize r.bl=bl at d
 induction bl with
 |nil=>rfl
 |cons q bl ih=>
  rw[oh,pZ];have ih:=ih (λq b=>d q (by simp[b]));cases b:MP q with
  |true=>
   simp only[if_true,mU,pZ];rw[ih];rfl
  |false=>
   have:=d q (by simp) b;simp only[mC,if_false];rw[ih];unfold BM;rw[this];rfl
def bM{d:rc AV}(h:F2 Qy p d):FN d=((p.flatMap BG).map VU).map λa=>a.2:=by
 unfold FN;rw[qw,<-F2.flatMap (f:=λc=>(BG c).map VU) (g:=Fs) (λa b e=>e.atoms) h|>.symm,qw]
def SA{a:rc CU}(h:F2 Qy a c)(x:zA):iq a x=((FN c).find? (jX x)).map λp=>p.2:=by
 rw[bM h,nN,List.find?_map,Option.map_map];rfl
def fh{d:rc CU}{b:rc AV}(h:F2 Qy d b){c:CU}{r:AV}(j:Qy c r)(k:∀a∈Fs r,a.2∈FN b)(f:Lx c=K):
  kn d (BG c)=((Fs r).find? (gP (FN b))).map λa=>a.1:=by
 unfold kn;rw[<-j.atoms,List.find?_map,Option.map_map];have e:(BG c).find? (Ta d)=(BG c).find? (gP (FN b)∘VU):=by
  apply Pi;intro a i;have m:¬2<lenOf a.tv:=by
   unfold Lx at f;simp only[pu]at f;have:=(oC.1 f.1) a i;simpa using this
  have l:(VU a).2∈FN b:=k _ (by rw[<-j.atoms];exact mR i);have g:((FN b).find? (jX a.name)).isSome=jj:=by
   rw[List.find?_isSome];exact⟨_,l,by simp[jX,VU]⟩
  unfold Ta gP PS;simp only[Function.comp];rw[SA h];rw[show(VU a).2.1=a.name from rfl,show(VU a).2.2=lenOf a.tv from rfl]
  cases hq:(FN b).find? (jX a.name)with
  |none=>rw[hq]at g;cases g
  |some p=>
   simp only[ox,m,qz,pq];rw[nT];simp only[oJ,nj,bne_iff_ne,ne_eq];omega
 rw[e];rfl
def cN{d:rc AV}(h:F2 Qy p d){c:CU}{r:AV}(e:Qy c r)(x:∀a∈Fs r,a.2∈FN d):
  YB p k c=Cv d k r:=by
 have s:=fh h e x;have w:Z (jz ((p.take (k+1)).flatMap Cu))=Z (EO (d.take (k+1))):=by
  rw[N5,F2.flatMap (λa b m=>m.names) (h.take (k+1))]
 have v:Z (jz ((p.take (k+1)).flatMap C5))=Z (Bj (d.take (k+1))):=by
  rw[(Fc _).len,F2.flatMap (g:=λr=>(JB r).map Ek) (λa b m=>m.zC) (h.take (k+1)),<-qw,Wq _ (λa b=>Zz)]
 unfold YB Cv Yr;rw[e.ye]at s;rw[w,v,e.ye,e.yi,Mh,e.hp,e.at_];generalize Z (EO (d.take (k+1)))=N;generalize Z (Bj (d.take (k+1)))=T;cases hcond:((decide (12<k+1)||decide (6<N)||decide (6<T))||(decide (2<Z r.head.args)||r.bl.any BM||decide (3<Z r.bl)))with
 |true=>
  rw[mK rfl];by_cases i:12<=k\/3<Z r.bl
  .rw[mK i]
  .rw[mJ i];by_cases l:2<Z r.head.args
   .rw[mK l]
   .rw[mJ l];by_cases n:r.bl.any BM=jj
    .rw[mK n]
    .rw[mJ n];by_cases f:6<N\/6<T
     .rw[mK f]
     .exfalso
      simp only[om,py]at hcond;simp only[not_or]at i f;rcases hcond with((h|h)|h)|((h|h)|h)
      .omega
      .exact f.1 h
      .exact f.2 h
      .exact l h
      .exact n h
      .exact i.2 h
 |false=>
  simp only[pu,oF]at hcond;obtain⟨⟨⟨B,C⟩,D⟩,⟨t,o⟩,z⟩:=hcond;rw[s (by simp only[t,o,z,qz,qS]),W5];rw[mJ (show¬(K=jj) by simp),mJ (show¬(12<=k\/3<Z r.bl) by omega),mJ t,mJ (show¬(r.bl.any BM=jj) by rw[o];simp),mJ (show¬(6<N\/6<T) by omega)];by_cases j:PS (FN d) r.head.name≠(Z r.head.args:Int)
  .rw[mK j,mK j]
  .rw[mJ j,mJ j];have u:(r.bl.find? λq=>MP q&&(PS (FN d) q.1.A.name !=(Z q.1.A.args:Int)))=r.bl.find? (Ci d):=by
    apply Pi;intro q _;unfold Ci;rw[Mh]
   rw[u];cases r.bl.find? (Ci d)with
   |some q=>rfl
   |none=>
    simp only[Option.map_none];by_cases y:0<=Ee r.head r.bl<;>simp[y]
def Za{b:rc AV}(h:F2 Qy p b):∀{l:rc CU} {m:rc AV},F2 Qy l m->∀(k:Nat),(∀r∈m,r∈b)->P9 p k l=ER b k m:=by
 intro l m g
 induction g using F2.ind with
 |nil=>intro k _;rfl
 |cons hc _ ih=>
  rename_i c r l m _;intro k e;have d:∀a∈Fs r,a.2∈FN b:=λa f=>m6.2 ⟨r,e r (by simp),mR f⟩
  rw[P9,ER,cN h hc d];cases hs:Cv b k r with
  |some x=>rfl
  |none=>exact ih (k+1) (λr d=>e r (by simp[d]))
def YX{d:rc CU}{a:rc AV}(h:F2 Qy d a){f:zA->zA->Bool}(i:∀x y,f x y=IC a x y):(Qm f d).map (λp=>((6:Int),p))=a.findSome? (D4 a):=by
 unfold Qm;have g:∀{l:rc CU} {m:rc AV},F2 Qy l m->(l.findSome? (Mi f)).map (λp=>((6:Int),p))=m.findSome? (D4 a):=by
  intro l m j
  induction j using F2.ind with
  |nil=>rfl
  |cons hc _ ih=>
   rename_i c r l m _;rw[qg,qg];have e:(Mi f c).map (λp=>((6:Int),p))=D4 a r:=by
    unfold Mi D4;rw[Option.map_map];refine F2.find (λp q b=>⟨?_,?_⟩) hc.lits
    .unfold ND Fq;rw[b.eq,i,hc.hn];simp only[MA,ed]
    .simp only[Function.comp];rw[b.eq];rfl
   rw[<-e];cases Mi f c with
   |some p=>rfl
   |none=>exact ih
 exact g h
def Zg(h:F2 Qy p c){f:zA->zA->Bool}(a:∀x y,f x y=IC c x y):To f p=CQ c:=by
 unfold To CQ;rw[Za h h 0 (λr b=>b),<-YX h a];cases ER c 0 c with
 |some r=>rfl
 |none=>
  simp only;cases Qm f p<;>rfl
def S7(cs:rc AV)(x y:zA):Prop:=∀S:zA->Prop,S x->(∀r∈cs,S r.head.name->∀z∈Ht r,S z)->S y
def GG(h:(s.toList==t.toList)=jj):s=t:=(I7.eqv s t).1 h
def LK(y:zA):∀(a:rc Bb) (l:rc zA),y∈a.foldl zF l↔y∈l\/y∈(a.filter MP).map λq=>q.1.A.name
 |[],l=>by simp
 |q::a,l=>by
  rw[nh,LK y a,oh];unfold zF;cases hq:MP q with
  |false=>simp only[mC,if_false]
  |true=>
   simp only[if_true,Ug,mU,mA];constructor
   .rintro ((h|h)|h)
    .exact lx (lo h)
    .exact lo h
    .exact lx (lx h)
   .rintro (h|h|h)
    .exact lo (lx h)
    .exact lo (lo h)
    .exact lx h
def Mm(x y:zA):∀(d:rc AV) (l:rc zA),y∈Oz d l x↔y∈l\/∃r∈d,r.head.name=x/\y∈(r.bl.filter MP).map λq=>q.1.A.name
 |[],l=>by simp[Oz]
 |r::d,l=>by
  have ih:=Mm x y d (OI x l r);unfold Oz at ih⊢;rw[nh,ih];unfold OI;cases hr:(r.head.name.toList==x.toList)with
  |true=>
   have g:=GG hr;simp only[if_true,LK];constructor
   .rintro ((h|h)|⟨c,a,b⟩)
    .exact lo h
    .exact lx ⟨r,by simp,g,h⟩
    .exact lx ⟨c,by simp[a],b⟩
   .rintro (h|⟨c,a,b,f⟩)
    .exact lo (lo h)
    .rcases mA.1 a with rfl|a
     .exact lo (lx f)
     .exact lx ⟨c,a,b,f⟩
  |false=>
   (have i:r.head.name≠x:=λe=>by rw[e]at hr;simp at hr);simp only[mC,if_false];constructor
   .rintro (h|⟨c,a,b⟩)
    .exact lo h
    .exact lx ⟨c,by simp[a],b⟩
   .rintro (h|⟨c,a,b,f⟩)
    .exact lo h
    .rcases mA.1 a with rfl|a
     .exact absurd b i
     .exact lx ⟨c,a,b,f⟩
def QY{d:rc AV}{c:AV}(e:c∈d){l:rc zA}:∀(b:rc Bb) (a:rc zA),(∀q∈b,q∈c.bl)->FR d l a->FR d l (b.foldl zF a)
 |[],a,_,h=>h
 |q::b,a,hs,h=>by
  rw[nh];exact QY e b _ (λf g=>hs f (by simp[g])) (h.zF e (hs q (by simp)))
def RX{d:rc AV}{l:rc zA}(x:zA):∀(a:rc AV) (b:rc zA),(∀c∈a,c∈d)->FR d l b->FR d l (Oz a b x)
 |[],b,_,h=>h
 |c::a,b,hs,h=>by
  unfold Oz;rw[nh];refine RX x a _ (λg f=>hs g (by simp[f])) ?_;unfold OI;split
  .exact QY (hs c (by simp)) c.bl _ (λq e=>e) h
  .exact h
def RM{a:rc AV}{t g:zA}:∀(f:Nat) (l:rc zA) (n:Nat),2+Z (DD a)<=f+n->Bd a l->n<=Z l->(∀i (h:i<Z l),i<n->l[i]≠g)->
  (∀i (h:i<Z l),i<n->∀r∈a,r.head.name=l[i]->∀y∈(r.bl.filter MP).map (λq=>q.1.A.name),y∈l)->t∈l->(∀y∈l,S7 a t y)->(Lp f a g l n=jj↔S7 a t g)
 |0,l,n,hf,hb,hn,_,_,_,_=>by
  unfold Bd at hb;omega
 |f+1,l,n,hf,hb,hn,hno,hcl,hfr,hso=>by
  rw[Lp];by_cases m:n<Z l
  .rw[dif_pos m];cases he:(l[n].toList==g.toList)with
   |true=>
    have:=GG he;simp only[if_true,true_iff];rw[<-this];exact hso _ (mw m)
   |false=>
    simp only[mC,if_false];have o:FR a l (Oz a l l[n]):=RX l[n] a l (λc E=>E) ⟨⟨[],by simp⟩,hb⟩;(have x:l[n]≠g:=λe=>by rw[e]at he;simp at he);have F:=o.len.1;refine RM f (Oz a l l[n]) (n+1) (by omega) o.bd (by omega) ?_ ?_ ((Mm _ _ _ _).2 (lo hfr)) ?_
    .intro i k u;obtain⟨_,e⟩:=o.at (show i<Z l by omega);rw[e];rcases pX (show i<=n by omega)with b|b
     .exact hno i (by omega) b
     .subst b;exact x
    .intro i k u r j d y s;obtain⟨_,e⟩:=o.at (show i<Z l by omega);rw[e]at d;rw[Mm];rcases pX (show i<=n by omega)with b|b
     .exact lo (hcl i (by omega) b r j d y s)
     .subst b;exact lx ⟨r,j,d,s⟩
    .intro y s;rcases(Mm _ _ _ _).1 s with b|⟨r,j,d,B⟩
     .exact hso y b
     .intro S D v;have w:=hso _ (mw m) S D v;rw[<-d]at w;exact v r j w y (by unfold Ht;exact no _ B)
  .rw[dif_neg m];simp only[mC,false_iff];intro C;have u:g∈l:=C (λz=>z∈l) hfr (λr j d z p=>by
    obtain⟨i,k,e⟩:=nw d
    unfold Ht at p
    rcases mA.1 p with rfl|p
    .exact d
    .exact hcl i k (by omega) r j e.symm z p)
   obtain⟨i,k,e⟩:=nw u;exact hno i k (by omega) e
def Nm(b:rc AV)(a c:zA):IC b a c=jj↔S7 b a c:=by
 unfold IC;refine RM _ [a] 0 (by omega) ?_ (by simp) (λi h f=>by omega) (λi h f=>by omega) (by simp) (λy d S e _=>by simp at d;subst d;exact e);unfold Bd Rb;have:=qO (p:=λx=> !DY [a] x) (l:=DD b);simp only[mL,m8];omega
structure Hw(l:PL):Prop where
 some:Bm l=jj->0<Z l.ts
 le:Z l.ts<=151
 plain:Bm l=K->l.ts=[]
 bare:Bm l=jj->l.l=A3/\l.r=A3
def QZ{c:rc Be}:∀(k a:Nat) (d:rc AZ) {b:rc AZ} {n:Nat},Z c-a<=k->G7 c a d=.ok (b,n)->0<Z b/\Z b<=Z d+(Z c-a+1)/2
 |k,a,d,b,n,hk,h=>by
  unfold G7 at h;split at h
  .rename_i e;split at h
   .cases h
   .split at h
    .match k with
     |0=>omega
     |k+1=>
      have:=QZ k (a+2) _ (by omega) h;simp only[mM,mL,m8]at this;omega
    .split at h
     .simp only[nU,ny]at h;rw[<-h.1];simp only[mM,mL,m8];omega
     .cases h
  .cases h
def NF{b:rc Be}(d:Z b<=301){a:rc AZ}(h:EC b m=.ok ((k,s,a),n)):0<Z a/\Z a<=151:=by
 unfold EC at h;split at h
 .split at h
  .split at h
   .cases h
   .rename_i c;simp only[nU,ny]at h;have:=QZ _ _ _ (mP _) c;rw[<-h.1.2.2];simp only[m8]at this;omega
  .cases h
 .cases h
def cq{g:rc Be}(j:Z g<=301){l:eu}(h:Hf g m=.ok (l,n)):Hw (Lm l):=by
 unfold Hf at h;split at h
 .split at h
  .cases h
  .rename_i a k b;obtain⟨p,s,o⟩:=a;have:=NF j b;simp only[nU,ny]at h;rw[<-h.1];exact⟨λ_=>this.1,this.2,λf=>by simp[Lm,Bm]at f,λ_=>⟨rfl,rfl⟩⟩
 .split at h
  .split at h
   .cases h
   .rename_i a k b;obtain⟨p,s,o⟩:=a;have:=NF j b;simp only[nU,ny]at h;rw[<-h.1];exact⟨λ_=>this.1,this.2,λf=>by simp[Lm,Bm]at f,λ_=>⟨rfl,rfl⟩⟩
  .split at h
   .cases h
   .rename_i c k b;simp only[nU,ny]at h;rw[<-h.1];have d:c.sort=2\/c.sort=3\/c.sort=4:=by
     unfold MI at b;split at b
     .cases b
     .split at b
      .cases b
      .rename_i q d;split at b
       .cases b
       .simp only[nU,ny]at b;rw[<-b.1];unfold OR at d;split at d
        .simp only[mB]at d;exact lo d.symm
        .split at d
         .simp only[mB]at d;exact lx (lo d.symm)
         .split at d
          .simp only[mB]at d;exact lx (lx d.symm)
          .cases d
    have i:Bm (Lm (.inr c))=jj->False:=λf=>by
     unfold Bm Lm at f;simp only at f;rcases d with e|e|e<;>simp[e]at f
    exact⟨λf=>(i f).elim,by simp[Lm],λ_=>rfl,λf=>(i f).elim⟩
def NC{a:rc Be}(g:Z a<=301):∀(k b:Nat) (d:rc PL) {e:rc PL} {n:Nat},Z a-b<=k->(∀l∈d,Hw l)->Fo a b d=.ok (e,n)->(∀l∈e,Hw l)/\Z e<=Z d+(Z a-b+1)/2
 |k,b,d,e,n,hk,ha,h=>by
  by_cases f:b<Z a
  .cases hl:Hf a b with
   |error p=>rw[Jf f hl]at h;cases h
   |ok r=>
    obtain⟨l,j⟩:=r;have o:=J4 hl;have m:=cq g hl;have i:∀x∈d++[Lm l],Hw x:=by
     intro x c;rcases mF.1 c with c|c
     .exact ha x c
     .simp only[my]at c;subst c;exact m
    rw[OQ f hl]at h;split at h
    .match k with
     |0=>omega
     |k+1=>
      have:=NC g k (j+1) _ (by omega) i h;simp only[mM,mL,m8]at this;exact⟨this.1,by omega⟩
    .simp only[nU,ny]at h;rw[<-h.1];refine⟨i,?_⟩;simp only[mM,mL,m8];omega
  .unfold Fo at h;rw[dif_neg f]at h;cases h
structure Lw(c:PC):Prop where
 head:0<Z c.zE/\Z c.zE<=151
 body:Z c.body<=151
 lits:∀l∈c.body,Hw l
def aE{b:rc Be}{c a:PC}(h:O4 b n c=.ok (a,m)):a=c:=by
 unfold O4 at h;split at h
 .simp only[nU,ny]at h;exact h.1.symm
 .cases h
def Vt{a:rc Be}(b:Z a<=301){c:PC}(h:C4 a m=.ok (c,n)):Lw c:=by
 unfold C4 at h;split at h
 .cases h
 .rename_i p s i j g;have e:=NF b g;split at h
  .cases h
  .split at h
   .split at h
    .cases h
    .rename_i l k f;have d:=NC b _ _ _ (mP _) (by simp) f;rw[aE h];simp only[m8]at d;exact⟨e,by simp only;omega,d.1⟩
   .rw[aE h];exact⟨e,by simp,by simp⟩
def KI{a:rc Be}(i:Z a<=301):∀(k b:Nat) (e:rc PC) {g:rc PC},Z a-b<=k->(∀c∈e,Lw c)->Ds a b e=.ok g->(∀c∈g,Lw c)/\Z g<=Z e+(Z a-b)
 |k,b,e,g,hk,ha,h=>by
  by_cases f:b<Z a
  .cases he:((Au a b).kind==1)with
   |true=>
    rw[Po f he]at h;simp only[nU]at h;rw[<-h];exact⟨ha,by omega⟩
   |false=>
    cases hc:C4 a b with
    |error p=>rw[L1 f he hc]at h;cases h
    |ok r=>
     obtain⟨c,n⟩:=r;have l:=Ib hc;rw[SH f he hc]at h;have j:∀x∈e++[c],Lw x:=by
      intro x d;rcases mF.1 d with d|d
      .exact ha x d
      .simp only[my]at d;subst d;exact Vt i hc
     match k with
     |0=>omega
     |k+1=>
      have:=KI i k n _ (by omega) j h;simp only[mM,mL,m8]at this;exact⟨this.1,by omega⟩
  .unfold Ds at h;rw[dif_neg f]at h;cases h
def O0{α β:Type}(f:α->rc β)(N:Nat):∀l:rc α,(∀a∈l,Z (f a)<=N)->Z (l.flatMap f)<=Z l*N
 |[],_=>by simp
 |a::l,h=>by
  have c:=O0 f N l (λx b=>h x (by simp[b]));have d:=h a (by simp);rw[mX,mM,mL,oZ];omega
def Sk{c:CU}(h:Lw c.pc):lF c/\Z (Cu c)<=152:=by
 have d:Z c.zD<=151:=by have:=h.body;simpa[CU.pc] using this
 have b:∀p∈c.zD,Hw p.1:=λp a=>h.lits p.1 (by simp only[CU.pc];exact mD.2 ⟨p,a,rfl⟩)
 have e:0<Z c.zE/\Z c.zE<=151:=h.head;refine⟨⟨⟨⟨e.1,by omega⟩,by omega,λp a=>⟨(b p a).some,by have:=(b p a).le;omega⟩⟩,?_⟩,?_⟩
 .have f:Z (A7 c.zD)<=Z c.zD*151:=O0 _ 151 _ (λp a=>by
   unfold AS
   split
   .exact(b p a).le
   .simp)
  have:Z c.zD*151<=151*151:=nB _ d;unfold Bn;rw[mM];omega
 .unfold Cu GT;have:=oo (λp=>Bm p.1) c.zD;simp only[mL,mI];omega
def PY{a:rc AV}:∀(l:rc AV) (i:Nat),ER a i l=Y->∀k (h:k<Z l),Cv a (i+k) l[k]=Y
 |[],i,_,k,h=>by simp at h
 |c::l,i,h,k,hk=>by
  rw[ER]at h;cases hc:Cv a i c with
  |some r=>rw[hc]at h;simp at h
  |none=>
   rw[hc]at h;simp only at h;cases k with
   |zero=>exact hc
   |succ k=>
    have:=PY l (i+1) h k (by simpa using hk);rw[show i+(k+1)=i+1+k by omega];simpa using this
structure BY(cs:rc AV):Prop where
 each:∀k (h:k<Z cs),Cv cs k cs[k]=Y
 strata:cs.findSome? (D4 cs)=Y
def J0{b:rc AV}(h:CQ b=(0,0)):BY b:=by
 unfold CQ at h;cases h1:ER b 0 b with
 |some r=>
  rw[h1]at h;simp only at h;have:∀(l:rc AV) (i:Nat) (r:Int×Int),ER b i l=V r->r.1≠0:=by
   intro l
   induction l with
   |nil=>intro i r d;simp[ER]at d
   |cons c l ih=>
    intro i r d;rw[ER]at d;cases a:Cv b i c with
    |some q=>
     rw[a]at d;simp only[mB]at d;subst d;unfold Cv at a
     repeat (first
      |(split at a)
      |(simp only[mB]at a;subst a;simp)
      |(cases a))
    |none=>
     rw[a]at d;exact ih (i+1) r d
  exact absurd (by rw[h]) (this b 0 r h1)
 |none=>
  rw[h1]at h;simp only at h;refine⟨λk f=>by have:=PY b 0 h1 k f;simpa using this,?_⟩;cases h2:b.findSome? (D4 b)with
  |none=>rfl
  |some r=>
   rw[h2]at h;simp only at h;obtain⟨c,_,a⟩:=List.exists_of_findSome?_eq_some h2;unfold D4 at a;rw[pT]at a;obtain⟨p,_,e⟩:=a;rw[h]at e;simp at e
def Fd{a:rc AV}{c:AV}(h:Cv a i c=Y):Z c.bl<=3/\Z c.head.args<=2/\c.bl.any BM=K/\Z (EO (a.take (i+1)))<=6/\Z (Bj (a.take (i+1)))<=6/\BQ a c.head.name=(Z c.head.args:Int)/\c.bl.find? (Ci a)=Y/\Ee c.head c.bl<0:=by
 unfold Cv at h;by_cases d:12<=i\/3<Z c.bl
 .rw[mK d]at h;cases h
 rw[mJ d]at h;by_cases g:2<Z c.head.args
 .rw[mK g]at h;cases h
 rw[mJ g]at h;by_cases f:c.bl.any BM=jj
 .rw[mK f]at h;cases h
 rw[mJ f]at h;by_cases b:6<Z (EO (a.take (i+1)))\/6<Z (Bj (a.take (i+1)))
 .rw[mK b]at h;cases h
 rw[mJ b]at h;by_cases e:BQ a c.head.name≠(Z c.head.args:Int)
 .rw[mK e]at h;cases h
 rw[mJ e]at h;cases h6:c.bl.find? (Ci a)with
 |some p=>rw[h6]at h;cases h
 |none=>
  rw[h6]at h;simp only at h;by_cases j:0<=Ee c.head c.bl
  .rw[mK j]at h;cases h
  .simp only[not_or]at d b;exact⟨by omega,by omega,by simpa using f,by omega,by omega,by simpa using e,rfl,by omega⟩
def Pc{b:Dr}{a:rc Bb}(h:Ee b a<0):(∀t∈b.args,Db a t=K)/\∀p∈a,∀t∈AG p,Db a t=K:=by
 unfold Ee at h;cases h1:b.args.any (Db a)with
 |true=>rw[h1,mK rfl]at h;omega
 |false=>
  rw[h1,mJ (by simp)]at h;cases h2:a.find? (Kw a)with
  |some p=>rw[h2]at h;simp only at h;omega
  |none=>
   refine⟨λt c=>?_,λp e t c=>?_⟩
   .have:=(oC.1 h1) t c;simpa using this
   .have d:=(oM.1 h2) p e;unfold Kw at d;(have f:(AG p).any (Db a)=K:=by simpa using d);have:=(oC.1 f) t c;simpa using this
def G2{c:AV}{t:AJ}(h:Db c.bl t=K):Gl (An c) t:=by
 unfold Db at h;rw[Bool.not_eq_false',om]at h;rcases h with h|h
 .exact lo (by simpa using h)
 .right;unfold Ls at h;rw[nX]at h;obtain⟨p,b,a⟩:=h;unfold Lv at a;rw[mV]at a;unfold Tg at a;rw[nX]at a;obtain⟨d,u,e,f⟩:=a;exact⟨p.1,mR b,d,u,e,by simpa using f⟩
def BY.zM{b:rc AV}(h:BY b)(i:∀c∈b,∀x∈An c,(x.kind==97)=jj->∀t∈x.A.args,BH t):R2 b:=by
 have j:∀c∈b,Ee c.head c.bl<0:=by
  intro c a;obtain⟨k,g,rfl⟩:=nw a;exact(Fd (h.each k g)).2.2.2.2.2.2.2
 refine⟨i,λc a x m g=>?_,λc a t i=>G2 ((Pc (j c a)).1 t i)⟩;obtain⟨p,l,rfl⟩:=mD.1 m;have d:=(Pc (j c a)).2 p l;refine⟨λf t o=>?_,λf=>?_⟩
 .refine G2 (d t ?_);unfold AG MP;rw[f,qB,mK rfl];exact o
 .have n:MP p=K:=by unfold MP;rw[g,f];rfl
  have e:AG p=[p.1.L,p.1.R]:=by unfold AG;rw[n];rfl
  rw[e]at d;exact⟨G2 (d _ (by simp)),G2 (d _ (by simp))⟩
def BY.strat{j:rc AV}(h:BY j):dX j:=by
 rintro x y ⟨c,A,B,l,f,s,e⟩ n;have a:(l.kind==33)=jj:=by
  rcases e with⟨_,e⟩|⟨a,_⟩
  .cases e
  .exact a
 obtain⟨p,m,rfl⟩:=mD.1 f;have i:=(qp.1 h.strata) c A;unfold D4 at i;rw[Option.map_eq_none_iff,oM]at i;have g:=i p m;unfold Fq at g;rw[a,oy]at g;apply g;rw[Nm,s,B];intro S t w;refine n S t (λu v b r z=>?_);obtain⟨d,k,rfl,l,f,rfl,e⟩:=r;obtain⟨q,o,rfl⟩:=mD.1 f;refine w d k z _ ?_;unfold Ht;refine no _ (mD.2 ⟨q,mT.2 ⟨o,?_⟩,rfl⟩);unfold MP;rcases e with⟨a,_⟩|⟨a,_⟩
 .rw[a];rfl
 .rw[a,qB]
def BY.levels{a:rc AV}(h:BY a):CG a (B3 a 6):=by
 by_cases e:Z a=0
 .have:a=[]:=oQ e;subst this;exact⟨λc b=>by simp at b,λc b=>by simp at b⟩
 .have d:=(Fd (h.each (Z a-1) (by omega))).2.2.2.1;rw[show Z a-1+1=Z a by omega,nR]at d;refine iw h.strat (EO a) (λc b=>?_) d;rw[N5,(C9 _).2];exact m6.2 ⟨c,b,by unfold Ht;simp⟩
