import Derived.Test.YtoihbhenbmffcaaGreatDoorYAS
import Derived.Test.YtoihbhenbmffcaaGreatDoorYAG
set_option linter.all false
set_option maxHeartbeats 0
open List renaming length->Z,toArray->j3
open Option renaming none->Y,some->V
open Go.Value renaming slice->U,int->X,string->O,agg->lR,bool->lT,ownBlock->lX
open Bool renaming false->K,true->j1
open Go.IntKind renaming i64->J,i32->lS
open Go.Obj renaming cells->j2
open Go.Ending renaming returned->lo
open Or renaming inl->lx,inr->ly
open Go renaming World->l9,Value->lN
open Go.RowKit renaming Hid->lO
open Go.World renaming cell?->lP,ownsRow->lQ
namespace Go.Proofs.YtoihbhenbmffcaaGreatDoor
open Go.RowKit Go.Proofs.Tryz
def Ba(l:PL):Bool:=l.sort==0||l.sort==1
def AL(l:PL):mc AQ:=if Ba l then l.ts else[l.l,l.r]
theorem N7(l:PL)(p:Option Addr)(n o:Nat)(w:l9):
  Calls prog 135 #[lR (j3 (Aw (l,U p n o)))] w λe q=>e=lo (lT (Ba l))/\Ac [] w q:=by
 have j:=(me [] w).alloc (j2 (j3 (Aw (l,U p n o))) 217);obtain⟨i,a,m,c,d,f,g⟩:=l;have r:lO (∀b,Ba ⟨i,a,m,c,d,f,g⟩=b->(a==0||a==1)=b):=λb h=>h
 simp only[Aw]at j⊢;go_enter func135,ntmps135;cases h0:(a==0)with
 |true=>
  have k:lO (Ba ⟨i,a,m,c,d,f,g⟩=j1):=by show _=_;unfold Ba;simp only;rw[h0];rfl
  go_wp2;go_ret;rw[k.out];exact⟨rfl,j⟩
 |false=>
  have k:lO (Ba ⟨i,a,m,c,d,f,g⟩=(a==1)):=by show _=_;unfold Ba;simp only;rw[h0];rfl
  go_wp2;go_ret;rw[k.out];exact⟨rfl,j⟩
def Y3{w:l9}{N:Nat}{cs:mc lN}{t:TypeId}(h:AH w N cs t){n size:Nat}(a:Z cs=n*size)(b:n<=maxLen):lQ w 0 t size (U (V ⟨N,0,Y⟩) n n) n cs:=by
 refine⟨a,ly ⟨N,n,j3 cs,rfl,ik _,h,ig _,b,by simpa using a,?_⟩⟩;rw[<-a];simp
theorem LQ(l:PL)(c:Option Addr)(d:Nat)(w:l9)(h:J1 w 0 (l,U c (Z l.ts) d)):
  Calls prog 137 #[lR (j3 (Aw (l,U c (Z l.ts) d)))] w λe p=>∃z A,e=lo (U z (Z (AL l)) A)/\lQ p 0 215 2 (U z (Z (AL l)) A) (Z (AL l)) ((AL l).flatMap Aq)/\Ac [] w p:=by
 have j:=Ab ((me [] w).alloc (j2 (j3 (Aw (l,U c (Z l.ts) d))) 217));have o:=Ab (mf w (Aw (l,U c (Z l.ts) d)) 217);have r:=Ab (Ad h j (by simp));have t:lO (∀w,Calls prog 135 #[lR (j3 (Aw (l,U c (Z l.ts) d)))] w λe p=>e=lo (lT (Ba l))/\Ac [] w p):=λw=>N7 l c (Z l.ts) d w
 clear h;obtain⟨k,i,n,m,f,a,b⟩:=l;simp only[Aw]at j o r t⊢;go_enter func137,ntmps137;go_wp2_with fail
 change Calls _ _ _ (w.alloc (j2 [X J k,X J i,X J n,O m,U c (Z f) d,X lS a.v,O a.s,X lS b.v,O b.s].toArray 217)) _;generalize w.alloc (j2 [X J k,X J i,X J n,O m,U c (Z f) d,X lS a.v,O a.s,X lS b.v,O b.s].toArray 217)=w1 at j o r⊢;generalize w.heap.size=N at o⊢;refine(t w1).mono ?_;rintro e u ⟨rfl,q⟩;have g:=o.kept q (by simp);have y:=Ab (j.trans q);have F:=Ab (Ad r q (by simp));have H:=g.cell 4;have E:=g.cell 5;have G:=g.cell 6;have C:=g.cell 7;have B:=g.cell 8;simp at H E G C B;clear g o r j q t;cases hh:Ba ⟨k,i,n,m,f,a,b⟩with
 |true=>
  have x:lO (AL ⟨k,i,n,m,f,a,b⟩=f):=by show _=_;unfold AL;rw[hh];rfl
  clear hh;go_wp2;go_ret;rw[x.out];exact⟨c,d,rfl,F,y⟩
 |false=>
  have x:lO (AL ⟨k,i,n,m,f,a,b⟩=[a,b]):=by show _=_;unfold AL;rw[hh];rfl
  clear hh;have D:lO (lQ (u.alloc (j2 [X lS a.v,O a.s,X lS b.v,O b.s].toArray 215)) 0 215 2 (U (V ⟨u.heap.size,0,Y⟩) 2 2) 2 [X lS a.v,O a.s,X lS b.v,O b.s]):=Y3 (mf u _ 215) rfl (by unfold maxLen;omega);go_wp2;go_ret;rw[x.out];exact⟨_,_,rfl,D,y.alloc _⟩
theorem Tryz.z8:(Tryz.prog.info? 187).map (λi=>(i.zero,i.size,i.bytes))=V (V (lR #[X J 0,O ⟨#[]⟩,U Y 0 0]),3,48):=by kernel_rfl
def Tb(p:Ks):Z (Aw p)=9:=rfl
def SV(p:GN):Z (AK p)=3:=rfl
def Tf(p:AQ):Z (Aq p)=2:=rfl
def Iz{w:l9}{base:Nat}{C:lN}{e:mc Ks}(h:BP w base C e)(k:Nat)(a:k<Z e):
  ∃g o l d f,C=U (V ⟨g,0,Y⟩) (Z e) o/\e[k]=(l,U d (Z l.ts) f)/\J1 w base (l,U d (Z l.ts) f)/\
   lP w ⟨g,k*9,Y⟩=V (X J l.place)/\lP w ⟨g,k*9+1,Y⟩=V (X J l.sort)/\lP w ⟨g,k*9+2,Y⟩=V (X J l.ap)/\lP w ⟨g,k*9+3,Y⟩=V (O l.an)/\lP w ⟨g,k*9+4,Y⟩=V (U d (Z l.ts) f)/\
   lP w ⟨g,k*9+5,Y⟩=V (X lS l.l.v)/\lP w ⟨g,k*9+6,Y⟩=V (O l.l.s)/\lP w ⟨g,k*9+7,Y⟩=V (X lS l.r.v)/\lP w ⟨g,k*9+8,Y⟩=V (O l.r.s):=by
 obtain⟨g,o,D,_,b⟩:=AF h.row (λc _=>Tb c) k a;have u:=(h.each _ (gL a)).1;obtain⟨d,f,m⟩:=Al u;have t:=b k a 0 (by omega);have n:=b k a 1 (by omega);have i:=b k a 2 (by omega);have j:=b k a 3 (by omega);have z:=b k a 4 (by omega);have x:=b k a 5 (by omega);have q:=b k a 6 (by omega);have p:=b k a 7 (by omega);have y:=b k a 8 (by omega);obtain⟨l,A,B⟩:∃l A,e[k]=(l,A):=⟨_,_,rfl⟩;rw[B]at t n i j z x q p y u m;simp only at m;subst m;simp[Aw]at t n i j z x q p y;exact⟨g,o,l,d,f,D,B,u,t,n,i,j,z,x,q,p,y⟩
def AN(zD:mc Ks):mc GN:=(zD.filter λp=>Ba p.1).map λp=>⟨p.1.ap,p.1.an,p.2⟩
def Bo(c:Db):mc GN:=⟨c.hp,c.hn,c.hv⟩::AN c.zD
def OP{a:mc Ks}{k:Nat}(b:k<Z a):AN (a.take (k+1))=AN (a.take k)++(if Ba a[k].1 then[⟨a[k].1.ap,a[k].1.an,a[k].2⟩] else[]):=by
 unfold AN;rw[gQ b,jX,iG]
 congr 1
 by_cases h:Ba a[k].1=j1<;>simp[h]
def DO(a:mc Ks):Z (AN a)<=Z a:=by
 unfold AN;rw[ie];exact jn _ _
set_option maxRecDepth 100000
theorem Lg(D:Option Addr)(P:Nat)(a:mc Ks)(w:l9)(h:BP w 0 (U D (Z a) P) a)(Go:Z a<=1000):
  Calls prog 92 #[U D (Z a) P] w λe B=>∃f j,e=lo (U f (Z (AN a)) j)/\lQ B w.heap.size 187 3 (U f (Z (AN a)) j) (Z (AN a)) ((AN a).flatMap AK)/\Ac [] w B:=by
 obtain⟨i0,FL,W,A2,CC⟩:=iR Tryz.z8;have HB:=Ab h;clear h;go_enter func92,ntmps92;go_wp2
 go_loopg [3,8] (Z a) (λgk o i wr=>∃(k:Nat) (b:mc GN) (f:Option Addr) (j:Nat),o=U f (Z b) j/\i=X J k/\k<=Z a/\Z b<=k/\gk=Z a-k/\lO (b=AN (a.take k))/\lQ wr w.heap.size 187 3 (U f (Z b) j) (Z b) (b.flatMap AK)/\lO (Ac [] w wr))
 case atStart=>exact⟨0,[],Y,0,rfl,rfl,by omega,by simp,rfl,by show _=_;simp[AN],ip _ _ _ _,me _ _⟩
 case round=>
  obtain⟨k,b,f,j,rfl,rfl,G,Ha,I,q,v,p⟩:=hrel;have H:=Ab I;clear I;by_cases A:k<Z a
  .have Q:=HB.kept p (by simp);have HD:=p.size;obtain⟨g,FT,l,c,d,E,N,CL,d0,d1,S,T,d4,d5,d6,d7,d8⟩:=Iz Q k A;simp only[gM]at E;obtain⟨rfl,_,rfl⟩:=E;have s:=Ab (OP A);rw[N]at s;clear Q CL N;have z:=Ab (N7 l c (Z l.ts) d (wr.alloc (j2 (j3 (Aw (l,U c (Z l.ts) d))) 217)));simp only[Aw]at z;have R:=Ab (mf wr (Aw (l,U c (Z l.ts) d)) 217);have C:=Ab (p.alloc (j2 (j3 (Aw (l,U c (Z l.ts) d))) 217));have F:=Ab (gU v (j2 (j3 (Aw (l,U c (Z l.ts) d))) 217));(go_wp2_with fail);refine z.mono ?_;rintro e m ⟨rfl,n⟩;have u:=R.kept n (by simp);have M:=Ab (C.trans n);have x:=Ad F n (by simp);have L:=n.size;(have FP:wr.heap.size+1<=m.heap.size:=by simpa using L);have c2:=u.cell 2;have c3:=u.cell 3;have c4:=u.cell 4;simp[Aw]at c2 c3 c4;clear u n R C F z d0 d1 S T d4 d5 d6 d7 d8 v p L;cases hh:Ba l with
   |false=>
    (have y:lO (b=AN (a.take (k+1))):=by show _=_;rw[Aa s,hh,Aa q];simp);clear hh q s;go_wp2
    go_roundg (Z a-(k+1))
    case measure=>have:=Aa H;omega
    case rel=>exact⟨k+1,b,f,j,rfl,by go_num,by omega,by omega,rfl,y,x,M⟩
   |true=>
    (have y:lO (b++[⟨l.ap,l.an,U c (Z l.ts) d⟩]=AN (a.take (k+1))):=by show _=_;rw[Aa s,hh,Aa q];simp);clear hh q s;have BT:=iD m (j2 (j3 (AK ⟨l.ap,l.an,U c (Z l.ts) d⟩)) 187);have FA:=gU x (j2 (j3 (AK ⟨l.ap,l.an,U c (Z l.ts) d⟩)) 187);(have HF:lO (∀r,(m.alloc (j2 (j3 (AK ⟨l.ap,l.an,U c (Z l.ts) d⟩)) 187)).grownBy r (U f (Z b) j).ownBlock->Ac [] w r):=λr hg=>(M.alloc _).grown hg (λk G=>ly ((x.lt k G).1)));go_wp2_with (at_builtin;refine io _ rfl (.tmp 14) (.tmp 17) _ rfl w.heap.size 187 i0 _ 3 48 underlying163 FL W A2 CC rfl (by omega) (U f (Z b) j) (Z b) (b.flatMap AK) rfl FA ⟨m.heap.size,0,Y⟩ 1 1 (AK ⟨l.ap,l.an,U c (Z l.ts) d⟩) rfl rfl (iu (cs:=j3 (AK ⟨l.ap,l.an,U c (Z l.ts) d⟩)) (t:=187) (fr:=(0,0)) BT) (by simp[Value.oneCell',AK]) (by omega) (by unfold maxLen;omega) (by omega) (by simp;omega) (m.heap.size+1) (by simp) ?_;intro g1 AT r EK BS FO HC)
    go_roundg (Z a-(k+1))
    case measure=>have:=Aa H;omega
    case rel=>exact⟨k+1,b++[⟨l.ap,l.an,U c (Z l.ts) d⟩],V ⟨g1,0,Y⟩,AT,by simp,by go_num,by omega,by simp;omega,rfl,y,by simpa using EK,HF r BS⟩
  .have HE:lO (b=AN a):=by
    have h:=Aa q;rw[gR (by omega)]at h;exact h
   go_wp2;go_ret;rw[<-HE.out];exact⟨f,j,rfl,v,p⟩
def YQ(w:l9)(base:Nat)(b:mc Ks)(v:lN)(h:BP w base v b):∀u∈(AN b).flatMap AK,u.oneCell'=j1:=by
 intro u f;obtain⟨t,d,a⟩:=iI.1 f;obtain⟨p,c,rfl⟩:=gX.1 d;obtain⟨i,g,e⟩:=Al (h.each p (ir.1 c).1).1;simp only[AK,gP,iU,or_false]at a;rcases a with rfl|rfl|rfl
 .rfl
 .rfl
 .rw[e];rfl
theorem KE(c:Db)(w:l9)(h:Js w 0 c.hv c.bv c.zE c.zD)(W:Z c.zD<=1000):
  Calls prog 119 #[lR (j3 (Bc c))] w λe t=>∃v z,e=lo (U v (Z (Bo c)) z)/\lQ t w.heap.size 187 3 (U v (Z (Bo c)) z) (Z (Bo c)) ((Bo c).flatMap AK)/\Ac [] w t:=by
 obtain⟨i0,S,M,T,Ax⟩:=iR Tryz.z8;obtain⟨f,i,b,hv,bv,a⟩:=c;simp only at h W;obtain⟨g,d,rfl⟩:=Al h.head;obtain⟨l,m,rfl⟩:=Al h.body.row;have Q:lO (∀wr,Ac [] w wr->Calls prog 92 #[U l (Z a) m] wr λe t=>∃v z,e=lo (U v (Z (AN a)) z)/\lQ t wr.heap.size 187 3 (U v (Z (AN a)) z) (Z (AN a)) ((AN a).flatMap AK)/\Ac [] wr t):=λwr p=>Lg l m a wr (h.body.kept p (by simp)) W
 have E:=Ab (YQ w 0 a _ h.body);have B0:=DO a;have A:lO (Bo ⟨f,i,b,U g (Z b) d,U l (Z a) m,a⟩=[⟨f,i,U g (Z b) d⟩]++AN a):=rfl;generalize Bo ⟨f,i,b,U g (Z b) d,U l (Z a) m,a⟩=AT at A⊢;generalize AN a=BA at Q E B0 A;clear h;simp only[Bc];have q:=Ab (mf w [X J f,O i,U g (Z b) d,U l (Z a) m] 189);have x:=Ab ((me [] w).alloc (j2 [X J f,O i,U g (Z b) d,U l (Z a) m].toArray 189));go_enter func119,ntmps119;go_wp2_with fail
 change Code.wp _ _ _ _ (w.alloc (j2 [X J f,O i,U g (Z b) d,U l (Z a) m].toArray 189));have F:(w.alloc (j2 [X J f,O i,U g (Z b) d,U l (Z a) m].toArray 189)).heap.size=w.heap.size+1:=by simp
 generalize w.alloc (j2 [X J f,O i,U g (Z b) d,U l (Z a) m].toArray 189)=w1 at q x F⊢;obtain⟨N,C⟩:∃N,w.heap.size=N:=⟨_,rfl⟩;rw[C]at q F⊢;have c0:=q.cell 0;have c1:=q.cell 1;have c2:=q.cell 2;have c3:=q.cell 3;simp at c0 c1 c2 c3;have H:=Ab C;have G:Z AT=1+Z BA:=by rw[Aa A];simp;omega
 have BS:lO (∀(r:l9) (o:Option Addr) (n:Nat),lQ r N 187 3 (U o (1+Z BA) n) (1+Z BA) (AK ⟨f,i,U g (Z b) d⟩++BA.flatMap AK)->lQ r N 187 3 (U o (Z AT) n) (Z AT) (AT.flatMap AK)):=by
  intro r o n ho;rw[G,Aa A,ix];simpa using ho
 have P:=Ab G;have EY:lO (lQ (w1.drew.alloc (j2 (j3 (AK ⟨f,i,U g (Z b) d⟩)) 187)) N 187 3 (U (V ⟨N+1,0,Y⟩) 1 1) 1 (AK ⟨f,i,U g (Z b) d⟩)):=by
  have hh:=mf w1.drew (AK ⟨f,i,U g (Z b) d⟩) 187;rw[show w1.drew.heap.size=N+1 from F]at hh
  exact⟨rfl,ly ⟨N+1,1,_,rfl,by omega,hh,ig _,by unfold maxLen;omega,rfl,rfl⟩⟩
 have EM:lO (∀j:l9,N<=j.heap.size->lQ (j.alloc (j2 (j3 (AK ⟨f,i,U g (Z b) d⟩)) 187)) N 187 3 (U (V ⟨j.heap.size,0,Y⟩) 1 1) 1 (AK ⟨f,i,U g (Z b) d⟩)):=λj p=>⟨rfl,ly ⟨j.heap.size,1,_,rfl,p,mf j _ 187,ig _,by unfold maxLen;omega,rfl,rfl⟩⟩
 clear C G
 go_region_law
  (first
   |(
     go_simp;go_at_call 92;refine(Q _ (by first|exact x.drew|exact(x.drew).alloc _)).mono ?_;rintro e j ⟨A0,A2,rfl,Bx,u⟩;
     have R:=u.size;
     first
      |(have B2:=Ad EY u (by simp);have D:=(x.drew.alloc _).trans u;have CL:N+2<=j.heap.size:=by simp at R;omega)
      |(have I:=q.drew.kept u (by simp);have e0:=I.cell 0;have e1:=I.cell 1;have e2:=I.cell 2;simp at e0 e1 e2;have D:=x.drew.trans u;have CL:N+1<=j.heap.size:=by simp at R;omega))
   |(refine Jc _ (by rfl) _ _ _ (by rfl) N 187 i0 _ 3 48 underlying163 S M T Ax rfl (by omega) (V ⟨N+1,0,Y⟩) 1 1 (AK ⟨f,i,U g (Z b) d⟩) (by rfl) B2 _ A0 (Z BA) A2 (BA.flatMap AK) (by rfl) Bx E (by unfold maxLen;omega) (by omega) (by omega) ?_;intro o n r s y L;have B:=Ab (And.intro (BS r o n s) (D.grown y (λk p=>ly (by simp[lX]at p;have:=Aa H;omega))));clear s y L)
   |(refine Jc _ (by rfl) _ _ _ (by rfl) N 187 i0 _ 3 48 underlying163 S M T Ax rfl (by omega) (V ⟨j.heap.size,0,Y⟩) 1 1 (AK ⟨f,i,U g (Z b) d⟩) (by rfl) (EM j (by omega)) _ A0 (Z BA) A2 (BA.flatMap AK) (by rfl) (gU Bx _) E (by unfold maxLen;omega) (by omega) (by simp;omega) ?_;intro o n r s y L;have B:=Ab (And.intro (BS r o n s) ((D.alloc _).grown y (λk p=>ly (by simp[lX]at p;have:=Aa H;omega))));clear s y L))
 all_goals
  go_wp2;go_ret;rw[Aa H,Aa P];exact⟨o,n,rfl,by have h:=B.1;rw[Aa P]at h;exact h,B.2⟩
def AV(zD:mc Ks):mc AQ:=zD.flatMap λp=>AL p.1
def Br(c:Db):mc AQ:=c.zE++AV c.zD
def OT{a:mc Ks}{k:Nat}(b:k<Z a):AV (a.take (k+1))=AV (a.take k)++AL a[k].1:=by
 unfold AV;rw[gQ b,ix];simp
def Ko(ts:mc AQ):∀u∈ts.flatMap Aq,u.oneCell'=j1:=by
 intro u a;obtain⟨t,_,h⟩:=iI.1 a;simp[Aq]at h;rcases h with rfl|rfl<;>rfl
def Yn{w:l9}{base:Nat}{e:TypeId}{size:Nat}{c:Option Addr}{n d:Nat}{b:mc lN}(h:lQ w base e size (U c n d) n b)(o:0<n):
  ∃g,c=V ⟨g,0,Y⟩/\Z b=n*size/\(∀j u,b[j]?=V u->lP w ((⟨g,0,Y⟩:Addr).add j)=V u)/\base<=g/\g<w.heap.size:=by
 rcases h.2 with⟨a,k⟩|⟨g,i,f,a,l,m⟩
 .omega
 .simp only[gM]at a;obtain⟨rfl,_,rfl⟩:=a;exact⟨g,rfl,h.1,h.cells rfl,(h.lt g rfl)⟩
structure OX(c:Db):Prop where
 head:0<Z c.zE/\Z c.zE<=1000
 lits:Z c.zD<=1000
 each:∀p∈c.zD,(Ba p.1=j1->0<Z p.1.ts)/\Z p.1.ts<=1000
def OX.zQ{c:Db}(h:OX c){p:Ks}(a:p∈c.zD):0<Z (AL p.1)/\Z (AL p.1)<=1000:=by
 have:=h.each p a;unfold AL;split
 .rename_i b;exact⟨this.1 b,this.2⟩
 .simp
set_option maxRecDepth 512
theorem ZP(n:Nat)(w:l9)(r:0<n)(v:n<=2000000):
  Calls prog 228 #[U Y 0 0,X J n] w λe j=>∃g G,e=lo (U (V ⟨g,0,Y⟩) 0 G)/\lQ j w.heap.size 215 2 (U (V ⟨g,0,Y⟩) 0 G) 0 []/\Ac [] w j:=by
 obtain⟨f,s,q,y,m⟩:=iR Tryz.zd;have l:(Builtin.firstCells f.size 0 (U Y 0 0)).run prog w.drew=.ok (j3 ([]:mc lN)) w.drew:=run_firstCells_none w.drew f.size 0 0 0;have k:∀i,(Builtin.append_ #[185,3] i #[U Y 0 0,X J (n:Int)]).run prog w=
   .ok (U (V ⟨w.heap.size,0,Y⟩) n (grownCap w n 0 215)) (w.drew.alloc (j2 (j3 ([]:mc lN)++Builtin.zeroCells (lR #[X lS 0,O ⟨#[]⟩]:lN).cells n++Builtin.zeroCells (lR #[X lS 0,O ⟨#[]⟩]:lN).cells (grownCap w n 0 215-n)) 215)):=λi=>by
  have h:=Lib.run_append_grow_zeros w 185 3 i 215 f _ J J underlying185 underlying3 s q Y 0 0 [] l n r (by omega) (by omega) (by omega) (by rw[m];omega) (by rw[m,iM];exact growslice_fits (by omega) (by omega));simp only[iM]at h;exact h
 obtain⟨G,b⟩:∃G,G=grownCap w n 0 215:=⟨_,rfl⟩;obtain⟨a,c⟩:∃a:Array lN,a=j3 ([]:mc lN)++Builtin.zeroCells (lR #[X lS 0,O ⟨#[]⟩]:lN).cells n++Builtin.zeroCells (lR #[X lS 0,O ⟨#[]⟩]:lN).cells (G-n):=⟨_,rfl⟩;rw[<-b,<-c]at k;have t:n<=G:=by rw[b];exact grownCap_ge w _ _ _
 have d:G<=maxLen:=by rw[b];exact grownCap_le_maxLen w n 0 215 (by unfold maxLen;omega)
 have p:a.size=G*2:=by
  rw[c];simp[Builtin.zeroCells,Value.cells];omega
 have u:G<=9223372036854775807:=by unfold maxLen at d;omega
 have o:lO (lQ (w.alloc (j2 a 215)) w.heap.size 215 2 (U (V ⟨w.heap.size,0,Y⟩) 0 G) 0 []/\Ac [] w (w.alloc (j2 a 215))):=
  ⟨⟨rfl,ly ⟨w.heap.size,G,a,rfl,ig _,iD w _,ik _,d,p,by simp⟩⟩,(me [] w).alloc _⟩
 have x:(0:Int)<(n:Int):=by omega
 have z:¬((n:Int)<0):=by omega
 clear l c b p d;go_enter func228,ntmps228;go_wp2_with (at_builtin;refine Lib.wpList_append_run _ rfl _ _ _ _ rfl _ _ rfl rfl _ _ (k _) ?_)
 go_ret;exact⟨_,G,rfl,o.1,o.2.drew⟩
set_option maxRecDepth 100000
theorem UB(R:Nat)(E:Option Addr)(z:Nat)(v:Option Addr)(C:Nat)(a b:mc AQ)(I b2:Nat)(w:l9)(r:AH w R [U E (Z a) z,U v (Z b) C] 185)(S:lQ w I 215 2 (U E (Z a) z) (Z a) (a.flatMap Aq))(M:lQ w b2 215 2 (U v (Z b) C) (Z b) (b.flatMap Aq))(W:0<Z a)(B9:Z a+Z b<=2000000):
  Calls prog 213 #[U (V ⟨R,0,Y⟩) 2 2] w λe L=>∃d h,e=lo (U d (Z (a++b)) h)/\lQ L w.heap.size 215 2 (U d (Z (a++b)) h) (Z (a++b)) ((a++b).flatMap Aq)/\Ac [] w L:=by
 obtain⟨i0,BT,N,T,A0⟩:=iR Tryz.zd;have HV:=Ab r;have H1:=Ab S;have H2:=Ab M;have s:=r.cell 0;have q:=r.cell 1;simp at s q;have BA:=Ab (ZP (Z a+Z b) w (by omega) B9);have B2:lO (Z (a++b)=Z a+Z b):=by show _=_;simp
 generalize hAB:a++b=ab at B2⊢;have DT:=Ab hAB;have EY:=Ab W;clear r S M hAB W;have EK:¬((Z a:Int)<0):=by omega
 have FB:¬((Z a:Int)+(Z b:Int)<0):=by omega
 go_enter func213,ntmps213;go_wp2
 go_loopg [3,11] 2 (λgk o i wr=>∃k:Nat,i=X J k/\((k=0/\o=X J 0)\/(k=1/\o=X J (Z a))\/(k=2/\o=X J ((Z a:Int)+(Z b:Int))))/\gk=2-k/\w=wr)
 case atStart=>exact⟨0,rfl,lx ⟨rfl,rfl⟩,rfl,rfl⟩
 case round=>
  obtain⟨k,rfl,l,B,rfl⟩:=hrel;rcases l with⟨rfl,rfl⟩|⟨rfl,rfl⟩|⟨rfl,rfl⟩
  .go_wp2
   go_roundg 1
   case measure=>omega
   case rel=>exact⟨1,by go_num,ly (lx ⟨rfl,by go_num⟩),rfl,rfl⟩
  .go_wp2
   go_roundg 0
   case measure=>omega
   case rel=>exact⟨2,by go_num,ly (ly ⟨rfl,by go_num⟩),rfl,rfl⟩
  ·(go_wp2_with fail);refine BA.mono ?_;rintro e w2 ⟨g,G,rfl,Bx,k2⟩;have P:=Ab Bx;have Ax:=Ab k2;clear BA Bx k2 s q;go_wp2
   go_loopg [6,27] 2 (λgk o i wr=>∃(k:Nat) (c:mc AQ) (d:Option Addr) (h:Nat),o=U d (Z c) h/\i=X J k/\((k=0/\lO (c=[]))\/(k=1/\lO (c=a))\/(k=2/\lO (c=ab)))/\gk=2-k/\Z c<=Z a+Z b/\(lQ wr w.heap.size 215 2 (U d (Z c) h) (Z c) (c.flatMap Aq))/\lO (Ac [] w wr))
   case atStart=>exact⟨0,[],_,_,rfl,rfl,lx ⟨rfl,rfl⟩,rfl,by simp,P,Ax⟩
   case round=>
    clear P Ax;obtain⟨k,c,d,h,rfl,rfl,l,B,EX,p,j⟩:=hrel;have Q:=Ab B;clear B;have EM:=j.size;rcases l with⟨rfl,m⟩|⟨rfl,m⟩|⟨rfl,m⟩
    .have s:=(HV.kept j (by simp)).cell 0;simp at s;have H:=Ad H1 j (by simp);(have hz:Z c=0:=by rw[Aa m];rfl);(have y:lO (∀f,wr.grownBy f (U d (Z c) h).ownBlock->Ac [] w f):=λf x=>j.grown x (λk l=>ly ((p.lt k l).1)));(have F:lO (c++a=a):=by show _=_;rw[Aa m];rfl);have n:=Ab hz;clear hz;go_wp2_with (at_builtin;refine Hj _ rfl (.tmp 31) (.tmp 32) _ rfl w.heap.size 215 i0 _ 2 24 underlying185 BT N T A0 rfl (by omega) d (Z c) h (c.flatMap Aq) rfl p I E (Z a) z (a.flatMap Aq) rfl H (Ko _) (by have:=Aa n;unfold maxLen;omega) (by have:=Aa n;omega) (by omega) ?_;intro A u f t D B0)
     go_roundg 1
     case measure=>have:=Aa Q;omega
     case rel=>exact⟨1,c++a,A,u,by simp,by go_num,ly (lx ⟨rfl,F⟩),rfl,by simp;have:=Aa n;omega,by simpa using t,y f D⟩
    .have q:=(HV.kept j (by simp)).cell 1;simp at q;have H:=Ad H2 j (by simp);(have n:lO (Z c=Z a):=by show _=_;rw[Aa m]);(have y:lO (∀f,wr.grownBy f (U d (Z c) h).ownBlock->Ac [] w f):=λf x=>j.grown x (λk l=>ly ((p.lt k l).1)));(have F:lO (c++b=ab):=by show _=_;rw[Aa m];exact DT);go_wp2_with (at_builtin;refine Hj _ rfl (.tmp 31) (.tmp 32) _ rfl w.heap.size 215 i0 _ 2 24 underlying185 BT N T A0 rfl (by omega) d (Z c) h (c.flatMap Aq) rfl p b2 v (Z b) C (b.flatMap Aq) rfl H (Ko _) (by have:=Aa n;unfold maxLen;omega) (by have:=Aa n;omega) (by omega) ?_;intro A u f t D B0)
     go_roundg 0
     case measure=>have:=Aa Q;omega
     case rel=>exact⟨2,c++b,A,u,by simp,by go_num,ly (ly ⟨rfl,F⟩),rfl,by simp;have:=Aa n;omega,by simpa using t,y f D⟩
    .go_wp2;go_ret;rw[<-Aa m];exact⟨d,h,rfl,p,j⟩
theorem Pc(B:Option Addr)(N:Nat)(a:mc Ks)(w:l9)(h:BP w 0 (U B (Z a) N) a)(HH:Z a<=1000)(f:∀p∈a,0<Z (AL p.1)/\Z (AL p.1)<=1000):
  Calls prog 139 #[U B (Z a) N] w λe y=>∃c d,e=lo (U c (Z (AV a)) d)/\lQ y w.heap.size 215 2 (U c (Z (AV a)) d) (Z (AV a)) ((AV a).flatMap Aq)/\Ac [] w y:=by
 obtain⟨i0,FP,T,Bx,B2⟩:=iR Tryz.zd;have HB:=Ab h;have FO:=Ab f;clear h f;go_enter func139,ntmps139;go_wp2
 go_loopg [3,8] (Z a) (λgk o i wr=>∃(k:Nat) (b:mc AQ) (c:Option Addr) (d:Nat),o=U c (Z b) d/\i=X J k/\k<=Z a/\Z b<=k*1000/\gk=Z a-k/\lO (b=AV (a.take k))/\lQ wr w.heap.size 215 2 (U c (Z b) d) (Z b) (b.flatMap Aq)/\lO (Ac [] w wr))
 case atStart=>exact⟨0,[],Y,0,rfl,rfl,by omega,by simp,rfl,by show _=_;simp[AV],ip _ _ _ _,me _ _⟩
 case round=>
  obtain⟨k,b,c,d,rfl,rfl,E,HI,F,u,s,j⟩:=hrel;have HG:=Ab F;clear F;by_cases t:k<Z a
  .have P:=HB.kept j (by simp);have HK:=j.size;obtain⟨g,HD,l,q,r,C,L,I,d0,d1,R,S,d4,d5,d6,d7,d8⟩:=Iz P k t;simp only[gM]at C;obtain⟨rfl,_,rfl⟩:=C;have x:=Ab (OT t);have f:=Aa FO a[k] (gL t);rw[L]at x f;simp only at f;have v:=Ab (LQ l q r (wr.alloc (j2 (j3 (Aw (l,U q (Z l.ts) r))) 217)) (Ad I ((me [] wr).alloc _) (by simp)));clear P I L;simp only[Aw]at v;have z:=Ab (j.alloc (j2 (j3 (Aw (l,U q (Z l.ts) r))) 217));have D:=Ab (gU s (j2 (j3 (Aw (l,U q (Z l.ts) r))) 217));(go_wp2_with fail);refine v.mono ?_;rintro e A ⟨Go,FA,rfl,Q,n⟩;have EK:=Ab (z.trans n);have M:=Ad D n (by simp);have G:=n.size;(have Ha:wr.heap.size+1<=A.heap.size:=by simpa using G);obtain⟨g3,rfl,EX,H,_,_⟩:=Yn Q f.1;have CC:=Ab H;(have FC:lO (b++AL l=AV (a.take (k+1))):=by show _=_;rw[Aa x,Aa u]);(have HF:lO (∀m,A.grownBy m (U c (Z b) d).ownBlock->Ac [] w m):=λm W=>EK.grown W (λk E=>ly ((M.lt k E).1)));clear n z D v d0 d1 R S d4 d5 d6 d7 d8 s j G Q H x u;(have FF:Z (b++AL l)<=(k+1)*1000:=by simp;omega);(have HC:k<=1000:=by omega);go_wp2_with (at_builtin;refine io _ rfl (.tmp 12) (.tmp 14) _ rfl w.heap.size 215 i0 _ 2 24 underlying185 FP T Bx B2 rfl (by omega) (U c (Z b) d) (Z b) (b.flatMap Aq) rfl M ⟨g3,0,Y⟩ (Z (AL l)) FA ((AL l).flatMap Aq) rfl EX CC (Ko _) (by omega) (by unfold maxLen;omega) (by omega) (by omega) _ rfl ?_;intro g1 A0 m CL BT FT HJ)
   go_roundg (Z a-(k+1))
   case measure=>have:=Aa HG;omega
   case rel=>exact⟨k+1,b++AL l,V ⟨g1,0,Y⟩,A0,by simp,by go_num,by omega,FF,rfl,FC,by simpa using CL,HF m BT⟩
  .have HE:lO (b=AV a):=by
    have h:=Aa u;rw[gR (by omega)]at h;exact h
   go_wp2;go_ret;rw[<-HE.out];exact⟨c,d,rfl,s,j⟩
def Ie{a:mc Ks}(h:∀p∈a,Z (AL p.1)<=1000):Z (AV a)<=Z a*1000:=by
 unfold AV
 induction a with
 |nil=>simp
 |cons p l ih=>
  have c:=h p (by simp);have d:=ih (λq b=>h q (by simp[b]));simp only[il,ib,gW];omega
theorem PR(c:Db)(w:l9)(h:Js w 0 c.hv c.bv c.zE c.zD)(G:OX c):
  Calls prog 184 #[lR (j3 (Bc c))] w λe k=>∃f j,e=lo (U f (Z (Br c)) j)/\lQ k w.heap.size 215 2 (U f (Z (Br c)) j) (Z (Br c)) ((Br c).flatMap Aq)/\Ac [] w k:=by
 have z:lO (∀p∈c.zD,0<Z (AL p.1)/\Z (AL p.1)<=1000):=λp g=>G.zQ g
 obtain⟨g,q,b,hv,bv,a⟩:=c;obtain⟨⟨I,A1⟩,C,Ax⟩:=G;simp only at h I A1 C z;clear Ax;obtain⟨i,d,rfl⟩:=Al h.head;obtain⟨l,o,rfl⟩:=Al h.body.row;have M:=Ie (λp g=>(z p g).2);have B0:Z (AV a)<=1000000:=by omega
 have B:lO (∀wr,Ac [] w wr->Calls prog 139 #[U l (Z a) o] wr λe k=>∃f j,e=lo (U f (Z (AV a)) j)/\lQ k wr.heap.size 215 2 (U f (Z (AV a)) j) (Z (AV a)) ((AV a).flatMap Aq)/\Ac [] wr k):=λwr r=>Pc l o a wr (h.body.kept r (by simp)) C z
 have HH:=Ab h.head;have u:lO (Br ⟨g,q,b,U i (Z b) d,U l (Z a) o,a⟩=b++AV a):=rfl;generalize Br ⟨g,q,b,U i (Z b) d,U l (Z a) o,a⟩=TV at u⊢;generalize AV a=BT at B B0 u;have F:lO (∀(wr:l9) (m:Option Addr) (n A:Nat),Ac [] w wr->lQ wr A 215 2 (U m (Z BT) n) (Z BT) (BT.flatMap Aq)->Calls prog 213 #[U (V ⟨wr.heap.size,0,Y⟩) 2 2] (wr.alloc (j2 #[U i (Z b) d,U m (Z BT) n] 185)) λe k=>∃f j,e=lo (U f (Z TV) j)/\lQ k w.heap.size 215 2 (U f (Z TV) j) (Z TV) (TV.flatMap Aq)/\Ac [] w k):=by
  intro wr m n A r hr;have t:=(me [] wr).alloc (j2 #[U i (Z b) d,U m (Z BT) n] 185);refine(UB wr.heap.size i d m n b BT 0 A _ (mf wr [U i (Z b) d,U m (Z BT) n] 185) (Ad HH (r.trans t) (by simp)) (Ad hr t (by simp)) I (by omega)).mono ?_;rintro e k ⟨f,j,rfl,W,k2⟩;rw[Aa u];exact⟨f,j,rfl,Am W (by have:=(r.trans t).size;exact this),(r.trans t).trans k2⟩
 clear h M;simp only[Bc];have s:=Ab (mf w [X J g,O q,U i (Z b) d,U l (Z a) o] 189);have y:=Ab ((me [] w).alloc (j2 [X J g,O q,U i (Z b) d,U l (Z a) o].toArray 189));go_enter func184,ntmps184;go_wp2_with fail
 change Code.wp _ _ _ _ (w.alloc (j2 [X J g,O q,U i (Z b) d,U l (Z a) o].toArray 189));generalize w.alloc (j2 [X J g,O q,U i (Z b) d,U l (Z a) o].toArray 189)=w1 at s y⊢;obtain⟨N,v⟩:∃N,w.heap.size=N:=⟨_,rfl⟩;rw[v]at s F⊢;have T:=s.cell 2;have c3:=s.cell 3;simp at T c3;have BA:=Ab v;clear v
 go_region_law
  (first
   |(go_simp;go_at_call 139;refine(B _ y.drew).mono ?_;rintro e wt ⟨m,n,rfl,L,x⟩;have R:=(s.drew.kept x (by simp)).cell 2;simp at R;have Bx:=Ab (y.drew.trans x);have Q:=Ab L;clear L x)
   |(go_simp;go_at_call 213;refine(F wt m n _ Bx Q).mono ?_;rintro e w9 ⟨S,P,rfl,H,E⟩;have D:=Ab (And.intro H E);clear H E))
 all_goals
  go_wp2;go_ret;rw[Aa BA];exact⟨S,P,rfl,D.1,D.2⟩
def FW(zD:mc Ks):mc zA:=(zD.filter λp=>Ba p.1).map λp=>p.1.an
def BZ(c:Db):mc zA:=c.hn::FW c.zD
def ZR(c:Db):(Bo c).map GN.name=BZ c:=by
 simp[Bo,BZ,AN,FW]
def Hn{c:Db}{w:l9}(h:Js w 0 c.hv c.bv c.zE c.zD):∀a∈Bo c,∃f n d,a.tv=U f n d:=by
 intro a b;rcases gP.1 b with rfl|b
 .obtain⟨f,d,e⟩:=Al h.head;exact⟨_,_,_,e⟩
 .unfold AN at b;obtain⟨p,g,rfl⟩:=gX.1 b;obtain⟨f,d,e⟩:=Al (h.body.each p (ir.1 g).1).1;exact⟨_,_,_,e⟩
def Je{w:l9}{base:Nat}{v:lN}{l:mc GN}(h:lQ w base 187 3 v (Z l) (l.flatMap AK))(k:Nat)(a:k<Z l):
  ∃g b,v=U (V ⟨g,0,Y⟩) (Z l) b/\lP w ⟨g,k*3,Y⟩=V (X J l[k].place)/\lP w ⟨g,k*3+1,Y⟩=V (O l[k].name)/\lP w ⟨g,k*3+2,Y⟩=V l[k].tv:=by
 obtain⟨g,b,j,_,d⟩:=AF h (λc _=>SV c) k a;have e:=d k a 0 (by omega);have i:=d k a 1 (by omega);have f:=d k a 2 (by omega);simp[AK]at e i f;exact⟨g,b,j,e,i,f⟩
structure MR(base:Nat)(lv:lN)(l:mc zA)(xs:mc zA)(w:l9)(l':mc zA)(ad':Option Addr)(cp':Nat)(w':l9):Prop where
 zL:CE Fh l'
 mem:∀y,y∈l'↔y∈xs\/y∈l
 ge:Z l<=Z l'
 le:Z l'<=Z l+Z xs
 own:lQ w' base 9 1 (U ad' (Z l') cp') (Z l') (l'.flatMap Ah)
 kept:Ac lv.ownBlock.toList w w'
 new:∀k,(U ad' (Z l') cp').ownBlock=V k->lv.ownBlock=V k\/w.heap.size<=k
theorem L5(c:Db)(a:Option Addr)(cap:Nat)(l:mc zA)(base:Nat)(w:l9)(h:Js w 0 c.hv c.bv c.zE c.zD)(FB:Z c.zD<=1000)
  (hl:lQ w base 9 1 (U a (Z l) cap) (Z l) (l.flatMap Ah)) (HD:Z l<=900000) (hr:CE Fh l) (HF:base<=w.heap.size):
  Calls prog 164 #[U a (Z l) cap,lR (j3 (Bc c))] w λe w'=>∃l' BA A0,e=lo (U BA (Z l') A0)/\MR base (U a (Z l) cap) l (BZ c) w l' BA A0 w':=by
 have u:=Ab (KE c (w.alloc (j2 (j3 (Bc c)) 189)) (h.kept ((me [] w).alloc _) (by simp)) FB);have B2:=Ab (Hn h);have z:=Ab (ZR c);have CC:lO (Z (Bo c)<=1001):=by
  show _<=_;have:=DO c.zD;simp[Bo];omega
 obtain⟨hp,hn,s,hv,bv,t⟩:=c;simp only at h;obtain⟨Bx,T,rfl⟩:=Al h.head;obtain⟨P,DT,rfl⟩:=Al h.body.row;generalize Bo ⟨hp,hn,s,U Bx (Z s) T,U P (Z t) DT,t⟩=aT at u B2 z CC;generalize BZ ⟨hp,hn,s,U Bx (Z s) T,U P (Z t) DT,t⟩=ns at z⊢;have HL:=Ab hl;have HA:=Ab hr;clear h hl hr;simp only[Bc]at u⊢;go_enter func164,ntmps164;go_wp2_with fail
 refine u.mono ?_;rintro e p ⟨EX,W,rfl,N,L⟩;have E:lO (Ac [] w p):=((me [] w).alloc _).trans L;have HM:w.heap.size+1<=p.heap.size:=by have:=L.size;simpa using this
 have HO:=Ab (Am N (show w.heap.size<=_ by simp));clear u N L;go_wp2
 go_loopg [0,10] (Z aT) (λgk o i wr=>∃(k:Nat) (m:mc zA) (b:Option Addr) (d:Nat),o=U b (Z m) d/\i=X J k/\k<=Z aT/\gk=Z aT-k/\Z m<=Z l+k/\lO (MR base (U a (Z l) cap) l ((aT.take k).map GN.name) w m b d wr)/\lO (lQ wr w.heap.size 187 3 (U EX (Z aT) W) (Z aT) (aT.flatMap AK))/\lO (∀q,(U b (Z m) d).ownBlock=V q->(U a (Z l) cap).ownBlock=V q\/p.heap.size<=q)/\p.heap.size<=wr.heap.size)
 case atStart=>exact⟨0,l,a,cap,rfl,rfl,by omega,rfl,by omega,⟨HA,λy=>by simp,by omega,by omega,Ad HL E (by simp),E.mono (by simp),λk Q=>lx Q⟩,HO,λq j=>lx j,by omega⟩
 case round=>
  clear E;obtain⟨k,m,b,d,rfl,rfl,Q,Ax,HN,n,D,F,HC⟩:=hrel;have HG:=Ab Ax;clear Ax;have HQ:=Aa CC;by_cases v:k<Z aT
  .obtain⟨g,HK,he,d0,d1,M⟩:=Je D k v;simp only[gM]at he;obtain⟨rfl,_,rfl⟩:=he;obtain⟨FL,nt,FO,R⟩:=B2 aT[k] (gL v);rw[R]at M;clear R;have EK:=Ab (bA b d m aT[k].name base (wr.alloc (j2 [X J aT[k].place,O aT[k].name,U FL nt FO].toArray 187)) (gU n.own _) (by omega) n.zL (by simp;omega));(go_wp2_with fail);refine EK.mono ?_;rintro e r ⟨I,A,C,rfl,S,q2,q3,q4,q5,B,x⟩;have G:Ac (U b (Z m) d).ownBlock.toList wr r:=((me _ wr).alloc _).trans B;(have HI:wr.heap.size+1<=r.heap.size:=by have:=B.size;simpa using this);have FT:lO (MR base (U a (Z l) cap) l ((aT.take (k+1)).map GN.name) w I A C r):=by
    have f:=Aa n;refine⟨S,λy=>?_,by have:=f.ge;omega,?_,q5,f.kept.trans' G (λi H=>?_),λq j=>?_⟩
    .rw[q2,f.mem,gQ v];simp only[iG,ii,jM,ic,gN];constructor
     .rintro (h|h|h)
      .exact lx (ly h)
      .exact lx (lx h)
      .exact ly h
     .rintro ((h|h)|h)
      .exact ly (lx h)
      .exact lx h
      .exact ly (ly h)
    .have:=f.le;simp only[ie,iH]at this⊢;omega
    .rcases f.new i (by simpa using H)with h|h
     .exact lx (by simp[h])
     .exact ly h
    .rcases x q j with h|h
     .exact f.new q h
     .exact ly (by have:=f.kept.size;simp at h;omega)
   have Ha:lO (lQ r w.heap.size 187 3 (U (V ⟨g,0,Y⟩) (Z aT) W) (Z aT) (aT.flatMap AK)):=by
    refine Ai D G (λi H hm=>?_);have h1:=(HO.lt i H);rcases F i (by simpa using hm)with h|h
    .have:=(HL.lt i h).2;omega
    .omega
   have FC:lO (∀q,(U A (Z I) C).ownBlock=V q->(U a (Z l) cap).ownBlock=V q\/p.heap.size<=q):=by
    intro q j;rcases x q j with h|h
    .exact F q h
    .exact ly (by simp at h;omega)
   clear EK S q2 q3 q5 B x G n D F d0 d1 M;go_wp2
   go_roundg (Z aT-(k+1))
   case measure=>have:=Aa HG;omega
   case rel=>exact⟨k+1,I,A,C,rfl,by go_num,by omega,rfl,by omega,FT,Ha,FC,by omega⟩
  .have HE:lO (MR base (U a (Z l) cap) l ns w m b d wr):=by
    have h:=Aa n;rw[gR (by omega),Aa z]at h;exact h
   go_wp2;go_ret;exact⟨m,b,d,rfl,HE⟩
def EZ{w:l9}{base:Nat}{v:lN}{l:mc AQ}(h:lQ w base 215 2 v (Z l) (l.flatMap Aq))(k:Nat)(a:k<Z l):
  ∃g b,v=U (V ⟨g,0,Y⟩) (Z l) b/\lP w ⟨g,k*2,Y⟩=V (X lS l[k].v)/\lP w ⟨g,k*2+1,Y⟩=V (O l[k].s):=by
 obtain⟨g,b,i,_,f⟩:=AF h (λc _=>Tf c) k a;have d:=f k a 0 (by omega);have e:=f k a 1 (by omega);simp[Aq]at d e;exact⟨g,b,i,d,e⟩
structure Gz(ts:mc AQ)(l:mc Int):Prop where
 zL:CE NT l
 mem:∀y,y∈l↔y≠0/\∃t∈ts,t.v=y
 le:Z l<=Z ts
def Gz.nil:Gz [] []:=⟨λi j a=>by simp at a,λy=>by simp,by simp⟩
theorem KM(D:Option Addr)(L:Nat)(ts:mc AQ)(base:Nat)(w:l9)(h:lQ w base 215 2 (U D (Z ts) L) (Z ts) (ts.flatMap Aq))(B2:Z ts<=900000):
  Calls prog 174 #[U D (Z ts) L] w λe x=>∃l E F,e=lo (U E (Z l) F)/\Gz ts l/\lQ x w.heap.size 21 1 (U E (Z l) F) (Z l) (l.flatMap AP)/\Ac [] w x:=by
 have HT:=Ab h;clear h;go_enter func174,ntmps174;go_wp2
 go_loopg [3,8] (Z ts) (λgk o i wr=>∃(k:Nat) (l:mc Int) (d:Option Addr) (j:Nat),o=U d (Z l) j/\i=X J k/\k<=Z ts/\gk=Z ts-k/\lO (Gz (ts.take k) l)/\lQ wr w.heap.size 21 1 (U d (Z l) j) (Z l) (l.flatMap AP)/\lO (Ac [] w wr))
 case atStart=>exact⟨0,[],Y,0,rfl,rfl,by omega,rfl,by show Gz _ _;simpa using Gz.nil,ip _ _ _ _,me _ _⟩
 case round=>
  obtain⟨k,l,d,j,rfl,rfl,hk,C,m,q,n⟩:=hrel;have z:=Ab C;clear C;have P:=m.le;simp only[iH]at P;have CL:=n.size;by_cases r:k<Z ts
  .obtain⟨g,CC,I,d0,d1⟩:=EZ (Ad HT n (by simp)) k r;simp only[gM]at I;obtain⟨rfl,_,rfl⟩:=I;have u:=Ab (n.alloc (j2 [X lS ts[k].v,O ts[k].s].toArray 215));have p:=gU q (j2 [X lS ts[k].v,O ts[k].s].toArray 215);cases hv:(ts[k].v==0)with
   |true=>
    (have S:(ts[k].v !=0)=K:=by simp[bne,hv]);have Ax:lO (Gz (ts.take (k+1)) l):=by
     have f:=Aa m;refine⟨f.zL,λy=>?_,by have:=f.le;simp only[iH]at this⊢;omega⟩;rw[f.mem,gQ r];(have hz:ts[k].v=0:=by simpa using hv);constructor
     .rintro ⟨b,t,a,c⟩;exact⟨b,t,kn _ a,c⟩
     .rintro ⟨b,t,a,c⟩;rcases ic.1 a with a|a
      .exact⟨b,t,a,c⟩
      .simp only[gN]at a;subst a;exact absurd (c.symm.trans hz) b
    clear hv;go_wp2
    go_roundg (Z ts-(k+1))
    case measure=>have:=Aa z;omega
    case rel=>exact⟨k+1,l,d,j,rfl,by go_num,by omega,rfl,Ax,p,u⟩
   |false=>
    (have S:(ts[k].v !=0)=j1:=by simp[bne,hv]);(have M:ts[k].v≠0:=by simpa using hv);have H:=Ab (aB d j l ts[k].v w.heap.size (wr.alloc (j2 [X lS ts[k].v,O ts[k].s].toArray 215)) p (by omega) m.zL (by simp;omega));have Bx:=Ab M;clear hv M;(go_wp2_with fail);refine H.mono ?_;rintro e N ⟨G,R,W,rfl,B,q2,q3,q4,q5,A,Q⟩;have T:lO (Ac [] w N):=u.trans' A (λi hi=>ly ((p.lt i (by simpa using hi)).1));have A1:lO (Gz (ts.take (k+1)) G):=by
     have f:=Aa m;refine⟨B,λy=>?_,by have:=f.le;simp only[iH]at this⊢;omega⟩;rw[q2,f.mem,gQ r];constructor
     .rintro (b|⟨b,t,a,c⟩)
      .exact⟨by rw[b];exact Bx,ts[k],List.mem_append_right _ (gN.2 rfl),b.symm⟩
      .exact⟨b,t,kn _ a,c⟩
     .rintro ⟨b,t,a,c⟩;rcases ic.1 a with a|a
      .exact ly ⟨b,t,a,c⟩
      .simp only[gN]at a;subst a;exact lx c.symm
    clear H B q2 q3 q4 A Q q p u n m;go_wp2
    go_roundg (Z ts-(k+1))
    case measure=>have:=Aa z;omega
    case rel=>exact⟨k+1,G,R,W,rfl,by go_num,by omega,rfl,A1,q5,T⟩
  .have HE:lO (Gz ts l):=by
    have h:=Aa m;rw[gR (by omega)]at h;exact h
   go_wp2;go_ret;exact⟨l,d,j,rfl,HE,q,n⟩
theorem UP(G:Option Addr)(P:Nat)(l:mc Int)(u:Option Addr)(v:Nat)(o:mc Int)(base C:Nat)(w:l9)(h:lQ w base 21 1 (U G (Z l) P) (Z l) (l.flatMap AP))(z:lQ w C 21 1 (U u (Z o) v) (Z o) (o.flatMap AP))(hl:Z l<=900000)(ho:Z o<=900000)(L:CE NT o):
  Calls prog 173 #[U G (Z l) P,U u (Z o) v] w λe x=>∃H I,e=lo (U H (Z (l.filter λy=> !JY o y)) I)/\lQ x w.heap.size 21 1 (U H (Z (l.filter λy=> !JY o y)) I) (Z (l.filter λy=> !JY o y)) ((l.filter λy=> !JY o y).flatMap AP)/\Ac [] w x:=by
 obtain⟨i0,CC,Q,W,A1⟩:=iR Tryz.zu;have HT:=Ab h;have B2:=Ab z;have B0:=Ab L;obtain⟨F,hF⟩:∃F,(l.filter λy=> !JY o y)=F:=⟨_,rfl⟩;rw[hF];have S:=Ab hF;clear h z hF L;go_enter func173,ntmps173;go_wp2
 go_loopg [5,10] (Z l) (λgk o' i wr=>∃(k:Nat) (m:mc Int) (a:Option Addr) (b:Nat),o'=U a (Z m) b/\i=X J k/\k<=Z l/\Z m<=k/\gk=Z l-k/\lO (m=(l.take k).filter λy=> !JY o y)/\lQ wr w.heap.size 21 1 (U a (Z m) b) (Z m) (m.flatMap AP)/\lO (Ac [] w wr))
 case atStart=>exact⟨0,[],Y,0,rfl,rfl,by omega,by simp,rfl,by show _=_;simp,ip _ _ _ _,me _ _⟩
 case round=>
  obtain⟨k,m,a,b,rfl,rfl,A,EY,D,q,n,d⟩:=hrel;have B:=Ab D;clear D;have FB:=d.size;by_cases r:k<Z l
  .obtain⟨g,EX,N,_,E⟩:=AF (Ad HT d (by simp)) (by simp[AP]) k r;simp only[gM]at N;obtain⟨rfl,_,rfl⟩:=N;have d0:=E k r 0 (by omega);simp[AP]at d0;clear E;have M:=Ab (ZI u v o l[k] C wr (Ad B2 d (by simp)) (by omega) B0);have p:lO ((l.take (k+1)).filter (λy=> !JY o y)=m++if JY o l[k] then[] else[l[k]]):=by
    show _=_;rw[gQ r,jX,<-Aa q];by_cases c:JY o l[k]=j1<;>simp[c]
   (go_wp2_with fail);refine M.mono ?_;rintro e j ⟨rfl,rfl⟩;clear M;cases c:JY o l[k] with
   |true=>
    (have s:lO (m=(l.take (k+1)).filter λy=> !JY o y):=by show _=_;rw[Aa p,c];simp);clear c p q;go_wp2
    go_roundg (Z l-(k+1))
    case measure=>have:=Aa B;omega
    case rel=>exact⟨k+1,m,a,b,rfl,by go_num,by omega,by omega,rfl,s,n,d⟩
   |false=>
    (have s:lO (m++[l[k]]=(l.take (k+1)).filter λy=> !JY o y):=by show _=_;rw[Aa p,c];simp);clear c p q;have AT:=iD j (j2 [X lS l[k]].toArray 21);have BT:=gU n (j2 [X lS l[k]].toArray 21);(have Ax:lO (∀f,(j.alloc (j2 [X lS l[k]].toArray 21)).grownBy f (U a (Z m) b).ownBlock->Ac [] w f):=λf R=>(d.alloc _).grown R (λk A=>ly ((n.lt k A).1)));go_wp2_with (at_builtin;refine io _ rfl (.tmp 18) (.tmp 20) _ rfl w.heap.size 21 i0 _ 1 4 underlying234 CC Q W A1 rfl (by omega) (U a (Z m) b) (Z m) (m.flatMap AP) rfl BT ⟨j.heap.size,0,Y⟩ 1 1 [X lS l[k]] rfl rfl (iu (cs:=[X lS l[k]].toArray) (t:=21) (fr:=(0,0)) AT) (by simp[Value.oneCell']) (by omega) (by unfold maxLen;omega) (by omega) (by simp;omega) (j.heap.size+1) (by simp) ?_;intro g1 T f BA AO DT FA)
    go_roundg (Z l-(k+1))
    case measure=>have:=Aa B;omega
    case rel=>exact⟨k+1,m++[l[k]],V ⟨g1,0,Y⟩,T,by simp,by go_num,by omega,by simp;omega,rfl,s,by simpa[AP] using BA,Ax f AO⟩
  .have HE:lO (m=F):=by
    have h:=Aa q;rw[gR (by omega),Aa S]at h;exact h
   go_wp2;go_ret;rw[<-HE.out];exact⟨a,b,rfl,n,d⟩
def lenOf:lN->Nat
 | U _ n _=>n
 |_=>0
def JS(c:Db):Bool:=(Bo c).any (λa=>decide (2<lenOf a.tv))||decide (3<Z c.zD)
theorem OQ(c:Db)(w:l9)(h:Js w 0 c.hv c.bv c.zE c.zD)(L:Z c.zD<=1000):
  Calls prog 118 #[lR (j3 (Bc c))] w λe w'=>e=lo (lT (JS c))/\Ac [] w w':=by
 have q:=Ab (KE c (w.alloc (j2 (j3 (Bc c)) 189)) (h.kept ((me [] w).alloc _) (by simp)) L);have S:=Ab (Hn h);have A2:Z (Bo c)<=1001:=by
  have:=DO c.zD;simp[Bo];omega
 have p:lO (JS c=((Bo c).any (λa=>decide (2<lenOf a.tv))||decide (3<Z c.zD))):=rfl;obtain⟨u,f,j,hv,bv,b⟩:=c;simp only at h L;obtain⟨y,s,rfl⟩:=Al h.head;obtain⟨r,C,rfl⟩:=Al h.body.row;generalize JS ⟨u,f,j,U y (Z j) s,U r (Z b) C,b⟩=G at p⊢;generalize Bo ⟨u,f,j,U y (Z j) s,U r (Z b) C,b⟩=aT at q S A2 p;clear h;have D:=Ab (mf w (Bc ⟨u,f,j,U y (Z j) s,U r (Z b) C,b⟩) 189);simp only[Bc]at q D⊢;go_enter func118,ntmps118;go_wp2_with fail
 refine q.mono ?_;rintro e w2 ⟨BT,B9,rfl,F,B⟩;have I:lO (Ac [] w w2):=((me [] w).alloc _).trans B;have W:=Ab (D.kept B (by simp));have HO:=Ab F;clear q F B D;go_wp2;generalize w.heap.size=N at W⊢
 go_loopg [8] (Z aT) (λgk i wr=>∃(k:Nat),i=X J k/\k<=Z aT/\gk=Z aT-k/\lO ((aT.take k).any (λa=>decide (2<lenOf a.tv))=K)/\lO (Ac [] w wr)/\lO (Ac [] w2 wr))
 case atStart=>exact⟨0,rfl,by omega,rfl,by show _=_;simp,I,me _ _⟩
 case round=>
  clear I;obtain⟨k,rfl,hk,H,M,A,t⟩:=hrel;have HG:=Ab H;clear H;by_cases n:k<Z aT
  .obtain⟨g,CL,T,d0,d1,d2⟩:=Je (Ad HO t (by simp)) k n;simp only[gM]at T;obtain⟨rfl,_,rfl⟩:=T;obtain⟨P,d,Q,o⟩:=S aT[k] (gL n);rw[o]at d2;have x:lO (2<d->G=j1):=by
    intro f;rw[Aa p,Jv _ _ k n (by simp[o,lenOf,f])];rfl
   have z:lO (¬2<d->(aT.take (k+1)).any (λa=>decide (2<lenOf a.tv))=K):=by
    intro f;rw[CT _ _ k n (Aa M)];simp[o,lenOf,f]
   clear o;have R:=Ab (A.alloc (j2 [X J aT[k].place,O aT[k].name,U P d Q].toArray 187));have A1:=Ab (t.alloc (j2 [X J aT[k].place,O aT[k].name,U P d Q].toArray 187));by_cases m:2<d
   .have E:=Ab (x m);(have l:(2:Int)<(d:Int):=by omega);clear x z;go_wp2;go_ret;rw[Aa E];exact⟨rfl,R⟩
   .have E:=Ab (z m);(have l:¬(2:Int)<(d:Int):=by omega);clear x z;go_wp2
    go_roundg (Z aT-(k+1))
    case measure=>have:=Aa HG;omega
    case rel=>exact⟨k+1,by go_num,by omega,rfl,E,R,A1⟩
  .have HE:lO (G=decide (3<Z b)):=by
    have h:=Aa M;rw[gR (by omega)]at h;show _=_;rw[Aa p,h];rfl
   have c3:=(W.kept t (by simp)).cell 3;simp at c3;by_cases m:3<Z b
   ·(have l:(3:Int)<(Z b:Int):=by omega);(have v:lO (G=j1):=by show _=_;rw[Aa HE];simp[m]);go_wp2;go_ret;rw[v.out];exact⟨by simp[l],A⟩
   ·(have l:¬(3:Int)<(Z b:Int):=by omega);(have v:lO (G=K):=by show _=_;rw[Aa HE];simp[m]);go_wp2;go_ret;rw[v.out];exact⟨by simp[l],A⟩
def BE(o:Option Int):lN:=match o with|some p=> .tuple #[X J p,lT j1]|none=> .tuple #[X J 0,lT K]
def S3(c:Db):Z (Bc c)=4:=rfl
structure C9(w:l9)(lv:lN)(cs:mc Db):Prop where
 row:lQ w 0 189 4 lv (Z cs) (cs.flatMap Bc)
 each:∀c∈cs,Js w 0 c.hv c.bv c.zE c.zD
def C9.kept{w w':l9}{a:lN}{cs:mc Db}(h:C9 w a cs)(k:Ac [] w w'):C9 w' a cs:=⟨Ad h.row k (by simp),λc b=>(h.each c b).kept k (by simp)⟩
def Fq{w:l9}{u:lN}{cs:mc Db}(h:C9 w u cs)(k:Nat)(a:k<Z cs):
  ∃g s j n b m f e o d,u=U (V ⟨g,0,Y⟩) (Z cs) s/\cs[k]=⟨j,n,b,U m (Z b) f,U e (Z d) o,d⟩/\
   lP w ⟨g,k*4,Y⟩=V (X J j)/\lP w ⟨g,k*4+1,Y⟩=V (O n)/\lP w ⟨g,k*4+2,Y⟩=V (U m (Z b) f)/\lP w ⟨g,k*4+3,Y⟩=V (U e (Z d) o):=by
 obtain⟨g,s,x,_,i⟩:=AF h.row (λc _=>S3 c) k a;have l:=h.each _ (gL a);have t:=i k a 0 (by omega);have r:=i k a 1 (by omega);have p:=i k a 2 (by omega);have q:=i k a 3 (by omega);obtain⟨⟨j,n,b,y,z,d⟩,v⟩:∃c,cs[k]=c:=⟨_,rfl⟩;rw[v]at t r p q l;simp only at l;obtain⟨m,f,rfl⟩:=Al l.head;obtain⟨e,o,rfl⟩:=Al l.body.row;simp[Bc]at t r p q;exact⟨g,s,j,n,b,m,f,e,o,d,x,v,t,r,p,q⟩
def TF(x:zA)(a:GN):Bool:=a.name.toList==x.toList
def fA(cs:mc Db)(x:zA):Option Nat:=((cs.flatMap Bo).find? (TF x)).map λa=>lenOf a.tv
def QY(cs:mc Db)(a:GN):Bool:=decide (2<lenOf a.tv)||(match fA cs a.name with|some n=> !(n==lenOf a.tv)|none=>K)
def fb(cs:mc Db)(l:mc GN):Option Int:=(l.find? (QY cs)).map λa=>a.place
def Kv{α:Type}{p:α->Bool}{l:mc α}(h:l.any p=K):l.find? p=Y:=by
 rw[jK];intro y a b;rw[ju]at h;exact h y a b
def aF{cs:mc Db}{k:Nat}(a:k<Z cs):cs.flatMap Bo=(cs.take k).flatMap Bo++(Bo cs[k]++(cs.drop (k+1)).flatMap Bo):=by
 rw[show cs.flatMap Bo=(cs.take k++cs[k]::cs.drop (k+1)).flatMap Bo from by rw[List.getElem_cons_drop,iZ]]
 rw[ix,il]
def ec{cs:mc Db}{x:zA}{k:Nat}(a:k<Z cs){l:mc GN}(c:Bo cs[k]=l)(e:((cs.take k).flatMap Bo).any (TF x)=K){j:Nat}(b:j<Z l)(d:(l.take j).any (TF x)=K)(f:TF x l[j]=j1):
  fA cs x=V (lenOf l[j].tv):=by
 unfold fA;rw[aF a,lu,Kv e,c,lu,FY _ _ j b d f];rfl
def aL{cs:mc Db}{x:zA}{k:Nat}(d:k<Z cs){l:mc GN}(b:Bo cs[k]=l)(a:((cs.take k).flatMap Bo).any (TF x)=K)(c:l.any (TF x)=K):((cs.take (k+1)).flatMap Bo).any (TF x)=K:=by
 rw[gQ d,ix,lJ,a];simp[b,c]
theorem Uv(x:zA)(CC:Option Addr)(B0:Nat)(cs:mc Db)(w:l9)(h:C9 w (U CC (Z cs) B0) cs)(A2:∀c∈cs,Z c.zD<=1000)(HD:Z cs<=1000):
  Calls prog 100 #[O x,U CC (Z cs) B0] w λe w'=>e=lo (BE ((fA cs x).map fun(n:Nat)=>(n:Int)))/\Ac [] w w':=by
 have HP:=Ab h;have EK:=Ab A2;obtain⟨R,M⟩:∃R,fA cs x=R:=⟨_,rfl⟩;rw[M];have BS:=Ab M;clear h A2 M;go_enter func100,ntmps100;go_wp2
 go_loopg [12] (Z cs) (λgk i wr=>∃(k:Nat),i=X J k/\k<=Z cs/\gk=Z cs-k/\lO (((cs.take k).flatMap Bo).any (TF x)=K)/\lO (Ac [] w wr))
 case atStart=>exact⟨0,rfl,by omega,rfl,by show _=_;simp,me _ _⟩
 case round=>
  obtain⟨k,rfl,hk,W,G,y⟩:=hrel;have HG:=Ab W;clear W;by_cases m:k<Z cs
  .obtain⟨g,HA,u,z,l,v,t,r,A,b,q,B2,d0,T,C,d3⟩:=Fq (HP.kept y) k m;simp only[gM]at q;obtain⟨rfl,_,rfl⟩:=q;have o:=(HP.kept y).each _ (gL m);have D:=Aa EK _ (gL m);obtain⟨a,d⟩:∃a,Bo cs[k]=a:=⟨_,rfl⟩;have HY:=Ab (λj (hj:j<Z a) h2 h3=>ec m d G hj h2 h3);have HS:=Ab (aL m d G);rw[B2]at o D d;simp only at o D;have B:=Ab (KE ⟨u,z,l,U v (Z l) t,U r (Z b) A,b⟩ (wr.alloc (j2 [X J u,O z,U v (Z l) t,U r (Z b) A].toArray 189)) (o.kept ((me [] wr).alloc _) (by simp)) D);have Bx:=Ab (Hn (c:=⟨u,z,l,U v (Z l) t,U r (Z b) A,b⟩) o);have Ha:Z a<=1001:=by
    have:=DO b;rw[<-d];simp[Bo];omega
   rw[d]at B Bx;have p:=Ab (y.alloc (j2 [X J u,O z,U v (Z l) t,U r (Z b) A].toArray 189));clear o B2 d;simp only[Bc]at B;(go_wp2_with fail);refine B.mono ?_;rintro e w2 ⟨FT,HB,rfl,Q,k2⟩;have Ax:=Ab (p.trans k2);have HO:=Ab Q;clear B Q k2 p d0 T C d3;go_wp2
   go_loopg [19] (Z a) (λgj i S=>∃(j:Nat),i=X J j/\j<=Z a/\gj=Z a-j/\lO ((a.take j).any (TF x)=K)/\lO (Ac [] w S)/\lO (Ac [] w2 S))
   case atStart=>exact⟨0,rfl,by omega,rfl,by show _=_;simp,Ax,me _ _⟩
   case round=>
    clear Ax;obtain⟨j,rfl,hj,A1,I,B9,DT⟩:=hrel;have FO:=Ab A1;clear A1;by_cases s:j<Z a
    .obtain⟨gg,HH,q,d0,T,C⟩:=Je (Ad HO DT (by simp)) j s;simp only[gM]at q;obtain⟨rfl,_,rfl⟩:=q;obtain⟨AT,H,A0,E⟩:=Bx a[j] (gL s);rw[E]at C;have L:lO ((a[j].name.toList==x.toList)=j1->R=V H):=by
      intro f;have:=Aa HY j s I f;rw[E]at this;rw[<-Aa BS];exact this
     have F:lO ((a[j].name.toList==x.toList)=K->(a.take (j+1)).any (TF x)=K):=by
      intro f;rw[CT _ _ j s (Aa I)];exact f
     have p:=Ab (B9.alloc (j2 [X J a[j].place,O a[j].name,U AT H A0].toArray 187));have EY:=Ab (DT.alloc (j2 [X J a[j].place,O a[j].name,U AT H A0].toArray 187));clear E;cases f:(a[j].name.toList==x.toList)with
     |true=>
      have P:=Ab (L f);clear L F;go_wp2;go_ret2;rw[Aa P];exact⟨rfl,p⟩
     |false=>
      have P:=Ab (F f);clear L F;go_wp2
      go_roundg (Z a-(j+1))
      case measure=>have:=Aa FO;omega
      case rel=>exact⟨j+1,by go_num,by omega,rfl,P,p,EY⟩
    .have N:lO (((cs.take (k+1)).flatMap Bo).any (TF x)=K):=by
      have h:=Aa I;rw[gR (by omega)]at h;exact HS h
     go_wp2
     go_roundg (Z cs-(k+1))
     case measure=>have:=Aa HG;omega
     case rel=>exact⟨k+1,by go_num,by omega,rfl,N,B9⟩
  .have N:lO (R=Y):=by
    have h:=Aa G;rw[gR (by omega)]at h;show _=_;rw[<-Aa BS];unfold fA;rw[Kv h];rfl
   go_wp2;go_ret2;rw[N.out];exact⟨rfl,y⟩
theorem KZ(Ax:Option Addr)(W:Nat)(b:mc GN)(base:Nat)(s:Option Addr)(r:Nat)(cs:mc Db)(w:l9)(A0:lQ w base 187 3 (U Ax (Z b) W) (Z b) (b.flatMap AK))(G:∀a∈b,∃ad n cp,a.tv=U ad n cp)(FB:Z b<=1001)(A2:∀a∈b,lenOf a.tv<=1000)(h:C9 w (U s (Z cs) r) cs)(T:∀c∈cs,Z c.zD<=1000)(BS:Z cs<=1000):
  Calls prog 91 #[U Ax (Z b) W,U s (Z cs) r] w λe t=>e=lo (BE (fb cs b))/\Ac [] w t:=by
 have HO:=Ab A0;have CL:=Ab G;have BA:lO (∀x wr,Ac [] w wr->Calls prog 100 #[O x,U s (Z cs) r] wr λe t=>e=lo (BE ((fA cs x).map fun(n:Nat)=>(n:Int)))/\Ac [] wr t):=λx wr I=>Uv x s r cs wr (h.kept I) T BS
 obtain⟨R,D⟩:∃R,fb cs b=R:=⟨_,rfl⟩;rw[D];have AO:lO ((b.find? (QY cs)).map (λa=>a.place)=R):=D;clear h T D A0 G A2;go_enter func91,ntmps91;go_wp2
 go_loopg [12] (Z b) (λgk i wr=>∃(k:Nat),i=X J k/\k<=Z b/\gk=Z b-k/\lO ((b.take k).any (QY cs)=K)/\lO (Ac [] w wr))
 case atStart=>exact⟨0,rfl,by omega,rfl,by show _=_;simp,me _ _⟩
 case round=>
  obtain⟨k,rfl,I,M,A,C⟩:=hrel;have L:=Ab M;clear M;by_cases q:k<Z b
  .obtain⟨g,FA,he,d0,d1,F⟩:=Je (Ad HO C (by simp)) k q;simp only[gM]at he;obtain⟨rfl,_,rfl⟩:=he;obtain⟨P,d,Q,v⟩:=CL b[k] (gL q);rw[v]at F;have l:lO (QY cs b[k]=j1->R=V b[k].place):=by
    intro B;rw[<-Aa AO,FY _ _ k q (Aa A) B];rfl
   have m:lO (QY cs b[k]=K->(b.take (k+1)).any (QY cs)=K):=by
    intro B;rw[CT _ _ k q (Aa A)];exact B
   have f:lO (QY cs b[k]=(decide (2<d)||(match fA cs b[k].name with|some n=> !(n==d)|none=>K))):=by
    show _=_;unfold QY;rw[v];rfl
   clear v;have z:=C.alloc (j2 [X J b[k].place,O b[k].name,U P d Q].toArray 187);have N:=Ab (mf wr [X J b[k].place,O b[k].name,U P d Q] 187);have H:=Ab (BA b[k].name _ z);have S:=Ab z;clear z;(go_wp2_with fail);refine H.mono ?_;rintro e w3 ⟨rfl,y⟩;have E:=N.kept y (by simp);have p:=Ab (S.trans y);have c0:=E.cell 0;have c2:=E.cell 2;simp at c0 c2;clear H N S y E d0 d1 F;by_cases u:2<d
   ·(have A1:(2:Int)<(d:Int):=by omega);have j:lO (R=V b[k].place):=l (by rw[Aa f];simp[u]);clear l m f;cases fA cs b[k].name with
    |none=>
     simp only[Option.map_none,BE];go_wp2;go_ret2;rw[Aa j];exact⟨rfl,p⟩
    |some n=>
     simp only[jC,BE];go_wp2;go_ret2;rw[Aa j];exact⟨rfl,p⟩
   ·(have A1:¬(2:Int)<(d:Int):=by omega);cases hv:fA cs b[k].name with
    |none=>
     have j:lO ((b.take (k+1)).any (QY cs)=K):=m (by rw[Aa f,hv];simp[u]);clear l m f hv;simp only[Option.map_none,BE];go_wp2
     go_roundg (Z b-(k+1))
     case measure=>have:=Aa L;omega
     case rel=>exact⟨k+1,by go_num,by omega,rfl,j,p⟩
    |some n=>
     by_cases o:n=d
     .have j:lO ((b.take (k+1)).any (QY cs)=K):=m (by rw[Aa f,hv];simp[u,o]);(have DT:((d:Int) !=(n:Int))=K:=by rw[o];simp);(have B2:((d:Int)==(n:Int))=j1:=by rw[o];simp);clear l m f hv;simp only[jC,BE];clear o;go_wp2
      go_roundg (Z b-(k+1))
      case measure=>have:=Aa L;omega
      case rel=>exact⟨k+1,by go_num,by omega,rfl,j,p⟩
     .have j:lO (R=V b[k].place):=l (by rw[Aa f,hv];simp[o]);(have DT:((d:Int) !=(n:Int))=j1:=by simp[bne];omega);(have B2:((d:Int)==(n:Int))=K:=by rw[iw];omega);clear l m f hv;simp only[jC,BE];go_wp2;go_ret2;rw[Aa j];exact⟨rfl,p⟩
  .have HE:lO (R=Y):=by
    have h:=Aa A;rw[gR (by omega)]at h;show _=_;rw[<-Aa AO,Kv h];rfl
   go_wp2;go_ret2;rw[HE.out];exact⟨rfl,C⟩
def Ge(zD:mc Ks):mc AQ:=zD.flatMap λp=>if p.1.sort==0 then p.1.ts else[]
def VO{a:mc Ks}{k:Nat}(b:k<Z a):Ge (a.take (k+1))=Ge (a.take k)++(if a[k].1.sort==0 then a[k].1.ts else[]):=by
 unfold Ge;rw[gQ b,ix];simp
def Sx(a:mc Ks):Z (Ge a)<=Z (AV a):=by
 induction a with
 |nil=>simp[Ge]
 |cons p l ih=>
  unfold Ge AV at*;simp only[il,ib];have:Z (if p.1.sort==0 then p.1.ts else[])<=Z (AL p.1):=by
   by_cases h:(p.1.sort==0)=j1
   .simp[h,AL,Ba]
   .simp[h]
  omega
def Ov(zD:mc Ks)(y:Int):Bool:=(Ge zD).any λt=>t.v==y
def CV(zD:mc Ks)(t:AQ):Bool:=t.v !=0&& !Ov zD t.v
def YO{ts:mc AQ}{c:mc Ks}{g a:mc Int}(h:Gz ts g)(f:Gz (Ge c) a):0<Z (g.filter λy=> !JY a y)↔ts.any (CV c)=j1:=by
 rw[List.length_pos_iff_exists_mem,jg];constructor
 .rintro ⟨y,m⟩;obtain⟨o,j⟩:=ir.1 m;obtain⟨i,t,l,p⟩:=(h.mem y).1 o;refine⟨t,l,?_⟩;unfold CV Ov;rw[p];have e:((Ge c).any λt=>t.v==y)=K:=by
   rw[ju];intro u d n;have:y∈a:=(f.mem y).2 ⟨i,u,d,by simpa using n⟩;rw[(Qf a y).2 this]at j;cases j
  rw[e];simp[i]
 .rintro ⟨t,q,b⟩;unfold CV Ov at b;simp only[iq,bne_iff_ne,ne_eq,jU,ju]at b;refine⟨t.v,ir.2 ⟨(h.mem _).2 ⟨b.1,t,q,rfl⟩,?_⟩⟩;cases e:JY a t.v with
  |false=>rfl
  |true=>
   obtain⟨_,u,d,k⟩:=(f.mem _).1 ((Qf a _).1 e);exact absurd (by simpa using k) (b.2 u d)
theorem Oa(S:Option Addr)(H:Nat)(ts:mc AQ)(bt:Nat)(B0:Option Addr)(Bx:Nat)(a:mc Ks)(w:l9)(W:lQ w bt 215 2 (U S (Z ts) H) (Z ts) (ts.flatMap Aq))(h:BP w 0 (U B0 (Z a) Bx) a)(KK:Z a<=1000)(CL:∀p∈a,(p.1.sort==0)=j1->0<Z p.1.ts/\Z p.1.ts<=1000)(H2:Z ts<=900000)(A:Z (Ge a)<=900000):
  Calls prog 136 #[U S (Z ts) H,U B0 (Z a) Bx] w λe w'=>e=lo (lT (ts.any (CV a)))/\Ac [] w w':=by
 obtain⟨i0,HW,FT,H4,HR⟩:=iR Tryz.zd;have EM:lO (∀j c,Gz ts j->Gz (Ge a) c->(0<Z (j.filter λy=> !JY c y)↔ts.any (CV a)=j1)):=λj c h1 h2=>YO h1 h2
 generalize ts.any (CV a)=LB at EM⊢;have HT:=Ab W;have HB:=Ab h;have HV:=Ab CL;have H6:=Ab A;clear W h CL A;go_enter func136,ntmps136;go_wp2
 go_loopg [5,10] (Z a) (λgk o i wr=>∃(k:Nat) (b:mc AQ) (d:Option Addr) (f:Nat),o=U d (Z b) f/\i=X J k/\k<=Z a/\Z b<=k*1000/\gk=Z a-k/\lO (b=Ge (a.take k))/\lQ wr w.heap.size 215 2 (U d (Z b) f) (Z b) (b.flatMap Aq)/\lO (Ac [] w wr))
 case atStart=>exact⟨0,[],Y,0,rfl,rfl,by omega,by simp,rfl,by show _=_;simp[Ge],ip _ _ _ _,me _ _⟩
 case round=>
  obtain⟨k,b,d,f,rfl,rfl,hk,K5,EX,m,Q,u⟩:=hrel;have HG:=Ab EX;clear EX;have K7:=u.size;by_cases D:k<Z a
  .have hB:=HB.kept u (by simp);obtain⟨g,LC,l,x,n,B2,AO,EY,d0,d1,d2,d3,d4,d5,d6,d7,d8⟩:=Iz hB k D;simp only[gM]at B2;obtain⟨rfl,_,rfl⟩:=B2;have q:=Ab (VO D);have z:=Ab (HV a[k] (gL D));rw[AO]at q z;have I:=Ab (Ad EY ((me [] wr).alloc (j2 (j3 (Aw (l,U x (Z l.ts) n))) 217)) (by simp));clear hB EY AO;have M:=Ab (u.alloc (j2 (j3 (Aw (l,U x (Z l.ts) n))) 217));have G:=gU Q (j2 (j3 (Aw (l,U x (Z l.ts) n))) 217);(have Ax:w.heap.size<=(wr.alloc (j2 (j3 (Aw (l,U x (Z l.ts) n))) 217)).heap.size:=by simp;omega);simp only[Aw]at I M G Ax;cases hs:(l.sort==0)with
   |false=>
    (have L:lO (b=Ge (a.take (k+1))):=by show _=_;rw[Aa q,Aa m];simp[hs]);clear q m z;go_wp2
    go_roundg (Z a-(k+1))
    case measure=>have:=Aa HG;omega
    case rel=>exact⟨k+1,b,d,f,rfl,by go_num,by omega,by omega,rfl,L,G,M⟩
   |true=>
    (have L:lO (b++l.ts=Ge (a.take (k+1))):=by show _=_;rw[Aa q,Aa m];simp[hs]);obtain⟨FB,HN⟩:=z hs;simp only at FB HN;obtain⟨gl,rfl,HL,A2,_,_⟩:=Yn I FB;have HY:=Ab A2;(have HF:lO (∀t,(wr.alloc (j2 [X J l.place,X J l.sort,X J l.ap,O l.an,U (V ⟨gl,0,Y⟩) (Z l.ts) n,X lS l.l.v,O l.l.s,X lS l.r.v,O l.r.s].toArray 217)).grownBy t (U d (Z b) f).ownBlock->Ac [] w t):=λt hg=>M.grown hg (λk hk=>ly ((Q.lt k hk).1)));clear q m z A2 I;(have FO:Z (b++l.ts)<=(k+1)*1000:=by simp;omega);(have IS:k<=1000:=by omega);go_wp2_with (at_builtin;refine io _ rfl (.tmp 17) (.tmp 20) _ rfl w.heap.size 215 i0 _ 2 24 underlying185 HW FT H4 HR rfl (by omega) (U d (Z b) f) (Z b) (b.flatMap Aq) rfl G ⟨gl,0,Y⟩ (Z l.ts) n (l.ts.flatMap Aq) rfl HL HY (Ko _) (by omega) (by unfold maxLen;omega) (by omega) Ax _ rfl ?_;intro g1 HH t HS HJ Ix FL)
    go_roundg (Z a-(k+1))
    case measure=>have:=Aa HG;omega
    case rel=>exact⟨k+1,b++l.ts,V ⟨g1,0,Y⟩,HH,by simp,by go_num,by omega,FO,rfl,L,by simpa using HS,HF t HJ⟩
  .have HE:lO (b=Ge a):=by
    have h:=Aa m;rw[gR (by omega)]at h;exact h
   (have A:Z b<=900000:=by rw[Aa HE];exact H6);have T:=Ab (KM S H ts bt wr (Ad HT u (by simp)) H2);clear m;(go_wp2_with fail);refine T.mono ?_;rintro e w4 ⟨j,HQ,HI,rfl,E,FP,k4⟩;have FF:=Ad Q k4 (by simp);have FA:=Ab (KM d f b w.heap.size w4 FF A);have FC:=Ab (u.trans k4);have HZ:=Ab E;have FL:=E.le;clear T E;(go_wp2_with fail);refine FA.mono ?_;rintro e w5 ⟨c,H1,HU,rfl,B,HM,k5⟩;have Ha:=Ad FP k5 (by simp);have K8:=B.le;have R:=Ab (UP HQ HI j H1 HU c _ _ w5 Ha HM (by omega) (by omega) B.zL);have HD:=Ab (FC.trans k5);have P:=Ab (EM j c HZ (by rw[<-Aa HE];exact B));clear FA B;generalize(j.filter λy=> !JY c y)=F at R P;(go_wp2_with fail);refine R.mono ?_;rintro e w6 ⟨LM,K1,rfl,LL,k6⟩;have A0:=Ab (HD.trans k6);clear R;by_cases A1:0<Z F
   ·(have N:(0:Int)<(Z F:Int):=by omega);have C:lO (LB=j1):=P.1 A1;go_wp2;go_ret;rw[C.out];exact⟨by simp[N],A0⟩
   ·(have N:¬(0:Int)<(Z F:Int):=by omega);have C:lO (LB=K):=by
     cases hb:LB with
     |false=>rfl
     |true=>exact absurd (P.2 hb) A1
    go_wp2;go_ret;rw[C.out];exact⟨by simp[N],A0⟩
theorem Hk(f:Option Addr)(s:Nat)(a:mc Ks)(w:l9)(h:BP w 0 (U f (Z a) s) a)(CC:Z a<=1000)(T:∀p∈a,(p.1.sort==0)=j1->0<Z p.1.ts/\Z p.1.ts<=1000)(L:∀p∈a,Z (AL p.1)<=1000)(G:Z (Ge a)<=900000):
  Calls prog 93 #[U f (Z a) s] w λe u=>e=lo (BE ((a.find? λp=>(AL p.1).any (CV a)).map λp=>p.1.place))/\Ac [] w u:=by
 have HB:=Ab h;have EX:=Ab L;have A0:lO (∀(m:Option Addr) (o:Nat) (b:mc AQ) (wr:l9),Ac [] w wr->lQ wr 0 215 2 (U m (Z b) o) (Z b) (b.flatMap Aq)->Z b<=900000->Calls prog 136 #[U m (Z b) o,U f (Z a) s] wr λe u=>e=lo (lT (b.any (CV a)))/\Ac [] wr u):=λm o b wr M hr hl=>Oa m o b 0 f s a wr hr (h.kept M (by simp)) CC T hl G
 obtain⟨R,E⟩:∃R,((a.find? λp=>(AL p.1).any (CV a)).map λp=>p.1.place)=R:=⟨_,rfl⟩;rw[E];have AO:=Ab E;clear h L E T G;go_enter func93,ntmps93;go_wp2
 go_loopg [8] (Z a) (λgk i wr=>∃(k:Nat),i=X J k/\k<=Z a/\gk=Z a-k/\lO ((a.take k).any (λp=>(AL p.1).any (CV a))=K)/\lO (Ac [] w wr))
 case atStart=>exact⟨0,rfl,by omega,rfl,by show _=_;simp,me _ _⟩
 case round=>
  obtain⟨k,rfl,M,Q,z,B⟩:=hrel;have HG:=Ab Q;clear Q;by_cases d:k<Z a
  .obtain⟨g,FL,q,l,t,I,c,W,d0,d1,d2,d3,d4,d5,d6,d7,d8⟩:=Iz (HB.kept B (by simp)) k d;simp only[gM]at I;obtain⟨rfl,_,rfl⟩:=I;have C:=Aa EX a[k] (gL d);have n:lO ((AL q).any (CV a)=j1->R=V q.place):=by
    intro A;rw[<-Aa AO,FY _ _ k d (Aa z) (by rw[c];exact A),c];rfl
   have r:lO ((AL q).any (CV a)=K->(a.take (k+1)).any (λp=>(AL p.1).any (CV a))=K):=by
    intro A;rw[CT _ _ k d (Aa z)];rw[c];exact A
   rw[c]at C;simp only at C;have D:=Ab (LQ q l t (wr.alloc (j2 (j3 (Aw (q,U l (Z q.ts) t))) 217)) (Ad W ((me [] wr).alloc _) (by simp)));have hN:=Ab (mf wr (Aw (q,U l (Z q.ts) t)) 217);have AT:=Ab (B.alloc (j2 (j3 (Aw (q,U l (Z q.ts) t))) 217));clear W c;simp only[Aw]at D;(go_wp2_with fail);refine D.mono ?_;rintro e w3 ⟨BA,FA,rfl,P,x⟩;have S:=Ab (hN.kept x (by simp));have H:=Ab (AT.trans x);have j:=Ab (A0 BA FA (AL q) w3 H P (by omega));clear D P x hN AT d0 d1 d2 d3 d4 d5 d6 d7 d8;generalize(AL q).any (CV a)=LB at j n r;generalize Z (AL q)=tl at j C⊢;(go_wp2_with fail);refine j.mono ?_;rintro e w5 ⟨rfl,y⟩;have v:=S.kept y (by simp);have N:=Ab (H.trans y);clear j y S;cases LB with
   |true=>
    have F:=Ab (n rfl);have c0:=v.cell 0;simp[Aw]at c0;clear n r v;go_wp2;go_ret2;rw[Aa F];exact⟨rfl,N⟩
   |false=>
    have F:=Ab (r rfl);clear n r v;go_wp2
    go_roundg (Z a-(k+1))
    case measure=>have:=Aa HG;omega
    case rel=>exact⟨k+1,by go_num,by omega,rfl,F,N⟩
  .have HE:lO (R=Y):=by
    have h:=Aa z;rw[gR (by omega)]at h;show _=_;rw[<-Aa AO,Kv h];rfl
   go_wp2;go_ret2;rw[HE.out];exact⟨rfl,B⟩
def Ox(c:Db)(t:AQ):Bool:=t.v !=0&& !Ov c.zD t.v
def G2(c:Db):Option Int:=if c.zE.any (Ox c)then V c.hp else(c.zD.find? λp=>(AL p.1).any (Ox c)).map λp=>p.1.place
def Mv{α:Type}{f g:α->Bool}:∀{l:mc α},(∀x∈l,f x=g x)->l.any f=l.any g
 |[],_=>rfl
 |x::l,h=>by rw[kW,kW,h x (by simp),Mv (λy a=>h y (by simp[a]))]
def M8{α:Type}{f g:α->Bool}:∀{l:mc α},(∀x∈l,f x=g x)->l.find? f=l.find? g
 |[],_=>rfl
 |x::l,h=>by rw[kh,kh,h x (by simp),M8 (λy a=>h y (by simp[a]))]
theorem OM(c:Db)(w:l9)(h:Js w 0 c.hv c.bv c.zE c.zD)(f:OX c)(C:Z (Br c)<=900000):
  Calls prog 120 #[lR (j3 (Bc c))] w λe q=>e=lo (BE (G2 c))/\Ac [] w q:=by
 have o:Z (Ge c.zD)<=900000:=by
  have:=Sx c.zD;simp only[Br,ib]at C;omega
 have A:Z c.zE<=900000:=by have:=f.head.2;omega
 have j:∀p∈c.zD,(p.1.sort==0)=j1->0<Z p.1.ts/\Z p.1.ts<=1000:=λp b M=>⟨(f.each p b).1 (by simp[Ba,M]),(f.each p b).2⟩
 have s:∀p∈c.zD,Z (AL p.1)<=1000:=λp b=>(f.zQ b).2
 have v:=f.lits;have d:lO (G2 c=if c.zE.any (CV c.zD)then V c.hp else(c.zD.find? λp=>(AL p.1).any (CV c.zD)).map λp=>p.1.place):=rfl;generalize G2 c=U at d⊢;clear f C;obtain⟨b,H,k,R,S,a⟩:=c;simp only at h o A j s v d;obtain⟨x,t,rfl⟩:=Al h.head;obtain⟨g,i,rfl⟩:=Al h.body.row;have G:=Ab (mf w [X J b,O H,.slice x (Z k) t,.slice g (Z a) i] 189);have l:=(me [] w).alloc (j2 [X J b,O H,.slice x (Z k) t,.slice g (Z a) i].toArray 189);have n:=Ab (Oa x t k 0 g i a _ (Ad h.head l (by simp)) (h.body.kept l (by simp)) v j A o);have z:lO (∀wr,Ac [] w wr->Calls prog 93 #[.slice g (Z a) i] wr λe q=>e=lo (BE ((a.find? λp=>(AL p.1).any (CV a)).map λp=>p.1.place))/\Ac [] wr q):=λwr I=>Hk g i a wr (h.body.kept I (by simp)) v j s o
 have D:=Ab l;generalize((a.find? λp=>(AL p.1).any (CV a)).map λp=>p.1.place)=FO at z d;generalize k.any (CV a)=LB at n d;clear h l j s;simp only[Bc];go_enter func120,ntmps120;go_wp2_with fail
 refine n.mono ?_;rintro e N ⟨rfl,y⟩;have r:=G.kept y (by simp);have u:=Ab (D.trans y);have P:=r.cell 0;have L:=r.cell 3;simp at P L;have F:=Ab (z N u);clear n G D y r z;cases LB with
 |true=>
  have m:lO (U=V b):=by have h:=Aa d;exact h
  clear d;go_wp2;go_ret2;rw[Aa m];exact⟨rfl,u⟩
 |false=>
  have m:lO (U=FO):=by have h:=Aa d;exact h
  clear d;go_wp2_with fail
  refine F.mono ?_;rintro e Q ⟨rfl,B⟩;have E:=Ab (u.trans B);clear F B;cases FO with
  |none=>
   simp only[BE];go_wp2;go_ret2;rw[Aa m];exact⟨rfl,E⟩
  |some p=>
   simp only[BE];go_wp2;go_ret2;rw[Aa m];exact⟨rfl,E⟩
structure Xn(b:Nat)(w w':l9):Prop where
 os:w'.os=w.os
 tape:w'.tape=w.tape
 output:w'.output=w.output
 size:w.heap.size<=w'.heap.size
 block:∀k,k<b->w'.heap[k]?=w.heap[k]?
def Xn.trans{b:Nat}{u v w:l9}(h:Xn b u v)(k:Xn b v w):Xn b u w:=⟨k.os.trans h.os,k.tape.trans h.tape,k.output.trans h.output,iQ h.size k.size,λi a=>(k.block i a).trans (h.block i a)⟩
def Xn.of{M:mc Nat}{b:Nat}{w w':l9}(k:Ac M w w')(d:b<=w.heap.size)(a:∀i,i∈M->b<=i):Xn b w w':=
 ⟨k.os,k.tape,k.output,k.size,λi c=>k.block i (by omega) (λh=>by have:=a i h;omega)⟩
def Xn.kept{b:Nat}{w w':l9}(h:Xn b w w')(c:w.heap.size<=b):Ac [] w w':=⟨h.os,h.tape,h.output,h.size,λk a _=>h.block k (by omega)⟩
def J5{b:Nat}{w w':l9}{base:Nat}{e:TypeId}{size:Nat}{v:lN}{n:Nat}{a:mc lN}(h:lQ w base e size v n a)(k:Xn b w w')(d:∀i,v.ownBlock=V i->i<b):lQ w' base e size v n a:=by
 refine⟨h.1,?_⟩;rcases h.2 with o|⟨g,f,c,rfl,l,j,m⟩
 .exact .inl o
 .refine .inr ⟨g,f,c,rfl,l,?_,m⟩;rw[k.block g (d g rfl)];exact j
structure cJ(w:l9)(b:Nat)(c:Db):Prop where
 at_:Js w 0 c.hv c.bv c.zE c.zD
 lt1:∀k,c.hv.ownBlock=V k->k<b
 lt2:∀k,c.bv.ownBlock=V k->k<b
 lt3:∀p∈c.zD,∀k,p.2.ownBlock=V k->k<b
def cJ.low{w w':l9}{b:Nat}{c:Db}(h:cJ w b c)(k:Xn b w w'):cJ w' b c:=
 ⟨⟨J5 h.at_.head k h.lt1,⟨J5 h.at_.body.row k h.lt2,λp a=>⟨J5 (h.at_.body.each p a).1 k (h.lt3 p a),(h.at_.body.each p a).2⟩⟩⟩,h.lt1,h.lt2,h.lt3⟩
structure EI(w:l9)(b:Nat)(n:Int)(nv tv:lN)(names zC:mc zA):Prop where
 zO:AH w b [X J n,nv,tv] 210
 rn:lQ w (b+1) 9 1 nv (Z names) (names.flatMap Ah)
 rt:lQ w (b+1) 170 1 tv (Z zC) (zC.flatMap Ah)
 ant:Cd nv tv
 rin:CE Fh names
 rit:CE Fh zC
def EI.kept{w w':l9}{b:Nat}{n:Int}{a tv:lN}{d c:mc zA}(h:EI w b n a tv d c)(k:Ac [] w w'):EI w' b n a tv d c:=
 ⟨h.zO.kept k (by simp),Ad h.rn k (by simp),Ad h.rt k (by simp),h.ant,h.rin,h.rit⟩
def Cd.symm{u v:lN}(h:Cd u v):Cd v u:=λk b a=>h k a b
theorem Q8(b:Nat)(n:Nat)(p tv:lN)(c a:mc zA)(w:l9)(h:EI w b n p tv c a):
  Calls prog 117 #[.pointer (V ⟨b,0,Y⟩)] w λe l=>e=lo (lT (decide (12<n)||decide (6<Z c)||decide (6<Z a)))/\l=w:=by
 obtain⟨t,x,rfl⟩:=Al h.rn;obtain⟨v,u,rfl⟩:=Al h.rt;have s:=h.zO.cell 0;have m:=h.zO.cell 1;have o:=h.zO.cell 2;simp at s m o;clear h;obtain⟨f,i⟩:∃f,(decide (12<n)||decide (6<Z c)||decide (6<Z a))=f:=⟨_,rfl⟩;rw[i];have g:=Ab i;clear i;by_cases k:12<n
 .have r:(12:Int)<(n:Int):=by omega
  have d:lO (f=j1):=by show _=_;rw[<-Aa g];simp[k]
  go_enter func117,ntmps117;go_wp2;go_ret;rw[Aa d];exact⟨by simp,rfl⟩
 .have r:¬(12:Int)<(n:Int):=by omega
  by_cases j:6<Z c
  ·(have q:(6:Int)<(Z c:Int):=by omega);(have d:lO (f=j1):=by show _=_;rw[<-Aa g];simp[j]);go_enter func117,ntmps117;go_wp2;go_ret;rw[Aa d];exact⟨by simp,rfl⟩
  ·(have q:¬(6:Int)<(Z c:Int):=by omega);have d:lO (f=decide ((6:Int)<(Z a:Int))):=by
    show _=_;rw[<-Aa g];have e:decide ((6:Int)<(Z a:Int))=decide (6<Z a):=by
     by_cases h:6<Z a
     ·(have:(6:Int)<(Z a:Int):=by omega);simp[h,this]
     ·(have:¬(6:Int)<(Z a:Int):=by omega);simp[h,this]
    rw[e];simp[k,j]
   go_enter func117,ntmps117;go_wp2;go_ret;rw[Aa d];exact⟨by simp,rfl⟩
def EI.setN{w:l9}{b:Nat}{n m:Int}{a tv:lN}{d f:mc zA}(h:EI w b n a tv d f):EI (w.setCell ⟨b,0,Y⟩ (X J m)) b m a tv d f:=by
 have c:∀{e:TypeId} {g:Nat} {v:lN} {k:Nat} {i:mc lN},lQ w (b+1) e g v k i->v.ownBlock≠V b:=λh e=>by have:=(h.lt b e).1;omega
 exact⟨h.zO.set 0 _,Ag h.rn (p:=⟨b,0,Y⟩) (c h.rn) _,Ag h.rt (p:=⟨b,0,Y⟩) (c h.rt) _,h.ant,h.rin,h.rit⟩
def RK{w:l9}{v b u:lN}{base:Nat}{e:TypeId}{c k:Nat}{g:mc lN}(i:lQ w base e c u k g)(f:Cd v u)(j:∀q,b.ownBlock=V q->v.ownBlock=V q\/w.heap.size<=q):Cd b u:=λq d a=>by
 rcases j q d with h|h
 .exact f q h a
 .have:=(i.lt q a).2;omega
def EI.names{w w':l9}{b:Nat}{n:Int}{a tv:lN}{t r:mc zA}(h:EI w b n a tv t r){d:lN}{c:mc zA}
  (l:Ac a.ownBlock.toList w w') (m:lQ w' (b+1) 9 1 d (Z c) (c.flatMap Ah)) (z:∀q,d.ownBlock=V q->a.ownBlock=V q\/w.heap.size<=q) (u:CE Fh c):
  EI (w'.setCell ⟨b,1,Y⟩ d) b n d tv c r/\lP w' ⟨b,1,Y⟩=V a/\w'.frozen? ⟨b,1,Y⟩=K:=by
 have g:∀{w:l9} {e:TypeId} {s:Nat} {v:lN} {k:Nat} {x:mc lN},lQ w (b+1) e s v k x->v.ownBlock≠V b:=λh e=>by have:=(h.lt b e).1;omega
 have j:AH w' b [X J n,a,tv] 210:=h.zO.kept l (λf=>g h.rn (by simpa using f));have o:=Ai h.rt l (λi y f=>h.ant i (by simpa using f) y);exact⟨⟨j.set 1 _,Ag m (p:=⟨b,1,Y⟩) (g m) _,Ag o (p:=⟨b,1,Y⟩) (g o) _,RK h.rt h.ant z,u,h.rit⟩,j.cell 1,j.frozen 1⟩
def EI.zC{w w':l9}{b:Nat}{n:Int}{d tv:lN}{o y:mc zA}(h:EI w b n d tv o y){a:lN}{c:mc zA}
  (l:Ac tv.ownBlock.toList w w') (m:lQ w' (b+1) 170 1 a (Z c) (c.flatMap Ah)) (u:∀q,a.ownBlock=V q->tv.ownBlock=V q\/w.heap.size<=q) (t:CE Fh c):
  EI (w'.setCell ⟨b,2,Y⟩ a) b n d a o c/\lP w' ⟨b,2,Y⟩=V tv/\w'.frozen? ⟨b,2,Y⟩=K:=by
 have g:∀{w:l9} {e:TypeId} {s:Nat} {v:lN} {k:Nat} {x:mc lN},lQ w (b+1) e s v k x->v.ownBlock≠V b:=λh e=>by have:=(h.lt b e).1;omega
 have j:AH w' b [X J n,d,tv] 210:=h.zO.kept l (λf=>g h.rt (by simpa using f));have r:=Ai h.rn l (λi z f=>h.ant i z (by simpa using f));exact⟨⟨j.set 2 _,Ag r (p:=⟨b,2,Y⟩) (g r) _,Ag m (p:=⟨b,2,Y⟩) (g m) _,(RK h.rn h.ant.symm u).symm,h.rin,t⟩,j.cell 2,j.frozen 2⟩
def EI.yE{w:l9}{b:Nat}{n:Int}{c tv:lN}{e d:mc zA}(h:EI w b n c tv e d):(∀i,i∈c.ownBlock.toList->b<=i)/\(∀i,i∈tv.ownBlock.toList->b<=i):=
 ⟨λi a=>by have:=(h.rn.lt i (by simpa using a)).1;omega,λi a=>by have:=(h.rt.lt i (by simpa using a)).1;omega⟩
def Xn.drew{b:Nat}{u w:l9}(h:Xn b u w):Xn b u w.drew:=⟨h.os,h.tape,h.output,h.size,h.block⟩
def EI.drew{w:l9}{b:Nat}{n:Int}{a tv:lN}{d c:mc zA}(h:EI w b n a tv d c):EI w.drew b n a tv d c:=h.kept (me [] w).drew
structure dJ(M:mc Nat)(b N:Nat)(cs:mc lN)(u w':l9)(i:Nat)(old new:lN)(n:Int)(nv tv:lN)(names zC:mc zA):Prop where
 cell:lP w' ⟨b,i,Y⟩=V old
 frozen:w'.frozen? ⟨b,i,Y⟩=K
 cen:EI (w'.setCell ⟨b,i,Y⟩ new) b n nv tv names zC
 low:Ac M u (w'.setCell ⟨b,i,Y⟩ new)
 box:AH (w'.setCell ⟨b,i,Y⟩ new) N cs 189
def EL(ts:mc AQ)(l l':mc zA):Prop:=∀y,y∈l'↔(∃t∈ts,t.v=0/\t.s=y)\/y∈l
structure II(base:Nat)(lv:lN)(l:mc zA)(ts:mc AQ)(w:l9)(l':mc zA)(ad':Option Addr)(cp':Nat)(w':l9):Prop where
 zL:CE Fh l'
 mem:EL ts l l'
 le:Z l'<=Z l+Z ts
 own:lQ w' base 170 1 (U ad' (Z l') cp') (Z l') (l'.flatMap Ah)
 kept:Ac lv.ownBlock.toList w w'
 new:∀k,(U ad' (Z l') cp').ownBlock=V k->lv.ownBlock=V k\/w.heap.size<=k
def EL.skip{l d:mc zA}{c:mc AQ}{k:Nat}(e:k<Z c)(f:c[k].v≠0)(h:EL (c.take k) l d):EL (c.take (k+1)) l d:=by
 intro y;rw[h y,gQ e];constructor
 .rintro (⟨t,a,b⟩|a)
  .exact lx ⟨t,kn _ a,b⟩
  .exact ly a
 .rintro (⟨t,a,b⟩|a)
  .rcases ic.1 a with a|a
   .exact lx ⟨t,a,b⟩
   .simp only[gN]at a;subst a;exact absurd b.1 f
  .exact ly a
def EL.take{l d e:mc zA}{b:mc AQ}{k:Nat}(f:k<Z b)(g:b[k].v=0)(h:EL (b.take k) l d)(q2:∀y,y∈e↔y=b[k].s\/y∈d):EL (b.take (k+1)) l e:=by
 intro y;rw[q2,h y,gQ f];constructor
 .rintro (a|⟨t,a,c⟩|a)
  .exact lx ⟨b[k],List.mem_append_right _ (gN.2 rfl),g,a.symm⟩
  .exact lx ⟨t,kn _ a,c⟩
  .exact ly a
 .rintro (⟨t,a,c⟩|a)
  .rcases ic.1 a with a|a
   .exact ly (lx ⟨t,a,c⟩)
   .simp only[gN]at a;subst a;exact lx c.2.symm
  .exact ly (ly a)
theorem QK(c:Db)(d:Option Addr)(cap:Nat)(l:mc zA)(base:Nat)(w:l9)(h:Js w 0 c.hv c.bv c.zE c.zD)(hf:OX c)(hT:Z (Br c)<=90000)
  (hl:lQ w base 170 1 (U d (Z l) cap) (Z l) (l.flatMap Ah)) (FP:Z l<=900000) (hr:CE Fh l) (Go:base<=w.heap.size):
  Calls prog 148 #[U d (Z l) cap,lR (j3 (Bc c))] w λe w'=>∃l' BS A2,e=lo (U BS (Z l') A2)/\II base (U d (Z l) cap) l (Br c) w l' BS A2 w':=by
 have z:=Ab (PR c (w.alloc (j2 (j3 (Bc c)) 189)) (h.kept ((me [] w).alloc _) (by simp)) hf);generalize Br c=TV at z hT⊢;obtain⟨hp,hn,HM,P,bv,HN⟩:=c;simp only at h;obtain⟨HF,HA,rfl⟩:=Al h.head;obtain⟨FT,HP,rfl⟩:=Al h.body.row;have HL:=Ab hl;have FC:=Ab hr;clear h hl hr hf;simp only[Bc]at z⊢;go_enter func148,ntmps148;go_wp2_with fail
 refine z.mono ?_;rintro e n ⟨DT,Ax,rfl,Q,N⟩;have F:lO (Ac [] w n):=((me [] w).alloc _).trans N;have HI:w.heap.size+1<=n.heap.size:=by have:=N.size;simpa using this
 have HO:=Ab (Am Q (show w.heap.size<=_ by simp));clear z Q N;go_wp2
 go_loopg [0,10] (Z TV) (λgk o i wr=>∃(k:Nat) (m:mc zA) (b:Option Addr) (f:Nat),o=U b (Z m) f/\i=X J k/\k<=Z TV/\gk=Z TV-k/\Z m<=Z l+k/\lO (II base (U d (Z l) cap) l (TV.take k) w m b f wr)/\lO (lQ wr w.heap.size 215 2 (U DT (Z TV) Ax) (Z TV) (TV.flatMap Aq))/\lO (∀q,(U b (Z m) f).ownBlock=V q->(U d (Z l) cap).ownBlock=V q\/n.heap.size<=q)/\n.heap.size<=wr.heap.size)
 case atStart=>exact⟨0,l,d,cap,rfl,rfl,by omega,rfl,by omega,⟨FC,λy=>by simp,by omega,Ad HL F (by simp),F.mono (by simp),λk R=>lx R⟩,HO,λq p=>lx p,by omega⟩
 case round=>
  clear F;obtain⟨k,m,b,f,rfl,rfl,R,AO,HJ,j,r,x,FO⟩:=hrel;have S:=Ab AO;clear AO;by_cases A:k<Z TV
  .obtain⟨g,HH,he,d0,d1⟩:=EZ r k A;simp only[gM]at he;obtain⟨rfl,_,rfl⟩:=he;have M:Ac [] wr (wr.alloc (j2 [X lS TV[k].v,O TV[k].s].toArray 215)):=(me [] wr).alloc _;have A1:=Ab (Ad r M (by simp));(have T:n.heap.size<=(wr.alloc (j2 [X lS TV[k].v,O TV[k].s].toArray 215)).heap.size:=by simp;omega);cases P:(TV[k].v==0)with
   |false=>
    (have t:TV[k].v≠0:=by simpa using P);have L:lO (II base (U d (Z l) cap) l (TV.take (k+1)) w m b f (wr.alloc (j2 [X lS TV[k].v,O TV[k].s].toArray 215))):=by
     have a:=Aa j;refine⟨a.zL,a.mem.skip A t,?_,gU a.own _,a.kept.alloc _,a.new⟩;have:=a.le;simp only[iH]at this⊢;omega
    clear j r M t;go_wp2
    go_roundg (Z TV-(k+1))
    case measure=>have:=Aa S;omega
    case rel=>exact⟨k+1,m,b,f,rfl,by go_num,by omega,rfl,by omega,L,A1,x,T⟩
   |true=>
    (have t:TV[k].v=0:=by simpa using P);have HZ:=Ab t;have CC:=Ab (Vs b f m TV[k].s base (wr.alloc (j2 [X lS TV[k].v,O TV[k].s].toArray 215)) (gU j.own _) (by omega) j.zL (by simp;omega));clear t M;(go_wp2_with fail);refine CC.mono ?_;rintro e u ⟨I,C,E,rfl,W,q2,q3,q4,q5,D,B⟩;have G:Ac (U b (Z m) f).ownBlock.toList wr u:=((me _ wr).alloc _).trans D;(have HB:wr.heap.size+1<=u.heap.size:=by have:=D.size;simpa using this);have L:lO (II base (U d (Z l) cap) l (TV.take (k+1)) w I C E u):=by
     have a:=Aa j;refine⟨W,a.mem.take A HZ q2,?_,q5,a.kept.trans' G (λi H=>?_),λq p=>?_⟩
     .have:=a.le;simp only[iH]at this⊢;omega
     .rcases a.new i (by simpa using H)with h|h
      .exact lx (by simp[h])
      .exact ly h
     .rcases B q p with h|h
      .exact a.new q h
      .exact ly (by have:=a.kept.size;simp at h;omega)
    have FB:lO (lQ u w.heap.size 215 2 (U (V ⟨g,0,Y⟩) (Z TV) Ax) (Z TV) (TV.flatMap Aq)):=by
     refine Ai r G (λi H hm=>?_);have h1:=(HO.lt i H);rcases x i (by simpa using hm)with h|h
     .have:=(HL.lt i h).2;omega
     .omega
    have EX:lO (∀q,(U C (Z I) E).ownBlock=V q->(U d (Z l) cap).ownBlock=V q\/n.heap.size<=q):=by
     intro q p;rcases B q p with h|h
     .exact x q h
     .exact ly (by simp at h;omega)
    clear CC W q2 q3 q5 D B G j r A1 T x d0 d1;go_wp2
    go_roundg (Z TV-(k+1))
    case measure=>have:=Aa S;omega
    case rel=>exact⟨k+1,I,C,E,rfl,by go_num,by omega,rfl,by omega,L,FB,EX,by omega⟩
  .have HE:lO (II base (U d (Z l) cap) l TV w m b f wr):=by
    have h:=Aa j;rw[gR (by omega)]at h;exact h
   go_wp2;go_ret;exact⟨m,b,f,rfl,HE⟩
theorem Za(b:Nat)(n:Nat)(nv tv:lN)(r q:mc zA)(c:Db)(w:l9)(h:EI w b n nv tv r q)(hc:cJ w b c)(hf:OX c)(hT:Z (Br c)<=90000)(hn:n<=1000)(H4:Z r<=800000)(IJ:Z q<=800000):
  Calls prog 116 #[.pointer (V ⟨b,0,Y⟩),lR (j3 (Bc c))] w λe g=>e=lo (.tuple #[])/\∃HT HW FT FC,EI g b ((n+1:Nat):Int) HT HW FT FC/\(∀y,y∈FT↔y∈BZ c\/y∈r)/\EL (Br c) q FC/\Z FT<=Z r+1001/\Z FC<=Z q+90000/\Ac (b::(nv.ownBlock.toList++tv.ownBlock.toList)) w g:=by
 have H7:=h.zO.lt;obtain⟨S,R,rfl⟩:=Al h.rn;obtain⟨I,G,rfl⟩:=Al h.rt;obtain⟨M,B9⟩:∃M,b::((U S (Z r) R).ownBlock.toList++(U I (Z q) G).ownBlock.toList)=M:=⟨_,rfl⟩;rw[B9];have T:lO (b∈M/\(∀i,i∈(U S (Z r) R).ownBlock.toList->i∈M)/\(∀i,i∈(U I (Z q) G).ownBlock.toList->i∈M)):=by
  rw[<-B9];exact⟨by simp,λi f=>by simp only[gP,ic];exact ly (lx f),λi f=>by simp only[gP,ic];exact ly (ly f)⟩
 have HL:lO (∀wr,Ac M w wr->Xn b w wr):=by
  intro wr W;refine Xn.of W (by omega) (λi f=>?_);rw[<-B9]at f;simp only[gP,ic]at f;rcases f with f|f|f
  .omega
  .exact h.yE.1 i f
  .exact h.yE.2 i f
 clear B9;have A1:lO (∀wr A C l,Xn b w wr->lQ wr (b+1) 170 1 (U A (Z l) C) (Z l) (l.flatMap Ah)->Z l<=900000->CE Fh l->b+1<=wr.heap.size->Calls prog 148 #[U A (Z l) C,lR (j3 (Bc c))] wr λe g=>∃a k j,e=lo (U k (Z a) j)/\II (b+1) (U A (Z l) C) l (Br c) wr a k j g):=λwr A C l W h1 h2 h3 h4=>QK c A C l (b+1) wr (hc.low W).at_ hf hT h1 h2 h3 h4
 have EY:lO (∀wr A C l,Xn b w wr->lQ wr (b+1) 9 1 (U A (Z l) C) (Z l) (l.flatMap Ah)->Z l<=900000->CE Fh l->b+1<=wr.heap.size->Calls prog 164 #[U A (Z l) C,lR (j3 (Bc c))] wr λe g=>∃a k j,e=lo (U k (Z a) j)/\MR (b+1) (U A (Z l) C) l (BZ c) wr a k j g):=λwr A C l W h1 h2 h3 h4=>L5 c A C l (b+1) wr (hc.low W).at_ hf.lits h1 h2 h3 h4
 have HH:lO (Z (BZ c)<=1001):=by
  show _<=_;have:=hf.lits;have h2:=jn (λp=>Ba p.1) c.zD;simp only[BZ,FW,gW,ie];omega
 generalize Br c=TV at A1 hT⊢;generalize BZ c=NV at EY HH⊢;obtain⟨D,v,B,hv,bv,t⟩:=c;have EK:=hc.at_;clear hc hf;simp only at EK;obtain⟨E,s,rfl⟩:=Al EK.head;obtain⟨z,x,rfl⟩:=Al EK.body.row;clear EK;simp only[Bc]at A1 EY⊢;have c0:=h.zO.cell 0;have cf:=h.zO.frozen;have d0:=λo=>(h.zO.alloc o).cell 0
 have df:=λo=>(h.zO.alloc o).frozen
 simp at c0 d0;have q1:¬b=w.heap.size:=by omega
 have q2:¬w.heap.size=b:=by omega
 have H0:=Ab h;clear h;go_enter func116,ntmps116;go_wp2_with fail
 obtain⟨N,AO⟩:∃N,w.heap.size=N:=⟨_,rfl⟩;have H6:b<N:=by omega
 have H:lO (AH ((w.setCell ⟨b,0,Y⟩ (X J ((n:Int)+1))).alloc (j2 [X J D,O v,U E (Z B) s,U z (Z t) x].toArray 189)) N [X J D,O v,U E (Z B) s,U z (Z t) x] 189):=by
  have hh:=mf (w.setCell ⟨b,0,Y⟩ (X J ((n:Int)+1))) [X J D,O v,U E (Z B) s,U z (Z t) x] 189;rw[show(w.setCell ⟨b,0,Y⟩ (X J ((n:Int)+1))).heap.size=N from by simp[AO]]at hh
  exact hh
 have F:=Ab ((H0.setN (m:=(n:Int)+1)).kept ((me [] _).alloc (j2 [X J D,O v,U E (Z B) s,U z (Z t) x].toArray 189)));have B2:lO (Ac M w ((w.setCell ⟨b,0,Y⟩ (X J ((n:Int)+1))).alloc (j2 [X J D,O v,U E (Z B) s,U z (Z t) x].toArray 189))):=((me M w).setCell (p:=⟨b,0,Y⟩) (lx T.1) _).alloc _;have HU:lO ((U S (Z r) R).ownBlock≠V N/\(U I (Z q) G).ownBlock≠V N):=⟨λe=>by have:=(H0.rn.lt _ e).2;omega,λe=>by have:=(H0.rt.lt _ e).2;omega⟩;have HZ:N+1<=((w.setCell ⟨b,0,Y⟩ (X J ((n:Int)+1))).alloc (j2 [X J D,O v,U E (Z B) s,U z (Z t) x].toArray 189)).heap.size:=by simp[AO]
 clear c0 cf d0 df q1 q2 H0;change Code.wp _ _ _ _ ((w.setCell ⟨b,0,Y⟩ (X J ((n:Int)+1))).alloc (j2 [X J D,O v,U E (Z B) s,U z (Z t) x].toArray 189));generalize(w.setCell ⟨b,0,Y⟩ (X J ((n:Int)+1))).alloc (j2 [X J D,O v,U E (Z B) s,U z (Z t) x].toArray 189)=w1 at H F B2 HZ⊢;rw[AO];have H9:=Ab AO;clear AO;have EU:lO (Calls prog 164 #[U S (Z r) R,lR #[X J D,O v,U E (Z B) s,U z (Z t) x]] w1.drew λe g=>∃a k j,e=lo (U k (Z a) j)/\dJ M b N [X J D,O v,U E (Z B) s,U z (Z t) x] w g 1 (U S (Z r) R) (U k (Z a) j) ((n:Int)+1) (U k (Z a) j) (U I (Z q) G) a q/\(∀y,y∈a↔y∈NV\/y∈r)/\Z a<=Z r+1001/\N+1<=g.heap.size):=by
  refine(EY w1.drew S R r (HL _ B2.drew) F.drew.rn (by omega) F.rin (by show b+1<=w1.heap.size;omega)).mono ?_;rintro e g ⟨a,k,j,rfl,d⟩;obtain⟨FL,FO,Ha⟩:=F.drew.names d.kept d.own d.new d.zL;have H3:=F.drew.yE.1;refine⟨a,k,j,rfl,⟨FO,Ha,FL,?_,?_⟩,d.mem,by have:=d.le;have:=Aa HH;omega,by have:=d.kept.size;have h2:w1.drew.heap.size=w1.heap.size:=rfl;omega⟩
  .exact(B2.drew.trans' d.kept (λi f=>lx (T.2.1 i f))).setCell (p:=⟨b,1,Y⟩) (lx T.1) _
  .exact(H.drew.kept d.kept (λhm=>HU.1 (by simpa using hm))).zB ⟨b,1,Y⟩ (by simp;omega) _
 have e1:=F.zO.cell 1;have b0:=H.cell 0;have b1:=H.cell 1;have b2:=H.cell 2;have b3:=H.cell 3;simp at e1 b0 b1 b2 b3;clear EY F B2 H
 go_region_law
  (go_simp;go_at_call 164;refine EU.mono ?_;rintro e wt ⟨a,k,j,rfl,BS,HI,HO,HP⟩;have HJ:=BS.cell;have HE:=BS.frozen;have FB:=Ab BS;clear BS)
 all_goals
  have B0:=Ab FB.cen;have CL:=Ab FB.low;have Q:=Ab FB.box;have HS:N+1<=(wt.setCell ⟨b,1,Y⟩ (U k (Z a) j)).heap.size:=by simp;omega
  have HQ:=Ab HI;clear FB HJ HE EU HI e1 b0 b1 b2 b3 HP;generalize wt.setCell ⟨b,1,Y⟩ (U k (Z a) j)=w2 at B0 CL Q HS⊢;have b0:=Q.cell 0;have b1:=Q.cell 1;have b2:=Q.cell 2;have b3:=Q.cell 3;simp at b0 b1 b2 b3;have e2:=B0.zO.cell 2;simp at e2;have HK:lO (Calls prog 148 #[U I (Z q) G,lR #[X J D,O v,U E (Z B) s,U z (Z t) x]] w2.drew λe g=>∃u P L,e=lo (U P (Z u) L)/\lP g ⟨b,2,Y⟩=V (U I (Z q) G)/\g.frozen? ⟨b,2,Y⟩=K/\EI (g.setCell ⟨b,2,Y⟩ (U P (Z u) L)) b ((n:Int)+1) (U k (Z a) j) (U P (Z u) L) a u/\EL TV q u/\Z u<=Z q+90000/\Ac M w (g.setCell ⟨b,2,Y⟩ (U P (Z u) L))):=by
   have FP:=B0.drew;refine(A1 w2.drew I G q (HL _ CL.drew) FP.rt (by omega) FP.rit (by show b+1<=w2.heap.size;omega)).mono ?_;rintro e g ⟨u,P,L,rfl,d⟩;obtain⟨FL,FO,Ha⟩:=FP.zC d.kept d.own d.new d.zL;refine⟨u,P,L,rfl,FO,Ha,FL,d.mem,by have:=d.le;omega,?_⟩;exact(CL.drew.trans' d.kept (λi f=>lx (T.2.2 i f))).setCell (p:=⟨b,2,Y⟩) (lx T.1) _
  clear A1 B0 CL Q;go_wp2_with fail
  go_region_law
   (go_simp;go_at_call 148;refine HK.mono ?_;rintro e Ix ⟨u,P,L,rfl,HJ,HE,r1,r2,r3,r4⟩;have HR:=Ab (And.intro r1 (And.intro r2 (And.intro r3 r4)));clear r1 r2 r3 r4)
  all_goals
   clear HK;(go_wp2_with fail);go_end0;obtain⟨r1,r2,r3,r4⟩:=HR;exact⟨rfl,_,_,a,u,r1,HQ,r2,HO,r3,r4⟩
def dP(cs:mc Db)(S:zA->Prop):Prop:=∀c∈cs,S c.hn->∀y∈BZ c,S y
def Ij(cs:mc Db)(x y:zA):Prop:=∀S:zA->Prop,S x->dP cs S->S y
structure Xr(cs:mc Db)(x:zA)(l:mc zA):Prop where
 zL:CE Fh l
 iff:∀y,y∈l↔Ij cs x y
def Mj{α:Type} [DecidableEq α]:∀(l b:mc α),l.Nodup->(∀y∈l,y∈b)->Z l<=Z b
 |[],_,_,_=>ik _
 |a::t,b,hn,hs=>by
  rw[jG]at hn;have c:a∈b:=hs a (by simp);have ih:=Mj t (b.erase a) hn.2 (λy d=>(List.mem_erase_of_ne (λe=>hn.1 (by rw[<-e];exact d))).2 (hs y (by simp[d])));have g:=List.length_erase_of_mem c;have f:0<Z b:=List.length_pos_of_mem c;simp only[gW];omega
def UJ{l a:mc zA}(d:CE Fh l)(e:∀y∈l,y∈a)(f:Z a=Z l):∀y∈a,y∈l:=by
 intro y c;by_cases h:y∈l
 .exact h
 .have:=Mj (y::l) a (jG.2 ⟨h,d.nodup FE⟩) (λz b=>by
   rcases gP.1 b with rfl|b
   .exact c
   .exact e z b)
  simp only[gW]at this;omega
theorem Uz(HA:Option Addr)(FF:Nat)(cs:mc Db)(x:zA)(w:l9)(h:C9 w (U HA (Z cs) FF) cs)(Jx:Z cs<=1000)(hf:∀c∈cs,Z c.zD<=1000)(hU:Z (cs.flatMap BZ)<=800000):
  Calls prog 122 #[U HA (Z cs) FF,O x] w λe w'=>∃l u v,e=lo (U u (Z l) v)/\Xr cs x l/\Z l<=800001/\lQ w' w.heap.size 9 1 (U u (Z l) v) (Z l) (l.flatMap Ah)/\Ac [] w w':=by
 have HP:=Ab h;have H9:=Ab hf;clear h hf;have Go:lO (∀l:mc zA,CE Fh l->(∀y∈l,Ij cs x y)->Z l<=1+Z (cs.flatMap BZ)):=by
  intro l hr hs;have:=Mj l (x::cs.flatMap BZ) (hr.nodup FE) (λy b=>by
   refine hs y b (λz=>z∈x::cs.flatMap BZ) (by simp) (λc a _ z hz=>?_)
   exact iB _ (iI.2 ⟨c,a,hz⟩))
  simp only[gW]at this;omega
 obtain⟨t,FL⟩:∃t,Z (cs.flatMap BZ)=t:=⟨_,rfl⟩;rw[FL]at hU Go;clear FL;have FA:lQ (w.alloc (j2 [O x].toArray 9)) w.heap.size 9 1 (U (V ⟨w.heap.size,0,Y⟩) 1 1) 1 ([x].flatMap Ah):=⟨rfl,ly ⟨w.heap.size,1,_,rfl,ig _,mf w [O x] 9,ig _,by unfold maxLen;omega,rfl,rfl⟩⟩;have CL:=(me [] w).alloc (j2 [O x].toArray 9);have Ax:=Ab FA;have Bx:=Ab CL;clear FA CL;go_enter func122,ntmps122;go_wp2;change Code.wp _ _ _ _ (w.alloc (j2 [O x].toArray 9));generalize w.alloc (j2 [O x].toArray 9)=w1 at Ax Bx⊢
 go_loopg [5] (t+2-1) (λgk o wr=>∃(l:mc zA) (u:Option Addr) (v:Nat),o=U u (Z l) v/\gk=t+2-Z l/\Z l<=t+1/\lO (CE Fh l)/\lO (x∈l)/\lO (∀y∈l,Ij cs x y)/\lO (lQ wr w.heap.size 9 1 (U u (Z l) v) (Z l) (l.flatMap Ah))/\lO (Ac [] w wr))
 case atStart=>exact⟨[x],_,_,rfl,rfl,by simp,λi j hi hj K1=>by simp at hi hj;omega,by simp[lO],λy b S N h2=>by simp at b;subst b;exact N,Ax,Bx⟩
 case round=>
  clear Ax Bx;obtain⟨l,u,v,rfl,FT,HF,H0,HX,H1,HC,HK⟩:=hrel;have HG:=Ab FT;clear FT;go_wp2
  go_loopg [5,15] (Z cs) (λH7 o i B0=>∃(k:Nat) (m:mc zA) (s:Option Addr) (r:Nat),o=U s (Z m) r/\i=X J k/\k<=Z cs/\H7=Z cs-k/\Z l<=Z m/\Z m<=t+1/\lO (CE Fh m)/\lO (∀y∈l,y∈m)/\lO (∀y∈m,Ij cs x y)/\lO (Z m=Z l->∀c∈cs.take k,c.hn∈m->∀y∈BZ c,y∈m)/\lO (lQ B0 w.heap.size 9 1 (U s (Z m) r) (Z m) (m.flatMap Ah))/\lO (Ac [] w B0))
  case atStart=>exact⟨0,l,u,v,rfl,rfl,by omega,rfl,by omega,HF,H0,λy b=>b,H1,λ_ c a=>by simp at a,HC,HK⟩
  case round=>
   obtain⟨k,m,s,r,rfl,rfl,hk,DT,HN,EX,B,L,D,P,T,M⟩:=hrel;have EY:=Ab DT;clear DT;by_cases I:k<Z cs
   .have A0:=HP.kept M;obtain⟨g,K8,G,d,p,H,C,F,E,n,he,R,d0,d1,d2,d3⟩:=Fq A0 k I;simp only[gM]at he;obtain⟨rfl,_,rfl⟩:=he;have K4:=M.size;have B9:=Ab (A0.each _ (gL I));have BA:=Aa H9 _ (gL I);have B2:lO (∀c,c∈cs.take (k+1)↔c∈cs.take k\/c=⟨G,d,p,U H (Z p) C,U F (Z n) E,n⟩):=by
     intro c;rw[gQ I,R,ic,gN]
    (have H6:lO ((⟨G,d,p,U H (Z p) C,U F (Z n) E,n⟩:Db)∈cs):=by rw[<-R];exact gL I);rw[R]at B9 BA;simp only at BA;clear A0 R;have A1:=Ab (M.alloc (j2 [X J G,O d,U H (Z p) C,U F (Z n) E].toArray 189));have Q:=Ab (gU T (j2 [X J G,O d,U H (Z p) C,U F (Z n) E].toArray 189));have Ha:=Ab (Sh s r m d w.heap.size _ Q (by omega) B);(go_wp2_with fail);refine Ha.mono ?_;rintro e w4 ⟨rfl,HD⟩;subst HD;clear Ha;cases hh:Yk m d with
    |false=>
     have BS:lO (Z m=Z l->∀c∈cs.take (k+1),c.hn∈m->∀y∈BZ c,y∈m):=by
      intro hl c a A;rcases(B2 c).1 a with a|a
      .exact P hl c a A
      .subst a;simp only at A;rw[(Ki m d).2 A]at hh;cases hh
     clear hh P;go_wp2
     go_roundg (Z cs-(k+1))
     case measure=>have:=Aa EY;omega
     case rel=>exact⟨k+1,m,s,r,rfl,by go_num,by omega,rfl,HN,EX,B,L,D,BS,Q,A1⟩
    |true=>
     have EM:lO (d∈m):=(Ki m d).1 hh;have BT:=Ab (L5 ⟨G,d,p,U H (Z p) C,U F (Z n) E,n⟩ s r m w.heap.size (wr.alloc (j2 [X J G,O d,U H (Z p) C,U F (Z n) E].toArray 189)) ((Aa B9).kept ((me [] wr).alloc _) (by simp)) BA (Aa Q) (by omega) (Aa B) (by simp;omega));simp only[Bc]at BT;clear hh;(go_wp2_with fail);refine BT.mono ?_;rintro e w5 ⟨q,H2,HW,rfl,f⟩;have CC:Ac [] w w5:=A1.trans' f.kept (λi hi=>ly ((Q.lt i (by simpa using hi)).1));have AT:∀y∈q,Ij cs x y:=by
      intro y b;rcases(f.mem y).1 b with N|N
      .intro S hS hC;exact hC _ H6 (D _ EM S hS hC) y N
      .exact D y N
     (have W:∀y∈m,y∈q:=λy b=>(f.mem y).2 (ly b));have BS:lO (Z q=Z l->∀c∈cs.take (k+1),c.hn∈q->∀y∈BZ c,y∈q):=by
      intro hl c a A y b;have K7:=f.ge;have HY:=UJ B W (by omega);rcases(B2 c).1 a with a|a
      .exact W y (P (by omega) c a (HY _ A) y b)
      .subst a;exact(f.mem y).2 (lx b)
     (have HH:Z l<=Z q:=by have:=f.ge;omega);have KK:=Aa Go q f.zL AT;have HO:=Ab AT;(have HL:lO (∀y∈l,y∈q):=λy b=>W y (L y b));have H4:=Ab f.zL;have HJ:=Ab f.own;have HZ:=Ab CC;clear BT f CC AT W P D L B T Q A1 EM;go_wp2
     go_roundg (Z cs-(k+1))
     case measure=>have:=Aa EY;omega
     case rel=>exact⟨k+1,q,H2,HW,rfl,by go_num,by omega,rfl,HH,by omega,H4,HL,HO,BS,HJ,HZ⟩
   .by_cases HQ:Z m=Z l
    .have HE:lO (Xr cs x m):=by
      refine⟨B,λy=>⟨D y,λb=>?_⟩⟩;refine b (λz=>z∈m) (L x HX) (λc a A z hz=>?_);have h:=Aa P HQ;rw[gR (by omega)]at h;exact h c a A z hz
     (have HV:(Z m:Int)=(Z l:Int):=by omega);go_wp2;go_ret;exact⟨m,s,r,rfl,HE,by omega,T,M⟩
    ·(have HV:¬(Z m:Int)=(Z l:Int):=by omega);have H3:lO (x∈m):=L x HX;go_wp2
     go_roundg (t+2-Z m)
     case measure=>have:=Aa HG;omega
     case rel=>exact⟨m,s,r,rfl,rfl,EX,B,H3,D,T,M⟩
def Ly(f:zA->zA->Bool)(hn:zA)(p:Ks):Bool:=p.1.sort==1&&f p.1.an hn
def Kr(f:zA->zA->Bool)(c:Db):Option Int:=(c.zD.find? (Ly f c.hn)).map λp=>p.1.place
def Oj(f:zA->zA->Bool)(cs:mc Db):Option Int:=cs.findSome? (Kr f)
def QP{α β:Type}(f:α->Option β)(l:mc α)(k:Nat)(a:k<Z l)(h:∀c∈l.take k,f c=Y){b:β}(d:f l[k]=V b):l.findSome? f=V b:=by
 conv=>lhs;rw[<-iZ k l]
 rw[lC];have:(l.take k).findSome? f=Y:=by rw[kX];exact h
 rw[this,ij a,kP,d];rfl
theorem S5(f:zA->zA->Bool)(HO:Option Addr)(HB:Nat)(cs:mc Db)(FB:∀x y,f x y=j1↔Ij cs x y)(w:l9)(h:C9 w (U HO (Z cs) HB) cs)(HU:Z cs<=1000)(hf:∀c∈cs,Z c.zD<=1000)(hU:Z (cs.flatMap BZ)<=800000):
  Calls prog 73 #[U HO (Z cs) HB] w λe d=>e=lo (BE (Oj f cs))/\Ac [] w d:=by
 have HP:=Ab h;have HN:=Ab hf;have FT:=Ab FB;clear h hf FB;obtain⟨R,hR⟩:∃R,Oj f cs=R:=⟨_,rfl⟩;rw[hR];have HM:=Ab hR;clear hR;go_enter func73,ntmps73;go_wp2
 go_loopg [10] (Z cs) (λgk i wr=>∃(k:Nat),i=X J k/\k<=Z cs/\gk=Z cs-k/\lO (∀c∈cs.take k,Kr f c=Y)/\lO (Ac [] w wr))
 case atStart=>exact⟨0,rfl,by omega,rfl,λc t=>by simp at t,me _ _⟩
 case round=>
  obtain⟨k,rfl,hk,HI,HC,D⟩:=hrel;have HG:=Ab HI;clear HI;by_cases L:k<Z cs
  .have Bx:=HP.kept D;obtain⟨g,LM,A,a,n,B,o,z,u,b,he,S,d0,d1,d2,d3⟩:=Fq Bx k L;simp only[gM]at he;obtain⟨rfl,_,rfl⟩:=he;have Ax:=Ab (Bx.each _ (gL L)).body;have Ha:=Aa HN _ (gL L);have JJ:lO (∀p,Kr f ⟨A,a,n,U B (Z n) o,U z (Z b) u,b⟩=V p->R=V p):=by
    intro p HS;rw[<-Aa HM];exact QP _ _ k L HC (by rw[S];exact HS)
   have H4:lO (Kr f ⟨A,a,n,U B (Z n) o,U z (Z b) u,b⟩=Y->∀c∈cs.take (k+1),Kr f c=Y):=by
    intro HX c t;rw[gQ L,S,ic,gN]at t;rcases t with t|t
    .exact HC c t
    .rw[t];exact HX
   rw[S]at Ax Ha;simp only at Ha Ax;clear Bx S;have A1:=Ab (D.alloc (j2 [X J A,O a,U B (Z n) o,U z (Z b) u].toArray 189));have HL:=Ab ((me [] wr).alloc (j2 [X J A,O a,U B (Z n) o,U z (Z b) u].toArray 189));have W:=Ab (mf wr [X J A,O a,U B (Z n) o,U z (Z b) u] 189);go_wp2;change Code.wp _ _ _ _ (wr.alloc (j2 [X J A,O a,U B (Z n) o,U z (Z b) u].toArray 189));have Go:=Ab (Ax.kept HL (by simp));generalize wr.alloc (j2 [X J A,O a,U B (Z n) o,U z (Z b) u].toArray 189)=w1 at A1 W Go⊢;generalize wr.heap.size=N at W⊢;clear HL Ax D d0 d1 d2 d3
   go_loopg [17] (Z b) (λgk i wr=>∃(j:Nat),i=X J j/\j<=Z b/\gk=Z b-j/\lO ((b.take j).any (Ly f a)=K)/\lO (Ac [] w wr)/\lO (Ac [] w1 wr))
   case atStart=>exact⟨0,rfl,by omega,rfl,by show _=_;simp,A1,me _ _⟩
   case round=>
    clear A1;obtain⟨j,rfl,hj,EY,HJ,D,FC⟩:=hrel;have FP:=Ab EY;clear EY;by_cases BT:j<Z b
    .obtain⟨g2,LS,q,C,G,FO,Q,KS,e0,e1,e2,e3,e4,e5,e6,e7,e8⟩:=Iz (Go.kept FC (by simp)) j BT;simp only[gM]at FO;obtain⟨rfl,_,rfl⟩:=FO;have HY:lO (Ly f a (q,U C (Z q.ts) G)=j1->R=V q.place):=by
      intro m;refine JJ _ ?_;unfold Kr;simp only;rw[FY _ _ j BT (Aa HJ) (by rw[Q];exact m),Q];rfl
     have A0:lO (Ly f a (q,U C (Z q.ts) G)=K->(b.take (j+1)).any (Ly f a)=K):=by
      intro m;rw[CT _ _ j BT (Aa HJ),Q];exact m
     clear Q KS;have H:=Ab (D.alloc (j2 (j3 (Aw (q,U C (Z q.ts) G))) 217));have E:=Ab (FC.alloc (j2 (j3 (Aw (q,U C (Z q.ts) G))) 217));have F:=Ab (mf wr (Aw (q,U C (Z q.ts) G)) 217);simp only[Aw]at H E F;cases hs:(q.sort==1)with
     |false=>
      (have HW:(q.sort !=1)=j1:=by simp[bne,hs]);have A2:=Ab (A0 (by unfold Ly;simp only;rw[hs];rfl));clear HY A0 hs;go_wp2
      go_roundg (Z b-(j+1))
      case measure=>have:=Aa FP;omega
      case rel=>exact⟨j+1,by go_num,by omega,rfl,A2,H,E⟩
     |true=>
      (have HW:(q.sort !=1)=K:=by simp[bne,hs]);(have BS:lO (f q.an a=j1->R=V q.place):=λm=>HY (by unfold Ly;simp only;rw[hs,m];rfl));(have CC:lO (f q.an a=K->(b.take (j+1)).any (Ly f a)=K):=λm=>A0 (by unfold Ly;simp only;rw[hs,m];rfl));clear HY A0 hs;(go_wp2_with fail);change Code.wp _ _ _ _ (wr.alloc (j2 [X J q.place,X J q.sort,X J q.ap,O q.an,U C (Z q.ts) G,X lS q.l.v,O q.l.s,X lS q.r.v,O q.r.s].toArray 217));generalize wr.alloc (j2 [X J q.place,X J q.sort,X J q.ap,O q.an,U C (Z q.ts) G,X lS q.l.v,O q.l.s,X lS q.r.v,O q.r.s].toArray 217)=w3 at H E F⊢;generalize wr.heap.size=T at F⊢;have t3:=F.cell 3;have n1:=(W.kept E (by simp)).cell 1;simp at t3 n1;have H1:=Ab (Uz _ _ cs q.an w3.drew (HP.kept H.drew) HU HN hU);have KK:lO (∀d,Ac [] w3.drew d->lP d ⟨T,3,Y⟩=V (O q.an)/\lP d ⟨N,1,Y⟩=V (O a)/\lP d ⟨T,0,Y⟩=V (X J q.place)/\Ac [] w d/\Ac [] w1 d):=by
       intro d I;exact⟨(F.drew.kept I (by simp)).cell 3,((W.kept E (by simp)).drew.kept I (by simp)).cell 1,(F.drew.kept I (by simp)).cell 0,H.drew.trans I,E.drew.trans I⟩
      have Jx:lO (∀(l:mc zA) ad cp B2 d,Xr cs q.an l->Z l<=800001->lQ d B2 9 1 (U ad (Z l) cp) (Z l) (l.flatMap Ah)->Calls prog 121 #[U ad (Z l) cp,O a] d λe w9=>e=lo (lT (f q.an a))/\w9=d):=by
       intro l ad cp B2 d P h1 h2;(have H9:Yk l a=f q.an a:=by rw[jl,Ki,P.iff,Aa FT]);have m:=Sh ad cp l a B2 d h2 (by omega) P.zL;rw[H9]at m;exact m
      clear H E F HP FT
      go_region_held3 (λd=>lP d ⟨T,3,Y⟩=V (O q.an)/\lP d ⟨N,1,Y⟩=V (O a)) (go_keep) ((first|(go_at_call 122;refine H1.mono ?_;rintro e w4 ⟨l,Ix,H3,rfl,P,HH,HD,k4⟩;have M:=Aa KK w4 k4;have f3:=M.1;have f1:=M.2.1;have f0:=M.2.2.1;have BA:=Ab M;have H0:=Ab (Jx l Ix H3 _ w4 P HH HD);clear P HH HD k4 M)|(go_at_call 121;refine H0.mono ?_;rintro e w9 ⟨rfl,HR⟩;subst HR)))
      rename_i IS;clear IS;cases m:f q.an a with
      |true=>
       have HT:=Ab (BS m);clear BS CC m;go_wp2;go_ret2;rw[Aa HT];exact⟨rfl,BA.2.2.2.1⟩
      |false=>
       have HT:=Ab (CC m);clear BS CC m;go_wp2
       go_roundg (Z b-(j+1))
       case measure=>have:=Aa FP;omega
       case rel=>exact⟨j+1,by go_num,by omega,rfl,HT,BA.2.2.2.1,BA.2.2.2.2⟩
    .have HE:lO (Kr f ⟨A,a,n,U B (Z n) o,U z (Z b) u,b⟩=Y):=by
      have h:=Aa HJ;rw[gR (by omega)]at h;show _=_;unfold Kr;simp only;have:b.find? (Ly f a)=Y:=by
       rw[jK];intro y hy m;rw[ju]at h;exact h y hy m
      rw[this];rfl
     have A2:=Ab (H4 HE);go_wp2
     go_roundg (Z cs-(k+1))
     case measure=>have:=Aa HG;omega
     case rel=>exact⟨k+1,by go_num,by omega,rfl,A2,D⟩
  .have HE:lO (R=Y):=by
    have h:=Aa HC;rw[gR (by omega)]at h;show _=_;rw[<-Aa HM];unfold Oj;rw[kX];exact h
   go_wp2;go_ret2;rw[HE.out];exact⟨rfl,D⟩
def TG(cs:mc A6)(x y:zA)(b:Nat):Prop:=∃c∈cs,c.head.name=x/\∃l∈Ak c,l.A.name=y/\(((l.kind==97)=j1/\b=0)\/((l.kind==33)=j1/\b=1))
def GE(cs:mc A6)(x y:zA):Prop:=∀S:zA->Prop,S x->(∀u v b,TG cs u v b->S u->S v)->S y
def GE.refl(cs:mc A6)(x:zA):GE cs x x:=λS h _=>h
def GE.trans{cs:mc A6}{x y z:zA}(h:GE cs x y)(k:GE cs y z):GE cs x z:=λS b a=>k S (h S b a) a
def GE.edge{cs:mc A6}{x y:zA}{b:Nat}(h:TG cs x y b):GE cs x y:=λS c a=>a x y b h c
def Z3(cs:mc A6):Prop:=∀x y,TG cs x y 1->¬GE cs y x
def Tu(f:zA->Nat):∀(a:mc Bj) (n:Nat),n<=WO f n a/\∀p∈a,PD f p<=WO f n a
 |[],n=>⟨ig _,λp b=>by simp at b⟩
 |q::a,n=>by
  have ih:=Tu f a (max n (PD f q));have e:WO f n (q::a)=WO f (max n (PD f q)) a:=rfl;rw[e];refine⟨by have:=ih.1;omega,λp b=>?_⟩;rcases gP.1 b with rfl|b
  .have:=ih.1;omega
  .exact ih.2 p b
def X4(f:zA->Nat):∀(a:mc Bj) (n:Nat),WO f n a=n\/∃p∈a,WO f n a=PD f p
 |[],n=>lx rfl
 |q::a,n=>by
  have e:WO f n (q::a)=WO f (max n (PD f q)) a:=rfl;rw[e];rcases X4 f a (max n (PD f q))with h|⟨p,hp,h⟩
  .by_cases b:n<=PD f q
   .exact ly ⟨q,by simp,by rw[h];omega⟩
   .exact lx (by rw[h];omega)
  .exact ly ⟨p,by simp[hp],h⟩
def XF(f:zA->Nat)(x:zA):∀(a:mc A6) (n:Nat),n<=a.foldl (RA f x) n/\∀c∈a,c.head.name=x->∀p∈c.bl,PD f p<=a.foldl (RA f x) n
 |[],n=>⟨ig _,λc h=>by simp at h⟩
 |c::a,n=>by
  rw[iA];have ih:=XF f x a (RA f x n c);have j:n<=RA f x n c:=by
   unfold RA;split
   .exact(Tu f c.bl n).1
   .exact ig _
  refine⟨by have:=ih.1;omega,λd b g p e=>?_⟩;rcases gP.1 b with rfl|b
  .have i:PD f p<=RA f x n d:=by
    unfold RA;rw[gY ((Ej _ _).2 g)];exact(Tu f d.bl n).2 p e
   have:=ih.1;omega
  .exact ih.2 d b g p e
def XC(f:zA->Nat)(x:zA):∀(a:mc A6) (n:Nat),a.foldl (RA f x) n=n\/∃c∈a,c.head.name=x/\∃p∈c.bl,a.foldl (RA f x) n=PD f p
 |[],n=>lx rfl
 |c::a,n=>by
  rw[iA];rcases XC f x a (RA f x n c)with h|⟨d,hd,hx,p,b,h⟩
  .rw[h];unfold RA;by_cases e:(c.head.name.toList==x.toList)=j1
   .rw[gY e];rcases X4 f c.bl n with g|⟨p,b,g⟩
    .exact lx g
    .exact ly ⟨c,by simp,(Ej _ _).1 e,p,b,g⟩
   .rw[gV e];exact lx rfl
  .exact ly ⟨d,by simp[hd],hx,p,b,h⟩
def KJ{cs:mc A6}{x y:zA}{b:Nat}(h:TG cs x y b)(d:Nat):DH cs d y+b<=DH cs (d+1) x:=by
 obtain⟨c,k,m,l,i,e,j⟩:=h;obtain⟨p,f,rfl⟩:=gX.1 i;rw[DH];have o:=(XF (DH cs d) x cs 0).2 c k m p f;have n:PD (DH cs d) p=DH cs d y+b:=by
  unfold PD;rcases j with⟨a,rfl⟩|⟨a,rfl⟩
  .rw[gY a,e];rfl
  .have g:(p.1.kind==97)=K:=by
    (have:p.1.kind=33:=by simpa using a);rw[this];rfl
   rw[gV (by rw[g];simp),gY a,e]
 omega
def P8(cs:mc A6)(d:Nat)(x:zA)(h:0<DH cs (d+1) x):∃y b,TG cs x y b/\DH cs (d+1) x=DH cs d y+b:=by
 rw[DH]at h⊢;rcases XC (DH cs d) x cs 0 with a|⟨c,i,j,p,g,a⟩
 .omega
 .unfold PD at a;by_cases e:(p.1.kind==97)=j1
  .rw[gY e]at a;exact⟨p.1.A.name,0,⟨c,i,j,p.1,it g,rfl,lx ⟨e,rfl⟩⟩,a⟩
  .rw[gV e]at a;by_cases f:(p.1.kind==33)=j1
   .rw[gY f]at a;exact⟨p.1.A.name,1,⟨c,i,j,p.1,it g,rfl,ly ⟨f,rfl⟩⟩,a⟩
   .rw[gV f]at a;omega
def MU(cs:mc A6):∀(d:Nat) (x:zA),DH cs d x<=DH cs (d+1) x
 |0,x=>by rw[show DH cs 0 x=0 from rfl];omega
 |d+1,x=>by
  by_cases h:0<DH cs (d+1) x
  .obtain⟨y,b,a,e⟩:=P8 cs d x h;have c:=MU cs d y;have f:=KJ a (d+1);omega
  .omega
def Wj(cs:mc A6)(x:zA){d e:Nat}(h:d<=e):DH cs d x<=DH cs e x:=by
 induction h with
 |refl=>exact ig _
 |step _ ih=>exact iQ ih (MU cs _ x)
structure gu(cs:mc A6)(d:Nat)(x v:zA):Prop where
 zh:∃D B:Nat,d<D/\DH cs D v<DH cs (D+1) v/\DH cs (D+1) v=B+DH cs (d+1) x/\GE cs v x/\(0<B->∃u t,TG cs u t 1/\GE cs v u/\GE cs t x)
def XW{cs:mc A6}(g:Z3 cs){d:Nat}{x:zA}(h:gu cs d x x):False:=by
 obtain⟨D,B,k,i,j,_,e⟩:=h.zh;by_cases f:0<B
 .obtain⟨u,t,a,c,b⟩:=e f;exact g u t a (b.trans c)
 .have:=Wj cs x (show d+1<=D by omega);omega
def bi{cs:mc A6}(A:Z3 cs)(g:mc zA)(C:∀c∈cs,c.head.name∈g)(W:Z g<=6):∀(d:Nat) (x:zA) (a:mc zA),6<=Z a+d->a.Nodup->(∀v∈a,v∈g)->(∀v∈a,gu cs d x v)->DH cs d x<DH cs (d+1) x->False:=by
 intro d
 induction d with
 |zero=>
  intro x a H o p i s;obtain⟨y,b,e,_⟩:=P8 cs 0 x (by omega);obtain⟨c,r,n,_⟩:=e;have m:x∈g:=by rw[<-n];exact C c r
  have j:x∉a:=λh=>XW A (i x h)
  have:=Mj (x::a) g (jG.2 ⟨j,o⟩) (λz f=>by
   rcases gP.1 f with rfl|f
   .exact m
   .exact p z f)
  simp only[gW]at this;omega
 |succ d ih=>
  intro x a H o p i s;obtain⟨y,b,e,T⟩:=P8 cs (d+1) x (by omega);have m:x∈g:=by
   obtain⟨c,r,n,_⟩:=e;rw[<-n];exact C c r
  have j:x∉a:=λh=>XW A (i x h)
  have R:=KJ e d;have P:b<=1:=by
   obtain⟨c,_,_,l,_,_,h|h⟩:=e<;>omega
  refine ih y (x::a) (by simp only[gW];omega) (jG.2 ⟨j,o⟩) (λz f=>?_) (λv k=>?_) (by omega)
  .rcases gP.1 f with rfl|f
   .exact m
   .exact p z f
  .rcases gP.1 k with rfl|k
   .refine⟨d+1,b,by omega,s,by omega,GE.edge e,λG=>?_⟩;(have q:b=1:=by omega);subst q;exact⟨v,y,e,GE.refl cs v,GE.refl cs y⟩
   .obtain⟨D,B,Q,M,S,w,N⟩:=(i v k).zh;refine⟨D,B+b,by omega,M,by omega,w.trans (GE.edge e),λG=>?_⟩;by_cases I:0<B
    .obtain⟨u,t,F,E,L⟩:=N I;exact⟨u,t,F,E,L.trans (GE.edge e)⟩
    ·(have q:b=1:=by omega);subst q;exact⟨x,y,e,w,GE.refl cs y⟩
def dj{cs:mc A6}(k:Z3 cs)(a:mc zA)(j:∀c∈cs,c.head.name∈a)(l:Z a<=6):Cn cs (DH cs 6):=by
 have i:∀x,DH cs 7 x=DH cs 6 x:=by
  intro x;have m:DH cs 6 x<=DH cs 7 x:=MU cs 6 x;by_cases h:DH cs 6 x<DH cs 7 x
  .exact(bi k a j l 6 x [] (by simp) jT (λv e=>by simp at e) (λv e=>by simp at e) h).elim
  .omega
 refine⟨λc f x g d=>?_,λc f x g d=>?_⟩
 .have h:=KJ (cs:=cs) (x:=c.head.name) (y:=x.A.name) (b:=0) ⟨c,f,rfl,x,g,rfl,lx ⟨d,rfl⟩⟩ 6;rw[i]at h;omega
 .have h:=KJ (cs:=cs) (x:=c.head.name) (y:=x.A.name) (b:=1) ⟨c,f,rfl,x,g,rfl,ly ⟨d,rfl⟩⟩ 6;rw[i]at h;omega
