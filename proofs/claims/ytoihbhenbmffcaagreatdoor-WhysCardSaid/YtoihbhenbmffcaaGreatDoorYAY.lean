import Derived.Test.YtoihbhenbmffcaaGreatDoorYAU
import Derived.Test.YtoihbhenbmffcaaGreatDoorYAH
set_option linter.all false
set_option maxHeartbeats 0
open List renaming length->Z,toArray->j2
open Option renaming none->Y,some->V
open Go.Value renaming slice->U,int->X,string->O,agg->jH,bool->jJ,ownBlock->jN
open Bool renaming false->K,true->jj
open Go.IntKind renaming i64->J,i32->jI
open Go.Obj renaming cells->j1
open Go.Ending renaming returned->j4
open Or renaming inl->j5,inr->j6
open Go renaming World->j7,Value->j8
open Go.RowKit renaming Hid->j9
open Go.World renaming cell?->jF,ownsRow->jG
namespace Go.Proofs.YtoihbhenbmffcaaGreatDoor
open Go.RowKit Go.Proofs.Tryz
def A9(l:PL):Bool:=l.sort==0||l.sort==1
def AV(l:PL):List AO:=if A9 l then l.ts else[l.l,l.r]
theorem Nz(l:PL)(p:Option Addr)(n o:Nat)(w:j7):
  Calls prog 135 #[jH (j2 (Aw (l,U p n o)))] w λe q=>e=j4 (jJ (A9 l))/\Ac [] w q:=by
 have j:=(Ac.refl [] w).alloc (j1 (j2 (Aw (l,U p n o))) 217);obtain⟨i,a,m,c,d,f,g⟩:=l;have r:j9 (∀b,A9 ⟨i,a,m,c,d,f,g⟩=b->(a==0||a==1)=b):=λb h=>h
 simp only[Aw]at j⊢;go_enter func135,ntmps135;cases h0:(a==0)with
 |true=>
  have k:j9 (A9 ⟨i,a,m,c,d,f,g⟩=jj):=by show _=_;unfold A9;simp only;rw[h0];rfl
  go_wp2;go_ret;rw[k.out];exact⟨rfl,j⟩
 |false=>
  have k:j9 (A9 ⟨i,a,m,c,d,f,g⟩=(a==1)):=by show _=_;unfold A9;simp only;rw[h0];rfl
  go_wp2;go_ret;rw[k.out];exact⟨rfl,j⟩
def XV{w:j7}{N:Nat}{cs:List j8}{t:TypeId}(h:AI w N cs t){n size:Nat}(a:Z cs=n*size)(b:n<=maxLen):jG w 0 t size (U (V ⟨N,0,Y⟩) n n) n cs:=by
 refine⟨a,j6 ⟨N,n,j2 cs,rfl,eV _,h,eM _,b,by simpa using a,?_⟩⟩;rw[<-a];simp
theorem Lr(l:PL)(c:Option Addr)(d:Nat)(w:j7)(h:JG w 0 (l,U c (Z l.ts) d)):
  Calls prog 137 #[jH (j2 (Aw (l,U c (Z l.ts) d)))] w λe p=>∃z A,e=j4 (U z (Z (AV l)) A)/\jG p 0 215 2 (U z (Z (AV l)) A) (Z (AV l)) ((AV l).flatMap Aq)/\Ac [] w p:=by
 have j:=Ab ((Ac.refl [] w).alloc (j1 (j2 (Aw (l,U c (Z l.ts) d))) 217));have o:=Ab (AI.new w (Aw (l,U c (Z l.ts) d)) 217);have r:=Ab (Ad h j (by simp));have t:j9 (∀w,Calls prog 135 #[jH (j2 (Aw (l,U c (Z l.ts) d)))] w λe p=>e=j4 (jJ (A9 l))/\Ac [] w p):=λw=>Nz l c (Z l.ts) d w
 clear h;obtain⟨k,i,n,m,f,a,b⟩:=l;simp only[Aw]at j o r t⊢;go_enter func137,ntmps137;go_wp2_with fail
 change Calls _ _ _ (w.alloc (j1 [X J k,X J i,X J n,O m,U c (Z f) d,X jI a.v,O a.s,X jI b.v,O b.s].toArray 217)) _;generalize w.alloc (j1 [X J k,X J i,X J n,O m,U c (Z f) d,X jI a.v,O a.s,X jI b.v,O b.s].toArray 217)=w1 at j o r⊢;generalize w.heap.size=N at o⊢;refine(t w1).mono ?_;rintro e u ⟨rfl,q⟩;have g:=o.kept q (by simp);have y:=Ab (j.trans q);have F:=Ab (Ad r q (by simp));have H:=g.cell 4;have E:=g.cell 5;have G:=g.cell 6;have C:=g.cell 7;have B:=g.cell 8;simp at H E G C B;clear g o r j q t;cases hh:A9 ⟨k,i,n,m,f,a,b⟩with
 |true=>
  have x:j9 (AV ⟨k,i,n,m,f,a,b⟩=f):=by show _=_;unfold AV;rw[hh];rfl
  clear hh;go_wp2;go_ret;rw[x.out];exact⟨c,d,rfl,F,y⟩
 |false=>
  have x:j9 (AV ⟨k,i,n,m,f,a,b⟩=[a,b]):=by show _=_;unfold AV;rw[hh];rfl
  clear hh;have D:j9 (jG (u.alloc (j1 [X jI a.v,O a.s,X jI b.v,O b.s].toArray 215)) 0 215 2 (U (V ⟨u.heap.size,0,Y⟩) 2 2) 2 [X jI a.v,O a.s,X jI b.v,O b.s]):=XV (AI.new u _ 215) rfl (by unfold maxLen;omega);go_wp2;go_ret;rw[x.out];exact⟨_,_,rfl,D,y.alloc _⟩
theorem Tryz.zz:(Tryz.prog.info? 187).map (λi=>(i.zero,i.size,i.bytes))=V (V (jH #[X J 0,O ⟨#[]⟩,U Y 0 0]),3,48):=by kernel_rfl
def R9(p:Oi):Z (Aw p)=9:=rfl
def RW(p:GA):Z (AL p)=3:=rfl
def Sf(p:AO):Z (Aq p)=2:=rfl
def Il{w:j7}{base:Nat}{C:j8}{e:List Oi}(h:CE w base C e)(k:Nat)(a:k<Z e):
  ∃g o l d f,C=U (V ⟨g,0,Y⟩) (Z e) o/\e[k]=(l,U d (Z l.ts) f)/\JG w base (l,U d (Z l.ts) f)/\
   jF w ⟨g,k*9,Y⟩=V (X J l.place)/\jF w ⟨g,k*9+1,Y⟩=V (X J l.sort)/\jF w ⟨g,k*9+2,Y⟩=V (X J l.ap)/\jF w ⟨g,k*9+3,Y⟩=V (O l.an)/\jF w ⟨g,k*9+4,Y⟩=V (U d (Z l.ts) f)/\
   jF w ⟨g,k*9+5,Y⟩=V (X jI l.l.v)/\jF w ⟨g,k*9+6,Y⟩=V (O l.l.s)/\jF w ⟨g,k*9+7,Y⟩=V (X jI l.r.v)/\jF w ⟨g,k*9+8,Y⟩=V (O l.r.s):=by
 obtain⟨g,o,D,_,b⟩:=AC h.row (λc _=>R9 c) k a;have u:=(h.each _ (eo a)).1;obtain⟨d,f,m⟩:=Ak u;have t:=b k a 0 (by omega);have n:=b k a 1 (by omega);have i:=b k a 2 (by omega);have j:=b k a 3 (by omega);have z:=b k a 4 (by omega);have x:=b k a 5 (by omega);have q:=b k a 6 (by omega);have p:=b k a 7 (by omega);have y:=b k a 8 (by omega);obtain⟨l,A,B⟩:∃l A,e[k]=(l,A):=⟨_,_,rfl⟩;rw[B]at t n i j z x q p y u m;simp only at m;subst m;simp[Aw]at t n i j z x q p y;exact⟨g,o,l,d,f,D,B,u,t,n,i,j,z,x,q,p,y⟩
def Ba(zC:List Oi):List GA:=(zC.filter λp=>A9 p.1).map λp=>⟨p.1.ap,p.1.an,p.2⟩
def Bm(c:Dq):List GA:=⟨c.hp,c.hn,c.hv⟩::Ba c.zC
def Om{a:List Oi}{k:Nat}(b:k<Z a):Ba (a.take (k+1))=Ba (a.take k)++(if A9 a[k].1 then[⟨a[k].1.ap,a[k].1.an,a[k].2⟩] else[]):=by
 unfold Ba;rw[ep b,ii,fi]
 congr 1
 by_cases h:A9 a[k].1=jj<;>simp[h]
def Es(a:List Oi):Z (Ba a)<=Z a:=by
 unfold Ba;rw[eL];exact fZ _ _
set_option maxRecDepth 100000
theorem Qn(D:Option Addr)(P:Nat)(a:List Oi)(w:j7)(h:CE w 0 (U D (Z a) P) a)(FP:Z a<=1000):
  Calls prog 92 #[U D (Z a) P] w λe B=>∃f j,e=j4 (U f (Z (Ba a)) j)/\jG B w.heap.size 187 3 (U f (Z (Ba a)) j) (Z (Ba a)) ((Ba a).flatMap AL)/\Ac [] w B:=by
 obtain⟨i0,FC,W,A1,B9⟩:=fC Tryz.zz;have HB:=Ab h;clear h;go_enter func92,ntmps92;go_wp2
 go_loopg [3,8] (Z a) (λgk o i wr=>∃(k:Nat) (b:List GA) (f:Option Addr) (j:Nat),o=U f (Z b) j/\i=X J k/\k<=Z a/\Z b<=k/\gk=Z a-k/\j9 (b=Ba (a.take k))/\jG wr w.heap.size 187 3 (U f (Z b) j) (Z b) (b.flatMap AL)/\j9 (Ac [] w wr))
 case atStart=>exact⟨0,[],Y,0,rfl,rfl,by omega,by simp,rfl,by show _=_;simp[Ba],eU _ _ _ _,Ac.refl _ _⟩
 case round=>
  obtain⟨k,b,f,j,rfl,rfl,G,FT,I,q,v,p⟩:=hrel;have H:=Ab I;clear I;by_cases A:k<Z a
  .have Q:=HB.kept p (by simp);have Go:=p.size;obtain⟨g,FO,l,c,d,E,N,CC,d0,d1,S,T,d4,d5,d6,d7,d8⟩:=Il Q k A;simp only[ei]at E;obtain⟨rfl,_,rfl⟩:=E;have s:=Ab (Om A);rw[N]at s;clear Q CC N;have z:=Ab (Nz l c (Z l.ts) d (wr.alloc (j1 (j2 (Aw (l,U c (Z l.ts) d))) 217)));simp only[Aw]at z;have R:=Ab (AI.new wr (Aw (l,U c (Z l.ts) d)) 217);have C:=Ab (p.alloc (j1 (j2 (Aw (l,U c (Z l.ts) d))) 217));have F:=Ab (eC v (j1 (j2 (Aw (l,U c (Z l.ts) d))) 217));(go_wp2_with fail);refine z.mono ?_;rintro e m ⟨rfl,n⟩;have u:=R.kept n (by simp);have M:=Ab (C.trans n);have x:=Ad F n (by simp);have L:=n.size;(have FL:wr.heap.size+1<=m.heap.size:=by simpa using L);have c2:=u.cell 2;have c3:=u.cell 3;have c4:=u.cell 4;simp[Aw]at c2 c3 c4;clear u n R C F z d0 d1 S T d4 d5 d6 d7 d8 v p L;cases hh:A9 l with
   |false=>
    (have y:j9 (b=Ba (a.take (k+1))):=by show _=_;rw[Aa s,hh,Aa q];simp);clear hh q s;go_wp2
    go_roundg (Z a-(k+1))
    case measure=>have:=Aa H;omega
    case rel=>exact⟨k+1,b,f,j,rfl,by go_num,by omega,by omega,rfl,y,x,M⟩
   |true=>
    (have y:j9 (b++[⟨l.ap,l.an,U c (Z l.ts) d⟩]=Ba (a.take (k+1))):=by show _=_;rw[Aa s,hh,Aa q];simp);clear hh q s;have BS:=fe m (j1 (j2 (AL ⟨l.ap,l.an,U c (Z l.ts) d⟩)) 187);have EY:=eC x (j1 (j2 (AL ⟨l.ap,l.an,U c (Z l.ts) d⟩)) 187);(have HF:j9 (∀r,(m.alloc (j1 (j2 (AL ⟨l.ap,l.an,U c (Z l.ts) d⟩)) 187)).grownBy r (U f (Z b) j).ownBlock->Ac [] w r):=λr hg=>(M.alloc _).grown hg (λk G=>j6 ((x.lt k G).1)));go_wp2_with (at_builtin;refine eP _ rfl (.tmp 14) (.tmp 17) _ rfl w.heap.size 187 i0 _ 3 48 underlying163 FC W A1 B9 rfl (by omega) (U f (Z b) j) (Z b) (b.flatMap AL) rfl EY ⟨m.heap.size,0,Y⟩ 1 1 (AL ⟨l.ap,l.an,U c (Z l.ts) d⟩) rfl rfl (eS (cs:=j2 (AL ⟨l.ap,l.an,U c (Z l.ts) d⟩)) (t:=187) (fr:=(0,0)) BS) (by simp[Value.oneCell',AL]) (by omega) (by unfold maxLen;omega) (by omega) (by simp;omega) (m.heap.size+1) (by simp) ?_;intro g1 AH r DT BA FF FW)
    go_roundg (Z a-(k+1))
    case measure=>have:=Aa H;omega
    case rel=>exact⟨k+1,b++[⟨l.ap,l.an,U c (Z l.ts) d⟩],V ⟨g1,0,Y⟩,AH,by simp,by go_num,by omega,by simp;omega,rfl,y,by simpa using DT,HF r BA⟩
  .have HE:j9 (b=Ba a):=by
    have h:=Aa q;rw[eu (by omega)]at h;exact h
   go_wp2;go_ret;rw[<-HE.out];exact⟨f,j,rfl,v,p⟩
def XG(w:j7)(base:Nat)(b:List Oi)(v:j8)(h:CE w base v b):∀u∈(Ba b).flatMap AL,u.oneCell'=jj:=by
 intro u f;obtain⟨t,d,a⟩:=fA.1 f;obtain⟨p,c,rfl⟩:=eH.1 d;obtain⟨i,g,e⟩:=Ak (h.each p (e9.1 c).1).1;simp only[AL,ey,fP,or_false]at a;rcases a with rfl|rfl|rfl
 .rfl
 .rfl
 .rw[e];rfl
theorem Kq(c:Dq)(w:j7)(h:Jb w 0 c.hv c.bv c.zD c.zC)(W:Z c.zC<=1000):
  Calls prog 119 #[jH (j2 (Bc c))] w λe t=>∃v z,e=j4 (U v (Z (Bm c)) z)/\jG t w.heap.size 187 3 (U v (Z (Bm c)) z) (Z (Bm c)) ((Bm c).flatMap AL)/\Ac [] w t:=by
 obtain⟨i0,S,M,T,Ax⟩:=fC Tryz.zz;obtain⟨f,i,b,hv,bv,a⟩:=c;simp only at h W;obtain⟨g,d,rfl⟩:=Ak h.head;obtain⟨l,m,rfl⟩:=Ak h.body.row;have Q:j9 (∀wr,Ac [] w wr->Calls prog 92 #[U l (Z a) m] wr λe t=>∃v z,e=j4 (U v (Z (Ba a)) z)/\jG t wr.heap.size 187 3 (U v (Z (Ba a)) z) (Z (Ba a)) ((Ba a).flatMap AL)/\Ac [] wr t):=λwr p=>Qn l m a wr (h.body.kept p (by simp)) W
 have E:=Ab (XG w 0 a _ h.body);have BT:=Es a;have A:j9 (Bm ⟨f,i,b,U g (Z b) d,U l (Z a) m,a⟩=[⟨f,i,U g (Z b) d⟩]++Ba a):=rfl;generalize Bm ⟨f,i,b,U g (Z b) d,U l (Z a) m,a⟩=AT at A⊢;generalize Ba a=BA at Q E BT A;clear h;simp only[Bc];have q:=Ab (AI.new w [X J f,O i,U g (Z b) d,U l (Z a) m] 189);have x:=Ab ((Ac.refl [] w).alloc (j1 [X J f,O i,U g (Z b) d,U l (Z a) m].toArray 189));go_enter func119,ntmps119;go_wp2_with fail
 change Code.wp _ _ _ _ (w.alloc (j1 [X J f,O i,U g (Z b) d,U l (Z a) m].toArray 189));have F:(w.alloc (j1 [X J f,O i,U g (Z b) d,U l (Z a) m].toArray 189)).heap.size=w.heap.size+1:=by simp
 generalize w.alloc (j1 [X J f,O i,U g (Z b) d,U l (Z a) m].toArray 189)=w1 at q x F⊢;obtain⟨N,C⟩:∃N,w.heap.size=N:=⟨_,rfl⟩;rw[C]at q F⊢;have c0:=q.cell 0;have c1:=q.cell 1;have c2:=q.cell 2;have c3:=q.cell 3;simp at c0 c1 c2 c3;have H:=Ab C;have G:Z AT=1+Z BA:=by rw[Aa A];simp;omega
 have Bx:j9 (∀(r:j7) (o:Option Addr) (n:Nat),jG r N 187 3 (U o (1+Z BA) n) (1+Z BA) (AL ⟨f,i,U g (Z b) d⟩++BA.flatMap AL)->jG r N 187 3 (U o (Z AT) n) (Z AT) (AT.flatMap AL)):=by
  intro r o n ho;rw[G,Aa A,eY];simpa using ho
 have P:=Ab G;have EX:j9 (jG (w1.drew.alloc (j1 (j2 (AL ⟨f,i,U g (Z b) d⟩)) 187)) N 187 3 (U (V ⟨N+1,0,Y⟩) 1 1) 1 (AL ⟨f,i,U g (Z b) d⟩)):=by
  have hh:=AI.new w1.drew (AL ⟨f,i,U g (Z b) d⟩) 187;rw[show w1.drew.heap.size=N+1 from F]at hh
  exact⟨rfl,j6 ⟨N+1,1,_,rfl,by omega,hh,eM _,by unfold maxLen;omega,rfl,rfl⟩⟩
 have EK:j9 (∀j:j7,N<=j.heap.size->jG (j.alloc (j1 (j2 (AL ⟨f,i,U g (Z b) d⟩)) 187)) N 187 3 (U (V ⟨j.heap.size,0,Y⟩) 1 1) 1 (AL ⟨f,i,U g (Z b) d⟩)):=λj p=>⟨rfl,j6 ⟨j.heap.size,1,_,rfl,p,AI.new j _ 187,eM _,by unfold maxLen;omega,rfl,rfl⟩⟩
 clear C G
 go_region_law
  (first
   |(
     go_simp;go_at_call 92;refine(Q _ (by first|exact x.drew|exact(x.drew).alloc _)).mono ?_;rintro e j ⟨AH,A1,rfl,A2,u⟩;
     have R:=u.size;
     first
      |(have B0:=Ad EX u (by simp);have D:=(x.drew.alloc _).trans u;have CC:N+2<=j.heap.size:=by simp at R;omega)
      |(have I:=q.drew.kept u (by simp);have e0:=I.cell 0;have e1:=I.cell 1;have e2:=I.cell 2;simp at e0 e1 e2;have D:=x.drew.trans u;have CC:N+1<=j.heap.size:=by simp at R;omega))
   |(refine IU _ (by rfl) _ _ _ (by rfl) N 187 i0 _ 3 48 underlying163 S M T Ax rfl (by omega) (V ⟨N+1,0,Y⟩) 1 1 (AL ⟨f,i,U g (Z b) d⟩) (by rfl) B0 _ AH (Z BA) A1 (BA.flatMap AL) (by rfl) A2 E (by unfold maxLen;omega) (by omega) (by omega) ?_;intro o n r s y L;have B:=Ab (And.intro (Bx r o n s) (D.grown y (λk p=>j6 (by simp[jN]at p;have:=Aa H;omega))));clear s y L)
   |(refine IU _ (by rfl) _ _ _ (by rfl) N 187 i0 _ 3 48 underlying163 S M T Ax rfl (by omega) (V ⟨j.heap.size,0,Y⟩) 1 1 (AL ⟨f,i,U g (Z b) d⟩) (by rfl) (EK j (by omega)) _ AH (Z BA) A1 (BA.flatMap AL) (by rfl) (eC A2 _) E (by unfold maxLen;omega) (by omega) (by simp;omega) ?_;intro o n r s y L;have B:=Ab (And.intro (Bx r o n s) ((D.alloc _).grown y (λk p=>j6 (by simp[jN]at p;have:=Aa H;omega))));clear s y L))
 all_goals
  go_wp2;go_ret;rw[Aa H,Aa P];exact⟨o,n,rfl,by have h:=B.1;rw[Aa P]at h;exact h,B.2⟩
def Bk(zC:List Oi):List AO:=zC.flatMap λp=>AV p.1
def Bp(c:Dq):List AO:=c.zD++Bk c.zC
def Oo{a:List Oi}{k:Nat}(b:k<Z a):Bk (a.take (k+1))=Bk (a.take k)++AV a[k].1:=by
 unfold Bk;rw[ep b,eY];simp
def Ka(ts:List AO):∀u∈ts.flatMap Aq,u.oneCell'=jj:=by
 intro u a;obtain⟨t,_,h⟩:=fA.1 a;simp[Aq]at h;rcases h with rfl|rfl<;>rfl
def Xe{w:j7}{base:Nat}{e:TypeId}{size:Nat}{c:Option Addr}{n d:Nat}{b:List j8}(h:jG w base e size (U c n d) n b)(o:0<n):
  ∃g,c=V ⟨g,0,Y⟩/\Z b=n*size/\(∀j u,b[j]?=V u->jF w ((⟨g,0,Y⟩:Addr).add j)=V u)/\base<=g/\g<w.heap.size:=by
 rcases h.2 with⟨a,k⟩|⟨g,i,f,a,l,m⟩
 .omega
 .simp only[ei]at a;obtain⟨rfl,_,rfl⟩:=a;exact⟨g,rfl,h.1,h.cells rfl,(h.lt g rfl)⟩
structure Ov(c:Dq):Prop where
 head:0<Z c.zD/\Z c.zD<=1000
 lits:Z c.zC<=1000
 each:∀p∈c.zC,(A9 p.1=jj->0<Z p.1.ts)/\Z p.1.ts<=1000
def Ov.zS{c:Dq}(h:Ov c){p:Oi}(a:p∈c.zC):0<Z (AV p.1)/\Z (AV p.1)<=1000:=by
 have:=h.each p a;unfold AV;split
 .rename_i b;exact⟨this.1 b,this.2⟩
 .simp
set_option maxRecDepth 512
theorem YL(n:Nat)(w:j7)(r:0<n)(v:n<=2000000):
  Calls prog 228 #[U Y 0 0,X J n] w λe j=>∃g G,e=j4 (U (V ⟨g,0,Y⟩) 0 G)/\jG j w.heap.size 215 2 (U (V ⟨g,0,Y⟩) 0 G) 0 []/\Ac [] w j:=by
 obtain⟨f,s,q,y,m⟩:=fC Tryz.zc;have l:(Builtin.firstCells f.size 0 (U Y 0 0)).run prog w.drew=.ok (j2 ([]:List j8)) w.drew:=run_firstCells_none w.drew f.size 0 0 0;have k:∀i,(Builtin.append_ #[185,3] i #[U Y 0 0,X J (n:Int)]).run prog w=
   .ok (U (V ⟨w.heap.size,0,Y⟩) n (grownCap w n 0 215)) (w.drew.alloc (j1 (j2 ([]:List j8)++Builtin.zeroCells (jH #[X jI 0,O ⟨#[]⟩]:j8).cells n++Builtin.zeroCells (jH #[X jI 0,O ⟨#[]⟩]:j8).cells (grownCap w n 0 215-n)) 215)):=λi=>by
  have h:=Lib.run_append_grow_zeros w 185 3 i 215 f _ J J underlying185 underlying3 s q Y 0 0 [] l n r (by omega) (by omega) (by omega) (by rw[m];omega) (by rw[m,fw];exact growslice_fits (by omega) (by omega));simp only[fw]at h;exact h
 obtain⟨G,b⟩:∃G,G=grownCap w n 0 215:=⟨_,rfl⟩;obtain⟨a,c⟩:∃a:Array j8,a=j2 ([]:List j8)++Builtin.zeroCells (jH #[X jI 0,O ⟨#[]⟩]:j8).cells n++Builtin.zeroCells (jH #[X jI 0,O ⟨#[]⟩]:j8).cells (G-n):=⟨_,rfl⟩;rw[<-b,<-c]at k;have t:n<=G:=by rw[b];exact grownCap_ge w _ _ _
 have d:G<=maxLen:=by rw[b];exact grownCap_le_maxLen w n 0 215 (by unfold maxLen;omega)
 have p:a.size=G*2:=by
  rw[c];simp[Builtin.zeroCells,Value.cells];omega
 have u:G<=9223372036854775807:=by unfold maxLen at d;omega
 have o:j9 (jG (w.alloc (j1 a 215)) w.heap.size 215 2 (U (V ⟨w.heap.size,0,Y⟩) 0 G) 0 []/\Ac [] w (w.alloc (j1 a 215))):=
  ⟨⟨rfl,j6 ⟨w.heap.size,G,a,rfl,eM _,fe w _,eV _,d,p,by simp⟩⟩,(Ac.refl [] w).alloc _⟩
 have x:(0:Int)<(n:Int):=by omega
 have z:¬((n:Int)<0):=by omega
 clear l c b p d;go_enter func228,ntmps228;go_wp2_with (at_builtin;refine Lib.wpList_append_run _ rfl _ _ _ _ rfl _ _ rfl rfl _ _ (k _) ?_)
 go_ret;exact⟨_,G,rfl,o.1,o.2.drew⟩
set_option maxRecDepth 100000
theorem Tv(R:Nat)(E:Option Addr)(z:Nat)(v:Option Addr)(C:Nat)(a b:List AO)(I b2:Nat)(w:j7)(r:AI w R [U E (Z a) z,U v (Z b) C] 185)(S:jG w I 215 2 (U E (Z a) z) (Z a) (a.flatMap Aq))(M:jG w b2 215 2 (U v (Z b) C) (Z b) (b.flatMap Aq))(W:0<Z a)(B2:Z a+Z b<=2000000):
  Calls prog 213 #[U (V ⟨R,0,Y⟩) 2 2] w λe L=>∃d h,e=j4 (U d (Z (a++b)) h)/\jG L w.heap.size 215 2 (U d (Z (a++b)) h) (Z (a++b)) ((a++b).flatMap Aq)/\Ac [] w L:=by
 obtain⟨i0,BS,N,T,AT⟩:=fC Tryz.zc;have HV:=Ab r;have H1:=Ab S;have H2:=Ab M;have s:=r.cell 0;have q:=r.cell 1;simp at s q;have Bx:=Ab (YL (Z a+Z b) w (by omega) B2);have B0:j9 (Z (a++b)=Z a+Z b):=by show _=_;simp
 generalize hAB:a++b=ab at B0⊢;have CL:=Ab hAB;have EX:=Ab W;clear r S M hAB W;have DT:¬((Z a:Int)<0):=by omega
 have E0:¬((Z a:Int)+(Z b:Int)<0):=by omega
 go_enter func213,ntmps213;go_wp2
 go_loopg [3,11] 2 (λgk o i wr=>∃k:Nat,i=X J k/\((k=0/\o=X J 0)\/(k=1/\o=X J (Z a))\/(k=2/\o=X J ((Z a:Int)+(Z b:Int))))/\gk=2-k/\w=wr)
 case atStart=>exact⟨0,rfl,j5 ⟨rfl,rfl⟩,rfl,rfl⟩
 case round=>
  obtain⟨k,rfl,l,B,rfl⟩:=hrel;rcases l with⟨rfl,rfl⟩|⟨rfl,rfl⟩|⟨rfl,rfl⟩
  .go_wp2
   go_roundg 1
   case measure=>omega
   case rel=>exact⟨1,by go_num,j6 (j5 ⟨rfl,by go_num⟩),rfl,rfl⟩
  .go_wp2
   go_roundg 0
   case measure=>omega
   case rel=>exact⟨2,by go_num,j6 (j6 ⟨rfl,by go_num⟩),rfl,rfl⟩
  ·(go_wp2_with fail);refine Bx.mono ?_;rintro e w2 ⟨g,G,rfl,A2,k2⟩;have P:=Ab A2;have Ax:=Ab k2;clear Bx A2 k2 s q;go_wp2
   go_loopg [6,27] 2 (λgk o i wr=>∃(k:Nat) (c:List AO) (d:Option Addr) (h:Nat),o=U d (Z c) h/\i=X J k/\((k=0/\j9 (c=[]))\/(k=1/\j9 (c=a))\/(k=2/\j9 (c=ab)))/\gk=2-k/\Z c<=Z a+Z b/\(jG wr w.heap.size 215 2 (U d (Z c) h) (Z c) (c.flatMap Aq))/\j9 (Ac [] w wr))
   case atStart=>exact⟨0,[],_,_,rfl,rfl,j5 ⟨rfl,rfl⟩,rfl,by simp,P,Ax⟩
   case round=>
    clear P Ax;obtain⟨k,c,d,h,rfl,rfl,l,B,EM,p,j⟩:=hrel;have Q:=Ab B;clear B;have EK:=j.size;rcases l with⟨rfl,m⟩|⟨rfl,m⟩|⟨rfl,m⟩
    .have s:=(HV.kept j (by simp)).cell 0;simp at s;have H:=Ad H1 j (by simp);(have hz:Z c=0:=by rw[Aa m];rfl);(have y:j9 (∀f,wr.grownBy f (U d (Z c) h).ownBlock->Ac [] w f):=λf x=>j.grown x (λk l=>j6 ((p.lt k l).1)));(have F:j9 (c++a=a):=by show _=_;rw[Aa m];rfl);have n:=Ab hz;clear hz;go_wp2_with (at_builtin;refine G5 _ rfl (.tmp 31) (.tmp 32) _ rfl w.heap.size 215 i0 _ 2 24 underlying185 BS N T AT rfl (by omega) d (Z c) h (c.flatMap Aq) rfl p I E (Z a) z (a.flatMap Aq) rfl H (Ka _) (by have:=Aa n;unfold maxLen;omega) (by have:=Aa n;omega) (by omega) ?_;intro A u f t D BT)
     go_roundg 1
     case measure=>have:=Aa Q;omega
     case rel=>exact⟨1,c++a,A,u,by simp,by go_num,j6 (j5 ⟨rfl,F⟩),rfl,by simp;have:=Aa n;omega,by simpa using t,y f D⟩
    .have q:=(HV.kept j (by simp)).cell 1;simp at q;have H:=Ad H2 j (by simp);(have n:j9 (Z c=Z a):=by show _=_;rw[Aa m]);(have y:j9 (∀f,wr.grownBy f (U d (Z c) h).ownBlock->Ac [] w f):=λf x=>j.grown x (λk l=>j6 ((p.lt k l).1)));(have F:j9 (c++b=ab):=by show _=_;rw[Aa m];exact CL);go_wp2_with (at_builtin;refine G5 _ rfl (.tmp 31) (.tmp 32) _ rfl w.heap.size 215 i0 _ 2 24 underlying185 BS N T AT rfl (by omega) d (Z c) h (c.flatMap Aq) rfl p b2 v (Z b) C (b.flatMap Aq) rfl H (Ka _) (by have:=Aa n;unfold maxLen;omega) (by have:=Aa n;omega) (by omega) ?_;intro A u f t D BT)
     go_roundg 0
     case measure=>have:=Aa Q;omega
     case rel=>exact⟨2,c++b,A,u,by simp,by go_num,j6 (j6 ⟨rfl,F⟩),rfl,by simp;have:=Aa n;omega,by simpa using t,y f D⟩
    .go_wp2;go_ret;rw[<-Aa m];exact⟨d,h,rfl,p,j⟩
theorem US(B:Option Addr)(N:Nat)(a:List Oi)(w:j7)(h:CE w 0 (U B (Z a) N) a)(Ha:Z a<=1000)(f:∀p∈a,0<Z (AV p.1)/\Z (AV p.1)<=1000):
  Calls prog 139 #[U B (Z a) N] w λe y=>∃c d,e=j4 (U c (Z (Bk a)) d)/\jG y w.heap.size 215 2 (U c (Z (Bk a)) d) (Z (Bk a)) ((Bk a).flatMap Aq)/\Ac [] w y:=by
 obtain⟨i0,FL,T,A2,B0⟩:=fC Tryz.zc;have HB:=Ab h;have FF:=Ab f;clear h f;go_enter func139,ntmps139;go_wp2
 go_loopg [3,8] (Z a) (λgk o i wr=>∃(k:Nat) (b:List AO) (c:Option Addr) (d:Nat),o=U c (Z b) d/\i=X J k/\k<=Z a/\Z b<=k*1000/\gk=Z a-k/\j9 (b=Bk (a.take k))/\jG wr w.heap.size 215 2 (U c (Z b) d) (Z b) (b.flatMap Aq)/\j9 (Ac [] w wr))
 case atStart=>exact⟨0,[],Y,0,rfl,rfl,by omega,by simp,rfl,by show _=_;simp[Bk],eU _ _ _ _,Ac.refl _ _⟩
 case round=>
  obtain⟨k,b,c,d,rfl,rfl,E,HC,F,u,s,j⟩:=hrel;have HG:=Ab F;clear F;by_cases t:k<Z a
  .have P:=HB.kept j (by simp);have HH:=j.size;obtain⟨g,Go,l,q,r,C,L,I,d0,d1,R,S,d4,d5,d6,d7,d8⟩:=Il P k t;simp only[ei]at C;obtain⟨rfl,_,rfl⟩:=C;have x:=Ab (Oo t);have f:=Aa FF a[k] (eo t);rw[L]at x f;simp only at f;have v:=Ab (Lr l q r (wr.alloc (j1 (j2 (Aw (l,U q (Z l.ts) r))) 217)) (Ad I ((Ac.refl [] wr).alloc _) (by simp)));clear P I L;simp only[Aw]at v;have z:=Ab (j.alloc (j1 (j2 (Aw (l,U q (Z l.ts) r))) 217));have D:=Ab (eC s (j1 (j2 (Aw (l,U q (Z l.ts) r))) 217));(go_wp2_with fail);refine v.mono ?_;rintro e A ⟨FP,EY,rfl,Q,n⟩;have DT:=Ab (z.trans n);have M:=Ad D n (by simp);have G:=n.size;(have FT:wr.heap.size+1<=A.heap.size:=by simpa using G);obtain⟨g3,rfl,EM,H,_,_⟩:=Xe Q f.1;have B9:=Ab H;(have FA:j9 (b++AV l=Bk (a.take (k+1))):=by show _=_;rw[Aa x,Aa u]);(have HF:j9 (∀m,A.grownBy m (U c (Z b) d).ownBlock->Ac [] w m):=λm W=>DT.grown W (λk E=>j6 ((M.lt k E).1)));clear n z D v d0 d1 R S d4 d5 d6 d7 d8 s j G Q H x u;(have FB:Z (b++AV l)<=(k+1)*1000:=by simp;omega);(have FW:k<=1000:=by omega);go_wp2_with (at_builtin;refine eP _ rfl (.tmp 12) (.tmp 14) _ rfl w.heap.size 215 i0 _ 2 24 underlying185 FL T A2 B0 rfl (by omega) (U c (Z b) d) (Z b) (b.flatMap Aq) rfl M ⟨g3,0,Y⟩ (Z (AV l)) EY ((AV l).flatMap Aq) rfl EM B9 (Ka _) (by omega) (by unfold maxLen;omega) (by omega) (by omega) _ rfl ?_;intro g1 AT m CC BS FO HD)
   go_roundg (Z a-(k+1))
   case measure=>have:=Aa HG;omega
   case rel=>exact⟨k+1,b++AV l,V ⟨g1,0,Y⟩,AT,by simp,by go_num,by omega,FB,rfl,FA,by simpa using CC,HF m BS⟩
  .have HE:j9 (b=Bk a):=by
    have h:=Aa u;rw[eu (by omega)]at h;exact h
   go_wp2;go_ret;rw[<-HE.out];exact⟨c,d,rfl,s,j⟩
def Qm{a:List Oi}(h:∀p∈a,Z (AV p.1)<=1000):Z (Bk a)<=Z a*1000:=by
 unfold Bk
 induction a with
 |nil=>simp
 |cons p l ih=>
  have c:=h p (by simp);have d:=ih (λq b=>h q (by simp[b]));simp only[eN,eJ,eF];omega
theorem Pd(c:Dq)(w:j7)(h:Jb w 0 c.hv c.bv c.zD c.zC)(G:Ov c):
  Calls prog 184 #[jH (j2 (Bc c))] w λe k=>∃f j,e=j4 (U f (Z (Bp c)) j)/\jG k w.heap.size 215 2 (U f (Z (Bp c)) j) (Z (Bp c)) ((Bp c).flatMap Aq)/\Ac [] w k:=by
 have z:j9 (∀p∈c.zC,0<Z (AV p.1)/\Z (AV p.1)<=1000):=λp g=>G.zS g
 obtain⟨g,q,b,hv,bv,a⟩:=c;obtain⟨⟨I,A0⟩,C,Ax⟩:=G;simp only at h I A0 C z;clear Ax;obtain⟨i,d,rfl⟩:=Ak h.head;obtain⟨l,o,rfl⟩:=Ak h.body.row;have M:=Qm (λp g=>(z p g).2);have BS:Z (Bk a)<=1000000:=by omega
 have B:j9 (∀wr,Ac [] w wr->Calls prog 139 #[U l (Z a) o] wr λe k=>∃f j,e=j4 (U f (Z (Bk a)) j)/\jG k wr.heap.size 215 2 (U f (Z (Bk a)) j) (Z (Bk a)) ((Bk a).flatMap Aq)/\Ac [] wr k):=λwr r=>US l o a wr (h.body.kept r (by simp)) C z
 have HH:=Ab h.head;have u:j9 (Bp ⟨g,q,b,U i (Z b) d,U l (Z a) o,a⟩=b++Bk a):=rfl;generalize Bp ⟨g,q,b,U i (Z b) d,U l (Z a) o,a⟩=TV at u⊢;generalize Bk a=BT at B BS u;have F:j9 (∀(wr:j7) (m:Option Addr) (n A:Nat),Ac [] w wr->jG wr A 215 2 (U m (Z BT) n) (Z BT) (BT.flatMap Aq)->Calls prog 213 #[U (V ⟨wr.heap.size,0,Y⟩) 2 2] (wr.alloc (j1 #[U i (Z b) d,U m (Z BT) n] 185)) λe k=>∃f j,e=j4 (U f (Z TV) j)/\jG k w.heap.size 215 2 (U f (Z TV) j) (Z TV) (TV.flatMap Aq)/\Ac [] w k):=by
  intro wr m n A r hr;have t:=(Ac.refl [] wr).alloc (j1 #[U i (Z b) d,U m (Z BT) n] 185);refine(Tv wr.heap.size i d m n b BT 0 A _ (AI.new wr [U i (Z b) d,U m (Z BT) n] 185) (Ad HH (r.trans t) (by simp)) (Ad hr t (by simp)) I (by omega)).mono ?_;rintro e k ⟨f,j,rfl,W,k2⟩;rw[Aa u];exact⟨f,j,rfl,Am W (by have:=(r.trans t).size;exact this),(r.trans t).trans k2⟩
 clear h M;simp only[Bc];have s:=Ab (AI.new w [X J g,O q,U i (Z b) d,U l (Z a) o] 189);have y:=Ab ((Ac.refl [] w).alloc (j1 [X J g,O q,U i (Z b) d,U l (Z a) o].toArray 189));go_enter func184,ntmps184;go_wp2_with fail
 change Code.wp _ _ _ _ (w.alloc (j1 [X J g,O q,U i (Z b) d,U l (Z a) o].toArray 189));generalize w.alloc (j1 [X J g,O q,U i (Z b) d,U l (Z a) o].toArray 189)=w1 at s y⊢;obtain⟨N,v⟩:∃N,w.heap.size=N:=⟨_,rfl⟩;rw[v]at s F⊢;have T:=s.cell 2;have c3:=s.cell 3;simp at T c3;have Bx:=Ab v;clear v
 go_region_law
  (first
   |(go_simp;go_at_call 139;refine(B _ y.drew).mono ?_;rintro e wt ⟨m,n,rfl,L,x⟩;have R:=(s.drew.kept x (by simp)).cell 2;simp at R;have A2:=Ab (y.drew.trans x);have Q:=Ab L;clear L x)
   |(go_simp;go_at_call 213;refine(F wt m n _ A2 Q).mono ?_;rintro e w9 ⟨S,P,rfl,H,E⟩;have D:=Ab (And.intro H E);clear H E))
 all_goals
  go_wp2;go_ret;rw[Aa Bx];exact⟨S,P,rfl,D.1,D.2⟩
def FH(zC:List Oi):List g0:=(zC.filter λp=>A9 p.1).map λp=>p.1.an
def B3(c:Dq):List g0:=c.hn::FH c.zC
def YN(c:Dq):(Bm c).map GA.name=B3 c:=by
 simp[Bm,B3,Ba,FH]
def G9{c:Dq}{w:j7}(h:Jb w 0 c.hv c.bv c.zD c.zC):∀a∈Bm c,∃f n d,a.tv=U f n d:=by
 intro a b;rcases ey.1 b with rfl|b
 .obtain⟨f,d,e⟩:=Ak h.head;exact⟨_,_,_,e⟩
 .unfold Ba at b;obtain⟨p,g,rfl⟩:=eH.1 b;obtain⟨f,d,e⟩:=Ak (h.body.each p (e9.1 g).1).1;exact⟨_,_,_,e⟩
def IW{w:j7}{base:Nat}{v:j8}{l:List GA}(h:jG w base 187 3 v (Z l) (l.flatMap AL))(k:Nat)(a:k<Z l):
  ∃g b,v=U (V ⟨g,0,Y⟩) (Z l) b/\jF w ⟨g,k*3,Y⟩=V (X J l[k].place)/\jF w ⟨g,k*3+1,Y⟩=V (O l[k].name)/\jF w ⟨g,k*3+2,Y⟩=V l[k].tv:=by
 obtain⟨g,b,j,_,d⟩:=AC h (λc _=>RW c) k a;have e:=d k a 0 (by omega);have i:=d k a 1 (by omega);have f:=d k a 2 (by omega);simp[AL]at e i f;exact⟨g,b,j,e,i,f⟩
structure MA(base:Nat)(lv:j8)(l:List g0)(xs:List g0)(w:j7)(l':List g0)(ad':Option Addr)(cp':Nat)(w':j7):Prop where
 zK:CP E8 l'
 mem:∀y,y∈l'↔y∈xs\/y∈l
 ge:Z l<=Z l'
 le:Z l'<=Z l+Z xs
 own:jG w' base 9 1 (U ad' (Z l') cp') (Z l') (l'.flatMap Ah)
 kept:Ac lv.ownBlock.toList w w'
 new:∀k,(U ad' (Z l') cp').ownBlock=V k->lv.ownBlock=V k\/w.heap.size<=k
theorem LH(c:Dq)(a:Option Addr)(cap:Nat)(l:List g0)(base:Nat)(w:j7)(h:Jb w 0 c.hv c.bv c.zD c.zC)(EX:Z c.zC<=1000)
  (hl:jG w base 9 1 (U a (Z l) cap) (Z l) (l.flatMap Ah)) (HN:Z l<=900000) (hr:CP E8 l) (HH:base<=w.heap.size):
  Calls prog 164 #[U a (Z l) cap,jH (j2 (Bc c))] w λe w'=>∃Q B9 AH,e=j4 (U B9 (Z Q) AH)/\MA base (U a (Z l) cap) l (B3 c) w Q B9 AH w':=by
 have s:=Ab (Kq c (w.alloc (j1 (j2 (Bc c)) 189)) (h.kept ((Ac.refl [] w).alloc _) (by simp)) EX);have T:=Ab (G9 h);have C:=Ab (YN c);have EK:j9 (Z (Bm c)<=1001):=by
  show _<=_;have:=Es c.zC;simp[Bm];omega
 obtain⟨hp,hn,u,hv,bv,r⟩:=c;simp only at h;obtain⟨CC,N,rfl⟩:=Ak h.head;obtain⟨Ax,W,rfl⟩:=Ak h.body.row;generalize Bm ⟨hp,hn,u,U CC (Z u) N,U Ax (Z r) W,r⟩=aT at s T C EK;generalize B3 ⟨hp,hn,u,U CC (Z u) N,U Ax (Z r) W,r⟩=ns at C⊢;have HL:=Ab hl;have Go:=Ab hr;clear h hl hr;simp only[Bc]at s⊢;go_enter func164,ntmps164;go_wp2_with fail
 refine s.mono ?_;rintro e p ⟨FT,P,rfl,BA,v⟩;have G:j9 (Ac [] w p):=((Ac.refl [] w).alloc _).trans v;have HD:w.heap.size+1<=p.heap.size:=by have:=v.size;simpa using this
 have S:=Ab (Am BA (show w.heap.size<=_ by simp));clear s BA v;go_wp2
 go_loopg [0,10] (Z aT) (λgk o i wr=>∃(k:Nat) (m:List g0) (b:Option Addr) (d:Nat),o=U b (Z m) d/\i=X J k/\k<=Z aT/\gk=Z aT-k/\Z m<=Z l+k/\j9 (MA base (U a (Z l) cap) l ((aT.take k).map GA.name) w m b d wr)/\j9 (jG wr w.heap.size 187 3 (U FT (Z aT) P) (Z aT) (aT.flatMap AL))/\j9 (∀q,(U b (Z m) d).ownBlock=V q->(U a (Z l) cap).ownBlock=V q\/p.heap.size<=q)/\p.heap.size<=wr.heap.size)
 case atStart=>exact⟨0,l,a,cap,rfl,rfl,by omega,rfl,by omega,⟨Go,λy=>by simp,by omega,by omega,Ad HL G (by simp),G.mono (by simp),λk R=>j5 R⟩,S,λq j=>j5 j,by omega⟩
 case round=>
  clear G;obtain⟨k,m,b,d,rfl,rfl,R,B0,HI,n,F,H,HB⟩:=hrel;have HG:=Ab B0;clear B0;have HF:=Aa EK;by_cases x:k<Z aT
  .obtain⟨g,HC,he,d0,d1,M⟩:=IW F k x;simp only[ei]at he;obtain⟨rfl,_,rfl⟩:=he;obtain⟨HA,nt,FC,BS⟩:=T aT[k] (eo x);rw[BS]at M;clear BS;have A2:=Ab (ZZ b d m aT[k].name base (wr.alloc (j1 [X J aT[k].place,O aT[k].name,U HA nt FC].toArray 187)) (eC n.own _) (by omega) n.zK (by simp;omega));(go_wp2_with fail);refine A2.mono ?_;rintro e t ⟨L,D,B,rfl,q1,q2,q3,q4,q5,A,z⟩;have I:Ac (U b (Z m) d).ownBlock.toList wr t:=((Ac.refl _ wr).alloc _).trans A;(have HK:wr.heap.size+1<=t.heap.size:=by have:=A.size;simpa using this);have E0:j9 (MA base (U a (Z l) cap) l ((aT.take (k+1)).map GA.name) w L D B t):=by
    have f:=Aa n;refine⟨q1,λy=>?_,by have:=f.ge;omega,?_,q5,f.kept.trans' I (λi E=>?_),λq j=>?_⟩
    .rw[q2,f.mem,ep x];simp only[fi,eR,gU,eG,ex];constructor
     .rintro (h|h|h)
      .exact j5 (j6 h)
      .exact j5 (j5 h)
      .exact j6 h
     .rintro ((h|h)|h)
      .exact j6 (j5 h)
      .exact j5 h
      .exact j6 (j6 h)
    .have:=f.le;simp only[eL,ft]at this⊢;omega
    .rcases f.new i (by simpa using E)with h|h
     .exact j5 (by simp[h])
     .exact j6 h
    .rcases z q j with h|h
     .exact f.new q h
     .exact j6 (by have:=f.kept.size;simp at h;omega)
   have FO:j9 (jG t w.heap.size 187 3 (U (V ⟨g,0,Y⟩) (Z aT) P) (Z aT) (aT.flatMap AL)):=by
    refine Al F I (λi E hm=>?_);have h1:=(S.lt i E);rcases H i (by simpa using hm)with h|h
    .have:=(HL.lt i h).2;omega
    .omega
   have FB:j9 (∀q,(U D (Z L) B).ownBlock=V q->(U a (Z l) cap).ownBlock=V q\/p.heap.size<=q):=by
    intro q j;rcases z q j with h|h
    .exact H q h
    .exact j6 (by simp at h;omega)
   clear A2 q1 q2 q3 q5 A z I n F H d0 d1 M;go_wp2
   go_roundg (Z aT-(k+1))
   case measure=>have:=Aa HG;omega
   case rel=>exact⟨k+1,L,D,B,rfl,by go_num,by omega,rfl,by omega,E0,FO,FB,by omega⟩
  .have HE:j9 (MA base (U a (Z l) cap) l ns w m b d wr):=by
    have h:=Aa n;rw[eu (by omega),Aa C]at h;exact h
   go_wp2;go_ret;exact⟨m,b,d,rfl,HE⟩
def EG{w:j7}{base:Nat}{v:j8}{l:List AO}(h:jG w base 215 2 v (Z l) (l.flatMap Aq))(k:Nat)(a:k<Z l):
  ∃g b,v=U (V ⟨g,0,Y⟩) (Z l) b/\jF w ⟨g,k*2,Y⟩=V (X jI l[k].v)/\jF w ⟨g,k*2+1,Y⟩=V (O l[k].s):=by
 obtain⟨g,b,i,_,f⟩:=AC h (λc _=>Sf c) k a;have d:=f k a 0 (by omega);have e:=f k a 1 (by omega);simp[Aq]at d e;exact⟨g,b,i,d,e⟩
structure Gl(ts:List AO)(l:List Int):Prop where
 zK:CP Nr l
 mem:∀y,y∈l↔y≠0/\∃t∈ts,t.v=y
 le:Z l<=Z ts
def Gl.nil:Gl [] []:=⟨λi j a=>by simp at a,λy=>by simp,by simp⟩
theorem Kw(D:Option Addr)(L:Nat)(ts:List AO)(base:Nat)(w:j7)(h:jG w base 215 2 (U D (Z ts) L) (Z ts) (ts.flatMap Aq))(B9:Z ts<=900000):
  Calls prog 174 #[U D (Z ts) L] w λe x=>∃l E F,e=j4 (U E (Z l) F)/\Gl ts l/\jG x w.heap.size 21 1 (U E (Z l) F) (Z l) (l.flatMap AP)/\Ac [] w x:=by
 have HT:=Ab h;clear h;go_enter func174,ntmps174;go_wp2
 go_loopg [3,8] (Z ts) (λgk o i wr=>∃(k:Nat) (l:List Int) (d:Option Addr) (j:Nat),o=U d (Z l) j/\i=X J k/\k<=Z ts/\gk=Z ts-k/\j9 (Gl (ts.take k) l)/\jG wr w.heap.size 21 1 (U d (Z l) j) (Z l) (l.flatMap AP)/\j9 (Ac [] w wr))
 case atStart=>exact⟨0,[],Y,0,rfl,rfl,by omega,rfl,by show Gl _ _;simpa using Gl.nil,eU _ _ _ _,Ac.refl _ _⟩
 case round=>
  obtain⟨k,l,d,j,rfl,rfl,hk,C,m,q,n⟩:=hrel;have z:=Ab C;clear C;have Q:=m.le;simp only[ft]at Q;have DT:=n.size;by_cases r:k<Z ts
  .obtain⟨g,CL,I,d0,d1⟩:=EG (Ad HT n (by simp)) k r;simp only[ei]at I;obtain⟨rfl,_,rfl⟩:=I;have u:=Ab (n.alloc (j1 [X jI ts[k].v,O ts[k].s].toArray 215));have p:=eC q (j1 [X jI ts[k].v,O ts[k].s].toArray 215);cases hv:(ts[k].v==0)with
   |true=>
    (have T:(ts[k].v !=0)=K:=by simp[bne,hv]);have AH:j9 (Gl (ts.take (k+1)) l):=by
     have f:=Aa m;refine⟨f.zK,λy=>?_,by have:=f.le;simp only[ft]at this⊢;omega⟩;rw[f.mem,ep r];(have hz:ts[k].v=0:=by simpa using hv);constructor
     .rintro ⟨b,t,a,c⟩;exact⟨b,t,i7 _ a,c⟩
     .rintro ⟨b,t,a,c⟩;rcases eG.1 a with a|a
      .exact⟨b,t,a,c⟩
      .simp only[ex]at a;subst a;exact absurd (c.symm.trans hz) b
    clear hv;go_wp2
    go_roundg (Z ts-(k+1))
    case measure=>have:=Aa z;omega
    case rel=>exact⟨k+1,l,d,j,rfl,by go_num,by omega,rfl,AH,p,u⟩
   |false=>
    (have T:(ts[k].v !=0)=jj:=by simp[bne,hv]);(have M:ts[k].v≠0:=by simpa using hv);have H:=Ab (Zn d j l ts[k].v w.heap.size (wr.alloc (j1 [X jI ts[k].v,O ts[k].s].toArray 215)) p (by omega) m.zK (by simp;omega));have BA:=Ab M;clear hv M;(go_wp2_with fail);refine H.mono ?_;rintro e P ⟨G,S,Ax,rfl,B,N,q3,q4,q5,A,R⟩;have W:j9 (Ac [] w P):=u.trans' A (λi hi=>j6 ((p.lt i (by simpa using hi)).1));have A2:j9 (Gl (ts.take (k+1)) G):=by
     have f:=Aa m;refine⟨B,λy=>?_,by have:=f.le;simp only[ft]at this⊢;omega⟩;rw[N,f.mem,ep r];constructor
     .rintro (b|⟨b,t,a,c⟩)
      .exact⟨by rw[b];exact BA,ts[k],List.mem_append_right _ (ex.2 rfl),b.symm⟩
      .exact⟨b,t,i7 _ a,c⟩
     .rintro ⟨b,t,a,c⟩;rcases eG.1 a with a|a
      .exact j6 ⟨b,t,a,c⟩
      .simp only[ex]at a;subst a;exact j5 c.symm
    clear H B N q3 q4 A R q p u n m;go_wp2
    go_roundg (Z ts-(k+1))
    case measure=>have:=Aa z;omega
    case rel=>exact⟨k+1,G,S,Ax,rfl,by go_num,by omega,rfl,A2,q5,W⟩
  .have HE:j9 (Gl ts l):=by
    have h:=Aa m;rw[eu (by omega)]at h;exact h
   go_wp2;go_ret;exact⟨l,d,j,rfl,HE,q,n⟩
theorem TI(G:Option Addr)(P:Nat)(l:List Int)(u:Option Addr)(v:Nat)(o:List Int)(base C:Nat)(w:j7)(h:jG w base 21 1 (U G (Z l) P) (Z l) (l.flatMap AP))(z:jG w C 21 1 (U u (Z o) v) (Z o) (o.flatMap AP))(hl:Z l<=900000)(ho:Z o<=900000)(L:CP Nr o):
  Calls prog 173 #[U G (Z l) P,U u (Z o) v] w λe x=>∃H I,e=j4 (U H (Z (l.filter λy=> !JE o y)) I)/\jG x w.heap.size 21 1 (U H (Z (l.filter λy=> !JE o y)) I) (Z (l.filter λy=> !JE o y)) ((l.filter λy=> !JE o y).flatMap AP)/\Ac [] w x:=by
 obtain⟨i0,B9,Q,W,A0⟩:=fC Tryz.zu;have HT:=Ab h;have B0:=Ab z;have BT:=Ab L;obtain⟨F,hF⟩:∃F,(l.filter λy=> !JE o y)=F:=⟨_,rfl⟩;rw[hF];have S:=Ab hF;clear h z hF L;go_enter func173,ntmps173;go_wp2
 go_loopg [5,10] (Z l) (λgk o' i wr=>∃(k:Nat) (m:List Int) (a:Option Addr) (b:Nat),o'=U a (Z m) b/\i=X J k/\k<=Z l/\Z m<=k/\gk=Z l-k/\j9 (m=(l.take k).filter λy=> !JE o y)/\jG wr w.heap.size 21 1 (U a (Z m) b) (Z m) (m.flatMap AP)/\j9 (Ac [] w wr))
 case atStart=>exact⟨0,[],Y,0,rfl,rfl,by omega,by simp,rfl,by show _=_;simp,eU _ _ _ _,Ac.refl _ _⟩
 case round=>
  obtain⟨k,m,a,b,rfl,rfl,A,EX,D,q,n,d⟩:=hrel;have B:=Ab D;clear D;have E0:=d.size;by_cases r:k<Z l
  .obtain⟨g,EM,N,_,E⟩:=AC (Ad HT d (by simp)) (by simp[AP]) k r;simp only[ei]at N;obtain⟨rfl,_,rfl⟩:=N;have d0:=E k r 0 (by omega);simp[AP]at d0;clear E;have M:=Ab (YD u v o l[k] C wr (Ad B0 d (by simp)) (by omega) BT);have p:j9 ((l.take (k+1)).filter (λy=> !JE o y)=m++if JE o l[k] then[] else[l[k]]):=by
    show _=_;rw[ep r,ii,<-Aa q];by_cases c:JE o l[k]=jj<;>simp[c]
   (go_wp2_with fail);refine M.mono ?_;rintro e j ⟨rfl,rfl⟩;clear M;cases c:JE o l[k] with
   |true=>
    (have s:j9 (m=(l.take (k+1)).filter λy=> !JE o y):=by show _=_;rw[Aa p,c];simp);clear c p q;go_wp2
    go_roundg (Z l-(k+1))
    case measure=>have:=Aa B;omega
    case rel=>exact⟨k+1,m,a,b,rfl,by go_num,by omega,by omega,rfl,s,n,d⟩
   |false=>
    (have s:j9 (m++[l[k]]=(l.take (k+1)).filter λy=> !JE o y):=by show _=_;rw[Aa p,c];simp);clear c p q;have AH:=fe j (j1 [X jI l[k]].toArray 21);have BS:=eC n (j1 [X jI l[k]].toArray 21);(have Ax:j9 (∀f,(j.alloc (j1 [X jI l[k]].toArray 21)).grownBy f (U a (Z m) b).ownBlock->Ac [] w f):=λf R=>(d.alloc _).grown R (λk A=>j6 ((n.lt k A).1)));go_wp2_with (at_builtin;refine eP _ rfl (.tmp 18) (.tmp 20) _ rfl w.heap.size 21 i0 _ 1 4 underlying234 B9 Q W A0 rfl (by omega) (U a (Z m) b) (Z m) (m.flatMap AP) rfl BS ⟨j.heap.size,0,Y⟩ 1 1 [X jI l[k]] rfl rfl (eS (cs:=[X jI l[k]].toArray) (t:=21) (fr:=(0,0)) AH) (by simp[Value.oneCell']) (by omega) (by unfold maxLen;omega) (by omega) (by simp;omega) (j.heap.size+1) (by simp) ?_;intro g1 T f Bx AB CL EY)
    go_roundg (Z l-(k+1))
    case measure=>have:=Aa B;omega
    case rel=>exact⟨k+1,m++[l[k]],V ⟨g1,0,Y⟩,T,by simp,by go_num,by omega,by simp;omega,rfl,s,by simpa[AP] using Bx,Ax f AB⟩
  .have HE:j9 (m=F):=by
    have h:=Aa q;rw[eu (by omega),Aa S]at h;exact h
   go_wp2;go_ret;rw[<-HE.out];exact⟨a,b,rfl,n,d⟩
def lenOf:j8->Nat
 | U _ n _=>n
 |_=>0
def Jw(c:Dq):Bool:=(Bm c).any (λa=>decide (2<lenOf a.tv))||decide (3<Z c.zC)
theorem On(c:Dq)(w:j7)(h:Jb w 0 c.hv c.bv c.zD c.zC)(L:Z c.zC<=1000):
  Calls prog 118 #[jH (j2 (Bc c))] w λe w'=>e=j4 (jJ (Jw c))/\Ac [] w w':=by
 have q:=Ab (Kq c (w.alloc (j1 (j2 (Bc c)) 189)) (h.kept ((Ac.refl [] w).alloc _) (by simp)) L);have S:=Ab (G9 h);have A1:Z (Bm c)<=1001:=by
  have:=Es c.zC;simp[Bm];omega
 have p:j9 (Jw c=((Bm c).any (λa=>decide (2<lenOf a.tv))||decide (3<Z c.zC))):=rfl;obtain⟨u,f,j,hv,bv,b⟩:=c;simp only at h L;obtain⟨y,s,rfl⟩:=Ak h.head;obtain⟨r,C,rfl⟩:=Ak h.body.row;generalize Jw ⟨u,f,j,U y (Z j) s,U r (Z b) C,b⟩=G at p⊢;generalize Bm ⟨u,f,j,U y (Z j) s,U r (Z b) C,b⟩=aT at q S A1 p;clear h;have D:=Ab (AI.new w (Bc ⟨u,f,j,U y (Z j) s,U r (Z b) C,b⟩) 189);simp only[Bc]at q D⊢;go_enter func118,ntmps118;go_wp2_with fail
 refine q.mono ?_;rintro e w2 ⟨BS,B2,rfl,F,B⟩;have I:j9 (Ac [] w w2):=((Ac.refl [] w).alloc _).trans B;have W:=Ab (D.kept B (by simp));have HO:=Ab F;clear q F B D;go_wp2;generalize w.heap.size=N at W⊢
 go_loopg [8] (Z aT) (λgk i wr=>∃(k:Nat),i=X J k/\k<=Z aT/\gk=Z aT-k/\j9 ((aT.take k).any (λa=>decide (2<lenOf a.tv))=K)/\j9 (Ac [] w wr)/\j9 (Ac [] w2 wr))
 case atStart=>exact⟨0,rfl,by omega,rfl,by show _=_;simp,I,Ac.refl _ _⟩
 case round=>
  clear I;obtain⟨k,rfl,hk,H,M,A,t⟩:=hrel;have HG:=Ab H;clear H;by_cases n:k<Z aT
  .obtain⟨g,CC,T,d0,d1,d2⟩:=IW (Ad HO t (by simp)) k n;simp only[ei]at T;obtain⟨rfl,_,rfl⟩:=T;obtain⟨P,d,Q,o⟩:=S aT[k] (eo n);rw[o]at d2;have x:j9 (2<d->G=jj):=by
    intro f;rw[Aa p,Jf _ _ k n (by simp[o,lenOf,f])];rfl
   have z:j9 (¬2<d->(aT.take (k+1)).any (λa=>decide (2<lenOf a.tv))=K):=by
    intro f;rw[CY _ _ k n (Aa M)];simp[o,lenOf,f]
   clear o;have R:=Ab (A.alloc (j1 [X J aT[k].place,O aT[k].name,U P d Q].toArray 187));have A0:=Ab (t.alloc (j1 [X J aT[k].place,O aT[k].name,U P d Q].toArray 187));by_cases m:2<d
   .have E:=Ab (x m);(have l:(2:Int)<(d:Int):=by omega);clear x z;go_wp2;go_ret;rw[Aa E];exact⟨rfl,R⟩
   .have E:=Ab (z m);(have l:¬(2:Int)<(d:Int):=by omega);clear x z;go_wp2
    go_roundg (Z aT-(k+1))
    case measure=>have:=Aa HG;omega
    case rel=>exact⟨k+1,by go_num,by omega,rfl,E,R,A0⟩
  .have HE:j9 (G=decide (3<Z b)):=by
    have h:=Aa M;rw[eu (by omega)]at h;show _=_;rw[Aa p,h];rfl
   have c3:=(W.kept t (by simp)).cell 3;simp at c3;by_cases m:3<Z b
   ·(have l:(3:Int)<(Z b:Int):=by omega);(have v:j9 (G=jj):=by show _=_;rw[Aa HE];simp[m]);go_wp2;go_ret;rw[v.out];exact⟨by simp[l],A⟩
   ·(have l:¬(3:Int)<(Z b:Int):=by omega);(have v:j9 (G=K):=by show _=_;rw[Aa HE];simp[m]);go_wp2;go_ret;rw[v.out];exact⟨by simp[l],A⟩
def Cc(o:Option Int):j8:=match o with|some p=> .tuple #[X J p,jJ jj]|none=> .tuple #[X J 0,jJ K]
def R2(c:Dq):Z (Bc c)=4:=rfl
structure DG(w:j7)(lv:j8)(cs:List Dq):Prop where
 row:jG w 0 189 4 lv (Z cs) (cs.flatMap Bc)
 each:∀c∈cs,Jb w 0 c.hv c.bv c.zD c.zC
def DG.kept{w w':j7}{a:j8}{cs:List Dq}(h:DG w a cs)(k:Ac [] w w'):DG w' a cs:=⟨Ad h.row k (by simp),λc b=>(h.each c b).kept k (by simp)⟩
def Fh{w:j7}{u:j8}{cs:List Dq}(h:DG w u cs)(k:Nat)(a:k<Z cs):
  ∃g s j n b m f e o d,u=U (V ⟨g,0,Y⟩) (Z cs) s/\cs[k]=⟨j,n,b,U m (Z b) f,U e (Z d) o,d⟩/\
   jF w ⟨g,k*4,Y⟩=V (X J j)/\jF w ⟨g,k*4+1,Y⟩=V (O n)/\jF w ⟨g,k*4+2,Y⟩=V (U m (Z b) f)/\jF w ⟨g,k*4+3,Y⟩=V (U e (Z d) o):=by
 obtain⟨g,s,x,_,i⟩:=AC h.row (λc _=>R2 c) k a;have l:=h.each _ (eo a);have t:=i k a 0 (by omega);have r:=i k a 1 (by omega);have p:=i k a 2 (by omega);have q:=i k a 3 (by omega);obtain⟨⟨j,n,b,y,z,d⟩,v⟩:∃c,cs[k]=c:=⟨_,rfl⟩;rw[v]at t r p q l;simp only at l;obtain⟨m,f,rfl⟩:=Ak l.head;obtain⟨e,o,rfl⟩:=Ak l.body.row;simp[Bc]at t r p q;exact⟨g,s,j,n,b,m,f,e,o,d,x,v,t,r,p,q⟩
def SG(x:g0)(a:GA):Bool:=a.name.toList==x.toList
def dC(cs:List Dq)(x:g0):Option Nat:=((cs.flatMap Bm).find? (SG x)).map λa=>lenOf a.tv
def Rf(cs:List Dq)(a:GA):Bool:=decide (2<lenOf a.tv)||(match dC cs a.name with|some n=> !(n==lenOf a.tv)|none=>K)
def dO(cs:List Dq)(l:List GA):Option Int:=(l.find? (Rf cs)).map λa=>a.place
def Kf{α:Type}{p:α->Bool}{l:List α}(h:l.any p=K):l.find? p=Y:=by
 rw[gV];intro y a b;rw[gC]at h;exact h y a b
def Zr{cs:List Dq}{k:Nat}(a:k<Z cs):cs.flatMap Bm=(cs.take k).flatMap Bm++(Bm cs[k]++(cs.drop (k+1)).flatMap Bm):=by
 rw[show cs.flatMap Bm=(cs.take k++cs[k]::cs.drop (k+1)).flatMap Bm from by rw[List.getElem_cons_drop,fH]]
 rw[eY,eN]
def cH{cs:List Dq}{x:g0}{k:Nat}(a:k<Z cs){l:List GA}(c:Bm cs[k]=l)(e:((cs.take k).flatMap Bm).any (SG x)=K){j:Nat}(b:j<Z l)(d:(l.take j).any (SG x)=K)(f:SG x l[j]=jj):
  dC cs x=V (lenOf l[j].tv):=by
 unfold dC;rw[Zr a,jm,Kf e,c,jm,FJ _ _ j b d f];rfl
def Zy{cs:List Dq}{x:g0}{k:Nat}(d:k<Z cs){l:List GA}(b:Bm cs[k]=l)(a:((cs.take k).flatMap Bm).any (SG x)=K)(c:l.any (SG x)=K):((cs.take (k+1)).flatMap Bm).any (SG x)=K:=by
 rw[ep d,eY,jh,a];simp[b,c]
theorem Tq(x:g0)(B9:Option Addr)(BT:Nat)(cs:List Dq)(w:j7)(h:DG w (U B9 (Z cs) BT) cs)(A1:∀c∈cs,Z c.zC<=1000)(Ha:Z cs<=1000):
  Calls prog 100 #[O x,U B9 (Z cs) BT] w λe w'=>e=j4 (Cc ((dC cs x).map fun(n:Nat)=>(n:Int)))/\Ac [] w w':=by
 have HP:=Ab h;have DT:=Ab A1;obtain⟨R,M⟩:∃R,dC cs x=R:=⟨_,rfl⟩;rw[M];have BA:=Ab M;clear h A1 M;go_enter func100,ntmps100;go_wp2
 go_loopg [12] (Z cs) (λgk i wr=>∃(k:Nat),i=X J k/\k<=Z cs/\gk=Z cs-k/\j9 (((cs.take k).flatMap Bm).any (SG x)=K)/\j9 (Ac [] w wr))
 case atStart=>exact⟨0,rfl,by omega,rfl,by show _=_;simp,Ac.refl _ _⟩
 case round=>
  obtain⟨k,rfl,hk,W,G,y⟩:=hrel;have HG:=Ab W;clear W;by_cases m:k<Z cs
  .obtain⟨g,FW,u,z,l,v,t,r,A,b,q,B0,d0,T,C,d3⟩:=Fh (HP.kept y) k m;simp only[ei]at q;obtain⟨rfl,_,rfl⟩:=q;have o:=(HP.kept y).each _ (eo m);have D:=Aa DT _ (eo m);obtain⟨a,d⟩:∃a,Bm cs[k]=a:=⟨_,rfl⟩;have HY:=Ab (λj (hj:j<Z a) h2 h3=>cH m d G hj h2 h3);have HS:=Ab (Zy m d G);rw[B0]at o D d;simp only at o D;have B:=Ab (Kq ⟨u,z,l,U v (Z l) t,U r (Z b) A,b⟩ (wr.alloc (j1 [X J u,O z,U v (Z l) t,U r (Z b) A].toArray 189)) (o.kept ((Ac.refl [] wr).alloc _) (by simp)) D);have A2:=Ab (G9 (c:=⟨u,z,l,U v (Z l) t,U r (Z b) A,b⟩) o);have FT:Z a<=1001:=by
    have:=Es b;rw[<-d];simp[Bm];omega
   rw[d]at B A2;have p:=Ab (y.alloc (j1 [X J u,O z,U v (Z l) t,U r (Z b) A].toArray 189));clear o B0 d;simp only[Bc]at B;(go_wp2_with fail);refine B.mono ?_;rintro e w2 ⟨FO,Go,rfl,Q,k2⟩;have Ax:=Ab (p.trans k2);have HO:=Ab Q;clear B Q k2 p d0 T C d3;go_wp2
   go_loopg [19] (Z a) (λgj i S=>∃(j:Nat),i=X J j/\j<=Z a/\gj=Z a-j/\j9 ((a.take j).any (SG x)=K)/\j9 (Ac [] w S)/\j9 (Ac [] w2 S))
   case atStart=>exact⟨0,rfl,by omega,rfl,by show _=_;simp,Ax,Ac.refl _ _⟩
   case round=>
    clear Ax;obtain⟨j,rfl,hj,A0,I,B2,CL⟩:=hrel;have FF:=Ab A0;clear A0;by_cases s:j<Z a
    .obtain⟨gg,HB,q,d0,T,C⟩:=IW (Ad HO CL (by simp)) j s;simp only[ei]at q;obtain⟨rfl,_,rfl⟩:=q;obtain⟨AH,H,AT,E⟩:=A2 a[j] (eo s);rw[E]at C;have L:j9 ((a[j].name.toList==x.toList)=jj->R=V H):=by
      intro f;have:=Aa HY j s I f;rw[E]at this;rw[<-Aa BA];exact this
     have F:j9 ((a[j].name.toList==x.toList)=K->(a.take (j+1)).any (SG x)=K):=by
      intro f;rw[CY _ _ j s (Aa I)];exact f
     have p:=Ab (B2.alloc (j1 [X J a[j].place,O a[j].name,U AH H AT].toArray 187));have EX:=Ab (CL.alloc (j1 [X J a[j].place,O a[j].name,U AH H AT].toArray 187));clear E;cases f:(a[j].name.toList==x.toList)with
     |true=>
      have P:=Ab (L f);clear L F;go_wp2;go_ret2;rw[Aa P];exact⟨rfl,p⟩
     |false=>
      have P:=Ab (F f);clear L F;go_wp2
      go_roundg (Z a-(j+1))
      case measure=>have:=Aa FF;omega
      case rel=>exact⟨j+1,by go_num,by omega,rfl,P,p,EX⟩
    .have N:j9 (((cs.take (k+1)).flatMap Bm).any (SG x)=K):=by
      have h:=Aa I;rw[eu (by omega)]at h;exact HS h
     go_wp2
     go_roundg (Z cs-(k+1))
     case measure=>have:=Aa HG;omega
     case rel=>exact⟨k+1,by go_num,by omega,rfl,N,B2⟩
  .have N:j9 (R=Y):=by
    have h:=Aa G;rw[eu (by omega)]at h;show _=_;rw[<-Aa BA];unfold dC;rw[Kf h];rfl
   go_wp2;go_ret2;rw[N.out];exact⟨rfl,y⟩
theorem Qf(Ax:Option Addr)(W:Nat)(b:List GA)(base:Nat)(s:Option Addr)(r:Nat)(cs:List Dq)(w:j7)(AT:jG w base 187 3 (U Ax (Z b) W) (Z b) (b.flatMap AL))(G:∀a∈b,∃ad n cp,a.tv=U ad n cp)(E0:Z b<=1001)(A1:∀a∈b,lenOf a.tv<=1000)(h:DG w (U s (Z cs) r) cs)(T:∀c∈cs,Z c.zC<=1000)(BA:Z cs<=1000):
  Calls prog 91 #[U Ax (Z b) W,U s (Z cs) r] w λe t=>e=j4 (Cc (dO cs b))/\Ac [] w t:=by
 have HO:=Ab AT;have CC:=Ab G;have Bx:j9 (∀x wr,Ac [] w wr->Calls prog 100 #[O x,U s (Z cs) r] wr λe t=>e=j4 (Cc ((dC cs x).map fun(n:Nat)=>(n:Int)))/\Ac [] wr t):=λx wr I=>Tq x s r cs wr (h.kept I) T BA
 obtain⟨R,D⟩:∃R,dO cs b=R:=⟨_,rfl⟩;rw[D];have AB:j9 ((b.find? (Rf cs)).map (λa=>a.place)=R):=D;clear h T D AT G A1;go_enter func91,ntmps91;go_wp2
 go_loopg [12] (Z b) (λgk i wr=>∃(k:Nat),i=X J k/\k<=Z b/\gk=Z b-k/\j9 ((b.take k).any (Rf cs)=K)/\j9 (Ac [] w wr))
 case atStart=>exact⟨0,rfl,by omega,rfl,by show _=_;simp,Ac.refl _ _⟩
 case round=>
  obtain⟨k,rfl,I,M,A,C⟩:=hrel;have L:=Ab M;clear M;by_cases q:k<Z b
  .obtain⟨g,EY,he,d0,d1,F⟩:=IW (Ad HO C (by simp)) k q;simp only[ei]at he;obtain⟨rfl,_,rfl⟩:=he;obtain⟨P,d,Q,v⟩:=CC b[k] (eo q);rw[v]at F;have l:j9 (Rf cs b[k]=jj->R=V b[k].place):=by
    intro B;rw[<-Aa AB,FJ _ _ k q (Aa A) B];rfl
   have m:j9 (Rf cs b[k]=K->(b.take (k+1)).any (Rf cs)=K):=by
    intro B;rw[CY _ _ k q (Aa A)];exact B
   have f:j9 (Rf cs b[k]=(decide (2<d)||(match dC cs b[k].name with|some n=> !(n==d)|none=>K))):=by
    show _=_;unfold Rf;rw[v];rfl
   clear v;have z:=C.alloc (j1 [X J b[k].place,O b[k].name,U P d Q].toArray 187);have N:=Ab (AI.new wr [X J b[k].place,O b[k].name,U P d Q] 187);have H:=Ab (Bx b[k].name _ z);have S:=Ab z;clear z;(go_wp2_with fail);refine H.mono ?_;rintro e w3 ⟨rfl,y⟩;have E:=N.kept y (by simp);have p:=Ab (S.trans y);have c0:=E.cell 0;have c2:=E.cell 2;simp at c0 c2;clear H N S y E d0 d1 F;by_cases u:2<d
   ·(have A0:(2:Int)<(d:Int):=by omega);have j:j9 (R=V b[k].place):=l (by rw[Aa f];simp[u]);clear l m f;cases dC cs b[k].name with
    |none=>
     simp only[Option.map_none,Cc];go_wp2;go_ret2;rw[Aa j];exact⟨rfl,p⟩
    |some n=>
     simp only[gu,Cc];go_wp2;go_ret2;rw[Aa j];exact⟨rfl,p⟩
   ·(have A0:¬(2:Int)<(d:Int):=by omega);cases hv:dC cs b[k].name with
    |none=>
     have j:j9 ((b.take (k+1)).any (Rf cs)=K):=m (by rw[Aa f,hv];simp[u]);clear l m f hv;simp only[Option.map_none,Cc];go_wp2
     go_roundg (Z b-(k+1))
     case measure=>have:=Aa L;omega
     case rel=>exact⟨k+1,by go_num,by omega,rfl,j,p⟩
    |some n=>
     by_cases o:n=d
     .have j:j9 ((b.take (k+1)).any (Rf cs)=K):=m (by rw[Aa f,hv];simp[u,o]);(have CL:((d:Int) !=(n:Int))=K:=by rw[o];simp);(have B0:((d:Int)==(n:Int))=jj:=by rw[o];simp);clear l m f hv;simp only[gu,Cc];clear o;go_wp2
      go_roundg (Z b-(k+1))
      case measure=>have:=Aa L;omega
      case rel=>exact⟨k+1,by go_num,by omega,rfl,j,p⟩
     .have j:j9 (R=V b[k].place):=l (by rw[Aa f,hv];simp[o]);(have CL:((d:Int) !=(n:Int))=jj:=by simp[bne];omega);(have B0:((d:Int)==(n:Int))=K:=by rw[ff];omega);clear l m f hv;simp only[gu,Cc];go_wp2;go_ret2;rw[Aa j];exact⟨rfl,p⟩
  .have HE:j9 (R=Y):=by
    have h:=Aa A;rw[eu (by omega)]at h;show _=_;rw[<-Aa AB,Kf h];rfl
   go_wp2;go_ret2;rw[HE.out];exact⟨rfl,C⟩
def F3(zC:List Oi):List AO:=zC.flatMap λp=>if p.1.sort==0 then p.1.ts else[]
def UE{a:List Oi}{k:Nat}(b:k<Z a):F3 (a.take (k+1))=F3 (a.take k)++(if a[k].1.sort==0 then a[k].1.ts else[]):=by
 unfold F3;rw[ep b,eY];simp
def YF(a:List Oi):Z (F3 a)<=Z (Bk a):=by
 induction a with
 |nil=>simp[F3]
 |cons p l ih=>
  unfold F3 Bk at*;simp only[eN,eJ];have:Z (if p.1.sort==0 then p.1.ts else[])<=Z (AV p.1):=by
   by_cases h:(p.1.sort==0)=jj
   .simp[h,AV,A9]
   .simp[h]
  omega
def N1(zC:List Oi)(y:Int):Bool:=(F3 zC).any λt=>t.v==y
def DV(zC:List Oi)(t:AO):Bool:=t.v !=0&& !N1 zC t.v
def XF{ts:List AO}{c:List Oi}{g a:List Int}(h:Gl ts g)(f:Gl (F3 c) a):0<Z (g.filter λy=> !JE a y)↔ts.any (DV c)=jj:=by
 rw[List.length_pos_iff_exists_mem,fW];constructor
 .rintro ⟨y,m⟩;obtain⟨o,j⟩:=e9.1 m;obtain⟨i,t,l,p⟩:=(h.mem y).1 o;refine⟨t,l,?_⟩;unfold DV N1;rw[p];have e:((F3 c).any λt=>t.v==y)=K:=by
   rw[gC];intro u d n;have:y∈a:=(f.mem y).2 ⟨i,u,d,by simpa using n⟩;rw[(PA a y).2 this]at j;cases j
  rw[e];simp[i]
 .rintro ⟨t,q,b⟩;unfold DV N1 at b;simp only[eW,bne_iff_ne,ne_eq,io,gC]at b;refine⟨t.v,e9.2 ⟨(h.mem _).2 ⟨b.1,t,q,rfl⟩,?_⟩⟩;cases e:JE a t.v with
  |false=>rfl
  |true=>
   obtain⟨_,u,d,k⟩:=(f.mem _).1 ((PA a _).1 e);exact absurd (by simpa using k) (b.2 u d)
theorem NG(S:Option Addr)(H:Nat)(ts:List AO)(bt:Nat)(BT:Option Addr)(A2:Nat)(a:List Oi)(w:j7)(W:jG w bt 215 2 (U S (Z ts) H) (Z ts) (ts.flatMap Aq))(h:CE w 0 (U BT (Z a) A2) a)(IS:Z a<=1000)(CC:∀p∈a,(p.1.sort==0)=jj->0<Z p.1.ts/\Z p.1.ts<=1000)(HZ:Z ts<=900000)(A:Z (F3 a)<=900000):
  Calls prog 136 #[U S (Z ts) H,U BT (Z a) A2] w λe w'=>e=j4 (jJ (ts.any (DV a)))/\Ac [] w w':=by
 obtain⟨i0,HS,FO,H1,HO⟩:=fC Tryz.zc;have EK:j9 (∀j c,Gl ts j->Gl (F3 a) c->(0<Z (j.filter λy=> !JE c y)↔ts.any (DV a)=jj)):=λj c h1 h2=>XF h1 h2
 generalize ts.any (DV a)=LB at EK⊢;have HT:=Ab W;have HB:=Ab h;have HR:=Ab CC;have H3:=Ab A;clear W h CC A;go_enter func136,ntmps136;go_wp2
 go_loopg [5,10] (Z a) (λgk o i wr=>∃(k:Nat) (b:List AO) (d:Option Addr) (f:Nat),o=U d (Z b) f/\i=X J k/\k<=Z a/\Z b<=k*1000/\gk=Z a-k/\j9 (b=F3 (a.take k))/\jG wr w.heap.size 215 2 (U d (Z b) f) (Z b) (b.flatMap Aq)/\j9 (Ac [] w wr))
 case atStart=>exact⟨0,[],Y,0,rfl,rfl,by omega,by simp,rfl,by show _=_;simp[F3],eU _ _ _ _,Ac.refl _ _⟩
 case round=>
  obtain⟨k,b,d,f,rfl,rfl,hk,KS,EM,m,Q,u⟩:=hrel;have HG:=Ab EM;clear EM;have K2:=u.size;by_cases D:k<Z a
  .have hB:=HB.kept u (by simp);obtain⟨g,K5,l,x,n,B0,AB,EX,d0,d1,d2,d3,d4,d5,d6,d7,d8⟩:=Il hB k D;simp only[ei]at B0;obtain⟨rfl,_,rfl⟩:=B0;have q:=Ab (UE D);have z:=Ab (HR a[k] (eo D));rw[AB]at q z;have I:=Ab (Ad EX ((Ac.refl [] wr).alloc (j1 (j2 (Aw (l,U x (Z l.ts) n))) 217)) (by simp));clear hB EX AB;have M:=Ab (u.alloc (j1 (j2 (Aw (l,U x (Z l.ts) n))) 217));have G:=eC Q (j1 (j2 (Aw (l,U x (Z l.ts) n))) 217);(have Ax:w.heap.size<=(wr.alloc (j1 (j2 (Aw (l,U x (Z l.ts) n))) 217)).heap.size:=by simp;omega);simp only[Aw]at I M G Ax;cases hs:(l.sort==0)with
   |false=>
    (have L:j9 (b=F3 (a.take (k+1))):=by show _=_;rw[Aa q,Aa m];simp[hs]);clear q m z;go_wp2
    go_roundg (Z a-(k+1))
    case measure=>have:=Aa HG;omega
    case rel=>exact⟨k+1,b,d,f,rfl,by go_num,by omega,by omega,rfl,L,G,M⟩
   |true=>
    (have L:j9 (b++l.ts=F3 (a.take (k+1))):=by show _=_;rw[Aa q,Aa m];simp[hs]);obtain⟨E0,HK⟩:=z hs;simp only at E0 HK;obtain⟨gl,rfl,HI,A1,_,_⟩:=Xe I E0;have HV:=Ab A1;(have HF:j9 (∀t,(wr.alloc (j1 [X J l.place,X J l.sort,X J l.ap,O l.an,U (V ⟨gl,0,Y⟩) (Z l.ts) n,X jI l.l.v,O l.l.s,X jI l.r.v,O l.r.s].toArray 217)).grownBy t (U d (Z b) f).ownBlock->Ac [] w t):=λt hg=>M.grown hg (λk hk=>j6 ((Q.lt k hk).1)));clear q m z A1 I;(have FF:Z (b++l.ts)<=(k+1)*1000:=by simp;omega);(have H9:k<=1000:=by omega);go_wp2_with (at_builtin;refine eP _ rfl (.tmp 17) (.tmp 20) _ rfl w.heap.size 215 i0 _ 2 24 underlying185 HS FO H1 HO rfl (by omega) (U d (Z b) f) (Z b) (b.flatMap Aq) rfl G ⟨gl,0,Y⟩ (Z l.ts) n (l.ts.flatMap Aq) rfl HI HV (Ka _) (by omega) (by unfold maxLen;omega) (by omega) Ax _ rfl ?_;intro g1 Ha t HP HD H7 FC)
    go_roundg (Z a-(k+1))
    case measure=>have:=Aa HG;omega
    case rel=>exact⟨k+1,b++l.ts,V ⟨g1,0,Y⟩,Ha,by simp,by go_num,by omega,FF,rfl,L,by simpa using HP,HF t HD⟩
  .have HE:j9 (b=F3 a):=by
    have h:=Aa m;rw[eu (by omega)]at h;exact h
   (have A:Z b<=900000:=by rw[Aa HE];exact H3);have T:=Ab (Kw S H ts bt wr (Ad HT u (by simp)) HZ);clear m;(go_wp2_with fail);refine T.mono ?_;rintro e w4 ⟨j,HN,HC,rfl,E,FL,k4⟩;have FB:=Ad Q k4 (by simp);have EY:=Ab (Kw d f b w.heap.size w4 FB A);have FA:=Ab (u.trans k4);have HW:=Ab E;have FC:=E.le;clear T E;(go_wp2_with fail);refine EY.mono ?_;rintro e w5 ⟨c,HY,HQ,rfl,B,HJ,k5⟩;have FT:=Ad FL k5 (by simp);have K3:=B.le;have R:=Ab (TI HN HC j HY HQ c _ _ w5 FT HJ (by omega) (by omega) B.zK);have Go:=Ab (FA.trans k5);have P:=Ab (EK j c HW (by rw[<-Aa HE];exact B));clear EY B;generalize(j.filter λy=> !JE c y)=F at R P;(go_wp2_with fail);refine R.mono ?_;rintro e w6 ⟨K8,JJ,rfl,K7,k6⟩;have AT:=Ab (Go.trans k6);clear R;by_cases A0:0<Z F
   ·(have N:(0:Int)<(Z F:Int):=by omega);have C:j9 (LB=jj):=P.1 A0;go_wp2;go_ret;rw[C.out];exact⟨by simp[N],AT⟩
   ·(have N:¬(0:Int)<(Z F:Int):=by omega);have C:j9 (LB=K):=by
     cases hb:LB with
     |false=>rfl
     |true=>exact absurd (P.2 hb) A0
    go_wp2;go_ret;rw[C.out];exact⟨by simp[N],AT⟩
theorem Lz(adb:Option Addr)(cpb:Nat)(zC:List Oi)(w:World)(h:CE w 0 (.slice adb zC.length cpb) zC)(hlen:zC.length<=1000)(hfit:∀p∈zC,(p.1.sort==0)=true->0<p.1.ts.length/\p.1.ts.length<=1000)(htl:∀p∈zC,(AV p.1).length<=1000)(hbl:(F3 zC).length<=900000):
  Calls prog 93 #[.slice adb zC.length cpb] w λe w'=>e=.returned (Cc ((zC.find? λp=>(AV p.1).any (DV zC)).map λp=>p.1.place))/\Ac [] w w':=by
 have HB:=Ab h;have HTl:=Ab htl;have HIs:Hid (∀(adt:Option Addr) (cpt:Nat) (ts:List AO) (wr:World),Ac [] w wr->wr.ownsRow 0 215 2 (.slice adt ts.length cpt) ts.length (ts.flatMap Aq)->ts.length<=900000->Calls prog 136 #[.slice adt ts.length cpt,.slice adb zC.length cpb] wr λe w'=>e=.returned (.bool (ts.any (DV zC)))/\Ac [] wr w'):=λadt cpt ts wr hk hr hl=>NG adt cpt ts 0 adb cpb zC wr hr (h.kept hk (by simp)) hlen hfit hl hbl
 obtain⟨R,hR⟩:∃R,((zC.find? λp=>(AV p.1).any (DV zC)).map λp=>p.1.place)=R:=⟨_,rfl⟩;rw[hR];have HRR:=Ab hR;clear h htl hR hfit hbl;go_enter func93,ntmps93;go_wp2
 go_loopg [8] zC.length (λgk i wr=>∃(k:Nat),i=.int .i64 k/\k<=zC.length/\gk=zC.length-k/\Hid ((zC.take k).any (λp=>(AV p.1).any (DV zC))=false)/\Hid (Ac [] w wr))
 case atStart=>exact⟨0,rfl,by omega,rfl,by show _=_;simp,Ac.refl _ _⟩
 case round=>
  obtain⟨k,rfl,hk,hgk,HC,HK⟩:=hrel;have HG:=Ab hgk;clear hgk;by_cases zX:k<zC.length
  .obtain⟨g,cap,q,adl,cpl,hbv,hlk,hin,d0,d1,d2,d3,d4,d5,d6,d7,d8⟩:=Il (HB.kept HK (by simp)) k zX;simp only[ei]at hbv;obtain⟨rfl,_,rfl⟩:=hbv;have htq:=Aa HTl zC[k] (eo zX);have HY:Hid ((AV q).any (DV zC)=true->R=some q.place):=by
    intro hh;rw[<-Aa HRR,FJ _ _ k zX (Aa HC) (by rw[hlk];exact hh),hlk];rfl
   have HN:Hid ((AV q).any (DV zC)=false->(zC.take (k+1)).any (λp=>(AV p.1).any (DV zC))=false):=by
    intro hh;rw[CY _ _ k zX (Aa HC)];rw[hlk];exact hh
   rw[hlk]at htq;simp only at htq;have HTm:=Ab (Lr q adl cpl (wr.alloc (.cells (Aw (q,.slice adl q.ts.length cpl)).toArray 217)) (Ad hin ((Ac.refl [] wr).alloc _) (by simp)));have hN:=Ab (AI.new wr (Aw (q,.slice adl q.ts.length cpl)) 217);have hK1:=Ab (HK.alloc (.cells (Aw (q,.slice adl q.ts.length cpl)).toArray 217));clear hin hlk;simp only[Aw]at HTm;(go_wp2_with fail);refine HTm.mono ?_;rintro e w3 ⟨ad3,cp3,rfl,hrow3,k3⟩;have hN3:=Ab (hN.kept k3 (by simp));have hK3:=Ab (hK1.trans k3);have HLo:=Ab (HIs ad3 cp3 (AV q) w3 hK3 hrow3 (by omega));clear HTm hrow3 k3 hN hK1 d0 d1 d2 d3 d4 d5 d6 d7 d8;generalize(AV q).any (DV zC)=LB at HLo HY HN;generalize(AV q).length=tl at HLo htq⊢;(go_wp2_with fail);refine HLo.mono ?_;rintro e w5 ⟨rfl,k5⟩;have hN6:=hN3.kept k5 (by simp);have hK6:=Ab (hK3.trans k5);clear HLo k5 hN3;cases LB with
   |true=>
    have HT:=Ab (HY rfl);have c0:=hN6.cell 0;simp[Aw]at c0;clear HY HN hN6;go_wp2;go_ret2;rw[Aa HT];exact⟨rfl,hK6⟩
   |false=>
    have HT:=Ab (HN rfl);clear HY HN hN6;go_wp2
    go_roundg (zC.length-(k+1))
    case measure=>have:=Aa HG;omega
    case rel=>exact⟨k+1,by go_num,by omega,rfl,HT,hK6⟩
  .have HE:Hid (R=none):=by
    have h:=Aa HC;rw[eu (by omega)]at h;show _=_;rw[<-Aa HRR,Kf h];rfl
   go_wp2;go_ret2;rw[HE.out];exact⟨rfl,HK⟩
def N5(c:Dq)(t:AO):Bool:=t.v !=0&& !N1 c.zC t.v
def Hx(c:Dq):Option Int:=if c.zD.any (N5 c)then V c.hp else(c.zC.find? λp=>(AV p.1).any (N5 c)).map λp=>p.1.place
def Ma{α:Type}{f g:α->Bool}:∀{l:List α},(∀x∈l,f x=g x)->l.any f=l.any g
 |[],_=>rfl
 |x::l,h=>by rw[iX,iX,h x (by simp),Ma (λy a=>h y (by simp[a]))]
def MJ{α:Type}{f g:α->Bool}:∀{l:List α},(∀x∈l,f x=g x)->l.find? f=l.find? g
 |[],_=>rfl
 |x::l,h=>by rw[iw,iw,h x (by simp),MJ (λy a=>h y (by simp[a]))]
theorem Oj(c:Dq)(w:j7)(h:Jb w 0 c.hv c.bv c.zD c.zC)(f:Ov c)(C:Z (Bp c)<=900000):
  Calls prog 120 #[jH (j2 (Bc c))] w λe q=>e=j4 (Cc (Hx c))/\Ac [] w q:=by
 have o:Z (F3 c.zC)<=900000:=by
  have:=YF c.zC;simp only[Bp,eJ]at C;omega
 have A:Z c.zD<=900000:=by have:=f.head.2;omega
 have j:∀p∈c.zC,(p.1.sort==0)=jj->0<Z p.1.ts/\Z p.1.ts<=1000:=λp b M=>⟨(f.each p b).1 (by simp[A9,M]),(f.each p b).2⟩
 have s:∀p∈c.zC,Z (AV p.1)<=1000:=λp b=>(f.zS b).2
 have v:=f.lits;have d:j9 (Hx c=if c.zD.any (DV c.zC)then V c.hp else(c.zC.find? λp=>(AV p.1).any (DV c.zC)).map λp=>p.1.place):=rfl;generalize Hx c=U at d⊢;clear f C;obtain⟨b,H,k,R,S,a⟩:=c;simp only at h o A j s v d;obtain⟨x,t,rfl⟩:=Ak h.head;obtain⟨g,i,rfl⟩:=Ak h.body.row;have G:=Ab (AI.new w [X J b,O H,.slice x (Z k) t,.slice g (Z a) i] 189);have l:=(Ac.refl [] w).alloc (j1 [X J b,O H,.slice x (Z k) t,.slice g (Z a) i].toArray 189);have n:=Ab (NG x t k 0 g i a _ (Ad h.head l (by simp)) (h.body.kept l (by simp)) v j A o);have z:j9 (∀wr,Ac [] w wr->Calls prog 93 #[.slice g (Z a) i] wr λe q=>e=j4 (Cc ((a.find? λp=>(AV p.1).any (DV a)).map λp=>p.1.place))/\Ac [] wr q):=λwr I=>Lz g i a wr (h.body.kept I (by simp)) v j s o
 have D:=Ab l;generalize((a.find? λp=>(AV p.1).any (DV a)).map λp=>p.1.place)=FO at z d;generalize k.any (DV a)=LB at n d;clear h l j s;simp only[Bc];go_enter func120,ntmps120;go_wp2_with fail
 refine n.mono ?_;rintro e N ⟨rfl,y⟩;have r:=G.kept y (by simp);have u:=Ab (D.trans y);have P:=r.cell 0;have L:=r.cell 3;simp at P L;have F:=Ab (z N u);clear n G D y r z;cases LB with
 |true=>
  have m:j9 (U=V b):=by have h:=Aa d;exact h
  clear d;go_wp2;go_ret2;rw[Aa m];exact⟨rfl,u⟩
 |false=>
  have m:j9 (U=FO):=by have h:=Aa d;exact h
  clear d;go_wp2_with fail
  refine F.mono ?_;rintro e Q ⟨rfl,B⟩;have E:=Ab (u.trans B);clear F B;cases FO with
  |none=>
   simp only[Cc];go_wp2;go_ret2;rw[Aa m];exact⟨rfl,E⟩
  |some p=>
   simp only[Cc];go_wp2;go_ret2;rw[Aa m];exact⟨rfl,E⟩
structure Wg(b:Nat)(w w':j7):Prop where
 os:w'.os=w.os
 tape:w'.tape=w.tape
 output:w'.output=w.output
 size:w.heap.size<=w'.heap.size
 block:∀k,k<b->w'.heap[k]?=w.heap[k]?
def Wg.trans{b:Nat}{u v w:j7}(h:Wg b u v)(k:Wg b v w):Wg b u w:=⟨k.os.trans h.os,k.tape.trans h.tape,k.output.trans h.output,fJ h.size k.size,λi a=>(k.block i a).trans (h.block i a)⟩
def Wg.of{M:List Nat}{b:Nat}{w w':j7}(k:Ac M w w')(d:b<=w.heap.size)(a:∀i,i∈M->b<=i):Wg b w w':=
 ⟨k.os,k.tape,k.output,k.size,λi c=>k.block i (by omega) (λh=>by have:=a i h;omega)⟩
def Wg.kept{b:Nat}{w w':j7}(h:Wg b w w')(c:w.heap.size<=b):Ac [] w w':=⟨h.os,h.tape,h.output,h.size,λk a _=>h.block k (by omega)⟩
def JK{b:Nat}{w w':j7}{base:Nat}{e:TypeId}{size:Nat}{v:j8}{n:Nat}{a:List j8}(h:jG w base e size v n a)(k:Wg b w w')(d:∀i,v.ownBlock=V i->i<b):jG w' base e size v n a:=by
 refine⟨h.1,?_⟩;rcases h.2 with o|⟨g,f,c,rfl,l,j,m⟩
 .exact .inl o
 .refine .inr ⟨g,f,c,rfl,l,?_,m⟩;rw[k.block g (d g rfl)];exact j
structure aU(w:j7)(b:Nat)(c:Dq):Prop where
 at_:Jb w 0 c.hv c.bv c.zD c.zC
 lt1:∀k,c.hv.ownBlock=V k->k<b
 lt2:∀k,c.bv.ownBlock=V k->k<b
 lt3:∀p∈c.zC,∀k,p.2.ownBlock=V k->k<b
def aU.low{w w':j7}{b:Nat}{c:Dq}(h:aU w b c)(k:Wg b w w'):aU w' b c:=
 ⟨⟨JK h.at_.head k h.lt1,⟨JK h.at_.body.row k h.lt2,λp a=>⟨JK (h.at_.body.each p a).1 k (h.lt3 p a),(h.at_.body.each p a).2⟩⟩⟩,h.lt1,h.lt2,h.lt3⟩
structure Eu(w:j7)(b:Nat)(n:Int)(nv tv:j8)(names zB:List g0):Prop where
 zO:AI w b [X J n,nv,tv] 210
 rn:jG w (b+1) 9 1 nv (Z names) (names.flatMap Ah)
 rt:jG w (b+1) 170 1 tv (Z zB) (zB.flatMap Ah)
 ant:B1 nv tv
 rin:CP E8 names
 rit:CP E8 zB
def Eu.kept{w w':j7}{b:Nat}{n:Int}{a tv:j8}{d c:List g0}(h:Eu w b n a tv d c)(k:Ac [] w w'):Eu w' b n a tv d c:=
 ⟨h.zO.kept k (by simp),Ad h.rn k (by simp),Ad h.rt k (by simp),h.ant,h.rin,h.rit⟩
def B1.symm{u v:j8}(h:B1 u v):B1 v u:=λk b a=>h k a b
theorem Qo(b:Nat)(n:Nat)(p tv:j8)(c a:List g0)(w:j7)(h:Eu w b n p tv c a):
  Calls prog 117 #[.pointer (V ⟨b,0,Y⟩)] w λe l=>e=j4 (jJ (decide (12<n)||decide (6<Z c)||decide (6<Z a)))/\l=w:=by
 obtain⟨t,x,rfl⟩:=Ak h.rn;obtain⟨v,u,rfl⟩:=Ak h.rt;have s:=h.zO.cell 0;have m:=h.zO.cell 1;have o:=h.zO.cell 2;simp at s m o;clear h;obtain⟨f,i⟩:∃f,(decide (12<n)||decide (6<Z c)||decide (6<Z a))=f:=⟨_,rfl⟩;rw[i];have g:=Ab i;clear i;by_cases k:12<n
 .have r:(12:Int)<(n:Int):=by omega
  have d:j9 (f=jj):=by show _=_;rw[<-Aa g];simp[k]
  go_enter func117,ntmps117;go_wp2;go_ret;rw[Aa d];exact⟨by simp,rfl⟩
 .have r:¬(12:Int)<(n:Int):=by omega
  by_cases j:6<Z c
  ·(have q:(6:Int)<(Z c:Int):=by omega);(have d:j9 (f=jj):=by show _=_;rw[<-Aa g];simp[j]);go_enter func117,ntmps117;go_wp2;go_ret;rw[Aa d];exact⟨by simp,rfl⟩
  ·(have q:¬(6:Int)<(Z c:Int):=by omega);have d:j9 (f=decide ((6:Int)<(Z a:Int))):=by
    show _=_;rw[<-Aa g];have e:decide ((6:Int)<(Z a:Int))=decide (6<Z a):=by
     by_cases h:6<Z a
     ·(have:(6:Int)<(Z a:Int):=by omega);simp[h,this]
     ·(have:¬(6:Int)<(Z a:Int):=by omega);simp[h,this]
    rw[e];simp[k,j]
   go_enter func117,ntmps117;go_wp2;go_ret;rw[Aa d];exact⟨by simp,rfl⟩
