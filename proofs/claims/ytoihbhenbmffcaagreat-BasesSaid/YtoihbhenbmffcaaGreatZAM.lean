import Derived.Test.YtoihbhenbmffcaaGreatZAK
import Derived.Test.YtoihbhenbmffcaaGreatZAC
set_option linter.all false
set_option maxHeartbeats 0
open List renaming length->Z,toArray->j1
open Option renaming none->Y,some->V
open Go.Value renaming slice->U,int->X,string->O,agg->kx,bool->k0,ownBlock->kF
open Bool renaming false->K,true->hG
open Go.IntKind renaming i64->J,i32->ky
open Go.Obj renaming cells->jj
open Go.Ending renaming returned->j3
open Or renaming inl->kn,inr->kp
open Go renaming World->kq,Value->ks
open Go.RowKit renaming Hid->kt
open Go.World renaming cell?->ku,ownsRow->kw
namespace Go.Proofs.YtoihbhenbmffcaaGreat
open Go.RowKit Go.Proofs.Tryz
variable{w v u:kq}{m n k i j b:Nat}{y:kJ ks}{T:TypeId}{z:ks}{o:Option Addr}{p:kJ CB}{s t:zA}{M:kJ Nat}{I:Int}{c:kJ AY}
def A6(l:PL):Bool:=l.sort==0||l.sort==1
def AX(l:PL):kJ AO:=if A6 l then l.ts else[l.l,l.r]
theorem Oa(l:PL)(p:Option Addr)(n o:Nat)(w:kq):
  Calls prog 133 #[kx (j1 (Aw (l,U p n o)))] w λe q=>e=j3 (k0 (A6 l))/\Ac [] w q:=by
 have j:=(kL [] w).alloc (jj (j1 (Aw (l,U p n o))) 166);obtain⟨i,a,m,c,d,f,g⟩:=l;have r:kt (∀b,A6 ⟨i,a,m,c,d,f,g⟩=b->(a==0||a==1)=b):=λb h=>h
 simp only[Aw]at j⊢;go_enter func133,ntmps133;cases h0:(a==0)with
 |true=>
  have k:kt (A6 ⟨i,a,m,c,d,f,g⟩=hG):=by show _=_;unfold A6;simp only;rw[h0];rfl
  go_wp2;go_ret;rw[k.out];exact⟨rfl,j⟩
 |false=>
  have k:kt (A6 ⟨i,a,m,c,d,f,g⟩=(a==1)):=by show _=_;unfold A6;simp only;rw[h0];rfl
  go_wp2;go_ret;rw[k.out];exact⟨rfl,j⟩
def Yg(h:AF w m y T)(a:Z y=n*k)(b:n<=maxLen):kw w 0 T k (U (V ⟨m,0,Y⟩) n n) n y:=by
 refine⟨a,kp ⟨m,n,j1 y,rfl,fP _,h,fJ _,b,by simpa using a,?_⟩⟩;rw[<-a];simp
theorem Lx(l:PL)(c:Option Addr)(d:Nat)(w:kq)(h:JI w 0 (l,U c (Z l.ts) d)):
  Calls prog 136 #[kx (j1 (Aw (l,U c (Z l.ts) d)))] w λe p=>∃z A,e=j3 (U z (Z (AX l)) A)/\kw p 0 164 2 (U z (Z (AX l)) A) (Z (AX l)) ((AX l).flatMap Ap)/\Ac [] w p:=by
 have j:=Ab ((kL [] w).alloc (jj (j1 (Aw (l,U c (Z l.ts) d))) 166));have o:=Ab (kN w (Aw (l,U c (Z l.ts) d)) 166);have r:=Ab (Ad h j);have t:kt (∀w,Calls prog 133 #[kx (j1 (Aw (l,U c (Z l.ts) d)))] w λe p=>e=j3 (k0 (A6 l))/\Ac [] w p):=λw=>Oa l c (Z l.ts) d w
 clear h;obtain⟨k,i,n,m,f,a,b⟩:=l;simp only[Aw]at j o r t⊢;go_enter func136,ntmps136;go_wp2_with fail
 change Calls _ _ _ (w.alloc (jj [X J k,X J i,X J n,O m,U c (Z f) d,X ky a.v,O a.s,X ky b.v,O b.s].toArray 166)) _;generalize w.alloc (jj [X J k,X J i,X J n,O m,U c (Z f) d,X ky a.v,O a.s,X ky b.v,O b.s].toArray 166)=w1 at j o r⊢;generalize w.heap.size=N at o⊢;refine(t w1).mono ?_;rintro e u ⟨rfl,q⟩;have g:=o.kept q;have y:=Ab (j.trans q);have F:=Ab (Ad r q);have H:=g.cell 4;have E:=g.cell 5;have G:=g.cell 6;have C:=g.cell 7;have B:=g.cell 8;simp at H E G C B;clear g o r j q t;cases hh:A6 ⟨k,i,n,m,f,a,b⟩with
 |true=>
  have x:kt (AX ⟨k,i,n,m,f,a,b⟩=f):=by show _=_;unfold AX;rw[hh];rfl
  clear hh;go_wp2;go_ret;rw[x.out];exact⟨c,d,rfl,F,y⟩
 |false=>
  have x:kt (AX ⟨k,i,n,m,f,a,b⟩=[a,b]):=by show _=_;unfold AX;rw[hh];rfl
  clear hh;have D:kt (kw (u.alloc (jj [X ky a.v,O a.s,X ky b.v,O b.s].toArray 164)) 0 164 2 (U (V ⟨u.heap.size,0,Y⟩) 2 2) 2 [X ky a.v,O a.s,X ky b.v,O b.s]):=Yg (kN u _ 164) rfl (by unfold maxLen;omega);go_wp2;go_ret;rw[x.out];exact⟨_,_,rfl,D,y.alloc _⟩
theorem Tryz.info116:(Tryz.prog.info? 116).map (λi=>(i.zero,i.size,i.bytes))=V (V (kx #[X J 0,O ⟨#[]⟩,U Y 0 0]),3,48):=by kernel_rfl
def SE(p:OR):Z (Aw p)=9:=rfl
def Sr(p:GL):Z (AL p)=3:=rfl
def SK(p:AO):Z (Ap p)=2:=rfl
def Iy{e:kJ OR}(h:CF w n z e)(k:Nat)(a:k<Z e):
  ∃g p l d f,z=U (V ⟨g,0,Y⟩) (Z e) p/\e[k]=(l,U d (Z l.ts) f)/\JI w n (l,U d (Z l.ts) f)/\
   ku w ⟨g,k*9,Y⟩=V (X J l.place)/\ku w ⟨g,k*9+1,Y⟩=V (X J l.sort)/\ku w ⟨g,k*9+2,Y⟩=V (X J l.ap)/\ku w ⟨g,k*9+3,Y⟩=V (O l.an)/\ku w ⟨g,k*9+4,Y⟩=V (U d (Z l.ts) f)/\
   ku w ⟨g,k*9+5,Y⟩=V (X ky l.l.v)/\ku w ⟨g,k*9+6,Y⟩=V (O l.l.s)/\ku w ⟨g,k*9+7,Y⟩=V (X ky l.r.v)/\ku w ⟨g,k*9+8,Y⟩=V (O l.r.s):=by
 obtain⟨g,p,E,_,b⟩:=AC h.row (λc _=>SE c) k a;have x:=(h.each _ (fj a)).1;obtain⟨d,f,m⟩:=Aj x;have u:=b k a 0 (by omega);have o:=b k a 1 (by omega);have i:=b k a 2 (by omega);have j:=b k a 3 (by omega);have B:=b k a 4 (by omega);have y:=b k a 5 (by omega);have t:=b k a 6 (by omega);have q:=b k a 7 (by omega);have A:=b k a 8 (by omega);obtain⟨l,C,D⟩:∃l C,e[k]=(l,C):=⟨_,_,rfl⟩;rw[D]at u o i j B y t q A x m;simp only at m;subst m;simp[Aw]at u o i j B y t q A;exact⟨g,p,l,d,f,E,D,x,u,o,i,j,B,y,t,q,A⟩
def A7(zE:kJ OR):kJ GL:=(zE.filter λp=>A6 p.1).map λp=>⟨p.1.ap,p.1.an,p.2⟩
def Bi(c:CB):kJ GL:=⟨c.hp,c.hn,c.hv⟩::A7 c.zE
def OV{a:kJ OR}(b:k<Z a):A7 (a.take (k+1))=A7 (a.take k)++(if A6 a[k].1 then[⟨a[k].1.ap,a[k].1.an,a[k].2⟩] else[]):=by
 unfold A7;rw[fm b,iD,gn]
 congr 1
 by_cases h:A6 a[k].1=hG<;>simp[h]
def EE(a:kJ OR):Z (A7 a)<=Z a:=by
 unfold A7;rw[fH];exact ib _ _
set_option maxRecDepth 100000
theorem QS(D:Option Addr)(P:Nat)(a:kJ OR)(w:kq)(h:CF w 0 (U D (Z a) P) a)(HC:Z a<=1000):
  Calls prog 107 #[U D (Z a) P] w λe B=>∃f j,e=j3 (U f (Z (A7 a)) j)/\kw B w.heap.size 116 3 (U f (Z (A7 a)) j) (Z (A7 a)) ((A7 a).flatMap AL)/\Ac [] w B:=by
 obtain⟨i0,FT,W,Bx,EM⟩:=gH Tryz.info116;have HB:=Ab h;clear h;go_enter func107,ntmps107;go_wp2
 go_loopg [3,8] (Z a) (λgk o i wr=>∃(k:Nat) (b:kJ GL) (f:Option Addr) (j:Nat),o=U f (Z b) j/\i=X J k/\k<=Z a/\Z b<=k/\gk=Z a-k/\kt (b=A7 (a.take k))/\kw wr w.heap.size 116 3 (U f (Z b) j) (Z b) (b.flatMap AL)/\kt (Ac [] w wr))
 case atStart=>exact⟨0,[],Y,0,rfl,rfl,by omega,by simp,rfl,by show _=_;simp[A7],fK _ _ _ _,kL _ _⟩
 case round=>
  obtain⟨k,b,f,j,rfl,rfl,G,HD,I,q,v,p⟩:=hrel;have H:=Ab I;clear I;by_cases A:k<Z a
  .have Q:=HB.kept p;have HI:=p.size;obtain⟨g,Ha,l,c,d,E,N,EX,d0,d1,S,T,d4,d5,d6,d7,d8⟩:=Iy Q k A;simp only[fg]at E;obtain⟨rfl,_,rfl⟩:=E;have s:=Ab (OV A);rw[N]at s;clear Q EX N;have z:=Ab (Oa l c (Z l.ts) d (wr.alloc (jj (j1 (Aw (l,U c (Z l.ts) d))) 166)));simp only[Aw]at z;have R:=Ab (kN wr (Aw (l,U c (Z l.ts) d)) 166);have C:=Ab (p.alloc (jj (j1 (Aw (l,U c (Z l.ts) d))) 166));have F:=Ab (fw v (jj (j1 (Aw (l,U c (Z l.ts) d))) 166));(go_wp2_with fail);refine z.mono ?_;rintro e m ⟨rfl,n⟩;have u:=R.kept n;have M:=Ab (C.trans n);have x:=Ad F n;have L:=n.size;(have Go:wr.heap.size+1<=m.heap.size:=by simpa using L);have c2:=u.cell 2;have c3:=u.cell 3;have c4:=u.cell 4;simp[Aw]at c2 c3 c4;clear u n R C F z d0 d1 S T d4 d5 d6 d7 d8 v p L;cases hh:A6 l with
   |false=>
    (have y:kt (b=A7 (a.take (k+1))):=by show _=_;rw[Aa s,hh,Aa q];simp);clear hh q s;go_wp2
    go_roundg (Z a-(k+1))
    case measure=>have:=Aa H;omega
    case rel=>exact⟨k+1,b,f,j,rfl,by go_num,by omega,by omega,rfl,y,x,M⟩
   |true=>
    (have y:kt (b++[⟨l.ap,l.an,U c (Z l.ts) d⟩]=A7 (a.take (k+1))):=by show _=_;rw[Aa s,hh,Aa q];simp);clear hh q s;have CC:=fX m (jj (j1 (AL ⟨l.ap,l.an,U c (Z l.ts) d⟩)) 116);have FF:=fw x (jj (j1 (AL ⟨l.ap,l.an,U c (Z l.ts) d⟩)) 116);(have HF:kt (∀r,(m.alloc (jj (j1 (AL ⟨l.ap,l.an,U c (Z l.ts) d⟩)) 116)).grownBy r (U f (Z b) j).ownBlock->Ac [] w r):=λr hg=>(M.alloc _).grown hg (λk G=>kp ((x.lt k G).1)));go_wp2_with (at_builtin;refine fO _ rfl (.tmp 14) (.tmp 17) _ rfl w.heap.size 116 i0 _ 3 48 underlying159 FT W Bx EM rfl (by omega) (U f (Z b) j) (Z b) (b.flatMap AL) rfl FF ⟨m.heap.size,0,Y⟩ 1 1 (AL ⟨l.ap,l.an,U c (Z l.ts) d⟩) rfl rfl (fM (cs:=j1 (AL ⟨l.ap,l.an,U c (Z l.ts) d⟩)) (t:=116) (fr:=(0,0)) CC) (by simp[Value.oneCell',AL]) (by omega) (by unfold maxLen;omega) (by omega) (by simp;omega) (m.heap.size+1) (by simp) ?_;intro g1 AH r E0 B9 FW HH)
    go_roundg (Z a-(k+1))
    case measure=>have:=Aa H;omega
    case rel=>exact⟨k+1,b++[⟨l.ap,l.an,U c (Z l.ts) d⟩],V ⟨g1,0,Y⟩,AH,by simp,by go_num,by omega,by simp;omega,rfl,y,by simpa using E0,HF r B9⟩
  .have HE:kt (b=A7 a):=by
    have h:=Aa q;rw[fo (by omega)]at h;exact h
   go_wp2;go_ret;rw[<-HE.out];exact⟨f,j,rfl,v,p⟩
def X4(w:kq)(g:Nat)(b:kJ OR)(v:ks)(h:CF w g v b):∀u∈(A7 b).flatMap AL,u.oneCell'=hG:=by
 intro u f;obtain⟨t,d,a⟩:=gc.1 f;obtain⟨p,c,rfl⟩:=fC.1 d;obtain⟨j,i,e⟩:=Aj (h.each p (fT.1 c).1).1;simp only[AL,fx,gP,or_false]at a;rcases a with rfl|rfl|rfl
 .rfl
 .rfl
 .rw[e];rfl
theorem Kp(c:CB)(w:kq)(h:Iv w 0 c.hv c.bv c.zD c.zE)(W:Z c.zE<=1000):
  Calls prog 67 #[kx (j1 (AZ c))] w λe t=>∃v z,e=j3 (U v (Z (Bi c)) z)/\kw t w.heap.size 116 3 (U v (Z (Bi c)) z) (Z (Bi c)) ((Bi c).flatMap AL)/\Ac [] w t:=by
 obtain⟨i0,S,M,T,Ax⟩:=gH Tryz.info116;obtain⟨f,i,b,hv,bv,a⟩:=c;simp only at h W;obtain⟨g,d,rfl⟩:=Aj h.head;obtain⟨l,m,rfl⟩:=Aj h.body.row;have Q:kt (∀wr,Ac [] w wr->Calls prog 107 #[U l (Z a) m] wr λe t=>∃v z,e=j3 (U v (Z (A7 a)) z)/\kw t wr.heap.size 116 3 (U v (Z (A7 a)) z) (Z (A7 a)) ((A7 a).flatMap AL)/\Ac [] wr t):=λwr p=>QS l m a wr (h.body.kept p) W
 have E:=Ab (X4 w 0 a _ h.body);have CL:=EE a;have A:kt (Bi ⟨f,i,b,U g (Z b) d,U l (Z a) m,a⟩=[⟨f,i,U g (Z b) d⟩]++A7 a):=rfl;generalize Bi ⟨f,i,b,U g (Z b) d,U l (Z a) m,a⟩=AT at A⊢;generalize A7 a=BA at Q E CL A;clear h;simp only[AZ];have q:=Ab (kN w [X J f,O i,U g (Z b) d,U l (Z a) m] 120);have x:=Ab ((kL [] w).alloc (jj [X J f,O i,U g (Z b) d,U l (Z a) m].toArray 120));go_enter func67,ntmps67;go_wp2_with fail
 change Code.wp _ _ _ _ (w.alloc (jj [X J f,O i,U g (Z b) d,U l (Z a) m].toArray 120));have F:(w.alloc (jj [X J f,O i,U g (Z b) d,U l (Z a) m].toArray 120)).heap.size=w.heap.size+1:=by simp
 generalize w.alloc (jj [X J f,O i,U g (Z b) d,U l (Z a) m].toArray 120)=w1 at q x F⊢;obtain⟨N,C⟩:=kK w.heap.size;rw[C]at q F⊢;have c0:=q.cell 0;have c1:=q.cell 1;have c2:=q.cell 2;have c3:=q.cell 3;simp at c0 c1 c2 c3;have H:=Ab C;have G:Z AT=1+Z BA:=by rw[Aa A];simp;omega
 have B9:kt (∀(r:kq) (o:Option Addr) (n:Nat),kw r N 116 3 (U o (1+Z BA) n) (1+Z BA) (AL ⟨f,i,U g (Z b) d⟩++BA.flatMap AL)->kw r N 116 3 (U o (Z AT) n) (Z AT) (AT.flatMap AL)):=by
  intro r o n ho;rw[G,Aa A,fR];simpa using ho
 have P:=Ab G;have FC:kt (kw (w1.drew.alloc (jj (j1 (AL ⟨f,i,U g (Z b) d⟩)) 116)) N 116 3 (U (V ⟨N+1,0,Y⟩) 1 1) 1 (AL ⟨f,i,U g (Z b) d⟩)):=by
  have hh:=kN w1.drew (AL ⟨f,i,U g (Z b) d⟩) 116;rw[show w1.drew.heap.size=N+1 from F]at hh
  exact⟨rfl,kp ⟨N+1,1,_,rfl,by omega,hh,fJ _,by unfold maxLen;omega,rfl,rfl⟩⟩
 have FA:kt (∀j:kq,N<=j.heap.size->kw (j.alloc (jj (j1 (AL ⟨f,i,U g (Z b) d⟩)) 116)) N 116 3 (U (V ⟨j.heap.size,0,Y⟩) 1 1) 1 (AL ⟨f,i,U g (Z b) d⟩)):=λj p=>⟨rfl,kp ⟨j.heap.size,1,_,rfl,p,kN j _ 116,fJ _,by unfold maxLen;omega,rfl,rfl⟩⟩
 clear C G
 go_region_law
  (first
   |(
     go_simp;go_at_call 107;refine(Q _ (by first|exact x.drew|exact(x.drew).alloc _)).mono ?_;rintro e j ⟨AH,Bx,rfl,BT,u⟩;
     have R:=u.size;
     first
      |(have CW:=Ad FC u;have D:=(x.drew.alloc _).trans u;have EX:N+2<=j.heap.size:=by simp at R;omega)
      |(have I:=q.drew.kept u;have e0:=I.cell 0;have e1:=I.cell 1;have e2:=I.cell 2;simp at e0 e1 e2;have D:=x.drew.trans u;have EX:N+1<=j.heap.size:=by simp at R;omega))
   |(refine I7 _ (by rfl) _ _ _ (by rfl) N 116 i0 _ 3 48 underlying159 S M T Ax rfl (by omega) (V ⟨N+1,0,Y⟩) 1 1 (AL ⟨f,i,U g (Z b) d⟩) (by rfl) CW _ AH (Z BA) Bx (BA.flatMap AL) (by rfl) BT E (by unfold maxLen;omega) (by omega) (by omega) ?_;intro o n r s y L;have B:=Ab (And.intro (B9 r o n s) (D.grown y (λk p=>kp (by simp[kF]at p;have:=Aa H;omega))));clear s y L)
   |(refine I7 _ (by rfl) _ _ _ (by rfl) N 116 i0 _ 3 48 underlying159 S M T Ax rfl (by omega) (V ⟨j.heap.size,0,Y⟩) 1 1 (AL ⟨f,i,U g (Z b) d⟩) (by rfl) (FA j (by omega)) _ AH (Z BA) Bx (BA.flatMap AL) (by rfl) (fw BT _) E (by unfold maxLen;omega) (by omega) (by simp;omega) ?_;intro o n r s y L;have B:=Ab (And.intro (B9 r o n s) ((D.alloc _).grown y (λk p=>kp (by simp[kF]at p;have:=Aa H;omega))));clear s y L))
 all_goals
  go_wp2;go_ret;rw[Aa H,Aa P];exact⟨o,n,rfl,by have h:=B.1;rw[Aa P]at h;exact h,B.2⟩
def Bf(zE:kJ OR):kJ AO:=zE.flatMap λp=>AX p.1
def A5(c:CB):kJ AO:=c.zD++Bf c.zE
def OX{a:kJ OR}(b:k<Z a):Bf (a.take (k+1))=Bf (a.take k)++AX a[k].1:=by
 unfold Bf;rw[fm b,fR];simp
def J9(a:kJ AO):∀u∈a.flatMap Ap,u.oneCell'=hG:=by
 intro u b;obtain⟨t,_,h⟩:=gc.1 b;simp[Ap]at h;rcases h with rfl|rfl<;>rfl
def Xv(h:kw w m T k (U o n i) n y)(p:0<n):
  ∃g,o=V ⟨g,0,Y⟩/\Z y=n*k/\(∀j u,y[j]?=V u->ku w ((⟨g,0,Y⟩:Addr).add j)=V u)/\m<=g/\g<w.heap.size:=by
 rcases h.2 with⟨a,d⟩|⟨g,c,b,a,f,l⟩
 .omega
 .simp only[fg]at a;obtain⟨rfl,_,rfl⟩:=a;exact⟨g,rfl,h.1,h.cells rfl,(h.lt g rfl)⟩
structure Js(c:CB):Prop where
 head:0<Z c.zD/\Z c.zD<=1000
 lits:Z c.zE<=1000
 each:∀p∈c.zE,(A6 p.1=hG->0<Z p.1.ts)/\Z p.1.ts<=1000
def Js.zQ{c:CB}(h:Js c){p:OR}(a:p∈c.zE):0<Z (AX p.1)/\Z (AX p.1)<=1000:=by
 have:=h.each p a;unfold AX;split
 .rename_i b;exact⟨this.1 b,this.2⟩
 .simp
set_option maxRecDepth 512
theorem Y2(n:Nat)(w:kq)(r:0<n)(v:n<=2000000):
  Calls prog 156 #[U Y 0 0,X J n] w λe j=>∃g G,e=j3 (U (V ⟨g,0,Y⟩) 0 G)/\kw j w.heap.size 164 2 (U (V ⟨g,0,Y⟩) 0 G) 0 []/\Ac [] w j:=by
 obtain⟨f,s,q,y,m⟩:=gH Tryz.info164;have l:(Builtin.firstCells f.size 0 (U Y 0 0)).run prog w.drew=.ok (j1 ([]:kJ ks)) w.drew:=run_firstCells_none w.drew f.size 0 0 0;have k:∀i,(Builtin.append_ #[114,3] i #[U Y 0 0,X J (n:Int)]).run prog w=
   .ok (U (V ⟨w.heap.size,0,Y⟩) n (grownCap w n 0 164)) (w.drew.alloc (jj (j1 ([]:kJ ks)++Builtin.zeroCells (kx #[X ky 0,O ⟨#[]⟩]:ks).cells n++Builtin.zeroCells (kx #[X ky 0,O ⟨#[]⟩]:ks).cells (grownCap w n 0 164-n)) 164)):=λi=>by
  have h:=Lib.run_append_grow_zeros w 114 3 i 164 f _ J J underlying114 underlying3 s q Y 0 0 [] l n r (by omega) (by omega) (by omega) (by rw[m];omega) (by rw[m,gE];exact growslice_fits (by omega) (by omega));simp only[gE]at h;exact h
 obtain⟨G,b⟩:∃G,G=grownCap w n 0 164:=⟨_,rfl⟩;obtain⟨a,c⟩:∃a:Array ks,a=j1 ([]:kJ ks)++Builtin.zeroCells (kx #[X ky 0,O ⟨#[]⟩]:ks).cells n++Builtin.zeroCells (kx #[X ky 0,O ⟨#[]⟩]:ks).cells (G-n):=⟨_,rfl⟩;rw[<-b,<-c]at k;have t:n<=G:=by rw[b];exact grownCap_ge w _ _ _
 have d:G<=maxLen:=by rw[b];exact grownCap_le_maxLen w n 0 164 (by unfold maxLen;omega)
 have p:a.size=G*2:=by
  rw[c];simp[Builtin.zeroCells,Value.cells];omega
 have u:G<=9223372036854775807:=by unfold maxLen at d;omega
 have o:kt (kw (w.alloc (jj a 164)) w.heap.size 164 2 (U (V ⟨w.heap.size,0,Y⟩) 0 G) 0 []/\Ac [] w (w.alloc (jj a 164))):=
  ⟨⟨rfl,kp ⟨w.heap.size,G,a,rfl,fJ _,fX w _,fP _,d,p,by simp⟩⟩,(kL [] w).alloc _⟩
 have x:(0:Int)<(n:Int):=by omega
 have z:¬((n:Int)<0):=by omega
 clear l c b p d;go_enter func156,ntmps156;go_wp2_with (at_builtin;refine Lib.wpList_append_run _ rfl _ _ _ _ rfl _ _ rfl rfl _ _ (k _) ?_)
 go_ret;exact⟨_,G,rfl,o.1,o.2.drew⟩
set_option maxRecDepth 100000
theorem T1(R:Nat)(E:Option Addr)(z:Nat)(v:Option Addr)(C:Nat)(a b:kJ AO)(I b2:Nat)(w:kq)(r:AF w R [U E (Z a) z,U v (Z b) C] 114)(S:kw w I 164 2 (U E (Z a) z) (Z a) (a.flatMap Ap))(M:kw w b2 164 2 (U v (Z b) C) (Z b) (b.flatMap Ap))(W:0<Z a)(EK:Z a+Z b<=2000000):
  Calls prog 139 #[U (V ⟨R,0,Y⟩) 2 2] w λe L=>∃d h,e=j3 (U d (Z (a++b)) h)/\kw L w.heap.size 164 2 (U d (Z (a++b)) h) (Z (a++b)) ((a++b).flatMap Ap)/\Ac [] w L:=by
 obtain⟨i0,CC,N,T,AR⟩:=gH Tryz.info164;have HV:=Ab r;have H1:=Ab S;have H2:=Ab M;have s:=r.cell 0;have q:=r.cell 1;simp at s q;have BT:=Ab (Y2 (Z a+Z b) w (by omega) EK);have CW:kt (Z (a++b)=Z a+Z b):=by show _=_;simp
 generalize hAB:a++b=ab at CW⊢;have EY:=Ab hAB;have FC:=Ab W;clear r S M hAB W;have E0:¬((Z a:Int)<0):=by omega
 have FL:¬((Z a:Int)+(Z b:Int)<0):=by omega
 go_enter func139,ntmps139;go_wp2
 go_loopg [3,11] 2 (λgk o i wr=>∃k:Nat,i=X J k/\((k=0/\o=X J 0)\/(k=1/\o=X J (Z a))\/(k=2/\o=X J ((Z a:Int)+(Z b:Int))))/\gk=2-k/\w=wr)
 case atStart=>exact⟨0,rfl,kn ⟨rfl,rfl⟩,rfl,rfl⟩
 case round=>
  obtain⟨k,rfl,l,B,rfl⟩:=hrel;rcases l with⟨rfl,rfl⟩|⟨rfl,rfl⟩|⟨rfl,rfl⟩
  .go_wp2
   go_roundg 1
   case measure=>omega
   case rel=>exact⟨1,by go_num,kp (kn ⟨rfl,by go_num⟩),rfl,rfl⟩
  .go_wp2
   go_roundg 0
   case measure=>omega
   case rel=>exact⟨2,by go_num,kp (kp ⟨rfl,by go_num⟩),rfl,rfl⟩
  ·(go_wp2_with fail);refine BT.mono ?_;rintro e w2 ⟨g,G,rfl,BA,k2⟩;have P:=Ab BA;have Ax:=Ab k2;clear BT BA k2 s q;go_wp2
   go_loopg [6,27] 2 (λgk o i wr=>∃(k:Nat) (c:kJ AO) (d:Option Addr) (h:Nat),o=U d (Z c) h/\i=X J k/\((k=0/\kt (c=[]))\/(k=1/\kt (c=a))\/(k=2/\kt (c=ab)))/\gk=2-k/\Z c<=Z a+Z b/\(kw wr w.heap.size 164 2 (U d (Z c) h) (Z c) (c.flatMap Ap))/\kt (Ac [] w wr))
   case atStart=>exact⟨0,[],_,_,rfl,rfl,kn ⟨rfl,rfl⟩,rfl,by simp,P,Ax⟩
   case round=>
    clear P Ax;obtain⟨k,c,d,h,rfl,rfl,l,B,FB,p,j⟩:=hrel;have Q:=Ab B;clear B;have FA:=j.size;rcases l with⟨rfl,m⟩|⟨rfl,m⟩|⟨rfl,m⟩
    .have s:=(HV.kept j).cell 0;simp at s;have H:=Ad H1 j;(have hz:Z c=0:=by rw[Aa m];rfl);(have y:kt (∀f,wr.grownBy f (U d (Z c) h).ownBlock->Ac [] w f):=λf x=>j.grown x (λk l=>kp ((p.lt k l).1)));(have F:kt (c++a=a):=by show _=_;rw[Aa m];rfl);have n:=Ab hz;clear hz;go_wp2_with (at_builtin;refine Fh _ rfl (.tmp 31) (.tmp 32) _ rfl w.heap.size 164 i0 _ 2 24 underlying114 CC N T AR rfl (by omega) d (Z c) h (c.flatMap Ap) rfl p I E (Z a) z (a.flatMap Ap) rfl H (J9 _) (by have:=Aa n;unfold maxLen;omega) (by have:=Aa n;omega) (by omega) ?_;intro A u f t D CL)
     go_roundg 1
     case measure=>have:=Aa Q;omega
     case rel=>exact⟨1,c++a,A,u,by simp,by go_num,kp (kn ⟨rfl,F⟩),rfl,by simp;have:=Aa n;omega,by simpa using t,y f D⟩
    .have q:=(HV.kept j).cell 1;simp at q;have H:=Ad H2 j;(have n:kt (Z c=Z a):=by show _=_;rw[Aa m]);(have y:kt (∀f,wr.grownBy f (U d (Z c) h).ownBlock->Ac [] w f):=λf x=>j.grown x (λk l=>kp ((p.lt k l).1)));(have F:kt (c++b=ab):=by show _=_;rw[Aa m];exact EY);go_wp2_with (at_builtin;refine Fh _ rfl (.tmp 31) (.tmp 32) _ rfl w.heap.size 164 i0 _ 2 24 underlying114 CC N T AR rfl (by omega) d (Z c) h (c.flatMap Ap) rfl p b2 v (Z b) C (b.flatMap Ap) rfl H (J9 _) (by have:=Aa n;unfold maxLen;omega) (by have:=Aa n;omega) (by omega) ?_;intro A u f t D CL)
     go_roundg 0
     case measure=>have:=Aa Q;omega
     case rel=>exact⟨2,c++b,A,u,by simp,by go_num,kp (kp ⟨rfl,F⟩),rfl,by simp;have:=Aa n;omega,by simpa using t,y f D⟩
    .go_wp2;go_ret;rw[<-Aa m];exact⟨d,h,rfl,p,j⟩
theorem Vp(B:Option Addr)(N:Nat)(a:kJ OR)(w:kq)(h:CF w 0 (U B (Z a) N) a)(HJ:Z a<=1000)(f:∀p∈a,0<Z (AX p.1)/\Z (AX p.1)<=1000):
  Calls prog 140 #[U B (Z a) N] w λe y=>∃c d,e=j3 (U c (Z (Bf a)) d)/\kw y w.heap.size 164 2 (U c (Z (Bf a)) d) (Z (Bf a)) ((Bf a).flatMap Ap)/\Ac [] w y:=by
 obtain⟨i0,Go,T,BA,CW⟩:=gH Tryz.info164;have HB:=Ab h;have FW:=Ab f;clear h f;go_enter func140,ntmps140;go_wp2
 go_loopg [3,8] (Z a) (λgk o i wr=>∃(k:Nat) (b:kJ AO) (c:Option Addr) (d:Nat),o=U c (Z b) d/\i=X J k/\k<=Z a/\Z b<=k*1000/\gk=Z a-k/\kt (b=Bf (a.take k))/\kw wr w.heap.size 164 2 (U c (Z b) d) (Z b) (b.flatMap Ap)/\kt (Ac [] w wr))
 case atStart=>exact⟨0,[],Y,0,rfl,rfl,by omega,by simp,rfl,by show _=_;simp[Bf],fK _ _ _ _,kL _ _⟩
 case round=>
  obtain⟨k,b,c,d,rfl,rfl,E,HK,F,u,s,j⟩:=hrel;have HG:=Ab F;clear F;by_cases t:k<Z a
  .have P:=HB.kept j;have HM:=j.size;obtain⟨g,HI,l,q,r,C,L,I,d0,d1,R,S,d4,d5,d6,d7,d8⟩:=Iy P k t;simp only[fg]at C;obtain⟨rfl,_,rfl⟩:=C;have x:=Ab (OX t);have f:=Aa FW a[k] (fj t);rw[L]at x f;simp only at f;have v:=Ab (Lx l q r (wr.alloc (jj (j1 (Aw (l,U q (Z l.ts) r))) 166)) (Ad I ((kL [] wr).alloc _)));clear P I L;simp only[Aw]at v;have z:=Ab (j.alloc (jj (j1 (Aw (l,U q (Z l.ts) r))) 166));have D:=Ab (fw s (jj (j1 (Aw (l,U q (Z l.ts) r))) 166));(go_wp2_with fail);refine v.mono ?_;rintro e A ⟨HC,FF,rfl,Q,n⟩;have E0:=Ab (z.trans n);have M:=Ad D n;have G:=n.size;(have HD:wr.heap.size+1<=A.heap.size:=by simpa using G);obtain⟨g3,rfl,FB,H,_,_⟩:=Xv Q f.1;have EM:=Ab H;(have FO:kt (b++AX l=Bf (a.take (k+1))):=by show _=_;rw[Aa x,Aa u]);(have HF:kt (∀m,A.grownBy m (U c (Z b) d).ownBlock->Ac [] w m):=λm W=>E0.grown W (λk E=>kp ((M.lt k E).1)));clear n z D v d0 d1 R S d4 d5 d6 d7 d8 s j G Q H x u;(have FP:Z (b++AX l)<=(k+1)*1000:=by simp;omega);(have HH:k<=1000:=by omega);go_wp2_with (at_builtin;refine fO _ rfl (.tmp 12) (.tmp 14) _ rfl w.heap.size 164 i0 _ 2 24 underlying114 Go T BA CW rfl (by omega) (U c (Z b) d) (Z b) (b.flatMap Ap) rfl M ⟨g3,0,Y⟩ (Z (AX l)) FF ((AX l).flatMap Ap) rfl FB EM (J9 _) (by omega) (by unfold maxLen;omega) (by omega) (by omega) _ rfl ?_;intro g1 AR m EX CC Ha HL)
   go_roundg (Z a-(k+1))
   case measure=>have:=Aa HG;omega
   case rel=>exact⟨k+1,b++AX l,V ⟨g1,0,Y⟩,AR,by simp,by go_num,by omega,FP,rfl,FO,by simpa using EX,HF m CC⟩
  .have HE:kt (b=Bf a):=by
    have h:=Aa u;rw[fo (by omega)]at h;exact h
   go_wp2;go_ret;rw[<-HE.out];exact⟨c,d,rfl,s,j⟩
def QR{a:kJ OR}(h:∀p∈a,Z (AX p.1)<=1000):Z (Bf a)<=Z a*1000:=by
 unfold Bf
 induction a with
 |nil=>simp
 |cons p l ih=>
  have c:=h p (by simp);have d:=ih (λq b=>h q (by simp[b]));simp only[fN,fE,fD];omega
theorem PG(c:CB)(w:kq)(h:Iv w 0 c.hv c.bv c.zD c.zE)(G:Js c):
  Calls prog 116 #[kx (j1 (AZ c))] w λe k=>∃f j,e=j3 (U f (Z (A5 c)) j)/\kw k w.heap.size 164 2 (U f (Z (A5 c)) j) (Z (A5 c)) ((A5 c).flatMap Ap)/\Ac [] w k:=by
 have z:kt (∀p∈c.zE,0<Z (AX p.1)/\Z (AX p.1)<=1000):=λp g=>G.zQ g
 obtain⟨g,q,b,hv,bv,a⟩:=c;obtain⟨⟨I,AT⟩,C,Ax⟩:=G;simp only at h I AT C z;clear Ax;obtain⟨i,d,rfl⟩:=Aj h.head;obtain⟨l,o,rfl⟩:=Aj h.body.row;have M:=QR (λp g=>(z p g).2);have CL:Z (Bf a)<=1000000:=by omega
 have B:kt (∀wr,Ac [] w wr->Calls prog 140 #[U l (Z a) o] wr λe k=>∃f j,e=j3 (U f (Z (Bf a)) j)/\kw k wr.heap.size 164 2 (U f (Z (Bf a)) j) (Z (Bf a)) ((Bf a).flatMap Ap)/\Ac [] wr k):=λwr r=>Vp l o a wr (h.body.kept r) C z
 have HH:=Ab h.head;have u:kt (A5 ⟨g,q,b,U i (Z b) d,U l (Z a) o,a⟩=b++Bf a):=rfl;generalize A5 ⟨g,q,b,U i (Z b) d,U l (Z a) o,a⟩=TV at u⊢;generalize Bf a=BT at B CL u;have F:kt (∀(wr:kq) (m:Option Addr) (n A:Nat),Ac [] w wr->kw wr A 164 2 (U m (Z BT) n) (Z BT) (BT.flatMap Ap)->Calls prog 139 #[U (V ⟨wr.heap.size,0,Y⟩) 2 2] (wr.alloc (jj #[U i (Z b) d,U m (Z BT) n] 114)) λe k=>∃f j,e=j3 (U f (Z TV) j)/\kw k w.heap.size 164 2 (U f (Z TV) j) (Z TV) (TV.flatMap Ap)/\Ac [] w k):=by
  intro wr m n A r hr;have t:=(kL [] wr).alloc (jj #[U i (Z b) d,U m (Z BT) n] 114);refine(T1 wr.heap.size i d m n b BT 0 A _ (kN wr [U i (Z b) d,U m (Z BT) n] 114) (Ad HH (r.trans t)) (Ad hr t) I (by omega)).mono ?_;rintro e k ⟨f,j,rfl,W,k2⟩;rw[Aa u];exact⟨f,j,rfl,Al W (by have:=(r.trans t).size;exact this),(r.trans t).trans k2⟩
 clear h M;simp only[AZ];have s:=Ab (kN w [X J g,O q,U i (Z b) d,U l (Z a) o] 120);have y:=Ab ((kL [] w).alloc (jj [X J g,O q,U i (Z b) d,U l (Z a) o].toArray 120));go_enter func116,ntmps116;go_wp2_with fail
 change Code.wp _ _ _ _ (w.alloc (jj [X J g,O q,U i (Z b) d,U l (Z a) o].toArray 120));generalize w.alloc (jj [X J g,O q,U i (Z b) d,U l (Z a) o].toArray 120)=w1 at s y⊢;obtain⟨N,v⟩:=kK w.heap.size;rw[v]at s F⊢;have T:=s.cell 2;have c3:=s.cell 3;simp at T c3;have B9:=Ab v;clear v
 go_region_law
  (first
   |(go_simp;go_at_call 140;refine(B _ y.drew).mono ?_;rintro e wt ⟨m,n,rfl,L,x⟩;have R:=(s.drew.kept x).cell 2;simp at R;have BA:=Ab (y.drew.trans x);have Q:=Ab L;clear L x)
   |(go_simp;go_at_call 139;refine(F wt m n _ BA Q).mono ?_;rintro e w9 ⟨S,P,rfl,H,E⟩;have D:=Ab (And.intro H E);clear H E))
 all_goals
  go_wp2;go_ret;rw[Aa B9];exact⟨S,P,rfl,D.1,D.2⟩
def FX(zE:kJ OR):kJ zA:=(zE.filter λp=>A6 p.1).map λp=>p.1.an
def BZ(c:CB):kJ zA:=c.hn::FX c.zE
def Y3(c:CB):(Bi c).map GL.name=BZ c:=by
 simp[Bi,BZ,A7,FX]
def Hj{c:CB}(h:Iv w 0 c.hv c.bv c.zD c.zE):∀a∈Bi c,∃f n d,a.tv=U f n d:=by
 intro a b;rcases fx.1 b with rfl|b
 .obtain⟨f,d,e⟩:=Aj h.head;exact⟨_,_,_,e⟩
 .unfold A7 at b;obtain⟨p,g,rfl⟩:=fC.1 b;obtain⟨f,d,e⟩:=Aj (h.body.each p (fT.1 g).1).1;exact⟨_,_,_,e⟩
def I9{l:kJ GL}(h:kw w n 116 3 z (Z l) (l.flatMap AL))(k:Nat)(a:k<Z l):
  ∃g b,z=U (V ⟨g,0,Y⟩) (Z l) b/\ku w ⟨g,k*3,Y⟩=V (X J l[k].place)/\ku w ⟨g,k*3+1,Y⟩=V (O l[k].name)/\ku w ⟨g,k*3+2,Y⟩=V l[k].tv:=by
 obtain⟨g,b,j,_,d⟩:=AC h (λc _=>Sr c) k a;have f:=d k a 0 (by omega);have i:=d k a 1 (by omega);have e:=d k a 2 (by omega);simp[AL]at f i e;exact⟨g,b,j,f,i,e⟩
structure MT(base:Nat)(lv:ks)(l:kJ zA)(xs:kJ zA)(w:kq)(l':kJ zA)(ad':Option Addr)(cp':Nat)(w':kq):Prop where
 zH:Cz Fe l'
 mem:∀y,y∈l'↔y∈xs\/y∈l
 ge:Z l<=Z l'
 le:Z l'<=Z l+Z xs
 own:kw w' base 9 1 (U ad' (Z l') cp') (Z l') (l'.flatMap Ah)
 kept:Ac lv.ownBlock.toList w w'
 new:∀k,(U ad' (Z l') cp').ownBlock=V k->lv.ownBlock=V k\/w.heap.size<=k
theorem LR(c:CB)(a:Option Addr)(b:Nat)(l:kJ zA)(n:Nat)(w:kq)(h:Iv w 0 c.hv c.bv c.zD c.zE)(FL:Z c.zE<=1000)
  (hl:kw w n 9 1 (U a (Z l) b) (Z l) (l.flatMap Ah)) (HV:Z l<=900000) (hr:Cz Fe l) (HQ:n<=w.heap.size):
  Calls prog 106 #[U a (Z l) b,kx (j1 (AZ c))] w λe w'=>∃S EY AT,e=j3 (U EY (Z S) AT)/\MT n (U a (Z l) b) l (BZ c) w S EY AT w':=by
 have u:=Ab (Kp c (w.alloc (jj (j1 (AZ c)) 120)) (h.kept ((kL [] w).alloc _)) FL);have Ax:=Ab (Hj h);have E:=Ab (Y3 c);have FC:kt (Z (Bi c)<=1001):=by
  show _<=_;have:=EE c.zE;simp[Bi];omega
 obtain⟨hp,hn,x,hv,bv,t⟩:=c;simp only at h;obtain⟨E0,Q,rfl⟩:=Aj h.head;obtain⟨AH,AB,rfl⟩:=Aj h.body.row;generalize Bi ⟨hp,hn,x,U E0 (Z x) Q,U AH (Z t) AB,t⟩=aT at u Ax E FC;generalize BZ ⟨hp,hn,x,U E0 (Z x) Q,U AH (Z t) AB,t⟩=ns at E⊢;have HL:=Ab hl;have HH:=Ab hr;clear h hl hr;simp only[AZ]at u⊢;go_enter func106,ntmps106;go_wp2_with fail
 refine u.mono ?_;rintro e s ⟨HD,R,rfl,CL,z⟩;have I:kt (Ac [] w s):=((kL [] w).alloc _).trans z;have HN:w.heap.size+1<=s.heap.size:=by have:=z.size;simpa using this
 have W:=Ab (Al CL (show w.heap.size<=_ by simp));clear u CL z;go_wp2
 go_loopg [0,10] (Z aT) (λgk o i wr=>∃(k:Nat) (m:kJ zA) (d:Option Addr) (f:Nat),o=U d (Z m) f/\i=X J k/\k<=Z aT/\gk=Z aT-k/\Z m<=Z l+k/\kt (MT n (U a (Z l) b) l ((aT.take k).map GL.name) w m d f wr)/\kt (kw wr w.heap.size 116 3 (U HD (Z aT) R) (Z aT) (aT.flatMap AL))/\kt (∀q,(U d (Z m) f).ownBlock=V q->(U a (Z l) b).ownBlock=V q\/s.heap.size<=q)/\s.heap.size<=wr.heap.size)
 case atStart=>exact⟨0,l,a,b,rfl,rfl,by omega,rfl,by omega,⟨HH,λy=>by simp,by omega,by omega,Ad HL I,I.mono (by simp),λk T=>kn T⟩,W,λq p=>kn p,by omega⟩
 case round=>
  clear I;obtain⟨k,m,d,f,rfl,rfl,T,EM,HR,r,H,L,HK⟩:=hrel;have HG:=Ab EM;clear EM;have HP:=Aa FC;by_cases A:k<Z aT
  .obtain⟨g,HM,he,d0,d1,P⟩:=I9 H k A;simp only[fg]at he;obtain⟨rfl,_,rfl⟩:=he;obtain⟨HJ,nt,Go,CW⟩:=Ax aT[k] (fj A);rw[CW]at P;clear CW;have B9:=Ab (Z9 d f m aT[k].name n (wr.alloc (jj [X J aT[k].place,O aT[k].name,U HJ nt Go].toArray 116)) (fw r.own _) (by omega) r.zH (by simp;omega));(go_wp2_with fail);refine B9.mono ?_;rintro e v ⟨N,F,D,rfl,q1,q2,q3,q4,q5,C,B⟩;have M:Ac (U d (Z m) f).ownBlock.toList wr v:=((kL _ wr).alloc _).trans C;(have HT:wr.heap.size+1<=v.heap.size:=by have:=C.size;simpa using this);have FP:kt (MT n (U a (Z l) b) l ((aT.take (k+1)).map GL.name) w N F D v):=by
    have j:=Aa r;refine⟨q1,λy=>?_,by have:=j.ge;omega,?_,q5,j.kept.trans' M (λi G=>?_),λq p=>?_⟩
    .rw[q2,j.mem,fm A];simp only[gn,fS,iV,fA,ft];constructor
     .rintro (h|h|h)
      .exact kn (kp h)
      .exact kn (kn h)
      .exact kp h
     .rintro ((h|h)|h)
      .exact kp (kn h)
      .exact kn h
      .exact kp (kp h)
    .have:=j.le;simp only[fH,gq]at this⊢;omega
    .rcases j.new i (by simpa using G)with h|h
     .exact kn (by simp[h])
     .exact kp h
    .rcases B q p with h|h
     .exact j.new q h
     .exact kp (by have:=j.kept.size;simp at h;omega)
   have HB:kt (kw v w.heap.size 116 3 (U (V ⟨g,0,Y⟩) (Z aT) R) (Z aT) (aT.flatMap AL)):=by
    refine Am H M (λi G hm=>?_);have h1:=(W.lt i G);rcases L i (by simpa using hm)with h|h
    .have:=(HL.lt i h).2;omega
    .omega
   have FW:kt (∀q,(U F (Z N) D).ownBlock=V q->(U a (Z l) b).ownBlock=V q\/s.heap.size<=q):=by
    intro q p;rcases B q p with h|h
    .exact L q h
    .exact kp (by simp at h;omega)
   clear B9 q1 q2 q3 q5 C B M r H L d0 d1 P;go_wp2
   go_roundg (Z aT-(k+1))
   case measure=>have:=Aa HG;omega
   case rel=>exact⟨k+1,N,F,D,rfl,by go_num,by omega,rfl,by omega,FP,HB,FW,by omega⟩
  .have HE:kt (MT n (U a (Z l) b) l ns w m d f wr):=by
    have h:=Aa r;rw[fo (by omega),Aa E]at h;exact h
   go_wp2;go_ret;exact⟨m,d,f,rfl,HE⟩
def EU{l:kJ AO}(h:kw w n 164 2 z (Z l) (l.flatMap Ap))(k:Nat)(a:k<Z l):
  ∃g b,z=U (V ⟨g,0,Y⟩) (Z l) b/\ku w ⟨g,k*2,Y⟩=V (X ky l[k].v)/\ku w ⟨g,k*2+1,Y⟩=V (O l[k].s):=by
 obtain⟨g,b,i,_,f⟩:=AC h (λc _=>SK c) k a;have d:=f k a 0 (by omega);have e:=f k a 1 (by omega);simp[Ap]at d e;exact⟨g,b,i,d,e⟩
structure GA(ts:kJ AO)(l:kJ Int):Prop where
 zH:Cz NW l
 mem:∀y,y∈l↔y≠0/\∃t∈ts,t.v=y
 le:Z l<=Z ts
def GA.nil:GA [] []:=⟨λi j a=>by simp at a,λy=>by simp,by simp⟩
theorem Kx(E:Option Addr)(M:Nat)(a:kJ AO)(T:Nat)(w:kq)(h:kw w T 164 2 (U E (Z a) M) (Z a) (a.flatMap Ap))(EY:Z a<=900000):
  Calls prog 135 #[U E (Z a) M] w λe z=>∃l F G,e=j3 (U F (Z l) G)/\GA a l/\kw z w.heap.size 21 1 (U F (Z l) G) (Z l) (l.flatMap AU)/\Ac [] w z:=by
 have HT:=Ab h;clear h;go_enter func135,ntmps135;go_wp2
 go_loopg [3,8] (Z a) (λgk o i wr=>∃(k:Nat) (l:kJ Int) (f:Option Addr) (m:Nat),o=U f (Z l) m/\i=X J k/\k<=Z a/\gk=Z a-k/\kt (GA (a.take k) l)/\kw wr w.heap.size 21 1 (U f (Z l) m) (Z l) (l.flatMap AU)/\kt (Ac [] w wr))
 case atStart=>exact⟨0,[],Y,0,rfl,rfl,by omega,rfl,by show GA _ _;simpa using GA.nil,fK _ _ _ _,kL _ _⟩
 case round=>
  obtain⟨k,l,f,m,rfl,rfl,hk,D,n,r,p⟩:=hrel;have A:=Ab D;clear D;have R:=n.le;simp only[gq]at R;have FB:=p.size;by_cases u:k<Z a
  .obtain⟨g,FA,L,d0,d1⟩:=EU (Ad HT p) k u;simp only[fg]at L;obtain⟨rfl,_,rfl⟩:=L;have x:=Ab (p.alloc (jj [X ky a[k].v,O a[k].s].toArray 164));have q:=fw r (jj [X ky a[k].v,O a[k].s].toArray 164);cases hv:(a[k].v==0)with
   |true=>
    (have Ax:(a[k].v !=0)=K:=by simp[bne,hv]);have AT:kt (GA (a.take (k+1)) l):=by
     have j:=Aa n;refine⟨j.zH,λy=>?_,by have:=j.le;simp only[gq]at this⊢;omega⟩;rw[j.mem,fm u];(have hz:a[k].v=0:=by simpa using hv);constructor
     .rintro ⟨c,t,b,d⟩;exact⟨c,t,ij _ b,d⟩
     .rintro ⟨c,t,b,d⟩;rcases fA.1 b with b|b
      .exact⟨c,t,b,d⟩
      .simp only[ft]at b;subst b;exact absurd (d.symm.trans hz) c
    clear hv;go_wp2
    go_roundg (Z a-(k+1))
    case measure=>have:=Aa A;omega
    case rel=>exact⟨k+1,l,f,m,rfl,by go_num,by omega,rfl,AT,q,x⟩
   |false=>
    (have Ax:(a[k].v !=0)=hG:=by simp[bne,hv]);(have N:a[k].v≠0:=by simpa using hv);have I:=Ab (ZB f m l a[k].v w.heap.size (wr.alloc (jj [X ky a[k].v,O a[k].s].toArray 164)) q (by omega) n.zH (by simp;omega));have CL:=Ab N;clear hv N;(go_wp2_with fail);refine I.mono ?_;rintro e Q ⟨H,W,AH,rfl,C,P,q3,q4,q5,B,S⟩;have AB:kt (Ac [] w Q):=x.trans' B (λi hi=>kp ((q.lt i (by simpa using hi)).1));have B9:kt (GA (a.take (k+1)) H):=by
     have j:=Aa n;refine⟨C,λy=>?_,by have:=j.le;simp only[gq]at this⊢;omega⟩;rw[P,j.mem,fm u];constructor
     .rintro (c|⟨c,t,b,d⟩)
      .exact⟨by rw[c];exact CL,a[k],List.mem_append_right _ (ft.2 rfl),c.symm⟩
      .exact⟨c,t,ij _ b,d⟩
     .rintro ⟨c,t,b,d⟩;rcases fA.1 b with b|b
      .exact kp ⟨c,t,b,d⟩
      .simp only[ft]at b;subst b;exact kn d.symm
    clear I C P q3 q4 B S r q x p n;go_wp2
    go_roundg (Z a-(k+1))
    case measure=>have:=Aa A;omega
    case rel=>exact⟨k+1,H,W,AH,rfl,by go_num,by omega,rfl,B9,q5,AB⟩
  .have HE:kt (GA a l):=by
    have h:=Aa n;rw[fo (by omega)]at h;exact h
   go_wp2;go_ret;exact⟨l,f,m,rfl,HE,r,p⟩
theorem Ua(G:Option Addr)(P:Nat)(l:kJ Int)(u:Option Addr)(v:Nat)(o:kJ Int)(R C:Nat)(w:kq)(h:kw w R 21 1 (U G (Z l) P) (Z l) (l.flatMap AU))(z:kw w C 21 1 (U u (Z o) v) (Z o) (o.flatMap AU))(hl:Z l<=900000)(ho:Z o<=900000)(L:Cz NW o):
  Calls prog 134 #[U G (Z l) P,U u (Z o) v] w λe x=>∃H I,e=j3 (U H (Z (l.filter λy=> !JG o y)) I)/\kw x w.heap.size 21 1 (U H (Z (l.filter λy=> !JG o y)) I) (Z (l.filter λy=> !JG o y)) ((l.filter λy=> !JG o y).flatMap AU)/\Ac [] w x:=by
 obtain⟨i0,EX,Q,Ax,Bx⟩:=gH Tryz.zl;have HT:=Ab h;have EK:=Ab z;have CW:=Ab L;obtain⟨F,hF⟩:=kK (l.filter λy=> !JG o y);rw[hF];have T:=Ab hF;clear h z hF L;go_enter func134,ntmps134;go_wp2
 go_loopg [5,10] (Z l) (λgk o' i wr=>∃(k:Nat) (m:kJ Int) (a:Option Addr) (b:Nat),o'=U a (Z m) b/\i=X J k/\k<=Z l/\Z m<=k/\gk=Z l-k/\kt (m=(l.take k).filter λy=> !JG o y)/\kw wr w.heap.size 21 1 (U a (Z m) b) (Z m) (m.flatMap AU)/\kt (Ac [] w wr))
 case atStart=>exact⟨0,[],Y,0,rfl,rfl,by omega,by simp,rfl,by show _=_;simp,fK _ _ _ _,kL _ _⟩
 case round=>
  obtain⟨k,m,a,b,rfl,rfl,A,FF,D,q,n,d⟩:=hrel;have B:=Ab D;clear D;have FO:=d.size;by_cases r:k<Z l
  .obtain⟨g,FC,N,_,E⟩:=AC (Ad HT d) (by simp[AU]) k r;simp only[fg]at N;obtain⟨rfl,_,rfl⟩:=N;have d0:=E k r 0 (by omega);simp[AU]at d0;clear E;have M:=Ab (YT u v o l[k] C wr (Ad EK d) (by omega) CW);have p:kt ((l.take (k+1)).filter (λy=> !JG o y)=m++if JG o l[k] then[] else[l[k]]):=by
    show _=_;rw[fm r,iD,<-Aa q];by_cases c:JG o l[k]=hG<;>simp[c]
   (go_wp2_with fail);refine M.mono ?_;rintro e j ⟨rfl,rfl⟩;clear M;cases c:JG o l[k] with
   |true=>
    (have s:kt (m=(l.take (k+1)).filter λy=> !JG o y):=by show _=_;rw[Aa p,c];simp);clear c p q;go_wp2
    go_roundg (Z l-(k+1))
    case measure=>have:=Aa B;omega
    case rel=>exact⟨k+1,m,a,b,rfl,by go_num,by omega,by omega,rfl,s,n,d⟩
   |false=>
    (have s:kt (m++[l[k]]=(l.take (k+1)).filter λy=> !JG o y):=by show _=_;rw[Aa p,c];simp);clear c p q;have AR:=fX j (jj [X ky l[k]].toArray 21);have CL:=fw n (jj [X ky l[k]].toArray 21);(have AB:kt (∀f,(j.alloc (jj [X ky l[k]].toArray 21)).grownBy f (U a (Z m) b).ownBlock->Ac [] w f):=λf S=>(d.alloc _).grown S (λk A=>kp ((n.lt k A).1)));go_wp2_with (at_builtin;refine fO _ rfl (.tmp 18) (.tmp 20) _ rfl w.heap.size 21 i0 _ 1 4 underlying229 EX Q Ax Bx rfl (by omega) (U a (Z m) b) (Z m) (m.flatMap AU) rfl CL ⟨j.heap.size,0,Y⟩ 1 1 [X ky l[k]] rfl rfl (fM (cs:=[X ky l[k]].toArray) (t:=21) (fr:=(0,0)) AR) (by simp[Value.oneCell']) (by omega) (by unfold maxLen;omega) (by omega) (by simp;omega) (j.heap.size+1) (by simp) ?_;intro g1 W f B9 AH E0 FL)
    go_roundg (Z l-(k+1))
    case measure=>have:=Aa B;omega
    case rel=>exact⟨k+1,m++[l[k]],V ⟨g1,0,Y⟩,W,by simp,by go_num,by omega,by simp;omega,rfl,s,by simpa[AU] using B9,AB f AH⟩
  .have HE:kt (m=F):=by
    have h:=Aa q;rw[fo (by omega),Aa T]at h;exact h
   go_wp2;go_ret;rw[<-HE.out];exact⟨a,b,rfl,n,d⟩
def lenOf:ks->Nat
 | U _ n _=>n
 |_=>0
def JC(c:CB):Bool:=(Bi c).any (λa=>decide (2<lenOf a.tv))||decide (3<Z c.zE)
theorem OW(c:CB)(w:kq)(h:Iv w 0 c.hv c.bv c.zD c.zE)(L:Z c.zE<=1000):
  Calls prog 65 #[kx (j1 (AZ c))] w λe w'=>e=j3 (k0 (JC c))/\Ac [] w w':=by
 have q:=Ab (Kp c (w.alloc (jj (j1 (AZ c)) 120)) (h.kept ((kL [] w).alloc _)) L);have S:=Ab (Hj h);have Bx:Z (Bi c)<=1001:=by
  have:=EE c.zE;simp[Bi];omega
 have p:kt (JC c=((Bi c).any (λa=>decide (2<lenOf a.tv))||decide (3<Z c.zE))):=rfl;obtain⟨u,f,j,hv,bv,b⟩:=c;simp only at h L;obtain⟨y,s,rfl⟩:=Aj h.head;obtain⟨r,C,rfl⟩:=Aj h.body.row;generalize JC ⟨u,f,j,U y (Z j) s,U r (Z b) C,b⟩=G at p⊢;generalize Bi ⟨u,f,j,U y (Z j) s,U r (Z b) C,b⟩=aT at q S Bx p;clear h;have D:=Ab (kN w (AZ ⟨u,f,j,U y (Z j) s,U r (Z b) C,b⟩) 120);simp only[AZ]at q D⊢;go_enter func65,ntmps65;go_wp2_with fail
 refine q.mono ?_;rintro e w2 ⟨CC,EK,rfl,F,B⟩;have I:kt (Ac [] w w2):=((kL [] w).alloc _).trans B;have W:=Ab (D.kept B);have HO:=Ab F;clear q F B D;go_wp2;generalize w.heap.size=N at W⊢
 go_loopg [8] (Z aT) (λgk i wr=>∃(k:Nat),i=X J k/\k<=Z aT/\gk=Z aT-k/\kt ((aT.take k).any (λa=>decide (2<lenOf a.tv))=K)/\kt (Ac [] w wr)/\kt (Ac [] w2 wr))
 case atStart=>exact⟨0,rfl,by omega,rfl,by show _=_;simp,I,kL _ _⟩
 case round=>
  clear I;obtain⟨k,rfl,hk,H,M,A,t⟩:=hrel;have HG:=Ab H;clear H;by_cases n:k<Z aT
  .obtain⟨g,EX,T,d0,d1,d2⟩:=I9 (Ad HO t) k n;simp only[fg]at T;obtain⟨rfl,_,rfl⟩:=T;obtain⟨P,d,Q,o⟩:=S aT[k] (fj n);rw[o]at d2;have x:kt (2<d->G=hG):=by
    intro f;rw[Aa p,Jl _ _ k n (by simp[o,lenOf,f])];rfl
   have z:kt (¬2<d->(aT.take (k+1)).any (λa=>decide (2<lenOf a.tv))=K):=by
    intro f;rw[C4 _ _ k n (Aa M)];simp[o,lenOf,f]
   clear o;have R:=Ab (A.alloc (jj [X J aT[k].place,O aT[k].name,U P d Q].toArray 116));have AT:=Ab (t.alloc (jj [X J aT[k].place,O aT[k].name,U P d Q].toArray 116));by_cases m:2<d
   .have E:=Ab (x m);(have l:(2:Int)<(d:Int):=by omega);clear x z;go_wp2;go_ret;rw[Aa E];exact⟨rfl,R⟩
   .have E:=Ab (z m);(have l:¬(2:Int)<(d:Int):=by omega);clear x z;go_wp2
    go_roundg (Z aT-(k+1))
    case measure=>have:=Aa HG;omega
    case rel=>exact⟨k+1,by go_num,by omega,rfl,E,R,AT⟩
  .have HE:kt (G=decide (3<Z b)):=by
    have h:=Aa M;rw[fo (by omega)]at h;show _=_;rw[Aa p,h];rfl
   have c3:=(W.kept t).cell 3;simp at c3;by_cases m:3<Z b
   ·(have l:(3:Int)<(Z b:Int):=by omega);(have v:kt (G=hG):=by show _=_;rw[Aa HE];simp[m]);go_wp2;go_ret;rw[v.out];exact⟨by simp[l],A⟩
   ·(have l:¬(3:Int)<(Z b:Int):=by omega);(have v:kt (G=K):=by show _=_;rw[Aa HE];simp[m]);go_wp2;go_ret;rw[v.out];exact⟨by simp[l],A⟩
def BP(o:Option Int):ks:=match o with|some p=> .tuple #[X J p,k0 hG]|none=> .tuple #[X J 0,k0 K]
def Sy(c:CB):Z (AZ c)=4:=rfl
structure Cv(w:kq)(lv:ks)(cs:kJ CB):Prop where
 row:kw w 0 120 4 lv (Z cs) (cs.flatMap AZ)
 each:∀c∈cs,Iv w 0 c.hv c.bv c.zD c.zE
def Cv.kept{w w':kq}{a:ks}{b:kJ CB}(h:Cv w a b)(k:Ac [] w w'):Cv w' a b:=⟨Ad h.row k,λc d=>(h.each c d).kept k⟩
def EP(h:Cv w z p)(k:Nat)(a:k<Z p):
  ∃g t j n b m f e o d,z=U (V ⟨g,0,Y⟩) (Z p) t/\p[k]=⟨j,n,b,U m (Z b) f,U e (Z d) o,d⟩/\
   ku w ⟨g,k*4,Y⟩=V (X J j)/\ku w ⟨g,k*4+1,Y⟩=V (O n)/\ku w ⟨g,k*4+2,Y⟩=V (U m (Z b) f)/\ku w ⟨g,k*4+3,Y⟩=V (U e (Z d) o):=by
 obtain⟨g,t,x,_,i⟩:=AC h.row (λc _=>Sy c) k a;have l:=h.each _ (fj a);have u:=i k a 0 (by omega);have s:=i k a 1 (by omega);have q:=i k a 2 (by omega);have r:=i k a 3 (by omega);obtain⟨⟨j,n,b,y,A,d⟩,v⟩:∃c,p[k]=c:=⟨_,rfl⟩;rw[v]at u s q r l;simp only at l;obtain⟨m,f,rfl⟩:=Aj l.head;obtain⟨e,o,rfl⟩:=Aj l.body.row;simp[AZ]at u s q r;exact⟨g,t,j,n,b,m,f,e,o,d,x,v,u,s,q,r⟩
def Tc(x:zA)(a:GL):Bool:=a.name.toList==x.toList
def bJ(cs:kJ CB)(x:zA):Option Nat:=((cs.flatMap Bi).find? (Tc x)).map λa=>lenOf a.tv
def RL(cs:kJ CB)(a:GL):Bool:=decide (2<lenOf a.tv)||(match bJ cs a.name with|some n=> !(n==lenOf a.tv)|none=>K)
def eO(cs:kJ CB)(l:kJ GL):Option Int:=(l.find? (RL cs)).map λa=>a.place
def Ke{α:Type}{p:α->Bool}{l:kJ α}(h:l.any p=K):l.find? p=Y:=by
 rw[iN];intro y a b;rw[ip]at h;exact h y a b
def ZG(a:k<Z p):p.flatMap Bi=(p.take k).flatMap Bi++(Bi p[k]++(p.drop (k+1)).flatMap Bi):=by
 rw[show p.flatMap Bi=(p.take k++p[k]::p.drop (k+1)).flatMap Bi from by rw[List.getElem_cons_drop,gL]]
 rw[fR,fN]
def cX(a:k<Z p){l:kJ GL}(c:Bi p[k]=l)(e:((p.take k).flatMap Bi).any (Tc s)=K)(b:j<Z l)(d:(l.take j).any (Tc s)=K)(f:Tc s l[j]=hG):
  bJ p s=V (lenOf l[j].tv):=by
 unfold bJ;rw[ZG a,jY,Ke e,c,jY,FZ _ _ j b d f];rfl
def ZL(c:k<Z p){l:kJ GL}(b:Bi p[k]=l)(d:((p.take k).flatMap Bi).any (Tc s)=K)(a:l.any (Tc s)=K):((p.take (k+1)).flatMap Bi).any (Tc s)=K:=by
 rw[fm c,fR,jT,d];simp[b,a]
theorem N8(x:zA)(EX:Option Addr)(CW:Nat)(b:kJ CB)(w:kq)(h:Cv w (U EX (Z b) CW) b)(BA:∀c∈b,Z c.zE<=1000)(HI:Z b<=1000):
  Calls prog 38 #[O x,U EX (Z b) CW] w λe w'=>e=j3 (BP ((bJ b x).map fun(n:Nat)=>(n:Int)))/\Ac [] w w':=by
 have HP:=Ab h;have FA:=Ab BA;obtain⟨R,N⟩:=kK (bJ b x);rw[N];have CC:=Ab N;clear h BA N;go_enter func38,ntmps38;go_wp2
 go_loopg [12] (Z b) (λgk i wr=>∃(k:Nat),i=X J k/\k<=Z b/\gk=Z b-k/\kt (((b.take k).flatMap Bi).any (Tc x)=K)/\kt (Ac [] w wr))
 case atStart=>exact⟨0,rfl,by omega,rfl,by show _=_;simp,kL _ _⟩
 case round=>
  obtain⟨k,rfl,hk,Ax,H,z⟩:=hrel;have HG:=Ab Ax;clear Ax;by_cases o:k<Z b
  .obtain⟨g,HF,v,A,m,y,u,s,B,d,r,EK,d0,W,D,d3⟩:=EP (HP.kept z) k o;simp only[fg]at r;obtain⟨rfl,_,rfl⟩:=r;have p:=(HP.kept z).each _ (fj o);have E:=Aa FA _ (fj o);obtain⟨a,f⟩:=kK (Bi b[k]);have HY:=Ab (λj (hj:j<Z a) h2 h3=>cX o f H hj h2 h3);have HS:=Ab (ZL o f H);rw[EK]at p E f;simp only at p E;have C:=Ab (Kp ⟨v,A,m,U y (Z m) u,U s (Z d) B,d⟩ (wr.alloc (jj [X J v,O A,U y (Z m) u,U s (Z d) B].toArray 120)) (p.kept ((kL [] wr).alloc _)) E);have BT:=Ab (Hj (c:=⟨v,A,m,U y (Z m) u,U s (Z d) B,d⟩) p);have HD:Z a<=1001:=by
    have:=EE d;rw[<-f];simp[Bi];omega
   rw[f]at C BT;have q:=Ab (z.alloc (jj [X J v,O A,U y (Z m) u,U s (Z d) B].toArray 120));clear p EK f;simp only[AZ]at C;(go_wp2_with fail);refine C.mono ?_;rintro e w2 ⟨HA,HH,rfl,S,k2⟩;have AB:=Ab (q.trans k2);have HO:=Ab S;clear C S k2 q d0 W D d3;go_wp2
   go_loopg [19] (Z a) (λgj i T=>∃(j:Nat),i=X J j/\j<=Z a/\gj=Z a-j/\kt ((a.take j).any (Tc x)=K)/\kt (Ac [] w T)/\kt (Ac [] w2 T))
   case atStart=>exact⟨0,rfl,by omega,rfl,by show _=_;simp,AB,kL _ _⟩
   case round=>
    clear AB;obtain⟨j,rfl,hj,Bx,L,EM,E0⟩:=hrel;have Go:=Ab Bx;clear Bx;by_cases t:j<Z a
    .obtain⟨gg,HL,r,d0,W,D⟩:=I9 (Ad HO E0) j t;simp only[fg]at r;obtain⟨rfl,_,rfl⟩:=r;obtain⟨AR,I,AT,F⟩:=BT a[j] (fj t);rw[F]at D;have M:kt ((a[j].name.toList==x.toList)=hG->R=V I):=by
      intro l;have:=Aa HY j t L l;rw[F]at this;rw[<-Aa CC];exact this
     have G:kt ((a[j].name.toList==x.toList)=K->(a.take (j+1)).any (Tc x)=K):=by
      intro l;rw[C4 _ _ j t (Aa L)];exact l
     have q:=Ab (EM.alloc (jj [X J a[j].place,O a[j].name,U AR I AT].toArray 116));have FF:=Ab (E0.alloc (jj [X J a[j].place,O a[j].name,U AR I AT].toArray 116));clear F;cases l:(a[j].name.toList==x.toList)with
     |true=>
      have Q:=Ab (M l);clear M G;go_wp2;go_ret2;rw[Aa Q];exact⟨rfl,q⟩
     |false=>
      have Q:=Ab (G l);clear M G;go_wp2
      go_roundg (Z a-(j+1))
      case measure=>have:=Aa Go;omega
      case rel=>exact⟨j+1,by go_num,by omega,rfl,Q,q,FF⟩
    .have P:kt (((b.take (k+1)).flatMap Bi).any (Tc x)=K):=by
      have h:=Aa L;rw[fo (by omega)]at h;exact HS h
     go_wp2
     go_roundg (Z b-(k+1))
     case measure=>have:=Aa HG;omega
     case rel=>exact⟨k+1,by go_num,by omega,rfl,P,EM⟩
  .have P:kt (R=Y):=by
    have h:=Aa H;rw[fo (by omega)]at h;show _=_;rw[<-Aa CC];unfold bJ;rw[Ke h];rfl
   go_wp2;go_ret2;rw[P.out];exact⟨rfl,z⟩
theorem QJ(AB:Option Addr)(Ax:Nat)(b:kJ GL)(BA:Nat)(t:Option Addr)(s:Nat)(d:kJ CB)(w:kq)(AT:kw w BA 116 3 (U AB (Z b) Ax) (Z b) (b.flatMap AL))(H:∀a∈b,∃ad n cp,a.tv=U ad n cp)(FP:Z b<=1001)(BT:∀a∈b,lenOf a.tv<=1000)(h:Cv w (U t (Z d) s) d)(W:∀c∈d,Z c.zE<=1000)(CL:Z d<=1000):
  Calls prog 66 #[U AB (Z b) Ax,U t (Z d) s] w λe u=>e=j3 (BP (eO d b))/\Ac [] w u:=by
 have HO:=Ab AT;have E0:=Ab H;have CC:kt (∀x wr,Ac [] w wr->Calls prog 38 #[O x,U t (Z d) s] wr λe u=>e=j3 (BP ((bJ d x).map fun(n:Nat)=>(n:Int)))/\Ac [] wr u):=λx wr L=>N8 x t s d wr (h.kept L) W CL
 obtain⟨R,E⟩:=kK (eO d b);rw[E];have AH:kt ((b.find? (RL d)).map (λa=>a.place)=R):=E;clear h W E AT H BT;go_enter func66,ntmps66;go_wp2
 go_loopg [12] (Z b) (λgk i wr=>∃(k:Nat),i=X J k/\k<=Z b/\gk=Z b-k/\kt ((b.take k).any (RL d)=K)/\kt (Ac [] w wr))
 case atStart=>exact⟨0,rfl,by omega,rfl,by show _=_;simp,kL _ _⟩
 case round=>
  obtain⟨k,rfl,L,N,B,D⟩:=hrel;have M:=Ab N;clear N;by_cases r:k<Z b
  .obtain⟨g,FO,he,d0,d1,G⟩:=I9 (Ad HO D) k r;simp only[fg]at he;obtain⟨rfl,_,rfl⟩:=he;obtain⟨Q,f,S,y⟩:=E0 b[k] (fj r);rw[y]at G;have m:kt (RL d b[k]=hG->R=V b[k].place):=by
    intro C;rw[<-Aa AH,FZ _ _ k r (Aa B) C];rfl
   have o:kt (RL d b[k]=K->(b.take (k+1)).any (RL d)=K):=by
    intro C;rw[C4 _ _ k r (Aa B)];exact C
   have j:kt (RL d b[k]=(decide (2<f)||(match bJ d b[k].name with|some n=> !(n==f)|none=>K))):=by
    show _=_;unfold RL;rw[y];rfl
   clear y;have A:=D.alloc (jj [X J b[k].place,O b[k].name,U Q f S].toArray 116);have P:=Ab (kN wr [X J b[k].place,O b[k].name,U Q f S] 116);have I:=Ab (CC b[k].name _ A);have T:=Ab A;clear A;(go_wp2_with fail);refine I.mono ?_;rintro e w3 ⟨rfl,z⟩;have F:=P.kept z;have q:=Ab (T.trans z);have c0:=F.cell 0;have c2:=F.cell 2;simp at c0 c2;clear I P T z F d0 d1 G;by_cases v:2<f
   ·(have Bx:(2:Int)<(f:Int):=by omega);have l:kt (R=V b[k].place):=m (by rw[Aa j];simp[v]);clear m o j;cases bJ d b[k].name with
    |none=>
     simp only[Option.map_none,BP];go_wp2;go_ret2;rw[Aa l];exact⟨rfl,q⟩
    |some n=>
     simp only[im,BP];go_wp2;go_ret2;rw[Aa l];exact⟨rfl,q⟩
   ·(have Bx:¬(2:Int)<(f:Int):=by omega);cases hv:bJ d b[k].name with
    |none=>
     have l:kt ((b.take (k+1)).any (RL d)=K):=o (by rw[Aa j,hv];simp[v]);clear m o j hv;simp only[Option.map_none,BP];go_wp2
     go_roundg (Z b-(k+1))
     case measure=>have:=Aa M;omega
     case rel=>exact⟨k+1,by go_num,by omega,rfl,l,q⟩
    |some n=>
     by_cases p:n=f
     .have l:kt ((b.take (k+1)).any (RL d)=K):=o (by rw[Aa j,hv];simp[v,p]);(have FA:((f:Int) !=(n:Int))=K:=by rw[p];simp);(have EM:((f:Int)==(n:Int))=hG:=by rw[p];simp);clear m o j hv;simp only[im,BP];clear p;go_wp2
      go_roundg (Z b-(k+1))
      case measure=>have:=Aa M;omega
      case rel=>exact⟨k+1,by go_num,by omega,rfl,l,q⟩
     .have l:kt (R=V b[k].place):=m (by rw[Aa j,hv];simp[p]);(have FA:((f:Int) !=(n:Int))=hG:=by simp[bne];omega);(have EM:((f:Int)==(n:Int))=K:=by rw[gm];omega);clear m o j hv;simp only[im,BP];go_wp2;go_ret2;rw[Aa l];exact⟨rfl,q⟩
  .have HE:kt (R=Y):=by
    have h:=Aa B;rw[fo (by omega)]at h;show _=_;rw[<-Aa AH,Ke h];rfl
   go_wp2;go_ret2;rw[HE.out];exact⟨rfl,D⟩
def Gh(zE:kJ OR):kJ AO:=zE.flatMap λp=>if p.1.sort==0 then p.1.ts else[]
def U8{a:kJ OR}(b:k<Z a):Gh (a.take (k+1))=Gh (a.take k)++(if a[k].1.sort==0 then a[k].1.ts else[]):=by
 unfold Gh;rw[fm b,fR];simp
def YV(a:kJ OR):Z (Gh a)<=Z (Bf a):=by
 induction a with
 |nil=>simp[Gh]
 |cons p l ih=>
  unfold Gh Bf at*;simp only[fN,fE];have:Z (if p.1.sort==0 then p.1.ts else[])<=Z (AX p.1):=by
   by_cases h:(p.1.sort==0)=hG
   .simp[h,AX,A6]
   .simp[h]
  omega
def OA(zE:kJ OR)(y:Int):Bool:=(Gh zE).any λt=>t.v==y
def DW(zE:kJ OR)(t:AO):Bool:=t.v !=0&& !OA zE t.v
def X2{h:kJ AO}{c:kJ OR}{g a:kJ Int}(i:GA h g)(f:GA (Gh c) a):0<Z (g.filter λy=> !JG a y)↔h.any (DW c)=hG:=by
 rw[List.length_pos_iff_exists_mem,gV];constructor
 .rintro ⟨y,n⟩;obtain⟨p,k⟩:=fT.1 n;obtain⟨j,t,m,q⟩:=(i.mem y).1 p;refine⟨t,m,?_⟩;unfold DW OA;rw[q];have e:((Gh c).any λt=>t.v==y)=K:=by
   rw[ip];intro u d o;have:y∈a:=(f.mem y).2 ⟨j,u,d,by simpa using o⟩;rw[(Qa a y).2 this]at k;cases k
  rw[e];simp[j]
 .rintro ⟨t,r,b⟩;unfold DW OA at b;simp only[fU,bne_iff_ne,ne_eq,iK,ip]at b;refine⟨t.v,fT.2 ⟨(i.mem _).2 ⟨b.1,t,r,rfl⟩,?_⟩⟩;cases e:JG a t.v with
  |false=>rfl
  |true=>
   obtain⟨_,u,d,l⟩:=(f.mem _).1 ((Qa a _).1 e);exact absurd (by simpa using l) (b.2 u d)
theorem Od(T:Option Addr)(I:Nat)(c:kJ AO)(bt:Nat)(CW:Option Addr)(BT:Nat)(a:kJ OR)(w:kq)(ht:kw w bt 164 2 (U T (Z c) I) (Z c) (c.flatMap Ap))(h:CF w 0 (U CW (Z a) BT) a)(K2:Z a<=1000)(EY:∀p∈a,(p.1.sort==0)=hG->0<Z p.1.ts/\Z p.1.ts<=1000)(H5:Z c<=900000)(B:Z (Gh a)<=900000):
  Calls prog 108 #[U T (Z c) I,U CW (Z a) BT] w λe w'=>e=j3 (k0 (c.any (DW a)))/\Ac [] w w':=by
 obtain⟨i0,HZ,HC,H7,HV⟩:=gH Tryz.info164;have FB:kt (∀m d,GA c m->GA (Gh a) d->(0<Z (m.filter λy=> !JG d y)↔c.any (DW a)=hG)):=λm d h1 h2=>X2 h1 h2
 generalize c.any (DW a)=LB at FB⊢;have HT:=Ab ht;have HB:=Ab h;have HY:=Ab EY;have H9:=Ab B;clear ht h EY B;go_enter func108,ntmps108;go_wp2
 go_loopg [5,10] (Z a) (λgk o i wr=>∃(k:Nat) (b:kJ AO) (f:Option Addr) (j:Nat),o=U f (Z b) j/\i=X J k/\k<=Z a/\Z b<=k*1000/\gk=Z a-k/\kt (b=Gh (a.take k))/\kw wr w.heap.size 164 2 (U f (Z b) j) (Z b) (b.flatMap Ap)/\kt (Ac [] w wr))
 case atStart=>exact⟨0,[],Y,0,rfl,rfl,by omega,by simp,rfl,by show _=_;simp[Gh],fK _ _ _ _,kL _ _⟩
 case round=>
  obtain⟨k,b,f,j,rfl,rfl,hk,K8,FC,n,R,x⟩:=hrel;have HG:=Ab FC;clear FC;have LC:=x.size;by_cases E:k<Z a
  .have hB:=HB.kept x;obtain⟨g,LL,l,z,q,EK,AH,FF,d0,d1,d2,d3,d4,d5,d6,d7,d8⟩:=Iy hB k E;simp only[fg]at EK;obtain⟨rfl,_,rfl⟩:=EK;have t:=Ab (U8 E);have A:=Ab (HY a[k] (fj E));rw[AH]at t A;have L:=Ab (Ad FF ((kL [] wr).alloc (jj (j1 (Aw (l,U z (Z l.ts) q))) 166)));clear hB FF AH;have N:=Ab (x.alloc (jj (j1 (Aw (l,U z (Z l.ts) q))) 166));have H:=fw R (jj (j1 (Aw (l,U z (Z l.ts) q))) 166);(have AB:w.heap.size<=(wr.alloc (jj (j1 (Aw (l,U z (Z l.ts) q))) 166)).heap.size:=by simp;omega);simp only[Aw]at L N H AB;cases hs:(l.sort==0)with
   |false=>
    (have M:kt (b=Gh (a.take (k+1))):=by show _=_;rw[Aa t,Aa n];simp[hs]);clear t n A;go_wp2
    go_roundg (Z a-(k+1))
    case measure=>have:=Aa HG;omega
    case rel=>exact⟨k+1,b,f,j,rfl,by go_num,by omega,by omega,rfl,M,H,N⟩
   |true=>
    (have M:kt (b++l.ts=Gh (a.take (k+1))):=by show _=_;rw[Aa t,Aa n];simp[hs]);obtain⟨FO,HQ⟩:=A hs;simp only at FO HQ;obtain⟨gl,rfl,HO,BA,_,_⟩:=Xv L FO;have H1:=Ab BA;(have HF:kt (∀u,(wr.alloc (jj [X J l.place,X J l.sort,X J l.ap,O l.an,U (V ⟨gl,0,Y⟩) (Z l.ts) q,X ky l.l.v,O l.l.s,X ky l.r.v,O l.r.s].toArray 166)).grownBy u (U f (Z b) j).ownBlock->Ac [] w u):=λu hg=>N.grown hg (λk hk=>kp ((R.lt k hk).1)));clear t n A BA L;(have Go:Z (b++l.ts)<=(k+1)*1000:=by simp;omega);(have KK:k<=1000:=by omega);go_wp2_with (at_builtin;refine fO _ rfl (.tmp 17) (.tmp 20) _ rfl w.heap.size 164 i0 _ 2 24 underlying114 HZ HC H7 HV rfl (by omega) (U f (Z b) j) (Z b) (b.flatMap Ap) rfl H ⟨gl,0,Y⟩ (Z l.ts) q (l.ts.flatMap Ap) rfl HO H1 (J9 _) (by omega) (by unfold maxLen;omega) (by omega) AB _ rfl ?_;intro g1 HK u HW HM Jx FW)
    go_roundg (Z a-(k+1))
    case measure=>have:=Aa HG;omega
    case rel=>exact⟨k+1,b++l.ts,V ⟨g1,0,Y⟩,HK,by simp,by go_num,by omega,Go,rfl,M,by simpa using HW,HF u HM⟩
  .have HE:kt (b=Gh a):=by
    have h:=Aa n;rw[fo (by omega)]at h;exact h
   (have B:Z b<=900000:=by rw[Aa HE];exact H9);have W:=Ab (Kx T I c bt wr (Ad HT x) H5);clear n;(go_wp2_with fail);refine W.mono ?_;rintro e w4 ⟨m,HU,HL,rfl,G,Ha,k4⟩;have FT:=Ad R k4;have FL:=Ab (Kx f j b w.heap.size w4 FT B);have FP:=Ab (x.trans k4);have H2:=Ab G;have FW:=G.le;clear W G;(go_wp2_with fail);refine FL.mono ?_;rintro e w5 ⟨d,H4,HX,rfl,C,HP,k5⟩;have HH:=Ad Ha k5;have LD:=C.le;have S:=Ab (Ua HU HL m H4 HX d _ _ w5 HH HP (by omega) (by omega) C.zH);have HJ:=Ab (FP.trans k5);have Q:=Ab (FB m d H2 (by rw[<-Aa HE];exact C));clear FL C;generalize(m.filter λy=> !JG d y)=F at S Q;(go_wp2_with fail);refine S.mono ?_;rintro e w6 ⟨L0,K4,rfl,LS,k6⟩;have AT:=Ab (HJ.trans k6);clear S;by_cases Bx:0<Z F
   ·(have P:(0:Int)<(Z F:Int):=by omega);have D:kt (LB=hG):=Q.1 Bx;go_wp2;go_ret;rw[D.out];exact⟨by simp[P],AT⟩
   ·(have P:¬(0:Int)<(Z F:Int):=by omega);have D:kt (LB=K):=by
     cases hb:LB with
     |false=>rfl
     |true=>exact absurd (Q.2 hb) Bx
    go_wp2;go_ret;rw[D.out];exact⟨by simp[P],AT⟩
theorem LJ(f:Option Addr)(s:Nat)(a:kJ OR)(w:kq)(h:CF w 0 (U f (Z a) s) a)(EM:Z a<=1000)(T:∀p∈a,(p.1.sort==0)=hG->0<Z p.1.ts/\Z p.1.ts<=1000)(L:∀p∈a,Z (AX p.1)<=1000)(G:Z (Gh a)<=900000):
  Calls prog 109 #[U f (Z a) s] w λe u=>e=j3 (BP ((a.find? λp=>(AX p.1).any (DW a)).map λp=>p.1.place))/\Ac [] w u:=by
 have HB:=Ab h;have FB:=Ab L;have AR:kt (∀(m:Option Addr) (o:Nat) (b:kJ AO) (wr:kq),Ac [] w wr->kw wr 0 164 2 (U m (Z b) o) (Z b) (b.flatMap Ap)->Z b<=900000->Calls prog 108 #[U m (Z b) o,U f (Z a) s] wr λe u=>e=j3 (k0 (b.any (DW a)))/\Ac [] wr u):=λm o b wr M hr hl=>Od m o b 0 f s a wr hr (h.kept M) EM T hl G
 obtain⟨R,E⟩:=kK ((a.find? λp=>(AX p.1).any (DW a)).map λp=>p.1.place);rw[E];have AB:=Ab E;clear h L E T G;go_enter func109,ntmps109;go_wp2
 go_loopg [8] (Z a) (λgk i wr=>∃(k:Nat),i=X J k/\k<=Z a/\gk=Z a-k/\kt ((a.take k).any (λp=>(AX p.1).any (DW a))=K)/\kt (Ac [] w wr))
 case atStart=>exact⟨0,rfl,by omega,rfl,by show _=_;simp,kL _ _⟩
 case round=>
  obtain⟨k,rfl,M,Q,z,B⟩:=hrel;have HG:=Ab Q;clear Q;by_cases d:k<Z a
  .obtain⟨g,FT,q,l,t,I,c,W,d0,d1,d2,d3,d4,d5,d6,d7,d8⟩:=Iy (HB.kept B) k d;simp only[fg]at I;obtain⟨rfl,_,rfl⟩:=I;have C:=Aa FB a[k] (fj d);have n:kt ((AX q).any (DW a)=hG->R=V q.place):=by
    intro A;rw[<-Aa AB,FZ _ _ k d (Aa z) (by rw[c];exact A),c];rfl
   have r:kt ((AX q).any (DW a)=K->(a.take (k+1)).any (λp=>(AX p.1).any (DW a))=K):=by
    intro A;rw[C4 _ _ k d (Aa z)];rw[c];exact A
   rw[c]at C;simp only at C;have D:=Ab (Lx q l t (wr.alloc (jj (j1 (Aw (q,U l (Z q.ts) t))) 166)) (Ad W ((kL [] wr).alloc _)));have hN:=Ab (kN wr (Aw (q,U l (Z q.ts) t)) 166);have AH:=Ab (B.alloc (jj (j1 (Aw (q,U l (Z q.ts) t))) 166));clear W c;simp only[Aw]at D;(go_wp2_with fail);refine D.mono ?_;rintro e w3 ⟨BT,FF,rfl,P,x⟩;have S:=Ab (hN.kept x);have H:=Ab (AH.trans x);have j:=Ab (AR BT FF (AX q) w3 H P (by omega));clear D P x hN AH d0 d1 d2 d3 d4 d5 d6 d7 d8;generalize(AX q).any (DW a)=LB at j n r;generalize Z (AX q)=tl at j C⊢;(go_wp2_with fail);refine j.mono ?_;rintro e w5 ⟨rfl,y⟩;have v:=S.kept y;have N:=Ab (H.trans y);clear j y S;cases LB with
   |true=>
    have F:=Ab (n rfl);have c0:=v.cell 0;simp[Aw]at c0;clear n r v;go_wp2;go_ret2;rw[Aa F];exact⟨rfl,N⟩
   |false=>
    have F:=Ab (r rfl);clear n r v;go_wp2
    go_roundg (Z a-(k+1))
    case measure=>have:=Aa HG;omega
    case rel=>exact⟨k+1,by go_num,by omega,rfl,F,N⟩
  .have HE:kt (R=Y):=by
    have h:=Aa z;rw[fo (by omega)]at h;show _=_;rw[<-Aa AB,Ke h];rfl
   go_wp2;go_ret2;rw[HE.out];exact⟨rfl,B⟩
def OC(c:CB)(t:AO):Bool:=t.v !=0&& !OA c.zE t.v
def Ic(c:CB):Option Int:=if c.zD.any (OC c)then V c.hp else(c.zE.find? λp=>(AX p.1).any (OC c)).map λp=>p.1.place
def Mr{α:Type}{f g:α->Bool}:∀{l:kJ α},(∀x∈l,f x=g x)->l.any f=l.any g
 |[],_=>rfl
 |x::l,h=>by rw[jr,jr,h x (by simp),Mr (λy a=>h y (by simp[a]))]
def M7{α:Type}{f g:α->Bool}:∀{l:kJ α},(∀x∈l,f x=g x)->l.find? f=l.find? g
 |[],_=>rfl
 |x::l,h=>by rw[i9,i9,h x (by simp),M7 (λy a=>h y (by simp[a]))]
theorem OS(c:CB)(w:kq)(h:Iv w 0 c.hv c.bv c.zD c.zE)(f:Js c)(C:Z (A5 c)<=900000):
  Calls prog 68 #[kx (j1 (AZ c))] w λe q=>e=j3 (BP (Ic c))/\Ac [] w q:=by
 have o:Z (Gh c.zE)<=900000:=by
  have:=YV c.zE;simp only[A5,fE]at C;omega
 have A:Z c.zD<=900000:=by have:=f.head.2;omega
 have j:∀p∈c.zE,(p.1.sort==0)=hG->0<Z p.1.ts/\Z p.1.ts<=1000:=λp b M=>⟨(f.each p b).1 (by simp[A6,M]),(f.each p b).2⟩
 have s:∀p∈c.zE,Z (AX p.1)<=1000:=λp b=>(f.zQ b).2
 have v:=f.lits;have d:kt (Ic c=if c.zD.any (DW c.zE)then V c.hp else(c.zE.find? λp=>(AX p.1).any (DW c.zE)).map λp=>p.1.place):=rfl;generalize Ic c=U at d⊢;clear f C;obtain⟨b,H,k,R,S,a⟩:=c;simp only at h o A j s v d;obtain⟨x,t,rfl⟩:=Aj h.head;obtain⟨g,i,rfl⟩:=Aj h.body.row;have G:=Ab (kN w [X J b,O H,.slice x (Z k) t,.slice g (Z a) i] 120);have l:=(kL [] w).alloc (jj [X J b,O H,.slice x (Z k) t,.slice g (Z a) i].toArray 120);have n:=Ab (Od x t k 0 g i a _ (Ad h.head l) (h.body.kept l) v j A o);have z:kt (∀wr,Ac [] w wr->Calls prog 109 #[.slice g (Z a) i] wr λe q=>e=j3 (BP ((a.find? λp=>(AX p.1).any (DW a)).map λp=>p.1.place))/\Ac [] wr q):=λwr I=>LJ g i a wr (h.body.kept I) v j s o
 have D:=Ab l;generalize((a.find? λp=>(AX p.1).any (DW a)).map λp=>p.1.place)=FO at z d;generalize k.any (DW a)=LB at n d;clear h l j s;simp only[AZ];go_enter func68,ntmps68;go_wp2_with fail
 refine n.mono ?_;rintro e N ⟨rfl,y⟩;have r:=G.kept y;have u:=Ab (D.trans y);have P:=r.cell 0;have L:=r.cell 3;simp at P L;have F:=Ab (z N u);clear n G D y r z;cases LB with
 |true=>
  have m:kt (U=V b):=by have h:=Aa d;exact h
  clear d;go_wp2;go_ret2;rw[Aa m];exact⟨rfl,u⟩
 |false=>
  have m:kt (U=FO):=by have h:=Aa d;exact h
  clear d;go_wp2_with fail
  refine F.mono ?_;rintro e Q ⟨rfl,B⟩;have E:=Ab (u.trans B);clear F B;cases FO with
  |none=>
   simp only[BP];go_wp2;go_ret2;rw[Aa m];exact⟨rfl,E⟩
  |some p=>
   simp only[BP];go_wp2;go_ret2;rw[Aa m];exact⟨rfl,E⟩
structure TC(b:Nat)(w w':kq):Prop where
 os:w'.os=w.os
 tape:w'.tape=w.tape
 output:w'.output=w.output
 size:w.heap.size<=w'.heap.size
 block:∀k,k<b->w'.heap[k]?=w.heap[k]?
def TC.refl(b:Nat)(w:kq):TC b w w:=⟨rfl,rfl,rfl,fJ _,λ_ _=>rfl⟩
def TC.trans{b:Nat}{u v w:kq}(h:TC b u v)(k:TC b v w):TC b u w:=⟨k.os.trans h.os,k.tape.trans h.tape,k.output.trans h.output,gQ h.size k.size,λi a=>(k.block i a).trans (h.block i a)⟩
def TC.of(k:Ac M w v)(d:b<=w.heap.size)(a:∀i,i∈M->b<=i):TC b w v:=
 ⟨k.os,k.tape,k.output,k.size,λi c=>k.block i (by omega) (λh=>by have:=a i h;omega)⟩
def TC.setCell{b:Nat}{u w:kq}(h:TC b u w){p:Addr}(a:b<=p.block)(v:ks):TC b u (w.setCell p v):=
 h.trans ⟨rfl,rfl,rfl,by simp,λk c=>jS _ _ _ _ (by omega)⟩
def TC.kept{w w':kq}(h:TC b w w')(c:w.heap.size<=b):Ac [] w w':=⟨h.os,h.tape,h.output,h.size,λk a _=>h.block k (by omega)⟩
def JL(h:kw w m T j z n y)(k:TC b w u)(c:∀i,z.ownBlock=V i->i<b):kw u m T j z n y:=by
 refine⟨h.1,?_⟩;rcases h.2 with p|⟨g,d,a,rfl,l,f,o⟩
 .exact .inl p
 .refine .inr ⟨g,d,a,rfl,l,?_,o⟩;rw[k.block g (c g rfl)];exact f
structure bk(w:kq)(b:Nat)(c:CB):Prop where
 at_:Iv w 0 c.hv c.bv c.zD c.zE
 lt1:∀k,c.hv.ownBlock=V k->k<b
 lt2:∀k,c.bv.ownBlock=V k->k<b
 lt3:∀p∈c.zE,∀k,p.2.ownBlock=V k->k<b
def bk.low{c:CB}(h:bk w b c)(k:TC b w v):bk v b c:=
 ⟨⟨JL h.at_.head k h.lt1,⟨JL h.at_.body.row k h.lt2,λp a=>⟨JL (h.at_.body.each p a).1 k (h.lt3 p a),(h.at_.body.each p a).2⟩⟩⟩,h.lt1,h.lt2,h.lt3⟩
structure EG(w:kq)(b:Nat)(n:Int)(nv tv:ks)(names zC:kJ zA):Prop where
 zK:AF w b [X J n,nv,tv] 154
 rn:kw w (b+1) 9 1 nv (Z names) (names.flatMap Ah)
 rt:kw w (b+1) 98 1 tv (Z zC) (zC.flatMap Ah)
 ant:BV nv tv
 rin:Cz Fe names
 rit:Cz Fe zC
def EG.kept{w w':kq}{b:Nat}{n:Int}{a c:ks}{e d:kJ zA}(h:EG w b n a c e d)(k:Ac [] w w'):EG w' b n a c e d:=
 ⟨h.zK.kept k,Ad h.rn k,Ad h.rt k,h.ant,h.rin,h.rit⟩
def BV.symm{u v:ks}(h:BV u v):BV v u:=λk b a=>h k a b
theorem QT(b:Nat)(n:Nat)(q m:ks)(c a:kJ zA)(w:kq)(h:EG w b n q m c a):
  Calls prog 64 #[.pointer (V ⟨b,0,Y⟩)] w λe l=>e=j3 (k0 (decide (12<n)||decide (6<Z c)||decide (6<Z a)))/\l=w:=by
 obtain⟨u,y,rfl⟩:=Aj h.rn;obtain⟨x,v,rfl⟩:=Aj h.rt;have t:=h.zK.cell 0;have o:=h.zK.cell 1;have p:=h.zK.cell 2;simp at t o p;clear h;obtain⟨f,i⟩:=kK (decide (12<n)||decide (6<Z c)||decide (6<Z a));rw[i];have g:=Ab i;clear i;by_cases k:12<n
 .have s:(12:Int)<(n:Int):=by omega
  have d:kt (f=hG):=by show _=_;rw[<-Aa g];simp[k]
  go_enter func64,ntmps64;go_wp2;go_ret;rw[Aa d];exact⟨by simp,rfl⟩
 .have s:¬(12:Int)<(n:Int):=by omega
  by_cases j:6<Z c
  ·(have r:(6:Int)<(Z c:Int):=by omega);(have d:kt (f=hG):=by show _=_;rw[<-Aa g];simp[j]);go_enter func64,ntmps64;go_wp2;go_ret;rw[Aa d];exact⟨by simp,rfl⟩
  ·(have r:¬(6:Int)<(Z c:Int):=by omega);have d:kt (f=decide ((6:Int)<(Z a:Int))):=by
    show _=_;rw[<-Aa g];have e:decide ((6:Int)<(Z a:Int))=decide (6<Z a):=by
     by_cases h:6<Z a
     ·(have:(6:Int)<(Z a:Int):=by omega);simp[h,this]
     ·(have:¬(6:Int)<(Z a:Int):=by omega);simp[h,this]
    rw[e];simp[k,j]
   go_enter func64,ntmps64;go_wp2;go_ret;rw[Aa d];exact⟨by simp,rfl⟩
def EG.setN{n m:Int}{a c:ks}{f g:kJ zA}(h:EG w b n a c f g):EG (w.setCell ⟨b,0,Y⟩ (X J m)) b m a c f g:=by
 have d:∀{e:TypeId} {i:Nat} {v:ks} {k:Nat} {j:kJ ks},kw w (b+1) e i v k j->v.ownBlock≠V b:=λh e=>by have:=(h.lt b e).1;omega
 exact⟨h.zK.set 0 _,Af h.rn (p:=⟨b,0,Y⟩) (d h.rn) _,Af h.rt (p:=⟨b,0,Y⟩) (d h.rt) _,h.ant,h.rin,h.rit⟩
def Rn{v b u:ks}(f:kw w n T m u k y)(d:BV v u)(g:∀q,b.ownBlock=V q->v.ownBlock=V q\/w.heap.size<=q):BV b u:=λq c a=>by
 rcases g q c with h|h
 .exact d q h a
 .have:=(f.lt q a).2;omega
def EG.names{w a:kq}{b:Nat}{n:Int}{c g:ks}{x t:kJ zA}(h:EG w b n c g x t){f:ks}{d:kJ zA}
  (o:Ac c.ownBlock.toList w a) (r:kw a (b+1) 9 1 f (Z d) (d.flatMap Ah)) (B:∀q,f.ownBlock=V q->c.ownBlock=V q\/w.heap.size<=q) (y:Cz Fe d):
  EG (a.setCell ⟨b,1,Y⟩ f) b n f g d t/\ku a ⟨b,1,Y⟩=V c/\a.frozen? ⟨b,1,Y⟩=K:=by
 have l:∀{w:kq} {e:TypeId} {u:Nat} {v:ks} {k:Nat} {z:kJ ks},kw w (b+1) e u v k z->v.ownBlock≠V b:=λh e=>by have:=(h.lt b e).1;omega
 have m:AF a b [X J n,c,g] 154:=h.zK.kept o (λj=>l h.rn (by simpa using j));have s:=Am h.rt o (λi A j=>h.ant i (by simpa using j) A);exact⟨⟨m.set 1 _,Af r (p:=⟨b,1,Y⟩) (l r) _,Af s (p:=⟨b,1,Y⟩) (l s) _,Rn h.rt h.ant B,y,h.rit⟩,m.cell 1,m.frozen 1⟩
def EG.zC{w a:kq}{b:Nat}{n:Int}{g c:ks}{s A:kJ zA}(h:EG w b n g c s A){d:ks}{f:kJ zA}
  (o:Ac c.ownBlock.toList w a) (r:kw a (b+1) 98 1 d (Z f) (f.flatMap Ah)) (y:∀q,d.ownBlock=V q->c.ownBlock=V q\/w.heap.size<=q) (x:Cz Fe f):
  EG (a.setCell ⟨b,2,Y⟩ d) b n g d s f/\ku a ⟨b,2,Y⟩=V c/\a.frozen? ⟨b,2,Y⟩=K:=by
 have l:∀{w:kq} {e:TypeId} {u:Nat} {v:ks} {k:Nat} {z:kJ ks},kw w (b+1) e u v k z->v.ownBlock≠V b:=λh e=>by have:=(h.lt b e).1;omega
 have m:AF a b [X J n,g,c] 154:=h.zK.kept o (λj=>l h.rt (by simpa using j));have t:=Am h.rn o (λi B j=>h.ant i B (by simpa using j));exact⟨⟨m.set 2 _,Af t (p:=⟨b,2,Y⟩) (l t) _,Af r (p:=⟨b,2,Y⟩) (l r) _,(Rn h.rn h.ant.symm y).symm,h.rin,x⟩,m.cell 2,m.frozen 2⟩
def EG.zt{c d:ks}{e f:kJ zA}(h:EG w b I c d e f):(∀i,i∈c.ownBlock.toList->b<=i)/\(∀i,i∈d.ownBlock.toList->b<=i):=
 ⟨λi a=>by have:=(h.rn.lt i (by simpa using a)).1;omega,λi a=>by have:=(h.rt.lt i (by simpa using a)).1;omega⟩
def TC.drew{b:Nat}{u w:kq}(h:TC b u w):TC b u w.drew:=⟨h.os,h.tape,h.output,h.size,h.block⟩
def EG.drew{w:kq}{b:Nat}{n:Int}{a c:ks}{e d:kJ zA}(h:EG w b n a c e d):EG w.drew b n a c e d:=h.kept (kL [] w).drew
structure cG(M:kJ Nat)(b N:Nat)(cs:kJ ks)(u w':kq)(i:Nat)(old new:ks)(n:Int)(nv tv:ks)(names zC:kJ zA):Prop where
 cell:ku w' ⟨b,i,Y⟩=V old
 frozen:w'.frozen? ⟨b,i,Y⟩=K
 cen:EG (w'.setCell ⟨b,i,Y⟩ new) b n nv tv names zC
 low:Ac M u (w'.setCell ⟨b,i,Y⟩ new)
 box:AF (w'.setCell ⟨b,i,Y⟩ new) N cs 120
def EJ(ts:kJ AO)(l l':kJ zA):Prop:=∀y,y∈l'↔(∃t∈ts,t.v=0/\t.s=y)\/y∈l
structure G8(base:Nat)(lv:ks)(l:kJ zA)(ts:kJ AO)(w:kq)(l':kJ zA)(ad':Option Addr)(cp':Nat)(w':kq):Prop where
 zH:Cz Fe l'
 mem:EJ ts l l'
 le:Z l'<=Z l+Z ts
 own:kw w' base 98 1 (U ad' (Z l') cp') (Z l') (l'.flatMap Ah)
 kept:Ac lv.ownBlock.toList w w'
 new:∀k,(U ad' (Z l') cp').ownBlock=V k->lv.ownBlock=V k\/w.heap.size<=k
def EJ.skip{l d:kJ zA}{c:kJ AO}(e:k<Z c)(f:c[k].v≠0)(h:EJ (c.take k) l d):EJ (c.take (k+1)) l d:=by
 intro y;rw[h y,fm e];constructor
 .rintro (⟨t,a,b⟩|a)
  .exact kn ⟨t,ij _ a,b⟩
  .exact kp a
 .rintro (⟨t,a,b⟩|a)
  .rcases fA.1 a with a|a
   .exact kn ⟨t,a,b⟩
   .simp only[ft]at a;subst a;exact absurd b.1 f
  .exact kp a
def EJ.take{l d e:kJ zA}{b:kJ AO}{k:Nat}(f:k<Z b)(i:b[k].v=0)(h:EJ (b.take k) l d)(g:∀y,y∈e↔y=b[k].s\/y∈d):EJ (b.take (k+1)) l e:=by
 intro y;rw[g,h y,fm f];constructor
 .rintro (a|⟨t,a,c⟩|a)
  .exact kn ⟨b[k],List.mem_append_right _ (ft.2 rfl),i,a.symm⟩
  .exact kn ⟨t,ij _ a,c⟩
  .exact kp a
 .rintro (⟨t,a,c⟩|a)
  .rcases fA.1 a with a|a
   .exact kp (kn ⟨t,a,c⟩)
   .simp only[ft]at a;subst a;exact kn c.2.symm
  .exact kp (kp a)
theorem Ky(c:CB)(f:Option Addr)(j:Nat)(l:kJ zA)(n:Nat)(w:kq)(h:Iv w 0 c.hv c.bv c.zD c.zE)(hf:Js c)(hT:Z (A5 c)<=90000)
  (hl:kw w n 98 1 (U f (Z l) j) (Z l) (l.flatMap Ah)) (HR:Z l<=900000) (hr:Cz Fe l) (HI:n<=w.heap.size):
  Calls prog 79 #[U f (Z l) j,kx (j1 (AZ c))] w λe w'=>∃W EY BA,e=j3 (U EY (Z W) BA)/\G8 n (U f (Z l) j) l (A5 c) w W EY BA w':=by
 have z:=Ab (PG c (w.alloc (jj (j1 (AZ c)) 120)) (h.kept ((kL [] w).alloc _)) hf);generalize A5 c=TV at z hT⊢;obtain⟨hp,hn,HQ,N,bv,HH⟩:=c;simp only at h;obtain⟨HV,HC,rfl⟩:=Aj h.head;obtain⟨HN,HK,rfl⟩:=Aj h.body.row;have HL:=Ab hl;have Ha:=Ab hr;clear h hl hr hf;simp only[AZ]at z⊢;go_enter func79,ntmps79;go_wp2_with fail
 refine z.mono ?_;rintro e r ⟨Go,S,rfl,EK,E⟩;have P:kt (Ac [] w r):=((kL [] w).alloc _).trans E;have HF:w.heap.size+1<=r.heap.size:=by have:=E.size;simpa using this
 have HO:=Ab (Al EK (show w.heap.size<=_ by simp));clear z EK E;go_wp2
 go_loopg [0,10] (Z TV) (λgk o i wr=>∃(k:Nat) (m:kJ zA) (b:Option Addr) (d:Nat),o=U b (Z m) d/\i=X J k/\k<=Z TV/\gk=Z TV-k/\Z m<=Z l+k/\kt (G8 n (U f (Z l) j) l (TV.take k) w m b d wr)/\kt (kw wr w.heap.size 164 2 (U Go (Z TV) S) (Z TV) (TV.flatMap Ap))/\kt (∀q,(U b (Z m) d).ownBlock=V q->(U f (Z l) j).ownBlock=V q\/r.heap.size<=q)/\r.heap.size<=wr.heap.size)
 case atStart=>exact⟨0,l,f,j,rfl,rfl,by omega,rfl,by omega,⟨Ha,λy=>by simp,by omega,Ad HL P,P.mono (by simp),λk hk=>kn hk⟩,HO,λq u=>kn u,by omega⟩
 case round=>
  clear P;obtain⟨k,m,b,d,rfl,rfl,hk,EX,HJ,p,x,B,HB⟩:=hrel;have HG:=Ab EX;clear EX;by_cases F:k<Z TV
  .obtain⟨g,HD,he,d0,d1⟩:=EU x k F;simp only[fg]at he;obtain⟨rfl,_,rfl⟩:=he;have D:Ac [] wr (wr.alloc (jj [X ky TV[k].v,O TV[k].s].toArray 164)):=(kL [] wr).alloc _;have T:=Ab (Ad x D);(have AT:r.heap.size<=(wr.alloc (jj [X ky TV[k].v,O TV[k].s].toArray 164)).heap.size:=by simp;omega);cases N:(TV[k].v==0)with
   |false=>
    (have t:TV[k].v≠0:=by simpa using N);have C:kt (G8 n (U f (Z l) j) l (TV.take (k+1)) w m b d (wr.alloc (jj [X ky TV[k].v,O TV[k].s].toArray 164))):=by
     have a:=Aa p;refine⟨a.zH,a.mem.skip F t,?_,fw a.own _,a.kept.alloc _,a.new⟩;have:=a.le;simp only[gq]at this⊢;omega
    clear p x D t;go_wp2
    go_roundg (Z TV-(k+1))
    case measure=>have:=Aa HG;omega
    case rel=>exact⟨k+1,m,b,d,rfl,by go_num,by omega,rfl,by omega,C,T,B,AT⟩
   |true=>
    (have t:TV[k].v=0:=by simpa using N);have HZ:=Ab t;have CL:=Ab (UJ b d m TV[k].s n (wr.alloc (jj [X ky TV[k].v,O TV[k].s].toArray 164)) (fw p.own _) (by omega) p.zH (by simp;omega));clear t D;(go_wp2_with fail);refine CL.mono ?_;rintro e A ⟨R,L,I,rfl,q1,q2,q3,q4,q5,H,G⟩;have Q:Ac (U b (Z m) d).ownBlock.toList wr A:=((kL _ wr).alloc _).trans H;(have HP:wr.heap.size+1<=A.heap.size:=by have:=H.size;simpa using this);have C:kt (G8 n (U f (Z l) j) l (TV.take (k+1)) w R L I A):=by
     have a:=Aa p;refine⟨q1,a.mem.take F HZ q2,?_,q5,a.kept.trans' Q (λi M=>?_),λq u=>?_⟩
     .have:=a.le;simp only[gq]at this⊢;omega
     .rcases a.new i (by simpa using M)with h|h
      .exact kn (by simp[h])
      .exact kp h
     .rcases G q u with h|h
      .exact a.new q h
      .exact kp (by have:=a.kept.size;simp at h;omega)
    have FT:kt (kw A w.heap.size 164 2 (U (V ⟨g,0,Y⟩) (Z TV) S) (Z TV) (TV.flatMap Ap)):=by
     refine Am x Q (λi M hm=>?_);have h1:=(HO.lt i M);rcases B i (by simpa using hm)with h|h
     .have:=(HL.lt i h).2;omega
     .omega
    have FO:kt (∀q,(U L (Z R) I).ownBlock=V q->(U f (Z l) j).ownBlock=V q\/r.heap.size<=q):=by
     intro q u;rcases G q u with h|h
     .exact B q h
     .exact kp (by simp at h;omega)
    clear CL q1 q2 q3 q5 H G Q p x T AT B d0 d1;go_wp2
    go_roundg (Z TV-(k+1))
    case measure=>have:=Aa HG;omega
    case rel=>exact⟨k+1,R,L,I,rfl,by go_num,by omega,rfl,by omega,C,FT,FO,by omega⟩
  .have HE:kt (G8 n (U f (Z l) j) l TV w m b d wr):=by
    have h:=Aa p;rw[fo (by omega)]at h;exact h
   go_wp2;go_ret;exact⟨m,b,d,rfl,HE⟩
theorem Ym(b:Nat)(n:Nat)(nv tv:ks)(r q:kJ zA)(c:CB)(w:kq)(h:EG w b n nv tv r q)(hc:bk w b c)(hf:Js c)(hT:Z (A5 c)<=90000)(hn:n<=1000)(H9:Z r<=800000)(KS:Z q<=800000):
  Calls prog 63 #[.pointer (V ⟨b,0,Y⟩),kx (j1 (AZ c))] w λe g=>e=j3 (.tuple #[])/\∃HX H1 Ha FO,EG g b ((n+1:Nat):Int) HX H1 Ha FO/\(∀y,y∈Ha↔y∈BZ c\/y∈r)/\EJ (A5 c) q FO/\Z Ha<=Z r+1001/\Z FO<=Z q+90000/\Ac (b::(nv.ownBlock.toList++tv.ownBlock.toList)) w g:=by
 have IS:=h.zK.lt;obtain⟨S,R,rfl⟩:=Aj h.rn;obtain⟨I,G,rfl⟩:=Aj h.rt;obtain⟨M,EK⟩:=kK (b::((U S (Z r) R).ownBlock.toList++(U I (Z q) G).ownBlock.toList));rw[EK];have T:kt (b∈M/\(∀i,i∈(U S (Z r) R).ownBlock.toList->i∈M)/\(∀i,i∈(U I (Z q) G).ownBlock.toList->i∈M)):=by
  rw[<-EK];exact⟨by simp,λi f=>by simp only[fx,fA];exact kp (kn f),λi f=>by simp only[fx,fA];exact kp (kp f)⟩
 have HO:kt (∀wr,Ac M w wr->TC b w wr):=by
  intro wr W;refine TC.of W (by omega) (λi f=>?_);rw[<-EK]at f;simp only[fx,fA]at f;rcases f with f|f|f
  .omega
  .exact h.zt.1 i f
  .exact h.zt.2 i f
 clear EK;have AT:kt (∀wr A C l,TC b w wr->kw wr (b+1) 98 1 (U A (Z l) C) (Z l) (l.flatMap Ah)->Z l<=900000->Cz Fe l->b+1<=wr.heap.size->Calls prog 79 #[U A (Z l) C,kx (j1 (AZ c))] wr λe g=>∃a k j,e=j3 (U k (Z a) j)/\G8 (b+1) (U A (Z l) C) l (A5 c) wr a k j g):=λwr A C l W h1 h2 h3 h4=>Ky c A C l (b+1) wr (hc.low W).at_ hf hT h1 h2 h3 h4
 have FC:kt (∀wr A C l,TC b w wr->kw wr (b+1) 9 1 (U A (Z l) C) (Z l) (l.flatMap Ah)->Z l<=900000->Cz Fe l->b+1<=wr.heap.size->Calls prog 106 #[U A (Z l) C,kx (j1 (AZ c))] wr λe g=>∃a k j,e=j3 (U k (Z a) j)/\MT (b+1) (U A (Z l) C) l (BZ c) wr a k j g):=λwr A C l W h1 h2 h3 h4=>LR c A C l (b+1) wr (hc.low W).at_ hf.lits h1 h2 h3 h4
 have HK:kt (Z (BZ c)<=1001):=by
  show _<=_;have:=hf.lits;have h2:=ib (λp=>A6 p.1) c.zE;simp only[BZ,FX,fD,fH];omega
 generalize A5 c=TV at AT hT⊢;generalize BZ c=NV at FC HK⊢;obtain⟨D,v,B,hv,bv,t⟩:=c;have E0:=hc.at_;clear hc hf;simp only at E0;obtain⟨E,s,rfl⟩:=Aj E0.head;obtain⟨z,x,rfl⟩:=Aj E0.body.row;clear E0;simp only[AZ]at AT FC⊢;have c0:=h.zK.cell 0;have cf:=h.zK.frozen;have d0:=λo=>(h.zK.alloc o).cell 0
 have df:=λo=>(h.zK.alloc o).frozen
 simp at c0 d0;have q1:¬b=w.heap.size:=by omega
 have q2:¬w.heap.size=b:=by omega
 have H0:=Ab h;clear h;go_enter func63,ntmps63;go_wp2_with fail
 obtain⟨N,AB⟩:=kK w.heap.size;have IJ:b<N:=by omega
 have H:kt (AF ((w.setCell ⟨b,0,Y⟩ (X J ((n:Int)+1))).alloc (jj [X J D,O v,U E (Z B) s,U z (Z t) x].toArray 120)) N [X J D,O v,U E (Z B) s,U z (Z t) x] 120):=by
  have hh:=kN (w.setCell ⟨b,0,Y⟩ (X J ((n:Int)+1))) [X J D,O v,U E (Z B) s,U z (Z t) x] 120;rw[show(w.setCell ⟨b,0,Y⟩ (X J ((n:Int)+1))).heap.size=N from by simp[AB]]at hh
  exact hh
 have F:=Ab ((H0.setN (m:=(n:Int)+1)).kept ((kL [] _).alloc (jj [X J D,O v,U E (Z B) s,U z (Z t) x].toArray 120)));have CW:kt (Ac M w ((w.setCell ⟨b,0,Y⟩ (X J ((n:Int)+1))).alloc (jj [X J D,O v,U E (Z B) s,U z (Z t) x].toArray 120))):=((kL M w).setCell (p:=⟨b,0,Y⟩) (kn T.1) _).alloc _;have HY:kt ((U S (Z r) R).ownBlock≠V N/\(U I (Z q) G).ownBlock≠V N):=⟨λe=>by have:=(H0.rn.lt _ e).2;omega,λe=>by have:=(H0.rt.lt _ e).2;omega⟩;have H4:N+1<=((w.setCell ⟨b,0,Y⟩ (X J ((n:Int)+1))).alloc (jj [X J D,O v,U E (Z B) s,U z (Z t) x].toArray 120)).heap.size:=by simp[AB]
 clear c0 cf d0 df q1 q2 H0;change Code.wp _ _ _ _ ((w.setCell ⟨b,0,Y⟩ (X J ((n:Int)+1))).alloc (jj [X J D,O v,U E (Z B) s,U z (Z t) x].toArray 120));generalize(w.setCell ⟨b,0,Y⟩ (X J ((n:Int)+1))).alloc (jj [X J D,O v,U E (Z B) s,U z (Z t) x].toArray 120)=w1 at H F CW H4⊢;rw[AB];have JJ:=Ab AB;clear AB;have HR:kt (Calls prog 106 #[U S (Z r) R,kx #[X J D,O v,U E (Z B) s,U z (Z t) x]] w1.drew λe g=>∃a k j,e=j3 (U k (Z a) j)/\cG M b N [X J D,O v,U E (Z B) s,U z (Z t) x] w g 1 (U S (Z r) R) (U k (Z a) j) ((n:Int)+1) (U k (Z a) j) (U I (Z q) G) a q/\(∀y,y∈a↔y∈NV\/y∈r)/\Z a<=Z r+1001/\N+1<=g.heap.size):=by
  refine(FC w1.drew S R r (HO _ CW.drew) F.drew.rn (by omega) F.rin (by show b+1<=w1.heap.size;omega)).mono ?_;rintro e g ⟨a,k,j,rfl,d⟩;obtain⟨FT,FW,HB⟩:=F.drew.names d.kept d.own d.new d.zH;have H8:=F.drew.zt.1;refine⟨a,k,j,rfl,⟨FW,HB,FT,?_,?_⟩,d.mem,by have:=d.le;have:=Aa HK;omega,by have:=d.kept.size;have h2:w1.drew.heap.size=w1.heap.size:=rfl;omega⟩
  .exact(CW.drew.trans' d.kept (λi f=>kn (T.2.1 i f))).setCell (p:=⟨b,1,Y⟩) (kn T.1) _
  .exact(H.drew.kept d.kept (λhm=>HY.1 (by simpa using hm))).zB ⟨b,1,Y⟩ (by simp;omega) _
 have e1:=F.zK.cell 1;have b0:=H.cell 0;have b1:=H.cell 1;have b2:=H.cell 2;have b3:=H.cell 3;simp at e1 b0 b1 b2 b3;clear FC F CW H
 go_region_law
  (go_simp;go_at_call 106;refine HR.mono ?_;rintro e wt ⟨a,k,j,rfl,B9,HL,HS,HT⟩;have HM:=B9.cell;have HH:=B9.frozen;have FL:=Ab B9;clear B9)
 all_goals
  have CL:=Ab FL.cen;have EX:=Ab FL.low;have Q:=Ab FL.box;have HW:N+1<=(wt.setCell ⟨b,1,Y⟩ (U k (Z a) j)).heap.size:=by simp;omega
  have HU:=Ab HL;clear FL HM HH HR HL e1 b0 b1 b2 b3 HT;generalize wt.setCell ⟨b,1,Y⟩ (U k (Z a) j)=w2 at CL EX Q HW⊢;have b0:=Q.cell 0;have b1:=Q.cell 1;have b2:=Q.cell 2;have b3:=Q.cell 3;simp at b0 b1 b2 b3;have e2:=CL.zK.cell 2;simp at e2;have HN:kt (Calls prog 79 #[U I (Z q) G,kx #[X J D,O v,U E (Z B) s,U z (Z t) x]] w2.drew λe g=>∃u P L,e=j3 (U P (Z u) L)/\ku g ⟨b,2,Y⟩=V (U I (Z q) G)/\g.frozen? ⟨b,2,Y⟩=K/\EG (g.setCell ⟨b,2,Y⟩ (U P (Z u) L)) b ((n:Int)+1) (U k (Z a) j) (U P (Z u) L) a u/\EJ TV q u/\Z u<=Z q+90000/\Ac M w (g.setCell ⟨b,2,Y⟩ (U P (Z u) L))):=by
   have Go:=CL.drew;refine(AT w2.drew I G q (HO _ EX.drew) Go.rt (by omega) Go.rit (by show b+1<=w2.heap.size;omega)).mono ?_;rintro e g ⟨u,P,L,rfl,d⟩;obtain⟨FT,FW,HB⟩:=Go.zC d.kept d.own d.new d.zH;refine⟨u,P,L,rfl,FW,HB,FT,d.mem,by have:=d.le;omega,?_⟩;exact(EX.drew.trans' d.kept (λi f=>kn (T.2.2 i f))).setCell (p:=⟨b,2,Y⟩) (kn T.1) _
  clear AT CL EX Q;go_wp2_with fail
  go_region_law
   (go_simp;go_at_call 79;refine HN.mono ?_;rintro e KK ⟨u,P,L,rfl,HM,HH,r1,r2,r3,r4⟩;have HV:=Ab (And.intro r1 (And.intro r2 (And.intro r3 r4)));clear r1 r2 r3 r4)
  all_goals
   clear HN;(go_wp2_with fail);go_end0;obtain⟨r1,r2,r3,r4⟩:=HV;exact⟨rfl,_,_,a,u,r1,HU,r2,HS,r3,r4⟩
def cM(cs:kJ CB)(S:zA->Prop):Prop:=∀c∈cs,S c.hn->∀y∈BZ c,S y
def GY(cs:kJ CB)(x y:zA):Prop:=∀S:zA->Prop,S x->cM cs S->S y
structure WL(cs:kJ CB)(x:zA)(l:kJ zA):Prop where
 zH:Cz Fe l
 iff:∀y,y∈l↔GY cs x y
def Md{α:Type} [DecidableEq α]:∀(l b:kJ α),l.Nodup->(∀y∈l,y∈b)->Z l<=Z b
 |[],_,_,_=>fP _
 |a::t,b,hn,hs=>by
  rw[iv]at hn;have c:a∈b:=hs a (by simp);have ih:=Md t (b.erase a) hn.2 (λy d=>(List.mem_erase_of_ne (λe=>hn.1 (by rw[<-e];exact d))).2 (hs y (by simp[d])));have g:=List.length_erase_of_mem c;have f:0<Z b:=List.length_pos_of_mem c;simp only[fD];omega
def T6{l a:kJ zA}(d:Cz Fe l)(e:∀y∈l,y∈a)(f:Z a=Z l):∀y∈a,y∈l:=by
 intro y c;by_cases h:y∈l
 .exact h
 .have:=Md (y::l) a (iv.2 ⟨h,d.nodup Gp⟩) (λz b=>by
   rcases fx.1 b with rfl|b
   .exact c
   .exact e z b)
  simp only[fD]at this;omega
theorem TZ(HD:Option Addr)(FT:Nat)(a:kJ CB)(x:zA)(w:kq)(h:Cv w (U HD (Z a) FT) a)(KS:Z a<=1000)(hf:∀c∈a,Z c.zE<=1000)(hU:Z (a.flatMap BZ)<=800000):
  Calls prog 70 #[U HD (Z a) FT,O x] w λe w'=>∃l v A,e=j3 (U v (Z l) A)/\WL a x l/\Z l<=800001/\kw w' w.heap.size 9 1 (U v (Z l) A) (Z l) (l.flatMap Ah)/\Ac [] w w':=by
 have HP:=Ab h;have IS:=Ab hf;clear h hf;have HB:kt (∀l:kJ zA,Cz Fe l->(∀y∈l,GY a x y)->Z l<=1+Z (a.flatMap BZ)):=by
  intro l hr hs;have:=Md l (x::a.flatMap BZ) (hr.nodup Gp) (λy d=>by
   refine hs y d (λz=>z∈x::a.flatMap BZ) (by simp) (λc b _ z hz=>?_)
   exact gu _ (gc.2 ⟨c,b,hz⟩))
  simp only[fD]at this;omega
 obtain⟨u,FW⟩:=kK (Z (a.flatMap BZ));rw[FW]at hU HB;clear FW;have FL:kw (w.alloc (jj [O x].toArray 9)) w.heap.size 9 1 (U (V ⟨w.heap.size,0,Y⟩) 1 1) 1 ([x].flatMap Ah):=⟨rfl,kp ⟨w.heap.size,1,_,rfl,fJ _,kN w [O x] 9,fJ _,by unfold maxLen;omega,rfl,rfl⟩⟩;have EY:=(kL [] w).alloc (jj [O x].toArray 9);have AB:=Ab FL;have BT:=Ab EY;clear FL EY;go_enter func70,ntmps70;go_wp2;change Code.wp _ _ _ _ (w.alloc (jj [O x].toArray 9));generalize w.alloc (jj [O x].toArray 9)=w1 at AB BT⊢
 go_loopg [5] (u+2-1) (λgk o wr=>∃(l:kJ zA) (v:Option Addr) (A:Nat),o=U v (Z l) A/\gk=u+2-Z l/\Z l<=u+1/\kt (Cz Fe l)/\kt (x∈l)/\kt (∀y∈l,GY a x y)/\kt (kw wr w.heap.size 9 1 (U v (Z l) A) (Z l) (l.flatMap Ah))/\kt (Ac [] w wr))
 case atStart=>exact⟨[x],_,_,rfl,rfl,by simp,λi j hi hj K4=>by simp at hi hj;omega,by simp[kt],λy d S P h2=>by simp at d;subst d;exact P,AB,BT⟩
 case round=>
  clear AB BT;obtain⟨l,v,A,rfl,HA,HJ,H3,HX,H4,HH,HK⟩:=hrel;have HG:=Ab HA;clear HA;go_wp2
  go_loopg [5,15] (Z a) (λIx o i CW=>∃(k:Nat) (m:kJ zA) (t:Option Addr) (s:Nat),o=U t (Z m) s/\i=X J k/\k<=Z a/\Ix=Z a-k/\Z l<=Z m/\Z m<=u+1/\kt (Cz Fe m)/\kt (∀y∈l,y∈m)/\kt (∀y∈m,GY a x y)/\kt (Z m=Z l->∀c∈a.take k,c.hn∈m->∀y∈BZ c,y∈m)/\kt (kw CW w.heap.size 9 1 (U t (Z m) s) (Z m) (m.flatMap Ah))/\kt (Ac [] w CW))
  case atStart=>exact⟨0,l,v,A,rfl,rfl,by omega,rfl,by omega,HJ,H3,λy d=>d,H4,λ_ c b=>by simp at b,HH,HK⟩
  case round=>
   obtain⟨k,m,t,s,rfl,rfl,hk,E0,HR,FC,C,M,E,Q,W,N⟩:=hrel;have FF:=Ab E0;clear E0;by_cases L:k<Z a
   .have AT:=HP.kept N;obtain⟨g,LC,H,f,q,I,D,G,F,p,he,T,d0,d1,d2,d3⟩:=EP AT k L;simp only[fg]at he;obtain⟨rfl,_,rfl⟩:=he;have K7:=N.size;have EM:=Ab (AT.each _ (fj L));have B9:=Aa IS _ (fj L);have EK:kt (∀c,c∈a.take (k+1)↔c∈a.take k\/c=⟨H,f,q,U I (Z q) D,U G (Z p) F,p⟩):=by
     intro c;rw[fm L,T,fA,ft]
    (have H9:kt ((⟨H,f,q,U I (Z q) D,U G (Z p) F,p⟩:CB)∈a):=by rw[<-T];exact fj L);rw[T]at EM B9;simp only at B9;clear AT T;have Bx:=Ab (N.alloc (jj [X J H,O f,U I (Z q) D,U G (Z p) F].toArray 120));have R:=Ab (fw W (jj [X J H,O f,U I (Z q) D,U G (Z p) F].toArray 120));have HC:=Ab (RX t s m f w.heap.size _ R (by omega) C);(go_wp2_with fail);refine HC.mono ?_;rintro e w4 ⟨rfl,HI⟩;subst HI;clear HC;cases hh:Ig m f with
    |false=>
     have CC:kt (Z m=Z l->∀c∈a.take (k+1),c.hn∈m->∀y∈BZ c,y∈m):=by
      intro hl c b B;rcases(EK c).1 b with b|b
      .exact Q hl c b B
      .subst b;simp only at B;rw[(Gr m f).2 B]at hh;cases hh
     clear hh Q;go_wp2
     go_roundg (Z a-(k+1))
     case measure=>have:=Aa FF;omega
     case rel=>exact⟨k+1,m,t,s,rfl,by go_num,by omega,rfl,HR,FC,C,M,E,CC,R,Bx⟩
    |true=>
     have FB:kt (f∈m):=(Gr m f).1 hh;have CL:=Ab (LR ⟨H,f,q,U I (Z q) D,U G (Z p) F,p⟩ t s m w.heap.size (wr.alloc (jj [X J H,O f,U I (Z q) D,U G (Z p) F].toArray 120)) ((Aa EM).kept ((kL [] wr).alloc _)) B9 (Aa R) (by omega) (Aa C) (by simp;omega));simp only[AZ]at CL;clear hh;(go_wp2_with fail);refine CL.mono ?_;rintro e w5 ⟨r,H5,H0,rfl,n⟩;have EX:Ac [] w w5:=Bx.trans' n.kept (λi hi=>kp ((R.lt i (by simpa using hi)).1));have AR:∀y∈r,GY a x y:=by
      intro y d;rcases(n.mem y).1 d with P|P
      .intro S hS hC;exact hC _ H9 (E _ FB S hS hC) y P
      .exact E y P
     (have Ax:∀y∈m,y∈r:=λy d=>(n.mem y).2 (kp d));have CC:kt (Z r=Z l->∀c∈a.take (k+1),c.hn∈r->∀y∈BZ c,y∈r):=by
      intro hl c b B y d;have LB:=n.ge;have H1:=T6 C Ax (by omega);rcases(EK c).1 b with b|b
      .exact Ax y (Q (by omega) c b (H1 _ B) y d)
      .subst b;exact(n.mem y).2 (kn d)
     (have HL:Z l<=Z r:=by have:=n.ge;omega);have K2:=Aa HB r n.zH AR;have HS:=Ab AR;(have HO:kt (∀y∈l,y∈r):=λy d=>Ax y (M y d));have H7:=Ab n.zH;have HN:=Ab n.own;have H2:=Ab EX;clear CL n EX AR Ax Q E M C W R Bx FB;go_wp2
     go_roundg (Z a-(k+1))
     case measure=>have:=Aa FF;omega
     case rel=>exact⟨k+1,r,H5,H0,rfl,by go_num,by omega,rfl,HL,by omega,H7,HO,HS,CC,HN,H2⟩
   .by_cases HT:Z m=Z l
    .have HE:kt (WL a x m):=by
      refine⟨C,λy=>⟨E y,λd=>?_⟩⟩;refine d (λz=>z∈m) (M x HX) (λc b B z hz=>?_);have h:=Aa Q HT;rw[fo (by omega)]at h;exact h c b B z hz
     (have HZ:(Z m:Int)=(Z l:Int):=by omega);go_wp2;go_ret;exact⟨m,t,s,rfl,HE,by omega,W,N⟩
    ·(have HZ:¬(Z m:Int)=(Z l:Int):=by omega);have H6:kt (x∈m):=M x HX;go_wp2
     go_roundg (u+2-Z m)
     case measure=>have:=Aa HG;omega
     case rel=>exact⟨m,t,s,rfl,rfl,FC,C,H6,E,W,N⟩
def Lk(f:zA->zA->Bool)(hn:zA)(p:OR):Bool:=p.1.sort==1&&f p.1.an hn
def Kb(f:zA->zA->Bool)(c:CB):Option Int:=(c.zE.find? (Lk f c.hn)).map λp=>p.1.place
def Oo(f:zA->zA->Bool)(cs:kJ CB):Option Int:=cs.findSome? (Kb f)
def QB{α β:Type}(f:α->Option β)(l:kJ α)(k:Nat)(a:k<Z l)(h:∀c∈l.take k,f c=Y){b:β}(d:f l[k]=V b):l.findSome? f=V b:=by
 conv=>lhs;rw[<-gL k l]
 rw[j8];have:(l.take k).findSome? f=Y:=by rw[jH];exact h
 rw[this,fQ a,jA,d];rfl
theorem Sz(f:zA->zA->Bool)(HS:Option Addr)(HI:Nat)(d:kJ CB)(FO:∀x y,f x y=hG↔GY d x y)(w:kq)(h:Cv w (U HS (Z d) HI) d)(HX:Z d<=1000)(hf:∀c∈d,Z c.zE<=1000)(hU:Z (d.flatMap BZ)<=800000):
  Calls prog 33 #[U HS (Z d) HI] w λe m=>e=j3 (BP (Oo f d))/\Ac [] w m:=by
 have HP:=Ab h;have HR:=Ab hf;have HA:=Ab FO;clear h hf FO;obtain⟨R,hR⟩:=kK (Oo f d);rw[hR];have HQ:=Ab hR;clear hR;go_enter func33,ntmps33;go_wp2
 go_loopg [10] (Z d) (λgk i wr=>∃(k:Nat),i=X J k/\k<=Z d/\gk=Z d-k/\kt (∀c∈d.take k,Kb f c=Y)/\kt (Ac [] w wr))
 case atStart=>exact⟨0,rfl,by omega,rfl,λc u=>by simp at u,kL _ _⟩
 case round=>
  obtain⟨k,rfl,hk,HN,HC,E⟩:=hrel;have HG:=Ab HN;clear HN;by_cases M:k<Z d
  .have BT:=HP.kept E;obtain⟨g,Mo,B,a,o,C,t,A,z,b,he,W,d0,d1,d2,d3⟩:=EP BT k M;simp only[fg]at he;obtain⟨rfl,_,rfl⟩:=he;have AB:=Ab (BT.each _ (fj M)).body;have HD:=Aa HR _ (fj M);have K1:kt (∀p,Kb f ⟨B,a,o,U C (Z o) t,U A (Z b) z,b⟩=V p->R=V p):=by
    intro p HW;rw[<-Aa HQ];exact QB _ _ k M HC (by rw[W];exact HW)
   have H7:kt (Kb f ⟨B,a,o,U C (Z o) t,U A (Z b) z,b⟩=Y->∀c∈d.take (k+1),Kb f c=Y):=by
    intro H1 c u;rw[fm M,W,fA,ft]at u;rcases u with u|u
    .exact HC c u
    .rw[u];exact H1
   rw[W]at AB HD;simp only at HD AB;clear BT W;have Bx:=Ab (E.alloc (jj [X J B,O a,U C (Z o) t,U A (Z b) z].toArray 120));have HO:=Ab ((kL [] wr).alloc (jj [X J B,O a,U C (Z o) t,U A (Z b) z].toArray 120));have Ax:=Ab (kN wr [X J B,O a,U C (Z o) t,U A (Z b) z] 120);go_wp2;change Code.wp _ _ _ _ (wr.alloc (jj [X J B,O a,U C (Z o) t,U A (Z b) z].toArray 120));have HB:=Ab (AB.kept HO);generalize wr.alloc (jj [X J B,O a,U C (Z o) t,U A (Z b) z].toArray 120)=w1 at Bx Ax HB⊢;generalize wr.heap.size=N at Ax⊢;clear HO AB E d0 d1 d2 d3
   go_loopg [17] (Z b) (λgk i wr=>∃(j:Nat),i=X J j/\j<=Z b/\gk=Z b-j/\kt ((b.take j).any (Lk f a)=K)/\kt (Ac [] w wr)/\kt (Ac [] w1 wr))
   case atStart=>exact⟨0,rfl,by omega,rfl,by show _=_;simp,Bx,kL _ _⟩
   case round=>
    clear Bx;obtain⟨j,rfl,hj,FF,HJ,E,FP⟩:=hrel;have Ha:=Ab FF;clear FF;by_cases CL:j<Z b
    .obtain⟨g2,MB,q,D,H,Go,S,K4,e0,e1,e2,e3,e4,e5,e6,e7,e8⟩:=Iy (HB.kept FP) j CL;simp only[fg]at Go;obtain⟨rfl,_,rfl⟩:=Go;have HY:kt (Lk f a (q,U D (Z q.ts) H)=hG->R=V q.place):=by
      intro n;refine K1 _ ?_;unfold Kb;simp only;rw[FZ _ _ j CL (Aa HJ) (by rw[S];exact n),S];rfl
     have AT:kt (Lk f a (q,U D (Z q.ts) H)=K->(b.take (j+1)).any (Lk f a)=K):=by
      intro n;rw[C4 _ _ j CL (Aa HJ),S];exact n
     clear S K4;have I:=Ab (E.alloc (jj (j1 (Aw (q,U D (Z q.ts) H))) 166));have F:=Ab (FP.alloc (jj (j1 (Aw (q,U D (Z q.ts) H))) 166));have G:=Ab (kN wr (Aw (q,U D (Z q.ts) H)) 166);simp only[Aw]at I F G;cases hs:(q.sort==1)with
     |false=>
      (have H0:(q.sort !=1)=hG:=by simp[bne,hs]);have BA:=Ab (AT (by unfold Lk;simp only;rw[hs];rfl));clear HY AT hs;go_wp2
      go_roundg (Z b-(j+1))
      case measure=>have:=Aa Ha;omega
      case rel=>exact⟨j+1,by go_num,by omega,rfl,BA,I,F⟩
     |true=>
      (have H0:(q.sort !=1)=K:=by simp[bne,hs]);(have CC:kt (f q.an a=hG->R=V q.place):=λn=>HY (by unfold Lk;simp only;rw[hs,n];rfl));(have EX:kt (f q.an a=K->(b.take (j+1)).any (Lk f a)=K):=λn=>AT (by unfold Lk;simp only;rw[hs,n];rfl));clear HY AT hs;(go_wp2_with fail);change Code.wp _ _ _ _ (wr.alloc (jj [X J q.place,X J q.sort,X J q.ap,O q.an,U D (Z q.ts) H,X ky q.l.v,O q.l.s,X ky q.r.v,O q.r.s].toArray 166));generalize wr.alloc (jj [X J q.place,X J q.sort,X J q.ap,O q.an,U D (Z q.ts) H,X ky q.l.v,O q.l.s,X ky q.r.v,O q.r.s].toArray 166)=w3 at I F G⊢;generalize wr.heap.size=T at G⊢;have t3:=G.cell 3;have n1:=(Ax.kept F).cell 1;simp at t3 n1;have H4:=Ab (TZ _ _ d q.an w3.drew (HP.kept I.drew) HX HR hU);have K3:kt (∀m,Ac [] w3.drew m->ku m ⟨T,3,Y⟩=V (O q.an)/\ku m ⟨N,1,Y⟩=V (O a)/\ku m ⟨T,0,Y⟩=V (X J q.place)/\Ac [] w m/\Ac [] w1 m):=by
       intro m L;exact⟨(G.drew.kept L).cell 3,((Ax.kept F).drew.kept L).cell 1,(G.drew.kept L).cell 0,I.drew.trans L,F.drew.trans L⟩
      have KS:kt (∀(l:kJ zA) ad cp EK m,WL d q.an l->Z l<=800001->kw m EK 9 1 (U ad (Z l) cp) (Z l) (l.flatMap Ah)->Calls prog 69 #[U ad (Z l) cp,O a] m λe w9=>e=j3 (k0 (f q.an a))/\w9=m):=by
       intro l ad cp EK m Q h1 h2;(have IS:Ig l a=f q.an a:=by rw[gU,Gr,Q.iff,Aa HA]);have n:=RX ad cp l a EK m h2 (by omega) Q.zH;rw[IS]at n;exact n
      clear I F G HP HA
      go_region_held3 (λm=>ku m ⟨T,3,Y⟩=V (O q.an)/\ku m ⟨N,1,Y⟩=V (O a)) (go_keep) ((first|(go_at_call 70;refine H4.mono ?_;rintro e w4 ⟨l,Jx,H6,rfl,Q,HM,HH,k4⟩;have P:=Aa K3 w4 k4;have f3:=P.1;have f1:=P.2.1;have f0:=P.2.2.1;have B9:=Ab P;have H3:=Ab (KS l Jx H6 _ w4 Q HM HH);clear Q HM HH k4 P)|(go_at_call 69;refine H3.mono ?_;rintro e w9 ⟨rfl,HV⟩;subst HV)))
      rename_i KK;clear KK;cases n:f q.an a with
      |true=>
       have HT:=Ab (CC n);clear CC EX n;go_wp2;go_ret2;rw[Aa HT];exact⟨rfl,B9.2.2.2.1⟩
      |false=>
       have HT:=Ab (EX n);clear CC EX n;go_wp2
       go_roundg (Z b-(j+1))
       case measure=>have:=Aa Ha;omega
       case rel=>exact⟨j+1,by go_num,by omega,rfl,HT,B9.2.2.2.1,B9.2.2.2.2⟩
    .have HE:kt (Kb f ⟨B,a,o,U C (Z o) t,U A (Z b) z,b⟩=Y):=by
      have h:=Aa HJ;rw[fo (by omega)]at h;show _=_;unfold Kb;simp only;have:b.find? (Lk f a)=Y:=by
       rw[iN];intro y hy n;rw[ip]at h;exact h y hy n
      rw[this];rfl
     have BA:=Ab (H7 HE);go_wp2
     go_roundg (Z d-(k+1))
     case measure=>have:=Aa HG;omega
     case rel=>exact⟨k+1,by go_num,by omega,rfl,BA,E⟩
  .have HE:kt (R=Y):=by
    have h:=Aa HC;rw[fo (by omega)]at h;show _=_;rw[<-Aa HQ];unfold Oo;rw[jH];exact h
   go_wp2;go_ret2;rw[HE.out];exact⟨rfl,E⟩
def Td(cs:kJ AY)(x y:zA)(b:Nat):Prop:=∃c∈cs,c.head.name=x/\∃l∈Ak c,l.A.name=y/\(((l.kind==97)=hG/\b=0)\/((l.kind==33)=hG/\b=1))
def GF(cs:kJ AY)(x y:zA):Prop:=∀S:zA->Prop,S x->(∀u v b,Td cs u v b->S u->S v)->S y
def GF.refl(a:kJ AY)(x:zA):GF a x x:=λS h _=>h
def GF.trans{x y z:zA}(h:GF c x y)(k:GF c y z):GF c x z:=λS b a=>k S (h S b a) a
def GF.edge(h:Td c s t b):GF c s t:=λS d a=>a s t b h d
def Zf(cs:kJ AY):Prop:=∀x y,Td cs x y 1->¬GF cs y x
def S3(f:zA->Nat):∀(a:kJ Bs) (n:Nat),n<=If f n a/\∀p∈a,MJ f p<=If f n a
 |[],n=>⟨fJ _,λp b=>by simp at b⟩
 |q::a,n=>by
  have ih:=S3 f a (max n (MJ f q));have e:If f n (q::a)=If f (max n (MJ f q)) a:=rfl;rw[e];refine⟨by have:=ih.1;omega,λp b=>?_⟩;rcases fx.1 b with rfl|b
  .have:=ih.1;omega
  .exact ih.2 p b
def Xh(f:zA->Nat):∀(a:kJ Bs) (n:Nat),If f n a=n\/∃p∈a,If f n a=MJ f p
 |[],n=>kn rfl
 |q::a,n=>by
  have e:If f n (q::a)=If f (max n (MJ f q)) a:=rfl;rw[e];rcases Xh f a (max n (MJ f q))with h|⟨p,hp,h⟩
  .by_cases b:n<=MJ f q
   .exact kp ⟨q,by simp,by rw[h];omega⟩
   .exact kn (by rw[h];omega)
  .exact kp ⟨p,by simp[hp],h⟩
def WZ(f:zA->Nat)(x:zA):∀(a:kJ AY) (n:Nat),n<=a.foldl (Ht f x) n/\∀c∈a,c.head.name=x->∀p∈c.bl,MJ f p<=a.foldl (Ht f x) n
 |[],n=>⟨fJ _,λc h=>by simp at h⟩
 |c::a,n=>by
  rw[fZ];have ih:=WZ f x a (Ht f x n c);have j:n<=Ht f x n c:=by
   unfold Ht;split
   .exact(S3 f c.bl n).1
   .exact fJ _
  refine⟨by have:=ih.1;omega,λd b g p e=>?_⟩;rcases fx.1 b with rfl|b
  .have i:MJ f p<=Ht f x n d:=by
    unfold Ht;rw[fF ((ED _ _).2 g)];exact(S3 f d.bl n).2 p e
   have:=ih.1;omega
  .exact ih.2 d b g p e
def WX(f:zA->Nat)(x:zA):∀(a:kJ AY) (n:Nat),a.foldl (Ht f x) n=n\/∃c∈a,c.head.name=x/\∃p∈c.bl,a.foldl (Ht f x) n=MJ f p
 |[],n=>kn rfl
 |c::a,n=>by
  rw[fZ];rcases WX f x a (Ht f x n c)with h|⟨d,hd,hx,p,b,h⟩
  .rw[h];unfold Ht;by_cases e:(c.head.name.toList==x.toList)=hG
   .rw[fF e];rcases Xh f c.bl n with g|⟨p,b,g⟩
    .exact kn g
    .exact kp ⟨c,by simp,(ED _ _).1 e,p,b,g⟩
   .rw[fB e];exact kn rfl
  .exact kp ⟨d,by simp[hd],hx,p,b,h⟩
def Ks{cs:kJ AY}{x y:zA}(h:Td cs x y b)(d:Nat):BJ cs d y+b<=BJ cs (d+1) x:=by
 obtain⟨c,k,m,l,i,e,j⟩:=h;obtain⟨p,f,rfl⟩:=fC.1 i;rw[BJ];have o:=(WZ (BJ cs d) x cs 0).2 c k m p f;have n:MJ (BJ cs d) p=BJ cs d y+b:=by
  unfold MJ;rcases j with⟨a,rfl⟩|⟨a,rfl⟩
  .rw[fF a,e];rfl
  .have g:(p.1.kind==97)=K:=by
    (have:p.1.kind=33:=by simpa using a);rw[this];rfl
   rw[fB (by rw[g];simp),fF a,e]
 omega
def P4(e:kJ AY)(d:Nat)(x:zA)(h:0<BJ e (d+1) x):∃y b,Td e x y b/\BJ e (d+1) x=BJ e d y+b:=by
 rw[BJ]at h⊢;rcases WX (BJ e d) x e 0 with a|⟨c,j,k,p,i,a⟩
 .omega
 .unfold MJ at a;by_cases f:(p.1.kind==97)=hG
  .rw[fF f]at a;exact⟨p.1.A.name,0,⟨c,j,k,p.1,fW i,rfl,kn ⟨f,rfl⟩⟩,a⟩
  .rw[fB f]at a;by_cases g:(p.1.kind==33)=hG
   .rw[fF g]at a;exact⟨p.1.A.name,1,⟨c,j,k,p.1,fW i,rfl,kp ⟨g,rfl⟩⟩,a⟩
   .rw[fB g]at a;omega
def MV(a:kJ AY):∀(d:Nat) (x:zA),BJ a d x<=BJ a (d+1) x
 |0,x=>by rw[show BJ a 0 x=0 from rfl];omega
 |d+1,x=>by
  by_cases h:0<BJ a (d+1) x
  .obtain⟨y,b,c,e⟩:=P4 a d x h;have g:=MV a d y;have f:=Ks c (d+1);omega
  .omega
def VF(a:kJ AY)(x:zA)(h:n<=m):BJ a n x<=BJ a m x:=by
 induction h with
 |refl=>exact fJ _
 |step _ ih=>exact gQ ih (MV a _ x)
structure fd(cs:kJ AY)(d:Nat)(x v:zA):Prop where
 ze:∃D B:Nat,d<D/\BJ cs D v<BJ cs (D+1) v/\BJ cs (D+1) v=B+BJ cs (d+1) x/\GF cs v x/\(0<B->∃u t,Td cs u t 1/\GF cs v u/\GF cs t x)
def Xd(i:Zf c)(h:fd c n s s):False:=by
 obtain⟨D,B,l,j,k,_,f⟩:=h.ze;by_cases g:0<B
 .obtain⟨u,t,a,e,b⟩:=f g;exact i u t a (b.trans e)
 .have:=VF c s (show n+1<=D by omega);omega
def Z2{a:kJ AY}(C:Zf a)(i:kJ zA)(E:∀c∈a,c.head.name∈i)(hN:Z i<=6):∀(d:Nat) (x:zA) (e:kJ zA),6<=Z e+d->e.Nodup->(∀v∈e,v∈i)->(∀v∈e,fd a d x v)->BJ a d x<BJ a (d+1) x->False:=by
 intro d
 induction d with
 |zero=>
  intro x e I p q j w;obtain⟨y,b,f,_⟩:=P4 a 0 x (by omega);obtain⟨c,s,o,_⟩:=f;have n:x∈i:=by rw[<-o];exact E c s
  have k:x∉e:=λh=>Xd C (j x h)
  have:=Md (x::e) i (iv.2 ⟨k,p⟩) (λz g=>by
   rcases fx.1 g with rfl|g
   .exact n
   .exact q z g)
  simp only[fD]at this;omega
 |succ d ih=>
  intro x e I p q j w;obtain⟨y,b,f,W⟩:=P4 a (d+1) x (by omega);have n:x∈i:=by
   obtain⟨c,s,o,_⟩:=f;rw[<-o];exact E c s
  have k:x∉e:=λh=>Xd C (j x h)
  have S:=Ks f d;have Q:b<=1:=by
   obtain⟨c,_,_,l,_,_,h|h⟩:=f<;>omega
  refine ih y (x::e) (by simp only[fD];omega) (iv.2 ⟨k,p⟩) (λz g=>?_) (λv m=>?_) (by omega)
  .rcases fx.1 g with rfl|g
   .exact n
   .exact q z g
  .rcases fx.1 m with rfl|m
   .refine⟨d+1,b,by omega,w,by omega,GF.edge f,λH=>?_⟩;(have r:b=1:=by omega);subst r;exact⟨v,y,f,GF.refl a v,GF.refl a y⟩
   .obtain⟨D,B,R,N,T,A,P⟩:=(j v m).ze;refine⟨D,B+b,by omega,N,by omega,A.trans (GF.edge f),λH=>?_⟩;by_cases L:0<B
    .obtain⟨u,t,G,F,M⟩:=P L;exact⟨u,t,G,F,M.trans (GF.edge f)⟩
    ·(have r:b=1:=by omega);subst r;exact⟨x,y,f,A,GF.refl a y⟩
def bN{cs:kJ AY}(k:Zf cs)(a:kJ zA)(j:∀c∈cs,c.head.name∈a)(l:Z a<=6):Dl cs (BJ cs 6):=by
 have i:∀x,BJ cs 7 x=BJ cs 6 x:=by
  intro x;have m:BJ cs 6 x<=BJ cs 7 x:=MV cs 6 x;by_cases h:BJ cs 6 x<BJ cs 7 x
  .exact(Z2 k a j l 6 x [] (by simp) i7 (λv e=>by simp at e) (λv e=>by simp at e) h).elim
  .omega
 refine⟨λc f x g d=>?_,λc f x g d=>?_⟩
 .have h:=Ks (cs:=cs) (x:=c.head.name) (y:=x.A.name) (b:=0) ⟨c,f,rfl,x,g,rfl,kn ⟨d,rfl⟩⟩ 6;rw[i]at h;omega
 .have h:=Ks (cs:=cs) (x:=c.head.name) (y:=x.A.name) (b:=1) ⟨c,f,rfl,x,g,rfl,kp ⟨d,rfl⟩⟩ 6;rw[i]at h;omega
def dp(l:kJ zA):kJ zA:=l.foldl Cx []
def Ct(c:CB):kJ zA:=((A5 c).filter λt=>t.v==0).map λt=>t.s
def IH(l:kJ zA)(x:zA):C1 l x=hG↔x∈l:=Gr l x
def RC(l:kJ zA)(x y:zA):y∈Cx l x↔y=x\/y∈l:=by
 unfold Cx;cases h:C1 l x with
 |true=>
  simp only[if_true];have b:=(IH l x).1 h;exact⟨kp,λa=>by rcases a with rfl|a;exact b;exact a⟩
 |false=>
  simp only[fq,if_false,fA,ft];exact⟨λa=>by rcases a with a|a;exact kp a;exact kn a,λa=>by rcases a with a|a;exact kp a;exact kn a⟩
def TU{l:kJ zA}(h:l.Nodup)(x:zA):(Cx l x).Nodup:=by
 unfold Cx;cases hb:C1 l x with
 |true=>simpa using h
 |false=>
  simp only[fq,if_false];rw[jF];refine⟨h,by simp,λa d b c e=>?_⟩;simp only[ft]at c;subst e c;rw[(IH l a).2 d]at hb;cases hb
def Pg:∀(a l:kJ zA),l.Nodup->(a.foldl Cx l).Nodup/\∀y,y∈a.foldl Cx l↔y∈a\/y∈l
 |[],l,h=>⟨h,λy=>by simp⟩
 |x::a,l,h=>by
  obtain⟨b,c⟩:=Pg a (Cx l x) (TU h x);refine⟨b,λy=>?_⟩;rw[fZ,c,RC,fx];exact⟨λh=>by rcases h with h|h|h;exact kn (kp h);exact kn (kn h);exact kp h,λh=>by rcases h with(h|h)|h;exact kp (kn h);exact kn h;exact kp (kp h)⟩
def Dz(l:kJ zA):(dp l).Nodup/\∀y,y∈dp l↔y∈l:=by
 obtain⟨a,b⟩:=Pg l [] i7;exact⟨a,λy=>by rw[dp,b];simp⟩
def Ld{a b:kJ zA}(d:a.Nodup)(e:b.Nodup)(h:∀y,y∈a↔y∈b):Z a=Z b:=
 Nat.le_antisymm (Md a b d (λy c=>(h y).1 c)) (Md b a e (λy c=>(h y).2 c))
def Vf(cs:kJ CB)(k:Nat):Bool:=decide (12<k+1)||decide (6<Z (dp ((cs.take (k+1)).flatMap BZ)))||decide (6<Z (dp ((cs.take (k+1)).flatMap Ct)))
def Vo(cs:kJ CB)(k:Nat)(c:CB):Option (Int×Int):=
 if Vf cs k||JC c then V (3,c.hp)
 else match eO cs (Bi c)with
  |some p=>V (4,p)
  |none=>match Ic c with
   |some p=>V (5,p)
   |none=>Y
def N9(cs:kJ CB):Nat->kJ CB->Option (Int×Int)
 |_,[]=>Y
 |k,c::l=>match Vo cs k c with
  |some r=>V r
  |none=>N9 cs (k+1) l
def WM:Option (Int×Int)->ks
 |some r=> .tuple #[X J r.1,X J r.2]
 |none=> .tuple #[X J 0,X J 0]
structure eQ(c:CB):Prop where
 pc:Js c
 zQ:Z (A5 c)<=90000
def eQ.atoms{c:CB}(h:eQ c)(d:Iv w 0 c.hv c.bv c.zD c.zE):∀a∈Bi c,lenOf a.tv<=1000:=by
 intro a b;rcases fx.1 b with rfl|b
 .obtain⟨j,i,e⟩:=Aj d.head;simp only;rw[e];exact h.pc.head.2
 .unfold A7 at b;obtain⟨p,g,rfl⟩:=fC.1 b;have f:=(fT.1 g).1;obtain⟨j,i,e⟩:=Aj (d.body.each p f).1;simp only;rw[e];exact(h.pc.each p f).2
def TM(e:k<Z p){d th':kJ zA}(h:∀y,y∈d↔y∈(p.take k).flatMap Ct)(a:EJ (A5 p[k]) d th'):∀y,y∈th'↔y∈(p.take (k+1)).flatMap Ct:=by
 intro y;rw[a y,h y,fm e,fR,fA];simp only[fN,gI,gd];have:(∃t∈A5 p[k],t.v=0/\t.s=y)↔y∈Ct p[k]:=by
  unfold Ct;rw[fC];constructor
  .rintro ⟨t,b,a,c⟩;exact⟨t,fT.2 ⟨b,by simpa using a⟩,c⟩
  .rintro ⟨t,b,c⟩;obtain⟨f,g⟩:=fT.1 b;exact⟨t,f,by simpa using g,c⟩
 rw[this];exact⟨λh=>by rcases h with h|h;exact kp h;exact kn h,λh=>by rcases h with h|h;exact kp h;exact kn h⟩
def Wq(c:k<Z p){a nm':kJ zA}(h:∀y,y∈a↔y∈(p.take k).flatMap BZ)(b:∀y,y∈nm'↔y∈BZ p[k]\/y∈a):∀y,y∈nm'↔y∈(p.take (k+1)).flatMap BZ:=by
 intro y;rw[b y,h y,fm c,fR,fA];simp only[fN,gI,gd];exact⟨λh=>by rcases h with h|h;exact kp h;exact kn h,λh=>by rcases h with h|h;exact kp h;exact kn h⟩
theorem MR(LE:Option Addr)(K6:Nat)(a:kJ CB)(w:kq)(h:Cv w (U LE (Z a) K6) a)(A:∀c∈a,bk w w.heap.size c)(MB:Z a<=1000)(hf:∀c∈a,eQ c):
  Calls prog 32 #[U LE (Z a) K6] w λe w'=>e=j3 (WM (N9 a 0 a))/\Ac [] w w':=by
 have HP:=Ab h;have K9:=Ab hf;have K4:=Ab A;obtain⟨R,hR⟩:=kK (N9 a 0 a);rw[hR];have LD:=Ab hR;clear h hf A hR;have EK:kt (EG (w.alloc (jj [X J 0,U Y 0 0,U Y 0 0].toArray 154)) w.heap.size ((0:Nat):Int) (U Y 0 0) (U Y 0 0) [] []):=
  ⟨kN w _ 154,fK _ _ _ _,fK _ _ _ _,λk hk=>by simp[kF]at hk,λi j u=>by simp at u,λi j u=>by simp at u⟩
 have CW:=Ab (TC.of ((kL [] w).alloc (jj [X J 0,U Y 0 0,U Y 0 0].toArray 154)) (fJ _) (by simp));have C:kt (∀wr,TC w.heap.size w wr->Ac [] w wr):=λwr hl=>hl.kept (fJ _)
 go_enter func32,ntmps32;go_wp2;change Code.wp _ _ _ _ (w.alloc (jj [X J 0,U Y 0 0,U Y 0 0].toArray 154));generalize w.alloc (jj [X J 0,U Y 0 0,U Y 0 0].toArray 154)=w1 at EK CW⊢;obtain⟨b,H0⟩:=kK w.heap.size;rw[H0]at EK CW K4 C⊢;have Pl:=Ab H0;clear H0
 go_loopg [13] (Z a) (λgk i wr=>∃(k:Nat) (nv tv:ks) (S th:kJ zA),i=X J k/\k<=Z a/\k<=12/\gk=Z a-k/\Z S<=6/\Z th<=6/\kt (EG wr b (k:Int) nv tv S th)/\kt (∀y,y∈S↔y∈(a.take k).flatMap BZ)/\kt (∀y,y∈th↔y∈(a.take k).flatMap Ct)/\kt (N9 a k (a.drop k)=R)/\kt (TC b w wr))
 case atStart=>exact⟨0,_,_,[],[],rfl,by omega,by omega,rfl,by simp,by simp,EK,λy=>by simp,λy=>by simp,LD,CW⟩
 case round=>
  clear EK CW LD;obtain⟨k,nv,tv,S,th,rfl,hk,RE,LB,RV,P0,HC,K1,H4,HR,HL⟩:=hrel;have HG:=Ab LB;clear LB;by_cases A:k<Z a
  .have H7:=Aa C wr HL;have IS:=HP.kept H7;obtain⟨g,RB,l,s,f,q,m,o,n,d,he,H6,d0,d1,d2,d3⟩:=EP IS k A;simp only[fg]at he;obtain⟨rfl,_,rfl⟩:=he;have Go:=Ab ((K4 _ (fj A)).low HL);have z:=Ab (K9 _ (fj A));have I:kt ((match Vo a k a[k] with|some r=>V r|none=>N9 a (k+1) (a.drop (k+1)))=R):=by
    have h:=Aa HR;rw[fQ A,N9]at h;exact h
   have HU:=Ab (λnm'=>Wq (nm':=nm') A K1);have HD:=Ab (λth'=>TM (th':=th') A H4);rw[H6]at Go z I HU HD;clear IS H6 HR K1 H4 H7;have Os:=HC.zK.lt;have kA:=(kL [] wr).alloc (jj [X J l,O s,U q (Z f) m,U o (Z d) n].toArray 120);have F:=Ab (HC.kept kA);have W:=Ab (kN wr [X J l,O s,U q (Z f) m,U o (Z d) n] 120);have lA:=TC.of kA (b:=b) (by omega) (by simp);have N:=Ab (HL.trans lA);have Q:=Ab (Go.low lA);have HQ:kt (∀v:ks,(v=nv\/v=tv)->v.ownBlock≠V wr.heap.size):=by
    intro v hv e;rcases hv with rfl|rfl
    .have:=(HC.rn.lt _ e).2;omega
    .have:=(HC.rt.lt _ e).2;omega
   have Ha:=Ab (Ym b k nv tv S th ⟨l,s,f,U q (Z f) m,U o (Z d) n,d⟩ _ F Q z.pc z.zQ (by omega) (by omega) (by omega));(have NL:b+1<=(wr.alloc (jj [X J l,O s,U q (Z f) m,U o (Z d) n].toArray 120)).heap.size:=by simp;omega);clear kA lA;simp only[AZ]at Ha;(go_wp2_with fail);refine Ha.mono ?_;rintro e w5 ⟨rfl,LC,H5,FA,EY,BT,JJ,KK,RI,QQ,k5⟩;have HN:=W.kept k5 (by
    intro t
    simp only[fx,fA]at t
    rcases t with t|t|t
    .omega
    .exact HQ nv (kn rfl) (by simpa using t)
    .exact HQ tv (kp rfl) (by simpa using t))
   have l5:TC b (wr.alloc (jj [X J l,O s,U q (Z f) m,U o (Z d) n].toArray 120)) w5:=TC.of k5 (by omega) (λi u=>by
    simp only[fx,fA]at u
    rcases u with u|u|u
    .omega
    .exact F.zt.1 i u
    .exact F.zt.2 i u)
   have HK:=Ab (N.trans l5);have HT:=Ab (Q.low l5);have K8:=Ab (HU FA JJ);have IJ:=Ab (HD EY KK);have E0:kt ((decide (12<k+1)||decide (6<Z FA)||decide (6<Z EY))=Vf a k):=by
    show _=_;unfold Vf;rw[Ld (BT.rin.nodup Gp) (Dz _).1 (λy=>(Aa K8 y).trans ((Dz _).2 y).symm),Ld (BT.rit.nodup Gp) (Dz _).1 (λy=>(Aa IJ y).trans ((Dz _).2 y).symm)]
   have FP:=Ab (QT b (k+1) LC H5 FA EY w5 BT);rw[Aa E0]at FP;have Nq:wr.heap.size<w5.heap.size:=HN.lt;have L:=Ab HN;have HJ:=Ab BT;(have LS:wr.heap.size≠b:=by omega);clear Ha BT JJ KK k5 l5 F W N Q HQ HU HD HN d0 d1 d2 d3 NL HL Go HC;generalize wr.heap.size=T at L Nq LS⊢;(go_wp2_with fail);refine FP.mono ?_;rintro e w6 ⟨rfl,L0⟩;subst L0;clear FP;have D:=L.cell 0;have E:=L.cell 1;have G:=L.cell 2;have H:=L.cell 3;simp at D E G H;cases t:Vf a k with
   |true=>
    have B:kt (R=V (3,l)):=by
     show _=_;rw[<-Aa I];unfold Vo;rw[t];rfl
    clear t E0 I;go_wp2_with fail
    go_region_held3 (λw'=>ku w' ⟨T,0,Y⟩=V (X J l)) (go_keep) (fail)
    rename_i HI;clear HI;go_wp2;go_ret2;rw[Aa B];exact⟨rfl,C _ HK.drew⟩
   |false=>
    have P:=Aa E0;rw[t]at P;simp only[jb,it]at P;have FT:=Ab (OW ⟨l,s,f,U q (Z f) m,U o (Z d) n,d⟩ w6 HT.at_ z.pc.lits);simp only[AZ]at FT;have K3:=Ab t;have N4:=P.1.1;have SB:=P.1.2;have Op:=P.2;clear t E0 P;(go_wp2_with fail);refine FT.mono ?_;rintro e w7 ⟨rfl,k7⟩;have M:=Ab (L.kept k7);have FF:=Ab (HJ.kept k7);have l7:=TC.of k7 (b:=b) (by have:=HJ.zK.lt;omega) (by simp);have HW:=Ab (HK.trans l7);have Ax:=Ab (HT.low l7);have PT:T<w7.heap.size:=M.lt;(have N2:b<=w7.heap.size:=by have:=FF.zK.lt;omega);clear D E G H FT k7 l7 L HJ HK HT;have D:=M.cell 0;have E:=M.cell 1;have G:=M.cell 2;have H:=M.cell 3;simp at D E G H;cases hg:JC ⟨l,s,f,U q (Z f) m,U o (Z d) n,d⟩with
    |true=>
     have B:kt (R=V (3,l)):=by
      show _=_;rw[<-Aa I];unfold Vo;rw[hg,jQ];rfl
     clear hg I;go_wp2_with fail
     go_region_held3 (λw'=>ku w' ⟨T,0,Y⟩=V (X J l)) (go_keep) (fail)
     rename_i HI;clear HI;go_wp2;go_ret2;rw[Aa B];exact⟨rfl,C _ HW.drew⟩
    |false=>
     have x:kt ((match(match eO a (Bi ⟨l,s,f,U q (Z f) m,U o (Z d) n,d⟩)with|some p=>V ((4:Int),p)|none=>match Ic ⟨l,s,f,U q (Z f) m,U o (Z d) n,d⟩with|some p=>V ((5:Int),p)|none=>Y)with|some r=>V r|none=>N9 a (k+1) (a.drop (k+1)))=R):=by
      have h:=Aa I;unfold Vo at h;rw[Aa K3,hg]at h;exact h
     clear hg I K3;have EM:=Ab (Kp ⟨l,s,f,U q (Z f) m,U o (Z d) n,d⟩ w7 Ax.at_ z.pc.lits);have KS:=Ab (Hj Ax.at_);have Ix:Z (Bi ⟨l,s,f,U q (Z f) m,U o (Z d) n,d⟩)<=1001:=by
      have:=EE d;have h2:=z.pc.lits;simp only at h2;simp[Bi];omega
     have K2:=Ab (z.atoms Ax.at_);simp only[AZ]at EM;generalize Bi ⟨l,s,f,U q (Z f) m,U o (Z d) n,d⟩=aT at EM x KS Ix K2;(go_wp2_with fail);refine EM.mono ?_;rintro e wa ⟨NY,NA,rfl,K7,ka⟩;have W:=Ab (M.kept ka);have F:=Ab (FF.kept ka);have la:=TC.of ka (b:=b) N2 (by simp);have N:=Ab (HW.trans la);have Q:=Ab (Ax.low la);(have NV:b<=wa.heap.size:=by have:=F.zK.lt;omega);have HA:=Ab (QJ NY NA aT _ _ _ a wa K7 KS Ix K2 (HP.kept (C wa N)) (λc hc=>(K9 c hc).pc.lits) MB);clear EM K7 ka la M FF HW Ax D E G H;generalize eO a aT=RO at HA x;(go_wp2_with fail);refine HA.mono ?_;rintro e w8 ⟨rfl,k8⟩;have AT:=Ab (W.kept k8);have HS:=Ab (F.kept k8);have l8:TC b wa w8:=TC.of k8 NV (by simp);have HM:=Ab (N.trans l8);have H3:=Ab (Q.low l8);(have MY:b<=w8.heap.size:=by have:=HS.zK.lt;omega);clear HA k8 l8 W F N Q;have D:=AT.cell 0;have E:=AT.cell 1;have G:=AT.cell 2;have H:=AT.cell 3;simp at D E G H;cases RO with
     |some p=>
      have B:kt (R=V (4,p)):=x.symm;clear x;simp only[BP];go_wp2;go_ret2;rw[Aa B];exact⟨rfl,C _ HM⟩
     |none=>
      have CL:=Ab (OS ⟨l,s,f,U q (Z f) m,U o (Z d) n,d⟩ w8 H3.at_ z.pc (by have:=z.zQ;omega));simp only[AZ]at CL;simp only at x;generalize Ic ⟨l,s,f,U q (Z f) m,U o (Z d) n,d⟩=UO at CL x;simp only[BP];(go_wp2_with fail);refine CL.mono ?_;rintro e w9 ⟨rfl,k9⟩;have Mo:=Ab (HS.kept k9);have H8:=Ab (HM.trans (TC.of k9 MY (by simp)));clear CL k9 HS HM H3 AT D E G H;cases UO with
      |some p=>
       have B:kt (R=V (5,p)):=x.symm;clear x;simp only[BP];go_wp2;go_ret2;rw[Aa B];exact⟨rfl,C _ H8⟩
      |none=>
       have NX:kt (N9 a (k+1) (a.drop (k+1))=R):=x;clear x;simp only[BP];go_wp2
       go_roundg (Z a-(k+1))
       case measure=>have:=Aa HG;omega
       case rel=>exact⟨k+1,LC,H5,FA,EY,by go_num,by omega,by omega,rfl,by omega,by omega,Mo,K8,IJ,NX,H8⟩
  .have B:kt (R=Y):=by
    have h:=Aa HR;rw[gr (by omega),N9]at h;exact h.symm
   go_wp2;go_ret2;rw[B.out];exact⟨rfl,C wr HL⟩
def QW(f:zA->zA->Bool)(pcs:kJ CB):Int×Int:=match N9 pcs 0 pcs with
 |some r=>r
 |none=>match Oo f pcs with
  |some p=>(6,p)
  |none=>(0,0)
structure Wf(c:CB):Prop where
 head:lenOf c.hv=Z c.zD
 lits:∀p∈c.zE,lenOf p.2=Z p.1.ts
def Iv.wf{c:CB}(h:Iv w 0 c.hv c.bv c.zD c.zE):Wf c:=by
 refine⟨?_,λp a=>?_⟩
 .obtain⟨d,b,e⟩:=Aj h.head;rw[e];rfl
 .obtain⟨d,b,e⟩:=Aj (h.body.each p a).1;rw[e];rfl
def Ey(s:zA)(f:zA->zA->Bool)(r:Int×Int):Prop:=
 if 300<s.size then r=(1,0)
 else match CR (Ez s) 0 [] with
  | .error p=>r=(2,p)
  | .ok cs=>∃pcs:kJ CB,pcs.map CB.pc=cs/\(∀c∈pcs,Wf c)/\r=QW f pcs
structure Th(f:zA->zA->Bool)(pcs:kJ CB):Prop where
 z8:∀x y,f x y=hG↔GY pcs x y
 fit:∀c∈pcs,eQ c
 len:Z pcs<=1000
 names:Z (pcs.flatMap BZ)<=800000
def FM.into{d:kJ CB}(h:FM w n z d):Cv w z d/\∀c∈d,bk w w.heap.size c:=by
 refine⟨⟨Al h.row (fP _),λc e=>(h.each c e).at_.base (fP _)⟩,λc e=>?_⟩;have b:=(h.each c e).at_;exact⟨b.base (fP _),λk a=>(b.head.lt k a).2,λk a=>(b.body.row.lt k a).2,λp f k a=>(World.ownsRow.lt (b.body.each p f).1 k a).2⟩
def bX{c:CB}{r:Int×Int}(h:Vo p k c=V r):r.1≠0:=by
 unfold Vo at h;split at h
 .simp only[fu]at h;subst h;simp
 .split at h
  .simp only[fu]at h;subst h;simp
  .split at h
   .simp only[fu]at h;subst h;simp
   .cases h
def Xz{b:kJ CB}:∀(l:kJ CB) (k:Nat) {r:Int×Int},N9 b k l=V r->r.1≠0
 |[],k,r,h=>by simp[N9]at h
 |c::l,k,r,h=>by
  rw[N9]at h;split at h
  .rename_i d a;simp only[fu]at h;subst h;exact bX a
  .exact Xz l (k+1) h
def Z4(s:zA)(w:kq)(lv:ks)(n:Nat)(r:Int×Int):Prop:=r.1=0->s.size<=300/\∃cs pcs,CR (Ez s) 0 []=.ok cs/\pcs.map CB.pc=cs/\n=Z pcs/\Cv w lv pcs
theorem NC(s:zA)(f:zA->zA->Bool)(w:kq)(CL:s.size<=9223372036854775807)(B:s.size<=300->∀b,CR (Ez s) 0 []=.ok b->∀a,a.map CB.pc=b->Th f a):
  Calls prog 14 #[O s] w λe M=>∃(j:Option Addr) (n k:Nat) (r:Int×Int),e=j3 (.tuple #[U j n k,X J r.1,X J r.2])/\Ey s f r/\Z4 s M (U j n k) n r/\Ac [] w M:=by
 by_cases S:300<s.size
 .have Bx:(300:Int)<(s.size:Int):=by omega
  have i:kt (Ey s f (1,0)):=by
   show Ey _ _ _;unfold Ey;rw[fF S]
  clear B;go_enter func14,ntmps14;go_wp2;go_ret3;exact⟨Y,0,0,(1,0),rfl,i,λh=>absurd h (by decide),kL _ _⟩
 .have Bx:¬(300:Int)<(s.size:Int):=by omega
  have W:=Ab (Je s w (by omega));have y:=Ab (B (by omega));have u:kt (∀r,Ey s f r↔(match CR (Ez s) 0 [] with| .error p=>r=(2,p)| .ok b=>∃a:kJ CB,a.map CB.pc=b/\(∀c∈a,Wf c)/\r=QW f a)):=by
   intro r;unfold Ey;rw[fB S]
  clear B;go_enter func14,ntmps14;go_wp2_with fail
  refine W.mono ?_;intro e w2 x;clear W;cases hp:CR (Ez s) 0 [] with
  |error p=>
   rw[hp]at x;obtain⟨rfl,m⟩:=x;have i:kt (Ey s f (2,p)):=by
    show Ey _ _ _;rw[Aa u,hp]
   have v:=Ab m;clear hp u y m;go_wp2;go_ret3;exact⟨Y,0,0,(2,p),rfl,i,λh=>absurd h (by simp),v⟩
  |ok b=>
   rw[hp]at x;obtain⟨j,k,a,rfl,o,G,m⟩:=x;have q:=Aa y b hp a o;(have AR:Z b=Z a:=by rw[<-o];simp);rw[AR]at G⊢;obtain⟨t,R⟩:=G.into;have i:kt (∀r,r=QW f a->Ey s f r):=by
    intro r E;rw[Aa u,hp];exact⟨a,o,λc d=>(t.each c d).wf,E⟩
   have L:=Ab (MR j k a w2 t R q.len q.fit);have T:=Ab t;have P:kt (CR (Ez s) 0 []=.ok b/\a.map CB.pc=b):=⟨hp,o⟩;have l:=Ab q;have v:=Ab m;clear hp u y m o G t R q;(go_wp2_with fail);refine L.mono ?_;rintro e w3 ⟨rfl,C⟩;have z:=Ab (T.kept C);have H:=Ab (v.trans C);clear L T v C;cases d:N9 a 0 a with
   |some r=>
    have F:=Xz _ _ d;(have AH:(r.1 !=0)=hG:=by simp[bne,F]);have g:=Ab (i r (by unfold QW;rw[d]));obtain⟨N,r2⟩:=r;simp only at AH F;have BT:kt (N≠0):=F;clear d i;simp only[WM];go_wp2;go_ret3;exact⟨Y,0,0,(N,r2),rfl,g,λh=>absurd h BT,H⟩
   |none=>
    have Ax:=Ab (Sz f j k a l.z8 w3 z l.len (λc d=>(l.fit c d).pc.lits) l.names);have g:kt (∀r,r=(match Oo f a with|some p=>((6:Int),p)|none=>(0,0))->Ey s f r):=by
     intro r E;refine i r ?_;unfold QW;rw[d];exact E
    clear d i l;simp only[WM];(go_wp2_with fail);refine Ax.mono ?_;rintro e w4 ⟨rfl,I⟩;have Q:=Ab (H.trans I);have BA:kt (s.size<=300/\∃b A,CR (Ez s) 0 []=.ok b/\A.map CB.pc=b/\Z a=Z A/\Cv w4 (U j (Z a) k) A):=⟨by omega,b,a,P.1,P.2,rfl,z.kept I⟩;clear Ax I H z;cases hl:Oo f a with
    |some p=>
     rw[hl]at g;have D:=Ab (g (6,p) rfl);clear hl g;simp only[BP];go_wp2;go_ret3;exact⟨Y,0,0,(6,p),rfl,D,λh=>absurd h (by simp),Q⟩
    |none=>
     rw[hl]at g;have D:=Ab (g (0,0) rfl);clear hl g;simp only[BP];go_wp2;go_ret3;exact⟨j,Z a,k,(0,0),rfl,D,λ_=>BA,Q⟩
def F2{α β:Type}(R:α->β->Prop):kJ α->kJ β->Prop
 |[],[]=>True
 |a::l,b::m=>R a b/\F2 R l m
 |_,_=>False
def F2.nil{α β:Type}{R:α->β->Prop}:F2 R ([]:kJ α) ([]:kJ β):=trivial
def F2.cons{α β:Type}{R:α->β->Prop}{a:α}{b:β}{l:kJ α}{m:kJ β}(h:R a b)(t:F2 R l m):F2 R (a::l) (b::m):=⟨h,t⟩
def F2.ind{α β:Type}{R:α->β->Prop}{motive:(l:kJ α)->(m:kJ β)->F2 R l m->Prop}(nil:motive [] [] F2.nil)(cons:∀{a:α} {b:β} {l:kJ α} {m:kJ β} (h:R a b) (t:F2 R l m),motive l m t->motive (a::l) (b::m) (F2.cons h t)):∀{l:kJ α} {m:kJ β} (h:F2 R l m),motive l m h
 |[],[],_=>nil
 |[],_::_,h=>h.elim
 |_::_,[],h=>h.elim
 |_::_,_::_,h=>cons h.1 h.2 (F2.ind nil cons h.2)
def F2.of_map{α β γ:Type}{f:α->γ}{g:β->γ}:∀{l:kJ α} {m:kJ β},l.map f=m.map g->F2 (λa b=>f a=g b) l m
 |[],[],_=>F2.nil
 |[],_::_,h=>by simp at h
 |_::_,[],h=>by simp at h
 |a::l,b::m,h=>by
  simp only[fS,iH]at h;exact F2.cons h.1 (F2.of_map h.2)
def F2.lenX{α β:Type}{R:α->β->Prop}{l:kJ α}{m:kJ β}(h:F2 R l m):Z l=Z m:=by
 induction h using F2.ind with
 |nil=>rfl
 |cons _ _ ih=>simp[ih]
def F2.take{α β:Type}{R:α->β->Prop}{l:kJ α}{m:kJ β}(h:F2 R l m)(k:Nat):F2 R (l.take k) (m.take k):=by
 induction h using F2.ind generalizing k with
 |nil=>simp;exact F2.nil
 |cons h1 _ ih=>
  cases k with
  |zero=>simp;exact F2.nil
  |succ k=>simp only[iX];exact F2.cons h1 (ih k)
def F2.flatMap{α β γ:Type}{R:α->β->Prop}{f:α->kJ γ}{g:β->kJ γ}(c:∀a b,R a b->f a=g b){l:kJ α}{m:kJ β}(h:F2 R l m):l.flatMap f=m.flatMap g:=by
 induction h using F2.ind with
 |nil=>rfl
 |cons h1 _ ih=>rw[fN,fN,c _ _ h1,ih]
def F2.any{α β:Type}{R:α->β->Prop}{f:α->Bool}{g:β->Bool}(c:∀a b,R a b->f a=g b){l:kJ α}{m:kJ β}(h:F2 R l m):l.any f=m.any g:=by
 induction h using F2.ind with
 |nil=>rfl
 |cons h1 _ ih=>rw[jr,jr,c _ _ h1,ih]
def F2.find{α β γ:Type}{R:α->β->Prop}{f:α->Bool}{g:β->Bool}{u:α->γ}{v:β->γ}(d:∀a b,R a b->f a=g b/\u a=v b){l:kJ α}{m:kJ β}(h:F2 R l m):(l.find? f).map u=(m.find? g).map v:=by
 induction h using F2.ind with
 |nil=>rfl
 |cons h1 _ ih=>
  obtain⟨e,c⟩:=d _ _ h1;rw[i9,i9,e];split
  .simp[c]
  .exact ih
def F2.mem{α β:Type}{R:α->β->Prop}{l:kJ α}{m:kJ β}(h:F2 R l m):∀b∈m,∃a∈l,R a b:=by
 induction h using F2.ind with
 |nil=>intro b c;simp at c
 |cons h1 _ ih=>
  intro b c;rcases fx.1 c with rfl|c
  .exact⟨_,by simp,h1⟩
  .obtain⟨a,d,e⟩:=ih b c;exact⟨a,by simp[d],e⟩
def F2.zo{α β:Type}{R:α->β->Prop}{l:kJ α}{m:kJ β}(h:F2 R l m):∀a∈l,∃b∈m,R a b:=by
 induction h using F2.ind with
 |nil=>intro b c;simp at c
 |cons h1 _ ih=>
  intro b c;rcases fx.1 c with rfl|c
  .exact⟨_,by simp,h1⟩
  .obtain⟨a,d,e⟩:=ih b c;exact⟨a,by simp[d],e⟩
def F2.mono{α β:Type}{R S:α->β->Prop}{l:kJ α}{m:kJ β}(h:F2 R l m)(c:∀a∈l,∀b∈m,R a b->S a b):F2 S l m:=by
 induction h using F2.ind with
 |nil=>exact F2.nil
 |cons h1 _ ih=>exact F2.cons (c _ (by simp) _ (by simp) h1) (ih (λa d b e=>c a (by simp[d]) b (by simp[e])))
structure Xq(p:OR)(q:Bs):Prop where
 eq:p.1=L1 q.1
 len:lenOf p.2=Z q.1.A.args
 plain:On q=K->q.1.A.args=[]
def WK(t:AG):((ct t).v==0)=(t.v==0):=by
 unfold ct;simp only;rw[gU];simp only[iF];constructor
 .intro h;apply il.1;rw[show(0:UInt8).toNat=0 from rfl]
  omega
 .intro h;rw[h];rfl
def du(t:AG)(v:UInt8):((ct t).v==(v.toNat:Int))=(t.v==v):=by
 unfold ct;simp only;rw[gU];simp only[iF];constructor
 .intro h;apply il.1;omega
 .intro h;rw[h]
def Q1(k:UInt8):(Fr k==0)=(k==97):=by
 unfold Fr;by_cases h:k=97
 .simp[h]
 .by_cases a:k=33
  .simp[a]
  .by_cases b:k=61
   .simp[b]
   .by_cases c:k=35
    .simp[c]
    .simp[h,a,b,c]
def Zk(k:UInt8):(Fr k==1)=(k==33):=by
 unfold Fr;by_cases h:k=97
 .simp[h]
 .by_cases a:k=33
  .simp[a]
  .by_cases b:k=61
   .simp[b]
   .by_cases c:k=35
    .simp[c]
    .simp[h,a,b,c]
def Xq.atom{p:OR}{q:Bs}(h:Xq p q):A6 p.1=On q:=by
 unfold A6 On;rw[h.eq];simp only[L1,Q1,Zk]
def Xq.zQ{p:OR}{q:Bs}(h:Xq p q):AX p.1=(A2 q).map ct:=by
 unfold AX A2;rw[h.atom,h.eq];split<;>simp[L1]
structure Qj(c:CB)(r:AY):Prop where
 hp:c.hp=r.head.at_
 hn:c.hn=r.head.name
 zD:c.zD=r.head.args.map ct
 lits:F2 Xq c.zE r.bl
 len:lenOf c.hv=Z r.head.args
 at_:r.at_=r.head.at_
def GB(r:AY):kJ zA:=r.head.name::(r.bl.filter On).map λq=>q.1.A.name
def Fb(r:AY):kJ AG:=r.head.args++r.bl.flatMap A2
def VV{a:kJ OR}{b:kJ Bs}(h:F2 Xq a b):FX a=(b.filter On).map λq=>q.1.A.name:=by
 unfold FX
 induction h using F2.ind with
 |nil=>rfl
 |cons h1 _ ih=>
  rw[gW,gW,h1.atom];split
  .rw[fS,fS,ih,h1.eq];rfl
  .exact ih
def Qj.names{c:CB}{r:AY}(h:Qj c r):BZ c=GB r:=by
 unfold BZ GB;rw[h.hn,VV h.lits]
def Qj.zQ{c:CB}{r:AY}(h:Qj c r):A5 c=(Fb r).map ct:=by
 unfold A5 Fb Bf;rw[h.zD,gn,ki,F2.flatMap (λa b d=>d.zQ) h.lits]
def Kz(r:AY):kJ zA:=((Fb r).filter λt=>t.v==0).map λt=>t.s
def Qj.zC{c:CB}{r:AY}(h:Qj c r):Ct c=(Kz r).map Dx:=by
 unfold Ct Kz;rw[h.zQ,List.filter_map,gR,gR];have e:(Fb r).filter ((λt=>t.v==0)∘ct)=(Fb r).filter λt=>t.v==0:=by
  apply List.filter_congr;intro t _;exact WK t
 rw[e];rfl
def Ty(f:zA->zA)(h:∀a b,f a=f b->a=b)(l:kJ zA):Z (dp (l.map f))=Z (dp l):=by
 rw[show Z (dp l)=Z ((dp l).map f) from by simp]
 refine Ld (Dz _).1 (List.Pairwise.map f (λa b g e=>g (h a b e)) (Dz l).1) (λy=>?_);rw[(Dz _).2,fC,fC];constructor
 .rintro ⟨x,d,c⟩;exact⟨x,((Dz l).2 x).2 d,c⟩
 .rintro ⟨x,d,c⟩;exact⟨x,((Dz l).2 x).1 d,c⟩
def TF(l:kJ zA)(r:AY):KM l r=(GB r).foldl Cx l:=by
 unfold KM GB;rw[fZ];generalize Cx l r.head.name=l0
 induction r.bl generalizing l0 with
 |nil=>rfl
 |cons q bl ih=>
  rw[fZ,gW];unfold zF;cases hq:On q with
  |true=>
   simp only[if_true,fS,fZ];exact ih _
  |false=>
   simp only[fq,if_false];exact ih _
def Lu{α β γ:Type}(f:γ->β->γ)(g:α->kJ β):∀(l:kJ α) (c:γ),(l.flatMap g).foldl f c=l.foldl (λc a=>(g a).foldl f c) c
 |[],c=>rfl
 |a::l,c=>by rw[fN,gM,fZ,Lu f g l]
def LI(a:kJ AY):DX a=dp (a.flatMap GB):=by
 unfold DX dp;rw[Lu]
 congr 1
 funext l r
 exact TF l r
def Ob(x y:zA):∀(l:kJ zA) (a:kJ zA×Bool),(y∈(l.foldl (CZ x) a).1↔y∈a.1\/y∈l\/(y=x/\a.2=K/\(l.foldl (CZ x) a).2=hG))/\(a.2=hG->(l.foldl (CZ x) a).2=hG)
 |[],a=>by
  refine⟨?_,λh=>h⟩;simp only[List.foldl_nil,gP,false_or];constructor
  .exact kn
  .rintro (h|⟨_,f,e⟩)
   .exact h
   .rw[f]at e;cases e
 |z::l,a=>by
  obtain⟨b,c⟩:=Ob x y l (CZ x a z);rw[fZ];unfold CZ at b c⊢;cases hb:(!a.2&&Fu x z)with
  |true=>
   have d:a.2=K:=by
    cases h:a.2 with
    |false=>rfl
    |true=>rw[h]at hb;simp at hb
   rw[hb]at b c;simp only[if_true]at b c⊢;have g:=c trivial;refine⟨?_,λh=>by rw[d]at h;cases h⟩;rw[b,g,d];simp only[fA,fx,gP,Bool.true_eq_false,false_and,and_false,or_false,true_and,and_true,and_self];constructor
   .rintro ((h|h)|h)
    .rcases h with h|h
     .exact kn h
     .exact kp (kp h)
    .exact kp (kn (kn h))
    .exact kp (kn (kp h))
   .rintro (h|(h|h)|h)
    .exact kn (kn (kn h))
    .exact kn (kp h)
    .exact kp h
    .exact kn (kn (kp h))
  |false=>
   rw[hb]at b c;simp only[fq,if_false]at b c⊢;refine⟨?_,c⟩;rw[b];simp only[fA,fx,gP,or_false];constructor
   .rintro ((h|h)|h|h)
    .exact kn h
    .exact kp (kn (kn h))
    .exact kp (kn (kp h))
    .exact kp (kp h)
   .rintro (h|(h|h)|h)
    .exact kn (kn h)
    .exact kn (kp h)
    .exact kp (kn h)
    .exact kp (kp h)
def Ya(l:kJ zA)(x y:zA):y∈Hn l x↔y=x\/y∈l:=by
 have h:=(Ob x y l ([],K)).1;unfold Hn;unfold L8;cases hf:(l.foldl (CZ x) ([],K)).2 with
 |true=>
  rw[hf]at h;simp only[if_true];rw[h];simp only[gP,false_or,true_and,and_true,and_self];exact⟨λh=>by rcases h with h|h;exact kp h;exact kn h,λh=>by rcases h with h|h;exact kp h;exact kn h⟩
 |false=>
  rw[hf]at h;simp only[fq,if_false,fA,ft];rw[h];simp only[gP,false_or,fq,and_false,or_false];exact⟨λh=>by rcases h with h|h;exact kp h;exact kn h,λh=>by rcases h with h|h;exact kp h;exact kn h⟩
structure Oy(a b:kJ zA):Prop where
 mem:∀y,y∈a↔y∈b
 len:Z a=Z b
def Oy.zV{a b:kJ zA}(h:Oy a b)(t:AG):Oy (zV a t) (if t.v==0 then Cx b t.s else b):=by
 unfold Go.Proofs.YtoihbhenbmffcaaGreat.zV Cx;cases hv:(t.v==0)with
 |false=>simpa using h
 |true=>
  have e:C1 a t.s=C1 b t.s:=by rw[gU,IH,IH,h.mem]
  rw[e];cases hh:C1 b t.s with
  |true=>simpa using h
  |false=>
   simp only[gX,iY,if_true,fq,if_false];refine⟨λy=>?_,by rw[Nc,h.len];simp⟩;rw[Ya,h.mem];simp only[fA,ft];exact⟨λh=>by rcases h with h|h;exact kp h;exact kn h,λh=>by rcases h with h|h;exact kp h;exact kn h⟩
def Oy.zP{a b:kJ zA}(h:Oy a b):∀d:kJ AG,Oy (zP a d) (((d.filter λt=>t.v==0).map λt=>t.s).foldl Cx b):=by
 intro d;unfold Go.Proofs.YtoihbhenbmffcaaGreat.zP
 induction d generalizing a b with
 |nil=>exact h
 |cons t d ih=>
  rw[fZ,gW];have c:=h.zV t;cases hv:(t.v==0)with
  |true=>
   rw[hv]at c;simp only[if_true]at c⊢;rw[fS,fZ];exact ih c
  |false=>
   rw[hv]at c;simp only[fq,if_false]at c⊢;exact ih c
def Ue(l:kJ zA)(a b:kJ AG):zP l (a++b)=zP (zP l a) b:=by
 unfold zP;rw[gM]
def VI(l:kJ zA)(r:AY):Jm l r=zP l (Fb r):=by
 unfold Jm Fb;rw[Ue];generalize zP l r.head.args=l0
 induction r.bl generalizing l0 with
 |nil=>rfl
 |cons q bl ih=>
  rw[fZ,fN,Ue];exact ih _
def IR(d:kJ AY):Oy (Bc d) (dp (d.flatMap Kz)):=by
 unfold Bc dp;rw[Lu];have:∀(l:kJ AY) (a b:kJ zA),Oy a b->Oy (l.foldl Jm a) (l.foldl (λc r=>(Kz r).foldl Cx c) b):=by
  intro l
  induction l with
  |nil=>intro a b h;exact h
  |cons r l ih=>
   intro a b h;rw[fZ,fZ];refine ih _ _ ?_;rw[VI];exact h.zP _
 exact this d [] [] ⟨λy=>Iff.rfl,rfl⟩
abbrev fc:=Int×zA×Nat
def S6(a:GL):fc:=(a.place,a.name,lenOf a.tv)
def Fn(r:AY):kJ fc:=((r.head.at_:Int),r.head.name,Z r.head.args)::(r.bl.filter On).map λq=>((q.1.A.at_:Int),q.1.A.name,Z q.1.A.args)
def VD{a:kJ OR}{b:kJ Bs}(h:F2 Xq a b):(A7 a).map S6=(b.filter On).map λq=>((q.1.A.at_:Int),q.1.A.name,Z q.1.A.args):=by
 unfold A7
 induction h using F2.ind with
 |nil=>rfl
 |cons h1 _ ih=>
  rw[gW,gW,h1.atom];split
  .rw[fS,fS,fS,ih]
   congr 1
   unfold S6;simp only;rw[h1.eq,h1.len];rfl
  .exact ih
def Qj.atoms{c:CB}{r:AY}(h:Qj c r):(Bi c).map S6=Fn r:=by
 unfold Bi Fn;rw[fS,VD h.lits]
 congr 1
 unfold S6;simp only;rw[h.hp,h.hn,h.len]
def dS(x:zA)(p:zA×Nat):Bool:=p.1.toList==x.toList
def OL(L:kJ (zA×Nat))(x:zA):Int:=match L.find? (dS x)with|some p=>p.2|none=> -1
def bf(L:kJ (zA×Nat))(a:fc):Bool:=OL L a.2.1 !=(a.2.2:Int)
def GI(cs:kJ AY):kJ (zA×Nat):=cs.flatMap λr=>(Fn r).map λa=>a.2
def Tp(a:kJ Bs)(x:zA):QD a x=(((a.filter On).map λq=>(q.1.A.name,Z q.1.A.args)).find? (dS x)).map λp=>p.2:=by
 unfold QD
 induction a with
 |nil=>rfl
 |cons q a ih=>
  rw[jA,gW];cases hq:On q with
  |false=>
   simp only[jd,fq,if_false];exact ih
  |true=>
   simp only[ii,if_true,fS];rw[i9];unfold dS;simp only;cases hn:(q.1.A.name.toList==x.toList)with
   |true=>rfl
   |false=>exact ih
def Tn(r:AY)(x:zA):FQ r x=(((Fn r).map λa=>a.2).find? (dS x)).map λp=>p.2:=by
 unfold FQ Fn;rw[fS,i9,Tp,gR];unfold dS;simp only;cases h:(r.head.name.toList==x.toList)with
 |true=>rfl
 |false=>rfl
def M4(b:kJ AY)(x:zA):B3 b x=OL (GI b) x:=by
 have:b.findSome? (FQ · x)=((GI b).find? (dS x)).map λp=>p.2:=by
  unfold GI
  induction b with
  |nil=>rfl
  |cons r b ih=>
   rw[jA,fN,jY,Tn,ih];cases((Fn r).map λa=>a.2).find? (dS x)<;>rfl
 unfold B3 OL;rw[this];cases(GI b).find? (dS x)<;>rfl
def T7(L:kJ (zA×Nat))(r:AY):((Fn r).find? (bf L)).map (λa=>a.1)=
  if OL L r.head.name≠(Z r.head.args:Int)then V (r.head.at_:Int)else(r.bl.find? λq=>On q&&(OL L q.1.A.name !=(Z q.1.A.args:Int))).map λq=>(q.1.A.at_:Int):=by
 unfold Fn;rw[i9];have e:bf L ((r.head.at_:Int),r.head.name,Z r.head.args)=(OL L r.head.name !=(Z r.head.args:Int)):=rfl;rw[e];cases hh:(OL L r.head.name !=(Z r.head.args:Int))with
 |true=>
  have:OL L r.head.name≠(Z r.head.args:Int):=by simpa using hh
  rw[fF this];rfl
 |false=>
  have:¬OL L r.head.name≠(Z r.head.args:Int):=by simpa using hh
  rw[fB this];simp only
  induction r.bl with
  |nil=>rfl
  |cons q bl ih=>
   rw[gW,i9];cases hq:On q with
   |false=>
    simp only[jd,fq,if_false];exact ih
   |true=>
    simp only[ii,if_true,fS];rw[i9];have b:bf L ((q.1.A.at_:Int),q.1.A.name,Z q.1.A.args)=(OL L q.1.A.name !=(Z q.1.A.args:Int)):=rfl;rw[b];cases(OL L q.1.A.name !=(Z q.1.A.args:Int))with
    |true=>rfl
    |false=>exact ih
def Qj.bound{c:CB}{r:AY}(h:Qj c r)(v:UInt8):OA c.zE (v.toNat:Int)=Jw r.bl v:=by
 unfold OA Jw Gh;have b:=h.lits;generalize c.zE=zE at b;generalize r.bl=bl at b
 induction b using F2.ind with
 |nil=>rfl
 |cons h1 _ ih=>
  rw[fN,jT,jr,ih]
  congr 1
  unfold JA QP;rw[h1.eq];simp only[L1,Q1];split
  .rename_i a;rw[a,jy];simp only[ii];apply Mr;intro t _;exact du t v
  .rename_i a;simp only[Bool.not_eq_true]at a;rw[a];rfl
def Qj.loose{c:CB}{r:AY}(h:Qj c r)(t:AG):OC c (ct t)=CE r.bl t:=by
 unfold OC CE;have e:((ct t).v !=0)= !(t.v==0):=by rw[bne,WK]
 rw[e];have:(ct t).v=(t.v.toNat:Int):=rfl;rw[this,h.bound];cases(t.v==0)<;>simp
def Qj.unsaf{c:CB}{r:AY}(h:Qj c r):Ic c=if 0<=FI r.head r.bl then V (FI r.head r.bl)else Y:=by
 unfold Ic FI;have d:c.zD.any (OC c)=r.head.args.any (CE r.bl):=by
  rw[h.zD,jy];apply Mr;intro t _;exact h.loose t
 have b:(c.zE.find? λp=>(AX p.1).any (OC c)).map (λp=>p.1.place)=(r.bl.find? (I4 r.bl)).map λq=>(q.1.at_:Int):=by
  refine F2.find (λp q a=>⟨?_,?_⟩) h.lits
  .unfold I4;rw[a.zQ,jy];apply Mr;intro t _;exact h.loose t
  .rw[a.eq];rfl
 rw[d,b,h.hp];cases r.head.args.any (CE r.bl)with
 |true=>
  simp only[if_true];rw[fF (by omega)]
 |false=>
  simp only[fq,if_false];cases r.bl.find? (I4 r.bl)with
  |none=>rfl
  |some q=>
   simp only[im];rw[fF (by omega)]
def Qj.z3{c:CB}{r:AY}(h:Qj c r):JC c=(decide (2<Z r.head.args)||r.bl.any Bo||decide (3<Z r.bl)):=by
 unfold JC;rw[h.lits.lenX]
 congr 1
 have e:(Bi c).any (λa=>decide (2<lenOf a.tv))=(Fn r).any λa=>decide (2<a.2.2):=by
  rw[<-h.atoms,jy];rfl
 rw[e];unfold Fn;rw[jr]
 congr 1
 have d:∀q∈r.bl,On q=K->q.1.A.args=[]:=λq b=>by
  obtain⟨p,_,f⟩:=h.lits.mem q b;exact f.plain
 generalize r.bl=bl at d
 induction bl with
 |nil=>rfl
 |cons q bl ih=>
  rw[gW,jr];have ih:=ih (λq b=>d q (by simp[b]));cases b:On q with
  |true=>
   simp only[if_true,fS,jr];rw[ih];rfl
  |false=>
   have:=d q (by simp) b;simp only[fq,if_false];rw[ih];unfold Bo;rw[this];rfl
def XP{d:kJ AY}(h:F2 Qj p d):GI d=((p.flatMap Bi).map S6).map λa=>a.2:=by
 unfold GI;rw[ki,<-F2.flatMap (f:=λc=>(Bi c).map S6) (g:=Fn) (λa b e=>e.atoms) h|>.symm,ki]
def UP{a:kJ CB}(h:F2 Qj a c)(x:zA):bJ a x=((GI c).find? (dS x)).map λp=>p.2:=by
 rw[XP h,gR,List.find?_map,Option.map_map];rfl
def Z1{d:kJ CB}{b:kJ AY}(h:F2 Qj d b){c:CB}{r:AY}(j:Qj c r)(k:∀a∈Fn r,a.2∈GI b)(f:JC c=K):
  eO d (Bi c)=((Fn r).find? (bf (GI b))).map λa=>a.1:=by
 unfold eO;rw[<-j.atoms,List.find?_map,Option.map_map];have e:(Bi c).find? (RL d)=(Bi c).find? (bf (GI b)∘S6):=by
  apply M7;intro a i;have m:¬2<lenOf a.tv:=by
   unfold JC at f;simp only[jb]at f;have:=(ip.1 f.1) a i;simpa using this
  have l:(S6 a).2∈GI b:=k _ (by rw[<-j.atoms];exact fW i);have g:((GI b).find? (dS a.name)).isSome=hG:=by
   rw[List.find?_isSome];exact⟨_,l,by simp[dS,S6]⟩
  unfold RL bf OL;simp only[Function.comp];rw[UP h];rw[show(S6 a).2.1=a.name from rfl,show(S6 a).2.2=lenOf a.tv from rfl]
  cases hq:(GI b).find? (dS a.name)with
  |none=>rw[hq]at g;cases g
  |some p=>
   simp only[im,m,j9,iZ];rw[gU];simp only[iK,gm,bne_iff_ne,ne_eq];omega
 rw[e];rfl
def Yn{d:kJ AY}(h:F2 Qj p d){c:CB}{r:AY}(e:Qj c r)(x:∀a∈Fn r,a.2∈GI d):
  Vo p k c=B0 d k r:=by
 have s:=Z1 h e x;have w:Z (dp ((p.take (k+1)).flatMap BZ))=Z (DX (d.take (k+1))):=by
  rw[LI,F2.flatMap (λa b m=>m.names) (h.take (k+1))]
 have v:Z (dp ((p.take (k+1)).flatMap Ct))=Z (Bc (d.take (k+1))):=by
  rw[(IR _).len,F2.flatMap (g:=λr=>(Kz r).map Dx) (λa b m=>m.zC) (h.take (k+1)),<-ki,Ty _ (λa b=>Wn)]
 unfold Vo B0 Vf;rw[e.z3]at s;rw[w,v,e.z3,e.unsaf,M4,e.hp,e.at_];generalize Z (DX (d.take (k+1)))=N;generalize Z (Bc (d.take (k+1)))=T;cases hcond:((decide (12<k+1)||decide (6<N)||decide (6<T))||(decide (2<Z r.head.args)||r.bl.any Bo||decide (3<Z r.bl)))with
 |true=>
  rw[fF rfl];by_cases i:12<=k\/3<Z r.bl
  .rw[fF i]
  .rw[fB i];by_cases l:2<Z r.head.args
   .rw[fF l]
   .rw[fB l];by_cases n:r.bl.any Bo=hG
    .rw[fF n]
    .rw[fB n];by_cases f:6<N\/6<T
     .rw[fF f]
     .exfalso
      simp only[ie,jg]at hcond;simp only[not_or]at i f;rcases hcond with((h|h)|h)|((h|h)|h)
      .omega
      .exact f.1 h
      .exact f.2 h
      .exact l h
      .exact n h
      .exact i.2 h
 |false=>
  simp only[jb,it]at hcond;obtain⟨⟨⟨B,C⟩,D⟩,⟨t,o⟩,z⟩:=hcond;rw[s (by simp only[t,o,z,j9,kl]),T7];rw[fB (show¬(K=hG) by simp),fB (show¬(12<=k\/3<Z r.bl) by omega),fB t,fB (show¬(r.bl.any Bo=hG) by rw[o];simp),fB (show¬(6<N\/6<T) by omega)];by_cases j:OL (GI d) r.head.name≠(Z r.head.args:Int)
  .rw[fF j,fF j]
  .rw[fB j,fB j];have u:(r.bl.find? λq=>On q&&(OL (GI d) q.1.A.name !=(Z q.1.A.args:Int)))=r.bl.find? (BC d):=by
    apply M7;intro q _;unfold BC;rw[M4]
   rw[u];cases r.bl.find? (BC d)with
   |some q=>rfl
   |none=>
    simp only[Option.map_none];by_cases y:0<=FI r.head r.bl<;>simp[y]
def VY{b:kJ AY}(h:F2 Qj p b):∀{l:kJ CB} {m:kJ AY},F2 Qj l m->∀(k:Nat),(∀r∈m,r∈b)->N9 p k l=D1 b k m:=by
 intro l m g
 induction g using F2.ind with
 |nil=>intro k _;rfl
 |cons hc _ ih=>
  rename_i c r l m _;intro k e;have d:∀a∈Fn r,a.2∈GI b:=λa f=>gc.2 ⟨r,e r (by simp),fW f⟩
  rw[N9,D1,Yn h hc d];cases hs:B0 b k r with
  |some x=>rfl
  |none=>exact ih (k+1) (λr d=>e r (by simp[d]))
def VK{d:kJ CB}{a:kJ AY}(h:F2 Qj d a){f:zA->zA->Bool}(i:∀x y,f x y=GW a x y):(Oo f d).map (λp=>((6:Int),p))=a.findSome? (Do a):=by
 unfold Oo;have g:∀{l:kJ CB} {m:kJ AY},F2 Qj l m->(l.findSome? (Kb f)).map (λp=>((6:Int),p))=m.findSome? (Do a):=by
  intro l m j
  induction j using F2.ind with
  |nil=>rfl
  |cons hc _ ih=>
   rename_i c r l m _;rw[jA,jA];have e:(Kb f c).map (λp=>((6:Int),p))=Do a r:=by
    unfold Kb Do;rw[Option.map_map];refine F2.find (λp q b=>⟨?_,?_⟩) hc.lits
    .unfold Lk EA;rw[b.eq,i,hc.hn];simp only[L1,Zk]
    .simp only[Function.comp];rw[b.eq];rfl
   rw[<-e];cases Kb f c with
   |some p=>rfl
   |none=>exact ih
 exact g h
def V5(h:F2 Qj p c){f:zA->zA->Bool}(a:∀x y,f x y=GW c x y):QW f p=CD c:=by
 unfold QW CD;rw[VY h h 0 (λr b=>b),<-VK h a];cases D1 c 0 c with
 |some r=>rfl
 |none=>
  simp only;cases Oo f p<;>rfl
def QI(cs:kJ AY)(x y:zA):Prop:=∀S:zA->Prop,S x->(∀r∈cs,S r.head.name->∀z∈GB r,S z)->S y
def FG(h:(s.toList==t.toList)=hG):s=t:=(Gp.eqv s t).1 h
def JH(y:zA):∀(a:kJ Bs) (l:kJ zA),y∈a.foldl zF l↔y∈l\/y∈(a.filter On).map λq=>q.1.A.name
 |[],l=>by simp
 |q::a,l=>by
  rw[fZ,JH y a,gW];unfold zF;cases hq:On q with
  |false=>simp only[fq,if_false]
  |true=>
   simp only[if_true,RC,fS,fx];constructor
   .rintro ((h|h)|h)
    .exact kp (kn h)
    .exact kn h
    .exact kp (kp h)
   .rintro (h|h|h)
    .exact kn (kp h)
    .exact kn (kn h)
    .exact kp h
def Kd(x y:zA):∀(d:kJ AY) (l:kJ zA),y∈Mg d l x↔y∈l\/∃r∈d,r.head.name=x/\y∈(r.bl.filter On).map λq=>q.1.A.name
 |[],l=>by simp[Mg]
 |r::d,l=>by
  have ih:=Kd x y d (Mp x l r);unfold Mg at ih⊢;rw[fZ,ih];unfold Mp;cases hr:(r.head.name.toList==x.toList)with
  |true=>
   have g:=FG hr;simp only[if_true,JH];constructor
   .rintro ((h|h)|⟨c,a,b⟩)
    .exact kn h
    .exact kp ⟨r,by simp,g,h⟩
    .exact kp ⟨c,by simp[a],b⟩
   .rintro (h|⟨c,a,b,f⟩)
    .exact kn (kn h)
    .rcases fx.1 a with rfl|a
     .exact kn (kp f)
     .exact kp ⟨c,a,b,f⟩
  |false=>
   (have i:r.head.name≠x:=λe=>by rw[e]at hr;simp at hr);simp only[fq,if_false];constructor
   .rintro (h|⟨c,a,b⟩)
    .exact kn h
    .exact kp ⟨c,by simp[a],b⟩
   .rintro (h|⟨c,a,b,f⟩)
    .exact kn h
    .rcases fx.1 a with rfl|a
     .exact absurd b i
     .exact kp ⟨c,a,b,f⟩
def OZ{d:kJ AY}{c:AY}(e:c∈d){l:kJ zA}:∀(b:kJ Bs) (a:kJ zA),(∀q∈b,q∈c.bl)->Es d l a->Es d l (b.foldl zF a)
 |[],a,_,h=>h
 |q::b,a,hs,h=>by
  rw[fZ];exact OZ e b _ (λf g=>hs f (by simp[g])) (h.zF e (hs q (by simp)))
def PN{d:kJ AY}{l:kJ zA}(x:zA):∀(a:kJ AY) (b:kJ zA),(∀c∈a,c∈d)->Es d l b->Es d l (Mg a b x)
 |[],b,_,h=>h
 |c::a,b,hs,h=>by
  unfold Mg;rw[fZ];refine PN x a _ (λg f=>hs g (by simp[f])) ?_;unfold Mp;split
  .exact OZ (hs c (by simp)) c.bl _ (λq e=>e) h
  .exact h
def PE{a:kJ AY}{t g:zA}:∀(f:Nat) (l:kJ zA) (n:Nat),2+Z (C2 a)<=f+n->Bd a l->n<=Z l->(∀i (h:i<Z l),i<n->l[i]≠g)->
  (∀i (h:i<Z l),i<n->∀r∈a,r.head.name=l[i]->∀y∈(r.bl.filter On).map (λq=>q.1.A.name),y∈l)->t∈l->(∀y∈l,QI a t y)->(Jt f a g l n=hG↔QI a t g)
 |0,l,n,hf,hb,hn,_,_,_,_=>by
  unfold Bd at hb;omega
 |f+1,l,n,hf,hb,hn,hno,hcl,hfr,hso=>by
  rw[Jt];by_cases m:n<Z l
  .rw[dif_pos m];cases he:(l[n].toList==g.toList)with
   |true=>
    have:=FG he;simp only[if_true,true_iff];rw[<-this];exact hso _ (fj m)
   |false=>
    simp only[fq,if_false];have o:Es a l (Mg a l l[n]):=PN l[n] a l (λc E=>E) ⟨⟨[],by simp⟩,hb⟩;(have x:l[n]≠g:=λe=>by rw[e]at he;simp at he);have F:=o.len.1;refine PE f (Mg a l l[n]) (n+1) (by omega) o.bd (by omega) ?_ ?_ ((Kd _ _ _ _).2 (kn hfr)) ?_
    .intro i k u;obtain⟨_,e⟩:=o.at (show i<Z l by omega);rw[e];rcases jo (show i<=n by omega)with b|b
     .exact hno i (by omega) b
     .subst b;exact x
    .intro i k u r j d y s;obtain⟨_,e⟩:=o.at (show i<Z l by omega);rw[e]at d;rw[Kd];rcases jo (show i<=n by omega)with b|b
     .exact kn (hcl i (by omega) b r j d y s)
     .subst b;exact kp ⟨r,j,d,s⟩
    .intro y s;rcases(Kd _ _ _ _).1 s with b|⟨r,j,d,B⟩
     .exact hso y b
     .intro S D v;have w:=hso _ (fj m) S D v;rw[<-d]at w;exact v r j w y (by unfold GB;exact gu _ B)
  .rw[dif_neg m];simp only[fq,false_iff];intro C;have u:g∈l:=C (λz=>z∈l) hfr (λr j d z p=>by
    obtain⟨i,k,e⟩:=gv d
    unfold GB at p
    rcases fx.1 p with rfl|p
    .exact d
    .exact hcl i k (by omega) r j e.symm z p)
   obtain⟨i,k,e⟩:=gv u;exact hno i k (by omega) e
def K0(b:kJ AY)(a c:zA):GW b a c=hG↔QI b a c:=by
 unfold GW;refine PE _ [a] 0 (by omega) ?_ (by simp) (λi h f=>by omega) (λi h f=>by omega) (by simp) (λy d S e _=>by simp at d;subst d;exact e);unfold Bd Pb;have:=kf (p:=λx=> !C1 [a] x) (l:=C2 b);simp only[fD,gh];omega
structure OI(l:PL):Prop where
 some:A6 l=hG->0<Z l.ts
 le:Z l.ts<=151
 plain:A6 l=K->l.ts=[]
 bare:A6 l=hG->l.l=AD/\l.r=AD
def O2{c:kJ A0}:∀(k a:Nat) (d:kJ AO) {b:kJ AO} {n:Nat},Z c-a<=k->Gj c a d=.ok (b,n)->0<Z b/\Z b<=Z d+(Z c-a+1)/2
 |k,a,d,b,n,hk,h=>by
  unfold Gj at h;split at h
  .rename_i e;split at h
   .cases h
   .split at h
    .match k with
     |0=>omega
     |k+1=>
      have:=O2 k (a+2) _ (by omega) h;simp only[fE,fD,gh]at this;omega
    .split at h
     .simp only[gO,gA]at h;rw[<-h.1];simp only[fE,fD,gh];omega
     .cases h
  .cases h
def Ll{b:kJ A0}(d:Z b<=301){a:kJ AO}(h:ET b m=.ok ((k,s,a),n)):0<Z a/\Z a<=151:=by
 unfold ET at h;split at h
 .split at h
  .split at h
   .cases h
   .rename_i c;simp only[gO,gA]at h;have:=O2 _ _ _ (fJ _) c;rw[<-h.1.2.2];simp only[gh]at this;omega
  .cases h
 .cases h
def X9{g:kJ A0}(j:Z g<=301){l:Zt}(h:Hh g m=.ok (l,n)):OI (Jr l):=by
 unfold Hh at h;split at h
 .split at h
  .cases h
  .rename_i a k b;obtain⟨p,s,o⟩:=a;have:=Ll j b;simp only[gO,gA]at h;rw[<-h.1];exact⟨λ_=>this.1,this.2,λf=>by simp[Jr,A6]at f,λ_=>⟨rfl,rfl⟩⟩
 .split at h
  .split at h
   .cases h
   .rename_i a k b;obtain⟨p,s,o⟩:=a;have:=Ll j b;simp only[gO,gA]at h;rw[<-h.1];exact⟨λ_=>this.1,this.2,λf=>by simp[Jr,A6]at f,λ_=>⟨rfl,rfl⟩⟩
  .split at h
   .cases h
   .rename_i c k b;simp only[gO,gA]at h;rw[<-h.1];have d:c.sort=2\/c.sort=3\/c.sort=4:=by
     unfold Hf at b;split at b
     .cases b
     .split at b
      .cases b
      .rename_i q d;split at b
       .cases b
       .simp only[gO,gA]at b;rw[<-b.1];unfold My at d;split at d
        .simp only[fu]at d;exact kn d.symm
        .split at d
         .simp only[fu]at d;exact kp (kn d.symm)
         .split at d
          .simp only[fu]at d;exact kp (kp d.symm)
          .cases d
    have i:A6 (Jr (.inr c))=hG->False:=λf=>by
     unfold A6 Jr at f;simp only at f;rcases d with e|e|e<;>simp[e]at f
    exact⟨λf=>(i f).elim,by simp[Jr],λ_=>rfl,λf=>(i f).elim⟩
def Pr{a:kJ A0}(g:Z a<=301):∀(k b:Nat) (d:kJ PL) {e:kJ PL} {n:Nat},Z a-b<=k->(∀l∈d,OI l)->Ft a b d=.ok (e,n)->(∀l∈e,OI l)/\Z e<=Z d+(Z a-b+1)/2
 |k,b,d,e,n,hk,ha,h=>by
  by_cases f:b<Z a
  .cases hl:Hh a b with
   |error p=>rw[Hm f hl]at h;cases h
   |ok r=>
    obtain⟨l,j⟩:=r;have o:=Iz hl;have m:=X9 g hl;have i:∀x∈d++[Jr l],OI x:=by
     intro x c;rcases fA.1 c with c|c
     .exact ha x c
     .simp only[ft]at c;subst c;exact m
    rw[Mx f hl]at h;split at h
    .match k with
     |0=>omega
     |k+1=>
      have:=Pr g k (j+1) _ (by omega) i h;simp only[fE,fD,gh]at this;exact⟨this.1,by omega⟩
    .simp only[gO,gA]at h;rw[<-h.1];refine⟨i,?_⟩;simp only[fE,fD,gh];omega
  .unfold Ft at h;rw[dif_neg f]at h;cases h
structure JB(c:PC):Prop where
 head:0<Z c.zD/\Z c.zD<=151
 body:Z c.body<=151
 lits:∀l∈c.body,OI l
def Xb{b:kJ A0}{c a:PC}(h:MQ b n c=.ok (a,m)):a=c:=by
 unfold MQ at h;split at h
 .simp only[gO,gA]at h;exact h.1.symm
 .cases h
def SG{a:kJ A0}(b:Z a<=301){c:PC}(h:Cs a m=.ok (c,n)):JB c:=by
 unfold Cs at h;split at h
 .cases h
 .rename_i p s i j g;have e:=Ll b g;split at h
  .cases h
  .split at h
   .split at h
    .cases h
    .rename_i l k f;have d:=Pr b _ _ _ (fJ _) (by simp) f;rw[Xb h];simp only[gh]at d;exact⟨e,by simp only;omega,d.1⟩
   .rw[Xb h];exact⟨e,by simp,by simp⟩
def Jc{a:kJ A0}(i:Z a<=301):∀(k b:Nat) (e:kJ PC) {g:kJ PC},Z a-b<=k->(∀c∈e,JB c)->CR a b e=.ok g->(∀c∈g,JB c)/\Z g<=Z e+(Z a-b)
 |k,b,e,g,hk,ha,h=>by
  by_cases f:b<Z a
  .cases he:((Au a b).kind==1)with
   |true=>
    rw[Nd f he]at h;simp only[gO]at h;rw[<-h];exact⟨ha,by omega⟩
   |false=>
    cases hc:Cs a b with
    |error p=>rw[JP f he hc]at h;cases h
    |ok r=>
     obtain⟨c,n⟩:=r;have l:=GH hc;rw[Qp f he hc]at h;have j:∀x∈e++[c],JB x:=by
      intro x d;rcases fA.1 d with d|d
      .exact ha x d
      .simp only[ft]at d;subst d;exact SG i hc
     match k with
     |0=>omega
     |k+1=>
      have:=Jc i k n _ (by omega) j h;simp only[fE,fD,gh]at this;exact⟨this.1,by omega⟩
  .unfold CR at h;rw[dif_neg f]at h;cases h
def PA{α β:Type}(f:α->kJ β)(N:Nat):∀l:kJ α,(∀a∈l,Z (f a)<=N)->Z (l.flatMap f)<=Z l*N
 |[],_=>by simp
 |a::l,h=>by
  have c:=PA f N l (λx b=>h x (by simp[b]));have d:=h a (by simp);rw[fN,fE,fD,iz];omega
def Qc{c:CB}(h:JB c.pc):eQ c/\Z (BZ c)<=152:=by
 have d:Z c.zE<=151:=by have:=h.body;simpa[CB.pc] using this
 have b:∀p∈c.zE,OI p.1:=λp a=>h.lits p.1 (by simp only[CB.pc];exact fC.2 ⟨p,a,rfl⟩)
 have e:0<Z c.zD/\Z c.zD<=151:=h.head;refine⟨⟨⟨⟨e.1,by omega⟩,by omega,λp a=>⟨(b p a).some,by have:=(b p a).le;omega⟩⟩,?_⟩,?_⟩
 .have f:Z (Bf c.zE)<=Z c.zE*151:=PA _ 151 _ (λp a=>by
   unfold AX
   split
   .exact(b p a).le
   .simp)
  have:Z c.zE*151<=151*151:=gK _ d;unfold A5;rw[fE];omega
 .unfold BZ FX;have:=ib (λp=>A6 p.1) c.zE;simp only[fD,fH];omega
def NO{a:kJ AY}:∀(l:kJ AY) (i:Nat),D1 a i l=Y->∀k (h:k<Z l),B0 a (i+k) l[k]=Y
 |[],i,_,k,h=>by simp at h
 |c::l,i,h,k,hk=>by
  rw[D1]at h;cases hc:B0 a i c with
  |some r=>rw[hc]at h;simp at h
  |none=>
   rw[hc]at h;simp only at h;cases k with
   |zero=>exact hc
   |succ k=>
    have:=NO l (i+1) h k (by simpa using hk);rw[show i+(k+1)=i+1+k by omega];simpa using this
structure BI(cs:kJ AY):Prop where
 each:∀k (h:k<Z cs),B0 cs k cs[k]=Y
 strata:cs.findSome? (Do cs)=Y
def Nz{b:kJ AY}(h:CD b=(0,0)):BI b:=by
 unfold CD at h;cases h1:D1 b 0 b with
 |some r=>
  rw[h1]at h;simp only at h;have:∀(l:kJ AY) (i:Nat) (r:Int×Int),D1 b i l=V r->r.1≠0:=by
   intro l
   induction l with
   |nil=>intro i r d;simp[D1]at d
   |cons c l ih=>
    intro i r d;rw[D1]at d;cases a:B0 b i c with
    |some q=>
     rw[a]at d;simp only[fu]at d;subst d;unfold B0 at a
     repeat (first
      |(split at a)
      |(simp only[fu]at a;subst a;simp)
      |(cases a))
    |none=>
     rw[a]at d;exact ih (i+1) r d
  exact absurd (by rw[h]) (this b 0 r h1)
 |none=>
  rw[h1]at h;simp only at h;refine⟨λk f=>by have:=NO b 0 h1 k f;simpa using this,?_⟩;cases h2:b.findSome? (Do b)with
  |none=>rfl
  |some r=>
   rw[h2]at h;simp only at h;obtain⟨c,_,a⟩:=List.exists_of_findSome?_eq_some h2;unfold Do at a;rw[jm]at a;obtain⟨p,_,e⟩:=a;rw[h]at e;simp at e
def Eh{a:kJ AY}{c:AY}(h:B0 a i c=Y):Z c.bl<=3/\Z c.head.args<=2/\c.bl.any Bo=K/\Z (DX (a.take (i+1)))<=6/\Z (Bc (a.take (i+1)))<=6/\B3 a c.head.name=(Z c.head.args:Int)/\c.bl.find? (BC a)=Y/\FI c.head c.bl<0:=by
 unfold B0 at h;by_cases d:12<=i\/3<Z c.bl
 .rw[fF d]at h;cases h
 rw[fB d]at h;by_cases g:2<Z c.head.args
 .rw[fF g]at h;cases h
 rw[fB g]at h;by_cases f:c.bl.any Bo=hG
 .rw[fF f]at h;cases h
 rw[fB f]at h;by_cases b:6<Z (DX (a.take (i+1)))\/6<Z (Bc (a.take (i+1)))
 .rw[fF b]at h;cases h
 rw[fB b]at h;by_cases e:B3 a c.head.name≠(Z c.head.args:Int)
 .rw[fF e]at h;cases h
 rw[fB e]at h;cases h6:c.bl.find? (BC a)with
 |some p=>rw[h6]at h;cases h
 |none=>
  rw[h6]at h;simp only at h;by_cases j:0<=FI c.head c.bl
  .rw[fF j]at h;cases h
  .simp only[not_or]at d b;exact⟨by omega,by omega,by simpa using f,by omega,by omega,by simpa using e,rfl,by omega⟩
def Rc{b:C8}{a:kJ Bs}(h:FI b a<0):(∀t∈b.args,CE a t=K)/\∀p∈a,∀t∈A2 p,CE a t=K:=by
 unfold FI at h;cases h1:b.args.any (CE a)with
 |true=>rw[h1,fF rfl]at h;omega
 |false=>
  rw[h1,fB (by simp)]at h;cases h2:a.find? (I4 a)with
  |some p=>rw[h2]at h;simp only at h;omega
  |none=>
   refine⟨λt c=>?_,λp e t c=>?_⟩
   .have:=(ip.1 h1) t c;simpa using this
   .have d:=(iN.1 h2) p e;unfold I4 at d;(have f:(A2 p).any (CE a)=K:=by simpa using d);have:=(ip.1 f) t c;simpa using this
def Ho{c:AY}{t:AG}(h:CE c.bl t=K):Gx (Ak c) t:=by
 unfold CE at h;rw[Bool.not_eq_false',ie]at h;rcases h with h|h
 .exact kn (by simpa using h)
 .right;unfold Jw at h;rw[gV]at h;obtain⟨p,b,a⟩:=h;unfold JA at a;rw[fU]at a;unfold QP at a;rw[gV]at a;obtain⟨d,u,e,f⟩:=a;exact⟨p.1,fW b,d,u,e,by simpa using f⟩
def BI.zN{b:kJ AY}(h:BI b)(i:∀c∈b,∀x∈Ak c,(x.kind==97)=hG->∀t∈x.A.args,By t):Q5 b:=by
 have j:∀c∈b,FI c.head c.bl<0:=by
  intro c a;obtain⟨k,g,rfl⟩:=gv a;exact(Eh (h.each k g)).2.2.2.2.2.2.2
 refine⟨i,λc a x m g=>?_,λc a t i=>Ho ((Rc (j c a)).1 t i)⟩;obtain⟨p,l,rfl⟩:=fC.1 m;have d:=(Rc (j c a)).2 p l;refine⟨λf t o=>?_,λf=>?_⟩
 .refine Ho (d t ?_);unfold A2 On;rw[f,jQ,fF rfl];exact o
 .have n:On p=K:=by unfold On;rw[g,f];rfl
  have e:A2 p=[p.1.L,p.1.R]:=by unfold A2;rw[n];rfl
  rw[e]at d;exact⟨Ho (d _ (by simp)),Ho (d _ (by simp))⟩
def BI.strat{j:kJ AY}(h:BI j):Zf j:=by
 rintro x y ⟨c,A,B,l,f,s,e⟩ n;have a:(l.kind==33)=hG:=by
  rcases e with⟨_,e⟩|⟨a,_⟩
  .cases e
  .exact a
 obtain⟨p,m,rfl⟩:=fC.1 f;have i:=(jH.1 h.strata) c A;unfold Do at i;rw[Option.map_eq_none_iff,iN]at i;have g:=i p m;unfold EA at g;rw[a,ii]at g;apply g;rw[K0,s,B];intro S t w;refine n S t (λu v b r z=>?_);obtain⟨d,k,rfl,l,f,rfl,e⟩:=r;obtain⟨q,o,rfl⟩:=fC.1 f;refine w d k z _ ?_;unfold GB;refine gu _ (fC.2 ⟨q,fT.2 ⟨o,?_⟩,rfl⟩);unfold On;rcases e with⟨a,_⟩|⟨a,_⟩
 .rw[a];rfl
 .rw[a,jQ]
def BI.levels{a:kJ AY}(h:BI a):Dl a (BJ a 6):=by
 by_cases e:Z a=0
 .have:a=[]:=iu e;subst this;exact⟨λc b=>by simp at b,λc b=>by simp at b⟩
 .have d:=(Eh (h.each (Z a-1) (by omega))).2.2.2.1;rw[show Z a-1+1=Z a by omega,gT]at d;refine bN h.strat (DX a) (λc b=>?_) d;rw[LI,(Dz _).2];exact gc.2 ⟨c,b,by unfold GB;simp⟩
