import Derived.Test.YtoihbhenbmffcaaGreatDoorMD
import Derived.Laws.Cover1
set_option linter.all false
set_option maxHeartbeats 0
open List renaming length->Z,toArray->Za,flatMap->qS,take->qT,foldl->qU
open Option renaming none->Y,some->V,toList->qV
open Go.Value renaming slice->U,int->X,string->O,agg->ku,bool->kx,ownBlock->kE,ownBlock->qW,pointer->jj
open Bool renaming false->K,true->T6
open Go.IntKind renaming i64->J,i32->kw
open Go.Obj renaming cells->Y6
open Go.Ending renaming returned->j1
open Or renaming inl->j2,inr->j3
open Go renaming World->jH,Value->jR,Calls->rE
open Go.RowKit renaming Hid->jV,intOf->rG
open Go.World renaming cell?->jY,ownsRow->kt
open Go.Proofs.Tryz renaming prog->rF
open Prod renaming fst->kD
open ByteArray renaming empty->ky
open Go.Op renaming bytesLess->kG
namespace Go.Proofs.YtoihbhenbmffcaaGreatDoor
open Go.RowKit Go.Proofs.Tryz
section
variable{w v u:jH}{m n k i j b:Nat}{y:kN jR}{T:TypeId}{z:jR}{o:rB}{p:kN CQ}{s t:bN}{M:kN Nat}{I:Int}{c:kN AW}
def Bk(l:PL):rD:=l.sort==0||l.sort==1
def AQ(l:PL):kN AY:=if Bk l then l.ts else[l.l,l.r]
theorem PR(l p n o w):rE rF 135 #[ku (Za (Ay (l,U p n o)))] w λe q=>e=j1 (kx (Bk l))/\Ac [] w q:=by
 have j:=(kR [] w).alloc (Y6 (Za (Ay (l,U p n o))) 217);obtain⟨i,a,m,c,d,f,g⟩:=l;have r:jV (∀b,Bk ⟨i,a,m,c,d,f,g⟩=b->(a==0||a==1)=b):=λb h=>h
 simp only[Ay]at j|-;go_enter func135,ntmps135;cases h0:(a==0)with
 |true=>
  have k:jV (Bk ⟨i,a,m,c,d,f,g⟩=T6):=by show _=_;unfold Bk;simp only;rw[h0];rfl
  go_wp2;go_ret;rw[k.o];exact⟨rfl,j⟩
 |false=>
  have k:jV (Bk ⟨i,a,m,c,d,f,g⟩=(a==1)):=by show _=_;unfold Bk;simp only;rw[h0];rfl
  go_wp2;go_ret;rw[k.o];exact⟨rfl,j⟩
def cu(h:AF w m y T)(a:Z y=n*k)(b:n<=maxLen):kt w 0 T k (U (V ⟨m,0,Y⟩) n n) n y:=by
 refine⟨a,j3 ⟨m,n,Za y,rfl,mr _,h,mt _,b,lc,?_⟩⟩;rw[<-a];simp
theorem Nz(l c d w)(h:Lr w 0 (l,U c (Z l.ts) d)):rE rF 137 #[ku (Za (Ay (l,U c (Z l.ts) d)))] w λe p=>∃z A,e=j1 (U z (Z (AQ l)) A)/\kt p 0 215 2 (U z (Z (AQ l)) A) (Z (AQ l)) (qS Ar (AQ l))/\Ac [] w p:=by
 have j:=Ab ((kR [] w).alloc (Y6 (Za (Ay (l,U c (Z l.ts) d))) 217));have o:=Ab (kS w (Ay (l,U c (Z l.ts) d)) 217);have r:=Ab (Ad h j);have t:jV (∀w,rE rF 135 #[ku (Za (Ay (l,U c (Z l.ts) d)))] w λe p=>e=j1 (kx (Bk l))/\Ac [] w p):=λw=>PR l c (Z l.ts) d w
 clear h;obtain⟨k,i,n,m,f,a,b⟩:=l;simp only[Ay]at j o r t|-;go_enter func137,ntmps137;go_wp2_with fail
 change rE _ _ _ (w.alloc (Y6 #[X J k,X J i,X J n,O m,U c (Z f) d,X kw a.v,O a.s,X kw b.v,O b.s] 217)) _;generalize w.alloc (Y6 #[X J k,X J i,X J n,O m,U c (Z f) d,X kw a.v,O a.s,X kw b.v,O b.s] 217)=w1 at j o r|-;generalize w.heap.size=N at o|-;refine(t w1).G ?_;rintro e u ⟨rfl,q⟩;have g:=o.C q;have y:=Ab (j.H q);have F:=Ab (Ad r q);have H:=g.D 4;have E:=g.D 5;have G:=g.D 6;have C:=g.D 7;have B:=g.D 8;simp at H E G C B;clear g o r j q t;cases hh:Bk ⟨k,i,n,m,f,a,b⟩with
 |true=>
  have x:jV (AQ ⟨k,i,n,m,f,a,b⟩=f):=by show _=_;unfold AQ;rw[hh];rfl
  clear hh;go_wp2;go_ret;rw[x.o];exact⟨c,d,rfl,F,y⟩
 |false=>
  have x:jV (AQ ⟨k,i,n,m,f,a,b⟩=[a,b]):=by show _=_;unfold AQ;rw[hh];rfl
  clear hh;have D:jV (kt (u.alloc (Y6 #[X kw a.v,O a.s,X kw b.v,O b.s] 215)) 0 215 2 (U (V ⟨u.heap.size,0,Y⟩) 2 2) 2 [X kw a.v,O a.s,X kw b.v,O b.s]):=cu (kS u _ 215) rfl lw;go_wp2;go_ret;rw[x.o];exact⟨_,_,rfl,D,y.alloc _⟩
theorem Tryz.z6:(Tryz.prog.info? 187).map (λi=>(i.zero,i.size,i.bytes))=V (V (ku #[X J 0,O ⟨#[]⟩,U Y 0 0]),3,48):=lo
def Vg(p):Z (Ay p)=9:=rfl
def U3(p):Z (AV p)=3:=rfl
def Vk(p):Z (Ar p)=2:=rfl
def JL{e}(h:Cg w n z e)(k)(a:k<Z e):
  ∃g p l d f,z=U (V ⟨g,0,Y⟩) (Z e) p/\e[k]=(l,U d (Z l.ts) f)/\Lr w n (l,U d (Z l.ts) f)/\
   jY w ⟨g,k*9,Y⟩=V (X J l.c)/\jY w ⟨g,k*9+1,Y⟩=V (X J l.sort)/\jY w ⟨g,k*9+2,Y⟩=V (X J l.ap)/\jY w ⟨g,k*9+3,Y⟩=V (O l.an)/\jY w ⟨g,k*9+4,Y⟩=V (U d (Z l.ts) f)/\
   jY w ⟨g,k*9+5,Y⟩=V (X kw l.l.v)/\jY w ⟨g,k*9+6,Y⟩=V (O l.l.s)/\jY w ⟨g,k*9+7,Y⟩=V (X kw l.r.v)/\jY w ⟨g,k*9+8,Y⟩=V (O l.r.s):=by
 obtain⟨g,p,E,_,b⟩:=Az h.row (λc _=>Vg c) k a;have x:=(h.j _ (lV a)).1;obtain⟨d,f,m⟩:=Aj x;have u:=b k a 0 lc;have o:=b k a 1 lc;have i:=b k a 2 lc;have j:=b k a 3 lc;have B:=b k a 4 lc;have y:=b k a 5 lc;have t:=b k a 6 lc;have q:=b k a 7 lc;have A:=b k a 8 lc;obtain⟨l,C,D⟩:∃l C,e[k]=(l,C):=⟨_,_,rfl⟩;rw[D]at u o i j B y t q A x m;simp at m;subst m;exact⟨g,p,l,d,f,E,D,x,u,o,i,j,B,y,t,q,A⟩
def AU(ea:kN L6):kN Hx:=(ea.filter λp=>Bk p.1).map λp=>⟨p.1.ap,p.1.an,p.2⟩
def BG(c:CQ):kN Hx:=⟨c.hp,c.hn,c.hv⟩::AU c.ea
def Qz{a:kN L6}(b):AU (qT (k+1) a)=AU (qT k a)++(if Bk a[k].1 then[⟨a[k].1.ap,a[k].1.an,a[k].2⟩] else[]):=by
 unfold AU;rw[lW b,oA,mO]
 by_cases h:Bk a[k].1=T6<;>simp[h]
def En(a):Z (AU a)<=Z a:=by
 unfold AU;rw[mh];exact nL _ _
set_option maxRecDepth 100000
theorem MT(D P)(a:kN L6)(w)(h:Cg w 0 (U D (Z a) P) a)(FC:Z a<=1000):rE rF 92 #[U D (Z a) P] w λe B=>∃f j,e=j1 (U f (Z (AU a)) j)/\kt B w.heap.size 187 3 (U f (Z (AU a)) j) (Z (AU a)) (qS AV (AU a))/\Ac [] w B:=by
 obtain⟨i0,EY,W,AT,B0⟩:=mW Tryz.z6;have HB:=Ab h;clear h;go_enter func92,ntmps92;go_wp2
 go_loopg [3,8] (Z a) (λgk o i wr=>∃(k:Nat) (b:kN Hx) (f:rB) (j:Nat),o=U f (Z b) j/\i=X J k/\k<=Z a/\Z b<=k/\gk=Z a-k/\jV (b=AU (qT k a))/\kt wr w.heap.size 187 3 (U f (Z b) j) (Z b) (qS AV b)/\jV (Ac [] w wr))
 case atStart=>exact⟨0,[],Y,0,rfl,rfl,lc,ln,rfl,by show _=_;simp[AU],mw _ _ _ _,kR _ _⟩
 case round=>
  obtain⟨k,b,f,j,rfl,rfl,G,FF,I,q,v,p⟩:=hrel;have H:=Ab I;clear I;by_cases A:k<Z a
  .have Q:=HB.C p;have FO:=p.size;obtain⟨g,FB,l,c,d,E,N,B2,d0,d1,S,T,d4,d5,d6,d7,d8⟩:=JL Q k A;obtain⟨rfl,_,rfl⟩:=qX E;have s:=Ab (Qz A);rw[N]at s;clear Q B2 N;have z:=Ab (PR l c (Z l.ts) d (wr.alloc (Y6 (Za (Ay (l,U c (Z l.ts) d))) 217)));simp only[Ay]at z;have R:=Ab (kS wr (Ay (l,U c (Z l.ts) d)) 217);have C:=Ab (p.alloc (Y6 (Za (Ay (l,U c (Z l.ts) d))) 217));have F:=Ab (mg v (Y6 (Za (Ay (l,U c (Z l.ts) d))) 217));(go_wp2_with fail);refine z.G ?_;rintro e m ⟨rfl,n⟩;have u:=R.C n;have M:=Ab (C.H n);have x:=Ad F n;have L:=n.size;(have FA:wr.heap.size+1<=m.heap.size:=by simpa using L);have c2:=u.D 2;have c3:=u.D 3;have c4:=u.D 4;simp[Ay]at c2 c3 c4;clear u n R C F z d0 d1 S T d4 d5 d6 d7 d8 v p L;cases hh:Bk l with
   |false=>
    (have y:jV (b=AU (qT (k+1) a)):=by show _=_;rw[Aa s,hh,Aa q];simp);clear hh q s;go_wp2
    go_roundg (Z a-(k+1))
    case measure=>exact qu
    case rel=>exact⟨k+1,b,f,j,rfl,ly,lc,lc,rfl,y,x,M⟩
   |true=>
    (have y:jV (b++[⟨l.ap,l.an,U c (Z l.ts) d⟩]=AU (qT (k+1) a)):=by show _=_;rw[Aa s,hh,Aa q];simp);clear hh q s;have Bx:=mG m (Y6 (Za (AV ⟨l.ap,l.an,U c (Z l.ts) d⟩)) 187);have EK:=mg x (Y6 (Za (AV ⟨l.ap,l.an,U c (Z l.ts) d⟩)) 187);(have HF:jV (∀r,(m.alloc (Y6 (Za (AV ⟨l.ap,l.an,U c (Z l.ts) d⟩)) 187)).grownBy r (U f (Z b) j).ownBlock->Ac [] w r):=λr hg=>(M.alloc _).grown hg (λk G=>j3 ((x.lt k G).1)));go_wp2_with (at_builtin;refine mE _ rfl (.tmp 14) (.tmp 17) _ rfl w.heap.size 187 i0 _ 3 48 underlying163 EY W AT B0 rfl lc (U f (Z b) j) (Z b) (qS AV b) rfl EK ⟨m.heap.size,0,Y⟩ 1 1 (AV ⟨l.ap,l.an,U c (Z l.ts) d⟩) rfl rfl (mz (cs:=Za (AV ⟨l.ap,l.an,U c (Z l.ts) d⟩)) (t:=187) (fr:=(0,0)) Bx) (by simp[Value.oneCell',AV]) lc lw lc li (m.heap.size+1) ln ?_;intro g1 AH r CC A2 E0 FL)
    go_roundg (Z a-(k+1))
    case measure=>exact qu
    case rel=>exact⟨k+1,b++[⟨l.ap,l.an,U c (Z l.ts) d⟩],V ⟨g1,0,Y⟩,AH,ln,ly,lc,li,rfl,y,by simpa using CC,HF r A2⟩
  .have HE:jV (b=AU a):=by
    have h:=Aa q;rw[lY lc]at h;exact h
   go_wp2;go_ret;rw[<-HE.o];exact⟨f,j,rfl,v,p⟩
def bX(w g b v)(h:Cg w g v b):∀u∈qS AV (AU b),u.oneCell'=T6:=by
 intro u f;obtain⟨t,d,a⟩:=mH.1 f;obtain⟨p,c,rfl⟩:=me.1 d;obtain⟨j,i,e⟩:=Aj (h.j p (my.1 c).1).1;simp only[AV,l9,nr,or_false]at a;rcases a with rfl|rfl|rfl
 .rfl
 .rfl
 .rw[e];rfl
theorem Mm(c w)(h:JG w 0 c.hv c.bv c.zA c.ea)(W:Z c.ea<=1000):rE rF 119 #[ku (Za (Ba c))] w λe t=>∃v z,e=j1 (U v (Z (BG c)) z)/\kt t w.heap.size 187 3 (U v (Z (BG c)) z) (Z (BG c)) (qS AV (BG c))/\Ac [] w t:=by
 obtain⟨i0,S,M,T,Ax⟩:=mW Tryz.z6;obtain⟨f,i,b,hv,bv,a⟩:=c;simp only at h W;obtain⟨g,d,rfl⟩:=Aj h.E;obtain⟨l,m,rfl⟩:=Aj h.body.row;have Q:jV (∀wr,Ac [] w wr->rE rF 92 #[U l (Z a) m] wr λe t=>∃v z,e=j1 (U v (Z (AU a)) z)/\kt t wr.heap.size 187 3 (U v (Z (AU a)) z) (Z (AU a)) (qS AV (AU a))/\Ac [] wr t):=λwr p=>MT l m a wr (h.body.C p) W
 have E:=Ab (bX w 0 a _ h.body);have Bx:=En a;have A:jV (BG ⟨f,i,b,U g (Z b) d,U l (Z a) m,a⟩=[⟨f,i,U g (Z b) d⟩]++AU a):=rfl;generalize BG ⟨f,i,b,U g (Z b) d,U l (Z a) m,a⟩=AT at A|-;generalize AU a=BA at Q E Bx A;clear h;simp only[Ba];have q:=Ab (kS w [X J f,O i,U g (Z b) d,U l (Z a) m] 189);have x:=Ab ((kR [] w).alloc (Y6 #[X J f,O i,U g (Z b) d,U l (Z a) m] 189));go_enter func119,ntmps119;go_wp2_with fail
 change Code.wp _ _ _ _ (w.alloc (Y6 #[X J f,O i,U g (Z b) d,U l (Z a) m] 189));have F:(w.alloc (Y6 #[X J f,O i,U g (Z b) d,U l (Z a) m] 189)).heap.size=w.heap.size+1:=ln
 generalize w.alloc (Y6 #[X J f,O i,U g (Z b) d,U l (Z a) m] 189)=w1 at q x F|-;obtain⟨N,C⟩:=kQ w.heap.size;rw[C]at q F|-;obtain⟨c0,c1,c2,c3⟩:=q.c4;simp at c0 c1 c2 c3;have H:=Ab C;have G:Z AT=1+Z BA:=by rw[Aa A];simp;omega
 have A1:jV (∀(r:jH) (o:rB) (n:Nat),kt r N 187 3 (U o (1+Z BA) n) (1+Z BA) (AV ⟨f,i,U g (Z b) d⟩++qS AV BA)->kt r N 187 3 (U o (Z AT) n) (Z AT) (qS AV AT)):=by
  intro r o n ho;rw[G,Aa A,mD];simpa using ho
 have P:=Ab G;have DT:jV (kt (w1.drew.alloc (Y6 (Za (AV ⟨f,i,U g (Z b) d⟩)) 187)) N 187 3 (U (V ⟨N+1,0,Y⟩) 1 1) 1 (AV ⟨f,i,U g (Z b) d⟩)):=by
  have hh:=kS w1.drew (AV ⟨f,i,U g (Z b) d⟩) 187;rw[show w1.drew.heap.size=N+1 from F]at hh
  exact⟨rfl,j3 ⟨N+1,1,_,rfl,lc,hh,mt _,lw,rfl,rfl⟩⟩
 have CL:jV (∀j:jH,N<=j.heap.size->kt (j.alloc (Y6 (Za (AV ⟨f,i,U g (Z b) d⟩)) 187)) N 187 3 (U (V ⟨j.heap.size,0,Y⟩) 1 1) 1 (AV ⟨f,i,U g (Z b) d⟩)):=λj p=>⟨rfl,j3 ⟨j.heap.size,1,_,rfl,p,kS j _ 187,mt _,lw,rfl,rfl⟩⟩
 clear C G
 go_region_law
  (first
   |(
     go_simp;go_at_call 92;refine(Q _ (by first|exact x.drew|exact(x.drew).alloc _)).G ?_;rintro e j ⟨AH,AR,rfl,A0,u⟩;
     have R:=u.size;
     first
      |(have BS:=Ad DT u;have D:=(x.drew.alloc _).H u;have B2:N+2<=j.heap.size:=by simp at R;omega)
      |(have I:=q.drew.C u;obtain⟨e0,e1,e2⟩:=I.c3;simp at e0 e1 e2;have D:=x.drew.H u;have B2:N+1<=j.heap.size:=by simp at R;omega))
   |(refine Ki _ lx _ _ _ lx N 187 i0 _ 3 48 underlying163 S M T Ax rfl lc (V ⟨N+1,0,Y⟩) 1 1 (AV ⟨f,i,U g (Z b) d⟩) lx BS _ AH (Z BA) AR (qS AV BA) lx A0 E lw lc lc ?_;intro o n r s y L;have B:=Ab (And.intro (A1 r o n s) (D.grown y (λk p=>j3 (by simp[kE]at p;have:=Aa H;omega))));clear s y L)
   |(refine Ki _ lx _ _ _ lx N 187 i0 _ 3 48 underlying163 S M T Ax rfl lc (V ⟨j.heap.size,0,Y⟩) 1 1 (AV ⟨f,i,U g (Z b) d⟩) lx (CL j lc) _ AH (Z BA) AR (qS AV BA) lx (mg A0 _) E lw lc li ?_;intro o n r s y L;have B:=Ab (And.intro (A1 r o n s) ((D.alloc _).grown y (λk p=>j3 (by simp[kE]at p;have:=Aa H;omega))));clear s y L))
 all_goals
  go_wp2;go_ret;rw[Aa H,Aa P];exact⟨o,n,rfl,by have h:=B.1;rw[Aa P]at h;exact h,B.2⟩
def A6(ea:kN L6):kN AY:=ea.flatMap λp=>AQ p.1
def Bl(c:CQ):kN AY:=c.zA++A6 c.ea
def QD{a:kN L6}(b):A6 (qT (k+1) a)=A6 (qT k a)++AQ a[k].1:=by
 unfold A6;rw[lW b,mD];simp
def L1(a:kN AY):∀u∈qS Ar a,u.oneCell'=T6:=by
 intro u b;obtain⟨t,_,h⟩:=mH.1 b;simp[Ar]at h;rcases h with rfl|rfl<;>rfl
def be(h:kt w m T k (U o n i) n y)(p:0<n):
  ∃g,o=V ⟨g,0,Y⟩/\Z y=n*k/\(∀j u,y[j]?=V u->jY w ((⟨g,0,Y⟩:Addr).add j)=V u)/\m<=g/\g<w.heap.size:=by
 rcases h.2 with⟨a,d⟩|⟨g,c,b,a,f,l⟩
 .omega
 .obtain⟨rfl,_,rfl⟩:=qX a;exact⟨g,rfl,h.1,h.cells rfl,(h.lt g rfl)⟩
structure KY(c:CQ):Prop where
 E:0<Z c.zA/\Z c.zA<=1000
 g:Z c.ea<=1000
 j:∀p∈c.ea,(Bk p.1=T6->0<Z p.1.ts)/\Z p.1.ts<=1000
def KY.zN{c}(h:KY c){p}(a:p∈c.ea):0<Z (AQ p.1)/\Z (AQ p.1)<=1000:=by
 have:=h.j p a;unfold AQ;split
 .exact qr
 .simp
set_option maxRecDepth 512
theorem dE(n:Nat)(w)(r:0<n)(v:n<=2000000):rE rF 228 #[U Y 0 0,X J n] w λe j=>∃g G,e=j1 (U (V ⟨g,0,Y⟩) 0 G)/\kt j w.heap.size 215 2 (U (V ⟨g,0,Y⟩) 0 G) 0 []/\Ac [] w j:=by
 obtain⟨f,s,q,y,m⟩:=mW Tryz.zW;have l:(Builtin.firstCells f.size 0 (U Y 0 0)).run rF w.drew=.ok (Za ([]:kN jR)) w.drew:=run_firstCells_none w.drew f.size 0 0 0;have k:∀i,(Builtin.append_ #[185,3] i #[U Y 0 0,X J (n:Int)]).run rF w=
   .ok (U (V ⟨w.heap.size,0,Y⟩) n (grownCap w n 0 215)) (w.drew.alloc (Y6 (Za ([]:kN jR)++Builtin.zeroCells (ku #[X kw 0,O ⟨#[]⟩]:jR).cells n++Builtin.zeroCells (ku #[X kw 0,O ⟨#[]⟩]:jR).cells (grownCap w n 0 215-n)) 215)):=λi=>by
  have h:=Lib.run_append_grow_zeros w 185 3 i 215 f _ J J underlying185 underlying3 s q Y 0 0 [] l n r lc lc lc (by rw[m];omega) (by rw[m,m7];exact growslice_fits lc lc);simp only[m7]at h;exact h
 obtain⟨G,b⟩:∃G,G=grownCap w n 0 215:=⟨_,rfl⟩;obtain⟨a,c⟩:∃a:Array jR,a=Za ([]:kN jR)++Builtin.zeroCells (ku #[X kw 0,O ⟨#[]⟩]:jR).cells n++Builtin.zeroCells (ku #[X kw 0,O ⟨#[]⟩]:jR).cells (G-n):=⟨_,rfl⟩;rw[<-b,<-c]at k;have t:n<=G:=by rw[b];exact grownCap_ge w _ _ _
 have d:G<=maxLen:=by rw[b];exact grownCap_le_maxLen w n 0 215 lw
 have p:a.size=G*2:=by
  rw[c];simp[Builtin.zeroCells,Value.cells];omega
 have u:G<=9223372036854775807:=by unfold maxLen at d;omega
 have o:jV (kt (w.alloc (Y6 a 215)) w.heap.size 215 2 (U (V ⟨w.heap.size,0,Y⟩) 0 G) 0 []/\Ac [] w (w.alloc (Y6 a 215))):=
  ⟨⟨rfl,j3 ⟨w.heap.size,G,a,rfl,mt _,mG w _,mr _,d,p,ln⟩⟩,(kR [] w).alloc _⟩
 have x:(0:Int)<(n:Int):=lc
 have z:¬((n:Int)<0):=lc
 clear l c b p d;go_enter func228,ntmps228;go_wp2_with (at_builtin;refine Lib.wpList_append_run _ rfl _ _ _ _ rfl _ _ rfl rfl _ _ (k _) ?_)
 go_ret;exact⟨_,G,rfl,o.1,o.2.drew⟩
set_option maxRecDepth 100000
theorem WJ(R E z v C)(a b:kN AY)(I b2 w)(r:AF w R [U E (Z a) z,U v (Z b) C] 185)(S:kt w I 215 2 (U E (Z a) z) (Z a) (qS Ar a))(M:kt w b2 215 2 (U v (Z b) C) (Z b) (qS Ar b))(W:0<Z a)(BT:Z a+Z b<=2000000):rE rF 213 #[U (V ⟨R,0,Y⟩) 2 2] w λe L=>∃d h,e=j1 (U d (Z (a++b)) h)/\kt L w.heap.size 215 2 (U d (Z (a++b)) h) (Z (a++b)) (qS Ar (a++b))/\Ac [] w L:=by
 obtain⟨i0,Bx,N,T,AO⟩:=mW Tryz.zW;have HV:=Ab r;have H1:=Ab S;have H2:=Ab M;obtain⟨s,q⟩:=r.c2;simp at s q;have A1:=Ab (dE _ w lc BT);have BS:jV (Z (a++b)=Z a+Z b):=se
 generalize hAB:a++b=ab at BS|-;have B9:=Ab hAB;have DT:=Ab W;clear r S M hAB W;have CC:¬((Z a:Int)<0):=lc
 have EM:¬((Z a:Int)+Z b<0):=lc
 go_enter func213,ntmps213;go_wp2
 go_loopg [3,11] 2 (λgk o i wr=>∃k:Nat,i=X J k/\((k=0/\o=X J 0)\/(k=1/\o=X J (Z a))\/(k=2/\o=X J ((Z a:Int)+(Z b:Int))))/\gk=2-k/\w=wr)
 case atStart=>exact⟨0,rfl,j2 ⟨rfl,rfl⟩,rfl,rfl⟩
 case round=>
  obtain⟨k,rfl,l,B,rfl⟩:=hrel;rcases l with⟨rfl,rfl⟩|⟨rfl,rfl⟩|⟨rfl,rfl⟩
  .go_wp2
   go_roundg 1
   case measure=>omega
   case rel=>exact⟨1,ly,j3 (j2 ⟨rfl,ly⟩),rfl,rfl⟩
  .go_wp2
   go_roundg 0
   case measure=>omega
   case rel=>exact⟨2,ly,j3 (j3 ⟨rfl,ly⟩),rfl,rfl⟩
  ·(go_wp2_with fail);refine A1.G ?_;rintro e w2 ⟨g,G,rfl,A0,k2⟩;have P:=Ab A0;have Ax:=Ab k2;clear A1 A0 k2 s q;go_wp2
   go_loopg [6,27] 2 (λgk o i wr=>∃(k:Nat) (c:kN AY) (d:rB) (h:Nat),o=U d (Z c) h/\i=X J k/\((k=0/\jV (c=[]))\/(k=1/\jV (c=a))\/(k=2/\jV (c=ab)))/\gk=2-k/\Z c<=Z a+Z b/\(kt wr w.heap.size 215 2 (U d (Z c) h) (Z c) (qS Ar c))/\jV (Ac [] w wr))
   case atStart=>exact⟨0,[],_,_,rfl,rfl,j2 ⟨rfl,rfl⟩,rfl,ln,P,Ax⟩
   case round=>
    clear P Ax;obtain⟨k,c,d,h,rfl,rfl,l,B,CW,p,j⟩:=hrel;have Q:=Ab B;clear B;have CL:=j.size;rcases l with⟨rfl,m⟩|⟨rfl,m⟩|⟨rfl,m⟩
    .have s:=(HV.C j).D 0;simp at s;have H:=Ad H1 j;(have hz:Z c=0:=by rw[Aa m];rfl);(have y:jV (∀f,wr.grownBy f _->Ac [] w f):=λf x=>j.grown x (λk l=>j3 ((p.lt k l).1)));(have F:jV (c++a=a):=li);have n:=Ab hz;clear hz;go_wp2_with (at_builtin;refine F4 _ rfl (.tmp 31) (.tmp 32) _ rfl w.heap.size 215 i0 _ 2 24 underlying185 Bx N T AO rfl lc d (Z c) h (qS Ar c) rfl p I E (Z a) z (qS Ar a) rfl H (L1 _) (by have:=Aa n;unfold maxLen;omega) (by have:=Aa n;omega) lc ?_;intro A u f t D BA)
     go_roundg 1
     case measure=>exact qu
     case rel=>exact⟨1,c++a,A,u,ln,ly,j3 (j2 ⟨rfl,F⟩),rfl,by simp;have:=Aa n;omega,li,y f D⟩
    .have q:=(HV.C j).D 1;simp at q;have H:=Ad H2 j;(have n:jV (Z c=Z a):=by show _=_;rw[Aa m]);(have y:jV (∀f,wr.grownBy f _->Ac [] w f):=λf x=>j.grown x (λk l=>j3 ((p.lt k l).1)));(have F:jV (c++b=ab):=by rw[Aa m];exact B9);go_wp2_with (at_builtin;refine F4 _ rfl (.tmp 31) (.tmp 32) _ rfl w.heap.size 215 i0 _ 2 24 underlying185 Bx N T AO rfl lc d (Z c) h (qS Ar c) rfl p b2 v (Z b) C (qS Ar b) rfl H (L1 _) (by have:=Aa n;unfold maxLen;omega) (by have:=Aa n;omega) lc ?_;intro A u f t D BA)
     go_roundg 0
     case measure=>exact qu
     case rel=>exact⟨2,c++b,A,u,ln,ly,j3 (j3 ⟨rfl,F⟩),rfl,by simp;have:=Aa n;omega,li,y f D⟩
    .go_wp2;go_ret;rw[<-Aa m];exact⟨d,h,rfl,p,j⟩
theorem QW(B N)(a:kN L6)(w)(h:Cg w 0 (U B (Z a) N) a)(FP:Z a<=1000)(f:∀p∈a,0<Z (AQ p.1)/\Z (AQ p.1)<=1000):rE rF 139 #[U B (Z a) N] w λe y=>∃c d,e=j1 (U c (Z (A6 a)) d)/\kt y w.heap.size 215 2 (U c (Z (A6 a)) d) (Z (A6 a)) (qS Ar (A6 a))/\Ac [] w y:=by
 obtain⟨i0,FA,T,A0,BS⟩:=mW Tryz.zW;have HB:=Ab h;have E0:=Ab f;clear h f;go_enter func139,ntmps139;go_wp2
 go_loopg [3,8] (Z a) (λgk o i wr=>∃(k:Nat) (b:kN AY) (c:rB) (d:Nat),o=U c (Z b) d/\i=X J k/\k<=Z a/\Z b<=k*1000/\gk=Z a-k/\jV (b=A6 (qT k a))/\kt wr w.heap.size 215 2 (U c (Z b) d) (Z b) (qS Ar b)/\jV (Ac [] w wr))
 case atStart=>exact⟨0,[],Y,0,rfl,rfl,lc,ln,rfl,by show _=_;simp[A6],mw _ _ _ _,kR _ _⟩
 case round=>
  obtain⟨k,b,c,d,rfl,rfl,E,FT,F,u,s,j⟩:=hrel;have HG:=Ab F;clear F;by_cases t:k<Z a
  .have P:=HB.C j;have Go:=j.size;obtain⟨g,FO,l,q,r,C,L,I,d0,d1,R,S,d4,d5,d6,d7,d8⟩:=JL P k t;obtain⟨rfl,_,rfl⟩:=qX C;have x:=Ab (QD t);have f:=Aa E0 a[k] (lV t);rw[L]at x f;simp only at f;have v:=Ab (Nz l q r (wr.alloc (Y6 (Za (Ay (l,U q (Z l.ts) r))) 217)) (Ad I ((kR [] wr).alloc _)));clear P I L;simp only[Ay]at v;have z:=Ab (j.alloc (Y6 (Za (Ay (l,U q (Z l.ts) r))) 217));have D:=Ab (mg s (Y6 (Za (Ay (l,U q (Z l.ts) r))) 217));(go_wp2_with fail);refine v.G ?_;rintro e A ⟨FC,EK,rfl,Q,n⟩;have CC:=Ab (z.H n);have M:=Ad D n;have G:=n.size;(have FF:wr.heap.size+1<=A.heap.size:=by simpa using G);obtain⟨g3,rfl,CW,H,_,_⟩:=be Q f.1;have B0:=Ab H;(have ES:jV (b++AQ l=A6 (qT (k+1) a)):=by show _=_;rw[Aa x,Aa u]);(have HF:jV (∀m,A.grownBy m (U c (Z b) d).ownBlock->Ac [] w m):=λm W=>CC.grown W (λk E=>j3 ((M.lt k E).1)));clear n z D v d0 d1 R S d4 d5 d6 d7 d8 s j G Q H x u;have EX:Z (b++AQ l)<=(k+1)*1000:=li;have FL:k<=1000:=lc;go_wp2_with (at_builtin;refine mE _ rfl (.tmp 12) (.tmp 14) _ rfl w.heap.size 215 i0 _ 2 24 underlying185 FA T A0 BS rfl lc (U c (Z b) d) (Z b) (qS Ar b) rfl M ⟨g3,0,Y⟩ (Z (AQ l)) EK (qS Ar (AQ l)) rfl CW B0 (L1 _) lc lw lc lc _ rfl ?_;intro g1 AO m B2 Bx FB FW)
   go_roundg (Z a-(k+1))
   case measure=>exact qu
   case rel=>exact⟨k+1,b++AQ l,V ⟨g1,0,Y⟩,AO,ln,ly,lc,EX,rfl,ES,by simpa using B2,HF m Bx⟩
  .have HE:jV (b=A6 a):=by
    have h:=Aa u;rw[lY lc]at h;exact h
   go_wp2;go_ret;rw[<-HE.o];exact⟨c,d,rfl,s,j⟩
def Jf{a}(h:∀p∈a,Z (AQ p.1)<=1000):Z (A6 a)<=Z a*1000:=by
 unfold A6
 induction a with
 |nil=>simp
 |cons p l ih=>
  exact qy
theorem Rx(c w)(h:JG w 0 c.hv c.bv c.zA c.ea)(G:KY c):rE rF 184 #[ku (Za (Ba c))] w λe k=>∃f j,e=j1 (U f (Z (Bl c)) j)/\kt k w.heap.size 215 2 (U f (Z (Bl c)) j) (Z (Bl c)) (qS Ar (Bl c))/\Ac [] w k:=by
 have z:jV (∀p∈c.ea,0<Z (AQ p.1)/\Z (AQ p.1)<=1000):=λp g=>G.zN g
 obtain⟨g,q,b,hv,bv,a⟩:=c;obtain⟨⟨I,AR⟩,C,Ax⟩:=G;simp only at h I AR C z;clear Ax;obtain⟨i,d,rfl⟩:=Aj h.E;obtain⟨l,o,rfl⟩:=Aj h.body.row;have M:=Jf (λp g=>(z p g).2);have Bx:Z (A6 a)<=1000000:=lc
 have B:jV (∀wr,Ac [] w wr->rE rF 139 #[U l (Z a) o] wr λe k=>∃f j,e=j1 (U f (Z (A6 a)) j)/\kt k wr.heap.size 215 2 (U f (Z (A6 a)) j) (Z (A6 a)) (qS Ar (A6 a))/\Ac [] wr k):=λwr r=>QW l o a wr (h.body.C r) C z
 have HH:=Ab h.E;have u:jV (Bl ⟨g,q,b,U i (Z b) d,U l (Z a) o,a⟩=b++A6 a):=rfl;generalize Bl ⟨g,q,b,U i (Z b) d,U l (Z a) o,a⟩=TV at u|-;generalize A6 a=BT at B Bx u;have F:jV (∀(wr:jH) (m:rB) (n A:Nat),Ac [] w wr->kt wr A 215 2 (U m (Z BT) n) (Z BT) (qS Ar BT)->rE rF 213 #[U (V ⟨wr.heap.size,0,Y⟩) 2 2] (wr.alloc (Y6 #[U i (Z b) d,U m (Z BT) n] 185)) λe k=>∃f j,e=j1 (U f (Z TV) j)/\kt k w.heap.size 215 2 (U f (Z TV) j) (Z TV) (qS Ar TV)/\Ac [] w k):=by
  intro wr m n A r hr;have t:=(kR [] wr).alloc (Y6 #[U i (Z b) d,U m (Z BT) n] 185);refine(WJ wr.heap.size i d m n b BT 0 A _ (kS wr [U i (Z b) d,U m (Z BT) n] 185) (Ad HH (r.H t)) (Ad hr t) I lc).G ?_;rintro e k ⟨f,j,rfl,W,k2⟩;rw[Aa u];exact⟨f,j,rfl,Ak W (by have:=(r.H t).size;exact this),(r.H t).H k2⟩
 clear h M;simp only[Ba];have s:=Ab (kS w [X J g,O q,U i (Z b) d,U l (Z a) o] 189);have y:=Ab ((kR [] w).alloc (Y6 #[X J g,O q,U i (Z b) d,U l (Z a) o] 189));go_enter func184,ntmps184;go_wp2_with fail
 change Code.wp _ _ _ _ (w.alloc (Y6 #[X J g,O q,U i (Z b) d,U l (Z a) o] 189));generalize w.alloc (Y6 #[X J g,O q,U i (Z b) d,U l (Z a) o] 189)=w1 at s y|-;obtain⟨N,v⟩:=kQ w.heap.size;rw[v]at s F|-;have T:=s.D 2;have c3:=s.D 3;simp at T c3;have A1:=Ab v;clear v
 go_region_law
  (first
   |(go_simp;go_at_call 139;refine(B _ y.drew).G ?_;rintro e wt ⟨m,n,rfl,L,x⟩;have R:=(s.drew.C x).D 2;simp at R;have A0:=Ab (y.drew.H x);have Q:=Ab L;clear L x)
   |(go_simp;go_at_call 213;refine(F wt m n _ A0 Q).G ?_;rintro e w9 ⟨S,P,rfl,H,E⟩;have D:=Ab (And.intro H E);clear H E))
 all_goals
  go_wp2;go_ret;rw[Aa A1];exact⟨S,P,rfl,D.1,D.2⟩
def GH(ea:kN L6):kN bN:=(ea.filter λp=>Bk p.1).map λp=>p.1.an
def Cq(c:CQ):kN bN:=c.hn::GH c.ea
def dG(c):(BG c).map Hx.a=Cq c:=by
 simp[BG,Cq,AU,GH]
def IV{c}(h:JG w 0 c.hv c.bv c.zA c.ea):∀a∈BG c,∃f n d,a.tv=U f n d:=by
 intro a b;rcases l9.1 b with rfl|b
 .obtain⟨f,d,e⟩:=Aj h.E;exact⟨_,_,_,e⟩
 .obtain⟨p,g,rfl⟩:=me.1 b;obtain⟨f,d,e⟩:=Aj (h.body.j p (my.1 g).1).1;exact⟨_,_,_,e⟩
def Kk{l:kN Hx}(h:kt w n 187 3 z (Z l) (qS AV l))(k a):
  ∃g b,z=U (V ⟨g,0,Y⟩) (Z l) b/\jY w ⟨g,k*3,Y⟩=V (X J l[k].c)/\jY w ⟨g,k*3+1,Y⟩=V (O l[k].a)/\jY w ⟨g,k*3+2,Y⟩=V l[k].tv:=by
 obtain⟨g,b,j,_,d⟩:=Az h (λc _=>U3 c) k a;have f:=d k a 0 lc;have i:=d k a 1 lc;have e:=d k a 2 lc;exact⟨g,b,j,f,i,e⟩
structure OT(base:Nat)(lv:jR)(l:kN bN)(xs:kN bN)(w:jH)(l':kN bN)(ad':rB)(cp':Nat)(w':jH):Prop where
 zB:C3 Hn l'
 mem:∀y,y∈l'↔y∈xs\/y∈l
 ge:Z l<=Z l'
 le:Z l'<=Z l+Z xs
 own:kt w' base 9 1 (U ad' (Z l') cp') (Z l') (qS Ai l')
 C:Ac (qV (qW lv)) w w'
 new:∀k,(U ad' (Z l') cp').ownBlock=V k->lv.ownBlock=V k\/w.heap.size<=k
theorem NT(c a b)(l:kN bN)(n w)(h:JG w 0 c.hv c.bv c.zA c.ea)(EM:Z c.ea<=1000)(hl:kt w n 9 1 (U a (Z l) b) (Z l) (qS Ai l))(HK:Z l<=900000)(hr:C3 Hn l)(HD:n<=w.heap.size):rE rF 164 #[U a (Z l) b,ku (Za (Ba c))] w λe w'=>∃S B9 AR,e=j1 (U B9 (Z S) AR)/\OT n (U a (Z l) b) l (Cq c) w S B9 AR w':=by
 have u:=Ab (Mm c (w.alloc (Y6 (Za (Ba c)) 189)) (h.C ((kR [] w).alloc _)) EM);have Ax:=Ab (IV h);have E:=Ab (dG c);have DT:jV (Z (BG c)<=1001):=by
  show _<=_;have:=En c.ea;simp[BG];omega
 obtain⟨hp,hn,x,hv,bv,t⟩:=c;simp at h;obtain⟨CC,Q,rfl⟩:=Aj h.E;obtain⟨AH,AB,rfl⟩:=Aj h.body.row;generalize BG ⟨hp,hn,x,U CC (Z x) Q,U AH (Z t) AB,t⟩=aT at u Ax E DT;generalize Cq ⟨hp,hn,x,U CC (Z x) Q,U AH (Z t) AB,t⟩=ns at E|-;have HL:=Ab hl;have FT:=Ab hr;clear h hl hr;simp only[Ba]at u|-;go_enter func164,ntmps164;go_wp2_with fail
 refine u.G ?_;rintro e s ⟨FO,R,rfl,BA,z⟩;have I:jV _:=((kR [] w).alloc _).H z;have HB:w.heap.size+1<=s.heap.size:=by have:=z.size;simpa using this
 have W:=Ab (Ak BA (ln:w.heap.size<=_));clear u BA z;go_wp2
 go_loopg [0,10] (Z aT) (λgk o i wr=>∃(k:Nat) (m:kN bN) (d:rB) (f:Nat),o=U d (Z m) f/\i=X J k/\k<=Z aT/\gk=Z aT-k/\Z m<=Z l+k/\jV (OT n (U a (Z l) b) l ((qT k aT).map Hx.a) w m d f wr)/\jV (kt wr w.heap.size 187 3 (U FO (Z aT) R) (Z aT) (qS AV aT))/\jV (∀q,(U d (Z m) f).ownBlock=V q->(U a (Z l) b).ownBlock=V q\/s.heap.size<=q)/\s.heap.size<=wr.heap.size)
 case atStart=>exact⟨0,l,a,b,rfl,rfl,lc,rfl,lc,⟨FT,λy=>ln,lc,lc,Ad HL I,I.G ln,λk T=>j2 T⟩,W,λq p=>j2 p,lc⟩
 case round=>
  clear I;obtain⟨k,m,d,f,rfl,rfl,T,B0,HF,r,H,L,Ha⟩:=hrel;have HG:=Ab B0;clear B0;have HC:=Aa DT;by_cases A:k<Z aT
  .obtain⟨g,HA,he,d0,d1,P⟩:=Kk H k A;obtain⟨rfl,_,rfl⟩:=qX he;obtain⟨Go,nt,FA,BS⟩:=Ax aT[k] (lV A);rw[BS]at P;clear BS;have A2:=Ab (fC d f m aT[k].a n (wr.alloc (Y6 #[X J aT[k].c,O aT[k].a,U Go nt FA] 187)) (mg r.own _) lc r.zB li);(go_wp2_with fail);refine A2.G ?_;rintro e v ⟨N,F,D,rfl,q1,q2,q3,q4,q5,C,B⟩;have M:=((kR _ wr).alloc _).H C;(have HI:wr.heap.size+1<=v.heap.size:=by have:=C.size;simpa using this);have EX:jV (OT n (U a (Z l) b) l ((qT (k+1) aT).map Hx.a) w N F D v):=by
    have j:=Aa r;refine⟨q1,λy=>?_,by have:=j.ge;omega,?_,q5,j.C.trans' M (λi G=>?_),λq p=>?_⟩
    .rw[q2,j.mem,lW A];simp only[mO,mA,om,mi,lX];constructor
     .rintro (h|h|h)
      .exact j2 (j3 h)
      .exact j2 (j2 h)
      .exact j3 h
     .rintro ((h|h)|h)
      .exact j3 (j2 h)
      .exact j2 h
      .exact j3 (j3 h)
    .have:=j.le;simp only[mh,mT]at this|-;omega
    .rcases j.new i (by simpa using G)with h|h
     .exact j2 (by simp[h])
     .exact j3 h
    .rcases B q p with h|h
     .exact j.new q h
     .exact j3 (by simp at h;omega)
   have FF:jV (kt v w.heap.size 187 3 (U (V ⟨g,0,Y⟩) (Z aT) R) (Z aT) (qS AV aT)):=by
    refine Ag H M (λi G hm=>?_);have h1:=(W.lt i G);rcases L i sC with h|h
    .have:=(HL.lt i h).2;omega
    .omega
   have E0:jV (∀q,(U F (Z N) D).ownBlock=V q->(U a (Z l) b).ownBlock=V q\/s.heap.size<=q):=by
    intro q p;rcases B q p with h|h
    .exact L q h
    .exact j3 (by simp at h;omega)
   clear A2 q1 q2 q3 q5 C B M r H L d0 d1 P;go_wp2
   go_roundg (Z aT-(k+1))
   case measure=>exact qu
   case rel=>exact⟨k+1,N,F,D,rfl,ly,lc,rfl,lc,EX,FF,E0,lc⟩
  .have HE:jV (OT n (U a (Z l) b) l ns w m d f wr):=by
    have h:=Aa r;rw[lY lc,Aa E]at h;exact h
   go_wp2;go_ret;exact⟨m,d,f,rfl,HE⟩
def Fw{l:kN AY}(h:kt w n 215 2 z (Z l) (qS Ar l))(k a):
  ∃g b,z=U (V ⟨g,0,Y⟩) (Z l) b/\jY w ⟨g,k*2,Y⟩=V (X kw l[k].v)/\jY w ⟨g,k*2+1,Y⟩=V (O l[k].s):=by
 obtain⟨g,b,i,_,f⟩:=Az h (λc _=>Vk c) k a;have d:=f k a 0 lc;have e:=f k a 1 lc;exact⟨g,b,i,d,e⟩
structure Hh(ts:kN AY)(l:kN Int):Prop where
 zB:C3 W9 l
 mem:∀y,y∈l↔y≠0/\∃t∈ts,t.v=y
 le:Z l<=Z ts
def Hh.nil:Hh [] []:=⟨λi j a=>sF,λy=>ln,ln⟩
theorem Mu(E M)(a:kN AY)(T w)(h:kt w T 215 2 (U E (Z a) M) (Z a) (qS Ar a))(B9:Z a<=900000):rE rF 174 #[U E (Z a) M] w λe z=>∃l F G,e=j1 (U F (Z l) G)/\Hh a l/\kt z w.heap.size 21 1 (U F (Z l) G) (Z l) (qS AX l)/\Ac [] w z:=by
 have HT:=Ab h;clear h;go_enter func174,ntmps174;go_wp2
 go_loopg [3,8] (Z a) (λgk o i wr=>∃(k:Nat) (l:kN Int) (f:rB) (m:Nat),o=U f (Z l) m/\i=X J k/\k<=Z a/\gk=Z a-k/\jV (Hh (qT k a) l)/\kt wr w.heap.size 21 1 (U f (Z l) m) (Z l) (qS AX l)/\jV (Ac [] w wr))
 case atStart=>exact⟨0,[],Y,0,rfl,rfl,lc,rfl,by show Hh _ _;simpa using Hh.nil,mw _ _ _ _,kR _ _⟩
 case round=>
  obtain⟨k,l,f,m,rfl,rfl,hk,D,n,r,p⟩:=hrel;have A:=Ab D;clear D;have R:=n.le;simp only[mT]at R;have CW:=p.size;by_cases u:k<Z a
  .obtain⟨g,CL,L,d0,d1⟩:=Fw (Ad HT p) k u;obtain⟨rfl,_,rfl⟩:=qX L;have x:=Ab (p.alloc (Y6 #[X kw a[k].v,O a[k].s] 215));have q:=mg r (Y6 #[X kw a[k].v,O a[k].s] 215);cases hv:(a[k].v==0)with
   |true=>
    (have Ax:(a[k].v !=0)=K:=by simp[bne,hv]);have AR:jV (Hh (qT (k+1) a) l):=by
     have j:=Aa n;refine⟨j.zB,λy=>?_,by have:=j.le;simp only[mT]at this|-;omega⟩;rw[j.mem,lW u];(have hz:a[k].v=0:=by simpa using hv);constructor
     .rintro ⟨c,t,b,d⟩;exact⟨c,t,nP _ b,d⟩
     .rintro ⟨c,t,b,d⟩;rcases mi.1 b with b|b
      .exact⟨c,t,b,d⟩
      .simp only[lX]at b;subst b;exact rl (d.symm.H hz) c
    clear hv;go_wp2
    go_roundg (Z a-(k+1))
    case measure=>exact qu
    case rel=>exact⟨k+1,l,f,m,rfl,ly,lc,rfl,AR,q,x⟩
   |false=>
    (have Ax:(a[k].v !=0)=T6:=by simp[bne,hv]);(have N:a[k].v≠0:=by simpa using hv);have I:=Ab (eD f m l a[k].v w.heap.size (wr.alloc (Y6 #[X kw a[k].v,O a[k].s] 215)) q lc n.zB li);have BA:=Ab N;clear hv N;(go_wp2_with fail);refine I.G ?_;rintro e Q ⟨H,W,AH,rfl,C,P,q3,q4,q5,B,S⟩;have AB:jV (Ac [] w Q):=x.trans' B (λi hi=>j3 ((q.lt i (by simpa using hi)).1));have A2:jV (Hh (qT (k+1) a) H):=by
     have j:=Aa n;refine⟨C,λy=>?_,by have:=j.le;simp only[mT]at this|-;omega⟩;rw[P,j.mem,lW u];constructor
     .rintro (c|⟨c,t,b,d⟩)
      .exact⟨by rw[c];exact BA,a[k],rz _ (lX.2 rfl),c.symm⟩
      .exact⟨c,t,nP _ b,d⟩
     .rintro ⟨c,t,b,d⟩;rcases mi.1 b with b|b
      .exact j3 ⟨c,t,b,d⟩
      .simp only[lX]at b;subst b;exact j2 d.symm
    clear I C P q3 q4 B S r q x p n;go_wp2
    go_roundg (Z a-(k+1))
    case measure=>exact qu
    case rel=>exact⟨k+1,H,W,AH,rfl,ly,lc,rfl,A2,q5,AB⟩
  .have HE:jV (Hh a l):=by
    have h:=Aa n;rw[lY lc]at h;exact h
   go_wp2;go_ret;exact⟨l,f,m,rfl,HE,r,p⟩
theorem WY(G P)(l:kN Int)(u v)(o:kN Int)(R C w)(h:kt w R 21 1 (U G (Z l) P) (Z l) (qS AX l))(z:kt w C 21 1 (U u (Z o) v) (Z o) (qS AX o))(hl:Z l<=900000)(ho:Z o<=900000)(L:C3 W9 o):rE rF 173 #[U G (Z l) P,U u (Z o) v] w λe x=>∃H I,e=j1 (U H (Z (l.filter λy=> !Ln o y)) I)/\kt x w.heap.size 21 1 (U H (Z (l.filter λy=> !Ln o y)) I) (Z (l.filter λy=> !Ln o y)) (qS AX (l.filter λy=> !Ln o y))/\Ac [] w x:=by
 obtain⟨i0,B2,Q,Ax,AT⟩:=mW Tryz.zt;have HT:=Ab h;have BT:=Ab z;have BS:=Ab L;obtain⟨F,hF⟩:=kQ (l.filter λy=> !Ln o y);rw[hF];have T:=Ab hF;clear h z hF L;go_enter func173,ntmps173;go_wp2
 go_loopg [5,10] (Z l) (λgk o' i wr=>∃(k:Nat) (m:kN Int) (a:rB) (b:Nat),o'=U a (Z m) b/\i=X J k/\k<=Z l/\Z m<=k/\gk=Z l-k/\jV (m=(qT k l).filter λy=> !Ln o y)/\kt wr w.heap.size 21 1 (U a (Z m) b) (Z m) (qS AX m)/\jV (Ac [] w wr))
 case atStart=>exact⟨0,[],Y,0,rfl,rfl,lc,ln,rfl,lx,mw _ _ _ _,kR _ _⟩
 case round=>
  obtain⟨k,m,a,b,rfl,rfl,A,EK,D,q,n,d⟩:=hrel;have B:=Ab D;clear D;have ES:=d.size;by_cases r:k<Z l
  .obtain⟨g,DT,N,_,E⟩:=Az (Ad HT d) (by simp[AX]) k r;obtain⟨rfl,_,rfl⟩:=qX N;have d0:=E k r 0 lc;simp[AX]at d0;clear E;have M:=Ab (dw u v o l[k] C wr (Ad BT d) lc BS);have p:jV ((qT (k+1) l).filter (λy=> !Ln o y)=m++if Ln o l[k] then[] else[l[k]]):=by
    show _=_;rw[lW r,oA,<-Aa q];by_cases c:Ln o l[k]=T6<;>simp[c]
   (go_wp2_with fail);refine M.G ?_;rintro e j ⟨rfl,rfl⟩;clear M;cases c:Ln o l[k] with
   |true=>
    (have s:jV (m=(qT (k+1) l).filter λy=> !Ln o y):=by show _=_;rw[Aa p,c];simp);clear c p q;go_wp2
    go_roundg (Z l-(k+1))
    case measure=>exact qu
    case rel=>exact⟨k+1,m,a,b,rfl,ly,lc,lc,rfl,s,n,d⟩
   |false=>
    (have s:jV (m++[l[k]]=(qT (k+1) l).filter λy=> !Ln o y):=by show _=_;rw[Aa p,c];simp);clear c p q;have AO:=mG j (Y6 #[X kw l[k]] 21);have BA:=mg n (Y6 #[X kw l[k]] 21);(have AB:jV (∀f,(j.alloc (Y6 #[X kw l[k]] 21)).grownBy f _->Ac [] w f):=λf S=>(d.alloc _).grown S (λk A=>j3 ((n.lt k A).1)));go_wp2_with (at_builtin;refine mE _ rfl (.tmp 18) (.tmp 20) _ rfl w.heap.size 21 i0 _ 1 4 underlying234 B2 Q Ax AT rfl lc (U a (Z m) b) (Z m) (qS AX m) rfl BA ⟨j.heap.size,0,Y⟩ 1 1 [X kw l[k]] rfl rfl (mz (cs:=#[X kw l[k]]) (t:=21) (fr:=(0,0)) AO) lC lc lw lc li (j.heap.size+1) ln ?_;intro g1 W f A2 AH CC EM)
    go_roundg (Z l-(k+1))
    case measure=>exact qu
    case rel=>exact⟨k+1,_,V ⟨g1,0,Y⟩,W,ln,ly,lc,li,rfl,s,by simpa[AX] using A2,AB f AH⟩
  .have HE:jV (m=F):=by
    have h:=Aa q;rw[lY lc,Aa T]at h;exact h
   go_wp2;go_ret;rw[<-HE.o];exact⟨a,b,rfl,n,d⟩
def lenOf:jR->Nat
 | U _ n _=>n
 |_=>0
def Lg(c:CQ):rD:=(BG c).any (λa=>decide (2<lenOf a.tv))||decide (3<Z c.ea)
theorem QA(c w)(h:JG w 0 c.hv c.bv c.zA c.ea)(L:Z c.ea<=1000):rE rF 118 #[ku (Za (Ba c))] w λe w'=>e=j1 (kx (Lg c))/\Ac [] w w':=by
 have q:=Ab (Mm c (w.alloc (Y6 (Za (Ba c)) 189)) (h.C ((kR [] w).alloc _)) L);have S:=Ab (IV h);have AT:Z (BG c)<=1001:=by
  have:=En c.ea;simp[BG];omega
 have p:jV (Lg c=((BG c).any (λa=>decide (2<lenOf a.tv))||decide (3<Z c.ea))):=rfl;obtain⟨u,f,j,hv,bv,b⟩:=c;simp only at h L;obtain⟨y,s,rfl⟩:=Aj h.E;obtain⟨r,C,rfl⟩:=Aj h.body.row;generalize Lg ⟨u,f,j,U y (Z j) s,U r (Z b) C,b⟩=G at p|-;generalize BG ⟨u,f,j,U y (Z j) s,U r (Z b) C,b⟩=aT at q S AT p;clear h;have D:=Ab (kS w (Ba ⟨u,f,j,U y (Z j) s,U r (Z b) C,b⟩) 189);simp only[Ba]at q D|-;go_enter func118,ntmps118;go_wp2_with fail
 refine q.G ?_;rintro e w2 ⟨Bx,BT,rfl,F,B⟩;have I:jV (Ac [] w w2):=((kR [] w).alloc _).H B;have W:=Ab (D.C B);have HO:=Ab F;clear q F B D;go_wp2;generalize w.heap.size=N at W|-
 go_loopg [8] (Z aT) (λgk i wr=>∃(k:Nat),i=X J k/\k<=Z aT/\gk=Z aT-k/\jV ((qT k aT).any (λa=>decide (2<lenOf a.tv))=K)/\jV (Ac [] w wr)/\jV (Ac [] w2 wr))
 case atStart=>exact⟨0,rfl,lc,rfl,se,I,kR _ _⟩
 case round=>
  clear I;obtain⟨k,rfl,hk,H,M,A,t⟩:=hrel;have HG:=Ab H;clear H;by_cases n:k<Z aT
  .obtain⟨g,B2,T,d0,d1,d2⟩:=Kk (Ad HO t) k n;obtain⟨rfl,_,rfl⟩:=qX T;obtain⟨P,d,Q,o⟩:=S aT[k] (lV n);rw[o]at d2;have x:jV (2<d->G=T6):=by
    intro f;rw[Aa p,KG _ _ k n (by simp[o,lenOf,f])];rfl
   have z:jV (¬2<d->(qT (k+1) aT).any (λa=>decide (2<lenOf a.tv))=K):=by
    intro f;rw[Dm _ _ k n (Aa M)];simp[o,lenOf,f]
   clear o;have R:=Ab (A.alloc (Y6 #[X J aT[k].c,O aT[k].a,U P d Q] 187));have AR:=Ab (t.alloc (Y6 #[X J aT[k].c,O aT[k].a,U P d Q] 187));by_cases m:2<d
   .have E:=Ab (x m);have l:(2:Int)<(d:Int):=lc;clear x z;go_wp2;go_ret;rw[Aa E];exact⟨rfl,R⟩
   .have E:=Ab (z m);have l:¬(2:Int)<(d:Int):=lc;clear x z;go_wp2
    go_roundg (Z aT-(k+1))
    case measure=>exact qu
    case rel=>exact⟨k+1,ly,lc,rfl,E,R,AR⟩
  .have HE:jV (G=decide (3<Z b)):=by
    have h:=Aa M;rw[lY lc]at h;show _=_;rw[Aa p,h];rfl
   have c3:=(W.C t).D 3;simp at c3;by_cases m:3<Z b
   ·have l:(3:Int)<(Z b:Int):=lc;(have v:jV (G=T6):=by show _=_;rw[Aa HE];simp[m]);go_wp2;go_ret;rw[v.o];exact⟨by simp[l],A⟩
   ·have l:¬(3:Int)<(Z b:Int):=lc;(have v:jV (G=K):=by show _=_;rw[Aa HE];simp[m]);go_wp2;go_ret;rw[v.o];exact⟨by simp[l],A⟩
def BL(o:Option Int):jR:=match o with|some p=> .tuple #[X J p,kx T6]|none=> .tuple #[X J 0,kx K]
def U9(c):Z (Ba c)=4:=rfl
structure CA(w:jH)(lv:jR)(cs:kN CQ):Prop where
 row:kt w 0 189 4 lv (Z cs) (qS Ba cs)
 j:∀c∈cs,JG w 0 c.hv c.bv c.zA c.ea
def CA.C{w w'}{a}{b}(h:CA w a b)(k:Ac [] w w'):CA w' a b:=⟨Ad h.row k,λc d=>(h.j c d).C k⟩
def Fs(h:CA w z p)(k)(a:k<Z p):
  ∃g t j n b m f e o d,z=U (V ⟨g,0,Y⟩) (Z p) t/\p[k]=⟨j,n,b,U m (Z b) f,U e (Z d) o,d⟩/\
   jY w ⟨g,k*4,Y⟩=V (X J j)/\jY w ⟨g,k*4+1,Y⟩=V (O n)/\jY w ⟨g,k*4+2,Y⟩=V (U m (Z b) f)/\jY w ⟨g,k*4+3,Y⟩=V (U e (Z d) o):=by
 obtain⟨g,t,x,_,i⟩:=Az h.row (λc _=>U9 c) k a;have l:=h.j _ (lV a);have u:=i k a 0 lc;have s:=i k a 1 lc;have q:=i k a 2 lc;have r:=i k a 3 lc;obtain⟨⟨j,n,b,y,A,d⟩,v⟩:∃c,p[k]=c:=⟨_,rfl⟩;rw[v]at u s q r l;simp at l;obtain⟨m,f,rfl⟩:=Aj l.E;obtain⟨e,o,rfl⟩:=Aj l.body.row;exact⟨g,t,j,n,b,m,f,e,o,d,x,v,u,s,q,r⟩
def VP(x:bN)(a:Hx):rD:=a.a.toList==x.toList
def iw(cs:kN CQ)(x:bN):Option Nat:=((qS BG cs).find? (VP x)).map λa=>lenOf a.tv
def SW(cs:kN CQ)(a:Hx):rD:=decide (2<lenOf a.tv)||(match iw cs a.a with|some n=> !(n==lenOf a.tv)|none=>K)
def kp(cs:kN CQ)(l:kN Hx):Option Int:=(l.find? (SW cs)).map λa=>a.c
def L9{α:Type}{p}{l:kN α}(h:l.any p=K):l.find? p=Y:=qr
def eJ(a):qS BG p=qS BG (qT k p)++(BG p[k]++qS BG (p.drop (k+1))):=by
 rw[show qS BG p=qS BG (qT k p++p[k]::p.drop (k+1)) from ln]
 rw[mD,mB]
def jz(a){l}(c:BG p[k]=l)(e:(qS BG (qT k p)).any (VP s)=K)(b)(d:(qT j l).any (VP s)=K)(f:VP s l[j]=T6):
  iw p s=V (lenOf l[j].tv):=by
 unfold iw;rw[eJ a,qd,L9 e,c,qd,FV _ _ j b d f];rfl
def eQ(c){l}(b:BG p[k]=l)(d:(qS BG (qT k p)).any (VP s)=K)(a:l.any (VP s)=K):(qS BG (qT (k+1) p)).any (VP s)=K:=by
 rw[lW c,mD,p8,d];simp[b,a]
theorem PP(x:bN)(B2 BS)(b:kN CQ)(w)(h:CA w (U B2 (Z b) BS) b)(A0:∀c∈b,Z c.ea<=1000)(FT:Z b<=1000):rE rF 100 #[O x,U B2 (Z b) BS] w λe w'=>e=j1 (BL ((iw b x).map fun(n:Nat)=>(n:Int)))/\Ac [] w w':=by
 have HP:=Ab h;have CL:=Ab A0;obtain⟨R,N⟩:=kQ (iw b x);rw[N];have Bx:=Ab N;clear h A0 N;go_enter func100,ntmps100;go_wp2
 go_loopg [12] (Z b) (λgk i wr=>∃(k:Nat),i=X J k/\k<=Z b/\gk=Z b-k/\jV ((qS BG (qT k b)).any (VP x)=K)/\jV (Ac [] w wr))
 case atStart=>exact⟨0,rfl,lc,rfl,se,kR _ _⟩
 case round=>
  obtain⟨k,rfl,hk,Ax,H,z⟩:=hrel;have HG:=Ab Ax;clear Ax;by_cases o:k<Z b
  .obtain⟨g,FO,v,A,m,y,u,s,B,d,r,BT,d0,W,D,d3⟩:=Fs (HP.C z) k o;obtain⟨rfl,_,rfl⟩:=qX r;have p:=(HP.C z).j _ (lV o);have E:=Aa CL _ (lV o);obtain⟨a,f⟩:=kQ (BG b[k]);have HY:=Ab (λj (hj:j<Z a) h2 h3=>jz o f H hj h2 h3);have HS:=Ab (eQ o f H);rw[BT]at p E f;simp only at p E;have C:=Ab (Mm ⟨v,A,m,U y (Z m) u,U s (Z d) B,d⟩ (wr.alloc (Y6 #[X J v,O A,U y (Z m) u,U s (Z d) B] 189)) (p.C ((kR [] wr).alloc _)) E);have A1:=Ab (IV (c:=⟨v,A,m,U y (Z m) u,U s (Z d) B,d⟩) p);have FL:Z a<=1001:=by
    have:=En d;rw[<-f];simp[BG];omega
   rw[f]at C A1;have q:=Ab (z.alloc (Y6 #[X J v,O A,U y (Z m) u,U s (Z d) B] 189));clear p BT f;simp only[Ba]at C;(go_wp2_with fail);refine C.G ?_;rintro e w2 ⟨FC,FP,rfl,S,k2⟩;have AB:=Ab (q.H k2);have HO:=Ab S;clear C S k2 q d0 W D d3;go_wp2
   go_loopg [19] (Z a) (λgj i T=>∃(j:Nat),i=X J j/\j<=Z a/\gj=Z a-j/\jV ((qT j a).any (VP x)=K)/\jV (Ac [] w T)/\jV (Ac [] w2 T))
   case atStart=>exact⟨0,rfl,lc,rfl,se,AB,kR _ _⟩
   case round=>
    clear AB;obtain⟨j,rfl,hj,AT,L,B0,CC⟩:=hrel;have FA:=Ab AT;clear AT;by_cases t:j<Z a
    .obtain⟨gg,Go,r,d0,W,D⟩:=Kk (Ad HO CC) j t;obtain⟨rfl,_,rfl⟩:=qX r;obtain⟨AO,I,AR,F⟩:=A1 a[j] (lV t);rw[F]at D;have M:jV ((a[j].a.toList==x.toList)=T6->R=V I):=by
      intro l;have:=Aa HY j t L l;rw[F]at this;rw[<-Aa Bx];exact this
     have G:jV ((a[j].a.toList==x.toList)=K->(qT (j+1) a).any (VP x)=K):=by
      intro l;rw[Dm _ _ j t (Aa L)];exact l
     have q:=Ab (B0.alloc (Y6 #[X J a[j].c,O a[j].a,U AO I AR] 187));have EK:=Ab (CC.alloc (Y6 #[X J a[j].c,O a[j].a,U AO I AR] 187));clear F;cases l:(a[j].a.toList==x.toList)with
     |true=>
      have Q:=Ab (M l);clear M G;go_wp2;go_ret2;rw[Aa Q];exact⟨rfl,q⟩
     |false=>
      have Q:=Ab (G l);clear M G;go_wp2
      go_roundg (Z a-(j+1))
      case measure=>exact qu
      case rel=>exact⟨j+1,ly,lc,rfl,Q,q,EK⟩
    .have P:jV ((qS BG (qT (k+1) b)).any (VP x)=K):=by
      have h:=Aa L;rw[lY lc]at h;exact HS h
     go_wp2
     go_roundg (Z b-(k+1))
     case measure=>exact qu
     case rel=>exact⟨k+1,ly,lc,rfl,P,B0⟩
  .have P:jV (R=Y):=by
    have h:=Aa H;rw[lY lc]at h;show _=_;rw[<-Aa Bx];unfold iw;rw[L9 h];rfl
   go_wp2;go_ret2;rw[P.o];exact⟨rfl,z⟩
theorem MJ(AB Ax)(b:kN Hx)(A0 t s)(d:kN CQ)(w)(AR:kt w A0 187 3 (U AB (Z b) Ax) (Z b) (qS AV b))(H:∀a∈b,∃ad n cp,a.tv=U ad n cp)(EX:Z b<=1001)(A1:∀a∈b,lenOf a.tv<=1000)(h:CA w (U t (Z d) s) d)(W:∀c∈d,Z c.ea<=1000)(BA:Z d<=1000):rE rF 91 #[U AB (Z b) Ax,U t (Z d) s] w λe u=>e=j1 (BL (kp d b))/\Ac [] w u:=by
 have HO:=Ab AR;have CC:=Ab H;have Bx:jV (∀x wr,Ac [] w wr->rE rF 100 #[O x,U t (Z d) s] wr λe u=>e=j1 (BL ((iw d x).map fun(n:Nat)=>(n:Int)))/\Ac [] wr u):=λx wr L=>PP x t s d wr (h.C L) W BA
 obtain⟨R,E⟩:=kQ (kp d b);rw[E];have AH:jV ((b.find? (SW d)).map (λa=>a.c)=R):=E;clear h W E AR H A1;go_enter func91,ntmps91;go_wp2
 go_loopg [12] (Z b) (λgk i wr=>∃(k:Nat),i=X J k/\k<=Z b/\gk=Z b-k/\jV ((qT k b).any (SW d)=K)/\jV (Ac [] w wr))
 case atStart=>exact⟨0,rfl,lc,rfl,se,kR _ _⟩
 case round=>
  obtain⟨k,rfl,L,N,B,D⟩:=hrel;have M:=Ab N;clear N;by_cases r:k<Z b
  .obtain⟨g,ES,he,d0,d1,G⟩:=Kk (Ad HO D) k r;obtain⟨rfl,_,rfl⟩:=qX he;obtain⟨Q,f,S,y⟩:=CC b[k] (lV r);rw[y]at G;have m:jV (SW d b[k]=T6->R=V b[k].c):=by
    intro C;rw[<-Aa AH,FV _ _ k r (Aa B) C];rfl
   have o:jV (SW d b[k]=K->(qT (k+1) b).any (SW d)=K):=by
    intro C;rw[Dm _ _ k r (Aa B)];exact C
   have j:jV (SW d b[k]=(decide (2<f)||(match iw d b[k].a with|some n=> !(n==f)|none=>K))):=by
    show _=_;unfold SW;rw[y];rfl
   clear y;have A:=D.alloc (Y6 #[X J b[k].c,O b[k].a,U Q f S] 187);have P:=Ab (kS wr [X J b[k].c,O b[k].a,U Q f S] 187);have I:=Ab (Bx b[k].a _ A);have T:=Ab A;clear A;(go_wp2_with fail);refine I.G ?_;rintro e w3 ⟨rfl,z⟩;have F:=P.C z;have q:=Ab (T.H z);have c0:=F.D 0;have c2:=F.D 2;simp at c0 c2;clear I P T z F d0 d1 G;by_cases v:2<f
   ·have AT:(2:Int)<(f:Int):=lc;have l:jV (R=V b[k].c):=m (by rw[Aa j];simp[v]);clear m o j;cases iw d b[k].a with
    |none=>
     simp only[Option.map_none,BL];go_wp2;go_ret2;rw[Aa l];exact⟨rfl,q⟩
    |some n=>
     simp only[nM,BL];go_wp2;go_ret2;rw[Aa l];exact⟨rfl,q⟩
   ·have AT:¬(2:Int)<(f:Int):=lc;cases hv:iw d b[k].a with
    |none=>
     have l:jV ((qT (k+1) b).any (SW d)=K):=o (by rw[Aa j,hv];simp[v]);clear m o j hv;simp only[Option.map_none,BL];go_wp2
     go_roundg (Z b-(k+1))
     case measure=>exact qu
     case rel=>exact⟨k+1,ly,lc,rfl,l,q⟩
    |some n=>
     by_cases p:n=f
     .have l:jV ((qT (k+1) b).any (SW d)=K):=o (by rw[Aa j,hv];simp[v,p]);(have CL:((f:Int) !=(n:Int))=K:=by rw[p];simp);(have B0:((f:Int)==(n:Int))=T6:=by rw[p];simp);clear m o j hv;simp only[nM,BL];clear p;go_wp2
      go_roundg (Z b-(k+1))
      case measure=>exact qu
      case rel=>exact⟨k+1,ly,lc,rfl,l,q⟩
     .have l:jV (R=V b[k].c):=m (by rw[Aa j,hv];simp[p]);(have CL:((f:Int) !=(n:Int))=T6:=by simp[bne];omega);have B0:((f:Int)==(n:Int))=K:=sy;clear m o j hv;simp only[nM,BL];go_wp2;go_ret2;rw[Aa l];exact⟨rfl,q⟩
  .have HE:jV (R=Y):=by
    have h:=Aa B;rw[lY lc]at h;show _=_;rw[<-Aa AH,L9 h];rfl
   go_wp2;go_ret2;rw[HE.o];exact⟨rfl,D⟩
def GU(ea:kN L6):kN AY:=ea.flatMap λp=>if p.1.sort==0 then p.1.ts else[]
def Yb{a:kN L6}(b):GU (qT (k+1) a)=GU (qT k a)++(if a[k].1.sort==0 then a[k].1.ts else[]):=by
 unfold GU;rw[lW b,mD];simp
def UB(a):Z (GU a)<=Z (A6 a):=by
 induction a with
 |nil=>simp[GU]
 |cons p l ih=>
  unfold GU A6 at*;simp only[mB,mp];have:Z (if p.1.sort==0 then p.1.ts else[])<=Z (AQ p.1):=by
   by_cases h:(p.1.sort==0)=T6
   .simp[h,AQ,Bk]
   .simp[h]
  omega
def Qf(ea:kN L6)(y:Int):rD:=(GU ea).any λt=>t.v==y
def DD(ea:kN L6)(t:AY):rD:=t.v !=0&& !Qf ea t.v
def bV{h}{c}{g a}(i:Hh h g)(f:Hh (GU c) a):0<Z (g.filter λy=> !Ln a y)↔h.any (DD c)=T6:=by
 rw[List.length_pos_iff_exists_mem,nD];constructor
 .rintro ⟨y,n⟩;obtain⟨p,k⟩:=my.1 n;obtain⟨j,t,m,q⟩:=(i.mem y).1 p;refine⟨t,m,?_⟩;unfold DD Qf;rw[q];have e:((GU c).any λt=>t.v==y)=K:=by
   rw[nU];intro u d o;have:=(f.mem y).2 ⟨j,u,d,by simpa using o⟩;rw[(R7 a y).2 this]at k;cases k
  rw[e];simp[j]
 .rintro ⟨t,r,b⟩;unfold DD Qf at b;simp only[mC,bne_iff_ne,ne_eq,n6,nU]at b;refine⟨t.v,my.2 ⟨(i.mem _).2 ⟨b.1,t,r,rfl⟩,?_⟩⟩;cases e:Ln a t.v with
  |false=>rfl
  |true=>
   obtain⟨_,u,d,l⟩:=(f.mem _).1 ((R7 a _).1 e);exact qr
theorem PW(T I)(c:kN AY)(bt BS A1)(a:kN L6)(w)(ht:kt w bt 215 2 (U T (Z c) I) (Z c) (qS Ar c))(h:Cg w 0 (U BS (Z a) A1) a)(H9:Z a<=1000)(B9:∀p∈a,(p.1.sort==0)=T6->0<Z p.1.ts/\Z p.1.ts<=1000)(HW:Z c<=900000)(B:Z (GU a)<=900000):rE rF 136 #[U T (Z c) I,U BS (Z a) A1] w λe w'=>e=j1 (kx (c.any (DD a)))/\Ac [] w w':=by
 obtain⟨i0,HP,FC,HY,HL⟩:=mW Tryz.zW;have CW:jV (∀m d,Hh c m->Hh (GU a) d->(0<Z _↔c.any _=T6)):=λm d h1 h2=>bV h1 h2
 generalize c.any (DD a)=LB at CW|-;have HT:=Ab ht;have HB:=Ab h;have HO:=Ab B9;have H0:=Ab B;clear ht h B9 B;go_enter func136,ntmps136;go_wp2
 go_loopg [5,10] (Z a) (λgk o i wr=>∃(k:Nat) (b:kN AY) (f:rB) (j:Nat),o=U f (Z b) j/\i=X J k/\k<=Z a/\Z b<=k*1000/\gk=Z a-k/\jV (b=GU (qT k a))/\kt wr w.heap.size 215 2 (U f (Z b) j) (Z b) (qS Ar b)/\jV (Ac [] w wr))
 case atStart=>exact⟨0,[],Y,0,rfl,rfl,lc,ln,rfl,lx,mw _ _ _ _,kR _ _⟩
 case round=>
  obtain⟨k,b,f,j,rfl,rfl,hk,JA,DT,n,R,x⟩:=hrel;have HG:=Ab DT;clear DT;have KA:=x.size;by_cases E:k<Z a
  .have hB:=HB.C x;obtain⟨g,KK,l,z,q,BT,AH,EK,d0,d1,d2,d3,d4,d5,d6,d7,d8⟩:=JL hB k E;obtain⟨rfl,_,rfl⟩:=qX BT;have t:=Ab (Yb E);have A:=Ab (HO a[k] (lV E));rw[AH]at t A;have L:=Ab (Ad EK ((kR [] wr).alloc (Y6 (Za (Ay (l,U z (Z l.ts) q))) 217)));clear hB EK AH;have N:=Ab (x.alloc (Y6 (Za (Ay (l,U z (Z l.ts) q))) 217));have H:=mg R (Y6 (Za (Ay (l,U z (Z l.ts) q))) 217);have AB:w.heap.size<=(wr.alloc (Y6 (Za (Ay (l,U z (Z l.ts) q))) 217)).heap.size:=li;simp only[Ay]at L N H AB;cases hs:(l.sort==0)with
   |false=>
    (have M:jV (b=GU (qT (k+1) a)):=by show _=_;rw[Aa t,Aa n];simp[hs]);clear t n A;go_wp2
    go_roundg (Z a-(k+1))
    case measure=>exact qu
    case rel=>exact⟨k+1,b,f,j,rfl,ly,lc,lc,rfl,M,H,N⟩
   |true=>
    (have M:jV (b++l.ts=GU (qT (k+1) a)):=by show _=_;rw[Aa t,Aa n];simp[hs]);obtain⟨ES,HH⟩:=A hs;simp at ES HH;obtain⟨gl,rfl,HC,A0,_,_⟩:=be L ES;have HR:=Ab A0;(have HF:jV (∀u,(wr.alloc _).grownBy u _->Ac [] w u):=λu hg=>N.grown hg (λk hk=>j3 ((R.lt k hk).1)));clear t n A A0 L;have FA:Z (b++l.ts)<=(k+1)*1000:=li;have H6:k<=1000:=lc;go_wp2_with (at_builtin;refine mE _ rfl (.tmp 17) (.tmp 20) _ rfl w.heap.size 215 i0 _ 2 24 underlying185 HP FC HY HL rfl lc (U f (Z b) j) (Z b) (qS Ar b) rfl H ⟨gl,0,Y⟩ (Z l.ts) q (qS Ar l.ts) rfl HC HR (L1 _) lc lw lc AB _ rfl ?_;intro g1 FT u HM Go H4 E0)
    go_roundg (Z a-(k+1))
    case measure=>exact qu
    case rel=>exact⟨k+1,_,V ⟨g1,0,Y⟩,FT,ln,ly,lc,FA,rfl,M,by simpa using HM,HF u Go⟩
  .have HE:jV (b=GU a):=by
    have h:=Aa n;rw[lY lc]at h;exact h
   (have B:Z b<=900000:=by rw[Aa HE];exact H0);have W:=Ab (Mu T I c bt wr (Ad HT x) HW);clear n;(go_wp2_with fail);refine W.G ?_;rintro e w4 ⟨m,HK,FW,rfl,G,FB,k4⟩;have EY:=Ad R k4;have EM:=Ab (Mu f j b _ w4 EY B);have EX:=Ab (x.H k4);have HS:=Ab G;have E0:=G.le;clear W G;(go_wp2_with fail);refine EM.G ?_;rintro e w5 ⟨d,HV,HN,rfl,C,HD,k5⟩;have FL:=Ad FB k5;have KB:=C.le;have S:=Ab (WY HK FW m HV HN d _ _ w5 FL HD lc lc C.zB);have FP:=Ab (EX.H k5);have Q:=Ab (CW m d HS (by rw[<-Aa HE];exact C));clear EM C;generalize(m.filter λy=> !Ln d y)=F at S Q;(go_wp2_with fail);refine S.G ?_;rintro e w6 ⟨K2,IA,rfl,K1,k6⟩;have AR:=Ab (FP.H k6);clear S;by_cases AT:0<Z F
   ·have P:(0:Int)<Z F:=lc;have D:jV _:=Q.1 AT;go_wp2;go_ret;rw[D.o];exact⟨lx,AR⟩
   ·have P:¬(0:Int)<Z F:=lc;have D:jV (LB=K):=by
     cases hb:LB with
     |false=>rfl
     |true=>exact rl (Q.2 hb) AT
    go_wp2;go_ret;rw[D.o];exact⟨lx,AR⟩
theorem IR(f s)(a:kN L6)(w)(h:Cg w 0 (U f (Z a) s) a)(B0:Z a<=1000)(T:∀p∈a,(p.1.sort==0)=T6->0<Z p.1.ts/\Z p.1.ts<=1000)(L:∀p∈a,Z (AQ p.1)<=1000)(G:Z (GU a)<=900000):rE rF 93 #[U f (Z a) s] w λe u=>e=j1 (BL ((a.find? λp=>(AQ p.1).any (DD a)).map λp=>p.1.c))/\Ac [] w u:=by
 have HB:=Ab h;have CW:=Ab L;have AO:jV (∀(m:rB) (o:Nat) (b:kN AY) (wr:jH),Ac [] w wr->kt wr 0 215 2 (U m (Z b) o) (Z b) (qS Ar b)->Z b<=900000->rE rF 136 #[U m (Z b) o,U f (Z a) s] wr λe u=>e=j1 (kx (b.any (DD a)))/\Ac [] wr u):=λm o b wr M hr hl=>PW m o b 0 f s a wr hr (h.C M) B0 T hl G
 obtain⟨R,E⟩:=kQ ((a.find? λp=>(AQ p.1).any (DD a)).map λp=>p.1.c);rw[E];have AB:=Ab E;clear h L E T G;go_enter func93,ntmps93;go_wp2
 go_loopg [8] (Z a) (λgk i wr=>∃(k:Nat),i=X J k/\k<=Z a/\gk=Z a-k/\jV ((qT k a).any (λp=>(AQ p.1).any (DD a))=K)/\jV (Ac [] w wr))
 case atStart=>exact⟨0,rfl,lc,rfl,se,kR _ _⟩
 case round=>
  obtain⟨k,rfl,M,Q,z,B⟩:=hrel;have HG:=Ab Q;clear Q;by_cases d:k<Z a
  .obtain⟨g,EY,q,l,t,I,c,W,d0,d1,d2,d3,d4,d5,d6,d7,d8⟩:=JL (HB.C B) k d;obtain⟨rfl,_,rfl⟩:=qX I;have C:=Aa CW a[k] (lV d);have n:jV ((AQ q).any (DD a)=T6->R=V q.c):=by
    intro A;rw[<-Aa AB,FV _ _ k d (Aa z) (by rw[c];exact A),c];rfl
   have r:jV ((AQ q).any (DD a)=K->(qT (k+1) a).any (λp=>(AQ p.1).any (DD a))=K):=by
    intro A;rw[Dm _ _ k d (Aa z)];rw[c];exact A
   rw[c]at C;simp only at C;have D:=Ab (Nz q l t (wr.alloc (Y6 (Za (Ay (q,U l (Z q.ts) t))) 217)) (Ad W ((kR [] wr).alloc _)));have hN:=Ab (kS wr (Ay (q,U l (Z q.ts) t)) 217);have AH:=Ab (B.alloc (Y6 (Za (Ay (q,U l (Z q.ts) t))) 217));clear W c;simp only[Ay]at D;(go_wp2_with fail);refine D.G ?_;rintro e w3 ⟨A1,EK,rfl,P,x⟩;have S:=Ab (hN.C x);have H:=Ab (AH.H x);have j:=Ab (AO A1 EK (AQ q) w3 H P lc);clear D P x hN AH d0 d1 d2 d3 d4 d5 d6 d7 d8;generalize(AQ q).any (DD a)=LB at j n r;generalize Z (AQ q)=tl at j C|-;(go_wp2_with fail);refine j.G ?_;rintro e w5 ⟨rfl,y⟩;have v:=S.C y;have N:=Ab (H.H y);clear j y S;cases LB with
   |true=>
    have F:=Ab (n rfl);have c0:=v.D 0;simp[Ay]at c0;clear n r v;go_wp2;go_ret2;rw[Aa F];exact⟨rfl,N⟩
   |false=>
    have F:=Ab (r rfl);clear n r v;go_wp2
    go_roundg (Z a-(k+1))
    case measure=>exact qu
    case rel=>exact⟨k+1,ly,lc,rfl,F,N⟩
  .have HE:jV (R=Y):=by
    have h:=Aa z;rw[lY lc]at h;show _=_;rw[<-Aa AB,L9 h];rfl
   go_wp2;go_ret2;rw[HE.o];exact⟨rfl,B⟩
def Qh(c:CQ)(t:AY):rD:=t.v !=0&& !Qf c.ea t.v
def Iz(c:CQ):Option Int:=if c.zA.any (Qh c)then V c.hp else(c.ea.find? λp=>(AQ p.1).any (Qh c)).map λp=>p.1.c
def Ou{α:Type}{f g}:∀{l:kN α},(∀x∈l,f x=g x)->l.any f=l.any g
 |[],_=>rfl
 |x::l,h=>by rw[pC,pC,h x ln,Ou (λy a=>h y sr)]
def O4{α:Type}{f g}:∀{l:kN α},(∀x∈l,f x=g x)->l.find? f=l.find? g
 |[],_=>rfl
 |x::l,h=>by rw[pd,pd,h x ln,O4 (λy a=>h y sr)]
theorem Qw(c w)(h:JG w 0 c.hv c.bv c.zA c.ea)(f:KY c)(C:Z (Bl c)<=900000):rE rF 120 #[ku (Za (Ba c))] w λe q=>e=j1 (BL (Iz c))/\Ac [] w q:=by
 have o:Z (GU c.ea)<=900000:=by
  have:=UB c.ea;simp only[Bl,mp]at C;omega
 have A:Z c.zA<=900000:=by have:=f.E.2;omega
 have j:∀p∈c.ea,(p.1.sort==0)=T6->0<Z p.1.ts/\Z p.1.ts<=1000:=λp b M=>⟨(f.j p b).1 (by simp[Bk,M]),(f.j p b).2⟩
 have s:∀p∈c.ea,Z (AQ p.1)<=1000:=λp b=>(f.zN b).2
 have v:=f.g;have d:jV (Iz c=if c.zA.any (DD c.ea)then V c.hp else(c.ea.find? λp=>(AQ p.1).any (DD c.ea)).map λp=>p.1.c):=rfl;generalize Iz c=U at d|-;clear f C;obtain⟨b,H,k,R,S,a⟩:=c;simp only at h o A j s v d;obtain⟨x,t,rfl⟩:=Aj h.E;obtain⟨g,i,rfl⟩:=Aj h.body.row;have G:=Ab (kS w [X J b,O H,.slice x (Z k) t,.slice g (Z a) i] 189);have l:=(kR [] w).alloc (Y6 #[X J b,O H,.slice x (Z k) t,.slice g (Z a) i] 189);have n:=Ab (PW x t k 0 g i a _ (Ad h.E l) (h.body.C l) v j A o);have z:jV (∀wr,Ac [] w wr->rE rF 93 #[.slice g (Z a) i] wr λe q=>e=j1 (BL ((a.find? λp=>(AQ p.1).any (DD a)).map λp=>p.1.c))/\Ac [] wr q):=λwr I=>IR g i a wr (h.body.C I) v j s o
 have D:=Ab l;generalize((a.find? λp=>(AQ p.1).any (DD a)).map λp=>p.1.c)=FO at z d;generalize k.any (DD a)=LB at n d;clear h l j s;simp only[Ba];go_enter func120,ntmps120;go_wp2_with fail
 refine n.G ?_;rintro e N ⟨rfl,y⟩;have r:=G.C y;have u:=Ab (D.H y);have P:=r.D 0;have L:=r.D 3;simp at P L;have F:=Ab (z N u);clear n G D y r z;cases LB with
 |true=>
  have m:jV (U=V b):=by have h:=Aa d;exact h
  clear d;go_wp2;go_ret2;rw[Aa m];exact⟨rfl,u⟩
 |false=>
  have m:jV (U=FO):=by have h:=Aa d;exact h
  clear d;go_wp2_with fail
  refine F.G ?_;rintro e Q ⟨rfl,B⟩;have E:=Ab (u.H B);clear F B;cases FO with
  |none=>
   simp only[BL];go_wp2;go_ret2;rw[Aa m];exact⟨rfl,E⟩
  |some p=>
   simp only[BL];go_wp2;go_ret2;rw[Aa m];exact⟨rfl,E⟩
structure Wl(b:Nat)(w w':jH):Prop where
 os:w'.os=w.os
 tape:w'.tape=w.tape
 output:w'.output=w.output
 size:w.heap.size<=w'.heap.size
 block:∀k,k<b->w'.heap[k]?=w.heap[k]?
def Wl.H{b}{u v w}(h:Wl b u v)(k:Wl b v w):Wl b u w:=⟨k.os.H h.os,k.tape.H h.tape,k.output.H h.output,mZ h.size k.size,λi a=>(k.block i a).H (h.block i a)⟩
def Wl.of(k:Ac M w v)(d:b<=w.heap.size)(a:∀i,i∈M->b<=i):Wl b w v:=
 ⟨k.os,k.tape,k.output,k.size,λi c=>k.block i lc (λh=>by have:=a i h;omega)⟩
def Wl.setCell{b}{u w}(h:Wl b u w){p}(a:b<=p.block)(v):Wl b u (w.setCell p v):=
 h.H ⟨rfl,rfl,rfl,ln,λk c=>p7 _ _ _ _ lc⟩
def Wl.C{w w'}(h:Wl b w w')(c:w.heap.size<=b):Ac [] w w':=⟨h.os,h.tape,h.output,h.size,λk a _=>h.block k lc⟩
def Lv(h:kt w m T j z n y)(k:Wl b w u)(c:∀i,z.ownBlock=V i->i<b):kt u m T j z n y:=by
 refine⟨h.1,?_⟩;rcases h.2 with p|⟨g,d,a,rfl,l,f,o⟩
 .exact .inl p
 .refine .inr ⟨g,d,a,rfl,l,?_,o⟩;rw[k.block g (c g rfl)];exact f
structure gY(w:jH)(b:Nat)(c:CQ):Prop where
 e:JG w 0 c.hv c.bv c.zA c.ea
 lt1:∀k,c.hv.ownBlock=V k->k<b
 lt2:∀k,c.bv.ownBlock=V k->k<b
 lt3:∀p∈c.ea,∀k,p.2.ownBlock=V k->k<b
def gY.low{c}(h:gY w b c)(k:Wl b w v):gY v b c:=
 ⟨⟨Lv h.e.E k h.lt1,⟨Lv h.e.body.row k h.lt2,λp a=>⟨Lv (h.e.body.j p a).1 k (h.lt3 p a),(h.e.body.j p a).2⟩⟩⟩,h.lt1,h.lt2,h.lt3⟩
structure Fl(w:jH)(b:Nat)(n:Int)(nv tv:jR)(names dN:kN bN):Prop where
 zJ:AF w b [X J n,nv,tv] 210
 rn:kt w (b+1) 9 1 nv (Z names) (qS Ai names)
 rt:kt w (b+1) 170 1 tv (Z dN) (qS Ai dN)
 ant:Cd nv tv
 rin:C3 Hn names
 rit:C3 Hn dN
def Fl.C{w w'}{b}{n}{a c}{e d}(h:Fl w b n a c e d)(k:Ac [] w w'):Fl w' b n a c e d:=
 ⟨h.zJ.C k,Ad h.rn k,Ad h.rt k,h.ant,h.rin,h.rit⟩
def Cd.symm{u v}(h:Cd u v):Cd v u:=λk b a=>h k a b
theorem S6(b)(n:Nat)(q m c a w)(h:Fl w b n q m c a):rE rF 117 #[.pointer (V ⟨b,0,Y⟩)] w λe l=>e=j1 (kx (decide (12<n)||decide (6<Z c)||decide (6<Z a)))/\l=w:=by
 obtain⟨u,y,rfl⟩:=Aj h.rn;obtain⟨x,v,rfl⟩:=Aj h.rt;have t:=h.zJ.D 0;have o:=h.zJ.D 1;have p:=h.zJ.D 2;simp at t o p;clear h;obtain⟨f,i⟩:=kQ (decide (12<n)||decide (6<Z c)||decide (6<Z a));rw[i];have g:=Ab i;clear i;by_cases k:12<n
 .have s:(12:Int)<(n:Int):=by omega
  have d:jV (f=T6):=by show _=_;rw[<-Aa g];simp[k]
  go_enter func117,ntmps117;go_wp2;go_ret;rw[Aa d];exact⟨ln,rfl⟩
 .have s:¬(12:Int)<(n:Int):=by omega
  by_cases j:6<Z c
  ·have r:(6:Int)<(Z c:Int):=lc;(have d:jV (f=T6):=by show _=_;rw[<-Aa g];simp[j]);go_enter func117,ntmps117;go_wp2;go_ret;rw[Aa d];exact⟨ln,rfl⟩
  ·have r:¬(6:Int)<(Z c:Int):=lc;have d:jV (f=decide ((6:Int)<(Z a:Int))):=by
    show _=_;rw[<-Aa g];have e:decide ((6:Int)<(Z a:Int))=decide (6<Z a):=by
     by_cases h:6<Z a
     ·(have:(6:Int)<(Z a:Int):=by omega);simp[h,this]
     ·(have:¬(6:Int)<(Z a:Int):=by omega);simp[h,this]
    rw[e];simp[k,j]
   go_enter func117,ntmps117;go_wp2;go_ret;rw[Aa d];exact⟨ln,rfl⟩
def Fl.setN{n m}{a c}{f g}(h:Fl w b n a c f g):Fl (w.setCell ⟨b,0,Y⟩ (X J m)) b m a c f g:=by
 have d:∀{e:TypeId} {i:Nat} {v:jR} {k:Nat} {j:kN jR},kt w (b+1) e i v k j->v.ownBlock≠V b:=λh e=>by have:=(h.lt b e).1;omega
 exact⟨h.zJ.set 0 _,Ah h.rn (p:=⟨b,0,Y⟩) (d h.rn) _,Ah h.rt (p:=⟨b,0,Y⟩) (d h.rt) _,h.ant,h.rin,h.rit⟩
def TF{v b u}(f:kt w n T m u k y)(d:Cd v u)(g:∀q,b.ownBlock=V q->v.ownBlock=V q\/w.heap.size<=q):Cd b u:=λq c a=>by
 rcases g q c with h|h
 .exact d q h a
 .have:=(f.lt q a).2;omega
def Fl.names{w a}{b}{n}{c g}{x t}(h:Fl w b n c g x t){f}{d:kN bN}(o:Ac (qV (qW c)) w a)(r:kt a (b+1) 9 1 f (Z d) (qS Ai d))(B:∀q,f.ownBlock=V q->c.ownBlock=V q\/w.heap.size<=q)(y:C3 Hn d):
  Fl (a.setCell ⟨b,1,Y⟩ f) b n f g d t/\jY a ⟨b,1,Y⟩=V c/\a.frozen? ⟨b,1,Y⟩=K:=by
 have l:∀{w:jH} {e:TypeId} {u:Nat} {v:jR} {k:Nat} {z:kN jR},kt w (b+1) e u v k z->v.ownBlock≠V b:=λh e=>by have:=(h.lt b e).1;omega
 have m:=h.zJ.C o (λj=>l h.rn (by simpa using j));have s:=Ag h.rt o (λi A j=>h.ant i (by simpa using j) A);exact⟨⟨m.set 1 _,Ah r (p:=⟨b,1,Y⟩) (l r) _,Ah s (p:=⟨b,1,Y⟩) (l s) _,TF h.rt h.ant B,y,h.rit⟩,m.D 1,m.qI 1⟩
def Fl.dN{w a}{b}{n}{g c}{s A}(h:Fl w b n g c s A){d}{f:kN bN}(o:Ac (qV (qW c)) w a)(r:kt a (b+1) 170 1 d (Z f) (qS Ai f))(y:∀q,d.ownBlock=V q->c.ownBlock=V q\/w.heap.size<=q)(x:C3 Hn f):
  Fl (a.setCell ⟨b,2,Y⟩ d) b n g d s f/\jY a ⟨b,2,Y⟩=V c/\a.frozen? ⟨b,2,Y⟩=K:=by
 have l:∀{w:jH} {e:TypeId} {u:Nat} {v:jR} {k:Nat} {z:kN jR},kt w (b+1) e u v k z->v.ownBlock≠V b:=λh e=>by have:=(h.lt b e).1;omega
 have m:=h.zJ.C o (λj=>l h.rt (by simpa using j));have t:=Ag h.rn o (λi B j=>h.ant i B (by simpa using j));exact⟨⟨m.set 2 _,Ah t (p:=⟨b,2,Y⟩) (l t) _,Ah r (p:=⟨b,2,Y⟩) (l r) _,(TF h.rn h.ant.symm y).symm,h.rin,x⟩,m.D 2,m.qI 2⟩
def Fl.yC{c d}{e f}(h:Fl w b I c d e f):(∀i,i∈qV (qW c)->b<=i)/\(∀i,i∈qV (qW d)->b<=i):=
 ⟨λi a=>by have:=(h.rn.lt i sA).1;omega,λi a=>by have:=(h.rt.lt i sA).1;omega⟩
def Wl.drew{b}{u w}(h:Wl b u w):Wl b u w.drew:=⟨h.os,h.tape,h.output,h.size,h.block⟩
def Fl.drew{w}{b}{n}{a c}{e d}(h:Fl w b n a c e d):Fl w.drew b n a c e d:=h.C (kR [] w).drew
structure jf(M:kN Nat)(b N:Nat)(cs:kN jR)(u w':jH)(i:Nat)(old new:jR)(n:Int)(nv tv:jR)(names dN:kN bN):Prop where
 D:jY w' ⟨b,i,Y⟩=V old
 qI:w'.frozen? ⟨b,i,Y⟩=K
 cen:Fl (w'.setCell ⟨b,i,Y⟩ new) b n nv tv names dN
 low:Ac M u (w'.setCell ⟨b,i,Y⟩ new)
 box:AF (w'.setCell ⟨b,i,Y⟩ new) N cs 189
def Fo(ts:kN AY)(l l':kN bN):Prop:=∀y,y∈l'↔(∃t∈ts,t.v=0/\t.s=y)\/y∈l
structure IK(base:Nat)(lv:jR)(l:kN bN)(ts:kN AY)(w:jH)(l':kN bN)(ad':rB)(cp':Nat)(w':jH):Prop where
 zB:C3 Hn l'
 mem:Fo ts l l'
 le:Z l'<=Z l+Z ts
 own:kt w' base 170 1 (U ad' (Z l') cp') (Z l') (qS Ai l')
 C:Ac (qV (qW lv)) w w'
 new:∀k,(U ad' (Z l') cp').ownBlock=V k->lv.ownBlock=V k\/w.heap.size<=k
def Fo.skip{l d}{c:kN AY}(e)(f:c[k].v≠0)(h:Fo (qT k c) l d):Fo (qT (k+1) c) l d:=by
 intro y;rw[h y,lW e];constructor
 .rintro (⟨t,a,b⟩|a)
  .exact j2 ⟨t,nP _ a,b⟩
  .exact j3 a
 .rintro (⟨t,a,b⟩|a)
  .rcases mi.1 a with a|a
   .exact j2 ⟨t,a,b⟩
   exact qr
  .exact j3 a
def Fo.take{l d e}{b:kN AY}{k}(f)(i:b[k].v=0)(h:Fo (qT k b) l d)(g:∀y,y∈e↔y=b[k].s\/y∈d):Fo (qT (k+1) b) l e:=by
 intro y;rw[g,h y,lW f];constructor
 .rintro (a|⟨t,a,c⟩|a)
  .exact j2 ⟨b[k],rz _ (lX.2 rfl),i,a.symm⟩
  .exact j2 ⟨t,nP _ a,c⟩
  .exact j3 a
 .rintro (⟨t,a,c⟩|a)
  .rcases mi.1 a with a|a
   .exact j3 (j2 ⟨t,a,c⟩)
   exact qr
  .exact j3 (j3 a)
theorem Mw(c f j)(l:kN bN)(n w)(h:JG w 0 c.hv c.bv c.zA c.ea)(hf:KY c)(hT:Z (Bl c)<=90000)(hl:kt w n 170 1 (U f (Z l) j) (Z l) (qS Ai l))(HF:Z l<=900000)(hr:C3 Hn l)(FW:n<=w.heap.size):rE rF 148 #[U f (Z l) j,ku (Za (Ba c))] w λe w'=>∃W B9 A0,e=j1 (U B9 (Z W) A0)/\IK n (U f (Z l) j) l (Bl c) w W B9 A0 w':=by
 have z:=Ab (Rx c (w.alloc (Y6 (Za (Ba c)) 189)) (h.C ((kR [] w).alloc _)) hf);generalize Bl c=TV at z hT|-;obtain⟨hp,hn,HD,N,bv,FT⟩:=c;simp at h;obtain⟨HK,FL,rfl⟩:=Aj h.E;obtain⟨HB,Ha,rfl⟩:=Aj h.body.row;have HL:=Ab hl;have FB:=Ab hr;clear h hl hr hf;simp only[Ba]at z|-;go_enter func148,ntmps148;go_wp2_with fail
 refine z.G ?_;rintro e r ⟨FA,S,rfl,BT,E⟩;have P:jV _:=((kR [] w).alloc _).H E;have FP:w.heap.size+1<=r.heap.size:=by have:=E.size;simpa using this
 have HO:=Ab (Ak BT (ln:w.heap.size<=_));clear z BT E;go_wp2
 go_loopg [0,10] (Z TV) (λgk o i wr=>∃(k:Nat) (m:kN bN) (b:rB) (d:Nat),o=U b (Z m) d/\i=X J k/\k<=Z TV/\gk=Z TV-k/\Z m<=Z l+k/\jV (IK n (U f (Z l) j) l (qT k TV) w m b d wr)/\jV (kt wr w.heap.size 215 2 (U FA (Z TV) S) (Z TV) (qS Ar TV))/\jV (∀q,(U b (Z m) d).ownBlock=V q->(U f (Z l) j).ownBlock=V q\/r.heap.size<=q)/\r.heap.size<=wr.heap.size)
 case atStart=>exact⟨0,l,f,j,rfl,rfl,lc,rfl,lc,⟨FB,λy=>ln,lc,Ad HL P,P.G ln,λk hk=>j2 hk⟩,HO,λq u=>j2 u,lc⟩
 case round=>
  clear P;obtain⟨k,m,b,d,rfl,rfl,hk,B2,Go,p,x,B,FF⟩:=hrel;have HG:=Ab B2;clear B2;by_cases F:k<Z TV
  .obtain⟨g,FO,he,d0,d1⟩:=Fw x k F;obtain⟨rfl,_,rfl⟩:=qX he;have D:Ac [] wr (wr.alloc (Y6 #[X kw TV[k].v,O TV[k].s] 215)):=(kR [] wr).alloc _;have T:=Ab (Ad x D);have AR:r.heap.size<=(wr.alloc (Y6 #[X kw TV[k].v,O TV[k].s] 215)).heap.size:=li;cases N:(TV[k].v==0)with
   |false=>
    (have t:TV[k].v≠0:=by simpa using N);have C:jV (IK n (U f (Z l) j) l (qT (k+1) TV) w m b d (wr.alloc (Y6 #[X kw TV[k].v,O TV[k].s] 215))):=by
     have a:=Aa p;refine⟨a.zB,a.mem.skip F t,?_,mg a.own _,a.C.alloc _,a.new⟩;have:=a.le;simp only[mT]at this|-;omega
    clear p x D t;go_wp2
    go_roundg (Z TV-(k+1))
    case measure=>exact qu
    case rel=>exact⟨k+1,m,b,d,rfl,ly,lc,rfl,lc,C,T,B,AR⟩
   |true=>
    (have t:TV[k].v=0:=by simpa using N);have HZ:=Ab t;have BA:=Ab (XJ b d m TV[k].s n (wr.alloc (Y6 #[X kw TV[k].v,O TV[k].s] 215)) (mg p.own _) lc p.zB li);clear t D;(go_wp2_with fail);refine BA.G ?_;rintro e A ⟨R,L,I,rfl,q1,q2,q3,q4,q5,H,G⟩;have Q:=((kR _ wr).alloc _).H H;(have HC:wr.heap.size+1<=A.heap.size:=by have:=H.size;simpa using this);have C:jV (IK n (U f (Z l) j) l (qT (k+1) TV) w R L I A):=by
     have a:=Aa p;refine⟨q1,a.mem.take F HZ q2,?_,q5,a.C.trans' Q (λi M=>?_),λq u=>?_⟩
     .have:=a.le;simp only[mT]at this|-;omega
     .rcases a.new i (by simpa using M)with h|h
      .exact j2 (by simp[h])
      .exact j3 h
     .rcases G q u with h|h
      .exact a.new q h
      .exact j3 lc
    have EY:jV (kt A w.heap.size 215 2 (U (V ⟨g,0,Y⟩) (Z TV) S) (Z TV) (qS Ar TV)):=by
     refine Ag x Q (λi M hm=>?_);have h1:=(HO.lt i M);rcases B i sC with h|h
     .have:=(HL.lt i h).2;omega
     .omega
    have ES:jV (∀q,(U L (Z R) I).ownBlock=V q->(U f (Z l) j).ownBlock=V q\/r.heap.size<=q):=by
     intro q u;rcases G q u with h|h
     .exact B q h
     .exact j3 lc
    clear BA q1 q2 q3 q5 H G Q p x T AR B d0 d1;go_wp2
    go_roundg (Z TV-(k+1))
    case measure=>exact qu
    case rel=>exact⟨k+1,R,L,I,rfl,ly,lc,rfl,lc,C,EY,ES,lc⟩
  .have HE:jV (IK n (U f (Z l) j) l TV w m b d wr):=by
    have h:=Aa p;rw[lY lc]at h;exact h
   go_wp2;go_ret;exact⟨m,b,d,rfl,HE⟩
theorem cG(b)(n:Nat)(nv tv r q c w)(h:Fl w b n nv tv r q)(hc:gY w b c)(hf:KY c)(hT:Z (Bl c)<=90000)(hn:n<=1000)(HY:Z r<=800000)(H6:Z q<=800000):rE rF 116 #[.pointer (V ⟨b,0,Y⟩),ku (Za (Ba c))] w λe g=>e=j1 (.tuple #[])/\∃HN HQ FB ES,Fl g b ((n+1:Nat):Int) HN HQ FB ES/\(∀y,y∈FB↔y∈Cq c\/y∈r)/\Fo (Bl c) q ES/\Z FB<=Z r+1001/\Z ES<=Z q+90000/\Ac (b::(qV (qW nv)++qV (qW tv))) w g:=by
 have H2:=h.zJ.lt;obtain⟨S,R,rfl⟩:=Aj h.rn;obtain⟨I,G,rfl⟩:=Aj h.rt;obtain⟨M,BT⟩:=kQ (b::(qV (qW (U S (Z r) R))++qV (qW (U I (Z q) G))));rw[BT];have T:jV (b∈M/\(∀i,i∈qV (qW (U S (Z r) R))->i∈M)/\(∀i,i∈qV (qW (U I (Z q) G))->i∈M)):=by
  rw[<-BT];exact⟨ln,λi f=>by simp only[l9,mi];exact j3 (j2 f),λi f=>by simp only[l9,mi];exact j3 (j3 f)⟩
 have HF:jV (∀wr,Ac M w wr->Wl b w wr):=by
  intro wr W;refine Wl.of W lc (λi f=>?_);rw[<-BT]at f;simp only[l9,mi]at f;rcases f with f|f|f
  .omega
  .exact h.yC.1 i f
  .exact h.yC.2 i f
 clear BT;have AR:jV (∀wr A C l,Wl b w wr->kt wr (b+1) 170 1 (U A (Z l) C) (Z l) (qS Ai l)->Z l<=900000->C3 Hn l->b+1<=wr.heap.size->rE rF 148 #[U A (Z l) C,ku (Za (Ba c))] wr λe g=>∃a k j,e=j1 (U k (Z a) j)/\IK (b+1) (U A (Z l) C) l (Bl c) wr a k j g):=λwr A C l W h1 h2 h3 h4=>Mw c A C l (b+1) wr (hc.low W).e hf hT h1 h2 h3 h4
 have DT:jV (∀wr A C l,Wl b w wr->kt wr (b+1) 9 1 (U A (Z l) C) (Z l) (qS Ai l)->Z l<=900000->C3 Hn l->b+1<=wr.heap.size->rE rF 164 #[U A (Z l) C,ku (Za (Ba c))] wr λe g=>∃a k j,e=j1 (U k (Z a) j)/\OT (b+1) (U A (Z l) C) l (Cq c) wr a k j g):=λwr A C l W h1 h2 h3 h4=>NT c A C l (b+1) wr (hc.low W).e hf.g h1 h2 h3 h4
 have HB:jV (Z (Cq c)<=1001):=by
  show _<=_;have:=hf.g;have h2:=nL (λp=>Bk p.1) c.ea;simp only[Cq,GH,mn,mh];omega
 generalize Bl c=TV at AR hT|-;generalize Cq c=NV at DT HB|-;obtain⟨D,v,B,hv,bv,t⟩:=c;have CC:=hc.e;clear hc hf;simp only at CC;obtain⟨E,s,rfl⟩:=Aj CC.E;obtain⟨z,x,rfl⟩:=Aj CC.body.row;clear CC;simp only[Ba]at AR DT|-;have c0:=h.zJ.D 0;have cf:=h.zJ.qI;have d0:=λo=>(h.zJ.alloc o).D 0
 have df:=λo=>(h.zJ.alloc o).qI
 simp at c0 d0;have q1:¬b=w.heap.size:=lc
 have q2:¬w.heap.size=b:=lc
 have H0:=Ab h;clear h;go_enter func116,ntmps116;go_wp2_with fail
 obtain⟨N,AB⟩:=kQ w.heap.size;have H1:b<N:=lc
 have H:jV (AF ((w.setCell ⟨b,0,Y⟩ (X J ((n:Int)+1))).alloc (Y6 #[X J D,O v,U E (Z B) s,U z (Z t) x] 189)) N [X J D,O v,U E (Z B) s,U z (Z t) x] 189):=by
  have hh:=kS (w.setCell ⟨b,0,Y⟩ (X J ((n:Int)+1))) [X J D,O v,U E (Z B) s,U z (Z t) x] 189;rw[show(w.setCell ⟨b,0,Y⟩ (X J ((n:Int)+1))).heap.size=N from by simp[AB]]at hh
  exact hh
 have F:=Ab ((H0.setN (m:=(n:Int)+1)).C ((kR [] _).alloc (Y6 #[X J D,O v,U E (Z B) s,U z (Z t) x] 189)));have BS:jV (Ac M w ((w.setCell ⟨b,0,Y⟩ (X J ((n:Int)+1))).alloc (Y6 #[X J D,O v,U E (Z B) s,U z (Z t) x] 189))):=((kR M w).setCell (p:=⟨b,0,Y⟩) (j2 T.1) _).alloc _;have HO:jV ((U S (Z r) R).ownBlock≠V N/\(U I (Z q) G).ownBlock≠V N):=⟨λe=>by have:=(H0.rn.lt _ e).2;omega,λe=>by have:=(H0.rt.lt _ e).2;omega⟩;have HT:N+1<=((w.setCell ⟨b,0,Y⟩ (X J ((n:Int)+1))).alloc (Y6 #[X J D,O v,U E (Z B) s,U z (Z t) x] 189)).heap.size:=by simp[AB]
 clear c0 cf d0 df q1 q2 H0;change Code.wp _ _ _ _ ((w.setCell ⟨b,0,Y⟩ (X J ((n:Int)+1))).alloc (Y6 #[X J D,O v,U E (Z B) s,U z (Z t) x] 189));generalize(w.setCell ⟨b,0,Y⟩ (X J ((n:Int)+1))).alloc (Y6 #[X J D,O v,U E (Z B) s,U z (Z t) x] 189)=w1 at H F BS HT|-;rw[AB];have H4:=Ab AB;clear AB;have Df:jV (rE rF 164 #[U S (Z r) R,ku #[X J D,O v,U E (Z B) s,U z (Z t) x]] w1.drew λe g=>∃a k j,e=j1 (U k (Z a) j)/\jf M b N [X J D,O v,U E (Z B) s,U z (Z t) x] w g 1 (U S (Z r) R) (U k (Z a) j) ((n:Int)+1) (U k (Z a) j) (U I (Z q) G) a q/\(∀y,y∈a↔y∈NV\/y∈r)/\Z a<=Z r+1001/\N+1<=g.heap.size):=by
  refine(DT w1.drew S R r (HF _ BS.drew) F.drew.rn lc F.rin (by show b+1<=w1.heap.size;omega)).G ?_;rintro e g ⟨a,k,j,rfl,d⟩;obtain⟨EY,E0,FF⟩:=F.drew.names d.C d.own d.new d.zB;have HX:=F.drew.yC.1;refine⟨a,k,j,rfl,⟨E0,FF,EY,?_,?_⟩,d.mem,by have:=d.le;have:=Aa HB;omega,by have:=d.C.size;have h2:w1.drew.heap.size=w1.heap.size:=rfl;omega⟩
  .exact(BS.drew.trans' d.C (λi f=>j2 (T.2.1 i f))).setCell (p:=⟨b,1,Y⟩) (j2 T.1) _
  .exact(H.drew.C d.C (λhm=>HO.1 sC)).bW ⟨b,1,Y⟩ li _
 have e1:=F.zJ.D 1;obtain⟨b0,b1,b2,b3⟩:=H.c4;simp at e1 b0 b1 b2 b3;clear DT F BS H
 go_region_law
  (go_simp;go_at_call 164;refine Df.G ?_;rintro e wt ⟨a,k,j,rfl,A2,HC,HI,HJ⟩;have HD:=A2.D;have Go:=A2.qI;have EM:=Ab A2;clear A2)
 all_goals
  have BA:=Ab EM.cen;have B2:=Ab EM.low;have Q:=Ab EM.box;have HM:N+1<=(wt.setCell ⟨b,1,Y⟩ (U k (Z a) j)).heap.size:=li
  have HK:=Ab HC;clear EM HD Go Df HC e1 b0 b1 b2 b3 HJ;generalize wt.setCell ⟨b,1,Y⟩ (U k (Z a) j)=w2 at BA B2 Q HM|-;obtain⟨b0,b1,b2,b3⟩:=Q.c4;simp at b0 b1 b2 b3;have e2:=BA.zJ.D 2;simp at e2;have HE:jV (rE rF 148 #[U I (Z q) G,ku #[X J D,O v,U E (Z B) s,U z (Z t) x]] w2.drew λe g=>∃u P L,e=j1 (U P (Z u) L)/\jY g ⟨b,2,Y⟩=V (U I (Z q) G)/\g.frozen? ⟨b,2,Y⟩=K/\Fl (g.setCell ⟨b,2,Y⟩ (U P (Z u) L)) b ((n:Int)+1) (U k (Z a) j) (U P (Z u) L) a u/\Fo TV q u/\Z u<=Z q+90000/\Ac M w (g.setCell ⟨b,2,Y⟩ (U P (Z u) L))):=by
   have FA:=BA.drew;refine(AR w2.drew I G q (HF _ B2.drew) FA.rt lc FA.rit (by show b+1<=w2.heap.size;omega)).G ?_;rintro e g ⟨u,P,L,rfl,d⟩;obtain⟨EY,E0,FF⟩:=FA.dN d.C d.own d.new d.zB;refine⟨u,P,L,rfl,E0,FF,EY,d.mem,by have:=d.le;omega,?_⟩;exact(B2.drew.trans' d.C (λi f=>j2 (T.2.2 i f))).setCell (p:=⟨b,2,Y⟩) (j2 T.1) _
  clear AR BA B2 Q;go_wp2_with fail
  go_region_law
   (go_simp;go_at_call 148;refine HE.G ?_;rintro e H5 ⟨u,P,L,rfl,HD,Go,r1,r2,r3,r4⟩;have HL:=Ab (And.intro r1 (And.intro r2 (And.intro r3 r4)));clear r1 r2 r3 r4)
  all_goals
   clear HE;(go_wp2_with fail);go_end0;obtain⟨r1,r2,r3,r4⟩:=HL;exact⟨rfl,_,_,a,u,r1,HK,r2,HI,r3,r4⟩
def jm(cs:kN CQ)(S:bN->Prop):Prop:=∀c∈cs,S c.hn->∀y∈Cq c,S y
def Iq(cs:kN CQ)(x y:bN):Prop:=∀S:bN->Prop,S x->jm cs S->S y
structure ZU(cs:kN CQ)(x:bN)(l:kN bN):Prop where
 zB:C3 Hn l
 iff:∀y,y∈l↔Iq cs x y
def MQ{α:Type} [DecidableEq α]:∀(l b:kN α),l.Nodup->(∀y∈l,y∈b)->Z l<=Z b
 |[],_,_,_=>mr _
 |a::t,b,hn,hs=>by
  rw[od]at hn;have c:=hs a ln;have ih:=MQ t (b.erase a) hn.2 (λy d=>(List.mem_erase_of_ne (λe=>hn.1 (by rw[<-e];exact d))).2 (hs y sn));have g:=List.length_erase_of_mem c;have f:=List.length_pos_of_mem c;exact li
def WR{l a:kN bN}(d:C3 Hn l)(e:∀y∈l,y∈a)(f:Z a=Z l):∀y∈a,y∈l:=by
 intro y c;by_cases h:y∈l
 .exact h
 .have:=MQ _ a (od.2 ⟨h,d.nodup Jj⟩) (λz b=>by
   rcases l9.1 b with rfl|b
   .exact c
   .exact e z b)
  simp at this;omega
theorem WH(FO EY)(a:kN CQ)(x:bN)(w)(h:CA w (U FO (Z a) EY) a)(H7:Z a<=1000)(hf:∀c∈a,Z c.ea<=1000)(hU:Z (qS Cq a)<=800000):rE rF 122 #[U FO (Z a) EY,O x] w λe w'=>∃l v A,e=j1 (U v (Z l) A)/\ZU a x l/\Z l<=800001/\kt w' w.heap.size 9 1 (U v (Z l) A) (Z l) (qS Ai l)/\Ac [] w w':=by
 have HP:=Ab h;have H3:=Ab hf;clear h hf;have FF:jV (∀l:kN bN,C3 Hn l->(∀y∈l,Iq a x y)->Z l<=1+Z (qS Cq a)):=by
  intro l hr hs;have:=MQ l _ (hr.nodup Jj) (λy d=>by
   refine hs y d (λz=>z∈x::qS Cq a) ln (λc b _ z hz=>?_)
   exact mP _ (mH.2 ⟨c,b,hz⟩))
  simp only[mn]at this;omega
 obtain⟨u,E0⟩:=kQ (Z (qS Cq a));rw[E0]at hU FF;clear E0;have EM:kt _ _ 9 1 _ 1 (qS Ai [x]):=⟨rfl,j3 ⟨_,1,_,rfl,mt _,kS w [O x] 9,mt _,lw,rfl,rfl⟩⟩;have B9:=(kR [] w).alloc (Y6 #[O x] 9);have AB:=Ab EM;have A1:=Ab B9;clear EM B9;go_enter func122,ntmps122;go_wp2;change Code.wp _ _ _ _ (w.alloc (Y6 #[O x] 9));generalize w.alloc (Y6 #[O x] 9)=w1 at AB A1|-
 go_loopg [5] (u+2-1) (λgk o wr=>∃(l:kN bN) (v:rB) (A:Nat),o=U v (Z l) A/\gk=u+2-Z l/\Z l<=u+1/\jV (C3 Hn l)/\jV (x∈l)/\jV (∀y∈l,Iq a x y)/\jV (kt wr w.heap.size 9 1 (U v (Z l) A) (Z l) (qS Ai l))/\jV (Ac [] w wr))
 case atStart=>exact⟨[x],_,_,rfl,rfl,ln,λi j hi hj IA=>by simp at hi hj;omega,by simp[jV],λy d S P h2=>qr,AB,A1⟩
 case round=>
  clear AB A1;obtain⟨l,v,A,rfl,FC,Go,HT,HX,HU,FT,HK⟩:=hrel;have HG:=Ab FC;clear FC;go_wp2
  go_loopg [5,15] (Z a) (λH1 o i BS=>∃(k:Nat) (m:kN bN) (t:rB) (s:Nat),o=U t (Z m) s/\i=X J k/\k<=Z a/\H1=Z a-k/\Z l<=Z m/\Z m<=u+1/\jV (C3 Hn m)/\jV (∀y∈l,y∈m)/\jV (∀y∈m,Iq a x y)/\jV (Z m=Z l->∀c∈qT k a,c.hn∈m->∀y∈Cq c,y∈m)/\jV (kt BS w.heap.size 9 1 (U t (Z m) s) (Z m) (qS Ai m))/\jV (Ac [] w BS))
  case atStart=>exact⟨0,l,v,A,rfl,rfl,lc,rfl,lc,Go,HT,λy d=>d,HU,λ_ c b=>by simp at b,FT,HK⟩
  case round=>
   obtain⟨k,m,t,s,rfl,rfl,hk,CC,HF,DT,C,M,E,Q,W,N⟩:=hrel;have EK:=Ab CC;clear CC;by_cases L:k<Z a
   .have AR:=HP.C N;obtain⟨g,KB,H,f,q,I,D,G,F,p,he,T,d0,d1,d2,d3⟩:=Fs AR k L;obtain⟨rfl,_,rfl⟩:=qX he;have Jx:=N.size;have B0:=Ab (AR.j _ (lV L));have A2:=Aa H3 _ (lV L);have BT:jV (∀c,c∈qT (k+1) a↔c∈qT k a\/c=⟨H,f,q,U I (Z q) D,U G (Z p) F,p⟩):=by
     intro c;rw[lW L,T,mi,lX]
    (have H0:jV (⟨H,f,q,U I (Z q) D,U G (Z p) F,p⟩∈a):=by rw[<-T];exact lV L);rw[T]at B0 A2;simp at A2;clear AR T;have AT:=Ab (N.alloc (Y6 #[X J H,O f,U I (Z q) D,U G (Z p) F] 189));have R:=Ab (mg W (Y6 #[X J H,O f,U I (Z q) D,U G (Z p) F] 189));have FL:=Ab (Ul t s m f _ _ R lc C);(go_wp2_with fail);refine FL.G ?_;rintro e w4 ⟨rfl,FW⟩;subst FW;clear FL;cases hh:Jo m f with
    |false=>
     have Bx:jV (Z m=Z l->∀c∈qT (k+1) a,c.hn∈m->∀y∈Cq c,y∈m):=by
      intro hl c b B;rcases(BT c).1 b with b|b
      .exact Q hl c b B
      .subst b;rw[(G4 m f).2 B]at hh;cases hh
     clear hh Q;go_wp2
     go_roundg (Z a-(k+1))
     case measure=>exact qu
     case rel=>exact⟨k+1,m,t,s,rfl,ly,lc,rfl,HF,DT,C,M,E,Bx,R,AT⟩
    |true=>
     have CW:jV _:=(G4 m f).1 hh;have BA:=Ab (NT ⟨H,f,q,_,_,p⟩ t s m _ _ ((Aa B0).C ((kR [] wr).alloc _)) A2 (Aa R) lc (Aa C) li);simp only[Ba]at BA;clear hh;(go_wp2_with fail);refine BA.G ?_;rintro e w5 ⟨r,HV,HQ,rfl,n⟩;have B2:=AT.trans' n.C (λi hi=>j3 ((R.lt i (by simpa using hi)).1));have AO:∀y∈r,Iq a x y:=by
      intro y d;rcases(n.mem y).1 d with P|P
      .intro S hS hC;exact hC _ H0 (E _ CW S hS hC) y P
      .exact E y P
     (have Ax:∀y∈m,y∈r:=λy d=>(n.mem y).2 (j3 d));have Bx:jV (Z r=Z l->∀c∈qT (k+1) a,c.hn∈r->∀y∈Cq c,y∈r):=by
      intro hl c b B y d;have KA:=n.ge;have HR:=WR C Ax lc;rcases(BT c).1 b with b|b
      .exact Ax y (Q lc c b (HR _ B) y d)
      .subst b;exact(n.mem y).2 (j2 d)
     (have Ha:Z l<=Z r:=by have:=n.ge;omega);have H9:=Aa FF r n.zB AO;have HH:=Ab AO;(have HC:jV _:=λy d=>Ax y (M y d));have HY:=Ab n.zB;have HB:=Ab n.own;have HS:=Ab B2;clear BA n B2 AO Ax Q E M C W R AT CW;go_wp2
     go_roundg (Z a-(k+1))
     case measure=>exact qu
     case rel=>exact⟨k+1,r,HV,HQ,rfl,ly,lc,rfl,Ha,lc,HY,HC,HH,Bx,HB,HS⟩
   .by_cases HI:Z m=Z l
    .have HE:jV (ZU a x m):=by
      refine⟨C,λy=>⟨E y,λd=>?_⟩⟩;refine d (λz=>z∈m) (M x HX) (λc b B z hz=>?_);have h:=Aa Q HI;rw[lY lc]at h;exact h c b B z hz
     go_wp2;go_ret;exact⟨m,t,s,rfl,HE,lc,W,N⟩
    ·have HO:¬(Z m:Int)=Z l:=lc;have HW:jV _:=M x HX;go_wp2
     go_roundg (u+2-Z m)
     case measure=>exact qu
     case rel=>exact⟨m,t,s,rfl,rfl,DT,C,HW,E,W,N⟩
def Nm(f:bN->bN->rD)(hn:bN)(p:L6):rD:=p.1.sort==1&&f p.1.an hn
def L4(f:bN->bN->rD)(c:CQ):Option Int:=(c.ea.find? (Nm f c.hn)).map λp=>p.1.c
def P5(f:bN->bN->rD)(cs:kN CQ):Option Int:=cs.findSome? (L4 f)
def SK{α β:Type}(f)(l:kN α)(k a)(h:∀c∈qT k l,f c=Y){b:β}(d:f l[k]=V b):l.findSome? f=V b:=by
 conv=>lhs;rw[<-ni k l]
 rw[pM];have:(qT k l).findSome? f=Y:=li
 rw[this,mu a,pJ,d];rfl
theorem Vb(f HF FT d)(ES:∀x y,f x y=T6↔Iq d x y)(w)(h:CA w (U HF (Z d) FT) d)(HM:Z d<=1000)(hf:∀c∈d,Z c.ea<=1000)(hU:Z (qS Cq d)<=800000):rE rF 73 #[U HF (Z d) FT] w λe m=>e=j1 (BL (P5 f d))/\Ac [] w m:=by
 have HP:=Ab h;have HD:=Ab hf;have FC:=Ab ES;clear h hf ES;obtain⟨R,hR⟩:=kQ (P5 f d);rw[hR];have HB:=Ab hR;clear hR;go_enter func73,ntmps73;go_wp2
 go_loopg [10] (Z d) (λgk i wr=>∃(k:Nat),i=X J k/\k<=Z d/\gk=Z d-k/\jV (∀c∈qT k d,L4 f c=Y)/\jV (Ac [] w wr))
 case atStart=>exact⟨0,rfl,lc,rfl,λc u=>by simp at u,kR _ _⟩
 case round=>
  obtain⟨k,rfl,hk,Ha,HC,E⟩:=hrel;have HG:=Ab Ha;clear Ha;by_cases M:k<Z d
  .have A1:=HP.C E;obtain⟨g,K4,B,a,o,C,t,A,z,b,he,W,d0,d1,d2,d3⟩:=Fs A1 k M;obtain⟨rfl,_,rfl⟩:=qX he;have AB:=Ab (A1.j _ (lV M)).body;have FL:=Aa HD _ (lV M);have H8:jV (∀p,L4 f ⟨B,a,o,U C (Z o) t,U A (Z b) z,b⟩=V p->R=V p):=by
    intro p HL;rw[<-Aa HB];exact SK _ _ k M HC (by rw[W];exact HL)
   have HX:jV (L4 f ⟨B,a,o,U C (Z o) t,U A (Z b) z,b⟩=Y->∀c∈qT (k+1) d,L4 f c=Y):=by
    intro HQ c u;rw[lW M,W,mi,lX]at u;rcases u with u|u
    .exact HC c u
    .rw[u];exact HQ
   rw[W]at AB FL;simp only at FL AB;clear A1 W;have AT:=Ab (E.alloc (Y6 #[X J B,O a,U C (Z o) t,U A (Z b) z] 189));have HA:=Ab ((kR [] wr).alloc (Y6 #[X J B,O a,U C (Z o) t,U A (Z b) z] 189));have Ax:=Ab (kS wr [X J B,O a,U C (Z o) t,U A (Z b) z] 189);go_wp2;change Code.wp _ _ _ _ (wr.alloc (Y6 #[X J B,O a,U C (Z o) t,U A (Z b) z] 189));have FF:=Ab (AB.C HA);generalize wr.alloc (Y6 #[X J B,O a,U C (Z o) t,U A (Z b) z] 189)=w1 at AT Ax FF|-;generalize wr.heap.size=N at Ax|-;clear HA AB E d0 d1 d2 d3
   go_loopg [17] (Z b) (λgk i wr=>∃(j:Nat),i=X J j/\j<=Z b/\gk=Z b-j/\jV ((qT j b).any (Nm f a)=K)/\jV (Ac [] w wr)/\jV (Ac [] w1 wr))
   case atStart=>exact⟨0,rfl,lc,rfl,se,AT,kR _ _⟩
   case round=>
    clear AT;obtain⟨j,rfl,hj,EK,HJ,E,EX⟩:=hrel;have FB:=Ab EK;clear EK;by_cases BA:j<Z b
    .obtain⟨g2,K5,q,D,H,FA,S,IA,e0,e1,e2,e3,e4,e5,e6,e7,e8⟩:=JL (FF.C EX) j BA;obtain⟨rfl,_,rfl⟩:=qX FA;have HY:jV (Nm f a (q,U D (Z q.ts) H)=T6->R=V q.c):=by
      intro n;refine H8 _ ?_;unfold L4;simp only;rw[FV _ _ j BA (Aa HJ) (by rw[S];exact n),S];rfl
     have AR:jV (Nm f a (q,U D (Z q.ts) H)=K->(qT (j+1) b).any (Nm f a)=K):=by
      intro n;rw[Dm _ _ j BA (Aa HJ),S];exact n
     clear S IA;have I:=Ab (E.alloc (Y6 (Za (Ay (q,U D (Z q.ts) H))) 217));have F:=Ab (EX.alloc (Y6 (Za (Ay (q,U D (Z q.ts) H))) 217));have G:=Ab (kS wr (Ay (q,U D (Z q.ts) H)) 217);simp only[Ay]at I F G;cases hs:(q.sort==1)with
     |false=>
      (have HO:(q.sort !=1)=T6:=by simp[bne,hs]);have A0:=Ab (AR (by unfold Nm;simp only;rw[hs];rfl));clear HY AR hs;go_wp2
      go_roundg (Z b-(j+1))
      case measure=>exact qu
      case rel=>exact⟨j+1,ly,lc,rfl,A0,I,F⟩
     |true=>
      (have HO:(q.sort !=1)=K:=by simp[bne,hs]);(have Bx:jV (f q.an a=T6->R=V q.c):=λn=>HY (by unfold Nm;simp only;rw[hs,n];rfl));(have B2:jV (f q.an a=K->(qT (j+1) b).any (Nm f a)=K):=λn=>AR (by unfold Nm;simp only;rw[hs,n];rfl));clear HY AR hs;(go_wp2_with fail);change Code.wp _ _ _ _ (wr.alloc (Y6 #[X J q.c,X J q.sort,X J q.ap,O q.an,U D (Z q.ts) H,X kw q.l.v,O q.l.s,X kw q.r.v,O q.r.s] 217));generalize wr.alloc (Y6 #[X J q.c,X J q.sort,X J q.ap,O q.an,U D (Z q.ts) H,X kw q.l.v,O q.l.s,X kw q.r.v,O q.r.s] 217)=w3 at I F G|-;generalize wr.heap.size=T at G|-;have t3:=G.D 3;have n1:=(Ax.C F).D 1;simp at t3 n1;have HU:=Ab (WH _ _ d q.an w3.drew (HP.C I.drew) HM HD hU);have Ix:jV (∀m,Ac [] w3.drew m->jY m ⟨T,3,Y⟩=V (O q.an)/\jY m ⟨N,1,Y⟩=V (O a)/\jY m ⟨T,0,Y⟩=V (X J q.c)/\Ac [] w m/\Ac [] w1 m):=by
       intro m L;exact⟨(G.drew.C L).D 3,((Ax.C F).drew.C L).D 1,(G.drew.C L).D 0,I.drew.H L,F.drew.H L⟩
      have H7:jV (∀(l:kN bN) ad cp BT m,ZU d q.an l->Z l<=800001->kt m BT 9 1 (U ad (Z l) cp) (Z l) (qS Ai l)->rE rF 121 #[U ad (Z l) cp,O a] m λe w9=>e=j1 (kx (f q.an a))/\w9=m):=by
       intro l ad cp BT m Q h1 h2;(have H3:Jo l a=f q.an a:=by rw[nz,G4,Q.iff,Aa FC]);have n:=Ul ad cp l a BT m h2 lc Q.zB;rw[H3]at n;exact n
      clear I F G HP FC
      go_region_held3 (λm=>jY m ⟨T,3,Y⟩=V (O q.an)/\jY m ⟨N,1,Y⟩=V (O a)) (go_keep) ((first|(go_at_call 122;refine HU.G ?_;rintro e w4 ⟨l,H4,HW,rfl,Q,Go,FP,k4⟩;have P:=Aa Ix w4 k4;have f3:=P.1;have f1:=P.2.1;have f0:=P.2.2.1;have A2:=Ab P;have HS:=Ab (H7 l H4 HW _ w4 Q Go FP);clear Q Go FP k4 P)|(go_at_call 121;refine HS.G ?_;rintro e w9 ⟨rfl,HI⟩;subst HI)))
      rename_i H6;clear H6;cases n:f q.an a with
      |true=>
       have HT:=Ab (Bx n);clear Bx B2 n;go_wp2;go_ret2;rw[Aa HT];exact⟨rfl,A2.2.2.2.1⟩
      |false=>
       have HT:=Ab (B2 n);clear Bx B2 n;go_wp2
       go_roundg (Z b-(j+1))
       case measure=>exact qu
       case rel=>exact⟨j+1,ly,lc,rfl,HT,A2.2.2.2.1,A2.2.2.2.2⟩
    .have HE:jV (L4 f ⟨B,a,o,U C (Z o) t,U A (Z b) z,b⟩=Y):=by
      have h:=Aa HJ;rw[lY lc]at h;show _=_;unfold L4;simp only;have:b.find? (Nm f a)=Y:=by
       rw[ol];intro y hy n;rw[nU]at h;exact h y hy n
      rw[this];rfl
     have A0:=Ab (HX HE);go_wp2
     go_roundg (Z d-(k+1))
     case measure=>exact qu
     case rel=>exact⟨k+1,ly,lc,rfl,A0,E⟩
  .have HE:jV (R=Y):=by
    have h:=Aa HC;rw[lY lc]at h;show _=_;rw[<-Aa HB];unfold P5;rw[pR];exact h
   go_wp2;go_ret2;rw[HE.o];exact⟨rfl,E⟩
def VQ(cs:kN AW)(x y:bN)(b:Nat):Prop:=∃c∈cs,c.E.a=x/\∃l∈Am c,l.A.a=y/\(((l.b==97)=T6/\b=0)\/((l.b==33)=T6/\b=1))
def Ho(cs:kN AW)(x y:bN):Prop:=∀S:bN->Prop,S x->(∀u v b,VQ cs u v b->S u->S v)->S y
def Ho.refl(a x):Ho a x x:=λS h _=>h
def Ho.H{x y z}(h:Ho c x y)(k:Ho c y z):Ho c x z:=λS b a=>k S (h S b a) a
def Ho.edge(h:VQ c s t b):Ho c s t:=λS d a=>a s t b h d
def dS(cs:kN AW):Prop:=∀x y,VQ cs x y 1->¬Ho cs y x
def VB(f):∀a n,n<=Jn f n a/\∀p∈a,OJ f p<=Jn f n a
 |[],n=>⟨mt _,λp b=>by simp at b⟩
 |q::a,n=>by
  have ih:=VB f a (max n (OJ f q));have e:Jn f n (q::a)=Jn f (max n _) a:=rfl;exact qy
def aJ(f):∀a n,Jn f n a=n\/∃p∈a,Jn f n a=OJ f p
 |[],n=>j2 rfl
 |q::a,n=>by
  have e:Jn f n (q::a)=Jn f (max n _) a:=rfl;rcases aJ f a (max n (OJ f q))with h|⟨p,hp,h⟩
  .exact li
  .exact j3 ⟨p,by simp[hp],h⟩
def ac(f x):∀(a:kN AW) (n),n<=qU (I9 f x) n a/\∀c∈a,c.E.a=x->∀p∈c.bl,OJ f p<=qU (I9 f x) n a
 |[],n=>⟨mt _,λc h=>pp⟩
 |c::a,n=>by
  rw[mK];have ih:=ac f x a (I9 f x n c);have j:n<=I9 f x n c:=by
   unfold I9;split
   .exact(VB f c.bl n).1
   exact lc
  refine⟨lc,λd b g p e=>?_⟩;rcases l9.1 b with rfl|b
  .have i:OJ f p<=I9 f x n d:=by
    unfold I9;rw[mo ((EU _ _).2 g)];exact(VB f d.bl n).2 p e
   omega
  .exact ih.2 d b g p e
def Z7(f x):∀(a:kN AW) (n),qU (I9 f x) n a=n\/∃c∈a,c.E.a=x/\∃p∈c.bl,qU (I9 f x) n a=OJ f p
 |[],n=>j2 rfl
 |c::a,n=>by
  rw[mK];rcases Z7 f x a (I9 f x n c)with h|⟨d,hd,hx,p,b,h⟩
  .rw[h];unfold I9;by_cases e:(c.E.a.toList==x.toList)=T6
   .rw[mo e];rcases aJ f c.bl n with g|⟨p,b,g⟩
    .exact j2 g
    .exact j3 ⟨c,ln,(EU _ _).1 e,p,b,g⟩
   .rw[mm e];exact lc
  .exact j3 ⟨d,by simp[hd],hx,p,b,h⟩
def Mr{cs}{x y}(h:VQ cs x y b)(d):BW cs d y+b<=BW cs (d+1) x:=by
 obtain⟨c,k,m,l,i,e,j⟩:=h;obtain⟨p,f,rfl⟩:=me.1 i;rw[BW];have o:=(ac (BW cs d) x cs 0).2 c k m p f;have n:OJ (BW cs d) p=BW cs d y+b:=by
  unfold OJ;rcases j with⟨a,rfl⟩|⟨a,rfl⟩
  .rw[mo a,e];rfl
  exact qr
 omega
def RZ(e d x)(h:0<BW e (d+1) x):∃y b,VQ e x y b/\BW e (d+1) x=BW e d y+b:=by
 rw[BW]at h|-;rcases Z7 (BW e d) x e 0 with a|⟨c,j,k,p,i,a⟩
 .omega
 .unfold OJ at a;by_cases f:(p.1.b==97)=T6
  .rw[mo f]at a;exact⟨_,0,⟨c,j,k,p.1,mx i,rfl,j2 ⟨f,rfl⟩⟩,a⟩
  .rw[mm f]at a;by_cases g:(p.1.b==33)=T6
   .rw[mo g]at a;exact⟨_,1,⟨c,j,k,p.1,mx i,rfl,j3 ⟨g,rfl⟩⟩,a⟩
   .rw[mm g]at a;omega
def OV(a):∀d x,BW a d x<=BW a (d+1) x
 |0,x=>by rw[show BW a 0 x=0 from rfl];omega
 |d+1,x=>by
  by_cases h:0<BW a (d+1) x
  .obtain⟨y,b,c,e⟩:=RZ a d x h;have g:=OV a d y;have f:=Mr c (d+1);omega
  .omega
def YK(a x)(h:n<=m):BW a n x<=BW a m x:=by
 induction h with
 |refl=>exact mt _
 |step _ ih=>exact mZ ih (OV a _ x)
structure lO(cs:kN AW)(d:Nat)(x v:bN):Prop where
 zV:∃D B:Nat,d<D/\BW cs D v<BW cs (D+1) v/\BW cs (D+1) v=B+BW cs (d+1) x/\Ho cs v x/\(0<B->∃u t,VQ cs u t 1/\Ho cs v u/\Ho cs t x)
def aE(i:dS c)(h:lO c n s s):False:=by
 obtain⟨D,B,l,j,k,_,f⟩:=h.zV;by_cases g:0<B
 .obtain⟨u,t,a,e,b⟩:=f g;exact i u t a (b.H e)
 .have:=YK c s (lc:n+1<=D);omega
def fo{a}(C:dS a)(i:kN bN)(E:∀c∈a,c.E.a∈i)(hN:Z i<=6):∀d x (e:kN bN),6<=Z e+d->e.Nodup->(∀v∈e,v∈i)->(∀v∈e,lO a d x v)->BW a d x<BW a (d+1) x->False:=by
 intro d
 induction d with
 |zero=>
  intro x e I p q j w;obtain⟨y,b,f,_⟩:=RZ a 0 x lc;obtain⟨c,s,o,_⟩:=f;have n:x∈i:=by rw[<-o];exact E c s
  have k:x∉e:=λh=>aE C (j x h)
  have:=MQ _ i (od.2 ⟨k,p⟩) (λz g=>by
   rcases l9.1 g with rfl|g
   .exact n
   .exact q z g)
  simp at this;omega
 |succ d ih=>
  intro x e I p q j w;obtain⟨y,b,f,W⟩:=RZ a (d+1) x lc;have n:x∈i:=by
   obtain⟨c,s,o,_⟩:=f;rw[<-o];exact E c s
  have k:x∉e:=λh=>aE C (j x h)
  have S:=Mr f d;have Q:b<=1:=by
   obtain⟨c,_,_,l,_,_,h|h⟩:=f<;>omega
  refine ih y _ li (od.2 ⟨k,p⟩) (λz g=>?_) (λv m=>?_) lc
  .rcases l9.1 g with rfl|g
   .exact n
   .exact q z g
  .rcases l9.1 m with rfl|m
   .refine⟨d+1,b,lc,w,lc,Ho.edge f,λH=>?_⟩;have r:b=1:=lc;subst r;exact⟨v,y,f,Ho.refl a v,Ho.refl a y⟩
   .obtain⟨D,B,R,N,T,A,P⟩:=(j v m).zV;refine⟨D,B+b,lc,N,lc,A.H (Ho.edge f),λH=>?_⟩;by_cases L:0<B
    .obtain⟨u,t,G,F,M⟩:=P L;exact⟨u,t,G,F,M.H (Ho.edge f)⟩
    ·have r:b=1:=lc;subst r;exact⟨x,y,f,A,Ho.refl a y⟩
def iB{cs}(k:dS cs)(a:kN bN)(j:∀c∈cs,c.E.a∈a)(l:Z a<=6):CP cs (BW cs 6):=by
 have i:∀x,BW cs 7 x=BW cs 6 x:=by
  intro x;have m:BW cs 6 x<=BW cs 7 x:=OV cs 6 x;by_cases h:BW cs 6 x<BW cs 7 x
  .exact(fo k a j l 6 x [] ln oH (λv e=>by simp at e) (λv e=>by simp at e) h).elim
  .omega
 refine⟨λc f x g d=>?_,λc f x g d=>?_⟩
 .have h:=Mr (cs:=cs) (x:=c.E.a) (y:=x.A.a) (b:=0) ⟨c,f,rfl,x,g,rfl,j2 ⟨d,rfl⟩⟩ 6;rw[i]at h;omega
 .have h:=Mr (cs:=cs) (x:=c.E.a) (y:=x.A.a) (b:=1) ⟨c,f,rfl,x,g,rfl,j3 ⟨d,rfl⟩⟩ 6;rw[i]at h;omega
def jF(l:kN bN):kN bN:=qU D2 [] l
def C1(c:CQ):kN bN:=((Bl c).filter λt=>t.v==0).map λt=>t.s
def JV(l x):DP l x=T6↔x∈l:=G4 l x
def T2(l x y):y∈D2 l x↔y=x\/y∈l:=by
 unfold D2;cases h:DP l x with
 |true=>
  have b:=(JV l x).1 h;exact qr
 |false=>
  simp;exact⟨λa=>by rcases a with a|a;exact j3 a;exact j2 a,λa=>by rcases a with a|a;exact j3 a;exact j2 a⟩
def WA{l}(h:l.Nodup)(x):(D2 l x).Nodup:=by
 unfold D2;cases hb:DP l x with
 |true=>exact li
 |false=>
  simp;rw[pH];refine⟨h,ln,λa d b c e=>?_⟩;simp at c;subst e c;rw[(JV l a).2 d]at hb;cases hb
def Q1:∀(a l:kN bN),l.Nodup->(qU D2 l a).Nodup/\∀y,y∈qU D2 l a↔y∈a\/y∈l
 |[],l,h=>⟨h,λy=>ln⟩
 |x::a,l,h=>by
  obtain⟨b,c⟩:=Q1 a _ (WA h x);refine⟨b,λy=>?_⟩;rw[mK,c,T2,l9];exact⟨λh=>by rcases h with h|h|h;exact j2 (j3 h);exact j2 (j2 h);exact j3 h,λh=>by rcases h with(h|h)|h;exact j3 (j2 h);exact j2 h;exact j3 (j3 h)⟩
def C8(l):(jF l).Nodup/\∀y,y∈jF l↔y∈l:=by
 obtain⟨a,b⟩:=Q1 l [] oH;exact⟨a,λy=>by rw[jF,b];simp⟩
def Na{a b:kN bN}(d:a.Nodup)(e:b.Nodup)(h:∀y,y∈a↔y∈b):Z a=Z b:=
 Nat.le_antisymm (MQ a b d (λy c=>(h y).1 c)) (MQ b a e (λy c=>(h y).2 c))
def Yi(cs:kN CQ)(k:Nat):rD:=decide (12<k+1)||decide (6<Z (jF (qS Cq (qT (k+1) cs))))||decide (6<Z (jF (qS C1 (qT (k+1) cs))))
def Ys(cs:kN CQ)(k:Nat)(c:CQ):Option (Int×Int):=
 if Yi cs k||Lg c then V (3,c.hp)
 else match kp cs (BG c)with
  |some p=>V (4,p)
  |none=>match Iz c with
   |some p=>V (5,p)
   |none=>Y
def PQ(cs:kN CQ):Nat->kN CQ->Option (Int×Int)
 |_,[]=>Y
 |k,c::l=>match Ys cs k c with
  |some r=>V r
  |none=>PQ cs (k+1) l
def ZW:Option (Int×Int)->jR
 |some r=> .tuple #[X J r.1,X J r.2]
 |none=> .tuple #[X J 0,X J 0]
structure lq(c:CQ):Prop where
 pc:KY c
 zN:Z (Bl c)<=90000
def lq.atoms{c}(h:lq c)(d:JG w 0 c.hv c.bv c.zA c.ea):∀a∈BG c,lenOf a.tv<=1000:=by
 intro a b;rcases l9.1 b with rfl|b
 .obtain⟨j,i,e⟩:=Aj d.E;rw[e];exact h.pc.E.2
 .obtain⟨p,g,rfl⟩:=me.1 b;have f:=(my.1 g).1;obtain⟨j,i,e⟩:=Aj (d.body.j p f).1;rw[e];exact(h.pc.j p f).2
def Ws(e){d th'}(h:∀y,y∈d↔y∈qS C1 (qT k p))(a:Fo (Bl p[k]) d th'):∀y,y∈th'↔y∈qS C1 (qT (k+1) p):=by
 intro y;rw[a y,h y,lW e,mD,mi];simp only[mB,np,mQ];have:(∃t∈Bl p[k],t.v=0/\t.s=y)↔y∈C1 p[k]:=by
  unfold C1;rw[me];constructor
  .rintro ⟨t,b,a,c⟩;exact⟨t,my.2 ⟨b,li⟩,c⟩
  .rintro ⟨t,b,c⟩;obtain⟨f,g⟩:=my.1 b;exact⟨t,f,by simpa using g,c⟩
 rw[this];exact⟨λh=>sg,λh=>sg⟩
def Zy(c){a nm':kN bN}(h:∀y,y∈a↔y∈qS Cq (qT k p))(b:∀y,y∈nm'↔y∈Cq p[k]\/y∈a):∀y,y∈nm'↔y∈qS Cq (qT (k+1) p):=by
 intro y;rw[b y,h y,lW c,mD,mi];simp only[mB,np,mQ];exact⟨λh=>sg,λh=>sg⟩
theorem OR(KK IS)(a:kN CQ)(w)(h:CA w (U KK (Z a) IS) a)(A:∀c∈a,gY w w.heap.size c)(K5:Z a<=1000)(hf:∀c∈a,lq c):rE rF 72 #[U KK (Z a) IS] w λe w'=>e=j1 (ZW (PQ a 0 a))/\Ac [] w w':=by
 have HP:=Ab h;have JJ:=Ab hf;have IA:=Ab A;obtain⟨R,hR⟩:=kQ (PQ a 0 a);rw[hR];have KD:=Ab hR;clear h hf A hR;have BT:jV (Fl (w.alloc (Y6 #[X J 0,U Y 0 0,U Y 0 0] 210)) _ (0:Nat) _ _ [] []):=
  ⟨kS w _ 210,mw _ _ _ _,mw _ _ _ _,λk hk=>by simp[kE]at hk,λi j u=>ln,λi j u=>ln⟩
 have BS:=Ab (Wl.of ((kR [] w).alloc (Y6 #[X J 0,U Y 0 0,U Y 0 0] 210)) (mt _) ln);have C:jV (∀wr,Wl _ w wr->Ac [] w wr):=λwr hl=>hl.C (mt _)
 go_enter func72,ntmps72;go_wp2;change Code.wp _ _ _ _ (w.alloc (Y6 #[X J 0,U Y 0 0,U Y 0 0] 210));generalize w.alloc (Y6 #[X J 0,U Y 0 0,U Y 0 0] 210)=w1 at BT BS|-;obtain⟨b,HQ⟩:=kQ w.heap.size;rw[HQ]at BT BS IA C|-;have Nd:=Ab HQ;clear HQ
 go_loopg [13] (Z a) (λgk i wr=>∃(k:Nat) (nv tv:jR) (S th:kN bN),i=X J k/\k<=Z a/\k<=12/\gk=Z a-k/\Z S<=6/\Z th<=6/\jV (Fl wr b (k:Int) nv tv S th)/\jV (∀y,y∈S↔y∈qS Cq (qT k a))/\jV (∀y,y∈th↔y∈qS C1 (qT k a))/\jV (PQ a k (a.drop k)=R)/\jV (Wl b w wr))
 case atStart=>exact⟨0,_,_,[],[],rfl,lc,lc,rfl,ln,ln,BT,λy=>ln,λy=>ln,KD,BS⟩
 case round=>
  clear BT BS KD;obtain⟨k,nv,tv,S,th,rfl,hk,NB,KA,NL,Nq,HC,H8,HV,HR,HL⟩:=hrel;have HG:=Ab KA;clear KA;by_cases A:k<Z a
  .have HY:=Aa C wr HL;have H3:=HP.C HY;obtain⟨g,NA,l,s,f,q,m,o,n,d,he,HX,d0,d1,d2,d3⟩:=Fs H3 k A;obtain⟨rfl,_,rfl⟩:=qX he;have FA:=Ab ((IA _ (lV A)).low HL);have z:=Ab (JJ _ (lV A));have I:jV ((match Ys a k a[k] with|some r=>V r|none=>PQ a (k+1) (a.drop (k+1)))=R):=by
    have h:=Aa HR;rw[mu A,PQ]at h;exact h
   have HI:=Ab (λnm'=>Zy (nm':=nm') A H8);have FL:=Ab (λth'=>Ws (th':=th') A HV);rw[HX]at FA z I HI FL;clear H3 HX HR H8 HV HY;have M3:=HC.zJ.lt;have kA:=(kR [] wr).alloc (Y6 #[X J l,O s,U q (Z f) m,U o (Z d) n] 189);have F:=Ab (HC.C kA);have W:=Ab (kS wr [X J l,O s,U q (Z f) m,U o (Z d) n] 189);have lA:=Wl.of kA (b:=b) lc ln;have N:=Ab (HL.H lA);have Q:=Ab (FA.low lA);have HD:jV (∀v:jR,(v=nv\/v=tv)->v.ownBlock≠V wr.heap.size):=by
    intro v hv e;rcases hv with rfl|rfl
    .have:=(HC.rn.lt _ e).2;omega
    .have:=(HC.rt.lt _ e).2;omega
   have FB:=Ab (cG b k nv tv S th _ _ F Q z.pc z.zN lc lc lc);have LS:b+1<=(wr.alloc (Y6 #[X J l,O s,U q (Z f) m,U o (Z d) n] 189)).heap.size:=li;clear kA lA;simp only[Ba]at FB;(go_wp2_with fail);refine FB.G ?_;rintro e w5 ⟨rfl,KB,HW,CL,B9,A1,H5,H6,NE,Nx,k5⟩;have HA:=W.C k5 (by
    intro t
    simp only[l9,mi]at t
    rcases t with t|t|t
    .omega
    .exact HD nv (j2 rfl) (by simpa using t)
    .exact HD tv (j3 rfl) (by simpa using t))
   have l5:Wl b _ w5:=Wl.of k5 lc (λi u=>by
    simp only[l9,mi]at u
    rcases u with u|u|u
    .omega
    .exact F.yC.1 i u
    .exact F.yC.2 i u)
   have Go:=Ab (N.H l5);have HH:=Ab (Q.low l5);have JA:=Ab (HI CL H5);have H2:=Ab (FL B9 H6);have CC:jV ((decide (12<k+1)||decide (6<Z CL)||decide (6<Z B9))=Yi a k):=by
    show _=_;unfold Yi;rw[Na (A1.rin.nodup Jj) (C8 _).1 (λy=>(Aa JA y).H ((C8 _).2 y).symm),Na (A1.rit.nodup Jj) (C8 _).1 (λy=>(Aa H2 y).H ((C8 _).2 y).symm)]
   have EX:=Ab (S6 b (k+1) KB HW CL B9 w5 A1);rw[Aa CC]at EX;have LC:=HA.lt;have L:=Ab HA;have FW:=Ab A1;have K2:wr.heap.size≠b:=lc;clear FB A1 H5 H6 k5 l5 F W N Q HD HI FL HA d0 d1 d2 d3 LS HL FA HC;generalize wr.heap.size=T at L LC K2|-;(go_wp2_with fail);refine EX.G ?_;rintro e w6 ⟨rfl,K3⟩;subst K3;clear EX;obtain⟨D,E,G,H⟩:=L.c4;simp at D E G H;cases t:Yi a k with
   |true=>
    have B:jV (R=V (3,l)):=by
     rw[<-Aa I];unfold Ys;rw[t];rfl
    clear t CC I;go_wp2_with fail
    go_region_held3 (λw'=>jY w' ⟨T,0,Y⟩=V (X J l)) (go_keep) (fail)
    rename_i FT;clear FT;go_wp2;go_ret2;rw[Aa B];exact⟨rfl,C _ Go.drew⟩
   |false=>
    have P:=Aa CC;rw[t]at P;simp only[oQ,nX]at P;have EY:=Ab (QA _ w6 HH.e z.pc.g);simp only[Ba]at EY;have Ix:=Ab t;have M1:=P.1.1;have NM:=P.1.2;have M2:=P.2;clear t CC P;(go_wp2_with fail);refine EY.G ?_;rintro e w7 ⟨rfl,k7⟩;have M:=Ab (L.C k7);have EK:=Ab (FW.C k7);have l7:=Wl.of k7 (b:=b) (by have:=FW.zJ.lt;omega) ln;have HK:=Ab (Go.H l7);have Ax:=Ab (HH.low l7);have Nj:=M.lt;(have M0:b<=w7.heap.size:=by have:=EK.zJ.lt;omega);clear D E G H EY k7 l7 L FW Go HH;obtain⟨D,E,G,H⟩:=M.c4;simp at D E G H;cases hg:Lg ⟨l,s,f,U q (Z f) m,U o (Z d) n,d⟩with
    |true=>
     have B:jV (R=V (3,l)):=by
      rw[<-Aa I];unfold Ys;rw[hg,pY];rfl
     clear hg I;go_wp2_with fail
     go_region_held3 (λw'=>jY w' ⟨T,0,Y⟩=V (X J l)) (go_keep) (fail)
     rename_i FT;clear FT;go_wp2;go_ret2;rw[Aa B];exact⟨rfl,C _ HK.drew⟩
    |false=>
     have x:jV ((match(match kp a (BG ⟨l,s,f,U q (Z f) m,U o (Z d) n,d⟩)with|some p=>V ((4:Int),p)|none=>match Iz ⟨l,s,f,U q (Z f) m,U o (Z d) n,d⟩with|some p=>V ((5:Int),p)|none=>Y)with|some r=>V r|none=>PQ a (k+1) (a.drop (k+1)))=R):=by
      have h:=Aa I;unfold Ys at h;rw[Aa Ix,hg]at h;exact h
     clear hg I Ix;have B0:=Ab (Mm _ w7 Ax.e z.pc.g);have H7:=Ab (IV Ax.e);have H1:Z (BG ⟨l,s,f,U q (Z f) m,U o (Z d) n,d⟩)<=1001:=by
      have:=En d;have h2:=z.pc.g;simp at h2;simp[BG];omega
     have H9:=Ab (z.atoms Ax.e);simp only[Ba]at B0;generalize BG ⟨l,s,f,U q (Z f) m,U o (Z d) n,d⟩=aT at B0 x H7 H1 H9;(go_wp2_with fail);refine B0.G ?_;rintro e wa ⟨MY,LE,rfl,Jx,ka⟩;have W:=Ab (M.C ka);have F:=Ab (EK.C ka);have la:=Wl.of ka (b:=b) M0 ln;have N:=Ab (HK.H la);have Q:=Ab (Ax.low la);(have MB:b<=wa.heap.size:=by have:=F.zJ.lt;omega);have FC:=Ab (MJ MY LE aT _ _ _ a wa Jx H7 H1 H9 (HP.C (C wa N)) (λc hc=>(JJ c hc).pc.g) K5);clear B0 Jx ka la M EK HK Ax D E G H;generalize kp a aT=RO at FC x;(go_wp2_with fail);refine FC.G ?_;rintro e w8 ⟨rfl,k8⟩;have AR:=Ab (W.C k8);have HF:=Ab (F.C k8);have l8:=Wl.of k8 MB ln;have Ha:=Ab (N.H l8);have HU:=Ab (Q.low l8);(have K7:b<=w8.heap.size:=by have:=HF.zJ.lt;omega);clear FC k8 l8 W F N Q;obtain⟨D,E,G,H⟩:=AR.c4;simp at D E G H;cases RO with
     |some p=>
      have B:jV (R=V (4,p)):=x.symm;simp only[BL];go_wp2;go_ret2;rw[Aa B];exact⟨rfl,C _ Ha⟩
     |none=>
      have BA:=Ab (Qw _ w8 HU.e z.pc (by have:=z.zN;omega));simp only[Ba]at BA;simp at x;generalize Iz ⟨l,s,f,U q (Z f) m,U o (Z d) n,d⟩=UO at BA x;simp only[BL];(go_wp2_with fail);refine BA.G ?_;rintro e w9 ⟨rfl,k9⟩;have K4:=Ab (HF.C k9);have HZ:=Ab (Ha.H (Wl.of k9 K7 ln));clear BA k9 HF Ha HU AR D E G H;cases UO with
      |some p=>
       have B:jV (R=V (5,p)):=x.symm;simp only[BL];go_wp2;go_ret2;rw[Aa B];exact⟨rfl,C _ HZ⟩
      |none=>
       have MN:jV (PQ a (k+1) _=R):=x;clear x;simp only[BL];go_wp2
       go_roundg (Z a-(k+1))
       case measure=>exact qu
       case rel=>exact⟨k+1,KB,HW,CL,B9,ly,lc,lc,rfl,lc,lc,K4,JA,H2,MN,HZ⟩
  .have B:jV (R=Y):=by
    have h:=Aa HR;rw[mN lc,PQ]at h;exact h.symm
   go_wp2;go_ret2;rw[B.o];exact⟨rfl,C wr HL⟩
def Tb(f:bN->bN->rD)(pcs:kN CQ):Int×Int:=match PQ pcs 0 pcs with
 |some r=>r
 |none=>match P5 f pcs with
  |some p=>(6,p)
  |none=>(0,0)
structure Wf(c:CQ):Prop where
 E:lenOf c.hv=Z c.zA
 g:∀p∈c.ea,lenOf p.2=Z p.1.ts
def JG.wf{c}(h:JG w 0 c.hv c.bv c.zA c.ea):Wf c:=by
 refine⟨?_,λp a=>?_⟩
 .obtain⟨d,b,e⟩:=Aj h.E;rw[e];rfl
 .obtain⟨d,b,e⟩:=Aj (h.body.j p a).1;rw[e];rfl
def EC(s:bN)(f:bN->bN->rD)(r:Int×Int):Prop:=
 if 300<s.size then r=(1,0)
 else match Dq (DB s) 0 [] with
  | .error p=>r=(2,p)
  | .ok cs=>∃pcs:kN CQ,pcs.map CQ.pc=cs/\(∀c∈pcs,Wf c)/\r=Tb f pcs
structure VW(f:bN->bN->rD)(pcs:kN CQ):Prop where
 ya:∀x y,f x y=T6↔Iq pcs x y
 fit:∀c∈pcs,lq c
 len:Z pcs<=1000
 names:Z (qS Cq pcs)<=800000
def GB.into{d}(h:GB w n z d):CA w z d/\∀c∈d,gY w w.heap.size c:=by
 refine⟨⟨Ak h.row (mr _),λc e=>(h.j c e).e.base (mr _)⟩,λc e=>?_⟩;have b:=(h.j c e).e;exact⟨b.base (mr _),λk a=>(b.E.lt k a).2,λk a=>(b.body.row.lt k a).2,λp f k a=>(rx (b.body.j p f).1 k a).2⟩
def iK{c}{r}(h:Ys p k c=V r):r.1≠0:=by
 unfold Ys at h;split at h
 .simp at h;subst h;simp
 .split at h
  .simp at h;subst h;simp
  .split at h
   .simp at h;subst h;simp
   .cases h
def bj{b}:∀l (k) {r:Int×Int},PQ b k l=V r->r.1≠0
 |[],k,r,h=>by simp[PQ]at h
 |c::l,k,r,h=>by
  rw[PQ]at h;split at h
  .rename_i d a;simp at h;subst h;exact iK a
  .exact bj l (k+1) h
def fu(s:bN)(w:jH)(lv:jR)(n:Nat)(r:Int×Int):Prop:=r.1=0->s.size<=300/\∃cs pcs,Dq (DB s) 0 []=.ok cs/\pcs.map CQ.pc=cs/\n=Z pcs/\CA w lv pcs
theorem JK(s f w)(BA:s.size<=9223372036854775807)(B:s.size<=300->∀b,Dq (DB s) 0 []=.ok b->∀a,a.map CQ.pc=b->VW f a):rE rF 40 #[O s] w λe M=>∃(j:rB) (n k:Nat) (r:Int×Int),e=j1 (.tuple #[U j n k,X J r.1,X J r.2])/\EC s f r/\fu s M (U j n k) n r/\Ac [] w M:=by
 by_cases S:300<s.size
 .have AT:(300:Int)<(s.size:Int):=by omega
  have i:jV (EC s f (1,0)):=by
   show EC _ _ _;unfold EC;rw[mo S]
  clear B;go_enter func40,ntmps40;go_wp2;go_ret3;exact⟨Y,0,0,(1,0),rfl,i,λh=>rl h lu,kR _ _⟩
 .have AT:¬(300:Int)<(s.size:Int):=by omega
  have W:=Ab (Ks s w lc);have y:=Ab (B lc);have u:jV (∀r,EC s f r↔(match Dq (DB s) 0 [] with| .error p=>r=(2,p)| .ok b=>∃a:kN CQ,a.map CQ.pc=b/\(∀c∈a,Wf c)/\r=Tb f a)):=by
   intro r;unfold EC;rw[mm S]
  clear B;go_enter func40,ntmps40;go_wp2_with fail
  refine W.G ?_;intro e w2 x;clear W;cases hp:Dq (DB s) 0 [] with
  |error p=>
   rw[hp]at x;obtain⟨rfl,m⟩:=x;have i:jV (EC s f (2,p)):=by
    show EC _ _ _;rw[Aa u,hp]
   have v:=Ab m;clear hp u y m;go_wp2;go_ret3;exact⟨Y,0,0,(2,p),rfl,i,λh=>rl h ln,v⟩
  |ok b=>
   rw[hp]at x;obtain⟨j,k,a,rfl,o,G,m⟩:=x;have q:=Aa y b hp a o;(have AO:Z b=Z a:=by rw[<-o];simp);rw[AO]at G|-;obtain⟨t,R⟩:=G.into;have i:jV (∀r,r=Tb f a->EC s f r):=by
    intro r E;rw[Aa u,hp];exact⟨a,o,λc d=>(t.j c d).wf,E⟩
   have L:=Ab (OR j k a w2 t R q.len q.fit);have T:=Ab t;have P:jV (Dq (DB s) 0 []=.ok b/\a.map CQ.pc=b):=⟨hp,o⟩;have l:=Ab q;have v:=Ab m;clear hp u y m o G t R q;(go_wp2_with fail);refine L.G ?_;rintro e w3 ⟨rfl,C⟩;have z:=Ab (T.C C);have H:=Ab (v.H C);clear L T v C;cases d:PQ a 0 a with
   |some r=>
    have F:=bj _ _ d;(have AH:(r.1 !=0)=T6:=by simp[bne,F]);have g:=Ab (i r (by unfold Tb;rw[d]));obtain⟨N,r2⟩:=r;simp only at AH F;have A1:jV (N≠0):=F;clear d i;simp only[ZW];go_wp2;go_ret3;exact⟨Y,0,0,(N,r2),rfl,g,λh=>rl h A1,H⟩
   |none=>
    have Ax:=Ab (Vb f j k a l.ya w3 z l.len (λc d=>(l.fit c d).pc.g) l.names);have g:jV (∀r,r=(match P5 f a with|some p=>((6:Int),p)|none=>(0,0))->EC s f r):=by
     intro r E;refine i r ?_;unfold Tb;rw[d];exact E
    clear d i l;simp only[ZW];(go_wp2_with fail);refine Ax.G ?_;rintro e w4 ⟨rfl,I⟩;have Q:=Ab (H.H I);have A0:jV (s.size<=300/\∃b A,Dq (DB s) 0 []=.ok b/\A.map CQ.pc=b/\Z a=Z A/\CA w4 (U j (Z a) k) A):=⟨lc,b,a,P.1,P.2,rfl,z.C I⟩;clear Ax I H z;cases hl:P5 f a with
    |some p=>
     rw[hl]at g;have D:=Ab (g (6,p) rfl);clear hl g;simp only[BL];go_wp2;go_ret3;exact⟨Y,0,0,(6,p),rfl,D,λh=>rl h ln,Q⟩
    |none=>
     rw[hl]at g;have D:=Ab (g (0,0) rfl);clear hl g;simp only[BL];go_wp2;go_ret3;exact⟨j,Z a,k,(0,0),rfl,D,λ_=>A0,Q⟩
def eH(s f w)(h:s.size<=9223372036854775807)(i:s.size<=300->∀d,Dq (DB s) 0 []=.ok d->∀g,g.map CQ.pc=d->VW f g):
  rE rF 40 #[O s] w λe c=>∃(b:rB) (n a:Nat) (r:Int×Int),e=j1 (.tuple #[U b n a,X J r.1,X J r.2])/\EC s f r/\Ac [] w c:=
 (JK s f w h i).G λe c ⟨b,n,a,r,h1,h2,_,h3⟩=>⟨b,n,a,r,h1,h2,h3⟩
set_option maxRecDepth 512
theorem bM(s f w)(k:s.size<=9223372036854775807)(h:s.size<=300->∀c,Dq (DB s) 0 []=.ok c->∀g,g.map CQ.pc=c->VW f g):rE rF 67 #[O s] w λe j=>∃r,e=j1 (.tuple #[X J r.1,X J r.2])/\EC s f r/\Ac [] w j:=by
 have d:=Ab (eH s f w k h);clear h;go_enter func67,ntmps67;go_wp2_with fail
 refine d.G ?_;rintro e m ⟨o,n,l,r,rfl,b,a⟩;have i:=Ab (And.intro b a);clear d b a;go_wp2;go_ret2;exact⟨r,rfl,i.1,i.2⟩
def F2{α β:Type}(R:α->β->Prop):kN α->kN β->Prop
 |[],[]=>True
 |a::l,b::m=>R a b/\F2 R l m
 |_,_=>False
def F2.nil{α β}{R}:F2 R ([]:kN α) ([]:kN β):=trivial
def F2.cons{α β}{R}{a}{b}{l:kN α}{m:kN β}(h:R a b)(t:F2 R l m):F2 R (a::l) (b::m):=⟨h,t⟩
def F2.ind{α β}{R}{motive:(l:kN α)->(m:kN β)->F2 R l m->Prop}(nil:motive [] [] F2.nil)(cons:∀{a:α} {b:β} {l:kN α} {m:kN β} (h:R a b) (t:F2 R l m),motive l m t->motive (a::l) (b::m) (F2.cons h t)):∀{l:kN α} {m:kN β} (h:F2 R l m),motive l m h
 |[],[],_=>nil
 |[],_::_,h=>h.elim
 |_::_,[],h=>h.elim
 |_::_,_::_,h=>cons h.1 h.2 (F2.ind nil cons h.2)
def F2.of_map{α β γ:Type}{f}{g:β->γ}:∀{l:kN α} {m:kN β},l.map f=m.map g->F2 (λa b=>f a=g b) l m
 |[],[],_=>F2.nil
 |[],_::_,h=>pp
 |_::_,[],h=>pp
 |a::l,b::m,h=>by
  simp at h;exact F2.cons h.1 (F2.of_map h.2)
def F2.lenX{α β}{R}{l:kN α}{m:kN β}(h:F2 R l m):Z l=Z m:=by
 induction h using F2.ind with
 |nil=>rfl
 |cons _ _ ih=>simp[ih]
def F2.take{α β}{R}{l:kN α}{m:kN β}(h:F2 R l m)(k):F2 R (qT k l) (qT k m):=by
 induction h using F2.ind generalizing k with
 |nil=>simp;exact F2.nil
 |cons h1 _ ih=>
  cases k with
  |zero=>exact F2.nil
  |succ k=>exact F2.cons h1 (ih k)
def F2.flatMap{α β γ:Type}{R}{f:α->kN γ}{g:β->kN γ}(c:∀a b,R a b->f a=g b){l}{m}(h:F2 R l m):qS f l=qS g m:=by
 induction h using F2.ind with
 |nil=>rfl
 |cons h1 _ ih=>rw[mB,mB,c _ _ h1,ih]
def F2.find{α β γ:Type}{R}{f}{g}{u}{v:β->γ}(d:∀a b,R a b->f a=g b/\u a=v b){l:kN α}{m}(h:F2 R l m):(l.find? f).map u=(m.find? g).map v:=by
 induction h using F2.ind with
 |nil=>rfl
 |cons h1 _ ih=>
  obtain⟨e,c⟩:=d _ _ h1;rw[pd,pd,e];split
  .simp[c]
  .exact ih
def F2.mem{α β}{R}{l:kN α}{m:kN β}(h:F2 R l m):∀b∈m,∃a∈l,R a b:=by
 induction h using F2.ind with
 |nil=>exact ln
 |cons h1 _ ih=>
  exact qr
def F2.yG{α β}{R}{l:kN α}{m:kN β}(h:F2 R l m):∀a∈l,∃b∈m,R a b:=by
 induction h using F2.ind with
 |nil=>exact ln
 |cons h1 _ ih=>
  exact qr
def F2.G{α β}{R S}{l:kN α}{m:kN β}(h:F2 R l m)(c:∀a∈l,∀b∈m,R a b->S a b):F2 S l m:=by
 induction h using F2.ind with
 |nil=>exact F2.nil
 |cons h1 _ ih=>exact F2.cons (c _ ln _ ln h1) (ih (λa d b e=>c a sn b (by simp[e])))
structure Uk(p:L6)(q:Bc):Prop where
 eq:p.1=Mn q.1
 len:lenOf p.2=Z q.1.A.qH
 plain:L5 q=K->q.1.A.qH=[]
def ZT(t):((ct t).v==0)=(t.v==0):=by
 unfold ct;rw[nz];simp only[n5];constructor
 .intro h;apply nW.1;exact li
 .intro h;rw[h];rfl
def jO(t v):((ct t).v==(v.toNat:Int))=(t.v==v):=by
 unfold ct;rw[nz];simp;constructor
 .intro h;apply nW.1;omega
 .intro h;rw[h]
def Th(k):(Gk k==0)=(k==97):=by
 unfold Gk;by_cases h:k=97
 .simp[h]
 .by_cases a:k=33
  .simp[a]
  .by_cases b:k=61
   .simp[b]
   .by_cases c:k=35
    .simp[c]
    .simp[h,a,b,c]
def dY(k):(Gk k==1)=(k==33):=by
 unfold Gk;by_cases h:k=97
 .simp[h]
 .by_cases a:k=33
  .simp[a]
  .by_cases b:k=61
   .simp[b]
   .by_cases c:k=35
    .simp[c]
    .simp[h,a,b,c]
def Uk.atom{p}{q}(h:Uk p q):Bk p.1=L5 q:=by
 unfold Bk L5;rw[h.eq];simp only[Mn,Th,dY]
def Uk.zN{p}{q}(h:Uk p q):AQ p.1=(AA q).map ct:=by
 unfold AQ AA;rw[h.atom,h.eq];split<;>simp[Mn]
structure Qi(c:CQ)(r:AW):Prop where
 hp:c.hp=r.E.e
 hn:c.hn=r.E.a
 zA:c.zA=r.E.qH.map ct
 g:F2 Uk c.ea r.bl
 len:lenOf c.hv=Z r.E.qH
 e:r.e=r.E.e
def Hi(r:AW):kN bN:=r.E.a::(r.bl.filter L5).map λq=>q.1.A.a
def ER(r:AW):kN AK:=r.E.qH++qS AA r.bl
def Y4{a}{b}(h:F2 Uk a b):GH a=(b.filter L5).map λq=>q.1.A.a:=by
 unfold GH
 induction h using F2.ind with
 |nil=>rfl
 |cons h1 _ ih=>
  rw[nJ,nJ,h1.atom];split
  .rw[mA,mA,ih,h1.eq];rfl
  .exact ih
def Qi.names{c}{r}(h:Qi c r):Cq c=Hi r:=by
 unfold Cq Hi;rw[h.hn,Y4 h.g]
def Qi.zN{c}{r}(h:Qi c r):Bl c=(ER r).map ct:=by
 unfold Bl ER A6;rw[h.zA,mO,pU,F2.flatMap (λa b d=>d.zN) h.g]
def Jk(r:AW):kN bN:=((ER r).filter λt=>t.v==0).map λt=>t.s
def Qi.dN{c}{r}(h:Qi c r):C1 c=(Jk r).map D9:=by
 unfold C1 Jk;rw[h.zN,List.filter_map,nh,nh];have e:(ER r).filter ((λt=>t.v==0)∘ct)=(ER r).filter λt=>t.v==0:=by
  apply List.filter_congr;intro t _;exact ZT t
 rw[e];rfl
def Wh(f)(h:∀a b,f a=f b->a=b)(l):Z (jF (l.map f))=Z (jF l):=by
 rw[show Z (jF l)=Z ((jF l).map f) from ln]
 refine Na (C8 _).1 (List.Pairwise.map f (λa b g e=>g (h a b e)) (C8 l).1) (λy=>?_);rw[(C8 _).2,me,me];constructor
 .rintro ⟨x,d,c⟩;exact⟨x,((C8 l).2 x).2 d,c⟩
 .rintro ⟨x,d,c⟩;exact⟨x,((C8 l).2 x).1 d,c⟩
def Wo(l r):Qk l r=qU D2 l (Hi r):=by
 unfold Qk Hi;rw[mK];generalize D2 l r.E.a=l0
 induction r.bl generalizing l0 with
 |nil=>rfl
 |cons q bl ih=>
  rw[mK,nJ];unfold zF;cases hq:L5 q with
  |true=>
   exact ih _
  |false=>
   exact ih _
def Nw{α β γ:Type}(f)(g:α->kN β):∀(l:kN α) (c:γ),qU f c (qS g l)=l.foldl (λc a=>qU f c (g a)) c
 |[],c=>rfl
 |a::l,c=>by rw[mB,m6,mK,Nw f g l]
def NJ(a):EA a=jF (qS Hi a):=by
 unfold EA jF;rw[Nw]
 congr 1
 funext l r
 exact Wo l r
def PS(x y):∀(l:kN bN) (a),(y∈(qU (Dx x) a l).1↔y∈a.1\/y∈l\/(y=x/\a.2=K/\(qU (Dx x) a l).2=T6))/\(a.2=T6->(qU (Dx x) a l).2=T6)
 |[],a=>ln
 |z::l,a=>by
  obtain⟨b,c⟩:=PS x y l (Dx x a z);rw[mK];unfold Dx at b c|-;cases hb:(!a.2&&Gl x z)with
  |true=>
   have d:a.2=K:=qr
   rw[hb]at b c;simp only[ro]at b c|-;have g:=c trivial;refine⟨?_,λh=>lc⟩;rw[b,g,d];simp only[mi,l9,nr,Bool.true_eq_false,false_and,and_false,or_false,true_and,and_true,and_self];constructor
   .rintro ((h|h)|h)
    .rcases h with h|h
     .exact j2 h
     .exact j3 (j3 h)
    .exact j3 (j2 (j2 h))
    .exact j3 (j2 (j3 h))
   .rintro (h|(h|h)|h)
    .exact j2 (j2 (j2 h))
    .exact j2 (j3 h)
    .exact j3 h
    .exact j2 (j2 (j3 h))
  |false=>
   rw[hb]at b c;simp only[ma,rm]at b c|-;refine⟨?_,c⟩;rw[b];simp only[mi,l9,nr,or_false];constructor
   .rintro ((h|h)|h|h)
    .exact j2 h
    .exact j3 (j2 (j2 h))
    .exact j3 (j2 (j3 h))
    .exact j3 (j3 h)
   .rintro (h|(h|h)|h)
    .exact j2 (j2 h)
    .exact j2 (j3 h)
    .exact j3 (j2 h)
    .exact j3 (j3 h)
def cj(l x y):y∈I0 l x↔y=x\/y∈l:=by
 have h:=(PS x y l ([],K)).1;unfold I0;unfold Od;cases hf:(qU (Dx x) ([],K) l).2 with
 |true=>
  rw[hf]at h;simp;rw[h];simp;exact⟨λh=>sg,λh=>sg⟩
 |false=>
  rw[hf]at h;simp;rw[h];simp;exact⟨λh=>sg,λh=>sg⟩
structure Qc(a b:kN bN):Prop where
 mem:∀y,y∈a↔y∈b
 len:Z a=Z b
def Qc.zX{a b:kN bN}(h:Qc a b)(t:AK):Qc (zX a t) (if t.v==0 then D2 b t.s else b):=by
 unfold Go.Proofs.YtoihbhenbmffcaaGreatDoor.zX D2;cases hv:(t.v==0)with
 |false=>simpa using h
 |true=>
  have e:DP a t.s=DP b t.s:=by rw[nz,JV,JV,h.mem]
  rw[e];cases hh:DP b t.s with
  |true=>simpa using h
  |false=>
   simp only[nE,oY,ro,ma,rm];refine⟨λy=>?_,by rw[O9,h.len];simp⟩;rw[cj,h.mem];simp only[mi,lX];exact⟨λh=>sg,λh=>sg⟩
def Qc.zO{a b:kN bN}(h:Qc a b):∀d:kN AK,Qc (zO a d) (qU D2 b ((d.filter λt=>t.v==0).map λt=>t.s)):=by
 intro d;unfold Go.Proofs.YtoihbhenbmffcaaGreatDoor.zO
 induction d generalizing a b with
 |nil=>exact h
 |cons t d ih=>
  rw[mK,nJ];have c:=h.zX t;cases hv:(t.v==0)with
  |true=>
   rw[hv]at c;simp only[ro]at c|-;rw[mA,mK];exact ih c
  |false=>
   rw[hv]at c;simp only[ma,rm]at c|-;exact ih c
def W5(l a b):zO l (a++b)=zO (zO l a) b:=by
 unfold zO;rw[m6]
def YO(l r):KH l r=zO l (ER r):=by
 unfold KH ER;rw[W5];generalize zO l r.E.qH=l0
 induction r.bl generalizing l0 with
 |nil=>rfl
 |cons q bl ih=>
  rw[mK,mB,W5];exact ih _
def E2(d):Qc (Bh d) (jF (qS Jk d)):=by
 unfold Bh jF;rw[Nw];have:∀(l:kN AW) (a b:kN bN),Qc a b->Qc (qU KH a l) (l.foldl (λc r=>qU D2 c (Jk r)) b):=by
  intro l
  induction l with
  |nil=>exact ln
  |cons r l ih=>
   intro a b h;refine ih _ _ ?_;rw[YO];exact h.zO _
 exact this d [] [] ⟨λy=>Iff.rfl,rfl⟩
abbrev lL:=Int×bN×Nat
def VF(a:Hx):lL:=(a.c,a.a,lenOf a.tv)
def Fj(r:AW):kN lL:=((r.E.e:Int),r.E.a,Z r.E.qH)::(r.bl.filter L5).map λq=>((q.1.A.e:Int),q.1.A.a,Z q.1.A.qH)
def YH{a}{b}(h:F2 Uk a b):(AU a).map VF=(b.filter L5).map λq=>((q.1.A.e:Int),q.1.A.a,Z q.1.A.qH):=by
 unfold AU
 induction h using F2.ind with
 |nil=>rfl
 |cons h1 _ ih=>
  rw[nJ,nJ,h1.atom];split
  .rw[mA,mA,mA,ih]
   unfold VF;rw[h1.eq,h1.len];rfl
  .exact ih
def Qi.atoms{c}{r}(h:Qi c r):(BG c).map VF=Fj r:=by
 unfold BG Fj;rw[mA,YH h.g]
 unfold VF;rw[h.hp,h.hn,h.len]
def jZ(x:bN)(p:bN×Nat):rD:=p.1.toList==x.toList
def Pz(L:kN (bN×Nat))(x:bN):Int:=match L.find? (jZ x)with|some p=>p.2|none=> -1
def gU(L:kN (bN×Nat))(a:lL):rD:=Pz L a.2.1 !=(a.2.2:Int)
def Fz(cs:kN AW):kN (bN×Nat):=cs.flatMap λr=>(Fj r).map λa=>a.2
def V4(a x):SM a x=(((a.filter L5).map λq=>(q.1.A.a,Z q.1.A.qH)).find? (jZ x)).map λp=>p.2:=by
 unfold SM
 induction a with
 |nil=>rfl
 |cons q a ih=>
  rw[pJ,nJ];cases hq:L5 q with
  |false=>
   exact oa
  |true=>
   simp only[nQ,ro,mA];rw[pd];unfold jZ;cases hn:(q.1.A.a.toList==x.toList)with
   |true=>rfl
   |false=>exact ih
def V1(r x):Gd r x=(((Fj r).map λa=>a.2).find? (jZ x)).map λp=>p.2:=by
 unfold Gd Fj;rw[mA,pd,V4,nh];unfold jZ;cases h:(r.E.a.toList==x.toList)with
 |true=>rfl
 |false=>rfl
def L3(b x):BQ b x=Pz (Fz b) x:=by
 have:b.findSome? (Gd · x)=((Fz b).find? (jZ x)).map λp=>p.2:=by
  unfold Fz
  induction b with
  |nil=>rfl
  |cons r b ih=>
   rw[pJ,mB,qd,V1,ih];cases((Fj r).map λa=>a.2).find? (jZ x)<;>rfl
 unfold BQ Pz;rw[this];cases(Fz b).find? (jZ x)<;>rfl
def WU(L r):((Fj r).find? (gU L)).map (λa=>a.1)=
  if Pz L r.E.a≠(Z r.E.qH:Int)then V (r.E.e:Int)else(r.bl.find? λq=>L5 q&&(Pz L q.1.A.a !=(Z q.1.A.qH:Int))).map λq=>(q.1.A.e:Int):=by
 unfold Fj;rw[pd];have e:gU L (r.E.e,r.E.a,Z _)=(Pz L r.E.a !=Z r.E.qH):=rfl;rw[e];cases hh:(Pz L r.E.a !=(Z r.E.qH:Int))with
 |true=>
  exact qr
 |false=>
  have:¬Pz L r.E.a≠Z r.E.qH:=by simpa using hh
  rw[mm this];induction r.bl with
  |nil=>rfl
  |cons q bl ih=>
   rw[nJ,pd];cases hq:L5 q with
   |false=>
    exact oa
   |true=>
    simp;rw[pd];have b:gU L (q.1.A.e,q.1.A.a,Z q.1.A.qH)=(Pz L q.1.A.a !=(Z _:Int)):=rfl;rw[b];cases(Pz L q.1.A.a !=(Z q.1.A.qH:Int))with
    |true=>rfl
    |false=>exact ih
def Qi.bound{c}{r}(h:Qi c r)(v):Qf c.ea (v.toNat:Int)=Lb r.bl v:=by
 unfold Qf Lb GU;have b:=h.g;generalize c.ea=ea at b;generalize r.bl=bl at b
 induction b using F2.ind with
 |nil=>rfl
 |cons h1 _ ih=>
  rw[mB,p8,pC,ih]
  congr 1
  unfold Le S4;rw[h1.eq];simp only[Mn,Th];split
  .rename_i a;rw[a,pj];apply Ou;intro t _;exact jO t v
  exact qr
def Qi.loose{c}{r}(h:Qi c r)(t):Qh c (ct t)=C9 r.bl t:=by
 unfold Qh C9;have e:((ct t).v !=0)= !(t.v==0):=by rw[bne,ZT]
 rw[e];have:(ct t).v=t.v.toNat:=rfl;rw[this,h.bound];exact ln
def Qi.yY{c}{r}(h:Qi c r):Iz c=if 0<=D4 r.E r.bl then V (D4 r.E r.bl)else Y:=by
 unfold Iz D4;have d:c.zA.any (Qh c)=r.E.qH.any (C9 r.bl):=by
  rw[h.zA,pj];apply Ou;intro t _;exact h.loose t
 have b:(c.ea.find? λp=>(AQ p.1).any (Qh c)).map (λp=>p.1.c)=(r.bl.find? (Kg r.bl)).map λq=>(q.1.e:Int):=by
  refine F2.find (λp q a=>⟨?_,?_⟩) h.g
  .rw[a.zN,pj];apply Ou;intro t _;exact h.loose t
  .rw[a.eq];rfl
 rw[d,b,h.hp];cases r.E.qH.any (C9 r.bl)with
 |true=>
  exact ln
 |false=>
  simp;cases r.bl.find? (Kg r.bl)with
  |none=>rfl
  |some q=>
   exact ln
def Qi.yW{c}{r}(h:Qi c r):Lg c=(decide (2<Z r.E.qH)||r.bl.any BC||decide (3<Z r.bl)):=by
 unfold Lg;rw[h.g.lenX]
 congr 1
 have e:(BG c).any (λa=>decide (2<lenOf a.tv))=(Fj r).any λa=>decide (2<a.2.2):=by
  rw[<-h.atoms,pj];rfl
 rw[e];unfold Fj;rw[pC]
 congr 1
 have d:∀q∈r.bl,L5 q=K->q.1.A.qH=[]:=λq b=>by
  obtain⟨p,_,f⟩:=h.g.mem q b;exact f.plain
 generalize r.bl=bl at d
 induction bl with
 |nil=>rfl
 |cons q bl ih=>
  rw[nJ,pC];have ih:=ih (λq b=>d q sq);cases b:L5 q with
  |true=>
   simp only[ro,mA,pC];rw[ih];rfl
  |false=>
   have:=d q ln b;simp only[ma,rm];rw[ih];unfold BC;rw[this];rfl
def bH{d}(h:F2 Qi p d):Fz d=((qS BG p).map VF).map λa=>a.2:=by
 unfold Fz;rw[pU,<-F2.flatMap (f:=λc=>(BG c).map VF) (g:=Fj) (λa b e=>e.atoms) h|>.symm,pU]
def Sn{a}(h:F2 Qi a c)(x):iw a x=((Fz c).find? (jZ x)).map λp=>p.2:=by
 rw[bH h,nh,List.find?_map,Option.map_map];rfl
def fm{d}{b}(h:F2 Qi d b){c}{r}(j:Qi c r)(k:∀a∈Fj r,a.2∈Fz b)(f:Lg c=K):
  kp d (BG c)=((Fj r).find? (gU (Fz b))).map λa=>a.1:=by
 unfold kp;rw[<-j.atoms,List.find?_map,Option.map_map];have e:(BG c).find? (SW d)=(BG c).find? (gU (Fz b)∘VF):=by
  apply O4;intro a i;have m:¬2<lenOf a.tv:=by
   unfold Lg at f;exact qr
  have l:=k _ (by rw[<-j.atoms];exact mx i);have g:((Fz b).find? (jZ a.a)).isSome=T6:=by
   rw[List.find?_isSome];exact⟨_,l,by simp[jZ,VF]⟩
  unfold SW gU Pz;simp;rw[Sn h];rw[show(VF a).2.1=a.a from rfl,show(VF a).2.2=lenOf a.tv from rfl]
  cases hq:(Fz b).find? (jZ a.a)with
  |none=>rw[hq]at g;cases g
  |some p=>
   rw[nz];exact li
 rw[e];rfl
def cH{d}(h:F2 Qi p d){c}{r}(e:Qi c r)(x:∀a∈Fj r,a.2∈Fz d):
  Ys p k c=Cr d k r:=by
 have s:=fm h e x;have w:Z (jF ((p.take (k+1)).flatMap Cq))=Z (EA (d.take (k+1))):=by
  rw[NJ,F2.flatMap (λa b m=>m.names) (h.take (k+1))]
 have v:Z (jF ((p.take (k+1)).flatMap C1))=Z (Bh (d.take (k+1))):=by
  rw[(E2 _).len,F2.flatMap (g:=λr=>(Jk r).map D9) (λa b m=>m.dN) (h.take (k+1)),<-pU,Wh _ (λa b=>Zv)]
 unfold Ys Cr Yi;rw[e.yW]at s;rw[w,v,e.yW,e.yY,L3,e.hp,e.e];generalize Z (EA (d.take (k+1)))=N;generalize Z (Bh (d.take (k+1)))=T;cases hcond:((decide (12<k+1)||decide (6<N)||decide (6<T))||(decide (2<Z r.E.qH)||r.bl.any BC||decide (3<Z r.bl)))with
 |true=>
  rw[mo rfl];by_cases i:12<=k\/3<Z r.bl
  .rw[mo i]
  .rw[mm i];by_cases l:2<Z r.E.qH
   .rw[mo l]
   .rw[mm l];by_cases n:r.bl.any BC=T6
    .rw[mo n]
    .rw[mm n];by_cases f:6<N\/6<T
     .rw[mo f]
     .exfalso
      simp only[nN,oV]at hcond;simp only[not_or]at i f;rcases hcond with((h|h)|h)|((h|h)|h)
      .omega
      .exact f.1 h
      .exact f.2 h
      .exact l h
      .exact n h
      exact lc
 |false=>
  simp only[oQ,nX]at hcond;obtain⟨⟨⟨B,C⟩,D⟩,⟨t,o⟩,z⟩:=hcond;rw[s (by simp only[t,o,z,pX,qp]),WU];rw[mm (show¬(K=T6) by simp),mm (show¬(12<=k\/3<Z r.bl) by omega),mm t,mm (show¬(r.bl.any BC=T6) by rw[o];simp),mm (show¬(6<N\/6<T) by omega)];by_cases j:Pz (Fz d) r.E.a≠Z r.E.qH
  .rw[mo j,mo j]
  .rw[mm j,mm j];have u:(r.bl.find? λq=>L5 q&&(Pz (Fz d) q.1.A.a !=Z q.1.A.qH))=r.bl.find? (Ci d):=by
    apply O4;intro q _;unfold Ci;rw[L3]
   rw[u];cases r.bl.find? (Ci d)with
   |some q=>rfl
   |none=>
    by_cases y:0<=D4 r.E r.bl<;>simp[y]
def Y8{b}(h:F2 Qi p b):∀{l:kN CQ} {m:kN AW},F2 Qi l m->∀k,(∀r∈m,r∈b)->PQ p k l=EH b k m:=by
 intro l m g
 induction g using F2.ind with
 |nil=>intro k _;rfl
 |cons hc _ ih=>
  rename_i c r l m _;intro k e;have d:∀a∈Fj r,a.2∈Fz b:=λa f=>mH.2 ⟨r,e r ln,mx f⟩
  rw[PQ,EH,cH h hc d];cases hs:Cr b k r with
  |some x=>rfl
  |none=>exact qr
def YS{d}{a}(h:F2 Qi d a){f}(i:∀x y,f x y=In a x y):(P5 f d).map (λp=>((6:Int),p))=a.findSome? (DX a):=by
 have g:∀{l:kN CQ} {m:kN AW},F2 Qi l m->(l.findSome? (L4 f)).map (λp=>(6,p))=m.findSome? (DX a):=by
  intro l m j
  induction j using F2.ind with
  |nil=>rfl
  |cons hc _ ih=>
   rename_i c r l m _;rw[pJ,pJ];have e:(L4 f c).map (λp=>(6,p))=DX a r:=by
    unfold L4 DX;rw[Option.map_map];refine F2.find (λp q b=>⟨?_,?_⟩) hc.g
    .unfold Nm Fg;rw[b.eq,i,hc.hn];simp only[Mn,dY]
    .simp only[Function.comp];rw[b.eq];rfl
   rw[<-e];cases L4 f c with
   |some p=>rfl
   |none=>exact ih
 exact g h
def Zd(h:F2 Qi p c){f}(a:∀x y,f x y=In c x y):Tb f p=CH c:=by
 unfold Tb CH;rw[Y8 h h 0 (λr b=>b),<-YS h a];cases EH c 0 c with
 |some r=>rfl
 |none=>
  cases P5 f p<;>rfl
def SR(cs:kN AW)(x y:bN):Prop:=∀S:bN->Prop,S x->(∀r∈cs,S r.E.a->∀z∈Hi r,S z)->S y
def Gx(h:(s.toList==t.toList)=T6):s=t:=(Jj.eqv s t).1 h
def Lo(y):∀(a:kN Bc) (l),y∈qU zF l a↔y∈l\/y∈(a.filter L5).map λq=>q.1.A.a
 |[],l=>ln
 |q::a,l=>by
  rw[mK,Lo y a,nJ];unfold zF;cases hq:L5 q with
  |false=>simp
  |true=>
   simp only[ro,T2,mA,l9];constructor
   .rintro ((h|h)|h)
    .exact j3 (j2 h)
    .exact j2 h
    .exact j3 (j3 h)
   .rintro (h|h|h)
    .exact j2 (j3 h)
    .exact j2 (j2 h)
    .exact j3 h
def L8(x y):∀d l,y∈Oj d l x↔y∈l\/∃r∈d,r.E.a=x/\y∈(r.bl.filter L5).map λq=>q.1.A.a
 |[],l=>by simp[Oj]
 |r::d,l=>by
  have ih:=L8 x y d (Ot x l r);unfold Oj at ih|-;rw[mK,ih];unfold Ot;cases hr:(r.E.a.toList==x.toList)with
  |true=>
   have g:=Gx hr;simp only[ro,Lo];constructor
   .rintro ((h|h)|⟨c,a,b⟩)
    .exact j2 h
    .exact j3 ⟨r,ln,g,h⟩
    .exact j3 ⟨c,sr,b⟩
   .rintro (h|⟨c,a,b,f⟩)
    .exact j2 (j2 h)
    .rcases l9.1 a with rfl|a
     .exact j2 (j3 f)
     .exact j3 ⟨c,a,b,f⟩
  |false=>
   (have i:r.E.a≠x:=λe=>by rw[e]at hr;simp at hr);constructor
   .rintro (h|⟨c,a,b⟩)
    .exact j2 h
    .exact j3 ⟨c,sr,b⟩
   .rintro (h|⟨c,a,b,f⟩)
    .exact j2 h
    .rcases l9.1 a with rfl|a
     .exact rl b i
     .exact j3 ⟨c,a,b,f⟩
def QF{d}{c}(e:c∈d){l}:∀(b:kN Bc) (a),(∀q∈b,q∈c.bl)->FE d l a->FE d l (qU zF a b)
 |[],a,_,h=>h
 |q::b,a,hs,h=>by
  exact QF e b _ (λf g=>hs f (by simp[g])) (h.zF e (hs q ln))
def RF{d}{l}(x):∀a b,(∀c∈a,c∈d)->FE d l b->FE d l (Oj a b x)
 |[],b,_,h=>h
 |c::a,b,hs,h=>by
  refine RF x a _ (λg f=>hs g (by simp[f])) ?_;unfold Ot;split
  .exact QF (hs c ln) c.bl _ (λq e=>e) h
  .exact h
def Rt{a}{t g}:∀f l n,2+Z (Dz a)<=f+n->Bd a l->n<=Z l->(∀i h,i<n->l[i]≠g)->
  (∀i h,i<n->∀r∈a,r.E.a=l[i]->∀y∈(r.bl.filter L5).map (λq=>q.1.A.a),y∈l)->t∈l->(∀y∈l,SR a t y)->(KZ f a g l n=T6↔SR a t g)
 |0,l,n,hf,hb,hn,_,_,_,_=>by
  unfold Bd at hb;omega
 |f+1,l,n,hf,hb,hn,hno,hcl,hfr,hso=>by
  rw[KZ];by_cases m:n<Z l
  .rw[dif_pos m];cases he:(l[n].toList==g.toList)with
   |true=>
    have:=Gx he;simp;rw[<-this];exact hso _ (lV m)
   |false=>
    have o:FE a l _:=RF l[n] a l (λc E=>E) ⟨⟨[],ln⟩,hb⟩;(have x:l[n]≠g:=λe=>by rw[e]at he;simp at he);have F:=o.len.1;refine Rt f _ (n+1) lc o.bd lc ?_ ?_ ((L8 _ _ _ _).2 (j2 hfr)) ?_
    .intro i k u;obtain⟨_,e⟩:=o.at (lc:i<Z l);rw[e];rcases py (lc:i<=n) with b|b
     .exact hno i lc b
     .subst b;exact x
    .intro i k u r j d y s;obtain⟨_,e⟩:=o.at (lc:i<Z l);rw[e]at d;rw[L8];rcases py (lc:i<=n) with b|b
     .exact j2 (hcl i lc b r j d y s)
     .subst b;exact j3 ⟨r,j,d,s⟩
    .intro y s;rcases(L8 _ _ _ _).1 s with b|⟨r,j,d,B⟩
     .exact hso y b
     .intro S D v;have w:=hso _ (lV m) S D v;rw[<-d]at w;exact v r j w y (by exact mP _ B)
  .rw[dif_neg m];simp;intro C;have u:=C _ hfr (λr j d z p=>by
    obtain⟨i,k,e⟩:=mS d
    rcases l9.1 p with rfl|p
    .exact d
    .exact hcl i k lc r j e.symm z p)
   obtain⟨i,k,e⟩:=mS u;exact hno i k lc e
def M5(b a c):In b a c=T6↔SR b a c:=by
 refine Rt _ [a] 0 lc ?_ ln (λi h f=>lc) (λi h f=>lc) ln (λy d S e _=>qr);unfold Bd QT;have:=ql (p:=λx=> !DP [a] x) (l:=Dz b);exact li
structure Hm(l:PL):Prop where
 some:Bk l=T6->0<Z l.ts
 le:Z l.ts<=151
 plain:Bk l=K->l.ts=[]
 bare:Bk l=T6->l.l=AZ/\l.r=AZ
def QG{c:kN Bb}:∀k a (d) {b:kN AY} {n:Nat},Z c-a<=k->GW c a d=.ok (b,n)->0<Z b/\Z b<=Z d+(Z c-a+1)/2
 |k,a,d,b,n,hk,h=>by
  unfold GW at h;split at h
  .split at h
   .cases h
   .split at h
    .match k with
     |0=>omega
     |k+1=>
      have:=QG k (a+2) _ lc h;exact qy
    .split at h
     .simp at h;rw[<-h.1];exact li
     .cases h
  .cases h
def Nn{b:kN Bb}(d:Z b<=301){a}(h:Ep b m=.ok ((k,s,a),n)):0<Z a/\Z a<=151:=by
 unfold Ep at h;split at h
 .split at h
  .split at h
   .cases h
   .rename_i c;have:=QG _ _ _ (mt _) c;exact qy
  .cases h
 .cases h
def ci{g:kN Bb}(j:Z g<=301){l}(h:G5 g m=.ok (l,n)):Hm (KU l):=by
 unfold G5 at h;split at h
 .split at h
  .cases h
  .rename_i a k b;have:=Nn j b;simp at h;rw[<-h.1];exact⟨λ_=>this.1,this.2,λf=>by simp[KU,Bk]at f,λ_=>⟨rfl,rfl⟩⟩
 .split at h
  .split at h
   .cases h
   .rename_i a k b;have:=Nn j b;simp at h;rw[<-h.1];exact⟨λ_=>this.1,this.2,λf=>by simp[KU,Bk]at f,λ_=>⟨rfl,rfl⟩⟩
  .split at h
   .cases h
   .rename_i c k b;simp at h;rw[<-h.1];have d:c.sort=2\/c.sort=3\/c.sort=4:=by
     unfold Mv at b;split at b
     .cases b
     .split at b
      .cases b
      .rename_i q d;split at b
       .cases b
       .simp at b;rw[<-b.1];unfold OD at d;split at d
        .exact qr
        .split at d
         .exact qr
         exact qr
    have i:Bk (KU (.inr c))=T6->False:=λf=>by
     unfold Bk KU at f;exact qy
    exact⟨λf=>(i f).elim,by simp[KU],λ_=>rfl,λf=>(i f).elim⟩
def Nl{a:kN Bb}(g:Z a<=301):∀k b (d) {e:kN PL} {n:Nat},Z a-b<=k->(∀l∈d,Hm l)->Fe a b d=.ok (e,n)->(∀l∈e,Hm l)/\Z e<=Z d+(Z a-b+1)/2
 |k,b,d,e,n,hk,ha,h=>by
  by_cases f:b<Z a
  .cases hl:G5 a b with
   |error p=>rw[IZ f hl]at h;cases h
   |ok r=>
    obtain⟨l,j⟩:=r;have o:=JM hl;have m:=ci g hl;have i:∀x∈d++[KU l],Hm x:=by
     intro x c;rcases mi.1 c with c|c
     .exact ha x c
     exact qr
    rw[OC f hl]at h;split at h
    .match k with
     |0=>omega
     |k+1=>
      have:=Nl g k (j+1) _ lc i h;exact qy
    .simp at h;rw[<-h.1];refine⟨i,?_⟩;exact li
  .unfold Fe at h;rw[dif_neg f]at h;cases h
structure Lf(c:PC):Prop where
 E:0<Z c.zA/\Z c.zA<=151
 body:Z c.body<=151
 g:∀l∈c.body,Hm l
def aA{b}{c a}(h:OQ b n c=.ok (a,m)):a=c:=by
 unfold OQ at h;split at h
 .exact qr
 .cases h
def Vi{a:kN Bb}(b:Z a<=301){c}(h:C0 a m=.ok (c,n)):Lf c:=by
 unfold C0 at h;split at h
 .cases h
 .rename_i p s i j g;have e:=Nn b g;split at h
  .cases h
  .split at h
   .split at h
    .cases h
    .rename_i l k f;have d:=Nl b _ _ _ (mt _) ln f;rw[aA h];simp only[mI]at d;exact⟨e,li,d.1⟩
   .rw[aA h];exact⟨e,ln,ln⟩
def Kp{a:kN Bb}(i:Z a<=301):∀k b (e) {g:kN PC},Z a-b<=k->(∀c∈e,Lf c)->Dq a b e=.ok g->(∀c∈g,Lf c)/\Z g<=Z e+(Z a-b)
 |k,b,e,g,hk,ha,h=>by
  by_cases f:b<Z a
  .cases he:((Au a b).b==1)with
   |true=>
    rw[Pa f he]at h;exact qr
   |false=>
    cases hc:C0 a b with
    |error p=>rw[LA f he hc]at h;cases h
    |ok r=>
     obtain⟨c,n⟩:=r;have l:=Hq hc;rw[St f he hc]at h;have j:∀x∈e++[c],Lf x:=by
      intro x d;rcases mi.1 d with d|d
      .exact ha x d
      .simp at d;subst d;exact Vi i hc
     match k with
     |0=>omega
     |k+1=>
      have:=Kp i k n _ lc j h;exact qy
  .unfold Dq at h;rw[dif_neg f]at h;cases h
def ON{α β:Type}(f:α->kN β)(N):∀l:kN α,(∀a∈l,Z (f a)<=N)->Z (qS f l)<=Z l*N
 |[],_=>ln
 |a::l,h=>by
  have c:=ON f N l (λx b=>h x sq);have d:=h a ln;rw[mB,mp,mn,oD];omega
def Sa{c}(h:Lf c.pc):lq c/\Z (Cq c)<=152:=by
 have d:Z c.ea<=151:=by have:=h.body;simpa[CQ.pc] using this
 have b:∀p∈c.ea,Hm p.1:=λp a=>h.g p.1 (by exact me.2 ⟨p,a,rfl⟩)
 have e:0<Z c.zA/\Z c.zA<=151:=h.E;refine⟨⟨⟨⟨e.1,lc⟩,lc,λp a=>⟨(b p a).some,by have:=(b p a).le;omega⟩⟩,?_⟩,?_⟩
 .have f:Z (A6 c.ea)<=Z c.ea*151:=ON _ 151 _ (λp a=>by
   unfold AQ
   split
   .exact(b p a).le
   .simp)
  unfold Bl;exact li
 .unfold Cq GH;have:=nL (λp=>Bk p.1) c.ea;exact li
def PE{a}:∀l i,EH a i l=Y->∀k h,Cr a (i+k) l[k]=Y
 |[],i,_,k,h=>pp
 |c::l,i,h,k,hk=>by
  rw[EH]at h;cases hc:Cr a i c with
  |some r=>rw[hc]at h;simp at h
  |none=>
   rw[hc]at h;cases k with
   |zero=>exact hc
   |succ k=>
    have:=PE l (i+1) h k (by simpa using hk);rw[show i+(k+1)=i+1+k by omega];exact li
structure B8(cs:kN AW):Prop where
 j:∀k (h:k<Z cs),Cr cs k cs[k]=Y
 strata:cs.findSome? (DX cs)=Y
def JH{cs}(h:CH cs=(0,0)):B8 cs:=by
 unfold CH at h;cases h1:EH cs 0 cs with
 |some r=>
  rw[h1]at h;simp at h;have:∀(l:kN AW) (i:Nat) (r:Int×Int),EH cs i l=V r->r.1≠0:=by
   intro l
   induction l with
   |nil=>intro i r b;simp[EH]at b
   |cons c l ih=>
    intro i r b;rw[EH]at b;cases a:Cr cs i c with
    |some q=>
     rw[a]at b;simp at b;subst b;unfold Cr at a
     repeat (first
      |(split at a)
      |(simp at a;subst a;simp)
      |(cases a))
    |none=>
     rw[a]at b;exact ih (i+1) r b
  exact rl (by rw[h]) (this cs 0 r h1)
 |none=>
  rw[h1]at h;simp at h;refine⟨λk e=>by have:=PE cs 0 h1 k e;simpa using this,?_⟩;cases h2:cs.findSome? (DX cs)with
  |none=>rfl
  |some r=>
   rw[h2]at h;simp at h;obtain⟨c,_,a⟩:=List.exists_of_findSome?_eq_some h2;unfold DX at a;rw[pw]at a;obtain⟨p,_,d⟩:=a;rw[h]at d;simp at d
def E3{a}{c}(h:Cr a i c=Y):Z c.bl<=3/\Z c.E.qH<=2/\c.bl.any BC=K/\Z (EA (qT (i+1) a))<=6/\Z (Bh (qT (i+1) a))<=6/\BQ a c.E.a=(Z c.E.qH:Int)/\c.bl.find? (Ci a)=Y/\D4 c.E c.bl<0:=by
 unfold Cr at h;by_cases d:12<=i\/3<Z c.bl
 .rw[mo d]at h;cases h
 rw[mm d]at h;by_cases g:2<Z c.E.qH
 .rw[mo g]at h;cases h
 rw[mm g]at h;by_cases f:c.bl.any BC=T6
 .rw[mo f]at h;cases h
 rw[mm f]at h;by_cases b:6<Z (EA (qT (i+1) a))\/6<Z (Bh (qT (i+1) a))
 .rw[mo b]at h;cases h
 rw[mm b]at h;by_cases e:BQ a c.E.a≠Z c.E.qH
 .rw[mo e]at h;cases h
 rw[mm e]at h;cases h6:c.bl.find? (Ci a)with
 |some p=>rw[h6]at h;cases h
 |none=>
  exact qr
def OY{b}{a}(h:D4 b a<0):(∀t∈b.qH,C9 a t=K)/\∀p∈a,∀t∈AA p,C9 a t=K:=by
 unfold D4 at h;cases h1:b.qH.any (C9 a)with
 |true=>rw[h1,mo rfl]at h;omega
 |false=>
  cases h2:a.find? (Kg a)with
  |some p=>exact qy
  |none=>
   refine⟨λt c=>?_,λp e t c=>?_⟩
   .exact qr
   .have d:=(ol.1 h2) p e;unfold Kg at d;exact qr
def GQ{c}{t}(h:C9 c.bl t=K):Fh (Am c) t:=by
 unfold C9 at h;rw[Bool.not_eq_false',nN]at h;rcases h with h|h
 .exact j2 sE
 .right;unfold Lb at h;rw[nD]at h;obtain⟨p,b,a⟩:=h;unfold Le at a;rw[mC]at a;unfold S4 at a;rw[nD]at a;obtain⟨d,u,e,f⟩:=a;exact⟨p.1,mx b,d,u,e,by simpa using f⟩
def B8.zD{b}(h:B8 b)(i:∀c∈b,∀x∈Am c,(x.b==97)=T6->∀t∈x.A.qH,BJ t):RM b:=by
 have j:∀c∈b,D4 c.E c.bl<0:=by
  intro c a;obtain⟨k,g,rfl⟩:=mS a;exact(E3 (h.j k g)).2.2.2.2.2.2.2
 refine⟨i,λc a x m g=>?_,λc a t i=>GQ ((OY (j c a)).1 t i)⟩;obtain⟨p,l,rfl⟩:=me.1 m;have d:=(OY (j c a)).2 p l;refine⟨λf t o=>?_,λf=>?_⟩
 .refine GQ (d t ?_);unfold AA L5;rw[f,pY,mo rfl];exact o
 .have n:L5 p=K:=by unfold L5;rw[g,f];rfl
  have e:AA p=[p.1.L,p.1.R]:=by unfold AA;rw[n];rfl
  rw[e]at d;exact⟨GQ (d _ ln),GQ (d _ ln)⟩
def B8.strat{j}(h:B8 j):dS j:=by
 rintro x y ⟨c,A,B,l,f,s,e⟩ n;have a:(l.b==33)=T6:=qr
 obtain⟨p,m,rfl⟩:=me.1 f;have i:=(pR.1 h.strata) c A;unfold DX at i;rw[Option.map_eq_none_iff,ol]at i;have g:=i p m;unfold Fg at g;rw[a,nQ]at g;apply g;rw[M5,s,B];intro S t w;refine n S t (λu v b r z=>?_);obtain⟨d,k,rfl,l,f,rfl,e⟩:=r;obtain⟨q,o,rfl⟩:=me.1 f;refine w d k z _ ?_;refine mP _ (me.2 ⟨q,my.2 ⟨o,?_⟩,rfl⟩);unfold L5;rcases e with⟨a,_⟩|⟨a,_⟩
 .rw[a];rfl
 .rw[a,pY]
def B8.levels{a}(h:B8 a):CP a (BW a 6):=by
 by_cases e:Z a=0
 .have:a=[]:=ot e;subst this;exact⟨λc b=>by simp at b,λc b=>by simp at b⟩
 .have d:=(E3 (h.j (Z a-1) lc)).2.2.2.1;rw[show Z a-1+1=Z a by omega,nw]at d;refine iB h.strat _ (λc b=>?_) d;rw[NJ,(C8 _).2];exact mH.2 ⟨c,b,by unfold Hi;simp⟩
end
section
variable{p:kN CQ}{s:bN}{w u:World}{z:Value}{n m j:Nat}
def Q3(c:PC):kN bN:=c.hn::(c.body.filter Bk).map λl=>l.an
def TB(c):Cq c=Q3 c.pc:=by
 unfold Cq Q3 GH CQ.pc;simp only[List.filter_map,nh];rfl
def IP(x):Bk (Mn x)=(x.b==97||x.b==33):=by
 unfold Bk Mn;simp only[Th,dY]
def Ue(r):Hi r=Q3 (im r.erase):=by
 unfold Hi Q3 im AW.erase;simp only[nh,List.filter_map]
 have:(Bk∘(Mn∘kD))=L5:=by
  funext q
  simp only[Function.comp,IP];rfl
 rw[this];rfl
def Yl(c:Cv):AW:=⟨c.E,U Y 0 0,U Y 0 0,c.body.map λx=>(x,U Y 0 0),c.e⟩
def P3(c):(Yl c).erase=c:=by
 unfold Yl AW.erase;simp;have:(kD∘λx:Bt=>(x,U Y 0 0))=id:=rfl;rw[this,List.map_id]
def jK(s:bN):bN->bN->rD:=In ((Ao s (Af s 0)).1.map Yl)
def Xb{l}(h:p.map CQ.pc=l.map λr=>im r.erase)(x y):Iq p x y↔SR l x y:=by
 have k:=F2.of_map h;constructor
 .intro e S i g;refine e S i (λc f b z d=>?_);obtain⟨r,m,a⟩:=k.yG c f;rw[TB,a,<-Ue]at d;have j:c.hn=r.E.a:=rk PC.hn a;rw[j]at b;exact g r m b z d
 .intro e S i g;refine e S i (λr n b z d=>?_);obtain⟨c,f,a⟩:=k.mem r n;rw[Ue,<-a,<-TB]at d;have j:c.hn=r.E.a:=rk PC.hn a;rw[<-j]at b;exact g c f b z d
def KO(s:bN):match Dq (DB s) 0 [] with
  | .ok cs=>(Ao s (Af s 0)).2.2=false/\cs=(Ao s (Af s 0)).1.map im/\(∀c∈(Ao s (Af s 0)).1,c.e=c.E.e)
  | .error p=>(Ao s (Af s 0)).2.2=true/\p=((Ao s (Af s 0)).2.1:Int):=by
 have a:At s (DB s) 0 0:=by
  rw[Ku];rfl
 have:=bo _ 0 _ [] (mt _) a.gap (BI s 0 (mr _)) (CF s 0)
 exact oa
def KM(n:s.size<=300){d}(e:Dq (DB s) 0 []=.ok d)(b:p.map CQ.pc=d):VW (jK s) p:=by
 have j:=(JT s).1;have h:=Kp lc _ 0 [] (mt _) ln e;have f:=KO s;rw[e]at f;have m:Z p=Z d:=by rw[<-b];simp
 have g:∀c∈p,Lf c.pc:=λc a=>h.1 _ (by rw[<-b];exact me.2 ⟨c,a,rfl⟩)
 have i:=h.2;simp only[mI]at i;refine⟨λx y=>?_,λc a=>(Sa (g c a)).1,lc,?_⟩
 .unfold jK;rw[M5];refine(Xb ?_ x y).symm;rw[b,f.2.1,nh];apply nj;intro c _;simp only[Function.comp,P3]
 .have l:=ON Cq 152 p (λc a=>(Sa (g c a)).2);omega
def il{c}{r}(h:c.pc=im r.erase)(l:Lf c.pc)(b:Wf c)(m:r.e=r.E.e):Qi c r:=by
 have g:c.hp=r.E.e:=rk PC.hp h;have n:c.hn=r.E.a:=rk PC.hn h;have e:c.zA=r.E.qH.map ct:=rk PC.zA h;have j:c.ea.map kD=r.bl.map λq=>Mn q.1:=by
  have:c.ea.map kD=(r.bl.map kD).map Mn:=rk PC.body h;rw[this,nh];rfl
 refine⟨g,n,e,?_,by rw[b.E,e];simp,m⟩;refine(F2.of_map j).G (λp d q o a=>⟨a,?_,λi=>?_⟩)
 .rw[b.g p d,a];simp[Mn]
 .have k:=l.g p.1 (me.2 ⟨p,d,rfl⟩);have:Bk p.1=false:=by rw[a,IP];exact i
  have f:=k.plain this;rw[a]at f;simpa[Mn] using f
def Fc{e h}{r}(a:Ds s e h)(b:EC s (jK s) r):r=(e,h):=by
 unfold Ds at a;unfold EC at b;by_cases m:300<s.size
 .exact qr
 .rw[mm m]at a b;have d:=KO s;cases hp:Dq (DB s) 0 [] with
  |error p=>
   exact qr
  |ok cs=>
   rw[hp]at d b;rw[mm (by rw[d.1];simp)]at a;obtain⟨g,j,z⟩:=a;obtain⟨k,f,t,v⟩:=b;have A:=(JT s).1;have q:=Kp lc _ 0 [] (mt _) ln hp;have n:k.map CQ.pc=g.map λr=>im r.erase:=by
    rw[f,d.2.1,<-j,nh];rfl
   have hF:F2 Qi k g:=(F2.of_map n).G (λc l i o w=>il w (q.1 _ (by rw[<-f];exact me.2 ⟨c,l,rfl⟩)) (t c l) (by
    have:=d.2.2 _ (by rw[<-j];exact me.2 ⟨i,o,rfl⟩)
    exact this))
   have u:∀x y,jK s x y=In g x y:=by
    intro x y;rw[nz,(KM lc hp f).ya,M5];exact Xb n x y
   rw[v,z];exact Zd hF u
theorem Gp(n w):rE rF 16 #[X .i64 n] w λe a=>e=.returned (X .i64 n)/\a=w:=by
 go_wp2;go_ret;exact ln
set_option maxRecDepth 100000
theorem Tv(S T:bN)(w)(n:S.size<=9223372036854775807):rE rF 39 #[.agg #[X .i64 1,O S,O T]] w λe o=>e=.returned (.bool true)/\Ac [] w o:=by
 have i:=Ab (kS w [X .i64 1,O S,O T] 29);have j:=Ab ((kR [] w).alloc (.cells #[X .i64 1,O S,O T] 29));have k:=Ab (bM S (jK S) (w.alloc (.cells #[X .i64 1,O S,O T] 29)) n (λu E t C v=>KM u t v));go_enter func39,ntmps39;go_wp2_with fail
 refine k.G ?_;rintro e y ⟨r,rfl,h,a⟩;have b:=i.C a;have g:=Ab (j.H a);have l:=Ab (gI S y n);have f:=b.D 1;simp at f;have c:=Ab h;clear k a h i j;go_wp2_with fail
 refine l.G ?_;rintro e p ⟨D,q,B,rfl,m,d⟩;have z:=Fc m c;subst z;have x:=Ab (g.H d);clear l m d c f b g;go_wp2_with fail
 refine(Gp q p).G ?_;rintro e A ⟨rfl,s⟩;subst s;go_wp2;go_ret;exact⟨ln,x⟩
def RU(w:World)(ab ao:Nat)(len:Nat)(K:Nat->Int)(S T:Nat->bN):Prop:=
 ∀i,i<len->w.cell? ⟨ab,ao+i*3,Y⟩=some (X .i64 (K i))/\w.cell? ⟨ab,ao+i*3+1,Y⟩=some (O (S i))/\w.cell? ⟨ab,ao+i*3+2,Y⟩=some (O (T i))
def Pq(k:Ac [] w u){a}(h:w.cell? a=some z):u.cell? a=some z:=by
 rw[World.cell?_of_block (k.block _ (World.block_lt_of_cell? w a h) ln)];exact h
def RU.C{w w'}{b}{S T}(h:RU w n m j b S T)(k:Ac [] w w'):RU w' n m j b S T:=
 λi a=>⟨Pq k (h i a).1,Pq k (h i a).2.1,Pq k (h i a).2.2⟩
def Ru(c:s.size<=300){a}(h:FU (DB s)=.ok a):(∀l∈a,Hm l)/\Z a<=151:=by
 have b:=(JT s).1;unfold FU at h;cases hb:Fe (DB s) 0 [] with
 |error p=>rw[hb]at h;cases h
 |ok r=>
  rw[hb]at h;simp only at h;split at h
  .have:=Nl lc _ 0 [] lc ln hb;exact qy
  .cases h
def qR(pcs:kN CQ)(ea:kN L6):Int×Int:=
 match kp pcs (AU ea)with
 |some p=>(4,p)
 |none=>match(ea.find? λp=>(AQ p.1).any (DD ea)).map λp=>p.1.c with
  |some p=>(5,p)
  |none=>(0,0)
def jN(s:bN)(pcs:kN CQ)(r:Int×Int):Prop:=
 if 300<s.size then r=(1,0)
 else match FU (DB s)with
  | .error p=>r=(2,p)
  | .ok ls=>if 3<Z ls then r=(3,0)else∃ea:kN L6,ea.map kD=ls/\(∀p∈ea,lenOf p.2=Z p.1.ts)/\r=qR pcs ea
def io(s:bN)(pcs:kN CQ)(w:World)(lv:Value)(n:Nat)(r:Int×Int):Prop:=
 r.1=0->s.size<=300/\∃ea:kN L6,FU (DB s)=.ok (ea.map kD)/\(∀p∈ea,Hm p.1)/\Z ea<=3/\n=Z ea/\Cg w 0 lv ea/\(∀p∈ea,lenOf p.2=Z p.1.ts)/\qR pcs ea=(0,0)
def Cg.len{c}(h:Cg w n z c):∀p∈c,(∃b a,p.2=U b (Z p.1.ts) a)/\lenOf p.2=Z p.1.ts:=by
 intro p d;obtain⟨b,a,e⟩:=Aj (h.j p d).1;exact⟨⟨b,a,e⟩,by rw[e];rfl⟩
theorem cV(s:bN)(M I)(d:kN CQ)(w)(FL:s.size<=9223372036854775807)(h:CA w (U M (Z d) I) d)(F:∀c∈d,Z c.ea<=1000)(Bx:Z d<=1000):rE rF 51 #[O s,U M (Z d) I] w λe u=>∃(q:rB) (n t:Nat) (r:Int×Int),e=.returned (.tuple #[U q n t,X .i64 r.1,X .i64 r.2])/\jN s d r/\io s d u (U q n t) n r/\Ac [] w u:=by
 have P:=Ab (And.intro h (And.intro F Bx));clear h F Bx;by_cases B0:300<s.size
 .have j:Hid (jN s d (1,0)):=by show jN _ _ _;unfold jN;rw[mo B0]
  go_wp2;go_ret3;exact⟨Y,0,0,(1,0),rfl,j.o,(λh=>oj),kR _ _⟩
 .have hs:s.size<=300:=by omega
  have S:=Ab (Va s w hs);have j:Hid (∀r,(match FU (DB s)with
    | .error p=>r=(2,p)
    | .ok k=>if 3<Z k then r=(3,0)else∃b:kN L6,b.map kD=k/\(∀p∈b,lenOf p.2=Z p.1.ts)/\r=qR d b)->jN s d r):=by
   intro r hr;unfold jN;rw[mm B0];exact hr
  have Q:Hid (∀k,FU _=.ok k->(∀l∈k,Hm l)/\Z k<=151):=λk h=>Ru hs h
  go_enter func51,ntmps51;go_wp2_with fail
  refine(Aa S).G ?_;intro e y G;cases i:FU (DB s)with
  |error p=>
   rw[i]at G j;obtain⟨rfl,C⟩:=G;go_wp2;go_ret3;exact⟨Y,0,0,(2,p),rfl,j.o _ rfl,(λh=>oj),C⟩
  |ok k=>
   rw[i]at G j;obtain⟨q,t,b,rfl,FA,B9,C⟩:=G;obtain⟨hg,DT⟩:=Aa Q k i;have B2:=Ab i;subst FA;simp only[mh]at DT j|-;(have A:Hid (∀p∈b,Hm p.1):=λp g=>hg p.1 (mx g));have o:=Ab (B9.base (mr _));have B:=Ab C;clear S Q i hg B9 C;rw[mh]at o;by_cases h3:3<Z b
   .have ES:=Ab (Aa j (3,0) li);go_wp2;go_ret3;exact⟨Y,0,0,(3,0),rfl,ES.o,(λh=>oj),Aa B⟩
   ·have F:Z b<=3:=lc;have E:Hid (jN s d _):=Aa j _ (by rw[mm h3];exact⟨b,rfl,λp g=>((Aa o).len p g).2,rfl⟩);have W:=Ab (MT q t b y (Aa o) lc);have D:Hid (∀x v f,Ac [] y f->f.ownsRow y.heap.size 187 3 (U x (Z (AU b)) v) (Z (AU b)) (qS AV (AU b))->rE rF 91 #[U x (Z (AU b)) v,U M (Z d) I] f λe u=>e=.returned (BL (kp d (AU b)))/\Ac [] f u):=by
     intro x v f z L;refine MJ x v _ _ M I d f L ?_ (by have:=En b;omega) ?_ ((Aa P).1.C ((Aa B).H z)) (Aa P).2.1 (Aa P).2.2
     .intro a i;obtain⟨p,g,rfl⟩:=me.1 i;obtain⟨⟨EX,EY,e'⟩,_⟩:=(Aa o).len p (my.1 g).1;exact⟨EX,_,EY,e'⟩
     .intro a i;obtain⟨p,g,rfl⟩:=me.1 i;have h1:=((Aa o).len p (my.1 g).1).2;have h2:=(Aa A p (my.1 g).1).le;exact li
    have H:Hid (∀f,Ac [] y f->rE rF 93 #[U q (Z b) t] f λe u=>e=.returned (BL ((b.find? λp=>(AQ p.1).any (DD b)).map λp=>p.1.c))/\Ac [] f u):=by
     intro f z;have A0:∀p∈b,Z (AQ p.1)<=1000:=λp g=>by
      have:=(Aa A p g).le;unfold AQ;split<;>simp<;>omega
     refine IR q t b f ((Aa o).C z) lc (λp g R=>?_) A0 ?_
     .have:=Aa A p g;exact⟨this.some (by unfold Bk;rw[R];rfl),by have:=this.le;omega⟩
     .have h1:=UB b;have h2:=Jf A0;omega
    have m:Hid (qR d b=match kp d (AU b)with
     |some p=>(4,p)
     |none=>match(b.find? λp=>(AQ p.1).any (DD b)).map λp=>p.1.c with
      |some p=>(5,p)
      |none=>(0,0)):=lx
    (have AH:Hid (qR d b=(0,0)->∀f,Ac [] y f->io s d f (U q (Z b) t) (Z b) (0,0)):=λR f z _=>⟨hs,b,Aa B2,Aa A,F,rfl,(Aa o).C z,λp g=>((Aa o).len p g).2,R⟩);generalize AU b=AT at W D m;generalize kp d AT=AO at D m;generalize(b.find? λp=>(AQ p.1).any (DD b)).map (λp=>p.1.c)=UO at H m;generalize qR d b=QR at E m AH;clear j o A B2 P;(go_wp2_with fail);refine(Aa W).G ?_;rintro e w2 ⟨x,v,rfl,L,k2⟩;have BS:=Ab (Aa D x v w2 k2 L);have BA:=Ab k2;clear L k2 W D;(go_wp2_with fail);refine(Aa BS).G ?_;rintro e w3 ⟨rfl,k3⟩;have N:=Ab ((Aa BA).H k3);clear k3 BS BA;cases AO with
    |some p=>
     simp only[BL];have HE:=Ab (Aa m);clear m H;go_wp2;go_ret3;exact⟨Y,0,0,4,p,rfl,qw,(λh=>oj),(Aa B).H (Aa N)⟩
    |none=>
     simp only[BL];have A2:=Ab (Aa H w3 (Aa N));clear H;(go_wp2_with fail);refine(Aa A2).G ?_;rintro e w4 ⟨rfl,k4⟩;have T:=Ab ((Aa N).H k4);clear k4 A2 N;cases UO with
     |some p=>
      simp only[BL];go_wp2;go_ret3;exact⟨Y,0,0,5,p,rfl,qw,(λh=>oj),(Aa B).H (Aa T)⟩
     |none=>
      simp only[BL];go_wp2;go_ret3;exact⟨q,Z b,t,0,0,rfl,qw,Aa AH (Aa m) _ (Aa T),(Aa B).H (Aa T)⟩
end
variable{k n b m:Nat}{w u:jH}{z:Value}{e:kN bN}{c:kN AW}{s t:bN}{g:rC}{f:kN Ae}
def D7(a b:bN):Int:=if kG a.toList b.toList then -1 else if kG b.toList a.toList then 1 else 0
theorem XA(a:bN)(w):rE rF 186 #[O a] w λe b=>e=j1 (kx K)/\b=w:=by
 have h:(a.toList==a.toList)=T6:=ln
 have c:(a.toList !=a.toList)=K:=by simp[bne]
 go_enter func186,ntmps186;go_wp2;all_goals go_ret
 all_goals first|exact⟨rfl,rfl⟩|exact⟨ln,rfl⟩
theorem Xg(a:bN)(w):rE rF 215 #[O a] w λe b=>e=j1 (kx K)/\b=w:=by
 have h:(a.toList==a.toList)=T6:=ln
 have c:(a.toList !=a.toList)=K:=by simp[bne]
 go_enter func215,ntmps215;go_wp2;all_goals go_ret
 all_goals first|exact⟨rfl,rfl⟩|exact⟨ln,rfl⟩
theorem fX(a b:bN)(w):rE rF 150 #[O a,O b] w λe i=>e=j1 (X J (D7 a b))/\i=w:=by
 have h:=Ab (XA a w);have g:=Ab (XA b w);have f:jV (D7 a b=if kG a.toList b.toList then -1 else if kG b.toList a.toList then 1 else 0):=rfl;generalize D7 a b=C at f|-;go_enter func150,ntmps150;go_wp2_with fail
 refine h.G ?_;rintro e k ⟨rfl,rfl⟩;go_wp2_with fail
 refine g.G ?_;rintro e j ⟨rfl,rfl⟩;clear h g;cases h1:kG a.toList b.toList with
 |true=>
  have d:jV (C= -1):=by show _=_;rw[Aa f,h1];rfl
  go_wp2;go_ret;rw[Aa d];exact⟨rfl,rfl⟩
 |false=>
  cases h2:(a.toList==b.toList)with
  |false=>
   have c:kG b.toList a.toList=T6:=SO _ _ h1 h2;(have d:jV (C=1):=by show _=_;rw[Aa f,h1,c];rfl);clear c;go_wp2;go_ret;rw[Aa d];exact⟨rfl,rfl⟩
  |true=>
   have c:kG b.toList a.toList=K:=by rw[show a.toList=b.toList from by simpa using h2];exact Qe _
   (have d:jV (C=0):=by show _=_;rw[Aa f,h1,c];rfl);clear c;go_wp2;go_ret;rw[Aa d];exact⟨rfl,rfl⟩
theorem fH(a b:bN)(w):rE rF 187 #[O a,O b] w λe i=>e=j1 (X J (D7 a b))/\i=w:=by
 have h:=Ab (Xg a w);have g:=Ab (Xg b w);have f:jV (D7 a b=if kG a.toList b.toList then -1 else if kG b.toList a.toList then 1 else 0):=rfl;generalize D7 a b=C at f|-;go_enter func187,ntmps187;go_wp2_with fail
 refine h.G ?_;rintro e k ⟨rfl,rfl⟩;go_wp2_with fail
 refine g.G ?_;rintro e j ⟨rfl,rfl⟩;clear h g;cases h1:kG a.toList b.toList with
 |true=>
  have d:jV (C= -1):=by show _=_;rw[Aa f,h1];rfl
  go_wp2;go_ret;rw[Aa d];exact⟨rfl,rfl⟩
 |false=>
  cases h2:(a.toList==b.toList)with
  |false=>
   have c:kG b.toList a.toList=T6:=SO _ _ h1 h2;(have d:jV (C=1):=by show _=_;rw[Aa f,h1,c];rfl);clear c;go_wp2;go_ret;rw[Aa d];exact⟨rfl,rfl⟩
  |true=>
   have c:kG b.toList a.toList=K:=by rw[show a.toList=b.toList from by simpa using h2];exact Qe _
   (have d:jV (C=0):=by show _=_;rw[Aa f,h1,c];rfl);clear c;go_wp2;go_ret;rw[Aa d];exact⟨rfl,rfl⟩
def E8:kN bN->kN bN->Int
 |[],[]=>0
 |[],_::_=> -1
 |_::_,[]=>1
 |x::l,y::m=>if D7 x y=0 then E8 l m else D7 x y
def bB{l m:kN bN}(a)(b:k<Z m):E8 (l.drop k) (m.drop k)=if D7 l[k] m[k]=0 then E8 (l.drop (k+1)) (m.drop (k+1))else D7 l[k] m[k]:=by
 rw[mu a,mu b,E8]
def Nt(h:kt w n 170 1 z (Z e) (qS Ai e))(k d):∃g a,z=U (V ⟨g,0,Y⟩) (Z e) a/\jY w ⟨g,k,Y⟩=V (O e[k]):=by
 obtain⟨g,a,f,_,i⟩:=Az h (λc _=>rfl) k d;have b:=i k d 0 lc;simp[Ai]at b;exact⟨g,a,f,b⟩
set_option maxRecDepth 100000
theorem U7(x p)(l:kN bN)(n s)(m:kN bN)(w)(q:kt w 0 170 1 (U x (Z l) p) (Z l) (qS Ai l))(j:kt w 0 170 1 (U n (Z m) s) (Z m) (qS Ai m))(W:Z l<=1000000)(hm:Z m<=1000000):rE rF 151 #[U x (Z l) p,U n (Z m) s] w λe A=>e=j1 (X J (E8 l m))/\A=w:=by
 have F:=Ab q;have E:=Ab j;obtain⟨R,g⟩:=kQ (E8 l m);rw[g];have t:jV (E8 (l.drop 0) (m.drop 0)=R):=g;clear q j g;go_enter func151,ntmps151;go_wp2
 go_loopg [11] (Z l) (λgk i wr=>∃(k:Nat),i=X J k/\k<=Z l/\k<=Z m/\gk=Z l-k/\jV (E8 (l.drop k) (m.drop k)=R)/\w=wr)
 case atStart=>exact⟨0,rfl,lc,lc,rfl,t,rfl⟩
 case round=>
  clear t;obtain⟨k,rfl,M,I,r,b,rfl⟩:=hrel;have D:=Ab r;clear r;by_cases d:k<Z l
  .obtain⟨T,Q,v,P⟩:=Nt F k d;obtain⟨rfl,_,rfl⟩:=qX v;by_cases f:k<Z m
   .obtain⟨N,S,u,H⟩:=Nt E k f;obtain⟨rfl,_,rfl⟩:=qX u;have y:¬(Z m:Int)<=(k:Int):=lc;have o:=Ab (fH l[k] m[k] w);have Df:=Ab (bB d f);generalize D7 l[k] m[k]=C at o Df;(go_wp2_with fail);refine o.G ?_;rintro e L ⟨rfl,B⟩;subst B;by_cases c:C=0
    ·have z:(C !=0)=K:=ss;have a:jV (E8 (l.drop (k+1)) (m.drop (k+1))=R):=by
      have h:=Aa b;rw[Aa Df,mo c]at h;exact h
     clear b Df;go_wp2
     go_roundg (Z l-(k+1))
     case measure=>exact qu
     case rel=>exact⟨k+1,ly,lc,lc,rfl,a,rfl⟩
    ·have z:(C !=0)=T6:=ss;have a:jV (C=R):=by
      have h:=Aa b;rw[Aa Df,mm c]at h;exact h
     clear b Df;go_wp2;go_ret;rw[<-Aa a];exact⟨rfl,rfl⟩
   ·have y:(Z m:Int)<=(k:Int):=lc;have a:jV (R=1):=by
     have h:=Aa b;rw[mu d,mN (lc:Z m<=k),E8]at h;exact h.symm
    go_wp2;go_ret;rw[Aa a];exact⟨rfl,rfl⟩
  .by_cases f:Z l<Z m
   ·have G:(Z l:Int)<(Z m:Int):=lc;have a:jV (R= -1):=by
     have h:=Aa b;rw[mN (lc:Z l<=k),mu (lc:k<Z m),E8]at h;exact h.symm
    go_wp2;go_ret;rw[Aa a];exact⟨rfl,rfl⟩
   ·have G:¬(Z l:Int)<(Z m:Int):=lc;have a:jV (R=0):=by
     have h:=Aa b;rw[mN (lc:Z l<=k),mN (lc:Z m<=k),E8]at h;exact h.symm
    go_wp2;go_ret;rw[Aa a];exact⟨rfl,rfl⟩
structure CE where
 a:bN
 dN:kN bN
structure D5 where
 f:CE
 tv:Value
def AJ(p:D5):kN Value:=[O p.f.a,p.tv]
def C6(w:jH)(p:D5):Prop:=kt w 0 170 1 p.tv (Z p.f.dN) (qS Ai p.f.dN)
def C6.C{w w'}{p}(h:C6 w p)(k:Ac [] w w'):C6 w' p:=Ad h k
def CT(a b:CE):Int:=if D7 a.a b.a=0 then E8 a.dN b.dN else D7 a.a b.a
theorem U6(a b w)(k:C6 w a)(j:C6 w b)(u:Z a.f.dN<=1000000)(x:Z b.f.dN<=1000000):rE rF 104 #[ku (Za (AJ a)),ku (Za (AJ b))] w λe z=>e=j1 (X J (CT a.f b.f))/\Ac [] w z:=by
 obtain⟨⟨d,i⟩,F⟩:=a;obtain⟨⟨c,h⟩,H⟩:=b;unfold C6 at k j;simp only at k j u x;obtain⟨r,q,rfl⟩:=Aj k;obtain⟨p,s,rfl⟩:=Aj j;have g:jV (CT ⟨d,i⟩ ⟨c,h⟩=if D7 d c=0 then E8 i h else D7 d c):=rfl;simp only[AJ];generalize CT ⟨d,i⟩ ⟨c,h⟩=R at g|-;have m:=((kR [] w).alloc (Y6 #[O d,U r (Z i) q] 104)).alloc (Y6 #[O c,U p (Z h) s] 104);have n:=Ab (fX d c ((w.alloc (Y6 #[O d,U r (Z i) q] 104)).alloc (Y6 #[O c,U p (Z h) s] 104)));have o:=Ab (U7 r q i p s h _ (Ad k m) (Ad j m) u x);have v:=Ab m;clear m k j;generalize D7 d c=C at n g;generalize E8 i h=D at o g;go_enter func104,ntmps104;go_wp2_with fail
 refine n.G ?_;rintro e G ⟨rfl,B⟩;subst B;by_cases l:C=0
 .have y:(C !=0)=K:=by simp[l]
  have t:jV (R=D):=by show _=_;rw[Aa g,mo l]
  clear g n;go_wp2_with fail
  refine o.G ?_;rintro e E ⟨rfl,A⟩;subst A;clear o;go_wp2;go_ret;rw[Aa t];exact⟨rfl,v⟩
 .have y:(C !=0)=T6:=by simp[l]
  have t:jV (R=C):=by show _=_;rw[Aa g,mm l]
  clear g n o;go_wp2;go_ret;rw[Aa t];exact⟨rfl,v⟩
structure Ic(w:jH)(sv:Value)(fs:kN D5):Prop where
 row:kt w 0 104 2 sv (Z fs) (qS AJ fs)
 j:∀p∈fs,C6 w p/\Z p.f.dN<=1000
def Ic.C{w w'}{c}{b}(h:Ic w c b)(k:Ac [] w w'):Ic w' c b:=⟨Ad h.row k,λp a=>⟨(h.j p a).1.C k,(h.j p a).2⟩⟩
def JO{b}(h:Ic w z b)(k)(d:k<Z b):
  ∃g m n a i f,z=U (V ⟨g,0,Y⟩) (Z b) m/\b[k]=⟨⟨n,a⟩,U i (Z a) f⟩/\jY w ⟨g,k*2,Y⟩=V (O n)/\jY w ⟨g,k*2+1,Y⟩=V (U i (Z a) f):=by
 obtain⟨g,m,s,_,r⟩:=Az h.row (λc _=>rfl) k d;have j:=r k d 0 lc;have l:=r k d 1 lc;obtain⟨⟨⟨n,a⟩,t⟩,o⟩:∃p,b[k]=p:=⟨_,rfl⟩;have q:=(h.j _ (lV d)).1;rw[o]at j l q;obtain⟨i,f,e⟩:=Aj q;simp at e;subst e;exact⟨g,m,n,a,i,f,s,o,j,l⟩
structure EW(fs:kN D5)(x:CE)(p:Nat):Prop where
 le:p<=Z fs
 below:∀i (h:i<Z fs),i<p->CT fs[i].f x<0
 zd:∀i (h:i<Z fs),p<=i->¬CT fs[i].f x<0
def Dg(fs:kN D5)(x:CE)(p:Nat):rD:=if h:p<Z fs then CT fs[p].f x==0 else K
theorem IX(DT CC)(c:kN D5)(x w)(h:Ic w (U DT (Z c) CC) c)(W:C6 w x)(FC:Z x.f.dN<=1000)(HH:Z c<=1000000)(CL:∀i j (l:i<Z c) (hj:j<Z c),i<=j->CT c[j].f x.f<0->CT c[i].f x.f<0):rE rF 103 #[U DT (Z c) CC,ku (Za (AJ x)),.func (.func 104) #[] #[]] w λe t=>∃p:Nat,e=j1 (.tuple #[X J p,kx (Dg c x.f p)])/\EW c x.f p/\Ac [] w t:=by
 have I:jV (∀(p:D5) wr,p∈c->Ac [] w wr->rE rF 104 #[ku (Za (AJ p)),ku (Za (AJ x))] wr λe t=>e=j1 (X J (CT p.f x.f))/\Ac [] wr t):=λp wr hp hk=>U6 p x wr ((h.j p hp).1.C hk) (W.C hk) (by have:=(h.j p hp).2;omega) lc
 have HS:=Ab h;have H:=Ab CL;obtain⟨⟨u,v⟩,xv⟩:=x;obtain⟨A,B,B9⟩:=Aj W;simp only at B9;subst B9;simp only[AJ]at I|-;simp only at H;have s:=Ab (kS w [O u,U A (Z v) B] 104);have q:=Ab ((kR [] w).alloc (Y6 #[O u,U A (Z v) B] 104));obtain⟨m,hX⟩:∃m:CE,m=⟨u,v⟩:=⟨_,rfl⟩;rw[<-hX]at H I|-;clear h W FC CL hX;go_enter func103,ntmps103;go_wp2;change Code.wp _ _ _ _ (w.alloc (Y6 #[O u,U A (Z v) B] 104));generalize w.alloc (Y6 #[O u,U A (Z v) B] 104)=w1 at s q|-;generalize w.heap.size=N at s|-
 go_loopg [9,10] (Z c) (λgk a b wr=>∃(d l:Nat),a=X J d/\b=X J l/\d<=l/\l<=Z c/\gk=l-d/\jV (∀i (h:i<Z c),i<d->CT c[i].f m<0)/\jV (∀i (h:i<Z c),l<=i->¬CT c[i].f m<0)/\jV (Ac [] w wr)/\jV (AF wr N [O u,U A (Z v) B] 104))
 case atStart=>exact⟨0,Z c,rfl,rfl,lc,lc,rfl,λi h h0=>lc,λi h h0=>lc,q,s⟩
 case round=>
  clear s q;obtain⟨d,l,rfl,rfl,H1,A0,CW,B0,Bx,q,s⟩:=hrel;have HG:=Ab CW;clear CW;obtain⟨c0,c1⟩:=s.c2;simp at c0 c1;by_cases HP:d<l
  .obtain⟨k,HJ⟩:=kQ ((d+l)/2);have HZ:d<=k:=lc;have HR:k<l:=lc;have R:k<Z c:=lc;(have H2:((d:Int)+(l:Int))>>>(1:Nat)=(k:Int):=by rw[Int.shiftRight_eq_div_pow];omega);have HY:((d:Int)+(l:Int))/2=(k:Int):=lc;obtain⟨g,HD,n,L,ad,cp,E,y,d0,d1⟩:=JO (HS.C q) k R;obtain⟨rfl,_,rfl⟩:=qX E;have o:=Ab (I c[k] wr.drew (lV R) q.drew);(have Q:jV (CT c[k].f m<0->∀i (h:i<Z c),i<k+1->CT c[i].f m<0):=λhc i h EX=>H i k h R lc hc);(have S:jV (¬CT c[k].f m<0->∀i (h:i<Z c),k<=i->¬CT c[i].f m<0):=λhc i h EX hh=>hc (H k i R h lc hh));rw[y]at o;simp only at o;obtain⟨C,F⟩:=kQ (CT c[k].f m);rw[F]at Q S;rw[y]at F;simp only at F;rw[F]at o;clear y F;by_cases BA:C<0
   .have HT:=Ab (Q BA);clear Q S;go_wp2_with fail
    go_region_law (go_simp;go_at_call 104;refine o.G ?_;rintro e M ⟨rfl,r⟩;have z:=Ab (q.drew.H r);have AB:=Ab (s.drew.C r);clear r)
    all_goals
     clear o;go_wp2
     go_roundg (l-(k+1))
     case measure=>exact qu
     case rel=>exact⟨k+1,l,ly,rfl,lc,A0,rfl,HT,Bx,z,AB⟩
   .have HT:=Ab (S BA);clear Q S;go_wp2_with fail
    go_region_law (go_simp;go_at_call 104;refine o.G ?_;rintro e M ⟨rfl,r⟩;have z:=Ab (q.drew.H r);have AB:=Ab (s.drew.C r);clear r)
    all_goals
     clear o;go_wp2
     go_roundg (k-d)
     case measure=>exact qu
     case rel=>exact⟨d,k,rfl,rfl,lc,lc,rfl,B0,HT,z,AB⟩
  ·have FT:d=l:=lc;subst FT;have ES:jV (EW c m d):=⟨A0,B0,Bx⟩;by_cases G:d<Z c
   ·have FA:(d:Int)<(Z c:Int):=lc;obtain⟨g,HD,n,L,ad,cp,E,y,d0,d1⟩:=JO (HS.C q) d G;obtain⟨rfl,_,rfl⟩:=qX E;have o:=Ab (I c[d] wr.drew (lV G) q.drew);(have D:jV (Dg c m d=(CT c[d].f m==0)):=by show _=_;unfold Dg;rw[dif_pos G]);rw[y]at o D;simp only at o D;generalize CT ⟨n,L⟩ m=C at o D;have EK:jV (∀P:jH,Ac [] w P->jY P ⟨g,d*2,Y⟩=V (O n)/\jY P ⟨g,d*2+1,Y⟩=V (U ad (Z L) cp)):=by
     intro P HE;obtain⟨g',HQ,n',HU,H0,HX,A2,FF,f0,f1⟩:=JO (HS.C HE) d G;have e2:=FF.symm.H y;simp only[lU,lZ,mR,D5.mk.injEq,CE.mk.injEq]at A2 e2;obtain⟨⟨rfl,_,_⟩,_,_⟩:=A2;obtain⟨⟨rfl,rfl⟩,rfl,_,rfl⟩:=e2;exact⟨f0,f1⟩
    clear y;go_wp2_with fail
    go_region_held3 (λt=>jY t ⟨g,d*2,Y⟩=V (O n)/\jY t ⟨g,d*2+1,Y⟩=V (U ad (Z L) cp)/\jY t ⟨N,0,Y⟩=V (O u)/\jY t ⟨N,1,Y⟩=V (U A (Z v) B)) (go_keep) ((go_at_call 104;refine o.G ?_;rintro e M ⟨rfl,r⟩;have z:=Ab (q.drew.H r);have T:=s.drew.C r;obtain⟨x0,x1⟩:=T.c2;have x2:=(EK M z).1;have x3:=(EK M z).2;simp at x0 x1;clear r T))
    rename_i Go;clear Go o;go_wp2;go_ret2;refine⟨d,?_,ES,z⟩;rw[Aa D];rfl
   ·have FA:¬(d:Int)<(Z c:Int):=lc;(have D:jV (Dg c m d=K):=by show _=_;unfold Dg;rw[dif_neg G]);(have EY:jV (∀n,Ac [] w (wr.drewN n)):=λn=>q.drewN n);go_wp2_with fail
    go_quiet (fail)
    go_wp2;go_ret2;rw[<-Aa D];exact⟨d,rfl,ES,EY _⟩
def Ac.cellAt(k:Ac [] w u)(h:jY w ⟨b,n,Y⟩=V z):jY u ⟨b,n,Y⟩=V z:=by
 have a:b<w.heap.size:=by
  cases hq:w.heap[b]? with
  |none=>simp[World.cell?,hq]at h
  |some x=>exact(mV.1 hq).1
 have e:=k.block b a ln;simp only[World.cell?,e]at h|-;exact h
def KV(h:jY w ⟨b,n,Y⟩=V z):b<w.heap.size:=by
 cases hq:w.heap[b]? with
 |none=>simp[World.cell?,hq]at h
 |some x=>exact(mV.1 hq).1
theorem Jt(C v l m)(a:kN D5)(x w)(t:jY w ⟨C,v,Y⟩=V (U l (Z a) m))(h:Ic w (U l (Z a) m) a)(s:C6 w x)(u:Z x.f.dN<=1000)(G:Z a<=1000000)(D:∀i j (Q:i<Z a) (R:j<Z a),i<=j->CT a[j].f x.f<0->CT a[i].f x.f<0):rE rF 60 #[jj (V ⟨C,v,Y⟩),ku (Za (AJ x))] w λe o=>∃p,e=j1 (kx (Dg a x.f p))/\EW a x.f p/\Ac [] w o:=by
 have P:=KV t;have g:jV (∀wr,Ac [] w wr->rE rF 103 #[U l (Z a) m,ku (Za (AJ x)),.func (.func 104) #[] #[]] wr λe o=>∃p:Nat,e=j1 (.tuple #[.int J p,kx (Dg a x.f p)])/\EW a x.f p/\Ac [] wr o):=λwr y=>IX l m a x wr (h.C y) (s.C y) u G D
 obtain⟨⟨b,c⟩,M⟩:=x;obtain⟨n,k,B⟩:=Aj s;simp only at B;subst B;simp only[AJ]at g|-;generalize(⟨b,c⟩:CE)=X at g|-;have q:=(kR [] w).alloc (Y6 #[O b,U n (Z c) k] 104);have I:=q.cellAt t;clear t;have d:=kS w [O b,U n (Z c) k] 104;have r:=Ab q;clear h s u D q;go_enter func60,ntmps60;go_wp2_with fail
 change Code.wp _ _ _ _ (w.alloc (Y6 #[O b,U n (Z c) k] 104));generalize w.alloc (Y6 #[O b,U n (Z c) k] 104)=w1 at r I d|-;generalize w.heap.size=N at d|-;obtain⟨E,H⟩:=d.c2;simp at E H;have F:=Ab (g w1.drew r.drew);clear g d
 go_region_law (go_simp;go_at_call 103;refine F.G ?_;rintro e L ⟨p,rfl,hcut,A⟩;have z:=Ab (And.intro hcut (r.drew.H A));clear hcut A)
 all_goals
  go_wp2;go_ret;exact⟨p,rfl,z.1,z.2⟩
def BD(a b):D7 a b=0↔a=b:=by
 unfold D7;constructor
 .intro h;cases h1:kG a.toList b.toList with
  |true=>rw[h1]at h;simp at h
  |false=>
   cases h2:kG b.toList a.toList with
   |true=>rw[h1,h2]at h;simp at h
   |false=>
    cases h3:(a.toList==b.toList)with
    |true=>exact toList_inj (by simpa using h3)
    |false=>rw[SO _ _ h1 h3]at h2;cases h2
 .intro h;rw[h,Qe];rfl
def OF(a b):D7 a b<0↔kG a.toList b.toList=T6:=by
 unfold D7;cases h1:kG a.toList b.toList with
 |true=>simp
 |false=>
  exact li
def bc(a b):0<D7 a b↔D7 b a<0:=by
 unfold D7;cases h1:kG a.toList b.toList with
 |true=>
  cases h2:kG b.toList a.toList with
  |false=>simp
  |true=>
   have:=Ok _ _ _ h1 h2;rw[Qe]at this;cases this
 |false=>
  cases h2:kG b.toList a.toList with
  |true=>simp
  |false=>simp
def QS{a b c}(d:D7 a b<0)(e:D7 b c<0):D7 a c<0:=by
 rw[OF]at*;exact Ok _ _ _ d e
def UP:∀l m,E8 l m=0↔l=m
 |[],[]=>by simp[E8]
 |[],_::_=>by simp[E8]
 |_::_,[]=>by simp[E8]
 |x::l,y::m=>by
  rw[E8];by_cases h:D7 x y=0
  .rw[mo h,UP l m,(BD x y).1 h];simp
  .rw[mm h];constructor
   .exact lc
   .intro a;exact rl ((BD x y).2 (List.cons.inj a).1) h
def bk:∀l m,0<E8 l m↔E8 m l<0
 |[],[]=>by simp[E8]
 |[],_::_=>by simp[E8]
 |_::_,[]=>by simp[E8]
 |x::l,y::m=>by
  rw[E8,E8];by_cases h:D7 x y=0
  .have a:=(BD _ _).2 ((BD _ _).1 h).symm;rw[mo h,mo a];exact bk l m
  ·(have a:¬D7 y x=0:=λb=>h ((BD _ _).2 ((BD _ _).1 b).symm));rw[mm h,mm a];exact bc x y
def QI:∀{l m k:kN bN},E8 l m<0->E8 m k<0->E8 l k<0
 |[],[],_,h,_=>lc
 |[],_::_,[],_,h=>by simp[E8]at h
 |[],_::_,_::_,_,_=>by simp[E8]
 |_::_,[],_,h,_=>by simp[E8]at h
 |_::_,_::_,[],_,h=>oa
 |x::l,y::m,z::k,h1,h2=>by
  rw[E8]at h1 h2|-;by_cases b:D7 x y=0
  .rw[mo b]at h1;rw[(BD x y).1 b];by_cases a:D7 y z=0
   .rw[mo a]at h2|-;exact QI h1 h2
   exact lc
  .rw[mm b]at h1;by_cases a:D7 y z=0
   .rw[<-(BD y z).1 a,mm b];exact h1
   .rw[mm a]at h2;have c:=QS h1 h2;exact lc
def FZ(a b):CT a b=0↔a=b:=by
 obtain⟨d,f⟩:=a;obtain⟨e,g⟩:=b;unfold CT;simp only;by_cases h:D7 d e=0
 .rw[mo h,UP,(BD _ _).1 h];simp
 .rw[mm h];constructor
  .exact lc
  .intro c;simp at c;exact rl ((BD _ _).2 c.1) h
def aW(a b):0<CT a b↔CT b a<0:=by
 unfold CT;by_cases h:D7 a.a b.a=0
 .have c:=(BD _ _).2 ((BD _ _).1 h).symm;rw[mo h,mo c];exact bk _ _
 .have c:¬D7 b.a a.a=0:=λd=>h ((BD _ _).2 ((BD _ _).1 d).symm)
  rw[mm h,mm c];exact bc _ _
def IH{a b c}(f:CT a b<0)(d:CT b c<0):CT a c<0:=by
 unfold CT at*;by_cases g:D7 a.a b.a=0
 .rw[mo g]at f;rw[(BD _ _).1 g];by_cases e:D7 b.a c.a=0
  .rw[mo e]at d|-;exact QI f d
  exact lc
 .rw[mm g]at f;by_cases e:D7 b.a c.a=0
  .rw[<-(BD _ _).1 e,mm g];exact f
  .rw[mm e]at d;have h:=QS f d;exact lc
def Bn(f:Ae):CE:=⟨f.a,f.qH.map AE⟩
def AG(f:Ae):Prop:=∀x∈f.qH,A7 x
def LT{a b}(i:AG a)(k:AG b)(h:Bn a=Bn b):a=b:=by
 obtain⟨p,o⟩:=a;obtain⟨q,n⟩:=b;simp only[Bn,CE.mk.injEq]at h;obtain⟨j,g⟩:=h;congr 1
 have f:∀(l m:kN bN),(∀x∈l,A7 x)->(∀x∈m,A7 x)->l.map AE=m.map AE->l=m:=by
  intro l
  induction l with
  |nil=>exact ln
  |cons x l ih=>
   intro m e d h;cases m with
   |nil=>simp at h
   |cons y m=>
    simp at h;rw[FD (e x ln) (d y ln) h.1,ih m (λz c=>e z ss) (λz c=>d z ss) h.2]
 exact f o n i k g
def RS:∀l m,(∀x∈l,A7 x)->(∀x∈m,A7 x)->(Ek l m=T6↔E8 (l.map AE) (m.map AE)<0)
 |[],[],_,_=>by simp[Ek,E8]
 |[],_::_,_,_=>by simp[Ek,E8]
 |_::_,[],_,_=>by simp[Ek,E8]
 |x::l,y::m,hl,hm=>by
  rw[Ek,mA,mA,E8];by_cases h:x=y
  .subst h;rw[mo ln,mo ((BD _ _).2 rfl)];exact RS l m (λz b=>hl z sq) (λz b=>hm z sq)
  ·(have c:¬(x.toList==y.toList)=T6:=λa=>h (toList_inj sA));(have d:¬D7 _ _=0:=λa=>h (FD (hl x ln) (hm y ln) ((BD _ _).1 a)));rw[mm c,mm d,OF,IE (hl x ln) (hm y ln)]
def Ei{a b}(e:AG a)(f:AG b):D1 a b=T6↔CT (Bn a) (Bn b)<0:=by
 unfold D1 CT Bn;by_cases h:a.a=b.a
 .rw[mo (by rw[h];simp),mo ((BD _ _).2 h)];exact RS _ _ e f
 .have d:¬(a.a.toList==b.a.toList)=T6:=λc=>h (toList_inj (by simpa using c))
  rw[mm d,mm (λc=>h ((BD _ _).1 c)),OF]
def Kq{α:Type}{lt}(e:∀a,¬lt a a)(f:∀a b c,lt a b->lt b c->lt a c):∀(l m:kN α),l.Pairwise lt->m.Pairwise lt->(∀x,x∈l↔x∈m)->l=m
 |[],[],_,_,_=>rfl
 |[],y::m,_,_,h=>by have:=(h y).2 ln;simp at this
 |x::l,[],_,_,h=>by have:=(h x).1 ln;simp at this
 |x::l,y::m,hl,hm,h=>by
  rw[oh]at hl hm;have g:x=y:=by
   rcases l9.1 ((h x).1 ln)with h1|h1
   .exact h1
   .rcases l9.1 ((h y).2 ln)with h2|h2
    .exact h2.symm
    .exact rl (f _ _ _ (hl.1 y h2) (hm.1 x h1)) (e x)
  subst g
  congr 1
  refine Kq e f l m hl.2 hm.2 (λz=>?_);constructor
  .intro d;rcases l9.1 ((h z).1 sn)with h1|h1
   .subst h1;exact rl (hl.1 z d) (e z)
   .exact h1
  .intro d;rcases l9.1 ((h z).2 sn)with h1|h1
   .subst h1;exact rl (hm.1 z d) (e z)
   .exact h1
def SD(x:BE):kN BE->kN BE
 |[]=>[x]
 |y::m=>if D1 x.f y.f then x::y::m else y::SD x m
def Rw(x):∀(l a:kN BE),qU (Fd x) (a,T6) l=(a++l,T6)
 |[],a=>ln
 |y::l,a=>by
  rw[mK];have:Fd x (a,T6) y=(a++[y],T6):=by simp[Fd]
  rw[this,Rw x l];simp
def XL(x):∀(l a:kN BE),(if(qU (Fd x) (a,K) l).2 then(qU (Fd x) (a,K) l).1 else(qU (Fd x) (a,K) l).1++[x])=a++SD x l
 |[],a=>by simp[SD]
 |y::l,a=>by
  rw[mK,SD];cases h:D1 x.f y.f with
  |true=>
   (have:Fd x (a,K) y=(a++[x]++[y],T6):=by simp[Fd,h]);rw[this,Rw];simp
  |false=>
   (have:Fd x (a,K) y=(a++[y],K):=by simp[Fd,h]);rw[this,XL x l];simp
def aG(l x):OP l x=SD x l:=by
 have h:=XL x l [];exact h
def GY(l:kN BE):Prop:=l.Pairwise λa b=>D1 a.f b.f=T6
def WG{a b c}(d:AG a)(g:AG b)(h:AG c)(f:D1 a b=T6)(e:D1 b c=T6):D1 a c=T6:=by
 rw[Ei d g]at f;rw[Ei g h]at e;rw[Ei d h];exact IH f e
def dt{a b}(c:AG a)(d:AG b)(e:D1 a b=K)(f:a≠b):D1 b a=T6:=by
 rw[Ei d c];have g:¬CT _ _<0:=λh=>by rw[(Ei c d).2 h]at e;cases e
 have i:¬CT _ _=0:=λh=>f (LT c d ((FZ _ _).1 h))
 exact(aW _ _).1 lc
def UM{a}(b:AG a):D1 a a=K:=by
 cases h:D1 a a with
 |false=>rfl
 |true=>
  rw[Ei b b,(FZ _ _).2 rfl]at h;omega
def JY(x p):∀l,p∈SD x l↔p=x\/p∈l
 |[]=>by simp[SD]
 |y::l=>by
  rw[SD];split
  .simp
  .rw[l9,JY x p l,l9];exact⟨λh=>by rcases h with h|h|h;exact j3 (j2 h);exact j2 h;exact j3 (j3 h),λh=>by rcases h with h|h|h;exact j3 (j2 h);exact j2 h;exact j3 (j3 h)⟩
def PU{x}(b:AG x.f):∀{l:kN BE},GY l->(∀p∈l,AG p.f)->(∀p∈l,p.f≠x.f)->GY (SD x l)
 |[],_,_,_=>by simp[SD,GY]
 |y::l,h,hc,hne=>by
  unfold GY at h;rw[oh]at h;have c:=hc y ln;rw[SD];cases ha:D1 x.f y.f with
  |true=>
   rw[mo rfl];unfold GY;rw[oh];refine⟨λp a=>?_,oh.2 h⟩;rcases l9.1 a with rfl|a
   .exact ha
   .exact WG b c (hc p lc) ha (h.1 p a)
  |false=>
   rw[mm ln];unfold GY;rw[oh];refine⟨λp a=>?_,PU b h.2 (λp a=>hc p sr) (λp a=>hne p sr)⟩;rcases(JY x p l).1 a with rfl|a
   .exact dt b c ha (λe=>hne y ln e.symm)
   .exact h.1 p a
def Zz{l}{x}(e:AG x.f)(d:GY l)(c:∀p∈l,AG p.f):GY (Eh l x)/\(∀p∈Eh l x,AG p.f)/\∀g,(∃p∈Eh l x,p.f=g)↔(∃p∈l,p.f=g)\/g=x.f:=by
 unfold Eh
 cases h:Ya l x.f with
 |true=>
  refine⟨d,c,λg=>⟨j2,λb=>?_⟩⟩;rcases b with b|b
  .exact b
  .unfold Ya at h;rw[nD]at h;obtain⟨p,a,k⟩:=h;exact⟨p,a,by rw[b];exact(F1 _ _).1 k⟩
 |false=>
  rw[mm ln,aG];have j:∀p∈l,p.f≠x.f:=by
   intro p a i;unfold Ya at h;rw[nU]at h;exact h p a ((F1 _ _).2 i)
  refine⟨PU e d c j,λp a=>?_,λg=>?_⟩
  .rcases(JY x p l).1 a with rfl|a
   .exact e
   .exact c p a
  .constructor
   .rintro ⟨p,a,rfl⟩;rcases(JY x p l).1 a with rfl|a
    .exact ln
    .exact j2 ⟨p,a,rfl⟩
   .rintro (⟨p,a,rfl⟩|rfl)
    .exact⟨p,(JY x p l).2 (j3 a),rfl⟩
    .exact⟨x,(JY x x l).2 (j2 rfl),rfl⟩
def gZ(x:Ae):kN Ae->kN Ae
 |[]=>[x]
 |y::m=>if D1 x y then x::y::m else y::gZ x m
def A3(s:kN Ae)(f:Ae):kN Ae:=if C7 s f then s else gZ f s
def D3(s:kN Ae):Prop:=s.Pairwise λa b=>D1 a b=T6
def Ox(x):∀l,Z (gZ x l)=Z l+1
 |[]=>rfl
 |y::m=>by
  rw[gZ];split
  .rfl
  .rw[mn,Ox x m,mn]
def Xr(x):∀l,(SD x l).map BE.f=gZ x.f (l.map BE.f)
 |[]=>rfl
 |y::m=>by
  rw[SD,mA,gZ];split
  .rfl
  .rw[mA,Xr x m]
def fT(l f):Ya l f=C7 (l.map BE.f) f:=by
 unfold Ya C7;rw[pj];rfl
def JF(l x):(Eh l x).map BE.f=A3 (l.map BE.f) x.f:=by
 unfold Eh A3;rw[fT];split
 .rfl
 .rw[aG,Xr]
def kL(f:Ae):BE:=⟨f,kx K⟩
def jn(s:kN Ae):(s.map kL).map BE.f=s:=by
 rw[nh];exact List.map_id s
def CR{s}{f}(u:AG f)(j:D3 s)(t:∀p∈s,AG p):D3 (A3 s f)/\(∀p∈A3 s f,AG p)/\∀g,g∈A3 s f↔g∈s\/g=f:=by
 have m:GY (s.map kL):=by
  unfold GY;rw[oE];exact j
 have k:∀p∈s.map kL,AG p.f:=by
  intro p d;obtain⟨g,r,rfl⟩:=me.1 d;exact t g r
 obtain⟨a,b,c⟩:=Zz (l:=s.map kL) (x:=kL f) u m k;have e:=JF (s.map kL) (kL f);rw[jn]at e;have o:A3 s f=(Eh _ _).map BE.f:=e.symm;rw[o];refine⟨?_,?_,?_⟩
 .unfold D3;rw[oE];exact a
 .exact li
 .intro g;have n:=c g;rw[me,n];constructor
  .rintro (⟨p,d,rfl⟩|h)
   .obtain⟨q,i,rfl⟩:=me.1 d;exact j2 i
   .exact j3 h
  .rintro (h|h)
   .exact j2 ⟨kL g,mx h,rfl⟩
   .exact j3 h
def consts(cs:kN AW):kN bN:=cs.flatMap λc=>(c.E.qH.filter λt=>t.v==0).map AK.s
structure DQ(cs:kN AW)(f:Ae):Prop where
 zV:∃c∈cs,f.a=c.E.a/\Z f.qH=Z c.E.qH
 qH:∀x∈f.qH,x∈consts cs
def Em(l:kN bN):Nat->kN (kN bN)
 |0=>[[]]
 |n+1=>l.flatMap λx=>(Em l n).map (x:: ·)
def Vx(cs:kN AW):kN Ae:=cs.flatMap λc=>(Em (consts cs) (Z c.E.qH)).map (Ae.mk c.E.a)
def Md(l):∀(m:kN bN),(∀x∈m,x∈l)->m∈Em l (Z m)
 |[],_=>by simp[Em]
 |x::m,h=>by
  rw[mn,Em,mH];exact⟨x,h x ln,me.2 ⟨m,Md l m (λy a=>h y sr),rfl⟩⟩
def DQ.mem{a}{f}(h:DQ a f):f∈Vx a:=by
 obtain⟨c,e,d,b⟩:=h.zV;unfold Vx;rw[mH];refine⟨c,e,me.2 ⟨f.qH,?_,?_⟩⟩
 .rw[<-b];exact Md _ _ h.qH
 .rw[<-d]
def G0{α:Type}:∀(l m:kN α),l.Nodup->(∀z∈l,z∈m)->Z l<=Z m
 |[],m,_,_=>mr _
 |x::l,m,hn,hs=>by
  rw[od]at hn;obtain⟨a,b,rfl⟩:=List.append_of_mem (hs x ln);have:=G0 l _ hn.2 (λz d=>by
   have c:=hs z sn
   rw[mi,l9]at c
   rw[mi]
   rcases c with c|c|c
   .exact j2 c
   .subst c;exact rl d hn.1
   .exact j3 c)
  exact qy
def D3.nodup{s}(h:D3 s)(c:∀f∈s,AG f):s.Nodup:=by
 refine oC (fun{a b} ha hb hab e=>?_) h;subst e;rw[UM (c a ha)]at hab;cases hab
def TK{s t}(w:D3 s)(u:D3 t)(j:∀f∈s,AG f)(ct:∀f∈t,AG f)(h:∀f,f∈s↔f∈t):s=t:=by
 have r:(s.map Bn).Pairwise λa b=>CT a b<0:=by
  rw[oE];exact oC (fun{a b} i hb g=>(Ei (j a i) (j b hb)).1 g) w
 have q:(t.map Bn).Pairwise λa b=>CT a b<0:=by
  rw[oE];exact oC (fun{a b} i hb g=>(Ei (ct a i) (ct b hb)).1 g) u
 have v:s.map Bn=t.map Bn:=by
  refine Kq (lt:=λa b=>CT a b<0) (λa i=>?_) (λa b c g p=>IH g p) _ _ r q (λx=>?_)
  .have:=(FZ a a).2 rfl;omega
  exact qr
 have o:∀(l m:kN Ae),(∀f∈l,AG f)->(∀f∈m,AG f)->l.map Bn=m.map Bn->l=m:=by
  intro l
  induction l with
  |nil=>exact ln
  |cons x l ih=>
   intro m n k e;cases m with
   |nil=>simp at e
   |cons y m=>
    rw[mA,mA,ou]at e;rw[LT (n x ln) (k y ln) e.1,ih m (λf d=>n f sn) (λf d=>k f sn) e.2]
 exact o s t j ct v
def RG(cs:kN AW):Prop:=∀c∈cs,∀t∈c.E.qH,t.v=0->A7 t.s
def Vj{d}(h:RG d):∀x∈consts d,A7 x:=by
 intro x a;obtain⟨c,f,a⟩:=mH.1 a;obtain⟨t,b,rfl⟩:=me.1 a;obtain⟨b,e⟩:=my.1 b;exact h c f t b (by simpa using e)
def DQ.qK(h:RG c){f}(a:DQ c f):AG f:=λx b=>Vj h x (a.qH x b)
def AG.zD{f}(h:AG f):IW f:=λx a=>(h x a).size
def Sb{d}(j:RM d){s}(p:∀f∈s,DQ d f)(q:∀f∈s,IW f){c}(h:c∈d)(b:e∈BN (Am c) s):DQ d (Av e c.E):=by
 refine⟨⟨c,h,rfl,by simp[Av]⟩,λx r=>?_⟩;obtain⟨t,i,rfl⟩:=me.1 r;obtain⟨_,_,_,_,n⟩:=CY q _ [Bm] (λe b=>by simp at b;rw[b];rfl) (j.qH c h) e (my.1 b).1;by_cases g:t.v=0
 .unfold AI;rw[mo g];exact mH.2 ⟨c,h,me.2 ⟨t,my.2 ⟨i,li⟩,rfl⟩⟩
 .rcases j.E c h t i with a|⟨y,l,k,u,m,o⟩
  .exact rl a g
  .have a:=(p _ (n y l k).1).qH _ (mx m);unfold AI at a|-;exact qr
structure Hu(cs:kN AW)(zQ:bN->Nat)(n:Nat)(s:kN Ae):Prop where
 work:D8 (F7 cs) (λf=>zQ f.a) n (·∈s)
 zB:D3 s
 zS:∀f∈s,DQ cs f
def Hu.start(b a):Hu b a 0 []:=
 ⟨(D8.start (F7 b) (λf:Ae=>a f.a)).cong _ _ (λf=>ln),rp,λf c=>by simp at c⟩
def Hu.len{b}{s}(d:RG c)(h:Hu c b n s):Z s<=Z (Vx c):=
 G0 s (Vx c) (h.zB.nodup λf a=>(h.zS f a).qK d) λf a=>(h.zS f a).mem
structure RL(cs:kN AW)(zQ:bN->Nat):Prop where
 zD:RM cs
 lay:CP cs zQ
 zI:RG cs
def iP{k}{g}(j:RL k g){i s}(q:Hu k g n i)(h:Hu k g n s)(o:∀f∈i,f∈s)(t:∀f∈s,f∈i\/g f.a=n){c}(r:c∈k)(v:g c.E.a=n)(p:e∈BN (Am c) i):
  Hu k g n (A3 s (Av e c.E))/\(∀f∈i,f∈A3 s (Av e c.E))/\∀f∈A3 s (Av e c.E),f∈i\/g f.a=n:=by
 have u:=λf d=>((q.zS f d).qK j.zI).zD
 have l:=Sb j.zD q.zS u r p;obtain⟨a,b,m⟩:=CR (l.qK j.zI) h.zB (λf d=>(h.zS f d).qK j.zI);refine⟨⟨?_,a,λf d=>?_⟩,λf d=>(m f).2 (j2 (o f d)),λf d=>?_⟩
 .exact(fR j.lay j.zD h.work o t u r v p).cong _ _ (λf=>(m f).symm)
 .rcases(m f).1 d with d|d
  .exact h.zS f d
  .rw[d];exact l
 .rcases(m f).1 d with d|d
  .exact t f d
  .right;rw[d];exact v
def IB(c:AW)(a:kN Ae×rD)(e:kN bN):kN Ae×rD:=if C7 a.1 (Av e c.E)then a else(A3 a.1 (Av e c.E),T6)
def Dl(zQ:bN->Nat)(n:Nat)(a:kN Ae×rD)(c:AW):kN Ae×rD:=if zQ c.E.a=n then qU (IB c) a (BN (Am c) a.1) else a
def EF(cs:kN AW)(zQ:bN->Nat)(n:Nat)(s:kN Ae):kN Ae×rD:=qU (Dl zQ n) (s,K) cs
def R9{d}{b}(r:RL d b){n}{g}(j:Hu d b n g){c}(t:c∈d)(o:b c.E.a=n):
  ∀(l:kN (kN bN)) (s) (m),(∀e∈l,e∈BN (Am c) g)->Hu d b n s->(∀f∈g,f∈s)->(∀f∈s,f∈g\/b f.a=n)->
   Hu d b n (qU (IB c) (s,m) l).1/\Z s<=Z (qU (IB c) (s,m) l).1/\
    ((qU (IB c) (s,m) l).2=K->(qU (IB c) (s,m) l).1=s/\m=K/\∀e∈l,Av e c.E∈s)/\
    ((qU (IB c) (s,m) l).2=T6->m=T6\/Z s<Z (qU (IB c) (s,m) l).1)
 |[],s,m,_,h,_,_=>⟨h,mt _,λa=>⟨rfl,a,λe D=>by simp at D⟩,λa=>j2 a⟩
 |e::l,s,m,hl,h,hsub,hnew=>by
  rw[mK];have w:∀e∈l,e∈BN _ g:=λx i=>hl x (by simp[i])
  cases hh:C7 s (Av e c.E)with
  |true=>
   (have q:IB c (s,m) e=(s,m):=by unfold IB;rw[hh,mo rfl]);rw[q];obtain⟨p,u,k,v⟩:=R9 r j t o l s m w h hsub hnew;refine⟨p,u,λa=>?_,v⟩;obtain⟨z,E,A⟩:=k a;refine⟨z,E,λx i=>?_⟩;rcases l9.1 i with rfl|i
   .exact(B1 _ _).1 hh
   .exact A x i
  |false=>
   (have q:IB c (s,m) e=(A3 s (Av e c.E),T6):=by unfold IB;rw[hh,mm ln]);rw[q];obtain⟨y,C,B⟩:=iP r j h hsub hnew t o (hl e ln);obtain⟨p,u,k,v⟩:=R9 r j t o l _ T6 w y C B;(have F:Z (A3 s (Av e c.E))=Z s+1:=by unfold A3;rw[hh,mm ln,Ox]);exact qy
def LG{j}{a}(A:RL j a){n}:
  ∀(b:kN AW) (s) (m),(∀c∈b,c∈j)->Hu j a n s->
   Hu j a n (qU (Dl a n) (s,m) b).1/\Z s<=Z (qU (Dl a n) (s,m) b).1/\
    ((qU (Dl a n) (s,m) b).2=K->(qU (Dl a n) (s,m) b).1=s/\m=K/\∀c∈b,a c.E.a=n->∀e∈BN (Am c) s,Av e c.E∈s)/\
    ((qU (Dl a n) (s,m) b).2=T6->m=T6\/Z s<Z (qU (Dl a n) (s,m) b).1)
 |[],s,m,_,h=>⟨h,mt _,λg=>⟨rfl,g,λc P=>by simp at P⟩,λg=>j2 g⟩
 |c::b,s,m,hd,h=>by
  rw[mK];have H:∀c∈b,c∈j:=λx d=>hd x sn
  by_cases l:a c.E.a=n
  ·(have z:Dl a n (s,m) c=qU (IB c) (s,m) (BN (Am c) s):=by unfold Dl;rw[mo l]);rw[z];obtain⟨o,G,t,B⟩:=R9 A h (hd c ln) l _ s m (λe i=>i) h (λf u=>u) (λf u=>j2 u);generalize qU (IB c) (s,m) (BN (Am c) s)=r at o G t B|-;obtain⟨M,N⟩:=r;simp at o G t B;obtain⟨y,E,v,w⟩:=LG A b M N H o;refine⟨y,lc,λg=>?_,λg=>?_⟩
   .obtain⟨p,C,q⟩:=v g;obtain⟨I,Q,L⟩:=t C;subst I;exact qr
   .rcases w g with F|F
    .rcases B F with D|D
     .exact j2 D
     exact lc
    exact lc
  ·(have z:Dl a n (s,m) c=(s,m):=by unfold Dl;rw[mm l]);rw[z];obtain⟨y,E,v,w⟩:=LG A b s m H h;refine⟨y,E,λg=>?_,w⟩;obtain⟨p,C,q⟩:=v g;exact qr
def Yd{a}{b}(d:RL a b){s}(h:Hu a b n s):
  Hu a b n (EF a b n s).1/\((EF a b n s).2=K->(EF a b n s).1=s/\Hu a b (n+1) s)/\
   ((EF a b n s).2=T6->Z s<Z (EF a b n s).1)/\Z (EF a b n s).1<=Z (Vx a):=by
 unfold EF;obtain⟨i,q,l,m⟩:=LG d a s K (λc p=>p) h;refine⟨i,λe=>?_,λe=>?_,i.len d.zI⟩
 .obtain⟨k,_,o⟩:=l e;exact⟨k,dD d.zD h.work (λf j=>((h.zS f j).qK d.zI).zD) o,h.zB,h.zS⟩
 .exact qr
def iT{a}{e g}(j:RL a e)(i:RL a g){s t}(b:Hu a e n s)(h:Hu a g m t)(k:∀c∈a,e c.E.a<n)(l:∀c∈a,g c.E.a<m):s=t:=
 TK b.zB h.zB (λf d=>(b.zS f d).qK j.zI) (λf d=>(h.zS f d).qK i.zI) (gL j.lay i.lay b.work h.work k l)
def dy{a:kN AW}(h:(Ao s (Af s 0)).2.2=K)(e:a.map AW.erase=(Ao s (Af s 0)).1)(f:CH a=(0,0)):RL a (BW a 6):=by
 have d:=JH f;refine⟨d.zD (Zm h e),d.levels,λc j t g i=>?_⟩;rcases(Ms h e c j).1.qH t g with⟨_,b⟩|b
 .exact b
 .exact qr
def Bw(x:Bt):kN AK:=if(x.b==97||x.b==33)=T6 then x.A.qH else[x.L,x.R]
def DV(e:kN bN)(ts:kN AK):rD:=ts.all λt=> !Vo (AI e t)
def ED(body:kN Bt)(s:kN Ae)(e:kN bN):rD:=body.any λx=>DV e (Bw x)&& !Cm (Av e) (AI e) s x
def Aw(al:rC->kN bN->kN bN)(body:kN Bt)(s:kN Ae):kN rC->kN bN->kN (kN bN)
 |[],e=>if ED body s e then[] else[e]
 |v::vs,e=>if ED body s e then[] else(al v e).flatMap λt=>Aw al body s vs (e.set (v.toNat-65) t)
def NR(e:kN bN)(v:rC):bN:=e.getD (v.toNat-65) ky
def EB(v:rC):Prop:=65<=v.toNat/\v.toNat<=90
def LR(d:Z e=26)(a:EB g)(t):NR (e.set (g.toNat-65) t) g=t:=by
 unfold NR;obtain⟨b,c⟩:=a;rw[mq,nG lc];rfl
def gP{u v}(c:EB u)(b:EB v)(h:u≠v)(t):NR (e.set (v.toNat-65) t) u=NR e u:=by
 unfold NR;have a:v.toNat-65≠u.toNat-65:=by
  intro f;obtain⟨i,d⟩:=c;obtain⟨j,g⟩:=b;exact h (nW.1 lc)
 rw[mq,ng a,<-mq]
def BV{j}{l}{s}(k:∀v e,∀t∈j v e,t.size≠0):
  ∀d (e b:kN bN),Z e=26->(∀v∈d,EB v)->b∈Aw j l s d e->
   Z b=26/\ED l s b=K/\(∀u,EB u->u∉d->NR b u=NR e u)/\∀v∈d,(NR b v).size≠0
 |[],e,b,he,_,a=>by
  rw[Aw]at a;exact qr
 |v::d,e,b,he,f,a=>by
  rw[Aw]at a;split at a
  .simp at a
  .obtain⟨t,r,a⟩:=mH.1 a;have i:=f v ln;obtain⟨q,o,m,p⟩:=BV k d _ b li (λu c=>f u ss) a;refine⟨q,o,λu c h=>?_,λu c=>?_⟩
   .rw[l9,not_or]at h;rw[m u c h.2,gP c i h.1]
   .by_cases g:u∈d
    .exact p u g
    .rcases l9.1 c with rfl|c
     .rw[m u i g,LR he i];exact k _ _ t r
     .exact rl c g
def ME(x:Bt):Prop:=∀t∈Bw x,BJ t
def Di.yc{x}(h:Di x):ME x:=by
 intro t a;unfold Di at h;unfold Bw at a;split at h
 .rename_i b;rw[mo b]at a;exact(h.qH t a).zD
 .rename_i b;rw[mm b]at a;rcases l9.1 a with rfl|a
  .exact h.1.zD
  .rw[lX]at a;subst a;exact h.2.1.zD
def IG{σ}{x}(h:∀t∈Bw x,AI e t=Eo σ t):Cm (Av e) (AI e) f x=Cm (Bq σ) (Eo σ) f x:=by
 unfold Bw at h;by_cases a:(x.b==97||x.b==33)=T6
 .rw[mo a]at h;have c:Av e x.A=Bq σ x.A:=by
   unfold Av Bq;rw[nj h]
  unfold Cm;rw[c];rw[nN]at a;rcases a with a|a
  .rw[mo a,mo a]
  exact qr
 .rw[mm a]at h;have g:=h x.L ln;have d:=h x.R ln;rw[nN,not_or]at a;unfold Cm;exact qr
def UQ{b}(k:∀x∈b,ME x){σ}(h:∀x∈b,Cm (Bq σ) (Eo σ) f x=T6)(i:Ej e σ):ED b f e=K:=by
 unfold ED;rw[nU];intro x g a;rw[mC]at a;have j:∀t∈Bw x,AI e t=Eo σ t:=by
  intro t d;have c:=(nI.1 a.1) t d;refine i.val (k x g t d) (λl=>?_);rw[(Ed _).2 l]at c;cases c
 rw[IG j,h x g]at a;simp at a
def Z4(al:rC->kN bN->kN bN)(body:kN Bt)(s:kN Ae):Prop:=
 ∀(v:rC) (e:kN bN) (σ:rC->bN),EB v->Ej e σ->(∀x∈body,Cm (Bq σ) (Eo σ) s x=T6)->(∃x∈body,(x.b==97)=T6/\∃u∈x.A.qH,u.v=v)->σ v∈al v e
def Hr{l}{f}{s}(k:∀x∈f,ME x)(n:Z4 l f s){σ}(g:∀x∈f,Cm (Bq σ) (Eo σ) s x=T6):
  ∀d e,Ej e σ->(∀v∈d,EB v/\∃x∈f,(x.b==97)=T6/\∃u∈x.A.qH,u.v=v)->
   ∃b∈Aw l f s d e,Ej b σ/\(∀v∈d,NR b v=σ v)/\∀u,EB u->NR e u=σ u->NR b u=σ u
 |[],e,ha,_=>by
  refine⟨e,?_,ha,λv i=>by simp at i,λu _ h=>h⟩;rw[Aw,UQ k g ha];simp
 |v::d,e,ha,i=>by
  obtain⟨c,t⟩:=i v ln;obtain⟨b,q,o,r,j⟩:=Hr k n g d _ (ha.set c.1 c.2) (λu a=>i u sr);refine⟨b,?_,o,λu a=>?_,λu a p=>?_⟩
  .rw[Aw,UQ k g ha];exact mH.2 ⟨σ v,n v e σ c ha g t,q⟩
  .rcases l9.1 a with rfl|a
   .exact j u c (LR ha.1 c _)
   .exact r u a
  .by_cases m:u=v
   .subst m;exact j u a (LR ha.1 c _)
   .exact j u a (by rw[gP a c m];exact p)
def SN(al:rC->kN bN->kN bN)(c:AW)(hv rv:kN rC)(s:kN Ae):kN Ae:=
 ((Aw al (Am c) s hv Bm).filter λb=> !C7 s (Av b c.E)&& !(Aw al (Am c) s rv b).isEmpty).map λb=>Av b c.E
structure Td(c:AW)(hv rv:kN rC):Prop where
 ok:∀v,v∈hv\/v∈rv->EB v/\∃x∈Am c,(x.b==97)=T6/\∃u∈x.A.qH,u.v=v
 apart:∀v∈hv,v∉rv
 E:∀t∈c.E.qH,t.v=0\/t.v∈hv
 body:∀x∈Am c,∀t∈Bw x,t.v=0\/t.v∈hv\/t.v∈rv
 g:∀x∈Am c,ME x
def EP{t}(h:t.v≠0):AI e t=NR e t.v:=by
 unfold AI NR;rw[mm h]
def UF{m}{c}{n k}{s}(g:Td c n k)(y:∀v e,∀t∈m v e,t.size≠0){f}(q:f∈SN m c n k s):
  f∉s/\∃σ,(∀x∈Am c,Cm (Bq σ) (Eo σ) s x=T6)/\f=Bq σ c.E:=by
 obtain⟨b,o,rfl⟩:=me.1 q;obtain⟨o,z⟩:=my.1 o;rw[mC]at z;obtain⟨A,r⟩:=z;refine⟨λh=>?_,?_⟩
 .rw[(B1 _ _).2 h]at A;cases A
 .obtain⟨a,F⟩:∃a,a∈Aw m (Am c) s k b:=by
   cases hl:Aw m (Am c) s k b with
   |nil=>rw[hl]at r;simp at r
   |cons x l=>exact ln
  obtain⟨G,_,_,H⟩:=BV y n Bm b rfl (λv i=>(g.ok v (j2 i)).1) o;obtain⟨L,u,E,I⟩:=BV y k b a G (λv i=>(g.ok v (j3 i)).1) F;have w:=λv i=>E v (g.ok v (j2 i)).1 (g.apart v i)
  refine⟨Lq a,λx p=>?_,?_⟩
  .have D:DV a (Bw x)=T6:=by
    unfold DV;rw[nI];intro t j;have C:(AI a t).size≠0:=by
     by_cases d:t.v=0
     .rcases g.g x p t j with h|h
      .unfold AI;rw[mo d];exact h.2
      .exact qr
     .rw[EP d];rcases g.body x p t j with h|h|h
      .exact rl h d
      .rw[w _ h];exact H _ h
      .exact I _ h
    cases hE:Vo (AI a t)with
    |false=>rfl
    |true=>exact rl ((Ed _).1 hE) C
   have B:Cm (Av a) (AI a) s x=T6:=by
    have:=(nU.1 u) x p;exact qr
   exact B
  .unfold Av Bq
   congr 1
   refine nj (λt j=>?_);rw[G2];by_cases d:t.v=0
   .unfold AI;rw[mo d,mo d]
   .rw[EP d,EP d];rcases g.E t j with h|h
    .exact rl h d
    .exact(w _ h).symm
def fM{i}{c}{g e}(a:Td c g e)(o:Z4 i (Am c) f){σ}(n:∀x∈Am c,Cm (Bq σ) (Eo σ) f x=T6):
  Bq σ c.E∈f\/Bq σ c.E∈SN i c g e f:=by
 obtain⟨b,u,q,p,_⟩:=Hr a.g o n g Bm (Ej.start σ) (λv h=>a.ok v (j2 h));have j:Av b c.E=Bq σ c.E:=by
  unfold Av Bq
  congr 1
  refine nj (λt r=>?_);by_cases d:t.v=0
  .unfold AI Eo;rw[mo d,mo d]
  .rw[EP d];unfold Eo;rw[mm d];rcases a.E t r with h|h
   .exact rl h d
   .exact p _ h
 by_cases k:Bq σ c.E∈f
 .exact j2 k
 .right;obtain⟨w,m,_⟩:=Hr a.g o n e b q (λv h=>a.ok v (j3 h));refine me.2 ⟨b,my.2 ⟨u,?_⟩,j⟩;rw[mC];refine⟨?_,?_⟩
  .rw[j];cases hh:C7 f (Bq σ c.E)with
   |false=>rfl
   |true=>exact rl ((B1 _ _).1 hh) k
  .cases hl:Aw i (Am c) f e b with
   |nil=>rw[hl]at m;simp at m
   |cons x l=>rfl
def RY(e:kN bN)(ts:kN AK)(xs:kN bN):rD:=(ts.zip xs).all λp=>Vo (AI e p.1)||(AI e p.1).toList==p.2.toList
def GZ(s:kN Ae)(A:Dp)(i:Nat)(e:kN bN):kN bN:=(s.filter λf=>(f.a.toList==A.a.toList)&&RY e A.qH f.qH).map λf=>f.qH.getD i ky
def Du(body:kN Bt)(s:kN Ae)(v:rC)(e:kN bN):kN (kN bN):=
 body.filterMap λx=>if x.b==97 then(x.A.qH.findIdx? λt=>t.v==v).map λi=>GZ s x.A i e else Y
def Ql(al:rC->kN bN->kN bN)(body:kN Bt)(s:kN Ae):Prop:=∀v e t,t∈al v e↔Du body s v e≠[]/\∀l∈Du body s v e,t∈l
def XU{e}{σ}(b:Ej e σ):∀a,(∀t∈a,BJ t)->RY e a (a.map (Eo σ))=T6
 |[],_=>rfl
 |t::a,hg=>by
  have ih:=XU b a (λu c=>hg u ss);unfold RY at ih|-;rw[mA,p9,pD,ih,Bool.and_true];cases hz:Vo (AI e t)with
  |true=>rfl
  |false=>
   rw[oO,b.val (hg t ln) (λh=>by rw[(Ed _).2 h]at hz;cases hz)];simp
def To{m}{d}(B:Ql m d f)(r:∀x∈d,ME x):Z4 m d f:=by
 intro v e σ n G F q;rw[B];refine⟨λg=>?_,λl k=>?_⟩
 .obtain⟨x,c,b,u,z,C⟩:=q;unfold Du at g;rw[List.filterMap_eq_nil_iff]at g;have a:=g x c;exact qr
 .obtain⟨x,c,a⟩:=nY.1 k;by_cases b:(x.b==97)=T6
  .rw[mo b,pw]at a;obtain⟨i,E,rfl⟩:=a;obtain⟨o,D,_⟩:=oB.1 E;(have w:v≠0:=λh=>by rw[h]at n;exact rl n.1 lu);(have j:x.A.qH[i].v=v:=by simpa using D);have y:Bq σ x.A∈f:=by
    have:=F x c;unfold Cm at this;rw[mo b]at this;exact(B1 _ _).1 this
   refine me.2 ⟨_,my.2 ⟨y,?_⟩,?_⟩
   .rw[mC];refine⟨by simp[Bq],XU G _ (λt p=>r x c t ?_)⟩;unfold Bw;rw[b,pA,mo rfl];exact p
   .unfold Bq;rw[mq,no,mc o];simp;unfold Eo;rw[mm (by rw[j];exact w),j]
  .rw[mm b]at a;cases a
def iA{n}{b}{s}(y:Ql n b s)(w:∀f∈s,IW f)(u:∀f∈s,∀x∈b,(x.b==97)=T6->f.a=x.A.a->Z f.qH=Z x.A.qH):∀v e,∀t∈n v e,t.size≠0:=by
 intro v e t r;obtain⟨C,D⟩:=(y v e t).1 r;obtain⟨l,g⟩:∃l,l∈Du b s v e:=by
  cases h:Du b s v e with
  |nil=>exact rl h C
  |cons a m=>exact ln
 have o:=D l g;obtain⟨x,B,c⟩:=nY.1 g;by_cases d:(x.b==97)=T6
 .rw[mo d,pw]at c;obtain⟨i,z,rfl⟩:=c;obtain⟨E,_,_⟩:=oB.1 z;obtain⟨f,q,rfl⟩:=me.1 o;obtain⟨k,p⟩:=my.1 q;rw[mC]at p;have F:=u f k x B d (toList_inj (by simpa using p.1));have j:i<Z f.qH:=by omega
  rw[mq,mc j];exact w f k _ (lV j)
 .rw[mm d]at c;cases c
def aD{i}{e}(o:RL i e){k s}(F:Hu i e n k)(h:Hu i e n s)(E:∀f∈k,f∈s)(A:∀f∈s,f∈k\/e f.a=n){c}(r:c∈i)(w:e c.E.a=n){σ}(D:∀x∈Am c,Cm (Bq σ) (Eo σ) k x=T6):
  Hu i e n (A3 s (Bq σ c.E))/\(∀f∈k,f∈A3 s (Bq σ c.E))/\(∀f∈A3 s (Bq σ c.E),f∈k\/e f.a=n):=by
 have B:DQ i (Bq σ c.E):=by
  refine⟨⟨c,r,rfl,by simp[Bq]⟩,λx Q=>?_⟩;obtain⟨t,z,rfl⟩:=me.1 Q;by_cases q:t.v=0
  .unfold Eo;rw[mo q];exact mH.2 ⟨c,r,me.2 ⟨t,my.2 ⟨z,li⟩,rfl⟩⟩
  .rcases o.zD.E c r t z with H|⟨y,L,G,u,M,N⟩
   .exact rl H q
   .have j:=D y L;unfold Cm at j;rw[mo G,B1]at j;have l:=(F.zS _ j).qH _ (mx M);unfold Eo at l|-;exact qr
 obtain⟨a,b,m⟩:=CR (B.qK o.zI) h.zB (λf d=>(h.zS f d).qK o.zI);have j:=(Is c σ k).1 D;have C:F7 i _:=⟨c,r,σ,j.2,rfl⟩;have I:=h.work.step _ _ o.lay.zU C w ⟨λg p=>E g (j.1.1 g p),λg p P=>by
  rcases A g P with h|h
  .exact j.1.2 g p h
  .have l:=o.lay.zU.neg _ C g p
   have R:e (Dr c σ).E.a=n:=w
   omega⟩
 refine⟨⟨I.cong _ _ (λf=>(m f).symm),a,λf d=>?_⟩,λf d=>(m f).2 (j2 (E f d)),λf d=>?_⟩
 .rcases(m f).1 d with d|d
  .exact h.zS f d
  .rw[d];exact B
 .rcases(m f).1 d with d|d
  .exact A f d
  .right;rw[d];exact w
def LY(s:kN Ae)(f):Z s<=Z (A3 s f)/\(f∉s->Z (A3 s f)=Z s+1):=by
 unfold A3;cases hh:C7 s f with
 |true=>exact⟨mt _,λh=>rl ((B1 _ _).1 hh) h⟩
 |false=>rw[mm ln,Ox];exact lc
def L7{b}{a}(e:RL b a){n}{d}(i:Hu b a n d){c}(j:c∈b)(k:a c.E.a=n):
  ∀(l:kN Ae) (s),(∀f∈l,∃σ,(∀x∈Am c,Cm (Bq σ) (Eo σ) d x=T6)/\f=Bq σ c.E)->Hu b a n s->(∀f∈d,f∈s)->(∀f∈s,f∈d\/a f.a=n)->
   Hu b a n (qU A3 s l)/\Z s<=Z (qU A3 s l)
 |[],s,_,h,_,_=>⟨h,mt _⟩
 |f::l,s,hl,h,hsub,hnew=>by
  obtain⟨σ,r,rfl⟩:=hl f ln;obtain⟨m,p,q⟩:=aD e i h hsub hnew j k r;obtain⟨o,u⟩:=L7 e i j k l _ (λg t=>hl g (by simp[t])) m p q;rw[mK];have:=(LY s (Bq σ c.E)).1;exact⟨o,lc⟩
structure XC where
 hv:AW->kN rC
 rv:AW->kN rC
 al:AW->kN Ae->rC->kN bN->kN bN
def XC.new(W:XC)(c:AW)(s:kN Ae):kN Ae:=SN (W.al c s) c (W.hv c) (W.rv c) s
def Km(W:XC)(a:kN Ae×rD)(c:AW):kN Ae×rD:=(qU A3 a.1 (W.new c a.1),a.2|| !(W.new c a.1).isEmpty)
def Gm(W:XC)(ds:kN AW)(s:kN Ae):kN Ae×rD:=qU (Km W) (s,K) ds
structure SX(W:XC)(cs:kN AW):Prop where
 parts:∀c∈cs,Td c (W.hv c) (W.rv c)
 al:∀c∈cs,∀s,Ql (W.al c s) (Am c) s
 arity:∀c∈cs,∀d∈cs,∀x∈Am d,(x.b==97)=T6->c.E.a=x.A.a->Z c.E.qH=Z x.A.qH
def SX.sizes{W}{a}{g}(i:SX W a)(m:RL a g)(u:∀c∈a,∀d∈a,c.E.a=d.E.a->Z c.E.qH=Z d.E.qH){s}(h:Hu a g n s){c}(j:c∈a):∀v e,∀t∈W.al c s v e,t.size≠0:=by
 refine iA (i.al c j s) (λf b=>((h.zS f b).qK m.zI).zD) (λf b x q l r=>?_);obtain⟨d,k,p,o⟩:=(h.zS f b).zV;rw[o];exact i.arity d k c j x q l (by rw[<-p];exact r)
def Pf{W}{e}{p}(q:SX W e)(k:RL e p)(r:∀c∈e,∀d∈e,c.E.a=d.E.a->Z c.E.qH=Z d.E.qH){n}:
  ∀(b:kN AW) (s) (m),(∀c∈b,c∈e/\p c.E.a=n)->Hu e p n s->
   Hu e p n (qU (Km W) (s,m) b).1/\Z s<=Z (qU (Km W) (s,m) b).1/\
    ((qU (Km W) (s,m) b).2=K->(qU (Km W) (s,m) b).1=s/\m=K/\∀c∈b,W.new c s=[])/\
    ((qU (Km W) (s,m) b).2=T6->m=T6\/Z s<Z (qU (Km W) (s,m) b).1)
 |[],s,m,_,h=>⟨h,mt _,λi=>⟨rfl,i,λc j=>by simp at j⟩,λi=>j2 i⟩
 |c::b,s,m,hd,h=>by
  rw[mK];have B:∀c∈b,c∈e/\p c.E.a=n:=λx o=>hd x (by simp[o])
  obtain⟨j,v⟩:=hd c ln;have t:∀f∈W.new c s,f∉s/\∃σ,(∀x∈Am c,Cm _ _ s x=T6)/\f=Bq σ c.E:=λf a=>UF (q.parts c j) (q.sizes k r h j) a
  obtain⟨C,R⟩:=L7 k h j v _ s (λf a=>(t f a).2) h (λf a=>a) (λf a=>j2 a);cases hl:W.new c s with
  |nil=>
   (have y:Km W (s,m) c=(s,m):=by unfold Km;rw[hl];simp);rw[y];obtain⟨w,z,u,A⟩:=Pf q k r b s m B h;refine⟨w,z,λi=>?_,A⟩;obtain⟨D,L,E⟩:=u i;exact qr
  |cons f l=>
   have a:=t f (by rw[hl];simp);(have y:Km W (s,m) c=(qU A3 s (W.new c s),T6):=by unfold Km;rw[hl];simp);rw[y];obtain⟨w,z,u,A⟩:=Pf q k r b _ T6 B C;have Q:Z s<Z (qU A3 s (W.new c s)):=by
    rw[hl,mK];have P:=(LY s f).2 a.1;obtain⟨σ,I,rfl⟩:=a.2;obtain⟨G,M,H⟩:=aD k h h (λf a=>a) (λf a=>j2 a) j v I;have N:=(L7 k h j v l _ (λg F=>(t g (by rw[hl];simp[F])).2) G M H).2;omega
   refine⟨w,lc,λi=>?_,λi=>j3 lc⟩;have:=(u i).2.1;cases this
def cX{W}{a}{e}(l:SX W a)(r:RL a e)(w:∀c∈a,∀d∈a,c.E.a=d.E.a->Z c.E.qH=Z d.E.qH){b}(o:∀c,c∈b↔c∈a/\e c.E.a=n){s}(h:Hu a e n s):
  Hu a e n (Gm W b s).1/\((Gm W b s).2=K->(Gm W b s).1=s/\Hu a e (n+1) s)/\
   ((Gm W b s).2=T6->Z s<Z (Gm W b s).1)/\Z (Gm W b s).1<=Z (Vx a):=by
 unfold Gm;obtain⟨q,B,x,y⟩:=Pf l r w b s K (λc g=>(o c).1 g) h;refine⟨q,λm=>?_,λm=>?_,q.len r.zI⟩
 .obtain⟨t,_,u⟩:=x m;refine⟨t,h.work.next _ _ ?_,h.zB,h.zS⟩;rintro i ⟨c,g,σ,A,rfl⟩ z v;have j:=(Is c σ s).2 ⟨v,A⟩;rcases fM (l.parts c g) (To (l.al c g s) (l.parts c g).g) j with k|k
  .exact k
  .have p:=u c ((o c).2 ⟨g,z⟩);unfold XC.new at p;rw[p]at k;simp at k
 .exact qr
def Gr(L:bN->Nat)(n:Nat)(x:Bt):Nat:=if x.b==97 then max n (L x.A.a)else if x.b==33 then max n (L x.A.a+1)else n
def Hf(L:bN->Nat)(body:kN Bt):Nat:=qU (Gr L) 0 body
def Qr(L:bN->Nat)(k:bN)(n:Nat):bN->Nat:=λx=>if x.toList==k.toList then n else L x
def E4(a:(bN->Nat)×rD)(c:AW):(bN->Nat)×rD:=if a.1 c.E.a<Hf a.1 (Am c)then(Qr a.1 c.E.a (Hf a.1 (Am c)),T6)else a
def MR(cs:kN AW)(L:bN->Nat):(bN->Nat)×rD:=qU E4 (L,K) cs
def EL(cs:kN AW)(L:bN->Nat):Nat:=(cs.map λc=>L c.E.a).sum
def If(L k n):Qr L k n k=n:=by unfold Qr;simp
def Ka{L}(n)(h:t≠s):Qr L s n t=L t:=by
 unfold Qr;rw[mm (λa=>h (toList_inj sA))]
def Pc(L):∀(a:kN Bt) (n),n<=qU (Gr L) n a/\∀x∈a,((x.b==97)=T6->L x.A.a<=qU (Gr L) n a)/\((x.b==33)=T6->L x.A.a<qU (Gr L) n a)
 |[],n=>⟨mt _,λx c=>by simp at c⟩
 |y::a,n=>by
  rw[mK];obtain⟨k,i⟩:=Pc L a (Gr L n y);have e:n<=Gr L n y/\((y.b==97)=T6->L y.A.a<=Gr L n y)/\((y.b==33)=T6->L y.A.a<Gr L n y):=by
   unfold Gr;by_cases b:(y.b==97)=T6
   .exact qy
   .rw[mm b];by_cases d:(y.b==33)=T6
    .exact qy
    exact qr
  refine⟨lc,λx c=>?_⟩;rcases l9.1 c with rfl|c
  .exact⟨λh=>by have:=e.2.1 h;omega,λh=>by have:=e.2.2 h;omega⟩
  .exact i x c
def O2{L}{b}:∀(a:kN Bt) (n),n<=b->(∀x∈a,((x.b==97)=T6->L x.A.a<=b)/\((x.b==33)=T6->L x.A.a<b))->qU (Gr L) n a<=b
 |[],n,hn,_=>hn
 |y::a,n,hn,h=>by
  refine O2 a _ ?_ (λx g=>h x (by simp[g]));obtain⟨f,e⟩:=h y ln;unfold Gr;by_cases c:(y.b==97)=T6
  .rw[mo c];have:=f c;omega
  .rw[mm c];by_cases d:(y.b==33)=T6
   .rw[mo d];have:=e d;omega
   .rw[mm d];exact hn
def ZY{cs}{L a}(h:∀x,L x<=a x):EL cs L<=EL cs a:=by
 unfold EL
 induction cs with
 |nil=>simp
 |cons c cs ih=>
  simp;have:=h c.E.a;omega
def ii{cs}{L b}(h:∀x,L x<=b x){c}(a:c∈cs)(f:L c.E.a<b c.E.a):EL cs L<EL cs b:=by
 induction cs with
 |nil=>simp at a
 |cons d cs ih=>
  have i:=h d.E.a;have g:=ZY (cs:=cs) h;have e:∀M,EL (d::cs) M=M d.E.a+EL cs M:=λM=>lx
  rw[e,e];rcases l9.1 a with rfl|a
  .omega
  .have:=ih a;omega
def Kv{e}{g}(j:CP e g):∀(b:kN AW) (L) (m),(∀c∈b,c∈e)->(∀x,L x<=g x)->
  (∀x,L x<=(qU E4 (L,m) b).1 x)/\(∀x,(qU E4 (L,m) b).1 x<=g x)/\
   ((qU E4 (L,m) b).2=K->(qU E4 (L,m) b).1=L/\m=K/\∀c∈b,Hf L (Am c)<=L c.E.a)/\
   ((qU E4 (L,m) b).2=T6->m=T6\/EL e L<EL e (qU E4 (L,m) b).1)
 |[],L,m,_,h=>⟨λx=>mt _,h,λd=>⟨rfl,d,λc i=>by simp at i⟩,λd=>j2 d⟩
 |c::b,L,m,hd,h=>by
  rw[mK];have s:∀c∈b,c∈e:=λx a=>hd x sr
  have i:=hd c ln;by_cases p:L c.E.a<Hf L (Am c)
  ·(have o:E4 (L,m) c=(Qr L c.E.a (Hf L (Am c)),T6):=by unfold E4;rw[mo p]);rw[o];have q:∀x,L x<=Qr L c.E.a (Hf L (Am c)) x:=by
    intro x;by_cases a:x=c.E.a
    .subst a;rw[If];omega
    .rw[Ka _ a];exact mt _
   have v:Hf L (Am c)<=g c.E.a:=by
    refine O2 _ _ (mr _) (λx a=>⟨λl=>?_,λl=>?_⟩)
    .exact mZ (h _) (j.pos c i x a l)
    .exact Nat.lt_of_le_of_lt (h _) (j.neg c i x a l)
   have y:∀x,Qr L c.E.a (Hf L (Am c)) x<=g x:=by
    intro x;by_cases a:x=c.E.a
    .subst a;rw[If];exact v
    .rw[Ka _ a];exact h x
   obtain⟨f,k,n,r⟩:=Kv j b _ T6 s y;refine⟨λx=>mZ (q x) (f x),k,λd=>?_,λd=>j3 ?_⟩
   .exact qr
   .refine ii (λx=>mZ (q x) (f x)) i ?_;have w:=f c.E.a;rw[If]at w;omega
  ·(have o:E4 (L,m) c=(L,m):=by unfold E4;rw[mm p]);rw[o];obtain⟨f,k,n,r⟩:=Kv j b L m s h;refine⟨f,k,λd=>?_,r⟩;obtain⟨t,z,u⟩:=n d;exact qr
def Zp{a}{e}(p:CP a e){L}(h:∀x,L x<=e x):
  (∀x,(MR a L).1 x<=e x)/\((MR a L).2=K->(MR a L).1=L/\CP a L)/\((MR a L).2=T6->EL a L<EL a (MR a L).1)/\EL a (MR a L).1<=EL a e:=by
 unfold MR;obtain⟨_,k,n,o⟩:=Kv p a L K (λc d=>d) h;refine⟨k,λf=>?_,λf=>?_,ZY k⟩
 .obtain⟨m,_,l⟩:=n f;refine⟨m,λc d x j g=>?_,λc d x j g=>?_⟩
  .have b:=((Pc L _ 0).2 x j).1 g;have i:=l c d;exact mZ b i
  .have b:=((Pc L _ 0).2 x j).2 g;have i:=l c d;exact nR b i
 .exact qr
def DI(acc:kN rC)(t:AK):kN rC:=if(t.v !=0&& !acc.contains t.v)=T6 then acc++[t.v] else acc
def DJ(acc:kN rC)(ts:kN AK):kN rC:=qU DI acc ts
def Ex:∀f c,c.Nodup->(∃r,DJ c f=c++r)/\(DJ c f).Nodup/\∀v,v∈DJ c f↔v∈c\/(v≠0/\∃t∈f,t.v=v)
 |[],c,h=>⟨⟨[],by simp[DJ]⟩,h,λv=>by simp[DJ]⟩
 |t::f,c,h=>by
  have e:DJ c (t::f)=DJ _ f:=rfl;rw[e];by_cases i:(t.v !=0&& !c.contains t.v)=T6
  ·(have m:DI c t=c++[t.v]:=by unfold DI;rw[mo i]);rw[m];rw[mC]at i;have y:t.v∉c:=qr
   (have w:t.v≠0:=by simpa using i.1);have x:(c++[t.v]).Nodup:=by
    rw[pH];refine⟨h,ln,λa n b o s=>?_⟩;exact qr
   obtain⟨⟨r,p⟩,k,l⟩:=Ex f _ x;refine⟨⟨t.v::r,by rw[p];simp⟩,k,λv=>?_⟩;rw[l,mi,lX];constructor
   .rintro ((h|h)|⟨h,u,d,g⟩)
    .exact j2 h
    .exact qr
    .exact j3 ⟨h,u,sn,g⟩
   .rintro (h|⟨h,u,d,g⟩)
    .exact j2 (j2 h)
    .rcases l9.1 d with rfl|d
     .exact j2 (j3 g.symm)
     .exact j3 ⟨h,u,d,g⟩
  ·(have m:DI c t=c:=by unfold DI;rw[mm i]);rw[m];obtain⟨q,k,l⟩:=Ex f c h;refine⟨q,k,λv=>?_⟩;rw[l];constructor
   .rintro (h|⟨h,u,d,g⟩)
    .exact j2 h
    .exact j3 ⟨h,u,sn,g⟩
   .rintro (h|⟨h,u,d,g⟩)
    .exact j2 h
    .rcases l9.1 d with rfl|d
     .exact qr
     .exact j3 ⟨h,u,d,g⟩
def CK(c:AW):kN rC:=DJ [] c.E.qH
def DE(c:AW):kN rC:=(DJ [] (c.E.qH++qS Bw (Am c))).drop (Z (CK c))
def Pm(c):DJ [] (c.E.qH++qS Bw (Am c))=CK c++DE c:=by
 have e:DJ [] (c.E.qH++qS Bw (Am c))=DJ (CK c) (qS Bw (Am c)):=by
  unfold DJ CK DJ;rw[m6]
 obtain⟨⟨r,a⟩,_,_⟩:=Ex (qS Bw (Am c)) (CK c) (Ex _ [] oH).2.1;unfold DE;rw[e,a,List.drop_left]
def X4{o}(m:RM o){c}(n:c∈o)(y:∀x∈Am c,Di x):Td c (CK c) (DE c):=by
 have i:=Ex (c.E.qH++qS Bw (Am c)) [] oH;have C:=Ex c.E.qH [] oH;rw[Pm]at i;have k:∀t,t.v≠0->Fh (Am c) t->∃x∈Am c,(x.b==97)=T6/\∃u∈x.A.qH,u.v=t.v:=by
  intro t b r;rcases r with h|h
  .exact rl h b
  .exact h
 have w:∀v,v∈CK c\/v∈DE c->∃x∈Am c,(x.b==97)=T6/\∃u∈x.A.qH,u.v=v:=by
  intro v g;have d:=(i.2.2 v).1 (mi.2 g);rcases d with d|⟨b,t,a,rfl⟩
  .simp at d
  .rcases mi.1 a with a|a
   .exact k t b (m.E c n t a)
   .obtain⟨x,e,a⟩:=mH.1 a;by_cases f:(x.b==97)=T6
    .unfold Bw at a;rw[f,pA,mo rfl]at a;exact⟨x,e,f,t,a,rfl⟩
    .have q:=m.safe c n x e (by simpa using f);unfold Bw at a;by_cases j:(x.b==33)=T6
     .rw[j,pY,mo rfl]at a;exact k t b (q.1 j t a)
     .rw[mm (by rw[nN,not_or];exact⟨f,j⟩)]at a;obtain⟨B,s⟩:=q.2 (by simpa using j);rcases l9.1 a with rfl|a
      .exact k _ b B
      .rw[lX]at a;subst a;exact k _ b s
 refine⟨λv g=>?_,?_,?_,?_,λx e=>(y x e).yc⟩
 .obtain⟨x,e,f,u,p,l⟩:=w v g;refine⟨?_,x,e,f,u,p,l⟩;have d:=(i.2.2 v).1 (mi.2 g);have b:v≠0:=by
   rcases d with d|d
   .simp at d
   .exact d.1
  rcases m.qH c n x e f u p with h|h
  .rw[l]at h;exact rl h.1 b
  .rw[l]at h;exact h
 .intro v g z;have:=(pH.1 i.2.1).2.2 v g v z;exact this rfl
 .intro t a;by_cases b:t.v=0
  .exact j2 b
  .exact j3 ((C.2.2 t.v).2 (j3 ⟨b,t,a,rfl⟩))
 .intro x e t a;by_cases b:t.v=0
  .exact j2 b
  .right;exact mi.1 ((i.2.2 t.v).2 (j3 ⟨b,t,mi.2 (j3 (mH.2 ⟨x,e,a⟩)),rfl⟩))
def B8.zZ{a}(h:B8 a):∀c∈a,BQ a c.E.a=(Z c.E.qH:Int):=by
 intro c b;obtain⟨k,d,rfl⟩:=mS b;exact(E3 (h.j k d)).2.2.2.2.2.1
def B8.yJ{a}(h:B8 a):∀c∈a,∀x∈Am c,(x.b==97)=T6->BQ a x.A.a=(Z x.A.qH:Int):=by
 intro c g x i e;obtain⟨k,f,rfl⟩:=mS g;obtain⟨p,d,rfl⟩:=me.1 i;have b:=(ol.1 (E3 (h.j k f)).2.2.2.2.2.2.1) p d;unfold Ci L5 at b;rw[e,pA,nQ]at b;simpa using b
def B8.ar2{a}(h:B8 a):∀c∈a,∀d∈a,c.E.a=d.E.a->Z c.E.qH=Z d.E.qH:=by
 intro c f d b e;have g:=h.zZ c f;rw[e,h.zZ d b]at g;omega
def B8.ar3{a}(h:B8 a):∀c∈a,∀d∈a,∀x∈Am d,(x.b==97)=T6->c.E.a=x.A.a->Z c.E.qH=Z x.A.qH:=by
 intro c i d b x j f e;have g:=h.zZ c i;rw[e,h.yJ d b x j f]at g;omega
def Sy(a):∀d x,BW a d x<=d
 |0,x=>mt 0
 |d+1,x=>by
  by_cases h:0<BW a (d+1) x
  .obtain⟨y,b,e,f⟩:=RZ a d x h;have g:b<=1:=by
    obtain⟨c,_,_,l,_,_,h|h⟩:=e<;>omega
   have:=Sy a d y;omega
  .omega
def B8.small{a}(h:B8 a):Z a<=12/\∀c∈a,Z c.bl<=3/\Z c.E.qH<=2/\∀p∈c.bl,BC p=K:=by
 have e:∀k (d:k<Z a),k<12/\a[k].bl.length<=3/\a[k].E.qH.length<=2/\∀p∈a[k].bl,BC p=K:=by
  intro k d;have b:=h.j k d;unfold Cr at b;by_cases f:12<=k\/3<a[k].bl.length
  .rw[mo f]at b;cases b
  rw[mm f]at b;by_cases g:2<a[k].E.qH.length
  .rw[mo g]at b;cases b
  rw[mm g]at b;cases a3:a[k].bl.any BC with
  |true=>exact qr
  |false=>
   exact qr
 refine⟨?_,λc l=>?_⟩
 .by_cases j:Z a<=12
  .exact j
  .have:=(e 12 lc).1;omega
 .obtain⟨k,d,rfl⟩:=mS l;exact(e k d).2
def Yo(a)(h:∀c∈a,Z c.E.qH<=2):Z (consts a)<=Z a*2:=by
 unfold consts
 induction a with
 |nil=>simp
 |cons c a ih=>
  have f:=ih (λd b=>h d (mP _ b));have e:=h c (m9 ..);have g:=nL (λt:AK=>t.v==0) c.E.qH;simp only[mB,mp,mh,mn];omega
def Ko(l):∀n,Z (Em l n)=Z l^n
 |0=>rfl
 |n+1=>by
  have ih:=Ko l n;unfold Em;have:∀m:kN bN,Z (m.flatMap λx=>(Em l n).map (x:: ·))=Z m*Z l^n:=by
   intro m
   induction m with
   |nil=>simp
   |cons x m ih2=>
    simp only[mB,mp,mh,ih2,ih,mn,oD,Nat.one_mul];omega
  rw[this l,Nat.pow_succ,Nat.mul_comm]
def gq{a:kN AW}(m:Z a<=12)(h:∀c∈a,Z c.E.qH<=2):Z (Vx a)<=6912:=by
 have j:Z (consts a)<=24:=by have:=Yo a h;omega
 have g:∀n,n<=2->Z (Em (consts a) n)<=576:=by
  intro n k;rw[Ko]
  match n,k with
  |0,_=>simp
  |1,_=>simp;omega
  |2,_=>
   have:=Nat.pow_le_pow_left j 2;omega
 have f:∀b:kN AW,(∀c∈b,Z c.E.qH<=2)->Z (b.flatMap λc=>(Em (consts a) (Z c.E.qH)).map (Ae.mk c.E.a))<=Z b*576:=by
  intro b
  induction b with
  |nil=>simp
  |cons c b ih=>
   intro e;have o:=ih (λd i=>e d (mP _ i));have l:=g _ (e c (m9 ..));simp only[mB,mp,mh,mn,oD,Nat.one_mul];omega
 have:=f a h;unfold Vx;omega
structure k0(cs:kN AW):Prop where
 small:Z cs<=1000/\∀c∈cs,Z c.bl<=3/\Z c.E.qH<=2/\∀p∈c.bl,BC p=K
 few:∀s:kN Ae,s.Nodup->(∀f∈s,DQ cs f)->Z s<=6912
 ar2:∀c∈cs,∀d∈cs,c.E.a=d.E.a->Z c.E.qH=Z d.E.qH
 ar3:∀c∈cs,∀d∈cs,∀x∈Am d,(x.b==97)=T6->c.E.a=x.A.a->Z c.E.qH=Z x.A.qH
 zZ:∀c∈cs,BQ cs c.E.a=(Z c.E.qH:Int)
 six:Z (Bh cs)<=6
def KE{a}(h:B8 a):Z (Bh a)<=6:=by
 cases a with
 |nil=>exact mr _
 |cons c l=>
  have b:=(E3 (h.j (Z l) ln)).2.2.2.2.1;rw[lY ln]at b;exact b
def B8.ordr{a}(h:B8 a):k0 a:=by
 obtain⟨e,b⟩:=h.small;refine⟨⟨lc,b⟩,λs i d=>?_,h.ar2,h.ar3,h.zZ,KE h⟩;have l:=G0 s _ i λf g=>(d f g).mem
 have k:=gq e (λc j=>(b c j).2.1);omega
structure Cb(cs:kN AW):Prop where
 order:k0 cs
 prog:RL cs (BW cs 6)
 g:∀c∈cs,∀x∈Am c,Di x
 zI:∀c∈cs,MU c.E
def EN{d:kN AW}(h:(Ao s (Af s 0)).2.2=K)(a:d.map AW.erase=(Ao s (Af s 0)).1)(e:CH d=(0,0)):Cb d:=
 ⟨(JH e).ordr,dy h a e,λc b=>(Ms h a c b).2,λc b=>(Ms h a c b).1⟩
def E6(al:AW->kN Ae->rC->kN bN->kN bN):XC:=⟨CK,DE,al⟩
def Cb.ways{a}(h:Cb a){b}(e:∀c∈a,∀s,Ql (b c s) (Am c) s):SX (E6 b) a:=
 ⟨λc d=>X4 h.prog.zD d (h.g c d),e,h.order.ar3⟩
def Cb.other(h:Cb c){L}(a:CP c L):RL c L:=⟨h.prog.zD,a,h.prog.zI⟩
def Cb.grow{a}(h:Cb a){al}(b:∀c∈a,∀f,Ql (al c f) (Am c) f){L}(e:CP a L){ds}(d:∀c,c∈ds↔c∈a/\L c.E.a=n)(g:Hu a L n f):
  Hu a L n (Gm (E6 al) ds f).1/\((Gm (E6 al) ds f).2=K->(Gm (E6 al) ds f).1=f/\Hu a L (n+1) f)/\
   ((Gm (E6 al) ds f).2=T6->Z f<Z (Gm (E6 al) ds f).1)/\Z (Gm (E6 al) ds f).1<=Z (Vx a):=
 cX (h.ways b) (h.other e) h.order.ar2 d g
def Cb.round(h:Cb c)(a:Hu c (BW c 6) n f):
  Hu c (BW c 6) n (EF c (BW c 6) n f).1/\((EF c (BW c 6) n f).2=K->(EF c (BW c 6) n f).1=f/\Hu c (BW c 6) (n+1) f)/\
   ((EF c (BW c 6) n f).2=T6->Z f<Z (EF c (BW c 6) n f).1)/\Z (EF c (BW c 6) n f).1<=Z (Vx c):=
 Yd h.prog a
def Cb.one{a}(h:Cb a){s t}(d:Hu a (BW a 6) 7 s){L}(f:CP a L)(b:Hu a L n t)(e:∀c∈a,L c.E.a<n):s=t:=
 iT h.prog (h.other f) d b (λc _=>by have:=Sy a 6 c.E.a;omega) e
def D0:bN->rD->kN bN->bN
 |s,_,[]=>s
 |s,b,x::l=>D0 (s++(if b then⟨#[44]⟩else⟨#[40]⟩)++B3 x) T6 l
def Fx(p:CE):bN:=D0 p.a K p.dN++⟨#[41,46]⟩
def Ts:bN->kN CE->bN
 |t,[]=>t
 |t,p::l=>Ts (t++Fx p++⟨#[10]⟩) l
def iV:bN->kN Ae->bN
 |t,[]=>t
 |t,f::l=>iV (t++B7 f++⟨#[10]⟩) l
def P1:∀l s,(∀x∈l,A7 x)->D0 s T6 (l.map AE)=Gg s T6 l
 |[],s,_=>rfl
 |x::l,s,h=>by
  rw[mA,D0,Gg,GC (h x ln),P1 l _ (λy a=>h y sr)];simp
def Ps{f}(h:AG f)(b:f.qH≠[]):Fx (Bn f)=B7 f:=by
 unfold Fx B7 Bn;cases hl:f.qH with
 |nil=>exact rl hl b
 |cons x l=>
  have a:∀y∈x::l,A7 y:=by rw[<-hl];exact h
  rw[mA,D0,Gg,GC (a x ln),P1 l _ (λy c=>a y ss)];simp
def Xn:∀l t,(∀f∈l,AG f/\f.qH≠[])->Ts t (l.map Bn)=iV t l
 |[],t,_=>rfl
 |f::l,t,h=>by
  obtain⟨a,c⟩:=h f ln;rw[mA,Ts,iV,Ps a c,Xn l _ (λg b=>h g sq)]
def gS:∀l t,Oc t l=iV t (l.map BE.f)
 |[],t=>rfl
 |p::l,t=>by rw[Oc,mA,iV,gS l]
def fD(s a):(CO s a).1≠[]:=by
 rw[CO];split<;>simp
def eY(h:(A5 s n K).2.2=K):(A5 s n K).1.qH≠[]:=by
 unfold A5 at h|-;simp only at h|-;have a:=Ji h;unfold Ez at a|-;cases hm:(BM s (A9 s (AS s n K) K).2.1 (A9 s (AS s n K) K).2.2 40).2 with
 |true=>exact qr
 |false=>exact fD _ _
def QM(h:(An s n).2.2=K):(An s n).1.E.qH≠[]:=by
 exact eY (Kl (Ji h)).1
def Wm{s}{b}(h:(Ao s b).2.2=K):∀c∈(Ao s b).1,c.E.qH≠[]:=by
 fun_induction Ao s b with
 |case1 b ha hc ih=>
  intro c a;rcases l9.1 a with rfl|a
  .exact QM hc.1
  .exact ih h c a
 |case2 b ha hc=>
  intro c a;rw[lX]at a;subst a;exact QM h
 |case3 b ha=>exact ln
def Oz{a:kN AW}(h:(Ao s n).2.2=K)(e:a.map AW.erase=(Ao s n).1):∀c∈a,c.E.qH≠[]:=by
 intro c d;have b:c.erase∈(Ao s n).1:=by rw[<-e];exact mx d
 exact Wm h _ b
def Cb.qJ{a}(h:Cb a)(j:∀c∈a,c.E.qH≠[]){i}(m:Hu a (BW a 6) 7 (i.map BE.f)){L}(k:CP a L){t}(b:Hu a L n t)(o:∀c∈a,L c.E.a<n):
  Ts ky (t.map Bn)=Oc ky i:=by
 have e:=h.one m k b o;rw[gS,e];refine Xn t _ (λf d=>⟨(b.zS f d).qK h.prog.zI,λl=>?_⟩);obtain⟨c,p,_,g⟩:=(b.zS f d).zV;rw[l]at g;exact j c p (ot g.symm)
structure CJ(fs:kN D5)(s:kN Ae):Prop where
 same:fs.map D5.f=s.map Bn
 zB:D3 s
 qK:∀f∈s,AG f
def D3.pad{s}(d:D3 s)(c:∀f∈s,AG f):(s.map Bn).Pairwise λa b=>CT a b<0:=by
 rw[oE];exact oC (fun{a b} ha hb hab=>(Ei (c a ha) (c b hb)).1 hab) d
def CJ.pair{c}{s}(h:CJ c s):c.Pairwise λa b=>CT a.f b.f<0:=by
 have:=h.zB.pad h.qK;rw[<-h.same,oE]at this;exact this
def Xq(a):¬CT a a<0:=by
 have:CT a a=0:=(FZ a a).2 rfl;omega
def CJ.G{a}{s}(h:CJ a s)(x):∀i j d (c:j<Z a),i<=j->CT a[j].f x<0->CT a[i].f x<0:=by
 intro i j d c g e;rcases py g with b|b
 .exact IH (ox.1 h.pair i j d c b) e
 .subst b;exact e
def CJ.mem{a}{s}(h:CJ a s){f}(c:AG f):(∃p∈a,p.f=Bn f)↔f∈s:=by
 have e:(∃p∈a,p.f=Bn f)↔Bn f∈a.map D5.f:=by rw[me]
 rw[e,h.same,me];constructor
 .rintro ⟨g,b,e⟩;rw[<-LT (h.qK g b) c e];exact b
 .intro d;exact⟨f,d,rfl⟩
def CJ.ze{a}{s}(h:CJ a s){f}(l:AG f)(k:EW a (Bn f) n):Dg a (Bn f) n=C7 s f:=by
 have r:Dg a (Bn f) n=T6↔C7 s f=T6:=by
  rw[B1,<-h.mem l];unfold Dg;constructor
  .intro c;split at c
   .rename_i b;exact⟨a[n],lV b,(FZ _ _).1 (by simpa using c)⟩
   .cases c
  .rintro ⟨q,o,e⟩;obtain⟨j,i,rfl⟩:=mS o;have m:n<=j:=by
    by_cases c:j<n
    .have:=k.below j i c;rw[e]at this;exact rl this (Xq _)
    .omega
   have b:n<Z a:=lc;rw[dif_pos b];rcases py m with d|d
   .have g:=ox.1 h.pair n j b i d;rw[e]at g;exact rl g (k.zd n b (mt _))
   .subst d;rw[e];simpa using(FZ _ _).2 rfl
 exact qr
def CJ.yP{a}{s}(h:CJ a s){f}(d:AG f)(c:EW a (Bn f) n)(b:Dg a (Bn f) n=T6):CJ a (A3 s f):=by
 rw[h.ze d c]at b;have:A3 s f=s:=by unfold A3;rw[b,mo rfl]
 rw[this];exact h
def CJ.zm{d}{s}(h:CJ d s){x}{f}(u:x.f=Bn f)(l:AG f)(v:EW d (Bn f) n)(A:Dg d (Bn f) n=K):CJ (d.take n++x::d.drop n) (A3 s f):=by
 obtain⟨a,b,m⟩:=CR l h.zB h.qK;refine⟨?_,a,b⟩;have D:f∉s:=λG=>by rw[h.ze l v,(B1 _ _).2 G]at A;cases A
 refine Kq (lt:=λa b=>CT a b<0) Xq (λa b c=>IH) _ _ ?_ (a.pad b) (λy=>?_)
 .rw[oE,pS];have B:=h.pair;have F:=B.take (i:=n);have C:=B.drop (i:=n);have w:∀q∈d.take n,CT q.f x.f<0:=by
   intro q j;obtain⟨i,t,rfl⟩:=mS j;rw[mT]at t;rw[po,u];exact v.below i lc lc
  have z:∀q∈d.drop n,CT x.f q.f<0:=by
   intro q j;obtain⟨i,t,rfl⟩:=mS j;rw[mX]at t;rw[pP,u];have L:=v.zd (n+i) lc lc;(have I:CT d[n+i].f _≠0:=λe=>D ((h.mem l).1 ⟨_,lV _,(FZ _ _).1 e⟩));exact(aW _ _).1 lc
  refine⟨F,oh.2 ⟨z,C⟩,λq j r o=>?_⟩;rcases l9.1 o with rfl|o
  .exact w q j
  .exact IH (w q j) (z r o)
 .have H:y∈(d.take n++x::d.drop n).map D5.f↔y=x.f\/y∈d.map D5.f:=by
   (have E:d.map D5.f=(d.take n).map D5.f++(d.drop n).map D5.f:=by rw[<-mO,ni]);rw[E];simp only[mO,mA,mi,l9];constructor
   .rintro (h|h|h)
    .exact j3 (j2 h)
    .exact j2 h
    .exact j3 (j3 h)
   .rintro (h|h|h)
    .exact j3 (j2 h)
    .exact j2 h
    .exact j3 (j3 h)
  rw[H,h.same,me,me,u];constructor
  .rintro (rfl|⟨g,k,rfl⟩)
   .exact qr
   .exact⟨g,(m g).2 (j2 k),rfl⟩
  .rintro ⟨g,k,rfl⟩;rcases(m g).1 k with k|rfl
   .exact j3 ⟨g,k,rfl⟩
   exact ln
def gh(l):¬E8 l []<0:=by
 cases l<;>simp[E8]
def On(a n):CT a ⟨n,[]⟩<0↔D7 a.a n<0:=by
 unfold CT;simp;split
 .constructor
  .intro b;exact rl b (gh _)
  exact lc
 exact lc
def J5{α:Type}{p}:∀(l:kN α),l.Pairwise (λa b=>p b=T6->p a=T6)->l.takeWhile p=l.filter p
 |[],_=>rfl
 |x::l,h=>by
  rw[oh]at h;rw[List.takeWhile_cons,nJ];cases hx:p x with
  |true=>rw[mo rfl,mo rfl,J5 l h.2]
  |false=>
   exact qr
def Qv(n:bN)(q:D5):rD:=q.f.a.toList==n.toList
def W6(x:bN):bN:=if Vo x then x else AE x
def Bo(e:kN bN):kN bN:=e.map W6
def SY(x:bN):Prop:=x.size=0\/A7 x
def bG:Vo ky=T6:=(Ed _).2 rfl
def QK:W6 ky=ky:=by unfold W6;rw[bG,mo rfl]
def CU(h:A7 s):W6 s=AE s:=by
 unfold W6;cases he:Vo s with
 |true=>exact rl ((Ed _).1 he) h.size
 |false=>rfl
def de(h:A7 s):(AE s).size≠0:=by
 rcases h with⟨c,r,e,a,b⟩|h
 .rw[FI e a,Bi,e];simp
 .rw[Bi,Gq h];rcases Ft h with⟨c,e,_⟩|⟨c,d,e,_⟩|⟨c,d,f,e,_⟩<;>rw[e]<;>simp
def gV(h:SY s):Vo (W6 s)=Vo s:=by
 rcases h with h|h
 .have:=(Ed _).2 h;unfold W6;rw[this,mo rfl,this]
 .have a:Vo s=K:=by
   cases he:Vo s with
   |true=>exact rl ((Ed _).1 he) h.size
   |false=>rfl
  rw[CU h,a];cases he:Vo (AE s)with
  |true=>exact rl ((Ed _).1 he) (de h)
  |false=>rfl
def Rk(b:kN bN)(t:AK):bN:=if t.v=0 then W6 t.s else b.getD (t.v.toNat-65) ky
def Ew(e t):Rk (Bo e) t=W6 (AI e t):=by
 unfold Rk AI Bo;by_cases a:t.v=0
 .rw[mo a,mo a]
 .rw[mm a,mm a,mq,mq,no];cases e[t.v.toNat-65]? with
  |none=>exact QK.symm
  |some x=>rfl
def iU(e j)(h:A7 s):Bo (e.set j s)=(Bo e).set j (AE s):=by
 unfold Bo;rw[qq,CU h]
def Tf(b:kN bN)(ts:kN AK)(xs:kN bN):rD:=(ts.zip xs).all λp=>Vo (Rk b p.1)||(Rk b p.1).toList==p.2.toList
def UK{e}:∀a b,(∀t∈a,SY (AI e t))->(∀x∈b,A7 x)->Tf (Bo e) a (b.map AE)=RY e a b
 |[],b,_,_=>by simp[Tf,RY]
 |t::a,[],_,_=>by simp[Tf,RY]
 |t::a,x::b,ht,hx=>by
  have ih:=UK a b (λu f=>ht u (by simp[f])) (λy d=>hx y sn);unfold Tf RY at ih|-;rw[mA,p9,p9,pD,pD,ih]
  rw[Ew,gV (ht t ln)];cases he:Vo (AI e t)with
  |true=>rfl
  |false=>
   have c:A7 (AI e t):=by
    rcases ht t ln with h|h
    .rw[(Ed _).2 h]at he;cases he
    .exact h
   rw[CU c];have g:((AE (AI e t)).toList==(AE x).toList)=T6↔((AI e t).toList==x.toList)=T6:=by
    rw[EU,EU];exact⟨λh=>FD c (hx x ln) h,λh=>by rw[h]⟩
   cases h1:((AE (AI e t)).toList==(AE x).toList)<;>cases h2:((AI e t).toList==x.toList)<;>simp_all
def Sd(b:kN bN)(ts:kN AK):rD:=ts.all λt=> !Vo (Rk b t)
def N6{e}:∀a,(∀t∈a,SY (AI e t))->Sd (Bo e) a=DV e a
 |[],_=>rfl
 |t::a,h=>by
  have ih:=N6 a (λu b=>h u sq);unfold Sd DV at ih|-;rw[pD,pD,ih,Ew,gV (h t ln)]
def XB{l r}(a:A7 (AI e l))(b:A7 (AI e r)):((Rk (Bo e) l).toList==(Rk (Bo e) r).toList)=((AI e l).toList==(AI e r).toList):=by
 rw[Ew,Ew,CU a,CU b];have c:((AE (AI e l)).toList==(AE (AI e r)).toList)=T6↔((AI e l).toList==(AI e r).toList)=T6:=by
  rw[EU,EU];exact⟨λh=>FD a b h,λh=>by rw[h]⟩
 cases h1:((AE (AI e l)).toList==(AE (AI e r)).toList)<;>cases h2:((AI e l).toList==(AI e r).toList)<;>simp_all
def eL{l r}(a:A7 (AI e l))(b:A7 (AI e r)):kG (Rk (Bo e) l).toList (Rk (Bo e) r).toList=Gl (AI e l) (AI e r):=by
 rw[Ew,Ew,CU a,CU b];exact IE a b
def Qq(t:AY):Prop:=t.v=0\/(65<=t.v/\t.v<=90)
def BP(b:kN bN)(t:AY):bN:=ib b t.v.toNat t.s
def G1(b:kN bN)(ts:kN AY):rD:=ts.all λt=> !Vo (BP b t)
def Mg(a d:Nat)(b:kN bN)(t w)(i:Z b=26)(g:AF w a (Al b) d)(c:Qq t):
  rE rF 180 #[jj (V ⟨a,0,Y⟩),ku #[X kw t.v,O t.s]] w λr f=>r=j1 (O (BP b t))/\Ac [] w f:=by
 have h:=Re a d b t.v.toNat t.s w i g (by rcases c with h|h<;>omega);have e:(t.v.toNat:Int)=t.v:=by rcases c with h|h<;>omega
 rw[e]at h;exact h
theorem WK(j H:Nat)(b:kN bN)(E M)(a:kN AY)(S w)(W:Z b=26)(P:AF w j (Al b) H)(G:kt w S 215 2 (U E (Z a) M) (Z a) (qS Ar a))(A1:Z a<=100000)(c:∀t∈a,Qq t):rE rF 204 #[jj (V ⟨j,0,Y⟩),U E (Z a) M] w λr p=>r=j1 (kx (G1 b a))/\Ac [] w p:=by
 obtain⟨R,y⟩:=kQ (G1 b a);rw[y];have e:jV ((a.drop 0).all (λt=> !Vo (BP b t))=R):=y;have HT:jV (∀t∈a,∀f,Ac [] w f->rE rF 180 #[jj (V ⟨j,0,Y⟩),ku #[X kw t.v,O t.s]] f λr p=>r=j1 (O (BP b t))/\Ac [] f p):=λt Q f A=>Mg j H b t f W (P.C A) (c t Q)
 have AO:=Ab G;clear y G c P;go_enter func204,ntmps204;go_wp2_with fail
 go_loopg [9] (Z a) (λgk i wr=>∃(k:Nat),i=X J k/\k<=Z a/\gk=Z a-k/\jV ((a.drop k).all (λt=> !Vo (BP b t))=R)/\jV (Ac [] w wr))
 case atStart=>exact⟨0,rfl,lc,rfl,e,kR _ _⟩
 case round=>
  clear e;obtain⟨k,rfl,A,D,e,n⟩:=hrel;have HG:=Ab D;clear D;by_cases o:k<Z a
  .obtain⟨g,A0,I,F,C⟩:=Fw (Ad AO n) k o;obtain⟨rfl,_,rfl⟩:=qX I;obtain⟨T,l⟩:=kQ (a[k]);have x:=Ab (n.alloc (Y6 #[X kw T.v,O T.s] 215));have u:=Ab (HT T (by rw[<-l];exact lV o) _ x);have m:jV ((!Vo (BP b T)&&(a.drop (k+1)).all (λt=> !Vo (BP b t)))=R):=by
    have h:=Aa e;rw[mu o,pD,l]at h;exact h
   rw[l]at F C;obtain⟨d,N⟩:=kQ (BP b T);rw[N]at u m;clear e l N;(go_wp2_with fail);refine u.G ?_;rintro _ w3 ⟨rfl,B⟩;have L:=Ab (x.H B);clear u x n B F C;cases c:Vo d with
   |true=>
    have q:(d.toList==[])=T6:=c;(have Ax:d.toList=[]:=by simpa using q);(have z:jV (R=K):=by show _=_;rw[<-Aa m,c];rfl);go_wp2;go_ret;rw[Aa z];exact⟨rfl,L⟩
   |false=>
    have q:(d.toList==[])=K:=c;(have Ax:¬d.toList=[]:=by simpa using q);(have AH:jV ((a.drop (k+1)).all (λt=> !Vo (BP b t))=R):=by have h:=Aa m;rw[c]at h;exact h);clear m;go_wp2
    go_roundg (Z a-(k+1))
    case measure=>exact qu
    case rel=>exact⟨k+1,ly,lc,rfl,AH,L⟩
  .have z:jV (R=T6):=by
    have h:=Aa e;rw[mN lc]at h;exact h.symm
   go_wp2;go_ret;rw[Aa z];exact⟨rfl,n⟩
def ID(b:kN bN):kN AY->kN bN->rD
 |t::ts,x::xs=>(Vo (BP b t)||(BP b t).toList==x.toList)&&ID b ts xs
 |_,_=>T6
def Im{l:kN bN}(h:kt w n 170 1 z (Z l) (qS Ai l))(k b):∃g a,z=U (V ⟨g,0,Y⟩) (Z l) a/\jY w ⟨g,k,Y⟩=V (O l[k]):=by
 obtain⟨g,a,e,_,f⟩:=Az h (λc _=>rfl) k b;have d:=f k b 0 lc;simp[Ai]at d;exact⟨g,a,e,d⟩
theorem fW(B ty:Nat)(b:kN bN)(z)(q:bN)(m o)(a:kN AY)(p EY w)(hb:Z b=26)(hB:AF w B (Al b) ty)(hr:kt w EY 215 2 (U m (Z a) o) (Z a) (qS Ar a))(W:C6 w p)(Go:Z a<=100000)(FB:Z a<=Z p.f.dN)(l:∀t∈a,Qq t):rE rF 222 #[jj (V ⟨B,0,Y⟩),ku #[X J z,O q,U m (Z a) o],ku (Za (AJ p))] w λr H=>r=j1 (kx (ID b a p.f.dN))/\Ac [] w H:=by
 obtain⟨⟨n,c⟩,pv⟩:=p;obtain⟨j,e,BT⟩:=Aj W;simp at BT FB;subst BT;have HX:jV (kt w 0 170 1 (U j (Z c) e) (Z c) (qS Ai c)):=W;simp only[AJ];obtain⟨R,hR⟩:=kQ (ID b a c);rw[hR];have x:jV (ID b (a.drop 0) (c.drop 0)=R):=hR;have HT:jV (∀t∈a,∀A,Ac [] w A->rE rF 180 _ A _):=λt ht A hk=>Mg B ty b t A hb (hB.C hk) (l t ht)
 have FC:=Ab hr;have D:jV (AF ((w.alloc (Y6 #[X J z,O q,U m (Z a) o] 187)).alloc (Y6 #[O n,U j (Z c) e] 104)) (w.heap.size+1) [O n,U j (Z c) e] 104):=by
  have h:=kS (w.alloc (Y6 #[X J z,O q,U m (Z a) o] 187)) [O n,U j (Z c) e] 104;simp at h;exact h
 have AB:=Ab (((kR [] w).alloc (Y6 #[X J z,O q,U m (Z a) o] 187)).alloc (Y6 #[O n,U j (Z c) e] 104));clear hR hr l hB W;go_enter func222,ntmps222;go_wp2_with fail
 change Code.wp _ _ _ _ ((w.alloc (Y6 #[X J z,O q,U m (Z a) o] 187)).alloc (Y6 #[O n,U j (Z c) e] 104));generalize((w.alloc (Y6 #[X J z,O q,U m (Z a) o] 187)).alloc (Y6 #[O n,U j (Z c) e] 104))=w1 at D AB|-;generalize w.heap.size=N at D|-
 go_loopg [13] (Z a) (λgk i wr=>∃(k:Nat),i=X J k/\k<=Z a/\gk=Z a-k/\jV (ID b (a.drop k) (c.drop k)=R)/\jV (AF wr (N+1) [O n,U j (Z c) e] 104)/\jV (Ac [] w wr))
 case atStart=>exact⟨0,rfl,lc,rfl,x,D,AB⟩
 case round=>
  clear x D AB;obtain⟨k,rfl,hk,A2,x,HB,E⟩:=hrel;have HG:=Ab A2;clear A2;by_cases G:k<Z a
  ·have B9:k<Z c:=lc;obtain⟨g,FT,he,d0,d1⟩:=Fw (Ad FC E) k G;obtain⟨rfl,_,rfl⟩:=qX he;obtain⟨T,C⟩:=kQ (a[k]);obtain⟨y,L⟩:=kQ (c[k]);have Ax:=Ab (E.alloc (Y6 #[X kw T.v,O T.s] 215));have B2:=Ab (HB.alloc (Y6 #[X kw T.v,O T.s] 215));have S:=Ab (HT T (by rw[<-C];exact lV G) _ Ax);have u:jV (((Vo (BP b T)||(BP b T).toList==y.toList)&&ID b (a.drop (k+1)) (c.drop (k+1)))=R):=by
    have h:=Aa x;rw[mu G,mu B9,ID,C,L]at h;exact h
   rw[C]at d0 d1;obtain⟨d,hV⟩:=kQ (BP b T);rw[hV]at S u;clear x C hV;obtain⟨Ha,HA⟩:=rI lc;(go_wp2_with fail);refine S.G ?_;rintro _ w3 ⟨rfl,Q⟩;have F:=Ab (Ax.H Q);have M:=Ab (B2.C Q);obtain⟨g2,FW,BS,x0⟩:=Im (Ad HX F) k B9;obtain⟨rfl,_,rfl⟩:=qX BS;rw[L]at x0;have b1:=M.D 1;simp at b1;clear S Ax E Q d0 d1 B2 HB L;cases l:Vo d with
   |true=>
    have I:(d.toList==[])=T6:=l;have E0:d.toList=[]:=sD;(have P:jV (ID b (a.drop (k+1)) (c.drop (k+1))=R):=by have h:=Aa u;rw[l]at h;exact h);clear u;go_wp2
    go_roundg (Z a-(k+1))
    case measure=>exact qu
    case rel=>exact⟨k+1,ly,lc,rfl,P,M,F⟩
   |false=>
    have I:(d.toList==[])=K:=l;have E0:¬d.toList=[]:=sD;cases hx:(d.toList==y.toList)with
    |true=>
     (have EM:(d.toList !=y.toList)=K:=by simp[bne,hx]);(have P:jV (ID b (a.drop (k+1)) (c.drop (k+1))=R):=by have h:=Aa u;rw[l,hx]at h;exact h);clear u;go_wp2
     go_roundg (Z a-(k+1))
     case measure=>exact qu
     case rel=>exact⟨k+1,ly,lc,rfl,P,M,F⟩
    |false=>
     (have EM:(d.toList !=y.toList)=T6:=by simp[bne,hx]);(have HE:jV (R=K):=by rw[<-Aa u,l,hx];rfl);go_wp2;go_ret;rw[Aa HE];exact⟨rfl,F⟩
  .have HE:jV (R=T6):=by
    have h:=Aa x;rw[mN lc,ID]at h
    .exact h.symm
    .simp
   go_wp2;go_ret;rw[Aa HE];exact⟨rfl,E⟩
def JQ(a b:AY):rD:=a.v==b.v&&a.s.toList==b.s.toList
def Tk(ts:kN AY)(x:AY)(r:Int):Prop:=(r= -1/\∀t∈ts,JQ x t=K)\/∃k,∃h:k<Z ts,r=(k:Int)/\JQ x ts[k]=T6/\∀j (hj:j<Z ts),j<k->JQ x ts[j]=K
theorem dn(D G)(a:kN AY)(x P w)(E:kt w P 215 2 (U D (Z a) G) (Z a) (qS Ar a))(AT:Z a<=100000):rE rF 206 #[U D (Z a) G,ku #[X kw x.v,O x.s]] w λr I=>∃n,r=j1 (X J n)/\Tk a x n/\Ac [] w I:=by
 have Ax:=Ab E;obtain⟨f,m⟩:∃f:Int->Prop,f=Tk a x:=⟨_,rfl⟩;have z:=Ab m;rw[<-m];have b:=Ab (kS w [X kw x.v,O x.s] 215);have c:=Ab ((kR [] w).alloc (Y6 #[X kw x.v,O x.s] 215));clear E m;go_enter func206,ntmps206;go_wp2_with fail
 change Code.wp _ _ _ _ (w.alloc (Y6 #[X kw x.v,O x.s] 215));generalize w.alloc (Y6 #[X kw x.v,O x.s] 215)=w1 at b c|-;generalize w.heap.size=N at b|-
 go_loopg [8] (Z a) (λgk i wr=>∃(k:Nat),i=X J k/\k<=Z a/\gk=Z a-k/\jV (∀j (d:j<Z a),j<k->JQ x a[j]=K)/\jV (AF wr N [X kw x.v,O x.s] 215)/\jV (Ac [] w wr))
 case atStart=>exact⟨0,rfl,lc,rfl,λj d h=>lc,b,c⟩
 case round=>
  clear b c;obtain⟨k,rfl,hk,B,l,b,c⟩:=hrel;have A:=Ab B;clear B;by_cases u:k<Z a
  .obtain⟨g,AR,F,R,Q⟩:=Fw (Ad Ax c) k u;obtain⟨rfl,_,rfl⟩:=qX F;obtain⟨T,o⟩:=kQ (a[k]);have y:=Ab o;rw[o]at R Q;clear o;obtain⟨H,W⟩:=b.c2;simp at H W;obtain⟨A0,A1⟩:=rI (lc:k<Z a);(have e:jV (∀n,AF (wr.drewN n) N [X kw x.v,O x.s] 215/\Ac [] w (wr.drewN n)):=λn=>⟨b.drewN n,c.drewN n⟩);cases hs:JQ x T with
   |true=>
    have p:(x.v==T.v)=T6/\(x.s.toList==T.s.toList)=T6:=by
     unfold JQ at hs;simpa using hs
    have h2:=p.1;have S:=p.2;have q:jV (f (k:Int)):=by
     rw[Aa z];exact j3 ⟨k,u,rfl,by rw[Aa y];exact hs,l⟩
    clear p hs;go_wp2_with fail
    go_quiet (fail)
    go_wp2;go_ret;exact⟨k,rfl,q,(e _).2⟩
   |false=>
    have C:jV (∀j (d:j<Z a),j<k+1->JQ x a[j]=K):=by
     intro j d AH;by_cases h:j<k
     .exact l j d h
     ·have L:j=k:=lc;subst L;rw[Aa y];exact hs
    cases ha:(x.v==T.v)with
    |false=>
     clear hs;go_wp2_with fail
     go_quiet (fail)
     go_wp2
     go_roundg (Z a-(k+1))
     case measure=>exact qu
     case rel=>exact⟨k+1,ly,lc,rfl,C,(e _).1,(e _).2⟩
    |true=>
     have S:(x.s.toList==T.s.toList)=K:=by
      unfold JQ at hs;rw[ha,nQ]at hs;exact hs
     clear hs;go_wp2_with fail
     go_quiet (fail)
     go_wp2
     go_roundg (Z a-(k+1))
     case measure=>exact qu
     case rel=>exact⟨k+1,ly,lc,rfl,C,(e _).1,(e _).2⟩
  .have q:jV (f (-1)):=by
    rw[Aa z];refine j2 ⟨rfl,λt M=>?_⟩;obtain⟨j,d,rfl⟩:=mS M;exact l j d lc
   go_wp2;go_ret;exact⟨-1,rfl,q,c⟩
def R4{l:kN Int}(h:kt w n 21 1 z (Z l) (qS AX l))(k b):∃g a,z=U (V ⟨g,0,Y⟩) (Z l) a/\jY w ⟨g,k,Y⟩=V (X kw l[k]):=by
 obtain⟨g,a,e,_,f⟩:=Az h (λc _=>rfl) k b;have d:=f k b 0 lc;simp[AX]at d;exact⟨g,a,e,d⟩
theorem fF(q u)(l:kN Int)(x z w)(s:kt w z 21 1 (U q (Z l) u) (Z l) (qS AX l))(L:Z l<=100000):rE rF 203 #[U q (Z l) u,X kw x] w λr v=>∃n,r=j1 (X J n)/\(n= -1/\x∉l\/0<=n/\x∈l)/\v=w:=by
 have F:=Ab s;clear s;go_enter func203,ntmps203;go_wp2_with fail
 go_loopg [8] (Z l) (λgk i wr=>∃(k:Nat),i=X J k/\k<=Z l/\gk=Z l-k/\jV (∀j (b:j<Z l),j<k->l[j]≠x)/\wr=w)
 case atStart=>exact⟨0,rfl,lc,rfl,λj b h=>lc,rfl⟩
 case round=>
  obtain⟨k,rfl,H,p,m,rfl⟩:=hrel;have A:=Ab p;clear p;by_cases f:k<Z l
  .obtain⟨g,I,t,D⟩:=R4 F k f;obtain⟨rfl,_,rfl⟩:=qX t;obtain⟨T,d⟩:=kQ (l[k]);have o:=Ab d;rw[d]at D;clear d;obtain⟨M,N⟩:=rI (lc:k<Z l);by_cases a:x=T
   ·have B:(x==T)=T6:=sr;(have c:jV (x∈l):=by show _∈_;rw[a,<-Aa o];exact lV f);clear a;go_wp2;go_ret;exact⟨k,rfl,j3 ⟨lc,c⟩,rfl⟩
   ·have B:(x==T)=K:=sr;have C:jV (∀j (b:j<Z l),j<k+1->l[j]≠x):=by
     intro j b G;by_cases h:j<k
     .exact m j b h
     ·have y:j=k:=lc;subst y;rw[Aa o];exact λe=>a e.symm
    clear a;go_wp2
    go_roundg (Z l-(k+1))
    case measure=>exact qu
    case rel=>exact⟨k+1,ly,lc,rfl,C,rfl⟩
  .have c:jV (x∉l):=by
    intro E;obtain⟨j,b,e⟩:=mS E;exact m j b lc e
   go_wp2;go_ret;exact⟨-1,rfl,j2 ⟨rfl,c⟩,rfl⟩
theorem S8(c b)(l:kN Int)(x f w)(d:kt w f 21 1 (U c (Z l) b) (Z l) (qS AX l))(k:Z l<=100000):rE rF 175 #[U c (Z l) b,X kw x] w λr i=>r=j1 (kx (decide (x∈l)))/\i=w:=by
 have g:=Ab (fF c b l x f w d k);clear d;go_enter func175,ntmps175;go_wp2_with fail
 refine g.G ?_;rintro _ m ⟨n,rfl,h,rfl⟩;have j:jV (decide (0<=n)=decide (x∈l)):=by
  show _=_;rcases h with⟨e,a⟩|⟨e,a⟩
  .rw[nC a,nC lc]
  .rw[oy a,oy e]
 clear h g;go_wp2;go_ret;rw[<-Aa j];exact⟨rfl,rfl⟩
def Te(a:kN Int)(t:AY):kN Int:=if t.v≠0/\t.v∉a then a++[t.v] else a
def D6(ts:kN AY):kN Int:=qU Te [] ts
def Zk{a:kN AY}(b):D6 (qT (k+1) a)=Te (D6 (qT k a)) a[k]:=by
 unfold D6;rw[lW b,m6];rfl
theorem OX(W cp)(a:kN AY)(B0 w)(hr:kt w B0 215 2 (U W (Z a) cp) (Z a) (qS Ar a))(FT:Z a<=90000):rE rF 138 #[U W (Z a) cp] w λr L=>∃AR AB,r=j1 (U AR (Z (D6 a)) AB)/\kt L w.heap.size 21 1 (U AR (Z (D6 a)) AB) (Z (D6 a)) (qS AX (D6 a))/\Ac [] w L:=by
 obtain⟨i0,FF,BT,B9,EK⟩:=mW Tryz.zt;have FC:=Ab hr;obtain⟨R,C⟩:=kQ (D6 a);rw[C];have HR:=Ab C;obtain⟨N,F⟩:=kQ w.heap.size;rw[F];have HN:=Ab F;clear hr C F;go_enter func138,ntmps138;go_wp2_with fail
 go_loopg [3,8] (Z a) (λgk o i wr=>∃(k:Nat) (l:kN Int) (d:rB) (c:Nat),o=U d (Z l) c/\i=X J k/\k<=Z a/\gk=Z a-k/\Z l<=k/\jV (D6 (qT k a)=l)/\jV (kt wr N 21 1 (U d (Z l) c) (Z l) (qS AX l))/\jV (Ac [] w wr))
 case atStart=>exact⟨0,[],Y,0,rfl,rfl,lc,rfl,ln,rfl,mw _ _ _ _,kR _ _⟩
 case round=>
  obtain⟨k,l,d,c,rfl,rfl,hk,Q,FL,D,z,p⟩:=hrel;have x:=Ab Q;clear Q;by_cases I:k<Z a
  .obtain⟨g,FP,he,d0,P⟩:=Fw (Ad FC p) k I;obtain⟨rfl,_,rfl⟩:=qX he;obtain⟨T,y⟩:=kQ (a[k]);have Df:jV (D6 (qT (k+1) a)=if T.v≠0/\T.v∉l then l++[T.v] else l):=by
    show _=_;rw[Zk I,Aa D,y];rfl
   rw[y]at d0 P;clear y D;have n:=Ab (p.alloc (Y6 #[X kw T.v,O T.s] 215));have u:=Ab (kS wr [X kw T.v,O T.s] 215);have E:=mg z (Y6 #[X kw T.v,O T.s] 215);have m:=Ab E;have e:=Ab (S8 d c l T.v N _ E lc);(have EX:N<=wr.heap.size:=by have:=p.size;have:=Aa HN;omega);clear E z p;by_cases b:T.v=0
   ·have FA:(T.v !=0)=K:=sq;have ES:(T.v==0)=T6:=sq;(have j:jV (D6 (qT (k+1) a)=l):=by show _=_;rw[Aa Df,mm (λh=>h.1 b)]);clear Df b e;go_wp2
    go_roundg (Z a-(k+1))
    case measure=>exact qu
    case rel=>exact⟨k+1,l,d,c,rfl,ly,lc,rfl,lc,j,m,n⟩
   ·have FA:(T.v !=0)=T6:=sq;have ES:(T.v==0)=K:=sq;by_cases f:T.v∈l
    ·(have j:jV (D6 (qT (k+1) a)=l):=by show _=_;rw[Aa Df,mm (λh=>h.2 f)]);rw[oy f]at e;clear Df b f;(go_wp2_with fail);refine e.G ?_;rintro _ w3 ⟨rfl,rfl⟩;go_wp2
     go_roundg (Z a-(k+1))
     case measure=>exact qu
     case rel=>exact⟨k+1,l,d,c,rfl,ly,lc,rfl,lc,j,m,n⟩
    ·(have j:jV (D6 (qT (k+1) a)=l++[T.v]):=by show _=_;rw[Aa Df,mo ⟨b,f⟩]);rw[nC f]at e;clear Df b f;(go_wp2_with fail);refine e.G ?_;rintro _ w3 ⟨rfl,rfl⟩;obtain⟨B,hB⟩:=kQ wr.heap.size;rw[hB]at u EX|-;have A:jV (AF (wr.alloc (Y6 #[X kw T.v,O T.s] 215)) B [X kw T.v,O T.s] 215):=u;have CL:B<(wr.alloc (Y6 #[X kw T.v,O T.s] 215)).heap.size:=A.lt;clear e u hB d0 P;generalize wr.alloc (Y6 #[X kw T.v,O T.s] 215)=w4 at m n A CL|-;have H:=A.D 0;simp at H;have G:=Aa m;go_wp2_with (at_builtin;refine mE _ rfl (.tmp 22) (.tmp 25) _ rfl N 21 i0 _ 1 4 underlying234 FF BT B9 EK rfl lc (U d (Z l) c) (Z l) (qS AX l) rfl (mg G _) ⟨w4.heap.size,0,Y⟩ 1 1 [X kw T.v] rfl rfl (mz (mG w4 _)) lC lc lw lc li (w4.heap.size+1) ln ?_;intro g1 M w9 AH S BA EY)
     have EM:jV (kt w9 N 21 1 (U (V ⟨g1,0,Y⟩) (Z (l++[T.v])) M) (Z (l++[T.v])) (qS AX (l++[T.v]))):=by
      rw[mD];simp only[mp,mn,mI,m7,mB,np,mQ,AX];exact AH
     have CC:=Ab ((n.alloc (Y6 #[X kw T.v] 21)).grown S (λq hq=>j3 (by have:=(G.lt q hq).1;have:=Aa HN;omega)));clear AH S BA EY G m n H
     go_roundg (Z a-(k+1))
     case measure=>exact qu
     case rel=>exact⟨k+1,l++[T.v],V ⟨g1,0,Y⟩,M,ln,ly,lc,rfl,li,j,EM,CC⟩
  .have HE:jV (l=R):=by
    have h:=Aa D;rw[lY lc,Aa HR]at h;exact h.symm
   go_wp2;go_ret;rw[<-Aa HE];exact⟨d,c,rfl,z,p⟩
structure ZP(rcs:kN AW)(hs:kN (Nat×G9 Ae))(s:kN Ae):Prop where
 nd:(hs.map λh=>h.2.E).Nodup
 mem:∀f,f∈s↔f∈hs.map λh=>h.2.E
 j:∀i (hi:i<Z hs),∃(hn:hs[i].1<Z rcs) (σ:rC->bN),Oy rcs[hs[i].1] σ/\hs[i].2=Dr rcs[hs[i].1] σ/\(∀g∈hs[i].2.pos,g∈(qT i hs).map λh=>h.2.E)/\∀g∈hs[i].2.neg,g∉s
def ZP.start(a):ZP a [] []:=⟨oH,λf=>ln,λi b=>by simp at b⟩
def ZP.add{o}(I:CP c o){s v}{d}(h:ZP c d s)(Q:∀f∈s,o f.a<=n)(B)(P:o c[m].E.a=n){i}{σ}(t:i=Dr c[m] σ)(C:Oy c[m] σ)(M:∀g∈i.pos,g∈s)(N:∀g∈i.neg,g∉s)(L:i.E∉s)(q:∀f,f∈v↔f∈s\/f=i.E):ZP c (d++[(m,i)]) v:=by
 have D:=I.zU;have S:o i.E.a=n:=by rw[t];exact P
 refine⟨?_,λf=>?_,λk F=>?_⟩
 .rw[mO];refine pH.2 ⟨h.nd,ln,λa A b x e=>?_⟩;simp at x;rw[e,x]at A;exact L ((h.mem _).2 A)
 .rw[q f,h.mem f,mO,mi];simp
 .by_cases p:k<Z d
  .have u:(d++[(m,i)])[k]=d[k]:=nB p;obtain⟨y,τ,w,z,G,H⟩:=h.j k p;rw[m8 lc];simp only[u];refine⟨y,τ,w,z,G,λg l j=>?_⟩;rcases(q g).1 j with j|j
   .exact H g l j
   .have r:=D.neg _ ⟨_,lV y,τ,w,z⟩ g l;have R:=Q _ ((h.mem _).2 (me.2 ⟨d[k],lV p,rfl⟩));rw[j]at r;omega
  ·(have E:k=Z d:=by simp at F;omega);subst E;have u:(d++[(m,i)])[Z d]=(m,i):=ln;rw[List.take_left];simp only[u];refine⟨B,σ,C,t,λg l=>(h.mem g).1 (M g l),λg l j=>?_⟩;rcases(q g).1 j with j|j
   .exact N g l j
   .have r:=D.neg i ⟨c[m],lV B,σ,C,t⟩ g l;rw[j]at r;omega
def Me:∀(l s:kN Ae),D3 s->(∀f∈s,AG f)->(∀f∈l,AG f)->D3 (qU A3 s l)/\(∀f∈qU A3 s l,AG f)/\∀f,f∈qU A3 s l↔f∈s\/f∈l
 |[],s,h1,h2,_=>⟨h1,h2,λf=>ln⟩
 |x::l,s,h1,h2,h3=>by
  obtain⟨e,b,h⟩:=CR (h3 x ln) h1 h2;obtain⟨a,c,g⟩:=Me l _ e b (λf d=>h3 f sn);refine⟨a,c,λf=>?_⟩;rw[mK,g f,h f,l9,or_assoc]
def ZP.batch{o}(A:CP c o){s}{B}(h:ZP c B s)(I:D3 s)(H:∀f∈s,AG f)(M:∀f∈s,o f.a<=n)(D)(C:o c[m].E.a=n){l:kN Ae}(L:l.Nodup)(u:∀f∈l,f∉s/\AG f){a:kN (G9 Ae)}(t:a.map G9.E=l)(z:∀i∈a,∃σ,(∀x∈Am c[m],Cm (Bq σ) (Eo σ) s x=T6)/\i=Dr c[m] σ):∀j,ZP c (B++(qT j a).map (Prod.mk m)) (qU A3 s (qT j l)):=by
 have w:∀f∈l,o f.a=n:=by
  intro f b;rw[<-t]at b;obtain⟨i,k,rfl⟩:=me.1 b;obtain⟨σ,_,rfl⟩:=z i k;exact C
 have Q:Z a=Z l:=by rw[<-t,mh]
 intro j
 induction j with
 |zero=>exact li
 |succ j ih=>
  by_cases e:j<Z l
  ·have r:j<Z a:=lc;have d:=Me (qT j l) s I H (λf b=>(u f (ny b)).2);have y:l[j]=a[j].E:=by
    have:=rk (λl=>l[j]?) t;simp only[no,mc r,mc e,nM,lZ]at this;exact this.symm
   obtain⟨σ,F,k⟩:=z a[j] (lV r);obtain⟨v,E⟩:=(Is c[m] σ s).1 F;rw[<-k]at v;rw[lW r,mO,<-mY,lW e,m6];simp only[mA,om,mK,List.foldl_nil];refine ih.add A (n:=n) (λf b=>?_) D C k E (λg p=>(d.2.2 g).2 (j2 (v.1 g p))) (λg p q=>?_) (λq=>?_) (λf=>?_)
   .rcases(d.2.2 f).1 b with h|h
    .exact M f h
    .exact Nat.le_of_eq (w f (ny h))
   .rcases(d.2.2 g).1 q with h|h
    .exact v.2 g p h
    .have R:=A.zU.neg a[j] ⟨c[m],lV D,σ,E,k⟩ g p;have N:=w g (ny h);(have P:o a[j].E.a=n:=by rw[<-y];exact w _ (lV e));omega
   .rw[<-y]at q;rcases(d.2.2 _).1 q with h|h
    .exact(u _ (lV e)).1 h
    ·(have G:(qT j l++l[j]::l.drop (j+1)).Nodup:=li);exact(pH.1 G).2.2 _ h _ (m9 ..) rfl
   .rw[(CR (u _ (lV e)).2 d.1 d.2.1).2.2 f,y]
  .rw[lY lc,lY lc];rw[lY lc,lY lc]at ih;exact ih
theorem Tryz.zx:(Tryz.prog.info? 5).map (λi=>(i.zero,i.size,i.bytes))=V (V (X .u8 0),1,1):=lo
def Ea(v:rC):kN Value:=[X .u8 v.toNat]
def Hs(v):Z (Ea v)=1:=rfl
def Zr(b){a:kN AK}(c):DJ b (qT (k+1) a)=DI (DJ b (qT k a)) a[k]:=by
 unfold DJ;rw[lW c,m6];rfl
theorem cc(p w)(d:Cc w 0 p):rE rF 131 #[ku (Za (A4 p))] w λe k=>∃f,e=j1 f/\kt k 0 93 2 f (Z (AA p)) (qS AP (AA p))/\Ac [] w k/\(f=p.2\/∀q,f.ownBlock=V q->w.heap.size<=q):=by
 obtain⟨i,g,c⟩:=Aj d;have n:jV (p.2=U i (Z p.1.A.qH) g):=c;simp only[A4,Cy,c];rcases EZ p with⟨j,b⟩|⟨j,l,b⟩|⟨j,l,b⟩
 .have a:jV (AA p=p.1.A.qH/\p.2=U i (Z p.1.A.qH) g/\Cc w 0 p):=⟨by unfold AA;simp[b],c,d⟩;clear b c d;go_enter func131,ntmps131;go_wp2;go_ret;refine⟨_,rfl,?_,(kR _ _).alloc _,j2 rfl⟩;rw[a.o.1];have h:kt w 0 93 2 _ _ _:=a.o.2.2;rw[a.o.2.1]at h;exact h.alloc _
 .have a:jV (AA p=p.1.A.qH/\p.2=U i (Z p.1.A.qH) g/\Cc w 0 p):=⟨by unfold AA;simp[b],c,d⟩;clear b c d;go_enter func131,ntmps131;go_wp2;go_ret;refine⟨_,rfl,?_,(kR _ _).alloc _,j2 rfl⟩;rw[a.o.1];have h:kt w 0 93 2 _ _ _:=a.o.2.2;rw[a.o.2.1]at h;exact h.alloc _
 .have a:jV (AA p=[p.1.L,p.1.R]):=by show _=_;unfold AA;simp[b]
  clear b c d;go_enter func131,ntmps131;go_wp2;go_ret;refine⟨_,rfl,?_,((kR _ _).alloc _).alloc _,j3 (λq m=>by simp[Value.ownBlock]at m;omega)⟩;rw[a.o];refine⟨rfl,j3 ⟨_,2,#[X .u8 p.1.L.v.toNat,O p.1.L.s,X .u8 p.1.R.v.toNat,O p.1.R.s],rfl,mr _,by have h:=mG (w.alloc (Y6 #[X .u8 p.1.b.toNat,O p.1.A.a,U i (Z p.1.A.qH) g,X J p.1.A.e,X .u8 p.1.L.v.toNat,O p.1.L.s,X .u8 p.1.R.v.toNat,O p.1.R.s,X J p.1.e] 95)) (Y6 #[X .u8 p.1.L.v.toNat,O p.1.L.s,X .u8 p.1.R.v.toNat,O p.1.R.s] 93);rw[mJ]at h;exact h,ln,lw,rfl,?_⟩⟩;simp[AP]
def VD(acc:kN rC)(p:Bc):kN rC:=DJ acc (AA p)
theorem dL(CC Bx)(f:kN Bc)(w)(hb:kt w 0 95 9 (U CC (Z f) Bx) (Z f) (qS A4 f))(hl:∀p∈f,Cc w 0 p)(KS:Z f<=1000)(FL:∀p∈f,Z p.1.A.qH<=1000):rE rF 113 #[U CC (Z f) Bx] w λe w'=>∃ad cp,e=j1 (U ad (Z (qU VD [] f)) cp)/\kt w' w.heap.size 5 1 (U ad (Z (qU VD [] f)) cp) (Z (qU VD [] f)) (qS Ea (qU VD [] f))/\Ac [] w w':=by
 obtain⟨i0,IA,H3,JJ,H8⟩:=mW Tryz.zx;have HR:jV (kt w 0 95 9 _ (Z f) _/\(∀p∈f,Cc w 0 p)/\(∀p∈f,Z _<=1000)):=⟨hb,hl,FL⟩;clear hb hl FL;have LB:∀(x:rD) (w:jH),(Op.unary .not (kx x)).run rF w=.ok _ w:=λ_ _=>rfl
 go_enter func113,ntmps113;go_wp2
 go_loopw [3,4] (λo i wr=>∃(k:Nat) (u:kN rC),i=X J k/\k<=Z f/\jV (qU VD [] (qT k f)=u)/\Z u<=1000*k/\kt wr w.heap.size 5 1 o (Z u) (qS Ea u)/\Ac [] w wr) (λ_ i _=>Z f-(rG i).toNat)
 case atStart=>exact⟨0,[],rfl,mr _,lx,ln,mw _ _ _ _,kR _ _⟩
 case round=>
  obtain⟨k,u,rfl,E,HF,K4,B,I⟩:=hrel;obtain⟨HX,HV,rfl⟩:=Aj B;by_cases t:k<Z f
  .obtain⟨g,K5,G,hc,y⟩:=Az (Ad HR.o.1 I) (λc _=>B4 c) k t;obtain⟨rfl,_,rfl⟩:=qX G;have s:=(HR.o.2.1 f[k] (lV t)).C I;obtain⟨LL,K9,AR⟩:=Aj s;have T:=cc f[k] _ s;simp only[A4,Cy,AR]at T;have d0:=y k t 0 lc;have d1:=y k t 1 lc;have d2:=y k t 2 lc;have d3:=y k t 3 lc;have d4:=y k t 4 lc;have d5:=y k t 5 lc;have d6:=y k t 6 lc;have d7:=y k t 7 lc;have d8:=y k t 8 lc;simp[A4,Cy]at d0 d1 d2 d3 d4 d5 d6 d7 d8;rw[AR]at d2;have HT:=Ab T;have ES:=Ab AR;have IJ:Z (AA f[k])<=1000:=by
    have:=HR.o.2.2 f[k] (lV t);unfold AA;split<;>simp<;>omega
   (have HN:jV (qU VD [] (qT (k+1) f)=DJ u (AA f[k])):=by rw[ET _ _ t,HF.o];rfl);clear y s AR T;(go_wp2_with fail);refine HT.G ?_;rintro e w2 ⟨tv,rfl,AH,EK,AT⟩;clear HT d0 d1 d2 d3 d4 d5 d6 d7 d8;have HB:=I.H EK;have E0:=Ad B EK;have HC:Cd tv (U HX (Z u) HV):=by
    intro q H G;rcases AT with rfl|AT
    .have h1:=((HR.o.2.1 f[k] (lV t)).lt q (by rw[Aa ES];exact H)).2;have h2:=(B.lt q G).1;omega
    .have h1:=AT q H;have h2:=(B.lt q G).2;omega
   clear B I EK AT ES;obtain⟨r,Ha⟩:=kQ (AA f[k]);rw[Ha]at HN AH IJ;clear Ha;obtain⟨HW,BS,rfl⟩:=Aj AH;go_wp2
   go_loopw [3,6] (λo i wq=>∃(m:Nat) (d:kN rC),i=X J m/\m<=Z r/\jV (DJ u (qT m r)=d)/\Z d<=Z u+m/\kt wq w.heap.size 5 1 o (Z d) (qS Ea d)/\Ac [] w wq/\kt wq 0 93 2 (U HW (Z r) BS) (Z r) (qS AP r)/\Cd (U HW (Z r) BS) o) (λ_ i _=>Z r-(rG i).toNat)
   case atStart=>exact⟨0,u,rfl,mr _,lx,lc,E0,HB,AH,HC⟩
   case round=>
    clear E0 HB AH HC;obtain⟨m,d,rfl,hm,L,K8,S,B2,Q,CL⟩:=hrel;obtain⟨HA,HU,rfl⟩:=Aj S;by_cases BT:m<Z r
    .obtain⟨gt,KK,FT,_,HY⟩:=Az Q (λc _=>FR c) m BT;obtain⟨rfl,_,rfl⟩:=qX FT;have N:=HY m BT 0 lc;simp[AP]at N;clear HY;have e1:((r[m].v.toNat:Int)==0)=(r[m].v==0):=Cu _ 0;(have HS:jV (DJ u (qT (m+1) r)=DI d r[m]):=by show _=_;rw[Zr _ BT,L.o]);obtain⟨l,hV⟩:=kQ (r[m].v);(have R:jV (DI d r[m]=if(l !=0&& !d.contains l)=T6 then d++[l] else d):=by show _=_;unfold DI;rw[hV]);rw[hV]at N e1;clear hV;have HJ:=Ab (kR [] wr);(have H4:jV (∀z,Ac [] wr z->jY z _=V _/\kt z _ 5 1 _ (Z d) _/\Ac [] w z/\kt z 0 93 2 _ (Z r) _):=λz E=>⟨E.cellAt N,Ad S E,B2.H E,Ad Q E⟩);have B0:=Ab CL;clear L S B2 Q CL;(go_wp2_with fail);clear N
     go_loopw [7,8] (λb j z=>∃q:Nat,j=X J q/\q<=Z d/\b=kx (l==0||(qT q d).contains l)/\jV (Ac [] wr z)) (λ_ j _=>Z d-(rG j).toNat)
     case atStart=>exact⟨0,rfl,mr _,ln,HJ⟩
     case round=>
      clear HJ;obtain⟨q,rfl,H,rfl,AO⟩:=hrel;obtain⟨t1,D,P,W⟩:=H4 _ AO;by_cases A2:q<Z d
      .obtain⟨go,co,EY,_,HP⟩:=Az D (λc _=>Hs c) q A2;obtain⟨rfl,_,rfl⟩:=qX EY;have o0:=HP q A2 0 lc;simp[Ea]at o0;have e2:((d[q].toNat:Int)==l.toNat)=(d[q]==l):=Cu _ _;have M:jV ((l==0||(qT (q+1) d).contains l)=((l==0||(qT q d).contains l)||d[q]==l)):=by
        show _=_;rw[lW A2];rw[nz];simp only[nN,n5,pO,mi,lX];rw[or_assoc,eq_comm (a:=l) (b:=d[q])]
       clear HP D P W;cases s:(l==0||(qT q d).contains l)with
       |true=>
        rw[s]at M;go_wp2_with fail
        go_quiet (fail)
        go_wp2
        go_roundw
        case rel=>exact⟨q+1,ly,lc,by rw[Aa M];rfl,AO.drewN _⟩
        case measure=>simp[rG];omega
       |false=>
        rw[s]at M;go_wp2_with fail
        go_quiet (fail)
        go_wp2
        go_roundw
        case rel=>exact⟨q+1,ly,lc,by rw[Aa M];simp,AO.drewN _⟩
        case measure=>simp[rG];omega
      ·(have HI:jV ((l==0||(qT q d).contains l)=(l==0||d.contains l)):=by show _=_;rw[lY lc]);clear AO;cases s:(l==0||d.contains l)with
       |true=>
        have C:jV (DJ u (qT (m+1) r)=d):=by
         show _=_;rw[Aa HS,Aa R,mm];intro F;rw[nN]at s;rcases s with h|h
         .rw[bne,h]at F;simp at F
         .rw[h]at F;simp at F
        rw[Aa HI,s];clear HS R s HI;go_wp2
        go_roundw
        case rel=>exact⟨m+1,d,ly,lc,C,lc,D,P,W,B0⟩
        case measure=>simp[rG];omega
       |false=>
        have C:jV (DJ u (qT (m+1) r)=d++[l]):=by
         show _=_;rw[Aa HS,Aa R,mo];rw[oQ]at s;rw[mC,bne,s.1,s.2];exact ln
        rw[Aa HI,s];have K3:=P.size;clear HS R s HI;go_wp2_with (at_builtin;(refine mE _ rfl (.tmp 53) (.tmp 59) _ rfl w.heap.size 5 i0 _ 1 1 underlying143 IA H3 JJ H8 rfl lc (U HA (Z d) HU) (Z d) (qS Ea d) rfl (D.alloc _) ⟨wr.heap.size,0,Y⟩ 1 1 [X .u8 l.toNat] rfl rfl (mz (mG wr _)) lC lc lw lc li (wr.heap.size+1) ln ?_);intro g5 H9 w5 H1 EM FC Jx)
        have KA:=(P.alloc _).grown EM (λq H=>j3 (D.lt q H).1);have Ix:=GE (W.alloc _) EM B0;have IS:=Cd.zb (n:=Z d+1) (cap:=H9) B0 (W.alloc (Y6 #[X .u8 l.toNat] 5)) FC ln;clear EM FC Jx;go_wp2
        go_roundw
        case rel=>
         refine⟨m+1,d++[l],ly,lc,C,li,?_,KA,Ix,lc⟩;simpa[Ea] using H1
        case measure=>simp[rG];omega
    ·(have C:jV (qU VD [] (qT (k+1) f)=d):=by show _=_;rw[Aa HN,<-Aa L,lY lc]);go_wp2
     go_roundw
     case rel=>exact⟨k+1,d,ly,lc,C,lc,S,B2⟩
     case measure=>simp[rG];omega
  ·(have HE:jV (qU VD [] f=u):=by have h:=HF.o;rwa [lY lc]at h);go_wp2;go_ret;rw[Aa HE];exact⟨HX,HV,rfl,B,I⟩
abbrev Df:=Nat×G9 Ae
def G7(a:kN Df×kN Ae)(h:Df):kN Df×kN Ae:=if C7 a.2 h.2.E=T6 then(a.1++[h],qU A3 a.2 h.2.pos)else a
def Kn:kN Df->kN Ae->kN Df
 |[],_=>[]
 |h::R,N=>if C7 N h.2.E=T6 then Kn R (qU A3 N h.2.pos)++[h] else Kn R N
def Rg:∀R A N,(qU G7 (A,N) R).1=A++(Kn R N).reverse
 |[],A,N=>by simp[Kn]
 |h::R,A,N=>by
  rw[mK];by_cases a:C7 N h.2.E=T6
  ·(have b:G7 (A,N) h=(A++[h],qU A3 N h.2.pos):=by unfold G7;rw[mo a]);rw[b,Rg R,Kn,mo a,List.reverse_append];simp
  ·(have b:G7 (A,N) h=(A,N):=by unfold G7;rw[mm a]);rw[b,Rg R,Kn,mm a]
def YR:kN Df->Prop
 |[]=>True
 |h::R=>(∀g∈h.2.pos,g∈R.map λh=>h.2.E)/\YR R
def VJ:∀R N,YR R->D3 N->(∀f∈N,AG f)->(∀h∈R,∀g∈h.2.pos,AG g)->
  (Kn R N).Sublist R.reverse/\(∀h∈R,h.2.E∈N->h∈Kn R N)/\∀A h B,Kn R N=A++h::B->∀g∈h.2.pos,g∈A.map λh=>h.2.E
 |[],N,_,_,_,_=>⟨by simp[Kn],λh r=>by simp at r,λA h B e=>by simp[Kn]at e⟩
 |h::R,N,hl,hr,hc,hp=>by
  by_cases n:C7 N h.2.E=T6
  ·(have e:Kn (h::R) N=Kn R (qU A3 N h.2.pos)++[h]:=by rw[Kn,mo n]);have i:=Me _ N hr hc (λg d=>hp h ln g d);obtain⟨m,k,o⟩:=VJ R _ hl.2 i.1 i.2.1 (λx a=>hp x sr);rw[e];refine⟨?_,?_,?_⟩
   .exact li
   .intro x a l;rcases l9.1 a with rfl|a
    .simp
    .exact mi.2 (j2 (k x a ((i.2.2 _).2 (j2 l))))
   .intro A x B q g d;rcases List.append_eq_append_iff.1 q with⟨C,j,b⟩|⟨C,j,b⟩
    ·
     cases C with
     |nil=>
      obtain⟨rfl,rfl⟩:=b;rw[j,mQ];obtain⟨y,p,rfl⟩:=me.1 (hl.1 g d);exact me.2 ⟨y,k y p ((i.2.2 _).2 (j3 d)),rfl⟩
     |cons c C=>simp at b
    ·
     cases C with
     |nil=>
      obtain⟨rfl,rfl⟩:=b;rw[mQ]at j;obtain⟨y,p,rfl⟩:=me.1 (hl.1 g d);exact me.2 ⟨y,by rw[<-j];exact k y p ((i.2.2 _).2 (j3 d)),rfl⟩
     |cons c C=>
      obtain⟨rfl,_⟩:=b;exact o A x C j g d
  ·(have e:Kn (h::R) N=Kn R N:=by rw[Kn,mm n]);obtain⟨m,k,o⟩:=VJ R N hl.2 hr hc (λx a=>hp x sr);rw[e];refine⟨?_,?_,o⟩
   .rw[List.reverse_cons];exact m.H (List.sublist_append_left _ _)
   .intro x a l;rcases l9.1 a with rfl|a
    .exact rl ((B1 _ _).2 l) n
    .exact k x a l
def Tq:∀R f,f∈R.map (λh=>h.2.E)->∃c h,Kn R [f]=c++[h]/\h.2.E=f
 |[],f,h=>pp
 |h::R,f,a=>by
  by_cases b:C7 [f] h.2.E=T6
  .refine⟨_,h,by rw[Kn,mo b],?_⟩;have:=(B1 _ _).1 b;simpa using this
  .rw[Kn,mm b];refine Tq R f ?_;rw[mA,l9]at a;rcases a with rfl|a
   .exact rl ((B1 _ _).2 ln) b
   .exact a
def T3:∀R f,f∉R.map (λh=>h.2.E)->Kn R [f]=[]
 |[],f,h=>rfl
 |h::R,f,hm=>by
  rw[mA,l9,not_or]at hm;rw[Kn,mm ?_]
  .exact T3 R f hm.2
  .intro a;have:=(B1 _ _).1 a;exact qr
def fK:∀(a:kN Df),(∀i d,∀g∈a[i].2.pos,g∈(qT i a).map λh=>h.2.E)->YR a.reverse:=by
 intro a;have b:∀n,n<=Z a->(∀i (d:i<Z a),∀g∈a[i].2.pos,g∈(qT i a).map λh=>h.2.E)->YR (qT n a).reverse:=by
  intro n
  induction n with
  |zero=>intro _ _;trivial
  |succ n ih=>
   intro e h;rw[lW lc,List.reverse_append];refine⟨λg c=>?_,ih lc h⟩;show g∈List.map (λh=>h.2.E) (List.take n a).reverse;rw[List.map_reverse,List.mem_reverse];exact h n lc g c
 intro h;have:=b (Z a) (mt _) h
 rwa [nw]at this
structure kY(rcs:kN AW)(s:kN Ae)(l:kN Df):Prop where
 nd:(l.map λh=>h.2.E).Nodup
 j:∀A h B,l=A++h::B->∃(hn:h.1<Z rcs) (σ:rC->bN),Oy rcs[h.1] σ/\h.2=Dr rcs[h.1] σ/\(∀g∈h.2.pos,g∈A.map λh=>h.2.E)/\∀g∈h.2.neg,g∉s
 zS:∀h∈l,h.2.E∈s
def IT(hs:kN Df)(f:Ae):kN Df:=Kn hs.reverse [f]
def ZP.proof{a:kN Df}{s}(h:ZP c a s)(D:∀f∈s,AG f){f}(r:AG f):kY c s (IT a f)/\(f∈s->∃t x,IT a f=t++[x]/\x.2.E=f)/\(f∉s->IT a f=[]):=by
 have o:∀x∈a,∀g∈x.2.pos,g∈s:=by
  intro x d g b;obtain⟨i,j,rfl⟩:=mS d;obtain⟨_,_,_,_,k,_⟩:=h.j i j;obtain⟨y,v,e⟩:=me.1 (k g b);exact(h.mem g).2 (me.2 ⟨y,ny v,e⟩)
 have u:=fK a (λi j g b=>by obtain⟨_,_,_,_,k,_⟩:=h.j i j;exact k g b);obtain⟨l,_,w⟩:=VJ _ [f] u (List.pairwise_singleton _ _) (λg b=>by simp at b;rw[b];exact r) (λx d g b=>D g (o x (List.mem_reverse.1 d) g b));rw[List.reverse_reverse]at l;refine⟨⟨?_,λA x B e=>?_,λx d=>?_⟩,λm=>?_,λm=>?_⟩
 .exact h.nd.sublist (l.map _)
 .have d:x∈a:=l.subset (by unfold IT at e;rw[e];simp);obtain⟨i,j,rfl⟩:=mS d;obtain⟨p,σ,n,z,k,q⟩:=h.j i j;exact⟨p,σ,n,z,w A _ B e,q⟩
 .exact(h.mem _).2 (me.2 ⟨x,l.subset d,rfl⟩)
 .refine Tq _ _ ?_;rw[List.map_reverse,List.mem_reverse];exact(h.mem f).1 m
 .refine T3 _ _ ?_;rw[List.map_reverse,List.mem_reverse];exact λC=>m ((h.mem f).2 C)
def LJ(c:AW)(f:Ae)(s m:kN Ae):rD:=
 (Ca Bm c.E f).2&&(qU (Ce s) [(Ca Bm c.E f).1] (Am c)).any λe=>(Am c).all λx=>x.b==97||Cm (Av e) (AI e) m x
def Vh{z}(n:RM z){c}(o:c∈z)(q:∀t∈c.E.qH,BJ t){s m}(y:∀f∈s,IW f){σ}(S:Oy c σ)(F:∀g∈(Dr c σ).pos,g∈s)(P:∀g∈(Dr c σ).neg,g∉m)(G:IW (Bq σ c.E)):LJ c (Bq σ c.E) s m=T6:=by
 have E:∀x∈Am c,(x.b==97)=T6->(∀t∈x.A.qH,BJ t/\(Eo σ t).size≠0)/\Bq σ x.A∈s:=by
  intro x b a;have h:=F _ (me.2 ⟨x,my.2 ⟨b,a⟩,rfl⟩);exact⟨λt d=>⟨n.qH c o x b a t d,y _ h _ (mx d)⟩,h⟩
 obtain⟨l,p,j⟩:=IY σ _ Bm (Ej.start σ) (λt d=>⟨q t d,G _ (mx d)⟩);have Q:Ca Bm c.E (Bq σ c.E)=(l,T6):=by
  unfold Ca Bq;exact li
 obtain⟨e,k,R⟩:=I6 σ _ [l] l ln j E;obtain⟨_,_,_,_,C⟩:=CY y _ [l] (λe k=>by simp at k;rw[k];exact j.1) (λx b a=>n.qH c o x b a) e k;have r:∀t,Fh (Am c) t->AI e t=Eo σ t:=by
  intro t d;rcases d with i|⟨x,b,a,u,w,M⟩
  .unfold AI Eo;rw[mo i,mo i]
  .have p:=(C x b a).2 u w;have j:=R.val (n.qH c o x b a u w) p;unfold AI Eo at j|-;rw[<-M];by_cases i:u.v=0
   .rw[mo i,mo i]
   .rw[mm i,mm i]at j|-;exact j
 unfold LJ;rw[Q];refine nD.2 ⟨e,k,nI.2 λx b=>?_⟩;cases a:(x.b==97)with
 |true=>rfl
 |false=>
  obtain⟨H,D⟩:=n.safe c o x b a;cases hk2:(x.b==33)with
  |true=>
   have N:Av e x.A=Bq σ x.A:=by
    unfold Av Bq
    congr 1
    exact nj (λt d=>r t (H hk2 t d))
   unfold Cm;rw[a,hk2,mm ln,mo rfl,N];cases q:C7 m (Bq σ x.A)with
   |false=>rfl
   |true=>exact rl ((B1 _ _).1 q) (P _ (me.2 ⟨x,my.2 ⟨b,hk2⟩,rfl⟩))
  |false=>
   have I:=S x b a hk2;rw[<-I];obtain⟨B,L⟩:=D hk2;unfold Cm;rw[a,hk2,mm ln,mm ln,r _ B,r _ L];rfl
