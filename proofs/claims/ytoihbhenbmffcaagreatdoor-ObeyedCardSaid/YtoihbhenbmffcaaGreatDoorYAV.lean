import Derived.Test.YtoihbhenbmffcaaGreatDoorYAG
import Derived.Test.YtoihbhenbmffcaaGreatDoorYAR
set_option linter.all false
set_option maxHeartbeats 0
open List renaming length->Z,toArray->j3
open Option renaming none->Y,some->V
open Go.Value renaming slice->U,int->X,string->O,ownBlock->lX
open Go.Obj renaming cells->j2
open Go.Ending renaming returned->lo
open Or renaming inl->lx,inr->ly
open Go renaming World->l9,Value->lN
open Go.World renaming cell?->lP,ownsRow->lQ
namespace Go.Proofs.YtoihbhenbmffcaaGreatDoor
open Go.RowKit Go.Proofs.Tryz
theorem Tryz.zj:(Tryz.prog.info? 104).map (λi=>(i.zero,i.size,i.bytes))=V (V (.agg #[O ⟨#[]⟩,U Y 0 0]),2,40):=by kernel_rfl
def FM{P:Program}(w:l9)(h n t c:TypeId)(e:Nat)(b o d k:Nat)(a:Addr)(f s:Nat)(cs:mc lN)
  (r:P.underlying h=V (.slice c)) (g:(P.info? c).map (·.size)=V e) (x:Z cs=Nat.min f d*e)
  (z:∀j v,cs[j]?=V v->lP w (a.add j)=V v) (y:∀j,j<Z cs->(lP w ⟨b,o+j,Y⟩).isSome=true) (p:∀j,j<Z cs->w.frozen? ⟨b,o+j,Y⟩=false) (m:∀v∈cs,v.oneCell'=true):
  (Builtin.copy_ #[h,n] t #[U (V ⟨b,o,Y⟩) d k,U (V a) f s]).run P w=.ok (goInt (Nat.min f d)) (w.setCells b o cs):=by
 have q:=run_loadCells_list (P:=P) w a cs z;have l:=run_storeCells_cells (P:=P) b o cs 0 w (by simpa using y) (by simpa using p) m;cases hq:P.info? c with
 |none=>simp[hq]at g
 |some i=>
  have u:i.size=e:=by simpa[hq] using g
  simp[Builtin.copy_,run_underlying r,Builtin.lenOf,Builtin.firstCells,sizeOf,typeInfo,hq,u,<-x,q,l]
set_option maxRecDepth 100000
theorem Xi(g n c i b:Nat)(cs q k:mc lN)(w:l9)(hi:i<n)(Bx:n+1<=c)(A2:c<=9223372036854775807)(B:b≠g)
  (N:Z cs=n*2) (r:Z k=2) (m:AH w g q 104) (E:Z q=c*2) (A:q.take (n*2)=cs) (p:AH w b k 104) (Ax:∀v∈cs,v.oneCell'=true) (T:∀v∈k,v.oneCell'=true):
  Calls prog 105 #[U (V ⟨g,0,Y⟩) n c,X .i64 i,U (V ⟨b,0,Y⟩) 1 1] w λe R=>
   e=lo (U (V ⟨g,0,Y⟩) (n+1) c)/\R=(w.drew.setCells g ((i+1)*2) (cs.drop (i*2))).setCells g (i*2) k:=by
 obtain⟨i0,Q,A1,I,EK⟩:=iR Tryz.zj;have D:(prog.info? 104).map (·.size)=V 2:=by rw[Q];simp[I]
 have A0:∀w,(Go.sizeOf 104).run prog w=.ok 2 w:=λw=>by simp[sizeOf,typeInfo,Q,I]
 have L:∀j,j<(n+1)*2->(lP w ⟨g,j,Y⟩).isSome=true:=λj a=>m.some j (by omega)
 have P:∀j,w.frozen? ⟨g,j,Y⟩=false:=λj=>m.frozen j
 have F:∀j v,cs[j]?=V v->lP w ⟨g,j,Y⟩=V v:=λj v a=>by
  rw[m.cell];rw[<-A,jD]at a;split at a
  .exact a
  .cases a
 have W:∀u t,(callFunc 152 #[U (V ⟨b,0,Y⟩) 1 1,U (V ⟨g,(i+1)*2,Y⟩) u t]).run prog w=.ok (.value (.bool false)) w:=λu t=>by
  rw[lg func152 (by kernel_rfl) (by kernel_rfl) (by kernel_rfl) (e:=Extern.SlicesOverlaps.overlaps #[113,113] #[4]) (by kernel_rfl),
   Lib.run_overlaps_apart w 113 4 104 underlying113 2 A0 ⟨b,0,Y⟩ ⟨g,(i+1)*2,Y⟩ 1 1 u t B 104 104 2 (c*2) (by rw[<-r];exact p.shape) (by rw[<-E];exact m.shape) (by omega) (p.frozen 0) (p.frozen 2)]
  rfl
 have G:Z (cs.drop (i*2))=(n-i)*2:=by rw[iN,N];omega
 have H:Nat.min (n+1-i) (n-i)=n-i:=by simp only[lB];split<;>omega
 have z:∀l d x,(Builtin.copy_ #[113,113] l #[U (V ⟨g,(i+1)*2,Y⟩) (n-i) d,U (V ⟨g,i*2,Y⟩) (n+1-i) x]).run prog w.drew=.ok (goInt ((n-i:Nat):Int)) (w.drew.setCells g ((i+1)*2) (cs.drop (i*2))):=λl d x=>by
  have h:=FM w.drew 113 113 l 104 2 g ((i+1)*2) (n-i) d ⟨g,i*2,Y⟩ (n+1-i) x (cs.drop (i*2)) underlying113 D (by rw[G,H])
   (λj v a=>by rw[j8];exact F (i*2+j) v (by rwa [kU]at a))
   (λj a=>L _ (by omega)) (λj a=>P _) (λv hv=>Ax v (km hv))
  rw[H]at h;exact h
 obtain⟨f,o⟩:∃f,f=w.drew.setCells g ((i+1)*2) (cs.drop (i*2)):=⟨_,rfl⟩;have s:AH f g (N1 q ((i+1)*2) (cs.drop (i*2))) 104:=by rw[o];exact m.drew.setCells _ _
 have y:AH f b k 104:=by rw[o];exact p.drew.kept (Ac.setCells (M:=[g]) (by simp) _ _ (me _ _)) (by simpa using B)
 have C:Nat.min 1 (n+1-i)=1:=by simp only[lB];split<;>omega
 have S:∀l d,(Builtin.copy_ #[113,113] l #[U (V ⟨g,i*2,Y⟩) (n+1-i) d,U (V ⟨b,0,Y⟩) 1 1]).run prog f=.ok (goInt 1) (f.setCells g (i*2) k):=λl d=>by
  have h:=FM f 113 113 l 104 2 g (i*2) (n+1-i) d ⟨b,0,Y⟩ 1 1 k underlying113 D (by rw[C,r])
   (λj v a=>by rw[j8,iM,y.cell];exact a)
   (λj a=>s.some _ (by rw[Du];omega)) (λj a=>s.frozen _) T
  rw[C]at h;exact h
 rw[<-o]at z;have B2:IntKind.i64.wrap ((i:Int)+1)=(i:Int)+1:=by rw[j7];omega
 have BS:¬((i:Int)=(n:Int)):=by omega
 have DT:(0:Int)<=(i:Int)+1:=by omega
 have B0:i<=n:=by omega
 have BA:((i:Int)+1).toNat=i+1:=by omega
 have B9:¬(c=i+1):=by omega
 have EM:(i:Int)<=(n:Int)+1:=by omega
 have CL:¬(c=i):=by omega
 have mixed:prog.follows Departure.mixedOrders=true:=by kernel_rfl
 have AO:=Ab o;clear m p s y F L P o G N E A r;go_enter func105,ntmps105;go_wp2_with (simp only[W])
 go_region_law_o (refine step_copy_runI rfl _ _ 113 113 rfl _ _ (by simp[Act.eval,Act.put]) (by simp[Act.eval,Act.put]) (z _ _ _) ?_)
 go_wp2_with (at_builtin;refine wpList_copy_runI _ rfl _ _ 113 113 rfl _ _ rfl rfl (S _ _) ?_)
 go_ret;exact⟨rfl,by rw[Aa AO]⟩
theorem Y8(g n c i m:Nat)(cs s d:mc lN)(w:l9)(hi:i<n)(HE:n<=c)(EX:c<n+1)(HI:n<=1000000)
  (Bx:Z cs=n*2) (H:Z d=2) (u:AH w g s 104) (FL:Z s=c*2) (z:s.take (n*2)=cs) (F:AH w m d 104) (FF:∀v∈cs,v.oneCell'=true) (EM:∀v∈d,v.oneCell'=true):
  Calls prog 105 #[U (V ⟨g,0,Y⟩) n c,X .i64 i,U (V ⟨m,0,Y⟩) 1 1] w λe w'=>
   ∃(a:mc lN) (G:Nat),Z a=G*2/\n+1<=G/\G<=maxLen/\a.take (i*2)=cs.take (i*2)/\e=lo (U (V ⟨w.heap.size,0,Y⟩) (n+1) G)/\
   w'=(((w.alloc (j2 (j3 a) 104)).drew.setCells w.heap.size (i*2) d).drew).setCells w.heap.size ((i+1)*2) (cs.drop (i*2)):=by
 obtain⟨T,B0,CL,A0,BA⟩:=iR Tryz.zj;have mixed:prog.follows Departure.mixedOrders=true:=by kernel_rfl
 have S:(prog.info? 104).map (·.size)=V 2:=by rw[B0];simp[A0]
 have Ha:=u.lt;have Go:=F.lt;have L:(n:Int)+1-(i:Int)=((n+1-i:Nat):Int):=by omega
 have C:i+(n+1-i)=n+1:=by omega
 have AO:∀j v,cs[j]?=V v->lP w ⟨g,j,Y⟩=V v:=λj v b=>by
  rw[u.cell];rw[<-z,jD]at b;split at b
  .exact b
  .cases b
 have Q:(Builtin.firstCells T.size i (U (V ⟨g,0,Y⟩) i c)).run prog w.drew=.ok (j3 (cs.take (i*2))) w.drew:=by
  rw[A0];exact run_firstCells_some w.drew 2 i ⟨g,0,Y⟩ i c (cs.take (i*2)) (by rw[iH];omega) (λj v b=>by
   rw[j8,iM]
   rw[jD]at b
   split at b
   .exact AO j v b
   .cases b)
 obtain⟨l,B⟩:∃l:Array lN,(Value.agg #[O ⟨#[]⟩,U Y 0 0]).cells=l:=⟨_,rfl⟩;have A1:l.size=2:=by rw[<-B];rfl
 have r:∀f,(Builtin.append_ #[113,3] f #[U (V ⟨g,0,Y⟩) i c,X .i64 ((n:Int)+1-(i:Int))]).run prog w=
   .ok (U (V ⟨w.heap.size,0,Y⟩) (n+1) (grownCap w (n+1) c 104)) (w.drew.alloc (j2 (j3 (cs.take (i*2))++Builtin.zeroCells l (n+1-i)++Builtin.zeroCells l (grownCap w (n+1) c 104-(n+1))) 104)):=λf=>by
  have h:=Lib.run_append_grow_zeros w 113 3 f 104 T _ .i64 .i64 underlying113 underlying3 B0 CL (V ⟨g,0,Y⟩) i c (cs.take (i*2)) Q (n+1-i) (by omega) (by omega) (by omega) (by omega) (by rw[BA];omega) (by rw[BA,C];exact growslice_fits EX (by omega));rw[C,B]at h;rw[L];exact h
 obtain⟨G,t⟩:∃G,G=grownCap w (n+1) c 104:=⟨_,rfl⟩;obtain⟨a,q⟩:∃a:mc lN,j3 a=j3 (cs.take (i*2))++Builtin.zeroCells l (n+1-i)++Builtin.zeroCells l (G-(n+1)):=⟨_,Array.toArray_toList⟩;rw[<-t]at r;rw[<-q]at r;have FO:n+1<=G:=by rw[t];exact grownCap_ge w _ _ _
 have A:G<=maxLen:=by rw[t];exact grownCap_le_maxLen w (n+1) c 104 (by unfold maxLen;omega)
 have B2:Z a=G*2:=by
  have:=congrArg Array.size q;simp[Builtin.zeroCells,A1]at this;omega
 have Ax:a.take (i*2)=cs.take (i*2):=by
  have h:=congrArg Array.toList q;simp only[Array.toList_append,iT]at h;rw[h,iP (by simp;omega)];simp[kR]
 obtain⟨N,hN⟩:∃N,w.heap.size=N:=⟨_,rfl⟩;have p:AH (w.drew.alloc (j2 (j3 a) 104)) N a 104:=by rw[<-hN];exact mf w.drew a 104
 have P:AH (w.drew.alloc (j2 (j3 a) 104)) m d 104:=F.drew.alloc _;have R:Nat.min 1 (n+1-i)=1:=by simp only[lB];split<;>omega
 have FA:∀(W:l9),(∀x,lP W x=lP (w.drew.alloc (j2 (j3 a) 104)) x)->(∀x,W.frozen? x=(w.drew.alloc (j2 (j3 a) 104)).frozen? x)->∀f k,(Builtin.copy_ #[113,113] f #[U (V ⟨N,i*2,Y⟩) (n+1-i) k,U (V ⟨m,0,Y⟩) 1 1]).run prog W=.ok (goInt 1) (W.setCells N (i*2) d):=λW o D f k=>by
  have h:=FM W 113 113 f 104 2 N (i*2) (n+1-i) k ⟨m,0,Y⟩ 1 1 d underlying113 S (by rw[R,H])
   (λj v b=>by rw[j8,iM,o,P.cell];exact b)
   (λj b=>by rw[o];exact p.some _ (by omega)) (λj b=>by rw[D];exact p.frozen _) EM
  rw[R]at h;exact h
 have y:AH ((w.drew.alloc (j2 (j3 a) 104)).setCells N (i*2) d) N (N1 a (i*2) d) 104:=p.setCells _ _;have I:AH ((w.drew.alloc (j2 (j3 a) 104)).setCells N (i*2) d) g s 104:=(u.drew.alloc _).kept (Ac.setCells (M:=[N]) (by simp) _ _ (me _ _)) (by simp;omega);have AT:Z (cs.drop (i*2))=(n-i)*2:=by rw[iN,Bx];omega
 have A2:Nat.min (n-i) (n-i)=n-i:=Nat.min_self _;have BS:∀(W:l9),(∀x,lP W x=lP ((w.drew.alloc (j2 (j3 a) 104)).setCells N (i*2) d) x)->(∀x,W.frozen? x=((w.drew.alloc (j2 (j3 a) 104)).setCells N (i*2) d).frozen? x)->∀f k E,(Builtin.copy_ #[113,113] f #[U (V ⟨N,(i+1)*2,Y⟩) (n-i) k,U (V ⟨g,i*2,Y⟩) (n-i) E]).run prog W=.ok (goInt ((n-i:Nat):Int)) (W.setCells N ((i+1)*2) (cs.drop (i*2))):=λW o D f k E=>by
  have h:=FM W 113 113 f 104 2 N ((i+1)*2) (n-i) k ⟨g,i*2,Y⟩ (n-i) E (cs.drop (i*2)) underlying113 S (by rw[AT,A2])
   (λj v b=>by
    rw[j8,o,I.cell]
    rw[kU,<-z,jD]at b
    split at b
    .exact b
    .cases b)
   (λj b=>by rw[o];exact y.some _ (by rw[Du];omega))
   (λj b=>by rw[D];exact y.frozen _) (λv hv=>FF v (km hv))
  rw[A2]at h;exact h
 have EK:∀x,lP ((w.alloc (j2 (j3 a) 104)).drew) x=lP (w.drew.alloc (j2 (j3 a) 104)) x:=λx=>rfl
 have FP:∀x,((w.alloc (j2 (j3 a) 104)).drew).frozen? x=(w.drew.alloc (j2 (j3 a) 104)).frozen? x:=λx=>rfl
 have FC:∀x,lP (((w.alloc (j2 (j3 a) 104)).drew.setCells N (i*2) d).drew) x=lP ((w.drew.alloc (j2 (j3 a) 104)).setCells N (i*2) d) x:=λx=>rfl
 have EY:∀x,(((w.alloc (j2 (j3 a) 104)).drew.setCells N (i*2) d).drew).frozen? x=((w.drew.alloc (j2 (j3 a) 104)).setCells N (i*2) d).frozen? x:=λx=>rfl
 have HG:IntKind.i64.wrap ((i:Int)+1)=(i:Int)+1:=by rw[j7];omega
 have HC:¬((i:Int)=(n:Int)):=by omega
 have HK:(c:Int)<(n:Int)+1:=by omega
 have HM:(0:Int)<=(i:Int)+1:=by omega
 have HD:i<=n:=by omega
 have HA:((i:Int)+1).toNat=i+1:=by omega
 have HN:(i:Int)<=(n:Int):=by omega
 have HL:¬(G=i):=by omega
 have HB:¬(G=i+1):=by omega
 have HH:¬(c=i):=by omega
 have HF:G<=9223372036854775807:=by unfold maxLen at A;omega
 have B9:=Ab B2;have DT:=Ab Ax;have FB:=Ab A;rw[hN]at r⊢;clear L C Q q t B2 Ax A u F p P y I AO AT Bx FL z H A1 B;go_enter func105,ntmps105;go_wp2_with (first
  |(at_builtin;refine Lib.wpList_append_run _ rfl _ _ _ _ rfl _ _ rfl rfl _ _ (r _) ?_)
  |(at_builtin;refine wpList_copy_runI _ rfl _ _ 113 113 rfl _ _ rfl rfl (FA _ EK FP _ _) ?_)
  |(at_builtin;refine wpList_copy_runI _ rfl _ _ 113 113 rfl _ _ rfl rfl (BS _ (λ_=>rfl) (λ_=>rfl) _ _ _) ?_))
 go_region_law_o (refine step_copy_runI rfl _ _ 113 113 rfl (U (V ⟨N,(i+1)*2,Y⟩) (n-i) (G-(i+1))) (U (V ⟨g,i*2,Y⟩) (n-i) (c-i)) (by simp[Act.eval,Act.put]) (by simp[Act.eval,Act.put]) (BS _ FC EY 3 (G-(i+1)) (c-i)) ?_)
 go_wp2;go_ret;exact⟨a,G,B9,FO,FB,DT,rfl,rfl⟩
def RS{α:Type}(f:α->mc lN)(a:Nat):∀(l:mc α) (i:Nat),(∀x∈l,Z (f x)=a)->i<=Z l->(l.take i).flatMap f=(l.flatMap f).take (i*a)/\(l.drop i).flatMap f=(l.flatMap f).drop (i*a)
 |l,0,_,_=>by simp
 |[],i+1,_,h=>by simp at h
 |x::l,i+1,hl,h=>by
  have ih:=RS f a l i (λy b=>hl y (iB _ b)) (by simpa using h);have c:=hl x (iV ..);simp only[kc,kB,il,ih.1,ih.2];have e:(i+1)*a=Z (f x)+i*a:=by rw[c,jS];omega
  rw[e];exact⟨by rw[List.take_length_add_append],by rw[List.drop_length_add_append]⟩
def aK{b cs c:mc lN}{n i a:Nat}(p:b.take (n*a)=cs)(k:Z cs=n*a)(e:Z c=a)(o:i<=n)(m:(n+1)*a<=Z b):
  (N1 (N1 b ((i+1)*a) (cs.drop (i*a))) (i*a) c).take ((n+1)*a)=cs.take (i*a)++c++cs.drop (i*a):=by
 have g:(i+1)*a=i*a+a:=by rw[jS];omega
 have f:(n+1)*a=n*a+a:=by rw[jS];omega
 have l:i*a<=n*a:=iS _ o;rw[f]at m;rw[g,f];generalize i*a=I at*;generalize n*a=M at*;have d:Z (cs.drop I)=M-I:=by rw[iN,k]
 rw[G7 c _ I (by rw[Du];omega),G7 (cs.drop I) b (I+a) (by rw[d];omega)];have h:(b.take (I+a)++cs.drop I++b.drop (I+a+Z (cs.drop I))).take I=cs.take I:=by
  rw[iT,iP (by simp;omega),kR,kD (by omega),<-p,kR,kD l]
 have j:(b.take (I+a)++cs.drop I++b.drop (I+a+Z (cs.drop I))).drop (I+Z c)=cs.drop I++b.drop (I+a+Z (cs.drop I)):=by
  rw[e,iT,List.drop_append_of_le_length (by simp;omega),List.drop_of_length_le (by simp;omega),i6]
 rw[h,j,<-iT,iP (by simp[d,e];omega),gR (by simp[d,e];omega)]
def Xx(p:EN):Z (AW p)=2:=rfl
def Zw(fs:mc EN)(i:Nat)(x:EN)(a:i<=Z fs):(fs.take i++x::fs.drop i).flatMap AW=(fs.flatMap AW).take (i*2)++AW x++(fs.flatMap AW).drop (i*2):=by
 have h:=RS AW 2 fs i (λp _=>Xx p) a;rw[ix,il,h.1,h.2,iT]
def Zz(fs:mc EN):Z (fs.flatMap AW)=Z fs*2:=by
 induction fs with
 |nil=>rfl
 |cons p fs ih=>simp only[il,ib,ih,Xx,gW];omega
theorem T8(o:Option Addr)(cap:Nat)(fs:mc EN)(i:Nat)(x:EN)(base l:Nat)(w:l9)(n:lQ w base 104 2 (U o (Z fs) cap) (Z fs) (fs.flatMap AW))(FB:Z fs<=1000000)(hi:i<=Z fs)(t:AH w l (AW x) 104)(BT:(U o (Z fs) cap).ownBlock≠V l)(D:base<=w.heap.size)
  (r:∀u∈fs.flatMap AW,u.oneCell'=true) (P:∀u∈AW x,u.oneCell'=true):
  Calls prog 105 #[U o (Z fs) cap,X .i64 i,U (V ⟨l,0,Y⟩) 1 1] w λe s=>∃g cp,e=lo (U (V ⟨g,0,Y⟩) (Z fs+1) cp)/\lQ s base 104 2 (U (V ⟨g,0,Y⟩) (Z fs+1) cp) (Z fs+1) ((fs.take i++x::fs.drop i).flatMap AW)/\Ac (U o (Z fs) cap).ownBlock.toList w s/\((U o (Z fs) cap).ownBlock=V g\/w.heap.size<=g):=by
 have f:=Zz fs;have d:=Xx x;rw[Zw fs i x hi];by_cases FC:i=Z fs
 .subst FC;obtain⟨W,Bx,Q,S,T⟩:=iR Tryz.zj;have p:Hid ((fs.flatMap AW).take (Z fs*2)++AW x++(fs.flatMap AW).drop (Z fs*2)=fs.flatMap AW++AW x):=by
   show _=_;rw[gR (by omega),iC (by omega),iJ]
  have z:Hid (∀j u,(AW x)[j]?=V u->lP w ((⟨l,0,Y⟩:Addr).add j)=V u):=λj u hu=>by rw[j8,iM,t.cell];exact hu
  have M:=Ab n;have A:=Ab P;clear t r;cases o with
  |none=>
   have A1:Z fs=0:=by
    rcases n.2 with⟨b,q⟩|⟨g,c,m,b,_⟩
    .exact q
    .simp at b
   have B2:cap=0:=by
    rcases n.2 with⟨b,q⟩|⟨g,c,m,b,_⟩
    .simp only[gM]at b;exact b.2.2
    .simp at b
   subst B2;have B9:fs=[]:=jF.1 A1;subst B9;clear n A1;simp only[iv,jh]at M p⊢;generalize AW x=xs at z A p d⊢;go_enter func105,ntmps105;go_wp2_with (at_builtin;refine io _ rfl _ _ _ rfl base 104 W _ 2 40 underlying113 Bx Q S T rfl (by omega) (U Y 0 0) 0 [] rfl M ⟨l,0,Y⟩ 1 1 xs rfl (by omega) z A (by omega) (by unfold maxLen;omega) (by omega) D _ rfl ?_;intro H E w9 v F B Ha)
   go_ret;rw[Aa p];refine⟨H,E,rfl,v,(me _ w).grown F (λk C=>lx (by rw[jP];exact C)),?_⟩;rcases B with h|h
   .exact lx h
   .exact ly (by omega)
  |some a=>
   obtain⟨ab,ao,FO⟩:=a;have EX:ao=0/\FO=Y:=by
    rcases n.2 with⟨b,q⟩|⟨g,c,m,b,_⟩
    .simp at b
    .simp only[gM,gT,iL]at b;exact b.1.2
   obtain⟨rfl,rfl⟩:=EX;have EY:Z fs<=cap/\cap<=maxLen:=by
    rcases n.2 with⟨b,q⟩|⟨g,c,m,b,_,_,r,h2,_⟩
    .simp at b
    .simp only[gM]at b;rw[b.2.2];exact⟨r,h2⟩
   obtain⟨BA,y⟩:=EY;unfold maxLen at y;clear n;generalize AW x=xs at z A p d⊢;go_enter func105,ntmps105;go_wp2_with (at_builtin;refine io _ rfl _ _ _ rfl base 104 W _ 2 40 underlying113 Bx Q S T rfl (by omega) (U (V ⟨ab,0,Y⟩) (Z fs) cap) (Z fs) (fs.flatMap AW) rfl M ⟨l,0,Y⟩ 1 1 xs rfl (by omega) z A (by omega) (by unfold maxLen;omega) (by omega) D _ rfl ?_;intro H E w9 v F B Ha)
   all_goals
    go_ret;refine⟨H,E,rfl,(by first|(rw[Aa p];exact v)|(rw[<-iT,Aa p];exact v)),(me _ w).grown F (λk C=>lx (by rw[jP];exact C)),?_⟩;rcases B with h|h
    .exact lx h
    .exact ly (by omega)
 .have AO:i<Z fs:=by omega
  rcases n.2 with⟨b,q⟩|⟨g,c,m,b,hb,HB,BA,y,FP,CL⟩
  .omega
  .simp only[gM]at b;obtain⟨rfl,_,rfl⟩:=b;(have DT:l≠g:=λe=>BT (by simp[lX,e]));(have N:AH w g m.toList 104:=by unfold AH;simpa using HB);(have Ax:Z m.toList=cap*2:=by simpa using FP);have L:m.toList.take (Z fs*2)=fs.flatMap AW:=CL;by_cases R:Z fs+1<=cap
   .refine(Xi g (Z fs) cap i l (fs.flatMap AW) m.toList (AW x) w AO R (by unfold maxLen at y;omega) DT f d N Ax L t r P).mono ?_;rintro e s ⟨rfl,rfl⟩;have I:=(N.drew.setCells ((fs.flatMap AW).drop (i*2)) ((i+1)*2)).setCells (AW x) (i*2);refine⟨g,cap,rfl,⟨?_,ly ⟨g,cap,_,rfl,hb,I,R,y,?_,?_⟩⟩,?_,lx rfl⟩
    .simp only[ib,iH,iN,f,d];omega
    .simp only[i7,Du];omega
    .exact aK L f d hi (by omega)
    .exact Ac.setCells (by simp[lX]) _ _ (Ac.setCells (by simp[lX]) _ _ (me _ w).drew)
   .refine(Y8 g (Z fs) cap i l (fs.flatMap AW) m.toList (AW x) w AO BA (by omega) FB f d N Ax L t r P).mono ?_;rintro e s ⟨A0,G,HC,FT,B0,FF,rfl,rfl⟩;have I:=((mf w A0 104).drew.setCells (AW x) (i*2)).drew.setCells ((fs.flatMap AW).drop (i*2)) ((i+1)*2);(have hd:Z ((fs.flatMap AW).drop (i*2))=(Z fs-i)*2:=by rw[iN,f];omega);refine⟨w.heap.size,G,rfl,⟨?_,ly ⟨w.heap.size,G,_,rfl,D,I,FT,B0,?_,?_⟩⟩,?_,ly (ig _)⟩
    .simp only[ib,iH,iN,f,d];omega
    .simp only[i7,Du];omega
    .rw[G7 _ _ _ (by rw[Du,hd];omega),G7 _ _ _ (by rw[d];omega),FF];have e1:(List.take (i*2) (fs.flatMap AW)++AW x++List.drop (i*2+Z (AW x)) A0).take ((i+1)*2)=List.take (i*2) (fs.flatMap AW)++AW x:=by
      rw[iP (by simp only[ib,iH,f,d];omega),gR (by simp only[ib,iH,f,d];omega)]
     rw[e1,iP (by simp only[ib,iH,iN,f,d];omega),gR (by simp only[ib,iH,iN,f,d];omega)]
    .exact Ac.setCells (ly (ig _)) _ _ (Ac.setCells (ly (ig _)) _ _ ((me _ w).alloc _).drew).drew
def A7{w:l9}{i n h e s1 s2 p s:Nat}{v1 f:lN}{r o:mc lN}(m:lQ w i h s1 v1 p r)(k:lQ w n e s2 f s o)(j:h≠e)(q:Nat)(a:v1.ownBlock=V q):f.ownBlock≠V q:=λd=>by
 rcases m.2 with⟨rfl,_⟩|⟨g,c,u,rfl,_,l,_⟩
 .simp[lX]at a
 .rcases k.2 with⟨rfl,_⟩|⟨t,v,x,rfl,_,b,_⟩
  .simp[lX]at d
  .simp only[lX,gT]at a d;subst a;subst d;rw[l]at b;simp only[gT,Obj.cells.injEq]at b;exact j b.2.1
def Ar{w:l9}{f e s1 i:Nat}{v1:lN}{k:mc lN}{b:Nat}{cs:mc lN}{t:TypeId}(j:lQ w f e s1 v1 i k)(a:AH w b cs t)(h:e≠t):v1.ownBlock≠V b:=λd=>by
 rcases j.2 with⟨rfl,_⟩|⟨g,c,m,rfl,_,l,_⟩
 .simp[lX]at d
 .simp only[lX,gT]at d;subst d;unfold AH at a;rw[l]at a;simp only[gT,Obj.cells.injEq]at a;exact h a.2.1
def cB{w:l9}{p:EN}(h:DS w p):∀u∈AW p,u.oneCell'=true:=by
 obtain⟨c,b,e⟩:=Al h;intro u a;simp only[AW,gP,iU,or_false]at a;rcases a with rfl|rfl
 .rfl
 .rw[e];rfl
def Iw.one{w:l9}{d:lN}{fs:mc EN}(h:Iw w d fs):∀u∈fs.flatMap AW,u.oneCell'=true:=λu b=>by
 obtain⟨p,a,c⟩:=iI.1 b;exact cB (h.each p a).1 u c
def LA(fs:mc EN)(x:EN)(p:Nat):mc EN:=if Ev fs x.f p then fs else fs.take p++x::fs.drop p
structure Tn(sb so:Nat)(cells:mc lN)(ty:TypeId)(sv:lN)(fs:mc EN)(x:EN)(w w':l9):Prop where
 out:∃(p:Nat) (ad:Option Addr) (cp:Nat),Gg fs x.f p/\AH w' sb (cells.set so (U ad (Z (LA fs x p)) cp)) ty/\Iw w' (U ad (Z (LA fs x p)) cp) (LA fs x p)/\∀q,(U ad (Z (LA fs x p)) cp).ownBlock=V q->sv.ownBlock=V q\/w.heap.size<=q
 kept:Ac (sb::sv.ownBlock.toList) w w'
theorem Qy(d a:Nat)(D:mc lN)(G:TypeId)(c:Option Addr)(b:Nat)(fs:mc EN)(x:EN)(w:l9)(S:AH w d D G)(Ax:D[a]?=V (U c (Z fs) b))(CL:104≠G)(HU:170≠G)(h:Iw w (U c (Z fs) b) fs)(M:DS w x)(A0:Z x.f.zC<=1000)(H0:Z fs<=900000)(HA:∀i j (W:i<Z fs) (hj:j<Z fs),i<=j->Cm fs[j].f x.f<0->Cm fs[i].f x.f<0):
  Calls prog 61 #[.pointer (V ⟨d,a,Y⟩),.agg (j3 (AW x))] w λe o=>e=lo (.tuple #[])/\Tn d a D G (U c (Z fs) b) fs x w o:=by
 have Ix:=S.lt;have AO:Hid (∀wr,Ac [] w wr->Calls prog 103 #[U c (Z fs) b,.agg (j3 (AW x)),.func (.func 104) #[] #[]] wr λe o=>∃p:Nat,e=lo (.tuple #[X .i64 p,.bool (Ev fs x.f p)])/\Gg fs x.f p/\Ac [] wr o):=λwr hk=>J6 c b fs x wr (h.kept hk) (M.kept hk) A0 (by omega) HA
 have HB:=Ab S;have HP:=Ab h;have HX:=Ab M;have HW:=Ab A0;obtain⟨l,m,FL⟩:=Al M;obtain⟨s,IS,P⟩:∃n v,AW x=[O n,v]/\v=U l (Z x.f.zC) m:=⟨_,_,rfl,FL⟩;obtain⟨P,rfl⟩:=P;have B9:=Ab P;generalize Z x.f.zC=xl at B9;rw[Aa B9]at AO⊢;clear P FL;have hK:=(me [] w).alloc (j2 [O s,U l xl m].toArray 104);have c0:=(S.alloc (j2 [O s,U l xl m].toArray 104)).cell a;rw[Ax]at c0;have FT:=Ab Ax;have HI:Hid (D.set a (U c (Z fs) b)=D):=by
  show _=_;obtain⟨H2,e⟩:=kZ.1 Ax;rw[<-e,List.set_getElem_self]
 clear Ax;have E:=mf w [O s,U l xl m] 104;have R:=Ab hK;clear h M A0 HA hK S;go_enter func61,ntmps61;go_wp2_with fail
 change Code.wp _ _ _ _ (w.alloc (j2 [O s,U l xl m].toArray 104));generalize w.alloc (j2 [O s,U l xl m].toArray 104)=w1 at R c0 E⊢;obtain⟨N,B0⟩:∃N,w.heap.size=N:=⟨_,rfl⟩;rw[B0]at E⊢;have IJ:=Ab B0;clear B0;have x0:=E.cell 0;have x1:=E.cell 1;simp at x0 x1;have HN:=Ab E;have EX:=Ab (AO w1.drew R.drew);clear AO E
 go_region_law (go_simp;go_at_call 103;refine EX.mono ?_;rintro e k ⟨p,rfl,hcut,k3⟩;have C:=Ab hcut;have A:=Ab (R.drew.trans k3);have Q:=Ab (HN.drew.kept k3 (by simp));clear hcut k3)
 all_goals
  clear EX c0 x0 x1;have t:=Ab (HP.kept A);have H:=Ab (HB.kept A (by simp));have FF:=Ab (HX.kept A);obtain⟨HT,Bx⟩:∃HT,Ev fs x.f p=HT:=⟨_,rfl⟩;have A2:=Ab Bx;rw[Bx];clear Bx;have H9:=A.size;cases HT with
  |true=>
   (have u:Hid (LA fs x p=fs):=by show _=_;unfold LA;rw[Aa A2,gY rfl]);go_wp2;go_end0;refine⟨rfl,⟨p,c,b,C,?_,?_,?_⟩,A.mono (by simp)⟩
   .rw[Aa u,Aa HI];exact H
   .rw[Aa u];exact t
   .rw[Aa u];exact λq B=>lx B
  |false=>
   (have u:Hid (LA fs x p=fs.take p++x::fs.drop p):=by show _=_;unfold LA;rw[Aa A2,gV (by simp)]);have F:Hid (Z (fs.take p++x::fs.drop p)=Z fs+1):=by
    show _=_;have:=C.le;simp only[ib,iH,gW,iN];omega
   have HE:Hid (∀z,(z=(k.drew).alloc (j2 #[O s,U l xl m] 104)\/z=(k.alloc (j2 #[O s,U l xl m] 104)).drew)->Calls prog 105 #[U c (Z fs) b,X .i64 p,U (V ⟨k.heap.size,0,Y⟩) 1 1] z λe o=>∃g y,e=lo (U (V ⟨g,0,Y⟩) (Z fs+1) y)/\lP o ⟨d,a,Y⟩=V (U c (Z fs) b)/\o.frozen? ⟨d,a,Y⟩=false/\Tn d a D G (U c (Z fs) b) fs x w (o.setCell ⟨d,a,Y⟩ (U (V ⟨g,0,Y⟩) (Z fs+1) y))):=by
    intro z FA;have I:Ac [] k z:=by
     rcases FA with rfl|rfl
     .exact(me [] k).drew.alloc _
     .exact((me [] k).alloc _).drew
    have HZ:AH z k.heap.size (AW x) 104:=by
     rw[Aa B9];rcases FA with rfl|rfl
     .exact mf k.drew [O s,U l xl m] 104
     .exact(mf k [O s,U l xl m] 104).drew
    have T:=t.kept I;(have HG:(U c (Z fs) b).ownBlock≠V k.heap.size:=λe=>by have:=(t.row.lt _ e).2;omega);refine(T8 c b fs p x 0 k.heap.size z T.row (by omega) C.le HZ HG (ik _) T.one (cB HX)).mono ?_;rintro e o ⟨g,y,rfl,Go,AT,hg⟩;have EM:=H.kept I (by simp);(have HY:d∉(U c (Z fs) b).ownBlock.toList:=λhm=>Ar T.row EM CL (by simpa using hm));have L:=EM.kept AT HY;have FC:=L.cell a;rw[Aa FT]at FC;have HJ:Ac (d::(U c (Z fs) b).ownBlock.toList) w o:=((A.trans I).mono (by simp)).trans (AT.mono (λi W=>iB _ W));have HQ:(U (V ⟨g,0,Y⟩) (Z fs+1) y).ownBlock≠V d:=Ar Go L CL;have HR:=Ag Go (p:=⟨d,a,Y⟩) HQ (U (V ⟨g,0,Y⟩) (Z fs+1) y);refine⟨g,y,rfl,FC,L.frozen a,⟨p,V ⟨g,0,Y⟩,y,C,?_,?_,?_⟩,HJ.setCell (p:=⟨d,a,Y⟩) (lx (iV ..)) _⟩
    .rw[Aa u,Aa F];exact L.set a _
    .rw[Aa u,Aa F];refine⟨by rw[Aa F];exact HR,λq B=>?_⟩;have FB:DS k q/\Z q.f.zC<=1000:=by
      rcases ic.1 B with r|r
      .exact⟨(t.each q (jr r)).1,(t.each q (jr r)).2⟩
      .rcases gP.1 r with rfl|r
       .exact⟨FF,HW⟩
       .exact⟨(t.each q (km r)).1,(t.each q (km r)).2⟩
     have CC:=FB.1.kept I;have FP:lQ o 0 170 1 q.tv (Z q.f.zC) (q.f.zC.flatMap Ah):=Ai CC AT (λi W hm=>A7 CC T.row (by decide) i W (by simpa using hm));exact⟨Ag FP (p:=⟨d,a,Y⟩) (Ar FP L HU) _,FB.2⟩
    .rw[Aa u,Aa F];intro q B;simp only[lX,gT]at B;rcases hg with r|r
     .exact lx (by rw[<-B];exact r)
     .exact ly (by have:=I.size;omega)
   have y0:=H.cell a;rw[Aa FT]at y0;have z0:=Q.cell 0;have z1:=Q.cell 1;simp at z0 z1;have H8:=C.le;have H4:=Q.lt;have H5:d<k.heap.size:=H.lt;clear HP HB HX R HN t H FF C u F A2 Q;go_wp2_with fail
   go_region_law (go_simp;go_at_call 105;refine(HE _ (by first|exact lx rfl|exact ly rfl)).mono ?_;rintro e w4 ⟨g,y,rfl,H7,H3,DT⟩;have HO:=Ab DT;clear DT)
   all_goals
    clear HE;go_wp2;go_end0;exact⟨rfl,HO⟩
