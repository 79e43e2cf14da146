import Derived.Test.YtoihbhenbmffcaaGreatDoorYAH
import Derived.Test.YtoihbhenbmffcaaGreatDoorYAT
set_option linter.all false
set_option maxHeartbeats 0
open List renaming length->Z,toArray->j2
open Option renaming none->Y,some->V
open Go.Value renaming slice->U,int->X,string->O,ownBlock->jN
open Go.Obj renaming cells->j1
open Go.Ending renaming returned->j4
open Or renaming inl->j5,inr->j6
open Go renaming World->j7,Value->j8
open Go.World renaming cell?->jF,ownsRow->jG
namespace Go.Proofs.YtoihbhenbmffcaaGreatDoor
open Go.RowKit Go.Proofs.Tryz
theorem Tryz.zi:(Tryz.prog.info? 104).map (λi=>(i.zero,i.size,i.bytes))=V (V (.agg #[O ⟨#[]⟩,U Y 0 0]),2,40):=by kernel_rfl
def Fy{P:Program}(w:j7)(h n t c:TypeId)(e:Nat)(b o d k:Nat)(a:Addr)(f s:Nat)(cs:List j8)
  (r:P.underlying h=V (.slice c)) (g:(P.info? c).map (·.size)=V e) (x:Z cs=Nat.min f d*e)
  (z:∀j v,cs[j]?=V v->jF w (a.add j)=V v) (y:∀j,j<Z cs->(jF w ⟨b,o+j,Y⟩).isSome=true) (p:∀j,j<Z cs->w.frozen? ⟨b,o+j,Y⟩=false) (m:∀v∈cs,v.oneCell'=true):
  (Builtin.copy_ #[h,n] t #[U (V ⟨b,o,Y⟩) d k,U (V a) f s]).run P w=.ok (goInt (Nat.min f d)) (w.setCells b o cs):=by
 have q:=run_loadCells_list (P:=P) w a cs z;have l:=run_storeCells_cells (P:=P) b o cs 0 w (by simpa using y) (by simpa using p) m;cases hq:P.info? c with
 |none=>simp[hq]at g
 |some i=>
  have u:i.size=e:=by simpa[hq] using g
  simp[Builtin.copy_,run_underlying r,Builtin.lenOf,Builtin.firstCells,sizeOf,typeInfo,hq,u,<-x,q,l]
set_option maxRecDepth 100000
theorem V9(g n c i b:Nat)(cs q k:List j8)(w:j7)(hi:i<n)(A2:n+1<=c)(A1:c<=9223372036854775807)(B:b≠g)
  (N:Z cs=n*2) (r:Z k=2) (m:AI w g q 104) (E:Z q=c*2) (A:q.take (n*2)=cs) (p:AI w b k 104) (Ax:∀v∈cs,v.oneCell'=true) (T:∀v∈k,v.oneCell'=true):
  Calls prog 105 #[U (V ⟨g,0,Y⟩) n c,X .i64 i,U (V ⟨b,0,Y⟩) 1 1] w λe R=>
   e=j4 (U (V ⟨g,0,Y⟩) (n+1) c)/\R=(w.drew.setCells g ((i+1)*2) (cs.drop (i*2))).setCells g (i*2) k:=by
 obtain⟨i0,Q,A0,I,DT⟩:=fC Tryz.zi;have D:(prog.info? 104).map (·.size)=V 2:=by rw[Q];simp[I]
 have AT:∀w,(Go.sizeOf 104).run prog w=.ok 2 w:=λw=>by simp[sizeOf,typeInfo,Q,I]
 have L:∀j,j<(n+1)*2->(jF w ⟨g,j,Y⟩).isSome=true:=λj a=>m.some j (by omega)
 have P:∀j,w.frozen? ⟨g,j,Y⟩=false:=λj=>m.frozen j
 have F:∀j v,cs[j]?=V v->jF w ⟨g,j,Y⟩=V v:=λj v a=>by
  rw[m.cell];rw[<-A,gT]at a;split at a
  .exact a
  .cases a
 have W:∀u t,(callFunc 152 #[U (V ⟨b,0,Y⟩) 1 1,U (V ⟨g,(i+1)*2,Y⟩) u t]).run prog w=.ok (.value (.bool false)) w:=λu t=>by
  rw[jc func152 (by kernel_rfl) (by kernel_rfl) (by kernel_rfl) (e:=Extern.SlicesOverlaps.overlaps #[113,113] #[4]) (by kernel_rfl),
   Lib.run_overlaps_apart w 113 4 104 underlying113 2 AT ⟨b,0,Y⟩ ⟨g,(i+1)*2,Y⟩ 1 1 u t B 104 104 2 (c*2) (by rw[<-r];exact p.shape) (by rw[<-E];exact m.shape) (by omega) (p.frozen 0) (p.frozen 2)]
  rfl
 have G:Z (cs.drop (i*2))=(n-i)*2:=by rw[fz,N];omega
 have H:Nat.min (n+1-i) (n-i)=n-i:=by simp only[jo];split<;>omega
 have z:∀l d x,(Builtin.copy_ #[113,113] l #[U (V ⟨g,(i+1)*2,Y⟩) (n-i) d,U (V ⟨g,i*2,Y⟩) (n+1-i) x]).run prog w.drew=.ok (goInt ((n-i:Nat):Int)) (w.drew.setCells g ((i+1)*2) (cs.drop (i*2))):=λl d x=>by
  have h:=Fy w.drew 113 113 l 104 2 g ((i+1)*2) (n-i) d ⟨g,i*2,Y⟩ (n+1-i) x (cs.drop (i*2)) underlying113 D (by rw[G,H])
   (λj v a=>by rw[il];exact F (i*2+j) v (by rwa [iU]at a))
   (λj a=>L _ (by omega)) (λj a=>P _) (λv hv=>Ax v (iy hv))
  rw[H]at h;exact h
 obtain⟨f,o⟩:∃f,f=w.drew.setCells g ((i+1)*2) (cs.drop (i*2)):=⟨_,rfl⟩;have s:AI f g (Nt q ((i+1)*2) (cs.drop (i*2))) 104:=by rw[o];exact m.drew.setCells _ _
 have y:AI f b k 104:=by rw[o];exact p.drew.kept (Ac.setCells (M:=[g]) (by simp) _ _ (Ac.refl _ _)) (by simpa using B)
 have C:Nat.min 1 (n+1-i)=1:=by simp only[jo];split<;>omega
 have S:∀l d,(Builtin.copy_ #[113,113] l #[U (V ⟨g,i*2,Y⟩) (n+1-i) d,U (V ⟨b,0,Y⟩) 1 1]).run prog f=.ok (goInt 1) (f.setCells g (i*2) k):=λl d=>by
  have h:=Fy f 113 113 l 104 2 g (i*2) (n+1-i) d ⟨b,0,Y⟩ 1 1 k underlying113 D (by rw[C,r])
   (λj v a=>by rw[il,fw,y.cell];exact a)
   (λj a=>s.some _ (by rw[Dr];omega)) (λj a=>s.frozen _) T
  rw[C]at h;exact h
 rw[<-o]at z;have B0:IntKind.i64.wrap ((i:Int)+1)=(i:Int)+1:=by rw[ik];omega
 have BA:¬((i:Int)=(n:Int)):=by omega
 have CL:(0:Int)<=(i:Int)+1:=by omega
 have BT:i<=n:=by omega
 have Bx:((i:Int)+1).toNat=i+1:=by omega
 have B2:¬(c=i+1):=by omega
 have EK:(i:Int)<=(n:Int)+1:=by omega
 have CC:¬(c=i):=by omega
 have mixed:prog.follows Departure.mixedOrders=true:=by kernel_rfl
 have AB:=Ab o;clear m p s y F L P o G N E A r;go_enter func105,ntmps105;go_wp2_with (simp only[W])
 go_region_law_o (refine step_copy_runI rfl _ _ 113 113 rfl _ _ (by simp[Act.eval,Act.put]) (by simp[Act.eval,Act.put]) (z _ _ _) ?_)
 go_wp2_with (at_builtin;refine wpList_copy_runI _ rfl _ _ 113 113 rfl _ _ rfl rfl (S _ _) ?_)
 go_ret;exact⟨rfl,by rw[Aa AB]⟩
theorem X4(g n c i m:Nat)(cs s d:List j8)(w:j7)(hi:i<n)(HB:n<=c)(EM:c<n+1)(HF:n<=1000000)
  (A2:Z cs=n*2) (H:Z d=2) (u:AI w g s 104) (FC:Z s=c*2) (z:s.take (n*2)=cs) (F:AI w m d 104) (FB:∀v∈cs,v.oneCell'=true) (EK:∀v∈d,v.oneCell'=true):
  Calls prog 105 #[U (V ⟨g,0,Y⟩) n c,X .i64 i,U (V ⟨m,0,Y⟩) 1 1] w λe w'=>
   ∃(a:List j8) (G:Nat),Z a=G*2/\n+1<=G/\G<=maxLen/\a.take (i*2)=cs.take (i*2)/\e=j4 (U (V ⟨w.heap.size,0,Y⟩) (n+1) G)/\
   w'=(((w.alloc (j1 (j2 a) 104)).drew.setCells w.heap.size (i*2) d).drew).setCells w.heap.size ((i+1)*2) (cs.drop (i*2)):=by
 obtain⟨T,BT,CC,AT,Bx⟩:=fC Tryz.zi;have mixed:prog.follows Departure.mixedOrders=true:=by kernel_rfl
 have S:(prog.info? 104).map (·.size)=V 2:=by rw[BT];simp[AT]
 have FT:=u.lt;have FP:=F.lt;have L:(n:Int)+1-(i:Int)=((n+1-i:Nat):Int):=by omega
 have C:i+(n+1-i)=n+1:=by omega
 have AB:∀j v,cs[j]?=V v->jF w ⟨g,j,Y⟩=V v:=λj v b=>by
  rw[u.cell];rw[<-z,gT]at b;split at b
  .exact b
  .cases b
 have Q:(Builtin.firstCells T.size i (U (V ⟨g,0,Y⟩) i c)).run prog w.drew=.ok (j2 (cs.take (i*2))) w.drew:=by
  rw[AT];exact run_firstCells_some w.drew 2 i ⟨g,0,Y⟩ i c (cs.take (i*2)) (by rw[ft];omega) (λj v b=>by
   rw[il,fw]
   rw[gT]at b
   split at b
   .exact AB j v b
   .cases b)
 obtain⟨l,B⟩:∃l:Array j8,(Value.agg #[O ⟨#[]⟩,U Y 0 0]).cells=l:=⟨_,rfl⟩;have A0:l.size=2:=by rw[<-B];rfl
 have r:∀f,(Builtin.append_ #[113,3] f #[U (V ⟨g,0,Y⟩) i c,X .i64 ((n:Int)+1-(i:Int))]).run prog w=
   .ok (U (V ⟨w.heap.size,0,Y⟩) (n+1) (grownCap w (n+1) c 104)) (w.drew.alloc (j1 (j2 (cs.take (i*2))++Builtin.zeroCells l (n+1-i)++Builtin.zeroCells l (grownCap w (n+1) c 104-(n+1))) 104)):=λf=>by
  have h:=Lib.run_append_grow_zeros w 113 3 f 104 T _ .i64 .i64 underlying113 underlying3 BT CC (V ⟨g,0,Y⟩) i c (cs.take (i*2)) Q (n+1-i) (by omega) (by omega) (by omega) (by omega) (by rw[Bx];omega) (by rw[Bx,C];exact growslice_fits EM (by omega));rw[C,B]at h;rw[L];exact h
 obtain⟨G,t⟩:∃G,G=grownCap w (n+1) c 104:=⟨_,rfl⟩;obtain⟨a,q⟩:∃a:List j8,j2 a=j2 (cs.take (i*2))++Builtin.zeroCells l (n+1-i)++Builtin.zeroCells l (G-(n+1)):=⟨_,Array.toArray_toList⟩;rw[<-t]at r;rw[<-q]at r;have FF:n+1<=G:=by rw[t];exact grownCap_ge w _ _ _
 have A:G<=maxLen:=by rw[t];exact grownCap_le_maxLen w (n+1) c 104 (by unfold maxLen;omega)
 have B0:Z a=G*2:=by
  have:=congrArg Array.size q;simp[Builtin.zeroCells,A0]at this;omega
 have Ax:a.take (i*2)=cs.take (i*2):=by
  have h:=congrArg Array.toList q;simp only[Array.toList_append,fD]at h;rw[h,fB (by simp;omega)];simp[iS]
 obtain⟨N,hN⟩:∃N,w.heap.size=N:=⟨_,rfl⟩;have p:AI (w.drew.alloc (j1 (j2 a) 104)) N a 104:=by rw[<-hN];exact AI.new w.drew a 104
 have P:AI (w.drew.alloc (j1 (j2 a) 104)) m d 104:=F.drew.alloc _;have R:Nat.min 1 (n+1-i)=1:=by simp only[jo];split<;>omega
 have EY:∀(W:j7),(∀x,jF W x=jF (w.drew.alloc (j1 (j2 a) 104)) x)->(∀x,W.frozen? x=(w.drew.alloc (j1 (j2 a) 104)).frozen? x)->∀f k,(Builtin.copy_ #[113,113] f #[U (V ⟨N,i*2,Y⟩) (n+1-i) k,U (V ⟨m,0,Y⟩) 1 1]).run prog W=.ok (goInt 1) (W.setCells N (i*2) d):=λW o D f k=>by
  have h:=Fy W 113 113 f 104 2 N (i*2) (n+1-i) k ⟨m,0,Y⟩ 1 1 d underlying113 S (by rw[R,H])
   (λj v b=>by rw[il,fw,o,P.cell];exact b)
   (λj b=>by rw[o];exact p.some _ (by omega)) (λj b=>by rw[D];exact p.frozen _) EK
  rw[R]at h;exact h
 have y:AI ((w.drew.alloc (j1 (j2 a) 104)).setCells N (i*2) d) N (Nt a (i*2) d) 104:=p.setCells _ _;have I:AI ((w.drew.alloc (j1 (j2 a) 104)).setCells N (i*2) d) g s 104:=(u.drew.alloc _).kept (Ac.setCells (M:=[N]) (by simp) _ _ (Ac.refl _ _)) (by simp;omega);have AH:Z (cs.drop (i*2))=(n-i)*2:=by rw[fz,A2];omega
 have A1:Nat.min (n-i) (n-i)=n-i:=Nat.min_self _;have BA:∀(W:j7),(∀x,jF W x=jF ((w.drew.alloc (j1 (j2 a) 104)).setCells N (i*2) d) x)->(∀x,W.frozen? x=((w.drew.alloc (j1 (j2 a) 104)).setCells N (i*2) d).frozen? x)->∀f k E,(Builtin.copy_ #[113,113] f #[U (V ⟨N,(i+1)*2,Y⟩) (n-i) k,U (V ⟨g,i*2,Y⟩) (n-i) E]).run prog W=.ok (goInt ((n-i:Nat):Int)) (W.setCells N ((i+1)*2) (cs.drop (i*2))):=λW o D f k E=>by
  have h:=Fy W 113 113 f 104 2 N ((i+1)*2) (n-i) k ⟨g,i*2,Y⟩ (n-i) E (cs.drop (i*2)) underlying113 S (by rw[AH,A1])
   (λj v b=>by
    rw[il,o,I.cell]
    rw[iU,<-z,gT]at b
    split at b
    .exact b
    .cases b)
   (λj b=>by rw[o];exact y.some _ (by rw[Dr];omega))
   (λj b=>by rw[D];exact y.frozen _) (λv hv=>FB v (iy hv))
  rw[A1]at h;exact h
 have DT:∀x,jF ((w.alloc (j1 (j2 a) 104)).drew) x=jF (w.drew.alloc (j1 (j2 a) 104)) x:=λx=>rfl
 have FL:∀x,((w.alloc (j1 (j2 a) 104)).drew).frozen? x=(w.drew.alloc (j1 (j2 a) 104)).frozen? x:=λx=>rfl
 have FA:∀x,jF (((w.alloc (j1 (j2 a) 104)).drew.setCells N (i*2) d).drew) x=jF ((w.drew.alloc (j1 (j2 a) 104)).setCells N (i*2) d) x:=λx=>rfl
 have EX:∀x,(((w.alloc (j1 (j2 a) 104)).drew.setCells N (i*2) d).drew).frozen? x=((w.drew.alloc (j1 (j2 a) 104)).setCells N (i*2) d).frozen? x:=λx=>rfl
 have HD:IntKind.i64.wrap ((i:Int)+1)=(i:Int)+1:=by rw[ik];omega
 have Ha:¬((i:Int)=(n:Int)):=by omega
 have HH:(c:Int)<(n:Int)+1:=by omega
 have HJ:(0:Int)<=(i:Int)+1:=by omega
 have HA:i<=n:=by omega
 have FW:((i:Int)+1).toNat=i+1:=by omega
 have HK:(i:Int)<=(n:Int):=by omega
 have HI:¬(G=i):=by omega
 have Go:¬(G=i+1):=by omega
 have HE:¬(c=i):=by omega
 have HC:G<=9223372036854775807:=by unfold maxLen at A;omega
 have B2:=Ab B0;have CL:=Ab Ax;have E0:=Ab A;rw[hN]at r⊢;clear L C Q q t B0 Ax A u F p P y I AB AH A2 FC z H A0 B;go_enter func105,ntmps105;go_wp2_with (first
  |(at_builtin;refine Lib.wpList_append_run _ rfl _ _ _ _ rfl _ _ rfl rfl _ _ (r _) ?_)
  |(at_builtin;refine wpList_copy_runI _ rfl _ _ 113 113 rfl _ _ rfl rfl (EY _ DT FL _ _) ?_)
  |(at_builtin;refine wpList_copy_runI _ rfl _ _ 113 113 rfl _ _ rfl rfl (BA _ (λ_=>rfl) (λ_=>rfl) _ _ _) ?_))
 go_region_law_o (refine step_copy_runI rfl _ _ 113 113 rfl (U (V ⟨N,(i+1)*2,Y⟩) (n-i) (G-(i+1))) (U (V ⟨g,i*2,Y⟩) (n-i) (c-i)) (by simp[Act.eval,Act.put]) (by simp[Act.eval,Act.put]) (BA _ FA EX 3 (G-(i+1)) (c-i)) ?_)
 go_wp2;go_ret;exact⟨a,G,B2,FF,E0,CL,rfl,rfl⟩
def Q0{α:Type}(f:α->List j8)(a:Nat):∀(l:List α) (i:Nat),(∀x∈l,Z (f x)=a)->i<=Z l->(l.take i).flatMap f=(l.flatMap f).take (i*a)/\(l.drop i).flatMap f=(l.flatMap f).drop (i*a)
 |l,0,_,_=>by simp
 |[],i+1,_,h=>by simp at h
 |x::l,i+1,hl,h=>by
  have ih:=Q0 f a l i (λy b=>hl y (fu _ b)) (by simpa using h);have c:=hl x (fI ..);simp only[ip,iC,eN,ih.1,ih.2];have e:(i+1)*a=Z (f x)+i*a:=by rw[c,gL];omega
  rw[e];exact⟨by rw[List.take_length_add_append],by rw[List.drop_length_add_append]⟩
def Zx{b cs c:List j8}{n i a:Nat}(p:b.take (n*a)=cs)(k:Z cs=n*a)(e:Z c=a)(o:i<=n)(m:(n+1)*a<=Z b):
  (Nt (Nt b ((i+1)*a) (cs.drop (i*a))) (i*a) c).take ((n+1)*a)=cs.take (i*a)++c++cs.drop (i*a):=by
 have g:(i+1)*a=i*a+a:=by rw[gL];omega
 have f:(n+1)*a=n*a+a:=by rw[gL];omega
 have l:i*a<=n*a:=fV _ o;rw[f]at m;rw[g,f];generalize i*a=I at*;generalize n*a=M at*;have d:Z (cs.drop I)=M-I:=by rw[fz,k]
 rw[GW c _ I (by rw[Dr];omega),GW (cs.drop I) b (I+a) (by rw[d];omega)];have h:(b.take (I+a)++cs.drop I++b.drop (I+a+Z (cs.drop I))).take I=cs.take I:=by
  rw[fD,fB (by simp;omega),iS,iu (by omega),<-p,iS,iu l]
 have j:(b.take (I+a)++cs.drop I++b.drop (I+a+Z (cs.drop I))).drop (I+Z c)=cs.drop I++b.drop (I+a+Z (cs.drop I)):=by
  rw[e,fD,List.drop_append_of_le_length (by simp;omega),List.drop_of_length_le (by simp;omega),gd]
 rw[h,j,<-fD,fB (by simp[d,e];omega),eu (by simp[d,e];omega)]
def Wp(p:Fe):Z (AW p)=2:=rfl
def Yr(fs:List Fe)(i:Nat)(x:Fe)(a:i<=Z fs):(fs.take i++x::fs.drop i).flatMap AW=(fs.flatMap AW).take (i*2)++AW x++(fs.flatMap AW).drop (i*2):=by
 have h:=Q0 AW 2 fs i (λp _=>Wp p) a;rw[eY,eN,h.1,h.2,fD]
def Yu(fs:List Fe):Z (fs.flatMap AW)=Z fs*2:=by
 induction fs with
 |nil=>rfl
 |cons p fs ih=>simp only[eN,eJ,ih,Wp,eF];omega
theorem S5(o:Option Addr)(cap:Nat)(fs:List Fe)(i:Nat)(x:Fe)(base l:Nat)(w:j7)(n:jG w base 104 2 (U o (Z fs) cap) (Z fs) (fs.flatMap AW))(E0:Z fs<=1000000)(hi:i<=Z fs)(t:AI w l (AW x) 104)(BS:(U o (Z fs) cap).ownBlock≠V l)(D:base<=w.heap.size)
  (r:∀u∈fs.flatMap AW,u.oneCell'=true) (P:∀u∈AW x,u.oneCell'=true):
  Calls prog 105 #[U o (Z fs) cap,X .i64 i,U (V ⟨l,0,Y⟩) 1 1] w λe s=>∃g cp,e=j4 (U (V ⟨g,0,Y⟩) (Z fs+1) cp)/\jG s base 104 2 (U (V ⟨g,0,Y⟩) (Z fs+1) cp) (Z fs+1) ((fs.take i++x::fs.drop i).flatMap AW)/\Ac (U o (Z fs) cap).ownBlock.toList w s/\((U o (Z fs) cap).ownBlock=V g\/w.heap.size<=g):=by
 have f:=Yu fs;have d:=Wp x;rw[Yr fs i x hi];by_cases FA:i=Z fs
 .subst FA;obtain⟨W,A2,Q,S,T⟩:=fC Tryz.zi;have p:Hid ((fs.flatMap AW).take (Z fs*2)++AW x++(fs.flatMap AW).drop (Z fs*2)=fs.flatMap AW++AW x):=by
   show _=_;rw[eu (by omega),fq (by omega),fh]
  have z:Hid (∀j u,(AW x)[j]?=V u->jF w ((⟨l,0,Y⟩:Addr).add j)=V u):=λj u hu=>by rw[il,fw,t.cell];exact hu
  have M:=Ab n;have A:=Ab P;clear t r;cases o with
  |none=>
   have A0:Z fs=0:=by
    rcases n.2 with⟨b,q⟩|⟨g,c,m,b,_⟩
    .exact q
    .simp at b
   have B0:cap=0:=by
    rcases n.2 with⟨b,q⟩|⟨g,c,m,b,_⟩
    .simp only[ei]at b;exact b.2.2
    .simp at b
   subst B0;have B2:fs=[]:=gB.1 A0;subst B2;clear n A0;simp only[fb,fF]at M p⊢;generalize AW x=xs at z A p d⊢;go_enter func105,ntmps105;go_wp2_with (at_builtin;refine eP _ rfl _ _ _ rfl base 104 W _ 2 40 underlying113 A2 Q S T rfl (by omega) (U Y 0 0) 0 [] rfl M ⟨l,0,Y⟩ 1 1 xs rfl (by omega) z A (by omega) (by unfold maxLen;omega) (by omega) D _ rfl ?_;intro H E w9 v F B FT)
   go_ret;rw[Aa p];refine⟨H,E,rfl,v,(Ac.refl _ w).grown F (λk C=>j5 (by rw[gR];exact C)),?_⟩;rcases B with h|h
   .exact j5 h
   .exact j6 (by omega)
  |some a=>
   obtain⟨ab,ao,FF⟩:=a;have EM:ao=0/\FF=Y:=by
    rcases n.2 with⟨b,q⟩|⟨g,c,m,b,_⟩
    .simp at b
    .simp only[ei,eD,fm]at b;exact b.1.2
   obtain⟨rfl,rfl⟩:=EM;have EX:Z fs<=cap/\cap<=maxLen:=by
    rcases n.2 with⟨b,q⟩|⟨g,c,m,b,_,_,r,h2,_⟩
    .simp at b
    .simp only[ei]at b;rw[b.2.2];exact⟨r,h2⟩
   obtain⟨Bx,y⟩:=EX;unfold maxLen at y;clear n;generalize AW x=xs at z A p d⊢;go_enter func105,ntmps105;go_wp2_with (at_builtin;refine eP _ rfl _ _ _ rfl base 104 W _ 2 40 underlying113 A2 Q S T rfl (by omega) (U (V ⟨ab,0,Y⟩) (Z fs) cap) (Z fs) (fs.flatMap AW) rfl M ⟨l,0,Y⟩ 1 1 xs rfl (by omega) z A (by omega) (by unfold maxLen;omega) (by omega) D _ rfl ?_;intro H E w9 v F B FT)
   all_goals
    go_ret;refine⟨H,E,rfl,(by first|(rw[Aa p];exact v)|(rw[<-fD,Aa p];exact v)),(Ac.refl _ w).grown F (λk C=>j5 (by rw[gR];exact C)),?_⟩;rcases B with h|h
    .exact j5 h
    .exact j6 (by omega)
 .have AB:i<Z fs:=by omega
  rcases n.2 with⟨b,q⟩|⟨g,c,m,b,hb,Go,Bx,y,FL,CC⟩
  .omega
  .simp only[ei]at b;obtain⟨rfl,_,rfl⟩:=b;(have CL:l≠g:=λe=>BS (by simp[jN,e]));(have N:AI w g m.toList 104:=by unfold AI;simpa using Go);(have Ax:Z m.toList=cap*2:=by simpa using FL);have L:m.toList.take (Z fs*2)=fs.flatMap AW:=CC;by_cases R:Z fs+1<=cap
   .refine(V9 g (Z fs) cap i l (fs.flatMap AW) m.toList (AW x) w AB R (by unfold maxLen at y;omega) CL f d N Ax L t r P).mono ?_;rintro e s ⟨rfl,rfl⟩;have I:=(N.drew.setCells ((fs.flatMap AW).drop (i*2)) ((i+1)*2)).setCells (AW x) (i*2);refine⟨g,cap,rfl,⟨?_,j6 ⟨g,cap,_,rfl,hb,I,R,y,?_,?_⟩⟩,?_,j5 rfl⟩
    .simp only[eJ,ft,fz,f,d];omega
    .simp only[fU,Dr];omega
    .exact Zx L f d hi (by omega)
    .exact Ac.setCells (by simp[jN]) _ _ (Ac.setCells (by simp[jN]) _ _ (Ac.refl _ w).drew)
   .refine(X4 g (Z fs) cap i l (fs.flatMap AW) m.toList (AW x) w AB Bx (by omega) E0 f d N Ax L t r P).mono ?_;rintro e s ⟨AT,G,Ha,FO,BT,FB,rfl,rfl⟩;have I:=((AI.new w AT 104).drew.setCells (AW x) (i*2)).drew.setCells ((fs.flatMap AW).drop (i*2)) ((i+1)*2);(have hd:Z ((fs.flatMap AW).drop (i*2))=(Z fs-i)*2:=by rw[fz,f];omega);refine⟨w.heap.size,G,rfl,⟨?_,j6 ⟨w.heap.size,G,_,rfl,D,I,FO,BT,?_,?_⟩⟩,?_,j6 (eM _)⟩
    .simp only[eJ,ft,fz,f,d];omega
    .simp only[fU,Dr];omega
    .rw[GW _ _ _ (by rw[Dr,hd];omega),GW _ _ _ (by rw[d];omega),FB];have e1:(List.take (i*2) (fs.flatMap AW)++AW x++List.drop (i*2+Z (AW x)) AT).take ((i+1)*2)=List.take (i*2) (fs.flatMap AW)++AW x:=by
      rw[fB (by simp only[eJ,ft,f,d];omega),eu (by simp only[eJ,ft,f,d];omega)]
     rw[e1,fB (by simp only[eJ,ft,fz,f,d];omega),eu (by simp only[eJ,ft,fz,f,d];omega)]
    .exact Ac.setCells (j6 (eM _)) _ _ (Ac.setCells (j6 (eM _)) _ _ ((Ac.refl _ w).alloc _).drew).drew
def A5{w:j7}{i o h e p m s u:Nat}{v1 f:j8}{t r:List j8}(n:jG w i h p v1 s t)(k:jG w o e m f u r)(j:h≠e)(q:Nat)(a:v1.ownBlock=V q):f.ownBlock≠V q:=λd=>by
 rcases n.2 with⟨rfl,_⟩|⟨g,c,x,rfl,_,l,_⟩
 .simp[jN]at a
 .rcases k.2 with⟨rfl,_⟩|⟨v,y,z,rfl,_,b,_⟩
  .simp[jN]at d
  .simp only[jN,eD]at a d;subst a;subst d;rw[l]at b;simp only[eD,Obj.cells.injEq]at b;exact j b.2.1
def Ap{w:j7}{f e k i:Nat}{v1:j8}{l:List j8}{b:Nat}{cs:List j8}{t:TypeId}(j:jG w f e k v1 i l)(a:AI w b cs t)(h:e≠t):v1.ownBlock≠V b:=λd=>by
 rcases j.2 with⟨rfl,_⟩|⟨g,c,n,rfl,_,m,_⟩
 .simp[jN]at d
 .simp only[jN,eD]at d;subst d;unfold AI at a;rw[m]at a;simp only[eD,Obj.cells.injEq]at a;exact h a.2.1
def aO{w:j7}{p:Fe}(h:DL w p):∀u∈AW p,u.oneCell'=true:=by
 obtain⟨c,b,e⟩:=Ak h;intro u a;simp only[AW,ey,fP,or_false]at a;rcases a with rfl|rfl
 .rfl
 .rw[e];rfl
def Lx.one{w:j7}{d:j8}{fs:List Fe}(h:Lx w d fs):∀u∈fs.flatMap AW,u.oneCell'=true:=λu b=>by
 obtain⟨p,a,c⟩:=fA.1 b;exact aO (h.each p a).1 u c
def Lg(fs:List Fe)(x:Fe)(p:Nat):List Fe:=if Eh fs x.f p then fs else fs.take p++x::fs.drop p
structure Sl(sb so:Nat)(cells:List j8)(ty:TypeId)(sv:j8)(fs:List Fe)(x:Fe)(w w':j7):Prop where
 out:∃(p:Nat) (ad:Option Addr) (cp:Nat),F6 fs x.f p/\AI w' sb (cells.set so (U ad (Z (Lg fs x p)) cp)) ty/\Lx w' (U ad (Z (Lg fs x p)) cp) (Lg fs x p)/\∀q,(U ad (Z (Lg fs x p)) cp).ownBlock=V q->sv.ownBlock=V q\/w.heap.size<=q
 kept:Ac (sb::sv.ownBlock.toList) w w'
theorem PQ(d a:Nat)(D:List j8)(G:TypeId)(c:Option Addr)(b:Nat)(fs:List Fe)(x:Fe)(w:j7)(S:AI w d D G)(Ax:D[a]?=V (U c (Z fs) b))(CC:104≠G)(HQ:170≠G)(h:Lx w (U c (Z fs) b) fs)(M:DL w x)(AT:Z x.f.zB<=1000)(HW:Z fs<=900000)(FW:∀i j (W:i<Z fs) (hj:j<Z fs),i<=j->Cx fs[j].f x.f<0->Cx fs[i].f x.f<0):
  Calls prog 61 #[.pointer (V ⟨d,a,Y⟩),.agg (j2 (AW x))] w λe o=>e=j4 (.tuple #[])/\Sl d a D G (U c (Z fs) b) fs x w o:=by
 have H7:=S.lt;have AB:Hid (∀wr,Ac [] w wr->Calls prog 103 #[U c (Z fs) b,.agg (j2 (AW x)),.func (.func 104) #[] #[]] wr λe o=>∃p:Nat,e=j4 (.tuple #[X .i64 p,.bool (Eh fs x.f p)])/\F6 fs x.f p/\Ac [] wr o):=λwr hk=>JM c b fs x wr (h.kept hk) (M.kept hk) AT (by omega) FW
 have HB:=Ab S;have HP:=Ab h;have HX:=Ab M;have HS:=Ab AT;obtain⟨l,m,FC⟩:=Ak M;obtain⟨s,H9,P⟩:∃n v,AW x=[O n,v]/\v=U l (Z x.f.zB) m:=⟨_,_,rfl,FC⟩;obtain⟨P,rfl⟩:=P;have B2:=Ab P;generalize Z x.f.zB=xl at B2;rw[Aa B2]at AB⊢;clear P FC;have hK:=(Ac.refl [] w).alloc (j1 [O s,U l xl m].toArray 104);have c0:=(S.alloc (j1 [O s,U l xl m].toArray 104)).cell a;rw[Ax]at c0;have FO:=Ab Ax;have HF:Hid (D.set a (U c (Z fs) b)=D):=by
  show _=_;obtain⟨HZ,e⟩:=ir.1 Ax;rw[<-e,List.set_getElem_self]
 clear Ax;have E:=AI.new w [O s,U l xl m] 104;have R:=Ab hK;clear h M AT FW hK S;go_enter func61,ntmps61;go_wp2_with fail
 change Code.wp _ _ _ _ (w.alloc (j1 [O s,U l xl m].toArray 104));generalize w.alloc (j1 [O s,U l xl m].toArray 104)=w1 at R c0 E⊢;obtain⟨N,BT⟩:∃N,w.heap.size=N:=⟨_,rfl⟩;rw[BT]at E⊢;have H8:=Ab BT;clear BT;have x0:=E.cell 0;have x1:=E.cell 1;simp at x0 x1;have HN:=Ab E;have EM:=Ab (AB w1.drew R.drew);clear AB E
 go_region_law (go_simp;go_at_call 103;refine EM.mono ?_;rintro e k ⟨p,rfl,hcut,k3⟩;have C:=Ab hcut;have A:=Ab (R.drew.trans k3);have Q:=Ab (HN.drew.kept k3 (by simp));clear hcut k3)
 all_goals
  clear EM c0 x0 x1;have t:=Ab (HP.kept A);have H:=Ab (HB.kept A (by simp));have FB:=Ab (HX.kept A);obtain⟨HT,A2⟩:∃HT,Eh fs x.f p=HT:=⟨_,rfl⟩;have A1:=Ab A2;rw[A2];clear A2;have H6:=A.size;cases HT with
  |true=>
   (have u:Hid (Lg fs x p=fs):=by show _=_;unfold Lg;rw[Aa A1,eI rfl]);go_wp2;go_end0;refine⟨rfl,⟨p,c,b,C,?_,?_,?_⟩,A.mono (by simp)⟩
   .rw[Aa u,Aa HF];exact H
   .rw[Aa u];exact t
   .rw[Aa u];exact λq B=>j5 B
  |false=>
   (have u:Hid (Lg fs x p=fs.take p++x::fs.drop p):=by show _=_;unfold Lg;rw[Aa A1,eE (by simp)]);have F:Hid (Z (fs.take p++x::fs.drop p)=Z fs+1):=by
    show _=_;have:=C.le;simp only[eJ,ft,eF,fz];omega
   have HA:Hid (∀z,(z=(k.drew).alloc (j1 #[O s,U l xl m] 104)\/z=(k.alloc (j1 #[O s,U l xl m] 104)).drew)->Calls prog 105 #[U c (Z fs) b,X .i64 p,U (V ⟨k.heap.size,0,Y⟩) 1 1] z λe o=>∃g y,e=j4 (U (V ⟨g,0,Y⟩) (Z fs+1) y)/\jF o ⟨d,a,Y⟩=V (U c (Z fs) b)/\o.frozen? ⟨d,a,Y⟩=false/\Sl d a D G (U c (Z fs) b) fs x w (o.setCell ⟨d,a,Y⟩ (U (V ⟨g,0,Y⟩) (Z fs+1) y))):=by
    intro z EY;have I:Ac [] k z:=by
     rcases EY with rfl|rfl
     .exact(Ac.refl [] k).drew.alloc _
     .exact((Ac.refl [] k).alloc _).drew
    have HV:AI z k.heap.size (AW x) 104:=by
     rw[Aa B2];rcases EY with rfl|rfl
     .exact AI.new k.drew [O s,U l xl m] 104
     .exact(AI.new k [O s,U l xl m] 104).drew
    have T:=t.kept I;(have HD:(U c (Z fs) b).ownBlock≠V k.heap.size:=λe=>by have:=(t.row.lt _ e).2;omega);refine(S5 c b fs p x 0 k.heap.size z T.row (by omega) C.le HV HD (eV _) T.one (aO HX)).mono ?_;rintro e o ⟨g,y,rfl,FP,AH,hg⟩;have EK:=H.kept I (by simp);(have HU:d∉(U c (Z fs) b).ownBlock.toList:=λhm=>Ap T.row EK CC (by simpa using hm));have L:=EK.kept AH HU;have FA:=L.cell a;rw[Aa FO]at FA;have HG:Ac (d::(U c (Z fs) b).ownBlock.toList) w o:=((A.trans I).mono (by simp)).trans (AH.mono (λi W=>fu _ W));have HJ:(U (V ⟨g,0,Y⟩) (Z fs+1) y).ownBlock≠V d:=Ap FP L CC;have HM:=Ag FP (p:=⟨d,a,Y⟩) HJ (U (V ⟨g,0,Y⟩) (Z fs+1) y);refine⟨g,y,rfl,FA,L.frozen a,⟨p,V ⟨g,0,Y⟩,y,C,?_,?_,?_⟩,HG.setCell (p:=⟨d,a,Y⟩) (j5 (fI ..)) _⟩
    .rw[Aa u,Aa F];exact L.set a _
    .rw[Aa u,Aa F];refine⟨by rw[Aa F];exact HM,λq B=>?_⟩;have E0:DL k q/\Z q.f.zB<=1000:=by
      rcases eG.1 B with r|r
      .exact⟨(t.each q (fR r)).1,(t.each q (fR r)).2⟩
      .rcases ey.1 r with rfl|r
       .exact⟨FB,HS⟩
       .exact⟨(t.each q (iy r)).1,(t.each q (iy r)).2⟩
     have B9:=E0.1.kept I;have FL:jG o 0 170 1 q.tv (Z q.f.zB) (q.f.zB.flatMap Ah):=Al B9 AH (λi W hm=>A5 B9 T.row (by decide) i W (by simpa using hm));exact⟨Ag FL (p:=⟨d,a,Y⟩) (Ap FL L HQ) _,E0.2⟩
    .rw[Aa u,Aa F];intro q B;simp only[jN,eD]at B;rcases hg with r|r
     .exact j5 (by rw[<-B];exact r)
     .exact j6 (by have:=I.size;omega)
   have y0:=H.cell a;rw[Aa FO]at y0;have z0:=Q.cell 0;have z1:=Q.cell 1;simp at z0 z1;have H5:=C.le;have H1:=Q.lt;have H2:d<k.heap.size:=H.lt;clear HP HB HX R HN t H FB C u F A1 Q;go_wp2_with fail
   go_region_law (go_simp;go_at_call 105;refine(HA _ (by first|exact j5 rfl|exact j6 rfl)).mono ?_;rintro e w4 ⟨g,y,rfl,H4,H0,CL⟩;have HI:=Ab CL;clear CL)
   all_goals
    clear HA;go_wp2;go_end0;exact⟨rfl,HI⟩
