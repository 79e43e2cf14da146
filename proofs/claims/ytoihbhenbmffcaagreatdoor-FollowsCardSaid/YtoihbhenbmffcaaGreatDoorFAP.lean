import Derived.Deep.OwnRows
import Derived.Test.YtoihbhenbmffcaaGreatDoorFAO
set_option linter.all false
set_option maxHeartbeats 0
open List renaming length->Z,toArray->ml,replicate->pG
open Option renaming none->Y,some->V
open Go.Value renaming slice->U,int->X,string->O,pointer->m2,agg->pC,bool->pE,ownBlock->pI
open Bool renaming false->K,true->jj
open Go.IntKind renaming i64->J,i32->pD
open Go.Obj renaming cells->j3
open Go.Ending renaming returned->oa
open Or renaming inl->oi,inr->oj
open Go renaming World->py,Value->p5
open Go.RowKit renaming Hid->p7
open Go.World renaming cell?->p8,ownsRow->p9
open Prod renaming fst->pH
namespace Go.Proofs.YtoihbhenbmffcaaGreatDoor
open Go.RowKit Go.Proofs.Tryz
variable{P:Program}{n i m k b:Nat}{w u:py}{y x:pM p5}{T:TypeId}{z:p5}{a:Act}{Q:Exit->Act->py->Prop}
theorem Tryz.zj:(Tryz.prog.info? 104).map (λi=>(i.zero,i.size,i.bytes))=V (V (pC #[O ⟨#[]⟩,U Y 0 0]),2,40):=by kernel_rfl
def Gm(w:py)(k p u d:TypeId)(f:Nat)(b o e l:Nat)(a:Addr)(g t:Nat)(c:pM p5)
  (s:P.underlying k=V (.slice d)) (h:(P.info? d).map (·.size)=V f) (y:Z c=Nat.min g e*f)
  (A:∀j v,c[j]?=V v->p8 w (a.add j)=V v) (z:∀j,j<Z c->(p8 w ⟨b,o+j,Y⟩).isSome=jj) (q:∀j,j<Z c->w.frozen? ⟨b,o+j,Y⟩=K) (n:∀v∈c,v.oneCell'=jj):
  (Builtin.copy_ #[k,p] u #[U (V ⟨b,o,Y⟩) e l,U (V a) g t]).run P w=.ok (goInt (Nat.min g e)) (w.setCells b o c):=by
 have r:=run_loadCells_list (P:=P) w a c A;have m:=run_storeCells_cells (P:=P) b o c 0 w (by simpa using z) (by simpa using q) n;cases hq:P.info? d with
 |none=>simp[hq]at h
 |some i=>
  have x:i.size=f:=by simpa[hq] using h
  simp[Builtin.copy_,run_underlying s,Builtin.lenOf,Builtin.firstCells,sizeOf,typeInfo,hq,x,<-y,r,m]
set_option maxRecDepth 100000
theorem Zg(g n c i d:Nat)(b r l:pM p5)(w:py)(hi:i<n)(A2:n+1<=c)(A1:c<=9223372036854775807)(C:d≠g)
  (P:Z b=n*2) (s:Z l=2) (o:AF w g r 104) (F:Z r=c*2) (B:r.take (n*2)=b) (q:AF w d l 104) (AB:∀v∈b,v.oneCell'=jj) (W:∀v∈l,v.oneCell'=jj):
  Calls prog 105 #[U (V ⟨g,0,Y⟩) n c,X J i,U (V ⟨d,0,Y⟩) 1 1] w λe S=>
   e=oa (U (V ⟨g,0,Y⟩) (n+1) c)/\S=(w.drew.setCells g ((i+1)*2) (b.drop (i*2))).setCells g (i*2) l:=by
 obtain⟨i0,R,A0,L,DT⟩:=mg Tryz.zj;have E:(prog.info? 104).map (·.size)=V 2:=by rw[R];simp[L]
 have AT:∀w,(Go.sizeOf 104).run prog w=.ok 2 w:=λw=>by simp[sizeOf,typeInfo,R,L]
 have N:∀j,j<(n+1)*2->(p8 w ⟨g,j,Y⟩).isSome=jj:=λj a=>o.some j (by omega)
 have Q:∀j,w.frozen? ⟨g,j,Y⟩=K:=λj=>o.frozen j
 have G:∀j v,b[j]?=V v->p8 w ⟨g,j,Y⟩=V v:=λj v a=>by
  rw[o.cell];rw[<-B,m6]at a;split at a
  .exact a
  .cases a
 have Ax:∀x u,(callFunc 152 #[U (V ⟨d,0,Y⟩) 1 1,U (V ⟨g,(i+1)*2,Y⟩) x u]).run prog w=.ok (.value (pE K)) w:=λx u=>by
  rw[oT func152 (by kernel_rfl) (by kernel_rfl) (by kernel_rfl) (e:=Extern.SlicesOverlaps.overlaps #[113,113] #[4]) (by kernel_rfl),
   Lib.run_overlaps_apart w 113 4 104 underlying113 2 AT ⟨d,0,Y⟩ ⟨g,(i+1)*2,Y⟩ 1 1 x u C 104 104 2 (c*2) (by rw[<-s];exact q.shape) (by rw[<-F];exact o.shape) (by omega) (q.frozen 0) (q.frozen 2)]
  rfl
 have H:Z (b.drop (i*2))=(n-i)*2:=by rw[mf,P];omega
 have I:Nat.min (n+1-i) (n-i)=n-i:=by simp only[pj];split<;>omega
 have A:∀m f y,(Builtin.copy_ #[113,113] m #[U (V ⟨g,(i+1)*2,Y⟩) (n-i) f,U (V ⟨g,i*2,Y⟩) (n+1-i) y]).run prog w.drew=.ok (goInt ((n-i:Nat):Int)) (w.drew.setCells g ((i+1)*2) (b.drop (i*2))):=λm f y=>by
  have h:=Gm w.drew 113 113 m 104 2 g ((i+1)*2) (n-i) f ⟨g,i*2,Y⟩ (n+1-i) y (b.drop (i*2)) underlying113 E (by rw[H,I])
   (λj v a=>by rw[nu];exact G (i*2+j) v (by rwa [oI]at a))
   (λj a=>N _ (by omega)) (λj a=>Q _) (λv hv=>AB v (nX hv))
  rw[I]at h;exact h
 obtain⟨k,p⟩:∃k,k=w.drew.setCells g ((i+1)*2) (b.drop (i*2)):=⟨_,rfl⟩;have t:AF k g (Ps r ((i+1)*2) (b.drop (i*2))) 104:=by rw[p];exact o.drew.setCells _ _
 have z:AF k d l 104:=by rw[p];exact q.drew.kept (Ac.setCells (M:=[g]) (by simp) _ _ (pO _ _)) (by simpa using C)
 have D:Nat.min 1 (n+1-i)=1:=by simp only[pj];split<;>omega
 have T:∀m f,(Builtin.copy_ #[113,113] m #[U (V ⟨g,i*2,Y⟩) (n+1-i) f,U (V ⟨d,0,Y⟩) 1 1]).run prog k=.ok (goInt 1) (k.setCells g (i*2) l):=λm f=>by
  have h:=Gm k 113 113 m 104 2 g (i*2) (n+1-i) f ⟨d,0,Y⟩ 1 1 l underlying113 E (by rw[D,s])
   (λj v a=>by rw[nu,me,z.cell];exact a)
   (λj a=>t.some _ (by rw[DY];omega)) (λj a=>t.frozen _) W
  rw[D]at h;exact h
 rw[<-p]at A;have B0:IntKind.i64.wrap ((i:Int)+1)=(i:Int)+1:=by rw[nB];omega
 have BA:¬((i:Int)=(n:Int)):=by omega
 have CL:(0:Int)<=(i:Int)+1:=by omega
 have BT:i<=n:=by omega
 have Bx:((i:Int)+1).toNat=i+1:=by omega
 have B2:¬(c=i+1):=by omega
 have EK:(i:Int)<=(n:Int)+1:=by omega
 have CC:¬(c=i):=by omega
 have mixed:prog.follows Departure.mixedOrders=jj:=by kernel_rfl
 have AH:=Ab p;clear o q t z G N Q p H P F B s;go_enter func105,ntmps105;go_wp2_with (simp only[Ax])
 go_region_law_o (refine step_copy_runI rfl _ _ 113 113 rfl _ _ (by simp[Act.eval,Act.put]) (by simp[Act.eval,Act.put]) (A _ _ _) ?_)
 go_wp2_with (at_builtin;refine wpList_copy_runI _ rfl _ _ 113 113 rfl _ _ rfl rfl (T _ _) ?_)
 go_ret;exact⟨rfl,by rw[Aa AH]⟩
theorem bJ(g n c i o:Nat)(f t d:pM p5)(w:py)(hi:i<n)(HA:n<=c)(EM:c<n+1)(HE:n<=1000000)
  (A2:Z f=n*2) (I:Z d=2) (y:AF w g t 104) (FB:Z t=c*2) (A:t.take (n*2)=f) (H:AF w o d 104) (FA:∀v∈f,v.oneCell'=jj) (EK:∀v∈d,v.oneCell'=jj):
  Calls prog 105 #[U (V ⟨g,0,Y⟩) n c,X J i,U (V ⟨o,0,Y⟩) 1 1] w λe w'=>
   ∃(a:pM p5) (G:Nat),Z a=G*2/\n+1<=G/\G<=maxLen/\a.take (i*2)=f.take (i*2)/\e=oa (U (V ⟨w.heap.size,0,Y⟩) (n+1) G)/\
   w'=(((w.alloc (j3 (ml a) 104)).drew.setCells w.heap.size (i*2) d).drew).setCells w.heap.size ((i+1)*2) (f.drop (i*2)):=by
 obtain⟨i0,BT,CC,AT,Bx⟩:=mg Tryz.zj;have mixed:prog.follows Departure.mixedOrders=jj:=by kernel_rfl
 have T:(prog.info? 104).map (·.size)=V 2:=by rw[BT];simp[AT]
 have FP:=y.lt;have FO:=H.lt;have P:(n:Int)+1-(i:Int)=((n+1-i:Nat):Int):=by omega
 have D:i+(n+1-i)=n+1:=by omega
 have AH:∀j v,f[j]?=V v->p8 w ⟨g,j,Y⟩=V v:=λj v b=>by
  rw[y.cell];rw[<-A,m6]at b;split at b
  .exact b
  .cases b
 have R:(Builtin.firstCells i0.size i (U (V ⟨g,0,Y⟩) i c)).run prog w.drew=.ok (ml (f.take (i*2))) w.drew:=by
  rw[AT];exact run_firstCells_some w.drew 2 i ⟨g,0,Y⟩ i c (f.take (i*2)) (by rw[l9];omega) (λj v b=>by
   rw[nu,me]
   rw[m6]at b
   split at b
   .exact AH j v b
   .cases b)
 obtain⟨m,C⟩:∃m:Array p5,(pC #[O ⟨#[]⟩,U Y 0 0]).cells=m:=⟨_,rfl⟩;have A0:m.size=2:=by rw[<-C];rfl
 have s:∀k,(Builtin.append_ #[113,3] k #[U (V ⟨g,0,Y⟩) i c,X J ((n:Int)+1-(i:Int))]).run prog w=
   .ok (U (V ⟨w.heap.size,0,Y⟩) (n+1) (grownCap w (n+1) c 104)) (w.drew.alloc (j3 (ml (f.take (i*2))++Builtin.zeroCells m (n+1-i)++Builtin.zeroCells m (grownCap w (n+1) c 104-(n+1))) 104)):=λk=>by
  have h:=Lib.run_append_grow_zeros w 113 3 k 104 i0 _ J J underlying113 underlying3 BT CC (V ⟨g,0,Y⟩) i c (f.take (i*2)) R (n+1-i) (by omega) (by omega) (by omega) (by omega) (by rw[Bx];omega) (by rw[Bx,D];exact growslice_fits EM (by omega));rw[D,C]at h;rw[P];exact h
 obtain⟨G,u⟩:∃G,G=grownCap w (n+1) c 104:=⟨_,rfl⟩;obtain⟨a,r⟩:∃a:pM p5,ml a=ml (f.take (i*2))++Builtin.zeroCells m (n+1-i)++Builtin.zeroCells m (G-(n+1)):=⟨_,Array.toArray_toList⟩;rw[<-u]at s;rw[<-r]at s;have FC:n+1<=G:=by rw[u];exact grownCap_ge w _ _ _
 have B:G<=maxLen:=by rw[u];exact grownCap_le_maxLen w (n+1) c 104 (by unfold maxLen;omega)
 have B0:Z a=G*2:=by
  have:=congrArg Array.size r;simp[Builtin.zeroCells,A0]at this;omega
 have AB:a.take (i*2)=f.take (i*2):=by
  have h:=congrArg Array.toList r;simp only[Array.toList_append,mo]at h;rw[h,mn (by simp;omega)];simp[oE]
 obtain⟨N,hN⟩:=pN w.heap.size;have q:AF (w.drew.alloc (j3 (ml a) 104)) N a 104:=by rw[<-hN];exact pP w.drew a 104
 have Q:AF (w.drew.alloc (j3 (ml a) 104)) o d 104:=H.drew.alloc _;have S:Nat.min 1 (n+1-i)=1:=by simp only[pj];split<;>omega
 have EX:∀(W:py),(∀x,p8 W x=p8 (w.drew.alloc (j3 (ml a) 104)) x)->(∀x,W.frozen? x=(w.drew.alloc (j3 (ml a) 104)).frozen? x)->∀k l,(Builtin.copy_ #[113,113] k #[U (V ⟨N,i*2,Y⟩) (n+1-i) l,U (V ⟨o,0,Y⟩) 1 1]).run prog W=.ok (goInt 1) (W.setCells N (i*2) d):=λW p E k l=>by
  have h:=Gm W 113 113 k 104 2 N (i*2) (n+1-i) l ⟨o,0,Y⟩ 1 1 d underlying113 T (by rw[S,I])
   (λj v b=>by rw[nu,me,p,Q.cell];exact b)
   (λj b=>by rw[p];exact q.some _ (by omega)) (λj b=>by rw[E];exact q.frozen _) EK
  rw[S]at h;exact h
 have z:AF ((w.drew.alloc (j3 (ml a) 104)).setCells N (i*2) d) N (Ps a (i*2) d) 104:=q.setCells _ _;have L:AF ((w.drew.alloc (j3 (ml a) 104)).setCells N (i*2) d) g t 104:=(y.drew.alloc _).kept (Ac.setCells (M:=[N]) (by simp) _ _ (pO _ _)) (by simp;omega);have AO:Z (f.drop (i*2))=(n-i)*2:=by rw[mf,A2];omega
 have A1:Nat.min (n-i) (n-i)=n-i:=Nat.min_self _;have BA:∀(W:py),(∀x,p8 W x=p8 ((w.drew.alloc (j3 (ml a) 104)).setCells N (i*2) d) x)->(∀x,W.frozen? x=((w.drew.alloc (j3 (ml a) 104)).setCells N (i*2) d).frozen? x)->∀k l F,(Builtin.copy_ #[113,113] k #[U (V ⟨N,(i+1)*2,Y⟩) (n-i) l,U (V ⟨g,i*2,Y⟩) (n-i) F]).run prog W=.ok (goInt ((n-i:Nat):Int)) (W.setCells N ((i+1)*2) (f.drop (i*2))):=λW p E k l F=>by
  have h:=Gm W 113 113 k 104 2 N ((i+1)*2) (n-i) l ⟨g,i*2,Y⟩ (n-i) F (f.drop (i*2)) underlying113 T (by rw[AO,A1])
   (λj v b=>by
    rw[nu,p,L.cell]
    rw[oI,<-A,m6]at b
    split at b
    .exact b
    .cases b)
   (λj b=>by rw[p];exact z.some _ (by rw[DY];omega))
   (λj b=>by rw[E];exact z.frozen _) (λv hv=>FA v (nX hv))
  rw[A1]at h;exact h
 have DT:∀x,p8 ((w.alloc (j3 (ml a) 104)).drew) x=p8 (w.drew.alloc (j3 (ml a) 104)) x:=λx=>rfl
 have FF:∀x,((w.alloc (j3 (ml a) 104)).drew).frozen? x=(w.drew.alloc (j3 (ml a) 104)).frozen? x:=λx=>rfl
 have E0:∀x,p8 (((w.alloc (j3 (ml a) 104)).drew.setCells N (i*2) d).drew) x=p8 ((w.drew.alloc (j3 (ml a) 104)).setCells N (i*2) d) x:=λx=>rfl
 have ES:∀x,(((w.alloc (j3 (ml a) 104)).drew.setCells N (i*2) d).drew).frozen? x=((w.drew.alloc (j3 (ml a) 104)).setCells N (i*2) d).frozen? x:=λx=>rfl
 have HC:IntKind.i64.wrap ((i:Int)+1)=(i:Int)+1:=by rw[nB];omega
 have Go:¬((i:Int)=(n:Int)):=by omega
 have HG:(c:Int)<(n:Int)+1:=by omega
 have HI:(0:Int)<=(i:Int)+1:=by omega
 have Ha:i<=n:=by omega
 have FT:((i:Int)+1).toNat=i+1:=by omega
 have HJ:(i:Int)<=(n:Int):=by omega
 have HH:¬(G=i):=by omega
 have FW:¬(G=i+1):=by omega
 have HD:¬(c=i):=by omega
 have HB:G<=9223372036854775807:=by unfold maxLen at B;omega
 have B2:=Ab B0;have CL:=Ab AB;have EY:=Ab B;rw[hN]at s⊢;clear P D R r u B0 AB B y H q Q z L AH AO A2 FB A I A0 C;go_enter func105,ntmps105;go_wp2_with (first
  |(at_builtin;refine Lib.wpList_append_run _ rfl _ _ _ _ rfl _ _ rfl rfl _ _ (s _) ?_)
  |(at_builtin;refine wpList_copy_runI _ rfl _ _ 113 113 rfl _ _ rfl rfl (EX _ DT FF _ _) ?_)
  |(at_builtin;refine wpList_copy_runI _ rfl _ _ 113 113 rfl _ _ rfl rfl (BA _ (λ_=>rfl) (λ_=>rfl) _ _ _) ?_))
 go_region_law_o (refine step_copy_runI rfl _ _ 113 113 rfl (U (V ⟨N,(i+1)*2,Y⟩) (n-i) (G-(i+1))) (U (V ⟨g,i*2,Y⟩) (n-i) (c-i)) (by simp[Act.eval,Act.put]) (by simp[Act.eval,Act.put]) (BA _ E0 ES 3 (G-(i+1)) (c-i)) ?_)
 go_wp2;go_ret;exact⟨a,G,B2,FC,EY,CL,rfl,rfl⟩
def Tx{α:Type}(f:α->pM p5)(a:Nat):∀(l:pM α) (i:Nat),(∀x∈l,Z (f x)=a)->i<=Z l->(l.take i).flatMap f=(l.flatMap f).take (i*a)/\(l.drop i).flatMap f=(l.flatMap f).drop (i*a)
 |l,0,_,_=>by simp
 |[],i+1,_,h=>by simp at h
 |x::l,i+1,hl,h=>by
  have ih:=Tx f a l i (λy b=>hl y (lY _ b)) (by simpa using h);have c:=hl x (mz ..);simp only[nQ,om,lF,ih.1,ih.2];have e:(i+1)*a=Z (f x)+i*a:=by rw[c,nA];omega
  rw[e];exact⟨by rw[List.take_length_add_append],by rw[List.drop_length_add_append]⟩
def dP{b a c:pM p5}(q:b.take (n*m)=a)(k:Z a=n*m)(e:Z c=m)(p:i<=n)(o:(n+1)*m<=Z b):
  (Ps (Ps b ((i+1)*m) (a.drop (i*m))) (i*m) c).take ((n+1)*m)=a.take (i*m)++c++a.drop (i*m):=by
 have g:(i+1)*m=i*m+m:=by rw[nA];omega
 have f:(n+1)*m=n*m+m:=by rw[nA];omega
 have l:i*m<=n*m:=mh _ p;rw[f]at o;rw[g,f];generalize i*m=I at*;generalize n*m=M at*;have d:Z (a.drop I)=M-I:=by rw[mf,k]
 rw[Ir c _ I (by rw[DY];omega),Ir (a.drop I) b (I+m) (by rw[d];omega)];have h:(b.take (I+m)++a.drop I++b.drop (I+m+Z (a.drop I))).take I=a.take I:=by
  rw[mo,mn (by simp;omega),oE,nU (by omega),<-q,oE,nU l]
 have j:(b.take (I+m)++a.drop I++b.drop (I+m+Z (a.drop I))).drop (I+Z c)=a.drop I++b.drop (I+m+Z (a.drop I)):=by
  rw[e,mo,List.drop_append_of_le_length (by simp;omega),List.drop_of_length_le (by simp;omega),mw]
 rw[h,j,<-mo,mn (by simp[d,e];omega),kX (by simp[d,e];omega)]
def Zw(p:Fa):Z (A6 p)=2:=rfl
def ck(a:pM Fa)(i:Nat)(x:Fa)(b:i<=Z a):(a.take i++x::a.drop i).flatMap A6=(a.flatMap A6).take (i*2)++A6 x++(a.flatMap A6).drop (i*2):=by
 have h:=Tx A6 2 a i (λp _=>Zw p) b;rw[lM,lF,h.1,h.2,mo]
def cu(a:pM Fa):Z (a.flatMap A6)=Z a*2:=by
 induction a with
 |nil=>rfl
 |cons p a ih=>simp only[lF,lu,ih,Zw,lj];omega
theorem VP(q:Option Addr)(f:Nat)(b:pM Fa)(i:Nat)(x:Fa)(t n:Nat)(w:py)(p:p9 w t 104 2 (U q (Z b) f) (Z b) (b.flatMap A6))(FA:Z b<=1000000)(hi:i<=Z b)(C:AF w n (A6 x) 104)(B0:(U q (Z b) f).ownBlock≠V n)(H:t<=w.heap.size)
  (v:∀u∈b.flatMap A6,u.oneCell'=jj) (N:∀u∈A6 x,u.oneCell'=jj):
  Calls prog 105 #[U q (Z b) f,X J i,U (V ⟨n,0,Y⟩) 1 1] w λe y=>∃g cp,e=oa (U (V ⟨g,0,Y⟩) (Z b+1) cp)/\p9 y t 104 2 (U (V ⟨g,0,Y⟩) (Z b+1) cp) (Z b+1) ((b.take i++x::b.drop i).flatMap A6)/\Ac (U q (Z b) f).ownBlock.toList w y/\((U q (Z b) f).ownBlock=V g\/w.heap.size<=g):=by
 have m:=cu b;have l:=Zw x;rw[ck b i x hi];by_cases FB:i=Z b
 .subst FB;obtain⟨i0,BA,T,Ax,AH⟩:=mg Tryz.zj;have r:p7 ((b.flatMap A6).take (Z b*2)++A6 x++(b.flatMap A6).drop (Z b*2)=b.flatMap A6++A6 x):=by
   show _=_;rw[kX (by omega),lS (by omega),lU]
  have B:p7 (∀j u,(A6 x)[j]?=V u->p8 w ((⟨n,0,Y⟩:Addr).add j)=V u):=λj u hu=>by rw[nu,me,C.cell];exact hu
  have Q:=Ab p;have D:=Ab N;clear C v;cases q with
  |none=>
   have A2:Z b=0:=by
    rcases p.2 with⟨d,s⟩|⟨g,c,o,d,_⟩
    .exact s
    .simp at d
   have B9:f=0:=by
    rcases p.2 with⟨d,s⟩|⟨g,c,o,d,_⟩
    .simp only[kS]at d;exact d.2.2
    .simp at d
   subst B9;have CC:b=[]:=m4.1 A2;subst CC;clear p A2;simp only[lO,mx]at Q r⊢;generalize A6 x=xs at B D r l⊢;go_enter func105,ntmps105;go_wp2_with (at_builtin;refine lG _ rfl _ _ _ rfl t 104 i0 _ 2 40 underlying113 BA T Ax AH rfl (by omega) (U Y 0 0) 0 [] rfl Q ⟨n,0,Y⟩ 1 1 xs rfl (by omega) B D (by omega) (by unfold maxLen;omega) (by omega) H _ rfl ?_;intro M I w9 z L E FW)
   go_ret;rw[Aa r];refine⟨M,I,rfl,z,(pO _ w).grown L (λk F=>oi (by rw[nC];exact F)),?_⟩;rcases E with h|h
   .exact oi h
   .exact oj (by omega)
  |some a=>
   obtain⟨ab,ao,FL⟩:=a;have EX:ao=0/\FL=Y:=by
    rcases p.2 with⟨d,s⟩|⟨g,c,o,d,_⟩
    .simp at d
    .simp only[kS,ld,lW]at d;exact d.1.2
   obtain⟨rfl,rfl⟩:=EX;have EY:Z b<=f/\f<=maxLen:=by
    rcases p.2 with⟨d,s⟩|⟨g,c,o,d,_,_,v,h2,_⟩
    .simp at d
    .simp only[kS]at d;rw[d.2.2];exact⟨v,h2⟩
   obtain⟨BS,A⟩:=EY;unfold maxLen at A;clear p;generalize A6 x=xs at B D r l⊢;go_enter func105,ntmps105;go_wp2_with (at_builtin;refine lG _ rfl _ _ _ rfl t 104 i0 _ 2 40 underlying113 BA T Ax AH rfl (by omega) (U (V ⟨ab,0,Y⟩) (Z b) f) (Z b) (b.flatMap A6) rfl Q ⟨n,0,Y⟩ 1 1 xs rfl (by omega) B D (by omega) (by unfold maxLen;omega) (by omega) H _ rfl ?_;intro M I w9 z L E FW)
   all_goals
    go_ret;refine⟨M,I,rfl,(by first|(rw[Aa r];exact z)|(rw[<-mo,Aa r];exact z)),(pO _ w).grown L (λk F=>oi (by rw[nC];exact F)),?_⟩;rcases E with h|h
    .exact oi h
    .exact oj (by omega)
 .have AT:i<Z b:=by omega
  rcases p.2 with⟨d,s⟩|⟨g,c,o,d,hb,Ha,BS,A,FO,DT⟩
  .omega
  .simp only[kS]at d;obtain⟨rfl,_,rfl⟩:=d;(have EK:n≠g:=λe=>B0 (by simp[pI,e]));(have S:AF w g o.toList 104:=by unfold AF;simpa using Ha);(have AO:Z o.toList=f*2:=by simpa using FO);have R:o.toList.take (Z b*2)=b.flatMap A6:=DT;by_cases W:Z b+1<=f
   .refine(Zg g (Z b) f i n (b.flatMap A6) o.toList (A6 x) w AT W (by unfold maxLen at A;omega) EK m l S AO R C v N).mono ?_;rintro e y ⟨rfl,rfl⟩;have P:=(S.drew.setCells ((b.flatMap A6).drop (i*2)) ((i+1)*2)).setCells (A6 x) (i*2);refine⟨g,f,rfl,⟨?_,oj ⟨g,f,_,rfl,hb,P,W,A,?_,?_⟩⟩,?_,oi rfl⟩
    .simp only[lu,l9,mf,m,l];omega
    .simp only[mE,DY];omega
    .exact dP R m l hi (by omega)
    .exact Ac.setCells (by simp[pI]) _ _ (Ac.setCells (by simp[pI]) _ _ (pO _ w).drew)
   .refine(bJ g (Z b) f i n (b.flatMap A6) o.toList (A6 x) w AT BS (by omega) FA m l S AO R C v N).mono ?_;rintro e y ⟨A1,G,HA,FP,B2,FC,rfl,rfl⟩;have P:=((pP w A1 104).drew.setCells (A6 x) (i*2)).drew.setCells ((b.flatMap A6).drop (i*2)) ((i+1)*2);(have hd:Z ((b.flatMap A6).drop (i*2))=(Z b-i)*2:=by rw[mf,m];omega);refine⟨w.heap.size,G,rfl,⟨?_,oj ⟨w.heap.size,G,_,rfl,H,P,FP,B2,?_,?_⟩⟩,?_,oj (lC _)⟩
    .simp only[lu,l9,mf,m,l];omega
    .simp only[mE,DY];omega
    .rw[Ir _ _ _ (by rw[DY,hd];omega),Ir _ _ _ (by rw[l];omega),FC];have e1:(List.take (i*2) (b.flatMap A6)++A6 x++List.drop (i*2+Z (A6 x)) A1).take ((i+1)*2)=List.take (i*2) (b.flatMap A6)++A6 x:=by
      rw[mn (by simp only[lu,l9,m,l];omega),kX (by simp only[lu,l9,m,l];omega)]
     rw[e1,mn (by simp only[lu,l9,mf,m,l];omega),kX (by simp only[lu,l9,mf,m,l];omega)]
    .exact Ac.setCells (oj (lC _)) _ _ (Ac.setCells (oj (lC _)) _ _ ((pO _ w).alloc _).drew).drew
def Bc{i n e f s1 s2 l o:Nat}{v1 h:p5}(m:p9 w i e s1 v1 l y)(k:p9 w n f s2 h o x)(j:e≠f)(q:Nat)(a:v1.ownBlock=V q):h.ownBlock≠V q:=λd=>by
 rcases m.2 with⟨rfl,_⟩|⟨g,c,r,rfl,_,p,_⟩
 .simp[pI]at a
 .rcases k.2 with⟨rfl,_⟩|⟨t,s,u,rfl,_,b,_⟩
  .simp[pI]at d
  .simp only[pI,ld]at a d;subst a;subst d;rw[p]at b;simp only[ld,Obj.cells.injEq]at b;exact j b.2.1
def As{v1:p5}(f:p9 w n m k v1 i y)(a:AF w b x T)(e:m≠T):v1.ownBlock≠V b:=λd=>by
 rcases f.2 with⟨rfl,_⟩|⟨g,c,j,rfl,_,h,_⟩
 .simp[pI]at d
 .simp only[pI,ld]at d;subst d;unfold AF at a;rw[h]at a;simp only[ld,Obj.cells.injEq]at a;exact e a.2.1
def ft{p:Fa}(h:Ea w p):∀u∈A6 p,u.oneCell'=jj:=by
 obtain⟨c,b,e⟩:=Ak h;intro u a;simp only[A6,kZ,mr,or_false]at a;rcases a with rfl|rfl
 .rfl
 .rw[e];rfl
def Jm.one{a:pM Fa}(h:Jm w z a):∀u∈a.flatMap A6,u.oneCell'=jj:=λu c=>by
 obtain⟨p,b,d⟩:=ma.1 c;exact ft (h.each p b).1 u d
def MM(fs:pM Fa)(x:Fa)(p:Nat):pM Fa:=if ER fs x.f p then fs else fs.take p++x::fs.drop p
structure U8(sb so:Nat)(cells:pM p5)(ty:TypeId)(sv:p5)(fs:pM Fa)(x:Fa)(w w':py):Prop where
 out:∃(p:Nat) (ad:Option Addr) (cp:Nat),Gs fs x.f p/\AF w' sb (cells.set so (U ad (Z (MM fs x p)) cp)) ty/\Jm w' (U ad (Z (MM fs x p)) cp) (MM fs x p)/\∀q,(U ad (Z (MM fs x p)) cp).ownBlock=V q->sv.ownBlock=V q\/w.heap.size<=q
 kept:Ac (sb::sv.ownBlock.toList) w w'
theorem R4(k b:Nat)(E:pM p5)(H:TypeId)(d:Option Addr)(c:Nat)(a:pM Fa)(x:Fa)(w:py)(T:AF w k E H)(AB:E[b]?=V (U d (Z a) c))(CC:104≠H)(HO:170≠H)(h:Jm w (U d (Z a) c) a)(P:Ea w x)(AT:Z x.f.zC<=1000)(HV:Z a<=900000)(FT:∀i j (hi:i<Z a) (hj:j<Z a),i<=j->CP a[j].f x.f<0->CP a[i].f x.f<0):
  Calls prog 61 #[m2 (V ⟨k,b,Y⟩),pC (ml (A6 x))] w λe r=>e=oa (.tuple #[])/\U8 k b E H (U d (Z a) c) a x w r:=by
 have H6:=T.lt;have AH:p7 (∀wr,Ac [] w wr->Calls prog 103 #[U d (Z a) c,pC (ml (A6 x)),.func (.func 104) #[] #[]] wr λe r=>∃p:Nat,e=oa (.tuple #[X J p,pE (ER a x.f p)])/\Gs a x.f p/\Ac [] wr r):=λwr hk=>La d c a x wr (h.kept hk) (P.kept hk) AT (by omega) FT
 have HB:=Ab T;have HP:=Ab h;have HX:=Ab P;have HR:=Ab AT;obtain⟨m,o,FB⟩:=Ak P;obtain⟨t,H8,Q⟩:∃n v,A6 x=[O n,v]/\v=U m (Z x.f.zC) o:=⟨_,_,rfl,FB⟩;obtain⟨Q,rfl⟩:=Q;have B2:=Ab Q;generalize Z x.f.zC=xl at B2;rw[Aa B2]at AH⊢;clear Q FB;have hK:=(pO [] w).alloc (j3 [O t,U m xl o].toArray 104);have c0:=(T.alloc (j3 [O t,U m xl o].toArray 104)).cell b;rw[AB]at c0;have FL:=Ab AB;have HE:p7 (E.set b (U d (Z a) c)=E):=by
  show _=_;obtain⟨HY,e⟩:=nS.1 AB;rw[<-e,List.set_getElem_self]
 clear AB;have F:=pP w [O t,U m xl o] 104;have S:=Ab hK;clear h P AT FT hK T;go_enter func61,ntmps61;go_wp2_with fail
 change Code.wp _ _ _ _ (w.alloc (j3 [O t,U m xl o].toArray 104));generalize w.alloc (j3 [O t,U m xl o].toArray 104)=w1 at S c0 F⊢;obtain⟨N,BT⟩:=pN w.heap.size;rw[BT]at F⊢;have H7:=Ab BT;clear BT;have x0:=F.cell 0;have x1:=F.cell 1;simp at x0 x1;have HN:=Ab F;have EM:=Ab (AH w1.drew S.drew);clear AH F
 go_region_law (go_simp;go_at_call 103;refine EM.mono ?_;rintro e l ⟨p,rfl,hcut,k3⟩;have D:=Ab hcut;have B:=Ab (S.drew.trans k3);have R:=Ab (HN.drew.kept k3);clear hcut k3)
 all_goals
  clear EM c0 x0 x1;have u:=Ab (HP.kept B);have I:=Ab (HB.kept B);have FA:=Ab (HX.kept B);obtain⟨HT,A2⟩:=pN (ER a x.f p);have A1:=Ab A2;rw[A2];clear A2;have H5:=B.size;cases HT with
  |true=>
   (have y:p7 (MM a x p=a):=by show _=_;unfold MM;rw[Aa A1,ln rfl]);go_wp2;go_end0;refine⟨rfl,⟨p,d,c,D,?_,?_,?_⟩,B.mono (by simp)⟩
   .rw[Aa y,Aa HE];exact I
   .rw[Aa y];exact u
   .rw[Aa y];exact λq C=>oi C
  |false=>
   (have y:p7 (MM a x p=a.take p++x::a.drop p):=by show _=_;unfold MM;rw[Aa A1,li (by simp)]);have G:p7 (Z (a.take p++x::a.drop p)=Z a+1):=by
    show _=_;have:=D.le;simp only[lu,l9,lj,mf];omega
   have Ha:p7 (∀A,(A=(l.drew).alloc (j3 #[O t,U m xl o] 104)\/A=(l.alloc (j3 #[O t,U m xl o] 104)).drew)->Calls prog 105 #[U d (Z a) c,X J p,U (V ⟨l.heap.size,0,Y⟩) 1 1] A λe r=>∃g z,e=oa (U (V ⟨g,0,Y⟩) (Z a+1) z)/\p8 r ⟨k,b,Y⟩=V (U d (Z a) c)/\r.frozen? ⟨k,b,Y⟩=K/\U8 k b E H (U d (Z a) c) a x w (r.setCell ⟨k,b,Y⟩ (U (V ⟨g,0,Y⟩) (Z a+1) z))):=by
    intro A EX;have L:Ac [] l A:=by
     rcases EX with rfl|rfl
     .exact(pO [] l).drew.alloc _
     .exact((pO [] l).alloc _).drew
    have HU:AF A l.heap.size (A6 x) 104:=by
     rw[Aa B2];rcases EX with rfl|rfl
     .exact pP l.drew [O t,U m xl o] 104
     .exact(pP l [O t,U m xl o] 104).drew
    have W:=u.kept L;(have HC:(U d (Z a) c).ownBlock≠V l.heap.size:=λe=>by have:=(u.row.lt _ e).2;omega);refine(VP d c a p x 0 l.heap.size A W.row (by omega) D.le HU HC (lz _) W.one (ft HX)).mono ?_;rintro e r ⟨g,z,rfl,FO,AO,hg⟩;have EK:=I.kept L;(have HS:k∉(U d (Z a) c).ownBlock.toList:=λhm=>As W.row EK CC (by simpa using hm));have M:=EK.kept AO HS;have E0:=M.cell b;rw[Aa FL]at E0;have HF:Ac (k::(U d (Z a) c).ownBlock.toList) w r:=((B.trans L).mono (by simp)).trans (AO.mono (λi hi=>lY _ hi));have HI:(U (V ⟨g,0,Y⟩) (Z a+1) z).ownBlock≠V k:=As FO M CC;have HJ:=Ag FO (p:=⟨k,b,Y⟩) HI (U (V ⟨g,0,Y⟩) (Z a+1) z);refine⟨g,z,rfl,E0,M.frozen b,⟨p,V ⟨g,0,Y⟩,z,D,?_,?_,?_⟩,HF.setCell (p:=⟨k,b,Y⟩) (oi (mz ..)) _⟩
    .rw[Aa y,Aa G];exact M.set b _
    .rw[Aa y,Aa G];refine⟨by rw[Aa G];exact HJ,λq C=>?_⟩;have EY:Ea l q/\Z q.f.zC<=1000:=by
      rcases lw.1 C with s|s
      .exact⟨(u.each q (mD s)).1,(u.each q (mD s)).2⟩
      .rcases kZ.1 s with rfl|s
       .exact⟨FA,HR⟩
       .exact⟨(u.each q (nX s)).1,(u.each q (nX s)).2⟩
     have B9:=EY.1.kept L;have FF:p9 r 0 170 1 q.tv (Z q.f.zC) (q.f.zC.flatMap Ah):=Ai B9 AO (λi hi hm=>Bc B9 W.row (by decide) i hi (by simpa using hm));exact⟨Ag FF (p:=⟨k,b,Y⟩) (As FF M HO) _,EY.2⟩
    .rw[Aa y,Aa G];intro q C;simp only[pI,ld]at C;rcases hg with s|s
     .exact oi (by rw[<-C];exact s)
     .exact oj (by have:=L.size;omega)
   have y0:=I.cell b;rw[Aa FL]at y0;have z0:=R.cell 0;have z1:=R.cell 1;simp at z0 z1;have H4:=D.le;have H0:=R.lt;have H1:k<l.heap.size:=I.lt;clear HP HB HX S HN u I FA D y G A1 R;go_wp2_with fail
   go_region_law (go_simp;go_at_call 105;refine(Ha _ (by first|exact oi rfl|exact oj rfl)).mono ?_;rintro e w4 ⟨g,z,rfl,H3,HZ,CL⟩;have HH:=Ab CL;clear CL)
   all_goals
    clear Ha;go_wp2;go_end0;exact⟨rfl,HH⟩
def Uq(z:p5)(n:Nat):(madeCells #[z] n).toList=pG n z:=by
 apply List.ext_getElem
 .simp[madeCells]
 .intro i a b;simp[madeCells];rw[Nat.mod_one];rfl
def Fw(b:pM zA)(ts:pM AW)(k:Nat):pM p5:=((ts.take k).map λt=>O (BH b t))++pG (Z ts-k) (O ⟨#[]⟩)
def We(b:pM zA)(a:pM AW):Fw b a 0=pG (Z a) (O ⟨#[]⟩):=by simp[Fw]
def X4(b:pM zA)(a:pM AW)(k:Nat)(h:k<=Z a):Z (Fw b a k)=Z a:=by simp[Fw];omega
def YZ(b:pM zA)(a:pM AW)(k:Nat)(h:k<Z a):(Fw b a k).set k (O (BH b a[k]))=Fw b a (k+1):=by
 unfold Fw;rw[kW h,lV,show Z a-k=(Z a-(k+1))+1 by omega,List.replicate_succ];rw[pm _ _ (by simp;omega)];simp;rw[nU (by omega),Nat.sub_self];rfl
def Y1(b:pM zA)(a:pM AW):Fw b a (Z a)=(a.map (BH b)).flatMap Ah:=by
 unfold Fw;rw[ni,Nat.sub_self];simp only[List.replicate_zero,lU]
 induction a with
 |nil=>rfl
 |cons t a ih=>simp[Ah,ih]
theorem ON(D ty:Nat)(b:pM zA)(l:Int)(c:zA)(d:Option Addr)(j:Nat)(a:pM AW)(base:Nat)(w:py)(E:Z b=26)(hB:AF w D (Aj b) ty)(hr:p9 w base 215 2 (.slice d (Z a) j) (Z a) (a.flatMap Ar))(HL:Z a<=100000)(hv:∀t∈a,P2 t):
  Calls prog 196 #[m2 (V ⟨D,0,Y⟩),pC #[X J l,O c,.slice d (Z a) j]] w λr C=>∃g,r=oa (pC #[O c,.slice (V ⟨g,0,Y⟩) (Z a) (Z a)])/\p9 C w.heap.size 170 1 (.slice (V ⟨g,0,Y⟩) (Z a) (Z a)) (Z a) ((a.map (BH b)).flatMap Ah)/\Ac [] w C:=by
 obtain⟨i0,HE,EM,FC,FP⟩:=mg Tryz.zi;have HT:p7 (∀t∈a,∀x,Ac [] w x->Calls prog 180 #[m2 (V ⟨D,0,Y⟩),pC #[X pD t.v,O t.s]] x λr C=>r=oa (O (BH b t))/\Ac [] x C):=λt ht x L=>LN D ty b t x E (hB.kept L) (hv t ht)
 have HD:=Ab hr;obtain⟨N,A⟩:=pN w.heap.size;have m:p7 (AF ((w.alloc (j3 #[X J l,O c,.slice d (Z a) j] 187)).alloc (j3 #[O ⟨#[]⟩,.slice Y 0 0] 104)) N [X J l,O c,.slice d (Z a) j] 187):=by rw[<-A];exact(pP w [X J l,O c,.slice d (Z a) j] 187).alloc _
 have f:p7 (AF ((w.alloc (j3 #[X J l,O c,.slice d (Z a) j] 187)).alloc (j3 #[O ⟨#[]⟩,.slice Y 0 0] 104)) (N+1) [O ⟨#[]⟩,.slice Y 0 0] 104):=by
  have h:=pP (w.alloc (j3 #[X J l,O c,.slice d (Z a) j] 187)) [O ⟨#[]⟩,.slice Y 0 0] 104;simp only[lT,A]at h;exact h
 have S:=Ab (((pO [] w).alloc (j3 #[X J l,O c,.slice d (Z a) j] 187)).alloc (j3 #[O ⟨#[]⟩,.slice Y 0 0] 104));have y:=Ab A;clear hr hv hB;go_enter func196,ntmps196;apply wp_seq_k;intro KK A0;have Ax:=Ab A0;clear A0;go_wp2;refine Ax _ _ ?_;clear Ax KK;rw[A];clear A;have Q:((w.alloc (j3 #[X J l,O c,.slice d (Z a) j] 187)).alloc (j3 #[O ⟨#[]⟩,.slice Y 0 0] 104)).heap.size=N+1+1:=by simp;exact y
 generalize(w.alloc (j3 #[X J l,O c,.slice d (Z a) j] 187)).alloc (j3 #[O ⟨#[]⟩,.slice Y 0 0] 104)=w1 at m f S Q⊢;have c2:=m.cell 2;simp at c2;go_wp2_with ((with_reducible show wpList _ _ _ ({dst:=_,op:=Op.makeSlice 102 _ _,type:=_,pos:=_,after:=_,guard:=_}::_) _ _);refine wpList_make_row _ rfl _ _ 102 rfl 170 i0 _ underlying102 HE EM FC rfl J J (Z a) (by rfl) (by rfl) (by rw[FP];omega) (by omega) ?_)
 have n:p7 (p9 (w1.alloc (j3 (madeCells #[O ⟨#[]⟩] (Z a)) 170)) (N+1+1) 170 1 (.slice (V ⟨N+1+1,0,Y⟩) (Z a) (Z a)) (Z a) (Fw b a 0)):=by
  have h:=oN (e:=170) (size:=1) (base:=N+1+1) w1 (madeCells #[O ⟨#[]⟩] (Z a)) (Z a) (by omega) (by unfold maxLen;omega) (by rw[size_madeCells];omega);rw[Uq,Q]at h;rw[We];exact h
 have W:=Ab (m.alloc (j3 (madeCells #[O ⟨#[]⟩] (Z a)) 170));have I:=Ab (f.alloc (j3 (madeCells #[O ⟨#[]⟩] (Z a)) 170));have o:=Ab (S.alloc (j3 (madeCells #[O ⟨#[]⟩] (Z a)) 170));clear m f S c2 Q;generalize w1.alloc (j3 (madeCells #[O ⟨#[]⟩] (Z a)) 170)=w2 at n W I o⊢
 go_loopg [15] (Z a) (λgk i wr=>∃(k:Nat),i=X J k/\k<=Z a/\gk=Z a-k/\p7 (p9 wr (N+1+1) 170 1 (.slice (V ⟨N+1+1,0,Y⟩) (Z a) (Z a)) (Z a) (Fw b a k))/\p7 (AF wr N [X J l,O c,.slice d (Z a) j] 187)/\p7 (AF wr (N+1) [O ⟨#[]⟩,.slice Y 0 0] 104)/\p7 (Ac [] w wr))
 case atStart=>exact⟨0,rfl,by omega,rfl,n,W,I,o⟩
 case round=>
  clear n W I o;obtain⟨k,rfl,L,AT,n,m,f,z⟩:=hrel;have HG:=Ab AT;clear AT;by_cases B:k<Z a
  .obtain⟨g,HJ,he,d0,d1⟩:=Fp (Ad HD z) k B;simp only[kS]at he;obtain⟨rfl,_,rfl⟩:=he;obtain⟨T,H⟩:=pN (a[k]);have o:=Ab (z.alloc (j3 #[X pD T.v,O T.s] 215));have P:=Ab (HT T (by rw[<-H];exact kV B) _ o);(have R:p7 ((Fw b a k).set k (O (BH b T))=Fw b a (k+1)):=by rw[<-H];exact YZ b a k B);rw[H]at d0 d1;obtain⟨u,hV⟩:=pN (BH b T);rw[hV]at P R;clear H hV;(have HM:(0:Int)<=(k:Int):=by omega);(have HO:(k:Int)<(Z a:Int):=by omega);(go_wp2_with fail);refine P.mono ?_;rintro _ w3 ⟨rfl,M⟩;have F:Ac [] wr w3:=((pO [] wr).alloc _).trans M;have G:=Ad n F;have DT:=Ab (m.kept F);have AB:=Ab (f.kept F);have B9:=Ab (o.trans M);have y0:=G.cellAt k (by omega);have yf:=G.frozenAt k;(have CC:k<Z (Fw b a k):=by rw[X4 b a k L];exact B);rw[lc CC]at y0;generalize(Fw b a k)[k]=U at y0;have Go:p7 (p9 (w3.setCell ⟨N+1+1,k,Y⟩ (O u)) (N+1+1) 170 1 (.slice (V ⟨N+1+1,0,Y⟩) (Z a) (Z a)) (Z a) (Fw b a (k+1))):=by
    rw[<-Aa R];exact BG G k _
   have HA:=Ab (DT.zB ⟨N+1+1,k,Y⟩ (show N+1+1≠N by omega) (O u));have Ha:=Ab (AB.zB ⟨N+1+1,k,Y⟩ (show N+1+1≠N+1 by omega) (O u));have E0:=Ab (B9.setCell (p:=⟨N+1+1,k,Y⟩) (oj (by have:=Aa y;show _<=N+1+1;omega)) (O u));clear P o z M F G d0 d1 m f n DT AB B9 R CC;go_wp2
   go_roundg (Z a-(k+1))
   case measure=>have:=Aa HG;omega
   case rel=>exact⟨k+1,by go_num,by omega,rfl,Go,HA,Ha,E0⟩
  ·(have FL:k=Z a:=by omega);subst FL;have c1:=m.cell 1;have e0:=f.cell 0;have e1:=f.cell 1;have ef:=f.frozen;simp at c1 e0 e1;have FT:p7 (AF ((wr.setCell ⟨N+1,0,Y⟩ (O c)).setCell ⟨N+1,1,Y⟩ (.slice (V ⟨N+1+1,0,Y⟩) (Z a) (Z a))) (N+1) [O c,.slice (V ⟨N+1+1,0,Y⟩) (Z a) (Z a)] 104):=(f.set 0 _).set 1 _;have FW:p7 (p9 ((wr.setCell ⟨N+1,0,Y⟩ (O c)).setCell ⟨N+1,1,Y⟩ (.slice (V ⟨N+1+1,0,Y⟩) (Z a) (Z a))) N 170 1 (.slice (V ⟨N+1+1,0,Y⟩) (Z a) (Z a)) (Z a) ((a.map (BH b)).flatMap Ah)):=by
    have h:=Aa n;rw[Y1]at h;(have E:∀q,(Value.slice (V ⟨N+1+1,0,Y⟩) (Z a) (Z a)).ownBlock=V q->q≠N+1:=λq hq=>by have:=(h.lt q hq).1;omega);exact Am (Ag (Ag h (λh=>E _ h rfl) _) (λh=>E _ h rfl) _) (by have:=Aa y;omega)
   have FA:=Ab ((z.setCell (p:=⟨N+1,0,Y⟩) (oj (by have:=Aa y;show _<=N+1;omega)) (O c)).setCell (p:=⟨N+1,1,Y⟩) (oj (by have:=Aa y;show _<=N+1;omega)) (.slice (V ⟨N+1+1,0,Y⟩) (Z a) (Z a)));clear m f n z;go_wp2;exact lL (Ca rfl rfl FT underlying104 rfl (by kernel_rfl)) rfl ⟨N+1+1,rfl,FW,FA⟩
def BR{g:Array Oper}{i:pM Oper}{c:Oper}(k:Region.wanted c (yielded g a.tmps)=jj)(f:TypeId)(x:Operand)(l:c.op=.load f x)
  (b o:Nat) (r:a.eval x=m2 (V ⟨b,o,Y⟩)) (e:pM p5) (d:TypeDesc) (p:w.rangeAt b o e)
  (n:P.underlying f=V d) (j:d.isRow=jj) (q:(P.info? f).map (·.size)=V (Z e))
  (h:wpList P g Q i (a.put c.dst (pC (ml e))) w):wpList P g Q (c::i) a w:=
 wpList_step λs m=>by rw[ln k];exact wp_load_mid f x l b o r e d p n j q (m _ _ h)
def Fn(b:pM zA)(x:PL):C4:=⟨x.an,x.ts.map (BH b)⟩
def Kz(fs:pM Fa)(b:pM zA)(x:PL)(B:Bool):Prop:=
 if x.sort=0 then∃p,Gs fs (Fn b x) p/\B=ER fs (Fn b x) p
 else if x.sort=1 then∃p,Gs fs (Fn b x) p/\B= !ER fs (Fn b x) p
 else if x.sort=2 then B=((BH b x.l).toList==(BH b x.r).toList)
 else if x.sort=3 then B= !((BH b x.l).toList==(BH b x.r).toList)
 else B=Op.bytesLess (BH b x.l).toList (BH b x.r).toList
structure PQ(w:py)(sp kb ko:Nat)(bv ov:p5)(sad:Option Addr)(scp:Nat)(fs:pM Fa):Prop where
 zN:AF w sp [m2 (V ⟨kb,ko,Y⟩),bv,ov] 237
 set:p8 w ⟨kb,ko,Y⟩=V (U sad (Z fs) scp)
 facts:Jm w (U sad (Z fs) scp) fs
def PQ.kept{w w':py}{a e c:Nat}{i f:p5}{g:Option Addr}{b:Nat}{d:pM Fa}(h:PQ w a e c i f g b d)(k:Ac [] w w'):PQ w' a e c i f g b d:=⟨h.zN.kept k,k.cellAt h.set,h.facts.kept k⟩
theorem Yp(sp W T:Nat)(bv ov:p5)(HU:Option Addr)(HJ:Nat)(k:pM Fa)(x:PL)(m:Option Addr)(n:Nat)(b:pM zA)(w:py)(M:Z b=26)(hS:PQ w sp W T bv ov HU HJ k)(hx:KV w 0 (x,U m (Z x.ts) n))(Jx:Z k<=900000)(H8:Z x.ts<=1000)(HN:∀t∈x.ts,P2 t)(HP:P2 x.l)(HF:P2 x.r)
  (HL:∀i j (hi:i<Z k) (hj:j<Z k),i<=j->CP k[j].f (Fn b x)<0->CP k[i].f (Fn b x)<0):
  Calls prog 205 #[m2 (V ⟨sp,0,Y⟩),pC (ml (Ay (x,U m (Z x.ts) n))),pC (ml (Aj b))] w λr D=>∃B,r=oa (pE B)/\Kz k b x B/\Ac [] w D:=by
 have HB:=Ab hS;have EK:p7 (∀d a,Ac [] w a->AF a d (Aj b) 243->Calls prog 196 #[m2 (V ⟨d,0,Y⟩),pC #[X J x.ap,O x.an,U m (Z x.ts) n]] a λr D=>∃g,r=oa (pC #[O x.an,U (V ⟨g,0,Y⟩) (Z x.ts) (Z x.ts)])/\p9 D a.heap.size 170 1 (U (V ⟨g,0,Y⟩) (Z x.ts) (Z x.ts)) (Z x.ts) ((x.ts.map (BH b)).flatMap Ah)/\Ac [] a D):=λd a H S=>ON d 243 b x.ap x.an m n x.ts 0 a M S (Ad hx H) (by omega) HN
 have FB:p7 (∀g a,Ac [] w a->p9 a 0 170 1 (U (V ⟨g,0,Y⟩) (Z x.ts) (Z x.ts)) (Z x.ts) ((x.ts.map (BH b)).flatMap Ah)->Calls prog 60 #[m2 (V ⟨W,T,Y⟩),pC #[O x.an,U (V ⟨g,0,Y⟩) (Z x.ts) (Z x.ts)]] a λe D=>∃p:Nat,e=oa (pE (ER k (Fn b x) p))/\Gs k (Fn b x) p/\Ac [] a D):=by
  intro g a H hr;have HE:=hS.kept H;have HY:Ea a ⟨Fn b x,U (V ⟨g,0,Y⟩) (Z x.ts) (Z x.ts)⟩:=by
   show p9 a 0 170 1 _ (Z (x.ts.map (BH b))) _;rw[lm];exact hr
  exact OQ W T HU HJ k ⟨Fn b x,U (V ⟨g,0,Y⟩) (Z x.ts) (Z x.ts)⟩ a HE.set HE.facts HY (by show Z (x.ts.map (BH b))<=1000;rw[lm];exact H8) (by omega) HL
 have HT:p7 (∀d (t:AW) a,P2 t->AF a d (Aj b) 243->Calls prog 180 #[m2 (V ⟨d,0,Y⟩),pC #[X pD t.v,O t.s]] a λr D=>r=oa (O (BH b t))/\Ac [] a D):=λd t a hv S=>LN d 243 b t a M S hv
 have HR:=Ab HP;have Ha:=Ab HF;have L:p7 (∀B,Kz k b x B=(if x.sort=0 then∃p,Gs k (Fn b x) p/\B=ER k (Fn b x) p
 else if x.sort=1 then∃p,Gs k (Fn b x) p/\B= !ER k (Fn b x) p
 else if x.sort=2 then B=((BH b x.l).toList==(BH b x.r).toList)
 else if x.sort=3 then B= !((BH b x.l).toList==(BH b x.r).toList)
 else B=Op.bytesLess (BH b x.l).toList (BH b x.r).toList)):=λB=>rfl
 generalize Fn b x=FC at FB L;generalize Kz k b x=HC at L⊢;have hc:=Bp b;have hl:Z (Aj b)=26:=by unfold Aj;simp[M]
 obtain⟨E,hE⟩:=pN (Aj b);rw[hE]at hc hl EK HT⊢;clear hS hx HN HP HF HL hE;obtain⟨P,c,G,F,C,⟨y,o⟩,⟨q,u⟩⟩:=x;simp only[Ay]at*;have EM:p7 (∀d a,AF a d E 243->Calls prog 180 #[m2 (V ⟨d,0,Y⟩),pC #[X pD y,O o]] a λr D=>r=oa (O (BH b ⟨y,o⟩))/\Ac [] a D):=λd a S=>HT d ⟨y,o⟩ a HR S
 have FF:p7 (∀d a,AF a d E 243->Calls prog 180 #[m2 (V ⟨d,0,Y⟩),pC #[X pD q,O u]] a λr D=>r=oa (O (BH b ⟨q,u⟩))/\Ac [] a D):=λd a S=>HT d ⟨q,u⟩ a Ha S
 generalize BH b ⟨y,o⟩=VL at EM L;generalize BH b ⟨q,u⟩=VR at FF L;clear HT HR Ha;have AO:p7 (AF ((w.alloc (j3 [X J P,X J c,X J G,O F,U m (Z C) n,X pD y,O o,X pD q,O u].toArray 217)).alloc (j3 (ml E) 243)) w.heap.size [X J P,X J c,X J G,O F,U m (Z C) n,X pD y,O o,X pD q,O u] 217):=(pP w [X J P,X J c,X J G,O F,U m (Z C) n,X pD y,O o,X pD q,O u] 217).alloc _;have AT:p7 (AF ((w.alloc (j3 [X J P,X J c,X J G,O F,U m (Z C) n,X pD y,O o,X pD q,O u].toArray 217)).alloc (j3 (ml E) 243)) (w.heap.size+1) E 243):=by
  have h:=pP (w.alloc (j3 [X J P,X J c,X J G,O F,U m (Z C) n,X pD y,O o,X pD q,O u].toArray 217)) E 243;simp only[lT]at h;exact h
 have HK:=Ab (((pO [] w).alloc (j3 [X J P,X J c,X J G,O F,U m (Z C) n,X pD y,O o,X pD q,O u].toArray 217)).alloc (j3 (ml E) 243));go_enter func205,ntmps205;apply wp_seq_k;intro KK HS;have Go:=Ab HS;clear HS;go_wp2;refine Go _ _ ?_;clear Go KK;change Code.wp _ _ _ _ ((w.alloc (j3 [X J P,X J c,X J G,O F,U m (Z C) n,X pD y,O o,X pD q,O u].toArray 217)).alloc (j3 (ml E) 243));generalize((w.alloc (j3 [X J P,X J c,X J G,O F,U m (Z C) n,X pD y,O o,X pD q,O u].toArray 217)).alloc (j3 (ml E) 243))=w1 at AO AT HK⊢;generalize w.heap.size=N at AO AT⊢;have HO:p7 (∀a,Ac [] w1 a->p8 a ⟨N,5,Y⟩=V (X pD y)/\p8 a ⟨N,6,Y⟩=V (O o)/\p8 a ⟨N,7,Y⟩=V (X pD q)/\p8 a ⟨N,8,Y⟩=V (O u)):=by
  intro a H;have M:=AO.kept H;have c5:=M.cell 5;have c6:=M.cell 6;have c7:=M.cell 7;have c8:=M.cell 8;simp at c5 c6 c7 c8;exact⟨c5,c6,c7,c8⟩
 go_wp2_with fail
 go_region_held3 (λa=>Ac [] w1 a/\p8 a ⟨N,5,Y⟩=V (X pD y)/\p8 a ⟨N,6,Y⟩=V (O o)/\p8 a ⟨N,7,Y⟩=V (X pD q)/\p8 a ⟨N,8,Y⟩=V (O u)) ((go_split_ands;refine(fun(Q:Ac [] w1 _)=>And.intro Q (HO _ Q)) ?_;repeat (first|assumption|exact pO [] _|refine Ac.drew ?_|refine Ac.alloc ?_ _))) ((go_at_call 180;first
  |((with_reducible show Calls _ _ #[_,pC #[X pD y,O o]] _ _);refine(EM (N+1) _ (AT.kept (by go_split_ands;assumption))).mono ?_;rintro _ w3 ⟨rfl,k3⟩;have H7:Ac [] w1 w3:=(by go_split_ands;exact Ac.trans (by assumption) k3);clear k3)
  |((with_reducible show Calls _ _ #[_,pC #[X pD q,O u]] _ _);refine(FF (N+1) _ (AT.kept (by go_split_ands;assumption))).mono ?_;rintro _ z ⟨rfl,k4⟩;have R:Ac [] w1 z:=(by go_split_ands;exact Ac.trans (by assumption) k4);clear k4)))
 rename_i H5;clear H5 H7 EM FF HO;have d1:=(AO.kept R).cell 1;simp at d1;by_cases h0:c=0
 .have IJ:(c==0)=jj:=by simp[h0]
  have I:=AO.kept R;have q2:=I.cell 2;have q3:=I.cell 3;have q4:=I.cell 4;simp at q2 q3 q4;have A:p7 (Ac [] w z):=HK.trans R;have FP:p7 (∀a,Ac [] z a->p8 a ⟨sp,0,Y⟩=V (m2 (V ⟨W,T,Y⟩))/\p8 a ⟨N,2,Y⟩=V (X J G)/\p8 a ⟨N,3,Y⟩=V (O F)/\p8 a ⟨N,4,Y⟩=V (U m (Z C) n)):=by
   intro a H;have hs:=(HB.kept (A.trans H)).zN.cell 0;have hn:=I.kept H;have r2:=hn.cell 2;have r3:=hn.cell 3;have r4:=hn.cell 4;simp at hs r2 r3 r4;exact⟨hs,r2,r3,r4⟩
  have E0:=Ab (AT.kept R);clear I q2 q3 q4;go_wp2_with fail
  go_region_held3 (λa=>Ac [] z a/\p8 a ⟨sp,0,Y⟩=V (m2 (V ⟨W,T,Y⟩))/\p8 a ⟨N,2,Y⟩=V (X J G)/\p8 a ⟨N,3,Y⟩=V (O F)/\p8 a ⟨N,4,Y⟩=V (U m (Z C) n)) ((go_split_ands;refine(fun(Q:Ac [] z _)=>And.intro Q (FP _ Q)) ?_;repeat (first|assumption|exact pO [] _|refine Ac.drew ?_|refine Ac.alloc ?_ _))) ((first
   |(go_at_call 196;refine(EK (N+1) _ (A.trans (by go_split_ands;assumption)) (E0.kept (by go_split_ands;assumption))).mono ?_;rintro _ w5 ⟨g5,rfl,Bx,k5⟩;have H4:Ac [] z w5:=(by go_split_ands;exact Ac.trans (by assumption) k5);have FO:=Ab (Am Bx (lz _));clear k5 Bx)
   |(go_at_call 60;refine(FB g5 _ (A.trans (by go_split_ands;assumption)) FO).mono ?_;rintro _ w6 ⟨p6,rfl,hcut,k6⟩;have EX:Ac [] z w6:=(by go_split_ands;exact Ac.trans (by assumption) k6);have FA:=Ab hcut;clear k6 hcut)))
  go_wp2;go_ret;refine⟨_,rfl,?_,A.trans EX⟩;rw[Aa L];rw[ln h0];exact⟨p6,FA,rfl⟩
 .have IJ:(c==0)=K:=by simp[h0]
  by_cases h1:c=1
  ·(have Ix:(c==1)=jj:=by simp[h1]);have I:=AO.kept R;have q2:=I.cell 2;have q3:=I.cell 3;have q4:=I.cell 4;simp at q2 q3 q4;have A:p7 (Ac [] w z):=HK.trans R;have FP:p7 (∀a,Ac [] z a->p8 a ⟨sp,0,Y⟩=V (m2 (V ⟨W,T,Y⟩))/\p8 a ⟨N,2,Y⟩=V (X J G)/\p8 a ⟨N,3,Y⟩=V (O F)/\p8 a ⟨N,4,Y⟩=V (U m (Z C) n)):=by
    intro a H;have hs:=(HB.kept (A.trans H)).zN.cell 0;have hn:=I.kept H;have r2:=hn.cell 2;have r3:=hn.cell 3;have r4:=hn.cell 4;simp at hs r2 r3 r4;exact⟨hs,r2,r3,r4⟩
   have E0:=Ab (AT.kept R);clear I q2 q3 q4;go_wp2_with fail
   go_region_held3 (λa=>Ac [] z a/\p8 a ⟨sp,0,Y⟩=V (m2 (V ⟨W,T,Y⟩))/\p8 a ⟨N,2,Y⟩=V (X J G)/\p8 a ⟨N,3,Y⟩=V (O F)/\p8 a ⟨N,4,Y⟩=V (U m (Z C) n)) ((go_split_ands;refine(fun(Q:Ac [] z _)=>And.intro Q (FP _ Q)) ?_;repeat (first|assumption|exact pO [] _|refine Ac.drew ?_|refine Ac.alloc ?_ _))) ((first
    |(go_at_call 196;refine(EK (N+1) _ (A.trans (by go_split_ands;assumption)) (E0.kept (by go_split_ands;assumption))).mono ?_;rintro _ w5 ⟨g5,rfl,Bx,k5⟩;have H4:Ac [] z w5:=(by go_split_ands;exact Ac.trans (by assumption) k5);have FO:=Ab (Am Bx (lz _));clear k5 Bx)
    |(go_at_call 60;refine(FB g5 _ (A.trans (by go_split_ands;assumption)) FO).mono ?_;rintro _ w6 ⟨p6,rfl,hcut,k6⟩;have EX:Ac [] z w6:=(by go_split_ands;exact Ac.trans (by assumption) k6);have FA:=Ab hcut;clear k6 hcut)))
   go_wp2;go_ret;refine⟨_,rfl,?_,A.trans EX⟩;rw[Aa L];rw[li h0,ln h1];exact⟨p6,FA,rfl⟩
  ·(have Ix:(c==1)=K:=by simp[h1]);have A:p7 (Ac [] w z):=HK.trans R;by_cases h2:c=2
   ·(have H2:(c==2)=jj:=by simp[h2]);go_wp2;go_ret;refine⟨_,rfl,?_,A⟩;rw[Aa L,li h0,li h1,ln h2]
   ·(have H2:(c==2)=K:=by simp[h2]);by_cases h3:c=3
    ·(have HW:(c==3)=jj:=by simp[h3]);go_wp2;go_ret;refine⟨_,rfl,?_,A⟩;rw[Aa L,li h0,li h1,li h2,ln h3]
    ·(have HW:(c==3)=K:=by simp[h3]);go_wp2;go_ret;refine⟨_,rfl,?_,A⟩;rw[Aa L,li h0,li h1,li h2,li h3]
def FH(fs:pM Fa)(b:pM zA):pM PL->Bool->Prop
 |[],B=>B=K
 |x::l,B=>if GT b (AR x)then∃H,Kz fs b x H/\(if H then FH fs b l B else B=jj)else FH fs b l B
def Vu{d:pM Lz}(h:B8 w n z d)(k:Nat)(a:k<Z d):
  ∃g q x f i,z=U (V ⟨g,0,Y⟩) (Z d) q/\d[k]=(x,U f (Z x.ts) i)/\KV w n (x,U f (Z x.ts) i)/\
   p8 w ⟨g,k*9,Y⟩=V (X J x.place)/\p8 w ⟨g,k*9+1,Y⟩=V (X J x.sort)/\p8 w ⟨g,k*9+2,Y⟩=V (X J x.ap)/\p8 w ⟨g,k*9+3,Y⟩=V (O x.an)/\p8 w ⟨g,k*9+4,Y⟩=V (U f (Z x.ts) i)/\
   p8 w ⟨g,k*9+5,Y⟩=V (X pD x.l.v)/\p8 w ⟨g,k*9+6,Y⟩=V (O x.l.s)/\p8 w ⟨g,k*9+7,Y⟩=V (X pD x.r.v)/\p8 w ⟨g,k*9+8,Y⟩=V (O x.r.s):=by
 obtain⟨g,q,F,_,b⟩:=AC h.row (λc _=>rfl) k a;have A:=(h.each _ (kV a)).1;have y:=b k a 0 (by omega);have o:=b k a 1 (by omega);have j:=b k a 2 (by omega);have m:=b k a 3 (by omega);have D:=b k a 4 (by omega);have B:=b k a 5 (by omega);have u:=b k a 6 (by omega);have t:=b k a 7 (by omega);have C:=b k a 8 (by omega);obtain⟨⟨x,G⟩,E⟩:∃p,d[k]=p:=⟨_,rfl⟩;rw[E]at y o j m D B u t C A;obtain⟨f,i,e⟩:=Ak A;simp only at e;subst e;simp[Ay]at y o j m D B u t C;exact⟨g,q,x,f,i,F,E,A,y,o,j,m,D,B,u,t,C⟩
structure P6(x:PL):Prop where
 len:Z x.ts<=1000
 ts:∀t∈x.ts,P2 t
 l:P2 x.l
 r:P2 x.r
def P6.zQ{x:PL}(h:P6 x):(∀t∈AR x,P2 t)/\Z (AR x)<=100000:=by
 unfold AR;split
 .exact⟨h.ts,by have:=h.len;omega⟩
 .refine⟨λt a=>?_,by simp⟩;simp only[kZ,mr,or_false]at a;rcases a with rfl|rfl
  .exact h.l
  .exact h.r
theorem Zd(L kb ko:Nat)(HE:Option Addr)(EK:Nat)(c:pM Lz)(ov:p5)(H2:Option Addr)(HM:Nat)(d:pM Fa)(b:pM zA)(w:py)(hb:Z b=26)(hS:PQ w L kb ko (U HE (Z c) EK) ov H2 HM d)(P:B8 w 0 (U HE (Z c) EK) c)(Ix:Z d<=900000)(K9:Z c<=1000)(hl:∀p∈c,P6 p.1)
  (HW:∀(Go:C4) i j (hi:i<Z d) (hj:j<Z d),i<=j->CP d[j].f Go<0->CP d[i].f Go<0):
  Calls prog 177 #[m2 (V ⟨L,0,Y⟩),pC (ml (Aj b))] w λr v=>∃B,r=oa (pE B)/\FH d b (c.map pH) B/\Ac [] w v:=by
 have IJ:=Ab hS;have HP:=Ab P;have IA:p7 (∀(x:PL) m n a,Ac [] w a->KV w 0 (x,U m (Z x.ts) n)->Calls prog 137 #[pC (ml (Ay (x,U m (Z x.ts) n)))] a λe v=>∃H3 HJ,e=oa (U H3 (Z (AR x)) HJ)/\p9 v 0 215 2 (U H3 (Z (AR x)) HJ) (Z (AR x)) ((AR x).flatMap Ar)/\Ac [] a v):=λx m n a y hx=>MZ x m n a (hx.kept y)
 have Dk:p7 (∀I (x:PL) m n a,P6 x->AF a I (Aj b) 243->p9 a 0 215 2 (U m (Z (AR x)) n) (Z (AR x)) ((AR x).flatMap Ar)->Calls prog 204 #[m2 (V ⟨I,0,Y⟩),U m (Z (AR x)) n] a λr v=>r=oa (pE (GT b (AR x)))/\Ac [] a v):=λI x m n a q P hr=>Wp I 243 b m n (AR x) 0 a hb P hr q.zQ.2 q.zQ.1
 have FT:p7 (∀(x:PL) m n a,Ac [] w a->P6 x->KV w 0 (x,U m (Z x.ts) n)->Calls prog 205 #[m2 (V ⟨L,0,Y⟩),pC (ml (Ay (x,U m (Z x.ts) n))),pC (ml (Aj b))] a λr v=>∃B,r=oa (pE B)/\Kz d b x B/\Ac [] a v):=λx m n a y q hx=>Yp L kb ko _ ov H2 HM d x m n b a hb (hS.kept y) (hx.kept y) Ix q.len q.ts q.l q.r (HW _)
 have KA:=Ab hl;have q:=Bp b;have HO:Z (Aj b)=26:=by unfold Aj;simp[hb]
 have FL:=Ab HO;obtain⟨E,hE⟩:=pN (Aj b);rw[hE]at q HO FL Dk FT⊢;have C:=Ab (pP w E 243);have t:=Ab ((pO [] w).alloc (j3 (ml E) 243));clear hE hS P hl HW;obtain⟨u,B0⟩:∃u:Bool->Prop,u=FH d b (c.map pH):=⟨_,rfl⟩;have F:p7 (∀B,FH d b ((c.drop 0).map pH) B->u B):=λB h=>by rw[B0];exact h
 rw[<-B0];clear B0;go_enter func177,ntmps177;apply wp_seq_k;intro KK H1;have DT:=Ab H1;clear H1;go_wp2;refine DT _ _ ?_;clear DT KK;generalize w.alloc (j3 (ml E) 243)=w1 at C t⊢;generalize w.heap.size=N at C⊢;have s1:=(IJ.kept t).zN.cell 1;simp at s1;go_wp2_with fail
 go_loopg [12] (Z c) (λgk i wr=>∃(k:Nat),i=X J k/\k<=Z c/\gk=Z c-k/\p7 (∀B,FH d b ((c.drop k).map pH) B->u B)/\p7 (AF wr N E 243)/\p7 (Ac [] w wr))
 case atStart=>exact⟨0,rfl,by omega,rfl,F,C,t⟩
 case round=>
  clear F C t s1;obtain⟨k,rfl,y,H0,F,C,t⟩:=hrel;have HG:=Ab H0;clear H0;by_cases AO:k<Z c
  .obtain⟨g,LB,x,z,D,he,AB,_,d0,d1,d2,d3,d4,d5,d6,d7,d8⟩:=Vu (HP.kept t) k AO;simp only[kS]at he;obtain⟨rfl,_,rfl⟩:=he;(have A1:(x,U z (Z x.ts) D)∈c:=by rw[<-AB];exact kV AO);have A2:=Aa KA _ A1;have AT:KV w 0 (x,U z (Z x.ts) D):=(HP.each _ A1).1;have s:p7 (∀B,(if GT b (AR x)then∃H,Kz d b x H/\(if H then FH d b ((c.drop (k+1)).map pH) B else B=jj)else FH d b ((c.drop (k+1)).map pH) B)->u B):=by
    intro B h;refine F B ?_;rw[lD AO,lE,AB];exact h
   have R:=Ab (t.alloc (j3 (ml (Ay (x,U z (Z x.ts) D))) 217));have BT:=Ab (C.alloc (j3 (ml (Ay (x,U z (Z x.ts) D))) 217));have BA:=Ab (pP wr (Ay (x,U z (Z x.ts) D)) 217);have M:=Ab (IA x z D _ R AT);have A0:=Ab (λm n a=>Dk N x m n a A2);have G:=Ab (λa y=>FT x z D a y A2 AT);generalize AR x=TL at M A0 s;generalize Kz d b x=HX at G s;obtain⟨pl,so,ap,an,ts,⟨lv,K5⟩,⟨rv,LC⟩⟩:=x;simp only[Ay]at R BT BA M G d0 d1 d2 d3 d4 d5 d6 d7 d8;clear AB A1 A2 AT F;(go_wp2_with fail);refine M.mono ?_;rintro _ w3 ⟨H9,JA,rfl,Ha,Q⟩;have HV:=Ab (R.trans Q);have Bx:=Ab (BT.kept Q);have HD:=Ab (BA.kept Q);have HZ:=Ab (A0 H9 JA w3 Bx Ha);clear M A0 R BT BA Ha Q d0 d1 d2 d3 d4 d5 d6 d7 d8 t C;(go_wp2_with fail);refine HZ.mono ?_;rintro _ w4 ⟨rfl,T⟩;have W:=Ab (HV.trans T);have S:=Ab (Bx.kept T);have o:=HD.kept T;have e0:=o.cell 0;have e1:=o.cell 1;have e2:=o.cell 2;have e3:=o.cell 3;have e4:=o.cell 4;have e5:=o.cell 5;have e6:=o.cell 6;have e7:=o.cell 7;have e8:=o.cell 8;simp at e0 e1 e2 e3 e4 e5 e6 e7 e8;clear HZ HV Bx HD T o;obtain⟨ST,EM⟩:=pN (GT b TL);rw[EM]at s⊢;clear EM;cases ST with
   |false=>
    (have A:p7 (∀B,FH d b ((c.drop (k+1)).map pH) B->u B):=λB h=>s B (by rw[li (by simp)];exact h));clear s G;go_wp2
    go_roundg (Z c-(k+1))
    case measure=>have:=Aa HG;omega
    case rel=>exact⟨k+1,by go_num,by omega,rfl,A,S,W⟩
   |true=>
    have FB:=Ab (G w4 W);clear G;go_wp2_with ((with_reducible show wpList _ _ _ ({dst:=_,op:=Op.load 243 _,type:=_,pos:=_,after:=_,guard:=_}::_) _ _);refine BR (by rfl) 243 _ rfl N 0 (by rfl) E _ S.range underlying243 rfl (by rw[Aa FL];exact Tryz.zG) ?_)
    refine FB.mono ?_;rintro _ w5 ⟨HB,rfl,ES,k5⟩;have HS:=Ab (W.trans k5);have KD:=Ab (S.kept k5);have H4:=Ab ES;clear FB k5 ES W S e0 e1 e2 e3 e4 e5 e6 e7 e8;cases HB with
    |true=>
     (have A:p7 (∀B,FH d b ((c.drop (k+1)).map pH) B->u B):=λB h=>s B (by rw[ln True.intro];exact⟨jj,H4,h⟩));clear s;go_wp2
     go_roundg (Z c-(k+1))
     case measure=>have:=Aa HG;omega
     case rel=>exact⟨k+1,by go_num,by omega,rfl,A,KD,HS⟩
    |false=>
     have A:p7 (u jj):=s jj (by rw[ln True.intro];exact⟨K,H4,rfl⟩);clear s;go_wp2;go_ret;exact⟨jj,rfl,A,HS⟩
  .have A:p7 (u K):=F K (by rw[lS (by omega)];rfl);go_wp2;go_ret;exact⟨K,rfl,A,t⟩
abbrev Xh:=pM zA×p5
structure im(w:py)(lv:p5)(ps:pM Xh):Prop where
 row:p9 w 0 102 1 lv (Z ps) (ps.flatMap λp=>[p.2])
 each:∀p∈ps,p9 w 0 170 1 p.2 (Z p.1) (p.1.flatMap Ah)/\C9 FQ p.1/\Z p.1<=10000
def im.kept{w w':py}{b:pM Xh}(h:im w z b)(k:Ac [] w w'):im w' z b:=⟨Ad h.row k,λp a=>⟨Ad (h.each p a).1 k,(h.each p a).2⟩⟩
def fV{a:pM Xh}(h:im w z a)(k:Nat)(b:k<Z a):∃g l i f,z=U (V ⟨g,0,Y⟩) (Z a) l/\p8 w ⟨g,k,Y⟩=V (U i (Z (BX (a.map pH) k)) f)/\p9 w 0 170 1 (U i (Z (BX (a.map pH) k)) f) (Z (BX (a.map pH) k)) ((BX (a.map pH) k).flatMap Ah)/\C9 FQ (BX (a.map pH) k)/\Z (BX (a.map pH) k)<=10000:=by
 obtain⟨g,l,m,_,q⟩:=AC h.row (λc _=>rfl) k b;have d:=q k b 0 (by omega);have n:BX (a.map pH) k=a[k].1:=by
  unfold BX;rw[lq,mA,lc b];rfl
 rw[n];obtain⟨j,o,p⟩:=h.each _ (kV b);obtain⟨i,f,e⟩:=Ak j;rw[e]at j;simp[e]at d;exact⟨g,l,i,f,m,d,j,o,p⟩
def ae{v:p5}{l:pM Nat}(h:p9 w n 3 1 v (Z l) (l.flatMap Cd))(k:Nat)(b:k<Z l):∃g a,v=U (V ⟨g,0,Y⟩) (Z l) a/\p8 w ⟨g,k,Y⟩=V (X J (l[k]:Nat)):=by
 obtain⟨g,a,e,_,f⟩:=AC h (λc _=>rfl) k b;have d:=f k b 0 (by omega);simp[Cd]at d;exact⟨g,a,e,d⟩
def NT(a:pM Nat)(t v:Nat)(b:t<Z a):ZQ (λi=>a.getD i 0) t v=λi=>(a.set t v).getD i 0:=by
 funext i
 unfold ZQ;simp only[lq,List.getElem?_set];split
 .rename_i e;subst e;simp[b]
 .rename_i e;rw[li (λh=>e h.symm)]
def LQ(b:pM Nat)(t v:Nat):(b.set t v).flatMap Cd=(b.flatMap Cd).set t (X J (v:Nat)):=by
 have e:∀l:pM Nat,l.flatMap Cd=l.map λn=>X J (n:Nat):=λl=>by
  induction l with
  |nil=>rfl
  |cons a l ih=>simp[Cd,ih]
 rw[e,e,px]
def ND:∀l:pM Nat,l.flatMap Cd=l.map λn=>X J (n:Nat)
 |[]=>rfl
 |a::l=>by simp only[lF,lE,ND l];rfl
def Ng(a:pM Nat)(t:Nat)(h:t<Z a):(a.flatMap Cd)[t]?=V (X J (a[t]:Nat)):=by
 rw[ND,mA,lc h];rfl
def il(a:pM (pM zA))(s:zA)(h:∀l∈a,Z l<=10000):Vi FQ s a<=Z a*10000:=by
 induction a with
 |nil=>simp[Vi]
 |cons l a ih=>
  have d:=ih (λq b=>h q (lY _ b));have c:=h l (mz ..);have f:jb FQ s l<=Z l:=pq;have e:Vi FQ s (l::a)=jb FQ s l+Vi FQ s a:=by unfold Vi;simp
  rw[e,lj,nA];omega
structure Kx(ps:pM Xh)(m:pM zA):Prop where
 mem:∀y,y∈m↔(ps≠[]/\Kw (ps.map pH) y)
 zM:m.Pairwise λa b=>FQ a b=jj
theorem Tryz.yE:(Tryz.prog.info? 3).map (λi=>(i.zero,i.size,i.bytes))=V (V (X J 0),1,8):=by kernel_rfl
theorem XV(M6:Option Addr)(LM:Nat)(c:pM Xh)(w:py)(h:im w (U M6 (Z c) LM) c)(TX:Z c<=1000):
  Calls prog 208 #[U M6 (Z c) LM] w λr w'=>∃(ad:Option Addr) (cp:Nat) (m:pM zA),r=oa (U ad (Z m) cp)/\Kx c m/\p9 w' w.heap.size 170 1 (U ad (Z m) cp) (Z m) (m.flatMap Ah)/\Ac [] w w':=by
 obtain⟨i0,HJ,FW,HR,HF⟩:=mg Tryz.zi;obtain⟨j0,NN,SK,Nq,N2⟩:=mg Tryz.yE;have HL:=Ab h;obtain⟨N,hN⟩:=pN w.heap.size;rw[hN];have x:=Ab hN;clear hN h;obtain⟨d,A1⟩:=pN (c.map pH);have FA:Z d=Z c:=by rw[<-A1,lm]
 have K7:=Ab A1;have P0:p7 (∀s,Vi FQ s d<=Z c*10000):=by
  intro s;have F:=il d s (λl hl=>by
   rw[<-A1]at hl
   obtain⟨p,hp,rfl⟩:=lk.1 hl
   exact(HL.each p hp).2.2)
  rw[FA]at F;exact F
 have EX:p7 (∀m,(c≠[]->(∀y,y∈m↔Kw d y))->(c=[]->m=[])->m.Pairwise (λa b=>FQ a b=jj)->Kx c m):=by
  intro m F Q h3;refine⟨λy=>?_,h3⟩;by_cases hp:c=[]
  .rw[Q hp];simp[hp]
  .rw[F hp y,<-A1];exact⟨λh=>⟨hp,h⟩,λh=>h.2⟩
 by_cases h0:Z c=0
 .have TH:((Z c:Int)==0)=jj:=by simp[h0]
  have SL:(Z c:Int)=0:=by omega
  have HE:p7 (Kx c []):=EX [] (λh=>absurd (m4.1 h0) h) (λ_=>rfl) List.Pairwise.nil;clear A1;go_enter func208,ntmps208;go_wp2;go_ret;exact⟨Y,0,[],rfl,HE,lH _ _ _ _,pO _ _⟩
 .have Os:0<Z c:=by omega
  have TH:((Z c:Int)==0)=K:=by rw[lQ];omega
  have SL:¬(Z c:Int)=0:=by omega
  have HB:c≠[]:=λe=>h0 (by rw[e];rfl)
  obtain⟨g,X2,X3,WB,he,e0,r0,q0,b0⟩:=fV HL 0 Os;simp only[kS]at he;obtain⟨rfl,-,rfl⟩:=he;rw[A1]at e0 r0 q0 b0;have TL:(0:Int)<(Z c:Int):=by omega
  by_cases hz:Z (BX d 0)=0
  ·(have HY:((Z (BX d 0):Int)==0)=jj:=by simp[hz]);(have H8:(Z (BX d 0):Int)=0:=by omega);have HE:p7 (Kx c []):=EX [] (λ_ y=>by
    refine⟨λh=>by simp at h,λh=>?_⟩
    have F:=h (BX d 0) (Fi (by omega))
    rw[m4.1 hz]at F
    exact F) (λh=>absurd h HB) List.Pairwise.nil
   clear A1 hz;go_enter func208,ntmps208;go_wp2;go_ret;exact⟨Y,0,[],rfl,HE,lH _ _ _ _,pO _ _⟩
  ·(have IS:0<Z (BX d 0):=by omega);(have HY:((Z (BX d 0):Int)==0)=K:=by rw[lQ];omega);(have H8:¬(Z (BX d 0):Int)=0:=by omega);(have LB:(0:Int)<(Z (BX d 0):Int):=by omega);obtain⟨gz,cz,K8,z0⟩:=GA r0 0 IS;simp only[kS]at K8;obtain⟨rfl,-,rfl⟩:=K8;have Dk:=Ab (PZ.start Gg (ls:=d) (by omega) q0 IS);obtain⟨s0,K4⟩:=pN ((BX d 0)[0]);rw[K4]at Dk z0;clear K4 A1 r0 q0 hz;generalize Z (BX d 0)=L0 at e0 HY H8 LB;(have SB:=λo=>((pO [] w).alloc o).cellAt e0);(have RO:=λo=>((pO [] w).alloc o).cellAt z0);go_enter func208,ntmps208;go_wp2_with ((with_reducible show wpList _ _ _ ({dst:=_,op:=Op.makeSlice 221 _ _,type:=_,pos:=_,after:=_,guard:=_}::_) _ _);refine wpList_make_row _ rfl _ _ 221 rfl 3 j0 _ underlying221 NN SK Nq rfl J J (Z c) (by rfl) (by rfl) (by rw[N2];omega) (by omega) ?_)
   have H3:p7 (p9 (w.alloc (j3 (madeCells #[X J 0] (Z c)) 3)) N 3 1 (U (V ⟨N,0,Y⟩) (Z c) (Z c)) (Z c) ((pG (Z c) 0).flatMap Cd)):=by
    have h:=oN (e:=3) (size:=1) (base:=N) w (madeCells #[X J 0] (Z c)) (Z c) (by have:=Aa x;omega) (by unfold maxLen;omega) (by rw[size_madeCells];omega);rw[Uq,Aa x]at h;have e:(pG (Z c) 0).flatMap Cd=pG (Z c) (X J 0):=by
     generalize Z c=n
     induction n with
     |zero=>rfl
     |succ n ih=>rw[List.replicate_succ,lF,ih,List.replicate_succ];rfl
    rw[e];exact h
   have Ix:=Ab ((pO [] w).alloc (j3 (madeCells #[X J 0] (Z c)) 3));have K1:p7 (PZ FQ d 0 s0 0 (λi=>(pG (Z c) 0).getD i 0) []):=by
    have e:(λi=>(pG (Z c) 0).getD i 0)=λ_=>0:=by
     funext i
     rw[lq,List.getElem?_replicate];split<;>rfl
    rw[e];exact Dk
   rw[Aa x];clear e0 z0 SB RO Dk HY H8 LB b0 IS;generalize w.alloc (j3 (madeCells #[X J 0] (Z c)) 3)=w1 at H3 Ix⊢
   go_loopg [3,5,6,7] (Vi FQ s0 d*(Z c+1)+Z c) (λgk cv sv av tv wr=>∃(t:Nat) (s:zA) (D:Nat) (k:pM Nat) (m:pM zA) (H:Option Addr) (I:Nat),cv=U H (Z m) I/\sv=O s/\av=X J D/\tv=X J t/\gk=Vi FQ s d*(Z c+1)+(Z c-D)/\Z k=Z c/\Z m+Vi FQ s d<=10000000/\p7 (PZ FQ d t s D (λi=>k.getD i 0) m)/\p7 (p9 wr N 3 1 (U (V ⟨N,0,Y⟩) (Z c) (Z c)) (Z c) (k.flatMap Cd))/\p7 (p9 wr N 170 1 (U H (Z m) I) (Z m) (m.flatMap Ah))/\p7 (Ac [] w wr))
   case atStart=>exact⟨0,s0,0,pG (Z c) 0,[],Y,0,rfl,rfl,rfl,rfl,by simp,by simp,by have:=Aa P0 s0;simp;omega,K1,H3,lH _ _ _ _,Ix⟩
   case round=>
    clear K1 H3 Ix;obtain⟨t,s,D,k,m,H,I,rfl,rfl,rfl,rfl,M0,EY,WW,R,S,T,B⟩:=hrel;have HG:=Ab M0;clear M0;(have HO:t<Z c:=by have:=R.tk;omega);(have VL:D<Z c:=by have:=R.agk;omega);obtain⟨g',Wa,M2,OH,KK,et,rt,qt,bt⟩:=fV (HL.kept B) t HO;simp only[kS,ld,lW]at KK;obtain⟨⟨Ax,-,-⟩,-,-⟩:=KK;subst Ax;rw[Aa K7]at et rt qt bt;(have M1:p9 wr N 3 1 (U (V ⟨N,0,Y⟩) (Z c) (Z c)) (Z k) (k.flatMap Cd):=by rw[EY];exact S);have K3:k.getD t 0<=Z (BX d t):=R.ple t R.tk;obtain⟨gp,T0,LE,pt⟩:=ae (l:=k) (v:=U (V ⟨N,0,Y⟩) (Z c) (Z c)) M1 t (by omega);simp only[kS,ld,lW]at LE;obtain⟨⟨Ax,-,-⟩,-,-⟩:=LE;subst Ax;obtain⟨PT,HT⟩:=pN (k[t]);(have Jx:k.getD t 0=PT:=by rw[lq,lc (by omega),HT];rfl);rw[HT]at pt;rw[Jx]at K3;have Mo:=Ab (Td (U M2 (Z (BX d t)) OH) (BX d t) PT s 0 wr rt (by omega) K3 qt);have HQ:=Ab qt;have IJ:=Ab rt;have RV:=Ab Jx;(have W2:(0:Int)<=(t:Int):=by omega);(have WS:(t:Int)<(Z c:Int):=by omega);have pf:=S.frozenAt t;have Nd:p7 (∀q0 q1,M2=V ⟨q0,q1,Y⟩->q0<N):=by
     intro q0 q1 z;obtain⟨gw,_,X0,W1,KS,ew,SJ,_,_⟩:=fV HL t HO;simp only[kS,ld,lW]at KS;obtain⟨⟨Ax,-,-⟩,-,-⟩:=KS;subst Ax;have e2:=B.cellAt ew;rw[Aa K7,et]at e2;simp only[ld,kS]at e2;have h3:=(SJ.lt q0 (by rw[<-e2.1,z];rfl)).2;rw[Aa x]at h3;exact h3
    have G:p7 (((t:Int)+1).tmod (Z c:Int)=(Fv (Z c) t:Int)/\((t:Int)+1)%(Z c:Int)=(Fv (Z c) t:Int)/\Fv (Z c) t<Z c):=by
     have F:=dI HO;(have Q:((t:Int)+1)%(Z c:Int)=(Fv (Z c) t:Int):=by rw[<-F,Int.natCast_emod,Int.natCast_add];rfl);exact⟨by rw[Int.tmod_eq_emod_of_nonneg (by omega)];exact Q,Q,Vd HO⟩
    clear HT M1 Jx qt rt;(go_wp2_with fail);refine Mo.mono ?_;rintro _ w2 ⟨f,rfl,H0,NA⟩;have RB:=NA.symm;subst RB;(have K2:Dr FQ (BX d t) ((λi=>k.getD i 0) t) s f:=by show Dr FQ (BX d t) (k.getD t 0) s f;rw[Aa RV];exact H0);have HZ:=Ab K2;have U0:=H0.le;clear H0 K2 Mo;by_cases H5:f=Z (BX d t)
    .have HE:p7 (Kx c m):=EX m (λ_=>R.done HZ H5) (λh=>absurd h HB) R.zM;(have NY:((f:Int)==(Z (BX d t):Int))=jj:=by simp[H5]);(have QR:(f:Int)=(Z (BX d t):Int):=by omega);clear H5;go_wp2;go_ret;exact⟨H,I,m,rfl,HE,T,B⟩
    ·(have H2:f<Z (BX d t):=by omega);(have NY:((f:Int)==(Z (BX d t):Int))=K:=by rw[lQ];omega);(have QR:¬(f:Int)=(Z (BX d t):Int):=by omega);(have VS:(0:Int)<=(f:Int):=by omega);(have XS:(f:Int)<(Z (BX d t):Int):=by omega);obtain⟨P,cx,M3,x0⟩:=GA IJ f H2;simp only[kS]at M3;obtain⟨rfl,-,rfl⟩:=M3;obtain⟨j,hX⟩:=pN ((BX d t)[f]);rw[hX]at x0;cases hsx:(j.toList==s.toList)with
     |true=>
      have CL:j=s:=(EH j s).1 hsx;have W:=Ab (R.same HZ H2 (by rw[hX,CL]));(have Nj:Vi FQ j d<=Vi FQ s d:=by rw[CL];exact lC _);subst CL;clear hX R;(have N0:D+1<=Z c:=by omega);by_cases BS:D+1=Z c
      ·(have HU:(((D:Int)+1)==(Z c:Int))=jj:=by rw[mT];omega);have K5:((D:Int)+1)=(Z c:Int):=by omega
       skip
       skip
       (have B0:D+1=Z d:=by omega);by_cases B2:f+1=Z (BX d t)
       ·(have KB:(((f:Int)+1)==(Z (BX d t):Int))=jj:=by rw[mT];omega);(have H4:((f:Int)+1)=(Z (BX d t):Int):=by omega);have HE:p7 (Kx c (m++[j])):=EX (m++[j]) (λ_=>W.last Gg HQ B0 B2) (λh=>absurd h HB) (W.yP B0).2;have C:=Aa T;clear BS B2;go_wp2_with (at_builtin;refine lG _ rfl (.tmp 65) (.tmp 67) _ rfl N 170 i0 _ 1 16 underlying102 HJ FW HR HF rfl (by omega) (U H (Z m) I) (Z m) (m.flatMap Ah) rfl (lg C _) ⟨wr.heap.size,0,Y⟩ 1 1 [O j] rfl rfl (lI (lP wr _)) (by simp[Value.oneCell']) (by omega) (by unfold maxLen;omega) (by omega) (by simp;have:=B.size;have:=Aa x;omega) (wr.heap.size+1) (by simp) ?_;intro g1 AB u AT A HS HX)
        go_ret;refine⟨V ⟨g1,0,Y⟩,AB,m++[j],by simp,HE,?_,(B.alloc _).grown A (λq z=>oj (by have:=(C.lt q z).1;have:=Aa x;omega))⟩;rw[lM];simp only[lu,lj,lO,me,lF,mx,lU,Ah];exact AT
       ·(have KB:(((f:Int)+1)==(Z (BX d t):Int))=K:=by rw[lQ];omega);(have H4:¬((f:Int)+1)=(Z (BX d t):Int):=by omega);(have FC:f+1<Z (BX d t):=by omega);obtain⟨gy,cy,FB,y0⟩:=GA IJ (f+1) FC;simp only[kS,ld,lW]at FB;obtain⟨⟨Ax,-,-⟩,-,-⟩:=FB;subst Ax;have L:=W.more Gg HQ B0 FC;obtain⟨E,hY⟩:=pN ((BX d t)[f+1]);rw[hY]at y0 L;rw[NT k t (f+1) (by omega),FA]at L;have Bx:=Ab L.1;have OB:=L.2;(have NS:(0:Int)<=(f:Int)+1:=by omega);(have N4:(f:Int)+1<(Z (BX d t):Int):=by omega);have C:=Aa T;have AH:p7 (∀u,(wr.alloc (j3 #[O j] 170)).grownBy u (U H (Z m) I).ownBlock->p8 u ⟨P,f+1,Y⟩=V (O E)/\p9 u N 3 1 (U (V ⟨N,0,Y⟩) (Z c) (Z c)) (Z c) (k.flatMap Cd)):=by
         intro u FF;refine⟨?_,(lg S _).kept FF (oj (λe=>Bc S C (by decide) N rfl e.symm))⟩;have NV:P<N:=Nd _ _ (by rfl);(have NB:P<wr.heap.size:=by have:=B.size;have:=Aa x;omega);rw[FF.cell_far ⟨P,f+1,Y⟩ (by simp;omega) (λe=>by have:=(C.lt P e.symm).1;omega)];exact(((pO [] wr).alloc _).cellAt y0)
        clear BS B2 hY L;go_wp2_with (at_builtin;refine lG _ rfl (.tmp 65) (.tmp 67) _ rfl N 170 i0 _ 1 16 underlying102 HJ FW HR HF rfl (by omega) (U H (Z m) I) (Z m) (m.flatMap Ah) rfl (lg C _) ⟨wr.heap.size,0,Y⟩ 1 1 [O j] rfl rfl (lI (lP wr _)) (by simp[Value.oneCell']) (by omega) (by unfold maxLen;omega) (by omega) (by simp;have:=B.size;have:=Aa x;omega) (wr.heap.size+1) (by simp) ?_;intro g1 AB u AT A HS HX;have y9:=(AH u A).1;have ES:=(AH u A).2;have H1:=ES.cellAt t (by omega);have NM:=ES.frozenAt t;rw[Ng k t (by omega)]at H1)
        have H7:=G.1;have H9:=G.2.1;have JA:=Ab (((AH u A).2).stored t (X J ((f+1:Nat):Int)));go_wp2
        go_roundg (Vi FQ E d*(Z c+1)+Z c)
        case measure=>
         have F:=Aa HG;have Q:(Vi FQ E d+1)*(Z c+1)<=Vi FQ j d*(Z c+1):=mh _ (by omega);rw[nA]at Q;omega
        case rel=>
         refine⟨Fv (Z c) t,E,0,k.set t (f+1),m++[j],V ⟨g1,0,Y⟩,AB,by simp,rfl,rfl,by first|rfl|exact congrArg _ G.2.1,by simp,by simp[EY],by simp;omega,Bx,?_,?_,?_⟩
         .rw[LQ];have h:=JA.1;exact h
         .have BT:=Bc (AH u A).2 AT (by decide) N rfl;have h9:p9 u N 170 1 (U (V ⟨g1,0,Y⟩) (Z (m++[j])) AB) (Z (m++[j])) ((m++[j]).flatMap Ah):=by
           rw[lM];simp only[lu,lj,lO,me,lF,mx,lU,Ah];exact AT
          exact Ai h9 (Ac.setCell (M:=[N]) (pO [N] _) (oi (by simp)) _) (λq z=>by simp only[kY];intro e;subst e;exact BT z)
         .exact((B.alloc _).grown A (λq z=>oj (by have:=(C.lt q z).1;have:=Aa x;omega))).setCell (oj (by have:=Aa x;simp;omega)) _
      ·(have HU:(((D:Int)+1)==(Z c:Int))=K:=by rw[lQ];omega);have K5:¬((D:Int)+1)=(Z c:Int):=by omega
       skip
       skip
       have BA:=W.next (by omega);rw[NT k t f (by omega),FA]at BA;have Bx:=Ab BA;have H7:=G.1;have H9:=G.2.1;clear BS BA;go_wp2
       go_roundg (Vi FQ j d*(Z c+1)+(Z c-(D+1)))
       case measure=>
        have F:=Aa HG
        skip
        skip
        omega
       case rel=>
        refine⟨Fv (Z c) t,j,D+1,k.set t f,m,H,I,rfl,rfl,by go_num,by first|rfl|exact congrArg _ G.2.1,rfl,by simp[EY],by omega,Bx,?_,?_,?_⟩
        .rw[LQ];exact(S.stored t (X J (f:Int))).1
        .have BT:=Bc S T (by decide) N rfl;exact Ai T (Ac.setCell (M:=[N]) (pO [N] _) (oi (by simp)) _) (λq z=>by simp only[kY];intro e;subst e;exact BT z)
        .exact B.setCell (oj (by have:=Aa x;simp;omega)) _
     |false=>
      (have CL:j≠s:=λe=>by rw[(EH j s).2 e]at hsx;cases hsx);have HA:=R.past Gg HQ HZ H2 (by rw[hX];exact CL);rw[hX]at HA;have W:=Ab HA.1;have Nj:=HA.2;clear hX R HA CL;(have N0:0+1<=Z c:=by omega);by_cases BS:0+1=Z c
      ·(have HU:(((0:Int)+1)==(Z c:Int))=jj:=by rw[mT];omega);(have RI:((1:Int)==(Z c:Int))=jj:=by rw[mT];omega);(have B0:0+1=Z d:=by omega);by_cases B2:f+1=Z (BX d t)
       ·(have KB:(((f:Int)+1)==(Z (BX d t):Int))=jj:=by rw[mT];omega);(have H4:((f:Int)+1)=(Z (BX d t):Int):=by omega);have HE:p7 (Kx c (m++[j])):=EX (m++[j]) (λ_=>W.last Gg HQ B0 B2) (λh=>absurd h HB) (W.yP B0).2;have C:=Aa T;clear BS B2;go_wp2_with (at_builtin;refine lG _ rfl (.tmp 65) (.tmp 67) _ rfl N 170 i0 _ 1 16 underlying102 HJ FW HR HF rfl (by omega) (U H (Z m) I) (Z m) (m.flatMap Ah) rfl (lg C _) ⟨wr.heap.size,0,Y⟩ 1 1 [O j] rfl rfl (lI (lP wr _)) (by simp[Value.oneCell']) (by omega) (by unfold maxLen;omega) (by omega) (by simp;have:=B.size;have:=Aa x;omega) (wr.heap.size+1) (by simp) ?_;intro g1 AB u AT A HS HX)
        go_ret;refine⟨V ⟨g1,0,Y⟩,AB,m++[j],by simp,HE,?_,(B.alloc _).grown A (λq z=>oj (by have:=(C.lt q z).1;have:=Aa x;omega))⟩;rw[lM];simp only[lu,lj,lO,me,lF,mx,lU,Ah];exact AT
       ·(have KB:(((f:Int)+1)==(Z (BX d t):Int))=K:=by rw[lQ];omega);(have H4:¬((f:Int)+1)=(Z (BX d t):Int):=by omega);(have FC:f+1<Z (BX d t):=by omega);obtain⟨gy,cy,FB,y0⟩:=GA IJ (f+1) FC;simp only[kS,ld,lW]at FB;obtain⟨⟨Ax,-,-⟩,-,-⟩:=FB;subst Ax;have L:=W.more Gg HQ B0 FC;obtain⟨E,hY⟩:=pN ((BX d t)[f+1]);rw[hY]at y0 L;rw[NT k t (f+1) (by omega),FA]at L;have Bx:=Ab L.1;have OB:=L.2;(have NS:(0:Int)<=(f:Int)+1:=by omega);(have N4:(f:Int)+1<(Z (BX d t):Int):=by omega);have C:=Aa T;have AH:p7 (∀u,(wr.alloc (j3 #[O j] 170)).grownBy u (U H (Z m) I).ownBlock->p8 u ⟨P,f+1,Y⟩=V (O E)/\p9 u N 3 1 (U (V ⟨N,0,Y⟩) (Z c) (Z c)) (Z c) (k.flatMap Cd)):=by
         intro u FF;refine⟨?_,(lg S _).kept FF (oj (λe=>Bc S C (by decide) N rfl e.symm))⟩;have NV:P<N:=Nd _ _ (by rfl);(have NB:P<wr.heap.size:=by have:=B.size;have:=Aa x;omega);rw[FF.cell_far ⟨P,f+1,Y⟩ (by simp;omega) (λe=>by have:=(C.lt P e.symm).1;omega)];exact(((pO [] wr).alloc _).cellAt y0)
        clear BS B2 hY L;go_wp2_with (at_builtin;refine lG _ rfl (.tmp 65) (.tmp 67) _ rfl N 170 i0 _ 1 16 underlying102 HJ FW HR HF rfl (by omega) (U H (Z m) I) (Z m) (m.flatMap Ah) rfl (lg C _) ⟨wr.heap.size,0,Y⟩ 1 1 [O j] rfl rfl (lI (lP wr _)) (by simp[Value.oneCell']) (by omega) (by unfold maxLen;omega) (by omega) (by simp;have:=B.size;have:=Aa x;omega) (wr.heap.size+1) (by simp) ?_;intro g1 AB u AT A HS HX;have y9:=(AH u A).1;have ES:=(AH u A).2;have H1:=ES.cellAt t (by omega);have NM:=ES.frozenAt t;rw[Ng k t (by omega)]at H1)
        have H7:=G.1;have H9:=G.2.1;have JA:=Ab (((AH u A).2).stored t (X J ((f+1:Nat):Int)));go_wp2
        go_roundg (Vi FQ E d*(Z c+1)+Z c)
        case measure=>
         have F:=Aa HG;have Q:(Vi FQ E d+1)*(Z c+1)<=Vi FQ s d*(Z c+1):=mh _ (by omega);rw[nA]at Q;omega
        case rel=>
         refine⟨Fv (Z c) t,E,0,k.set t (f+1),m++[j],V ⟨g1,0,Y⟩,AB,by simp,rfl,rfl,by first|rfl|exact congrArg _ G.2.1,by simp,by simp[EY],by simp;omega,Bx,?_,?_,?_⟩
         .rw[LQ];have h:=JA.1;exact h
         .have BT:=Bc (AH u A).2 AT (by decide) N rfl;have h9:p9 u N 170 1 (U (V ⟨g1,0,Y⟩) (Z (m++[j])) AB) (Z (m++[j])) ((m++[j]).flatMap Ah):=by
           rw[lM];simp only[lu,lj,lO,me,lF,mx,lU,Ah];exact AT
          exact Ai h9 (Ac.setCell (M:=[N]) (pO [N] _) (oi (by simp)) _) (λq z=>by simp only[kY];intro e;subst e;exact BT z)
         .exact((B.alloc _).grown A (λq z=>oj (by have:=(C.lt q z).1;have:=Aa x;omega))).setCell (oj (by have:=Aa x;simp;omega)) _
      ·(have HU:(((0:Int)+1)==(Z c:Int))=K:=by rw[lQ];omega);(have K5:¬((0:Int)+1)=(Z c:Int):=by omega);(have RI:((1:Int)==(Z c:Int))=K:=by rw[lQ];omega);(have U1:¬(1:Int)=(Z c:Int):=by omega);have BA:=W.next (by omega);rw[NT k t f (by omega),FA]at BA;have Bx:=Ab BA;have H7:=G.1;have H9:=G.2.1;clear BS BA;go_wp2
       go_roundg (Vi FQ j d*(Z c+1)+(Z c-(0+1)))
       case measure=>
        have F:=Aa HG;have Q:(Vi FQ j d+1)*(Z c+1)<=Vi FQ s d*(Z c+1):=mh _ (by omega);rw[nA]at Q;omega
       case rel=>
        refine⟨Fv (Z c) t,j,0+1,k.set t f,m,H,I,rfl,rfl,by go_num,by first|rfl|exact congrArg _ G.2.1,rfl,by simp[EY],by omega,Bx,?_,?_,?_⟩
        .rw[LQ];exact(S.stored t (X J (f:Int))).1
        .have BT:=Bc S T (by decide) N rfl;exact Ai T (Ac.setCell (M:=[N]) (pO [N] _) (oi (by simp)) _) (λq z=>by simp only[kY];intro e;subst e;exact BT z)
        .exact B.setCell (oj (by have:=Aa x;simp;omega)) _
def Ea.grown{p:Fa}{v:p5}(h:Ea w p)(b:p9 w m 104 2 v n y)(a:w.grownBy u v.ownBlock):Ea u p:=
 mI (v:=p.tv) h a (by
  cases hp:p.tv.ownBlock with
  |none=>exact oi rfl
  |some q=>exact oj (λe=>Bc h b (by decide) q hp e.symm))
def JE(b:pM zA)(ls:pM PL):pM C4:=(ls.filter λx=>x.sort==0).map (Fn b)
theorem be(T ty:Nat)(b:pM zA)(FO:Option Addr)(B2:Nat)(c:pM Lz)(w:py)(hb:Z b=26)(HC:AF w T (Aj b) ty)(hB:B8 w 0 (U FO (Z c) B2) c)(IS:Z c<=1000)(hl:∀p∈c,P6 p.1):
  Calls prog 198 #[m2 (V ⟨T,0,Y⟩),U FO (Z c) B2] w λr n=>∃(l:Option Addr) (m:Nat) (a:pM Fa),r=oa (U l (Z a) m)/\a.map Fa.f=JE b (c.map pH)/\Jm n (U l (Z a) m) a/\p9 n w.heap.size 104 2 (U l (Z a) m) (Z a) (a.flatMap A6)/\Ac [] w n:=by
 obtain⟨i0,H0,HV,H2,HZ⟩:=mg Tryz.zj;have HA:=Ab hB;have HX:=Ab hl;have HL:p7 (∀(x:PL) l m C,Ac [] w C->P6 x->KV w 0 (x,U l (Z x.ts) m)->Calls prog 196 #[m2 (V ⟨T,0,Y⟩),pC #[X J x.ap,O x.an,U l (Z x.ts) m]] C λr n=>∃g,r=oa (pC #[O x.an,U (V ⟨g,0,Y⟩) (Z x.ts) (Z x.ts)])/\Ea n ⟨Fn b x,U (V ⟨g,0,Y⟩) (Z x.ts) (Z x.ts)⟩/\Ac [] C n):=by
  intro x l m C hk hc hx;refine(ON T ty b x.ap x.an l m x.ts 0 C hb (HC.kept hk) (hx.kept hk) (by have:=hc.len;omega) hc.ts).mono ?_;rintro r n ⟨g,rfl,hr,k⟩;refine⟨g,rfl,?_,k⟩;show p9 n 0 170 1 _ (Z (x.ts.map (BH b))) _;rw[lm];exact Am hr (lz _)
 obtain⟨R,hR⟩:=pN (JE b (c.map pH));rw[hR];have HR:=Ab hR;obtain⟨N,hN⟩:=pN w.heap.size;have Q:=Ab hN;clear hB hl hR hN HC;go_enter func198,ntmps198;go_wp2_with fail
 go_loopg [5,10] (Z c) (λgk o i wr=>∃(k:Nat) (a:pM Fa) (z:Option Addr) (u:Nat),o=U z (Z a) u/\i=X J k/\k<=Z c/\gk=Z c-k/\Z a<=k/\p7 (a.map Fa.f=JE b ((c.take k).map pH))/\p7 (p9 wr N 104 2 (U z (Z a) u) (Z a) (a.flatMap A6))/\p7 (∀p∈a,Ea wr p/\Z p.f.zC<=1000)/\p7 (Ac [] w wr))
 case atStart=>exact⟨0,[],Y,0,rfl,rfl,by omega,rfl,by simp,rfl,lH _ _ _ _,(λp e=>by cases e),pO _ _⟩
 case round=>
  obtain⟨k,a,z,u,rfl,rfl,hk,HD,IA,G,L,M,D⟩:=hrel;have HG:=Ab HD;clear HD;by_cases AO:k<Z c
  .obtain⟨g,Jx,x,v,y,he,AH,_,d0,d1,d2,d3,d4,d5,d6,d7,d8⟩:=Vu (HA.kept D) k AO;simp only[kS]at he;obtain⟨rfl,_,rfl⟩:=he;(have A0:(x,U v (Z x.ts) y)∈c:=by rw[<-AH];exact kV AO);have A1:=Aa HX _ A0;have E0:KV w 0 (x,U v (Z x.ts) y):=(HA.each _ A0).1;have Dk:p7 (JE b ((c.take (k+1)).map pH)=JE b ((c.take k).map pH)++if(x.sort==0)=jj then[Fn b x] else[]):=by
    show _=_;unfold JE;rw[kW AO,lV,nF,lV,AH]
    congr 1
    simp only[lE,m8,mW,List.filter_nil];split<;>rfl
   have F:=Ab (D.alloc (j3 (ml (Ay (x,U v (Z x.ts) y))) 217));have H:=Ab (lg L (j3 (ml (Ay (x,U v (Z x.ts) y))) 217));(have A:p7 (∀p∈a,Ea (wr.alloc (j3 (ml (Ay (x,U v (Z x.ts) y))) 217)) p/\Z p.f.zC<=1000):=λp e=>⟨(M p e).1.kept ((pO [] wr).alloc _),(M p e).2⟩);have B:=Ab (HL x v y _ F A1 E0);(have DT:p7 (Z (Fn b x).zC<=1000):=by show Z (x.ts.map (BH b))<=1000;rw[lm];exact A1.len);(have W:p7 (∀g,A6 ⟨Fn b x,U (V ⟨g,0,Y⟩) (Z x.ts) (Z x.ts)⟩=[O x.an,U (V ⟨g,0,Y⟩) (Z x.ts) (Z x.ts)]):=λg=>rfl);generalize Fn b x=FC at Dk B DT W;obtain⟨pl,so,ap,an,d,⟨lv,H8⟩,⟨rv,JA⟩⟩:=x;simp only[Ay]at F H A B Dk W d0 d1 d2 d3 d4 d5 d6 d7 d8;clear AH A0 A1 E0 L M;(have IJ:N<=wr.heap.size:=by have:=D.size;have:=Aa Q;omega);clear D;by_cases S:so=0
   ·(have A2:(so==0)=jj:=by simp[S]);rw[A2,ln rfl]at Dk;clear S;(go_wp2_with fail);refine B.mono ?_;rintro _ s ⟨j,rfl,ES,P⟩;have E:=Ad H P;(have Bx:p7 (∀p∈a,Ea s p/\Z p.f.zC<=1000):=λp e=>⟨(A p e).1.kept P,(A p e).2⟩);have BA:=Ab (F.trans P);have FT:=Ab ES;(have H6:N<=s.heap.size:=by have:=BA.size;have:=Aa Q;omega);clear B H A F P ES d0 d1 d2 d3 d4 d5 d6 d7 d8;go_wp2_with (at_builtin;refine lG _ rfl (.tmp 17) (.tmp 22) _ rfl N 104 i0 _ 2 40 underlying113 H0 HV H2 HZ rfl (by omega) (U z (Z a) u) (Z a) (a.flatMap A6) rfl (lg E _) ⟨s.heap.size,0,Y⟩ 1 1 [O an,U (V ⟨j,0,Y⟩) (Z d) (Z d)] rfl rfl (lI (lP s _)) (by simp[Value.oneCell']) (by omega) (by unfold maxLen;omega) (by omega) (by simp;omega) (s.heap.size+1) (by simp) ?_;intro g1 EX w9 FW I HJ HT)
    have Ax:p7 ((a++[Fa.mk FC (U (V ⟨j,0,Y⟩) (Z d) (Z d))]).map Fa.f=JE b ((c.take (k+1)).map pH)):=by
     show _=_;rw[Aa Dk,lV,Aa G];rfl
    have HQ:p7 (p9 w9 N 104 2 (U (V ⟨g1,0,Y⟩) (Z (a++[Fa.mk FC (U (V ⟨j,0,Y⟩) (Z d) (Z d))])) EX) (Z (a++[Fa.mk FC (U (V ⟨j,0,Y⟩) (Z d) (Z d))])) ((a++[Fa.mk FC (U (V ⟨j,0,Y⟩) (Z d) (Z d))]).flatMap A6)):=by
     rw[lM];simp only[lu,lj,lO,me,lF,mx,lU,Aa W];exact FW
    have HU:p7 (∀p∈a++[Fa.mk FC (U (V ⟨j,0,Y⟩) (Z d) (Z d))],Ea w9 p/\Z p.f.zC<=1000):=by
     intro p e;rcases lw.1 e with h|h
     .exact⟨Ea.grown ((Bx p h).1.kept ((pO [] s).alloc _)) (lg E _) I,(Bx p h).2⟩
     .simp only[kY]at h;subst h;exact⟨Ea.grown (FT.kept ((pO [] s).alloc _)) (lg E _) I,DT⟩
    have HY:=Ab ((BA.alloc (j3 #[O an,U (V ⟨j,0,Y⟩) (Z d) (Z d)] 104)).grown I (λq hq=>oj (by have:=(E.lt q hq).1;have:=Aa Q;omega)));clear FW I HJ HT E Bx BA FT Dk G
    go_roundg (Z c-(k+1))
    case measure=>have:=Aa HG;omega
    case rel=>exact⟨k+1,a++[Fa.mk FC (U (V ⟨j,0,Y⟩) (Z d) (Z d))],V ⟨g1,0,Y⟩,EX,by simp,by go_num,by omega,rfl,by simp;omega,Ax,HQ,HU,HY⟩
   ·(have A2:(so==0)=K:=by simp[S]);rw[A2,li (by simp),lU]at Dk;(have Ax:p7 (a.map Fa.f=JE b ((c.take (k+1)).map pH)):=by show _=_;rw[Aa Dk];exact G);clear S Dk G B;go_wp2
    go_roundg (Z c-(k+1))
    case measure=>have:=Aa HG;omega
    case rel=>exact⟨k+1,a,z,u,rfl,by go_num,by omega,rfl,by omega,Ax,H,A,F⟩
  .have H4:p7 (a.map Fa.f=R):=by
    have h:=Aa G;rw[kX (by omega),Aa HR]at h;exact h
   go_wp2;go_ret;exact⟨z,u,a,rfl,H4,⟨Am L (lz _),M⟩,by rw[Aa Q];exact L,D⟩
