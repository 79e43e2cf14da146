import Derived.Deep.OwnRows
import Derived.Test.YtoihbhenbmffcaaGreatDoorVAO
set_option linter.all false
set_option maxHeartbeats 0
open List renaming length->Z,toArray->D6,replicate->NP
open Option renaming none->Y,some->V
open Go.Value renaming slice->U,int->X,string->O,pointer->Gi,agg->Ms,bool->No,ownBlock->OC
open Bool renaming false->K,true->Cm
open Go.IntKind renaming i64->J,i32->M8
open Go.Obj renaming cells->Dj
open Go.Ending renaming returned->G3
open Or renaming inl->Hd,inr->Hf
open Go renaming World->Hq,Value->Hs
open Go.RowKit renaming Hid->JR
open Go.World renaming cell?->Lc,ownsRow->Mi
open Prod renaming fst->O0
namespace Go.Proofs.YtoihbhenbmffcaaGreatDoor
open Go.RowKit Go.Proofs.Tryz
variable{P:Program}{n i m k b:Nat}{w u:Hq}{y x:QC Hs}{T:TypeId}{z:Hs}{a:Act}{Q:Exit->Act->Hq->Prop}
theorem Tryz.zD:(Tryz.prog.info? 104).map (λi=>(i.zero,i.size,i.bytes))=V (V (Ms #[O ⟨#[]⟩,U Y 0 0]),2,40):=by kernel_rfl
def Gn(w:Hq)(k p u d:TypeId)(f:Nat)(b o e l:Nat)(a:Addr)(g t:Nat)(c:QC Hs)
  (s:P.underlying k=V (.slice d)) (h:(P.info? d).map (·.size)=V f) (y:Z c=Nat.min g e*f)
  (A:∀j v,c[j]?=V v->Lc w (a.add j)=V v) (z:∀j,j<Z c->(Lc w ⟨b,o+j,Y⟩).isSome=Cm) (q:∀j,j<Z c->w.frozen? ⟨b,o+j,Y⟩=K) (n:∀v∈c,v.oneCell'=Cm):
  (Builtin.copy_ #[k,p] u #[U (V ⟨b,o,Y⟩) e l,U (V a) g t]).run P w=.ok (goInt (Nat.min g e)) (w.setCells b o c):=by
 have r:=run_loadCells_list (P:=P) w a c A;have m:=run_storeCells_cells (P:=P) b o c 0 w (by simpa using z) (by simpa using q) n;cases hq:P.info? d with
 |none=>simp[hq]at h
 |some i=>
  have x:i.size=f:=by simpa[hq] using h
  simp[Builtin.copy_,run_underlying s,Builtin.lenOf,Builtin.firstCells,sizeOf,typeInfo,hq,x,<-y,r,m]
set_option maxRecDepth 100000
theorem Zm(g n c i d:Nat)(b r l:QC Hs)(w:Hq)(hi:i<n)(A1:n+1<=c)(A0:c<=9223372036854775807)(C:d≠g)
  (P:Z b=n*2) (s:Z l=2) (o:AI w g r 104) (F:Z r=c*2) (B:r.take (n*2)=b) (q:AI w d l 104) (AB:∀v∈b,v.oneCell'=Cm) (W:∀v∈l,v.oneCell'=Cm):
  Calls prog 105 #[U (V ⟨g,0,Y⟩) n c,X J i,U (V ⟨d,0,Y⟩) 1 1] w λe S=>
   e=G3 (U (V ⟨g,0,Y⟩) (n+1) c)/\S=(w.drew.setCells g ((i+1)*2) (b.drop (i*2))).setCells g (i*2) l:=by
 obtain⟨i0,R,AT,L,CC⟩:=mH Tryz.zD;have E:(prog.info? 104).map (·.size)=V 2:=by rw[R];simp[L]
 have AR:∀w,(Go.sizeOf 104).run prog w=.ok 2 w:=λw=>by simp[sizeOf,typeInfo,R,L]
 have N:∀j,j<(n+1)*2->(Lc w ⟨g,j,Y⟩).isSome=Cm:=λj a=>o.some j (by omega)
 have Q:∀j,w.frozen? ⟨g,j,Y⟩=K:=λj=>o.frozen j
 have G:∀j v,b[j]?=V v->Lc w ⟨g,j,Y⟩=V v:=λj v a=>by
  rw[o.cell];rw[<-B,nI]at a;split at a
  .exact a
  .cases a
 have Ax:∀x u,(callFunc 152 #[U (V ⟨d,0,Y⟩) 1 1,U (V ⟨g,(i+1)*2,Y⟩) x u]).run prog w=.ok (.value (No K)) w:=λx u=>by
  rw[py func152 (by kernel_rfl) (by kernel_rfl) (by kernel_rfl) (e:=Extern.SlicesOverlaps.overlaps #[113,113] #[4]) (by kernel_rfl),
   Lib.run_overlaps_apart w 113 4 104 underlying113 2 AR ⟨d,0,Y⟩ ⟨g,(i+1)*2,Y⟩ 1 1 x u C 104 104 2 (c*2) (by rw[<-s];exact q.shape) (by rw[<-F];exact o.shape) (by omega) (q.frozen 0) (q.frozen 2)]
  rfl
 have H:Z (b.drop (i*2))=(n-i)*2:=by rw[mG,P];omega
 have I:Nat.min (n+1-i) (n-i)=n-i:=by simp only[pN];split<;>omega
 have A:∀m f y,(Builtin.copy_ #[113,113] m #[U (V ⟨g,(i+1)*2,Y⟩) (n-i) f,U (V ⟨g,i*2,Y⟩) (n+1-i) y]).run prog w.drew=.ok (goInt ((n-i:Nat):Int)) (w.drew.setCells g ((i+1)*2) (b.drop (i*2))):=λm f y=>by
  have h:=Gn w.drew 113 113 m 104 2 g ((i+1)*2) (n-i) f ⟨g,i*2,Y⟩ (n+1-i) y (b.drop (i*2)) underlying113 E (by rw[H,I])
   (λj v a=>by rw[ou];exact G (i*2+j) v (by rwa [ph]at a))
   (λj a=>N _ (by omega)) (λj a=>Q _) (λv hv=>AB v (oD hv))
  rw[I]at h;exact h
 obtain⟨k,p⟩:∃k,k=w.drew.setCells g ((i+1)*2) (b.drop (i*2)):=⟨_,rfl⟩;have t:AI k g (PA r ((i+1)*2) (b.drop (i*2))) 104:=by rw[p];exact o.drew.setCells _ _
 have z:AI k d l 104:=by rw[p];exact q.drew.kept (Ac.setCells (M:=[g]) (by simp) _ _ (SF _ _)) (by simpa using C)
 have D:Nat.min 1 (n+1-i)=1:=by simp only[pN];split<;>omega
 have T:∀m f,(Builtin.copy_ #[113,113] m #[U (V ⟨g,i*2,Y⟩) (n+1-i) f,U (V ⟨d,0,Y⟩) 1 1]).run prog k=.ok (goInt 1) (k.setCells g (i*2) l):=λm f=>by
  have h:=Gn k 113 113 m 104 2 g (i*2) (n+1-i) f ⟨d,0,Y⟩ 1 1 l underlying113 E (by rw[D,s])
   (λj v a=>by rw[ou,mC,z.cell];exact a)
   (λj a=>t.some _ (by rw[D5];omega)) (λj a=>t.frozen _) W
  rw[D]at h;exact h
 rw[<-p]at A;have BS:IntKind.i64.wrap ((i:Int)+1)=(i:Int)+1:=by rw[nU];omega
 have Bx:¬((i:Int)=(n:Int)):=by omega
 have B9:(0:Int)<=(i:Int)+1:=by omega
 have BB:i<=n:=by omega
 have A2:((i:Int)+1).toNat=i+1:=by omega
 have BT:¬(c=i+1):=by omega
 have CL:(i:Int)<=(n:Int)+1:=by omega
 have B2:¬(c=i):=by omega
 have mixed:prog.follows Departure.mixedOrders=Cm:=by kernel_rfl
 have AH:=Ab p;clear o q t z G N Q p H P F B s;go_enter func105,ntmps105;go_wp2_with (simp only[Ax])
 go_region_law_o (refine step_copy_runI rfl _ _ 113 113 rfl _ _ (by simp[Act.eval,Act.put]) (by simp[Act.eval,Act.put]) (A _ _ _) ?_)
 go_wp2_with (at_builtin;refine wpList_copy_runI _ rfl _ _ 113 113 rfl _ _ rfl rfl (T _ _) ?_)
 go_ret;exact⟨rfl,by rw[Aa AH]⟩
theorem bS(g n c i o:Nat)(f t d:QC Hs)(w:Hq)(hi:i<n)(Go:n<=c)(DT:c<n+1)(HC:n<=1000000)
  (A1:Z f=n*2) (I:Z d=2) (y:AI w g t 104) (E0:Z t=c*2) (A:t.take (n*2)=f) (H:AI w o d 104) (EY:∀v∈f,v.oneCell'=Cm) (CL:∀v∈d,v.oneCell'=Cm):
  Calls prog 105 #[U (V ⟨g,0,Y⟩) n c,X J i,U (V ⟨o,0,Y⟩) 1 1] w λe w'=>
   ∃(a:QC Hs) (G:Nat),Z a=G*2/\n+1<=G/\G<=maxLen/\a.take (i*2)=f.take (i*2)/\e=G3 (U (V ⟨w.heap.size,0,Y⟩) (n+1) G)/\
   w'=(((w.alloc (Dj (D6 a) 104)).drew.setCells w.heap.size (i*2) d).drew).setCells w.heap.size ((i+1)*2) (f.drop (i*2)):=by
 obtain⟨i0,BB,B2,AR,A2⟩:=mH Tryz.zD;have mixed:prog.follows Departure.mixedOrders=Cm:=by kernel_rfl
 have T:(prog.info? 104).map (·.size)=V 2:=by rw[BB];simp[AR]
 have FL:=y.lt;have FF:=H.lt;have P:(n:Int)+1-(i:Int)=((n+1-i:Nat):Int):=by omega
 have D:i+(n+1-i)=n+1:=by omega
 have AH:∀j v,f[j]?=V v->Lc w ⟨g,j,Y⟩=V v:=λj v b=>by
  rw[y.cell];rw[<-A,nI]at b;split at b
  .exact b
  .cases b
 have R:(Builtin.firstCells i0.size i (U (V ⟨g,0,Y⟩) i c)).run prog w.drew=.ok (D6 (f.take (i*2))) w.drew:=by
  rw[AR];exact run_firstCells_some w.drew 2 i ⟨g,0,Y⟩ i c (f.take (i*2)) (by rw[mB];omega) (λj v b=>by
   rw[ou,mC]
   rw[nI]at b
   split at b
   .exact AH j v b
   .cases b)
 obtain⟨m,C⟩:∃m:Array Hs,(Ms #[O ⟨#[]⟩,U Y 0 0]).cells=m:=⟨_,rfl⟩;have AT:m.size=2:=by rw[<-C];rfl
 have s:∀k,(Builtin.append_ #[113,3] k #[U (V ⟨g,0,Y⟩) i c,X J ((n:Int)+1-(i:Int))]).run prog w=
   .ok (U (V ⟨w.heap.size,0,Y⟩) (n+1) (grownCap w (n+1) c 104)) (w.drew.alloc (Dj (D6 (f.take (i*2))++Builtin.zeroCells m (n+1-i)++Builtin.zeroCells m (grownCap w (n+1) c 104-(n+1))) 104)):=λk=>by
  have h:=Lib.run_append_grow_zeros w 113 3 k 104 i0 _ J J underlying113 underlying3 BB B2 (V ⟨g,0,Y⟩) i c (f.take (i*2)) R (n+1-i) (by omega) (by omega) (by omega) (by omega) (by rw[A2];omega) (by rw[A2,D];exact growslice_fits DT (by omega));rw[D,C]at h;rw[P];exact h
 obtain⟨G,u⟩:∃G,G=grownCap w (n+1) c 104:=⟨_,rfl⟩;obtain⟨a,r⟩:∃a:QC Hs,D6 a=D6 (f.take (i*2))++Builtin.zeroCells m (n+1-i)++Builtin.zeroCells m (G-(n+1)):=⟨_,Array.toArray_toList⟩;rw[<-u]at s;rw[<-r]at s;have FA:n+1<=G:=by rw[u];exact grownCap_ge w _ _ _
 have B:G<=maxLen:=by rw[u];exact grownCap_le_maxLen w (n+1) c 104 (by unfold maxLen;omega)
 have BS:Z a=G*2:=by
  have:=congrArg Array.size r;simp[Builtin.zeroCells,AT]at this;omega
 have AB:a.take (i*2)=f.take (i*2):=by
  have h:=congrArg Array.toList r;simp only[Array.toList_append,mO]at h;rw[h,mN (by simp;omega)];simp[o9]
 obtain⟨N,hN⟩:=QP w.heap.size;have q:AI (w.drew.alloc (Dj (D6 a) 104)) N a 104:=by rw[<-hN];exact Tc w.drew a 104
 have Q:AI (w.drew.alloc (Dj (D6 a) 104)) o d 104:=H.drew.alloc _;have S:Nat.min 1 (n+1-i)=1:=by simp only[pN];split<;>omega
 have EM:∀(W:Hq),(∀x,Lc W x=Lc (w.drew.alloc (Dj (D6 a) 104)) x)->(∀x,W.frozen? x=(w.drew.alloc (Dj (D6 a) 104)).frozen? x)->∀k l,(Builtin.copy_ #[113,113] k #[U (V ⟨N,i*2,Y⟩) (n+1-i) l,U (V ⟨o,0,Y⟩) 1 1]).run prog W=.ok (goInt 1) (W.setCells N (i*2) d):=λW p E k l=>by
  have h:=Gn W 113 113 k 104 2 N (i*2) (n+1-i) l ⟨o,0,Y⟩ 1 1 d underlying113 T (by rw[S,I])
   (λj v b=>by rw[ou,mC,p,Q.cell];exact b)
   (λj b=>by rw[p];exact q.some _ (by omega)) (λj b=>by rw[E];exact q.frozen _) CL
  rw[S]at h;exact h
 have z:AI ((w.drew.alloc (Dj (D6 a) 104)).setCells N (i*2) d) N (PA a (i*2) d) 104:=q.setCells _ _;have L:AI ((w.drew.alloc (Dj (D6 a) 104)).setCells N (i*2) d) g t 104:=(y.drew.alloc _).kept (Ac.setCells (M:=[N]) (by simp) _ _ (SF _ _)) (by simp;omega);have AO:Z (f.drop (i*2))=(n-i)*2:=by rw[mG,A1];omega
 have A0:Nat.min (n-i) (n-i)=n-i:=Nat.min_self _;have Bx:∀(W:Hq),(∀x,Lc W x=Lc ((w.drew.alloc (Dj (D6 a) 104)).setCells N (i*2) d) x)->(∀x,W.frozen? x=((w.drew.alloc (Dj (D6 a) 104)).setCells N (i*2) d).frozen? x)->∀k l F,(Builtin.copy_ #[113,113] k #[U (V ⟨N,(i+1)*2,Y⟩) (n-i) l,U (V ⟨g,i*2,Y⟩) (n-i) F]).run prog W=.ok (goInt ((n-i:Nat):Int)) (W.setCells N ((i+1)*2) (f.drop (i*2))):=λW p E k l F=>by
  have h:=Gn W 113 113 k 104 2 N ((i+1)*2) (n-i) l ⟨g,i*2,Y⟩ (n-i) F (f.drop (i*2)) underlying113 T (by rw[AO,A0])
   (λj v b=>by
    rw[ou,p,L.cell]
    rw[ph,<-A,nI]at b
    split at b
    .exact b
    .cases b)
   (λj b=>by rw[p];exact z.some _ (by rw[D5];omega))
   (λj b=>by rw[E];exact z.frozen _) (λv hv=>EY v (oD hv))
  rw[A0]at h;exact h
 have CC:∀x,Lc ((w.alloc (Dj (D6 a) 104)).drew) x=Lc (w.drew.alloc (Dj (D6 a) 104)) x:=λx=>rfl
 have FB:∀x,((w.alloc (Dj (D6 a) 104)).drew).frozen? x=(w.drew.alloc (Dj (D6 a) 104)).frozen? x:=λx=>rfl
 have EX:∀x,Lc (((w.alloc (Dj (D6 a) 104)).drew.setCells N (i*2) d).drew) x=Lc ((w.drew.alloc (Dj (D6 a) 104)).setCells N (i*2) d) x:=λx=>rfl
 have EK:∀x,(((w.alloc (Dj (D6 a) 104)).drew.setCells N (i*2) d).drew).frozen? x=((w.drew.alloc (Dj (D6 a) 104)).setCells N (i*2) d).frozen? x:=λx=>rfl
 have HA:IntKind.i64.wrap ((i:Int)+1)=(i:Int)+1:=by rw[nU];omega
 have FT:¬((i:Int)=(n:Int)):=by omega
 have HE:(c:Int)<(n:Int)+1:=by omega
 have HG:(0:Int)<=(i:Int)+1:=by omega
 have FW:i<=n:=by omega
 have FO:((i:Int)+1).toNat=i+1:=by omega
 have HH:(i:Int)<=(n:Int):=by omega
 have HF:¬(G=i):=by omega
 have FP:¬(G=i+1):=by omega
 have HB:¬(c=i):=by omega
 have Ha:G<=9223372036854775807:=by unfold maxLen at B;omega
 have BT:=Ab BS;have B9:=Ab AB;have ES:=Ab B;rw[hN]at s⊢;clear P D R r u BS AB B y H q Q z L AH AO A1 E0 A I AT C;go_enter func105,ntmps105;go_wp2_with (first
  |(at_builtin;refine Lib.wpList_append_run _ rfl _ _ _ _ rfl _ _ rfl rfl _ _ (s _) ?_)
  |(at_builtin;refine wpList_copy_runI _ rfl _ _ 113 113 rfl _ _ rfl rfl (EM _ CC FB _ _) ?_)
  |(at_builtin;refine wpList_copy_runI _ rfl _ _ 113 113 rfl _ _ rfl rfl (Bx _ (λ_=>rfl) (λ_=>rfl) _ _ _) ?_))
 go_region_law_o (refine step_copy_runI rfl _ _ 113 113 rfl (U (V ⟨N,(i+1)*2,Y⟩) (n-i) (G-(i+1))) (U (V ⟨g,i*2,Y⟩) (n-i) (c-i)) (by simp[Act.eval,Act.put]) (by simp[Act.eval,Act.put]) (Bx _ EX EK 3 (G-(i+1)) (c-i)) ?_)
 go_wp2;go_ret;exact⟨a,G,BT,FA,ES,B9,rfl,rfl⟩
def Tx{α:Type}(f:α->QC Hs)(a:Nat):∀(l:QC α) (i:Nat),(∀x∈l,Z (f x)=a)->i<=Z l->(l.take i).flatMap f=(l.flatMap f).take (i*a)/\(l.drop i).flatMap f=(l.flatMap f).drop (i*a)
 |l,0,_,_=>by simp
 |[],i+1,_,h=>by simp at h
 |x::l,i+1,hl,h=>by
  have ih:=Tx f a l i (λy b=>hl y (my _ b)) (by simpa using h);have c:=hl x (mV ..);simp only[oy,oM,mc,ih.1,ih.2];have e:(i+1)*a=Z (f x)+i*a:=by rw[c,nR];omega
  rw[e];exact⟨by rw[List.take_length_add_append],by rw[List.drop_length_add_append]⟩
def dX{b a c:QC Hs}(q:b.take (n*m)=a)(k:Z a=n*m)(e:Z c=m)(p:i<=n)(o:(n+1)*m<=Z b):
  (PA (PA b ((i+1)*m) (a.drop (i*m))) (i*m) c).take ((n+1)*m)=a.take (i*m)++c++a.drop (i*m):=by
 have g:(i+1)*m=i*m+m:=by rw[nR];omega
 have f:(n+1)*m=n*m+m:=by rw[nR];omega
 have l:i*m<=n*m:=mF _ p;rw[f]at o;rw[g,f];generalize i*m=I at*;generalize n*m=M at*;have d:Z (a.drop I)=M-I:=by rw[mG,k]
 rw[Ip c _ I (by rw[D5];omega),Ip (a.drop I) b (I+m) (by rw[d];omega)];have h:(b.take (I+m)++a.drop I++b.drop (I+m+Z (a.drop I))).take I=a.take I:=by
  rw[mO,mN (by simp;omega),o9,oB (by omega),<-q,o9,oB l]
 have j:(b.take (I+m)++a.drop I++b.drop (I+m+Z (a.drop I))).drop (I+Z c)=a.drop I++b.drop (I+m+Z (a.drop I)):=by
  rw[e,mO,List.drop_append_of_le_length (by simp;omega),List.drop_of_length_le (by simp;omega),mR]
 rw[h,j,<-mO,mN (by simp[d,e];omega),lH (by simp[d,e];omega)]
def ZC(p:Fh):Z (A8 p)=2:=rfl
def cC(a:QC Fh)(i:Nat)(x:Fh)(b:i<=Z a):(a.take i++x::a.drop i).flatMap A8=(a.flatMap A8).take (i*2)++A8 x++(a.flatMap A8).drop (i*2):=by
 have h:=Tx A8 2 a i (λp _=>ZC p) b;rw[mm,mc,h.1,h.2,mO]
def cG(a:QC Fh):Z (a.flatMap A8)=Z a*2:=by
 induction a with
 |nil=>rfl
 |cons p a ih=>simp only[mc,lU,ih,ZC,lQ];omega
theorem VO(q:Option Addr)(f:Nat)(b:QC Fh)(i:Nat)(x:Fh)(t n:Nat)(w:Hq)(p:Mi w t 104 2 (U q (Z b) f) (Z b) (b.flatMap A8))(EY:Z b<=1000000)(hi:i<=Z b)(C:AI w n (A8 x) 104)(BS:(U q (Z b) f).ownBlock≠V n)(H:t<=w.heap.size)
  (v:∀u∈b.flatMap A8,u.oneCell'=Cm) (N:∀u∈A8 x,u.oneCell'=Cm):
  Calls prog 105 #[U q (Z b) f,X J i,U (V ⟨n,0,Y⟩) 1 1] w λe y=>∃g cp,e=G3 (U (V ⟨g,0,Y⟩) (Z b+1) cp)/\Mi y t 104 2 (U (V ⟨g,0,Y⟩) (Z b+1) cp) (Z b+1) ((b.take i++x::b.drop i).flatMap A8)/\Ac (U q (Z b) f).ownBlock.toList w y/\((U q (Z b) f).ownBlock=V g\/w.heap.size<=g):=by
 have m:=cG b;have l:=ZC x;rw[cC b i x hi];by_cases E0:i=Z b
 .subst E0;obtain⟨i0,Bx,T,Ax,AH⟩:=mH Tryz.zD;have r:JR ((b.flatMap A8).take (Z b*2)++A8 x++(b.flatMap A8).drop (Z b*2)=b.flatMap A8++A8 x):=by
   show _=_;rw[lH (by omega),mp (by omega),mz]
  have B:JR (∀j u,(A8 x)[j]?=V u->Lc w ((⟨n,0,Y⟩:Addr).add j)=V u):=λj u hu=>by rw[ou,mC,C.cell];exact hu
  have Q:=Ab p;have D:=Ab N;clear C v;cases q with
  |none=>
   have A1:Z b=0:=by
    rcases p.2 with⟨d,s⟩|⟨g,c,o,d,_⟩
    .exact s
    .simp at d
   have B0:f=0:=by
    rcases p.2 with⟨d,s⟩|⟨g,c,o,d,_⟩
    .simp only[lB]at d;exact d.2.2
    .simp at d
   subst B0;have B2:b=[]:=nK.1 A1;subst B2;clear p A1;simp only[mn,mS]at Q r⊢;generalize A8 x=xs at B D r l⊢;go_enter func105,ntmps105;go_wp2_with (at_builtin;refine me _ rfl _ _ _ rfl t 104 i0 _ 2 40 underlying113 Bx T Ax AH rfl (by omega) (U Y 0 0) 0 [] rfl Q ⟨n,0,Y⟩ 1 1 xs rfl (by omega) B D (by omega) (by unfold maxLen;omega) (by omega) H _ rfl ?_;intro M I w9 z L E FP)
   go_ret;rw[Aa r];refine⟨M,I,rfl,z,(SF _ w).grown L (λk F=>Hd (by rw[nX];exact F)),?_⟩;rcases E with h|h
   .exact Hd h
   .exact Hf (by omega)
  |some a=>
   obtain⟨ab,ao,FC⟩:=a;have EM:ao=0/\FC=Y:=by
    rcases p.2 with⟨d,s⟩|⟨g,c,o,d,_⟩
    .simp at d
    .simp only[lB,lL,mu]at d;exact d.1.2
   obtain⟨rfl,rfl⟩:=EM;have ES:Z b<=f/\f<=maxLen:=by
    rcases p.2 with⟨d,s⟩|⟨g,c,o,d,_,_,v,h2,_⟩
    .simp at d
    .simp only[lB]at d;rw[d.2.2];exact⟨v,h2⟩
   obtain⟨BA,A⟩:=ES;unfold maxLen at A;clear p;generalize A8 x=xs at B D r l⊢;go_enter func105,ntmps105;go_wp2_with (at_builtin;refine me _ rfl _ _ _ rfl t 104 i0 _ 2 40 underlying113 Bx T Ax AH rfl (by omega) (U (V ⟨ab,0,Y⟩) (Z b) f) (Z b) (b.flatMap A8) rfl Q ⟨n,0,Y⟩ 1 1 xs rfl (by omega) B D (by omega) (by unfold maxLen;omega) (by omega) H _ rfl ?_;intro M I w9 z L E FP)
   all_goals
    go_ret;refine⟨M,I,rfl,(by first|(rw[Aa r];exact z)|(rw[<-mO,Aa r];exact z)),(SF _ w).grown L (λk F=>Hd (by rw[nX];exact F)),?_⟩;rcases E with h|h
    .exact Hd h
    .exact Hf (by omega)
 .have AR:i<Z b:=by omega
  rcases p.2 with⟨d,s⟩|⟨g,c,o,d,hb,FW,BA,A,FF,CC⟩
  .omega
  .simp only[lB]at d;obtain⟨rfl,_,rfl⟩:=d;(have CL:n≠g:=λe=>BS (by simp[OC,e]));(have S:AI w g o.toList 104:=by unfold AI;simpa using FW);(have AO:Z o.toList=f*2:=by simpa using FF);have R:o.toList.take (Z b*2)=b.flatMap A8:=CC;by_cases W:Z b+1<=f
   .refine(Zm g (Z b) f i n (b.flatMap A8) o.toList (A8 x) w AR W (by unfold maxLen at A;omega) CL m l S AO R C v N).mono ?_;rintro e y ⟨rfl,rfl⟩;have P:=(S.drew.setCells ((b.flatMap A8).drop (i*2)) ((i+1)*2)).setCells (A8 x) (i*2);refine⟨g,f,rfl,⟨?_,Hf ⟨g,f,_,rfl,hb,P,W,A,?_,?_⟩⟩,?_,Hd rfl⟩
    .simp only[lU,mB,mG,m,l];omega
    .simp only[mW,D5];omega
    .exact dX R m l hi (by omega)
    .exact Ac.setCells (by simp[OC]) _ _ (Ac.setCells (by simp[OC]) _ _ (SF _ w).drew)
   .refine(bS g (Z b) f i n (b.flatMap A8) o.toList (A8 x) w AR BA (by omega) EY m l S AO R C v N).mono ?_;rintro e y ⟨A0,G,Go,FL,BT,FA,rfl,rfl⟩;have P:=((Tc w A0 104).drew.setCells (A8 x) (i*2)).drew.setCells ((b.flatMap A8).drop (i*2)) ((i+1)*2);(have hd:Z ((b.flatMap A8).drop (i*2))=(Z b-i)*2:=by rw[mG,m];omega);refine⟨w.heap.size,G,rfl,⟨?_,Hf ⟨w.heap.size,G,_,rfl,H,P,FL,BT,?_,?_⟩⟩,?_,Hf (lX _)⟩
    .simp only[lU,mB,mG,m,l];omega
    .simp only[mW,D5];omega
    .rw[Ip _ _ _ (by rw[D5,hd];omega),Ip _ _ _ (by rw[l];omega),FA];have e1:(List.take (i*2) (b.flatMap A8)++A8 x++List.drop (i*2+Z (A8 x)) A0).take ((i+1)*2)=List.take (i*2) (b.flatMap A8)++A8 x:=by
      rw[mN (by simp only[lU,mB,m,l];omega),lH (by simp only[lU,mB,m,l];omega)]
     rw[e1,mN (by simp only[lU,mB,mG,m,l];omega),lH (by simp only[lU,mB,mG,m,l];omega)]
    .exact Ac.setCells (Hf (lX _)) _ _ (Ac.setCells (Hf (lX _)) _ _ ((SF _ w).alloc _).drew).drew
def Bg{i n e f s1 s2 l o:Nat}{v1 h:Hs}(m:Mi w i e s1 v1 l y)(k:Mi w n f s2 h o x)(j:e≠f)(q:Nat)(a:v1.ownBlock=V q):h.ownBlock≠V q:=λd=>by
 rcases m.2 with⟨rfl,_⟩|⟨g,c,r,rfl,_,p,_⟩
 .simp[OC]at a
 .rcases k.2 with⟨rfl,_⟩|⟨t,s,u,rfl,_,b,_⟩
  .simp[OC]at d
  .simp only[OC,lL]at a d;subst a;subst d;rw[p]at b;simp only[lL,Obj.cells.injEq]at b;exact j b.2.1
def As{v1:Hs}(f:Mi w n m k v1 i y)(a:AI w b x T)(e:m≠T):v1.ownBlock≠V b:=λd=>by
 rcases f.2 with⟨rfl,_⟩|⟨g,c,j,rfl,_,h,_⟩
 .simp[OC]at d
 .simp only[OC,lL]at d;subst d;unfold AI at a;rw[h]at a;simp only[lL,Obj.cells.injEq]at a;exact e a.2.1
def fM{p:Fh}(h:Ek w p):∀u∈A8 p,u.oneCell'=Cm:=by
 obtain⟨c,b,e⟩:=Ak h;intro u a;simp only[A8,lI,mQ,or_false]at a;rcases a with rfl|rfl
 .rfl
 .rw[e];rfl
def Jr.one{a:QC Fh}(h:Jr w z a):∀u∈a.flatMap A8,u.oneCell'=Cm:=λu c=>by
 obtain⟨p,b,d⟩:=mD.1 c;exact fM (h.each p b).1 u d
def MM(fs:QC Fh)(x:Fh)(p:Nat):QC Fh:=if E5 fs x.f p then fs else fs.take p++x::fs.drop p
structure U6(sb so:Nat)(cells:QC Hs)(ty:TypeId)(sv:Hs)(fs:QC Fh)(x:Fh)(w w':Hq):Prop where
 out:∃(p:Nat) (ad:Option Addr) (cp:Nat),Gu fs x.f p/\AI w' sb (cells.set so (U ad (Z (MM fs x p)) cp)) ty/\Jr w' (U ad (Z (MM fs x p)) cp) (MM fs x p)/\∀q,(U ad (Z (MM fs x p)) cp).ownBlock=V q->sv.ownBlock=V q\/w.heap.size<=q
 kept:Ac (sb::sv.ownBlock.toList) w w'
theorem R7(k b:Nat)(E:QC Hs)(H:TypeId)(d:Option Addr)(c:Nat)(a:QC Fh)(x:Fh)(w:Hq)(T:AI w k E H)(AB:E[b]?=V (U d (Z a) c))(B2:104≠H)(HJ:170≠H)(h:Jr w (U d (Z a) c) a)(P:Ek w x)(AR:Z x.f.bc<=1000)(HS:Z a<=900000)(FO:∀i j (hi:i<Z a) (hj:j<Z a),i<=j->CQ a[j].f x.f<0->CQ a[i].f x.f<0):
  Calls prog 61 #[Gi (V ⟨k,b,Y⟩),Ms (D6 (A8 x))] w λe r=>e=G3 (.tuple #[])/\U6 k b E H (U d (Z a) c) a x w r:=by
 have H4:=T.lt;have AH:JR (∀wr,Ac [] w wr->Calls prog 103 #[U d (Z a) c,Ms (D6 (A8 x)),.func (.func 104) #[] #[]] wr λe r=>∃p:Nat,e=G3 (.tuple #[X J p,No (E5 a x.f p)])/\Gu a x.f p/\Ac [] wr r):=λwr hk=>KZ d c a x wr (h.kept hk) (P.kept hk) AR (by omega) FO
 have HB:=Ab T;have HP:=Ab h;have HX:=Ab P;have HO:=Ab AR;obtain⟨m,o,E0⟩:=Ak P;obtain⟨t,H6,Q⟩:∃n v,A8 x=[O n,v]/\v=U m (Z x.f.bc) o:=⟨_,_,rfl,E0⟩;obtain⟨Q,rfl⟩:=Q;have BT:=Ab Q;generalize Z x.f.bc=xl at BT;rw[Aa BT]at AH⊢;clear Q E0;have hK:=(SF [] w).alloc (Dj [O t,U m xl o].toArray 104);have c0:=(T.alloc (Dj [O t,U m xl o].toArray 104)).cell b;rw[AB]at c0;have FC:=Ab AB;have HC:JR (E.set b (U d (Z a) c)=E):=by
  show _=_;obtain⟨HV,e⟩:=pr.1 AB;rw[<-e,List.set_getElem_self]
 clear AB;have F:=Tc w [O t,U m xl o] 104;have S:=Ab hK;clear h P AR FO hK T;go_enter func61,ntmps61;go_wp2_with fail
 change Code.wp _ _ _ _ (w.alloc (Dj [O t,U m xl o].toArray 104));generalize w.alloc (Dj [O t,U m xl o].toArray 104)=w1 at S c0 F⊢;obtain⟨N,BB⟩:=QP w.heap.size;rw[BB]at F⊢;have H5:=Ab BB;clear BB;have x0:=F.cell 0;have x1:=F.cell 1;simp at x0 x1;have HN:=Ab F;have DT:=Ab (AH w1.drew S.drew);clear AH F
 go_region_law (go_simp;go_at_call 103;refine DT.mono ?_;rintro e l ⟨p,rfl,hcut,k3⟩;have D:=Ab hcut;have B:=Ab (S.drew.trans k3);have R:=Ab (HN.drew.kept k3);clear hcut k3)
 all_goals
  clear DT c0 x0 x1;have u:=Ab (HP.kept B);have I:=Ab (HB.kept B);have EY:=Ab (HX.kept B);obtain⟨HT,A1⟩:=QP (E5 a x.f p);have A0:=Ab A1;rw[A1];clear A1;have H3:=B.size;cases HT with
  |true=>
   (have y:JR (MM a x p=a):=by show _=_;unfold MM;rw[Aa A0,lS rfl]);go_wp2;go_end0;refine⟨rfl,⟨p,d,c,D,?_,?_,?_⟩,B.mono (by simp)⟩
   .rw[Aa y,Aa HC];exact I
   .rw[Aa y];exact u
   .rw[Aa y];exact λq C=>Hd C
  |false=>
   (have y:JR (MM a x p=a.take p++x::a.drop p):=by show _=_;unfold MM;rw[Aa A0,lO (by simp)]);have G:JR (Z (a.take p++x::a.drop p)=Z a+1):=by
    show _=_;have:=D.le;simp only[lU,mB,lQ,mG];omega
   have FW:JR (∀A,(A=(l.drew).alloc (Dj #[O t,U m xl o] 104)\/A=(l.alloc (Dj #[O t,U m xl o] 104)).drew)->Calls prog 105 #[U d (Z a) c,X J p,U (V ⟨l.heap.size,0,Y⟩) 1 1] A λe r=>∃g z,e=G3 (U (V ⟨g,0,Y⟩) (Z a+1) z)/\Lc r ⟨k,b,Y⟩=V (U d (Z a) c)/\r.frozen? ⟨k,b,Y⟩=K/\U6 k b E H (U d (Z a) c) a x w (r.setCell ⟨k,b,Y⟩ (U (V ⟨g,0,Y⟩) (Z a+1) z))):=by
    intro A EM;have L:Ac [] l A:=by
     rcases EM with rfl|rfl
     .exact(SF [] l).drew.alloc _
     .exact((SF [] l).alloc _).drew
    have HR:AI A l.heap.size (A8 x) 104:=by
     rw[Aa BT];rcases EM with rfl|rfl
     .exact Tc l.drew [O t,U m xl o] 104
     .exact(Tc l [O t,U m xl o] 104).drew
    have W:=u.kept L;(have Ha:(U d (Z a) c).ownBlock≠V l.heap.size:=λe=>by have:=(u.row.lt _ e).2;omega);refine(VO d c a p x 0 l.heap.size A W.row (by omega) D.le HR Ha (lW _) W.one (fM HX)).mono ?_;rintro e r ⟨g,z,rfl,FF,AO,hg⟩;have CL:=I.kept L;(have HQ:k∉(U d (Z a) c).ownBlock.toList:=λhm=>As W.row CL B2 (by simpa using hm));have M:=CL.kept AO HQ;have EX:=M.cell b;rw[Aa FC]at EX;have HD:Ac (k::(U d (Z a) c).ownBlock.toList) w r:=((B.trans L).mono (by simp)).trans (AO.mono (λi hi=>my _ hi));have HG:(U (V ⟨g,0,Y⟩) (Z a+1) z).ownBlock≠V k:=As FF M B2;have HH:=Ah FF (p:=⟨k,b,Y⟩) HG (U (V ⟨g,0,Y⟩) (Z a+1) z);refine⟨g,z,rfl,EX,M.frozen b,⟨p,V ⟨g,0,Y⟩,z,D,?_,?_,?_⟩,HD.setCell (p:=⟨k,b,Y⟩) (Hd (mV ..)) _⟩
    .rw[Aa y,Aa G];exact M.set b _
    .rw[Aa y,Aa G];refine⟨by rw[Aa G];exact HH,λq C=>?_⟩;have ES:Ek l q/\Z q.f.bc<=1000:=by
      rcases lV.1 C with s|s
      .exact⟨(u.each q (nk s)).1,(u.each q (nk s)).2⟩
      .rcases lI.1 s with rfl|s
       .exact⟨EY,HO⟩
       .exact⟨(u.each q (oD s)).1,(u.each q (oD s)).2⟩
     have B0:=ES.1.kept L;have FB:Mi r 0 170 1 q.tv (Z q.f.bc) (q.f.bc.flatMap Ag):=Ai B0 AO (λi hi hm=>Bg B0 W.row (by decide) i hi (by simpa using hm));exact⟨Ah FB (p:=⟨k,b,Y⟩) (As FB M HJ) _,ES.2⟩
    .rw[Aa y,Aa G];intro q C;simp only[OC,lL]at C;rcases hg with s|s
     .exact Hd (by rw[<-C];exact s)
     .exact Hf (by have:=L.size;omega)
   have y0:=I.cell b;rw[Aa FC]at y0;have z0:=R.cell 0;have z1:=R.cell 1;simp at z0 z1;have H2:=D.le;have HY:=R.lt;have HZ:k<l.heap.size:=I.lt;clear HP HB HX S HN u I EY D y G A0 R;go_wp2_with fail
   go_region_law (go_simp;go_at_call 105;refine(FW _ (by first|exact Hd rfl|exact Hf rfl)).mono ?_;rintro e w4 ⟨g,z,rfl,H1,HW,B9⟩;have HF:=Ab B9;clear B9)
   all_goals
    clear FW;go_wp2;go_end0;exact⟨rfl,HF⟩
def Up(z:Hs)(n:Nat):(madeCells #[z] n).toList=NP n z:=by
 apply List.ext_getElem
 .simp[madeCells]
 .intro i a b;simp[madeCells];rw[Nat.mod_one];rfl
def FJ(b:QC bC)(ts:QC AY)(k:Nat):QC Hs:=((ts.take k).map λt=>O (BJ b t))++NP (Z ts-k) (O ⟨#[]⟩)
def Wc(b:QC bC)(a:QC AY):FJ b a 0=NP (Z a) (O ⟨#[]⟩):=by simp[FJ]
def X9(b:QC bC)(a:QC AY)(k:Nat)(h:k<=Z a):Z (FJ b a k)=Z a:=by simp[FJ];omega
def Y4(b:QC bC)(a:QC AY)(k:Nat)(h:k<Z a):(FJ b a k).set k (O (BJ b a[k]))=FJ b a (k+1):=by
 unfold FJ;rw[lF h,mx,show Z a-k=(Z a-(k+1))+1 by omega,List.replicate_succ];rw[pP _ _ (by simp;omega)];simp;rw[oB (by omega),Nat.sub_self];rfl
def Y7(b:QC bC)(a:QC AY):FJ b a (Z a)=(a.map (BJ b)).flatMap Ag:=by
 unfold FJ;rw[nM,Nat.sub_self];simp only[List.replicate_zero,mz]
 induction a with
 |nil=>rfl
 |cons t a ih=>simp[Ag,ih]
theorem OO(D ty:Nat)(b:QC bC)(l:Int)(c:bC)(d:Option Addr)(j:Nat)(a:QC AY)(base:Nat)(w:Hq)(E:Z b=26)(hB:AI w D (Aj b) ty)(hr:Mi w base 215 2 (.slice d (Z a) j) (Z a) (a.flatMap Ar))(HI:Z a<=100000)(hv:∀t∈a,P4 t):
  Calls prog 196 #[Gi (V ⟨D,0,Y⟩),Ms #[X J l,O c,.slice d (Z a) j]] w λr C=>∃g,r=G3 (Ms #[O c,.slice (V ⟨g,0,Y⟩) (Z a) (Z a)])/\Mi C w.heap.size 170 1 (.slice (V ⟨g,0,Y⟩) (Z a) (Z a)) (Z a) ((a.map (BJ b)).flatMap Ag)/\Ac [] w C:=by
 obtain⟨i0,HB,DT,FA,FL⟩:=mH Tryz.zC;have HT:JR (∀t∈a,∀x,Ac [] w x->Calls prog 180 #[Gi (V ⟨D,0,Y⟩),Ms #[X M8 t.v,O t.s]] x λr C=>r=G3 (O (BJ b t))/\Ac [] x C):=λt ht x L=>LI D ty b t x E (hB.kept L) (hv t ht)
 have HA:=Ab hr;obtain⟨N,A⟩:=QP w.heap.size;have m:JR (AI ((w.alloc (Dj #[X J l,O c,.slice d (Z a) j] 187)).alloc (Dj #[O ⟨#[]⟩,.slice Y 0 0] 104)) N [X J l,O c,.slice d (Z a) j] 187):=by rw[<-A];exact(Tc w [X J l,O c,.slice d (Z a) j] 187).alloc _
 have f:JR (AI ((w.alloc (Dj #[X J l,O c,.slice d (Z a) j] 187)).alloc (Dj #[O ⟨#[]⟩,.slice Y 0 0] 104)) (N+1) [O ⟨#[]⟩,.slice Y 0 0] 104):=by
  have h:=Tc (w.alloc (Dj #[X J l,O c,.slice d (Z a) j] 187)) [O ⟨#[]⟩,.slice Y 0 0] 104;simp only[mt,A]at h;exact h
 have S:=Ab (((SF [] w).alloc (Dj #[X J l,O c,.slice d (Z a) j] 187)).alloc (Dj #[O ⟨#[]⟩,.slice Y 0 0] 104));have y:=Ab A;clear hr hv hB;go_enter func196,ntmps196;apply wp_seq_k;intro KK AT;have Ax:=Ab AT;clear AT;go_wp2;refine Ax _ _ ?_;clear Ax KK;rw[A];clear A;have Q:((w.alloc (Dj #[X J l,O c,.slice d (Z a) j] 187)).alloc (Dj #[O ⟨#[]⟩,.slice Y 0 0] 104)).heap.size=N+1+1:=by simp;exact y
 generalize(w.alloc (Dj #[X J l,O c,.slice d (Z a) j] 187)).alloc (Dj #[O ⟨#[]⟩,.slice Y 0 0] 104)=w1 at m f S Q⊢;have c2:=m.cell 2;simp at c2;go_wp2_with ((with_reducible show wpList _ _ _ ({dst:=_,op:=Op.makeSlice 102 _ _,type:=_,pos:=_,after:=_,guard:=_}::_) _ _);refine wpList_make_row _ rfl _ _ 102 rfl 170 i0 _ underlying102 HB DT FA rfl J J (Z a) (by rfl) (by rfl) (by rw[FL];omega) (by omega) ?_)
 have n:JR (Mi (w1.alloc (Dj (madeCells #[O ⟨#[]⟩] (Z a)) 170)) (N+1+1) 170 1 (.slice (V ⟨N+1+1,0,Y⟩) (Z a) (Z a)) (Z a) (FJ b a 0)):=by
  have h:=pm (e:=170) (size:=1) (base:=N+1+1) w1 (madeCells #[O ⟨#[]⟩] (Z a)) (Z a) (by omega) (by unfold maxLen;omega) (by rw[size_madeCells];omega);rw[Up,Q]at h;rw[Wc];exact h
 have W:=Ab (m.alloc (Dj (madeCells #[O ⟨#[]⟩] (Z a)) 170));have I:=Ab (f.alloc (Dj (madeCells #[O ⟨#[]⟩] (Z a)) 170));have o:=Ab (S.alloc (Dj (madeCells #[O ⟨#[]⟩] (Z a)) 170));clear m f S c2 Q;generalize w1.alloc (Dj (madeCells #[O ⟨#[]⟩] (Z a)) 170)=w2 at n W I o⊢
 go_loopg [15] (Z a) (λgk i wr=>∃(k:Nat),i=X J k/\k<=Z a/\gk=Z a-k/\JR (Mi wr (N+1+1) 170 1 (.slice (V ⟨N+1+1,0,Y⟩) (Z a) (Z a)) (Z a) (FJ b a k))/\JR (AI wr N [X J l,O c,.slice d (Z a) j] 187)/\JR (AI wr (N+1) [O ⟨#[]⟩,.slice Y 0 0] 104)/\JR (Ac [] w wr))
 case atStart=>exact⟨0,rfl,by omega,rfl,n,W,I,o⟩
 case round=>
  clear n W I o;obtain⟨k,rfl,L,AR,n,m,f,z⟩:=hrel;have HG:=Ab AR;clear AR;by_cases B:k<Z a
  .obtain⟨g,HH,he,d0,d1⟩:=Fx (Ad HA z) k B;simp only[lB]at he;obtain⟨rfl,_,rfl⟩:=he;obtain⟨T,H⟩:=QP (a[k]);have o:=Ab (z.alloc (Dj #[X M8 T.v,O T.s] 215));have P:=Ab (HT T (by rw[<-H];exact lE B) _ o);(have R:JR ((FJ b a k).set k (O (BJ b T))=FJ b a (k+1)):=by rw[<-H];exact Y4 b a k B);rw[H]at d0 d1;obtain⟨u,hV⟩:=QP (BJ b T);rw[hV]at P R;clear H hV;(have HJ:(0:Int)<=(k:Int):=by omega);(have HL:(k:Int)<(Z a:Int):=by omega);(go_wp2_with fail);refine P.mono ?_;rintro _ w3 ⟨rfl,M⟩;have F:Ac [] wr w3:=((SF [] wr).alloc _).trans M;have G:=Ad n F;have CC:=Ab (m.kept F);have AB:=Ab (f.kept F);have B0:=Ab (o.trans M);have y0:=G.cellAt k (by omega);have yf:=G.frozenAt k;(have B2:k<Z (FJ b a k):=by rw[X9 b a k L];exact B);rw[lN B2]at y0;generalize(FJ b a k)[k]=U at y0;have FT:JR (Mi (w3.setCell ⟨N+1+1,k,Y⟩ (O u)) (N+1+1) 170 1 (.slice (V ⟨N+1+1,0,Y⟩) (Z a) (Z a)) (Z a) (FJ b a (k+1))):=by
    rw[<-Aa R];exact BG G k _
   have Go:=Ab (CC.bI ⟨N+1+1,k,Y⟩ (show N+1+1≠N by omega) (O u));have FW:=Ab (AB.bI ⟨N+1+1,k,Y⟩ (show N+1+1≠N+1 by omega) (O u));have EX:=Ab (B0.setCell (p:=⟨N+1+1,k,Y⟩) (Hf (by have:=Aa y;show _<=N+1+1;omega)) (O u));clear P o z M F G d0 d1 m f n CC AB B0 R B2;go_wp2
   go_roundg (Z a-(k+1))
   case measure=>have:=Aa HG;omega
   case rel=>exact⟨k+1,by go_num,by omega,rfl,FT,Go,FW,EX⟩
  ·(have FC:k=Z a:=by omega);subst FC;have c1:=m.cell 1;have e0:=f.cell 0;have e1:=f.cell 1;have ef:=f.frozen;simp at c1 e0 e1;have FO:JR (AI ((wr.setCell ⟨N+1,0,Y⟩ (O c)).setCell ⟨N+1,1,Y⟩ (.slice (V ⟨N+1+1,0,Y⟩) (Z a) (Z a))) (N+1) [O c,.slice (V ⟨N+1+1,0,Y⟩) (Z a) (Z a)] 104):=(f.set 0 _).set 1 _;have FP:JR (Mi ((wr.setCell ⟨N+1,0,Y⟩ (O c)).setCell ⟨N+1,1,Y⟩ (.slice (V ⟨N+1+1,0,Y⟩) (Z a) (Z a))) N 170 1 (.slice (V ⟨N+1+1,0,Y⟩) (Z a) (Z a)) (Z a) ((a.map (BJ b)).flatMap Ag)):=by
    have h:=Aa n;rw[Y7]at h;(have E:∀q,(Value.slice (V ⟨N+1+1,0,Y⟩) (Z a) (Z a)).ownBlock=V q->q≠N+1:=λq hq=>by have:=(h.lt q hq).1;omega);exact Al (Ah (Ah h (λh=>E _ h rfl) _) (λh=>E _ h rfl) _) (by have:=Aa y;omega)
   have EY:=Ab ((z.setCell (p:=⟨N+1,0,Y⟩) (Hf (by have:=Aa y;show _<=N+1;omega)) (O c)).setCell (p:=⟨N+1,1,Y⟩) (Hf (by have:=Aa y;show _<=N+1;omega)) (.slice (V ⟨N+1+1,0,Y⟩) (Z a) (Z a)));clear m f n z;go_wp2;exact mj (Cg rfl rfl FO underlying104 rfl (by kernel_rfl)) rfl ⟨N+1+1,rfl,FP,EY⟩
def BW{g:Array Oper}{i:QC Oper}{c:Oper}(k:Region.wanted c (yielded g a.tmps)=Cm)(f:TypeId)(x:Operand)(l:c.op=.load f x)
  (b o:Nat) (r:a.eval x=Gi (V ⟨b,o,Y⟩)) (e:QC Hs) (d:TypeDesc) (p:w.rangeAt b o e)
  (n:P.underlying f=V d) (j:d.isRow=Cm) (q:(P.info? f).map (·.size)=V (Z e))
  (h:wpList P g Q i (a.put c.dst (Ms (D6 e))) w):wpList P g Q (c::i) a w:=
 wpList_step λs m=>by rw[lS k];exact wp_load_mid f x l b o r e d p n j q (m _ _ h)
def Fu(b:QC bC)(x:PL):C9:=⟨x.an,x.ts.map (BJ b)⟩
def Kz(fs:QC Fh)(b:QC bC)(x:PL)(B:Bool):Prop:=
 if x.sort=0 then∃p,Gu fs (Fu b x) p/\B=E5 fs (Fu b x) p
 else if x.sort=1 then∃p,Gu fs (Fu b x) p/\B= !E5 fs (Fu b x) p
 else if x.sort=2 then B=((BJ b x.l).toList==(BJ b x.r).toList)
 else if x.sort=3 then B= !((BJ b x.l).toList==(BJ b x.r).toList)
 else B=Op.bytesLess (BJ b x.l).toList (BJ b x.r).toList
structure PS(w:Hq)(sp kb ko:Nat)(bv ov:Hs)(sad:Option Addr)(scp:Nat)(fs:QC Fh):Prop where
 dI:AI w sp [Gi (V ⟨kb,ko,Y⟩),bv,ov] 237
 set:Lc w ⟨kb,ko,Y⟩=V (U sad (Z fs) scp)
 facts:Jr w (U sad (Z fs) scp) fs
def PS.kept{w w':Hq}{a e c:Nat}{i f:Hs}{g:Option Addr}{b:Nat}{d:QC Fh}(h:PS w a e c i f g b d)(k:Ac [] w w'):PS w' a e c i f g b d:=⟨h.dI.kept k,k.cellAt h.set,h.facts.kept k⟩
theorem Yu(sp W T:Nat)(bv ov:Hs)(HR:Option Addr)(HH:Nat)(k:QC Fh)(x:PL)(m:Option Addr)(n:Nat)(b:QC bC)(w:Hq)(M:Z b=26)(hS:PS w sp W T bv ov HR HH k)(hx:KR w 0 (x,U m (Z x.ts) n))(IJ:Z k<=900000)(H6:Z x.ts<=1000)(HL:∀t∈x.ts,P4 t)(HN:P4 x.l)(HD:P4 x.r)
  (HI:∀i j (hi:i<Z k) (hj:j<Z k),i<=j->CQ k[j].f (Fu b x)<0->CQ k[i].f (Fu b x)<0):
  Calls prog 205 #[Gi (V ⟨sp,0,Y⟩),Ms (D6 (Ay (x,U m (Z x.ts) n))),Ms (D6 (Aj b))] w λr D=>∃B,r=G3 (No B)/\Kz k b x B/\Ac [] w D:=by
 have Ha:=Ab hS;have CL:JR (∀d a,Ac [] w a->AI a d (Aj b) 243->Calls prog 196 #[Gi (V ⟨d,0,Y⟩),Ms #[X J x.ap,O x.an,U m (Z x.ts) n]] a λr D=>∃g,r=G3 (Ms #[O x.an,U (V ⟨g,0,Y⟩) (Z x.ts) (Z x.ts)])/\Mi D a.heap.size 170 1 (U (V ⟨g,0,Y⟩) (Z x.ts) (Z x.ts)) (Z x.ts) ((x.ts.map (BJ b)).flatMap Ag)/\Ac [] a D):=λd a H S=>OO d 243 b x.ap x.an m n x.ts 0 a M S (Ad hx H) (by omega) HL
 have E0:JR (∀g a,Ac [] w a->Mi a 0 170 1 (U (V ⟨g,0,Y⟩) (Z x.ts) (Z x.ts)) (Z x.ts) ((x.ts.map (BJ b)).flatMap Ag)->Calls prog 60 #[Gi (V ⟨W,T,Y⟩),Ms #[O x.an,U (V ⟨g,0,Y⟩) (Z x.ts) (Z x.ts)]] a λe D=>∃p:Nat,e=G3 (No (E5 k (Fu b x) p))/\Gu k (Fu b x) p/\Ac [] a D):=by
  intro g a H hr;have HB:=hS.kept H;have HW:Ek a ⟨Fu b x,U (V ⟨g,0,Y⟩) (Z x.ts) (Z x.ts)⟩:=by
   show Mi a 0 170 1 _ (Z (x.ts.map (BJ b))) _;rw[lR];exact hr
  exact OS W T HR HH k ⟨Fu b x,U (V ⟨g,0,Y⟩) (Z x.ts) (Z x.ts)⟩ a HB.set HB.facts HW (by show Z (x.ts.map (BJ b))<=1000;rw[lR];exact H6) (by omega) HI
 have HT:JR (∀d (t:AY) a,P4 t->AI a d (Aj b) 243->Calls prog 180 #[Gi (V ⟨d,0,Y⟩),Ms #[X M8 t.v,O t.s]] a λr D=>r=G3 (O (BJ b t))/\Ac [] a D):=λd t a hv S=>LI d 243 b t a M S hv
 have HP:=Ab HN;have FW:=Ab HD;have L:JR (∀B,Kz k b x B=(if x.sort=0 then∃p,Gu k (Fu b x) p/\B=E5 k (Fu b x) p
 else if x.sort=1 then∃p,Gu k (Fu b x) p/\B= !E5 k (Fu b x) p
 else if x.sort=2 then B=((BJ b x.l).toList==(BJ b x.r).toList)
 else if x.sort=3 then B= !((BJ b x.l).toList==(BJ b x.r).toList)
 else B=Op.bytesLess (BJ b x.l).toList (BJ b x.r).toList)):=λB=>rfl
 generalize Fu b x=FC at E0 L;generalize Kz k b x=HC at L⊢;have hc:=Bt b;have hl:Z (Aj b)=26:=by unfold Aj;simp[M]
 obtain⟨E,hE⟩:=QP (Aj b);rw[hE]at hc hl CL HT⊢;clear hS hx HL HN HD HI hE;obtain⟨P,c,G,F,C,⟨y,o⟩,⟨q,u⟩⟩:=x;simp only[Ay]at*;have DT:JR (∀d a,AI a d E 243->Calls prog 180 #[Gi (V ⟨d,0,Y⟩),Ms #[X M8 y,O o]] a λr D=>r=G3 (O (BJ b ⟨y,o⟩))/\Ac [] a D):=λd a S=>HT d ⟨y,o⟩ a HP S
 have FA:JR (∀d a,AI a d E 243->Calls prog 180 #[Gi (V ⟨d,0,Y⟩),Ms #[X M8 q,O u]] a λr D=>r=G3 (O (BJ b ⟨q,u⟩))/\Ac [] a D):=λd a S=>HT d ⟨q,u⟩ a FW S
 generalize BJ b ⟨y,o⟩=VL at DT L;generalize BJ b ⟨q,u⟩=VR at FA L;clear HT HP FW;have AO:JR (AI ((w.alloc (Dj [X J P,X J c,X J G,O F,U m (Z C) n,X M8 y,O o,X M8 q,O u].toArray 217)).alloc (Dj (D6 E) 243)) w.heap.size [X J P,X J c,X J G,O F,U m (Z C) n,X M8 y,O o,X M8 q,O u] 217):=(Tc w [X J P,X J c,X J G,O F,U m (Z C) n,X M8 y,O o,X M8 q,O u] 217).alloc _;have AR:JR (AI ((w.alloc (Dj [X J P,X J c,X J G,O F,U m (Z C) n,X M8 y,O o,X M8 q,O u].toArray 217)).alloc (Dj (D6 E) 243)) (w.heap.size+1) E 243):=by
  have h:=Tc (w.alloc (Dj [X J P,X J c,X J G,O F,U m (Z C) n,X M8 y,O o,X M8 q,O u].toArray 217)) E 243;simp only[mt]at h;exact h
 have HK:=Ab (((SF [] w).alloc (Dj [X J P,X J c,X J G,O F,U m (Z C) n,X M8 y,O o,X M8 q,O u].toArray 217)).alloc (Dj (D6 E) 243));go_enter func205,ntmps205;apply wp_seq_k;intro KK HQ;have FT:=Ab HQ;clear HQ;go_wp2;refine FT _ _ ?_;clear FT KK;change Code.wp _ _ _ _ ((w.alloc (Dj [X J P,X J c,X J G,O F,U m (Z C) n,X M8 y,O o,X M8 q,O u].toArray 217)).alloc (Dj (D6 E) 243));generalize((w.alloc (Dj [X J P,X J c,X J G,O F,U m (Z C) n,X M8 y,O o,X M8 q,O u].toArray 217)).alloc (Dj (D6 E) 243))=w1 at AO AR HK⊢;generalize w.heap.size=N at AO AR⊢;have HM:JR (∀a,Ac [] w1 a->Lc a ⟨N,5,Y⟩=V (X M8 y)/\Lc a ⟨N,6,Y⟩=V (O o)/\Lc a ⟨N,7,Y⟩=V (X M8 q)/\Lc a ⟨N,8,Y⟩=V (O u)):=by
  intro a H;have M:=AO.kept H;have c5:=M.cell 5;have c6:=M.cell 6;have c7:=M.cell 7;have c8:=M.cell 8;simp at c5 c6 c7 c8;exact⟨c5,c6,c7,c8⟩
 go_wp2_with fail
 go_region_held3 (λa=>Ac [] w1 a/\Lc a ⟨N,5,Y⟩=V (X M8 y)/\Lc a ⟨N,6,Y⟩=V (O o)/\Lc a ⟨N,7,Y⟩=V (X M8 q)/\Lc a ⟨N,8,Y⟩=V (O u)) ((go_split_ands;refine(fun(Q:Ac [] w1 _)=>And.intro Q (HM _ Q)) ?_;repeat (first|assumption|exact SF [] _|refine Ac.drew ?_|refine Ac.alloc ?_ _))) ((go_at_call 180;first
  |((with_reducible show Calls _ _ #[_,Ms #[X M8 y,O o]] _ _);refine(DT (N+1) _ (AR.kept (by go_split_ands;assumption))).mono ?_;rintro _ w3 ⟨rfl,k3⟩;have H5:Ac [] w1 w3:=(by go_split_ands;exact Ac.trans (by assumption) k3);clear k3)
  |((with_reducible show Calls _ _ #[_,Ms #[X M8 q,O u]] _ _);refine(FA (N+1) _ (AR.kept (by go_split_ands;assumption))).mono ?_;rintro _ z ⟨rfl,k4⟩;have R:Ac [] w1 z:=(by go_split_ands;exact Ac.trans (by assumption) k4);clear k4)))
 rename_i H3;clear H3 H5 DT FA HM;have d1:=(AO.kept R).cell 1;simp at d1;by_cases h0:c=0
 .have Ix:(c==0)=Cm:=by simp[h0]
  have I:=AO.kept R;have q2:=I.cell 2;have q3:=I.cell 3;have q4:=I.cell 4;simp at q2 q3 q4;have A:JR (Ac [] w z):=HK.trans R;have FL:JR (∀a,Ac [] z a->Lc a ⟨sp,0,Y⟩=V (Gi (V ⟨W,T,Y⟩))/\Lc a ⟨N,2,Y⟩=V (X J G)/\Lc a ⟨N,3,Y⟩=V (O F)/\Lc a ⟨N,4,Y⟩=V (U m (Z C) n)):=by
   intro a H;have hs:=(Ha.kept (A.trans H)).dI.cell 0;have hn:=I.kept H;have r2:=hn.cell 2;have r3:=hn.cell 3;have r4:=hn.cell 4;simp at hs r2 r3 r4;exact⟨hs,r2,r3,r4⟩
  have EX:=Ab (AR.kept R);clear I q2 q3 q4;go_wp2_with fail
  go_region_held3 (λa=>Ac [] z a/\Lc a ⟨sp,0,Y⟩=V (Gi (V ⟨W,T,Y⟩))/\Lc a ⟨N,2,Y⟩=V (X J G)/\Lc a ⟨N,3,Y⟩=V (O F)/\Lc a ⟨N,4,Y⟩=V (U m (Z C) n)) ((go_split_ands;refine(fun(Q:Ac [] z _)=>And.intro Q (FL _ Q)) ?_;repeat (first|assumption|exact SF [] _|refine Ac.drew ?_|refine Ac.alloc ?_ _))) ((first
   |(go_at_call 196;refine(CL (N+1) _ (A.trans (by go_split_ands;assumption)) (EX.kept (by go_split_ands;assumption))).mono ?_;rintro _ w5 ⟨g5,rfl,A2,k5⟩;have H2:Ac [] z w5:=(by go_split_ands;exact Ac.trans (by assumption) k5);have FF:=Ab (Al A2 (lW _));clear k5 A2)
   |(go_at_call 60;refine(E0 g5 _ (A.trans (by go_split_ands;assumption)) FF).mono ?_;rintro _ w6 ⟨p6,rfl,hcut,k6⟩;have EM:Ac [] z w6:=(by go_split_ands;exact Ac.trans (by assumption) k6);have EY:=Ab hcut;clear k6 hcut)))
  go_wp2;go_ret;refine⟨_,rfl,?_,A.trans EM⟩;rw[Aa L];rw[lS h0];exact⟨p6,EY,rfl⟩
 .have Ix:(c==0)=K:=by simp[h0]
  by_cases h1:c=1
  ·(have H8:(c==1)=Cm:=by simp[h1]);have I:=AO.kept R;have q2:=I.cell 2;have q3:=I.cell 3;have q4:=I.cell 4;simp at q2 q3 q4;have A:JR (Ac [] w z):=HK.trans R;have FL:JR (∀a,Ac [] z a->Lc a ⟨sp,0,Y⟩=V (Gi (V ⟨W,T,Y⟩))/\Lc a ⟨N,2,Y⟩=V (X J G)/\Lc a ⟨N,3,Y⟩=V (O F)/\Lc a ⟨N,4,Y⟩=V (U m (Z C) n)):=by
    intro a H;have hs:=(Ha.kept (A.trans H)).dI.cell 0;have hn:=I.kept H;have r2:=hn.cell 2;have r3:=hn.cell 3;have r4:=hn.cell 4;simp at hs r2 r3 r4;exact⟨hs,r2,r3,r4⟩
   have EX:=Ab (AR.kept R);clear I q2 q3 q4;go_wp2_with fail
   go_region_held3 (λa=>Ac [] z a/\Lc a ⟨sp,0,Y⟩=V (Gi (V ⟨W,T,Y⟩))/\Lc a ⟨N,2,Y⟩=V (X J G)/\Lc a ⟨N,3,Y⟩=V (O F)/\Lc a ⟨N,4,Y⟩=V (U m (Z C) n)) ((go_split_ands;refine(fun(Q:Ac [] z _)=>And.intro Q (FL _ Q)) ?_;repeat (first|assumption|exact SF [] _|refine Ac.drew ?_|refine Ac.alloc ?_ _))) ((first
    |(go_at_call 196;refine(CL (N+1) _ (A.trans (by go_split_ands;assumption)) (EX.kept (by go_split_ands;assumption))).mono ?_;rintro _ w5 ⟨g5,rfl,A2,k5⟩;have H2:Ac [] z w5:=(by go_split_ands;exact Ac.trans (by assumption) k5);have FF:=Ab (Al A2 (lW _));clear k5 A2)
    |(go_at_call 60;refine(E0 g5 _ (A.trans (by go_split_ands;assumption)) FF).mono ?_;rintro _ w6 ⟨p6,rfl,hcut,k6⟩;have EM:Ac [] z w6:=(by go_split_ands;exact Ac.trans (by assumption) k6);have EY:=Ab hcut;clear k6 hcut)))
   go_wp2;go_ret;refine⟨_,rfl,?_,A.trans EM⟩;rw[Aa L];rw[lO h0,lS h1];exact⟨p6,EY,rfl⟩
  ·(have H8:(c==1)=K:=by simp[h1]);have A:JR (Ac [] w z):=HK.trans R;by_cases h2:c=2
   ·(have H0:(c==2)=Cm:=by simp[h2]);go_wp2;go_ret;refine⟨_,rfl,?_,A⟩;rw[Aa L,lO h0,lO h1,lS h2]
   ·(have H0:(c==2)=K:=by simp[h2]);by_cases h3:c=3
    ·(have HU:(c==3)=Cm:=by simp[h3]);go_wp2;go_ret;refine⟨_,rfl,?_,A⟩;rw[Aa L,lO h0,lO h1,lO h2,lS h3]
    ·(have HU:(c==3)=K:=by simp[h3]);go_wp2;go_ret;refine⟨_,rfl,?_,A⟩;rw[Aa L,lO h0,lO h1,lO h2,lO h3]
def FV(fs:QC Fh)(b:QC bC):QC PL->Bool->Prop
 |[],B=>B=K
 |x::l,B=>if GT b (AU x)then∃H,Kz fs b x H/\(if H then FV fs b l B else B=Cm)else FV fs b l B
def Vt{d:QC Lx}(h:Cd w n z d)(k:Nat)(a:k<Z d):
  ∃g q x f i,z=U (V ⟨g,0,Y⟩) (Z d) q/\d[k]=(x,U f (Z x.ts) i)/\KR w n (x,U f (Z x.ts) i)/\
   Lc w ⟨g,k*9,Y⟩=V (X J x.place)/\Lc w ⟨g,k*9+1,Y⟩=V (X J x.sort)/\Lc w ⟨g,k*9+2,Y⟩=V (X J x.ap)/\Lc w ⟨g,k*9+3,Y⟩=V (O x.an)/\Lc w ⟨g,k*9+4,Y⟩=V (U f (Z x.ts) i)/\
   Lc w ⟨g,k*9+5,Y⟩=V (X M8 x.l.v)/\Lc w ⟨g,k*9+6,Y⟩=V (O x.l.s)/\Lc w ⟨g,k*9+7,Y⟩=V (X M8 x.r.v)/\Lc w ⟨g,k*9+8,Y⟩=V (O x.r.s):=by
 obtain⟨g,q,F,_,b⟩:=AC h.row (λc _=>rfl) k a;have A:=(h.each _ (lE a)).1;have y:=b k a 0 (by omega);have o:=b k a 1 (by omega);have j:=b k a 2 (by omega);have m:=b k a 3 (by omega);have D:=b k a 4 (by omega);have B:=b k a 5 (by omega);have u:=b k a 6 (by omega);have t:=b k a 7 (by omega);have C:=b k a 8 (by omega);obtain⟨⟨x,G⟩,E⟩:∃p,d[k]=p:=⟨_,rfl⟩;rw[E]at y o j m D B u t C A;obtain⟨f,i,e⟩:=Ak A;simp only at e;subst e;simp[Ay]at y o j m D B u t C;exact⟨g,q,x,f,i,F,E,A,y,o,j,m,D,B,u,t,C⟩
structure P7(x:PL):Prop where
 len:Z x.ts<=1000
 ts:∀t∈x.ts,P4 t
 l:P4 x.l
 r:P4 x.r
def P7.dP{x:PL}(h:P7 x):(∀t∈AU x,P4 t)/\Z (AU x)<=100000:=by
 unfold AU;split
 .exact⟨h.ts,by have:=h.len;omega⟩
 .refine⟨λt a=>?_,by simp⟩;simp only[lI,mQ,or_false]at a;rcases a with rfl|rfl
  .exact h.l
  .exact h.r
theorem Zj(L kb ko:Nat)(HC:Option Addr)(CL:Nat)(c:QC Lx)(ov:Hs)(H0:Option Addr)(HJ:Nat)(d:QC Fh)(b:QC bC)(w:Hq)(hb:Z b=26)(hS:PS w L kb ko (U HC (Z c) CL) ov H0 HJ d)(P:Cd w 0 (U HC (Z c) CL) c)(H8:Z d<=900000)(K8:Z c<=1000)(hl:∀p∈c,P7 p.1)
  (HU:∀(FT:C9) i j (hi:i<Z d) (hj:j<Z d),i<=j->CQ d[j].f FT<0->CQ d[i].f FT<0):
  Calls prog 177 #[Gi (V ⟨L,0,Y⟩),Ms (D6 (Aj b))] w λr v=>∃B,r=G3 (No B)/\FV d b (c.map O0) B/\Ac [] w v:=by
 have Ix:=Ab hS;have HM:=Ab P;have H9:JR (∀(x:PL) m n a,Ac [] w a->KR w 0 (x,U m (Z x.ts) n)->Calls prog 137 #[Ms (D6 (Ay (x,U m (Z x.ts) n)))] a λe v=>∃H1 HH,e=G3 (U H1 (Z (AU x)) HH)/\Mi v 0 215 2 (U H1 (Z (AU x)) HH) (Z (AU x)) ((AU x).flatMap Ar)/\Ac [] a v):=λx m n a y hx=>MX x m n a (hx.kept y)
 have DY:JR (∀I (x:PL) m n a,P7 x->AI a I (Aj b) 243->Mi a 0 215 2 (U m (Z (AU x)) n) (Z (AU x)) ((AU x).flatMap Ar)->Calls prog 204 #[Gi (V ⟨I,0,Y⟩),U m (Z (AU x)) n] a λr v=>r=G3 (No (GT b (AU x)))/\Ac [] a v):=λI x m n a q P hr=>Wo I 243 b m n (AU x) 0 a hb P hr q.dP.2 q.dP.1
 have FO:JR (∀(x:PL) m n a,Ac [] w a->P7 x->KR w 0 (x,U m (Z x.ts) n)->Calls prog 205 #[Gi (V ⟨L,0,Y⟩),Ms (D6 (Ay (x,U m (Z x.ts) n))),Ms (D6 (Aj b))] a λr v=>∃B,r=G3 (No B)/\Kz d b x B/\Ac [] a v):=λx m n a y q hx=>Yu L kb ko _ ov H0 HJ d x m n b a hb (hS.kept y) (hx.kept y) H8 q.len q.ts q.l q.r (HU _)
 have JA:=Ab hl;have q:=Bt b;have HL:Z (Aj b)=26:=by unfold Aj;simp[hb]
 have FC:=Ab HL;obtain⟨E,hE⟩:=QP (Aj b);rw[hE]at q HL FC DY FO⊢;have C:=Ab (Tc w E 243);have t:=Ab ((SF [] w).alloc (Dj (D6 E) 243));clear hE hS P hl HU;obtain⟨u,BS⟩:∃u:Bool->Prop,u=FV d b (c.map O0):=⟨_,rfl⟩;have F:JR (∀B,FV d b ((c.drop 0).map O0) B->u B):=λB h=>by rw[BS];exact h
 rw[<-BS];clear BS;go_enter func177,ntmps177;apply wp_seq_k;intro KK HZ;have CC:=Ab HZ;clear HZ;go_wp2;refine CC _ _ ?_;clear CC KK;generalize w.alloc (Dj (D6 E) 243)=w1 at C t⊢;generalize w.heap.size=N at C⊢;have s1:=(Ix.kept t).dI.cell 1;simp at s1;go_wp2_with fail
 go_loopg [12] (Z c) (λgk i wr=>∃(k:Nat),i=X J k/\k<=Z c/\gk=Z c-k/\JR (∀B,FV d b ((c.drop k).map O0) B->u B)/\JR (AI wr N E 243)/\JR (Ac [] w wr))
 case atStart=>exact⟨0,rfl,by omega,rfl,F,C,t⟩
 case round=>
  clear F C t s1;obtain⟨k,rfl,y,HY,F,C,t⟩:=hrel;have HG:=Ab HY;clear HY;by_cases AO:k<Z c
  .obtain⟨g,K9,x,z,D,he,AB,_,d0,d1,d2,d3,d4,d5,d6,d7,d8⟩:=Vt (HM.kept t) k AO;simp only[lB]at he;obtain⟨rfl,_,rfl⟩:=he;(have A0:(x,U z (Z x.ts) D)∈c:=by rw[<-AB];exact lE AO);have A1:=Aa JA _ A0;have AR:KR w 0 (x,U z (Z x.ts) D):=(HM.each _ A0).1;have s:JR (∀B,(if GT b (AU x)then∃H,Kz d b x H/\(if H then FV d b ((c.drop (k+1)).map O0) B else B=Cm)else FV d b ((c.drop (k+1)).map O0) B)->u B):=by
    intro B h;refine F B ?_;rw[lY AO,l9,AB];exact h
   have R:=Ab (t.alloc (Dj (D6 (Ay (x,U z (Z x.ts) D))) 217));have BB:=Ab (C.alloc (Dj (D6 (Ay (x,U z (Z x.ts) D))) 217));have Bx:=Ab (Tc wr (Ay (x,U z (Z x.ts) D)) 217);have M:=Ab (H9 x z D _ R AR);have AT:=Ab (λm n a=>DY N x m n a A1);have G:=Ab (λa y=>FO x z D a y A1 AR);generalize AU x=TL at M AT s;generalize Kz d b x=HX at G s;obtain⟨pl,so,ap,an,ts,⟨lv,K4⟩,⟨rv,LB⟩⟩:=x;simp only[Ay]at R BB Bx M G d0 d1 d2 d3 d4 d5 d6 d7 d8;clear AB A0 A1 AR F;(go_wp2_with fail);refine M.mono ?_;rintro _ w3 ⟨H7,IS,rfl,FW,Q⟩;have HT:=Ab (R.trans Q);have A2:=Ab (BB.kept Q);have HA:=Ab (Bx.kept Q);have HW:=Ab (AT H7 IS w3 A2 FW);clear M AT R BB Bx FW Q d0 d1 d2 d3 d4 d5 d6 d7 d8 t C;(go_wp2_with fail);refine HW.mono ?_;rintro _ w4 ⟨rfl,T⟩;have W:=Ab (HT.trans T);have S:=Ab (A2.kept T);have o:=HA.kept T;have e0:=o.cell 0;have e1:=o.cell 1;have e2:=o.cell 2;have e3:=o.cell 3;have e4:=o.cell 4;have e5:=o.cell 5;have e6:=o.cell 6;have e7:=o.cell 7;have e8:=o.cell 8;simp at e0 e1 e2 e3 e4 e5 e6 e7 e8;clear HW HT A2 HA T o;obtain⟨ST,DT⟩:=QP (GT b TL);rw[DT]at s⊢;clear DT;cases ST with
   |false=>
    (have A:JR (∀B,FV d b ((c.drop (k+1)).map O0) B->u B):=λB h=>s B (by rw[lO (by simp)];exact h));clear s G;go_wp2
    go_roundg (Z c-(k+1))
    case measure=>have:=Aa HG;omega
    case rel=>exact⟨k+1,by go_num,by omega,rfl,A,S,W⟩
   |true=>
    have E0:=Ab (G w4 W);clear G;go_wp2_with ((with_reducible show wpList _ _ _ ({dst:=_,op:=Op.load 243 _,type:=_,pos:=_,after:=_,guard:=_}::_) _ _);refine BW (by rfl) 243 _ rfl N 0 (by rfl) E _ S.range underlying243 rfl (by rw[Aa FC];exact Tryz.bi) ?_)
    refine E0.mono ?_;rintro _ w5 ⟨HB,rfl,EK,k5⟩;have HP:=Ab (W.trans k5);have KA:=Ab (S.kept k5);have H2:=Ab EK;clear E0 k5 EK W S e0 e1 e2 e3 e4 e5 e6 e7 e8;cases HB with
    |true=>
     (have A:JR (∀B,FV d b ((c.drop (k+1)).map O0) B->u B):=λB h=>s B (by rw[lS True.intro];exact⟨Cm,H2,h⟩));clear s;go_wp2
     go_roundg (Z c-(k+1))
     case measure=>have:=Aa HG;omega
     case rel=>exact⟨k+1,by go_num,by omega,rfl,A,KA,HP⟩
    |false=>
     have A:JR (u Cm):=s Cm (by rw[lS True.intro];exact⟨K,H2,rfl⟩);clear s;go_wp2;go_ret;exact⟨Cm,rfl,A,HP⟩
  .have A:JR (u K):=F K (by rw[mp (by omega)];rfl);go_wp2;go_ret;exact⟨K,rfl,A,t⟩
abbrev Xk:=QC bC×Hs
structure iD(w:Hq)(lv:Hs)(ps:QC Xk):Prop where
 row:Mi w 0 102 1 lv (Z ps) (ps.flatMap λp=>[p.2])
 each:∀p∈ps,Mi w 0 170 1 p.2 (Z p.1) (p.1.flatMap Ag)/\Di FY p.1/\Z p.1<=10000
def iD.kept{w w':Hq}{b:QC Xk}(h:iD w z b)(k:Ac [] w w'):iD w' z b:=⟨Ad h.row k,λp a=>⟨Ad (h.each p a).1 k,(h.each p a).2⟩⟩
def gF{a:QC Xk}(h:iD w z a)(k:Nat)(b:k<Z a):∃g l i f,z=U (V ⟨g,0,Y⟩) (Z a) l/\Lc w ⟨g,k,Y⟩=V (U i (Z (BZ (a.map O0) k)) f)/\Mi w 0 170 1 (U i (Z (BZ (a.map O0) k)) f) (Z (BZ (a.map O0) k)) ((BZ (a.map O0) k).flatMap Ag)/\Di FY (BZ (a.map O0) k)/\Z (BZ (a.map O0) k)<=10000:=by
 obtain⟨g,l,m,_,q⟩:=AC h.row (λc _=>rfl) k b;have d:=q k b 0 (by omega);have n:BZ (a.map O0) k=a[k].1:=by
  unfold BZ;rw[lT,m6,lN b];rfl
 rw[n];obtain⟨j,o,p⟩:=h.each _ (lE b);obtain⟨i,f,e⟩:=Ak j;rw[e]at j;simp[e]at d;exact⟨g,l,i,f,m,d,j,o,p⟩
def aj{v:Hs}{l:QC Nat}(h:Mi w n 3 1 v (Z l) (l.flatMap Ck))(k:Nat)(b:k<Z l):∃g a,v=U (V ⟨g,0,Y⟩) (Z l) a/\Lc w ⟨g,k,Y⟩=V (X J (l[k]:Nat)):=by
 obtain⟨g,a,e,_,f⟩:=AC h (λc _=>rfl) k b;have d:=f k b 0 (by omega);simp[Ck]at d;exact⟨g,a,e,d⟩
def NW(a:QC Nat)(t v:Nat)(b:t<Z a):ZW (λi=>a.getD i 0) t v=λi=>(a.set t v).getD i 0:=by
 funext i
 unfold ZW;simp only[lT,List.getElem?_set];split
 .rename_i e;subst e;simp[b]
 .rename_i e;rw[lO (λh=>e h.symm)]
def LN(b:QC Nat)(t v:Nat):(b.set t v).flatMap Ck=(b.flatMap Ck).set t (X J (v:Nat)):=by
 have e:∀l:QC Nat,l.flatMap Ck=l.map λn=>X J (n:Nat):=λl=>by
  induction l with
  |nil=>rfl
  |cons a l ih=>simp[Ck,ih]
 rw[e,e,pV]
def NE:∀l:QC Nat,l.flatMap Ck=l.map λn=>X J (n:Nat)
 |[]=>rfl
 |a::l=>by simp only[mc,l9,NE l];rfl
def Nh(a:QC Nat)(t:Nat)(h:t<Z a):(a.flatMap Ck)[t]?=V (X J (a[t]:Nat)):=by
 rw[NE,m6,lN h];rfl
def iC(a:QC (QC bC))(s:bC)(h:∀l∈a,Z l<=10000):Vh FY s a<=Z a*10000:=by
 induction a with
 |nil=>simp[Vh]
 |cons l a ih=>
  have d:=ih (λq b=>h q (my _ b));have c:=h l (mV ..);have f:ju FY s l<=Z l:=pR;have e:Vh FY s (l::a)=ju FY s l+Vh FY s a:=by unfold Vh;simp
  rw[e,lQ,nR];omega
structure Kx(ps:QC Xk)(m:QC bC):Prop where
 mem:∀y,y∈m↔(ps≠[]/\Kw (ps.map O0) y)
 cE:m.Pairwise λa b=>FY a b=Cm
theorem Tryz.zX:(Tryz.prog.info? 3).map (λi=>(i.zero,i.size,i.bytes))=V (V (X J 0),1,8):=by kernel_rfl
theorem X5(M3:Option Addr)(LL:Nat)(c:QC Xk)(w:Hq)(h:iD w (U M3 (Z c) LL) c)(TS:Z c<=1000):
  Calls prog 208 #[U M3 (Z c) LL] w λr w'=>∃(ad:Option Addr) (cp:Nat) (m:QC bC),r=G3 (U ad (Z m) cp)/\Kx c m/\Mi w' w.heap.size 170 1 (U ad (Z m) cp) (Z m) (m.flatMap Ag)/\Ac [] w w':=by
 obtain⟨i0,HH,FP,HJ,HB⟩:=mH Tryz.zC;obtain⟨j0,NM,SB,Nj,N0⟩:=mH Tryz.zX;have HL:=Ab h;obtain⟨N,hN⟩:=QP w.heap.size;rw[hN];have x:=Ab hN;clear hN h;obtain⟨d,A0⟩:=QP (c.map O0);have EY:Z d=Z c:=by rw[<-A0,lR]
 have K6:=Ab A0;have Pl:JR (∀s,Vh FY s d<=Z c*10000):=by
  intro s;have F:=iC d s (λl hl=>by
   rw[<-A0]at hl
   obtain⟨p,hp,rfl⟩:=lP.1 hl
   exact(HL.each p hp).2.2)
  rw[EY]at F;exact F
 have EM:JR (∀m,(c≠[]->(∀y,y∈m↔Kw d y))->(c=[]->m=[])->m.Pairwise (λa b=>FY a b=Cm)->Kx c m):=by
  intro m F Q h3;refine⟨λy=>?_,h3⟩;by_cases hp:c=[]
  .rw[Q hp];simp[hp]
  .rw[F hp y,<-A0];exact⟨λh=>⟨hp,h⟩,λh=>h.2⟩
 by_cases h0:Z c=0
 .have S0:((Z c:Int)==0)=Cm:=by simp[h0]
  have SJ:(Z c:Int)=0:=by omega
  have HE:JR (Kx c []):=EM [] (λh=>absurd (nK.1 h0) h) (λ_=>rfl) List.Pairwise.nil;clear A0;go_enter func208,ntmps208;go_wp2;go_ret;exact⟨Y,0,[],rfl,HE,mf _ _ _ _,SF _ _⟩
 .have N4:0<Z c:=by omega
  have S0:((Z c:Int)==0)=K:=by rw[mq];omega
  have SJ:¬(Z c:Int)=0:=by omega
  have Ha:c≠[]:=λe=>h0 (by rw[e];rfl)
  obtain⟨g,X0,X1,VS,he,e0,r0,q0,b0⟩:=gF HL 0 N4;simp only[lB]at he;obtain⟨rfl,-,rfl⟩:=he;rw[A0]at e0 r0 q0 b0;have TH:(0:Int)<(Z c:Int):=by omega
  by_cases hz:Z (BZ d 0)=0
  ·(have HW:((Z (BZ d 0):Int)==0)=Cm:=by simp[hz]);(have H6:(Z (BZ d 0):Int)=0:=by omega);have HE:JR (Kx c []):=EM [] (λ_ y=>by
    refine⟨λh=>by simp at h,λh=>?_⟩
    have F:=h (BZ d 0) (Fp (by omega))
    rw[nK.1 hz]at F
    exact F) (λh=>absurd h Ha) List.Pairwise.nil
   clear A0 hz;go_enter func208,ntmps208;go_wp2;go_ret;exact⟨Y,0,[],rfl,HE,mf _ _ _ _,SF _ _⟩
  ·(have IA:0<Z (BZ d 0):=by omega);(have HW:((Z (BZ d 0):Int)==0)=K:=by rw[mq];omega);(have H6:¬(Z (BZ d 0):Int)=0:=by omega);(have K9:(0:Int)<(Z (BZ d 0):Int):=by omega);obtain⟨gz,cz,K7,z0⟩:=GD r0 0 IA;simp only[lB]at K7;obtain⟨rfl,-,rfl⟩:=K7;have DY:=Ab (P2.start Gh (ls:=d) (by omega) q0 IA);obtain⟨s0,K3⟩:=QP ((BZ d 0)[0]);rw[K3]at DY z0;clear K3 A0 r0 q0 hz;generalize Z (BZ d 0)=L0 at e0 HW H6 K9;(have RT:=λo=>((SF [] w).alloc o).cellAt e0);(have RG:=λo=>((SF [] w).alloc o).cellAt z0);go_enter func208,ntmps208;go_wp2_with ((with_reducible show wpList _ _ _ ({dst:=_,op:=Op.makeSlice 221 _ _,type:=_,pos:=_,after:=_,guard:=_}::_) _ _);refine wpList_make_row _ rfl _ _ 221 rfl 3 j0 _ underlying221 NM SB Nj rfl J J (Z c) (by rfl) (by rfl) (by rw[N0];omega) (by omega) ?_)
   have H1:JR (Mi (w.alloc (Dj (madeCells #[X J 0] (Z c)) 3)) N 3 1 (U (V ⟨N,0,Y⟩) (Z c) (Z c)) (Z c) ((NP (Z c) 0).flatMap Ck)):=by
    have h:=pm (e:=3) (size:=1) (base:=N) w (madeCells #[X J 0] (Z c)) (Z c) (by have:=Aa x;omega) (by unfold maxLen;omega) (by rw[size_madeCells];omega);rw[Up,Aa x]at h;have e:(NP (Z c) 0).flatMap Ck=NP (Z c) (X J 0):=by
     generalize Z c=n
     induction n with
     |zero=>rfl
     |succ n ih=>rw[List.replicate_succ,mc,ih,List.replicate_succ];rfl
    rw[e];exact h
   have H8:=Ab ((SF [] w).alloc (Dj (madeCells #[X J 0] (Z c)) 3));have KS:JR (P2 FY d 0 s0 0 (λi=>(NP (Z c) 0).getD i 0) []):=by
    have e:(λi=>(NP (Z c) 0).getD i 0)=λ_=>0:=by
     funext i
     rw[lT,List.getElem?_replicate];split<;>rfl
    rw[e];exact DY
   rw[Aa x];clear e0 z0 RT RG DY HW H6 K9 b0 IA;generalize w.alloc (Dj (madeCells #[X J 0] (Z c)) 3)=w1 at H1 H8⊢
   go_loopg [3,5,6,7] (Vh FY s0 d*(Z c+1)+Z c) (λgk cv sv av tv wr=>∃(t:Nat) (s:bC) (D:Nat) (k:QC Nat) (m:QC bC) (H:Option Addr) (I:Nat),cv=U H (Z m) I/\sv=O s/\av=X J D/\tv=X J t/\gk=Vh FY s d*(Z c+1)+(Z c-D)/\Z k=Z c/\Z m+Vh FY s d<=10000000/\JR (P2 FY d t s D (λi=>k.getD i 0) m)/\JR (Mi wr N 3 1 (U (V ⟨N,0,Y⟩) (Z c) (Z c)) (Z c) (k.flatMap Ck))/\JR (Mi wr N 170 1 (U H (Z m) I) (Z m) (m.flatMap Ag))/\JR (Ac [] w wr))
   case atStart=>exact⟨0,s0,0,NP (Z c) 0,[],Y,0,rfl,rfl,rfl,rfl,by simp,by simp,by have:=Aa Pl s0;simp;omega,KS,H1,mf _ _ _ _,H8⟩
   case round=>
    clear KS H1 H8;obtain⟨t,s,D,k,m,H,I,rfl,rfl,rfl,rfl,MY,ES,WB,R,S,T,B⟩:=hrel;have HG:=Ab MY;clear MY;(have HI:t<Z c:=by have:=R.tk;omega);(have U0:D<Z c:=by have:=R.agk;omega);obtain⟨g',VR,M1,OB,KD,et,rt,qt,bt⟩:=gF (HL.kept B) t HI;simp only[lB,lL,mu]at KD;obtain⟨⟨Ax,-,-⟩,-,-⟩:=KD;subst Ax;rw[Aa K6]at et rt qt bt;(have M0:Mi wr N 3 1 (U (V ⟨N,0,Y⟩) (Z c) (Z c)) (Z k) (k.flatMap Ck):=by rw[ES];exact S);have K2:k.getD t 0<=Z (BZ d t):=R.ple t R.tk;obtain⟨gp,TV,LC,pt⟩:=aj (l:=k) (v:=U (V ⟨N,0,Y⟩) (Z c) (Z c)) M0 t (by omega);simp only[lB,lL,mu]at LC;obtain⟨⟨Ax,-,-⟩,-,-⟩:=LC;subst Ax;obtain⟨PT,HR⟩:=QP (k[t]);(have IJ:k.getD t 0=PT:=by rw[lT,lN (by omega),HR];rfl);rw[HR]at pt;rw[IJ]at K2;have LM:=Ab (Te (U M1 (Z (BZ d t)) OB) (BZ d t) PT s 0 wr rt (by omega) K2 qt);have HQ:=Ab qt;have Ix:=Ab rt;have RO:=Ab IJ;(have W0:(0:Int)<=(t:Int):=by omega);(have Wa:(t:Int)<(Z c:Int):=by omega);have pf:=S.frozenAt t;have M6:JR (∀q0 q1,M1=V ⟨q0,q1,Y⟩->q0<N):=by
     intro q0 q1 z;obtain⟨gw,_,W3,WW,KK,ew,RV,_,_⟩:=gF HL t HI;simp only[lB,lL,mu]at KK;obtain⟨⟨Ax,-,-⟩,-,-⟩:=KK;subst Ax;have e2:=B.cellAt ew;rw[Aa K6,et]at e2;simp only[lL,lB]at e2;have h3:=(RV.lt q0 (by rw[<-e2.1,z];rfl)).2;rw[Aa x]at h3;exact h3
    have G:JR (((t:Int)+1).tmod (Z c:Int)=(FI (Z c) t:Int)/\((t:Int)+1)%(Z c:Int)=(FI (Z c) t:Int)/\FI (Z c) t<Z c):=by
     have F:=dQ HI;(have Q:((t:Int)+1)%(Z c:Int)=(FI (Z c) t:Int):=by rw[<-F,Int.natCast_emod,Int.natCast_add];rfl);exact⟨by rw[Int.tmod_eq_emod_of_nonneg (by omega)];exact Q,Q,Vb HI⟩
    clear HR M0 IJ qt rt;(go_wp2_with fail);refine LM.mono ?_;rintro _ w2 ⟨f,rfl,HY,Nx⟩;have QR:=Nx.symm;subst QR;(have K1:DA FY (BZ d t) ((λi=>k.getD i 0) t) s f:=by show DA FY (BZ d t) (k.getD t 0) s f;rw[Aa RO];exact HY);have HX:=Ab K1;have T0:=HY.le;clear HY K1 LM;by_cases H3:f=Z (BZ d t)
    .have HE:JR (Kx c m):=EM m (λ_=>R.done HX H3) (λh=>absurd h Ha) R.cE;(have NX:((f:Int)==(Z (BZ d t):Int))=Cm:=by simp[H3]);(have QQ:(f:Int)=(Z (BZ d t):Int):=by omega);clear H3;go_wp2;go_ret;exact⟨H,I,m,rfl,HE,T,B⟩
    ·(have H0:f<Z (BZ d t):=by omega);(have NX:((f:Int)==(Z (BZ d t):Int))=K:=by rw[mq];omega);(have QQ:¬(f:Int)=(Z (BZ d t):Int):=by omega);(have VL:(0:Int)<=(f:Int):=by omega);(have W2:(f:Int)<(Z (BZ d t):Int):=by omega);obtain⟨P,cx,M2,x0⟩:=GD Ix f H0;simp only[lB]at M2;obtain⟨rfl,-,rfl⟩:=M2;obtain⟨j,hX⟩:=QP ((BZ d t)[f]);rw[hX]at x0;cases hsx:(j.toList==s.toList)with
     |true=>
      have B9:j=s:=(EW j s).1 hsx;have W:=Ab (R.same HX H0 (by rw[hX,B9]));(have Nd:Vh FY j d<=Vh FY s d:=by rw[B9];exact lX _);subst B9;clear hX R;(have NY:D+1<=Z c:=by omega);by_cases BA:D+1=Z c
      ·(have HS:(((D:Int)+1)==(Z c:Int))=Cm:=by rw[nu];omega);have K4:((D:Int)+1)=(Z c:Int):=by omega
       skip
       skip
       (have BS:D+1=Z d:=by omega);by_cases BT:f+1=Z (BZ d t)
       ·(have JJ:(((f:Int)+1)==(Z (BZ d t):Int))=Cm:=by rw[nu];omega);(have H2:((f:Int)+1)=(Z (BZ d t):Int):=by omega);have HE:JR (Kx c (m++[j])):=EM (m++[j]) (λ_=>W.last Gh HQ BS BT) (λh=>absurd h Ha) (W.zi BS).2;have C:=Aa T;clear BA BT;go_wp2_with (at_builtin;refine me _ rfl (.tmp 65) (.tmp 67) _ rfl N 170 i0 _ 1 16 underlying102 HH FP HJ HB rfl (by omega) (U H (Z m) I) (Z m) (m.flatMap Ag) rfl (lM C _) ⟨wr.heap.size,0,Y⟩ 1 1 [O j] rfl rfl (mg (mo wr _)) (by simp[Value.oneCell']) (by omega) (by unfold maxLen;omega) (by omega) (by simp;have:=B.size;have:=Aa x;omega) (wr.heap.size+1) (by simp) ?_;intro g1 AB u AR A HO HV)
        go_ret;refine⟨V ⟨g1,0,Y⟩,AB,m++[j],by simp,HE,?_,(B.alloc _).grown A (λq z=>Hf (by have:=(C.lt q z).1;have:=Aa x;omega))⟩;rw[mm];simp only[lU,lQ,mn,mC,mc,mS,mz,Ag];exact AR
       ·(have JJ:(((f:Int)+1)==(Z (BZ d t):Int))=K:=by rw[mq];omega);(have H2:¬((f:Int)+1)=(Z (BZ d t):Int):=by omega);(have FA:f+1<Z (BZ d t):=by omega);obtain⟨gy,cy,E0,y0⟩:=GD Ix (f+1) FA;simp only[lB,lL,mu]at E0;obtain⟨⟨Ax,-,-⟩,-,-⟩:=E0;subst Ax;have L:=W.more Gh HQ BS FA;obtain⟨E,hY⟩:=QP ((BZ d t)[f+1]);rw[hY]at y0 L;rw[NW k t (f+1) (by omega),EY]at L;have A2:=Ab L.1;have Os:=L.2;(have NN:(0:Int)<=(f:Int)+1:=by omega);(have N2:(f:Int)+1<(Z (BZ d t):Int):=by omega);have C:=Aa T;have AH:JR (∀u,(wr.alloc (Dj #[O j] 170)).grownBy u (U H (Z m) I).ownBlock->Lc u ⟨P,f+1,Y⟩=V (O E)/\Mi u N 3 1 (U (V ⟨N,0,Y⟩) (Z c) (Z c)) (Z c) (k.flatMap Ck)):=by
         intro u FB;refine⟨?_,(lM S _).kept FB (Hf (λe=>Bg S C (by decide) N rfl e.symm))⟩;have NS:P<N:=M6 _ _ (by rfl);(have NA:P<wr.heap.size:=by have:=B.size;have:=Aa x;omega);rw[FB.cell_far ⟨P,f+1,Y⟩ (by simp;omega) (λe=>by have:=(C.lt P e.symm).1;omega)];exact(((SF [] wr).alloc _).cellAt y0)
        clear BA BT hY L;go_wp2_with (at_builtin;refine me _ rfl (.tmp 65) (.tmp 67) _ rfl N 170 i0 _ 1 16 underlying102 HH FP HJ HB rfl (by omega) (U H (Z m) I) (Z m) (m.flatMap Ag) rfl (lM C _) ⟨wr.heap.size,0,Y⟩ 1 1 [O j] rfl rfl (mg (mo wr _)) (by simp[Value.oneCell']) (by omega) (by unfold maxLen;omega) (by omega) (by simp;have:=B.size;have:=Aa x;omega) (wr.heap.size+1) (by simp) ?_;intro g1 AB u AR A HO HV;have y9:=(AH u A).1;have EK:=(AH u A).2;have HZ:=EK.cellAt t (by omega);have NL:=EK.frozenAt t;rw[Nh k t (by omega)]at HZ)
        have H5:=G.1;have H7:=G.2.1;have IS:=Ab (((AH u A).2).stored t (X J ((f+1:Nat):Int)));go_wp2
        go_roundg (Vh FY E d*(Z c+1)+Z c)
        case measure=>
         have F:=Aa HG;have Q:(Vh FY E d+1)*(Z c+1)<=Vh FY j d*(Z c+1):=mF _ (by omega);rw[nR]at Q;omega
        case rel=>
         refine⟨FI (Z c) t,E,0,k.set t (f+1),m++[j],V ⟨g1,0,Y⟩,AB,by simp,rfl,rfl,by first|rfl|exact congrArg _ G.2.1,by simp,by simp[ES],by simp;omega,A2,?_,?_,?_⟩
         .rw[LN];have h:=IS.1;exact h
         .have BB:=Bg (AH u A).2 AR (by decide) N rfl;have h9:Mi u N 170 1 (U (V ⟨g1,0,Y⟩) (Z (m++[j])) AB) (Z (m++[j])) ((m++[j]).flatMap Ag):=by
           rw[mm];simp only[lU,lQ,mn,mC,mc,mS,mz,Ag];exact AR
          exact Ai h9 (Ac.setCell (M:=[N]) (SF [N] _) (Hd (by simp)) _) (λq z=>by simp only[lG];intro e;subst e;exact BB z)
         .exact((B.alloc _).grown A (λq z=>Hf (by have:=(C.lt q z).1;have:=Aa x;omega))).setCell (Hf (by have:=Aa x;simp;omega)) _
      ·(have HS:(((D:Int)+1)==(Z c:Int))=K:=by rw[mq];omega);have K4:¬((D:Int)+1)=(Z c:Int):=by omega
       skip
       skip
       have Bx:=W.next (by omega);rw[NW k t f (by omega),EY]at Bx;have A2:=Ab Bx;have H5:=G.1;have H7:=G.2.1;clear BA Bx;go_wp2
       go_roundg (Vh FY j d*(Z c+1)+(Z c-(D+1)))
       case measure=>
        have F:=Aa HG
        skip
        skip
        omega
       case rel=>
        refine⟨FI (Z c) t,j,D+1,k.set t f,m,H,I,rfl,rfl,by go_num,by first|rfl|exact congrArg _ G.2.1,rfl,by simp[ES],by omega,A2,?_,?_,?_⟩
        .rw[LN];exact(S.stored t (X J (f:Int))).1
        .have BB:=Bg S T (by decide) N rfl;exact Ai T (Ac.setCell (M:=[N]) (SF [N] _) (Hd (by simp)) _) (λq z=>by simp only[lG];intro e;subst e;exact BB z)
        .exact B.setCell (Hf (by have:=Aa x;simp;omega)) _
     |false=>
      (have B9:j≠s:=λe=>by rw[(EW j s).2 e]at hsx;cases hsx);have Go:=R.past Gh HQ HX H0 (by rw[hX];exact B9);rw[hX]at Go;have W:=Ab Go.1;have Nd:=Go.2;clear hX R Go B9;(have NY:0+1<=Z c:=by omega);by_cases BA:0+1=Z c
      ·(have HS:(((0:Int)+1)==(Z c:Int))=Cm:=by rw[nu];omega);(have RE:((1:Int)==(Z c:Int))=Cm:=by rw[nu];omega);(have BS:0+1=Z d:=by omega);by_cases BT:f+1=Z (BZ d t)
       ·(have JJ:(((f:Int)+1)==(Z (BZ d t):Int))=Cm:=by rw[nu];omega);(have H2:((f:Int)+1)=(Z (BZ d t):Int):=by omega);have HE:JR (Kx c (m++[j])):=EM (m++[j]) (λ_=>W.last Gh HQ BS BT) (λh=>absurd h Ha) (W.zi BS).2;have C:=Aa T;clear BA BT;go_wp2_with (at_builtin;refine me _ rfl (.tmp 65) (.tmp 67) _ rfl N 170 i0 _ 1 16 underlying102 HH FP HJ HB rfl (by omega) (U H (Z m) I) (Z m) (m.flatMap Ag) rfl (lM C _) ⟨wr.heap.size,0,Y⟩ 1 1 [O j] rfl rfl (mg (mo wr _)) (by simp[Value.oneCell']) (by omega) (by unfold maxLen;omega) (by omega) (by simp;have:=B.size;have:=Aa x;omega) (wr.heap.size+1) (by simp) ?_;intro g1 AB u AR A HO HV)
        go_ret;refine⟨V ⟨g1,0,Y⟩,AB,m++[j],by simp,HE,?_,(B.alloc _).grown A (λq z=>Hf (by have:=(C.lt q z).1;have:=Aa x;omega))⟩;rw[mm];simp only[lU,lQ,mn,mC,mc,mS,mz,Ag];exact AR
       ·(have JJ:(((f:Int)+1)==(Z (BZ d t):Int))=K:=by rw[mq];omega);(have H2:¬((f:Int)+1)=(Z (BZ d t):Int):=by omega);(have FA:f+1<Z (BZ d t):=by omega);obtain⟨gy,cy,E0,y0⟩:=GD Ix (f+1) FA;simp only[lB,lL,mu]at E0;obtain⟨⟨Ax,-,-⟩,-,-⟩:=E0;subst Ax;have L:=W.more Gh HQ BS FA;obtain⟨E,hY⟩:=QP ((BZ d t)[f+1]);rw[hY]at y0 L;rw[NW k t (f+1) (by omega),EY]at L;have A2:=Ab L.1;have Os:=L.2;(have NN:(0:Int)<=(f:Int)+1:=by omega);(have N2:(f:Int)+1<(Z (BZ d t):Int):=by omega);have C:=Aa T;have AH:JR (∀u,(wr.alloc (Dj #[O j] 170)).grownBy u (U H (Z m) I).ownBlock->Lc u ⟨P,f+1,Y⟩=V (O E)/\Mi u N 3 1 (U (V ⟨N,0,Y⟩) (Z c) (Z c)) (Z c) (k.flatMap Ck)):=by
         intro u FB;refine⟨?_,(lM S _).kept FB (Hf (λe=>Bg S C (by decide) N rfl e.symm))⟩;have NS:P<N:=M6 _ _ (by rfl);(have NA:P<wr.heap.size:=by have:=B.size;have:=Aa x;omega);rw[FB.cell_far ⟨P,f+1,Y⟩ (by simp;omega) (λe=>by have:=(C.lt P e.symm).1;omega)];exact(((SF [] wr).alloc _).cellAt y0)
        clear BA BT hY L;go_wp2_with (at_builtin;refine me _ rfl (.tmp 65) (.tmp 67) _ rfl N 170 i0 _ 1 16 underlying102 HH FP HJ HB rfl (by omega) (U H (Z m) I) (Z m) (m.flatMap Ag) rfl (lM C _) ⟨wr.heap.size,0,Y⟩ 1 1 [O j] rfl rfl (mg (mo wr _)) (by simp[Value.oneCell']) (by omega) (by unfold maxLen;omega) (by omega) (by simp;have:=B.size;have:=Aa x;omega) (wr.heap.size+1) (by simp) ?_;intro g1 AB u AR A HO HV;have y9:=(AH u A).1;have EK:=(AH u A).2;have HZ:=EK.cellAt t (by omega);have NL:=EK.frozenAt t;rw[Nh k t (by omega)]at HZ)
        have H5:=G.1;have H7:=G.2.1;have IS:=Ab (((AH u A).2).stored t (X J ((f+1:Nat):Int)));go_wp2
        go_roundg (Vh FY E d*(Z c+1)+Z c)
        case measure=>
         have F:=Aa HG;have Q:(Vh FY E d+1)*(Z c+1)<=Vh FY s d*(Z c+1):=mF _ (by omega);rw[nR]at Q;omega
        case rel=>
         refine⟨FI (Z c) t,E,0,k.set t (f+1),m++[j],V ⟨g1,0,Y⟩,AB,by simp,rfl,rfl,by first|rfl|exact congrArg _ G.2.1,by simp,by simp[ES],by simp;omega,A2,?_,?_,?_⟩
         .rw[LN];have h:=IS.1;exact h
         .have BB:=Bg (AH u A).2 AR (by decide) N rfl;have h9:Mi u N 170 1 (U (V ⟨g1,0,Y⟩) (Z (m++[j])) AB) (Z (m++[j])) ((m++[j]).flatMap Ag):=by
           rw[mm];simp only[lU,lQ,mn,mC,mc,mS,mz,Ag];exact AR
          exact Ai h9 (Ac.setCell (M:=[N]) (SF [N] _) (Hd (by simp)) _) (λq z=>by simp only[lG];intro e;subst e;exact BB z)
         .exact((B.alloc _).grown A (λq z=>Hf (by have:=(C.lt q z).1;have:=Aa x;omega))).setCell (Hf (by have:=Aa x;simp;omega)) _
      ·(have HS:(((0:Int)+1)==(Z c:Int))=K:=by rw[mq];omega);(have K4:¬((0:Int)+1)=(Z c:Int):=by omega);(have RE:((1:Int)==(Z c:Int))=K:=by rw[mq];omega);(have UO:¬(1:Int)=(Z c:Int):=by omega);have Bx:=W.next (by omega);rw[NW k t f (by omega),EY]at Bx;have A2:=Ab Bx;have H5:=G.1;have H7:=G.2.1;clear BA Bx;go_wp2
       go_roundg (Vh FY j d*(Z c+1)+(Z c-(0+1)))
       case measure=>
        have F:=Aa HG;have Q:(Vh FY j d+1)*(Z c+1)<=Vh FY s d*(Z c+1):=mF _ (by omega);rw[nR]at Q;omega
       case rel=>
        refine⟨FI (Z c) t,j,0+1,k.set t f,m,H,I,rfl,rfl,by go_num,by first|rfl|exact congrArg _ G.2.1,rfl,by simp[ES],by omega,A2,?_,?_,?_⟩
        .rw[LN];exact(S.stored t (X J (f:Int))).1
        .have BB:=Bg S T (by decide) N rfl;exact Ai T (Ac.setCell (M:=[N]) (SF [N] _) (Hd (by simp)) _) (λq z=>by simp only[lG];intro e;subst e;exact BB z)
        .exact B.setCell (Hf (by have:=Aa x;simp;omega)) _
def Ek.grown{p:Fh}{v:Hs}(h:Ek w p)(b:Mi w m 104 2 v n y)(a:w.grownBy u v.ownBlock):Ek u p:=
 m0 (v:=p.tv) h a (by
  cases hp:p.tv.ownBlock with
  |none=>exact Hd rfl
  |some q=>exact Hf (λe=>Bg h b (by decide) q hp e.symm))
def JI(b:QC bC)(ls:QC PL):QC C9:=(ls.filter λx=>x.sort==0).map (Fu b)
theorem bo(T ty:Nat)(b:QC bC)(FF:Option Addr)(BT:Nat)(c:QC Lx)(w:Hq)(hb:Z b=26)(HA:AI w T (Aj b) ty)(hB:Cd w 0 (U FF (Z c) BT) c)(IA:Z c<=1000)(hl:∀p∈c,P7 p.1):
  Calls prog 198 #[Gi (V ⟨T,0,Y⟩),U FF (Z c) BT] w λr n=>∃(l:Option Addr) (m:Nat) (a:QC Fh),r=G3 (U l (Z a) m)/\a.map Fh.f=JI b (c.map O0)/\Jr n (U l (Z a) m) a/\Mi n w.heap.size 104 2 (U l (Z a) m) (Z a) (a.flatMap A8)/\Ac [] w n:=by
 obtain⟨i0,HY,HT,H0,HX⟩:=mH Tryz.zD;have Go:=Ab hB;have HV:=Ab hl;have HI:JR (∀(x:PL) l m C,Ac [] w C->P7 x->KR w 0 (x,U l (Z x.ts) m)->Calls prog 196 #[Gi (V ⟨T,0,Y⟩),Ms #[X J x.ap,O x.an,U l (Z x.ts) m]] C λr n=>∃g,r=G3 (Ms #[O x.an,U (V ⟨g,0,Y⟩) (Z x.ts) (Z x.ts)])/\Ek n ⟨Fu b x,U (V ⟨g,0,Y⟩) (Z x.ts) (Z x.ts)⟩/\Ac [] C n):=by
  intro x l m C hk hc hx;refine(OO T ty b x.ap x.an l m x.ts 0 C hb (HA.kept hk) (hx.kept hk) (by have:=hc.len;omega) hc.ts).mono ?_;rintro r n ⟨g,rfl,hr,k⟩;refine⟨g,rfl,?_,k⟩;show Mi n 0 170 1 _ (Z (x.ts.map (BJ b))) _;rw[lR];exact Al hr (lW _)
 obtain⟨R,hR⟩:=QP (JI b (c.map O0));rw[hR];have HR:=Ab hR;obtain⟨N,hN⟩:=QP w.heap.size;have Q:=Ab hN;clear hB hl hR hN HA;go_enter func198,ntmps198;go_wp2_with fail
 go_loopg [5,10] (Z c) (λgk o i wr=>∃(k:Nat) (a:QC Fh) (z:Option Addr) (u:Nat),o=U z (Z a) u/\i=X J k/\k<=Z c/\gk=Z c-k/\Z a<=k/\JR (a.map Fh.f=JI b ((c.take k).map O0))/\JR (Mi wr N 104 2 (U z (Z a) u) (Z a) (a.flatMap A8))/\JR (∀p∈a,Ek wr p/\Z p.f.bc<=1000)/\JR (Ac [] w wr))
 case atStart=>exact⟨0,[],Y,0,rfl,rfl,by omega,rfl,by simp,rfl,mf _ _ _ _,(λp e=>by cases e),SF _ _⟩
 case round=>
  obtain⟨k,a,z,u,rfl,rfl,hk,HB,H9,G,L,M,D⟩:=hrel;have HG:=Ab HB;clear HB;by_cases AO:k<Z c
  .obtain⟨g,IJ,x,v,y,he,AH,_,d0,d1,d2,d3,d4,d5,d6,d7,d8⟩:=Vt (Go.kept D) k AO;simp only[lB]at he;obtain⟨rfl,_,rfl⟩:=he;(have AT:(x,U v (Z x.ts) y)∈c:=by rw[<-AH];exact lE AO);have A0:=Aa HV _ AT;have EX:KR w 0 (x,U v (Z x.ts) y):=(Go.each _ AT).1;have DY:JR (JI b ((c.take (k+1)).map O0)=JI b ((c.take k).map O0)++if(x.sort==0)=Cm then[Fu b x] else[]):=by
    show _=_;unfold JI;rw[lF AO,mx,nZ,mx,AH]
    congr 1
    simp only[l9,nE,nw,List.filter_nil];split<;>rfl
   have F:=Ab (D.alloc (Dj (D6 (Ay (x,U v (Z x.ts) y))) 217));have H:=Ab (lM L (Dj (D6 (Ay (x,U v (Z x.ts) y))) 217));(have A:JR (∀p∈a,Ek (wr.alloc (Dj (D6 (Ay (x,U v (Z x.ts) y))) 217)) p/\Z p.f.bc<=1000):=λp e=>⟨(M p e).1.kept ((SF [] wr).alloc _),(M p e).2⟩);have B:=Ab (HI x v y _ F A0 EX);(have CC:JR (Z (Fu b x).bc<=1000):=by show Z (x.ts.map (BJ b))<=1000;rw[lR];exact A0.len);(have W:JR (∀g,A8 ⟨Fu b x,U (V ⟨g,0,Y⟩) (Z x.ts) (Z x.ts)⟩=[O x.an,U (V ⟨g,0,Y⟩) (Z x.ts) (Z x.ts)]):=λg=>rfl);generalize Fu b x=FC at DY B CC W;obtain⟨pl,so,ap,an,d,⟨lv,H6⟩,⟨rv,IS⟩⟩:=x;simp only[Ay]at F H A B DY W d0 d1 d2 d3 d4 d5 d6 d7 d8;clear AH AT A0 EX L M;(have Ix:N<=wr.heap.size:=by have:=D.size;have:=Aa Q;omega);clear D;by_cases S:so=0
   ·(have A1:(so==0)=Cm:=by simp[S]);rw[A1,lS rfl]at DY;clear S;(go_wp2_with fail);refine B.mono ?_;rintro _ s ⟨j,rfl,EK,P⟩;have E:=Ad H P;(have A2:JR (∀p∈a,Ek s p/\Z p.f.bc<=1000):=λp e=>⟨(A p e).1.kept P,(A p e).2⟩);have Bx:=Ab (F.trans P);have FO:=Ab EK;(have H4:N<=s.heap.size:=by have:=Bx.size;have:=Aa Q;omega);clear B H A F P EK d0 d1 d2 d3 d4 d5 d6 d7 d8;go_wp2_with (at_builtin;refine me _ rfl (.tmp 17) (.tmp 22) _ rfl N 104 i0 _ 2 40 underlying113 HY HT H0 HX rfl (by omega) (U z (Z a) u) (Z a) (a.flatMap A8) rfl (lM E _) ⟨s.heap.size,0,Y⟩ 1 1 [O an,U (V ⟨j,0,Y⟩) (Z d) (Z d)] rfl rfl (mg (mo s _)) (by simp[Value.oneCell']) (by omega) (by unfold maxLen;omega) (by omega) (by simp;omega) (s.heap.size+1) (by simp) ?_;intro g1 EM w9 FP I HH HQ)
    have Ax:JR ((a++[Fh.mk FC (U (V ⟨j,0,Y⟩) (Z d) (Z d))]).map Fh.f=JI b ((c.take (k+1)).map O0)):=by
     show _=_;rw[Aa DY,mx,Aa G];rfl
    have HL:JR (Mi w9 N 104 2 (U (V ⟨g1,0,Y⟩) (Z (a++[Fh.mk FC (U (V ⟨j,0,Y⟩) (Z d) (Z d))])) EM) (Z (a++[Fh.mk FC (U (V ⟨j,0,Y⟩) (Z d) (Z d))])) ((a++[Fh.mk FC (U (V ⟨j,0,Y⟩) (Z d) (Z d))]).flatMap A8)):=by
     rw[mm];simp only[lU,lQ,mn,mC,mc,mS,mz,Aa W];exact FP
    have HS:JR (∀p∈a++[Fh.mk FC (U (V ⟨j,0,Y⟩) (Z d) (Z d))],Ek w9 p/\Z p.f.bc<=1000):=by
     intro p e;rcases lV.1 e with h|h
     .exact⟨Ek.grown ((A2 p h).1.kept ((SF [] s).alloc _)) (lM E _) I,(A2 p h).2⟩
     .simp only[lG]at h;subst h;exact⟨Ek.grown (FO.kept ((SF [] s).alloc _)) (lM E _) I,CC⟩
    have HW:=Ab ((Bx.alloc (Dj #[O an,U (V ⟨j,0,Y⟩) (Z d) (Z d)] 104)).grown I (λq hq=>Hf (by have:=(E.lt q hq).1;have:=Aa Q;omega)));clear FP I HH HQ E A2 Bx FO DY G
    go_roundg (Z c-(k+1))
    case measure=>have:=Aa HG;omega
    case rel=>exact⟨k+1,a++[Fh.mk FC (U (V ⟨j,0,Y⟩) (Z d) (Z d))],V ⟨g1,0,Y⟩,EM,by simp,by go_num,by omega,rfl,by simp;omega,Ax,HL,HS,HW⟩
   ·(have A1:(so==0)=K:=by simp[S]);rw[A1,lO (by simp),mz]at DY;(have Ax:JR (a.map Fh.f=JI b ((c.take (k+1)).map O0)):=by show _=_;rw[Aa DY];exact G);clear S DY G B;go_wp2
    go_roundg (Z c-(k+1))
    case measure=>have:=Aa HG;omega
    case rel=>exact⟨k+1,a,z,u,rfl,by go_num,by omega,rfl,by omega,Ax,H,A,F⟩
  .have H2:JR (a.map Fh.f=R):=by
    have h:=Aa G;rw[lH (by omega),Aa HR]at h;exact h
   go_wp2;go_ret;exact⟨z,u,a,rfl,H2,⟨Al L (lW _),M⟩,by rw[Aa Q];exact L,D⟩
