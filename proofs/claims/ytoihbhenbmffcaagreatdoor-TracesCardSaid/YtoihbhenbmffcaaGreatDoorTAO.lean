import Derived.Deep.OwnRows
import Derived.Test.YtoihbhenbmffcaaGreatDoorTAN
set_option linter.all false
set_option maxHeartbeats 0
open List renaming length->Z,toArray->j2,replicate->qV
open Option renaming none->Y,some->V
open Go.Value renaming slice->U,int->X,string->O,pointer->j3,agg->oj,bool->q8,ownBlock->qX
open Bool renaming false->K,true->jj
open Go.IntKind renaming i64->J,i32->q7
open Go.Obj renaming cells->j1
open Go.Ending renaming returned->kt
open Or renaming inl->lo,inr->lx
open Go renaming World->ly,Value->ml
open Go.RowKit renaming Hid->nc
open Go.World renaming cell?->oa,ownsRow->oi
open Prod renaming fst->qW
namespace Go.Proofs.YtoihbhenbmffcaaGreatDoor
open Go.RowKit Go.Proofs.Tryz
variable{P:Program}{n i m k b:Nat}{w u:ly}{y x:rc ml}{T:TypeId}{z:ml}{a:Act}{Q:Exit->Act->ly->Prop}
theorem Tryz.zi:(Tryz.prog.info? 104).map (λi=>(i.zero,i.size,i.bytes))=V (V (oj #[O ⟨#[]⟩,U Y 0 0]),2,40):=by kernel_rfl
def GI(w:ly)(k p u d:TypeId)(f:Nat)(b o e l:Nat)(a:Addr)(g t:Nat)(c:rc ml)
  (s:P.underlying k=V (.slice d)) (h:(P.info? d).map (·.size)=V f) (y:Z c=Nat.min g e*f)
  (A:∀j v,c[j]?=V v->oa w (a.add j)=V v) (z:∀j,j<Z c->(oa w ⟨b,o+j,Y⟩).isSome=jj) (q:∀j,j<Z c->w.frozen? ⟨b,o+j,Y⟩=K) (n:∀v∈c,v.oneCell'=jj):
  (Builtin.copy_ #[k,p] u #[U (V ⟨b,o,Y⟩) e l,U (V a) g t]).run P w=.ok (goInt (Nat.min g e)) (w.setCells b o c):=by
 have r:=run_loadCells_list (P:=P) w a c A;have m:=run_storeCells_cells (P:=P) b o c 0 w (by simpa using z) (by simpa using q) n;cases hq:P.info? d with
 |none=>simp[hq]at h
 |some i=>
  have x:i.size=f:=by simpa[hq] using h
  simp[Builtin.copy_,qL s,Builtin.lenOf,Builtin.firstCells,sizeOf,typeInfo,hq,x,<-y,r,m]
set_option maxRecDepth 100000
theorem ZP(g n c i d:Nat)(b r l:rc ml)(w:ly)(hi:i<n)(A1:n+1<=c)(A0:c<=9223372036854775807)(C:d≠g)
  (P:Z b=n*2) (s:Z l=2) (o:AI w g r 104) (F:Z r=c*2) (B:r.take (n*2)=b) (q:AI w d l 104) (AB:∀v∈b,v.oneCell'=jj) (W:∀v∈l,v.oneCell'=jj):
  Calls prog 105 #[U (V ⟨g,0,Y⟩) n c,X J i,U (V ⟨d,0,Y⟩) 1 1] w λe S=>
   e=kt (U (V ⟨g,0,Y⟩) (n+1) c)/\S=(w.drew.setCells g ((i+1)*2) (b.drop (i*2))).setCells g (i*2) l:=by
 obtain⟨i0,R,AT,L,CL⟩:=nC Tryz.zi;have E:(prog.info? 104).map (·.size)=V 2:=by rw[R];simp[L]
 have AR:∀w,(Go.sizeOf 104).run prog w=.ok 2 w:=λw=>by simp[sizeOf,typeInfo,R,L]
 have N:∀j,j<(n+1)*2->(oa w ⟨g,j,Y⟩).isSome=jj:=λj a=>o.some j (by omega)
 have Q:∀j,w.frozen? ⟨g,j,Y⟩=K:=λj=>o.frozen j
 have G:∀j v,b[j]?=V v->oa w ⟨g,j,Y⟩=V v:=λj v a=>by
  rw[o.cell];rw[<-B,oD]at a;split at a
  .exact a
  .cases a
 have Ax:∀x u,(callFunc 152 #[U (V ⟨d,0,Y⟩) 1 1,U (V ⟨g,(i+1)*2,Y⟩) x u]).run prog w=.ok (.value (q8 K)) w:=λx u=>by
  rw[qx func152 (by kernel_rfl) (by kernel_rfl) (by kernel_rfl) (e:=Extern.SlicesOverlaps.overlaps #[113,113] #[4]) (by kernel_rfl),
   Lib.run_overlaps_apart w 113 4 104 underlying113 2 AR ⟨d,0,Y⟩ ⟨g,(i+1)*2,Y⟩ 1 1 x u C 104 104 2 (c*2) (by rw[<-s];exact q.shape) (by rw[<-F];exact o.shape) (by omega) (q.frozen 0) (q.frozen 2)]
  rfl
 have H:Z (b.drop (i*2))=(n-i)*2:=by rw[nF,P];omega
 have I:Nat.min (n+1-i) (n-i)=n-i:=by simp only[qJ];split<;>omega
 have A:∀m f y,(Builtin.copy_ #[113,113] m #[U (V ⟨g,(i+1)*2,Y⟩) (n-i) f,U (V ⟨g,i*2,Y⟩) (n+1-i) y]).run prog w.drew=.ok (goInt ((n-i:Nat):Int)) (w.drew.setCells g ((i+1)*2) (b.drop (i*2))):=λm f y=>by
  have h:=GI w.drew 113 113 m 104 2 g ((i+1)*2) (n-i) f ⟨g,i*2,Y⟩ (n+1-i) y (b.drop (i*2)) underlying113 E (by rw[H,I])
   (λj v a=>by rw[po];exact G (i*2+j) v (by rwa [pY]at a))
   (λj a=>N _ (by omega)) (λj a=>Q _) (λv hv=>AB v (oU hv))
  rw[I]at h;exact h
 obtain⟨k,p⟩:∃k,k=w.drew.setCells g ((i+1)*2) (b.drop (i*2)):=⟨_,rfl⟩;have t:AI k g (Oc r ((i+1)*2) (b.drop (i*2))) 104:=by rw[p];exact o.drew.setCells _ _
 have z:AI k d l 104:=by rw[p];exact q.drew.kept (Ac.setCells (M:=[g]) (by simp) _ _ (re _ _)) (by simpa using C)
 have D:Nat.min 1 (n+1-i)=1:=by simp only[qJ];split<;>omega
 have T:∀m f,(Builtin.copy_ #[113,113] m #[U (V ⟨g,i*2,Y⟩) (n+1-i) f,U (V ⟨d,0,Y⟩) 1 1]).run prog k=.ok (goInt 1) (k.setCells g (i*2) l):=λm f=>by
  have h:=GI k 113 113 m 104 2 g (i*2) (n+1-i) f ⟨d,0,Y⟩ 1 1 l underlying113 E (by rw[D,s])
   (λj v a=>by rw[po,nE,z.cell];exact a)
   (λj a=>t.some _ (by rw[D1];omega)) (λj a=>t.frozen _) W
  rw[D]at h;exact h
 rw[<-p]at A;have BT:IntKind.i64.wrap ((i:Int)+1)=(i:Int)+1:=by rw[pV];omega
 have Bx:¬((i:Int)=(n:Int)):=by omega
 have CC:(0:Int)<=(i:Int)+1:=by omega
 have BS:i<=n:=by omega
 have A2:((i:Int)+1).toNat=i+1:=by omega
 have B0:¬(c=i+1):=by omega
 have CW:(i:Int)<=(n:Int)+1:=by omega
 have B9:¬(c=i):=by omega
 have mixed:prog.follows Departure.mixedOrders=jj:=by kernel_rfl
 have AH:=Ab p;clear o q t z G N Q p H P F B s;go_enter func105,ntmps105;go_wp2_with (simp only[Ax])
 go_region_law_o (refine step_copy_runI rfl _ _ 113 113 rfl _ _ (by simp[Act.eval,Act.put]) (by simp[Act.eval,Act.put]) (A _ _ _) ?_)
 go_wp2_with (at_builtin;refine wpList_copy_runI _ rfl _ _ 113 113 rfl _ _ rfl rfl (T _ _) ?_)
 go_ret;exact⟨rfl,by rw[Aa AH]⟩
theorem cJ(g n c i o:Nat)(f t d:rc ml)(w:ly)(hi:i<n)(Go:n<=c)(DT:c<n+1)(HC:n<=1000000)
  (A1:Z f=n*2) (I:Z d=2) (y:AI w g t 104) (E0:Z t=c*2) (A:t.take (n*2)=f) (H:AI w o d 104) (EY:∀v∈f,v.oneCell'=jj) (CW:∀v∈d,v.oneCell'=jj):
  Calls prog 105 #[U (V ⟨g,0,Y⟩) n c,X J i,U (V ⟨o,0,Y⟩) 1 1] w λe w'=>
   ∃(a:rc ml) (G:Nat),Z a=G*2/\n+1<=G/\G<=maxLen/\a.take (i*2)=f.take (i*2)/\e=kt (U (V ⟨w.heap.size,0,Y⟩) (n+1) G)/\
   w'=(((w.alloc (j1 (j2 a) 104)).drew.setCells w.heap.size (i*2) d).drew).setCells w.heap.size ((i+1)*2) (f.drop (i*2)):=by
 obtain⟨i0,BS,B9,AR,A2⟩:=nC Tryz.zi;have mixed:prog.follows Departure.mixedOrders=jj:=by kernel_rfl
 have T:(prog.info? 104).map (·.size)=V 2:=by rw[BS];simp[AR]
 have FL:=y.lt;have FF:=H.lt;have P:(n:Int)+1-(i:Int)=((n+1-i:Nat):Int):=by omega
 have D:i+(n+1-i)=n+1:=by omega
 have AH:∀j v,f[j]?=V v->oa w ⟨g,j,Y⟩=V v:=λj v b=>by
  rw[y.cell];rw[<-A,oD]at b;split at b
  .exact b
  .cases b
 have R:(Builtin.firstCells i0.size i (U (V ⟨g,0,Y⟩) i c)).run prog w.drew=.ok (j2 (f.take (i*2))) w.drew:=by
  rw[AR];exact run_firstCells_some w.drew 2 i ⟨g,0,Y⟩ i c (f.take (i*2)) (by rw[nu];omega) (λj v b=>by
   rw[po,nE]
   rw[oD]at b
   split at b
   .exact AH j v b
   .cases b)
 obtain⟨m,C⟩:∃m:Array ml,(oj #[O ⟨#[]⟩,U Y 0 0]).cells=m:=⟨_,rfl⟩;have AT:m.size=2:=by rw[<-C];rfl
 have s:∀k,(Builtin.append_ #[113,3] k #[U (V ⟨g,0,Y⟩) i c,X J ((n:Int)+1-(i:Int))]).run prog w=
   .ok (U (V ⟨w.heap.size,0,Y⟩) (n+1) (grownCap w (n+1) c 104)) (w.drew.alloc (j1 (j2 (f.take (i*2))++Builtin.zeroCells m (n+1-i)++Builtin.zeroCells m (grownCap w (n+1) c 104-(n+1))) 104)):=λk=>by
  have h:=Lib.run_append_grow_zeros w 113 3 k 104 i0 _ J J underlying113 underlying3 BS B9 (V ⟨g,0,Y⟩) i c (f.take (i*2)) R (n+1-i) (by omega) (by omega) (by omega) (by omega) (by rw[A2];omega) (by rw[A2,D];exact growslice_fits DT (by omega));rw[D,C]at h;rw[P];exact h
 obtain⟨G,u⟩:∃G,G=grownCap w (n+1) c 104:=⟨_,rfl⟩;obtain⟨a,r⟩:∃a:rc ml,j2 a=j2 (f.take (i*2))++Builtin.zeroCells m (n+1-i)++Builtin.zeroCells m (G-(n+1)):=⟨_,Array.toArray_toList⟩;rw[<-u]at s;rw[<-r]at s;have FA:n+1<=G:=by rw[u];exact grownCap_ge w _ _ _
 have B:G<=maxLen:=by rw[u];exact grownCap_le_maxLen w (n+1) c 104 (by unfold maxLen;omega)
 have BT:Z a=G*2:=by
  have:=congrArg Array.size r;simp[Builtin.zeroCells,AT]at this;omega
 have AB:a.take (i*2)=f.take (i*2):=by
  have h:=congrArg Array.toList r;simp only[Array.toList_append,nA]at h;rw[h,nG (by simp;omega)];simp[pM]
 obtain⟨N,hN⟩:=rd w.heap.size;have q:AI (w.drew.alloc (j1 (j2 a) 104)) N a 104:=by rw[<-hN];exact rf w.drew a 104
 have Q:AI (w.drew.alloc (j1 (j2 a) 104)) o d 104:=H.drew.alloc _;have S:Nat.min 1 (n+1-i)=1:=by simp only[qJ];split<;>omega
 have EM:∀(W:ly),(∀x,oa W x=oa (w.drew.alloc (j1 (j2 a) 104)) x)->(∀x,W.frozen? x=(w.drew.alloc (j1 (j2 a) 104)).frozen? x)->∀k l,(Builtin.copy_ #[113,113] k #[U (V ⟨N,i*2,Y⟩) (n+1-i) l,U (V ⟨o,0,Y⟩) 1 1]).run prog W=.ok (goInt 1) (W.setCells N (i*2) d):=λW p E k l=>by
  have h:=GI W 113 113 k 104 2 N (i*2) (n+1-i) l ⟨o,0,Y⟩ 1 1 d underlying113 T (by rw[S,I])
   (λj v b=>by rw[po,nE,p,Q.cell];exact b)
   (λj b=>by rw[p];exact q.some _ (by omega)) (λj b=>by rw[E];exact q.frozen _) CW
  rw[S]at h;exact h
 have z:AI ((w.drew.alloc (j1 (j2 a) 104)).setCells N (i*2) d) N (Oc a (i*2) d) 104:=q.setCells _ _;have L:AI ((w.drew.alloc (j1 (j2 a) 104)).setCells N (i*2) d) g t 104:=(y.drew.alloc _).kept (Ac.setCells (M:=[N]) (by simp) _ _ (re _ _)) (by simp;omega);have AO:Z (f.drop (i*2))=(n-i)*2:=by rw[nF,A1];omega
 have A0:Nat.min (n-i) (n-i)=n-i:=Nat.min_self _;have Bx:∀(W:ly),(∀x,oa W x=oa ((w.drew.alloc (j1 (j2 a) 104)).setCells N (i*2) d) x)->(∀x,W.frozen? x=((w.drew.alloc (j1 (j2 a) 104)).setCells N (i*2) d).frozen? x)->∀k l F,(Builtin.copy_ #[113,113] k #[U (V ⟨N,(i+1)*2,Y⟩) (n-i) l,U (V ⟨g,i*2,Y⟩) (n-i) F]).run prog W=.ok (goInt ((n-i:Nat):Int)) (W.setCells N ((i+1)*2) (f.drop (i*2))):=λW p E k l F=>by
  have h:=GI W 113 113 k 104 2 N ((i+1)*2) (n-i) l ⟨g,i*2,Y⟩ (n-i) F (f.drop (i*2)) underlying113 T (by rw[AO,A0])
   (λj v b=>by
    rw[po,p,L.cell]
    rw[pY,<-A,oD]at b
    split at b
    .exact b
    .cases b)
   (λj b=>by rw[p];exact z.some _ (by rw[D1];omega))
   (λj b=>by rw[E];exact z.frozen _) (λv hv=>EY v (oU hv))
  rw[A0]at h;exact h
 have CL:∀x,oa ((w.alloc (j1 (j2 a) 104)).drew) x=oa (w.drew.alloc (j1 (j2 a) 104)) x:=λx=>rfl
 have FB:∀x,((w.alloc (j1 (j2 a) 104)).drew).frozen? x=(w.drew.alloc (j1 (j2 a) 104)).frozen? x:=λx=>rfl
 have EX:∀x,oa (((w.alloc (j1 (j2 a) 104)).drew.setCells N (i*2) d).drew) x=oa ((w.drew.alloc (j1 (j2 a) 104)).setCells N (i*2) d) x:=λx=>rfl
 have EK:∀x,(((w.alloc (j1 (j2 a) 104)).drew.setCells N (i*2) d).drew).frozen? x=((w.drew.alloc (j1 (j2 a) 104)).setCells N (i*2) d).frozen? x:=λx=>rfl
 have HA:IntKind.i64.wrap ((i:Int)+1)=(i:Int)+1:=by rw[pV];omega
 have FT:¬((i:Int)=(n:Int)):=by omega
 have HE:(c:Int)<(n:Int)+1:=by omega
 have HG:(0:Int)<=(i:Int)+1:=by omega
 have FW:i<=n:=by omega
 have FO:((i:Int)+1).toNat=i+1:=by omega
 have HH:(i:Int)<=(n:Int):=by omega
 have HF:¬(G=i):=by omega
 have FP:¬(G=i+1):=by omega
 have HB:¬(c=i):=by omega
 have Ha:G<=9223372036854775807:=by unfold maxLen at B;omega
 have B0:=Ab BT;have CC:=Ab AB;have ES:=Ab B;rw[hN]at s⊢;clear P D R r u BT AB B y H q Q z L AH AO A1 E0 A I AT C;go_enter func105,ntmps105;go_wp2_with (first
  |(at_builtin;refine Lib.wpList_append_run _ rfl _ _ _ _ rfl _ _ rfl rfl _ _ (s _) ?_)
  |(at_builtin;refine wpList_copy_runI _ rfl _ _ 113 113 rfl _ _ rfl rfl (EM _ CL FB _ _) ?_)
  |(at_builtin;refine wpList_copy_runI _ rfl _ _ 113 113 rfl _ _ rfl rfl (Bx _ (λ_=>rfl) (λ_=>rfl) _ _ _) ?_))
 go_region_law_o (refine step_copy_runI rfl _ _ 113 113 rfl (U (V ⟨N,(i+1)*2,Y⟩) (n-i) (G-(i+1))) (U (V ⟨g,i*2,Y⟩) (n-i) (c-i)) (by simp[Act.eval,Act.put]) (by simp[Act.eval,Act.put]) (Bx _ EX EK 3 (G-(i+1)) (c-i)) ?_)
 go_wp2;go_ret;exact⟨a,G,B0,FA,ES,CC,rfl,rfl⟩
def JQ{α:Type}(f:α->rc ml)(a:Nat):∀(l:rc α) (i:Nat),(∀x∈l,Z (f x)=a)->i<=Z l->(l.take i).flatMap f=(l.flatMap f).take (i*a)/\(l.drop i).flatMap f=(l.flatMap f).drop (i*a)
 |l,0,_,_=>by simp
 |[],i+1,_,h=>by simp at h
 |x::l,i+1,hl,h=>by
  have ih:=JQ f a l i (λy b=>hl y (no _ b)) (by simpa using h);have c:=hl x (nK ..);simp only[pk,pC,mX,ih.1,ih.2];have e:(i+1)*a=Z (f x)+i*a:=by rw[c,oZ];omega
  rw[e];exact⟨by rw[List.take_length_add_append],by rw[List.drop_length_add_append]⟩
def eM{b a c:rc ml}(q:b.take (n*m)=a)(k:Z a=n*m)(e:Z c=m)(p:i<=n)(o:(n+1)*m<=Z b):
  (Oc (Oc b ((i+1)*m) (a.drop (i*m))) (i*m) c).take ((n+1)*m)=a.take (i*m)++c++a.drop (i*m):=by
 have g:(i+1)*m=i*m+m:=by rw[oZ];omega
 have f:(n+1)*m=n*m+m:=by rw[oZ];omega
 have l:i*m<=n*m:=nB _ p;rw[f]at o;rw[g,f];generalize i*m=I at*;generalize n*m=M at*;have d:Z (a.drop I)=M-I:=by rw[nF,k]
 rw[Hl c _ I (by rw[D1];omega),Hl (a.drop I) b (I+m) (by rw[d];omega)];have h:(b.take (I+m)++a.drop I++b.drop (I+m+Z (a.drop I))).take I=a.take I:=by
  rw[nA,nG (by simp;omega),pM,pr (by omega),<-q,pM,pr l]
 have j:(b.take (I+m)++a.drop I++b.drop (I+m+Z (a.drop I))).drop (I+Z c)=a.drop I++b.drop (I+m+Z (a.drop I)):=by
  rw[e,nA,List.drop_append_of_le_length (by simp;omega),List.drop_of_length_le (by simp;omega),nM]
 rw[h,j,<-nA,nG (by simp[d,e];omega),mz (by simp[d,e];omega)]
def Z7(p:Eb):(AM p).length=2:=rfl
def dl(a:rc Eb)(i:Nat)(x:Eb)(b:i<=Z a):(a.take i++x::a.drop i).flatMap AM=(a.flatMap AM).take (i*2)++AM x++(a.flatMap AM).drop (i*2):=by
 have h:=JQ AM 2 a i (λp _=>Z7 p) b;rw[mY,mX,h.1,h.2,nA]
def dp(a:rc Eb):Z (a.flatMap AM)=Z a*2:=by
 induction a with
 |nil=>rfl
 |cons p a ih=>simp only[mX,mM,ih,Z7,mL];omega
theorem Wn(q:Option Addr)(f:Nat)(b:rc Eb)(i:Nat)(x:Eb)(t n:Nat)(w:ly)(p:oi w t 104 2 (U q (Z b) f) (Z b) (b.flatMap AM))(EY:Z b<=1000000)(hi:i<=Z b)(C:AI w n (AM x) 104)(BT:(U q (Z b) f).ownBlock≠V n)(H:t<=w.heap.size)
  (v:∀u∈b.flatMap AM,u.oneCell'=jj) (N:∀u∈AM x,u.oneCell'=jj):
  Calls prog 105 #[U q (Z b) f,X J i,U (V ⟨n,0,Y⟩) 1 1] w λe y=>∃g cp,e=kt (U (V ⟨g,0,Y⟩) (Z b+1) cp)/\oi y t 104 2 (U (V ⟨g,0,Y⟩) (Z b+1) cp) (Z b+1) ((b.take i++x::b.drop i).flatMap AM)/\Ac (U q (Z b) f).ownBlock.toList w y/\((U q (Z b) f).ownBlock=V g\/w.heap.size<=g):=by
 have m:=dp b;have l:=Z7 x;rw[dl b i x hi];by_cases E0:i=Z b
 .subst E0;obtain⟨i0,Bx,T,Ax,AH⟩:=nC Tryz.zi;have r:nc ((b.flatMap AM).take (Z b*2)++AM x++(b.flatMap AM).drop (Z b*2)=b.flatMap AM++AM x):=by
   show _=_;rw[mz (by omega),ni (by omega),np]
  have B:nc (∀j u,(AM x)[j]?=V u->oa w ((⟨n,0,Y⟩:Addr).add j)=V u):=λj u hu=>by rw[po,nE,C.cell];exact hu
  have Q:=Ab p;have D:=Ab N;clear C v;cases q with
  |none=>
   have A1:Z b=0:=by
    rcases p.2 with⟨d,s⟩|⟨g,c,o,d,_⟩
    .exact s
    .simp at d
   have B2:f=0:=by
    rcases p.2 with⟨d,s⟩|⟨g,c,o,d,_⟩
    .simp only[mu]at d;exact d.2.2
    .simp at d
   subst B2;have B9:b=[]:=oP.1 A1;subst B9;clear p A1;simp only[m8,nP]at Q r⊢;generalize AM x=xs at B D r l⊢;go_enter func105,ntmps105;go_wp2_with (at_builtin;refine mZ _ rfl _ _ _ rfl t 104 i0 _ 2 40 underlying113 Bx T Ax AH rfl (by omega) (U Y 0 0) 0 [] rfl Q ⟨n,0,Y⟩ 1 1 xs rfl (by omega) B D (by omega) (by unfold maxLen;omega) (by omega) H _ rfl ?_;intro M I w9 z L E FP)
   go_ret;rw[Aa r];refine⟨M,I,rfl,z,(re _ w).grown L (λk F=>lo (by rw[oK];exact F)),?_⟩;rcases E with h|h
   .exact lo h
   .exact lx (by omega)
  |some a=>
   obtain⟨ab,ao,FC⟩:=a;have EM:ao=0/\FC=Y:=by
    rcases p.2 with⟨d,s⟩|⟨g,c,o,d,_⟩
    .simp at d
    .simp only[mu,mB,nr]at d;exact d.1.2
   obtain⟨rfl,rfl⟩:=EM;have ES:Z b<=f/\f<=maxLen:=by
    rcases p.2 with⟨d,s⟩|⟨g,c,o,d,_,_,v,h2,_⟩
    .simp at d
    .simp only[mu]at d;rw[d.2.2];exact⟨v,h2⟩
   obtain⟨BA,A⟩:=ES;unfold maxLen at A;clear p;generalize AM x=xs at B D r l⊢;go_enter func105,ntmps105;go_wp2_with (at_builtin;refine mZ _ rfl _ _ _ rfl t 104 i0 _ 2 40 underlying113 Bx T Ax AH rfl (by omega) (U (V ⟨ab,0,Y⟩) (Z b) f) (Z b) (b.flatMap AM) rfl Q ⟨n,0,Y⟩ 1 1 xs rfl (by omega) B D (by omega) (by unfold maxLen;omega) (by omega) H _ rfl ?_;intro M I w9 z L E FP)
   all_goals
    go_ret;refine⟨M,I,rfl,(by first|(rw[Aa r];exact z)|(rw[<-nA,Aa r];exact z)),(re _ w).grown L (λk F=>lo (by rw[oK];exact F)),?_⟩;rcases E with h|h
    .exact lo h
    .exact lx (by omega)
 .have AR:i<Z b:=by omega
  rcases p.2 with⟨d,s⟩|⟨g,c,o,d,hb,FW,BA,A,FF,CL⟩
  .omega
  .simp only[mu]at d;obtain⟨rfl,_,rfl⟩:=d;(have CW:n≠g:=λe=>BT (by simp[qX,e]));(have S:AI w g o.toList 104:=by unfold AI;simpa using FW);(have AO:Z o.toList=f*2:=by simpa using FF);have R:o.toList.take (Z b*2)=b.flatMap AM:=CL;by_cases W:Z b+1<=f
   .refine(ZP g (Z b) f i n (b.flatMap AM) o.toList (AM x) w AR W (by unfold maxLen at A;omega) CW m l S AO R C v N).mono ?_;rintro e y ⟨rfl,rfl⟩;have P:=(S.drew.setCells ((b.flatMap AM).drop (i*2)) ((i+1)*2)).setCells (AM x) (i*2);refine⟨g,f,rfl,⟨?_,lx ⟨g,f,_,rfl,hb,P,W,A,?_,?_⟩⟩,?_,lo rfl⟩
    .simp only[mM,nu,nF,m,l];omega
    .simp only[nQ,D1];omega
    .exact eM R m l hi (by omega)
    .exact Ac.setCells (by simp[qX]) _ _ (Ac.setCells (by simp[qX]) _ _ (re _ w).drew)
   .refine(cJ g (Z b) f i n (b.flatMap AM) o.toList (AM x) w AR BA (by omega) EY m l S AO R C v N).mono ?_;rintro e y ⟨A0,G,Go,FL,B0,FA,rfl,rfl⟩;have P:=((rf w A0 104).drew.setCells (AM x) (i*2)).drew.setCells ((b.flatMap AM).drop (i*2)) ((i+1)*2);(have hd:Z ((b.flatMap AM).drop (i*2))=(Z b-i)*2:=by rw[nF,m];omega);refine⟨w.heap.size,G,rfl,⟨?_,lx ⟨w.heap.size,G,_,rfl,H,P,FL,B0,?_,?_⟩⟩,?_,lx (mP _)⟩
    .simp only[mM,nu,nF,m,l];omega
    .simp only[nQ,D1];omega
    .rw[Hl _ _ _ (by rw[D1,hd];omega),Hl _ _ _ (by rw[l];omega),FA];have e1:(List.take (i*2) (b.flatMap AM)++AM x++List.drop (i*2+Z (AM x)) A0).take ((i+1)*2)=List.take (i*2) (b.flatMap AM)++AM x:=by
      rw[nG (by simp only[mM,nu,m,l];omega),mz (by simp only[mM,nu,m,l];omega)]
     rw[e1,nG (by simp only[mM,nu,nF,m,l];omega),mz (by simp only[mM,nu,nF,m,l];omega)]
    .exact Ac.setCells (lx (mP _)) _ _ (Ac.setCells (lx (mP _)) _ _ ((re _ w).alloc _).drew).drew
def Bh{i n e f s1 s2 l o:Nat}{v1 h:ml}(m:oi w i e s1 v1 l y)(k:oi w n f s2 h o x)(j:e≠f)(q:Nat)(a:v1.ownBlock=V q):h.ownBlock≠V q:=λd=>by
 rcases m.2 with⟨rfl,_⟩|⟨g,c,r,rfl,_,p,_⟩
 .simp[qX]at a
 .rcases k.2 with⟨rfl,_⟩|⟨t,s,u,rfl,_,b,_⟩
  .simp[qX]at d
  .simp only[qX,mB]at a d;subst a;subst d;rw[p]at b;simp only[mB,Obj.cells.injEq]at b;exact j b.2.1
def Aq{v1:ml}(f:oi w n m k v1 i y)(a:AI w b x T)(e:m≠T):v1.ownBlock≠V b:=λd=>by
 rcases f.2 with⟨rfl,_⟩|⟨g,c,j,rfl,_,h,_⟩
 .simp[qX]at d
 .simp only[qX,mB]at d;subst d;unfold AI at a;rw[h]at a;simp only[mB,Obj.cells.injEq]at a;exact e a.2.1
def ZU{p:Eb}(h:C8 w p):∀u∈AM p,u.oneCell'=jj:=by
 obtain⟨c,b,e⟩:=Al h;intro u a;simp only[AM,mA,nI,or_false]at a;rcases a with rfl|rfl
 .rfl
 .rw[e];rfl
def Io.one{a:rc Eb}(h:Io w z a):∀u∈a.flatMap AM,u.oneCell'=jj:=λu c=>by
 obtain⟨p,b,d⟩:=m6.1 c;exact ZU (h.each p b).1 u d
def LG(fs:rc Eb)(x:Eb)(p:Nat):rc Eb:=if De fs x.f p then fs else fs.take p++x::fs.drop p
structure VD(sb so:Nat)(cells:rc ml)(ty:TypeId)(sv:ml)(fs:rc Eb)(x:Eb)(w w':ly):Prop where
 out:∃(p:Nat) (ad:Option Addr) (cp:Nat),E8 fs x.f p/\AI w' sb (cells.set so (U ad (Z (LG fs x p)) cp)) ty/\Io w' (U ad (Z (LG fs x p)) cp) (LG fs x p)/\∀q,(U ad (Z (LG fs x p)) cp).ownBlock=V q->sv.ownBlock=V q\/w.heap.size<=q
 kept:Ac (sb::sv.ownBlock.toList) w w'
theorem OP(k b:Nat)(E:rc ml)(H:TypeId)(d:Option Addr)(c:Nat)(a:rc Eb)(x:Eb)(w:ly)(T:AI w k E H)(AB:E[b]?=V (U d (Z a) c))(B9:104≠H)(HJ:170≠H)(h:Io w (U d (Z a) c) a)(P:C8 w x)(AR:Z x.f.zC<=1000)(HS:Z a<=900000)(FO:∀i j (hi:i<Z a) (hj:j<Z a),i<=j->CX a[j].f x.f<0->CX a[i].f x.f<0):
  Calls prog 61 #[j3 (V ⟨k,b,Y⟩),oj (j2 (AM x))] w λe r=>e=kt (.tuple #[])/\VD k b E H (U d (Z a) c) a x w r:=by
 have H4:=T.lt;have AH:nc (∀wr,Ac [] w wr->Calls prog 103 #[U d (Z a) c,oj (j2 (AM x)),.func (.func 104) #[] #[]] wr λe r=>∃p:Nat,e=kt (.tuple #[X J p,q8 (De a x.f p)])/\E8 a x.f p/\Ac [] wr r):=λwr hk=>Jc d c a x wr (h.kept hk) (P.kept hk) AR (by omega) FO
 have HB:=Ab T;have HP:=Ab h;have HX:=Ab P;have HO:=Ab AR;obtain⟨m,o,E0⟩:=Al P;obtain⟨t,H6,Q⟩:∃n v,AM x=[O n,v]/\v=U m (Z x.f.zC) o:=⟨_,_,rfl,E0⟩;obtain⟨Q,rfl⟩:=Q;have B0:=Ab Q;generalize Z x.f.zC=xl at B0;rw[Aa B0]at AH⊢;clear Q E0;have hK:=(re [] w).alloc (j1 [O t,U m xl o].toArray 104);have c0:=(T.alloc (j1 [O t,U m xl o].toArray 104)).cell b;rw[AB]at c0;have FC:=Ab AB;have HC:nc (E.set b (U d (Z a) c)=E):=by
  show _=_;obtain⟨HV,e⟩:=p8.1 AB;rw[<-e,List.set_getElem_self]
 clear AB;have F:=rf w [O t,U m xl o] 104;have S:=Ab hK;clear h P AR FO hK T;go_enter func61,ntmps61;go_wp2_with fail
 change Code.wp _ _ _ _ (w.alloc (j1 [O t,U m xl o].toArray 104));generalize w.alloc (j1 [O t,U m xl o].toArray 104)=w1 at S c0 F⊢;obtain⟨N,BS⟩:=rd w.heap.size;rw[BS]at F⊢;have H5:=Ab BS;clear BS;have x0:=F.cell 0;have x1:=F.cell 1;simp at x0 x1;have HN:=Ab F;have DT:=Ab (AH w1.drew S.drew);clear AH F
 go_region_law (go_simp;go_at_call 103;refine DT.mono ?_;rintro e l ⟨p,rfl,hcut,k3⟩;have D:=Ab hcut;have B:=Ab (S.drew.trans k3);have R:=Ab (HN.drew.kept k3);clear hcut k3)
 all_goals
  clear DT c0 x0 x1;have u:=Ab (HP.kept B);have I:=Ab (HB.kept B);have EY:=Ab (HX.kept B);obtain⟨HT,A1⟩:=rd (De a x.f p);have A0:=Ab A1;rw[A1];clear A1;have H3:=B.size;cases HT with
  |true=>
   (have y:nc (LG a x p=a):=by show _=_;unfold LG;rw[Aa A0,mK rfl]);go_wp2;go_end0;refine⟨rfl,⟨p,d,c,D,?_,?_,?_⟩,B.mono (by simp)⟩
   .rw[Aa y,Aa HC];exact I
   .rw[Aa y];exact u
   .rw[Aa y];exact λq C=>lo C
  |false=>
   (have y:nc (LG a x p=a.take p++x::a.drop p):=by show _=_;unfold LG;rw[Aa A0,mJ (by simp)]);have G:nc (Z (a.take p++x::a.drop p)=Z a+1):=by
    show _=_;have:=D.le;simp only[mM,nu,mL,nF];omega
   have FW:nc (∀A,(A=(l.drew).alloc (j1 #[O t,U m xl o] 104)\/A=(l.alloc (j1 #[O t,U m xl o] 104)).drew)->Calls prog 105 #[U d (Z a) c,X J p,U (V ⟨l.heap.size,0,Y⟩) 1 1] A λe r=>∃g z,e=kt (U (V ⟨g,0,Y⟩) (Z a+1) z)/\oa r ⟨k,b,Y⟩=V (U d (Z a) c)/\r.frozen? ⟨k,b,Y⟩=K/\VD k b E H (U d (Z a) c) a x w (r.setCell ⟨k,b,Y⟩ (U (V ⟨g,0,Y⟩) (Z a+1) z))):=by
    intro A EM;have L:Ac [] l A:=by
     rcases EM with rfl|rfl
     .exact(re [] l).drew.alloc _
     .exact((re [] l).alloc _).drew
    have HR:AI A l.heap.size (AM x) 104:=by
     rw[Aa B0];rcases EM with rfl|rfl
     .exact rf l.drew [O t,U m xl o] 104
     .exact(rf l [O t,U m xl o] 104).drew
    have W:=u.kept L;(have Ha:(U d (Z a) c).ownBlock≠V l.heap.size:=λe=>by have:=(u.row.lt _ e).2;omega);refine(Wn d c a p x 0 l.heap.size A W.row (by omega) D.le HR Ha (mO _) W.one (ZU HX)).mono ?_;rintro e r ⟨g,z,rfl,FF,AO,hg⟩;have CW:=I.kept L;(have HQ:k∉(U d (Z a) c).ownBlock.toList:=λhm=>Aq W.row CW B9 (by simpa using hm));have M:=CW.kept AO HQ;have EX:=M.cell b;rw[Aa FC]at EX;have HD:Ac (k::(U d (Z a) c).ownBlock.toList) w r:=((B.trans L).mono (by simp)).trans (AO.mono (λi hi=>no _ hi));have HG:(U (V ⟨g,0,Y⟩) (Z a+1) z).ownBlock≠V k:=Aq FF M B9;have HH:=Ah FF (p:=⟨k,b,Y⟩) HG (U (V ⟨g,0,Y⟩) (Z a+1) z);refine⟨g,z,rfl,EX,M.frozen b,⟨p,V ⟨g,0,Y⟩,z,D,?_,?_,?_⟩,HD.setCell (p:=⟨k,b,Y⟩) (lo (nK ..)) _⟩
    .rw[Aa y,Aa G];exact M.set b _
    .rw[Aa y,Aa G];refine⟨by rw[Aa G];exact HH,λq C=>?_⟩;have ES:C8 l q/\Z q.f.zC<=1000:=by
      rcases mF.1 C with s|s
      .exact⟨(u.each q (ow s)).1,(u.each q (ow s)).2⟩
      .rcases mA.1 s with rfl|s
       .exact⟨EY,HO⟩
       .exact⟨(u.each q (oU s)).1,(u.each q (oU s)).2⟩
     have B2:=ES.1.kept L;have FB:oi r 0 170 1 q.tv (Z q.f.zC) (q.f.zC.flatMap Ai):=Ag B2 AO (λi hi hm=>Bh B2 W.row (by decide) i hi (by simpa using hm));exact⟨Ah FB (p:=⟨k,b,Y⟩) (Aq FB M HJ) _,ES.2⟩
    .rw[Aa y,Aa G];intro q C;simp only[qX,mB]at C;rcases hg with s|s
     .exact lo (by rw[<-C];exact s)
     .exact lx (by have:=L.size;omega)
   have y0:=I.cell b;rw[Aa FC]at y0;have z0:=R.cell 0;have z1:=R.cell 1;simp at z0 z1;have H2:=D.le;have HY:=R.lt;have HZ:k<l.heap.size:=I.lt;clear HP HB HX S HN u I EY D y G A0 R;go_wp2_with fail
   go_region_law (go_simp;go_at_call 105;refine(FW _ (by first|exact lo rfl|exact lx rfl)).mono ?_;rintro e w4 ⟨g,z,rfl,H1,HW,CC⟩;have HF:=Ab CC;clear CC)
   all_goals
    clear FW;go_wp2;go_end0;exact⟨rfl,HF⟩
def UV(z:ml)(n:Nat):(madeCells #[z] n).toList=qV n z:=by
 apply List.ext_getElem
 .simp[madeCells]
 .intro i a b;simp[madeCells];rw[Nat.mod_one];rfl
def F0(b:rc zA)(ts:rc AZ)(k:Nat):rc ml:=((ts.take k).map λt=>O (BO b t))++qV (Z ts-k) (O ⟨#[]⟩)
def WI(b:rc zA)(a:rc AZ):F0 b a 0=qV (Z a) (O ⟨#[]⟩):=by simp[F0]
def YG(b:rc zA)(a:rc AZ)(k:Nat)(h:k<=Z a):Z (F0 b a k)=Z a:=by simp[F0];omega
def Zy(b:rc zA)(a:rc AZ)(k:Nat)(h:k<Z a):(F0 b a k).set k (O (BO b a[k]))=F0 b a (k+1):=by
 unfold F0;rw[mx h,nk,show Z a-k=(Z a-(k+1))+1 by omega,List.replicate_succ];rw[qM _ _ (by simp;omega)];simp;rw[pr (by omega),Nat.sub_self];rfl
def ZB(b:rc zA)(a:rc AZ):F0 b a (Z a)=(a.map (BO b)).flatMap Ai:=by
 unfold F0;rw[nR,Nat.sub_self];simp only[List.replicate_zero,np]
 induction a with
 |nil=>rfl
 |cons t a ih=>simp[Ai,ih]
theorem Pk(D ty:Nat)(b:rc zA)(l:Int)(c:zA)(d:Option Addr)(j:Nat)(a:rc AZ)(base:Nat)(w:ly)(E:Z b=26)(hB:AI w D (Am b) ty)(hr:oi w base 215 2 (.slice d (Z a) j) (Z a) (a.flatMap Ar))(HI:Z a<=100000)(hv:∀t∈a,QG t):
  Calls prog 196 #[j3 (V ⟨D,0,Y⟩),oj #[X J l,O c,.slice d (Z a) j]] w λr C=>∃g,r=kt (oj #[O c,.slice (V ⟨g,0,Y⟩) (Z a) (Z a)])/\oi C w.heap.size 170 1 (.slice (V ⟨g,0,Y⟩) (Z a) (Z a)) (Z a) ((a.map (BO b)).flatMap Ai)/\Ac [] w C:=by
 obtain⟨i0,HB,DT,FA,FL⟩:=nC Tryz.zm;have HT:nc (∀t∈a,∀x,Ac [] w x->Calls prog 180 #[j3 (V ⟨D,0,Y⟩),oj #[X q7 t.v,O t.s]] x λr C=>r=kt (O (BO b t))/\Ac [] x C):=λt ht x L=>Mu D ty b t x E (hB.kept L) (hv t ht)
 have HA:=Ab hr;obtain⟨N,A⟩:=rd w.heap.size;have m:nc (AI ((w.alloc (j1 #[X J l,O c,.slice d (Z a) j] 187)).alloc (j1 #[O ⟨#[]⟩,.slice Y 0 0] 104)) N [X J l,O c,.slice d (Z a) j] 187):=by rw[<-A];exact(rf w [X J l,O c,.slice d (Z a) j] 187).alloc _
 have f:nc (AI ((w.alloc (j1 #[X J l,O c,.slice d (Z a) j] 187)).alloc (j1 #[O ⟨#[]⟩,.slice Y 0 0] 104)) (N+1) [O ⟨#[]⟩,.slice Y 0 0] 104):=by
  have h:=rf (w.alloc (j1 #[X J l,O c,.slice d (Z a) j] 187)) [O ⟨#[]⟩,.slice Y 0 0] 104;simp only[m9,A]at h;exact h
 have S:=Ab (((re [] w).alloc (j1 #[X J l,O c,.slice d (Z a) j] 187)).alloc (j1 #[O ⟨#[]⟩,.slice Y 0 0] 104));have y:=Ab A;clear hr hv hB;go_enter func196,ntmps196;apply wp_seq_k;intro KK AT;have Ax:=Ab AT;clear AT;go_wp2;refine Ax _ _ ?_;clear Ax KK;rw[A];clear A;have Q:((w.alloc (j1 #[X J l,O c,.slice d (Z a) j] 187)).alloc (j1 #[O ⟨#[]⟩,.slice Y 0 0] 104)).heap.size=N+1+1:=by simp;exact y
 generalize(w.alloc (j1 #[X J l,O c,.slice d (Z a) j] 187)).alloc (j1 #[O ⟨#[]⟩,.slice Y 0 0] 104)=w1 at m f S Q⊢;have c2:=m.cell 2;simp at c2;go_wp2_with ((with_reducible show wpList _ _ _ ({dst:=_,op:=Op.makeSlice 102 _ _,type:=_,pos:=_,after:=_,guard:=_}::_) _ _);refine wpList_make_row _ rfl _ _ 102 rfl 170 i0 _ underlying102 HB DT FA rfl J J (Z a) (by rfl) (by rfl) (by rw[FL];omega) (by omega) ?_)
 have n:nc (oi (w1.alloc (j1 (madeCells #[O ⟨#[]⟩] (Z a)) 170)) (N+1+1) 170 1 (.slice (V ⟨N+1+1,0,Y⟩) (Z a) (Z a)) (Z a) (F0 b a 0)):=by
  have h:=qo (e:=170) (size:=1) (base:=N+1+1) w1 (madeCells #[O ⟨#[]⟩] (Z a)) (Z a) (by omega) (by unfold maxLen;omega) (by rw[size_madeCells];omega);rw[UV,Q]at h;rw[WI];exact h
 have W:=Ab (m.alloc (j1 (madeCells #[O ⟨#[]⟩] (Z a)) 170));have I:=Ab (f.alloc (j1 (madeCells #[O ⟨#[]⟩] (Z a)) 170));have o:=Ab (S.alloc (j1 (madeCells #[O ⟨#[]⟩] (Z a)) 170));clear m f S c2 Q;generalize w1.alloc (j1 (madeCells #[O ⟨#[]⟩] (Z a)) 170)=w2 at n W I o⊢
 go_loopg [15] (Z a) (λgk i wr=>∃(k:Nat),i=X J k/\k<=Z a/\gk=Z a-k/\nc (oi wr (N+1+1) 170 1 (.slice (V ⟨N+1+1,0,Y⟩) (Z a) (Z a)) (Z a) (F0 b a k))/\nc (AI wr N [X J l,O c,.slice d (Z a) j] 187)/\nc (AI wr (N+1) [O ⟨#[]⟩,.slice Y 0 0] 104)/\nc (Ac [] w wr))
 case atStart=>exact⟨0,rfl,by omega,rfl,n,W,I,o⟩
 case round=>
  clear n W I o;obtain⟨k,rfl,L,AR,n,m,f,z⟩:=hrel;have HG:=Ab AR;clear AR;by_cases B:k<Z a
  .obtain⟨g,HH,he,d0,d1⟩:=FJ (Ad HA z) k B;simp only[mu]at he;obtain⟨rfl,_,rfl⟩:=he;obtain⟨T,H⟩:=rd (a[k]);have o:=Ab (z.alloc (j1 #[X q7 T.v,O T.s] 215));have P:=Ab (HT T (by rw[<-H];exact mw B) _ o);(have R:nc ((F0 b a k).set k (O (BO b T))=F0 b a (k+1)):=by rw[<-H];exact Zy b a k B);rw[H]at d0 d1;obtain⟨u,hV⟩:=rd (BO b T);rw[hV]at P R;clear H hV;(have HJ:(0:Int)<=(k:Int):=by omega);(have HL:(k:Int)<(Z a:Int):=by omega);(go_wp2_with fail);refine P.mono ?_;rintro _ w3 ⟨rfl,M⟩;have F:Ac [] wr w3:=((re [] wr).alloc _).trans M;have G:=Ad n F;have CL:=Ab (m.kept F);have AB:=Ab (f.kept F);have B2:=Ab (o.trans M);have y0:=G.cellAt k (by omega);have yf:=G.frozenAt k;(have B9:k<Z (F0 b a k):=by rw[YG b a k L];exact B);rw[mG B9]at y0;generalize(F0 b a k)[k]=U at y0;have FT:nc (oi (w3.setCell ⟨N+1+1,k,Y⟩ (O u)) (N+1+1) 170 1 (.slice (V ⟨N+1+1,0,Y⟩) (Z a) (Z a)) (Z a) (F0 b a (k+1))):=by
    rw[<-Aa R];exact BN G k _
   have Go:=Ab (CL.zB ⟨N+1+1,k,Y⟩ (show N+1+1≠N by omega) (O u));have FW:=Ab (AB.zB ⟨N+1+1,k,Y⟩ (show N+1+1≠N+1 by omega) (O u));have EX:=Ab (B2.setCell (p:=⟨N+1+1,k,Y⟩) (lx (by have:=Aa y;show _<=N+1+1;omega)) (O u));clear P o z M F G d0 d1 m f n CL AB B2 R B9;go_wp2
   go_roundg (Z a-(k+1))
   case measure=>have:=Aa HG;omega
   case rel=>exact⟨k+1,by go_num,by omega,rfl,FT,Go,FW,EX⟩
  ·(have FC:k=Z a:=by omega);subst FC;have c1:=m.cell 1;have e0:=f.cell 0;have e1:=f.cell 1;have ef:=f.frozen;simp at c1 e0 e1;have FO:nc (AI ((wr.setCell ⟨N+1,0,Y⟩ (O c)).setCell ⟨N+1,1,Y⟩ (.slice (V ⟨N+1+1,0,Y⟩) (Z a) (Z a))) (N+1) [O c,.slice (V ⟨N+1+1,0,Y⟩) (Z a) (Z a)] 104):=(f.set 0 _).set 1 _;have FP:nc (oi ((wr.setCell ⟨N+1,0,Y⟩ (O c)).setCell ⟨N+1,1,Y⟩ (.slice (V ⟨N+1+1,0,Y⟩) (Z a) (Z a))) N 170 1 (.slice (V ⟨N+1+1,0,Y⟩) (Z a) (Z a)) (Z a) ((a.map (BO b)).flatMap Ai)):=by
    have h:=Aa n;rw[ZB]at h;(have E:∀q,(Value.slice (V ⟨N+1+1,0,Y⟩) (Z a) (Z a)).ownBlock=V q->q≠N+1:=λq hq=>by have:=(h.lt q hq).1;omega);exact Ak (Ah (Ah h (λh=>E _ h rfl) _) (λh=>E _ h rfl) _) (by have:=Aa y;omega)
   have EY:=Ab ((z.setCell (p:=⟨N+1,0,Y⟩) (lx (by have:=Aa y;show _<=N+1;omega)) (O c)).setCell (p:=⟨N+1,1,Y⟩) (lx (by have:=Aa y;show _<=N+1;omega)) (.slice (V ⟨N+1+1,0,Y⟩) (Z a) (Z a)));clear m f n z;go_wp2;exact m5 (Cj rfl rfl FO underlying104 rfl (by kernel_rfl)) rfl ⟨N+1+1,rfl,FP,EY⟩
def BX{g:Array Oper}{i:rc Oper}{c:Oper}(k:Region.wanted c (yielded g a.tmps)=jj)(f:TypeId)(x:Operand)(l:c.op=.load f x)
  (b o:Nat) (r:a.eval x=j3 (V ⟨b,o,Y⟩)) (e:rc ml) (d:TypeDesc) (p:w.rangeAt b o e)
  (n:P.underlying f=V d) (j:d.isRow=jj) (q:(P.info? f).map (·.size)=V (Z e))
  (h:wpList P g Q i (a.put c.dst (oj (j2 e))) w):wpList P g Q (c::i) a w:=
 wpList_step λs m=>by rw[mK k];exact wp_load_mid f x l b o r e d p n j q (m _ _ h)
def FI(b:rc zA)(x:PL):CJ:=⟨x.an,x.ts.map (BO b)⟩
def Lt(fs:rc Eb)(b:rc zA)(x:PL)(B:Bool):Prop:=
 if x.sort=0 then∃p,E8 fs (FI b x) p/\B=De fs (FI b x) p
 else if x.sort=1 then∃p,E8 fs (FI b x) p/\B= !De fs (FI b x) p
 else if x.sort=2 then B=((BO b x.l).toList==(BO b x.r).toList)
 else if x.sort=3 then B= !((BO b x.l).toList==(BO b x.r).toList)
 else B=Op.bytesLess (BO b x.l).toList (BO b x.r).toList
structure Qq(w:ly)(sp kb ko:Nat)(bv ov:ml)(sad:Option Addr)(scp:Nat)(fs:rc Eb):Prop where
 zO:AI w sp [j3 (V ⟨kb,ko,Y⟩),bv,ov] 237
 set:oa w ⟨kb,ko,Y⟩=V (U sad (Z fs) scp)
 facts:Io w (U sad (Z fs) scp) fs
def Qq.kept{w w':ly}{a e c:Nat}{i f:ml}{g:Option Addr}{b:Nat}{d:rc Eb}(h:Qq w a e c i f g b d)(k:Ac [] w w'):Qq w' a e c i f g b d:=⟨h.zO.kept k,k.cellAt h.set,h.facts.kept k⟩
theorem YZ(sp kb W:Nat)(bv ov:ml)(HD:Option Addr)(FB:Nat)(k:rc Eb)(x:PL)(u:Option Addr)(y:Nat)(b:rc zA)(w:ly)(F:Z b=26)(hS:Qq w sp kb W bv ov HD FB k)(hx:LP w 0 (x,U u (Z x.ts) y))(IA:Z k<=900000)(H1:Z x.ts<=1000)(FP:∀t∈x.ts,QG t)(FW:QG x.l)(DT:QG x.r)
  (FL:∀i j (hi:i<Z k) (hj:j<Z k),i<=j->CX k[j].f (FI b x)<0->CX k[i].f (FI b x)<0):
  Calls prog 205 #[j3 (V ⟨sp,0,Y⟩),oj (j2 (Ay (x,U u (Z x.ts) y))),oj (j2 (Am b))] w λr z=>∃B,r=kt (q8 B)/\Lt k b x B/\Ac [] w z:=by
 have HM:=Ab hS;have B9:nc (∀d a,Ac [] w a->AI a d (Am b) 243->Calls prog 196 #[j3 (V ⟨d,0,Y⟩),oj #[X J x.ap,O x.an,U u (Z x.ts) y]] a λr z=>∃g,r=kt (oj #[O x.an,U (V ⟨g,0,Y⟩) (Z x.ts) (Z x.ts)])/\oi z a.heap.size 170 1 (U (V ⟨g,0,Y⟩) (Z x.ts) (Z x.ts)) (Z x.ts) ((x.ts.map (BO b)).flatMap Ai)/\Ac [] a z):=λd a I P=>Pk d 243 b x.ap x.an u y x.ts 0 a F P (Ad hx I) (by omega) FP
 have FF:nc (∀g a,Ac [] w a->oi a 0 170 1 (U (V ⟨g,0,Y⟩) (Z x.ts) (Z x.ts)) (Z x.ts) ((x.ts.map (BO b)).flatMap Ai)->Calls prog 60 #[j3 (V ⟨kb,W,Y⟩),oj #[O x.an,U (V ⟨g,0,Y⟩) (Z x.ts) (Z x.ts)]] a λe z=>∃p:Nat,e=kt (q8 (De k (FI b x) p))/\E8 k (FI b x) p/\Ac [] a z):=by
  intro g a I hr;have CW:=hS.kept I;have HL:C8 a ⟨FI b x,U (V ⟨g,0,Y⟩) (Z x.ts) (Z x.ts)⟩:=by
   show oi a 0 170 1 _ (Z (x.ts.map (BO b))) _;rw[mI];exact hr
  exact JO kb W HD FB k ⟨FI b x,U (V ⟨g,0,Y⟩) (Z x.ts) (Z x.ts)⟩ a CW.set CW.facts HL (by show Z (x.ts.map (BO b))<=1000;rw[mI];exact H1) (by omega) FL
 have HT:nc (∀d (t:AZ) a,QG t->AI a d (Am b) 243->Calls prog 180 #[j3 (V ⟨d,0,Y⟩),oj #[X q7 t.v,O t.s]] a λr z=>r=kt (O (BO b t))/\Ac [] a z):=λd t a hv P=>Mu d 243 b t a F P hv
 have HA:=Ab FW;have B2:=Ab DT;have L:nc (∀B,Lt k b x B=(if x.sort=0 then∃p,E8 k (FI b x) p/\B=De k (FI b x) p
 else if x.sort=1 then∃p,E8 k (FI b x) p/\B= !De k (FI b x) p
 else if x.sort=2 then B=((BO b x.l).toList==(BO b x.r).toList)
 else if x.sort=3 then B= !((BO b x.l).toList==(BO b x.r).toList)
 else B=Op.bytesLess (BO b x.l).toList (BO b x.r).toList)):=λB=>rfl
 generalize FI b x=FC at FF L;generalize Lt k b x=HC at L⊢;have hc:=Bs b;have hl:Z (Am b)=26:=by unfold Am;simp[F]
 obtain⟨E,hE⟩:=rd (Am b);rw[hE]at hc hl B9 HT⊢;clear hS hx FP FW DT FL hE;obtain⟨G,c,D,C,A,⟨q,m⟩,⟨n,o⟩⟩:=x;simp only[Ay]at*;have A2:nc (∀d a,AI a d E 243->Calls prog 180 #[j3 (V ⟨d,0,Y⟩),oj #[X q7 q,O m]] a λr z=>r=kt (O (BO b ⟨q,m⟩))/\Ac [] a z):=λd a P=>HT d ⟨q,m⟩ a HA P
 have BA:nc (∀d a,AI a d E 243->Calls prog 180 #[j3 (V ⟨d,0,Y⟩),oj #[X q7 n,O o]] a λr z=>r=kt (O (BO b ⟨n,o⟩))/\Ac [] a z):=λd a P=>HT d ⟨n,o⟩ a B2 P
 generalize BO b ⟨q,m⟩=VL at A2 L;generalize BO b ⟨n,o⟩=VR at BA L;clear HT HA B2;have S:nc (AI ((w.alloc (j1 [X J G,X J c,X J D,O C,U u (Z A) y,X q7 q,O m,X q7 n,O o].toArray 217)).alloc (j1 (j2 E) 243)) w.heap.size [X J G,X J c,X J D,O C,U u (Z A) y,X q7 q,O m,X q7 n,O o] 217):=(rf w [X J G,X J c,X J D,O C,U u (Z A) y,X q7 q,O m,X q7 n,O o] 217).alloc _;have Ax:nc (AI ((w.alloc (j1 [X J G,X J c,X J D,O C,U u (Z A) y,X q7 q,O m,X q7 n,O o].toArray 217)).alloc (j1 (j2 E) 243)) (w.heap.size+1) E 243):=by
  have h:=rf (w.alloc (j1 [X J G,X J c,X J D,O C,U u (Z A) y,X q7 q,O m,X q7 n,O o].toArray 217)) E 243;simp only[m9]at h;exact h
 have HK:=Ab (((re [] w).alloc (j1 [X J G,X J c,X J D,O C,U u (Z A) y,X q7 q,O m,X q7 n,O o].toArray 217)).alloc (j1 (j2 E) 243));go_enter func205,ntmps205;apply wp_seq_k;intro KK HB;have B0:=Ab HB;clear HB;go_wp2;refine B0 _ _ ?_;clear B0 KK;change Code.wp _ _ _ _ ((w.alloc (j1 [X J G,X J c,X J D,O C,U u (Z A) y,X q7 q,O m,X q7 n,O o].toArray 217)).alloc (j1 (j2 E) 243));generalize((w.alloc (j1 [X J G,X J c,X J D,O C,U u (Z A) y,X q7 q,O m,X q7 n,O o].toArray 217)).alloc (j1 (j2 E) 243))=w1 at S Ax HK⊢;generalize w.heap.size=N at S Ax⊢;have FT:nc (∀a,Ac [] w1 a->oa a ⟨N,5,Y⟩=V (X q7 q)/\oa a ⟨N,6,Y⟩=V (O m)/\oa a ⟨N,7,Y⟩=V (X q7 n)/\oa a ⟨N,8,Y⟩=V (O o)):=by
  intro a I;have F:=S.kept I;have c5:=F.cell 5;have c6:=F.cell 6;have c7:=F.cell 7;have c8:=F.cell 8;simp at c5 c6 c7 c8;exact⟨c5,c6,c7,c8⟩
 go_wp2_with fail
 go_region_held3 (λa=>Ac [] w1 a/\oa a ⟨N,5,Y⟩=V (X q7 q)/\oa a ⟨N,6,Y⟩=V (O m)/\oa a ⟨N,7,Y⟩=V (X q7 n)/\oa a ⟨N,8,Y⟩=V (O o)) ((go_split_ands;refine(fun(AH:Ac [] w1 _)=>And.intro AH (FT _ AH)) ?_;repeat (first|assumption|exact re [] _|refine Ac.drew ?_|refine Ac.alloc ?_ _))) ((go_at_call 180;first
  |((with_reducible show Calls _ _ #[_,oj #[X q7 q,O m]] _ _);refine(A2 (N+1) _ (Ax.kept (by go_split_ands;assumption))).mono ?_;rintro _ w3 ⟨rfl,k3⟩;have HY:Ac [] w1 w3:=(by go_split_ands;exact Ac.trans (by assumption) k3);clear k3)
  |((with_reducible show Calls _ _ #[_,oj #[X q7 n,O o]] _ _);refine(BA (N+1) _ (Ax.kept (by go_split_ands;assumption))).mono ?_;rintro _ M ⟨rfl,k4⟩;have AO:Ac [] w1 M:=(by go_split_ands;exact Ac.trans (by assumption) k4);clear k4)))
 rename_i HW;clear HW HY A2 BA FT;have d1:=(S.kept AO).cell 1;simp at d1;by_cases Q:c=0
 case' pos=>have H8:(c==0)=jj:=by simp[Q]
 case' neg=>
  have H8:(c==0)=K:=by simp[Q]
  by_cases R:c=1
  case' pos=>have H3:(c==1)=jj:=by simp[R]
  case' neg=>
   (have H3:(c==1)=K:=by simp[R]);have H:nc (Ac [] w M):=HK.trans AO;by_cases T:c=2
   ·(have HR:(c==2)=jj:=by simp[T]);go_wp2;go_ret;refine⟨_,rfl,?_,H⟩;rw[Aa L,mJ Q,mJ R,mK T]
   ·(have HR:(c==2)=K:=by simp[T]);by_cases h3:c=3
    ·(have HI:(c==3)=jj:=by simp[h3]);go_wp2;go_ret;refine⟨_,rfl,?_,H⟩;rw[Aa L,mJ Q,mJ R,mJ T,mK h3]
    ·(have HI:(c==3)=K:=by simp[h3]);go_wp2;go_ret;refine⟨_,rfl,?_,H⟩;rw[Aa L,mJ Q,mJ R,mJ T,mJ h3]
 all_goals
  have AR:=S.kept AO;have q2:=AR.cell 2;have q3:=AR.cell 3;have q4:=AR.cell 4;simp at q2 q3 q4;have H:nc (Ac [] w M):=HK.trans AO;have H6:nc (∀a,Ac [] M a->oa a ⟨sp,0,Y⟩=V (j3 (V ⟨kb,W,Y⟩))/\oa a ⟨N,2,Y⟩=V (X J D)/\oa a ⟨N,3,Y⟩=V (O C)/\oa a ⟨N,4,Y⟩=V (U u (Z A) y)):=by
   intro a I;have hs:=(HM.kept (H.trans I)).zO.cell 0;have hn:=AR.kept I;have r2:=hn.cell 2;have r3:=hn.cell 3;have r4:=hn.cell 4;simp at hs r2 r3 r4;exact⟨hs,r2,r3,r4⟩
  have HZ:=Ab (Ax.kept AO);clear AR q2 q3 q4;go_wp2_with fail
  go_region_held3 (λa=>Ac [] M a/\oa a ⟨sp,0,Y⟩=V (j3 (V ⟨kb,W,Y⟩))/\oa a ⟨N,2,Y⟩=V (X J D)/\oa a ⟨N,3,Y⟩=V (O C)/\oa a ⟨N,4,Y⟩=V (U u (Z A) y)) ((go_split_ands;refine(fun(AH:Ac [] M _)=>And.intro AH (H6 _ AH)) ?_;repeat (first|assumption|exact re [] _|refine Ac.drew ?_|refine Ac.alloc ?_ _))) ((first
   |(go_at_call 196;refine(B9 (N+1) _ (H.trans (by go_split_ands;assumption)) (HZ.kept (by go_split_ands;assumption))).mono ?_;rintro _ w5 ⟨g5,rfl,EY,k5⟩;have IS:Ac [] M w5:=(by go_split_ands;exact Ac.trans (by assumption) k5);have H5:=Ab (Ak EY (mO _));clear k5 EY)
   |(go_at_call 60;refine(FF g5 _ (H.trans (by go_split_ands;assumption)) H5).mono ?_;rintro _ w6 ⟨p6,rfl,hcut,k6⟩;have HS:Ac [] M w6:=(by go_split_ands;exact Ac.trans (by assumption) k6);have H0:=Ab hcut;clear k6 hcut)))
  go_wp2;go_ret;refine⟨_,rfl,?_,H.trans HS⟩;rw[Aa L]
  first|rw[mK Q]|rw[mJ Q,mK R]
  exact⟨p6,H0,rfl⟩
def F9(fs:rc Eb)(b:rc zA):rc PL->Bool->Prop
 |[],B=>B=K
 |x::l,B=>if Hc b (AS x)then∃H,Lt fs b x H/\(if H then F9 fs b l B else B=jj)else F9 fs b l B
def V4{d:rc Mk}(h:Cf w n z d)(k:Nat)(a:k<Z d):
  ∃g q x f i,z=U (V ⟨g,0,Y⟩) (Z d) q/\d[k]=(x,U f (Z x.ts) i)/\LP w n (x,U f (Z x.ts) i)/\
   oa w ⟨g,k*9,Y⟩=V (X J x.place)/\oa w ⟨g,k*9+1,Y⟩=V (X J x.sort)/\oa w ⟨g,k*9+2,Y⟩=V (X J x.ap)/\oa w ⟨g,k*9+3,Y⟩=V (O x.an)/\oa w ⟨g,k*9+4,Y⟩=V (U f (Z x.ts) i)/\
   oa w ⟨g,k*9+5,Y⟩=V (X q7 x.l.v)/\oa w ⟨g,k*9+6,Y⟩=V (O x.l.s)/\oa w ⟨g,k*9+7,Y⟩=V (X q7 x.r.v)/\oa w ⟨g,k*9+8,Y⟩=V (O x.r.s):=by
 obtain⟨g,q,F,_,b⟩:=AC h.row (λc _=>rfl) k a;have A:=(h.each _ (mw a)).1;have y:=b k a 0 (by omega);have o:=b k a 1 (by omega);have j:=b k a 2 (by omega);have m:=b k a 3 (by omega);have D:=b k a 4 (by omega);have B:=b k a 5 (by omega);have u:=b k a 6 (by omega);have t:=b k a 7 (by omega);have C:=b k a 8 (by omega);obtain⟨⟨x,G⟩,E⟩:∃p,d[k]=p:=⟨_,rfl⟩;rw[E]at y o j m D B u t C A;obtain⟨f,i,e⟩:=Al A;simp only at e;subst e;simp[Ay]at y o j m D B u t C;exact⟨g,q,x,f,i,F,E,A,y,o,j,m,D,B,u,t,C⟩
structure QJ(x:PL):Prop where
 len:Z x.ts<=1000
 ts:∀t∈x.ts,QG t
 l:QG x.l
 r:QG x.r
def QJ.zR{x:PL}(h:QJ x):(∀t∈AS x,QG t)/\Z (AS x)<=100000:=by
 unfold AS;split
 .exact⟨h.ts,by have:=h.len;omega⟩
 .refine⟨λt a=>?_,by simp⟩;simp only[mA,nI,or_false]at a;rcases a with rfl|rfl
  .exact h.l
  .exact h.r
theorem ZL(L kb ko:Nat)(HC:Option Addr)(CW:Nat)(c:rc Mk)(ov:ml)(H0:Option Addr)(HJ:Nat)(d:rc Eb)(b:rc zA)(w:ly)(hb:Z b=26)(hS:Qq w L kb ko (U HC (Z c) CW) ov H0 HJ d)(P:Cf w 0 (U HC (Z c) CW) c)(H8:Z d<=900000)(K8:Z c<=1000)(hl:∀p∈c,QJ p.1)
  (HU:∀(FT:CJ) i j (hi:i<Z d) (hj:j<Z d),i<=j->CX d[j].f FT<0->CX d[i].f FT<0):
  Calls prog 177 #[j3 (V ⟨L,0,Y⟩),oj (j2 (Am b))] w λr v=>∃B,r=kt (q8 B)/\F9 d b (c.map qW) B/\Ac [] w v:=by
 have Ix:=Ab hS;have HM:=Ab P;have H9:nc (∀(x:PL) m n a,Ac [] w a->LP w 0 (x,U m (Z x.ts) n)->Calls prog 137 #[oj (j2 (Ay (x,U m (Z x.ts) n)))] a λe v=>∃H1 HH,e=kt (U H1 (Z (AS x)) HH)/\oi v 0 215 2 (U H1 (Z (AS x)) HH) (Z (AS x)) ((AS x).flatMap Ar)/\Ac [] a v):=λx m n a y hx=>NR x m n a (hx.kept y)
 have DG:nc (∀I (x:PL) m n a,QJ x->AI a I (Am b) 243->oi a 0 215 2 (U m (Z (AS x)) n) (Z (AS x)) ((AS x).flatMap Ar)->Calls prog 204 #[j3 (V ⟨I,0,Y⟩),U m (Z (AS x)) n] a λr v=>r=kt (q8 (Hc b (AS x)))/\Ac [] a v):=λI x m n a q P hr=>WT I 243 b m n (AS x) 0 a hb P hr q.zR.2 q.zR.1
 have FO:nc (∀(x:PL) m n a,Ac [] w a->QJ x->LP w 0 (x,U m (Z x.ts) n)->Calls prog 205 #[j3 (V ⟨L,0,Y⟩),oj (j2 (Ay (x,U m (Z x.ts) n))),oj (j2 (Am b))] a λr v=>∃B,r=kt (q8 B)/\Lt d b x B/\Ac [] a v):=λx m n a y q hx=>YZ L kb ko _ ov H0 HJ d x m n b a hb (hS.kept y) (hx.kept y) H8 q.len q.ts q.l q.r (HU _)
 have JA:=Ab hl;have q:=Bs b;have HL:Z (Am b)=26:=by unfold Am;simp[hb]
 have FC:=Ab HL;obtain⟨E,hE⟩:=rd (Am b);rw[hE]at q HL FC DG FO⊢;have C:=Ab (rf w E 243);have t:=Ab ((re [] w).alloc (j1 (j2 E) 243));clear hE hS P hl HU;obtain⟨u,BT⟩:∃u:Bool->Prop,u=F9 d b (c.map qW):=⟨_,rfl⟩;have F:nc (∀B,F9 d b ((c.drop 0).map qW) B->u B):=λB h=>by rw[BT];exact h
 rw[<-BT];clear BT;go_enter func177,ntmps177;apply wp_seq_k;intro KK HZ;have CL:=Ab HZ;clear HZ;go_wp2;refine CL _ _ ?_;clear CL KK;generalize w.alloc (j1 (j2 E) 243)=w1 at C t⊢;generalize w.heap.size=N at C⊢;have s1:=(Ix.kept t).zO.cell 1;simp at s1;go_wp2_with fail
 go_loopg [12] (Z c) (λgk i wr=>∃(k:Nat),i=X J k/\k<=Z c/\gk=Z c-k/\nc (∀B,F9 d b ((c.drop k).map qW) B->u B)/\nc (AI wr N E 243)/\nc (Ac [] w wr))
 case atStart=>exact⟨0,rfl,by omega,rfl,F,C,t⟩
 case round=>
  clear F C t s1;obtain⟨k,rfl,y,HY,F,C,t⟩:=hrel;have HG:=Ab HY;clear HY;by_cases AO:k<Z c
  .obtain⟨g,K9,x,z,D,he,AB,_,d0,d1,d2,d3,d4,d5,d6,d7,d8⟩:=V4 (HM.kept t) k AO;simp only[mu]at he;obtain⟨rfl,_,rfl⟩:=he;(have A0:(x,U z (Z x.ts) D)∈c:=by rw[<-AB];exact mw AO);have A1:=Aa JA _ A0;have AR:LP w 0 (x,U z (Z x.ts) D):=(HM.each _ A0).1;have s:nc (∀B,(if Hc b (AS x)then∃H,Lt d b x H/\(if H then F9 d b ((c.drop (k+1)).map qW) B else B=jj)else F9 d b ((c.drop (k+1)).map qW) B)->u B):=by
    intro B h;refine F B ?_;rw[mQ AO,mU,AB];exact h
   have R:=Ab (t.alloc (j1 (j2 (Ay (x,U z (Z x.ts) D))) 217));have BS:=Ab (C.alloc (j1 (j2 (Ay (x,U z (Z x.ts) D))) 217));have Bx:=Ab (rf wr (Ay (x,U z (Z x.ts) D)) 217);have M:=Ab (H9 x z D _ R AR);have AT:=Ab (λm n a=>DG N x m n a A1);have G:=Ab (λa y=>FO x z D a y A1 AR);generalize AS x=TL at M AT s;generalize Lt d b x=HX at G s;obtain⟨pl,so,ap,an,ts,⟨lv,K4⟩,⟨rv,LB⟩⟩:=x;simp only[Ay]at R BS Bx M G d0 d1 d2 d3 d4 d5 d6 d7 d8;clear AB A0 A1 AR F;(go_wp2_with fail);refine M.mono ?_;rintro _ w3 ⟨H7,IS,rfl,FW,Q⟩;have HT:=Ab (R.trans Q);have A2:=Ab (BS.kept Q);have HA:=Ab (Bx.kept Q);have HW:=Ab (AT H7 IS w3 A2 FW);clear M AT R BS Bx FW Q d0 d1 d2 d3 d4 d5 d6 d7 d8 t C;(go_wp2_with fail);refine HW.mono ?_;rintro _ w4 ⟨rfl,T⟩;have W:=Ab (HT.trans T);have S:=Ab (A2.kept T);have o:=HA.kept T;have e0:=o.cell 0;have e1:=o.cell 1;have e2:=o.cell 2;have e3:=o.cell 3;have e4:=o.cell 4;have e5:=o.cell 5;have e6:=o.cell 6;have e7:=o.cell 7;have e8:=o.cell 8;simp at e0 e1 e2 e3 e4 e5 e6 e7 e8;clear HW HT A2 HA T o;obtain⟨ST,DT⟩:=rd (Hc b TL);rw[DT]at s⊢;clear DT;cases ST with
   |false=>
    (have A:nc (∀B,F9 d b ((c.drop (k+1)).map qW) B->u B):=λB h=>s B (by rw[mJ (by simp)];exact h));clear s G;go_wp2
    go_roundg (Z c-(k+1))
    case measure=>have:=Aa HG;omega
    case rel=>exact⟨k+1,by go_num,by omega,rfl,A,S,W⟩
   |true=>
    have E0:=Ab (G w4 W);clear G;go_wp2_with ((with_reducible show wpList _ _ _ ({dst:=_,op:=Op.load 243 _,type:=_,pos:=_,after:=_,guard:=_}::_) _ _);refine BX (by rfl) 243 _ rfl N 0 (by rfl) E _ S.range underlying243 rfl (by rw[Aa FC];exact Tryz.zI) ?_)
    refine E0.mono ?_;rintro _ w5 ⟨HB,rfl,EK,k5⟩;have HP:=Ab (W.trans k5);have KA:=Ab (S.kept k5);have H2:=Ab EK;clear E0 k5 EK W S e0 e1 e2 e3 e4 e5 e6 e7 e8;cases HB with
    |true=>
     (have A:nc (∀B,F9 d b ((c.drop (k+1)).map qW) B->u B):=λB h=>s B (by rw[mK True.intro];exact⟨jj,H2,h⟩));clear s;go_wp2
     go_roundg (Z c-(k+1))
     case measure=>have:=Aa HG;omega
     case rel=>exact⟨k+1,by go_num,by omega,rfl,A,KA,HP⟩
    |false=>
     have A:nc (u jj):=s jj (by rw[mK True.intro];exact⟨K,H2,rfl⟩);clear s;go_wp2;go_ret;exact⟨jj,rfl,A,HP⟩
  .have A:nc (u K):=F K (by rw[ni (by omega)];rfl);go_wp2;go_ret;exact⟨K,rfl,A,t⟩
abbrev XR:=rc zA×ml
structure jm(w:ly)(lv:ml)(ps:rc XR):Prop where
 row:oi w 0 102 1 lv (Z ps) (ps.flatMap λp=>[p.2])
 each:∀p∈ps,oi w 0 170 1 p.2 (Z p.1) (p.1.flatMap Ai)/\C6 Hx p.1/\Z p.1<=10000
def jm.kept{w w':ly}{b:rc XR}(h:jm w z b)(k:Ac [] w w'):jm w' z b:=⟨Ad h.row k,λp a=>⟨Ad (h.each p a).1 k,(h.each p a).2⟩⟩
def im{a:rc XR}(h:jm w z a)(k:Nat)(b:k<Z a):∃g l i f,z=U (V ⟨g,0,Y⟩) (Z a) l/\oa w ⟨g,k,Y⟩=V (U i (Z (Ch (a.map qW) k)) f)/\oi w 0 170 1 (U i (Z (Ch (a.map qW) k)) f) (Z (Ch (a.map qW) k)) ((Ch (a.map qW) k).flatMap Ai)/\C6 Hx (Ch (a.map qW) k)/\Z (Ch (a.map qW) k)<=10000:=by
 obtain⟨g,l,m,_,q⟩:=AC h.row (λc _=>rfl) k b;have d:=q k b 0 (by omega);have n:Ch (a.map qW) k=a[k].1:=by
  unfold Ch;rw[mN,n6,mG b];rfl
 rw[n];obtain⟨j,o,p⟩:=h.each _ (mw b);obtain⟨i,f,e⟩:=Al j;rw[e]at j;simp[e]at d;exact⟨g,l,i,f,m,d,j,o,p⟩
def aX{v:ml}{l:rc Nat}(h:oi w n 3 1 v (Z l) (l.flatMap Cr))(k:Nat)(b:k<Z l):∃g a,v=U (V ⟨g,0,Y⟩) (Z l) a/\oa w ⟨g,k,Y⟩=V (X J (l[k]:Nat)):=by
 obtain⟨g,a,e,_,f⟩:=AC h (λc _=>rfl) k b;have d:=f k b 0 (by omega);simp[Cr]at d;exact⟨g,a,e,d⟩
def Ss(a:rc Nat)(t v:Nat)(b:t<Z a):aD (λi=>a.getD i 0) t v=λi=>(a.set t v).getD i 0:=by
 funext i
 unfold aD;simp only[mN,List.getElem?_set];split
 .rename_i e;subst e;simp[b]
 .rename_i e;rw[mJ (λh=>e h.symm)]
def Pz(b:rc Nat)(t v:Nat):(b.set t v).flatMap Cr=(b.flatMap Cr).set t (X J (v:Nat)):=by
 have e:∀l:rc Nat,l.flatMap Cr=l.map λn=>X J (n:Nat):=λl=>by
  induction l with
  |nil=>rfl
  |cons a l ih=>simp[Cr,ih]
 rw[e,e,qT]
def Ot:∀l:rc Nat,l.flatMap Cr=l.map λn=>X J (n:Nat)
 |[]=>rfl
 |a::l=>by simp only[mX,mU,Ot l];rfl
def U9(a:rc Nat)(t:Nat)(h:t<Z a):(a.flatMap Cr)[t]?=V (X J (a[t]:Nat)):=by
 rw[Ot,n6,mG h];rfl
def jk(a:rc (rc zA))(s:zA)(h:∀l∈a,Z l<=10000):Yj Hx s a<=Z a*10000:=by
 induction a with
 |nil=>simp[Yj]
 |cons l a ih=>
  have d:=ih (λq b=>h q (no _ b));have c:=h l (nK ..);have f:ki Hx s l<=Z l:=qO;have e:Yj Hx s (l::a)=ki Hx s l+Yj Hx s a:=by unfold Yj;simp
  rw[e,mL,oZ];omega
structure MU(ps:rc XR)(m:rc zA):Prop where
 mem:∀y,y∈m↔(ps≠[]/\Lr (ps.map qW) y)
 zG:m.Pairwise λa b=>Hx a b=jj
theorem Tryz.yJ:(Tryz.prog.info? 3).map (λi=>(i.zero,i.size,i.bytes))=V (V (X J 0),1,8):=by kernel_rfl
theorem YC(Mo:Option Addr)(K1:Nat)(c:rc XR)(w:ly)(h:jm w (U Mo (Z c) K1) c)(ST:Z c<=1000):
  Calls prog 208 #[U Mo (Z c) K1] w λr w'=>∃(ad:Option Addr) (cp:Nat) (m:rc zA),r=kt (U ad (Z m) cp)/\MU c m/\oi w' w.heap.size 170 1 (U ad (Z m) cp) (Z m) (m.flatMap Ai)/\Ac [] w w':=by
 obtain⟨i0,K4,H2,K9,IJ⟩:=nC Tryz.zm;obtain⟨j0,M1,OH,MN,Nj⟩:=nC Tryz.yJ;have HL:=Ab h;obtain⟨N,hN⟩:=rd w.heap.size;rw[hN];have x:=Ab hN;clear hN h;obtain⟨d,I⟩:=rd (c.map qW);have FA:Z d=Z c:=by rw[<-I,mI]
 have Ix:=Ab I;have NM:nc (∀s,Yj Hx s d<=Z c*10000):=by
  intro s;have z:=jk d s (λl hl=>by
   rw[<-I]at hl
   obtain⟨p,hp,rfl⟩:=mD.1 hl
   exact(HL.each p hp).2.2)
  rw[FA]at z;exact z
 have DT:nc (∀m,(c≠[]->(∀y,y∈m↔Lr d y))->(c=[]->m=[])->m.Pairwise (λa b=>Hx a b=jj)->MU c m):=by
  intro m z H h3;refine⟨λy=>?_,h3⟩;by_cases hp:c=[]
  .rw[H hp];simp[hp]
  .rw[z hp y,<-I];exact⟨λh=>⟨hp,h⟩,λh=>h.2⟩
 by_cases h0:Z c=0
 .have RE:((Z c:Int)==0)=jj:=by simp[h0]
  have Pl:(Z c:Int)=0:=by omega
  have W:nc (MU c []):=DT [] (λh=>absurd (oP.1 h0) h) (λ_=>rfl) List.Pairwise.nil;clear I;go_enter func208,ntmps208;go_wp2;go_ret;exact⟨Y,0,[],rfl,W,mS _ _ _ _,re _ _⟩
 .have Nq:0<Z c:=by omega
  have RE:((Z c:Int)==0)=K:=by rw[nj];omega
  have Pl:¬(Z c:Int)=0:=by omega
  have HH:c≠[]:=λe=>h0 (by rw[e];rfl)
  obtain⟨g,XS,X1,U1,he,e0,r0,L,b0⟩:=im HL 0 Nq;simp only[mu]at he;obtain⟨rfl,-,rfl⟩:=he;rw[I]at e0 r0 L b0;have SB:(0:Int)<(Z c:Int):=by omega
  by_cases hz:Z (Ch d 0)=0
  ·(have Go:((Z (Ch d 0):Int)==0)=jj:=by simp[hz]);(have HO:(Z (Ch d 0):Int)=0:=by omega);have W:nc (MU c []):=DT [] (λ_ y=>by
    refine⟨λh=>by simp at h,λh=>?_⟩
    have z:=h (Ch d 0) (Fz (by omega))
    rw[oP.1 hz]at z
    exact z) (λh=>absurd h HH) List.Pairwise.nil
   clear I hz;go_enter func208,ntmps208;go_wp2;go_ret;exact⟨Y,0,[],rfl,W,mS _ _ _ _,re _ _⟩
  ·(have HU:0<Z (Ch d 0):=by omega);(have Go:((Z (Ch d 0):Int)==0)=K:=by rw[nj];omega);(have HO:¬(Z (Ch d 0):Int)=0:=by omega);(have Jx:(0:Int)<(Z (Ch d 0):Int):=by omega);obtain⟨gz,cz,IA,z0⟩:=Iz r0 0 HU;simp only[mu]at IA;obtain⟨rfl,-,rfl⟩:=IA;have DG:=Ab (QF.start I7 (ls:=d) (by omega) L HU);obtain⟨s0,H4⟩:=rd ((Ch d 0)[0]);rw[H4]at DG z0;clear H4 I r0 L hz;generalize Z (Ch d 0)=L0 at e0 Go HO Jx;(have N4:=λo=>((re [] w).alloc o).cellAt e0);(have N0:=λo=>((re [] w).alloc o).cellAt z0);go_enter func208,ntmps208;go_wp2_with ((with_reducible show wpList _ _ _ ({dst:=_,op:=Op.makeSlice 221 _ _,type:=_,pos:=_,after:=_,guard:=_}::_) _ _);refine wpList_make_row _ rfl _ _ 221 rfl 3 j0 _ underlying221 M1 OH MN rfl J J (Z c) (by rfl) (by rfl) (by rw[Nj];omega) (by omega) ?_)
   have HD:nc (oi (w.alloc (j1 (madeCells #[X J 0] (Z c)) 3)) N 3 1 (U (V ⟨N,0,Y⟩) (Z c) (Z c)) (Z c) ((qV (Z c) 0).flatMap Cr)):=by
    have h:=qo (e:=3) (size:=1) (base:=N) w (madeCells #[X J 0] (Z c)) (Z c) (by have:=Aa x;omega) (by unfold maxLen;omega) (by rw[size_madeCells];omega);rw[UV,Aa x]at h;have e:(qV (Z c) 0).flatMap Cr=qV (Z c) (X J 0):=by
     generalize Z c=n
     induction n with
     |zero=>rfl
     |succ n ih=>rw[List.replicate_succ,mX,ih,List.replicate_succ];rfl
    rw[e];exact h
   have HR:=Ab ((re [] w).alloc (j1 (madeCells #[X J 0] (Z c)) 3));have H0:nc (QF Hx d 0 s0 0 (λi=>(qV (Z c) 0).getD i 0) []):=by
    have e:(λi=>(qV (Z c) 0).getD i 0)=λ_=>0:=by
     funext i
     rw[mN,List.getElem?_replicate];split<;>rfl
    rw[e];exact DG
   rw[Aa x];clear e0 z0 N4 N0 DG Go HO Jx b0 HU;generalize w.alloc (j1 (madeCells #[X J 0] (Z c)) 3)=w1 at HD HR⊢
   go_loopg [3,5,6,7] (Yj Hx s0 d*(Z c+1)+Z c) (λgk cv sv av tv wr=>∃(t:Nat) (s:zA) (u:Nat) (k:rc Nat) (m:rc zA) (F:Option Addr) (G:Nat),cv=U F (Z m) G/\sv=O s/\av=X J u/\tv=X J t/\gk=Yj Hx s d*(Z c+1)+(Z c-u)/\Z k=Z c/\Z m+Yj Hx s d<=10000000/\nc (QF Hx d t s u (λi=>k.getD i 0) m)/\nc (oi wr N 3 1 (U (V ⟨N,0,Y⟩) (Z c) (Z c)) (Z c) (k.flatMap Cr))/\nc (oi wr N 170 1 (U F (Z m) G) (Z m) (m.flatMap Ai))/\nc (Ac [] w wr))
   case atStart=>exact⟨0,s0,0,qV (Z c) 0,[],Y,0,rfl,rfl,rfl,rfl,by simp,by simp,by have:=Aa NM s0;simp;omega,H0,HD,mS _ _ _ _,HR⟩
   case round=>
    clear H0 HD HR;obtain⟨t,s,u,k,m,F,G,rfl,rfl,rfl,rfl,LB,ES,VS,D,P,Q,C⟩:=hrel;have HG:=Ab LB;clear LB;(have FB:t<Z c:=by have:=D.tk;omega);(have TX:u<Z c:=by have:=D.agk;omega);obtain⟨g',U0,LD,NB,HY,et,rt,qt,bt⟩:=im (HL.kept C) t FB;simp only[mu,mB,nr]at HY;obtain⟨⟨R,-,-⟩,-,-⟩:=HY;subst R;rw[Aa Ix]at et rt qt bt;(have LC:oi wr N 3 1 (U (V ⟨N,0,Y⟩) (Z c) (Z c)) (Z k) (k.flatMap Cr):=by rw[ES];exact P);have H3:k.getD t 0<=Z (Ch d t):=D.ple t D.tk;obtain⟨gp,S0,KK,pt⟩:=aX (l:=k) (v:=U (V ⟨N,0,Y⟩) (Z c) (Z c)) LC t (by omega);simp only[mu,mB,nr]at KK;obtain⟨⟨R,-,-⟩,-,-⟩:=KK;subst R;obtain⟨PT,FL⟩:=rd (k[t]);(have HV:k.getD t 0=PT:=by rw[mN,mG (by omega),FL];rfl);rw[FL]at pt;rw[HV]at H3;have K2:=Ab (Pg (U LD (Z (Ch d t)) NB) (Ch d t) PT s 0 wr rt (by omega) H3 qt);have HQ:=Ab qt;have K6:=Ab rt;have N2:=Ab HV;(have WS:(0:Int)<=(t:Int):=by omega);(have VR:(t:Int)<(Z c:Int):=by omega);have pf:=P.frozenAt t;have RV:nc (∀L q1,LD=V ⟨L,q1,Y⟩->L<N):=by
     intro L q1 B;obtain⟨gw,_,W2,WB,HZ,ew,Os,_,_⟩:=im HL t FB;simp only[mu,mB,nr]at HZ;obtain⟨⟨R,-,-⟩,-,-⟩:=HZ;subst R;have e2:=C.cellAt ew;rw[Aa Ix,et]at e2;simp only[mB,mu]at e2;have h3:=(Os.lt L (by rw[<-e2.1,B];rfl)).2;rw[Aa x]at h3;exact h3
    have E:nc (((t:Int)+1).tmod (Z c:Int)=(Gk (Z c) t:Int)/\((t:Int)+1)%(Z c:Int)=(Gk (Z c) t:Int)/\Gk (Z c) t<Z c):=by
     have z:=eH FB;(have H:((t:Int)+1)%(Z c:Int)=(Gk (Z c) t:Int):=by rw[<-z,Int.natCast_emod,Int.natCast_add];rfl);exact⟨by rw[Int.tmod_eq_emod_of_nonneg (by omega)];exact H,H,VK FB⟩
    clear FL LC HV qt rt;(go_wp2_with fail);refine K2.mono ?_;rintro _ w2 ⟨f,rfl,HA,MY⟩;have NV:=MY.symm;subst NV;(have H1:Ez Hx (Ch d t) ((λi=>k.getD i 0) t) s f:=by show Ez Hx (Ch d t) (k.getD t 0) s f;rw[Aa N2];exact HA);have Ha:=Ab H1;have TT:=HA.le;clear HA H1 K2;by_cases HF:f=Z (Ch d t)
    .have W:nc (MU c m):=DT m (λ_=>D.done Ha HF) (λh=>absurd h HH) D.zG;(have M6:((f:Int)==(Z (Ch d t):Int))=jj:=by simp[HF]);(have NS:(f:Int)=(Z (Ch d t):Int):=by omega);clear HF;go_wp2;go_ret;exact⟨F,G,m,rfl,W,Q,C⟩
    ·(have HB:f<Z (Ch d t):=by omega);(have M6:((f:Int)==(Z (Ch d t):Int))=K:=by rw[nj];omega);(have NS:¬(f:Int)=(Z (Ch d t):Int):=by omega);(have UO:(0:Int)<=(f:Int):=by omega);(have W1:(f:Int)<(Z (Ch d t):Int):=by omega);obtain⟨gx,cx,LL,x0⟩:=Iz K6 f HB;simp only[mu]at LL;obtain⟨rfl,-,rfl⟩:=LL;obtain⟨j,hX⟩:=rd ((Ch d t)[f]);rw[hX]at x0;cases hsx:(j.toList==s.toList)
     case' true=>
      have AT:j=s:=(E7 j s).1 hsx;have AO:=Ab (D.same Ha HB (by rw[hX,AT]));(have BT:Yj Hx j d<=Yj Hx s d:=by rw[AT];exact mP _);subst AT;clear hX D;(have Nd:u+1<=Z c:=by omega);by_cases BA:u+1=Z c
      rotate_left 1
      ·(have FP:(((u:Int)+1)==(Z c:Int))=K:=by rw[nj];omega);have H5:¬((u:Int)+1)=(Z c:Int):=by omega
       skip
       skip
       have T:=AO.next (by omega);rw[Ss k t f (by omega),FA]at T;have A2:=Ab T;have JA:=E.1;have KA:=E.2.1;clear BA T;go_wp2
       go_roundg (Yj Hx j d*(Z c+1)+(Z c-(u+1)))
       case measure=>
        have z:=Aa HG
        skip
        skip
        omega
       case rel=>
        refine⟨Gk (Z c) t,j,u+1,k.set t f,m,F,G,rfl,rfl,by go_num,by first|rfl|exact congrArg _ E.2.1,rfl,by simp[ES],by omega,A2,?_,?_,?_⟩
        .rw[Pz];exact(P.stored t (X J (f:Int))).1
        .have BS:=Bh P Q (by decide) N rfl;exact Ag Q (Ac.setCell (M:=[N]) (re [N] _) (lo (by simp)) _) (λq B=>by simp only[my];intro e;subst e;exact BS B)
        .exact C.setCell (lx (by have:=Aa x;simp;omega)) _
      (have FP:(((u:Int)+1)==(Z c:Int))=jj:=by rw[oI];omega);have H5:((u:Int)+1)=(Z c:Int):=by omega
      skip
      skip
      have FC:u+1=Z d:=by omega
     case' false=>
      (have AT:j≠s:=λe=>by rw[(E7 j s).2 e]at hsx;cases hsx);have EM:=D.past I7 HQ Ha HB (by rw[hX];exact AT);rw[hX]at EM;have AO:=Ab EM.1;have BT:=EM.2;clear hX D EM AT;(have Nd:0+1<=Z c:=by omega);by_cases BA:0+1=Z c
      rotate_left 1
      ·(have FP:(((0:Int)+1)==(Z c:Int))=K:=by rw[nj];omega);(have H5:¬((0:Int)+1)=(Z c:Int):=by omega);(have NY:((1:Int)==(Z c:Int))=K:=by rw[nj];omega);(have TV:¬(1:Int)=(Z c:Int):=by omega);have T:=AO.next (by omega);rw[Ss k t f (by omega),FA]at T;have A2:=Ab T;have JA:=E.1;have KA:=E.2.1;clear BA T;go_wp2
       go_roundg (Yj Hx j d*(Z c+1)+(Z c-(0+1)))
       case measure=>
        have z:=Aa HG;have H:(Yj Hx j d+1)*(Z c+1)<=Yj Hx s d*(Z c+1):=nB _ (by omega);rw[oZ]at H;omega
       case rel=>
        refine⟨Gk (Z c) t,j,0+1,k.set t f,m,F,G,rfl,rfl,by go_num,by first|rfl|exact congrArg _ E.2.1,rfl,by simp[ES],by omega,A2,?_,?_,?_⟩
        .rw[Pz];exact(P.stored t (X J (f:Int))).1
        .have BS:=Bh P Q (by decide) N rfl;exact Ag Q (Ac.setCell (M:=[N]) (re [N] _) (lo (by simp)) _) (λq B=>by simp only[my];intro e;subst e;exact BS B)
        .exact C.setCell (lx (by have:=Aa x;simp;omega)) _
      (have FP:(((0:Int)+1)==(Z c:Int))=jj:=by rw[oI];omega);have BT:=Nat.le_of_lt BT;(have NY:((1:Int)==(Z c:Int))=jj:=by rw[oI];omega);have FC:0+1=Z d:=by omega
     all_goals
      by_cases HT:f+1=Z (Ch d t)
      ·(have RT:(((f:Int)+1)==(Z (Ch d t):Int))=jj:=by rw[oI];omega);(have NL:((f:Int)+1)=(Z (Ch d t):Int):=by omega);have W:nc (MU c (m++[j])):=DT (m++[j]) (λ_=>AO.last I7 HQ FC HT) (λh=>absurd h HH) (AO.yV FC).2;have hM:=Aa Q;clear BA HT;go_wp2_with (at_builtin;refine mZ _ rfl (.tmp 65) (.tmp 67) _ rfl N 170 i0 _ 1 16 underlying102 K4 H2 K9 IJ rfl (by omega) (U F (Z m) G) (Z m) (m.flatMap Ai) rfl (mE hM _) ⟨wr.heap.size,0,Y⟩ 1 1 [O j] rfl rfl (mW (m7 wr _)) (by simp[Value.oneCell']) (by omega) (by unfold maxLen;omega) (by omega) (by simp;have:=C.size;have:=Aa x;omega) (wr.heap.size+1) (by simp) ?_;intro g1 CL A EY S MB M2)
       go_ret;refine⟨V ⟨g1,0,Y⟩,CL,m++[j],by simp,W,?_,(C.alloc _).grown S (λq B=>lx (by have:=(hM.lt q B).1;have:=Aa x;omega))⟩;rw[mY];simp only[mM,mL,m8,nE,mX,nP,np,Ai];exact EY
      ·(have RT:(((f:Int)+1)==(Z (Ch d t):Int))=K:=by rw[nj];omega);(have NL:¬((f:Int)+1)=(Z (Ch d t):Int):=by omega);(have LE:f+1<Z (Ch d t):=by omega);obtain⟨gy,cy,K7,y0⟩:=Iz K6 (f+1) LE;simp only[mu,mB,nr]at K7;obtain⟨⟨R,-,-⟩,-,-⟩:=K7;subst R;have Bx:=AO.more I7 HQ FC LE;obtain⟨AB,hY⟩:=rd ((Ch d t)[f+1]);rw[hY]at y0 Bx;rw[Ss k t (f+1) (by omega),FA]at Bx;have A2:=Ab Bx.1;have Nx:=Bx.2;(have TL:(0:Int)<=(f:Int)+1:=by omega);(have VL:(f:Int)+1<(Z (Ch d t):Int):=by omega);have hM:=Aa Q;have CW:nc (∀A,(wr.alloc (j1 #[O j] 170)).grownBy A (U F (Z m) G).ownBlock->oa A ⟨gx,f+1,Y⟩=V (O AB)/\oi A N 3 1 (U (V ⟨N,0,Y⟩) (Z c) (Z c)) (Z c) (k.flatMap Cr)):=by
        intro A LM;refine⟨?_,(mE P _).kept LM (lx (λe=>Bh P hM (by decide) N rfl e.symm))⟩;have TS:gx<N:=RV _ _ (by rfl);(have SL:gx<wr.heap.size:=by have:=C.size;have:=Aa x;omega);rw[LM.cell_far ⟨gx,f+1,Y⟩ (by simp;omega) (λe=>by have:=(hM.lt gx e.symm).1;omega)];exact(((re [] wr).alloc _).cellAt y0)
       clear BA HT hY Bx;go_wp2_with (at_builtin;refine mZ _ rfl (.tmp 65) (.tmp 67) _ rfl N 170 i0 _ 1 16 underlying102 K4 H2 K9 IJ rfl (by omega) (U F (Z m) G) (Z m) (m.flatMap Ai) rfl (mE hM _) ⟨wr.heap.size,0,Y⟩ 1 1 [O j] rfl rfl (mW (m7 wr _)) (by simp[Value.oneCell']) (by omega) (by unfold maxLen;omega) (by omega) (by simp;have:=C.size;have:=Aa x;omega) (wr.heap.size+1) (by simp) ?_;intro g1 CL A EY S MB M2;have y9:=(CW A S).1;have H9:=(CW A S).2;have NA:=H9.cellAt t (by omega);have TH:=H9.frozenAt t;rw[U9 k t (by omega)]at NA)
       have JA:=E.1;have KA:=E.2.1;have RB:=Ab (((CW A S).2).stored t (X J ((f+1:Nat):Int)));go_wp2
       go_roundg (Yj Hx AB d*(Z c+1)+Z c)
       case measure=>
        have z:=Aa HG;have H:(Yj Hx AB d+1)*(Z c+1)<=_:=nB _ (nD Nx BT);rw[oZ]at H;omega
       case rel=>
        refine⟨Gk (Z c) t,AB,0,k.set t (f+1),m++[j],V ⟨g1,0,Y⟩,CL,by simp,rfl,rfl,by first|rfl|exact congrArg _ E.2.1,by simp,by simp[ES],by simp;omega,A2,?_,?_,?_⟩
        .rw[Pz];have h:=RB.1;exact h
        .have BS:=Bh (CW A S).2 EY (by decide) N rfl;have h9:oi A N 170 1 (U (V ⟨g1,0,Y⟩) (Z (m++[j])) CL) (Z (m++[j])) ((m++[j]).flatMap Ai):=by
          rw[mY];simp only[mM,mL,m8,nE,mX,nP,np,Ai];exact EY
         exact Ag h9 (Ac.setCell (M:=[N]) (re [N] _) (lo (by simp)) _) (λq B=>by simp only[my];intro e;subst e;exact BS B)
        .exact((C.alloc _).grown S (λq B=>lx (by have:=(hM.lt q B).1;have:=Aa x;omega))).setCell (lx (by have:=Aa x;simp;omega)) _
def C8.grown{p:Eb}{v:ml}(h:C8 w p)(b:oi w m 104 2 v n y)(a:w.grownBy u v.ownBlock):C8 u p:=
 n5 (v:=p.tv) h a (by
  cases hp:p.tv.ownBlock with
  |none=>exact lo rfl
  |some q=>exact lx (λe=>Bh h b (by decide) q hp e.symm))
def Ke(b:rc zA)(ls:rc PL):rc CJ:=(ls.filter λx=>x.sort==0).map (FI b)
theorem b8(T ty:Nat)(b:rc zA)(FF:Option Addr)(B0:Nat)(c:rc Mk)(w:ly)(hb:Z b=26)(HA:AI w T (Am b) ty)(hB:Cf w 0 (U FF (Z c) B0) c)(IA:Z c<=1000)(hl:∀p∈c,QJ p.1):
  Calls prog 198 #[j3 (V ⟨T,0,Y⟩),U FF (Z c) B0] w λr n=>∃(l:Option Addr) (m:Nat) (a:rc Eb),r=kt (U l (Z a) m)/\a.map Eb.f=Ke b (c.map qW)/\Io n (U l (Z a) m) a/\oi n w.heap.size 104 2 (U l (Z a) m) (Z a) (a.flatMap AM)/\Ac [] w n:=by
 obtain⟨i0,HY,HT,H0,HX⟩:=nC Tryz.zi;have Go:=Ab hB;have HV:=Ab hl;have HI:nc (∀(x:PL) l m C,Ac [] w C->QJ x->LP w 0 (x,U l (Z x.ts) m)->Calls prog 196 #[j3 (V ⟨T,0,Y⟩),oj #[X J x.ap,O x.an,U l (Z x.ts) m]] C λr n=>∃g,r=kt (oj #[O x.an,U (V ⟨g,0,Y⟩) (Z x.ts) (Z x.ts)])/\C8 n ⟨FI b x,U (V ⟨g,0,Y⟩) (Z x.ts) (Z x.ts)⟩/\Ac [] C n):=by
  intro x l m C hk hc hx;refine(Pk T ty b x.ap x.an l m x.ts 0 C hb (HA.kept hk) (hx.kept hk) (by have:=hc.len;omega) hc.ts).mono ?_;rintro r n ⟨g,rfl,hr,k⟩;refine⟨g,rfl,?_,k⟩;show oi n 0 170 1 _ (Z (x.ts.map (BO b))) _;rw[mI];exact Ak hr (mO _)
 obtain⟨R,hR⟩:=rd (Ke b (c.map qW));rw[hR];have HR:=Ab hR;obtain⟨N,hN⟩:=rd w.heap.size;have Q:=Ab hN;clear hB hl hR hN HA;go_enter func198,ntmps198;go_wp2_with fail
 go_loopg [5,10] (Z c) (λgk o i wr=>∃(k:Nat) (a:rc Eb) (z:Option Addr) (u:Nat),o=U z (Z a) u/\i=X J k/\k<=Z c/\gk=Z c-k/\Z a<=k/\nc (a.map Eb.f=Ke b ((c.take k).map qW))/\nc (oi wr N 104 2 (U z (Z a) u) (Z a) (a.flatMap AM))/\nc (∀p∈a,C8 wr p/\Z p.f.zC<=1000)/\nc (Ac [] w wr))
 case atStart=>exact⟨0,[],Y,0,rfl,rfl,by omega,rfl,by simp,rfl,mS _ _ _ _,(λp e=>by cases e),re _ _⟩
 case round=>
  obtain⟨k,a,z,u,rfl,rfl,hk,HB,H9,G,L,M,D⟩:=hrel;have HG:=Ab HB;clear HB;by_cases AO:k<Z c
  .obtain⟨g,IJ,x,v,y,he,AH,_,d0,d1,d2,d3,d4,d5,d6,d7,d8⟩:=V4 (Go.kept D) k AO;simp only[mu]at he;obtain⟨rfl,_,rfl⟩:=he;(have AT:(x,U v (Z x.ts) y)∈c:=by rw[<-AH];exact mw AO);have A0:=Aa HV _ AT;have EX:LP w 0 (x,U v (Z x.ts) y):=(Go.each _ AT).1;have DG:nc (Ke b ((c.take (k+1)).map qW)=Ke b ((c.take k).map qW)++if(x.sort==0)=jj then[FI b x] else[]):=by
    show _=_;unfold Ke;rw[mx AO,nk,oW,nk,AH]
    congr 1
    simp only[mU,oH,oh,List.filter_nil];split<;>rfl
   have F:=Ab (D.alloc (j1 (j2 (Ay (x,U v (Z x.ts) y))) 217));have H:=Ab (mE L (j1 (j2 (Ay (x,U v (Z x.ts) y))) 217));(have A:nc (∀p∈a,C8 (wr.alloc (j1 (j2 (Ay (x,U v (Z x.ts) y))) 217)) p/\Z p.f.zC<=1000):=λp e=>⟨(M p e).1.kept ((re [] wr).alloc _),(M p e).2⟩);have B:=Ab (HI x v y _ F A0 EX);(have CL:nc (Z (FI b x).zC<=1000):=by show Z (x.ts.map (BO b))<=1000;rw[mI];exact A0.len);(have W:nc (∀g,AM ⟨FI b x,U (V ⟨g,0,Y⟩) (Z x.ts) (Z x.ts)⟩=[O x.an,U (V ⟨g,0,Y⟩) (Z x.ts) (Z x.ts)]):=λg=>rfl);generalize FI b x=FC at DG B CL W;obtain⟨pl,so,ap,an,d,⟨lv,H6⟩,⟨rv,IS⟩⟩:=x;simp only[Ay]at F H A B DG W d0 d1 d2 d3 d4 d5 d6 d7 d8;clear AH AT A0 EX L M;(have Ix:N<=wr.heap.size:=by have:=D.size;have:=Aa Q;omega);clear D;by_cases S:so=0
   ·(have A1:(so==0)=jj:=by simp[S]);rw[A1,mK rfl]at DG;clear S;(go_wp2_with fail);refine B.mono ?_;rintro _ s ⟨j,rfl,EK,P⟩;have E:=Ad H P;(have A2:nc (∀p∈a,C8 s p/\Z p.f.zC<=1000):=λp e=>⟨(A p e).1.kept P,(A p e).2⟩);have Bx:=Ab (F.trans P);have FO:=Ab EK;(have H4:N<=s.heap.size:=by have:=Bx.size;have:=Aa Q;omega);clear B H A F P EK d0 d1 d2 d3 d4 d5 d6 d7 d8;go_wp2_with (at_builtin;refine mZ _ rfl (.tmp 17) (.tmp 22) _ rfl N 104 i0 _ 2 40 underlying113 HY HT H0 HX rfl (by omega) (U z (Z a) u) (Z a) (a.flatMap AM) rfl (mE E _) ⟨s.heap.size,0,Y⟩ 1 1 [O an,U (V ⟨j,0,Y⟩) (Z d) (Z d)] rfl rfl (mW (m7 s _)) (by simp[Value.oneCell']) (by omega) (by unfold maxLen;omega) (by omega) (by simp;omega) (s.heap.size+1) (by simp) ?_;intro g1 EM w9 FP I HH HQ)
    have Ax:nc ((a++[Eb.mk FC (U (V ⟨j,0,Y⟩) (Z d) (Z d))]).map Eb.f=Ke b ((c.take (k+1)).map qW)):=by
     show _=_;rw[Aa DG,nk,Aa G];rfl
    have HL:nc (oi w9 N 104 2 (U (V ⟨g1,0,Y⟩) (Z (a++[Eb.mk FC (U (V ⟨j,0,Y⟩) (Z d) (Z d))])) EM) (Z (a++[Eb.mk FC (U (V ⟨j,0,Y⟩) (Z d) (Z d))])) ((a++[Eb.mk FC (U (V ⟨j,0,Y⟩) (Z d) (Z d))]).flatMap AM)):=by
     rw[mY];simp only[mM,mL,m8,nE,mX,nP,np,Aa W];exact FP
    have HS:nc (∀p∈a++[Eb.mk FC (U (V ⟨j,0,Y⟩) (Z d) (Z d))],C8 w9 p/\Z p.f.zC<=1000):=by
     intro p e;rcases mF.1 e with h|h
     .exact⟨C8.grown ((A2 p h).1.kept ((re [] s).alloc _)) (mE E _) I,(A2 p h).2⟩
     .simp only[my]at h;subst h;exact⟨C8.grown (FO.kept ((re [] s).alloc _)) (mE E _) I,CL⟩
    have HW:=Ab ((Bx.alloc (j1 #[O an,U (V ⟨j,0,Y⟩) (Z d) (Z d)] 104)).grown I (λq hq=>lx (by have:=(E.lt q hq).1;have:=Aa Q;omega)));clear FP I HH HQ E A2 Bx FO DG G
    go_roundg (Z c-(k+1))
    case measure=>have:=Aa HG;omega
    case rel=>exact⟨k+1,a++[Eb.mk FC (U (V ⟨j,0,Y⟩) (Z d) (Z d))],V ⟨g1,0,Y⟩,EM,by simp,by go_num,by omega,rfl,by simp;omega,Ax,HL,HS,HW⟩
   ·(have A1:(so==0)=K:=by simp[S]);rw[A1,mJ (by simp),np]at DG;(have Ax:nc (a.map Eb.f=Ke b ((c.take (k+1)).map qW)):=by show _=_;rw[Aa DG];exact G);clear S DG G B;go_wp2
    go_roundg (Z c-(k+1))
    case measure=>have:=Aa HG;omega
    case rel=>exact⟨k+1,a,z,u,rfl,by go_num,by omega,rfl,by omega,Ax,H,A,F⟩
  .have H2:nc (a.map Eb.f=R):=by
    have h:=Aa G;rw[mz (by omega),Aa HR]at h;exact h
   go_wp2;go_ret;exact⟨z,u,a,rfl,H2,⟨Ak L (mO _),M⟩,by rw[Aa Q];exact L,D⟩
