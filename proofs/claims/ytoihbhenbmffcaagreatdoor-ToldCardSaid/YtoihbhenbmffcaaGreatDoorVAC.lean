import Derived.Shelf.Spec.SlicesInsertGrow
import Derived.Test.YtoihbhenbmffcaaGreatDoorVAA
set_option linter.all false
set_option maxHeartbeats 0
open List renaming length->Z,toArray->D6
open Option renaming none->Y,some->V
open Go.Value renaming slice->U,int->X,string->O,ownBlock->OC
open Bool renaming false->K,true->Cm
open Go.IntKind renaming i64->J,i32->M8
open Go.Obj renaming cells->Dj
open Go.Ending renaming returned->G3
open Or renaming inl->Hd,inr->Hf
open Go renaming World->Hq,Value->Hs
open Go.World renaming cell?->Lc,ownsRow->Mi
namespace Go.Proofs.YtoihbhenbmffcaaGreatDoor
open Go.RowKit Go.Proofs.Tryz
variable{w:Hq}{b n i m k j:Nat}{y:QC Hs}{T:TypeId}{z:Hs}{e:QC bC}{s:bC}{I:Int}
theorem Tryz.zN:(Tryz.prog.info? 21).map (λi=>(i.zero,i.size,i.bytes))=V (V (X M8 0),1,4):=by kernel_rfl
def PA:QC Hs->Nat->QC Hs->QC Hs
 |cs,_,[]=>cs
 |cs,o,v::r=>PA (cs.set o v) (o+1) r
def Ip:∀(b a:QC Hs) (o:Nat),o+Z b<=Z a->PA a o b=a.take o++b++a.drop (o+Z b)
 |[],a,o,h=>by simp[PA]
 |v::r,a,o,h=>by
  simp only[lQ]at h;rw[PA,Ip r (a.set o v) (o+1) (by simp;omega)];have c:(a.set o v).take (o+1)=a.take o++[v]:=by
   rw[lF (by simp;omega),List.take_set_of_le (by omega)];simp
  have d:(a.set o v).drop (o+1+Z r)=a.drop (o+(Z r+1)):=by
   rw[List.drop_set_of_lt (by omega)]
   congr 1
   omega
  rw[c,d];simp
def D5:∀(b a:QC Hs) (o:Nat),Z (PA a o b)=Z a
 |[],a,o=>rfl
 |v::r,a,o=>by rw[PA,D5 r];simp
def AI.setCells{b:Nat}{t:TypeId}:∀(c:QC Hs) {w:Hq} {a:QC Hs} (o:Nat),AI w b a t->AI (w.setCells b o c) b (PA a o c) t
 |[],_,_,_,h=>h
 |v::r,w,a,o,h=>by
  rw[World.setCells,PA];exact AI.setCells r (o+1) (h.set o v)
def Ac.setCells{M:QC Nat}{a:Hq}{b:Nat}(c:b∈M\/a.heap.size<=b):∀(d:QC Hs) {w:Hq} (o:Nat),Ac M a w->Ac M a (w.setCells b o d)
 |[],_,_,h=>h
 |v::r,w,o,h=>by
  rw[World.setCells];exact Ac.setCells c r (o+1) (h.setCell (p:=⟨b,o,Y⟩) c v)
def AI.shape{w:Hq}{b:Nat}{a:QC Hs}{t:TypeId}(h:AI w b a t):w.shape? b=V (t,Z a):=by
 unfold AI at h;simp[World.shape?,h]
def AI.some(h:AI w b y T)(k:Nat)(a:k<Z y):(Lc w ⟨b,k,Y⟩).isSome=Cm:=by
 rw[h.cell,lN a];rfl
def ey{b a:QC Hs}(j:b.take n=a)(f:Z a=n)(h:i<=n)(k:n+1<=Z b)(x:Hs):
  (PA (PA b (i+1) (a.drop i)) i [x]).take (n+1)=a.take i++x::a.drop i:=by
 have c:Z (a.drop i)=n-i:=by rw[mG,f]
 rw[Ip [x] _ i (by rw[D5];simp;omega),Ip (a.drop i) b (i+1) (by rw[c];omega)];have d:(b.take (i+1)++a.drop i++b.drop (i+1+Z (a.drop i))).take i=a.take i:=by
  rw[mO,mN (by simp;omega),o9,oB (by omega),<-j,o9,oB h]
 have g:(b.take (i+1)++a.drop i++b.drop (i+1+Z (a.drop i))).drop (i+[x].length)=a.drop i++b.drop (i+1+Z (a.drop i)):=by
  rw[mO,List.drop_left' (by simp;omega)]
 rw[d,g,mO,List.take_append,lH (by simp;omega)]
 congr 1
 have e:n+1-Z (a.take i)=(n-i)+1:=by simp;omega
 rw[e];simp only[pS,ny,mR,oy];rw[mN (by omega),lH (by omega)]
theorem Tryz.zC:(Tryz.prog.info? 170).map (λi=>(i.zero,i.size,i.bytes))=V (V (O ⟨#[]⟩),1,16):=by kernel_rfl
def SE(te sl fn ov bz:Nat)(z:Hs):Prop:=
 (te=9/\sl=41/\fn=218/\ov=231/\bz=16/\z=O ⟨#[]⟩)\/(te=21/\sl=234/\fn=220/\ov=233/\bz=4/\z=X M8 0)\/(te=170/\sl=102/\fn=214/\ov=229/\bz=16/\z=O ⟨#[]⟩)
def SE.info{a c d e b:Nat}{z:Hs}(h:SE a c d e b z):(prog.info? a).map (λi=>(i.zero,i.size,i.bytes))=V (V z,1,b):=by
 rcases h with⟨rfl,rfl,rfl,rfl,rfl,rfl⟩|⟨rfl,rfl,rfl,rfl,rfl,rfl⟩|⟨rfl,rfl,rfl,rfl,rfl,rfl⟩
 .exact Tryz.zM
 .exact Tryz.zN
 .exact Tryz.zC
def SE.ul(h:SE n m k i j z):prog.underlying m=V (.slice n):=by
 rcases h with⟨rfl,rfl,rfl,rfl,rfl,rfl⟩|⟨rfl,rfl,rfl,rfl,rfl,rfl⟩|⟨rfl,rfl,rfl,rfl,rfl,rfl⟩
 .exact underlying41
 .exact underlying234
 .exact underlying102
theorem SE.over(h:SE n m k i j z)(a:Array Hs)(w:Hq):(callFunc i a).run prog w=((Extern.SlicesOverlaps.overlaps #[m,m] #[4] a).run prog w).andThen λv b=> .ok (.value v) b:=by
 rcases h with⟨rfl,rfl,rfl,rfl,rfl,rfl⟩|⟨rfl,rfl,rfl,rfl,rfl,rfl⟩|⟨rfl,rfl,rfl,rfl,rfl,rfl⟩
 .exact py func231 (by kernel_rfl) (by kernel_rfl) (by kernel_rfl) (by kernel_rfl) _ _
 .exact py func233 (by kernel_rfl) (by kernel_rfl) (by kernel_rfl) (by kernel_rfl) _ _
 .exact py func229 (by kernel_rfl) (by kernel_rfl) (by kernel_rfl) (by kernel_rfl) _ _
def SE.one(h:SE n m k i j z):z.cells=#[z]:=by
 rcases h with⟨_,_,_,_,_,rfl⟩|⟨_,_,_,_,_,rfl⟩|⟨_,_,_,_,_,rfl⟩<;>rfl
def SE.small(h:SE n m k i j z):j<=16:=by rcases h with h|h|h<;>omega
set_option maxRecDepth 100000
theorem dd{b o F H bz:Nat}(p:SE b o F H bz z)(g n c i f:Nat)(d t:QC Hs)(k:Hs)(w:Hq)(hi:i<n)(BA:n+1<=c)(Bx:c<=9223372036854775807)(D:f≠g)
  (A0:Z d=n) (q:AI w g t b) (AH:Z t=c) (S:t.take n=d) (s:AI w f [k] b) (AB:∀v∈d,v.oneCell'=Cm) (T:k.oneCell'=Cm):
  Calls prog F #[U (V ⟨g,0,Y⟩) n c,X J i,U (V ⟨f,0,Y⟩) 1 1] w λe Q=>
   e=G3 (U (V ⟨g,0,Y⟩) (n+1) c)/\Q=(w.drew.setCells g (i+1) (d.drop i)).setCells g i [k]:=by
 obtain⟨i0,P,A2,I,EK⟩:=mH p.info;have E:(prog.info? b).map (·.size)=V 1:=by rw[P];simp[I]
 have A1:∀w,(Go.sizeOf b).run prog w=.ok 1 w:=λw=>by simp[sizeOf,typeInfo,P,I]
 have L:∀j,j<n+1->(Lc w ⟨g,j,Y⟩).isSome=Cm:=λj a=>q.some j (by omega)
 have N:∀j,w.frozen? ⟨g,j,Y⟩=K:=λj=>q.frozen j
 have G:∀j v,d[j]?=V v->Lc w ⟨g,j,Y⟩=V v:=λj v a=>by
  rw[q.cell];rw[<-S,nI]at a;split at a
  .exact a
  .cases a
 have W:∀y x,(callFunc H #[U (V ⟨f,0,Y⟩) 1 1,U (V ⟨g,i+1,Y⟩) y x]).run prog w=.ok (.value (.bool K)) w:=λy x=>by
  rw[p.over,Lib.run_overlaps_apart w o 4 b p.ul 1 A1 ⟨f,0,Y⟩ ⟨g,i+1,Y⟩ 1 1 y x D b b 1 c (by simpa using s.shape) (by rw[<-AH];exact q.shape) (by omega) (s.frozen 0) (s.frozen 1)];rfl
 have AR:Z (d.drop i)=n-i:=by rw[mG,A0]
 have C:∀m h A,(Builtin.copy_ #[o,o] m #[U (V ⟨g,i+1,Y⟩) (n-i) h,U (V ⟨g,i,Y⟩) (n+1-i) A]).run prog w.drew=.ok (goInt (Z (d.drop i))) (w.drew.setCells g (i+1) (d.drop i)):=λm h A=>
  run_copy_cells w.drew _ _ m b g (i+1) (n-i) h ⟨g,i,Y⟩ (n+1-i) A (d.drop i) p.ul E (by rw[AR];simp only[pN];split<;>omega)
   (λj v a=>by rw[ou];exact G (i+j) v (by rwa [ph]at a))
   (λj a=>L _ (by omega)) (λj a=>N _) (λv hv=>AB v (oD hv))
 obtain⟨l,r⟩:∃l,l=w.drew.setCells g (i+1) (d.drop i):=⟨_,rfl⟩;have u:AI l g (PA t (i+1) (d.drop i)) b:=by rw[r];exact q.drew.setCells _ _
 have B:AI l f [k] b:=by rw[r];exact s.drew.kept (Ac.setCells (M:=[g]) (by simp) _ _ (SF _ _)) (by simpa using D)
 have R:∀m h,(Builtin.copy_ #[o,o] m #[U (V ⟨g,i,Y⟩) (n+1-i) h,U (V ⟨f,0,Y⟩) 1 1]).run prog l=.ok (goInt [k].length) (l.setCells g i [k]):=λm h=>
  run_copy_cells l _ _ m b g i (n+1-i) h ⟨f,0,Y⟩ 1 1 [k] p.ul E (by simp only[pN];split<;>simp<;>omega)
   (λj v a=>by rw[ou,mC,B.cell];exact a)
   (λj a=>u.some _ (by rw[D5];simp at a;omega)) (λj a=>u.frozen _) (by simpa using T)
 rw[<-r]at C;have B2:IntKind.i64.wrap ((i:Int)+1)=(i:Int)+1:=by rw[nU];omega
 have BS:¬((i:Int)=(n:Int)):=by omega
 have DT:(0:Int)<=(i:Int)+1:=by omega
 have B0:i<=n:=by omega
 have BB:((i:Int)+1).toNat=i+1:=by omega
 have B9:¬(c=i+1):=by omega
 have EM:(i:Int)<=(n:Int)+1:=by omega
 have CL:¬(c=i):=by omega
 have mixed:prog.follows Departure.mixedOrders=Cm:=by kernel_rfl
 have AO:=Ab r;clear q s u B G L N r;rcases p with⟨rfl,rfl,rfl,rfl,rfl,rfl⟩|⟨rfl,rfl,rfl,rfl,rfl,rfl⟩|⟨rfl,rfl,rfl,rfl,rfl,rfl⟩
 case' inl=>go_enter func218,ntmps218
 case' inr.inl=>go_enter func220,ntmps220
 case' inr.inr=>go_enter func214,ntmps214
 all_goals
  go_wp2_with (simp only[W])
  go_region_law_o (refine step_copy_runI rfl _ _ _ _ rfl _ _ (by simp[Act.eval,Act.put]) (by simp[Act.eval,Act.put]) (C _ _ _) ?_)
  go_wp2_with (at_builtin;refine wpList_copy_runI _ rfl _ _ _ _ rfl _ _ rfl rfl (R _ _) ?_)
  go_ret;exact⟨rfl,by rw[Aa AO]⟩
theorem ei{a p fn ov bz:Nat}(m:SE a p fn ov bz z)(g n c i q:Nat)(k y:QC Hs)(f:Hs)(w:Hq)(hi:i<n)(Ha:n<=c)(B9:c<n+1)(HD:n<=1000000)
  (FB:Z k=n) (B:AI w g y a) (FW:Z y=c) (P:y.take n=k) (I:AI w q [f] a) (EM:∀v∈k,v.oneCell'=Cm) (B0:f.oneCell'=Cm):
  Calls prog fn #[U (V ⟨g,0,Y⟩) n c,X J i,U (V ⟨q,0,Y⟩) 1 1] w λe w'=>
   ∃(b:QC Hs) (G:Nat),Z b=G/\n+1<=G/\G<=maxLen/\b.take i=k.take i/\e=G3 (U (V ⟨w.heap.size,0,Y⟩) (n+1) G)/\
   w'=(((w.alloc (Dj (D6 b) a)).drew.setCells w.heap.size i [f]).drew).setCells w.heap.size (i+1) (k.drop i):=by
 obtain⟨i0,A2,BS,AT,A0⟩:=mH m.info;have mixed:prog.follows Departure.mixedOrders=Cm:=by kernel_rfl
 have Ax:(prog.info? a).map (·.size)=V 1:=by rw[A2];simp[AT]
 have FL:=B.lt;have FF:=I.lt;have R:(n:Int)+1-(i:Int)=((n+1-i:Nat):Int):=by omega
 have E:i+(n+1-i)=n+1:=by omega
 have AR:∀j v,k[j]?=V v->Lc w ⟨g,j,Y⟩=V v:=λj v d=>by
  rw[B.cell];rw[<-P,nI]at d;split at d
  .exact d
  .cases d
 have T:(Builtin.firstCells i0.size i (U (V ⟨g,0,Y⟩) i c)).run prog w.drew=.ok (D6 (k.take i)) w.drew:=by
  rw[AT];exact run_firstCells_some w.drew 1 i ⟨g,0,Y⟩ i c (k.take i) (by rw[mB];omega) (λj v d=>by
   rw[ou,mC]
   rw[nI]at d
   split at d
   .exact AR j v d
   .cases d)
 have u:∀l,(Builtin.append_ #[p,3] l #[U (V ⟨g,0,Y⟩) i c,X J ((n:Int)+1-(i:Int))]).run prog w=
   .ok (U (V ⟨w.heap.size,0,Y⟩) (n+1) (grownCap w (n+1) c a)) (w.drew.alloc (Dj (D6 (k.take i)++Builtin.zeroCells z.cells (n+1-i)++Builtin.zeroCells z.cells (grownCap w (n+1) c a-(n+1))) a)):=λl=>by
  have h:=Lib.run_append_grow_zeros w p 3 l a i0 _ J J m.ul underlying3 A2 BS (V ⟨g,0,Y⟩) i c (k.take i) T (n+1-i) (by omega) (by omega) (by omega) (by omega) (by have:=m.small;rw[A0];exact mM (Nat.mul_le_mul_left _ this) (by omega)) (by have:=m.small;rw[A0,E];exact growslice_fits B9 (mM (Nat.mul_le_mul_left _ this) (by omega)));rw[E]at h;rw[R];exact h
 obtain⟨G,A⟩:∃G,G=grownCap w (n+1) c a:=⟨_,rfl⟩;obtain⟨b,t⟩:∃b:QC Hs,D6 b=D6 (k.take i)++Builtin.zeroCells z.cells (n+1-i)++Builtin.zeroCells z.cells (G-(n+1)):=⟨_,Array.toArray_toList⟩;rw[<-A]at u;rw[<-t]at u;have ES:n+1<=G:=by rw[A];exact grownCap_ge w _ _ _
 have D:G<=maxLen:=by rw[A];exact grownCap_le_maxLen w (n+1) c a (by unfold maxLen;omega)
 have Bx:Z b=G:=by
  have:=congrArg Array.size t;simp[Builtin.zeroCells,m.one]at this;omega
 have AO:b.take i=k.take i:=by
  have h:=congrArg Array.toList t;simp only[Array.toList_append,mO]at h;rw[h,mN (by simp;omega)];simp[o9]
 obtain⟨N,hN⟩:=QP w.heap.size;have s:AI (w.drew.alloc (Dj (D6 b) a)) N b a:=by rw[<-hN];exact Tc w.drew b a
 have S:AI (w.drew.alloc (Dj (D6 b) a)) q [f] a:=I.drew.alloc _;have CL:∀(W:Hq),(∀x,Lc W x=Lc (w.drew.alloc (Dj (D6 b) a)) x)->(∀x,W.frozen? x=(w.drew.alloc (Dj (D6 b) a)).frozen? x)->∀l o,(Builtin.copy_ #[p,p] l #[U (V ⟨N,i,Y⟩) (n+1-i) o,U (V ⟨q,0,Y⟩) 1 1]).run prog W=.ok (goInt [f].length) (W.setCells N i [f]):=λW r F l o=>
  run_copy_cells W _ _ l a N i (n+1-i) o ⟨q,0,Y⟩ 1 1 [f] m.ul Ax (by simp only[pN];split<;>simp<;>omega)
   (λj v d=>by rw[ou,mC,r,S.cell];exact d)
   (λj d=>by rw[r];exact s.some _ (by simp at d;omega)) (λj d=>by rw[F];exact s.frozen _) (by simpa using B0)
 have C:AI ((w.drew.alloc (Dj (D6 b) a)).setCells N i [f]) N (PA b i [f]) a:=s.setCells _ _;have Q:AI ((w.drew.alloc (Dj (D6 b) a)).setCells N i [f]) g y a:=(B.drew.alloc _).kept (Ac.setCells (M:=[N]) (by simp) _ _ (SF _ _)) (by simp;omega);have EY:Z (k.drop i)=n-i:=by rw[mG,FB]
 have L:∀(W:Hq),(∀x,Lc W x=Lc ((w.drew.alloc (Dj (D6 b) a)).setCells N i [f]) x)->(∀x,W.frozen? x=((w.drew.alloc (Dj (D6 b) a)).setCells N i [f]).frozen? x)->∀l o H,(Builtin.copy_ #[p,p] l #[U (V ⟨N,i+1,Y⟩) (n-i) o,U (V ⟨g,i,Y⟩) (n-i) H]).run prog W=.ok (goInt (Z (k.drop i))) (W.setCells N (i+1) (k.drop i)):=λW r F l o H=>
  run_copy_cells W _ _ l a N (i+1) (n-i) o ⟨g,i,Y⟩ (n-i) H (k.drop i) m.ul Ax (by rw[EY];simp only[pN];split<;>omega)
   (λj v d=>by
    rw[ou,r,Q.cell]
    rw[ph,<-P,nI]at d
    split at d
    .exact d
    .cases d)
   (λj d=>by rw[r];exact C.some _ (by rw[D5];omega))
   (λj d=>by rw[F];exact C.frozen _) (λv hv=>EM v (oD hv))
 have B2:∀x,Lc ((w.alloc (Dj (D6 b) a)).drew) x=Lc (w.drew.alloc (Dj (D6 b) a)) x:=λx=>rfl
 have E0:∀x,((w.alloc (Dj (D6 b) a)).drew).frozen? x=(w.drew.alloc (Dj (D6 b) a)).frozen? x:=λx=>rfl
 have EK:∀x,Lc (((w.alloc (Dj (D6 b) a)).drew.setCells N i [f]).drew) x=Lc ((w.drew.alloc (Dj (D6 b) a)).setCells N i [f]) x:=λx=>rfl
 have FC:∀x,(((w.alloc (Dj (D6 b) a)).drew.setCells N i [f]).drew).frozen? x=((w.drew.alloc (Dj (D6 b) a)).setCells N i [f]).frozen? x:=λx=>rfl
 have HB:IntKind.i64.wrap ((i:Int)+1)=(i:Int)+1:=by rw[nU];omega
 have FT:¬((i:Int)=(n:Int)):=by omega
 have HF:(c:Int)<(n:Int)+1:=by omega
 have HH:(0:Int)<=(i:Int)+1:=by omega
 have Go:i<=n:=by omega
 have FO:((i:Int)+1).toNat=i+1:=by omega
 have HI:(i:Int)<=(n:Int):=by omega
 have HG:¬(G=i):=by omega
 have FP:¬(G=i+1):=by omega
 have HC:¬(c=i):=by omega
 have HA:G<=9223372036854775807:=by unfold maxLen at D;omega
 have BA:=Ab Bx;have BT:=Ab AO;have DT:=Ab D;rw[hN]at u⊢;clear R E T t A Bx AO D B I s S C Q AR;rcases m with⟨rfl,rfl,rfl,rfl,rfl,rfl⟩|⟨rfl,rfl,rfl,rfl,rfl,rfl⟩|⟨rfl,rfl,rfl,rfl,rfl,rfl⟩
 case' inl=>go_enter func218,ntmps218
 case' inr.inl=>go_enter func220,ntmps220
 case' inr.inr=>go_enter func214,ntmps214
 all_goals
  go_wp2_with (first
   |(at_builtin;refine Lib.wpList_append_run _ rfl _ _ _ _ rfl _ _ rfl rfl _ _ (u _) ?_)
   |(at_builtin;refine wpList_copy_runI _ rfl _ _ _ _ rfl _ _ rfl rfl (CL _ B2 E0 _ _) ?_)
   |(at_builtin;refine wpList_copy_runI _ rfl _ _ _ _ rfl _ _ rfl rfl (L _ (λ_=>rfl) (λ_=>rfl) _ _ _) ?_))
  go_region_law_o (refine step_copy_runI rfl _ _ _ _ rfl (U (V ⟨N,i+1,Y⟩) (n-i) (G-(i+1))) (U (V ⟨g,i,Y⟩) (n-i) (c-i)) (by simp[Act.eval,Act.put]) (by simp[Act.eval,Act.put]) (L _ EK FC 3 (G-(i+1)) (c-i)) ?_)
  go_wp2;go_ret;exact⟨b,G,BA,ES,DT,BT,rfl,rfl⟩
theorem MQ{s sl fn ov bz:Nat}(p:SE s sl fn ov bz z)(r:Option Addr)(d n:Nat)(l:QC Hs)(i:Nat)(x:Hs)(t m:Nat)(w:Hq)(q:Mi w t s 1 (U r n d) n l)(f:Z l=n)(EM:n<=1000000)(hi:i<=n)(B:AI w m [x] s)(N:∀v∈l,v.oneCell'=Cm)(y:x.oneCell'=Cm)(T:(U r n d).ownBlock≠V m)(H:t<=w.heap.size):
  Calls prog fn #[U r n d,X J i,U (V ⟨m,0,Y⟩) 1 1] w λe C=>∃g cp,e=G3 (U (V ⟨g,0,Y⟩) (n+1) cp)/\Mi C t s 1 (U (V ⟨g,0,Y⟩) (n+1) cp) (n+1) (Ga l i x)/\Ac (U r n d).ownBlock.toList w C/\((U r n d).ownBlock=V g\/w.heap.size<=g):=by
 have HB:=LD (l:=l) (by omega) x (at_:=i);by_cases HJ:i=n
 .subst HJ;obtain⟨i0,A0,W,A2,AH⟩:=mH p.info;have HI:Hid (Ga l i x=l++[x]):=by
   show Ga l i x=l++[x];rw[Ga,lH (by omega),mp (by omega)]
  have HV:Hid (∀j u,[x][j]?=V u->Lc w ((⟨m,0,Y⟩:Addr).add j)=V u):=λj u hu=>by rw[ou,mC,B.cell];exact hu
  have HL:=Ab q;have A1:=p.ul;have HN:=p.small;have H1:=Ab y;have Bx:∀v∈[x],v.oneCell'=Cm:=λv hv=>by rw[lG.1 hv];exact y
  have HX:=Ab Bx;clear B HB N y Bx T;cases r with
  |none=>
   have FC:i=0/\d=0:=by
    rcases q.2 with⟨b,D⟩|⟨g,c,o,b,_⟩
    .simp only[lB]at b;exact⟨D,b.2.2⟩
    .simp at b
   obtain⟨rfl,rfl⟩:=FC;have B9:l=[]:=nK.1 f;subst B9;clear q f;rcases p with⟨rfl,rfl,rfl,rfl,rfl,rfl⟩|⟨rfl,rfl,rfl,rfl,rfl,rfl⟩|⟨rfl,rfl,rfl,rfl,rfl,rfl⟩
   case' inl=>go_enter func218,ntmps218
   case' inr.inl=>go_enter func220,ntmps220
   case' inr.inr=>go_enter func214,ntmps214
   all_goals
    go_wp2_with (at_builtin;refine me _ rfl _ _ _ rfl t _ i0 _ 1 _ A1 A0 W A2 AH rfl (by omega) (U Y 0 0) 0 [] rfl HL ⟨m,0,Y⟩ 1 1 [x] rfl rfl HV HX (by omega) (by unfold maxLen;omega) (by omega) H _ rfl ?_;intro R I w9 P L E E0)
    go_ret;refine⟨R,I,rfl,P,(SF _ w).grown L (λk F=>Hd (by rw[nX];exact F)),?_⟩;rcases E with h|h
    .exact Hd h
    .exact Hf (by omega)
  |some a=>
   obtain⟨ab,ao,EX⟩:=a;have HH:ao=0/\EX=Y:=by
    rcases q.2 with⟨b,D⟩|⟨g,c,o,b,_⟩
    .simp at b
    .simp only[lB,lL,mu]at b;exact b.1.2
   obtain⟨rfl,rfl⟩:=HH;have DT:i<=d/\d<=maxLen:=by
    rcases q.2 with⟨b,D⟩|⟨g,c,o,b,_,_,h1,h2,_⟩
    .simp at b
    .simp only[lB]at b;rw[b.2.2];exact⟨h1,h2⟩
   obtain⟨B0,A⟩:=DT;unfold maxLen at A;clear q;rcases p with⟨rfl,rfl,rfl,rfl,rfl,rfl⟩|⟨rfl,rfl,rfl,rfl,rfl,rfl⟩|⟨rfl,rfl,rfl,rfl,rfl,rfl⟩
   case' inl=>go_enter func218,ntmps218
   case' inr.inl=>go_enter func220,ntmps220
   case' inr.inr=>go_enter func214,ntmps214
   all_goals
    go_wp2_with (at_builtin;refine me _ rfl _ _ _ rfl t _ i0 _ 1 _ A1 A0 W A2 AH rfl (by omega) (U (V ⟨ab,0,Y⟩) i d) i l rfl HL ⟨m,0,Y⟩ 1 1 [x] rfl rfl HV HX (by omega) (by unfold maxLen;omega) (by omega) H _ rfl ?_;intro R I w9 P L E E0)
    all_goals
     go_ret;rw[Aa HI];refine⟨R,I,rfl,P,(SF _ w).grown L (λk F=>Hd (by rw[nX];exact F)),?_⟩;rcases E with h|h
     .exact Hd h
     .exact Hf (by omega)
 .have BS:i<n:=by omega
  rcases q.2 with⟨b,D⟩|⟨g,c,o,b,hb,FL,B0,A,FA,HD⟩
  .omega
  .simp only[lB]at b;obtain⟨rfl,_,rfl⟩:=b;(have HE:m≠g:=λe=>T (by simp[OC,e]));(have M:AI w g o.toList s:=by unfold AI;simpa using FL);(have BA:Z o.toList=d:=by simpa using FA);(have S:o.toList.take n=l:=by simpa using HD);by_cases Ax:n+1<=d
   .refine(dd p g n d i m l o.toList x w BS Ax (by unfold maxLen at A;omega) HE f M BA S B N y).mono ?_;rintro e C ⟨rfl,rfl⟩;have Q:=(M.drew.setCells (l.drop i) (i+1)).setCells [x] i;refine⟨g,d,rfl,⟨?_,Hf ⟨g,d,_,rfl,hb,Q,Ax,A,?_,?_⟩⟩,?_,Hd rfl⟩
    .omega
    .simp only[mW,D5];omega
    .simp only[Nat.mul_one];exact ey S f hi (by omega) _
    .exact Ac.setCells (by simp[OC]) _ _ (Ac.setCells (by simp[OC]) _ _ (SF _ w).drew)
   .refine(ei p g n d i m l o.toList x w BS B0 (by omega) EM f M BA S B N y).mono ?_;rintro e C ⟨AR,G,HO,FB,FP,ES,rfl,rfl⟩;have Q:=((Tc w AR s).drew.setCells [x] i).drew.setCells (l.drop i) (i+1);(have hd:Z (l.drop i)=n-i:=by rw[mG,f]);refine⟨w.heap.size,G,rfl,⟨?_,Hf ⟨w.heap.size,G,_,rfl,H,Q,FB,FP,?_,?_⟩⟩,?_,Hf (lX _)⟩
    .omega
    .simp only[mW,D5];omega
    .simp only[Nat.mul_one];rw[Ip _ _ _ (by rw[D5,hd];omega),Ip _ _ _ (by simp;omega),ES];have e1:(List.take i l++[x]++List.drop (i+[x].length) AR).take (i+1)=List.take i l++[x]:=by
      rw[mN (by simp only[lU,mB,lQ,mn,mG,f];omega),lH (by simp only[lU,mB,lQ,mn,mG,f];omega)]
     rw[e1,mN (by simp only[lU,mB,lQ,mn,mG,f];omega),lH (by simp only[lU,mB,lQ,mn,mG,f];omega)];simp[Ga]
    .exact Ac.setCells (Hf (lX _)) _ _ (Ac.setCells (Hf (lX _)) _ _ ((SF _ w).alloc _).drew).drew
def XV(l:QC bC):l.flatMap Ag=l.map (O):=by
 induction l with
 |nil=>rfl
 |cons a l ih=>rw[mc,l9,ih];rfl
def ks(l:QC bC):∀v∈l.flatMap Ag,v.oneCell'=Cm:=by
 intro v b;rw[XV]at b;obtain⟨a,_,rfl⟩:=lP.1 b;rfl
def Uk(l:QC bC)(i:Nat)(x:bC):(Ga l i x).flatMap Ag=(l.flatMap Ag).take i++ O x::(l.flatMap Ag).drop i:=by
 rw[XV,XV,Ga,mx,l9,List.map_take,List.map_drop]
def VV(b:Option Addr)(a:Nat)(l:QC bC)(i:Nat)(x:bC)(d c:Nat)(w:Hq)(k:Mi w d 9 1 (U b (Z l) a) (Z l) (l.flatMap Ag))(o:Z l<=1000000)(p:i<=Z l)(n:AI w c [O x] 9)(m:(U b (Z l) a).ownBlock≠V c)(j:d<=w.heap.size):
  Calls prog 218 #[U b (Z l) a,X J i,U (V ⟨c,0,Y⟩) 1 1] w λe f=>∃g h,e=G3 (U (V ⟨g,0,Y⟩) (Z l+1) h)/\Mi f d 9 1 (U (V ⟨g,0,Y⟩) (Z l+1) h) (Z l+1) ((Ga l i x).flatMap Ag)/\Ac (U b (Z l) a).ownBlock.toList w f/\((U b (Z l) a).ownBlock=V g\/w.heap.size<=g):=by
 rw[Uk];exact MQ (Hd ⟨rfl,rfl,rfl,rfl,rfl,rfl⟩) b a (Z l) (l.flatMap Ag) i (O x) d c w k (by rw[XV];simp) o p n (ks l) rfl m j
def ay(l:QC bC)(x:bC):Bool:=l.any λy=>i6 y x
def Ll(l:QC bC)(x:bC):ay l x=Cm↔x∈l:=by
 unfold ay;rw[mZ];constructor
 .rintro ⟨y,a,h⟩;rw[<-(Gh.eqv y x).1 h];exact a
 .intro h;exact⟨x,h,(Gh.eqv x x).2 rfl⟩
def DA.inS(a:Di FY e)(h:DA FY e 0 s n):E6 i6 e n s=ay e s:=by
 rw[m9,h.has Gh a,Ll]
theorem T5(h:Option Addr)(f:Nat)(l:QC bC)(x:bC)(m:Nat)(w:Hq)(i:Mi w m 9 1 (U h (Z l) f) (Z l) (l.flatMap Ag))(s:Z l<=1000000)(j:Di FY l):
  Calls prog 121 #[U h (Z l) f,O x] w λe k=>e=G3 (.bool (ay l x))/\k=w:=by
 have o:=Ab (Th (U h (Z l) f) l 0 x m w i s (lW _) j);have t:=Ab j;have u:=Ab i;clear i j;go_enter func121,ntmps121;go_wp2_with fail
 refine o.mono ?_;rintro e k ⟨b,rfl,c,rfl⟩;have q:=Ab (c.inS t);have y:=c.le;clear o c;by_cases a:b<Z l
 .obtain⟨g,v,p,z,n⟩:=AC u (by simp[Ag]) b a;simp only[lB]at p;obtain⟨rfl,_,rfl⟩:=p;have r:=n b a 0 (by omega);simp[Ag]at r;clear n;have d:Hid (ay l x=i6 l[b] x):=by show _=_;rw[<-Aa q];unfold E6;rw[dif_pos a]
  go_wp2;go_ret;rw[d.out];exact⟨rfl,rfl⟩
 .have d:Hid (ay l x=K):=by show _=_;rw[<-Aa q];unfold E6;rw[dif_neg a]
  go_wp2;go_ret;rw[d.out];exact⟨rfl,rfl⟩
def On(base:Nat)(lv:Hs)(l:QC bC)(x:bC)(w:Hq)(e:Ending)(w':Hq):Prop:=
 ∃(l':QC bC) (ad':Option Addr) (cp':Nat),e=G3 (U ad' (Z l') cp')/\Di FY l'/\(∀y,y∈l'↔y=x\/y∈l)/\Z l<=Z l'/\Z l'<=Z l+1/\
  Mi w' base 9 1 (U ad' (Z l') cp') (Z l') (l'.flatMap Ag)/\Ac lv.ownBlock.toList w w'/\(∀k,(U ad' (Z l') cp').ownBlock=V k->lv.ownBlock=V k\/w.heap.size<=k)
theorem eP(d:Option Addr)(b:Nat)(l:QC bC)(x:bC)(f:Nat)(w:Hq)(B:Mi w f 9 1 (U d (Z l) b) (Z l) (l.flatMap Ag))(I:Z l<=1000000)(C:Di FY l)(A2:f<=w.heap.size):
  Calls prog 194 #[U d (Z l) b,O x] w λe a=>On f (U d (Z l) b) l x w e a:=by
 have N:=Ab (Th (U d (Z l) b) l 0 x f w B I (lW _) C);have v:=Ab C;have p:=Ab B;clear B C;go_enter func194,ntmps194;go_wp2_with fail
 refine N.mono ?_;rintro e a ⟨c,rfl,n,rfl⟩;have G:=Ab (n.has Gh v);have u:=Ab n;have Q:=n.le;clear N n;have o:Hid (E6 i6 l c x=K->Calls prog 218 #[U d (Z l) b,X J c,U (V ⟨a.heap.size,0,Y⟩) 1 1] (a.alloc (Dj #[O x] 9)) λe i=>On f (U d (Z l) b) l x a e i):=by
  intro R;have hn:AI (a.alloc (Dj [O x].toArray 9)) a.heap.size [O x] 9:=Tc a [O x] 9;refine(VV d b l c x f a.heap.size _ (lM p _) I Q hn (λe=>by have:=(p.lt _ e).2;omega) (by simp;omega)).mono ?_;rintro e i ⟨g,cp,rfl,T,s,ha⟩;have M:=LD (x:=x) Q;refine⟨Ga l c x,V ⟨g,0,Y⟩,cp,by rw[M],u.cE Gh v R,λy=>Pa x y,by omega,by omega,by rw[M];exact T,((SF _ a).alloc _).trans s,?_⟩;intro k H;simp only[OC,lL]at H;subst H;rcases ha with h|h
  .exact Hd h
  .exact Hf (by simp at h;omega)
 have q:Hid (E6 i6 l c x=Cm->On f (U d (Z l) b) l x a (G3 (U d (Z l) b)) a):=by
  intro AH;have hx:=G.1 AH;exact⟨l,d,b,rfl,v,λy=>⟨Hf,λh=>by rcases h with rfl|h;exact hx;exact h⟩,by omega,by omega,p,SF _ _,λk s=>Hd s⟩
 by_cases m:c<Z l
 .obtain⟨g,A1,P,hc,L⟩:=AC p (by simp[Ag]) c m;simp only[lB]at P;obtain⟨rfl,_,rfl⟩:=P;have S:=L c m 0 (by omega);simp[Ag]at S;clear L;have r:Hid (E6 i6 l c x=i6 l[c] x):=by show _=_;unfold E6;rw[dif_pos m]
  have A0:Hid ((l[c].toList==x.toList)=Cm->On f (U (V ⟨g,0,Y⟩) (Z l) b) l x a (G3 (U (V ⟨g,0,Y⟩) (Z l) b)) a):=λt=>q (by rw[r.out];exact t)
  have AR:Hid ((l[c].toList==x.toList)=K->Calls prog 218 #[U (V ⟨g,0,Y⟩) (Z l) b,X J c,U (V ⟨a.heap.size,0,Y⟩) 1 1] (a.alloc (Dj #[O x] 9)) λe i=>On f (U (V ⟨g,0,Y⟩) (Z l) b) l x a e i):=λt=>o (by rw[r.out];exact t)
  clear r G u o q;go_wp2_with fail
  .go_ret;exact A0 (by assumption)
  .refine(AR (by assumption)).mono ?_;intro e i D;obtain⟨E,z,A,rfl,j⟩:=D;have F:=Ab j;clear j;go_wp2;go_ret;exact⟨E,z,A,rfl,F⟩
 .have W:=Ab (o (by unfold E6;rw[dif_neg m]));clear G u o q;go_wp2_with fail
  refine W.mono ?_;intro e i D;obtain⟨E,z,A,rfl,j⟩:=D;have F:=Ab j;clear j;go_wp2;go_ret;exact⟨E,z,A,rfl,F⟩
def dr(l:QC Int):l.flatMap AW=l.map (X M8):=by
 induction l with
 |nil=>rfl
 |cons a l ih=>rw[mc,l9,ih];rfl
def kS(l:QC Int):∀v∈l.flatMap AW,v.oneCell'=Cm:=by
 intro v b;rw[dr]at b;obtain⟨a,_,rfl⟩:=lP.1 b;rfl
def cW(l:QC Int)(i:Nat)(x:Int):(Ga l i x).flatMap AW=(l.flatMap AW).take i++ X M8 x::(l.flatMap AW).drop i:=by
 rw[dr,dr,Ga,mx,l9,List.map_take,List.map_drop]
def VM(b:Option Addr)(a:Nat)(l:QC Int)(i:Nat)(x:Int)(d c:Nat)(w:Hq)(k:Mi w d 21 1 (U b (Z l) a) (Z l) (l.flatMap AW))(o:Z l<=1000000)(p:i<=Z l)(n:AI w c [X M8 x] 21)(m:(U b (Z l) a).ownBlock≠V c)(j:d<=w.heap.size):
  Calls prog 220 #[U b (Z l) a,X J i,U (V ⟨c,0,Y⟩) 1 1] w λe f=>∃g h,e=G3 (U (V ⟨g,0,Y⟩) (Z l+1) h)/\Mi f d 21 1 (U (V ⟨g,0,Y⟩) (Z l+1) h) (Z l+1) ((Ga l i x).flatMap AW)/\Ac (U b (Z l) a).ownBlock.toList w f/\((U b (Z l) a).ownBlock=V g\/w.heap.size<=g):=by
 rw[cW];exact MQ (Hf (Hd ⟨rfl,rfl,rfl,rfl,rfl,rfl⟩)) b a (Z l) (l.flatMap AW) i (X M8 x) d c w k (by rw[dr];simp) o p n (kS l) rfl m j
def KO(l:QC Int)(x:Int):Bool:=l.any λy=>jy y x
def RC(l:QC Int)(x:Int):KO l x=Cm↔x∈l:=by
 unfold KO;rw[mZ];constructor
 .rintro ⟨y,a,h⟩;rw[<-(Sr.eqv y x).1 h];exact a
 .intro h;exact⟨x,h,(Sr.eqv x x).2 rfl⟩
def DA.inI{l:QC Int}(a:Di Pv l)(h:DA Pv l 0 I n):E6 jy l n I=KO l I:=by
 rw[m9,h.has Sr a,RC]
theorem cQ(h:Option Addr)(f:Nat)(l:QC Int)(x:Int)(m:Nat)(w:Hq)(i:Mi w m 21 1 (U h (Z l) f) (Z l) (l.flatMap AW))(s:Z l<=1000000)(j:Di Pv l):
  Calls prog 201 #[U h (Z l) f,X M8 x] w λe k=>e=G3 (.bool (KO l x))/\k=w:=by
 have o:=Ab (Tj (U h (Z l) f) l 0 x m w i s (lW _) j);have t:=Ab j;have u:=Ab i;clear i j;go_enter func201,ntmps201;go_wp2_with fail
 refine o.mono ?_;rintro e k ⟨b,rfl,c,rfl⟩;have q:=Ab (c.inI t);have y:=c.le;clear o c;by_cases a:b<Z l
 .obtain⟨g,v,p,z,n⟩:=AC u (by simp[AW]) b a;simp only[lB]at p;obtain⟨rfl,_,rfl⟩:=p;have r:=n b a 0 (by omega);simp[AW]at r;clear n;have d:Hid (KO l x=jy l[b] x):=by show _=_;rw[<-Aa q];unfold E6;rw[dif_pos a]
  go_wp2;go_ret;rw[d.out];exact⟨rfl,rfl⟩
 .have d:Hid (KO l x=K):=by show _=_;rw[<-Aa q];unfold E6;rw[dif_neg a]
  go_wp2;go_ret;rw[d.out];exact⟨rfl,rfl⟩
def U5(base:Nat)(lv:Hs)(l:QC Int)(x:Int)(w:Hq)(e:Ending)(w':Hq):Prop:=
 ∃(l':QC Int) (ad':Option Addr) (cp':Nat),e=G3 (U ad' (Z l') cp')/\Di Pv l'/\(∀y,y∈l'↔y=x\/y∈l)/\Z l<=Z l'/\Z l'<=Z l+1/\
  Mi w' base 21 1 (U ad' (Z l') cp') (Z l') (l'.flatMap AW)/\Ac lv.ownBlock.toList w w'/\(∀k,(U ad' (Z l') cp').ownBlock=V k->lv.ownBlock=V k\/w.heap.size<=k)
theorem dN(d:Option Addr)(c:Nat)(l:QC Int)(x:Int)(f:Nat)(w:Hq)(C:Mi w f 21 1 (U d (Z l) c) (Z l) (l.flatMap AW))(I:Z l<=1000000)(D:Di Pv l)(A0:f<=w.heap.size):
  Calls prog 202 #[U d (Z l) c,X M8 x] w λe a=>U5 f (U d (Z l) c) l x w e a:=by
 have N:=Ab (Tj (U d (Z l) c) l 0 x f w C I (lW _) D);have z:=Ab D;have s:=Ab C;clear C D;go_enter func202,ntmps202;go_wp2_with fail
 refine N.mono ?_;rintro e a ⟨b,rfl,o,rfl⟩;have u:=Ab (o.has Sr z);have r:=Ab o;have Q:=o.le;clear N o;have j:Hid (E6 jy l b x=K->Calls prog 220 #[U d (Z l) c,X J b,U (V ⟨a.heap.size,0,Y⟩) 1 1] (a.alloc (Dj #[X M8 x] 21)) λe t=>U5 f (U d (Z l) c) l x a e t):=by
  intro R;have hn:AI (a.alloc (Dj [X M8 x].toArray 21)) a.heap.size [X M8 x] 21:=Tc a [X M8 x] 21;refine(VM d c l b x f a.heap.size _ (lM s _) I Q hn (λe=>by have:=(s.lt _ e).2;omega) (by simp;omega)).mono ?_;rintro e t ⟨g,cp,rfl,T,v,ha⟩;have M:=LD (x:=x) Q;refine⟨Ga l b x,V ⟨g,0,Y⟩,cp,by rw[M],r.cE Sr z R,λy=>Pa x y,by omega,by omega,by rw[M];exact T,((SF _ a).alloc _).trans v,?_⟩;intro k H;simp only[OC,lL]at H;subst H;rcases ha with h|h
  .exact Hd h
  .exact Hf (by simp at h;omega)
 have p:Hid (E6 jy l b x=Cm->U5 f (U d (Z l) c) l x a (G3 (U d (Z l) c)) a):=by
  intro AB;have W:=u.1 AB;exact⟨l,d,c,rfl,z,λy=>⟨Hf,λh=>by rcases h with rfl|h;exact W;exact h⟩,by omega,by omega,s,SF _ _,λk v=>Hd v⟩
 by_cases i:b<Z l
 .obtain⟨g,AR,P,hc,L⟩:=AC s (by simp[AW]) b i;simp only[lB]at P;obtain⟨rfl,_,rfl⟩:=P;have S:=L b i 0 (by omega);simp[AW]at S;clear L;have q:Hid (E6 jy l b x=jy l[b] x):=by show _=_;unfold E6;rw[dif_pos i]
  have AT:=Ab i;cases hq:jy l[b] x with
  |true=>
   have m:=Ab (p (by rw[q.out];exact hq));simp only[jy]at hq;clear q u r j p;go_wp2;go_ret;exact m
  |false=>
   have m:=Ab (j (by rw[q.out];exact hq));simp only[jy]at hq;clear q u r j p;(go_wp2_with fail);refine m.mono ?_;intro e t E;obtain⟨F,A,B,rfl,n⟩:=E;have G:=Ab n;clear n;go_wp2;go_ret;exact⟨F,A,B,rfl,G⟩
 .have m:=Ab (j (by unfold E6;rw[dif_neg i]));clear u r j p;go_wp2_with fail
  refine m.mono ?_;intro e t E;obtain⟨F,A,B,rfl,n⟩:=E;have G:=Ab n;clear n;go_wp2;go_ret;exact⟨F,A,B,rfl,G⟩
def Te(a:Hs)(l:QC bC)(k:Nat)(x:bC)(c:Nat)(w:Hq)(g:Mi w c 170 1 a (Z l) (l.flatMap Ag))(i:Z l<=1000000)(d:k<=Z l)(h:Di FY l):
  Calls prog 149 #[a,X J k,O x] w λe f=>∃b:Nat,e=G3 (X J b)/\DA FY l k x b/\f=w:=
 Tb (Hf ⟨rfl,rfl⟩) a l k x c w g i d h
def VK(b:Option Addr)(a:Nat)(l:QC bC)(i:Nat)(x:bC)(d c:Nat)(w:Hq)(k:Mi w d 170 1 (U b (Z l) a) (Z l) (l.flatMap Ag))(o:Z l<=1000000)(p:i<=Z l)(n:AI w c [O x] 170)(m:(U b (Z l) a).ownBlock≠V c)(j:d<=w.heap.size):
  Calls prog 214 #[U b (Z l) a,X J i,U (V ⟨c,0,Y⟩) 1 1] w λe f=>∃g h,e=G3 (U (V ⟨g,0,Y⟩) (Z l+1) h)/\Mi f d 170 1 (U (V ⟨g,0,Y⟩) (Z l+1) h) (Z l+1) ((Ga l i x).flatMap Ag)/\Ac (U b (Z l) a).ownBlock.toList w f/\((U b (Z l) a).ownBlock=V g\/w.heap.size<=g):=by
 rw[Uk];exact MQ (Hf (Hf ⟨rfl,rfl,rfl,rfl,rfl,rfl⟩)) b a (Z l) (l.flatMap Ag) i (O x) d c w k (by rw[XV];simp) o p n (ks l) rfl m j
def Ok(base:Nat)(lv:Hs)(l:QC bC)(x:bC)(w:Hq)(e:Ending)(w':Hq):Prop:=
 ∃(l':QC bC) (ad':Option Addr) (cp':Nat),e=G3 (U ad' (Z l') cp')/\Di FY l'/\(∀y,y∈l'↔y=x\/y∈l)/\Z l<=Z l'/\Z l'<=Z l+1/\
  Mi w' base 170 1 (U ad' (Z l') cp') (Z l') (l'.flatMap Ag)/\Ac lv.ownBlock.toList w w'/\(∀k,(U ad' (Z l') cp').ownBlock=V k->lv.ownBlock=V k\/w.heap.size<=k)
theorem Xn(d:Option Addr)(b:Nat)(l:QC bC)(x:bC)(f:Nat)(w:Hq)(B:Mi w f 170 1 (U d (Z l) b) (Z l) (l.flatMap Ag))(I:Z l<=1000000)(C:Di FY l)(A2:f<=w.heap.size):
  Calls prog 185 #[U d (Z l) b,O x] w λe a=>Ok f (U d (Z l) b) l x w e a:=by
 have N:=Ab (Te (U d (Z l) b) l 0 x f w B I (lW _) C);have v:=Ab C;have p:=Ab B;clear B C;go_enter func185,ntmps185;go_wp2_with fail
 refine N.mono ?_;rintro e a ⟨c,rfl,n,rfl⟩;have G:=Ab (n.has Gh v);have u:=Ab n;have Q:=n.le;clear N n;have o:Hid (E6 i6 l c x=K->Calls prog 214 #[U d (Z l) b,X J c,U (V ⟨a.heap.size,0,Y⟩) 1 1] (a.alloc (Dj #[O x] 170)) λe i=>Ok f (U d (Z l) b) l x a e i):=by
  intro R;have hn:AI (a.alloc (Dj [O x].toArray 170)) a.heap.size [O x] 170:=Tc a [O x] 170;refine(VK d b l c x f a.heap.size _ (lM p _) I Q hn (λe=>by have:=(p.lt _ e).2;omega) (by simp;omega)).mono ?_;rintro e i ⟨g,cp,rfl,T,s,ha⟩;have M:=LD (x:=x) Q;refine⟨Ga l c x,V ⟨g,0,Y⟩,cp,by rw[M],u.cE Gh v R,λy=>Pa x y,by omega,by omega,by rw[M];exact T,((SF _ a).alloc _).trans s,?_⟩;intro k H;simp only[OC,lL]at H;subst H;rcases ha with h|h
  .exact Hd h
  .exact Hf (by simp at h;omega)
 have q:Hid (E6 i6 l c x=Cm->Ok f (U d (Z l) b) l x a (G3 (U d (Z l) b)) a):=by
  intro AH;have hx:=G.1 AH;exact⟨l,d,b,rfl,v,λy=>⟨Hf,λh=>by rcases h with rfl|h;exact hx;exact h⟩,by omega,by omega,p,SF _ _,λk s=>Hd s⟩
 by_cases m:c<Z l
 .obtain⟨g,A1,P,hc,L⟩:=AC p (by simp[Ag]) c m;simp only[lB]at P;obtain⟨rfl,_,rfl⟩:=P;have S:=L c m 0 (by omega);simp[Ag]at S;clear L;have r:Hid (E6 i6 l c x=i6 l[c] x):=by show _=_;unfold E6;rw[dif_pos m]
  have A0:Hid ((l[c].toList==x.toList)=Cm->Ok f (U (V ⟨g,0,Y⟩) (Z l) b) l x a (G3 (U (V ⟨g,0,Y⟩) (Z l) b)) a):=λt=>q (by rw[r.out];exact t)
  have AR:Hid ((l[c].toList==x.toList)=K->Calls prog 214 #[U (V ⟨g,0,Y⟩) (Z l) b,X J c,U (V ⟨a.heap.size,0,Y⟩) 1 1] (a.alloc (Dj #[O x] 170)) λe i=>Ok f (U (V ⟨g,0,Y⟩) (Z l) b) l x a e i):=λt=>o (by rw[r.out];exact t)
  clear r G u o q;go_wp2_with fail
  .go_ret;exact A0 (by assumption)
  .refine(AR (by assumption)).mono ?_;intro e i D;obtain⟨E,z,A,rfl,j⟩:=D;have F:=Ab j;clear j;go_wp2;go_ret;exact⟨E,z,A,rfl,F⟩
 .have W:=Ab (o (by unfold E6;rw[dif_neg m]));clear G u o q;go_wp2_with fail
  refine W.mono ?_;intro e i D;obtain⟨E,z,A,rfl,j⟩:=D;have F:=Ab j;clear j;go_wp2;go_ret;exact⟨E,z,A,rfl,F⟩
