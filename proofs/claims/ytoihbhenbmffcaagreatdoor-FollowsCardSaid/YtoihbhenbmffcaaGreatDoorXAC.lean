import Derived.Shelf.Spec.SlicesInsertGrow
import Derived.Test.YtoihbhenbmffcaaGreatDoorXAA
set_option linter.all false
set_option maxHeartbeats 0
open List renaming length->Z,toArray->ml
open Option renaming none->Y,some->V
open Go.Value renaming slice->U,int->X,string->O,ownBlock->pI
open Bool renaming false->K,true->jj
open Go.IntKind renaming i64->J,i32->pD
open Go.Obj renaming cells->j3
open Go.Ending renaming returned->oa
open Or renaming inl->oi,inr->oj
open Go renaming World->py,Value->p5
open Go.World renaming cell?->p8,ownsRow->p9
namespace Go.Proofs.YtoihbhenbmffcaaGreatDoor
open Go.RowKit Go.Proofs.Tryz
variable{w:py}{b n i m k j:Nat}{y:pM p5}{T:TypeId}{z:p5}{e:pM zA}{s:zA}{I:Int}
theorem Tryz.zw:(Tryz.prog.info? 21).map (λi=>(i.zero,i.size,i.bytes))=V (V (X pD 0),1,4):=by kernel_rfl
def Ps:pM p5->Nat->pM p5->pM p5
 |cs,_,[]=>cs
 |cs,o,v::r=>Ps (cs.set o v) (o+1) r
def Ir:∀(b a:pM p5) (o:Nat),o+Z b<=Z a->Ps a o b=a.take o++b++a.drop (o+Z b)
 |[],a,o,h=>by simp[Ps]
 |v::r,a,o,h=>by
  simp only[lj]at h;rw[Ps,Ir r (a.set o v) (o+1) (by simp;omega)];have c:(a.set o v).take (o+1)=a.take o++[v]:=by
   rw[kW (by simp;omega),List.take_set_of_le (by omega)];simp
  have d:(a.set o v).drop (o+1+Z r)=a.drop (o+(Z r+1)):=by
   rw[List.drop_set_of_lt (by omega)]
   congr 1
   omega
  rw[c,d];simp
def DY:∀(b a:pM p5) (o:Nat),Z (Ps a o b)=Z a
 |[],a,o=>rfl
 |v::r,a,o=>by rw[Ps,DY r];simp
def AF.setCells{b:Nat}{t:TypeId}:∀(c:pM p5) {w:py} {a:pM p5} (o:Nat),AF w b a t->AF (w.setCells b o c) b (Ps a o c) t
 |[],_,_,_,h=>h
 |v::r,w,a,o,h=>by
  rw[World.setCells,Ps];exact AF.setCells r (o+1) (h.set o v)
def Ac.setCells{M:pM Nat}{a:py}{b:Nat}(c:b∈M\/a.heap.size<=b):∀(d:pM p5) {w:py} (o:Nat),Ac M a w->Ac M a (w.setCells b o d)
 |[],_,_,h=>h
 |v::r,w,o,h=>by
  rw[World.setCells];exact Ac.setCells c r (o+1) (h.setCell (p:=⟨b,o,Y⟩) c v)
def AF.shape{w:py}{b:Nat}{a:pM p5}{t:TypeId}(h:AF w b a t):w.shape? b=V (t,Z a):=by
 unfold AF at h;simp[World.shape?,h]
def AF.some(h:AF w b y T)(k:Nat)(a:k<Z y):(p8 w ⟨b,k,Y⟩).isSome=jj:=by
 rw[h.cell,lc a];rfl
def ed{b a:pM p5}(j:b.take n=a)(f:Z a=n)(h:i<=n)(k:n+1<=Z b)(x:p5):
  (Ps (Ps b (i+1) (a.drop i)) i [x]).take (n+1)=a.take i++x::a.drop i:=by
 have c:Z (a.drop i)=n-i:=by rw[mf,f]
 rw[Ir [x] _ i (by rw[DY];simp;omega),Ir (a.drop i) b (i+1) (by rw[c];omega)];have d:(b.take (i+1)++a.drop i++b.drop (i+1+Z (a.drop i))).take i=a.take i:=by
  rw[mo,mn (by simp;omega),oE,nU (by omega),<-j,oE,nU h]
 have g:(b.take (i+1)++a.drop i++b.drop (i+1+Z (a.drop i))).drop (i+[x].length)=a.drop i++b.drop (i+1+Z (a.drop i)):=by
  rw[mo,List.drop_left' (by simp;omega)]
 rw[d,g,mo,List.take_append,kX (by simp;omega)]
 congr 1
 have e:n+1-Z (a.take i)=(n-i)+1:=by simp;omega
 rw[e];simp only[pr,mV,mw,nQ];rw[mn (by omega),kX (by omega)]
theorem Tryz.zi:(Tryz.prog.info? 170).map (λi=>(i.zero,i.size,i.bytes))=V (V (O ⟨#[]⟩),1,16):=by kernel_rfl
def SE(te sl fn ov bz:Nat)(z:p5):Prop:=
 (te=9/\sl=41/\fn=218/\ov=231/\bz=16/\z=O ⟨#[]⟩)\/(te=21/\sl=234/\fn=220/\ov=233/\bz=4/\z=X pD 0)\/(te=170/\sl=102/\fn=214/\ov=229/\bz=16/\z=O ⟨#[]⟩)
def SE.info{a c d e b:Nat}{z:p5}(h:SE a c d e b z):(prog.info? a).map (λi=>(i.zero,i.size,i.bytes))=V (V z,1,b):=by
 rcases h with⟨rfl,rfl,rfl,rfl,rfl,rfl⟩|⟨rfl,rfl,rfl,rfl,rfl,rfl⟩|⟨rfl,rfl,rfl,rfl,rfl,rfl⟩
 .exact Tryz.zo
 .exact Tryz.zw
 .exact Tryz.zi
def SE.ul(h:SE n m k i j z):prog.underlying m=V (.slice n):=by
 rcases h with⟨rfl,rfl,rfl,rfl,rfl,rfl⟩|⟨rfl,rfl,rfl,rfl,rfl,rfl⟩|⟨rfl,rfl,rfl,rfl,rfl,rfl⟩
 .exact underlying41
 .exact underlying234
 .exact underlying102
theorem SE.over(h:SE n m k i j z)(a:Array p5)(w:py):(callFunc i a).run prog w=((Extern.SlicesOverlaps.overlaps #[m,m] #[4] a).run prog w).andThen λv b=> .ok (.value v) b:=by
 rcases h with⟨rfl,rfl,rfl,rfl,rfl,rfl⟩|⟨rfl,rfl,rfl,rfl,rfl,rfl⟩|⟨rfl,rfl,rfl,rfl,rfl,rfl⟩
 .exact oT func231 (by kernel_rfl) (by kernel_rfl) (by kernel_rfl) (by kernel_rfl) _ _
 .exact oT func233 (by kernel_rfl) (by kernel_rfl) (by kernel_rfl) (by kernel_rfl) _ _
 .exact oT func229 (by kernel_rfl) (by kernel_rfl) (by kernel_rfl) (by kernel_rfl) _ _
def SE.one(h:SE n m k i j z):z.cells=#[z]:=by
 rcases h with⟨_,_,_,_,_,rfl⟩|⟨_,_,_,_,_,rfl⟩|⟨_,_,_,_,_,rfl⟩<;>rfl
def SE.small(h:SE n m k i j z):j<=16:=by rcases h with h|h|h<;>omega
set_option maxRecDepth 100000
theorem cU{b o F H bz:Nat}(p:SE b o F H bz z)(g n c i f:Nat)(d t:pM p5)(k:p5)(w:py)(hi:i<n)(BS:n+1<=c)(BA:c<=9223372036854775807)(D:f≠g)
  (A1:Z d=n) (q:AF w g t b) (AH:Z t=c) (S:t.take n=d) (s:AF w f [k] b) (AB:∀v∈d,v.oneCell'=jj) (T:k.oneCell'=jj):
  Calls prog F #[U (V ⟨g,0,Y⟩) n c,X J i,U (V ⟨f,0,Y⟩) 1 1] w λe Q=>
   e=oa (U (V ⟨g,0,Y⟩) (n+1) c)/\Q=(w.drew.setCells g (i+1) (d.drop i)).setCells g i [k]:=by
 obtain⟨i0,P,Bx,I,ES⟩:=mg p.info;have E:(prog.info? b).map (·.size)=V 1:=by rw[P];simp[I]
 have A2:∀w,(Go.sizeOf b).run prog w=.ok 1 w:=λw=>by simp[sizeOf,typeInfo,P,I]
 have L:∀j,j<n+1->(p8 w ⟨g,j,Y⟩).isSome=jj:=λj a=>q.some j (by omega)
 have N:∀j,w.frozen? ⟨g,j,Y⟩=K:=λj=>q.frozen j
 have G:∀j v,d[j]?=V v->p8 w ⟨g,j,Y⟩=V v:=λj v a=>by
  rw[q.cell];rw[<-S,m6]at a;split at a
  .exact a
  .cases a
 have W:∀y x,(callFunc H #[U (V ⟨f,0,Y⟩) 1 1,U (V ⟨g,i+1,Y⟩) y x]).run prog w=.ok (.value (.bool K)) w:=λy x=>by
  rw[p.over,Lib.run_overlaps_apart w o 4 b p.ul 1 A2 ⟨f,0,Y⟩ ⟨g,i+1,Y⟩ 1 1 y x D b b 1 c (by simpa using s.shape) (by rw[<-AH];exact q.shape) (by omega) (s.frozen 0) (s.frozen 1)];rfl
 have AT:Z (d.drop i)=n-i:=by rw[mf,A1]
 have C:∀m h A,(Builtin.copy_ #[o,o] m #[U (V ⟨g,i+1,Y⟩) (n-i) h,U (V ⟨g,i,Y⟩) (n+1-i) A]).run prog w.drew=.ok (goInt (Z (d.drop i))) (w.drew.setCells g (i+1) (d.drop i)):=λm h A=>
  run_copy_cells w.drew _ _ m b g (i+1) (n-i) h ⟨g,i,Y⟩ (n+1-i) A (d.drop i) p.ul E (by rw[AT];simp only[pj];split<;>omega)
   (λj v a=>by rw[nu];exact G (i+j) v (by rwa [oI]at a))
   (λj a=>L _ (by omega)) (λj a=>N _) (λv hv=>AB v (nX hv))
 obtain⟨l,r⟩:∃l,l=w.drew.setCells g (i+1) (d.drop i):=⟨_,rfl⟩;have u:AF l g (Ps t (i+1) (d.drop i)) b:=by rw[r];exact q.drew.setCells _ _
 have B:AF l f [k] b:=by rw[r];exact s.drew.kept (Ac.setCells (M:=[g]) (by simp) _ _ (pO _ _)) (by simpa using D)
 have R:∀m h,(Builtin.copy_ #[o,o] m #[U (V ⟨g,i,Y⟩) (n+1-i) h,U (V ⟨f,0,Y⟩) 1 1]).run prog l=.ok (goInt [k].length) (l.setCells g i [k]):=λm h=>
  run_copy_cells l _ _ m b g i (n+1-i) h ⟨f,0,Y⟩ 1 1 [k] p.ul E (by simp only[pj];split<;>simp<;>omega)
   (λj v a=>by rw[nu,me,B.cell];exact a)
   (λj a=>u.some _ (by rw[DY];simp at a;omega)) (λj a=>u.frozen _) (by simpa using T)
 rw[<-r]at C;have CC:IntKind.i64.wrap ((i:Int)+1)=(i:Int)+1:=by rw[nB];omega
 have B0:¬((i:Int)=(n:Int)):=by omega
 have EM:(0:Int)<=(i:Int)+1:=by omega
 have B9:i<=n:=by omega
 have BT:((i:Int)+1).toNat=i+1:=by omega
 have CL:¬(c=i+1):=by omega
 have EX:(i:Int)<=(n:Int)+1:=by omega
 have EK:¬(c=i):=by omega
 have mixed:prog.follows Departure.mixedOrders=jj:=by kernel_rfl
 have AO:=Ab r;clear q s u B G L N r;rcases p with⟨rfl,rfl,rfl,rfl,rfl,rfl⟩|⟨rfl,rfl,rfl,rfl,rfl,rfl⟩|⟨rfl,rfl,rfl,rfl,rfl,rfl⟩
 case' inl=>go_enter func218,ntmps218
 case' inr.inl=>go_enter func220,ntmps220
 case' inr.inr=>go_enter func214,ntmps214
 all_goals
  go_wp2_with (simp only[W])
  go_region_law_o (refine step_copy_runI rfl _ _ _ _ rfl _ _ (by simp[Act.eval,Act.put]) (by simp[Act.eval,Act.put]) (C _ _ _) ?_)
  go_wp2_with (at_builtin;refine wpList_copy_runI _ rfl _ _ _ _ rfl _ _ rfl rfl (R _ _) ?_)
  go_ret;exact⟨rfl,by rw[Aa AO]⟩
theorem dV{a p fn ov bz:Nat}(m:SE a p fn ov bz z)(g n c i q:Nat)(k y:pM p5)(f:p5)(w:py)(hi:i<n)(HB:n<=c)(CL:c<n+1)(HF:n<=1000000)
  (FF:Z k=n) (B:AF w g y a) (Ha:Z y=c) (P:y.take n=k) (I:AF w q [f] a) (EX:∀v∈k,v.oneCell'=jj) (B9:f.oneCell'=jj):
  Calls prog fn #[U (V ⟨g,0,Y⟩) n c,X J i,U (V ⟨q,0,Y⟩) 1 1] w λe w'=>
   ∃(b:pM p5) (G:Nat),Z b=G/\n+1<=G/\G<=maxLen/\b.take i=k.take i/\e=oa (U (V ⟨w.heap.size,0,Y⟩) (n+1) G)/\
   w'=(((w.alloc (j3 (ml b) a)).drew.setCells w.heap.size i [f]).drew).setCells w.heap.size (i+1) (k.drop i):=by
 obtain⟨i0,Bx,B0,A0,A1⟩:=mg m.info;have mixed:prog.follows Departure.mixedOrders=jj:=by kernel_rfl
 have Ax:(prog.info? a).map (·.size)=V 1:=by rw[Bx];simp[A0]
 have FP:=B.lt;have FO:=I.lt;have R:(n:Int)+1-(i:Int)=((n+1-i:Nat):Int):=by omega
 have E:i+(n+1-i)=n+1:=by omega
 have AT:∀j v,k[j]?=V v->p8 w ⟨g,j,Y⟩=V v:=λj v d=>by
  rw[B.cell];rw[<-P,m6]at d;split at d
  .exact d
  .cases d
 have T:(Builtin.firstCells i0.size i (U (V ⟨g,0,Y⟩) i c)).run prog w.drew=.ok (ml (k.take i)) w.drew:=by
  rw[A0];exact run_firstCells_some w.drew 1 i ⟨g,0,Y⟩ i c (k.take i) (by rw[l9];omega) (λj v d=>by
   rw[nu,me]
   rw[m6]at d
   split at d
   .exact AT j v d
   .cases d)
 have u:∀l,(Builtin.append_ #[p,3] l #[U (V ⟨g,0,Y⟩) i c,X J ((n:Int)+1-(i:Int))]).run prog w=
   .ok (U (V ⟨w.heap.size,0,Y⟩) (n+1) (grownCap w (n+1) c a)) (w.drew.alloc (j3 (ml (k.take i)++Builtin.zeroCells z.cells (n+1-i)++Builtin.zeroCells z.cells (grownCap w (n+1) c a-(n+1))) a)):=λl=>by
  have h:=Lib.run_append_grow_zeros w p 3 l a i0 _ J J m.ul underlying3 Bx B0 (V ⟨g,0,Y⟩) i c (k.take i) T (n+1-i) (by omega) (by omega) (by omega) (by omega) (by have:=m.small;rw[A1];exact mp (Nat.mul_le_mul_left _ this) (by omega)) (by have:=m.small;rw[A1,E];exact growslice_fits CL (mp (Nat.mul_le_mul_left _ this) (by omega)));rw[E]at h;rw[R];exact h
 obtain⟨G,A⟩:∃G,G=grownCap w (n+1) c a:=⟨_,rfl⟩;obtain⟨b,t⟩:∃b:pM p5,ml b=ml (k.take i)++Builtin.zeroCells z.cells (n+1-i)++Builtin.zeroCells z.cells (G-(n+1)):=⟨_,Array.toArray_toList⟩;rw[<-A]at u;rw[<-t]at u;have EY:n+1<=G:=by rw[A];exact grownCap_ge w _ _ _
 have D:G<=maxLen:=by rw[A];exact grownCap_le_maxLen w (n+1) c a (by unfold maxLen;omega)
 have BA:Z b=G:=by
  have:=congrArg Array.size t;simp[Builtin.zeroCells,m.one]at this;omega
 have AO:b.take i=k.take i:=by
  have h:=congrArg Array.toList t;simp only[Array.toList_append,mo]at h;rw[h,mn (by simp;omega)];simp[oE]
 obtain⟨N,hN⟩:=pN w.heap.size;have s:AF (w.drew.alloc (j3 (ml b) a)) N b a:=by rw[<-hN];exact pP w.drew b a
 have S:AF (w.drew.alloc (j3 (ml b) a)) q [f] a:=I.drew.alloc _;have EK:∀(W:py),(∀x,p8 W x=p8 (w.drew.alloc (j3 (ml b) a)) x)->(∀x,W.frozen? x=(w.drew.alloc (j3 (ml b) a)).frozen? x)->∀l o,(Builtin.copy_ #[p,p] l #[U (V ⟨N,i,Y⟩) (n+1-i) o,U (V ⟨q,0,Y⟩) 1 1]).run prog W=.ok (goInt [f].length) (W.setCells N i [f]):=λW r F l o=>
  run_copy_cells W _ _ l a N i (n+1-i) o ⟨q,0,Y⟩ 1 1 [f] m.ul Ax (by simp only[pj];split<;>simp<;>omega)
   (λj v d=>by rw[nu,me,r,S.cell];exact d)
   (λj d=>by rw[r];exact s.some _ (by simp at d;omega)) (λj d=>by rw[F];exact s.frozen _) (by simpa using B9)
 have C:AF ((w.drew.alloc (j3 (ml b) a)).setCells N i [f]) N (Ps b i [f]) a:=s.setCells _ _;have Q:AF ((w.drew.alloc (j3 (ml b) a)).setCells N i [f]) g y a:=(B.drew.alloc _).kept (Ac.setCells (M:=[N]) (by simp) _ _ (pO _ _)) (by simp;omega);have FA:Z (k.drop i)=n-i:=by rw[mf,FF]
 have L:∀(W:py),(∀x,p8 W x=p8 ((w.drew.alloc (j3 (ml b) a)).setCells N i [f]) x)->(∀x,W.frozen? x=((w.drew.alloc (j3 (ml b) a)).setCells N i [f]).frozen? x)->∀l o H,(Builtin.copy_ #[p,p] l #[U (V ⟨N,i+1,Y⟩) (n-i) o,U (V ⟨g,i,Y⟩) (n-i) H]).run prog W=.ok (goInt (Z (k.drop i))) (W.setCells N (i+1) (k.drop i)):=λW r F l o H=>
  run_copy_cells W _ _ l a N (i+1) (n-i) o ⟨g,i,Y⟩ (n-i) H (k.drop i) m.ul Ax (by rw[FA];simp only[pj];split<;>omega)
   (λj v d=>by
    rw[nu,r,Q.cell]
    rw[oI,<-P,m6]at d
    split at d
    .exact d
    .cases d)
   (λj d=>by rw[r];exact C.some _ (by rw[DY];omega))
   (λj d=>by rw[F];exact C.frozen _) (λv hv=>EX v (nX hv))
 have CC:∀x,p8 ((w.alloc (j3 (ml b) a)).drew) x=p8 (w.drew.alloc (j3 (ml b) a)) x:=λx=>rfl
 have FB:∀x,((w.alloc (j3 (ml b) a)).drew).frozen? x=(w.drew.alloc (j3 (ml b) a)).frozen? x:=λx=>rfl
 have ES:∀x,p8 (((w.alloc (j3 (ml b) a)).drew.setCells N i [f]).drew) x=p8 ((w.drew.alloc (j3 (ml b) a)).setCells N i [f]) x:=λx=>rfl
 have FL:∀x,(((w.alloc (j3 (ml b) a)).drew.setCells N i [f]).drew).frozen? x=((w.drew.alloc (j3 (ml b) a)).setCells N i [f]).frozen? x:=λx=>rfl
 have HD:IntKind.i64.wrap ((i:Int)+1)=(i:Int)+1:=by rw[nB];omega
 have Go:¬((i:Int)=(n:Int)):=by omega
 have HH:(c:Int)<(n:Int)+1:=by omega
 have HJ:(0:Int)<=(i:Int)+1:=by omega
 have HA:i<=n:=by omega
 have FT:((i:Int)+1).toNat=i+1:=by omega
 have HK:(i:Int)<=(n:Int):=by omega
 have HI:¬(G=i):=by omega
 have FW:¬(G=i+1):=by omega
 have HE:¬(c=i):=by omega
 have HC:G<=9223372036854775807:=by unfold maxLen at D;omega
 have BS:=Ab BA;have B2:=Ab AO;have EM:=Ab D;rw[hN]at u⊢;clear R E T t A BA AO D B I s S C Q AT;rcases m with⟨rfl,rfl,rfl,rfl,rfl,rfl⟩|⟨rfl,rfl,rfl,rfl,rfl,rfl⟩|⟨rfl,rfl,rfl,rfl,rfl,rfl⟩
 case' inl=>go_enter func218,ntmps218
 case' inr.inl=>go_enter func220,ntmps220
 case' inr.inr=>go_enter func214,ntmps214
 all_goals
  go_wp2_with (first
   |(at_builtin;refine Lib.wpList_append_run _ rfl _ _ _ _ rfl _ _ rfl rfl _ _ (u _) ?_)
   |(at_builtin;refine wpList_copy_runI _ rfl _ _ _ _ rfl _ _ rfl rfl (EK _ CC FB _ _) ?_)
   |(at_builtin;refine wpList_copy_runI _ rfl _ _ _ _ rfl _ _ rfl rfl (L _ (λ_=>rfl) (λ_=>rfl) _ _ _) ?_))
  go_region_law_o (refine step_copy_runI rfl _ _ _ _ rfl (U (V ⟨N,i+1,Y⟩) (n-i) (G-(i+1))) (U (V ⟨g,i,Y⟩) (n-i) (c-i)) (by simp[Act.eval,Act.put]) (by simp[Act.eval,Act.put]) (L _ ES FL 3 (G-(i+1)) (c-i)) ?_)
  go_wp2;go_ret;exact⟨b,G,BS,EY,EM,B2,rfl,rfl⟩
theorem MS{s sl fn ov bz:Nat}(p:SE s sl fn ov bz z)(r:Option Addr)(d n:Nat)(l:pM p5)(i:Nat)(x:p5)(t m:Nat)(w:py)(q:p9 w t s 1 (U r n d) n l)(f:Z l=n)(EX:n<=1000000)(hi:i<=n)(B:AF w m [x] s)(N:∀v∈l,v.oneCell'=jj)(y:x.oneCell'=jj)(T:(U r n d).ownBlock≠V m)(H:t<=w.heap.size):
  Calls prog fn #[U r n d,X J i,U (V ⟨m,0,Y⟩) 1 1] w λe C=>∃g cp,e=oa (U (V ⟨g,0,Y⟩) (n+1) cp)/\p9 C t s 1 (U (V ⟨g,0,Y⟩) (n+1) cp) (n+1) (F7 l i x)/\Ac (U r n d).ownBlock.toList w C/\((U r n d).ownBlock=V g\/w.heap.size<=g):=by
 have HD:=LG (l:=l) (by omega) x (at_:=i);by_cases HM:i=n
 .subst HM;obtain⟨i0,A1,W,Bx,AH⟩:=mg p.info;have HI:Hid (F7 l i x=l++[x]):=by
   show F7 l i x=l++[x];rw[F7,kX (by omega),lS (by omega)]
  have HV:Hid (∀j u,[x][j]?=V u->p8 w ((⟨m,0,Y⟩:Addr).add j)=V u):=λj u hu=>by rw[nu,me,B.cell];exact hu
  have HL:=Ab q;have A2:=p.ul;have HP:=p.small;have H1:=Ab y;have BA:∀v∈[x],v.oneCell'=jj:=λv hv=>by rw[kY.1 hv];exact y
  have HX:=Ab BA;clear B HD N y BA T;cases r with
  |none=>
   have FL:i=0/\d=0:=by
    rcases q.2 with⟨b,D⟩|⟨g,c,o,b,_⟩
    .simp only[kS]at b;exact⟨D,b.2.2⟩
    .simp at b
   obtain⟨rfl,rfl⟩:=FL;have CL:l=[]:=m4.1 f;subst CL;clear q f;rcases p with⟨rfl,rfl,rfl,rfl,rfl,rfl⟩|⟨rfl,rfl,rfl,rfl,rfl,rfl⟩|⟨rfl,rfl,rfl,rfl,rfl,rfl⟩
   case' inl=>go_enter func218,ntmps218
   case' inr.inl=>go_enter func220,ntmps220
   case' inr.inr=>go_enter func214,ntmps214
   all_goals
    go_wp2_with (at_builtin;refine lG _ rfl _ _ _ rfl t _ i0 _ 1 _ A2 A1 W Bx AH rfl (by omega) (U Y 0 0) 0 [] rfl HL ⟨m,0,Y⟩ 1 1 [x] rfl rfl HV HX (by omega) (by unfold maxLen;omega) (by omega) H _ rfl ?_;intro R I w9 P L E FB)
    go_ret;refine⟨R,I,rfl,P,(pO _ w).grown L (λk F=>oi (by rw[nC];exact F)),?_⟩;rcases E with h|h
    .exact oi h
    .exact oj (by omega)
  |some a=>
   obtain⟨ab,ao,E0⟩:=a;have HK:ao=0/\E0=Y:=by
    rcases q.2 with⟨b,D⟩|⟨g,c,o,b,_⟩
    .simp at b
    .simp only[kS,ld,lW]at b;exact b.1.2
   obtain⟨rfl,rfl⟩:=HK;have EM:i<=d/\d<=maxLen:=by
    rcases q.2 with⟨b,D⟩|⟨g,c,o,b,_,_,h1,h2,_⟩
    .simp at b
    .simp only[kS]at b;rw[b.2.2];exact⟨h1,h2⟩
   obtain⟨B9,A⟩:=EM;unfold maxLen at A;clear q;rcases p with⟨rfl,rfl,rfl,rfl,rfl,rfl⟩|⟨rfl,rfl,rfl,rfl,rfl,rfl⟩|⟨rfl,rfl,rfl,rfl,rfl,rfl⟩
   case' inl=>go_enter func218,ntmps218
   case' inr.inl=>go_enter func220,ntmps220
   case' inr.inr=>go_enter func214,ntmps214
   all_goals
    go_wp2_with (at_builtin;refine lG _ rfl _ _ _ rfl t _ i0 _ 1 _ A2 A1 W Bx AH rfl (by omega) (U (V ⟨ab,0,Y⟩) i d) i l rfl HL ⟨m,0,Y⟩ 1 1 [x] rfl rfl HV HX (by omega) (by unfold maxLen;omega) (by omega) H _ rfl ?_;intro R I w9 P L E FB)
    all_goals
     go_ret;rw[Aa HI];refine⟨R,I,rfl,P,(pO _ w).grown L (λk F=>oi (by rw[nC];exact F)),?_⟩;rcases E with h|h
     .exact oi h
     .exact oj (by omega)
 .have B0:i<n:=by omega
  rcases q.2 with⟨b,D⟩|⟨g,c,o,b,hb,FP,B9,A,FC,HF⟩
  .omega
  .simp only[kS]at b;obtain⟨rfl,_,rfl⟩:=b;(have HG:m≠g:=λe=>T (by simp[pI,e]));(have M:AF w g o.toList s:=by unfold AF;simpa using FP);(have BS:Z o.toList=d:=by simpa using FC);(have S:o.toList.take n=l:=by simpa using HF);by_cases Ax:n+1<=d
   .refine(cU p g n d i m l o.toList x w B0 Ax (by unfold maxLen at A;omega) HG f M BS S B N y).mono ?_;rintro e C ⟨rfl,rfl⟩;have Q:=(M.drew.setCells (l.drop i) (i+1)).setCells [x] i;refine⟨g,d,rfl,⟨?_,oj ⟨g,d,_,rfl,hb,Q,Ax,A,?_,?_⟩⟩,?_,oi rfl⟩
    .omega
    .simp only[mE,DY];omega
    .simp only[Nat.mul_one];exact ed S f hi (by omega) _
    .exact Ac.setCells (by simp[pI]) _ _ (Ac.setCells (by simp[pI]) _ _ (pO _ w).drew)
   .refine(dV p g n d i m l o.toList x w B0 B9 (by omega) EX f M BS S B N y).mono ?_;rintro e C ⟨AT,G,HQ,FF,FW,EY,rfl,rfl⟩;have Q:=((pP w AT s).drew.setCells [x] i).drew.setCells (l.drop i) (i+1);(have hd:Z (l.drop i)=n-i:=by rw[mf,f]);refine⟨w.heap.size,G,rfl,⟨?_,oj ⟨w.heap.size,G,_,rfl,H,Q,FF,FW,?_,?_⟩⟩,?_,oj (lC _)⟩
    .omega
    .simp only[mE,DY];omega
    .simp only[Nat.mul_one];rw[Ir _ _ _ (by rw[DY,hd];omega),Ir _ _ _ (by simp;omega),EY];have e1:(List.take i l++[x]++List.drop (i+[x].length) AT).take (i+1)=List.take i l++[x]:=by
      rw[mn (by simp only[lu,l9,lj,lO,mf,f];omega),kX (by simp only[lu,l9,lj,lO,mf,f];omega)]
     rw[e1,mn (by simp only[lu,l9,lj,lO,mf,f];omega),kX (by simp only[lu,l9,lj,lO,mf,f];omega)];simp[F7]
    .exact Ac.setCells (oj (lC _)) _ _ (Ac.setCells (oj (lC _)) _ _ ((pO _ w).alloc _).drew).drew
def XP(l:pM zA):l.flatMap Ah=l.map (O):=by
 induction l with
 |nil=>rfl
 |cons a l ih=>rw[lF,lE,ih];rfl
def jZ(l:pM zA):∀v∈l.flatMap Ah,v.oneCell'=jj:=by
 intro v b;rw[XP]at b;obtain⟨a,_,rfl⟩:=lk.1 b;rfl
def Ul(l:pM zA)(i:Nat)(x:zA):(F7 l i x).flatMap Ah=(l.flatMap Ah).take i++ O x::(l.flatMap Ah).drop i:=by
 rw[XP,XP,F7,lV,lE,List.map_take,List.map_drop]
def VW(b:Option Addr)(a:Nat)(l:pM zA)(i:Nat)(x:zA)(d c:Nat)(w:py)(k:p9 w d 9 1 (U b (Z l) a) (Z l) (l.flatMap Ah))(o:Z l<=1000000)(p:i<=Z l)(n:AF w c [O x] 9)(m:(U b (Z l) a).ownBlock≠V c)(j:d<=w.heap.size):
  Calls prog 218 #[U b (Z l) a,X J i,U (V ⟨c,0,Y⟩) 1 1] w λe f=>∃g h,e=oa (U (V ⟨g,0,Y⟩) (Z l+1) h)/\p9 f d 9 1 (U (V ⟨g,0,Y⟩) (Z l+1) h) (Z l+1) ((F7 l i x).flatMap Ah)/\Ac (U b (Z l) a).ownBlock.toList w f/\((U b (Z l) a).ownBlock=V g\/w.heap.size<=g):=by
 rw[Ul];exact MS (oi ⟨rfl,rfl,rfl,rfl,rfl,rfl⟩) b a (Z l) (l.flatMap Ah) i (O x) d c w k (by rw[XP];simp) o p n (jZ l) rfl m j
def aq(l:pM zA)(x:zA):Bool:=l.any λy=>iK y x
def Lm(l:pM zA)(x:zA):aq l x=jj↔x∈l:=by
 unfold aq;rw[mH];constructor
 .rintro ⟨y,a,h⟩;rw[<-(Gg.eqv y x).1 h];exact a
 .intro h;exact⟨x,h,(Gg.eqv x x).2 rfl⟩
def Dr.inS(a:C9 FQ e)(h:Dr FQ e 0 s n):ET iK e n s=aq e s:=by
 rw[mN,h.has Gg a,Lm]
theorem T5(h:Option Addr)(f:Nat)(l:pM zA)(x:zA)(m:Nat)(w:py)(i:p9 w m 9 1 (U h (Z l) f) (Z l) (l.flatMap Ah))(s:Z l<=1000000)(j:C9 FQ l):
  Calls prog 121 #[U h (Z l) f,O x] w λe k=>e=oa (.bool (aq l x))/\k=w:=by
 have o:=Ab (Tf (U h (Z l) f) l 0 x m w i s (lz _) j);have t:=Ab j;have u:=Ab i;clear i j;go_enter func121,ntmps121;go_wp2_with fail
 refine o.mono ?_;rintro e k ⟨b,rfl,c,rfl⟩;have q:=Ab (c.inS t);have y:=c.le;clear o c;by_cases a:b<Z l
 .obtain⟨g,v,p,z,n⟩:=AC u (by simp[Ah]) b a;simp only[kS]at p;obtain⟨rfl,_,rfl⟩:=p;have r:=n b a 0 (by omega);simp[Ah]at r;clear n;have d:Hid (aq l x=iK l[b] x):=by show _=_;rw[<-Aa q];unfold ET;rw[dif_pos a]
  go_wp2;go_ret;rw[d.out];exact⟨rfl,rfl⟩
 .have d:Hid (aq l x=K):=by show _=_;rw[<-Aa q];unfold ET;rw[dif_neg a]
  go_wp2;go_ret;rw[d.out];exact⟨rfl,rfl⟩
def Om(base:Nat)(lv:p5)(l:pM zA)(x:zA)(w:py)(e:Ending)(w':py):Prop:=
 ∃(l':pM zA) (ad':Option Addr) (cp':Nat),e=oa (U ad' (Z l') cp')/\C9 FQ l'/\(∀y,y∈l'↔y=x\/y∈l)/\Z l<=Z l'/\Z l'<=Z l+1/\
  p9 w' base 9 1 (U ad' (Z l') cp') (Z l') (l'.flatMap Ah)/\Ac lv.ownBlock.toList w w'/\(∀k,(U ad' (Z l') cp').ownBlock=V k->lv.ownBlock=V k\/w.heap.size<=k)
theorem eD(d:Option Addr)(b:Nat)(l:pM zA)(x:zA)(f:Nat)(w:py)(B:p9 w f 9 1 (U d (Z l) b) (Z l) (l.flatMap Ah))(I:Z l<=1000000)(C:C9 FQ l)(Bx:f<=w.heap.size):
  Calls prog 194 #[U d (Z l) b,O x] w λe a=>Om f (U d (Z l) b) l x w e a:=by
 have N:=Ab (Tf (U d (Z l) b) l 0 x f w B I (lz _) C);have v:=Ab C;have p:=Ab B;clear B C;go_enter func194,ntmps194;go_wp2_with fail
 refine N.mono ?_;rintro e a ⟨c,rfl,n,rfl⟩;have G:=Ab (n.has Gg v);have u:=Ab n;have Q:=n.le;clear N n;have o:Hid (ET iK l c x=K->Calls prog 218 #[U d (Z l) b,X J c,U (V ⟨a.heap.size,0,Y⟩) 1 1] (a.alloc (j3 #[O x] 9)) λe i=>Om f (U d (Z l) b) l x a e i):=by
  intro R;have hn:AF (a.alloc (j3 [O x].toArray 9)) a.heap.size [O x] 9:=pP a [O x] 9;refine(VW d b l c x f a.heap.size _ (lg p _) I Q hn (λe=>by have:=(p.lt _ e).2;omega) (by simp;omega)).mono ?_;rintro e i ⟨g,cp,rfl,T,s,ha⟩;have M:=LG (x:=x) Q;refine⟨F7 l c x,V ⟨g,0,Y⟩,cp,by rw[M],u.zM Gg v R,λy=>O3 x y,by omega,by omega,by rw[M];exact T,((pO _ a).alloc _).trans s,?_⟩;intro k H;simp only[pI,ld]at H;subst H;rcases ha with h|h
  .exact oi h
  .exact oj (by simp at h;omega)
 have q:Hid (ET iK l c x=jj->Om f (U d (Z l) b) l x a (oa (U d (Z l) b)) a):=by
  intro AH;have hx:=G.1 AH;exact⟨l,d,b,rfl,v,λy=>⟨oj,λh=>by rcases h with rfl|h;exact hx;exact h⟩,by omega,by omega,p,pO _ _,λk s=>oi s⟩
 by_cases m:c<Z l
 .obtain⟨g,A2,P,hc,L⟩:=AC p (by simp[Ah]) c m;simp only[kS]at P;obtain⟨rfl,_,rfl⟩:=P;have S:=L c m 0 (by omega);simp[Ah]at S;clear L;have r:Hid (ET iK l c x=iK l[c] x):=by show _=_;unfold ET;rw[dif_pos m]
  have A1:Hid ((l[c].toList==x.toList)=jj->Om f (U (V ⟨g,0,Y⟩) (Z l) b) l x a (oa (U (V ⟨g,0,Y⟩) (Z l) b)) a):=λt=>q (by rw[r.out];exact t)
  have AT:Hid ((l[c].toList==x.toList)=K->Calls prog 218 #[U (V ⟨g,0,Y⟩) (Z l) b,X J c,U (V ⟨a.heap.size,0,Y⟩) 1 1] (a.alloc (j3 #[O x] 9)) λe i=>Om f (U (V ⟨g,0,Y⟩) (Z l) b) l x a e i):=λt=>o (by rw[r.out];exact t)
  clear r G u o q;go_wp2_with fail
  .go_ret;exact A1 (by assumption)
  .refine(AT (by assumption)).mono ?_;intro e i D;obtain⟨E,z,A,rfl,j⟩:=D;have F:=Ab j;clear j;go_wp2;go_ret;exact⟨E,z,A,rfl,F⟩
 .have W:=Ab (o (by unfold ET;rw[dif_neg m]));clear G u o q;go_wp2_with fail
  refine W.mono ?_;intro e i D;obtain⟨E,z,A,rfl,j⟩:=D;have F:=Ab j;clear j;go_wp2;go_ret;exact⟨E,z,A,rfl,F⟩
def dj(l:pM Int):l.flatMap AU=l.map (X pD):=by
 induction l with
 |nil=>rfl
 |cons a l ih=>rw[lF,lE,ih];rfl
def kp(l:pM Int):∀v∈l.flatMap AU,v.oneCell'=jj:=by
 intro v b;rw[dj]at b;obtain⟨a,_,rfl⟩:=lk.1 b;rfl
def cO(l:pM Int)(i:Nat)(x:Int):(F7 l i x).flatMap AU=(l.flatMap AU).take i++ X pD x::(l.flatMap AU).drop i:=by
 rw[dj,dj,F7,lV,lE,List.map_take,List.map_drop]
def VN(b:Option Addr)(a:Nat)(l:pM Int)(i:Nat)(x:Int)(d c:Nat)(w:py)(k:p9 w d 21 1 (U b (Z l) a) (Z l) (l.flatMap AU))(o:Z l<=1000000)(p:i<=Z l)(n:AF w c [X pD x] 21)(m:(U b (Z l) a).ownBlock≠V c)(j:d<=w.heap.size):
  Calls prog 220 #[U b (Z l) a,X J i,U (V ⟨c,0,Y⟩) 1 1] w λe f=>∃g h,e=oa (U (V ⟨g,0,Y⟩) (Z l+1) h)/\p9 f d 21 1 (U (V ⟨g,0,Y⟩) (Z l+1) h) (Z l+1) ((F7 l i x).flatMap AU)/\Ac (U b (Z l) a).ownBlock.toList w f/\((U b (Z l) a).ownBlock=V g\/w.heap.size<=g):=by
 rw[cO];exact MS (oj (oi ⟨rfl,rfl,rfl,rfl,rfl,rfl⟩)) b a (Z l) (l.flatMap AU) i (X pD x) d c w k (by rw[dj];simp) o p n (kp l) rfl m j
def KQ(l:pM Int)(x:Int):Bool:=l.any λy=>jh y x
def RD(l:pM Int)(x:Int):KQ l x=jj↔x∈l:=by
 unfold KQ;rw[mH];constructor
 .rintro ⟨y,a,h⟩;rw[<-(Sq.eqv y x).1 h];exact a
 .intro h;exact⟨x,h,(Sq.eqv x x).2 rfl⟩
def Dr.inI{l:pM Int}(a:C9 Pn l)(h:Dr Pn l 0 I n):ET jh l n I=KQ l I:=by
 rw[mN,h.has Sq a,RD]
theorem cI(h:Option Addr)(f:Nat)(l:pM Int)(x:Int)(m:Nat)(w:py)(i:p9 w m 21 1 (U h (Z l) f) (Z l) (l.flatMap AU))(s:Z l<=1000000)(j:C9 Pn l):
  Calls prog 201 #[U h (Z l) f,X pD x] w λe k=>e=oa (.bool (KQ l x))/\k=w:=by
 have o:=Ab (Tg (U h (Z l) f) l 0 x m w i s (lz _) j);have t:=Ab j;have u:=Ab i;clear i j;go_enter func201,ntmps201;go_wp2_with fail
 refine o.mono ?_;rintro e k ⟨b,rfl,c,rfl⟩;have q:=Ab (c.inI t);have y:=c.le;clear o c;by_cases a:b<Z l
 .obtain⟨g,v,p,z,n⟩:=AC u (by simp[AU]) b a;simp only[kS]at p;obtain⟨rfl,_,rfl⟩:=p;have r:=n b a 0 (by omega);simp[AU]at r;clear n;have d:Hid (KQ l x=jh l[b] x):=by show _=_;rw[<-Aa q];unfold ET;rw[dif_pos a]
  go_wp2;go_ret;rw[d.out];exact⟨rfl,rfl⟩
 .have d:Hid (KQ l x=K):=by show _=_;rw[<-Aa q];unfold ET;rw[dif_neg a]
  go_wp2;go_ret;rw[d.out];exact⟨rfl,rfl⟩
def U7(base:Nat)(lv:p5)(l:pM Int)(x:Int)(w:py)(e:Ending)(w':py):Prop:=
 ∃(l':pM Int) (ad':Option Addr) (cp':Nat),e=oa (U ad' (Z l') cp')/\C9 Pn l'/\(∀y,y∈l'↔y=x\/y∈l)/\Z l<=Z l'/\Z l'<=Z l+1/\
  p9 w' base 21 1 (U ad' (Z l') cp') (Z l') (l'.flatMap AU)/\Ac lv.ownBlock.toList w w'/\(∀k,(U ad' (Z l') cp').ownBlock=V k->lv.ownBlock=V k\/w.heap.size<=k)
theorem dF(d:Option Addr)(c:Nat)(l:pM Int)(x:Int)(f:Nat)(w:py)(C:p9 w f 21 1 (U d (Z l) c) (Z l) (l.flatMap AU))(I:Z l<=1000000)(D:C9 Pn l)(A1:f<=w.heap.size):
  Calls prog 202 #[U d (Z l) c,X pD x] w λe a=>U7 f (U d (Z l) c) l x w e a:=by
 have N:=Ab (Tg (U d (Z l) c) l 0 x f w C I (lz _) D);have z:=Ab D;have s:=Ab C;clear C D;go_enter func202,ntmps202;go_wp2_with fail
 refine N.mono ?_;rintro e a ⟨b,rfl,o,rfl⟩;have u:=Ab (o.has Sq z);have r:=Ab o;have Q:=o.le;clear N o;have j:Hid (ET jh l b x=K->Calls prog 220 #[U d (Z l) c,X J b,U (V ⟨a.heap.size,0,Y⟩) 1 1] (a.alloc (j3 #[X pD x] 21)) λe t=>U7 f (U d (Z l) c) l x a e t):=by
  intro R;have hn:AF (a.alloc (j3 [X pD x].toArray 21)) a.heap.size [X pD x] 21:=pP a [X pD x] 21;refine(VN d c l b x f a.heap.size _ (lg s _) I Q hn (λe=>by have:=(s.lt _ e).2;omega) (by simp;omega)).mono ?_;rintro e t ⟨g,cp,rfl,T,v,ha⟩;have M:=LG (x:=x) Q;refine⟨F7 l b x,V ⟨g,0,Y⟩,cp,by rw[M],r.zM Sq z R,λy=>O3 x y,by omega,by omega,by rw[M];exact T,((pO _ a).alloc _).trans v,?_⟩;intro k H;simp only[pI,ld]at H;subst H;rcases ha with h|h
  .exact oi h
  .exact oj (by simp at h;omega)
 have p:Hid (ET jh l b x=jj->U7 f (U d (Z l) c) l x a (oa (U d (Z l) c)) a):=by
  intro AB;have W:=u.1 AB;exact⟨l,d,c,rfl,z,λy=>⟨oj,λh=>by rcases h with rfl|h;exact W;exact h⟩,by omega,by omega,s,pO _ _,λk v=>oi v⟩
 by_cases i:b<Z l
 .obtain⟨g,AT,P,hc,L⟩:=AC s (by simp[AU]) b i;simp only[kS]at P;obtain⟨rfl,_,rfl⟩:=P;have S:=L b i 0 (by omega);simp[AU]at S;clear L;have q:Hid (ET jh l b x=jh l[b] x):=by show _=_;unfold ET;rw[dif_pos i]
  have A0:=Ab i;cases hq:jh l[b] x with
  |true=>
   have m:=Ab (p (by rw[q.out];exact hq));simp only[jh]at hq;clear q u r j p;go_wp2;go_ret;exact m
  |false=>
   have m:=Ab (j (by rw[q.out];exact hq));simp only[jh]at hq;clear q u r j p;(go_wp2_with fail);refine m.mono ?_;intro e t E;obtain⟨F,A,B,rfl,n⟩:=E;have G:=Ab n;clear n;go_wp2;go_ret;exact⟨F,A,B,rfl,G⟩
 .have m:=Ab (j (by unfold ET;rw[dif_neg i]));clear u r j p;go_wp2_with fail
  refine m.mono ?_;intro e t E;obtain⟨F,A,B,rfl,n⟩:=E;have G:=Ab n;clear n;go_wp2;go_ret;exact⟨F,A,B,rfl,G⟩
def Td(a:p5)(l:pM zA)(k:Nat)(x:zA)(c:Nat)(w:py)(g:p9 w c 170 1 a (Z l) (l.flatMap Ah))(i:Z l<=1000000)(d:k<=Z l)(h:C9 FQ l):
  Calls prog 149 #[a,X J k,O x] w λe f=>∃b:Nat,e=oa (X J b)/\Dr FQ l k x b/\f=w:=
 Ta (oj ⟨rfl,rfl⟩) a l k x c w g i d h
def VK(b:Option Addr)(a:Nat)(l:pM zA)(i:Nat)(x:zA)(d c:Nat)(w:py)(k:p9 w d 170 1 (U b (Z l) a) (Z l) (l.flatMap Ah))(o:Z l<=1000000)(p:i<=Z l)(n:AF w c [O x] 170)(m:(U b (Z l) a).ownBlock≠V c)(j:d<=w.heap.size):
  Calls prog 214 #[U b (Z l) a,X J i,U (V ⟨c,0,Y⟩) 1 1] w λe f=>∃g h,e=oa (U (V ⟨g,0,Y⟩) (Z l+1) h)/\p9 f d 170 1 (U (V ⟨g,0,Y⟩) (Z l+1) h) (Z l+1) ((F7 l i x).flatMap Ah)/\Ac (U b (Z l) a).ownBlock.toList w f/\((U b (Z l) a).ownBlock=V g\/w.heap.size<=g):=by
 rw[Ul];exact MS (oj (oj ⟨rfl,rfl,rfl,rfl,rfl,rfl⟩)) b a (Z l) (l.flatMap Ah) i (O x) d c w k (by rw[XP];simp) o p n (jZ l) rfl m j
def Ok(base:Nat)(lv:p5)(l:pM zA)(x:zA)(w:py)(e:Ending)(w':py):Prop:=
 ∃(l':pM zA) (ad':Option Addr) (cp':Nat),e=oa (U ad' (Z l') cp')/\C9 FQ l'/\(∀y,y∈l'↔y=x\/y∈l)/\Z l<=Z l'/\Z l'<=Z l+1/\
  p9 w' base 170 1 (U ad' (Z l') cp') (Z l') (l'.flatMap Ah)/\Ac lv.ownBlock.toList w w'/\(∀k,(U ad' (Z l') cp').ownBlock=V k->lv.ownBlock=V k\/w.heap.size<=k)
theorem Xk(d:Option Addr)(b:Nat)(l:pM zA)(x:zA)(f:Nat)(w:py)(B:p9 w f 170 1 (U d (Z l) b) (Z l) (l.flatMap Ah))(I:Z l<=1000000)(C:C9 FQ l)(Bx:f<=w.heap.size):
  Calls prog 185 #[U d (Z l) b,O x] w λe a=>Ok f (U d (Z l) b) l x w e a:=by
 have N:=Ab (Td (U d (Z l) b) l 0 x f w B I (lz _) C);have v:=Ab C;have p:=Ab B;clear B C;go_enter func185,ntmps185;go_wp2_with fail
 refine N.mono ?_;rintro e a ⟨c,rfl,n,rfl⟩;have G:=Ab (n.has Gg v);have u:=Ab n;have Q:=n.le;clear N n;have o:Hid (ET iK l c x=K->Calls prog 214 #[U d (Z l) b,X J c,U (V ⟨a.heap.size,0,Y⟩) 1 1] (a.alloc (j3 #[O x] 170)) λe i=>Ok f (U d (Z l) b) l x a e i):=by
  intro R;have hn:AF (a.alloc (j3 [O x].toArray 170)) a.heap.size [O x] 170:=pP a [O x] 170;refine(VK d b l c x f a.heap.size _ (lg p _) I Q hn (λe=>by have:=(p.lt _ e).2;omega) (by simp;omega)).mono ?_;rintro e i ⟨g,cp,rfl,T,s,ha⟩;have M:=LG (x:=x) Q;refine⟨F7 l c x,V ⟨g,0,Y⟩,cp,by rw[M],u.zM Gg v R,λy=>O3 x y,by omega,by omega,by rw[M];exact T,((pO _ a).alloc _).trans s,?_⟩;intro k H;simp only[pI,ld]at H;subst H;rcases ha with h|h
  .exact oi h
  .exact oj (by simp at h;omega)
 have q:Hid (ET iK l c x=jj->Ok f (U d (Z l) b) l x a (oa (U d (Z l) b)) a):=by
  intro AH;have hx:=G.1 AH;exact⟨l,d,b,rfl,v,λy=>⟨oj,λh=>by rcases h with rfl|h;exact hx;exact h⟩,by omega,by omega,p,pO _ _,λk s=>oi s⟩
 by_cases m:c<Z l
 .obtain⟨g,A2,P,hc,L⟩:=AC p (by simp[Ah]) c m;simp only[kS]at P;obtain⟨rfl,_,rfl⟩:=P;have S:=L c m 0 (by omega);simp[Ah]at S;clear L;have r:Hid (ET iK l c x=iK l[c] x):=by show _=_;unfold ET;rw[dif_pos m]
  have A1:Hid ((l[c].toList==x.toList)=jj->Ok f (U (V ⟨g,0,Y⟩) (Z l) b) l x a (oa (U (V ⟨g,0,Y⟩) (Z l) b)) a):=λt=>q (by rw[r.out];exact t)
  have AT:Hid ((l[c].toList==x.toList)=K->Calls prog 214 #[U (V ⟨g,0,Y⟩) (Z l) b,X J c,U (V ⟨a.heap.size,0,Y⟩) 1 1] (a.alloc (j3 #[O x] 170)) λe i=>Ok f (U (V ⟨g,0,Y⟩) (Z l) b) l x a e i):=λt=>o (by rw[r.out];exact t)
  clear r G u o q;go_wp2_with fail
  .go_ret;exact A1 (by assumption)
  .refine(AT (by assumption)).mono ?_;intro e i D;obtain⟨E,z,A,rfl,j⟩:=D;have F:=Ab j;clear j;go_wp2;go_ret;exact⟨E,z,A,rfl,F⟩
 .have W:=Ab (o (by unfold ET;rw[dif_neg m]));clear G u o q;go_wp2_with fail
  refine W.mono ?_;intro e i D;obtain⟨E,z,A,rfl,j⟩:=D;have F:=Ab j;clear j;go_wp2;go_ret;exact⟨E,z,A,rfl,F⟩
