import Derived.Shelf.Spec.SlicesInsertGrow
import Derived.Test.YtoihbhenbmffcaaGreatDoorTAA
set_option linter.all false
set_option maxHeartbeats 0
open List renaming length->Z,toArray->j2
open Option renaming none->Y,some->V
open Go.Value renaming slice->U,int->X,string->O,ownBlock->qX
open Bool renaming false->K,true->jj
open Go.IntKind renaming i64->J,i32->q7
open Go.Obj renaming cells->j1
open Go.Ending renaming returned->kt
open Or renaming inl->lo,inr->lx
open Go renaming World->ly,Value->ml
open Go.World renaming cell?->oa,ownsRow->oi
namespace Go.Proofs.YtoihbhenbmffcaaGreatDoor
open Go.RowKit Go.Proofs.Tryz
variable{w:ly}{b n i m k j:Nat}{y:rc ml}{T:TypeId}{z:ml}{e:rc zA}{s:zA}{I:Int}
theorem Tryz.z7:(Tryz.prog.info? 21).map (λi=>(i.zero,i.size,i.bytes))=V (V (X q7 0),1,4):=by kernel_rfl
def Oc:rc ml->Nat->rc ml->rc ml
 |cs,_,[]=>cs
 |cs,o,v::r=>Oc (cs.set o v) (o+1) r
def Hl:∀(b a:rc ml) (o:Nat),o+Z b<=Z a->Oc a o b=a.take o++b++a.drop (o+Z b)
 |[],a,o,h=>by simp[Oc]
 |v::r,a,o,h=>by
  simp only[mL]at h;rw[Oc,Hl r (a.set o v) (o+1) (by simp;omega)];have c:(a.set o v).take (o+1)=a.take o++[v]:=by
   rw[mx (by simp;omega),List.take_set_of_le (by omega)];simp
  have d:(a.set o v).drop (o+1+Z r)=a.drop (o+(Z r+1)):=by
   rw[List.drop_set_of_lt (by omega)]
   congr 1
   omega
  rw[c,d];simp
def D1:∀(b a:rc ml) (o:Nat),Z (Oc a o b)=Z a
 |[],a,o=>rfl
 |v::r,a,o=>by rw[Oc,D1 r];simp
def AI.setCells{b:Nat}{t:TypeId}:∀(c:rc ml) {w:ly} {a:rc ml} (o:Nat),AI w b a t->AI (w.setCells b o c) b (Oc a o c) t
 |[],_,_,_,h=>h
 |v::r,w,a,o,h=>by
  rw[World.setCells,Oc];exact AI.setCells r (o+1) (h.set o v)
def Ac.setCells{M:rc Nat}{a:ly}{b:Nat}(c:b∈M\/a.heap.size<=b):∀(d:rc ml) {w:ly} (o:Nat),Ac M a w->Ac M a (w.setCells b o d)
 |[],_,_,h=>h
 |v::r,w,o,h=>by
  rw[World.setCells];exact Ac.setCells c r (o+1) (h.setCell (p:=⟨b,o,Y⟩) c v)
def AI.shape{w:ly}{b:Nat}{a:rc ml}{t:TypeId}(h:AI w b a t):w.shape? b=V (t,Z a):=by
 unfold AI at h;simp[World.shape?,h]
def AI.some(h:AI w b y T)(k:Nat)(a:k<Z y):(oa w ⟨b,k,Y⟩).isSome=jj:=by
 rw[h.cell,mG a];rfl
def fb{b a:rc ml}(j:b.take n=a)(f:Z a=n)(h:i<=n)(k:n+1<=Z b)(x:ml):
  (Oc (Oc b (i+1) (a.drop i)) i [x]).take (n+1)=a.take i++x::a.drop i:=by
 have c:Z (a.drop i)=n-i:=by rw[nF,f]
 rw[Hl [x] _ i (by rw[D1];simp;omega),Hl (a.drop i) b (i+1) (by rw[c];omega)];have d:(b.take (i+1)++a.drop i++b.drop (i+1+Z (a.drop i))).take i=a.take i:=by
  rw[nA,nG (by simp;omega),pM,pr (by omega),<-j,pM,pr h]
 have g:(b.take (i+1)++a.drop i++b.drop (i+1+Z (a.drop i))).drop (i+[x].length)=a.drop i++b.drop (i+1+Z (a.drop i)):=by
  rw[nA,List.drop_left' (by simp;omega)]
 rw[d,g,nA,List.take_append,mz (by simp;omega)]
 congr 1
 have e:n+1-Z (a.take i)=(n-i)+1:=by simp;omega
 rw[e];simp only[qP,ot,nM,pk];rw[nG (by omega),mz (by omega)]
theorem Tryz.zm:(Tryz.prog.info? 170).map (λi=>(i.zero,i.size,i.bytes))=V (V (O ⟨#[]⟩),1,16):=by kernel_rfl
def Te(te sl fn ov bz:Nat)(z:ml):Prop:=
 (te=9/\sl=41/\fn=218/\ov=231/\bz=16/\z=O ⟨#[]⟩)\/(te=21/\sl=234/\fn=220/\ov=233/\bz=4/\z=X q7 0)\/(te=170/\sl=102/\fn=214/\ov=229/\bz=16/\z=O ⟨#[]⟩)
def Te.info{a c d e b:Nat}{z:ml}(h:Te a c d e b z):(prog.info? a).map (λi=>(i.zero,i.size,i.bytes))=V (V z,1,b):=by
 rcases h with⟨rfl,rfl,rfl,rfl,rfl,rfl⟩|⟨rfl,rfl,rfl,rfl,rfl,rfl⟩|⟨rfl,rfl,rfl,rfl,rfl,rfl⟩
 .exact Tryz.zs
 .exact Tryz.z7
 .exact Tryz.zm
def Te.ul(h:Te n m k i j z):prog.underlying m=V (.slice n):=by
 rcases h with⟨rfl,rfl,rfl,rfl,rfl,rfl⟩|⟨rfl,rfl,rfl,rfl,rfl,rfl⟩|⟨rfl,rfl,rfl,rfl,rfl,rfl⟩
 .exact underlying41
 .exact underlying234
 .exact underlying102
theorem Te.over(h:Te n m k i j z)(a:Array ml)(w:ly):(callFunc i a).run prog w=((Extern.SlicesOverlaps.overlaps #[m,m] #[4] a).run prog w).andThen λv b=> .ok (.value v) b:=by
 rcases h with⟨rfl,rfl,rfl,rfl,rfl,rfl⟩|⟨rfl,rfl,rfl,rfl,rfl,rfl⟩|⟨rfl,rfl,rfl,rfl,rfl,rfl⟩
 .exact qx func231 (by kernel_rfl) (by kernel_rfl) (by kernel_rfl) (by kernel_rfl) _ _
 .exact qx func233 (by kernel_rfl) (by kernel_rfl) (by kernel_rfl) (by kernel_rfl) _ _
 .exact qx func229 (by kernel_rfl) (by kernel_rfl) (by kernel_rfl) (by kernel_rfl) _ _
def Te.one(h:Te n m k i j z):z.cells=#[z]:=by
 rcases h with⟨_,_,_,_,_,rfl⟩|⟨_,_,_,_,_,rfl⟩|⟨_,_,_,_,_,rfl⟩<;>rfl
def Te.small(h:Te n m k i j z):j<=16:=by rcases h with h|h|h<;>omega
set_option maxRecDepth 100000
theorem dK{b o F H bz:Nat}(p:Te b o F H bz z)(g n c i f:Nat)(d t:rc ml)(k:ml)(w:ly)(hi:i<n)(BA:n+1<=c)(Bx:c<=9223372036854775807)(D:f≠g)
  (A0:Z d=n) (q:AI w g t b) (AH:Z t=c) (S:t.take n=d) (s:AI w f [k] b) (AB:∀v∈d,v.oneCell'=jj) (T:k.oneCell'=jj):
  Calls prog F #[U (V ⟨g,0,Y⟩) n c,X J i,U (V ⟨f,0,Y⟩) 1 1] w λe Q=>
   e=kt (U (V ⟨g,0,Y⟩) (n+1) c)/\Q=(w.drew.setCells g (i+1) (d.drop i)).setCells g i [k]:=by
 obtain⟨i0,P,A2,I,EK⟩:=nC p.info;have E:(prog.info? b).map (·.size)=V 1:=by rw[P];simp[I]
 have A1:∀w,(Go.sizeOf b).run prog w=.ok 1 w:=λw=>by simp[sizeOf,typeInfo,P,I]
 have L:∀j,j<n+1->(oa w ⟨g,j,Y⟩).isSome=jj:=λj a=>q.some j (by omega)
 have N:∀j,w.frozen? ⟨g,j,Y⟩=K:=λj=>q.frozen j
 have G:∀j v,d[j]?=V v->oa w ⟨g,j,Y⟩=V v:=λj v a=>by
  rw[q.cell];rw[<-S,oD]at a;split at a
  .exact a
  .cases a
 have W:∀y x,(callFunc H #[U (V ⟨f,0,Y⟩) 1 1,U (V ⟨g,i+1,Y⟩) y x]).run prog w=.ok (.value (.bool K)) w:=λy x=>by
  rw[p.over,Lib.run_overlaps_apart w o 4 b p.ul 1 A1 ⟨f,0,Y⟩ ⟨g,i+1,Y⟩ 1 1 y x D b b 1 c (by simpa using s.shape) (by rw[<-AH];exact q.shape) (by omega) (s.frozen 0) (s.frozen 1)];rfl
 have AR:Z (d.drop i)=n-i:=by rw[nF,A0]
 have C:∀m h A,(Builtin.copy_ #[o,o] m #[U (V ⟨g,i+1,Y⟩) (n-i) h,U (V ⟨g,i,Y⟩) (n+1-i) A]).run prog w.drew=.ok (goInt (Z (d.drop i))) (w.drew.setCells g (i+1) (d.drop i)):=λm h A=>
  run_copy_cells w.drew _ _ m b g (i+1) (n-i) h ⟨g,i,Y⟩ (n+1-i) A (d.drop i) p.ul E (by rw[AR];simp only[qJ];split<;>omega)
   (λj v a=>by rw[po];exact G (i+j) v (by rwa [pY]at a))
   (λj a=>L _ (by omega)) (λj a=>N _) (λv hv=>AB v (oU hv))
 obtain⟨l,r⟩:∃l,l=w.drew.setCells g (i+1) (d.drop i):=⟨_,rfl⟩;have u:AI l g (Oc t (i+1) (d.drop i)) b:=by rw[r];exact q.drew.setCells _ _
 have B:AI l f [k] b:=by rw[r];exact s.drew.kept (Ac.setCells (M:=[g]) (by simp) _ _ (re _ _)) (by simpa using D)
 have R:∀m h,(Builtin.copy_ #[o,o] m #[U (V ⟨g,i,Y⟩) (n+1-i) h,U (V ⟨f,0,Y⟩) 1 1]).run prog l=.ok (goInt [k].length) (l.setCells g i [k]):=λm h=>
  run_copy_cells l _ _ m b g i (n+1-i) h ⟨f,0,Y⟩ 1 1 [k] p.ul E (by simp only[qJ];split<;>simp<;>omega)
   (λj v a=>by rw[po,nE,B.cell];exact a)
   (λj a=>u.some _ (by rw[D1];simp at a;omega)) (λj a=>u.frozen _) (by simpa using T)
 rw[<-r]at C;have B9:IntKind.i64.wrap ((i:Int)+1)=(i:Int)+1:=by rw[pV];omega
 have BT:¬((i:Int)=(n:Int)):=by omega
 have DT:(0:Int)<=(i:Int)+1:=by omega
 have B2:i<=n:=by omega
 have BS:((i:Int)+1).toNat=i+1:=by omega
 have CC:¬(c=i+1):=by omega
 have EM:(i:Int)<=(n:Int)+1:=by omega
 have CW:¬(c=i):=by omega
 have mixed:prog.follows Departure.mixedOrders=jj:=by kernel_rfl
 have AO:=Ab r;clear q s u B G L N r;rcases p with⟨rfl,rfl,rfl,rfl,rfl,rfl⟩|⟨rfl,rfl,rfl,rfl,rfl,rfl⟩|⟨rfl,rfl,rfl,rfl,rfl,rfl⟩
 case' inl=>go_enter func218,ntmps218
 case' inr.inl=>go_enter func220,ntmps220
 case' inr.inr=>go_enter func214,ntmps214
 all_goals
  go_wp2_with (simp only[W])
  go_region_law_o (refine step_copy_runI rfl _ _ _ _ rfl _ _ (by simp[Act.eval,Act.put]) (by simp[Act.eval,Act.put]) (C _ _ _) ?_)
  go_wp2_with (at_builtin;refine wpList_copy_runI _ rfl _ _ _ _ rfl _ _ rfl rfl (R _ _) ?_)
  go_ret;exact⟨rfl,by rw[Aa AO]⟩
theorem eS{a p fn ov bz:Nat}(m:Te a p fn ov bz z)(g n c i q:Nat)(k y:rc ml)(f:ml)(w:ly)(hi:i<n)(Ha:n<=c)(CC:c<n+1)(HD:n<=1000000)
  (FB:Z k=n) (B:AI w g y a) (FW:Z y=c) (P:y.take n=k) (I:AI w q [f] a) (EM:∀v∈k,v.oneCell'=jj) (B2:f.oneCell'=jj):
  Calls prog fn #[U (V ⟨g,0,Y⟩) n c,X J i,U (V ⟨q,0,Y⟩) 1 1] w λe w'=>
   ∃(b:rc ml) (G:Nat),Z b=G/\n+1<=G/\G<=maxLen/\b.take i=k.take i/\e=kt (U (V ⟨w.heap.size,0,Y⟩) (n+1) G)/\
   w'=(((w.alloc (j1 (j2 b) a)).drew.setCells w.heap.size i [f]).drew).setCells w.heap.size (i+1) (k.drop i):=by
 obtain⟨i0,A2,BT,AT,A0⟩:=nC m.info;have mixed:prog.follows Departure.mixedOrders=jj:=by kernel_rfl
 have Ax:(prog.info? a).map (·.size)=V 1:=by rw[A2];simp[AT]
 have FL:=B.lt;have FF:=I.lt;have R:(n:Int)+1-(i:Int)=((n+1-i:Nat):Int):=by omega
 have E:i+(n+1-i)=n+1:=by omega
 have AR:∀j v,k[j]?=V v->oa w ⟨g,j,Y⟩=V v:=λj v d=>by
  rw[B.cell];rw[<-P,oD]at d;split at d
  .exact d
  .cases d
 have T:(Builtin.firstCells i0.size i (U (V ⟨g,0,Y⟩) i c)).run prog w.drew=.ok (j2 (k.take i)) w.drew:=by
  rw[AT];exact run_firstCells_some w.drew 1 i ⟨g,0,Y⟩ i c (k.take i) (by rw[nu];omega) (λj v d=>by
   rw[po,nE]
   rw[oD]at d
   split at d
   .exact AR j v d
   .cases d)
 have u:∀l,(Builtin.append_ #[p,3] l #[U (V ⟨g,0,Y⟩) i c,X J ((n:Int)+1-(i:Int))]).run prog w=
   .ok (U (V ⟨w.heap.size,0,Y⟩) (n+1) (grownCap w (n+1) c a)) (w.drew.alloc (j1 (j2 (k.take i)++Builtin.zeroCells z.cells (n+1-i)++Builtin.zeroCells z.cells (grownCap w (n+1) c a-(n+1))) a)):=λl=>by
  have h:=Lib.run_append_grow_zeros w p 3 l a i0 _ J J m.ul underlying3 A2 BT (V ⟨g,0,Y⟩) i c (k.take i) T (n+1-i) (by omega) (by omega) (by omega) (by omega) (by have:=m.small;rw[A0];exact nD (Nat.mul_le_mul_left _ this) (by omega)) (by have:=m.small;rw[A0,E];exact growslice_fits CC (nD (Nat.mul_le_mul_left _ this) (by omega)));rw[E]at h;rw[R];exact h
 obtain⟨G,A⟩:∃G,G=grownCap w (n+1) c a:=⟨_,rfl⟩;obtain⟨b,t⟩:∃b:rc ml,j2 b=j2 (k.take i)++Builtin.zeroCells z.cells (n+1-i)++Builtin.zeroCells z.cells (G-(n+1)):=⟨_,Array.toArray_toList⟩;rw[<-A]at u;rw[<-t]at u;have ES:n+1<=G:=by rw[A];exact grownCap_ge w _ _ _
 have D:G<=maxLen:=by rw[A];exact grownCap_le_maxLen w (n+1) c a (by unfold maxLen;omega)
 have Bx:Z b=G:=by
  have:=congrArg Array.size t;simp[Builtin.zeroCells,m.one]at this;omega
 have AO:b.take i=k.take i:=by
  have h:=congrArg Array.toList t;simp only[Array.toList_append,nA]at h;rw[h,nG (by simp;omega)];simp[pM]
 obtain⟨N,hN⟩:=rd w.heap.size;have s:AI (w.drew.alloc (j1 (j2 b) a)) N b a:=by rw[<-hN];exact rf w.drew b a
 have S:AI (w.drew.alloc (j1 (j2 b) a)) q [f] a:=I.drew.alloc _;have CW:∀(W:ly),(∀x,oa W x=oa (w.drew.alloc (j1 (j2 b) a)) x)->(∀x,W.frozen? x=(w.drew.alloc (j1 (j2 b) a)).frozen? x)->∀l o,(Builtin.copy_ #[p,p] l #[U (V ⟨N,i,Y⟩) (n+1-i) o,U (V ⟨q,0,Y⟩) 1 1]).run prog W=.ok (goInt [f].length) (W.setCells N i [f]):=λW r F l o=>
  run_copy_cells W _ _ l a N i (n+1-i) o ⟨q,0,Y⟩ 1 1 [f] m.ul Ax (by simp only[qJ];split<;>simp<;>omega)
   (λj v d=>by rw[po,nE,r,S.cell];exact d)
   (λj d=>by rw[r];exact s.some _ (by simp at d;omega)) (λj d=>by rw[F];exact s.frozen _) (by simpa using B2)
 have C:AI ((w.drew.alloc (j1 (j2 b) a)).setCells N i [f]) N (Oc b i [f]) a:=s.setCells _ _;have Q:AI ((w.drew.alloc (j1 (j2 b) a)).setCells N i [f]) g y a:=(B.drew.alloc _).kept (Ac.setCells (M:=[N]) (by simp) _ _ (re _ _)) (by simp;omega);have EY:Z (k.drop i)=n-i:=by rw[nF,FB]
 have L:∀(W:ly),(∀x,oa W x=oa ((w.drew.alloc (j1 (j2 b) a)).setCells N i [f]) x)->(∀x,W.frozen? x=((w.drew.alloc (j1 (j2 b) a)).setCells N i [f]).frozen? x)->∀l o H,(Builtin.copy_ #[p,p] l #[U (V ⟨N,i+1,Y⟩) (n-i) o,U (V ⟨g,i,Y⟩) (n-i) H]).run prog W=.ok (goInt (Z (k.drop i))) (W.setCells N (i+1) (k.drop i)):=λW r F l o H=>
  run_copy_cells W _ _ l a N (i+1) (n-i) o ⟨g,i,Y⟩ (n-i) H (k.drop i) m.ul Ax (by rw[EY];simp only[qJ];split<;>omega)
   (λj v d=>by
    rw[po,r,Q.cell]
    rw[pY,<-P,oD]at d
    split at d
    .exact d
    .cases d)
   (λj d=>by rw[r];exact C.some _ (by rw[D1];omega))
   (λj d=>by rw[F];exact C.frozen _) (λv hv=>EM v (oU hv))
 have B9:∀x,oa ((w.alloc (j1 (j2 b) a)).drew) x=oa (w.drew.alloc (j1 (j2 b) a)) x:=λx=>rfl
 have E0:∀x,((w.alloc (j1 (j2 b) a)).drew).frozen? x=(w.drew.alloc (j1 (j2 b) a)).frozen? x:=λx=>rfl
 have EK:∀x,oa (((w.alloc (j1 (j2 b) a)).drew.setCells N i [f]).drew) x=oa ((w.drew.alloc (j1 (j2 b) a)).setCells N i [f]) x:=λx=>rfl
 have FC:∀x,(((w.alloc (j1 (j2 b) a)).drew.setCells N i [f]).drew).frozen? x=((w.drew.alloc (j1 (j2 b) a)).setCells N i [f]).frozen? x:=λx=>rfl
 have HB:IntKind.i64.wrap ((i:Int)+1)=(i:Int)+1:=by rw[pV];omega
 have FT:¬((i:Int)=(n:Int)):=by omega
 have HF:(c:Int)<(n:Int)+1:=by omega
 have HH:(0:Int)<=(i:Int)+1:=by omega
 have Go:i<=n:=by omega
 have FO:((i:Int)+1).toNat=i+1:=by omega
 have HI:(i:Int)<=(n:Int):=by omega
 have HG:¬(G=i):=by omega
 have FP:¬(G=i+1):=by omega
 have HC:¬(c=i):=by omega
 have HA:G<=9223372036854775807:=by unfold maxLen at D;omega
 have BA:=Ab Bx;have B0:=Ab AO;have DT:=Ab D;rw[hN]at u⊢;clear R E T t A Bx AO D B I s S C Q AR;rcases m with⟨rfl,rfl,rfl,rfl,rfl,rfl⟩|⟨rfl,rfl,rfl,rfl,rfl,rfl⟩|⟨rfl,rfl,rfl,rfl,rfl,rfl⟩
 case' inl=>go_enter func218,ntmps218
 case' inr.inl=>go_enter func220,ntmps220
 case' inr.inr=>go_enter func214,ntmps214
 all_goals
  go_wp2_with (first
   |(at_builtin;refine Lib.wpList_append_run _ rfl _ _ _ _ rfl _ _ rfl rfl _ _ (u _) ?_)
   |(at_builtin;refine wpList_copy_runI _ rfl _ _ _ _ rfl _ _ rfl rfl (CW _ B9 E0 _ _) ?_)
   |(at_builtin;refine wpList_copy_runI _ rfl _ _ _ _ rfl _ _ rfl rfl (L _ (λ_=>rfl) (λ_=>rfl) _ _ _) ?_))
  go_region_law_o (refine step_copy_runI rfl _ _ _ _ rfl (U (V ⟨N,i+1,Y⟩) (n-i) (G-(i+1))) (U (V ⟨g,i,Y⟩) (n-i) (c-i)) (by simp[Act.eval,Act.put]) (by simp[Act.eval,Act.put]) (L _ EK FC 3 (G-(i+1)) (c-i)) ?_)
  go_wp2;go_ret;exact⟨b,G,BA,ES,DT,B0,rfl,rfl⟩
theorem NI{s sl fn ov bz:Nat}(p:Te s sl fn ov bz z)(r:Option Addr)(d n:Nat)(l:rc ml)(i:Nat)(x:ml)(t m:Nat)(w:ly)(q:oi w t s 1 (U r n d) n l)(f:Z l=n)(EM:n<=1000000)(hi:i<=n)(B:AI w m [x] s)(N:∀v∈l,v.oneCell'=jj)(y:x.oneCell'=jj)(T:(U r n d).ownBlock≠V m)(H:t<=w.heap.size):
  Calls prog fn #[U r n d,X J i,U (V ⟨m,0,Y⟩) 1 1] w λe C=>∃g cp,e=kt (U (V ⟨g,0,Y⟩) (n+1) cp)/\oi C t s 1 (U (V ⟨g,0,Y⟩) (n+1) cp) (n+1) (Gt l i x)/\Ac (U r n d).ownBlock.toList w C/\((U r n d).ownBlock=V g\/w.heap.size<=g):=by
 have HB:=Mp (l:=l) (by omega) x (at_:=i);by_cases HJ:i=n
 .subst HJ;obtain⟨i0,A0,W,A2,AH⟩:=nC p.info;have HI:Hid (Gt l i x=l++[x]):=by
   show Gt l i x=l++[x];rw[Gt,mz (by omega),ni (by omega)]
  have HV:Hid (∀j u,[x][j]?=V u->oa w ((⟨m,0,Y⟩:Addr).add j)=V u):=λj u hu=>by rw[po,nE,B.cell];exact hu
  have HL:=Ab q;have A1:=p.ul;have HN:=p.small;have H1:=Ab y;have Bx:∀v∈[x],v.oneCell'=jj:=λv hv=>by rw[my.1 hv];exact y
  have HX:=Ab Bx;clear B HB N y Bx T;cases r with
  |none=>
   have FC:i=0/\d=0:=by
    rcases q.2 with⟨b,D⟩|⟨g,c,o,b,_⟩
    .simp only[mu]at b;exact⟨D,b.2.2⟩
    .simp at b
   obtain⟨rfl,rfl⟩:=FC;have CC:l=[]:=oP.1 f;subst CC;clear q f;rcases p with⟨rfl,rfl,rfl,rfl,rfl,rfl⟩|⟨rfl,rfl,rfl,rfl,rfl,rfl⟩|⟨rfl,rfl,rfl,rfl,rfl,rfl⟩
   case' inl=>go_enter func218,ntmps218
   case' inr.inl=>go_enter func220,ntmps220
   case' inr.inr=>go_enter func214,ntmps214
   all_goals
    go_wp2_with (at_builtin;refine mZ _ rfl _ _ _ rfl t _ i0 _ 1 _ A1 A0 W A2 AH rfl (by omega) (U Y 0 0) 0 [] rfl HL ⟨m,0,Y⟩ 1 1 [x] rfl rfl HV HX (by omega) (by unfold maxLen;omega) (by omega) H _ rfl ?_;intro R I w9 P L E E0)
    go_ret;refine⟨R,I,rfl,P,(re _ w).grown L (λk F=>lo (by rw[oK];exact F)),?_⟩;rcases E with h|h
    .exact lo h
    .exact lx (by omega)
  |some a=>
   obtain⟨ab,ao,EX⟩:=a;have HH:ao=0/\EX=Y:=by
    rcases q.2 with⟨b,D⟩|⟨g,c,o,b,_⟩
    .simp at b
    .simp only[mu,mB,nr]at b;exact b.1.2
   obtain⟨rfl,rfl⟩:=HH;have DT:i<=d/\d<=maxLen:=by
    rcases q.2 with⟨b,D⟩|⟨g,c,o,b,_,_,h1,h2,_⟩
    .simp at b
    .simp only[mu]at b;rw[b.2.2];exact⟨h1,h2⟩
   obtain⟨B2,A⟩:=DT;unfold maxLen at A;clear q;rcases p with⟨rfl,rfl,rfl,rfl,rfl,rfl⟩|⟨rfl,rfl,rfl,rfl,rfl,rfl⟩|⟨rfl,rfl,rfl,rfl,rfl,rfl⟩
   case' inl=>go_enter func218,ntmps218
   case' inr.inl=>go_enter func220,ntmps220
   case' inr.inr=>go_enter func214,ntmps214
   all_goals
    go_wp2_with (at_builtin;refine mZ _ rfl _ _ _ rfl t _ i0 _ 1 _ A1 A0 W A2 AH rfl (by omega) (U (V ⟨ab,0,Y⟩) i d) i l rfl HL ⟨m,0,Y⟩ 1 1 [x] rfl rfl HV HX (by omega) (by unfold maxLen;omega) (by omega) H _ rfl ?_;intro R I w9 P L E E0)
    all_goals
     go_ret;rw[Aa HI];refine⟨R,I,rfl,P,(re _ w).grown L (λk F=>lo (by rw[oK];exact F)),?_⟩;rcases E with h|h
     .exact lo h
     .exact lx (by omega)
 .have BT:i<n:=by omega
  rcases q.2 with⟨b,D⟩|⟨g,c,o,b,hb,FL,B2,A,FA,HD⟩
  .omega
  .simp only[mu]at b;obtain⟨rfl,_,rfl⟩:=b;(have HE:m≠g:=λe=>T (by simp[qX,e]));(have M:AI w g o.toList s:=by unfold AI;simpa using FL);(have BA:Z o.toList=d:=by simpa using FA);(have S:o.toList.take n=l:=by simpa using HD);by_cases Ax:n+1<=d
   .refine(dK p g n d i m l o.toList x w BT Ax (by unfold maxLen at A;omega) HE f M BA S B N y).mono ?_;rintro e C ⟨rfl,rfl⟩;have Q:=(M.drew.setCells (l.drop i) (i+1)).setCells [x] i;refine⟨g,d,rfl,⟨?_,lx ⟨g,d,_,rfl,hb,Q,Ax,A,?_,?_⟩⟩,?_,lo rfl⟩
    .omega
    .simp only[nQ,D1];omega
    .simp only[Nat.mul_one];exact fb S f hi (by omega) _
    .exact Ac.setCells (by simp[qX]) _ _ (Ac.setCells (by simp[qX]) _ _ (re _ w).drew)
   .refine(eS p g n d i m l o.toList x w BT B2 (by omega) EM f M BA S B N y).mono ?_;rintro e C ⟨AR,G,HO,FB,FP,ES,rfl,rfl⟩;have Q:=((rf w AR s).drew.setCells [x] i).drew.setCells (l.drop i) (i+1);(have hd:Z (l.drop i)=n-i:=by rw[nF,f]);refine⟨w.heap.size,G,rfl,⟨?_,lx ⟨w.heap.size,G,_,rfl,H,Q,FB,FP,?_,?_⟩⟩,?_,lx (mP _)⟩
    .omega
    .simp only[nQ,D1];omega
    .simp only[Nat.mul_one];rw[Hl _ _ _ (by rw[D1,hd];omega),Hl _ _ _ (by simp;omega),ES];have e1:(List.take i l++[x]++List.drop (i+[x].length) AR).take (i+1)=List.take i l++[x]:=by
      rw[nG (by simp only[mM,nu,mL,m8,nF,f];omega),mz (by simp only[mM,nu,mL,m8,nF,f];omega)]
     rw[e1,nG (by simp only[mM,nu,mL,m8,nF,f];omega),mz (by simp only[mM,nu,mL,m8,nF,f];omega)];simp[Gt]
    .exact Ac.setCells (lx (mP _)) _ _ (Ac.setCells (lx (mP _)) _ _ ((re _ w).alloc _).drew).drew
def Yv(l:rc zA):l.flatMap Ai=l.map (O):=by
 induction l with
 |nil=>rfl
 |cons a l ih=>rw[mX,mU,ih];rfl
def lu(l:rc zA):∀v∈l.flatMap Ai,v.oneCell'=jj:=by
 intro v b;rw[Yv]at b;obtain⟨a,_,rfl⟩:=mD.1 b;rfl
def UP(l:rc zA)(i:Nat)(x:zA):(Gt l i x).flatMap Ai=(l.flatMap Ai).take i++ O x::(l.flatMap Ai).drop i:=by
 rw[Yv,Yv,Gt,nk,mU,List.map_take,List.map_drop]
def Ws(b:Option Addr)(a:Nat)(l:rc zA)(i:Nat)(x:zA)(d c:Nat)(w:ly)(k:oi w d 9 1 (U b (Z l) a) (Z l) (l.flatMap Ai))(o:Z l<=1000000)(p:i<=Z l)(n:AI w c [O x] 9)(m:(U b (Z l) a).ownBlock≠V c)(j:d<=w.heap.size):
  Calls prog 218 #[U b (Z l) a,X J i,U (V ⟨c,0,Y⟩) 1 1] w λe f=>∃g h,e=kt (U (V ⟨g,0,Y⟩) (Z l+1) h)/\oi f d 9 1 (U (V ⟨g,0,Y⟩) (Z l+1) h) (Z l+1) ((Gt l i x).flatMap Ai)/\Ac (U b (Z l) a).ownBlock.toList w f/\((U b (Z l) a).ownBlock=V g\/w.heap.size<=g):=by
 rw[UP];exact NI (lo ⟨rfl,rfl,rfl,rfl,rfl,rfl⟩) b a (Z l) (l.flatMap Ai) i (O x) d c w k (by rw[Yv];simp) o p n (lu l) rfl m j
def JG(l:rc zA)(x:zA):Bool:=l.any λy=>jF y x
def He(l:rc zA)(x:zA):JG l x=jj↔x∈l:=by
 unfold JG;rw[nX];constructor
 .rintro ⟨y,a,h⟩;rw[<-(I7.eqv y x).1 h];exact a
 .intro h;exact⟨x,h,(I7.eqv x x).2 rfl⟩
def Ez.inS(a:C6 Hx e)(h:Ez Hx e 0 s n):EQ jF e n s=JG e s:=by
 rw[nT,h.has I7 a,He]
theorem Uz(h:Option Addr)(f:Nat)(l:rc zA)(x:zA)(m:Nat)(w:ly)(i:oi w m 9 1 (U h (Z l) f) (Z l) (l.flatMap Ai))(s:Z l<=1000000)(j:C6 Hx l):
  Calls prog 121 #[U h (Z l) f,O x] w λe k=>e=kt (.bool (JG l x))/\k=w:=by
 have o:=Ab (TN (U h (Z l) f) l 0 x m w i s (mO _) j);have t:=Ab j;have u:=Ab i;clear i j;go_enter func121,ntmps121;go_wp2_with fail
 refine o.mono ?_;rintro e k ⟨b,rfl,c,rfl⟩;have q:=Ab (c.inS t);have y:=c.le;clear o c;by_cases a:b<Z l
 .obtain⟨g,v,p,z,n⟩:=AC u (by simp[Ai]) b a;simp only[mu]at p;obtain⟨rfl,_,rfl⟩:=p;have r:=n b a 0 (by omega);simp[Ai]at r;clear n;have d:Hid (JG l x=jF l[b] x):=by show _=_;rw[<-Aa q];unfold EQ;rw[dif_pos a]
  go_wp2;go_ret;rw[d.out];exact⟨rfl,rfl⟩
 .have d:Hid (JG l x=K):=by show _=_;rw[<-Aa q];unfold EQ;rw[dif_neg a]
  go_wp2;go_ret;rw[d.out];exact⟨rfl,rfl⟩
def OX(base:Nat)(lv:ml)(l:rc zA)(x:zA)(w:ly)(e:Ending)(w':ly):Prop:=
 ∃(l':rc zA) (ad':Option Addr) (cp':Nat),e=kt (U ad' (Z l') cp')/\C6 Hx l'/\(∀y,y∈l'↔y=x\/y∈l)/\Z l<=Z l'/\Z l'<=Z l+1/\
  oi w' base 9 1 (U ad' (Z l') cp') (Z l') (l'.flatMap Ai)/\Ac lv.ownBlock.toList w w'/\(∀k,(U ad' (Z l') cp').ownBlock=V k->lv.ownBlock=V k\/w.heap.size<=k)
theorem fx(d:Option Addr)(b:Nat)(l:rc zA)(x:zA)(f:Nat)(w:ly)(B:oi w f 9 1 (U d (Z l) b) (Z l) (l.flatMap Ai))(I:Z l<=1000000)(C:C6 Hx l)(A2:f<=w.heap.size):
  Calls prog 194 #[U d (Z l) b,O x] w λe a=>OX f (U d (Z l) b) l x w e a:=by
 have N:=Ab (TN (U d (Z l) b) l 0 x f w B I (mO _) C);have v:=Ab C;have p:=Ab B;clear B C;go_enter func194,ntmps194;go_wp2_with fail
 refine N.mono ?_;rintro e a ⟨c,rfl,n,rfl⟩;have G:=Ab (n.has I7 v);have u:=Ab n;have Q:=n.le;clear N n;have o:Hid (EQ jF l c x=K->Calls prog 218 #[U d (Z l) b,X J c,U (V ⟨a.heap.size,0,Y⟩) 1 1] (a.alloc (j1 #[O x] 9)) λe i=>OX f (U d (Z l) b) l x a e i):=by
  intro R;have hn:AI (a.alloc (j1 [O x].toArray 9)) a.heap.size [O x] 9:=rf a [O x] 9;refine(Ws d b l c x f a.heap.size _ (mE p _) I Q hn (λe=>by have:=(p.lt _ e).2;omega) (by simp;omega)).mono ?_;rintro e i ⟨g,cp,rfl,T,s,ha⟩;have M:=Mp (x:=x) Q;refine⟨Gt l c x,V ⟨g,0,Y⟩,cp,by rw[M],u.zG I7 v R,λy=>PF x y,by omega,by omega,by rw[M];exact T,((re _ a).alloc _).trans s,?_⟩;intro k H;simp only[qX,mB]at H;subst H;rcases ha with h|h
  .exact lo h
  .exact lx (by simp at h;omega)
 have q:Hid (EQ jF l c x=jj->OX f (U d (Z l) b) l x a (kt (U d (Z l) b)) a):=by
  intro AH;have hx:=G.1 AH;exact⟨l,d,b,rfl,v,λy=>⟨lx,λh=>by rcases h with rfl|h;exact hx;exact h⟩,by omega,by omega,p,re _ _,λk s=>lo s⟩
 by_cases m:c<Z l
 .obtain⟨g,A1,P,hc,L⟩:=AC p (by simp[Ai]) c m;simp only[mu]at P;obtain⟨rfl,_,rfl⟩:=P;have S:=L c m 0 (by omega);simp[Ai]at S;clear L;have r:Hid (EQ jF l c x=jF l[c] x):=by show _=_;unfold EQ;rw[dif_pos m]
  have A0:Hid ((l[c].toList==x.toList)=jj->OX f (U (V ⟨g,0,Y⟩) (Z l) b) l x a (kt (U (V ⟨g,0,Y⟩) (Z l) b)) a):=λt=>q (by rw[r.out];exact t)
  have AR:Hid ((l[c].toList==x.toList)=K->Calls prog 218 #[U (V ⟨g,0,Y⟩) (Z l) b,X J c,U (V ⟨a.heap.size,0,Y⟩) 1 1] (a.alloc (j1 #[O x] 9)) λe i=>OX f (U (V ⟨g,0,Y⟩) (Z l) b) l x a e i):=λt=>o (by rw[r.out];exact t)
  clear r G u o q;go_wp2_with fail
  .go_ret;exact A0 (by assumption)
  .refine(AR (by assumption)).mono ?_;intro e i D;obtain⟨E,z,A,rfl,j⟩:=D;have F:=Ab j;clear j;go_wp2;go_ret;exact⟨E,z,A,rfl,F⟩
 .have W:=Ab (o (by unfold EQ;rw[dif_neg m]));clear G u o q;go_wp2_with fail
  refine W.mono ?_;intro e i D;obtain⟨E,z,A,rfl,j⟩:=D;have F:=Ab j;clear j;go_wp2;go_ret;exact⟨E,z,A,rfl,F⟩
def dY(l:rc Int):l.flatMap AX=l.map (X q7):=by
 induction l with
 |nil=>rfl
 |cons a l ih=>rw[mX,mU,ih];rfl
def lQ(l:rc Int):∀v∈l.flatMap AX,v.oneCell'=jj:=by
 intro v b;rw[dY]at b;obtain⟨a,_,rfl⟩:=mD.1 b;rfl
def dF(l:rc Int)(i:Nat)(x:Int):(Gt l i x).flatMap AX=(l.flatMap AX).take i++ X q7 x::(l.flatMap AX).drop i:=by
 rw[dY,dY,Gt,nk,mU,List.map_take,List.map_drop]
def Wl(b:Option Addr)(a:Nat)(l:rc Int)(i:Nat)(x:Int)(d c:Nat)(w:ly)(k:oi w d 21 1 (U b (Z l) a) (Z l) (l.flatMap AX))(o:Z l<=1000000)(p:i<=Z l)(n:AI w c [X q7 x] 21)(m:(U b (Z l) a).ownBlock≠V c)(j:d<=w.heap.size):
  Calls prog 220 #[U b (Z l) a,X J i,U (V ⟨c,0,Y⟩) 1 1] w λe f=>∃g h,e=kt (U (V ⟨g,0,Y⟩) (Z l+1) h)/\oi f d 21 1 (U (V ⟨g,0,Y⟩) (Z l+1) h) (Z l+1) ((Gt l i x).flatMap AX)/\Ac (U b (Z l) a).ownBlock.toList w f/\((U b (Z l) a).ownBlock=V g\/w.heap.size<=g):=by
 rw[dF];exact NI (lx (lo ⟨rfl,rfl,rfl,rfl,rfl,rfl⟩)) b a (Z l) (l.flatMap AX) i (X q7 x) d c w k (by rw[dY];simp) o p n (lQ l) rfl m j
def LJ(l:rc Int)(x:Int):Bool:=l.any λy=>kl y x
def Sh(l:rc Int)(x:Int):LJ l x=jj↔x∈l:=by
 unfold LJ;rw[nX];constructor
 .rintro ⟨y,a,h⟩;rw[<-(YY.eqv y x).1 h];exact a
 .intro h;exact⟨x,h,(YY.eqv x x).2 rfl⟩
def Ez.inI{l:rc Int}(a:C6 Xk l)(h:Ez Xk l 0 I n):EQ kl l n I=LJ l I:=by
 rw[nT,h.has YY a,Sh]
theorem dA(h:Option Addr)(f:Nat)(l:rc Int)(x:Int)(m:Nat)(w:ly)(i:oi w m 21 1 (U h (Z l) f) (Z l) (l.flatMap AX))(s:Z l<=1000000)(j:C6 Xk l):
  Calls prog 201 #[U h (Z l) f,X q7 x] w λe k=>e=kt (.bool (LJ l x))/\k=w:=by
 have o:=Ab (TO (U h (Z l) f) l 0 x m w i s (mO _) j);have t:=Ab j;have u:=Ab i;clear i j;go_enter func201,ntmps201;go_wp2_with fail
 refine o.mono ?_;rintro e k ⟨b,rfl,c,rfl⟩;have q:=Ab (c.inI t);have y:=c.le;clear o c;by_cases a:b<Z l
 .obtain⟨g,v,p,z,n⟩:=AC u (by simp[AX]) b a;simp only[mu]at p;obtain⟨rfl,_,rfl⟩:=p;have r:=n b a 0 (by omega);simp[AX]at r;clear n;have d:Hid (LJ l x=kl l[b] x):=by show _=_;rw[<-Aa q];unfold EQ;rw[dif_pos a]
  go_wp2;go_ret;rw[d.out];exact⟨rfl,rfl⟩
 .have d:Hid (LJ l x=K):=by show _=_;rw[<-Aa q];unfold EQ;rw[dif_neg a]
  go_wp2;go_ret;rw[d.out];exact⟨rfl,rfl⟩
def VB(base:Nat)(lv:ml)(l:rc Int)(x:Int)(w:ly)(e:Ending)(w':ly):Prop:=
 ∃(l':rc Int) (ad':Option Addr) (cp':Nat),e=kt (U ad' (Z l') cp')/\C6 Xk l'/\(∀y,y∈l'↔y=x\/y∈l)/\Z l<=Z l'/\Z l'<=Z l+1/\
  oi w' base 21 1 (U ad' (Z l') cp') (Z l') (l'.flatMap AX)/\Ac lv.ownBlock.toList w w'/\(∀k,(U ad' (Z l') cp').ownBlock=V k->lv.ownBlock=V k\/w.heap.size<=k)
theorem eE(d:Option Addr)(c:Nat)(l:rc Int)(x:Int)(f:Nat)(w:ly)(C:oi w f 21 1 (U d (Z l) c) (Z l) (l.flatMap AX))(I:Z l<=1000000)(D:C6 Xk l)(A0:f<=w.heap.size):
  Calls prog 202 #[U d (Z l) c,X q7 x] w λe a=>VB f (U d (Z l) c) l x w e a:=by
 have N:=Ab (TO (U d (Z l) c) l 0 x f w C I (mO _) D);have z:=Ab D;have s:=Ab C;clear C D;go_enter func202,ntmps202;go_wp2_with fail
 refine N.mono ?_;rintro e a ⟨b,rfl,o,rfl⟩;have u:=Ab (o.has YY z);have r:=Ab o;have Q:=o.le;clear N o;have j:Hid (EQ kl l b x=K->Calls prog 220 #[U d (Z l) c,X J b,U (V ⟨a.heap.size,0,Y⟩) 1 1] (a.alloc (j1 #[X q7 x] 21)) λe t=>VB f (U d (Z l) c) l x a e t):=by
  intro R;have hn:AI (a.alloc (j1 [X q7 x].toArray 21)) a.heap.size [X q7 x] 21:=rf a [X q7 x] 21;refine(Wl d c l b x f a.heap.size _ (mE s _) I Q hn (λe=>by have:=(s.lt _ e).2;omega) (by simp;omega)).mono ?_;rintro e t ⟨g,cp,rfl,T,v,ha⟩;have M:=Mp (x:=x) Q;refine⟨Gt l b x,V ⟨g,0,Y⟩,cp,by rw[M],r.zG YY z R,λy=>PF x y,by omega,by omega,by rw[M];exact T,((re _ a).alloc _).trans v,?_⟩;intro k H;simp only[qX,mB]at H;subst H;rcases ha with h|h
  .exact lo h
  .exact lx (by simp at h;omega)
 have p:Hid (EQ kl l b x=jj->VB f (U d (Z l) c) l x a (kt (U d (Z l) c)) a):=by
  intro AB;have W:=u.1 AB;exact⟨l,d,c,rfl,z,λy=>⟨lx,λh=>by rcases h with rfl|h;exact W;exact h⟩,by omega,by omega,s,re _ _,λk v=>lo v⟩
 by_cases i:b<Z l
 .obtain⟨g,AR,P,hc,L⟩:=AC s (by simp[AX]) b i;simp only[mu]at P;obtain⟨rfl,_,rfl⟩:=P;have S:=L b i 0 (by omega);simp[AX]at S;clear L;have q:Hid (EQ kl l b x=kl l[b] x):=by show _=_;unfold EQ;rw[dif_pos i]
  have AT:=Ab i;cases hq:kl l[b] x with
  |true=>
   have m:=Ab (p (by rw[q.out];exact hq));simp only[kl]at hq;clear q u r j p;go_wp2;go_ret;exact m
  |false=>
   have m:=Ab (j (by rw[q.out];exact hq));simp only[kl]at hq;clear q u r j p;(go_wp2_with fail);refine m.mono ?_;intro e t E;obtain⟨F,A,B,rfl,n⟩:=E;have G:=Ab n;clear n;go_wp2;go_ret;exact⟨F,A,B,rfl,G⟩
 .have m:=Ab (j (by unfold EQ;rw[dif_neg i]));clear u r j p;go_wp2_with fail
  refine m.mono ?_;intro e t E;obtain⟨F,A,B,rfl,n⟩:=E;have G:=Ab n;clear n;go_wp2;go_ret;exact⟨F,A,B,rfl,G⟩
def Pg(a:ml)(l:rc zA)(k:Nat)(x:zA)(c:Nat)(w:ly)(g:oi w c 170 1 a (Z l) (l.flatMap Ai))(i:Z l<=1000000)(d:k<=Z l)(h:C6 Hx l):
  Calls prog 149 #[a,X J k,O x] w λe f=>∃b:Nat,e=kt (X J b)/\Ez Hx l k x b/\f=w:=
 TK (lx ⟨rfl,rfl⟩) a l k x c w g i d h
def Wk(b:Option Addr)(a:Nat)(l:rc zA)(i:Nat)(x:zA)(d c:Nat)(w:ly)(k:oi w d 170 1 (U b (Z l) a) (Z l) (l.flatMap Ai))(o:Z l<=1000000)(p:i<=Z l)(n:AI w c [O x] 170)(m:(U b (Z l) a).ownBlock≠V c)(j:d<=w.heap.size):
  Calls prog 214 #[U b (Z l) a,X J i,U (V ⟨c,0,Y⟩) 1 1] w λe f=>∃g h,e=kt (U (V ⟨g,0,Y⟩) (Z l+1) h)/\oi f d 170 1 (U (V ⟨g,0,Y⟩) (Z l+1) h) (Z l+1) ((Gt l i x).flatMap Ai)/\Ac (U b (Z l) a).ownBlock.toList w f/\((U b (Z l) a).ownBlock=V g\/w.heap.size<=g):=by
 rw[UP];exact NI (lx (lx ⟨rfl,rfl,rfl,rfl,rfl,rfl⟩)) b a (Z l) (l.flatMap Ai) i (O x) d c w k (by rw[Yv];simp) o p n (lu l) rfl m j
def OV(base:Nat)(lv:ml)(l:rc zA)(x:zA)(w:ly)(e:Ending)(w':ly):Prop:=
 ∃(l':rc zA) (ad':Option Addr) (cp':Nat),e=kt (U ad' (Z l') cp')/\C6 Hx l'/\(∀y,y∈l'↔y=x\/y∈l)/\Z l<=Z l'/\Z l'<=Z l+1/\
  oi w' base 170 1 (U ad' (Z l') cp') (Z l') (l'.flatMap Ai)/\Ac lv.ownBlock.toList w w'/\(∀k,(U ad' (Z l') cp').ownBlock=V k->lv.ownBlock=V k\/w.heap.size<=k)
theorem XU(d:Option Addr)(b:Nat)(l:rc zA)(x:zA)(f:Nat)(w:ly)(B:oi w f 170 1 (U d (Z l) b) (Z l) (l.flatMap Ai))(I:Z l<=1000000)(C:C6 Hx l)(A2:f<=w.heap.size):
  Calls prog 185 #[U d (Z l) b,O x] w λe a=>OV f (U d (Z l) b) l x w e a:=by
 have N:=Ab (Pg (U d (Z l) b) l 0 x f w B I (mO _) C);have v:=Ab C;have p:=Ab B;clear B C;go_enter func185,ntmps185;go_wp2_with fail
 refine N.mono ?_;rintro e a ⟨c,rfl,n,rfl⟩;have G:=Ab (n.has I7 v);have u:=Ab n;have Q:=n.le;clear N n;have o:Hid (EQ jF l c x=K->Calls prog 214 #[U d (Z l) b,X J c,U (V ⟨a.heap.size,0,Y⟩) 1 1] (a.alloc (j1 #[O x] 170)) λe i=>OV f (U d (Z l) b) l x a e i):=by
  intro R;have hn:AI (a.alloc (j1 [O x].toArray 170)) a.heap.size [O x] 170:=rf a [O x] 170;refine(Wk d b l c x f a.heap.size _ (mE p _) I Q hn (λe=>by have:=(p.lt _ e).2;omega) (by simp;omega)).mono ?_;rintro e i ⟨g,cp,rfl,T,s,ha⟩;have M:=Mp (x:=x) Q;refine⟨Gt l c x,V ⟨g,0,Y⟩,cp,by rw[M],u.zG I7 v R,λy=>PF x y,by omega,by omega,by rw[M];exact T,((re _ a).alloc _).trans s,?_⟩;intro k H;simp only[qX,mB]at H;subst H;rcases ha with h|h
  .exact lo h
  .exact lx (by simp at h;omega)
 have q:Hid (EQ jF l c x=jj->OV f (U d (Z l) b) l x a (kt (U d (Z l) b)) a):=by
  intro AH;have hx:=G.1 AH;exact⟨l,d,b,rfl,v,λy=>⟨lx,λh=>by rcases h with rfl|h;exact hx;exact h⟩,by omega,by omega,p,re _ _,λk s=>lo s⟩
 by_cases m:c<Z l
 .obtain⟨g,A1,P,hc,L⟩:=AC p (by simp[Ai]) c m;simp only[mu]at P;obtain⟨rfl,_,rfl⟩:=P;have S:=L c m 0 (by omega);simp[Ai]at S;clear L;have r:Hid (EQ jF l c x=jF l[c] x):=by show _=_;unfold EQ;rw[dif_pos m]
  have A0:Hid ((l[c].toList==x.toList)=jj->OV f (U (V ⟨g,0,Y⟩) (Z l) b) l x a (kt (U (V ⟨g,0,Y⟩) (Z l) b)) a):=λt=>q (by rw[r.out];exact t)
  have AR:Hid ((l[c].toList==x.toList)=K->Calls prog 214 #[U (V ⟨g,0,Y⟩) (Z l) b,X J c,U (V ⟨a.heap.size,0,Y⟩) 1 1] (a.alloc (j1 #[O x] 170)) λe i=>OV f (U (V ⟨g,0,Y⟩) (Z l) b) l x a e i):=λt=>o (by rw[r.out];exact t)
  clear r G u o q;go_wp2_with fail
  .go_ret;exact A0 (by assumption)
  .refine(AR (by assumption)).mono ?_;intro e i D;obtain⟨E,z,A,rfl,j⟩:=D;have F:=Ab j;clear j;go_wp2;go_ret;exact⟨E,z,A,rfl,F⟩
 .have W:=Ab (o (by unfold EQ;rw[dif_neg m]));clear G u o q;go_wp2_with fail
  refine W.mono ?_;intro e i D;obtain⟨E,z,A,rfl,j⟩:=D;have F:=Ab j;clear j;go_wp2;go_ret;exact⟨E,z,A,rfl,F⟩
