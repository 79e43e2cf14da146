import Derived.Shelf.Spec.SlicesInsertGrow
import Derived.Test.YtoihbhenbmffcaaGreatZAA
set_option linter.all false
set_option maxHeartbeats 0
open List renaming length->Z,toArray->j1
open Option renaming none->Y,some->V
open Go.Value renaming slice->U,int->X,string->O,ownBlock->kF
open Bool renaming false->K,true->hG
open Go.IntKind renaming i64->J,i32->ky
open Go.Obj renaming cells->jj
open Go.Ending renaming returned->j3
open Or renaming inl->kn,inr->kp
open Go renaming World->kq,Value->ks
open Go.World renaming cell?->ku,ownsRow->kw
namespace Go.Proofs.YtoihbhenbmffcaaGreat
open Go.RowKit Go.Proofs.Tryz
variable{w:kq}{b n i m k j:Nat}{y:kJ ks}{T:TypeId}{z:ks}{e:kJ zA}{s:zA}{I:Int}
theorem Tryz.zl:(Tryz.prog.info? 21).map (λi=>(i.zero,i.size,i.bytes))=V (V (X ky 0),1,4):=by kernel_rfl
def LV:kJ ks->Nat->kJ ks->kJ ks
 |cs,_,[]=>cs
 |cs,o,v::r=>LV (cs.set o v) (o+1) r
def Gu:∀(b a:kJ ks) (o:Nat),o+Z b<=Z a->LV a o b=a.take o++b++a.drop (o+Z b)
 |[],a,o,h=>by simp[LV]
 |v::r,a,o,h=>by
  simp only[fD]at h;rw[LV,Gu r (a.set o v) (o+1) (by simp;omega)];have c:(a.set o v).take (o+1)=a.take o++[v]:=by
   rw[fm (by simp;omega),List.take_set_of_le (by omega)];simp
  have d:(a.set o v).drop (o+1+Z r)=a.drop (o+(Z r+1)):=by
   rw[List.drop_set_of_lt (by omega)]
   congr 1
   omega
  rw[c,d];simp
def Dm:∀(b a:kJ ks) (o:Nat),Z (LV a o b)=Z a
 |[],a,o=>rfl
 |v::r,a,o=>by rw[LV,Dm r];simp
def AF.setCells{b:Nat}{t:TypeId}:∀(c:kJ ks) {w:kq} {a:kJ ks} (o:Nat),AF w b a t->AF (w.setCells b o c) b (LV a o c) t
 |[],_,_,_,h=>h
 |v::r,w,a,o,h=>by
  rw[World.setCells,LV];exact AF.setCells r (o+1) (h.set o v)
def Ac.setCells{M:kJ Nat}{a:kq}{b:Nat}(c:b∈M\/a.heap.size<=b):∀(d:kJ ks) {w:kq} (o:Nat),Ac M a w->Ac M a (w.setCells b o d)
 |[],_,_,h=>h
 |v::r,w,o,h=>by
  rw[World.setCells];exact Ac.setCells c r (o+1) (h.setCell (p:=⟨b,o,Y⟩) c v)
def AF.shape{w:kq}{b:Nat}{a:kJ ks}{t:TypeId}(h:AF w b a t):w.shape? b=V (t,Z a):=by
 unfold AF at h;simp[World.shape?,h]
def AF.some(h:AF w b y T)(k:Nat)(a:k<Z y):(ku w ⟨b,k,Y⟩).isSome=hG:=by
 rw[h.cell,fI a];rfl
def ZW{b a:kJ ks}(j:b.take n=a)(f:Z a=n)(h:i<=n)(k:n+1<=Z b)(x:ks):
  (LV (LV b (i+1) (a.drop i)) i [x]).take (n+1)=a.take i++x::a.drop i:=by
 have c:Z (a.drop i)=n-i:=by rw[gD,f]
 rw[Gu [x] _ i (by rw[Dm];simp;omega),Gu (a.drop i) b (i+1) (by rw[c];omega)];have d:(b.take (i+1)++a.drop i++b.drop (i+1+Z (a.drop i))).take i=a.take i:=by
  rw[gF,gG (by simp;omega),je,iS (by omega),<-j,je,iS h]
 have g:(b.take (i+1)++a.drop i++b.drop (i+1+Z (a.drop i))).drop (i+[x].length)=a.drop i++b.drop (i+1+Z (a.drop i)):=by
  rw[gF,List.drop_left' (by simp;omega)]
 rw[d,g,gF,List.take_append,fo (by simp;omega)]
 congr 1
 have e:n+1-Z (a.take i)=(n-i)+1:=by simp;omega
 rw[e];simp only[kg,iO,ia,iX];rw[gG (by omega),fo (by omega)]
theorem Tryz.info98:(Tryz.prog.info? 98).map (λi=>(i.zero,i.size,i.bytes))=V (V (O ⟨#[]⟩),1,16):=by kernel_rfl
def QN(te sl fn ov bz:Nat)(z:ks):Prop:=
 (te=9/\sl=61/\fn=153/\ov=165/\bz=16/\z=O ⟨#[]⟩)\/(te=21/\sl=229/\fn=168/\ov=177/\bz=4/\z=X ky 0)\/(te=98/\sl=54/\fn=141/\ov=157/\bz=16/\z=O ⟨#[]⟩)
def QN.info{a c d e b:Nat}{z:ks}(h:QN a c d e b z):(prog.info? a).map (λi=>(i.zero,i.size,i.bytes))=V (V z,1,b):=by
 rcases h with⟨rfl,rfl,rfl,rfl,rfl,rfl⟩|⟨rfl,rfl,rfl,rfl,rfl,rfl⟩|⟨rfl,rfl,rfl,rfl,rfl,rfl⟩
 .exact Tryz.zk
 .exact Tryz.zl
 .exact Tryz.info98
def QN.ul(h:QN n m k i j z):prog.underlying m=V (.slice n):=by
 rcases h with⟨rfl,rfl,rfl,rfl,rfl,rfl⟩|⟨rfl,rfl,rfl,rfl,rfl,rfl⟩|⟨rfl,rfl,rfl,rfl,rfl,rfl⟩
 .exact underlying61
 .exact underlying229
 .exact underlying54
theorem QN.over(h:QN n m k i j z)(a:Array ks)(w:kq):(callFunc i a).run prog w=((Extern.SlicesOverlaps.overlaps #[m,m] #[4] a).run prog w).andThen λv b=> .ok (.value v) b:=by
 rcases h with⟨rfl,rfl,rfl,rfl,rfl,rfl⟩|⟨rfl,rfl,rfl,rfl,rfl,rfl⟩|⟨rfl,rfl,rfl,rfl,rfl,rfl⟩
 .exact jM func165 (by kernel_rfl) (by kernel_rfl) (by kernel_rfl) (by kernel_rfl) _ _
 .exact jM func177 (by kernel_rfl) (by kernel_rfl) (by kernel_rfl) (by kernel_rfl) _ _
 .exact jM func157 (by kernel_rfl) (by kernel_rfl) (by kernel_rfl) (by kernel_rfl) _ _
def QN.one(h:QN n m k i j z):z.cells=#[z]:=by
 rcases h with⟨_,_,_,_,_,rfl⟩|⟨_,_,_,_,_,rfl⟩|⟨_,_,_,_,_,rfl⟩<;>rfl
def QN.small(h:QN n m k i j z):j<=16:=by rcases h with h|h|h<;>omega
set_option maxRecDepth 100000
theorem Y4{b o F H bz:Nat}(p:QN b o F H bz z)(g n c i f:Nat)(d t:kJ ks)(k:ks)(w:kq)(hi:i<n)(CL:n+1<=c)(CC:c<=9223372036854775807)(D:f≠g)
  (BA:Z d=n) (q:AF w g t b) (AH:Z t=c) (S:t.take n=d) (s:AF w f [k] b) (AB:∀v∈d,v.oneCell'=hG) (T:k.oneCell'=hG):
  Calls prog F #[U (V ⟨g,0,Y⟩) n c,X J i,U (V ⟨f,0,Y⟩) 1 1] w λe Q=>
   e=j3 (U (V ⟨g,0,Y⟩) (n+1) c)/\Q=(w.drew.setCells g (i+1) (d.drop i)).setCells g i [k]:=by
 obtain⟨i0,P,B9,I,FF⟩:=gH p.info;have E:(prog.info? b).map (·.size)=V 1:=by rw[P];simp[I]
 have BT:∀w,(Go.sizeOf b).run prog w=.ok 1 w:=λw=>by simp[sizeOf,typeInfo,P,I]
 have L:∀j,j<n+1->(ku w ⟨g,j,Y⟩).isSome=hG:=λj a=>q.some j (by omega)
 have N:∀j,w.frozen? ⟨g,j,Y⟩=K:=λj=>q.frozen j
 have G:∀j v,d[j]?=V v->ku w ⟨g,j,Y⟩=V v:=λj v a=>by
  rw[q.cell];rw[<-S,iB]at a;split at a
  .exact a
  .cases a
 have W:∀y x,(callFunc H #[U (V ⟨f,0,Y⟩) 1 1,U (V ⟨g,i+1,Y⟩) y x]).run prog w=.ok (.value (.bool K)) w:=λy x=>by
  rw[p.over,Lib.run_overlaps_apart w o 4 b p.ul 1 BT ⟨f,0,Y⟩ ⟨g,i+1,Y⟩ 1 1 y x D b b 1 c (by simpa using s.shape) (by rw[<-AH];exact q.shape) (by omega) (s.frozen 0) (s.frozen 1)];rfl
 have AT:Z (d.drop i)=n-i:=by rw[gD,BA]
 have C:∀m h A,(Builtin.copy_ #[o,o] m #[U (V ⟨g,i+1,Y⟩) (n-i) h,U (V ⟨g,i,Y⟩) (n+1-i) A]).run prog w.drew=.ok (goInt (Z (d.drop i))) (w.drew.setCells g (i+1) (d.drop i)):=λm h A=>
  run_copy_cells w.drew _ _ m b g (i+1) (n-i) h ⟨g,i,Y⟩ (n+1-i) A (d.drop i) p.ul E (by rw[AT];simp only[jZ];split<;>omega)
   (λj v a=>by rw[iP];exact G (i+j) v (by rwa [jq]at a))
   (λj a=>L _ (by omega)) (λj a=>N _) (λv hv=>AB v (iT hv))
 obtain⟨l,r⟩:∃l,l=w.drew.setCells g (i+1) (d.drop i):=⟨_,rfl⟩;have u:AF l g (LV t (i+1) (d.drop i)) b:=by rw[r];exact q.drew.setCells _ _
 have B:AF l f [k] b:=by rw[r];exact s.drew.kept (Ac.setCells (M:=[g]) (by simp) _ _ (kL _ _)) (by simpa using D)
 have R:∀m h,(Builtin.copy_ #[o,o] m #[U (V ⟨g,i,Y⟩) (n+1-i) h,U (V ⟨f,0,Y⟩) 1 1]).run prog l=.ok (goInt [k].length) (l.setCells g i [k]):=λm h=>
  run_copy_cells l _ _ m b g i (n+1-i) h ⟨f,0,Y⟩ 1 1 [k] p.ul E (by simp only[jZ];split<;>simp<;>omega)
   (λj v a=>by rw[iP,gE,B.cell];exact a)
   (λj a=>u.some _ (by rw[Dm];simp at a;omega)) (λj a=>u.frozen _) (by simpa using T)
 rw[<-r]at C;have EY:IntKind.i64.wrap ((i:Int)+1)=(i:Int)+1:=by rw[jn];omega
 have EK:¬((i:Int)=(n:Int)):=by omega
 have FC:(0:Int)<=(i:Int)+1:=by omega
 have EX:i<=n:=by omega
 have CW:((i:Int)+1).toNat=i+1:=by omega
 have E0:¬(c=i+1):=by omega
 have FL:(i:Int)<=(n:Int)+1:=by omega
 have FB:¬(c=i):=by omega
 have mixed:prog.follows Departure.mixedOrders=hG:=by kernel_rfl
 have AR:=Ab r;clear q s u B G L N r;rcases p with⟨rfl,rfl,rfl,rfl,rfl,rfl⟩|⟨rfl,rfl,rfl,rfl,rfl,rfl⟩|⟨rfl,rfl,rfl,rfl,rfl,rfl⟩
 case' inl=>go_enter func153,ntmps153
 case' inr.inl=>go_enter func168,ntmps168
 case' inr.inr=>go_enter func141,ntmps141
 all_goals
  go_wp2_with (simp only[W])
  go_region_law_o (refine step_copy_runI rfl _ _ _ _ rfl _ _ (by simp[Act.eval,Act.put]) (by simp[Act.eval,Act.put]) (C _ _ _) ?_)
  go_wp2_with (at_builtin;refine wpList_copy_runI _ rfl _ _ _ _ rfl _ _ rfl rfl (R _ _) ?_)
  go_ret;exact⟨rfl,by rw[Aa AR]⟩
theorem ZO{a p fn ov bz:Nat}(m:QN a p fn ov bz z)(g n c i q:Nat)(k y:kJ ks)(f:ks)(w:kq)(hi:i<n)(HI:n<=c)(E0:c<n+1)(HM:n<=1000000)
  (Ha:Z k=n) (B:AF w g y a) (HG:Z y=c) (P:y.take n=k) (I:AF w q [f] a) (FL:∀v∈k,v.oneCell'=hG) (EX:f.oneCell'=hG):
  Calls prog fn #[U (V ⟨g,0,Y⟩) n c,X J i,U (V ⟨q,0,Y⟩) 1 1] w λe w'=>
   ∃(b:kJ ks) (G:Nat),Z b=G/\n+1<=G/\G<=maxLen/\b.take i=k.take i/\e=j3 (U (V ⟨w.heap.size,0,Y⟩) (n+1) G)/\
   w'=(((w.alloc (jj (j1 b) a)).drew.setCells w.heap.size i [f]).drew).setCells w.heap.size (i+1) (k.drop i):=by
 obtain⟨i0,B9,EK,Bx,BA⟩:=gH m.info;have mixed:prog.follows Departure.mixedOrders=hG:=by kernel_rfl
 have Ax:(prog.info? a).map (·.size)=V 1:=by rw[B9];simp[Bx]
 have HC:=B.lt;have HB:=I.lt;have R:(n:Int)+1-(i:Int)=((n+1-i:Nat):Int):=by omega
 have E:i+(n+1-i)=n+1:=by omega
 have AT:∀j v,k[j]?=V v->ku w ⟨g,j,Y⟩=V v:=λj v d=>by
  rw[B.cell];rw[<-P,iB]at d;split at d
  .exact d
  .cases d
 have T:(Builtin.firstCells i0.size i (U (V ⟨g,0,Y⟩) i c)).run prog w.drew=.ok (j1 (k.take i)) w.drew:=by
  rw[Bx];exact run_firstCells_some w.drew 1 i ⟨g,0,Y⟩ i c (k.take i) (by rw[gq];omega) (λj v d=>by
   rw[iP,gE]
   rw[iB]at d
   split at d
   .exact AT j v d
   .cases d)
 have u:∀l,(Builtin.append_ #[p,3] l #[U (V ⟨g,0,Y⟩) i c,X J ((n:Int)+1-(i:Int))]).run prog w=
   .ok (U (V ⟨w.heap.size,0,Y⟩) (n+1) (grownCap w (n+1) c a)) (w.drew.alloc (jj (j1 (k.take i)++Builtin.zeroCells z.cells (n+1-i)++Builtin.zeroCells z.cells (grownCap w (n+1) c a-(n+1))) a)):=λl=>by
  have h:=Lib.run_append_grow_zeros w p 3 l a i0 _ J J m.ul underlying3 B9 EK (V ⟨g,0,Y⟩) i c (k.take i) T (n+1-i) (by omega) (by omega) (by omega) (by omega) (by have:=m.small;rw[BA];exact gQ (Nat.mul_le_mul_left _ this) (by omega)) (by have:=m.small;rw[BA,E];exact growslice_fits E0 (gQ (Nat.mul_le_mul_left _ this) (by omega)));rw[E]at h;rw[R];exact h
 obtain⟨G,A⟩:∃G,G=grownCap w (n+1) c a:=⟨_,rfl⟩;obtain⟨b,t⟩:∃b:kJ ks,j1 b=j1 (k.take i)++Builtin.zeroCells z.cells (n+1-i)++Builtin.zeroCells z.cells (G-(n+1)):=⟨_,Array.toArray_toList⟩;rw[<-A]at u;rw[<-t]at u;have FO:n+1<=G:=by rw[A];exact grownCap_ge w _ _ _
 have D:G<=maxLen:=by rw[A];exact grownCap_le_maxLen w (n+1) c a (by unfold maxLen;omega)
 have CC:Z b=G:=by
  have:=congrArg Array.size t;simp[Builtin.zeroCells,m.one]at this;omega
 have AR:b.take i=k.take i:=by
  have h:=congrArg Array.toList t;simp only[Array.toList_append,gF]at h;rw[h,gG (by simp;omega)];simp[je]
 obtain⟨N,hN⟩:=kK w.heap.size;have s:AF (w.drew.alloc (jj (j1 b) a)) N b a:=by rw[<-hN];exact kN w.drew b a
 have S:AF (w.drew.alloc (jj (j1 b) a)) q [f] a:=I.drew.alloc _;have FB:∀(W:kq),(∀x,ku W x=ku (w.drew.alloc (jj (j1 b) a)) x)->(∀x,W.frozen? x=(w.drew.alloc (jj (j1 b) a)).frozen? x)->∀l o,(Builtin.copy_ #[p,p] l #[U (V ⟨N,i,Y⟩) (n+1-i) o,U (V ⟨q,0,Y⟩) 1 1]).run prog W=.ok (goInt [f].length) (W.setCells N i [f]):=λW r F l o=>
  run_copy_cells W _ _ l a N i (n+1-i) o ⟨q,0,Y⟩ 1 1 [f] m.ul Ax (by simp only[jZ];split<;>simp<;>omega)
   (λj v d=>by rw[iP,gE,r,S.cell];exact d)
   (λj d=>by rw[r];exact s.some _ (by simp at d;omega)) (λj d=>by rw[F];exact s.frozen _) (by simpa using EX)
 have C:AF ((w.drew.alloc (jj (j1 b) a)).setCells N i [f]) N (LV b i [f]) a:=s.setCells _ _;have Q:AF ((w.drew.alloc (jj (j1 b) a)).setCells N i [f]) g y a:=(B.drew.alloc _).kept (Ac.setCells (M:=[N]) (by simp) _ _ (kL _ _)) (by simp;omega);have FT:Z (k.drop i)=n-i:=by rw[gD,Ha]
 have L:∀(W:kq),(∀x,ku W x=ku ((w.drew.alloc (jj (j1 b) a)).setCells N i [f]) x)->(∀x,W.frozen? x=((w.drew.alloc (jj (j1 b) a)).setCells N i [f]).frozen? x)->∀l o H,(Builtin.copy_ #[p,p] l #[U (V ⟨N,i+1,Y⟩) (n-i) o,U (V ⟨g,i,Y⟩) (n-i) H]).run prog W=.ok (goInt (Z (k.drop i))) (W.setCells N (i+1) (k.drop i)):=λW r F l o H=>
  run_copy_cells W _ _ l a N (i+1) (n-i) o ⟨g,i,Y⟩ (n-i) H (k.drop i) m.ul Ax (by rw[FT];simp only[jZ];split<;>omega)
   (λj v d=>by
    rw[iP,r,Q.cell]
    rw[jq,<-P,iB]at d
    split at d
    .exact d
    .cases d)
   (λj d=>by rw[r];exact C.some _ (by rw[Dm];omega))
   (λj d=>by rw[F];exact C.frozen _) (λv hv=>FL v (iT hv))
 have EY:∀x,ku ((w.alloc (jj (j1 b) a)).drew) x=ku (w.drew.alloc (jj (j1 b) a)) x:=λx=>rfl
 have FW:∀x,((w.alloc (jj (j1 b) a)).drew).frozen? x=(w.drew.alloc (jj (j1 b) a)).frozen? x:=λx=>rfl
 have FF:∀x,ku (((w.alloc (jj (j1 b) a)).drew.setCells N i [f]).drew) x=ku ((w.drew.alloc (jj (j1 b) a)).setCells N i [f]) x:=λx=>rfl
 have HA:∀x,(((w.alloc (jj (j1 b) a)).drew.setCells N i [f]).drew).frozen? x=((w.drew.alloc (jj (j1 b) a)).setCells N i [f]).frozen? x:=λx=>rfl
 have HK:IntKind.i64.wrap ((i:Int)+1)=(i:Int)+1:=by rw[jn];omega
 have HF:¬((i:Int)=(n:Int)):=by omega
 have HO:(c:Int)<(n:Int)+1:=by omega
 have HQ:(0:Int)<=(i:Int)+1:=by omega
 have HH:i<=n:=by omega
 have HD:((i:Int)+1).toNat=i+1:=by omega
 have HR:(i:Int)<=(n:Int):=by omega
 have HP:¬(G=i):=by omega
 have HE:¬(G=i+1):=by omega
 have HL:¬(c=i):=by omega
 have HJ:G<=9223372036854775807:=by unfold maxLen at D;omega
 have CL:=Ab CC;have EM:=Ab AR;have FC:=Ab D;rw[hN]at u⊢;clear R E T t A CC AR D B I s S C Q AT;rcases m with⟨rfl,rfl,rfl,rfl,rfl,rfl⟩|⟨rfl,rfl,rfl,rfl,rfl,rfl⟩|⟨rfl,rfl,rfl,rfl,rfl,rfl⟩
 case' inl=>go_enter func153,ntmps153
 case' inr.inl=>go_enter func168,ntmps168
 case' inr.inr=>go_enter func141,ntmps141
 all_goals
  go_wp2_with (first
   |(at_builtin;refine Lib.wpList_append_run _ rfl _ _ _ _ rfl _ _ rfl rfl _ _ (u _) ?_)
   |(at_builtin;refine wpList_copy_runI _ rfl _ _ _ _ rfl _ _ rfl rfl (FB _ EY FW _ _) ?_)
   |(at_builtin;refine wpList_copy_runI _ rfl _ _ _ _ rfl _ _ rfl rfl (L _ (λ_=>rfl) (λ_=>rfl) _ _ _) ?_))
  go_region_law_o (refine step_copy_runI rfl _ _ _ _ rfl (U (V ⟨N,i+1,Y⟩) (n-i) (G-(i+1))) (U (V ⟨g,i,Y⟩) (n-i) (c-i)) (by simp[Act.eval,Act.put]) (by simp[Act.eval,Act.put]) (L _ FF HA 3 (G-(i+1)) (c-i)) ?_)
  go_wp2;go_ret;exact⟨b,G,CL,FO,FC,EM,rfl,rfl⟩
theorem Lq{s sl fn ov bz:Nat}(p:QN s sl fn ov bz z)(r:Option Addr)(d n:Nat)(l:kJ ks)(i:Nat)(x:ks)(t m:Nat)(w:kq)(q:kw w t s 1 (U r n d) n l)(f:Z l=n)(FL:n<=1000000)(hi:i<=n)(B:AF w m [x] s)(N:∀v∈l,v.oneCell'=hG)(y:x.oneCell'=hG)(T:(U r n d).ownBlock≠V m)(H:t<=w.heap.size):
  Calls prog fn #[U r n d,X J i,U (V ⟨m,0,Y⟩) 1 1] w λe C=>∃g cp,e=j3 (U (V ⟨g,0,Y⟩) (n+1) cp)/\kw C t s 1 (U (V ⟨g,0,Y⟩) (n+1) cp) (n+1) (Fq l i x)/\Ac (U r n d).ownBlock.toList w C/\((U r n d).ownBlock=V g\/w.heap.size<=g):=by
 have HM:=Kf (l:=l) (by omega) x (at_:=i);by_cases HT:i=n
 .subst HT;obtain⟨i0,BA,W,B9,AH⟩:=gH p.info;have HI:Hid (Fq l i x=l++[x]):=by
   show Fq l i x=l++[x];rw[Fq,fo (by omega),gr (by omega)]
  have HV:Hid (∀j u,[x][j]?=V u->ku w ((⟨m,0,Y⟩:Addr).add j)=V u):=λj u hu=>by rw[iP,gE,B.cell];exact hu
  have HL:=Ab q;have BT:=p.ul;have HY:=p.small;have H1:=Ab y;have CC:∀v∈[x],v.oneCell'=hG:=λv hv=>by rw[ft.1 hv];exact y
  have HX:=Ab CC;clear B HM N y CC T;cases r with
  |none=>
   have HA:i=0/\d=0:=by
    rcases q.2 with⟨b,D⟩|⟨g,c,o,b,_⟩
    .simp only[fg]at b;exact⟨D,b.2.2⟩
    .simp at b
   obtain⟨rfl,rfl⟩:=HA;have E0:l=[]:=jz.1 f;subst E0;clear q f;rcases p with⟨rfl,rfl,rfl,rfl,rfl,rfl⟩|⟨rfl,rfl,rfl,rfl,rfl,rfl⟩|⟨rfl,rfl,rfl,rfl,rfl,rfl⟩
   case' inl=>go_enter func153,ntmps153
   case' inr.inl=>go_enter func168,ntmps168
   case' inr.inr=>go_enter func141,ntmps141
   all_goals
    go_wp2_with (at_builtin;refine fO _ rfl _ _ _ rfl t _ i0 _ 1 _ BT BA W B9 AH rfl (by omega) (U Y 0 0) 0 [] rfl HL ⟨m,0,Y⟩ 1 1 [x] rfl rfl HV HX (by omega) (by unfold maxLen;omega) (by omega) H _ rfl ?_;intro R I w9 P L E FW)
    go_ret;refine⟨R,I,rfl,P,(kL _ w).grown L (λk F=>kn (by rw[jx];exact F)),?_⟩;rcases E with h|h
    .exact kn h
    .exact kp (by omega)
  |some a=>
   obtain⟨ab,ao,FP⟩:=a;have HS:ao=0/\FP=Y:=by
    rcases q.2 with⟨b,D⟩|⟨g,c,o,b,_⟩
    .simp at b
    .simp only[fg,fu,gi]at b;exact b.1.2
   obtain⟨rfl,rfl⟩:=HS;have FC:i<=d/\d<=maxLen:=by
    rcases q.2 with⟨b,D⟩|⟨g,c,o,b,_,_,h1,h2,_⟩
    .simp at b
    .simp only[fg]at b;rw[b.2.2];exact⟨h1,h2⟩
   obtain⟨EX,A⟩:=FC;unfold maxLen at A;clear q;rcases p with⟨rfl,rfl,rfl,rfl,rfl,rfl⟩|⟨rfl,rfl,rfl,rfl,rfl,rfl⟩|⟨rfl,rfl,rfl,rfl,rfl,rfl⟩
   case' inl=>go_enter func153,ntmps153
   case' inr.inl=>go_enter func168,ntmps168
   case' inr.inr=>go_enter func141,ntmps141
   all_goals
    go_wp2_with (at_builtin;refine fO _ rfl _ _ _ rfl t _ i0 _ 1 _ BT BA W B9 AH rfl (by omega) (U (V ⟨ab,0,Y⟩) i d) i l rfl HL ⟨m,0,Y⟩ 1 1 [x] rfl rfl HV HX (by omega) (by unfold maxLen;omega) (by omega) H _ rfl ?_;intro R I w9 P L E FW)
    all_goals
     go_ret;rw[Aa HI];refine⟨R,I,rfl,P,(kL _ w).grown L (λk F=>kn (by rw[jx];exact F)),?_⟩;rcases E with h|h
     .exact kn h
     .exact kp (by omega)
 .have EK:i<n:=by omega
  rcases q.2 with⟨b,D⟩|⟨g,c,o,b,hb,HC,EX,A,Go,HO⟩
  .omega
  .simp only[fg]at b;obtain⟨rfl,_,rfl⟩:=b;(have HP:m≠g:=λe=>T (by simp[kF,e]));(have M:AF w g o.toList s:=by unfold AF;simpa using HC);(have CL:Z o.toList=d:=by simpa using Go);(have S:o.toList.take n=l:=by simpa using HO);by_cases Ax:n+1<=d
   .refine(Y4 p g n d i m l o.toList x w EK Ax (by unfold maxLen at A;omega) HP f M CL S B N y).mono ?_;rintro e C ⟨rfl,rfl⟩;have Q:=(M.drew.setCells (l.drop i) (i+1)).setCells [x] i;refine⟨g,d,rfl,⟨?_,kp ⟨g,d,_,rfl,hb,Q,Ax,A,?_,?_⟩⟩,?_,kn rfl⟩
    .omega
    .simp only[gS,Dm];omega
    .simp only[Nat.mul_one];exact ZW S f hi (by omega) _
    .exact Ac.setCells (by simp[kF]) _ _ (Ac.setCells (by simp[kF]) _ _ (kL _ w).drew)
   .refine(ZO p g n d i m l o.toList x w EK EX (by omega) FL f M CL S B N y).mono ?_;rintro e C ⟨AT,G,HZ,Ha,HE,FO,rfl,rfl⟩;have Q:=((kN w AT s).drew.setCells [x] i).drew.setCells (l.drop i) (i+1);(have hd:Z (l.drop i)=n-i:=by rw[gD,f]);refine⟨w.heap.size,G,rfl,⟨?_,kp ⟨w.heap.size,G,_,rfl,H,Q,Ha,HE,?_,?_⟩⟩,?_,kp (fJ _)⟩
    .omega
    .simp only[gS,Dm];omega
    .simp only[Nat.mul_one];rw[Gu _ _ _ (by rw[Dm,hd];omega),Gu _ _ _ (by simp;omega),FO];have e1:(List.take i l++[x]++List.drop (i+[x].length) AT).take (i+1)=List.take i l++[x]:=by
      rw[gG (by simp only[fE,gq,fD,gh,gD,f];omega),fo (by simp only[fE,gq,fD,gh,gD,f];omega)]
     rw[e1,gG (by simp only[fE,gq,fD,gh,gD,f];omega),fo (by simp only[fE,gq,fD,gh,gD,f];omega)];simp[Fq]
    .exact Ac.setCells (kp (fJ _)) _ _ (Ac.setCells (kp (fJ _)) _ _ ((kL _ w).alloc _).drew).drew
def Vj(l:kJ zA):l.flatMap Ah=l.map (O):=by
 induction l with
 |nil=>rfl
 |cons a l ih=>rw[fN,fS,ih];rfl
def eJ(l:kJ zA):∀v∈l.flatMap Ah,v.oneCell'=hG:=by
 intro v b;rw[Vj]at b;obtain⟨a,_,rfl⟩:=fC.1 b;rfl
def Sa(l:kJ zA)(i:Nat)(x:zA):(Fq l i x).flatMap Ah=(l.flatMap Ah).take i++ O x::(l.flatMap Ah).drop i:=by
 rw[Vj,Vj,Fq,gn,fS,List.map_take,List.map_drop]
def TA(b:Option Addr)(a:Nat)(l:kJ zA)(i:Nat)(x:zA)(d c:Nat)(w:kq)(k:kw w d 9 1 (U b (Z l) a) (Z l) (l.flatMap Ah))(o:Z l<=1000000)(p:i<=Z l)(n:AF w c [O x] 9)(m:(U b (Z l) a).ownBlock≠V c)(j:d<=w.heap.size):
  Calls prog 153 #[U b (Z l) a,X J i,U (V ⟨c,0,Y⟩) 1 1] w λe f=>∃g h,e=j3 (U (V ⟨g,0,Y⟩) (Z l+1) h)/\kw f d 9 1 (U (V ⟨g,0,Y⟩) (Z l+1) h) (Z l+1) ((Fq l i x).flatMap Ah)/\Ac (U b (Z l) a).ownBlock.toList w f/\((U b (Z l) a).ownBlock=V g\/w.heap.size<=g):=by
 rw[Sa];exact Lq (kn ⟨rfl,rfl,rfl,rfl,rfl,rfl⟩) b a (Z l) (l.flatMap Ah) i (O x) d c w k (by rw[Vj];simp) o p n (eJ l) rfl m j
def Ig(l:kJ zA)(x:zA):Bool:=l.any λy=>dn y x
def Gr(l:kJ zA)(x:zA):Ig l x=hG↔x∈l:=by
 unfold Ig;rw[gV];constructor
 .rintro ⟨y,a,h⟩;rw[<-(Gp.eqv y x).1 h];exact a
 .intro h;exact⟨x,h,(Gp.eqv x x).2 rfl⟩
def C9.inS(a:Cz Fe e)(h:C9 Fe e 0 s n):DY dn e n s=Ig e s:=by
 rw[gU,h.has Gp a,Gr]
theorem RX(h:Option Addr)(f:Nat)(l:kJ zA)(x:zA)(m:Nat)(w:kq)(i:kw w m 9 1 (U h (Z l) f) (Z l) (l.flatMap Ah))(s:Z l<=1000000)(j:Cz Fe l):
  Calls prog 69 #[U h (Z l) f,O x] w λe k=>e=j3 (.bool (Ig l x))/\k=w:=by
 have o:=Ab (Rf (U h (Z l) f) l 0 x m w i s (fP _) j);have t:=Ab j;have u:=Ab i;clear i j;go_enter func69,ntmps69;go_wp2_with fail
 refine o.mono ?_;rintro e k ⟨b,rfl,c,rfl⟩;have q:=Ab (c.inS t);have y:=c.le;clear o c;by_cases a:b<Z l
 .obtain⟨g,v,p,z,n⟩:=AC u (by simp[Ah]) b a;simp only[fg]at p;obtain⟨rfl,_,rfl⟩:=p;have r:=n b a 0 (by omega);simp[Ah]at r;clear n;have d:Hid (Ig l x=dn l[b] x):=by show _=_;rw[<-Aa q];unfold DY;rw[dif_pos a]
  go_wp2;go_ret;rw[d.out];exact⟨rfl,rfl⟩
 .have d:Hid (Ig l x=K):=by show _=_;rw[<-Aa q];unfold DY;rw[dif_neg a]
  go_wp2;go_ret;rw[d.out];exact⟨rfl,rfl⟩
def MK(base:Nat)(lv:ks)(l:kJ zA)(x:zA)(w:kq)(e:Ending)(w':kq):Prop:=
 ∃(l':kJ zA) (ad':Option Addr) (cp':Nat),e=j3 (U ad' (Z l') cp')/\Cz Fe l'/\(∀y,y∈l'↔y=x\/y∈l)/\Z l<=Z l'/\Z l'<=Z l+1/\
  kw w' base 9 1 (U ad' (Z l') cp') (Z l') (l'.flatMap Ah)/\Ac lv.ownBlock.toList w w'/\(∀k,(U ad' (Z l') cp').ownBlock=V k->lv.ownBlock=V k\/w.heap.size<=k)
theorem Z9(d:Option Addr)(b:Nat)(l:kJ zA)(x:zA)(f:Nat)(w:kq)(B:kw w f 9 1 (U d (Z l) b) (Z l) (l.flatMap Ah))(I:Z l<=1000000)(C:Cz Fe l)(B9:f<=w.heap.size):
  Calls prog 132 #[U d (Z l) b,O x] w λe a=>MK f (U d (Z l) b) l x w e a:=by
 have N:=Ab (Rf (U d (Z l) b) l 0 x f w B I (fP _) C);have v:=Ab C;have p:=Ab B;clear B C;go_enter func132,ntmps132;go_wp2_with fail
 refine N.mono ?_;rintro e a ⟨c,rfl,n,rfl⟩;have G:=Ab (n.has Gp v);have u:=Ab n;have Q:=n.le;clear N n;have o:Hid (DY dn l c x=K->Calls prog 153 #[U d (Z l) b,X J c,U (V ⟨a.heap.size,0,Y⟩) 1 1] (a.alloc (jj #[O x] 9)) λe i=>MK f (U d (Z l) b) l x a e i):=by
  intro R;have hn:AF (a.alloc (jj [O x].toArray 9)) a.heap.size [O x] 9:=kN a [O x] 9;refine(TA d b l c x f a.heap.size _ (fw p _) I Q hn (λe=>by have:=(p.lt _ e).2;omega) (by simp;omega)).mono ?_;rintro e i ⟨g,cp,rfl,T,s,ha⟩;have M:=Kf (x:=x) Q;refine⟨Fq l c x,V ⟨g,0,Y⟩,cp,by rw[M],u.zH Gp v R,λy=>Nt x y,by omega,by omega,by rw[M];exact T,((kL _ a).alloc _).trans s,?_⟩;intro k H;simp only[kF,fu]at H;subst H;rcases ha with h|h
  .exact kn h
  .exact kp (by simp at h;omega)
 have q:Hid (DY dn l c x=hG->MK f (U d (Z l) b) l x a (j3 (U d (Z l) b)) a):=by
  intro AH;have hx:=G.1 AH;exact⟨l,d,b,rfl,v,λy=>⟨kp,λh=>by rcases h with rfl|h;exact hx;exact h⟩,by omega,by omega,p,kL _ _,λk s=>kn s⟩
 by_cases m:c<Z l
 .obtain⟨g,BT,P,hc,L⟩:=AC p (by simp[Ah]) c m;simp only[fg]at P;obtain⟨rfl,_,rfl⟩:=P;have S:=L c m 0 (by omega);simp[Ah]at S;clear L;have r:Hid (DY dn l c x=dn l[c] x):=by show _=_;unfold DY;rw[dif_pos m]
  have BA:Hid ((l[c].toList==x.toList)=hG->MK f (U (V ⟨g,0,Y⟩) (Z l) b) l x a (j3 (U (V ⟨g,0,Y⟩) (Z l) b)) a):=λt=>q (by rw[r.out];exact t)
  have AT:Hid ((l[c].toList==x.toList)=K->Calls prog 153 #[U (V ⟨g,0,Y⟩) (Z l) b,X J c,U (V ⟨a.heap.size,0,Y⟩) 1 1] (a.alloc (jj #[O x] 9)) λe i=>MK f (U (V ⟨g,0,Y⟩) (Z l) b) l x a e i):=λt=>o (by rw[r.out];exact t)
  clear r G u o q;go_wp2_with fail
  .go_ret;exact BA (by assumption)
  .refine(AT (by assumption)).mono ?_;intro e i D;obtain⟨E,z,A,rfl,j⟩:=D;have F:=Ab j;clear j;go_wp2;go_ret;exact⟨E,z,A,rfl,F⟩
 .have W:=Ab (o (by unfold DY;rw[dif_neg m]));clear G u o q;go_wp2_with fail
  refine W.mono ?_;intro e i D;obtain⟨E,z,A,rfl,j⟩:=D;have F:=Ab j;clear j;go_wp2;go_ret;exact⟨E,z,A,rfl,F⟩
def Zg(l:kJ Int):l.flatMap AU=l.map (X ky):=by
 induction l with
 |nil=>rfl
 |cons a l ih=>rw[fN,fS,ih];rfl
def e9(l:kJ Int):∀v∈l.flatMap AU,v.oneCell'=hG:=by
 intro v b;rw[Zg]at b;obtain⟨a,_,rfl⟩:=fC.1 b;rfl
def Y0(l:kJ Int)(i:Nat)(x:Int):(Fq l i x).flatMap AU=(l.flatMap AU).take i++ X ky x::(l.flatMap AU).drop i:=by
 rw[Zg,Zg,Fq,gn,fS,List.map_take,List.map_drop]
def Tt(b:Option Addr)(a:Nat)(l:kJ Int)(i:Nat)(x:Int)(d c:Nat)(w:kq)(k:kw w d 21 1 (U b (Z l) a) (Z l) (l.flatMap AU))(o:Z l<=1000000)(p:i<=Z l)(n:AF w c [X ky x] 21)(m:(U b (Z l) a).ownBlock≠V c)(j:d<=w.heap.size):
  Calls prog 168 #[U b (Z l) a,X J i,U (V ⟨c,0,Y⟩) 1 1] w λe f=>∃g h,e=j3 (U (V ⟨g,0,Y⟩) (Z l+1) h)/\kw f d 21 1 (U (V ⟨g,0,Y⟩) (Z l+1) h) (Z l+1) ((Fq l i x).flatMap AU)/\Ac (U b (Z l) a).ownBlock.toList w f/\((U b (Z l) a).ownBlock=V g\/w.heap.size<=g):=by
 rw[Y0];exact Lq (kp (kn ⟨rfl,rfl,rfl,rfl,rfl,rfl⟩)) b a (Z l) (l.flatMap AU) i (X ky x) d c w k (by rw[Zg];simp) o p n (e9 l) rfl m j
def JG(l:kJ Int)(x:Int):Bool:=l.any λy=>dO y x
def Qa(l:kJ Int)(x:Int):JG l x=hG↔x∈l:=by
 unfold JG;rw[gV];constructor
 .rintro ⟨y,a,h⟩;rw[<-(QC.eqv y x).1 h];exact a
 .intro h;exact⟨x,h,(QC.eqv x x).2 rfl⟩
def C9.inI{l:kJ Int}(a:Cz NW l)(h:C9 NW l 0 I n):DY dO l n I=JG l I:=by
 rw[gU,h.has QC a,Qa]
theorem YT(h:Option Addr)(f:Nat)(l:kJ Int)(x:Int)(m:Nat)(w:kq)(i:kw w m 21 1 (U h (Z l) f) (Z l) (l.flatMap AU))(s:Z l<=1000000)(j:Cz NW l):
  Calls prog 154 #[U h (Z l) f,X ky x] w λe k=>e=j3 (.bool (JG l x))/\k=w:=by
 have o:=Ab (Rg (U h (Z l) f) l 0 x m w i s (fP _) j);have t:=Ab j;have u:=Ab i;clear i j;go_enter func154,ntmps154;go_wp2_with fail
 refine o.mono ?_;rintro e k ⟨b,rfl,c,rfl⟩;have q:=Ab (c.inI t);have y:=c.le;clear o c;by_cases a:b<Z l
 .obtain⟨g,v,p,z,n⟩:=AC u (by simp[AU]) b a;simp only[fg]at p;obtain⟨rfl,_,rfl⟩:=p;have r:=n b a 0 (by omega);simp[AU]at r;clear n;have d:Hid (JG l x=dO l[b] x):=by show _=_;rw[<-Aa q];unfold DY;rw[dif_pos a]
  go_wp2;go_ret;rw[d.out];exact⟨rfl,rfl⟩
 .have d:Hid (JG l x=K):=by show _=_;rw[<-Aa q];unfold DY;rw[dif_neg a]
  go_wp2;go_ret;rw[d.out];exact⟨rfl,rfl⟩
def SQ(base:Nat)(lv:ks)(l:kJ Int)(x:Int)(w:kq)(e:Ending)(w':kq):Prop:=
 ∃(l':kJ Int) (ad':Option Addr) (cp':Nat),e=j3 (U ad' (Z l') cp')/\Cz NW l'/\(∀y,y∈l'↔y=x\/y∈l)/\Z l<=Z l'/\Z l'<=Z l+1/\
  kw w' base 21 1 (U ad' (Z l') cp') (Z l') (l'.flatMap AU)/\Ac lv.ownBlock.toList w w'/\(∀k,(U ad' (Z l') cp').ownBlock=V k->lv.ownBlock=V k\/w.heap.size<=k)
theorem ZB(d:Option Addr)(c:Nat)(l:kJ Int)(x:Int)(f:Nat)(w:kq)(C:kw w f 21 1 (U d (Z l) c) (Z l) (l.flatMap AU))(I:Z l<=1000000)(D:Cz NW l)(BA:f<=w.heap.size):
  Calls prog 155 #[U d (Z l) c,X ky x] w λe a=>SQ f (U d (Z l) c) l x w e a:=by
 have N:=Ab (Rg (U d (Z l) c) l 0 x f w C I (fP _) D);have z:=Ab D;have s:=Ab C;clear C D;go_enter func155,ntmps155;go_wp2_with fail
 refine N.mono ?_;rintro e a ⟨b,rfl,o,rfl⟩;have u:=Ab (o.has QC z);have r:=Ab o;have Q:=o.le;clear N o;have j:Hid (DY dO l b x=K->Calls prog 168 #[U d (Z l) c,X J b,U (V ⟨a.heap.size,0,Y⟩) 1 1] (a.alloc (jj #[X ky x] 21)) λe t=>SQ f (U d (Z l) c) l x a e t):=by
  intro R;have hn:AF (a.alloc (jj [X ky x].toArray 21)) a.heap.size [X ky x] 21:=kN a [X ky x] 21;refine(Tt d c l b x f a.heap.size _ (fw s _) I Q hn (λe=>by have:=(s.lt _ e).2;omega) (by simp;omega)).mono ?_;rintro e t ⟨g,cp,rfl,T,v,ha⟩;have M:=Kf (x:=x) Q;refine⟨Fq l b x,V ⟨g,0,Y⟩,cp,by rw[M],r.zH QC z R,λy=>Nt x y,by omega,by omega,by rw[M];exact T,((kL _ a).alloc _).trans v,?_⟩;intro k H;simp only[kF,fu]at H;subst H;rcases ha with h|h
  .exact kn h
  .exact kp (by simp at h;omega)
 have p:Hid (DY dO l b x=hG->SQ f (U d (Z l) c) l x a (j3 (U d (Z l) c)) a):=by
  intro AB;have W:=u.1 AB;exact⟨l,d,c,rfl,z,λy=>⟨kp,λh=>by rcases h with rfl|h;exact W;exact h⟩,by omega,by omega,s,kL _ _,λk v=>kn v⟩
 by_cases i:b<Z l
 .obtain⟨g,AT,P,hc,L⟩:=AC s (by simp[AU]) b i;simp only[fg]at P;obtain⟨rfl,_,rfl⟩:=P;have S:=L b i 0 (by omega);simp[AU]at S;clear L;have q:Hid (DY dO l b x=dO l[b] x):=by show _=_;unfold DY;rw[dif_pos i]
  have Bx:=Ab i;cases hq:dO l[b] x with
  |true=>
   have m:=Ab (p (by rw[q.out];exact hq));simp only[dO]at hq;clear q u r j p;go_wp2;go_ret;exact m
  |false=>
   have m:=Ab (j (by rw[q.out];exact hq));simp only[dO]at hq;clear q u r j p;(go_wp2_with fail);refine m.mono ?_;intro e t E;obtain⟨F,A,B,rfl,n⟩:=E;have G:=Ab n;clear n;go_wp2;go_ret;exact⟨F,A,B,rfl,G⟩
 .have m:=Ab (j (by unfold DY;rw[dif_neg i]));clear u r j p;go_wp2_with fail
  refine m.mono ?_;intro e t E;obtain⟨F,A,B,rfl,n⟩:=E;have G:=Ab n;clear n;go_wp2;go_ret;exact⟨F,A,B,rfl,G⟩
def M2(a:ks)(l:kJ zA)(k:Nat)(x:zA)(c:Nat)(w:kq)(g:kw w c 98 1 a (Z l) (l.flatMap Ah))(i:Z l<=1000000)(d:k<=Z l)(h:Cz Fe l):
  Calls prog 80 #[a,X J k,O x] w λe f=>∃b:Nat,e=j3 (X J b)/\C9 Fe l k x b/\f=w:=
 Rd (kp ⟨rfl,rfl⟩) a l k x c w g i d h
def Ts(b:Option Addr)(a:Nat)(l:kJ zA)(i:Nat)(x:zA)(d c:Nat)(w:kq)(k:kw w d 98 1 (U b (Z l) a) (Z l) (l.flatMap Ah))(o:Z l<=1000000)(p:i<=Z l)(n:AF w c [O x] 98)(m:(U b (Z l) a).ownBlock≠V c)(j:d<=w.heap.size):
  Calls prog 141 #[U b (Z l) a,X J i,U (V ⟨c,0,Y⟩) 1 1] w λe f=>∃g h,e=j3 (U (V ⟨g,0,Y⟩) (Z l+1) h)/\kw f d 98 1 (U (V ⟨g,0,Y⟩) (Z l+1) h) (Z l+1) ((Fq l i x).flatMap Ah)/\Ac (U b (Z l) a).ownBlock.toList w f/\((U b (Z l) a).ownBlock=V g\/w.heap.size<=g):=by
 rw[Sa];exact Lq (kp (kp ⟨rfl,rfl,rfl,rfl,rfl,rfl⟩)) b a (Z l) (l.flatMap Ah) i (O x) d c w k (by rw[Vj];simp) o p n (eJ l) rfl m j
def ME(base:Nat)(lv:ks)(l:kJ zA)(x:zA)(w:kq)(e:Ending)(w':kq):Prop:=
 ∃(l':kJ zA) (ad':Option Addr) (cp':Nat),e=j3 (U ad' (Z l') cp')/\Cz Fe l'/\(∀y,y∈l'↔y=x\/y∈l)/\Z l<=Z l'/\Z l'<=Z l+1/\
  kw w' base 98 1 (U ad' (Z l') cp') (Z l') (l'.flatMap Ah)/\Ac lv.ownBlock.toList w w'/\(∀k,(U ad' (Z l') cp').ownBlock=V k->lv.ownBlock=V k\/w.heap.size<=k)
theorem UJ(d:Option Addr)(b:Nat)(l:kJ zA)(x:zA)(f:Nat)(w:kq)(B:kw w f 98 1 (U d (Z l) b) (Z l) (l.flatMap Ah))(I:Z l<=1000000)(C:Cz Fe l)(B9:f<=w.heap.size):
  Calls prog 117 #[U d (Z l) b,O x] w λe a=>ME f (U d (Z l) b) l x w e a:=by
 have N:=Ab (M2 (U d (Z l) b) l 0 x f w B I (fP _) C);have v:=Ab C;have p:=Ab B;clear B C;go_enter func117,ntmps117;go_wp2_with fail
 refine N.mono ?_;rintro e a ⟨c,rfl,n,rfl⟩;have G:=Ab (n.has Gp v);have u:=Ab n;have Q:=n.le;clear N n;have o:Hid (DY dn l c x=K->Calls prog 141 #[U d (Z l) b,X J c,U (V ⟨a.heap.size,0,Y⟩) 1 1] (a.alloc (jj #[O x] 98)) λe i=>ME f (U d (Z l) b) l x a e i):=by
  intro R;have hn:AF (a.alloc (jj [O x].toArray 98)) a.heap.size [O x] 98:=kN a [O x] 98;refine(Ts d b l c x f a.heap.size _ (fw p _) I Q hn (λe=>by have:=(p.lt _ e).2;omega) (by simp;omega)).mono ?_;rintro e i ⟨g,cp,rfl,T,s,ha⟩;have M:=Kf (x:=x) Q;refine⟨Fq l c x,V ⟨g,0,Y⟩,cp,by rw[M],u.zH Gp v R,λy=>Nt x y,by omega,by omega,by rw[M];exact T,((kL _ a).alloc _).trans s,?_⟩;intro k H;simp only[kF,fu]at H;subst H;rcases ha with h|h
  .exact kn h
  .exact kp (by simp at h;omega)
 have q:Hid (DY dn l c x=hG->ME f (U d (Z l) b) l x a (j3 (U d (Z l) b)) a):=by
  intro AH;have hx:=G.1 AH;exact⟨l,d,b,rfl,v,λy=>⟨kp,λh=>by rcases h with rfl|h;exact hx;exact h⟩,by omega,by omega,p,kL _ _,λk s=>kn s⟩
 by_cases m:c<Z l
 .obtain⟨g,BT,P,hc,L⟩:=AC p (by simp[Ah]) c m;simp only[fg]at P;obtain⟨rfl,_,rfl⟩:=P;have S:=L c m 0 (by omega);simp[Ah]at S;clear L;have r:Hid (DY dn l c x=dn l[c] x):=by show _=_;unfold DY;rw[dif_pos m]
  have BA:Hid ((l[c].toList==x.toList)=hG->ME f (U (V ⟨g,0,Y⟩) (Z l) b) l x a (j3 (U (V ⟨g,0,Y⟩) (Z l) b)) a):=λt=>q (by rw[r.out];exact t)
  have AT:Hid ((l[c].toList==x.toList)=K->Calls prog 141 #[U (V ⟨g,0,Y⟩) (Z l) b,X J c,U (V ⟨a.heap.size,0,Y⟩) 1 1] (a.alloc (jj #[O x] 98)) λe i=>ME f (U (V ⟨g,0,Y⟩) (Z l) b) l x a e i):=λt=>o (by rw[r.out];exact t)
  clear r G u o q;go_wp2_with fail
  .go_ret;exact BA (by assumption)
  .refine(AT (by assumption)).mono ?_;intro e i D;obtain⟨E,z,A,rfl,j⟩:=D;have F:=Ab j;clear j;go_wp2;go_ret;exact⟨E,z,A,rfl,F⟩
 .have W:=Ab (o (by unfold DY;rw[dif_neg m]));clear G u o q;go_wp2_with fail
  refine W.mono ?_;intro e i D;obtain⟨E,z,A,rfl,j⟩:=D;have F:=Ab j;clear j;go_wp2;go_ret;exact⟨E,z,A,rfl,F⟩
