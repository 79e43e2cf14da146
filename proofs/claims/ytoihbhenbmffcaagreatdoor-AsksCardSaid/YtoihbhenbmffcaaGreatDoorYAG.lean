import Derived.Shelf.Spec.SlicesInsertGrow
import Derived.Test.YtoihbhenbmffcaaGreatDoorYAA
set_option linter.all false
set_option maxHeartbeats 0
namespace Go.Proofs.YtoihbhenbmffcaaGreatDoor
open Go.RowKit Go.Proofs.Tryz
theorem Tryz.gm:(Tryz.prog.info? 21).map (λi=>(i.zero,i.size,i.bytes))=some (some (.int .i32 0),1,4):=by kernel_rfl
def MG:List Value->Nat->List Value->List Value
 |cs,_,[]=>cs
 |cs,o,v::r=>MG (cs.set o v) (o+1) r
theorem GH:∀(b a:List Value) (o:Nat),o+b.length<=a.length->MG a o b=a.take o++b++a.drop (o+b.length)
 |[],a,o,h=>by simp[MG]
 |v::r,a,o,h=>by
  simp only[bU]at h;rw[MG,GH r (a.set o v) (o+1) (by simp;omega)];have c:(a.set o v).take (o+1)=a.take o++[v]:=by
   rw[bM (by simp;omega),List.take_set_of_le (by omega)];simp
  have d:(a.set o v).drop (o+1+r.length)=a.drop (o+(r.length+1)):=by
   rw[List.drop_set_of_lt (by omega)]
   congr 1
   omega
  rw[c,d];simp
theorem Da:∀(b a:List Value) (o:Nat),(MG a o b).length=a.length
 |[],a,o=>rfl
 |v::r,a,o=>by rw[MG,Da r];simp
theorem AE.setCells{b:Nat}{t:TypeId}:∀(c:List Value) {w:World} {a:List Value} (o:Nat),AE w b a t->AE (w.setCells b o c) b (MG a o c) t
 |[],_,_,_,h=>h
 |v::r,w,a,o,h=>by
  rw[World.setCells,MG];exact AE.setCells r (o+1) (h.set o v)
theorem Ac.setCells{M:List Nat}{a:World}{b:Nat}(c:b∈M\/a.heap.size<=b):∀(d:List Value) {w:World} (o:Nat),Ac M a w->Ac M a (w.setCells b o d)
 |[],_,_,h=>h
 |v::r,w,o,h=>by
  rw[World.setCells];exact Ac.setCells c r (o+1) (h.setCell (p:=⟨b,o,none⟩) c v)
theorem AE.shape{w:World}{b:Nat}{cs:List Value}{t:TypeId}(h:AE w b cs t):w.shape? b=some (t,cs.length):=by
 unfold AE at h;simp[World.shape?,h]
theorem AE.some{w:World}{b:Nat}{cs:List Value}{t:TypeId}(h:AE w b cs t)(k:Nat)(a:k<cs.length):(w.cell? ⟨b,k,none⟩).isSome=true:=by
 rw[h.cell,bW a];rfl
theorem Yu{a cs:List Value}{n i:Nat}(h:a.take n=cs)(e:cs.length=n)(f:i<=n)(j:n+1<=a.length)(x:Value):
  (MG (MG a (i+1) (cs.drop i)) i [x]).take (n+1)=cs.take i++x::cs.drop i:=by
 have b:(cs.drop i).length=n-i:=by rw[cQ,e]
 rw[GH [x] _ i (by rw[Da];simp;omega),GH (cs.drop i) a (i+1) (by rw[b];omega)];have c:(a.take (i+1)++cs.drop i++a.drop (i+1+(cs.drop i).length)).take i=cs.take i:=by
  rw[dd,cX (by simp;omega),fd,eF (by omega),<-h,fd,eF f]
 have g:(a.take (i+1)++cs.drop i++a.drop (i+1+(cs.drop i).length)).drop (i+[x].length)=cs.drop i++a.drop (i+1+(cs.drop i).length):=by
  rw[dd,List.drop_left' (by simp;omega)]
 rw[c,g,dd,List.take_append,bP (by simp;omega)]
 congr 1
 have d:n+1-(cs.take i).length=(n-i)+1:=by simp;omega
 rw[d];simp only[fU,dG,dm,eG];rw[cX (by omega),bP (by omega)]
end Go.Proofs.YtoihbhenbmffcaaGreatDoor
namespace Go.Proofs.YtoihbhenbmffcaaGreatDoor
open Go.RowKit Go.Proofs.Tryz
theorem Tryz.gZ:(Tryz.prog.info? 170).map (λi=>(i.zero,i.size,i.bytes))=some (some (.string ⟨#[]⟩),1,16):=by kernel_rfl
def UE(te sl fn ov bz:Nat)(z:Value):Prop:=
 (te=9/\sl=41/\fn=218/\ov=231/\bz=16/\z=.string ⟨#[]⟩)\/(te=21/\sl=234/\fn=220/\ov=233/\bz=4/\z=.int .i32 0)\/(te=170/\sl=102/\fn=214/\ov=229/\bz=16/\z=.string ⟨#[]⟩)
section
variable {te sl fn ov bz:Nat} {z:Value} (h:UE te sl fn ov bz z)
include h
theorem UE.info:(prog.info? te).map (λi=>(i.zero,i.size,i.bytes))=some (some z,1,bz):=by
 rcases h with⟨rfl,rfl,rfl,rfl,rfl,rfl⟩|⟨rfl,rfl,rfl,rfl,rfl,rfl⟩|⟨rfl,rfl,rfl,rfl,rfl,rfl⟩
 .exact Tryz.gW
 .exact Tryz.gm
 .exact Tryz.gZ
theorem UE.ul:prog.underlying sl=some (.slice te):=by
 rcases h with⟨rfl,rfl,rfl,rfl,rfl,rfl⟩|⟨rfl,rfl,rfl,rfl,rfl,rfl⟩|⟨rfl,rfl,rfl,rfl,rfl,rfl⟩
 .exact underlying41
 .exact underlying234
 .exact underlying102
theorem UE.over(args:Array Value)(w:World):(callFunc ov args).run prog w=((Extern.SlicesOverlaps.overlaps #[sl,sl] #[4] args).run prog w).andThen λv a=> .ok (.value v) a:=by
 rcases h with⟨rfl,rfl,rfl,rfl,rfl,rfl⟩|⟨rfl,rfl,rfl,rfl,rfl,rfl⟩|⟨rfl,rfl,rfl,rfl,rfl,rfl⟩
 .exact fw func231 (by kernel_rfl) (by kernel_rfl) (by kernel_rfl) (by kernel_rfl) _ _
 .exact fw func233 (by kernel_rfl) (by kernel_rfl) (by kernel_rfl) (by kernel_rfl) _ _
 .exact fw func229 (by kernel_rfl) (by kernel_rfl) (by kernel_rfl) (by kernel_rfl) _ _
theorem UE.one:z.cells=#[z]:=by
 rcases h with⟨_,_,_,_,_,rfl⟩|⟨_,_,_,_,_,rfl⟩|⟨_,_,_,_,_,rfl⟩<;>rfl
theorem UE.small:bz<=16:=by rcases h with h|h|h<;>omega
end
set_option maxRecDepth 100000
theorem XB{b m fn F Q:Nat}{z:Value}(o:UE b m fn F Q z)(g n c i d:Nat)(cs s:List Value)(h:Value)(w:World)(hi:i<n)(Ax:n+1<=c)(Z:c<=9223372036854775807)(C:d≠g)
  (W:cs.length=n) (p:AE w g s b) (S:s.length=c) (N:s.take n=cs) (r:AE w d [h] b) (R:∀v∈cs,v.oneCell'=true) (O:h.oneCell'=true):
  Calls prog fn #[.slice (some ⟨g,0,none⟩) n c,.int .i64 i,.slice (some ⟨d,0,none⟩) 1 1] w λe K=>
   e=.returned (.slice (some ⟨g,0,none⟩) (n+1) c)/\K=(w.drew.setCells g (i+1) (cs.drop i)).setCells g i [h]:=by
 obtain⟨i0,J,Y,G,CL⟩:=cU o.info;have D:(prog.info? b).map (·.size)=some 1:=by rw[J];simp[G]
 have X:∀w,(Go.sizeOf b).run prog w=.ok 1 w:=λw=>by simp[sizeOf,typeInfo,J,G]
 have H:∀j,j<n+1->(w.cell? ⟨g,j,none⟩).isSome=true:=λj a=>p.some j (by omega)
 have I:∀j,w.frozen? ⟨g,j,none⟩=false:=λj=>p.frozen j
 have E:∀j v,cs[j]?=some v->w.cell? ⟨g,j,none⟩=some v:=λj v a=>by
  rw[p.cell];rw[<-N,dz]at a;split at a
  .exact a
  .cases a
 have P:∀x u,(callFunc F #[.slice (some ⟨d,0,none⟩) 1 1,.slice (some ⟨g,i+1,none⟩) x u]).run prog w=.ok (.value (.bool false)) w:=λx u=>by
  rw[o.over,Lib.run_overlaps_apart w m 4 b o.ul 1 X ⟨d,0,none⟩ ⟨g,i+1,none⟩ 1 1 x u C b b 1 c (by simpa using r.shape) (by rw[<-S];exact p.shape) (by omega) (r.frozen 0) (r.frozen 1)];rfl
 have U:(cs.drop i).length=n-i:=by rw[cQ,W]
 have B:∀l f y,(Builtin.copy_ #[m,m] l #[.slice (some ⟨g,i+1,none⟩) (n-i) f,.slice (some ⟨g,i,none⟩) (n+1-i) y]).run prog w.drew=.ok (goInt (cs.drop i).length) (w.drew.setCells g (i+1) (cs.drop i)):=λl f y=>
  run_copy_cells w.drew _ _ l b g (i+1) (n-i) f ⟨g,i,none⟩ (n+1-i) y (cs.drop i) o.ul D (by rw[U];simp only[fK];split<;>omega)
   (λj v a=>by rw[ed];exact E (i+j) v (by rwa [fg]at a))
   (λj a=>H _ (by omega)) (λj a=>I _) (λv V=>R v (eo V))
 obtain⟨k,q⟩:∃k,k=w.drew.setCells g (i+1) (cs.drop i):=⟨_,rfl⟩;have t:AE k g (MG s (i+1) (cs.drop i)) b:=by rw[q];exact p.drew.setCells _ _
 have A:AE k d [h] b:=by rw[q];exact r.drew.kept (Ac.setCells (M:=[g]) (by simp) _ _ (Ac.refl _ _)) (by simpa using C)
 have L:∀l f,(Builtin.copy_ #[m,m] l #[.slice (some ⟨g,i,none⟩) (n+1-i) f,.slice (some ⟨d,0,none⟩) 1 1]).run prog k=.ok (goInt [h].length) (k.setCells g i [h]):=λl f=>
  run_copy_cells k _ _ l b g i (n+1-i) f ⟨d,0,none⟩ 1 1 [h] o.ul D (by simp only[fK];split<;>simp<;>omega)
   (λj v a=>by rw[ed,cV,A.cell];exact a)
   (λj a=>t.some _ (by rw[Da];simp at a;omega)) (λj a=>t.frozen _) (by simpa using O)
 rw[<-q]at B;have Bx:IntKind.i64.wrap ((i:Int)+1)=(i:Int)+1:=by rw[eM];omega
 have AH:¬((i:Int)=(n:Int)):=by omega
 have CC:(0:Int)<=(i:Int)+1:=by omega
 have AT:i<=n:=by omega
 have AB:((i:Int)+1).toNat=i+1:=by omega
 have BA:¬(c=i+1):=by omega
 have EK:(i:Int)<=(n:Int)+1:=by omega
 have B9:¬(c=i):=by omega
 have mixed:prog.follows Departure.mixedOrders=true:=by kernel_rfl
 have T:=Ab q;clear p r t A E H I q;rcases o with⟨rfl,rfl,rfl,rfl,rfl,rfl⟩|⟨rfl,rfl,rfl,rfl,rfl,rfl⟩|⟨rfl,rfl,rfl,rfl,rfl,rfl⟩
 case' inl=>go_enter func218,ntmps218
 case' inr.inl=>go_enter func220,ntmps220
 case' inr.inr=>go_enter func214,ntmps214
 all_goals
  go_wp2_with (simp only[P])
  go_region_law_o (refine step_copy_runI rfl _ _ _ _ rfl _ _ (by simp[Act.eval,Act.put]) (by simp[Act.eval,Act.put]) (B _ _ _) ?_)
  go_wp2_with (at_builtin;refine wpList_copy_runI _ rfl _ _ _ _ rfl _ _ rfl rfl (L _ _) ?_)
  go_ret;exact⟨rfl,by rw[Aa T]⟩
theorem Ym{a o fn ov bz:Nat}{z:Value}(l:UE a o fn ov bz z)(g n c i p:Nat)(cs u:List Value)(f:Value)(w:World)(hi:i<n)(HC:n<=c)(BA:c<n+1)(HG:n<=1000000)
  (FL:cs.length=n) (A:AE w g u a) (HA:u.length=c) (I:u.take n=cs) (H:AE w p [f] a) (ES:∀v∈cs,v.oneCell'=true) (Bx:f.oneCell'=true):
  Calls prog fn #[.slice (some ⟨g,0,none⟩) n c,.int .i64 i,.slice (some ⟨p,0,none⟩) 1 1] w λe w'=>
   ∃(b:List Value) (G:Nat),b.length=G/\n+1<=G/\G<=maxLen/\b.take i=cs.take i/\e=.returned (.slice (some ⟨w.heap.size,0,none⟩) (n+1) G)/\
   w'=(((w.alloc (.cells b.toArray a)).drew.setCells w.heap.size i [f]).drew).setCells w.heap.size (i+1) (cs.drop i):=by
 obtain⟨Q,Y,AH,T,U⟩:=cU l.info;have mixed:prog.follows Departure.mixedOrders=true:=by kernel_rfl
 have P:(prog.info? a).map (·.size)=some 1:=by rw[Y];simp[T]
 have FP:=A.lt;have FO:=H.lt;have K:(n:Int)+1-(i:Int)=((n+1-i:Nat):Int):=by omega
 have D:i+(n+1-i)=n+1:=by omega
 have S:∀j v,cs[j]?=some v->w.cell? ⟨g,j,none⟩=some v:=λj v d=>by
  rw[A.cell];rw[<-I,dz]at d;split at d
  .exact d
  .cases d
 have O:(Builtin.firstCells Q.size i (.slice (some ⟨g,0,none⟩) i c)).run prog w.drew=.ok (cs.take i).toArray w.drew:=by
  rw[T];exact run_firstCells_some w.drew 1 i ⟨g,0,none⟩ i c (cs.take i) (by rw[cM];omega) (λj v d=>by
   rw[ed,cV]
   rw[dz]at d
   split at d
   .exact S j v d
   .cases d)
 have t:∀k,(Builtin.append_ #[o,3] k #[.slice (some ⟨g,0,none⟩) i c,.int .i64 ((n:Int)+1-(i:Int))]).run prog w=
   .ok (.slice (some ⟨w.heap.size,0,none⟩) (n+1) (grownCap w (n+1) c a)) (w.drew.alloc (.cells ((cs.take i).toArray++Builtin.zeroCells z.cells (n+1-i)++Builtin.zeroCells z.cells (grownCap w (n+1) c a-(n+1))) a)):=λk=>by
  have h:=Lib.run_append_grow_zeros w o 3 k a Q _ .i64 .i64 l.ul underlying3 Y AH (some ⟨g,0,none⟩) i c (cs.take i) O (n+1-i) (by omega) (by omega) (by omega) (by omega) (by have:=l.small;rw[U];exact da (Nat.mul_le_mul_left _ this) (by omega)) (by have:=l.small;rw[U,D];exact growslice_fits BA (da (Nat.mul_le_mul_left _ this) (by omega)));rw[D]at h;rw[K];exact h
 obtain⟨G,y⟩:∃G,G=grownCap w (n+1) c a:=⟨_,rfl⟩;obtain⟨b,s⟩:∃b:List Value,b.toArray=(cs.take i).toArray++Builtin.zeroCells z.cells (n+1-i)++Builtin.zeroCells z.cells (G-(n+1)):=⟨_,Array.toArray_toList⟩;rw[<-y]at t;rw[<-s]at t;have EX:n+1<=G:=by rw[y];exact grownCap_ge w _ _ _
 have C:G<=maxLen:=by rw[y];exact grownCap_le_maxLen w (n+1) c a (by unfold maxLen;omega)
 have Z:b.length=G:=by
  have:=congrArg Array.size s;simp[Builtin.zeroCells,l.one]at this;omega
 have R:b.take i=cs.take i:=by
  have h:=congrArg Array.toList s;simp only[Array.toList_append,dd]at h;rw[h,cX (by simp;omega)];simp[fd]
 obtain⟨N,X⟩:∃N,w.heap.size=N:=⟨_,rfl⟩;have r:AE (w.drew.alloc (.cells b.toArray a)) N b a:=by rw[<-X];exact AE.new w.drew b a
 have L:AE (w.drew.alloc (.cells b.toArray a)) p [f] a:=H.drew.alloc _;have CC:∀(W:World),(∀x,W.cell? x=(w.drew.alloc (.cells b.toArray a)).cell? x)->(∀x,W.frozen? x=(w.drew.alloc (.cells b.toArray a)).frozen? x)->∀k m,(Builtin.copy_ #[o,o] k #[.slice (some ⟨N,i,none⟩) (n+1-i) m,.slice (some ⟨p,0,none⟩) 1 1]).run prog W=.ok (goInt [f].length) (W.setCells N i [f]):=λW q E k m=>
  run_copy_cells W _ _ k a N i (n+1-i) m ⟨p,0,none⟩ 1 1 [f] l.ul P (by simp only[fK];split<;>simp<;>omega)
   (λj v d=>by rw[ed,cV,q,L.cell];exact d)
   (λj d=>by rw[q];exact r.some _ (by simp at d;omega)) (λj d=>by rw[E];exact r.frozen _) (by simpa using Bx)
 have B:AE ((w.drew.alloc (.cells b.toArray a)).setCells N i [f]) N (MG b i [f]) a:=r.setCells _ _;have J:AE ((w.drew.alloc (.cells b.toArray a)).setCells N i [f]) g u a:=(A.drew.alloc _).kept (Ac.setCells (M:=[N]) (by simp) _ _ (Ac.refl _ _)) (by simp;omega);have FA:(cs.drop i).length=n-i:=by rw[cQ,FL]
 have V:∀(W:World),(∀x,W.cell? x=((w.drew.alloc (.cells b.toArray a)).setCells N i [f]).cell? x)->(∀x,W.frozen? x=((w.drew.alloc (.cells b.toArray a)).setCells N i [f]).frozen? x)->∀k m F,(Builtin.copy_ #[o,o] k #[.slice (some ⟨N,i+1,none⟩) (n-i) m,.slice (some ⟨g,i,none⟩) (n-i) F]).run prog W=.ok (goInt (cs.drop i).length) (W.setCells N (i+1) (cs.drop i)):=λW q E k m F=>
  run_copy_cells W _ _ k a N (i+1) (n-i) m ⟨g,i,none⟩ (n-i) F (cs.drop i) l.ul P (by rw[FA];simp only[fK];split<;>omega)
   (λj v d=>by
    rw[ed,q,J.cell]
    rw[fg,<-I,dz]at d
    split at d
    .exact d
    .cases d)
   (λj d=>by rw[q];exact B.some _ (by rw[Da];omega))
   (λj d=>by rw[E];exact B.frozen _) (λv hv=>ES v (eo hv))
 have AT:∀x,((w.alloc (.cells b.toArray a)).drew).cell? x=(w.drew.alloc (.cells b.toArray a)).cell? x:=λx=>rfl
 have FC:∀x,((w.alloc (.cells b.toArray a)).drew).frozen? x=(w.drew.alloc (.cells b.toArray a)).frozen? x:=λx=>rfl
 have EK:∀x,(((w.alloc (.cells b.toArray a)).drew.setCells N i [f]).drew).cell? x=((w.drew.alloc (.cells b.toArray a)).setCells N i [f]).cell? x:=λx=>rfl
 have BT:∀x,(((w.alloc (.cells b.toArray a)).drew.setCells N i [f]).drew).frozen? x=((w.drew.alloc (.cells b.toArray a)).setCells N i [f]).frozen? x:=λx=>rfl
 have HE:IntKind.i64.wrap ((i:Int)+1)=(i:Int)+1:=by rw[eM];omega
 have Ha:¬((i:Int)=(n:Int)):=by omega
 have HI:(c:Int)<(n:Int)+1:=by omega
 have HK:(0:Int)<=(i:Int)+1:=by omega
 have HB:i<=n:=by omega
 have FW:((i:Int)+1).toNat=i+1:=by omega
 have HL:(i:Int)<=(n:Int):=by omega
 have HJ:¬(G=i):=by omega
 have Go:¬(G=i+1):=by omega
 have HF:¬(c=i):=by omega
 have HD:G<=9223372036854775807:=by unfold maxLen at C;omega
 have Ax:=Ab Z;have AO:=Ab R;have CL:=Ab C;rw[X]at t⊢;clear K D O s y Z R C A H r L B J S;rcases l with⟨rfl,rfl,rfl,rfl,rfl,rfl⟩|⟨rfl,rfl,rfl,rfl,rfl,rfl⟩|⟨rfl,rfl,rfl,rfl,rfl,rfl⟩
 case' inl=>go_enter func218,ntmps218
 case' inr.inl=>go_enter func220,ntmps220
 case' inr.inr=>go_enter func214,ntmps214
 all_goals
  go_wp2_with (first
   |(at_builtin;refine Lib.wpList_append_run _ rfl _ _ _ _ rfl _ _ rfl rfl _ _ (t _) ?_)
   |(at_builtin;refine wpList_copy_runI _ rfl _ _ _ _ rfl _ _ rfl rfl (CC _ AT FC _ _) ?_)
   |(at_builtin;refine wpList_copy_runI _ rfl _ _ _ _ rfl _ _ rfl rfl (V _ (λ_=>rfl) (λ_=>rfl) _ _ _) ?_))
  go_region_law_o (refine step_copy_runI rfl _ _ _ _ rfl (.slice (some ⟨N,i+1,none⟩) (n-i) (G-(i+1))) (.slice (some ⟨g,i,none⟩) (n-i) (c-i)) (by simp[Act.eval,Act.put]) (by simp[Act.eval,Act.put]) (V _ EK BT 3 (G-(i+1)) (c-i)) ?_)
  go_wp2;go_ret;exact⟨b,G,Aa Ax,EX,Aa CL,Aa AO,rfl,rfl⟩
theorem KF{r sl fn ov bz:Nat}{z:Value}(o:UE r sl fn ov bz z)(q:Option Addr)(cap n:Nat)(l:List Value)(i:Nat)(x:Value)(base f:Nat)(w:World)(p:w.ownsRow base r 1 (.slice q n cap) n l)(d:l.length=n)(FO:n<=1000000)(hi:i<=n)(B:AE w f [x] r)(I:∀v∈l,v.oneCell'=true)(s:x.oneCell'=true)(O:(Value.slice q n cap).ownBlock≠some f)(E:base<=w.heap.size):
  Calls prog fn #[.slice q n cap,.int .i64 i,.slice (some ⟨f,0,none⟩) 1 1] w λe t=>∃g cp,e=.returned (.slice (some ⟨g,0,none⟩) (n+1) cp)/\t.ownsRow base r 1 (.slice (some ⟨g,0,none⟩) (n+1) cp) (n+1) (Fc l i x)/\Ac (Value.slice q n cap).ownBlock.toList w t/\((Value.slice q n cap).ownBlock=some g\/w.heap.size<=g):=by
 have HK:=JK (l:=l) (by omega) x (at_:=i);by_cases FP:i=n
 .subst FP;obtain⟨U,AH,P,S,V⟩:=cU o.info;have HI:Hid (Fc l i x=l++[x]):=by
   show Fc l i x=l++[x];rw[Fc,bP (by omega),cG (by omega)]
  have HV:Hid (∀j u,[x][j]?=some u->w.cell? ((⟨f,0,none⟩:Addr).add j)=some u):=λj u hu=>by rw[ed,cV,B.cell];exact hu
  have X:=Ab p;have R:=o.ul;have HQ:=o.small;have H1:=Ab s;have T:∀v∈[x],v.oneCell'=true:=λv hv=>by rw[bO.1 hv];exact s
  have HX:=Ab T;clear B HK I s T O;cases q with
  |none=>
   have HH:i=0/\cap=0:=by
    rcases p.2 with⟨b,y⟩|⟨g,c,m,b,_⟩
    .simp only[bK]at b;exact⟨y,b.2.2⟩
    .simp at b
   obtain⟨rfl,rfl⟩:=HH;have B9:l=[]:=e9.1 d;subst B9;clear p d;rcases o with⟨rfl,rfl,rfl,rfl,rfl,rfl⟩|⟨rfl,rfl,rfl,rfl,rfl,rfl⟩|⟨rfl,rfl,rfl,rfl,rfl,rfl⟩
   case' inl=>go_enter func218,ntmps218
   case' inr.inl=>go_enter func220,ntmps220
   case' inr.inr=>go_enter func214,ntmps214
   all_goals
    go_wp2_with (at_builtin;refine cd _ rfl _ _ _ rfl base _ U _ 1 _ R AH P S V rfl (by omega) (.slice none 0 0) 0 [] rfl (Aa X) ⟨f,0,none⟩ 1 1 [x] rfl rfl (Aa HV) (Aa HX) (by omega) (by unfold maxLen;omega) (by omega) E _ rfl ?_;intro K F w9 J H C HF)
    go_ret;refine⟨K,F,rfl,J,(Ac.refl _ w).grown H (λk D=>Or.inl (by rw[fL];exact D)),?_⟩;rcases C with h|h
    .exact Or.inl h
    .exact Or.inr (by omega)
  |some a=>
   obtain⟨ab,ao,Ha⟩:=a;have FC:ao=0/\Ha=none:=by
    rcases p.2 with⟨b,y⟩|⟨g,c,m,b,_⟩
    .simp at b
    .simp only[bK,bR,cI]at b;exact b.1.2
   obtain⟨rfl,rfl⟩:=FC;have FF:i<=cap/\cap<=maxLen:=by
    rcases p.2 with⟨b,y⟩|⟨g,c,m,b,_,_,h1,h2,_⟩
    .simp at b
    .simp only[bK]at b;rw[b.2.2];exact⟨h1,h2⟩
   obtain⟨AO,A⟩:=FF;unfold maxLen at A;clear p;rcases o with⟨rfl,rfl,rfl,rfl,rfl,rfl⟩|⟨rfl,rfl,rfl,rfl,rfl,rfl⟩|⟨rfl,rfl,rfl,rfl,rfl,rfl⟩
   case' inl=>go_enter func218,ntmps218
   case' inr.inl=>go_enter func220,ntmps220
   case' inr.inr=>go_enter func214,ntmps214
   all_goals
    go_wp2_with (at_builtin;refine cd _ rfl _ _ _ rfl base _ U _ 1 _ R AH P S V rfl (by omega) (.slice (some ⟨ab,0,none⟩) i cap) i l rfl (Aa X) ⟨f,0,none⟩ 1 1 [x] rfl rfl (Aa HV) (Aa HX) (by omega) (by unfold maxLen;omega) (by omega) E _ rfl ?_;intro K F w9 J H C HF)
    all_goals
     go_ret;rw[Aa HI];refine⟨K,F,rfl,J,(Ac.refl _ w).grown H (λk D=>Or.inl (by rw[fL];exact D)),?_⟩;rcases C with h|h
     .exact Or.inl h
     .exact Or.inr (by omega)
 .have Y:i<n:=by omega
  rcases p.2 with⟨b,y⟩|⟨g,c,m,b,hb,HM,AO,A,HA,CC⟩
  .omega
  .simp only[bK]at b;obtain⟨rfl,_,rfl⟩:=b;(have CL:f≠g:=λe=>O (by simp[Value.ownBlock,e]));(have N:AE w g m.toList r:=by unfold AE;simpa using HM);(have W:m.toList.length=cap:=by simpa using HA);(have M:m.toList.take n=l:=by simpa using CC);by_cases Q:n+1<=cap
   .refine(XB o g n cap i f l m.toList x w Y Q (by unfold maxLen at A;omega) CL d N W M B I s).mono ?_;rintro e t ⟨rfl,rfl⟩;have L:=(N.drew.setCells (l.drop i) (i+1)).setCells [x] i;refine⟨g,cap,rfl,⟨?_,Or.inr ⟨g,cap,_,rfl,hb,L,Q,A,?_,?_⟩⟩,?_,Or.inl rfl⟩
    .omega
    .simp only[dh,Da];omega
    .simp only[Nat.mul_one];exact Yu M d hi (by omega) _
    .exact Ac.setCells (by simp[Value.ownBlock]) _ _ (Ac.setCells (by simp[Value.ownBlock]) _ _ (Ac.refl _ w).drew)
   .refine(Ym o g n cap i f l m.toList x w Y AO (by omega) FO d N W M B I s).mono ?_;rintro e t ⟨Z,G,HO,HD,BA,FW,rfl,rfl⟩;have L:=((AE.new w Z r).drew.setCells [x] i).drew.setCells (l.drop i) (i+1);(have hd:(l.drop i).length=n-i:=by rw[cQ,d]);refine⟨w.heap.size,G,rfl,⟨?_,Or.inr ⟨w.heap.size,G,_,rfl,E,L,HD,BA,?_,?_⟩⟩,?_,Or.inr (bZ _)⟩
    .omega
    .simp only[dh,Da];omega
    .simp only[Nat.mul_one];rw[GH _ _ _ (by rw[Da,hd];omega),GH _ _ _ (by simp;omega),FW];have e1:(List.take i l++[x]++List.drop (i+[x].length) Z).take (i+1)=List.take i l++[x]:=by
      rw[cX (by simp only[cc,cM,bU,cE,cQ,d];omega),bP (by simp only[cc,cM,bU,cE,cQ,d];omega)]
     rw[e1,cX (by simp only[cc,cM,bU,cE,cQ,d];omega),bP (by simp only[cc,cM,bU,cE,cQ,d];omega)];simp[Fc]
    .exact Ac.setCells (Or.inr (bZ _)) _ _ (Ac.setCells (Or.inr (bZ _)) _ _ ((Ac.refl _ w).alloc _).drew).drew
end Go.Proofs.YtoihbhenbmffcaaGreatDoor
namespace Go.Proofs.YtoihbhenbmffcaaGreatDoor
open Go.RowKit Go.Proofs.Tryz
theorem TZ(l:List cR):l.flatMap Ae=l.map (Value.string):=by
 induction l with
 |nil=>rfl
 |cons a l ih=>rw[cg,cu,ih];rfl
theorem bf(l:List cR):∀v∈l.flatMap Ae,v.oneCell'=true:=by
 intro v b;rw[TZ]at b;obtain⟨a,_,rfl⟩:=bV.1 b;rfl
theorem QP(l:List cR)(i:Nat)(x:cR):(Fc l i x).flatMap Ae=(l.flatMap Ae).take i++ .string x::(l.flatMap Ae).drop i:=by
 rw[TZ,TZ,Fc,cW,cu,List.map_take,List.map_drop]
theorem Sh(a:Option Addr)(cap:Nat)(l:List cR)(i:Nat)(x:cR)(base b:Nat)(w:World)(h:w.ownsRow base 9 1 (.slice a l.length cap) l.length (l.flatMap Ae))(m:l.length<=1000000)(n:i<=l.length)(k:AE w b [.string x] 9)(j:(Value.slice a l.length cap).ownBlock≠some b)(f:base<=w.heap.size):
  Calls prog 218 #[.slice a l.length cap,.int .i64 i,.slice (some ⟨b,0,none⟩) 1 1] w λe c=>∃g d,e=.returned (.slice (some ⟨g,0,none⟩) (l.length+1) d)/\c.ownsRow base 9 1 (.slice (some ⟨g,0,none⟩) (l.length+1) d) (l.length+1) ((Fc l i x).flatMap Ae)/\Ac (Value.slice a l.length cap).ownBlock.toList w c/\((Value.slice a l.length cap).ownBlock=some g\/w.heap.size<=g):=by
 rw[QP];exact KF (Or.inl ⟨rfl,rfl,rfl,rfl,rfl,rfl⟩) a cap l.length (l.flatMap Ae) i (.string x) base b w h (by rw[TZ];simp) m n k (bf l) rfl j f
def V2(l:List cR)(x:cR):Bool:=l.any λy=>am y x
theorem Js(l:List cR)(x:cR):V2 l x=true↔x∈l:=by
 unfold V2;rw[dp];constructor
 .rintro ⟨y,a,h⟩;rw[<-(F0.eqv y x).1 h];exact a
 .intro h;exact⟨x,h,(F0.eqv x x).2 rfl⟩
theorem CK.inS{l:List cR}(a:Cy E2 l){x:cR}{at_:Nat}(h:CK E2 l 0 x at_):D3 am l at_ x=V2 l x:=by
 rw[dk,h.has F0 a,Js]
set_option maxRecDepth 100000
theorem QB(f:Option Addr)(cap:Nat)(l:List cR)(x:cR)(base:Nat)(w:World)(h:w.ownsRow base 9 1 (.slice f l.length cap) l.length (l.flatMap Ae))(q:l.length<=1000000)(i:Cy E2 l):
  Calls prog 121 #[.slice f l.length cap,.string x] w λe j=>e=.returned (.bool (V2 l x))/\j=w:=by
 have m:=Ab (P5 (.slice f l.length cap) l 0 x base w h q (b8 _) i);have r:=Ab i;have s:=Ab h;clear h i;go_enter func121,ntmps121;go_wp2_with fail
 refine(Aa m).mono ?_;rintro e j ⟨b,rfl,c,rfl⟩;have o:=Ab (c.inS (Aa r));have u:=c.le;clear m c;by_cases a:b<l.length
 .obtain⟨g,t,n,v,k⟩:=Av (Aa s) (by simp[Ae]) b a;simp only[bK]at n;obtain⟨rfl,_,rfl⟩:=n;have p:=k b a 0 (by omega);simp[Ae]at p;clear k;have d:Hid (V2 l x=am l[b] x):=by show _=_;rw[<-Aa o];unfold D3;rw[dif_pos a]
  go_wp2;go_ret;rw[d.out];exact⟨rfl,rfl⟩
 .have d:Hid (V2 l x=false):=by show _=_;rw[<-Aa o];unfold D3;rw[dif_neg a]
  go_wp2;go_ret;rw[d.out];exact⟨rfl,rfl⟩
def LX(base:Nat)(lv:Value)(l:List cR)(x:cR)(w:World)(e:Ending)(w':World):Prop:=
 ∃(l':List cR) (ad':Option Addr) (cp':Nat),e=.returned (.slice ad' l'.length cp')/\Cy E2 l'/\(∀y,y∈l'↔y=x\/y∈l)/\l.length<=l'.length/\l'.length<=l.length+1/\
  w'.ownsRow base 9 1 (.slice ad' l'.length cp') l'.length (l'.flatMap Ae)/\Ac lv.ownBlock.toList w w'/\(∀k,(Value.slice ad' l'.length cp').ownBlock=some k->lv.ownBlock=some k\/w.heap.size<=k)
theorem YG(c:Option Addr)(cap:Nat)(l:List cR)(x:cR)(base:Nat)(w:World)(z:w.ownsRow base 9 1 (.slice c l.length cap) l.length (l.flatMap Ae))(G:l.length<=1000000)(A:Cy E2 l)(Y:base<=w.heap.size):
  Calls prog 194 #[.slice c l.length cap,.string x] w λe a=>LX base (.slice c l.length cap) l x w e a:=by
 have J:=Ab (P5 (.slice c l.length cap) l 0 x base w z G (b8 _) A);have t:=Ab A;have n:=Ab z;clear z A;go_enter func194,ntmps194;go_wp2_with fail
 refine(Aa J).mono ?_;rintro e a ⟨b,rfl,j,rfl⟩;have E:=Ab (j.has F0 (Aa t));have s:=Ab j;have L:=j.le;clear J j;have m:Hid (D3 am l b x=false->Calls prog 218 #[.slice c l.length cap,.int .i64 b,.slice (some ⟨a.heap.size,0,none⟩) 1 1] (a.alloc (.cells #[.string x] 9)) λe d=>LX base (.slice c l.length cap) l x a e d):=by
  intro M;have R:AE (a.alloc (.cells [.string x].toArray 9)) a.heap.size [.string x] 9:=AE.new a [.string x] 9;refine(Sh c cap l b x base a.heap.size _ (bQ (Aa n) _) G L R (λe=>by have:=((Aa n).lt _ e).2;omega) (by simp;omega)).mono ?_;rintro e d ⟨g,V,rfl,O,q,T⟩;have I:=JK (x:=x) L;refine⟨Fc l b x,some ⟨g,0,none⟩,V,by rw[I],(Aa s).en F0 (Aa t) M,λy=>Mq x y,by omega,by omega,by rw[I];exact O,((Ac.refl _ a).alloc _).trans q,?_⟩;intro k F;simp only[Value.ownBlock,bR]at F;subst F;rcases T with h|h
  .exact Or.inl h
  .exact Or.inr (by simp at h;omega)
 have o:Hid (D3 am l b x=true->LX base (.slice c l.length cap) l x a (.returned (.slice c l.length cap)) a):=by
  intro S;have Q:=(Aa E).1 S;exact⟨l,c,cap,rfl,Aa t,λy=>⟨Or.inr,λh=>by rcases h with rfl|h;exact Q;exact h⟩,by omega,by omega,Aa n,Ac.refl _ _,λk q=>Or.inl q⟩
 by_cases i:b<l.length
 .obtain⟨g,X,K,Z,H⟩:=Av (Aa n) (by simp[Ae]) b i;simp only[bK]at K;obtain⟨rfl,_,rfl⟩:=K;have N:=H b i 0 (by omega);simp[Ae]at N;clear H;have p:Hid (D3 am l b x=am l[b] x):=by show _=_;unfold D3;rw[dif_pos i]
  have W:Hid ((l[b].toList==x.toList)=true->LX base (.slice (some ⟨g,0,none⟩) l.length cap) l x a (.returned (.slice (some ⟨g,0,none⟩) l.length cap)) a):=λr=>Aa o (by rw[p.out];exact r)
  have U:Hid ((l[b].toList==x.toList)=false->Calls prog 218 #[.slice (some ⟨g,0,none⟩) l.length cap,.int .i64 b,.slice (some ⟨a.heap.size,0,none⟩) 1 1] (a.alloc (.cells #[.string x] 9)) λe d=>LX base (.slice (some ⟨g,0,none⟩) l.length cap) l x a e d):=λr=>Aa m (by rw[p.out];exact r)
  clear p E s m o;go_wp2_with fail
  .go_ret;exact Aa W (by assumption)
  .refine(Aa U (by assumption)).mono ?_;intro e d B;obtain⟨C,u,v,rfl,f⟩:=B;have D:=Ab f;clear f;go_wp2;go_ret;exact⟨C,u,v,rfl,Aa D⟩
 .have P:=Ab (Aa m (by unfold D3;rw[dif_neg i]));clear E s m o;go_wp2_with fail
  refine(Aa P).mono ?_;intro e d B;obtain⟨C,u,v,rfl,f⟩:=B;have D:=Ab f;clear f;go_wp2;go_ret;exact⟨C,u,v,rfl,Aa D⟩
theorem XO(l:List Int):l.flatMap AK=l.map (Value.int .i32):=by
 induction l with
 |nil=>rfl
 |cons a l ih=>rw[cg,cu,ih];rfl
theorem bA(l:List Int):∀v∈l.flatMap AK,v.oneCell'=true:=by
 intro v b;rw[XO]at b;obtain⟨a,_,rfl⟩:=bV.1 b;rfl
theorem Xx(l:List Int)(i:Nat)(x:Int):(Fc l i x).flatMap AK=(l.flatMap AK).take i++ .int .i32 x::(l.flatMap AK).drop i:=by
 rw[XO,XO,Fc,cW,cu,List.map_take,List.map_drop]
theorem R9(a:Option Addr)(cap:Nat)(l:List Int)(i:Nat)(x:Int)(base b:Nat)(w:World)(h:w.ownsRow base 21 1 (.slice a l.length cap) l.length (l.flatMap AK))(m:l.length<=1000000)(n:i<=l.length)(k:AE w b [.int .i32 x] 21)(j:(Value.slice a l.length cap).ownBlock≠some b)(f:base<=w.heap.size):
  Calls prog 220 #[.slice a l.length cap,.int .i64 i,.slice (some ⟨b,0,none⟩) 1 1] w λe c=>∃g d,e=.returned (.slice (some ⟨g,0,none⟩) (l.length+1) d)/\c.ownsRow base 21 1 (.slice (some ⟨g,0,none⟩) (l.length+1) d) (l.length+1) ((Fc l i x).flatMap AK)/\Ac (Value.slice a l.length cap).ownBlock.toList w c/\((Value.slice a l.length cap).ownBlock=some g\/w.heap.size<=g):=by
 rw[Xx];exact KF (Or.inr (Or.inl ⟨rfl,rfl,rfl,rfl,rfl,rfl⟩)) a cap l.length (l.flatMap AK) i (.int .i32 x) base b w h (by rw[XO];simp) m n k (bA l) rfl j f
def Jd(l:List Int)(x:Int):Bool:=l.any λy=>aL y x
theorem OW(l:List Int)(x:Int):Jd l x=true↔x∈l:=by
 unfold Jd;rw[dp];constructor
 .rintro ⟨y,a,h⟩;rw[<-(Pr.eqv y x).1 h];exact a
 .intro h;exact⟨x,h,(Pr.eqv x x).2 rfl⟩
theorem CK.inI{l:List Int}(a:Cy ME l){x:Int}{at_:Nat}(h:CK ME l 0 x at_):D3 aL l at_ x=Jd l x:=by
 rw[dk,h.has Pr a,OW]
theorem Xs(f:Option Addr)(cap:Nat)(l:List Int)(x:Int)(base:Nat)(w:World)(h:w.ownsRow base 21 1 (.slice f l.length cap) l.length (l.flatMap AK))(q:l.length<=1000000)(i:Cy ME l):
  Calls prog 201 #[.slice f l.length cap,.int .i32 x] w λe j=>e=.returned (.bool (Jd l x))/\j=w:=by
 have m:=Ab (P6 (.slice f l.length cap) l 0 x base w h q (b8 _) i);have r:=Ab i;have s:=Ab h;clear h i;go_enter func201,ntmps201;go_wp2_with fail
 refine(Aa m).mono ?_;rintro e j ⟨b,rfl,c,rfl⟩;have o:=Ab (c.inI (Aa r));have u:=c.le;clear m c;by_cases a:b<l.length
 .obtain⟨g,t,n,v,k⟩:=Av (Aa s) (by simp[AK]) b a;simp only[bK]at n;obtain⟨rfl,_,rfl⟩:=n;have p:=k b a 0 (by omega);simp[AK]at p;clear k;have d:Hid (Jd l x=aL l[b] x):=by show _=_;rw[<-Aa o];unfold D3;rw[dif_pos a]
  go_wp2;go_ret;rw[d.out];exact⟨rfl,rfl⟩
 .have d:Hid (Jd l x=false):=by show _=_;rw[<-Aa o];unfold D3;rw[dif_neg a]
  go_wp2;go_ret;rw[d.out];exact⟨rfl,rfl⟩
def Rp(base:Nat)(lv:Value)(l:List Int)(x:Int)(w:World)(e:Ending)(w':World):Prop:=
 ∃(l':List Int) (ad':Option Addr) (cp':Nat),e=.returned (.slice ad' l'.length cp')/\Cy ME l'/\(∀y,y∈l'↔y=x\/y∈l)/\l.length<=l'.length/\l'.length<=l.length+1/\
  w'.ownsRow base 21 1 (.slice ad' l'.length cp') l'.length (l'.flatMap AK)/\Ac lv.ownBlock.toList w w'/\(∀k,(Value.slice ad' l'.length cp').ownBlock=some k->lv.ownBlock=some k\/w.heap.size<=k)
theorem X8(c:Option Addr)(cap:Nat)(l:List Int)(x:Int)(base:Nat)(w:World)(A:w.ownsRow base 21 1 (.slice c l.length cap) l.length (l.flatMap AK))(G:l.length<=1000000)(B:Cy ME l)(W:base<=w.heap.size):
  Calls prog 202 #[.slice c l.length cap,.int .i32 x] w λe a=>Rp base (.slice c l.length cap) l x w e a:=by
 have J:=Ab (P6 (.slice c l.length cap) l 0 x base w A G (b8 _) B);have u:=Ab B;have q:=Ab A;clear A B;go_enter func202,ntmps202;go_wp2_with fail
 refine(Aa J).mono ?_;rintro e a ⟨b,rfl,m,rfl⟩;have s:=Ab (m.has Pr (Aa u));have p:=Ab m;have L:=m.le;clear J m;have f:Hid (D3 aL l b x=false->Calls prog 220 #[.slice c l.length cap,.int .i64 b,.slice (some ⟨a.heap.size,0,none⟩) 1 1] (a.alloc (.cells #[.int .i32 x] 21)) λe r=>Rp base (.slice c l.length cap) l x a e r):=by
  intro M;have Q:AE (a.alloc (.cells [.int .i32 x].toArray 21)) a.heap.size [.int .i32 x] 21:=AE.new a [.int .i32 x] 21;refine(R9 c cap l b x base a.heap.size _ (bQ (Aa q) _) G L Q (λe=>by have:=((Aa q).lt _ e).2;omega) (by simp;omega)).mono ?_;rintro e r ⟨g,T,rfl,O,t,S⟩;have I:=JK (x:=x) L;refine⟨Fc l b x,some ⟨g,0,none⟩,T,by rw[I],(Aa p).en Pr (Aa u) M,λy=>Mq x y,by omega,by omega,by rw[I];exact O,((Ac.refl _ a).alloc _).trans t,?_⟩;intro k F;simp only[Value.ownBlock,bR]at F;subst F;rcases S with h|h
  .exact Or.inl h
  .exact Or.inr (by simp at h;omega)
 have n:Hid (D3 aL l b x=true->Rp base (.slice c l.length cap) l x a (.returned (.slice c l.length cap)) a):=by
  intro R;have P:=(Aa s).1 R;exact⟨l,c,cap,rfl,Aa u,λy=>⟨Or.inr,λh=>by rcases h with rfl|h;exact P;exact h⟩,by omega,by omega,Aa q,Ac.refl _ _,λk t=>Or.inl t⟩
 by_cases d:b<l.length
 .obtain⟨g,U,K,X,H⟩:=Av (Aa q) (by simp[AK]) b d;simp only[bK]at K;obtain⟨rfl,_,rfl⟩:=K;have N:=H b d 0 (by omega);simp[AK]at N;clear H;have o:Hid (D3 aL l b x=aL l[b] x):=by show _=_;unfold D3;rw[dif_pos d]
  have V:=Ab d;cases hq:aL l[b] x with
  |true=>
   have i:=Ab (Aa n (by rw[o.out];exact hq));simp only[aL]at hq;clear o s p f n;go_wp2;go_ret;exact Aa i
  |false=>
   have i:=Ab (Aa f (by rw[o.out];exact hq));simp only[aL]at hq;clear o s p f n;(go_wp2_with fail);refine(Aa i).mono ?_;intro e r C;obtain⟨D,v,z,rfl,j⟩:=C;have E:=Ab j;clear j;go_wp2;go_ret;exact⟨D,v,z,rfl,Aa E⟩
 .have i:=Ab (Aa f (by unfold D3;rw[dif_neg d]));clear s p f n;go_wp2_with fail
  refine(Aa i).mono ?_;intro e r C;obtain⟨D,v,z,rfl,j⟩:=C;have E:=Ab j;clear j;go_wp2;go_ret;exact⟨D,v,z,rfl,Aa E⟩
theorem P3(a:Value)(l:List cR)(k:Nat)(x:cR)(base:Nat)(w:World)(f:w.ownsRow base 170 1 a l.length (l.flatMap Ae))(h:l.length<=1000000)(c:k<=l.length)(g:Cy E2 l):
  Calls prog 149 #[a,.int .i64 k,.string x] w λe d=>∃b:Nat,e=.returned (.int .i64 b)/\CK E2 l k x b/\d=w:=
 P1 (Or.inr ⟨rfl,rfl⟩) a l k x base w f h c g
theorem R8(a:Option Addr)(cap:Nat)(l:List cR)(i:Nat)(x:cR)(base b:Nat)(w:World)(h:w.ownsRow base 170 1 (.slice a l.length cap) l.length (l.flatMap Ae))(m:l.length<=1000000)(n:i<=l.length)(k:AE w b [.string x] 170)(j:(Value.slice a l.length cap).ownBlock≠some b)(f:base<=w.heap.size):
  Calls prog 214 #[.slice a l.length cap,.int .i64 i,.slice (some ⟨b,0,none⟩) 1 1] w λe c=>∃g d,e=.returned (.slice (some ⟨g,0,none⟩) (l.length+1) d)/\c.ownsRow base 170 1 (.slice (some ⟨g,0,none⟩) (l.length+1) d) (l.length+1) ((Fc l i x).flatMap Ae)/\Ac (Value.slice a l.length cap).ownBlock.toList w c/\((Value.slice a l.length cap).ownBlock=some g\/w.heap.size<=g):=by
 rw[QP];exact KF (Or.inr (Or.inr ⟨rfl,rfl,rfl,rfl,rfl,rfl⟩)) a cap l.length (l.flatMap Ae) i (.string x) base b w h (by rw[TZ];simp) m n k (bf l) rfl j f
def LU(base:Nat)(lv:Value)(l:List cR)(x:cR)(w:World)(e:Ending)(w':World):Prop:=
 ∃(l':List cR) (ad':Option Addr) (cp':Nat),e=.returned (.slice ad' l'.length cp')/\Cy E2 l'/\(∀y,y∈l'↔y=x\/y∈l)/\l.length<=l'.length/\l'.length<=l.length+1/\
  w'.ownsRow base 170 1 (.slice ad' l'.length cp') l'.length (l'.flatMap Ae)/\Ac lv.ownBlock.toList w w'/\(∀k,(Value.slice ad' l'.length cp').ownBlock=some k->lv.ownBlock=some k\/w.heap.size<=k)
theorem Tn(c:Option Addr)(cap:Nat)(l:List cR)(x:cR)(base:Nat)(w:World)(z:w.ownsRow base 170 1 (.slice c l.length cap) l.length (l.flatMap Ae))(G:l.length<=1000000)(A:Cy E2 l)(Y:base<=w.heap.size):
  Calls prog 185 #[.slice c l.length cap,.string x] w λe a=>LU base (.slice c l.length cap) l x w e a:=by
 have J:=Ab (P3 (.slice c l.length cap) l 0 x base w z G (b8 _) A);have t:=Ab A;have n:=Ab z;clear z A;go_enter func185,ntmps185;go_wp2_with fail
 refine(Aa J).mono ?_;rintro e a ⟨b,rfl,j,rfl⟩;have E:=Ab (j.has F0 (Aa t));have s:=Ab j;have L:=j.le;clear J j;have m:Hid (D3 am l b x=false->Calls prog 214 #[.slice c l.length cap,.int .i64 b,.slice (some ⟨a.heap.size,0,none⟩) 1 1] (a.alloc (.cells #[.string x] 170)) λe d=>LU base (.slice c l.length cap) l x a e d):=by
  intro M;have R:AE (a.alloc (.cells [.string x].toArray 170)) a.heap.size [.string x] 170:=AE.new a [.string x] 170;refine(R8 c cap l b x base a.heap.size _ (bQ (Aa n) _) G L R (λe=>by have:=((Aa n).lt _ e).2;omega) (by simp;omega)).mono ?_;rintro e d ⟨g,V,rfl,O,q,T⟩;have I:=JK (x:=x) L;refine⟨Fc l b x,some ⟨g,0,none⟩,V,by rw[I],(Aa s).en F0 (Aa t) M,λy=>Mq x y,by omega,by omega,by rw[I];exact O,((Ac.refl _ a).alloc _).trans q,?_⟩;intro k F;simp only[Value.ownBlock,bR]at F;subst F;rcases T with h|h
  .exact Or.inl h
  .exact Or.inr (by simp at h;omega)
 have o:Hid (D3 am l b x=true->LU base (.slice c l.length cap) l x a (.returned (.slice c l.length cap)) a):=by
  intro S;have Q:=(Aa E).1 S;exact⟨l,c,cap,rfl,Aa t,λy=>⟨Or.inr,λh=>by rcases h with rfl|h;exact Q;exact h⟩,by omega,by omega,Aa n,Ac.refl _ _,λk q=>Or.inl q⟩
 by_cases i:b<l.length
 .obtain⟨g,X,K,Z,H⟩:=Av (Aa n) (by simp[Ae]) b i;simp only[bK]at K;obtain⟨rfl,_,rfl⟩:=K;have N:=H b i 0 (by omega);simp[Ae]at N;clear H;have p:Hid (D3 am l b x=am l[b] x):=by show _=_;unfold D3;rw[dif_pos i]
  have W:Hid ((l[b].toList==x.toList)=true->LU base (.slice (some ⟨g,0,none⟩) l.length cap) l x a (.returned (.slice (some ⟨g,0,none⟩) l.length cap)) a):=λr=>Aa o (by rw[p.out];exact r)
  have U:Hid ((l[b].toList==x.toList)=false->Calls prog 214 #[.slice (some ⟨g,0,none⟩) l.length cap,.int .i64 b,.slice (some ⟨a.heap.size,0,none⟩) 1 1] (a.alloc (.cells #[.string x] 170)) λe d=>LU base (.slice (some ⟨g,0,none⟩) l.length cap) l x a e d):=λr=>Aa m (by rw[p.out];exact r)
  clear p E s m o;go_wp2_with fail
  .go_ret;exact Aa W (by assumption)
  .refine(Aa U (by assumption)).mono ?_;intro e d B;obtain⟨C,u,v,rfl,f⟩:=B;have D:=Ab f;clear f;go_wp2;go_ret;exact⟨C,u,v,rfl,Aa D⟩
 .have P:=Ab (Aa m (by unfold D3;rw[dif_neg i]));clear E s m o;go_wp2_with fail
  refine(Aa P).mono ?_;intro e d B;obtain⟨C,u,v,rfl,f⟩:=B;have D:=Ab f;clear f;go_wp2;go_ret;exact⟨C,u,v,rfl,Aa D⟩
