import Derived.Test.YtoihbhenbmffcaaGreatDoorYAG
import Derived.Test.YtoihbhenbmffcaaGreatDoorYAS
set_option linter.all false
set_option maxHeartbeats 0
namespace Go.Proofs.YtoihbhenbmffcaaGreatDoor
open Go.RowKit Go.Proofs.Tryz
theorem Tryz.gS:(Tryz.prog.info? 104).map (λi=>(i.zero,i.size,i.bytes))=some (some (.agg #[.string ⟨#[]⟩,.slice none 0 0]),2,40):=by kernel_rfl
theorem Fs{P:Program}(w:World)(h n t c:TypeId)(e:Nat)(b o d k:Nat)(a:Addr)(f s:Nat)(cs:List Value)
  (r:P.underlying h=some (.slice c)) (g:(P.info? c).map (·.size)=some e) (x:cs.length=Nat.min f d*e)
  (z:∀j v,cs[j]?=some v->w.cell? (a.add j)=some v) (y:∀j,j<cs.length->(w.cell? ⟨b,o+j,none⟩).isSome=true) (p:∀j,j<cs.length->w.frozen? ⟨b,o+j,none⟩=false) (m:∀v∈cs,v.oneCell'=true):
  (Builtin.copy_ #[h,n] t #[.slice (some ⟨b,o,none⟩) d k,.slice (some a) f s]).run P w=.ok (goInt (Nat.min f d)) (w.setCells b o cs):=by
 have q:=run_loadCells_list (P:=P) w a cs z;have l:=run_storeCells_cells (P:=P) b o cs 0 w (by simpa using y) (by simpa using p) m;cases hq:P.info? c with
 |none=>simp[hq]at g
 |some i=>
  have u:i.size=e:=by simpa[hq] using g
  simp[Builtin.copy_,run_underlying r,Builtin.lenOf,Builtin.firstCells,sizeOf,typeInfo,hq,u,<-x,q,l]
set_option maxRecDepth 100000
theorem Vc(g n c i b:Nat)(cs q k:List Value)(w:World)(hi:i<n)(Y:n+1<=c)(X:c<=9223372036854775807)(B:b≠g)
  (K:cs.length=n*2) (r:k.length=2) (m:AE w g q 104) (E:q.length=c*2) (A:q.take (n*2)=cs) (p:AE w b k 104) (S:∀v∈cs,v.oneCell'=true) (Q:∀v∈k,v.oneCell'=true):
  Calls prog 105 #[.slice (some ⟨g,0,none⟩) n c,.int .i64 i,.slice (some ⟨b,0,none⟩) 1 1] w λe O=>
   e=.returned (.slice (some ⟨g,0,none⟩) (n+1) c)/\O=(w.drew.setCells g ((i+1)*2) (cs.drop (i*2))).setCells g (i*2) k:=by
 obtain⟨i0,N,W,I,B9⟩:=cU Tryz.gS;have D:(prog.info? 104).map (·.size)=some 2:=by rw[N];simp[I]
 have V:∀w,(Go.sizeOf 104).run prog w=.ok 2 w:=λw=>by simp[sizeOf,typeInfo,N,I]
 have J:∀j,j<(n+1)*2->(w.cell? ⟨g,j,none⟩).isSome=true:=λj a=>m.some j (by omega)
 have L:∀j,w.frozen? ⟨g,j,none⟩=false:=λj=>m.frozen j
 have F:∀j v,cs[j]?=some v->w.cell? ⟨g,j,none⟩=some v:=λj v a=>by
  rw[m.cell];rw[<-A,dz]at a;split at a
  .exact a
  .cases a
 have R:∀u t,(callFunc 152 #[.slice (some ⟨b,0,none⟩) 1 1,.slice (some ⟨g,(i+1)*2,none⟩) u t]).run prog w=.ok (.value (.bool false)) w:=λu t=>by
  rw[fw func152 (by kernel_rfl) (by kernel_rfl) (by kernel_rfl) (e:=Extern.SlicesOverlaps.overlaps #[113,113] #[4]) (by kernel_rfl),
   Lib.run_overlaps_apart w 113 4 104 underlying113 2 V ⟨b,0,none⟩ ⟨g,(i+1)*2,none⟩ 1 1 u t B 104 104 2 (c*2) (by rw[<-r];exact p.shape) (by rw[<-E];exact m.shape) (by omega) (p.frozen 0) (p.frozen 2)]
  rfl
 have G:(cs.drop (i*2)).length=(n-i)*2:=by rw[cQ,K];omega
 have H:Nat.min (n+1-i) (n-i)=n-i:=by simp only[fK];split<;>omega
 have z:∀l d x,(Builtin.copy_ #[113,113] l #[.slice (some ⟨g,(i+1)*2,none⟩) (n-i) d,.slice (some ⟨g,i*2,none⟩) (n+1-i) x]).run prog w.drew=.ok (goInt ((n-i:Nat):Int)) (w.drew.setCells g ((i+1)*2) (cs.drop (i*2))):=λl d x=>by
  have h:=Fs w.drew 113 113 l 104 2 g ((i+1)*2) (n-i) d ⟨g,i*2,none⟩ (n+1-i) x (cs.drop (i*2)) underlying113 D (by rw[G,H])
   (λj v a=>by rw[ed];exact F (i*2+j) v (by rwa [fg]at a))
   (λj a=>J _ (by omega)) (λj a=>L _) (λv U=>S v (eo U))
  rw[H]at h;exact h
 obtain⟨f,o⟩:∃f,f=w.drew.setCells g ((i+1)*2) (cs.drop (i*2)):=⟨_,rfl⟩;have s:AE f g (MG q ((i+1)*2) (cs.drop (i*2))) 104:=by rw[o];exact m.drew.setCells _ _
 have y:AE f b k 104:=by rw[o];exact p.drew.kept (Ac.setCells (M:=[g]) (by simp) _ _ (Ac.refl _ _)) (by simpa using B)
 have C:Nat.min 1 (n+1-i)=1:=by simp only[fK];split<;>omega
 have P:∀l d,(Builtin.copy_ #[113,113] l #[.slice (some ⟨g,i*2,none⟩) (n+1-i) d,.slice (some ⟨b,0,none⟩) 1 1]).run prog f=.ok (goInt 1) (f.setCells g (i*2) k):=λl d=>by
  have h:=Fs f 113 113 l 104 2 g (i*2) (n+1-i) d ⟨b,0,none⟩ 1 1 k underlying113 D (by rw[C,r])
   (λj v a=>by rw[ed,cV,y.cell];exact a)
   (λj a=>s.some _ (by rw[Da];omega)) (λj a=>s.frozen _) Q
  rw[C]at h;exact h
 rw[<-o]at z;have AO:IntKind.i64.wrap ((i:Int)+1)=(i:Int)+1:=by rw[eM];omega
 have Ax:¬((i:Int)=(n:Int)):=by omega
 have BT:(0:Int)<=(i:Int)+1:=by omega
 have AH:i<=n:=by omega
 have Z:((i:Int)+1).toNat=i+1:=by omega
 have AT:¬(c=i+1):=by omega
 have CC:(i:Int)<=(n:Int)+1:=by omega
 have BA:¬(c=i):=by omega
 have mixed:prog.follows Departure.mixedOrders=true:=by kernel_rfl
 have T:=Ab o;clear m p s y F J L o G K E A r;go_enter func105,ntmps105;go_wp2_with (simp only[R])
 go_region_law_o (refine step_copy_runI rfl _ _ 113 113 rfl _ _ (by simp[Act.eval,Act.put]) (by simp[Act.eval,Act.put]) (z _ _ _) ?_)
 go_wp2_with (at_builtin;refine wpList_copy_runI _ rfl _ _ 113 113 rfl _ _ rfl rfl (P _ _) ?_)
 go_ret;exact⟨rfl,by rw[Aa T]⟩
theorem WO(g n c i m:Nat)(cs s d:List Value)(w:World)(hi:i<n)(HC:n<=c)(CL:c<n+1)(HG:n<=1000000)
  (Y:cs.length=n*2) (H:d.length=2) (u:AE w g s 104) (FC:s.length=c*2) (z:s.take (n*2)=cs) (F:AE w m d 104) (FA:∀v∈cs,v.oneCell'=true) (CC:∀v∈d,v.oneCell'=true):
  Calls prog 105 #[.slice (some ⟨g,0,none⟩) n c,.int .i64 i,.slice (some ⟨m,0,none⟩) 1 1] w λe w'=>
   ∃(a:List Value) (G:Nat),a.length=G*2/\n+1<=G/\G<=maxLen/\a.take (i*2)=cs.take (i*2)/\e=.returned (.slice (some ⟨w.heap.size,0,none⟩) (n+1) G)/\
   w'=(((w.alloc (.cells a.toArray 104)).drew.setCells w.heap.size (i*2) d).drew).setCells w.heap.size ((i+1)*2) (cs.drop (i*2)):=by
 obtain⟨Q,AH,BA,U,Z⟩:=cU Tryz.gS;have mixed:prog.follows Departure.mixedOrders=true:=by kernel_rfl
 have P:(prog.info? 104).map (·.size)=some 2:=by rw[AH];simp[U]
 have FW:=u.lt;have FP:=F.lt;have J:(n:Int)+1-(i:Int)=((n+1-i:Nat):Int):=by omega
 have C:i+(n+1-i)=n+1:=by omega
 have S:∀j v,cs[j]?=some v->w.cell? ⟨g,j,none⟩=some v:=λj v b=>by
  rw[u.cell];rw[<-z,dz]at b;split at b
  .exact b
  .cases b
 have L:(Builtin.firstCells Q.size i (.slice (some ⟨g,0,none⟩) i c)).run prog w.drew=.ok (cs.take (i*2)).toArray w.drew:=by
  rw[U];exact run_firstCells_some w.drew 2 i ⟨g,0,none⟩ i c (cs.take (i*2)) (by rw[cM];omega) (λj v b=>by
   rw[ed,cV]
   rw[dz]at b
   split at b
   .exact S j v b
   .cases b)
 obtain⟨l,B⟩:∃l:Array Value,(Value.agg #[.string ⟨#[]⟩,.slice none 0 0]).cells=l:=⟨_,rfl⟩;have V:l.size=2:=by rw[<-B];rfl
 have r:∀f,(Builtin.append_ #[113,3] f #[.slice (some ⟨g,0,none⟩) i c,.int .i64 ((n:Int)+1-(i:Int))]).run prog w=
   .ok (.slice (some ⟨w.heap.size,0,none⟩) (n+1) (grownCap w (n+1) c 104)) (w.drew.alloc (.cells ((cs.take (i*2)).toArray++Builtin.zeroCells l (n+1-i)++Builtin.zeroCells l (grownCap w (n+1) c 104-(n+1))) 104)):=λf=>by
  have h:=Lib.run_append_grow_zeros w 113 3 f 104 Q _ .i64 .i64 underlying113 underlying3 AH BA (some ⟨g,0,none⟩) i c (cs.take (i*2)) L (n+1-i) (by omega) (by omega) (by omega) (by omega) (by rw[Z];omega) (by rw[Z,C];exact growslice_fits CL (by omega));rw[C,B]at h;rw[J];exact h
 obtain⟨G,t⟩:∃G,G=grownCap w (n+1) c 104:=⟨_,rfl⟩;obtain⟨a,q⟩:∃a:List Value,a.toArray=(cs.take (i*2)).toArray++Builtin.zeroCells l (n+1-i)++Builtin.zeroCells l (G-(n+1)):=⟨_,Array.toArray_toList⟩;rw[<-t]at r;rw[<-q]at r;have FF:n+1<=G:=by rw[t];exact grownCap_ge w _ _ _
 have A:G<=maxLen:=by rw[t];exact grownCap_le_maxLen w (n+1) c 104 (by unfold maxLen;omega)
 have AO:a.length=G*2:=by
  have:=congrArg Array.size q;simp[Builtin.zeroCells,V]at this;omega
 have R:a.take (i*2)=cs.take (i*2):=by
  have h:=congrArg Array.toList q;simp only[Array.toList_append,dd]at h;rw[h,cX (by simp;omega)];simp[fd]
 obtain⟨N,hN⟩:∃N,w.heap.size=N:=⟨_,rfl⟩;have p:AE (w.drew.alloc (.cells a.toArray 104)) N a 104:=by rw[<-hN];exact AE.new w.drew a 104
 have K:AE (w.drew.alloc (.cells a.toArray 104)) m d 104:=F.drew.alloc _;have O:Nat.min 1 (n+1-i)=1:=by simp only[fK];split<;>omega
 have ES:∀(W:World),(∀x,W.cell? x=(w.drew.alloc (.cells a.toArray 104)).cell? x)->(∀x,W.frozen? x=(w.drew.alloc (.cells a.toArray 104)).frozen? x)->∀f k,(Builtin.copy_ #[113,113] f #[.slice (some ⟨N,i*2,none⟩) (n+1-i) k,.slice (some ⟨m,0,none⟩) 1 1]).run prog W=.ok (goInt 1) (W.setCells N (i*2) d):=λW o D f k=>by
  have h:=Fs W 113 113 f 104 2 N (i*2) (n+1-i) k ⟨m,0,none⟩ 1 1 d underlying113 P (by rw[O,H])
   (λj v b=>by rw[ed,cV,o,K.cell];exact b)
   (λj b=>by rw[o];exact p.some _ (by omega)) (λj b=>by rw[D];exact p.frozen _) CC
  rw[O]at h;exact h
 have y:AE ((w.drew.alloc (.cells a.toArray 104)).setCells N (i*2) d) N (MG a (i*2) d) 104:=p.setCells _ _;have I:AE ((w.drew.alloc (.cells a.toArray 104)).setCells N (i*2) d) g s 104:=(u.drew.alloc _).kept (Ac.setCells (M:=[N]) (by simp) _ _ (Ac.refl _ _)) (by simp;omega);have T:(cs.drop (i*2)).length=(n-i)*2:=by rw[cQ,Y];omega
 have X:Nat.min (n-i) (n-i)=n-i:=Nat.min_self _;have Ax:∀(W:World),(∀x,W.cell? x=((w.drew.alloc (.cells a.toArray 104)).setCells N (i*2) d).cell? x)->(∀x,W.frozen? x=((w.drew.alloc (.cells a.toArray 104)).setCells N (i*2) d).frozen? x)->∀f k E,(Builtin.copy_ #[113,113] f #[.slice (some ⟨N,(i+1)*2,none⟩) (n-i) k,.slice (some ⟨g,i*2,none⟩) (n-i) E]).run prog W=.ok (goInt ((n-i:Nat):Int)) (W.setCells N ((i+1)*2) (cs.drop (i*2))):=λW o D f k E=>by
  have h:=Fs W 113 113 f 104 2 N ((i+1)*2) (n-i) k ⟨g,i*2,none⟩ (n-i) E (cs.drop (i*2)) underlying113 P (by rw[T,X])
   (λj v b=>by
    rw[ed,o,I.cell]
    rw[fg,<-z,dz]at b
    split at b
    .exact b
    .cases b)
   (λj b=>by rw[o];exact y.some _ (by rw[Da];omega))
   (λj b=>by rw[D];exact y.frozen _) (λv hv=>FA v (eo hv))
  rw[X]at h;exact h
 have B9:∀x,((w.alloc (.cells a.toArray 104)).drew).cell? x=(w.drew.alloc (.cells a.toArray 104)).cell? x:=λx=>rfl
 have FL:∀x,((w.alloc (.cells a.toArray 104)).drew).frozen? x=(w.drew.alloc (.cells a.toArray 104)).frozen? x:=λx=>rfl
 have EY:∀x,(((w.alloc (.cells a.toArray 104)).drew.setCells N (i*2) d).drew).cell? x=((w.drew.alloc (.cells a.toArray 104)).setCells N (i*2) d).cell? x:=λx=>rfl
 have EK:∀x,(((w.alloc (.cells a.toArray 104)).drew.setCells N (i*2) d).drew).frozen? x=((w.drew.alloc (.cells a.toArray 104)).setCells N (i*2) d).frozen? x:=λx=>rfl
 have HE:IntKind.i64.wrap ((i:Int)+1)=(i:Int)+1:=by rw[eM];omega
 have HA:¬((i:Int)=(n:Int)):=by omega
 have HI:(c:Int)<(n:Int)+1:=by omega
 have HK:(0:Int)<=(i:Int)+1:=by omega
 have HB:i<=n:=by omega
 have Go:((i:Int)+1).toNat=i+1:=by omega
 have HL:(i:Int)<=(n:Int):=by omega
 have HJ:¬(G=i):=by omega
 have Ha:¬(G=i+1):=by omega
 have HF:¬(c=i):=by omega
 have HD:G<=9223372036854775807:=by unfold maxLen at A;omega
 have AT:=Ab AO;have BT:=Ab R;have EX:=Ab A;rw[hN]at r⊢;clear J C L q t AO R A u F p K y I S T Y FC z H V B;go_enter func105,ntmps105;go_wp2_with (first
  |(at_builtin;refine Lib.wpList_append_run _ rfl _ _ _ _ rfl _ _ rfl rfl _ _ (r _) ?_)
  |(at_builtin;refine wpList_copy_runI _ rfl _ _ 113 113 rfl _ _ rfl rfl (ES _ B9 FL _ _) ?_)
  |(at_builtin;refine wpList_copy_runI _ rfl _ _ 113 113 rfl _ _ rfl rfl (Ax _ (λ_=>rfl) (λ_=>rfl) _ _ _) ?_))
 go_region_law_o (refine step_copy_runI rfl _ _ 113 113 rfl (.slice (some ⟨N,(i+1)*2,none⟩) (n-i) (G-(i+1))) (.slice (some ⟨g,i*2,none⟩) (n-i) (c-i)) (by simp[Act.eval,Act.put]) (by simp[Act.eval,Act.put]) (Ax _ EY EK 3 (G-(i+1)) (c-i)) ?_)
 go_wp2;go_ret;exact⟨a,G,Aa AT,FF,Aa EX,Aa BT,rfl,rfl⟩
theorem Qi{α:Type}(f:α->List Value)(a:Nat):∀(l:List α) (i:Nat),(∀x∈l,(f x).length=a)->i<=l.length->(l.take i).flatMap f=(l.flatMap f).take (i*a)/\(l.drop i).flatMap f=(l.flatMap f).drop (i*a)
 |l,0,_,_=>by simp
 |[],i+1,_,h=>by simp at h
 |x::l,i+1,hl,h=>by
  have ih:=Qi f a l i (λy b=>hl y (cF _ b)) (by simpa using h);have c:=hl x (dg ..);simp only[eG,eZ,cg,ih.1,ih.2];have e:(i+1)*a=(f x).length+i*a:=by rw[c,dS];omega
  rw[e];exact⟨by rw[List.take_length_add_append],by rw[List.drop_length_add_append]⟩
theorem Yh{b cs c:List Value}{n i a:Nat}(p:b.take (n*a)=cs)(k:cs.length=n*a)(e:c.length=a)(o:i<=n)(m:(n+1)*a<=b.length):
  (MG (MG b ((i+1)*a) (cs.drop (i*a))) (i*a) c).take ((n+1)*a)=cs.take (i*a)++c++cs.drop (i*a):=by
 have g:(i+1)*a=i*a+a:=by rw[dS];omega
 have f:(n+1)*a=n*a+a:=by rw[dS];omega
 have l:i*a<=n*a:=dj _ o;rw[f]at m;rw[g,f];generalize i*a=I at*;generalize n*a=M at*;have d:(cs.drop I).length=M-I:=by rw[cQ,k]
 rw[GH c _ I (by rw[Da];omega),GH (cs.drop I) b (I+a) (by rw[d];omega)];have h:(b.take (I+a)++cs.drop I++b.drop (I+a+(cs.drop I).length)).take I=cs.take I:=by
  rw[dd,cX (by simp;omega),fd,eF (by omega),<-p,fd,eF l]
 have j:(b.take (I+a)++cs.drop I++b.drop (I+a+(cs.drop I).length)).drop (I+c.length)=cs.drop I++b.drop (I+a+(cs.drop I).length):=by
  rw[e,dd,List.drop_append_of_le_length (by simp;omega),List.drop_of_length_le (by simp;omega),dm]
 rw[h,j,<-dd,cX (by simp[d,e];omega),bP (by simp[d,e];omega)]
theorem Vq(p:Gm):(Bh p).length=2:=rfl
theorem Xg(a:List Gm)(i:Nat)(x:Gm)(b:i<=a.length):(a.take i++x::a.drop i).flatMap Bh=(a.flatMap Bh).take (i*2)++Bh x++(a.flatMap Bh).drop (i*2):=by
 have h:=Qi Bh 2 a i (λp _=>Vq p) b;rw[cw,cg,h.1,h.2,dd]
theorem Xk(a:List Gm):(a.flatMap Bh).length=a.length*2:=by
 induction a with
 |nil=>rfl
 |cons p a ih=>simp only[cg,cc,ih,Vq,bU];omega
theorem Sa(p:Option Addr)(cap:Nat)(b:List Gm)(i:Nat)(x:Gm)(base m:Nat)(w:World)(o:w.ownsRow base 104 2 (.slice p b.length cap) b.length (b.flatMap Bh))(EY:b.length<=1000000)(V:i<=b.length)(v:AE w m (Bh x) 104)(AH:(Value.slice p b.length cap).ownBlock≠some m)(E:base<=w.heap.size)
  (s:∀u∈b.flatMap Bh,u.oneCell'=true) (N:∀u∈Bh x,u.oneCell'=true):
  Calls prog 105 #[.slice p b.length cap,.int .i64 i,.slice (some ⟨m,0,none⟩) 1 1] w λe t=>∃g Y,e=.returned (.slice (some ⟨g,0,none⟩) (b.length+1) Y)/\t.ownsRow base 104 2 (.slice (some ⟨g,0,none⟩) (b.length+1) Y) (b.length+1) ((b.take i++x::b.drop i).flatMap Bh)/\Ac (Value.slice p b.length cap).ownBlock.toList w t/\((Value.slice p b.length cap).ownBlock=some g\/w.heap.size<=g):=by
 have l:=Xk b;have f:=Vq x;rw[Xg b i x V];by_cases FA:i=b.length
 .subst FA;obtain⟨S,Z,O,Q,R⟩:=cU Tryz.gS;have q:Hid ((b.flatMap Bh).take (b.length*2)++Bh x++(b.flatMap Bh).drop (b.length*2)=b.flatMap Bh++Bh x):=by
   show _=_;rw[bP (by omega),cG (by omega),cK]
  have A:Hid (∀j u,(Bh x)[j]?=some u->w.cell? ((⟨m,0,none⟩:Addr).add j)=some u):=λj u hu=>by rw[ed,cV,v.cell];exact hu
  have L:=Ab o;have B:=Ab N;clear v s;cases p with
  |none=>
   have X:b.length=0:=by
    rcases o.2 with⟨d,r⟩|⟨g,c,n,d,_⟩
    .exact r
    .simp at d
   have AT:cap=0:=by
    rcases o.2 with⟨d,r⟩|⟨g,c,n,d,_⟩
    .simp only[bK]at d;exact d.2.2
    .simp at d
   subst AT;have Bx:b=[]:=e9.1 X;subst Bx;clear o X;simp only[cE,cZ]at L q⊢;generalize Bh x=xs at A B q f⊢;go_enter func105,ntmps105;go_wp2_with (at_builtin;refine cd _ rfl _ _ _ rfl base 104 S _ 2 40 underlying113 Z O Q R rfl (by omega) (.slice none 0 0) 0 [] rfl (Aa L) ⟨m,0,none⟩ 1 1 xs rfl (by omega) (Aa A) (Aa B) (by omega) (by unfold maxLen;omega) (by omega) E _ rfl ?_;intro I F w9 y H C Go)
   go_ret;rw[Aa q];refine⟨I,F,rfl,y,(Ac.refl _ w).grown H (λk D=>Or.inl (by rw[fL];exact D)),?_⟩;rcases C with h|h
   .exact Or.inl h
   .exact Or.inr (by omega)
  |some a=>
   obtain⟨ab,ao,FL⟩:=a;have EK:ao=0/\FL=none:=by
    rcases o.2 with⟨d,r⟩|⟨g,c,n,d,_⟩
    .simp at d
    .simp only[bK,bR,cI]at d;exact d.1.2
   obtain⟨rfl,rfl⟩:=EK;have ES:b.length<=cap/\cap<=maxLen:=by
    rcases o.2 with⟨d,r⟩|⟨g,c,n,d,_,_,s,h2,_⟩
    .simp at d
    .simp only[bK]at d;rw[d.2.2];exact⟨s,h2⟩
   obtain⟨Ax,z⟩:=ES;unfold maxLen at z;clear o;generalize Bh x=xs at A B q f⊢;go_enter func105,ntmps105;go_wp2_with (at_builtin;refine cd _ rfl _ _ _ rfl base 104 S _ 2 40 underlying113 Z O Q R rfl (by omega) (.slice (some ⟨ab,0,none⟩) b.length cap) b.length (b.flatMap Bh) rfl (Aa L) ⟨m,0,none⟩ 1 1 xs rfl (by omega) (Aa A) (Aa B) (by omega) (by unfold maxLen;omega) (by omega) E _ rfl ?_;intro I F w9 y H C Go)
   all_goals
    go_ret;refine⟨I,F,rfl,(by first|(rw[Aa q];exact y)|(rw[<-dd,Aa q];exact y)),(Ac.refl _ w).grown H (λk D=>Or.inl (by rw[fL];exact D)),?_⟩;rcases C with h|h
    .exact Or.inl h
    .exact Or.inr (by omega)
 .have U:i<b.length:=by omega
  rcases o.2 with⟨d,r⟩|⟨g,c,n,d,hb,HA,Ax,z,FO,BT⟩
  .omega
  .simp only[bK]at d;obtain⟨rfl,_,rfl⟩:=d;(have B9:m≠g:=λe=>AH (by simp[Value.ownBlock,e]));(have M:AE w g n.toList 104:=by unfold AE;simpa using HA);(have T:n.toList.length=cap*2:=by simpa using FO);have K:n.toList.take (b.length*2)=b.flatMap Bh:=BT;by_cases P:b.length+1<=cap
   .refine(Vc g b.length cap i m (b.flatMap Bh) n.toList (Bh x) w U P (by unfold maxLen at z;omega) B9 l f M T K v s N).mono ?_;rintro e t ⟨rfl,rfl⟩;have J:=(M.drew.setCells ((b.flatMap Bh).drop (i*2)) ((i+1)*2)).setCells (Bh x) (i*2);refine⟨g,cap,rfl,⟨?_,Or.inr ⟨g,cap,_,rfl,hb,J,P,z,?_,?_⟩⟩,?_,Or.inl rfl⟩
    .simp only[cc,cM,cQ,l,f];omega
    .simp only[dh,Da];omega
    .exact Yh K l f V (by omega)
    .exact Ac.setCells (by simp[Value.ownBlock]) _ _ (Ac.setCells (by simp[Value.ownBlock]) _ _ (Ac.refl _ w).drew)
   .refine(WO g b.length cap i m (b.flatMap Bh) n.toList (Bh x) w U Ax (by omega) EY l f M T K v s N).mono ?_;rintro e t ⟨W,G,HB,FP,AO,FC,rfl,rfl⟩;have J:=((AE.new w W 104).drew.setCells (Bh x) (i*2)).drew.setCells ((b.flatMap Bh).drop (i*2)) ((i+1)*2);(have hd:((b.flatMap Bh).drop (i*2)).length=(b.length-i)*2:=by rw[cQ,l];omega);refine⟨w.heap.size,G,rfl,⟨?_,Or.inr ⟨w.heap.size,G,_,rfl,E,J,FP,AO,?_,?_⟩⟩,?_,Or.inr (bZ _)⟩
    .simp only[cc,cM,cQ,l,f];omega
    .simp only[dh,Da];omega
    .rw[GH _ _ _ (by rw[Da,hd];omega),GH _ _ _ (by rw[f];omega),FC];have e1:(List.take (i*2) (b.flatMap Bh)++Bh x++List.drop (i*2+(Bh x).length) W).take ((i+1)*2)=List.take (i*2) (b.flatMap Bh)++Bh x:=by
      rw[cX (by simp only[cc,cM,l,f];omega),bP (by simp only[cc,cM,l,f];omega)]
     rw[e1,cX (by simp only[cc,cM,cQ,l,f];omega),bP (by simp only[cc,cM,cQ,l,f];omega)]
    .exact Ac.setCells (Or.inr (bZ _)) _ _ (Ac.setCells (Or.inr (bZ _)) _ _ ((Ac.refl _ w).alloc _).drew).drew
theorem BB{w:World}{i o h e p m s u:Nat}{v1 f:Value}{t r:List Value}(n:w.ownsRow i h p v1 s t)(k:w.ownsRow o e m f u r)(j:h≠e)(q:Nat)(a:v1.ownBlock=some q):f.ownBlock≠some q:=λd=>by
 rcases n.2 with⟨rfl,_⟩|⟨g,c,x,rfl,_,l,_⟩
 .simp[Value.ownBlock]at a
 .rcases k.2 with⟨rfl,_⟩|⟨v,y,z,rfl,_,b,_⟩
  .simp[Value.ownBlock]at d
  .simp only[Value.ownBlock,bR]at a d;subst a;subst d;rw[l]at b;simp only[bR,Obj.cells.injEq]at b;exact j b.2.1
theorem AS{w:World}{f e k i:Nat}{v1:Value}{l:List Value}{b:Nat}{cs:List Value}{t:TypeId}(j:w.ownsRow f e k v1 i l)(a:AE w b cs t)(h:e≠t):v1.ownBlock≠some b:=λd=>by
 rcases j.2 with⟨rfl,_⟩|⟨g,c,n,rfl,_,m,_⟩
 .simp[Value.ownBlock]at d
 .simp only[Value.ownBlock,bR]at d;subst d;unfold AE at a;rw[m]at a;simp only[bR,Obj.cells.injEq]at a;exact h a.2.1
theorem Y9{w:World}{p:Gm}(h:Ec w p):∀u∈Bh p,u.oneCell'=true:=by
 obtain⟨c,b,e⟩:=Aj h;intro u a;simp only[Bh,bS,di,or_false]at a;rcases a with rfl|rfl
 .rfl
 .rw[e];rfl
theorem KQ.one{w:World}{d:Value}{a:List Gm}(h:KQ w d a):∀u∈a.flatMap Bh,u.oneCell'=true:=λu e=>by
 obtain⟨p,b,c⟩:=cO.1 e;exact Y9 (h.each p b).1 u c
def Pt(fs:List Gm)(x:Gm)(p:Nat):List Gm:=if EQ fs x.f p then fs else fs.take p++x::fs.drop p
structure VB(sb so:Nat)(cells:List Value)(ty:TypeId)(sv:Value)(fs:List Gm)(x:Gm)(w w':World):Prop where
 out:∃(p:Nat) (ad:Option Addr) (cp:Nat),GI fs x.f p/\AE w' sb (cells.set so (.slice ad (Pt fs x p).length cp)) ty/\KQ w' (.slice ad (Pt fs x p).length cp) (Pt fs x p)/\∀q,(Value.slice ad (Pt fs x p).length cp).ownBlock=some q->sv.ownBlock=some q\/w.heap.size<=q
 kept:Ac (sb::sv.ownBlock.toList) w w'
theorem YT(k b:Nat)(E:List Value)(H:TypeId)(d:Option Addr)(c:Nat)(a:List Gm)(x:Gm)(w:World)(Q:AE w k E H)(T:E[b]?=some (.slice d a.length c))(BT:104≠H)(HS:170≠H)(h:KQ w (.slice d a.length c) a)(L:Ec w x)(W:x.f.dc.length<=1000)(HZ:a.length<=900000)(Ha:∀i j (S:i<a.length) (hj:j<a.length),i<=j->Cc a[j].f x.f<0->Cc a[i].f x.f<0):
  Calls prog 61 #[.pointer (some ⟨k,b,none⟩),.agg (Bh x).toArray] w λe r=>e=.returned (.tuple #[])/\VB k b E H (.slice d a.length c) a x w r:=by
 have H9:=Q.lt;have U:Hid (∀wr,Ac [] w wr->Calls prog 103 #[.slice d a.length c,.agg (Bh x).toArray,.func (.func 104) #[] #[]] wr λe r=>∃p:Nat,e=.returned (.tuple #[.int .i64 p,.bool (EQ a x.f p)])/\GI a x.f p/\Ac [] wr r):=λwr hk=>Jk d c a x wr (h.kept hk) (L.kept hk) W (by omega) Ha
 have HB:=Ab Q;have HP:=Ab h;have HX:=Ab L;have HV:=Ab W;obtain⟨m,o,FF⟩:=Aj L;obtain⟨t,IA,M⟩:∃n v,Bh x=[.string n,v]/\v=.slice m x.f.dc.length o:=⟨_,_,rfl,FF⟩;obtain⟨M,rfl⟩:=M;have Bx:=Ab M;generalize x.f.dc.length=xl at Bx;rw[Aa Bx]at U⊢;clear M FF;have hK:=(Ac.refl [] w).alloc (.cells [.string t,.slice m xl o].toArray 104);have c0:=(Q.alloc (.cells [.string t,.slice m xl o].toArray 104)).cell b;rw[T]at c0;have FP:=Ab T;have HH:Hid (E.set b (.slice d a.length c)=E):=by
  show _=_;obtain⟨H1,e⟩:=fq.1 T;rw[<-e,List.set_getElem_self]
 clear T;have F:=AE.new w [.string t,.slice m xl o] 104;have P:=Ab hK;clear h L W Ha hK Q;go_enter func61,ntmps61;go_wp2_with fail
 change Code.wp _ _ _ _ (w.alloc (.cells [.string t,.slice m xl o].toArray 104));generalize w.alloc (.cells [.string t,.slice m xl o].toArray 104)=w1 at P c0 F⊢;obtain⟨N,AO⟩:∃N,w.heap.size=N:=⟨_,rfl⟩;rw[AO]at F⊢;have Ix:=Ab AO;clear AO;have x0:=F.cell 0;have x1:=F.cell 1;simp at x0 x1;have HN:=Ab F;have EK:=Ab (Aa U w1.drew (Aa P).drew);clear U F
 go_region_law (go_simp;go_at_call 103;refine(Aa EK).mono ?_;rintro e l ⟨p,rfl,hcut,k3⟩;have D:=Ab hcut;have B:=Ab ((Aa P).drew.trans k3);have O:=Ab ((Aa HN).drew.kept k3 (by simp));clear hcut k3)
 all_goals
  clear EK c0 x0 x1;have u:=Ab ((Aa HP).kept (Aa B));have I:=Ab ((Aa HB).kept (Aa B) (by simp));have FC:=Ab ((Aa HX).kept (Aa B));obtain⟨HT,Z⟩:∃HT,EQ a x.f p=HT:=⟨_,rfl⟩;have Y:=Ab Z;rw[Z];clear Z;have H8:=(Aa B).size;cases HT with
  |true=>
   (have y:Hid (Pt a x p=a):=by show _=_;unfold Pt;rw[Aa Y,if_pos rfl]);go_wp2;go_end0;refine⟨rfl,⟨p,d,c,Aa D,?_,?_,?_⟩,(Aa B).mono (by simp)⟩
   .rw[Aa y,Aa HH];exact Aa I
   .rw[Aa y];exact Aa u
   .rw[Aa y];exact λq C=>Or.inl C
  |false=>
   (have y:Hid (Pt a x p=a.take p++x::a.drop p):=by show _=_;unfold Pt;rw[Aa Y,if_neg (by simp)]);have G:Hid ((a.take p++x::a.drop p).length=a.length+1):=by
    show _=_;have:=(Aa D).le;simp only[cc,cM,bU,cQ];omega
   have HD:Hid (∀A,(A=(l.drew).alloc (.cells #[.string t,.slice m xl o] 104)\/A=(l.alloc (.cells #[.string t,.slice m xl o] 104)).drew)->Calls prog 105 #[.slice d a.length c,.int .i64 p,.slice (some ⟨l.heap.size,0,none⟩) 1 1] A λe r=>∃g z,e=.returned (.slice (some ⟨g,0,none⟩) (a.length+1) z)/\r.cell? ⟨k,b,none⟩=some (.slice d a.length c)/\r.frozen? ⟨k,b,none⟩=false/\VB k b E H (.slice d a.length c) a x w (r.setCell ⟨k,b,none⟩ (.slice (some ⟨g,0,none⟩) (a.length+1) z))):=by
    intro A EX;have J:Ac [] l A:=by
     rcases EX with rfl|rfl
     .exact(Ac.refl [] l).drew.alloc _
     .exact((Ac.refl [] l).alloc _).drew
    have HY:AE A l.heap.size (Bh x) 104:=by
     rw[Aa Bx];rcases EX with rfl|rfl
     .exact AE.new l.drew [.string t,.slice m xl o] 104
     .exact(AE.new l [.string t,.slice m xl o] 104).drew
    have R:=(Aa u).kept J;(have HF:(Value.slice d a.length c).ownBlock≠some l.heap.size:=λe=>by have:=((Aa u).row.lt _ e).2;omega);refine(Sa d c a p x 0 l.heap.size A R.row (by omega) (Aa D).le HY HF (b8 _) R.one (Y9 (Aa HX))).mono ?_;rintro e r ⟨g,z,rfl,FW,V,hg⟩;have CL:=(Aa I).kept J (by simp);(have HW:k∉(Value.slice d a.length c).ownBlock.toList:=λX=>AS R.row CL BT (by simpa using X));have K:=CL.kept V HW;have FA:=K.cell b;rw[Aa FP]at FA;have HI:Ac (k::(Value.slice d a.length c).ownBlock.toList) w r:=(((Aa B).trans J).mono (by simp)).trans (V.mono (λi S=>cF _ S));have HO:(Value.slice (some ⟨g,0,none⟩) (a.length+1) z).ownBlock≠some k:=AS FW K BT;have HQ:=Ag FW (p:=⟨k,b,none⟩) HO (.slice (some ⟨g,0,none⟩) (a.length+1) z);refine⟨g,z,rfl,FA,K.frozen b,⟨p,some ⟨g,0,none⟩,z,Aa D,?_,?_,?_⟩,HI.setCell (p:=⟨k,b,none⟩) (Or.inl (dg ..)) _⟩
    .rw[Aa y,Aa G];exact K.set b _
    .rw[Aa y,Aa G];refine⟨by rw[Aa G];exact HQ,λq C=>?_⟩;have EY:Ec l q/\q.f.dc.length<=1000:=by
      rcases bY.1 C with s|s
      .exact⟨((Aa u).each q (d9 s)).1,((Aa u).each q (d9 s)).2⟩
      .rcases bS.1 s with rfl|s
       .exact⟨Aa FC,Aa HV⟩
       .exact⟨((Aa u).each q (eo s)).1,((Aa u).each q (eo s)).2⟩
     have BA:=EY.1.kept J;have FO:r.ownsRow 0 170 1 q.tv q.f.dc.length (q.f.dc.flatMap Ae):=Al BA V (λi S X=>BB BA R.row (by decide) i S (by simpa using X));exact⟨Ag FO (p:=⟨k,b,none⟩) (AS FO K HS) _,EY.2⟩
    .rw[Aa y,Aa G];intro q C;simp only[Value.ownBlock,bR]at C;rcases hg with s|s
     .exact Or.inl (by rw[<-C];exact s)
     .exact Or.inr (by have:=J.size;omega)
   have y0:=(Aa I).cell b;rw[Aa FP]at y0;have z0:=(Aa O).cell 0;have z1:=(Aa O).cell 1;simp at z0 z1;have H7:=(Aa D).le;have H3:=(Aa O).lt;have H4:k<l.heap.size:=(Aa I).lt;clear HP HB HX P HN u I FC D y G Y O;go_wp2_with fail
   go_region_law (go_simp;go_at_call 105;refine(Aa HD _ (by first|exact Or.inl rfl|exact Or.inr rfl)).mono ?_;rintro e w4 ⟨g,z,rfl,H6,H2,B9⟩;have HM:=Ab B9;clear B9)
   all_goals
    clear HD;go_wp2;go_end0;exact⟨rfl,Aa HM⟩
