import Derived.Test.YtoihbhenbmffcaaGreatDoorZAI
import Derived.Test.YtoihbhenbmffcaaGreatDoorZAU
set_option linter.unusedVariables false
set_option linter.unusedSimpArgs false
set_option maxHeartbeats 6400000
namespace Go.Proofs.YtoihbhenbmffcaaGreatDoor
open Go.RowKit
open Go.Proofs.Tryz
theorem Tryz.info104:(Tryz.prog.info? 104).map (λi=>(i.zero,i.size,i.bytes))=some (some (.agg #[.string ⟨#[]⟩, .slice none 0 0]),2,40):=by kernel_rfl
theorem E6{P:Program}(w:World)(h n t c:TypeId)(e:Nat)(b o d k:Nat)(a:Addr)(f s:Nat)(cs:List Value)
  (r:P.underlying h=some (.slice c)) (g:(P.info? c).map (·.size)=some e) (x:cs.length=Nat.min f d*e)
  (z:∀j v,cs[j]?=some v->w.cell? (a.add j)=some v) (y:∀j,j<cs.length->(w.cell? ⟨b,o+j,none⟩).isSome=true) (p:∀j,j<cs.length->w.frozen? ⟨b,o+j,none⟩=false) (m:∀v∈cs,v.oneCell'=true):
  (Builtin.copy_ #[h,n] t #[.slice (some ⟨b,o,none⟩) d k, .slice (some a) f s]).run P w= .ok (goInt (Nat.min f d)) (w.setCells b o cs):=by
 have q:=run_loadCells_list (P:=P) w a cs z;have l:=run_storeCells_cells (P:=P) b o cs 0 w (by simpa using y) (by simpa using p) m;cases hq:P.info? c with
 |none=>simp[hq]at g
 |some i=>
  have u:i.size=e:=by simpa[hq] using g
  simp[Builtin.copy_,run_underlying r,Builtin.lenOf,Builtin.firstCells,sizeOf,typeInfo,hq,u,<-x,q,l]
set_option maxRecDepth 100000
theorem Ui(g n c i b:Nat)(cs q k:List Value)(w:World)(hi:i<n)(Y:n+1<=c)(X:c<=9223372036854775807)(B:b≠g)
  (K:cs.length=n*2) (r:k.length=2) (m:Aw w g q 104) (E:q.length=c*2) (A:q.take (n*2)=cs) (p:Aw w b k 104) (S:∀v∈cs,v.oneCell'=true) (Q:∀v∈k,v.oneCell'=true):
  Calls prog 105 #[.slice (some ⟨g,0,none⟩) n c, .int .i64 i, .slice (some ⟨b,0,none⟩) 1 1] w λe O=>
   e= .returned (.slice (some ⟨g,0,none⟩) (n+1) c)/\O=(w.drew.setCells g ((i+1)*2) (cs.drop (i*2))).setCells g (i*2) k:=by
 obtain⟨i0,N,W,I,CC⟩:=bj Tryz.info104;have D:(prog.info? 104).map (·.size)=some 2:=by rw[N];simp[I]
 have V:∀w,(Go.sizeOf 104).run prog w= .ok 2 w:=λw=>by simp[sizeOf,typeInfo,N,I]
 have J:∀j,j<(n+1)*2->(w.cell? ⟨g,j,none⟩).isSome=true:=λj a=>m.some j (by omega)
 have L:∀j,w.frozen? ⟨g,j,none⟩=false:=λj=>m.frozen j
 have F:∀j v,cs[j]?=some v->w.cell? ⟨g,j,none⟩=some v:=λj v a=>by
  rw[m.cell];rw[<-A,bw]at a;split at a
  ·exact a
  ·cases a
 have R:∀u t,(callFunc 152 #[.slice (some ⟨b,0,none⟩) 1 1, .slice (some ⟨g,(i+1)*2,none⟩) u t]).run prog w= .ok (.value (.bool false)) w:=λu t=>by
  rw[dH func152 (by kernel_rfl) (by kernel_rfl) (by kernel_rfl) (e:=Extern.SlicesOverlaps.overlaps #[113,113] #[4]) (by kernel_rfl),
   Lib.run_overlaps_apart w 113 4 104 underlying113 2 V ⟨b,0,none⟩ ⟨g,(i+1)*2,none⟩ 1 1 u t B 104 104 2 (c*2) (by rw[<-r];exact p.shape) (by rw[<-E];exact m.shape) (by omega) (p.frozen 0) (p.frozen 2)]
  rfl
 have G:(cs.drop (i*2)).length=(n-i)*2:=by rw[aL,K];omega
 have H:Nat.min (n+1-i) (n-i)=n-i:=by simp only[cF];split<;>omega
 have z:∀l d x,(Builtin.copy_ #[113,113] l #[.slice (some ⟨g,(i+1)*2,none⟩) (n-i) d, .slice (some ⟨g,i*2,none⟩) (n+1-i) x]).run prog w.drew= .ok (goInt ((n-i:Nat):Int)) (w.drew.setCells g ((i+1)*2) (cs.drop (i*2))):=λl d x=>by
  have h:=E6 w.drew 113 113 l 104 2 g ((i+1)*2) (n-i) d ⟨g,i*2,none⟩ (n+1-i) x (cs.drop (i*2)) underlying113 D (by rw[G,H])
   (λj v a=>by rw[bB];exact F (i*2+j) v (by rwa [ci]at a))
   (λj a=>J _ (by omega)) (λj a=>L _) (λv U=>S v (bP U))
  rw[H]at h;exact h
 obtain⟨f,o⟩:∃f,f=w.drew.setCells g ((i+1)*2) (cs.drop (i*2)):=⟨_,rfl⟩;have s:Aw f g (JA q ((i+1)*2) (cs.drop (i*2))) 104:=by rw[o];exact m.drew.setCells _ _
 have y:Aw f b k 104:=by rw[o];exact p.drew.kept (Ac.setCells (M:=[g]) (by simp) _ _ (Ac.refl _ _)) (by simpa using B)
 have C:Nat.min 1 (n+1-i)=1:=by simp only[cF];split<;>omega
 have P:∀l d,(Builtin.copy_ #[113,113] l #[.slice (some ⟨g,i*2,none⟩) (n+1-i) d, .slice (some ⟨b,0,none⟩) 1 1]).run prog f= .ok (goInt 1) (f.setCells g (i*2) k):=λl d=>by
  have h:=E6 f 113 113 l 104 2 g (i*2) (n+1-i) d ⟨b,0,none⟩ 1 1 k underlying113 D (by rw[C,r])
   (λj v a=>by rw[bB,bf,y.cell];exact a)
   (λj a=>s.some _ (by rw[BC];omega)) (λj a=>s.frozen _) Q
  rw[C]at h;exact h
 rw[<-o]at z;have AT:IntKind.i64.wrap ((i:Int)+1)=(i:Int)+1:=by rw[cd];omega
 have Ax:¬((i:Int)=(n:Int)):=by omega
 have B9:(0:Int)<=(i:Int)+1:=by omega
 have AH:i<=n:=by omega
 have Z:((i:Int)+1).toNat=i+1:=by omega
 have Bx:¬(c=i+1):=by omega
 have CL:(i:Int)<=(n:Int)+1:=by omega
 have BT:¬(c=i):=by omega
 have mixed:prog.follows Departure.mixedOrders=true:=by kernel_rfl
 have T:=Ab o;clear m p s y F J L o G K E A r;go_enter func105,ntmps105;go_wp2_with (simp only[R])
 go_region_law_o (refine step_copy_runI rfl _ _ 113 113 rfl _ _ (by simp[Act.eval,Act.put]) (by simp[Act.eval,Act.put]) (z _ _ _) ?_)
 go_wp2_with (at_builtin;refine wpList_copy_runI _ rfl _ _ 113 113 rfl _ _ rfl rfl (P _ _) ?_)
 go_ret;exact⟨rfl,by rw[Aa T]⟩
theorem VP(g n c i m:Nat)(cs s d:List Value)(w:World)(hi:i<n)(HD:n<=c)(EK:c<n+1)(HH:n<=1000000)
  (Y:cs.length=n*2) (H:d.length=2) (u:Aw w g s 104) (FL:s.length=c*2) (z:s.take (n*2)=cs) (F:Aw w m d 104) (FF:∀v∈cs,v.oneCell'=true) (CL:∀v∈d,v.oneCell'=true):
  Calls prog 105 #[.slice (some ⟨g,0,none⟩) n c, .int .i64 i, .slice (some ⟨m,0,none⟩) 1 1] w λe w'=>
   ∃(a:List Value) (G:Nat),a.length=G*2/\n+1<=G/\G<=maxLen/\a.take (i*2)=cs.take (i*2)/\e= .returned (.slice (some ⟨w.heap.size,0,none⟩) (n+1) G)/\
   w'=(((w.alloc (.cells a.toArray 104)).drew.setCells w.heap.size (i*2) d).drew).setCells w.heap.size ((i+1)*2) (cs.drop (i*2)):=by
 obtain⟨Q,AH,BT,U,Z⟩:=bj Tryz.info104;have mixed:prog.follows Departure.mixedOrders=true:=by kernel_rfl
 have P:(prog.info? 104).map (·.size)=some 2:=by rw[AH];simp[U]
 have Go:=u.lt;have FW:=F.lt;have J:(n:Int)+1-(i:Int)=((n+1-i:Nat):Int):=by omega
 have C:i+(n+1-i)=n+1:=by omega
 have S:∀j v,cs[j]?=some v->w.cell? ⟨g,j,none⟩=some v:=λj v b=>by
  rw[u.cell];rw[<-z,bw]at b;split at b
  ·exact b
  ·cases b
 have L:(Builtin.firstCells Q.size i (.slice (some ⟨g,0,none⟩) i c)).run prog w.drew= .ok (cs.take (i*2)).toArray w.drew:=by
  rw[U];exact dn w.drew 2 i ⟨g,0,none⟩ i c (cs.take (i*2)) (by rw[aK];omega) (λj v b=>by
   rw[bB,bf]
   rw[bw]at b
   split at b
   ·exact S j v b
   ·cases b)
 obtain⟨l,B⟩:∃l:Array Value,(Value.agg #[.string ⟨#[]⟩, .slice none 0 0]).cells=l:=⟨_,rfl⟩;have V:l.size=2:=by rw[<-B];rfl
 have r:∀f,(Builtin.append_ #[113,3] f #[.slice (some ⟨g,0,none⟩) i c, .int .i64 ((n:Int)+1-(i:Int))]).run prog w=
   .ok (.slice (some ⟨w.heap.size,0,none⟩) (n+1) (grownCap w (n+1) c 104)) (w.drew.alloc (.cells ((cs.take (i*2)).toArray++Builtin.zeroCells l (n+1-i)++Builtin.zeroCells l (grownCap w (n+1) c 104-(n+1))) 104)):=λf=>by
  have h:=Lib.run_append_grow_zeros w 113 3 f 104 Q _ .i64 .i64 underlying113 underlying3 AH BT (some ⟨g,0,none⟩) i c (cs.take (i*2)) L (n+1-i) (by omega) (by omega) (by omega) (by omega) (by rw[Z];omega) (by rw[Z,C];exact dX EK (by omega));rw[C,B]at h;rw[J];exact h
 obtain⟨G,t⟩:∃G,G=grownCap w (n+1) c 104:=⟨_,rfl⟩;obtain⟨a,q⟩:∃a:List Value,a.toArray=(cs.take (i*2)).toArray++Builtin.zeroCells l (n+1-i)++Builtin.zeroCells l (G-(n+1)):=⟨_,dB⟩;rw[<-t]at r;rw[<-q]at r;have FO:n+1<=G:=by rw[t];exact grownCap_ge w _ _ _
 have A:G<=maxLen:=by rw[t];exact dw w (n+1) c 104 (by unfold maxLen;omega)
 have AT:a.length=G*2:=by
  have:=congrArg Array.size q;simp[Builtin.zeroCells,V]at this;omega
 have R:a.take (i*2)=cs.take (i*2):=by
  have h:=congrArg Array.toList q;simp only[dp,bk]at h;rw[h,aV (by simp;omega)];simp[cY]
 obtain⟨N,hN⟩:∃N,w.heap.size=N:=⟨_,rfl⟩;have p:Aw (w.drew.alloc (.cells a.toArray 104)) N a 104:=by rw[<-hN];exact Aw.new w.drew a 104
 have K:Aw (w.drew.alloc (.cells a.toArray 104)) m d 104:=F.drew.alloc _;have O:Nat.min 1 (n+1-i)=1:=by simp only[cF];split<;>omega
 have EY:∀(W:World),(∀x,W.cell? x=(w.drew.alloc (.cells a.toArray 104)).cell? x)->(∀x,W.frozen? x=(w.drew.alloc (.cells a.toArray 104)).frozen? x)->∀f k,(Builtin.copy_ #[113,113] f #[.slice (some ⟨N,i*2,none⟩) (n+1-i) k, .slice (some ⟨m,0,none⟩) 1 1]).run prog W= .ok (goInt 1) (W.setCells N (i*2) d):=λW o D f k=>by
  have h:=E6 W 113 113 f 104 2 N (i*2) (n+1-i) k ⟨m,0,none⟩ 1 1 d underlying113 P (by rw[O,H])
   (λj v b=>by rw[bB,bf,o,K.cell];exact b)
   (λj b=>by rw[o];exact p.some _ (by omega)) (λj b=>by rw[D];exact p.frozen _) CL
  rw[O]at h;exact h
 have y:Aw ((w.drew.alloc (.cells a.toArray 104)).setCells N (i*2) d) N (JA a (i*2) d) 104:=p.setCells _ _;have I:Aw ((w.drew.alloc (.cells a.toArray 104)).setCells N (i*2) d) g s 104:=(u.drew.alloc _).kept (Ac.setCells (M:=[N]) (by simp) _ _ (Ac.refl _ _)) (by simp;omega);have T:(cs.drop (i*2)).length=(n-i)*2:=by rw[aL,Y];omega
 have X:Nat.min (n-i) (n-i)=n-i:=Nat.min_self _;have Ax:∀(W:World),(∀x,W.cell? x=((w.drew.alloc (.cells a.toArray 104)).setCells N (i*2) d).cell? x)->(∀x,W.frozen? x=((w.drew.alloc (.cells a.toArray 104)).setCells N (i*2) d).frozen? x)->∀f k E,(Builtin.copy_ #[113,113] f #[.slice (some ⟨N,(i+1)*2,none⟩) (n-i) k, .slice (some ⟨g,i*2,none⟩) (n-i) E]).run prog W= .ok (goInt ((n-i:Nat):Int)) (W.setCells N ((i+1)*2) (cs.drop (i*2))):=λW o D f k E=>by
  have h:=E6 W 113 113 f 104 2 N ((i+1)*2) (n-i) k ⟨g,i*2,none⟩ (n-i) E (cs.drop (i*2)) underlying113 P (by rw[T,X])
   (λj v b=>by
    rw[bB,o,I.cell]
    rw[ci,<-z,bw]at b
    split at b
    ·exact b
    ·cases b)
   (λj b=>by rw[o];exact y.some _ (by rw[BC];omega))
   (λj b=>by rw[D];exact y.frozen _) (λv hv=>FF v (bP hv))
  rw[X]at h;exact h
 have CC:∀x,((w.alloc (.cells a.toArray 104)).drew).cell? x=(w.drew.alloc (.cells a.toArray 104)).cell? x:=λx=>rfl
 have FP:∀x,((w.alloc (.cells a.toArray 104)).drew).frozen? x=(w.drew.alloc (.cells a.toArray 104)).frozen? x:=λx=>rfl
 have FC:∀x,(((w.alloc (.cells a.toArray 104)).drew.setCells N (i*2) d).drew).cell? x=((w.drew.alloc (.cells a.toArray 104)).setCells N (i*2) d).cell? x:=λx=>rfl
 have EX:∀x,(((w.alloc (.cells a.toArray 104)).drew.setCells N (i*2) d).drew).frozen? x=((w.drew.alloc (.cells a.toArray 104)).setCells N (i*2) d).frozen? x:=λx=>rfl
 have HF:IntKind.i64.wrap ((i:Int)+1)=(i:Int)+1:=by rw[cd];omega
 have HB:¬((i:Int)=(n:Int)):=by omega
 have HJ:(c:Int)<(n:Int)+1:=by omega
 have HL:(0:Int)<=(i:Int)+1:=by omega
 have HC:i<=n:=by omega
 have Ha:((i:Int)+1).toNat=i+1:=by omega
 have HM:(i:Int)<=(n:Int):=by omega
 have HK:¬(G=i):=by omega
 have HA:¬(G=i+1):=by omega
 have HG:¬(c=i):=by omega
 have HE:G<=9223372036854775807:=by unfold maxLen at A;omega
 have Bx:=Ab AT;have B9:=Ab R;have FA:=Ab A;rw[hN]at r⊢;clear J C L q t AT R A u F p K y I S T Y FL z H V B;go_enter func105,ntmps105;go_wp2_with (first
  |(at_builtin;refine Lib.wpList_append_run _ rfl _ _ _ _ rfl _ _ rfl rfl _ _ (r _) ?_)
  |(at_builtin;refine wpList_copy_runI _ rfl _ _ 113 113 rfl _ _ rfl rfl (EY _ CC FP _ _) ?_)
  |(at_builtin;refine wpList_copy_runI _ rfl _ _ 113 113 rfl _ _ rfl rfl (Ax _ (λ_=>rfl) (λ_=>rfl) _ _ _) ?_))
 go_region_law_o (refine step_copy_runI rfl _ _ 113 113 rfl (.slice (some ⟨N,(i+1)*2,none⟩) (n-i) (G-(i+1))) (.slice (some ⟨g,i*2,none⟩) (n-i) (c-i)) (by simp[Act.eval,Act.put]) (by simp[Act.eval,Act.put]) (Ax _ FC EX 3 (G-(i+1)) (c-i)) ?_)
 go_wp2;go_ret;exact⟨a,G,Aa Bx,FO,Aa FA,Aa B9,rfl,rfl⟩
theorem Pn{α:Type}(f:α->List Value)(a:Nat):∀(l:List α) (i:Nat),(∀x∈l,(f x).length=a)->i<=l.length->(l.take i).flatMap f=(l.flatMap f).take (i*a)/\(l.drop i).flatMap f=(l.flatMap f).drop (i*a)
 |l,0,_,_=>by simp
 |[],i+1,_,h=>by simp at h
 |x::l,i+1,hl,h=>by
  have ih:=Pn f a l i (λy b=>hl y (be _ b)) (by simpa using h);have c:=hl x (bC ..);simp only[dd,dq,aB,ih.1,ih.2];have e:(i+1)*a=(f x).length+i*a:=by rw[c,ce];omega
  rw[e];exact⟨by rw[List.take_length_add_append],by rw[List.drop_length_add_append]⟩
theorem Xp{b cs c:List Value}{n i a:Nat}(p:b.take (n*a)=cs)(k:cs.length=n*a)(e:c.length=a)(o:i<=n)(m:(n+1)*a<=b.length):
  (JA (JA b ((i+1)*a) (cs.drop (i*a))) (i*a) c).take ((n+1)*a)=cs.take (i*a)++c++cs.drop (i*a):=by
 have g:(i+1)*a=i*a+a:=by rw[ce];omega
 have f:(n+1)*a=n*a+a:=by rw[ce];omega
 have l:i*a<=n*a:=bA _ o;rw[f]at m;rw[g,f];generalize i*a=I at*;generalize n*a=M at*;have d:(cs.drop I).length=M-I:=by rw[aL,k]
 rw[D2 c _ I (by rw[BC];omega),D2 (cs.drop I) b (I+a) (by rw[d];omega)];have h:(b.take (I+a)++cs.drop I++b.drop (I+a+(cs.drop I).length)).take I=cs.take I:=by
  rw[bk,aV (by simp;omega),cY,da (by omega),<-p,cY,da l]
 have j:(b.take (I+a)++cs.drop I++b.drop (I+a+(cs.drop I).length)).drop (I+c.length)=cs.drop I++b.drop (I+a+(cs.drop I).length):=by
  rw[e,bk,List.drop_append_of_le_length (by simp;omega),List.drop_of_length_le (by simp;omega),bU]
 rw[h,j,<-bk,aV (by simp[d,e];omega),Z9 (by simp[d,e];omega)]
theorem Ut(p:Fm):(A9 p).length=2:=rfl
theorem Wc(a:List Fm)(i:Nat)(x:Fm)(b:i<=a.length):(a.take i++x::a.drop i).flatMap A9=(a.flatMap A9).take (i*2)++A9 x++(a.flatMap A9).drop (i*2):=by
 have h:=Pn A9 2 a i (λp _=>Ut p) b;rw[aN,aB,h.1,h.2,bk]
theorem Wh(a:List Fm):(a.flatMap A9).length=a.length*2:=by
 induction a with
 |nil=>rfl
 |cons p a ih=>simp only[aB,am,ih,Ut,ak];omega
theorem Rb(p:Option Addr)(cap:Nat)(b:List Fm)(i:Nat)(x:Fm)(base m:Nat)(w:World)(o:w.ownsRow base 104 2 (.slice p b.length cap) b.length (b.flatMap A9))(FC:b.length<=1000000)(V:i<=b.length)(v:Aw w m (A9 x) 104)(AH:(Value.slice p b.length cap).ownBlock≠some m)(E:base<=w.heap.size)
  (s:∀u∈b.flatMap A9,u.oneCell'=true) (N:∀u∈A9 x,u.oneCell'=true):
  Calls prog 105 #[.slice p b.length cap, .int .i64 i, .slice (some ⟨m,0,none⟩) 1 1] w λe t=>∃g Y,e= .returned (.slice (some ⟨g,0,none⟩) (b.length+1) Y)/\t.ownsRow base 104 2 (.slice (some ⟨g,0,none⟩) (b.length+1) Y) (b.length+1) ((b.take i++x::b.drop i).flatMap A9)/\Ac (Value.slice p b.length cap).ownBlock.toList w t/\((Value.slice p b.length cap).ownBlock=some g\/w.heap.size<=g):=by
 have l:=Wh b;have f:=Ut x;rw[Wc b i x V];by_cases FF:i=b.length
 ·subst FF;obtain⟨S,Z,O,Q,R⟩:=bj Tryz.info104;have q:Hid ((b.flatMap A9).take (b.length*2)++A9 x++(b.flatMap A9).drop (b.length*2)=b.flatMap A9++A9 x):=by
   show _=_;rw[Z9 (by omega),aQ (by omega),aX]
  have A:Hid (∀j u,(A9 x)[j]?=some u->w.cell? ((⟨m,0,none⟩:Addr).add j)=some u):=λj u hu=>by rw[bB,bf,v.cell];exact hu
  have L:=Ab o;have B:=Ab N;clear v s;cases p with
  |none=>
   have X:b.length=0:=by
    rcases o.2 with⟨d,r⟩|⟨g,c,n,d,_⟩
    ·exact r
    ·simp at d
   have Bx:cap=0:=by
    rcases o.2 with⟨d,r⟩|⟨g,c,n,d,_⟩
    ·simp only[Z6]at d;exact d.2.2
    ·simp at d
   subst Bx;have BA:b=[]:=cG.1 X;subst BA;clear o X;simp only[aH,bq]at L q⊢;generalize A9 x=xs at A B q f⊢;go_enter func105,ntmps105;go_wp2_with (at_builtin;refine ay _ rfl _ _ _ rfl base 104 S _ 2 40 underlying113 Z O Q R rfl (by omega) (.slice none 0 0) 0 [] rfl (Aa L) ⟨m,0,none⟩ 1 1 xs rfl (by omega) (Aa A) (Aa B) (by omega) (by unfold maxLen;omega) (by omega) E _ rfl ?_;intro I F w9 y H C Ha)
   go_ret;rw[Aa q];refine⟨I,F,rfl,y,(Ac.refl _ w).grown H (λk D=>Or.inl (by rw[cM];exact D)),?_⟩;rcases C with h|h
   ·exact Or.inl h
   ·exact Or.inr (by omega)
  |some a=>
   obtain⟨ab,ao,FP⟩:=a;have EX:ao=0/\FP=none:=by
    rcases o.2 with⟨d,r⟩|⟨g,c,n,d,_⟩
    ·simp at d
    ·simp only[Z6,ai,aW]at d;exact d.1.2
   obtain⟨rfl,rfl⟩:=EX;have EY:b.length<=cap/\cap<=maxLen:=by
    rcases o.2 with⟨d,r⟩|⟨g,c,n,d,_,_,s,h2,_⟩
    ·simp at d
    ·simp only[Z6]at d;rw[d.2.2];exact⟨s,h2⟩
   obtain⟨Ax,z⟩:=EY;unfold maxLen at z;clear o;generalize A9 x=xs at A B q f⊢;go_enter func105,ntmps105;go_wp2_with (at_builtin;refine ay _ rfl _ _ _ rfl base 104 S _ 2 40 underlying113 Z O Q R rfl (by omega) (.slice (some ⟨ab,0,none⟩) b.length cap) b.length (b.flatMap A9) rfl (Aa L) ⟨m,0,none⟩ 1 1 xs rfl (by omega) (Aa A) (Aa B) (by omega) (by unfold maxLen;omega) (by omega) E _ rfl ?_;intro I F w9 y H C Ha)
   all_goals
    go_ret;refine⟨I,F,rfl,(by first|(rw[Aa q];exact y)|(rw[<-bk,Aa q];exact y)),(Ac.refl _ w).grown H (λk D=>Or.inl (by rw[cM];exact D)),?_⟩;rcases C with h|h
    ·exact Or.inl h
    ·exact Or.inr (by omega)
 ·have U:i<b.length:=by omega
  rcases o.2 with⟨d,r⟩|⟨g,c,n,d,hb,HB,Ax,z,FT,B9⟩
  ·omega
  ·simp only[Z6]at d;obtain⟨rfl,_,rfl⟩:=d;(have CC:m≠g:=λe=>AH (by simp[Value.ownBlock,e]));(have M:Aw w g n.toList 104:=by unfold Aw;simpa using HB);(have T:n.toList.length=cap*2:=by simpa using FT);have K:n.toList.take (b.length*2)=b.flatMap A9:=B9;by_cases P:b.length+1<=cap
   ·refine(Ui g b.length cap i m (b.flatMap A9) n.toList (A9 x) w U P (by unfold maxLen at z;omega) CC l f M T K v s N).mono ?_;rintro e t ⟨rfl,rfl⟩;have J:=(M.drew.setCells ((b.flatMap A9).drop (i*2)) ((i+1)*2)).setCells (A9 x) (i*2);refine⟨g,cap,rfl,⟨?_,Or.inr ⟨g,cap,_,rfl,hb,J,P,z,?_,?_⟩⟩,?_,Or.inl rfl⟩
    ·simp only[am,aK,aL,l,f];omega
    ·simp only[bo,BC];omega
    ·exact Xp K l f V (by omega)
    ·exact Ac.setCells (by simp[Value.ownBlock]) _ _ (Ac.setCells (by simp[Value.ownBlock]) _ _ (Ac.refl _ w).drew)
   ·refine(VP g b.length cap i m (b.flatMap A9) n.toList (A9 x) w U Ax (by omega) FC l f M T K v s N).mono ?_;rintro e t ⟨W,G,HC,FW,AT,FL,rfl,rfl⟩;have J:=((Aw.new w W 104).drew.setCells (A9 x) (i*2)).drew.setCells ((b.flatMap A9).drop (i*2)) ((i+1)*2);(have hd:((b.flatMap A9).drop (i*2)).length=(b.length-i)*2:=by rw[aL,l];omega);refine⟨w.heap.size,G,rfl,⟨?_,Or.inr ⟨w.heap.size,G,_,rfl,E,J,FW,AT,?_,?_⟩⟩,?_,Or.inr (au _)⟩
    ·simp only[am,aK,aL,l,f];omega
    ·simp only[bo,BC];omega
    ·rw[D2 _ _ _ (by rw[BC,hd];omega),D2 _ _ _ (by rw[f];omega),FL];have e1:(List.take (i*2) (b.flatMap A9)++A9 x++List.drop (i*2+(A9 x).length) W).take ((i+1)*2)=List.take (i*2) (b.flatMap A9)++A9 x:=by
      rw[aV (by simp only[am,aK,l,f];omega),Z9 (by simp only[am,aK,l,f];omega)]
     rw[e1,aV (by simp only[am,aK,aL,l,f];omega),Z9 (by simp only[am,aK,aL,l,f];omega)]
    ·exact Ac.setCells (Or.inr (au _)) _ _ (Ac.setCells (Or.inr (au _)) _ _ ((Ac.refl _ w).alloc _).drew).drew
theorem Bt{w:World}{i o h e p m s u:Nat}{v1 f:Value}{t r:List Value}(n:w.ownsRow i h p v1 s t)(k:w.ownsRow o e m f u r)(j:h≠e)(q:Nat)(a:v1.ownBlock=some q):f.ownBlock≠some q:=λd=>by
 rcases n.2 with⟨rfl,_⟩|⟨g,c,x,rfl,_,l,_⟩
 ·simp[Value.ownBlock]at a
 ·rcases k.2 with⟨rfl,_⟩|⟨v,y,z,rfl,_,b,_⟩
  ·simp[Value.ownBlock]at d
  ·simp only[Value.ownBlock,ai]at a d;subst a;subst d;rw[l]at b;simp only[ai,Obj.cells.injEq]at b;exact j b.2.1
theorem AO{w:World}{f e k i:Nat}{v1:Value}{l:List Value}{b:Nat}{cs:List Value}{t:TypeId}(j:w.ownsRow f e k v1 i l)(a:Aw w b cs t)(h:e≠t):v1.ownBlock≠some b:=λd=>by
 rcases j.2 with⟨rfl,_⟩|⟨g,c,n,rfl,_,m,_⟩
 ·simp[Value.ownBlock]at d
 ·simp only[Value.ownBlock,ai]at d;subst d;unfold Aw at a;rw[m]at a;simp only[ai,Obj.cells.injEq]at a;exact h a.2.1
theorem Yf{w:World}{p:Fm}(h:DW w p):∀u∈A9 p,u.oneCell'=true:=by
 obtain⟨c,b,e⟩:=Ak h;intro u a;simp only[A9,aj,bE,or_false]at a;rcases a with rfl|rfl
 ·rfl
 ·rw[e];rfl
theorem Mc.one{w:World}{d:Value}{a:List Fm}(h:Mc w d a):∀u∈a.flatMap A9,u.oneCell'=true:=λu e=>by
 obtain⟨p,b,c⟩:=bh.1 e;exact Yf (h.each p b).1 u c
def OG(fs:List Fm)(x:Fm)(p:Nat):List Fm:=if ED fs x.f p then fs else fs.take p++x::fs.drop p
structure UB(sb so:Nat)(cells:List Value)(ty:TypeId)(sv:Value)(fs:List Fm)(x:Fm)(w w':World):Prop where
 out:∃(p:Nat) (ad:Option Addr) (cp:Nat),Gt fs x.f p/\Aw w' sb (cells.set so (.slice ad (OG fs x p).length cp)) ty/\Mc w' (.slice ad (OG fs x p).length cp) (OG fs x p)/\∀q,(Value.slice ad (OG fs x p).length cp).ownBlock=some q->sv.ownBlock=some q\/w.heap.size<=q
 kept:Ac (sb::sv.ownBlock.toList) w w'
theorem X2(k b:Nat)(E:List Value)(H:TypeId)(d:Option Addr)(c:Nat)(a:List Fm)(x:Fm)(w:World)(Q:Aw w k E H)(T:E[b]?=some (.slice d a.length c))(B9:104≠H)(HU:170≠H)(h:Mc w (.slice d a.length c) a)(L:DW w x)(W:x.f.things.length<=1000)(H0:a.length<=900000)(HA:∀i j (S:i<a.length) (hj:j<a.length),i<=j->B6 a[j].f x.f<0->B6 a[i].f x.f<0):
  Calls prog 61 #[.pointer (some ⟨k,b,none⟩), .agg (A9 x).toArray] w λe r=>e= .returned (.tuple #[])/\UB k b E H (.slice d a.length c) a x w r:=by
 have Ix:=Q.lt;have U:Hid (∀wr,Ac [] w wr->Calls prog 103 #[.slice d a.length c, .agg (A9 x).toArray, .func (.func 104) #[] #[]] wr λe r=>∃p:Nat,e= .returned (.tuple #[.int .i64 p, .bool (ED a x.f p)])/\Gt a x.f p/\Ac [] wr r):=λwr hk=>IQ d c a x wr (h.kept hk) (L.kept hk) W (by omega) HA
 have HB:=Ab Q;have HP:=Ab h;have HX:=Ab L;have HW:=Ab W;obtain⟨m,o,FO⟩:=Ak L;obtain⟨t,JJ,M⟩:∃n v,A9 x=[.string n,v]/\v= .slice m x.f.things.length o:=⟨_,_,rfl,FO⟩;obtain⟨M,rfl⟩:=M;have BA:=Ab M;generalize x.f.things.length=xl at BA;rw[Aa BA]at U⊢;clear M FO;have hK:=(Ac.refl [] w).alloc (.cells [.string t, .slice m xl o].toArray 104);have c0:=(Q.alloc (.cells [.string t, .slice m xl o].toArray 104)).cell b;rw[T]at c0;have FW:=Ab T;have HI:Hid (E.set b (.slice d a.length c)=E):=by
  show _=_;obtain⟨H2,e⟩:=dF.1 T;rw[<-e,List.set_getElem_self]
 clear T;have F:=Aw.new w [.string t, .slice m xl o] 104;have P:=Ab hK;clear h L W HA hK Q;go_enter func61,ntmps61;go_wp2_with fail
 change Code.wp _ _ _ _ (w.alloc (.cells [.string t, .slice m xl o].toArray 104));generalize w.alloc (.cells [.string t, .slice m xl o].toArray 104)=w1 at P c0 F⊢;obtain⟨N,AT⟩:∃N,w.heap.size=N:=⟨_,rfl⟩;rw[AT]at F⊢;have Jx:=Ab AT;clear AT;have x0:=F.cell 0;have x1:=F.cell 1;simp at x0 x1;have HN:=Ab F;have EX:=Ab (Aa U w1.drew (Aa P).drew);clear U F
 go_region_law (go_simp;go_at_call 103;refine(Aa EX).mono ?_;rintro e l ⟨p,rfl,hcut,k3⟩;have D:=Ab hcut;have B:=Ab ((Aa P).drew.trans k3);have O:=Ab ((Aa HN).drew.kept k3 (by simp));clear hcut k3)
 all_goals
  clear EX c0 x0 x1;have u:=Ab ((Aa HP).kept (Aa B));have I:=Ab ((Aa HB).kept (Aa B) (by simp));have FL:=Ab ((Aa HX).kept (Aa B));obtain⟨HT,Z⟩:∃HT,ED a x.f p=HT:=⟨_,rfl⟩;have Y:=Ab Z;rw[Z];clear Z;have H9:=(Aa B).size;cases HT with
  |true=>
   (have y:Hid (OG a x p=a):=by show _=_;unfold OG;rw[Aa Y,if_pos rfl]);go_wp2;go_end0;refine⟨rfl,⟨p,d,c,Aa D,?_,?_,?_⟩,(Aa B).mono (by simp)⟩
   ·rw[Aa y,Aa HI];exact Aa I
   ·rw[Aa y];exact Aa u
   ·rw[Aa y];exact λq C=>Or.inl C
  |false=>
   (have y:Hid (OG a x p=a.take p++x::a.drop p):=by show _=_;unfold OG;rw[Aa Y,if_neg (by simp)]);have G:Hid ((a.take p++x::a.drop p).length=a.length+1):=by
    show _=_;have:=(Aa D).le;simp only[am,aK,ak,aL];omega
   have HE:Hid (∀A,(A=(l.drew).alloc (.cells #[.string t, .slice m xl o] 104)\/A=(l.alloc (.cells #[.string t, .slice m xl o] 104)).drew)->Calls prog 105 #[.slice d a.length c, .int .i64 p, .slice (some ⟨l.heap.size,0,none⟩) 1 1] A λe r=>∃g z,e= .returned (.slice (some ⟨g,0,none⟩) (a.length+1) z)/\r.cell? ⟨k,b,none⟩=some (.slice d a.length c)/\r.frozen? ⟨k,b,none⟩=false/\UB k b E H (.slice d a.length c) a x w (r.setCell ⟨k,b,none⟩ (.slice (some ⟨g,0,none⟩) (a.length+1) z))):=by
    intro A FA;have J:Ac [] l A:=by
     rcases FA with rfl|rfl
     ·exact(Ac.refl [] l).drew.alloc _
     ·exact((Ac.refl [] l).alloc _).drew
    have HZ:Aw A l.heap.size (A9 x) 104:=by
     rw[Aa BA];rcases FA with rfl|rfl
     ·exact Aw.new l.drew [.string t, .slice m xl o] 104
     ·exact(Aw.new l [.string t, .slice m xl o] 104).drew
    have R:=(Aa u).kept J;(have HG:(Value.slice d a.length c).ownBlock≠some l.heap.size:=λe=>by have:=((Aa u).row.lt _ e).2;omega);refine(Rb d c a p x 0 l.heap.size A R.row (by omega) (Aa D).le HZ HG (aG _) R.one (Yf (Aa HX))).mono ?_;rintro e r ⟨g,z,rfl,Go,V,hg⟩;have EK:=(Aa I).kept J (by simp);(have HY:k∉(Value.slice d a.length c).ownBlock.toList:=λX=>AO R.row EK B9 (by simpa using X));have K:=EK.kept V HY;have FF:=K.cell b;rw[Aa FW]at FF;have HJ:Ac (k::(Value.slice d a.length c).ownBlock.toList) w r:=(((Aa B).trans J).mono (by simp)).trans (V.mono (λi S=>be _ S));have HQ:(Value.slice (some ⟨g,0,none⟩) (a.length+1) z).ownBlock≠some k:=AO Go K B9;have HR:=Ag Go (p:=⟨k,b,none⟩) HQ (.slice (some ⟨g,0,none⟩) (a.length+1) z);refine⟨g,z,rfl,FF,K.frozen b,⟨p,some ⟨g,0,none⟩,z,Aa D,?_,?_,?_⟩,HJ.setCell (p:=⟨k,b,none⟩) (Or.inl (bC ..)) _⟩
    ·rw[Aa y,Aa G];exact K.set b _
    ·rw[Aa y,Aa G];refine⟨by rw[Aa G];exact HR,λq C=>?_⟩;have FC:DW l q/\q.f.things.length<=1000:=by
      rcases aw.1 C with s|s
      ·exact⟨((Aa u).each q (cT s)).1,((Aa u).each q (cT s)).2⟩
      ·rcases aj.1 s with rfl|s
       ·exact⟨Aa FL,Aa HW⟩
       ·exact⟨((Aa u).each q (bP s)).1,((Aa u).each q (bP s)).2⟩
     have BT:=FC.1.kept J;have FT:r.ownsRow 0 170 1 q.tv q.f.things.length (q.f.things.flatMap Ae):=Ar BT V (λi S X=>Bt BT R.row (by decide) i S (by simpa using X));exact⟨Ag FT (p:=⟨k,b,none⟩) (AO FT K HU) _,FC.2⟩
    ·rw[Aa y,Aa G];intro q C;simp only[Value.ownBlock,ai]at C;rcases hg with s|s
     ·exact Or.inl (by rw[<-C];exact s)
     ·exact Or.inr (by have:=J.size;omega)
   have y0:=(Aa I).cell b;rw[Aa FW]at y0;have z0:=(Aa O).cell 0;have z1:=(Aa O).cell 1;simp at z0 z1;have H8:=(Aa D).le;have H4:=(Aa O).lt;have H5:k<l.heap.size:=(Aa I).lt;clear HP HB HX P HN u I FL D y G Y O;go_wp2_with fail
   go_region_law (go_simp;go_at_call 105;refine(Aa HE _ (by first|exact Or.inl rfl|exact Or.inr rfl)).mono ?_;rintro e w4 ⟨g,z,rfl,H7,H3,CC⟩;have HO:=Ab CC;clear CC)
   all_goals
    clear HE;go_wp2;go_end0;exact⟨rfl,Aa HO⟩
