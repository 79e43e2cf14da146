import Derived.Shelf.Spec.SlicesInsertGrow
import Derived.Test.YtoihbhenbmffcaaGreatDoorZAA
set_option linter.unusedVariables false
set_option linter.unusedSimpArgs false
set_option maxHeartbeats 6400000
namespace Go.Proofs.YtoihbhenbmffcaaGreatDoor
open Go.RowKit
open Go.Proofs.Tryz
theorem Tryz.info21:(Tryz.prog.info? 21).map (λi=>(i.zero,i.size,i.bytes))=some (some (.int .i32 0),1,4):=by kernel_rfl
def JA:List Value->Nat->List Value->List Value
 |cs,_,[]=>cs
 |cs,o,v::r=>JA (cs.set o v) (o+1) r
theorem D2:∀(b a:List Value) (o:Nat),o+b.length<=a.length->JA a o b=a.take o++b++a.drop (o+b.length)
 |[],a,o,h=>by simp[JA]
 |v::r,a,o,h=>by
  simp only[ak]at h;rw[JA,D2 r (a.set o v) (o+1) (by simp;omega)];have c:(a.set o v).take (o+1)=a.take o++[v]:=by
   rw[ac (by simp;omega),List.take_set_of_le (by omega)];simp
  have d:(a.set o v).drop (o+1+r.length)=a.drop (o+(r.length+1)):=by
   rw[List.drop_set_of_lt (by omega)]
   congr 1
   omega
  rw[c,d];simp
theorem BC:∀(b a:List Value) (o:Nat),(JA a o b).length=a.length
 |[],a,o=>rfl
 |v::r,a,o=>by rw[JA,BC r];simp
theorem Aw.setCells{b:Nat}{t:TypeId}:∀(c:List Value) {w:World} {a:List Value} (o:Nat),Aw w b a t->Aw (w.setCells b o c) b (JA a o c) t
 |[],_,_,_,h=>h
 |v::r,w,a,o,h=>by
  rw[World.setCells,JA];exact Aw.setCells r (o+1) (h.set o v)
theorem Ac.setCells{M:List Nat}{a:World}{b:Nat}(c:b∈M\/a.heap.size<=b):∀(d:List Value) {w:World} (o:Nat),Ac M a w->Ac M a (w.setCells b o d)
 |[],_,_,h=>h
 |v::r,w,o,h=>by
  rw[World.setCells];exact Ac.setCells c r (o+1) (h.setCell (p:=⟨b,o,none⟩) c v)
theorem Aw.shape{w:World}{b:Nat}{cs:List Value}{t:TypeId}(h:Aw w b cs t):w.shape? b=some (t,cs.length):=by
 unfold Aw at h;simp[World.shape?,h]
theorem Aw.some{w:World}{b:Nat}{cs:List Value}{t:TypeId}(h:Aw w b cs t)(k:Nat)(a:k<cs.length):(w.cell? ⟨b,k,none⟩).isSome=true:=by
 rw[h.cell,aA a];rfl
theorem Ol{a cs:List Value}{n i:Nat}(h:a.take n=cs)(e:cs.length=n)(f:i<=n)(j:n+1<=a.length)(x:Value):
  (JA (JA a (i+1) (cs.drop i)) i [x]).take (n+1)=cs.take i++x::cs.drop i:=by
 have b:(cs.drop i).length=n-i:=by rw[aL,e]
 rw[D2 [x] _ i (by rw[BC];simp;omega),D2 (cs.drop i) a (i+1) (by rw[b];omega)];have c:(a.take (i+1)++cs.drop i++a.drop (i+1+(cs.drop i).length)).take i=cs.take i:=by
  rw[bk,aV (by simp;omega),cY,da (by omega),<-h,cY,da f]
 have g:(a.take (i+1)++cs.drop i++a.drop (i+1+(cs.drop i).length)).drop (i+[x].length)=cs.drop i++a.drop (i+1+(cs.drop i).length):=by
  rw[bk,List.drop_left' (by simp;omega)]
 rw[c,g,bk,List.take_append,Z9 (by simp;omega)]
 congr 1
 have d:n+1-(cs.take i).length=(n-i)+1:=by simp;omega
 rw[d];simp only[el,cJ,bU,dd];rw[aV (by omega),Z9 (by omega)]
set_option maxRecDepth 100000
theorem T7(g n c i b:Nat)(cs p:List Value)(f:Value)(w:World)(hi:i<n)(U:n+1<=c)(T:c<=9223372036854775807)(y:b≠g)
  (Q:cs.length=n) (l:Aw w g p 9) (L:p.length=c) (H:p.take n=cs) (o:Aw w b [f] 9) (K:∀v∈cs,v.oneCell'=true) (I:f.oneCell'=true):
  Calls prog 218 #[.slice (some ⟨g,0,none⟩) n c, .int .i64 i, .slice (some ⟨b,0,none⟩) 1 1] w λe F=>
   e= .returned (.slice (some ⟨g,0,none⟩) (n+1) c)/\F=(w.drew.setCells g (i+1) (cs.drop i)).setCells g i [f]:=by
 obtain⟨X,E,S,B,Bx⟩:=bj Tryz.info9;have z:(prog.info? 9).map (·.size)=some 1:=by rw[E];simp[B]
 have R:∀w,(Go.sizeOf 9).run prog w= .ok 1 w:=λw=>by simp[sizeOf,typeInfo,E,B]
 have C:∀j,j<n+1->(w.cell? ⟨g,j,none⟩).isSome=true:=λj a=>l.some j (by omega)
 have D:∀j,w.frozen? ⟨g,j,none⟩=false:=λj=>l.frozen j
 have A:∀j v,cs[j]?=some v->w.cell? ⟨g,j,none⟩=some v:=λj v a=>by
  rw[l.cell];rw[<-H,bw]at a;split at a
  ·exact a
  ·cases a
 have J:∀s r,(callFunc 231 #[.slice (some ⟨b,0,none⟩) 1 1, .slice (some ⟨g,i+1,none⟩) s r]).run prog w= .ok (.value (.bool false)) w:=λs r=>by
  rw[dH func231 (by kernel_rfl) (by kernel_rfl) (by kernel_rfl) (e:=Extern.SlicesOverlaps.overlaps #[41,41] #[4]) (by kernel_rfl),
   Lib.run_overlaps_apart w 41 4 9 underlying41 1 R ⟨b,0,none⟩ ⟨g,i+1,none⟩ 1 1 s r y 9 9 1 c (by simpa using o.shape) (by rw[<-L];exact l.shape) (by omega) (o.frozen 0) (o.frozen 1)]
  rfl
 have O:(cs.drop i).length=n-i:=by rw[aL,Q]
 have x:∀k d t,(Builtin.copy_ #[41,41] k #[.slice (some ⟨g,i+1,none⟩) (n-i) d, .slice (some ⟨g,i,none⟩) (n+1-i) t]).run prog w.drew= .ok (goInt (cs.drop i).length) (w.drew.setCells g (i+1) (cs.drop i)):=λk d t=>
  cj w.drew _ _ k 9 g (i+1) (n-i) d ⟨g,i,none⟩ (n+1-i) t (cs.drop i) underlying41 z (by rw[O];simp only[cF];split<;>omega)
   (λj v a=>by rw[bB];exact A (i+j) v (by rwa [ci]at a))
   (λj a=>C _ (by omega)) (λj a=>D _) (λv P=>K v (bP P))
 obtain⟨h,m⟩:∃h,h=w.drew.setCells g (i+1) (cs.drop i):=⟨_,rfl⟩;have q:Aw h g (JA p (i+1) (cs.drop i)) 9:=by rw[m];exact l.drew.setCells _ _
 have u:Aw h b [f] 9:=by rw[m];exact o.drew.kept (Ac.setCells (M:=[g]) (by simp) _ _ (Ac.refl _ _)) (by simpa using y)
 have G:∀k d,(Builtin.copy_ #[41,41] k #[.slice (some ⟨g,i,none⟩) (n+1-i) d, .slice (some ⟨b,0,none⟩) 1 1]).run prog h= .ok (goInt [f].length) (h.setCells g i [f]):=λk d=>
  cj h _ _ k 9 g i (n+1-i) d ⟨b,0,none⟩ 1 1 [f] underlying41 z (by simp only[cF];split<;>simp<;>omega)
   (λj v a=>by rw[bB,bf,u.cell];exact a)
   (λj a=>q.some _ (by rw[BC];simp at a;omega)) (λj a=>q.frozen _) (by simpa using I)
 rw[<-m]at x;have Z:IntKind.i64.wrap ((i:Int)+1)=(i:Int)+1:=by rw[cd];omega
 have W:¬((i:Int)=(n:Int)):=by omega
 have AT:(0:Int)<=(i:Int)+1:=by omega
 have Y:i<=n:=by omega
 have V:((i:Int)+1).toNat=i+1:=by omega
 have Ax:¬(c=i+1):=by omega
 have BA:(i:Int)<=(n:Int)+1:=by omega
 have AH:¬(c=i):=by omega
 have mixed:prog.follows Departure.mixedOrders=true:=by kernel_rfl
 have N:=Ab m;clear l o q u A C D m;go_enter func218,ntmps218;go_wp2_with (simp only[J])
 go_region_law_o (refine step_copy_runI rfl _ _ 41 41 rfl _ _ (by simp[Act.eval,Act.put]) (by simp[Act.eval,Act.put]) (x _ _ _) ?_)
 go_wp2_with (at_builtin;refine wpList_copy_runI _ rfl _ _ 41 41 rfl _ _ rfl rfl (G _ _) ?_)
 go_ret;exact⟨rfl,by rw[Aa N]⟩
theorem Wr(g n c i l:Nat)(cs r:List Value)(d:Value)(w:World)(hi:i<n)(FW:n<=c)(AH:c<n+1)(HB:n<=1000000)
  (EY:cs.length=n) (t:Aw w g r 9) (FP:r.length=c) (D:r.take n=cs) (C:Aw w l [d] 9) (B9:∀v∈cs,v.oneCell'=true) (AB:d.oneCell'=true):
  Calls prog 218 #[.slice (some ⟨g,0,none⟩) n c, .int .i64 i, .slice (some ⟨l,0,none⟩) 1 1] w λe X=>
   ∃(a:List Value) (G:Nat),a.length=G/\n+1<=G/\G<=maxLen/\a.take i=cs.take i/\e= .returned (.slice (some ⟨w.heap.size,0,none⟩) (n+1) G)/\
   X=(((w.alloc (.cells a.toArray 9)).drew.setCells w.heap.size i [d]).drew).setCells w.heap.size (i+1) (cs.drop i):=by
 obtain⟨K,T,Y,P,Q⟩:=bj Tryz.info9;have mixed:prog.follows Departure.mixedOrders=true:=by kernel_rfl
 have J:(prog.info? 9).map (·.size)=some 1:=by rw[T];simp[P]
 have FC:=t.lt;have FA:=C.lt;have F:(n:Int)+1-(i:Int)=((n+1-i:Nat):Int):=by omega
 have z:i+(n+1-i)=n+1:=by omega
 have O:∀j v,cs[j]?=some v->w.cell? ⟨g,j,none⟩=some v:=λj v b=>by
  rw[t.cell];rw[<-D,bw]at b;split at b
  ·exact b
  ·cases b
 have I:(Builtin.firstCells K.size i (.slice (some ⟨g,0,none⟩) i c)).run prog w.drew= .ok (cs.take i).toArray w.drew:=by
  rw[P];exact dn w.drew 1 i ⟨g,0,none⟩ i c (cs.take i) (by rw[aK];omega) (λj v b=>by
   rw[bB,bf]
   rw[bw]at b
   split at b
   ·exact O j v b
   ·cases b)
 have q:∀f,(Builtin.append_ #[41,3] f #[.slice (some ⟨g,0,none⟩) i c, .int .i64 ((n:Int)+1-(i:Int))]).run prog w=
   .ok (.slice (some ⟨w.heap.size,0,none⟩) (n+1) (grownCap w (n+1) c 9)) (w.drew.alloc (.cells ((cs.take i).toArray++Builtin.zeroCells (Value.string ⟨#[]⟩:Value).cells (n+1-i)++Builtin.zeroCells (Value.string ⟨#[]⟩:Value).cells (grownCap w (n+1) c 9-(n+1))) 9)):=λf=>by
  have h:=Lib.run_append_grow_zeros w 41 3 f 9 K _ .i64 .i64 underlying41 underlying3 T Y (some ⟨g,0,none⟩) i c (cs.take i) I (n+1-i) (by omega) (by omega) (by omega) (by omega) (by rw[Q];omega) (by rw[Q,z];exact dX AH (by omega));rw[z]at h;rw[F];exact h
 obtain⟨G,s⟩:∃G,G=grownCap w (n+1) c 9:=⟨_,rfl⟩;obtain⟨a,p⟩:∃a:List Value,a.toArray=(cs.take i).toArray++Builtin.zeroCells (Value.string ⟨#[]⟩:Value).cells (n+1-i)++Builtin.zeroCells (Value.string ⟨#[]⟩:Value).cells (G-(n+1)):=⟨_,dB⟩;rw[<-s]at q;rw[<-p]at q;have CC:n+1<=G:=by rw[s];exact grownCap_ge w _ _ _
 have y:G<=maxLen:=by rw[s];exact dw w (n+1) c 9 (by unfold maxLen;omega)
 have U:a.length=G:=by
  have:=congrArg Array.size p;simp[Builtin.zeroCells,Value.cells]at this;omega
 have L:a.take i=cs.take i:=by
  have h:=congrArg Array.toList p;simp only[dp,bk]at h;rw[h,aV (by simp;omega)];simp[cY]
 obtain⟨N,S⟩:∃N,w.heap.size=N:=⟨_,rfl⟩;have o:Aw (w.drew.alloc (.cells a.toArray 9)) N a 9:=by rw[<-S];exact Aw.new w.drew a 9
 have H:Aw (w.drew.alloc (.cells a.toArray 9)) l [d] 9:=C.drew.alloc _;have Bx:∀(W:World),(∀x,W.cell? x=(w.drew.alloc (.cells a.toArray 9)).cell? x)->(∀x,W.frozen? x=(w.drew.alloc (.cells a.toArray 9)).frozen? x)->∀f k,(Builtin.copy_ #[41,41] f #[.slice (some ⟨N,i,none⟩) (n+1-i) k, .slice (some ⟨l,0,none⟩) 1 1]).run prog W= .ok (goInt [d].length) (W.setCells N i [d]):=λW m A f k=>
  cj W _ _ f 9 N i (n+1-i) k ⟨l,0,none⟩ 1 1 [d] underlying41 J (by simp only[cF];split<;>simp<;>omega)
   (λj v b=>by rw[bB,bf,m,H.cell];exact b)
   (λj b=>by rw[m];exact o.some _ (by simp at b;omega)) (λj b=>by rw[A];exact o.frozen _) (by simpa using AB)
 have u:Aw ((w.drew.alloc (.cells a.toArray 9)).setCells N i [d]) N (JA a i [d]) 9:=o.setCells _ _;have E:Aw ((w.drew.alloc (.cells a.toArray 9)).setCells N i [d]) g r 9:=(t.drew.alloc _).kept (Ac.setCells (M:=[N]) (by simp) _ _ (Ac.refl _ _)) (by simp;omega);have CL:(cs.drop i).length=n-i:=by rw[aL,EY]
 have R:∀(W:World),(∀x,W.cell? x=((w.drew.alloc (.cells a.toArray 9)).setCells N i [d]).cell? x)->(∀x,W.frozen? x=((w.drew.alloc (.cells a.toArray 9)).setCells N i [d]).frozen? x)->∀f k B,(Builtin.copy_ #[41,41] f #[.slice (some ⟨N,i+1,none⟩) (n-i) k, .slice (some ⟨g,i,none⟩) (n-i) B]).run prog W= .ok (goInt (cs.drop i).length) (W.setCells N (i+1) (cs.drop i)):=λW m A f k B=>
  cj W _ _ f 9 N (i+1) (n-i) k ⟨g,i,none⟩ (n-i) B (cs.drop i) underlying41 J (by rw[CL];simp only[cF];split<;>omega)
   (λj v b=>by
    rw[bB,m,E.cell]
    rw[ci,<-D,bw]at b
    split at b
    ·exact b
    ·cases b)
   (λj b=>by rw[m];exact u.some _ (by rw[BC];omega))
   (λj b=>by rw[A];exact u.frozen _) (λv hv=>B9 v (bP hv))
 have Ax:∀x,((w.alloc (.cells a.toArray 9)).drew).cell? x=(w.drew.alloc (.cells a.toArray 9)).cell? x:=λx=>rfl
 have EK:∀x,((w.alloc (.cells a.toArray 9)).drew).frozen? x=(w.drew.alloc (.cells a.toArray 9)).frozen? x:=λx=>rfl
 have BT:∀x,(((w.alloc (.cells a.toArray 9)).drew.setCells N i [d]).drew).cell? x=((w.drew.alloc (.cells a.toArray 9)).setCells N i [d]).cell? x:=λx=>rfl
 have AT:∀x,(((w.alloc (.cells a.toArray 9)).drew.setCells N i [d]).drew).frozen? x=((w.drew.alloc (.cells a.toArray 9)).setCells N i [d]).frozen? x:=λx=>rfl
 have Ha:IntKind.i64.wrap ((i:Int)+1)=(i:Int)+1:=by rw[cd];omega
 have FO:¬((i:Int)=(n:Int)):=by omega
 have HD:(c:Int)<(n:Int)+1:=by omega
 have HF:(0:Int)<=(i:Int)+1:=by omega
 have FT:i<=n:=by omega
 have FF:((i:Int)+1).toNat=i+1:=by omega
 have HG:(i:Int)<=(n:Int):=by omega
 have HE:¬(G=i):=by omega
 have FL:¬(G=i+1):=by omega
 have HA:¬(c=i):=by omega
 have Go:G<=9223372036854775807:=by unfold maxLen at y;omega
 have V:=Ab U;have Z:=Ab L;have BA:=Ab y;rw[S]at q⊢;clear F z I p s U L y t C o H u E O;go_enter func218,ntmps218;go_wp2_with (first
  |(at_builtin;refine Lib.wpList_append_run _ rfl _ _ _ _ rfl _ _ rfl rfl _ _ (q _) ?_)
  |(at_builtin;refine wpList_copy_runI _ rfl _ _ 41 41 rfl _ _ rfl rfl (Bx _ Ax EK _ _) ?_)
  |(at_builtin;refine wpList_copy_runI _ rfl _ _ 41 41 rfl _ _ rfl rfl (R _ (λ_=>rfl) (λ_=>rfl) _ _ _) ?_))
 go_region_law_o (refine step_copy_runI rfl _ _ 41 41 rfl (.slice (some ⟨N,i+1,none⟩) (n-i) (G-(i+1))) (.slice (some ⟨g,i,none⟩) (n-i) (c-i)) (by simp[Act.eval,Act.put]) (by simp[Act.eval,Act.put]) (R _ BT AT 3 (G-(i+1)) (c-i)) ?_)
 go_wp2;go_ret;exact⟨a,G,Aa V,CC,Aa BA,Aa Z,rfl,rfl⟩
theorem Mg(l:List cL):l.flatMap Ae=l.map (Value.string):=by
 induction l with
 |nil=>rfl
 |cons a l ih=>rw[aB,aI,ih];rfl
theorem Zo(l:List cL):∀v∈l.flatMap Ae,v.oneCell'=true:=by
 intro v b;rw[Mg]at b;obtain⟨a,_,rfl⟩:=az.1 b;rfl
theorem Gi(l:List cL)(i:Nat)(x:cL):(Fy l i x).flatMap Ae=(l.flatMap Ae).take i++ .string x::(l.flatMap Ae).drop i:=by
 rw[Mg,Mg,Fy,bm,aI,List.map_take,List.map_drop]
theorem Ri(o:Option Addr)(cap:Nat)(l:List cL)(i:Nat)(x:cL)(base d:Nat)(w:World)(m:w.ownsRow base 9 1 (.slice o l.length cap) l.length (l.flatMap Ae))(EK:l.length<=1000000)(H:i<=l.length)(s:Aw w d [.string x] 9)(X:(Value.slice o l.length cap).ownBlock≠some d)(y:base<=w.heap.size):
  Calls prog 218 #[.slice o l.length cap, .int .i64 i, .slice (some ⟨d,0,none⟩) 1 1] w λe q=>∃g T,e= .returned (.slice (some ⟨g,0,none⟩) (l.length+1) T)/\q.ownsRow base 9 1 (.slice (some ⟨g,0,none⟩) (l.length+1) T) (l.length+1) ((Fy l i x).flatMap Ae)/\Ac (Value.slice o l.length cap).ownBlock.toList w q/\((Value.slice o l.length cap).ownBlock=some g\/w.heap.size<=g):=by
 have n:(l.flatMap Ae).length=l.length:=by rw[Mg];simp
 by_cases EX:i=l.length
 ·subst EX;obtain⟨N,U,J,L,M⟩:=bj Tryz.info9;have HI:Hid ((Fy l l.length x).flatMap Ae=l.flatMap Ae++[.string x]):=by
   show _=_;rw[Gi,Z9 (by omega),aQ (by omega)]
  have S:Hid (∀j u,[.string x][j]?=some u->w.cell? ((⟨d,0,none⟩:Addr).add j)=some u):=λj u hu=>by rw[bB,bf,s.cell];exact hu
  have F:=Ab m;clear s;cases o with
  |none=>
   have R:l.length=0:=by
    rcases m.2 with⟨b,p⟩|⟨g,c,f,b,_⟩
    ·exact p
    ·simp at b
   have Z:cap=0:=by
    rcases m.2 with⟨b,p⟩|⟨g,c,f,b,_⟩
    ·simp only[Z6]at b;exact b.2.2
    ·simp at b
   subst Z;have Ax:l=[]:=cG.1 R;subst Ax;clear m R;simp only[aH]at F⊢;go_enter func218,ntmps218;go_wp2_with (at_builtin;refine ay _ rfl _ _ _ rfl base 9 N _ 1 16 underlying41 U J L M rfl (by omega) (.slice none 0 0) 0 [] rfl (Aa F) ⟨d,0,none⟩ 1 1 [.string x] rfl rfl (Aa S) (by simp[Value.oneCell']) (by omega) (by unfold maxLen;omega) (by omega) y _ rfl ?_;intro B z w9 C A t FP)
   go_ret;refine⟨B,z,rfl,C,(Ac.refl _ w).grown A (λk v=>Or.inl (by rw[cM];exact v)),?_⟩;rcases t with h|h
   ·exact Or.inl h
   ·exact Or.inr (by omega)
  |some a=>
   obtain⟨ab,ao,FC⟩:=a;have B9:ao=0/\FC=none:=by
    rcases m.2 with⟨b,p⟩|⟨g,c,f,b,_⟩
    ·simp at b
    ·simp only[Z6,ai,aW]at b;exact b.1.2
   obtain⟨rfl,rfl⟩:=B9;have CC:l.length<=cap/\cap<=maxLen:=by
    rcases m.2 with⟨b,p⟩|⟨g,c,f,b,_,_,h1,h2,_⟩
    ·simp at b
    ·simp only[Z6]at b;rw[b.2.2];exact⟨h1,h2⟩
   obtain⟨V,r⟩:=CC;unfold maxLen at r;clear m;go_enter func218,ntmps218;go_wp2_with (at_builtin;refine ay _ rfl _ _ _ rfl base 9 N _ 1 16 underlying41 U J L M rfl (by omega) (.slice (some ⟨ab,0,none⟩) l.length cap) l.length (l.flatMap Ae) rfl (Aa F) ⟨d,0,none⟩ 1 1 [.string x] rfl rfl (Aa S) (by simp[Value.oneCell']) (by omega) (by unfold maxLen;omega) (by omega) y _ rfl ?_;intro B z w9 C A t FP)
   all_goals
    go_ret;rw[Aa HI];refine⟨B,z,rfl,C,(Ac.refl _ w).grown A (λk v=>Or.inl (by rw[cM];exact v)),?_⟩;rcases t with h|h
    ·exact Or.inl h
    ·exact Or.inr (by omega)
 ·have P:i<l.length:=by omega
  rcases m.2 with⟨b,p⟩|⟨g,c,f,b,hb,FW,V,r,FF,AH⟩
  ·omega
  ·simp only[Z6]at b;obtain⟨rfl,_,rfl⟩:=b;(have AT:d≠g:=λe=>X (by simp[Value.ownBlock,e]));(have I:Aw w g f.toList 9:=by unfold Aw;simpa using FW);(have O:f.toList.length=cap:=by simpa using FF);(have E:f.toList.take l.length=l.flatMap Ae:=by simpa using AH);by_cases K:l.length+1<=cap
   ·refine(T7 g l.length cap i d (l.flatMap Ae) f.toList (.string x) w P K (by unfold maxLen at r;omega) AT n I O E s (Zo l) rfl).mono ?_;rintro e q ⟨rfl,rfl⟩;have D:=(I.drew.setCells ((l.flatMap Ae).drop i) (i+1)).setCells [.string x] i;refine⟨g,cap,rfl,⟨?_,Or.inr ⟨g,cap,_,rfl,hb,D,K,r,?_,?_⟩⟩,?_,Or.inl rfl⟩
    ·rw[Mg,aD,DQ H];simp
    ·simp only[bo,BC];omega
    ·rw[Gi];simp only[eC];exact Ol E n H (by omega) _
    ·exact Ac.setCells (by simp[Value.ownBlock]) _ _ (Ac.setCells (by simp[Value.ownBlock]) _ _ (Ac.refl _ w).drew)
   ·refine(Wr g l.length cap i d (l.flatMap Ae) f.toList (.string x) w P V (by omega) EK n I O E s (Zo l) rfl).mono ?_;rintro e q ⟨Q,G,Ha,FL,Y,EY,rfl,rfl⟩;have D:=((Aw.new w Q 9).drew.setCells [.string x] i).drew.setCells ((l.flatMap Ae).drop i) (i+1);(have W:((l.flatMap Ae).drop i).length=l.length-i:=by rw[aL,n]);refine⟨w.heap.size,G,rfl,⟨?_,Or.inr ⟨w.heap.size,G,_,rfl,y,D,FL,Y,?_,?_⟩⟩,?_,Or.inr (au _)⟩
    ·rw[Mg,aD,DQ H];simp
    ·simp only[bo,BC];omega
    ·rw[Gi];simp only[eC];rw[D2 _ _ _ (by rw[BC,W];omega),D2 _ _ _ (by simp;omega),EY];have e1:(List.take i (l.flatMap Ae)++[Value.string x]++List.drop (i+[Value.string x].length) Q).take (i+1)=List.take i (l.flatMap Ae)++[Value.string x]:=by
      rw[aV (by simp only[am,aK,ak,aH,aL,n];omega),Z9 (by simp only[am,aK,ak,aH,aL,n];omega)]
     rw[e1,aV (by simp only[am,aK,ak,aH,aL,n];omega),Z9 (by simp only[am,aK,ak,aH,aL,n];omega)];simp
    ·exact Ac.setCells (Or.inr (au _)) _ _ (Ac.setCells (Or.inr (au _)) _ _ ((Ac.refl _ w).alloc _).drew).drew
def UZ(l:List cL)(x:cL):Bool:=l.any λy=>Zk y x
theorem I2(l:List cL)(x:cL):UZ l x=true↔x∈l:=by
 unfold UZ;rw[bI];constructor
 ·rintro ⟨y,a,h⟩;rw[<-(Eb.eqv y x).1 h];exact a
 ·intro h;exact⟨x,h,(Eb.eqv x x).2 rfl⟩
theorem Ck.inS{l:List cL}(a:Ct Dg l){x:cL}{at_:Nat}(h:Ck Dg l 0 x at_):DR Zk l at_ x=UZ l x:=by
 rw[bJ,h.has Eb a,I2]
theorem PG(f:Option Addr)(cap:Nat)(l:List cL)(x:cL)(base:Nat)(w:World)(h:w.ownsRow base 9 1 (.slice f l.length cap) l.length (l.flatMap Ae))(q:l.length<=1000000)(i:Ct Dg l):
  Calls prog 121 #[.slice f l.length cap, .string x] w λe j=>e= .returned (.bool (UZ l x))/\j=w:=by
 have m:=Ab (O9 (.slice f l.length cap) l 0 x base w h q (aG _) i);have r:=Ab i;have s:=Ab h;clear h i;go_enter func121,ntmps121;go_wp2_with fail
 refine(Aa m).mono ?_;rintro e j ⟨b,rfl,c,rfl⟩;have o:=Ab (c.inS (Aa r));have u:=c.le;clear m c;by_cases a:b<l.length
 ·obtain⟨g,t,n,v,k⟩:=AE (Aa s) (by simp[Ae]) b a;simp only[Z6]at n;obtain⟨rfl,_,rfl⟩:=n;have p:=k b a 0 (by omega);simp[Ae]at p;clear k;have d:Hid (UZ l x=Zk l[b] x):=by show _=_;rw[<-Aa o];unfold DR;rw[dif_pos a]
  go_wp2;go_ret;rw[d.out];exact⟨rfl,rfl⟩
 ·have d:Hid (UZ l x=false):=by show _=_;rw[<-Aa o];unfold DR;rw[dif_neg a]
  go_wp2;go_ret;rw[d.out];exact⟨rfl,rfl⟩
def Ld(base:Nat)(lv:Value)(l:List cL)(x:cL)(w:World)(e:Ending)(w':World):Prop:=
 ∃(l':List cL) (ad':Option Addr) (cp':Nat),e= .returned (.slice ad' l'.length cp')/\Ct Dg l'/\(∀y,y∈l'↔y=x\/y∈l)/\l.length<=l'.length/\l'.length<=l.length+1/\
  w'.ownsRow base 9 1 (.slice ad' l'.length cp') l'.length (l'.flatMap Ae)/\Ac lv.ownBlock.toList w w'/\(∀k,(Value.slice ad' l'.length cp').ownBlock=some k->lv.ownBlock=some k\/w.heap.size<=k)
theorem XL(c:Option Addr)(cap:Nat)(l:List cL)(x:cL)(base:Nat)(w:World)(z:w.ownsRow base 9 1 (.slice c l.length cap) l.length (l.flatMap Ae))(G:l.length<=1000000)(A:Ct Dg l)(Y:base<=w.heap.size):
  Calls prog 194 #[.slice c l.length cap, .string x] w λe a=>Ld base (.slice c l.length cap) l x w e a:=by
 have J:=Ab (O9 (.slice c l.length cap) l 0 x base w z G (aG _) A);have t:=Ab A;have n:=Ab z;clear z A;go_enter func194,ntmps194;go_wp2_with fail
 refine(Aa J).mono ?_;rintro e a ⟨b,rfl,j,rfl⟩;have E:=Ab (j.has Eb (Aa t));have s:=Ab j;have L:=j.le;clear J j;have m:Hid (DR Zk l b x=false->Calls prog 218 #[.slice c l.length cap, .int .i64 b, .slice (some ⟨a.heap.size,0,none⟩) 1 1] (a.alloc (.cells #[.string x] 9)) λe d=>Ld base (.slice c l.length cap) l x a e d):=by
  intro M;have R:Aw (a.alloc (.cells [.string x].toArray 9)) a.heap.size [.string x] 9:=Aw.new a [.string x] 9;refine(Ri c cap l b x base a.heap.size _ (ah (Aa n) _) G L R (λe=>by have:=((Aa n).lt _ e).2;omega) (by simp;omega)).mono ?_;rintro e d ⟨g,V,rfl,O,q,T⟩;have I:=DQ (x:=x) L;refine⟨Fy l b x,some ⟨g,0,none⟩,V,by rw[I],(Aa s).rise Eb (Aa t) M,λy=>LH x y,by omega,by omega,by rw[I];exact O,((Ac.refl _ a).alloc _).trans q,?_⟩;intro k F;simp only[Value.ownBlock,ai]at F;subst F;rcases T with h|h
  ·exact Or.inl h
  ·exact Or.inr (by simp at h;omega)
 have o:Hid (DR Zk l b x=true->Ld base (.slice c l.length cap) l x a (.returned (.slice c l.length cap)) a):=by
  intro S;have Q:=(Aa E).1 S;exact⟨l,c,cap,rfl,Aa t,λy=>⟨Or.inr,λh=>by rcases h with rfl|h;exact Q;exact h⟩,by omega,by omega,Aa n,Ac.refl _ _,λk q=>Or.inl q⟩
 by_cases i:b<l.length
 ·obtain⟨g,X,K,Z,H⟩:=AE (Aa n) (by simp[Ae]) b i;simp only[Z6]at K;obtain⟨rfl,_,rfl⟩:=K;have N:=H b i 0 (by omega);simp[Ae]at N;clear H;have p:Hid (DR Zk l b x=Zk l[b] x):=by show _=_;unfold DR;rw[dif_pos i]
  have W:Hid ((l[b].toList==x.toList)=true->Ld base (.slice (some ⟨g,0,none⟩) l.length cap) l x a (.returned (.slice (some ⟨g,0,none⟩) l.length cap)) a):=λr=>Aa o (by rw[p.out];exact r)
  have U:Hid ((l[b].toList==x.toList)=false->Calls prog 218 #[.slice (some ⟨g,0,none⟩) l.length cap, .int .i64 b, .slice (some ⟨a.heap.size,0,none⟩) 1 1] (a.alloc (.cells #[.string x] 9)) λe d=>Ld base (.slice (some ⟨g,0,none⟩) l.length cap) l x a e d):=λr=>Aa m (by rw[p.out];exact r)
  clear p E s m o;go_wp2_with fail
  ·go_ret;exact Aa W (by assumption)
  ·refine(Aa U (by assumption)).mono ?_;intro e d B;obtain⟨C,u,v,rfl,f⟩:=B;have D:=Ab f;clear f;go_wp2;go_ret;exact⟨C,u,v,rfl,Aa D⟩
 ·have P:=Ab (Aa m (by unfold DR;rw[dif_neg i]));clear E s m o;go_wp2_with fail
  refine(Aa P).mono ?_;intro e d B;obtain⟨C,u,v,rfl,f⟩:=B;have D:=Ab f;clear f;go_wp2;go_ret;exact⟨C,u,v,rfl,Aa D⟩
theorem TQ(g n c i b:Nat)(cs p:List Value)(f:Value)(w:World)(hi:i<n)(U:n+1<=c)(T:c<=9223372036854775807)(y:b≠g)
  (Q:cs.length=n) (l:Aw w g p 21) (L:p.length=c) (H:p.take n=cs) (o:Aw w b [f] 21) (K:∀v∈cs,v.oneCell'=true) (I:f.oneCell'=true):
  Calls prog 220 #[.slice (some ⟨g,0,none⟩) n c, .int .i64 i, .slice (some ⟨b,0,none⟩) 1 1] w λe F=>
   e= .returned (.slice (some ⟨g,0,none⟩) (n+1) c)/\F=(w.drew.setCells g (i+1) (cs.drop i)).setCells g i [f]:=by
 obtain⟨X,E,S,B,Bx⟩:=bj Tryz.info21;have z:(prog.info? 21).map (·.size)=some 1:=by rw[E];simp[B]
 have R:∀w,(Go.sizeOf 21).run prog w= .ok 1 w:=λw=>by simp[sizeOf,typeInfo,E,B]
 have C:∀j,j<n+1->(w.cell? ⟨g,j,none⟩).isSome=true:=λj a=>l.some j (by omega)
 have D:∀j,w.frozen? ⟨g,j,none⟩=false:=λj=>l.frozen j
 have A:∀j v,cs[j]?=some v->w.cell? ⟨g,j,none⟩=some v:=λj v a=>by
  rw[l.cell];rw[<-H,bw]at a;split at a
  ·exact a
  ·cases a
 have J:∀s r,(callFunc 233 #[.slice (some ⟨b,0,none⟩) 1 1, .slice (some ⟨g,i+1,none⟩) s r]).run prog w= .ok (.value (.bool false)) w:=λs r=>by
  rw[dH func233 (by kernel_rfl) (by kernel_rfl) (by kernel_rfl) (e:=Extern.SlicesOverlaps.overlaps #[234,234] #[4]) (by kernel_rfl),
   Lib.run_overlaps_apart w 234 4 21 underlying234 1 R ⟨b,0,none⟩ ⟨g,i+1,none⟩ 1 1 s r y 21 21 1 c (by simpa using o.shape) (by rw[<-L];exact l.shape) (by omega) (o.frozen 0) (o.frozen 1)]
  rfl
 have O:(cs.drop i).length=n-i:=by rw[aL,Q]
 have x:∀k d t,(Builtin.copy_ #[234,234] k #[.slice (some ⟨g,i+1,none⟩) (n-i) d, .slice (some ⟨g,i,none⟩) (n+1-i) t]).run prog w.drew= .ok (goInt (cs.drop i).length) (w.drew.setCells g (i+1) (cs.drop i)):=λk d t=>
  cj w.drew _ _ k 21 g (i+1) (n-i) d ⟨g,i,none⟩ (n+1-i) t (cs.drop i) underlying234 z (by rw[O];simp only[cF];split<;>omega)
   (λj v a=>by rw[bB];exact A (i+j) v (by rwa [ci]at a))
   (λj a=>C _ (by omega)) (λj a=>D _) (λv P=>K v (bP P))
 obtain⟨h,m⟩:∃h,h=w.drew.setCells g (i+1) (cs.drop i):=⟨_,rfl⟩;have q:Aw h g (JA p (i+1) (cs.drop i)) 21:=by rw[m];exact l.drew.setCells _ _
 have u:Aw h b [f] 21:=by rw[m];exact o.drew.kept (Ac.setCells (M:=[g]) (by simp) _ _ (Ac.refl _ _)) (by simpa using y)
 have G:∀k d,(Builtin.copy_ #[234,234] k #[.slice (some ⟨g,i,none⟩) (n+1-i) d, .slice (some ⟨b,0,none⟩) 1 1]).run prog h= .ok (goInt [f].length) (h.setCells g i [f]):=λk d=>
  cj h _ _ k 21 g i (n+1-i) d ⟨b,0,none⟩ 1 1 [f] underlying234 z (by simp only[cF];split<;>simp<;>omega)
   (λj v a=>by rw[bB,bf,u.cell];exact a)
   (λj a=>q.some _ (by rw[BC];simp at a;omega)) (λj a=>q.frozen _) (by simpa using I)
 rw[<-m]at x;have Z:IntKind.i64.wrap ((i:Int)+1)=(i:Int)+1:=by rw[cd];omega
 have W:¬((i:Int)=(n:Int)):=by omega
 have AT:(0:Int)<=(i:Int)+1:=by omega
 have Y:i<=n:=by omega
 have V:((i:Int)+1).toNat=i+1:=by omega
 have Ax:¬(c=i+1):=by omega
 have BA:(i:Int)<=(n:Int)+1:=by omega
 have AH:¬(c=i):=by omega
 have mixed:prog.follows Departure.mixedOrders=true:=by kernel_rfl
 have N:=Ab m;clear l o q u A C D m;go_enter func220,ntmps220;go_wp2_with (simp only[J])
 go_region_law_o (refine step_copy_runI rfl _ _ 234 234 rfl _ _ (by simp[Act.eval,Act.put]) (by simp[Act.eval,Act.put]) (x _ _ _) ?_)
 go_wp2_with (at_builtin;refine wpList_copy_runI _ rfl _ _ 234 234 rfl _ _ rfl rfl (G _ _) ?_)
 go_ret;exact⟨rfl,by rw[Aa N]⟩
theorem Wy(g n c i l:Nat)(cs r:List Value)(d:Value)(w:World)(hi:i<n)(FW:n<=c)(AH:c<n+1)(HB:n<=1000000)
  (EY:cs.length=n) (t:Aw w g r 21) (FP:r.length=c) (D:r.take n=cs) (C:Aw w l [d] 21) (B9:∀v∈cs,v.oneCell'=true) (AB:d.oneCell'=true):
  Calls prog 220 #[.slice (some ⟨g,0,none⟩) n c, .int .i64 i, .slice (some ⟨l,0,none⟩) 1 1] w λe X=>
   ∃(a:List Value) (G:Nat),a.length=G/\n+1<=G/\G<=maxLen/\a.take i=cs.take i/\e= .returned (.slice (some ⟨w.heap.size,0,none⟩) (n+1) G)/\
   X=(((w.alloc (.cells a.toArray 21)).drew.setCells w.heap.size i [d]).drew).setCells w.heap.size (i+1) (cs.drop i):=by
 obtain⟨K,T,Y,P,Q⟩:=bj Tryz.info21;have mixed:prog.follows Departure.mixedOrders=true:=by kernel_rfl
 have J:(prog.info? 21).map (·.size)=some 1:=by rw[T];simp[P]
 have FC:=t.lt;have FA:=C.lt;have F:(n:Int)+1-(i:Int)=((n+1-i:Nat):Int):=by omega
 have z:i+(n+1-i)=n+1:=by omega
 have O:∀j v,cs[j]?=some v->w.cell? ⟨g,j,none⟩=some v:=λj v b=>by
  rw[t.cell];rw[<-D,bw]at b;split at b
  ·exact b
  ·cases b
 have I:(Builtin.firstCells K.size i (.slice (some ⟨g,0,none⟩) i c)).run prog w.drew= .ok (cs.take i).toArray w.drew:=by
  rw[P];exact dn w.drew 1 i ⟨g,0,none⟩ i c (cs.take i) (by rw[aK];omega) (λj v b=>by
   rw[bB,bf]
   rw[bw]at b
   split at b
   ·exact O j v b
   ·cases b)
 have q:∀f,(Builtin.append_ #[234,3] f #[.slice (some ⟨g,0,none⟩) i c, .int .i64 ((n:Int)+1-(i:Int))]).run prog w=
   .ok (.slice (some ⟨w.heap.size,0,none⟩) (n+1) (grownCap w (n+1) c 21)) (w.drew.alloc (.cells ((cs.take i).toArray++Builtin.zeroCells (Value.int .i32 0:Value).cells (n+1-i)++Builtin.zeroCells (Value.int .i32 0:Value).cells (grownCap w (n+1) c 21-(n+1))) 21)):=λf=>by
  have h:=Lib.run_append_grow_zeros w 234 3 f 21 K _ .i64 .i64 underlying234 underlying3 T Y (some ⟨g,0,none⟩) i c (cs.take i) I (n+1-i) (by omega) (by omega) (by omega) (by omega) (by rw[Q];omega) (by rw[Q,z];exact dX AH (by omega));rw[z]at h;rw[F];exact h
 obtain⟨G,s⟩:∃G,G=grownCap w (n+1) c 21:=⟨_,rfl⟩;obtain⟨a,p⟩:∃a:List Value,a.toArray=(cs.take i).toArray++Builtin.zeroCells (Value.int .i32 0:Value).cells (n+1-i)++Builtin.zeroCells (Value.int .i32 0:Value).cells (G-(n+1)):=⟨_,dB⟩;rw[<-s]at q;rw[<-p]at q;have CC:n+1<=G:=by rw[s];exact grownCap_ge w _ _ _
 have y:G<=maxLen:=by rw[s];exact dw w (n+1) c 21 (by unfold maxLen;omega)
 have U:a.length=G:=by
  have:=congrArg Array.size p;simp[Builtin.zeroCells,Value.cells]at this;omega
 have L:a.take i=cs.take i:=by
  have h:=congrArg Array.toList p;simp only[dp,bk]at h;rw[h,aV (by simp;omega)];simp[cY]
 obtain⟨N,S⟩:∃N,w.heap.size=N:=⟨_,rfl⟩;have o:Aw (w.drew.alloc (.cells a.toArray 21)) N a 21:=by rw[<-S];exact Aw.new w.drew a 21
 have H:Aw (w.drew.alloc (.cells a.toArray 21)) l [d] 21:=C.drew.alloc _;have Bx:∀(W:World),(∀x,W.cell? x=(w.drew.alloc (.cells a.toArray 21)).cell? x)->(∀x,W.frozen? x=(w.drew.alloc (.cells a.toArray 21)).frozen? x)->∀f k,(Builtin.copy_ #[234,234] f #[.slice (some ⟨N,i,none⟩) (n+1-i) k, .slice (some ⟨l,0,none⟩) 1 1]).run prog W= .ok (goInt [d].length) (W.setCells N i [d]):=λW m A f k=>
  cj W _ _ f 21 N i (n+1-i) k ⟨l,0,none⟩ 1 1 [d] underlying234 J (by simp only[cF];split<;>simp<;>omega)
   (λj v b=>by rw[bB,bf,m,H.cell];exact b)
   (λj b=>by rw[m];exact o.some _ (by simp at b;omega)) (λj b=>by rw[A];exact o.frozen _) (by simpa using AB)
 have u:Aw ((w.drew.alloc (.cells a.toArray 21)).setCells N i [d]) N (JA a i [d]) 21:=o.setCells _ _;have E:Aw ((w.drew.alloc (.cells a.toArray 21)).setCells N i [d]) g r 21:=(t.drew.alloc _).kept (Ac.setCells (M:=[N]) (by simp) _ _ (Ac.refl _ _)) (by simp;omega);have CL:(cs.drop i).length=n-i:=by rw[aL,EY]
 have R:∀(W:World),(∀x,W.cell? x=((w.drew.alloc (.cells a.toArray 21)).setCells N i [d]).cell? x)->(∀x,W.frozen? x=((w.drew.alloc (.cells a.toArray 21)).setCells N i [d]).frozen? x)->∀f k B,(Builtin.copy_ #[234,234] f #[.slice (some ⟨N,i+1,none⟩) (n-i) k, .slice (some ⟨g,i,none⟩) (n-i) B]).run prog W= .ok (goInt (cs.drop i).length) (W.setCells N (i+1) (cs.drop i)):=λW m A f k B=>
  cj W _ _ f 21 N (i+1) (n-i) k ⟨g,i,none⟩ (n-i) B (cs.drop i) underlying234 J (by rw[CL];simp only[cF];split<;>omega)
   (λj v b=>by
    rw[bB,m,E.cell]
    rw[ci,<-D,bw]at b
    split at b
    ·exact b
    ·cases b)
   (λj b=>by rw[m];exact u.some _ (by rw[BC];omega))
   (λj b=>by rw[A];exact u.frozen _) (λv hv=>B9 v (bP hv))
 have Ax:∀x,((w.alloc (.cells a.toArray 21)).drew).cell? x=(w.drew.alloc (.cells a.toArray 21)).cell? x:=λx=>rfl
 have EK:∀x,((w.alloc (.cells a.toArray 21)).drew).frozen? x=(w.drew.alloc (.cells a.toArray 21)).frozen? x:=λx=>rfl
 have BT:∀x,(((w.alloc (.cells a.toArray 21)).drew.setCells N i [d]).drew).cell? x=((w.drew.alloc (.cells a.toArray 21)).setCells N i [d]).cell? x:=λx=>rfl
 have AT:∀x,(((w.alloc (.cells a.toArray 21)).drew.setCells N i [d]).drew).frozen? x=((w.drew.alloc (.cells a.toArray 21)).setCells N i [d]).frozen? x:=λx=>rfl
 have Ha:IntKind.i64.wrap ((i:Int)+1)=(i:Int)+1:=by rw[cd];omega
 have FO:¬((i:Int)=(n:Int)):=by omega
 have HD:(c:Int)<(n:Int)+1:=by omega
 have HF:(0:Int)<=(i:Int)+1:=by omega
 have FT:i<=n:=by omega
 have FF:((i:Int)+1).toNat=i+1:=by omega
 have HG:(i:Int)<=(n:Int):=by omega
 have HE:¬(G=i):=by omega
 have FL:¬(G=i+1):=by omega
 have HA:¬(c=i):=by omega
 have Go:G<=9223372036854775807:=by unfold maxLen at y;omega
 have V:=Ab U;have Z:=Ab L;have BA:=Ab y;rw[S]at q⊢;clear F z I p s U L y t C o H u E O;go_enter func220,ntmps220;go_wp2_with (first
  |(at_builtin;refine Lib.wpList_append_run _ rfl _ _ _ _ rfl _ _ rfl rfl _ _ (q _) ?_)
  |(at_builtin;refine wpList_copy_runI _ rfl _ _ 234 234 rfl _ _ rfl rfl (Bx _ Ax EK _ _) ?_)
  |(at_builtin;refine wpList_copy_runI _ rfl _ _ 234 234 rfl _ _ rfl rfl (R _ (λ_=>rfl) (λ_=>rfl) _ _ _) ?_))
 go_region_law_o (refine step_copy_runI rfl _ _ 234 234 rfl (.slice (some ⟨N,i+1,none⟩) (n-i) (G-(i+1))) (.slice (some ⟨g,i,none⟩) (n-i) (c-i)) (by simp[Act.eval,Act.put]) (by simp[Act.eval,Act.put]) (R _ BT AT 3 (G-(i+1)) (c-i)) ?_)
 go_wp2;go_ret;exact⟨a,G,Aa V,CC,Aa BA,Aa Z,rfl,rfl⟩
theorem QP(l:List Int):l.flatMap AD=l.map (Value.int .i32):=by
 induction l with
 |nil=>rfl
 |cons a l ih=>rw[aB,aI,ih];rfl
theorem ZN(l:List Int):∀v∈l.flatMap AD,v.oneCell'=true:=by
 intro v b;rw[QP]at b;obtain⟨a,_,rfl⟩:=az.1 b;rfl
theorem LJ(l:List Int)(i:Nat)(x:Int):(Fy l i x).flatMap AD=(l.flatMap AD).take i++ .int .i32 x::(l.flatMap AD).drop i:=by
 rw[QP,QP,Fy,bm,aI,List.map_take,List.map_drop]
theorem Ra(o:Option Addr)(cap:Nat)(l:List Int)(i:Nat)(x:Int)(base d:Nat)(w:World)(m:w.ownsRow base 21 1 (.slice o l.length cap) l.length (l.flatMap AD))(EK:l.length<=1000000)(H:i<=l.length)(s:Aw w d [.int .i32 x] 21)(X:(Value.slice o l.length cap).ownBlock≠some d)(y:base<=w.heap.size):
  Calls prog 220 #[.slice o l.length cap, .int .i64 i, .slice (some ⟨d,0,none⟩) 1 1] w λe q=>∃g T,e= .returned (.slice (some ⟨g,0,none⟩) (l.length+1) T)/\q.ownsRow base 21 1 (.slice (some ⟨g,0,none⟩) (l.length+1) T) (l.length+1) ((Fy l i x).flatMap AD)/\Ac (Value.slice o l.length cap).ownBlock.toList w q/\((Value.slice o l.length cap).ownBlock=some g\/w.heap.size<=g):=by
 have n:(l.flatMap AD).length=l.length:=by rw[QP];simp
 by_cases EX:i=l.length
 ·subst EX;obtain⟨N,U,J,L,M⟩:=bj Tryz.info21;have HI:Hid ((Fy l l.length x).flatMap AD=l.flatMap AD++[.int .i32 x]):=by
   show _=_;rw[LJ,Z9 (by omega),aQ (by omega)]
  have S:Hid (∀j u,[.int .i32 x][j]?=some u->w.cell? ((⟨d,0,none⟩:Addr).add j)=some u):=λj u hu=>by rw[bB,bf,s.cell];exact hu
  have F:=Ab m;clear s;cases o with
  |none=>
   have R:l.length=0:=by
    rcases m.2 with⟨b,p⟩|⟨g,c,f,b,_⟩
    ·exact p
    ·simp at b
   have Z:cap=0:=by
    rcases m.2 with⟨b,p⟩|⟨g,c,f,b,_⟩
    ·simp only[Z6]at b;exact b.2.2
    ·simp at b
   subst Z;have Ax:l=[]:=cG.1 R;subst Ax;clear m R;simp only[aH]at F⊢;go_enter func220,ntmps220;go_wp2_with (at_builtin;refine ay _ rfl _ _ _ rfl base 21 N _ 1 4 underlying234 U J L M rfl (by omega) (.slice none 0 0) 0 [] rfl (Aa F) ⟨d,0,none⟩ 1 1 [.int .i32 x] rfl rfl (Aa S) (by simp[Value.oneCell']) (by omega) (by unfold maxLen;omega) (by omega) y _ rfl ?_;intro B z w9 C A t FP)
   go_ret;refine⟨B,z,rfl,C,(Ac.refl _ w).grown A (λk v=>Or.inl (by rw[cM];exact v)),?_⟩;rcases t with h|h
   ·exact Or.inl h
   ·exact Or.inr (by omega)
  |some a=>
   obtain⟨ab,ao,FC⟩:=a;have B9:ao=0/\FC=none:=by
    rcases m.2 with⟨b,p⟩|⟨g,c,f,b,_⟩
    ·simp at b
    ·simp only[Z6,ai,aW]at b;exact b.1.2
   obtain⟨rfl,rfl⟩:=B9;have CC:l.length<=cap/\cap<=maxLen:=by
    rcases m.2 with⟨b,p⟩|⟨g,c,f,b,_,_,h1,h2,_⟩
    ·simp at b
    ·simp only[Z6]at b;rw[b.2.2];exact⟨h1,h2⟩
   obtain⟨V,r⟩:=CC;unfold maxLen at r;clear m;go_enter func220,ntmps220;go_wp2_with (at_builtin;refine ay _ rfl _ _ _ rfl base 21 N _ 1 4 underlying234 U J L M rfl (by omega) (.slice (some ⟨ab,0,none⟩) l.length cap) l.length (l.flatMap AD) rfl (Aa F) ⟨d,0,none⟩ 1 1 [.int .i32 x] rfl rfl (Aa S) (by simp[Value.oneCell']) (by omega) (by unfold maxLen;omega) (by omega) y _ rfl ?_;intro B z w9 C A t FP)
   all_goals
    go_ret;rw[Aa HI];refine⟨B,z,rfl,C,(Ac.refl _ w).grown A (λk v=>Or.inl (by rw[cM];exact v)),?_⟩;rcases t with h|h
    ·exact Or.inl h
    ·exact Or.inr (by omega)
 ·have P:i<l.length:=by omega
  rcases m.2 with⟨b,p⟩|⟨g,c,f,b,hb,FW,V,r,FF,AH⟩
  ·omega
  ·simp only[Z6]at b;obtain⟨rfl,_,rfl⟩:=b;(have AT:d≠g:=λe=>X (by simp[Value.ownBlock,e]));(have I:Aw w g f.toList 21:=by unfold Aw;simpa using FW);(have O:f.toList.length=cap:=by simpa using FF);(have E:f.toList.take l.length=l.flatMap AD:=by simpa using AH);by_cases K:l.length+1<=cap
   ·refine(TQ g l.length cap i d (l.flatMap AD) f.toList (.int .i32 x) w P K (by unfold maxLen at r;omega) AT n I O E s (ZN l) rfl).mono ?_;rintro e q ⟨rfl,rfl⟩;have D:=(I.drew.setCells ((l.flatMap AD).drop i) (i+1)).setCells [.int .i32 x] i;refine⟨g,cap,rfl,⟨?_,Or.inr ⟨g,cap,_,rfl,hb,D,K,r,?_,?_⟩⟩,?_,Or.inl rfl⟩
    ·rw[QP,aD,DQ H];simp
    ·simp only[bo,BC];omega
    ·rw[LJ];simp only[eC];exact Ol E n H (by omega) _
    ·exact Ac.setCells (by simp[Value.ownBlock]) _ _ (Ac.setCells (by simp[Value.ownBlock]) _ _ (Ac.refl _ w).drew)
   ·refine(Wy g l.length cap i d (l.flatMap AD) f.toList (.int .i32 x) w P V (by omega) EK n I O E s (ZN l) rfl).mono ?_;rintro e q ⟨Q,G,Ha,FL,Y,EY,rfl,rfl⟩;have D:=((Aw.new w Q 21).drew.setCells [.int .i32 x] i).drew.setCells ((l.flatMap AD).drop i) (i+1);(have W:((l.flatMap AD).drop i).length=l.length-i:=by rw[aL,n]);refine⟨w.heap.size,G,rfl,⟨?_,Or.inr ⟨w.heap.size,G,_,rfl,y,D,FL,Y,?_,?_⟩⟩,?_,Or.inr (au _)⟩
    ·rw[QP,aD,DQ H];simp
    ·simp only[bo,BC];omega
    ·rw[LJ];simp only[eC];rw[D2 _ _ _ (by rw[BC,W];omega),D2 _ _ _ (by simp;omega),EY];have e1:(List.take i (l.flatMap AD)++[Value.int .i32 x]++List.drop (i+[Value.int .i32 x].length) Q).take (i+1)=List.take i (l.flatMap AD)++[Value.int .i32 x]:=by
      rw[aV (by simp only[am,aK,ak,aH,aL,n];omega),Z9 (by simp only[am,aK,ak,aH,aL,n];omega)]
     rw[e1,aV (by simp only[am,aK,ak,aH,aL,n];omega),Z9 (by simp only[am,aK,ak,aH,aL,n];omega)];simp
    ·exact Ac.setCells (Or.inr (au _)) _ _ (Ac.setCells (Or.inr (au _)) _ _ ((Ac.refl _ w).alloc _).drew).drew
def IJ(l:List Int)(x:Int):Bool:=l.any λy=>ZB y x
theorem Oc(l:List Int)(x:Int):IJ l x=true↔x∈l:=by
 unfold IJ;rw[bI];constructor
 ·rintro ⟨y,a,h⟩;rw[<-(OE.eqv y x).1 h];exact a
 ·intro h;exact⟨x,h,(OE.eqv x x).2 rfl⟩
theorem Ck.inI{l:List Int}(a:Ct LZ l){x:Int}{at_:Nat}(h:Ck LZ l 0 x at_):DR ZB l at_ x=IJ l x:=by
 rw[bJ,h.has OE a,Oc]
theorem Wp(f:Option Addr)(cap:Nat)(l:List Int)(x:Int)(base:Nat)(w:World)(h:w.ownsRow base 21 1 (.slice f l.length cap) l.length (l.flatMap AD))(q:l.length<=1000000)(i:Ct LZ l):
  Calls prog 201 #[.slice f l.length cap, .int .i32 x] w λe j=>e= .returned (.bool (IJ l x))/\j=w:=by
 have m:=Ab (Pa (.slice f l.length cap) l 0 x base w h q (aG _) i);have r:=Ab i;have s:=Ab h;clear h i;go_enter func201,ntmps201;go_wp2_with fail
 refine(Aa m).mono ?_;rintro e j ⟨b,rfl,c,rfl⟩;have o:=Ab (c.inI (Aa r));have u:=c.le;clear m c;by_cases a:b<l.length
 ·obtain⟨g,t,n,v,k⟩:=AE (Aa s) (by simp[AD]) b a;simp only[Z6]at n;obtain⟨rfl,_,rfl⟩:=n;have p:=k b a 0 (by omega);simp[AD]at p;clear k;have d:Hid (IJ l x=ZB l[b] x):=by show _=_;rw[<-Aa o];unfold DR;rw[dif_pos a]
  go_wp2;go_ret;rw[d.out];exact⟨rfl,rfl⟩
 ·have d:Hid (IJ l x=false):=by show _=_;rw[<-Aa o];unfold DR;rw[dif_neg a]
  go_wp2;go_ret;rw[d.out];exact⟨rfl,rfl⟩
def Qu(base:Nat)(lv:Value)(l:List Int)(x:Int)(w:World)(e:Ending)(w':World):Prop:=
 ∃(l':List Int) (ad':Option Addr) (cp':Nat),e= .returned (.slice ad' l'.length cp')/\Ct LZ l'/\(∀y,y∈l'↔y=x\/y∈l)/\l.length<=l'.length/\l'.length<=l.length+1/\
  w'.ownsRow base 21 1 (.slice ad' l'.length cp') l'.length (l'.flatMap AD)/\Ac lv.ownBlock.toList w w'/\(∀k,(Value.slice ad' l'.length cp').ownBlock=some k->lv.ownBlock=some k\/w.heap.size<=k)
theorem Xg(c:Option Addr)(cap:Nat)(l:List Int)(x:Int)(base:Nat)(w:World)(A:w.ownsRow base 21 1 (.slice c l.length cap) l.length (l.flatMap AD))(G:l.length<=1000000)(B:Ct LZ l)(W:base<=w.heap.size):
  Calls prog 202 #[.slice c l.length cap, .int .i32 x] w λe a=>Qu base (.slice c l.length cap) l x w e a:=by
 have J:=Ab (Pa (.slice c l.length cap) l 0 x base w A G (aG _) B);have u:=Ab B;have q:=Ab A;clear A B;go_enter func202,ntmps202;go_wp2_with fail
 refine(Aa J).mono ?_;rintro e a ⟨b,rfl,m,rfl⟩;have s:=Ab (m.has OE (Aa u));have p:=Ab m;have L:=m.le;clear J m;have f:Hid (DR ZB l b x=false->Calls prog 220 #[.slice c l.length cap, .int .i64 b, .slice (some ⟨a.heap.size,0,none⟩) 1 1] (a.alloc (.cells #[.int .i32 x] 21)) λe r=>Qu base (.slice c l.length cap) l x a e r):=by
  intro M;have Q:Aw (a.alloc (.cells [.int .i32 x].toArray 21)) a.heap.size [.int .i32 x] 21:=Aw.new a [.int .i32 x] 21;refine(Ra c cap l b x base a.heap.size _ (ah (Aa q) _) G L Q (λe=>by have:=((Aa q).lt _ e).2;omega) (by simp;omega)).mono ?_;rintro e r ⟨g,T,rfl,O,t,S⟩;have I:=DQ (x:=x) L;refine⟨Fy l b x,some ⟨g,0,none⟩,T,by rw[I],(Aa p).rise OE (Aa u) M,λy=>LH x y,by omega,by omega,by rw[I];exact O,((Ac.refl _ a).alloc _).trans t,?_⟩;intro k F;simp only[Value.ownBlock,ai]at F;subst F;rcases S with h|h
  ·exact Or.inl h
  ·exact Or.inr (by simp at h;omega)
 have n:Hid (DR ZB l b x=true->Qu base (.slice c l.length cap) l x a (.returned (.slice c l.length cap)) a):=by
  intro R;have P:=(Aa s).1 R;exact⟨l,c,cap,rfl,Aa u,λy=>⟨Or.inr,λh=>by rcases h with rfl|h;exact P;exact h⟩,by omega,by omega,Aa q,Ac.refl _ _,λk t=>Or.inl t⟩
 by_cases d:b<l.length
 ·obtain⟨g,U,K,X,H⟩:=AE (Aa q) (by simp[AD]) b d;simp only[Z6]at K;obtain⟨rfl,_,rfl⟩:=K;have N:=H b d 0 (by omega);simp[AD]at N;clear H;have o:Hid (DR ZB l b x=ZB l[b] x):=by show _=_;unfold DR;rw[dif_pos d]
  have V:=Ab d;cases hq:ZB l[b] x with
  |true=>
   have i:=Ab (Aa n (by rw[o.out];exact hq));simp only[ZB]at hq;clear o s p f n;go_wp2;go_ret;exact Aa i
  |false=>
   have i:=Ab (Aa f (by rw[o.out];exact hq));simp only[ZB]at hq;clear o s p f n;(go_wp2_with fail);refine(Aa i).mono ?_;intro e r C;obtain⟨D,v,z,rfl,j⟩:=C;have E:=Ab j;clear j;go_wp2;go_ret;exact⟨D,v,z,rfl,Aa E⟩
 ·have i:=Ab (Aa f (by unfold DR;rw[dif_neg d]));clear s p f n;go_wp2_with fail
  refine(Aa i).mono ?_;intro e r C;obtain⟨D,v,z,rfl,j⟩:=C;have E:=Ab j;clear j;go_wp2;go_ret;exact⟨D,v,z,rfl,Aa E⟩
theorem Tryz.info170:(Tryz.prog.info? 170).map (λi=>(i.zero,i.size,i.bytes))=some (some (.string ⟨#[]⟩),1,16):=by kernel_rfl
set_option maxRecDepth 512
theorem O8(T:Value)(l:List cL)(k:Nat)(x:cL)(base:Nat)(w:World)(N:w.ownsRow base 170 1 T l.length (l.flatMap Ae))(B9:l.length<=1000000)(X:k<=l.length)(O:Ct Dg l):
  Calls prog 149 #[T, .int .i64 k, .string x] w λe W=>∃G:Nat,e= .returned (.int .i64 G)/\Ck Dg l k x G/\W=w:=by
 obtain⟨ad,Y,rfl⟩:=Ak N;have r:=Ab O;have D:Hid (∀i (h:i<l.length),∃g,ad=some ⟨g,0,none⟩/\l.length<=Y/\w.cell? ⟨g,i,none⟩=some (.string l[i])):=by
  intro i Q;obtain⟨g,Bx,R,U,Z⟩:=AE N (by simp[Ae]) i Q;simp only[Z6]at R;obtain⟨rfl,_,rfl⟩:=R;have H:=Z i Q 0 (by omega);simp[Ae]at H;exact⟨g,rfl,U,H⟩
 clear O;go_enter func149,ntmps149;go_wp2
 go_loop [7,8] (λa s=>∃(f o:Nat),a= .int .i64 f/\s= .int .i64 o/\k<=f/\f<=l.length/\1<=o/\o<=2*l.length+1/\Hid (∀i (h:i<l.length),k<=i->i<f->Dg l[i] x=true)) (λa s=>l.length-(intOf a).toNat)
 case atStart=>exact⟨k,1,by go_num,rfl,au _,X,au _,by omega,λi h j u=>by omega⟩
 case round=>
  obtain⟨f,o,rfl,rfl,E,BA,CC,EK,p⟩:=hrel;by_cases CL:f+o<=l.length
  ·obtain⟨g,V,BT,U⟩:=(Aa D) (f+o-1) (by omega);(have AT:((f+o-1:Nat):Int)=(f:Int)+(o:Int)-1:=by omega);(have EX:((f:Int)+(o:Int)-1).toNat=f+o-1:=by omega);subst V;have AH:Hid (Dg l[f+o-1] x=true->∀i (h:i<l.length),k<=i->i<f+o->Dg l[i] x=true):=by
    intro n i h j u;exact(Aa r).down Eb (by omega) (by omega) n
   have AB:Hid (Dg l[f+o-1] x=false->∀i (h:i<l.length),f+o-1<=i->Dg l[i] x=false):=by
    intro n i h j;exact(Aa r).up Eb h j n
   go_wp2
   ·refine⟨⟨f+o,o*2,by go_num,by go_num,by omega,by omega,by omega,by omega,(Aa AH) (by first|assumption|(simp[Dg];omega))⟩,?_⟩;simp[intOf];omega
   ·
    have t:Hid (∀i (h:i<l.length),(f+o-1)<=i->Dg l[i] x=false):=(Aa AB) (by first|assumption|(simp[Dg];omega))
    go_loop [7,9,10] (λa h m=>∃(b d:Nat),a= .int .i64 b/\h= .int .i64 d/\k<=b/\b<=d/\d<=l.length/\Hid (∀i (h:i<l.length),k<=i->i<b->Dg l[i] x=true)/\Hid (∀i (h:i<l.length),d<=i->Dg l[i] x=false)) (λa h m=>(intOf h).toNat-(intOf a).toNat)
    case atStart=>exact⟨f,(f+o-1),rfl,by go_num,E,by omega,by omega,p,t⟩
    case round=>
     clear p t;obtain⟨b,d,rfl,rfl,j,u,B,p,q⟩:=hrel;by_cases F:b<d
     ·obtain⟨c,S⟩:∃c,b+(d-b)/2=c:=⟨_,rfl⟩;(have J:b<=c:=by omega);(have K:c<d:=by omega);(have A:(b:Int)+((d:Int)-(b:Int))/2=(c:Int):=by omega);(have L:(b:Int)+((d:Int)-(b:Int)).tdiv 2=(c:Int):=by rw[bH (by omega)];exact A);obtain⟨I,v,P,M⟩:=(Aa D) c (by omega);have y:Hid (Dg l[c] x=true->∀i (h:i<l.length),k<=i->i<c+1->Dg l[i] x=true):=by
       intro n i h j u;exact(Aa r).down Eb (by omega) (by omega) n
      have z:Hid (Dg l[c] x=false->∀i (h:i<l.length),c<=i->Dg l[i] x=false):=by
       intro n i h j;exact(Aa r).up Eb h j n
      simp only[ai,aW,and_true]at v;subst v;go_wp2
      ·refine⟨⟨c+1,d,by go_num,rfl,by omega,by omega,B,(Aa y) (by first|assumption|(simp[Dg];omega)),q⟩,?_⟩;simp[intOf];omega
      ·refine⟨⟨b,c,rfl,by go_num,j,by omega,by omega,p,(Aa z) (by first|assumption|(simp[Dg];omega))⟩,?_⟩;simp[intOf];omega
     ·have C:Hid (Ck Dg l k x b):=⟨j,by omega,Aa p,λi h n=>(Aa q) i h (by omega)⟩;go_wp2;go_ret;exact⟨b,rfl,Aa C,rfl⟩
  ·go_wp2
   ·
    have t:Hid (∀i (h:i<l.length),l.length<=i->Dg l[i] x=false):=λi h n=>by omega
    go_loop [7,9,10] (λa h m=>∃(b d:Nat),a= .int .i64 b/\h= .int .i64 d/\k<=b/\b<=d/\d<=l.length/\Hid (∀i (h:i<l.length),k<=i->i<b->Dg l[i] x=true)/\Hid (∀i (h:i<l.length),d<=i->Dg l[i] x=false)) (λa h m=>(intOf h).toNat-(intOf a).toNat)
    case atStart=>exact⟨f,l.length,rfl,by go_num,E,by omega,by omega,p,t⟩
    case round=>
     clear p t;obtain⟨b,d,rfl,rfl,j,u,B,p,q⟩:=hrel;by_cases F:b<d
     ·obtain⟨c,S⟩:∃c,b+(d-b)/2=c:=⟨_,rfl⟩;(have J:b<=c:=by omega);(have K:c<d:=by omega);(have A:(b:Int)+((d:Int)-(b:Int))/2=(c:Int):=by omega);(have L:(b:Int)+((d:Int)-(b:Int)).tdiv 2=(c:Int):=by rw[bH (by omega)];exact A);obtain⟨I,v,P,M⟩:=(Aa D) c (by omega);have y:Hid (Dg l[c] x=true->∀i (h:i<l.length),k<=i->i<c+1->Dg l[i] x=true):=by
       intro n i h j u;exact(Aa r).down Eb (by omega) (by omega) n
      have z:Hid (Dg l[c] x=false->∀i (h:i<l.length),c<=i->Dg l[i] x=false):=by
       intro n i h j;exact(Aa r).up Eb h j n
      subst v;go_wp2
      ·refine⟨⟨c+1,d,by go_num,rfl,by omega,by omega,B,(Aa y) (by first|assumption|(simp[Dg];omega)),q⟩,?_⟩;simp[intOf];omega
      ·refine⟨⟨b,c,rfl,by go_num,j,by omega,by omega,p,(Aa z) (by first|assumption|(simp[Dg];omega))⟩,?_⟩;simp[intOf];omega
     ·have C:Hid (Ck Dg l k x b):=⟨j,by omega,Aa p,λi h n=>(Aa q) i h (by omega)⟩;go_wp2;go_ret;exact⟨b,rfl,Aa C,rfl⟩
   all_goals
    have t:Hid (∀i (h:i<l.length),(f+o-1)<=i->Dg l[i] x=false):=λi h n=>by omega
    go_loop [7,9,10] (λa h m=>∃(b d:Nat),a= .int .i64 b/\h= .int .i64 d/\k<=b/\b<=d/\d<=l.length/\Hid (∀i (h:i<l.length),k<=i->i<b->Dg l[i] x=true)/\Hid (∀i (h:i<l.length),d<=i->Dg l[i] x=false)) (λa h m=>(intOf h).toNat-(intOf a).toNat)
    case atStart=>exact⟨f,(f+o-1),rfl,by go_num,E,by omega,by omega,p,t⟩
    case round=>
     clear p t;obtain⟨b,d,rfl,rfl,j,u,B,p,q⟩:=hrel;by_cases F:b<d
     ·obtain⟨c,S⟩:∃c,b+(d-b)/2=c:=⟨_,rfl⟩;(have J:b<=c:=by omega);(have K:c<d:=by omega);(have A:(b:Int)+((d:Int)-(b:Int))/2=(c:Int):=by omega);(have L:(b:Int)+((d:Int)-(b:Int)).tdiv 2=(c:Int):=by rw[bH (by omega)];exact A);obtain⟨I,v,P,M⟩:=(Aa D) c (by omega);have y:Hid (Dg l[c] x=true->∀i (h:i<l.length),k<=i->i<c+1->Dg l[i] x=true):=by
       intro n i h j u;exact(Aa r).down Eb (by omega) (by omega) n
      have z:Hid (Dg l[c] x=false->∀i (h:i<l.length),c<=i->Dg l[i] x=false):=by
       intro n i h j;exact(Aa r).up Eb h j n
      subst v;go_wp2
      ·refine⟨⟨c+1,d,by go_num,rfl,by omega,by omega,B,(Aa y) (by first|assumption|(simp[Dg];omega)),q⟩,?_⟩;simp[intOf];omega
      ·refine⟨⟨b,c,rfl,by go_num,j,by omega,by omega,p,(Aa z) (by first|assumption|(simp[Dg];omega))⟩,?_⟩;simp[intOf];omega
     ·have C:Hid (Ck Dg l k x b):=⟨j,by omega,Aa p,λi h n=>(Aa q) i h (by omega)⟩;go_wp2;go_ret;exact⟨b,rfl,Aa C,rfl⟩
set_option maxRecDepth 100000
theorem Te(g n c i b:Nat)(cs p:List Value)(f:Value)(w:World)(hi:i<n)(U:n+1<=c)(T:c<=9223372036854775807)(y:b≠g)
  (Q:cs.length=n) (l:Aw w g p 170) (L:p.length=c) (H:p.take n=cs) (o:Aw w b [f] 170) (K:∀v∈cs,v.oneCell'=true) (I:f.oneCell'=true):
  Calls prog 214 #[.slice (some ⟨g,0,none⟩) n c, .int .i64 i, .slice (some ⟨b,0,none⟩) 1 1] w λe F=>
   e= .returned (.slice (some ⟨g,0,none⟩) (n+1) c)/\F=(w.drew.setCells g (i+1) (cs.drop i)).setCells g i [f]:=by
 obtain⟨X,E,S,B,Bx⟩:=bj Tryz.info170;have z:(prog.info? 170).map (·.size)=some 1:=by rw[E];simp[B]
 have R:∀w,(Go.sizeOf 170).run prog w= .ok 1 w:=λw=>by simp[sizeOf,typeInfo,E,B]
 have C:∀j,j<n+1->(w.cell? ⟨g,j,none⟩).isSome=true:=λj a=>l.some j (by omega)
 have D:∀j,w.frozen? ⟨g,j,none⟩=false:=λj=>l.frozen j
 have A:∀j v,cs[j]?=some v->w.cell? ⟨g,j,none⟩=some v:=λj v a=>by
  rw[l.cell];rw[<-H,bw]at a;split at a
  ·exact a
  ·cases a
 have J:∀s r,(callFunc 229 #[.slice (some ⟨b,0,none⟩) 1 1, .slice (some ⟨g,i+1,none⟩) s r]).run prog w= .ok (.value (.bool false)) w:=λs r=>by
  rw[dH func229 (by kernel_rfl) (by kernel_rfl) (by kernel_rfl) (e:=Extern.SlicesOverlaps.overlaps #[102,102] #[4]) (by kernel_rfl),
   Lib.run_overlaps_apart w 102 4 170 underlying102 1 R ⟨b,0,none⟩ ⟨g,i+1,none⟩ 1 1 s r y 170 170 1 c (by simpa using o.shape) (by rw[<-L];exact l.shape) (by omega) (o.frozen 0) (o.frozen 1)]
  rfl
 have O:(cs.drop i).length=n-i:=by rw[aL,Q]
 have x:∀k d t,(Builtin.copy_ #[102,102] k #[.slice (some ⟨g,i+1,none⟩) (n-i) d, .slice (some ⟨g,i,none⟩) (n+1-i) t]).run prog w.drew= .ok (goInt (cs.drop i).length) (w.drew.setCells g (i+1) (cs.drop i)):=λk d t=>
  cj w.drew _ _ k 170 g (i+1) (n-i) d ⟨g,i,none⟩ (n+1-i) t (cs.drop i) underlying102 z (by rw[O];simp only[cF];split<;>omega)
   (λj v a=>by rw[bB];exact A (i+j) v (by rwa [ci]at a))
   (λj a=>C _ (by omega)) (λj a=>D _) (λv P=>K v (bP P))
 obtain⟨h,m⟩:∃h,h=w.drew.setCells g (i+1) (cs.drop i):=⟨_,rfl⟩;have q:Aw h g (JA p (i+1) (cs.drop i)) 170:=by rw[m];exact l.drew.setCells _ _
 have u:Aw h b [f] 170:=by rw[m];exact o.drew.kept (Ac.setCells (M:=[g]) (by simp) _ _ (Ac.refl _ _)) (by simpa using y)
 have G:∀k d,(Builtin.copy_ #[102,102] k #[.slice (some ⟨g,i,none⟩) (n+1-i) d, .slice (some ⟨b,0,none⟩) 1 1]).run prog h= .ok (goInt [f].length) (h.setCells g i [f]):=λk d=>
  cj h _ _ k 170 g i (n+1-i) d ⟨b,0,none⟩ 1 1 [f] underlying102 z (by simp only[cF];split<;>simp<;>omega)
   (λj v a=>by rw[bB,bf,u.cell];exact a)
   (λj a=>q.some _ (by rw[BC];simp at a;omega)) (λj a=>q.frozen _) (by simpa using I)
 rw[<-m]at x;have Z:IntKind.i64.wrap ((i:Int)+1)=(i:Int)+1:=by rw[cd];omega
 have W:¬((i:Int)=(n:Int)):=by omega
 have AT:(0:Int)<=(i:Int)+1:=by omega
 have Y:i<=n:=by omega
 have V:((i:Int)+1).toNat=i+1:=by omega
 have Ax:¬(c=i+1):=by omega
 have BA:(i:Int)<=(n:Int)+1:=by omega
 have AH:¬(c=i):=by omega
 have mixed:prog.follows Departure.mixedOrders=true:=by kernel_rfl
 have N:=Ab m;clear l o q u A C D m;go_enter func214,ntmps214;go_wp2_with (simp only[J])
 go_region_law_o (refine step_copy_runI rfl _ _ 102 102 rfl _ _ (by simp[Act.eval,Act.put]) (by simp[Act.eval,Act.put]) (x _ _ _) ?_)
 go_wp2_with (at_builtin;refine wpList_copy_runI _ rfl _ _ 102 102 rfl _ _ rfl rfl (G _ _) ?_)
 go_ret;exact⟨rfl,by rw[Aa N]⟩
theorem Vn(g n c i l:Nat)(cs r:List Value)(d:Value)(w:World)(hi:i<n)(FW:n<=c)(AH:c<n+1)(HB:n<=1000000)
  (EY:cs.length=n) (t:Aw w g r 170) (FP:r.length=c) (D:r.take n=cs) (C:Aw w l [d] 170) (B9:∀v∈cs,v.oneCell'=true) (AB:d.oneCell'=true):
  Calls prog 214 #[.slice (some ⟨g,0,none⟩) n c, .int .i64 i, .slice (some ⟨l,0,none⟩) 1 1] w λe X=>
   ∃(a:List Value) (G:Nat),a.length=G/\n+1<=G/\G<=maxLen/\a.take i=cs.take i/\e= .returned (.slice (some ⟨w.heap.size,0,none⟩) (n+1) G)/\
   X=(((w.alloc (.cells a.toArray 170)).drew.setCells w.heap.size i [d]).drew).setCells w.heap.size (i+1) (cs.drop i):=by
 obtain⟨K,T,Y,P,Q⟩:=bj Tryz.info170;have mixed:prog.follows Departure.mixedOrders=true:=by kernel_rfl
 have J:(prog.info? 170).map (·.size)=some 1:=by rw[T];simp[P]
 have FC:=t.lt;have FA:=C.lt;have F:(n:Int)+1-(i:Int)=((n+1-i:Nat):Int):=by omega
 have z:i+(n+1-i)=n+1:=by omega
 have O:∀j v,cs[j]?=some v->w.cell? ⟨g,j,none⟩=some v:=λj v b=>by
  rw[t.cell];rw[<-D,bw]at b;split at b
  ·exact b
  ·cases b
 have I:(Builtin.firstCells K.size i (.slice (some ⟨g,0,none⟩) i c)).run prog w.drew= .ok (cs.take i).toArray w.drew:=by
  rw[P];exact dn w.drew 1 i ⟨g,0,none⟩ i c (cs.take i) (by rw[aK];omega) (λj v b=>by
   rw[bB,bf]
   rw[bw]at b
   split at b
   ·exact O j v b
   ·cases b)
 have q:∀f,(Builtin.append_ #[102,3] f #[.slice (some ⟨g,0,none⟩) i c, .int .i64 ((n:Int)+1-(i:Int))]).run prog w=
   .ok (.slice (some ⟨w.heap.size,0,none⟩) (n+1) (grownCap w (n+1) c 170)) (w.drew.alloc (.cells ((cs.take i).toArray++Builtin.zeroCells (Value.string ⟨#[]⟩:Value).cells (n+1-i)++Builtin.zeroCells (Value.string ⟨#[]⟩:Value).cells (grownCap w (n+1) c 170-(n+1))) 170)):=λf=>by
  have h:=Lib.run_append_grow_zeros w 102 3 f 170 K _ .i64 .i64 underlying102 underlying3 T Y (some ⟨g,0,none⟩) i c (cs.take i) I (n+1-i) (by omega) (by omega) (by omega) (by omega) (by rw[Q];omega) (by rw[Q,z];exact dX AH (by omega));rw[z]at h;rw[F];exact h
 obtain⟨G,s⟩:∃G,G=grownCap w (n+1) c 170:=⟨_,rfl⟩;obtain⟨a,p⟩:∃a:List Value,a.toArray=(cs.take i).toArray++Builtin.zeroCells (Value.string ⟨#[]⟩:Value).cells (n+1-i)++Builtin.zeroCells (Value.string ⟨#[]⟩:Value).cells (G-(n+1)):=⟨_,dB⟩;rw[<-s]at q;rw[<-p]at q;have CC:n+1<=G:=by rw[s];exact grownCap_ge w _ _ _
 have y:G<=maxLen:=by rw[s];exact dw w (n+1) c 170 (by unfold maxLen;omega)
 have U:a.length=G:=by
  have:=congrArg Array.size p;simp[Builtin.zeroCells,Value.cells]at this;omega
 have L:a.take i=cs.take i:=by
  have h:=congrArg Array.toList p;simp only[dp,bk]at h;rw[h,aV (by simp;omega)];simp[cY]
 obtain⟨N,S⟩:∃N,w.heap.size=N:=⟨_,rfl⟩;have o:Aw (w.drew.alloc (.cells a.toArray 170)) N a 170:=by rw[<-S];exact Aw.new w.drew a 170
 have H:Aw (w.drew.alloc (.cells a.toArray 170)) l [d] 170:=C.drew.alloc _;have Bx:∀(W:World),(∀x,W.cell? x=(w.drew.alloc (.cells a.toArray 170)).cell? x)->(∀x,W.frozen? x=(w.drew.alloc (.cells a.toArray 170)).frozen? x)->∀f k,(Builtin.copy_ #[102,102] f #[.slice (some ⟨N,i,none⟩) (n+1-i) k, .slice (some ⟨l,0,none⟩) 1 1]).run prog W= .ok (goInt [d].length) (W.setCells N i [d]):=λW m A f k=>
  cj W _ _ f 170 N i (n+1-i) k ⟨l,0,none⟩ 1 1 [d] underlying102 J (by simp only[cF];split<;>simp<;>omega)
   (λj v b=>by rw[bB,bf,m,H.cell];exact b)
   (λj b=>by rw[m];exact o.some _ (by simp at b;omega)) (λj b=>by rw[A];exact o.frozen _) (by simpa using AB)
 have u:Aw ((w.drew.alloc (.cells a.toArray 170)).setCells N i [d]) N (JA a i [d]) 170:=o.setCells _ _;have E:Aw ((w.drew.alloc (.cells a.toArray 170)).setCells N i [d]) g r 170:=(t.drew.alloc _).kept (Ac.setCells (M:=[N]) (by simp) _ _ (Ac.refl _ _)) (by simp;omega);have CL:(cs.drop i).length=n-i:=by rw[aL,EY]
 have R:∀(W:World),(∀x,W.cell? x=((w.drew.alloc (.cells a.toArray 170)).setCells N i [d]).cell? x)->(∀x,W.frozen? x=((w.drew.alloc (.cells a.toArray 170)).setCells N i [d]).frozen? x)->∀f k B,(Builtin.copy_ #[102,102] f #[.slice (some ⟨N,i+1,none⟩) (n-i) k, .slice (some ⟨g,i,none⟩) (n-i) B]).run prog W= .ok (goInt (cs.drop i).length) (W.setCells N (i+1) (cs.drop i)):=λW m A f k B=>
  cj W _ _ f 170 N (i+1) (n-i) k ⟨g,i,none⟩ (n-i) B (cs.drop i) underlying102 J (by rw[CL];simp only[cF];split<;>omega)
   (λj v b=>by
    rw[bB,m,E.cell]
    rw[ci,<-D,bw]at b
    split at b
    ·exact b
    ·cases b)
   (λj b=>by rw[m];exact u.some _ (by rw[BC];omega))
   (λj b=>by rw[A];exact u.frozen _) (λv hv=>B9 v (bP hv))
 have Ax:∀x,((w.alloc (.cells a.toArray 170)).drew).cell? x=(w.drew.alloc (.cells a.toArray 170)).cell? x:=λx=>rfl
 have EK:∀x,((w.alloc (.cells a.toArray 170)).drew).frozen? x=(w.drew.alloc (.cells a.toArray 170)).frozen? x:=λx=>rfl
 have BT:∀x,(((w.alloc (.cells a.toArray 170)).drew.setCells N i [d]).drew).cell? x=((w.drew.alloc (.cells a.toArray 170)).setCells N i [d]).cell? x:=λx=>rfl
 have AT:∀x,(((w.alloc (.cells a.toArray 170)).drew.setCells N i [d]).drew).frozen? x=((w.drew.alloc (.cells a.toArray 170)).setCells N i [d]).frozen? x:=λx=>rfl
 have Ha:IntKind.i64.wrap ((i:Int)+1)=(i:Int)+1:=by rw[cd];omega
 have FO:¬((i:Int)=(n:Int)):=by omega
 have HD:(c:Int)<(n:Int)+1:=by omega
 have HF:(0:Int)<=(i:Int)+1:=by omega
 have FT:i<=n:=by omega
 have FF:((i:Int)+1).toNat=i+1:=by omega
 have HG:(i:Int)<=(n:Int):=by omega
 have HE:¬(G=i):=by omega
 have FL:¬(G=i+1):=by omega
 have HA:¬(c=i):=by omega
 have Go:G<=9223372036854775807:=by unfold maxLen at y;omega
 have V:=Ab U;have Z:=Ab L;have BA:=Ab y;rw[S]at q⊢;clear F z I p s U L y t C o H u E O;go_enter func214,ntmps214;go_wp2_with (first
  |(at_builtin;refine Lib.wpList_append_run _ rfl _ _ _ _ rfl _ _ rfl rfl _ _ (q _) ?_)
  |(at_builtin;refine wpList_copy_runI _ rfl _ _ 102 102 rfl _ _ rfl rfl (Bx _ Ax EK _ _) ?_)
  |(at_builtin;refine wpList_copy_runI _ rfl _ _ 102 102 rfl _ _ rfl rfl (R _ (λ_=>rfl) (λ_=>rfl) _ _ _) ?_))
 go_region_law_o (refine step_copy_runI rfl _ _ 102 102 rfl (.slice (some ⟨N,i+1,none⟩) (n-i) (G-(i+1))) (.slice (some ⟨g,i,none⟩) (n-i) (c-i)) (by simp[Act.eval,Act.put]) (by simp[Act.eval,Act.put]) (R _ BT AT 3 (G-(i+1)) (c-i)) ?_)
 go_wp2;go_ret;exact⟨a,G,Aa V,CC,Aa BA,Aa Z,rfl,rfl⟩
theorem Q9(o:Option Addr)(cap:Nat)(l:List cL)(i:Nat)(x:cL)(base d:Nat)(w:World)(m:w.ownsRow base 170 1 (.slice o l.length cap) l.length (l.flatMap Ae))(EK:l.length<=1000000)(H:i<=l.length)(s:Aw w d [.string x] 170)(X:(Value.slice o l.length cap).ownBlock≠some d)(y:base<=w.heap.size):
  Calls prog 214 #[.slice o l.length cap, .int .i64 i, .slice (some ⟨d,0,none⟩) 1 1] w λe q=>∃g T,e= .returned (.slice (some ⟨g,0,none⟩) (l.length+1) T)/\q.ownsRow base 170 1 (.slice (some ⟨g,0,none⟩) (l.length+1) T) (l.length+1) ((Fy l i x).flatMap Ae)/\Ac (Value.slice o l.length cap).ownBlock.toList w q/\((Value.slice o l.length cap).ownBlock=some g\/w.heap.size<=g):=by
 have n:(l.flatMap Ae).length=l.length:=by rw[Mg];simp
 by_cases EX:i=l.length
 ·subst EX;obtain⟨N,U,J,L,M⟩:=bj Tryz.info170;have HI:Hid ((Fy l l.length x).flatMap Ae=l.flatMap Ae++[.string x]):=by
   show _=_;rw[Gi,Z9 (by omega),aQ (by omega)]
  have S:Hid (∀j u,[.string x][j]?=some u->w.cell? ((⟨d,0,none⟩:Addr).add j)=some u):=λj u hu=>by rw[bB,bf,s.cell];exact hu
  have F:=Ab m;clear s;cases o with
  |none=>
   have R:l.length=0:=by
    rcases m.2 with⟨b,p⟩|⟨g,c,f,b,_⟩
    ·exact p
    ·simp at b
   have Z:cap=0:=by
    rcases m.2 with⟨b,p⟩|⟨g,c,f,b,_⟩
    ·simp only[Z6]at b;exact b.2.2
    ·simp at b
   subst Z;have Ax:l=[]:=cG.1 R;subst Ax;clear m R;simp only[aH]at F⊢;go_enter func214,ntmps214;go_wp2_with (at_builtin;refine ay _ rfl _ _ _ rfl base 170 N _ 1 16 underlying102 U J L M rfl (by omega) (.slice none 0 0) 0 [] rfl (Aa F) ⟨d,0,none⟩ 1 1 [.string x] rfl rfl (Aa S) (by simp[Value.oneCell']) (by omega) (by unfold maxLen;omega) (by omega) y _ rfl ?_;intro B z w9 C A t FP)
   go_ret;refine⟨B,z,rfl,C,(Ac.refl _ w).grown A (λk v=>Or.inl (by rw[cM];exact v)),?_⟩;rcases t with h|h
   ·exact Or.inl h
   ·exact Or.inr (by omega)
  |some a=>
   obtain⟨ab,ao,FC⟩:=a;have B9:ao=0/\FC=none:=by
    rcases m.2 with⟨b,p⟩|⟨g,c,f,b,_⟩
    ·simp at b
    ·simp only[Z6,ai,aW]at b;exact b.1.2
   obtain⟨rfl,rfl⟩:=B9;have CC:l.length<=cap/\cap<=maxLen:=by
    rcases m.2 with⟨b,p⟩|⟨g,c,f,b,_,_,h1,h2,_⟩
    ·simp at b
    ·simp only[Z6]at b;rw[b.2.2];exact⟨h1,h2⟩
   obtain⟨V,r⟩:=CC;unfold maxLen at r;clear m;go_enter func214,ntmps214;go_wp2_with (at_builtin;refine ay _ rfl _ _ _ rfl base 170 N _ 1 16 underlying102 U J L M rfl (by omega) (.slice (some ⟨ab,0,none⟩) l.length cap) l.length (l.flatMap Ae) rfl (Aa F) ⟨d,0,none⟩ 1 1 [.string x] rfl rfl (Aa S) (by simp[Value.oneCell']) (by omega) (by unfold maxLen;omega) (by omega) y _ rfl ?_;intro B z w9 C A t FP)
   all_goals
    go_ret;rw[Aa HI];refine⟨B,z,rfl,C,(Ac.refl _ w).grown A (λk v=>Or.inl (by rw[cM];exact v)),?_⟩;rcases t with h|h
    ·exact Or.inl h
    ·exact Or.inr (by omega)
 ·have P:i<l.length:=by omega
  rcases m.2 with⟨b,p⟩|⟨g,c,f,b,hb,FW,V,r,FF,AH⟩
  ·omega
  ·simp only[Z6]at b;obtain⟨rfl,_,rfl⟩:=b;(have AT:d≠g:=λe=>X (by simp[Value.ownBlock,e]));(have I:Aw w g f.toList 170:=by unfold Aw;simpa using FW);(have O:f.toList.length=cap:=by simpa using FF);(have E:f.toList.take l.length=l.flatMap Ae:=by simpa using AH);by_cases K:l.length+1<=cap
   ·refine(Te g l.length cap i d (l.flatMap Ae) f.toList (.string x) w P K (by unfold maxLen at r;omega) AT n I O E s (Zo l) rfl).mono ?_;rintro e q ⟨rfl,rfl⟩;have D:=(I.drew.setCells ((l.flatMap Ae).drop i) (i+1)).setCells [.string x] i;refine⟨g,cap,rfl,⟨?_,Or.inr ⟨g,cap,_,rfl,hb,D,K,r,?_,?_⟩⟩,?_,Or.inl rfl⟩
    ·rw[Mg,aD,DQ H];simp
    ·simp only[bo,BC];omega
    ·rw[Gi];simp only[eC];exact Ol E n H (by omega) _
    ·exact Ac.setCells (by simp[Value.ownBlock]) _ _ (Ac.setCells (by simp[Value.ownBlock]) _ _ (Ac.refl _ w).drew)
   ·refine(Vn g l.length cap i d (l.flatMap Ae) f.toList (.string x) w P V (by omega) EK n I O E s (Zo l) rfl).mono ?_;rintro e q ⟨Q,G,Ha,FL,Y,EY,rfl,rfl⟩;have D:=((Aw.new w Q 170).drew.setCells [.string x] i).drew.setCells ((l.flatMap Ae).drop i) (i+1);(have W:((l.flatMap Ae).drop i).length=l.length-i:=by rw[aL,n]);refine⟨w.heap.size,G,rfl,⟨?_,Or.inr ⟨w.heap.size,G,_,rfl,y,D,FL,Y,?_,?_⟩⟩,?_,Or.inr (au _)⟩
    ·rw[Mg,aD,DQ H];simp
    ·simp only[bo,BC];omega
    ·rw[Gi];simp only[eC];rw[D2 _ _ _ (by rw[BC,W];omega),D2 _ _ _ (by simp;omega),EY];have e1:(List.take i (l.flatMap Ae)++[Value.string x]++List.drop (i+[Value.string x].length) Q).take (i+1)=List.take i (l.flatMap Ae)++[Value.string x]:=by
      rw[aV (by simp only[am,aK,ak,aH,aL,n];omega),Z9 (by simp only[am,aK,ak,aH,aL,n];omega)]
     rw[e1,aV (by simp only[am,aK,ak,aH,aL,n];omega),Z9 (by simp only[am,aK,ak,aH,aL,n];omega)];simp
    ·exact Ac.setCells (Or.inr (au _)) _ _ (Ac.setCells (Or.inr (au _)) _ _ ((Ac.refl _ w).alloc _).drew).drew
def Lb(base:Nat)(lv:Value)(l:List cL)(x:cL)(w:World)(e:Ending)(w':World):Prop:=
 ∃(l':List cL) (ad':Option Addr) (cp':Nat),e= .returned (.slice ad' l'.length cp')/\Ct Dg l'/\(∀y,y∈l'↔y=x\/y∈l)/\l.length<=l'.length/\l'.length<=l.length+1/\
  w'.ownsRow base 170 1 (.slice ad' l'.length cp') l'.length (l'.flatMap Ae)/\Ac lv.ownBlock.toList w w'/\(∀k,(Value.slice ad' l'.length cp').ownBlock=some k->lv.ownBlock=some k\/w.heap.size<=k)
theorem Sr(c:Option Addr)(cap:Nat)(l:List cL)(x:cL)(base:Nat)(w:World)(z:w.ownsRow base 170 1 (.slice c l.length cap) l.length (l.flatMap Ae))(G:l.length<=1000000)(A:Ct Dg l)(Y:base<=w.heap.size):
  Calls prog 185 #[.slice c l.length cap, .string x] w λe a=>Lb base (.slice c l.length cap) l x w e a:=by
 have J:=Ab (O8 (.slice c l.length cap) l 0 x base w z G (aG _) A);have t:=Ab A;have n:=Ab z;clear z A;go_enter func185,ntmps185;go_wp2_with fail
 refine(Aa J).mono ?_;rintro e a ⟨b,rfl,j,rfl⟩;have E:=Ab (j.has Eb (Aa t));have s:=Ab j;have L:=j.le;clear J j;have m:Hid (DR Zk l b x=false->Calls prog 214 #[.slice c l.length cap, .int .i64 b, .slice (some ⟨a.heap.size,0,none⟩) 1 1] (a.alloc (.cells #[.string x] 170)) λe d=>Lb base (.slice c l.length cap) l x a e d):=by
  intro M;have R:Aw (a.alloc (.cells [.string x].toArray 170)) a.heap.size [.string x] 170:=Aw.new a [.string x] 170;refine(Q9 c cap l b x base a.heap.size _ (ah (Aa n) _) G L R (λe=>by have:=((Aa n).lt _ e).2;omega) (by simp;omega)).mono ?_;rintro e d ⟨g,V,rfl,O,q,T⟩;have I:=DQ (x:=x) L;refine⟨Fy l b x,some ⟨g,0,none⟩,V,by rw[I],(Aa s).rise Eb (Aa t) M,λy=>LH x y,by omega,by omega,by rw[I];exact O,((Ac.refl _ a).alloc _).trans q,?_⟩;intro k F;simp only[Value.ownBlock,ai]at F;subst F;rcases T with h|h
  ·exact Or.inl h
  ·exact Or.inr (by simp at h;omega)
 have o:Hid (DR Zk l b x=true->Lb base (.slice c l.length cap) l x a (.returned (.slice c l.length cap)) a):=by
  intro S;have Q:=(Aa E).1 S;exact⟨l,c,cap,rfl,Aa t,λy=>⟨Or.inr,λh=>by rcases h with rfl|h;exact Q;exact h⟩,by omega,by omega,Aa n,Ac.refl _ _,λk q=>Or.inl q⟩
 by_cases i:b<l.length
 ·obtain⟨g,X,K,Z,H⟩:=AE (Aa n) (by simp[Ae]) b i;simp only[Z6]at K;obtain⟨rfl,_,rfl⟩:=K;have N:=H b i 0 (by omega);simp[Ae]at N;clear H;have p:Hid (DR Zk l b x=Zk l[b] x):=by show _=_;unfold DR;rw[dif_pos i]
  have W:Hid ((l[b].toList==x.toList)=true->Lb base (.slice (some ⟨g,0,none⟩) l.length cap) l x a (.returned (.slice (some ⟨g,0,none⟩) l.length cap)) a):=λr=>Aa o (by rw[p.out];exact r)
  have U:Hid ((l[b].toList==x.toList)=false->Calls prog 214 #[.slice (some ⟨g,0,none⟩) l.length cap, .int .i64 b, .slice (some ⟨a.heap.size,0,none⟩) 1 1] (a.alloc (.cells #[.string x] 170)) λe d=>Lb base (.slice (some ⟨g,0,none⟩) l.length cap) l x a e d):=λr=>Aa m (by rw[p.out];exact r)
  clear p E s m o;go_wp2_with fail
  ·go_ret;exact Aa W (by assumption)
  ·refine(Aa U (by assumption)).mono ?_;intro e d B;obtain⟨C,u,v,rfl,f⟩:=B;have D:=Ab f;clear f;go_wp2;go_ret;exact⟨C,u,v,rfl,Aa D⟩
 ·have P:=Ab (Aa m (by unfold DR;rw[dif_neg i]));clear E s m o;go_wp2_with fail
  refine(Aa P).mono ?_;intro e d B;obtain⟨C,u,v,rfl,f⟩:=B;have D:=Ab f;clear f;go_wp2;go_ret;exact⟨C,u,v,rfl,Aa D⟩
