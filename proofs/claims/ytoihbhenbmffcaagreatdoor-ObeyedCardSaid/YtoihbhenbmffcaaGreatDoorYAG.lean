import Derived.Shelf.Spec.SlicesInsertGrow
import Derived.Test.YtoihbhenbmffcaaGreatDoorYAA
set_option linter.all false
set_option maxHeartbeats 0
open List renaming length->Z,toArray->j3
open Option renaming none->Y,some->V
open Go.Value renaming slice->U,int->X,string->O,ownBlock->lX
open Bool renaming false->K,true->j1
open Go.IntKind renaming i64->J,i32->lS
open Go.Obj renaming cells->j2
open Go.Ending renaming returned->lo
open Or renaming inl->lx,inr->ly
open Go renaming World->l9,Value->lN
open Go.World renaming cell?->lP,ownsRow->lQ
namespace Go.Proofs.YtoihbhenbmffcaaGreatDoor
open Go.RowKit Go.Proofs.Tryz
theorem Tryz.zu:(Tryz.prog.info? 21).map (λi=>(i.zero,i.size,i.bytes))=V (V (X lS 0),1,4):=by kernel_rfl
def N1:mc lN->Nat->mc lN->mc lN
 |cs,_,[]=>cs
 |cs,o,v::r=>N1 (cs.set o v) (o+1) r
def G7:∀(b a:mc lN) (o:Nat),o+Z b<=Z a->N1 a o b=a.take o++b++a.drop (o+Z b)
 |[],a,o,h=>by simp[N1]
 |v::r,a,o,h=>by
  simp only[gW]at h;rw[N1,G7 r (a.set o v) (o+1) (by simp;omega)];have c:(a.set o v).take (o+1)=a.take o++[v]:=by
   rw[gQ (by simp;omega),List.take_set_of_le (by omega)];simp
  have d:(a.set o v).drop (o+1+Z r)=a.drop (o+(Z r+1)):=by
   rw[List.drop_set_of_lt (by omega)]
   congr 1
   omega
  rw[c,d];simp
def Du:∀(b a:mc lN) (o:Nat),Z (N1 a o b)=Z a
 |[],a,o=>rfl
 |v::r,a,o=>by rw[N1,Du r];simp
def AH.setCells{b:Nat}{t:TypeId}:∀(c:mc lN) {w:l9} {a:mc lN} (o:Nat),AH w b a t->AH (w.setCells b o c) b (N1 a o c) t
 |[],_,_,_,h=>h
 |v::r,w,a,o,h=>by
  rw[World.setCells,N1];exact AH.setCells r (o+1) (h.set o v)
def Ac.setCells{M:mc Nat}{a:l9}{b:Nat}(c:b∈M\/a.heap.size<=b):∀(d:mc lN) {w:l9} (o:Nat),Ac M a w->Ac M a (w.setCells b o d)
 |[],_,_,h=>h
 |v::r,w,o,h=>by
  rw[World.setCells];exact Ac.setCells c r (o+1) (h.setCell (p:=⟨b,o,Y⟩) c v)
def AH.shape{w:l9}{b:Nat}{cs:mc lN}{t:TypeId}(h:AH w b cs t):w.shape? b=V (t,Z cs):=by
 unfold AH at h;simp[World.shape?,h]
def AH.some{w:l9}{b:Nat}{cs:mc lN}{t:TypeId}(h:AH w b cs t)(k:Nat)(a:k<Z cs):(lP w ⟨b,k,Y⟩).isSome=j1:=by
 rw[h.cell,gS a];rfl
def aZ{a cs:mc lN}{n i:Nat}(h:a.take n=cs)(e:Z cs=n)(f:i<=n)(j:n+1<=Z a)(x:lN):
  (N1 (N1 a (i+1) (cs.drop i)) i [x]).take (n+1)=cs.take i++x::cs.drop i:=by
 have b:Z (cs.drop i)=n-i:=by rw[iN,e]
 rw[G7 [x] _ i (by rw[Du];simp;omega),G7 (cs.drop i) a (i+1) (by rw[b];omega)];have c:(a.take (i+1)++cs.drop i++a.drop (i+1+Z (cs.drop i))).take i=cs.take i:=by
  rw[iT,iP (by simp;omega),kR,kD (by omega),<-h,kR,kD f]
 have g:(a.take (i+1)++cs.drop i++a.drop (i+1+Z (cs.drop i))).drop (i+[x].length)=cs.drop i++a.drop (i+1+Z (cs.drop i)):=by
  rw[iT,List.drop_left' (by simp;omega)]
 rw[c,g,iT,List.take_append,gR (by simp;omega)]
 congr 1
 have d:n+1-Z (cs.take i)=(n-i)+1:=by simp;omega
 rw[d];simp only[lG,js,i6,kc];rw[iP (by omega),gR (by omega)]
theorem Tryz.zi:(Tryz.prog.info? 170).map (λi=>(i.zero,i.size,i.bytes))=V (V (O ⟨#[]⟩),1,16):=by kernel_rfl
def Q4(te sl fn ov bz:Nat)(z:lN):Prop:=
 (te=9/\sl=41/\fn=218/\ov=231/\bz=16/\z=O ⟨#[]⟩)\/(te=21/\sl=234/\fn=220/\ov=233/\bz=4/\z=X lS 0)\/(te=170/\sl=102/\fn=214/\ov=229/\bz=16/\z=O ⟨#[]⟩)
def Q4.info{b c fn d a:Nat}{z:lN}(h:Q4 b c fn d a z):(prog.info? b).map (λi=>(i.zero,i.size,i.bytes))=V (V z,1,a):=by
 rcases h with⟨rfl,rfl,rfl,rfl,rfl,rfl⟩|⟨rfl,rfl,rfl,rfl,rfl,rfl⟩|⟨rfl,rfl,rfl,rfl,rfl,rfl⟩
 .exact Tryz.zt
 .exact Tryz.zu
 .exact Tryz.zi
def Q4.ul{a b fn d c:Nat}{z:lN}(h:Q4 a b fn d c z):prog.underlying b=V (.slice a):=by
 rcases h with⟨rfl,rfl,rfl,rfl,rfl,rfl⟩|⟨rfl,rfl,rfl,rfl,rfl,rfl⟩|⟨rfl,rfl,rfl,rfl,rfl,rfl⟩
 .exact underlying41
 .exact underlying234
 .exact underlying102
theorem Q4.over{c a fn b e:Nat}{z:lN}(h:Q4 c a fn b e z)(args:Array lN)(w:l9):(callFunc b args).run prog w=((Extern.SlicesOverlaps.overlaps #[a,a] #[4] args).run prog w).andThen λv d=> .ok (.value v) d:=by
 rcases h with⟨rfl,rfl,rfl,rfl,rfl,rfl⟩|⟨rfl,rfl,rfl,rfl,rfl,rfl⟩|⟨rfl,rfl,rfl,rfl,rfl,rfl⟩
 .exact lg func231 (by kernel_rfl) (by kernel_rfl) (by kernel_rfl) (by kernel_rfl) _ _
 .exact lg func233 (by kernel_rfl) (by kernel_rfl) (by kernel_rfl) (by kernel_rfl) _ _
 .exact lg func229 (by kernel_rfl) (by kernel_rfl) (by kernel_rfl) (by kernel_rfl) _ _
def Q4.one{b c fn d a:Nat}{z:lN}(h:Q4 b c fn d a z):z.cells=#[z]:=by
 rcases h with⟨_,_,_,_,_,rfl⟩|⟨_,_,_,_,_,rfl⟩|⟨_,_,_,_,_,rfl⟩<;>rfl
def Q4.small{b c fn d a:Nat}{z:lN}(h:Q4 b c fn d a z):a<=16:=by rcases h with h|h|h<;>omega
set_option maxRecDepth 100000
theorem ZS{b m fn F T:Nat}{z:lN}(o:Q4 b m fn F T z)(g n c i d:Nat)(cs s:mc lN)(h:lN)(w:l9)(hi:i<n)(BS:n+1<=c)(BA:c<=9223372036854775807)(C:d≠g)
  (A1:Z cs=n) (p:AH w g s b) (Ax:Z s=c) (Q:s.take n=cs) (r:AH w d [h] b) (W:∀v∈cs,v.oneCell'=j1) (R:h.oneCell'=j1):
  Calls prog fn #[U (V ⟨g,0,Y⟩) n c,X J i,U (V ⟨d,0,Y⟩) 1 1] w λe N=>
   e=lo (U (V ⟨g,0,Y⟩) (n+1) c)/\N=(w.drew.setCells g (i+1) (cs.drop i)).setCells g i [h]:=by
 obtain⟨i0,L,Bx,G,EX⟩:=iR o.info;have D:(prog.info? b).map (·.size)=V 1:=by rw[L];simp[G]
 have A2:∀w,(Go.sizeOf b).run prog w=.ok 1 w:=λw=>by simp[sizeOf,typeInfo,L,G]
 have H:∀j,j<n+1->(lP w ⟨g,j,Y⟩).isSome=j1:=λj a=>p.some j (by omega)
 have I:∀j,w.frozen? ⟨g,j,Y⟩=K:=λj=>p.frozen j
 have E:∀j v,cs[j]?=V v->lP w ⟨g,j,Y⟩=V v:=λj v a=>by
  rw[p.cell];rw[<-Q,jD]at a;split at a
  .exact a
  .cases a
 have S:∀x u,(callFunc F #[U (V ⟨d,0,Y⟩) 1 1,U (V ⟨g,i+1,Y⟩) x u]).run prog w=.ok (.value (.bool K)) w:=λx u=>by
  rw[o.over,Lib.run_overlaps_apart w m 4 b o.ul 1 A2 ⟨d,0,Y⟩ ⟨g,i+1,Y⟩ 1 1 x u C b b 1 c (by simpa using r.shape) (by rw[<-Ax];exact p.shape) (by omega) (r.frozen 0) (r.frozen 1)];rfl
 have AT:Z (cs.drop i)=n-i:=by rw[iN,A1]
 have B:∀l f y,(Builtin.copy_ #[m,m] l #[U (V ⟨g,i+1,Y⟩) (n-i) f,U (V ⟨g,i,Y⟩) (n+1-i) y]).run prog w.drew=.ok (goInt (Z (cs.drop i))) (w.drew.setCells g (i+1) (cs.drop i)):=λl f y=>
  run_copy_cells w.drew _ _ l b g (i+1) (n-i) f ⟨g,i,Y⟩ (n+1-i) y (cs.drop i) o.ul D (by rw[AT];simp only[lB];split<;>omega)
   (λj v a=>by rw[j8];exact E (i+j) v (by rwa [kU]at a))
   (λj a=>H _ (by omega)) (λj a=>I _) (λv hv=>W v (km hv))
 obtain⟨k,q⟩:∃k,k=w.drew.setCells g (i+1) (cs.drop i):=⟨_,rfl⟩;have t:AH k g (N1 s (i+1) (cs.drop i)) b:=by rw[q];exact p.drew.setCells _ _
 have A:AH k d [h] b:=by rw[q];exact r.drew.kept (Ac.setCells (M:=[g]) (by simp) _ _ (me _ _)) (by simpa using C)
 have P:∀l f,(Builtin.copy_ #[m,m] l #[U (V ⟨g,i,Y⟩) (n+1-i) f,U (V ⟨d,0,Y⟩) 1 1]).run prog k=.ok (goInt [h].length) (k.setCells g i [h]):=λl f=>
  run_copy_cells k _ _ l b g i (n+1-i) f ⟨d,0,Y⟩ 1 1 [h] o.ul D (by simp only[lB];split<;>simp<;>omega)
   (λj v a=>by rw[j8,iM,A.cell];exact a)
   (λj a=>t.some _ (by rw[Du];simp at a;omega)) (λj a=>t.frozen _) (by simpa using R)
 rw[<-q]at B;have CC:IntKind.i64.wrap ((i:Int)+1)=(i:Int)+1:=by rw[j7];omega
 have B0:¬((i:Int)=(n:Int)):=by omega
 have EM:(0:Int)<=(i:Int)+1:=by omega
 have B9:i<=n:=by omega
 have BT:((i:Int)+1).toNat=i+1:=by omega
 have CL:¬(c=i+1):=by omega
 have EY:(i:Int)<=(n:Int)+1:=by omega
 have EK:¬(c=i):=by omega
 have mixed:prog.follows Departure.mixedOrders=j1:=by kernel_rfl
 have AO:=Ab q;clear p r t A E H I q;rcases o with⟨rfl,rfl,rfl,rfl,rfl,rfl⟩|⟨rfl,rfl,rfl,rfl,rfl,rfl⟩|⟨rfl,rfl,rfl,rfl,rfl,rfl⟩
 case' inl=>go_enter func218,ntmps218
 case' inr.inl=>go_enter func220,ntmps220
 case' inr.inr=>go_enter func214,ntmps214
 all_goals
  go_wp2_with (simp only[S])
  go_region_law_o (refine step_copy_runI rfl _ _ _ _ rfl _ _ (by simp[Act.eval,Act.put]) (by simp[Act.eval,Act.put]) (B _ _ _) ?_)
  go_wp2_with (at_builtin;refine wpList_copy_runI _ rfl _ _ _ _ rfl _ _ rfl rfl (P _ _) ?_)
  go_ret;exact⟨rfl,by rw[Aa AO]⟩
theorem aR{a o fn ov bz:Nat}{z:lN}(l:Q4 a o fn ov bz z)(g n c i p:Nat)(cs u:mc lN)(f:lN)(w:l9)(hi:i<n)(HE:n<=c)(CL:c<n+1)(HI:n<=1000000)
  (FP:Z cs=n) (A:AH w g u a) (HC:Z u=c) (I:u.take n=cs) (H:AH w p [f] a) (FA:∀v∈cs,v.oneCell'=j1) (CC:f.oneCell'=j1):
  Calls prog fn #[U (V ⟨g,0,Y⟩) n c,X J i,U (V ⟨p,0,Y⟩) 1 1] w λe w'=>
   ∃(b:mc lN) (G:Nat),Z b=G/\n+1<=G/\G<=maxLen/\b.take i=cs.take i/\e=lo (U (V ⟨w.heap.size,0,Y⟩) (n+1) G)/\
   w'=(((w.alloc (j2 (j3 b) a)).drew.setCells w.heap.size i [f]).drew).setCells w.heap.size (i+1) (cs.drop i):=by
 obtain⟨T,Bx,B0,AT,A0⟩:=iR l.info;have mixed:prog.follows Departure.mixedOrders=j1:=by kernel_rfl
 have S:(prog.info? a).map (·.size)=V 1:=by rw[Bx];simp[AT]
 have Go:=A.lt;have FT:=H.lt;have P:(n:Int)+1-(i:Int)=((n+1-i:Nat):Int):=by omega
 have D:i+(n+1-i)=n+1:=by omega
 have AO:∀j v,cs[j]?=V v->lP w ⟨g,j,Y⟩=V v:=λj v d=>by
  rw[A.cell];rw[<-I,jD]at d;split at d
  .exact d
  .cases d
 have R:(Builtin.firstCells T.size i (U (V ⟨g,0,Y⟩) i c)).run prog w.drew=.ok (j3 (cs.take i)) w.drew:=by
  rw[AT];exact run_firstCells_some w.drew 1 i ⟨g,0,Y⟩ i c (cs.take i) (by rw[iH];omega) (λj v d=>by
   rw[j8,iM]
   rw[jD]at d
   split at d
   .exact AO j v d
   .cases d)
 have t:∀k,(Builtin.append_ #[o,3] k #[U (V ⟨g,0,Y⟩) i c,X J ((n:Int)+1-(i:Int))]).run prog w=
   .ok (U (V ⟨w.heap.size,0,Y⟩) (n+1) (grownCap w (n+1) c a)) (w.drew.alloc (j2 (j3 (cs.take i)++Builtin.zeroCells z.cells (n+1-i)++Builtin.zeroCells z.cells (grownCap w (n+1) c a-(n+1))) a)):=λk=>by
  have h:=Lib.run_append_grow_zeros w o 3 k a T _ J J l.ul underlying3 Bx B0 (V ⟨g,0,Y⟩) i c (cs.take i) R (n+1-i) (by omega) (by omega) (by omega) (by omega) (by have:=l.small;rw[A0];exact iQ (Nat.mul_le_mul_left _ this) (by omega)) (by have:=l.small;rw[A0,D];exact growslice_fits CL (iQ (Nat.mul_le_mul_left _ this) (by omega)));rw[D]at h;rw[P];exact h
 obtain⟨G,y⟩:∃G,G=grownCap w (n+1) c a:=⟨_,rfl⟩;obtain⟨b,s⟩:∃b:mc lN,j3 b=j3 (cs.take i)++Builtin.zeroCells z.cells (n+1-i)++Builtin.zeroCells z.cells (G-(n+1)):=⟨_,Array.toArray_toList⟩;rw[<-y]at t;rw[<-s]at t;have FB:n+1<=G:=by rw[y];exact grownCap_ge w _ _ _
 have C:G<=maxLen:=by rw[y];exact grownCap_le_maxLen w (n+1) c a (by unfold maxLen;omega)
 have BA:Z b=G:=by
  have:=congrArg Array.size s;simp[Builtin.zeroCells,l.one]at this;omega
 have Ax:b.take i=cs.take i:=by
  have h:=congrArg Array.toList s;simp only[Array.toList_append,iT]at h;rw[h,iP (by simp;omega)];simp[kR]
 obtain⟨N,hN⟩:∃N,w.heap.size=N:=⟨_,rfl⟩;have r:AH (w.drew.alloc (j2 (j3 b) a)) N b a:=by rw[<-hN];exact mf w.drew b a
 have Q:AH (w.drew.alloc (j2 (j3 b) a)) p [f] a:=H.drew.alloc _;have EM:∀(W:l9),(∀x,lP W x=lP (w.drew.alloc (j2 (j3 b) a)) x)->(∀x,W.frozen? x=(w.drew.alloc (j2 (j3 b) a)).frozen? x)->∀k m,(Builtin.copy_ #[o,o] k #[U (V ⟨N,i,Y⟩) (n+1-i) m,U (V ⟨p,0,Y⟩) 1 1]).run prog W=.ok (goInt [f].length) (W.setCells N i [f]):=λW q E k m=>
  run_copy_cells W _ _ k a N i (n+1-i) m ⟨p,0,Y⟩ 1 1 [f] l.ul S (by simp only[lB];split<;>simp<;>omega)
   (λj v d=>by rw[j8,iM,q,Q.cell];exact d)
   (λj d=>by rw[q];exact r.some _ (by simp at d;omega)) (λj d=>by rw[E];exact r.frozen _) (by simpa using CC)
 have B:AH ((w.drew.alloc (j2 (j3 b) a)).setCells N i [f]) N (N1 b i [f]) a:=r.setCells _ _;have L:AH ((w.drew.alloc (j2 (j3 b) a)).setCells N i [f]) g u a:=(A.drew.alloc _).kept (Ac.setCells (M:=[N]) (by simp) _ _ (me _ _)) (by simp;omega);have FF:Z (cs.drop i)=n-i:=by rw[iN,FP]
 have A1:∀(W:l9),(∀x,lP W x=lP ((w.drew.alloc (j2 (j3 b) a)).setCells N i [f]) x)->(∀x,W.frozen? x=((w.drew.alloc (j2 (j3 b) a)).setCells N i [f]).frozen? x)->∀k m F,(Builtin.copy_ #[o,o] k #[U (V ⟨N,i+1,Y⟩) (n-i) m,U (V ⟨g,i,Y⟩) (n-i) F]).run prog W=.ok (goInt (Z (cs.drop i))) (W.setCells N (i+1) (cs.drop i)):=λW q E k m F=>
  run_copy_cells W _ _ k a N (i+1) (n-i) m ⟨g,i,Y⟩ (n-i) F (cs.drop i) l.ul S (by rw[FF];simp only[lB];split<;>omega)
   (λj v d=>by
    rw[j8,q,L.cell]
    rw[kU,<-I,jD]at d
    split at d
    .exact d
    .cases d)
   (λj d=>by rw[q];exact B.some _ (by rw[Du];omega))
   (λj d=>by rw[E];exact B.frozen _) (λv hv=>FA v (km hv))
 have B9:∀x,lP ((w.alloc (j2 (j3 b) a)).drew) x=lP (w.drew.alloc (j2 (j3 b) a)) x:=λx=>rfl
 have FL:∀x,((w.alloc (j2 (j3 b) a)).drew).frozen? x=(w.drew.alloc (j2 (j3 b) a)).frozen? x:=λx=>rfl
 have EY:∀x,lP (((w.alloc (j2 (j3 b) a)).drew.setCells N i [f]).drew) x=lP ((w.drew.alloc (j2 (j3 b) a)).setCells N i [f]) x:=λx=>rfl
 have DT:∀x,(((w.alloc (j2 (j3 b) a)).drew.setCells N i [f]).drew).frozen? x=((w.drew.alloc (j2 (j3 b) a)).setCells N i [f]).frozen? x:=λx=>rfl
 have HG:IntKind.i64.wrap ((i:Int)+1)=(i:Int)+1:=by rw[j7];omega
 have HB:¬((i:Int)=(n:Int)):=by omega
 have HK:(c:Int)<(n:Int)+1:=by omega
 have HM:(0:Int)<=(i:Int)+1:=by omega
 have HD:i<=n:=by omega
 have Ha:((i:Int)+1).toNat=i+1:=by omega
 have HN:(i:Int)<=(n:Int):=by omega
 have HL:¬(G=i):=by omega
 have HA:¬(G=i+1):=by omega
 have HH:¬(c=i):=by omega
 have HF:G<=9223372036854775807:=by unfold maxLen at C;omega
 have BS:=Ab BA;have B2:=Ab Ax;have EX:=Ab C;rw[hN]at t⊢;clear P D R s y BA Ax C A H r Q B L AO;rcases l with⟨rfl,rfl,rfl,rfl,rfl,rfl⟩|⟨rfl,rfl,rfl,rfl,rfl,rfl⟩|⟨rfl,rfl,rfl,rfl,rfl,rfl⟩
 case' inl=>go_enter func218,ntmps218
 case' inr.inl=>go_enter func220,ntmps220
 case' inr.inr=>go_enter func214,ntmps214
 all_goals
  go_wp2_with (first
   |(at_builtin;refine Lib.wpList_append_run _ rfl _ _ _ _ rfl _ _ rfl rfl _ _ (t _) ?_)
   |(at_builtin;refine wpList_copy_runI _ rfl _ _ _ _ rfl _ _ rfl rfl (EM _ B9 FL _ _) ?_)
   |(at_builtin;refine wpList_copy_runI _ rfl _ _ _ _ rfl _ _ rfl rfl (A1 _ (λ_=>rfl) (λ_=>rfl) _ _ _) ?_))
  go_region_law_o (refine step_copy_runI rfl _ _ _ _ rfl (U (V ⟨N,i+1,Y⟩) (n-i) (G-(i+1))) (U (V ⟨g,i,Y⟩) (n-i) (c-i)) (by simp[Act.eval,Act.put]) (by simp[Act.eval,Act.put]) (A1 _ EY DT 3 (G-(i+1)) (c-i)) ?_)
  go_wp2;go_ret;exact⟨b,G,BS,FB,EX,B2,rfl,rfl⟩
theorem LH{r sl fn ov bz:Nat}{z:lN}(o:Q4 r sl fn ov bz z)(q:Option Addr)(cap n:Nat)(l:mc lN)(i:Nat)(x:lN)(base f:Nat)(w:l9)(p:lQ w base r 1 (U q n cap) n l)(d:Z l=n)(FT:n<=1000000)(hi:i<=n)(B:AH w f [x] r)(I:∀v∈l,v.oneCell'=j1)(s:x.oneCell'=j1)(R:(U q n cap).ownBlock≠V f)(E:base<=w.heap.size):
  Calls prog fn #[U q n cap,X J i,U (V ⟨f,0,Y⟩) 1 1] w λe t=>∃g cp,e=lo (U (V ⟨g,0,Y⟩) (n+1) cp)/\lQ t base r 1 (U (V ⟨g,0,Y⟩) (n+1) cp) (n+1) (Fr l i x)/\Ac (U q n cap).ownBlock.toList w t/\((U q n cap).ownBlock=V g\/w.heap.size<=g):=by
 have HN:=Kw (l:=l) (by omega) x (at_:=i);by_cases Go:i=n
 .subst Go;obtain⟨i0,B0,S,Ax,A0⟩:=iR o.info;have HI:Hid (Fr l i x=l++[x]):=by
   show Fr l i x=l++[x];rw[Fr,gR (by omega),iC (by omega)]
  have HV:Hid (∀j u,[x][j]?=V u->lP w ((⟨f,0,Y⟩:Addr).add j)=V u):=λj u hu=>by rw[j8,iM,B.cell];exact hu
  have HL:=Ab p;have W:=o.ul;have HS:=o.small;have H1:=Ab s;have AO:∀v∈[x],v.oneCell'=j1:=λv hv=>by rw[gN.1 hv];exact s
  have HX:=Ab AO;clear B HN I s AO R;cases q with
  |none=>
   have HK:i=0/\cap=0:=by
    rcases p.2 with⟨b,y⟩|⟨g,c,m,b,_⟩
    .simp only[gM]at b;exact⟨y,b.2.2⟩
    .simp at b
   obtain⟨rfl,rfl⟩:=HK;have EK:l=[]:=jF.1 d;subst EK;clear p d;rcases o with⟨rfl,rfl,rfl,rfl,rfl,rfl⟩|⟨rfl,rfl,rfl,rfl,rfl,rfl⟩|⟨rfl,rfl,rfl,rfl,rfl,rfl⟩
   case' inl=>go_enter func218,ntmps218
   case' inr.inl=>go_enter func220,ntmps220
   case' inr.inr=>go_enter func214,ntmps214
   all_goals
    go_wp2_with (at_builtin;refine io _ rfl _ _ _ rfl base _ i0 _ 1 _ W B0 S Ax A0 rfl (by omega) (U Y 0 0) 0 [] rfl HL ⟨f,0,Y⟩ 1 1 [x] rfl rfl HV HX (by omega) (by unfold maxLen;omega) (by omega) E _ rfl ?_;intro M F w9 L H C HH)
    go_ret;refine⟨M,F,rfl,L,(me _ w).grown H (λk D=>lx (by rw[jP];exact D)),?_⟩;rcases C with h|h
    .exact lx h
    .exact ly (by omega)
  |some a=>
   obtain⟨ab,ao,HB⟩:=a;have FL:ao=0/\HB=Y:=by
    rcases p.2 with⟨b,y⟩|⟨g,c,m,b,_⟩
    .simp at b
    .simp only[gM,gT,iL]at b;exact b.1.2
   obtain⟨rfl,rfl⟩:=FL;have FO:i<=cap/\cap<=maxLen:=by
    rcases p.2 with⟨b,y⟩|⟨g,c,m,b,_,_,h1,h2,_⟩
    .simp at b
    .simp only[gM]at b;rw[b.2.2];exact⟨h1,h2⟩
   obtain⟨B2,A⟩:=FO;unfold maxLen at A;clear p;rcases o with⟨rfl,rfl,rfl,rfl,rfl,rfl⟩|⟨rfl,rfl,rfl,rfl,rfl,rfl⟩|⟨rfl,rfl,rfl,rfl,rfl,rfl⟩
   case' inl=>go_enter func218,ntmps218
   case' inr.inl=>go_enter func220,ntmps220
   case' inr.inr=>go_enter func214,ntmps214
   all_goals
    go_wp2_with (at_builtin;refine io _ rfl _ _ _ rfl base _ i0 _ 1 _ W B0 S Ax A0 rfl (by omega) (U (V ⟨ab,0,Y⟩) i cap) i l rfl HL ⟨f,0,Y⟩ 1 1 [x] rfl rfl HV HX (by omega) (by unfold maxLen;omega) (by omega) E _ rfl ?_;intro M F w9 L H C HH)
    all_goals
     go_ret;rw[Aa HI];refine⟨M,F,rfl,L,(me _ w).grown H (λk D=>lx (by rw[jP];exact D)),?_⟩;rcases C with h|h
     .exact lx h
     .exact ly (by omega)
 .have Bx:i<n:=by omega
  rcases p.2 with⟨b,y⟩|⟨g,c,m,b,hb,HO,B2,A,HC,EM⟩
  .omega
  .simp only[gM]at b;obtain⟨rfl,_,rfl⟩:=b;(have EX:f≠g:=λe=>R (by simp[lX,e]));(have Q:AH w g m.toList r:=by unfold AH;simpa using HO);(have A1:Z m.toList=cap:=by simpa using HC);(have P:m.toList.take n=l:=by simpa using EM);by_cases T:n+1<=cap
   .refine(ZS o g n cap i f l m.toList x w Bx T (by unfold maxLen at A;omega) EX d Q A1 P B I s).mono ?_;rintro e t ⟨rfl,rfl⟩;have N:=(Q.drew.setCells (l.drop i) (i+1)).setCells [x] i;refine⟨g,cap,rfl,⟨?_,ly ⟨g,cap,_,rfl,hb,N,T,A,?_,?_⟩⟩,?_,lx rfl⟩
    .omega
    .simp only[i7,Du];omega
    .simp only[Nat.mul_one];exact aZ P d hi (by omega) _
    .exact Ac.setCells (by simp[lX]) _ _ (Ac.setCells (by simp[lX]) _ _ (me _ w).drew)
   .refine(aR o g n cap i f l m.toList x w Bx B2 (by omega) FT d Q A1 P B I s).mono ?_;rintro e t ⟨BA,G,HQ,HF,CL,Ha,rfl,rfl⟩;have N:=((mf w BA r).drew.setCells [x] i).drew.setCells (l.drop i) (i+1);(have hd:Z (l.drop i)=n-i:=by rw[iN,d]);refine⟨w.heap.size,G,rfl,⟨?_,ly ⟨w.heap.size,G,_,rfl,E,N,HF,CL,?_,?_⟩⟩,?_,ly (ig _)⟩
    .omega
    .simp only[i7,Du];omega
    .simp only[Nat.mul_one];rw[G7 _ _ _ (by rw[Du,hd];omega),G7 _ _ _ (by simp;omega),Ha];have e1:(List.take i l++[x]++List.drop (i+[x].length) BA).take (i+1)=List.take i l++[x]:=by
      rw[iP (by simp only[ib,iH,gW,iv,iN,d];omega),gR (by simp only[ib,iH,gW,iv,iN,d];omega)]
     rw[e1,iP (by simp only[ib,iH,gW,iv,iN,d];omega),gR (by simp only[ib,iH,gW,iv,iN,d];omega)];simp[Fr]
    .exact Ac.setCells (ly (ig _)) _ _ (Ac.setCells (ly (ig _)) _ _ ((me _ w).alloc _).drew).drew
def VY(l:mc zA):l.flatMap Ah=l.map (O):=by
 induction l with
 |nil=>rfl
 |cons a l ih=>rw[il,ii,ih];rfl
def fI(l:mc zA):∀v∈l.flatMap Ah,v.oneCell'=j1:=by
 intro v b;rw[VY]at b;obtain⟨a,_,rfl⟩:=gX.1 b;rfl
def Sy(l:mc zA)(i:Nat)(x:zA):(Fr l i x).flatMap Ah=(l.flatMap Ah).take i++ O x::(l.flatMap Ah).drop i:=by
 rw[VY,VY,Fr,iG,ii,List.map_take,List.map_drop]
def Ud(a:Option Addr)(cap:Nat)(l:mc zA)(i:Nat)(x:zA)(base b:Nat)(w:l9)(h:lQ w base 9 1 (U a (Z l) cap) (Z l) (l.flatMap Ah))(m:Z l<=1000000)(n:i<=Z l)(k:AH w b [O x] 9)(j:(U a (Z l) cap).ownBlock≠V b)(f:base<=w.heap.size):
  Calls prog 218 #[U a (Z l) cap,X J i,U (V ⟨b,0,Y⟩) 1 1] w λe c=>∃g d,e=lo (U (V ⟨g,0,Y⟩) (Z l+1) d)/\lQ c base 9 1 (U (V ⟨g,0,Y⟩) (Z l+1) d) (Z l+1) ((Fr l i x).flatMap Ah)/\Ac (U a (Z l) cap).ownBlock.toList w c/\((U a (Z l) cap).ownBlock=V g\/w.heap.size<=g):=by
 rw[Sy];exact LH (lx ⟨rfl,rfl,rfl,rfl,rfl,rfl⟩) a cap (Z l) (l.flatMap Ah) i (O x) base b w h (by rw[VY];simp) m n k (fI l) rfl j f
def Yk(l:mc zA)(x:zA):Bool:=l.any λy=>eE y x
def Ki(l:mc zA)(x:zA):Yk l x=j1↔x∈l:=by
 unfold Yk;rw[jg];constructor
 .rintro ⟨y,a,h⟩;rw[<-(FE.eqv y x).1 h];exact a
 .intro h;exact⟨x,h,(FE.eqv x x).2 rfl⟩
def C0.inS{l:mc zA}(a:CE Fh l){x:zA}{at_:Nat}(h:C0 Fh l 0 x at_):Ew eE l at_ x=Yk l x:=by
 rw[jl,h.has FE a,Ki]
theorem Sh(f:Option Addr)(cap:Nat)(l:mc zA)(x:zA)(base:Nat)(w:l9)(h:lQ w base 9 1 (U f (Z l) cap) (Z l) (l.flatMap Ah))(q:Z l<=1000000)(i:CE Fh l):
  Calls prog 121 #[U f (Z l) cap,O x] w λe j=>e=lo (.bool (Yk l x))/\j=w:=by
 have m:=Ab (Rx (U f (Z l) cap) l 0 x base w h q (ik _) i);have r:=Ab i;have s:=Ab h;clear h i;go_enter func121,ntmps121;go_wp2_with fail
 refine m.mono ?_;rintro e j ⟨b,rfl,c,rfl⟩;have o:=Ab (c.inS r);have u:=c.le;clear m c;by_cases a:b<Z l
 .obtain⟨g,t,n,v,k⟩:=AF s (by simp[Ah]) b a;simp only[gM]at n;obtain⟨rfl,_,rfl⟩:=n;have p:=k b a 0 (by omega);simp[Ah]at p;clear k;have d:Hid (Yk l x=eE l[b] x):=by show _=_;rw[<-Aa o];unfold Ew;rw[dif_pos a]
  go_wp2;go_ret;rw[d.out];exact⟨rfl,rfl⟩
 .have d:Hid (Yk l x=K):=by show _=_;rw[<-Aa o];unfold Ew;rw[dif_neg a]
  go_wp2;go_ret;rw[d.out];exact⟨rfl,rfl⟩
def MK(base:Nat)(lv:lN)(l:mc zA)(x:zA)(w:l9)(e:Ending)(w':l9):Prop:=
 ∃(l':mc zA) (ad':Option Addr) (cp':Nat),e=lo (U ad' (Z l') cp')/\CE Fh l'/\(∀y,y∈l'↔y=x\/y∈l)/\Z l<=Z l'/\Z l'<=Z l+1/\
  lQ w' base 9 1 (U ad' (Z l') cp') (Z l') (l'.flatMap Ah)/\Ac lv.ownBlock.toList w w'/\(∀k,(U ad' (Z l') cp').ownBlock=V k->lv.ownBlock=V k\/w.heap.size<=k)
theorem bA(c:Option Addr)(cap:Nat)(l:mc zA)(x:zA)(base:Nat)(w:l9)(z:lQ w base 9 1 (U c (Z l) cap) (Z l) (l.flatMap Ah))(G:Z l<=1000000)(A:CE Fh l)(Bx:base<=w.heap.size):
  Calls prog 194 #[U c (Z l) cap,O x] w λe a=>MK base (U c (Z l) cap) l x w e a:=by
 have L:=Ab (Rx (U c (Z l) cap) l 0 x base w z G (ik _) A);have t:=Ab A;have n:=Ab z;clear z A;go_enter func194,ntmps194;go_wp2_with fail
 refine L.mono ?_;rintro e a ⟨b,rfl,j,rfl⟩;have E:=Ab (j.has FE t);have s:=Ab j;have N:=j.le;clear L j;have m:Hid (Ew eE l b x=K->Calls prog 218 #[U c (Z l) cap,X J b,U (V ⟨a.heap.size,0,Y⟩) 1 1] (a.alloc (j2 #[O x] 9)) λe d=>MK base (U c (Z l) cap) l x a e d):=by
  intro P;have W:AH (a.alloc (j2 [O x].toArray 9)) a.heap.size [O x] 9:=mf a [O x] 9;refine(Ud c cap l b x base a.heap.size _ (gU n _) G N W (λe=>by have:=(n.lt _ e).2;omega) (by simp;omega)).mono ?_;rintro e d ⟨g,cp,rfl,R,q,ha⟩;have I:=Kw (x:=x) N;refine⟨Fr l b x,V ⟨g,0,Y⟩,cp,by rw[I],s.zL FE t P,λy=>Nu x y,by omega,by omega,by rw[I];exact R,((me _ a).alloc _).trans q,?_⟩;intro k F;simp only[lX,gT]at F;subst F;rcases ha with h|h
  .exact lx h
  .exact ly (by simp at h;omega)
 have o:Hid (Ew eE l b x=j1->MK base (U c (Z l) cap) l x a (lo (U c (Z l) cap)) a):=by
  intro Ax;have T:=E.1 Ax;exact⟨l,c,cap,rfl,t,λy=>⟨ly,λh=>by rcases h with rfl|h;exact T;exact h⟩,by omega,by omega,n,me _ _,λk q=>lx q⟩
 by_cases i:b<Z l
 .obtain⟨g,A2,M,hc,H⟩:=AF n (by simp[Ah]) b i;simp only[gM]at M;obtain⟨rfl,_,rfl⟩:=M;have Q:=H b i 0 (by omega);simp[Ah]at Q;clear H;have p:Hid (Ew eE l b x=eE l[b] x):=by show _=_;unfold Ew;rw[dif_pos i]
  have A1:Hid ((l[b].toList==x.toList)=j1->MK base (U (V ⟨g,0,Y⟩) (Z l) cap) l x a (lo (U (V ⟨g,0,Y⟩) (Z l) cap)) a):=λr=>o (by rw[p.out];exact r)
  have AT:Hid ((l[b].toList==x.toList)=K->Calls prog 218 #[U (V ⟨g,0,Y⟩) (Z l) cap,X J b,U (V ⟨a.heap.size,0,Y⟩) 1 1] (a.alloc (j2 #[O x] 9)) λe d=>MK base (U (V ⟨g,0,Y⟩) (Z l) cap) l x a e d):=λr=>m (by rw[p.out];exact r)
  clear p E s m o;go_wp2_with fail
  .go_ret;exact A1 (by assumption)
  .refine(AT (by assumption)).mono ?_;intro e d B;obtain⟨C,u,v,rfl,f⟩:=B;have D:=Ab f;clear f;go_wp2;go_ret;exact⟨C,u,v,rfl,D⟩
 .have S:=Ab (m (by unfold Ew;rw[dif_neg i]));clear E s m o;go_wp2_with fail
  refine S.mono ?_;intro e d B;obtain⟨C,u,v,rfl,f⟩:=B;have D:=Ab f;clear f;go_wp2;go_ret;exact⟨C,u,v,rfl,D⟩
def Z4(l:mc Int):l.flatMap AP=l.map (X lS):=by
 induction l with
 |nil=>rfl
 |cons a l ih=>rw[il,ii,ih];rfl
def fX(l:mc Int):∀v∈l.flatMap AP,v.oneCell'=j1:=by
 intro v b;rw[Z4]at b;obtain⟨a,_,rfl⟩:=gX.1 b;rfl
def ZN(l:mc Int)(i:Nat)(x:Int):(Fr l i x).flatMap AP=(l.flatMap AP).take i++ X lS x::(l.flatMap AP).drop i:=by
 rw[Z4,Z4,Fr,iG,ii,List.map_take,List.map_drop]
def T6(a:Option Addr)(cap:Nat)(l:mc Int)(i:Nat)(x:Int)(base b:Nat)(w:l9)(h:lQ w base 21 1 (U a (Z l) cap) (Z l) (l.flatMap AP))(m:Z l<=1000000)(n:i<=Z l)(k:AH w b [X lS x] 21)(j:(U a (Z l) cap).ownBlock≠V b)(f:base<=w.heap.size):
  Calls prog 220 #[U a (Z l) cap,X J i,U (V ⟨b,0,Y⟩) 1 1] w λe c=>∃g d,e=lo (U (V ⟨g,0,Y⟩) (Z l+1) d)/\lQ c base 21 1 (U (V ⟨g,0,Y⟩) (Z l+1) d) (Z l+1) ((Fr l i x).flatMap AP)/\Ac (U a (Z l) cap).ownBlock.toList w c/\((U a (Z l) cap).ownBlock=V g\/w.heap.size<=g):=by
 rw[ZN];exact LH (ly (lx ⟨rfl,rfl,rfl,rfl,rfl,rfl⟩)) a cap (Z l) (l.flatMap AP) i (X lS x) base b w h (by rw[Z4];simp) m n k (fX l) rfl j f
def JY(l:mc Int)(x:Int):Bool:=l.any λy=>e9 y x
def Qf(l:mc Int)(x:Int):JY l x=j1↔x∈l:=by
 unfold JY;rw[jg];constructor
 .rintro ⟨y,a,h⟩;rw[<-(QS.eqv y x).1 h];exact a
 .intro h;exact⟨x,h,(QS.eqv x x).2 rfl⟩
def C0.inI{l:mc Int}(a:CE NT l){x:Int}{at_:Nat}(h:C0 NT l 0 x at_):Ew e9 l at_ x=JY l x:=by
 rw[jl,h.has QS a,Qf]
theorem ZI(f:Option Addr)(cap:Nat)(l:mc Int)(x:Int)(base:Nat)(w:l9)(h:lQ w base 21 1 (U f (Z l) cap) (Z l) (l.flatMap AP))(q:Z l<=1000000)(i:CE NT l):
  Calls prog 201 #[U f (Z l) cap,X lS x] w λe j=>e=lo (.bool (JY l x))/\j=w:=by
 have m:=Ab (Ry (U f (Z l) cap) l 0 x base w h q (ik _) i);have r:=Ab i;have s:=Ab h;clear h i;go_enter func201,ntmps201;go_wp2_with fail
 refine m.mono ?_;rintro e j ⟨b,rfl,c,rfl⟩;have o:=Ab (c.inI r);have u:=c.le;clear m c;by_cases a:b<Z l
 .obtain⟨g,t,n,v,k⟩:=AF s (by simp[AP]) b a;simp only[gM]at n;obtain⟨rfl,_,rfl⟩:=n;have p:=k b a 0 (by omega);simp[AP]at p;clear k;have d:Hid (JY l x=e9 l[b] x):=by show _=_;rw[<-Aa o];unfold Ew;rw[dif_pos a]
  go_wp2;go_ret;rw[d.out];exact⟨rfl,rfl⟩
 .have d:Hid (JY l x=K):=by show _=_;rw[<-Aa o];unfold Ew;rw[dif_neg a]
  go_wp2;go_ret;rw[d.out];exact⟨rfl,rfl⟩
def Tm(base:Nat)(lv:lN)(l:mc Int)(x:Int)(w:l9)(e:Ending)(w':l9):Prop:=
 ∃(l':mc Int) (ad':Option Addr) (cp':Nat),e=lo (U ad' (Z l') cp')/\CE NT l'/\(∀y,y∈l'↔y=x\/y∈l)/\Z l<=Z l'/\Z l'<=Z l+1/\
  lQ w' base 21 1 (U ad' (Z l') cp') (Z l') (l'.flatMap AP)/\Ac lv.ownBlock.toList w w'/\(∀k,(U ad' (Z l') cp').ownBlock=V k->lv.ownBlock=V k\/w.heap.size<=k)
theorem aB(c:Option Addr)(cap:Nat)(l:mc Int)(x:Int)(base:Nat)(w:l9)(A:lQ w base 21 1 (U c (Z l) cap) (Z l) (l.flatMap AP))(G:Z l<=1000000)(B:CE NT l)(A1:base<=w.heap.size):
  Calls prog 202 #[U c (Z l) cap,X lS x] w λe a=>Tm base (U c (Z l) cap) l x w e a:=by
 have L:=Ab (Ry (U c (Z l) cap) l 0 x base w A G (ik _) B);have u:=Ab B;have q:=Ab A;clear A B;go_enter func202,ntmps202;go_wp2_with fail
 refine L.mono ?_;rintro e a ⟨b,rfl,m,rfl⟩;have s:=Ab (m.has QS u);have p:=Ab m;have N:=m.le;clear L m;have f:Hid (Ew e9 l b x=K->Calls prog 220 #[U c (Z l) cap,X J b,U (V ⟨a.heap.size,0,Y⟩) 1 1] (a.alloc (j2 #[X lS x] 21)) λe r=>Tm base (U c (Z l) cap) l x a e r):=by
  intro P;have T:AH (a.alloc (j2 [X lS x].toArray 21)) a.heap.size [X lS x] 21:=mf a [X lS x] 21;refine(T6 c cap l b x base a.heap.size _ (gU q _) G N T (λe=>by have:=(q.lt _ e).2;omega) (by simp;omega)).mono ?_;rintro e r ⟨g,cp,rfl,R,t,ha⟩;have I:=Kw (x:=x) N;refine⟨Fr l b x,V ⟨g,0,Y⟩,cp,by rw[I],p.zL QS u P,λy=>Nu x y,by omega,by omega,by rw[I];exact R,((me _ a).alloc _).trans t,?_⟩;intro k F;simp only[lX,gT]at F;subst F;rcases ha with h|h
  .exact lx h
  .exact ly (by simp at h;omega)
 have n:Hid (Ew e9 l b x=j1->Tm base (U c (Z l) cap) l x a (lo (U c (Z l) cap)) a):=by
  intro W;have S:=s.1 W;exact⟨l,c,cap,rfl,u,λy=>⟨ly,λh=>by rcases h with rfl|h;exact S;exact h⟩,by omega,by omega,q,me _ _,λk t=>lx t⟩
 by_cases d:b<Z l
 .obtain⟨g,AT,M,hc,H⟩:=AF q (by simp[AP]) b d;simp only[gM]at M;obtain⟨rfl,_,rfl⟩:=M;have Q:=H b d 0 (by omega);simp[AP]at Q;clear H;have o:Hid (Ew e9 l b x=e9 l[b] x):=by show _=_;unfold Ew;rw[dif_pos d]
  have A0:=Ab d;cases hq:e9 l[b] x with
  |true=>
   have i:=Ab (n (by rw[o.out];exact hq));simp only[e9]at hq;clear o s p f n;go_wp2;go_ret;exact i
  |false=>
   have i:=Ab (f (by rw[o.out];exact hq));simp only[e9]at hq;clear o s p f n;(go_wp2_with fail);refine i.mono ?_;intro e r C;obtain⟨D,v,z,rfl,j⟩:=C;have E:=Ab j;clear j;go_wp2;go_ret;exact⟨D,v,z,rfl,E⟩
 .have i:=Ab (f (by unfold Ew;rw[dif_neg d]));clear s p f n;go_wp2_with fail
  refine i.mono ?_;intro e r C;obtain⟨D,v,z,rfl,j⟩:=C;have E:=Ab j;clear j;go_wp2;go_ret;exact⟨D,v,z,rfl,E⟩
def Rv(a:lN)(l:mc zA)(k:Nat)(x:zA)(base:Nat)(w:l9)(f:lQ w base 170 1 a (Z l) (l.flatMap Ah))(h:Z l<=1000000)(c:k<=Z l)(g:CE Fh l):
  Calls prog 149 #[a,X J k,O x] w λe d=>∃b:Nat,e=lo (X J b)/\C0 Fh l k x b/\d=w:=
 Ru (ly ⟨rfl,rfl⟩) a l k x base w f h c g
def T5(a:Option Addr)(cap:Nat)(l:mc zA)(i:Nat)(x:zA)(base b:Nat)(w:l9)(h:lQ w base 170 1 (U a (Z l) cap) (Z l) (l.flatMap Ah))(m:Z l<=1000000)(n:i<=Z l)(k:AH w b [O x] 170)(j:(U a (Z l) cap).ownBlock≠V b)(f:base<=w.heap.size):
  Calls prog 214 #[U a (Z l) cap,X J i,U (V ⟨b,0,Y⟩) 1 1] w λe c=>∃g d,e=lo (U (V ⟨g,0,Y⟩) (Z l+1) d)/\lQ c base 170 1 (U (V ⟨g,0,Y⟩) (Z l+1) d) (Z l+1) ((Fr l i x).flatMap Ah)/\Ac (U a (Z l) cap).ownBlock.toList w c/\((U a (Z l) cap).ownBlock=V g\/w.heap.size<=g):=by
 rw[Sy];exact LH (ly (ly ⟨rfl,rfl,rfl,rfl,rfl,rfl⟩)) a cap (Z l) (l.flatMap Ah) i (O x) base b w h (by rw[VY];simp) m n k (fI l) rfl j f
def MI(base:Nat)(lv:lN)(l:mc zA)(x:zA)(w:l9)(e:Ending)(w':l9):Prop:=
 ∃(l':mc zA) (ad':Option Addr) (cp':Nat),e=lo (U ad' (Z l') cp')/\CE Fh l'/\(∀y,y∈l'↔y=x\/y∈l)/\Z l<=Z l'/\Z l'<=Z l+1/\
  lQ w' base 170 1 (U ad' (Z l') cp') (Z l') (l'.flatMap Ah)/\Ac lv.ownBlock.toList w w'/\(∀k,(U ad' (Z l') cp').ownBlock=V k->lv.ownBlock=V k\/w.heap.size<=k)
theorem Vs(c:Option Addr)(cap:Nat)(l:mc zA)(x:zA)(base:Nat)(w:l9)(z:lQ w base 170 1 (U c (Z l) cap) (Z l) (l.flatMap Ah))(G:Z l<=1000000)(A:CE Fh l)(Bx:base<=w.heap.size):
  Calls prog 185 #[U c (Z l) cap,O x] w λe a=>MI base (U c (Z l) cap) l x w e a:=by
 have L:=Ab (Rv (U c (Z l) cap) l 0 x base w z G (ik _) A);have t:=Ab A;have n:=Ab z;clear z A;go_enter func185,ntmps185;go_wp2_with fail
 refine L.mono ?_;rintro e a ⟨b,rfl,j,rfl⟩;have E:=Ab (j.has FE t);have s:=Ab j;have N:=j.le;clear L j;have m:Hid (Ew eE l b x=K->Calls prog 214 #[U c (Z l) cap,X J b,U (V ⟨a.heap.size,0,Y⟩) 1 1] (a.alloc (j2 #[O x] 170)) λe d=>MI base (U c (Z l) cap) l x a e d):=by
  intro P;have W:AH (a.alloc (j2 [O x].toArray 170)) a.heap.size [O x] 170:=mf a [O x] 170;refine(T5 c cap l b x base a.heap.size _ (gU n _) G N W (λe=>by have:=(n.lt _ e).2;omega) (by simp;omega)).mono ?_;rintro e d ⟨g,cp,rfl,R,q,ha⟩;have I:=Kw (x:=x) N;refine⟨Fr l b x,V ⟨g,0,Y⟩,cp,by rw[I],s.zL FE t P,λy=>Nu x y,by omega,by omega,by rw[I];exact R,((me _ a).alloc _).trans q,?_⟩;intro k F;simp only[lX,gT]at F;subst F;rcases ha with h|h
  .exact lx h
  .exact ly (by simp at h;omega)
 have o:Hid (Ew eE l b x=j1->MI base (U c (Z l) cap) l x a (lo (U c (Z l) cap)) a):=by
  intro Ax;have T:=E.1 Ax;exact⟨l,c,cap,rfl,t,λy=>⟨ly,λh=>by rcases h with rfl|h;exact T;exact h⟩,by omega,by omega,n,me _ _,λk q=>lx q⟩
 by_cases i:b<Z l
 .obtain⟨g,A2,M,hc,H⟩:=AF n (by simp[Ah]) b i;simp only[gM]at M;obtain⟨rfl,_,rfl⟩:=M;have Q:=H b i 0 (by omega);simp[Ah]at Q;clear H;have p:Hid (Ew eE l b x=eE l[b] x):=by show _=_;unfold Ew;rw[dif_pos i]
  have A1:Hid ((l[b].toList==x.toList)=j1->MI base (U (V ⟨g,0,Y⟩) (Z l) cap) l x a (lo (U (V ⟨g,0,Y⟩) (Z l) cap)) a):=λr=>o (by rw[p.out];exact r)
  have AT:Hid ((l[b].toList==x.toList)=K->Calls prog 214 #[U (V ⟨g,0,Y⟩) (Z l) cap,X J b,U (V ⟨a.heap.size,0,Y⟩) 1 1] (a.alloc (j2 #[O x] 170)) λe d=>MI base (U (V ⟨g,0,Y⟩) (Z l) cap) l x a e d):=λr=>m (by rw[p.out];exact r)
  clear p E s m o;go_wp2_with fail
  .go_ret;exact A1 (by assumption)
  .refine(AT (by assumption)).mono ?_;intro e d B;obtain⟨C,u,v,rfl,f⟩:=B;have D:=Ab f;clear f;go_wp2;go_ret;exact⟨C,u,v,rfl,D⟩
 .have S:=Ab (m (by unfold Ew;rw[dif_neg i]));clear E s m o;go_wp2_with fail
  refine S.mono ?_;intro e d B;obtain⟨C,u,v,rfl,f⟩:=B;have D:=Ab f;clear f;go_wp2;go_ret;exact⟨C,u,v,rfl,D⟩
