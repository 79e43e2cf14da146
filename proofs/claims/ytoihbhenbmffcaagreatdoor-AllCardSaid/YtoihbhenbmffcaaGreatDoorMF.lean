import Derived.Test.YtoihbhenbmffcaaGreatDoorME
import Derived.Deep.OwnRows
import Derived.Shelf.Strings.BuilderK
import Derived.RangeFuncNested
import Derived.RangeFuncLeaves
import Derived.TacticsIn
import Derived.OrdersIn
import Derived.RangeFuncBound
set_option linter.all false
set_option maxHeartbeats 0
open List renaming length->Z,toArray->Za,replicate->kB,flatMap->qS,take->qT,foldl->qU
open Option renaming none->Y,some->V,toList->qV
open Go.Value renaming slice->U,int->X,string->O,pointer->jj,agg->ku,bool->kx,ownBlock->kE,ownBlock->qW
open Bool renaming false->K,true->T6
open Go.IntKind renaming i64->J,i32->kw
open Go.Obj renaming cells->Y6
open Go.Ending renaming returned->j1
open Or renaming inl->j2,inr->j3
open Go renaming World->jH,Value->jR,Calls->rE,undef->rH
open Go.RowKit renaming Hid->jV
open Go.World renaming cell?->jY,ownsRow->kt
open Prod renaming fst->kD
open Go.Proofs.Tryz renaming prog->rF
open ByteArray renaming empty->ky
open Go.Act renaming put->kF
namespace Go.Proofs.YtoihbhenbmffcaaGreatDoor
open Go.RowKit Go.Proofs.Tryz
section
variable{P:Program}{n i m k b:Nat}{w u:jH}{y x:kN jR}{T:TypeId}{z:jR}{a:Act}{Q:Exit->Act->jH->Prop}
theorem Tryz.zc:(Tryz.prog.info? 104).map (λi=>(i.zero,i.size,i.bytes))=V (V (ku #[O ⟨#[]⟩,U Y 0 0]),2,40):=lo
def Gy(w k p u d f b o e l a g t)(c:kN jR)(s:P.underlying k=V (.slice d))(h:(P.info? d).map (·.size)=V f)(y:Z c=Nat.min g e*f)(A:∀j v,c[j]?=V v->jY w (a.add j)=V v)(z:∀j,j<Z c->(jY w ⟨b,o+j,Y⟩).isSome=T6)(q:∀j,j<Z c->w.frozen? ⟨b,o+j,Y⟩=K)(n:∀v∈c,v.oneCell'=T6):
  (Builtin.copy_ #[k,p] u #[U (V ⟨b,o,Y⟩) e l,U (V a) g t]).run P w=.ok (goInt (Nat.min g e)) (w.setCells b o c):=by
 have r:=run_loadCells_list (P:=P) w a c A;have m:=run_storeCells_cells (P:=P) b o c 0 w lc lc n;cases hq:P.info? d with
 |none=>simp[hq]at h
 |some i=>
  have x:i.size=f:=by simpa[hq] using h
  simp[Builtin.copy_,qh s,Builtin.lenOf,Builtin.firstCells,sizeOf,typeInfo,hq,x,<-y,r,m]
set_option maxRecDepth 100000
theorem ZL(g n c i d)(b r l:kN jR)(w)(hi:i<n)(A1:n+1<=c)(A0:c<=9223372036854775807)(C:d≠g)(P:Z b=n*2)(s:Z l=2)(o:AF w g r 104)(F:Z r=c*2)(B:qT (n*2) r=b)(q:AF w d l 104)(AB:∀v∈b,v.oneCell'=T6)(W:∀v∈l,v.oneCell'=T6):rE rF 105 #[U (V ⟨g,0,Y⟩) n c,X J i,U (V ⟨d,0,Y⟩) 1 1] w λe S=>
   e=j1 (U (V ⟨g,0,Y⟩) (n+1) c)/\S=(w.drew.setCells g ((i+1)*2) (b.drop (i*2))).setCells g (i*2) l:=by
 obtain⟨i0,R,AT,L,CL⟩:=mW Tryz.zc;have E:(rF.info? 104).map (·.size)=V 2:=by rw[R];simp[L]
 have AR:∀w,(Go.sizeOf 104).run rF w=.ok 2 w:=λw=>by simp[sizeOf,typeInfo,R,L]
 have N:∀j,j<(n+1)*2->(jY w ⟨g,j,Y⟩).isSome=T6:=λj a=>o.some j lc
 have Q:∀j,w.frozen? ⟨g,j,Y⟩=K:=λj=>o.qI j
 have G:∀j v,b[j]?=V v->jY w ⟨g,j,Y⟩=V v:=λj v a=>by
  rw[o.D];rw[<-B,nV]at a;split at a
  .exact a
  .cases a
 have Ax:∀x u,(callFunc 152 #[U (V ⟨d,0,Y⟩) 1 1,U (V ⟨g,(i+1)*2,Y⟩) x u]).run rF w=.ok (.value (kx K)) w:=λx u=>by
  rw[pV func152 lo lo lo (e:=Extern.SlicesOverlaps.overlaps #[113,113] #[4]) lo,
   Lib.run_overlaps_apart w 113 4 104 underlying113 2 AR ⟨d,0,Y⟩ ⟨g,(i+1)*2,Y⟩ 1 1 x u C 104 104 2 (c*2) (by rw[<-s];exact q.shape) (by rw[<-F];exact o.shape) lc (q.qI 0) (q.qI 2)]
  rfl
 have H:Z (b.drop (i*2))=(n-i)*2:=by rw[mX,P];omega
 have I:Nat.min (n+1-i) (n-i)=n-i:=by simp only[qe];split<;>omega
 have A:∀m f y,(Builtin.copy_ #[113,113] m #[U (V ⟨g,(i+1)*2,Y⟩) (n-i) f,U (V ⟨g,i*2,Y⟩) (n+1-i) y]).run rF w.drew=.ok (goInt ((n-i:Nat):Int)) (w.drew.setCells g ((i+1)*2) (b.drop (i*2))):=λm f y=>by
  have h:=Gy w.drew 113 113 m 104 2 g ((i+1)*2) (n-i) f ⟨g,i*2,Y⟩ (n+1-i) y (b.drop (i*2)) underlying113 E (by rw[H,I])
   (λj v a=>by rw[oN];exact G (i*2+j) v (by rwa [pB]at a))
   (λj a=>N _ lc) (λj a=>Q _) (λv hv=>AB v (oR hv))
  rw[I]at h;exact h
 obtain⟨k,p⟩:∃k,k=w.drew.setCells g ((i+1)*2) (b.drop (i*2)):=⟨_,rfl⟩;have t:AF k g (NZ r ((i+1)*2) (b.drop (i*2))) 104:=by rw[p];exact o.drew.setCells _ _
 have z:AF k d l 104:=by rw[p];exact q.drew.C (Ac.setCells (M:=[g]) ln _ _ (kR _ _)) (by simpa using C)
 have D:Nat.min 1 (n+1-i)=1:=by simp only[qe];split<;>omega
 have T:∀m f,(Builtin.copy_ #[113,113] m #[U (V ⟨g,i*2,Y⟩) (n+1-i) f,U (V ⟨d,0,Y⟩) 1 1]).run rF k=.ok (goInt 1) (k.setCells g (i*2) l):=λm f=>by
  have h:=Gy k 113 113 m 104 2 g (i*2) (n+1-i) f ⟨d,0,Y⟩ 1 1 l underlying113 E (by rw[D,s])
   (λj v a=>by rw[oN,m7,z.D];exact a)
   (λj a=>t.some _ (by rw[DU];omega)) (λj a=>t.qI _) W
  rw[D]at h;exact h
 rw[<-p]at A;have BT:IntKind.i64.wrap ((i:Int)+1)=(i:Int)+1:=by rw[oT];omega
 have Bx:¬((i:Int)=(n:Int)):=lc
 have CC:(0:Int)<=(i:Int)+1:=lc
 have BS:i<=n:=lc
 have A2:((i:Int)+1).toNat=i+1:=lc
 have B0:¬(c=i+1):=lc
 have CW:(i:Int)<=(n:Int)+1:=lc
 have B9:¬(c=i):=lc
 have mixed:rF.follows Departure.mixedOrders=T6:=lo
 have AH:=Ab p;clear o q t z G N Q p H P F B s;go_enter func105,ntmps105;go_wp2_with (simp only[Ax])
 go_region_law_o (refine step_copy_runI rfl _ _ 113 113 rfl _ _ sk sk (A _ _ _) ?_)
 go_wp2_with (at_builtin;refine wpList_copy_runI _ rfl _ _ 113 113 rfl _ _ rfl rfl (T _ _) ?_)
 go_ret;exact⟨rfl,by rw[Aa AH]⟩
theorem cE(g n c i o)(f t d:kN jR)(w)(hi:i<n)(Go:n<=c)(DT:c<n+1)(HC:n<=1000000)(A1:Z f=n*2)(I:Z d=2)(y:AF w g t 104)(E0:Z t=c*2)(A:qT (n*2) t=f)(H:AF w o d 104)(EY:∀v∈f,v.oneCell'=T6)(CW:∀v∈d,v.oneCell'=T6):rE rF 105 #[U (V ⟨g,0,Y⟩) n c,X J i,U (V ⟨o,0,Y⟩) 1 1] w λe w'=>
   ∃(a:kN jR) (G:Nat),Z a=G*2/\n+1<=G/\G<=maxLen/\qT (i*2) a=qT (i*2) f/\e=j1 (U (V ⟨w.heap.size,0,Y⟩) (n+1) G)/\
   w'=(((w.alloc (Y6 (Za a) 104)).drew.setCells w.heap.size (i*2) d).drew).setCells w.heap.size ((i+1)*2) (f.drop (i*2)):=by
 obtain⟨i0,BS,B9,AR,A2⟩:=mW Tryz.zc;have mixed:rF.follows Departure.mixedOrders=T6:=lo
 have T:(rF.info? 104).map (·.size)=V 2:=by rw[BS];simp[AR]
 have FL:=y.lt;have FF:=H.lt;have P:n+1-i=((n+1-i:Nat):Int):=lc
 have D:i+(n+1-i)=n+1:=lc
 have AH:∀j v,f[j]?=V v->jY w _=V v:=λj v b=>by
  rw[y.D];rw[<-A,nV]at b;split at b
  .exact b
  .cases b
 have R:(Builtin.firstCells i0.size i (U (V ⟨g,0,Y⟩) i c)).run rF w.drew=.ok (Za (qT (i*2) f)) w.drew:=by
  rw[AR];exact run_firstCells_some _ 2 i _ i c _ (by rw[mT];omega) (λj v b=>by
   rw[oN,m7]
   rw[nV]at b
   split at b
   .exact AH j v b
   .cases b)
 obtain⟨m,C⟩:∃m:Array jR,(ku #[O ⟨#[]⟩,U Y 0 0]).cells=m:=⟨_,rfl⟩;have AT:m.size=2:=by rw[<-C];rfl
 have s:∀k,(Builtin.append_ _ k #[U _ i c,X J (n+1-i)]).run rF w=
   .ok _ _:=λk=>by
  have h:=Lib.run_append_grow_zeros w 113 3 k 104 i0 _ J J underlying113 underlying3 BS B9 _ i c _ R (n+1-i) lc lc lc lc (by rw[A2];omega) (by rw[A2,D];exact growslice_fits DT lc);rw[D,C]at h;rw[P];exact h
 obtain⟨G,u⟩:∃G,G=grownCap w (n+1) c 104:=⟨_,rfl⟩;obtain⟨a,r⟩:∃a:kN jR,Za a=Za (qT (i*2) f)++Builtin.zeroCells m (n+1-i)++Builtin.zeroCells m (G-(n+1)):=⟨_,Array.toArray_toList⟩;rw[<-u]at s;rw[<-r]at s;have FA:n+1<=G:=by rw[u];exact grownCap_ge w _ _ _
 have B:G<=maxLen:=by rw[u];exact grownCap_le_maxLen w (n+1) c 104 lw
 have BT:Z a=G*2:=by
  have:=rk Array.size r;simp[Builtin.zeroCells,AT]at this;omega
 have AB:qT (i*2) a=qT (i*2) f:=by
  have h:=rk Array.toList r;simp at h;rw[h,m8 li];simp[pi]
 obtain⟨N,hN⟩:=kQ w.heap.size;have q:AF (w.drew.alloc (Y6 (Za a) 104)) N a 104:=by rw[<-hN];exact kS _ a 104
 have Q:AF (w.drew.alloc (Y6 (Za a) 104)) o d 104:=H.drew.alloc _;have S:Nat.min 1 (n+1-i)=1:=by simp only[qe];split<;>omega
 have EM:∀(W:jH),(∀x,jY W x=jY _ x)->(∀x,W.frozen? x=(w.drew.alloc _).frozen? x)->∀k l,(Builtin.copy_ _ k _).run rF W=.ok (goInt 1) _:=λW p E k l=>by
  have h:=Gy W 113 113 k 104 2 N (i*2) _ l _ 1 1 d underlying113 T (by rw[S,I])
   (λj v b=>by rw[oN,m7,p,Q.D];exact b)
   (λj b=>by rw[p];exact q.some _ lc) (λj b=>by rw[E];exact q.qI _) CW
  rw[S]at h;exact h
 have z:AF _ N (NZ a (i*2) d) 104:=q.setCells _ _;have L:AF ((w.drew.alloc (Y6 (Za a) 104)).setCells N (i*2) d) g t 104:=(y.drew.alloc _).C (Ac.setCells (M:=[N]) ln _ _ (kR _ _)) li;have AO:Z (f.drop (i*2))=(n-i)*2:=by rw[mX,A1];omega
 have A0:Nat.min (n-i) (n-i)=n-i:=Nat.min_self _;have Bx:∀(W:jH),(∀x,jY W x=jY _ x)->(∀x,W.frozen? x=((w.drew.alloc _).setCells N (i*2) d).frozen? x)->∀k l F,(Builtin.copy_ _ k _).run rF W=.ok _ _:=λW p E k l F=>by
  have h:=Gy W 113 113 k 104 2 N ((i+1)*2) (n-i) l _ (n-i) F _ underlying113 T (by rw[AO,A0])
   (λj v b=>by
    rw[oN,p,L.D]
    rw[pB,<-A,nV]at b
    split at b
    .exact b
    .cases b)
   (λj b=>by rw[p];exact z.some _ (by rw[DU];omega))
   (λj b=>by rw[E];exact z.qI _) (λv hv=>EY v (oR hv))
  rw[A0]at h;exact h
 have CL:∀x,jY ((w.alloc _).drew) x=jY (w.drew.alloc (Y6 (Za a) 104)) x:=λx=>rfl
 have FB:∀x,((w.alloc _).drew).frozen? x=(w.drew.alloc (Y6 (Za a) 104)).frozen? x:=λx=>rfl
 have EX:∀x,jY (((w.alloc _).drew.setCells N (i*2) d).drew) x=jY ((w.drew.alloc (Y6 (Za a) 104)).setCells N (i*2) d) x:=λx=>rfl
 have EK:∀x,(((w.alloc _).drew.setCells N (i*2) d).drew).frozen? x=((w.drew.alloc (Y6 (Za a) 104)).setCells N (i*2) d).frozen? x:=λx=>rfl
 have HA:IntKind.i64.wrap (i+1)=i+1:=by rw[oT];omega
 have FT:¬((i:Int)=n):=lc
 have HE:(c:Int)<n+1:=lc
 have HG:(0:Int)<=i+1:=lc
 have FW:i<=n:=lc
 have FO:((i:Int)+1).toNat=i+1:=lc
 have HH:(i:Int)<=n:=lc
 have HF:¬(G=i):=lc
 have FP:¬(G=i+1):=lc
 have HB:¬(c=i):=lc
 have Ha:G<=9223372036854775807:=by unfold maxLen at B;omega
 have B0:=Ab BT;have CC:=Ab AB;have ES:=Ab B;rw[hN]at s|-;clear P D R r u BT AB B y H q Q z L AH AO A1 E0 A I AT C;go_enter func105,ntmps105;go_wp2_with (first
  |(at_builtin;refine Lib.wpList_append_run _ rfl _ _ _ _ rfl _ _ rfl rfl _ _ (s _) ?_)
  |(at_builtin;refine wpList_copy_runI _ rfl _ _ 113 113 rfl _ _ rfl rfl (EM _ CL FB _ _) ?_)
  |(at_builtin;refine wpList_copy_runI _ rfl _ _ 113 113 rfl _ _ rfl rfl (Bx _ (λ_=>rfl) (λ_=>rfl) _ _ _) ?_))
 go_region_law_o (refine step_copy_runI rfl _ _ 113 113 rfl (U (V ⟨N,(i+1)*2,Y⟩) (n-i) (G-(i+1))) (U (V ⟨g,i*2,Y⟩) (n-i) (c-i)) sk sk (Bx _ EX EK 3 (G-(i+1)) (c-i)) ?_)
 go_wp2;go_ret;exact⟨a,G,B0,FA,ES,CC,rfl,rfl⟩
def Jv{α:Type}(f:α->kN jR)(a):∀(l:kN α) (i),(∀x∈l,Z (f x)=a)->i<=Z l->qS f (qT i l)=qT (i*a) (qS f l)/\qS f (l.drop i)=(qS f l).drop (i*a)
 |l,0,_,_=>ln
 |[],i+1,_,h=>pp
 |x::l,i+1,hl,h=>by
  have ih:=Jv f a l i (λy b=>hl y (mP _ b)) sE;have c:=hl x (m9 ..);simp only[oL,oW,mB,ih.1,ih.2];have e:(i+1)*a=Z (f x)+i*a:=by rw[c,oD];omega
  rw[e];exact⟨by rw[List.take_length_add_append],ln⟩
def eP{b a c:kN jR}(q:qT (n*m) b=a)(k:Z a=n*m)(e:Z c=m)(p:i<=n)(o:(n+1)*m<=Z b):
  qT ((n+1)*m) (NZ (NZ b ((i+1)*m) (a.drop (i*m))) (i*m) c)=qT (i*m) a++c++a.drop (i*m):=by
 have g:(i+1)*m=i*m+m:=by rw[oD];omega
 have f:(n+1)*m=n*m+m:=by rw[oD];omega
 have l:i*m<=n*m:=m5 _ p;rw[f]at o;rw[g,f];generalize i*m=I at*;generalize n*m=M at*;have d:Z (a.drop I)=M-I:=by rw[mX,k]
 rw[Hb c _ I (by rw[DU];omega),Hb _ b (I+m) li];have h:qT I (qT (I+m) b++a.drop I++b.drop (I+m+Z (a.drop I)))=qT I a:=by
  rw[mY,m8 li,pi,oP lc,<-q,pi,oP l]
 have j:(qT (I+m) b++a.drop I++b.drop (I+m+Z (a.drop I))).drop (I+Z c)=a.drop I++b.drop (I+m+Z (a.drop I)):=by
  rw[e,mY,List.drop_append_of_le_length li,List.drop_of_length_le li,nk]
 rw[h,j,<-mY,m8 li,lY li]
def Z2(p):Z (AJ p)=2:=rfl
def dh(a:kN D5)(i x)(b:i<=Z a):qS AJ (qT i a++x::a.drop i)=qT (i*2) (qS AJ a)++AJ x++(qS AJ a).drop (i*2):=by
 have h:=Jv AJ 2 a i (λp _=>Z2 p) b;rw[mD,mB,h.1,h.2,mY]
def dk(a:kN D5):Z (qS AJ a)=Z a*2:=by
 induction a with
 |nil=>rfl
 |cons p a ih=>simp only[mB,mp,ih,Z2,mn];omega
theorem Wd(q f)(b:kN D5)(i x t n w)(p:kt w t 104 2 (U q (Z b) f) (Z b) (qS AJ b))(EY:Z b<=1000000)(hi:i<=Z b)(C:AF w n (AJ x) 104)(BT:(U q (Z b) f).ownBlock≠V n)(H:t<=w.heap.size)(v:∀u∈qS AJ b,u.oneCell'=T6)(N:∀u∈AJ x,u.oneCell'=T6):rE rF 105 #[U q (Z b) f,X J i,U (V ⟨n,0,Y⟩) 1 1] w λe y=>∃g cp,e=j1 (U (V ⟨g,0,Y⟩) (Z b+1) cp)/\kt y t 104 2 (U (V ⟨g,0,Y⟩) (Z b+1) cp) (Z b+1) (qS AJ (qT i b++x::b.drop i))/\Ac (qV (qW (U q (Z b) f))) w y/\((U q (Z b) f).ownBlock=V g\/w.heap.size<=g):=by
 have m:=dk b;have l:=Z2 x;rw[dh b i x hi];by_cases E0:i=Z b
 .subst E0;obtain⟨i0,Bx,T,Ax,AH⟩:=mW Tryz.zc;have r:jV (qT (Z b*2) (qS AJ b)++AJ x++(qS AJ b).drop (Z b*2)=qS AJ b++AJ x):=by
   show _=_;rw[lY lc,mN lc,mQ]
  have B:jV (∀j u,(AJ x)[j]?=V u->jY w ((⟨n,0,Y⟩:Addr).add j)=V u):=λj u hu=>by rw[oN,m7,C.D];exact hu
  have Q:=Ab p;have D:=Ab N;clear C v;cases q with
  |none=>
   have A1:Z b=0:=by
    rcases p.2 with⟨d,s⟩|⟨g,c,o,d,_⟩
    .exact s
    .simp at d
   have B2:f=0:=by
    rcases p.2 with⟨d,s⟩|⟨g,c,o,d,_⟩
    .exact qr
    .simp at d
   subst B2;have B9:b=[]:=nZ.1 A1;subst B9;clear p A1;simp only[mI,np]at Q r|-;generalize AJ x=xs at B D r l|-;go_enter func105,ntmps105;go_wp2_with (at_builtin;refine mE _ rfl _ _ _ rfl t 104 i0 _ 2 40 underlying113 Bx T Ax AH rfl lc (U Y 0 0) 0 [] rfl Q ⟨n,0,Y⟩ 1 1 xs rfl lc B D lc lw lc H _ rfl ?_;intro M I w9 z L E FP)
   go_ret;rw[Aa r];refine⟨M,I,rfl,z,(kR _ w).grown L (λk F=>j2 li),?_⟩;rcases E with h|h
   .exact j2 h
   .exact j3 lc
  |some a=>
   obtain⟨ab,ao,FC⟩:=a;have EM:ao=0/\FC=Y:=by
    rcases p.2 with⟨d,s⟩|⟨g,c,o,d,_⟩
    .simp at d
    exact qr
   obtain⟨rfl,rfl⟩:=EM;have ES:Z b<=f/\f<=maxLen:=by
    rcases p.2 with⟨d,s⟩|⟨g,c,o,d,_,_,v,h2,_⟩
    .simp at d
    exact qr
   obtain⟨BA,A⟩:=ES;unfold maxLen at A;clear p;generalize AJ x=xs at B D r l|-;go_enter func105,ntmps105;go_wp2_with (at_builtin;refine mE _ rfl _ _ _ rfl t 104 i0 _ 2 40 underlying113 Bx T Ax AH rfl lc (U (V ⟨ab,0,Y⟩) (Z b) f) (Z b) (qS AJ b) rfl Q ⟨n,0,Y⟩ 1 1 xs rfl lc B D lc lw lc H _ rfl ?_;intro M I w9 z L E FP)
   all_goals
    go_ret;refine⟨M,I,rfl,qw,(kR _ w).grown L (λk F=>j2 (by rw[n7];exact F)),?_⟩;rcases E with h|h
    .exact j2 h
    exact lc
 .have AR:i<Z b:=by omega
  rcases p.2 with⟨d,s⟩|⟨g,c,o,d,hb,FW,BA,A,FF,CL⟩
  .omega
  .obtain⟨rfl,_,rfl⟩:=qX d;(have CW:n≠g:=λe=>BT (by simp[kE,e]));(have S:AF w g o.toList 104:=oa);(have AO:Z o.toList=f*2:=lc);have R:=CL;by_cases W:Z b+1<=f
   .refine(ZL g (Z b) f i n _ _ _ w AR W oa CW m l S AO R C v N).G ?_;rintro e y ⟨rfl,rfl⟩;have P:=(S.drew.setCells ((qS AJ b).drop (i*2)) ((i+1)*2)).setCells (AJ x) (i*2);refine⟨g,f,rfl,⟨?_,j3 ⟨g,f,_,rfl,hb,P,W,A,?_,?_⟩⟩,?_,j2 rfl⟩
    .exact qy
    .simp only[nu,DU];omega
    .exact eP R m l hi lc
    .exact Ac.setCells sw _ _ (Ac.setCells sw _ _ (kR _ w).drew)
   .refine(cE g (Z b) f i n _ _ _ w AR BA lc EY m l S AO R C v N).G ?_;rintro e y ⟨A0,G,Go,FL,B0,FA,rfl,rfl⟩;have P:=((kS w A0 104).drew.setCells (AJ x) (i*2)).drew.setCells ((qS AJ b).drop (i*2)) ((i+1)*2);(have hd:Z ((qS AJ b).drop (i*2))=(Z b-i)*2:=by rw[mX,m];omega);refine⟨_,G,rfl,⟨?_,j3 ⟨_,G,_,rfl,H,P,FL,B0,?_,?_⟩⟩,?_,j3 (mt _)⟩
    .simp only[mp,mT,mX,m,l];omega
    .simp only[nu,DU];omega
    .rw[Hb _ _ _ (by rw[DU,hd];omega),Hb _ _ _ (by rw[l];omega),FA];have e1:qT ((i+1)*2) (List.take (i*2) (qS AJ b)++AJ x++List.drop (i*2+Z (AJ x)) A0)=List.take (i*2) (qS AJ b)++AJ x:=by
      rw[m8 (by simp only[mp,mT,m,l];omega),lY (by simp only[mp,mT,m,l];omega)]
     rw[e1,m8 (by simp only[mp,mT,mX,m,l];omega),lY (by simp only[mp,mT,mX,m,l];omega)]
    .exact Ac.setCells (j3 (mt _)) _ _ (Ac.setCells (j3 (mt _)) _ _ ((kR _ w).alloc _).drew).drew
def Be{i o h e p m r s:Nat}{v1 f}(n:kt w i h p v1 r y)(k:kt w o e m f s x)(j:h≠e)(q)(a:v1.ownBlock=V q):f.ownBlock≠V q:=λd=>by
 rcases n.2 with⟨rfl,_⟩|⟨g,c,u,rfl,_,l,_⟩
 .simp[kE]at a
 .rcases k.2 with⟨rfl,_⟩|⟨t,v,z,rfl,_,b,_⟩
  .simp[kE]at d
  .simp only[kE,lZ]at a d;exact qr
def Ap{v1}(f:kt w n m k v1 i y)(a:AF w b x T)(e:m≠T):v1.ownBlock≠V b:=λd=>by
 rcases f.2 with⟨rfl,_⟩|⟨g,c,j,rfl,_,h,_⟩
 .simp[kE]at d
 .simp only[kE,lZ]at d;unfold AF at a;exact qr
def ZQ{p}(h:C6 w p):∀u∈AJ p,u.oneCell'=T6:=by
 obtain⟨c,b,e⟩:=Aj h;intro u a;simp only[AJ,l9,nr,or_false]at a;rcases a with rfl|rfl
 .rfl
 .rw[e];rfl
def Ic.one{a}(h:Ic w z a):∀u∈qS AJ a,u.oneCell'=T6:=λu c=>by
 obtain⟨p,b,d⟩:=mH.1 c;exact ZQ (h.j p b).1 u d
def Ll(fs:kN D5)(x:D5)(p:Nat):kN D5:=if Dg fs x.f p then fs else qT p fs++x::fs.drop p
structure Vt(sb so:Nat)(cells:kN jR)(ty:TypeId)(sv:jR)(fs:kN D5)(x:D5)(w w':jH):Prop where
 o:∃(p:Nat) (ad:rB) (cp:Nat),EW fs x.f p/\AF w' sb (cells.set so (U ad (Z (Ll fs x p)) cp)) ty/\Ic w' (U ad (Z (Ll fs x p)) cp) (Ll fs x p)/\∀q,(U ad (Z (Ll fs x p)) cp).ownBlock=V q->sv.ownBlock=V q\/w.heap.size<=q
 C:Ac (sb::qV (qW sv)) w w'
theorem OB(k b E H d c)(a:kN D5)(x w)(T:AF w k E H)(AB:E[b]?=V (U d (Z a) c))(B9:104≠H)(HJ:170≠H)(h:Ic w (U d (Z a) c) a)(P:C6 w x)(AR:Z x.f.dN<=1000)(HS:Z a<=900000)(FO:∀i j (hi:i<Z a) (hj:j<Z a),i<=j->CT a[j].f x.f<0->CT a[i].f x.f<0):rE rF 61 #[jj (V ⟨k,b,Y⟩),ku (Za (AJ x))] w λe r=>e=j1 (.tuple #[])/\Vt k b E H (U d (Z a) c) a x w r:=by
 have H4:=T.lt;have AH:jV (∀wr,Ac [] w wr->rE rF 103 #[U d (Z a) c,ku (Za (AJ x)),.func (.func 104) #[] #[]] wr λe r=>∃p:Nat,e=j1 (.tuple #[X J p,kx (Dg a x.f p)])/\EW a x.f p/\Ac [] wr r):=λwr hk=>IX d c a x wr (h.C hk) (P.C hk) AR lc FO
 have HB:=Ab T;have HP:=Ab h;have HX:=Ab P;have HO:=Ab AR;obtain⟨m,o,E0⟩:=Aj P;obtain⟨t,H6,Q⟩:∃n v,AJ x=[O n,v]/\v=U m (Z x.f.dN) o:=⟨_,_,rfl,E0⟩;obtain⟨Q,rfl⟩:=Q;have B0:=Ab Q;generalize Z x.f.dN=xl at B0;rw[Aa B0]at AH|-;clear Q E0;have hK:=(kR [] w).alloc (Y6 #[O t,U m xl o] 104);have c0:=(T.alloc (Y6 #[O t,U m xl o] 104)).D b;rw[AB]at c0;have FC:=Ab AB;have HC:jV (E.set b (U d (Z a) c)=E):=by
  show _=_;obtain⟨HV,e⟩:=oI.1 AB;rw[<-e,List.set_getElem_self]
 clear AB;have F:=kS w [O t,U m xl o] 104;have S:=Ab hK;clear h P AR FO hK T;go_enter func61,ntmps61;go_wp2_with fail
 change Code.wp _ _ _ _ (w.alloc (Y6 #[O t,U m xl o] 104));generalize w.alloc (Y6 #[O t,U m xl o] 104)=w1 at S c0 F|-;obtain⟨N,BS⟩:=kQ w.heap.size;rw[BS]at F|-;have H5:=Ab BS;clear BS;obtain⟨x0,x1⟩:=F.c2;simp at x0 x1;have HN:=Ab F;have DT:=Ab (AH w1.drew S.drew);clear AH F
 go_region_law (go_simp;go_at_call 103;refine DT.G ?_;rintro e l ⟨p,rfl,hcut,k3⟩;have D:=Ab hcut;have B:=Ab (S.drew.H k3);have R:=Ab (HN.drew.C k3);clear hcut k3)
 all_goals
  clear DT c0 x0 x1;have u:=Ab (HP.C B);have I:=Ab (HB.C B);have EY:=Ab (HX.C B);obtain⟨HT,A1⟩:=kQ (Dg a x.f p);have A0:=Ab A1;rw[A1];clear A1;have H3:=B.size;cases HT with
  |true=>
   (have y:jV (Ll a x p=a):=by show _=_;unfold Ll;rw[Aa A0,mo rfl]);go_wp2;go_end0;refine⟨rfl,⟨p,d,c,D,?_,?_,?_⟩,B.G ln⟩
   .rw[Aa y,Aa HC];exact I
   .rw[Aa y];exact u
   .rw[Aa y];exact λq C=>j2 C
  |false=>
   (have y:jV (Ll a x p=qT p a++x::a.drop p):=by show _=_;unfold Ll;rw[Aa A0,mm ln]);have G:jV (Z (qT p a++x::a.drop p)=Z a+1):=by
    show _=_;have:=D.le;simp only[mp,mT,mn,mX];omega
   have FW:jV (∀A,(A=(l.drew).alloc (Y6 #[O t,U m xl o] 104)\/A=(l.alloc (Y6 #[O t,U m xl o] 104)).drew)->rE rF 105 #[U d (Z a) c,X J p,U (V ⟨l.heap.size,0,Y⟩) 1 1] A λe r=>∃g z,e=j1 (U (V ⟨g,0,Y⟩) (Z a+1) z)/\jY r ⟨k,b,Y⟩=V (U d (Z a) c)/\r.frozen? ⟨k,b,Y⟩=K/\Vt k b E H (U d (Z a) c) a x w (r.setCell ⟨k,b,Y⟩ (U (V ⟨g,0,Y⟩) (Z a+1) z))):=by
    intro A EM;have L:Ac [] l A:=by
     rcases EM with rfl|rfl
     .exact(kR [] l).drew.alloc _
     .exact((kR [] l).alloc _).drew
    have HR:AF A l.heap.size (AJ x) 104:=by
     rw[Aa B0];rcases EM with rfl|rfl
     .exact kS l.drew [O t,U m xl o] 104
     .exact(kS l [O t,U m xl o] 104).drew
    have W:=u.C L;(have Ha:(U d (Z a) c).ownBlock≠V l.heap.size:=λe=>by have:=(u.row.lt _ e).2;omega);refine(Wd d c a p x 0 l.heap.size A W.row lc D.le HR Ha (mr _) W.one (ZQ HX)).G ?_;rintro e r ⟨g,z,rfl,FF,AO,hg⟩;have CW:=I.C L;(have HQ:k∉(qV (qW (U d (Z a) c))):=λhm=>Ap W.row CW B9 sC);have M:=CW.C AO HQ;have EX:=M.D b;rw[Aa FC]at EX;have HD:Ac (k::qV (qW (U d (Z a) c))) w r:=((B.H L).G ln).H (AO.G (λi hi=>mP _ hi));have HG:(U (V ⟨g,0,Y⟩) (Z a+1) z).ownBlock≠V k:=Ap FF M B9;have HH:=Ah FF (p:=⟨k,b,Y⟩) HG (U (V ⟨g,0,Y⟩) (Z a+1) z);refine⟨g,z,rfl,EX,M.qI b,⟨p,V ⟨g,0,Y⟩,z,D,?_,?_,?_⟩,HD.setCell (p:=⟨k,b,Y⟩) (j2 (m9 ..)) _⟩
    .rw[Aa y,Aa G];exact M.set b _
    .rw[Aa y,Aa G];refine⟨by rw[Aa G];exact HH,λq C=>?_⟩;have ES:C6 l q/\Z q.f.dN<=1000:=by
      rcases mi.1 C with s|s
      .exact⟨(u.j q (ny s)).1,(u.j q (ny s)).2⟩
      .rcases l9.1 s with rfl|s
       .exact⟨EY,HO⟩
       .exact⟨(u.j q (oR s)).1,(u.j q (oR s)).2⟩
     have B2:=ES.1.C L;have FB:kt r 0 170 1 q.tv (Z q.f.dN) (qS Ai q.f.dN):=Ag B2 AO (λi hi hm=>Be B2 W.row lu i hi sC);exact⟨Ah FB (p:=⟨k,b,Y⟩) (Ap FB M HJ) _,ES.2⟩
    .rw[Aa y,Aa G];intro q C;simp only[kE,lZ]at C;rcases hg with s|s
     .exact j2 (by rw[<-C];exact s)
     .exact j3 (by have:=L.size;omega)
   have y0:=I.D b;rw[Aa FC]at y0;obtain⟨z0,z1⟩:=R.c2;simp at z0 z1;have H2:=D.le;have HY:=R.lt;have HZ:k<l.heap.size:=I.lt;clear HP HB HX S HN u I EY D y G A0 R;go_wp2_with fail
   go_region_law (go_simp;go_at_call 105;refine(FW _ (by first|exact j2 rfl|exact j3 rfl)).G ?_;rintro e w4 ⟨g,z,rfl,H1,HW,CC⟩;have HF:=Ab CC;clear CC)
   all_goals
    clear FW;go_wp2;go_end0;exact⟨rfl,HF⟩
def UH(z n):(madeCells #[z] n).toList=kB n z:=by
 apply List.ext_getElem
 .simp[madeCells]
 .intro i a b;simp[madeCells];rw[Nat.mod_one];rfl
def FK(b:kN bN)(ts:kN AY)(k:Nat):kN jR:=((qT k ts).map λt=>O (BP b t))++kB (Z ts-k) (O ⟨#[]⟩)
def Wy(b a):FK b a 0=kB (Z a) (O ⟨#[]⟩):=by simp[FK]
def Yx(b)(a:kN AY)(k)(h:k<=Z a):Z (FK b a k)=Z a:=by simp[FK];omega
def Zu(b a k h):(FK b a k).set k (O (BP b a[k]))=FK b a (k+1):=by
 unfold FK;rw[lW h,mO,show Z a-k=(Z a-(k+1))+1 by omega,List.replicate_succ];rw[qj _ _ li];simp;rw[oP lc,Nat.sub_self];rfl
def Zw(b a):FK b a (Z a)=qS Ai (a.map (BP b)):=by
 unfold FK;simp
 induction a with
 |nil=>rfl
 |cons t a ih=>simp[Ai,ih]
theorem O7(D ty:Nat)(b:kN bN)(l)(c:bN)(d j)(a:kN AY)(base w)(E:Z b=26)(hB:AF w D (Al b) ty)(hr:kt w base 215 2 (.slice d (Z a) j) (Z a) (qS Ar a))(HI:Z a<=100000)(hv:∀t∈a,Qq t):rE rF 196 #[jj (V ⟨D,0,Y⟩),ku #[X J l,O c,.slice d (Z a) j]] w λr C=>∃g,r=j1 (ku #[O c,.slice (V ⟨g,0,Y⟩) (Z a) (Z a)])/\kt C w.heap.size 170 1 (.slice (V ⟨g,0,Y⟩) (Z a) (Z a)) (Z a) (qS Ai (a.map (BP b)))/\Ac [] w C:=by
 obtain⟨i0,HB,DT,FA,FL⟩:=mW Tryz.zh;have HT:jV (∀t∈a,∀x,Ac [] w x->rE rF 180 _ x _):=λt ht x L=>Mg D ty b t x E (hB.C L) (hv t ht)
 have HA:=Ab hr;obtain⟨N,A⟩:=kQ w.heap.size;have m:jV (AF ((w.alloc (Y6 #[X J l,O c,.slice d (Z a) j] 187)).alloc (Y6 #[O ⟨#[]⟩,.slice Y 0 0] 104)) N [X J l,O c,.slice d (Z a) j] 187):=by rw[<-A];exact(kS w _ 187).alloc _
 have f:jV (AF ((w.alloc (Y6 #[X J l,O c,.slice d (Z a) j] 187)).alloc (Y6 #[O ⟨#[]⟩,.slice Y 0 0] 104)) (N+1) [O ⟨#[]⟩,.slice Y 0 0] 104):=by
  have h:=kS (w.alloc (Y6 #[X J l,O c,.slice d (Z a) j] 187)) [O ⟨#[]⟩,.slice Y 0 0] 104;simp only[mJ,A]at h;exact h
 have S:=Ab (((kR [] w).alloc (Y6 #[X J l,O c,.slice d (Z a) j] 187)).alloc (Y6 #[O ⟨#[]⟩,.slice Y 0 0] 104));have y:=Ab A;clear hr hv hB;go_enter func196,ntmps196;apply wp_seq_k;intro KK AT;have Ax:=Ab AT;clear AT;go_wp2;refine Ax _ _ ?_;clear Ax KK;rw[A];clear A;have Q:((w.alloc (Y6 #[X J l,O c,.slice d (Z a) j] 187)).alloc (Y6 #[O ⟨#[]⟩,.slice Y 0 0] 104)).heap.size=N+1+1:=by simp;exact y
 generalize(w.alloc (Y6 #[X J l,O c,.slice d (Z a) j] 187)).alloc (Y6 #[O ⟨#[]⟩,.slice Y 0 0] 104)=w1 at m f S Q|-;have c2:=m.D 2;simp at c2;go_wp2_with ((with_reducible show wpList _ _ _ ({dst:=_,op:=Op.makeSlice 102 _ _,type:=_,pos:=_,after:=_,guard:=_}::_) _ _);refine wpList_make_row _ rfl _ _ 102 rfl 170 i0 _ underlying102 HB DT FA rfl J J (Z a) lx lx (by rw[FL];omega) lc ?_)
 have n:jV (kt (w1.alloc (Y6 (madeCells #[O ⟨#[]⟩] (Z a)) 170)) (N+1+1) 170 1 (.slice (V ⟨N+1+1,0,Y⟩) (Z a) (Z a)) (Z a) (FK b a 0)):=by
  have h:=pQ (e:=170) (size:=1) (base:=N+1+1) w1 (madeCells #[O ⟨#[]⟩] (Z a)) (Z a) lc lw (by rw[size_madeCells];omega);rw[UH,Q]at h;exact h
 have W:=Ab (m.alloc (Y6 (madeCells #[O ⟨#[]⟩] (Z a)) 170));have I:=Ab (f.alloc (Y6 (madeCells #[O ⟨#[]⟩] (Z a)) 170));have o:=Ab (S.alloc (Y6 (madeCells #[O ⟨#[]⟩] (Z a)) 170));clear m f S c2 Q;generalize w1.alloc (Y6 (madeCells #[O ⟨#[]⟩] (Z a)) 170)=w2 at n W I o|-
 go_loopg [15] (Z a) (λgk i wr=>∃(k:Nat),i=X J k/\k<=Z a/\gk=Z a-k/\jV (kt wr (N+1+1) 170 1 (.slice (V ⟨N+1+1,0,Y⟩) (Z a) (Z a)) (Z a) (FK b a k))/\jV (AF wr N [X J l,O c,.slice d (Z a) j] 187)/\jV (AF wr (N+1) [O ⟨#[]⟩,.slice Y 0 0] 104)/\jV (Ac [] w wr))
 case atStart=>exact⟨0,rfl,lc,rfl,n,W,I,o⟩
 case round=>
  clear n W I o;obtain⟨k,rfl,L,AR,n,m,f,z⟩:=hrel;have HG:=Ab AR;clear AR;by_cases B:k<Z a
  .obtain⟨g,HH,he,d0,d1⟩:=Fw (Ad HA z) k B;obtain⟨rfl,_,rfl⟩:=qX he;obtain⟨T,H⟩:=kQ (a[k]);have o:=Ab (z.alloc (Y6 #[X kw T.v,O T.s] 215));have P:=Ab (HT T (by rw[<-H];exact lV B) _ o);(have R:jV ((FK b a k).set k (O (BP b T))=FK b a (k+1)):=by rw[<-H];exact Zu b a k B);rw[H]at d0 d1;obtain⟨u,hV⟩:=kQ (BP b T);rw[hV]at P R;clear H hV;obtain⟨HJ,HL⟩:=rI lc;(go_wp2_with fail);refine P.G ?_;rintro _ w3 ⟨rfl,M⟩;have F:=((kR [] wr).alloc _).H M;have G:=Ad n F;have CL:=Ab (m.C F);have AB:=Ab (f.C F);have B2:=Ab (o.H M);have y0:=G.cellAt k lc;have yf:=G.frozenAt k;(have B9:k<Z (FK b a k):=by rw[Yx b a k L];exact B);rw[mc B9]at y0;generalize(FK b a k)[k]=U at y0;have FT:jV (kt (w3.setCell ⟨N+1+1,k,Y⟩ (O u)) (N+1+1) 170 1 (.slice (V ⟨N+1+1,0,Y⟩) (Z a) (Z a)) (Z a) (FK b a (k+1))):=by
    rw[<-Aa R];exact BO G k _
   have Go:=Ab (CL.bW ⟨N+1+1,k,Y⟩ (lc:N+1+1≠N) (O u));have FW:=Ab (AB.bW ⟨N+1+1,k,Y⟩ (lc:N+1+1≠N+1) (O u));have EX:=Ab (B2.setCell (p:=⟨N+1+1,k,Y⟩) (j3 (by have:=Aa y;show _<=N+1+1;omega)) (O u));clear P o z M F G d0 d1 m f n CL AB B2 R B9;go_wp2
   go_roundg (Z a-(k+1))
   case measure=>exact qu
   case rel=>exact⟨k+1,ly,lc,rfl,FT,Go,FW,EX⟩
  ·have FC:k=Z a:=lc;subst FC;have c1:=m.D 1;obtain⟨e0,e1⟩:=f.c2;have ef:=f.qI;simp at c1 e0 e1;have FO:jV (AF _ (N+1) [O c,.slice (V ⟨N+1+1,0,Y⟩) (Z a) (Z a)] 104):=(f.set 0 _).set 1 _;have FP:jV (kt ((wr.setCell ⟨N+1,0,Y⟩ (O c)).setCell ⟨N+1,1,Y⟩ (.slice (V ⟨N+1+1,0,Y⟩) (Z a) (Z a))) N 170 1 (.slice (V ⟨N+1+1,0,Y⟩) (Z a) (Z a)) (Z a) (qS Ai (a.map (BP b)))):=by
    have h:=Aa n;rw[Zw]at h;(have E:∀q,(Value.slice _ (Z a) (Z a)).ownBlock=V q->q≠N+1:=λq hq=>by have:=(h.lt q hq).1;omega);exact Ak (Ah (Ah h (λh=>E _ h rfl) _) (λh=>E _ h rfl) _) lc
   have EY:=Ab ((z.setCell (p:=⟨N+1,0,Y⟩) (j3 qu) (O c)).setCell (p:=⟨N+1,1,Y⟩) (j3 qu) (.slice (V ⟨N+1+1,0,Y⟩) (Z a) (Z a)));clear m f n z;go_wp2;exact mF (Cj rfl rfl FO underlying104 rfl lo) rfl ⟨N+1+1,rfl,FP,EY⟩
def BX{g}{i:kN Oper}{c}(k:Region.wanted c (yielded g a.tmps)=T6)(f x)(l:c.op=.load f x)(b o)(r:a.eval x=jj (V ⟨b,o,Y⟩))(e:kN jR)(d)(p:w.rangeAt b o e)(n:P.underlying f=V d)(j:d.isRow=T6)(q:(P.info? f).map (·.size)=V (Z e))(h:wpList P g Q i (a.put c.dst (ku (Za e))) w):wpList P g Q (c::i) a w:=
 wpList_step λs m=>by rw[mo k];exact wp_load_mid f x l b o r e d p n j q (m _ _ h)
def Fv(b:kN bN)(x:PL):CE:=⟨x.an,x.ts.map (BP b)⟩
def Lc(fs:kN D5)(b:kN bN)(x:PL)(B:rD):Prop:=
 if x.sort=0 then∃p,EW fs (Fv b x) p/\B=Dg fs (Fv b x) p
 else if x.sort=1 then∃p,EW fs (Fv b x) p/\B= !Dg fs (Fv b x) p
 else if x.sort=2 then B=((BP b x.l).toList==(BP b x.r).toList)
 else if x.sort=3 then B= !((BP b x.l).toList==(BP b x.r).toList)
 else B=Op.bytesLess (BP b x.l).toList (BP b x.r).toList
structure Qa(w:jH)(sp kb ko:Nat)(bv ov:jR)(sad:rB)(scp:Nat)(fs:kN D5):Prop where
 zJ:AF w sp [jj (V ⟨kb,ko,Y⟩),bv,ov] 237
 set:jY w ⟨kb,ko,Y⟩=V (U sad (Z fs) scp)
 facts:Ic w (U sad (Z fs) scp) fs
def Qa.C{w w'}{a e c}{i f}{g}{b}{d}(h:Qa w a e c i f g b d)(k:Ac [] w w'):Qa w' a e c i f g b d:=⟨h.zJ.C k,k.cellAt h.set,h.facts.C k⟩
theorem YU(sp kb W bv ov HF FF k x u y)(b:kN bN)(w)(F:Z b=26)(hS:Qa w sp kb W bv ov HF FF k)(hx:Lr w 0 (x,U u (Z x.ts) y))(IS:Z k<=900000)(H3:Z x.ts<=1000)(FW:∀t∈x.ts,Qq t)(Ha:Qq x.l)(EK:Qq x.r)(FO:∀i j (hi:i<Z k) (hj:j<Z k),i<=j->CT k[j].f (Fv b x)<0->CT k[i].f (Fv b x)<0):rE rF 205 #[jj (V ⟨sp,0,Y⟩),ku (Za (Ay (x,U u (Z x.ts) y))),ku (Za (Al b))] w λr z=>∃B,r=j1 (kx B)/\Lc k b x B/\Ac [] w z:=by
 have HO:=Ab hS;have CC:jV (∀d a,Ac [] w a->AF a d _ 243->rE rF 196 _ a _):=λd a I P=>O7 d 243 b x.ap x.an u y x.ts 0 a F P (Ad hx I) lc FW
 have FL:jV (∀g a,Ac [] w a->kt a 0 170 1 (U (V ⟨g,0,Y⟩) (Z x.ts) (Z x.ts)) (Z x.ts) (qS Ai (x.ts.map (BP b)))->rE rF 60 #[jj (V ⟨kb,W,Y⟩),ku #[O x.an,U (V ⟨g,0,Y⟩) (Z x.ts) (Z x.ts)]] a λe z=>∃p:Nat,e=j1 (kx (Dg k (Fv b x) p))/\EW k (Fv b x) p/\Ac [] a z):=by
  intro g a I hr;have DT:=hS.C I;have HN:C6 a ⟨Fv b x,U (V ⟨g,0,Y⟩) (Z x.ts) (Z x.ts)⟩:=by
   show kt a 0 170 1 _ (Z (x.ts.map (BP b))) _;rw[mh];exact hr
  exact Jt kb W HF FF k ⟨Fv b x,_⟩ a DT.set DT.facts HN (by show Z (x.ts.map (BP b))<=1000;exact li) lc FO
 have HT:jV (∀d (t:AY) a,Qq t->AF a d _ 243->rE rF 180 _ a _):=λd t a hv P=>Mg d 243 b t a F P hv
 have HD:=Ab Ha;have B9:=Ab EK;have L:jV (∀B,Lc k b x B=(if x.sort=0 then∃p,EW k _ p/\B=Dg k _ p
 else if x.sort=1 then∃p,EW k _ p/\B= !Dg k _ p
 else if x.sort=2 then B=((BP b x.l).toList==(BP b x.r).toList)
 else if x.sort=3 then B= !((BP b x.l).toList==(BP b x.r).toList)
 else B=Op.bytesLess _ _)):=λB=>rfl
 generalize Fv b x=FC at FL L;generalize Lc k b x=HC at L|-;have hc:=Bp b;have hl:Z (Al b)=26:=by unfold Al;simp[F]
 obtain⟨E,hE⟩:=kQ (Al b);rw[hE]at hc hl CC HT|-;clear hS hx FW Ha EK FO hE;obtain⟨G,c,D,C,A,⟨q,m⟩,⟨n,o⟩⟩:=x;simp only[Ay]at*;have A2:jV (∀d a,AF a d E 243->rE rF 180 #[jj _,ku #[X kw q,O m]] a _):=λd a P=>HT d ⟨q,m⟩ a HD P
 have BA:jV (∀d a,AF a d E 243->rE rF 180 #[jj _,ku #[X kw n,O o]] a _):=λd a P=>HT d ⟨n,o⟩ a B9 P
 generalize BP b ⟨q,m⟩=VL at A2 L;generalize BP b ⟨n,o⟩=VR at BA L;clear HT HD B9;have S:jV (AF ((w.alloc _).alloc (Y6 (Za E) 243)) _ [X J G,X J c,X J D,O C,U u (Z A) y,X kw q,O m,X kw n,O o] 217):=(kS w _ 217).alloc _;have Ax:jV (AF ((w.alloc (Y6 #[X J G,X J c,X J D,O C,U u (Z A) y,X kw q,O m,X kw n,O o] 217)).alloc (Y6 (Za E) 243)) (w.heap.size+1) E 243):=by
  have h:=kS (w.alloc (Y6 #[X J G,X J c,X J D,O C,U u (Z A) y,X kw q,O m,X kw n,O o] 217)) E 243;simp at h;exact h
 have HK:=Ab (((kR [] w).alloc (Y6 #[X J G,X J c,X J D,O C,U u (Z A) y,X kw q,O m,X kw n,O o] 217)).alloc (Y6 (Za E) 243));go_enter func205,ntmps205;apply wp_seq_k;intro KK HE;have B0:=Ab HE;clear HE;go_wp2;refine B0 _ _ ?_;clear B0 KK;change Code.wp _ _ _ _ ((w.alloc (Y6 #[X J G,X J c,X J D,O C,U u (Z A) y,X kw q,O m,X kw n,O o] 217)).alloc (Y6 (Za E) 243));generalize((w.alloc (Y6 #[X J G,X J c,X J D,O C,U u (Z A) y,X kw q,O m,X kw n,O o] 217)).alloc (Y6 (Za E) 243))=w1 at S Ax HK|-;generalize w.heap.size=N at S Ax|-;have Go:jV (∀a,Ac [] w1 a->jY a ⟨N,5,Y⟩=V (X kw q)/\jY a ⟨N,6,Y⟩=V (O m)/\jY a ⟨N,7,Y⟩=V (X kw n)/\jY a ⟨N,8,Y⟩=V (O o)):=by
  intro a I;have F:=S.C I;have c5:=F.D 5;have c6:=F.D 6;have c7:=F.D 7;have c8:=F.D 8;exact⟨c5,c6,c7,c8⟩
 go_wp2_with fail
 go_region_held3 (λa=>Ac [] w1 a/\jY a ⟨N,5,Y⟩=V (X kw q)/\jY a ⟨N,6,Y⟩=V (O m)/\jY a ⟨N,7,Y⟩=V (X kw n)/\jY a ⟨N,8,Y⟩=V (O o)) ((go_split_ands;refine(fun(AH:Ac [] w1 _)=>And.intro AH (Go _ AH)) ?_;repeat (first|assumption|exact kR [] _|refine Ac.drew ?_|refine Ac.alloc ?_ _))) ((go_at_call 180;first
  |((with_reducible show rE _ _ #[_,ku #[X kw q,O m]] _ _);refine(A2 (N+1) _ (Ax.C ml)).G ?_;rintro _ w3 ⟨rfl,k3⟩;have H0:Ac [] w1 w3:=sh;clear k3)
  |((with_reducible show rE _ _ #[_,ku #[X kw n,O o]] _ _);refine(BA (N+1) _ (Ax.C ml)).G ?_;rintro _ M ⟨rfl,k4⟩;have AO:Ac [] w1 M:=(by go_split_ands;exact Ac.H oa k4);clear k4)))
 rename_i HY;clear HY H0 A2 BA Go;have d1:=(S.C AO).D 1;simp at d1;by_cases Q:c=0
 case' pos=>have Ix:(c==0)=T6:=by simp[Q]
 case' neg=>
  have Ix:(c==0)=K:=by simp[Q]
  by_cases R:c=1
  case' pos=>have H5:(c==1)=T6:=by simp[R]
  case' neg=>
   (have H5:(c==1)=K:=by simp[R]);have H:jV _:=HK.H AO;by_cases T:c=2
   ·(have HU:(c==2)=T6:=by simp[T]);go_wp2;go_ret;refine⟨_,rfl,?_,H⟩;rw[Aa L,mm Q,mm R,mo T]
   ·(have HU:(c==2)=K:=by simp[T]);by_cases h3:c=3
    ·(have HL:(c==3)=T6:=by simp[h3]);go_wp2;go_ret;refine⟨_,rfl,?_,H⟩;rw[Aa L,mm Q,mm R,mm T,mo h3]
    ·(have HL:(c==3)=K:=by simp[h3]);go_wp2;go_ret;refine⟨_,rfl,?_,H⟩;rw[Aa L,mm Q,mm R,mm T,mm h3]
 all_goals
  have AR:=S.C AO;have q2:=AR.D 2;have q3:=AR.D 3;have q4:=AR.D 4;simp at q2 q3 q4;have H:jV _:=HK.H AO;have H8:jV (∀a,Ac [] M a->jY a ⟨sp,0,Y⟩=V (jj (V ⟨kb,W,Y⟩))/\jY a ⟨N,2,Y⟩=V (X J D)/\jY a ⟨N,3,Y⟩=V (O C)/\jY a ⟨N,4,Y⟩=V (U u (Z A) y)):=by
   intro a I;have hs:=(HO.C (H.H I)).zJ.D 0;have hn:=AR.C I;have r2:=hn.D 2;have r3:=hn.D 3;have r4:=hn.D 4;exact⟨hs,r2,r3,r4⟩
  have H1:=Ab (Ax.C AO);clear AR q2 q3 q4;go_wp2_with fail
  go_region_held3 (λa=>Ac [] M a/\jY a ⟨sp,0,Y⟩=V (jj (V ⟨kb,W,Y⟩))/\jY a ⟨N,2,Y⟩=V (X J D)/\jY a ⟨N,3,Y⟩=V (O C)/\jY a ⟨N,4,Y⟩=V (U u (Z A) y)) ((go_split_ands;refine(fun(AH:Ac [] M _)=>And.intro AH (H8 _ AH)) ?_;repeat (first|assumption|exact kR [] _|refine Ac.drew ?_|refine Ac.alloc ?_ _))) ((first
   |(go_at_call 196;refine(CC (N+1) _ (H.H ml) (H1.C ml)).G ?_;rintro _ w5 ⟨g5,rfl,E0,k5⟩;have JA:Ac [] M w5:=si;have H7:=Ab (Ak E0 (mr _));clear k5 E0)
   |(go_at_call 60;refine(FL g5 _ (H.H ml) H7).G ?_;rintro _ w6 ⟨p6,rfl,hcut,k6⟩;have HV:Ac [] M w6:=(by go_split_ands;exact Ac.H oa k6);have H2:=Ab hcut;clear k6 hcut)))
  go_wp2;go_ret;refine⟨_,rfl,?_,H.H HV⟩;rw[Aa L]
  first|rw[mo Q]|rw[mm Q,mo R]
  exact⟨p6,H2,rfl⟩
def FX(fs:kN D5)(b:kN bN):kN PL->rD->Prop
 |[],B=>B=K
 |x::l,B=>if G1 b (AQ x)then∃H,Lc fs b x H/\(if H then FX fs b l B else B=T6)else FX fs b l B
def VT{d}(h:Cg w n z d)(k)(a:k<Z d):
  ∃g q x f i,z=U (V ⟨g,0,Y⟩) (Z d) q/\d[k]=(x,U f (Z x.ts) i)/\Lr w n (x,U f (Z x.ts) i)/\
   jY w ⟨g,k*9,Y⟩=V (X J x.c)/\jY w ⟨g,k*9+1,Y⟩=V (X J x.sort)/\jY w ⟨g,k*9+2,Y⟩=V (X J x.ap)/\jY w ⟨g,k*9+3,Y⟩=V (O x.an)/\jY w ⟨g,k*9+4,Y⟩=V (U f (Z x.ts) i)/\
   jY w ⟨g,k*9+5,Y⟩=V (X kw x.l.v)/\jY w ⟨g,k*9+6,Y⟩=V (O x.l.s)/\jY w ⟨g,k*9+7,Y⟩=V (X kw x.r.v)/\jY w ⟨g,k*9+8,Y⟩=V (O x.r.s):=by
 obtain⟨g,q,F,_,b⟩:=Az h.row (λc _=>rfl) k a;have A:=(h.j _ (lV a)).1;have y:=b k a 0 lc;have o:=b k a 1 lc;have j:=b k a 2 lc;have m:=b k a 3 lc;have D:=b k a 4 lc;have B:=b k a 5 lc;have u:=b k a 6 lc;have t:=b k a 7 lc;have C:=b k a 8 lc;obtain⟨⟨x,G⟩,E⟩:∃p,d[k]=p:=⟨_,rfl⟩;rw[E]at y o j m D B u t C A;obtain⟨f,i,e⟩:=Aj A;simp at e;subst e;exact⟨g,q,x,f,i,F,E,A,y,o,j,m,D,B,u,t,C⟩
structure Qt(x:PL):Prop where
 len:Z x.ts<=1000
 ts:∀t∈x.ts,Qq t
 l:Qq x.l
 r:Qq x.r
def Qt.zN{x}(h:Qt x):(∀t∈AQ x,Qq t)/\Z (AQ x)<=100000:=by
 unfold AQ;split
 .exact⟨h.ts,by have:=h.len;omega⟩
 .refine⟨λt a=>?_,ln⟩;simp at a;rcases a with rfl|rfl
  .exact h.l
  .exact h.r
theorem ZH(L kb ko HC CW)(c:kN L6)(ov H1 HJ d)(b:kN bN)(w)(hb:Z b=26)(hS:Qa w L kb ko (U HC (Z c) CW) ov H1 HJ d)(P:Cg w 0 (U HC (Z c) CW) c)(H9:Z d<=900000)(K8:Z c<=1000)(hl:∀p∈c,Qt p.1)(HV:∀(FT:CE) i j (hi:i<Z d) (hj:j<Z d),i<=j->CT d[j].f FT<0->CT d[i].f FT<0):rE rF 177 #[jj (V ⟨L,0,Y⟩),ku (Za (Al b))] w λr v=>∃B,r=j1 (kx B)/\FX d b (c.map kD) B/\Ac [] w v:=by
 have IA:=Ab hS;have HM:=Ab P;have Ix:jV (∀(x:PL) m n a,Ac [] w a->Lr w 0 _->rE rF 137 _ a _):=λx m n a y hx=>Nz x m n a (hx.C y)
 have Df:jV (∀I (x:PL) m n a,Qt x->AF a I _ 243->kt a 0 215 2 _ _ _->rE rF 204 _ a _):=λI x m n a q P hr=>WK I 243 b m n _ 0 a hb P hr q.zN.2 q.zN.1
 have FO:jV (∀(x:PL) m n a,Ac [] w a->Qt x->Lr w 0 _->rE rF 205 _ a _):=λx m n a y q hx=>YU L kb ko _ ov H1 HJ d x m n b a hb (hS.C y) (hx.C y) H9 q.len q.ts q.l q.r (HV _)
 have JJ:=Ab hl;have q:=Bp b;have HL:Z (Al b)=26:=by unfold Al;simp[hb]
 have FC:=Ab HL;obtain⟨E,hE⟩:=kQ (Al b);rw[hE]at q HL FC Df FO|-;have C:=Ab (kS w E 243);have t:=Ab ((kR [] w).alloc (Y6 (Za E) 243));clear hE hS P hl HV;obtain⟨u,BT⟩:∃u:rD->Prop,u=FX d b (c.map kD):=⟨_,rfl⟩;have F:jV (∀B,FX d b ((c.drop 0).map kD) B->u B):=λB h=>by rw[BT];exact h
 rw[<-BT];clear BT;go_enter func177,ntmps177;apply wp_seq_k;intro KK H0;have CL:=Ab H0;clear H0;go_wp2;refine CL _ _ ?_;clear CL KK;generalize w.alloc (Y6 (Za E) 243)=w1 at C t|-;generalize w.heap.size=N at C|-;have s1:=(IA.C t).zJ.D 1;simp at s1;go_wp2_with fail
 go_loopg [12] (Z c) (λgk i wr=>∃(k:Nat),i=X J k/\k<=Z c/\gk=Z c-k/\jV (∀B,FX d b ((c.drop k).map kD) B->u B)/\jV (AF wr N E 243)/\jV (Ac [] w wr))
 case atStart=>exact⟨0,rfl,lc,rfl,F,C,t⟩
 case round=>
  clear F C t s1;obtain⟨k,rfl,y,HZ,F,C,t⟩:=hrel;have HG:=Ab HZ;clear HZ;by_cases AO:k<Z c
  .obtain⟨g,K9,x,z,D,he,AB,_,d0,d1,d2,d3,d4,d5,d6,d7,d8⟩:=VT (HM.C t) k AO;obtain⟨rfl,_,rfl⟩:=qX he;(have A0:(x,U z (Z x.ts) D)∈c:=by rw[<-AB];exact ln);have A1:=Aa JJ _ A0;have AR:=(HM.j _ A0).1;have s:jV (∀B,(if G1 b (AQ x)then∃H,Lc d b x H/\(if H then FX d b ((c.drop (k+1)).map kD) B else B=T6)else FX d b ((c.drop (k+1)).map kD) B)->u B):=by
    intro B h;refine F B ?_;rw[mu AO,mA,AB];exact h
   have R:=Ab (t.alloc (Y6 (Za (Ay (x,U z (Z x.ts) D))) 217));have BS:=Ab (C.alloc (Y6 (Za (Ay (x,U z (Z x.ts) D))) 217));have Bx:=Ab (kS wr (Ay (x,U z (Z x.ts) D)) 217);have M:=Ab (Ix x z D _ R AR);have AT:=Ab (λm n a=>Df N x m n a A1);have G:=Ab (λa y=>FO x z D a y A1 AR);generalize AQ x=TL at M AT s;generalize Lc d b x=HX at G s;obtain⟨pl,so,ap,an,ts,⟨lv,K4⟩,⟨rv,LB⟩⟩:=x;simp only[Ay]at R BS Bx M G d0 d1 d2 d3 d4 d5 d6 d7 d8;clear AB A0 A1 AR F;(go_wp2_with fail);refine M.G ?_;rintro _ w3 ⟨H8,Jx,rfl,FW,Q⟩;have HU:=Ab (R.H Q);have A2:=Ab (BS.C Q);have HA:=Ab (Bx.C Q);have HY:=Ab (AT H8 Jx w3 A2 FW);clear M AT R BS Bx FW Q d0 d1 d2 d3 d4 d5 d6 d7 d8 t C;(go_wp2_with fail);refine HY.G ?_;rintro _ w4 ⟨rfl,T⟩;have W:=Ab (HU.H T);have S:=Ab (A2.C T);have o:=HA.C T;obtain⟨e0,e1,e2,e3,e4,e5,e6,e7,e8⟩:=o.c9;simp at e0 e1 e2 e3 e4 e5 e6 e7 e8;clear HY HU A2 HA T o;obtain⟨ST,DT⟩:=kQ (G1 b TL);rw[DT]at s|-;clear DT;cases ST with
   |false=>
    (have A:jV _:=λB h=>s B oa);clear s G;go_wp2
    go_roundg (Z c-(k+1))
    case measure=>exact qu
    case rel=>exact⟨k+1,ly,lc,rfl,A,S,W⟩
   |true=>
    have E0:=Ab (G w4 W);clear G;go_wp2_with ((with_reducible refine qY 243 ?_);refine BX lx 243 _ rfl N 0 lx E _ S.range underlying243 rfl (by rw[Aa FC];exact Tryz.zC) ?_)
    refine E0.G ?_;rintro _ w5 ⟨HB,rfl,EK,k5⟩;have HQ:=Ab (W.H k5);have KB:=Ab (S.C k5);have H3:=Ab EK;clear E0 k5 EK W S e0 e1 e2 e3 e4 e5 e6 e7 e8;cases HB with
    |true=>
     (have A:jV (∀B,FX d b _ B->u B):=λB h=>s B (by exact⟨T6,H3,h⟩));clear s;go_wp2
     go_roundg (Z c-(k+1))
     case measure=>exact qu
     case rel=>exact⟨k+1,ly,lc,rfl,A,KB,HQ⟩
    |false=>
     have A:jV _:=s T6 (by exact⟨K,H3,rfl⟩);go_wp2;go_ret;exact⟨T6,rfl,A,HQ⟩
  .have A:jV (u K):=F K (by rw[mN lc];rfl);go_wp2;go_ret;exact⟨K,rfl,A,t⟩
abbrev XH:=kN bN×jR
structure jt(w:jH)(lv:jR)(ps:kN XH):Prop where
 row:kt w 0 102 1 lv (Z ps) (ps.flatMap λp=>[p.2])
 j:∀p∈ps,kt w 0 170 1 p.2 (Z p.1) (qS Ai p.1)/\C3 Hn p.1/\Z p.1<=10000
def jt.C{w w'}{b}(h:jt w z b)(k:Ac [] w w'):jt w' z b:=⟨Ad h.row k,λp a=>⟨Ad (h.j p a).1 k,(h.j p a).2⟩⟩
def iq{a}(h:jt w z a)(k)(b:k<Z a):∃g l i f,z=U (V ⟨g,0,Y⟩) (Z a) l/\jY w ⟨g,k,Y⟩=V (U i (Z (Ch (a.map kD) k)) f)/\kt w 0 170 1 (U i (Z (Ch (a.map kD) k)) f) (Z (Ch (a.map kD) k)) (qS Ai (Ch (a.map kD) k))/\C3 Hn (Ch (a.map kD) k)/\Z (Ch (a.map kD) k)<=10000:=by
 obtain⟨g,l,m,_,q⟩:=Az h.row (λc _=>rfl) k b;have d:=q k b 0 lc;have n:Ch (a.map kD) k=a[k].1:=by
  unfold Ch;rw[mq,no,mc b];rfl
 rw[n];obtain⟨j,o,p⟩:=h.j _ (lV b);obtain⟨i,f,e⟩:=Aj j;rw[e]at j;simp[e]at d;exact⟨g,l,i,f,m,d,j,o,p⟩
def aS{v}{l:kN Nat}(h:kt w n 3 1 v (Z l) (qS Cp l))(k b):∃g a,v=U (V ⟨g,0,Y⟩) (Z l) a/\jY w ⟨g,k,Y⟩=V (X J (l[k]:Nat)):=by
 obtain⟨g,a,e,_,f⟩:=Az h (λc _=>rfl) k b;have d:=f k b 0 lc;simp[Cp]at d;exact⟨g,a,e,d⟩
def Sh(a:kN Nat)(t v)(b:t<Z a):az (λi=>a.getD i 0) t v=λi=>(a.set t v).getD i 0:=by
 funext i
 unfold az;simp only[mq,List.getElem?_set];split
 .exact qr
 .rename_i e;rw[mm (λh=>e h.symm)]
def Pi(b:kN Nat)(t v):qS Cp (b.set t v)=(qS Cp b).set t (X J (v:Nat)):=by
 have e:∀l:kN Nat,qS Cp l=l.map λn=>X J (n:Nat):=λl=>by
  induction l with
  |nil=>rfl
  |cons a l ih=>simp[Cp,ih]
 rw[e,e,qq]
def Of:∀l:kN Nat,qS Cp l=l.map λn=>X J (n:Nat)
 |[]=>rfl
 |a::l=>by simp only[mB,mA,Of l];rfl
def UW(a:kN Nat)(t)(h:t<Z a):(qS Cp a)[t]?=V (X J (a[t]:Nat)):=by
 rw[Of,no,mc h];rfl
def jr(a:kN (kN bN))(s)(h:∀l∈a,Z l<=10000):X9 Hn s a<=Z a*10000:=by
 induction a with
 |nil=>simp[X9]
 |cons l a ih=>
  have d:=ih (λq b=>h q (mP _ b));have c:=h l (m9 ..);have f:kh Hn s l<=Z l:=ql;have e:X9 Hn s (l::a)=kh Hn s l+X9 Hn s a:=lx
  exact li
structure MG(ps:kN XH)(m:kN bN):Prop where
 mem:∀y,y∈m↔(ps≠[]/\La (ps.map kD) y)
 zB:m.Pairwise λa b=>Hn a b=T6
theorem Tryz.z9:(Tryz.prog.info? 3).map (λi=>(i.zero,i.size,i.bytes))=V (V (X J 0),1,8):=lo
theorem Yt(LM KS)(c:kN XH)(w)(h:jt w (U LM (Z c) KS) c)(SS:Z c<=1000):rE rF 208 #[U LM (Z c) KS] w λr w'=>∃(ad:rB) (cp:Nat) (m:kN bN),r=j1 (U ad (Z m) cp)/\MG c m/\kt w' w.heap.size 170 1 (U ad (Z m) cp) (Z m) (qS Ai m)/\Ac [] w w':=by
 obtain⟨i0,K3,H2,K8,IJ⟩:=mW Tryz.zh;obtain⟨j0,M0,Os,MB,Nd⟩:=mW Tryz.z9;have HL:=Ab h;obtain⟨N,hN⟩:=kQ w.heap.size;rw[hN];have x:=Ab hN;clear hN h;obtain⟨d,I⟩:=kQ (c.map kD);have FA:Z d=Z c:=by rw[<-I,mh]
 have Ix:=Ab I;have NL:jV (∀s,X9 Hn s d<=Z c*10000):=by
  intro s;have z:=jr d s (λl hl=>by
   rw[<-I]at hl
   obtain⟨p,hp,rfl⟩:=me.1 hl
   exact(HL.j p hp).2.2)
  rw[FA]at z;exact z
 have DT:jV (∀m,(c≠[]->(∀y,y∈m↔La d y))->(c=[]->m=[])->m.Pairwise (λa b=>Hn a b=T6)->MG c m):=by
  intro m z H h3;refine⟨λy=>?_,h3⟩;by_cases hp:c=[]
  .rw[H hp];simp[hp]
  .rw[z hp y,<-I];exact⟨λh=>⟨hp,h⟩,λh=>h.2⟩
 by_cases h0:Z c=0
 .have RB:((Z c:Int)==0)=T6:=by simp[h0]
  have OH:(Z c:Int)=0:=lc
  have W:jV (MG c []):=DT [] (λh=>rl (nZ.1 h0) h) (λ_=>rfl) rp;clear I;go_enter func208,ntmps208;go_wp2;go_ret;exact⟨Y,0,[],rfl,W,mw _ _ _ _,kR _ _⟩
 .have Nj:0<Z c:=by omega
  have RB:((Z c:Int)==0)=K:=sy
  have OH:¬(Z c:Int)=0:=lc
  have HH:c≠[]:=λe=>h0 (by rw[e];rfl)
  obtain⟨g,W3,X0,U0,he,e0,r0,L,b0⟩:=iq HL 0 Nj;obtain⟨rfl,-,rfl⟩:=qX he;rw[I]at e0 r0 L b0;have RV:(0:Int)<(Z c:Int):=lc
  by_cases hz:Z (Ch d 0)=0
  ·(have Go:((Z (Ch d 0):Int)==0)=T6:=by simp[hz]);have HO:(Z (Ch d 0):Int)=0:=lc;have W:jV (MG c []):=DT [] (λ_ y=>by
    refine⟨λh=>pp,λh=>?_⟩
    have z:=h (Ch d 0) (Fq lc)
    rw[nZ.1 hz]at z
    exact z) (λh=>rl h HH) rp
   clear I hz;go_enter func208,ntmps208;go_wp2;go_ret;exact⟨Y,0,[],rfl,W,mw _ _ _ _,kR _ _⟩
  ·have HU:0<Z (Ch d 0):=lc;have Go:((Z (Ch d 0):Int)==0)=K:=sy;have HO:¬(Z (Ch d 0):Int)=0:=lc;have Jx:(0:Int)<(Z (Ch d 0):Int):=lc;obtain⟨gz,cz,IA,z0⟩:=Im r0 0 HU;obtain⟨rfl,-,rfl⟩:=qX IA;have Df:=Ab (Qp.start Jj (ls:=d) lc L HU);obtain⟨s0,H4⟩:=kQ ((Ch d 0)[0]);rw[H4]at Df z0;clear H4 I r0 L hz;generalize Z (Ch d 0)=L0 at e0 Go HO Jx;(have N2:=λo=>((kR [] w).alloc o).cellAt e0);(have NY:=λo=>((kR [] w).alloc o).cellAt z0);go_enter func208,ntmps208;go_wp2_with ((with_reducible show wpList _ _ _ ({dst:=_,op:=Op.makeSlice 221 _ _,type:=_,pos:=_,after:=_,guard:=_}::_) _ _);refine wpList_make_row _ rfl _ _ 221 rfl 3 j0 _ underlying221 M0 Os MB rfl J J (Z c) lx lx (by rw[Nd];omega) lc ?_)
   have HD:jV (kt (w.alloc (Y6 (madeCells #[X J 0] (Z c)) 3)) N 3 1 (U (V ⟨N,0,Y⟩) (Z c) (Z c)) (Z c) (qS Cp (kB (Z c) 0))):=by
    have h:=pQ (e:=3) (size:=1) (base:=N) w (madeCells #[X J 0] (Z c)) (Z c) (by have:=Aa x;omega) lw (by rw[size_madeCells];omega);rw[UH,Aa x]at h;have e:qS Cp (kB (Z c) 0)=kB (Z c) (X J 0):=by
     generalize Z c=n
     induction n with
     |zero=>rfl
     |succ n ih=>rw[List.replicate_succ,mB,ih,List.replicate_succ];rfl
    rw[e];exact h
   have HR:=Ab ((kR [] w).alloc (Y6 (madeCells #[X J 0] (Z c)) 3));have H0:jV (Qp Hn d 0 s0 0 (λi=>(kB (Z c) 0).getD i 0) []):=by
    have e:(λi=>(kB (Z c) 0).getD i 0)=λ_=>0:=by
     funext i
     rw[mq,ry];split<;>rfl
    rw[e];exact Df
   rw[Aa x];clear e0 z0 N2 NY Df Go HO Jx b0 HU;generalize w.alloc (Y6 (madeCells #[X J 0] (Z c)) 3)=w1 at HD HR|-
   go_loopg [3,5,6,7] (X9 Hn s0 d*(Z c+1)+Z c) (λgk cv sv av tv wr=>∃(t:Nat) (s:bN) (u:Nat) (k:kN Nat) (m:kN bN) (F:rB) (G:Nat),cv=U F (Z m) G/\sv=O s/\av=X J u/\tv=X J t/\gk=X9 Hn s d*(Z c+1)+(Z c-u)/\Z k=Z c/\Z m+X9 Hn s d<=10000000/\jV (Qp Hn d t s u (λi=>k.getD i 0) m)/\jV (kt wr N 3 1 (U (V ⟨N,0,Y⟩) (Z c) (Z c)) (Z c) (qS Cp k))/\jV (kt wr N 170 1 (U F (Z m) G) (Z m) (qS Ai m))/\jV (Ac [] w wr))
   case atStart=>exact⟨0,s0,0,kB (Z c) 0,[],Y,0,rfl,rfl,rfl,rfl,ln,ln,by have:=Aa NL s0;simp;omega,H0,HD,mw _ _ _ _,HR⟩
   case round=>
    clear H0 HD HR;obtain⟨t,s,u,k,m,F,G,rfl,rfl,rfl,rfl,K9,ES,VR,D,P,Q,C⟩:=hrel;have HG:=Ab K9;clear K9;(have FB:t<Z c:=by have:=D.tk;omega);(have TV:u<Z c:=by have:=D.agk;omega);obtain⟨g',UO,LC,NA,HY,et,rt,qt,bt⟩:=iq (HL.C C) t FB;simp only[lU,lZ,mR]at HY;obtain⟨⟨R,-,-⟩,-,-⟩:=HY;subst R;rw[Aa Ix]at et rt qt bt;(have LB:kt wr N 3 1 (U (V ⟨N,0,Y⟩) (Z c) (Z c)) (Z k) (qS Cp k):=by rw[ES];exact P);have H3:k.getD t 0<=Z (Ch d t):=D.ple t D.tk;obtain⟨gp,ST,KD,pt⟩:=aS (l:=k) (v:=U (V ⟨N,0,Y⟩) (Z c) (Z c)) LB t lc;simp only[lU,lZ,mR]at KD;obtain⟨⟨R,-,-⟩,-,-⟩:=KD;subst R;obtain⟨PT,FL⟩:=kQ (k[t]);(have HV:k.getD t 0=PT:=by rw[mq,mc lc,FL];rfl);rw[FL]at pt;rw[HV]at H3;have K1:=Ab (O1 (U LC (Z (Ch d t)) NA) (Ch d t) PT s 0 wr rt lc H3 qt);have HQ:=Ab qt;have K5:=Ab rt;have N0:=Ab HV;obtain⟨WB,VL⟩:=rI (lc:t<Z c);have pf:=P.frozenAt t;have RT:jV (∀L q1,LC=V ⟨L,q1,Y⟩->L<N):=by
     intro L q1 B;obtain⟨gw,_,W1,Wa,HZ,ew,N4,_,_⟩:=iq HL t FB;simp only[lU,lZ,mR]at HZ;obtain⟨⟨R,-,-⟩,-,-⟩:=HZ;subst R;have e2:=C.cellAt ew;rw[Aa Ix,et]at e2;simp only[lZ,lU]at e2;have h3:=(N4.lt L (by rw[<-e2.1,B];rfl)).2;rw[Aa x]at h3;exact h3
    have E:jV (((t:Int)+1).tmod (Z c:Int)=(Gb (Z c) t:Int)/\((t:Int)+1)%(Z c:Int)=(Gb (Z c) t:Int)/\Gb (Z c) t<Z c):=by
     have z:=eI FB;(have H:((t:Int)+1)%(Z c:Int)=(Gb (Z c) t:Int):=by rw[<-z,Int.natCast_emod,Int.natCast_add];rfl);exact⟨by rw[Int.tmod_eq_emod_of_nonneg lc];exact H,H,VA FB⟩
    clear FL LB HV qt rt;(go_wp2_with fail);refine K1.G ?_;rintro _ w2 ⟨f,rfl,HA,MN⟩;have NS:=MN.symm;subst NS;(have H1:El Hn (Ch d t) ((λi=>k.getD i 0) t) s f:=by show El Hn (Ch d t) (k.getD t 0) s f;rw[Aa N0];exact HA);have Ha:=Ab H1;have TS:=HA.le;clear HA H1 K1;by_cases HF:f=Z (Ch d t)
    .have W:jV (MG c m):=DT m (λ_=>D.done Ha HF) (λh=>rl h HH) D.zB;(have M3:((f:Int)==(Z (Ch d t):Int))=T6:=by simp[HF]);have NN:(f:Int)=(Z (Ch d t):Int):=lc;clear HF;go_wp2;go_ret;exact⟨F,G,m,rfl,W,Q,C⟩
    ·have HB:f<Z (Ch d t):=lc;have M3:((f:Int)==(Z (Ch d t):Int))=K:=sy;have NN:¬(f:Int)=(Z (Ch d t):Int):=lc;have T0:=rJ f;have W0:(f:Int)<(Z (Ch d t):Int):=lc;obtain⟨gx,cx,LE,x0⟩:=Im K5 f HB;obtain⟨rfl,-,rfl⟩:=qX LE;obtain⟨j,hX⟩:=kQ ((Ch d t)[f]);rw[hX]at x0;cases hsx:(j.toList==s.toList)
     case' true=>
      have AT:j=s:=(EU j s).1 hsx;have AO:=Ab (D.same Ha HB (by rw[hX,AT]));(have BT:X9 Hn j d<=X9 Hn s d:=by rw[AT];exact mt _);subst AT;clear hX D;have M6:u+1<=Z c:=lc;by_cases BA:u+1=Z c
      rotate_left 1
      ·have FP:(((u:Int)+1)==(Z c:Int))=K:=sy;have H5:¬((u:Int)+1)=(Z c:Int):=by omega
       skip
       skip
       have T:=AO.next lc;rw[Sh k t f lc,FA]at T;have A2:=Ab T;have JA:=E.1;have KA:=E.2.1;clear BA T;go_wp2
       go_roundg (X9 Hn j d*(Z c+1)+(Z c-(u+1)))
       case measure=>
        have z:=Aa HG
        skip
        skip
        omega
       case rel=>
        refine⟨Gb (Z c) t,j,u+1,k.set t f,m,F,G,rfl,rfl,ly,by first|rfl|exact rk _ E.2.1,rfl,by simp[ES],lc,A2,?_,?_,?_⟩
        .rw[Pi];exact(P.stored t (X J (f:Int))).1
        .have BS:=Be P Q lu N rfl;exact Ag Q (Ac.setCell (M:=[N]) (kR [N] _) (j2 ln) _) (λq B=>by simp only[lX];intro e;subst e;exact BS B)
        .exact C.setCell (j3 (by have:=Aa x;simp;omega)) _
      (have FP:(((u:Int)+1)==(Z c:Int))=T6:=by rw[n5];omega);have H5:((u:Int)+1)=(Z c:Int):=lc
      skip
      skip
      have FC:u+1=Z d:=lc
     case' false=>
      (have AT:j≠s:=λe=>by rw[(EU j s).2 e]at hsx;cases hsx);have EM:=D.past Jj HQ Ha HB (by rw[hX];exact AT);rw[hX]at EM;have AO:=Ab EM.1;have BT:=EM.2;clear hX D EM AT;have M6:0+1<=Z c:=lc;by_cases BA:0+1=Z c
      rotate_left 1
      ·have FP:(((0:Int)+1)==(Z c:Int))=K:=sy;have H5:¬((0:Int)+1)=(Z c:Int):=lc;have NX:((1:Int)==(Z c:Int))=K:=sy;have TT:¬(1:Int)=(Z c:Int):=lc;have T:=AO.next lc;rw[Sh k t f lc,FA]at T;have A2:=Ab T;have JA:=E.1;have KA:=E.2.1;clear BA T;go_wp2
       go_roundg (X9 Hn j d*(Z c+1)+(Z c-(0+1)))
       case measure=>
        have z:=Aa HG;have H:(X9 Hn j d+1)*(Z c+1)<=X9 Hn s d*(Z c+1):=m5 _ lc;rw[oD]at H;omega
       case rel=>
        refine⟨Gb (Z c) t,j,0+1,k.set t f,m,F,G,rfl,rfl,ly,by first|rfl|exact rk _ E.2.1,rfl,by simp[ES],lc,A2,?_,?_,?_⟩
        .rw[Pi];exact(P.stored t (X J (f:Int))).1
        .have BS:=Be P Q lu N rfl;exact Ag Q (Ac.setCell (M:=[N]) (kR [N] _) (j2 ln) _) (λq B=>by simp only[lX];intro e;subst e;exact BS B)
        .exact C.setCell (j3 (by have:=Aa x;simp;omega)) _
      (have FP:(((0:Int)+1)==(Z c:Int))=T6:=by rw[n5];omega);have BT:=Nat.le_of_lt BT;(have NX:((1:Int)==(Z c:Int))=T6:=by rw[n5];omega);have FC:0+1=Z d:=lc
     all_goals
      by_cases HT:f+1=Z (Ch d t)
      ·(have RO:(((f:Int)+1)==(Z (Ch d t):Int))=T6:=by rw[n5];omega);have NE:((f:Int)+1)=(Z (Ch d t):Int):=lc;have W:jV (MG c (m++[j])):=DT (m++[j]) (λ_=>AO.last Jj HQ FC HT) (λh=>rl h HH) (AO.yU FC).2;have hM:=Aa Q;clear BA HT;go_wp2_with (at_builtin;refine mE _ rfl (.tmp 65) (.tmp 67) _ rfl N 170 i0 _ 1 16 underlying102 K3 H2 K8 IJ rfl lc (U F (Z m) G) (Z m) (qS Ai m) rfl (mg hM _) ⟨wr.heap.size,0,Y⟩ 1 1 [O j] rfl rfl (mz (mG wr _)) lC lc lw lc (by simp;have:=C.size;have:=Aa x;omega) (wr.heap.size+1) ln ?_;intro g1 CL A EY S Mo M1)
       go_ret;refine⟨V ⟨g1,0,Y⟩,CL,m++[j],ln,W,?_,(C.alloc _).grown S (λq B=>j3 (by have:=(hM.lt q B).1;have:=Aa x;omega))⟩;rw[mD];simp only[mp,mn,mI,m7,mB,np,mQ,Ai];exact EY
      ·have RO:(((f:Int)+1)==(Z (Ch d t):Int))=K:=sy;have NE:¬((f:Int)+1)=(Z (Ch d t):Int):=lc;have LD:f+1<Z (Ch d t):=lc;obtain⟨gy,cy,K6,y0⟩:=Im K5 (f+1) LD;simp only[lU,lZ,mR]at K6;obtain⟨⟨R,-,-⟩,-,-⟩:=K6;subst R;have Bx:=AO.more Jj HQ FC LD;obtain⟨AB,hY⟩:=kQ ((Ch d t)[f+1]);rw[hY]at y0 Bx;rw[Sh k t (f+1) lc,FA]at Bx;have A2:=Ab Bx.1;have Nq:=Bx.2;have TH:(0:Int)<=(f:Int)+1:=lc;have U1:(f:Int)+1<(Z (Ch d t):Int):=lc;have hM:=Aa Q;have CW:jV (∀A,(wr.alloc (Y6 #[O j] 170)).grownBy A (U F (Z m) G).ownBlock->jY A ⟨gx,f+1,Y⟩=V (O AB)/\kt A N 3 1 (U (V ⟨N,0,Y⟩) (Z c) (Z c)) (Z c) (qS Cp k)):=by
        intro A LL;refine⟨?_,(mg P _).C LL (j3 (λe=>Be P hM lu N rfl e.symm))⟩;have TL:gx<N:=RT _ _ lx;(have SJ:gx<wr.heap.size:=by have:=C.size;have:=Aa x;omega);rw[LL.cell_far ⟨gx,f+1,Y⟩ li (λe=>by have:=(hM.lt gx e.symm).1;omega)];exact(((kR [] wr).alloc _).cellAt y0)
       clear BA HT hY Bx;go_wp2_with (at_builtin;refine mE _ rfl (.tmp 65) (.tmp 67) _ rfl N 170 i0 _ 1 16 underlying102 K3 H2 K8 IJ rfl lc (U F (Z m) G) (Z m) (qS Ai m) rfl (mg hM _) ⟨wr.heap.size,0,Y⟩ 1 1 [O j] rfl rfl (mz (mG wr _)) lC lc lw lc (by simp;have:=C.size;have:=Aa x;omega) (wr.heap.size+1) ln ?_;intro g1 CL A EY S Mo M1;have y9:=(CW A S).1;have H9:=(CW A S).2;have Nx:=H9.cellAt t lc;have S1:=H9.frozenAt t;rw[UW k t lc]at Nx)
       have JA:=E.1;have KA:=E.2.1;have QR:=Ab (((CW A S).2).stored t (X J ((f+1:Nat):Int)));go_wp2
       go_roundg (X9 Hn AB d*(Z c+1)+Z c)
       case measure=>
        have z:=Aa HG;have H:(X9 Hn AB d+1)*(Z c+1)<=_:=m5 _ (mZ Nq BT);rw[oD]at H;omega
       case rel=>
        refine⟨Gb (Z c) t,AB,0,k.set t (f+1),m++[j],V ⟨g1,0,Y⟩,CL,ln,rfl,rfl,by first|rfl|exact rk _ E.2.1,ln,by simp[ES],li,A2,?_,?_,?_⟩
        .rw[Pi];have h:=QR.1;exact h
        .have BS:=Be (CW A S).2 EY lu N rfl;have h9:kt A N 170 1 (U (V ⟨g1,0,Y⟩) (Z (m++[j])) CL) (Z (m++[j])) (qS Ai (m++[j])):=by
          rw[mD];simp only[mp,mn,mI,m7,mB,np,mQ,Ai];exact EY
         exact Ag h9 (Ac.setCell (M:=[N]) (kR [N] _) (j2 ln) _) (λq B=>by simp only[lX];intro e;subst e;exact BS B)
        .exact((C.alloc _).grown S (λq B=>j3 (by have:=(hM.lt q B).1;have:=Aa x;omega))).setCell (j3 (by have:=Aa x;simp;omega)) _
def C6.grown{p}{v}(h:C6 w p)(b:kt w m 104 2 v n y)(a:w.grownBy u v.ownBlock):C6 u p:=
 nF (v:=p.tv) h a (by
  cases hp:p.tv.ownBlock with
  |none=>exact ln
  |some q=>exact j3 (λe=>Be h b lu q hp e.symm))
def JX(b:kN bN)(ls:kN PL):kN CE:=(ls.filter λx=>x.sort==0).map (Fv b)
theorem bU(T ty:Nat)(b:kN bN)(FF B0)(c:kN L6)(w)(hb:Z b=26)(HA:AF w T (Al b) ty)(hB:Cg w 0 (U FF (Z c) B0) c)(IA:Z c<=1000)(hl:∀p∈c,Qt p.1):rE rF 198 #[jj (V ⟨T,0,Y⟩),U FF (Z c) B0] w λr n=>∃(l:rB) (m:Nat) (a:kN D5),r=j1 (U l (Z a) m)/\a.map D5.f=JX b (c.map kD)/\Ic n (U l (Z a) m) a/\kt n w.heap.size 104 2 (U l (Z a) m) (Z a) (qS AJ a)/\Ac [] w n:=by
 obtain⟨i0,HY,HT,H0,HX⟩:=mW Tryz.zc;have Go:=Ab hB;have HV:=Ab hl;have HI:jV (∀(x:PL) l m C,Ac [] w C->Qt x->Lr w 0 (x,U l (Z x.ts) m)->rE rF 196 #[jj (V ⟨T,0,Y⟩),ku #[X J x.ap,O x.an,U l (Z x.ts) m]] C λr n=>∃g,r=j1 (ku #[O x.an,U (V ⟨g,0,Y⟩) (Z x.ts) (Z x.ts)])/\C6 n ⟨Fv b x,U (V ⟨g,0,Y⟩) (Z x.ts) (Z x.ts)⟩/\Ac [] C n):=by
  intro x l m C hk hc hx;refine(O7 T ty b x.ap x.an l m x.ts 0 C hb (HA.C hk) (hx.C hk) (by have:=hc.len;omega) hc.ts).G ?_;rintro r n ⟨g,rfl,hr,k⟩;refine⟨g,rfl,?_,k⟩;show kt n 0 170 1 _ (Z (x.ts.map (BP b))) _;rw[mh];exact Ak hr (mr _)
 obtain⟨R,hR⟩:=kQ (JX b (c.map kD));rw[hR];have HR:=Ab hR;obtain⟨N,hN⟩:=kQ w.heap.size;have Q:=Ab hN;clear hB hl hR hN HA;go_enter func198,ntmps198;go_wp2_with fail
 go_loopg [5,10] (Z c) (λgk o i wr=>∃(k:Nat) (a:kN D5) (z:rB) (u:Nat),o=U z (Z a) u/\i=X J k/\k<=Z c/\gk=Z c-k/\Z a<=k/\jV (a.map D5.f=JX b ((qT k c).map kD))/\jV (kt wr N 104 2 (U z (Z a) u) (Z a) (qS AJ a))/\jV (∀p∈a,C6 wr p/\Z p.f.dN<=1000)/\jV (Ac [] w wr))
 case atStart=>exact⟨0,[],Y,0,rfl,rfl,lc,rfl,ln,rfl,mw _ _ _ _,(λp e=>by cases e),kR _ _⟩
 case round=>
  obtain⟨k,a,z,u,rfl,rfl,hk,HB,H9,G,L,M,D⟩:=hrel;have HG:=Ab HB;clear HB;by_cases AO:k<Z c
  .obtain⟨g,IJ,x,v,y,he,AH,_,d0,d1,d2,d3,d4,d5,d6,d7,d8⟩:=VT (Go.C D) k AO;obtain⟨rfl,_,rfl⟩:=qX he;(have AT:(x,U v (Z x.ts) y)∈c:=by rw[<-AH];exact lV AO);have A0:=Aa HV _ AT;have EX:=(Go.j _ AT).1;have Df:jV (JX b ((qT (k+1) c).map kD)=JX b ((qT k c).map kD)++if(x.sort==0)=T6 then[Fv b x] else[]):=by
    unfold JX;rw[lW AO,mO,oA,mO,AH]
    simp only[mA,om,nJ,List.filter_nil];split<;>rfl
   have F:=Ab (D.alloc (Y6 (Za (Ay (x,U v (Z x.ts) y))) 217));have H:=Ab (mg L (Y6 (Za (Ay (x,U v (Z x.ts) y))) 217));(have A:jV (∀p∈a,C6 (wr.alloc (Y6 (Za (Ay (x,U v (Z x.ts) y))) 217)) p/\Z _<=1000):=λp e=>⟨(M p e).1.C ((kR [] wr).alloc _),(M p e).2⟩);have B:=Ab (HI x v y _ F A0 EX);(have CL:jV (Z (Fv b x).dN<=1000):=by show Z (x.ts.map (BP b))<=1000;rw[mh];exact A0.len);(have W:jV (∀g,AJ ⟨Fv b x,_⟩=[O x.an,U (V ⟨g,0,Y⟩) (Z x.ts) (Z x.ts)]):=λg=>rfl);generalize Fv b x=FC at Df B CL W;obtain⟨pl,so,ap,an,d,⟨lv,H6⟩,⟨rv,IS⟩⟩:=x;simp only[Ay]at F H A B Df W d0 d1 d2 d3 d4 d5 d6 d7 d8;clear AH AT A0 EX L M;(have Ix:N<=wr.heap.size:=by have:=D.size;have:=Aa Q;omega);clear D;by_cases S:so=0
   ·(have A1:(so==0)=T6:=by simp[S]);rw[A1,mo rfl]at Df;clear S;(go_wp2_with fail);refine B.G ?_;rintro _ s ⟨j,rfl,EK,P⟩;have E:=Ad H P;(have A2:jV (∀p∈a,C6 s p/\Z _<=1000):=λp e=>⟨(A p e).1.C P,(A p e).2⟩);have Bx:=Ab (F.H P);have FO:=Ab EK;(have H4:N<=s.heap.size:=by have:=Bx.size;have:=Aa Q;omega);clear B H A F P EK d0 d1 d2 d3 d4 d5 d6 d7 d8;go_wp2_with (at_builtin;refine mE _ rfl (.tmp 17) (.tmp 22) _ rfl N 104 i0 _ 2 40 underlying113 HY HT H0 HX rfl lc (U z (Z a) u) (Z a) (qS AJ a) rfl (mg E _) ⟨s.heap.size,0,Y⟩ 1 1 [O an,U (V ⟨j,0,Y⟩) (Z d) (Z d)] rfl rfl (mz (mG s _)) lC lc lw lc li (s.heap.size+1) ln ?_;intro g1 EM w9 FP I HH HQ)
    have Ax:jV ((a++[D5.mk FC (U (V ⟨j,0,Y⟩) (Z d) (Z d))]).map D5.f=JX b ((qT (k+1) c).map kD)):=by
     rw[Aa Df,mO,Aa G];rfl
    have HL:jV (kt w9 N 104 2 (U (V ⟨g1,0,Y⟩) (Z (a++[D5.mk FC (U (V ⟨j,0,Y⟩) (Z d) (Z d))])) EM) (Z (a++[D5.mk FC (U (V ⟨j,0,Y⟩) (Z d) (Z d))])) (qS AJ (a++[D5.mk FC (U (V ⟨j,0,Y⟩) (Z d) (Z d))]))):=by
     rw[mD];simp only[mp,mn,mI,m7,mB,np,mQ,Aa W];exact FP
    have HS:jV (∀p∈a++[D5.mk FC (U (V ⟨j,0,Y⟩) (Z d) (Z d))],C6 w9 p/\Z p.f.dN<=1000):=by
     intro p e;rcases mi.1 e with h|h
     .exact⟨C6.grown ((A2 p h).1.C ((kR [] s).alloc _)) (mg E _) I,(A2 p h).2⟩
     .simp at h;subst h;exact⟨C6.grown (FO.C ((kR [] s).alloc _)) (mg E _) I,CL⟩
    have HW:=Ab ((Bx.alloc _).grown I (λq hq=>j3 (by have:=(E.lt q hq).1;have:=Aa Q;omega)));clear FP I HH HQ E A2 Bx FO Df G
    go_roundg (Z c-(k+1))
    case measure=>exact qu
    case rel=>exact⟨k+1,_,_,EM,ln,ly,lc,rfl,li,Ax,HL,HS,HW⟩
   ·(have A1:(so==0)=K:=by simp[S]);rw[A1,mm ln,mQ]at Df;(have Ax:jV (a.map D5.f=JX b ((qT (k+1) c).map kD)):=by rw[Aa Df];exact G);clear S Df G B;go_wp2
    go_roundg (Z c-(k+1))
    case measure=>exact qu
    case rel=>exact⟨k+1,a,z,u,rfl,ly,lc,rfl,lc,Ax,H,A,F⟩
  .have H2:jV (a.map D5.f=R):=by
    have h:=Aa G;rw[lY lc,Aa HR]at h;exact h
   go_wp2;go_ret;exact⟨z,u,a,rfl,H2,⟨Ak L (mr _),M⟩,by rw[Aa Q];exact L,D⟩
end
section
variable{w u:World}{n m k:Nat}{z:Value}{T:TypeId}{y:kN Value}{c:kN AW}{f:kN Ae}{s:bN}{I:Int}
structure ic(cs:kN AW)(J:kN Ae->Prop):Prop where
 len:∀s,J s->Z s<=6912
 body:∀c∈cs,Z c.bl<=3
 qH:∀c∈cs,∀p∈c.bl,(p.1.b==97)=T6->(∀t∈p.1.A.qH,BJ t)/\Z p.1.A.qH<=1000
 lit:∀s,J s->∀c∈cs,∀e∈qU (Ce s) [Bm] (Am c),∀p∈c.bl,(p.1.b==97)=K->MO e p.1
 E:∀c∈cs,(∀t∈c.E.qH,Qm t)/\Z c.E.qH<=1000
 fact:∀s,J s->∀c∈cs,∀e∈BN (Am c) s,M4 (Av e c.E)
 add:∀s0 s,J s0->J s->∀c∈cs,∀e∈BN (Am c) s0,J (A3 s (Av e c.E))
def UN{d}{s}:∀e∈BN d s,Z e=26:=by
 have j:∀(b:kN Bt) (l:kN (kN bN)),(∀e∈l,Z e=26)->∀e∈qU (Ce s) l b,Z e=26:=by
  intro b
  induction b with
  |nil=>exact ln
  |cons x b ih=>
   intro l h;refine ih _ (λe a=>?_);unfold Ce at a;split at a
   .obtain⟨g,k,i⟩:=mH.1 a;obtain⟨f,_,c⟩:=nY.1 i;unfold It at c;split at c
    .cases c
     rw[F8];exact h g k
    .cases c
   .exact h e a
 intro e a;exact j d [Bm] (by simp[Bm]) e (my.1 a).1
def km{a:kN AW}{b:bN->Nat}(h:w.ownsRow n 3 1 z (Z a) (qS Cp (a.map λc=>b c.E.a)))(k f):∃g e,z=U (V ⟨g,0,Y⟩) (Z a) e/\w.cell? ⟨g,k,Y⟩=V (X J (b a[k].E.a)):=by
 have j:w.ownsRow n 3 1 z (Z (a.map λc=>b c.E.a)) _:=li
 obtain⟨g,e,i,_,l⟩:=Az j (λc _=>rfl) k li;have d:=l k li 0 lc;rw[mh]at i;simp[Cp]at d;exact⟨g,e,i,d⟩
def VH(h:w.ownsRow m T k z n y):n<=9223372036854775807:=by
 rcases h.2 with⟨_,f⟩|⟨g,d,b,_,_,_,c,a,_⟩
 .omega
 .unfold maxLen at a;omega
def dz(k:Ac [] (u.alloc (.cells #[O ⟨#[]⟩,U Y 0 0] 43)).drew w):AF w u.heap.size [O ⟨#[]⟩,U Y 0 0] 43:=(kS u [O ⟨#[]⟩,U Y 0 0] 43).drew.C k
set_option maxRecDepth 100000
theorem Ui(C)(I:Nat->kN Ae->Prop)(BT pb L0 HD)(l:kN AW)(w)(hP:AF w pb [U L0 (Z l) HD] 76)(hR:Cf w (U L0 (Z l) HD) l)(WB:Z l<=1000)(T0:∀(x:bN) (d:World),Ac [] w d->rE rF 190 #[jj (V ⟨pb,0,Y⟩),O x,X J 6] d λe M=>e=j1 (X J (C x))/\Ac [] d M)(H8:∀x,C x<=1000)(hF:ic l BT)(NX:I 0 [])(N0:∀n s,I n s->BT s)(NA:∀n s,I n s->I n (EF l C n s).1/\((EF l C n s).2=K->I (n+1) (EF l C n s).1)/\((EF l C n s).2=T6->Z s<Z (EF l C n s).1)):rE rF 111 #[jj (V ⟨pb,0,Y⟩)] w λr M=>∃(D:rB) (E:Nat) (j:kN BE),r=j1 (U D (Z j) E)/\CS M (U D (Z j) E) j/\I 7 (j.map BE.f)/\Ac [] w M:=by
 have NV:=Ab (YW C pb L0 HD l w hP hR WB T0);have HP:=Ab hP;have Mo:=Ab hR;have AB:=Ab hF;have W0:=Ab N0;have a1:=Ab NA;have aT:=Ab NX;have ar:=Ab H8;clear hP hR T0 hF N0 NA NX H8;go_enter func111,ntmps111;go_wp2_with fail
 refine NV.G ?_;rintro _ w1 ⟨b0,br,rfl,Nq,k1⟩;have X0:=Ab Nq;have TV:=Ab (HP.C k1);have KS:=Ab (Mo.C k1);have VR:=Ab k1;clear NV HP Mo Nq k1;go_wp2_with fail
 go_loopg [3,5] 7 (λgk sv i wr=>∃(n:Nat) (j:kN BE) (L:rB) (H:Nat),sv=U L (Z j) H/\i=X J n/\n<=7/\gk=7-n/\jV (I n (j.map BE.f))/\jV (CS wr (U L (Z j) H) j)/\jV (Ac [] w1 wr))
 case atStart=>exact⟨0,[],Y,0,rfl,rfl,lc,rfl,aT,⟨mw _ _ _ _,ln⟩,kR _ _⟩
 case round=>
  obtain⟨n,j,L,H,rfl,rfl,hn,Nd,HI,A,u⟩:=hrel;have ap:=Ab Nd;clear Nd;by_cases b1:n<=6
  ·have a7:(n:Int)<=6:=lc;go_wp2_with fail
   go_loopg [3,6] (6913-Z j) (λgk sv mv wr=>∃(o:rD) (j:kN BE) (L:rB) (H:Nat),sv=U L (Z j) H/\mv=.bool o/\gk=(if o then 6913-Z j else 0)/\jV (if o then I n (j.map BE.f)else I (n+1) (j.map BE.f))/\jV (CS wr (U L (Z j) H) j)/\jV (Ac [] w1 wr))
   case atStart=>exact⟨T6,j,L,H,rfl,rfl,rfl,HI,A,u⟩
   case round=>
    clear HI A u;obtain⟨o,j,L,H,rfl,rfl,Go,HI,A,u⟩:=hrel;have X3:=Ab Go;clear Go;cases o with
    |false=>
     have HW:jV (I (n+1) (j.map BE.f)):=HI;clear HI;go_wp2
     go_roundg (7-(n+1))
     case measure=>exact qu
     case rel=>exact⟨n+1,j,L,H,rfl,ly,lc,rfl,HW,A,u⟩
    |true=>
     have HW:jV (I n (j.map BE.f)):=HI;have M1:=Ab (W0 n _ HW);clear HI;obtain⟨T,KK⟩:=kQ (j.map BE.f);(have ao:jV (Z j=Z T):=by show _=_;rw[<-KK,mh]);have M6:=Ab KK;clear KK;go_wp2_with fail
     go_loopg [3,6,7] (Z l) (λgk sv mv i wr=>∃(k:Nat) (o:rD) (j:kN BE) (L:rB) (H:Nat),sv=U L (Z j) H/\mv=.bool o/\i=X J k/\k<=Z l/\gk=Z l-k/\jV (qU (Dl C n) (T,K) (qT k l)=(j.map BE.f,o))/\jV (BT (j.map BE.f))/\jV (CS wr (U L (Z j) H) j)/\jV (Ac [] w1 wr))
     case atStart=>exact⟨0,K,j,L,H,rfl,rfl,rfl,lc,rfl,(by show _=_;rw[<-Aa M6];rfl),M1,A,u⟩
     case round=>
      clear A u;obtain⟨k,o,z,H6,HY,rfl,rfl,rfl,hk,TS,HC,HJ,A,u⟩:=hrel;have RB:=Ab TS;clear TS;have p0:=(TV.C u).D 0;simp at p0;by_cases DT:k<Z l
      .obtain⟨g,b9,b,FB,CL,K2,K1,bl,a5,OH,FL,HG,d0,d1,d2,d3⟩:=JE (KS.C u) k DT;obtain⟨rfl,_,rfl⟩:=qX OH;obtain⟨ga,bv,P0,l0⟩:=km (Ad X0 u) k DT;obtain⟨rfl,_,rfl⟩:=qX P0;have Ax:l[k]∈l:=lV DT;rw[FL]at l0 Ax;simp only at l0;have Df:jV (qU (Dl C n) (T,K) (qT (k+1) l)=Dl C n (z.map BE.f,o) ⟨b,U FB (Z b.qH) CL,U K2 (Z bl) K1,bl,a5⟩):=by
        show _=_;rw[lW DT,m6,Aa HC,FL];rfl
       have H8:=Aa ar b.a;obtain⟨b7,b6⟩:=rI (lc:k<Z l);obtain⟨lv,HM⟩:=kQ (C b.a);rw[HM]at l0 H8;by_cases Ix:lv=n
       ·(have U1:((lv:Int) !=(n:Int))=K:=by simp[Ix]);have cr:=Ab HG;have ST:=Ab FL;obtain⟨c,hc⟩:∃c:AW,c=⟨b,U FB (Z b.qH) CL,U K2 (Z bl) K1,bl,a5⟩:=⟨_,rfl⟩;rw[<-hc]at Ax Df;(have HE:Am c=bl.map Prod.fst:=by rw[hc];rfl);(have H7:c.bl=bl:=by rw[hc]);(have EY:c.E=b:=by rw[hc]);(have MY:C c.E.a=n:=by rw[EY,HM,Ix]);have B9:jV (qU (Dl C n) (T,K) (qT (k+1) l)=qU (IB c) (z.map BE.f,o) (BN (bl.map Prod.fst) (z.map BE.f))):=by
         have h:=Aa Df;rw[h];show Dl C n (z.map BE.f,o) c=_;unfold Dl;rw[mo MY,HE]
        (have Nx:Z z<=6912:=by have:=AB.len _ HJ;rw[mh]at this;exact this);have KD:=Ab (Tn K2 K1 bl H6 HY z wr HG.body HG.g A (by have:=AB.body c Ax;rw[H7]at this;exact this) Nx (by have:=AB.qH c Ax;rw[H7]at this;exact this) (by have:=AB.lit _ HJ c Ax;rw[HE,H7]at this;exact this));have MN:jV (∀e∈BN (bl.map Prod.fst) (z.map BE.f),M4 (Av e b)/\Z e=26/\∀s,BT s->BT (A3 s (Av e b))):=by
         intro e he;have h1:=AB.fact _ HJ c Ax e (by rw[HE];exact he);rw[EY]at h1;refine⟨h1,UN e he,λs hs=>?_⟩;have h2:=AB.add _ s HJ hs c Ax e (by rw[HE];exact he);rw[EY]at h2;exact h2
        (have Os:jV ((∀t∈b.qH,Qm t)/\Z b.qH<=1000):=by have:=AB.E c Ax;rw[EY]at this;exact this);(have TX:jV (∀a e,IB c a e=if C7 a.1 (Av e b)then a else(A3 a.1 (Av e b),T6)):=λa e=>by unfold IB;rw[EY]);obtain⟨G,NS⟩:=kQ (BN (bl.map Prod.fst) (z.map BE.f));rw[NS]at B9 KD MN;generalize IB c=AH at B9 TX;clear Df HC FL HG Ax hc HE H7 EY MY NS HM;(go_wp2_with fail);refine KD.G ?_;rintro _ w5 ⟨bs,cf,rfl,M3,k5⟩;have K3:=Ab M3;have K4:=Ab (u.H k5);have NY:=Ab (A.C k5);have bt:=k5.size;clear KD M3 k5 A u;go_wp2_with fail
        go_loopg [3,6,9] (Z G) (λgk sv mv i wr=>∃(m:Nat) (A1:rD) (y:kN BE) (AR:rB) (AT:Nat),sv=U AR (Z y) AT/\mv=.bool A1/\i=X J m/\m<=Z G/\gk=Z G-m/\jV (qU AH (z.map BE.f,o) (qT m G)=(y.map BE.f,A1))/\jV (BT (y.map BE.f))/\jV (CS wr (U AR (Z y) AT) y)/\jV (Ac [] w5 wr))
        case atStart=>exact⟨0,o,z,H6,HY,rfl,rfl,rfl,lc,rfl,rfl,HJ,NY,kR _ _⟩
        case round=>
         clear NY;obtain⟨m,A1,y,AR,AT,rfl,rfl,rfl,hm,Go,HA,HU,A,u⟩:=hrel;have NL:=Ab Go;clear Go;by_cases HV:m<Z G
         .obtain⟨gl,co,QQ,ca,r0⟩:=Jb (K3.C u) m HV;obtain⟨rfl,_,rfl⟩:=qX QQ;obtain⟨e,he⟩:=kQ (G[m]);obtain⟨Op,PT,TL⟩:=MN e (by rw[<-he];exact lV HV);have HQ:=Ab (TL _ HU);have IS:=Ab Op;have CW:jV (qU AH (z.map BE.f,o) (qT (m+1) G)=if C7 (y.map BE.f) (Av e b)then(y.map BE.f,A1)else(A3 (y.map BE.f) (Av e b),T6)):=by
           show _=_;rw[lW HV,m6,Aa HA,he];exact TX _ _
          have a6:=VH K3.row;obtain⟨a4,b3⟩:=rI (lc:m<Z G);have FF:jV (∀d,Ac [] wr d->rE rF 48 #[.agg (Al e).toArray,.agg #[O b.a,U FB (Z b.qH) CL,X J b.e]] d λr M=>∃D E,r=j1 (.agg (Bj ⟨Av e b,U D (Z b.qH) E⟩).toArray)/\DR M ⟨Av e b,U D (Z b.qH) E⟩/\(∀q,(U D (Z b.qH) E).ownBlock=V q->d.heap.size<=q)/\Ac [] d M):=by
           intro d S;have N4:=(KS.C ((K4.H u).H S)).j _ (lV DT);rw[Aa ST]at N4;exact Pr e b FB CL d PT N4.qH Os.2 Os.1
          have H3:jV (∀d,Ac [] wr d->d.rangeAt gl (m*26) (Al e)/\d.cell? ⟨pb,0,Y⟩=V (U (V ⟨g,0,Y⟩) (Z l) HD)/\d.cell? ⟨g,k*5,Y⟩=V (O b.a)/\d.cell? ⟨g,k*5+1,Y⟩=V (U FB (Z b.qH) CL)/\d.cell? ⟨g,k*5+2,Y⟩=V (X J b.e)):=by
           intro d S;have TH:=(K4.H u).H S;obtain⟨g',bn,ba,bd,cb,ce,a8,bz,a9,RT,K6,_,f0,f1,f2,f3⟩:=JE (KS.C TH) k DT;simp only[lU,lZ,mR]at RT;obtain⟨⟨rfl,_,_⟩,_,_⟩:=RT;rw[Aa ST]at K6;simp only[AW.mk.injEq,lU]at K6;obtain⟨rfl,⟨rfl,_,rfl⟩,_⟩:=K6;have q0:=(TV.C TH).D 0;simp at q0;obtain⟨g',b2,M2,_,r'⟩:=Jb (K3.C (u.H S)) m HV;simp only[lU,lZ,mR]at M2;obtain⟨⟨rfl,_,_⟩,_,_⟩:=M2;rw[he]at r';exact⟨r',q0,f0,f1,f2⟩
          clear he r0 HA TL Op;(have bx:Z y<=6912:=by have:=AB.len _ HU;rw[mh]at this;exact this);have LM:jV (∀v d,Ac [] wr d->DR d ⟨Av e b,v⟩->rE rF 21 #[U AR (Z y) AT,.agg (Bj ⟨Av e b,v⟩).toArray] d λe' M=>e'=j1 (.bool (C7 (y.map BE.f) (Av e b)))/\Ac [] d M):=by
           intro v d S ES;have h:=II AR AT y ⟨Av e b,v⟩ d (A.C S) ES lc IS;(have hh:(y.any λp=>CB p.f (Av e b))=C7 (y.map BE.f) (Av e b):=by unfold C7;rw[pj];rfl);rw[hh]at h;exact h
          have H2:jV (∀v d,Ac [] wr d->DR d ⟨Av e b,v⟩->rE rF 57 #[U AR (Z y) AT,.agg (Bj ⟨Av e b,v⟩).toArray] d λe' M=>∃(D:rB) (E:Nat) (Bx:kN BE),e'=j1 (U D (Z Bx) E)/\CS M (U D (Z Bx) E) Bx/\Bx.map BE.f=A3 (y.map BE.f) (Av e b)/\Ac [] d M):=by
           intro v d S ES;refine(LZ AR AT y ⟨Av e b,v⟩ d (A.C S) ES lc IS).G ?_;rintro e' M ⟨D,E,rfl,h1,h2⟩;exact⟨D,E,_,rfl,h1,JF y ⟨Av e b,v⟩,h2⟩
          (have FC:jV (∀D E,Bj ⟨Av e b,U D (Z b.qH) E⟩=[O b.a,U D (Z b.qH) E]):=λD E=>rfl);obtain⟨EK,Jx⟩:=kQ (Al e);(have al:Z EK=26:=by rw[<-Jx,CD,PT]);rw[Jx]at FF H3;generalize Av e b=FP at FF CW LM H2 FC HQ IS;clear Jx;have hu:=underlying90;(have hi:(rF.info? 90).map (·.size)=V (Z EK):=by rw[al];exact Tryz.zE);obtain⟨N,JA⟩:=kQ b.a;obtain⟨ja,RO⟩:=kQ b.e;obtain⟨F,KA⟩:=kQ (Z b.qH);rw[JA,RO,KA]at FF H3;rw[JA,KA]at FC;clear JA RO KA d0 d1 d2 d3 l0;go_wp2_with fail
          go_region_held3 (λd=>Ac [] wr d/\d.rangeAt gl (m*26) EK/\d.cell? ⟨pb,0,Y⟩=V (U (V ⟨g,0,Y⟩) (Z l) HD)/\d.cell? ⟨g,k*5,Y⟩=V (O N)/\d.cell? ⟨g,k*5+1,Y⟩=V (U FB F CL)/\d.cell? ⟨g,k*5+2,Y⟩=V (X J ja)) ((go_split_ands;refine(fun(S:Ac [] wr _)=>And.intro S (H3 _ S)) ?_;repeat (first|assumption|exact kR [] _|refine Ac.drew ?_|refine Ac.alloc ?_ _|(refine Ac.setCell ?_ (Or.inr (by first|omega|(simp;done)|(simp;omega))) _)))) ((go_at_call 48;refine(FF _ ml).G ?_;rintro _ R ⟨Q,P,rfl,ES,Pl,k3⟩;rw[Aa FC];have RV:Ac [] wr R:=sh;(try (have HL:=dz k3;obtain⟨y0,y1⟩:=HL.c2;have yf:=HL.qI;simp at y0 y1));have MB:=RV.size;have HT:=Ab ES;have K8:=Ab Pl;have SL:=Ab k3;clear k3 ES Pl))
          all_goals
           rename_i RE;have CC:=Ab RE.1;clear RE FF H3
           first
            |(
              have A0:jV (AF ((R.setCell ⟨wr.heap.size,0,Y⟩ (O N)).setCell ⟨wr.heap.size,1,Y⟩ (U Q F P)) wr.heap.size [O N,U Q F P] 43):=(HL.set 0 _).set 1 _
              have H9:(U Q F P).ownBlock≠V wr.heap.size:=λh=>by have:=Aa K8 _ h;simp at this;omega
              have BS:jV (DR ((R.setCell ⟨wr.heap.size,0,Y⟩ (O N)).setCell ⟨wr.heap.size,1,Y⟩ (U Q F P)) ⟨FP,U Q F P⟩):=Ah (Ah HT (p:=⟨wr.heap.size,0,Y⟩) H9 _) (p:=⟨wr.heap.size,1,Y⟩) H9 _
              obtain⟨B,hB⟩:=kQ wr.heap.size
              rw[hB]at A0 CC BS|-
              clear HL y0 y1 yf MB SL HT K8 H9 hB
              generalize(R.setCell ⟨B,0,Y⟩ (O N)).setCell ⟨B,1,Y⟩ (U Q F P)=W at A0 CC BS|-)
            |(
              have A0:jV (AF (R.alloc (.cells #[O N,U Q F P] 43)) R.heap.size [O N,U Q F P] 43):=kS R [O N,U Q F P] 43
              have BS:jV (DR (R.alloc (.cells #[O N,U Q F P] 43)) ⟨FP,U Q F P⟩):=HT.C ((kR [] R).alloc _)
              obtain⟨B,hB⟩:=kQ R.heap.size
              rw[hB]at A0|-
              clear MB SL HT K8 hB
              generalize R.alloc (.cells #[O N,U Q F P] 43)=W at A0 CC BS|-)
           clear RV;obtain⟨x0,x1⟩:=A0.c2;simp at x0 x1;have HR:=Ab (LM _ W CC BS);rw[Aa FC]at HR;obtain⟨HB,M0⟩:=kQ (C7 (y.map BE.f) FP);rw[M0]at HR CW;clear M0 LM;(go_wp2_with fail);refine HR.G ?_;rintro _ w6 ⟨rfl,k6⟩;have E0:=Ab (CC.H k6);have K5:=A0.C k6;obtain⟨z0,z1⟩:=K5.c2;simp at z0 z1;have K9:=Ab (BS.C k6);clear K5 x0 x1 A0 CC BS HR k6;cases HB with
           |true=>
            have JJ:jV (qU AH (z.map BE.f,o) (qT (m+1) G)=(y.map BE.f,A1)):=CW;have LC:=Ab (u.H E0);have LL:=Ab (A.C E0);clear CW A u H2 HQ K9;go_wp2
            go_roundg (Z G-(m+1))
            case measure=>exact qu
            case rel=>exact⟨m+1,A1,y,AR,AT,rfl,rfl,ly,lc,rfl,JJ,HU,LL,LC⟩
           |false=>
            have EM:=Ab (H2 _ w6 E0 K9);rw[Aa FC]at EM;clear H2;(go_wp2_with fail);refine EM.G ?_;rintro _ w7 ⟨ag,XS,Bx,rfl,SJ,IA,k7⟩;have JJ:jV (qU AH (z.map BE.f,o) (qT (m+1) G)=(Bx.map BE.f,T6)):=by
             show _=_;rw[IA];exact CW
            (have VS:jV (BT (Bx.map BE.f)):=by rw[IA];exact HQ);have LC:=Ab ((u.H E0).H k7);have LL:=Ab SJ;clear CW A u HQ K9 EM SJ IA k7 z0 z1;go_wp2
            go_roundg (Z G-(m+1))
            case measure=>exact qu
            case rel=>exact⟨m+1,T6,Bx,ag,XS,rfl,rfl,ly,lc,rfl,JJ,VS,LL,LC⟩
         .have WS:jV (qU (Dl C n) (T,K) (qT (k+1) l)=(y.map BE.f,A1)):=by
           have h:=Aa HA;rw[lY lc]at h;exact B9.H h
          have E0:=Ab (K4.H u);clear HA B9;go_wp2
          go_roundg (Z l-(k+1))
          case measure=>exact qu
          case rel=>exact⟨k+1,A1,y,AR,AT,rfl,rfl,ly,lc,rfl,WS,HU,A,E0⟩
       ·(have U1:((lv:Int) !=(n:Int))=T6:=by simp[bne];omega);have B9:jV (qU (Dl C n) (T,K) (qT (k+1) l)=(z.map BE.f,o)):=by
         have h:=Aa Df;unfold Dl at h|-;rw[mm (by simp only;rw[HM];exact Ix)]at h;exact h
        clear Df HC FL HG Ax HM;go_wp2
        go_roundg (Z l-(k+1))
        case measure=>exact qu
        case rel=>exact⟨k+1,o,z,H6,HY,rfl,rfl,ly,lc,rfl,B9,HJ,A,u⟩
      .have EM:jV (EF l C n T=(z.map BE.f,o)):=by
        have h:=Aa HC;rw[lY lc]at h;exact h
       have IJ:jV ((if o then I n (z.map BE.f)else I (n+1) (z.map BE.f))/\(o=T6->Z j<Z z)):=by
        have hI:=Aa HW;rw[Aa M6]at hI;have h:=Aa a1 n T hI;rw[Aa EM]at h;refine⟨?_,λhm=>?_⟩
        .cases o with
         |true=>exact h.1
         |false=>exact h.2.1 rfl
        .have:=h.2.2 hm;rw[mh]at this;have:=Aa ao;omega
       (have Nx:Z z<=6912:=by have:=AB.len _ HJ;rw[mh]at this;exact this);have aa:=Ab IJ.1;have ab:=IJ.2;clear HC EM IJ;go_wp2
       go_roundg (if o then 6913-Z z else 0)
       case measure=>
        have h1:=Aa X3;rw[mo True.intro]at h1;cases o with
        |true=>have:=ab rfl;simp;omega
        |false=>have:=AB.len _ M1;rw[mh]at this;simp;omega
       case rel=>exact⟨o,z,H6,HY,rfl,rfl,rfl,aa,A,u⟩
  ·have av:n=7:=lc;subst av;go_wp2;go_ret;exact⟨L,H,j,rfl,A,HI,VR.H u⟩
def I4(cs:kN AW)(s:kN Ae):Prop:=D3 s/\∀f∈s,DQ cs f
def Hu.zV{a}(h:Hu c a n f):I4 c f:=⟨h.zB,h.zS⟩
def GS{a}(hF:LP a):∀x∈consts a,0<x.size/\x.size<=1000000:=by
 intro x b;obtain⟨c,h,d⟩:=mH.1 b;obtain⟨t,g,rfl⟩:=me.1 d;obtain⟨f,e⟩:=my.1 g;exact(hF.full c h).E t f (by simpa using e)
def Dt.fit{t}(h:Dt t):Qm t:=by
 rcases h with h|h
 .exact Or.inl h.1
 .exact Or.inr ⟨h.1,h.2.1⟩
def Cb.fit{l}(h:Cb l)(hF:LP l):ic l (I4 l):=by
 obtain⟨AH,r⟩:=h.order.small;have F:∀s,I4 l s->∀f∈s,IW f:=λs b f o=>AG.zD ((b.2 f o).qK h.prog.zI)
 have S:∀s,I4 l s->∀c∈l,∀e∈qU (Ce s) [Bm] (Am c),∀t,Fh (Am c) t->t.v≠0->0<(AI e t).size/\(AI e t).size<=1000000:=by
  intro s b c a e d t g i;obtain⟨_,_,_,_,E⟩:=CY (F s b) _ [Bm] (λe d=>by simp at d;rw[d];rfl) (h.prog.zD.qH c a) e d;rcases g with j|⟨y,W,n,u,hu,AB⟩
  .exact rl j i
  .have j:=(b.2 _ (E y W n).1).qH _ (mx hu);have m:=GS hF _ j;(have G:AI e u=AI e t:=by unfold AI;rw[AB,mm i,mm i]);rw[G]at m;exact m
 have I:∀s,I4 l s->∀c∈l,∀e∈qU (Ce s) [Bm] (Am c),∀p∈c.bl,∀t∈AA p,Fh (Am c) t->0<(AI e t).size/\(AI e t).size<=1000000:=by
  intro s b c a e d p k t g E;by_cases i:t.v=0
  .have j:=(hF.full c a).body p k t g i;unfold AI;rw[mo i];exact j
  .exact S s b c a e d t E i
 refine⟨λs b=>?_,λc a=>(r c a).1,λc a p k n=>?_,λs b c a e d p k n=>?_,λc a=>⟨λt g=>((h.zI c a).qH t g).fit,by have:=(r c a).2.1;omega⟩,λs b c a e d=>?_,λT s i b c a e d=>?_⟩
 .exact h.order.few s (b.1.nodup λf o=>(b.2 f o).qK h.prog.zI) b.2
 .have w:=(r c a).2.2 p k;refine⟨h.prog.zD.qH c a p.1 (mx k) n,?_⟩;have m:=pE w;omega
 .have w:=(r c a).2.2 p k;have m:=pE w;have P:p.1∈Am c:=mx k;have q:=h.g c a p.1 P;have M:=h.prog.zD.safe c a p.1 P n;refine⟨λC=>?_,λB=>?_⟩
  ·(have D:(p.1.b==33)=T6:=by rw[n]at C;exact oa);unfold Di at q;rw[mo C]at q;(have z:AA p=p.1.A.qH:=by unfold AA L5;rw[C];rfl);refine⟨λt g=>(q.qH t g).fit,lc,⟨by simp[Av];omega,λx H=>?_⟩⟩;obtain⟨t,g,rfl⟩:=me.1 H;exact I s b c a e d p k t (by rw[z];exact g) (M.1 D t g)
  ·(have D:(p.1.b==33)=K:=by rw[n]at B;exact oa);unfold Di at q;rw[mm (by rw[B];simp)]at q;(have z:AA p=[p.1.L,p.1.R]:=by unfold AA L5;rw[B];rfl);have N:=I s b c a e d p k p.1.L (by rw[z];simp) (M.2 D).1;have Q:=I s b c a e d p k p.1.R (by rw[z];simp) (M.2 D).2;exact⟨q.1.fit,q.2.1.fit,N.1,N.2,Q.1,Q.2⟩
 .have j:=Sb h.prog.zD b.2 (F s b) a d;refine⟨?_,λx H=>GS hF x (j.qH x H)⟩;have:=(r c a).2.1;simp[Av];omega
 .have j:=Sb h.prog.zD i.2 (F T i) a d;have m:=CR (j.qK h.prog.zI) b.1 (λf o=>(b.2 f o).qK h.prog.zI);refine⟨m.1,λf o=>?_⟩;rcases(m.2.2 f).1 o with G|rfl
  .exact b.2 f G
  .exact j
def Nh(s b a):(A9 s b a).1.size<=s.size:=by
 unfold A9;split
 .exact mr _
 .split
  .exact mr _
  exact li
def Oe(s a)(h:(An s a).2.2=K):(An s a).1.E.a.size<=s.size:=by
 exact Nh _ _ _
def S3{s}{b}(h:(Ao s b).2.2=K):∀c∈(Ao s b).1,c.E.a.size<=s.size:=by
 fun_induction Ao s b with
 |case1 b ha hc ih=>
  intro c a;rcases l9.1 a with rfl|a
  .exact Oe s _ hc.1
  .exact ih h c a
 |case2 b ha hc=>
  intro c a;rw[lX]at a;subst a;exact Oe s _ h
 |case3 b ha=>exact ln
def Yg{a:kN AW}(h:(Ao s n).2.2=K)(e:a.map AW.erase=(Ao s n).1):∀c∈a,c.E.a.size<=s.size:=by
 intro c d;have b:c.erase∈(Ao s n).1:=by rw[<-e];exact mx d
 exact S3 h _ b
def Ds.zero(h:Ds s 0 I):I=0:=by
 unfold Ds at h;split at h
 .exact lc
 .split at h
  .exact lc
  .obtain⟨cs,_,a⟩:=h;have b:=GO (cs:=cs) (by rw[<-a]);exact qr
def QV(s:bN)(t:bN)(er:Int):Prop:=
 (er≠0->t=ky)/\
 (er=0->∃(cs:kN AW) (fs:kN BE),cs.map AW.erase=(Ao s (Af s 0)).1/\Cb cs/\(∀c∈cs,c.E.qH≠[])/\Hu cs (BW cs 6) 7 (fs.map BE.f)/\t=Oc ky fs)
def No(s g d c)(a:kN AW)(w)(l:AF w g [U d (Z a) c] 76)(o:Cf w (U d (Z a) c) a)(hF:LP a)(b:(Ao s (Af s 0)).2.2=K)(z:a.map AW.erase=(Ao s (Af s 0)).1)(u:CH a=(0,0)):
  rE rF 111 #[jj (V ⟨g,0,Y⟩)] w λr k=>∃(q:rB) (p:Nat) (e:kN BE),r=j1 (U q (Z e) p)/\CS k (U q (Z e) p) e/\Hu a (BW a 6) 7 (e.map BE.f)/\Ac [] w k:=by
 have i:=EN b z u;exact Ui _ _ _ g d c a w l o hF.len
  (λx y j=>UR g d c a hF.len hF.body 6 x y (l.C j) (o.C j) lc) (λx=>by have:=RC a 6 x;omega)
  (i.fit hF) (Hu.start a _) (λn t h=>h.zV) (λn t h=>by
   have b:=i.round h
   exact qr)
theorem Wz(s:bN)(w)(Q:s.size<=9223372036854775807):rE rF 68 #[O s] w λe N=>∃(t:bN) (b j:Int),e=j1 (.tuple #[O t,X J b,X J j])/\Ds s b j/\QV s t b/\Ac [] w N:=by
 have E:=Ab (Ju s w Q);go_enter func68,ntmps68;go_wp2_with fail
 refine E.G ?_;rintro _ M ⟨pv,b,j,rfl,I,B,r⟩;have D:=Ab I;have n:=Ab B;have y:=Ab r;clear E I B r;by_cases k:b=0
 .subst k;obtain⟨T,AT,AR,g,rfl,F,G,hF,Ax,i,d,m⟩:=n rfl;have S:((0:Int) !=0)=K:=rfl;have u:=Ab (No s T AT AR g M F G hF i d m);have v:jV (∀a:kN BE,Hu g (BW g 6) 7 (a.map BE.f)->Z a<=100000/\∀p∈a,p.f.a.size<=1000000):=by
   intro a l;have hp:=EN i d m;refine⟨?_,λp R=>?_⟩
   .have:=(hp.fit hF).len _ l.zV;rw[mh]at this;omega
   .obtain⟨c,hc,hn,_⟩:=(l.zS p.f (mx R)).zV;rw[hn];have:=Yg i d c hc;omega
  have z:jV (∀a:kN BE,Hu g (BW g 6) 7 (a.map BE.f)->QV s (Oc ky a) 0):=λa l=>⟨λh=>rl rfl h,λ_=>⟨g,a,d,EN i d m,Oz i d,l,rfl⟩⟩
  clear F G hF Ax i d m n;go_wp2_with fail
  refine u.G ?_;rintro _ w2 ⟨ad,cp,a,rfl,H,o,C⟩;have q:=Aa v a o;have L:=Ab (PI ad cp a w2 H q.1 q.2);have A:=Ab (z a o);have W:=Ab (y.H C);clear u H o C q v z;go_wp2_with fail
  refine L.G ?_;rintro _ w3 ⟨rfl,x⟩;have A0:=Ab (W.H x);generalize Oc ky a=TX at A;clear L x;go_wp2_with fail
  go_ret3;exact⟨TX,0,0,rfl,by have h:=Aa D;rw[h.zero]at h;exact h,A,A0⟩
 .have S:(b !=0)=T6:=by simp[k]
  have P:jV (QV s ky b):=⟨λ_=>rfl,λh=>rl h k⟩;clear k n;go_wp2_with fail
  go_ret3;exact⟨ky,b,j,rfl,D,P,y⟩
end
section
open Go.Shelf Go.RowKit
open Go.Proofs.Tryz
def jg:Ren:=⟨fun|166=>75|167=>77|169=>78|240=>125|276=>168|n=>n,fun|37=>143|70=>142|72=>145|75=>147|80=>50|127=>223|164=>272|n=>n,fun|n=>n⟩
theorem aP:Lays.n166 rF jg:=⟨lo,func75.H (rk V lo),func125.H (rk V lo),func168.H (rk V lo),underlying0,isAgg0,sizeOf0,zeroValue0,underlying3,isAgg3,sizeOf3,zeroValue3,underlying4,isAgg4,sizeOf4,zeroValue4,underlying9,isAgg9,sizeOf9,zeroValue9,underlying20,isAgg20,sizeOf20,zeroValue20,underlying143,isAgg143,sizeOf143,zeroValue143,underlying142,isAgg142,sizeOf142,zeroValue142,underlying145,isAgg145,sizeOf145,zeroValue145,underlying147,isAgg147,sizeOf147,zeroValue147,underlying272,isAgg272,sizeOf272,zeroValue272⟩
theorem iJ:Lays.n167 rF jg:=⟨lo,func77.H (rk V lo),func125.H (rk V lo),func168.H (rk V lo),underlying0,isAgg0,sizeOf0,zeroValue0,underlying4,isAgg4,sizeOf4,zeroValue4,underlying5,isAgg5,sizeOf5,zeroValue5,underlying9,isAgg9,sizeOf9,zeroValue9,underlying20,isAgg20,sizeOf20,zeroValue20,underlying143,isAgg143,sizeOf143,zeroValue143,underlying142,isAgg142,sizeOf142,zeroValue142,underlying145,isAgg145,sizeOf145,zeroValue145,underlying147,isAgg147,sizeOf147,zeroValue147,underlying272,isAgg272,sizeOf272,zeroValue272⟩
theorem iM:Lays.n169 rF jg:=⟨lo,func78.H (rk V lo),underlying0,isAgg0,sizeOf0,zeroValue0,underlying3,isAgg3,sizeOf3,zeroValue3,underlying9,isAgg9,sizeOf9,zeroValue9,underlying143,isAgg143,sizeOf143,zeroValue143,underlying142,isAgg142,sizeOf142,zeroValue142,underlying145,isAgg145,sizeOf145,zeroValue145,underlying223,isAgg223,sizeOf223,zeroValue223⟩
theorem ju:Builder.Extra rF jg:={sizeBuilder:=lo,liesBuilder:=lo,t5:=underlying5,a5:=isAgg5,z5:=sizeOf5,v5:=zeroValue5,infoByte:=lo,cellsByte:=lo,sizeByte:=lo,neB5:=lu}
def bY(B b)(a:kN jR)(c w)(h:Lib.IsBuilderF 145 5 B b a w)(g:Z a+1<=140737488355328)(f:B<=w.heap.size):
  rE rF 77 #[jj (V ⟨b,0,Y⟩),X .u8 c] w λe d=>e=j1 .nilIface/\(Lib.BuilderAtF 145 5 B b (jj (V ⟨b,0,Y⟩)) (a++[X .u8 c]) d/\Below B w d/\Lib.OthersKept 5 (V b) w d):=
 Any.Builder_WriteByte_k iJ ju B b a c w h g f
def ev(B b)(a:kN jR)(s:bN)(w)(h:Lib.IsBuilderF 145 5 B b a w)(f:Z a+s.size<=140737488355328)(d:B<=w.heap.size):
  rE rF 75 #[jj (V ⟨b,0,Y⟩),O s] w λe c=>e=j1 (.tuple #[X .i64 s.size,.nilIface])/\(Lib.BuilderAtF 145 5 B b (jj (V ⟨b,0,Y⟩)) (a++Lib.strCells s) c/\Below B w c/\Lib.OthersKept 5 (V b) w c):=
 Any.Builder_WriteString_k aP ju B b a s w h f d
def PJ(B b)(l:kN rC)(w)(h:Lib.IsBuilderF 145 5 B b (Lib.byteCells l) w)(c:B<=w.heap.size):
  rE rF 78 #[jj (V ⟨b,0,Y⟩)] w λe a=>e=j1 (O ⟨l.toArray⟩)/\(Lib.IsBuilderF 145 5 B b (Lib.byteCells l) a/\Below B w a/\Lib.OthersKept 5 (V b) w a):=
 Any.Builder_String_any_k iM ju B b l w h c
end
section
variable{v w u:jH}{s:bN}{n:Nat}
def j4(w0:jH)(s:bN)(w:jH):Prop:=Lib.IsBuilderF 145 5 w0.heap.size w0.heap.size (Lib.strCells s) w/\Ac [] w0 w
def j4.new(w):j4 w ky (w.alloc (Y6 #[jj Y,U Y 0 0] 145)):=
 ⟨Lib.IsBuilderF.of (Lib.fresh_isBuilder 145 5 w),(kR [] w).alloc _⟩
def Ip(k:Ac [] v w)(h:Below v.heap.size w u):Ac [] v u:=
 ⟨h.os.H k.os,h.tape.H k.tape,h.output.H k.output,mZ k.size h.size,λi a b=>(h.block i a).H (k.block i a b)⟩
def j4.C{a w w'}(h:j4 a s w)(k:Ac [] w w'):j4 a s w':=by
 have b:∀p,Lib.BuilderAtF 145 5 a.heap.size a.heap.size p (Lib.strCells s) w->Lib.BuilderAtF 145 5 a.heap.size a.heap.size p (Lib.strCells s) w':=by
  rintro p ⟨m,v,c,d,l⟩;refine⟨m,v,(k.block _ (mV.1 c).1 ln).H c,⟨d.1,?_⟩,l⟩;rcases d.2 with r|⟨g,n,i,f,j,o,e,q⟩
  .exact .inl r
  .exact .inr ⟨g,n,i,f,j,o,(k.block g (mV.1 e).1 ln).H e,q⟩
 exact⟨h.1.imp (b _) (b _),h.2.H k⟩
def Ht(s x:bN):Lib.strCells (s++x)=Lib.strCells s++Lib.strCells x:=by simp[Lib.strCells,qk]
def OL(h:j4 v s w)(f:v.heap.size=n)(x:bN)(b:s.size+x.size<=140737488355328):
  rE rF 75 #[jj (V ⟨n,0,Y⟩),O x] w λe a=>e=j1 (.tuple #[X .i64 x.size,.nilIface])/\j4 v (s++x) a:=by
 subst f;refine(ev _ _ _ x w h.1 (by rw[Lib.strCells_length];exact b) h.2.size).G ?_;rintro e a ⟨rfl,d,c,_⟩;refine⟨rfl,j3 ?_,Ip h.2 c⟩;rw[Ht];exact d
def Se(h:j4 v s w)(j:v.heap.size=n)(d c)(b:(d.toNat:Int)=c)(f:s.size+1<=140737488355328):
  rE rF 77 #[jj (V ⟨n,0,Y⟩),X .u8 c] w λe a=>e=j1 .nilIface/\j4 v (s++⟨#[d]⟩) a:=by
 subst j b;refine(bY _ _ _ _ w h.1 (by rw[Lib.strCells_length];exact f) h.2.size).G ?_;rintro e a ⟨rfl,i,g,_⟩;refine⟨rfl,j3 ?_,Ip h.2 g⟩;rw[Ht];exact i
def bm(h:j4 v s w)(c:v.heap.size=n):
  rE rF 78 #[jj (V ⟨n,0,Y⟩)] w λe a=>e=j1 (O s)/\Ac [] v a:=by
 subst c;refine(PJ _ _ _ w h.1 h.2.size).G ?_;rintro e a ⟨rfl,_,b,_⟩;exact⟨ln,Ip h.2 b⟩
def Pu:∀k s,(FQ k s).size<=s.size
 |0,s=>mt _
 |k+1,s=>by
  rw[FQ];split
  .have:=Pu k (s.extract 1 s.size);rw[nT]at this;omega
  exact lc
def MV(s):(B3 s).size<=s.size:=by
 unfold B3;split
 .exact Pu _ _
 exact lc
def N8:∀l s b,(∀x∈l,x.size<=1000000)->(D0 s b l).size<=s.size+Z l*1000001
 |[],s,b,_=>by simp[D0]
 |x::l,s,b,h=>by
  rw[D0];have d:=N8 l (s++(if b then⟨#[44]⟩else⟨#[40]⟩)++B3 x) true (λy c=>h y (mP _ c));have e:=MV x;have f:=h x (m9 ..);have a:(if b then⟨#[44]⟩else⟨#[40]⟩:bN).size=1:=by cases b<;>rfl
  rw[mj,mj,a]at d;exact li
def Ro{p}(a:Z p.dN<=1000)(c:∀x∈p.dN,x.size<=1000000)(f:p.a.size<=1000000):(Fx p).size<=2000000000:=by
 unfold Fx;have d:=N8 p.dN p.a false c;have b:(⟨#[41,46]⟩:bN).size=2:=rfl;exact li
set_option maxRecDepth 100000
theorem Lz(p w)(h:C6 w p)(hl:Z p.f.dN<=1000)(M:∀x∈p.f.dN,x.size<=1000000)(AT:p.f.a.size<=1000000):rE rF 76 #[.agg (AJ p).toArray] w λe Q=>e=j1 (O (Fx p.f))/\Ac [] w Q:=by
 obtain⟨⟨n,a⟩,tv⟩:=p;have Ax:Hid (∀x∈a,x.size<=1000000):=M;simp at hl AT;obtain⟨l,m,e⟩:=Aj h;simp at e;subst e;have HA:Hid (kt w 0 170 1 (U l (Z a) m) (Z a) (qS Ai a)):=h;obtain⟨R,D⟩:=kQ (Fx ⟨n,a⟩);rw[D];have L:Hid (D0 n (decide (0<0)) (a.drop 0)++⟨_⟩=R):=D;have B:=Ab (kS w [O n,U l (Z a) m] 104);have C:=Ab ((kR [] w).alloc (Y6 #[O n,U l (Z a) m] 104));have j:Hid ((w.alloc (Y6 #[O n,U l (Z a) m] 104)).heap.size=w.heap.size+1):=se
 have b:=Ab (OL (j4.new _) (Aa j) n li);clear h D M;simp only[AJ];go_enter func76,ntmps76;go_wp2_with fail
 refine b.G ?_;clear b;rintro _ w2 ⟨rfl,c⟩;rw[ByteArray.empty_append]at c;have b:=Ab c;clear c;have z:=(B.C b.2).D 1;simp at z;generalize w.alloc (Y6 #[O n,U l (Z a) m] 104)=w1 at B C j b;generalize w.heap.size=N at B j z|-;go_wp2
 go_loopg [12] (Z a) (λgk i wr=>∃(k:Nat) (s:bN),i=X .i64 k/\k<=Z a/\gk=Z a-k/\s.size<=1000000+k*1000001/\Hid (D0 s (decide (0<k)) (a.drop k)++⟨#[41,46]⟩=R)/\Hid (j4 w1 s wr))
 case atStart=>exact⟨0,n,rfl,lc,rfl,lc,L,b⟩
 case round=>
  clear L b z;obtain⟨k,s,rfl,hk,I,B0,t,b⟩:=hrel;have F:=Ab I;clear I;have A1:k*1000001<=1000*1000001:=m5 _ lc;by_cases u:k<Z a
  .obtain⟨g,BA,P,d0⟩:=Nt (Ad HA (C.H b.2)) k u;obtain⟨rfl,_,rfl⟩:=qX P;have hx:=Aa Ax a[k] (lV u);have hy:=MV a[k];have o:Hid (D0 (s++(if decide (0<k)then⟨#[44]⟩else⟨#[40]⟩)++B3 a[k]) true (a.drop (k+1))++⟨#[41,46]⟩=R):=by
    have h:=Aa t;rw[mu u,D0]at h;exact h
   have A:=Ab (λw=>Kf a[k] w hx);obtain⟨T,G⟩:=kQ (B3 a[k]);rw[G]at hy o A;have BS:(⟨#[40]⟩:bN).size=1:=rfl;have BT:(⟨#[44]⟩:bN).size=1:=rfl;clear t G;by_cases v:k=0
   ·(have S:((k:Int)==0)=true:=by rw[v];rfl);have y:Hid (D0 (s++⟨#[40]⟩++T) (decide (0<k+1)) (a.drop (k+1))++⟨#[41,46]⟩=R):=by
     have h:=Aa o;rw[nC (show¬0<k by omega)]at h;exact h
    have d:=Ab (Se b j 40 40 rfl lc);clear o v b;(go_wp2_with fail);refine d.G ?_;clear d;rintro _ r ⟨rfl,c⟩;have b:=Ab c;clear c;have d:=Ab (OL b j T li);have q:=Ab (A r);(go_wp2_with fail);refine q.G ?_;rintro _ _ ⟨rfl,rfl⟩;clear q;(go_wp2_with fail);refine d.G ?_;clear d b;rintro _ E ⟨rfl,c⟩;have b:=Ab c;clear c;go_wp2
    go_roundg (Z a-(k+1))
    case measure=>exact qu
    case rel=>exact⟨k+1,_,ly,lc,rfl,li,y,b⟩
   ·(have S:((k:Int)==0)=false:=li);have y:Hid (D0 (s++⟨#[44]⟩++T) (decide (0<k+1)) (a.drop (k+1))++⟨#[41,46]⟩=R):=by
     have h:=Aa o;rw[oy lc]at h;exact h
    have d:=Ab (Se b j 44 44 rfl lc);clear o v b;(go_wp2_with fail);refine d.G ?_;clear d;rintro _ r ⟨rfl,c⟩;have b:=Ab c;clear c;have d:=Ab (OL b j T li);have q:=Ab (A r);(go_wp2_with fail);refine q.G ?_;rintro _ _ ⟨rfl,rfl⟩;clear q;(go_wp2_with fail);refine d.G ?_;clear d b;rintro _ E ⟨rfl,c⟩;have b:=Ab c;clear c;go_wp2
    go_roundg (Z a-(k+1))
    case measure=>exact qu
    case rel=>exact⟨k+1,_,ly,lc,rfl,li,y,b⟩
  .have HE:Hid (s++⟨#[41,46]⟩=R):=by
    have h:=Aa t;rw[mN lc]at h;exact h
   have B9:(⟨#[41,46]⟩:bN).size=2:=rfl;have d:=Ab (OL b j ⟨#[41,46]⟩ lc);clear b t;(go_wp2_with fail);refine d.G ?_;clear d;rintro _ r ⟨rfl,c⟩;rw[Aa HE]at c;have d:=Ab (bm c j);clear c;(go_wp2_with fail);refine d.G ?_;clear d;rintro _ E ⟨rfl,H⟩;have W:=Ab (C.H H);clear H;go_wp2;go_ret;exact⟨rfl,W⟩
theorem Pv(S z F I)(a:kN D5)(w)(W:w.cell? ⟨S,z,Y⟩=V (U F (Z a) I))(h:Ic w (U F (Z a) I) a)(B2:Z a<=10000)(l:∀p∈a,p.f.a.size<=1000000/\∀x∈p.f.dN,x.size<=1000000):rE rF 42 #[jj (V ⟨S,z,Y⟩)] w λe t=>e=j1 (O (Ts ky (a.map D5.f)))/\Ac [] w t:=by
 have HS:=Ab h;have HT:Hid (∀(p:D5) wr,p∈a->Ac [] w wr->rE rF 76 #[.agg (AJ p).toArray] wr λe t=>e=j1 (O (Fx p.f))/\Ac [] wr t):=λp wr c B=>Lz p wr ((h.j p c).1.C B) (h.j p c).2 (l p c).2 (l p c).1
 have AT:Hid (∀p∈a,(Fx p.f).size<=2000000000):=λp c=>Ro (h.j p c).2 (l p c).2 (l p c).1
 obtain⟨R,y⟩:=kQ (Ts ky (a.map D5.f));rw[y];have G:Hid (Ts ky ((a.drop 0).map D5.f)=R):=y;have b:=Ab (j4.new w);have A0:=Ab W;clear h y l W;have B0:(⟨#[10]⟩:bN).size=1:=rfl;have c1:=b.2.cellAt A0;obtain⟨N,T⟩:=kQ w.heap.size;have HN:=Ab T;clear T;go_enter func42,ntmps42;go_wp2
 go_loopg [11] (Z a) (λgk i wr=>∃(k:Nat) (s:bN),i=X .i64 k/\k<=Z a/\gk=Z a-k/\s.size<=k*2000000001/\Hid (Ts s ((a.drop k).map D5.f)=R)/\Hid (j4 w s wr))
 case atStart=>exact⟨0,ky,rfl,lc,rfl,ln,G,b⟩
 case round=>
  clear G b c1;obtain⟨k,s,rfl,B,E,B9,q,b⟩:=hrel;have HG:=Ab E;clear E;have Bx:k*2000000001<=10000*2000000001:=m5 _ lc;by_cases o:k<Z a
  .obtain⟨g,BT,n,v,H,Q,P,M,d0,d1⟩:=JO (HS.C b.2) k o;obtain⟨rfl,_,rfl⟩:=qX P;have j:=Ab (HT a[k] _ (lV o) (b.2.alloc (Y6 #[O n,U H (Z v) Q] 104)));have d:=Ab (b.C ((kR [] wr).alloc (Y6 #[O n,U H (Z v) Q] 104)));have u:=Aa AT a[k] (lV o);have r:Hid (Ts (s++Fx a[k].f++⟨#[10]⟩) ((a.drop (k+1)).map D5.f)=R):=by
    have h:=Aa q;rw[mu o,mA,Ts]at h;exact h
   rw[M]at j u r;simp only[AJ]at j u r;generalize Fx ⟨n,v⟩=FT at j u r;clear M q b;(go_wp2_with fail);refine j.G ?_;rintro _ w3 ⟨rfl,C⟩;have L:=Ab (OL (d.C C) rfl FT lc);clear j C d;(go_wp2_with fail);refine L.G ?_;clear L;rintro _ w4 ⟨rfl,m⟩;have A:=Ab (Se m rfl 10 10 rfl (by rw[mj];omega));clear m;(go_wp2_with fail);refine A.G ?_;clear A;rintro _ w5 ⟨rfl,m⟩;have b:=Ab m;clear m;go_wp2
   go_roundg (Z a-(k+1))
   case measure=>exact qu
   case rel=>exact⟨k+1,_,ly,lc,rfl,by rw[mj,mj];omega,r,b⟩
  .have HE:Hid (s=R):=by
    have h:=Aa q;rw[mN lc]at h;exact h
   have d:=Ab (bm b rfl);rw[Aa HE]at d;clear b q;(go_wp2_with fail);refine d.G ?_;clear d;rintro _ w4 ⟨rfl,D⟩;have HF:=Ab D;clear D;go_wp2;go_ret;exact⟨rfl,HF⟩
end
section
open Go.Shelf Go.RowKit
open Go.Proofs.Tryz
variable{P:Program}{a:Act}{Q:Exit->Act->jH->Prop}{o:rB}{n:Nat}{w v u:jH}{z:jR}
def Lp(N:Nat)(s:bN)(M:kN Nat)(w:jH):Prop:=
 ∃(p:jR) (ad:rB) (cp:Nat),(p=jj Y\/p=jj (V ⟨N,0,Y⟩))/\AF w N [p,U ad s.size cp] 145/\kt w (N+1) 5 1 (U ad s.size cp) s.size (Lib.strCells s)/\M=N::qV (qW (U ad s.size cp))
def Lp.lt{N}{s}{M}{w}(h:Lp N s M w):∀k∈M,N<=k/\k<w.heap.size:=by
 obtain⟨p,e,d,_,c,b,rfl⟩:=h;intro k a;rcases l9.1 a with rfl|a
 .exact⟨mt _,c.lt⟩
 .have:=b.lt k sA;omega
def Lp.C{N:Nat}{s:bN}{M L:kN Nat}{w w':jH}(h:Lp N s M w)(k:Ac L w w')(a:∀i∈M,i∉L:=by simp):Lp N s M w':=by
 obtain⟨p,g,d,b,e,c,rfl⟩:=h;exact⟨p,g,d,b,e.C k (a N ln),Ag c k (λi f=>a i (by simp[f])),rfl⟩
def Lp.new(w:jH):Lp w.heap.size ky [w.heap.size] (w.alloc (Y6 #[jj Y,U Y 0 0] 145)):=
 ⟨jj Y,Y,0,j2 rfl,kS w [jj Y,U Y 0 0] 145,mw _ _ _ _,rfl⟩
def ae:Lays.n240 rF jg:={aP with}
def Jd(N p v w)(b:p=jj Y\/p=jj (V ⟨N,0,Y⟩))(h:AF w N [p,v] 145):
  rE rF 125 #[jj (V ⟨N,0,Y⟩)] w λe a=>e=j1 (.tuple #[])/\AF a N [jj (V ⟨N,0,Y⟩),v] 145/\Ac [N] w a:=by
 rcases b with rfl|rfl
 .refine(Any.Builder_copyCheck_fresh ae ju.toX72 N w (h.D 0) (by unfold AF at h;simp[World.shape?,h];rfl) (h.qI 0)).G ?_;rintro e a ⟨rfl,rfl⟩;exact⟨rfl,h.set 0 _,(kR _ w).setCell ln _⟩
 .refine(Any.Builder_copyCheck_used ae ju.toX72 N w (h.D 0)).G ?_;rintro e a ⟨rfl,rfl⟩;exact⟨rfl,h,kR _ _⟩
def ej(N:Nat)(s:bN)(M:kN Nat)(w w':jH):Prop:=∃M',Lp N s M' w'/\Ac M w w'/\∀k∈M',(k∈M\/w.heap.size<=k)/\k<w'.heap.size
set_option maxRecDepth 100000
theorem UI(N s M d w)(h:Lp N s M w)(hl:s.size+1<=140737488355328):rE rF 77 #[jj (V ⟨N,0,Y⟩),X .u8 (d.toNat:Int)] w λe B=>e=j1 .nilIface/\ej N (s++⟨#[d]⟩) M w B:=by
 obtain⟨P,T,C,G,Q⟩:=mW Tryz.zx;obtain⟨p,r,y,t,z,l,rfl⟩:=h;have n:=Ab (Jd N p _ w t z);have F:=l.lt;clear t z;go_enter func77,ntmps77;go_wp2_with fail
 refine n.G ?_;rintro _ a ⟨rfl,b,f⟩;have A:=Ag l f (λi R v=>by simp at v;subst v;have:=(l.lt i R).1;omega);have L:=b.D 1;have f1:=b.qI 1;simp at L;have AR:=f.size;have AO:=b.lt;clear n F;go_wp2_with (at_builtin;refine mE _ rfl (.tmp 11) (.tmp 13) _ rfl (N+1) 5 P _ 1 1 underlying143 T C G Q rfl lc (U r s.size y) s.size (Lib.strCells s) rfl (A.alloc _) ⟨a.heap.size,0,Y⟩ 1 1 [X .u8 (d.toNat:Int)] rfl rfl (mz (mG a _)) lC lc lw lc li (a.heap.size+1) ln ?_;intro x u S o m I AB;have g:=(b.alloc (Y6 #[X .u8 (d.toNat:Int)] 5)).grown m (λe=>by have:=(A.lt N e).1;omega);have D:=g.D 1;have W:=g.qI 1;simp at D)
 go_ret;refine⟨rfl,N::qV (qW (U (V ⟨x,0,Y⟩) (s.size+1) u)),?_,?_,?_⟩
 .have j:(s++⟨#[d]⟩:bN).size=s.size+1:=by rw[mj];rfl
  refine⟨_,V ⟨x,0,Y⟩,u,j3 rfl,by rw[j];exact g.set 1 _,?_,by rw[j]⟩;rw[j,Ht];exact Ah o (λh=>by have:=(o.lt _ h).1;simp at this;omega) _
 .have H:=((f.G (N:=N::qV (qW (U r s.size y))) ln).alloc (Y6 #[X .u8 (d.toNat:Int)] 5)).grown m (λq E=>j2 (by simp[E]));exact H.setCell (j2 ln) _
 .intro k c;have Ax:a.heap.size<=S.heap.size:=by have:=m.size;simp at this;omega
  rcases l9.1 c with rfl|c
  .exact⟨j2 ln,li⟩
  .simp only[kE,Option.toList_some,lX]at c;subst c;refine⟨?_,li⟩;rcases I with h|h
   .exact j2 (by simp[h])
   .exact j3 lc
def SU(w j f i)(o:rF.info? 5=V i)(r:i.zero=V (X .u8 0))(p:i.size=1)(t:i.bytes=1)(v n)(m:kN jR)(h:kt w j 5 1 v n m)(s:bN)(z:n+s.size<=140737488355328)(B:j<=w.heap.size):
  ∃c b,(Builtin.append_ #[143,9] f #[v,O s]).run rF w=.ok c b/\kt b j 5 1 c (n+s.size) (m++Lib.strCells s)/\w.grownBy b v.ownBlock/\∀g,c.ownBlock=V g->v.ownBlock=V g\/w.heap.size<=g:=by
 obtain⟨c,b,l,C,x,D⟩:=Lib.run_append_own_string (P:=rF) w j 143 9 f 5 i underlying143 underlying9 o r p t v n m h s lw z B;refine⟨c,b,l,C,x,λg a=>?_⟩;rcases h.2 with⟨rfl,rfl⟩|⟨q,k,u,rfl,H,F,I,G,E,L⟩
 .by_cases y:s.size=0
  .exact qr
  .have e:=run_append_nil_string (P:=rF) w 143 9 f 5 i _ underlying143 underlying9 o r s lc lc (by rw[t];omega);rw[l]at e;have d:=(Result.ok.inj e).1;rw[d]at a;simp[kE]at a;exact lc
 .by_cases A:n+s.size<=k
  ·have e:=Lib.run_append_room_string (P:=rF) w 143 9 f 5 i underlying143 underlying9 o p q n k u F s A lc;rw[l]at e;have d:=(Result.ok.inj e).1;rw[d]at a;exact j2 a
  .have e:=Lib.run_append_grow_string (P:=rF) w 143 9 f 5 i _ underlying143 underlying9 o r _ n k m (by rw[p];simpa using h.1) (h.cells (g:=q) rfl) s lc lc (by rw[t];exact growslice_fits lc lc);rw[l]at e;have d:=(Result.ok.inj e).1;rw[d]at a;simp[kE]at a;exact lc
def wpList_append_run{w d}{b}{f:kN Oper}{o}(g:o.guard=Y)(c x t u)(i:o.op=.call {callee:=.builtin .append,args:=#[c,x],argTypes:=#[t,u]}){v e y}(l:a.eval c=v)(m:a.eval x=y)(j:(Builtin.append_ #[t,u] o.type #[v,y]).run P w=.ok e d)(h:wpList P b Q f (a.put o.dst e) d):wpList P b Q (o::f) a w:=by
 refine wpList_plain g λn k=>?_
 unfold Oper.wp execOp;simp only[i,resolve,invoke,builtin,pL,Sem.run_pure,Result.andThen_ok,List.map_toArray,mA,om,l,m,j];exact k _ _ h
def Rf{N}{s x:bN}(D:kt w (N+1) 5 1 (U o s.size n) s.size (Lib.strCells s))(r:AF v N [jj (V ⟨N,0,Y⟩),U o s.size n] 145)(l:Ac [N] w v)(q:kt v (N+1) 5 1 (U o s.size n) s.size (Lib.strCells s))(b:kt u (N+1) 5 1 z (s.size+x.size) (Lib.strCells s++Lib.strCells x))(j:Ac (qV (qW (U o s.size n))) v u)(p:∀g,z.ownBlock=V g->(U o s.size n).ownBlock=V g\/v.heap.size<=g):
  ej N (s++x) (N::qV (qW (U o s.size n))) w (u.setCell ⟨N,1,Y⟩ z):=by
 have m:=r.C j (λe=>by have:=(q.lt N (by simpa using e)).1;omega);have f:(s++x:bN).size=s.size+x.size:=mj;have B:=l.size;have E:=j.size;have A:=m.lt;obtain⟨c,d,rfl⟩:=Aj b;refine⟨N::qV (qW (U c (s.size+x.size) d)),?_,?_,?_⟩
 .refine⟨_,c,d,j3 rfl,by rw[f];exact m.set 1 _,?_,by rw[f]⟩;rw[f,Ht];exact Ah b (λh=>by have:=(b.lt _ h).1;simp at this;omega) _
 .have t:=(l.G (N:=N::qV (qW (U o s.size n))) ln).H (j.G (λi y=>mP _ y));exact t.setCell (j2 ln) _
 .intro k a;rcases l9.1 a with rfl|a
  .exact li
  ·have a:(U c (s.size+x.size) d).ownBlock=V k:=sA;have C:=(b.lt k a).2;refine⟨?_,li⟩;rcases p k a with h|h
   .exact j2 (by simp[h])
   .exact j3 lc
theorem XD(N s M)(x:bN)(w)(h:Lp N s M w)(F:s.size+x.size<=140737488355328):rE rF 75 #[jj (V ⟨N,0,Y⟩),O x] w λe u=>e=j1 (.tuple #[X .i64 x.size,.nilIface])/\ej N (s++x) M w u:=by
 obtain⟨C,I,v,A,E⟩:=mW Tryz.zx;obtain⟨p,S,cp,n,t,b,rfl⟩:=h;have l:=Ab (Jd N p _ w n t);clear n t;go_enter func75,ntmps75;go_wp2_with fail
 refine l.G ?_;rintro _ k ⟨rfl,a,d⟩;have c:=Ag b d (λi G r=>by simp at r;subst r;have:=(b.lt i G).1;omega);have B:=a.D 1;have Q:=a.qI 1;simp at B;have R:=a.lt;obtain⟨P,w5,o,f,j,m⟩:=SU k (N+1) 143 C I v A E _ _ _ c x F lc;obtain⟨T,W,rfl⟩:=Aj f;have D:=Ab o;have H:=Ab (Rf b a d c f ((kR _ k).grown j (λq z=>j2 (by simp[z]))) m);have g:=a.grown j (λe=>by have:=(c.lt N e).1;omega);have y:=g.D 1;have L:=g.qI 1;simp at y;clear l b a d c f j m g o;go_wp2_with (at_builtin;refine wpList_append_run rfl (.tmp 12) (.tmp 13) 143 9 rfl rfl rfl D ?_)
 go_ret2;exact⟨rfl,H⟩
theorem QB(N n a b)(c:kN jR)(d:rC)(w)(x:kt w (N+1) 5 1 (U a n b) n c)(j:d.toNat<=127)(C:n+1<=140737488355328)(H:N<w.heap.size):rE rF 143 #[U a n b,X .i32 (d.toNat:Int)] w λe f=>∃g i,e=j1 (U (V ⟨g,0,Y⟩) (n+1) i)/\kt f (N+1) 5 1 (U (V ⟨g,0,Y⟩) (n+1) i) (n+1) (c++[X .u8 (d.toNat:Int)])/\Ac (qV (qW (U a n b))) w f/\((U a n b).ownBlock=V g\/w.heap.size<=g):=by
 obtain⟨s,z,k,p,t⟩:=mW Tryz.zx;obtain⟨D,l⟩:∃D:Nat,d.toNat=D:=⟨_,rfl⟩;rw[l]at j|-;have E:IntKind.u32.wrap (D:Int)=D:=by rw[IntKind.wrap_u32];omega
 have A:IntKind.u8.wrap (D:Int)=D:=by rw[IntKind.wrap_u8];omega
 have F:(D:Int)<=127:=lc
 go_enter func143,ntmps143;go_wp2_with (at_builtin;refine mE _ rfl (.tmp 8) (.tmp 11) _ rfl (N+1) 5 s _ 1 1 underlying143 z k p t rfl lc (U a n b) n c rfl (x.alloc _) ⟨w.heap.size,0,Y⟩ 1 1 [X .u8 (D:Int)] rfl rfl (mz (mG w _)) lC lc lw lc li (w.heap.size+1) ln ?_;intro v u G o y r B)
 go_ret;exact⟨v,u,rfl,o,((kR _ w).alloc _).grown y (λq m=>j2 (by simp[m])),r.imp id (λh=>lc)⟩
theorem bO(N s M d w)(h:Lp N s M w)(H:d.toNat<=127)(T:s.size+1<=140737488355328):rE rF 95 #[jj (V ⟨N,0,Y⟩),X .i32 (d.toNat:Int)] w λe L=>(∃v,e=j1 v)/\ej N (s++⟨#[d]⟩) M w L:=by
 obtain⟨p,j,k,E,G,o,rfl⟩:=h;have A:=Ab (Jd N p _ w E G);clear E G;go_enter func95,ntmps95;go_wp2_with fail
 refine A.G ?_;rintro _ u ⟨rfl,c,t⟩;have r:=Ag o t (λi W F=>by simp at F;subst F;have:=(o.lt i W).1;omega);have R:=c.D 1;simp at R;have S:=c.lt;have y:=Ab (QB N s.size j k (Lib.strCells s) d u r H T S);have z:Hid (∀a g b,kt a (N+1) 5 1 (U (V ⟨g,0,Y⟩) (s.size+1) b) (s.size+1) (Lib.strCells s++[X .u8 (d.toNat:Int)])->Ac (qV (qW (U j s.size k))) u a->((U j s.size k).ownBlock=V g\/u.heap.size<=g)->ej N (s++⟨#[d]⟩) (N::qV (qW (U j s.size k))) w (a.setCell ⟨N,1,Y⟩ (U (V ⟨g,0,Y⟩) (s.size+1) b))/\AF a N [jj (V ⟨N,0,Y⟩),U j s.size k] 145):=by
  intro a g b m f n;exact⟨Rf (x:=⟨#[d]⟩) o c t r m f (λq B=>by simp[kE]at B;subst B;exact n),c.C f (λe=>by have:=(r.lt N (by simpa using e)).1;omega)⟩
 generalize(d.toNat:Int)=D at y z|-;clear A o c t r;go_wp2_with fail
 refine y.G ?_;rintro _ a ⟨g,b,rfl,m,f,n⟩;obtain⟨C,l⟩:=z a g b m f n;have P:=l.D 1;have yf:=l.qI 1;simp at P;have Q:=(l.set 1 (U (V ⟨g,0,Y⟩) (s.size+1) b)).D 1;simp at Q;have I:=Ab C;clear C l z y m f n;go_wp2;go_ret2;exact⟨⟨_,rfl⟩,I⟩
def Xl(N s M w)(h:Lp N s M w):
  rE rF 78 #[jj (V ⟨N,0,Y⟩)] w λe a=>e=j1 (O s)/\Below N w a/\Lib.OthersKept 5 (V N) w a:=by
 obtain⟨p,l,i,f,c,b,rfl⟩:=h;have d:Lib.BuilderAtF 145 5 N N p (Lib.byteCells s.data.toList) w:=by
  have k:Z (Lib.byteCells s.data.toList)=s.size:=by rw[Lib.byteCells_length];rfl
  refine⟨mt _,_,c,?_,λe=>by have:=(b.lt N e).1;omega⟩;rw[k];exact World.ownsRowF_of (Ak b lc)
 refine(PJ N N s.data.toList w ?_ (Nat.le_of_lt c.lt)).G ?_
 .rcases f with rfl|rfl
  .exact j2 d
  .exact j3 d
 exact qr
end
section
section
variable {P:Program} {ops:Array Oper} {Q:Exit->Act->jH->Prop} {l n:Nat}
def DS(os:kN Oper):rD:=os.all λo=>match o.op with| .defer _=>K|_=>T6
def Sr{o:Oper}(h:(match o.op with| .defer _=>K|_=>T6)=T6):∀c,o.op≠ .defer c:=λc e=>by rw[e]at h;cases h
def Si{o:Oper}{a}{w}{d}(f:∀c,o.op≠ .defer c)(h:o.wp P a w d Q):o.wpIn (Fence.wide.inRound l) n P a w d Q:=by
 refine⟨λ_ _=>trivial,?_⟩;have e:o.semAt (Fence.wide.inRound l).round a.eval=execOp _ o:=Oper.semAt_eq _ _ _ f;rw[e];unfold Oper.wp at h;generalize(execOp a.eval o).run P w=r at h;have b:((Fence.wide.inRound l).depth.isSome=T6->1<=n):=λh=>oj
 cases r with
 |ok x w'=>
  cases x<;>simp only[Oper.upon]at h<;>first
   |exact h
   |exact⟨b,CallsIn.inRound l (callsIn_wide.2 h)⟩
   |exact⟨b,λc g _=>let ⟨v,w'',r,s⟩:=h c g;⟨v,w'',r,stepsIn_wide.2 s⟩⟩
 |halt x w'=>cases x<;>exact oa<;>exact h
def jC{o:Oper}{a}{w}{d}(h:o.wp P a w d Q):o.wpIn Fence.wide n P a w d Q:=by
 refine⟨λ_ _=>trivial,?_⟩;have e:o.semAt Fence.wide.round a.eval=execOp _ o:=Oper.semAt_none _ _;rw[e];unfold Oper.wp at h;generalize(execOp a.eval o).run P w=r at h;have b:(Fence.wide.depth.isSome=T6->1<=n):=λh=>oj
 cases r with
 |ok x w'=>
  cases x<;>simp only[Oper.upon]at h<;>first
   |exact h
   |exact⟨b,callsIn_wide.2 h⟩
   |exact⟨b,λc f _=>let ⟨v,w'',r,s⟩:=h c f;⟨v,w'',r,stepsIn_wide.2 s⟩⟩
 |halt x w'=>cases x<;>exact oa<;>exact h
def Iv(j:¬LetsOut Q)(f:kN Oper):∀b,DS b=T6->∀a w,
  wpList P ops (Exit.then (wpListIn (Fence.wide.inRound l) n P ops Q f) Q) b a w->wpListIn (Fence.wide.inRound l) n P ops Q (b++f) a w
 |[],_,a,w,h=>h
 |o::b,hp,a,w,h=>by
  have k:DS b=T6:=by
   unfold DS at hp|-;rw[pD,mC]at hp;exact hp.2
  have s:∀c,o.op≠ .defer c:=by
   unfold DS at hp;rw[pD,mC]at hp;exact Sr hp.1
  rw[nS];unfold wpListIn;unfold wpList at h;split
  .rename_i g;rw[mo g]at h;rcases h with h|h
   .refine Si s (Oper.wp_mono (λi d m=>Iv j f b k i d m) ?_);exact oa
   .obtain⟨_,i,d,p⟩:=h;exact rl ⟨i,d,p⟩ j
  .rename_i g;rw[mm g]at h;exact⟨λ_ _=>trivial,Iv j f b k _ w h⟩
def L2(i:¬LetsOut Q)(d:kN Oper):∀(c:kN Oper) (a) (w),
  wpList P ops (Exit.then (wpListIn Fence.wide n P ops Q d) Q) c a w->wpListIn Fence.wide n P ops Q (c++d) a w
 |[],a,w,h=>h
 |o::c,a,w,h=>by
  rw[nS];unfold wpListIn;unfold wpList at h;split
  .rename_i f;rw[mo f]at h;rcases h with h|h
   .refine jC (Oper.wp_mono (λg b j=>L2 i d c g b j) ?_);exact oa
   .obtain⟨_,g,b,k⟩:=h;exact rl ⟨g,b,k⟩ i
  .rename_i f;rw[mm f]at h;exact⟨λ_ _=>trivial,L2 i d c _ w h⟩
def AM{f}{b}{a}{w}(d:DS b=T6)(g:¬LetsOut Q)(h:wpList P (Za b) Q b a w):
  (Code.region f (Za b) K).wpIn (Fence.wide.inRound l) n P Q a w:=by
 refine wpIn_region_lit ?_;have c:=Iv (P:=P) (ops:=Za b) (Q:=Q) (l:=l) (n:=n) g [] b d a w (by
  have i:Exit.then (wpListIn (Fence.wide.inRound l) n P (Za b) Q []) Q=Q:=by
   funext e a w
   cases e<;>rfl
  rw[i]
  exact h)
 rw[mQ]at c;exact c
def NK{g}{b c d:kN Oper}{a}{w}(i:b=c++d)(f:DS c=T6)(j:¬LetsOut Q)(h:wpList P (Za b) (Exit.then (wpListIn (Fence.wide.inRound l) n P (Za b) Q d) Q) c a w):
  (Code.region g (Za b) K).wpIn (Fence.wide.inRound l) n P Q a w:=by
 refine wpIn_region_lit ?_;have e:=Iv (P:=P) (ops:=Za b) (Q:=Q) (l:=l) (n:=n) j d c f a w h;rw[<-i]at e;exact e
def OO{f}{b c d:kN Oper}{a}{w}(g:b=c++d)(i:¬LetsOut Q)(h:wpList P (Za b) (Exit.then (wpListIn Fence.wide n P (Za b) Q d) Q) c a w):
  (Code.region f (Za b) K).wp P Q a w:=by
 refine wpIn_wide.1 (wpIn_region_lit (n:=n) ?_);have e:=L2 (P:=P) (ops:=Za b) (Q:=Q) (n:=n) i d c a w h;rw[<-g]at e;exact e
def Mp(f:¬LetsOut Q){p}(d:DS ops.toList=T6):∀e j a w,wpAny P p ops Q e j a w->wpAnyIn (Fence.wide.inRound l) n P p ops Q e j a w
 |0,_,_,_,h=>h
 |e+1,j,a,w,h=>by
  refine⟨h.1,λi s=>?_⟩;have b:=h.2 i s;unfold wpOp at b;unfold wpOpIn;cases ho:ops[i]? with
  |none=>
   rw[ho]at b;exact Mp f d e _ a w b
  |some o=>
   rw[ho]at b;have t:∀c,o.op≠ .defer c:=by
    unfold DS at d;rw[nI]at d;refine Sr (d o ?_);have:=Array.mem_of_getElem? ho;exact li
   simp only at b|-;split
   .rename_i g;rw[mo g]at b;rcases b with b|b
    .exact Si t (Oper.wp_mono (λm k q=>Mp f d e _ m k q) b)
    exact qr
   .rename_i g;rw[mm g]at b;exact⟨λ_ _=>trivial,Mp f d e _ _ w b⟩
def DZ{c}{a}{w}(k S)(e:P.follows .mixedOrders=T6)(b:DS ops.toList=T6)(d:¬LetsOut Q)(h:Cw P .any ops Q S k ops.size (Array.replicate ops.size K) a w.drew):(Code.region c ops T6).wpIn (Fence.wide.inRound l) n P Q a w:=
 wpIn_region_any e (Mp d b _ _ _ _ (Cw.any _ _ _ _ h))
end
end
section
variable{Q:Exit->Act->jH->Prop}{w v:jH}{n:Nat}
abbrev EJ(D:Nat):Deferred:={target:=.collected D,args:=#[]}
def ke{α:Type}(P:Program)(l:Nat)(encs:α->Array jR)(xs:kN α)(J Jx:kN α->kN Nat->jH->Prop):Prop:=
 ∀pre x rest M W1,xs=pre++x::rest->J pre M W1->YieldAt Fence.wide 0 P l (encs x) W1 λe W'=>
  (e=j1 (kx T6)/\∃M',J (pre++[x]) M' W'/\Ac M W1 W'/\∀k∈M',(k∈M\/W1.heap.size<=k)/\k<W'.heap.size)\/
  (e=j1 (kx K)/\∃M',Jx (pre++[x]) M' W'/\Ac (l::M) W1 W')
def K0{α:Type}(P:Program)(g:Nat)(lb:Array jR)(encs:α->Array jR)(xs:kN α)(M0:kN Nat)(w:jH):Prop:=
 ∀(l:Nat) (J Jx:kN α->kN Nat->jH->Prop) (W:jH),Ac [] w W->w.heap.size<=l->l<W.heap.size->
  OwnFrom W.heap.size (fun(s:kN α×kN Nat) W=>J s.1 s.2 W)->OwnFrom W.heap.size (fun(s:kN α×kN Nat) W=>Jx s.1 s.2 W)->
  ke P l encs xs J Jx->J [] M0 W->
  rE P g (#[.func (.yield l) #[] #[]]++lb) W λe W'=>(∃v,e=j1 v)/\((∃M',J xs M' W')\/(∃pre M',Jx pre M' W'))
def Mi{α:Type}(I:kN α->kN Nat->jH->Prop)(Ix:Code->kN α->kN Nat->jH->Prop)(xs:kN α)(M:kN Nat)(W:jH):Exit->Act->jH->Prop
 | .normal,_,W'=>Ac M W W'/\∃M',I xs M' W'/\∀k∈M',(k∈M\/W.heap.size<=k)/\k<W'.heap.size
 | .ret,_,W'=>Ac M W W'/\∃M',Ix .ret xs M' W'
 | .exit id,_,W'=>Ac M W W'/\∃M',Ix (.exit id) xs M' W'
 | .goto t,_,W'=>Ac M W W'/\∃M',Ix (.goto t) xs M' W'
 | .panic _,_,_=>False
 | .outgrown,_,_=>False
def G8{b}(h:¬LetsOut Q):¬LetsOut (Exit.then b Q):=fun⟨a,w,q⟩=>h ⟨a,w,q⟩
def FY:¬LetsOut (fun(_:Exit) (_:Act) (_:jH)=>False):=fun⟨_,_,q⟩=>q
def Ac.grow(k:Ac [] w v):w.grownBy v Y:=⟨k.os,k.tape,k.output,k.size,λi a _=>k.block i a ln⟩
def Bz{β}{I}(h:OwnFrom n I){s:β}(a:I s w)(k:Ac [] w v):I s v:=h s w v Y a k.grow (λr e=>by cases e)
def kq{α:Type}(P:Program)(l:Nat)(Off:α->Array jR->jH->Prop)(xs:kN α)(J Jx:kN α->kN Nat->jH->Prop):Prop:=
 ∀pre x rest M W1 vs,xs=pre++x::rest->J pre M W1->Off x vs W1->YieldAt Fence.wide 0 P l vs W1 λe W'=>
  (e=j1 (kx T6)/\∃M',J (pre++[x]) M' W'/\Ac M W1 W'/\∀k∈M',(k∈M\/W1.heap.size<=k)/\k<W'.heap.size)\/
  (e=j1 (kx K)/\∃M',Jx (pre++[x]) M' W'/\Ac (l::M) W1 W')
def jT{α:Type}(P:Program)(g:Nat)(lb:Array jR)(Off:α->Array jR->jH->Prop)(xs:kN α)(M0:kN Nat)(w:jH):Prop:=
 ∀(l:Nat) (J Jx:kN α->kN Nat->jH->Prop) (W:jH),Ac [] w W->w.heap.size<=l->l<W.heap.size->
  OwnFrom W.heap.size (fun(s:kN α×kN Nat) W=>J s.1 s.2 W)->OwnFrom W.heap.size (fun(s:kN α×kN Nat) W=>Jx s.1 s.2 W)->
  kq P l Off xs J Jx->J [] M0 W->
  rE P g (#[.func (.yield l) #[] #[]]++lb) W λe W'=>(∃v,e=j1 v)/\((∃M',J xs M' W')\/(∃pre M',Jx pre M' W'))
variable {P:Program}
theorem Tp{α:Type}{g:Operand}{ps:Array Tmp}{assign body:Code}{Q:Exit->Act->jH->Prop}{a:Act}{w:jH}{gf:Nat}{lb:Array jR}{Off:α->Array jR->jH->Prop}{xs:kN α}{M0:kN Nat}
  (hg:a.eval g=.func (.func gf) #[] lb) (eg:∀args w,(callFunc gf args).run P w=.ok (.enter gf args) w)
  (b5:jT P gf lb Off xs M0 w) (c6:∀x vs W,Off x vs W->vs.size=ps.size) (a9:∀k∈M0,k<w.heap.size)
  (I:kN α->kN Nat->jH->Prop) (Ix:Code->kN α->kN Nat->jH->Prop)
  (hI:OwnFrom w.heap.size (fun(s:kN α×kN Nat) W=>I s.1 s.2 W)) (a2:∀c,OwnFrom w.heap.size (fun(s:kN α×kN Nat) W=>Ix c s.1 s.2 W)) (h0:I [] M0 w)
  (Ax:Nat->α->Act->jH->Prop) (c5:∀n0 x a',OwnFrom w.heap.size (fun(_:Unit) W=>Ax n0 x a' W))
  (a0:∀(l:Nat) (x:α) (vs:Array jR) (W:jH) (K:Act->jH->Prop),x∈xs->w.heap.size<=W.heap.size->Off x vs W->(∀a' W',Ac [] W W'->Ax W.heap.size x a' W'->K a' W')->
   assign.wpIn (Fence.wide.inRound l) 0 P (Exit.then K (λ_ _ _=>False)) {tmps:=(ps.zip vs).foldl (λt (p,v)=>t.setIfInBounds p v) a.tmps,defers:=[]} W)
  (b0:∀(l n0:Nat) (d:kN α) (x:α) (a4:kN α) (M:kN Nat) (a':Act) (W:jH),xs=d++x::a4->I d M W->(∀k∈M,k<n0)->w.heap.size<=n0->n0<=W.heap.size->Ax n0 x a' W->
   body.wpIn (Fence.wide.inRound l) 0 P (Mi I Ix (d++[x]) M W) a' W)
  (a8:∀(D:Nat) (u:kN Nat) (W:jH),w.heap.size<=D->I xs u W->W.heap[D]?=V (.deferred (V []))->(∀k∈u,k≠D)->Q .normal {a with defers:=EJ D::a.defers} W)
  (b3:∀(D:Nat) (c:Code) (d:kN α) (u:kN Nat) (W:jH),w.heap.size<=D->Ix c d u W->W.heap[D]?=V (.deferred (V []))->c.wp P Q {a with defers:=EJ D::a.defers} W):(Code.rangeFunc g ps assign body).wp P Q a w:=by
 refine wpIn_wide.1 (wpIn_rangeFunc (n:=1) ?_);intro fn _;obtain⟨f,j⟩:∃f:LoopState->Option Code->Loop,f=λst pe=>{state:=st,pending:=pe,fn,tmps:=a.tmps,params:=ps,assign,body,defers:=w.heap.size}:=⟨_,rfl⟩
 obtain⟨D,hD⟩:=kQ w.heap.size;obtain⟨W1,a1⟩:=kQ ((w.alloc (.deferred (V []))).alloc (.loop (f .ready Y)));have d2:W1.heap.size=D+2:=by rw[<-a1];simp;omega
 have b7:Ac [] w W1:=by rw[<-a1];exact((kR [] w).alloc _).alloc _
 have c1:W1.heap[D+1]?=V (.loop (f .ready Y)):=by
  rw[<-a1];have:=World.alloc_heap_new (w.alloc (.deferred (V []))) (.loop (f .ready Y))
  rwa [mJ,hD]at this
 have c8:W1.heap[D]?=V (.deferred (V [])):=by
  rw[<-a1];have h2:=World.alloc_heap_new w (.deferred (V []));rw[hD]at h2;have h3:=(kR [] (w.alloc (.deferred (V [])))).alloc (.loop (f .ready Y));rw[h3.block D li ln];exact h2
 refine⟨D+1,[EJ D],W1,{target:=.fn (.func gf) lb,args:=#[.func (.yield (D+1)) #[] #[]]},W1,gf,#[.func (.yield (D+1)) #[] #[]]++lb,W1,?_,?_,λ_ _=>trivial,?_,λh=>oj,?_⟩
 .rw[<-a1,j,<-hD];exact run_enterLoop_outer _ _ _ _ _
 .simp only[resolve,hg];simp[go_sem]
 .simp[invoke,go_sem,eg]
 refine callsIn_wide.2 ?_;have R:∀{A B:jH} {z:Option Nat} {k:Nat} {o:Obj},A.grownBy B z->(∀r,z=V r->W1.heap.size<=r/\∃o:Obj,A.heap[r]?=V o/\o.isCells=false)->k<W1.heap.size->A.heap[k]?=V o->B.heap[k]?=V o:=by
  intro A B z k o y F E ho;rw[y.block k (mV.1 ho).1 (λe=>by have:=(F k e.symm).1;omega)];exact ho
 have a7:∀{A:jH} {z:Option Nat},(∀r,z=V r->W1.heap.size<=r/\∃o:Obj,A.heap[r]?=V o/\o.isCells=false)->∀r,z=V r->w.heap.size<=r/\∃o:Obj,A.heap[r]?=V o/\o.isCells=false:=
  λF r e=>⟨by have:=(F r e).1;omega,(F r e).2⟩
 refine(b5 (D+1)
  (λd M W=>I d M W/\W.heap[D+1]?=V _/\W.heap[D]?=V _/\∀k∈M,k≠D/\k≠D+1/\k<W.heap.size)
  (λd M W=>∃c,Ix c d M W/\W.heap[D+1]?=V (.loop (f .done (V c)))/\W.heap[D]?=V (.deferred (V [])))
  W1 b7 lc lc
  (λs A B z hs y F=>⟨hI s A B z hs.1 y (a7 F),R y F lc hs.2.1,R y F lc hs.2.2.1,λk E=>⟨(hs.2.2.2 k E).1,(hs.2.2.2 k E).2.1,nR (hs.2.2.2 k E).2.2 y.size⟩⟩)
  (λs A B z hs y F=>by
   obtain⟨c,hc,T,hd⟩:=hs
   exact⟨c,a2 c s A B z hc y (a7 F),R y F lc T,R y F lc hd⟩)
  ?_ ⟨Bz hI (s:=([],M0)) h0 b7,c1,c8,λk E=>⟨by have:=a9 k E;omega,by have:=a9 k E;omega,by have:=a9 k E;omega⟩⟩).G ?_
 ·
  rintro d x a4 M W vs b6 ⟨hi,T,hd,hM⟩ a6;have c7:=(mV.1 T).1;have hy:=run_yield (P:=P) (args:=vs) T (by rw[j];exact c6 x vs W a6);rw[j]at hy;refine⟨fn,_,assign,body,hy,roundIn_of_wpIn trivial (a0 _ x vs W _ (by rw[b6];simp) lc a6 ?_)⟩;clear hy;intro a' Wa q c9;have b2:=(q.block _ c7 ln).H T;have c3:=(q.block _ lc ln).H hd;have c4:I d M Wa:=Bz hI (s:=(d,M)) hi q;refine⟨_,run_beginRound b2 (by rw[j]),?_⟩;have d1:=q.size;have b9:D+1<Wa.heap.size:=lc
  have d0:(Wa.putObj (D+1) _).heap[D+1]?=V (.loop {f .ready Y with state:=.busy}):=World.putObj_heap_same b9;have c2:(Wa.putObj (D+1) (.loop {f .ready Y with state:=.busy})).heap[D]?=V _:=(World.putObj_heap_other lc).H c3;have C:(Wa.putObj (D+1) (.loop {f .ready Y with state:=.busy})).heap.size=Wa.heap.size:=ln
  refine wpIn_mono (b0 _ _ d x a4 M a' _ b6 (hI.putObj (s:=(d,M)) _ c4 lc b2 rfl) (λk E=>(hM k E).2.2) lc li ((c5 _ x a').putObj (s:=()) _ c9 lc b2 rfl)) ?_;have a5:∀(i:Option Code) (G:jH),Ac M _ G->
    (Instr.endRound (D+1) i).run P G=.ok _ (G.putObj (D+1) (.loop (f _ i)))/\
    G.heap[D+1]?=V (.loop {f _ Y with state:=.busy})/\
    (G.putObj (D+1) (.loop (f (if i.isNone then .ready else .done) i))).heap[D+1]?=V (.loop (f _ i))/\
    (G.putObj (D+1) (.loop (f (if i.isNone then .ready else .done) i))).heap[D]?=V _:=λi G b=>by
   have m:=(b.block (D+1) (by rw[C];omega) (λh=>(hM _ h).2.1 rfl)).H d0;have c0:=(b.block D (by rw[C];omega) (λh=>(hM _ h).1 rfl)).H c2;have:=run_endRound (P:=P) i m;rw[j]at this|-;exact⟨this,by rw[j]at m;exact m,World.putObj_heap_same (mV.1 m).1,(World.putObj_heap_other lc).H c0⟩
  have fk:∀(o:Obj) (G:jH),Ac M _ G->Ac _ W (G.putObj (D+1) o):=λo G b=>by
   have b1:=b.size;rw[C]at b1;refine⟨b.os.H q.os,b.tape.H q.tape,b.output.H q.output,li,λk E S=>?_⟩;rw[l9,not_or]at S;rw[World.putObj_heap_other S.1,b.block k lc S.2,World.putObj_heap_other S.1,q.block k E ln]
  rintro e a3 G hp;cases e with
  |normal=>
   obtain⟨b,u,L,b8⟩:=hp;obtain⟨F,m,H,N⟩:=a5 Y G b;have b1:=b.size;refine⟨_,_,F,.inl ⟨rfl,u,⟨hI.putObj (s:=(d++[x],u)) _ L lc m rfl,H,N,λk E=>?_⟩,?_,λk E=>?_⟩⟩
   .have h1:=b8 k E;refine⟨λe=>?_,λe=>?_,li⟩
    .rcases h1.1 with h2|h2
     .exact(hM k h2).1 e
     .rw[C]at h2;omega
    .rcases h1.1 with h2|h2
     .exact(hM k h2).2.1 e
     .rw[C]at h2;omega
   .rw[C]at b1;refine⟨?_,?_,?_,li,λk E S=>?_⟩
    .exact b.os.H q.os
    .exact b.tape.H q.tape
    .exact b.output.H q.output
    .by_cases b4:k=D+1
     .subst b4;rw[H,T];rfl
     .rw[World.putObj_heap_other b4,b.block k li S,World.putObj_heap_other b4,q.block k E ln]
   .have h1:=b8 k E;rw[C]at h1;exact⟨h1.1.imp id (λh=>lc),li⟩
  |ret=>
   obtain⟨b,u,L⟩:=hp;obtain⟨F,m,H,N⟩:=a5 (V .ret) G b;exact⟨_,_,F,.inr ⟨rfl,u,⟨.ret,(a2 _).putObj (s:=(d++[x],u)) _ L lc m rfl,H,N⟩,fk _ G b⟩⟩
  |exit id=>
   obtain⟨b,u,L⟩:=hp;obtain⟨F,m,H,N⟩:=a5 (V (.exit id)) G b;exact⟨_,_,F,.inr ⟨rfl,u,⟨_,(a2 _).putObj (s:=(d++[x],u)) _ L lc m rfl,H,N⟩,fk _ G b⟩⟩
  |goto t=>
   obtain⟨b,u,L⟩:=hp;obtain⟨F,m,H,N⟩:=a5 (V (.goto t)) G b;exact⟨_,_,F,.inr ⟨rfl,u,⟨_,(a2 _).putObj (s:=(d++[x],u)) _ L lc m rfl,H,N⟩,fk _ G b⟩⟩
  |panic ch=>exact oa
  |outgrown=>exact oa
 ·
  rintro e W2 ⟨⟨v,rfl⟩,(⟨u,hi,T,hd,hM⟩|⟨d,u,c,hi,T,hd⟩)⟩
  .exact⟨Y,_,by have:=run_endLoop (P:=P) T (by rw[j];simp);rw[j]at this;exact this,a8 _ u _ lc (hI.putObj (s:=(xs,u)) _ hi lc T rfl) ((World.putObj_heap_other lc).H hd) (λk E=>(hM k E).1)⟩
  .exact⟨V c,_,by have:=run_endLoop (P:=P) T (by rw[j];simp);rw[j]at this;exact this,wpIn_wide.2 (b3 _ c d u _ lc ((a2 c).putObj (s:=(d,u)) _ hi lc T rfl) ((World.putObj_heap_other lc).H hd))⟩
def UL{α:Type}{g:Operand}{r:Array Tmp}{H G:Code}{Q:Exit->Act->jH->Prop}{a:Act}{w:jH}{m:Nat}{L:Array jR}{encs:α->Array jR}{n:kN α}{B:kN Nat}
  (S:a.eval g=.func (.func m) #[] L) (eg:∀F w,(callFunc m F).run P w=.ok (.enter m F) w)
  (N:K0 P m L encs n B w) (B0:∀x,(encs x).size=r.size) (BA:∀k∈B,k<w.heap.size)
  (I:kN α->kN Nat->jH->Prop) (j:Code->kN α->kN Nat->jH->Prop)
  (hI:OwnFrom w.heap.size (fun(s:kN α×kN Nat) W=>I s.1 s.2 W)) (BT:∀c,OwnFrom w.heap.size (fun(s:kN α×kN Nat) W=>j c s.1 s.2 W)) (R:I [] B w)
  (o:Nat->α->Act->jH->Prop) (A1:∀e x d,OwnFrom w.heap.size (fun(_:Unit) W=>o e x d W))
  (A2:∀(l:Nat) (x:α) (W:jH) (f:Act->jH->Prop),x∈n->w.heap.size<=W.heap.size->(∀d E,Ac [] W E->o W.heap.size x d E->f d E)->
   H.wpIn (Fence.wide.inRound l) 0 P (Exit.then f (λ_ _ _=>False)) {tmps:=(r.zip (encs x)).foldl (λt (p,v)=>t.setIfInBounds p v) a.tmps,defers:=[]} W)
  (CL:∀(l e:Nat) (b:kN α) (x:α) (C:kN α) (M:kN Nat) (d:Act) (W:jH),n=b++x::C->I b M W->(∀k∈M,k<e)->w.heap.size<=e->e<=W.heap.size->o e x d W->
   G.wpIn (Fence.wide.inRound l) 0 P (Mi I j (b++[x]) M W) d W)
  (AR:∀(D:Nat) (i:kN Nat) (W:jH),w.heap.size<=D->I n i W->W.heap[D]?=V (.deferred (V []))->(∀k∈i,k≠D)->Q .normal {a with defers:=EJ D::a.defers} W)
  (BS:∀(D:Nat) (c:Code) (b:kN α) (i:kN Nat) (W:jH),w.heap.size<=D->j c b i W->W.heap[D]?=V (.deferred (V []))->c.wp P Q {a with defers:=EJ D::a.defers} W):
  (Code.rangeFunc g r H G).wp P Q a w:=
 Tp (Off:=λx u _=>u=encs x) S eg (λl AT T W z q A y h5 hr h6=>N l AT T W z q A y h5 (λb x C M W1 he hj=>hr b x C M W1 (encs x) he hj rfl) h6) (λx u W h=>by rw[h];exact B0 x) BA I j hI BT R o A1 (λl x u W f z q A y=>by subst A;exact A2 l x W f z q y) CL AR BS
def BF{β}{B}{I:β->jH->Prop}(h:∀s W b M,I s W->Ac M W b->(∀r∈M,B<=r/\∃o:Obj,W.heap[r]?=V o/\o.isCells=K)->I s b):OwnFrom B I:=λs W b g j a i=>
 h s W b g.toList j ⟨a.os,a.tape,a.output,a.size,λk d c=>a.block k d (λe=>c (by rw[<-e];simp))⟩ (λr f=>i r (by simpa using f))
def CZ{W}{B}{M:kN Nat}(e:∀r∈M,B<=r/\∃o:Obj,W.heap[r]?=V o/\o.isCells=K){b}{d}{t}(h:AF W b d t):b∉M:=λc=>by
 obtain⟨_,o,a,f⟩:=e b c;rw[h]at a;cases a
 cases f
def BY{W:jH}{B}{M:kN Nat}(f:∀r∈M,B<=r/\∃o:Obj,W.heap[r]?=V o/\o.isCells=K){k e p n:Nat}{v}{j:kN jR}(h:W.ownsRow k e p v n j):∀i,v.ownBlock=V i->i∉M:=λi a d=>by
 obtain⟨_,o,b,m⟩:=f i d;rcases h.2 with⟨rfl,_⟩|⟨g,c,q,rfl,_,l,_⟩
 .simp[kE]at a
 .simp only[kE,lZ]at a;subst a;rw[l]at b;cases b
  cases m
def DK{a W b}{B}{M}(h:Ac [] a W)(k:Ac M W b)(c:∀r∈M,B<=r/\∃o:Obj,W.heap[r]?=V o/\o.isCells=K)(e:a.heap.size<=B):Ac [] a b:=
 h.trans' k (λi d=>Or.inr (by have:=(c i d).1;omega))
def Yu:kN Nat->jH->jH->Prop
 |[],w,w'=>w'=w
 |D::ds,w,w'=>Yu ds (w.putObj D (.deferred Y)) w'
structure Dy(B:Nat)(ds:kN Nat)(w:jH):Prop where
 nodup:ds.Nodup
 ge:∀D∈ds,B<=D
 e:∀D∈ds,w.heap[D]?=V (.deferred (V []))
def Yu.own{β}{B}{I}(f:OwnFrom B I){s:β}:∀{ds:kN Nat} {w a:jH},Yu ds w a->Dy B ds w->I s w->I s a
 |[],w,a,h,_,hi=>by
  rw[h];exact hi
 |D::ds,w,a,h,hm,hi=>by
  have c:=od.1 hm.nodup;refine Yu.own f (ds:=ds) h ⟨c.2,λd b=>hm.ge d (mP _ b),λd b=>?_⟩ (OwnFrom.putObj f _ hi (hm.ge D (m9 ..)) (hm.e D (m9 ..)) rfl);rw[World.putObj_heap_other (λe=>c.1 (by rw[<-e];exact b))];exact hm.e d (mP _ b)
def Dh{P}{f}{g}{R}{B}:∀b w,Dy B b w->
  (∀a,Yu b w a->∃v,(results f g).run P a=.ok v a/\R (j1 v) a)->LeavesInM Fence.wide 0 P f g R (b.map EJ) .returning w
 |[],w,_,h=>h w rfl
 |D::b,w,hm,h=>by
  have i:=od.1 hm.nodup;refine⟨ln,.inl ⟨D,_,rfl,run_takeDeferred (hm.e D (m9 ..)),Dh (B:=B) b _ ⟨i.2,λd c=>hm.ge d (mP _ c),λd c=>?_⟩ (λa j=>h a j)⟩⟩;rw[World.putObj_heap_other (λe=>i.1 (by rw[<-e];exact c))];exact hm.e d (mP _ c)
def Eb{P}{f}{a}{c}{b}{w}{R}(d:P.funcs[f]?=V a)(e:a.body=V c)(h:c.wp P (bodyPostM Fence.wide 0 P a R) {tmps:=b++Array.replicate (a.ntmps-b.size) rH,defers:=[]} w):rE P f b w R:=
 callsIn_wide.1 (callsIn_of_wp_marks d e trivial (wpIn_wide.2 h))
def Pg{P}{a}{R}(h:∀w,¬R .outgrown w):¬LetsOut (bodyPostM Fence.wide 0 P a R):=fun⟨_,w,q⟩=>h w q
def Iy{P}{F}{n}(hF:∀f,F.fn f)(i:F.depth=Y)(x:Machine.fenced P F=Machine.fenced P Fence.wide){d}{Q}{g:kN Oper}{o}{a}{w}{l}{args}{R}(q:Region.wanted o (yielded d a.tmps)=T6)(u:(o.semAt F.round a.eval).run P w=(Instr.yield l args).run P w)(r:YieldAt Fence.wide 0 P l args w R)(y:∀e b,R e b->∃v,e=j1 v/\wpListIn F n P d Q g (a.put o.dst v) b):wpListIn F n P d Q (o::g) a w:=by
 unfold wpListIn;rw[mo q];refine⟨λf _=>hF f,?_⟩;obtain⟨s,C,B,A,p,j⟩:=r;rw[u,p];refine⟨λh=>(by rw[i]at h;cases h),hF s,λc m _=>?_⟩;obtain⟨e,b,t,z⟩:=j.2 c m (room_wide _);obtain⟨v,rfl,k⟩:=y e b t;refine⟨j1 v,b,k,?_⟩;rw[x];exact z
def Ik{P}{α}{g}{p q}{T}{G F}{Q}{a:Act}{w}{r:Nat}{H}{b:α->kN jR}{u}{B}(R:a.eval g=.func (.func r) #[] H)(eg:∀E w,(callFunc r E).run P w=.ok (.enter r E) w)(L:K0 P r H (λx=>#[ku (Za (b x))]) u B w)(A1:∀k∈B,k<w.heap.size)(I o)(hI:OwnFrom w.heap.size (fun(s:kN α×kN Nat) W=>I s.1 s.2 W))(BT:∀c,OwnFrom w.heap.size (fun(s:kN α×kN Nat) W=>o c s.1 s.2 W))(N:I [] B w)(A0:∀(l:Nat) (x:α) (W:jH) (j:Act->jH->Prop),x∈u->Hid (∀f,Ac [] W f->AF f W.heap.size (b x) T->j {tmps:=(a.tmps.setIfInBounds p (ku (Za (b x)))).setIfInBounds q (jj (V ⟨W.heap.size,0,Y⟩)),defers:=[]} f)->
   G.wpIn (Fence.wide.inRound l) 0 P (Exit.then j (λ_ _ _=>False)) {tmps:=a.tmps.setIfInBounds p (ku (Za (b x))),defers:=[]} W)(B0:∀(l n:Nat) (d:kN α) (x:α) (C:kN α) (M:kN Nat) (W:jH),u=d++x::C->I d M W->(∀k∈M,k<n)->w.heap.size<=n->AF W n (b x) T->
   F.wpIn (Fence.wide.inRound l) 0 P (Mi I o (d++[x]) M W) {tmps:=(a.tmps.setIfInBounds p (ku (Za (b x)))).setIfInBounds q (jj (V ⟨n,0,Y⟩)),defers:=[]} W)(AR:∀(D:Nat) (m:kN Nat) (W:jH),w.heap.size<=D->I u m W->W.heap[D]?=V (.deferred (V []))->(∀k∈m,k≠D)->Q .normal {a with defers:=EJ D::a.defers} W)(A2:∀(D:Nat) (c:Code) (d:kN α) (m:kN Nat) (W:jH),w.heap.size<=D->o c d m W->W.heap[D]?=V (.deferred (V []))->c.wp P Q {a with defers:=EJ D::a.defers} W):
  (Code.rangeFunc g #[p] G F).wp P Q a w:=by
 refine UL R eg L (λ_=>rfl) A1 I o hI BT N (λi x A W=>AF W i (b x) T/\A={tmps:=(a.tmps.setIfInBounds p (ku (Za (b x)))).setIfInBounds q (jj (V ⟨i,0,Y⟩)),defers:=[]}) ?_ ?_ ?_ AR A2
 .intro i x A;exact BF (λ_ W f M h k y=>⟨h.1.C k (CZ y h.1),h.2⟩)
 .intro l x W j hx _ hK;have e:(#[p].zip #[ku (Za (b x))]).foldl (λt x=>match x with|(p,v)=>t.setIfInBounds p v) a.tmps=a.tmps.setIfInBounds p (ku (Za (b x))):=by simp
  have h:=A0 l x W j hx (λf hk z=>hK _ f hk ⟨z,rfl⟩);exact li
 .rintro l i d x C M A W S hi y h1 h2 ⟨z,rfl⟩;exact B0 l i d x C M W S hi y h1 z
def Gz{P}{d n}{b:kN Oper}{a}{w}{Q}(k)(e:¬LetsOut Q)(h:∀c:Act->jH->Prop,Hid (∀a w,wpListIn Fence.wide n P (Za b) Q (b.drop k) a w->c a w)->wpList P (Za b) (Exit.then c Q) (qT k b) a w):(Code.region d (Za b) K).wp P Q a w:=
 OO (n:=n) (ni k b).symm e (h _ (λ_ _ h=>h))
def Qx{P}{e n l}{b:kN Oper}{a}{w}{Q}(k)(d:DS (qT k b)=T6)(f:¬LetsOut Q)(h:∀c:Act->jH->Prop,Hid (∀a w,wpListIn (Fence.wide.inRound l) n P (Za b) Q (b.drop k) a w->c a w)->wpList P (Za b) (Exit.then c Q) (qT k b) a w):(Code.region e (Za b) K).wpIn (Fence.wide.inRound l) n P Q a w:=
 NK (n:=n) (ni k b).symm d f (h _ (λ_ _ h=>h))
def Dj{P}{n}{ops}{b:kN Oper}{a}{w}{Q}(d:¬LetsOut Q)(h:wpList P ops Q b a w):wpListIn Fence.wide n P ops Q b a w:=by
 have c:=L2 (P:=P) (ops:=ops) (Q:=Q) (n:=n) d [] b a w (by
  have f:Exit.then (wpListIn Fence.wide n P ops Q []) Q=Q:=by
   funext e a w
   cases e<;>rfl
  rw[f]
  exact h)
 rw[mQ]at c;exact c
def Lm{P}{n l}{ops}{b}{a}{w}{Q}(d:DS b=T6)(f:¬LetsOut Q)(h:wpList P ops Q b a w):wpListIn (Fence.wide.inRound l) n P ops Q b a w:=by
 have c:=Iv (P:=P) (ops:=ops) (Q:=Q) (n:=n) (l:=l) f [] b d a w (by
  have g:Exit.then (wpListIn (Fence.wide.inRound l) n P ops Q []) Q=Q:=by
   funext e a w
   cases e<;>rfl
  rw[g]
  exact h)
 rw[mQ]at c;exact c
end
section
variable {P:Program}
section
variable {ops:Array Oper} {Q:Exit->Act->jH->Prop} {md:Region.Mode} {S:jH->Prop} {y l n:Nat}
def Gf(P:Program)(md:Region.Mode)(ops:Array Oper)(Q:Exit->Act->jH->Prop)(S:jH->Prop)(l n y:Nat):Nat->Array rD->Act->jH->Prop
 |0,listed,a,w=>Region.ready md ops listed=[]/\Q .normal a w
 |fuel+1,listed,a,w=>(Region.ready md ops listed=[]->Q .normal a w)/\
  ∀i∈Region.ready md ops listed,if i=y then wpOpIn (Fence.wide.inRound l) n P ops Q i (Gf P md ops Q S l n y fuel (listed.setIfInBounds i T6)) a w
   else wpOp P ops Q i (λa' w'=>(listed.getD y T6=K->S w')/\Gf P md ops Q S l n y fuel (listed.setIfInBounds i T6) a' w') a w
def Gf.any(j:¬LetsOut Q)(d:DS ops.toList=T6):∀e m a w,Gf P md ops Q S l n y e m a w->wpAnyIn (Fence.wide.inRound l) n P md ops Q e m a w
 |0,_,_,_,h=>h
 |e+1,m,a,w,h=>by
  refine⟨h.1,λi s=>?_⟩;have b:=h.2 i s;by_cases q:i=y
  .rw[mo q]at b;exact wpOpIn_mono (λg f p=>Gf.any j d e _ g f p) b
  .rw[mm q]at b;unfold wpOp at b;unfold wpOpIn;cases ho:ops[i]? with
   |none=>
    rw[ho]at b;exact Gf.any j d e _ a w b.2
   |some o=>
    rw[ho]at b;have t:∀c,o.op≠ .defer c:=by
     unfold DS at d;rw[nI]at d;exact Sr (d o (Array.mem_toList_iff.2 (Array.mem_of_getElem? ho)))
    simp only at b|-;split
    .rename_i k;rw[mo k]at b;rcases b with b|b
     .exact Si t (Oper.wp_mono (λg f p=>Gf.any j d e _ g f p.2) b)
     exact qr
    .rename_i k;rw[mm k]at b;exact⟨λ_ _=>trivial,Gf.any j d e _ _ w b.2⟩
def Gf.first{i}{p}{v}(F:ops[i]?=V p)(R:∀(j:Nat) (o:Oper) r b,ops[j]?=V o->o.op≠ .select r b)(hQ:∀c a w,Q (.panic c) (a.put p.dst v) w->Q (.panic c) a w)(A:i≠y)(hW:Rs md ops y i=T6):
  ∀s d a w,d.getD y T6=K->
   (∀j m,ops[j]?=V m->j≠i->d.getD j T6=K->(∀e∈m.after,Region.binds md e=T6->e.on≠i)->p.apart ops m=T6)->
   i∈Region.ready md ops d->YieldsIf P ops S p v a->S w->
   Gf P md ops Q S l n y s (d.setIfInBounds i T6) (a.put p.dst v) w->Gf P md ops Q S l n y (s+1) d a w:=by
 intro s
 induction s with
 |zero=>
  intro d a w E _ k x u H;refine⟨λh=>(by rw[h]at k;cases k),λj t=>?_⟩;by_cases f:j=i
  .subst f;rw[mm A];exact x.wpOp F u ⟨λ_=>u,H⟩
  .have:=pZ t f;rw[H.1]at this;cases this
 |succ s ih=>
  intro d a w E L k x u H;have D:=(mem_ready.1 k).1;refine⟨λh=>(by rw[h]at k;cases k),λj t=>?_⟩;by_cases f:j=i
  .subst f;rw[mm A];exact x.wpOp F u ⟨λ_=>u,H⟩
  ·(have T:j≠y:=λe=>Un hW D (e▸t));have N:=H.2 j (pZ t f);rw[mm T]at N|-;obtain⟨I,m,B,BA⟩:=mem_ready.1 t;have A1:∀e∈m.after,Region.binds md e=T6->e.on≠i:=λe he hb AO=>by
    have g:=BA e he hb;rw[AO]at g;rcases Nat.lt_or_ge i d.size with C|C
    .simp[C]at D g;rw[D]at g;cases g
    .simp[px C]at g
   have g:=wpOp_putIf B (L j m B f I A1) (λr b=>R i p r b F) (λr b=>R j m r b B) hQ x N;(have G:(d.setIfInBounds i T6).getD y T6=K:=by rw[getD_set_ne T6 A];exact E);refine wpOp_mono (λa' w' z=>⟨λ_=>z.2.1 G,ih (d.setIfInBounds j T6) a' w' (by rw[getD_set_ne T6 T];exact E) (λq oq hq Bx W Ax=>L q oq hq Bx ?_ Ax) (pZ k (Ne.symm f)) z.1 (z.2.1 G) ?_⟩) g
   .by_cases M:j=q
    .subst M;exact I
    .rw[getD_set_ne T6 M]at W;exact W
   .rw[p5 _ _ f];exact z.2.2
def lQ(md:Region.Mode)(ops:Array Oper)(listed:Array rD)(y i:Nat):rD:=Region.noSelect ops&&Region.free md ops listed i&&(Region.ready md ops listed).contains i&&Rs md ops y i&& !(i==y)&& !(listed.getD y T6)
def Gf.take{i}{d}{v}{e}{b}{a}{w}(g:ops[i]?=V d)(f:lQ md ops b y i=T6)(t:∀c a w,Q (.panic c) (a.put d.dst v) w->Q (.panic c) a w)(p:S w)(m:YieldsIf P ops S d v a)(h:Gf P md ops Q S l n y e (b.setIfInBounds i T6) (a.put d.dst v) w):Gf P md ops Q S l n y (e+1) b a w:=by
 unfold lQ at f;simp only[mC,n6,mM]at f;obtain⟨⟨⟨⟨⟨q,k⟩,s⟩,o⟩,r⟩,j⟩:=f;exact Gf.first g (Region.noSelect_spec q) t r o e b a w j (Region.free_spec g k) (by simpa using s) m p h
def Gf.one{i}{o}{m}{c}{a}{w}(p:Region.ready md ops c=[i])(t:(i==y)=K)(r:ops[i]?=V o)(h:∀f:Act->jH->Prop,Hid (∀k d,(c.getD y T6=K->S d)->Gf P md ops Q S l n y m (c.setIfInBounds i T6) k d->f k d)->
   if Region.wanted o (yielded ops a.tmps)=T6 then o.wp P a w f Q else f (a.put o.dst rH) w):Gf P md ops Q S l n y (m+1) c a w:=by
 refine⟨λq=>(by rw[p]at q;cases q),λj g=>?_⟩;rw[p]at g;simp at g;subst g;rw[mm (mM.1 t)];have b:=h _ (λk d s b=>And.intro s b);unfold wpOp;simp only[r];split
 .exact qr
 exact qr
def Gf.yield{o}{m}{g}{a}{w}(d:Region.ready md ops g=[y])(x:ops[y]?=V o){q}{args}{R}(u:Region.wanted o (yielded ops a.tmps)=T6)(A:(o.semAt (Fence.wide.inRound l).round a.eval).run P w=(Instr.yield q args).run P w)(z:YieldAt Fence.wide 0 P q args w R)(B:∀e b,R e b->∃v,e=j1 v/\Gf P md ops Q S l n y m (g.setIfInBounds y T6) (a.put o.dst v) b):Gf P md ops Q S l n y (m+1) g a w:=by
 refine⟨λk=>(by rw[d]at k;cases k),λj i=>?_⟩;rw[d]at i;simp at i;subst i;unfold wpOpIn;simp only[x];rw[mo u];refine⟨λf _=>trivial,?_⟩;obtain⟨G,F,E,D,t,p⟩:=z;rw[A,t];refine⟨λh=>oj,trivial,λc s _=>?_⟩;obtain⟨e,b,d,C⟩:=p.2 c s (room_wide _);obtain⟨v,rfl,r⟩:=B e b d;exact⟨j1 v,b,r,C⟩
def Gf.done{b}{a}{w}(c:Region.ready md ops b=[])(h:Q .normal a w):∀d,Gf P md ops Q S l n y d b a w
 |0=>⟨c,h⟩
 |_+1=>⟨λ_=>h,by rw[c];simp⟩
def QC{c}{a}{w}(y S)(b:P.follows .mixedOrders=T6)(e:DS ops.toList=T6)(d:¬LetsOut Q)(h:Gf P .any ops Q S l n y ops.size (Array.replicate ops.size K) a w.drew):(Code.region c ops T6).wpIn (Fence.wide.inRound l) n P Q a w:=
 wpIn_region_any b (Gf.any d e _ _ _ _ h)
end
end
section
variable{m k b n i:Nat}{v w u:jH}{M:kN Nat}{z:jR}{s t:bN}{e:kN bN}{f:kN Ae}{B:rD}{g:rC}{I:Int}{y:kN jR}
def dd{c}(o:c.Pairwise λa b=>CT a.f b.f<0)(n)(l:EW c ⟨n,[]⟩ m):(c.drop m).takeWhile (Qv n)=c.filter (Qv n):=by
 have r:∀q∈c.drop m,¬D7 q.f.a n<0:=by
  intro q g;obtain⟨i,j,rfl⟩:=mS g;rw[mX]at j;rw[pP,<-On];exact l.zd (m+i) lc lc
 have s:(c.drop m).takeWhile (Qv n)=(c.drop m).filter (Qv n):=by
  refine J5 _ (oC (fun{a b} ha hb hab hbn=>?_) (o.drop (i:=m)));have e:=toList_inj (by simpa[Qv] using hbn);have t:=r a ha;have h:D7 a.f.a b.f.a<=0:=by
   unfold CT at hab;exact lc
  rw[e]at h;have d:D7 a.f.a n=0:=lc
  unfold Qv;rw[(BD _ _).1 d];simp
 have h:(qT m c).filter (Qv n)=[]:=by
  refine pK.2 (λq g k=>?_);obtain⟨i,j,rfl⟩:=mS g;rw[mT]at j;have d:=(On _ _).1 (l.below i lc lc);have e:c[i].f.a=n:=toList_inj (by simpa[Qv] using k);rw[e]at d;have:=(BD n n).2 rfl;omega
 have d:c.filter (Qv n)=(c.drop m).filter (Qv n):=by
  conv=>lhs;rw[<-ni m c,oA,h,nk]
 rw[s,<-d]
def jd{α:Type}{q}{l:kN α}(a)(h:q l[k]=T6):(l.drop k).takeWhile q=l[k]::(l.drop (k+1)).takeWhile q:=by
 rw[mu a,List.takeWhile_cons,h,mo rfl]
def j5{α:Type}{q}{l:kN α}(a)(h:q l[k]=K):(l.drop k).takeWhile q=[]:=by
 rw[mu a,List.takeWhile_cons,h,mm ln]
structure VG(w0:jH)(b2:Nat)(n:bN)(M:kN Nat)(w:jH):Prop where
 C:Ac [] w0 w
 a:jY w ⟨b2,0,Y⟩=V (O n)
 apart:∀k∈M,w0.heap.size<=k/\k≠b2/\k<w.heap.size
def VG.grow{n}(h:VG v m n M w)(k:Ac [] w u):VG v m n M u:=
 ⟨h.C.H k,k.cellAt h.a,λi a=>⟨(h.apart i a).1,(h.apart i a).2.1,nR (h.apart i a).2.2 k.size⟩⟩
def I5(k:Ac M w u)(h:jY w ⟨b,n,Y⟩=V z)(a:b∉M):jY u ⟨b,n,Y⟩=V z:=by
 have e:=k.block b (KV h) a;simp only[World.cell?,e]at h|-;exact h
def VG.round{M d}(h:VG v m s M w)(k:Ac M w u)(c:∀i∈d,(i∈M\/w.heap.size<=i)/\i<u.heap.size):VG v m s d u:=by
 have g:=KV h.a;have f:=h.C.size;refine⟨h.C.trans' k (λi b=>j3 (h.apart i b).1),I5 k h.a (λe=>(h.apart _ e).2.1 rfl),λi b=>⟨?_,?_,(c i b).2⟩⟩
 .rcases(c i b).1 with a|a
  .exact(h.apart i a).1
  .omega
 .rcases(c i b).1 with a|a
  .exact(h.apart i a).2.1
  .omega
set_option maxRecDepth 100000
theorem iC(b1 H S P D o)(d:kN D5)(n w0 w G)(x:jY w ⟨b1,0,Y⟩=V (jj (V ⟨S,P,Y⟩)))(hO:VG w0 H n G w)(hs:jY w0 ⟨S,P,Y⟩=V (U D (Z d) o))(hP:Ic w0 (U D (Z d) o) d)(MY:Z d<=900000)(HH:d.Pairwise λa b=>CT a.f b.f<0)(H4:∀i j (hi:i<Z d) (hj:j<Z d),i<=j->CT d[j].f ⟨n,[]⟩<0->CT d[i].f ⟨n,[]⟩<0):K0 rF 235 #[jj (V ⟨b1,0,Y⟩),jj (V ⟨H,0,Y⟩)] (λq=>#[ku (Za (AJ q))]) (d.filter (Qv n)) G w:=by
 intro l BA Jx W FF _ _ hJ NL hR HD;have AO:=hO.grow FF;have c1:=FF.cellAt x;have cs:=AO.C.cellAt hs;have c2:=AO.a;have FO:jV (∀wr,Ac [] W wr->rE rF 103 #[U D (Z d) o,ku #[O n,U Y 0 0],.func _ #[] #[]] wr λe w'=>∃p:Nat,e=j1 (.tuple #[X J p,.bool (Dg d ⟨n,[]⟩ p)])/\EW d ⟨n,[]⟩ p/\Ac [] wr w'):=λwr z=>IX D o d ⟨_,_⟩ wr (hP.C (AO.C.H z)) (mw _ _ _ _) ln lc H4
 have HO:=Ab AO;have HP:=Ab hP;have HJ:=Ab hJ;have HR:=Ab hR;have FW:=Ab HD;have HF:jV (∀p,EW d _ p->d.filter _=qT 0 (d.drop p)++((d.drop p).drop 0).takeWhile _):=λp hc=>by rw[pk,nk,pG,dd HH n hc]
 obtain⟨A,HQ⟩:=kQ (d.filter (Qv n));rw[HQ]at HF HR|-;have EY:jV (∀u,Ac [] W u->jY u _=V _/\jY u _=V _/\jY u _=V (O n)):=λu z=>⟨z.cellAt c1,z.cellAt cs,z.cellAt c2⟩
 clear HQ hO AO hs hP HH H4 hJ hR HD FF x;show rE rF 235 #[.func (.yield l) #[] #[],jj (V ⟨b1,0,Y⟩),jj (V ⟨H,0,Y⟩)] W _;go_enter func235,ntmps235;go_wp2_with fail
 go_region_held3 (λu=>Ac [] W u/\jY u ⟨b1,0,Y⟩=V (jj (V ⟨S,P,Y⟩))/\jY u ⟨S,P,Y⟩=V (U D (Z d) o)/\jY u ⟨H,0,Y⟩=V (O n)) ((go_split_ands;refine(fun(H9:Ac [] W _)=>And.intro H9 (EY _ H9)) ?_;repeat (first|assumption|exact kR [] _|refine Ac.drew ?_|refine Ac.alloc ?_ _))) ((go_at_call 103;refine(FO _ ml).G ?_;rintro e w3 ⟨p,rfl,hcut,k3⟩;have FA:=Ab hcut;have H2:Ac [] W w3:=sh;have BS:=Ab H2;clear hcut k3 H2))
 clear c1 cs c2 FO;have H7:=Ab (HO.grow BS);have BT:jV (BA [] G w3):=Bz HJ (s:=([],G)) FW BS;obtain⟨d1,d2,d3⟩:=EY w3 BS;have K9:=FA.le;have NM:=rJ p
 have LM:(p:Int)<=Z d:=lc
 have DT:=Ab (HF p FA);have H3:=BS.size;clear EY HO FW HF FA;have FT:(D=Y/\o=0/\Z d=0)\/∃g,D=V ⟨g,0,Y⟩/\Z d<=o:=by
  rcases HP.row.2 with⟨x,h2⟩|⟨g,c,M2,x,_,_,h3,_⟩
  .exact qr
  exact qr
 by_cases E0:p=Z d
 .have E:jV (A=[]):=qr
  have KS:Z d-p=0:=lc
  rcases FT with⟨rfl,rfl,hz⟩|⟨g,rfl,JA⟩
  .rw[hz]at KS LM d2 K9;go_wp2_with fail
   go_loopg [25] 0 (λgk i wr=>i=X J 0/\wr=w3)
   case atStart=>exact ln
   case round=>
    go_wp2;go_end0;exact⟨⟨_,rfl⟩,j2 ⟨G,by rw[Aa E];exact BT⟩⟩
  ·have Mo:(Z d:Int)<=o:=lc;have K6:(p:Int)<=o:=lc;clear E0;(go_wp2_with fail);all_goals
    go_loopg [25] 0 (λgk i wr=>i=X J 0/\wr=w3)
    case atStart=>exact ln
    case round=>
     go_wp2;go_end0;exact⟨⟨_,rfl⟩,j2 ⟨G,by rw[Aa E];exact BT⟩⟩
 .rcases FT with⟨rfl,rfl,hz⟩|⟨g,rfl,JA⟩
  .omega
  have Mo:(Z d:Int)<=o:=lc
  have K6:(p:Int)<=o:=lc
  have Nx:¬o=p:=lc
  obtain⟨L,hL⟩:=kQ (Z d-p);have HL:=Ab hL;have K3:jV (∀k,k<L->∃(z:p+k<Z d),(d.drop p)[k]?=V d[p+k]):=by
   intro k z;exact li
  go_wp2_with fail
  clear hL E0
  go_loopg [7,25] L (λgk bx i wr=>∃(k:Nat) (M:kN Nat),i=X J k/\k<=L/\gk=L-k/\jV (A=qT k (d.drop p)++((d.drop p).drop k).takeWhile (Qv n))/\jV (VG w0 H n M wr)/\jV (BA (qT k (d.drop p)) M wr)/\jV (W.heap.size<=wr.heap.size))
  case atStart=>exact⟨0,G,rfl,lc,rfl,DT,H7,BT,H3⟩
  case round=>
   clear DT H7 BT H3;obtain⟨k,M,rfl,z,H6,E,A0,CW,HB⟩:=hrel;have HG:=Ab H6;clear H6;by_cases KK:k<L
   .obtain⟨L0,KB⟩:=K3 k KK;obtain⟨g',Nj,y,r,C,B,Ha,hf,e0,e1⟩:=JO (HP.C A0.C) (p+k) L0;simp only[lU,lZ,mR]at Ha;obtain⟨⟨IS,-,-⟩,-,-⟩:=Ha;subst IS;rw[show(p+k)*2=p*2+k*2 by omega]at e0 e1;(have EK:k<Z (d.drop p):=li);(have T:(d.drop p)[k]=⟨⟨y,r⟩,U C (Z r) B⟩:=by rw[pP,hf]);have NA:=rJ k;have JJ:(k:Int)<L:=lc;have c2:=A0.a;have Q:=Ab (kS wr [O y,U C (Z r) B] 104);have R:=Ab ((kR [] wr).alloc (Y6 #[O y,U C (Z r) B] 104));have B0:=R.cellAt c2;refine kI (λI m=>?_);go_wp2;refine m _ _ ?_;clear m I;refine kI (λI m=>?_);go_wp2;refine m _ _ ?_;clear m I;refine kI (λK5 H1=>?_);refine wp_block ?_;refine kI (λI m=>?_);go_wp2;refine m _ _ ?_;clear m I;change Code.wp _ _ _ _ (wr.alloc (Y6 #[O y,U C (Z r) B] 104));generalize hw2:wr.alloc (Y6 #[O y,U C (Z r) B] 104)=w2 at Q R B0|-;have Ix:=Q.lt;generalize wr.heap.size=N at Q Ix|-;have CL:jV _:=A0.grow R;have Bx:jV (BA (qT k _) M w2):=Bz HJ (s:=(qT k _,M)) CW R;have B2:jV _:=mZ HB R.size;obtain⟨x0,x1⟩:=Q.c2;simp at x0 x1;clear hw2 e0 e1 c2 A0 CW HB KB R Q Ix;cases hnn:(y.toList==n.toList)with
    |false=>
     have F:jV (A=qT k (d.drop p)):=by
      show _=_;rw[Aa E,j5 EK (by rw[T];exact hnn),mQ]
     clear T;go_wp2;refine mF (pI rfl _ _ _) rfl ?_;exact⟨⟨_,rfl⟩,j2 ⟨M,by rw[Aa F];exact Bx⟩⟩
    |true=>
     have F:jV (A=qT k (d.drop p)++⟨⟨y,r⟩,U C (Z r) B⟩::((d.drop p).drop (k+1)).takeWhile (Qv n)):=by
      show _=_;rw[Aa E,jd EK (by rw[T];exact hnn),T]
     have A2:jV (qT k (d.drop p)++[⟨⟨y,r⟩,U C (Z r) B⟩]=qT (k+1) (d.drop p)):=by
      show _=_;rw[<-T,lW EK]
     have HY:=Ab (HR _ _ _ M w2 F Bx);clear T;refine kI (λI m=>?_);refine Gz (n:=0) 7 lM (λK2 H0=>?_);simp;go_wp2;refine H0 _ _ ?_;clear H0 K2;simp;refine Iy (λ_=>trivial) rfl rfl (l:=l) (args:=#[ku #[O y,U C (Z r) B]]) lx sG HY ?_;rintro e w4 (⟨rfl,M',AR,FB,FP⟩|⟨rfl,M',AR,-⟩)
     .refine⟨_,rfl,Dj lM ?_⟩;simp only[kF,lR,lS,lT];have K7:=Ab (CL.round FB FP);(have FC:jV (BA (qT (k+1) (d.drop p)) M' w4):=by rw[<-Aa A2];exact AR);have KA:jV _:=mZ B2 FB.size;have LL:jV (A=qT (k+1) (d.drop p)++((d.drop p).drop (k+1)).takeWhile (Qv n)):=by
       rw[Aa F,<-Aa A2,mY];rfl
      clear AR FB FP x0 x1 B0 HY CL Bx B2 E F A2;go_wp2;refine m _ _ ?_;clear m;go_wp2;refine H1 _ _ ?_;clear H1;go_wp2
      go_roundg (L-(k+1))
      case measure=>exact qu
      case rel=>exact⟨k+1,M',ly,lc,rfl,LL,K7,FC,KA⟩
     .refine⟨_,rfl,Dj lM ?_⟩;simp only[kF,lR,lS,lT];have FC:=Ab AR;go_wp2;refine m _ _ ?_;go_wp2;refine mF (pI rfl _ _ _) rfl ?_;exact⟨⟨_,rfl⟩,j3 ⟨_,M',FC⟩⟩
   .have F:jV (A=qT k (d.drop p)):=by
     show _=_;(have hl:Z (d.drop p)<=k:=by rw[mX,Aa HL];omega);rw[Aa E,mN hl];simp
    go_wp2;go_end0;exact⟨⟨_,rfl⟩,j2 ⟨M,by rw[Aa F];exact CW⟩⟩
theorem bS(b a)(n:bN)(w):rE rF 221 #[jj (V ⟨b,a,Y⟩),O n] w λr d=>∃c e,r=j1 (.func (.func 235) #[] #[jj (V ⟨c,0,Y⟩),jj (V ⟨e,0,Y⟩)])/\AF d c [jj (V ⟨b,a,Y⟩)] 69/\AF d e [O n] 9/\w.heap.size<=c/\w.heap.size<=e/\Ac [] w d:=by
 go_enter func221,ntmps221;go_wp2;go_ret;refine⟨w.heap.size,w.heap.size+1,rfl,(kS w [jj (V ⟨b,a,Y⟩)] 69).alloc _,?_,mt _,lc,((kR [] w).alloc _).alloc _⟩;have h:=kS (w.alloc (Y6 #[jj (V ⟨b,a,Y⟩)] 69)) [O n] 9;rw[mJ]at h;exact h
def Zl(b:kN bN)(ts:kN AY)(at_:Nat)(fs:kN D5)(m:kN bN):Prop:=∀y,y∈m↔∃q∈fs,ID b ts q.f.dN=T6/\y=q.f.dN.getD at_ ky
structure au(w:jH)(N:Nat)(ap:Int)(nm:bN)(tv:jR)(E:kN jR)(b:kN bN)(ts:kN AY)(at_:Nat)(pre:kN D5)(M:kN Nat)(W:jH):Prop where
 C:Ac [] w W
 b5:AF W N [X J ap,O nm,tv] 187
 b6:AF W (N+1) [X J at_] 3
 b7:AF W (N+2) E 243
 o:∃(m:kN bN) (ad:rB) (cp:Nat),AF W (N+3) [U ad (Z m) cp] 102/\kt W N 170 1 (U ad (Z m) cp) (Z m) (qS Ai m)/\C3 Hn m/\Zl b ts at_ pre m/\Z m<=Z pre/\M=(N+3)::qV (qW (U ad (Z m) cp))
def au.own{N B}{ap}{nm}{tv}{E}{b}{ts}{at_}(f:w.heap.size<=B):OwnFrom B (fun(s:kN D5×kN Nat) W=>au w N ap nm tv E b ts at_ s.1 s.2 W):=
 BF (λs W j M h k a=>by
  obtain⟨m,i,e,d,c,g⟩:=h.o
  exact⟨DK h.C k a f,h.b5.C k (CZ a h.b5),h.b6.C k (CZ a h.b6),h.b7.C k (CZ a h.b7),m,i,e,d.C k (CZ a d),Ag c k (BY a c),g⟩)
theorem Yk(sp kb ko bv ov PT NE u ap nm A z)(ts:kN AY)(at_)(b:kN bN)(w)(hb:Z b=26)(hS:Qa w sp kb ko bv ov PT NE u)(ht:kt w 0 215 2 (U A (Z ts) z) (Z ts) (qS Ar ts))(a9:Z ts<=1000)(hv:∀t∈ts,Qq t)(SL:Z u<=900000)(Mo:u.Pairwise λa b=>CT a.f b.f<0)(NX:∀i j (B:i<Z u) (hj:j<Z u),i<=j->CT u[j].f ⟨nm,[]⟩<0->CT u[i].f ⟨nm,[]⟩<0)(o:∀q∈u,Qv nm q=T6->Z ts<=Z q.f.dN/\at_<Z q.f.dN):rE rF 207 #[jj (V ⟨sp,0,Y⟩),ku #[X J ap,O nm,U A (Z ts) z],X J at_,ku (Za (Al b))] w λr G=>∃(ad:rB) (cp:Nat) (m:kN bN),r=j1 (U ad (Z m) cp)/\C3 Hn m/\Zl b ts at_ (u.filter (Qv nm)) m/\Z m<=Z u/\kt G w.heap.size 170 1 (U ad (Z m) cp) (Z m) (qS Ai m)/\Ac [] w G:=by
 have N0:jV (∀nb (p:D5) g,p∈u->Qv nm p=T6->Ac [] w g->AF g nb _ 243->rE rF 222 _ g _):=λnb p g hp hn n hB=>fW nb 243 b ap nm A z ts p 0 g hb hB (Ad ht n) ((hS.facts.j p hp).1.C n) lc (o p hp hn).1 hv
 have XS:jV _:=λS Q M0 g h1 hO=>iC S Q kb ko PT NE u nm w g M0 h1 hO hS.set hS.facts SL Mo NX
 have HH:=Ab hS;have HQ:=Ab o;have hc:=Bp b;have W1:Z (Al b)=26:=by unfold Al;simp[hb]
 obtain⟨E,hE⟩:=kQ (Al b);rw[hE]at hc W1 N0|-;clear hE hS Mo NX o hv;have a6:=Ab ht;clear ht;obtain⟨N,hN⟩:=kQ w.heap.size;have HN:=Ab hN;obtain⟨C,BT⟩:=kQ ((((w.alloc (Y6 #[X J ap,O nm,U A (Z ts) z] 187)).alloc (Y6 #[X J at_] 3)).alloc (Y6 (Za E) 243)).alloc (Y6 #[U Y 0 0] 102));have NL:=Ab BT;have R:Ac [] w C:=by rw[<-BT];exact((((kR [] w).alloc _).alloc _).alloc _).alloc _
 have NB:AF C N [X J ap,O nm,U A (Z ts) z] 187:=by
  rw[<-BT,<-hN];exact(((kS w _ 187).alloc _).alloc _).alloc _
 have Nj:AF C (N+1) [X J at_] 3:=by
  rw[<-BT];have h:=((kS (w.alloc (Y6 #[X J ap,O nm,U A (Z ts) z] 187)) [X J at_] 3).alloc (Y6 (Za E) 243)).alloc (Y6 #[U Y 0 0] 102);rw[mJ,hN]at h;exact h
 have OH:AF C (N+2) E 243:=by
  rw[<-BT];have h:=(kS ((w.alloc (Y6 #[X J ap,O nm,U A (Z ts) z] 187)).alloc (Y6 #[X J at_] 3)) E 243).alloc (Y6 #[U Y 0 0] 102);rw[mJ,mJ,hN]at h;exact h
 have K8:AF C (N+3) [U Y 0 0] 102:=by
  rw[<-BT];have h:=kS (((w.alloc (Y6 #[X J ap,O nm,U A (Z ts) z] 187)).alloc (Y6 #[X J at_] 3)).alloc (Y6 (Za E) 243)) [U Y 0 0] 102;rw[mJ,mJ,mJ,hN]at h;exact h
 have H4:jV (au w N ap nm _ E b ts at_ [] [N+3] C):=⟨R,NB,Nj,OH,[],Y,0,K8,mw _ _ _ _,λi j h=>rl h ln,λy=>ln,ln,lx⟩;have MY:=Ab K8.lt;clear BT R NB Nj OH K8 hN;refine Eb func207 rfl ?_;simp only[ntmps207,nu,mn,mI,Nat.reduceAdd,Nat.reduceSub,oF,oG,oX,oM,nk,nS];have K7:¬LetsOut (bodyPostM _ 0 rF Tryz.f207 λr G=>∃(ad:rB) (cp:Nat) (m:kN bN),r=j1 (U ad (Z m) cp)/\C3 Hn m/\Zl b ts at_ (u.filter (Qv nm)) m/\Z m<=Z u/\kt G w.heap.size 170 1 (U ad (Z m) cp) (Z m) (qS Ai m)/\Ac [] w G):=Pg (λ_ ⟨_,_,_,h,_⟩=>oj);obtain⟨QQ,K6⟩:=kQ (bodyPostM Fence.wide 0 rF Tryz.f207 λr G=>∃(ad:rB) (cp:Nat) (m:kN bN),r=j1 (U ad (Z m) cp)/\C3 Hn m/\Zl b ts at_ (u.filter (Qv nm)) m/\Z m<=Z u/\kt G w.heap.size 170 1 (U ad (Z m) cp) (Z m) (qS Ai m)/\Ac [] w G);have U1:=Ab K6;rw[K6]at K7|-;have aT:=Ab K7;clear K6 K7;refine kI (λK1 AR=>?_);go_wp2;refine AR _ _ ?_;clear AR K1;refine kI (λK1 AR=>?_);go_wp2;refine AR _ _ ?_;clear AR K1;change Code.wp _ _ _ _ ((((w.alloc (Y6 #[X J ap,O nm,U A (Z ts) z] 187)).alloc (Y6 #[X J at_] 3)).alloc (Y6 (Za E) 243)).alloc (Y6 #[U Y 0 0] 102));rw[Aa NL,Aa HN];clear NL;have KD:jV (∀g,Ac [] C g->jY g _=V _/\jY g _=V _):=λg n=>by
  have h1:=(HH.C (H4.C.H n)).zJ.D 0;have h2:=(H4.b5.C n).D 1;exact⟨h1,h2⟩
 have LE:jV _:=λg=>bS kb ko nm g
 obtain⟨s0,s1⟩:=KD C (kR _ _);refine kI (λK1 AR=>?_);refine kI (λK2 NA=>?_)
 go_region_held3 (λg=>Ac [] C g/\jY g ⟨sp,0,Y⟩=V (jj (V ⟨kb,ko,Y⟩))/\jY g ⟨N,1,Y⟩=V (O nm)) ((go_split_ands;refine(fun(P0:Ac [] C _)=>And.intro P0 (KD _ P0)) ?_;repeat (first|assumption|exact kR [] _|refine Ac.drew ?_|refine Ac.alloc ?_ _))) ((go_at_call 221;refine(LE _).G ?_;rintro e w3 ⟨S,Q,rfl,RI,M6,H5,Jx,k3⟩;have NM:Ac [] C w3:=sh;have W3:=Ab RI;have TX:=Ab M6;have KB:=Ab NM;have X1:jV (C.heap.size<=S/\C.heap.size<=Q):=⟨H5,Jx⟩;clear RI M6 H5 Jx k3 NM))
 refine NA _ _ ?_;clear NA K2 s0 s1 LE KD;refine wp_block ?_;have KA:jV (au w N ap nm _ E b ts at_ [] [N+3] w3):=Bz (au.own (mt _)) (s:=([],[N+3])) H4 KB;have YP:jV (VG w Q nm [N+3] w3):=by
  have h1:=TX.D 0;refine⟨KA.C,h1,λk n=>?_⟩;have hn:=Aa HN;have h2:=X1.2;have h3:=Aa MY;have h4:=KB.size;simp at n;omega
 have TS:=Aa XS S Q [N+3] w3 (by have h:=W3.D 0;exact h) YP;have a5:N+4<=w3.heap.size:=by have h3:=Aa MY;have h4:=KB.size;omega
 refine Ik (T:=104) (q:=10) rfl (enters_of func235 lo rfl) TS (λk n=>by simp at n;omega) _ (λ_ _ _ _=>False) (au.own sx) (λ_ _ _ _ _ h _ _=>h) KA ?assign ?body ?done ?stop
 case assign=>
  intro l x W HS hx HK;have AT:=(my.1 hx).1;obtain⟨⟨xn,xt⟩,xv⟩:=x;obtain⟨IJ,EY,FO⟩:=Aj (HH.facts.j _ AT).1;simp at FO;subst FO;simp only[AJ]at HK|-;refine AM lx (G8 FY) ?_;go_wp2;refine HK _ ((kR [] W).alloc _) ?_;exact kS W _ 104
 case body=>
  intro l Bx MB x av M W KK B hM a8 hB;have hx:x∈u.filter (Qv nm):=by rw[KK];simp
  have AT:=(my.1 hx).1;have H8:=(my.1 hx).2;have Ix:=(HQ x AT H8).2;have HI:=Ab (N0 (N+2) x W AT H8 B.C B.b7);have WS:jV (C6 W x):=(HH.facts.j x AT).1.C B.C;have TV:jV (C6 w x):=(HH.facts.j x AT).1;obtain⟨⟨xn,xt⟩,xv⟩:=x;obtain⟨IJ,EY,FO⟩:=Aj WS;simp at FO Ix;subst FO;obtain⟨m,AB,AH,h9,HR,HL,HO,M3,IS⟩:=B.o;simp only[AJ]at HI hB|-;have d0:=B.b5.D 0;have d1:=B.b5.D 1;have d2:=B.b5.D 2;obtain⟨e0,e1⟩:=hB.c2;simp at d0 d1 d2 e0 e1;have P:=Ab B;have LS:=Ab hB;have H9:=Ab h9;have HJ:=Ab HR;have T0:=Ab HL;have TH:=Ab HO;have EM:=Ab IS;obtain⟨H7,hX⟩:∃H7:D5,H7=⟨⟨xn,xt⟩,U IJ (Z xt) EY⟩:=⟨_,rfl⟩;have HV:=Ab hX;rw[<-hX]at KK|-;clear hx AT H8 B hB h9 HR HL HO IS hM hX;obtain⟨F,hF⟩:=kQ (ID b ts xt);rw[hF]at HI;have HF:=Ab hF;clear hF;simp;refine wpIn_block ?_;refine nK (λK3 FL=>?_);have FA:=Ab FL;clear FL;refine AM lx lB ?_;go_wp2_with fail
  refine HI.G ?_;rintro _ w4 ⟨rfl,k4⟩;have H:=Ab k4;clear k4 d0 d1 d2 e0 e1 HI;go_wp2;refine FA _ _ ?_;clear FA K3;cases F with
  |false=>
   refine pg rfl (wpIn_skip ?_);refine⟨H.G ln,M,?_,λk n=>⟨j2 n,?_⟩⟩
   .have FC:=Bz (au.own (N:=N) (ap:=ap) (nm:=nm) (tv:=U A _ z) (E:=E) (b:=b) (ts:=ts) (at_:=at_) (mt _)) (s:=(MB,M)) P H;obtain⟨m',CL,B9,g1,g2,g3,g4,g5,g6⟩:=FC.o;refine⟨FC.C,FC.b5,FC.b6,FC.b7,m',CL,B9,g1,g2,g3,λy=>?_,by have:=g5;simp at this|-;omega,g6⟩;rw[g4 y];constructor
    .rintro ⟨q,o,L⟩;exact⟨q,by simp[o],L⟩
    .rintro ⟨q,o,L⟩;rcases mi.1 o with o|o
     .exact⟨q,o,L⟩
     .simp at o;subst o;rw[Aa HV]at L;rw[Aa HF]at L;cases L.1
   .rw[Aa EM]at n;have h4:=H.size;rcases l9.1 n with rfl|n
    .have:=H9.lt;omega
    .have:=(HJ.lt k (by simpa using n)).2;omega
  |true=>
   refine pm rfl ?_;have EK:=Ag HJ H;have NV:=Ap EK (H9.C H) lu;obtain⟨gx,cx,RB,HY⟩:=Im TV at_ Ix;obtain⟨rfl,-,rfl⟩:=qX RB;obtain⟨BS,hY⟩:=kQ (xt[at_]);rw[hY]at HY;have ar:=KV HY;have Pl:jV (∀g,Ac (qV (qW (U AB (Z m) AH))) w4 g->jY g ⟨N+3,0,Y⟩=V (U AB (Z m) AH)/\jY g ⟨Bx,1,Y⟩=V (U (V ⟨gx,0,Y⟩) (Z xt) EY)/\jY g ⟨N+1,0,Y⟩=V (X J at_)/\jY g ⟨gx,at_,Y⟩=V (O BS)):=by
    intro g hz;have a1:=((H9.C H).C hz (λI=>NV sD)).D 0;have a2:=((LS.C H).C hz (λI=>Ap EK (LS.C H) lu sD)).D 1;have a3:=((P.b6.C H).C hz (λI=>Ap EK (P.b6.C H) lu sD)).D 0;have a4:=I5 hz (H.cellAt (P.C.cellAt HY)) (λI=>by have:=(EK.lt gx sD).1;have:=Aa HN;omega);exact⟨a1,a2,a3,a4⟩
   have EX:=Ab (Pl _ (kR _ _).drew);obtain⟨an,ag⟩:=rI (lc:at_<Z xt);have aa:=Ab (XJ AB AH m BS N _ EK.drew (by have h1:=rk List.length KK;have h2:=nL (Qv nm) u;simp at h1;omega) T0 (by have:=P.C.size;have:=H.size;have:=Aa HN;exact li));have N2:jV (xt.getD at_ ky=BS):=by
    rw[mq,mc Ix,hY];rfl
   clear hY HY EK;refine DZ 7 (λg=>jY g ⟨N+3,0,Y⟩=V (U AB (Z m) AH)/\jY g ⟨Bx,1,Y⟩=V (U (V ⟨gx,0,Y⟩) (Z xt) EY)/\jY g ⟨N+1,0,Y⟩=V (X J at_)/\jY g ⟨gx,at_,Y⟩=V (O BS)) lo lx lB ?_;refine Cw.tq (i:=0) (v:=U AB (Z m) AH) rfl (λ_ _ _ h=>h) EX ?_;simp only[kF,lR,lS,lT];refine Cw.tq (i:=1) (v:=jj (V ⟨Bx,1,Y⟩)) rfl (λ_ _ _ h=>h) EX ?_;simp only[kF,lR,lS,lT];refine Cw.tq (i:=2) (v:=U (V ⟨gx,0,Y⟩) (Z xt) EY) rfl (λ_ _ _ h=>h) EX ?_;simp only[kF,lR,lS,lT];refine Cw.tq (i:=3) (v:=X J at_) rfl (λ_ _ _ h=>h) EX ?_;simp only[kF,lR,lS,lT];refine Cw.tq (i:=4) (v:=jj (V ⟨gx,at_,Y⟩)) rfl (λ_ _ _ h=>h) EX ?_;simp only[kF,lR,lS,lT];refine Cw.tq (i:=5) (v:=O BS) rfl (λ_ _ _ h=>h) EX ?_;simp only[kF,lR,lS,lT];refine Cw.one (i:=6) lo rfl (λHS hK=>?_)
   go_simp
   refine aa.G ?_;rintro e w5 ⟨m',CL,B9,rfl,RT,VL,H5,Jx,FP,WB,X2⟩;have HT:=(kR _ _).drew.H WB;refine hK.o _ _ (λ_=>Pl w5 HT) ?_;clear hK HS
   try simp only[kF,lR,lS,lT]
   have FW:=(H9.C H).C HT (λI=>NV sD);have c9:=FW.D 0;have f9:=FW.qI 0;simp at c9;refine Cw.one (i:=7) lo rfl (λHS hK=>?_)
   go_simp
   refine hK.o _ _ (λh=>rl rfl h) ?_;clear hK HS;refine Cw.done lo ?_ _;have TL:=Ap FP FW lu;have Ha:Ac M W (w5.setCell ⟨N+3,0,Y⟩ (U CL (Z m') B9)):=by
    rw[Aa EM];exact((H.G ln).H (HT.G (λi B=>mP _ B))).setCell (p:=⟨N+3,0,Y⟩) (j2 (m9 ..)) _
   have X3:∀k∈M,N<=k:=by
    intro k n;rw[Aa EM]at n;rcases l9.1 n with rfl|n
    .omega
    .exact(HJ.lt k (by simpa using n)).1
   have JJ:∀{bb:Nat} {cs:kN jR} {t:TypeId},AF W bb cs t->bb≠N+3->170≠t->bb∉M:=by
    intro bb cs t SP RO ST I;rw[Aa EM]at I;rcases l9.1 I with rfl|I
    .exact lc
    .exact Ap HJ SP ST sD
   refine⟨Ha,_,⟨P.C.trans' Ha (λk n=>j3 (by have:=X3 k n;have:=Aa HN;omega)),P.b5.C Ha (JJ P.b5 lc lu),P.b6.C Ha (JJ P.b6 lc lu),P.b7.C Ha (JJ P.b7 lc lu),m',CL,B9,FW.set 0 _,Ah FP TL _,RT,λy=>?_,li,rfl⟩,λk n=>?_⟩
   .rw[VL y,Aa TH y];constructor
    .rintro (rfl|⟨q,o,L⟩)
     .exact⟨H7,ln,by rw[Aa HV];exact HF,by rw[Aa HV];exact N2.symm⟩
     .exact⟨q,by simp[o],L⟩
    .rintro ⟨q,o,L⟩;rcases mi.1 o with o|o
     .exact j3 ⟨q,o,L⟩
     .simp at o;subst o;rw[Aa HV]at L;exact j2 (L.2.H N2)
   .have h4:=H.size;rcases l9.1 n with rfl|n
    .exact⟨j2 (by rw[Aa EM];exact ln),by have:=FW.lt;simp;omega⟩
    ·(have LD:(U CL (Z m') B9).ownBlock=V k:=by simpa using n);refine⟨?_,by have:=(FP.lt k LD).2;simp;omega⟩;rcases X2 k LD with h|h
     .exact j2 (by rw[Aa EM];exact mP _ li)
     .exact j3 (by have h2:w4.heap.size<=k:=h;omega)
 case done=>
  intro D M' W hD B hd _;obtain⟨m,AB,AH,h9,HR,HL,HO,M3,IS⟩:=B.o;have c9:=h9.D 0;refine AR _ _ ?_;refine kI (λK3 FA=>?_);go_wp2;refine FA _ _ ?_;refine wp_ret ?_;rw[<-Aa U1];have FP:OwnFrom _ (fun(_:Unit) W=>kt W N 170 1 (U AB (Z m) AH) (Z m) (qS Ai m)/\Ac [] w W):=BF (λ_ W W' M h k hM=>⟨Ag h.1 k (BY hM h.1),DK h.2 k hM (mt _)⟩);have M2:Dy w.heap.size [D] W:=⟨ln,λd HE=>by simp at HE;have:=KA.C.size;omega,λd HE=>qr⟩;refine Dh [D] W M2 (λG hs=>?_);obtain⟨g1,g2⟩:=hs.own FP (s:=()) M2 ⟨HR,B.C⟩;refine⟨_,results_tmp rfl _ _ _,AB,AH,m,rfl,HL,HO,mZ M3 (nL _ _),?_,g2⟩;rw[Aa HN];exact g1
 case stop=>
  exact ln
structure DA(e:kN bN):Prop where
 len:Z e=26
 j:∀x∈e,SY x
def DA.start:DA Bm:=⟨by simp[Bm],λx a=>j2 (by rw[(List.mem_replicate.1 a).2];rfl)⟩
def DA.set{e}(h:DA e)(j){x}(c:A7 x):DA (e.set j x):=⟨by simp[h.len],λy b=>by
 rcases List.mem_or_eq_of_mem_set b with a|rfl
 .exact h.j y a
 .exact j3 c⟩
def IL(h:DA e):Z (Bo e)=26:=by unfold Bo;rw[mh,h.len]
def JR(h:A7 s):D9 s=AE s:=by
 have a:=h.size;unfold D9 AE;rw[mm a];cases hn:Je s with
 |false=>simp
 |true=>
  rcases h with⟨c,r,e,b,_⟩|h
  .unfold Je at hn;rw[e,Fp]at hn;have:=qg hn;omega
  .rw[mo h]
def IM{t}(h:Dt t)(e):BP (Bo e) (ct t)=W6 (AI e t):=by
 have f:(ct t).v.toNat=t.v.toNat:=lx
 unfold BP ib;rw[f];rcases h with⟨a,c⟩|⟨b,g,_⟩
 .rw[a,mo (show(0:rC).toNat=0 from rfl)]
  unfold AI;rw[mo a,CU c];exact JR c
 .have a:t.v≠0:=λd=>by rw[d]at b;exact rl b lu
  rw[mm lc,<-Ew];unfold Rk;rw[mm a]
def DA.val(b:DA e){t}(h:Dt t):SY (AI e t):=by
 unfold AI;split
 .rename_i d;rcases h with⟨_,c⟩|⟨a,_⟩
  .exact j3 c
  .rw[d]at a;exact rl a lu
 .rw[mq];cases hg:e[t.v.toNat-65]? with
  |none=>exact j2 rfl
  |some x=>exact b.j x (ru hg)
def Ww(f:DA e){b}(h:∀t∈b,Dt t):G1 (Bo e) (b.map ct)=DV e b:=by
 rw[<-N6 b (λt a=>f.val (h t a))];unfold G1 Sd;rw[List.all_map,nz,nI,nI];have d:∀t∈b,((λt=> !Vo (BP (Bo e) t))∘ct) t= !Vo (Rk _ t):=λt a=>by
  simp only[Function.comp];rw[IM (h t a),Ew]
 exact qr
def QX(x):AQ (Mn x)=(Bw x).map ct:=by
 unfold AQ Bw;rw[IP];split<;>simp[Mn]
def Di.zN{x}(h:Di x):∀t∈Bw x,Dt t:=by
 intro t a;unfold Di at h;unfold Bw at a;split at h
 .rename_i b;rw[mo b]at a;exact h.qH t a
 .rename_i b;rw[mm b]at a;rcases l9.1 a with rfl|a
  .exact h.1
  exact qr
def S7(d:DA e){a}(h:∀t∈a,Dt t)(f:DV e a=T6):∀t∈a,A7 (AI e t):=by
 intro t c;rcases d.val (h t c)with h1|h1
 .have b:=nI.1 f t c;rw[(Ed _).2 h1]at b;cases b
 .exact h1
def X7{x}(h:∀t∈x.A.qH,Dt t)(b:∀t∈x.A.qH,A7 (AI e t)):Fv (Bo e) (Mn x)=Bn (Av e x.A):=by
 unfold Fv Bn Av Mn;rw[nh,nh]
 congr 1
 refine nj (λt a=>?_);simp;rw[IM (h t a),CU (b t a)]
def GP{A}(a:∀t∈A.qH,A7 (AI e t)):AG (Av e A):=by
 intro y b;obtain⟨t,c,rfl⟩:=me.1 b;exact a t c
def Y0{u}{x}(v:CJ u f)(F:DA e)(E:Di x)(D:DV e (Bw x)=T6)(h:Lc u (Bo e) (Mn x) B):B=Cm (Av e) (AI e) f x:=by
 have c:=E.zN;have b:=S7 F c D;have G:(Mn x).sort=Gk x.b:=rfl;unfold Lc at h;unfold Cm;rw[G]at h;by_cases g:x.b=97
 .have a:Gk x.b=0:=by rw[g];rfl
  have d:Bw x=x.A.qH:=by unfold Bw;rw[g];rfl
  rw[d]at c b;rw[mo a,X7 c b]at h;rw[mo li];obtain⟨p,n,rfl⟩:=h;exact v.ze (GP b) n
 .have t:¬(x.b==97)=T6:=li
  rw[mm t];by_cases i:x.b=33
  ·(have a:Gk x.b=1:=by rw[i];rfl);(have d:Bw x=x.A.qH:=by unfold Bw;rw[i];rfl);rw[d]at c b;rw[a,mm lu,mo rfl,X7 c b]at h;rw[mo li];obtain⟨p,n,rfl⟩:=h;rw[v.ze (GP b) n]
  ·(have q:¬(x.b==33)=T6:=li);(have d:Bw x=[x.L,x.R]:=by unfold Bw;exact qr);rw[d]at c b;have m:=b x.L ln;have o:=b x.R ln;have w:BP _ (Mn x).l=Rk _ x.L:=(IM (c x.L ln) e).H (Ew e x.L).symm;have z:BP _ (Mn x).r=Rk _ x.R:=(IM (c x.R ln) e).H (Ew e x.R).symm;rw[w,z]at h;rw[mm q];by_cases j:x.b=61
   ·(have a:Gk x.b=2:=by rw[j];rfl);rw[a,mm lu,mm lu,mo rfl,XB m o]at h;rw[mo li];exact h
   ·(have C:¬(x.b==61)=T6:=li);rw[mm C];by_cases k:x.b=35
    ·(have a:Gk x.b=3:=by rw[k];rfl);rw[a,mm lu,mm lu,mm lu,mo rfl,XB m o]at h;rw[mo li];exact h
    ·(have y:¬(x.b==35)=T6:=li);(have a:Gk x.b=4:=by unfold Gk;rw[mm g,mm i,mm j,mm k]);rw[a,mm lu,mm lu,mm lu,mm lu,eL m o]at h;rw[mm y];exact h
def X8{d}{s}{e}(f:CJ d s)(c:DA e):∀a,(∀x∈a,Di x)->∀B,FX d (Bo e) (a.map Mn) B->B=ED a s e
 |[],_,B,h=>h
 |x::a,hb,B,h=>by
  have ih:=X8 f c a (λy j=>hb y (by simp[j]));have g:=hb x ln;rw[mA,FX,QX,Ww c g.zN]at h;have i:ED (x::a) s e=((DV e _&& !Cm _ _ s x)||ED a s e):=lx
  rw[i];cases hset:DV e (Bw x)with
  |false=>
   rw[hset,mm ln]at h;exact ih B h
  |true=>
   rw[hset,mo rfl]at h;obtain⟨H,k,b⟩:=h;have l:=Y0 f c g hset k;rw[<-l,nQ];cases H with
   |true=>
    exact ih B b
   |false=>
    exact oa
def XY(g:DA e):∀a b,(∀t∈a,Dt t)->(∀x∈b,A7 x)->ID (Bo e) (a.map ct) (b.map AE)=RY e a b:=by
 intro a b c f;rw[<-UK a b (λt h=>g.val (c t h)) f];generalize b.map AE=ys
 induction a generalizing ys with
 |nil=>exact lx
 |cons t a ih=>
  cases ys with
  |nil=>simp[ID,Tf]
  |cons y ys=>
   have d:=ih (λu i=>c u (by simp[i])) ys;unfold Tf at d|-;rw[mA,ID,d,p9,pD,IM (c t ln),Ew]
def lD(s:kN Ae)(A:Dp)(i:Nat)(e:kN bN)(m:kN bN):Prop:=∀y,y∈m↔∃t∈GZ s A i e,y=AE t
def cq{o}{s}{A}{m}(c:CJ o s)(u:DA e)(x:∀t∈A.qH,Dt t)(w:∀f∈s,f.a=A.a->i<Z f.qH)(h:Zl (Bo e) (A.qH.map ct) i (o.filter (Qv A.a)) m):lD s A i e m:=by
 intro y;rw[h y];constructor
 .rintro ⟨q,l,b,rfl⟩;obtain⟨z,p⟩:=my.1 l;have j:q.f∈s.map Bn:=by rw[<-c.same];exact mx z
  obtain⟨g,a,r⟩:=me.1 j;have v:g.a.toList==A.a.toList:=by
   (have B:q.f.a=g.a:=by rw[<-r];rfl);unfold Qv at p;rw[B]at p;exact p
  have k:=w g a (toList_inj (by simpa using v));rw[<-r]at b|-;unfold Bn at b|-;rw[XY u _ _ x (c.qK g a)]at b;refine⟨_,me.2 ⟨g,my.2 ⟨a,by rw[v,b];rfl⟩,rfl⟩,?_⟩;rw[mq,mq,no,mc k];rfl
 .rintro ⟨t,C,rfl⟩;obtain⟨g,a,rfl⟩:=me.1 C;obtain⟨a,d⟩:=my.1 a;rw[mC]at d;have k:=w g a (toList_inj (by simpa using d.1));have j:Bn g∈o.map D5.f:=by rw[c.same];exact mx a
  obtain⟨q,l,n⟩:=me.1 j;refine⟨q,my.2 ⟨l,?_⟩,?_,?_⟩
  .unfold Qv;rw[n];exact d.1
  .rw[n];unfold Bn;rw[XY u _ _ x (c.qK g a)];exact d.2
  .rw[n];unfold Bn;rw[mq,mq,no,mc k];rfl
def lm(a b:bN):Prop:=Hn (AE a) (AE b)=T6
def X6(x:bN):kN bN->kN bN
 |[]=>[x]
 |y::l=>if Hn (AE x) (AE y)then x::y::l else if x.toList==y.toList then y::l else y::X6 x l
def jx(e:A7 s)(f:A7 t)(d:Hn (AE s) (AE t)=K)(c:Hn (AE t) (AE s)=K):s=t:=by
 refine FD e f ?_;cases he:jI (AE s) (AE t)with
 |true=>exact(Jj.eqv _ _).1 he
 |false=>rw[Jj.tot _ _ d he]at c;cases c
def Sk(x):∀l y,y∈X6 x l↔y=x\/y∈l
 |[],y=>by simp[X6]
 |z::l,y=>by
  rw[X6];split
  .simp
  .split
   .rename_i a;have e:=toList_inj sA;rw[e];simp
   .rw[l9,Sk x l,l9];constructor<;>(rintro (h|h|h)<;>simp[h])
def Uo{x}(d:A7 x):∀l,(∀y∈l,A7 y)->l.Pairwise lm->(X6 x l).Pairwise lm
 |[],_,_=>by simp[X6]
 |z::l,hc,hp=>by
  obtain⟨c,f⟩:=oh.1 hp;rw[X6];split
  .rename_i b;refine oh.2 ⟨λy a=>?_,hp⟩;rcases l9.1 a with rfl|a
   .exact b
   .exact Jj.H _ _ _ b (c y a)
  .rename_i g;split
   .exact hp
   .rename_i e;refine oh.2 ⟨λy a=>?_,Uo d l (λy a=>hc y sr) f⟩;rcases(Sk x l y).1 a with rfl|a
    .cases hg:Hn (AE z) (AE y)with
     |true=>exact hg
     |false=>exact rl (by rw[jx d (hc z ln) (by simpa using g) hg];simp) e
    .exact c y a
def OI(body:kN Bt)(s:kN Ae)(v:rC)(e:kN bN)(t:bN):Prop:=Du body s v e≠[]/\∀l∈Du body s v e,t∈l
def lN(body:kN Bt)(s:kN Ae)(v:rC)(e:kN bN):kN bN:=match Du body s v e with
 |[]=>[]
 |l::ls=>l.filter λt=>ls.all λm=>m.any λx=>x.toList==t.toList
def Jr(body:kN Bt)(s:kN Ae)(v:rC)(e:kN bN):kN bN:=(lN body s v e).foldr X6 []
def R1:∀(l:kN bN) (y),y∈l.foldr X6 []↔y∈l
 |[],y=>Iff.rfl
 |x::l,y=>by rw[List.foldr_cons,Sk,R1 l,l9]
def Uf:∀(l:kN bN),(∀y∈l,A7 y)->(l.foldr X6 []).Pairwise lm
 |[],_=>rp
 |x::l,h=>Uo (h x ln) _ (λy a=>h y (by simp[(R1 l y).1 a])) (Uf l λy a=>h y sr)
def am(c s v e t):t∈lN c s v e↔OI c s v e t:=by
 unfold lN OI;cases Du c s v e with
 |nil=>simp
 |cons l ls=>
  have a:∀m:kN bN,(m.any λx=>x.toList==t.toList)=T6↔t∈m:=λm=>by
   rw[nD];constructor
   .rintro ⟨x,f,e⟩;rw[<-toList_inj (by simpa using e:x.toList=t.toList)];exact f
   .exact λh=>⟨t,h,ln⟩
  exact qr
def Gj(a s):Ql (Jr a s) a s:=λv e t=>(R1 _ t).H (am a s v e t)
def R5{a}(h:∀t,OI a f g e t->A7 t):(Jr a f g e).Pairwise lm:=Uf _ λt b=>h t ((am a f g e t).1 b)
def E1(fs:kN D5)(b:kN bN)(v:Int):kN PL->kN (kN bN)->Prop
 |[],r=>r=[]
 |x::l,r=>if x.sort=0 then∃n,Tk x.ts ⟨v,ky⟩ n/\(if n<0 then E1 fs b v l r else∃m r',r=m::r'/\Zl b x.ts n.toNat (fs.filter (Qv x.an)) m/\E1 fs b v l r')else E1 fs b v l r
def j6{a:kN AK}(h:∀t∈a,Dt t)(f:EB g)(z:Tk (a.map ct) ⟨(g.toNat:Int),ky⟩ I):(I<0/\a.findIdx? (λt=>t.v==g)=Y)\/(0<=I/\a.findIdx? (λt=>t.v==g)=V I.toNat):=by
 have c:∀t∈a,JQ ⟨g.toNat,ky⟩ (ct t)=(t.v==g):=by
  intro t b;unfold JQ;have r:(g.toNat==(ct t).v)=(t.v==g):=by
   rw[<-jO t g,nz];exact li
  simp only[r];cases hb:(t.v==g)with
  |false=>rfl
  |true=>
   (have p:t.v=g:=by simpa using hb);rcases h t b with⟨l,_⟩|⟨_,_,x⟩
   .rw[p]at l;rw[l]at f;exact rl f.1 lu
   .have y:(ct t).s=ky:=by
     unfold ct;rw[x];rfl
    rw[y,nQ];simp
 rcases z with⟨rfl,o⟩|⟨k,q,rfl,d,w⟩
 .exact qr
 .right;have e:k<Z a:=by simpa using q
  refine⟨lc,?_⟩;rw[show(k:Int).toNat=k by omega];refine oB.2 ⟨e,?_,λj u=>?_⟩
  .exact qr
  ·have m:j<Z a:=lc;exact qr
def ai(s:kN Ae)(body:kN Bt):Prop:=∀f∈s,∀x∈body,(x.b==97)=T6->f.a=x.A.a->Z f.qH=Z x.A.qH
def bu{F}{s}{e}(u:CJ F s)(G:DA e){v}(H:EB v):∀a,(∀x∈a,Di x)->ai s a->∀r,E1 F (Bo e) (v.toNat:Int) (a.map Mn) r->F2 (λm l=>∀y,y∈m↔∃t∈l,y=AE t) r (Du a s v e)/\∀l∈Du a s v e,∀t∈l,A7 t
 |[],_,_,r,h=>by
  subst h;exact⟨F2.nil,λl d=>by simp[Du]at d⟩
 |x::a,hb,hf,r,h=>by
  have ih:=bu u G H a (λy q=>hb y (by simp[q])) (λf T y q=>hf f T y (by simp[q]));have hx:=hb x ln;rw[mA,E1]at h;have AO:(Mn x).sort=Gk x.b:=rfl;rw[AO]at h;have e1:Du (x::a) s v e=match(if x.b==97 then(x.A.qH.findIdx? λt=>t.v==v).map λi=>GZ s x.A i e else Y)with|some c=>c::Du a s v e|none=>Du a s v e:=by
   unfold Du;rw[pW];generalize(if(x.b==97)=T6 then(x.A.qH.findIdx? λt=>t.v==v).map λi=>GZ s x.A i e else Y)=o;cases o<;>rfl
  rw[e1];by_cases b:(x.b==97)=T6
  ·have p:x.b=97:=sB;(have k:Gk x.b=0:=by rw[p];rfl);have E:∀t∈x.A.qH,Dt t:=by
    have:=hx.zN;unfold Bw at this;rw[b,pA,mo rfl]at this;exact this
   rw[mo k]at h;obtain⟨n,w,h⟩:=h;rw[mo b];rcases j6 E H w with⟨AR,S⟩|⟨AT,z⟩
   .rw[mo AR]at h;rw[S];exact ih r h
   .rw[mm lc]at h;obtain⟨m,N,rfl,R,P⟩:=h;rw[z];obtain⟨i1,Q⟩:=ih N P;obtain⟨M,_,_⟩:=oB.1 z;have C:∀f∈s,f.a=x.A.a->n.toNat<Z f.qH:=λf L w=>by
     rw[hf f L x ln b w];exact M
    refine⟨F2.cons (cq u G E C R) i1,λl d=>?_⟩;rcases l9.1 d with rfl|d
    .intro t B;obtain⟨g,j,rfl⟩:=me.1 B;obtain⟨j,D⟩:=my.1 j;rw[mC]at D;have I:=C g j (toList_inj (by simpa using D.1));rw[mq,mc I];exact u.qK g j _ (lV I)
    .exact Q l d
  ·have p:x.b≠97:=sB;have k:Gk x.b≠0:=by
    intro W;have:=Th x.b;exact qr
   rw[mm k]at h;rw[mm b];exact ih r h
def fg{r a:kN (kN bN)}(h:F2 (λm l=>∀y,y∈m↔∃t∈l,y=AE t) r a)(i:∀l∈a,∀t∈l,A7 t)(y):(r≠[]/\La r y)↔∃t,(a≠[]/\∀l∈a,t∈l)/\y=AE t:=by
 cases r with
 |nil=>
  cases a with
  |nil=>simp
  |cons l a=>exact rl h (by simp[F2])
 |cons m r=>
  cases a with
  |nil=>exact rl h (by simp[F2])
  |cons l a=>
   have j:=h.mem;have p:=h.yG;constructor
   .rintro ⟨_,c⟩;obtain⟨t,n,f⟩:=(h.1 y).1 (c m ln);refine⟨t,⟨ln,λk b=>?_⟩,f⟩;obtain⟨q,d,e⟩:=j k b;obtain⟨u,g,o⟩:=(e y).1 (c q d);have:=FD (i k b u g) (i l ln t n) (by rw[<-o,f]);rw[<-this];exact g
   .rintro ⟨t,⟨_,c⟩,rfl⟩;refine⟨ln,λq d=>?_⟩;obtain⟨k,b,e⟩:=p q d;exact(e _).2 ⟨t,c k b,rfl⟩
def Zf{p}(E:CJ p f)(A:DA e)(B:EB g){d}(D:∀x∈d,Di x)(r:ai f d){i}(q:E1 p (Bo e) (g.toNat:Int) (d.map Mn) (i.map kD)){m}(k:MG i m):m=(Jr d f g e).map AE/\∀t∈Jr d f g e,A7 t:=by
 obtain⟨C,o⟩:=bu E A B d D r _ q;have n:∀t,OI d f g e t->A7 t:=by
  rintro t ⟨z,u⟩;cases hl:Du d f g e with
  |nil=>exact rl hl z
  |cons l ls=>exact qr
 refine⟨?_,λt j=>n t ((Gj d f g e t).1 j)⟩;refine Kq (lt:=λa b=>Hn a b=T6) (λa h=>by rw[Jj.irr]at h;cases h) (λa b c=>Jj.H a b c) _ _ k.zB ?_ (λy=>?_)
 .rw[oE];exact R5 n
 .rw[k.mem y];have w:(i≠[]/\La (i.map kD) y)↔(i.map kD≠[]/\La (i.map kD) y):=ln
  rw[w,fg C o,me];constructor
  .rintro ⟨t,j,rfl⟩;exact⟨t,(Gj d f g e t).2 j,rfl⟩
  .rintro ⟨t,j,rfl⟩;exact⟨t,(Gj d f g e t).1 j,rfl⟩
def MK{c}{o}{s}(j:∀v e,(c v e).Nodup)(d:∀v e,∀t∈c v e,t.size≠0):
  ∀a (e:kN bN),Z e=26->a.Nodup->(∀v∈a,EB v)->(Aw c o s a e).Nodup
 |[],e,_,_,_=>by
  rw[Aw];split<;>simp
 |v::a,e,he,hd,hv=>by
  rw[Aw];obtain⟨g,k⟩:=od.1 hd;have f:=hv v ln;have b:∀u∈a,EB u:=λu p=>hv u (by simp[p])
  split
  .simp
  .unfold List.Nodup;rw[List.pairwise_flatMap];refine⟨λt _=>MK j d a _ li k b,?_⟩;refine List.Pairwise.imp ?_ (j v e);intro t u m x q y n l;subst l;have i:=(BV d a _ x li b q).2.2.1 v f g;have h:=(BV d a _ x li b n).2.2.1 v f g;rw[LR he f]at i h;exact m (by rw[<-i,h])
def iZ{a b:kN bN}(g:Z a=26)(j:Z b=26)(h:∀u,EB u->NR a u=NR b u):a=b:=by
 refine List.ext_getElem lc (λi f e=>?_);have c:(UInt8.ofNat (i+65)).toNat=i+65:=li
 have d:=h _ ⟨by rw[c];omega,lc⟩;unfold NR at d;rw[c,Nat.add_sub_cancel,mq,mq,mc f,mc e]at d;exact d
def bR{j}{c}{d p}(C:∀v e,(j v e).Nodup)(l:∀v e,∀t∈j v e,t.size≠0)(A:Td c d p)(r:d.Nodup)(B:∀v∈d,∃t∈c.E.qH,t.v=v):(SN j c d p f).Nodup:=by
 have i:=λv h=>(A.ok v (j2 h)).1
 unfold SN List.Nodup;rw[oE];refine oC ?_ ((MK C l d Bm rfl r i).filter _);intro a b E y w D;have m:=BV l d Bm a rfl i (my.1 E).1;have q:=BV l d Bm b rfl i (my.1 y).1;refine w (iZ m.1 q.1 (λu g=>?_));by_cases k:u∈d
 .obtain⟨t,x,rfl⟩:=B u k;have o:t.v≠0:=λh=>by rw[h]at g;exact rl g.1 lu
  have z:c.E.qH.map _=c.E.qH.map _:=rk Ae.qH D;have n:=List.map_inj_left.1 z t x;rw[EP o,EP o]at n;exact n
 exact qr
def XM:∀(l:kN Ae) (s),D3 s->(∀f∈s,AG f)->l.Nodup->(∀f∈l,f∉s/\AG f)->Z (qU A3 s l)=Z s+Z l
 |[],s,_,_,_,_=>ln
 |f::l,s,hr,hc,hn,h=>by
  obtain⟨n,k⟩:=od.1 hn;obtain⟨j,e⟩:=h f ln;obtain⟨a,b,m⟩:=CR e hr hc;rw[mK,XM l _ a b k (λg c=>⟨λi=>?_,(h g ss).2⟩),(LY s f).2 j,mn]
  .omega
  exact qr
def JC{b}{s}(q:∀f∈s,AG f)(n:ai s b):∀v e t,OI b s v e t->A7 t:=by
 rintro v e t ⟨p,o⟩;cases hl:Du b s v e with
 |nil=>exact rl hl p
 |cons l ls=>
  have g:=o l (by rw[hl];simp);have k:l∈Du b s v e:=by rw[hl];simp
  obtain⟨x,u,a⟩:=nY.1 k;by_cases c:(x.b==97)=T6
  .rw[mo c,pw]at a;obtain⟨i,r,rfl⟩:=a;obtain⟨w,_,_⟩:=oB.1 r;obtain⟨f,m,rfl⟩:=me.1 g;obtain⟨j,d⟩:=my.1 m;rw[mC]at d;have y:=n f j x u c (toList_inj (by simpa using d.1));have h:i<Z f.qH:=lc;rw[mq,mc h];exact q f j _ (lV h)
  .rw[mm c]at a;cases a
def TZ{c}{s}(g:∀f∈s,AG f)(i:ai s c)(v e):(Jr c s v e).Nodup:=by
 refine List.Pairwise.imp ?_ (R5 (JC g i v e));intro a b h d;subst d;unfold lm at h;rw[Jj.irr]at h;cases h
theorem Tryz.yQ:(Tryz.prog.info? 102).map (λi=>(i.zero,i.size,i.bytes))=V (V (U Y 0 0),1,24):=lo
def TQ{p:XH}(h:kt w 0 170 1 p.2 (Z p.1) (qS Ai p.1))(b:kt w m 102 1 z n y)(a:w.grownBy u z.ownBlock):kt u 0 170 1 p.2 (Z p.1) (qS Ai p.1):=
 nF h a (by
  cases hp:p.2.ownBlock with
  |none=>exact ln
  |some q=>exact j3 (λe=>Be h b lu q hp e.symm))
theorem Wi(sp kb ko KD HZ)(e:kN L6)(ov MN K4 d v)(b:kN bN)(w)(hb:Z b=26)(hS:Qa w sp kb ko (U KD (Z e) HZ) ov MN K4 d)(hB:Cg w 0 (U KD (Z e) HZ) e)(QR:Z d<=10000)(SL:Z e<=1000)(hl:∀p∈e,Qt p.1)(Ix:d.Pairwise λa b=>CT a.f b.f<0)(LD:∀(JA:CE) i j (hi:i<Z d) (hj:j<Z d),i<=j->CT d[j].f JA<0->CT d[i].f JA<0)(hq:∀p∈e,p.1.sort=0->∀q∈d,Qv p.1.an q=T6->Z p.1.ts<=Z q.f.dN):rE rF 178 #[jj (V ⟨sp,0,Y⟩),X .i32 v,ku (Za (Al b))] w λr T=>∃(l:rB) (s:Nat) (m:kN bN) (c:kN XH),r=j1 (U l (Z m) s)/\MG c m/\E1 d b v (e.map kD) (c.map kD)/\kt T w.heap.size 170 1 (U l (Z m) s) (Z m) (qS Ai m)/\Ac [] w T:=by
 obtain⟨i0,OH,NE,PT,N4⟩:=mW Tryz.yQ;have NB:=Ab hS;have K6:=Ab hB;have QQ:jV (∀(x:PL) l s z,Ac [] w z->Qt x->Lr w 0 (x,U l _ s)->rE rF 206 #[U l _ s,ku #[X .i32 v,O ⟨#[]⟩]] z _):=λx l s z S hc hx=>dn l s x.ts ⟨v,ky⟩ 0 z (hx.C S) (by have:=hc.len;omega)
 have H3:jV (∀(x:PL) l s (u:Nat) z,Ac [] w z->Qt x->Lr w 0 (x,U l _ s)->(∀q∈d,Qv x.an q=T6->Z x.ts<=Z _)->u<Z x.ts->rE rF 207 _ z _):=
  λx l s u z S hc hx L0 LS=>Yk sp kb ko _ ov MN K4 d x.ap x.an l s x.ts u b z hb (hS.C S) (hx.C S) hc.len hc.ts lc Ix (LD _) (λq H7 LL=>⟨L0 q H7 LL,by have:=L0 q H7 LL;omega⟩)
 have NY:=Ab hl;have M6:=Ab hq;have hc:=Bp b;have K5:Z (Al b)=26:=by unfold Al;simp[hb]
 have IA:=Ab K5;obtain⟨E,hE⟩:=kQ (Al b);rw[hE]at hc K5 IA H3|-;have P:=Ab (kS w E 243);have D:=Ab ((kR [] w).alloc (Y6 (Za E) 243));clear hE hS hB hl LD hq Ix;obtain⟨G,HI⟩:∃G:kN _->Prop,G=E1 d b v (e.map kD):=⟨_,rfl⟩;have W:jV (∀R,E1 d b v ((e.drop 0).map kD) R->G (([]:kN XH).map kD++R)):=λR h=>by rw[HI];exact h
 rw[<-HI];clear HI;obtain⟨F,HJ⟩:=kQ w.heap.size;have FL:=Ab HJ;go_enter func178,ntmps178;apply wp_seq_k;intro KK MB;have HX:=Ab MB;clear MB;go_wp2;refine HX _ _ ?_;clear HX KK;generalize hw1:w.alloc (Y6 (Za E) 243)=w1 at P D|-;clear hw1;rw[HJ]at P|-;clear HJ;have s1:=(NB.C D).zJ.D 1;simp at s1;go_wp2_with fail
 go_loopg [7,16] (Z e) (λgk o i wr=>∃(k:Nat) (c:kN XH) (Ax:rB) (Q:Nat),o=U Ax (Z c) Q/\i=X J k/\k<=Z e/\gk=Z e-k/\Z c<=k/\jV (∀R,E1 d b v ((e.drop k).map kD) R->G (c.map kD++R))/\jV (kt wr F 102 1 (U Ax (Z c) Q) (Z c) (c.flatMap λp=>[p.2]))/\jV (∀p∈c,kt wr 0 170 1 p.2 (Z p.1) (qS Ai p.1)/\C3 Hn p.1/\Z p.1<=10000)/\jV (AF wr F E 243)/\jV (Ac [] w wr))
 case atStart=>exact⟨0,[],Y,0,rfl,rfl,lc,rfl,ln,W,mw _ _ _ _,(λp B=>by cases B),P,D⟩
 case round=>
  clear W P D s1;obtain⟨k,c,Ax,Q,rfl,rfl,S,Mo,RT,W,HO,HE,P,D⟩:=hrel;have HG:=Ab Mo;clear Mo;by_cases FW:k<Z e
  .obtain⟨g,SP,x,I,N,he,FO,_,d0,d1,d2,d3,d4,d5,d6,d7,d8⟩:=VT (K6.C D) k FW;obtain⟨rfl,_,rfl⟩:=qX he;(have FA:(x,U I (Z x.ts) N)∈e:=by rw[<-FO];exact ln);have HD:=Aa NY _ FA;have HA:=(K6.j _ FA).1;(have H5:x.sort=0->∀q∈d,Qv x.an q=T6->Z x.ts<=Z _:=λh=>M6 _ FA h);have B0:jV (∀R,(if x.sort=0 then∃n,Tk x.ts ⟨v,ky⟩ n/\(if n<0 then E1 d b v ((e.drop (k+1)).map kD) R else∃m r',R=m::r'/\Zl b x.ts n.toNat (d.filter (Qv x.an)) m/\E1 d b v ((e.drop (k+1)).map kD) r')else E1 d b v ((e.drop (k+1)).map kD) R)->G (c.map kD++R)):=by
    intro R h;refine W R ?_;rw[mu FW,mA,FO];exact h
   have CW:=Ab (D.alloc (Y6 (Za (Ay (x,U I (Z x.ts) N))) 217));have EM:=Ab (mg HO (Y6 (Za (Ay (x,U I (Z x.ts) N))) 217));(have BA:jV (∀p∈c,kt (wr.alloc (Y6 (Za (Ay (x,U I (Z x.ts) N))) 217)) 0 170 1 p.2 _ _/\C3 Hn p.1/\Z p.1<=10000):=λp B=>⟨mg (HE p B).1 _,(HE p B).2⟩);have FF:=Ab (P.alloc (Y6 (Za (Ay (x,U I (Z x.ts) N))) 217));have HH:=Ab (kS wr (Ay (x,U I (Z x.ts) N)) 217);have EY:=Ab (QQ x I N _ CW HD HA);have B9:=Ab (λu z S hq=>H3 x I N u z S HD HA hq);have ES:=Ab H5;(have SB:F<=wr.heap.size:=by have:=D.size;have:=Aa FL;omega);obtain⟨pl,so,ap,an,ts,⟨lv,RE⟩,⟨rv,SS⟩⟩:=x;simp only[Ay]at CW EM BA FF HH EY B9 B0 ES d0 d1 d2 d3 d4 d5 d6 d7 d8;clear FO FA HD HA H5 W HO HE P D;by_cases M:so=0
   ·(have N0:(so !=0)=K:=by simp[M]);(have Nq:(so==0)=T6:=by simp[M]);have Pl:=Ab (ES M);(have A0:jV _:=λR h=>B0 R (by rw[mo M];exact h));clear B0 ES M;(go_wp2_with fail);refine EY.G ?_;rintro _ w3 ⟨n,rfl,LM,L⟩;have HC:=Ab LM;have A1:=Ab (CW.H L);have FB:=Ab (FF.C L);have AB:=HH.C L;have HQ:=Ab (Ad EM L);(have FC:jV (∀p∈c,kt w3 0 170 1 p.2 _ _/\C3 Hn p.1/\Z p.1<=10000):=λp B=>⟨Ad (BA p B).1 L,(BA p B).2⟩);clear LM EY CW FF EM BA L d0 d1 d2 d3 d4 d5 d6 d7 d8 HH;by_cases hn:n<0
    ·have NV:¬0<=n:=lc;(have AH:jV _:=λR h=>A0 R ⟨n,HC,by rw[mo hn];exact h⟩);clear A0 hn B9 AB;go_wp2
     go_roundg (Z e-(k+1))
     case measure=>exact qu
     case rel=>exact⟨k+1,c,Ax,Q,rfl,ly,lc,rfl,lc,AH,HQ,FC,FB,A1⟩
    ·have NV:0<=n:=lc;obtain⟨u,rfl⟩:∃u:Nat,n=u:=⟨n.toNat,lc⟩;have LS:u<Z ts:=by
      rcases HC with⟨h,_⟩|⟨j,hj,h,_⟩
      .omega
      .omega
     have H8:=Ab (B9 u w3 A1 Pl LS);obtain⟨e0,e1,e2,e3,e4⟩:=AB.c5;simp at e0 e1 e2 e3 e4;clear AB B9 hn;go_wp2_with ((with_reducible refine qY 243 ?_);refine BX lx 243 _ rfl F 0 lx E _ FB.range underlying243 rfl (by rw[Aa IA];exact Tryz.zC) ?_)
     refine H8.G ?_;rintro _ w4 ⟨C,A,m,rfl,LB,KB,H,DT,k4⟩;have HP:=Ab (A1.H k4);have HM:=Ab (FB.C k4);have AR:=Ad HQ k4;(have HL:jV (∀p∈c,kt w4 0 170 1 p.2 _ _/\C3 Hn p.1/\Z p.1<=10000):=λp B=>⟨Ad (FC p B).1 k4,(FC p B).2⟩);have BT:jV (kt w4 0 170 1 _ (Z m) _):=Ak DT (mr _);have Os:jV (C3 Hn m/\Z m<=10000):=⟨LB,lc⟩;have AH:jV (∀R,E1 d b v ((e.drop (k+1)).map kD) R->G ((c++[(m,U C (Z m) A)]).map kD++R)):=by
      intro R h;have h2:=Aa A0 _ ⟨u,HC,by exact⟨m,R,rfl,li,h⟩⟩;exact li
     (have RV:F<=w4.heap.size:=by have:=HP.size;have:=Aa FL;omega);clear H8 A1 FB HQ FC k4 LB KB H DT A0 e0 e1 e2 e3 e4;obtain⟨y,H⟩:=kQ (Z m);have Ha:=Ab H;rw[H]at AH BT|-;clear H;go_wp2_with (at_builtin;refine mE _ rfl (.tmp 31) (.tmp 38) _ rfl F 102 i0 _ 1 24 underlying303 OH NE PT N4 rfl lc (U Ax (Z c) Q) (Z c) (c.flatMap λp=>[p.2]) rfl (mg AR _) ⟨w4.heap.size,0,Y⟩ 1 1 [U C y A] rfl rfl (mz (mG w4 _)) lC lc lw lc li (w4.heap.size+1) ln ?_;intro g1 IJ w9 K2 B2 M3 Nx)
     have Nd:jV (kt w9 F 102 1 (U (V ⟨g1,0,Y⟩) (Z (c++[(m,U C y A)])) IJ) (Z (c++[(m,U C y A)])) ((c++[(m,U C y A)]).flatMap λp=>[p.2])):=by
      rw[mD];simp;exact K2
     have NA:jV (∀p∈c++[(m,U C y A)],kt w9 0 170 1 p.2 (Z p.1) (qS Ai p.1)/\C3 Hn p.1/\Z p.1<=10000):=by
      intro p B;rcases mi.1 B with h|h
      .exact⟨TQ (mg (HL p h).1 _) (mg AR _) B2,(HL p h).2⟩
      .simp at h;subst h;exact⟨TQ (p:=(m,U C y A)) (mg (by rw[Aa Ha];exact BT) _) (mg AR _) B2,Os⟩
     have N2:=Ab ((HP.alloc _).grown B2 (λq hq=>j3 (by have:=(AR.lt q hq).1;have:=Aa FL;omega)));have NM:jV (AF w9 F E 243):=(HM.alloc _).grown B2 (Ap AR HM lu);clear K2 B2 M3 Nx AR HL HP HM BT
     go_roundg (Z e-(k+1))
     case measure=>exact qu
     case rel=>exact⟨k+1,_,_,IJ,ln,ly,lc,rfl,li,AH,Nd,NA,NM,N2⟩
   ·(have N0:(so !=0)=T6:=by simp[M]);(have Nq:(so==0)=K:=by simp[M]);(have AH:jV _:=λR h=>B0 R (by rw[mm M];exact h));clear M B0 EY B9 ES;go_wp2
    go_roundg (Z e-(k+1))
    case measure=>exact qu
    case rel=>exact⟨k+1,c,Ax,Q,rfl,ly,lc,rfl,lc,AH,EM,BA,FF,CW⟩
  .have A0:jV (G (c.map kD)):=by
    have h:=Aa W [] (by rw[mN lc];rfl);rw[mQ]at h;exact h
   have HV:=Ab (Yt Ax Q c wr ⟨Ak HO (mr _),HE⟩ lc);clear W HO HE P;(go_wp2_with fail);refine HV.G ?_;rintro _ w3 ⟨l,s,m,rfl,HY,DT,L⟩;have NS:=Ab HY;have BT:=Ab (Ak DT (show w.heap.size<=wr.heap.size from D.size))
   have A1:=Ab (D.H L);obtain⟨y,H⟩:=kQ (Z m);have Ha:=Ab H;rw[H];clear HY DT L HV H;go_wp2;go_ret;rw[<-Aa Ha];refine⟨l,s,m,c,rfl,NS,A0,?_,A1⟩;rw[<-Aa FL];exact BT
def De(vs:kN rC):kN Int:=vs.map λv=>(v.toNat:Int)
structure eV(w:jH)(sp:Nat)(body:kN Bt)(s:kN Ae)(vs:kN rC):Prop where
 e:∃(kb ko:Nat) (bad:rB) (bcp:Nat) (ea:kN L6) (oad:rB) (ocp:Nat) (sad:rB) (scp:Nat) (fs:kN D5),
  Qa w sp kb ko (U bad (Z ea) bcp) (U oad (Z (De vs)) ocp) sad scp fs/\Cg w 0 (U bad (Z ea) bcp) ea/\ea.map kD=body.map Mn/\
  kt w 0 21 1 (U oad (Z (De vs)) ocp) (Z (De vs)) (qS AX (De vs))/\CJ fs s
 len:Z s<=10000
 g:∀x∈body,Di x/\Qt (Mn x)
 blen:Z body<=1000
 z7:Z vs<=1000
 fit:ai s body
 ok:∀v∈vs,EB v
def eV.C{w w'}{a}{c}{s}{b}(h:eV w a c s b)(k:Ac [] w w'):eV w' a c s b:=by
 obtain⟨t,n,u,l,i,o,d,r,g,p,j,e,q,f,m⟩:=h.e;exact⟨⟨t,n,u,l,i,o,d,r,g,p,j.C k,e.C k,q,Ad f k,m⟩,h.len,h.g,h.blen,h.z7,h.fit,h.ok⟩
def CJ.len{a}(h:CJ a f):Z a=Z f:=by
 have:=rk List.length h.same;simpa using this
def UG{a}{t}(h:eV w n a f t)(i:DA e):
  rE rF 177 #[jj (V ⟨n,0,Y⟩),ku (Za (Al (Bo e)))] w λr g=>r=j1 (.bool (ED a f e))/\Ac [] w g:=by
 obtain⟨F,v,q,o,j,G,L,y,C,D,u,m,c,I,b⟩:=h.e;have M:=b.len;have P:Z j=Z a:=by have:=rk List.length c;simpa using this
 have H:=h.blen;have N:=h.len;refine(ZH n F v q o j _ y C D _ w (IL i) u m lc lc (λp z=>?_) (λA=>b.G A)).G ?_
 .have:p.1∈a.map Mn:=by rw[<-c];exact mx z
  obtain⟨x,d,E⟩:=me.1 this;rw[<-E];exact(h.g x d).2
 .rintro r g ⟨B,rfl,l,k⟩;rw[c]at l;exact⟨by rw[X8 b i a (λx d=>(h.g x d).1) B l],k⟩
def Wg{a}{s}{N}(h:eV w n a s N)(D:DA e){v}(hv:EB v):
  rE rF 178 #[jj (V ⟨n,0,Y⟩),X .i32 (v.toNat:Int),ku (Za (Al (Bo e)))] w λr t=>∃(l:rB) (o:Nat),r=j1 (U l (Z ((Jr a s v e).map AE)) o)/\
   kt t w.heap.size 170 1 (U l (Z ((Jr a s v e).map AE)) o) (Z ((Jr a s v e).map AE)) (qS Ai ((Jr a s v e).map AE))/\Ac [] w t:=by
 obtain⟨kb,Q,I,G,y,A0,BA,S,W,fs,P,F,u,h4,b⟩:=h.e;have hl:=b.len;have B0:Z y=Z a:=by have:=rk List.length u;simpa using this
 have hb:=h.blen;have hn:=h.len;have C:∀p∈y,∃x∈a,Mn x=p.1:=λp c=>by
  have:p.1∈a.map Mn:=by rw[<-u];exact mx c
  exact me.1 this
 refine(Wi n kb Q I G y _ S W fs _ _ w (IL D) P F lc lc (λp c=>?_) b.pair (λT=>b.G T) (λp c E q M j=>?_)).G ?_
 .obtain⟨x,d,i⟩:=C p c;rw[<-i];exact(h.g x d).2
 .obtain⟨x,d,i⟩:=C p c;have hm:q.f∈s.map Bn:=by rw[<-b.same];exact mx M
  obtain⟨g,H,B⟩:=me.1 hm;rw[<-i]at E j|-;have L:(x.b==97)=T6:=by
   rw[<-Th];have:Gk x.b=0:=E;exact li
  have AO:g.a=x.A.a:=by
   unfold Qv at j;rw[<-B]at j;exact toList_inj (by simpa[Mn,Bn] using j)
  have:=h.fit g H x d L AO;rw[<-B];simp[Mn,Bn];omega
 .rintro r t ⟨l,o,m,ps,rfl,R,z,AR,k⟩;rw[u]at z;obtain⟨i,_⟩:=Zf b D hv (λx d=>(h.g x d).1) h.fit z R;rw[<-i];exact⟨l,o,rfl,AR,k⟩
def dv{a}{b}(h:eV w n a f b)(v e):∀t∈Jr a f v e,A7 t:=by
 obtain⟨y,q,z,o,l,p,g,u,k,r,m,i,x,j,c⟩:=h.e;exact λt d=>JC c.qK h.fit v e t ((Gj a f v e t).1 d)
def dA{l}{a}(h:eV w n l f a)(k m):
  ∃(d c:Nat) (u:jR) (g b:Nat),AF w n [jj (V ⟨d,c,Y⟩),u,U (V ⟨g,0,Y⟩) (Z a) b] 237/\jY w ⟨g,k,Y⟩=V (X .i32 (a[k].toNat:Int)):=by
 obtain⟨d,c,z,x,G,y,C,B,D,E,p,v,F,o,A⟩:=h.e;have j:k<Z (De a):=by unfold De;exact li
 obtain⟨g,b,r,t⟩:=R4 o k j;have q:Z (De a)=Z a:=by unfold De;simp
 have i:=p.zJ;rw[r,q]at i;refine⟨d,c,_,g,b,i,?_⟩;have e:(De a)[k]=a[k].toNat:=by simp[De]
 rw[t,e]
end
section
variable{v w u:jH}{e:kN bN}{M:kN Nat}
structure dX(w0:jH)(sp b1 b2 b3 b4 from_ yM:Nat)(e:kN bN)(M:kN Nat)(w:jH):Prop where
 C:Ac [] w0 w
 s:AF w b1 [jj (V ⟨sp,0,Y⟩)] 233
 bound:AF w b2 (Al (Bo e)) 243
 fr:AF w b3 [X J from_] 3
 yM:AF w b4 [X J yM] 3
 apart:∀k∈M,w0.heap.size<=k/\k≠b1/\k≠b2/\k≠b3/\k≠b4/\k<w.heap.size
structure VC(w0:jH)(M1:kN Nat)(sp b1 b2 b3 b4 from_ yM:Nat)(e:kN bN)(M:kN Nat)(w:jH):Prop where
 C:Ac M1 w0 w
 s:AF w b1 [jj (V ⟨sp,0,Y⟩)] 233
 bound:AF w b2 (Al (Bo e)) 243
 fr:AF w b3 [X J from_] 3
 yM:AF w b4 [X J yM] 3
 apart:∀k∈M,(k∈M1\/w0.heap.size<=k)/\k≠b1/\k≠b2/\k≠b3/\k≠b4/\k<w.heap.size
def dX.more{d c f i g j a}(h:dX v d c f i g j a e M w):VC v [] d c f i g j a e M w:=
 ⟨h.C,h.s,h.bound,h.fr,h.yM,λk b=>⟨j3 (h.apart k b).1,(h.apart k b).2⟩⟩
def VC.grow{c b d g f j a}{M l}(h:VC v l c b d g f j a e M w)(k:Ac [] w u):VC v l c b d g f j a e M u:=
 ⟨h.C.H (k.G ln),h.s.C k,h.bound.C k,h.fr.C k,h.yM.C k,λi t=>by
  obtain⟨p,n,r,o,q,m⟩:=h.apart i t
  exact⟨p,n,r,o,q,nR m k.size⟩⟩
set_option maxRecDepth 100000
theorem I1(a d b:Nat)(E:kN jR)(w)(k:(ku (Za E)).cells=Za E)(j:Z E=26):rE rF 141 #[jj (V ⟨a,0,Y⟩),X J d,X J b,ku (Za E)] w λr c=>∃e f i g,r=j1 (.func (.func 176) #[] #[jj (V ⟨e,0,Y⟩),jj (V ⟨f,0,Y⟩),jj (V ⟨i,0,Y⟩),jj (V ⟨g,0,Y⟩)])/\
   AF c e [jj (V ⟨a,0,Y⟩)] 233/\AF c f E 243/\AF c i [X J d] 3/\AF c g [X J b] 3/\(w.heap.size<=e/\w.heap.size<=f/\w.heap.size<=i/\w.heap.size<=g)/\Ac [] w c:=by
 go_enter func141,ntmps141;go_wp2;go_ret;refine⟨w.heap.size,w.heap.size+3,w.heap.size+1,w.heap.size+2,rfl,?_,?_,?_,?_,⟨lc,lc,lc,lc⟩,((((kR [] w).alloc _).alloc _).alloc _).alloc _⟩
 .exact(((kS w [jj (V ⟨a,0,Y⟩)] 233).alloc _).alloc _).alloc _
 .have h:=kS (((w.alloc (Y6 #[jj (V ⟨a,0,Y⟩)] 233)).alloc (Y6 #[X J d] 3)).alloc (Y6 #[X J b] 3)) E 243
  rw[mJ,mJ,mJ]at h;exact h
 .have h:=((kS (w.alloc (Y6 #[jj (V ⟨a,0,Y⟩)] 233)) [X J d] 3).alloc (Y6 #[X J b] 3)).alloc (Y6 (Za E) 243)
  rw[mJ]at h;exact h
 .have h:=(kS ((w.alloc (Y6 #[jj (V ⟨a,0,Y⟩)] 233)).alloc (Y6 #[X J d] 3)) [X J b] 3).alloc (Y6 (Za E) 243)
  rw[mJ,mJ]at h;exact h
theorem V2(C f s vs w0 M1)(hS:∀a,Ac M1 w0 a->eV a C f s vs)(al n e B k A H w d)(he:DA e)(hB:VC w0 M1 C B k A H n n e d w):K0 rF 176 #[jj (V ⟨B,0,Y⟩),jj (V ⟨k,0,Y⟩),jj (V ⟨A,0,Y⟩),jj (V ⟨H,0,Y⟩)] (λx=>#[ku (Za (Al (Bo x)))]) (Aw al f s [] e) d w:=by
 intro l S Jx W E0 _ _ hJ HE hR BA;have g:=hB.grow E0;have y:jV (∀a,Ac [] W a->rE rF 177 _ a _):=λa i=>UG (hS _ (g.C.H (i.G ln))) he
 have hc:=Bp (Bo e);have CL:Z (Al (Bo e))=26:=by unfold Al;rw[mh];exact IL he
 have M:=Ab CL;have u:jV (Aw al f s [] e=if ED f s e then[] else[e]):=lx
 have I:=Ab hR;have HJ:=Ab hJ;have FC:=Ab BA;obtain⟨p,B0⟩:=kQ (Aw al f s [] e);rw[B0]at u I|-;have T:jV (∀a,p=[e]->S [] d a->YieldAt Fence.wide 0 rF l #[ku (Za (Al (Bo e)))] a λr W'=>(r=j1 (kx T6)/\∃b,S [e] b W')\/(r=j1 (kx K)/\∃b,Jx [e] b W')):=by
  intro a HB hj;have h:=Aa I [] e [] d a li hj;refine YieldAt.mono h ?_;rintro r W' (⟨rfl,b,h1,_⟩|⟨rfl,b,h1,_⟩)
  .exact j2 ⟨rfl,b,h1⟩
  .exact j3 ⟨rfl,b,h1⟩
 obtain⟨E,hE⟩:=kQ (Al (Bo e));have Q:=g.bound;rw[hE]at hc CL M y T Q;have P:=g.s.D 0;have R:=g.fr.D 0;have c4:=g.yM.D 0;simp at P R c4;have AH:jV (∀a,Ac [] W a->AF a k E 243/\jY a _=V _/\jY a _=V _/\jY a _=V _):=λa i=>⟨Q.C i,i.cellAt P,i.cellAt R,i.cellAt c4⟩
 obtain⟨F,hF⟩:=kQ (ED f s e);rw[hF]at u y;clear hB g Q hR hJ BA HE B0 hE hF P R c4 E0 I;have m:=Ab ((kR [] W).alloc (Y6 #[.func (.yield l) #[] #[]] 279));have G:=Ab (kS W [.func (.yield l) #[] #[]] 279);show rE rF 176 #[.func (.yield l) #[] #[],jj (V ⟨B,0,Y⟩),jj (V ⟨k,0,Y⟩),jj (V ⟨A,0,Y⟩),jj (V ⟨H,0,Y⟩)] W _;go_enter func176,ntmps176;refine kI (λD j=>?_);go_wp2;refine j _ _ ?_;clear j D;change Code.wp _ _ _ _ (W.alloc (Y6 #[.func (.yield l) #[] #[]] 279));generalize hw1:W.alloc (Y6 #[.func (.yield l) #[] #[]] 279)=w1 at m G|-;clear hw1;generalize W.heap.size=N at G|-;obtain⟨q2,q1,q3,q4⟩:=AH w1 m;have EK:=Ab (y w1 m);have B9:=Ab q2;clear q2;refine kI (λD j=>?_);go_wp2_with ((with_reducible refine qY 243 ?_);refine BX lx 243 _ rfl k 0 lx E _ B9.range underlying243 rfl (by rw[Aa M];exact Tryz.zC) ?_)
 refine EK.G ?_;rintro _ w2 ⟨rfl,L⟩;have CC:=Ab (m.H L);have Go:=Ab (G.C L);have BS:jV (S [] d w2):=Bz HJ (s:=([],d)) FC CC;obtain⟨r2,r1,r3,r4⟩:=AH w2 CC;have FL:=Ab r2;have r5:=Go.D 0;simp at r5;clear L q1 q3 q4 B9 EK y m G r2 AH;cases F with
 |true=>
  have z:jV (p=[]):=by show _=_;rw[Aa u,mo rfl]
  go_wp2;refine mF (pI rfl _ _ _) rfl ?_;exact⟨⟨_,rfl⟩,j2 ⟨d,by rw[Aa z];exact BS⟩⟩
 |false=>
  have z:jV (p=[e]):=by show _=_;rw[Aa u,mm ln]
  have FT:=Ab (T w2 z BS);have HM:((n:Int)==n)=T6:=ln
  clear u T;go_wp2;refine j _ _ ?_;clear j D;refine kI (λD j=>?_);refine kI (λK4 t=>?_);go_wp2;refine t _ _ ?_;clear t K4;refine wp_cond_true rfl ?_;refine kI (λK4 t=>?_);refine Gz (n:=0) 2 lM (λK2 EM=>?_);simp;go_wp2_with ((with_reducible refine qY 243 ?_);refine BX lx 243 _ rfl k 0 lx E _ FL.range underlying243 rfl (by rw[Aa M];exact Tryz.zC) ?_)
  refine EM _ _ ?_;clear EM K2;simp;refine Iy (λ_=>trivial) rfl rfl (l:=l) (args:=#[ku (Za E)]) lx sG FT ?_;rintro r w4 (⟨rfl,b,q⟩|⟨rfl,b,q⟩)
  .refine⟨_,rfl,Dj lM ?_⟩;have A0:=Ab q;refine t _ _ ?_;go_wp2;refine mF (pI rfl _ _ _) rfl ?_;exact⟨⟨_,rfl⟩,j2 ⟨b,by rw[Aa z];exact A0⟩⟩
  .refine⟨_,rfl,Dj lM ?_⟩;have A0:=Ab q;refine t _ _ ?_;go_wp2;refine mF (pI rfl _ _ _) rfl ?_;exact⟨⟨_,rfl⟩,j3 ⟨_,b,A0⟩⟩
end
section
variable{w v u:jH}{n m:Nat}{f:kN Ae}{P:Program}{Q:Exit->Act->jH->Prop}{a:Act}{M:kN Nat}
def fI{α β:Type}(f:α->kN β)(l:kN α)(k a):qS f l=qS f (qT k l)++(f l[k]++qS f (l.drop (k+1))):=by
 conv=>lhs;rw[<-ni k l,mD,mu a,mB]
def Zs{α β:Type}(f:α->kN β)(l:kN α)(k a):qS f (qT (k+1) l)=qS f (qT k l)++f l[k]:=by
 rw[lW a,mD];simp
def jb{a}{s}(m:∀f∈s,AG f)(j:ai s a)(v e):Z (Jr a s v e)<=Z s:=by
 have g:=Gj a s v e;cases hl:Du a s v e with
 |nil=>
  cases ha:Jr a s v e with
  |nil=>simp
  |cons t l=>
   have h:=(g t).1 (by rw[ha];simp);exact rl hl h.1
 |cons l ls=>
  have c:l∈Du a s v e:=by rw[hl];simp
  have n:Z l<=Z s:=by
   obtain⟨x,p,b⟩:=nY.1 c;by_cases d:(x.b==97)=T6
   .rw[mo d,pw]at b;obtain⟨i,o,rfl⟩:=b;unfold GZ;rw[mh];exact nL _ _
   .rw[mm d]at b;cases b
  have:=MQ _ l (TZ m j v e) (λt k=>((g t).1 k).2 l c);omega
def jD{a}{b}(h:eV w n a f b)(v e):Z (Jr a f v e)<=10000:=by
 obtain⟨u,o,x,m,k,p,d,t,j,q,l,g,r,i,c⟩:=h.e;have:=jb c.qK h.fit v e;have:=h.len;omega
section
variable {P:Program} {ops:Array Oper} {Q:Exit->Act->jH->Prop} {md:Region.Mode} {S:jH->Prop} {k:Nat}
def Cw.firstH{i}{n}{v}(A:ops[i]?=V n)(G:∀(j:Nat) (o:Oper) p b,ops[j]?=V o->o.op≠ .select p b)(T:∀c a w,Q (.panic c) (a.put n.dst v) w->Q (.panic c) a w)(hW:ops.size<=k):
  ∀r f a w,
   (∀j m,ops[j]?=V m->j≠i->f.getD j T6=K->(∀e∈m.after,Region.binds md e=T6->e.on≠i)->n.apart ops m=T6)->
   i∈Region.ready md ops f->YieldsIf P ops S n v a->S w->
   Cw P md ops Q S k r (f.setIfInBounds i T6) (a.put n.dst v) w->Cw P md ops Q S k (r+1) f a w:=by
 intro r
 induction r with
 |zero=>
  intro f a w _ l u t H;refine⟨λh=>(by rw[h]at l;cases l),λj s=>?_⟩;by_cases d:j=i
  .subst d;exact u.wpOp A t ⟨λ_=>t,H⟩
  .have:=pZ s d;rw[H.1]at this;cases this
 |succ r ih=>
  intro f a w D l u t H;have F:=(mem_ready.1 l).1;refine⟨λh=>(by rw[h]at l;cases l),λj s=>?_⟩;by_cases d:j=i
  .subst d;exact u.wpOp A t ⟨λ_=>t,H⟩
  .have C:j≠k:=λe=>by
    obtain⟨_,o,ho,_⟩:=mem_ready.1 s;have:=(mV.1 ho).1;omega
   have h1:=H.2 j (pZ s d);obtain⟨B,m,y,AT⟩:=mem_ready.1 s;have Ax:∀e∈m.after,Region.binds md e=T6->e.on≠i:=λe he N R=>by
    have g:=AT e he N;rw[R]at g;rcases Nat.lt_or_ge i f.size with z|z
    .simp[z]at F g;rw[F]at g;cases g
    .simp[px z]at g
   have g:=wpOp_putIf y (D j m y d B Ax) (λp b=>G i n p b A) (λp b=>G j m p b y) T u h1;refine wpOp_mono (λa' M x=>⟨λ_=>x.2.1 C,ih (f.setIfInBounds j T6) a' M (λq oq W AR I L=>D q oq W AR ?_ L) (pZ l (Ne.symm d)) x.1 (x.2.1 C) ?_⟩) g
   .by_cases E:j=q
    .subst E;exact B
    .rw[getD_set_ne T6 E]at I;exact I
   .rw[p5 _ _ d];exact x.2.2
def Cw.yD{i}{d}{v}{e}{b}{a}{w}(f:ops[i]?=V d)(o:Region.noSelect ops=T6)(g:Region.free md ops b i=T6)(n:(Region.ready md ops b).contains i=T6)(j:ops.size<=k)(p:∀c a w,Q (.panic c) (a.put d.dst v) w->Q (.panic c) a w)(m:S w)(l:YieldsIf P ops S d v a)(h:Cw P md ops Q S k e (b.setIfInBounds i T6) (a.put d.dst v) w):Cw P md ops Q S k (e+1) b a w:=
 Cw.firstH f (Region.noSelect_spec o) p j e b a w (Region.free_spec f g) (by simpa using n) l m h
def Cw.tkH{i}{d}{v}{f}{e}{a}{w}(n:ops[i]?=V d)(b:lz md ops e i (decide (ops.size<=k))=T6)(m:∀c a w,Q (.panic c) (a.put d.dst v) w->Q (.panic c) a w)(l:jV (S w))(g:Region.wanted d (yielded ops a.tmps)=T6)(j:∀w,S w->(execOp a.eval d).run P w=.ok (.value v) w)(h:Cw P md ops Q S k f (e.setIfInBounds i T6) (a.put d.dst v) w):Cw P md ops Q S k (f+1) e a w:=by
 unfold lz at b;simp only[mC,oV]at b;exact Cw.yD n b.1.1.1 b.1.1.2 b.1.2 b.2 m l (j2 ⟨g,j⟩) h
theorem Cw.tqH{i:Nat}{b:Oper}{v:jR}{e:Nat}{d:Array rD}{a:Act}{w:jH}(n:ops[i]?=V b)(g:∀c a w,Q (.panic c) (a.put b.dst v) w->Q (.panic c) a w)(l:jV (S w))(h:Cw P md ops Q S k e (d.setIfInBounds i T6) (a.put b.dst v) w)(m:lz md ops d i (decide (ops.size<=k))=T6:=by kernel_rfl)(f:Region.wanted b (yielded ops a.tmps)=T6:=by rfl)
  (j:∀w,S w->(execOp a.eval b).run P w=.ok (.value v) w:=by(intro o p;(try go_split_ands);go_simp)):Cw P md ops Q S k (e+1) d a w:=Cw.tkH n m g l f j h
end
def iH(k:Nat)(h:k<=1000000):wrap64 ((k:Int)+1)=((k+1:Nat):Int):=by
 unfold wrap64;omega
def KQ(Q:Exit->Act->jH->Prop):Exit->Act->jH->Prop
 | .panic _,_,_=>False
 | .outgrown,_,_=>False
 |e,a,w=>Q e a w
def GD{c:Code}(h:c.wp P (KQ Q) a w):c.wp P Q a w:=wp_mono h (λe a w h=>by
 cases e<;>first|exact h|exact h.elim)
structure ZB(M0:kN Nat)(w3:jH)(M:kN Nat)(w:jH):Prop where
 C:Ac M0 w3 w
 mem:∀q∈M,(q∈M0\/w3.heap.size<=q)/\q<w.heap.size
def ZB.step{b M e}(h:ZB b v M w)(k:Ac M w u)(d:∀q∈e,(q∈M\/w.heap.size<=q)/\q<u.heap.size):ZB b v e u:=
 ⟨h.C.trans' k (λi f=>(h.mem i f).1),λq c=>⟨by
  rcases(d q c).1 with a|a
  .exact(h.mem q a).1
  .exact j3 (mZ h.C.size a),(d q c).2⟩⟩
structure XN(J:kN (kN bN)->kN Nat->jH->Prop)(l:Nat)(P0:kN (kN bN))(M:kN Nat)(w5:jH)(pre:kN (kN bN))(M':kN Nat)(W:jH):Prop where
 e:∃Mo,M'=l::Mo/\J (P0++pre) Mo W/\ZB M w5 Mo W
structure XZ(Jx:kN (kN bN)->kN Nat->jH->Prop)(l:Nat)(M:kN Nat)(w5:jH)(c:Code)(W:jH):Prop where
 ret:c=.ret
 e:∃pre Mo,Jx pre Mo W
 C:Ac (l::M) w5 W
def XN.own{d}{f}(o:OwnFrom n (fun(s:kN (kN bN)×kN Nat) W=>d s.1 s.2 W))(t:n<=w.heap.size):OwnFrom w.heap.size (fun(s:kN (kN bN)×kN Nat) W=>XN d m f M w s.1 s.2 W):=λs A C j p b a=>by
 obtain⟨h,k,i,c⟩:=p.e;refine⟨h,k,o (f++s.1,h) A C j i b (λr e=>⟨by have:=(a r e).1;omega,(a r e).2⟩),c.C.grown b (λr e=>j3 (a r e).1),λq g=>⟨(c.mem q g).1,nR (c.mem q g).2 b.size⟩⟩
def XZ.own{h}(k:OwnFrom n (fun(s:kN (kN bN)×kN Nat) W=>h s.1 s.2 W))(o:n<=w.heap.size)(c):OwnFrom w.heap.size (fun(s:kN (kN bN)×kN Nat) W=>XZ h m M w c W):=λs A C j b f a=>by
 obtain⟨d,g,i⟩:=b.e;exact⟨b.ret,⟨d,g,k (d,g) A C j i f (λr e=>⟨by have:=(a r e).1;omega,(a r e).2⟩)⟩,b.C.grown f (λr e=>j3 (a r e).1)⟩
def GT{d}{f}{s}:∀c (e:kN bN),Z e=26->∀b∈Aw d f s c e,Z b=26
 |[],e,he,b,a=>by
  rw[Aw]at a;exact qr
 |v::c,e,he,b,a=>by
  rw[Aw]at a;split at a
  .simp at a
  .obtain⟨t,_,a⟩:=mH.1 a;exact GT c _ li b a
def Nk{a}(h:Dy n a w)(k:Ac M w v)(c:∀D∈a,D∉M):Dy n a v:=
 ⟨h.nodup,h.ge,λD b=>(k.block D (mV.1 (h.e D b)).1 (c D b)).H (h.e D b)⟩
def Xj(h:Dy n M w):∀D∈M,D<w.heap.size:=λD a=>(mV.1 (h.e D a)).1
set_option maxRecDepth 100000
theorem Ve(G:Nat)(A:kN Bt)(s:kN Ae)(vs:kN rC)(w0:jH)(M1:kN Nat)(MY:∀f,Ac M1 w0 f->eV f G A s vs)(v:rC)(FO:kN rC)(m A2:Nat)(e:kN bN)(b1 b2 b3 b4:Nat)(w:jH)(M0:kN Nat)(he:DA e)
  (HM:m<A2) (f6:A2<=Z vs) (hv:vs[m]' lc=v) (hB:VC w0 M1 G b1 b2 b3 b4 m A2 e M0 w)
  (ih:∀(e':kN bN) (c1 c2 c3 c4:Nat) (w':jH) (M:kN Nat),DA e'->VC w0 M1 G c1 c2 c3 c4 (m+1) A2 e' M w'->
   K0 rF 176 #[jj (V ⟨c1,0,Y⟩),jj (V ⟨c2,0,Y⟩),jj (V ⟨c3,0,Y⟩),jj (V ⟨c4,0,Y⟩)] (λx=>#[ku (Za (Al (Bo x)))]) (Aw (Jr A s) A s FO e') M w'):K0 rF 176 #[jj (V ⟨b1,0,Y⟩),jj (V ⟨b2,0,Y⟩),jj (V ⟨b3,0,Y⟩),jj (V ⟨b4,0,Y⟩)] (λx=>#[ku (Za (Al (Bo x)))]) (Aw (Jr A s) A s (v::FO) e) M0 w:=by
 intro l B9 Jx W H9 cf ek hJ RT hR dT;have hS:=MY _ hB.C;have KB:EB v:=by rw[<-hv];exact hS.ok _ (lV _)
 have FB:=hB.grow H9;have K4:jV (∀f,Ac [] W f->rE rF 177 #[jj (V ⟨G,0,Y⟩),ku (Za (Al (Bo e)))] f λr w'=>r=j1 (kx (ED A s e))/\Ac [] f w'):=λf p=>UG (MY _ (FB.C.H (p.G ln))) he
 have HV:jV (∀f,Ac [] W f->rE rF 178 #[jj (V ⟨G,0,Y⟩),X .i32 (v.toNat:Int),ku (Za (Al (Bo e)))] f λr w'=>∃(ad:rB) (cp:Nat),r=j1 (U ad (Z ((Jr A s v e).map AE)) cp)/\
   kt w' f.heap.size 170 1 (U ad (Z ((Jr A s v e).map AE)) cp) (Z ((Jr A s v e).map AE)) (qS Ai ((Jr A s v e).map AE))/\Ac [] f w'):=λf p=>Wg (MY _ (FB.C.H (p.G ln))) he KB
 have hc:=Bp (Bo e);have NE:Z (Al (Bo e))=26:=by unfold Al;rw[mh];exact IL he
 have MB:=Ab NE;have a4:jV (∀u∈Al (Bo e),u.oneCell'=T6):=by
  intro u hu;unfold Al at hu;obtain⟨y,_,rfl⟩:=me.1 hu;rfl
 have HX:jV (Aw (Jr A s) A s (v::FO) e=if ED A s e then[] else(Jr A s v e).flatMap λt=>Aw (Jr A s) A s FO (e.set (v.toNat-65) t)):=by show _=_;rw[Aw]
 have af:jV (∀t∈Jr A s v e,A7 t):=dv hS v e;have T0:jV (Z (Jr A s v e)<=10000):=jD hS v e;have NS:jV (∀t,A7 t->DA (e.set (v.toNat-65) t)/\Al (Bo (e.set (v.toNat-65) t))=(Al (Bo e)).set (v.toNat-65) (O (AE t))):=λt ht=>⟨he.set _ ht,by rw[iU e _ ht];unfold Al;rw[qq]⟩
 obtain⟨kb,ko,bv,og,IS,X2,QR⟩:=dA hS m lc
 rw[hv]at QR;have Df:jV (∀f,Ac [] W f->jY f ⟨G,2,Y⟩=V (U (V ⟨og,0,Y⟩) (Z vs) IS)/\jY f ⟨og,m,Y⟩=V (X .i32 (v.toNat:Int))):=λf p=>by
  have h1:=(X2.C (H9.H p)).D 2;simp at h1;exact⟨h1,(H9.H p).cellAt QR⟩
 have g8:=Ab ih;have TL:=Ab hR;have HJ:=Ab hJ;have g7:=Ab RT;have e1:=Ab dT;have HB:=Ab FB;have fl:jV (w.heap.size<=l/\l<W.heap.size/\Ac [] w W/\VC w0 M1 G b1 b2 b3 b4 m A2 e M0 w):=⟨cf,ek,H9,hB⟩
 have hC:=Ab KB;obtain⟨j,hj⟩:∃j:Nat,v.toNat-65=j:=⟨_,rfl⟩;have cr:jV ((v.toNat:Int)=(j:Int)+65/\j<26):=by
  obtain⟨h1,h2⟩:=KB;exact⟨lc,lc⟩
 rw[hj]at HX NS;obtain⟨B,bl⟩:=kQ (Jr A s v e);rw[bl]at HX af HV T0;obtain⟨H,K8⟩:∃H:bN->kN (kN bN),(λt=>Aw (Jr A s) A s FO (e.set j t))=H:=⟨_,rfl⟩;have e4:jV (∀t,Aw (Jr A s) A s FO (e.set j t)=H t):=λt=>by rw[<-K8]
 have WB:jV (∀t,∀x∈H t,Z x=26):=λt x hx=>by
  rw[<-K8]at hx;exact GT FO _ (by rw[nO];exact he.len) x hx
 rw[K8]at HX;obtain⟨XS,eb⟩:=kQ (Aw (Jr A s) A s (v::FO) e);rw[eb]at HX TL|-;obtain⟨F,hF⟩:=kQ (ED A s e);rw[hF]at HX K4;obtain⟨E,hE⟩:=kQ (Al (Bo e));have f0:=Ab hE;have P0:=FB.bound;rw[hE]at hc NE MB a4 K4 HV NS P0;have eT:=Aa cr;rw[eT.1]at HV Df;have c1:=FB.s.D 0;have c3:=FB.fr.D 0;have c4:=FB.yM.D 0;simp at c1 c3 c4;have ST:jV (∀f,Ac [] W f->AF f b2 E 243/\jY f ⟨b1,0,Y⟩=V (jj (V ⟨G,0,Y⟩))/\jY f ⟨b3,0,Y⟩=V (X J m)/\jY f ⟨b4,0,Y⟩=V (X J A2)):=λf p=>⟨P0.C p,p.cellAt c1,p.cellAt c3,p.cellAt c4⟩
 have hP:((m:Int)==(A2:Int))=K:=li
 have hy:=rJ m
 have hh:(m:Int)<(Z vs:Int):=lc
 have e7:=hS.z7;have hQ:IntKind.i64.wrap ((m:Int)+1)=(m:Int)+1:=by rw[oT];omega
 obtain⟨VL,a0⟩:=kQ (Z vs);rw[a0]at hh Df;have NN:jV (∀k∈M0,k<W.heap.size/\k≠b1/\k≠b2/\k≠b3/\k≠b4):=λk p=>by
  obtain⟨_,h2,h3,h4,h5,h6⟩:=FB.apart k p;exact⟨h6,h2,h3,h4,h5⟩
 obtain⟨QQ,Nd⟩:=kQ (KQ (bodyPostM Fence.wide 0 rF Tryz.f176 λe o=>(∃v,e=j1 v)/\((∃I,B9 XS I o)\/(∃B0 I,Jx B0 I o))));have BS:jV (∀c a w,¬QQ (.panic c) a w):=by
  intro c a w h;rw[<-Nd]at h;exact h
 have Nq:jV (∀(K9:Array jR) (R:kN Nat) (f:jH),Dy W.heap.size R f->((∃I,B9 XS I f)\/(∃B0 I,Jx B0 I f))->QQ .ret ⟨K9,R.map EJ⟩ f/\QQ .normal ⟨K9,R.map EJ⟩ f):=by
  intro K9 R f hm hp;rw[<-Nd];have eB:LeavesInM Fence.wide 0 rF Tryz.f176 K9 (λe o=>(∃v,e=j1 v)/\((∃I,B9 XS I o)\/(∃B0 I,Jx B0 I o))) (R.map EJ) .returning f:=by
   refine Dh R f hm (λw' hs=>⟨_,pI rfl _ _ _,⟨_,rfl⟩,?_⟩);rcases hp with⟨I,h⟩|⟨B0,I,h⟩
   .exact j2 ⟨I,hs.own hJ (s:=(XS,I)) hm h⟩
   .exact j3 ⟨B0,I,hs.own RT (s:=(B0,I)) hm h⟩
  exact⟨eB,eB⟩
 have H3:=Ab ((kR [] W).alloc (Y6 #[.func (.yield l) #[] #[]] 279));have LS:=Ab (kS W [.func (.yield l) #[] #[]] 279);show rE rF 176 #[.func (.yield l) #[] #[],jj (V ⟨b1,0,Y⟩),jj (V ⟨b2,0,Y⟩),jj (V ⟨b3,0,Y⟩),jj (V ⟨b4,0,Y⟩)] W _;refine Eb func176 rfl (GD ?_);rw[Nd];clear Nd hB FB P0 hR hJ dT RT eb hE hF c1 c3 c4 H9 cf ek ih hS MY he hv KB X2 QR hj bl K8 a0 eT f6 e7 HM;simp only[ntmps176,nu,mn,mI,Nat.reduceAdd,Nat.reduceSub,oF,oG,oX,oM,nk,nS];refine kI (λK1 P=>?_);go_wp2;refine P _ _ ?_;clear P K1;change Code.wp _ _ _ _ (W.alloc (Y6 #[.func (.yield l) #[] #[]] 279));generalize hw1:W.alloc (Y6 #[.func (.yield l) #[] #[]] 279)=w1 at H3 LS|-;clear hw1;obtain⟨N,hN⟩:=kQ W.heap.size;have HN:=Ab hN;rw[hN]at LS|-;clear hN;obtain⟨q2,q1,q3,q4⟩:=ST w1 H3;have c7:=Ab (K4 w1 H3);have cR:=Ab q2;clear q2;refine kI (λK1 P=>?_);go_wp2_with ((with_reducible refine qY 243 ?_);refine BX lx 243 _ rfl b2 0 lx E _ cR.range underlying243 rfl (by rw[Aa MB];exact Tryz.zC) ?_)
 refine c7.G ?_;rintro _ w2 ⟨rfl,k2⟩;have H7:=Ab (H3.H k2);have bn:=Ab (LS.C k2);have NY:jV (B9 [] M0 w2):=Bz HJ (s:=([],M0)) e1 H7;clear k2 q1 q3 q4 cR c7 K4 H3 LS;cases F with
 |true=>
  have LC:jV (XS=[]):=by show _=_;rw[Aa HX,mo rfl]
  go_wp2;exact(Nq _ [] w2 ⟨oH,λ_ h=>pp,λ_ h=>pp⟩ (j2 ⟨M0,by rw[Aa LC];exact NY⟩)).1
 |false=>
  have LC:jV (XS=qS H B):=by show _=_;rw[Aa HX,mm ln]
  clear HX;go_wp2;refine P _ _ ?_;clear P K1;obtain⟨r2,r1,r3,r4⟩:=ST w2 H7;clear r2;refine kI (λK1 P=>?_);go_wp2;refine P _ _ ?_;clear P K1;obtain⟨o1,o2⟩:=Df w2 H7;refine kI (λK1 P=>?_)
  .refine Cx 7 (λf=>jY f ⟨b1,0,Y⟩=V (jj (V ⟨G,0,Y⟩))/\jY f ⟨b3,0,Y⟩=V (X J m)/\jY f ⟨G,2,Y⟩=V (U (V ⟨og,0,Y⟩) VL IS)/\jY f ⟨og,m,Y⟩=V (X .i32 ((j:Int)+65))) lo ?_
   have Ax:jV (jY w2.drew ⟨b1,0,Y⟩=V (jj (V ⟨G,0,Y⟩))/\jY w2.drew ⟨b3,0,Y⟩=V (X J m)/\jY w2.drew ⟨G,2,Y⟩=V (U (V ⟨og,0,Y⟩) VL IS)/\jY w2.drew ⟨og,m,Y⟩=V (X .i32 ((j:Int)+65))):=⟨r1,r3,o1,o2⟩
   refine Cw.tq (i:=0) (v:=jj (V ⟨G,0,Y⟩)) rfl (BK BS) Ax ?_;simp only[kF,lR,lS,lT];refine Cw.tq (i:=1) (v:=jj (V ⟨G,0,Y⟩)) rfl (BK BS) Ax ?_;simp only[kF,lR,lS,lT];refine Cw.tq (i:=2) (v:=jj (V ⟨G,2,Y⟩)) rfl (BK BS) Ax ?_;simp only[kF,lR,lS,lT];refine Cw.tq (i:=3) (v:=U (V ⟨og,0,Y⟩) VL IS) rfl (BK BS) Ax ?_;simp only[kF,lR,lS,lT];refine Cw.tq (i:=4) (v:=X J m) rfl (BK BS) Ax ?_
   simp only[kF,lR,lS,lT];refine Cw.tq (i:=5) (v:=jj (V ⟨og,m,Y⟩)) rfl (BK BS) Ax ?_;simp only[kF,lR,lS,lT];refine Cw.tq (i:=6) (v:=X .i32 ((j:Int)+65)) rfl (BK BS) Ax ?_;simp only[kF,lR,lS,lT];refine Cw.one (i:=7) lo rfl (λHQ hK=>?_)
   go_simp
   refine hK.o _ _ (λh=>rl rfl h) ?_;clear hK HQ;refine Cw.done lo ?_ _
   try simp only[kF,lR,lS,lT]
   refine P _ _ ?_;clear P K1 Ax r1 r3 r4 o1 o2;have HD:=Ab (H7.drew);have Os:jV (B9 [] M0 w2.drew):=Bz HJ (s:=([],M0)) NY (kR [] w2).drew;have Nj:=Ab (bn.drew);generalize w2.drew=w2d at HD Os Nj|-;clear H7 NY bn;obtain⟨r2,r1,r3,r4⟩:=ST w2d HD;have a2:=Ab r2;have c8:=Ab (HV w2d HD);clear r2 HV;go_wp2_with ((with_reducible refine qY 243 ?_);refine BX lx 243 _ rfl b2 0 lx E _ a2.range underlying243 rfl (by rw[Aa MB];exact Tryz.zC) ?_)
   refine c8.G ?_;rintro _ w3 ⟨ad,cp,rfl,br,k3⟩;have KS:=Ab (HD.H k3);have av:jV (B9 [] M0 w3):=Bz HJ (s:=([],M0)) Os k3;have c6:=Ab (Nj.C k3);have cs:=Ab (Ak br (show W.heap.size<=w2d.heap.size from HD.size))
   obtain⟨L,hL⟩:=kQ (Z (B.map AE));(have HL:jV (Z B=L):=by show _=_;rw[<-hL,mh]);rw[hL]at cs|-;clear br k3 hL c8 HD Os Nj r1 r3 r4 a2;have b7:jV (∀f,Ac M0 w3 f->AF f b2 E 243/\AF f b1 [jj (V ⟨G,0,Y⟩)] 233/\AF f b3 [X J m] 3/\AF f b4 [X J A2] 3/\AF f N [.func (.yield l) #[] #[]] 279/\kt f N 170 1 (U ad L cp) L (qS Ai (B.map AE))):=by
    intro f p;have hb:=HB.grow KS;have cB:=hb.bound;rw[Aa f0]at cB;have HO:=Aa NN;have hn:=Aa HN;refine⟨cB.C p (λh=>(HO _ h).2.2.1 rfl),hb.s.C p (λh=>(HO _ h).2.1 rfl),hb.fr.C p (λh=>(HO _ h).2.2.2.1 rfl),hb.yM.C p (λh=>(HO _ h).2.2.2.2 rfl),c6.C p (λh=>by have:=(HO _ h).1;omega),?_⟩;have hr:=Aa cs;rw[hn]at hr;exact Ag hr p (λi S hm=>by have h1:=(hr.lt i S).1;have h2:=(HO i hm).1;omega)
   (go_wp2_with fail);refine wp_loop_ghost_k (λgk a wr=>∃(k:Nat) (M R:kN Nat) (y7 y8 y9 ca a6 TX an WW X1 b5 c0 cx en eA c9 W1 ar d8 W3 df a5 aT U1 aa W2 a8 ao dc cz a3 cL ce cb ZV VR bx bd ba ag ab:jR),a=⟨#[.func (.yield l) #[] #[],jj (V ⟨b1,0,Y⟩),jj (V ⟨b2,0,Y⟩),jj (V ⟨b3,0,Y⟩),jj (V ⟨b4,0,Y⟩),jj (V ⟨N,0,Y⟩),X .i32 ((j:Int)+65),y7,y8,y9,ca,a6,TX,an,WW,X1,b5,c0,cx,en,eA,c9,W1,ar,d8,W3,df,a5,aT,U ad L cp,X J L,X J k,U1,aa,W2,a8,ao,dc,cz,a3,cL,ce,cb,ZV,VR,bx,bd,ba,ag,ab],R.map EJ⟩/\k<=L/\gk=L-k/\jV (B9 (qS H (qT k B)) M wr)/\jV (ZB M0 w3 M wr)/\jV (Dy N R wr/\∀D∈R,D∉M)) L ?start ?round
   case start=>
    refine⟨0,M0,[],_,_,_,_,_,_,_,_,_,_,_,_,_,_,_,_,_,_,_,_,_,_,_,_,_,_,_,_,_,_,_,_,_,_,_,_,_,_,_,_,rfl,lc,rfl,by rw[pk];exact av,⟨kR _ _,λq z=>⟨j2 z,?_⟩⟩,⟨⟨oH,λ_ h=>pp,λ_ h=>pp⟩,λ_ h=>pp⟩⟩;have h1:=(NN q z).1;have h2:=KS.size;omega
   case round=>
    rintro gk a wr ⟨k,M,R,y7,y8,y9,ca,a6,TX,an,WW,X1,b5,c0,cx,en,eA,c9,W1,ar,d8,W3,df,a5,aT,U1,aa,W2,a8,ao,dc,cz,a3,cL,ce,cb,ZV,VR,bx,bd,ba,ag,ab,rfl,p,b0,VS,Ha,SL⟩ JJ KK b6 db;have HG:=Ab b0;have gw:=Ab b6;have fk:=Ab db;clear b0 b6 db av;by_cases e6:k<L
    .obtain⟨s2,s1,s3,s4,s5,s6⟩:=b7 wr Ha.C;(have M3:k<Z B:=by have:=Aa HL;omega);obtain⟨g,hI,SJ,JA⟩:=Im (l:=B.map AE) (by rw[mh,Aa HL];exact s6) k (by rw[mh];exact M3);rw[mh,Aa HL]at SJ;obtain⟨rfl,-,rfl⟩:=qX SJ;rw[List.getElem_map]at JA;obtain⟨t,ht⟩:=kQ (B[k]);rw[ht]at JA;(have UO:A7 t:=by rw[<-ht];exact af _ (lV M3));obtain⟨Nx,SP⟩:=NS t UO;(have fp:jV (XS=qS H (qT k B)++(H t++qS H (B.drop (k+1)))):=by show _=_;rw[Aa LC,fI H B k M3,ht]);(have fs:jV (qS H (qT (k+1) B)=qS H (qT k B)++H t):=by show _=_;rw[Zs H B k M3,ht]);have al:=Ab SP;have gv:=Ab Nx;have hG:=rJ k;have f8:(k:Int)<(L:Int):=lc;have hZ:=Ab s2;have c1:=s1.D 0;have c3:=s3.D 0;have c4:=s4.D 0;simp at c1 c3 c4;have MN:jV (∀f,Ac [] wr f->f.rangeAt b2 0 E/\Ac [] wr f/\jY f ⟨b1,0,Y⟩=V (jj (V ⟨G,0,Y⟩))/\jY f ⟨b3,0,Y⟩=V (X J m)/\jY f ⟨b4,0,Y⟩=V (X J A2)):=λf p=>⟨(s2.C p).range,p,p.cellAt c1,p.cellAt c3,p.cellAt c4⟩
     (have NM:jV (∀f,rE rF 179 #[ku (Za E),X .i32 ((j:Int)+65),O (AE t)] f λr w'=>r=j1 (ku (Za (E.set j (O (AE t)))))/\Ac [] f w'):=λf=>cC E j (AE t) f NE cr.2 hc a4);have RB:jV (∀f,rE rF 141 #[jj (V ⟨G,0,Y⟩),X J ((m:Int)+1),X J A2,ku (Za (E.set j (O (AE t))))] f λr w'=>∃b1 b2 b3 b4,r=j1 (.func (.func 176) #[] #[jj (V ⟨b1,0,Y⟩),jj (V ⟨b2,0,Y⟩),jj (V ⟨b3,0,Y⟩),jj (V ⟨b4,0,Y⟩)])/\
       AF w' b1 [jj (V ⟨G,0,Y⟩)] 233/\AF w' b2 (E.set j (O (AE t))) 243/\AF w' b3 [X J ((m+1:Nat):Int)] 3/\AF w' b4 [X J A2] 3/\(f.heap.size<=b1/\f.heap.size<=b2/\f.heap.size<=b3/\f.heap.size<=b4)/\Ac [] f w'):=λf=>by
      have h:=I1 G (m+1) A2 (Al (Bo (e.set j t))) f (Bp _) (by unfold Al;rw[mh];exact IL Nx);rw[SP]at h;rw[show((m:Int)+1)=((m+1:Nat):Int) by omega];exact h
     clear ht UO Nx SP s1 s3 s4 s5 s6 s2 c1 c3 c4;generalize AE t=tb at JA NM RB al;refine kI (λK1 P=>?_);go_wp2;refine P _ _ ?_;clear P K1;refine kI (λK1 P=>?_);go_wp2;refine P _ _ ?_;clear P K1;refine kI (λK5 bp=>?_);refine wp_block ?_;refine kI (λK1 P=>?_);go_wp2;refine P _ _ ?_;clear P K1 JA;refine kI (λK6 bz=>?_);refine Cx 9 (λf=>f.rangeAt b2 0 E/\Ac [] wr f/\jY f ⟨b1,0,Y⟩=V (jj (V ⟨G,0,Y⟩))/\jY f ⟨b3,0,Y⟩=V (X J m)/\jY f ⟨b4,0,Y⟩=V (X J A2)) lo ?_
     have Ax:=Ab (MN wr.drew (kR [] wr).drew);refine Cw.tqH (i:=0) (v:=jj (V ⟨G,0,Y⟩)) rfl (BK BS) Ax ?_;simp only[kF,lR,lS,lT];refine Cw.tqH (i:=1) (v:=X J m) rfl (BK BS) Ax ?_
     simp only[kF,lR,lS,lT];refine Cw.tqH (i:=2) (v:=X J ((m:Int)+1)) rfl (BK BS) Ax ?_;simp only[kF,lR,lS,lT];refine Cw.tqH (i:=3) (v:=X J A2) rfl (BK BS) Ax ?_;simp only[kF,lR,lS,lT];refine Cw.yD (i:=4) (v:=ku (Za E)) rfl lo lo lo lu (λ_ _ _ h=>rl h (BS _ _ _)) Ax (yieldsIf_load_mid lx 243 _ rfl b2 0 lx E _ (λf hz=>hz.1) underlying243 rfl (by rw[Aa MB];exact Tryz.zC)) ?_;simp only[kF,lR,lS,lT];refine Cw.tqH (i:=5) (v:=X .i32 ((j:Int)+65)) rfl (BK BS) Ax ?_;simp only[kF,lR,lS,lT];refine Cw.tqH (i:=6) (v:=O tb) rfl (BK BS) Ax ?_;simp only[kF,lR,lS,lT];refine Cw.one (i:=7) lo rfl (λHQ hK=>?_)
     go_simp
     refine(NM _).G ?_;rintro _ w4 ⟨rfl,k4⟩;have RV:Ac [] wr w4:=(kR [] wr).drew.H k4;refine hK.o _ _ (λ_=>MN w4 RV) ?_;clear hK HQ;have X3:=Ab RV;clear k4 RV
     try simp only[kF,lR,lS,lT]
     refine Cw.one (i:=8) lo rfl (λHQ hK=>?_)
     go_simp
     refine(RB _).G ?_;rintro _ w5 ⟨d1,d2,d3,d4,rfl,n1,n2,n3,n4,f9,k5⟩;have H6:Ac [] wr w5:=X3.H k5;refine hK.o _ _ (λ_=>MN w5 H6) ?_;clear hK HQ;refine Cw.done lo ?_ _
     try simp only[kF,lR,lS,lT]
     refine bz _ _ ?_;clear bz K6 Ax NM RB MN;(have LD:∀q∈M,q<wr.heap.size:=λq z=>(Ha.mem q z).2);have g9:=Aa fl;have iv:=k5.size;have hl:=X3.size;have hT:=Ha.C.size;have hM:=KS.size;have fn:VC w0 M1 G d1 d2 d3 d4 (m+1) A2 (e.set j t) (l::M) w5:=by
      refine⟨?_,n1,by rw[Aa al];exact n2,n3,n4,λq z=>?_⟩
      .exact(HB.C.H (KS.G ln)).trans' (Ha.C.H (H6.G ln)) (λi S=>(HB.apart i S).1)
      .have gz:(q∈M1\/w0.heap.size<=q)/\q<wr.heap.size:=by
        have h0:=HB.C.size;rcases l9.1 z with rfl|z
        .have h1:=g9.2.2.2.C.size;exact⟨j3 lc,lc⟩
        .refine⟨?_,LD q z⟩;rcases(Ha.mem q z).1 with h|h
         .exact(HB.apart q h).1
         .exact j3 lc
       obtain⟨g1,g2,g3,g4⟩:=f9;exact⟨gz.1,lc,lc,lc,lc,lc⟩
     have cv:=Aa g8 (e.set j t) d1 d2 d3 d4 w5 (l::M) gv fn;rw[Aa e4 t]at cv;have gj:B9 (qS H (qT k B)) M w5:=Bz HJ (s:=(qS H (qT k B),M)) VS H6;have d6:jV (ZB M0 w3 M w5):=Ha.step (H6.G ln) (λq z=>⟨j2 z,by have:=LD q z;omega⟩);have FC:jV (Dy N R w5/\∀D∈R,D∉M):=⟨Nk SL.1 H6 (λ_ _ h=>pp),SL.2⟩;have ch:W.heap.size<=w5.heap.size:=lc;refine wp_block ?_;refine Ik (T:=243) (q:=9) rfl (enters_of func176 lo rfl) cv (λq z=>by
      rcases l9.1 z with rfl|z
      .omega
      .have:=LD q z;omega) (XN B9 l (qS H (qT k B)) M w5) (λc _ _ o=>XZ Jx l M w5 c o) (XN.own HJ ch) (λc=>XZ.own g7 ch c) ⟨M,rfl,by rw[mQ];exact gj,kR _ _,λq z=>⟨j2 z,by have:=LD q z;omega⟩⟩ ?rassign ?rbody ?rdone ?rstop
     case rassign=>
      intro l' x o HQ hx HK;(have FF:Z (Al (Bo x))=26:=by unfold Al Bo;rw[mh,mh];exact WB t x hx);have YP:jV (∀u∈Al (Bo x),u.oneCell'=T6):=by
       intro u hu;unfold Al at hu;obtain⟨y,_,rfl⟩:=me.1 hu;rfl
      obtain⟨EX,HZ⟩:=kQ (Al (Bo x));rw[HZ]at FF YP HK|-;have RE:=Ab FF;(have em:jV (EX.toArray.size=26):=by show _=_;simp[FF]);clear hx HZ FF;simp only[lR,lS,lT]at HK|-;refine AM lx (G8 FY) ?_;go_wp2_with ((with_reducible refine qZ 243 ?_);refine ow rfl 243 _ _ rfl o.heap.size 0 (Za EX) lx lx ?_ ?_ ?_ ?_)
      .have h:=(kS o (kB 26 (O ⟨#[]⟩)) 243).there;simp only[oo]at h;rw[Aa em];exact h
      .rw[Aa em];exact Tryz.zC
      .exact nH YP
      .refine HK _ (((kR [] o).alloc (Y6 (Za (kB 26 (O ⟨#[]⟩))) 243)).zG (b:=o.heap.size) (j3 (mt _)) EX 0) ?_;exact(kS o (kB 26 (O ⟨#[]⟩)) 243).zM EX (by rw[Aa RE];simp)
     case rbody=>
      intro l' Bx B0 x g5 I o RI S f7 hX N2;obtain⟨Mo,rfl,CW,ES⟩:=S.e;have et:AF o N [.func (.yield l) #[] #[]] 279:=by
       have h5:=(b7 w5 d6.C).2.2.2.2.1;refine h5.C ES.C (λh=>?_);rcases(Ha.mem N h).1 with h|h
       .have:=(NN N h).1;have:=Aa HN;omega
       .have h7:=c6.lt;omega
      have HY:=Ab (TL (qS H (qT k B)++B0) x (g5++qS H (B.drop (k+1))) Mo o (by rw[Aa fp,RI];simp) CW);have cy:=et.D 0;simp at cy;(have FF:Z (Al (Bo x))=26:=by unfold Al Bo;rw[mh,mh];exact WB t x (by rw[RI];simp));obtain⟨EX,HZ⟩:=kQ (Al (Bo x));simp only[HZ]at FF N2 HY|-;have fa:=Ab N2;have RE:=Ab FF;have HS:=Ab ES;clear S N2 FF et CW ES f7 HZ RI;simp only[lR,lS,lT];refine wpIn_block ?_;refine nK (λK3 X0=>?_);have LE:=Ab X0;clear X0;refine Qx (n:=0) 2 lx lB (λK2 ap=>?_);simp only[oL,pk];go_wp2_with ((with_reducible refine qY 243 ?_);refine BX lx 243 _ rfl Bx 0 lx EX _ fa.range underlying243 rfl (by rw[Aa RE];exact Tryz.zC) ?_)
      refine ap _ _ ?_;clear ap K2;simp only[oW,pG];refine Iy (F:=Fence.wide.inRound l') (λ_=>trivial) rfl rfl (l:=l) (args:=#[ku (Za EX)]) lx sG HY ?_;rintro r w6 (⟨rfl,M6,CW,Go,LB⟩|⟨rfl,M6,CW,Go⟩)
      .refine⟨_,rfl,Lm lx lB ?_⟩;simp only[kF,lR,lS,lT];have HP:jV (Mi (XN B9 l (qS H (qT k B)) M w5) (λc _ _ o=>XZ Jx l M w5 c o) (B0++[x]) (l::Mo) o .normal ⟨#[],[]⟩ w6):=by
        (have e5:l<w6.heap.size:=by have:=Go.size;have:=HS.C.size;omega);refine⟨Go.G (λi S=>mP _ S),l::M6,⟨M6,rfl,by rw[<-mY];exact CW,HS.step Go LB⟩,λq z=>?_⟩;rcases l9.1 z with rfl|z
        .exact⟨j2 (m9 ..),e5⟩
        .refine⟨?_,(LB q z).2⟩;rcases(LB q z).1 with h|h
         .exact j2 (mP _ h)
         .exact j3 h
       clear CW Go LB HY;go_wp2;refine LE _ _ ?_;clear LE K3;refine pg rfl (wpIn_skip ?_);exact HP
      .refine⟨_,rfl,Lm lx lB ?_⟩;simp only[kF,lR,lS,lT];have HP:jV (Mi (XN B9 l (qS H (qT k B)) M w5) (λc _ _ o=>XZ Jx l M w5 c o) (B0++[x]) (l::Mo) o .ret ⟨#[],[]⟩ w6):=by
        refine⟨Go,M6,rfl,⟨_,M6,CW⟩,?_⟩;refine(HS.C.G (N:=l::M) (λi S=>mP _ S)).trans' Go (λi S=>?_);rcases l9.1 S with rfl|S
        .exact j2 (m9 ..)
        .exact((HS.mem i S).1).imp (λh=>mP _ h) id
       clear CW Go HY;go_wp2;refine LE _ _ ?_;clear LE K3;refine pm rfl (wpIn_ret ?_);exact HP
     case rdone=>
      intro D I o hD S hd gp;obtain⟨Mo,rfl,CW,ES⟩:=S.e;have HS:jV (ZB M0 w3 Mo o):=d6.step ES.C ES.mem;(have e2:=λq (z:q∈Mo)=>(ES.mem q z).1);have gb:jV (Dy N (D::R) o/\∀d∈D::R,d∉Mo):=by
       have hm:=Nk FC.1 ES.C FC.2;have HM:=Xj FC.1;refine⟨⟨od.2 ⟨λh=>by have:=HM D h;omega,hm.nodup⟩,λd C=>?_,λd C=>?_⟩,λd C U0=>?_⟩
       .rcases l9.1 C with rfl|C
        .have:=Aa HN;omega
        .exact hm.ge d C
       .rcases l9.1 C with rfl|C
        .exact hd
        .exact hm.e d C
       .rcases l9.1 C with rfl|C
        .exact gp _ (mP _ U0) rfl
        .rcases(ES.mem d U0).1 with h|h
         .exact FC.2 d C h
         .have:=HM d C;omega
      (have g0:jV (B9 (qS H (qT (k+1) B)) Mo o):=by rw[Aa fs];exact CW);clear S CW ES e2;refine bp _ _ ?_;clear bp;go_wp2;refine fk _ _ (Handed.intro (L-(k+1)) (by have:=Aa HG;omega) (gw _ _ _ ?_));have gy:wrap64 ((k:Int)+1)=((k+1:Nat):Int):=iH k (by have:=Aa T0;have:=Aa HL;omega);rw[gy];exact⟨k+1,Mo,D::R,_,_,_,_,_,_,_,_,_,_,_,_,_,_,_,_,_,_,_,_,_,_,_,_,_,_,_,_,_,_,_,_,_,_,_,_,_,_,_,_,rfl,e6,rfl,g0,HS,gb⟩
     case rstop=>
      intro D c B0 I o hD hx hd;obtain rfl:=hx.ret;obtain⟨gx,Mo,gf⟩:=hx.e;have HM:=Xj FC.1;have hm:Dy W.heap.size (D::R) o:=by
       have hm:=Nk FC.1 hx.C (λd C h=>by
        rcases l9.1 h with rfl|h
        .have:=FC.1.ge _ C;have:=Aa HN;omega
        .exact FC.2 d C h)
       refine⟨od.2 ⟨λh=>by have:=HM D h;omega,hm.nodup⟩,λd C=>?_,λd C=>?_⟩
       .rcases l9.1 C with rfl|C
        .omega
        .have:=hm.ge d C;have:=Aa HN;omega
       .rcases l9.1 C with rfl|C
        .exact hd
        .exact hm.e d C
      refine wp_ret ?_;exact(Nq _ (D::R) o hm (j3 ⟨gx,Mo,gf⟩)).1
    ·have f8:¬(k:Int)<(L:Int):=lc;have fv:jV (B9 XS M wr):=by
      have h:=Aa VS;rw[lY (by have:=Aa HL;omega),<-Aa LC]at h;exact h
     go_wp2;exact(Nq _ R wr (by rw[Aa HN];exact SL.1) (j2 ⟨M,fv⟩)).2
end
section
variable{P:Program}{w:jH}{b n:Nat}{y:kN jR}{T:TypeId}{z:jR}{B:rD}
def Mz(m k s f o n)(u:∀t,Ac n o t->eV t m k s f)(b)(B:b<=Z f)(j:kN rC):∀a e c g d h w i,DA e->a<=b->(qT b f).drop a=j->VC o n m c g d h a b e i w->
  K0 rF 176 #[jj (V ⟨c,0,Y⟩),jj (V ⟨g,0,Y⟩),jj (V ⟨d,0,Y⟩),jj (V ⟨h,0,Y⟩)] (λx=>#[ku (Za (Al (Bo x)))]) (Aw (Jr k s) k s j e) i w:=by
 induction j with
 |nil=>
  intro a e c g d h w i p N l q
  have H:b-a=0:=qr
  obtain rfl:a=b:=lc
  exact V2 m k s f o n u _ a e c g d h w i p q
 |cons v j ih=>
  intro a e c g d h w i p N l q
  have H:b-a=Z j+1:=by
   have:=rk List.length l;simp at this;omega
  have y:a<b:=lc
  have L:a<Z (qT b f):=li
  rw[mu L]at l;obtain⟨r,A⟩:=List.cons.inj l;rw[po]at r;exact Ve m k s f o n u v j a b e c g d h w i p y B r q (λC E F I P z M D G=>ih (a+1) C E F I P z M D lc A G)
def N3(k d s g l)(r:eV l k d s g)(b)(n:b<=Z g)(m:kN rC):∀a e c h f i w j,DA e->a<=b->(qT b g).drop a=m->dX l k c h f i a b e j w->
  K0 rF 176 #[jj (V ⟨c,0,Y⟩),jj (V ⟨h,0,Y⟩),jj (V ⟨f,0,Y⟩),jj (V ⟨i,0,Y⟩)] (λx=>#[ku (Za (Al (Bo x)))]) (Aw (Jr d s) d s m e) j w:=
 λa e c h f i w j q t p u=>Mz k d s g l [] (λv o=>r.C o) b n m a e c h f i w j q t p u.more
def dl{f}{p q}{c e}(h:f.results=#[.cell p c,.cell q e]){a}{d}(i:a.getD p rH=jj (V ⟨b,0,Y⟩))(r:AF w b y T)(o:P.underlying c=V d)(g:d.isRow=T6)(s:(P.info? c).map (·.size)=V (Z y))(l:a.getD q rH=jj (V ⟨n,0,Y⟩))(j:(loadVar e ⟨n,0,Y⟩).run P w=.ok z w):
  (results f a).run P w=.ok (.tuple #[ku (Za y),z]) w:=by
 have m:=run_loadVar_mid (P:=P) w b 0 c y d r.range o g s;have k:a[p]?.getD rH=jj (V ⟨b,0,Y⟩):=by simpa using i
 have u:a[q]?.getD rH=jj (V ⟨n,0,Y⟩):=by simpa using l
 simp only[results,h];simp[pL,Result.andThen,k,m,asAddr,u,j]
structure Xc(w:jH)(N:Nat)(B:rD)(X:kN jR)(W:jH):Prop where
 C:Ac [] w W
 b1:AF W (N+1) X 243
 b2:AF W (N+2) [kx B] 4
def Xc.own{N c}(h:w.heap.size<=c){β}(A:β->Prop):OwnFrom c (fun(s:β) W=>A s/\Xc w N B y W):=
 BF (λs W d M a k b=>⟨a.1,DK a.2.C k b h,a.2.b1.C k (CZ b a.2.b1),a.2.b2.C k (CZ b a.2.b2)⟩)
def E9(x:kN bN)(h:Z x=26):Z (Al (Bo x))=26/\∀u∈Al (Bo x),u.oneCell'=T6:=by
 refine⟨by unfold Al Bo;exact li,λu a=>?_⟩;obtain⟨y,_,rfl⟩:=me.1 a;rfl
def Lt:Al (Bo Bm)=kB 26 (O ⟨#[]⟩):=by
 unfold Al Bo Bm;rw[List.map_replicate,List.map_replicate,QK];rfl
theorem di(h:AF w b [kx B] 4):(loadVar 4 ⟨b,0,Y⟩).run rF w=.ok (kx B) w:=by
 have c:=h.D 0;simp[go_sem,c,underlying4]
set_option maxRecDepth 100000
theorem cY(sp n s vs Q H)(L:kN rC)(e w)(hS:eV w sp n s vs)(he:DA e)(IA:Q<=H)(HE:H<=Z vs)(hr:(qT H vs).drop Q=L):rE rF 197 #[jj (V ⟨sp,0,Y⟩),X J Q,X J H,ku (Za (Al (Bo e)))] w λr z=>∃(x:kN bN) (B:rD),r=j1 (.tuple #[ku (Za (Al (Bo x))),kx B])/\Z x=26/\B= !(Aw (Jr n s) n s L e).isEmpty/\(B=T6->x∈Aw (Jr n s) n s L e)/\Ac [] w z:=by
 have Go:jV _:=λP v I S f M0 hB=>N3 sp n s vs w hS H HE L Q e P v I S f M0 he IA hr hB
 have G:jV (∀x∈Aw (Jr n s) n s L e,Z x=26):=GT L e he.len;obtain⟨F,HR⟩:=kQ (Aw (Jr n s) n s L e);rw[HR]at Go G|-;have hc:=Bp (Bo e);obtain⟨FW,K9⟩:=E9 e he.len;have Ha:jV _:=λf=>I1 sp Q H _ f hc FW
 have HO:=Ab FW;obtain⟨E,hE⟩:=kQ (Al (Bo e));have K7:=Ab hE;rw[hE]at hc FW HO Ha|-;obtain⟨N,hN⟩:=kQ w.heap.size;have HN:=Ab hN;obtain⟨w1,AH⟩:=kQ (((w.alloc (Y6 (Za E) 243)).alloc (Y6 (Za (kB 26 (O ⟨#[]⟩))) 243)).alloc (Y6 #[kx K] 4));have H3:=Ab AH;have HV:jV (AF w1 N E 243):=by
  have h:=((kS w E 243).alloc (Y6 (Za (kB 26 (O ⟨#[]⟩))) 243)).alloc (Y6 #[kx K] 4);rw[AH,hN]at h;exact h
 have A1:jV (Xc w N K (kB 26 (O ⟨#[]⟩)) w1):=by
  refine⟨?_,?_,?_⟩
  .rw[<-AH];exact(((kR [] w).alloc _).alloc _).alloc _
  .have h:=(kS (w.alloc (Y6 (Za E) 243)) (kB 26 (O ⟨#[]⟩)) 243).alloc (Y6 #[kx K] 4);rw[AH,mJ,hN]at h;exact h
  .have h:=kS ((w.alloc (Y6 (Za E) 243)).alloc (Y6 (Za (kB 26 (O ⟨#[]⟩))) 243)) [kx K] 4;rw[mJ,mJ,hN]at h;rw[<-AH];exact h
 clear HR hE hS he IA HE hr K9 AH hN;obtain⟨QQ,HB⟩:=kQ (KQ (bodyPostM Fence.wide 0 rF Tryz.f197 λr z=>∃(x:kN bN) (B:rD),r=j1 (.tuple #[ku (Za (Al (Bo x))),kx B])/\Z x=26/\B= !F.isEmpty/\(B=T6->x∈F)/\Ac [] w z));have HQ:jV (∀(CW:Array jR) (D:Nat) (f:jH) (x:kN bN) (B:rD),CW.getD 8 rH=jj (V ⟨N+1,0,Y⟩)->CW.getD 9 rH=jj (V ⟨N+2,0,Y⟩)->w.heap.size<=D->f.heap[D]?=V (.deferred (V []))->Xc w N B (Al (Bo x)) f->Z x=26->B= !F.isEmpty->(B=T6->x∈F)->QQ .ret ⟨CW,[EJ D]⟩ f):=by
  intro CW D f x B h8 h9 hD hd i o hB hm;rw[<-HB];have HS:Dy w.heap.size [D] f:=⟨ln,λd CC=>by simp at CC;omega,λd CC=>by simp at CC;rw[CC];exact hd⟩;refine Dh [D] f HS (λz hs=>?_);have FL:=(hs.own (Xc.own (mt _) (λ_:Unit=>True)) (s:=()) HS ⟨trivial,i⟩).2;exact⟨_,dl rfl h8 FL.b1 underlying243 rfl (by rw[(E9 x o).1];exact Tryz.zC) h9 (di FL.b2),x,B,rfl,o,hB,hm,FL.C⟩
 refine Eb func197 rfl (GD ?_);rw[HB];clear HB;simp only[ntmps197,nu,mn,mI,Nat.reduceAdd,Nat.reduceSub,oF,oG,oX,oM,nk,nS];refine kI (λK1 BA=>?_);go_wp2;refine BA _ _ ?_;clear BA K1;change Code.wp _ _ _ _ (((w.alloc (Y6 (Za E) 243)).alloc (Y6 (Za (kB 26 (O ⟨#[]⟩))) 243)).alloc (Y6 #[kx K] 4));rw[Aa H3,Aa HN];clear H3;refine kI (λK1 BA=>?_);refine kI (λK2 H1=>?_);go_wp2_with ((with_reducible refine qY 243 ?_);refine BX lx 243 _ rfl N 0 lx E _ HV.range underlying243 rfl (by rw[Aa HO];exact Tryz.zC) ?_)
 refine(Ha _).G ?_;rintro _ w3 ⟨d1,d2,d3,d4,rfl,n1,n2,n3,n4,HX,k3⟩;have EM:jV (Xc w N K _ w3):=⟨A1.C.H k3,A1.b1.C k3,A1.b2.C k3⟩;have MB:=A1.b2.lt;have HP:=Aa Go d1 d2 d3 d4 w3 [N+1,N+2] ⟨EM.C,n1,by rw[Aa K7];exact n2,n3,n4,λq t=>by
  have hn:=Aa HN
  have h3:=k3.size
  simp at t
  rcases t with rfl|rfl<;>omega⟩
 have L0:=k3.size;have HF:=EM.C.size;clear n1 n2 n3 n4 HX k3 Go Ha HV A1;go_wp2;refine H1 _ _ ?_;clear H1 K2;refine wp_block ?_;refine Ik (T:=243) (q:=10) rfl (enters_of func176 lo rfl) HP (λq t=>by
  simp at t
  exact lc)
  (λE0 M W=>(E0=[]/\M=[N+1,N+2])/\Xc w N K _ W) (λc _ _ W=>c=.ret/\∃x,x∈F/\Xc w N T6 (Al (Bo x)) W)
  (Xc.own HF _) (λc=>BF (λs W a M hs k hM=>by
   obtain⟨h1,x,o,i⟩:=hs
   exact⟨h1,x,o,DK i.C k hM HF,i.b1.C k (CZ hM i.b1),i.b2.C k (CZ hM i.b2)⟩)) ⟨⟨rfl,rfl⟩,EM⟩ ?rassign ?rbody ?rdone ?rstop
 case rassign=>
  intro l' x a M1 o HK;obtain⟨C,AB⟩:=E9 x (G x o);obtain⟨g,AR⟩:=kQ (Al (Bo x));rw[AR]at C AB HK|-;have BS:=Ab AB;have G:=Ab C;have R:jV (g.toArray.size=26):=lc
  clear o AR C AB;simp at HK|-;refine AM lx (G8 FY) ?_;go_wp2_with ((with_reducible refine qZ 243 ?_);refine ow rfl 243 _ _ rfl a.heap.size 0 (Za g) lx lx ?_ ?_ ?_ ?_)
  .have h:=(kS a (kB 26 (O ⟨#[]⟩)) 243).there;rw[Aa R];exact h
  .rw[Aa R];exact lx
  .exact nH BS
  .refine HK _ (((kR [] a).alloc _).zG (b:=a.heap.size) (j3 (mt _)) g 0) ?_;exact(kS a _ 243).zM g oa
 case rbody=>
  rintro l' Bx E0 x MN M a H5 ⟨⟨rfl,rfl⟩,i⟩ hM M2 FO;have FF:x∈F:=by rw[H5];simp
  obtain⟨C,AB⟩:=E9 x (G x FF);obtain⟨g,AR⟩:=kQ (Al (Bo x));have LC:=Ab AR;simp only[AR]at C AB FO|-;have BS:=Ab AB;have G:=Ab C;have R:jV (g.toArray.size=26):=lc
  have LL:=Ab FO;have A:=Ab i;have JJ:=Ab FF;clear i FO C AB AR H5 FF;simp only[lR,lS,lT];have m:jV (AF (a.setCells (N+1) 0 g) (N+1) g 243/\AF (a.setCells (N+1) 0 g) (N+2) [kx K] 4/\Ac [N+1,N+2] a (a.setCells (N+1) 0 g)):=by
   refine⟨A.b1.zM g oa,?_,(kR _ a).zG (b:=N+1) (j2 ln) g 0⟩;exact A.b2.C ((kR [N+1] a).zG (b:=N+1) (j2 ln) g 0)
  refine wpIn_block ?_;refine nK (λK3 HW=>?_);have HM:=Ab HW;clear HW;refine AM lx lB ?_;go_wp2_with (first
   |((with_reducible refine qY 243 ?_);refine BX lx 243 _ rfl Bx 0 lx g _ LL.range underlying243 rfl (by rw[Aa G];exact Tryz.zC) ?_)
   |((with_reducible refine qZ 243 ?_);refine ow rfl 243 _ _ rfl (N+1) 0 (Za g) lx lx (by rw[Aa R];have h:=A.b1.there;simp only[oo]at h;exact h) (by rw[Aa R];exact Tryz.zC) (nH BS) ?_;simp only[pr];generalize a.setCells (N+1) 0 g=W2 at m;have c9:=m.2.1.D 0;simp at c9;have f9:=m.2.1.qI 0))
  refine HM _ _ ?_;clear HM K3;refine wpIn_ret ?_;have KK:=m.2.1.set 0 (kx T6);have HL:Ac _ a (W2.setCell _ (kx T6)):=m.2.2.setCell (p:=⟨N+2,0,Y⟩) (j2 ln) _;refine⟨HL,[],rfl,x,JJ,A.C.trans' HL (λq t=>j3 ?_),?_,KK⟩
  .have hn:=Aa HN;simp at t;exact lc
  .rw[Aa LC];exact m.1.bW _ ln _
 case rdone=>
  rintro D M' a hD ⟨⟨HH,-⟩,i⟩ hd _;refine BA _ _ ?_;clear BA;have A:=Ab i;have HD:jV (w.heap.size<=D/\a.heap[D]?=V _):=⟨lc,hd⟩;have LB:=Ab HH;clear i hd HH HP EM;obtain⟨j,hZ⟩:=kQ (kB 26 (O ⟨#[]⟩));have HZ:=Ab hZ;have R:jV (j.toArray.size=26):=by show _=_;rw[<-hZ];simp
  have BS:jV (∀u∈j,u.oneCell'=T6):=λu hu=>by rw[<-hZ]at hu;rw[(List.mem_replicate.1 hu).2];rfl
  have KS:jV (Z j=26):=lc
  rw[hZ]at A;clear hZ;have m:jV (Xc w N K j ((a.setCells (N+1) 0 j).setCell ⟨N+2,0,Y⟩ (kx K))/\((a.setCells (N+1) 0 j).setCell ⟨N+2,0,Y⟩ (kx K)).heap[D]?=V (.deferred (V []))/\AF (a.setCells (N+1) 0 j) (N+2) [kx K] 4):=by
   have k1:Ac [N+1] a (a.setCells (N+1) 0 j):=(kR [N+1] a).zG (b:=N+1) (j2 ln) _ 0;have v:=A.b2.C k1;have k2:Ac [N+1,N+2] a ((a.setCells (N+1) 0 j).setCell _ (kx K)):=(k1.G ln).setCell (p:=⟨N+2,0,Y⟩) (j2 ln) _;have Jx:D∉[N+1,N+2]:=li
   refine⟨⟨A.C.trans' k2 (λq t=>j3 ?_),(A.b1.zM _ ln).bW _ ln _,v.set 0 _⟩,(k2.block D (mV.1 HD.2).1 Jx).H HD.2,v⟩;have hn:=Aa HN;simp at t;exact lc
  go_wp2_with ((with_reducible refine qZ 243 ?_);refine ow rfl 243 _ _ rfl (N+1) 0 (Za j) lx (by rw[<-Aa HZ];rfl) (by rw[Aa R];have h:=A.b1.there;rw[Aa KS]at h;exact h) (by rw[Aa R];exact Tryz.zC) (nH BS) ?_;simp only[pr];generalize a.setCells (N+1) 0 j=W2 at m;have c9:=m.2.2.D 0;simp at c9;have f9:=m.2.2.qI 0)
  refine HQ _ D _ Bm K rfl rfl HD.1 m.2.1 ?_ rfl (by rw[Aa LB];rfl) (λh=>oj);rw[Lt,Aa HZ];exact m.1
 case rstop=>
  rintro D c E0 M' a hD ⟨rfl,x,o,i⟩ hd;refine wp_ret ?_;refine HQ _ D _ x T6 rfl rfl lc hd i (G x o) ?_ (λ_=>o);cases F with
  |nil=>simp at o
  |cons y l=>rfl
end
variable{f:kN Ae}{e:kN bN}{w v:jH}{n m k i j b:Nat}{o:rB}
def fw(b t):Te (De b) (ct t)=De (DI b t):=by
 have g:(ct t).v=t.v.toNat:=rfl;have d:(ct t).v≠0↔(t.v !=0)=T6:=by
  have:=ZT t;rw[nz,n5,n5]at this;simp[this]
 have c:(ct t).v∈De b↔b.contains t.v=T6:=by
  rw[pO,g];constructor
  .intro h;obtain⟨u,f,e⟩:=me.1 h;have:u=t.v:=nW.1 lc;rw[<-this];exact f
  .intro h;exact me.2 ⟨t.v,h,rfl⟩
 unfold Te DI;by_cases a:(t.v !=0&& !b.contains t.v)=T6
 .rw[mo a];rw[mC]at a;rw[mo ⟨d.2 a.1,λh=>by rw[c.1 h]at a;simp at a⟩];unfold De;rw[mO];rfl
 .rw[mm a,mm (λh=>a qr)]
def Rr:∀a b,qU Te (De b) (a.map ct)=De (DJ b a)
 |[],b=>rfl
 |t::a,b=>by
  rw[mA,mK,fw,Rr a];rfl
def So(a):D6 (a.map ct)=De (DJ [] a):=Rr a []
def cN(r):ER r=r.E.qH++qS Bw (Am r):=by
 unfold ER Am;rw[List.flatMap_map]
 congr 1
def FN{d}{g}{s}(f:∀v e,∀t∈d v e,A7 t):∀c e,DA e->∀b∈Aw d g s c e,DA b
 |[],e,he,b,a=>by
  rw[Aw]at a;exact qr
 |v::c,e,he,b,a=>by
  rw[Aw]at a;split at a
  .simp at a
  .obtain⟨t,h,a⟩:=mH.1 a;exact FN f c _ (he.set _ (f v e t h)) b a
def MZ{j}{r}{p}(k:∀v e,∀t∈j v e,A7 t)(g:Td r (CK r) p)(i:MU r.E){b}(l:b∈Aw j (Am r) f (CK r) Bm):∀t∈r.E.qH,A7 (AI b t):=by
 intro t c;have o:=BV (λv e t c=>(k v e t c).size) _ Bm b rfl (λv m=>(g.ok v (j2 m)).1) l;have n:=FN k _ Bm DA.start b l;rcases n.val (i.qH t c)with h|h
 .exfalso
  by_cases d:t.v=0
  .unfold AI at h;rw[mo d]at h;rcases i.qH t c with⟨_,a⟩|⟨a,_⟩
   .exact a.size h
   .rw[d]at a;exact rl a lu
  .rw[EP d]at h;rcases g.E t c with a|a
   .exact d a
   .exact o.2.2.2 _ a h
 .exact h
def cS{r}{c}(b:Qi c r)(d:MU r.E)(f:∀t∈r.E.qH,A7 (AI e t)):(⟨c.hn,c.zA.map (BP (Bo e))⟩:CE)=Bn (Av e r.E):=by
 unfold Bn Av;rw[b.hn,b.zA,nh,nh]
 congr 1
 refine nj (λt a=>?_);simp;rw[IM (d.qH t a),CU (f t a)]
def Np(al:rC->kN bN->kN bN)(r:AW)(s:kN Ae)(bs:kN (kN bN)):kN Ae:=
 (bs.filter λb=> !C7 s (Av b r.E)&& !(Aw al (Am r) s (DE r) b).isEmpty).map λb=>Av b r.E
def TU(a r s):Np a r s (Aw a (Am r) s (CK r) Bm)=SN a r (CK r) (DE r) s:=rfl
def Zo(a r s c b):Np a r s (c++[b])=Np a r s c++if(!C7 s (Av b r.E)&& !(Aw a (Am r) s (DE r) b).isEmpty)=T6 then[Av b r.E] else[]:=by
 unfold Np;rw[oA,mO]
 simp only[nJ,List.filter_nil];split<;>rfl
structure Ra(c:CQ)(r:AW)(s:kN Ae):Prop where
 zg:Qi c r
 fit:KY c
 zN:Z (Bl c)<=90000
 g:∀x∈Am r,Di x/\Qt (Mn x)
 parts:Td r (CK r) (DE r)
 E:MU r.E
 fitA:ai s (Am r)
 qK:∀f∈s,AG f
 len:Z s<=10000
def Ra.al{c}{r}(h:Ra c r f):∀v e,∀t∈Jr (Am r) f v e,A7 t:=λv e t a=>JC h.qK h.fitA v e t ((Gj (Am r) f v e t).1 a)
def Ra.order{c}{r}(h:Ra c r f):D6 (Bl c)=De (CK r++DE r):=by
 rw[h.zg.zN,So,cN,Pm]
def Ra.ofHead{c}{r}(h:Ra c r f):D6 c.zA=De (CK r):=by
 rw[h.zg.zA,So];rfl
def GM(a):Z (De a)=Z a:=by unfold De;simp
def F2.fst{a}{b}(h:F2 Uk a b):a.map Prod.fst=(b.map Prod.fst).map Mn:=by
 induction h using F2.ind with
 |nil=>rfl
 |cons h1 _ ih=>simp only[mA,ih,h1.eq]
def XI:∀b a,Z (DJ a b)<=Z a+Z b
 |[],a=>by simp[DJ]
 |t::b,a=>by
  have c:=XI b (DI a t);have d:Z (DI a t)<=Z a+1:=by unfold DI;split<;>simp
  have e:DJ a (t::b)=DJ _ b:=rfl;rw[e,mn];omega
def Ra.z7{c}{r}(h:Ra c r f):Z (CK r++DE r)<=26:=by
 have b:=(Ex (r.E.qH++qS Bw (Am r)) [] oH).2.1;rw[Pm]at b;have d:=G0 (CK r++DE r) ((List.range 26).map λi=>UInt8.ofNat (i+65)) b (λv e=>by
  have a:=(h.parts.ok v (mi.1 e)).1
  refine me.2 ⟨v.toNat-65,qi.2 (by have:=a.2;omega),?_⟩
  apply nW.1
  rw[UInt8.toNat_ofNat']
  have:=a.1
  have:=a.2
  omega)
 exact oa
def Ra.sea{c}{r}(h:Ra c r f){d}{g}{a}(e:Qa w n m k (U o (Z c.ea) i) (U d (Z (D6 (Bl c))) j) g b a)(x:Cg w 0 (U o (Z c.ea) i) c.ea)(l:kt w 0 21 1 (U d (Z (D6 (Bl c))) j) (Z (D6 (Bl c))) (qS AX (D6 (Bl c))))(p:CJ a f):eV w n (Am r) f (CK r++DE r):=by
 have t:Z (Am r)<=1000:=by
  have u:=rk List.length (F2.fst h.zg.g);have y:=h.fit.g;unfold Am;simp at u|-;omega
 rw[h.order]at e l;exact⟨⟨m,k,o,i,c.ea,d,j,g,b,a,e,x,F2.fst h.zg.g,l,p⟩,h.len,h.g,t,by have:=h.z7;omega,h.fitA,λv q=>(h.parts.ok v (mi.1 q)).1⟩
structure Vn where
 f:D5
 n:jR
 ns:kN D5
structure LK(w:jH)(st:Vn):Prop where
 pf:C6 w st.f
 len:Z st.f.f.dN<=1000
 nds:Ic w st.n st.ns
 sl:∃a c,st.n=U a (Z st.ns) c
def LK.map{a}(h:LK w a)(f:∀p,C6 w p->C6 v p)(g:kt w 0 104 2 a.n (Z a.ns) (qS AJ a.ns)->kt v 0 104 2 a.n (Z a.ns) (qS AJ a.ns)):LK v a:=
 ⟨f _ h.pf,h.len,⟨g h.nds.row,λp b=>⟨f p (h.nds.j p b).1,(h.nds.j p b).2⟩⟩,h.sl⟩
def LK.C{w w'}{a}(h:LK w a)(k:Ac [] w w'):LK w' a:=h.map (λp b=>b.C k) (λc=>Ad c k)
def lG(r:AW)(s:kN Ae)(f:CE)(ns:kN CE):Prop:=∃σ,(∀x∈Am r,Cm (Bq σ) (Eo σ) s x=T6)/\AG (Bq σ r.E)/\f=Bn (Bq σ r.E)/\ns=(Dr r σ).pos.map Bn
def gQ(B:Nat)(r:AW)(s:kN Ae)(st:Vn):Prop:=(∀q,st.n.ownBlock=V q->B<=q)/\lG r s st.f.f (st.ns.map D5.f)
def jl{c}{r}(h:Ra c r f){b a}(m:b∈Aw (Jr (Am r) f) (Am r) f (CK r) Bm)(w:a∈Aw (Jr (Am r) f) (Am r) f (DE r) b):
  lG r f (Bn (Av b r.E)) (JX (Bo a) ((Am r).map Mn)):=by
 have j:=h.parts;have y:=λv e t d=>(h.al v e t d).size
 obtain⟨F,_,_,G⟩:=BV y _ Bm b rfl (λv k=>(j.ok v (j2 k)).1) m;obtain⟨I,q,E,H⟩:=BV y _ b a F (λv k=>(j.ok v (j3 k)).1) w;have u:=λv k=>E v (j.ok v (j2 k)).1 (j.apart v k)
 have D:=FN h.al _ _ (FN h.al _ _ DA.start b m) a w;have p:∀x∈Am r,∀t∈Bw x,(AI a t).size≠0:=by
  intro x i t d;by_cases g:t.v=0
  .rcases j.g x i t d with h|h
   .unfold AI;rw[mo g];exact h.2
   .exact qr
  .rw[EP g];rcases j.body x i t d with h|h|h
   .exact rl h g
   .rw[u _ h];exact G _ h
   .exact H _ h
 have n:Av b r.E=Bq (Lq a) r.E:=by
  unfold Av Bq
  congr 1
  refine nj (λt d=>?_);rw[G2];by_cases g:t.v=0
  .unfold AI;rw[mo g,mo g]
  .rw[EP g,EP g];rcases j.E t d with h|h
   .exact rl h g
   .exact(u _ h).symm
 refine⟨Lq a,λx i=>?_,by rw[<-n];exact GP (MZ h.al h.parts h.E m),by rw[n],?_⟩
 .have C:DV a (Bw x)=T6:=by
   unfold DV;rw[nI];intro t d;cases hE:Vo (AI a t)with
   |false=>rfl
   |true=>exact rl ((Ed _).1 hE) (p x i t d)
  have z:Cm (Av a) (AI a) f x=T6:=by
   have:=(nU.1 q) x i;exact qr
  exact z
 .unfold JX Dr;rw[List.filter_map,nh,nh];have B:(Am r).filter ((λx:PL=>x.sort==0)∘Mn)=(Am r).filter λx=>x.b==97:=by
   refine List.filter_congr (λx _=>?_);exact Th x.b
  rw[B];refine nj (λx i=>?_);obtain⟨i,o⟩:=my.1 i;have l:=(h.g x i).1;unfold Di at l;rw[mo (by rw[o];rfl)]at l;show(⟨x.A.a,(x.A.qH.map ct).map (BP (Bo a))⟩:CE)=Bn (Bq (Lq a) x.A);unfold Bn Bq;rw[nh,nh]
  congr 1
  refine nj (λt d=>?_);simp;rw[IM (l.qH t d),G2];refine CU ?_;rcases D.val (l.qH t d)with h|h
  .exact rl h (p x i t (by unfold Bw;rw[mo (by rw[o];rfl)];exact d))
  .exact h
def UD{B}{r}{s}:∀(b:kN Vn) (L:kN Ae),b.map (λa=>a.f.f)=L.map Bn->(∀f∈L,AG f)->(∀a∈b,gQ B r s a)->
  ∃c:kN (G9 Ae),c.map G9.E=L/\(∀i∈c,∃σ,(∀x∈Am r,Cm (Bq σ) (Eo σ) s x=T6)/\i=Dr r σ)/\b.map (λa=>(a.f.f,a.ns.map D5.f))=c.map λi=>(Bn i.E,i.pos.map Bn)
 |[],[],_,_,_=>⟨[],rfl,λi d=>by simp at d,rfl⟩
 |[],_::_,h,_,_=>pp
 |_::_,[],h,_,_=>pp
 |a::b,f::L,h,hL,hs=>by
  simp at h;obtain⟨c,o,n,p⟩:=UD b L h.2 (λg q=>hL g (by simp[q])) (λx t=>hs x (by simp[t]));obtain⟨_,σ,l,k,e,j⟩:=hs a ln;have m:=LT k (hL f ln) (by rw[<-e,h.1]);refine⟨Dr r σ::c,?_,?_,?_⟩
  .simp only[mA,o];rw[show(Dr r σ).E=f from m]
  .intro i d;rcases l9.1 d with rfl|d
   .exact⟨σ,l,rfl⟩
   .exact n i d
  .simp only[mA,p];rw[j,e];rfl
def Lh(k:Nat)(st:Vn):kN jR:=[O st.f.f.a,st.f.tv,X J k,st.n]
section
variable {P:Program} {ops:Array Oper} {Q:Exit->Act->jH->Prop} {md:Region.Mode} {S:jH->Prop} {k:Nat}
def Cw.two{i j}{l m}{g}{f}{a}{w}(t:Region.ready md ops f=[i,j])(A:ops[i]?=V l)(u:ops[j]?=V m)(y:∀c:Act->jH->Prop,jV (∀d b,(i≠k->S b)->Cw P md ops Q S k g (f.setIfInBounds i T6) d b->c d b)->
   if Region.wanted l (yielded ops a.tmps)=T6 then l.wp P a w c Q else c (a.put l.dst rH) w)(z:∀c:Act->jH->Prop,jV (∀d b,(j≠k->S b)->Cw P md ops Q S k g (f.setIfInBounds j T6) d b->c d b)->
   if Region.wanted m (yielded ops a.tmps)=T6 then m.wp P a w c Q else c (a.put m.dst rH) w):Cw P md ops Q S k (g+1) f a w:=by
 have r:∀(q:Nat) (o:Oper),ops[q]?=V o->(∀c:Act->jH->Prop,jV (∀d b,(q≠k->S b)->Cw P md ops Q S k g (f.setIfInBounds q T6) d b->c d b)->
   if Region.wanted o (yielded ops a.tmps)=T6 then o.wp P a w c Q else c (a.put o.dst rH) w)->wpOp P ops Q q (λd b=>(q≠k->S b)/\Cw P md ops Q S k g (f.setIfInBounds q T6) d b) a w:=by
  intro q o x h;have e:=h _ (λd b v e=>And.intro v e);unfold wpOp;simp only[x];split
  .rename_i p;rw[mo p]at e;exact .inl e
  .rename_i p;rw[mm p]at e;exact e
 refine⟨λs=>(by rw[t]at s;cases s),λq n=>?_⟩;rw[t]at n;simp at n;rcases n with rfl|rfl
 .exact r _ _ A y
 .exact r _ _ u z
end
