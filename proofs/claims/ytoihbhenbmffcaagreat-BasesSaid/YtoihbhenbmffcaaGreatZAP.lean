import Derived.Deep.OwnRows
import Derived.Test.YtoihbhenbmffcaaGreatZAO
set_option linter.all false
set_option maxHeartbeats 0
open List renaming length->Z,toArray->j1,replicate->kD
open Option renaming none->Y,some->V
open Go.Value renaming slice->U,int->X,string->O,pointer->j2,agg->kx,bool->k0,ownBlock->kF
open Bool renaming false->K,true->hG
open Go.IntKind renaming i64->J,i32->ky
open Go.Obj renaming cells->jj
open Go.Ending renaming returned->j3
open Or renaming inl->kn,inr->kp
open Go renaming World->kq,Value->ks
open Go.RowKit renaming Hid->kt
open Go.World renaming cell?->ku,ownsRow->kw
open Prod renaming fst->kE
namespace Go.Proofs.YtoihbhenbmffcaaGreat
open Go.RowKit Go.Proofs.Tryz
variable{P:Program}{n i m k b:Nat}{w u:kq}{y x:kJ ks}{T:TypeId}{z:ks}{a:Act}{Q:Exit->Act->kq->Prop}
theorem Tryz.info56:(Tryz.prog.info? 56).map (λi=>(i.zero,i.size,i.bytes))=V (V (kx #[O ⟨#[]⟩,U Y 0 0]),2,40):=by kernel_rfl
def FH(w:kq)(k p u d:TypeId)(f:Nat)(b o e l:Nat)(a:Addr)(g t:Nat)(c:kJ ks)
  (s:P.underlying k=V (.slice d)) (h:(P.info? d).map (·.size)=V f) (y:Z c=Nat.min g e*f)
  (A:∀j v,c[j]?=V v->ku w (a.add j)=V v) (z:∀j,j<Z c->(ku w ⟨b,o+j,Y⟩).isSome=hG) (q:∀j,j<Z c->w.frozen? ⟨b,o+j,Y⟩=K) (n:∀v∈c,v.oneCell'=hG):
  (Builtin.copy_ #[k,p] u #[U (V ⟨b,o,Y⟩) e l,U (V a) g t]).run P w=.ok (goInt (Nat.min g e)) (w.setCells b o c):=by
 have r:=run_loadCells_list (P:=P) w a c A;have m:=run_storeCells_cells (P:=P) b o c 0 w (by simpa using z) (by simpa using q) n;cases hq:P.info? d with
 |none=>simp[hq]at h
 |some i=>
  have x:i.size=f:=by simpa[hq] using h
  simp[Builtin.copy_,j7 s,Builtin.lenOf,Builtin.firstCells,sizeOf,typeInfo,hq,x,<-y,r,m]
set_option maxRecDepth 100000
theorem WC(g n c i d:Nat)(b r l:kJ ks)(w:kq)(hi:i<n)(BT:n+1<=c)(BA:c<=9223372036854775807)(C:d≠g)
  (P:Z b=n*2) (s:Z l=2) (o:AF w g r 56) (F:Z r=c*2) (B:r.take (n*2)=b) (q:AF w d l 56) (AB:∀v∈b,v.oneCell'=hG) (W:∀v∈l,v.oneCell'=hG):
  Calls prog 43 #[U (V ⟨g,0,Y⟩) n c,X J i,U (V ⟨d,0,Y⟩) 1 1] w λe S=>
   e=j3 (U (V ⟨g,0,Y⟩) (n+1) c)/\S=(w.drew.setCells g ((i+1)*2) (b.drop (i*2))).setCells g (i*2) l:=by
 obtain⟨i0,R,Bx,L,FA⟩:=gH Tryz.info56;have E:(prog.info? 56).map (·.size)=V 2:=by rw[R];simp[L]
 have AT:∀w,(Go.sizeOf 56).run prog w=.ok 2 w:=λw=>by simp[sizeOf,typeInfo,R,L]
 have N:∀j,j<(n+1)*2->(ku w ⟨g,j,Y⟩).isSome=hG:=λj a=>o.some j (by omega)
 have Q:∀j,w.frozen? ⟨g,j,Y⟩=K:=λj=>o.frozen j
 have G:∀j v,b[j]?=V v->ku w ⟨g,j,Y⟩=V v:=λj v a=>by
  rw[o.cell];rw[<-B,iB]at a;split at a
  .exact a
  .cases a
 have Ax:∀x u,(callFunc 83 #[U (V ⟨d,0,Y⟩) 1 1,U (V ⟨g,(i+1)*2,Y⟩) x u]).run prog w=.ok (.value (k0 K)) w:=λx u=>by
  rw[jM func83 (by kernel_rfl) (by kernel_rfl) (by kernel_rfl) (e:=Extern.SlicesOverlaps.overlaps #[43,43] #[4]) (by kernel_rfl),
   Lib.run_overlaps_apart w 43 4 56 underlying43 2 AT ⟨d,0,Y⟩ ⟨g,(i+1)*2,Y⟩ 1 1 x u C 56 56 2 (c*2) (by rw[<-s];exact q.shape) (by rw[<-F];exact o.shape) (by omega) (q.frozen 0) (q.frozen 2)]
  rfl
 have H:Z (b.drop (i*2))=(n-i)*2:=by rw[gD,P];omega
 have I:Nat.min (n+1-i) (n-i)=n-i:=by simp only[jZ];split<;>omega
 have A:∀m f y,(Builtin.copy_ #[43,43] m #[U (V ⟨g,(i+1)*2,Y⟩) (n-i) f,U (V ⟨g,i*2,Y⟩) (n+1-i) y]).run prog w.drew=.ok (goInt ((n-i:Nat):Int)) (w.drew.setCells g ((i+1)*2) (b.drop (i*2))):=λm f y=>by
  have h:=FH w.drew 43 43 m 56 2 g ((i+1)*2) (n-i) f ⟨g,i*2,Y⟩ (n+1-i) y (b.drop (i*2)) underlying43 E (by rw[H,I])
   (λj v a=>by rw[iP];exact G (i*2+j) v (by rwa [jq]at a))
   (λj a=>N _ (by omega)) (λj a=>Q _) (λv hv=>AB v (iT hv))
  rw[I]at h;exact h
 obtain⟨k,p⟩:∃k,k=w.drew.setCells g ((i+1)*2) (b.drop (i*2)):=⟨_,rfl⟩;have t:AF k g (LV r ((i+1)*2) (b.drop (i*2))) 56:=by rw[p];exact o.drew.setCells _ _
 have z:AF k d l 56:=by rw[p];exact q.drew.kept (Ac.setCells (M:=[g]) (by simp) _ _ (kL _ _)) (by simpa using C)
 have D:Nat.min 1 (n+1-i)=1:=by simp only[jZ];split<;>omega
 have T:∀m f,(Builtin.copy_ #[43,43] m #[U (V ⟨g,i*2,Y⟩) (n+1-i) f,U (V ⟨d,0,Y⟩) 1 1]).run prog k=.ok (goInt 1) (k.setCells g (i*2) l):=λm f=>by
  have h:=FH k 43 43 m 56 2 g (i*2) (n+1-i) f ⟨d,0,Y⟩ 1 1 l underlying43 E (by rw[D,s])
   (λj v a=>by rw[iP,gE,z.cell];exact a)
   (λj a=>t.some _ (by rw[Dm];omega)) (λj a=>t.frozen _) W
  rw[D]at h;exact h
 rw[<-p]at A;have EK:IntKind.i64.wrap ((i:Int)+1)=(i:Int)+1:=by rw[jn];omega
 have CC:¬((i:Int)=(n:Int)):=by omega
 have E0:(0:Int)<=(i:Int)+1:=by omega
 have CW:i<=n:=by omega
 have B9:((i:Int)+1).toNat=i+1:=by omega
 have EM:¬(c=i+1):=by omega
 have FB:(i:Int)<=(n:Int)+1:=by omega
 have EY:¬(c=i):=by omega
 have mixed:prog.follows Departure.mixedOrders=hG:=by kernel_rfl
 have AH:=Ab p;clear o q t z G N Q p H P F B s;go_enter func43,ntmps43;go_wp2_with (simp only[Ax])
 go_region_law_o (refine step_copy_runI rfl _ _ 43 43 rfl _ _ (by simp[Act.eval,Act.put]) (by simp[Act.eval,Act.put]) (A _ _ _) ?_)
 go_wp2_with (at_builtin;refine wpList_copy_runI _ rfl _ _ 43 43 rfl _ _ rfl rfl (T _ _) ?_)
 go_ret;exact⟨rfl,by rw[Aa AH]⟩
theorem Yk(g n c i o:Nat)(f t d:kJ ks)(w:kq)(hi:i<n)(HH:n<=c)(FC:c<n+1)(HL:n<=1000000)
  (BT:Z f=n*2) (I:Z d=2) (y:AF w g t 56) (FW:Z t=c*2) (A:t.take (n*2)=f) (H:AF w o d 56) (FT:∀v∈f,v.oneCell'=hG) (FB:∀v∈d,v.oneCell'=hG):
  Calls prog 43 #[U (V ⟨g,0,Y⟩) n c,X J i,U (V ⟨o,0,Y⟩) 1 1] w λe w'=>
   ∃(a:kJ ks) (G:Nat),Z a=G*2/\n+1<=G/\G<=maxLen/\a.take (i*2)=f.take (i*2)/\e=j3 (U (V ⟨w.heap.size,0,Y⟩) (n+1) G)/\
   w'=(((w.alloc (jj (j1 a) 56)).drew.setCells w.heap.size (i*2) d).drew).setCells w.heap.size ((i+1)*2) (f.drop (i*2)):=by
 obtain⟨i0,CW,EY,AT,B9⟩:=gH Tryz.info56;have mixed:prog.follows Departure.mixedOrders=hG:=by kernel_rfl
 have T:(prog.info? 56).map (·.size)=V 2:=by rw[CW];simp[AT]
 have HC:=y.lt;have HB:=H.lt;have P:(n:Int)+1-(i:Int)=((n+1-i:Nat):Int):=by omega
 have D:i+(n+1-i)=n+1:=by omega
 have AH:∀j v,f[j]?=V v->ku w ⟨g,j,Y⟩=V v:=λj v b=>by
  rw[y.cell];rw[<-A,iB]at b;split at b
  .exact b
  .cases b
 have R:(Builtin.firstCells i0.size i (U (V ⟨g,0,Y⟩) i c)).run prog w.drew=.ok (j1 (f.take (i*2))) w.drew:=by
  rw[AT];exact run_firstCells_some w.drew 2 i ⟨g,0,Y⟩ i c (f.take (i*2)) (by rw[gq];omega) (λj v b=>by
   rw[iP,gE]
   rw[iB]at b
   split at b
   .exact AH j v b
   .cases b)
 obtain⟨m,C⟩:∃m:Array ks,(kx #[O ⟨#[]⟩,U Y 0 0]).cells=m:=⟨_,rfl⟩;have Bx:m.size=2:=by rw[<-C];rfl
 have s:∀k,(Builtin.append_ #[43,3] k #[U (V ⟨g,0,Y⟩) i c,X J ((n:Int)+1-(i:Int))]).run prog w=
   .ok (U (V ⟨w.heap.size,0,Y⟩) (n+1) (grownCap w (n+1) c 56)) (w.drew.alloc (jj (j1 (f.take (i*2))++Builtin.zeroCells m (n+1-i)++Builtin.zeroCells m (grownCap w (n+1) c 56-(n+1))) 56)):=λk=>by
  have h:=Lib.run_append_grow_zeros w 43 3 k 56 i0 _ J J underlying43 underlying3 CW EY (V ⟨g,0,Y⟩) i c (f.take (i*2)) R (n+1-i) (by omega) (by omega) (by omega) (by omega) (by rw[B9];omega) (by rw[B9,D];exact growslice_fits FC (by omega));rw[D,C]at h;rw[P];exact h
 obtain⟨G,u⟩:∃G,G=grownCap w (n+1) c 56:=⟨_,rfl⟩;obtain⟨a,r⟩:∃a:kJ ks,j1 a=j1 (f.take (i*2))++Builtin.zeroCells m (n+1-i)++Builtin.zeroCells m (G-(n+1)):=⟨_,Array.toArray_toList⟩;rw[<-u]at s;rw[<-r]at s;have Go:n+1<=G:=by rw[u];exact grownCap_ge w _ _ _
 have B:G<=maxLen:=by rw[u];exact grownCap_le_maxLen w (n+1) c 56 (by unfold maxLen;omega)
 have EK:Z a=G*2:=by
  have:=congrArg Array.size r;simp[Builtin.zeroCells,Bx]at this;omega
 have AB:a.take (i*2)=f.take (i*2):=by
  have h:=congrArg Array.toList r;simp only[Array.toList_append,gF]at h;rw[h,gG (by simp;omega)];simp[je]
 obtain⟨N,hN⟩:=kK w.heap.size;have q:AF (w.drew.alloc (jj (j1 a) 56)) N a 56:=by rw[<-hN];exact kN w.drew a 56
 have Q:AF (w.drew.alloc (jj (j1 a) 56)) o d 56:=H.drew.alloc _;have S:Nat.min 1 (n+1-i)=1:=by simp only[jZ];split<;>omega
 have FL:∀(W:kq),(∀x,ku W x=ku (w.drew.alloc (jj (j1 a) 56)) x)->(∀x,W.frozen? x=(w.drew.alloc (jj (j1 a) 56)).frozen? x)->∀k l,(Builtin.copy_ #[43,43] k #[U (V ⟨N,i*2,Y⟩) (n+1-i) l,U (V ⟨o,0,Y⟩) 1 1]).run prog W=.ok (goInt 1) (W.setCells N (i*2) d):=λW p E k l=>by
  have h:=FH W 43 43 k 56 2 N (i*2) (n+1-i) l ⟨o,0,Y⟩ 1 1 d underlying43 T (by rw[S,I])
   (λj v b=>by rw[iP,gE,p,Q.cell];exact b)
   (λj b=>by rw[p];exact q.some _ (by omega)) (λj b=>by rw[E];exact q.frozen _) FB
  rw[S]at h;exact h
 have z:AF ((w.drew.alloc (jj (j1 a) 56)).setCells N (i*2) d) N (LV a (i*2) d) 56:=q.setCells _ _;have L:AF ((w.drew.alloc (jj (j1 a) 56)).setCells N (i*2) d) g t 56:=(y.drew.alloc _).kept (Ac.setCells (M:=[N]) (by simp) _ _ (kL _ _)) (by simp;omega);have AR:Z (f.drop (i*2))=(n-i)*2:=by rw[gD,BT];omega
 have BA:Nat.min (n-i) (n-i)=n-i:=Nat.min_self _;have CC:∀(W:kq),(∀x,ku W x=ku ((w.drew.alloc (jj (j1 a) 56)).setCells N (i*2) d) x)->(∀x,W.frozen? x=((w.drew.alloc (jj (j1 a) 56)).setCells N (i*2) d).frozen? x)->∀k l F,(Builtin.copy_ #[43,43] k #[U (V ⟨N,(i+1)*2,Y⟩) (n-i) l,U (V ⟨g,i*2,Y⟩) (n-i) F]).run prog W=.ok (goInt ((n-i:Nat):Int)) (W.setCells N ((i+1)*2) (f.drop (i*2))):=λW p E k l F=>by
  have h:=FH W 43 43 k 56 2 N ((i+1)*2) (n-i) l ⟨g,i*2,Y⟩ (n-i) F (f.drop (i*2)) underlying43 T (by rw[AR,BA])
   (λj v b=>by
    rw[iP,p,L.cell]
    rw[jq,<-A,iB]at b
    split at b
    .exact b
    .cases b)
   (λj b=>by rw[p];exact z.some _ (by rw[Dm];omega))
   (λj b=>by rw[E];exact z.frozen _) (λv hv=>FT v (iT hv))
  rw[BA]at h;exact h
 have FA:∀x,ku ((w.alloc (jj (j1 a) 56)).drew) x=ku (w.drew.alloc (jj (j1 a) 56)) x:=λx=>rfl
 have Ha:∀x,((w.alloc (jj (j1 a) 56)).drew).frozen? x=(w.drew.alloc (jj (j1 a) 56)).frozen? x:=λx=>rfl
 have FP:∀x,ku (((w.alloc (jj (j1 a) 56)).drew.setCells N (i*2) d).drew) x=ku ((w.drew.alloc (jj (j1 a) 56)).setCells N (i*2) d) x:=λx=>rfl
 have FF:∀x,(((w.alloc (jj (j1 a) 56)).drew.setCells N (i*2) d).drew).frozen? x=((w.drew.alloc (jj (j1 a) 56)).setCells N (i*2) d).frozen? x:=λx=>rfl
 have HJ:IntKind.i64.wrap ((i:Int)+1)=(i:Int)+1:=by rw[jn];omega
 have HF:¬((i:Int)=(n:Int)):=by omega
 have HN:(c:Int)<(n:Int)+1:=by omega
 have HP:(0:Int)<=(i:Int)+1:=by omega
 have HG:i<=n:=by omega
 have HD:((i:Int)+1).toNat=i+1:=by omega
 have HQ:(i:Int)<=(n:Int):=by omega
 have HO:¬(G=i):=by omega
 have HE:¬(G=i+1):=by omega
 have HK:¬(c=i):=by omega
 have HI:G<=9223372036854775807:=by unfold maxLen at B;omega
 have EM:=Ab EK;have E0:=Ab AB;have FO:=Ab B;rw[hN]at s⊢;clear P D R r u EK AB B y H q Q z L AH AR BT FW A I Bx C;go_enter func43,ntmps43;go_wp2_with (first
  |(at_builtin;refine Lib.wpList_append_run _ rfl _ _ _ _ rfl _ _ rfl rfl _ _ (s _) ?_)
  |(at_builtin;refine wpList_copy_runI _ rfl _ _ 43 43 rfl _ _ rfl rfl (FL _ FA Ha _ _) ?_)
  |(at_builtin;refine wpList_copy_runI _ rfl _ _ 43 43 rfl _ _ rfl rfl (CC _ (λ_=>rfl) (λ_=>rfl) _ _ _) ?_))
 go_region_law_o (refine step_copy_runI rfl _ _ 43 43 rfl (U (V ⟨N,(i+1)*2,Y⟩) (n-i) (G-(i+1))) (U (V ⟨g,i*2,Y⟩) (n-i) (c-i)) (by simp[Act.eval,Act.put]) (by simp[Act.eval,Act.put]) (CC _ FP FF 3 (G-(i+1)) (c-i)) ?_)
 go_wp2;go_ret;exact⟨a,G,EM,Go,FO,E0,rfl,rfl⟩
def Il{α:Type}(f:α->kJ ks)(a:Nat):∀(l:kJ α) (i:Nat),(∀x∈l,Z (f x)=a)->i<=Z l->(l.take i).flatMap f=(l.flatMap f).take (i*a)/\(l.drop i).flatMap f=(l.flatMap f).drop (i*a)
 |l,0,_,_=>by simp
 |[],i+1,_,h=>by simp at h
 |x::l,i+1,hl,h=>by
  have ih:=Il f a l i (λy b=>hl y (gu _ b)) (by simpa using h);have c:=hl x (gJ ..);simp only[iX,ji,fN,ih.1,ih.2];have e:(i+1)*a=Z (f x)+i*a:=by rw[c,iz];omega
  rw[e];exact⟨by rw[List.take_length_add_append],by rw[List.drop_length_add_append]⟩
def ZK{b a c:kJ ks}(q:b.take (n*m)=a)(k:Z a=n*m)(e:Z c=m)(p:i<=n)(o:(n+1)*m<=Z b):
  (LV (LV b ((i+1)*m) (a.drop (i*m))) (i*m) c).take ((n+1)*m)=a.take (i*m)++c++a.drop (i*m):=by
 have g:(i+1)*m=i*m+m:=by rw[iz];omega
 have f:(n+1)*m=n*m+m:=by rw[iz];omega
 have l:i*m<=n*m:=gK _ p;rw[f]at o;rw[g,f];generalize i*m=I at*;generalize n*m=M at*;have d:Z (a.drop I)=M-I:=by rw[gD,k]
 rw[Gu c _ I (by rw[Dm];omega),Gu (a.drop I) b (I+m) (by rw[d];omega)];have h:(b.take (I+m)++a.drop I++b.drop (I+m+Z (a.drop I))).take I=a.take I:=by
  rw[gF,gG (by simp;omega),je,iS (by omega),<-q,je,iS l]
 have j:(b.take (I+m)++a.drop I++b.drop (I+m+Z (a.drop I))).drop (I+Z c)=a.drop I++b.drop (I+m+Z (a.drop I)):=by
  rw[e,gF,List.drop_append_of_le_length (by simp;omega),List.drop_of_length_le (by simp;omega),ia]
 rw[h,j,<-gF,gG (by simp[d,e];omega),fo (by simp[d,e];omega)]
def WR(p:DF):Z (AI p)=2:=rfl
def YF(a:kJ DF)(i:Nat)(x:DF)(b:i<=Z a):(a.take i++x::a.drop i).flatMap AI=(a.flatMap AI).take (i*2)++AI x++(a.flatMap AI).drop (i*2):=by
 have h:=Il AI 2 a i (λp _=>WR p) b;rw[fR,fN,h.1,h.2,gF]
def YH(a:kJ DF):Z (a.flatMap AI)=Z a*2:=by
 induction a with
 |nil=>rfl
 |cons p a ih=>simp only[fN,fE,ih,WR,fD];omega
theorem Tv(q:Option Addr)(f:Nat)(b:kJ DF)(i:Nat)(x:DF)(t n:Nat)(w:kq)(p:kw w t 56 2 (U q (Z b) f) (Z b) (b.flatMap AI))(FT:Z b<=1000000)(hi:i<=Z b)(C:AF w n (AI x) 56)(EK:(U q (Z b) f).ownBlock≠V n)(H:t<=w.heap.size)
  (v:∀u∈b.flatMap AI,u.oneCell'=hG) (N:∀u∈AI x,u.oneCell'=hG):
  Calls prog 43 #[U q (Z b) f,X J i,U (V ⟨n,0,Y⟩) 1 1] w λe y=>∃g cp,e=j3 (U (V ⟨g,0,Y⟩) (Z b+1) cp)/\kw y t 56 2 (U (V ⟨g,0,Y⟩) (Z b+1) cp) (Z b+1) ((b.take i++x::b.drop i).flatMap AI)/\Ac (U q (Z b) f).ownBlock.toList w y/\((U q (Z b) f).ownBlock=V g\/w.heap.size<=g):=by
 have m:=YH b;have l:=WR x;rw[YF b i x hi];by_cases FW:i=Z b
 .subst FW;obtain⟨i0,CC,T,Ax,AH⟩:=gH Tryz.info56;have r:kt ((b.flatMap AI).take (Z b*2)++AI x++(b.flatMap AI).drop (Z b*2)=b.flatMap AI++AI x):=by
   show _=_;rw[fo (by omega),gr (by omega),gd]
  have B:kt (∀j u,(AI x)[j]?=V u->ku w ((⟨n,0,Y⟩:Addr).add j)=V u):=λj u hu=>by rw[iP,gE,C.cell];exact hu
  have Q:=Ab p;have D:=Ab N;clear C v;cases q with
  |none=>
   have BT:Z b=0:=by
    rcases p.2 with⟨d,s⟩|⟨g,c,o,d,_⟩
    .exact s
    .simp at d
   have EX:f=0:=by
    rcases p.2 with⟨d,s⟩|⟨g,c,o,d,_⟩
    .simp only[fg]at d;exact d.2.2
    .simp at d
   subst EX;have EY:b=[]:=jz.1 BT;subst EY;clear p BT;simp only[gh,gI]at Q r⊢;generalize AI x=xs at B D r l⊢;go_enter func43,ntmps43;go_wp2_with (at_builtin;refine fO _ rfl _ _ _ rfl t 56 i0 _ 2 40 underlying43 CC T Ax AH rfl (by omega) (U Y 0 0) 0 [] rfl Q ⟨n,0,Y⟩ 1 1 xs rfl (by omega) B D (by omega) (by unfold maxLen;omega) (by omega) H _ rfl ?_;intro M I w9 z L E HE)
   go_ret;rw[Aa r];refine⟨M,I,rfl,z,(kL _ w).grown L (λk F=>kn (by rw[jx];exact F)),?_⟩;rcases E with h|h
   .exact kn h
   .exact kp (by omega)
  |some a=>
   obtain⟨ab,ao,HA⟩:=a;have FL:ao=0/\HA=Y:=by
    rcases p.2 with⟨d,s⟩|⟨g,c,o,d,_⟩
    .simp at d
    .simp only[fg,fu,gi]at d;exact d.1.2
   obtain⟨rfl,rfl⟩:=FL;have FO:Z b<=f/\f<=maxLen:=by
    rcases p.2 with⟨d,s⟩|⟨g,c,o,d,_,_,v,h2,_⟩
    .simp at d
    .simp only[fg]at d;rw[d.2.2];exact⟨v,h2⟩
   obtain⟨CL,A⟩:=FO;unfold maxLen at A;clear p;generalize AI x=xs at B D r l⊢;go_enter func43,ntmps43;go_wp2_with (at_builtin;refine fO _ rfl _ _ _ rfl t 56 i0 _ 2 40 underlying43 CC T Ax AH rfl (by omega) (U (V ⟨ab,0,Y⟩) (Z b) f) (Z b) (b.flatMap AI) rfl Q ⟨n,0,Y⟩ 1 1 xs rfl (by omega) B D (by omega) (by unfold maxLen;omega) (by omega) H _ rfl ?_;intro M I w9 z L E HE)
   all_goals
    go_ret;refine⟨M,I,rfl,(by first|(rw[Aa r];exact z)|(rw[<-gF,Aa r];exact z)),(kL _ w).grown L (λk F=>kn (by rw[jx];exact F)),?_⟩;rcases E with h|h
    .exact kn h
    .exact kp (by omega)
 .have AT:i<Z b:=by omega
  rcases p.2 with⟨d,s⟩|⟨g,c,o,d,hb,HG,CL,A,HB,FA⟩
  .omega
  .simp only[fg]at d;obtain⟨rfl,_,rfl⟩:=d;(have FB:n≠g:=λe=>EK (by simp[kF,e]));(have S:AF w g o.toList 56:=by unfold AF;simpa using HG);(have AR:Z o.toList=f*2:=by simpa using HB);have R:o.toList.take (Z b*2)=b.flatMap AI:=FA;by_cases W:Z b+1<=f
   .refine(WC g (Z b) f i n (b.flatMap AI) o.toList (AI x) w AT W (by unfold maxLen at A;omega) FB m l S AR R C v N).mono ?_;rintro e y ⟨rfl,rfl⟩;have P:=(S.drew.setCells ((b.flatMap AI).drop (i*2)) ((i+1)*2)).setCells (AI x) (i*2);refine⟨g,f,rfl,⟨?_,kp ⟨g,f,_,rfl,hb,P,W,A,?_,?_⟩⟩,?_,kn rfl⟩
    .simp only[fE,gq,gD,m,l];omega
    .simp only[gS,Dm];omega
    .exact ZK R m l hi (by omega)
    .exact Ac.setCells (by simp[kF]) _ _ (Ac.setCells (by simp[kF]) _ _ (kL _ w).drew)
   .refine(Yk g (Z b) f i n (b.flatMap AI) o.toList (AI x) w AT CL (by omega) FT m l S AR R C v N).mono ?_;rintro e y ⟨BA,G,HH,HC,EM,Go,rfl,rfl⟩;have P:=((kN w BA 56).drew.setCells (AI x) (i*2)).drew.setCells ((b.flatMap AI).drop (i*2)) ((i+1)*2);(have hd:Z ((b.flatMap AI).drop (i*2))=(Z b-i)*2:=by rw[gD,m];omega);refine⟨w.heap.size,G,rfl,⟨?_,kp ⟨w.heap.size,G,_,rfl,H,P,HC,EM,?_,?_⟩⟩,?_,kp (fJ _)⟩
    .simp only[fE,gq,gD,m,l];omega
    .simp only[gS,Dm];omega
    .rw[Gu _ _ _ (by rw[Dm,hd];omega),Gu _ _ _ (by rw[l];omega),Go];have e1:(List.take (i*2) (b.flatMap AI)++AI x++List.drop (i*2+Z (AI x)) BA).take ((i+1)*2)=List.take (i*2) (b.flatMap AI)++AI x:=by
      rw[gG (by simp only[fE,gq,m,l];omega),fo (by simp only[fE,gq,m,l];omega)]
     rw[e1,gG (by simp only[fE,gq,gD,m,l];omega),fo (by simp only[fE,gq,gD,m,l];omega)]
    .exact Ac.setCells (kp (fJ _)) _ _ (Ac.setCells (kp (fJ _)) _ _ ((kL _ w).alloc _).drew).drew
def Bg{i o h e p m r s:Nat}{v1 f:ks}(n:kw w i h p v1 r y)(k:kw w o e m f s x)(j:h≠e)(q:Nat)(a:v1.ownBlock=V q):f.ownBlock≠V q:=λd=>by
 rcases n.2 with⟨rfl,_⟩|⟨g,c,u,rfl,_,l,_⟩
 .simp[kF]at a
 .rcases k.2 with⟨rfl,_⟩|⟨t,v,z,rfl,_,b,_⟩
  .simp[kF]at d
  .simp only[kF,fu]at a d;subst a;subst d;rw[l]at b;simp only[fu,Obj.cells.injEq]at b;exact j b.2.1
def As{v1:ks}(f:kw w n m k v1 i y)(a:AF w b x T)(e:m≠T):v1.ownBlock≠V b:=λd=>by
 rcases f.2 with⟨rfl,_⟩|⟨g,c,j,rfl,_,h,_⟩
 .simp[kF]at d
 .simp only[kF,fu]at d;subst d;unfold AF at a;rw[h]at a;simp only[fu,Obj.cells.injEq]at a;exact e a.2.1
def WH{p:DF}(h:Dc w p):∀u∈AI p,u.oneCell'=hG:=by
 obtain⟨c,b,e⟩:=Aj h;intro u a;simp only[AI,fx,gP,or_false]at a;rcases a with rfl|rfl
 .rfl
 .rw[e];rfl
def Iw.one{a:kJ DF}(h:Iw w z a):∀u∈a.flatMap AI,u.oneCell'=hG:=λu c=>by
 obtain⟨p,b,d⟩:=gc.1 c;exact WH (h.each p b).1 u d
def MG(fs:kJ DF)(x:DF)(p:Nat):kJ DF:=if CY fs x.f p then fs else fs.take p++x::fs.drop p
structure W6(sb so:Nat)(cells:kJ ks)(ty:TypeId)(sv:ks)(fs:kJ DF)(x:DF)(w w':kq):Prop where
 out:∃(p:Nat) (ad:Option Addr) (cp:Nat),Eu fs x.f p/\AF w' sb (cells.set so (U ad (Z (MG fs x p)) cp)) ty/\Iw w' (U ad (Z (MG fs x p)) cp) (MG fs x p)/\∀q,(U ad (Z (MG fs x p)) cp).ownBlock=V q->sv.ownBlock=V q\/w.heap.size<=q
 kept:Ac (sb::sv.ownBlock.toList) w w'
theorem UU(k b:Nat)(E:kJ ks)(H:TypeId)(d:Option Addr)(c:Nat)(a:kJ DF)(x:DF)(w:kq)(T:AF w k E H)(AB:E[b]?=V (U d (Z a) c))(EY:56≠H)(HY:98≠H)(h:Iw w (U d (Z a) c) a)(P:Dc w x)(AT:Z x.f.zC<=1000)(H3:Z a<=900000)(HE:∀i j (hi:i<Z a) (hj:j<Z a),i<=j->Cq a[j].f x.f<0->Cq a[i].f x.f<0):
  Calls prog 19 #[j2 (V ⟨k,b,Y⟩),kx (j1 (AI x))] w λe r=>e=j3 (.tuple #[])/\W6 k b E H (U d (Z a) c) a x w r:=by
 have Jx:=T.lt;have AH:kt (∀wr,Ac [] w wr->Calls prog 41 #[U d (Z a) c,kx (j1 (AI x)),.func (.func 42) #[] #[]] wr λe r=>∃p:Nat,e=j3 (.tuple #[X J p,k0 (CY a x.f p)])/\Eu a x.f p/\Ac [] wr r):=λwr hk=>Hl d c a x wr (h.kept hk) (P.kept hk) AT (by omega) HE
 have HB:=Ab T;have HP:=Ab h;have HX:=Ab P;have H0:=Ab AT;obtain⟨m,o,FW⟩:=Aj P;obtain⟨t,KK,Q⟩:∃n v,AI x=[O n,v]/\v=U m (Z x.f.zC) o:=⟨_,_,rfl,FW⟩;obtain⟨Q,rfl⟩:=Q;have EM:=Ab Q;generalize Z x.f.zC=xl at EM;rw[Aa EM]at AH⊢;clear Q FW;have hK:=(kL [] w).alloc (jj [O t,U m xl o].toArray 56);have c0:=(T.alloc (jj [O t,U m xl o].toArray 56)).cell b;rw[AB]at c0;have HA:=Ab AB;have HO:kt (E.set b (U d (Z a) c)=E):=by
  show _=_;obtain⟨H5,e⟩:=jt.1 AB;rw[<-e,List.set_getElem_self]
 clear AB;have F:=kN w [O t,U m xl o] 56;have S:=Ab hK;clear h P AT HE hK T;go_enter func19,ntmps19;go_wp2_with fail
 change Code.wp _ _ _ _ (w.alloc (jj [O t,U m xl o].toArray 56));generalize w.alloc (jj [O t,U m xl o].toArray 56)=w1 at S c0 F⊢;obtain⟨N,CW⟩:=kK w.heap.size;rw[CW]at F⊢;have JJ:=Ab CW;clear CW;have x0:=F.cell 0;have x1:=F.cell 1;simp at x0 x1;have HN:=Ab F;have FC:=Ab (AH w1.drew S.drew);clear AH F
 go_region_law (go_simp;go_at_call 41;refine FC.mono ?_;rintro e l ⟨p,rfl,hcut,k3⟩;have D:=Ab hcut;have B:=Ab (S.drew.trans k3);have R:=Ab (HN.drew.kept k3);clear hcut k3)
 all_goals
  clear FC c0 x0 x1;have u:=Ab (HP.kept B);have I:=Ab (HB.kept B);have FT:=Ab (HX.kept B);obtain⟨HT,BT⟩:=kK (CY a x.f p);have BA:=Ab BT;rw[BT];clear BT;have IS:=B.size;cases HT with
  |true=>
   (have y:kt (MG a x p=a):=by show _=_;unfold MG;rw[Aa BA,fF rfl]);go_wp2;go_end0;refine⟨rfl,⟨p,d,c,D,?_,?_,?_⟩,B.mono (by simp)⟩
   .rw[Aa y,Aa HO];exact I
   .rw[Aa y];exact u
   .rw[Aa y];exact λq C=>kn C
  |false=>
   (have y:kt (MG a x p=a.take p++x::a.drop p):=by show _=_;unfold MG;rw[Aa BA,fB (by simp)]);have G:kt (Z (a.take p++x::a.drop p)=Z a+1):=by
    show _=_;have:=D.le;simp only[fE,gq,fD,gD];omega
   have HH:kt (∀A,(A=(l.drew).alloc (jj #[O t,U m xl o] 56)\/A=(l.alloc (jj #[O t,U m xl o] 56)).drew)->Calls prog 43 #[U d (Z a) c,X J p,U (V ⟨l.heap.size,0,Y⟩) 1 1] A λe r=>∃g z,e=j3 (U (V ⟨g,0,Y⟩) (Z a+1) z)/\ku r ⟨k,b,Y⟩=V (U d (Z a) c)/\r.frozen? ⟨k,b,Y⟩=K/\W6 k b E H (U d (Z a) c) a x w (r.setCell ⟨k,b,Y⟩ (U (V ⟨g,0,Y⟩) (Z a+1) z))):=by
    intro A FL;have L:Ac [] l A:=by
     rcases FL with rfl|rfl
     .exact(kL [] l).drew.alloc _
     .exact((kL [] l).alloc _).drew
    have H2:AF A l.heap.size (AI x) 56:=by
     rw[Aa EM];rcases FL with rfl|rfl
     .exact kN l.drew [O t,U m xl o] 56
     .exact(kN l [O t,U m xl o] 56).drew
    have W:=u.kept L;(have HJ:(U d (Z a) c).ownBlock≠V l.heap.size:=λe=>by have:=(u.row.lt _ e).2;omega);refine(Tv d c a p x 0 l.heap.size A W.row (by omega) D.le H2 HJ (fP _) W.one (WH HX)).mono ?_;rintro e r ⟨g,z,rfl,HC,AR,hg⟩;have FB:=I.kept L;(have H1:k∉(U d (Z a) c).ownBlock.toList:=λhm=>As W.row FB EY (by simpa using hm));have M:=FB.kept AR H1;have FP:=M.cell b;rw[Aa HA]at FP;have HQ:Ac (k::(U d (Z a) c).ownBlock.toList) w r:=((B.trans L).mono (by simp)).trans (AR.mono (λi hi=>gu _ hi));have HU:(U (V ⟨g,0,Y⟩) (Z a+1) z).ownBlock≠V k:=As HC M EY;have HV:=Af HC (p:=⟨k,b,Y⟩) HU (U (V ⟨g,0,Y⟩) (Z a+1) z);refine⟨g,z,rfl,FP,M.frozen b,⟨p,V ⟨g,0,Y⟩,z,D,?_,?_,?_⟩,HQ.setCell (p:=⟨k,b,Y⟩) (kn (gJ ..)) _⟩
    .rw[Aa y,Aa G];exact M.set b _
    .rw[Aa y,Aa G];refine⟨by rw[Aa G];exact HV,λq C=>?_⟩;have FO:Dc l q/\Z q.f.zC<=1000:=by
      rcases fA.1 C with s|s
      .exact⟨(u.each q (iy s)).1,(u.each q (iy s)).2⟩
      .rcases fx.1 s with rfl|s
       .exact⟨FT,H0⟩
       .exact⟨(u.each q (iT s)).1,(u.each q (iT s)).2⟩
     have EX:=FO.1.kept L;have Ha:kw r 0 98 1 q.tv (Z q.f.zC) (q.f.zC.flatMap Ah):=Am EX AR (λi hi hm=>Bg EX W.row (by decide) i hi (by simpa using hm));exact⟨Af Ha (p:=⟨k,b,Y⟩) (As Ha M HY) _,FO.2⟩
    .rw[Aa y,Aa G];intro q C;simp only[kF,fu]at C;rcases hg with s|s
     .exact kn (by rw[<-C];exact s)
     .exact kp (by have:=L.size;omega)
   have y0:=I.cell b;rw[Aa HA]at y0;have z0:=R.cell 0;have z1:=R.cell 1;simp at z0 z1;have IJ:=D.le;have H7:=R.lt;have H8:k<l.heap.size:=I.lt;clear HP HB HX S HN u I FT D y G BA R;go_wp2_with fail
   go_region_law (go_simp;go_at_call 43;refine(HH _ (by first|exact kn rfl|exact kp rfl)).mono ?_;rintro e w4 ⟨g,z,rfl,Ix,H6,E0⟩;have HS:=Ab E0;clear E0)
   all_goals
    clear HH;go_wp2;go_end0;exact⟨rfl,HS⟩
def Sg(z:ks)(n:Nat):(madeCells #[z] n).toList=kD n z:=by
 apply List.ext_getElem
 .simp[madeCells]
 .intro i a b;simp[madeCells];rw[Nat.mod_one];rfl
def E6(b:kJ zA)(ts:kJ AO)(k:Nat):kJ ks:=((ts.take k).map λt=>O (Bq b t))++kD (Z ts-k) (O ⟨#[]⟩)
def TR(b:kJ zA)(a:kJ AO):E6 b a 0=kD (Z a) (O ⟨#[]⟩):=by simp[E6]
def Vv(b:kJ zA)(a:kJ AO)(k:Nat)(h:k<=Z a):Z (E6 b a k)=Z a:=by simp[E6];omega
def Wm(b:kJ zA)(a:kJ AO)(k:Nat)(h:k<Z a):(E6 b a k).set k (O (Bq b a[k]))=E6 b a (k+1):=by
 unfold E6;rw[fm h,gn,show Z a-k=(Z a-(k+1))+1 by omega,List.replicate_succ];rw[kc _ _ (by simp;omega)];simp;rw[iS (by omega),Nat.sub_self];rfl
def Wo(b:kJ zA)(a:kJ AO):E6 b a (Z a)=(a.map (Bq b)).flatMap Ah:=by
 unfold E6;rw[gT,Nat.sub_self];simp only[List.replicate_zero,gd]
 induction a with
 |nil=>rfl
 |cons t a ih=>simp[Ah,ih]
theorem Na(D ty:Nat)(b:kJ zA)(l:Int)(c:zA)(d:Option Addr)(j:Nat)(a:kJ AO)(base:Nat)(w:kq)(E:Z b=26)(hB:AF w D (Ai b) ty)(hr:kw w base 164 2 (.slice d (Z a) j) (Z a) (a.flatMap Ap))(HV:Z a<=100000)(hv:∀t∈a,OM t):
  Calls prog 147 #[j2 (V ⟨D,0,Y⟩),kx #[X J l,O c,.slice d (Z a) j]] w λr C=>∃g,r=j3 (kx #[O c,.slice (V ⟨g,0,Y⟩) (Z a) (Z a)])/\kw C w.heap.size 98 1 (.slice (V ⟨g,0,Y⟩) (Z a) (Z a)) (Z a) ((a.map (Bq b)).flatMap Ah)/\Ac [] w C:=by
 obtain⟨i0,HO,FC,Go,HD⟩:=gH Tryz.info98;have HT:kt (∀t∈a,∀x,Ac [] w x->Calls prog 164 #[j2 (V ⟨D,0,Y⟩),kx #[X ky t.v,O t.s]] x λr C=>r=j3 (O (Bq b t))/\Ac [] x C):=λt ht x L=>Kl D ty b t x E (hB.kept L) (hv t ht)
 have HM:=Ab hr;obtain⟨N,A⟩:=kK w.heap.size;have m:kt (AF ((w.alloc (jj #[X J l,O c,.slice d (Z a) j] 116)).alloc (jj #[O ⟨#[]⟩,.slice Y 0 0] 56)) N [X J l,O c,.slice d (Z a) j] 116):=by rw[<-A];exact(kN w [X J l,O c,.slice d (Z a) j] 116).alloc _
 have f:kt (AF ((w.alloc (jj #[X J l,O c,.slice d (Z a) j] 116)).alloc (jj #[O ⟨#[]⟩,.slice Y 0 0] 56)) (N+1) [O ⟨#[]⟩,.slice Y 0 0] 56):=by
  have h:=kN (w.alloc (jj #[X J l,O c,.slice d (Z a) j] 116)) [O ⟨#[]⟩,.slice Y 0 0] 56;simp only[fY,A]at h;exact h
 have S:=Ab (((kL [] w).alloc (jj #[X J l,O c,.slice d (Z a) j] 116)).alloc (jj #[O ⟨#[]⟩,.slice Y 0 0] 56));have y:=Ab A;clear hr hv hB;go_enter func147,ntmps147;apply wp_seq_k;intro KK Bx;have Ax:=Ab Bx;clear Bx;go_wp2;refine Ax _ _ ?_;clear Ax KK;rw[A];clear A;have Q:((w.alloc (jj #[X J l,O c,.slice d (Z a) j] 116)).alloc (jj #[O ⟨#[]⟩,.slice Y 0 0] 56)).heap.size=N+1+1:=by simp;exact y
 generalize(w.alloc (jj #[X J l,O c,.slice d (Z a) j] 116)).alloc (jj #[O ⟨#[]⟩,.slice Y 0 0] 56)=w1 at m f S Q⊢;have c2:=m.cell 2;simp at c2;go_wp2_with ((with_reducible show wpList _ _ _ ({dst:=_,op:=Op.makeSlice 54 _ _,type:=_,pos:=_,after:=_,guard:=_}::_) _ _);refine wpList_make_row _ rfl _ _ 54 rfl 98 i0 _ underlying54 HO FC Go rfl J J (Z a) (by rfl) (by rfl) (by rw[HD];omega) (by omega) ?_)
 have n:kt (kw (w1.alloc (jj (madeCells #[O ⟨#[]⟩] (Z a)) 98)) (N+1+1) 98 1 (.slice (V ⟨N+1+1,0,Y⟩) (Z a) (Z a)) (Z a) (E6 b a 0)):=by
  have h:=j4 (e:=98) (size:=1) (base:=N+1+1) w1 (madeCells #[O ⟨#[]⟩] (Z a)) (Z a) (by omega) (by unfold maxLen;omega) (by rw[size_madeCells];omega);rw[Sg,Q]at h;rw[TR];exact h
 have W:=Ab (m.alloc (jj (madeCells #[O ⟨#[]⟩] (Z a)) 98));have I:=Ab (f.alloc (jj (madeCells #[O ⟨#[]⟩] (Z a)) 98));have o:=Ab (S.alloc (jj (madeCells #[O ⟨#[]⟩] (Z a)) 98));clear m f S c2 Q;generalize w1.alloc (jj (madeCells #[O ⟨#[]⟩] (Z a)) 98)=w2 at n W I o⊢
 go_loopg [15] (Z a) (λgk i wr=>∃(k:Nat),i=X J k/\k<=Z a/\gk=Z a-k/\kt (kw wr (N+1+1) 98 1 (.slice (V ⟨N+1+1,0,Y⟩) (Z a) (Z a)) (Z a) (E6 b a k))/\kt (AF wr N [X J l,O c,.slice d (Z a) j] 116)/\kt (AF wr (N+1) [O ⟨#[]⟩,.slice Y 0 0] 56)/\kt (Ac [] w wr))
 case atStart=>exact⟨0,rfl,by omega,rfl,n,W,I,o⟩
 case round=>
  clear n W I o;obtain⟨k,rfl,L,AT,n,m,f,z⟩:=hrel;have HG:=Ab AT;clear AT;by_cases B:k<Z a
  .obtain⟨g,HU,he,d0,d1⟩:=EU (Ad HM z) k B;simp only[fg]at he;obtain⟨rfl,_,rfl⟩:=he;obtain⟨T,H⟩:=kK (a[k]);have o:=Ab (z.alloc (jj #[X ky T.v,O T.s] 164));have P:=Ab (HT T (by rw[<-H];exact fj B) _ o);(have R:kt ((E6 b a k).set k (O (Bq b T))=E6 b a (k+1)):=by rw[<-H];exact Wm b a k B);rw[H]at d0 d1;obtain⟨u,hV⟩:=kK (Bq b T);rw[hV]at P R;clear H hV;(have HW:(0:Int)<=(k:Int):=by omega);(have HX:(k:Int)<(Z a:Int):=by omega);(go_wp2_with fail);refine P.mono ?_;rintro _ w3 ⟨rfl,M⟩;have F:Ac [] wr w3:=((kL [] wr).alloc _).trans M;have G:=Ad n F;have FA:=Ab (m.kept F);have AB:=Ab (f.kept F);have EX:=Ab (o.trans M);have y0:=G.cellAt k (by omega);have yf:=G.frozenAt k;(have EY:k<Z (E6 b a k):=by rw[Vv b a k L];exact B);rw[fI EY]at y0;generalize(E6 b a k)[k]=U at y0;have HH:kt (kw (w3.setCell ⟨N+1+1,k,Y⟩ (O u)) (N+1+1) 98 1 (.slice (V ⟨N+1+1,0,Y⟩) (Z a) (Z a)) (Z a) (E6 b a (k+1))):=by
    rw[<-Aa R];exact FK G k _
   have HJ:=Ab (FA.zB ⟨N+1+1,k,Y⟩ (show N+1+1≠N by omega) (O u));have HI:=Ab (AB.zB ⟨N+1+1,k,Y⟩ (show N+1+1≠N+1 by omega) (O u));have FP:=Ab (EX.setCell (p:=⟨N+1+1,k,Y⟩) (kp (by have:=Aa y;show _<=N+1+1;omega)) (O u));clear P o z M F G d0 d1 m f n FA AB EX R EY;go_wp2
   go_roundg (Z a-(k+1))
   case measure=>have:=Aa HG;omega
   case rel=>exact⟨k+1,by go_num,by omega,rfl,HH,HJ,HI,FP⟩
  ·(have HA:k=Z a:=by omega);subst HA;have c1:=m.cell 1;have e0:=f.cell 0;have e1:=f.cell 1;have ef:=f.frozen;simp at c1 e0 e1;have HE:kt (AF ((wr.setCell ⟨N+1,0,Y⟩ (O c)).setCell ⟨N+1,1,Y⟩ (.slice (V ⟨N+1+1,0,Y⟩) (Z a) (Z a))) (N+1) [O c,.slice (V ⟨N+1+1,0,Y⟩) (Z a) (Z a)] 56):=(f.set 0 _).set 1 _;have HF:kt (kw ((wr.setCell ⟨N+1,0,Y⟩ (O c)).setCell ⟨N+1,1,Y⟩ (.slice (V ⟨N+1+1,0,Y⟩) (Z a) (Z a))) N 98 1 (.slice (V ⟨N+1+1,0,Y⟩) (Z a) (Z a)) (Z a) ((a.map (Bq b)).flatMap Ah)):=by
    have h:=Aa n;rw[Wo]at h;(have E:∀q,(Value.slice (V ⟨N+1+1,0,Y⟩) (Z a) (Z a)).ownBlock=V q->q≠N+1:=λq hq=>by have:=(h.lt q hq).1;omega);exact Al (Af (Af h (λh=>E _ h rfl) _) (λh=>E _ h rfl) _) (by have:=Aa y;omega)
   have FT:=Ab ((z.setCell (p:=⟨N+1,0,Y⟩) (kp (by have:=Aa y;show _<=N+1;omega)) (O c)).setCell (p:=⟨N+1,1,Y⟩) (kp (by have:=Aa y;show _<=N+1;omega)) (.slice (V ⟨N+1+1,0,Y⟩) (Z a) (Z a)));clear m f n z;go_wp2;exact fL (BK rfl rfl HE underlying56 rfl (by kernel_rfl)) rfl ⟨N+1+1,rfl,HF,FT⟩
def Bv{g:Array Oper}{i:kJ Oper}{c:Oper}(k:Region.wanted c (yielded g a.tmps)=hG)(f:TypeId)(x:Operand)(l:c.op=.load f x)
  (b o:Nat) (r:a.eval x=j2 (V ⟨b,o,Y⟩)) (e:kJ ks) (d:TypeDesc) (p:w.rangeAt b o e)
  (n:P.underlying f=V d) (j:d.isRow=hG) (q:(P.info? f).map (·.size)=V (Z e))
  (h:wpList P g Q i (a.put c.dst (kx (j1 e))) w):wpList P g Q (c::i) a w:=
 wpList_step λs m=>by rw[fF k];exact wp_load_mid f x l b o r e d p n j q (m _ _ h)
def ES(b:kJ zA)(x:PL):Cg:=⟨x.an,x.ts.map (Bq b)⟩
def Jy(fs:kJ DF)(b:kJ zA)(x:PL)(B:Bool):Prop:=
 if x.sort=0 then∃p,Eu fs (ES b x) p/\B=CY fs (ES b x) p
 else if x.sort=1 then∃p,Eu fs (ES b x) p/\B= !CY fs (ES b x) p
 else if x.sort=2 then B=((Bq b x.l).toList==(Bq b x.r).toList)
 else if x.sort=3 then B= !((Bq b x.l).toList==(Bq b x.r).toList)
 else B=Op.bytesLess (Bq b x.l).toList (Bq b x.r).toList
structure Ov(w:kq)(sp kb ko:Nat)(bv ov:ks)(sad:Option Addr)(scp:Nat)(fs:kJ DF):Prop where
 zK:AF w sp [j2 (V ⟨kb,ko,Y⟩),bv,ov] 239
 set:ku w ⟨kb,ko,Y⟩=V (U sad (Z fs) scp)
 facts:Iw w (U sad (Z fs) scp) fs
def Ov.kept{w w':kq}{a e c:Nat}{i f:ks}{g:Option Addr}{b:Nat}{d:kJ DF}(h:Ov w a e c i f g b d)(k:Ac [] w w'):Ov w' a e c i f g b d:=⟨h.zK.kept k,k.cellAt h.set,h.facts.kept k⟩
theorem VM(sp W T:Nat)(bv ov:ks)(H3:Option Addr)(HU:Nat)(k:kJ DF)(x:PL)(m:Option Addr)(n:Nat)(b:kJ zA)(w:kq)(M:Z b=26)(hS:Ov w sp W T bv ov H3 HU k)(hx:JI w 0 (x,U m (Z x.ts) n))(K8:Z k<=900000)(K2:Z x.ts<=1000)(HX:∀t∈x.ts,OM t)(HZ:OM x.l)(HP:OM x.r)
  (HV:∀i j (hi:i<Z k) (hj:j<Z k),i<=j->Cq k[j].f (ES b x)<0->Cq k[i].f (ES b x)<0):
  Calls prog 172 #[j2 (V ⟨sp,0,Y⟩),kx (j1 (Aw (x,U m (Z x.ts) n))),kx (j1 (Ai b))] w λr D=>∃B,r=j3 (k0 B)/\Jy k b x B/\Ac [] w D:=by
 have HM:=Ab hS;have FL:kt (∀d a,Ac [] w a->AF a d (Ai b) 244->Calls prog 147 #[j2 (V ⟨d,0,Y⟩),kx #[X J x.ap,O x.an,U m (Z x.ts) n]] a λr D=>∃g,r=j3 (kx #[O x.an,U (V ⟨g,0,Y⟩) (Z x.ts) (Z x.ts)])/\kw D a.heap.size 98 1 (U (V ⟨g,0,Y⟩) (Z x.ts) (Z x.ts)) (Z x.ts) ((x.ts.map (Bq b)).flatMap Ah)/\Ac [] a D):=λd a H S=>Na d 244 b x.ap x.an m n x.ts 0 a M S (Ad hx H) (by omega) HX
 have HA:kt (∀g a,Ac [] w a->kw a 0 98 1 (U (V ⟨g,0,Y⟩) (Z x.ts) (Z x.ts)) (Z x.ts) ((x.ts.map (Bq b)).flatMap Ah)->Calls prog 18 #[j2 (V ⟨W,T,Y⟩),kx #[O x.an,U (V ⟨g,0,Y⟩) (Z x.ts) (Z x.ts)]] a λe D=>∃p:Nat,e=j3 (k0 (CY k (ES b x) p))/\Eu k (ES b x) p/\Ac [] a D):=by
  intro g a H hr;have HO:=hS.kept H;have H7:Dc a ⟨ES b x,U (V ⟨g,0,Y⟩) (Z x.ts) (Z x.ts)⟩:=by
   show kw a 0 98 1 _ (Z (x.ts.map (Bq b))) _;rw[fH];exact hr
  exact Ki W T H3 HU k ⟨ES b x,U (V ⟨g,0,Y⟩) (Z x.ts) (Z x.ts)⟩ a HO.set HO.facts H7 (by show Z (x.ts.map (Bq b))<=1000;rw[fH];exact K2) (by omega) HV
 have HT:kt (∀d (t:AO) a,OM t->AF a d (Ai b) 244->Calls prog 164 #[j2 (V ⟨d,0,Y⟩),kx #[X ky t.v,O t.s]] a λr D=>r=j3 (O (Bq b t))/\Ac [] a D):=λd t a hv S=>Kl d 244 b t a M S hv
 have H1:=Ab HZ;have HJ:=Ab HP;have L:kt (∀B,Jy k b x B=(if x.sort=0 then∃p,Eu k (ES b x) p/\B=CY k (ES b x) p
 else if x.sort=1 then∃p,Eu k (ES b x) p/\B= !CY k (ES b x) p
 else if x.sort=2 then B=((Bq b x.l).toList==(Bq b x.r).toList)
 else if x.sort=3 then B= !((Bq b x.l).toList==(Bq b x.r).toList)
 else B=Op.bytesLess (Bq b x.l).toList (Bq b x.r).toList)):=λB=>rfl
 generalize ES b x=FC at HA L;generalize Jy k b x=HC at L⊢;have hc:=Bh b;have hl:Z (Ai b)=26:=by unfold Ai;simp[M]
 obtain⟨E,hE⟩:=kK (Ai b);rw[hE]at hc hl FL HT⊢;clear hS hx HX HZ HP HV hE;obtain⟨P,c,G,F,C,⟨y,o⟩,⟨q,u⟩⟩:=x;simp only[Aw]at*;have FO:kt (∀d a,AF a d E 244->Calls prog 164 #[j2 (V ⟨d,0,Y⟩),kx #[X ky y,O o]] a λr D=>r=j3 (O (Bq b ⟨y,o⟩))/\Ac [] a D):=λd a S=>HT d ⟨y,o⟩ a H1 S
 have HB:kt (∀d a,AF a d E 244->Calls prog 164 #[j2 (V ⟨d,0,Y⟩),kx #[X ky q,O u]] a λr D=>r=j3 (O (Bq b ⟨q,u⟩))/\Ac [] a D):=λd a S=>HT d ⟨q,u⟩ a HJ S
 generalize Bq b ⟨y,o⟩=VL at FO L;generalize Bq b ⟨q,u⟩=VR at HB L;clear HT H1 HJ;have AR:kt (AF ((w.alloc (jj [X J P,X J c,X J G,O F,U m (Z C) n,X ky y,O o,X ky q,O u].toArray 166)).alloc (jj (j1 E) 244)) w.heap.size [X J P,X J c,X J G,O F,U m (Z C) n,X ky y,O o,X ky q,O u] 166):=(kN w [X J P,X J c,X J G,O F,U m (Z C) n,X ky y,O o,X ky q,O u] 166).alloc _;have AT:kt (AF ((w.alloc (jj [X J P,X J c,X J G,O F,U m (Z C) n,X ky y,O o,X ky q,O u].toArray 166)).alloc (jj (j1 E) 244)) (w.heap.size+1) E 244):=by
  have h:=kN (w.alloc (jj [X J P,X J c,X J G,O F,U m (Z C) n,X ky y,O o,X ky q,O u].toArray 166)) E 244;simp only[fY]at h;exact h
 have HK:=Ab (((kL [] w).alloc (jj [X J P,X J c,X J G,O F,U m (Z C) n,X ky y,O o,X ky q,O u].toArray 166)).alloc (jj (j1 E) 244));go_enter func172,ntmps172;apply wp_seq_k;intro KK H2;have HI:=Ab H2;clear H2;go_wp2;refine HI _ _ ?_;clear HI KK;change Code.wp _ _ _ _ ((w.alloc (jj [X J P,X J c,X J G,O F,U m (Z C) n,X ky y,O o,X ky q,O u].toArray 166)).alloc (jj (j1 E) 244));generalize((w.alloc (jj [X J P,X J c,X J G,O F,U m (Z C) n,X ky y,O o,X ky q,O u].toArray 166)).alloc (jj (j1 E) 244))=w1 at AR AT HK⊢;generalize w.heap.size=N at AR AT⊢;have HY:kt (∀a,Ac [] w1 a->ku a ⟨N,5,Y⟩=V (X ky y)/\ku a ⟨N,6,Y⟩=V (O o)/\ku a ⟨N,7,Y⟩=V (X ky q)/\ku a ⟨N,8,Y⟩=V (O u)):=by
  intro a H;have M:=AR.kept H;have c5:=M.cell 5;have c6:=M.cell 6;have c7:=M.cell 7;have c8:=M.cell 8;simp at c5 c6 c7 c8;exact⟨c5,c6,c7,c8⟩
 go_wp2_with fail
 go_region_held3 (λa=>Ac [] w1 a/\ku a ⟨N,5,Y⟩=V (X ky y)/\ku a ⟨N,6,Y⟩=V (O o)/\ku a ⟨N,7,Y⟩=V (X ky q)/\ku a ⟨N,8,Y⟩=V (O u)) ((go_split_ands;refine(fun(Q:Ac [] w1 _)=>And.intro Q (HY _ Q)) ?_;repeat (first|assumption|exact kL [] _|refine Ac.drew ?_|refine Ac.alloc ?_ _))) ((go_at_call 164;first
  |((with_reducible show Calls _ _ #[_,kx #[X ky y,O o]] _ _);refine(FO (N+1) _ (AT.kept (by go_split_ands;assumption))).mono ?_;rintro _ w3 ⟨rfl,k3⟩;have K1:Ac [] w1 w3:=(by go_split_ands;exact Ac.trans (by assumption) k3);clear k3)
  |((with_reducible show Calls _ _ #[_,kx #[X ky q,O u]] _ _);refine(HB (N+1) _ (AT.kept (by go_split_ands;assumption))).mono ?_;rintro _ z ⟨rfl,k4⟩;have R:Ac [] w1 z:=(by go_split_ands;exact Ac.trans (by assumption) k4);clear k4)))
 rename_i JJ;clear JJ K1 FO HB HY;have d1:=(AR.kept R).cell 1;simp at d1;by_cases h0:c=0
 .have K6:(c==0)=hG:=by simp[h0]
  have I:=AR.kept R;have q2:=I.cell 2;have q3:=I.cell 3;have q4:=I.cell 4;simp at q2 q3 q4;have A:kt (Ac [] w z):=HK.trans R;have HF:kt (∀a,Ac [] z a->ku a ⟨sp,0,Y⟩=V (j2 (V ⟨W,T,Y⟩))/\ku a ⟨N,2,Y⟩=V (X J G)/\ku a ⟨N,3,Y⟩=V (O F)/\ku a ⟨N,4,Y⟩=V (U m (Z C) n)):=by
   intro a H;have hs:=(HM.kept (A.trans H)).zK.cell 0;have hn:=I.kept H;have r2:=hn.cell 2;have r3:=hn.cell 3;have r4:=hn.cell 4;simp at hs r2 r3 r4;exact⟨hs,r2,r3,r4⟩
  have Go:=Ab (AT.kept R);clear I q2 q3 q4;go_wp2_with fail
  go_region_held3 (λa=>Ac [] z a/\ku a ⟨sp,0,Y⟩=V (j2 (V ⟨W,T,Y⟩))/\ku a ⟨N,2,Y⟩=V (X J G)/\ku a ⟨N,3,Y⟩=V (O F)/\ku a ⟨N,4,Y⟩=V (U m (Z C) n)) ((go_split_ands;refine(fun(Q:Ac [] z _)=>And.intro Q (HF _ Q)) ?_;repeat (first|assumption|exact kL [] _|refine Ac.drew ?_|refine Ac.alloc ?_ _))) ((first
   |(go_at_call 147;refine(FL (N+1) _ (A.trans (by go_split_ands;assumption)) (Go.kept (by go_split_ands;assumption))).mono ?_;rintro _ w5 ⟨g5,rfl,CC,k5⟩;have Jx:Ac [] z w5:=(by go_split_ands;exact Ac.trans (by assumption) k5);have HE:=Ab (Al CC (fP _));clear k5 CC)
   |(go_at_call 18;refine(HA g5 _ (A.trans (by go_split_ands;assumption)) HE).mono ?_;rintro _ w6 ⟨p6,rfl,hcut,k6⟩;have FT:Ac [] z w6:=(by go_split_ands;exact Ac.trans (by assumption) k6);have Ha:=Ab hcut;clear k6 hcut)))
  go_wp2;go_ret;refine⟨_,rfl,?_,A.trans FT⟩;rw[Aa L];rw[fF h0];exact⟨p6,Ha,rfl⟩
 .have K6:(c==0)=K:=by simp[h0]
  by_cases h1:c=1
  ·(have K4:(c==1)=hG:=by simp[h1]);have I:=AR.kept R;have q2:=I.cell 2;have q3:=I.cell 3;have q4:=I.cell 4;simp at q2 q3 q4;have A:kt (Ac [] w z):=HK.trans R;have HF:kt (∀a,Ac [] z a->ku a ⟨sp,0,Y⟩=V (j2 (V ⟨W,T,Y⟩))/\ku a ⟨N,2,Y⟩=V (X J G)/\ku a ⟨N,3,Y⟩=V (O F)/\ku a ⟨N,4,Y⟩=V (U m (Z C) n)):=by
    intro a H;have hs:=(HM.kept (A.trans H)).zK.cell 0;have hn:=I.kept H;have r2:=hn.cell 2;have r3:=hn.cell 3;have r4:=hn.cell 4;simp at hs r2 r3 r4;exact⟨hs,r2,r3,r4⟩
   have Go:=Ab (AT.kept R);clear I q2 q3 q4;go_wp2_with fail
   go_region_held3 (λa=>Ac [] z a/\ku a ⟨sp,0,Y⟩=V (j2 (V ⟨W,T,Y⟩))/\ku a ⟨N,2,Y⟩=V (X J G)/\ku a ⟨N,3,Y⟩=V (O F)/\ku a ⟨N,4,Y⟩=V (U m (Z C) n)) ((go_split_ands;refine(fun(Q:Ac [] z _)=>And.intro Q (HF _ Q)) ?_;repeat (first|assumption|exact kL [] _|refine Ac.drew ?_|refine Ac.alloc ?_ _))) ((first
    |(go_at_call 147;refine(FL (N+1) _ (A.trans (by go_split_ands;assumption)) (Go.kept (by go_split_ands;assumption))).mono ?_;rintro _ w5 ⟨g5,rfl,CC,k5⟩;have Jx:Ac [] z w5:=(by go_split_ands;exact Ac.trans (by assumption) k5);have HE:=Ab (Al CC (fP _));clear k5 CC)
    |(go_at_call 18;refine(HA g5 _ (A.trans (by go_split_ands;assumption)) HE).mono ?_;rintro _ w6 ⟨p6,rfl,hcut,k6⟩;have FT:Ac [] z w6:=(by go_split_ands;exact Ac.trans (by assumption) k6);have Ha:=Ab hcut;clear k6 hcut)))
   go_wp2;go_ret;refine⟨_,rfl,?_,A.trans FT⟩;rw[Aa L];rw[fB h0,fF h1];exact⟨p6,Ha,rfl⟩
  ·(have K4:(c==1)=K:=by simp[h1]);have A:kt (Ac [] w z):=HK.trans R;by_cases h2:c=2
   ·(have IJ:(c==2)=hG:=by simp[h2]);go_wp2;go_ret;refine⟨_,rfl,?_,A⟩;rw[Aa L,fB h0,fB h1,fF h2]
   ·(have IJ:(c==2)=K:=by simp[h2]);by_cases h3:c=3
    ·(have H5:(c==3)=hG:=by simp[h3]);go_wp2;go_ret;refine⟨_,rfl,?_,A⟩;rw[Aa L,fB h0,fB h1,fB h2,fF h3]
    ·(have H5:(c==3)=K:=by simp[h3]);go_wp2;go_ret;refine⟨_,rfl,?_,A⟩;rw[Aa L,fB h0,fB h1,fB h2,fB h3]
def Fa(fs:kJ DF)(b:kJ zA):kJ PL->Bool->Prop
 |[],B=>B=K
 |x::l,B=>if Gn b (AX x)then∃H,Jy fs b x H/\(if H then Fa fs b l B else B=hG)else Fa fs b l B
def Te{d:kJ OR}(h:CF w n z d)(k:Nat)(a:k<Z d):
  ∃g q x f i,z=U (V ⟨g,0,Y⟩) (Z d) q/\d[k]=(x,U f (Z x.ts) i)/\JI w n (x,U f (Z x.ts) i)/\
   ku w ⟨g,k*9,Y⟩=V (X J x.place)/\ku w ⟨g,k*9+1,Y⟩=V (X J x.sort)/\ku w ⟨g,k*9+2,Y⟩=V (X J x.ap)/\ku w ⟨g,k*9+3,Y⟩=V (O x.an)/\ku w ⟨g,k*9+4,Y⟩=V (U f (Z x.ts) i)/\
   ku w ⟨g,k*9+5,Y⟩=V (X ky x.l.v)/\ku w ⟨g,k*9+6,Y⟩=V (O x.l.s)/\ku w ⟨g,k*9+7,Y⟩=V (X ky x.r.v)/\ku w ⟨g,k*9+8,Y⟩=V (O x.r.s):=by
 obtain⟨g,q,F,_,b⟩:=AC h.row (λc _=>rfl) k a;have A:=(h.each _ (fj a)).1;have y:=b k a 0 (by omega);have o:=b k a 1 (by omega);have j:=b k a 2 (by omega);have m:=b k a 3 (by omega);have D:=b k a 4 (by omega);have B:=b k a 5 (by omega);have u:=b k a 6 (by omega);have t:=b k a 7 (by omega);have C:=b k a 8 (by omega);obtain⟨⟨x,G⟩,E⟩:∃p,d[k]=p:=⟨_,rfl⟩;rw[E]at y o j m D B u t C A;obtain⟨f,i,e⟩:=Aj A;simp only at e;subst e;simp[Aw]at y o j m D B u t C;exact⟨g,q,x,f,i,F,E,A,y,o,j,m,D,B,u,t,C⟩
structure PR(x:PL):Prop where
 len:Z x.ts<=1000
 ts:∀t∈x.ts,OM t
 l:OM x.l
 r:OM x.r
def PR.zQ{x:PL}(h:PR x):(∀t∈AX x,OM t)/\Z (AX x)<=100000:=by
 unfold AX;split
 .exact⟨h.ts,by have:=h.len;omega⟩
 .refine⟨λt a=>?_,by simp⟩;simp only[fx,gP,or_false]at a;rcases a with rfl|rfl
  .exact h.l
  .exact h.r
theorem Wx(L kb ko:Nat)(HO:Option Addr)(FB:Nat)(c:kJ OR)(ov:ks)(Ix:Option Addr)(HV:Nat)(d:kJ DF)(b:kJ zA)(w:kq)(hb:Z b=26)(hS:Ov w L kb ko (U HO (Z c) FB) ov Ix HV d)(P:CF w 0 (U HO (Z c) FB) c)(K4:Z d<=900000)(M1:Z c<=1000)(hl:∀p∈c,PR p.1)
  (H5:∀(HH:Cg) i j (hi:i<Z d) (hj:j<Z d),i<=j->Cq d[j].f HH<0->Cq d[i].f HH<0):
  Calls prog 161 #[j2 (V ⟨L,0,Y⟩),kx (j1 (Ai b))] w λr v=>∃B,r=j3 (k0 B)/\Fa d b (c.map kE) B/\Ac [] w v:=by
 have K6:=Ab hS;have HY:=Ab P;have K5:kt (∀(x:PL) m n a,Ac [] w a->JI w 0 (x,U m (Z x.ts) n)->Calls prog 136 #[kx (j1 (Aw (x,U m (Z x.ts) n)))] a λe v=>∃IJ HT,e=j3 (U IJ (Z (AX x)) HT)/\kw v 0 164 2 (U IJ (Z (AX x)) HT) (Z (AX x)) ((AX x).flatMap Ap)/\Ac [] a v):=λx m n a y hx=>Lx x m n a (hx.kept y)
 have K2:kt (∀I (x:PL) m n a,PR x->AF a I (Ai b) 244->kw a 0 164 2 (U m (Z (AX x)) n) (Z (AX x)) ((AX x).flatMap Ap)->Calls prog 171 #[j2 (V ⟨I,0,Y⟩),U m (Z (AX x)) n] a λr v=>r=j3 (k0 (Gn b (AX x)))/\Ac [] a v):=λI x m n a q P hr=>T2 I 244 b m n (AX x) 0 a hb P hr q.zQ.2 q.zQ.1
 have HE:kt (∀(x:PL) m n a,Ac [] w a->PR x->JI w 0 (x,U m (Z x.ts) n)->Calls prog 172 #[j2 (V ⟨L,0,Y⟩),kx (j1 (Aw (x,U m (Z x.ts) n))),kx (j1 (Ai b))] a λr v=>∃B,r=j3 (k0 B)/\Jy d b x B/\Ac [] a v):=λx m n a y q hx=>VM L kb ko _ ov Ix HV d x m n b a hb (hS.kept y) (hx.kept y) K4 q.len q.ts q.l q.r (H5 _)
 have LC:=Ab hl;have q:=Bh b;have HW:Z (Ai b)=26:=by unfold Ai;simp[hb]
 have HA:=Ab HW;obtain⟨E,hE⟩:=kK (Ai b);rw[hE]at q HW HA K2 HE⊢;have C:=Ab (kN w E 244);have t:=Ab ((kL [] w).alloc (jj (j1 E) 244));clear hE hS P hl H5;obtain⟨u,EK⟩:∃u:Bool->Prop,u=Fa d b (c.map kE):=⟨_,rfl⟩;have F:kt (∀B,Fa d b ((c.drop 0).map kE) B->u B):=λB h=>by rw[EK];exact h
 rw[<-EK];clear EK;go_enter func161,ntmps161;apply wp_seq_k;intro KK H9;have FA:=Ab H9;clear H9;go_wp2;refine FA _ _ ?_;clear FA KK;generalize w.alloc (jj (j1 E) 244)=w1 at C t⊢;generalize w.heap.size=N at C⊢;have s1:=(K6.kept t).zK.cell 1;simp at s1;go_wp2_with fail
 go_loopg [12] (Z c) (λgk i wr=>∃(k:Nat),i=X J k/\k<=Z c/\gk=Z c-k/\kt (∀B,Fa d b ((c.drop k).map kE) B->u B)/\kt (AF wr N E 244)/\kt (Ac [] w wr))
 case atStart=>exact⟨0,rfl,by omega,rfl,F,C,t⟩
 case round=>
  clear F C t s1;obtain⟨k,rfl,y,H8,F,C,t⟩:=hrel;have HG:=Ab H8;clear H8;by_cases AR:k<Z c
  .obtain⟨g,M6,x,z,D,he,AB,_,d0,d1,d2,d3,d4,d5,d6,d7,d8⟩:=Te (HY.kept t) k AR;simp only[fg]at he;obtain⟨rfl,_,rfl⟩:=he;(have BA:(x,U z (Z x.ts) D)∈c:=by rw[<-AB];exact fj AR);have BT:=Aa LC _ BA;have AT:JI w 0 (x,U z (Z x.ts) D):=(HY.each _ BA).1;have s:kt (∀B,(if Gn b (AX x)then∃H,Jy d b x H/\(if H then Fa d b ((c.drop (k+1)).map kE) B else B=hG)else Fa d b ((c.drop (k+1)).map kE) B)->u B):=by
    intro B h;refine F B ?_;rw[fQ AR,fS,AB];exact h
   have R:=Ab (t.alloc (jj (j1 (Aw (x,U z (Z x.ts) D))) 166));have CW:=Ab (C.alloc (jj (j1 (Aw (x,U z (Z x.ts) D))) 166));have CC:=Ab (kN wr (Aw (x,U z (Z x.ts) D)) 166);have M:=Ab (K5 x z D _ R AT);have Bx:=Ab (λm n a=>K2 N x m n a BT);have G:=Ab (λa y=>HE x z D a y BT AT);generalize AX x=TL at M Bx s;generalize Jy d b x=HX at G s;obtain⟨pl,so,ap,an,ts,⟨lv,MB⟩,⟨rv,Nq⟩⟩:=x;simp only[Aw]at R CW CC M G d0 d1 d2 d3 d4 d5 d6 d7 d8;clear AB BA BT AT F;(go_wp2_with fail);refine M.mono ?_;rintro _ w3 ⟨K3,K9,rfl,HI,Q⟩;have H4:=Ab (R.trans Q);have B9:=Ab (CW.kept Q);have HM:=Ab (CC.kept Q);have H7:=Ab (Bx K3 K9 w3 B9 HI);clear M Bx R CW CC HI Q d0 d1 d2 d3 d4 d5 d6 d7 d8 t C;(go_wp2_with fail);refine H7.mono ?_;rintro _ w4 ⟨rfl,T⟩;have W:=Ab (H4.trans T);have S:=Ab (B9.kept T);have o:=HM.kept T;have e0:=o.cell 0;have e1:=o.cell 1;have e2:=o.cell 2;have e3:=o.cell 3;have e4:=o.cell 4;have e5:=o.cell 5;have e6:=o.cell 6;have e7:=o.cell 7;have e8:=o.cell 8;simp at e0 e1 e2 e3 e4 e5 e6 e7 e8;clear H7 H4 B9 HM T o;obtain⟨ST,FC⟩:=kK (Gn b TL);rw[FC]at s⊢;clear FC;cases ST with
   |false=>
    (have A:kt (∀B,Fa d b ((c.drop (k+1)).map kE) B->u B):=λB h=>s B (by rw[fB (by simp)];exact h));clear s G;go_wp2
    go_roundg (Z c-(k+1))
    case measure=>have:=Aa HG;omega
    case rel=>exact⟨k+1,by go_num,by omega,rfl,A,S,W⟩
   |true=>
    have FW:=Ab (G w4 W);clear G;go_wp2_with ((with_reducible show wpList _ _ _ ({dst:=_,op:=Op.load 244 _,type:=_,pos:=_,after:=_,guard:=_}::_) _ _);refine Bv (by rfl) 244 _ rfl N 0 (by rfl) E _ S.range underlying244 rfl (by rw[Aa HA];exact Tryz.size244) ?_)
    refine FW.mono ?_;rintro _ w5 ⟨HB,rfl,FF,k5⟩;have H1:=Ab (W.trans k5);have LE:=Ab (S.kept k5);have IS:=Ab FF;clear FW k5 FF W S e0 e1 e2 e3 e4 e5 e6 e7 e8;cases HB with
    |true=>
     (have A:kt (∀B,Fa d b ((c.drop (k+1)).map kE) B->u B):=λB h=>s B (by rw[fF True.intro];exact⟨hG,IS,h⟩));clear s;go_wp2
     go_roundg (Z c-(k+1))
     case measure=>have:=Aa HG;omega
     case rel=>exact⟨k+1,by go_num,by omega,rfl,A,LE,H1⟩
    |false=>
     have A:kt (u hG):=s hG (by rw[fF True.intro];exact⟨K,IS,rfl⟩);clear s;go_wp2;go_ret;exact⟨hG,rfl,A,H1⟩
  .have A:kt (u K):=F K (by rw[gr (by omega)];rfl);go_wp2;go_ret;exact⟨K,rfl,A,t⟩
abbrev UI:=kJ zA×ks
structure cT(w:kq)(lv:ks)(ps:kJ UI):Prop where
 row:kw w 0 54 1 lv (Z ps) (ps.flatMap λp=>[p.2])
 each:∀p∈ps,kw w 0 98 1 p.2 (Z p.1) (p.1.flatMap Ah)/\Cz Fe p.1/\Z p.1<=10000
def cT.kept{w w':kq}{b:kJ UI}(h:cT w z b)(k:Ac [] w w'):cT w' z b:=⟨Ad h.row k,λp a=>⟨Ad (h.each p a).1 k,(h.each p a).2⟩⟩
def bH{a:kJ UI}(h:cT w z a)(k:Nat)(b:k<Z a):∃g l i f,z=U (V ⟨g,0,Y⟩) (Z a) l/\ku w ⟨g,k,Y⟩=V (U i (Z (BF (a.map kE) k)) f)/\kw w 0 98 1 (U i (Z (BF (a.map kE) k)) f) (Z (BF (a.map kE) k)) ((BF (a.map kE) k).flatMap Ah)/\Cz Fe (BF (a.map kE) k)/\Z (BF (a.map kE) k)<=10000:=by
 obtain⟨g,l,m,_,q⟩:=AC h.row (λc _=>rfl) k b;have d:=q k b 0 (by omega);have n:BF (a.map kE) k=a[k].1:=by
  unfold BF;rw[fG,io,fI b];rfl
 rw[n];obtain⟨j,o,p⟩:=h.each _ (fj b);obtain⟨i,f,e⟩:=Aj j;rw[e]at j;simp[e]at d;exact⟨g,l,i,f,m,d,j,o,p⟩
def Xm{v:ks}{l:kJ Nat}(h:kw w n 3 1 v (Z l) (l.flatMap BU))(k:Nat)(b:k<Z l):∃g a,v=U (V ⟨g,0,Y⟩) (Z l) a/\ku w ⟨g,k,Y⟩=V (X J (l[k]:Nat)):=by
 obtain⟨g,a,e,_,f⟩:=AC h (λc _=>rfl) k b;have d:=f k b 0 (by omega);simp[BU]at d;exact⟨g,a,e,d⟩
def Ml(a:kJ Nat)(t v:Nat)(b:t<Z a):Xa (λi=>a.getD i 0) t v=λi=>(a.set t v).getD i 0:=by
 funext i
 unfold Xa;simp only[fG,List.getElem?_set];split
 .rename_i e;subst e;simp[b]
 .rename_i e;rw[fB (λh=>e h.symm)]
def Kn(b:kJ Nat)(t v:Nat):(b.set t v).flatMap BU=(b.flatMap BU).set t (X J (v:Nat)):=by
 have e:∀l:kJ Nat,l.flatMap BU=l.map λn=>X J (n:Nat):=λl=>by
  induction l with
  |nil=>rfl
  |cons a l ih=>simp[BU,ih]
 rw[e,e,km]
def Ma:∀l:kJ Nat,l.flatMap BU=l.map λn=>X J (n:Nat)
 |[]=>rfl
 |a::l=>by simp only[fN,fS,Ma l];rfl
def LP(a:kJ Nat)(t:Nat)(h:t<Z a):(a.flatMap BU)[t]?=V (X J (a[t]:Nat)):=by
 rw[Ma,io,fI h];rfl
def cQ(a:kJ (kJ zA))(s:zA)(h:∀l∈a,Z l<=10000):S5 Fe s a<=Z a*10000:=by
 induction a with
 |nil=>simp[S5]
 |cons l a ih=>
  have d:=ih (λq b=>h q (gu _ b));have c:=h l (gJ ..);have f:dM Fe s l<=Z l:=kf;have e:S5 Fe s (l::a)=dM Fe s l+S5 Fe s a:=by unfold S5;simp
  rw[e,fD,iz];omega
structure Jv(ps:kJ UI)(m:kJ zA):Prop where
 mem:∀y,y∈m↔(ps≠[]/\Ju (ps.map kE) y)
 zH:m.Pairwise λa b=>Fe a b=hG
theorem Tryz.zq:(Tryz.prog.info? 3).map (λi=>(i.zero,i.size,i.bytes))=V (V (X J 0),1,8):=by kernel_rfl
theorem Vq(Os:Option Addr)(NE:Nat)(c:kJ UI)(w:kq)(h:cT w (U Os (Z c) NE) c)(ao:Z c<=1000):
  Calls prog 175 #[U Os (Z c) NE] w λr w'=>∃(ad:Option Addr) (cp:Nat) (m:kJ zA),r=j3 (U ad (Z m) cp)/\Jv c m/\kw w' w.heap.size 98 1 (U ad (Z m) cp) (Z m) (m.flatMap Ah)/\Ac [] w w':=by
 obtain⟨i0,HW,HH,HY,HT⟩:=gH Tryz.info98;obtain⟨j0,RV,W1,P0,ST⟩:=gH Tryz.zq;have HL:=Ab h;obtain⟨N,hN⟩:=kK w.heap.size;rw[hN];have x:=Ab hN;clear hN h;obtain⟨d,BA⟩:=kK (c.map kE);have FT:Z d=Z c:=by rw[<-BA,fH]
 have M0:=Ab BA;have TT:kt (∀s,S5 Fe s d<=Z c*10000):=by
  intro s;have F:=cQ d s (λl hl=>by
   rw[<-BA]at hl
   obtain⟨p,hp,rfl⟩:=fC.1 hl
   exact(HL.each p hp).2.2)
  rw[FT]at F;exact F
 have FL:kt (∀m,(c≠[]->(∀y,y∈m↔Ju d y))->(c=[]->m=[])->m.Pairwise (λa b=>Fe a b=hG)->Jv c m):=by
  intro m F Q h3;refine⟨λy=>?_,h3⟩;by_cases hp:c=[]
  .rw[Q hp];simp[hp]
  .rw[F hp y,<-BA];exact⟨λh=>⟨hp,h⟩,λh=>h.2⟩
 by_cases h0:Z c=0
 .have aa:((Z c:Int)==0)=hG:=by simp[h0]
  have W2:(Z c:Int)=0:=by omega
  have HE:kt (Jv c []):=FL [] (λh=>absurd (jz.1 h0) h) (λ_=>rfl) List.Pairwise.nil;clear BA;go_enter func175,ntmps175;go_wp2;go_ret;exact⟨Y,0,[],rfl,HE,fK _ _ _ _,kL _ _⟩
 .have S1:0<Z c:=by omega
  have aa:((Z c:Int)==0)=K:=by rw[gm];omega
  have W2:¬(Z c:Int)=0:=by omega
  have HR:c≠[]:=λe=>h0 (by rw[e];rfl)
  obtain⟨g,bp,br,a5,he,e0,r0,q0,b0⟩:=bH HL 0 S1;simp only[fg]at he;obtain⟨rfl,-,rfl⟩:=he;rw[BA]at e0 r0 q0 b0;have af:(0:Int)<(Z c:Int):=by omega
  by_cases hz:Z (BF d 0)=0
  ·(have H6:((Z (BF d 0):Int)==0)=hG:=by simp[hz]);(have KS:(Z (BF d 0):Int)=0:=by omega);have HE:kt (Jv c []):=FL [] (λ_ y=>by
    refine⟨λh=>by simp at h,λh=>?_⟩
    have F:=h (BF d 0) (EN (by omega))
    rw[jz.1 hz]at F
    exact F) (λh=>absurd h HR) List.Pairwise.nil
   clear BA hz;go_enter func175,ntmps175;go_wp2;go_ret;exact⟨Y,0,[],rfl,HE,fK _ _ _ _,kL _ _⟩
  ·(have K5:0<Z (BF d 0):=by omega);(have H6:((Z (BF d 0):Int)==0)=K:=by rw[gm];omega);(have KS:¬(Z (BF d 0):Int)=0:=by omega);(have Nq:(0:Int)<(Z (BF d 0):Int):=by omega);obtain⟨gz,cz,M1,z0⟩:=F1 r0 0 K5;simp only[fg]at M1;obtain⟨rfl,-,rfl⟩:=M1;have H0:=Ab (OK.start Gp (ls:=d) (by omega) q0 K5);obtain⟨s0,MB⟩:=kK ((BF d 0)[0]);rw[MB]at H0 z0;clear MB BA r0 q0 hz;generalize Z (BF d 0)=L0 at e0 H6 KS Nq;(have WW:=λo=>((kL [] w).alloc o).cellAt e0);(have Wa:=λo=>((kL [] w).alloc o).cellAt z0);go_enter func175,ntmps175;go_wp2_with ((with_reducible show wpList _ _ _ ({dst:=_,op:=Op.makeSlice 136 _ _,type:=_,pos:=_,after:=_,guard:=_}::_) _ _);refine wpList_make_row _ rfl _ _ 136 rfl 3 j0 _ underlying136 RV W1 P0 rfl J J (Z c) (by rfl) (by rfl) (by rw[ST];omega) (by omega) ?_)
   have IJ:kt (kw (w.alloc (jj (madeCells #[X J 0] (Z c)) 3)) N 3 1 (U (V ⟨N,0,Y⟩) (Z c) (Z c)) (Z c) ((kD (Z c) 0).flatMap BU)):=by
    have h:=j4 (e:=3) (size:=1) (base:=N) w (madeCells #[X J 0] (Z c)) (Z c) (by have:=Aa x;omega) (by unfold maxLen;omega) (by rw[size_madeCells];omega);rw[Sg,Aa x]at h;have e:(kD (Z c) 0).flatMap BU=kD (Z c) (X J 0):=by
     generalize Z c=n
     induction n with
     |zero=>rfl
     |succ n ih=>rw[List.replicate_succ,fN,ih,List.replicate_succ];rfl
    rw[e];exact h
   have K2:=Ab ((kL [] w).alloc (jj (madeCells #[X J 0] (Z c)) 3));have LL:kt (OK Fe d 0 s0 0 (λi=>(kD (Z c) 0).getD i 0) []):=by
    have e:(λi=>(kD (Z c) 0).getD i 0)=λ_=>0:=by
     funext i
     rw[fG,List.getElem?_replicate];split<;>rfl
    rw[e];exact H0
   rw[Aa x];clear e0 z0 WW Wa H0 H6 KS Nq b0 K5;generalize w.alloc (jj (madeCells #[X J 0] (Z c)) 3)=w1 at IJ K2⊢
   go_loopg [3,5,6,7] (S5 Fe s0 d*(Z c+1)+Z c) (λgk cv sv av tv wr=>∃(t:Nat) (s:zA) (D:Nat) (k:kJ Nat) (m:kJ zA) (H:Option Addr) (I:Nat),cv=U H (Z m) I/\sv=O s/\av=X J D/\tv=X J t/\gk=S5 Fe s d*(Z c+1)+(Z c-D)/\Z k=Z c/\Z m+S5 Fe s d<=10000000/\kt (OK Fe d t s D (λi=>k.getD i 0) m)/\kt (kw wr N 3 1 (U (V ⟨N,0,Y⟩) (Z c) (Z c)) (Z c) (k.flatMap BU))/\kt (kw wr N 98 1 (U H (Z m) I) (Z m) (m.flatMap Ah))/\kt (Ac [] w wr))
   case atStart=>exact⟨0,s0,0,kD (Z c) 0,[],Y,0,rfl,rfl,rfl,rfl,by simp,by simp,by have:=Aa TT s0;simp;omega,LL,IJ,fK _ _ _ _,K2⟩
   case round=>
    clear LL IJ K2;obtain⟨t,s,D,k,m,H,I,rfl,rfl,rfl,rfl,NX,FO,a7,R,S,T,B⟩:=hrel;have HG:=Ab NX;clear NX;(have HX:t<Z c:=by have:=R.tk;omega);(have a1:D<Z c:=by have:=R.agk;omega);obtain⟨g',a4,N2,TL,LD,et,rt,qt,bt⟩:=bH (HL.kept B) t HX;simp only[fg,fu,gi]at LD;obtain⟨⟨Ax,-,-⟩,-,-⟩:=LD;subst Ax;rw[Aa M0]at et rt qt bt;(have NY:kw wr N 3 1 (U (V ⟨N,0,Y⟩) (Z c) (Z c)) (Z k) (k.flatMap BU):=by rw[FO];exact S);have Mo:k.getD t 0<=Z (BF d t):=R.ple t R.tk;obtain⟨gp,ap,NA,pt⟩:=Xm (l:=k) (v:=U (V ⟨N,0,Y⟩) (Z c) (Z c)) NY t (by omega);simp only[fg,fu,gi]at NA;obtain⟨⟨Ax,-,-⟩,-,-⟩:=NA;subst Ax;obtain⟨PT,H1⟩:=kK (k[t]);(have K6:k.getD t 0=PT:=by rw[fG,fI (by omega),H1];rfl);rw[H1]at pt;rw[K6]at Mo;have NL:=Ab (M2 (U N2 (Z (BF d t)) TL) (BF d t) PT s 0 wr rt (by omega) Mo qt);have HQ:=Ab qt;have K4:=Ab rt;have WS:=Ab K6;(have ba:(0:Int)<=(t:Int):=by omega);(have a6:(t:Int)<(Z c:Int):=by omega);have pf:=S.frozenAt t;have OH:kt (∀q0 q1,N2=V ⟨q0,q1,Y⟩->q0<N):=by
     intro q0 q1 z;obtain⟨gw,_,bl,a9,LE,ew,W0,_,_⟩:=bH HL t HX;simp only[fg,fu,gi]at LE;obtain⟨⟨Ax,-,-⟩,-,-⟩:=LE;subst Ax;have e2:=B.cellAt ew;rw[Aa M0,et]at e2;simp only[fu,fg]at e2;have h3:=(W0.lt q0 (by rw[<-e2.1,z];rfl)).2;rw[Aa x]at h3;exact h3
    have G:kt (((t:Int)+1).tmod (Z c:Int)=(E5 (Z c) t:Int)/\((t:Int)+1)%(Z c:Int)=(E5 (Z c) t:Int)/\E5 (Z c) t<Z c):=by
     have F:=ZF HX;(have Q:((t:Int)+1)%(Z c:Int)=(E5 (Z c) t:Int):=by rw[<-F,Int.natCast_emod,Int.natCast_add];rfl);exact⟨by rw[Int.tmod_eq_emod_of_nonneg (by omega)];exact Q,Q,S2 HX⟩
    clear H1 NY K6 qt rt;(go_wp2_with fail);refine NL.mono ?_;rintro _ w2 ⟨f,rfl,H8,RB⟩;have UO:=RB.symm;subst UO;(have LM:C9 Fe (BF d t) ((λi=>k.getD i 0) t) s f:=by show C9 Fe (BF d t) (k.getD t 0) s f;rw[Aa WS];exact H8);have H7:=Ab LM;have aT:=H8.le;clear H8 LM NL;by_cases Jx:f=Z (BF d t)
    .have HE:kt (Jv c m):=FL m (λ_=>R.done H7 Jx) (λh=>absurd h HR) R.zH;(have SP:((f:Int)==(Z (BF d t):Int))=hG:=by simp[Jx]);(have TX:(f:Int)=(Z (BF d t):Int):=by omega);clear Jx;go_wp2;go_ret;exact⟨H,I,m,rfl,HE,T,B⟩
    ·(have Ix:f<Z (BF d t):=by omega);(have SP:((f:Int)==(Z (BF d t):Int))=K:=by rw[gm];omega);(have TX:¬(f:Int)=(Z (BF d t):Int):=by omega);(have a3:(0:Int)<=(f:Int):=by omega);(have bd:(f:Int)<(Z (BF d t):Int):=by omega);obtain⟨P,cx,N4,x0⟩:=F1 K4 f Ix;simp only[fg]at N4;obtain⟨rfl,-,rfl⟩:=N4;obtain⟨j,hX⟩:=kK ((BF d t)[f]);rw[hX]at x0;cases hsx:(j.toList==s.toList)with
     |true=>
      have E0:j=s:=(ED j s).1 hsx;have W:=Ab (R.same H7 Ix (by rw[hX,E0]));(have Pl:S5 Fe j d<=S5 Fe s d:=by rw[E0];exact fJ _);subst E0;clear hX R;(have SS:D+1<=Z c:=by omega);by_cases CL:D+1=Z c
      ·(have H2:(((D:Int)+1)==(Z c:Int))=hG:=by rw[iF];omega);have MN:((D:Int)+1)=(Z c:Int):=by omega
       skip
       skip
       (have EK:D+1=Z d:=by omega);by_cases EM:f+1=Z (BF d t)
       ·(have LB:(((f:Int)+1)==(Z (BF d t):Int))=hG:=by rw[iF];omega);(have IS:((f:Int)+1)=(Z (BF d t):Int):=by omega);have HE:kt (Jv c (m++[j])):=FL (m++[j]) (λ_=>W.last Gp HQ EK EM) (λh=>absurd h HR) (W.zx EK).2;have C:=Aa T;clear CL EM;go_wp2_with (at_builtin;refine fO _ rfl (.tmp 65) (.tmp 67) _ rfl N 98 i0 _ 1 16 underlying54 HW HH HY HT rfl (by omega) (U H (Z m) I) (Z m) (m.flatMap Ah) rfl (fw C _) ⟨wr.heap.size,0,Y⟩ 1 1 [O j] rfl rfl (fM (fX wr _)) (by simp[Value.oneCell']) (by omega) (by unfold maxLen;omega) (by omega) (by simp;have:=B.size;have:=Aa x;omega) (wr.heap.size+1) (by simp) ?_;intro g1 AB u AT A HZ H5)
        go_ret;refine⟨V ⟨g1,0,Y⟩,AB,m++[j],by simp,HE,?_,(B.alloc _).grown A (λq z=>kp (by have:=(C.lt q z).1;have:=Aa x;omega))⟩;rw[fR];simp only[fE,fD,gh,gE,fN,gI,gd,Ah];exact AT
       ·(have LB:(((f:Int)+1)==(Z (BF d t):Int))=K:=by rw[gm];omega);(have IS:¬((f:Int)+1)=(Z (BF d t):Int):=by omega);(have Go:f+1<Z (BF d t):=by omega);obtain⟨gy,cy,FW,y0⟩:=F1 K4 (f+1) Go;simp only[fg,fu,gi]at FW;obtain⟨⟨Ax,-,-⟩,-,-⟩:=FW;subst Ax;have L:=W.more Gp HQ EK Go;obtain⟨E,hY⟩:=kK ((BF d t)[f+1]);rw[hY]at y0 L;rw[Ml k t (f+1) (by omega),FT]at L;have B9:=Ab L.1;have TH:=L.2;(have SB:(0:Int)<=(f:Int)+1:=by omega);(have S0:(f:Int)+1<(Z (BF d t):Int):=by omega);have C:=Aa T;have AH:kt (∀u,(wr.alloc (jj #[O j] 98)).grownBy u (U H (Z m) I).ownBlock->ku u ⟨P,f+1,Y⟩=V (O E)/\kw u N 3 1 (U (V ⟨N,0,Y⟩) (Z c) (Z c)) (Z c) (k.flatMap BU)):=by
         intro u Ha;refine⟨?_,(fw S _).kept Ha (kp (λe=>Bg S C (by decide) N rfl e.symm))⟩;have SJ:P<N:=OH _ _ (by rfl);(have RE:P<wr.heap.size:=by have:=B.size;have:=Aa x;omega);rw[Ha.cell_far ⟨P,f+1,Y⟩ (by simp;omega) (λe=>by have:=(C.lt P e.symm).1;omega)];exact(((kL [] wr).alloc _).cellAt y0)
        clear CL EM hY L;go_wp2_with (at_builtin;refine fO _ rfl (.tmp 65) (.tmp 67) _ rfl N 98 i0 _ 1 16 underlying54 HW HH HY HT rfl (by omega) (U H (Z m) I) (Z m) (m.flatMap Ah) rfl (fw C _) ⟨wr.heap.size,0,Y⟩ 1 1 [O j] rfl rfl (fM (fX wr _)) (by simp[Value.oneCell']) (by omega) (by unfold maxLen;omega) (by omega) (by simp;have:=B.size;have:=Aa x;omega) (wr.heap.size+1) (by simp) ?_;intro g1 AB u AT A HZ H5;have y9:=(AH u A).1;have FF:=(AH u A).2;have H9:=FF.cellAt t (by omega);have RO:=FF.frozenAt t;rw[LP k t (by omega)]at H9)
        have KK:=G.1;have K1:=G.2.1;have K7:=Ab (((AH u A).2).stored t (X J ((f+1:Nat):Int)));go_wp2
        go_roundg (S5 Fe E d*(Z c+1)+Z c)
        case measure=>
         have F:=Aa HG;have Q:(S5 Fe E d+1)*(Z c+1)<=S5 Fe j d*(Z c+1):=gK _ (by omega);rw[iz]at Q;omega
        case rel=>
         refine⟨E5 (Z c) t,E,0,k.set t (f+1),m++[j],V ⟨g1,0,Y⟩,AB,by simp,rfl,rfl,by first|rfl|exact congrArg _ G.2.1,by simp,by simp[FO],by simp;omega,B9,?_,?_,?_⟩
         .rw[Kn];have h:=K7.1;exact h
         .have CW:=Bg (AH u A).2 AT (by decide) N rfl;have h9:kw u N 98 1 (U (V ⟨g1,0,Y⟩) (Z (m++[j])) AB) (Z (m++[j])) ((m++[j]).flatMap Ah):=by
           rw[fR];simp only[fE,fD,gh,gE,fN,gI,gd,Ah];exact AT
          exact Am h9 (Ac.setCell (M:=[N]) (kL [N] _) (kn (by simp)) _) (λq z=>by simp only[ft];intro e;subst e;exact CW z)
         .exact((B.alloc _).grown A (λq z=>kp (by have:=(C.lt q z).1;have:=Aa x;omega))).setCell (kp (by have:=Aa x;simp;omega)) _
      ·(have H2:(((D:Int)+1)==(Z c:Int))=K:=by rw[gm];omega);have MN:¬((D:Int)+1)=(Z c:Int):=by omega
       skip
       skip
       have CC:=W.next (by omega);rw[Ml k t f (by omega),FT]at CC;have B9:=Ab CC;have KK:=G.1;have K1:=G.2.1;clear CL CC;go_wp2
       go_roundg (S5 Fe j d*(Z c+1)+(Z c-(D+1)))
       case measure=>
        have F:=Aa HG
        skip
        skip
        omega
       case rel=>
        refine⟨E5 (Z c) t,j,D+1,k.set t f,m,H,I,rfl,rfl,by go_num,by first|rfl|exact congrArg _ G.2.1,rfl,by simp[FO],by omega,B9,?_,?_,?_⟩
        .rw[Kn];exact(S.stored t (X J (f:Int))).1
        .have CW:=Bg S T (by decide) N rfl;exact Am T (Ac.setCell (M:=[N]) (kL [N] _) (kn (by simp)) _) (λq z=>by simp only[ft];intro e;subst e;exact CW z)
        .exact B.setCell (kp (by have:=Aa x;simp;omega)) _
     |false=>
      (have E0:j≠s:=λe=>by rw[(ED j s).2 e]at hsx;cases hsx);have HO:=R.past Gp HQ H7 Ix (by rw[hX];exact E0);rw[hX]at HO;have W:=Ab HO.1;have Pl:=HO.2;clear hX R HO E0;(have SS:0+1<=Z c:=by omega);by_cases CL:0+1=Z c
      ·(have H2:(((0:Int)+1)==(Z c:Int))=hG:=by rw[iF];omega);(have VR:((1:Int)==(Z c:Int))=hG:=by rw[iF];omega);(have EK:0+1=Z d:=by omega);by_cases EM:f+1=Z (BF d t)
       ·(have LB:(((f:Int)+1)==(Z (BF d t):Int))=hG:=by rw[iF];omega);(have IS:((f:Int)+1)=(Z (BF d t):Int):=by omega);have HE:kt (Jv c (m++[j])):=FL (m++[j]) (λ_=>W.last Gp HQ EK EM) (λh=>absurd h HR) (W.zx EK).2;have C:=Aa T;clear CL EM;go_wp2_with (at_builtin;refine fO _ rfl (.tmp 65) (.tmp 67) _ rfl N 98 i0 _ 1 16 underlying54 HW HH HY HT rfl (by omega) (U H (Z m) I) (Z m) (m.flatMap Ah) rfl (fw C _) ⟨wr.heap.size,0,Y⟩ 1 1 [O j] rfl rfl (fM (fX wr _)) (by simp[Value.oneCell']) (by omega) (by unfold maxLen;omega) (by omega) (by simp;have:=B.size;have:=Aa x;omega) (wr.heap.size+1) (by simp) ?_;intro g1 AB u AT A HZ H5)
        go_ret;refine⟨V ⟨g1,0,Y⟩,AB,m++[j],by simp,HE,?_,(B.alloc _).grown A (λq z=>kp (by have:=(C.lt q z).1;have:=Aa x;omega))⟩;rw[fR];simp only[fE,fD,gh,gE,fN,gI,gd,Ah];exact AT
       ·(have LB:(((f:Int)+1)==(Z (BF d t):Int))=K:=by rw[gm];omega);(have IS:¬((f:Int)+1)=(Z (BF d t):Int):=by omega);(have Go:f+1<Z (BF d t):=by omega);obtain⟨gy,cy,FW,y0⟩:=F1 K4 (f+1) Go;simp only[fg,fu,gi]at FW;obtain⟨⟨Ax,-,-⟩,-,-⟩:=FW;subst Ax;have L:=W.more Gp HQ EK Go;obtain⟨E,hY⟩:=kK ((BF d t)[f+1]);rw[hY]at y0 L;rw[Ml k t (f+1) (by omega),FT]at L;have B9:=Ab L.1;have TH:=L.2;(have SB:(0:Int)<=(f:Int)+1:=by omega);(have S0:(f:Int)+1<(Z (BF d t):Int):=by omega);have C:=Aa T;have AH:kt (∀u,(wr.alloc (jj #[O j] 98)).grownBy u (U H (Z m) I).ownBlock->ku u ⟨P,f+1,Y⟩=V (O E)/\kw u N 3 1 (U (V ⟨N,0,Y⟩) (Z c) (Z c)) (Z c) (k.flatMap BU)):=by
         intro u Ha;refine⟨?_,(fw S _).kept Ha (kp (λe=>Bg S C (by decide) N rfl e.symm))⟩;have SJ:P<N:=OH _ _ (by rfl);(have RE:P<wr.heap.size:=by have:=B.size;have:=Aa x;omega);rw[Ha.cell_far ⟨P,f+1,Y⟩ (by simp;omega) (λe=>by have:=(C.lt P e.symm).1;omega)];exact(((kL [] wr).alloc _).cellAt y0)
        clear CL EM hY L;go_wp2_with (at_builtin;refine fO _ rfl (.tmp 65) (.tmp 67) _ rfl N 98 i0 _ 1 16 underlying54 HW HH HY HT rfl (by omega) (U H (Z m) I) (Z m) (m.flatMap Ah) rfl (fw C _) ⟨wr.heap.size,0,Y⟩ 1 1 [O j] rfl rfl (fM (fX wr _)) (by simp[Value.oneCell']) (by omega) (by unfold maxLen;omega) (by omega) (by simp;have:=B.size;have:=Aa x;omega) (wr.heap.size+1) (by simp) ?_;intro g1 AB u AT A HZ H5;have y9:=(AH u A).1;have FF:=(AH u A).2;have H9:=FF.cellAt t (by omega);have RO:=FF.frozenAt t;rw[LP k t (by omega)]at H9)
        have KK:=G.1;have K1:=G.2.1;have K7:=Ab (((AH u A).2).stored t (X J ((f+1:Nat):Int)));go_wp2
        go_roundg (S5 Fe E d*(Z c+1)+Z c)
        case measure=>
         have F:=Aa HG;have Q:(S5 Fe E d+1)*(Z c+1)<=S5 Fe s d*(Z c+1):=gK _ (by omega);rw[iz]at Q;omega
        case rel=>
         refine⟨E5 (Z c) t,E,0,k.set t (f+1),m++[j],V ⟨g1,0,Y⟩,AB,by simp,rfl,rfl,by first|rfl|exact congrArg _ G.2.1,by simp,by simp[FO],by simp;omega,B9,?_,?_,?_⟩
         .rw[Kn];have h:=K7.1;exact h
         .have CW:=Bg (AH u A).2 AT (by decide) N rfl;have h9:kw u N 98 1 (U (V ⟨g1,0,Y⟩) (Z (m++[j])) AB) (Z (m++[j])) ((m++[j]).flatMap Ah):=by
           rw[fR];simp only[fE,fD,gh,gE,fN,gI,gd,Ah];exact AT
          exact Am h9 (Ac.setCell (M:=[N]) (kL [N] _) (kn (by simp)) _) (λq z=>by simp only[ft];intro e;subst e;exact CW z)
         .exact((B.alloc _).grown A (λq z=>kp (by have:=(C.lt q z).1;have:=Aa x;omega))).setCell (kp (by have:=Aa x;simp;omega)) _
      ·(have H2:(((0:Int)+1)==(Z c:Int))=K:=by rw[gm];omega);(have MN:¬((0:Int)+1)=(Z c:Int):=by omega);(have VR:((1:Int)==(Z c:Int))=K:=by rw[gm];omega);(have a0:¬(1:Int)=(Z c:Int):=by omega);have CC:=W.next (by omega);rw[Ml k t f (by omega),FT]at CC;have B9:=Ab CC;have KK:=G.1;have K1:=G.2.1;clear CL CC;go_wp2
       go_roundg (S5 Fe j d*(Z c+1)+(Z c-(0+1)))
       case measure=>
        have F:=Aa HG;have Q:(S5 Fe j d+1)*(Z c+1)<=S5 Fe s d*(Z c+1):=gK _ (by omega);rw[iz]at Q;omega
       case rel=>
        refine⟨E5 (Z c) t,j,0+1,k.set t f,m,H,I,rfl,rfl,by go_num,by first|rfl|exact congrArg _ G.2.1,rfl,by simp[FO],by omega,B9,?_,?_,?_⟩
        .rw[Kn];exact(S.stored t (X J (f:Int))).1
        .have CW:=Bg S T (by decide) N rfl;exact Am T (Ac.setCell (M:=[N]) (kL [N] _) (kn (by simp)) _) (λq z=>by simp only[ft];intro e;subst e;exact CW z)
        .exact B.setCell (kp (by have:=Aa x;simp;omega)) _
def Dc.grown{p:DF}{v:ks}(h:Dc w p)(b:kw w m 56 2 v n y)(a:w.grownBy u v.ownBlock):Dc u p:=
 gY (v:=p.tv) h a (by
  cases hp:p.tv.ownBlock with
  |none=>exact kn rfl
  |some q=>exact kp (λe=>Bg h b (by decide) q hp e.symm))
def IK(b:kJ zA)(ls:kJ PL):kJ Cg:=(ls.filter λx=>x.sort==0).map (ES b)
theorem X1(W ty:Nat)(b:kJ zA)(HC:Option Addr)(EX:Nat)(c:kJ OR)(w:kq)(hb:Z b=26)(HQ:AF w W (Ai b) ty)(hB:CF w 0 (U HC (Z c) EX) c)(K5:Z c<=1000)(hl:∀p∈c,PR p.1):
  Calls prog 149 #[j2 (V ⟨W,0,Y⟩),U HC (Z c) EX] w λr n=>∃(l:Option Addr) (m:Nat) (a:kJ DF),r=j3 (U l (Z a) m)/\a.map DF.f=IK b (c.map kE)/\Iw n (U l (Z a) m) a/\kw n w.heap.size 56 2 (U l (Z a) m) (Z a) (a.flatMap AI)/\Ac [] w n:=by
 obtain⟨i0,H8,H3,Ix,H7⟩:=gH Tryz.info56;have HL:=Ab hB;have H5:=Ab hl;have HX:kt (∀(x:PL) l m D,Ac [] w D->PR x->JI w 0 (x,U l (Z x.ts) m)->Calls prog 147 #[j2 (V ⟨W,0,Y⟩),kx #[X J x.ap,O x.an,U l (Z x.ts) m]] D λr n=>∃g,r=j3 (kx #[O x.an,U (V ⟨g,0,Y⟩) (Z x.ts) (Z x.ts)])/\Dc n ⟨ES b x,U (V ⟨g,0,Y⟩) (Z x.ts) (Z x.ts)⟩/\Ac [] D n):=by
  intro x l m D hk hc hx;refine(Na W ty b x.ap x.an l m x.ts 0 D hb (HQ.kept hk) (hx.kept hk) (by have:=hc.len;omega) hc.ts).mono ?_;rintro r n ⟨g,rfl,hr,k⟩;refine⟨g,rfl,?_,k⟩;show kw n 0 98 1 _ (Z (x.ts.map (Bq b))) _;rw[fH];exact Al hr (fP _)
 obtain⟨R,hR⟩:=kK (IK b (c.map kE));rw[hR];have HR:=Ab hR;obtain⟨N,hN⟩:=kK w.heap.size;have S:=Ab hN;clear hB hl hR hN HQ;go_enter func149,ntmps149;go_wp2_with fail
 go_loopg [5,10] (Z c) (λgk o i wr=>∃(k:Nat) (a:kJ DF) (A:Option Addr) (v:Nat),o=U A (Z a) v/\i=X J k/\k<=Z c/\gk=Z c-k/\Z a<=k/\kt (a.map DF.f=IK b ((c.take k).map kE))/\kt (kw wr N 56 2 (U A (Z a) v) (Z a) (a.flatMap AI))/\kt (∀p∈a,Dc wr p/\Z p.f.zC<=1000)/\kt (Ac [] w wr))
 case atStart=>exact⟨0,[],Y,0,rfl,rfl,by omega,rfl,by simp,rfl,fK _ _ _ _,(λp e=>by cases e),kL _ _⟩
 case round=>
  obtain⟨k,a,A,v,rfl,rfl,hk,HS,K3,H,M,P,E⟩:=hrel;have HG:=Ab HS;clear HS;by_cases AT:k<Z c
  .obtain⟨g,K6,x,y,z,he,AR,_,d0,d1,d2,d3,d4,d5,d6,d7,d8⟩:=Te (HL.kept E) k AT;simp only[fg]at he;obtain⟨rfl,_,rfl⟩:=he;(have BA:(x,U y (Z x.ts) z)∈c:=by rw[<-AR];exact fj AT);have BT:=Aa H5 _ BA;have FW:JI w 0 (x,U y (Z x.ts) z):=(HL.each _ BA).1;have s:kt (IK b ((c.take (k+1)).map kE)=IK b ((c.take k).map kE)++if(x.sort==0)=hG then[ES b x] else[]):=by
    show _=_;unfold IK;rw[fm AT,gn,iD,gn,AR]
    congr 1
    simp only[fS,iV,gW,List.filter_nil];split<;>rfl
   have G:=Ab (E.alloc (jj (j1 (Aw (x,U y (Z x.ts) z))) 166));have I:=Ab (fw M (jj (j1 (Aw (x,U y (Z x.ts) z))) 166));(have B:kt (∀p∈a,Dc (wr.alloc (jj (j1 (Aw (x,U y (Z x.ts) z))) 166)) p/\Z p.f.zC<=1000):=λp e=>⟨(P p e).1.kept ((kL [] wr).alloc _),(P p e).2⟩);have C:=Ab (HX x y z _ G BT FW);(have FB:kt (Z (ES b x).zC<=1000):=by show Z (x.ts.map (Bq b))<=1000;rw[fH];exact BT.len);(have Ax:kt (∀g,AI ⟨ES b x,U (V ⟨g,0,Y⟩) (Z x.ts) (Z x.ts)⟩=[O x.an,U (V ⟨g,0,Y⟩) (Z x.ts) (Z x.ts)]):=λg=>rfl);generalize ES b x=FC at s C FB Ax;obtain⟨pl,so,ap,an,d,⟨lv,KS⟩,⟨rv,K7⟩⟩:=x;simp only[Aw]at G I B C s Ax d0 d1 d2 d3 d4 d5 d6 d7 d8;clear AR BA BT FW M P;(have K4:N<=wr.heap.size:=by have:=E.size;have:=Aa S;omega);clear E;by_cases T:so=0
   ·(have B9:(so==0)=hG:=by simp[T]);rw[B9,fF rfl]at s;clear T;(go_wp2_with fail);refine C.mono ?_;rintro _ u ⟨j,rfl,FO,Q⟩;have F:=Ad I Q;(have CC:kt (∀p∈a,Dc u p/\Z p.f.zC<=1000):=λp e=>⟨(B p e).1.kept Q,(B p e).2⟩);have CL:=Ab (G.trans Q);have HF:=Ab FO;(have JJ:N<=u.heap.size:=by have:=CL.size;have:=Aa S;omega);clear C I B G Q FO d0 d1 d2 d3 d4 d5 d6 d7 d8;go_wp2_with (at_builtin;refine fO _ rfl (.tmp 17) (.tmp 22) _ rfl N 56 i0 _ 2 40 underlying43 H8 H3 Ix H7 rfl (by omega) (U A (Z a) v) (Z a) (a.flatMap AI) rfl (fw F _) ⟨u.heap.size,0,Y⟩ 1 1 [O an,U (V ⟨j,0,Y⟩) (Z d) (Z d)] rfl rfl (fM (fX u _)) (by simp[Value.oneCell']) (by omega) (by unfold maxLen;omega) (by omega) (by simp;omega) (u.heap.size+1) (by simp) ?_;intro g1 FP w9 HH L HW H1)
    have AB:kt ((a++[DF.mk FC (U (V ⟨j,0,Y⟩) (Z d) (Z d))]).map DF.f=IK b ((c.take (k+1)).map kE)):=by
     show _=_;rw[Aa s,gn,Aa H];rfl
    have HZ:kt (kw w9 N 56 2 (U (V ⟨g1,0,Y⟩) (Z (a++[DF.mk FC (U (V ⟨j,0,Y⟩) (Z d) (Z d))])) FP) (Z (a++[DF.mk FC (U (V ⟨j,0,Y⟩) (Z d) (Z d))])) ((a++[DF.mk FC (U (V ⟨j,0,Y⟩) (Z d) (Z d))]).flatMap AI)):=by
     rw[fR];simp only[fE,fD,gh,gE,fN,gI,gd,Aa Ax];exact HH
    have H2:kt (∀p∈a++[DF.mk FC (U (V ⟨j,0,Y⟩) (Z d) (Z d))],Dc w9 p/\Z p.f.zC<=1000):=by
     intro p e;rcases fA.1 e with h|h
     .exact⟨Dc.grown ((CC p h).1.kept ((kL [] u).alloc _)) (fw F _) L,(CC p h).2⟩
     .simp only[ft]at h;subst h;exact⟨Dc.grown (HF.kept ((kL [] u).alloc _)) (fw F _) L,FB⟩
    have H6:=Ab ((CL.alloc (jj #[O an,U (V ⟨j,0,Y⟩) (Z d) (Z d)] 56)).grown L (λq hq=>kp (by have:=(F.lt q hq).1;have:=Aa S;omega)));clear HH L HW H1 F CC CL HF s H
    go_roundg (Z c-(k+1))
    case measure=>have:=Aa HG;omega
    case rel=>exact⟨k+1,a++[DF.mk FC (U (V ⟨j,0,Y⟩) (Z d) (Z d))],V ⟨g1,0,Y⟩,FP,by simp,by go_num,by omega,rfl,by simp;omega,AB,HZ,H2,H6⟩
   ·(have B9:(so==0)=K:=by simp[T]);rw[B9,fB (by simp),gd]at s;(have AB:kt (a.map DF.f=IK b ((c.take (k+1)).map kE)):=by show _=_;rw[Aa s];exact H);clear T s H C;go_wp2
    go_roundg (Z c-(k+1))
    case measure=>have:=Aa HG;omega
    case rel=>exact⟨k+1,a,A,v,rfl,by go_num,by omega,rfl,by omega,AB,I,B,G⟩
  .have IS:kt (a.map DF.f=R):=by
    have h:=Aa H;rw[fo (by omega),Aa HR]at h;exact h
   go_wp2;go_ret;exact⟨A,v,a,rfl,IS,⟨Al M (fP _),P⟩,by rw[Aa S];exact M,E⟩
