import Derived.Test.YtoihbhenbmffcaaGreatDoorYAG
import Derived.Test.YtoihbhenbmffcaaGreatDoorYAU
set_option linter.all false
set_option maxHeartbeats 0
open Bool renaming false->K,true->jj
open Or renaming inl->j5,inr->j6
open Go.Op renaming bytesLess->jP
namespace Go.Proofs.YtoihbhenbmffcaaGreatDoor
open Go.RowKit Go.Proofs.Tryz
def Bu(a b:g0):DM a b=0↔a=b:=by
 unfold DM;constructor
 .intro h;cases h1:jP a.toList b.toList with
  |true=>rw[h1]at h;simp at h
  |false=>
   cases h2:jP b.toList a.toList with
   |true=>rw[h1,h2]at h;simp at h
   |false=>
    cases h3:(a.toList==b.toList)with
    |true=>exact toList_inj (by simpa using h3)
    |false=>rw[Qd _ _ h1 h3]at h2;cases h2
 .intro h;rw[h,N0];rfl
def Ou(a b:g0):DM a b<0↔jP a.toList b.toList=jj:=by
 unfold DM;cases h1:jP a.toList b.toList with
 |true=>simp
 |false=>
  cases h2:jP b.toList a.toList with
  |true=>simp
  |false=>simp
def Xd(a b:g0):0<DM a b↔DM b a<0:=by
 rw[Ou];unfold DM;cases h1:jP a.toList b.toList with
 |true=>
  cases h2:jP b.toList a.toList with
  |false=>simp
  |true=>
   have:=L2 _ _ _ h1 h2;rw[N0]at this;cases this
 |false=>
  cases h2:jP b.toList a.toList with
  |true=>simp
  |false=>simp
def OF{a b c:g0}(d:DM a b<0)(e:DM b c<0):DM a c<0:=by
 rw[Ou]at*;exact L2 _ _ _ d e
def RM:∀(l m:List g0),Ef l m=0↔l=m
 |[],[]=>by simp[Ef]
 |[],_::_=>by simp[Ef]
 |_::_,[]=>by simp[Ef]
 |x::l,y::m=>by
  rw[Ef];by_cases h:DM x y=0
  .rw[eI h,RM l m,(Bu x y).1 h];simp
  .rw[eE h];constructor
   .intro a;exact absurd a h
   .intro a;exact absurd ((Bu x y).2 (List.cons.inj a).1) h
def Xi:∀(l m:List g0),0<Ef l m↔Ef m l<0
 |[],[]=>by simp[Ef]
 |[],_::_=>by simp[Ef]
 |_::_,[]=>by simp[Ef]
 |x::l,y::m=>by
  rw[Ef,Ef];by_cases h:DM x y=0
  .have a:DM y x=0:=(Bu _ _).2 ((Bu _ _).1 h).symm;rw[eI h,eI a];exact Xi l m
  ·(have a:¬DM y x=0:=λb=>h ((Bu _ _).2 ((Bu _ _).1 b).symm));rw[eE h,eE a];exact Xd x y
def Oy:∀{l m k:List g0},Ef l m<0->Ef m k<0->Ef l k<0
 |[],[],_,h,_=>by simp[Ef]at h
 |[],_::_,[],_,h=>by simp[Ef]at h
 |[],_::_,_::_,_,_=>by simp[Ef]
 |_::_,[],_,h,_=>by simp[Ef]at h
 |_::_,_::_,[],_,h=>by simp[Ef]at h
 |x::l,y::m,z::k,h1,h2=>by
  rw[Ef]at h1 h2⊢;by_cases b:DM x y=0
  .rw[eI b]at h1;rw[(Bu x y).1 b];by_cases a:DM y z=0
   .rw[eI a]at h2⊢;exact Oy h1 h2
   .rw[eE a]at h2⊢;exact h2
  .rw[eE b]at h1;by_cases a:DM y z=0
   .rw[<-(Bu y z).1 a,eE b];exact h1
   .rw[eE a]at h2;have c:=OF h1 h2;rw[eE (by omega)];exact c
def FN(a b:CV):Cx a b=0↔a=b:=by
 obtain⟨d,f⟩:=a;obtain⟨e,g⟩:=b;unfold Cx;simp only;by_cases h:DM d e=0
 .rw[eI h,RM,(Bu _ _).1 h];simp
 .rw[eE h];constructor
  .intro c;exact absurd c h
  .intro c;simp only[CV.mk.injEq]at c;exact absurd ((Bu _ _).2 c.1) h
def W6(a b:CV):0<Cx a b↔Cx b a<0:=by
 unfold Cx;by_cases h:DM a.name b.name=0
 .have c:DM b.name a.name=0:=(Bu _ _).2 ((Bu _ _).1 h).symm;rw[eI h,eI c];exact Xi _ _
 .have c:¬DM b.name a.name=0:=λd=>h ((Bu _ _).2 ((Bu _ _).1 d).symm)
  rw[eE h,eE c];exact Xd _ _
def GY{a b c:CV}(f:Cx a b<0)(d:Cx b c<0):Cx a c<0:=by
 unfold Cx at*;by_cases g:DM a.name b.name=0
 .rw[eI g]at f;rw[(Bu _ _).1 g];by_cases e:DM b.name c.name=0
  .rw[eI e]at d⊢;exact Oy f d
  .rw[eE e]at d⊢;exact d
 .rw[eE g]at f;by_cases e:DM b.name c.name=0
  .rw[<-(Bu _ _).1 e,eE g];exact f
  .rw[eE e]at d;have h:=OF f d;rw[eE (by omega)];exact h
def BJ(f:Af):CV:=⟨f.name,f.args.map AA⟩
def AM(f:Af):Prop:=∀x∈f.args,A3 x
def Mg{a b:Af}(i:AM a)(k:AM b)(h:BJ a=BJ b):a=b:=by
 obtain⟨p,o⟩:=a;obtain⟨q,n⟩:=b;simp only[BJ,CV.mk.injEq]at h;obtain⟨j,g⟩:=h;subst j
 congr 1
 have f:∀(l m:List g0),(∀x∈l,A3 x)->(∀x∈m,A3 x)->l.map AA=m.map AA->l=m:=by
  intro l
  induction l with
  |nil=>intro m _ _ h;cases m with|nil=>rfl|cons y m=>simp at h
  |cons x l ih=>
   intro m e d h;cases m with
   |nil=>simp at h
   |cons y m=>
    simp only[eR,gW]at h;rw[FE (e x (by simp)) (d y (by simp)) h.1,ih m (λz c=>e z (by simp[c])) (λz c=>d z (by simp[c])) h.2]
 exact f o n i k g
def Ps:∀(l m:List g0),(∀x∈l,A3 x)->(∀x∈m,A3 x)->(Ep l m=jj↔Ef (l.map AA) (m.map AA)<0)
 |[],[],_,_=>by simp[Ep,Ef]
 |[],_::_,_,_=>by simp[Ep,Ef]
 |_::_,[],_,_=>by simp[Ep,Ef]
 |x::l,y::m,hl,hm=>by
  rw[Ep,eR,eR,Ef];by_cases h:x=y
  .subst h;rw[eI (by simp),eI ((Bu _ _).2 rfl)];exact Ps l m (λz b=>hl z (by simp[b])) (λz b=>hm z (by simp[b]))
  ·(have c:¬(x.toList==y.toList)=jj:=λa=>h (toList_inj (by simpa using a)));(have d:¬DM (AA x) (AA y)=0:=λa=>h (FE (hl x (by simp)) (hm y (by simp)) ((Bu _ _).1 a)));rw[eE c,eE d,Ou,Pa (hl x (by simp)) (hm y (by simp))]
def DB{a b:Af}(e:AM a)(f:AM b):DI a b=jj↔Cx (BJ a) (BJ b)<0:=by
 unfold DI Cx BJ;simp only;by_cases h:a.name=b.name
 .rw[eI (by rw[h];simp),eI ((Bu _ _).2 h)];exact Ps _ _ e f
 .have d:¬(a.name.toList==b.name.toList)=jj:=λc=>h (toList_inj (by simpa using c))
  rw[eE d,eE (λc=>h ((Bu _ _).1 c)),Ou]
def I3{α:Type}{lt:α->α->Prop}(e:∀a,¬lt a a)(f:∀a b c,lt a b->lt b c->lt a c):∀(l m:List α),l.Pairwise lt->m.Pairwise lt->(∀x,x∈l↔x∈m)->l=m
 |[],[],_,_,_=>rfl
 |[],y::m,_,_,h=>by have:=(h y).2 (by simp);simp at this
 |x::l,[],_,_,h=>by have:=(h x).1 (by simp);simp at this
 |x::l,y::m,hl,hm,h=>by
  rw[gE]at hl hm;have g:x=y:=by
   rcases ey.1 ((h x).1 (by simp))with h1|h1
   .exact h1
   .rcases ey.1 ((h y).2 (by simp))with h2|h2
    .exact h2.symm
    .exact absurd (f _ _ _ (hl.1 y h2) (hm.1 x h1)) (e x)
  subst g
  congr 1
  refine I3 e f l m hl.2 hm.2 (λz=>?_);constructor
  .intro d;rcases ey.1 ((h z).1 (by simp[d]))with h1|h1
   .subst h1;exact absurd (hl.1 z d) (e z)
   .exact h1
  .intro d;rcases ey.1 ((h z).2 (by simp[d]))with h1|h1
   .subst h1;exact absurd (hm.1 z d) (e z)
   .exact h1
def P2(x:B5):List B5->List B5
 |[]=>[x]
 |y::m=>if DI x.f y.f then x::y::m else y::P2 x m
def Pc(x:B5):∀(l a:List B5),l.foldl (F5 x) (a,jj)=(a++l,jj)
 |[],a=>by simp
 |y::l,a=>by
  rw[fd];have:F5 x (a,jj) y=(a++[y],jj):=by simp[F5]
  rw[this,Pc x l];simp
def Um(x:B5):∀(l a:List B5),(if(l.foldl (F5 x) (a,K)).2 then(l.foldl (F5 x) (a,K)).1 else(l.foldl (F5 x) (a,K)).1++[x])=a++P2 x l
 |[],a=>by simp[P2]
 |y::l,a=>by
  rw[fd,P2];cases h:DI x.f y.f with
  |true=>
   (have:F5 x (a,K) y=(a++[x]++[y],jj):=by simp[F5,h]);rw[this,Pc];simp
  |false=>
   (have:F5 x (a,K) y=(a++[y],K):=by simp[F5,h]);rw[this,Um x l];simp
def WO(l:List B5)(x:B5):Of l x=P2 x l:=by
 have h:=Um x l [];rw[gd]at h;exact h
def F8(l:List B5):Prop:=l.Pairwise λa b=>DI a.f b.f=jj
def Ts{a b c:Af}(d:AM a)(g:AM b)(h:AM c)(f:DI a b=jj)(e:DI b c=jj):DI a c=jj:=by
 rw[DB d g]at f;rw[DB g h]at e;rw[DB d h];exact GY f e
def YA{a b:Af}(c:AM a)(d:AM b)(e:DI a b=K)(f:a≠b):DI b a=jj:=by
 rw[DB d c];have g:¬Cx (BJ a) (BJ b)<0:=λh=>by rw[(DB c d).2 h]at e;cases e
 have i:¬Cx (BJ a) (BJ b)=0:=λh=>f (Mg c d ((FN _ _).1 h))
 exact(W6 _ _).1 (by omega)
def YW{a:Af}(b:AM a):DI a a=K:=by
 cases h:DI a a with
 |false=>rfl
 |true=>
  rw[DB b b,(FN _ _).2 rfl]at h;omega
def Iy(x p:B5):∀(l:List B5),p∈P2 x l↔p=x\/p∈l
 |[]=>by simp[P2]
 |y::l=>by
  rw[P2];split
  .simp
  .rw[ey,Iy x p l,ey];exact⟨λh=>by rcases h with h|h|h;exact j6 (j5 h);exact j5 h;exact j6 (j6 h),λh=>by rcases h with h|h|h;exact j6 (j5 h);exact j5 h;exact j6 (j6 h)⟩
def ND{x:B5}(b:AM x.f):∀{l:List B5},F8 l->(∀p∈l,AM p.f)->(∀p∈l,p.f≠x.f)->F8 (P2 x l)
 |[],_,_,_=>by simp[P2,F8]
 |y::l,h,hc,hne=>by
  unfold F8 at h;rw[gE]at h;have c:=hc y (by simp);rw[P2];cases ha:DI x.f y.f with
  |true=>
   rw[eI rfl];unfold F8;rw[gE];refine⟨λp a=>?_,gE.2 h⟩;rcases ey.1 a with rfl|a
   .exact ha
   .exact Ts b c (hc p (by simp[a])) ha (h.1 p a)
  |false=>
   rw[eE (by simp)];unfold F8;rw[gE];refine⟨λp a=>?_,ND b h.2 (λp a=>hc p (by simp[a])) (λp a=>hne p (by simp[a]))⟩;rcases(Iy x p l).1 a with rfl|a
   .exact YA b c ha (λe=>hne y (by simp) e.symm)
   .exact h.1 p a
def VY{l:List B5}{x:B5}(e:AM x.f)(d:F8 l)(c:∀p∈l,AM p.f):F8 (Fx l x)/\(∀p∈Fx l x,AM p.f)/\∀g,(∃p∈Fx l x,p.f=g)↔(∃p∈l,p.f=g)\/g=x.f:=by
 unfold Fx
 cases h:UD l x.f with
 |true=>
  rw[eI rfl];refine⟨d,c,λg=>⟨j5,λb=>?_⟩⟩;rcases b with b|b
  .exact b
  .unfold UD at h;rw[fW]at h;obtain⟨p,a,k⟩:=h;exact⟨p,a,by rw[b];exact(Ik _ _).1 k⟩
 |false=>
  rw[eE (by simp),WO];have j:∀p∈l,p.f≠x.f:=by
   intro p a i;unfold UD at h;rw[gC]at h;exact h p a ((Ik _ _).2 i)
  refine⟨ND e d c j,λp a=>?_,λg=>?_⟩
  .rcases(Iy x p l).1 a with rfl|a
   .exact e
   .exact c p a
  .constructor
   .rintro ⟨p,a,rfl⟩;rcases(Iy x p l).1 a with rfl|a
    .exact j6 rfl
    .exact j5 ⟨p,a,rfl⟩
   .rintro (⟨p,a,rfl⟩|rfl)
    .exact⟨p,(Iy x p l).2 (j6 a),rfl⟩
    .exact⟨x,(Iy x x l).2 (j5 rfl),rfl⟩
