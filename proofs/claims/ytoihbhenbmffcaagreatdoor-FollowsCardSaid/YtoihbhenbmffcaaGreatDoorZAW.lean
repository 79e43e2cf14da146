import Derived.Test.YtoihbhenbmffcaaGreatDoorZAH
import Derived.Test.YtoihbhenbmffcaaGreatDoorZAV
set_option linter.unusedVariables false
set_option linter.unusedSimpArgs false
set_option maxHeartbeats 6400000
namespace Go.Proofs.YtoihbhenbmffcaaGreatDoor
open Go.RowKit
open Go.Proofs.Tryz
theorem Bo(a b:cL):Dm a b=0↔a=b:=by
 unfold Dm;constructor
 ·intro h;cases h1:Op.bytesLess a.toList b.toList with
  |true=>rw[h1]at h;simp at h
  |false=>
   cases h2:Op.bytesLess b.toList a.toList with
   |true=>rw[h1,h2]at h;simp at h
   |false=>
    cases h3:(a.toList==b.toList)with
    |true=>exact toList_inj (by simpa using h3)
    |false=>rw[OJ _ _ h1 h3]at h2;cases h2
 ·intro h;rw[h,Ms];rfl
theorem MU(a b:cL):Dm a b<0↔Op.bytesLess a.toList b.toList=true:=by
 unfold Dm;cases h1:Op.bytesLess a.toList b.toList with
 |true=>simp
 |false=>
  cases h2:Op.bytesLess b.toList a.toList with
  |true=>simp
  |false=>simp
theorem U0(a b:cL):0<Dm a b↔Dm b a<0:=by
 rw[MU];unfold Dm;cases h1:Op.bytesLess a.toList b.toList with
 |true=>
  cases h2:Op.bytesLess b.toList a.toList with
  |false=>simp
  |true=>
   have:=KD _ _ _ h1 h2;rw[Ms]at this;cases this
 |false=>
  cases h2:Op.bytesLess b.toList a.toList with
  |true=>simp
  |false=>simp
theorem M9{a b c:cL}(d:Dm a b<0)(e:Dm b c<0):Dm a c<0:=by
 rw[MU]at*;exact KD _ _ _ d e
theorem PZ:∀(l m:List cL),DO l m=0↔l=m
 |[],[]=>by simp[DO]
 |[],_::_=>by simp[DO]
 |_::_,[]=>by simp[DO]
 |x::l,y::m=>by
  rw[DO];by_cases h:Dm x y=0
  ·rw[if_pos h,PZ l m,(Bo x y).1 h];simp
  ·rw[if_neg h];constructor
   ·intro a;exact absurd a h
   ·intro a;exact absurd ((Bo x y).2 (List.cons.inj a).1) h
theorem U5:∀(l m:List cL),0<DO l m↔DO m l<0
 |[],[]=>by simp[DO]
 |[],_::_=>by simp[DO]
 |_::_,[]=>by simp[DO]
 |x::l,y::m=>by
  rw[DO,DO];by_cases h:Dm x y=0
  ·have a:Dm y x=0:=(Bo _ _).2 ((Bo _ _).1 h).symm;rw[if_pos h,if_pos a];exact U5 l m
  ·(have a:¬Dm y x=0:=λb=>h ((Bo _ _).2 ((Bo _ _).1 b).symm));rw[if_neg h,if_neg a];exact U0 x y
theorem MZ:∀{l m k:List cL},DO l m<0->DO m k<0->DO l k<0
 |[],[],_,h,_=>by simp[DO]at h
 |[],_::_,[],_,h=>by simp[DO]at h
 |[],_::_,_::_,_,_=>by simp[DO]
 |_::_,[],_,h,_=>by simp[DO]at h
 |_::_,_::_,[],_,h=>by simp[DO]at h
 |x::l,y::m,z::k,h1,h2=>by
  rw[DO]at h1 h2⊢;by_cases b:Dm x y=0
  ·rw[if_pos b]at h1;rw[(Bo x y).1 b];by_cases a:Dm y z=0
   ·rw[if_pos a]at h2⊢;exact MZ h1 h2
   ·rw[if_neg a]at h2⊢;exact h2
  ·rw[if_neg b]at h1;by_cases a:Dm y z=0
   ·rw[<-(Bo y z).1 a,if_neg b];exact h1
   ·rw[if_neg a]at h2;have c:=M9 h1 h2;rw[if_neg (by omega)];exact c
theorem Fk(a b:DB):B6 a b=0↔a=b:=by
 obtain⟨d,f⟩:=a;obtain⟨e,g⟩:=b;unfold B6;simp only;by_cases h:Dm d e=0
 ·rw[if_pos h,PZ,(Bo _ _).1 h];simp
 ·rw[if_neg h];constructor
  ·intro c;exact absurd c h
  ·intro c;simp only[DB.mk.injEq]at c;exact absurd ((Bo _ _).2 c.1) h
theorem UV(a b:DB):0<B6 a b↔B6 b a<0:=by
 unfold B6;by_cases h:Dm a.name b.name=0
 ·have c:Dm b.name a.name=0:=(Bo _ _).2 ((Bo _ _).1 h).symm;rw[if_pos h,if_pos c];exact U5 _ _
 ·have c:¬Dm b.name a.name=0:=λd=>h ((Bo _ _).2 ((Bo _ _).1 d).symm)
  rw[if_neg h,if_neg c];exact U0 _ _
theorem Gv{a b c:DB}(f:B6 a b<0)(d:B6 b c<0):B6 a c<0:=by
 unfold B6 at*;by_cases g:Dm a.name b.name=0
 ·rw[if_pos g]at f;rw[(Bo _ _).1 g];by_cases e:Dm b.name c.name=0
  ·rw[if_pos e]at d⊢;exact MZ f d
  ·rw[if_neg e]at d⊢;exact d
 ·rw[if_neg g]at f;by_cases e:Dm b.name c.name=0
  ·rw[<-(Bo _ _).1 e,if_neg g];exact f
  ·rw[if_neg e]at d;have h:=M9 f d;rw[if_neg (by omega)];exact h
def CK(f:Aj):DB:=⟨f.name,f.args.map Ay⟩
def A6(f:Aj):Prop:=∀x∈f.args,AX x
theorem Oo{a b:Aj}(i:A6 a)(k:A6 b)(h:CK a=CK b):a=b:=by
 obtain⟨p,o⟩:=a;obtain⟨q,n⟩:=b;simp only[CK,DB.mk.injEq]at h;obtain⟨j,g⟩:=h;subst j
 congr 1
 have f:∀(l m:List cL),(∀x∈l,AX x)->(∀x∈m,AX x)->l.map Ay=m.map Ay->l=m:=by
  intro l
  induction l with
  |nil=>intro m _ _ h;cases m with|nil=>rfl|cons y m=>simp at h
  |cons x l ih=>
   intro m e d h;cases m with
   |nil=>simp at h
   |cons y m=>
    simp only[aI,dj]at h;rw[Fa (e x (by simp)) (d y (by simp)) h.1,ih m (λz c=>e z (by simp[c])) (λz c=>d z (by simp[c])) h.2]
 exact f o n i k g
theorem N3:∀(l m:List cL),(∀x∈l,AX x)->(∀x∈m,AX x)->(D1 l m=true↔DO (l.map Ay) (m.map Ay)<0)
 |[],[],_,_=>by simp[D1,DO]
 |[],_::_,_,_=>by simp[D1,DO]
 |_::_,[],_,_=>by simp[D1,DO]
 |x::l,y::m,hl,hm=>by
  rw[D1,aI,aI,DO];by_cases h:x=y
  ·subst h;rw[if_pos (by simp),if_pos ((Bo _ _).2 rfl)];exact N3 l m (λz b=>hl z (by simp[b])) (λz b=>hm z (by simp[b]))
  ·(have c:¬(x.toList==y.toList)=true:=λa=>h (toList_inj (by simpa using a)));(have d:¬Dm (Ay x) (Ay y)=0:=λa=>h (Fa (hl x (by simp)) (hm y (by simp)) ((Bo _ _).1 a)));rw[if_neg c,if_neg d,MU,NC (hl x (by simp)) (hm y (by simp))]
theorem Dc{a b:Aj}(e:A6 a)(f:A6 b):Di a b=true↔B6 (CK a) (CK b)<0:=by
 unfold Di B6 CK;simp only;by_cases h:a.name=b.name
 ·rw[if_pos (by rw[h];simp),if_pos ((Bo _ _).2 h)];exact N3 _ _ e f
 ·have d:¬(a.name.toList==b.name.toList)=true:=λc=>h (toList_inj (by simpa using c))
  rw[if_neg d,if_neg (λc=>h ((Bo _ _).1 c)),MU]
theorem Ig{α:Type}{lt:α->α->Prop}(e:∀a,¬lt a a)(f:∀a b c,lt a b->lt b c->lt a c):∀(l m:List α),l.Pairwise lt->m.Pairwise lt->(∀x,x∈l↔x∈m)->l=m
 |[],[],_,_,_=>rfl
 |[],y::m,_,_,h=>by have:=(h y).2 (by simp);simp at this
 |x::l,[],_,_,h=>by have:=(h x).1 (by simp);simp at this
 |x::l,y::m,hl,hm,h=>by
  rw[bR]at hl hm;have g:x=y:=by
   rcases aj.1 ((h x).1 (by simp))with h1|h1
   ·exact h1
   ·rcases aj.1 ((h y).2 (by simp))with h2|h2
    ·exact h2.symm
    ·exact absurd (f _ _ _ (hl.1 y h2) (hm.1 x h1)) (e x)
  subst g
  congr 1
  refine Ig e f l m hl.2 hm.2 (λz=>?_);constructor
  ·intro d;rcases aj.1 ((h z).1 (by simp[d]))with h1|h1
   ·subst h1;exact absurd (hl.1 z d) (e z)
   ·exact h1
  ·intro d;rcases aj.1 ((h z).2 (by simp[d]))with h1|h1
   ·subst h1;exact absurd (hm.1 z d) (e z)
   ·exact h1
def Oy(x:CM):List CM->List CM
 |[]=>[x]
 |y::m=>if Di x.f y.f then x::y::m else y::Oy x m
theorem NE(x:CM):∀(l a:List CM),l.foldl (Fx x) (a,true)=(a++l,true)
 |[],a=>by simp
 |y::l,a=>by
  rw[aR];have:Fx x (a,true) y=(a++[y],true):=by simp[Fx]
  rw[this,NE x l];simp
theorem Ss(x:CM):∀(l a:List CM),(if(l.foldl (Fx x) (a,false)).2 then(l.foldl (Fx x) (a,false)).1 else(l.foldl (Fx x) (a,false)).1++[x])=a++Oy x l
 |[],a=>by simp[Oy]
 |y::l,a=>by
  rw[aR,Oy];cases h:Di x.f y.f with
  |true=>
   (have:Fx x (a,false) y=(a++[x]++[y],true):=by simp[Fx,h]);rw[this,NE];simp
  |false=>
   (have:Fx x (a,false) y=(a++[y],false):=by simp[Fx,h]);rw[this,Ss x l];simp
theorem UJ(l:List CM)(x:CM):MF l x=Oy x l:=by
 have h:=Ss x l [];rw[bU]at h;exact h
def FB(l:List CM):Prop:=l.Pairwise λa b=>Di a.f b.f=true
theorem RG{a b c:Aj}(d:A6 a)(g:A6 b)(h:A6 c)(f:Di a b=true)(e:Di b c=true):Di a c=true:=by
 rw[Dc d g]at f;rw[Dc g h]at e;rw[Dc d h];exact Gv f e
theorem Wn{a b:Aj}(c:A6 a)(d:A6 b)(e:Di a b=false)(f:a≠b):Di b a=true:=by
 rw[Dc d c];have g:¬B6 (CK a) (CK b)<0:=λh=>by rw[(Dc c d).2 h]at e;cases e
 have i:¬B6 (CK a) (CK b)=0:=λh=>f (Oo c d ((Fk _ _).1 h))
 exact(UV _ _).1 (by omega)
theorem WJ{a:Aj}(b:A6 a):Di a a=false:=by
 cases h:Di a a with
 |false=>rfl
 |true=>
  rw[Dc b b,(Fk _ _).2 rfl]at h;omega
theorem Hk(x p:CM):∀(l:List CM),p∈Oy x l↔p=x\/p∈l
 |[]=>by simp[Oy]
 |y::l=>by
  rw[Oy];split
  ·simp
  ·rw[aj,Hk x p l,aj];exact⟨λh=>by rcases h with h|h|h;exact Or.inr (Or.inl h);exact Or.inl h;exact Or.inr (Or.inr h),λh=>by rcases h with h|h|h;exact Or.inr (Or.inl h);exact Or.inl h;exact Or.inr (Or.inr h)⟩
theorem L6{x:CM}(b:A6 x.f):∀{l:List CM},FB l->(∀p∈l,A6 p.f)->(∀p∈l,p.f≠x.f)->FB (Oy x l)
 |[],_,_,_=>by simp[Oy,FB]
 |y::l,h,hc,hne=>by
  unfold FB at h;rw[bR]at h;have c:=hc y (by simp);rw[Oy];cases ha:Di x.f y.f with
  |true=>
   rw[if_pos rfl];unfold FB;rw[bR];refine⟨λp a=>?_,bR.2 h⟩;rcases aj.1 a with rfl|a
   ·exact ha
   ·exact RG b c (hc p (by simp[a])) ha (h.1 p a)
  |false=>
   rw[if_neg (by simp)];unfold FB;rw[bR];refine⟨λp a=>?_,L6 b h.2 (λp a=>hc p (by simp[a])) (λp a=>hne p (by simp[a]))⟩;rcases(Hk x p l).1 a with rfl|a
   ·exact Wn b c ha (λe=>hne y (by simp) e.symm)
   ·exact h.1 p a
theorem T8{l:List CM}{x:CM}(e:A6 x.f)(d:FB l)(c:∀p∈l,A6 p.f):FB (J0 l x)/\(∀p∈J0 l x,A6 p.f)/\∀g,(∃p∈J0 l x,p.f=g)↔(∃p∈l,p.f=g)\/g=x.f:=by
 unfold J0
 cases h:SN l x.f with
 |true=>
  rw[if_pos rfl];refine⟨d,c,λg=>⟨Or.inl,λb=>?_⟩⟩;rcases b with b|b
  ·exact b
  ·unfold SN at h;rw[bI]at h;obtain⟨p,a,k⟩:=h;exact⟨p,a,by rw[b];exact(Jp _ _).1 k⟩
 |false=>
  rw[if_neg (by simp),UJ];have j:∀p∈l,p.f≠x.f:=by
   intro p a i;unfold SN at h;rw[bW]at h;exact h p a ((Jp _ _).2 i)
  refine⟨L6 e d c j,λp a=>?_,λg=>?_⟩
  ·rcases(Hk x p l).1 a with rfl|a
   ·exact e
   ·exact c p a
  ·constructor
   ·rintro ⟨p,a,rfl⟩;rcases(Hk x p l).1 a with rfl|a
    ·exact Or.inr rfl
    ·exact Or.inl ⟨p,a,rfl⟩
   ·rintro (⟨p,a,rfl⟩|rfl)
    ·exact⟨p,(Hk x p l).2 (Or.inr a),rfl⟩
    ·exact⟨x,(Hk x x l).2 (Or.inl rfl),rfl⟩
