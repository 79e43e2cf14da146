import Derived.Test.YtoihbhenbmffcaaGreatDoorYAF
import Derived.Test.YtoihbhenbmffcaaGreatDoorYAS
set_option linter.all false
set_option maxHeartbeats 0
open Bool renaming false->K,true->j1
open Or renaming inl->lx,inr->ly
open Go.Op renaming bytesLess->lZ
namespace Go.Proofs.YtoihbhenbmffcaaGreatDoor
open Go.RowKit Go.Proofs.Tryz
def By(a b:zA):DU a b=0↔a=b:=by
 unfold DU;constructor
 .intro h;cases h1:lZ a.toList b.toList with
  |true=>rw[h1]at h;simp at h
  |false=>
   cases h2:lZ b.toList a.toList with
   |true=>rw[h1,h2]at h;simp at h
   |false=>
    cases h3:(a.toList==b.toList)with
    |true=>exact toList_inj (by simpa using h3)
    |false=>rw[QU _ _ h1 h3]at h2;cases h2
 .intro h;rw[h,Ou];rfl
def MG(a b:zA):DU a b<0↔lZ a.toList b.toList=j1:=by
 unfold DU;cases h1:lZ a.toList b.toList with
 |true=>simp
 |false=>
  cases h2:lZ b.toList a.toList with
  |true=>simp
  |false=>simp
def Ym(a b:zA):0<DU a b↔DU b a<0:=by
 rw[MG];unfold DU;cases h1:lZ a.toList b.toList with
 |true=>
  cases h2:lZ b.toList a.toList with
  |false=>simp
  |true=>
   have:=Mn _ _ _ h1 h2;rw[Ou]at this;cases this
 |false=>
  cases h2:lZ b.toList a.toList with
  |true=>simp
  |false=>simp
def O9{a b c:zA}(d:DU a b<0)(e:DU b c<0):DU a c<0:=by
 rw[MG]at*;exact Mn _ _ _ d e
def SM:∀(l m:mc zA),Es l m=0↔l=m
 |[],[]=>by simp[Es]
 |[],_::_=>by simp[Es]
 |_::_,[]=>by simp[Es]
 |x::l,y::m=>by
  rw[Es];by_cases h:DU x y=0
  .rw[gY h,SM l m,(By x y).1 h];simp
  .rw[gV h];constructor
   .intro a;exact absurd a h
   .intro a;exact absurd ((By x y).2 (List.cons.inj a).1) h
def Ys:∀(l m:mc zA),0<Es l m↔Es m l<0
 |[],[]=>by simp[Es]
 |[],_::_=>by simp[Es]
 |_::_,[]=>by simp[Es]
 |x::l,y::m=>by
  rw[Es,Es];by_cases h:DU x y=0
  .have a:DU y x=0:=(By _ _).2 ((By _ _).1 h).symm;rw[gY h,gY a];exact Ys l m
  ·(have a:¬DU y x=0:=λb=>h ((By _ _).2 ((By _ _).1 b).symm));rw[gV h,gV a];exact Ym x y
def O2:∀{l m k:mc zA},Es l m<0->Es m k<0->Es l k<0
 |[],[],_,h,_=>by simp[Es]at h
 |[],_::_,[],_,h=>by simp[Es]at h
 |[],_::_,_::_,_,_=>by simp[Es]
 |_::_,[],_,h,_=>by simp[Es]at h
 |_::_,_::_,[],_,h=>by simp[Es]at h
 |x::l,y::m,z::k,h1,h2=>by
  rw[Es]at h1 h2⊢;by_cases b:DU x y=0
  .rw[gY b]at h1;rw[(By x y).1 b];by_cases a:DU y z=0
   .rw[gY a]at h2⊢;exact O2 h1 h2
   .rw[gV a]at h2⊢;exact h2
  .rw[gV b]at h1;by_cases a:DU y z=0
   .rw[<-(By y z).1 a,gV b];exact h1
   .rw[gV a]at h2;have c:=O9 h1 h2;rw[gV (by omega)];exact c
def F3(a b:CG):Cm a b=0↔a=b:=by
 obtain⟨d,f⟩:=a;obtain⟨e,g⟩:=b;unfold Cm;simp only;by_cases h:DU d e=0
 .rw[gY h,SM,(By _ _).1 h];simp
 .rw[gV h];constructor
  .intro c;exact absurd c h
  .intro c;simp only[CG.mk.injEq]at c;exact absurd ((By _ _).2 c.1) h
def Yh(a b:CG):0<Cm a b↔Cm b a<0:=by
 unfold Cm;by_cases h:DU a.name b.name=0
 .have c:DU b.name a.name=0:=(By _ _).2 ((By _ _).1 h).symm;rw[gY h,gY c];exact Ys _ _
 .have c:¬DU b.name a.name=0:=λd=>h ((By _ _).2 ((By _ _).1 d).symm)
  rw[gV h,gV c];exact Ym _ _
def G9{a b c:CG}(f:Cm a b<0)(d:Cm b c<0):Cm a c<0:=by
 unfold Cm at*;by_cases g:DU a.name b.name=0
 .rw[gY g]at f;rw[(By _ _).1 g];by_cases e:DU b.name c.name=0
  .rw[gY e]at d⊢;exact O2 f d
  .rw[gV e]at d⊢;exact d
 .rw[gV g]at f;by_cases e:DU b.name c.name=0
  .rw[<-(By _ _).1 e,gV g];exact f
  .rw[gV e]at d;have h:=O9 f d;rw[gV (by omega)];exact h
def BN(f:Af):CG:=⟨f.name,f.args.map AA⟩
def AJ(f:Af):Prop:=∀x∈f.args,A3 x
def My{a b:Af}(i:AJ a)(k:AJ b)(h:BN a=BN b):a=b:=by
 obtain⟨p,o⟩:=a;obtain⟨q,n⟩:=b;simp only[BN,CG.mk.injEq]at h;obtain⟨j,g⟩:=h;subst j
 congr 1
 have f:∀(l m:mc zA),(∀x∈l,A3 x)->(∀x∈m,A3 x)->l.map AA=m.map AA->l=m:=by
  intro l
  induction l with
  |nil=>intro m _ _ h;cases m with|nil=>rfl|cons y m=>simp at h
  |cons x l ih=>
   intro m e d h;cases m with
   |nil=>simp at h
   |cons y m=>
    simp only[ii,jB]at h;rw[FQ (e x (by simp)) (d y (by simp)) h.1,ih m (λz c=>e z (by simp[c])) (λz c=>d z (by simp[c])) h.2]
 exact f o n i k g
def P5:∀(l m:mc zA),(∀x∈l,A3 x)->(∀x∈m,A3 x)->(DN l m=j1↔Es (l.map AA) (m.map AA)<0)
 |[],[],_,_=>by simp[DN,Es]
 |[],_::_,_,_=>by simp[DN,Es]
 |_::_,[],_,_=>by simp[DN,Es]
 |x::l,y::m,hl,hm=>by
  rw[DN,ii,ii,Es];by_cases h:x=y
  .subst h;rw[gY (by simp),gY ((By _ _).2 rfl)];exact P5 l m (λz b=>hl z (by simp[b])) (λz b=>hm z (by simp[b]))
  ·(have c:¬(x.toList==y.toList)=j1:=λa=>h (toList_inj (by simpa using a)));(have d:¬DU (AA x) (AA y)=0:=λa=>h (FQ (hl x (by simp)) (hm y (by simp)) ((By _ _).1 a)));rw[gV c,gV d,MG,G5 (hl x (by simp)) (hm y (by simp))]
def DI{a b:Af}(e:AJ a)(f:AJ b):CZ a b=j1↔Cm (BN a) (BN b)<0:=by
 unfold CZ Cm BN;simp only;by_cases h:a.name=b.name
 .rw[gY (by rw[h];simp),gY ((By _ _).2 h)];exact P5 _ _ e f
 .have d:¬(a.name.toList==b.name.toList)=j1:=λc=>h (toList_inj (by simpa using c))
  rw[gV d,gV (λc=>h ((By _ _).1 c)),MG]
def G3{α:Type}{lt:α->α->Prop}(e:∀a,¬lt a a)(f:∀a b c,lt a b->lt b c->lt a c):∀(l m:mc α),l.Pairwise lt->m.Pairwise lt->(∀x,x∈l↔x∈m)->l=m
 |[],[],_,_,_=>rfl
 |[],y::m,_,_,h=>by have:=(h y).2 (by simp);simp at this
 |x::l,[],_,_,h=>by have:=(h x).1 (by simp);simp at this
 |x::l,y::m,hl,hm,h=>by
  rw[jz]at hl hm;have g:x=y:=by
   rcases gP.1 ((h x).1 (by simp))with h1|h1
   .exact h1
   .rcases gP.1 ((h y).2 (by simp))with h2|h2
    .exact h2.symm
    .exact absurd (f _ _ _ (hl.1 y h2) (hm.1 x h1)) (e x)
  subst g
  congr 1
  refine G3 e f l m hl.2 hm.2 (λz=>?_);constructor
  .intro d;rcases gP.1 ((h z).1 (by simp[d]))with h1|h1
   .subst h1;exact absurd (hl.1 z d) (e z)
   .exact h1
  .intro d;rcases gP.1 ((h z).2 (by simp[d]))with h1|h1
   .subst h1;exact absurd (hm.1 z d) (e z)
   .exact h1
def QJ(x:Dr):mc Dr->mc Dr
 |[]=>[x]
 |y::m=>if CZ x.f y.f then x::y::m else y::QJ x m
def PQ(x:Dr):∀(l a:mc Dr),l.foldl (LV x) (a,j1)=(a++l,j1)
 |[],a=>by simp
 |y::l,a=>by
  rw[iA];have:LV x (a,j1) y=(a++[y],j1):=by simp[LV]
  rw[this,PQ x l];simp
def Vu(x:Dr):∀(l a:mc Dr),(if(l.foldl (LV x) (a,K)).2 then(l.foldl (LV x) (a,K)).1 else(l.foldl (LV x) (a,K)).1++[x])=a++QJ x l
 |[],a=>by simp[QJ]
 |y::l,a=>by
  rw[iA,QJ];cases h:CZ x.f y.f with
  |true=>
   (have:LV x (a,K) y=(a++[x]++[y],j1):=by simp[LV,h]);rw[this,PQ];simp
  |false=>
   (have:LV x (a,K) y=(a++[y],K):=by simp[LV,h]);rw[this,Vu x l];simp
def XX(l:mc Dr)(x:Dr):fK l x=QJ x l:=by
 have h:=Vu x l [];rw[i6]at h;exact h
def Gi(l:mc Dr):Prop:=l.Pairwise λa b=>CZ a.f b.f=j1
def Uy{a b c:Af}(d:AJ a)(g:AJ b)(h:AJ c)(f:CZ a b=j1)(e:CZ b c=j1):CZ a c=j1:=by
 rw[DI d g]at f;rw[DI g h]at e;rw[DI d h];exact G9 f e
def ZF{a b:Af}(c:AJ a)(d:AJ b)(e:CZ a b=K)(f:a≠b):CZ b a=j1:=by
 rw[DI d c];have g:¬Cm (BN a) (BN b)<0:=λh=>by rw[(DI c d).2 h]at e;cases e
 have i:¬Cm (BN a) (BN b)=0:=λh=>f (My c d ((F3 _ _).1 h))
 exact(Yh _ _).1 (by omega)
def SK{a:Af}(b:AJ a):CZ a a=K:=by
 cases h:CZ a a with
 |false=>rfl
 |true=>
  rw[DI b b,(F3 _ _).2 rfl]at h;omega
def IQ(x p:Dr):∀(l:mc Dr),p∈QJ x l↔p=x\/p∈l
 |[]=>by simp[QJ]
 |y::l=>by
  rw[QJ];split
  .simp
  .rw[gP,IQ x p l,gP];exact⟨λh=>by rcases h with h|h|h;exact ly (lx h);exact lx h;exact ly (ly h),λh=>by rcases h with h|h|h;exact ly (lx h);exact lx h;exact ly (ly h)⟩
def N9{x:Dr}(b:AJ x.f):∀{l:mc Dr},Gi l->(∀p∈l,AJ p.f)->(∀p∈l,p.f≠x.f)->Gi (QJ x l)
 |[],_,_,_=>by simp[QJ,Gi]
 |y::l,h,hc,hne=>by
  unfold Gi at h;rw[jz]at h;have c:=hc y (by simp);rw[QJ];cases ha:CZ x.f y.f with
  |true=>
   rw[gY rfl];unfold Gi;rw[jz];refine⟨λp a=>?_,jz.2 h⟩;rcases gP.1 a with rfl|a
   .exact ha
   .exact Uy b c (hc p (by simp[a])) ha (h.1 p a)
  |false=>
   rw[gV (by simp)];unfold Gi;rw[jz];refine⟨λp a=>?_,N9 b h.2 (λp a=>hc p (by simp[a])) (λp a=>hne p (by simp[a]))⟩;rcases(IQ x p l).1 a with rfl|a
   .exact ZF b c ha (λe=>hne y (by simp) e.symm)
   .exact h.1 p a
def W7{l:mc Dr}{x:Dr}(e:AJ x.f)(d:Gi l)(c:∀p∈l,AJ p.f):Gi (Re l x)/\(∀p∈Re l x,AJ p.f)/\∀g,(∃p∈Re l x,p.f=g)↔(∃p∈l,p.f=g)\/g=x.f:=by
 unfold Re
 cases h:cq l x.f with
 |true=>
  rw[gY rfl];refine⟨d,c,λg=>⟨lx,λb=>?_⟩⟩;rcases b with b|b
  .exact b
  .unfold cq at h;rw[jg]at h;obtain⟨p,a,k⟩:=h;exact⟨p,a,by rw[b];exact(KI _ _).1 k⟩
 |false=>
  rw[gV (by simp),XX];have j:∀p∈l,p.f≠x.f:=by
   intro p a i;unfold cq at h;rw[ju]at h;exact h p a ((KI _ _).2 i)
  refine⟨N9 e d c j,λp a=>?_,λg=>?_⟩
  .rcases(IQ x p l).1 a with rfl|a
   .exact e
   .exact c p a
  .constructor
   .rintro ⟨p,a,rfl⟩;rcases(IQ x p l).1 a with rfl|a
    .exact ly rfl
    .exact lx ⟨p,a,rfl⟩
   .rintro (⟨p,a,rfl⟩|rfl)
    .exact⟨p,(IQ x p l).2 (ly a),rfl⟩
    .exact⟨x,(IQ x x l).2 (lx rfl),rfl⟩
