import Derived.Test.YtoihbhenbmffcaaGreatDoorYAF
import Derived.Test.YtoihbhenbmffcaaGreatDoorYAT
set_option linter.all false
set_option maxHeartbeats 0
namespace Go.Proofs.YtoihbhenbmffcaaGreatDoor
open Go.RowKit Go.Proofs.Tryz
theorem Bq(a b:cR):Dy a b=0↔a=b:=by
 unfold Dy;constructor
 .intro h;cases h1:Op.bytesLess a.toList b.toList with
  |true=>rw[h1]at h;simp at h
  |false=>
   cases h2:Op.bytesLess b.toList a.toList with
   |true=>rw[h1,h2]at h;simp at h
   |false=>
    cases h3:(a.toList==b.toList)with
    |true=>exact toList_inj (by simpa using h3)
    |false=>rw[Pv _ _ h1 h3]at h2;cases h2
 .intro h;rw[h,Nc];rfl
theorem LR(a b:cR):Dy a b<0↔Op.bytesLess a.toList b.toList=true:=by
 unfold Dy;cases h1:Op.bytesLess a.toList b.toList with
 |true=>simp
 |false=>
  cases h2:Op.bytesLess b.toList a.toList with
  |true=>simp
  |false=>simp
theorem V4(a b:cR):0<Dy a b↔Dy b a<0:=by
 rw[LR];unfold Dy;cases h1:Op.bytesLess a.toList b.toList with
 |true=>
  cases h2:Op.bytesLess b.toList a.toList with
  |false=>simp
  |true=>
   have:=Lu _ _ _ h1 h2;rw[Nc]at this;cases this
 |false=>
  cases h2:Op.bytesLess b.toList a.toList with
  |true=>simp
  |false=>simp
theorem NT{a b c:cR}(d:Dy a b<0)(e:Dy b c<0):Dy a c<0:=by
 rw[LR]at*;exact Lu _ _ _ d e
theorem QZ:∀(l m:List cR),D0 l m=0↔l=m
 |[],[]=>by simp[D0]
 |[],_::_=>by simp[D0]
 |_::_,[]=>by simp[D0]
 |x::l,y::m=>by
  rw[D0];by_cases h:Dy x y=0
  .rw[if_pos h,QZ l m,(Bq x y).1 h];simp
  .rw[if_neg h];constructor
   .intro a;exact absurd a h
   .intro a;exact absurd ((Bq x y).2 (List.cons.inj a).1) h
theorem Wb:∀(l m:List cR),0<D0 l m↔D0 m l<0
 |[],[]=>by simp[D0]
 |[],_::_=>by simp[D0]
 |_::_,[]=>by simp[D0]
 |x::l,y::m=>by
  rw[D0,D0];by_cases h:Dy x y=0
  .have a:Dy y x=0:=(Bq _ _).2 ((Bq _ _).1 h).symm;rw[if_pos h,if_pos a];exact Wb l m
  ·(have a:¬Dy y x=0:=λb=>h ((Bq _ _).2 ((Bq _ _).1 b).symm));rw[if_neg h,if_neg a];exact V4 x y
theorem NI:∀{l m k:List cR},D0 l m<0->D0 m k<0->D0 l k<0
 |[],[],_,h,_=>by simp[D0]at h
 |[],_::_,[],_,h=>by simp[D0]at h
 |[],_::_,_::_,_,_=>by simp[D0]
 |_::_,[],_,h,_=>by simp[D0]at h
 |_::_,_::_,[],_,h=>by simp[D0]at h
 |x::l,y::m,z::k,h1,h2=>by
  rw[D0]at h1 h2⊢;by_cases b:Dy x y=0
  .rw[if_pos b]at h1;rw[(Bq x y).1 b];by_cases a:Dy y z=0
   .rw[if_pos a]at h2⊢;exact NI h1 h2
   .rw[if_neg a]at h2⊢;exact h2
  .rw[if_neg b]at h1;by_cases a:Dy y z=0
   .rw[<-(Bq y z).1 a,if_neg b];exact h1
   .rw[if_neg a]at h2;have c:=NT h1 h2;rw[if_neg (by omega)];exact c
theorem FG(a b:Ev):Cc a b=0↔a=b:=by
 obtain⟨d,f⟩:=a;obtain⟨e,g⟩:=b;unfold Cc;simp only;by_cases h:Dy d e=0
 .rw[if_pos h,QZ,(Bq _ _).1 h];simp
 .rw[if_neg h];constructor
  .intro c;exact absurd c h
  .intro c;simp only[Ev.mk.injEq]at c;exact absurd ((Bq _ _).2 c.1) h
theorem VZ(a b:Ev):0<Cc a b↔Cc b a<0:=by
 unfold Cc;by_cases h:Dy a.name b.name=0
 .have c:Dy b.name a.name=0:=(Bq _ _).2 ((Bq _ _).1 h).symm;rw[if_pos h,if_pos c];exact Wb _ _
 .have c:¬Dy b.name a.name=0:=λd=>h ((Bq _ _).2 ((Bq _ _).1 d).symm)
  rw[if_neg h,if_neg c];exact V4 _ _
theorem GL{a b c:Ev}(f:Cc a b<0)(d:Cc b c<0):Cc a c<0:=by
 unfold Cc at*;by_cases g:Dy a.name b.name=0
 .rw[if_pos g]at f;rw[(Bq _ _).1 g];by_cases e:Dy b.name c.name=0
  .rw[if_pos e]at d⊢;exact NI f d
  .rw[if_neg e]at d⊢;exact d
 .rw[if_neg g]at f;by_cases e:Dy b.name c.name=0
  .rw[<-(Bq _ _).1 e,if_neg g];exact f
  .rw[if_neg e]at d;have h:=NT f d;rw[if_neg (by omega)];exact h
def Df(f:Ah):Ev:=⟨f.name,f.args.map Aw⟩
def A4(f:Ah):Prop:=∀x∈f.args,AX x
theorem O9{a b:Ah}(i:A4 a)(k:A4 b)(h:Df a=Df b):a=b:=by
 obtain⟨p,o⟩:=a;obtain⟨q,n⟩:=b;simp only[Df,Ev.mk.injEq]at h;obtain⟨j,g⟩:=h;subst j
 congr 1
 have f:∀(l m:List cR),(∀x∈l,AX x)->(∀x∈m,AX x)->l.map Aw=m.map Aw->l=m:=by
  intro l
  induction l with
  |nil=>intro m _ _ h;cases m with|nil=>rfl|cons y m=>simp at h
  |cons x l ih=>
   intro m e d h;cases m with
   |nil=>simp at h
   |cons y m=>
    simp only[cu,eS]at h;rw[Fv (e x (by simp)) (d y (by simp)) h.1,ih m (λz c=>e z (by simp[c])) (λz c=>d z (by simp[c])) h.2]
 exact f o n i k g
theorem OL:∀(l m:List cR),(∀x∈l,AX x)->(∀x∈m,AX x)->(Dr l m=true↔D0 (l.map Aw) (m.map Aw)<0)
 |[],[],_,_=>by simp[Dr,D0]
 |[],_::_,_,_=>by simp[Dr,D0]
 |_::_,[],_,_=>by simp[Dr,D0]
 |x::l,y::m,hl,hm=>by
  rw[Dr,cu,cu,D0];by_cases h:x=y
  .subst h;rw[if_pos (by simp),if_pos ((Bq _ _).2 rfl)];exact OL l m (λz b=>hl z (by simp[b])) (λz b=>hm z (by simp[b]))
  ·(have c:¬(x.toList==y.toList)=true:=λa=>h (toList_inj (by simpa using a)));(have d:¬Dy (Aw x) (Aw y)=0:=λa=>h (Fv (hl x (by simp)) (hm y (by simp)) ((Bq _ _).1 a)));rw[if_neg c,if_neg d,LR,GG (hl x (by simp)) (hm y (by simp))]
theorem Do{a b:Ah}(e:A4 a)(f:A4 b):Db a b=true↔Cc (Df a) (Df b)<0:=by
 unfold Db Cc Df;simp only;by_cases h:a.name=b.name
 .rw[if_pos (by rw[h];simp),if_pos ((Bq _ _).2 h)];exact OL _ _ e f
 .have d:¬(a.name.toList==b.name.toList)=true:=λc=>h (toList_inj (by simpa using c))
  rw[if_neg d,if_neg (λc=>h ((Bq _ _).1 c)),LR]
theorem IF{α:Type}{lt:α->α->Prop}(e:∀a,¬lt a a)(f:∀a b c,lt a b->lt b c->lt a c):∀(l m:List α),l.Pairwise lt->m.Pairwise lt->(∀x,x∈l↔x∈m)->l=m
 |[],[],_,_,_=>rfl
 |[],y::m,_,_,h=>by have:=(h y).2 (by simp);simp at this
 |x::l,[],_,_,h=>by have:=(h x).1 (by simp);simp at this
 |x::l,y::m,hl,hm,h=>by
  rw[dA]at hl hm;have g:x=y:=by
   rcases bS.1 ((h x).1 (by simp))with h1|h1
   .exact h1
   .rcases bS.1 ((h y).2 (by simp))with h2|h2
    .exact h2.symm
    .exact absurd (f _ _ _ (hl.1 y h2) (hm.1 x h1)) (e x)
  subst g
  congr 1
  refine IF e f l m hl.2 hm.2 (λz=>?_);constructor
  .intro d;rcases bS.1 ((h z).1 (by simp[d]))with h1|h1
   .subst h1;exact absurd (hl.1 z d) (e z)
   .exact h1
  .intro d;rcases bS.1 ((h z).2 (by simp[d]))with h1|h1
   .subst h1;exact absurd (hm.1 z d) (e z)
   .exact h1
def Pk(x:CF):List CF->List CF
 |[]=>[x]
 |y::m=>if Db x.f y.f then x::y::m else y::Pk x m
theorem Ov(x:CF):∀(l a:List CF),l.foldl (FU x) (a,true)=(a++l,true)
 |[],a=>by simp
 |y::l,a=>by
  rw[cC];have:FU x (a,true) y=(a++[y],true):=by simp[FU]
  rw[this,Ov x l];simp
theorem To(x:CF):∀(l a:List CF),(if(l.foldl (FU x) (a,false)).2 then(l.foldl (FU x) (a,false)).1 else(l.foldl (FU x) (a,false)).1++[x])=a++Pk x l
 |[],a=>by simp[Pk]
 |y::l,a=>by
  rw[cC,Pk];cases h:Db x.f y.f with
  |true=>
   (have:FU x (a,false) y=(a++[x]++[y],true):=by simp[FU,h]);rw[this,Ov];simp
  |false=>
   (have:FU x (a,false) y=(a++[y],false):=by simp[FU,h]);rw[this,To x l];simp
theorem VJ(l:List CF)(x:CF):Nr l x=Pk x l:=by
 have h:=To x l [];rw[dm]at h;exact h
def FX(l:List CF):Prop:=l.Pairwise λa b=>Db a.f b.f=true
theorem Sz{a b c:Ah}(d:A4 a)(g:A4 b)(h:A4 c)(f:Db a b=true)(e:Db b c=true):Db a c=true:=by
 rw[Do d g]at f;rw[Do g h]at e;rw[Do d h];exact GL f e
theorem Xp{a b:Ah}(c:A4 a)(d:A4 b)(e:Db a b=false)(f:a≠b):Db b a=true:=by
 rw[Do d c];have g:¬Cc (Df a) (Df b)<0:=λh=>by rw[(Do c d).2 h]at e;cases e
 have i:¬Cc (Df a) (Df b)=0:=λh=>f (O9 c d ((FG _ _).1 h))
 exact(VZ _ _).1 (by omega)
theorem QX{a:Ah}(b:A4 a):Db a a=false:=by
 cases h:Db a a with
 |false=>rfl
 |true=>
  rw[Do b b,(FG _ _).2 rfl]at h;omega
theorem Ij(x p:CF):∀(l:List CF),p∈Pk x l↔p=x\/p∈l
 |[]=>by simp[Pk]
 |y::l=>by
  rw[Pk];split
  .simp
  .rw[bS,Ij x p l,bS];exact⟨λh=>by rcases h with h|h|h;exact Or.inr (Or.inl h);exact Or.inl h;exact Or.inr (Or.inr h),λh=>by rcases h with h|h|h;exact Or.inr (Or.inl h);exact Or.inl h;exact Or.inr (Or.inr h)⟩
theorem MO{x:CF}(b:A4 x.f):∀{l:List CF},FX l->(∀p∈l,A4 p.f)->(∀p∈l,p.f≠x.f)->FX (Pk x l)
 |[],_,_,_=>by simp[Pk,FX]
 |y::l,h,hc,hne=>by
  unfold FX at h;rw[dA]at h;have c:=hc y (by simp);rw[Pk];cases ha:Db x.f y.f with
  |true=>
   rw[if_pos rfl];unfold FX;rw[dA];refine⟨λp a=>?_,dA.2 h⟩;rcases bS.1 a with rfl|a
   .exact ha
   .exact Sz b c (hc p (by simp[a])) ha (h.1 p a)
  |false=>
   rw[if_neg (by simp)];unfold FX;rw[dA];refine⟨λp a=>?_,MO b h.2 (λp a=>hc p (by simp[a])) (λp a=>hne p (by simp[a]))⟩;rcases(Ij x p l).1 a with rfl|a
   .exact Xp b c ha (λe=>hne y (by simp) e.symm)
   .exact h.1 p a
theorem UZ{l:List CF}{x:CF}(e:A4 x.f)(d:FX l)(c:∀p∈l,A4 p.f):FX (GW l x)/\(∀p∈GW l x,A4 p.f)/\∀g,(∃p∈GW l x,p.f=g)↔(∃p∈l,p.f=g)\/g=x.f:=by
 unfold GW
 cases h:TJ l x.f with
 |true=>
  rw[if_pos rfl];refine⟨d,c,λg=>⟨Or.inl,λb=>?_⟩⟩;rcases b with b|b
  .exact b
  .unfold TJ at h;rw[dp]at h;obtain⟨p,a,k⟩:=h;exact⟨p,a,by rw[b];exact(JV _ _).1 k⟩
 |false=>
  rw[if_neg (by simp),VJ];have j:∀p∈l,p.f≠x.f:=by
   intro p a i;unfold TJ at h;rw[dy]at h;exact h p a ((JV _ _).2 i)
  refine⟨MO e d c j,λp a=>?_,λg=>?_⟩
  .rcases(Ij x p l).1 a with rfl|a
   .exact e
   .exact c p a
  .constructor
   .rintro ⟨p,a,rfl⟩;rcases(Ij x p l).1 a with rfl|a
    .exact Or.inr rfl
    .exact Or.inl ⟨p,a,rfl⟩
   .rintro (⟨p,a,rfl⟩|rfl)
    .exact⟨p,(Ij x p l).2 (Or.inr a),rfl⟩
    .exact⟨x,(Ij x x l).2 (Or.inl rfl),rfl⟩
