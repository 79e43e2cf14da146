import Derived.Test.YtoihbhenbmffcaaGreatDoorVAW
import Derived.Test.YtoihbhenbmffcaaGreatDoorVAQ
set_option linter.all false
set_option maxHeartbeats 0
open List renaming length->Z
open Or renaming inr->Hf
open ByteArray renaming empty->ND
open Prod renaming fst->O0
namespace Go.Proofs.YtoihbhenbmffcaaGreatDoor
open Go.RowKit Go.Proofs.Tryz
variable{g:UInt8}{f:QC Af}{e:QC bC}{c:QC A7}{s:bC}
structure Zx(body:QC Bp)(s:QC Af):Prop where
 lits:∀x∈body,Dk x
 safe:∀x∈body,∀t∈Bo x,F5 body t
 fit:ZN s body
 canon:∀f∈s,AJ f
def A9(body:QC Bp):QC UInt8:=DG [] (body.flatMap Bo)
def Ex(vs:QC UInt8)(e:QC bC):QC bC:=vs.map (Nc e)
def VG(a:QC Bp):(A9 a).Nodup:=(EE (a.flatMap Bo) [] n6).2.1
def Hv{b:QC Bp}:g∈A9 b↔g≠0/\∃x∈b,∃t∈Bo x,t.v=g:=by
 unfold A9;rw[(EE (b.flatMap Bo) [] n6).2.2];constructor
 .rintro (h|⟨h,t,a,e⟩)
  .cases h
  .obtain⟨x,c,a⟩:=mD.1 a;exact⟨h,x,c,t,a,e⟩
 .rintro ⟨h,x,c,t,a,e⟩;exact Hf ⟨h,t,mD.2 ⟨x,c,a⟩,e⟩
def Zx.cI{a:QC Bp}(h:Zx a f):∀x∈a,L9 x:=λx b=>(h.lits x b).zz
def Zx.vars{b:QC Bp}(h:Zx b f):∀v∈A9 b,EH v/\∃x∈b,(x.kind==97)=true/\∃u∈x.A.args,u.v=v:=by
 intro v g;obtain⟨c,x,e,t,d,rfl⟩:=Hv.1 g;refine⟨?_,?_⟩
 .rcases h.cI x e t d with a|a
  .exact absurd a.1 c
  .exact a
 .rcases h.safe x e t d with a|a
  .exact absurd a c
  .exact a
def Zx.al{a:QC Bp}(h:Zx a f):∀v e,∀t∈Jd a f v e,A6 t:=λv e t b=>Jl h.canon h.fit v e t ((Fr a f v e t).1 b)
def Zx.args{a:QC Bp}{s:QC Af}(h:Zx a s):∀x∈a,(x.kind==97)=true->∀t∈x.A.args,Bs t:=by
 intro x d b t c;refine h.cI x d t ?_;unfold Bo;rw[lS (by rw[b];rfl)];exact c
def Zx.facts{a:QC Bp}{s:QC Af}(h:Zx a s):∀f∈s,IL f:=λf b=>(h.canon f b).cI
def QI{a:QC Bp}(h:Zx a f){b:QC bC}(r:b∈Av (Jd a f) a f (A9 a) Bj):∃e∈Bm a f,Ex (A9 a) e=Ex (A9 a) b:=by
 obtain⟨z,m,_,q⟩:=BV (λv e t c=>(h.al v e t c).size) (A9 a) Bj b rfl (λv k=>(h.vars v k).1) r;have p:∀x∈a,Ce (Bk (Jq b)) (DZ (Jq b)) f x=true:=by
  intro x g;have w:Dh b (Bo x)=true:=by
   unfold Dh;rw[m3];intro t c;have y:(AL b t).size≠0:=by
    by_cases d:t.v=0
    .rcases h.cI x g t c with i|i
     .unfold AL;rw[lS d];exact i.2
     .rw[d]at i;exact absurd i.1 (by decide)
    .rw[EU d];exact q _ (Hv.2 ⟨d,x,g,t,c,rfl⟩)
   cases hE:UJ (AL b t)with
   |false=>rfl
   |true=>exact absurd ((Ed _).1 hE) y
  have i:Ce (Aq b) (AL b) f x=true:=by
   unfold DU at m;have:=(ng.1 m) x g;rw[w,np]at this;simpa using this
  rw[<-Io (e:=b) (σ:=Jq b) (λt c=>(GU b t).symm)];exact i
 obtain⟨e,o,k⟩:=Ld h.facts h.args (Jq b) p (λx g n=>by
  have j:=h.safe x g
  unfold Bo at j
  refine⟨λl t c=>j t ?_,λl=>?_⟩
  .rw[lS (by rw[l];simp)];exact c
  .rw[lO (by rw[n,l];simp)]at j
   exact⟨j _ (by simp),j _ (by simp)⟩)
 refine⟨e,o,?_⟩;unfold Ex;refine mI (λv u=>?_);obtain⟨d,x,g,t,c,rfl⟩:=Hv.1 u;rw[<-EU d,<-EU d,k t (h.safe x g t c),GU]
def Ue{a:QC Bp}(h:Zx a f)(g:e∈Bm a f):∃b∈Av (Jd a f) a f (A9 a) Bj,Ex (A9 a) b=Ex (A9 a) e:=by
 have k:=F3 h.facts h.args g;have c:∀x∈a,Ce (Bk (Jq e)) (DZ (Jq e)) f x=true:=by
  intro x l;rw[<-Io (e:=e) (σ:=Jq e) (λt m=>(GU e t).symm)];exact k x l
 obtain⟨b,j,_,d,_⟩:=Hc h.cI (S5 (Fr a f) h.cI) c (A9 a) Bj (Eo.start _) h.vars;refine⟨b,j,?_⟩;unfold Ex;refine mI (λv i=>?_);rw[d v i];rfl
def Zx.zO{a:QC Bp}(h:Zx a f){b:QC bC}(j:b∈Av (Jd a f) a f (A9 a) Bj):∀v∈A9 a,A6 (Nc b v):=by
 intro v c;obtain⟨n,_,_,l⟩:=BV (λv e t i=>(h.al v e t i).size) (A9 a) Bj b rfl (λv c=>(h.vars v c).1) j;have k:=FM h.al (A9 a) Bj Dr.start b j;obtain⟨o,x,p,t,i,rfl⟩:=Hv.1 c;have d:=l _ c;have m:=(h.vars _ c).1;unfold Nc at d⊢;have g:t.v.toNat-65<Z b:=by have:=m.2;omega
 rw[lT,lN g]at d⊢;rcases k.2 _ (lE g)with h1|h1
 .exact absurd h1 d
 .exact h1
def Nr{k:UInt8->QC bC->QC bC}{p:QC Bp}{s:QC Af}(o:∀v e,(k v e).Pairwise ke)(f:∀v e,∀t∈k v e,A6 t):
  ∀(c:QC UInt8) (e:QC bC),Z e=26->c.Nodup->(∀v∈c,EH v)->(Av k p s c e).Pairwise λa b=>Er (Ex c a) (Ex c b)=true
 |[],e,he,_,_=>by
  rw[Av];split
  .exact List.Pairwise.nil
  .exact List.pairwise_singleton _ _
 |v::c,e,he,hn,hv=>by
  rw[Av];split
  .exact List.Pairwise.nil
  .have r:=hv v (by simp);rw[nL]at hn;have l:∀t,∀b∈Av k p s c (e.set (v.toNat-65) t),Ex (v::c) b=t::Ex c b:=by
    intro t b i;obtain⟨_,_,y,_⟩:=BV (λv e t d=>(f v e t d).size) c (e.set (v.toNat-65) t) b (by simp[he]) (λu g=>hv u (by simp[g])) i;unfold Ex;rw[l9,y v r hn.1,Lm he r]
   rw[List.pairwise_flatMap];refine⟨λt d=>?_,?_⟩
   .refine(Nr o f c (e.set (v.toNat-65) t) (by simp[he]) hn.2 (λu g=>hv u (by simp[g]))).imp_of_mem ?_;intro a b m i h;rw[l t a m,l t b i,Er,lS (by simp)];exact h
   .refine(o v e).imp_of_mem ?_;intro t u d g j a m b i;rw[l t a m,l u b i,Er,lO,<-In (f v e t d) (f v e u g)]
    .exact j
    .intro n;rw[EW]at n;subst n;unfold ke FY at j;rw[In (f v e t d) (f v e t d)]at j;have z:=Uw (a:=⟨ND,[t]⟩) (by intro x q;rw[lG]at q;subst q;exact f v e _ d);have w:=Oh (AD t) (AD t);rw[In (f v e t d) (f v e t d),(By (AD t) (AD t)).2 rfl]at w;exact absurd (w.2 j) (by decide)
def KM(vs:QC UInt8)(e:QC bC):Af:=⟨ND,Ex vs e⟩
def Fw(vs:QC UInt8)(s:QC Af)(es:QC (QC bC)):QC Af:=es.foldl (λs e=>Bb s (KM vs e)) s
def Im(a:QC UInt8):∀(b:QC (QC bC)) (s:QC Af),(∀e∈b,AJ (KM a e))->D1 s->(∀f∈s,AJ f)->D1 (Fw a s b)/\(∀f∈Fw a s b,AJ f)/\∀g,g∈Fw a s b↔g∈s\/∃e∈b,g=KM a e
 |[],s,_,hs,hc=>⟨hs,hc,λg=>by simp[Fw]⟩
 |e::b,s,he,hs,hc=>by
  obtain⟨l,k,m⟩:=C5 (he e (by simp)) hs hc;obtain⟨j,i,n⟩:=Im a b (Bb s (KM a e)) (λd c=>he d (by simp[c])) l k;refine⟨j,i,λg=>?_⟩;show g∈Fw a (Bb s (KM a e)) b↔_;rw[n,m];constructor
  .rintro ((h|h)|⟨d,c,h⟩)
   .exact Or.inl h
   .exact Hf ⟨e,by simp,h⟩
   .exact Hf ⟨d,by simp[c],h⟩
  .rintro (h|⟨d,c,h⟩)
   .exact Or.inl (Or.inl h)
   .rcases lI.1 c with rfl|c
    .exact Or.inl (Hf h)
    .exact Hf ⟨d,c,h⟩
def Zx.zd{a:QC Bp}(h:Zx a f)(g:e∈Bm a f):AJ (KM (A9 a) e):=by
 obtain⟨b,j,i⟩:=Ue h g;intro x k;have c:x∈Ex (A9 a) b:=by rw[i];exact k
 obtain⟨v,d,rfl⟩:=lP.1 c;exact h.zO j v d
def RL{c:QC Bp}{s:QC Af}(h:Zx c s):Fw (A9 c) [] (Bm c s)=(Av (Jd c s) c s (A9 c) Bj).map (KM (A9 c)):=by
 obtain⟨o,n,r⟩:=Im (A9 c) (Bm c s) [] (λe d=>h.zd d) List.Pairwise.nil (λf j=>by cases j);refine OW o ?_ n ?_ ?_
 .unfold D1;rw[nQ];refine(Nr (λv e=>NO (λt q=>Jl h.canon h.fit v e t q)) h.al (A9 c) Bj rfl (VG c) (λv k=>(h.vars v k).1)).imp ?_;intro a b p;unfold CS KM;rw[lS (by simp)];exact p
 .intro f j;obtain⟨b,i,rfl⟩:=lP.1 j;intro x w;obtain⟨v,k,rfl⟩:=lP.1 w;exact h.zO i v k
 .intro g;rw[r];constructor
  .rintro (m|⟨e,d,rfl⟩)
   .cases m
   .obtain⟨b,i,l⟩:=Ue h d;exact lP.2 ⟨b,i,by unfold KM;rw[l]⟩
  .intro u;obtain⟨b,i,rfl⟩:=lP.1 u;obtain⟨e,d,l⟩:=QI h i;exact Hf ⟨e,d,by unfold KM;rw[l]⟩
def jg(v:UInt8)(x:bC):bC:=⟨#[v]⟩++⟨#[61]⟩++x
def I0:bC->Bool->QC UInt8->QC bC->bC
 |t,b,v::vs,x::xs=>I0 ((if b then t++⟨#[32]⟩else t)++⟨#[v]⟩++⟨#[61]⟩++x) true vs xs
 |t,_,_,_=>t
def EJ(vs:QC UInt8):bC->QC (QC bC)->bC
 |t,[]=>t
 |t,r::l=>EJ vs (I0 t false vs r++⟨#[10]⟩) l
def Tf{a:QC Be}(h:I6 c a=(0,0)):(∀p∈a,Ol c p=false)/\DN FH a<0:=by
 unfold I6 at h;cases hf:a.find? (Ol c)with
 |some p=>rw[hf]at h;simp at h
 |none=>
  rw[hf]at h;simp only at h;refine⟨λp b=>?_,?_⟩
  .rw[nB]at hf;have:=hf p b;simpa using this
  .by_cases d:0<=DN FH a
   .rw[lS d]at h;simp at h
   .omega
def MW(p:Be):Bo p.1=AE p:=rfl
def Ob{a:QC A7}{bl:QC Be}{s:QC Af}(i:Cp a)(j:∀f∈s,DV a f)(o:I6 a bl=(0,0))(u:∀x∈bl.map O0,Dk x):Zx (bl.map O0) s:=by
 obtain⟨q,k⟩:=Tf o;refine⟨u,λx e t l=>?_,λf b x e n w=>?_,λf b=>(j f b).canon i.prog.cU⟩
 .obtain⟨p,d,rfl⟩:=lP.1 e;have v:=(OI k).2 p d t (by rw[<-MW];exact l);exact GK (c:=⟨FH,.slice none 0 0,.slice none 0 0,bl,0⟩) v
 .obtain⟨p,d,rfl⟩:=lP.1 e;obtain⟨c,z,y,r⟩:=(j f b).zB;have g:=i.order.zK c z;rw[<-y,w]at g;have m:=q p d;rcases MC a p g rfl with⟨h,_⟩|⟨_,h⟩
  .rw[m]at h;cases h
  .rcases h with h|⟨_,⟨_,_,h,_⟩|⟨h,_⟩⟩
   .unfold Nf at h;rw[n]at h;cases h
   .rw[r];omega
   .omega
def PE{a:QC Be}(e:I6 c a=(0,0)):∀p∈a,Z (AE p)<=2:=by
 intro p b;have d:=(Tf e).1 p b;unfold AE;cases hi:Nf p with
 |false=>simp
 |true=>
  rw[lS rfl];rcases MC c p rfl rfl with⟨h,_⟩|⟨_,h⟩
  .rw[d]at h;cases h
  .rcases h with h|⟨_,⟨_,_,_,h⟩|⟨_,_,_,h⟩⟩
   .rw[hi]at h;cases h
   .omega
   .omega
def Qu{a:QC Be}(d:I6 c a=(0,0))(h:Z a<=3):Z (A9 (a.map O0))<=6:=by
 unfold A9;have f:=Xl ((a.map O0).flatMap Bo) [];have e:=Q7 Bo 2 (a.map O0) (λx g=>by
  obtain⟨p,b,rfl⟩:=lP.1 g
  rw[MW]
  exact PE d p b)
 rw[lR]at e;rw[mn,mC]at f;omega
def Y9{a:QC A7}(h:Ds a):Z (D9 a)<=6:=by
 cases a with
 |nil=>exact lW _
 |cons c l=>
  have b:=(Ee (h.each (Z l) (by simp))).2.2.2.2.1;rw[lH (by simp)]at b;exact b
def SC{a:QC A7}(h:s∈consts a):s∈D9 a:=by
 rw[(Nl a).mem,(EF _).2];unfold consts at h;obtain⟨c,f,g⟩:=mD.1 h;obtain⟨t,e,rfl⟩:=lP.1 g;obtain⟨d,b⟩:=mh.1 e;refine mD.2 ⟨c,f,lP.2 ⟨t,mh.2 ⟨?_,b⟩,rfl⟩⟩;unfold GY;exact oE _ d
def Mx{b:QC Bp}{s:QC Af}(n:∀f∈s,DV c f)(h:Zx b s)(k:e∈Bm b s):∀v∈A9 b,Nc e v∈consts c:=by
 intro v d;obtain⟨_,x,o,i,u,m,g⟩:=h.vars v d;have l:=(Hv.1 d).1;have a:=F3 h.facts h.args k x o;unfold Ce at a;rw[lS i]at a;have j:=(n _ ((B3 _ _).1 a)).args;rw[<-g,<-EU (by rw[g];exact l)];exact j _ (lZ m)
def WE{a:QC Bp}{s:QC Af}(p:Cp c)(u:∀f∈s,DV c f)(h:Zx a s)(z:Z (A9 a)<=6)(b:QC (QC bC))(i:∀e∈b,e∈Bm a s):Z (Fw (A9 a) [] b)<=46656:=by
 obtain⟨n,j,t⟩:=Im (A9 a) b [] (λe d=>h.zd (i e d)) List.Pairwise.nil (λf q=>by cases q);have y:=n.nodup j;have o:=Kl (Fw (A9 a) [] b) ((I8 (D9 c) (Z (A9 a))).map (Af.mk ND)) y (λg l=>by
  rcases(t g).1 l with m|⟨e,d,rfl⟩
  .cases m
  .refine lP.2 ⟨Ex (A9 a) e,?_,rfl⟩
   have r:Z (Ex (A9 a) e)=Z (A9 a):=by unfold Ex;rw[lR]
   rw[<-r]
   refine OU _ _ (λx w=>?_)
   obtain⟨v,A,rfl⟩:=lP.1 w
   exact SC (Mx u h (i e d) v A))
 rw[lR,MO]at o;have k:=Y9 p.order;have B:Z (D9 c)^Z (A9 a)<=6^6:=mM (Nat.pow_le_pow_left k _) (Nat.pow_le_pow_right (by decide) z);have:(6:Nat)^6=46656:=by decide
 omega
def Ve(v:UInt8):AF:=⟨v,ND⟩
def Vz(nm:bC)(vs:QC UInt8):C8:=⟨nm,vs.map Ve,0⟩
def QW(nm:bC)(vs:QC UInt8):Bp:=⟨97,Vz nm vs,Cl,Cl,0⟩
def XY(vs:QC UInt8):Prop:=vs=[88]\/vs=[88,89]
def XY.ok{a:QC UInt8}(h:XY a):∀v∈a,v=88\/v=89:=by
 rcases h with rfl|rfl<;>simp
def WO(h:g=88\/g=89):AL e (Ve g)=Nc e g:=by
 unfold AL Ve Nc;rw[lO (by rcases h with rfl|rfl<;>decide)]
def Ti{σ:UInt8->bC}(h:g=88\/g=89):DZ σ (Ve g)=σ g:=by
 unfold DZ Ve;rw[lO (by rcases h with rfl|rfl<;>decide)]
def bK(h:g=88\/g=89):Bs (Ve g):=by
 unfold Bs Ve;rcases h with rfl|rfl<;>simp
def il{a:QC UInt8}(b:XY a)(e:QC bC):Aq e (Vz s a)=⟨s,Ex a e⟩:=by
 unfold Aq Vz Ex;simp only[mJ]
 congr 1
 exact mI λv h=>WO (b.ok v h)
def Ta{a:QC UInt8}(c:XY a):∀x∈[QW s a],(x.kind==97)=true->∀t∈x.A.args,Bs t:=by
 intro x b _ t e;simp only[lG]at b;subst b;obtain⟨v,d,rfl⟩:=lP.1 e;exact bK (c.ok v d)
def aE{u:QC Af}(g:∀f∈u,AJ f){a:QC UInt8}(b:XY a)(d:e∈Bm [QW s a] u):(⟨s,Ex a e⟩:Af)∈u:=by
 have h:=F3 (λf c=>(g f c).cI) (Ta b) d (QW s a) (by simp);unfold Ce at h;rw[lS (by rfl)]at h;rw[<-il b];exact(B3 _ _).1 h
def ev{u:QC Af}(p:∀f∈u,AJ f){nm:bC}{a:QC UInt8}(b:XY a){as_:QC bC}(d:(⟨nm,as_⟩:Af)∈u)(i:Z as_=Z a):∃e∈Bm [QW nm a] u,Ex a e=as_:=by
 obtain⟨σ,g⟩:∃σ:UInt8->bC,a.map σ=as_:=by
  rcases b with rfl|rfl
  .match as_,i with
   |[x],_=>exact⟨λ_=>x,rfl⟩
  .match as_,i with
   |[x,y],_=>exact⟨λv=>if v=88 then x else y,rfl⟩
 have n:Bk σ (Vz nm a)=⟨nm,as_⟩:=by
  unfold Bk Vz;simp only[mJ];rw[<-g]
  congr 1
  exact mI λv h=>Ti (b.ok v h)
 obtain⟨e,m,o⟩:=Ld (λf d=>(p f d).cI) (Ta b) σ (λx c=>by
  simp only[lG]at c
  subst c
  unfold Ce
  rw[lS (by rfl)]
  show CW u (Bk σ (Vz nm a))=true
  rw[n]
  exact(B3 _ _).2 d) (λx c k=>by
  simp only[lG]at c
  subst c
  have l:((97:UInt8)==97)=false:=k
  exact absurd l (by decide))
 refine⟨e,m,?_⟩;rw[<-g];unfold Ex;refine mI λv h=>?_
 have j:=o (Ve v) (Hf ⟨QW nm a,by simp,by rfl,Ve v,lZ h,rfl⟩);rw[WO (b.ok v h),Ti (b.ok v h)]at j;exact j
def aV{u:QC Af}(v:D1 u)(j:∀f∈u,AJ f){nm:bC}{c:QC UInt8}(l:XY c)(p:∀f∈u,f.name=nm->Z f.args=Z c):
  Fw c [] (Bm [QW nm c] u)=(u.filter λf=>f.name.toList==nm.toList).map λf=>⟨ND,f.args⟩:=by
 obtain⟨s,q,w⟩:=Im c (Bm [QW nm c] u) [] (λe i=>λx m=>j _ (aE j l i) x m) List.Pairwise.nil (λf d=>by cases d);refine OW s ?_ q (λf d=>?_) (λg=>?_)
 .unfold D1;rw[nQ];refine nG (fun{a b} ha hb hab=>?_) (v.filter _);have k:=(mh.1 ha).2;have o:=(mh.1 hb).2;simp only[nu]at k o;unfold CS at hab⊢;rw[lS (by rw[k,o];simp)]at hab;rw[lS (by simp)];exact hab
 .obtain⟨g,y,rfl⟩:=lP.1 d;exact λx m=>j g (mh.1 y).1 x m
 .rw[w];constructor
  .rintro (h|⟨e,i,rfl⟩)
   .cases h
   .exact lP.2 ⟨⟨nm,Ex c e⟩,mh.2 ⟨aE j l i,by simp⟩,rfl⟩
  .intro h;obtain⟨f,d,rfl⟩:=lP.1 h;obtain⟨n,t⟩:=mh.1 d;have e:f.name=nm:=toList_inj (by simpa using t);obtain⟨k,i,r⟩:=ev (nm:=nm) j l (as_:=f.args) (by rw[<-e];exact n) (p f n e);exact Hf ⟨k,i,by unfold KM;rw[r]⟩
def d9{a:QC UInt8}(l:XY a){f:Af}(d:Z f.args=Z a)(t:bC):I0 t false a f.args++⟨#[10]⟩=fX t f:=by
 obtain⟨n,b⟩:=f;have h:(⟨#[10]⟩:bC).toList=[10]:=by rw[ma]
 have e:(⟨#[88,61]⟩:bC).toList=[88,61]:=by rw[ma]
 have k:(⟨#[32,89,61]⟩:bC).toList=[32,89,61]:=by rw[ma]
 have g:(⟨#[88]⟩:bC).toList=[88]:=by rw[ma]
 have j:(⟨#[89]⟩:bC).toList=[89]:=by rw[ma]
 have c:(⟨#[61]⟩:bC).toList=[61]:=by rw[ma]
 have i:(⟨#[32]⟩:bC).toList=[32]:=by rw[ma]
 rcases l with rfl|rfl
 .match b,d with
  |[x],_=>
   apply toList_inj;simp[I0,fX,jg,BH,h,e,k,g,j,c,i]
 .match b,d with
  |[x,y],_=>
   apply toList_inj;simp[I0,fX,jg,BH,h,e,k,g,j,c,i]
def O4{a:bC}{d:QC UInt8}(b:XY d):∀(u:QC Af) (t:bC),(∀f∈u,f.name=a->Z f.args=Z d)->
  EJ d t (((u.filter λf=>f.name.toList==a.toList).map λf=>(⟨ND,f.args⟩:Af)).map Af.args)=IH a t u
 |[],t,_=>rfl
 |f::u,t,h=>by
  rw[IH,nw];cases hb:(f.name.toList==a.toList)with
  |false=>
   rw[lO (by simp),lO (by simp)];exact O4 b u t (λg c=>h g (by simp[c]))
  |true=>
   rw[lS rfl,lS rfl,l9,l9,EJ,d9 b (h f (by simp) (toList_inj (by simpa using hb)))];exact O4 b u _ (λg c=>h g (by simp[c]))
def Pr(k:UInt8)(f:Af)(a:Nat):Bp:=⟨k,⟨f.name,f.args.map (AF.mk 0),a⟩,Cl,Cl,0⟩
def Qy(b:g=97\/g=33)(f:Af)(a:Nat):Bo (Pr g f a)=f.args.map (AF.mk 0):=by
 unfold Bo Pr;rcases b with rfl|rfl<;>rfl
def V8(e:g=97\/g=33)(f:Af)(a:Nat):A9 [Pr g f a]=[]:=by
 refine List.eq_nil_iff_forall_not_mem.2 λv b=>?_
 obtain⟨h,x,d,t,c,b⟩:=Hv.1 b;simp only[lG]at d;subst d;rw[Qy e]at c;obtain⟨y,_,rfl⟩:=lP.1 c;exact h b.symm
def VB(f:Af)(k:UInt8)(a:Nat):Aq Bj (Pr k f a).A=f:=by
 unfold Aq Pr;simp only[mJ];have:(AL Bj∘AF.mk 0)=id:=by funext x;rfl
 rw[this,List.map_id]
def US(b:g=97\/g=33){f:Af}(m:AJ f)(a:Nat)(u:QC Af):DU [Pr g f a] u Bj=if g=97 then !CW u f else CW u f:=by
 have l:Dh Bj (Bo (Pr g f a))=true:=by
  rw[Qy b];unfold Dh;rw[m3];intro t j;obtain⟨y,i,rfl⟩:=lP.1 j;have c:=(m y i).size;have e:AL Bj ⟨0,y⟩=y:=rfl;rw[e];unfold UJ;rw[AP]at c;simp;exact λh=>c (by rw[h];rfl)
 have d:Ce (Aq Bj) (AL Bj) u (Pr g f a)=if g=97 then CW u f else !CW u f:=by
  unfold Ce;rw[VB];rcases b with rfl|rfl<;>rfl
 unfold DU;simp only[oF,List.any_nil,l,d];rcases b with rfl|rfl<;>simp
def Wl(b:g=97\/g=33){f:Af}(d:AJ f)(a:Nat)(u:QC Af)(c:UInt8->QC bC->QC bC):
  EJ (A9 [Pr g f a]) ND ((Av c [Pr g f a] u (A9 [Pr g f a]) Bj).map (Ex (A9 [Pr g f a])))=if(if g=97 then CW u f else !CW u f)=true then⟨#[10]⟩else ND:=by
 rw[V8 b,Av,US b d];have e:(ND++⟨#[10]⟩:bC)=⟨#[10]⟩:=by
  apply toList_inj;rw[BH];have:ByteArray.empty.toList=[]:=by rw[ma];rfl
  rw[this,mR]
 rcases b with rfl|rfl<;>cases CW u f<;>simp[EJ,I0,Ex,e]
