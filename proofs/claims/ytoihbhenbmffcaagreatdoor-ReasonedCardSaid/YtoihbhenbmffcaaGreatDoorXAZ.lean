import Derived.Test.YtoihbhenbmffcaaGreatDoorXAW
import Derived.Test.YtoihbhenbmffcaaGreatDoorXAQ
set_option linter.all false
set_option maxHeartbeats 0
open List renaming length->Z
open ByteArray renaming empty->pF
open Prod renaming fst->pH
namespace Go.Proofs.YtoihbhenbmffcaaGreatDoor
open Go.RowKit Go.Proofs.Tryz
variable{g:UInt8}{f:pM Af}{e:pM zA}{c:pM A4}{s:zA}
structure ZX(body:pM Br)(s:pM Af):Prop where
 lits:∀x∈body,Db x
 safe:∀x∈body,∀t∈Bu x,E8 body t
 fit:ZH s body
 canon:∀f∈s,AL f
def Bf(body:pM Br):pM UInt8:=Dz [] (body.flatMap Bu)
def FI(vs:pM UInt8)(e:pM zA):pM zA:=vs.map (Nk e)
def VG(a:pM Br):(Bf a).Nodup:=(Es (a.flatMap Bu) [] nG).2.1
def Jn{b:pM Br}:g∈Bf b↔g≠0/\∃x∈b,∃t∈Bu x,t.v=g:=by
 unfold Bf;rw[(Es (b.flatMap Bu) [] nG).2.2];constructor
 .rintro (h|⟨h,t,a,e⟩)
  .cases h
  .obtain⟨x,c,a⟩:=ma.1 a;exact⟨h,x,c,t,a,e⟩
 .rintro ⟨h,x,c,t,a,e⟩;exact Or.inr ⟨h,t,ma.2 ⟨x,c,a⟩,e⟩
def ZX.zK{a:pM Br}(h:ZX a f):∀x∈a,Ma x:=λx b=>(h.lits x b).yh
def ZX.vars{b:pM Br}(h:ZX b f):∀v∈Bf b,Ew v/\∃x∈b,(x.kind==97)=true/\∃u∈x.A.args,u.v=v:=by
 intro v g;obtain⟨c,x,e,t,d,rfl⟩:=Jn.1 g;refine⟨?_,?_⟩
 .rcases h.zK x e t d with a|a
  .exact absurd a.1 c
  .exact a
 .rcases h.safe x e t d with a|a
  .exact absurd a c
  .exact a
def ZX.al{a:pM Br}(h:ZX a f):∀v e,∀t∈Jc a f v e,A8 t:=λv e t b=>Jg h.canon h.fit v e t ((Fk a f v e t).1 b)
def ZX.args{a:pM Br}{s:pM Af}(h:ZX a s):∀x∈a,(x.kind==97)=true->∀t∈x.A.args,BC t:=by
 intro x d b t c;refine h.zK x d t ?_;unfold Bu;rw[ln (by rw[b];rfl)];exact c
def ZX.facts{a:pM Br}{s:pM Af}(h:ZX a s):∀f∈s,Ig f:=λf b=>(h.canon f b).zK
def QI{a:pM Br}(h:ZX a f){b:pM zA}(r:b∈Aw (Jc a f) a f (Bf a) Bk):∃e∈Bt a f,FI (Bf a) e=FI (Bf a) b:=by
 obtain⟨z,m,_,q⟩:=BQ (λv e t c=>(h.al v e t c).size) (Bf a) Bk b rfl (λv k=>(h.vars v k).1) r;have p:∀x∈a,Cg (Bm (Jl b)) (Ed (Jl b)) f x=true:=by
  intro x g;have w:DK b (Bu x)=true:=by
   unfold DK;rw[mC];intro t c;have y:(AI b t).size≠0:=by
    by_cases d:t.v=0
    .rcases h.zK x g t c with i|i
     .unfold AI;rw[ln d];exact i.2
     .rw[d]at i;exact absurd i.1 (by decide)
    .rw[EF d];exact q _ (Jn.2 ⟨d,x,g,t,c,rfl⟩)
   cases hE:U4 (AI b t)with
   |false=>rfl
   |true=>exact absurd ((D5 _).1 hE) y
  have i:Cg (Aq b) (AI b) f x=true:=by
   unfold Eg at m;have:=(mU.1 m) x g;rw[w,mR]at this;simpa using this
  rw[<-Iq (e:=b) (σ:=Jl b) (λt c=>(GU b t).symm)];exact i
 obtain⟨e,o,k⟩:=PH h.facts h.args (Jl b) p (λx g n=>by
  have j:=h.safe x g
  unfold Bu at j
  refine⟨λl t c=>j t ?_,λl=>?_⟩
  .rw[ln (by rw[l];simp)];exact c
  .rw[li (by rw[n,l];simp)]at j
   exact⟨j _ (by simp),j _ (by simp)⟩)
 refine⟨e,o,?_⟩;unfold FI;refine mu (λv u=>?_);obtain⟨d,x,g,t,c,rfl⟩:=Jn.1 u;rw[<-EF d,<-EF d,k t (h.safe x g t c),GU]
def Uf{a:pM Br}(h:ZX a f)(g:e∈Bt a f):∃b∈Aw (Jc a f) a f (Bf a) Bk,FI (Bf a) b=FI (Bf a) e:=by
 have k:=Hj h.facts h.args g;have c:∀x∈a,Cg (Bm (Jl e)) (Ed (Jl e)) f x=true:=by
  intro x l;rw[<-Iq (e:=e) (σ:=Jl e) (λt m=>(GU e t).symm)];exact k x l
 obtain⟨b,j,_,d,_⟩:=Hg h.zK (S6 (Fk a f) h.zK) c (Bf a) Bk (Ef.start _) h.vars;refine⟨b,j,?_⟩;unfold FI;refine mu (λv i=>?_);rw[d v i];rfl
def ZX.zx{a:pM Br}(h:ZX a f){b:pM zA}(j:b∈Aw (Jc a f) a f (Bf a) Bk):∀v∈Bf a,A8 (Nk b v):=by
 intro v c;obtain⟨n,_,_,l⟩:=BQ (λv e t i=>(h.al v e t i).size) (Bf a) Bk b rfl (λv c=>(h.vars v c).1) j;have k:=Fy h.al (Bf a) Bk Di.start b j;obtain⟨o,x,p,t,i,rfl⟩:=Jn.1 c;have d:=l _ c;have m:=(h.vars _ c).1;unfold Nk at d⊢;have g:t.v.toNat-65<Z b:=by have:=m.2;omega
 rw[lq,lc g]at d⊢;rcases k.2 _ (kV g)with h1|h1
 .exact absurd h1 d
 .exact h1
def Ns{k:UInt8->pM zA->pM zA}{p:pM Br}{s:pM Af}(o:∀v e,(k v e).Pairwise jR)(f:∀v e,∀t∈k v e,A8 t):
  ∀(c:pM UInt8) (e:pM zA),Z e=26->c.Nodup->(∀v∈c,Ew v)->(Aw k p s c e).Pairwise λa b=>Ei (FI c a) (FI c b)=true
 |[],e,he,_,_=>by
  rw[Aw];split
  .exact List.Pairwise.nil
  .exact List.pairwise_singleton _ _
 |v::c,e,he,hn,hv=>by
  rw[Aw];split
  .exact List.Pairwise.nil
  .have r:=hv v (by simp);rw[nh]at hn;have l:∀t,∀b∈Aw k p s c (e.set (v.toNat-65) t),FI (v::c) b=t::FI c b:=by
    intro t b i;obtain⟨_,_,y,_⟩:=BQ (λv e t d=>(f v e t d).size) c (e.set (v.toNat-65) t) b (by simp[he]) (λu g=>hv u (by simp[g])) i;unfold FI;rw[lE,y v r hn.1,Lo he r]
   rw[List.pairwise_flatMap];refine⟨λt d=>?_,?_⟩
   .refine(Ns o f c (e.set (v.toNat-65) t) (by simp[he]) hn.2 (λu g=>hv u (by simp[g]))).imp_of_mem ?_;intro a b m i h;rw[l t a m,l t b i,Ei,ln (by simp)];exact h
   .refine(o v e).imp_of_mem ?_;intro t u d g j a m b i;rw[l t a m,l u b i,Ei,li,<-Ip (f v e t d) (f v e u g)]
    .exact j
    .intro n;rw[EH]at n;subst n;unfold jR FQ at j;rw[Ip (f v e t d) (f v e t d)]at j;have z:=Uv (a:=⟨pF,[t]⟩) (by intro x q;rw[kY]at q;subst q;exact f v e _ d);have w:=Oh (AE t) (AE t);rw[Ip (f v e t d) (f v e t d),(Bw (AE t) (AE t)).2 rfl]at w;exact absurd (w.2 j) (by decide)
def Ln(vs:pM UInt8)(e:pM zA):Af:=⟨pF,FI vs e⟩
def FM(vs:pM UInt8)(s:pM Af)(es:pM (pM zA)):pM Af:=es.foldl (λs e=>A3 s (Ln vs e)) s
def Kb(a:pM UInt8):∀(b:pM (pM zA)) (s:pM Af),(∀e∈b,AL (Ln a e))->Eb s->(∀f∈s,AL f)->Eb (FM a s b)/\(∀f∈FM a s b,AL f)/\∀g,g∈FM a s b↔g∈s\/∃e∈b,g=Ln a e
 |[],s,_,hs,hc=>⟨hs,hc,λg=>by simp[FM]⟩
 |e::b,s,he,hs,hc=>by
  obtain⟨l,k,m⟩:=CZ (he e (by simp)) hs hc;obtain⟨j,i,n⟩:=Kb a b (A3 s (Ln a e)) (λd c=>he d (by simp[c])) l k;refine⟨j,i,λg=>?_⟩;show g∈FM a (A3 s (Ln a e)) b↔_;rw[n,m];constructor
  .rintro ((h|h)|⟨d,c,h⟩)
   .exact Or.inl h
   .exact Or.inr ⟨e,by simp,h⟩
   .exact Or.inr ⟨d,by simp[c],h⟩
  .rintro (h|⟨d,c,h⟩)
   .exact Or.inl (Or.inl h)
   .rcases kZ.1 c with rfl|c
    .exact Or.inl (Or.inr h)
    .exact Or.inr ⟨d,c,h⟩
def ZX.zy{a:pM Br}(h:ZX a f)(g:e∈Bt a f):AL (Ln (Bf a) e):=by
 obtain⟨b,j,i⟩:=Uf h g;intro x k;have c:x∈FI (Bf a) b:=by rw[i];exact k
 obtain⟨v,d,rfl⟩:=lk.1 c;exact h.zx j v d
def WJ{c:pM Br}{s:pM Af}(h:ZX c s):FM (Bf c) [] (Bt c s)=(Aw (Jc c s) c s (Bf c) Bk).map (Ln (Bf c)):=by
 obtain⟨o,n,r⟩:=Kb (Bf c) (Bt c s) [] (λe d=>h.zy d) List.Pairwise.nil (λf j=>by cases j);refine Tu o ?_ n ?_ ?_
 .unfold Eb;rw[nD];refine(Ns (λv e=>NK (λt q=>Jg h.canon h.fit v e t q)) h.al (Bf c) Bk rfl (VG c) (λv k=>(h.vars v k).1)).imp ?_;intro a b p;unfold CW Ln;rw[ln (by simp)];exact p
 .intro f j;obtain⟨b,i,rfl⟩:=lk.1 j;intro x w;obtain⟨v,k,rfl⟩:=lk.1 w;exact h.zx i v k
 .intro g;rw[r];constructor
  .rintro (m|⟨e,d,rfl⟩)
   .cases m
   .obtain⟨b,i,l⟩:=Uf h d;exact lk.2 ⟨b,i,by unfold Ln;rw[l]⟩
  .intro u;obtain⟨b,i,rfl⟩:=lk.1 u;obtain⟨e,d,l⟩:=QI h i;exact Or.inr ⟨e,d,by unfold Ln;rw[l]⟩
def Kl:zA->Bool->pM UInt8->pM zA->zA
 |t,b,v::vs,x::xs=>Kl ((if b then t++⟨#[32]⟩else t)++⟨#[v]⟩++⟨#[61]⟩++x) true vs xs
 |t,_,_,_=>t
def FK(vs:pM UInt8):zA->pM (pM zA)->zA
 |t,[]=>t
 |t,r::l=>FK vs (Kl t false vs r++⟨#[10]⟩) l
def Te{a:pM Ba}(h:KP c a=(0,0)):(∀p∈a,P5 c p=false)/\DR F0 a<0:=by
 unfold KP at h;cases hf:a.find? (P5 c)with
 |some p=>rw[hf]at h;simp at h
 |none=>
  rw[hf]at h;simp only at h;refine⟨λp b=>?_,?_⟩
  .rw[m7]at hf;have:=hf p b;simpa using this
  .by_cases d:0<=DR F0 a
   .rw[ln d]at h;simp at h
   .omega
def MX(p:Ba):Bu p.1=AA p:=rfl
def R5{b:pM A4}{a:pM Ba}{s:pM Af}(j:Cf b)(k:∀f∈s,D0 b f)(q:KP b a=(0,0))(v:∀x∈a.map pH,Db x):ZX (a.map pH) s:=by
 obtain⟨r,l⟩:=Te q;refine⟨v,λx g t m=>?_,λf d x g o y=>?_,λf d=>(k f d).canon j.prog.zL⟩
 .obtain⟨p,e,rfl⟩:=lk.1 g;have w:=(OE l).2 p e t (by rw[<-MX];exact m);exact GK (c:=⟨F0,.slice none 0 0,.slice none 0 0,a,0⟩) w
 .obtain⟨p,e,rfl⟩:=lk.1 g;obtain⟨c,A,z,u⟩:=(k f d).zb;have i:=j.order.zs c A;rw[<-z,y]at i;have n:=r p e;rcases MC b p i rfl with⟨h,_⟩|⟨_,h⟩
  .rw[n]at h;cases h
  .rcases h with h|⟨_,⟨_,_,h,_⟩|⟨h,_⟩⟩
   .unfold MF at h;rw[o]at h;cases h
   .rw[u];omega
   .omega
def Pv{a:pM Ba}(e:KP c a=(0,0)):∀p∈a,Z (AA p)<=2:=by
 intro p b;have d:=(Te e).1 p b;unfold AA;cases hi:MF p with
 |false=>simp
 |true=>
  rw[ln rfl];rcases MC c p rfl rfl with⟨h,_⟩|⟨_,h⟩
  .rw[d]at h;cases h
  .rcases h with h|⟨_,⟨_,_,_,h⟩|⟨_,_,_,h⟩⟩
   .rw[hi]at h;cases h
   .omega
   .omega
def Qu{a:pM Ba}(d:KP c a=(0,0))(h:Z a<=3):Z (Bf (a.map pH))<=6:=by
 unfold Bf;have f:=Xi ((a.map pH).flatMap Bu) [];have e:=Q5 Bu 2 (a.map pH) (λx g=>by
  obtain⟨p,b,rfl⟩:=lk.1 g
  rw[MX]
  exact Pv d p b)
 rw[lm]at e;rw[lO,me]at f;omega
def Y3{a:pM A4}(h:Dj a):Z (D1 a)<=6:=by
 cases a with
 |nil=>exact lz _
 |cons c l=>
  have b:=(FV (h.each (Z l) (by simp))).2.2.2.2.1;rw[kX (by simp)]at b;exact b
def SC{a:pM A4}(h:s∈consts a):s∈D1 a:=by
 rw[(Nm a).mem,(EQ _).2];unfold consts at h;obtain⟨c,f,g⟩:=ma.1 h;obtain⟨t,e,rfl⟩:=lk.1 g;obtain⟨d,b⟩:=lK.1 e;refine ma.2 ⟨c,f,lk.2 ⟨t,lK.2 ⟨?_,b⟩,rfl⟩⟩;unfold GY;exact nY _ d
def My{b:pM Br}{s:pM Af}(n:∀f∈s,D0 c f)(h:ZX b s)(k:e∈Bt b s):∀v∈Bf b,Nk e v∈consts c:=by
 intro v d;obtain⟨_,x,o,i,u,m,g⟩:=h.vars v d;have l:=(Jn.1 d).1;have a:=Hj h.facts h.args k x o;unfold Cg at a;rw[ln i]at a;have j:=(n _ ((BK _ _).1 a)).args;rw[<-g,<-EF (by rw[g];exact l)];exact j _ (lB m)
def WE{a:pM Br}{s:pM Af}(p:Cf c)(u:∀f∈s,D0 c f)(h:ZX a s)(z:Z (Bf a)<=6)(b:pM (pM zA))(i:∀e∈b,e∈Bt a s):Z (FM (Bf a) [] b)<=46656:=by
 obtain⟨n,j,t⟩:=Kb (Bf a) b [] (λe d=>h.zy (i e d)) List.Pairwise.nil (λf q=>by cases q);have y:=n.nodup j;have o:=Ia (FM (Bf a) [] b) ((I3 (D1 c) (Z (Bf a))).map (Af.mk pF)) y (λg l=>by
  rcases(t g).1 l with m|⟨e,d,rfl⟩
  .cases m
  .refine lk.2 ⟨FI (Bf a) e,?_,rfl⟩
   have r:Z (FI (Bf a) e)=Z (Bf a):=by unfold FI;rw[lm]
   rw[<-r]
   refine OS _ _ (λx w=>?_)
   obtain⟨v,A,rfl⟩:=lk.1 w
   exact SC (My u h (i e d) v A))
 rw[lm,MP]at o;have k:=Y3 p.order;have B:Z (D1 c)^Z (Bf a)<=6^6:=mp (Nat.pow_le_pow_left k _) (Nat.pow_le_pow_right (by decide) z);have:(6:Nat)^6=46656:=by decide
 omega
