import Derived.Test.YtoihbhenbmffcaaGreatDoorTAT
import Derived.Test.YtoihbhenbmffcaaGreatDoorTAP
set_option linter.all false
set_option maxHeartbeats 0
open List renaming length->Z
open ByteArray renaming empty->q9
open Prod renaming fst->qW
namespace Go.Proofs.YtoihbhenbmffcaaGreatDoor
open Go.RowKit Go.Proofs.Tryz
variable{g:UInt8}{f:rc Af}{e:rc zA}{c:rc AV}{s:zA}
structure aK(body:rc Bw)(s:rc Af):Prop where
 lits:∀x∈body,Dz x
 safe:∀x∈body,∀t∈BC x,Gl body t
 fit:au s body
 canon:∀f∈s,AL f
def Bf(body:rc Bw):rc UInt8:=DR [] (body.flatMap BC)
def Gc(vs:rc UInt8)(e:rc zA):rc zA:=vs.map (N8 e)
def Wh(a:rc Bw):(Bf a).Nodup:=(EL (a.flatMap BC) [] ph).2.1
def J1{b:rc Bw}:g∈Bf b↔g≠0/\∃x∈b,∃t∈BC x,t.v=g:=by
 unfold Bf;rw[(EL (b.flatMap BC) [] ph).2.2];constructor
 .rintro (h|⟨h,t,a,e⟩)
  .cases h
  .obtain⟨x,c,a⟩:=m6.1 a;exact⟨h,x,c,t,a,e⟩
 .rintro ⟨h,x,c,t,a,e⟩;exact Or.inr ⟨h,t,m6.2 ⟨x,c,a⟩,e⟩
def aK.zM{a:rc Bw}(h:aK a f):∀x∈a,MS x:=λx b=>(h.lits x b).ym
def aK.vars{b:rc Bw}(h:aK b f):∀v∈Bf b,EP v/\∃x∈b,(x.kind==97)=true/\∃u∈x.A.args,u.v=v:=by
 intro v g;obtain⟨c,x,e,t,d,rfl⟩:=J1.1 g;refine⟨?_,?_⟩
 .rcases h.zM x e t d with a|a
  .exact absurd a.1 c
  .exact a
 .rcases h.safe x e t d with a|a
  .exact absurd a c
  .exact a
def aK.al{a:rc Bw}(h:aK a f):∀v e,∀t∈JN a f v e,A8 t:=λv e t b=>JV h.canon h.fit v e t ((FG a f v e t).1 b)
def aK.args{a:rc Bw}{s:rc Af}(h:aK a s):∀x∈a,(x.kind==97)=true->∀t∈x.A.args,BH t:=by
 intro x d b t c;refine h.zM x d t ?_;unfold BC;rw[mK (by rw[b];rfl)];exact c
def aK.facts{a:rc Bw}{s:rc Af}(h:aK a s):∀f∈s,JL f:=λf b=>(h.canon f b).zM
def Rp{a:rc Bw}(h:aK a f){b:rc zA}(r:b∈Aw (JN a f) a f (Bf a) Bl):∃e∈BK a f,Gc (Bf a) e=Gc (Bf a) b:=by
 obtain⟨z,m,_,q⟩:=BW (λv e t c=>(h.al v e t c).size) (Bf a) Bl b rfl (λv k=>(h.vars v k).1) r;have p:∀x∈a,Cp (Bo (LO b)) (Eu (LO b)) f x=true:=by
  intro x g;have w:D2 b (BC x)=true:=by
   unfold D2;rw[nY];intro t c;have y:(AP b t).size≠0:=by
    by_cases d:t.v=0
    .rcases h.zM x g t c with i|i
     .unfold AP;rw[mK d];exact i.2
     .rw[d]at i;exact absurd i.1 (by decide)
    .rw[E1 d];exact q _ (J1.2 ⟨d,x,g,t,c,rfl⟩)
   cases hE:Vz (AP b t)with
   |false=>rfl
   |true=>exact absurd ((Ep _).1 hE) y
  have i:Cp (Av b) (AP b) f x=true:=by
   unfold Ex at m;have:=(oC.1 m) x g;rw[w,oy]at this;simpa using this
  rw[<-IX (e:=b) (σ:=LO b) (λt c=>(Hd b t).symm)];exact i
 obtain⟨e,o,k⟩:=Qi h.facts h.args (LO b) p (λx g n=>by
  have j:=h.safe x g
  unfold BC at j
  refine⟨λl t c=>j t ?_,λl=>?_⟩
  .rw[mK (by rw[l];simp)];exact c
  .rw[mJ (by rw[n,l];simp)]at j
   exact⟨j _ (by simp),j _ (by simp)⟩)
 refine⟨e,o,?_⟩;unfold Gc;refine nL (λv u=>?_);obtain⟨d,x,g,t,c,rfl⟩:=J1.1 u;rw[<-E1 d,<-E1 d,k t (h.safe x g t c),Hd]
def UI{a:rc Bw}(h:aK a f)(g:e∈BK a f):∃b∈Aw (JN a f) a f (Bf a) Bl,Gc (Bf a) b=Gc (Bf a) e:=by
 have k:=Ko h.facts h.args g;have c:∀x∈a,Cp (Bo (LO e)) (Eu (LO e)) f x=true:=by
  intro x l;rw[<-IX (e:=e) (σ:=LO e) (λt m=>(Hd e t).symm)];exact k x l
 obtain⟨b,j,_,d,_⟩:=Ic h.zM (TD (FG a f) h.zM) c (Bf a) Bl (Ew.start _) h.vars;refine⟨b,j,?_⟩;unfold Gc;refine nL (λv i=>?_);rw[d v i];rfl
def aK.z8{a:rc Bw}(h:aK a f){b:rc zA}(j:b∈Aw (JN a f) a f (Bf a) Bl):∀v∈Bf a,A8 (N8 b v):=by
 intro v c;obtain⟨n,_,_,l⟩:=BW (λv e t i=>(h.al v e t i).size) (Bf a) Bl b rfl (λv c=>(h.vars v c).1) j;have k:=F3 h.al (Bf a) Bl DF.start b j;obtain⟨o,x,p,t,i,rfl⟩:=J1.1 c;have d:=l _ c;have m:=(h.vars _ c).1;unfold N8 at d⊢;have g:t.v.toNat-65<Z b:=by have:=m.2;omega
 rw[mN,mG g]at d⊢;rcases k.2 _ (mw g)with h1|h1
 .exact absurd h1 d
 .exact h1
def Of{k:UInt8->rc zA->rc zA}{p:rc Bw}{s:rc Af}(o:∀v e,(k v e).Pairwise kV)(f:∀v e,∀t∈k v e,A8 t):
  ∀(c:rc UInt8) (e:rc zA),Z e=26->c.Nodup->(∀v∈c,EP v)->(Aw k p s c e).Pairwise λa b=>Ey (Gc c a) (Gc c b)=true
 |[],e,he,_,_=>by
  rw[Aw];split
  .exact List.Pairwise.nil
  .exact List.pairwise_singleton _ _
 |v::c,e,he,hn,hv=>by
  rw[Aw];split
  .exact List.Pairwise.nil
  .have r:=hv v (by simp);rw[oB]at hn;have l:∀t,∀b∈Aw k p s c (e.set (v.toNat-65) t),Gc (v::c) b=t::Gc c b:=by
    intro t b i;obtain⟨_,_,y,_⟩:=BW (λv e t d=>(f v e t d).size) c (e.set (v.toNat-65) t) b (by simp[he]) (λu g=>hv u (by simp[g])) i;unfold Gc;rw[mU,y v r hn.1,L9 he r]
   rw[List.pairwise_flatMap];refine⟨λt d=>?_,?_⟩
   .refine(Of o f c (e.set (v.toNat-65) t) (by simp[he]) hn.2 (λu g=>hv u (by simp[g]))).imp_of_mem ?_;intro a b m i h;rw[l t a m,l t b i,Ey,mK (by simp)];exact h
   .refine(o v e).imp_of_mem ?_;intro t u d g j a m b i;rw[l t a m,l u b i,Ey,mJ,<-IW (f v e t d) (f v e u g)]
    .exact j
    .intro n;rw[E7]at n;subst n;unfold kV Hx at j;rw[IW (f v e t d) (f v e t d)]at j;have z:=U2 (a:=⟨q9,[t]⟩) (by intro x q;rw[my]at q;subst q;exact f v e _ d);have w:=OT (AD t) (AD t);rw[IW (f v e t d) (f v e t d),(BE (AD t) (AD t)).2 rfl]at w;exact absurd (w.2 j) (by decide)
def L8(vs:rc UInt8)(e:rc zA):Af:=⟨q9,Gc vs e⟩
def Gf(vs:rc UInt8)(s:rc Af)(es:rc (rc zA)):rc Af:=es.foldl (λs e=>A9 s (L8 vs e)) s
def KM(a:rc UInt8):∀(b:rc (rc zA)) (s:rc Af),(∀e∈b,AL (L8 a e))->Dy s->(∀f∈s,AL f)->Dy (Gf a s b)/\(∀f∈Gf a s b,AL f)/\∀g,g∈Gf a s b↔g∈s\/∃e∈b,g=L8 a e
 |[],s,_,hs,hc=>⟨hs,hc,λg=>by simp[Gf]⟩
 |e::b,s,he,hs,hc=>by
  obtain⟨l,k,m⟩:=Ct (he e (by simp)) hs hc;obtain⟨j,i,n⟩:=KM a b (A9 s (L8 a e)) (λd c=>he d (by simp[c])) l k;refine⟨j,i,λg=>?_⟩;show g∈Gf a (A9 s (L8 a e)) b↔_;rw[n,m];constructor
  .rintro ((h|h)|⟨d,c,h⟩)
   .exact Or.inl h
   .exact Or.inr ⟨e,by simp,h⟩
   .exact Or.inr ⟨d,by simp[c],h⟩
  .rintro (h|⟨d,c,h⟩)
   .exact Or.inl (Or.inl h)
   .rcases mA.1 c with rfl|c
    .exact Or.inl (Or.inr h)
    .exact Or.inr ⟨d,c,h⟩
def aK.z9{a:rc Bw}(h:aK a f)(g:e∈BK a f):AL (L8 (Bf a) e):=by
 obtain⟨b,j,i⟩:=UI h g;intro x k;have c:x∈Gc (Bf a) b:=by rw[i];exact k
 obtain⟨v,d,rfl⟩:=mD.1 c;exact h.z8 j v d
def Xo{c:rc Bw}{s:rc Af}(h:aK c s):Gf (Bf c) [] (BK c s)=(Aw (JN c s) c s (Bf c) Bl).map (L8 (Bf c)):=by
 obtain⟨o,n,r⟩:=KM (Bf c) (BK c s) [] (λe d=>h.z9 d) List.Pairwise.nil (λf j=>by cases j);refine Pq o ?_ n ?_ ?_
 .unfold Dy;rw[o9];refine(Of (λv e=>OA (λt q=>JV h.canon h.fit v e t q)) h.al (Bf c) Bl rfl (Wh c) (λv k=>(h.vars v k).1)).imp ?_;intro a b p;unfold Ea L8;rw[mK (by simp)];exact p
 .intro f j;obtain⟨b,i,rfl⟩:=mD.1 j;intro x w;obtain⟨v,k,rfl⟩:=mD.1 w;exact h.z8 i v k
 .intro g;rw[r];constructor
  .rintro (m|⟨e,d,rfl⟩)
   .cases m
   .obtain⟨b,i,l⟩:=UI h d;exact mD.2 ⟨b,i,by unfold L8;rw[l]⟩
  .intro u;obtain⟨b,i,rfl⟩:=mD.1 u;obtain⟨e,d,l⟩:=Rp h i;exact Or.inr ⟨e,d,by unfold L8;rw[l]⟩
def Lb:zA->Bool->rc UInt8->rc zA->zA
 |t,b,v::vs,x::xs=>Lb ((if b then t++⟨#[32]⟩else t)++⟨#[v]⟩++⟨#[61]⟩++x) true vs xs
 |t,_,_,_=>t
def Ge(vs:rc UInt8):zA->rc (rc zA)->zA
 |t,[]=>t
 |t,r::l=>Ge vs (Lb t false vs r++⟨#[10]⟩) l
def TM{a:rc Bb}(h:LI c a=(0,0)):(∀p∈a,QI c p=false)/\Ee Gj a<0:=by
 unfold LI at h;cases hf:a.find? (QI c)with
 |some p=>rw[hf]at h;simp at h
 |none=>
  rw[hf]at h;simp only at h;refine⟨λp b=>?_,?_⟩
  .rw[oM]at hf;have:=hf p b;simpa using this
  .by_cases d:0<=Ee Gj a
   .rw[mK d]at h;simp at h
   .omega
def NQ(p:Bb):BC p.1=AG p:=rfl
def SE{b:rc AV}{a:rc Bb}{s:rc Af}(j:Cn b)(k:∀f∈s,Dw b f)(q:LI b a=(0,0))(v:∀x∈a.map qW,Dz x):aK (a.map qW) s:=by
 obtain⟨r,l⟩:=TM q;refine⟨v,λx g t m=>?_,λf d x g o y=>?_,λf d=>(k f d).canon j.prog.zN⟩
 .obtain⟨p,e,rfl⟩:=mD.1 g;have w:=(Pc l).2 p e t (by rw[<-NQ];exact m);exact G2 (c:=⟨Gj,.slice none 0 0,.slice none 0 0,a,0⟩) w
 .obtain⟨p,e,rfl⟩:=mD.1 g;obtain⟨c,A,z,u⟩:=(k f d).zd;have i:=j.order.zg c A;rw[<-z,y]at i;have n:=r p e;rcases Nt b p i rfl with⟨h,_⟩|⟨_,h⟩
  .rw[n]at h;cases h
  .rcases h with h|⟨_,⟨_,_,h,_⟩|⟨h,_⟩⟩
   .unfold MP at h;rw[o]at h;cases h
   .rw[u];omega
   .omega
def P7{a:rc Bb}(e:LI c a=(0,0)):∀p∈a,Z (AG p)<=2:=by
 intro p b;have d:=(TM e).1 p b;unfold AG;cases hi:MP p with
 |false=>simp
 |true=>
  rw[mK rfl];rcases Nt c p rfl rfl with⟨h,_⟩|⟨_,h⟩
  .rw[d]at h;cases h
  .rcases h with h|⟨_,⟨_,_,_,h⟩|⟨_,_,_,h⟩⟩
   .rw[hi]at h;cases h
   .omega
   .omega
def Q9{a:rc Bb}(d:LI c a=(0,0))(h:Z a<=3):Z (Bf (a.map qW))<=6:=by
 unfold Bf;have f:=XT ((a.map qW).flatMap BC) [];have e:=O0 BC 2 (a.map qW) (λx g=>by
  obtain⟨p,b,rfl⟩:=mD.1 g
  rw[NQ]
  exact P7 d p b)
 rw[mI]at e;rw[m8,nE]at f;omega
def Td{a:rc AV}(h:s∈consts a):s∈Bj a:=by
 rw[(Fc a).mem,(C9 _).2];unfold consts at h;obtain⟨c,f,g⟩:=m6.1 h;obtain⟨t,e,rfl⟩:=mD.1 g;obtain⟨d,b⟩:=mT.1 e;refine m6.2 ⟨c,f,mD.2 ⟨t,mT.2 ⟨?_,b⟩,rfl⟩⟩;unfold E5;exact nS _ d
def No{b:rc Bw}{s:rc Af}(n:∀f∈s,Dw c f)(h:aK b s)(k:e∈BK b s):∀v∈Bf b,N8 e v∈consts c:=by
 intro v d;obtain⟨_,x,o,i,u,m,g⟩:=h.vars v d;have l:=(J1.1 d).1;have a:=Ko h.facts h.args k x o;unfold Cp at a;rw[mK i]at a;have j:=(n _ ((Ck _ _).1 a)).args;rw[<-g,<-E1 (by rw[g];exact l)];exact j _ (mR m)
def Xf{a:rc Bw}{s:rc Af}(p:Cn c)(u:∀f∈s,Dw c f)(h:aK a s)(z:Z (Bf a)<=6)(b:rc (rc zA))(i:∀e∈b,e∈BK a s):Z (Gf (Bf a) [] b)<=46656:=by
 obtain⟨n,j,t⟩:=KM (Bf a) b [] (λe d=>h.z9 (i e d)) List.Pairwise.nil (λf q=>by cases q);have y:=n.nodup j;have o:=IE (Gf (Bf a) [] b) ((EA (Bj c) (Z (Bf a))).map (Af.mk q9)) y (λg l=>by
  rcases(t g).1 l with m|⟨e,d,rfl⟩
  .cases m
  .refine mD.2 ⟨Gc (Bf a) e,?_,rfl⟩
   have r:Z (Gc (Bf a) e)=Z (Bf a):=by unfold Gc;rw[mI]
   rw[<-r]
   refine Ms _ _ (λx w=>?_)
   obtain⟨v,A,rfl⟩:=mD.1 w
   exact Td (No u h (i e d) v A))
 rw[mI,KH]at o;have k:=p.order.six;have B:Z (Bj c)^Z (Bf a)<=6^6:=nD (Nat.pow_le_pow_left k _) (Nat.pow_le_pow_right (by decide) z);have:(6:Nat)^6=46656:=by decide
 omega
