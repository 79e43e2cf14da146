import Derived.Test.YtoihbhenbmffcaaGreatDoorYBJ
import Derived.Test.YtoihbhenbmffcaaGreatDoorYBB
set_option linter.all false
set_option maxHeartbeats 0
open List renaming length->Z
open ByteArray renaming empty->lU
open Prod renaming fst->lW
namespace Go.Proofs.YtoihbhenbmffcaaGreatDoor
open Go.RowKit Go.Proofs.Tryz
structure aj(body:mc Bi)(s:mc Af):Prop where
 lits:∀x∈body,Do x
 safe:∀x∈body,∀t∈Bm x,FK body t
 fit:XI s body
 canon:∀f∈s,AJ f
def Bk(body:mc Bi):mc UInt8:=Fp [] (body.flatMap Bm)
def Gs(vs:mc UInt8)(e:mc zA):mc zA:=vs.map (OI e)
def T1(a:mc Bi):(Bk a).Nodup:=(D0 (a.flatMap Bm) [] jT).2.1
def Iy{b:mc Bi}{v:UInt8}:v∈Bk b↔v≠0/\∃x∈b,∃t∈Bm x,t.v=v:=by
 unfold Bk;rw[(D0 (b.flatMap Bm) [] jT).2.2];constructor
 .rintro (h|⟨h,t,a,e⟩)
  .cases h
  .obtain⟨x,c,a⟩:=iI.1 a;exact⟨h,x,c,t,a,e⟩
 .rintro ⟨h,x,c,t,a,e⟩;exact Or.inr ⟨h,t,iI.2 ⟨x,c,a⟩,e⟩
def aj.zM{a:mc Bi}{s:mc Af}(h:aj a s):∀x∈a,KU x:=λx b=>(h.lits x b).ye
def aj.vars{b:mc Bi}{s:mc Af}(h:aj b s):∀v∈Bk b,Ed v/\∃x∈b,(x.kind==97)=true/\∃u∈x.A.args,u.v=v:=by
 intro v f;obtain⟨c,x,e,t,d,rfl⟩:=Iy.1 f;refine⟨?_,?_⟩
 .rcases h.zM x e t d with a|a
  .exact absurd a.1 c
  .exact a
 .rcases h.safe x e t d with a|a
  .exact absurd a c
  .exact a
def aj.al{a:mc Bi}{s:mc Af}(h:aj a s):∀v e,∀t∈Im a s v e,A3 t:=λv e t b=>Iq h.canon h.fit v e t ((ER a s v e t).1 b)
def aj.args{a:mc Bi}{s:mc Af}(h:aj a s):∀x∈a,(x.kind==97)=true->∀t∈x.A.args,BK t:=by
 intro x d b t c;refine h.zM x d t ?_;unfold Bm;rw[gY (by rw[b];rfl)];exact c
def aj.facts{a:mc Bi}{s:mc Af}(h:aj a s):∀f∈s,Kx f:=λf b=>(h.canon f b).zM
def Pp{a:mc Bi}{s:mc Af}(h:aj a s){b:mc zA}(q:b∈Av (Im a s) a s (Bk a) Bs):∃e∈BW a s,Gs (Bk a) e=Gs (Bk a) b:=by
 obtain⟨y,l,_,p⟩:=BG (λv e t c=>(h.al v e t c).size) (Bk a) Bs b rfl (λv j=>(h.vars v j).1) q;have n:∀x∈a,CH (Bu (Iv b)) (Eb (Iv b)) s x=true:=by
  intro x f;have u:Di b (Bm x)=true:=by
   unfold Di;rw[ji];intro t c;have w:(AR b t).size≠0:=by
    by_cases d:t.v=0
    .rcases h.zM x f t c with g|g
     .unfold AR;rw[gY d];exact g.2
     .rw[d]at g;exact absurd g.1 (by decide)
    .rw[Eh d];exact p _ (Iy.2 ⟨d,x,f,t,c,rfl⟩)
   cases hE:Tj (AR b t)with
   |false=>rfl
   |true=>exact absurd ((DC _).1 hE) w
  have g:CH (AB b) (AR b) s x=true:=by
   unfold DL at l;have:=(ju.1 l) x f;rw[u,jq]at this;simpa using this
  rw[<-G6 (e:=b) (σ:=Iv b) (λt c=>(Gl b t).symm)];exact g
 obtain⟨e,o,j⟩:=Of h.facts h.args (Iv b) n (λx f m=>by
  have i:=h.safe x f
  unfold Bm at i
  refine⟨λk t c=>i t ?_,λk=>?_⟩
  .rw[gY (by rw[k];simp)];exact c
  .rw[gV (by rw[m,k];simp)]at i
   exact⟨i _ (by simp),i _ (by simp)⟩)
 refine⟨e,o,?_⟩;unfold Gs;refine iY (λv r=>?_);obtain⟨d,x,f,t,c,rfl⟩:=Iy.1 r;rw[<-Eh d,<-Eh d,j t (h.safe x f t c),Gl]
def Sr{a:mc Bi}{s:mc Af}(h:aj a s){e:mc zA}(f:e∈BW a s):∃b∈Av (Im a s) a s (Bk a) Bs,Gs (Bk a) b=Gs (Bk a) e:=by
 have j:=GM h.facts h.args f;have c:∀x∈a,CH (Bu (Iv e)) (Eb (Iv e)) s x=true:=by
  intro x k;rw[<-G6 (e:=e) (σ:=Iv e) (λt l=>(Gl e t).symm)];exact j x k
 obtain⟨b,i,_,d,_⟩:=GH h.zM (Rq (ER a s) h.zM) c (Bk a) Bs (D4.start _) h.vars;refine⟨b,i,?_⟩;unfold Gs;refine iY (λv g=>?_);rw[d v g];rfl
def aj.zv{a:mc Bi}{s:mc Af}(h:aj a s){b:mc zA}(i:b∈Av (Im a s) a s (Bk a) Bs):∀v∈Bk a,A3 (OI b v):=by
 intro v c;obtain⟨m,_,_,k⟩:=BG (λv e t g=>(h.al v e t g).size) (Bk a) Bs b rfl (λv c=>(h.vars v c).1) i;have j:=Fa h.al (Bk a) Bs CQ.start b i;obtain⟨n,x,o,t,g,rfl⟩:=Iy.1 c;have d:=k _ c;have l:=(h.vars _ c).1;unfold OI at d⊢;have f:t.v.toNat-65<Z b:=by have:=l.2;omega
 rw[ia,gS f]at d⊢;rcases j.2 _ (gL f)with h1|h1
 .exact absurd h1 d
 .exact h1
def Ma{al:UInt8->mc zA->mc zA}{o:mc Bi}{s:mc Af}(n:∀v e,(al v e).Pairwise fC)(f:∀v e,∀t∈al v e,A3 t):
  ∀(c:mc UInt8) (e:mc zA),Z e=26->c.Nodup->(∀v∈c,Ed v)->(Av al o s c e).Pairwise λa b=>DN (Gs c a) (Gs c b)=true
 |[],e,he,_,_=>by
  rw[Av];split
  .exact List.Pairwise.nil
  .exact List.pairwise_singleton _ _
 |v::c,e,he,hn,hv=>by
  rw[Av];split
  .exact List.Pairwise.nil
  .have q:=hv v (by simp);rw[jG]at hn;have k:∀t,∀b∈Av al o s c (e.set (v.toNat-65) t),Gs (v::c) b=t::Gs c b:=by
    intro t b i;obtain⟨_,_,w,_⟩:=BG (λv e t d=>(f v e t d).size) c (e.set (v.toNat-65) t) b (by simp[he]) (λu g=>hv u (by simp[g])) i;unfold Gs;rw[ii,w v q hn.1,Kj he q]
   rw[List.pairwise_flatMap];refine⟨λt d=>?_,?_⟩
   .refine(Ma n f c (e.set (v.toNat-65) t) (by simp[he]) hn.2 (λu g=>hv u (by simp[g]))).imp_of_mem ?_;intro a b l i h;rw[k t a l,k t b i,DN,gY (by simp)];exact h
   .refine(n v e).imp_of_mem ?_;intro t u d g j a l b i;rw[k t a l,k u b i,DN,gV,<-G5 (f v e t d) (f v e u g)]
    .exact j
    .intro m;rw[Ej]at m;subst m;unfold fC Fh at j;rw[G5 (f v e t d) (f v e t d)]at j;have y:=SK (a:=⟨lU,[t]⟩) (by intro x p;rw[gN]at p;subst p;exact f v e _ d);have r:=MG (AA t) (AA t);rw[G5 (f v e t d) (f v e t d),(By (AA t) (AA t)).2 rfl]at r;exact absurd (r.2 j) (by decide)
def Vc(vs:mc UInt8)(e:mc zA):Af:=⟨lU,Gs vs e⟩
def Pn(vs:mc UInt8)(s:mc Af)(es:mc (mc zA)):mc Af:=es.foldl (λs e=>A9 s (Vc vs e)) s
def LP(a:mc UInt8):∀(b:mc (mc zA)) (s:mc Af),(∀e∈b,AJ (Vc a e))->Ef s->(∀f∈s,AJ f)->Ef (Pn a s b)/\(∀f∈Pn a s b,AJ f)/\∀g,g∈Pn a s b↔g∈s\/∃e∈b,g=Vc a e
 |[],s,_,hs,hc=>⟨hs,hc,λg=>by simp[Pn]⟩
 |e::b,s,he,hs,hc=>by
  obtain⟨l,k,m⟩:=Dg (he e (by simp)) hs hc;obtain⟨j,i,n⟩:=LP a b (A9 s (Vc a e)) (λd c=>he d (by simp[c])) l k;refine⟨j,i,λg=>?_⟩;show g∈Pn a (A9 s (Vc a e)) b↔_;rw[n,m];constructor
  .rintro ((h|h)|⟨d,c,h⟩)
   .exact Or.inl h
   .exact Or.inr ⟨e,by simp,h⟩
   .exact Or.inr ⟨d,by simp[c],h⟩
  .rintro (h|⟨d,c,h⟩)
   .exact Or.inl (Or.inl h)
   .rcases gP.1 c with rfl|c
    .exact Or.inl (Or.inr h)
    .exact Or.inr ⟨d,c,h⟩
def aj.yI{a:mc Bi}{s:mc Af}(h:aj a s){e:mc zA}(f:e∈BW a s):AJ (Vc (Bk a) e):=by
 obtain⟨b,i,g⟩:=Sr h f;intro x j;have c:x∈Gs (Bk a) b:=by rw[g];exact j
 obtain⟨v,d,rfl⟩:=gX.1 c;exact h.zv i v d
def aN{c:mc Bi}{s:mc Af}(h:aj c s):Pn (Bk c) [] (BW c s)=(Av (Im c s) c s (Bk c) Bs).map (Vc (Bk c)):=by
 obtain⟨o,n,r⟩:=LP (Bk c) (BW c s) [] (λe d=>h.yI d) List.Pairwise.nil (λf j=>by cases j);refine RP o ?_ n ?_ ?_
 .unfold Ef;rw[jQ];refine(Ma (λv e=>Mm (λt q=>Iq h.canon h.fit v e t q)) h.al (Bk c) Bs rfl (T1 c) (λv k=>(h.vars v k).1)).imp ?_;intro a b p;unfold CZ Vc;rw[gY (by simp)];exact p
 .intro f j;obtain⟨b,i,rfl⟩:=gX.1 j;intro x w;obtain⟨v,k,rfl⟩:=gX.1 w;exact h.zv i v k
 .intro g;rw[r];constructor
  .rintro (m|⟨e,d,rfl⟩)
   .cases m
   .obtain⟨b,i,l⟩:=Sr h d;exact gX.2 ⟨b,i,by unfold Vc;rw[l]⟩
  .intro u;obtain⟨b,i,rfl⟩:=gX.1 u;obtain⟨e,d,l⟩:=Pp h i;exact Or.inr ⟨e,d,by unfold Vc;rw[l]⟩
def OG:zA->Bool->mc UInt8->mc zA->zA
 |t,b,v::vs,x::xs=>OG ((if b then t++⟨#[32]⟩else t)++⟨#[v]⟩++⟨#[61]⟩++x) true vs xs
 |t,_,_,_=>t
def I7(vs:mc UInt8):zA->mc (mc zA)->zA
 |t,[]=>t
 |t,r::l=>I7 vs (OG t false vs r++⟨#[10]⟩) l
def Rw{cs:mc A6}{bl:mc Bj}(h:Vt cs bl=(0,0)):(∀p∈bl,Wi cs p=false)/\D5 JK bl<0:=by
 unfold Vt at h;cases hf:bl.find? (Wi cs)with
 |some p=>rw[hf]at h;simp at h
 |none=>
  rw[hf]at h;simp only at h;refine⟨λp a=>?_,?_⟩
  .rw[jK]at hf;have:=hf p a;simpa using this
  .by_cases b:0<=D5 JK bl
   .rw[gY b]at h;simp at h
   .omega
def PJ(p:Bj):Bm p.1=A4 p:=rfl
def bY{cs:mc A6}{bl:mc Bj}{s:mc Af}(e:Dn cs)(g:∀f∈s,DP cs f)(k:Vt cs bl=(0,0))(m:∀x∈bl.map lW,Do x):aj (bl.map lW) s:=by
 obtain⟨o,n⟩:=Rw k;refine⟨m,λx d t q=>?_,λf a x d j y=>?_,λf a=>(g f a).canon e.prog.zN⟩
 .obtain⟨p,b,rfl⟩:=gX.1 d;have r:=(MW n).2 p b t (by rw[<-PJ];exact q);exact Gb (c:=⟨JK,.slice none 0 0,.slice none 0 0,bl,0⟩) r
 .obtain⟨p,b,rfl⟩:=gX.1 d;obtain⟨c,v,l,w⟩:=(g f a).zh;have i:=e.order.zr c v;rw[<-l,y]at i;have u:=o p b;rcases Pf cs p i rfl with⟨h,_⟩|⟨_,h⟩
  .rw[u]at h;cases h
  .rcases h with h|⟨_,⟨_,_,h,_⟩|⟨h,_⟩⟩
   .unfold MT at h;rw[j]at h;cases h
   .rw[w];omega
   .omega
def Us{cs:mc A6}{bl:mc Bj}(c:Vt cs bl=(0,0)):∀p∈bl,Z (A4 p)<=2:=by
 intro p a;have b:=(Rw c).1 p a;unfold A4;cases hi:MT p with
 |false=>simp
 |true=>
  rw[gY rfl];rcases Pf cs p rfl rfl with⟨h,_⟩|⟨_,h⟩
  .rw[b]at h;cases h
  .rcases h with h|⟨_,⟨_,_,_,h⟩|⟨_,_,_,h⟩⟩
   .rw[hi]at h;cases h
   .omega
   .omega
def V1{cs:mc A6}{bl:mc Bj}(b:Vt cs bl=(0,0))(f:Z bl<=3):Z (Bk (bl.map lW))<=6:=by
 unfold Bk;have d:=Vq ((bl.map lW).flatMap Bm) [];have c:=PK Bm 2 (bl.map lW) (λx e=>by
  obtain⟨p,a,rfl⟩:=gX.1 e
  rw[PJ]
  exact Us b p a)
 rw[ie]at c;rw[iv,iM]at d;omega
def W5{cs:mc A6}(h:CS cs):Z (Dy cs)<=6:=by
 cases cs with
 |nil=>exact ik _
 |cons c l=>
  have a:=(Fj (h.each (Z l) (by simp))).2.2.2.2.1;rw[gR (by simp)]at a;exact a
def Q2{cs:mc A6}{x:zA}(h:x∈consts cs):x∈Dy cs:=by
 rw[(L6 cs).mem,(Eu _).2];unfold consts at h;obtain⟨c,e,f⟩:=iI.1 h;obtain⟨t,d,rfl⟩:=gX.1 f;obtain⟨b,a⟩:=ir.1 d;refine iI.2 ⟨c,e,gX.2 ⟨t,ir.2 ⟨?_,a⟩,rfl⟩⟩;unfold Gq;exact kn _ b
def OY{cs:mc A6}{b:mc Bi}{s:mc Af}(m:∀f∈s,DP cs f)(h:aj b s){e:mc zA}(j:e∈BW b s):∀v∈Bk b,OI e v∈consts cs:=by
 intro v c;obtain⟨_,x,n,i,u,k,d⟩:=h.vars v c;have l:=(Iy.1 c).1;have a:=GM h.facts h.args j x n;unfold CH at a;rw[gY i]at a;have g:=(m _ ((BY _ _).1 a)).args;rw[<-d,<-Eh (by rw[d];exact l)];exact g _ (it k)
def aA{cs:mc A6}{a:mc Bi}{s:mc Af}(o:Dn cs)(t:∀f∈s,DP cs f)(h:aj a s)(y:Z (Bk a)<=6)(b:mc (mc zA))(d:∀e∈b,e∈BW a s):Z (Pn (Bk a) [] b)<=46656:=by
 obtain⟨m,i,r⟩:=LP (Bk a) b [] (λe c=>h.yI (d e c)) List.Pairwise.nil (λf p=>by cases p);have w:=m.nodup i;have n:=Ju (Pn (Bk a) [] b) ((Ic (Dy cs) (Z (Bk a))).map (Af.mk lU)) w (λg k=>by
  rcases(r g).1 k with l|⟨e,c,rfl⟩
  .cases l
  .refine gX.2 ⟨Gs (Bk a) e,?_,rfl⟩
   have q:Z (Gs (Bk a) e)=Z (Bk a):=by unfold Gs;rw[ie]
   rw[<-q]
   refine Ni _ _ (λx u=>?_)
   obtain⟨v,z,rfl⟩:=gX.1 u
   exact Q2 (OY t h (d e c) v z))
 rw[ie,LD]at n;have j:=W5 o.order;have A:Z (Dy cs)^Z (Bk a)<=6^6:=iQ (Nat.pow_le_pow_left j _) (Nat.pow_le_pow_right (by decide) y);have:(6:Nat)^6=46656:=by decide
 omega
