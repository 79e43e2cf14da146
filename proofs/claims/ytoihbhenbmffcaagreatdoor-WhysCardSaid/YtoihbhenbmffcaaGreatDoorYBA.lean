import Derived.Test.YtoihbhenbmffcaaGreatDoorYAZ
set_option linter.all false
set_option maxHeartbeats 0
open List renaming length->Z
open Option renaming none->Y
open Bool renaming false->K,true->jj
open Or renaming inl->j5,inr->j6
open Prod renaming fst->jM
namespace Go.Proofs.YtoihbhenbmffcaaGreatDoor
open Go.RowKit Go.Proofs.Tryz
def SN(cs:List A8)(x y:g0):Prop:=∀S:g0->Prop,S x->(∀r∈cs,S r.head.name->∀z∈GJ r,S z)->S y
def IX{a b:g0}(h:(a.toList==b.toList)=jj):a=b:=(Gb.eqv a b).1 h
def JF(y:g0):∀(a:List Bw) (l:List g0),y∈a.foldl zE l↔y∈l\/y∈(a.filter Oh).map λq=>q.1.A.name
 |[],l=>by simp
 |q::a,l=>by
  rw[fd,JF y a,gm];unfold zE;cases hq:Oh q with
  |false=>simp only[ev,if_false]
  |true=>
   simp only[if_true,Q9,eR,ey];constructor
   .rintro ((h|h)|h)
    .exact j6 (j5 h)
    .exact j5 h
    .exact j6 (j6 h)
   .rintro (h|h|h)
    .exact j5 (j6 h)
    .exact j5 (j5 h)
    .exact j6 h
def Ke(x y:g0):∀(d:List A8) (l:List g0),y∈L1 d l x↔y∈l\/∃r∈d,r.head.name=x/\y∈(r.bl.filter Oh).map λq=>q.1.A.name
 |[],l=>by simp[L1]
 |r::d,l=>by
  have ih:=Ke x y d (L8 x l r);unfold L1 at ih⊢;rw[fd,ih];unfold L8;cases hr:(r.head.name.toList==x.toList)with
  |true=>
   have g:=IX hr;simp only[if_true,JF];constructor
   .rintro ((h|h)|⟨c,a,b⟩)
    .exact j5 h
    .exact j6 ⟨r,by simp,g,h⟩
    .exact j6 ⟨c,by simp[a],b⟩
   .rintro (h|⟨c,a,b,f⟩)
    .exact j5 (j5 h)
    .rcases ey.1 a with rfl|a
     .exact j5 (j6 f)
     .exact j6 ⟨c,a,b,f⟩
  |false=>
   (have i:r.head.name≠x:=λe=>by rw[e]at hr;simp at hr);simp only[ev,if_false];constructor
   .rintro (h|⟨c,a,b⟩)
    .exact j5 h
    .exact j6 ⟨c,by simp[a],b⟩
   .rintro (h|⟨c,a,b,f⟩)
    .exact j5 h
    .rcases ey.1 a with rfl|a
     .exact absurd b i
     .exact j6 ⟨c,a,b,f⟩
def Ot{cs:List A8}{c:A8}(d:c∈cs){l:List g0}:∀(b:List Bw) (a:List g0),(∀q∈b,q∈c.bl)->El cs l a->El cs l (b.foldl zE a)
 |[],a,_,h=>h
 |q::b,a,hs,h=>by
  rw[fd];exact Ot d b _ (λe f=>hs e (by simp[f])) (h.zE d (hs q (by simp)))
def Ph{cs:List A8}{l:List g0}(x:g0):∀(a:List A8) (b:List g0),(∀c∈a,c∈cs)->El cs l b->El cs l (L1 a b x)
 |[],b,_,h=>h
 |c::a,b,hs,h=>by
  unfold L1;rw[fd];refine Ph x a _ (λf e=>hs f (by simp[e])) ?_;unfold L8;split
  .exact Ot (hs c (by simp)) c.bl _ (λq d=>d) h
  .exact h
def Pb{cs:List A8}{s d:g0}:∀(f:Nat) (l:List g0) (n:Nat),2+Z (Dv cs)<=f+n->Bd cs l->n<=Z l->(∀i (h:i<Z l),i<n->l[i]≠d)->
  (∀i (h:i<Z l),i<n->∀r∈cs,r.head.name=l[i]->∀y∈(r.bl.filter Oh).map (λq=>q.1.A.name),y∈l)->s∈l->(∀y∈l,SN cs s y)->(Jn f cs d l n=jj↔SN cs s d)
 |0,l,n,hf,hb,hn,_,_,_,_=>by
  unfold Bd at hb;omega
 |f+1,l,n,hf,hb,hn,hno,hcl,hfr,hso=>by
  rw[Jn];by_cases k:n<Z l
  .rw[dif_pos k];cases he:(l[n].toList==d.toList)with
   |true=>
    have:=IX he;simp only[if_true,true_iff];rw[<-this];exact hso _ (eo k)
   |false=>
    simp only[ev,if_false];have m:El cs l (L1 cs l l[n]):=Ph l[n] cs l (λc D=>D) ⟨⟨[],by simp⟩,hb⟩;(have w:l[n]≠d:=λe=>by rw[e]at he;simp at he);have E:=m.len.1;refine Pb f (L1 cs l l[n]) (n+1) (by omega) m.bd (by omega) ?_ ?_ ((Ke _ _ _ _).2 (j5 hfr)) ?_
    .intro i j t;obtain⟨_,e⟩:=m.at (show i<Z l by omega);rw[e];rcases iH (show i<=n by omega)with a|a
     .exact hno i (by omega) a
     .subst a;exact w
    .intro i j t r g b y p;obtain⟨_,e⟩:=m.at (show i<Z l by omega);rw[e]at b;rw[Ke];rcases iH (show i<=n by omega)with a|a
     .exact j5 (hcl i (by omega) a r g b y p)
     .subst a;exact j6 ⟨r,g,b,p⟩
    .intro y p;rcases(Ke _ _ _ _).1 p with a|⟨r,g,b,x⟩
     .exact hso y a
     .intro S C u;have v:=hso _ (eo k) S C u;rw[<-b]at v;exact u r g v y (by unfold GJ;exact fu _ x)
  .rw[dif_neg k];simp only[ev,false_iff];intro B;have t:d∈l:=B (λz=>z∈l) hfr (λr g b z o=>by
    obtain⟨i,j,e⟩:=fj b
    unfold GJ at o
    rcases ey.1 o with rfl|o
    .exact b
    .exact hcl i j (by omega) r g e.symm z o)
   obtain⟨i,j,e⟩:=fj t;exact hno i j (by omega) e
def KX(cs:List A8)(a b:g0):GK cs a b=jj↔SN cs a b:=by
 unfold GK;refine Pb _ [a] 0 (by omega) ?_ (by simp) (λi h e=>by omega) (λi h e=>by omega) (by simp) (λy c S d _=>by simp at c;subst c;exact d);unfold Bd OG;have:=jw (p:=λx=> !DN [a] x) (l:=Dv cs);simp only[eF,fb];omega
structure N8(l:PL):Prop where
 some:A9 l=jj->0<Z l.ts
 le:Z l.ts<=151
 plain:A9 l=K->l.ts=[]
 bare:A9 l=jj->l.l=AD/\l.r=AD
def Ow{c:List AZ}:∀(k a:Nat) (d:List AO) {b:List AO} {n:Nat},Z c-a<=k->F4 c a d=.ok (b,n)->0<Z b/\Z b<=Z d+(Z c-a+1)/2
 |k,a,d,b,n,hk,h=>by
  unfold F4 at h;split at h
  .rename_i e;split at h
   .cases h
   .split at h
    .match k with
     |0=>omega
     |k+1=>
      have:=Ow k (a+2) _ (by omega) h;simp only[eJ,eF,fb]at this;omega
    .split at h
     .simp only[fK,fo]at h;rw[<-h.1];simp only[eJ,eF,fb];omega
     .cases h
  .cases h
def Lf{a:List AZ}(d:Z a<=301){c:Nat}{p:Nat}{s:g0}{ts:List AO}{n:Nat}(h:EF a c=.ok ((p,s,ts),n)):0<Z ts/\Z ts<=151:=by
 unfold EF at h;split at h
 .split at h
  .split at h
   .cases h
   .rename_i b;simp only[fK,fo]at h;have:=Ow _ _ _ (eM _) b;rw[<-h.1.2.2];simp only[fb]at this;omega
  .cases h
 .cases h
def XL{g:List AZ}(j:Z g<=301){o:Nat}{l:Zh}{n:Nat}(h:G6 g o=.ok (l,n)):N8 (Jl l):=by
 unfold G6 at h;split at h
 .split at h
  .cases h
  .rename_i a k b;obtain⟨p,s,m⟩:=a;have:=Lf j b;simp only[fK,fo]at h;rw[<-h.1];exact⟨λ_=>this.1,this.2,λf=>by simp[Jl,A9]at f,λ_=>⟨rfl,rfl⟩⟩
 .split at h
  .split at h
   .cases h
   .rename_i a k b;obtain⟨p,s,m⟩:=a;have:=Lf j b;simp only[fK,fo]at h;rw[<-h.1];exact⟨λ_=>this.1,this.2,λf=>by simp[Jl,A9]at f,λ_=>⟨rfl,rfl⟩⟩
  .split at h
   .cases h
   .rename_i c k b;simp only[fK,fo]at h;rw[<-h.1];have d:c.sort=2\/c.sort=3\/c.sort=4:=by
     unfold G4 at b;split at b
     .cases b
     .split at b
      .cases b
      .rename_i q d;split at b
       .cases b
       .simp only[fK,fo]at b;rw[<-b.1];unfold Mk at d;split at d
        .simp only[eD]at d;exact j5 d.symm
        .split at d
         .simp only[eD]at d;exact j6 (j5 d.symm)
         .split at d
          .simp only[eD]at d;exact j6 (j6 d.symm)
          .cases d
    have i:A9 (Jl (.inr c))=jj->False:=λf=>by
     unfold A9 Jl at f;simp only at f;rcases d with e|e|e<;>simp[e]at f
    exact⟨λf=>(i f).elim,by simp[Jl],λ_=>rfl,λf=>(i f).elim⟩
def OV{a:List AZ}(g:Z a<=301):∀(k b:Nat) (d:List PL) {e:List PL} {n:Nat},Z a-b<=k->(∀l∈d,N8 l)->Fl a b d=.ok (e,n)->(∀l∈e,N8 l)/\Z e<=Z d+(Z a-b+1)/2
 |k,b,d,e,n,hk,ha,h=>by
  by_cases f:b<Z a
  .cases hl:G6 a b with
   |error p=>rw[Hd f hl]at h;cases h
   |ok r=>
    obtain⟨l,j⟩:=r;have o:=Im hl;have m:=XL g hl;have i:∀x∈d++[Jl l],N8 x:=by
     intro x c;rcases eG.1 c with c|c
     .exact ha x c
     .simp only[ex]at c;subst c;exact m
    rw[Mj f hl]at h;split at h
    .match k with
     |0=>omega
     |k+1=>
      have:=OV g k (j+1) _ (by omega) i h;simp only[eJ,eF,fb]at this;exact⟨this.1,by omega⟩
    .simp only[fK,fo]at h;rw[<-h.1];refine⟨i,?_⟩;simp only[eJ,eF,fb];omega
  .unfold Fl at h;rw[dif_neg f]at h;cases h
structure Jv(c:PC):Prop where
 head:0<Z c.zD/\Z c.zD<=151
 body:Z c.body<=151
 lits:∀l∈c.body,N8 l
def WJ{b:List AZ}{n m:Nat}{c a:PC}(h:My b n c=.ok (a,m)):a=c:=by
 unfold My at h;split at h
 .simp only[fK,fo]at h;exact h.1.symm
 .cases h
def Sc{a:List AZ}(b:Z a<=301){i n:Nat}{c:PC}(h:Cu a i=.ok (c,n)):Jv c:=by
 unfold Cu at h;split at h
 .cases h
 .rename_i p s j k g;have e:=Lf b g;split at h
  .cases h
  .split at h
   .split at h
    .cases h
    .rename_i m l f;have d:=OV b _ _ _ (eM _) (by simp) f;rw[WJ h];simp only[fb]at d;exact⟨e,by simp only;omega,d.1⟩
   .rw[WJ h];exact⟨e,by simp,by simp⟩
def I2{a:List AZ}(i:Z a<=301):∀(k b:Nat) (e:List PC) {g:List PC},Z a-b<=k->(∀c∈e,Jv c)->C4 a b e=.ok g->(∀c∈g,Jv c)/\Z g<=Z e+(Z a-b)
 |k,b,e,g,hk,ha,h=>by
  by_cases f:b<Z a
  .cases he:((Au a b).kind==1)with
   |true=>
    rw[MR f he]at h;simp only[fK]at h;rw[<-h];exact⟨ha,by omega⟩
   |false=>
    cases hc:Cu a b with
    |error p=>rw[JO f he hc]at h;cases h
    |ok r=>
     obtain⟨c,n⟩:=r;have l:=Gt hc;rw[PS f he hc]at h;have j:∀x∈e++[c],Jv x:=by
      intro x d;rcases eG.1 d with d|d
      .exact ha x d
      .simp only[ex]at d;subst d;exact Sc i hc
     match k with
     |0=>omega
     |k+1=>
      have:=I2 i k n _ (by omega) j h;simp only[eJ,eF,fb]at this;exact⟨this.1,by omega⟩
  .unfold C4 at h;rw[dif_neg f]at h;cases h
def Sv{α β:Type}(f:α->List β)(N:Nat):∀l:List α,(∀a∈l,Z (f a)<=N)->Z (l.flatMap f)<=Z l*N
 |[],_=>by simp
 |a::l,h=>by
  have c:=Sv f N l (λx b=>h x (by simp[b]));have d:=h a (by simp);rw[eN,eJ,eF,gL];omega
def PE{c:Dq}(h:Jv c.pc):dQ c/\Z (B3 c)<=152:=by
 have d:Z c.zC<=151:=by have:=h.body;simpa[Dq.pc] using this
 have b:∀p∈c.zC,N8 p.1:=λp a=>h.lits p.1 (by simp only[Dq.pc];exact eH.2 ⟨p,a,rfl⟩)
 have e:0<Z c.zD/\Z c.zD<=151:=h.head;refine⟨⟨⟨⟨e.1,by omega⟩,by omega,λp a=>⟨(b p a).some,by have:=(b p a).le;omega⟩⟩,?_⟩,?_⟩
 .have f:Z (Bk c.zC)<=Z c.zC*151:=Sv _ 151 _ (λp a=>by
   unfold AV
   split
   .exact(b p a).le
   .simp)
  have:Z c.zC*151<=151*151:=fV _ d;unfold Bp;rw[eJ];omega
 .unfold B3 FH;have:=fZ (λp=>A9 p.1) c.zC;simp only[eF,eL];omega
def Nl{cs:List A8}:∀(l:List A8) (i:Nat),DZ cs i l=Y->∀k (h:k<Z l),B4 cs (i+k) l[k]=Y
 |[],i,_,k,h=>by simp at h
 |c::l,i,h,k,hk=>by
  rw[DZ]at h;cases hc:B4 cs i c with
  |some r=>rw[hc]at h;simp at h
  |none=>
   rw[hc]at h;simp only at h;cases k with
   |zero=>exact hc
   |succ k=>
    have:=Nl l (i+1) h k (by simpa using hk);rw[show i+(k+1)=i+1+k by omega];simpa using this
structure C9(cs:List A8):Prop where
 each:∀k (h:k<Z cs),B4 cs k cs[k]=Y
 strata:cs.findSome? (Df cs)=Y
def RG{cs:List A8}(h:CM cs=(0,0)):C9 cs:=by
 unfold CM at h;cases h1:DZ cs 0 cs with
 |some r=>
  rw[h1]at h;simp only at h;have:∀(l:List A8) (i:Nat) (r:Int×Int),DZ cs i l=some r->r.1≠0:=by
   intro l
   induction l with
   |nil=>intro i r b;simp[DZ]at b
   |cons c l ih=>
    intro i r b;rw[DZ]at b;cases a:B4 cs i c with
    |some q=>
     rw[a]at b;simp only[eD]at b;subst b;unfold B4 at a
     repeat (first
      |(split at a)
      |(simp only[eD]at a;subst a;simp)
      |(cases a))
    |none=>
     rw[a]at b;exact ih (i+1) r b
  exact absurd (by rw[h]) (this cs 0 r h1)
 |none=>
  rw[h1]at h;simp only at h;refine⟨λk e=>by have:=Nl cs 0 h1 k e;simpa using this,?_⟩;cases h2:cs.findSome? (Df cs)with
  |none=>rfl
  |some r=>
   rw[h2]at h;simp only at h;obtain⟨c,_,a⟩:=List.exists_of_findSome?_eq_some h2;unfold Df at a;rw[iE]at a;obtain⟨p,_,d⟩:=a;rw[h]at d;simp at d
def Gu{cs:List A8}{i:Nat}{c:A8}(h:B4 cs i c=Y):Z c.bl<=3/\Z c.head.args<=2/\c.bl.any Br=K/\Z (Gh (cs.take (i+1)))<=6/\Z (EV (cs.take (i+1)))<=6/\Eb cs c.head.name=(Z c.head.args:Int)/\c.bl.find? (BB cs)=Y/\Fz c.head c.bl<0:=by
 unfold B4 at h;by_cases b:12<=i\/3<Z c.bl
 .rw[eI b]at h;cases h
 rw[eE b]at h;by_cases f:2<Z c.head.args
 .rw[eI f]at h;cases h
 rw[eE f]at h;by_cases e:c.bl.any Br=jj
 .rw[eI e]at h;cases h
 rw[eE e]at h;by_cases a:6<Z (Gh (cs.take (i+1)))\/6<Z (EV (cs.take (i+1)))
 .rw[eI a]at h;cases h
 rw[eE a]at h;by_cases d:Eb cs c.head.name≠(Z c.head.args:Int)
 .rw[eI d]at h;cases h
 rw[eE d]at h;cases h6:c.bl.find? (BB cs)with
 |some p=>rw[h6]at h;cases h
 |none=>
  rw[h6]at h;simp only at h;by_cases g:0<=Fz c.head c.bl
  .rw[eI g]at h;cases h
  .simp only[not_or]at b a;exact⟨by omega,by omega,by simpa using e,by omega,by omega,by simpa using d,rfl,by omega⟩
def QE{b:Dj}{a:List Bw}(h:Fz b a<0):(∀t∈b.args,CB a t=K)/\∀p∈a,∀t∈AS p,CB a t=K:=by
 unfold Fz at h;cases h1:b.args.any (CB a)with
 |true=>rw[h1,eI rfl]at h;omega
 |false=>
  rw[h1,eE (by simp)]at h;cases h2:a.find? (IQ a)with
  |some p=>rw[h2]at h;simp only at h;omega
  |none=>
   refine⟨λt c=>?_,λp e t c=>?_⟩
   .have:=(gC.1 h1) t c;simpa using this
   .have d:=(gV.1 h2) p e;unfold IQ at d;(have f:(AS p).any (CB a)=K:=by simpa using d);have:=(gC.1 f) t c;simpa using this
def Hg{c:A8}{t:AG}(h:CB c.bl t=K):ES (Aj c) t:=by
 unfold CB at h;rw[Bool.not_eq_false',gr]at h;rcases h with h|h
 .exact j5 (by simpa using h)
 .right;unfold Jr at h;rw[fW]at h;obtain⟨p,b,a⟩:=h;unfold Ju at a;rw[eW]at a;unfold Ql at a;rw[fW]at a;obtain⟨d,u,e,f⟩:=a;exact⟨p.1,eZ b,d,u,e,by simpa using f⟩
def C9.zL{cs:List A8}(h:C9 cs)(f:∀c∈cs,∀x∈Aj c,(x.kind==97)=jj->∀t∈x.A.args,Bs t):Qw cs:=by
 have i:∀c∈cs,Fz c.head c.bl<0:=by
  intro c a;obtain⟨k,d,rfl⟩:=fj a;exact(Gu (h.each k d)).2.2.2.2.2.2.2
 refine⟨f,λc a x m d=>?_,λc a t f=>Hg ((QE (i c a)).1 t f)⟩;obtain⟨p,j,rfl⟩:=eH.1 m;have b:=(QE (i c a)).2 p j;refine⟨λg t l=>?_,λg=>?_⟩
 .refine Hg (b t ?_);unfold AS Oh;rw[g,jf,eI rfl];exact l
 .have n:Oh p=K:=by unfold Oh;rw[d,g];rfl
  have e:AS p=[p.1.L,p.1.R]:=by unfold AS;rw[n];rfl
  rw[e]at b;exact⟨Hg (b _ (by simp)),Hg (b _ (by simp))⟩
def C9.strat{cs:List A8}(h:C9 cs):Y2 cs:=by
 rintro x y ⟨c,z,A,l,f,r,e⟩ n;have a:(l.kind==33)=jj:=by
  rcases e with⟨_,e⟩|⟨a,_⟩
  .cases e
  .exact a
 obtain⟨p,k,rfl⟩:=eH.1 f;have i:=(iZ.1 h.strata) c z;unfold Df at i;rw[Option.map_eq_none_iff,gV]at i;have g:=i p k;unfold En at g;rw[a,gq]at g;apply g;rw[KX,r,A];intro S s t;refine n S s (λu v b o w=>?_);obtain⟨d,j,rfl,l,f,rfl,e⟩:=o;obtain⟨q,m,rfl⟩:=eH.1 f;refine t d j w _ ?_;unfold GJ;refine fu _ (eH.2 ⟨q,e9.2 ⟨m,?_⟩,rfl⟩);unfold Oh;rcases e with⟨a,_⟩|⟨a,_⟩
 .rw[a];rfl
 .rw[a,jf]
def C9.levels{cs:List A8}(h:C9 cs):Di cs (Cd cs 6):=by
 by_cases d:Z cs=0
 .have:cs=[]:=List.eq_nil_of_length_eq_zero d;subst this;exact⟨λc a=>by simp at a,λc a=>by simp at a⟩
 .have b:=(Gu (h.each (Z cs-1) (by omega))).2.2.2.1;rw[show Z cs-1+1=Z cs by omega,gP]at b;refine bB h.strat (Gh cs) (λc a=>?_) b;rw[Pu,(EC _).2];exact fA.2 ⟨c,a,by unfold GJ;simp⟩
def ON(c:PC):List g0:=c.hn::(c.body.filter A9).map λl=>l.an
def QO(c:Dq):B3 c=ON c.pc:=by
 unfold B3 ON FH Dq.pc;simp only[List.filter_map,fN];rfl
def Ml(x:BF):A9 (LP x)=(x.kind==97||x.kind==33):=by
 unfold A9 LP;simp only[Qv,Y7]
def Rj(r:A8):GJ r=ON (bk r.erase):=by
 unfold GJ ON bk A8.erase;simp only[fN,List.filter_map]
 congr 1
 have:(A9∘(LP∘jM))=Oh:=by
  funext q
  simp only[Function.comp,Ml];rfl
 rw[this];rfl
def UM(c:CA):A8:=⟨c.head,.slice Y 0 0,.slice Y 0 0,c.body.map λx=>(x,.slice Y 0 0),c.at_⟩
def NK(c:CA):(UM c).erase=c:=by
 unfold UM A8.erase;simp only[fN];have:(jM∘λx:BF=>(x,Value.slice Y 0 0))=id:=rfl;rw[this,List.map_id]
def dM(s:g0):g0->g0->Bool:=GK ((As s (Ae s 0)).1.map UM)
def TP{l:List Dq}{m:List A8}(h:l.map Dq.pc=m.map λr=>bk r.erase)(x y:g0):Hv l x y↔SN m x y:=by
 have k:=F2.of_map h;constructor
 .intro e S j g;refine e S j (λc f d z b=>?_);obtain⟨r,n,a⟩:=k.yO c f;rw[QO,a,<-Rj]at b;have i:c.hn=r.head.name:=congrArg PC.hn a;rw[i]at d;exact g r n d z b
 .intro e S j g;refine e S j (λr o d z b=>?_);obtain⟨c,f,a⟩:=k.mem r o;rw[Rj,<-a,<-QO]at b;have i:c.hn=r.head.name:=congrArg PC.hn a;rw[<-i]at d;exact g c f d z b
def Jj(s:g0):match C4 (EH s) 0 [] with
  | .ok cs=>(As s (Ae s 0)).2.2=K/\cs=(As s (Ae s 0)).1.map bk/\(∀c∈(As s (Ae s 0)).1,c.at_=c.head.at_)
  | .error p=>(As s (Ae s 0)).2.2=jj/\p=((As s (Ae s 0)).2.1:Int):=by
 have a:At s (EH s) 0 0:=by
  unfold At;rw[Lp];rfl
 have:=Xk _ 0 (Ae s 0) [] (eM _) a.gap (Bn s 0 (eV _)) (Ch s 0)
 revert this
 cases C4 (EH s) 0 [] with
 |error p=>exact λh=>h
 |ok cs=>exact λh=>⟨h.1,by simpa using h.2.1,h.2.2⟩
def Sr{s:g0}(n:s.size<=300){cs:List PC}(e:C4 (EH s) 0 []=.ok cs){a:List Dq}(d:a.map Dq.pc=cs):aW (dM s) a:=by
 have j:=(L9 s).1;have h:=I2 (by omega) _ 0 [] (eM _) (by simp) e;have f:=Jj s;rw[e]at f;have m:Z a=Z cs:=by rw[<-d];simp
 have g:∀c∈a,Jv c.pc:=λc b=>h.1 _ (by rw[<-d];exact eH.2 ⟨c,b,rfl⟩)
 have i:=h.2;simp only[fb]at i;refine⟨λx y=>?_,λc b=>(PE (g c b)).1,by omega,?_⟩
 .unfold dM;rw[KX];refine(TP ?_ x y).symm;rw[d,f.2.1,fN];apply fQ;intro c _;simp only[Function.comp,NK]
 .have l:=Sv B3 152 a (λc b=>(PE (g c b)).2);have k:Z a*152<=301*152:=fV _ (by omega);omega
def bi{c:Dq}{r:A8}(h:c.pc=bk r.erase)(l:Jv c.pc)(b:Wf c)(m:r.at_=r.head.at_):R3 c r:=by
 have g:c.hp=r.head.at_:=congrArg PC.hp h;have n:c.hn=r.head.name:=congrArg PC.hn h;have e:c.zD=r.head.args.map ct:=congrArg PC.zD h;have j:c.zC.map jM=r.bl.map λq=>LP q.1:=by
  have:c.zC.map jM=(r.bl.map jM).map LP:=congrArg PC.body h;rw[this,fN];rfl
 refine⟨g,n,e,?_,by rw[b.head,e];simp,m⟩;refine(F2.of_map j).mono (λp d q o a=>⟨a,?_,λi=>?_⟩)
 .rw[b.lits p d,a];simp[LP]
 .have k:=l.lits p.1 (eH.2 ⟨p,d,rfl⟩);have:A9 p.1=K:=by rw[a,Ml];exact i
  have f:=k.plain this;rw[a]at f;simpa[LP] using f
def Kn{s:g0}{e at_:Int}{r:Int×Int}(a:E9 s e at_)(b:Fv s (dM s) r):r=(e,at_):=by
 unfold E9 at a;unfold Fv at b;by_cases l:300<s.size
 .rw[eI l]at a b;rw[b,a.1,a.2]
 .rw[eE l]at a b;have d:=Jj s;cases hp:C4 (EH s) 0 [] with
  |error p=>
   rw[hp]at d b;rw[eI d.1]at a;simp only at b;rw[b,a.1,a.2,d.2]
  |ok cs=>
   rw[hp]at d b;rw[eE (by rw[d.1];simp)]at a;obtain⟨g,i,w⟩:=a;obtain⟨j,f,q,u⟩:=b;have z:=(L9 s).1;have o:=I2 (by omega) _ 0 [] (eM _) (by simp) hp;have m:j.map Dq.pc=g.map λr=>bk r.erase:=by
    rw[f,d.2.1,<-i,fN];rfl
   have hF:F2 R3 j g:=(F2.of_map m).mono (λc k h n v=>bi v (o.1 _ (by rw[<-f];exact eH.2 ⟨c,k,rfl⟩)) (q c k) (by
    have:=d.2.2 h.erase (by rw[<-i];exact eH.2 ⟨h,n,rfl⟩)
    exact this))
   have t:∀x y,dM s x y=GK g x y:=by
    intro x y;rw[gc,(Sr (by omega) hp f).yV,KX];exact TP m x y
   rw[u,w];exact VB hF t
theorem OQ(n:Int)(w:World):Calls prog 16 #[.int .i64 n] w λe a=>e=.returned (.int .i64 n)/\a=w:=by
 go_enter func16,ntmps16;go_wp2;go_ret;exact⟨rfl,rfl⟩
def VZ(w:World)(ab ao:Nat)(len:Nat)(K:Nat->Int)(S T:Nat->g0):Prop:=
 ∀i,i<len->w.cell? ⟨ab,ao+i*3,Y⟩=some (.int .i64 (K i))/\w.cell? ⟨ab,ao+i*3+1,Y⟩=some (.string (S i))/\w.cell? ⟨ab,ao+i*3+2,Y⟩=some (.string (T i))
def M7{w w':World}(k:Ac [] w w'){a:Addr}{v:Value}(h:w.cell? a=some v):w'.cell? a=some v:=by
 rw[World.cell?_of_block (k.block a.block (World.block_lt_of_cell? w a h) (by simp))];exact h
def VZ.kept{w w':World}{e c:Nat}{d:Nat}{b:Nat->Int}{S T:Nat->g0}(h:VZ w e c d b S T)(k:Ac [] w w'):VZ w' e c d b S T:=
 λi a=>⟨M7 k (h i a).1,M7 k (h i a).2.1,M7 k (h i a).2.2⟩
