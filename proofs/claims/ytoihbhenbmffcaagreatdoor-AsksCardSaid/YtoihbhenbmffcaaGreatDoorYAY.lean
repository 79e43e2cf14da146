import Derived.Test.YtoihbhenbmffcaaGreatDoorYAX
set_option linter.all false
set_option maxHeartbeats 0
namespace Go.Proofs.YtoihbhenbmffcaaGreatDoor
open Go.RowKit Go.Proofs.Tryz
def RS(cs:List A7)(x y:cR):Prop:=∀S:cR->Prop,S x->(∀r∈cs,S r.head.name->∀z∈Gy r,S z)->S y
theorem Of{a b:cR}(h:(a.toList==b.toList)=true):a=b:=(F0.eqv a b).1 h
theorem Je(y:cR):∀(a:List AY) (l:List cR),y∈a.foldl eA l↔y∈l\/y∈(a.filter KT).map λq=>q.1.A.name
 |[],l=>by simp
 |q::a,l=>by
  rw[cC,Je y a,dv];unfold eA;cases hq:KT q with
  |false=>simp only[bN,if_false]
  |true=>
   simp only[if_true,Qq,cu,bS];constructor
   .rintro ((h|h)|h)
    .exact Or.inr (Or.inl h)
    .exact Or.inl h
    .exact Or.inr (Or.inr h)
   .rintro (h|h|h)
    .exact Or.inl (Or.inr h)
    .exact Or.inl (Or.inl h)
    .exact Or.inr h
theorem JH(x y:cR):∀(d:List A7) (l:List cR),y∈Ls d l x↔y∈l\/∃r∈d,r.head.name=x/\y∈(r.bl.filter KT).map λq=>q.1.A.name
 |[],l=>by simp[Ls]
 |r::d,l=>by
  have ih:=JH x y d (LA x l r);unfold Ls at ih⊢;rw[cC,ih];unfold LA;cases hr:(r.head.name.toList==x.toList)with
  |true=>
   have g:=Of hr;simp only[if_true,Je];constructor
   .rintro ((h|h)|⟨c,a,b⟩)
    .exact Or.inl h
    .exact Or.inr ⟨r,by simp,g,h⟩
    .exact Or.inr ⟨c,by simp[a],b⟩
   .rintro (h|⟨c,a,b,f⟩)
    .exact Or.inl (Or.inl h)
    .rcases bS.1 a with rfl|a
     .exact Or.inl (Or.inr f)
     .exact Or.inr ⟨c,a,b,f⟩
  |false=>
   (have i:r.head.name≠x:=λe=>by rw[e]at hr;simp at hr);simp only[bN,if_false];constructor
   .rintro (h|⟨c,a,b⟩)
    .exact Or.inl h
    .exact Or.inr ⟨c,by simp[a],b⟩
   .rintro (h|⟨c,a,b,f⟩)
    .exact Or.inl h
    .rcases bS.1 a with rfl|a
     .exact absurd b i
     .exact Or.inr ⟨c,a,b,f⟩
theorem ND{cs:List A7}{c:A7}(d:c∈cs){l:List cR}:∀(b:List AY) (a:List cR),(∀q∈b,q∈c.bl)->D7 cs l a->D7 cs l (b.foldl eA a)
 |[],a,_,h=>h
 |q::b,a,hs,h=>by
  rw[cC];exact ND d b _ (λe f=>hs e (by simp[f])) (h.eA d (hs q (by simp)))
theorem OA{cs:List A7}{l:List cR}(x:cR):∀(a:List A7) (b:List cR),(∀c∈a,c∈cs)->D7 cs l b->D7 cs l (Ls a b x)
 |[],b,_,h=>h
 |c::a,b,hs,h=>by
  unfold Ls;rw[cC];refine OA x a _ (λf e=>hs f (by simp[e])) ?_;unfold LA;split
  .exact ND (hs c (by simp)) c.bl _ (λq d=>d) h
  .exact h
theorem Ot{cs:List A7}{s d:cR}:∀(f:Nat) (l:List cR) (n:Nat),2+(Di cs).length<=f+n->Bd cs l->n<=l.length->(∀i (h:i<l.length),i<n->l[i]≠d)->
  (∀i (h:i<l.length),i<n->∀r∈cs,r.head.name=l[i]->∀y∈(r.bl.filter KT).map (λq=>q.1.A.name),y∈l)->s∈l->(∀y∈l,RS cs s y)->(I0 f cs d l n=true↔RS cs s d)
 |0,l,n,hf,hb,hn,_,_,_,_=>by
  unfold Bd at hb;omega
 |f+1,l,n,hf,hb,hn,hno,hcl,hfr,hso=>by
  rw[I0];by_cases k:n<l.length
  .rw[dif_pos k];cases he:(l[n].toList==d.toList)with
   |true=>
    have:=Of he;simp only[if_true,true_iff];rw[<-this];exact hso _ (bL k)
   |false=>
    simp only[bN,if_false];have m:D7 cs l (Ls cs l l[n]):=OA l[n] cs l (λc D=>D) ⟨⟨[],by simp⟩,hb⟩;(have w:l[n]≠d:=λe=>by rw[e]at he;simp at he);have E:=m.len.1;refine Ot f (Ls cs l l[n]) (n+1) (by omega) m.bd (by omega) ?_ ?_ ((JH _ _ _ _).2 (Or.inl hfr)) ?_
    .intro i j t;obtain⟨_,e⟩:=m.at (show i<l.length by omega);rw[e];rcases eO (show i<=n by omega)with a|a
     .exact hno i (by omega) a
     .subst a;exact w
    .intro i j t r g b y p;obtain⟨_,e⟩:=m.at (show i<l.length by omega);rw[e]at b;rw[JH];rcases eO (show i<=n by omega)with a|a
     .exact Or.inl (hcl i (by omega) a r g b y p)
     .subst a;exact Or.inr ⟨r,g,b,p⟩
    .intro y p;rcases(JH _ _ _ _).1 p with a|⟨r,g,b,x⟩
     .exact hso y a
     .intro S C u;have v:=hso _ (bL k) S C u;rw[<-b]at v;exact u r g v y (by unfold Gy;exact cF _ x)
  .rw[dif_neg k];simp only[bN,false_iff];intro B;have t:d∈l:=B (λz=>z∈l) hfr (λr g b z o=>by
    obtain⟨i,j,e⟩:=cN b
    unfold Gy at o
    rcases bS.1 o with rfl|o
    .exact b
    .exact hcl i j (by omega) r g e.symm z o)
   obtain⟨i,j,e⟩:=cN t;exact hno i j (by omega) e
theorem Kl(cs:List A7)(a b:cR):Gz cs a b=true↔RS cs a b:=by
 unfold Gz;refine Ot _ [a] 0 (by omega) ?_ (by simp) (λi h e=>by omega) (λi h e=>by omega) (by simp) (λy c S d _=>by simp at c;subst c;exact d);unfold Bd NU;have:=fT (p:=λx=> !Dz [a] x) (l:=Di cs);simp only[bU,cE];omega
structure Gf(l:PL):Prop where
 some:A6 l=true->0<l.ts.length
 le:l.ts.length<=151
 plain:A6 l=false->l.ts=[]
 bare:A6 l=true->l.l=Ay/\l.r=Ay
theorem NG{ms:List AW}:∀(k a:Nat) (c:List A3) {b:List A3} {n:Nat},ms.length-a<=k->FT ms a c=.ok (b,n)->0<b.length/\b.length<=c.length+(ms.length-a+1)/2
 |k,a,c,b,n,hk,h=>by
  unfold FT at h;split at h
  .rename_i d;split at h
   .cases h
   .split at h
    .match k with
     |0=>omega
     |k+1=>
      have:=NG k (a+2) _ (by omega) h;simp only[cc,bU,cE]at this;omega
    .split at h
     .simp only[de,cP]at h;rw[<-h.1];simp only[cc,bU,cE];omega
     .cases h
  .cases h
theorem Kz{ms:List AW}(c:ms.length<=301){b:Nat}{p:Nat}{s:cR}{ts:List A3}{n:Nat}(h:Et ms b=.ok ((p,s,ts),n)):0<ts.length/\ts.length<=151:=by
 unfold Et at h;split at h
 .split at h
  .split at h
   .cases h
   .rename_i a;simp only[de,cP]at h;have:=NG _ _ _ (bZ _) a;rw[<-h.1.2.2];simp only[cE]at this;omega
  .cases h
 .cases h
theorem WF{ms:List AW}(i:ms.length<=301){m:Nat}{l:X2}{n:Nat}(h:GU ms m=.ok (l,n)):Gf (IZ l):=by
 unfold GU at h;split at h
 .split at h
  .cases h
  .rename_i a j b;obtain⟨p,s,k⟩:=a;have:=Kz i b;simp only[de,cP]at h;rw[<-h.1];exact⟨λ_=>this.1,this.2,λf=>by simp[IZ,A6]at f,λ_=>⟨rfl,rfl⟩⟩
 .split at h
  .split at h
   .cases h
   .rename_i a j b;obtain⟨p,s,k⟩:=a;have:=Kz i b;simp only[de,cP]at h;rw[<-h.1];exact⟨λ_=>this.1,this.2,λf=>by simp[IZ,A6]at f,λ_=>⟨rfl,rfl⟩⟩
  .split at h
   .cases h
   .rename_i c j b;simp only[de,cP]at h;rw[<-h.1];have d:c.sort=2\/c.sort=3\/c.sort=4:=by
     unfold GR at b;split at b
     .cases b
     .split at b
      .cases b
      .rename_i o d;split at b
       .cases b
       .simp only[de,cP]at b;rw[<-b.1];unfold LK at d;split at d
        .simp only[bR]at d;exact Or.inl d.symm
        .split at d
         .simp only[bR]at d;exact Or.inr (Or.inl d.symm)
         .split at d
          .simp only[bR]at d;exact Or.inr (Or.inr d.symm)
          .cases d
    have g:A6 (IZ (.inr c))=true->False:=λf=>by
     unfold A6 IZ at f;simp only at f;rcases d with e|e|e<;>simp[e]at f
    exact⟨λf=>(g f).elim,by simp[IZ],λ_=>rfl,λf=>(g f).elim⟩
theorem Kx{ms:List AW}(f:ms.length<=301):∀(k a:Nat) (c:List PL) {d:List PL} {n:Nat},ms.length-a<=k->(∀l∈c,Gf l)->D9 ms a c=.ok (d,n)->(∀l∈d,Gf l)/\d.length<=c.length+(ms.length-a+1)/2
 |k,a,c,d,n,hk,ha,h=>by
  by_cases e:a<ms.length
  .cases hl:GU ms a with
   |error p=>rw[GZ e hl]at h;cases h
   |ok r=>
    obtain⟨l,i⟩:=r;have m:=Hw hl;have j:=WF f hl;have g:∀x∈c++[IZ l],Gf x:=by
     intro x b;rcases bY.1 b with b|b
     .exact ha x b
     .simp only[bO]at b;subst b;exact j
    rw[LJ e hl]at h;split at h
    .match k with
     |0=>omega
     |k+1=>
      have:=Kx f k (i+1) _ (by omega) g h;simp only[cc,bU,cE]at this;exact⟨this.1,by omega⟩
    .simp only[de,cP]at h;rw[<-h.1];refine⟨g,?_⟩;simp only[cc,bU,cE];omega
  .unfold D9 at h;rw[dif_neg e]at h;cases h
structure I6(c:PC):Prop where
 head:0<c.eB.length/\c.eB.length<=151
 body:c.body.length<=151
 lits:∀l∈c.body,Gf l
theorem VF{ms:List AW}{n m:Nat}{c a:PC}(h:L2 ms n c=.ok (a,m)):a=c:=by
 unfold L2 at h;split at h
 .simp only[de,cP]at h;exact h.1.symm
 .cases h
theorem Ri{ms:List AW}(a:ms.length<=301){g n:Nat}{c:PC}(h:B5 ms g=.ok (c,n)):I6 c:=by
 unfold B5 at h;split at h
 .cases h
 .rename_i p s i j f;have d:=Kz a f;split at h
  .cases h
  .split at h
   .split at h
    .cases h
    .rename_i l k e;have b:=Kx a _ _ _ (bZ _) (by simp) e;rw[VF h];simp only[cE]at b;exact⟨d,by simp only;omega,b.1⟩
   .rw[VF h];exact⟨d,by simp,by simp⟩
theorem IE{ms:List AW}(g:ms.length<=301):∀(k a:Nat) (d:List PC) {f:List PC},ms.length-a<=k->(∀c∈d,I6 c)->Du ms a d=.ok f->(∀c∈f,I6 c)/\f.length<=d.length+(ms.length-a)
 |k,a,d,f,hk,ha,h=>by
  by_cases e:a<ms.length
  .cases he:((An ms a).kind==1)with
   |true=>
    rw[Mf e he]at h;simp only[de]at h;rw[<-h];exact⟨ha,by omega⟩
   |false=>
    cases hc:B5 ms a with
    |error p=>rw[Jn e he hc]at h;cases h
    |ok r=>
     obtain⟨c,n⟩:=r;have j:=Gj hc;rw[Pe e he hc]at h;have i:∀x∈d++[c],I6 x:=by
      intro x b;rcases bY.1 b with b|b
      .exact ha x b
      .simp only[bO]at b;subst b;exact Ri g hc
     match k with
     |0=>omega
     |k+1=>
      have:=IE g k n _ (by omega) i h;simp only[cc,bU,cE]at this;exact⟨this.1,by omega⟩
  .unfold Du at h;rw[dif_neg e]at h;cases h
theorem Oo{α β:Type}(f:α->List β)(N:Nat):∀l:List α,(∀a∈l,(f a).length<=N)->(l.flatMap f).length<=l.length*N
 |[],_=>by simp
 |a::l,h=>by
  have c:=Oo f N l (λx b=>h x (by simp[b]));have d:=h a (by simp);rw[cg,cc,bU,dS];omega
theorem OY{c:C0}(h:I6 c.pc):bi c/\(BR c).length<=152:=by
 have d:c.db.length<=151:=by have:=h.body;simpa[C0.pc] using this
 have b:∀p∈c.db,Gf p.1:=λp a=>h.lits p.1 (by simp only[C0.pc];exact bV.2 ⟨p,a,rfl⟩)
 have e:0<c.eB.length/\c.eB.length<=151:=h.head;refine⟨⟨⟨⟨e.1,by omega⟩,by omega,λp a=>⟨(b p a).some,by have:=(b p a).le;omega⟩⟩,?_⟩,?_⟩
 .have f:(AU c.db).length<=c.db.length*151:=Oo _ 151 _ (λp a=>by
   unfold AI
   split
   .exact(b p a).le
   .simp)
  have:c.db.length*151<=151*151:=dj _ d;unfold Bn;rw[cc];omega
 .unfold BR Fz;have:=dw (λp=>A6 p.1) c.db;simp only[bU,bX];omega
theorem MC{cs:List A7}:∀(l:List A7) (i:Nat),DJ cs i l=none->∀k (h:k<l.length),BS cs (i+k) l[k]=none
 |[],i,_,k,h=>by simp at h
 |c::l,i,h,k,hk=>by
  rw[DJ]at h;cases hc:BS cs i c with
  |some r=>rw[hc]at h;simp at h
  |none=>
   rw[hc]at h;simp only at h;cases k with
   |zero=>exact hc
   |succ k=>
    have:=MC l (i+1) h k (by simpa using hk);rw[show i+(k+1)=i+1+k by omega];simpa using this
structure CE(cs:List A7):Prop where
 each:∀k (h:k<cs.length),BS cs k cs[k]=none
 strata:cs.findSome? (CY cs)=none
theorem QU{cs:List A7}(h:Cg cs=(0,0)):CE cs:=by
 unfold Cg at h;cases h1:DJ cs 0 cs with
 |some r=>
  rw[h1]at h;simp only at h;have:∀(l:List A7) (i:Nat) (r:Int×Int),DJ cs i l=some r->r.1≠0:=by
   intro l
   induction l with
   |nil=>intro i r b;simp[DJ]at b
   |cons c l ih=>
    intro i r b;rw[DJ]at b;cases a:BS cs i c with
    |some q=>
     rw[a]at b;simp only[bR]at b;subst b;unfold BS at a
     repeat (first
      |(split at a)
      |(simp only[bR]at a;subst a;simp)
      |(cases a))
    |none=>
     rw[a]at b;exact ih (i+1) r b
  exact absurd (by rw[h]) (this cs 0 r h1)
 |none=>
  rw[h1]at h;simp only at h;refine⟨λk e=>by have:=MC cs 0 h1 k e;simpa using this,?_⟩;cases h2:cs.findSome? (CY cs)with
  |none=>rfl
  |some r=>
   rw[h2]at h;simp only at h;obtain⟨c,_,a⟩:=List.exists_of_findSome?_eq_some h2;unfold CY at a;rw[eK]at a;obtain⟨p,_,d⟩:=a;rw[h]at d;simp at d
theorem EZ{cs:List A7}{i:Nat}{c:A7}(h:BS cs i c=none):c.bl.length<=3/\c.head.args.length<=2/\c.bl.any Bt=false/\(F8 (cs.take (i+1))).length<=6/\(Dd (cs.take (i+1))).length<=6/\CT cs c.head.name=(c.head.args.length:Int)/\c.bl.find? (BD cs)=none/\C3 c.head c.bl<0:=by
 unfold BS at h;by_cases b:12<=i\/3<c.bl.length
 .rw[if_pos b]at h;cases h
 rw[if_neg b]at h;by_cases f:2<c.head.args.length
 .rw[if_pos f]at h;cases h
 rw[if_neg f]at h;by_cases e:c.bl.any Bt=true
 .rw[if_pos e]at h;cases h
 rw[if_neg e]at h;by_cases a:6<(F8 (cs.take (i+1))).length\/6<(Dd (cs.take (i+1))).length
 .rw[if_pos a]at h;cases h
 rw[if_neg a]at h;by_cases d:CT cs c.head.name≠(c.head.args.length:Int)
 .rw[if_pos d]at h;cases h
 rw[if_neg d]at h;cases h6:c.bl.find? (BD cs)with
 |some p=>rw[h6]at h;cases h
 |none=>
  rw[h6]at h;simp only at h;by_cases g:0<=C3 c.head c.bl
  .rw[if_pos g]at h;cases h
  .simp only[not_or]at b a;exact⟨by omega,by omega,by simpa using e,by omega,by omega,by simpa using d,rfl,by omega⟩
theorem L7{a:C2}{bl:List AY}(h:C3 a bl<0):(∀t∈a.args,Ch bl t=false)/\∀p∈bl,∀t∈Au p,Ch bl t=false:=by
 unfold C3 at h;cases h1:a.args.any (Ch bl)with
 |true=>rw[h1,if_pos rfl]at h;omega
 |false=>
  rw[h1,if_neg (by simp)]at h;cases h2:bl.find? (Iu bl)with
  |some p=>rw[h2]at h;simp only at h;omega
  |none=>
   refine⟨λt b=>?_,λp d t b=>?_⟩
   .have:=(dy.1 h1) t b;simpa using this
   .have c:=(dC.1 h2) p d;unfold Iu at c;(have e:(Au p).any (Ch bl)=false:=by simpa using c);have:=(dy.1 e) t b;simpa using this
theorem FM{c:A7}{t:AG}(h:Ch c.bl t=false):Fq (Am c) t:=by
 unfold Ch at h;rw[Bool.not_eq_false',dr]at h;rcases h with h|h
 .exact Or.inl (by simpa using h)
 .right;unfold I3 at h;rw[dp]at h;obtain⟨p,b,a⟩:=h;unfold I5 at a;rw[cq]at a;unfold PG at a;rw[dp]at a;obtain⟨d,u,e,f⟩:=a;exact⟨p.1,cm b,d,u,e,by simpa using f⟩
theorem CE.fl{cs:List A7}(h:CE cs)(f:∀c∈cs,∀x∈Am c,(x.kind==97)=true->∀t∈x.A.args,Bz t):RZ cs:=by
 have i:∀c∈cs,C3 c.head c.bl<0:=by
  intro c a;obtain⟨k,d,rfl⟩:=cN a;exact(EZ (h.each k d)).2.2.2.2.2.2.2
 refine⟨f,λc a x m d=>?_,λc a t f=>FM ((L7 (i c a)).1 t f)⟩;obtain⟨p,j,rfl⟩:=bV.1 m;have b:=(L7 (i c a)).2 p j;refine⟨λg t l=>?_,λg=>?_⟩
 .refine FM (b t ?_);unfold Au KT;rw[g,fA,if_pos rfl];exact l
 .have n:KT p=false:=by unfold KT;rw[d,g];rfl
  have e:Au p=[p.1.L,p.1.R]:=by unfold Au;rw[n];rfl
  rw[e]at b;exact⟨FM (b _ (by simp)),FM (b _ (by simp))⟩
theorem CE.strat{cs:List A7}(h:CE cs):XN cs:=by
 rintro x y ⟨c,z,A,l,f,r,e⟩ n;have a:(l.kind==33)=true:=by
  rcases e with⟨_,e⟩|⟨a,_⟩
  .cases e
  .exact a
 obtain⟨p,k,rfl⟩:=bV.1 f;have i:=(fo.1 h.strata) c z;unfold CY at i;rw[Option.map_eq_none_iff,dC]at i;have g:=i p k;unfold Eb at g;rw[a,dF]at g;apply g;rw[Kl,r,A];intro S s t;refine n S s (λu v b o w=>?_);obtain⟨d,j,rfl,l,f,rfl,e⟩:=o;obtain⟨q,m,rfl⟩:=bV.1 f;refine t d j w _ ?_;unfold Gy;refine cF _ (bV.2 ⟨q,cn.2 ⟨m,?_⟩,rfl⟩);unfold KT;rcases e with⟨a,_⟩|⟨a,_⟩
 .rw[a];rfl
 .rw[a,fA]
theorem CE.levels{cs:List A7}(h:CE cs):DE cs (B0 cs 6):=by
 by_cases d:cs.length=0
 .have:cs=[]:=List.eq_nil_of_length_eq_zero d;subst this;exact⟨λc a=>by simp at a,λc a=>by simp at a⟩
 .have b:=(EZ (h.each (cs.length-1) (by omega))).2.2.2.1;rw[show cs.length-1+1=cs.length by omega,eN]at b;refine Zx h.strat (F8 cs) (λc a=>?_) b;rw[ON,(D2 _).2];exact cO.2 ⟨c,a,by unfold Gy;simp⟩
def N7(c:PC):List cR:=c.hn::(c.body.filter A6).map λl=>l.an
theorem P8(c:C0):BR c=N7 c.pc:=by
 unfold BR N7 Fz C0.pc;simp only[List.filter_map,dt];rfl
theorem GO(x:Bg):A6 (Kj x)=(x.kind==97||x.kind==33):=by
 unfold A6 Kj;simp only[RW,XT]
theorem Qy(r:A7):Gy r=N7 (aH r.erase):=by
 unfold Gy N7 aH A7.erase;simp only[dt,List.filter_map]
 congr 1
 have:(A6∘(Kj∘Prod.fst))=KT:=by
  funext q
  simp only[Function.comp,GO];rfl
 rw[this];rfl
def TY(c:Cf):A7:=⟨c.head,.slice none 0 0,.slice none 0 0,c.body.map λx=>(x,.slice none 0 0),c.at_⟩
theorem MV(c:Cf):(TY c).erase=c:=by
 unfold TY A7.erase;simp only[dt];have:(Prod.fst∘λx:Bg=>(x,Value.slice none 0 0))=id:=rfl;rw[this,List.map_id]
def bg(s:cR):cR->cR->Bool:=Gz ((AD s (Af s 0)).1.map TY)
theorem SV{l:List C0}{m:List A7}(h:l.map C0.pc=m.map λr=>aH r.erase)(x y:cR):Hh l x y↔RS m x y:=by
 have k:=F2.of_map h;constructor
 .intro e S j g;refine e S j (λc f d z b=>?_);obtain⟨r,n,a⟩:=k.zR c f;rw[P8,a,<-Qy]at b;have i:c.hn=r.head.name:=congrArg PC.hn a;rw[i]at d;exact g r n d z b
 .intro e S j g;refine e S j (λr o d z b=>?_);obtain⟨c,f,a⟩:=k.mem r o;rw[Qy,<-a,<-P8]at b;have i:c.hn=r.head.name:=congrArg PC.hn a;rw[<-i]at d;exact g c f d z b
theorem RC(s:cR):match Du (De s) 0 [] with
  | .ok cs=>(AD s (Af s 0)).2.2=false/\cs=(AD s (Af s 0)).1.map aH/\(∀c∈(AD s (Af s 0)).1,c.at_=c.head.at_)
  | .error p=>(AD s (Af s 0)).2.2=true/\p=((AD s (Af s 0)).2.1:Int):=by
 have a:At s (De s) 0 0:=by
  unfold At;rw[IH];rfl
 have:=Wd _ 0 (Af s 0) [] (bZ _) a.gap (Bk s 0 (b8 _)) (BY s 0)
 revert this
 cases Du (De s) 0 [] with
 |error p=>exact λh=>h
 |ok cs=>exact λh=>⟨h.1,by simpa using h.2.1,h.2.2⟩
theorem VO{s:cR}(n:s.size<=300){cs:List PC}(e:Du (De s) 0 []=.ok cs){a:List C0}(d:a.map C0.pc=cs):Zf (bg s) a:=by
 have j:=(Ie s).1;have h:=IE (by omega) _ 0 [] (bZ _) (by simp) e;have f:=RC s;rw[e]at f;have m:a.length=cs.length:=by rw[<-d];simp
 have g:∀c∈a,I6 c.pc:=λc b=>h.1 _ (by rw[<-d];exact bV.2 ⟨c,b,rfl⟩)
 have i:=h.2;simp only[cE]at i;refine⟨λx y=>?_,λc b=>(OY (g c b)).1,by omega,?_⟩
 .unfold bg;rw[Kl];refine(SV ?_ x y).symm;rw[d,f.2.1,dt];apply du;intro c _;simp only[Function.comp,MV]
 .have l:=Oo BR 152 a (λc b=>(OY (g c b)).2);have k:a.length*152<=301*152:=dj _ (by omega);omega
theorem Zp{c:C0}{r:A7}(h:c.pc=aH r.erase)(l:I6 c.pc)(b:Wf c)(m:r.at_=r.head.at_):Pj c r:=by
 have g:c.hp=r.head.at_:=congrArg PC.hp h;have n:c.hn=r.head.name:=congrArg PC.hn h;have e:c.eB=r.head.args.map ct:=congrArg PC.eB h;have j:c.db.map Prod.fst=r.bl.map λq=>Kj q.1:=by
  have:c.db.map Prod.fst=(r.bl.map Prod.fst).map Kj:=congrArg PC.body h;rw[this,dt];rfl
 refine⟨g,n,e,?_,by rw[b.head,e];simp,m⟩;refine(F2.of_map j).mono (λp d q o a=>⟨a,?_,λi=>?_⟩)
 .rw[b.lits p d,a];simp[Kj]
 .have k:=l.lits p.1 (bV.2 ⟨p,d,rfl⟩);have:A6 p.1=false:=by rw[a,GO];exact i
  have f:=k.plain this;rw[a]at f;simpa[Kj] using f
theorem Qw{s:cR}{e at_:Int}{r:Int×Int}(a:F7 s e at_)(b:Fo s (bg s) r):r=(e,at_):=by
 unfold F7 at a;unfold Fo at b;by_cases l:300<s.size
 .rw[if_pos l]at a b;rw[b,a.1,a.2]
 .rw[if_neg l]at a b;have d:=RC s;cases hp:Du (De s) 0 [] with
  |error p=>
   rw[hp]at d b;rw[if_pos d.1]at a;simp only at b;rw[b,a.1,a.2,d.2]
  |ok cs=>
   rw[hp]at d b;rw[if_neg (by rw[d.1];simp)]at a;obtain⟨g,i,w⟩:=a;obtain⟨j,f,q,u⟩:=b;have z:=(Ie s).1;have o:=IE (by omega) _ 0 [] (bZ _) (by simp) hp;have m:j.map C0.pc=g.map λr=>aH r.erase:=by
    rw[f,d.2.1,<-i,dt];rfl
   have hF:F2 Pj j g:=(F2.of_map m).mono (λc k h n v=>Zp v (o.1 _ (by rw[<-f];exact bV.2 ⟨c,k,rfl⟩)) (q c k) (by
    have:=d.2.2 h.erase (by rw[<-i];exact bV.2 ⟨h,n,rfl⟩)
    exact this))
   have t:∀x y,bg s x y=Gz g x y:=by
    intro x y;rw[dk,(VO (by omega) hp f).zc,Kl];exact SV m x y
   rw[u,w];exact UF hF t
theorem ZG(n:Int)(w:World):Calls prog 16 #[.int .i64 n] w λe a=>e=.returned (.int .i64 n)/\a=w:=by
 go_enter func16,ntmps16;go_wp2;go_ret;exact⟨rfl,rfl⟩
def U2(w:World)(ab ao:Nat)(len:Nat)(K:Nat->Int)(S T:Nat->cR):Prop:=
 ∀i,i<len->w.cell? ⟨ab,ao+i*3,none⟩=some (.int .i64 (K i))/\w.cell? ⟨ab,ao+i*3+1,none⟩=some (.string (S i))/\w.cell? ⟨ab,ao+i*3+2,none⟩=some (.string (T i))
theorem Mr{w w':World}(k:Ac [] w w'){a:Addr}{v:Value}(h:w.cell? a=some v):w'.cell? a=some v:=by
 rw[World.cell?_of_block (k.block a.block (World.block_lt_of_cell? w a h) (by simp))];exact h
theorem U2.kept{w w':World}{c b:Nat}{d:Nat}{K:Nat->Int}{S T:Nat->cR}(h:U2 w c b d K S T)(k:Ac [] w w'):U2 w' c b d K S T:=
 λi a=>⟨Mr k (h i a).1,Mr k (h i a).2.1,Mr k (h i a).2.2⟩
theorem Ou{s:cR}(b:s.size<=300){ls:List PL}(h:EH (De s)=.ok ls):(∀l∈ls,Gf l)/\ls.length<=151:=by
 have a:=(Ie s).1;unfold EH at h;cases hb:D9 (De s) 0 [] with
 |error p=>rw[hb]at h;cases h
 |ok r=>
  obtain⟨c,n⟩:=r;rw[hb]at h;simp only at h;split at h
  .cases h
   have:=Kx (by omega) (De s).length 0 [] (by omega) (by intro l a;cases a) hb;exact⟨this.1,by have:=this.2;simp at this;omega⟩
  .cases h
def qR(pcs:List C0)(db:List JF):Int×Int:=
 match aN pcs (AJ db)with
 |some p=>(4,p)
 |none=>match(db.find? λp=>(AI p.1).any (CI db)).map λp=>p.1.place with
  |some p=>(5,p)
  |none=>(0,0)
def ah(s:cR)(pcs:List C0)(r:Int×Int):Prop:=
 if 300<s.size then r=(1,0)
 else match EH (De s)with
  | .error p=>r=(2,p)
  | .ok ls=>if 3<ls.length then r=(3,0)else∃db:List JF,db.map Prod.fst=ls/\(∀p∈db,lenOf p.2=p.1.ts.length)/\r=qR pcs db
def Zq(s:cR)(pcs:List C0)(w:World)(lv:Value)(n:Nat)(r:Int×Int):Prop:=
 r.1=0->s.size<=300/\∃db:List JF,EH (De s)=.ok (db.map Prod.fst)/\(∀p∈db,Gf p.1)/\db.length<=3/\n=db.length/\BI w 0 lv db/\(∀p∈db,lenOf p.2=p.1.ts.length)/\qR pcs db=(0,0)
theorem BI.len{w:World}{base:Nat}{v:Value}{c:List JF}(h:BI w base v c):∀p∈c,(∃b a,p.2=.slice b p.1.ts.length a)/\lenOf p.2=p.1.ts.length:=by
 intro p d;obtain⟨b,a,e⟩:=Aj (h.each p d).1;exact⟨⟨b,a,e⟩,by rw[e];rfl⟩
set_option maxRecDepth 100000
theorem W8(s:cR)(K:Option Addr)(I:Nat)(d:List C0)(w:World)(Go:s.size<=9223372036854775807)(h:C9 w (.slice K d.length I) d)(F:∀c∈d,c.db.length<=1000)(Z:d.length<=1000):
  Calls prog 51 #[.string s,.slice K d.length I] w λe u=>∃(q:Option Addr) (n t:Nat) (r:Int×Int),e=.returned (.tuple #[.slice q n t,.int .i64 r.1,.int .i64 r.2])/\ah s d r/\Zq s d u (.slice q n t) n r/\Ac [] w u:=by
 have M:=Ab (And.intro h (And.intro F Z));clear h F Z;by_cases Bx:300<s.size
 .have j:Hid (ah s d (1,0)):=by show ah _ _ _;unfold ah;rw[if_pos Bx]
  go_enter func51,ntmps51;go_wp2;go_ret3;exact⟨none,0,0,(1,0),rfl,j.out,(λh=>by cases h),Ac.refl _ _⟩
 .have S:s.size<=300:=by omega
  have P:=Ab (Rb s w S);have j:Hid (∀r,(match EH (De s)with
    | .error p=>r=(2,p)
    | .ok k=>if 3<k.length then r=(3,0)else∃b:List JF,b.map Prod.fst=k/\(∀p∈b,lenOf p.2=p.1.ts.length)/\r=qR d b)->ah s d r):=by
   intro r hr;unfold ah;rw[if_neg Bx];exact hr
  have N:Hid (∀k,EH (De s)=.ok k->(∀l∈k,Gf l)/\k.length<=151):=λk h=>Ou S h
  go_enter func51,ntmps51;go_wp2_with fail
  refine(Aa P).mono ?_;intro e y G;cases i:EH (De s)with
  |error p=>
   rw[i]at G j;obtain⟨rfl,C⟩:=G;clear P N;go_wp2;go_ret3;exact⟨none,0,0,(2,p),rfl,j.out _ rfl,(λh=>by cases h),C⟩
  |ok k=>
   rw[i]at G j;obtain⟨q,t,b,rfl,FL,BT,C⟩:=G;obtain⟨V,EK⟩:=Aa N k i;have BA:=Ab i;subst FL;simp only[bX]at EK j⊢;(have A:Hid (∀p∈b,Gf p.1):=λp g=>V p.1 (cm g));have o:=Ab (BT.base (b8 _));have B:=Ab C;clear P N i V BT C;rw[bX]at o;by_cases h3:3<b.length
   .have EY:=Ab (Aa j (3,0) (by rw[if_pos h3]));clear j;go_wp2;go_ret3;exact⟨none,0,0,(3,0),rfl,EY.out,(λh=>by cases h),Aa B⟩
   ·(have F:b.length<=3:=by omega);have E:Hid (ah s d (qR d b)):=Aa j _ (by rw[if_neg h3];exact⟨b,rfl,λp g=>((Aa o).len p g).2,rfl⟩);have R:=Ab (Ke q t b y (Aa o) (by omega));have D:Hid (∀x v f,Ac [] y f->f.ownsRow y.heap.size 187 3 (.slice x (AJ b).length v) (AJ b).length ((AJ b).flatMap AF)->Calls prog 91 #[.slice x (AJ b).length v,.slice K d.length I] f λe u=>e=.returned (Bv (aN d (AJ b)))/\Ac [] f u):=by
     intro x v f z J;refine J7 x v (AJ b) _ K I d f J ?_ (by have:=Dt b;omega) ?_ ((Aa M).1.kept ((Aa B).trans z)) (Aa M).2.1 (Aa M).2.2
     .intro a i;unfold AJ at i;obtain⟨p,g,rfl⟩:=bV.1 i;obtain⟨⟨FA,FC,e'⟩,_⟩:=(Aa o).len p (cn.1 g).1;exact⟨FA,_,FC,e'⟩
     .intro a i;unfold AJ at i;obtain⟨p,g,rfl⟩:=bV.1 i;have h1:=((Aa o).len p (cn.1 g).1).2;have h2:=(Aa A p (cn.1 g).1).le;simp only;omega
    have H:Hid (∀f,Ac [] y f->Calls prog 93 #[.slice q b.length t] f λe u=>e=.returned (Bv ((b.find? λp=>(AI p.1).any (CI b)).map λp=>p.1.place))/\Ac [] f u):=by
     intro f z;have W:∀p∈b,(AI p.1).length<=1000:=λp g=>by
      have:=(Aa A p g).le;unfold AI;split<;>simp<;>omega
     refine GT q t b f ((Aa o).kept z (by simp)) (by omega) (λp g O=>?_) W ?_
     .have:=Aa A p g;exact⟨this.some (by unfold A6;rw[O];rfl),by have:=this.le;omega⟩
     .have h1:=QO b;have h2:=He W;omega
    have m:Hid (qR d b=match aN d (AJ b)with
     |some p=>(4,p)
     |none=>match(b.find? λp=>(AI p.1).any (CI b)).map λp=>p.1.place with
      |some p=>(5,p)
      |none=>(0,0)):=by show _=_;rfl
    (have U:Hid (qR d b=(0,0)->∀f,Ac [] y f->Zq s d f (.slice q b.length t) b.length (0,0)):=λO f z _=>⟨S,b,Aa BA,Aa A,F,rfl,(Aa o).kept z (by simp),λp g=>((Aa o).len p g).2,O⟩);generalize AJ b=AT at R D m;generalize aN d AT=AO at D m;generalize(b.find? λp=>(AI p.1).any (CI b)).map (λp=>p.1.place)=UO at H m;generalize qR d b=QR at E m U;clear j o A BA M;(go_wp2_with fail);refine(Aa R).mono ?_;rintro e w2 ⟨x,v,rfl,J,T⟩;have AB:=Ab (Aa D x v w2 T J);have Ax:=Ab T;clear J T R D;(go_wp2_with fail);refine(Aa AB).mono ?_;rintro e w3 ⟨rfl,X⟩;have L:=Ab ((Aa Ax).trans X);clear X AB Ax;cases AO with
    |some p=>
     simp only[Bv];have HE:=Ab (Aa m);clear m H;go_wp2;go_ret3;exact⟨none,0,0,4,p,rfl,by have:=Aa E;rw[Aa HE]at this;exact this,(λh=>by cases h),(Aa B).trans (Aa L)⟩
    |none=>
     simp only[Bv];have Y:=Ab (Aa H w3 (Aa L));clear H;(go_wp2_with fail);refine(Aa Y).mono ?_;rintro e w4 ⟨rfl,k4⟩;have Q:=Ab ((Aa L).trans k4);clear k4 Y L;cases UO with
     |some p=>
      simp only[Bv];go_wp2;go_ret3;exact⟨none,0,0,5,p,rfl,by have:=Aa E;rw[Aa m]at this;exact this,(λh=>by cases h),(Aa B).trans (Aa Q)⟩
     |none=>
      simp only[Bv];go_wp2;go_ret3;exact⟨q,b.length,t,0,0,rfl,by have:=Aa E;rw[Aa m]at this;exact this,Aa U (Aa m) _ (Aa Q),(Aa B).trans (Aa Q)⟩
