import Derived.Test.YtoihbhenbmffcaaGreatDoorZAZ
set_option linter.unusedVariables false
set_option linter.unusedSimpArgs false
set_option maxHeartbeats 6400000
namespace Go.Proofs.YtoihbhenbmffcaaGreatDoor
open Go.RowKit
open Go.Proofs.Tryz
def F2{α β:Type}(R:α->β->Prop):List α->List β->Prop
 |[],[]=>True
 |a::l,b::m=>R a b/\F2 R l m
 |_,_=>False
theorem F2.nil{α β:Type}{R:α->β->Prop}:F2 R ([]:List α) ([]:List β):=trivial
theorem F2.cons{α β:Type}{R:α->β->Prop}{a:α}{b:β}{l:List α}{m:List β}(h:R a b)(t:F2 R l m):F2 R (a::l) (b::m):=⟨h,t⟩
theorem F2.ind{α β:Type}{R:α->β->Prop}{motive:(l:List α)->(m:List β)->F2 R l m->Prop}(nil:motive [] [] F2.nil)(cons:∀{a:α} {b:β} {l:List α} {m:List β} (h:R a b) (t:F2 R l m),motive l m t->motive (a::l) (b::m) (F2.cons h t)):∀{l:List α} {m:List β} (h:F2 R l m),motive l m h
 |[],[],_=>nil
 |[],_::_,h=>h.elim
 |_::_,[],h=>h.elim
 |_::_,_::_,h=>cons h.1 h.2 (F2.ind nil cons h.2)
theorem F2.of_map{α β γ:Type}{f:α->γ}{g:β->γ}:∀{l:List α} {m:List β},l.map f=m.map g->F2 (λa b=>f a=g b) l m
 |[],[],_=>F2.nil
 |[],_::_,h=>by simp at h
 |_::_,[],h=>by simp at h
 |a::l,b::m,h=>by
  simp only[aI,dj]at h;exact F2.cons h.1 (F2.of_map h.2)
theorem F2.length{α β:Type}{R:α->β->Prop}{l:List α}{m:List β}(h:F2 R l m):l.length=m.length:=by
 induction h using F2.ind with
 |nil=>rfl
 |cons _ _ ih=>simp[ih]
theorem F2.take{α β:Type}{R:α->β->Prop}{l:List α}{m:List β}(h:F2 R l m)(k:Nat):F2 R (l.take k) (m.take k):=by
 induction h using F2.ind generalizing k with
 |nil=>simp;exact F2.nil
 |cons h1 _ ih=>
  cases k with
  |zero=>simp;exact F2.nil
  |succ k=>simp only[dd];exact F2.cons h1 (ih k)
theorem F2.flatMap{α β γ:Type}{R:α->β->Prop}{f:α->List γ}{g:β->List γ}(c:∀a b,R a b->f a=g b){l:List α}{m:List β}(h:F2 R l m):l.flatMap f=m.flatMap g:=by
 induction h using F2.ind with
 |nil=>rfl
 |cons h1 _ ih=>rw[aB,aB,c _ _ h1,ih]
theorem F2.find{α β γ:Type}{R:α->β->Prop}{f:α->Bool}{g:β->Bool}{u:α->γ}{v:β->γ}(d:∀a b,R a b->f a=g b/\u a=v b){l:List α}{m:List β}(h:F2 R l m):(l.find? f).map u=(m.find? g).map v:=by
 induction h using F2.ind with
 |nil=>rfl
 |cons h1 _ ih=>
  obtain⟨e,c⟩:=d _ _ h1;rw[cS,cS,e];split
  ·simp[c]
  ·exact ih
theorem F2.mem{α β:Type}{R:α->β->Prop}{l:List α}{m:List β}(h:F2 R l m):∀b∈m,∃a∈l,R a b:=by
 induction h using F2.ind with
 |nil=>intro b c;simp at c
 |cons h1 _ ih=>
  intro b c;rcases aj.1 c with rfl|c
  ·exact⟨_,by simp,h1⟩
  ·obtain⟨a,d,e⟩:=ih b c;exact⟨a,by simp[d],e⟩
theorem F2.mem1{α β:Type}{R:α->β->Prop}{l:List α}{m:List β}(h:F2 R l m):∀a∈l,∃b∈m,R a b:=by
 induction h using F2.ind with
 |nil=>intro b c;simp at c
 |cons h1 _ ih=>
  intro b c;rcases aj.1 c with rfl|c
  ·exact⟨_,by simp,h1⟩
  ·obtain⟨a,d,e⟩:=ih b c;exact⟨a,by simp[d],e⟩
theorem F2.mono{α β:Type}{R S:α->β->Prop}{l:List α}{m:List β}(h:F2 R l m)(c:∀a∈l,∀b∈m,R a b->S a b):F2 S l m:=by
 induction h using F2.ind with
 |nil=>exact F2.nil
 |cons h1 _ ih=>exact F2.cons (c _ (by simp) _ (by simp) h1) (ih (λa d b e=>c a (by simp[d]) b (by simp[e])))
structure UX(p:MH)(q:Bm):Prop where
 eq:p.1=Lg q.1
 len:lenOf p.2=q.1.A.args.length
 plain:Nf q=false->q.1.A.args=[]
theorem Uo(t:AG):((ct t).v==0)=(t.v==0):=by
 unfold ct;simp only;rw[bJ];simp only[b8];constructor
 ·intro h;apply bQ.1;rw[show(0:UInt8).toNat=0 from rfl]
  omega
 ·intro h;rw[h];rfl
theorem Zj(t:AG)(v:UInt8):((ct t).v==(v.toNat:Int))=(t.v==v):=by
 unfold ct;simp only;rw[bJ];simp only[b8];constructor
 ·intro h;apply bQ.1;omega
 ·intro h;rw[h]
theorem QW(k:UInt8):(Fd k==0)=(k==97):=by
 unfold Fd;by_cases h:k=97
 ·simp[h]
 ·by_cases a:k=33
  ·simp[a]
  ·by_cases b:k=61
   ·simp[b]
   ·by_cases c:k=35
    ·simp[c]
    ·simp[h,a,b,c]
theorem WS(k:UInt8):(Fd k==1)=(k==33):=by
 unfold Fd;by_cases h:k=97
 ·simp[h]
 ·by_cases a:k=33
  ·simp[a]
  ·by_cases b:k=61
   ·simp[b]
   ·by_cases c:k=35
    ·simp[c]
    ·simp[h,a,b,c]
theorem UX.atom{p:MH}{q:Bm}(h:UX p q):A5 p.1=Nf q:=by
 unfold A5 Nf;rw[h.eq];simp only[Lg,QW,WS]
theorem UX.terms{p:MH}{q:Bm}(h:UX p q):AS p.1=(A2 q).map ct:=by
 unfold AS A2;rw[h.atom,h.eq];split<;>simp[Lg]
structure Qg(c:Da)(r:Bf):Prop where
 hp:c.hp=r.head.at_
 hn:c.hn=r.head.name
 hts:c.hts=r.head.args.map ct
 lits:F2 UX c.lvs r.bl
 len:lenOf c.hv=r.head.args.length
 at_:r.at_=r.head.at_
def Gg(r:Bf):List cL:=r.head.name::(r.bl.filter Nf).map λq=>q.1.A.name
def Gs(r:Bf):List AG:=r.head.args++r.bl.flatMap A2
theorem Tx{a:List MH}{b:List Bm}(h:F2 UX a b):Ff a=(b.filter Nf).map λq=>q.1.A.name:=by
 unfold Ff
 induction h using F2.ind with
 |nil=>rfl
 |cons h1 _ ih=>
  rw[bL,bL,h1.atom];split
  ·rw[aI,aI,ih,h1.eq];rfl
  ·exact ih
theorem Qg.names{c:Da}{r:Bf}(h:Qg c r):BL c=Gg r:=by
 unfold BL Gg;rw[h.hn,Tx h.lits]
theorem Qg.terms{c:Da}{r:Bf}(h:Qg c r):Bj c=(Gs r).map ct:=by
 unfold Bj Gs Bg;rw[h.hts,bm,ev,F2.flatMap (λa b d=>d.terms) h.lits]
def K0(r:Bf):List cL:=((Gs r).filter λt=>t.v==0).map λt=>t.s
theorem Qg.things{c:Da}{r:Bf}(h:Qg c r):Gu c=(K0 r).map FM:=by
 unfold Gu K0;rw[h.terms,List.filter_map,bX,bX];have e:(Gs r).filter ((λt=>t.v==0)∘ct)=(Gs r).filter λt=>t.v==0:=by
  apply List.filter_congr;intro t _;exact Uo t
 rw[e];rfl
theorem Rg(f:cL->cL)(h:∀a b,f a=f b->a=b)(l:List cL):(Zi (l.map f)).length=(Zi l).length:=by
 rw[show(Zi l).length=((Zi l).map f).length from by simp]
 refine JS (Ei _).1 (List.Pairwise.map f (λa b g e=>g (h a b e)) (Ei l).1) (λy=>?_);rw[(Ei _).2,az,az];constructor
 ·rintro ⟨x,d,c⟩;exact⟨x,((Ei l).2 x).2 d,c⟩
 ·rintro ⟨x,d,c⟩;exact⟨x,((Ei l).2 x).1 d,c⟩
theorem Ro(l:List cL)(r:Bf):JE l r=(Gg r).foldl Ci l:=by
 unfold JE Gg;rw[aR];generalize Ci l r.head.name=l0
 induction r.bl generalizing l0 with
 |nil=>rfl
 |cons q bl ih=>
  rw[aR,bL];unfold nameL;cases hq:Nf q with
  |true=>
   simp only[if_true,aI,aR];exact ih _
  |false=>
   simp only[Z8,if_false];exact ih _
theorem J7{α β γ:Type}(f:γ->β->γ)(g:α->List β):∀(l:List α) (c:γ),(l.flatMap g).foldl f c=l.foldl (λc a=>(g a).foldl f c) c
 |[],c=>rfl
 |a::l,c=>by rw[aB,bD,aR,J7 f g l]
theorem N6(cs:List Bf):FK cs=Zi (cs.flatMap Gg):=by
 unfold FK Zi;rw[J7]
 congr 1
 funext l r
 exact Ro l r
theorem L5(x y:cL):∀(l:List cL) (a:List cL×Bool),(y∈(l.foldl (Cx x) a).1↔y∈a.1\/y∈l\/(y=x/\a.2=false/\(l.foldl (Cx x) a).2=true))/\(a.2=true->(l.foldl (Cx x) a).2=true)
 |[],a=>by
  refine⟨?_,λh=>h⟩;simp only[List.foldl_nil,bE,false_or];constructor
  ·exact Or.inl
  ·rintro (h|⟨_,f,e⟩)
   ·exact h
   ·rw[f]at e;cases e
 |z::l,a=>by
  obtain⟨b,c⟩:=L5 x y l (Cx x a z);rw[aR];unfold Cx at b c⊢;cases hb:(!a.2&&ES x z)with
  |true=>
   have d:a.2=false:=by
    cases h:a.2 with
    |false=>rfl
    |true=>rw[h]at hb;simp at hb
   rw[hb]at b c;simp only[if_true]at b c⊢;have g:=c trivial;refine⟨?_,λh=>by rw[d]at h;cases h⟩;rw[b,g,d];simp only[aw,aj,bE,Bool.true_eq_false,false_and,and_false,or_false,true_and,and_true,and_self];constructor
   ·rintro ((h|h)|h)
    ·rcases h with h|h
     ·exact Or.inl h
     ·exact Or.inr (Or.inr h)
    ·exact Or.inr (Or.inl (Or.inl h))
    ·exact Or.inr (Or.inl (Or.inr h))
   ·rintro (h|(h|h)|h)
    ·exact Or.inl (Or.inl (Or.inl h))
    ·exact Or.inl (Or.inr h)
    ·exact Or.inr h
    ·exact Or.inl (Or.inl (Or.inr h))
  |false=>
   rw[hb]at b c;simp only[Z8,if_false]at b c⊢;refine⟨?_,c⟩;rw[b];simp only[aw,aj,bE,or_false];constructor
   ·rintro ((h|h)|h|h)
    ·exact Or.inl h
    ·exact Or.inr (Or.inl (Or.inl h))
    ·exact Or.inr (Or.inl (Or.inr h))
    ·exact Or.inr (Or.inr h)
   ·rintro (h|(h|h)|h)
    ·exact Or.inl (Or.inl h)
    ·exact Or.inl (Or.inr h)
    ·exact Or.inr (Or.inl h)
    ·exact Or.inr (Or.inr h)
theorem VD(l:List cL)(x y:cL):y∈GK l x↔y=x\/y∈l:=by
 have h:=(L5 x y l ([],false)).1;unfold GK;unfold Kv;cases hf:(l.foldl (Cx x) ([],false)).2 with
 |true=>
  rw[hf]at h;simp only[if_true];rw[h];simp only[bE,false_or,true_and,and_true,and_self];exact⟨λh=>by rcases h with h|h;exact Or.inr h;exact Or.inl h,λh=>by rcases h with h|h;exact Or.inr h;exact Or.inl h⟩
 |false=>
  rw[hf]at h;simp only[Z8,if_false,aw,ae];rw[h];simp only[bE,false_or,Z8,and_false,or_false];exact⟨λh=>by rcases h with h|h;exact Or.inr h;exact Or.inl h,λh=>by rcases h with h|h;exact Or.inr h;exact Or.inl h⟩
structure Mq(a b:List cL):Prop where
 mem:∀y,y∈a↔y∈b
 len:a.length=b.length
theorem Mq.addT{a b:List cL}(h:Mq a b)(t:AG):Mq (addT a t) (if t.v==0 then Ci b t.s else b):=by
 unfold Go.Proofs.YtoihbhenbmffcaaGreatDoor.addT Ci;cases hv:(t.v==0)with
 |false=>simpa using h
 |true=>
  have e:Dn a t.s=Dn b t.s:=by rw[bJ,KY,KY,h.mem]
  rw[e];cases hh:Dn b t.s with
  |true=>simpa using h
  |false=>
   simp only[bG,cN,if_true,Z8,if_false];refine⟨λy=>?_,by rw[Ls,h.len];simp⟩;rw[VD,h.mem];simp only[aw,ae];exact⟨λh=>by rcases h with h|h;exact Or.inr h;exact Or.inl h,λh=>by rcases h with h|h;exact Or.inr h;exact Or.inl h⟩
theorem Mq.addP{a b:List cL}(h:Mq a b):∀d:List AG,Mq (addP a d) (((d.filter λt=>t.v==0).map λt=>t.s).foldl Ci b):=by
 intro d;unfold Go.Proofs.YtoihbhenbmffcaaGreatDoor.addP
 induction d generalizing a b with
 |nil=>exact h
 |cons t d ih=>
  rw[aR,bL];have c:=h.addT t;cases hv:(t.v==0)with
  |true=>
   rw[hv]at c;simp only[if_true]at c⊢;rw[aI,aR];exact ih c
  |false=>
   rw[hv]at c;simp only[Z8,if_false]at c⊢;exact ih c
theorem R0(l:List cL)(a b:List AG):addP l (a++b)=addP (addP l a) b:=by
 unfold addP;rw[bD]
theorem To(l:List cL)(r:Bf):Iq l r=addP l (Gs r):=by
 unfold Iq Gs;rw[R0];generalize addP l r.head.args=l0
 induction r.bl generalizing l0 with
 |nil=>rfl
 |cons q bl ih=>
  rw[aR,aB,R0];exact ih _
theorem Qa(cs:List Bf):Mq (Ey cs) (Zi (cs.flatMap K0)):=by
 unfold Ey Zi;rw[J7];have:∀(l:List Bf) (a b:List cL),Mq a b->Mq (l.foldl Iq a) (l.foldl (λc r=>(K0 r).foldl Ci c) b):=by
  intro l
  induction l with
  |nil=>intro a b h;exact h
  |cons r l ih=>
   intro a b h;rw[aR,aR];refine ih _ _ ?_;rw[To];exact h.addP _
 exact this cs [] [] ⟨λy=>Iff.rfl,rfl⟩
abbrev Z0:=Int×cL×Nat
def QF(a:F6):Z0:=(a.place,a.name,lenOf a.tv)
def EM(r:Bf):List Z0:=((r.head.at_:Int),r.head.name,r.head.args.length)::(r.bl.filter Nf).map λq=>((q.1.A.at_:Int),q.1.A.name,q.1.A.args.length)
theorem Tj{a:List MH}{b:List Bm}(h:F2 UX a b):(A7 a).map QF=(b.filter Nf).map λq=>((q.1.A.at_:Int),q.1.A.name,q.1.A.args.length):=by
 unfold A7
 induction h using F2.ind with
 |nil=>rfl
 |cons h1 _ ih=>
  rw[bL,bL,h1.atom];split
  ·rw[aI,aI,aI,ih]
   congr 1
   unfold QF;simp only;rw[h1.eq,h1.len];rfl
  ·exact ih
theorem Qg.atoms{c:Da}{r:Bf}(h:Qg c r):(Bh c).map QF=EM r:=by
 unfold Bh EM;rw[aI,Tj h.lits]
 congr 1
 unfold QF;simp only;rw[h.hp,h.hn,h.len]
def ZF(x:cL)(p:cL×Nat):Bool:=p.1.toList==x.toList
def MX(L:List (cL×Nat))(x:cL):Int:=match L.find? (ZF x)with|some p=>p.2|none=> -1
def Yi(L:List (cL×Nat))(a:Z0):Bool:=MX L a.2.1 !=(a.2.2:Int)
def Gp(cs:List Bf):List (cL×Nat):=cs.flatMap λr=>(EM r).map λa=>a.2
theorem Q5(a:List Bm)(x:cL):QS a x=(((a.filter Nf).map λq=>(q.1.A.name,q.1.A.args.length)).find? (ZF x)).map λp=>p.2:=by
 unfold QS
 induction a with
 |nil=>rfl
 |cons q a ih=>
  rw[dr,bL];cases hq:Nf q with
  |false=>
   simp only[cX,Z8,if_false];exact ih
  |true=>
   simp only[cn,if_true,aI];rw[cS];unfold ZF;simp only;cases hn:(q.1.A.name.toList==x.toList)with
   |true=>rfl
   |false=>exact ih
theorem Q3(r:Bf)(x:cL):Gj r x=(((EM r).map λa=>a.2).find? (ZF x)).map λp=>p.2:=by
 unfold Gj EM;rw[aI,cS,Q5,bX];unfold ZF;simp only;cases h:(r.head.name.toList==x.toList)with
 |true=>rfl
 |false=>rfl
theorem Pc(cs:List Bf)(x:cL):DL cs x=MX (Gp cs) x:=by
 have:cs.findSome? (Gj · x)=((Gp cs).find? (ZF x)).map λp=>p.2:=by
  unfold Gp
  induction cs with
  |nil=>rfl
  |cons r cs ih=>
   rw[dr,aB,dU,Q3,ih];cases((EM r).map λa=>a.2).find? (ZF x)<;>rfl
 unfold DL MX;rw[this];cases(Gp cs).find? (ZF x)<;>rfl
theorem RS(L:List (cL×Nat))(r:Bf):((EM r).find? (Yi L)).map (λa=>a.1)=
  if MX L r.head.name≠(r.head.args.length:Int)then some (r.head.at_:Int)else(r.bl.find? λq=>Nf q&&(MX L q.1.A.name !=(q.1.A.args.length:Int))).map λq=>(q.1.A.at_:Int):=by
 unfold EM;rw[cS];have e:Yi L ((r.head.at_:Int),r.head.name,r.head.args.length)=(MX L r.head.name !=(r.head.args.length:Int)):=rfl;rw[e];cases hh:(MX L r.head.name !=(r.head.args.length:Int))with
 |true=>
  have:MX L r.head.name≠(r.head.args.length:Int):=by simpa using hh
  rw[if_pos this];rfl
 |false=>
  have:¬MX L r.head.name≠(r.head.args.length:Int):=by simpa using hh
  rw[if_neg this];simp only
  induction r.bl with
  |nil=>rfl
  |cons q bl ih=>
   rw[bL,cS];cases hq:Nf q with
   |false=>
    simp only[cX,Z8,if_false];exact ih
   |true=>
    simp only[cn,if_true,aI];rw[cS];have b:Yi L ((q.1.A.at_:Int),q.1.A.name,q.1.A.args.length)=(MX L q.1.A.name !=(q.1.A.args.length:Int)):=rfl;rw[b];cases(MX L q.1.A.name !=(q.1.A.args.length:Int))with
    |true=>rfl
    |false=>exact ih
theorem Qg.bound{c:Da}{r:Bf}(h:Qg c r)(v:UInt8):Mt c.lvs (v.toNat:Int)=IA r.bl v:=by
 unfold Mt IA Fv;have b:=h.lits;generalize c.lvs=lvs at b;generalize r.bl=bl at b
 induction b using F2.ind with
 |nil=>rfl
 |cons h1 _ ih=>
  rw[aB,ex,dx,ih]
  congr 1
  unfold IC OR;rw[h1.eq];simp only[Lg,QW];split
  ·rename_i a;rw[a,dK];simp only[cn];apply KM;intro t _;exact Zj t v
  ·rename_i a;simp only[Bool.not_eq_true]at a;rw[a];rfl
theorem Qg.loose{c:Da}{r:Bf}(h:Qg c r)(t:AG):Mv c (ct t)=Ca r.bl t:=by
 unfold Mv Ca;have e:((ct t).v !=0)= !(t.v==0):=by rw[bne,Uo]
 rw[e];have:(ct t).v=(t.v.toNat:Int):=rfl;rw[this,h.bound];cases(t.v==0)<;>simp
theorem Qg.unsaf{c:Da}{r:Bf}(h:Qg c r):GY c=if 0<=E7 r.head r.bl then some (E7 r.head r.bl)else none:=by
 unfold GY E7;have d:c.hts.any (Mv c)=r.head.args.any (Ca r.bl):=by
  rw[h.hts,dK];apply KM;intro t _;exact h.loose t
 have b:(c.lvs.find? λp=>(AS p.1).any (Mv c)).map (λp=>p.1.place)=(r.bl.find? (Hw r.bl)).map λq=>(q.1.at_:Int):=by
  refine F2.find (λp q a=>⟨?_,?_⟩) h.lits
  ·unfold Hw;rw[a.terms,dK];apply KM;intro t _;exact h.loose t
  ·rw[a.eq];rfl
 rw[d,b,h.hp];cases r.head.args.any (Ca r.bl)with
 |true=>
  simp only[if_true];rw[if_pos (by omega)]
 |false=>
  simp only[Z8,if_false];cases r.bl.find? (Hw r.bl)with
  |none=>rfl
  |some q=>
   simp only[cQ];rw[if_pos (by omega)]
theorem Qg.great{c:Da}{r:Bf}(h:Qg c r):IE c=(decide (2<r.head.args.length)||r.bl.any Bp||decide (3<r.bl.length)):=by
 unfold IE;rw[h.lits.length]
 congr 1
 have e:(Bh c).any (λa=>decide (2<lenOf a.tv))=(EM r).any λa=>decide (2<a.2.2):=by
  rw[<-h.atoms,dK];rfl
 rw[e];unfold EM;rw[dx]
 congr 1
 have d:∀q∈r.bl,Nf q=false->q.1.A.args=[]:=λq b=>by
  obtain⟨p,_,f⟩:=h.lits.mem q b;exact f.plain
 generalize r.bl=bl at d
 induction bl with
 |nil=>rfl
 |cons q bl ih=>
  rw[bL,dx];have ih:=ih (λq b=>d q (by simp[b]));cases b:Nf q with
  |true=>
   simp only[if_true,aI,dx];rw[ih];rfl
  |false=>
   have:=d q (by simp) b;simp only[Z8,if_false];rw[ih];unfold Bp;rw[this];rfl
theorem Vj{d:List Da}{e:List Bf}(h:F2 Qg d e):Gp e=((d.flatMap Bh).map QF).map λa=>a.2:=by
 unfold Gp;rw[ev,<-F2.flatMap (f:=λc=>(Bh c).map QF) (g:=EM) (λa b i=>i.atoms) h|>.symm,ev]
theorem XY{a:List Da}{b:List Bf}(h:F2 Qg a b)(x:cL):ZJ a x=((Gp b).find? (ZF x)).map λp=>p.2:=by
 rw[Vj h,bX,List.find?_map,Option.map_map];rfl
theorem XD{d:List Da}{b:List Bf}(h:F2 Qg d b){c:Da}{r:Bf}(j:Qg c r)(k:∀a∈EM r,a.2∈Gp b)(f:IE c=false):
  ZQ d (Bh c)=((EM r).find? (Yi (Gp b))).map λa=>a.1:=by
 unfold ZQ;rw[<-j.atoms,List.find?_map,Option.map_map];have e:(Bh c).find? (PA d)=(Bh c).find? (Yi (Gp b)∘QF):=by
  apply Lo;intro a i;have m:¬2<lenOf a.tv:=by
   unfold IE at f;simp only[dA]at f;have:=(bW.1 f.1) a i;simpa using this
  have l:(QF a).2∈Gp b:=k _ (by rw[<-j.atoms];exact aM i);have g:((Gp b).find? (ZF a.name)).isSome=true:=by
   rw[List.find?_isSome];exact⟨_,l,by simp[ZF,QF]⟩
  unfold PA Yi MX;simp only[Function.comp];rw[XY h];rw[show(QF a).2.1=a.name from rfl,show(QF a).2.2=lenOf a.tv from rfl]
  cases hq:(Gp b).find? (ZF a.name)with
  |none=>rw[hq]at g;cases g
  |some p=>
   simp only[cQ,m,ee,cU];rw[bJ];simp only[dk,bc,bne_iff_ne,ne_eq];omega
 rw[e];rfl
theorem VU{f:List Da}{d:List Bf}(h:F2 Qg f d){k:Nat}{c:Da}{r:Bf}(e:Qg c r)(x:∀a∈EM r,a.2∈Gp d):
  S3 f k c=BN d k r:=by
 have s:=XD h e x;have w:(Zi ((f.take (k+1)).flatMap BL)).length=(FK (d.take (k+1))).length:=by
  rw[N6,F2.flatMap (λa b n=>n.names) (h.take (k+1))]
 have v:(Zi ((f.take (k+1)).flatMap Gu)).length=(Ey (d.take (k+1))).length:=by
  rw[(Qa _).len,F2.flatMap (g:=λr=>(K0 r).map FM) (λa b n=>n.things) (h.take (k+1)),<-ev,Rg _ (λa b=>T2)]
 unfold S3 BN SW;rw[e.great]at s;rw[w,v,e.great,e.unsaf,Pc,e.hp,e.at_];generalize(FK (d.take (k+1))).length=N;generalize(Ey (d.take (k+1))).length=T;cases hcond:((decide (12<k+1)||decide (6<N)||decide (6<T))||(decide (2<r.head.args.length)||r.bl.any Bp||decide (3<r.bl.length)))with
 |true=>
  rw[if_pos rfl];by_cases j:12<=k\/3<r.bl.length
  ·rw[if_pos j]
  ·rw[if_neg j];by_cases m:2<r.head.args.length
   ·rw[if_pos m]
   ·rw[if_neg m];by_cases o:r.bl.any Bp=true
    ·rw[if_pos o]
    ·rw[if_neg o];by_cases i:6<N\/6<T
     ·rw[if_pos i]
     ·exfalso
      simp only[bN,dS]at hcond;simp only[not_or]at j i;rcases hcond with((h|h)|h)|((h|h)|h)
      ·omega
      ·exact i.1 h
      ·exact i.2 h
      ·exact m h
      ·exact o h
      ·exact j.2 h
 |false=>
  simp only[dA,dm]at hcond;obtain⟨⟨⟨B,C⟩,D⟩,⟨t,p⟩,z⟩:=hcond;rw[s (by simp only[t,p,z,ee,eE]),RS];rw[if_neg (show¬(false=true) by simp),if_neg (show¬(12<=k\/3<r.bl.length) by omega),if_neg t,if_neg (show¬(r.bl.any Bp=true) by rw[p];simp),if_neg (show¬(6<N\/6<T) by omega)];by_cases l:MX (Gp d) r.head.name≠(r.head.args.length:Int)
  ·rw[if_pos l,if_pos l]
  ·rw[if_neg l,if_neg l];have u:(r.bl.find? λq=>Nf q&&(MX (Gp d) q.1.A.name !=(q.1.A.args.length:Int)))=r.bl.find? (Bu d):=by
    apply Lo;intro q _;unfold Bu;rw[Pc]
   rw[u];cases r.bl.find? (Bu d)with
   |some q=>rfl
   |none=>
    simp only[Option.map_none];by_cases y:0<=E7 r.head r.bl<;>simp[y]
theorem TC{f:List Da}{b:List Bf}(h:F2 Qg f b):∀{l:List Da} {m:List Bf},F2 Qg l m->∀(k:Nat),(∀r∈m,r∈b)->L3 f k l=Dx b k m:=by
 intro l m i
 induction i using F2.ind with
 |nil=>intro k _;rfl
 |cons hc _ ih=>
  rename_i c r l m _;intro k e;have d:∀a∈EM r,a.2∈Gp b:=λa g=>bh.2 ⟨r,e r (by simp),aM g⟩
  rw[L3,Dx,VU h hc d];cases hs:BN b k r with
  |some x=>rfl
  |none=>exact ih (k+1) (λr d=>e r (by simp[d]))
theorem Tp{d:List Da}{a:List Bf}(h:F2 Qg d a){f:cL->cL->Bool}(i:∀x y,f x y=Gh a x y):(Mk f d).map (λp=>((6:Int),p))=a.findSome? (CZ a):=by
 unfold Mk;have g:∀{l:List Da} {m:List Bf},F2 Qg l m->(l.findSome? (I9 f)).map (λp=>((6:Int),p))=m.findSome? (CZ a):=by
  intro l m j
  induction j using F2.ind with
  |nil=>rfl
  |cons hc _ ih=>
   rename_i c r l m _;rw[dr,dr];have e:(I9 f c).map (λp=>((6:Int),p))=CZ a r:=by
    unfold I9 CZ;rw[Option.map_map];refine F2.find (λp q b=>⟨?_,?_⟩) hc.lits
    ·unfold JY DZ;rw[b.eq,i,hc.hn];simp only[Lg,WS]
    ·simp only[Function.comp];rw[b.eq];rfl
   rw[<-e];cases I9 f c with
   |some p=>rfl
   |none=>exact ih
 exact g h
theorem TJ{b:List Da}{a:List Bf}(h:F2 Qg b a){f:cL->cL->Bool}(c:∀x y,f x y=Gh a x y):OY f b=Cj a:=by
 unfold OY Cj;rw[TC h h 0 (λr d=>d),<-Tp h c];cases Dx a 0 a with
 |some r=>rfl
 |none=>
  simp only;cases Mk f b<;>rfl
def QT(cs:List Bf)(x y:cL):Prop:=∀S:cL->Prop,S x->(∀r∈cs,S r.head.name->∀z∈Gg r,S z)->S y
theorem Nt{a b:cL}(h:(a.toList==b.toList)=true):a=b:=(Eb.eqv a b).1 h
theorem IK(y:cL):∀(a:List Bm) (l:List cL),y∈a.foldl nameL l↔y∈l\/y∈(a.filter Nf).map λq=>q.1.A.name
 |[],l=>by simp
 |q::a,l=>by
  rw[aR,IK y a,bL];unfold nameL;cases hq:Nf q with
  |false=>simp only[Z8,if_false]
  |true=>
   simp only[if_true,Pv,aI,aj];constructor
   ·rintro ((h|h)|h)
    ·exact Or.inr (Or.inl h)
    ·exact Or.inl h
    ·exact Or.inr (Or.inr h)
   ·rintro (h|h|h)
    ·exact Or.inl (Or.inr h)
    ·exact Or.inl (Or.inl h)
    ·exact Or.inr h
theorem Jb(x y:cL):∀(d:List Bf) (l:List cL),y∈KC d l x↔y∈l\/∃r∈d,r.head.name=x/\y∈(r.bl.filter Nf).map λq=>q.1.A.name
 |[],l=>by simp[KC]
 |r::d,l=>by
  have ih:=Jb x y d (KJ x l r);unfold KC at ih⊢;rw[aR,ih];unfold KJ;cases hr:(r.head.name.toList==x.toList)with
  |true=>
   have g:=Nt hr;simp only[if_true,IK];constructor
   ·rintro ((h|h)|⟨c,a,b⟩)
    ·exact Or.inl h
    ·exact Or.inr ⟨r,by simp,g,h⟩
    ·exact Or.inr ⟨c,by simp[a],b⟩
   ·rintro (h|⟨c,a,b,f⟩)
    ·exact Or.inl (Or.inl h)
    ·rcases aj.1 a with rfl|a
     ·exact Or.inl (Or.inr f)
     ·exact Or.inr ⟨c,a,b,f⟩
  |false=>
   (have i:r.head.name≠x:=λe=>by rw[e]at hr;simp at hr);simp only[Z8,if_false];constructor
   ·rintro (h|⟨c,a,b⟩)
    ·exact Or.inl h
    ·exact Or.inr ⟨c,by simp[a],b⟩
   ·rintro (h|⟨c,a,b,f⟩)
    ·exact Or.inl h
    ·rcases aj.1 a with rfl|a
     ·exact absurd b i
     ·exact Or.inr ⟨c,a,b,f⟩
theorem MR{cs:List Bf}{c:Bf}(d:c∈cs){l:List cL}:∀(b:List Bm) (a:List cL),(∀q∈b,q∈c.bl)->DU cs l a->DU cs l (b.foldl nameL a)
 |[],a,_,h=>h
 |q::b,a,hs,h=>by
  rw[aR];exact MR d b _ (λe f=>hs e (by simp[f])) (h.nameL d (hs q (by simp)))
theorem NN{cs:List Bf}{l:List cL}(x:cL):∀(a:List Bf) (b:List cL),(∀c∈a,c∈cs)->DU cs l b->DU cs l (KC a b x)
 |[],b,_,h=>h
 |c::a,b,hs,h=>by
  unfold KC;rw[aR];refine NN x a _ (λf e=>hs f (by simp[e])) ?_;unfold KJ;split
  ·exact MR (hs c (by simp)) c.bl _ (λq d=>d) h
  ·exact h
theorem ND{cs:List Bf}{s d:cL}:∀(f:Nat) (l:List cL) (n:Nat),2+(C7 cs).length<=f+n->Bd cs l->n<=l.length->(∀i (h:i<l.length),i<n->l[i]≠d)->
  (∀i (h:i<l.length),i<n->∀r∈cs,r.head.name=l[i]->∀y∈(r.bl.filter Nf).map (λq=>q.1.A.name),y∈l)->s∈l->(∀y∈l,QT cs s y)->(Iw f cs d l n=true↔QT cs s d)
 |0,l,n,hf,hb,hn,_,_,_,_=>by
  unfold Bd at hb;omega
 |f+1,l,n,hf,hb,hn,hno,hcl,hfr,hso=>by
  rw[Iw];by_cases k:n<l.length
  ·rw[dif_pos k];cases he:(l[n].toList==d.toList)with
   |true=>
    have:=Nt he;simp only[if_true,true_iff];rw[<-this];exact hso _ (Z7 k)
   |false=>
    simp only[Z8,if_false];have m:DU cs l (KC cs l l[n]):=NN l[n] cs l (λc D=>D) ⟨⟨[],by simp⟩,hb⟩;(have w:l[n]≠d:=λe=>by rw[e]at he;simp at he);have E:=m.len.1;refine ND f (KC cs l l[n]) (n+1) (by omega) m.bd (by omega) ?_ ?_ ((Jb _ _ _ _).2 (Or.inl hfr)) ?_
    ·intro i j t;obtain⟨_,e⟩:=m.at (show i<l.length by omega);rw[e];rcases dg (show i<=n by omega)with a|a
     ·exact hno i (by omega) a
     ·subst a;exact w
    ·intro i j t r g b y p;obtain⟨_,e⟩:=m.at (show i<l.length by omega);rw[e]at b;rw[Jb];rcases dg (show i<=n by omega)with a|a
     ·exact Or.inl (hcl i (by omega) a r g b y p)
     ·subst a;exact Or.inr ⟨r,g,b,p⟩
    ·intro y p;rcases(Jb _ _ _ _).1 p with a|⟨r,g,b,x⟩
     ·exact hso y a
     ·intro S C u;have v:=hso _ (Z7 k) S C u;rw[<-b]at v;exact u r g v y (by unfold Gg;exact be _ x)
  ·rw[dif_neg k];simp only[Z8,false_iff];intro B;have t:d∈l:=B (λz=>z∈l) hfr (λr g b z o=>by
    obtain⟨i,j,e⟩:=aZ b
    unfold Gg at o
    rcases aj.1 o with rfl|o
    ·exact b
    ·exact hcl i j (by omega) r g e.symm z o)
   obtain⟨i,j,e⟩:=aZ t;exact hno i j (by omega) e
theorem JP(cs:List Bf)(a b:cL):Gh cs a b=true↔QT cs a b:=by
 unfold Gh;refine ND _ [a] 0 (by omega) ?_ (by simp) (λi h e=>by omega) (λi h e=>by omega) (by simp) (λy c S d _=>by simp at c;subst c;exact d);unfold Bd Na;have:=ej (p:=λx=> !Dn [a] x) (l:=C7 cs);simp only[ak,aH];omega
structure My(l:PL):Prop where
 some:A5 l=true->0<l.ts.length
 le:l.ts.length<=151
 plain:A5 l=false->l.ts=[]
 bare:A5 l=true->l.l=AC/\l.r=AC
theorem MW{c:List AV}:∀(k a:Nat) (d:List A3) {b:List A3} {n:Nat},c.length-a<=k->Fw c a d= .ok (b,n)->0<b.length/\b.length<=d.length+(c.length-a+1)/2
 |k,a,d,b,n,hk,h=>by
  unfold Fw at h;split at h
  ·rename_i e;split at h
   ·cases h
   ·split at h
    ·match k with
     |0=>omega
     |k+1=>
      have:=MW k (a+2) _ (by omega) h;simp only[am,ak,aH]at this;omega
    ·split at h
     ·simp only[bz,aY]at h;rw[<-h.1];simp only[am,ak,aH];omega
     ·cases h
  ·cases h
theorem JZ{a:List AV}(d:a.length<=301){c:Nat}{p:Nat}{s:cL}{ts:List A3}{n:Nat}(h:Em a c= .ok ((p,s,ts),n)):0<ts.length/\ts.length<=151:=by
 unfold Em at h;split at h
 ·split at h
  ·split at h
   ·cases h
   ·rename_i b;simp only[bz,aY]at h;have:=MW _ _ _ (au _) b;rw[<-h.1.2.2];simp only[aH]at this;omega
  ·cases h
 ·cases h
theorem VA{g:List AV}(j:g.length<=301){o:Nat}{l:W9}{n:Nat}(h:GC g o= .ok (l,n)):My (Iv l):=by
 unfold GC at h;split at h
 ·split at h
  ·cases h
  ·rename_i a k b;obtain⟨p,s,m⟩:=a;have:=JZ j b;simp only[bz,aY]at h;rw[<-h.1];exact⟨λ_=>this.1,this.2,λf=>by simp[Iv,A5]at f,λ_=>⟨rfl,rfl⟩⟩
 ·split at h
  ·split at h
   ·cases h
   ·rename_i a k b;obtain⟨p,s,m⟩:=a;have:=JZ j b;simp only[bz,aY]at h;rw[<-h.1];exact⟨λ_=>this.1,this.2,λf=>by simp[Iv,A5]at f,λ_=>⟨rfl,rfl⟩⟩
  ·split at h
   ·cases h
   ·rename_i c k b;simp only[bz,aY]at h;rw[<-h.1];have d:c.sort=2\/c.sort=3\/c.sort=4:=by
     unfold GA at b;split at b
     ·cases b
     ·split at b
      ·cases b
      ·rename_i q d;split at b
       ·cases b
       ·simp only[bz,aY]at b;rw[<-b.1];unfold KU at d;split at d
        ·simp only[ai]at d;exact Or.inl d.symm
        ·split at d
         ·simp only[ai]at d;exact Or.inr (Or.inl d.symm)
         ·split at d
          ·simp only[ai]at d;exact Or.inr (Or.inr d.symm)
          ·cases d
    have i:A5 (Iv (.inr c))=true->False:=λf=>by
     unfold A5 Iv at f;simp only at f;rcases d with e|e|e<;>simp[e]at f
    exact⟨λf=>(i f).elim,by simp[Iv],λ_=>rfl,λf=>(i f).elim⟩
theorem Np{a:List AV}(g:a.length<=301):∀(k b:Nat) (d:List PL) {e:List PL} {n:Nat},a.length-b<=k->(∀l∈d,My l)->ER a b d= .ok (e,n)->(∀l∈e,My l)/\e.length<=d.length+(a.length-b+1)/2
 |k,b,d,e,n,hk,ha,h=>by
  by_cases f:b<a.length
  ·cases hl:GC a b with
   |error p=>rw[GI f hl]at h;cases h
   |ok r=>
    obtain⟨l,j⟩:=r;have o:=G9 hl;have m:=VA g hl;have i:∀x∈d++[Iv l],My x:=by
     intro x c;rcases aw.1 c with c|c
     ·exact ha x c
     ·simp only[ae]at c;subst c;exact m
    rw[KT f hl]at h;split at h
    ·match k with
     |0=>omega
     |k+1=>
      have:=Np g k (j+1) _ (by omega) i h;simp only[am,ak,aH]at this;exact⟨this.1,by omega⟩
    ·simp only[bz,aY]at h;rw[<-h.1];refine⟨i,?_⟩;simp only[am,ak,aH];omega
  ·unfold ER at h;rw[dif_neg f]at h;cases h
structure ID(c:PC):Prop where
 head:0<c.hts.length/\c.hts.length<=151
 body:c.body.length<=151
 lits:∀l∈c.body,My l
theorem UG{b:List AV}{n m:Nat}{c a:PC}(h:Li b n c= .ok (a,m)):a=c:=by
 unfold Li at h;split at h
 ·simp only[bz,aY]at h;exact h.1.symm
 ·cases h
theorem Qm{a:List AV}(b:a.length<=301){i n:Nat}{c:PC}(h:B3 a i= .ok (c,n)):ID c:=by
 unfold B3 at h;split at h
 ·cases h
 ·rename_i p s j k g;have e:=JZ b g;split at h
  ·cases h
  ·split at h
   ·split at h
    ·cases h
    ·rename_i m l f;have d:=Np b _ _ _ (au _) (by simp) f;rw[UG h];simp only[aH]at d;exact⟨e,by simp only;omega,d.1⟩
   ·rw[UG h];exact⟨e,by simp,by simp⟩
theorem If{a:List AV}(i:a.length<=301):∀(k b:Nat) (e:List PC) {g:List PC},a.length-b<=k->(∀c∈e,ID c)->Dj a b e= .ok g->(∀c∈g,ID c)/\g.length<=e.length+(a.length-b)
 |k,b,e,g,hk,ha,h=>by
  by_cases f:b<a.length
  ·cases he:((Ao a b).kind==1)with
   |true=>
    rw[Lu f he]at h;simp only[bz]at h;rw[<-h];exact⟨ha,by omega⟩
   |false=>
    cases hc:B3 a b with
    |error p=>rw[IU f he hc]at h;cases h
    |ok r=>
     obtain⟨c,n⟩:=r;have l:=FZ hc;rw[Oq f he hc]at h;have j:∀x∈e++[c],ID x:=by
      intro x d;rcases aw.1 d with d|d
      ·exact ha x d
      ·simp only[ae]at d;subst d;exact Qm i hc
     match k with
     |0=>omega
     |k+1=>
      have:=If i k n _ (by omega) j h;simp only[am,ak,aH]at this;exact⟨this.1,by omega⟩
  ·unfold Dj at h;rw[dif_neg f]at h;cases h
theorem QC{α β:Type}(f:α->List β)(N:Nat):∀l:List α,(∀a∈l,(f a).length<=N)->(l.flatMap f).length<=l.length*N
 |[],_=>by simp
 |a::l,h=>by
  have c:=QC f N l (λx b=>h x (by simp[b]));have d:=h a (by simp);rw[aB,am,ak,ce];omega
theorem Oe{c:Da}(h:ID c.pc):ZR c/\(BL c).length<=152:=by
 have d:c.lvs.length<=151:=by have:=h.body;simpa[Da.pc] using this
 have b:∀p∈c.lvs,My p.1:=λp a=>h.lits p.1 (by simp only[Da.pc];exact az.2 ⟨p,a,rfl⟩)
 have e:0<c.hts.length/\c.hts.length<=151:=h.head;refine⟨⟨⟨⟨e.1,by omega⟩,by omega,λp a=>⟨(b p a).some,by have:=(b p a).le;omega⟩⟩,?_⟩,?_⟩
 ·have f:(Bg c.lvs).length<=c.lvs.length*151:=QC _ 151 _ (λp a=>by
   unfold AS
   split
   ·exact(b p a).le
   ·simp)
  have:c.lvs.length*151<=151*151:=bA _ d;unfold Bj;rw[am];omega
 ·unfold BL Ff;have:=bO (λp=>A5 p.1) c.lvs;simp only[ak,aD];omega
theorem LW{cs:List Bf}:∀(l:List Bf) (i:Nat),Dx cs i l=none->∀k (h:k<l.length),BN cs (i+k) l[k]=none
 |[],i,_,k,h=>by simp at h
 |c::l,i,h,k,hk=>by
  rw[Dx]at h;cases hc:BN cs i c with
  |some r=>rw[hc]at h;simp at h
  |none=>
   rw[hc]at h;simp only at h;cases k with
   |zero=>exact hc
   |succ k=>
    have:=LW l (i+1) h k (by simpa using hk);rw[show i+(k+1)=i+1+k by omega];simpa using this
structure CP(cs:List Bf):Prop where
 each:∀k (h:k<cs.length),BN cs k cs[k]=none
 strata:cs.findSome? (CZ cs)=none
theorem PW{cs:List Bf}(h:Cj cs=(0,0)):CP cs:=by
 unfold Cj at h;cases h1:Dx cs 0 cs with
 |some r=>
  rw[h1]at h;simp only at h;have:∀(l:List Bf) (i:Nat) (r:Int×Int),Dx cs i l=some r->r.1≠0:=by
   intro l
   induction l with
   |nil=>intro i r b;simp[Dx]at b
   |cons c l ih=>
    intro i r b;rw[Dx]at b;cases a:BN cs i c with
    |some q=>
     rw[a]at b;simp only[ai]at b;subst b;unfold BN at a
     repeat (first
      |(split at a)
      |(simp only[ai]at a;subst a;simp)
      |(cases a))
    |none=>
     rw[a]at b;exact ih (i+1) r b
  exact absurd (by rw[h]) (this cs 0 r h1)
 |none=>
  rw[h1]at h;simp only at h;refine⟨λk e=>by have:=LW cs 0 h1 k e;simpa using this,?_⟩;cases h2:cs.findSome? (CZ cs)with
  |none=>rfl
  |some r=>
   rw[h2]at h;simp only at h;obtain⟨c,_,a⟩:=List.exists_of_findSome?_eq_some h2;unfold CZ at a;rw[de]at a;obtain⟨p,_,d⟩:=a;rw[h]at d;simp at d
theorem F0{cs:List Bf}{i:Nat}{c:Bf}(h:BN cs i c=none):c.bl.length<=3/\c.head.args.length<=2/\c.bl.any Bp=false/\(FK (cs.take (i+1))).length<=6/\(Ey (cs.take (i+1))).length<=6/\DL cs c.head.name=(c.head.args.length:Int)/\c.bl.find? (Bu cs)=none/\E7 c.head c.bl<0:=by
 unfold BN at h;by_cases b:12<=i\/3<c.bl.length
 ·rw[if_pos b]at h;cases h
 rw[if_neg b]at h;by_cases f:2<c.head.args.length
 ·rw[if_pos f]at h;cases h
 rw[if_neg f]at h;by_cases e:c.bl.any Bp=true
 ·rw[if_pos e]at h;cases h
 rw[if_neg e]at h;by_cases a:6<(FK (cs.take (i+1))).length\/6<(Ey (cs.take (i+1))).length
 ·rw[if_pos a]at h;cases h
 rw[if_neg a]at h;by_cases d:DL cs c.head.name≠(c.head.args.length:Int)
 ·rw[if_pos d]at h;cases h
 rw[if_neg d]at h;cases h6:c.bl.find? (Bu cs)with
 |some p=>rw[h6]at h;cases h
 |none=>
  rw[h6]at h;simp only at h;by_cases g:0<=E7 c.head c.bl
  ·rw[if_pos g]at h;cases h
  ·simp only[not_or]at b a;exact⟨by omega,by omega,by simpa using e,by omega,by omega,by simpa using d,rfl,by omega⟩
theorem O7{b:CQ}{a:List Bm}(h:E7 b a<0):(∀t∈b.args,Ca a t=false)/\∀p∈a,∀t∈A2 p,Ca a t=false:=by
 unfold E7 at h;cases h1:b.args.any (Ca a)with
 |true=>rw[h1,if_pos rfl]at h;omega
 |false=>
  rw[h1,if_neg (by simp)]at h;cases h2:a.find? (Hw a)with
  |some p=>rw[h2]at h;simp only at h;omega
  |none=>
   refine⟨λt c=>?_,λp e t c=>?_⟩
   ·have:=(bW.1 h1) t c;simpa using this
   ·have d:=(cg.1 h2) p e;unfold Hw at d;(have f:(A2 p).any (Ca a)=false:=by simpa using d);have:=(bW.1 f) t c;simpa using this
theorem GL{c:Bf}{t:AG}(h:Ca c.bl t=false):FQ (Al c) t:=by
 unfold Ca at h;rw[Bool.not_eq_false',bN]at h;rcases h with h|h
 ·exact Or.inl (by simpa using h)
 ·right;unfold IA at h;rw[bI]at h;obtain⟨p,b,a⟩:=h;unfold IC at a;rw[aO]at a;unfold OR at a;rw[bI]at a;obtain⟨d,u,e,f⟩:=a;exact⟨p.1,aM b,d,u,e,by simpa using f⟩
theorem CP.good{cs:List Bf}(h:CP cs)(f:∀c∈cs,∀x∈Al c,(x.kind==97)=true->∀t∈x.A.args,BD t):QZ cs:=by
 have i:∀c∈cs,E7 c.head c.bl<0:=by
  intro c a;obtain⟨k,d,rfl⟩:=aZ a;exact(F0 (h.each k d)).2.2.2.2.2.2.2
 refine⟨f,λc a x m d=>?_,λc a t f=>GL ((O7 (i c a)).1 t f)⟩;obtain⟨p,j,rfl⟩:=az.1 m;have b:=(O7 (i c a)).2 p j;refine⟨λg t l=>?_,λg=>?_⟩
 ·refine GL (b t ?_);unfold A2 Nf;rw[g,dJ,if_pos rfl];exact l
 ·have n:Nf p=false:=by unfold Nf;rw[d,g];rfl
  have e:A2 p=[p.1.L,p.1.R]:=by unfold A2;rw[n];rfl
  rw[e]at b;exact⟨GL (b _ (by simp)),GL (b _ (by simp))⟩
theorem CP.strat{cs:List Bf}(h:CP cs):WP cs:=by
 rintro x y ⟨c,z,A,l,f,r,e⟩ n;have a:(l.kind==33)=true:=by
  rcases e with⟨_,e⟩|⟨a,_⟩
  ·cases e
  ·exact a
 obtain⟨p,k,rfl⟩:=az.1 f;have i:=(dy.1 h.strata) c z;unfold CZ at i;rw[Option.map_eq_none_iff,cg]at i;have g:=i p k;unfold DZ at g;rw[a,cn]at g;apply g;rw[JP,r,A];intro S s t;refine n S s (λu v b o w=>?_);obtain⟨d,j,rfl,l,f,rfl,e⟩:=o;obtain⟨q,m,rfl⟩:=az.1 f;refine t d j w _ ?_;unfold Gg;refine be _ (az.2 ⟨q,aJ.2 ⟨m,?_⟩,rfl⟩);unfold Nf;rcases e with⟨a,_⟩|⟨a,_⟩
 ·rw[a];rfl
 ·rw[a,dJ]
theorem CP.levels{cs:List Bf}(h:CP cs):Dt cs (BV cs 6):=by
 by_cases d:cs.length=0
 ·have:cs=[]:=du d;subst this;exact⟨λc a=>by simp at a,λc a=>by simp at a⟩
 ·have b:=(F0 (h.each (cs.length-1) (by omega))).2.2.2.1;rw[show cs.length-1+1=cs.length by omega,dv]at b;refine YC h.strat (FK cs) (λc a=>?_) b;rw[N6,(Ei _).2];exact bh.2 ⟨c,a,by unfold Gg;simp⟩
def Ni(c:PC):List cL:=c.hn::(c.body.filter A5).map λl=>l.an
theorem Pd(c:Da):BL c=Ni c.pc:=by
 unfold BL Ni Ff Da.pc;simp only[List.filter_map,bX];rfl
theorem KV(x:By):A5 (Lg x)=(x.kind==97||x.kind==33):=by
 unfold A5 Lg;simp only[QW,WS]
theorem PF(r:Bf):Gg r=Ni (Zx r.erase):=by
 unfold Gg Ni Zx Bf.erase;simp only[bX,List.filter_map]
 congr 1
 have:(A5∘(Lg∘Prod.fst))=Nf:=by
  funext q
  simp only[Function.comp,KV];rfl
 rw[this];rfl
def SZ(c:Cm):Bf:=⟨c.head, .slice none 0 0, .slice none 0 0,c.body.map λx=>(x, .slice none 0 0),c.at_⟩
theorem Mf(c:Cm):(SZ c).erase=c:=by
 unfold SZ Bf.erase;simp only[bX];have:(Prod.fst∘λx:By=>(x,Value.slice none 0 0))=id:=rfl;rw[this,List.map_id]
def ZO(s:cL):cL->cL->Bool:=Gh ((Au s (Af s 0)).1.map SZ)
theorem R3{l:List Da}{m:List Bf}(h:l.map Da.pc=m.map λr=>Zx r.erase)(x y:cL):GW l x y↔QT m x y:=by
 have k:=F2.of_map h;constructor
 ·intro e S j g;refine e S j (λc f d z b=>?_);obtain⟨r,n,a⟩:=k.mem1 c f;rw[Pd,a,<-PF]at b;have i:c.hn=r.head.name:=congrArg PC.hn a;rw[i]at d;exact g r n d z b
 ·intro e S j g;refine e S j (λr o d z b=>?_);obtain⟨c,f,a⟩:=k.mem r o;rw[PF,<-a,<-Pd]at b;have i:c.hn=r.head.name:=congrArg PC.hn a;rw[<-i]at d;exact g c f d z b
theorem QD(s:cL):match Dj (Fo s) 0 [] with
  | .ok cs=>(Au s (Af s 0)).2.2=false/\cs=(Au s (Af s 0)).1.map Zx/\(∀c∈(Au s (Af s 0)).1,c.at_=c.head.at_)
  | .error p=>(Au s (Af s 0)).2.2=true/\p=((Au s (Af s 0)).2.1:Int):=by
 have a:At s (Fo s) 0 0:=by
  unfold At;rw[J8];rfl
 have:=U8 _ 0 (Af s 0) [] (au _) a.gap (AN s 0 (aG _)) (AZ s 0)
 revert this
 cases Dj (Fo s) 0 [] with
 |error p=>exact λh=>h
 |ok cs=>exact λh=>⟨h.1,by simpa using h.2.1,h.2.2⟩
theorem UN{s:cL}(n:s.size<=300){cs:List PC}(e:Dj (Fo s) 0 []= .ok cs){a:List Da}(d:a.map Da.pc=cs):Ym (ZO s) a:=by
 have j:=(KL s).1;have h:=If (by omega) _ 0 [] (au _) (by simp) e;have f:=QD s;rw[e]at f;have m:a.length=cs.length:=by rw[<-d];simp
 have g:∀c∈a,ID c.pc:=λc b=>h.1 _ (by rw[<-d];exact az.2 ⟨c,b,rfl⟩)
 have i:=h.2;simp only[aH]at i;refine⟨λx y=>?_,λc b=>(Oe (g c b)).1,by omega,?_⟩
 ·unfold ZO;rw[JP];refine(R3 ?_ x y).symm;rw[d,f.2.1,bX];apply bT;intro c _;simp only[Function.comp,Mf]
 ·have l:=QC BL 152 a (λc b=>(Oe (g c b)).2);have k:a.length*152<=301*152:=bA _ (by omega);omega
theorem Yv{c:Da}{r:Bf}(h:c.pc=Zx r.erase)(l:ID c.pc)(b:Wf c)(m:r.at_=r.head.at_):Qg c r:=by
 have g:c.hp=r.head.at_:=congrArg PC.hp h;have n:c.hn=r.head.name:=congrArg PC.hn h;have e:c.hts=r.head.args.map ct:=congrArg PC.hts h;have j:c.lvs.map Prod.fst=r.bl.map λq=>Lg q.1:=by
  have:c.lvs.map Prod.fst=(r.bl.map Prod.fst).map Lg:=congrArg PC.body h;rw[this,bX];rfl
 refine⟨g,n,e,?_,by rw[b.head,e];simp,m⟩;refine(F2.of_map j).mono (λp d q o a=>⟨a,?_,λi=>?_⟩)
 ·rw[b.lits p d,a];simp[Lg]
 ·have k:=l.lits p.1 (az.2 ⟨p,d,rfl⟩);have:A5 p.1=false:=by rw[a,KV];exact i
  have f:=k.plain this;rw[a]at f;simpa[Lg] using f
theorem PD{s:cL}{e at_:Int}{r:Int×Int}(a:Er s e at_)(b:E3 s (ZO s) r):r=(e,at_):=by
 unfold Er at a;unfold E3 at b;by_cases l:300<s.size
 ·rw[if_pos l]at a b;rw[b,a.1,a.2]
 ·rw[if_neg l]at a b;have d:=QD s;cases hp:Dj (Fo s) 0 [] with
  |error p=>
   rw[hp]at d b;rw[if_pos d.1]at a;simp only at b;rw[b,a.1,a.2,d.2]
  |ok cs=>
   rw[hp]at d b;rw[if_neg (by rw[d.1];simp)]at a;obtain⟨g,i,w⟩:=a;obtain⟨j,f,q,u⟩:=b;have z:=(KL s).1;have o:=If (by omega) _ 0 [] (au _) (by simp) hp;have m:j.map Da.pc=g.map λr=>Zx r.erase:=by
    rw[f,d.2.1,<-i,bX];rfl
   have hF:F2 Qg j g:=(F2.of_map m).mono (λc k h n v=>Yv v (o.1 _ (by rw[<-f];exact az.2 ⟨c,k,rfl⟩)) (q c k) (by
    have:=d.2.2 h.erase (by rw[<-i];exact az.2 ⟨h,n,rfl⟩)
    exact this))
   have t:∀x y,ZO s x y=Gh g x y:=by
    intro x y;rw[bJ,(UN (by omega) hp f).leans,JP];exact R3 m x y
   rw[u,w];exact TJ hF t
theorem YN(n:Int)(w:World):Calls prog 16 #[.int .i64 n] w λe a=>e= .returned (.int .i64 n)/\a=w:=by
 go_enter func16,ntmps16;go_wp2;go_ret;exact⟨rfl,rfl⟩
def T9(w:World)(ab ao:Nat)(len:Nat)(K:Nat->Int)(S T:Nat->cL):Prop:=
 ∀i,i<len->w.cell? ⟨ab,ao+i*3,none⟩=some (.int .i64 (K i))/\w.cell? ⟨ab,ao+i*3+1,none⟩=some (.string (S i))/\w.cell? ⟨ab,ao+i*3+2,none⟩=some (.string (T i))
theorem LI{w w':World}(k:Ac [] w w'){a:Addr}{v:Value}(h:w.cell? a=some v):w'.cell? a=some v:=by
 rw[World.cell?_of_block (k.block a.block (World.block_lt_of_cell? w a h) (by simp))];exact h
theorem T9.kept{w w':World}{c b:Nat}{d:Nat}{K:Nat->Int}{S T:Nat->cL}(h:T9 w c b d K S T)(k:Ac [] w w'):T9 w' c b d K S T:=
 λi a=>⟨LI k (h i a).1,LI k (h i a).2.1,LI k (h i a).2.2⟩
