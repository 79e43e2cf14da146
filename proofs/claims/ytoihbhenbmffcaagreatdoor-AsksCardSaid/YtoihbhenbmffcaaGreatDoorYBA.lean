import Derived.Test.YtoihbhenbmffcaaGreatDoorYAU
import Derived.Test.YtoihbhenbmffcaaGreatDoorYAY
import Derived.Test.YtoihbhenbmffcaaGreatDoorYAS
set_option linter.all false
set_option maxHeartbeats 0
namespace Go.Proofs.YtoihbhenbmffcaaGreatDoor
open Go.RowKit Go.Proofs.Tryz
def Ze(x:Ah):List Ah->List Ah
 |[]=>[x]
 |y::m=>if Db x y then x::y::m else y::Ze x m
def Bp(s:List Ah)(f:Ah):List Ah:=if FK s f then s else Ze f s
def E8(s:List Ah):Prop:=s.Pairwise λa b=>Db a b=true
theorem O8(x:Ah):∀(l:List Ah),(Ze x l).length=l.length+1
 |[]=>rfl
 |y::m=>by
  rw[Ze];split
  .rfl
  .rw[bU,O8 x m,bU]
theorem Ta(x:CF):∀(l:List CF),(Pk x l).map CF.f=Ze x.f (l.map CF.f)
 |[]=>rfl
 |y::m=>by
  rw[Pk,cu,Ze];split
  .rfl
  .rw[cu,Ta x m]
theorem YQ(l:List CF)(f:Ah):TJ l f=FK (l.map CF.f) f:=by
 unfold TJ FK;rw[fB];rfl
theorem Ms(l:List CF)(x:CF):(GW l x).map CF.f=Bp (l.map CF.f) x.f:=by
 unfold GW Bp;rw[YQ];split
 .rfl
 .rw[VJ,Ta]
def aX(f:Ah):CF:=⟨f,.bool false⟩
theorem ZZ(s:List Ah):(s.map aX).map CF.f=s:=by
 rw[dt];exact List.map_id s
theorem Ex{s:List Ah}{f:Ah}(u:A4 f)(j:E8 s)(t:∀p∈s,A4 p):E8 (Bp s f)/\(∀p∈Bp s f,A4 p)/\∀g,g∈Bp s f↔g∈s\/g=f:=by
 have m:FX (s.map aX):=by
  unfold FX;rw[dQ];exact j
 have k:∀p∈s.map aX,A4 p.f:=by
  intro p d;obtain⟨g,r,rfl⟩:=bV.1 d;exact t g r
 obtain⟨a,b,c⟩:=UZ (l:=s.map aX) (x:=aX f) u m k;have e:=Ms (s.map aX) (aX f);rw[ZZ]at e;have o:Bp s f=(GW (s.map aX) (aX f)).map CF.f:=e.symm;rw[o];refine⟨?_,?_,?_⟩
 .unfold E8;rw[dQ];exact a
 .intro p d;obtain⟨q,i,rfl⟩:=bV.1 d;exact b q i
 .intro g;have n:=c g;rw[bV,n];constructor
  .rintro (⟨p,d,rfl⟩|h)
   .obtain⟨q,i,rfl⟩:=bV.1 d;exact Or.inl i
   .exact Or.inr h
  .rintro (h|h)
   .exact Or.inl ⟨aX g,cm h,rfl⟩
   .exact Or.inr h
def consts(cs:List A7):List cR:=cs.flatMap λc=>(c.head.args.filter λt=>t.v==0).map AG.s
structure Eg(cs:List A7)(f:Ah):Prop where
 gi:∃c∈cs,f.name=c.head.name/\f.args.length=c.head.args.length
 args:∀x∈f.args,x∈consts cs
def Hd(l:List cR):Nat->List (List cR)
 |0=>[[]]
 |n+1=>l.flatMap λx=>(Hd l n).map (x:: ·)
def Rt(cs:List A7):List Ah:=cs.flatMap λc=>(Hd (consts cs) c.head.args.length).map (Ah.mk c.head.name)
theorem Mg(l:List cR):∀(m:List cR),(∀x∈m,x∈l)->m∈Hd l m.length
 |[],_=>by simp[Hd]
 |x::m,h=>by
  rw[bU,Hd,cO];exact⟨x,h x (by simp),bV.2 ⟨m,Mg l m (λy a=>h y (by simp[a])),rfl⟩⟩
theorem Eg.mem{cs:List A7}{f:Ah}(h:Eg cs f):f∈Rt cs:=by
 obtain⟨c,d,b,a⟩:=h.gi;unfold Rt;rw[cO];refine⟨c,d,bV.2 ⟨f.args,?_,?_⟩⟩
 .rw[<-a];exact Mg _ _ h.args
 .rw[<-b]
theorem LQ{α:Type}:∀(l m:List α),l.Nodup->(∀z∈l,z∈m)->l.length<=m.length
 |[],m,_,_=>b8 _
 |x::l,m,hn,hs=>by
  rw[dN]at hn;obtain⟨a,b,rfl⟩:=List.append_of_mem (hs x (by simp));have:=LQ l (a++b) hn.2 (λz d=>by
   have c:=hs z (by simp[d])
   rw[bY,bS]at c
   rw[bY]
   rcases c with c|c|c
   .exact Or.inl c
   .subst c;exact absurd d hn.1
   .exact Or.inr c)
  simp only[cc,bU]at this⊢;omega
theorem E8.nodup{s:List Ah}(h:E8 s)(c:∀f∈s,A4 f):s.Nodup:=by
 unfold List.Nodup;refine dV (fun{a b} ha hb hab e=>?_) h;subst e;rw[QX (c a ha)]at hab;cases hab
theorem Qf{s t:List Ah}(v:E8 s)(r:E8 t)(cs:∀f∈s,A4 f)(ct:∀f∈t,A4 f)(h:∀f,f∈s↔f∈t):s=t:=by
 have q:(s.map Df).Pairwise λa b=>Cc a b<0:=by
  rw[dQ];exact dV (fun{a b} i hb g=>(Do (cs a i) (cs b hb)).1 g) v
 have p:(t.map Df).Pairwise λa b=>Cc a b<0:=by
  rw[dQ];exact dV (fun{a b} i hb g=>(Do (ct a i) (ct b hb)).1 g) r
 have u:s.map Df=t.map Df:=by
  refine IF (lt:=λa b=>Cc a b<0) (λa i=>?_) (λa b c g o=>GL g o) _ _ q p (λx=>?_)
  .have:Cc a a=0:=(FG a a).2 rfl;omega
  .rw[bV,bV];exact⟨fun⟨f,d,e⟩=>⟨f,(h f).1 d,e⟩,fun⟨f,d,e⟩=>⟨f,(h f).2 d,e⟩⟩
 have n:∀(l m:List Ah),(∀f∈l,A4 f)->(∀f∈m,A4 f)->l.map Df=m.map Df->l=m:=by
  intro l
  induction l with
  |nil=>intro m _ _ e;cases m with|nil=>rfl|cons y m=>simp at e
  |cons x l ih=>
   intro m k j e;cases m with
   |nil=>simp at e
   |cons y m=>
    rw[cu,cu,eS]at e;rw[O9 (k x (by simp)) (j y (by simp)) e.1,ih m (λf d=>k f (by simp[d])) (λf d=>j f (by simp[d])) e.2]
 exact n s t cs ct u
def OB(cs:List A7):Prop:=∀c∈cs,∀t∈c.head.args,t.v=0->AX t.s
theorem Rj{cs:List A7}(h:OB cs):∀x∈consts cs,AX x:=by
 intro x a;unfold consts at a;obtain⟨c,e,a⟩:=cO.1 a;obtain⟨t,b,rfl⟩:=bV.1 a;obtain⟨b,d⟩:=cn.1 b;exact h c e t b (by simpa using d)
theorem Eg.canon{cs:List A7}(h:OB cs){f:Ah}(a:Eg cs f):A4 f:=λx b=>Rj h x (a.args x b)
theorem A4.fl{f:Ah}(h:A4 f):Ku f:=λx a=>(h x a).size
theorem O0{cs:List A7}(h:RZ cs){s:List Ah}(n:∀f∈s,Eg cs f)(o:∀f∈s,Ku f){c:A7}(g:c∈cs){e:List cR}(b:e∈Br (Am c) s):Eg cs (AA e c.head):=by
 refine⟨⟨c,g,rfl,by simp[AA]⟩,λx p=>?_⟩;obtain⟨t,i,rfl⟩:=bV.1 p;unfold Br at b;obtain⟨_,_,_,_,m⟩:=Dn o (Am c) [BX] (λe b=>by simp at b;rw[b];rfl) (h.args c g) e (cn.1 b).1;by_cases d:t.v=0
 .unfold AR;rw[if_pos d];unfold consts;exact cO.2 ⟨c,g,bV.2 ⟨t,cn.2 ⟨i,by rw[d];rfl⟩,rfl⟩⟩
 .rcases h.head c g t i with a|⟨y,k,j,u,l,q⟩
  .exact absurd a d
  .have a:=(n _ (m y k j).1).args (AR e u) (cm l);unfold AR at a⊢;rw[q]at a;rw[if_neg d]at a⊢;exact a
structure I7(cs:List A7)(gD:cR->Nat)(n:Nat)(s:List Ah):Prop where
 work:C8 (EW cs) (λf=>gD f.name) n (·∈s)
 en:E8 s
 gQ:∀f∈s,Eg cs f
theorem I7.start(cs:List A7)(a:cR->Nat):I7 cs a 0 []:=
 ⟨(C8.start (EW cs) (λf:Ah=>a f.name)).cong _ _ (λf=>by simp),List.Pairwise.nil,λf b=>by simp at b⟩
theorem I7.len{cs:List A7}{b:cR->Nat}{n:Nat}{s:List Ah}(c:OB cs)(h:I7 cs b n s):s.length<=(Rt cs).length:=
 LQ s (Rt cs) (h.en.nodup λf a=>(h.gQ f a).canon c) λf a=>(h.gQ f a).mem
structure OF(cs:List A7)(gD:cR->Nat):Prop where
 fl:RZ cs
 lay:DE cs gD
 gE:OB cs
theorem ZH{cs:List A7}{g:cR->Nat}(j:OF cs g){n:Nat}{i s:List Ah}(p:I7 cs g n i)(h:I7 cs g n s)(l:∀f∈i,f∈s)(r:∀f∈s,f∈i\/g f.name=n)
  {c:A7} (q:c∈cs) (u:g c.head.name=n) {e:List cR} (o:e∈Br (Am c) i):
  I7 cs g n (Bp s (AA e c.head))/\(∀f∈i,f∈Bp s (AA e c.head))/\∀f∈Bp s (AA e c.head),f∈i\/g f.name=n:=by
 have t:∀f∈i,Ku f:=λf d=>((p.gQ f d).canon j.gE).fl
 have k:=O0 j.fl p.gQ t q o;obtain⟨a,b,m⟩:=Ex (k.canon j.gE) h.en (λf d=>(h.gQ f d).canon j.gE);refine⟨⟨?_,a,λf d=>?_⟩,λf d=>(m f).2 (Or.inl (l f d)),λf d=>?_⟩
 .exact(YP j.lay j.fl h.work l r t q u o).cong _ _ (λf=>(m f).symm)
 .rcases(m f).1 d with d|d
  .exact h.gQ f d
  .rw[d];exact k
 .rcases(m f).1 d with d|d
  .exact r f d
  .right;rw[d];exact u
def GE(c:A7)(a:List Ah×Bool)(e:List cR):List Ah×Bool:=if FK a.1 (AA e c.head)then a else(Bp a.1 (AA e c.head),true)
def Cr(gD:cR->Nat)(n:Nat)(a:List Ah×Bool)(c:A7):List Ah×Bool:=if gD c.head.name=n then(Br (Am c) a.1).foldl (GE c) a else a
def DI(cs:List A7)(gD:cR->Nat)(n:Nat)(s:List Ah):List Ah×Bool:=cs.foldl (Cr gD n) (s,false)
theorem OX{cs:List A7}{b:cR->Nat}(q:OF cs b){n:Nat}{d:List Ah}(i:I7 cs b n d){c:A7}(r:c∈cs)(k:b c.head.name=n):
  ∀(l:List (List cR)) (s:List Ah) (m:Bool),(∀e∈l,e∈Br (Am c) d)->I7 cs b n s->(∀f∈d,f∈s)->(∀f∈s,f∈d\/b f.name=n)->
   I7 cs b n (l.foldl (GE c) (s,m)).1/\s.length<=(l.foldl (GE c) (s,m)).1.length/\
    ((l.foldl (GE c) (s,m)).2=false->(l.foldl (GE c) (s,m)).1=s/\m=false/\∀e∈l,AA e c.head∈s)/\
    ((l.foldl (GE c) (s,m)).2=true->m=true\/s.length<(l.foldl (GE c) (s,m)).1.length)
 |[],s,m,_,h,_,_=>⟨h,bZ _,λa=>⟨rfl,a,λe C=>by simp at C⟩,λa=>Or.inl a⟩
 |e::l,s,m,hl,h,hsub,hnew=>by
  rw[cC];have v:∀e∈l,e∈Br (Am c) d:=λx g=>hl x (by simp[g])
  cases hh:FK s (AA e c.head)with
  |true=>
   (have p:GE c (s,m) e=(s,m):=by unfold GE;rw[hh,if_pos rfl]);rw[p];obtain⟨o,t,j,u⟩:=OX q i r k l s m v h hsub hnew;refine⟨o,t,λa=>?_,u⟩;obtain⟨y,D,z⟩:=j a;refine⟨y,D,λx g=>?_⟩;rcases bS.1 g with rfl|g
   .exact(Cw _ _).1 hh
   .exact z x g
  |false=>
   (have p:GE c (s,m) e=(Bp s (AA e c.head),true):=by unfold GE;rw[hh,if_neg (by simp)]);rw[p];obtain⟨w,B,A⟩:=ZH q i h hsub hnew r k (hl e (by simp));obtain⟨o,t,j,u⟩:=OX q i r k l (Bp s (AA e c.head)) true v w B A;(have E:(Bp s (AA e c.head)).length=s.length+1:=by unfold Bp;rw[hh,if_neg (by simp),O8]);refine⟨o,by omega,λa=>?_,λa=>Or.inr (by omega)⟩;have:=(j a).2.1;cases this
theorem Jo{cs:List A7}{a:cR->Nat}(z:OF cs a){n:Nat}:
  ∀(b:List A7) (s:List Ah) (m:Bool),(∀c∈b,c∈cs)->I7 cs a n s->
   I7 cs a n (b.foldl (Cr a n) (s,m)).1/\s.length<=(b.foldl (Cr a n) (s,m)).1.length/\
    ((b.foldl (Cr a n) (s,m)).2=false->(b.foldl (Cr a n) (s,m)).1=s/\m=false/\∀c∈b,a c.head.name=n->∀e∈Br (Am c) s,AA e c.head∈s)/\
    ((b.foldl (Cr a n) (s,m)).2=true->m=true\/s.length<(b.foldl (Cr a n) (s,m)).1.length)
 |[],s,m,_,h=>⟨h,bZ _,λg=>⟨rfl,g,λc L=>by simp at L⟩,λg=>Or.inl g⟩
 |c::b,s,m,hd,h=>by
  rw[cC];have G:∀c∈b,c∈cs:=λx d=>hd x (by simp[d])
  by_cases k:a c.head.name=n
  ·(have y:Cr a n (s,m) c=(Br (Am c) s).foldl (GE c) (s,m):=by unfold Cr;rw[if_pos k]);rw[y];obtain⟨l,F,q,A⟩:=OX z h (hd c (by simp)) k (Br (Am c) s) s m (λe i=>i) h (λf t=>t) (λf t=>Or.inl t);generalize(Br (Am c) s).foldl (GE c) (s,m)=r at l F q A⊢;obtain⟨J,K⟩:=r;simp only at l F q A;obtain⟨w,D,u,v⟩:=Jo z b J K G l;refine⟨w,by omega,λg=>?_,λg=>?_⟩
   .obtain⟨o,B,p⟩:=u g;obtain⟨H,M,I⟩:=q B;subst H;refine⟨o,M,λx d j e i=>?_⟩;rcases bS.1 d with rfl|d
    .exact I e i
    .exact p x d j e i
   .rcases v g with E|E
    .rcases A E with C|C
     .exact Or.inl C
     .exact Or.inr (by omega)
    .exact Or.inr (by omega)
  ·(have y:Cr a n (s,m) c=(s,m):=by unfold Cr;rw[if_neg k]);rw[y];obtain⟨w,D,u,v⟩:=Jo z b s m G h;refine⟨w,D,λg=>?_,v⟩;obtain⟨o,B,p⟩:=u g;refine⟨o,B,λx d j e i=>?_⟩;rcases bS.1 d with rfl|d
   .exact absurd j k
   .exact p x d j e i
theorem TO{cs:List A7}{a:cR->Nat}(b:OF cs a){n:Nat}{s:List Ah}(h:I7 cs a n s):
  I7 cs a n (DI cs a n s).1/\((DI cs a n s).2=false->(DI cs a n s).1=s/\I7 cs a (n+1) s)/\
   ((DI cs a n s).2=true->s.length<(DI cs a n s).1.length)/\(DI cs a n s).1.length<=(Rt cs).length:=by
 unfold DI;obtain⟨g,p,k,l⟩:=Jo b cs s false (λc o=>o) h;refine⟨g,λd=>?_,λd=>?_,g.len b.gE⟩
 .obtain⟨j,_,m⟩:=k d;exact⟨j,Xy b.fl h.work (λf i=>((h.gQ f i).canon b.gE).fl) m,h.en,h.gQ⟩
 .rcases l d with e|e
  .cases e
  .exact e
theorem ZK{cs:List A7}{d e:cR->Nat}(j:OF cs d)(h:OF cs e){i k:Nat}{s t:List Ah}(a:I7 cs d i s)(g:I7 cs e k t)(l:∀c∈cs,d c.head.name<i)(m:∀c∈cs,e c.head.name<k):s=t:=
 Qf a.en g.en (λf b=>(a.gQ f b).canon j.gE) (λf b=>(g.gQ f b).canon h.gE) (Y7 j.lay h.lay a.work g.work l m)
theorem Xu{s:cR}{cs:List A7}(h:(AD s (Af s 0)).2.2=false)(d:cs.map A7.erase=(AD s (Af s 0)).1)(e:Cg cs=(0,0)):OF cs (B0 cs 6):=by
 have b:=QU e;refine⟨b.fl (UK h d),b.levels,λc i t g f=>?_⟩;rcases(JX h d c i).1.args t g with⟨_,a⟩|a
 .exact a
 .rw[f]at a;exact absurd a.1 (by decide)
def Bm(x:Bg):List AG:=if(x.kind==97||x.kind==33)=true then x.A.args else[x.L,x.R]
def DC(e:List cR)(ts:List AG):Bool:=ts.all λt=> !Ru (AR e t)
def DT(body:List Bg)(s:List Ah)(e:List cR):Bool:=body.any λx=>DC e (Bm x)&& !CS (AA e) (AR e) s x
def As(al:UInt8->List cR->List cR)(body:List Bg)(s:List Ah):List UInt8->List cR->List (List cR)
 |[],e=>if DT body s e then[] else[e]
 |v::vs,e=>if DT body s e then[] else(al v e).flatMap λt=>As al body s vs (e.set (v.toNat-65) t)
def Lv(e:List cR)(v:UInt8):cR:=e.getD (v.toNat-65) ByteArray.empty
def DH(v:UInt8):Prop:=65<=v.toNat/\v.toNat<=90
theorem Jv{e:List cR}{v:UInt8}(d:e.length=26)(a:DH v)(t:cR):Lv (e.set (v.toNat-65) t) v=t:=by
 unfold Lv;obtain⟨b,c⟩:=a;rw[bT,eJ (by omega)];rfl
theorem Y8{e:List cR}{u v:UInt8}(c:DH u)(b:DH v)(h:u≠v)(t:cR):Lv (e.set (v.toNat-65) t) u=Lv e u:=by
 unfold Lv;have a:v.toNat-65≠u.toNat-65:=by
  intro f;obtain⟨i,d⟩:=c;obtain⟨j,g⟩:=b;exact h (dx.1 (by omega))
 rw[bT,el a,<-bT]
theorem BN{al:UInt8->List cR->List cR}{k:List Bg}{s:List Ah}(j:∀v e,∀t∈al v e,t.size≠0):
  ∀(d:List UInt8) (e b:List cR),e.length=26->(∀v∈d,DH v)->b∈As al k s d e->
   b.length=26/\DT k s b=false/\(∀u,DH u->u∉d->Lv b u=Lv e u)/\∀v∈d,(Lv b v).size≠0
 |[],e,b,he,_,a=>by
  rw[As]at a;split at a
  .simp at a
  .rename_i m;rw[bO]at a;subst a;exact⟨he,by simpa using m,λ_ _ _=>rfl,λv f=>by simp at f⟩
 |v::d,e,b,he,f,a=>by
  rw[As]at a;split at a
  .simp at a
  .obtain⟨t,q,a⟩:=cO.1 a;have i:=f v (by simp);obtain⟨p,n,l,o⟩:=BN j d (e.set (v.toNat-65) t) b (by simp[he]) (λu c=>f u (by simp[c])) a;refine⟨p,n,λu c h=>?_,λu c=>?_⟩
   .rw[bS,not_or]at h;rw[l u c h.2,Y8 c i h.1]
   .by_cases g:u∈d
    .exact o u g
    .rcases bS.1 c with rfl|c
     .rw[l u i g,Jv he i];exact j _ _ t q
     .exact absurd c g
def J5(x:Bg):Prop:=∀t∈Bm x,Bz t
theorem CN.ze{x:Bg}(h:CN x):J5 x:=by
 intro t a;unfold CN at h;unfold Bm at a;split at h
 .rename_i b;rw[if_pos b]at a;exact(h.args t a).fl
 .rename_i b;rw[if_neg b]at a;rcases bS.1 a with rfl|a
  .exact h.1.fl
  .rw[bO]at a;subst a;exact h.2.1.fl
theorem II{e:List cR}{σ:UInt8->cR}{s:List Ah}{x:Bg}(h:∀t∈Bm x,AR e t=El σ t):CS (AA e) (AR e) s x=CS (BK σ) (El σ) s x:=by
 unfold Bm at h;by_cases a:(x.kind==97||x.kind==33)=true
 .rw[if_pos a]at h;have c:AA e x.A=BK σ x.A:=by
   unfold AA BK;rw[du h]
  unfold CS;rw[c];rw[dr]at a;rcases a with a|a
  .rw[if_pos a,if_pos a]
  .by_cases b:(x.kind==97)=true
   .rw[if_pos b,if_pos b]
   .rw[if_neg b,if_neg b,if_pos a,if_pos a]
 .rw[if_neg a]at h;have f:=h x.L (by simp);have d:=h x.R (by simp);rw[dr,not_or]at a;unfold CS;rw[if_neg a.1,if_neg a.1,if_neg a.2,if_neg a.2,f,d]
theorem Q0{b:List Bg}{s:List Ah}(j:∀x∈b,J5 x){σ:UInt8->cR}(g:∀x∈b,CS (BK σ) (El σ) s x=true){e:List cR}(h:DG e σ):DT b s e=false:=by
 unfold DT;rw[dy];intro x f a;rw[cq]at a;have i:∀t∈Bm x,AR e t=El σ t:=by
  intro t d;have c:=(dO.1 a.1) t d;refine h.val (j x f t d) (λk=>?_);rw[(DA _).2 k]at c;cases c
 rw[II i,g x f]at a;simp at a
def Vr(al:UInt8->List cR->List cR)(body:List Bg)(s:List Ah):Prop:=
 ∀(v:UInt8) (e:List cR) (σ:UInt8->cR),DH v->DG e σ->(∀x∈body,CS (BK σ) (El σ) s x=true)->(∃x∈body,(x.kind==97)=true/\∃u∈x.A.args,u.v=v)->σ v∈al v e
theorem Gk{al:UInt8->List cR->List cR}{f:List Bg}{s:List Ah}(k:∀x∈f,J5 x)(m:Vr al f s){σ:UInt8->cR}(g:∀x∈f,CS (BK σ) (El σ) s x=true):
  ∀(d:List UInt8) (e:List cR),DG e σ->(∀v∈d,DH v/\∃x∈f,(x.kind==97)=true/\∃u∈x.A.args,u.v=v)->
   ∃b∈As al f s d e,DG b σ/\(∀v∈d,Lv b v=σ v)/\∀u,DH u->Lv e u=σ u->Lv b u=σ u
 |[],e,ha,_=>by
  refine⟨e,?_,ha,λv i=>by simp at i,λu _ h=>h⟩;rw[As,Q0 k g ha];simp
 |v::d,e,ha,i=>by
  obtain⟨c,r⟩:=i v (by simp);obtain⟨b,p,n,q,j⟩:=Gk k m g d (e.set (v.toNat-65) (σ v)) (ha.set c.1 c.2) (λu a=>i u (by simp[a]));refine⟨b,?_,n,λu a=>?_,λu a o=>?_⟩
  .rw[As,Q0 k g ha];rw[if_neg (by simp)];exact cO.2 ⟨σ v,m v e σ c ha g r,p⟩
  .rcases bS.1 a with rfl|a
   .exact j u c (Jv ha.1 c _)
   .exact q u a
  .by_cases l:u=v
   .subst l;exact j u a (Jv ha.1 c _)
   .exact j u a (by rw[Y8 a c l];exact o)
def Ps(al:UInt8->List cR->List cR)(c:A7)(hv rv:List UInt8)(s:List Ah):List Ah:=
 ((As al (Am c) s hv BX).filter λb=> !FK s (AA b c.head)&& !(As al (Am c) s rv b).isEmpty).map λb=>AA b c.head
structure PO(c:A7)(hv rv:List UInt8):Prop where
 ok:∀v,v∈hv\/v∈rv->DH v/\∃x∈Am c,(x.kind==97)=true/\∃u∈x.A.args,u.v=v
 apart:∀v∈hv,v∉rv
 head:∀t∈c.head.args,t.v=0\/t.v∈hv
 body:∀x∈Am c,∀t∈Bm x,t.v=0\/t.v∈hv\/t.v∈rv
 lits:∀x∈Am c,J5 x
theorem Fi{e:List cR}{t:AG}(h:t.v≠0):AR e t=Lv e t.v:=by
 unfold AR Lv;rw[if_neg h]
theorem QS{al:UInt8->List cR->List cR}{c:A7}{m k:List UInt8}{s:List Ah}(g:PO c m k)(w:∀v e,∀t∈al v e,t.size≠0){f:Ah}(p:f∈Ps al c m k s):
  f∉s/\∃σ,(∀x∈Am c,CS (BK σ) (El σ) s x=true)/\f=BK σ c.head:=by
 unfold Ps at p;obtain⟨b,n,rfl⟩:=bV.1 p;obtain⟨n,y⟩:=cn.1 n;rw[cq]at y;obtain⟨z,q⟩:=y;refine⟨λh=>?_,?_⟩
 .rw[(Cw _ _).2 h]at z;cases z
 .obtain⟨a,E⟩:∃a,a∈As al (Am c) s k b:=by
   cases hl:As al (Am c) s k b with
   |nil=>rw[hl]at q;simp at q
   |cons x l=>exact⟨x,by simp⟩
  obtain⟨F,_,_,G⟩:=BN w m BX b rfl (λv i=>(g.ok v (Or.inl i)).1) n;obtain⟨I,r,D,H⟩:=BN w k b a F (λv i=>(g.ok v (Or.inr i)).1) E;have u:∀v∈m,Lv a v=Lv b v:=λv i=>D v (g.ok v (Or.inl i)).1 (g.apart v i)
  refine⟨Lj a,λx o=>?_,?_⟩
  .have C:DC a (Bm x)=true:=by
    unfold DC;rw[dO];intro t j;have B:(AR a t).size≠0:=by
     by_cases d:t.v=0
     .rcases g.lits x o t j with h|h
      .unfold AR;rw[if_pos d];exact h.2
      .rw[d]at h;exact absurd h.1 (by decide)
     .rw[Fi d];rcases g.body x o t j with h|h|h
      .exact absurd h d
      .rw[u _ h];exact G _ h
      .exact H _ h
    cases hE:Ru (AR a t)with
    |false=>rfl
    |true=>exact absurd ((DA _).1 hE) B
   have A:CS (AA a) (AR a) s x=true:=by
    unfold DT at r;have:=(dy.1 r) x o;rw[C,dF]at this;simpa using this
   rw[<-II (e:=a) (σ:=Lj a) (λt j=>(Jr a t).symm)];exact A
  .unfold AA BK
   congr 1
   refine du (λt j=>?_);rw[Jr];by_cases d:t.v=0
   .unfold AR;rw[if_pos d,if_pos d]
   .rw[Fi d,Fi d];rcases g.head t j with h|h
    .exact absurd h d
    .exact(u _ h).symm
theorem YN{al:UInt8->List cR->List cR}{c:A7}{f e:List UInt8}{s:List Ah}(a:PO c f e)(m:Vr al (Am c) s){σ:UInt8->cR}(k:∀x∈Am c,CS (BK σ) (El σ) s x=true):
  BK σ c.head∈s\/BK σ c.head∈Ps al c f e s:=by
 obtain⟨b,q,o,n,_⟩:=Gk a.lits m k f BX (DG.start σ) (λv h=>a.ok v (Or.inl h));have g:AA b c.head=BK σ c.head:=by
  unfold AA BK
  congr 1
  refine du (λt p=>?_);by_cases d:t.v=0
  .unfold AR El;rw[if_pos d,if_pos d]
  .rw[Fi d];unfold El;rw[if_neg d];rcases a.head t p with h|h
   .exact absurd h d
   .exact n _ h
 by_cases i:BK σ c.head∈s
 .exact Or.inl i
 .right;obtain⟨r,j,_⟩:=Gk a.lits m k e b o (λv h=>a.ok v (Or.inr h));unfold Ps;refine bV.2 ⟨b,cn.2 ⟨q,?_⟩,g⟩;rw[cq];refine⟨?_,?_⟩
  .rw[g];cases hh:FK s (BK σ c.head)with
   |false=>rfl
   |true=>exact absurd ((Cw _ _).1 hh) i
  .cases hl:As al (Am c) s e b with
   |nil=>rw[hl]at j;simp at j
   |cons x l=>rfl
def OM(e:List cR)(ts:List AG)(xs:List cR):Bool:=(ts.zip xs).all λp=>Ru (AR e p.1)||(AR e p.1).toList==p.2.toList
def FY(s:List Ah)(A:C2)(i:Nat)(e:List cR):List cR:=(s.filter λf=>(f.name.toList==A.name.toList)&&OM e A.args f.args).map λf=>f.args.getD i ByteArray.empty
def CJ(body:List Bg)(s:List Ah)(v:UInt8)(e:List cR):List (List cR):=
 body.filterMap λx=>if x.kind==97 then(x.A.args.findIdx? λt=>t.v==v).map λi=>FY s x.A i e else none
def Nh(al:UInt8->List cR->List cR)(body:List Bg)(s:List Ah):Prop:=∀v e t,t∈al v e↔CJ body s v e≠[]/\∀l∈CJ body s v e,t∈l
theorem Tw{e:List cR}{σ:UInt8->cR}(b:DG e σ):∀(a:List AG),(∀t∈a,Bz t)->OM e a (a.map (El σ))=true
 |[],_=>rfl
 |t::a,hg=>by
  have ih:=Tw b a (λu c=>hg u (by simp[c]));unfold OM at ih⊢;rw[cu,fF,eP,ih,Bool.and_true];cases hz:Ru (AR e t)with
  |true=>rfl
  |false=>
   rw[ex,b.val (hg t (by simp)) (λh=>by rw[(DA _).2 h]at hz;cases hz)];simp
theorem PX{al:UInt8->List cR->List cR}{d:List Bg}{s:List Ah}(y:Nh al d s)(p:∀x∈d,J5 x):Vr al d s:=by
 intro v e σ k E D o;rw[y];refine⟨λf=>?_,λl j=>?_⟩
 .obtain⟨x,c,b,u,w,z⟩:=o;unfold CJ at f;rw[List.filterMap_eq_nil_iff]at f;have a:=f x c;rw[if_pos b,Option.map_eq_none_iff,List.findIdx?_eq_none_iff]at a;have:=a u w;rw[z]at this;simp at this
 .unfold CJ at j;obtain⟨x,c,a⟩:=dY.1 j;by_cases b:(x.kind==97)=true
  .rw[if_pos b,eK]at a;obtain⟨i,C,rfl⟩:=a;obtain⟨m,B,_⟩:=dL.1 C;(have q:v≠0:=λh=>by rw[h]at k;exact absurd k.1 (by decide));(have g:x.A.args[i].v=v:=by simpa using B);have r:BK σ x.A∈s:=by
    have:=D x c;unfold CS at this;rw[if_pos b]at this;exact(Cw _ _).1 this
   unfold FY;refine bV.2 ⟨BK σ x.A,cn.2 ⟨r,?_⟩,?_⟩
   .rw[cq];refine⟨by simp[BK],Tw E x.A.args (λt n=>p x c t ?_)⟩;unfold Bm;rw[b,eX,if_pos rfl];exact n
   .unfold BK;simp only;rw[bT,dI,bW m];simp only[ei,Option.getD_some];unfold El;rw[if_neg (by rw[g];exact q),g]
  .rw[if_neg b]at a;cases a
theorem Zw{al:UInt8->List cR->List cR}{b:List Bg}{s:List Ah}(w:Nh al b s)(u:∀f∈s,Ku f)(r:∀f∈s,∀x∈b,(x.kind==97)=true->f.name=x.A.name->f.args.length=x.A.args.length):∀v e,∀t∈al v e,t.size≠0:=by
 intro v e t q;obtain⟨B,C⟩:=(w v e t).1 q;obtain⟨l,g⟩:∃l,l∈CJ b s v e:=by
  cases h:CJ b s v e with
  |nil=>exact absurd h B
  |cons a m=>exact⟨a,by simp⟩
 have n:=C l g;unfold CJ at g;obtain⟨x,z,c⟩:=dY.1 g;by_cases d:(x.kind==97)=true
 .rw[if_pos d,eK]at c;obtain⟨i,y,rfl⟩:=c;obtain⟨D,_,_⟩:=dL.1 y;unfold FY at n;obtain⟨f,p,rfl⟩:=bV.1 n;obtain⟨k,o⟩:=cn.1 p;rw[cq]at o;have E:=r f k x z d (toList_inj (by simpa using o.1));have j:i<f.args.length:=by omega
  rw[bT,bW j];exact u f k _ (bL j)
 .rw[if_neg d]at c;cases c
theorem VG{cs:List A7}{e:cR->Nat}(l:OF cs e){n:Nat}{j s:List Ah}(E:I7 cs e n j)(h:I7 cs e n s)(D:∀f∈j,f∈s)(z:∀f∈s,f∈j\/e f.name=n)
  {c:A7} (q:c∈cs) (r:e c.head.name=n) {σ:UInt8->cR} (C:∀x∈Am c,CS (BK σ) (El σ) j x=true):
  I7 cs e n (Bp s (BK σ c.head))/\(∀f∈j,f∈Bp s (BK σ c.head))/\(∀f∈Bp s (BK σ c.head),f∈j\/e f.name=n):=by
 have A:Eg cs (BK σ c.head):=by
  refine⟨⟨c,q,rfl,by simp[BK]⟩,λx M=>?_⟩;obtain⟨t,w,rfl⟩:=bV.1 M;by_cases p:t.v=0
  .unfold El;rw[if_pos p];unfold consts;exact cO.2 ⟨c,q,bV.2 ⟨t,cn.2 ⟨w,by rw[p];rfl⟩,rfl⟩⟩
  .rcases l.fl.head c q t w with G|⟨y,I,F,u,J,L⟩
   .exact absurd G p
   .have i:=C y I;unfold CS at i;rw[if_pos F,Cw]at i;have k:=(E.gQ _ i).args (El σ u) (cm J);unfold El at k⊢;rw[L]at k;rw[if_neg p]at k⊢;exact k
 obtain⟨a,b,m⟩:=Ex (A.canon l.gE) h.en (λf d=>(h.gQ f d).canon l.gE);have i:=(Iw c σ j).1 C;have B:EW cs (G6 c σ):=⟨c,q,σ,i.2,rfl⟩;have H:=h.work.step (EW cs) (λf=>e f.name) l.lay.gL B r ⟨λg o=>D g (i.1.1 g o),λg o K=>by
  rcases z g K with h|h
  .exact i.1.2 g o h
  .have k:e g.name<e (G6 c σ).head.name:=l.lay.gL.neg _ B g o
   have N:e (G6 c σ).head.name=n:=r
   omega⟩
 refine⟨⟨H.cong _ _ (λf=>(m f).symm),a,λf d=>?_⟩,λf d=>(m f).2 (Or.inl (D f d)),λf d=>?_⟩
 .rcases(m f).1 d with d|d
  .exact h.gQ f d
  .rw[d];exact A
 .rcases(m f).1 d with d|d
  .exact z f d
  .right;rw[d];exact r
theorem JB(s:List Ah)(f:Ah):s.length<=(Bp s f).length/\(f∉s->(Bp s f).length=s.length+1):=by
 unfold Bp;cases hh:FK s f with
 |true=>rw[if_pos rfl];exact⟨bZ _,λh=>absurd ((Cw _ _).1 hh) h⟩
 |false=>rw[if_neg (by simp),O8];exact⟨by omega,λ_=>rfl⟩
theorem JG{cs:List A7}{a:cR->Nat}(d:OF cs a){n:Nat}{b:List Ah}(e:I7 cs a n b){c:A7}(i:c∈cs)(j:a c.head.name=n):
  ∀(l:List Ah) (s:List Ah),(∀f∈l,∃σ,(∀x∈Am c,CS (BK σ) (El σ) b x=true)/\f=BK σ c.head)->I7 cs a n s->(∀f∈b,f∈s)->(∀f∈s,f∈b\/a f.name=n)->
   I7 cs a n (l.foldl Bp s)/\s.length<=(l.foldl Bp s).length
 |[],s,_,h,_,_=>⟨h,bZ _⟩
 |f::l,s,hl,h,hsub,hnew=>by
  obtain⟨σ,q,rfl⟩:=hl f (by simp);obtain⟨k,o,p⟩:=VG d e h hsub hnew i j q;obtain⟨m,t⟩:=JG d e i j l _ (λg r=>hl g (by simp[r])) k o p;rw[cC];have:=(JB s (BK σ c.head)).1;exact⟨m,by omega⟩
structure Ti where
 hv:A7->List UInt8
 rv:A7->List UInt8
 al:A7->List Ah->UInt8->List cR->List cR
def Ti.new(W:Ti)(c:A7)(s:List Ah):List Ah:=Ps (W.al c s) c (W.hv c) (W.rv c) s
def ID(W:Ti)(a:List Ah×Bool)(c:A7):List Ah×Bool:=((W.new c a.1).foldl Bp a.1,a.2|| !(W.new c a.1).isEmpty)
def Fh(W:Ti)(ds:List A7)(s:List Ah):List Ah×Bool:=ds.foldl (ID W) (s,false)
structure PD(W:Ti)(cs:List A7):Prop where
 parts:∀c∈cs,PO c (W.hv c) (W.rv c)
 al:∀c∈cs,∀s,Nh (W.al c s) (Am c) s
 arity:∀c∈cs,∀d∈cs,∀x∈Am d,(x.kind==97)=true->c.head.name=x.A.name->c.head.args.length=x.A.args.length
theorem PD.sizes{W:Ti}{cs:List A7}{b:cR->Nat}(g:PD W cs)(l:OF cs b)(r:∀c∈cs,∀d∈cs,c.head.name=d.head.name->c.head.args.length=d.head.args.length){n:Nat}{s:List Ah}(h:I7 cs b n s){c:A7}(i:c∈cs):∀v e,∀t∈W.al c s v e,t.size≠0:=by
 refine Zw (g.al c i s) (λf a=>((h.gQ f a).canon l.gE).fl) (λf a x p k q=>?_);obtain⟨d,j,o,m⟩:=(h.gQ f a).gi;rw[m];exact g.arity d j c i x p k (by rw[<-o];exact q)
theorem Ml{W:Ti}{cs:List A7}{o:cR->Nat}(p:PD W cs)(j:OF cs o)(q:∀c∈cs,∀d∈cs,c.head.name=d.head.name->c.head.args.length=d.head.args.length){n:Nat}:
  ∀(b:List A7) (s:List Ah) (m:Bool),(∀c∈b,c∈cs/\o c.head.name=n)->I7 cs o n s->
   I7 cs o n (b.foldl (ID W) (s,m)).1/\s.length<=(b.foldl (ID W) (s,m)).1.length/\
    ((b.foldl (ID W) (s,m)).2=false->(b.foldl (ID W) (s,m)).1=s/\m=false/\∀c∈b,W.new c s=[])/\
    ((b.foldl (ID W) (s,m)).2=true->m=true\/s.length<(b.foldl (ID W) (s,m)).1.length)
 |[],s,m,_,h=>⟨h,bZ _,λe=>⟨rfl,e,λc i=>by simp at i⟩,λe=>Or.inl e⟩
 |c::b,s,m,hd,h=>by
  rw[cC];have A:∀c∈b,c∈cs/\o c.head.name=n:=λx k=>hd x (by simp[k])
  obtain⟨i,u⟩:=hd c (by simp);have r:∀f∈W.new c s,f∉s/\∃σ,(∀x∈Am c,CS (BK σ) (El σ) s x=true)/\f=BK σ c.head:=λf a=>QS (p.parts c i) (p.sizes j q h i) a
  obtain⟨B,N⟩:=JG j h i u (W.new c s) s (λf a=>(r f a).2) h (λf a=>a) (λf a=>Or.inl a);cases hl:W.new c s with
  |nil=>
   (have w:ID W (s,m) c=(s,m):=by unfold ID;simp only;rw[hl];simp);rw[w];obtain⟨v,y,t,z⟩:=Ml p j q b s m A h;refine⟨v,y,λe=>?_,z⟩;obtain⟨C,I,D⟩:=t e;refine⟨C,I,λx k=>?_⟩;rcases bS.1 k with rfl|k
   .exact hl
   .exact D x k
  |cons f l=>
   have a:=r f (by rw[hl];simp);(have w:ID W (s,m) c=((W.new c s).foldl Bp s,true):=by unfold ID;simp only;rw[hl];simp);rw[w];obtain⟨v,y,t,z⟩:=Ml p j q b _ true A B;have M:s.length<((W.new c s).foldl Bp s).length:=by
    rw[hl,cC];have L:=(JB s f).2 a.1;obtain⟨σ,H,rfl⟩:=a.2;obtain⟨F,J,G⟩:=VG j h h (λf a=>a) (λf a=>Or.inl a) i u H;have K:=(JG j h i u l _ (λg E=>(r g (by rw[hl];simp[E])).2) F J G).2;omega
   refine⟨v,by omega,λe=>?_,λe=>Or.inr (by omega)⟩;have:=(t e).2.1;cases this
theorem W9{W:Ti}{cs:List A7}{a:cR->Nat}(j:PD W cs)(p:OF cs a)(u:∀c∈cs,∀d∈cs,c.head.name=d.head.name->c.head.args.length=d.head.args.length){n:Nat}{ds:List A7}(l:∀c,c∈ds↔c∈cs/\a c.head.name=n){s:List Ah}(h:I7 cs a n s):
  I7 cs a n (Fh W ds s).1/\((Fh W ds s).2=false->(Fh W ds s).1=s/\I7 cs a (n+1) s)/\
   ((Fh W ds s).2=true->s.length<(Fh W ds s).1.length)/\(Fh W ds s).1.length<=(Rt cs).length:=by
 unfold Fh;obtain⟨o,z,v,w⟩:=Ml j p u ds s false (λc b=>(l c).1 b) h;refine⟨o,λk=>?_,λk=>?_,o.len p.gE⟩
 .obtain⟨q,_,r⟩:=v k;refine⟨q,h.work.next (EW cs) (λf=>a f.name) ?_,h.en,h.gQ⟩;rintro i ⟨c,b,σ,y,rfl⟩ x t;have e:=(Iw c σ s).2 ⟨t,y⟩;rcases YN (j.parts c b) (PX (j.al c b s) (j.parts c b).lits) e with g|g
  .exact g
  .have m:W.new c s=[]:=r c ((l c).2 ⟨b,x⟩);unfold Ti.new at m;rw[m]at g;simp at g
 .rcases w k with e|e
  .cases e
  .exact e
def Fl(L:cR->Nat)(n:Nat)(x:Bg):Nat:=if x.kind==97 then max n (L x.A.name)else if x.kind==33 then max n (L x.A.name+1)else n
def Gb(L:cR->Nat)(body:List Bg):Nat:=body.foldl (Fl L) 0
def Nn(L:cR->Nat)(k:cR)(n:Nat):cR->Nat:=λx=>if x.toList==k.toList then n else L x
def DU(a:(cR->Nat)×Bool)(c:A7):(cR->Nat)×Bool:=if a.1 c.head.name<Gb a.1 (Am c)then(Nn a.1 c.head.name (Gb a.1 (Am c)),true)else a
def Kc(cs:List A7)(L:cR->Nat):(cR->Nat)×Bool:=cs.foldl DU (L,false)
def DM(cs:List A7)(L:cR->Nat):Nat:=(cs.map λc=>L c.head.name).sum
theorem Gs(L:cR->Nat)(k:cR)(n:Nat):Nn L k n k=n:=by unfold Nn;simp
theorem Iq{L:cR->Nat}{k x:cR}(n:Nat)(h:x≠k):Nn L k n x=L x:=by
 unfold Nn;rw[if_neg (λa=>h (toList_inj (by simpa using a)))]
theorem Mi(L:cR->Nat):∀(a:List Bg) (n:Nat),n<=a.foldl (Fl L) n/\∀x∈a,((x.kind==97)=true->L x.A.name<=a.foldl (Fl L) n)/\((x.kind==33)=true->L x.A.name<a.foldl (Fl L) n)
 |[],n=>⟨bZ _,λx c=>by simp at c⟩
 |y::a,n=>by
  rw[cC];obtain⟨k,i⟩:=Mi L a (Fl L n y);have e:n<=Fl L n y/\((y.kind==97)=true->L y.A.name<=Fl L n y)/\((y.kind==33)=true->L y.A.name<Fl L n y):=by
   unfold Fl;by_cases b:(y.kind==97)=true
   .rw[if_pos b];refine⟨by omega,λ_=>by omega,λj=>?_⟩;(have g:y.kind=97:=by simpa using b);(have f:y.kind=33:=by simpa using j);rw[g]at f;exact absurd f (by decide)
   .rw[if_neg b];by_cases d:(y.kind==33)=true
    .rw[if_pos d];exact⟨by omega,λh=>absurd h b,λ_=>by omega⟩
    .rw[if_neg d];exact⟨by omega,λh=>absurd h b,λh=>absurd h d⟩
  refine⟨by omega,λx c=>?_⟩;rcases bS.1 c with rfl|c
  .exact⟨λh=>by have:=e.2.1 h;omega,λh=>by have:=e.2.2 h;omega⟩
  .exact i x c
theorem L9{L:cR->Nat}{b:Nat}:∀(a:List Bg) (n:Nat),n<=b->(∀x∈a,((x.kind==97)=true->L x.A.name<=b)/\((x.kind==33)=true->L x.A.name<b))->a.foldl (Fl L) n<=b
 |[],n,hn,_=>hn
 |y::a,n,hn,h=>by
  rw[cC];refine L9 a _ ?_ (λx g=>h x (by simp[g]));obtain⟨f,e⟩:=h y (by simp);unfold Fl;by_cases c:(y.kind==97)=true
  .rw[if_pos c];have:=f c;omega
  .rw[if_neg c];by_cases d:(y.kind==33)=true
   .rw[if_pos d];have:=e d;omega
   .rw[if_neg d];exact hn
theorem Vn{cs:List A7}{L K:cR->Nat}(h:∀x,L x<=K x):DM cs L<=DM cs K:=by
 unfold DM
 induction cs with
 |nil=>simp
 |cons c cs ih=>
  simp only[cu,List.sum_cons];have:=h c.head.name;omega
theorem Zl{cs:List A7}{L K:cR->Nat}(h:∀x,L x<=K x){c:A7}(a:c∈cs)(f:L c.head.name<K c.head.name):DM cs L<DM cs K:=by
 induction cs with
 |nil=>simp at a
 |cons d cs ih=>
  have b:=h d.head.name;have g:=Vn (cs:=cs) h;have e:∀M,DM (d::cs) M=M d.head.name+DM cs M:=λM=>by unfold DM;simp
  rw[e,e];rcases bS.1 a with rfl|a
  .omega
  .have:=ih a;omega
theorem IJ{cs:List A7}{f:cR->Nat}(i:DE cs f):∀(b:List A7) (L:cR->Nat) (m:Bool),(∀c∈b,c∈cs)->(∀x,L x<=f x)->
  (∀x,L x<=(b.foldl DU (L,m)).1 x)/\(∀x,(b.foldl DU (L,m)).1 x<=f x)/\
   ((b.foldl DU (L,m)).2=false->(b.foldl DU (L,m)).1=L/\m=false/\∀c∈b,Gb L (Am c)<=L c.head.name)/\
   ((b.foldl DU (L,m)).2=true->m=true\/DM cs L<DM cs (b.foldl DU (L,m)).1)
 |[],L,m,_,h=>⟨λx=>bZ _,h,λd=>⟨rfl,d,λc g=>by simp at g⟩,λd=>Or.inl d⟩
 |c::b,L,m,hd,h=>by
  rw[cC];have r:∀c∈b,c∈cs:=λx a=>hd x (by simp[a])
  have g:=hd c (by simp);by_cases o:L c.head.name<Gb L (Am c)
  ·(have n:DU (L,m) c=(Nn L c.head.name (Gb L (Am c)),true):=by unfold DU;rw[if_pos o]);rw[n];have p:∀x,L x<=Nn L c.head.name (Gb L (Am c)) x:=by
    intro x;by_cases a:x=c.head.name
    .subst a;rw[Gs];omega
    .rw[Iq _ a];exact bZ _
   have u:Gb L (Am c)<=f c.head.name:=by
    refine L9 _ _ (b8 _) (λx a=>⟨λk=>?_,λk=>?_⟩)
    .exact da (h _) (i.pos c g x a k)
    .exact Nat.lt_of_le_of_lt (h _) (i.neg c g x a k)
   have w:∀x,Nn L c.head.name (Gb L (Am c)) x<=f x:=by
    intro x;by_cases a:x=c.head.name
    .subst a;rw[Gs];exact u
    .rw[Iq _ a];exact h x
   obtain⟨e,j,l,q⟩:=IJ i b _ true r w;refine⟨λx=>da (p x) (e x),j,λd=>?_,λd=>Or.inr ?_⟩
   .have:=(l d).2.1;cases this
   .refine Zl (λx=>da (p x) (e x)) g ?_;have v:=e c.head.name;rw[Gs]at v;omega
  ·(have n:DU (L,m) c=(L,m):=by unfold DU;rw[if_neg o]);rw[n];obtain⟨e,j,l,q⟩:=IJ i b L m r h;refine⟨e,j,λd=>?_,q⟩;obtain⟨s,y,t⟩:=l d;refine⟨s,y,λx a=>?_⟩;rcases bS.1 a with rfl|a
   .omega
   .exact t x a
theorem UM{cs:List A7}{d:cR->Nat}(o:DE cs d){L:cR->Nat}(h:∀x,L x<=d x):
  (∀x,(Kc cs L).1 x<=d x)/\((Kc cs L).2=false->(Kc cs L).1=L/\DE cs L)/\((Kc cs L).2=true->DM cs L<DM cs (Kc cs L).1)/\DM cs (Kc cs L).1<=DM cs d:=by
 unfold Kc;obtain⟨_,j,n,m⟩:=IJ o cs L false (λc b=>b) h;refine⟨j,λe=>?_,λe=>?_,Vn j⟩
 .obtain⟨l,_,k⟩:=n e;refine⟨l,λc b x i f=>?_,λc b x i f=>?_⟩
  .have a:=((Mi L (Am c) 0).2 x i).1 f;have g:Gb L (Am c)<=L c.head.name:=k c b;exact da a g
  .have a:=((Mi L (Am c) 0).2 x i).2 f;have g:Gb L (Am c)<=L c.head.name:=k c b;exact dJ a g
 .rcases m e with a|a
  .cases a
  .exact a
def Dj(acc:List UInt8)(t:AG):List UInt8:=if(t.v !=0&& !acc.contains t.v)=true then acc++[t.v] else acc
def CO(acc:List UInt8)(ts:List AG):List UInt8:=ts.foldl Dj acc
theorem DD:∀(f:List AG) (c:List UInt8),c.Nodup->(∃r,CO c f=c++r)/\(CO c f).Nodup/\∀v,v∈CO c f↔v∈c\/(v≠0/\∃t∈f,t.v=v)
 |[],c,h=>⟨⟨[],by simp[CO]⟩,h,λv=>by simp[CO]⟩
 |t::f,c,h=>by
  have e:CO c (t::f)=CO (Dj c t) f:=rfl;rw[e];by_cases i:(t.v !=0&& !c.contains t.v)=true
  ·(have m:Dj c t=c++[t.v]:=by unfold Dj;rw[if_pos i]);rw[m];rw[cq]at i;have y:t.v∉c:=by
    intro j;have:=i.2;rw[fh.2 j]at this;cases this
   (have w:t.v≠0:=by simpa using i.1);have x:(c++[t.v]).Nodup:=by
    rw[List.nodup_append];refine⟨h,by simp,λa n b o s=>?_⟩;rw[bO]at o;subst o;rw[s]at n;exact y n
   obtain⟨⟨r,p⟩,k,l⟩:=DD f (c++[t.v]) x;refine⟨⟨t.v::r,by rw[p];simp⟩,k,λv=>?_⟩;rw[l,bY,bO];constructor
   .rintro ((h|h)|⟨h,u,d,g⟩)
    .exact Or.inl h
    .subst h;exact Or.inr ⟨w,t,by simp,rfl⟩
    .exact Or.inr ⟨h,u,by simp[d],g⟩
   .rintro (h|⟨h,u,d,g⟩)
    .exact Or.inl (Or.inl h)
    .rcases bS.1 d with rfl|d
     .exact Or.inl (Or.inr g.symm)
     .exact Or.inr ⟨h,u,d,g⟩
  ·(have m:Dj c t=c:=by unfold Dj;rw[if_neg i]);rw[m];obtain⟨q,k,l⟩:=DD f c h;refine⟨q,k,λv=>?_⟩;rw[l];constructor
   .rintro (h|⟨h,u,d,g⟩)
    .exact Or.inl h
    .exact Or.inr ⟨h,u,by simp[d],g⟩
   .rintro (h|⟨h,u,d,g⟩)
    .exact Or.inl h
    .rcases bS.1 d with rfl|d
     .left;subst g;rw[cq]at i;cases j:c.contains u.v with
      |true=>exact fh.1 j
      |false=>exact absurd ⟨by simpa using h,by rw[j];rfl⟩ i
     .exact Or.inr ⟨h,u,d,g⟩
def Ck(c:A7):List UInt8:=CO [] c.head.args
def C7(c:A7):List UInt8:=(CO [] (c.head.args++(Am c).flatMap Bm)).drop (Ck c).length
theorem Mn(c:A7):CO [] (c.head.args++(Am c).flatMap Bm)=Ck c++C7 c:=by
 have e:CO [] (c.head.args++(Am c).flatMap Bm)=CO (Ck c) ((Am c).flatMap Bm):=by
  unfold CO Ck CO;rw[cY]
 obtain⟨⟨r,a⟩,_,_⟩:=DD ((Am c).flatMap Bm) (Ck c) (DD c.head.args [] dW).2.1;unfold C7;rw[e,a,List.drop_left]
theorem TC{cs:List A7}(m:RZ cs){c:A7}(n:c∈cs)(w:∀x∈Am c,CN x):PO c (Ck c) (C7 c):=by
 have i:=DD (c.head.args++(Am c).flatMap Bm) [] dW;have B:=DD c.head.args [] dW;rw[Mn]at i;have k:∀t,t.v≠0->Fq (Am c) t->∃x∈Am c,(x.kind==97)=true/\∃u∈x.A.args,u.v=t.v:=by
  intro t b q;rcases q with h|h
  .exact absurd h b
  .exact h
 have s:∀v,v∈Ck c\/v∈C7 c->∃x∈Am c,(x.kind==97)=true/\∃u∈x.A.args,u.v=v:=by
  intro v g;have d:=(i.2.2 v).1 (bY.2 g);rcases d with d|⟨b,t,a,rfl⟩
  .simp at d
  .rcases bY.1 a with a|a
   .exact k t b (m.head c n t a)
   .obtain⟨x,e,a⟩:=cO.1 a;by_cases f:(x.kind==97)=true
    .unfold Bm at a;rw[f,eX,if_pos rfl]at a;exact⟨x,e,f,t,a,rfl⟩
    .have p:=m.safe c n x e (by simpa using f);unfold Bm at a;by_cases j:(x.kind==33)=true
     .rw[j,fA,if_pos rfl]at a;exact k t b (p.1 j t a)
     .rw[if_neg (by rw[dr,not_or];exact⟨f,j⟩)]at a;obtain⟨z,r⟩:=p.2 (by simpa using j);rcases bS.1 a with rfl|a
      .exact k _ b z
      .rw[bO]at a;subst a;exact k _ b r
 refine⟨λv g=>?_,?_,?_,?_,λx e=>(w x e).ze⟩
 .obtain⟨x,e,f,u,o,l⟩:=s v g;refine⟨?_,x,e,f,u,o,l⟩;have d:=(i.2.2 v).1 (bY.2 g);have b:v≠0:=by
   rcases d with d|d
   .simp at d
   .exact d.1
  rcases m.args c n x e f u o with h|h
  .rw[l]at h;exact absurd h.1 b
  .rw[l]at h;exact h
 .intro v g y;have:=(List.nodup_append.1 i.2.1).2.2 v g v y;exact this rfl
 .intro t a;by_cases b:t.v=0
  .exact Or.inl b
  .exact Or.inr ((B.2.2 t.v).2 (Or.inr ⟨b,t,a,rfl⟩))
 .intro x e t a;by_cases b:t.v=0
  .exact Or.inl b
  .right;exact bY.1 ((i.2.2 t.v).2 (Or.inr ⟨b,t,bY.2 (Or.inr (cO.2 ⟨x,e,a⟩)),rfl⟩))
theorem CE.gY{cs:List A7}(h:CE cs):∀c∈cs,CT cs c.head.name=(c.head.args.length:Int):=by
 intro c a;obtain⟨k,b,rfl⟩:=cN a;exact(EZ (h.each k b)).2.2.2.2.2.1
theorem CE.arBody{cs:List A7}(h:CE cs):∀c∈cs,∀x∈Am c,(x.kind==97)=true->CT cs x.A.name=(x.A.args.length:Int):=by
 intro c f x g d;obtain⟨k,e,rfl⟩:=cN f;obtain⟨p,b,rfl⟩:=bV.1 g;have a:=(dC.1 (EZ (h.each k e)).2.2.2.2.2.2.1) p b;unfold BD KT at a;rw[d,eX,dF]at a;simpa using a
theorem CE.zD{cs:List A7}(h:CE cs):∀c∈cs,∀d∈cs,c.head.name=d.head.name->c.head.args.length=d.head.args.length:=by
 intro c b d a e;have f:=h.gY c b;rw[e,h.gY d a]at f;omega
theorem CE.ar3{cs:List A7}(h:CE cs):∀c∈cs,∀d∈cs,∀x∈Am d,(x.kind==97)=true->c.head.name=x.A.name->c.head.args.length=x.A.args.length:=by
 intro c g d a x i b e;have f:=h.gY c g;rw[e,h.arBody d a x i b]at f;omega
theorem Pi(cs:List A7):∀(d:Nat) (x:cR),B0 cs d x<=d
 |0,x=>bZ 0
 |d+1,x=>by
  by_cases h:0<B0 cs (d+1) x
  .obtain⟨y,b,a,e⟩:=OO cs d x h;have f:b<=1:=by
    obtain⟨c,_,_,l,_,_,h|h⟩:=a<;>omega
   have:=Pi cs d y;omega
  .omega
structure DZ(cs:List A7):Prop where
 order:CE cs
 prog:OF cs (B0 cs 6)
 lits:∀c∈cs,∀x∈Am c,CN x
 gE:∀c∈cs,Kf c.head
theorem Jj{s:cR}{cs:List A7}(h:(AD s (Af s 0)).2.2=false)(b:cs.map A7.erase=(AD s (Af s 0)).1)(d:Cg cs=(0,0)):DZ cs:=
 ⟨QU d,Xu h b d,λc a=>(JX h b c a).2,λc a=>(JX h b c a).1⟩
def DX(al:A7->List Ah->UInt8->List cR->List cR):Ti:=⟨Ck,C7,al⟩
theorem DZ.ways{cs:List A7}(h:DZ cs){al:A7->List Ah->UInt8->List cR->List cR}(b:∀c∈cs,∀s,Nh (al c s) (Am c) s):PD (DX al) cs:=
 ⟨λc a=>TC h.prog.fl a (h.lits c a),b,h.order.ar3⟩
theorem DZ.other{cs:List A7}(h:DZ cs){L:cR->Nat}(a:DE cs L):OF cs L:=⟨h.prog.fl,a,h.prog.gE⟩
theorem DZ.grow{cs:List A7}(h:DZ cs){al:A7->List Ah->UInt8->List cR->List cR}(b:∀c∈cs,∀s,Nh (al c s) (Am c) s){L:cR->Nat}(e:DE cs L){n:Nat}{ds:List A7}(a:∀c,c∈ds↔c∈cs/\L c.head.name=n){s:List Ah}(d:I7 cs L n s):
  I7 cs L n (Fh (DX al) ds s).1/\((Fh (DX al) ds s).2=false->(Fh (DX al) ds s).1=s/\I7 cs L (n+1) s)/\
   ((Fh (DX al) ds s).2=true->s.length<(Fh (DX al) ds s).1.length)/\(Fh (DX al) ds s).1.length<=(Rt cs).length:=
 W9 (h.ways b) (h.other e) h.order.zD a d
theorem DZ.round{cs:List A7}(h:DZ cs){n:Nat}{s:List Ah}(a:I7 cs (B0 cs 6) n s):
  I7 cs (B0 cs 6) n (DI cs (B0 cs 6) n s).1/\((DI cs (B0 cs 6) n s).2=false->(DI cs (B0 cs 6) n s).1=s/\I7 cs (B0 cs 6) (n+1) s)/\
   ((DI cs (B0 cs 6) n s).2=true->s.length<(DI cs (B0 cs 6) n s).1.length)/\(DI cs (B0 cs 6) n s).1.length<=(Rt cs).length:=
 TO h.prog a
theorem DZ.one{cs:List A7}(h:DZ cs){s t:List Ah}(a:I7 cs (B0 cs 6) 7 s){L:cR->Nat}(d:DE cs L){N:Nat}(e:I7 cs L N t)(b:∀c∈cs,L c.head.name<N):s=t:=
 ZK h.prog (h.other d) a e (λc _=>by have:=Pi cs 6 c.head.name;omega) b
structure Ei(fs:List Gm)(s:List Ah):Prop where
 same:fs.map Gm.f=s.map Df
 en:E8 s
 canon:∀f∈s,A4 f
theorem E8.pad{s:List Ah}(c:E8 s)(cs:∀f∈s,A4 f):(s.map Df).Pairwise λa b=>Cc a b<0:=by
 rw[dQ];exact dV (fun{a b} ha hb hab=>(Do (cs a ha) (cs b hb)).1 hab) c
theorem Ei.pair{c:List Gm}{s:List Ah}(h:Ei c s):c.Pairwise λa b=>Cc a.f b.f<0:=by
 have:=h.en.pad h.canon;rw[<-h.same,dQ]at this;exact this
theorem S9(a:Ev):¬Cc a a<0:=by
 have:Cc a a=0:=(FG a a).2 rfl;omega
theorem Ei.mono{a:List Gm}{s:List Ah}(h:Ei a s)(x:Ev):∀i j (e:i<a.length) (c:j<a.length),i<=j->Cc a[j].f x<0->Cc a[i].f x<0:=by
 intro i j e c g d;rcases eO g with b|b
 .exact GL (dH.1 h.pair i j e c b) d
 .subst b;exact d
theorem Ei.mem{a:List Gm}{s:List Ah}(h:Ei a s){f:Ah}(c:A4 f):(∃p∈a,p.f=Df f)↔f∈s:=by
 have e:(∃p∈a,p.f=Df f)↔Df f∈a.map Gm.f:=by rw[bV]
 rw[e,h.same,bV];constructor
 .rintro ⟨g,b,e⟩;rw[<-O9 (h.canon g b) c e];exact b
 .intro d;exact⟨f,d,rfl⟩
theorem Ei.gX{a:List Gm}{s:List Ah}(h:Ei a s){f:Ah}(l:A4 f){p:Nat}(k:GI a (Df f) p):EQ a (Df f) p=FK s f:=by
 have o:EQ a (Df f) p=true↔FK s f=true:=by
  rw[Cw,<-h.mem l];unfold EQ;constructor
  .intro c;split at c
   .rename_i b;exact⟨a[p],bL b,(FG _ _).1 (by simpa using c)⟩
   .cases c
  .rintro ⟨q,n,e⟩;obtain⟨j,i,rfl⟩:=cN n;have m:p<=j:=by
    by_cases c:j<p
    .have:=k.below j i c;rw[e]at this;exact absurd this (S9 _)
    .omega
   (have b:p<a.length:=by omega);rw[dif_pos b];rcases eO m with d|d
   .have g:=dH.1 h.pair p j b i d;rw[e]at g;exact absurd g (k.gU p b (bZ _))
   .subst d;rw[e];simpa using(FG _ _).2 rfl
 cases d:EQ a (Df f) p<;>cases g:FK s f<;>simp_all
theorem Ei.zP{d:List Gm}{s:List Ah}(h:Ei d s){x:Gm}{f:Ah}(t:x.f=Df f)(l:A4 f){p:Nat}(u:GI d (Df f) p)(z:EQ d (Df f) p=false):Ei (d.take p++x::d.drop p) (Bp s f):=by
 obtain⟨a,b,m⟩:=Ex l h.en h.canon;refine⟨?_,a,b⟩;have C:f∉s:=λF=>by rw[h.gX l u,(Cw _ _).2 F]at z;cases z
 refine IF (lt:=λa b=>Cc a b<0) S9 (λa b c=>GL) _ _ ?_ (a.pad b) (λy=>?_)
 .rw[dQ,fp];have A:=h.pair;have E:=A.take (i:=p);have B:=A.drop (i:=p);have v:∀q∈d.take p,Cc q.f x.f<0:=by
   intro q j;obtain⟨i,o,rfl⟩:=cN j;rw[cM]at o;rw[eR,t];exact u.below i (by omega) (by omega)
  have w:∀q∈d.drop p,Cc x.f q.f<0:=by
   intro q j;obtain⟨i,o,rfl⟩:=cN j;rw[cQ]at o;rw[fI,t];have I:=u.gU (p+i) (by omega) (by omega);(have H:Cc d[p+i].f (Df f)≠0:=λe=>C ((h.mem l).1 ⟨_,bL _,(FG _ _).1 e⟩));exact(VZ _ _).1 (by omega)
  refine⟨E,dA.2 ⟨w,B⟩,λq j r n=>?_⟩;rcases bS.1 n with rfl|n
  .exact v q j
  .exact GL (v q j) (w r n)
 .have G:y∈(d.take p++x::d.drop p).map Gm.f↔y=x.f\/y∈d.map Gm.f:=by
   (have D:d.map Gm.f=(d.take p).map Gm.f++(d.drop p).map Gm.f:=by rw[<-cW,dl]);rw[D];simp only[cW,cu,bY,bS];constructor
   .rintro (h|h|h)
    .exact Or.inr (Or.inl h)
    .exact Or.inl h
    .exact Or.inr (Or.inr h)
   .rintro (h|h|h)
    .exact Or.inr (Or.inl h)
    .exact Or.inl h
    .exact Or.inr (Or.inr h)
  rw[G,h.same,bV,bV,t];constructor
  .rintro (rfl|⟨g,k,rfl⟩)
   .exact⟨f,(m f).2 (Or.inr rfl),rfl⟩
   .exact⟨g,(m g).2 (Or.inl k),rfl⟩
  .rintro ⟨g,k,rfl⟩;rcases(m g).1 k with k|rfl
   .exact Or.inr ⟨g,k,rfl⟩
   .exact Or.inl rfl
theorem YZ(l:List cR):¬D0 l []<0:=by
 cases l<;>simp[D0]
theorem S6(a:Ev)(n:cR):Cc a ⟨n,[]⟩<0↔Dy a.name n<0:=by
 unfold Cc;simp only;split
 .rename_i h;constructor
  .intro b;exact absurd b (YZ _)
  .intro b;omega
 .exact Iff.rfl
theorem Lk{α:Type}{p:α->Bool}:∀(l:List α),l.Pairwise (λa b=>p b=true->p a=true)->l.takeWhile p=l.filter p
 |[],_=>rfl
 |x::l,h=>by
  rw[dA]at h;rw[List.takeWhile_cons,dv];cases hx:p x with
  |true=>rw[if_pos rfl,if_pos rfl,Lk l h.2]
  |false=>
   rw[if_neg (by simp),if_neg (by simp)];refine(fH.2 (λy d c=>?_)).symm;rw[h.1 y d c]at hx;cases hx
def Rm(n:cR)(q:Gm):Bool:=q.f.name.toList==n.toList
def SR(x:cR):cR:=if Ru x then x else Aw x
def Bf(e:List cR):List cR:=e.map SR
def PE(x:cR):Prop:=x.size=0\/AX x
theorem Wl:Ru ByteArray.empty=true:=(DA _).2 rfl
theorem NN:SR ByteArray.empty=ByteArray.empty:=by unfold SR;rw[Wl,if_pos rfl]
theorem CD{x:cR}(h:AX x):SR x=Aw x:=by
 unfold SR;cases he:Ru x with
 |true=>exact absurd ((DA _).1 he) h.size
 |false=>rfl
theorem Xf{x:cR}(h:AX x):(Aw x).size≠0:=by
 rcases h with⟨c,r,e,a,b⟩|h
 .rw[EC e a,B8,e];simp
 .rw[B8,Fk h];rcases Er h with⟨c,e,_⟩|⟨c,d,e,_⟩|⟨c,d,f,e,_⟩<;>rw[e]<;>simp
theorem Zc{x:cR}(h:PE x):Ru (SR x)=Ru x:=by
 rcases h with h|h
 .have:Ru x=true:=(DA _).2 h;unfold SR;rw[this,if_pos rfl,this]
 .have a:Ru x=false:=by
   cases he:Ru x with
   |true=>exact absurd ((DA _).1 he) h.size
   |false=>rfl
  rw[CD h,a];cases he:Ru (Aw x)with
  |true=>exact absurd ((DA _).1 he) (Xf h)
  |false=>rfl
def PA(b:List cR)(t:AG):cR:=if t.v=0 then SR t.s else b.getD (t.v.toNat-65) ByteArray.empty
theorem D1(e:List cR)(t:AG):PA (Bf e) t=SR (AR e t):=by
 unfold PA AR Bf;by_cases a:t.v=0
 .rw[if_pos a,if_pos a]
 .rw[if_neg a,if_neg a,bT,bT,dI];cases e[t.v.toNat-65]? with
  |none=>exact NN.symm
  |some x=>rfl
theorem ZL(e:List cR)(j:Nat){x:cR}(h:AX x):Bf (e.set j x)=(Bf e).set j (Aw x):=by
 unfold Bf;rw[gd,CD h]
def PP(b:List cR)(ts:List AG)(xs:List cR):Bool:=(ts.zip xs).all λp=>Ru (PA b p.1)||(PA b p.1).toList==p.2.toList
theorem QW{e:List cR}:∀(a:List AG) (b:List cR),(∀t∈a,PE (AR e t))->(∀x∈b,AX x)->PP (Bf e) a (b.map Aw)=OM e a b
 |[],b,_,_=>by simp[PP,OM]
 |t::a,[],_,_=>by simp[PP,OM]
 |t::a,x::b,ht,hx=>by
  have ih:=QW a b (λu f=>ht u (by simp[f])) (λy d=>hx y (by simp[d]));unfold PP OM at ih⊢;rw[cu,fF,fF,eP,eP,ih]
  congr 1
  simp only;rw[D1,Zc (ht t (by simp))];cases he:Ru (AR e t)with
  |true=>rfl
  |false=>
   rw[ex,ex];have c:AX (AR e t):=by
    rcases ht t (by simp)with h|h
    .rw[(DA _).2 h]at he;cases he
    .exact h
   rw[CD c];have g:((Aw (AR e t)).toList==(Aw x).toList)=true↔((AR e t).toList==x.toList)=true:=by
    rw[DR,DR];exact⟨λh=>Fv c (hx x (by simp)) h,λh=>by rw[h]⟩
   cases h1:((Aw (AR e t)).toList==(Aw x).toList)<;>cases h2:((AR e t).toList==x.toList)<;>simp_all
def O2(b:List cR)(ts:List AG):Bool:=ts.all λt=> !Ru (PA b t)
theorem Lg{e:List cR}:∀(a:List AG),(∀t∈a,PE (AR e t))->O2 (Bf e) a=DC e a
 |[],_=>rfl
 |t::a,h=>by
  have ih:=Lg a (λu b=>h u (by simp[b]));unfold O2 DC at ih⊢;rw[eP,eP,ih,D1,Zc (h t (by simp))]
theorem Th{e:List cR}{l r:AG}(a:AX (AR e l))(b:AX (AR e r)):((PA (Bf e) l).toList==(PA (Bf e) r).toList)=((AR e l).toList==(AR e r).toList):=by
 rw[D1,D1,CD a,CD b];have c:((Aw (AR e l)).toList==(Aw (AR e r)).toList)=true↔((AR e l).toList==(AR e r).toList)=true:=by
  rw[DR,DR];exact⟨λh=>Fv a b h,λh=>by rw[h]⟩
 cases h1:((Aw (AR e l)).toList==(Aw (AR e r)).toList)<;>cases h2:((AR e l).toList==(AR e r).toList)<;>simp_all
theorem Ye{e:List cR}{l r:AG}(a:AX (AR e l))(b:AX (AR e r)):Op.bytesLess (PA (Bf e) l).toList (PA (Bf e) r).toList=Ff (AR e l) (AR e r):=by
 rw[D1,D1,CD a,CD b];exact GG a b
def Nl(t:A3):Prop:=t.v=0\/(65<=t.v/\t.v<=90)
def Bs(b:List cR)(t:A3):cR:=Zi b t.v.toNat t.s
def FZ(b:List cR)(ts:List A3):Bool:=ts.all λt=> !Ru (Bs b t)
theorem JO(a d:Nat)(b:List cR)(t:A3)(w:World)(i:b.length=26)(g:AE w a (Ai b) d)(c:Nl t):
  Calls prog 180 #[.pointer (some ⟨a,0,none⟩),.agg #[.int .i32 t.v,.string t.s]] w λr f=>r=.returned (.string (Bs b t))/\Ac [] w f:=by
 have h:=Og a d b t.v.toNat t.s w i g (by rcases c with h|h<;>omega);have e:((t.v.toNat:Nat):Int)=t.v:=by rcases c with h|h<;>omega
 rw[e]at h;exact h
set_option maxRecDepth 100000
theorem SE(e F:Nat)(b:List cR)(C:Option Addr)(I:Nat)(ts:List A3)(base:Nat)(w:World)(M:b.length=26)(J:AE w e (Ai b) F)(E:w.ownsRow base 215 2 (.slice C ts.length I) ts.length (ts.flatMap Ao))(X:ts.length<=100000)(a:∀t∈ts,Nl t):
  Calls prog 204 #[.pointer (some ⟨e,0,none⟩),.slice C ts.length I] w λr n=>r=.returned (.bool (FZ b ts))/\Ac [] w n:=by
 obtain⟨R,u⟩:∃R,FZ b ts=R:=⟨_,rfl⟩;rw[u];have c:Hid ((ts.drop 0).all (λt=> !Ru (Bs b t))=R):=u;have S:Hid (∀t∈ts,∀d,Ac [] w d->Calls prog 180 #[.pointer (some ⟨e,0,none⟩),.agg #[.int .i32 t.v,.string t.s]] d λr n=>r=.returned (.string (Bs b t))/\Ac [] d n):=λt L d y=>JO e F b t d M (J.kept y (by simp)) (a t L)
 have Q:=Ab E;clear u E a J;go_enter func204,ntmps204;go_wp2_with fail
 go_loopg [9] ts.length (λgk i wr=>∃(k:Nat),i=.int .i64 k/\k<=ts.length/\gk=ts.length-k/\Hid ((ts.drop k).all (λt=> !Ru (Bs b t))=R)/\Hid (Ac [] w wr))
 case atStart=>exact⟨0,rfl,by omega,rfl,c,Ac.refl _ _⟩
 case round=>
  clear c;obtain⟨k,rfl,y,B,c,l⟩:=hrel;have O:=Ab B;clear B;by_cases m:k<ts.length
  .obtain⟨g,W,G,D,A⟩:=Eu (Ad (Aa Q) (Aa l) (by simp)) k m;simp only[bK]at G;obtain⟨rfl,_,rfl⟩:=G;obtain⟨T,f⟩:∃T,ts[k]=T:=⟨_,rfl⟩;have q:=Ab ((Aa l).alloc (.cells #[.int .i32 T.v,.string T.s] 215));have p:=Ab (Aa S T (by rw[<-f];exact bL m) _ (Aa q));have j:Hid ((!Ru (Bs b T)&&(ts.drop (k+1)).all (λt=> !Ru (Bs b t)))=R):=by
    have h:=Aa c;rw[ci m,eP,f]at h;exact h
   rw[f]at D A;obtain⟨V,K⟩:∃V,Bs b T=V:=⟨_,rfl⟩;rw[K]at p j;clear c f K;(go_wp2_with fail);refine(Aa p).mono ?_;rintro _ U ⟨rfl,z⟩;have H:=Ab ((Aa q).trans z);clear p q l z D A;cases a:Ru V with
   |true=>
    have o:(V.toList==[])=true:=a;(have N:V.toList=[]:=by simpa using o);(have x:Hid (R=false):=by show _=_;rw[<-Aa j,a];rfl);go_wp2;go_ret;rw[Aa x];exact⟨rfl,Aa H⟩
   |false=>
    have o:(V.toList==[])=false:=a;(have N:¬V.toList=[]:=by simpa using o);(have P:Hid ((ts.drop (k+1)).all (λt=> !Ru (Bs b t))=R):=by have h:=Aa j;rw[a]at h;exact h);clear j;go_wp2
    go_roundg (ts.length-(k+1))
    case measure=>have:=Aa O;omega
    case rel=>exact⟨k+1,by go_num,by omega,rfl,P,H⟩
  .have x:Hid (R=true):=by
    have h:=Aa c;rw[cG (by omega)]at h;exact h.symm
   go_wp2;go_ret;rw[Aa x];exact⟨rfl,Aa l⟩
def GF(b:List cR):List A3->List cR->Bool
 |t::ts,x::xs=>(Ru (Bs b t)||(Bs b t).toList==x.toList)&&GF b ts xs
 |_,_=>true
theorem FE{w:World}{base:Nat}{v:Value}{l:List cR}(h:w.ownsRow base 170 1 v l.length (l.flatMap Ae))(k:Nat)(b:k<l.length):∃g a,v=.slice (some ⟨g,0,none⟩) l.length a/\w.cell? ⟨g,k,none⟩=some (.string l[k]):=by
 obtain⟨g,a,e,_,f⟩:=Av h (λc _=>rfl) k b;have d:=f k b 0 (by omega);simp[Ae]at d;exact⟨g,a,e,d⟩
theorem YU(x ty:Nat)(b:List cR)(q:Int)(nm:cR)(j:Option Addr)(m:Nat)(ts:List A3)(p:Gm)(base:Nat)(w:World)(hb:b.length=26)(hB:AE w x (Ai b) ty)(hr:w.ownsRow base 215 2 (.slice j ts.length m) ts.length (ts.flatMap Ao))(K:Ec w p)(HA:ts.length<=100000)(FC:ts.length<=p.f.dc.length)(e:∀t∈ts,Nl t):
  Calls prog 222 #[.pointer (some ⟨x,0,none⟩),.agg #[.int .i64 q,.string nm,.slice j ts.length m],.agg (Bh p).toArray] w λr D=>r=.returned (.bool (GF b ts p.f.dc))/\Ac [] w D:=by
 obtain⟨⟨l,a⟩,pv⟩:=p;obtain⟨d,c,AH⟩:=Aj K;simp only at AH FC;subst AH;have HX:Hid (w.ownsRow 0 170 1 (.slice d a.length c) a.length (a.flatMap Ae)):=K;simp only[Bh];obtain⟨R,O⟩:∃R,GF b ts a=R:=⟨_,rfl⟩;rw[O];have o:Hid (GF b (ts.drop 0) (a.drop 0)=R):=O;have HT:Hid (∀t∈ts,∀u,Ac [] w u->Calls prog 180 #[.pointer (some ⟨x,0,none⟩),.agg #[.int .i32 t.v,.string t.s]] u λr D=>r=.returned (.string (Bs b t))/\Ac [] u D):=λt ht u Q=>JO x ty b t u hb (hB.kept Q (by simp)) (e t ht)
 have FF:=Ab hr;have z:Hid (AE ((w.alloc (.cells [.int .i64 q,.string nm,.slice j ts.length m].toArray 187)).alloc (.cells [.string l,.slice d a.length c].toArray 104)) (w.heap.size+1) [.string l,.slice d a.length c] 104):=by
  have h:=AE.new (w.alloc (.cells [.int .i64 q,.string nm,.slice j ts.length m].toArray 187)) [.string l,.slice d a.length c] 104;simp only[cD]at h;exact h
 have M:=Ab (((Ac.refl [] w).alloc (.cells [.int .i64 q,.string nm,.slice j ts.length m].toArray 187)).alloc (.cells [.string l,.slice d a.length c].toArray 104));clear O hr e hB K;go_enter func222,ntmps222;go_wp2_with fail
 change Code.wp _ _ _ _ ((w.alloc (.cells [.int .i64 q,.string nm,.slice j ts.length m].toArray 187)).alloc (.cells [.string l,.slice d a.length c].toArray 104));generalize((w.alloc (.cells [.int .i64 q,.string nm,.slice j ts.length m].toArray 187)).alloc (.cells [.string l,.slice d a.length c].toArray 104))=w1 at z M⊢;generalize w.heap.size=N at z⊢
 go_loopg [13] ts.length (λgk i wr=>∃(k:Nat),i=.int .i64 k/\k<=ts.length/\gk=ts.length-k/\Hid (GF b (ts.drop k) (a.drop k)=R)/\Hid (AE wr (N+1) [.string l,.slice d a.length c] 104)/\Hid (Ac [] w wr))
 case atStart=>exact⟨0,rfl,by omega,rfl,o,z,M⟩
 case round=>
  clear o z M;obtain⟨k,rfl,Q,Y,o,U,A⟩:=hrel;have S:=Ab Y;clear Y;by_cases C:k<ts.length
  ·(have Bx:k<a.length:=by omega);obtain⟨g,Go,he,Z,W⟩:=Eu (Ad (Aa FF) (Aa A) (by simp)) k C;simp only[bK]at he;obtain⟨rfl,_,rfl⟩:=he;obtain⟨T,y⟩:∃T,ts[k]=T:=⟨_,rfl⟩;obtain⟨X,F⟩:∃X,a[k]=X:=⟨_,rfl⟩;have L:=Ab ((Aa A).alloc (.cells #[.int .i32 T.v,.string T.s] 215));have AT:=Ab ((Aa U).alloc (.cells #[.int .i32 T.v,.string T.s] 215));have J:=Ab (Aa HT T (by rw[<-y];exact bL C) _ (Aa L));have n:Hid (((Ru (Bs b T)||(Bs b T).toList==X.toList)&&GF b (ts.drop (k+1)) (a.drop (k+1)))=R):=by
    have h:=Aa o;rw[ci C,ci Bx,GF,y,F]at h;exact h
   rw[y]at Z W;obtain⟨V,hV⟩:∃V,Bs b T=V:=⟨_,rfl⟩;rw[hV]at J n;clear o y hV;(have HD:(0:Int)<=(k:Int):=by omega);(have HF:(k:Int)<(a.length:Int):=by omega);(go_wp2_with fail);refine(Aa J).mono ?_;rintro _ w3 ⟨rfl,I⟩;have B:=Ab ((Aa L).trans I);have G:=Ab ((Aa AT).kept I (by simp));obtain⟨g2,Ha,AB,x0⟩:=FE (Ad (Aa HX) (Aa B) (by simp)) k Bx;simp only[bK]at AB;obtain⟨rfl,_,rfl⟩:=AB;rw[F]at x0;have b1:=(Aa G).cell 1;simp at b1;clear J L A I Z W AT U F;cases e:Ru V with
   |true=>
    have E:(V.toList==[])=true:=e;(have EY:V.toList=[]:=by simpa using E);(have H:Hid (GF b (ts.drop (k+1)) (a.drop (k+1))=R):=by have h:=Aa n;rw[e]at h;exact h);clear n;go_wp2
    go_roundg (ts.length-(k+1))
    case measure=>have:=Aa S;omega
    case rel=>exact⟨k+1,by go_num,by omega,rfl,H,G,B⟩
   |false=>
    have E:(V.toList==[])=false:=e;(have EY:¬V.toList=[]:=by simpa using E);cases hx:(V.toList==X.toList)with
    |true=>
     (have EK:(V.toList !=X.toList)=false:=by simp[bne,hx]);(have H:Hid (GF b (ts.drop (k+1)) (a.drop (k+1))=R):=by have h:=Aa n;rw[e,hx]at h;exact h);clear n;go_wp2
     go_roundg (ts.length-(k+1))
     case measure=>have:=Aa S;omega
     case rel=>exact⟨k+1,by go_num,by omega,rfl,H,G,B⟩
    |false=>
     (have EK:(V.toList !=X.toList)=true:=by simp[bne,hx]);(have P:Hid (R=false):=by show _=_;rw[<-Aa n,e,hx];rfl);go_wp2;go_ret;rw[Aa P];exact⟨rfl,Aa B⟩
  .have P:Hid (R=true):=by
    have h:=Aa o;rw[cG (by omega),GF]at h
    .exact h.symm
    .simp
   go_wp2;go_ret;rw[Aa P];exact⟨rfl,Aa A⟩
def Ia(a b:A3):Bool:=a.v==b.v&&a.s.toList==b.s.toList
def PR(ts:List A3)(x:A3)(r:Int):Prop:=(r= -1/\∀t∈ts,Ia x t=false)\/∃k,∃h:k<ts.length,r=(k:Int)/\Ia x ts[k]=true/\∀j (hj:j<ts.length),j<k->Ia x ts[j]=false
theorem Xn(C:Option Addr)(F:Nat)(ts:List A3)(x:A3)(base:Nat)(w:World)(D:w.ownsRow base 215 2 (.slice C ts.length F) ts.length (ts.flatMap Ao))(V:ts.length<=100000):
  Calls prog 206 #[.slice C ts.length F,.agg #[.int .i32 x.v,.string x.s]] w λr H=>∃n,r=.returned (.int .i64 n)/\PR ts x n/\Ac [] w H:=by
 have P:=Ab D;obtain⟨e,l⟩:∃e:Int->Prop,e=PR ts x:=⟨_,rfl⟩;have y:=Ab l;rw[<-l];have a:=Ab (AE.new w [.int .i32 x.v,.string x.s] 215);have b:=Ab ((Ac.refl [] w).alloc (.cells #[.int .i32 x.v,.string x.s] 215));clear D l;go_enter func206,ntmps206;go_wp2_with fail
 change Code.wp _ _ _ _ (w.alloc (.cells [.int .i32 x.v,.string x.s].toArray 215));generalize w.alloc (.cells [.int .i32 x.v,.string x.s].toArray 215)=w1 at a b⊢;generalize w.heap.size=N at a⊢
 go_loopg [8] ts.length (λgk i wr=>∃(k:Nat),i=.int .i64 k/\k<=ts.length/\gk=ts.length-k/\Hid (∀j (c:j<ts.length),j<k->Ia x ts[j]=false)/\Hid (AE wr N [.int .i32 x.v,.string x.s] 215)/\Hid (Ac [] w wr))
 case atStart=>exact⟨0,rfl,by omega,rfl,λj c h=>by omega,a,b⟩
 case round=>
  clear a b;obtain⟨k,rfl,S,A,f,a,b⟩:=hrel;have z:=Ab A;clear A;by_cases q:k<ts.length
  .obtain⟨g,U,E,L,K⟩:=Eu (Ad (Aa P) (Aa b) (by simp)) k q;simp only[bK]at E;obtain⟨rfl,_,rfl⟩:=E;obtain⟨T,m⟩:∃T,ts[k]=T:=⟨_,rfl⟩;have u:=Ab m;rw[m]at L K;clear m;have G:=(Aa a).cell 0;have O:=(Aa a).cell 1;simp at G O;(have W:(0:Int)<=(k:Int):=by omega);(have X:(k:Int)<(ts.length:Int):=by omega);(have d:Hid (∀n,AE (wr.drewN n) N [.int .i32 x.v,.string x.s] 215/\Ac [] w (wr.drewN n)):=λn=>⟨(Aa a).drewN n,(Aa b).drewN n⟩);cases hs:Ia x T with
   |true=>
    have o:(x.v==T.v)=true/\(x.s.toList==T.s.toList)=true:=by
     unfold Ia at hs;simpa using hs
    have Q:=o.1;have M:=o.2;have p:Hid (e (k:Int)):=by
     rw[Aa y];exact Or.inr ⟨k,q,rfl,by rw[Aa u];exact hs,Aa f⟩
    clear o hs;go_wp2_with fail
    go_quiet (fail)
    go_wp2;go_ret;exact⟨k,rfl,Aa p,(Aa d _).2⟩
   |false=>
    have B:Hid (∀j (c:j<ts.length),j<k+1->Ia x ts[j]=false):=by
     intro j c R;by_cases h:j<k
     .exact Aa f j c h
     ·(have I:j=k:=by omega);subst I;rw[Aa u];exact hs
    cases ha:(x.v==T.v)with
    |false=>
     clear hs;go_wp2_with fail
     go_quiet (fail)
     go_wp2
     go_roundg (ts.length-(k+1))
     case measure=>have:=Aa z;omega
     case rel=>exact⟨k+1,by go_num,by omega,rfl,B,(Aa d _).1,(Aa d _).2⟩
    |true=>
     have M:(x.s.toList==T.s.toList)=false:=by
      unfold Ia at hs;rw[ha,dF]at hs;exact hs
     clear hs;go_wp2_with fail
     go_quiet (fail)
     go_wp2
     go_roundg (ts.length-(k+1))
     case measure=>have:=Aa z;omega
     case rel=>exact⟨k+1,by go_num,by omega,rfl,B,(Aa d _).1,(Aa d _).2⟩
  .have p:Hid (e (-1)):=by
    rw[Aa y];refine Or.inl ⟨rfl,λt J=>?_⟩;obtain⟨j,c,rfl⟩:=cN J;exact Aa f j c (by omega)
   go_wp2;go_ret;exact⟨-1,rfl,Aa p,Aa b⟩
theorem OS{w:World}{base:Nat}{v:Value}{l:List Int}(h:w.ownsRow base 21 1 v l.length (l.flatMap AK))(k:Nat)(b:k<l.length):∃g a,v=.slice (some ⟨g,0,none⟩) l.length a/\w.cell? ⟨g,k,none⟩=some (.int .i32 l[k]):=by
 obtain⟨g,a,e,_,f⟩:=Av h (λc _=>rfl) k b;have d:=f k b 0 (by omega);simp[AK]at d;exact⟨g,a,e,d⟩
theorem YI(q:Option Addr)(u:Nat)(l:List Int)(x:Int)(base:Nat)(w:World)(s:w.ownsRow base 21 1 (.slice q l.length u) l.length (l.flatMap AK))(I:l.length<=100000):
  Calls prog 203 #[.slice q l.length u,.int .i32 x] w λr v=>∃n:Int,r=.returned (.int .i64 n)/\(n= -1/\x∉l\/0<=n/\x∈l)/\v=w:=by
 have E:=Ab s;clear s;go_enter func203,ntmps203;go_wp2_with fail
 go_loopg [8] l.length (λgk i wr=>∃(k:Nat),i=.int .i64 k/\k<=l.length/\gk=l.length-k/\Hid (∀j (b:j<l.length),j<k->l[j]≠x)/\wr=w)
 case atStart=>exact⟨0,rfl,by omega,rfl,λj b h=>by omega,rfl⟩
 case round=>
  obtain⟨k,rfl,G,p,m,rfl⟩:=hrel;have z:=Ab p;clear p;by_cases f:k<l.length
  .obtain⟨g,H,t,C⟩:=OS (Aa E) k f;simp only[bK]at t;obtain⟨rfl,_,rfl⟩:=t;obtain⟨T,d⟩:∃T,l[k]=T:=⟨_,rfl⟩;have o:=Ab d;rw[d]at C;clear d;(have J:(0:Int)<=(k:Int):=by omega);(have K:(k:Int)<(l.length:Int):=by omega);by_cases a:x=T
   ·(have A:(x==T)=true:=by simp[a]);(have c:Hid (x∈l):=by show _∈_;rw[a,<-Aa o];exact bL f);clear a;go_wp2;go_ret;exact⟨k,rfl,Or.inr ⟨by omega,Aa c⟩,rfl⟩
   ·(have A:(x==T)=false:=by simp[a]);have B:Hid (∀j (b:j<l.length),j<k+1->l[j]≠x):=by
     intro j b F;by_cases h:j<k
     .exact Aa m j b h
     ·(have y:j=k:=by omega);subst y;rw[Aa o];exact λe=>a e.symm
    clear a;go_wp2
    go_roundg (l.length-(k+1))
    case measure=>have:=Aa z;omega
    case rel=>exact⟨k+1,by go_num,by omega,rfl,B,rfl⟩
  .have c:Hid (x∉l):=by
    intro D;obtain⟨j,b,e⟩:=cN D;exact Aa m j b (by omega) e
   go_wp2;go_ret;exact⟨-1,rfl,Or.inl ⟨rfl,Aa c⟩,rfl⟩
theorem PK(c:Option Addr)(b:Nat)(l:List Int)(x:Int)(base:Nat)(w:World)(d:w.ownsRow base 21 1 (.slice c l.length b) l.length (l.flatMap AK))(i:l.length<=100000):
  Calls prog 175 #[.slice c l.length b,.int .i32 x] w λr h=>r=.returned (.bool (decide (x∈l)))/\h=w:=by
 have f:=Ab (YI c b l x base w d i);clear d;go_enter func175,ntmps175;go_wp2_with fail
 refine(Aa f).mono ?_;rintro _ k ⟨n,rfl,g,rfl⟩;have j:Hid (decide (0<=n)=decide (x∈l)):=by
  show _=_;rcases g with⟨e,a⟩|⟨e,a⟩
  .rw[fZ a,fZ (by omega)]
  .rw[fe a,fe e]
 clear g f;go_wp2;go_ret;rw[<-Aa j];exact⟨rfl,rfl⟩
def Uj(a:List Int)(t:A3):List Int:=if t.v≠0/\t.v∉a then a++[t.v] else a
def C4(ts:List A3):List Int:=ts.foldl Uj []
theorem UI{ts:List A3}{k:Nat}(a:k<ts.length):C4 (ts.take (k+1))=Uj (C4 (ts.take k)) ts[k]:=by
 unfold C4;rw[bM a,cY];rfl
theorem L6(P:Option Addr)(cp:Nat)(ts:List A3)(base:Nat)(w:World)(X:w.ownsRow base 215 2 (.slice P ts.length cp) ts.length (ts.flatMap Ao))(HA:ts.length<=90000):
  Calls prog 138 #[.slice P ts.length cp] w λr J=>∃W S,r=.returned (.slice W (C4 ts).length S)/\J.ownsRow w.heap.size 21 1 (.slice W (C4 ts).length S) (C4 ts).length ((C4 ts).flatMap AK)/\Ac [] w J:=by
 obtain⟨i0,FP,AT,BA,EK⟩:=cU Tryz.gm;have FO:=Ab X;obtain⟨R,C⟩:∃R,C4 ts=R:=⟨_,rfl⟩;rw[C];have HR:=Ab C;obtain⟨N,F⟩:∃N,w.heap.size=N:=⟨_,rfl⟩;rw[F];have Y:=Ab F;clear X C F;go_enter func138,ntmps138;go_wp2_with fail
 go_loopg [3,8] ts.length (λgk o i wr=>∃(k:Nat) (l:List Int) (c:Option Addr) (b:Nat),o=.slice c l.length b/\i=.int .i64 k/\k<=ts.length/\gk=ts.length-k/\l.length<=k/\Hid (C4 (ts.take k)=l)/\Hid (wr.ownsRow N 21 1 (.slice c l.length b) l.length (l.flatMap AK))/\Hid (Ac [] w wr))
 case atStart=>exact⟨0,[],none,0,rfl,rfl,by omega,rfl,by simp,rfl,ck _ _ _ _,Ac.refl _ _⟩
 case round=>
  obtain⟨k,l,c,b,rfl,rfl,hk,M,FW,D,z,p⟩:=hrel;have x:=Ab M;clear M;by_cases I:k<ts.length
  .obtain⟨g,Ha,Z,Q,L⟩:=Eu (Ad (Aa FO) (Aa p) (by simp)) k I;simp only[bK]at Z;obtain⟨rfl,_,rfl⟩:=Z;obtain⟨T,y⟩:∃T,ts[k]=T:=⟨_,rfl⟩;have f:Hid (C4 (ts.take (k+1))=if T.v≠0/\T.v∉l then l++[T.v] else l):=by
    show _=_;rw[UI I,Aa D,y];rfl
   rw[y]at Q L;clear y D;have n:=Ab ((Aa p).alloc (.cells #[.int .i32 T.v,.string T.s] 215));have u:=Ab (AE.new wr [.int .i32 T.v,.string T.s] 215);have E:=bQ (Aa z) (.cells #[.int .i32 T.v,.string T.s] 215);have m:=Ab E;have d:=Ab (PK c b l T.v N _ E (by omega));(have EY:N<=wr.heap.size:=by have:=(Aa p).size;have:=Aa Y;omega);clear E z p;by_cases a:T.v=0
   ·(have FF:(T.v !=0)=false:=by simp[a]);(have EX:(T.v==0)=true:=by simp[a]);(have j:Hid (C4 (ts.take (k+1))=l):=by show _=_;rw[Aa f,if_neg (λh=>h.1 a)]);clear f a d;go_wp2
    go_roundg (ts.length-(k+1))
    case measure=>have:=Aa x;omega
    case rel=>exact⟨k+1,l,c,b,rfl,by go_num,by omega,rfl,by omega,j,m,n⟩
   ·(have FF:(T.v !=0)=true:=by simp[a]);(have EX:(T.v==0)=false:=by simp[a]);by_cases e:T.v∈l
    ·(have j:Hid (C4 (ts.take (k+1))=l):=by show _=_;rw[Aa f,if_neg (λh=>h.2 e)]);rw[fe e]at d;clear f a e;(go_wp2_with fail);refine(Aa d).mono ?_;rintro _ w3 ⟨rfl,rfl⟩;go_wp2
     go_roundg (ts.length-(k+1))
     case measure=>have:=Aa x;omega
     case rel=>exact⟨k+1,l,c,b,rfl,by go_num,by omega,rfl,by omega,j,m,n⟩
    ·(have j:Hid (C4 (ts.take (k+1))=l++[T.v]):=by show _=_;rw[Aa f,if_pos ⟨a,e⟩]);rw[fZ e]at d;clear f a e;(go_wp2_with fail);refine(Aa d).mono ?_;rintro _ w3 ⟨rfl,rfl⟩;obtain⟨B,hB⟩:∃B,wr.heap.size=B:=⟨_,rfl⟩;rw[hB]at u EY⊢;have A:Hid (AE (wr.alloc (.cells #[.int .i32 T.v,.string T.s] 215)) B [.int .i32 T.v,.string T.s] 215):=u;have B9:B<(wr.alloc (.cells #[.int .i32 T.v,.string T.s] 215)).heap.size:=(Aa A).lt;clear d u hB Q L;generalize wr.alloc (.cells #[.int .i32 T.v,.string T.s] 215)=w4 at m n A B9⊢;have H:=(Aa A).cell 0;simp at H;have G:=Aa m;go_wp2_with (at_builtin;refine cd _ rfl (.tmp 22) (.tmp 25) _ rfl N 21 i0 _ 1 4 underlying234 FP AT BA EK rfl (by omega) (.slice c l.length b) l.length (l.flatMap AK) rfl (bQ G _) ⟨w4.heap.size,0,none⟩ 1 1 [.int .i32 T.v] rfl rfl (cj (cs:=#[.int .i32 T.v]) (t:=21) (fr:=(0,0)) (cA w4 _)) (by simp[Value.oneCell']) (by omega) (by unfold maxLen;omega) (by omega) (by simp;omega) (w4.heap.size+1) (by simp) ?_;intro V K w9 U O AH FA)
     have ES:Hid (w9.ownsRow N 21 1 (.slice (some ⟨V,0,none⟩) (l++[T.v]).length K) (l++[T.v]).length ((l++[T.v]).flatMap AK)):=by
      rw[cw];simp only[cc,bU,cE,cV,cg,cZ,cK,AK];exact U
     have BT:=Ab (((Aa n).alloc (.cells #[.int .i32 T.v] 21)).grown O (λq hq=>Or.inr (by have:=(G.lt q hq).1;have:=Aa Y;omega)));clear U O AH FA G m n H
     go_roundg (ts.length-(k+1))
     case measure=>have:=Aa x;omega
     case rel=>exact⟨k+1,l++[T.v],some ⟨V,0,none⟩,K,by simp,by go_num,by omega,rfl,by simp;omega,j,ES,BT⟩
  .have HE:Hid (l=R):=by
    have h:=Aa D;rw[bP (by omega),Aa HR]at h;exact h.symm
   go_wp2;go_ret;rw[<-Aa HE];exact⟨c,b,rfl,Aa z,Aa p⟩
theorem Tryz.g9:(Tryz.prog.info? 5).map (λi=>(i.zero,i.size,i.bytes))=some (some (.int .u8 0),1,1):=by kernel_rfl
def Dc(v:UInt8):List Value:=[.int .u8 v.toNat]
theorem Gl(v:UInt8):(Dc v).length=1:=rfl
theorem UP(acc:List UInt8){ts:List AG}{k:Nat}(a:k<ts.length):CO acc (ts.take (k+1))=Dj (CO acc (ts.take k)) ts[k]:=by
 unfold CO;rw[bM a,cY];rfl
theorem WC(p:AY)(w:World)(d:BJ w 0 p):
  Calls prog 131 #[.agg (AN p).toArray] w λe k=>∃f,e=.returned f/\k.ownsRow 0 93 2 f (Au p).length ((Au p).flatMap AM)/\Ac [] w k/\(f=p.2\/∀q,f.ownBlock=some q->w.heap.size<=q):=by
 obtain⟨i,g,c⟩:=Aj d;have n:Hid (p.2=.slice i p.1.A.args.length g):=c;simp only[AN,BQ,c];rcases Dp p with⟨j,b⟩|⟨j,l,b⟩|⟨j,l,b⟩
 .have a:Hid (Au p=p.1.A.args/\p.2=.slice i p.1.A.args.length g/\BJ w 0 p):=⟨by unfold Au;simp[b],c,d⟩;clear b c d;go_enter func131,ntmps131;go_wp2;go_ret;refine⟨_,rfl,?_,(Ac.refl _ _).alloc _,Or.inl rfl⟩;rw[a.out.1];have h:w.ownsRow 0 93 2 _ _ _:=a.out.2.2;rw[a.out.2.1]at h;exact h.alloc _
 .have a:Hid (Au p=p.1.A.args/\p.2=.slice i p.1.A.args.length g/\BJ w 0 p):=⟨by unfold Au;simp[b],c,d⟩;clear b c d;go_enter func131,ntmps131;go_wp2;go_ret;refine⟨_,rfl,?_,(Ac.refl _ _).alloc _,Or.inl rfl⟩;rw[a.out.1];have h:w.ownsRow 0 93 2 _ _ _:=a.out.2.2;rw[a.out.2.1]at h;exact h.alloc _
 .have a:Hid (Au p=[p.1.L,p.1.R]):=by show _=_;unfold Au;simp[b]
  clear b c d;go_enter func131,ntmps131;go_wp2;go_ret;refine⟨_,rfl,?_,((Ac.refl _ _).alloc _).alloc _,Or.inr (λq m=>by simp[Value.ownBlock]at m;omega)⟩;rw[a.out];refine⟨rfl,Or.inr ⟨_,2,#[.int .u8 p.1.L.v.toNat,.string p.1.L.s,.int .u8 p.1.R.v.toNat,.string p.1.R.s],rfl,b8 _,by have h:=cA (w.alloc (.cells #[.int .u8 p.1.kind.toNat,.string p.1.A.name,.slice i p.1.A.args.length g,.int .i64 p.1.A.at_,.int .u8 p.1.L.v.toNat,.string p.1.L.s,.int .u8 p.1.R.v.toNat,.string p.1.R.s,.int .i64 p.1.at_] 95)) (.cells #[.int .u8 p.1.L.v.toNat,.string p.1.L.s,.int .u8 p.1.R.v.toNat,.string p.1.R.s] 93);rw[cD]at h;exact h,by simp,by unfold maxLen;omega,rfl,?_⟩⟩;simp[AM]
def Rz(acc:List UInt8)(p:AY):List UInt8:=CO acc (Au p)
theorem XI(BT:Option Addr)(Ax:Nat)(bl:List AY)(w:World)(hb:w.ownsRow 0 95 9 (.slice BT bl.length Ax) bl.length (bl.flatMap AN))(hl:∀p∈bl,BJ w 0 p)(K8:bl.length<=1000)(FW:∀p∈bl,p.1.A.args.length<=1000):
  Calls prog 113 #[.slice BT bl.length Ax] w λe w'=>∃ad cp,e=.returned (.slice ad (bl.foldl Rz []).length cp)/\w'.ownsRow w.heap.size 5 1 (.slice ad (bl.foldl Rz []).length cp) (bl.foldl Rz []).length ((bl.foldl Rz []).flatMap Dc)/\Ac [] w w':=by
 obtain⟨i0,KD,H7,K3,Jx⟩:=cU Tryz.g9;have X:Hid (w.ownsRow 0 95 9 (.slice BT bl.length Ax) bl.length (bl.flatMap AN)/\(∀p∈bl,BJ w 0 p)/\(∀p∈bl,p.1.A.args.length<=1000)):=⟨hb,hl,FW⟩;clear hb hl FW;have MB:∀(x:Bool) (w:World),(Op.unary .not (.bool x)).run prog w=.ok (.bool (!x)) w:=λ_ _=>rfl
 go_enter func113,ntmps113;go_wp2
 go_loopw [3,4] (λo i wr=>∃(k:Nat) (s:List UInt8),i=.int .i64 k/\k<=bl.length/\Hid ((bl.take k).foldl Rz []=s)/\s.length<=1000*k/\wr.ownsRow w.heap.size 5 1 o s.length (s.flatMap Dc)/\Ac [] w wr) (λ_ i _=>bl.length-(intOf i).toNat)
 case atStart=>exact⟨0,[],rfl,b8 _,by show _=_;simp,by simp,ck _ _ _ _,Ac.refl _ _⟩
 case round=>
  obtain⟨k,s,rfl,C,HF,LE,y,G⟩:=hrel;obtain⟨H1,HZ,rfl⟩:=Aj y;by_cases r:k<bl.length
  .obtain⟨g,LL,E,hc,t⟩:=Av (Ad X.out.1 G (by simp)) (λc _=>Bw c) k r;simp only[bK]at E;obtain⟨rfl,_,rfl⟩:=E;have l:BJ _ 0 bl[k]:=(X.out.2.1 bl[k] (bL r)).kept G (by simp);obtain⟨M1,Mo,U⟩:=Aj l;have T:=WC bl[k] _ l;simp only[AN,BQ,U]at T;have d0:=t k r 0 (by omega);have d1:=t k r 1 (by omega);have Y:=t k r 2 (by omega);have d3:=t k r 3 (by omega);have d4:=t k r 4 (by omega);have d5:=t k r 5 (by omega);have d6:=t k r 6 (by omega);have d7:=t k r 7 (by omega);have d8:=t k r 8 (by omega);simp[AN,BQ]at d0 d1 Y d3 d4 d5 d6 d7 d8;rw[U]at Y;have HT:=Ab T;have EX:=Ab U;have KK:(Au bl[k]).length<=1000:=by
    have:=X.out.2.2 bl[k] (bL r);unfold Au;split<;>simp<;>omega
   (have HN:Hid ((bl.take (k+1)).foldl Rz []=CO s (Au bl[k])):=by show _=_;rw[CW _ _ r,HF.out];rfl);clear t l U T;(go_wp2_with fail);refine(Aa HT).mono ?_;rintro e w2 ⟨tv,rfl,R,EK,W⟩;clear HT d0 d1 Y d3 d4 d5 d6 d7 d8;have HH:=G.trans EK;have FC:=Ad y EK (by simp);have HJ:BP tv (.slice H1 s.length HZ):=by
    intro q F E;rcases W with rfl|W
    .have h1:=((X.out.2.1 bl[k] (bL r)).lt q (by rw[Aa EX];exact F)).2;have h2:=(y.lt q E).1;omega
    .have h1:=W q F;have h2:=(y.lt q E).2;omega
   clear y G EK W EX;obtain⟨f,HD⟩:∃f,Au bl[k]=f:=⟨_,rfl⟩;rw[HD]at HN R KK;clear HD;obtain⟨H0,AH,rfl⟩:=Aj R;go_wp2
   go_loopw [3,6] (λo i wq=>∃(m:Nat) (d:List UInt8),i=.int .i64 m/\m<=f.length/\Hid (CO s (f.take m)=d)/\d.length<=s.length+m/\wq.ownsRow w.heap.size 5 1 o d.length (d.flatMap Dc)/\Ac [] w wq/\wq.ownsRow 0 93 2 (.slice H0 f.length AH) f.length (f.flatMap AM)/\BP (.slice H0 f.length AH) o) (λ_ i _=>f.length-(intOf i).toNat)
   case atStart=>exact⟨0,s,rfl,b8 _,by show _=_;simp[CO],by omega,FC,HH,R,HJ⟩
   case round=>
    clear FC HH R HJ;obtain⟨m,d,rfl,hm,H,L0,N,Bx,L,B9⟩:=hrel;obtain⟨HG,HY,rfl⟩:=Aj N;by_cases AO:m<f.length
    .obtain⟨gt,K7,HA,_,H2⟩:=Av L (λc _=>EG c) m AO;simp only[bK]at HA;obtain⟨rfl,_,rfl⟩:=HA;have J:=H2 m AO 0 (by omega);simp[AM]at J;clear H2;have e1:((f[m].v.toNat:Int)==0)=(f[m].v==0):=B2 _ 0;(have P:Hid (CO s (f.take (m+1))=Dj d f[m]):=by show _=_;rw[UP _ AO,H.out]);obtain⟨V,hV⟩:∃V,f[m].v=V:=⟨_,rfl⟩;(have M:Hid (Dj d f[m]=if(V !=0&& !d.contains V)=true then d++[V] else d):=by show _=_;unfold Dj;rw[hV]);rw[hV]at J e1;clear hV;have HP:=Ab (Ac.refl [] wr);(have H8:Hid (∀u,Ac [] wr u->u.cell? ⟨gt,m*2,none⟩=some (.int .u8 V.toNat)/\u.ownsRow w.heap.size 5 1 (.slice HG d.length HY) d.length (d.flatMap Dc)/\Ac [] w u/\u.ownsRow 0 93 2 (.slice (some ⟨gt,0,none⟩) f.length AH) f.length (f.flatMap AM)):=λu C=>⟨C.cellAt J,Ad N C (by simp),Bx.trans C,Ad L C (by simp)⟩);have AT:=Ab B9;clear H N Bx L B9;(go_wp2_with fail);clear J
     go_loopw [7,8] (λb j u=>∃q:Nat,j=.int .i64 q/\q<=d.length/\b=.bool (V==0||(d.take q).contains V)/\Hid (Ac [] wr u)) (λ_ j _=>d.length-(intOf j).toNat)
     case atStart=>exact⟨0,rfl,b8 _,by simp,HP⟩
     case round=>
      clear HP;obtain⟨q,rfl,F,rfl,S⟩:=hrel;obtain⟨t1,B,K,O⟩:=Aa H8 _ (Aa S);by_cases Z:q<d.length
      .obtain⟨go,co,FA,_,HX⟩:=Av B (λc _=>Gl c) q Z;simp only[bK]at FA;obtain⟨rfl,_,rfl⟩:=FA;have o0:=HX q Z 0 (by omega);simp[Dc]at o0;have e2:((d[q].toNat:Int)==(V.toNat:Int))=(d[q]==V):=B2 _ _;have I:Hid ((V==0||(d.take (q+1)).contains V)=((V==0||(d.take q).contains V)||d[q]==V)):=by
        show _=_;rw[bM Z];rw[dk];simp only[dr,dE,fh,bY,bO];rw[or_assoc,eq_comm (a:=V) (b:=d[q])]
       clear HX B K O;cases l:(V==0||(d.take q).contains V)with
       |true=>
        rw[l]at I;go_wp2_with fail
        go_quiet (fail)
        go_wp2
        go_roundw
        case rel=>exact⟨q+1,by go_num,by omega,by rw[Aa I];rfl,(Aa S).drewN _⟩
        case measure=>simp[intOf];omega
       |false=>
        rw[l]at I;go_wp2_with fail
        go_quiet (fail)
        go_wp2
        go_roundw
        case rel=>exact⟨q+1,by go_num,by omega,by rw[Aa I];simp,(Aa S).drewN _⟩
        case measure=>simp[intOf];omega
      ·(have Q:Hid ((V==0||(d.take q).contains V)=(V==0||d.contains V)):=by show _=_;rw[bP (by omega)]);clear S;cases l:(V==0||d.contains V)with
       |true=>
        have z:Hid (CO s (f.take (m+1))=d):=by
         show _=_;rw[Aa P,Aa M,if_neg];intro D;rw[cq]at D;rw[dr]at l;rcases l with h|h
         .rw[bne,h]at D;simp at D
         .rw[h]at D;simp at D
        rw[Aa Q,l];clear P M l Q;go_wp2
        go_roundw
        case rel=>exact⟨m+1,d,by go_num,by omega,z,by omega,B,K,O,Aa AT⟩
        case measure=>simp[intOf];omega
       |false=>
        have z:Hid (CO s (f.take (m+1))=d++[V]):=by
         show _=_;rw[Aa P,Aa M,if_pos];rw[eQ]at l;rw[cq,bne,l.1,l.2];exact⟨rfl,rfl⟩
        rw[Aa Q,l];have LC:=K.size;clear P M l Q;go_wp2_with (at_builtin;(refine cd _ rfl (.tmp 53) (.tmp 59) _ rfl w.heap.size 5 i0 _ 1 1 underlying143 KD H7 K3 Jx rfl (by omega) (.slice HG d.length HY) d.length (d.flatMap Dc) rfl (B.alloc _) ⟨wr.heap.size,0,none⟩ 1 1 [.int .u8 V.toNat] rfl rfl (cj (cA wr _)) (by simp[Value.oneCell']) (by omega) (by unfold maxLen;omega) (by omega) (by simp;omega) (wr.heap.size+1) (by simp) ?_);intro g5 JA w5 H5 ES FO K1)
        have K4:Ac [] w w5:=(K.alloc _).grown ES (λq F=>Or.inr (B.lt q F).1);have JJ:=Fy (O.alloc _) ES (Aa AT);have KS:=BP.gO (n:=d.length+1) (cap:=JA) (Aa AT) (O.alloc (.cells #[.int .u8 V.toNat] 5)) FO (by simp);clear ES FO K1;go_wp2
        go_roundw
        case rel=>
         refine⟨m+1,d++[V],by go_num,by omega,z,by simp;omega,?_,K4,JJ,by simpa using KS⟩;simpa[Dc] using H5
        case measure=>simp[intOf];omega
    ·(have z:Hid ((bl.take (k+1)).foldl Rz []=d):=by show _=_;rw[Aa HN,<-Aa H,bP (by omega)]);clear HN H L B9;go_wp2
     go_roundw
     case rel=>exact⟨k+1,d,by go_num,by omega,z,by omega,N,Bx⟩
     case measure=>simp[intOf];omega
  ·(have HE:Hid (bl.foldl Rz []=s):=by show _=_;have h:=HF.out;rwa [bP (by omega)]at h);clear HF;go_wp2;go_ret;rw[Aa HE];exact⟨H1,HZ,rfl,y,G⟩
