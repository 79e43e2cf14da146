import Derived.Test.YtoihbhenbmffcaaGreatDoorYAW
import Derived.Test.YtoihbhenbmffcaaGreatDoorYBA
import Derived.Test.YtoihbhenbmffcaaGreatDoorYAT
set_option linter.all false
set_option maxHeartbeats 0
open List renaming length->Z
open Option renaming none->Y,some->V
open Go.Value renaming slice->U,int->X,string->O,pointer->j3
open Bool renaming false->K,true->jj
open Go.IntKind renaming i64->J,i32->jI
open Go.Obj renaming cells->j1
open Go.Ending renaming returned->j4
open Or renaming inl->j5,inr->j6
open Go renaming World->j7
open Go.RowKit renaming Hid->j9
open Go.World renaming ownsRow->jG
open ByteArray renaming empty->jK
namespace Go.Proofs.YtoihbhenbmffcaaGreatDoor
open Go.RowKit Go.Proofs.Tryz
def aV(x:Af):List Af->List Af
 |[]=>[x]
 |y::m=>if DI x y then x::y::m else y::aV x m
def AY(s:List Af)(f:Af):List Af:=if DD s f then s else aV f s
def EI(s:List Af):Prop:=s.Pairwise λa b=>DI a b=jj
def Md(x:Af):∀(l:List Af),Z (aV x l)=Z l+1
 |[]=>rfl
 |y::m=>by
  rw[aV];split
  .rfl
  .rw[eF,Md x m,eF]
def T6(x:B5):∀(l:List B5),(P2 x l).map B5.f=aV x.f (l.map B5.f)
 |[]=>rfl
 |y::m=>by
  rw[P2,eR,aV];split
  .rfl
  .rw[eR,T6 x m]
def am(l:List B5)(f:Af):UD l f=DD (l.map B5.f) f:=by
 unfold UD DD;rw[iP];rfl
def M9(l:List B5)(x:B5):(Fx l x).map B5.f=AY (l.map B5.f) x.f:=by
 unfold Fx AY;rw[am];split
 .rfl
 .rw[WO,T6]
def dD(f:Af):B5:=⟨f,.bool K⟩
def cn(s:List Af):(s.map dD).map B5.f=s:=by
 rw[fN];exact List.map_id s
def DC{s:List Af}{f:Af}(u:AM f)(j:EI s)(t:∀p∈s,AM p):EI (AY s f)/\(∀p∈AY s f,AM p)/\∀g,g∈AY s f↔g∈s\/g=f:=by
 have m:F8 (s.map dD):=by
  unfold F8;rw[gY];exact j
 have k:∀p∈s.map dD,AM p.f:=by
  intro p d;obtain⟨g,r,rfl⟩:=eH.1 d;exact t g r
 obtain⟨a,b,c⟩:=VY (l:=s.map dD) (x:=dD f) u m k;have e:=M9 (s.map dD) (dD f);rw[cn]at e;have o:AY s f=(Fx (s.map dD) (dD f)).map B5.f:=e.symm;rw[o];refine⟨?_,?_,?_⟩
 .unfold EI;rw[gY];exact a
 .intro p d;obtain⟨q,i,rfl⟩:=eH.1 d;exact b q i
 .intro g;have n:=c g;rw[eH,n];constructor
  .rintro (⟨p,d,rfl⟩|h)
   .obtain⟨q,i,rfl⟩:=eH.1 d;exact j5 i
   .exact j6 h
  .rintro (h|h)
   .exact j5 ⟨dD g,eZ h,rfl⟩
   .exact j6 h
def consts(cs:List A8):List g0:=cs.flatMap λc=>(c.head.args.filter λt=>t.v==0).map AG.s
structure Fd(cs:List A8)(f:Af):Prop where
 zg:∃c∈cs,f.name=c.head.name/\Z f.args=Z c.head.args
 args:∀x∈f.args,x∈consts cs
def It(l:List g0):Nat->List (List g0)
 |0=>[[]]
 |n+1=>l.flatMap λx=>(It l n).map (x:: ·)
def QU(cs:List A8):List Af:=cs.flatMap λc=>(It (consts cs) (Z c.head.args)).map (Af.mk c.head.name)
def QV(l:List g0):∀(m:List g0),(∀x∈m,x∈l)->m∈It l (Z m)
 |[],_=>by simp[It]
 |x::m,h=>by
  rw[eF,It,fA];exact⟨x,h x (by simp),eH.2 ⟨m,QV l m (λy a=>h y (by simp[a])),rfl⟩⟩
def Fd.mem{cs:List A8}{f:Af}(h:Fd cs f):f∈QU cs:=by
 obtain⟨c,d,b,a⟩:=h.zg;unfold QU;rw[fA];refine⟨c,d,eH.2 ⟨f.args,?_,?_⟩⟩
 .rw[<-a];exact QV _ _ h.args
 .rw[<-b]
def Ht{α:Type}:∀(l m:List α),l.Nodup->(∀z∈l,z∈m)->Z l<=Z m
 |[],m,_,_=>eV _
 |x::l,m,hn,hs=>by
  rw[gX]at hn;obtain⟨a,b,rfl⟩:=List.append_of_mem (hs x (by simp));have:=Ht l (a++b) hn.2 (λz d=>by
   have c:=hs z (by simp[d])
   rw[eG,ey]at c
   rw[eG]
   rcases c with c|c|c
   .exact j5 c
   .subst c;exact absurd d hn.1
   .exact j6 c)
  simp only[eJ,eF]at this⊢;omega
def EI.nodup{s:List Af}(h:EI s)(c:∀f∈s,AM f):s.Nodup:=by
 unfold List.Nodup;refine gZ (fun{a b} ha hb hab e=>?_) h;subst e;rw[YW (c a ha)]at hab;cases hab
def XO{s t:List Af}(v:EI s)(r:EI t)(cs:∀f∈s,AM f)(ct:∀f∈t,AM f)(h:∀f,f∈s↔f∈t):s=t:=by
 have q:(s.map BJ).Pairwise λa b=>Cx a b<0:=by
  rw[gY];exact gZ (fun{a b} i hb g=>(DB (cs a i) (cs b hb)).1 g) v
 have p:(t.map BJ).Pairwise λa b=>Cx a b<0:=by
  rw[gY];exact gZ (fun{a b} i hb g=>(DB (ct a i) (ct b hb)).1 g) r
 have u:s.map BJ=t.map BJ:=by
  refine I3 (lt:=λa b=>Cx a b<0) (λa i=>?_) (λa b c g o=>GY g o) _ _ q p (λx=>?_)
  .have:Cx a a=0:=(FN a a).2 rfl;omega
  .rw[eH,eH];exact⟨fun⟨f,d,e⟩=>⟨f,(h f).1 d,e⟩,fun⟨f,d,e⟩=>⟨f,(h f).2 d,e⟩⟩
 have n:∀(l m:List Af),(∀f∈l,AM f)->(∀f∈m,AM f)->l.map BJ=m.map BJ->l=m:=by
  intro l
  induction l with
  |nil=>intro m _ _ e;cases m with|nil=>rfl|cons y m=>simp at e
  |cons x l ih=>
   intro m k j e;cases m with
   |nil=>simp at e
   |cons y m=>
    rw[eR,eR,gW]at e;rw[Mg (k x (by simp)) (j y (by simp)) e.1,ih m (λf d=>k f (by simp[d])) (λf d=>j f (by simp[d])) e.2]
 exact n s t cs ct u
def Pi(cs:List A8):Prop:=∀c∈cs,∀t∈c.head.args,t.v=0->A3 t.s
def Se{cs:List A8}(h:Pi cs):∀x∈consts cs,A3 x:=by
 intro x a;unfold consts at a;obtain⟨c,e,a⟩:=fA.1 a;obtain⟨t,b,rfl⟩:=eH.1 a;obtain⟨b,d⟩:=e9.1 b;exact h c e t b (by simpa using d)
def Fd.canon{cs:List A8}(h:Pi cs){f:Af}(a:Fd cs f):AM f:=λx b=>Se h x (a.args x b)
def AM.zL{f:Af}(h:AM f):Jp f:=λx a=>(h x a).size
def PG{cs:List A8}(h:Qw cs){s:List Af}(n:∀f∈s,Fd cs f)(o:∀f∈s,Jp f){c:A8}(g:c∈cs){e:List g0}(b:e∈CD (Aj c) s):Fd cs (Av e c.head):=by
 refine⟨⟨c,g,rfl,by simp[Av]⟩,λx p=>?_⟩;obtain⟨t,i,rfl⟩:=eH.1 p;unfold CD at b;obtain⟨_,_,_,_,m⟩:=C8 o (Aj c) [BM] (λe b=>by simp at b;rw[b];rfl) (h.args c g) e (e9.1 b).1;by_cases d:t.v=0
 .unfold AJ;rw[eI d];unfold consts;exact fA.2 ⟨c,g,eH.2 ⟨t,e9.2 ⟨i,by rw[d];rfl⟩,rfl⟩⟩
 .rcases h.head c g t i with a|⟨y,k,j,u,l,q⟩
  .exact absurd a d
  .have a:=(n _ (m y k j).1).args (AJ e u) (eZ l);unfold AJ at a⊢;rw[q]at a;rw[eE d]at a⊢;exact a
structure Jd(cs:List A8)(zM:g0->Nat)(n:Nat)(s:List Af):Prop where
 work:Do (E4 cs) (λf=>zM f.name) n (·∈s)
 zK:EI s
 zY:∀f∈s,Fd cs f
def Jd.start(cs:List A8)(a:g0->Nat):Jd cs a 0 []:=
 ⟨(Do.start (E4 cs) (λf:Af=>a f.name)).cong _ _ (λf=>by simp),List.Pairwise.nil,λf b=>by simp at b⟩
def Jd.len{cs:List A8}{b:g0->Nat}{n:Nat}{s:List Af}(c:Pi cs)(h:Jd cs b n s):Z s<=Z (QU cs):=
 Ht s (QU cs) (h.zK.nodup λf a=>(h.zY f a).canon c) λf a=>(h.zY f a).mem
structure Po(cs:List A8)(zM:g0->Nat):Prop where
 zL:Qw cs
 lay:Di cs zM
 zN:Pi cs
def bN{cs:List A8}{g:g0->Nat}(j:Po cs g){n:Nat}{i s:List Af}(p:Jd cs g n i)(h:Jd cs g n s)(l:∀f∈i,f∈s)(r:∀f∈s,f∈i\/g f.name=n)
  {c:A8} (q:c∈cs) (u:g c.head.name=n) {e:List g0} (o:e∈CD (Aj c) i):
  Jd cs g n (AY s (Av e c.head))/\(∀f∈i,f∈AY s (Av e c.head))/\∀f∈AY s (Av e c.head),f∈i\/g f.name=n:=by
 have t:∀f∈i,Jp f:=λf d=>((p.zY f d).canon j.zN).zL
 have k:=PG j.zL p.zY t q o;obtain⟨a,b,m⟩:=DC (k.canon j.zN) h.zK (λf d=>(h.zY f d).canon j.zN);refine⟨⟨?_,a,λf d=>?_⟩,λf d=>(m f).2 (j5 (l f d)),λf d=>?_⟩
 .exact(ai j.lay j.zL h.work l r t q u o).cong _ _ (λf=>(m f).symm)
 .rcases(m f).1 d with d|d
  .exact h.zY f d
  .rw[d];exact k
 .rcases(m f).1 d with d|d
  .exact r f d
  .right;rw[d];exact u
def GS(c:A8)(a:List Af×Bool)(e:List g0):List Af×Bool:=if DD a.1 (Av e c.head)then a else(AY a.1 (Av e c.head),jj)
def CN(zM:g0->Nat)(n:Nat)(a:List Af×Bool)(c:A8):List Af×Bool:=if zM c.head.name=n then(CD (Aj c) a.1).foldl (GS c) a else a
def DY(cs:List A8)(zM:g0->Nat)(n:Nat)(s:List Af):List Af×Bool:=cs.foldl (CN zM n) (s,K)
def PD{cs:List A8}{b:g0->Nat}(q:Po cs b){n:Nat}{d:List Af}(i:Jd cs b n d){c:A8}(r:c∈cs)(k:b c.head.name=n):
  ∀(l:List (List g0)) (s:List Af) (m:Bool),(∀e∈l,e∈CD (Aj c) d)->Jd cs b n s->(∀f∈d,f∈s)->(∀f∈s,f∈d\/b f.name=n)->
   Jd cs b n (l.foldl (GS c) (s,m)).1/\Z s<=Z (l.foldl (GS c) (s,m)).1/\
    ((l.foldl (GS c) (s,m)).2=K->(l.foldl (GS c) (s,m)).1=s/\m=K/\∀e∈l,Av e c.head∈s)/\
    ((l.foldl (GS c) (s,m)).2=jj->m=jj\/Z s<Z (l.foldl (GS c) (s,m)).1)
 |[],s,m,_,h,_,_=>⟨h,eM _,λa=>⟨rfl,a,λe C=>by simp at C⟩,λa=>j5 a⟩
 |e::l,s,m,hl,h,hsub,hnew=>by
  rw[fd];have v:∀e∈l,e∈CD (Aj c) d:=λx g=>hl x (by simp[g])
  cases hh:DD s (Av e c.head)with
  |true=>
   (have p:GS c (s,m) e=(s,m):=by unfold GS;rw[hh,eI rfl]);rw[p];obtain⟨o,t,j,u⟩:=PD q i r k l s m v h hsub hnew;refine⟨o,t,λa=>?_,u⟩;obtain⟨y,D,z⟩:=j a;refine⟨y,D,λx g=>?_⟩;rcases ey.1 g with rfl|g
   .exact(BL _ _).1 hh
   .exact z x g
  |false=>
   (have p:GS c (s,m) e=(AY s (Av e c.head),jj):=by unfold GS;rw[hh,eE (by simp)]);rw[p];obtain⟨w,B,A⟩:=bN q i h hsub hnew r k (hl e (by simp));obtain⟨o,t,j,u⟩:=PD q i r k l (AY s (Av e c.head)) jj v w B A;(have E:Z (AY s (Av e c.head))=Z s+1:=by unfold AY;rw[hh,eE (by simp),Md]);refine⟨o,by omega,λa=>?_,λa=>j6 (by omega)⟩;have:=(j a).2.1;cases this
def JS{cs:List A8}{a:g0->Nat}(z:Po cs a){n:Nat}:
  ∀(b:List A8) (s:List Af) (m:Bool),(∀c∈b,c∈cs)->Jd cs a n s->
   Jd cs a n (b.foldl (CN a n) (s,m)).1/\Z s<=Z (b.foldl (CN a n) (s,m)).1/\
    ((b.foldl (CN a n) (s,m)).2=K->(b.foldl (CN a n) (s,m)).1=s/\m=K/\∀c∈b,a c.head.name=n->∀e∈CD (Aj c) s,Av e c.head∈s)/\
    ((b.foldl (CN a n) (s,m)).2=jj->m=jj\/Z s<Z (b.foldl (CN a n) (s,m)).1)
 |[],s,m,_,h=>⟨h,eM _,λg=>⟨rfl,g,λc N=>by simp at N⟩,λg=>j5 g⟩
 |c::b,s,m,hd,h=>by
  rw[fd];have G:∀c∈b,c∈cs:=λx d=>hd x (by simp[d])
  by_cases k:a c.head.name=n
  ·(have y:CN a n (s,m) c=(CD (Aj c) s).foldl (GS c) (s,m):=by unfold CN;rw[eI k]);rw[y];obtain⟨l,F,q,A⟩:=PD z h (hd c (by simp)) k (CD (Aj c) s) s m (λe i=>i) h (λf t=>t) (λf t=>j5 t);generalize(CD (Aj c) s).foldl (GS c) (s,m)=r at l F q A⊢;obtain⟨L,M⟩:=r;simp only at l F q A;obtain⟨w,D,u,v⟩:=JS z b L M G l;refine⟨w,by omega,λg=>?_,λg=>?_⟩
   .obtain⟨o,B,p⟩:=u g;obtain⟨H,P,I⟩:=q B;subst H;refine⟨o,P,λx d j e i=>?_⟩;rcases ey.1 d with rfl|d
    .exact I e i
    .exact p x d j e i
   .rcases v g with E|E
    .rcases A E with C|C
     .exact j5 C
     .exact j6 (by omega)
    .exact j6 (by omega)
  ·(have y:CN a n (s,m) c=(s,m):=by unfold CN;rw[eE k]);rw[y];obtain⟨w,D,u,v⟩:=JS z b s m G h;refine⟨w,D,λg=>?_,v⟩;obtain⟨o,B,p⟩:=u g;refine⟨o,B,λx d j e i=>?_⟩;rcases ey.1 d with rfl|d
   .exact absurd j k
   .exact p x d j e i
def UG{cs:List A8}{a:g0->Nat}(b:Po cs a){n:Nat}{s:List Af}(h:Jd cs a n s):
  Jd cs a n (DY cs a n s).1/\((DY cs a n s).2=K->(DY cs a n s).1=s/\Jd cs a (n+1) s)/\
   ((DY cs a n s).2=jj->Z s<Z (DY cs a n s).1)/\Z (DY cs a n s).1<=Z (QU cs):=by
 unfold DY;obtain⟨g,p,k,l⟩:=JS b cs s K (λc o=>o) h;refine⟨g,λd=>?_,λd=>?_,g.len b.zN⟩
 .obtain⟨j,_,m⟩:=k d;exact⟨j,YK b.zL h.work (λf i=>((h.zY f i).canon b.zN).zL) m,h.zK,h.zY⟩
 .rcases l d with e|e
  .cases e
  .exact e
def bR{cs:List A8}{d e:g0->Nat}(j:Po cs d)(h:Po cs e){i k:Nat}{s t:List Af}(a:Jd cs d i s)(g:Jd cs e k t)(l:∀c∈cs,d c.head.name<i)(m:∀c∈cs,e c.head.name<k):s=t:=
 XO a.zK g.zK (λf b=>(a.zY f b).canon j.zN) (λf b=>(g.zY f b).canon h.zN) (aK j.lay h.lay a.work g.work l m)
def YG{s:g0}{cs:List A8}(h:(As s (Ae s 0)).2.2=K)(d:cs.map A8.erase=(As s (Ae s 0)).1)(e:CM cs=(0,0)):Po cs (Cd cs 6):=by
 have b:=RG e;refine⟨b.zL (VM h d),b.levels,λc i t g f=>?_⟩;rcases(Ku h d c i).1.args t g with⟨_,a⟩|a
 .exact a
 .rw[f]at a;exact absurd a.1 (by decide)
def BP(x:BF):List AG:=if(x.kind==97||x.kind==33)=jj then x.A.args else[x.L,x.R]
def DQ(e:List g0)(ts:List AG):Bool:=ts.all λt=> !So (AJ e t)
def D8(body:List BF)(s:List Af)(e:List g0):Bool:=body.any λx=>DQ e (BP x)&& !Cg (Av e) (AJ e) s x
def AE(al:UInt8->List g0->List g0)(body:List BF)(s:List Af):List UInt8->List g0->List (List g0)
 |[],e=>if D8 body s e then[] else[e]
 |v::vs,e=>if D8 body s e then[] else(al v e).flatMap λt=>AE al body s vs (e.set (v.toNat-65) t)
def aR(e:List g0)(v:UInt8):g0:=e.getD (v.toNat-65) jK
def F1(v:UInt8):Prop:=65<=v.toNat/\v.toNat<=90
def Me{e:List g0}{v:UInt8}(d:Z e=26)(a:F1 v)(t:g0):aR (e.set (v.toNat-65) t) v=t:=by
 unfold aR;obtain⟨b,c⟩:=a;rw[eK,gi (by omega)];rfl
def aM{e:List g0}{u v:UInt8}(c:F1 u)(b:F1 v)(h:u≠v)(t:g0):aR (e.set (v.toNat-65) t) u=aR e u:=by
 unfold aR;have a:v.toNat-65≠u.toNat-65:=by
  intro f;obtain⟨i,d⟩:=c;obtain⟨j,g⟩:=b;exact h (gn.1 (by omega))
 rw[eK,fG a,<-eK]
def Cb{al:UInt8->List g0->List g0}{k:List BF}{s:List Af}(j:∀v e,∀t∈al v e,t.size≠0):
  ∀(d:List UInt8) (e b:List g0),Z e=26->(∀v∈d,F1 v)->b∈AE al k s d e->
   Z b=26/\D8 k s b=K/\(∀u,F1 u->u∉d->aR b u=aR e u)/\∀v∈d,(aR b v).size≠0
 |[],e,b,he,_,a=>by
  rw[AE]at a;split at a
  .simp at a
  .rename_i m;rw[ex]at a;subst a;exact⟨he,by simpa using m,λ_ _ _=>rfl,λv f=>by simp at f⟩
 |v::d,e,b,he,f,a=>by
  rw[AE]at a;split at a
  .simp at a
  .obtain⟨t,q,a⟩:=fA.1 a;have i:=f v (by simp);obtain⟨p,n,l,o⟩:=Cb j d (e.set (v.toNat-65) t) b (by simp[he]) (λu c=>f u (by simp[c])) a;refine⟨p,n,λu c h=>?_,λu c=>?_⟩
   .rw[ey,not_or]at h;rw[l u c h.2,aM c i h.1]
   .by_cases g:u∈d
    .exact o u g
    .rcases ey.1 c with rfl|c
     .rw[l u i g,Me he i];exact j _ _ t q
     .exact absurd c g
def Mr(x:BF):Prop:=∀t∈BP x,Bs t
def DA.lgood{x:BF}(h:DA x):Mr x:=by
 intro t a;unfold DA at h;unfold BP at a;split at h
 .rename_i b;rw[eI b]at a;exact(h.args t a).zL
 .rename_i b;rw[eE b]at a;rcases ey.1 a with rfl|a
  .exact h.1.zL
  .rw[ex]at a;subst a;exact h.2.1.zL
def Lq{e:List g0}{σ:UInt8->g0}{s:List Af}{x:BF}(h:∀t∈BP x,AJ e t=DU σ t):Cg (Av e) (AJ e) s x=Cg (Bh σ) (DU σ) s x:=by
 unfold BP at h;by_cases a:(x.kind==97||x.kind==33)=jj
 .rw[eI a]at h;have c:Av e x.A=Bh σ x.A:=by
   unfold Av Bh;rw[fQ h]
  unfold Cg;rw[c];rw[gr]at a;rcases a with a|a
  .rw[eI a,eI a]
  .by_cases b:(x.kind==97)=jj
   .rw[eI b,eI b]
   .rw[eE b,eE b,eI a,eI a]
 .rw[eE a]at h;have f:=h x.L (by simp);have d:=h x.R (by simp);rw[gr,not_or]at a;unfold Cg;rw[eE a.1,eE a.1,eE a.2,eE a.2,f,d]
def RN{b:List BF}{s:List Af}(j:∀x∈b,Mr x){σ:UInt8->g0}(g:∀x∈b,Cg (Bh σ) (DU σ) s x=jj){e:List g0}(h:DX e σ):D8 b s e=K:=by
 unfold D8;rw[gC];intro x f a;rw[eW]at a;have i:∀t∈BP x,AJ e t=DU σ t:=by
  intro t d;have c:=(gN.1 a.1) t d;refine h.val (j x f t d) (λk=>?_);rw[(DO _).2 k]at c;cases c
 rw[Lq i,g x f]at a;simp at a
def Wr(al:UInt8->List g0->List g0)(body:List BF)(s:List Af):Prop:=
 ∀(v:UInt8) (e:List g0) (σ:UInt8->g0),F1 v->DX e σ->(∀x∈body,Cg (Bh σ) (DU σ) s x=jj)->(∃x∈body,(x.kind==97)=jj/\∃u∈x.A.args,u.v=v)->σ v∈al v e
def IC{al:UInt8->List g0->List g0}{f:List BF}{s:List Af}(k:∀x∈f,Mr x)(m:Wr al f s){σ:UInt8->g0}(g:∀x∈f,Cg (Bh σ) (DU σ) s x=jj):
  ∀(d:List UInt8) (e:List g0),DX e σ->(∀v∈d,F1 v/\∃x∈f,(x.kind==97)=jj/\∃u∈x.A.args,u.v=v)->
   ∃b∈AE al f s d e,DX b σ/\(∀v∈d,aR b v=σ v)/\∀u,F1 u->aR e u=σ u->aR b u=σ u
 |[],e,ha,_=>by
  refine⟨e,?_,ha,λv i=>by simp at i,λu _ h=>h⟩;rw[AE,RN k g ha];simp
 |v::d,e,ha,i=>by
  obtain⟨c,r⟩:=i v (by simp);obtain⟨b,p,n,q,j⟩:=IC k m g d (e.set (v.toNat-65) (σ v)) (ha.set c.1 c.2) (λu a=>i u (by simp[a]));refine⟨b,?_,n,λu a=>?_,λu a o=>?_⟩
  .rw[AE,RN k g ha];rw[eE (by simp)];exact fA.2 ⟨σ v,m v e σ c ha g r,p⟩
  .rcases ey.1 a with rfl|a
   .exact j u c (Me ha.1 c _)
   .exact q u a
  .by_cases l:u=v
   .subst l;exact j u a (Me ha.1 c _)
   .exact j u a (by rw[aM a c l];exact o)
def Qb(al:UInt8->List g0->List g0)(c:A8)(hv rv:List UInt8)(s:List Af):List Af:=
 ((AE al (Aj c) s hv BM).filter λb=> !DD s (Av b c.head)&& !(AE al (Aj c) s rv b).isEmpty).map λb=>Av b c.head
structure Qs(c:A8)(hv rv:List UInt8):Prop where
 ok:∀v,v∈hv\/v∈rv->F1 v/\∃x∈Aj c,(x.kind==97)=jj/\∃u∈x.A.args,u.v=v
 apart:∀v∈hv,v∉rv
 head:∀t∈c.head.args,t.v=0\/t.v∈hv
 body:∀x∈Aj c,∀t∈BP x,t.v=0\/t.v∈hv\/t.v∈rv
 lits:∀x∈Aj c,Mr x
def Gf{e:List g0}{t:AG}(h:t.v≠0):AJ e t=aR e t.v:=by
 unfold AJ aR;rw[eE h]
def RD{al:UInt8->List g0->List g0}{c:A8}{m k:List UInt8}{s:List Af}(g:Qs c m k)(w:∀v e,∀t∈al v e,t.size≠0){f:Af}(p:f∈Qb al c m k s):
  f∉s/\∃σ,(∀x∈Aj c,Cg (Bh σ) (DU σ) s x=jj)/\f=Bh σ c.head:=by
 unfold Qb at p;obtain⟨b,n,rfl⟩:=eH.1 p;obtain⟨n,y⟩:=e9.1 n;rw[eW]at y;obtain⟨z,q⟩:=y;refine⟨λh=>?_,?_⟩
 .rw[(BL _ _).2 h]at z;cases z
 .obtain⟨a,E⟩:∃a,a∈AE al (Aj c) s k b:=by
   cases hl:AE al (Aj c) s k b with
   |nil=>rw[hl]at q;simp at q
   |cons x l=>exact⟨x,by simp⟩
  obtain⟨F,_,_,G⟩:=Cb w m BM b rfl (λv i=>(g.ok v (j5 i)).1) n;obtain⟨I,r,D,H⟩:=Cb w k b a F (λv i=>(g.ok v (j6 i)).1) E;have u:∀v∈m,aR a v=aR b v:=λv i=>D v (g.ok v (j5 i)).1 (g.apart v i)
  refine⟨Oe a,λx o=>?_,?_⟩
  .have C:DQ a (BP x)=jj:=by
    unfold DQ;rw[gN];intro t j;have B:(AJ a t).size≠0:=by
     by_cases d:t.v=0
     .rcases g.lits x o t j with h|h
      .unfold AJ;rw[eI d];exact h.2
      .rw[d]at h;exact absurd h.1 (by decide)
     .rw[Gf d];rcases g.body x o t j with h|h|h
      .exact absurd h d
      .rw[u _ h];exact G _ h
      .exact H _ h
    cases hE:So (AJ a t)with
    |false=>rfl
    |true=>exact absurd ((DO _).1 hE) B
   have A:Cg (Av a) (AJ a) s x=jj:=by
    unfold D8 at r;have:=(gC.1 r) x o;rw[C,gq]at this;simpa using this
   rw[<-Lq (e:=a) (σ:=Oe a) (λt j=>(J3 a t).symm)];exact A
  .unfold Av Bh
   congr 1
   refine fQ (λt j=>?_);rw[J3];by_cases d:t.v=0
   .unfold AJ;rw[eI d,eI d]
   .rw[Gf d,Gf d];rcases g.head t j with h|h
    .exact absurd h d
    .exact(u _ h).symm
def ac{al:UInt8->List g0->List g0}{c:A8}{f e:List UInt8}{s:List Af}(a:Qs c f e)(m:Wr al (Aj c) s){σ:UInt8->g0}(k:∀x∈Aj c,Cg (Bh σ) (DU σ) s x=jj):
  Bh σ c.head∈s\/Bh σ c.head∈Qb al c f e s:=by
 obtain⟨b,q,o,n,_⟩:=IC a.lits m k f BM (DX.start σ) (λv h=>a.ok v (j5 h));have g:Av b c.head=Bh σ c.head:=by
  unfold Av Bh
  congr 1
  refine fQ (λt p=>?_);by_cases d:t.v=0
  .unfold AJ DU;rw[eI d,eI d]
  .rw[Gf d];unfold DU;rw[eE d];rcases a.head t p with h|h
   .exact absurd h d
   .exact n _ h
 by_cases i:Bh σ c.head∈s
 .exact j5 i
 .right;obtain⟨r,j,_⟩:=IC a.lits m k e b o (λv h=>a.ok v (j6 h));unfold Qb;refine eH.2 ⟨b,e9.2 ⟨q,?_⟩,g⟩;rw[eW];refine⟨?_,?_⟩
  .rw[g];cases hh:DD s (Bh σ c.head)with
   |false=>rfl
   |true=>exact absurd ((BL _ _).1 hh) i
  .cases hl:AE al (Aj c) s e b with
   |nil=>rw[hl]at j;simp at j
   |cons x l=>rfl
def Pt(e:List g0)(ts:List AG)(xs:List g0):Bool:=(ts.zip xs).all λp=>So (AJ e p.1)||(AJ e p.1).toList==p.2.toList
def F9(s:List Af)(A:Dj)(i:Nat)(e:List g0):List g0:=(s.filter λf=>(f.name.toList==A.name.toList)&&Pt e A.args f.args).map λf=>f.args.getD i jK
def C1(body:List BF)(s:List Af)(v:UInt8)(e:List g0):List (List g0):=
 body.filterMap λx=>if x.kind==97 then(x.A.args.findIdx? λt=>t.v==v).map λi=>F9 s x.A i e else Y
def N6(al:UInt8->List g0->List g0)(body:List BF)(s:List Af):Prop:=∀v e t,t∈al v e↔C1 body s v e≠[]/\∀l∈C1 body s v e,t∈l
def Ut{e:List g0}{σ:UInt8->g0}(b:DX e σ):∀(a:List AG),(∀t∈a,Bs t)->Pt e a (a.map (DU σ))=jj
 |[],_=>rfl
 |t::a,hg=>by
  have ih:=Ut b a (λu c=>hg u (by simp[c]));unfold Pt at ih⊢;rw[eR,ji,iI,ih,Bool.and_true];cases hz:So (AJ e t)with
  |true=>rfl
  |false=>
   rw[ib,b.val (hg t (by simp)) (λh=>by rw[(DO _).2 h]at hz;cases hz)];simp
def Xr{al:UInt8->List g0->List g0}{d:List BF}{s:List Af}(y:N6 al d s)(p:∀x∈d,Mr x):Wr al d s:=by
 intro v e σ k E D o;rw[y];refine⟨λf=>?_,λl j=>?_⟩
 .obtain⟨x,c,b,u,w,z⟩:=o;unfold C1 at f;rw[List.filterMap_eq_nil_iff]at f;have a:=f x c;rw[eI b,Option.map_eq_none_iff,List.findIdx?_eq_none_iff]at a;have:=a u w;rw[z]at this;simp at this
 .unfold C1 at j;obtain⟨x,c,a⟩:=gA.1 j;by_cases b:(x.kind==97)=jj
  .rw[eI b,iE]at a;obtain⟨i,C,rfl⟩:=a;obtain⟨m,B,_⟩:=gK.1 C;(have q:v≠0:=λh=>by rw[h]at k;exact absurd k.1 (by decide));(have g:x.A.args[i].v=v:=by simpa using B);have r:Bh σ x.A∈s:=by
    have:=D x c;unfold Cg at this;rw[eI b]at this;exact(BL _ _).1 this
   unfold F9;refine eH.2 ⟨Bh σ x.A,e9.2 ⟨r,?_⟩,?_⟩
   .rw[eW];refine⟨by simp[Bh],Ut E x.A.args (λt n=>p x c t ?_)⟩;unfold BP;rw[b,iG,eI rfl];exact n
   .unfold Bh;simp only;rw[eK,fM,ez m];simp only[gu,Option.getD_some];unfold DU;rw[eE (by rw[g];exact q),g]
  .rw[eE b]at a;cases a
def bA{al:UInt8->List g0->List g0}{b:List BF}{s:List Af}(w:N6 al b s)(u:∀f∈s,Jp f)(r:∀f∈s,∀x∈b,(x.kind==97)=jj->f.name=x.A.name->Z f.args=Z x.A.args):∀v e,∀t∈al v e,t.size≠0:=by
 intro v e t q;obtain⟨B,C⟩:=(w v e t).1 q;obtain⟨l,g⟩:∃l,l∈C1 b s v e:=by
  cases h:C1 b s v e with
  |nil=>exact absurd h B
  |cons a m=>exact⟨a,by simp⟩
 have n:=C l g;unfold C1 at g;obtain⟨x,z,c⟩:=gA.1 g;by_cases d:(x.kind==97)=jj
 .rw[eI d,iE]at c;obtain⟨i,y,rfl⟩:=c;obtain⟨D,_,_⟩:=gK.1 y;unfold F9 at n;obtain⟨f,p,rfl⟩:=eH.1 n;obtain⟨k,o⟩:=e9.1 p;rw[eW]at o;have E:=r f k x z d (toList_inj (by simpa using o.1));have j:i<Z f.args:=by omega
  rw[eK,ez j];exact u f k _ (eo j)
 .rw[eE d]at c;cases c
def WM{cs:List A8}{e:g0->Nat}(l:Po cs e){n:Nat}{j s:List Af}(E:Jd cs e n j)(h:Jd cs e n s)(D:∀f∈j,f∈s)(z:∀f∈s,f∈j\/e f.name=n)
  {c:A8} (q:c∈cs) (r:e c.head.name=n) {σ:UInt8->g0} (C:∀x∈Aj c,Cg (Bh σ) (DU σ) j x=jj):
  Jd cs e n (AY s (Bh σ c.head))/\(∀f∈j,f∈AY s (Bh σ c.head))/\(∀f∈AY s (Bh σ c.head),f∈j\/e f.name=n):=by
 have A:Fd cs (Bh σ c.head):=by
  refine⟨⟨c,q,rfl,by simp[Bh]⟩,λx P=>?_⟩;obtain⟨t,w,rfl⟩:=eH.1 P;by_cases p:t.v=0
  .unfold DU;rw[eI p];unfold consts;exact fA.2 ⟨c,q,eH.2 ⟨t,e9.2 ⟨w,by rw[p];rfl⟩,rfl⟩⟩
  .rcases l.zL.head c q t w with G|⟨y,I,F,u,L,N⟩
   .exact absurd G p
   .have i:=C y I;unfold Cg at i;rw[eI F,BL]at i;have k:=(E.zY _ i).args (DU σ u) (eZ L);unfold DU at k⊢;rw[N]at k;rw[eE p]at k⊢;exact k
 obtain⟨a,b,m⟩:=DC (A.canon l.zN) h.zK (λf d=>(h.zY f d).canon l.zN);have i:=(GO c σ j).1 C;have B:E4 cs (CR c σ):=⟨c,q,σ,i.2,rfl⟩;have H:=h.work.step (E4 cs) (λf=>e f.name) l.lay.zW B r ⟨λg o=>D g (i.1.1 g o),λg o M=>by
  rcases z g M with h|h
  .exact i.1.2 g o h
  .have k:e g.name<e (CR c σ).head.name:=l.lay.zW.neg _ B g o
   have Q:e (CR c σ).head.name=n:=r
   omega⟩
 refine⟨⟨H.cong _ _ (λf=>(m f).symm),a,λf d=>?_⟩,λf d=>(m f).2 (j5 (D f d)),λf d=>?_⟩
 .rcases(m f).1 d with d|d
  .exact h.zY f d
  .rw[d];exact A
 .rcases(m f).1 d with d|d
  .exact z f d
  .right;rw[d];exact r
def J9(s:List Af)(f:Af):Z s<=Z (AY s f)/\(f∉s->Z (AY s f)=Z s+1):=by
 unfold AY;cases hh:DD s f with
 |true=>rw[eI rfl];exact⟨eM _,λh=>absurd ((BL _ _).1 hh) h⟩
 |false=>rw[eE (by simp),Md];exact⟨by omega,λ_=>rfl⟩
def Kd{cs:List A8}{a:g0->Nat}(d:Po cs a){n:Nat}{b:List Af}(e:Jd cs a n b){c:A8}(i:c∈cs)(j:a c.head.name=n):
  ∀(l:List Af) (s:List Af),(∀f∈l,∃σ,(∀x∈Aj c,Cg (Bh σ) (DU σ) b x=jj)/\f=Bh σ c.head)->Jd cs a n s->(∀f∈b,f∈s)->(∀f∈s,f∈b\/a f.name=n)->
   Jd cs a n (l.foldl AY s)/\Z s<=Z (l.foldl AY s)
 |[],s,_,h,_,_=>⟨h,eM _⟩
 |f::l,s,hl,h,hsub,hnew=>by
  obtain⟨σ,q,rfl⟩:=hl f (by simp);obtain⟨k,o,p⟩:=WM d e h hsub hnew i j q;obtain⟨m,t⟩:=Kd d e i j l _ (λg r=>hl g (by simp[r])) k o p;rw[fd];have:=(J9 s (Bh σ c.head)).1;exact⟨m,by omega⟩
structure Ug where
 hv:A8->List UInt8
 rv:A8->List UInt8
 al:A8->List Af->UInt8->List g0->List g0
def Ug.new(W:Ug)(c:A8)(s:List Af):List Af:=Qb (W.al c s) c (W.hv c) (W.rv c) s
def IZ(W:Ug)(a:List Af×Bool)(c:A8):List Af×Bool:=((W.new c a.1).foldl AY a.1,a.2|| !(W.new c a.1).isEmpty)
def Fn(W:Ug)(ds:List A8)(s:List Af):List Af×Bool:=ds.foldl (IZ W) (s,K)
structure Qj(W:Ug)(cs:List A8):Prop where
 parts:∀c∈cs,Qs c (W.hv c) (W.rv c)
 al:∀c∈cs,∀s,N6 (W.al c s) (Aj c) s
 arity:∀c∈cs,∀d∈cs,∀x∈Aj d,(x.kind==97)=jj->c.head.name=x.A.name->Z c.head.args=Z x.A.args
def Qj.sizes{W:Ug}{cs:List A8}{b:g0->Nat}(g:Qj W cs)(l:Po cs b)(r:∀c∈cs,∀d∈cs,c.head.name=d.head.name->Z c.head.args=Z d.head.args){n:Nat}{s:List Af}(h:Jd cs b n s){c:A8}(i:c∈cs):∀v e,∀t∈W.al c s v e,t.size≠0:=by
 refine bA (g.al c i s) (λf a=>((h.zY f a).canon l.zN).zL) (λf a x p k q=>?_);obtain⟨d,j,o,m⟩:=(h.zY f a).zg;rw[m];exact g.arity d j c i x p k (by rw[<-o];exact q)
def MW{W:Ug}{cs:List A8}{o:g0->Nat}(p:Qj W cs)(j:Po cs o)(q:∀c∈cs,∀d∈cs,c.head.name=d.head.name->Z c.head.args=Z d.head.args){n:Nat}:
  ∀(b:List A8) (s:List Af) (m:Bool),(∀c∈b,c∈cs/\o c.head.name=n)->Jd cs o n s->
   Jd cs o n (b.foldl (IZ W) (s,m)).1/\Z s<=Z (b.foldl (IZ W) (s,m)).1/\
    ((b.foldl (IZ W) (s,m)).2=K->(b.foldl (IZ W) (s,m)).1=s/\m=K/\∀c∈b,W.new c s=[])/\
    ((b.foldl (IZ W) (s,m)).2=jj->m=jj\/Z s<Z (b.foldl (IZ W) (s,m)).1)
 |[],s,m,_,h=>⟨h,eM _,λe=>⟨rfl,e,λc i=>by simp at i⟩,λe=>j5 e⟩
 |c::b,s,m,hd,h=>by
  rw[fd];have A:∀c∈b,c∈cs/\o c.head.name=n:=λx k=>hd x (by simp[k])
  obtain⟨i,u⟩:=hd c (by simp);have r:∀f∈W.new c s,f∉s/\∃σ,(∀x∈Aj c,Cg (Bh σ) (DU σ) s x=jj)/\f=Bh σ c.head:=λf a=>RD (p.parts c i) (p.sizes j q h i) a
  obtain⟨B,Q⟩:=Kd j h i u (W.new c s) s (λf a=>(r f a).2) h (λf a=>a) (λf a=>j5 a);cases hl:W.new c s with
  |nil=>
   (have w:IZ W (s,m) c=(s,m):=by unfold IZ;simp only;rw[hl];simp);rw[w];obtain⟨v,y,t,z⟩:=MW p j q b s m A h;refine⟨v,y,λe=>?_,z⟩;obtain⟨C,I,D⟩:=t e;refine⟨C,I,λx k=>?_⟩;rcases ey.1 k with rfl|k
   .exact hl
   .exact D x k
  |cons f l=>
   have a:=r f (by rw[hl];simp);(have w:IZ W (s,m) c=((W.new c s).foldl AY s,jj):=by unfold IZ;simp only;rw[hl];simp);rw[w];obtain⟨v,y,t,z⟩:=MW p j q b _ jj A B;have P:Z s<Z ((W.new c s).foldl AY s):=by
    rw[hl,fd];have N:=(J9 s f).2 a.1;obtain⟨σ,H,rfl⟩:=a.2;obtain⟨F,L,G⟩:=WM j h h (λf a=>a) (λf a=>j5 a) i u H;have M:=(Kd j h i u l _ (λg E=>(r g (by rw[hl];simp[E])).2) F L G).2;omega
   refine⟨v,by omega,λe=>?_,λe=>j6 (by omega)⟩;have:=(t e).2.1;cases this
def Yk{W:Ug}{cs:List A8}{a:g0->Nat}(j:Qj W cs)(p:Po cs a)(u:∀c∈cs,∀d∈cs,c.head.name=d.head.name->Z c.head.args=Z d.head.args){n:Nat}{ds:List A8}(l:∀c,c∈ds↔c∈cs/\a c.head.name=n){s:List Af}(h:Jd cs a n s):
  Jd cs a n (Fn W ds s).1/\((Fn W ds s).2=K->(Fn W ds s).1=s/\Jd cs a (n+1) s)/\
   ((Fn W ds s).2=jj->Z s<Z (Fn W ds s).1)/\Z (Fn W ds s).1<=Z (QU cs):=by
 unfold Fn;obtain⟨o,z,v,w⟩:=MW j p u ds s K (λc b=>(l c).1 b) h;refine⟨o,λk=>?_,λk=>?_,o.len p.zN⟩
 .obtain⟨q,_,r⟩:=v k;refine⟨q,h.work.next (E4 cs) (λf=>a f.name) ?_,h.zK,h.zY⟩;rintro i ⟨c,b,σ,y,rfl⟩ x t;have e:=(GO c σ s).2 ⟨t,y⟩;rcases ac (j.parts c b) (Xr (j.al c b s) (j.parts c b).lits) e with g|g
  .exact g
  .have m:W.new c s=[]:=r c ((l c).2 ⟨b,x⟩);unfold Ug.new at m;rw[m]at g;simp at g
 .rcases w k with e|e
  .cases e
  .exact e
def Fr(L:g0->Nat)(n:Nat)(x:BF):Nat:=if x.kind==97 then max n (L x.A.name)else if x.kind==33 then max n (L x.A.name+1)else n
def Gj(L:g0->Nat)(body:List BF):Nat:=body.foldl (Fr L) 0
def Oc(L:g0->Nat)(k:g0)(n:Nat):g0->Nat:=λx=>if x.toList==k.toList then n else L x
def Ea(a:(g0->Nat)×Bool)(c:A8):(g0->Nat)×Bool:=if a.1 c.head.name<Gj a.1 (Aj c)then(Oc a.1 c.head.name (Gj a.1 (Aj c)),jj)else a
def KM(cs:List A8)(L:g0->Nat):(g0->Nat)×Bool:=cs.foldl Ea (L,K)
def D1(cs:List A8)(L:g0->Nat):Nat:=(cs.map λc=>L c.head.name).sum
def GE(L:g0->Nat)(k:g0)(n:Nat):Oc L k n k=n:=by unfold Oc;simp
def II{L:g0->Nat}{k x:g0}(n:Nat)(h:x≠k):Oc L k n x=L x:=by
 unfold Oc;rw[eE (λa=>h (toList_inj (by simpa using a)))]
def MU(L:g0->Nat):∀(a:List BF) (n:Nat),n<=a.foldl (Fr L) n/\∀x∈a,((x.kind==97)=jj->L x.A.name<=a.foldl (Fr L) n)/\((x.kind==33)=jj->L x.A.name<a.foldl (Fr L) n)
 |[],n=>⟨eM _,λx c=>by simp at c⟩
 |y::a,n=>by
  rw[fd];obtain⟨k,i⟩:=MU L a (Fr L n y);have e:n<=Fr L n y/\((y.kind==97)=jj->L y.A.name<=Fr L n y)/\((y.kind==33)=jj->L y.A.name<Fr L n y):=by
   unfold Fr;by_cases b:(y.kind==97)=jj
   .rw[eI b];refine⟨by omega,λ_=>by omega,λj=>?_⟩;(have g:y.kind=97:=by simpa using b);(have f:y.kind=33:=by simpa using j);rw[g]at f;exact absurd f (by decide)
   .rw[eE b];by_cases d:(y.kind==33)=jj
    .rw[eI d];exact⟨by omega,λh=>absurd h b,λ_=>by omega⟩
    .rw[eE d];exact⟨by omega,λh=>absurd h b,λh=>absurd h d⟩
  refine⟨by omega,λx c=>?_⟩;rcases ey.1 c with rfl|c
  .exact⟨λh=>by have:=e.2.1 h;omega,λh=>by have:=e.2.2 h;omega⟩
  .exact i x c
def MG{L:g0->Nat}{b:Nat}:∀(a:List BF) (n:Nat),n<=b->(∀x∈a,((x.kind==97)=jj->L x.A.name<=b)/\((x.kind==33)=jj->L x.A.name<b))->a.foldl (Fr L) n<=b
 |[],n,hn,_=>hn
 |y::a,n,hn,h=>by
  rw[fd];refine MG a _ ?_ (λx g=>h x (by simp[g]));obtain⟨f,e⟩:=h y (by simp);unfold Fr;by_cases c:(y.kind==97)=jj
  .rw[eI c];have:=f c;omega
  .rw[eE c];by_cases d:(y.kind==33)=jj
   .rw[eI d];have:=e d;omega
   .rw[eE d];exact hn
def Wm{cs:List A8}{L a:g0->Nat}(h:∀x,L x<=a x):D1 cs L<=D1 cs a:=by
 unfold D1
 induction cs with
 |nil=>simp
 |cons c cs ih=>
  simp only[eR,List.sum_cons];have:=h c.head.name;omega
def bf{cs:List A8}{L b:g0->Nat}(h:∀x,L x<=b x){c:A8}(a:c∈cs)(f:L c.head.name<b c.head.name):D1 cs L<D1 cs b:=by
 induction cs with
 |nil=>simp at a
 |cons d cs ih=>
  have i:=h d.head.name;have g:=Wm (cs:=cs) h;have e:∀M,D1 (d::cs) M=M d.head.name+D1 cs M:=λM=>by unfold D1;simp
  rw[e,e];rcases ey.1 a with rfl|a
  .omega
  .have:=ih a;omega
def I6{cs:List A8}{f:g0->Nat}(i:Di cs f):∀(b:List A8) (L:g0->Nat) (m:Bool),(∀c∈b,c∈cs)->(∀x,L x<=f x)->
  (∀x,L x<=(b.foldl Ea (L,m)).1 x)/\(∀x,(b.foldl Ea (L,m)).1 x<=f x)/\
   ((b.foldl Ea (L,m)).2=K->(b.foldl Ea (L,m)).1=L/\m=K/\∀c∈b,Gj L (Aj c)<=L c.head.name)/\
   ((b.foldl Ea (L,m)).2=jj->m=jj\/D1 cs L<D1 cs (b.foldl Ea (L,m)).1)
 |[],L,m,_,h=>⟨λx=>eM _,h,λd=>⟨rfl,d,λc g=>by simp at g⟩,λd=>j5 d⟩
 |c::b,L,m,hd,h=>by
  rw[fd];have r:∀c∈b,c∈cs:=λx a=>hd x (by simp[a])
  have g:=hd c (by simp);by_cases o:L c.head.name<Gj L (Aj c)
  ·(have n:Ea (L,m) c=(Oc L c.head.name (Gj L (Aj c)),jj):=by unfold Ea;rw[eI o]);rw[n];have p:∀x,L x<=Oc L c.head.name (Gj L (Aj c)) x:=by
    intro x;by_cases a:x=c.head.name
    .subst a;rw[GE];omega
    .rw[II _ a];exact eM _
   have u:Gj L (Aj c)<=f c.head.name:=by
    refine MG _ _ (eV _) (λx a=>⟨λk=>?_,λk=>?_⟩)
    .exact fJ (h _) (i.pos c g x a k)
    .exact Nat.lt_of_le_of_lt (h _) (i.neg c g x a k)
   have w:∀x,Oc L c.head.name (Gj L (Aj c)) x<=f x:=by
    intro x;by_cases a:x=c.head.name
    .subst a;rw[GE];exact u
    .rw[II _ a];exact h x
   obtain⟨e,j,l,q⟩:=I6 i b _ jj r w;refine⟨λx=>fJ (p x) (e x),j,λd=>?_,λd=>j6 ?_⟩
   .have:=(l d).2.1;cases this
   .refine bf (λx=>fJ (p x) (e x)) g ?_;have v:=e c.head.name;rw[GE]at v;omega
  ·(have n:Ea (L,m) c=(L,m):=by unfold Ea;rw[eE o]);rw[n];obtain⟨e,j,l,q⟩:=I6 i b L m r h;refine⟨e,j,λd=>?_,q⟩;obtain⟨s,y,t⟩:=l d;refine⟨s,y,λx a=>?_⟩;rcases ey.1 a with rfl|a
   .omega
   .exact t x a
def VO{cs:List A8}{d:g0->Nat}(o:Di cs d){L:g0->Nat}(h:∀x,L x<=d x):
  (∀x,(KM cs L).1 x<=d x)/\((KM cs L).2=K->(KM cs L).1=L/\Di cs L)/\((KM cs L).2=jj->D1 cs L<D1 cs (KM cs L).1)/\D1 cs (KM cs L).1<=D1 cs d:=by
 unfold KM;obtain⟨_,j,n,m⟩:=I6 o cs L K (λc b=>b) h;refine⟨j,λe=>?_,λe=>?_,Wm j⟩
 .obtain⟨l,_,k⟩:=n e;refine⟨l,λc b x i f=>?_,λc b x i f=>?_⟩
  .have a:=((MU L (Aj c) 0).2 x i).1 f;have g:Gj L (Aj c)<=L c.head.name:=k c b;exact fJ a g
  .have a:=((MU L (Aj c) 0).2 x i).2 f;have g:Gj L (Aj c)<=L c.head.name:=k c b;exact gI a g
 .rcases m e with a|a
  .cases a
  .exact a
def Hz(acc:List UInt8)(t:AG):List UInt8:=if(t.v !=0&& !acc.contains t.v)=jj then acc++[t.v] else acc
def He(acc:List UInt8)(ts:List AG):List UInt8:=ts.foldl Hz acc
def E2:∀(f:List AG) (c:List UInt8),c.Nodup->(∃r,He c f=c++r)/\(He c f).Nodup/\∀v,v∈He c f↔v∈c\/(v≠0/\∃t∈f,t.v=v)
 |[],c,h=>⟨⟨[],by simp[He]⟩,h,λv=>by simp[He]⟩
 |t::f,c,h=>by
  have e:He c (t::f)=He (Hz c t) f:=rfl;rw[e];by_cases i:(t.v !=0&& !c.contains t.v)=jj
  ·(have m:Hz c t=c++[t.v]:=by unfold Hz;rw[eI i]);rw[m];rw[eW]at i;have y:t.v∉c:=by
    intro j;have:=i.2;rw[jy.2 j]at this;cases this
   (have w:t.v≠0:=by simpa using i.1);have x:(c++[t.v]).Nodup:=by
    rw[iO];refine⟨h,by simp,λa n b o s=>?_⟩;rw[ex]at o;subst o;rw[s]at n;exact y n
   obtain⟨⟨r,p⟩,k,l⟩:=E2 f (c++[t.v]) x;refine⟨⟨t.v::r,by rw[p];simp⟩,k,λv=>?_⟩;rw[l,eG,ex];constructor
   .rintro ((h|h)|⟨h,u,d,g⟩)
    .exact j5 h
    .subst h;exact j6 ⟨w,t,by simp,rfl⟩
    .exact j6 ⟨h,u,by simp[d],g⟩
   .rintro (h|⟨h,u,d,g⟩)
    .exact j5 (j5 h)
    .rcases ey.1 d with rfl|d
     .exact j5 (j6 g.symm)
     .exact j6 ⟨h,u,d,g⟩
  ·(have m:Hz c t=c:=by unfold Hz;rw[eE i]);rw[m];obtain⟨q,k,l⟩:=E2 f c h;refine⟨q,k,λv=>?_⟩;rw[l];constructor
   .rintro (h|⟨h,u,d,g⟩)
    .exact j5 h
    .exact j6 ⟨h,u,by simp[d],g⟩
   .rintro (h|⟨h,u,d,g⟩)
    .exact j5 h
    .rcases ey.1 d with rfl|d
     .left;subst g;rw[eW]at i;cases j:c.contains u.v with
      |true=>exact jy.1 j
      |false=>exact absurd ⟨by simpa using h,by rw[j];rfl⟩ i
     .exact j6 ⟨h,u,d,g⟩
def Cl(c:A8):List UInt8:=He [] c.head.args
def C2(c:A8):List UInt8:=(He [] (c.head.args++(Aj c).flatMap BP)).drop (Z (Cl c))
def MZ(c:A8):He [] (c.head.args++(Aj c).flatMap BP)=Cl c++C2 c:=by
 have e:He [] (c.head.args++(Aj c).flatMap BP)=He (Cl c) ((Aj c).flatMap BP):=by
  unfold He Cl He;rw[fE]
 obtain⟨⟨r,a⟩,_,_⟩:=E2 ((Aj c).flatMap BP) (Cl c) (E2 c.head.args [] iq).2.1;unfold C2;rw[e,a,List.drop_left]
def Uz{cs:List A8}(m:Qw cs){c:A8}(n:c∈cs)(w:∀x∈Aj c,DA x):Qs c (Cl c) (C2 c):=by
 have i:=E2 (c.head.args++(Aj c).flatMap BP) [] iq;have B:=E2 c.head.args [] iq;rw[MZ]at i;have k:∀t,t.v≠0->ES (Aj c) t->∃x∈Aj c,(x.kind==97)=jj/\∃u∈x.A.args,u.v=t.v:=by
  intro t b q;rcases q with h|h
  .exact absurd h b
  .exact h
 have s:∀v,v∈Cl c\/v∈C2 c->∃x∈Aj c,(x.kind==97)=jj/\∃u∈x.A.args,u.v=v:=by
  intro v g;have d:=(i.2.2 v).1 (eG.2 g);rcases d with d|⟨b,t,a,rfl⟩
  .simp at d
  .rcases eG.1 a with a|a
   .exact k t b (m.head c n t a)
   .obtain⟨x,e,a⟩:=fA.1 a;by_cases f:(x.kind==97)=jj
    .unfold BP at a;rw[f,iG,eI rfl]at a;exact⟨x,e,f,t,a,rfl⟩
    .have p:=m.safe c n x e (by simpa using f);unfold BP at a;by_cases j:(x.kind==33)=jj
     .rw[j,jf,eI rfl]at a;exact k t b (p.1 j t a)
     .rw[eE (by rw[gr,not_or];exact⟨f,j⟩)]at a;obtain⟨z,r⟩:=p.2 (by simpa using j);rcases ey.1 a with rfl|a
      .exact k _ b z
      .rw[ex]at a;subst a;exact k _ b r
 refine⟨λv g=>?_,?_,?_,?_,λx e=>(w x e).lgood⟩
 .obtain⟨x,e,f,u,o,l⟩:=s v g;refine⟨?_,x,e,f,u,o,l⟩;have d:=(i.2.2 v).1 (eG.2 g);have b:v≠0:=by
   rcases d with d|d
   .simp at d
   .exact d.1
  rcases m.args c n x e f u o with h|h
  .rw[l]at h;exact absurd h.1 b
  .rw[l]at h;exact h
 .intro v g y;have:=(iO.1 i.2.1).2.2 v g v y;exact this rfl
 .intro t a;by_cases b:t.v=0
  .exact j5 b
  .exact j6 ((B.2.2 t.v).2 (j6 ⟨b,t,a,rfl⟩))
 .intro x e t a;by_cases b:t.v=0
  .exact j5 b
  .right;exact eG.1 ((i.2.2 t.v).2 (j6 ⟨b,t,eG.2 (j6 (fA.2 ⟨x,e,a⟩)),rfl⟩))
def C9.zv{cs:List A8}(h:C9 cs):∀c∈cs,Eb cs c.head.name=(Z c.head.args:Int):=by
 intro c a;obtain⟨k,b,rfl⟩:=fj a;exact(Gu (h.each k b)).2.2.2.2.2.1
def C9.arBody{cs:List A8}(h:C9 cs):∀c∈cs,∀x∈Aj c,(x.kind==97)=jj->Eb cs x.A.name=(Z x.A.args:Int):=by
 intro c f x g d;obtain⟨k,e,rfl⟩:=fj f;obtain⟨p,b,rfl⟩:=eH.1 g;have a:=(gV.1 (Gu (h.each k e)).2.2.2.2.2.2.1) p b;unfold BB Oh at a;rw[d,iG,gq]at a;simpa using a
def C9.z9{cs:List A8}(h:C9 cs):∀c∈cs,∀d∈cs,c.head.name=d.head.name->Z c.head.args=Z d.head.args:=by
 intro c b d a e;have f:=h.zv c b;rw[e,h.zv d a]at f;omega
def C9.ar3{cs:List A8}(h:C9 cs):∀c∈cs,∀d∈cs,∀x∈Aj d,(x.kind==97)=jj->c.head.name=x.A.name->Z c.head.args=Z x.A.args:=by
 intro c g d a x i b e;have f:=h.zv c g;rw[e,h.arBody d a x i b]at f;omega
def PY(cs:List A8):∀(d:Nat) (x:g0),Cd cs d x<=d
 |0,x=>eM 0
 |d+1,x=>by
  by_cases h:0<Cd cs (d+1) x
  .obtain⟨y,b,a,e⟩:=Pv cs d x h;have f:b<=1:=by
    obtain⟨c,_,_,l,_,_,h|h⟩:=a<;>omega
   have:=PY cs d y;omega
  .omega
structure Dh(cs:List A8):Prop where
 order:C9 cs
 prog:Po cs (Cd cs 6)
 lits:∀c∈cs,∀x∈Aj c,DA x
 zN:∀c∈cs,KP c.head
def JL{s:g0}{cs:List A8}(h:(As s (Ae s 0)).2.2=K)(b:cs.map A8.erase=(As s (Ae s 0)).1)(d:CM cs=(0,0)):Dh cs:=
 ⟨RG d,YG h b d,λc a=>(Ku h b c a).2,λc a=>(Ku h b c a).1⟩
def Ed(al:A8->List Af->UInt8->List g0->List g0):Ug:=⟨Cl,C2,al⟩
def Dh.ways{cs:List A8}(h:Dh cs){al:A8->List Af->UInt8->List g0->List g0}(b:∀c∈cs,∀s,N6 (al c s) (Aj c) s):Qj (Ed al) cs:=
 ⟨λc a=>Uz h.prog.zL a (h.lits c a),b,h.order.ar3⟩
def Dh.other{cs:List A8}(h:Dh cs){L:g0->Nat}(a:Di cs L):Po cs L:=⟨h.prog.zL,a,h.prog.zN⟩
def Dh.grow{cs:List A8}(h:Dh cs){al:A8->List Af->UInt8->List g0->List g0}(b:∀c∈cs,∀s,N6 (al c s) (Aj c) s){L:g0->Nat}(e:Di cs L){n:Nat}{ds:List A8}(a:∀c,c∈ds↔c∈cs/\L c.head.name=n){s:List Af}(d:Jd cs L n s):
  Jd cs L n (Fn (Ed al) ds s).1/\((Fn (Ed al) ds s).2=K->(Fn (Ed al) ds s).1=s/\Jd cs L (n+1) s)/\
   ((Fn (Ed al) ds s).2=jj->Z s<Z (Fn (Ed al) ds s).1)/\Z (Fn (Ed al) ds s).1<=Z (QU cs):=
 Yk (h.ways b) (h.other e) h.order.z9 a d
def Dh.round{cs:List A8}(h:Dh cs){n:Nat}{s:List Af}(a:Jd cs (Cd cs 6) n s):
  Jd cs (Cd cs 6) n (DY cs (Cd cs 6) n s).1/\((DY cs (Cd cs 6) n s).2=K->(DY cs (Cd cs 6) n s).1=s/\Jd cs (Cd cs 6) (n+1) s)/\
   ((DY cs (Cd cs 6) n s).2=jj->Z s<Z (DY cs (Cd cs 6) n s).1)/\Z (DY cs (Cd cs 6) n s).1<=Z (QU cs):=
 UG h.prog a
def Dh.one{cs:List A8}(h:Dh cs){s t:List Af}(a:Jd cs (Cd cs 6) 7 s){L:g0->Nat}(d:Di cs L){N:Nat}(e:Jd cs L N t)(b:∀c∈cs,L c.head.name<N):s=t:=
 bR h.prog (h.other d) a e (λc _=>by have:=PY cs 6 c.head.name;omega) b
def Dg:g0->Bool->List g0->g0
 |s,_,[]=>s
 |s,b,x::l=>Dg (s++(if b then⟨#[44]⟩else⟨#[40]⟩)++BN x) jj l
def Gy(p:CV):g0:=Dg p.name K p.zB++⟨#[41,46]⟩
def NJ:∀(l:List g0) (s:g0),(∀x∈l,A3 x)->Dg s jj (l.map AA)=Gv s jj l
 |[],s,_=>rfl
 |x::l,s,h=>by
  rw[eR,Dg,Gv,GV (h x (by simp)),NJ l _ (λy a=>h y (by simp[a]))];simp
def RC{f:Af}(h:AM f)(b:f.args≠[]):Gy (BJ f)=Cq f:=by
 unfold Gy Cq BJ;simp only;cases hl:f.args with
 |nil=>exact absurd hl b
 |cons x l=>
  have a:∀y∈x::l,A3 y:=by rw[<-hl];exact h
  rw[eR,Dg,Gv,GV (a x (by simp)),NJ l _ (λy c=>a y (by simp[c]))];simp
def Z0(s:g0)(at_:Nat):(Cr s at_).1≠[]:=by
 rw[Cr];split<;>simp
def ZE{s:g0}{at_:Nat}(h:(AR s at_ K).2.2=K):(AR s at_ K).1.args≠[]:=by
 unfold AR at h⊢;simp only at h⊢;have a:=Hu h;unfold DW at a⊢;cases hm:(Bl s (AX s (AN s at_ K) K).2.1 (AX s (AN s at_ K) K).2.2 40).2 with
 |true=>rw[hm,eI rfl]at a;cases a
 |false=>rw[eE (by simp)];exact Z0 _ _
def OC{s:g0}{at_:Nat}(h:(Ao s at_).2.2=K):(Ao s at_).1.head.args≠[]:=by
 unfold Ao at h⊢;simp only at h⊢;exact ZE (IY (Hu h)).1
def Td{s:g0}{at_:Nat}(h:(As s at_).2.2=K):∀c∈(As s at_).1,c.head.args≠[]:=by
 fun_induction As s at_ with
 |case1 at_ ha hc ih=>
  intro c a;rcases ey.1 a with rfl|a
  .exact OC hc.1
  .exact ih h c a
 |case2 at_ ha hc=>
  intro c a;rw[ex]at a;subst a;exact OC h
 |case3 at_ ha=>intro c a;cases a
def Un{s:g0}{at_:Nat}{cs:List A8}(h:(As s at_).2.2=K)(d:cs.map A8.erase=(As s at_).1):∀c∈cs,c.head.args≠[]:=by
 intro c b;have a:c.erase∈(As s at_).1:=by rw[<-d];exact eZ b
 exact Td h _ a
structure Dl(fs:List Fe)(s:List Af):Prop where
 same:fs.map Fe.f=s.map BJ
 zK:EI s
 canon:∀f∈s,AM f
def EI.pad{s:List Af}(c:EI s)(cs:∀f∈s,AM f):(s.map BJ).Pairwise λa b=>Cx a b<0:=by
 rw[gY];exact gZ (fun{a b} ha hb hab=>(DB (cs a ha) (cs b hb)).1 hab) c
def Dl.pair{fs:List Fe}{s:List Af}(h:Dl fs s):fs.Pairwise λa b=>Cx a.f b.f<0:=by
 have:=h.zK.pad h.canon;rw[<-h.same,gY]at this;exact this
def T5(a:CV):¬Cx a a<0:=by
 have:Cx a a=0:=(FN a a).2 rfl;omega
def Dl.mono{fs:List Fe}{s:List Af}(h:Dl fs s)(x:CV):∀i j (d:i<Z fs) (b:j<Z fs),i<=j->Cx fs[j].f x<0->Cx fs[i].f x<0:=by
 intro i j d b e c;rcases iH e with a|a
 .exact GY (gH.1 h.pair i j d b a) c
 .subst a;exact c
def Dl.mem{fs:List Fe}{s:List Af}(h:Dl fs s){f:Af}(b:AM f):(∃p∈fs,p.f=BJ f)↔f∈s:=by
 have e:(∃p∈fs,p.f=BJ f)↔BJ f∈fs.map Fe.f:=by rw[eH]
 rw[e,h.same,eH];constructor
 .rintro ⟨g,a,e⟩;rw[<-Mg (h.canon g a) b e];exact a
 .intro c;exact⟨f,c,rfl⟩
def Dl.zm{fs:List Fe}{s:List Af}(h:Dl fs s){f:Af}(k:AM f){p:Nat}(i:F6 fs (BJ f) p):Eh fs (BJ f) p=DD s f:=by
 have n:Eh fs (BJ f) p=jj↔DD s f=jj:=by
  rw[BL,<-h.mem k];unfold Eh;constructor
  .intro b;split at b
   .rename_i a;exact⟨fs[p],eo a,(FN _ _).1 (by simpa using b)⟩
   .cases b
  .rintro ⟨q,m,e⟩;obtain⟨j,g,rfl⟩:=fj m;have l:p<=j:=by
    by_cases b:j<p
    .have:=i.below j g b;rw[e]at this;exact absurd this (T5 _)
    .omega
   (have a:p<Z fs:=by omega);rw[dif_pos a];rcases iH l with c|c
   .have d:=gH.1 h.pair p j a g c;rw[e]at d;exact absurd d (i.zk p a (eM _))
   .subst c;rw[e];simpa using(FN _ _).2 rfl
 cases c:Eh fs (BJ f) p<;>cases d:DD s f<;>simp_all
def Dl.yL{fs:List Fe}{s:List Af}(h:Dl fs s){f:Af}(c:AM f){p:Nat}(b:F6 fs (BJ f) p)(a:Eh fs (BJ f) p=jj):Dl fs (AY s f):=by
 rw[h.zm c b]at a;have:AY s f=s:=by unfold AY;rw[a,eI rfl]
 rw[this];exact h
def Dl.zx{fs:List Fe}{s:List Af}(h:Dl fs s){x:Fe}{f:Af}(o:x.f=BJ f)(k:AM f){p:Nat}(t:F6 fs (BJ f) p)(w:Eh fs (BJ f) p=K):Dl (fs.take p++x::fs.drop p) (AY s f):=by
 obtain⟨a,b,m⟩:=DC k h.zK h.canon;refine⟨?_,a,b⟩;have B:f∉s:=λE=>by rw[h.zm k t,(BL _ _).2 E]at w;cases w
 refine I3 (lt:=λa b=>Cx a b<0) T5 (λa b c=>GY) _ _ ?_ (a.pad b) (λy=>?_)
 .rw[gY,i6];have z:=h.pair;have D:=z.take (i:=p);have A:=z.drop (i:=p);have u:∀q∈fs.take p,Cx q.f x.f<0:=by
   intro q d;obtain⟨i,n,rfl⟩:=fj d;rw[ft]at n;rw[iN,o];exact t.below i (by omega) (by omega)
  have v:∀q∈fs.drop p,Cx x.f q.f<0:=by
   intro q d;obtain⟨i,n,rfl⟩:=fj d;rw[fz]at n;rw[jn,o];have H:=t.zk (p+i) (by omega) (by omega);(have G:Cx fs[p+i].f (BJ f)≠0:=λe=>B ((h.mem k).1 ⟨_,eo _,(FN _ _).1 e⟩));exact(W6 _ _).1 (by omega)
  refine⟨D,gE.2 ⟨v,A⟩,λq d r l=>?_⟩;rcases ey.1 l with rfl|l
  .exact u q d
  .exact GY (u q d) (v r l)
 .have F:y∈(fs.take p++x::fs.drop p).map Fe.f↔y=x.f\/y∈fs.map Fe.f:=by
   (have C:fs.map Fe.f=(fs.take p).map Fe.f++(fs.drop p).map Fe.f:=by rw[<-fi,fH]);rw[C];simp only[fi,eR,eG,ey];constructor
   .rintro (h|h|h)
    .exact j6 (j5 h)
    .exact j5 h
    .exact j6 (j6 h)
   .rintro (h|h|h)
    .exact j6 (j5 h)
    .exact j5 h
    .exact j6 (j6 h)
  rw[F,h.same,eH,eH,o];constructor
  .rintro (rfl|⟨g,j,rfl⟩)
   .exact⟨f,(m f).2 (j6 rfl),rfl⟩
   .exact⟨g,(m g).2 (j5 j),rfl⟩
  .rintro ⟨g,j,rfl⟩;rcases(m g).1 j with j|rfl
   .exact j6 ⟨g,j,rfl⟩
   .exact j5 rfl
def aB(l:List g0):¬Ef l []<0:=by
 cases l<;>simp[Ef]
def T1(a:CV)(n:g0):Cx a ⟨n,[]⟩<0↔DM a.name n<0:=by
 unfold Cx;simp only;split
 .rename_i h;constructor
  .intro b;exact absurd b (aB _)
  .intro b;omega
 .exact Iff.rfl
def LT{α:Type}{p:α->Bool}:∀(l:List α),l.Pairwise (λa b=>p b=jj->p a=jj)->l.takeWhile p=l.filter p
 |[],_=>rfl
 |x::l,h=>by
  rw[gE]at h;rw[List.takeWhile_cons,gm];cases hx:p x with
  |true=>rw[eI rfl,eI rfl,LT l h.2]
  |false=>
   rw[eE (by simp),eE (by simp)];refine(jk.2 (λy d c=>?_)).symm;rw[h.1 y d c]at hx;cases hx
def Sh(n:g0)(q:Fe):Bool:=q.f.name.toList==n.toList
def TN(x:g0):g0:=if So x then x else AA x
def Bv(e:List g0):List g0:=e.map TN
def Qk(x:g0):Prop:=x.size=0\/A3 x
def Xw:So jK=jj:=(DO _).2 rfl
def OA:TN jK=jK:=by unfold TN;rw[Xw,eI rfl]
def CX{x:g0}(h:A3 x):TN x=AA x:=by
 unfold TN;cases he:So x with
 |true=>exact absurd ((DO _).1 he) h.size
 |false=>rfl
def Yq{x:g0}(h:A3 x):(AA x).size≠0:=by
 rcases h with⟨c,r,e,a,b⟩|h
 .rw[EQ e a,A7,e];simp
 .rw[A7,Fq h];rcases EB h with⟨c,e,_⟩|⟨c,d,e,_⟩|⟨c,d,f,e,_⟩<;>rw[e]<;>simp
def aS{x:g0}(h:Qk x):So (TN x)=So x:=by
 rcases h with h|h
 .have:So x=jj:=(DO _).2 h;unfold TN;rw[this,eI rfl,this]
 .have a:So x=K:=by
   cases he:So x with
   |true=>exact absurd ((DO _).1 he) h.size
   |false=>rfl
  rw[CX h,a];cases he:So (AA x)with
  |true=>exact absurd ((DO _).1 he) (Yq h)
  |false=>rfl
def Qi(b:List g0)(t:AG):g0:=if t.v=0 then TN t.s else b.getD (t.v.toNat-65) jK
def Eg(e:List g0)(t:AG):Qi (Bv e) t=TN (AJ e t):=by
 unfold Qi AJ Bv;by_cases a:t.v=0
 .rw[eI a,eI a]
 .rw[eE a,eE a,eK,eK,fM];cases e[t.v.toNat-65]? with
  |none=>exact OA.symm
  |some x=>rfl
def bS(e:List g0)(j:Nat){x:g0}(h:A3 x):Bv (e.set j x)=(Bv e).set j (AA x):=by
 unfold Bv;rw[jE,CX h]
def Qt(b:List g0)(ts:List AG)(xs:List g0):Bool:=(ts.zip xs).all λp=>So (Qi b p.1)||(Qi b p.1).toList==p.2.toList
def RK{e:List g0}:∀(a:List AG) (b:List g0),(∀t∈a,Qk (AJ e t))->(∀x∈b,A3 x)->Qt (Bv e) a (b.map AA)=Pt e a b
 |[],b,_,_=>by simp[Qt,Pt]
 |t::a,[],_,_=>by simp[Qt,Pt]
 |t::a,x::b,ht,hx=>by
  have ih:=RK a b (λu f=>ht u (by simp[f])) (λy d=>hx y (by simp[d]));unfold Qt Pt at ih⊢;rw[eR,ji,ji,iI,iI,ih]
  congr 1
  simp only;rw[Eg,aS (ht t (by simp))];cases he:So (AJ e t)with
  |true=>rfl
  |false=>
   rw[ib,ib];have c:A3 (AJ e t):=by
    rcases ht t (by simp)with h|h
    .rw[(DO _).2 h]at he;cases he
    .exact h
   rw[CX c];have g:((AA (AJ e t)).toList==(AA x).toList)=jj↔((AJ e t).toList==x.toList)=jj:=by
    rw[Er,Er];exact⟨λh=>FE c (hx x (by simp)) h,λh=>by rw[h]⟩
   cases h1:((AA (AJ e t)).toList==(AA x).toList)<;>cases h2:((AJ e t).toList==x.toList)<;>simp_all
def PJ(b:List g0)(ts:List AG):Bool:=ts.all λt=> !So (Qi b t)
def LO{e:List g0}:∀(a:List AG),(∀t∈a,Qk (AJ e t))->PJ (Bv e) a=DQ e a
 |[],_=>rfl
 |t::a,h=>by
  have ih:=LO a (λu b=>h u (by simp[b]));unfold PJ DQ at ih⊢;rw[iI,iI,ih,Eg,aS (h t (by simp))]
def Uf{e:List g0}{l r:AG}(a:A3 (AJ e l))(b:A3 (AJ e r)):((Qi (Bv e) l).toList==(Qi (Bv e) r).toList)=((AJ e l).toList==(AJ e r).toList):=by
 rw[Eg,Eg,CX a,CX b];have c:((AA (AJ e l)).toList==(AA (AJ e r)).toList)=jj↔((AJ e l).toList==(AJ e r).toList)=jj:=by
  rw[Er,Er];exact⟨λh=>FE a b h,λh=>by rw[h]⟩
 cases h1:((AA (AJ e l)).toList==(AA (AJ e r)).toList)<;>cases h2:((AJ e l).toList==(AJ e r).toList)<;>simp_all
def Zt{e:List g0}{l r:AG}(a:A3 (AJ e l))(b:A3 (AJ e r)):Op.bytesLess (Qi (Bv e) l).toList (Qi (Bv e) r).toList=Fm (AJ e l) (AJ e r):=by
 rw[Eg,Eg,CX a,CX b];exact Pa a b
def Oa(t:AO):Prop:=t.v=0\/(65<=t.v/\t.v<=90)
def Bt(b:List g0)(t:AO):g0:=da b t.v.toNat t.s
def Ga(b:List g0)(ts:List AO):Bool:=ts.all λt=> !So (Bt b t)
def Kk(a d:Nat)(b:List g0)(t:AO)(w:j7)(i:Z b=26)(g:AI w a (Ai b) d)(c:Oa t):
  Calls prog 180 #[j3 (V ⟨a,0,Y⟩),.agg #[X jI t.v,O t.s]] w λr f=>r=j4 (O (Bt b t))/\Ac [] w f:=by
 have h:=Vp a d b t.v.toNat t.s w i g (by rcases c with h|h<;>omega);have e:((t.v.toNat:Nat):Int)=t.v:=by rcases c with h|h<;>omega
 rw[e]at h;exact h
set_option maxRecDepth 100000
theorem Tw(f G:Nat)(b:List g0)(D:Option Addr)(L:Nat)(ts:List AO)(base:Nat)(w:j7)(Q:Z b=26)(N:AI w f (Ai b) G)(F:jG w base 215 2 (U D (Z ts) L) (Z ts) (ts.flatMap Aq))(A1:Z ts<=100000)(a:∀t∈ts,Oa t):
  Calls prog 204 #[j3 (V ⟨f,0,Y⟩),U D (Z ts) L] w λr o=>r=j4 (.bool (Ga b ts))/\Ac [] w o:=by
 obtain⟨R,x⟩:∃R,Ga b ts=R:=⟨_,rfl⟩;rw[x];have d:j9 ((ts.drop 0).all (λt=> !So (Bt b t))=R):=x;have HT:j9 (∀t∈ts,∀e,Ac [] w e->Calls prog 180 #[j3 (V ⟨f,0,Y⟩),.agg #[X jI t.v,O t.s]] e λr o=>r=j4 (O (Bt b t))/\Ac [] e o):=λt P e z=>Kk f G b t e Q (N.kept z (by simp)) (a t P)
 have AB:=Ab F;clear x F a N;go_enter func204,ntmps204;go_wp2_with fail
 go_loopg [9] (Z ts) (λgk i wr=>∃(k:Nat),i=X J k/\k<=Z ts/\gk=Z ts-k/\j9 ((ts.drop k).all (λt=> !So (Bt b t))=R)/\j9 (Ac [] w wr))
 case atStart=>exact⟨0,rfl,by omega,rfl,d,Ac.refl _ _⟩
 case round=>
  clear d;obtain⟨k,rfl,z,C,d,m⟩:=hrel;have W:=Ab C;clear C;by_cases n:k<Z ts
  .obtain⟨g,A0,H,E,B⟩:=EG (Ad AB m (by simp)) k n;simp only[ei]at H;obtain⟨rfl,_,rfl⟩:=H;obtain⟨T,j⟩:∃T,ts[k]=T:=⟨_,rfl⟩;have u:=Ab (m.alloc (j1 #[X jI T.v,O T.s] 215));have q:=Ab (HT T (by rw[<-j];exact eo n) _ u);have l:j9 ((!So (Bt b T)&&(ts.drop (k+1)).all (λt=> !So (Bt b t)))=R):=by
    have h:=Aa d;rw[eQ n,iI,j]at h;exact h
   rw[j]at E B;obtain⟨c,M⟩:∃c,Bt b T=c:=⟨_,rfl⟩;rw[M]at q l;clear d j M;(go_wp2_with fail);refine q.mono ?_;rintro _ w3 ⟨rfl,A⟩;have I:=Ab (u.trans A);clear q u m A E B;cases a:So c with
   |true=>
    have p:(c.toList==[])=jj:=a;(have S:c.toList=[]:=by simpa using p);(have y:j9 (R=K):=by show _=_;rw[<-Aa l,a];rfl);go_wp2;go_ret;rw[Aa y];exact⟨rfl,I⟩
   |false=>
    have p:(c.toList==[])=K:=a;(have S:¬c.toList=[]:=by simpa using p);(have Ax:j9 ((ts.drop (k+1)).all (λt=> !So (Bt b t))=R):=by have h:=Aa l;rw[a]at h;exact h);clear l;go_wp2
    go_roundg (Z ts-(k+1))
    case measure=>have:=Aa W;omega
    case rel=>exact⟨k+1,by go_num,by omega,rfl,Ax,I⟩
  .have y:j9 (R=jj):=by
    have h:=Aa d;rw[fq (by omega)]at h;exact h.symm
   go_wp2;go_ret;rw[Aa y];exact⟨rfl,m⟩
def GT(b:List g0):List AO->List g0->Bool
 |t::ts,x::xs=>(So (Bt b t)||(Bt b t).toList==x.toList)&&GT b ts xs
 |_,_=>jj
def FM{w:j7}{base:Nat}{v:Value}{l:List g0}(h:jG w base 170 1 v (Z l) (l.flatMap Ah))(k:Nat)(b:k<Z l):∃g a,v=U (V ⟨g,0,Y⟩) (Z l) a/\w.cell? ⟨g,k,Y⟩=V (O l[k]):=by
 obtain⟨g,a,e,_,f⟩:=AC h (λc _=>rfl) k b;have d:=f k b 0 (by omega);simp[Ah]at d;exact⟨g,a,e,d⟩
theorem aw(z ty:Nat)(b:List g0)(x:Int)(nm:g0)(l:Option Addr)(n:Nat)(ts:List AO)(p:Fe)(base:Nat)(w:j7)(hb:Z b=26)(hB:AI w z (Ai b) ty)(hr:jG w base 215 2 (U l (Z ts) n) (Z ts) (ts.flatMap Aq))(Q:DL w p)(Ha:Z ts<=100000)(FC:Z ts<=Z p.f.zB)(j:∀t∈ts,Oa t):
  Calls prog 222 #[j3 (V ⟨z,0,Y⟩),.agg #[X J x,O nm,U l (Z ts) n],.agg (AW p).toArray] w λr F=>r=j4 (.bool (GT b ts p.f.zB))/\Ac [] w F:=by
 obtain⟨⟨m,a⟩,pv⟩:=p;obtain⟨e,d,BT⟩:=Ak Q;simp only at BT FC;subst BT;have HX:j9 (jG w 0 170 1 (U e (Z a) d) (Z a) (a.flatMap Ah)):=Q;simp only[AW];obtain⟨R,hR⟩:∃R,GT b ts a=R:=⟨_,rfl⟩;rw[hR];have q:j9 (GT b (ts.drop 0) (a.drop 0)=R):=hR;have HT:j9 (∀t∈ts,∀y,Ac [] w y->Calls prog 180 #[j3 (V ⟨z,0,Y⟩),.agg #[X jI t.v,O t.s]] y λr F=>r=j4 (O (Bt b t))/\Ac [] y F):=λt ht y hk=>Kk z ty b t y hb (hB.kept hk (by simp)) (j t ht)
 have FF:=Ab hr;have B:j9 (AI ((w.alloc (j1 [X J x,O nm,U l (Z ts) n].toArray 187)).alloc (j1 [O m,U e (Z a) d].toArray 104)) (w.heap.size+1) [O m,U e (Z a) d] 104):=by
  have h:=AI.new (w.alloc (j1 [X J x,O nm,U l (Z ts) n].toArray 187)) [O m,U e (Z a) d] 104;simp only[fg]at h;exact h
 have W:=Ab (((Ac.refl [] w).alloc (j1 [X J x,O nm,U l (Z ts) n].toArray 187)).alloc (j1 [O m,U e (Z a) d].toArray 104));clear hR hr j hB Q;go_enter func222,ntmps222;go_wp2_with fail
 change Code.wp _ _ _ _ ((w.alloc (j1 [X J x,O nm,U l (Z ts) n].toArray 187)).alloc (j1 [O m,U e (Z a) d].toArray 104));generalize((w.alloc (j1 [X J x,O nm,U l (Z ts) n].toArray 187)).alloc (j1 [O m,U e (Z a) d].toArray 104))=w1 at B W⊢;generalize w.heap.size=N at B⊢
 go_loopg [13] (Z ts) (λgk i wr=>∃(k:Nat),i=X J k/\k<=Z ts/\gk=Z ts-k/\j9 (GT b (ts.drop k) (a.drop k)=R)/\j9 (AI wr (N+1) [O m,U e (Z a) d] 104)/\j9 (Ac [] w wr))
 case atStart=>exact⟨0,rfl,by omega,rfl,q,B,W⟩
 case round=>
  clear q B W;obtain⟨k,rfl,hk,A2,q,HB,C⟩:=hrel;have HG:=Ab A2;clear A2;by_cases E:k<Z ts
  ·(have B9:k<Z a:=by omega);obtain⟨g,FW,he,d0,d1⟩:=EG (Ad FF C (by simp)) k E;simp only[ei]at he;obtain⟨rfl,_,rfl⟩:=he;obtain⟨T,A⟩:∃T,ts[k]=T:=⟨_,rfl⟩;obtain⟨u,H⟩:∃u,a[k]=u:=⟨_,rfl⟩;have S:=Ab (C.alloc (j1 #[X jI T.v,O T.s] 215));have B2:=Ab (HB.alloc (j1 #[X jI T.v,O T.s] 215));have P:=Ab (HT T (by rw[<-A];exact eo E) _ S);have o:j9 (((So (Bt b T)||(Bt b T).toList==u.toList)&&GT b (ts.drop (k+1)) (a.drop (k+1)))=R):=by
    have h:=Aa q;rw[eQ E,eQ B9,GT,A,H]at h;exact h
   rw[A]at d0 d1;obtain⟨c,hV⟩:∃c,Bt b T=c:=⟨_,rfl⟩;rw[hV]at P o;clear q A hV;(have HA:(0:Int)<=(k:Int):=by omega);(have HD:(k:Int)<(Z a:Int):=by omega);(go_wp2_with fail);refine P.mono ?_;rintro _ w3 ⟨rfl,M⟩;have D:=Ab (S.trans M);have I:=Ab (B2.kept M (by simp));obtain⟨g2,Go,BS,x0⟩:=FM (Ad HX D (by simp)) k B9;simp only[ei]at BS;obtain⟨rfl,_,rfl⟩:=BS;rw[H]at x0;have b1:=I.cell 1;simp at b1;clear P S C M d0 d1 B2 HB H;cases j:So c with
   |true=>
    have G:(c.toList==[])=jj:=j;(have FA:c.toList=[]:=by simpa using G);(have L:j9 (GT b (ts.drop (k+1)) (a.drop (k+1))=R):=by have h:=Aa o;rw[j]at h;exact h);clear o;go_wp2
    go_roundg (Z ts-(k+1))
    case measure=>have:=Aa HG;omega
    case rel=>exact⟨k+1,by go_num,by omega,rfl,L,I,D⟩
   |false=>
    have G:(c.toList==[])=K:=j;(have FA:¬c.toList=[]:=by simpa using G);cases hx:(c.toList==u.toList)with
    |true=>
     (have EX:(c.toList !=u.toList)=K:=by simp[bne,hx]);(have L:j9 (GT b (ts.drop (k+1)) (a.drop (k+1))=R):=by have h:=Aa o;rw[j,hx]at h;exact h);clear o;go_wp2
     go_roundg (Z ts-(k+1))
     case measure=>have:=Aa HG;omega
     case rel=>exact⟨k+1,by go_num,by omega,rfl,L,I,D⟩
    |false=>
     (have EX:(c.toList !=u.toList)=jj:=by simp[bne,hx]);(have HE:j9 (R=K):=by show _=_;rw[<-Aa o,j,hx];rfl);go_wp2;go_ret;rw[Aa HE];exact⟨rfl,D⟩
  .have HE:j9 (R=jj):=by
    have h:=Aa q;rw[fq (by omega),GT]at h
    .exact h.symm
    .simp
   go_wp2;go_ret;rw[Aa HE];exact⟨rfl,C⟩
def Ip(a b:AO):Bool:=a.v==b.v&&a.s.toList==b.s.toList
def Qx(ts:List AO)(x:AO)(r:Int):Prop:=(r= -1/\∀t∈ts,Ip x t=K)\/∃k,∃h:k<Z ts,r=(k:Int)/\Ip x ts[k]=jj/\∀j (hj:j<Z ts),j<k->Ip x ts[j]=K
theorem Yw(C:Option Addr)(F:Nat)(ts:List AO)(x:AO)(base:Nat)(w:j7)(D:jG w base 215 2 (U C (Z ts) F) (Z ts) (ts.flatMap Aq))(AT:Z ts<=100000):
  Calls prog 206 #[U C (Z ts) F,.agg #[X jI x.v,O x.s]] w λr H=>∃n,r=j4 (X J n)/\Qx ts x n/\Ac [] w H:=by
 have S:=Ab D;obtain⟨e,l⟩:∃e:Int->Prop,e=Qx ts x:=⟨_,rfl⟩;have y:=Ab l;rw[<-l];have a:=Ab (AI.new w [X jI x.v,O x.s] 215);have b:=Ab ((Ac.refl [] w).alloc (j1 #[X jI x.v,O x.s] 215));clear D l;go_enter func206,ntmps206;go_wp2_with fail
 change Code.wp _ _ _ _ (w.alloc (j1 [X jI x.v,O x.s].toArray 215));generalize w.alloc (j1 [X jI x.v,O x.s].toArray 215)=w1 at a b⊢;generalize w.heap.size=N at a⊢
 go_loopg [8] (Z ts) (λgk i wr=>∃(k:Nat),i=X J k/\k<=Z ts/\gk=Z ts-k/\j9 (∀j (c:j<Z ts),j<k->Ip x ts[j]=K)/\j9 (AI wr N [X jI x.v,O x.s] 215)/\j9 (Ac [] w wr))
 case atStart=>exact⟨0,rfl,by omega,rfl,λj c h=>by omega,a,b⟩
 case round=>
  clear a b;obtain⟨k,rfl,hk,A,f,a,b⟩:=hrel;have z:=Ab A;clear A;by_cases q:k<Z ts
  .obtain⟨g,AH,E,P,M⟩:=EG (Ad S b (by simp)) k q;simp only[ei]at E;obtain⟨rfl,_,rfl⟩:=E;obtain⟨T,m⟩:∃T,ts[k]=T:=⟨_,rfl⟩;have u:=Ab m;rw[m]at P M;clear m;have G:=a.cell 0;have R:=a.cell 1;simp at G R;(have A0:(0:Int)<=(k:Int):=by omega);(have A1:(k:Int)<(Z ts:Int):=by omega);(have d:j9 (∀n,AI (wr.drewN n) N [X jI x.v,O x.s] 215/\Ac [] w (wr.drewN n)):=λn=>⟨a.drewN n,b.drewN n⟩);cases hs:Ip x T with
   |true=>
    have o:(x.v==T.v)=jj/\(x.s.toList==T.s.toList)=jj:=by
     unfold Ip at hs;simpa using hs
    have W:=o.1;have Q:=o.2;have p:j9 (e (k:Int)):=by
     rw[Aa y];exact j6 ⟨k,q,rfl,by rw[Aa u];exact hs,f⟩
    clear o hs;go_wp2_with fail
    go_quiet (fail)
    go_wp2;go_ret;exact⟨k,rfl,p,(d _).2⟩
   |false=>
    have B:j9 (∀j (c:j<Z ts),j<k+1->Ip x ts[j]=K):=by
     intro j c Ax;by_cases h:j<k
     .exact f j c h
     ·(have I:j=k:=by omega);subst I;rw[Aa u];exact hs
    cases ha:(x.v==T.v)with
    |false=>
     clear hs;go_wp2_with fail
     go_quiet (fail)
     go_wp2
     go_roundg (Z ts-(k+1))
     case measure=>have:=Aa z;omega
     case rel=>exact⟨k+1,by go_num,by omega,rfl,B,(d _).1,(d _).2⟩
    |true=>
     have Q:(x.s.toList==T.s.toList)=K:=by
      unfold Ip at hs;rw[ha,gq]at hs;exact hs
     clear hs;go_wp2_with fail
     go_quiet (fail)
     go_wp2
     go_roundg (Z ts-(k+1))
     case measure=>have:=Aa z;omega
     case rel=>exact⟨k+1,by go_num,by omega,rfl,B,(d _).1,(d _).2⟩
  .have p:j9 (e (-1)):=by
    rw[Aa y];refine j5 ⟨rfl,λt L=>?_⟩;obtain⟨j,c,rfl⟩:=fj L;exact f j c (by omega)
   go_wp2;go_ret;exact⟨-1,rfl,p,b⟩
def TJ{w:j7}{base:Nat}{v:Value}{l:List Int}(h:jG w base 21 1 v (Z l) (l.flatMap AP))(k:Nat)(b:k<Z l):∃g a,v=U (V ⟨g,0,Y⟩) (Z l) a/\w.cell? ⟨g,k,Y⟩=V (X jI l[k]):=by
 obtain⟨g,a,e,_,f⟩:=AC h (λc _=>rfl) k b;have d:=f k b 0 (by omega);simp[AP]at d;exact⟨g,a,e,d⟩
theorem Z2(q:Option Addr)(u:Nat)(l:List Int)(x:Int)(base:Nat)(w:j7)(s:jG w base 21 1 (U q (Z l) u) (Z l) (l.flatMap AP))(I:Z l<=100000):
  Calls prog 203 #[U q (Z l) u,X jI x] w λr v=>∃n:Int,r=j4 (X J n)/\(n= -1/\x∉l\/0<=n/\x∈l)/\v=w:=by
 have E:=Ab s;clear s;go_enter func203,ntmps203;go_wp2_with fail
 go_loopg [8] (Z l) (λgk i wr=>∃(k:Nat),i=X J k/\k<=Z l/\gk=Z l-k/\j9 (∀j (b:j<Z l),j<k->l[j]≠x)/\wr=w)
 case atStart=>exact⟨0,rfl,by omega,rfl,λj b h=>by omega,rfl⟩
 case round=>
  obtain⟨k,rfl,G,p,m,rfl⟩:=hrel;have z:=Ab p;clear p;by_cases f:k<Z l
  .obtain⟨g,H,t,C⟩:=TJ E k f;simp only[ei]at t;obtain⟨rfl,_,rfl⟩:=t;obtain⟨T,d⟩:∃T,l[k]=T:=⟨_,rfl⟩;have o:=Ab d;rw[d]at C;clear d;(have L:(0:Int)<=(k:Int):=by omega);(have M:(k:Int)<(Z l:Int):=by omega);by_cases a:x=T
   ·(have A:(x==T)=jj:=by simp[a]);(have c:j9 (x∈l):=by show _∈_;rw[a,<-Aa o];exact eo f);clear a;go_wp2;go_ret;exact⟨k,rfl,j6 ⟨by omega,c⟩,rfl⟩
   ·(have A:(x==T)=K:=by simp[a]);have B:j9 (∀j (b:j<Z l),j<k+1->l[j]≠x):=by
     intro j b F;by_cases h:j<k
     .exact m j b h
     ·(have y:j=k:=by omega);subst y;rw[Aa o];exact λe=>a e.symm
    clear a;go_wp2
    go_roundg (Z l-(k+1))
    case measure=>have:=Aa z;omega
    case rel=>exact⟨k+1,by go_num,by omega,rfl,B,rfl⟩
  .have c:j9 (x∉l):=by
    intro D;obtain⟨j,b,e⟩:=fj D;exact m j b (by omega) e
   go_wp2;go_ret;exact⟨-1,rfl,j5 ⟨rfl,c⟩,rfl⟩
theorem Qq(c:Option Addr)(b:Nat)(l:List Int)(x:Int)(base:Nat)(w:j7)(d:jG w base 21 1 (U c (Z l) b) (Z l) (l.flatMap AP))(i:Z l<=100000):
  Calls prog 175 #[U c (Z l) b,X jI x] w λr h=>r=j4 (.bool (decide (x∈l)))/\h=w:=by
 have f:=Ab (Z2 c b l x base w d i);clear d;go_enter func175,ntmps175;go_wp2_with fail
 refine f.mono ?_;rintro _ k ⟨n,rfl,g,rfl⟩;have j:j9 (decide (0<=n)=decide (x∈l)):=by
  show _=_;rcases g with⟨e,a⟩|⟨e,a⟩
  .rw[fO a,fO (by omega)]
  .rw[gG a,gG e]
 clear g f;go_wp2;go_ret;rw[<-Aa j];exact⟨rfl,rfl⟩
def Ve(a:List Int)(t:AO):List Int:=if t.v≠0/\t.v∉a then a++[t.v] else a
def Dn(ts:List AO):List Int:=ts.foldl Ve []
def VJ{ts:List AO}{k:Nat}(a:k<Z ts):Dn (ts.take (k+1))=Ve (Dn (ts.take k)) ts[k]:=by
 unfold Dn;rw[ep a,fE];rfl
theorem QD(S:Option Addr)(cp:Nat)(ts:List AO)(base:Nat)(w:j7)(hr:jG w base 215 2 (U S (Z ts) cp) (Z ts) (ts.flatMap Aq))(Go:Z ts<=90000):
  Calls prog 138 #[U S (Z ts) cp] w λr I=>∃AT Ax,r=j4 (U AT (Z (Dn ts)) Ax)/\jG I w.heap.size 21 1 (U AT (Z (Dn ts)) Ax) (Z (Dn ts)) ((Dn ts).flatMap AP)/\Ac [] w I:=by
 obtain⟨i0,FO,B0,B9,EM⟩:=fC Tryz.zu;have FL:=Ab hr;obtain⟨R,A⟩:∃R,Dn ts=R:=⟨_,rfl⟩;rw[A];have HR:=Ab A;obtain⟨N,E⟩:∃N,w.heap.size=N:=⟨_,rfl⟩;rw[E];have HN:=Ab E;clear hr A E;go_enter func138,ntmps138;go_wp2_with fail
 go_loopg [3,8] (Z ts) (λgk o i wr=>∃(k:Nat) (l:List Int) (c:Option Addr) (b:Nat),o=U c (Z l) b/\i=X J k/\k<=Z ts/\gk=Z ts-k/\Z l<=k/\j9 (Dn (ts.take k)=l)/\j9 (jG wr N 21 1 (U c (Z l) b) (Z l) (l.flatMap AP))/\j9 (Ac [] w wr))
 case atStart=>exact⟨0,[],Y,0,rfl,rfl,by omega,rfl,by simp,rfl,eU _ _ _ _,Ac.refl _ _⟩
 case round=>
  obtain⟨k,l,c,b,rfl,rfl,hk,P,FP,C,y,n⟩:=hrel;have u:=Ab P;clear P;by_cases H:k<Z ts
  .obtain⟨g,FW,he,W,M⟩:=EG (Ad FL n (by simp)) k H;simp only[ei]at he;obtain⟨rfl,_,rfl⟩:=he;obtain⟨T,x⟩:∃T,ts[k]=T:=⟨_,rfl⟩;have De:j9 (Dn (ts.take (k+1))=if T.v≠0/\T.v∉l then l++[T.v] else l):=by
    show _=_;rw[VJ H,Aa C,x];rfl
   rw[x]at W M;clear x C;have m:=Ab (n.alloc (j1 #[X jI T.v,O T.s] 215));have p:=Ab (AI.new wr [X jI T.v,O T.s] 215);have D:=eC y (j1 #[X jI T.v,O T.s] 215);have j:=Ab D;have d:=Ab (Qq c b l T.v N _ D (by omega));(have E0:N<=wr.heap.size:=by have:=n.size;have:=Aa HN;omega);clear D y n;by_cases a:T.v=0
   ·(have FC:(T.v !=0)=K:=by simp[a]);(have EY:(T.v==0)=jj:=by simp[a]);(have f:j9 (Dn (ts.take (k+1))=l):=by show _=_;rw[Aa De,eE (λh=>h.1 a)]);clear De a d;go_wp2
    go_roundg (Z ts-(k+1))
    case measure=>have:=Aa u;omega
    case rel=>exact⟨k+1,l,c,b,rfl,by go_num,by omega,rfl,by omega,f,j,m⟩
   ·(have FC:(T.v !=0)=jj:=by simp[a]);(have EY:(T.v==0)=K:=by simp[a]);by_cases e:T.v∈l
    ·(have f:j9 (Dn (ts.take (k+1))=l):=by show _=_;rw[Aa De,eE (λh=>h.2 e)]);rw[gG e]at d;clear De a e;(go_wp2_with fail);refine d.mono ?_;rintro _ w3 ⟨rfl,rfl⟩;go_wp2
     go_roundg (Z ts-(k+1))
     case measure=>have:=Aa u;omega
     case rel=>exact⟨k+1,l,c,b,rfl,by go_num,by omega,rfl,by omega,f,j,m⟩
    ·(have f:j9 (Dn (ts.take (k+1))=l++[T.v]):=by show _=_;rw[Aa De,eI ⟨a,e⟩]);rw[fO e]at d;clear De a e;(go_wp2_with fail);refine d.mono ?_;rintro _ w3 ⟨rfl,rfl⟩;obtain⟨B,hB⟩:∃B,wr.heap.size=B:=⟨_,rfl⟩;rw[hB]at p E0⊢;have z:j9 (AI (wr.alloc (j1 #[X jI T.v,O T.s] 215)) B [X jI T.v,O T.s] 215):=p;have CL:B<(wr.alloc (j1 #[X jI T.v,O T.s] 215)).heap.size:=z.lt;clear d p hB W M;generalize wr.alloc (j1 #[X jI T.v,O T.s] 215)=w4 at j m z CL⊢;have G:=z.cell 0;simp at G;have F:=Aa j;go_wp2_with (at_builtin;refine eP _ rfl (.tmp 22) (.tmp 25) _ rfl N 21 i0 _ 1 4 underlying234 FO B0 B9 EM rfl (by omega) (U c (Z l) b) (Z l) (l.flatMap AP) rfl (eC F _) ⟨w4.heap.size,0,Y⟩ 1 1 [X jI T.v] rfl rfl (eS (cs:=#[X jI T.v]) (t:=21) (fr:=(0,0)) (fe w4 _)) (by simp[Value.oneCell']) (by omega) (by unfold maxLen;omega) (by omega) (by simp;omega) (w4.heap.size+1) (by simp) ?_;intro g1 L w9 AB Q BS FA)
     have EX:j9 (jG w9 N 21 1 (U (V ⟨g1,0,Y⟩) (Z (l++[T.v])) L) (Z (l++[T.v])) ((l++[T.v]).flatMap AP)):=by
      rw[eY];simp only[eJ,eF,fb,fw,eN,fF,fh,AP];exact AB
     have CC:=Ab ((m.alloc (j1 #[X jI T.v] 21)).grown Q (λq hq=>j6 (by have:=(F.lt q hq).1;have:=Aa HN;omega)));clear AB Q BS FA F j m G
     go_roundg (Z ts-(k+1))
     case measure=>have:=Aa u;omega
     case rel=>exact⟨k+1,l++[T.v],V ⟨g1,0,Y⟩,L,by simp,by go_num,by omega,rfl,by simp;omega,f,EX,CC⟩
  .have HE:j9 (l=R):=by
    have h:=Aa C;rw[eu (by omega),Aa HR]at h;exact h.symm
   go_wp2;go_ret;rw[<-Aa HE];exact⟨c,b,rfl,y,n⟩
structure We(rcs:List A8)(hs:List (Nat×Gp Af))(s:List Af):Prop where
 nd:(hs.map λh=>h.2.head).Nodup
 mem:∀f,f∈s↔f∈hs.map λh=>h.2.head
 each:∀i (hi:i<Z hs),∃(hn:hs[i].1<Z rcs) (σ:UInt8->g0),Mf rcs[hs[i].1] σ/\hs[i].2=CR rcs[hs[i].1] σ/\(∀g∈hs[i].2.pos,g∈(hs.take i).map λh=>h.2.head)/\∀g∈hs[i].2.neg,g∉s
def We.start(a:List A8):We a [] []:=⟨iq,λf=>by simp,λi b=>by simp at b⟩
def We.add{l:List A8}{o:g0->Nat}(I:Di l o){n:Nat}{s v:List Af}{c:List (Nat×Gp Af)}(h:We l c s)(Q:∀f∈s,o f.name<=n){j:Nat}(B:j<Z l)(P:o l[j].head.name=n){i:Gp Af}{σ:UInt8->g0}(t:i=CR l[j] σ)(C:Mf l[j] σ)(M:∀g∈i.pos,g∈s)(N:∀g∈i.neg,g∉s)(L:i.head∉s)(q:∀f,f∈v↔f∈s\/f=i.head):We l (c++[(j,i)]) v:=by
 have D:=I.zW;have S:o i.head.name=n:=by rw[t];exact P
 refine⟨?_,λf=>?_,λk F=>?_⟩
 .rw[fi];refine iO.2 ⟨h.nd,by simp,λa A b x e=>?_⟩;simp only[eR,gU,ex]at x;rw[e,x]at A;exact L ((h.mem _).2 A)
 .rw[q f,h.mem f,fi,eG];simp
 .by_cases p:k<Z c
  .have u:(c++[(j,i)])[k]=c[k]:=fL p;obtain⟨y,τ,w,z,G,H⟩:=h.each k p;rw[fB (by omega)];simp only[u];refine⟨y,τ,w,z,G,λg m d=>?_⟩;rcases(q g).1 d with d|d
   .exact H g m d
   .have r:=D.neg c[k].2 ⟨l[c[k].1],eo y,τ,w,z⟩ g m;have R:=Q c[k].2.head ((h.mem _).2 (eH.2 ⟨c[k],eo p,rfl⟩));rw[d]at r;omega
  ·(have E:k=Z c:=by simp at F;omega);subst E;(have u:(c++[(j,i)])[Z c]=(j,i):=by simp);rw[List.take_left];simp only[u];refine⟨B,σ,C,t,λg m=>(h.mem g).1 (M g m),λg m d=>?_⟩;rcases(q g).1 d with d|d
   .exact N g m d
   .have r:=D.neg i ⟨l[j],eo B,σ,C,t⟩ g m;rw[d]at r;omega
def Ki:∀(l s:List Af),EI s->(∀f∈s,AM f)->(∀f∈l,AM f)->EI (l.foldl AY s)/\(∀f∈l.foldl AY s,AM f)/\∀f,f∈l.foldl AY s↔f∈s\/f∈l
 |[],s,h1,h2,_=>⟨h1,h2,λf=>by simp⟩
 |x::l,s,h1,h2,h3=>by
  obtain⟨e,b,h⟩:=DC (h3 x (by simp)) h1 h2;obtain⟨a,c,g⟩:=Ki l (AY s x) e b (λf d=>h3 f (by simp[d]));refine⟨a,c,λf=>?_⟩;rw[fd,g f,h f,ey,or_assoc]
def We.batch{b:List A8}{o:g0->Nat}(A:Di b o){n:Nat}{s:List Af}{B:List (Nat×Gp Af)}(h:We b B s)(I:EI s)(H:∀f∈s,AM f)(M:∀f∈s,o f.name<=n){c:Nat}(D:c<Z b)(C:o b[c].head.name=n){l:List Af}(L:l.Nodup)(u:∀f∈l,f∉s/\AM f)
  {a:List (Gp Af)} (t:a.map Gp.head=l) (z:∀i∈a,∃σ,(∀x∈Aj b[c],Cg (Bh σ) (DU σ) s x=jj)/\i=CR b[c] σ):∀j,We b (B++(a.take j).map (Prod.mk c)) ((l.take j).foldl AY s):=by
 have w:∀f∈l,o f.name=n:=by
  intro f d;rw[<-t]at d;obtain⟨i,m,rfl⟩:=eH.1 d;obtain⟨σ,_,rfl⟩:=z i m;exact C
 have Q:Z a=Z l:=by rw[<-t,eL]
 intro j
 induction j with
 |zero=>simpa using h
 |succ j ih=>
  by_cases k:j<Z l
  ·(have r:j<Z a:=by omega);have e:=Ki (l.take j) s I H (λf d=>(u f (fR d)).2);have y:l[j]=a[j].head:=by
    have:=congrArg (λl=>l[j]?) t;simp only[fM,ez r,ez k,gu,eD]at this;exact this.symm
   obtain⟨σ,F,m⟩:=z a[j] (eo r);obtain⟨v,E⟩:=(GO b[c] σ s).1 F;rw[<-m]at v;rw[ep r,fi,<-fD,ep k,fE];simp only[eR,gU,fd,List.foldl_nil];refine ih.add A (n:=n) (λf d=>?_) D C m E (λg p=>(e.2.2 g).2 (j5 (v.1 g p))) (λg p q=>?_) (λq=>?_) (λf=>?_)
   .rcases(e.2.2 f).1 d with h|h
    .exact M f h
    .exact Nat.le_of_eq (w f (fR h))
   .rcases(e.2.2 g).1 q with h|h
    .exact v.2 g p h
    .have R:=A.zW.neg a[j] ⟨b[c],eo D,σ,E,m⟩ g p;have N:=w g (fR h);(have P:o a[j].head.name=n:=by rw[<-y];exact w _ (eo k));omega
   .rw[<-y]at q;rcases(e.2.2 _).1 q with h|h
    .exact(u _ (eo k)).1 h
    ·(have G:(l.take j++l[j]::l.drop (j+1)).Nodup:=by rw[<-eQ k,fH];exact L);exact(iO.1 G).2.2 _ h _ (fI ..) rfl
   .rw[(DC (u _ (eo k)).2 e.1 e.2.1).2.2 f,y]
  .rw[eu (by omega),eu (by omega)];rw[eu (by omega),eu (by omega)]at ih;exact ih
abbrev De:=Nat×Gp Af
def Ge(a:List De×List Af)(h:De):List De×List Af:=if DD a.2 h.2.head=jj then(a.1++[h],h.2.pos.foldl AY a.2)else a
def I0:List De->List Af->List De
 |[],_=>[]
 |h::R,N=>if DD N h.2.head=jj then I0 R (h.2.pos.foldl AY N)++[h] else I0 R N
def OZ:∀(R:List De) (A:List De) (N:List Af),(R.foldl Ge (A,N)).1=A++(I0 R N).reverse
 |[],A,N=>by simp[I0]
 |h::R,A,N=>by
  rw[fd];by_cases a:DD N h.2.head=jj
  ·(have b:Ge (A,N) h=(A++[h],h.2.pos.foldl AY N):=by unfold Ge;rw[eI a]);rw[b,OZ R,I0,eI a,List.reverse_append];simp
  ·(have b:Ge (A,N) h=(A,N):=by unfold Ge;rw[eE a]);rw[b,OZ R,I0,eE a]
def Vg:List De->Prop
 |[]=>True
 |h::R=>(∀g∈h.2.pos,g∈R.map λh=>h.2.head)/\Vg R
def SA:∀(R:List De) (N:List Af),Vg R->EI N->(∀f∈N,AM f)->(∀h∈R,∀g∈h.2.pos,AM g)->
  (I0 R N).Sublist R.reverse/\(∀h∈R,h.2.head∈N->h∈I0 R N)/\∀A h B,I0 R N=A++h::B->∀g∈h.2.pos,g∈A.map λh=>h.2.head
 |[],N,_,_,_,_=>⟨by simp[I0],λh r=>by simp at r,λA h B e=>by simp[I0]at e⟩
 |h::R,N,hl,hr,hc,hp=>by
  by_cases n:DD N h.2.head=jj
  ·(have e:I0 (h::R) N=I0 R (h.2.pos.foldl AY N)++[h]:=by rw[I0,eI n]);have i:=Ki h.2.pos N hr hc (λg d=>hp h (by simp) g d);obtain⟨m,k,o⟩:=SA R _ hl.2 i.1 i.2.1 (λx a=>hp x (by simp[a]));rw[e];refine⟨?_,?_,?_⟩
   .rw[List.reverse_cons];exact m.append (List.Sublist.refl _)
   .intro x a l;rcases ey.1 a with rfl|a
    .simp
    .exact eG.2 (j5 (k x a ((i.2.2 _).2 (j5 l))))
   .intro A x B q g d;rcases List.append_eq_append_iff.1 q with⟨C,j,b⟩|⟨C,j,b⟩
    ·
     cases C with
     |nil=>
      simp at b;obtain⟨rfl,rfl⟩:=b;rw[j,fh];obtain⟨y,p,rfl⟩:=eH.1 (hl.1 g d);exact eH.2 ⟨y,k y p ((i.2.2 _).2 (j6 d)),rfl⟩
     |cons c C=>simp at b
    ·
     cases C with
     |nil=>
      simp at b;obtain⟨rfl,rfl⟩:=b;rw[fh]at j;obtain⟨y,p,rfl⟩:=eH.1 (hl.1 g d);exact eH.2 ⟨y,by rw[<-j];exact k y p ((i.2.2 _).2 (j6 d)),rfl⟩
     |cons c C=>
      simp only[gO,gW]at b;obtain⟨rfl,_⟩:=b;exact o A x C j g d
  ·(have e:I0 (h::R) N=I0 R N:=by rw[I0,eE n]);obtain⟨m,k,o⟩:=SA R N hl.2 hr hc (λx a=>hp x (by simp[a]));rw[e];refine⟨?_,?_,o⟩
   .rw[List.reverse_cons];exact m.trans (List.sublist_append_left _ _)
   .intro x a l;rcases ey.1 a with rfl|a
    .exact absurd ((BL _ _).2 l) n
    .exact k x a l
def QC:∀(R:List De) (f:Af),f∈R.map (λh=>h.2.head)->∃c h,I0 R [f]=c++[h]/\h.2.head=f
 |[],f,h=>by simp at h
 |h::R,f,a=>by
  by_cases b:DD [f] h.2.head=jj
  .refine⟨_,h,by rw[I0,eI b],?_⟩;have:=(BL _ _).1 b;simpa using this
  .rw[I0,eE b];refine QC R f ?_;rw[eR,ey]at a;rcases a with rfl|a
   .exact absurd ((BL _ _).2 (by simp)) b
   .exact a
def Ra:∀(R:List De) (f:Af),f∉R.map (λh=>h.2.head)->I0 R [f]=[]
 |[],f,h=>rfl
 |h::R,f,hm=>by
  rw[eR,ey,not_or]at hm;rw[I0,eE ?_]
  .exact Ra R f hm.2
  .intro a;have:=(BL _ _).1 a;simp at this;exact hm.1 this.symm
def Z7:∀(a:List De),(∀i (d:i<Z a),∀g∈a[i].2.pos,g∈(a.take i).map λh=>h.2.head)->Vg a.reverse:=by
 intro a;have b:∀n,n<=Z a->(∀i (d:i<Z a),∀g∈a[i].2.pos,g∈(a.take i).map λh=>h.2.head)->Vg (a.take n).reverse:=by
  intro n
  induction n with
  |zero=>intro _ _;rw[iJ];trivial
  |succ n ih=>
   intro e h;rw[ep (by omega),List.reverse_append];refine⟨λg c=>?_,ih (by omega) h⟩;show g∈List.map (λh=>h.2.head) (List.take n a).reverse;rw[List.map_reverse,List.mem_reverse];exact h n (by omega) g c
 intro h;have:=b (Z a) (eM _) h
 rwa [gP]at this
structure dI(rcs:List A8)(s:List Af)(l:List De):Prop where
 nd:(l.map λh=>h.2.head).Nodup
 each:∀A h B,l=A++h::B->∃(hn:h.1<Z rcs) (σ:UInt8->g0),Mf rcs[h.1] σ/\h.2=CR rcs[h.1] σ/\(∀g∈h.2.pos,g∈A.map λh=>h.2.head)/\∀g∈h.2.neg,g∉s
 zY:∀h∈l,h.2.head∈s
def G7(hs:List De)(f:Af):List De:=I0 hs.reverse [f]
def We.proof{m:List A8}{a:List De}{s:List Af}(h:We m a s)(D:∀f∈s,AM f){f:Af}(r:AM f):dI m s (G7 a f)/\(f∈s->∃t x,G7 a f=t++[x]/\x.2.head=f)/\(f∉s->G7 a f=[]):=by
 have o:∀x∈a,∀g∈x.2.pos,g∈s:=by
  intro x c g b;obtain⟨i,d,rfl⟩:=fj c;obtain⟨_,_,_,_,j,_⟩:=h.each i d;obtain⟨y,v,e⟩:=eH.1 (j g b);exact(h.mem g).2 (eH.2 ⟨y,fR v,e⟩)
 have u:Vg a.reverse:=Z7 a (λi d g b=>by obtain⟨_,_,_,_,j,_⟩:=h.each i d;exact j g b);obtain⟨k,_,w⟩:=SA a.reverse [f] u (List.pairwise_singleton _ _) (λg b=>by simp at b;rw[b];exact r) (λx c g b=>D g (o x (List.mem_reverse.1 c) g b));rw[List.reverse_reverse]at k;refine⟨⟨?_,λA x B e=>?_,λx c=>?_⟩,λl=>?_,λl=>?_⟩
 .exact h.nd.sublist (k.map _)
 .have c:x∈a:=k.subset (by unfold G7 at e;rw[e];simp);obtain⟨i,d,rfl⟩:=fj c;obtain⟨p,σ,n,z,j,q⟩:=h.each i d;exact⟨p,σ,n,z,w A _ B e,q⟩
 .exact(h.mem _).2 (eH.2 ⟨x,k.subset c,rfl⟩)
 .refine QC _ _ ?_;rw[List.map_reverse,List.mem_reverse];exact(h.mem f).1 l
 .refine Ra _ _ ?_;rw[List.map_reverse,List.mem_reverse];exact λC=>l ((h.mem f).2 C)
def J0(c:A8)(f:Af)(s m:List Af):Bool:=
 (BH BM c.head f).2&&((Aj c).foldl (BY s) [(BH BM c.head f).1]).any λe=>(Aj c).all λx=>x.kind==97||Cg (Av e) (AJ e) m x
def Sb{z:List A8}(o:Qw z){c:A8}(n:c∈z)(q:∀t∈c.head.args,Bs t){s m:List Af}(y:∀f∈s,Jp f){σ:UInt8->g0}(S:Mf c σ)(F:∀g∈(CR c σ).pos,g∈s)(P:∀g∈(CR c σ).neg,g∉m)(G:Jp (Bh σ c.head)):J0 c (Bh σ c.head) s m=jj:=by
 have E:∀x∈Aj c,(x.kind==97)=jj->(∀t∈x.A.args,Bs t/\(DU σ t).size≠0)/\Bh σ x.A∈s:=by
  intro x b a;have h:=F (Bh σ x.A) (eH.2 ⟨x,e9.2 ⟨b,a⟩,rfl⟩);exact⟨λt d=>⟨o.args c n x b a t d,y _ h _ (eZ d)⟩,h⟩
 obtain⟨l,p,j⟩:=Hc σ c.head.args BM (DX.start σ) (λt d=>⟨q t d,G _ (eZ d)⟩);have Q:BH BM c.head (Bh σ c.head)=(l,jj):=by
  unfold BH Bh;simp only[eL,beq_self_eq_true,ic,if_true];exact p
 obtain⟨e,k,R⟩:=Hj σ (Aj c) [l] l (by simp) j E;obtain⟨_,_,_,_,C⟩:=C8 y (Aj c) [l] (λe k=>by simp at k;rw[k];exact j.1) (λx b a=>o.args c n x b a) e k;have r:∀t,ES (Aj c) t->AJ e t=DU σ t:=by
  intro t d;rcases d with i|⟨x,b,a,u,w,M⟩
  .unfold AJ DU;rw[eI i,eI i]
  .have p:=(C x b a).2 u w;have j:=R.val (o.args c n x b a u w) p;unfold AJ DU at j⊢;rw[<-M];by_cases i:u.v=0
   .rw[eI i,eI i]
   .rw[eE i,eE i]at j⊢;exact j
 unfold J0;rw[Q];simp only[gq];refine fW.2 ⟨e,k,gN.2 λx b=>?_⟩;cases a:(x.kind==97)with
 |true=>rfl
 |false=>
  obtain⟨H,D⟩:=o.safe c n x b a;rw[ib];cases hk2:(x.kind==33)with
  |true=>
   have N:Av e x.A=Bh σ x.A:=by
    unfold Av Bh
    congr 1
    exact fQ (λt d=>r t (H hk2 t d))
   unfold Cg;rw[a,hk2,eE (by simp),eI rfl,N];cases q:DD m (Bh σ x.A)with
   |false=>rfl
   |true=>exact absurd ((BL _ _).1 q) (P _ (eH.2 ⟨x,e9.2 ⟨b,hk2⟩,rfl⟩))
  |false=>
   have I:=S x b a hk2;rw[PX a hk2 (t:=[])];rw[<-I];obtain⟨B,L⟩:=D hk2;unfold Cg;rw[a,hk2,eE (by simp),eE (by simp),r _ B,r _ L];rfl
theorem Tryz.yW:(Tryz.prog.info? 5).map (λi=>(i.zero,i.size,i.bytes))=V (V (X .u8 0),1,1):=by kernel_rfl
