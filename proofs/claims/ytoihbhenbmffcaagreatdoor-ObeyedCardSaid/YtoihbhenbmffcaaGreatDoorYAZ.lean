import Derived.Test.YtoihbhenbmffcaaGreatDoorYAU
import Derived.Test.YtoihbhenbmffcaaGreatDoorYAX
import Derived.Test.YtoihbhenbmffcaaGreatDoorYAR
set_option linter.all false
set_option maxHeartbeats 0
open List renaming length->Z
open Option renaming none->Y,some->V
open Go.Value renaming slice->U,int->X,string->O,pointer->kt
open Bool renaming false->K,true->j1
open Go.IntKind renaming i64->J,i32->lS
open Go.Obj renaming cells->j2
open Go.Ending renaming returned->lo
open Or renaming inl->lx,inr->ly
open Go renaming World->l9
open Go.RowKit renaming Hid->lO
open Go.World renaming ownsRow->lQ
open ByteArray renaming empty->lU
namespace Go.Proofs.YtoihbhenbmffcaaGreatDoor
open Go.RowKit Go.Proofs.Tryz
def cK(x:Af):mc Af->mc Af
 |[]=>[x]
 |y::m=>if CZ x y then x::y::m else y::cK x m
def A9(s:mc Af)(f:Af):mc Af:=if D9 s f then s else cK f s
def Ef(s:mc Af):Prop:=s.Pairwise λa b=>CZ a b=j1
def Qw(x:Af):∀(l:mc Af),Z (cK x l)=Z l+1
 |[]=>rfl
 |y::m=>by
  rw[cK];split
  .rfl
  .rw[gW,Qw x m,gW]
def Vb(x:Dr):∀(l:mc Dr),(QJ x l).map Dr.f=cK x.f (l.map Dr.f)
 |[]=>rfl
 |y::m=>by
  rw[QJ,ii,cK];split
  .rfl
  .rw[ii,Vb x m]
def bQ(l:mc Dr)(f:Af):cq l f=D9 (l.map Dr.f) f:=by
 unfold cq D9;rw[lk];rfl
def ZM(l:mc Dr)(x:Dr):(Re l x).map Dr.f=A9 (l.map Dr.f) x.f:=by
 unfold Re A9;rw[bQ];split
 .rfl
 .rw[XX,Vb]
def fB(f:Af):Dr:=⟨f,.bool K⟩
def dQ(s:mc Af):(s.map fB).map Dr.f=s:=by
 rw[iX];exact List.map_id s
def Dg{s:mc Af}{f:Af}(u:AJ f)(j:Ef s)(t:∀p∈s,AJ p):Ef (A9 s f)/\(∀p∈A9 s f,AJ p)/\∀g,g∈A9 s f↔g∈s\/g=f:=by
 have m:Gi (s.map fB):=by
  unfold Gi;rw[jQ];exact j
 have k:∀p∈s.map fB,AJ p.f:=by
  intro p d;obtain⟨g,r,rfl⟩:=gX.1 d;exact t g r
 obtain⟨a,b,c⟩:=W7 (l:=s.map fB) (x:=fB f) u m k;have e:=ZM (s.map fB) (fB f);rw[dQ]at e;have o:A9 s f=(Re (s.map fB) (fB f)).map Dr.f:=e.symm;rw[o];refine⟨?_,?_,?_⟩
 .unfold Ef;rw[jQ];exact a
 .intro p d;obtain⟨q,i,rfl⟩:=gX.1 d;exact b q i
 .intro g;have n:=c g;rw[gX,n];constructor
  .rintro (⟨p,d,rfl⟩|h)
   .obtain⟨q,i,rfl⟩:=gX.1 d;exact lx i
   .exact ly h
  .rintro (h|h)
   .exact lx ⟨fB g,it h,rfl⟩
   .exact ly h
def consts(cs:mc A6):mc zA:=cs.flatMap λc=>(c.head.args.filter λt=>t.v==0).map AE.s
structure DP(cs:mc A6)(f:Af):Prop where
 zh:∃c∈cs,f.name=c.head.name/\Z f.args=Z c.head.args
 args:∀x∈f.args,x∈consts cs
def Ic(l:mc zA):Nat->mc (mc zA)
 |0=>[[]]
 |n+1=>l.flatMap λx=>(Ic l n).map (x:: ·)
def UZ(cs:mc A6):mc Af:=cs.flatMap λc=>(Ic (consts cs) (Z c.head.args)).map (Af.mk c.head.name)
def Ni(l:mc zA):∀(m:mc zA),(∀x∈m,x∈l)->m∈Ic l (Z m)
 |[],_=>by simp[Ic]
 |x::m,h=>by
  rw[gW,Ic,iI];exact⟨x,h x (by simp),gX.2 ⟨m,Ni l m (λy a=>h y (by simp[a])),rfl⟩⟩
def DP.mem{cs:mc A6}{f:Af}(h:DP cs f):f∈UZ cs:=by
 obtain⟨c,d,b,a⟩:=h.zh;unfold UZ;rw[iI];refine⟨c,d,gX.2 ⟨f.args,?_,?_⟩⟩
 .rw[<-a];exact Ni _ _ h.args
 .rw[<-b]
def Ju{α:Type}:∀(l m:mc α),l.Nodup->(∀z∈l,z∈m)->Z l<=Z m
 |[],m,_,_=>ik _
 |x::l,m,hn,hs=>by
  rw[jG]at hn;obtain⟨a,b,rfl⟩:=List.append_of_mem (hs x (by simp));have:=Ju l (a++b) hn.2 (λz d=>by
   have c:=hs z (by simp[d])
   rw[ic,gP]at c
   rw[ic]
   rcases c with c|c|c
   .exact lx c
   .subst c;exact absurd d hn.1
   .exact ly c)
  simp only[ib,gW]at this⊢;omega
def Ef.nodup{s:mc Af}(h:Ef s)(c:∀f∈s,AJ f):s.Nodup:=by
 unfold List.Nodup;refine jV (fun{a b} ha hb hab e=>?_) h;subst e;rw[SK (c a ha)]at hab;cases hab
def RP{s t:mc Af}(v:Ef s)(r:Ef t)(cs:∀f∈s,AJ f)(ct:∀f∈t,AJ f)(h:∀f,f∈s↔f∈t):s=t:=by
 have q:(s.map BN).Pairwise λa b=>Cm a b<0:=by
  rw[jQ];exact jV (fun{a b} i hb g=>(DI (cs a i) (cs b hb)).1 g) v
 have p:(t.map BN).Pairwise λa b=>Cm a b<0:=by
  rw[jQ];exact jV (fun{a b} i hb g=>(DI (ct a i) (ct b hb)).1 g) r
 have u:s.map BN=t.map BN:=by
  refine G3 (lt:=λa b=>Cm a b<0) (λa i=>?_) (λa b c g o=>G9 g o) _ _ q p (λx=>?_)
  .have:Cm a a=0:=(F3 a a).2 rfl;omega
  .rw[gX,gX];exact⟨fun⟨f,d,e⟩=>⟨f,(h f).1 d,e⟩,fun⟨f,d,e⟩=>⟨f,(h f).2 d,e⟩⟩
 have n:∀(l m:mc Af),(∀f∈l,AJ f)->(∀f∈m,AJ f)->l.map BN=m.map BN->l=m:=by
  intro l
  induction l with
  |nil=>intro m _ _ e;cases m with|nil=>rfl|cons y m=>simp at e
  |cons x l ih=>
   intro m k j e;cases m with
   |nil=>simp at e
   |cons y m=>
    rw[ii,ii,jB]at e;rw[My (k x (by simp)) (j y (by simp)) e.1,ih m (λf d=>k f (by simp[d])) (λf d=>j f (by simp[d])) e.2]
 exact n s t cs ct u
def PX(cs:mc A6):Prop:=∀c∈cs,∀t∈c.head.args,t.v=0->A3 t.s
def Te{cs:mc A6}(h:PX cs):∀x∈consts cs,A3 x:=by
 intro x a;unfold consts at a;obtain⟨c,e,a⟩:=iI.1 a;obtain⟨t,b,rfl⟩:=gX.1 a;obtain⟨b,d⟩:=ir.1 b;exact h c e t b (by simpa using d)
def DP.canon{cs:mc A6}(h:PX cs){f:Af}(a:DP cs f):AJ f:=λx b=>Te h x (a.args x b)
def AJ.zM{f:Af}(h:AJ f):Kx f:=λx a=>(h x a).size
def Qk{cs:mc A6}(h:TR cs){s:mc Af}(n:∀f∈s,DP cs f)(o:∀f∈s,Kx f){c:A6}(g:c∈cs){e:mc zA}(b:e∈BW (Ak c) s):DP cs (AB e c.head):=by
 refine⟨⟨c,g,rfl,by simp[AB]⟩,λx p=>?_⟩;obtain⟨t,i,rfl⟩:=gX.1 p;unfold BW at b;obtain⟨_,_,_,_,m⟩:=Eo o (Ak c) [Bs] (λe b=>by simp at b;rw[b];rfl) (h.args c g) e (ir.1 b).1;by_cases d:t.v=0
 .unfold AR;rw[gY d];unfold consts;exact iI.2 ⟨c,g,gX.2 ⟨t,ir.2 ⟨i,by rw[d];rfl⟩,rfl⟩⟩
 .rcases h.head c g t i with a|⟨y,k,j,u,l,q⟩
  .exact absurd a d
  .have a:=(n _ (m y k j).1).args (AR e u) (it l);unfold AR at a⊢;rw[q]at a;rw[gV d]at a⊢;exact a
structure Il(cs:mc A6)(zS:zA->Nat)(n:Nat)(s:mc Af):Prop where
 work:Ds (Fi cs) (λf=>zS f.name) n (·∈s)
 zL:Ef s
 zZ:∀f∈s,DP cs f
def Il.start(cs:mc A6)(a:zA->Nat):Il cs a 0 []:=
 ⟨(Ds.start (Fi cs) (λf:Af=>a f.name)).cong _ _ (λf=>by simp),List.Pairwise.nil,λf b=>by simp at b⟩
def Il.len{cs:mc A6}{b:zA->Nat}{n:Nat}{s:mc Af}(c:PX cs)(h:Il cs b n s):Z s<=Z (UZ cs):=
 Ju s (UZ cs) (h.zL.nodup λf a=>(h.zZ f a).canon c) λf a=>(h.zZ f a).mem
structure Oc(cs:mc A6)(zS:zA->Nat):Prop where
 zM:TR cs
 lay:Cn cs zS
 zN:PX cs
def dw{cs:mc A6}{g:zA->Nat}(j:Oc cs g){n:Nat}{i s:mc Af}(p:Il cs g n i)(h:Il cs g n s)(l:∀f∈i,f∈s)(r:∀f∈s,f∈i\/g f.name=n)
  {c:A6} (q:c∈cs) (u:g c.head.name=n) {e:mc zA} (o:e∈BW (Ak c) i):
  Il cs g n (A9 s (AB e c.head))/\(∀f∈i,f∈A9 s (AB e c.head))/\∀f∈A9 s (AB e c.head),f∈i\/g f.name=n:=by
 have t:∀f∈i,Kx f:=λf d=>((p.zZ f d).canon j.zN).zM
 have k:=Qk j.zM p.zZ t q o;obtain⟨a,b,m⟩:=Dg (k.canon j.zN) h.zL (λf d=>(h.zZ f d).canon j.zN);refine⟨⟨?_,a,λf d=>?_⟩,λf d=>(m f).2 (lx (l f d)),λf d=>?_⟩
 .exact(bO j.lay j.zM h.work l r t q u o).cong _ _ (λf=>(m f).symm)
 .rcases(m f).1 d with d|d
  .exact h.zZ f d
  .rw[d];exact k
 .rcases(m f).1 d with d|d
  .exact r f d
  .right;rw[d];exact u
def JQ(c:A6)(a:mc Af×Bool)(e:mc zA):mc Af×Bool:=if D9 a.1 (AB e c.head)then a else(A9 a.1 (AB e c.head),j1)
def Fy(zS:zA->Nat)(n:Nat)(a:mc Af×Bool)(c:A6):mc Af×Bool:=if zS c.head.name=n then(BW (Ak c) a.1).foldl (JQ c) a else a
def IK(cs:mc A6)(zS:zA->Nat)(n:Nat)(s:mc Af):mc Af×Bool:=cs.foldl (Fy zS n) (s,K)
def Qh{cs:mc A6}{b:zA->Nat}(q:Oc cs b){n:Nat}{d:mc Af}(i:Il cs b n d){c:A6}(r:c∈cs)(k:b c.head.name=n):
  ∀(l:mc (mc zA)) (s:mc Af) (m:Bool),(∀e∈l,e∈BW (Ak c) d)->Il cs b n s->(∀f∈d,f∈s)->(∀f∈s,f∈d\/b f.name=n)->
   Il cs b n (l.foldl (JQ c) (s,m)).1/\Z s<=Z (l.foldl (JQ c) (s,m)).1/\
    ((l.foldl (JQ c) (s,m)).2=K->(l.foldl (JQ c) (s,m)).1=s/\m=K/\∀e∈l,AB e c.head∈s)/\
    ((l.foldl (JQ c) (s,m)).2=j1->m=j1\/Z s<Z (l.foldl (JQ c) (s,m)).1)
 |[],s,m,_,h,_,_=>⟨h,ig _,λa=>⟨rfl,a,λe C=>by simp at C⟩,λa=>lx a⟩
 |e::l,s,m,hl,h,hsub,hnew=>by
  rw[iA];have v:∀e∈l,e∈BW (Ak c) d:=λx g=>hl x (by simp[g])
  cases hh:D9 s (AB e c.head)with
  |true=>
   (have p:JQ c (s,m) e=(s,m):=by unfold JQ;rw[hh,gY rfl]);rw[p];obtain⟨o,t,j,u⟩:=Qh q i r k l s m v h hsub hnew;refine⟨o,t,λa=>?_,u⟩;obtain⟨y,D,z⟩:=j a;refine⟨y,D,λx g=>?_⟩;rcases gP.1 g with rfl|g
   .exact(BY _ _).1 hh
   .exact z x g
  |false=>
   (have p:JQ c (s,m) e=(A9 s (AB e c.head),j1):=by unfold JQ;rw[hh,gV (by simp)]);rw[p];obtain⟨w,B,A⟩:=dw q i h hsub hnew r k (hl e (by simp));obtain⟨o,t,j,u⟩:=Qh q i r k l (A9 s (AB e c.head)) j1 v w B A;(have E:Z (A9 s (AB e c.head))=Z s+1:=by unfold A9;rw[hh,gV (by simp),Qw]);refine⟨o,by omega,λa=>?_,λa=>ly (by omega)⟩;have:=(j a).2.1;cases this
def Kb{cs:mc A6}{a:zA->Nat}(z:Oc cs a){n:Nat}:
  ∀(b:mc A6) (s:mc Af) (m:Bool),(∀c∈b,c∈cs)->Il cs a n s->
   Il cs a n (b.foldl (Fy a n) (s,m)).1/\Z s<=Z (b.foldl (Fy a n) (s,m)).1/\
    ((b.foldl (Fy a n) (s,m)).2=K->(b.foldl (Fy a n) (s,m)).1=s/\m=K/\∀c∈b,a c.head.name=n->∀e∈BW (Ak c) s,AB e c.head∈s)/\
    ((b.foldl (Fy a n) (s,m)).2=j1->m=j1\/Z s<Z (b.foldl (Fy a n) (s,m)).1)
 |[],s,m,_,h=>⟨h,ig _,λg=>⟨rfl,g,λc L=>by simp at L⟩,λg=>lx g⟩
 |c::b,s,m,hd,h=>by
  rw[iA];have G:∀c∈b,c∈cs:=λx d=>hd x (by simp[d])
  by_cases k:a c.head.name=n
  ·(have y:Fy a n (s,m) c=(BW (Ak c) s).foldl (JQ c) (s,m):=by unfold Fy;rw[gY k]);rw[y];obtain⟨l,F,q,A⟩:=Qh z h (hd c (by simp)) k (BW (Ak c) s) s m (λe i=>i) h (λf t=>t) (λf t=>lx t);generalize(BW (Ak c) s).foldl (JQ c) (s,m)=r at l F q A⊢;obtain⟨s1,I⟩:=r;simp only at l F q A;obtain⟨w,D,u,v⟩:=Kb z b s1 I G l;refine⟨w,by omega,λg=>?_,λg=>?_⟩
   .obtain⟨o,B,p⟩:=u g;obtain⟨H,q2,q3⟩:=q B;subst H;refine⟨o,q2,λx d j e i=>?_⟩;rcases gP.1 d with rfl|d
    .exact q3 e i
    .exact p x d j e i
   .rcases v g with E|E
    .rcases A E with C|C
     .exact lx C
     .exact ly (by omega)
    .exact ly (by omega)
  ·(have y:Fy a n (s,m) c=(s,m):=by unfold Fy;rw[gV k]);rw[y];obtain⟨w,D,u,v⟩:=Kb z b s m G h;refine⟨w,D,λg=>?_,v⟩;obtain⟨o,B,p⟩:=u g;refine⟨o,B,λx d j e i=>?_⟩;rcases gP.1 d with rfl|d
   .exact absurd j k
   .exact p x d j e i
def OW{cs:mc A6}{a:zA->Nat}(b:Oc cs a){n:Nat}{s:mc Af}(h:Il cs a n s):
  Il cs a n (IK cs a n s).1/\((IK cs a n s).2=K->(IK cs a n s).1=s/\Il cs a (n+1) s)/\
   ((IK cs a n s).2=j1->Z s<Z (IK cs a n s).1)/\Z (IK cs a n s).1<=Z (UZ cs):=by
 unfold IK;obtain⟨g,p,k,l⟩:=Kb b cs s K (λc o=>o) h;refine⟨g,λd=>?_,λd=>?_,g.len b.zN⟩
 .obtain⟨j,_,m⟩:=k d;exact⟨j,ZO b.zM h.work (λf i=>((h.zZ f i).canon b.zN).zM) m,h.zL,h.zZ⟩
 .rcases l d with e|e
  .cases e
  .exact e
def dz{cs:mc A6}{d e:zA->Nat}(j:Oc cs d)(h:Oc cs e){i k:Nat}{s t:mc Af}(a:Il cs d i s)(g:Il cs e k t)(l:∀c∈cs,d c.head.name<i)(m:∀c∈cs,e c.head.name<k):s=t:=
 RP a.zL g.zL (λf b=>(a.zZ f b).canon j.zN) (λf b=>(g.zZ f b).canon h.zN) (cn j.lay h.lay a.work g.work l m)
def ZK{s:zA}{cs:mc A6}(h:(Ap s (Ae s 0)).2.2=K)(d:cs.map A6.erase=(Ap s (Ae s 0)).1)(e:Cp cs=(0,0)):Oc cs (DH cs 6):=by
 have b:=SD e;refine⟨b.zM (WN h d),b.levels,λc i t g f=>?_⟩;rcases(KL h d c i).1.args t g with⟨_,a⟩|a
 .exact a
 .rw[f]at a;exact absurd a.1 (by decide)
def Bm(x:Bi):mc AE:=if(x.kind==97||x.kind==33)=j1 then x.A.args else[x.L,x.R]
def Di(e:mc zA)(ts:mc AE):Bool:=ts.all λt=> !Tj (AR e t)
def DL(body:mc Bi)(s:mc Af)(e:mc zA):Bool:=body.any λx=>Di e (Bm x)&& !CH (AB e) (AR e) s x
def Av(al:UInt8->mc zA->mc zA)(body:mc Bi)(s:mc Af):mc UInt8->mc zA->mc (mc zA)
 |[],e=>if DL body s e then[] else[e]
 |v::vs,e=>if DL body s e then[] else(al v e).flatMap λt=>Av al body s vs (e.set (v.toNat-65) t)
def OI(e:mc zA)(v:UInt8):zA:=e.getD (v.toNat-65) lU
def Ed(v:UInt8):Prop:=65<=v.toNat/\v.toNat<=90
def Kj{e:mc zA}{v:UInt8}(d:Z e=26)(a:Ed v)(t:zA):OI (e.set (v.toNat-65) t) v=t:=by
 unfold OI;obtain⟨b,c⟩:=a;rw[ia,jc (by omega)];rfl
def cw{e:mc zA}{u v:UInt8}(c:Ed u)(b:Ed v)(h:u≠v)(t:zA):OI (e.set (v.toNat-65) t) u=OI e u:=by
 unfold OI;have a:v.toNat-65≠u.toNat-65:=by
  intro f;obtain⟨i,d⟩:=c;obtain⟨j,g⟩:=b;exact h (jp.1 (by omega))
 rw[ia,iO a,<-ia]
def BG{al:UInt8->mc zA->mc zA}{k:mc Bi}{s:mc Af}(j:∀v e,∀t∈al v e,t.size≠0):
  ∀(d:mc UInt8) (e b:mc zA),Z e=26->(∀v∈d,Ed v)->b∈Av al k s d e->
   Z b=26/\DL k s b=K/\(∀u,Ed u->u∉d->OI b u=OI e u)/\∀v∈d,(OI b v).size≠0
 |[],e,b,he,_,a=>by
  rw[Av]at a;split at a
  .simp at a
  .rename_i m;rw[gN]at a;subst a;exact⟨he,by simpa using m,λ_ _ _=>rfl,λv f=>by simp at f⟩
 |v::d,e,b,he,f,a=>by
  rw[Av]at a;split at a
  .simp at a
  .obtain⟨t,q,a⟩:=iI.1 a;have i:=f v (by simp);obtain⟨p,n,l,o⟩:=BG j d (e.set (v.toNat-65) t) b (by simp[he]) (λu c=>f u (by simp[c])) a;refine⟨p,n,λu c h=>?_,λu c=>?_⟩
   .rw[gP,not_or]at h;rw[l u c h.2,cw c i h.1]
   .by_cases g:u∈d
    .exact o u g
    .rcases gP.1 c with rfl|c
     .rw[l u i g,Kj he i];exact j _ _ t q
     .exact absurd c g
def KU(x:Bi):Prop:=∀t∈Bm x,BK t
def Do.ye{x:Bi}(h:Do x):KU x:=by
 intro t a;unfold Do at h;unfold Bm at a;split at h
 .rename_i b;rw[gY b]at a;exact(h.args t a).zM
 .rename_i b;rw[gV b]at a;rcases gP.1 a with rfl|a
  .exact h.1.zM
  .rw[gN]at a;subst a;exact h.2.1.zM
def G6{e:mc zA}{σ:UInt8->zA}{s:mc Af}{x:Bi}(h:∀t∈Bm x,AR e t=Eb σ t):CH (AB e) (AR e) s x=CH (Bu σ) (Eb σ) s x:=by
 unfold Bm at h;by_cases a:(x.kind==97||x.kind==33)=j1
 .rw[gY a]at h;have c:AB e x.A=Bu σ x.A:=by
   unfold AB Bu;rw[iY h]
  unfold CH;rw[c];rw[jx]at a;rcases a with a|a
  .rw[gY a,gY a]
  .by_cases b:(x.kind==97)=j1
   .rw[gY b,gY b]
   .rw[gV b,gV b,gY a,gY a]
 .rw[gV a]at h;have f:=h x.L (by simp);have d:=h x.R (by simp);rw[jx,not_or]at a;unfold CH;rw[gV a.1,gV a.1,gV a.2,gV a.2,f,d]
def SN{b:mc Bi}{s:mc Af}(j:∀x∈b,KU x){σ:UInt8->zA}(g:∀x∈b,CH (Bu σ) (Eb σ) s x=j1){e:mc zA}(h:D4 e σ):DL b s e=K:=by
 unfold DL;rw[ju];intro x f a;rw[iq]at a;have i:∀t∈Bm x,AR e t=Eb σ t:=by
  intro t d;have c:=(ji.1 a.1) t d;refine h.val (j x f t d) (λk=>?_);rw[(DC _).2 k]at c;cases c
 rw[G6 i,g x f]at a;simp at a
def Xz(al:UInt8->mc zA->mc zA)(body:mc Bi)(s:mc Af):Prop:=
 ∀(v:UInt8) (e:mc zA) (σ:UInt8->zA),Ed v->D4 e σ->(∀x∈body,CH (Bu σ) (Eb σ) s x=j1)->(∃x∈body,(x.kind==97)=j1/\∃u∈x.A.args,u.v=v)->σ v∈al v e
def GH{al:UInt8->mc zA->mc zA}{f:mc Bi}{s:mc Af}(k:∀x∈f,KU x)(m:Xz al f s){σ:UInt8->zA}(g:∀x∈f,CH (Bu σ) (Eb σ) s x=j1):
  ∀(d:mc UInt8) (e:mc zA),D4 e σ->(∀v∈d,Ed v/\∃x∈f,(x.kind==97)=j1/\∃u∈x.A.args,u.v=v)->
   ∃b∈Av al f s d e,D4 b σ/\(∀v∈d,OI b v=σ v)/\∀u,Ed u->OI e u=σ u->OI b u=σ u
 |[],e,ha,_=>by
  refine⟨e,?_,ha,λv i=>by simp at i,λu _ h=>h⟩;rw[Av,SN k g ha];simp
 |v::d,e,ha,i=>by
  obtain⟨c,r⟩:=i v (by simp);obtain⟨b,p,n,q,j⟩:=GH k m g d (e.set (v.toNat-65) (σ v)) (ha.set c.1 c.2) (λu a=>i u (by simp[a]));refine⟨b,?_,n,λu a=>?_,λu a o=>?_⟩
  .rw[Av,SN k g ha];rw[gV (by simp)];exact iI.2 ⟨σ v,m v e σ c ha g r,p⟩
  .rcases gP.1 a with rfl|a
   .exact j u c (Kj ha.1 c _)
   .exact q u a
  .by_cases l:u=v
   .subst l;exact j u a (Kj ha.1 c _)
   .exact j u a (by rw[cw a c l];exact o)
def QT(al:UInt8->mc zA->mc zA)(c:A6)(hv rv:mc UInt8)(s:mc Af):mc Af:=
 ((Av al (Ak c) s hv Bs).filter λb=> !D9 s (AB b c.head)&& !(Av al (Ak c) s rv b).isEmpty).map λb=>AB b c.head
structure Rc(c:A6)(hv rv:mc UInt8):Prop where
 ok:∀v,v∈hv\/v∈rv->Ed v/\∃x∈Ak c,(x.kind==97)=j1/\∃u∈x.A.args,u.v=v
 apart:∀v∈hv,v∉rv
 head:∀t∈c.head.args,t.v=0\/t.v∈hv
 body:∀x∈Ak c,∀t∈Bm x,t.v=0\/t.v∈hv\/t.v∈rv
 lits:∀x∈Ak c,KU x
def Eh{e:mc zA}{t:AE}(h:t.v≠0):AR e t=OI e t.v:=by
 unfold AR OI;rw[gV h]
def SA{al:UInt8->mc zA->mc zA}{c:A6}{m k:mc UInt8}{s:mc Af}(g:Rc c m k)(w:∀v e,∀t∈al v e,t.size≠0){f:Af}(p:f∈QT al c m k s):
  f∉s/\∃σ,(∀x∈Ak c,CH (Bu σ) (Eb σ) s x=j1)/\f=Bu σ c.head:=by
 unfold QT at p;obtain⟨b,n,rfl⟩:=gX.1 p;obtain⟨n,y⟩:=ir.1 n;rw[iq]at y;obtain⟨z,q⟩:=y;refine⟨λh=>?_,?_⟩
 .rw[(BY _ _).2 h]at z;cases z
 .obtain⟨a,E⟩:∃a,a∈Av al (Ak c) s k b:=by
   cases hl:Av al (Ak c) s k b with
   |nil=>rw[hl]at q;simp at q
   |cons x l=>exact⟨x,by simp⟩
  obtain⟨F,_,_,G⟩:=BG w m Bs b rfl (λv i=>(g.ok v (lx i)).1) n;obtain⟨I,r,D,H⟩:=BG w k b a F (λv i=>(g.ok v (ly i)).1) E;have u:∀v∈m,OI a v=OI b v:=λv i=>D v (g.ok v (lx i)).1 (g.apart v i)
  refine⟨Iv a,λx o=>?_,?_⟩
  .have C:Di a (Bm x)=j1:=by
    unfold Di;rw[ji];intro t j;have B:(AR a t).size≠0:=by
     by_cases d:t.v=0
     .rcases g.lits x o t j with h|h
      .unfold AR;rw[gY d];exact h.2
      .rw[d]at h;exact absurd h.1 (by decide)
     .rw[Eh d];rcases g.body x o t j with h|h|h
      .exact absurd h d
      .rw[u _ h];exact G _ h
      .exact H _ h
    cases hE:Tj (AR a t)with
    |false=>rfl
    |true=>exact absurd ((DC _).1 hE) B
   have A:CH (AB a) (AR a) s x=j1:=by
    unfold DL at r;have:=(ju.1 r) x o;rw[C,jq]at this;simpa using this
   rw[<-G6 (e:=a) (σ:=Iv a) (λt j=>(Gl a t).symm)];exact A
  .unfold AB Bu
   congr 1
   refine iY (λt j=>?_);rw[Gl];by_cases d:t.v=0
   .unfold AR;rw[gY d,gY d]
   .rw[Eh d,Eh d];rcases g.head t j with h|h
    .exact absurd h d
    .exact(u _ h).symm
def bK{al:UInt8->mc zA->mc zA}{c:A6}{f e:mc UInt8}{s:mc Af}(a:Rc c f e)(m:Xz al (Ak c) s){σ:UInt8->zA}(k:∀x∈Ak c,CH (Bu σ) (Eb σ) s x=j1):
  Bu σ c.head∈s\/Bu σ c.head∈QT al c f e s:=by
 obtain⟨b,q,o,n,_⟩:=GH a.lits m k f Bs (D4.start σ) (λv h=>a.ok v (lx h));have g:AB b c.head=Bu σ c.head:=by
  unfold AB Bu
  congr 1
  refine iY (λt p=>?_);by_cases d:t.v=0
  .unfold AR Eb;rw[gY d,gY d]
  .rw[Eh d];unfold Eb;rw[gV d];rcases a.head t p with h|h
   .exact absurd h d
   .exact n _ h
 by_cases i:Bu σ c.head∈s
 .exact lx i
 .right;obtain⟨r,j,_⟩:=GH a.lits m k e b o (λv h=>a.ok v (ly h));unfold QT;refine gX.2 ⟨b,ir.2 ⟨q,?_⟩,g⟩;rw[iq];refine⟨?_,?_⟩
  .rw[g];cases hh:D9 s (Bu σ c.head)with
   |false=>rfl
   |true=>exact absurd ((BY _ _).1 hh) i
  .cases hl:Av al (Ak c) s e b with
   |nil=>rw[hl]at j;simp at j
   |cons x l=>rfl
def P6(e:mc zA)(ts:mc AE)(xs:mc zA):Bool:=(ts.zip xs).all λp=>Tj (AR e p.1)||(AR e p.1).toList==p.2.toList
def Gj(s:mc Af)(A:Df)(i:Nat)(e:mc zA):mc zA:=(s.filter λf=>(f.name.toList==A.name.toList)&&P6 e A.args f.args).map λf=>f.args.getD i lU
def CA(body:mc Bi)(s:mc Af)(v:UInt8)(e:mc zA):mc (mc zA):=
 body.filterMap λx=>if x.kind==97 then(x.A.args.findIdx? λt=>t.v==v).map λi=>Gj s x.A i e else Y
def Oy(al:UInt8->mc zA->mc zA)(body:mc Bi)(s:mc Af):Prop:=∀v e t,t∈al v e↔CA body s v e≠[]/\∀l∈CA body s v e,t∈l
def VC{e:mc zA}{σ:UInt8->zA}(b:D4 e σ):∀(a:mc AE),(∀t∈a,BK t)->P6 e a (a.map (Eb σ))=j1
 |[],_=>rfl
 |t::a,hg=>by
  have ih:=VC b a (λu c=>hg u (by simp[c]));unfold P6 at ih⊢;rw[ii,ln,kH,ih,Bool.and_true];cases hz:Tj (AR e t)with
  |true=>rfl
  |false=>
   rw[kp,b.val (hg t (by simp)) (λh=>by rw[(DC _).2 h]at hz;cases hz)];simp
def Rq{al:UInt8->mc zA->mc zA}{d:mc Bi}{s:mc Af}(y:Oy al d s)(p:∀x∈d,KU x):Xz al d s:=by
 intro v e σ k E D o;rw[y];refine⟨λf=>?_,λl j=>?_⟩
 .obtain⟨x,c,b,u,w,z⟩:=o;unfold CA at f;rw[List.filterMap_eq_nil_iff]at f;have a:=f x c;rw[gY b,Option.map_eq_none_iff,List.findIdx?_eq_none_iff]at a;have:=a u w;rw[z]at this;simp at this
 .unfold CA at j;obtain⟨x,c,a⟩:=jy.1 j;by_cases b:(x.kind==97)=j1
  .rw[gY b,kF]at a;obtain⟨i,C,rfl⟩:=a;obtain⟨m,B,_⟩:=jL.1 C;(have q:v≠0:=λh=>by rw[h]at k;exact absurd k.1 (by decide));(have g:x.A.args[i].v=v:=by simpa using B);have r:Bu σ x.A∈s:=by
    have:=D x c;unfold CH at this;rw[gY b]at this;exact(BY _ _).1 this
   unfold Gj;refine gX.2 ⟨Bu σ x.A,ir.2 ⟨r,?_⟩,?_⟩
   .rw[iq];refine⟨by simp[Bu],VC E x.A.args (λt n=>p x c t ?_)⟩;unfold Bm;rw[b,kN,gY rfl];exact n
   .unfold Bu;simp only;rw[ia,jf,gS m];simp only[jC,Option.getD_some];unfold Eb;rw[gV (by rw[g];exact q),g]
  .rw[gV b]at a;cases a
def di{al:UInt8->mc zA->mc zA}{b:mc Bi}{s:mc Af}(w:Oy al b s)(u:∀f∈s,Kx f)(r:∀f∈s,∀x∈b,(x.kind==97)=j1->f.name=x.A.name->Z f.args=Z x.A.args):∀v e,∀t∈al v e,t.size≠0:=by
 intro v e t q;obtain⟨B,C⟩:=(w v e t).1 q;obtain⟨l,g⟩:∃l,l∈CA b s v e:=by
  cases h:CA b s v e with
  |nil=>exact absurd h B
  |cons a m=>exact⟨a,by simp⟩
 have n:=C l g;unfold CA at g;obtain⟨x,z,c⟩:=jy.1 g;by_cases d:(x.kind==97)=j1
 .rw[gY d,kF]at c;obtain⟨i,y,rfl⟩:=c;obtain⟨D,_,_⟩:=jL.1 y;unfold Gj at n;obtain⟨f,p,rfl⟩:=gX.1 n;obtain⟨k,o⟩:=ir.1 p;rw[iq]at o;have E:=r f k x z d (toList_inj (by simpa using o.1));have j:i<Z f.args:=by omega
  rw[ia,gS j];exact u f k _ (gL j)
 .rw[gV d]at c;cases c
def XV{cs:mc A6}{e:zA->Nat}(l:Oc cs e){n:Nat}{j s:mc Af}(E:Il cs e n j)(h:Il cs e n s)(D:∀f∈j,f∈s)(z:∀f∈s,f∈j\/e f.name=n)
  {c:A6} (q:c∈cs) (r:e c.head.name=n) {σ:UInt8->zA} (C:∀x∈Ak c,CH (Bu σ) (Eb σ) j x=j1):
  Il cs e n (A9 s (Bu σ c.head))/\(∀f∈j,f∈A9 s (Bu σ c.head))/\(∀f∈A9 s (Bu σ c.head),f∈j\/e f.name=n):=by
 have A:DP cs (Bu σ c.head):=by
  refine⟨⟨c,q,rfl,by simp[Bu]⟩,λx P=>?_⟩;obtain⟨t,w,rfl⟩:=gX.1 P;by_cases p:t.v=0
  .unfold Eb;rw[gY p];unfold consts;exact iI.2 ⟨c,q,gX.2 ⟨t,ir.2 ⟨w,by rw[p];rfl⟩,rfl⟩⟩
  .rcases l.zM.head c q t w with G|⟨y,I,F,u,L,N⟩
   .exact absurd G p
   .have i:=C y I;unfold CH at i;rw[gY F,BY]at i;have k:=(E.zZ _ i).args (Eb σ u) (it L);unfold Eb at k⊢;rw[N]at k;rw[gV p]at k⊢;exact k
 obtain⟨a,b,m⟩:=Dg (A.canon l.zN) h.zL (λf d=>(h.zZ f d).canon l.zN);have i:=(FJ c σ j).1 C;have B:Fi cs (CI c σ):=⟨c,q,σ,i.2,rfl⟩;have H:=h.work.step (Fi cs) (λf=>e f.name) l.lay.zX B r ⟨λg o=>D g (i.1.1 g o),λg o M=>by
  rcases z g M with h|h
  .exact i.1.2 g o h
  .have k:e g.name<e (CI c σ).head.name:=l.lay.zX.neg _ B g o
   have Q:e (CI c σ).head.name=n:=r
   omega⟩
 refine⟨⟨H.cong _ _ (λf=>(m f).symm),a,λf d=>?_⟩,λf d=>(m f).2 (lx (D f d)),λf d=>?_⟩
 .rcases(m f).1 d with d|d
  .exact h.zZ f d
  .rw[d];exact A
 .rcases(m f).1 d with d|d
  .exact z f d
  .right;rw[d];exact r
def Kn(s:mc Af)(f:Af):Z s<=Z (A9 s f)/\(f∉s->Z (A9 s f)=Z s+1):=by
 unfold A9;cases hh:D9 s f with
 |true=>rw[gY rfl];exact⟨ig _,λh=>absurd ((BY _ _).1 hh) h⟩
 |false=>rw[gV (by simp),Qw];exact⟨by omega,λ_=>rfl⟩
def Kt{cs:mc A6}{a:zA->Nat}(d:Oc cs a){n:Nat}{b:mc Af}(e:Il cs a n b){c:A6}(i:c∈cs)(j:a c.head.name=n):
  ∀(l:mc Af) (s:mc Af),(∀f∈l,∃σ,(∀x∈Ak c,CH (Bu σ) (Eb σ) b x=j1)/\f=Bu σ c.head)->Il cs a n s->(∀f∈b,f∈s)->(∀f∈s,f∈b\/a f.name=n)->
   Il cs a n (l.foldl A9 s)/\Z s<=Z (l.foldl A9 s)
 |[],s,_,h,_,_=>⟨h,ig _⟩
 |f::l,s,hl,h,hsub,hnew=>by
  obtain⟨σ,q,rfl⟩:=hl f (by simp);obtain⟨k,o,p⟩:=XV d e h hsub hnew i j q;obtain⟨m,t⟩:=Kt d e i j l _ (λg r=>hl g (by simp[r])) k o p;rw[iA];have:=(Kn s (Bu σ c.head)).1;exact⟨m,by omega⟩
structure Vl where
 hv:A6->mc UInt8
 rv:A6->mc UInt8
 al:A6->mc Af->UInt8->mc zA->mc zA
def Vl.new(W:Vl)(c:A6)(s:mc Af):mc Af:=QT (W.al c s) c (W.hv c) (W.rv c) s
def Jh(W:Vl)(a:mc Af×Bool)(c:A6):mc Af×Bool:=((W.new c a.1).foldl A9 a.1,a.2|| !(W.new c a.1).isEmpty)
def Fv(W:Vl)(ds:mc A6)(s:mc Af):mc Af×Bool:=ds.foldl (Jh W) (s,K)
structure Q0(W:Vl)(cs:mc A6):Prop where
 parts:∀c∈cs,Rc c (W.hv c) (W.rv c)
 al:∀c∈cs,∀s,Oy (W.al c s) (Ak c) s
 arity:∀c∈cs,∀d∈cs,∀x∈Ak d,(x.kind==97)=j1->c.head.name=x.A.name->Z c.head.args=Z x.A.args
def Q0.sizes{W:Vl}{cs:mc A6}{b:zA->Nat}(g:Q0 W cs)(l:Oc cs b)(r:∀c∈cs,∀d∈cs,c.head.name=d.head.name->Z c.head.args=Z d.head.args){n:Nat}{s:mc Af}(h:Il cs b n s){c:A6}(i:c∈cs):∀v e,∀t∈W.al c s v e,t.size≠0:=by
 refine di (g.al c i s) (λf a=>((h.zZ f a).canon l.zN).zM) (λf a x p k q=>?_);obtain⟨d,j,o,m⟩:=(h.zZ f a).zh;rw[m];exact g.arity d j c i x p k (by rw[<-o];exact q)
def No{W:Vl}{cs:mc A6}{o:zA->Nat}(p:Q0 W cs)(j:Oc cs o)(q:∀c∈cs,∀d∈cs,c.head.name=d.head.name->Z c.head.args=Z d.head.args){n:Nat}:
  ∀(b:mc A6) (s:mc Af) (m:Bool),(∀c∈b,c∈cs/\o c.head.name=n)->Il cs o n s->
   Il cs o n (b.foldl (Jh W) (s,m)).1/\Z s<=Z (b.foldl (Jh W) (s,m)).1/\
    ((b.foldl (Jh W) (s,m)).2=K->(b.foldl (Jh W) (s,m)).1=s/\m=K/\∀c∈b,W.new c s=[])/\
    ((b.foldl (Jh W) (s,m)).2=j1->m=j1\/Z s<Z (b.foldl (Jh W) (s,m)).1)
 |[],s,m,_,h=>⟨h,ig _,λe=>⟨rfl,e,λc i=>by simp at i⟩,λe=>lx e⟩
 |c::b,s,m,hd,h=>by
  rw[iA];have A:∀c∈b,c∈cs/\o c.head.name=n:=λx k=>hd x (by simp[k])
  obtain⟨i,u⟩:=hd c (by simp);have r:∀f∈W.new c s,f∉s/\∃σ,(∀x∈Ak c,CH (Bu σ) (Eb σ) s x=j1)/\f=Bu σ c.head:=λf a=>SA (p.parts c i) (p.sizes j q h i) a
  obtain⟨B,N⟩:=Kt j h i u (W.new c s) s (λf a=>(r f a).2) h (λf a=>a) (λf a=>lx a);cases hl:W.new c s with
  |nil=>
   (have w:Jh W (s,m) c=(s,m):=by unfold Jh;simp only;rw[hl];simp);rw[w];obtain⟨v,y,t,z⟩:=No p j q b s m A h;refine⟨v,y,λe=>?_,z⟩;obtain⟨C,H,D⟩:=t e;refine⟨C,H,λx k=>?_⟩;rcases gP.1 k with rfl|k
   .exact hl
   .exact D x k
  |cons f l=>
   have a:=r f (by rw[hl];simp);(have w:Jh W (s,m) c=((W.new c s).foldl A9 s,j1):=by unfold Jh;simp only;rw[hl];simp);rw[w];obtain⟨v,y,t,z⟩:=No p j q b _ j1 A B;have M:Z s<Z ((W.new c s).foldl A9 s):=by
    rw[hl,iA];have L:=(Kn s f).2 a.1;obtain⟨σ,G,rfl⟩:=a.2;obtain⟨F,q2,q3⟩:=XV j h h (λf a=>a) (λf a=>lx a) i u G;have I:=(Kt j h i u l _ (λg E=>(r g (by rw[hl];simp[E])).2) F q2 q3).2;omega
   refine⟨v,by omega,λe=>?_,λe=>ly (by omega)⟩;have:=(t e).2.1;cases this
def Zq{W:Vl}{cs:mc A6}{a:zA->Nat}(j:Q0 W cs)(p:Oc cs a)(u:∀c∈cs,∀d∈cs,c.head.name=d.head.name->Z c.head.args=Z d.head.args){n:Nat}{ds:mc A6}(l:∀c,c∈ds↔c∈cs/\a c.head.name=n){s:mc Af}(h:Il cs a n s):
  Il cs a n (Fv W ds s).1/\((Fv W ds s).2=K->(Fv W ds s).1=s/\Il cs a (n+1) s)/\
   ((Fv W ds s).2=j1->Z s<Z (Fv W ds s).1)/\Z (Fv W ds s).1<=Z (UZ cs):=by
 unfold Fv;obtain⟨o,z,v,w⟩:=No j p u ds s K (λc b=>(l c).1 b) h;refine⟨o,λk=>?_,λk=>?_,o.len p.zN⟩
 .obtain⟨q,_,r⟩:=v k;refine⟨q,h.work.next (Fi cs) (λf=>a f.name) ?_,h.zL,h.zZ⟩;rintro i ⟨c,b,σ,y,rfl⟩ x t;have e:=(FJ c σ s).2 ⟨t,y⟩;rcases bK (j.parts c b) (Rq (j.al c b s) (j.parts c b).lits) e with g|g
  .exact g
  .have m:W.new c s=[]:=r c ((l c).2 ⟨b,x⟩);unfold Vl.new at m;rw[m]at g;simp at g
 .rcases w k with e|e
  .cases e
  .exact e
def FD(L:zA->Nat)(n:Nat)(x:Bi):Nat:=if x.kind==97 then max n (L x.A.name)else if x.kind==33 then max n (L x.A.name+1)else n
def Gx(L:zA->Nat)(body:mc Bi):Nat:=body.foldl (FD L) 0
def OJ(L:zA->Nat)(k:zA)(n:Nat):zA->Nat:=λx=>if x.toList==k.toList then n else L x
def En(a:(zA->Nat)×Bool)(c:A6):(zA->Nat)×Bool:=if a.1 c.head.name<Gx a.1 (Ak c)then(OJ a.1 c.head.name (Gx a.1 (Ak c)),j1)else a
def Ld(cs:mc A6)(L:zA->Nat):(zA->Nat)×Bool:=cs.foldl En (L,K)
def Ea(cs:mc A6)(L:zA->Nat):Nat:=(cs.map λc=>L c.head.name).sum
def GQ(L:zA->Nat)(k:zA)(n:Nat):OJ L k n k=n:=by unfold OJ;simp
def I0{L:zA->Nat}{k x:zA}(n:Nat)(h:x≠k):OJ L k n x=L x:=by
 unfold OJ;rw[gV (λa=>h (toList_inj (by simpa using a)))]
def Nm(L:zA->Nat):∀(a:mc Bi) (n:Nat),n<=a.foldl (FD L) n/\∀x∈a,((x.kind==97)=j1->L x.A.name<=a.foldl (FD L) n)/\((x.kind==33)=j1->L x.A.name<a.foldl (FD L) n)
 |[],n=>⟨ig _,λx c=>by simp at c⟩
 |y::a,n=>by
  rw[iA];obtain⟨k,i⟩:=Nm L a (FD L n y);have e:n<=FD L n y/\((y.kind==97)=j1->L y.A.name<=FD L n y)/\((y.kind==33)=j1->L y.A.name<FD L n y):=by
   unfold FD;by_cases b:(y.kind==97)=j1
   .rw[gY b];refine⟨by omega,λ_=>by omega,λj=>?_⟩;(have g:y.kind=97:=by simpa using b);(have f:y.kind=33:=by simpa using j);rw[g]at f;exact absurd f (by decide)
   .rw[gV b];by_cases d:(y.kind==33)=j1
    .rw[gY d];exact⟨by omega,λh=>absurd h b,λ_=>by omega⟩
    .rw[gV d];exact⟨by omega,λh=>absurd h b,λh=>absurd h d⟩
  refine⟨by omega,λx c=>?_⟩;rcases gP.1 c with rfl|c
  .exact⟨λh=>by have:=e.2.1 h;omega,λh=>by have:=e.2.2 h;omega⟩
  .exact i x c
def MZ{L:zA->Nat}{b:Nat}:∀(a:mc Bi) (n:Nat),n<=b->(∀x∈a,((x.kind==97)=j1->L x.A.name<=b)/\((x.kind==33)=j1->L x.A.name<b))->a.foldl (FD L) n<=b
 |[],n,hn,_=>hn
 |y::a,n,hn,h=>by
  rw[iA];refine MZ a _ ?_ (λx g=>h x (by simp[g]));obtain⟨f,e⟩:=h y (by simp);unfold FD;by_cases c:(y.kind==97)=j1
  .rw[gY c];have:=f c;omega
  .rw[gV c];by_cases d:(y.kind==33)=j1
   .rw[gY d];have:=e d;omega
   .rw[gV d];exact hn
def Xu{cs:mc A6}{L a:zA->Nat}(h:∀x,L x<=a x):Ea cs L<=Ea cs a:=by
 unfold Ea
 induction cs with
 |nil=>simp
 |cons c cs ih=>
  simp only[ii,List.sum_cons];have:=h c.head.name;omega
def cS{cs:mc A6}{L b:zA->Nat}(h:∀x,L x<=b x){c:A6}(a:c∈cs)(f:L c.head.name<b c.head.name):Ea cs L<Ea cs b:=by
 induction cs with
 |nil=>simp at a
 |cons d cs ih=>
  have i:=h d.head.name;have g:=Xu (cs:=cs) h;have e:∀M,Ea (d::cs) M=M d.head.name+Ea cs M:=λM=>by unfold Ea;simp
  rw[e,e];rcases gP.1 a with rfl|a
  .omega
  .have:=ih a;omega
def Jo{cs:mc A6}{f:zA->Nat}(i:Cn cs f):∀(b:mc A6) (L:zA->Nat) (m:Bool),(∀c∈b,c∈cs)->(∀x,L x<=f x)->
  (∀x,L x<=(b.foldl En (L,m)).1 x)/\(∀x,(b.foldl En (L,m)).1 x<=f x)/\
   ((b.foldl En (L,m)).2=K->(b.foldl En (L,m)).1=L/\m=K/\∀c∈b,Gx L (Ak c)<=L c.head.name)/\
   ((b.foldl En (L,m)).2=j1->m=j1\/Ea cs L<Ea cs (b.foldl En (L,m)).1)
 |[],L,m,_,h=>⟨λx=>ig _,h,λd=>⟨rfl,d,λc g=>by simp at g⟩,λd=>lx d⟩
 |c::b,L,m,hd,h=>by
  rw[iA];have r:∀c∈b,c∈cs:=λx a=>hd x (by simp[a])
  have g:=hd c (by simp);by_cases o:L c.head.name<Gx L (Ak c)
  ·(have n:En (L,m) c=(OJ L c.head.name (Gx L (Ak c)),j1):=by unfold En;rw[gY o]);rw[n];have p:∀x,L x<=OJ L c.head.name (Gx L (Ak c)) x:=by
    intro x;by_cases a:x=c.head.name
    .subst a;rw[GQ];omega
    .rw[I0 _ a];exact ig _
   have u:Gx L (Ak c)<=f c.head.name:=by
    refine MZ _ _ (ik _) (λx a=>⟨λk=>?_,λk=>?_⟩)
    .exact iQ (h _) (i.pos c g x a k)
    .exact Nat.lt_of_le_of_lt (h _) (i.neg c g x a k)
   have w:∀x,OJ L c.head.name (Gx L (Ak c)) x<=f x:=by
    intro x;by_cases a:x=c.head.name
    .subst a;rw[GQ];exact u
    .rw[I0 _ a];exact h x
   obtain⟨e,j,l,q⟩:=Jo i b _ j1 r w;refine⟨λx=>iQ (p x) (e x),j,λd=>?_,λd=>ly ?_⟩
   .have:=(l d).2.1;cases this
   .refine cS (λx=>iQ (p x) (e x)) g ?_;have v:=e c.head.name;rw[GQ]at v;omega
  ·(have n:En (L,m) c=(L,m):=by unfold En;rw[gV o]);rw[n];obtain⟨e,j,l,q⟩:=Jo i b L m r h;refine⟨e,j,λd=>?_,q⟩;obtain⟨s,y,t⟩:=l d;refine⟨s,y,λx a=>?_⟩;rcases gP.1 a with rfl|a
   .omega
   .exact t x a
def WR{cs:mc A6}{d:zA->Nat}(o:Cn cs d){L:zA->Nat}(h:∀x,L x<=d x):
  (∀x,(Ld cs L).1 x<=d x)/\((Ld cs L).2=K->(Ld cs L).1=L/\Cn cs L)/\((Ld cs L).2=j1->Ea cs L<Ea cs (Ld cs L).1)/\Ea cs (Ld cs L).1<=Ea cs d:=by
 unfold Ld;obtain⟨_,j,n,m⟩:=Jo o cs L K (λc b=>b) h;refine⟨j,λe=>?_,λe=>?_,Xu j⟩
 .obtain⟨l,_,k⟩:=n e;refine⟨l,λc b x i f=>?_,λc b x i f=>?_⟩
  .have a:=((Nm L (Ak c) 0).2 x i).1 f;have g:Gx L (Ak c)<=L c.head.name:=k c b;exact iQ a g
  .have a:=((Nm L (Ak c) 0).2 x i).2 f;have g:Gx L (Ak c)<=L c.head.name:=k c b;exact jw a g
 .rcases m e with a|a
  .cases a
  .exact a
def Ff(acc:mc UInt8)(t:AE):mc UInt8:=if(t.v !=0&& !acc.contains t.v)=j1 then acc++[t.v] else acc
def Fp(acc:mc UInt8)(ts:mc AE):mc UInt8:=ts.foldl Ff acc
def D0:∀(f:mc AE) (c:mc UInt8),c.Nodup->(∃r,Fp c f=c++r)/\(Fp c f).Nodup/\∀v,v∈Fp c f↔v∈c\/(v≠0/\∃t∈f,t.v=v)
 |[],c,h=>⟨⟨[],by simp[Fp]⟩,h,λv=>by simp[Fp]⟩
 |t::f,c,h=>by
  have e:Fp c (t::f)=Fp (Ff c t) f:=rfl;rw[e];by_cases i:(t.v !=0&& !c.contains t.v)=j1
  ·(have m:Ff c t=c++[t.v]:=by unfold Ff;rw[gY i]);rw[m];rw[iq]at i;have y:t.v∉c:=by
    intro j;have:=i.2;rw[lI.2 j]at this;cases this
   (have w:t.v≠0:=by simpa using i.1);have x:(c++[t.v]).Nodup:=by
    rw[kL];refine⟨h,by simp,λa n b o s=>?_⟩;rw[gN]at o;subst o;rw[s]at n;exact y n
   obtain⟨⟨r,p⟩,k,l⟩:=D0 f (c++[t.v]) x;refine⟨⟨t.v::r,by rw[p];simp⟩,k,λv=>?_⟩;rw[l,ic,gN];constructor
   .rintro ((h|h)|⟨h,u,d,g⟩)
    .exact lx h
    .subst h;exact ly ⟨w,t,by simp,rfl⟩
    .exact ly ⟨h,u,by simp[d],g⟩
   .rintro (h|⟨h,u,d,g⟩)
    .exact lx (lx h)
    .rcases gP.1 d with rfl|d
     .exact lx (ly g.symm)
     .exact ly ⟨h,u,d,g⟩
  ·(have m:Ff c t=c:=by unfold Ff;rw[gV i]);rw[m];obtain⟨q,k,l⟩:=D0 f c h;refine⟨q,k,λv=>?_⟩;rw[l];constructor
   .rintro (h|⟨h,u,d,g⟩)
    .exact lx h
    .exact ly ⟨h,u,by simp[d],g⟩
   .rintro (h|⟨h,u,d,g⟩)
    .exact lx h
    .rcases gP.1 d with rfl|d
     .left;subst g;rw[iq]at i;cases j:c.contains u.v with
      |true=>exact lI.1 j
      |false=>exact absurd ⟨by simpa using h,by rw[j];rfl⟩ i
     .exact ly ⟨h,u,d,g⟩
def Ce(c:A6):mc UInt8:=Fp [] c.head.args
def CY(c:A6):mc UInt8:=(Fp [] (c.head.args++(Ak c).flatMap Bm)).drop (Z (Ce c))
def Ns(c:A6):Fp [] (c.head.args++(Ak c).flatMap Bm)=Ce c++CY c:=by
 have e:Fp [] (c.head.args++(Ak c).flatMap Bm)=Fp (Ce c) ((Ak c).flatMap Bm):=by
  unfold Fp Ce Fp;rw[jo]
 obtain⟨⟨r,a⟩,_,_⟩:=D0 ((Ak c).flatMap Bm) (Ce c) (D0 c.head.args [] jT).2.1;unfold CY;rw[e,a,List.drop_left]
def VH{cs:mc A6}(m:TR cs){c:A6}(n:c∈cs)(s:∀x∈Ak c,Do x):Rc c (Ce c) (CY c):=by
 have i:=D0 (c.head.args++(Ak c).flatMap Bm) [] jT;have y:=D0 c.head.args [] jT;rw[Ns]at i;have k:∀t,t.v≠0->FK (Ak c) t->∃x∈Ak c,(x.kind==97)=j1/\∃u∈x.A.args,u.v=t.v:=by
  intro t b q;rcases q with h|h
  .exact absurd h b
  .exact h
 have r:∀v,v∈Ce c\/v∈CY c->∃x∈Ak c,(x.kind==97)=j1/\∃u∈x.A.args,u.v=v:=by
  intro v g;have d:=(i.2.2 v).1 (ic.2 g);rcases d with d|⟨b,t,a,rfl⟩
  .simp at d
  .rcases ic.1 a with a|a
   .exact k t b (m.head c n t a)
   .obtain⟨x,e,a⟩:=iI.1 a;by_cases f:(x.kind==97)=j1
    .unfold Bm at a;rw[f,kN,gY rfl]at a;exact⟨x,e,f,t,a,rfl⟩
    .have p:=m.safe c n x e (by simpa using f);unfold Bm at a;by_cases j:(x.kind==33)=j1
     .rw[j,lm,gY rfl]at a;exact k t b (p.1 j t a)
     .rw[gV (by rw[jx,not_or];exact⟨f,j⟩)]at a;obtain⟨s1,s2⟩:=p.2 (by simpa using j);rcases gP.1 a with rfl|a
      .exact k _ b s1
      .rw[gN]at a;subst a;exact k _ b s2
 refine⟨λv g=>?_,?_,?_,?_,λx e=>(s x e).ye⟩
 .obtain⟨x,e,f,u,o,l⟩:=r v g;refine⟨?_,x,e,f,u,o,l⟩;have d:=(i.2.2 v).1 (ic.2 g);have b:v≠0:=by
   rcases d with d|d
   .simp at d
   .exact d.1
  rcases m.args c n x e f u o with h|h
  .rw[l]at h;exact absurd h.1 b
  .rw[l]at h;exact h
 .intro v g w;have:=(kL.1 i.2.1).2.2 v g v w;exact this rfl
 .intro t a;by_cases b:t.v=0
  .exact lx b
  .exact ly ((y.2.2 t.v).2 (ly ⟨b,t,a,rfl⟩))
 .intro x e t a;by_cases b:t.v=0
  .exact lx b
  .right;exact ic.1 ((i.2.2 t.v).2 (ly ⟨b,t,ic.2 (ly (iI.2 ⟨x,e,a⟩)),rfl⟩))
def CS.zr{cs:mc A6}(h:CS cs):∀c∈cs,Dv cs c.head.name=(Z c.head.args:Int):=by
 intro c a;obtain⟨k,b,rfl⟩:=iF a;exact(Fj (h.each k b)).2.2.2.2.2.1
def CS.arBody{cs:mc A6}(h:CS cs):∀c∈cs,∀x∈Ak c,(x.kind==97)=j1->Dv cs x.A.name=(Z x.A.args:Int):=by
 intro c f x g d;obtain⟨k,e,rfl⟩:=iF f;obtain⟨p,b,rfl⟩:=gX.1 g;have a:=(jK.1 (Fj (h.each k e)).2.2.2.2.2.2.1) p b;unfold BI MT at a;rw[d,kN,jq]at a;simpa using a
def CS.yB{cs:mc A6}(h:CS cs):∀c∈cs,∀d∈cs,c.head.name=d.head.name->Z c.head.args=Z d.head.args:=by
 intro c b d a e;have f:=h.zr c b;rw[e,h.zr d a]at f;omega
def CS.ar3{cs:mc A6}(h:CS cs):∀c∈cs,∀d∈cs,∀x∈Ak d,(x.kind==97)=j1->c.head.name=x.A.name->Z c.head.args=Z x.A.args:=by
 intro c g d a x i b e;have f:=h.zr c g;rw[e,h.arBody d a x i b]at f;omega
def QF(cs:mc A6):∀(d:Nat) (x:zA),DH cs d x<=d
 |0,x=>ig 0
 |d+1,x=>by
  by_cases h:0<DH cs (d+1) x
  .obtain⟨y,b,a,e⟩:=P8 cs d x h;have f:b<=1:=by
    obtain⟨c,_,_,l,_,_,h|h⟩:=a<;>omega
   have:=QF cs d y;omega
  .omega
structure Dn(cs:mc A6):Prop where
 order:CS cs
 prog:Oc cs (DH cs 6)
 lits:∀c∈cs,∀x∈Ak c,Do x
 zN:∀c∈cs,Lh c.head
def Ho{s:zA}{cs:mc A6}(h:(Ap s (Ae s 0)).2.2=K)(b:cs.map A6.erase=(Ap s (Ae s 0)).1)(d:Cp cs=(0,0)):Dn cs:=
 ⟨SD d,ZK h b d,λc a=>(KL h b c a).2,λc a=>(KL h b c a).1⟩
def Ep(al:A6->mc Af->UInt8->mc zA->mc zA):Vl:=⟨Ce,CY,al⟩
def Dn.ways{cs:mc A6}(h:Dn cs){al:A6->mc Af->UInt8->mc zA->mc zA}(b:∀c∈cs,∀s,Oy (al c s) (Ak c) s):Q0 (Ep al) cs:=
 ⟨λc a=>VH h.prog.zM a (h.lits c a),b,h.order.ar3⟩
def Dn.other{cs:mc A6}(h:Dn cs){L:zA->Nat}(a:Cn cs L):Oc cs L:=⟨h.prog.zM,a,h.prog.zN⟩
def Dn.grow{cs:mc A6}(h:Dn cs){al:A6->mc Af->UInt8->mc zA->mc zA}(b:∀c∈cs,∀s,Oy (al c s) (Ak c) s){L:zA->Nat}(e:Cn cs L){n:Nat}{ds:mc A6}(a:∀c,c∈ds↔c∈cs/\L c.head.name=n){s:mc Af}(d:Il cs L n s):
  Il cs L n (Fv (Ep al) ds s).1/\((Fv (Ep al) ds s).2=K->(Fv (Ep al) ds s).1=s/\Il cs L (n+1) s)/\
   ((Fv (Ep al) ds s).2=j1->Z s<Z (Fv (Ep al) ds s).1)/\Z (Fv (Ep al) ds s).1<=Z (UZ cs):=
 Zq (h.ways b) (h.other e) h.order.yB a d
def Dn.one{cs:mc A6}(h:Dn cs){s t:mc Af}(a:Il cs (DH cs 6) 7 s){L:zA->Nat}(d:Cn cs L){N:Nat}(e:Il cs L N t)(b:∀c∈cs,L c.head.name<N):s=t:=
 dz h.prog (h.other d) a e (λc _=>by have:=QF cs 6 c.head.name;omega) b
def Dl:zA->Bool->mc zA->zA
 |s,_,[]=>s
 |s,b,x::l=>Dl (s++(if b then⟨#[44]⟩else⟨#[40]⟩)++BL x) j1 l
def E0(p:CG):zA:=Dl p.name K p.zC++⟨#[41,46]⟩
def Tl:zA->mc CG->zA
 |t,[]=>t
 |t,p::l=>Tl (t++E0 p++⟨#[10]⟩) l
def U2:zA->mc Af->zA
 |t,[]=>t
 |t,f::l=>U2 (t++C7 f++⟨#[10]⟩) l
def Oe:∀(l:mc zA) (s:zA),(∀x∈l,A3 x)->Dl s j1 (l.map AA)=GI s j1 l
 |[],s,_=>rfl
 |x::l,s,h=>by
  rw[ii,Dl,GI,FU (h x (by simp)),Oe l _ (λy a=>h y (by simp[a]))];simp
def Ny{f:Af}(h:AJ f)(b:f.args≠[]):E0 (BN f)=C7 f:=by
 unfold E0 C7 BN;simp only;cases hl:f.args with
 |nil=>exact absurd hl b
 |cons x l=>
  have a:∀y∈x::l,A3 y:=by rw[<-hl];exact h
  rw[ii,Dl,GI,FU (a x (by simp)),Oe l _ (λy c=>a y (by simp[c]))];simp
def Qq:∀(l:mc Af) (t:zA),(∀f∈l,AJ f/\f.args≠[])->Tl t (l.map BN)=U2 t l
 |[],t,_=>rfl
 |f::l,t,h=>by
  obtain⟨a,c⟩:=h f (by simp);rw[ii,Tl,U2,Ny a c,Qq l _ (λg b=>h g (by simp[b]))]
def cC:∀(l:mc Dr) (t:zA),ed t l=U2 t (l.map Dr.f)
 |[],t=>rfl
 |p::l,t=>by rw[ed,ii,U2,cC l]
def bB(s:zA)(at_:Nat):(Ch s at_).1≠[]:=by
 rw[Ch];split<;>simp
def aS{s:zA}{at_:Nat}(h:(AS s at_ K).2.2=K):(AS s at_ K).1.args≠[]:=by
 unfold AS at h⊢;simp only at h⊢;have a:=Ii h;unfold D2 at a⊢;cases hm:(Bn s (AY s (AM s at_ K) K).2.1 (AY s (AM s at_ K) K).2.2 40).2 with
 |true=>rw[hm,gY rfl]at a;cases a
 |false=>rw[gV (by simp)];exact bB _ _
def O6{s:zA}{at_:Nat}(h:(An s at_).2.2=K):(An s at_).1.head.args≠[]:=by
 unfold An at h⊢;simp only at h⊢;exact aS (Jg (Ii h)).1
def Uf{s:zA}{at_:Nat}(h:(Ap s at_).2.2=K):∀c∈(Ap s at_).1,c.head.args≠[]:=by
 fun_induction Ap s at_ with
 |case1 at_ ha hc ih=>
  intro c a;rcases gP.1 a with rfl|a
  .exact O6 hc.1
  .exact ih h c a
 |case2 at_ ha hc=>
  intro c a;rw[gN]at a;subst a;exact O6 h
 |case3 at_ ha=>intro c a;cases a
def Vv{s:zA}{at_:Nat}{cs:mc A6}(h:(Ap s at_).2.2=K)(d:cs.map A6.erase=(Ap s at_).1):∀c∈cs,c.head.args≠[]:=by
 intro c b;have a:c.erase∈(Ap s at_).1:=by rw[<-d];exact it b
 exact Uf h _ a
def Dn.text{cs:mc A6}(h:Dn cs)(g:∀c∈cs,c.head.args≠[]){fs:mc Dr}(k:Il cs (DH cs 6) 7 (fs.map Dr.f)){L:zA->Nat}(i:Cn cs L){N:Nat}{t:mc Af}(a:Il cs L N t)(l:∀c∈cs,L c.head.name<N):
  Tl lU (t.map BN)=ed lU fs:=by
 have e:=h.one k i a l;rw[cC,e];refine Qq t _ (λf b=>⟨(a.zZ f b).canon h.prog.zN,λj=>?_⟩);obtain⟨c,m,_,d⟩:=(a.zZ f b).zh;rw[j]at d;exact g c m (kQ d.symm)
structure Dc(fs:mc EN)(s:mc Af):Prop where
 same:fs.map EN.f=s.map BN
 zL:Ef s
 canon:∀f∈s,AJ f
def Ef.pad{s:mc Af}(c:Ef s)(cs:∀f∈s,AJ f):(s.map BN).Pairwise λa b=>Cm a b<0:=by
 rw[jQ];exact jV (fun{a b} ha hb hab=>(DI (cs a ha) (cs b hb)).1 hab) c
def Dc.pair{fs:mc EN}{s:mc Af}(h:Dc fs s):fs.Pairwise λa b=>Cm a.f b.f<0:=by
 have:=h.zL.pad h.canon;rw[<-h.same,jQ]at this;exact this
def Va(a:CG):¬Cm a a<0:=by
 have:Cm a a=0:=(F3 a a).2 rfl;omega
def Dc.mono{fs:mc EN}{s:mc Af}(h:Dc fs s)(x:CG):∀i j (d:i<Z fs) (b:j<Z fs),i<=j->Cm fs[j].f x<0->Cm fs[i].f x<0:=by
 intro i j d b e c;rcases kG e with a|a
 .exact G9 (jI.1 h.pair i j d b a) c
 .subst a;exact c
def Dc.mem{fs:mc EN}{s:mc Af}(h:Dc fs s){f:Af}(b:AJ f):(∃p∈fs,p.f=BN f)↔f∈s:=by
 have e:(∃p∈fs,p.f=BN f)↔BN f∈fs.map EN.f:=by rw[gX]
 rw[e,h.same,gX];constructor
 .rintro ⟨g,a,e⟩;rw[<-My (h.canon g a) b e];exact a
 .intro c;exact⟨f,c,rfl⟩
def Dc.zn{fs:mc EN}{s:mc Af}(h:Dc fs s){f:Af}(k:AJ f){p:Nat}(i:Gg fs (BN f) p):Ev fs (BN f) p=D9 s f:=by
 have n:Ev fs (BN f) p=j1↔D9 s f=j1:=by
  rw[BY,<-h.mem k];unfold Ev;constructor
  .intro b;split at b
   .rename_i a;exact⟨fs[p],gL a,(F3 _ _).1 (by simpa using b)⟩
   .cases b
  .rintro ⟨q,m,e⟩;obtain⟨j,g,rfl⟩:=iF m;have l:p<=j:=by
    by_cases b:j<p
    .have:=i.below j g b;rw[e]at this;exact absurd this (Va _)
    .omega
   (have a:p<Z fs:=by omega);rw[dif_pos a];rcases kG l with c|c
   .have d:=jI.1 h.pair p j a g c;rw[e]at d;exact absurd d (i.zl p a (ig _))
   .subst c;rw[e];simpa using(F3 _ _).2 rfl
 cases c:Ev fs (BN f) p<;>cases d:D9 s f<;>simp_all
def Dc.yQ{fs:mc EN}{s:mc Af}(h:Dc fs s){f:Af}(c:AJ f){p:Nat}(b:Gg fs (BN f) p)(a:Ev fs (BN f) p=j1):Dc fs (A9 s f):=by
 rw[h.zn c b]at a;have:A9 s f=s:=by unfold A9;rw[a,gY rfl]
 rw[this];exact h
def Dc.zx{fs:mc EN}{s:mc Af}(h:Dc fs s){x:EN}{f:Af}(o:x.f=BN f)(k:AJ f){p:Nat}(t:Gg fs (BN f) p)(w:Ev fs (BN f) p=K):Dc (fs.take p++x::fs.drop p) (A9 s f):=by
 obtain⟨a,b,m⟩:=Dg k h.zL h.canon;refine⟨?_,a,b⟩;have B:f∉s:=λE=>by rw[h.zn k t,(BY _ _).2 E]at w;cases w
 refine G3 (lt:=λa b=>Cm a b<0) Va (λa b c=>G9) _ _ ?_ (a.pad b) (λy=>?_)
 .rw[jQ,kY];have z:=h.pair;have D:=z.take (i:=p);have A:=z.drop (i:=p);have u:∀q∈fs.take p,Cm q.f x.f<0:=by
   intro q d;obtain⟨i,n,rfl⟩:=iF d;rw[iH]at n;rw[kK,o];exact t.below i (by omega) (by omega)
  have v:∀q∈fs.drop p,Cm x.f q.f<0:=by
   intro q d;obtain⟨i,n,rfl⟩:=iF d;rw[iN]at n;rw[lz,o];have H:=t.zl (p+i) (by omega) (by omega);(have G:Cm fs[p+i].f (BN f)≠0:=λe=>B ((h.mem k).1 ⟨_,gL _,(F3 _ _).1 e⟩));exact(Yh _ _).1 (by omega)
  refine⟨D,jz.2 ⟨v,A⟩,λq d r l=>?_⟩;rcases gP.1 l with rfl|l
  .exact u q d
  .exact G9 (u q d) (v r l)
 .have F:y∈(fs.take p++x::fs.drop p).map EN.f↔y=x.f\/y∈fs.map EN.f:=by
   (have C:fs.map EN.f=(fs.take p).map EN.f++(fs.drop p).map EN.f:=by rw[<-iG,iZ]);rw[C];simp only[iG,ii,ic,gP];constructor
   .rintro (h|h|h)
    .exact ly (lx h)
    .exact lx h
    .exact ly (ly h)
   .rintro (h|h|h)
    .exact ly (lx h)
    .exact lx h
    .exact ly (ly h)
  rw[F,h.same,gX,gX,o];constructor
  .rintro (rfl|⟨g,j,rfl⟩)
   .exact⟨f,(m f).2 (ly rfl),rfl⟩
   .exact⟨g,(m g).2 (lx j),rfl⟩
  .rintro ⟨g,j,rfl⟩;rcases(m g).1 j with j|rfl
   .exact ly ⟨g,j,rfl⟩
   .exact lx rfl
def bZ(l:mc zA):¬Es l []<0:=by
 cases l<;>simp[Es]
def U6(a:CG)(n:zA):Cm a ⟨n,[]⟩<0↔DU a.name n<0:=by
 unfold Cm;simp only;split
 .rename_i h;constructor
  .intro b;exact absurd b (bZ _)
  .intro b;omega
 .exact Iff.rfl
def Mf{α:Type}{p:α->Bool}:∀(l:mc α),l.Pairwise (λa b=>p b=j1->p a=j1)->l.takeWhile p=l.filter p
 |[],_=>rfl
 |x::l,h=>by
  rw[jz]at h;rw[List.takeWhile_cons,jt];cases hx:p x with
  |true=>rw[gY rfl,gY rfl,Mf l h.2]
  |false=>
   rw[gV (by simp),gV (by simp)];refine(lq.2 (λy d c=>?_)).symm;rw[h.1 y d c]at hx;cases hx
def Th(n:zA)(q:EN):Bool:=q.f.name.toList==n.toList
def UR(x:zA):zA:=if Tj x then x else AA x
def Be(e:mc zA):mc zA:=e.map UR
def Q1(x:zA):Prop:=x.size=0\/A3 x
def YE:Tj lU=j1:=(DC _).2 rfl
def O4:UR lU=lU:=by unfold UR;rw[YE,gY rfl]
def Cv{x:zA}(h:A3 x):UR x=AA x:=by
 unfold UR;cases he:Tj x with
 |true=>exact absurd ((DC _).1 he) h.size
 |false=>rfl
def Zv{x:zA}(h:A3 x):(AA x).size≠0:=by
 rcases h with⟨c,r,e,a,b⟩|h
 .rw[E6 e a,Bg,e];simp
 .rw[Bg,Fz h];rcases ES h with⟨c,e,_⟩|⟨c,d,e,_⟩|⟨c,d,f,e,_⟩<;>rw[e]<;>simp
def cH{x:zA}(h:Q1 x):Tj (UR x)=Tj x:=by
 rcases h with h|h
 .have:Tj x=j1:=(DC _).2 h;unfold UR;rw[this,gY rfl,this]
 .have a:Tj x=K:=by
   cases he:Tj x with
   |true=>exact absurd ((DC _).1 he) h.size
   |false=>rfl
  rw[Cv h,a];cases he:Tj (AA x)with
  |true=>exact absurd ((DC _).1 he) (Zv h)
  |false=>rfl
def QZ(b:mc zA)(t:AE):zA:=if t.v=0 then UR t.s else b.getD (t.v.toNat-65) lU
def Et(e:mc zA)(t:AE):QZ (Be e) t=UR (AR e t):=by
 unfold QZ AR Be;by_cases a:t.v=0
 .rw[gY a,gY a]
 .rw[gV a,gV a,ia,ia,jf];cases e[t.v.toNat-65]? with
  |none=>exact O4.symm
  |some x=>rfl
def dA(e:mc zA)(j:Nat){x:zA}(h:A3 x):Be (e.set j x)=(Be e).set j (AA x):=by
 unfold Be;rw[lL,Cv h]
def Rd(b:mc zA)(ts:mc AE)(xs:mc zA):Bool:=(ts.zip xs).all λp=>Tj (QZ b p.1)||(QZ b p.1).toList==p.2.toList
def SH{e:mc zA}:∀(a:mc AE) (b:mc zA),(∀t∈a,Q1 (AR e t))->(∀x∈b,A3 x)->Rd (Be e) a (b.map AA)=P6 e a b
 |[],b,_,_=>by simp[Rd,P6]
 |t::a,[],_,_=>by simp[Rd,P6]
 |t::a,x::b,ht,hx=>by
  have ih:=SH a b (λu f=>ht u (by simp[f])) (λy d=>hx y (by simp[d]));unfold Rd P6 at ih⊢;rw[ii,ln,ln,kH,kH,ih]
  congr 1
  simp only;rw[Et,cH (ht t (by simp))];cases he:Tj (AR e t)with
  |true=>rfl
  |false=>
   rw[kp,kp];have c:A3 (AR e t):=by
    rcases ht t (by simp)with h|h
    .rw[(DC _).2 h]at he;cases he
    .exact h
   rw[Cv c];have g:((AA (AR e t)).toList==(AA x).toList)=j1↔((AR e t).toList==x.toList)=j1:=by
    rw[Ej,Ej];exact⟨λh=>FQ c (hx x (by simp)) h,λh=>by rw[h]⟩
   cases h1:((AA (AR e t)).toList==(AA x).toList)<;>cases h2:((AR e t).toList==x.toList)<;>simp_all
def Qm(b:mc zA)(ts:mc AE):Bool:=ts.all λt=> !Tj (QZ b t)
def Mc{e:mc zA}:∀(a:mc AE),(∀t∈a,Q1 (AR e t))->Qm (Be e) a=Di e a
 |[],_=>rfl
 |t::a,h=>by
  have ih:=Mc a (λu b=>h u (by simp[b]));unfold Qm Di at ih⊢;rw[kH,kH,ih,Et,cH (h t (by simp))]
def Vk{e:mc zA}{l r:AE}(a:A3 (AR e l))(b:A3 (AR e r)):((QZ (Be e) l).toList==(QZ (Be e) r).toList)=((AR e l).toList==(AR e r).toList):=by
 rw[Et,Et,Cv a,Cv b];have c:((AA (AR e l)).toList==(AA (AR e r)).toList)=j1↔((AR e l).toList==(AR e r).toList)=j1:=by
  rw[Ej,Ej];exact⟨λh=>FQ a b h,λh=>by rw[h]⟩
 cases h1:((AA (AR e l)).toList==(AA (AR e r)).toList)<;>cases h2:((AR e l).toList==(AR e r).toList)<;>simp_all
def aH{e:mc zA}{l r:AE}(a:A3 (AR e l))(b:A3 (AR e r)):Op.bytesLess (QZ (Be e) l).toList (QZ (Be e) r).toList=Fu (AR e l) (AR e r):=by
 rw[Et,Et,Cv a,Cv b];exact G5 a b
def OE(t:AQ):Prop:=t.v=0\/(65<=t.v/\t.v<=90)
def Bz(b:mc zA)(t:AQ):zA:=cO b t.v.toNat t.s
def Gk(b:mc zA)(ts:mc AQ):Bool:=ts.all λt=> !Tj (Bz b t)
def KA(a d:Nat)(b:mc zA)(t:AQ)(w:l9)(i:Z b=26)(g:AH w a (Aj b) d)(c:OE t):
  Calls prog 180 #[kt (V ⟨a,0,Y⟩),.agg #[X lS t.v,O t.s]] w λr f=>r=lo (O (Bz b t))/\Ac [] w f:=by
 have h:=Pw a d b t.v.toNat t.s w i g (by rcases c with h|h<;>omega);have e:((t.v.toNat:Nat):Int)=t.v:=by rcases c with h|h<;>omega
 rw[e]at h;exact h
set_option maxRecDepth 100000
theorem UC(f G:Nat)(b:mc zA)(D:Option Addr)(L:Nat)(ts:mc AQ)(base:Nat)(w:l9)(Q:Z b=26)(N:AH w f (Aj b) G)(F:lQ w base 215 2 (U D (Z ts) L) (Z ts) (ts.flatMap Aq))(A2:Z ts<=100000)(a:∀t∈ts,OE t):
  Calls prog 204 #[kt (V ⟨f,0,Y⟩),U D (Z ts) L] w λr o=>r=lo (.bool (Gk b ts))/\Ac [] w o:=by
 obtain⟨R,x⟩:∃R,Gk b ts=R:=⟨_,rfl⟩;rw[x];have d:lO ((ts.drop 0).all (λt=> !Tj (Bz b t))=R):=x;have HT:lO (∀t∈ts,∀e,Ac [] w e->Calls prog 180 #[kt (V ⟨f,0,Y⟩),.agg #[X lS t.v,O t.s]] e λr o=>r=lo (O (Bz b t))/\Ac [] e o):=λt P e z=>KA f G b t e Q (N.kept z (by simp)) (a t P)
 have AO:=Ab F;clear x F a N;go_enter func204,ntmps204;go_wp2_with fail
 go_loopg [9] (Z ts) (λgk i wr=>∃(k:Nat),i=X J k/\k<=Z ts/\gk=Z ts-k/\lO ((ts.drop k).all (λt=> !Tj (Bz b t))=R)/\lO (Ac [] w wr))
 case atStart=>exact⟨0,rfl,by omega,rfl,d,me _ _⟩
 case round=>
  clear d;obtain⟨k,rfl,z,C,d,m⟩:=hrel;have W:=Ab C;clear C;by_cases n:k<Z ts
  .obtain⟨g,A1,H,E,B⟩:=EZ (Ad AO m (by simp)) k n;simp only[gM]at H;obtain⟨rfl,_,rfl⟩:=H;obtain⟨T,j⟩:∃T,ts[k]=T:=⟨_,rfl⟩;have u:=Ab (m.alloc (j2 #[X lS T.v,O T.s] 215));have q:=Ab (HT T (by rw[<-j];exact gL n) _ u);have l:lO ((!Tj (Bz b T)&&(ts.drop (k+1)).all (λt=> !Tj (Bz b t)))=R):=by
    have h:=Aa d;rw[ij n,kH,j]at h;exact h
   rw[j]at E B;obtain⟨c,M⟩:∃c,Bz b T=c:=⟨_,rfl⟩;rw[M]at q l;clear d j M;(go_wp2_with fail);refine q.mono ?_;rintro _ w3 ⟨rfl,A⟩;have I:=Ab (u.trans A);clear q u m A E B;cases a:Tj c with
   |true=>
    have p:(c.toList==[])=j1:=a;(have S:c.toList=[]:=by simpa using p);(have y:lO (R=K):=by show _=_;rw[<-Aa l,a];rfl);go_wp2;go_ret;rw[Aa y];exact⟨rfl,I⟩
   |false=>
    have p:(c.toList==[])=K:=a;(have S:¬c.toList=[]:=by simpa using p);(have Ax:lO ((ts.drop (k+1)).all (λt=> !Tj (Bz b t))=R):=by have h:=Aa l;rw[a]at h;exact h);clear l;go_wp2
    go_roundg (Z ts-(k+1))
    case measure=>have:=Aa W;omega
    case rel=>exact⟨k+1,by go_num,by omega,rfl,Ax,I⟩
  .have y:lO (R=j1):=by
    have h:=Aa d;rw[iC (by omega)]at h;exact h.symm
   go_wp2;go_ret;rw[Aa y];exact⟨rfl,m⟩
def G4(b:mc zA):mc AQ->mc zA->Bool
 |t::ts,x::xs=>(Tj (Bz b t)||(Bz b t).toList==x.toList)&&G4 b ts xs
 |_,_=>j1
def F1{w:l9}{base:Nat}{v:Value}{l:mc zA}(h:lQ w base 170 1 v (Z l) (l.flatMap Ah))(k:Nat)(b:k<Z l):∃g a,v=U (V ⟨g,0,Y⟩) (Z l) a/\w.cell? ⟨g,k,Y⟩=V (O l[k]):=by
 obtain⟨g,a,e,_,f⟩:=AF h (λc _=>rfl) k b;have d:=f k b 0 (by omega);simp[Ah]at d;exact⟨g,a,e,d⟩
theorem bT(z ty:Nat)(b:mc zA)(x:Int)(nm:zA)(l:Option Addr)(n:Nat)(ts:mc AQ)(p:EN)(base:Nat)(w:l9)(hb:Z b=26)(hB:AH w z (Aj b) ty)(hr:lQ w base 215 2 (U l (Z ts) n) (Z ts) (ts.flatMap Aq))(Q:DS w p)(HF:Z ts<=100000)(FL:Z ts<=Z p.f.zC)(j:∀t∈ts,OE t):
  Calls prog 222 #[kt (V ⟨z,0,Y⟩),.agg #[X J x,O nm,U l (Z ts) n],.agg (AW p).toArray] w λr F=>r=lo (.bool (G4 b ts p.f.zC))/\Ac [] w F:=by
 obtain⟨⟨m,a⟩,pv⟩:=p;obtain⟨e,d,B0⟩:=Al Q;simp only at B0 FL;subst B0;have HX:lO (lQ w 0 170 1 (U e (Z a) d) (Z a) (a.flatMap Ah)):=Q;simp only[AW];obtain⟨R,hR⟩:∃R,G4 b ts a=R:=⟨_,rfl⟩;rw[hR];have q:lO (G4 b (ts.drop 0) (a.drop 0)=R):=hR;have HT:lO (∀t∈ts,∀y,Ac [] w y->Calls prog 180 #[kt (V ⟨z,0,Y⟩),.agg #[X lS t.v,O t.s]] y λr F=>r=lo (O (Bz b t))/\Ac [] y F):=λt ht y hk=>KA z ty b t y hb (hB.kept hk (by simp)) (j t ht)
 have FO:=Ab hr;have B:lO (AH ((w.alloc (j2 [X J x,O nm,U l (Z ts) n].toArray 187)).alloc (j2 [O m,U e (Z a) d].toArray 104)) (w.heap.size+1) [O m,U e (Z a) d] 104):=by
  have h:=mf (w.alloc (j2 [X J x,O nm,U l (Z ts) n].toArray 187)) [O m,U e (Z a) d] 104;simp only[iz]at h;exact h
 have W:=Ab (((me [] w).alloc (j2 [X J x,O nm,U l (Z ts) n].toArray 187)).alloc (j2 [O m,U e (Z a) d].toArray 104));clear hR hr j hB Q;go_enter func222,ntmps222;go_wp2_with fail
 change Code.wp _ _ _ _ ((w.alloc (j2 [X J x,O nm,U l (Z ts) n].toArray 187)).alloc (j2 [O m,U e (Z a) d].toArray 104));generalize((w.alloc (j2 [X J x,O nm,U l (Z ts) n].toArray 187)).alloc (j2 [O m,U e (Z a) d].toArray 104))=w1 at B W⊢;generalize w.heap.size=N at B⊢
 go_loopg [13] (Z ts) (λgk i wr=>∃(k:Nat),i=X J k/\k<=Z ts/\gk=Z ts-k/\lO (G4 b (ts.drop k) (a.drop k)=R)/\lO (AH wr (N+1) [O m,U e (Z a) d] 104)/\lO (Ac [] w wr))
 case atStart=>exact⟨0,rfl,by omega,rfl,q,B,W⟩
 case round=>
  clear q B W;obtain⟨k,rfl,hk,Bx,q,HB,C⟩:=hrel;have HG:=Ab Bx;clear Bx;by_cases E:k<Z ts
  ·(have CC:k<Z a:=by omega);obtain⟨g,HA,he,d0,d1⟩:=EZ (Ad FO C (by simp)) k E;simp only[gM]at he;obtain⟨rfl,_,rfl⟩:=he;obtain⟨T,A⟩:∃T,ts[k]=T:=⟨_,rfl⟩;obtain⟨u,H⟩:∃u,a[k]=u:=⟨_,rfl⟩;have S:=Ab (C.alloc (j2 #[X lS T.v,O T.s] 215));have B9:=Ab (HB.alloc (j2 #[X lS T.v,O T.s] 215));have P:=Ab (HT T (by rw[<-A];exact gL E) _ S);have o:lO (((Tj (Bz b T)||(Bz b T).toList==u.toList)&&G4 b (ts.drop (k+1)) (a.drop (k+1)))=R):=by
    have h:=Aa q;rw[ij E,ij CC,G4,A,H]at h;exact h
   rw[A]at d0 d1;obtain⟨c,hV⟩:∃c,Bz b T=c:=⟨_,rfl⟩;rw[hV]at P o;clear q A hV;(have HH:(0:Int)<=(k:Int):=by omega);(have HI:(k:Int)<(Z a:Int):=by omega);(go_wp2_with fail);refine P.mono ?_;rintro _ w3 ⟨rfl,M⟩;have D:=Ab (S.trans M);have I:=Ab (B9.kept M (by simp));obtain⟨g2,HD,BT,x0⟩:=F1 (Ad HX D (by simp)) k CC;simp only[gM]at BT;obtain⟨rfl,_,rfl⟩:=BT;rw[H]at x0;have b1:=I.cell 1;simp at b1;clear P S C M d0 d1 B9 HB H;cases j:Tj c with
   |true=>
    have G:(c.toList==[])=j1:=j;(have FC:c.toList=[]:=by simpa using G);(have L:lO (G4 b (ts.drop (k+1)) (a.drop (k+1))=R):=by have h:=Aa o;rw[j]at h;exact h);clear o;go_wp2
    go_roundg (Z ts-(k+1))
    case measure=>have:=Aa HG;omega
    case rel=>exact⟨k+1,by go_num,by omega,rfl,L,I,D⟩
   |false=>
    have G:(c.toList==[])=K:=j;(have FC:¬c.toList=[]:=by simpa using G);cases hx:(c.toList==u.toList)with
    |true=>
     (have EY:(c.toList !=u.toList)=K:=by simp[bne,hx]);(have L:lO (G4 b (ts.drop (k+1)) (a.drop (k+1))=R):=by have h:=Aa o;rw[j,hx]at h;exact h);clear o;go_wp2
     go_roundg (Z ts-(k+1))
     case measure=>have:=Aa HG;omega
     case rel=>exact⟨k+1,by go_num,by omega,rfl,L,I,D⟩
    |false=>
     (have EY:(c.toList !=u.toList)=j1:=by simp[bne,hx]);(have HE:lO (R=K):=by show _=_;rw[<-Aa o,j,hx];rfl);go_wp2;go_ret;rw[Aa HE];exact⟨rfl,D⟩
  .have HE:lO (R=j1):=by
    have h:=Aa q;rw[iC (by omega),G4]at h
    .exact h.symm
    .simp
   go_wp2;go_ret;rw[Aa HE];exact⟨rfl,C⟩
def IG(a b:AQ):Bool:=a.v==b.v&&a.s.toList==b.s.toList
def Rk(ts:mc AQ)(x:AQ)(r:Int):Prop:=(r= -1/\∀t∈ts,IG x t=K)\/∃k,∃h:k<Z ts,r=(k:Int)/\IG x ts[k]=j1/\∀j (hj:j<Z ts),j<k->IG x ts[j]=K
theorem ZC(C:Option Addr)(F:Nat)(ts:mc AQ)(x:AQ)(base:Nat)(w:l9)(D:lQ w base 215 2 (U C (Z ts) F) (Z ts) (ts.flatMap Aq))(A0:Z ts<=100000):
  Calls prog 206 #[U C (Z ts) F,.agg #[X lS x.v,O x.s]] w λr H=>∃n,r=lo (X J n)/\Rk ts x n/\Ac [] w H:=by
 have S:=Ab D;obtain⟨e,l⟩:∃e:Int->Prop,e=Rk ts x:=⟨_,rfl⟩;have y:=Ab l;rw[<-l];have a:=Ab (mf w [X lS x.v,O x.s] 215);have b:=Ab ((me [] w).alloc (j2 #[X lS x.v,O x.s] 215));clear D l;go_enter func206,ntmps206;go_wp2_with fail
 change Code.wp _ _ _ _ (w.alloc (j2 [X lS x.v,O x.s].toArray 215));generalize w.alloc (j2 [X lS x.v,O x.s].toArray 215)=w1 at a b⊢;generalize w.heap.size=N at a⊢
 go_loopg [8] (Z ts) (λgk i wr=>∃(k:Nat),i=X J k/\k<=Z ts/\gk=Z ts-k/\lO (∀j (c:j<Z ts),j<k->IG x ts[j]=K)/\lO (AH wr N [X lS x.v,O x.s] 215)/\lO (Ac [] w wr))
 case atStart=>exact⟨0,rfl,by omega,rfl,λj c h=>by omega,a,b⟩
 case round=>
  clear a b;obtain⟨k,rfl,hk,A,f,a,b⟩:=hrel;have z:=Ab A;clear A;by_cases q:k<Z ts
  .obtain⟨g,AT,E,P,M⟩:=EZ (Ad S b (by simp)) k q;simp only[gM]at E;obtain⟨rfl,_,rfl⟩:=E;obtain⟨T,m⟩:∃T,ts[k]=T:=⟨_,rfl⟩;have u:=Ab m;rw[m]at P M;clear m;have G:=a.cell 0;have R:=a.cell 1;simp at G R;(have A1:(0:Int)<=(k:Int):=by omega);(have A2:(k:Int)<(Z ts:Int):=by omega);(have d:lO (∀n,AH (wr.drewN n) N [X lS x.v,O x.s] 215/\Ac [] w (wr.drewN n)):=λn=>⟨a.drewN n,b.drewN n⟩);cases hs:IG x T with
   |true=>
    have o:(x.v==T.v)=j1/\(x.s.toList==T.s.toList)=j1:=by
     unfold IG at hs;simpa using hs
    have W:=o.1;have Q:=o.2;have p:lO (e (k:Int)):=by
     rw[Aa y];exact ly ⟨k,q,rfl,by rw[Aa u];exact hs,f⟩
    clear o hs;go_wp2_with fail
    go_quiet (fail)
    go_wp2;go_ret;exact⟨k,rfl,p,(d _).2⟩
   |false=>
    have B:lO (∀j (c:j<Z ts),j<k+1->IG x ts[j]=K):=by
     intro j c Ax;by_cases h:j<k
     .exact f j c h
     ·(have I:j=k:=by omega);subst I;rw[Aa u];exact hs
    cases ha:(x.v==T.v)with
    |false=>
     clear hs;go_wp2_with fail
     go_quiet (fail)
     go_wp2
     go_roundg (Z ts-(k+1))
     case measure=>have:=Aa z;omega
     case rel=>exact⟨k+1,by go_num,by omega,rfl,B,(d _).1,(d _).2⟩
    |true=>
     have Q:(x.s.toList==T.s.toList)=K:=by
      unfold IG at hs;rw[ha,jq]at hs;exact hs
     clear hs;go_wp2_with fail
     go_quiet (fail)
     go_wp2
     go_roundg (Z ts-(k+1))
     case measure=>have:=Aa z;omega
     case rel=>exact⟨k+1,by go_num,by omega,rfl,B,(d _).1,(d _).2⟩
  .have p:lO (e (-1)):=by
    rw[Aa y];refine lx ⟨rfl,λt L=>?_⟩;obtain⟨j,c,rfl⟩:=iF L;exact f j c (by omega)
   go_wp2;go_ret;exact⟨-1,rfl,p,b⟩
def Qd{w:l9}{base:Nat}{v:Value}{l:mc Int}(h:lQ w base 21 1 v (Z l) (l.flatMap AP))(k:Nat)(b:k<Z l):∃g a,v=U (V ⟨g,0,Y⟩) (Z l) a/\w.cell? ⟨g,k,Y⟩=V (X lS l[k]):=by
 obtain⟨g,a,e,_,f⟩:=AF h (λc _=>rfl) k b;have d:=f k b 0 (by omega);simp[AP]at d;exact⟨g,a,e,d⟩
theorem bD(q:Option Addr)(u:Nat)(l:mc Int)(x:Int)(base:Nat)(w:l9)(s:lQ w base 21 1 (U q (Z l) u) (Z l) (l.flatMap AP))(I:Z l<=100000):
  Calls prog 203 #[U q (Z l) u,X lS x] w λr v=>∃n:Int,r=lo (X J n)/\(n= -1/\x∉l\/0<=n/\x∈l)/\v=w:=by
 have E:=Ab s;clear s;go_enter func203,ntmps203;go_wp2_with fail
 go_loopg [8] (Z l) (λgk i wr=>∃(k:Nat),i=X J k/\k<=Z l/\gk=Z l-k/\lO (∀j (b:j<Z l),j<k->l[j]≠x)/\wr=w)
 case atStart=>exact⟨0,rfl,by omega,rfl,λj b h=>by omega,rfl⟩
 case round=>
  obtain⟨k,rfl,G,p,m,rfl⟩:=hrel;have z:=Ab p;clear p;by_cases f:k<Z l
  .obtain⟨g,H,t,C⟩:=Qd E k f;simp only[gM]at t;obtain⟨rfl,_,rfl⟩:=t;obtain⟨T,d⟩:∃T,l[k]=T:=⟨_,rfl⟩;have o:=Ab d;rw[d]at C;clear d;(have L:(0:Int)<=(k:Int):=by omega);(have M:(k:Int)<(Z l:Int):=by omega);by_cases a:x=T
   ·(have A:(x==T)=j1:=by simp[a]);(have c:lO (x∈l):=by show _∈_;rw[a,<-Aa o];exact gL f);clear a;go_wp2;go_ret;exact⟨k,rfl,ly ⟨by omega,c⟩,rfl⟩
   ·(have A:(x==T)=K:=by simp[a]);have B:lO (∀j (b:j<Z l),j<k+1->l[j]≠x):=by
     intro j b F;by_cases h:j<k
     .exact m j b h
     ·(have y:j=k:=by omega);subst y;rw[Aa o];exact λe=>a e.symm
    clear a;go_wp2
    go_roundg (Z l-(k+1))
    case measure=>have:=Aa z;omega
    case rel=>exact⟨k+1,by go_num,by omega,rfl,B,rfl⟩
  .have c:lO (x∉l):=by
    intro D;obtain⟨j,b,e⟩:=iF D;exact m j b (by omega) e
   go_wp2;go_ret;exact⟨-1,rfl,lx ⟨rfl,c⟩,rfl⟩
theorem Ra(c:Option Addr)(b:Nat)(l:mc Int)(x:Int)(base:Nat)(w:l9)(d:lQ w base 21 1 (U c (Z l) b) (Z l) (l.flatMap AP))(i:Z l<=100000):
  Calls prog 175 #[U c (Z l) b,X lS x] w λr h=>r=lo (.bool (decide (x∈l)))/\h=w:=by
 have f:=Ab (bD c b l x base w d i);clear d;go_enter func175,ntmps175;go_wp2_with fail
 refine f.mono ?_;rintro _ k ⟨n,rfl,g,rfl⟩;have j:lO (decide (0<=n)=decide (x∈l)):=by
  show _=_;rcases g with⟨e,a⟩|⟨e,a⟩
  .rw[i9 a,i9 (by omega)]
  .rw[jH a,jH e]
 clear g f;go_wp2;go_ret;rw[<-Aa j];exact⟨rfl,rfl⟩
def Wn(a:mc Int)(t:AQ):mc Int:=if t.v≠0/\t.v∉a then a++[t.v] else a
def Dp(ts:mc AQ):mc Int:=ts.foldl Wn []
def WL{ts:mc AQ}{k:Nat}(a:k<Z ts):Dp (ts.take (k+1))=Wn (Dp (ts.take k)) ts[k]:=by
 unfold Dp;rw[gQ a,jo];rfl
theorem MV(S:Option Addr)(cp:Nat)(ts:mc AQ)(base:Nat)(w:l9)(hr:lQ w base 215 2 (U S (Z ts) cp) (Z ts) (ts.flatMap Aq))(HB:Z ts<=90000):
  Calls prog 138 #[U S (Z ts) cp] w λr I=>∃A0 Ax,r=lo (U A0 (Z (Dp ts)) Ax)/\lQ I w.heap.size 21 1 (U A0 (Z (Dp ts)) Ax) (Z (Dp ts)) ((Dp ts).flatMap AP)/\Ac [] w I:=by
 obtain⟨i0,FT,B2,CC,EX⟩:=iR Tryz.zu;have FP:=Ab hr;obtain⟨R,A⟩:∃R,Dp ts=R:=⟨_,rfl⟩;rw[A];have HR:=Ab A;obtain⟨N,E⟩:∃N,w.heap.size=N:=⟨_,rfl⟩;rw[E];have HN:=Ab E;clear hr A E;go_enter func138,ntmps138;go_wp2_with fail
 go_loopg [3,8] (Z ts) (λgk o i wr=>∃(k:Nat) (l:mc Int) (c:Option Addr) (b:Nat),o=U c (Z l) b/\i=X J k/\k<=Z ts/\gk=Z ts-k/\Z l<=k/\lO (Dp (ts.take k)=l)/\lO (lQ wr N 21 1 (U c (Z l) b) (Z l) (l.flatMap AP))/\lO (Ac [] w wr))
 case atStart=>exact⟨0,[],Y,0,rfl,rfl,by omega,rfl,by simp,rfl,ip _ _ _ _,me _ _⟩
 case round=>
  obtain⟨k,l,c,b,rfl,rfl,hk,P,Go,C,y,n⟩:=hrel;have u:=Ab P;clear P;by_cases H:k<Z ts
  .obtain⟨g,HA,he,W,M⟩:=EZ (Ad FP n (by simp)) k H;simp only[gM]at he;obtain⟨rfl,_,rfl⟩:=he;obtain⟨T,x⟩:∃T,ts[k]=T:=⟨_,rfl⟩;have EU:lO (Dp (ts.take (k+1))=if T.v≠0/\T.v∉l then l++[T.v] else l):=by
    show _=_;rw[WL H,Aa C,x];rfl
   rw[x]at W M;clear x C;have m:=Ab (n.alloc (j2 #[X lS T.v,O T.s] 215));have p:=Ab (mf wr [X lS T.v,O T.s] 215);have D:=gU y (j2 #[X lS T.v,O T.s] 215);have j:=Ab D;have d:=Ab (Ra c b l T.v N _ D (by omega));(have FB:N<=wr.heap.size:=by have:=n.size;have:=Aa HN;omega);clear D y n;by_cases a:T.v=0
   ·(have FL:(T.v !=0)=K:=by simp[a]);(have FA:(T.v==0)=j1:=by simp[a]);(have f:lO (Dp (ts.take (k+1))=l):=by show _=_;rw[Aa EU,gV (λh=>h.1 a)]);clear EU a d;go_wp2
    go_roundg (Z ts-(k+1))
    case measure=>have:=Aa u;omega
    case rel=>exact⟨k+1,l,c,b,rfl,by go_num,by omega,rfl,by omega,f,j,m⟩
   ·(have FL:(T.v !=0)=j1:=by simp[a]);(have FA:(T.v==0)=K:=by simp[a]);by_cases e:T.v∈l
    ·(have f:lO (Dp (ts.take (k+1))=l):=by show _=_;rw[Aa EU,gV (λh=>h.2 e)]);rw[jH e]at d;clear EU a e;(go_wp2_with fail);refine d.mono ?_;rintro _ w3 ⟨rfl,rfl⟩;go_wp2
     go_roundg (Z ts-(k+1))
     case measure=>have:=Aa u;omega
     case rel=>exact⟨k+1,l,c,b,rfl,by go_num,by omega,rfl,by omega,f,j,m⟩
    ·(have f:lO (Dp (ts.take (k+1))=l++[T.v]):=by show _=_;rw[Aa EU,gY ⟨a,e⟩]);rw[i9 e]at d;clear EU a e;(go_wp2_with fail);refine d.mono ?_;rintro _ w3 ⟨rfl,rfl⟩;obtain⟨B,hB⟩:∃B,wr.heap.size=B:=⟨_,rfl⟩;rw[hB]at p FB⊢;have z:lO (AH (wr.alloc (j2 #[X lS T.v,O T.s] 215)) B [X lS T.v,O T.s] 215):=p;have DT:B<(wr.alloc (j2 #[X lS T.v,O T.s] 215)).heap.size:=z.lt;clear d p hB W M;generalize wr.alloc (j2 #[X lS T.v,O T.s] 215)=w4 at j m z DT⊢;have G:=z.cell 0;simp at G;have F:=Aa j;go_wp2_with (at_builtin;refine io _ rfl (.tmp 22) (.tmp 25) _ rfl N 21 i0 _ 1 4 underlying234 FT B2 CC EX rfl (by omega) (U c (Z l) b) (Z l) (l.flatMap AP) rfl (gU F _) ⟨w4.heap.size,0,Y⟩ 1 1 [X lS T.v] rfl rfl (iu (cs:=#[X lS T.v]) (t:=21) (fr:=(0,0)) (iD w4 _)) (by simp[Value.oneCell']) (by omega) (by unfold maxLen;omega) (by omega) (by simp;omega) (w4.heap.size+1) (by simp) ?_;intro g1 L w9 AO Q BT FC)
     have EY:lO (lQ w9 N 21 1 (U (V ⟨g1,0,Y⟩) (Z (l++[T.v])) L) (Z (l++[T.v])) ((l++[T.v]).flatMap AP)):=by
      rw[ix];simp only[ib,gW,iv,iM,il,jh,iJ,AP];exact AO
     have CL:=Ab ((m.alloc (j2 #[X lS T.v] 21)).grown Q (λq hq=>ly (by have:=(F.lt q hq).1;have:=Aa HN;omega)));clear AO Q BT FC F j m G
     go_roundg (Z ts-(k+1))
     case measure=>have:=Aa u;omega
     case rel=>exact⟨k+1,l++[T.v],V ⟨g1,0,Y⟩,L,by simp,by go_num,by omega,rfl,by simp;omega,f,EY,CL⟩
  .have HE:lO (l=R):=by
    have h:=Aa C;rw[gR (by omega),Aa HR]at h;exact h.symm
   go_wp2;go_ret;rw[<-Aa HE];exact⟨c,b,rfl,y,n⟩
structure Xm(rcs:mc A6)(hs:mc (Nat×Gr Af))(s:mc Af):Prop where
 nd:(hs.map λh=>h.2.head).Nodup
 mem:∀f,f∈s↔f∈hs.map λh=>h.2.head
 each:∀i (hi:i<Z hs),∃(hn:hs[i].1<Z rcs) (σ:UInt8->zA),Rf rcs[hs[i].1] σ/\hs[i].2=CI rcs[hs[i].1] σ/\(∀g∈hs[i].2.pos,g∈(hs.take i).map λh=>h.2.head)/\∀g∈hs[i].2.neg,g∉s
def Xm.start(a:mc A6):Xm a [] []:=⟨jT,λf=>by simp,λi b=>by simp at b⟩
def Xm.add{l:mc A6}{o:zA->Nat}(I:Cn l o){n:Nat}{s v:mc Af}{c:mc (Nat×Gr Af)}(h:Xm l c s)(Q:∀f∈s,o f.name<=n){j:Nat}(B:j<Z l)(P:o l[j].head.name=n){i:Gr Af}{σ:UInt8->zA}(t:i=CI l[j] σ)(C:Rf l[j] σ)(M:∀g∈i.pos,g∈s)(N:∀g∈i.neg,g∉s)(L:i.head∉s)(q:∀f,f∈v↔f∈s\/f=i.head):Xm l (c++[(j,i)]) v:=by
 have D:=I.zX;have S:o i.head.name=n:=by rw[t];exact P
 refine⟨?_,λf=>?_,λk F=>?_⟩
 .rw[iG];refine kL.2 ⟨h.nd,by simp,λa A b x e=>?_⟩;simp only[ii,jM,gN]at x;rw[e,x]at A;exact L ((h.mem _).2 A)
 .rw[q f,h.mem f,iG,ic];simp
 .by_cases p:k<Z c
  .have u:(c++[(j,i)])[k]=c[k]:=kj p;obtain⟨y,τ,w,z,G,H⟩:=h.each k p;rw[iP (by omega)];simp only[u];refine⟨y,τ,w,z,G,λg m d=>?_⟩;rcases(q g).1 d with d|d
   .exact H g m d
   .have r:=D.neg c[k].2 ⟨l[c[k].1],gL y,τ,w,z⟩ g m;have R:=Q c[k].2.head ((h.mem _).2 (gX.2 ⟨c[k],gL p,rfl⟩));rw[d]at r;omega
  ·(have E:k=Z c:=by simp at F;omega);subst E;(have u:(c++[(j,i)])[Z c]=(j,i):=by simp);rw[List.take_left];simp only[u];refine⟨B,σ,C,t,λg m=>(h.mem g).1 (M g m),λg m d=>?_⟩;rcases(q g).1 d with d|d
   .exact N g m d
   .have r:=D.neg i ⟨l[j],gL B,σ,C,t⟩ g m;rw[d]at r;omega
def Nl:∀(l s:mc Af),Ef s->(∀f∈s,AJ f)->(∀f∈l,AJ f)->Ef (l.foldl A9 s)/\(∀f∈l.foldl A9 s,AJ f)/\∀f,f∈l.foldl A9 s↔f∈s\/f∈l
 |[],s,h1,h2,_=>⟨h1,h2,λf=>by simp⟩
 |x::l,s,h1,h2,h3=>by
  obtain⟨e,b,h⟩:=Dg (h3 x (by simp)) h1 h2;obtain⟨a,c,g⟩:=Nl l (A9 s x) e b (λf d=>h3 f (by simp[d]));refine⟨a,c,λf=>?_⟩;rw[iA,g f,h f,gP,or_assoc]
def Xm.batch{b:mc A6}{o:zA->Nat}(A:Cn b o){n:Nat}{s:mc Af}{B:mc (Nat×Gr Af)}(h:Xm b B s)(I:Ef s)(H:∀f∈s,AJ f)(M:∀f∈s,o f.name<=n){c:Nat}(D:c<Z b)(C:o b[c].head.name=n){l:mc Af}(L:l.Nodup)(u:∀f∈l,f∉s/\AJ f)
  {a:mc (Gr Af)} (t:a.map Gr.head=l) (z:∀i∈a,∃σ,(∀x∈Ak b[c],CH (Bu σ) (Eb σ) s x=j1)/\i=CI b[c] σ):∀j,Xm b (B++(a.take j).map (Prod.mk c)) ((l.take j).foldl A9 s):=by
 have w:∀f∈l,o f.name=n:=by
  intro f d;rw[<-t]at d;obtain⟨i,m,rfl⟩:=gX.1 d;obtain⟨σ,_,rfl⟩:=z i m;exact C
 have Q:Z a=Z l:=by rw[<-t,ie]
 intro j
 induction j with
 |zero=>simpa using h
 |succ j ih=>
  by_cases k:j<Z l
  ·(have r:j<Z a:=by omega);have e:=Nl (l.take j) s I H (λf d=>(u f (jr d)).2);have y:l[j]=a[j].head:=by
    have:=congrArg (λl=>l[j]?) t;simp only[jf,gS r,gS k,jC,gT]at this;exact this.symm
   obtain⟨σ,F,m⟩:=z a[j] (gL r);obtain⟨v,E⟩:=(FJ b[c] σ s).1 F;rw[<-m]at v;rw[gQ r,iG,<-iT,gQ k,jo];simp only[ii,jM,iA,List.foldl_nil];refine ih.add A (n:=n) (λf d=>?_) D C m E (λg p=>(e.2.2 g).2 (lx (v.1 g p))) (λg p q=>?_) (λq=>?_) (λf=>?_)
   .rcases(e.2.2 f).1 d with h|h
    .exact M f h
    .exact Nat.le_of_eq (w f (jr h))
   .rcases(e.2.2 g).1 q with h|h
    .exact v.2 g p h
    .have R:=A.zX.neg a[j] ⟨b[c],gL D,σ,E,m⟩ g p;have N:=w g (jr h);(have P:o a[j].head.name=n:=by rw[<-y];exact w _ (gL k));omega
   .rw[<-y]at q;rcases(e.2.2 _).1 q with h|h
    .exact(u _ (gL k)).1 h
    ·(have G:(l.take j++l[j]::l.drop (j+1)).Nodup:=by rw[<-ij k,iZ];exact L);exact(kL.1 G).2.2 _ h _ (iV ..) rfl
   .rw[(Dg (u _ (gL k)).2 e.1 e.2.1).2.2 f,y]
  .rw[gR (by omega),gR (by omega)];rw[gR (by omega),gR (by omega)]at ih;exact ih
abbrev EU:=Nat×Gr Af
def Gp(a:mc EU×mc Af)(h:EU):mc EU×mc Af:=if D9 a.2 h.2.head=j1 then(a.1++[h],h.2.pos.foldl A9 a.2)else a
def Ji:mc EU->mc Af->mc EU
 |[],_=>[]
 |h::R,N=>if D9 N h.2.head=j1 then Ji R (h.2.pos.foldl A9 N)++[h] else Ji R N
def Py:∀(R:mc EU) (A:mc EU) (N:mc Af),(R.foldl Gp (A,N)).1=A++(Ji R N).reverse
 |[],A,N=>by simp[Ji]
 |h::R,A,N=>by
  rw[iA];by_cases a:D9 N h.2.head=j1
  ·(have b:Gp (A,N) h=(A++[h],h.2.pos.foldl A9 N):=by unfold Gp;rw[gY a]);rw[b,Py R,Ji,gY a,List.reverse_append];simp
  ·(have b:Gp (A,N) h=(A,N):=by unfold Gp;rw[gV a]);rw[b,Py R,Ji,gV a]
def Wq:mc EU->Prop
 |[]=>True
 |h::R=>(∀g∈h.2.pos,g∈R.map λh=>h.2.head)/\Wq R
def TA:∀(R:mc EU) (N:mc Af),Wq R->Ef N->(∀f∈N,AJ f)->(∀h∈R,∀g∈h.2.pos,AJ g)->
  (Ji R N).Sublist R.reverse/\(∀h∈R,h.2.head∈N->h∈Ji R N)/\∀A h B,Ji R N=A++h::B->∀g∈h.2.pos,g∈A.map λh=>h.2.head
 |[],N,_,_,_,_=>⟨by simp[Ji],λh r=>by simp at r,λA h B e=>by simp[Ji]at e⟩
 |h::R,N,hl,hr,hc,hp=>by
  by_cases n:D9 N h.2.head=j1
  ·(have e:Ji (h::R) N=Ji R (h.2.pos.foldl A9 N)++[h]:=by rw[Ji,gY n]);have i:=Nl h.2.pos N hr hc (λg d=>hp h (by simp) g d);obtain⟨m,k,o⟩:=TA R _ hl.2 i.1 i.2.1 (λx a=>hp x (by simp[a]));rw[e];refine⟨?_,?_,?_⟩
   .rw[List.reverse_cons];exact m.append (List.Sublist.refl _)
   .intro x a l;rcases gP.1 a with rfl|a
    .simp
    .exact ic.2 (lx (k x a ((i.2.2 _).2 (lx l))))
   .intro A x B q g d;rcases List.append_eq_append_iff.1 q with⟨C,j,b⟩|⟨C,j,b⟩
    ·
     cases C with
     |nil=>
      simp at b;obtain⟨rfl,rfl⟩:=b;rw[j,iJ];obtain⟨y,p,rfl⟩:=gX.1 (hl.1 g d);exact gX.2 ⟨y,k y p ((i.2.2 _).2 (ly d)),rfl⟩
     |cons c C=>simp at b
    ·
     cases C with
     |nil=>
      simp at b;obtain⟨rfl,rfl⟩:=b;rw[iJ]at j;obtain⟨y,p,rfl⟩:=gX.1 (hl.1 g d);exact gX.2 ⟨y,by rw[<-j];exact k y p ((i.2.2 _).2 (ly d)),rfl⟩
     |cons c C=>
      simp only[js,jB]at b;obtain⟨rfl,_⟩:=b;exact o A x C j g d
  ·(have e:Ji (h::R) N=Ji R N:=by rw[Ji,gV n]);obtain⟨m,k,o⟩:=TA R N hl.2 hr hc (λx a=>hp x (by simp[a]));rw[e];refine⟨?_,?_,o⟩
   .rw[List.reverse_cons];exact m.trans (List.sublist_append_left _ _)
   .intro x a l;rcases gP.1 a with rfl|a
    .exact absurd ((BY _ _).2 l) n
    .exact k x a l
def Rs:∀(R:mc EU) (f:Af),f∈R.map (λh=>h.2.head)->∃c h,Ji R [f]=c++[h]/\h.2.head=f
 |[],f,h=>by simp at h
 |h::R,f,a=>by
  by_cases b:D9 [f] h.2.head=j1
  .refine⟨_,h,by rw[Ji,gY b],?_⟩;have:=(BY _ _).1 b;simpa using this
  .rw[Ji,gV b];refine Rs R f ?_;rw[ii,gP]at a;rcases a with rfl|a
   .exact absurd ((BY _ _).2 (by simp)) b
   .exact a
def R4:∀(R:mc EU) (f:Af),f∉R.map (λh=>h.2.head)->Ji R [f]=[]
 |[],f,h=>rfl
 |h::R,f,hm=>by
  rw[ii,gP,not_or]at hm;rw[Ji,gV ?_]
  .exact R4 R f hm.2
  .intro a;have:=(BY _ _).1 a;simp at this;exact hm.1 this.symm
def bI:∀(a:mc EU),(∀i (d:i<Z a),∀g∈a[i].2.pos,g∈(a.take i).map λh=>h.2.head)->Wq a.reverse:=by
 intro a;have b:∀n,n<=Z a->(∀i (d:i<Z a),∀g∈a[i].2.pos,g∈(a.take i).map λh=>h.2.head)->Wq (a.take n).reverse:=by
  intro n
  induction n with
  |zero=>intro _ _;rw[kI];trivial
  |succ n ih=>
   intro e h;rw[gQ (by omega),List.reverse_append];refine⟨λg c=>?_,ih (by omega) h⟩;show g∈List.map (λh=>h.2.head) (List.take n a).reverse;rw[List.map_reverse,List.mem_reverse];exact h n (by omega) g c
 intro h;have:=b (Z a) (ig _) h
 rwa [j6]at this
structure eH(rcs:mc A6)(s:mc Af)(l:mc EU):Prop where
 nd:(l.map λh=>h.2.head).Nodup
 each:∀A h B,l=A++h::B->∃(hn:h.1<Z rcs) (σ:UInt8->zA),Rf rcs[h.1] σ/\h.2=CI rcs[h.1] σ/\(∀g∈h.2.pos,g∈A.map λh=>h.2.head)/\∀g∈h.2.neg,g∉s
 zZ:∀h∈l,h.2.head∈s
def Hz(hs:mc EU)(f:Af):mc EU:=Ji hs.reverse [f]
def Xm.proof{m:mc A6}{a:mc EU}{s:mc Af}(h:Xm m a s)(D:∀f∈s,AJ f){f:Af}(r:AJ f):eH m s (Hz a f)/\(f∈s->∃t x,Hz a f=t++[x]/\x.2.head=f)/\(f∉s->Hz a f=[]):=by
 have o:∀x∈a,∀g∈x.2.pos,g∈s:=by
  intro x c g b;obtain⟨i,d,rfl⟩:=iF c;obtain⟨_,_,_,_,j,_⟩:=h.each i d;obtain⟨y,v,e⟩:=gX.1 (j g b);exact(h.mem g).2 (gX.2 ⟨y,jr v,e⟩)
 have u:Wq a.reverse:=bI a (λi d g b=>by obtain⟨_,_,_,_,j,_⟩:=h.each i d;exact j g b);obtain⟨k,_,w⟩:=TA a.reverse [f] u (List.pairwise_singleton _ _) (λg b=>by simp at b;rw[b];exact r) (λx c g b=>D g (o x (List.mem_reverse.1 c) g b));rw[List.reverse_reverse]at k;refine⟨⟨?_,λA x B e=>?_,λx c=>?_⟩,λl=>?_,λl=>?_⟩
 .exact h.nd.sublist (k.map _)
 .have c:x∈a:=k.subset (by unfold Hz at e;rw[e];simp);obtain⟨i,d,rfl⟩:=iF c;obtain⟨p,σ,n,z,j,q⟩:=h.each i d;exact⟨p,σ,n,z,w A _ B e,q⟩
 .exact(h.mem _).2 (gX.2 ⟨x,k.subset c,rfl⟩)
 .refine Rs _ _ ?_;rw[List.map_reverse,List.mem_reverse];exact(h.mem f).1 l
 .refine R4 _ _ ?_;rw[List.map_reverse,List.mem_reverse];exact λC=>l ((h.mem f).2 C)
theorem Tryz.yH:(Tryz.prog.info? 5).map (λi=>(i.zero,i.size,i.bytes))=V (V (X .u8 0),1,1):=by kernel_rfl
def bw(p:UInt8->Bool)(s:zA)(i:Nat):∀k (a:k<s.size),i<=k->k<AC p s i->p s[k]=j1:=by
 fun_induction AC p s i with
 |case1 i h hp ih=>
  intro k a c b;by_cases e:k=i
  .subst e;exact hp
  .exact ih k a (by omega) b
 |case2 i h hp=>intro k a c b;omega
 |case3 i h=>intro k a c b;omega
def UG{s:zA}{i j:Nat}{c:UInt8}(h:c∈(s.extract i j).toList):∃k,∃b:k<s.size,i<=k/\k<j/\c=s[k]:=by
 rw[iy,ByteArray.data_extract]at h;have a:=Array.mem_toList_iff.1 h;obtain⟨k,b,e⟩:=Array.mem_extract_iff_getElem.1 a;have d:s.data.size=s.size:=rfl;exact⟨i+k,by omega,by omega,by omega,e.symm⟩
def XT{p:UInt8->Bool}{s:zA}{i:Nat}:∀c∈(s.extract i (AC p s i)).toList,p c=j1:=by
 intro c b;obtain⟨k,d,e,a,rfl⟩:=UG b;exact bw p s i k d e a
def X5{p:UInt8->Bool}{s:zA}{i:Nat}(h:i<=s.size):Z (s.extract i (AC p s i)).toList=AC p s i-i:=by
 rw[<-Bg,iW];have:=Ci p s i h;omega
def Pu{s:zA}{at_:Nat}(h:(AY s at_ K).2.2=K):Rh (AY s at_ K).1:=by
 unfold AY at h⊢;rw[gV (by simp)]at h⊢;by_cases a:AC Az s (Ae s at_)=Ae s at_\/4<AC Az s (Ae s at_)-Ae s at_
 .rw[gY a]at h;cases h
 .rw[gV a];have b:AC Az s (Ae s at_)≠Ae s at_:=λe=>a (lx e)
  obtain⟨c,f⟩:=Ke b;have d:=B7 Az s (Ae s at_);have g:=X5 (p:=Az) (Nat.le_of_lt c);show Rh (s.extract (Ae s at_) (AC Az s (Ae s at_)));exact⟨by omega,by omega,XT⟩
def P9{s:zA}{at_:Nat}(h:(AI s at_ K).2.2=K)(a:(AI s at_ K).1.v=0):GB (AI s at_ K).1.s:=by
 unfold AI at h a⊢;rw[gV (by simp)]at h a⊢;by_cases b:Ae s at_<s.size
 .rw[dif_pos b]at h a⊢;cases hu:C2 s[Ae s at_] with
  |true=>
   rw[hu,gY rfl]at a;simp only at a;rw[a]at hu;cases hu
  |false=>
   rw[hu,gV (by simp)]at h;rw[gV (by simp)];cases hd:Ao s[Ae s at_] with
   |false=>
    rw[hd,jb,gY rfl]at h;rw[jb,gY rfl];exact lx (Pu h)
   |true=>
    rw[hd,jW,gV (by simp)]at h;rw[jW,gV (by simp)];by_cases c:3<AC Ao s (Ae s at_)-Ae s at_\/(s[Ae s at_]=48/\1<AC Ao s (Ae s at_)-Ae s at_)
    .rw[gY c]at h;cases h
    .rw[gV c];have g:=B7 Ao s (Ae s at_+1);rw[<-B5 Ao s _ b hd]at g;have d:=X5 (p:=Ao) (Nat.le_of_lt b);have j:=Ci Ao s (Ae s at_) (by omega);refine ly ⟨?_,?_,XT,λr f=>?_⟩
     .show 1<=Z (s.extract (Ae s at_) (AC Ao s (Ae s at_))).toList;omega
     .show Z (s.extract (Ae s at_) (AC Ao s (Ae s at_))).toList<=3;(have:=λx=>c (lx x));omega
     .obtain⟨k,e,_⟩:=IR b j (by omega:Ae s at_<AC Ao s (Ae s at_));simp only at f;rw[f]at e d;have i:=(List.cons.inj e).1;(have:¬1<AC Ao s (Ae s at_)-Ae s at_:=λx=>c (ly ⟨i.symm,x⟩));rw[gW]at d;exact jF.1 (by omega)
 .rw[dif_neg b]at h;cases h
def V6{s:zA}{at_:Nat}(h:(Ch s at_).2.2=K):∀t∈(Ch s at_).1,t.v=0->GB t.s:=by
 fun_induction Ch s at_ with
 |case1 at_ hc _ _ ih=>
  intro t a b;have c:(AI s at_ K).2.2=K:=by
   have:=hc.1;rw[iq]at this;simpa using this.1
  rcases gP.1 a with rfl|a
  .exact P9 c b
  .exact ih h t a b
 |case2 at_ hc=>
  intro t a b;rw[gN]at a;subst a;exact P9 h b
structure Z1(A:Df):Prop where
 name:Rh A.name
 args:∀t∈A.args,t.v=0->GB t.s
def Xe{s:zA}{at_:Nat}(h:(AS s at_ K).2.2=K):Z1 (AS s at_ K).1:=by
 unfold AS at h⊢;simp only at h⊢;have a:=Ii h;have b:(Bn s (AY s (AM s at_ K) K).2.1 (AY s (AM s at_ K) K).2.2 40).2=K:=by
  cases hm:(Bn s (AY s (AM s at_ K) K).2.1 (AY s (AM s at_ K) K).2.2 40).2 with
  |false=>rfl
  |true=>unfold D2 at a;rw[hm,gY rfl]at a;cases a
 refine⟨Pu (Ii b),?_⟩;unfold D2 at a⊢;rw[b,gV (by simp)]at a⊢;exact V6 a
def L4{s:zA}{at_:Nat}(h:(An s at_).2.2=K):Z1 (An s at_).1.head:=by
 unfold An at h⊢;simp only at h⊢;exact Xe (Jg (Ii h)).1
def QL{s:zA}{at_:Nat}(h:(Ap s at_).2.2=K):∀c∈(Ap s at_).1,Z1 c.head:=by
 fun_induction Ap s at_ with
 |case1 at_ ha hc ih=>
  intro c a;rcases gP.1 a with rfl|a
  .exact L4 hc.1
  .exact ih h c a
 |case2 at_ ha hc=>
  intro c a;rw[gN]at a;subst a;exact L4 h
 |case3 at_ ha=>intro c a;cases a
def UE{s:zA}{at_:Nat}{cs:mc A6}(h:(Ap s at_).2.2=K)(d:cs.map A6.erase=(Ap s at_).1){f:Af}(b:DP cs f):Ol f:=by
 have g:∀c∈cs,Z1 c.head:=by
  intro c a;have k:c.erase∈(Ap s at_).1:=by rw[<-d];exact it a
  exact QL h _ k
 obtain⟨c,a,l,i⟩:=b.zh;refine⟨by rw[l];exact(g c a).name,λx r=>?_,λe=>?_⟩
 .obtain⟨o,n,j⟩:=iI.1 (b.args x r);obtain⟨t,p,rfl⟩:=gX.1 j;obtain⟨m,q⟩:=ir.1 p;exact(g o n).args t m (jA.1 q)
 .rw[e]at i;exact Vv h d c a (jF.1 i.symm)
