import Derived.Test.YtoihbhenbmffcaaGreatDoorZAW
import Derived.Test.YtoihbhenbmffcaaGreatDoorZBA
import Derived.Test.YtoihbhenbmffcaaGreatDoorZAU
set_option linter.unusedVariables false
set_option linter.unusedSimpArgs false
set_option maxHeartbeats 6400000
namespace Go.Proofs.YtoihbhenbmffcaaGreatDoor
open Go.RowKit
open Go.Proofs.Tryz
def Yl(x:Aj):List Aj->List Aj
 |[]=>[x]
 |y::m=>if Di x y then x::y::m else y::Yl x m
def Bs(s:List Aj)(f:Aj):List Aj:=if Fq s f then s else Yl f s
def F1(s:List Aj):Prop:=s.Pairwise λa b=>Di a b=true
theorem On(x:Aj):∀(l:List Aj),(Yl x l).length=l.length+1
 |[]=>rfl
 |y::m=>by
  rw[Yl];split
  ·rfl
  ·rw[ak,On x m,ak]
theorem Sh(x:CM):∀(l:List CM),(Oy x l).map CM.f=Yl x.f (l.map CM.f)
 |[]=>rfl
 |y::m=>by
  rw[Oy,aI,Yl];split
  ·rfl
  ·rw[aI,Sh x m]
theorem XZ(l:List CM)(f:Aj):SN l f=Fq (l.map CM.f) f:=by
 unfold SN Fq;rw[dK];rfl
theorem PS(l:List CM)(x:CM):(J0 l x).map CM.f=Bs (l.map CM.f) x.f:=by
 unfold J0 Bs;rw[XZ];split
 ·rfl
 ·rw[UJ,Sh]
def ZK(f:Aj):CM:=⟨f, .bool false⟩
theorem Y5(s:List Aj):(s.map ZK).map CM.f=s:=by
 rw[bX];exact List.map_id s
theorem E8{s:List Aj}{f:Aj}(u:A6 f)(j:F1 s)(t:∀p∈s,A6 p):F1 (Bs s f)/\(∀p∈Bs s f,A6 p)/\∀g,g∈Bs s f↔g∈s\/g=f:=by
 have m:FB (s.map ZK):=by
  unfold FB;rw[cw];exact j
 have k:∀p∈s.map ZK,A6 p.f:=by
  intro p d;obtain⟨g,r,rfl⟩:=az.1 d;exact t g r
 obtain⟨a,b,c⟩:=T8 (l:=s.map ZK) (x:=ZK f) u m k;have e:=PS (s.map ZK) (ZK f);rw[Y5]at e;have o:Bs s f=(J0 (s.map ZK) (ZK f)).map CM.f:=e.symm;rw[o];refine⟨?_,?_,?_⟩
 ·unfold F1;rw[cw];exact a
 ·intro p d;obtain⟨q,i,rfl⟩:=az.1 d;exact b q i
 ·intro g;have n:=c g;rw[az,n];constructor
  ·rintro (⟨p,d,rfl⟩|h)
   ·obtain⟨q,i,rfl⟩:=az.1 d;exact Or.inl i
   ·exact Or.inr h
  ·rintro (h|h)
   ·exact Or.inl ⟨ZK g,aM h,rfl⟩
   ·exact Or.inr h
def consts(cs:List Bf):List cL:=cs.flatMap λc=>(c.head.args.filter λt=>t.v==0).map AG.s
structure Gl(cs:List Bf)(f:Aj):Prop where
 way:∃c∈cs,f.name=c.head.name/\f.args.length=c.head.args.length
 args:∀x∈f.args,x∈consts cs
def Hh(l:List cL):Nat->List (List cL)
 |0=>[[]]
 |n+1=>l.flatMap λx=>(Hh l n).map (x:: ·)
def Qx(cs:List Bf):List Aj:=cs.flatMap λc=>(Hh (consts cs) c.head.args.length).map (Aj.mk c.head.name)
theorem Pj(l:List cL):∀(m:List cL),(∀x∈m,x∈l)->m∈Hh l m.length
 |[],_=>by simp[Hh]
 |x::m,h=>by
  rw[ak,Hh,bh];exact⟨x,h x (by simp),az.2 ⟨m,Pj l m (λy a=>h y (by simp[a])),rfl⟩⟩
theorem Gl.mem{cs:List Bf}{f:Aj}(h:Gl cs f):f∈Qx cs:=by
 obtain⟨c,d,b,a⟩:=h.way;unfold Qx;rw[bh];refine⟨c,d,az.2 ⟨f.args,?_,?_⟩⟩
 ·rw[<-a];exact Pj _ _ h.args
 ·rw[<-b]
theorem MT{α:Type}:∀(l m:List α),l.Nodup->(∀z∈l,z∈m)->l.length<=m.length
 |[],m,_,_=>aG _
 |x::l,m,hn,hs=>by
  rw[ck]at hn;obtain⟨a,b,rfl⟩:=List.append_of_mem (hs x (by simp));have:=MT l (a++b) hn.2 (λz d=>by
   have c:=hs z (by simp[d])
   rw[aw,aj]at c
   rw[aw]
   rcases c with c|c|c
   ·exact Or.inl c
   ·subst c;exact absurd d hn.1
   ·exact Or.inr c)
  simp only[am,ak]at this⊢;omega
theorem F1.nodup{s:List Aj}(h:F1 s)(c:∀f∈s,A6 f):s.Nodup:=by
 unfold List.Nodup;refine cA (fun{a b} ha hb hab e=>?_) h;subst e;rw[WJ (c a ha)]at hab;cases hab
theorem VE{s t:List Aj}(v:F1 s)(r:F1 t)(cs:∀f∈s,A6 f)(ct:∀f∈t,A6 f)(h:∀f,f∈s↔f∈t):s=t:=by
 have q:(s.map CK).Pairwise λa b=>B6 a b<0:=by
  rw[cw];exact cA (fun{a b} i hb g=>(Dc (cs a i) (cs b hb)).1 g) v
 have p:(t.map CK).Pairwise λa b=>B6 a b<0:=by
  rw[cw];exact cA (fun{a b} i hb g=>(Dc (ct a i) (ct b hb)).1 g) r
 have u:s.map CK=t.map CK:=by
  refine Ig (lt:=λa b=>B6 a b<0) (λa i=>?_) (λa b c g o=>Gv g o) _ _ q p (λx=>?_)
  ·have:B6 a a=0:=(Fk a a).2 rfl;omega
  ·rw[az,az];exact⟨fun⟨f,d,e⟩=>⟨f,(h f).1 d,e⟩,fun⟨f,d,e⟩=>⟨f,(h f).2 d,e⟩⟩
 have n:∀(l m:List Aj),(∀f∈l,A6 f)->(∀f∈m,A6 f)->l.map CK=m.map CK->l=m:=by
  intro l
  induction l with
  |nil=>intro m _ _ e;cases m with|nil=>rfl|cons y m=>simp at e
  |cons x l ih=>
   intro m k j e;cases m with
   |nil=>simp at e
   |cons y m=>
    rw[aI,aI,dj]at e;rw[Oo (k x (by simp)) (j y (by simp)) e.1,ih m (λf d=>k f (by simp[d])) (λf d=>j f (by simp[d])) e.2]
 exact n s t cs ct u
def NO(cs:List Bf):Prop:=∀c∈cs,∀t∈c.head.args,t.v=0->AX t.s
theorem Qo{cs:List Bf}(h:NO cs):∀x∈consts cs,AX x:=by
 intro x a;unfold consts at a;obtain⟨c,e,a⟩:=bh.1 a;obtain⟨t,b,rfl⟩:=az.1 a;obtain⟨b,d⟩:=aJ.1 b;exact h c e t b (by simpa using d)
theorem Gl.canon{cs:List Bf}(h:NO cs){f:Aj}(a:Gl cs f):A6 f:=λx b=>Qo h x (a.args x b)
theorem A6.good{f:Aj}(h:A6 f):KE f:=λx a=>(h x a).size
theorem Og{cs:List Bf}(h:QZ cs){s:List Aj}(n:∀f∈s,Gl cs f)(o:∀f∈s,KE f){c:Bf}(g:c∈cs){e:List cL}(b:e∈Cb (Al c) s):Gl cs (AI e c.head):=by
 refine⟨⟨c,g,rfl,by simp[AI]⟩,λx p=>?_⟩;obtain⟨t,i,rfl⟩:=az.1 p;unfold Cb at b;obtain⟨_,_,_,_,m⟩:=DK o (Al c) [Dr] (λe b=>by simp at b;rw[b];rfl) (h.args c g) e (aJ.1 b).1;by_cases d:t.v=0
 ·unfold AU;rw[if_pos d];unfold consts;exact bh.2 ⟨c,g,az.2 ⟨t,aJ.2 ⟨i,by rw[d];rfl⟩,rfl⟩⟩
 ·rcases h.head c g t i with a|⟨y,k,j,u,l,q⟩
  ·exact absurd a d
  ·have a:=(n _ (m y k j).1).args (AU e u) (aM l);unfold AU at a⊢;rw[q]at a;rw[if_neg d]at a⊢;exact a
structure IL(cs:List Bf)(lev:cL->Nat)(n:Nat)(s:List Aj):Prop where
 work:C5 (EF cs) (λf=>lev f.name) n (·∈s)
 rise:F1 s
 inn:∀f∈s,Gl cs f
theorem IL.start(cs:List Bf)(a:cL->Nat):IL cs a 0 []:=
 ⟨(C5.start (EF cs) (λf:Aj=>a f.name)).cong _ _ (λf=>by simp),List.Pairwise.nil,λf b=>by simp at b⟩
theorem IL.len{cs:List Bf}{b:cL->Nat}{n:Nat}{s:List Aj}(c:NO cs)(h:IL cs b n s):s.length<=(Qx cs).length:=
 MT s (Qx cs) (h.rise.nodup λf a=>(h.inn f a).canon c) λf a=>(h.inn f a).mem
structure NU(cs:List Bf)(lev:cL->Nat):Prop where
 good:QZ cs
 lay:Dt cs lev
 heads:NO cs
theorem YO{cs:List Bf}{g:cL->Nat}(j:NU cs g){n:Nat}{i s:List Aj}(p:IL cs g n i)(h:IL cs g n s)(l:∀f∈i,f∈s)(r:∀f∈s,f∈i\/g f.name=n)
  {c:Bf} (q:c∈cs) (u:g c.head.name=n) {e:List cL} (o:e∈Cb (Al c) i):
  IL cs g n (Bs s (AI e c.head))/\(∀f∈i,f∈Bs s (AI e c.head))/\∀f∈Bs s (AI e c.head),f∈i\/g f.name=n:=by
 have t:∀f∈i,KE f:=λf d=>((p.inn f d).canon j.heads).good
 have k:=Og j.good p.inn t q o;obtain⟨a,b,m⟩:=E8 (k.canon j.heads) h.rise (λf d=>(h.inn f d).canon j.heads);refine⟨⟨?_,a,λf d=>?_⟩,λf d=>(m f).2 (Or.inl (l f d)),λf d=>?_⟩
 ·exact(XW j.lay j.good h.work l r t q u o).cong _ _ (λf=>(m f).symm)
 ·rcases(m f).1 d with d|d
  ·exact h.inn f d
  ·rw[d];exact k
 ·rcases(m f).1 d with d|d
  ·exact r f d
  ·right;rw[d];exact u
def Gq(c:Bf)(a:List Aj×Bool)(e:List cL):List Aj×Bool:=if Fq a.1 (AI e c.head)then a else(Bs a.1 (AI e c.head),true)
def Cn(lev:cL->Nat)(n:Nat)(a:List Aj×Bool)(c:Bf):List Aj×Bool:=if lev c.head.name=n then(Cb (Al c) a.1).foldl (Gq c) a else a
def Dw(cs:List Bf)(lev:cL->Nat)(n:Nat)(s:List Aj):List Aj×Bool:=cs.foldl (Cn lev n) (s,false)
theorem Od{cs:List Bf}{b:cL->Nat}(q:NU cs b){n:Nat}{d:List Aj}(i:IL cs b n d){c:Bf}(r:c∈cs)(k:b c.head.name=n):
  ∀(l:List (List cL)) (s:List Aj) (m:Bool),(∀e∈l,e∈Cb (Al c) d)->IL cs b n s->(∀f∈d,f∈s)->(∀f∈s,f∈d\/b f.name=n)->
   IL cs b n (l.foldl (Gq c) (s,m)).1/\s.length<=(l.foldl (Gq c) (s,m)).1.length/\
    ((l.foldl (Gq c) (s,m)).2=false->(l.foldl (Gq c) (s,m)).1=s/\m=false/\∀e∈l,AI e c.head∈s)/\
    ((l.foldl (Gq c) (s,m)).2=true->m=true\/s.length<(l.foldl (Gq c) (s,m)).1.length)
 |[],s,m,_,h,_,_=>⟨h,au _,λa=>⟨rfl,a,λe C=>by simp at C⟩,λa=>Or.inl a⟩
 |e::l,s,m,hl,h,hsub,hnew=>by
  rw[aR];have v:∀e∈l,e∈Cb (Al c) d:=λx g=>hl x (by simp[g])
  cases hh:Fq s (AI e c.head)with
  |true=>
   (have p:Gq c (s,m) e=(s,m):=by unfold Gq;rw[hh,if_pos rfl]);rw[p];obtain⟨o,t,j,u⟩:=Od q i r k l s m v h hsub hnew;refine⟨o,t,λa=>?_,u⟩;obtain⟨y,D,z⟩:=j a;refine⟨y,D,λx g=>?_⟩;rcases aj.1 g with rfl|g
   ·exact(CD _ _).1 hh
   ·exact z x g
  |false=>
   (have p:Gq c (s,m) e=(Bs s (AI e c.head),true):=by unfold Gq;rw[hh,if_neg (by simp)]);rw[p];obtain⟨w,B,A⟩:=YO q i h hsub hnew r k (hl e (by simp));obtain⟨o,t,j,u⟩:=Od q i r k l (Bs s (AI e c.head)) true v w B A;(have E:(Bs s (AI e c.head)).length=s.length+1:=by unfold Bs;rw[hh,if_neg (by simp),On]);refine⟨o,by omega,λa=>?_,λa=>Or.inr (by omega)⟩;have:=(j a).2.1;cases this
theorem IW{cs:List Bf}{a:cL->Nat}(z:NU cs a){n:Nat}:
  ∀(b:List Bf) (s:List Aj) (m:Bool),(∀c∈b,c∈cs)->IL cs a n s->
   IL cs a n (b.foldl (Cn a n) (s,m)).1/\s.length<=(b.foldl (Cn a n) (s,m)).1.length/\
    ((b.foldl (Cn a n) (s,m)).2=false->(b.foldl (Cn a n) (s,m)).1=s/\m=false/\∀c∈b,a c.head.name=n->∀e∈Cb (Al c) s,AI e c.head∈s)/\
    ((b.foldl (Cn a n) (s,m)).2=true->m=true\/s.length<(b.foldl (Cn a n) (s,m)).1.length)
 |[],s,m,_,h=>⟨h,au _,λg=>⟨rfl,g,λc L=>by simp at L⟩,λg=>Or.inl g⟩
 |c::b,s,m,hd,h=>by
  rw[aR];have G:∀c∈b,c∈cs:=λx d=>hd x (by simp[d])
  by_cases k:a c.head.name=n
  ·(have y:Cn a n (s,m) c=(Cb (Al c) s).foldl (Gq c) (s,m):=by unfold Cn;rw[if_pos k]);rw[y];obtain⟨l,F,q,A⟩:=Od z h (hd c (by simp)) k (Cb (Al c) s) s m (λe i=>i) h (λf t=>t) (λf t=>Or.inl t);generalize(Cb (Al c) s).foldl (Gq c) (s,m)=r at l F q A⊢;obtain⟨J,K⟩:=r;simp only at l F q A;obtain⟨w,D,u,v⟩:=IW z b J K G l;refine⟨w,by omega,λg=>?_,λg=>?_⟩
   ·obtain⟨o,B,p⟩:=u g;obtain⟨H,M,I⟩:=q B;subst H;refine⟨o,M,λx d j e i=>?_⟩;rcases aj.1 d with rfl|d
    ·exact I e i
    ·exact p x d j e i
   ·rcases v g with E|E
    ·rcases A E with C|C
     ·exact Or.inl C
     ·exact Or.inr (by omega)
    ·exact Or.inr (by omega)
  ·(have y:Cn a n (s,m) c=(s,m):=by unfold Cn;rw[if_neg k]);rw[y];obtain⟨w,D,u,v⟩:=IW z b s m G h;refine⟨w,D,λg=>?_,v⟩;obtain⟨o,B,p⟩:=u g;refine⟨o,B,λx d j e i=>?_⟩;rcases aj.1 d with rfl|d
   ·exact absurd j k
   ·exact p x d j e i
theorem SR{cs:List Bf}{a:cL->Nat}(b:NU cs a){n:Nat}{s:List Aj}(h:IL cs a n s):
  IL cs a n (Dw cs a n s).1/\((Dw cs a n s).2=false->(Dw cs a n s).1=s/\IL cs a (n+1) s)/\
   ((Dw cs a n s).2=true->s.length<(Dw cs a n s).1.length)/\(Dw cs a n s).1.length<=(Qx cs).length:=by
 unfold Dw;obtain⟨g,p,k,l⟩:=IW b cs s false (λc o=>o) h;refine⟨g,λd=>?_,λd=>?_,g.len b.heads⟩
 ·obtain⟨j,_,m⟩:=k d;exact⟨j,Wz b.good h.work (λf i=>((h.inn f i).canon b.heads).good) m,h.rise,h.inn⟩
 ·rcases l d with e|e
  ·cases e
  ·exact e
theorem YR{cs:List Bf}{d e:cL->Nat}(j:NU cs d)(h:NU cs e){i k:Nat}{s t:List Aj}(a:IL cs d i s)(g:IL cs e k t)(l:∀c∈cs,d c.head.name<i)(m:∀c∈cs,e c.head.name<k):s=t:=
 VE a.rise g.rise (λf b=>(a.inn f b).canon j.heads) (λf b=>(g.inn f b).canon h.heads) (Yd j.lay h.lay a.work g.work l m)
theorem Wu{s:cL}{cs:List Bf}(h:(Au s (Af s 0)).2.2=false)(d:cs.map Bf.erase=(Au s (Af s 0)).1)(e:Cj cs=(0,0)):NU cs (BV cs 6):=by
 have b:=PW e;refine⟨b.good (TR h d),b.levels,λc i t g f=>?_⟩;rcases(Jr h d c i).1.args t g with⟨_,a⟩|a
 ·exact a
 ·rw[f]at a;exact absurd a.1 (by decide)
def BM(x:By):List AG:=if(x.kind==97||x.kind==33)=true then x.A.args else[x.L,x.R]
def Ef(e:List cL)(ts:List AG):Bool:=ts.all λt=> !QR (AU e t)
def DY(body:List By)(s:List Aj)(e:List cL):Bool:=body.any λx=>Ef e (BM x)&& !C1 (AI e) (AU e) s x
def AK(al:UInt8->List cL->List cL)(body:List By)(s:List Aj):List UInt8->List cL->List (List cL)
 |[],e=>if DY body s e then[] else[e]
 |v::vs,e=>if DY body s e then[] else(al v e).flatMap λt=>AK al body s vs (e.set (v.toNat-65) t)
def Yy(e:List cL)(v:UInt8):cL:=e.getD (v.toNat-65) ByteArray.empty
def Fu(v:UInt8):Prop:=65<=v.toNat/\v.toNat<=90
theorem KQ{e:List cL}{v:UInt8}(d:e.length=26)(a:Fu v)(t:cL):Yy (e.set (v.toNat-65) t) v=t:=by
 unfold Yy;obtain⟨b,c⟩:=a;rw[aq,dO (by omega)];rfl
theorem Ye{e:List cL}{u v:UInt8}(c:Fu u)(b:Fu v)(h:u≠v)(t:cL):Yy (e.set (v.toNat-65) t) u=Yy e u:=by
 unfold Yy;have a:v.toNat-65≠u.toNat-65:=by
  intro f;obtain⟨i,d⟩:=c;obtain⟨j,g⟩:=b;exact h (bQ.1 (by omega))
 rw[aq,List.getElem?_set_ne a,<-aq]
theorem Cp{al:UInt8->List cL->List cL}{k:List By}{s:List Aj}(j:∀v e,∀t∈al v e,t.size≠0):
  ∀(d:List UInt8) (e b:List cL),e.length=26->(∀v∈d,Fu v)->b∈AK al k s d e->
   b.length=26/\DY k s b=false/\(∀u,Fu u->u∉d->Yy b u=Yy e u)/\∀v∈d,(Yy b v).size≠0
 |[],e,b,he,_,a=>by
  rw[AK]at a;split at a
  ·simp at a
  ·rename_i m;rw[ae]at a;subst a;exact⟨he,by simpa using m,λ_ _ _=>rfl,λv f=>by simp at f⟩
 |v::d,e,b,he,f,a=>by
  rw[AK]at a;split at a
  ·simp at a
  ·obtain⟨t,q,a⟩:=bh.1 a;have i:=f v (by simp);obtain⟨p,n,l,o⟩:=Cp j d (e.set (v.toNat-65) t) b (by simp[he]) (λu c=>f u (by simp[c])) a;refine⟨p,n,λu c h=>?_,λu c=>?_⟩
   ·rw[aj,not_or]at h;rw[l u c h.2,Ye c i h.1]
   ·by_cases g:u∈d
    ·exact o u g
    ·rcases aj.1 c with rfl|c
     ·rw[l u i g,KQ he i];exact j _ _ t q
     ·exact absurd c g
def La(x:By):Prop:=∀t∈BM x,BD t
theorem DC.lgood{x:By}(h:DC x):La x:=by
 intro t a;unfold DC at h;unfold BM at a;split at h
 ·rename_i b;rw[if_pos b]at a;exact(h.args t a).good
 ·rename_i b;rw[if_neg b]at a;rcases aj.1 a with rfl|a
  ·exact h.1.good
  ·rw[ae]at a;subst a;exact h.2.1.good
theorem NF{e:List cL}{σ:UInt8->cL}{s:List Aj}{x:By}(h:∀t∈BM x,AU e t=EC σ t):C1 (AI e) (AU e) s x=C1 (BJ σ) (EC σ) s x:=by
 unfold BM at h;by_cases a:(x.kind==97||x.kind==33)=true
 ·rw[if_pos a]at h;have c:AI e x.A=BJ σ x.A:=by
   unfold AI BJ;rw[bT h]
  unfold C1;rw[c];rw[bN]at a;rcases a with a|a
  ·rw[if_pos a,if_pos a]
  ·by_cases b:(x.kind==97)=true
   ·rw[if_pos b,if_pos b]
   ·rw[if_neg b,if_neg b,if_pos a,if_pos a]
 ·rw[if_neg a]at h;have f:=h x.L (by simp);have d:=h x.R (by simp);rw[bN,not_or]at a;unfold C1;rw[if_neg a.1,if_neg a.1,if_neg a.2,if_neg a.2,f,d]
theorem P2{b:List By}{s:List Aj}(j:∀x∈b,La x){σ:UInt8->cL}(g:∀x∈b,C1 (BJ σ) (EC σ) s x=true){e:List cL}(h:DI e σ):DY b s e=false:=by
 unfold DY;rw[bW];intro x f a;rw[aO]at a;have i:∀t∈BM x,AU e t=EC σ t:=by
  intro t d;have c:=(cI.1 a.1) t d;refine h.val (j x f t d) (λk=>?_);rw[(DG _).2 k]at c;cases c
 rw[NF i,g x f]at a;simp at a
def Uu(al:UInt8->List cL->List cL)(body:List By)(s:List Aj):Prop:=
 ∀(v:UInt8) (e:List cL) (σ:UInt8->cL),Fu v->DI e σ->(∀x∈body,C1 (BJ σ) (EC σ) s x=true)->(∃x∈body,(x.kind==97)=true/\∃u∈x.A.args,u.v=v)->σ v∈al v e
theorem Hm{al:UInt8->List cL->List cL}{f:List By}{s:List Aj}(k:∀x∈f,La x)(m:Uu al f s){σ:UInt8->cL}(g:∀x∈f,C1 (BJ σ) (EC σ) s x=true):
  ∀(d:List UInt8) (e:List cL),DI e σ->(∀v∈d,Fu v/\∃x∈f,(x.kind==97)=true/\∃u∈x.A.args,u.v=v)->
   ∃b∈AK al f s d e,DI b σ/\(∀v∈d,Yy b v=σ v)/\∀u,Fu u->Yy e u=σ u->Yy b u=σ u
 |[],e,ha,_=>by
  refine⟨e,?_,ha,λv i=>by simp at i,λu _ h=>h⟩;rw[AK,P2 k g ha];simp
 |v::d,e,ha,i=>by
  obtain⟨c,r⟩:=i v (by simp);obtain⟨b,p,n,q,j⟩:=Hm k m g d (e.set (v.toNat-65) (σ v)) (ha.set c.1 c.2) (λu a=>i u (by simp[a]));refine⟨b,?_,n,λu a=>?_,λu a o=>?_⟩
  ·rw[AK,P2 k g ha];rw[if_neg (by simp)];exact bh.2 ⟨σ v,m v e σ c ha g r,p⟩
  ·rcases aj.1 a with rfl|a
   ·exact j u c (KQ ha.1 c _)
   ·exact q u a
  ·by_cases l:u=v
   ·subst l;exact j u a (KQ ha.1 c _)
   ·exact j u a (by rw[Ye a c l];exact o)
def OF(al:UInt8->List cL->List cL)(c:Bf)(hv rv:List UInt8)(s:List Aj):List Aj:=
 ((AK al (Al c) s hv Dr).filter λb=> !Fq s (AI b c.head)&& !(AK al (Al c) s rv b).isEmpty).map λb=>AI b c.head
structure OZ(c:Bf)(hv rv:List UInt8):Prop where
 ok:∀v,v∈hv\/v∈rv->Fu v/\∃x∈Al c,(x.kind==97)=true/\∃u∈x.A.args,u.v=v
 apart:∀v∈hv,v∉rv
 head:∀t∈c.head.args,t.v=0\/t.v∈hv
 body:∀x∈Al c,∀t∈BM x,t.v=0\/t.v∈hv\/t.v∈rv
 lits:∀x∈Al c,La x
theorem It{e:List cL}{t:AG}(h:t.v≠0):AU e t=Yy e t.v:=by
 unfold AU Yy;rw[if_neg h]
theorem PU{al:UInt8->List cL->List cL}{c:Bf}{m k:List UInt8}{s:List Aj}(g:OZ c m k)(w:∀v e,∀t∈al v e,t.size≠0){f:Aj}(p:f∈OF al c m k s):
  f∉s/\∃σ,(∀x∈Al c,C1 (BJ σ) (EC σ) s x=true)/\f=BJ σ c.head:=by
 unfold OF at p;obtain⟨b,n,rfl⟩:=az.1 p;obtain⟨n,y⟩:=aJ.1 n;rw[aO]at y;obtain⟨z,q⟩:=y;refine⟨λh=>?_,?_⟩
 ·rw[(CD _ _).2 h]at z;cases z
 ·obtain⟨a,E⟩:∃a,a∈AK al (Al c) s k b:=by
   cases hl:AK al (Al c) s k b with
   |nil=>rw[hl]at q;simp at q
   |cons x l=>exact⟨x,by simp⟩
  obtain⟨F,_,_,G⟩:=Cp w m Dr b rfl (λv i=>(g.ok v (Or.inl i)).1) n;obtain⟨I,r,D,H⟩:=Cp w k b a F (λv i=>(g.ok v (Or.inr i)).1) E;have u:∀v∈m,Yy a v=Yy b v:=λv i=>D v (g.ok v (Or.inl i)).1 (g.apart v i)
  refine⟨QI a,λx o=>?_,?_⟩
  ·have C:Ef a (BM x)=true:=by
    unfold Ef;rw[cI];intro t j;have B:(AU a t).size≠0:=by
     by_cases d:t.v=0
     ·rcases g.lits x o t j with h|h
      ·unfold AU;rw[if_pos d];exact h.2
      ·rw[d]at h;exact absurd h.1 (by decide)
     ·rw[It d];rcases g.body x o t j with h|h|h
      ·exact absurd h d
      ·rw[u _ h];exact G _ h
      ·exact H _ h
    cases hE:QR (AU a t)with
    |false=>rfl
    |true=>exact absurd ((DG _).1 hE) B
   have A:C1 (AI a) (AU a) s x=true:=by
    unfold DY at r;have:=(bW.1 r) x o;rw[C,cn]at this;simpa using this
   rw[<-NF (e:=a) (σ:=QI a) (λt j=>(R6 a t).symm)];exact A
  ·unfold AI BJ
   congr 1
   refine bT (λt j=>?_);rw[R6];by_cases d:t.v=0
   ·unfold AU;rw[if_pos d,if_pos d]
   ·rw[It d,It d];rcases g.head t j with h|h
    ·exact absurd h d
    ·exact(u _ h).symm
theorem XT{al:UInt8->List cL->List cL}{c:Bf}{f e:List UInt8}{s:List Aj}(a:OZ c f e)(m:Uu al (Al c) s){σ:UInt8->cL}(k:∀x∈Al c,C1 (BJ σ) (EC σ) s x=true):
  BJ σ c.head∈s\/BJ σ c.head∈OF al c f e s:=by
 obtain⟨b,q,o,n,_⟩:=Hm a.lits m k f Dr (DI.start σ) (λv h=>a.ok v (Or.inl h));have g:AI b c.head=BJ σ c.head:=by
  unfold AI BJ
  congr 1
  refine bT (λt p=>?_);by_cases d:t.v=0
  ·unfold AU EC;rw[if_pos d,if_pos d]
  ·rw[It d];unfold EC;rw[if_neg d];rcases a.head t p with h|h
   ·exact absurd h d
   ·exact n _ h
 by_cases i:BJ σ c.head∈s
 ·exact Or.inl i
 ·right;obtain⟨r,j,_⟩:=Hm a.lits m k e b o (λv h=>a.ok v (Or.inr h));unfold OF;refine az.2 ⟨b,aJ.2 ⟨q,?_⟩,g⟩;rw[aO];refine⟨?_,?_⟩
  ·rw[g];cases hh:Fq s (BJ σ c.head)with
   |false=>rfl
   |true=>exact absurd ((CD _ _).1 hh) i
  ·cases hl:AK al (Al c) s e b with
   |nil=>rw[hl]at j;simp at j
   |cons x l=>rfl
def N5(e:List cL)(ts:List AG)(xs:List cL):Bool:=(ts.zip xs).all λp=>QR (AU e p.1)||(AU e p.1).toList==p.2.toList
def FD(s:List Aj)(A:CQ)(i:Nat)(e:List cL):List cL:=(s.filter λf=>(f.name.toList==A.name.toList)&&N5 e A.args f.args).map λf=>f.args.getD i ByteArray.empty
def CH(body:List By)(s:List Aj)(v:UInt8)(e:List cL):List (List cL):=
 body.filterMap λx=>if x.kind==97 then(x.A.args.findIdx? λt=>t.v==v).map λi=>FD s x.A i e else none
def Mw(al:UInt8->List cL->List cL)(body:List By)(s:List Aj):Prop:=∀v e t,t∈al v e↔CH body s v e≠[]/\∀l∈CH body s v e,t∈l
theorem Sy{e:List cL}{σ:UInt8->cL}(b:DI e σ):∀(a:List AG),(∀t∈a,BD t)->N5 e a (a.map (EC σ))=true
 |[],_=>rfl
 |t::a,hg=>by
  have ih:=Sy b a (λu c=>hg u (by simp[c]));unfold N5 at ih⊢;rw[aI,dL,dh,ih,Bool.and_true];cases hz:QR (AU e t)with
  |true=>rfl
  |false=>
   rw[cU,b.val (hg t (by simp)) (λh=>by rw[(DG _).2 h]at hz;cases hz)];simp
theorem Vd{al:UInt8->List cL->List cL}{d:List By}{s:List Aj}(y:Mw al d s)(p:∀x∈d,La x):Uu al d s:=by
 intro v e σ k E D o;rw[y];refine⟨λf=>?_,λl j=>?_⟩
 ·obtain⟨x,c,b,u,w,z⟩:=o;unfold CH at f;rw[List.filterMap_eq_nil_iff]at f;have a:=f x c;rw[if_pos b,Option.map_eq_none_iff,List.findIdx?_eq_none_iff]at a;have:=a u w;rw[z]at this;simp at this
 ·unfold CH at j;obtain⟨x,c,a⟩:=cD.1 j;by_cases b:(x.kind==97)=true
  ·rw[if_pos b,de]at a;obtain⟨i,C,rfl⟩:=a;obtain⟨m,B,_⟩:=bZ.1 C;(have q:v≠0:=λh=>by rw[h]at k;exact absurd k.1 (by decide));(have g:x.A.args[i].v=v:=by simpa using B);have r:BJ σ x.A∈s:=by
    have:=D x c;unfold C1 at this;rw[if_pos b]at this;exact(CD _ _).1 this
   unfold FD;refine az.2 ⟨BJ σ x.A,aJ.2 ⟨r,?_⟩,?_⟩
   ·rw[aO];refine⟨by simp[BJ],Sy E x.A.args (λt n=>p x c t ?_)⟩;unfold BM;rw[b,dl,if_pos rfl];exact n
   ·unfold BJ;simp only;rw[aq,cu,aA m];simp only[cQ,Option.getD_some];unfold EC;rw[if_neg (by rw[g];exact q),g]
  ·rw[if_neg b]at a;cases a
theorem YB{al:UInt8->List cL->List cL}{b:List By}{s:List Aj}(w:Mw al b s)(u:∀f∈s,KE f)(r:∀f∈s,∀x∈b,(x.kind==97)=true->f.name=x.A.name->f.args.length=x.A.args.length):∀v e,∀t∈al v e,t.size≠0:=by
 intro v e t q;obtain⟨B,C⟩:=(w v e t).1 q;obtain⟨l,g⟩:∃l,l∈CH b s v e:=by
  cases h:CH b s v e with
  |nil=>exact absurd h B
  |cons a m=>exact⟨a,by simp⟩
 have n:=C l g;unfold CH at g;obtain⟨x,z,c⟩:=cD.1 g;by_cases d:(x.kind==97)=true
 ·rw[if_pos d,de]at c;obtain⟨i,y,rfl⟩:=c;obtain⟨D,_,_⟩:=bZ.1 y;unfold FD at n;obtain⟨f,p,rfl⟩:=az.1 n;obtain⟨k,o⟩:=aJ.1 p;rw[aO]at o;have E:=r f k x z d (toList_inj (by simpa using o.1));have j:i<f.args.length:=by omega
  rw[aq,aA j];exact u f k _ (Z7 j)
 ·rw[if_neg d]at c;cases c
theorem UH{cs:List Bf}{e:cL->Nat}(l:NU cs e){n:Nat}{j s:List Aj}(E:IL cs e n j)(h:IL cs e n s)(D:∀f∈j,f∈s)(z:∀f∈s,f∈j\/e f.name=n)
  {c:Bf} (q:c∈cs) (r:e c.head.name=n) {σ:UInt8->cL} (C:∀x∈Al c,C1 (BJ σ) (EC σ) j x=true):
  IL cs e n (Bs s (BJ σ c.head))/\(∀f∈j,f∈Bs s (BJ σ c.head))/\(∀f∈Bs s (BJ σ c.head),f∈j\/e f.name=n):=by
 have A:Gl cs (BJ σ c.head):=by
  refine⟨⟨c,q,rfl,by simp[BJ]⟩,λx M=>?_⟩;obtain⟨t,w,rfl⟩:=az.1 M;by_cases p:t.v=0
  ·unfold EC;rw[if_pos p];unfold consts;exact bh.2 ⟨c,q,az.2 ⟨t,aJ.2 ⟨w,by rw[p];rfl⟩,rfl⟩⟩
  ·rcases l.good.head c q t w with G|⟨y,I,F,u,J,L⟩
   ·exact absurd G p
   ·have i:=C y I;unfold C1 at i;rw[if_pos F,CD]at i;have k:=(E.inn _ i).args (EC σ u) (aM J);unfold EC at k⊢;rw[L]at k;rw[if_neg p]at k⊢;exact k
 obtain⟨a,b,m⟩:=E8 (A.canon l.heads) h.rise (λf d=>(h.inn f d).canon l.heads);have i:=(Hy c σ j).1 C;have B:EF cs (GP c σ):=⟨c,q,σ,i.2,rfl⟩;have H:=h.work.step (EF cs) (λf=>e f.name) l.lay.layered B r ⟨λg o=>D g (i.1.1 g o),λg o K=>by
  rcases z g K with h|h
  ·exact i.1.2 g o h
  ·have k:e g.name<e (GP c σ).head.name:=l.lay.layered.neg _ B g o
   have N:e (GP c σ).head.name=n:=r
   omega⟩
 refine⟨⟨H.cong _ _ (λf=>(m f).symm),a,λf d=>?_⟩,λf d=>(m f).2 (Or.inl (D f d)),λf d=>?_⟩
 ·rcases(m f).1 d with d|d
  ·exact h.inn f d
  ·rw[d];exact A
 ·rcases(m f).1 d with d|d
  ·exact z f d
  ·right;rw[d];exact r
theorem I6(s:List Aj)(f:Aj):s.length<=(Bs s f).length/\(f∉s->(Bs s f).length=s.length+1):=by
 unfold Bs;cases hh:Fq s f with
 |true=>rw[if_pos rfl];exact⟨au _,λh=>absurd ((CD _ _).1 hh) h⟩
 |false=>rw[if_neg (by simp),On];exact⟨by omega,λ_=>rfl⟩
theorem Ja{cs:List Bf}{a:cL->Nat}(d:NU cs a){n:Nat}{b:List Aj}(e:IL cs a n b){c:Bf}(i:c∈cs)(j:a c.head.name=n):
  ∀(l:List Aj) (s:List Aj),(∀f∈l,∃σ,(∀x∈Al c,C1 (BJ σ) (EC σ) b x=true)/\f=BJ σ c.head)->IL cs a n s->(∀f∈b,f∈s)->(∀f∈s,f∈b\/a f.name=n)->
   IL cs a n (l.foldl Bs s)/\s.length<=(l.foldl Bs s).length
 |[],s,_,h,_,_=>⟨h,au _⟩
 |f::l,s,hl,h,hsub,hnew=>by
  obtain⟨σ,q,rfl⟩:=hl f (by simp);obtain⟨k,o,p⟩:=UH d e h hsub hnew i j q;obtain⟨m,t⟩:=Ja d e i j l _ (λg r=>hl g (by simp[r])) k o p;rw[aR];have:=(I6 s (BJ σ c.head)).1;exact⟨m,by omega⟩
structure Sn where
 hv:Bf->List UInt8
 rv:Bf->List UInt8
 al:Bf->List Aj->UInt8->List cL->List cL
def Sn.new(W:Sn)(c:Bf)(s:List Aj):List Aj:=OF (W.al c s) c (W.hv c) (W.rv c) s
def Ic(W:Sn)(a:List Aj×Bool)(c:Bf):List Aj×Bool:=((W.new c a.1).foldl Bs a.1,a.2|| !(W.new c a.1).isEmpty)
def EU(W:Sn)(ds:List Bf)(s:List Aj):List Aj×Bool:=ds.foldl (Ic W) (s,false)
structure OO(W:Sn)(cs:List Bf):Prop where
 parts:∀c∈cs,OZ c (W.hv c) (W.rv c)
 al:∀c∈cs,∀s,Mw (W.al c s) (Al c) s
 arity:∀c∈cs,∀d∈cs,∀x∈Al d,(x.kind==97)=true->c.head.name=x.A.name->c.head.args.length=x.A.args.length
theorem OO.sizes{W:Sn}{cs:List Bf}{b:cL->Nat}(g:OO W cs)(l:NU cs b)(r:∀c∈cs,∀d∈cs,c.head.name=d.head.name->c.head.args.length=d.head.args.length){n:Nat}{s:List Aj}(h:IL cs b n s){c:Bf}(i:c∈cs):∀v e,∀t∈W.al c s v e,t.size≠0:=by
 refine YB (g.al c i s) (λf a=>((h.inn f a).canon l.heads).good) (λf a x p k q=>?_);obtain⟨d,j,o,m⟩:=(h.inn f a).way;rw[m];exact g.arity d j c i x p k (by rw[<-o];exact q)
theorem Lz{W:Sn}{cs:List Bf}{o:cL->Nat}(p:OO W cs)(j:NU cs o)(q:∀c∈cs,∀d∈cs,c.head.name=d.head.name->c.head.args.length=d.head.args.length){n:Nat}:
  ∀(b:List Bf) (s:List Aj) (m:Bool),(∀c∈b,c∈cs/\o c.head.name=n)->IL cs o n s->
   IL cs o n (b.foldl (Ic W) (s,m)).1/\s.length<=(b.foldl (Ic W) (s,m)).1.length/\
    ((b.foldl (Ic W) (s,m)).2=false->(b.foldl (Ic W) (s,m)).1=s/\m=false/\∀c∈b,W.new c s=[])/\
    ((b.foldl (Ic W) (s,m)).2=true->m=true\/s.length<(b.foldl (Ic W) (s,m)).1.length)
 |[],s,m,_,h=>⟨h,au _,λe=>⟨rfl,e,λc i=>by simp at i⟩,λe=>Or.inl e⟩
 |c::b,s,m,hd,h=>by
  rw[aR];have A:∀c∈b,c∈cs/\o c.head.name=n:=λx k=>hd x (by simp[k])
  obtain⟨i,u⟩:=hd c (by simp);have r:∀f∈W.new c s,f∉s/\∃σ,(∀x∈Al c,C1 (BJ σ) (EC σ) s x=true)/\f=BJ σ c.head:=λf a=>PU (p.parts c i) (p.sizes j q h i) a
  obtain⟨B,N⟩:=Ja j h i u (W.new c s) s (λf a=>(r f a).2) h (λf a=>a) (λf a=>Or.inl a);cases hl:W.new c s with
  |nil=>
   (have w:Ic W (s,m) c=(s,m):=by unfold Ic;simp only;rw[hl];simp);rw[w];obtain⟨v,y,t,z⟩:=Lz p j q b s m A h;refine⟨v,y,λe=>?_,z⟩;obtain⟨C,I,D⟩:=t e;refine⟨C,I,λx k=>?_⟩;rcases aj.1 k with rfl|k
   ·exact hl
   ·exact D x k
  |cons f l=>
   have a:=r f (by rw[hl];simp);(have w:Ic W (s,m) c=((W.new c s).foldl Bs s,true):=by unfold Ic;simp only;rw[hl];simp);rw[w];obtain⟨v,y,t,z⟩:=Lz p j q b _ true A B;have M:s.length<((W.new c s).foldl Bs s).length:=by
    rw[hl,aR];have L:=(I6 s f).2 a.1;obtain⟨σ,H,rfl⟩:=a.2;obtain⟨F,J,G⟩:=UH j h h (λf a=>a) (λf a=>Or.inl a) i u H;have K:=(Ja j h i u l _ (λg E=>(r g (by rw[hl];simp[E])).2) F J G).2;omega
   refine⟨v,by omega,λe=>?_,λe=>Or.inr (by omega)⟩;have:=(t e).2.1;cases this
theorem V4{W:Sn}{cs:List Bf}{a:cL->Nat}(j:OO W cs)(p:NU cs a)(u:∀c∈cs,∀d∈cs,c.head.name=d.head.name->c.head.args.length=d.head.args.length){n:Nat}{ds:List Bf}(l:∀c,c∈ds↔c∈cs/\a c.head.name=n){s:List Aj}(h:IL cs a n s):
  IL cs a n (EU W ds s).1/\((EU W ds s).2=false->(EU W ds s).1=s/\IL cs a (n+1) s)/\
   ((EU W ds s).2=true->s.length<(EU W ds s).1.length)/\(EU W ds s).1.length<=(Qx cs).length:=by
 unfold EU;obtain⟨o,z,v,w⟩:=Lz j p u ds s false (λc b=>(l c).1 b) h;refine⟨o,λk=>?_,λk=>?_,o.len p.heads⟩
 ·obtain⟨q,_,r⟩:=v k;refine⟨q,h.work.next (EF cs) (λf=>a f.name) ?_,h.rise,h.inn⟩;rintro i ⟨c,b,σ,y,rfl⟩ x t;have e:=(Hy c σ s).2 ⟨t,y⟩;rcases XT (j.parts c b) (Vd (j.al c b s) (j.parts c b).lits) e with g|g
  ·exact g
  ·have m:W.new c s=[]:=r c ((l c).2 ⟨b,x⟩);unfold Sn.new at m;rw[m]at g;simp at g
 ·rcases w k with e|e
  ·cases e
  ·exact e
def E0(L:cL->Nat)(n:Nat)(x:By):Nat:=if x.kind==97 then max n (L x.A.name)else if x.kind==33 then max n (L x.A.name+1)else n
def FR(L:cL->Nat)(body:List By):Nat:=body.foldl (E0 L) 0
def MD(L:cL->Nat)(k:cL)(n:Nat):cL->Nat:=λx=>if x.toList==k.toList then n else L x
def DJ(a:(cL->Nat)×Bool)(c:Bf):(cL->Nat)×Bool:=if a.1 c.head.name<FR a.1 (Al c)then(MD a.1 c.head.name (FR a.1 (Al c)),true)else a
def JF(cs:List Bf)(L:cL->Nat):(cL->Nat)×Bool:=cs.foldl DJ (L,false)
def Dz(cs:List Bf)(L:cL->Nat):Nat:=(cs.map λc=>L c.head.name).sum
theorem F9(L:cL->Nat)(k:cL)(n:Nat):MD L k n k=n:=by unfold MD;simp
theorem Hs{L:cL->Nat}{k x:cL}(n:Nat)(h:x≠k):MD L k n x=L x:=by
 unfold MD;rw[if_neg (λa=>h (toList_inj (by simpa using a)))]
theorem Lx(L:cL->Nat):∀(a:List By) (n:Nat),n<=a.foldl (E0 L) n/\∀x∈a,((x.kind==97)=true->L x.A.name<=a.foldl (E0 L) n)/\((x.kind==33)=true->L x.A.name<a.foldl (E0 L) n)
 |[],n=>⟨au _,λx c=>by simp at c⟩
 |y::a,n=>by
  rw[aR];obtain⟨k,i⟩:=Lx L a (E0 L n y);have e:n<=E0 L n y/\((y.kind==97)=true->L y.A.name<=E0 L n y)/\((y.kind==33)=true->L y.A.name<E0 L n y):=by
   unfold E0;by_cases b:(y.kind==97)=true
   ·rw[if_pos b];refine⟨by omega,λ_=>by omega,λj=>?_⟩;(have g:y.kind=97:=by simpa using b);(have f:y.kind=33:=by simpa using j);rw[g]at f;exact absurd f (by decide)
   ·rw[if_neg b];by_cases d:(y.kind==33)=true
    ·rw[if_pos d];exact⟨by omega,λh=>absurd h b,λ_=>by omega⟩
    ·rw[if_neg d];exact⟨by omega,λh=>absurd h b,λh=>absurd h d⟩
  refine⟨by omega,λx c=>?_⟩;rcases aj.1 c with rfl|c
  ·exact⟨λh=>by have:=e.2.1 h;omega,λh=>by have:=e.2.2 h;omega⟩
  ·exact i x c
theorem Ln{L:cL->Nat}{b:Nat}:∀(a:List By) (n:Nat),n<=b->(∀x∈a,((x.kind==97)=true->L x.A.name<=b)/\((x.kind==33)=true->L x.A.name<b))->a.foldl (E0 L) n<=b
 |[],n,hn,_=>hn
 |y::a,n,hn,h=>by
  rw[aR];refine Ln a _ ?_ (λx g=>h x (by simp[g]));obtain⟨f,e⟩:=h y (by simp);unfold E0;by_cases c:(y.kind==97)=true
  ·rw[if_pos c];have:=f c;omega
  ·rw[if_neg c];by_cases d:(y.kind==33)=true
   ·rw[if_pos d];have:=e d;omega
   ·rw[if_neg d];exact hn
theorem Ur{cs:List Bf}{L K:cL->Nat}(h:∀x,L x<=K x):Dz cs L<=Dz cs K:=by
 unfold Dz
 induction cs with
 |nil=>simp
 |cons c cs ih=>
  simp only[aI,List.sum_cons];have:=h c.head.name;omega
theorem Ys{cs:List Bf}{L K:cL->Nat}(h:∀x,L x<=K x){c:Bf}(a:c∈cs)(f:L c.head.name<K c.head.name):Dz cs L<Dz cs K:=by
 induction cs with
 |nil=>simp at a
 |cons d cs ih=>
  have b:=h d.head.name;have g:=Ur (cs:=cs) h;have e:∀M,Dz (d::cs) M=M d.head.name+Dz cs M:=λM=>by unfold Dz;simp
  rw[e,e];rcases aj.1 a with rfl|a
  ·omega
  ·have:=ih a;omega
theorem Ii{cs:List Bf}{f:cL->Nat}(i:Dt cs f):∀(b:List Bf) (L:cL->Nat) (m:Bool),(∀c∈b,c∈cs)->(∀x,L x<=f x)->
  (∀x,L x<=(b.foldl DJ (L,m)).1 x)/\(∀x,(b.foldl DJ (L,m)).1 x<=f x)/\
   ((b.foldl DJ (L,m)).2=false->(b.foldl DJ (L,m)).1=L/\m=false/\∀c∈b,FR L (Al c)<=L c.head.name)/\
   ((b.foldl DJ (L,m)).2=true->m=true\/Dz cs L<Dz cs (b.foldl DJ (L,m)).1)
 |[],L,m,_,h=>⟨λx=>au _,h,λd=>⟨rfl,d,λc g=>by simp at g⟩,λd=>Or.inl d⟩
 |c::b,L,m,hd,h=>by
  rw[aR];have r:∀c∈b,c∈cs:=λx a=>hd x (by simp[a])
  have g:=hd c (by simp);by_cases o:L c.head.name<FR L (Al c)
  ·(have n:DJ (L,m) c=(MD L c.head.name (FR L (Al c)),true):=by unfold DJ;rw[if_pos o]);rw[n];have p:∀x,L x<=MD L c.head.name (FR L (Al c)) x:=by
    intro x;by_cases a:x=c.head.name
    ·subst a;rw[F9];omega
    ·rw[Hs _ a];exact au _
   have u:FR L (Al c)<=f c.head.name:=by
    refine Ln _ _ (aG _) (λx a=>⟨λk=>?_,λk=>?_⟩)
    ·exact bM (h _) (i.pos c g x a k)
    ·exact Nat.lt_of_le_of_lt (h _) (i.neg c g x a k)
   have w:∀x,MD L c.head.name (FR L (Al c)) x<=f x:=by
    intro x;by_cases a:x=c.head.name
    ·subst a;rw[F9];exact u
    ·rw[Hs _ a];exact h x
   obtain⟨e,j,l,q⟩:=Ii i b _ true r w;refine⟨λx=>bM (p x) (e x),j,λd=>?_,λd=>Or.inr ?_⟩
   ·have:=(l d).2.1;cases this
   ·refine Ys (λx=>bM (p x) (e x)) g ?_;have v:=e c.head.name;rw[F9]at v;omega
  ·(have n:DJ (L,m) c=(L,m):=by unfold DJ;rw[if_neg o]);rw[n];obtain⟨e,j,l,q⟩:=Ii i b L m r h;refine⟨e,j,λd=>?_,q⟩;obtain⟨s,y,t⟩:=l d;refine⟨s,y,λx a=>?_⟩;rcases aj.1 a with rfl|a
   ·omega
   ·exact t x a
theorem TW{cs:List Bf}{d:cL->Nat}(o:Dt cs d){L:cL->Nat}(h:∀x,L x<=d x):
  (∀x,(JF cs L).1 x<=d x)/\((JF cs L).2=false->(JF cs L).1=L/\Dt cs L)/\((JF cs L).2=true->Dz cs L<Dz cs (JF cs L).1)/\Dz cs (JF cs L).1<=Dz cs d:=by
 unfold JF;obtain⟨_,j,n,m⟩:=Ii o cs L false (λc b=>b) h;refine⟨j,λe=>?_,λe=>?_,Ur j⟩
 ·obtain⟨l,_,k⟩:=n e;refine⟨l,λc b x i f=>?_,λc b x i f=>?_⟩
  ·have a:=((Lx L (Al c) 0).2 x i).1 f;have g:FR L (Al c)<=L c.head.name:=k c b;exact bM a g
  ·have a:=((Lx L (Al c) 0).2 x i).2 f;have g:FR L (Al c)<=L c.head.name:=k c b;exact cB a g
 ·rcases m e with a|a
  ·cases a
  ·exact a
def G1(acc:List UInt8)(t:AG):List UInt8:=if(t.v !=0&& !acc.contains t.v)=true then acc++[t.v] else acc
def GJ(acc:List UInt8)(ts:List AG):List UInt8:=ts.foldl G1 acc
theorem EB:∀(f:List AG) (c:List UInt8),c.Nodup->(∃r,GJ c f=c++r)/\(GJ c f).Nodup/\∀v,v∈GJ c f↔v∈c\/(v≠0/\∃t∈f,t.v=v)
 |[],c,h=>⟨⟨[],by simp[GJ]⟩,h,λv=>by simp[GJ]⟩
 |t::f,c,h=>by
  have e:GJ c (t::f)=GJ (G1 c t) f:=rfl;rw[e];by_cases i:(t.v !=0&& !c.contains t.v)=true
  ·(have m:G1 c t=c++[t.v]:=by unfold G1;rw[if_pos i]);rw[m];rw[aO]at i;have y:t.v∉c:=by
    intro j;have:=i.2;rw[eo.2 j]at this;cases this
   (have w:t.v≠0:=by simpa using i.1);have x:(c++[t.v]).Nodup:=by
    rw[List.nodup_append];refine⟨h,by simp,λa n b o s=>?_⟩;rw[ae]at o;subst o;rw[s]at n;exact y n
   obtain⟨⟨r,p⟩,k,l⟩:=EB f (c++[t.v]) x;refine⟨⟨t.v::r,by rw[p];simp⟩,k,λv=>?_⟩;rw[l,aw,ae];constructor
   ·rintro ((h|h)|⟨h,u,d,g⟩)
    ·exact Or.inl h
    ·subst h;exact Or.inr ⟨w,t,by simp,rfl⟩
    ·exact Or.inr ⟨h,u,by simp[d],g⟩
   ·rintro (h|⟨h,u,d,g⟩)
    ·exact Or.inl (Or.inl h)
    ·rcases aj.1 d with rfl|d
     ·exact Or.inl (Or.inr g.symm)
     ·exact Or.inr ⟨h,u,d,g⟩
  ·(have m:G1 c t=c:=by unfold G1;rw[if_neg i]);rw[m];obtain⟨q,k,l⟩:=EB f c h;refine⟨q,k,λv=>?_⟩;rw[l];constructor
   ·rintro (h|⟨h,u,d,g⟩)
    ·exact Or.inl h
    ·exact Or.inr ⟨h,u,by simp[d],g⟩
   ·rintro (h|⟨h,u,d,g⟩)
    ·exact Or.inl h
    ·rcases aj.1 d with rfl|d
     ·left;subst g;rw[aO]at i;cases j:c.contains u.v with
      |true=>exact eo.1 j
      |false=>exact absurd ⟨by simpa using h,by rw[j];rfl⟩ i
     ·exact Or.inr ⟨h,u,d,g⟩
def Cf(c:Bf):List UInt8:=GJ [] c.head.args
def C2(c:Bf):List UInt8:=(GJ [] (c.head.args++(Al c).flatMap BM)).drop (Cf c).length
theorem LF(c:Bf):GJ [] (c.head.args++(Al c).flatMap BM)=Cf c++C2 c:=by
 have e:GJ [] (c.head.args++(Al c).flatMap BM)=GJ (Cf c) ((Al c).flatMap BM):=by
  unfold GJ Cf GJ;rw[bD]
 obtain⟨⟨r,a⟩,_,_⟩:=EB ((Al c).flatMap BM) (Cf c) (EB c.head.args [] cZ).2.1;unfold C2;rw[e,a,List.drop_left]
theorem SF{cs:List Bf}(m:QZ cs){c:Bf}(n:c∈cs)(w:∀x∈Al c,DC x):OZ c (Cf c) (C2 c):=by
 have i:=EB (c.head.args++(Al c).flatMap BM) [] cZ;have B:=EB c.head.args [] cZ;rw[LF]at i;have k:∀t,t.v≠0->FQ (Al c) t->∃x∈Al c,(x.kind==97)=true/\∃u∈x.A.args,u.v=t.v:=by
  intro t b q;rcases q with h|h
  ·exact absurd h b
  ·exact h
 have s:∀v,v∈Cf c\/v∈C2 c->∃x∈Al c,(x.kind==97)=true/\∃u∈x.A.args,u.v=v:=by
  intro v g;have d:=(i.2.2 v).1 (aw.2 g);rcases d with d|⟨b,t,a,rfl⟩
  ·simp at d
  ·rcases aw.1 a with a|a
   ·exact k t b (m.head c n t a)
   ·obtain⟨x,e,a⟩:=bh.1 a;by_cases f:(x.kind==97)=true
    ·unfold BM at a;rw[f,dl,if_pos rfl]at a;exact⟨x,e,f,t,a,rfl⟩
    ·have p:=m.safe c n x e (by simpa using f);unfold BM at a;by_cases j:(x.kind==33)=true
     ·rw[j,dJ,if_pos rfl]at a;exact k t b (p.1 j t a)
     ·rw[if_neg (by rw[bN,not_or];exact⟨f,j⟩)]at a;obtain⟨z,r⟩:=p.2 (by simpa using j);rcases aj.1 a with rfl|a
      ·exact k _ b z
      ·rw[ae]at a;subst a;exact k _ b r
 refine⟨λv g=>?_,?_,?_,?_,λx e=>(w x e).lgood⟩
 ·obtain⟨x,e,f,u,o,l⟩:=s v g;refine⟨?_,x,e,f,u,o,l⟩;have d:=(i.2.2 v).1 (aw.2 g);have b:v≠0:=by
   rcases d with d|d
   ·simp at d
   ·exact d.1
  rcases m.args c n x e f u o with h|h
  ·rw[l]at h;exact absurd h.1 b
  ·rw[l]at h;exact h
 ·intro v g y;have:=(List.nodup_append.1 i.2.1).2.2 v g v y;exact this rfl
 ·intro t a;by_cases b:t.v=0
  ·exact Or.inl b
  ·exact Or.inr ((B.2.2 t.v).2 (Or.inr ⟨b,t,a,rfl⟩))
 ·intro x e t a;by_cases b:t.v=0
  ·exact Or.inl b
  ·right;exact aw.1 ((i.2.2 t.v).2 (Or.inr ⟨b,t,aw.2 (Or.inr (bh.2 ⟨x,e,a⟩)),rfl⟩))
theorem CP.arHead{cs:List Bf}(h:CP cs):∀c∈cs,DL cs c.head.name=(c.head.args.length:Int):=by
 intro c a;obtain⟨k,b,rfl⟩:=aZ a;exact(F0 (h.each k b)).2.2.2.2.2.1
theorem CP.arBody{cs:List Bf}(h:CP cs):∀c∈cs,∀x∈Al c,(x.kind==97)=true->DL cs x.A.name=(x.A.args.length:Int):=by
 intro c f x g d;obtain⟨k,e,rfl⟩:=aZ f;obtain⟨p,b,rfl⟩:=az.1 g;have a:=(cg.1 (F0 (h.each k e)).2.2.2.2.2.2.1) p b;unfold Bu Nf at a;rw[d,dl,cn]at a;simpa using a
theorem CP.ar2{cs:List Bf}(h:CP cs):∀c∈cs,∀d∈cs,c.head.name=d.head.name->c.head.args.length=d.head.args.length:=by
 intro c b d a e;have f:=h.arHead c b;rw[e,h.arHead d a]at f;omega
theorem CP.ar3{cs:List Bf}(h:CP cs):∀c∈cs,∀d∈cs,∀x∈Al d,(x.kind==97)=true->c.head.name=x.A.name->c.head.args.length=x.A.args.length:=by
 intro c g d a x i b e;have f:=h.arHead c g;rw[e,h.arBody d a x i b]at f;omega
theorem Ow(cs:List Bf):∀(d:Nat) (x:cL),BV cs d x<=d
 |0,x=>au 0
 |d+1,x=>by
  by_cases h:0<BV cs (d+1) x
  ·obtain⟨y,b,a,e⟩:=N7 cs d x h;have f:b<=1:=by
    obtain⟨c,_,_,l,_,_,h|h⟩:=a<;>omega
   have:=Ow cs d y;omega
  ·omega
structure D7(cs:List Bf):Prop where
 order:CP cs
 prog:NU cs (BV cs 6)
 lits:∀c∈cs,∀x∈Al c,DC x
 heads:∀c∈cs,JI c.head
theorem GG{s:cL}{cs:List Bf}(h:(Au s (Af s 0)).2.2=false)(b:cs.map Bf.erase=(Au s (Af s 0)).1)(d:Cj cs=(0,0)):D7 cs:=
 ⟨PW d,Wu h b d,λc a=>(Jr h b c a).2,λc a=>(Jr h b c a).1⟩
def DM(al:Bf->List Aj->UInt8->List cL->List cL):Sn:=⟨Cf,C2,al⟩
theorem D7.ways{cs:List Bf}(h:D7 cs){al:Bf->List Aj->UInt8->List cL->List cL}(b:∀c∈cs,∀s,Mw (al c s) (Al c) s):OO (DM al) cs:=
 ⟨λc a=>SF h.prog.good a (h.lits c a),b,h.order.ar3⟩
theorem D7.other{cs:List Bf}(h:D7 cs){L:cL->Nat}(a:Dt cs L):NU cs L:=⟨h.prog.good,a,h.prog.heads⟩
theorem D7.grow{cs:List Bf}(h:D7 cs){al:Bf->List Aj->UInt8->List cL->List cL}(b:∀c∈cs,∀s,Mw (al c s) (Al c) s){L:cL->Nat}(e:Dt cs L){n:Nat}{ds:List Bf}(a:∀c,c∈ds↔c∈cs/\L c.head.name=n){s:List Aj}(d:IL cs L n s):
  IL cs L n (EU (DM al) ds s).1/\((EU (DM al) ds s).2=false->(EU (DM al) ds s).1=s/\IL cs L (n+1) s)/\
   ((EU (DM al) ds s).2=true->s.length<(EU (DM al) ds s).1.length)/\(EU (DM al) ds s).1.length<=(Qx cs).length:=
 V4 (h.ways b) (h.other e) h.order.ar2 a d
theorem D7.round{cs:List Bf}(h:D7 cs){n:Nat}{s:List Aj}(a:IL cs (BV cs 6) n s):
  IL cs (BV cs 6) n (Dw cs (BV cs 6) n s).1/\((Dw cs (BV cs 6) n s).2=false->(Dw cs (BV cs 6) n s).1=s/\IL cs (BV cs 6) (n+1) s)/\
   ((Dw cs (BV cs 6) n s).2=true->s.length<(Dw cs (BV cs 6) n s).1.length)/\(Dw cs (BV cs 6) n s).1.length<=(Qx cs).length:=
 SR h.prog a
theorem D7.one{cs:List Bf}(h:D7 cs){s t:List Aj}(a:IL cs (BV cs 6) 7 s){L:cL->Nat}(d:Dt cs L){N:Nat}(e:IL cs L N t)(b:∀c∈cs,L c.head.name<N):s=t:=
 YR h.prog (h.other d) a e (λc _=>by have:=Ow cs 6 c.head.name;omega) b
def DD:cL->Bool->List cL->cL
 |s,_,[]=>s
 |s,b,x::l=>DD (s++(if b then⟨#[44]⟩else⟨#[40]⟩)++CX x) true l
def J3(p:DB):cL:=DD p.name false p.things++⟨#[41,46]⟩
def Qt:cL->List DB->cL
 |t,[]=>t
 |t,p::l=>Qt (t++J3 p++⟨#[10]⟩) l
def YT:cL->List Aj->cL
 |t,[]=>t
 |t,f::l=>YT (t++Jo f++⟨#[10]⟩) l
theorem Ma:∀(l:List cL) (s:cL),(∀x∈l,AX x)->DD s true (l.map Ay)=Ie s true l
 |[],s,_=>rfl
 |x::l,s,h=>by
  rw[aI,DD,Ie,Ih (h x (by simp)),Ma l _ (λy a=>h y (by simp[a]))];simp
theorem Wx{f:Aj}(h:A6 f)(b:f.args≠[]):J3 (CK f)=Jo f:=by
 unfold J3 Jo CK;simp only;cases hl:f.args with
 |nil=>exact absurd hl b
 |cons x l=>
  have a:∀y∈x::l,AX y:=by rw[<-hl];exact h
  rw[aI,DD,Ie,Ih (a x (by simp)),Ma l _ (λy c=>a y (by simp[c]))];simp
theorem Se:∀(l:List Aj) (t:cL),(∀f∈l,A6 f/\f.args≠[])->Qt t (l.map CK)=YT t l
 |[],t,_=>rfl
 |f::l,t,h=>by
  obtain⟨a,c⟩:=h f (by simp);rw[aI,Qt,YT,Wx a c,Se l _ (λg b=>h g (by simp[b]))]
theorem Yg:∀(l:List CM) (t:cL),OU t l=YT t (l.map CM.f)
 |[],t=>rfl
 |p::l,t=>by rw[OU,aI,YT,Yg l]
theorem XM(s:cL)(at_:Nat):(De s at_).1≠[]:=by
 rw[De];split<;>simp
theorem Xu{s:cL}{at_:Nat}(h:(A4 s at_ false).2.2=false):(A4 s at_ false).1.args≠[]:=by
 unfold A4 at h⊢;simp only at h⊢;have a:=KZ h;unfold Ek at a⊢;cases hm:(Bk s (AW s (As s at_ false) false).2.1 (AW s (As s at_ false) false).2.2 40).2 with
 |true=>rw[hm,if_pos rfl]at a;cases a
 |false=>rw[if_neg (by simp)];exact XM _ _
theorem M5{s:cL}{at_:Nat}(h:(AQ s at_).2.2=false):(AQ s at_).1.head.args≠[]:=by
 unfold AQ at h⊢;simp only at h⊢;exact Xu (Nu (KZ h)).1
theorem Rk{s:cL}{at_:Nat}(h:(Au s at_).2.2=false):∀c∈(Au s at_).1,c.head.args≠[]:=by
 fun_induction Au s at_ with
 |case1 at_ ha hc ih=>
  intro c a;rcases aj.1 a with rfl|a
  ·exact M5 hc.1
  ·exact ih h c a
 |case2 at_ ha hc=>
  intro c a;rw[ae]at a;subst a;exact M5 h
 |case3 at_ ha=>intro c a;cases a
theorem XV{s:cL}{at_:Nat}{cs:List Bf}(h:(Au s at_).2.2=false)(d:cs.map Bf.erase=(Au s at_).1):∀c∈cs,c.head.args≠[]:=by
 intro c b;have a:c.erase∈(Au s at_).1:=by rw[<-d];exact aM b
 exact Rk h _ a
theorem D7.text{cs:List Bf}(h:D7 cs)(i:∀c∈cs,c.head.args≠[]){g:List CM}(l:IL cs (BV cs 6) 7 (g.map CM.f)){L:cL->Nat}(j:Dt cs L){N:Nat}{t:List Aj}(a:IL cs L N t)(m:∀c∈cs,L c.head.name<N):
  Qt ByteArray.empty (t.map CK)=OU ByteArray.empty g:=by
 have e:=h.one l j a m;rw[Yg,e];refine Se t _ (λf b=>⟨(a.inn f b).canon h.prog.heads,λk=>?_⟩);obtain⟨c,n,_,d⟩:=(a.inn f b).way;rw[k]at d;exact i c n (du d.symm)
structure Ej(fs:List Fm)(s:List Aj):Prop where
 same:fs.map Fm.f=s.map CK
 rise:F1 s
 canon:∀f∈s,A6 f
theorem F1.pad{s:List Aj}(c:F1 s)(cs:∀f∈s,A6 f):(s.map CK).Pairwise λa b=>B6 a b<0:=by
 rw[cw];exact cA (fun{a b} ha hb hab=>(Dc (cs a ha) (cs b hb)).1 hab) c
theorem Ej.pair{c:List Fm}{s:List Aj}(h:Ej c s):c.Pairwise λa b=>B6 a.f b.f<0:=by
 have:=h.rise.pad h.canon;rw[<-h.same,cw]at this;exact this
theorem Sg(a:DB):¬B6 a a<0:=by
 have:B6 a a=0:=(Fk a a).2 rfl;omega
theorem Ej.mono{a:List Fm}{s:List Aj}(h:Ej a s)(x:DB):∀i j (e:i<a.length) (c:j<a.length),i<=j->B6 a[j].f x<0->B6 a[i].f x<0:=by
 intro i j e c g d;rcases dg g with b|b
 ·exact Gv (bV.1 h.pair i j e c b) d
 ·subst b;exact d
theorem Ej.mem{a:List Fm}{s:List Aj}(h:Ej a s){f:Aj}(c:A6 f):(∃p∈a,p.f=CK f)↔f∈s:=by
 have e:(∃p∈a,p.f=CK f)↔CK f∈a.map Fm.f:=by rw[az]
 rw[e,h.same,az];constructor
 ·rintro ⟨g,b,e⟩;rw[<-Oo (h.canon g b) c e];exact b
 ·intro d;exact⟨f,d,rfl⟩
theorem Ej.hit{a:List Fm}{s:List Aj}(h:Ej a s){f:Aj}(l:A6 f){p:Nat}(k:Gt a (CK f) p):ED a (CK f) p=Fq s f:=by
 have o:ED a (CK f) p=true↔Fq s f=true:=by
  rw[CD,<-h.mem l];unfold ED;constructor
  ·intro c;split at c
   ·rename_i b;exact⟨a[p],Z7 b,(Fk _ _).1 (by simpa using c)⟩
   ·cases c
  ·rintro ⟨q,n,e⟩;obtain⟨j,i,rfl⟩:=aZ n;have m:p<=j:=by
    by_cases c:j<p
    ·have:=k.below j i c;rw[e]at this;exact absurd this (Sg _)
    ·omega
   (have b:p<a.length:=by omega);rw[dif_pos b];rcases dg m with d|d
   ·have g:=bV.1 h.pair p j b i d;rw[e]at g;exact absurd g (k.above p b (au _))
   ·subst d;rw[e];simpa using(Fk _ _).2 rfl
 cases d:ED a (CK f) p<;>cases g:Fq s f<;>simp_all
theorem Ej.add_new{d:List Fm}{s:List Aj}(h:Ej d s){x:Fm}{f:Aj}(t:x.f=CK f)(l:A6 f){p:Nat}(u:Gt d (CK f) p)(z:ED d (CK f) p=false):Ej (d.take p++x::d.drop p) (Bs s f):=by
 obtain⟨a,b,m⟩:=E8 l h.rise h.canon;refine⟨?_,a,b⟩;have C:f∉s:=λF=>by rw[h.hit l u,(CD _ _).2 F]at z;cases z
 refine Ig (lt:=λa b=>B6 a b<0) Sg (λa b c=>Gv) _ _ ?_ (a.pad b) (λy=>?_)
 ·rw[cw,dz];have A:=h.pair;have E:=A.take (i:=p);have B:=A.drop (i:=p);have v:∀q∈d.take p,B6 q.f x.f<0:=by
   intro q j;obtain⟨i,o,rfl⟩:=aZ j;rw[aK]at o;rw[di,t];exact u.below i (by omega) (by omega)
  have w:∀q∈d.drop p,B6 x.f q.f<0:=by
   intro q j;obtain⟨i,o,rfl⟩:=aZ j;rw[aL]at o;rw[dR,t];have I:=u.above (p+i) (by omega) (by omega);(have H:B6 d[p+i].f (CK f)≠0:=λe=>C ((h.mem l).1 ⟨_,Z7 _,(Fk _ _).1 e⟩));exact(UV _ _).1 (by omega)
  refine⟨E,bR.2 ⟨w,B⟩,λq j r n=>?_⟩;rcases aj.1 n with rfl|n
  ·exact v q j
  ·exact Gv (v q j) (w r n)
 ·have G:y∈(d.take p++x::d.drop p).map Fm.f↔y=x.f\/y∈d.map Fm.f:=by
   (have D:d.map Fm.f=(d.take p).map Fm.f++(d.drop p).map Fm.f:=by rw[<-bm,bF]);rw[D];simp only[bm,aI,aw,aj];constructor
   ·rintro (h|h|h)
    ·exact Or.inr (Or.inl h)
    ·exact Or.inl h
    ·exact Or.inr (Or.inr h)
   ·rintro (h|h|h)
    ·exact Or.inr (Or.inl h)
    ·exact Or.inl h
    ·exact Or.inr (Or.inr h)
  rw[G,h.same,az,az,t];constructor
  ·rintro (rfl|⟨g,k,rfl⟩)
   ·exact⟨f,(m f).2 (Or.inr rfl),rfl⟩
   ·exact⟨g,(m g).2 (Or.inl k),rfl⟩
  ·rintro ⟨g,k,rfl⟩;rcases(m g).1 k with k|rfl
   ·exact Or.inr ⟨g,k,rfl⟩
   ·exact Or.inl rfl
theorem X7(l:List cL):¬DO l []<0:=by
 cases l<;>simp[DO]
theorem Sc(a:DB)(n:cL):B6 a ⟨n,[]⟩<0↔Dm a.name n<0:=by
 unfold B6;simp only;split
 ·rename_i h;constructor
  ·intro b;exact absurd b (X7 _)
  ·intro b;omega
 ·exact Iff.rfl
theorem Ku{α:Type}{p:α->Bool}:∀(l:List α),l.Pairwise (λa b=>p b=true->p a=true)->l.takeWhile p=l.filter p
 |[],_=>rfl
 |x::l,h=>by
  rw[bR]at h;rw[List.takeWhile_cons,bL];cases hx:p x with
  |true=>rw[if_pos rfl,if_pos rfl,Ku l h.2]
  |false=>
   rw[if_neg (by simp),if_neg (by simp)];refine(dP.2 (λy d c=>?_)).symm;rw[h.1 y d c]at hx;cases hx
def Qr(n:cL)(q:Fm):Bool:=q.f.name.toList==n.toList
def R1(x:cL):cL:=if QR x then x else Ay x
def Bw(e:List cL):List cL:=e.map R1
def OP(x:cL):Prop:=x.size=0\/AX x
theorem Vg:QR ByteArray.empty=true:=(DG _).2 rfl
theorem M3:R1 ByteArray.empty=ByteArray.empty:=by unfold R1;rw[Vg,if_pos rfl]
theorem CY{x:cL}(h:AX x):R1 x=Ay x:=by
 unfold R1;cases he:QR x with
 |true=>exact absurd ((DG _).1 he) h.size
 |false=>rfl
theorem Wb{x:cL}(h:AX x):(Ay x).size≠0:=by
 rcases h with⟨c,r,e,a,b⟩|h
 ·rw[Eu e a,B4,e];simp
 ·rw[B4,EZ h];rcases Eh h with⟨c,e,_⟩|⟨c,d,e,_⟩|⟨c,d,f,e,_⟩<;>rw[e]<;>simp
theorem Yj{x:cL}(h:OP x):QR (R1 x)=QR x:=by
 rcases h with h|h
 ·have:QR x=true:=(DG _).2 h;unfold R1;rw[this,if_pos rfl,this]
 ·have a:QR x=false:=by
   cases he:QR x with
   |true=>exact absurd ((DG _).1 he) h.size
   |false=>rfl
  rw[CY h,a];cases he:QR (Ay x)with
  |true=>exact absurd ((DG _).1 he) (Wb h)
  |false=>rfl
def ON(b:List cL)(t:AG):cL:=if t.v=0 then R1 t.s else b.getD (t.v.toNat-65) ByteArray.empty
theorem DP(e:List cL)(t:AG):ON (Bw e) t=R1 (AU e t):=by
 unfold ON AU Bw;by_cases a:t.v=0
 ·rw[if_pos a,if_pos a]
 ·rw[if_neg a,if_neg a,aq,aq,cu];cases e[t.v.toNat-65]? with
  |none=>exact M3.symm
  |some x=>rfl
theorem YS(e:List cL)(j:Nat){x:cL}(h:AX x):Bw (e.set j x)=(Bw e).set j (Ay x):=by
 unfold Bw;rw[eF,CY h]
def O0(b:List cL)(ts:List AG)(xs:List cL):Bool:=(ts.zip xs).all λp=>QR (ON b p.1)||(ON b p.1).toList==p.2.toList
theorem PY{e:List cL}:∀(a:List AG) (b:List cL),(∀t∈a,OP (AU e t))->(∀x∈b,AX x)->O0 (Bw e) a (b.map Ay)=N5 e a b
 |[],b,_,_=>by simp[O0,N5]
 |t::a,[],_,_=>by simp[O0,N5]
 |t::a,x::b,ht,hx=>by
  have ih:=PY a b (λu f=>ht u (by simp[f])) (λy d=>hx y (by simp[d]));unfold O0 N5 at ih⊢;rw[aI,dL,dL,dh,dh,ih]
  congr 1
  simp only;rw[DP,Yj (ht t (by simp))];cases he:QR (AU e t)with
  |true=>rfl
  |false=>
   rw[cU,cU];have c:AX (AU e t):=by
    rcases ht t (by simp)with h|h
    ·rw[(DG _).2 h]at he;cases he
    ·exact h
   rw[CY c];have g:((Ay (AU e t)).toList==(Ay x).toList)=true↔((AU e t).toList==x.toList)=true:=by
    rw[D4,D4];exact⟨λh=>Fa c (hx x (by simp)) h,λh=>by rw[h]⟩
   cases h1:((Ay (AU e t)).toList==(Ay x).toList)<;>cases h2:((AU e t).toList==x.toList)<;>simp_all
def Oi(b:List cL)(ts:List AG):Bool:=ts.all λt=> !QR (ON b t)
theorem Kr{e:List cL}:∀(a:List AG),(∀t∈a,OP (AU e t))->Oi (Bw e) a=Ef e a
 |[],_=>rfl
 |t::a,h=>by
  have ih:=Kr a (λu b=>h u (by simp[b]));unfold Oi Ef at ih⊢;rw[dh,dh,ih,DP,Yj (h t (by simp))]
theorem Sm{e:List cL}{l r:AG}(a:AX (AU e l))(b:AX (AU e r)):((ON (Bw e) l).toList==(ON (Bw e) r).toList)=((AU e l).toList==(AU e r).toList):=by
 rw[DP,DP,CY a,CY b];have c:((Ay (AU e l)).toList==(Ay (AU e r)).toList)=true↔((AU e l).toList==(AU e r).toList)=true:=by
  rw[D4,D4];exact⟨λh=>Fa a b h,λh=>by rw[h]⟩
 cases h1:((Ay (AU e l)).toList==(Ay (AU e r)).toList)<;>cases h2:((AU e l).toList==(AU e r).toList)<;>simp_all
theorem Xm{e:List cL}{l r:AG}(a:AX (AU e l))(b:AX (AU e r)):Op.bytesLess (ON (Bw e) l).toList (ON (Bw e) r).toList=ES (AU e l) (AU e r):=by
 rw[DP,DP,CY a,CY b];exact NC a b
def MA(t:A3):Prop:=t.v=0\/(65<=t.v/\t.v<=90)
def Bn(b:List cL)(t:A3):cL:=Zm b t.v.toNat t.s
def FE(b:List cL)(ts:List A3):Bool:=ts.all λt=> !QR (Bn b t)
theorem Jf(a d:Nat)(b:List cL)(t:A3)(w:World)(i:b.length=26)(g:Aw w a (Ah b) d)(c:MA t):
  Calls prog 180 #[.pointer (some ⟨a,0,none⟩), .agg #[.int .i32 t.v, .string t.s]] w λr f=>r= .returned (.string (Bn b t))/\Ac [] w f:=by
 have h:=Tw a d b t.v.toNat t.s w i g (by rcases c with h|h<;>omega);have e:((t.v.toNat:Nat):Int)=t.v:=by rcases c with h|h<;>omega
 rw[e]at h;exact h
set_option maxRecDepth 100000
theorem RM(e F:Nat)(b:List cL)(C:Option Addr)(I:Nat)(ts:List A3)(base:Nat)(w:World)(M:b.length=26)(J:Aw w e (Ah b) F)(E:w.ownsRow base 215 2 (.slice C ts.length I) ts.length (ts.flatMap Am))(X:ts.length<=100000)(a:∀t∈ts,MA t):
  Calls prog 204 #[.pointer (some ⟨e,0,none⟩), .slice C ts.length I] w λr n=>r= .returned (.bool (FE b ts))/\Ac [] w n:=by
 obtain⟨R,u⟩:∃R,FE b ts=R:=⟨_,rfl⟩;rw[u];have c:Hid ((ts.drop 0).all (λt=> !QR (Bn b t))=R):=u;have S:Hid (∀t∈ts,∀d,Ac [] w d->Calls prog 180 #[.pointer (some ⟨e,0,none⟩), .agg #[.int .i32 t.v, .string t.s]] d λr n=>r= .returned (.string (Bn b t))/\Ac [] d n):=λt L d y=>Jf e F b t d M (J.kept y (by simp)) (a t L)
 have Q:=Ab E;clear u E a J;go_enter func204,ntmps204;go_wp2_with fail
 go_loopg [9] ts.length (λgk i wr=>∃(k:Nat),i= .int .i64 k/\k<=ts.length/\gk=ts.length-k/\Hid ((ts.drop k).all (λt=> !QR (Bn b t))=R)/\Hid (Ac [] w wr))
 case atStart=>exact⟨0,rfl,by omega,rfl,c,Ac.refl _ _⟩
 case round=>
  clear c;obtain⟨k,rfl,y,B,c,l⟩:=hrel;have O:=Ab B;clear B;by_cases m:k<ts.length
  ·obtain⟨g,W,G,D,A⟩:=En (Ad (Aa Q) (Aa l) (by simp)) k m;simp only[Z6]at G;obtain⟨rfl,_,rfl⟩:=G;obtain⟨T,f⟩:∃T,ts[k]=T:=⟨_,rfl⟩;have q:=Ab ((Aa l).alloc (.cells #[.int .i32 T.v, .string T.s] 215));have p:=Ab (Aa S T (by rw[<-f];exact Z7 m) _ (Aa q));have j:Hid ((!QR (Bn b T)&&(ts.drop (k+1)).all (λt=> !QR (Bn b t)))=R):=by
    have h:=Aa c;rw[aC m,dh,f]at h;exact h
   rw[f]at D A;obtain⟨V,K⟩:∃V,Bn b T=V:=⟨_,rfl⟩;rw[K]at p j;clear c f K;(go_wp2_with fail);refine(Aa p).mono ?_;rintro _ U ⟨rfl,z⟩;have H:=Ab ((Aa q).trans z);clear p q l z D A;cases a:QR V with
   |true=>
    have o:(V.toList==[])=true:=a;(have N:V.toList=[]:=by simpa using o);(have x:Hid (R=false):=by show _=_;rw[<-Aa j,a];rfl);go_wp2;go_ret;rw[Aa x];exact⟨rfl,Aa H⟩
   |false=>
    have o:(V.toList==[])=false:=a;(have N:¬V.toList=[]:=by simpa using o);(have P:Hid ((ts.drop (k+1)).all (λt=> !QR (Bn b t))=R):=by have h:=Aa j;rw[a]at h;exact h);clear j;go_wp2
    go_roundg (ts.length-(k+1))
    case measure=>have:=Aa O;omega
    case rel=>exact⟨k+1,by go_num,by omega,rfl,P,H⟩
  ·have x:Hid (R=true):=by
    have h:=Aa c;rw[aQ (by omega)]at h;exact h.symm
   go_wp2;go_ret;rw[Aa x];exact⟨rfl,Aa l⟩
def Gr(b:List cL):List A3->List cL->Bool
 |t::ts,x::xs=>(QR (Bn b t)||(Bn b t).toList==x.toList)&&Gr b ts xs
 |_,_=>true
theorem Fj{w:World}{base:Nat}{v:Value}{l:List cL}(h:w.ownsRow base 170 1 v l.length (l.flatMap Ae))(k:Nat)(b:k<l.length):∃g a,v= .slice (some ⟨g,0,none⟩) l.length a/\w.cell? ⟨g,k,none⟩=some (.string l[k]):=by
 obtain⟨g,a,e,_,f⟩:=AE h (λc _=>rfl) k b;have d:=f k b 0 (by omega);simp[Ae]at d;exact⟨g,a,e,d⟩
theorem X3(x ty:Nat)(b:List cL)(q:Int)(nm:cL)(j:Option Addr)(m:Nat)(ts:List A3)(p:Fm)(base:Nat)(w:World)(hb:b.length=26)(hB:Aw w x (Ah b) ty)(hr:w.ownsRow base 215 2 (.slice j ts.length m) ts.length (ts.flatMap Am))(K:DW w p)(HD:ts.length<=100000)(FL:ts.length<=p.f.things.length)(e:∀t∈ts,MA t):
  Calls prog 222 #[.pointer (some ⟨x,0,none⟩), .agg #[.int .i64 q, .string nm, .slice j ts.length m], .agg (A9 p).toArray] w λr D=>r= .returned (.bool (Gr b ts p.f.things))/\Ac [] w D:=by
 obtain⟨⟨l,a⟩,pv⟩:=p;obtain⟨d,c,AH⟩:=Ak K;simp only at AH FL;subst AH;have HX:Hid (w.ownsRow 0 170 1 (.slice d a.length c) a.length (a.flatMap Ae)):=K;simp only[A9];obtain⟨R,O⟩:∃R,Gr b ts a=R:=⟨_,rfl⟩;rw[O];have o:Hid (Gr b (ts.drop 0) (a.drop 0)=R):=O;have HT:Hid (∀t∈ts,∀u,Ac [] w u->Calls prog 180 #[.pointer (some ⟨x,0,none⟩), .agg #[.int .i32 t.v, .string t.s]] u λr D=>r= .returned (.string (Bn b t))/\Ac [] u D):=λt ht u Q=>Jf x ty b t u hb (hB.kept Q (by simp)) (e t ht)
 have FO:=Ab hr;have z:Hid (Aw ((w.alloc (.cells [.int .i64 q, .string nm, .slice j ts.length m].toArray 187)).alloc (.cells [.string l, .slice d a.length c].toArray 104)) (w.heap.size+1) [.string l, .slice d a.length c] 104):=by
  have h:=Aw.new (w.alloc (.cells [.int .i64 q, .string nm, .slice j ts.length m].toArray 187)) [.string l, .slice d a.length c] 104;simp only[aP]at h;exact h
 have M:=Ab (((Ac.refl [] w).alloc (.cells [.int .i64 q, .string nm, .slice j ts.length m].toArray 187)).alloc (.cells [.string l, .slice d a.length c].toArray 104));clear O hr e hB K;go_enter func222,ntmps222;go_wp2_with fail
 change Code.wp _ _ _ _ ((w.alloc (.cells [.int .i64 q, .string nm, .slice j ts.length m].toArray 187)).alloc (.cells [.string l, .slice d a.length c].toArray 104));generalize((w.alloc (.cells [.int .i64 q, .string nm, .slice j ts.length m].toArray 187)).alloc (.cells [.string l, .slice d a.length c].toArray 104))=w1 at z M⊢;generalize w.heap.size=N at z⊢
 go_loopg [13] ts.length (λgk i wr=>∃(k:Nat),i= .int .i64 k/\k<=ts.length/\gk=ts.length-k/\Hid (Gr b (ts.drop k) (a.drop k)=R)/\Hid (Aw wr (N+1) [.string l, .slice d a.length c] 104)/\Hid (Ac [] w wr))
 case atStart=>exact⟨0,rfl,by omega,rfl,o,z,M⟩
 case round=>
  clear o z M;obtain⟨k,rfl,Q,Y,o,U,A⟩:=hrel;have S:=Ab Y;clear Y;by_cases C:k<ts.length
  ·(have BA:k<a.length:=by omega);obtain⟨g,Ha,he,Z,W⟩:=En (Ad (Aa FO) (Aa A) (by simp)) k C;simp only[Z6]at he;obtain⟨rfl,_,rfl⟩:=he;obtain⟨T,y⟩:∃T,ts[k]=T:=⟨_,rfl⟩;obtain⟨X,F⟩:∃X,a[k]=X:=⟨_,rfl⟩;have L:=Ab ((Aa A).alloc (.cells #[.int .i32 T.v, .string T.s] 215));have Bx:=Ab ((Aa U).alloc (.cells #[.int .i32 T.v, .string T.s] 215));have J:=Ab (Aa HT T (by rw[<-y];exact Z7 C) _ (Aa L));have n:Hid (((QR (Bn b T)||(Bn b T).toList==X.toList)&&Gr b (ts.drop (k+1)) (a.drop (k+1)))=R):=by
    have h:=Aa o;rw[aC C,aC BA,Gr,y,F]at h;exact h
   rw[y]at Z W;obtain⟨V,hV⟩:∃V,Bn b T=V:=⟨_,rfl⟩;rw[hV]at J n;clear o y hV;(have HF:(0:Int)<=(k:Int):=by omega);(have HH:(k:Int)<(a.length:Int):=by omega);(go_wp2_with fail);refine(Aa J).mono ?_;rintro _ w3 ⟨rfl,I⟩;have B:=Ab ((Aa L).trans I);have G:=Ab ((Aa Bx).kept I (by simp));obtain⟨g2,HA,AB,x0⟩:=Fj (Ad (Aa HX) (Aa B) (by simp)) k BA;simp only[Z6]at AB;obtain⟨rfl,_,rfl⟩:=AB;rw[F]at x0;have b1:=(Aa G).cell 1;simp at b1;clear J L A I Z W Bx U F;cases e:QR V with
   |true=>
    have E:(V.toList==[])=true:=e;(have FC:V.toList=[]:=by simpa using E);(have H:Hid (Gr b (ts.drop (k+1)) (a.drop (k+1))=R):=by have h:=Aa n;rw[e]at h;exact h);clear n;go_wp2
    go_roundg (ts.length-(k+1))
    case measure=>have:=Aa S;omega
    case rel=>exact⟨k+1,by go_num,by omega,rfl,H,G,B⟩
   |false=>
    have E:(V.toList==[])=false:=e;(have FC:¬V.toList=[]:=by simpa using E);cases hx:(V.toList==X.toList)with
    |true=>
     (have EX:(V.toList !=X.toList)=false:=by simp[bne,hx]);(have H:Hid (Gr b (ts.drop (k+1)) (a.drop (k+1))=R):=by have h:=Aa n;rw[e,hx]at h;exact h);clear n;go_wp2
     go_roundg (ts.length-(k+1))
     case measure=>have:=Aa S;omega
     case rel=>exact⟨k+1,by go_num,by omega,rfl,H,G,B⟩
    |false=>
     (have EX:(V.toList !=X.toList)=true:=by simp[bne,hx]);(have P:Hid (R=false):=by show _=_;rw[<-Aa n,e,hx];rfl);go_wp2;go_ret;rw[Aa P];exact⟨rfl,Aa B⟩
  ·have P:Hid (R=true):=by
    have h:=Aa o;rw[aQ (by omega),Gr]at h
    ·exact h.symm
    ·simp
   go_wp2;go_ret;rw[Aa P];exact⟨rfl,Aa A⟩
def Hd(a b:A3):Bool:=a.v==b.v&&a.s.toList==b.s.toList
def O1(ts:List A3)(x:A3)(r:Int):Prop:=(r= -1/\∀t∈ts,Hd x t=false)\/∃k,∃h:k<ts.length,r=(k:Int)/\Hd x ts[k]=true/\∀j (hj:j<ts.length),j<k->Hd x ts[j]=false
theorem Wk(C:Option Addr)(F:Nat)(ts:List A3)(x:A3)(base:Nat)(w:World)(D:w.ownsRow base 215 2 (.slice C ts.length F) ts.length (ts.flatMap Am))(V:ts.length<=100000):
  Calls prog 206 #[.slice C ts.length F, .agg #[.int .i32 x.v, .string x.s]] w λr H=>∃n,r= .returned (.int .i64 n)/\O1 ts x n/\Ac [] w H:=by
 have P:=Ab D;obtain⟨e,l⟩:∃e:Int->Prop,e=O1 ts x:=⟨_,rfl⟩;have y:=Ab l;rw[<-l];have a:=Ab (Aw.new w [.int .i32 x.v, .string x.s] 215);have b:=Ab ((Ac.refl [] w).alloc (.cells #[.int .i32 x.v, .string x.s] 215));clear D l;go_enter func206,ntmps206;go_wp2_with fail
 change Code.wp _ _ _ _ (w.alloc (.cells [.int .i32 x.v, .string x.s].toArray 215));generalize w.alloc (.cells [.int .i32 x.v, .string x.s].toArray 215)=w1 at a b⊢;generalize w.heap.size=N at a⊢
 go_loopg [8] ts.length (λgk i wr=>∃(k:Nat),i= .int .i64 k/\k<=ts.length/\gk=ts.length-k/\Hid (∀j (c:j<ts.length),j<k->Hd x ts[j]=false)/\Hid (Aw wr N [.int .i32 x.v, .string x.s] 215)/\Hid (Ac [] w wr))
 case atStart=>exact⟨0,rfl,by omega,rfl,λj c h=>by omega,a,b⟩
 case round=>
  clear a b;obtain⟨k,rfl,S,A,f,a,b⟩:=hrel;have z:=Ab A;clear A;by_cases q:k<ts.length
  ·obtain⟨g,U,E,L,K⟩:=En (Ad (Aa P) (Aa b) (by simp)) k q;simp only[Z6]at E;obtain⟨rfl,_,rfl⟩:=E;obtain⟨T,m⟩:∃T,ts[k]=T:=⟨_,rfl⟩;have u:=Ab m;rw[m]at L K;clear m;have G:=(Aa a).cell 0;have O:=(Aa a).cell 1;simp at G O;(have W:(0:Int)<=(k:Int):=by omega);(have X:(k:Int)<(ts.length:Int):=by omega);(have d:Hid (∀n,Aw (wr.drewN n) N [.int .i32 x.v, .string x.s] 215/\Ac [] w (wr.drewN n)):=λn=>⟨(Aa a).drewN n,(Aa b).drewN n⟩);cases hs:Hd x T with
   |true=>
    have o:(x.v==T.v)=true/\(x.s.toList==T.s.toList)=true:=by
     unfold Hd at hs;simpa using hs
    have Q:=o.1;have M:=o.2;have p:Hid (e (k:Int)):=by
     rw[Aa y];exact Or.inr ⟨k,q,rfl,by rw[Aa u];exact hs,Aa f⟩
    clear o hs;go_wp2_with fail
    go_quiet (fail)
    go_wp2;go_ret;exact⟨k,rfl,Aa p,(Aa d _).2⟩
   |false=>
    have B:Hid (∀j (c:j<ts.length),j<k+1->Hd x ts[j]=false):=by
     intro j c R;by_cases h:j<k
     ·exact Aa f j c h
     ·(have I:j=k:=by omega);subst I;rw[Aa u];exact hs
    cases ha:(x.v==T.v)with
    |false=>
     clear hs;go_wp2_with fail
     go_quiet (fail)
     go_wp2
     go_roundg (ts.length-(k+1))
     case measure=>have:=Aa z;omega
     case rel=>exact⟨k+1,by go_num,by omega,rfl,B,(Aa d _).1,(Aa d _).2⟩
    |true=>
     have M:(x.s.toList==T.s.toList)=false:=by
      unfold Hd at hs;rw[ha,cn]at hs;exact hs
     clear hs;go_wp2_with fail
     go_quiet (fail)
     go_wp2
     go_roundg (ts.length-(k+1))
     case measure=>have:=Aa z;omega
     case rel=>exact⟨k+1,by go_num,by omega,rfl,B,(Aa d _).1,(Aa d _).2⟩
  ·have p:Hid (e (-1)):=by
    rw[Aa y];refine Or.inl ⟨rfl,λt J=>?_⟩;obtain⟨j,c,rfl⟩:=aZ J;exact Aa f j c (by omega)
   go_wp2;go_ret;exact⟨-1,rfl,Aa p,Aa b⟩
theorem RY{w:World}{base:Nat}{v:Value}{l:List Int}(h:w.ownsRow base 21 1 v l.length (l.flatMap AD))(k:Nat)(b:k<l.length):∃g a,v= .slice (some ⟨g,0,none⟩) l.length a/\w.cell? ⟨g,k,none⟩=some (.int .i32 l[k]):=by
 obtain⟨g,a,e,_,f⟩:=AE h (λc _=>rfl) k b;have d:=f k b 0 (by omega);simp[AD]at d;exact⟨g,a,e,d⟩
theorem XO(q:Option Addr)(u:Nat)(l:List Int)(x:Int)(base:Nat)(w:World)(s:w.ownsRow base 21 1 (.slice q l.length u) l.length (l.flatMap AD))(I:l.length<=100000):
  Calls prog 203 #[.slice q l.length u, .int .i32 x] w λr v=>∃n:Int,r= .returned (.int .i64 n)/\(n= -1/\x∉l\/0<=n/\x∈l)/\v=w:=by
 have E:=Ab s;clear s;go_enter func203,ntmps203;go_wp2_with fail
 go_loopg [8] l.length (λgk i wr=>∃(k:Nat),i= .int .i64 k/\k<=l.length/\gk=l.length-k/\Hid (∀j (b:j<l.length),j<k->l[j]≠x)/\wr=w)
 case atStart=>exact⟨0,rfl,by omega,rfl,λj b h=>by omega,rfl⟩
 case round=>
  obtain⟨k,rfl,G,p,m,rfl⟩:=hrel;have z:=Ab p;clear p;by_cases f:k<l.length
  ·obtain⟨g,H,t,C⟩:=RY (Aa E) k f;simp only[Z6]at t;obtain⟨rfl,_,rfl⟩:=t;obtain⟨T,d⟩:∃T,l[k]=T:=⟨_,rfl⟩;have o:=Ab d;rw[d]at C;clear d;(have J:(0:Int)<=(k:Int):=by omega);(have K:(k:Int)<(l.length:Int):=by omega);by_cases a:x=T
   ·(have A:(x==T)=true:=by simp[a]);(have c:Hid (x∈l):=by show _∈_;rw[a,<-Aa o];exact Z7 f);clear a;go_wp2;go_ret;exact⟨k,rfl,Or.inr ⟨by omega,Aa c⟩,rfl⟩
   ·(have A:(x==T)=false:=by simp[a]);have B:Hid (∀j (b:j<l.length),j<k+1->l[j]≠x):=by
     intro j b F;by_cases h:j<k
     ·exact Aa m j b h
     ·(have y:j=k:=by omega);subst y;rw[Aa o];exact λe=>a e.symm
    clear a;go_wp2
    go_roundg (l.length-(k+1))
    case measure=>have:=Aa z;omega
    case rel=>exact⟨k+1,by go_num,by omega,rfl,B,rfl⟩
  ·have c:Hid (x∉l):=by
    intro D;obtain⟨j,b,e⟩:=aZ D;exact Aa m j b (by omega) e
   go_wp2;go_ret;exact⟨-1,rfl,Or.inl ⟨rfl,Aa c⟩,rfl⟩
theorem OX(c:Option Addr)(b:Nat)(l:List Int)(x:Int)(base:Nat)(w:World)(d:w.ownsRow base 21 1 (.slice c l.length b) l.length (l.flatMap AD))(i:l.length<=100000):
  Calls prog 175 #[.slice c l.length b, .int .i32 x] w λr h=>r= .returned (.bool (decide (x∈l)))/\h=w:=by
 have f:=Ab (XO c b l x base w d i);clear d;go_enter func175,ntmps175;go_wp2_with fail
 refine(Aa f).mono ?_;rintro _ k ⟨n,rfl,g,rfl⟩;have j:Hid (decide (0<=n)=decide (x∈l)):=by
  show _=_;rcases g with⟨e,a⟩|⟨e,a⟩
  ·rw[dM a,dM (by omega)]
  ·rw[cO a,cO e]
 clear g f;go_wp2;go_ret;rw[<-Aa j];exact⟨rfl,rfl⟩
def Tn(a:List Int)(t:A3):List Int:=if t.v≠0/\t.v∉a then a++[t.v] else a
def C4(ts:List A3):List Int:=ts.foldl Tn []
theorem TO{ts:List A3}{k:Nat}(a:k<ts.length):C4 (ts.take (k+1))=Tn (C4 (ts.take k)) ts[k]:=by
 unfold C4;rw[ac a,bD];rfl
theorem O6(P:Option Addr)(cp:Nat)(ts:List A3)(base:Nat)(w:World)(X:w.ownsRow base 215 2 (.slice P ts.length cp) ts.length (ts.flatMap Am))(HB:ts.length<=90000):
  Calls prog 138 #[.slice P ts.length cp] w λr J=>∃W S,r= .returned (.slice W (C4 ts).length S)/\J.ownsRow w.heap.size 21 1 (.slice W (C4 ts).length S) (C4 ts).length ((C4 ts).flatMap AD)/\Ac [] w J:=by
 obtain⟨i0,FW,Bx,BT,EX⟩:=bj Tryz.info21;have FT:=Ab X;obtain⟨R,C⟩:∃R,C4 ts=R:=⟨_,rfl⟩;rw[C];have HR:=Ab C;obtain⟨N,F⟩:∃N,w.heap.size=N:=⟨_,rfl⟩;rw[F];have Y:=Ab F;clear X C F;go_enter func138,ntmps138;go_wp2_with fail
 go_loopg [3,8] ts.length (λgk o i wr=>∃(k:Nat) (l:List Int) (c:Option Addr) (b:Nat),o= .slice c l.length b/\i= .int .i64 k/\k<=ts.length/\gk=ts.length-k/\l.length<=k/\Hid (C4 (ts.take k)=l)/\Hid (wr.ownsRow N 21 1 (.slice c l.length b) l.length (l.flatMap AD))/\Hid (Ac [] w wr))
 case atStart=>exact⟨0,[],none,0,rfl,rfl,by omega,rfl,by simp,rfl,ax _ _ _ _,Ac.refl _ _⟩
 case round=>
  obtain⟨k,l,c,b,rfl,rfl,hk,M,Go,D,z,p⟩:=hrel;have x:=Ab M;clear M;by_cases I:k<ts.length
  ·obtain⟨g,HA,Z,Q,L⟩:=En (Ad (Aa FT) (Aa p) (by simp)) k I;simp only[Z6]at Z;obtain⟨rfl,_,rfl⟩:=Z;obtain⟨T,y⟩:∃T,ts[k]=T:=⟨_,rfl⟩;have f:Hid (C4 (ts.take (k+1))=if T.v≠0/\T.v∉l then l++[T.v] else l):=by
    show _=_;rw[TO I,Aa D,y];rfl
   rw[y]at Q L;clear y D;have n:=Ab ((Aa p).alloc (.cells #[.int .i32 T.v, .string T.s] 215));have u:=Ab (Aw.new wr [.int .i32 T.v, .string T.s] 215);have E:=ah (Aa z) (.cells #[.int .i32 T.v, .string T.s] 215);have m:=Ab E;have d:=Ab (OX c b l T.v N _ E (by omega));(have FC:N<=wr.heap.size:=by have:=(Aa p).size;have:=Aa Y;omega);clear E z p;by_cases a:T.v=0
   ·(have FO:(T.v !=0)=false:=by simp[a]);(have FA:(T.v==0)=true:=by simp[a]);(have j:Hid (C4 (ts.take (k+1))=l):=by show _=_;rw[Aa f,if_neg (λh=>h.1 a)]);clear f a d;go_wp2
    go_roundg (ts.length-(k+1))
    case measure=>have:=Aa x;omega
    case rel=>exact⟨k+1,l,c,b,rfl,by go_num,by omega,rfl,by omega,j,m,n⟩
   ·(have FO:(T.v !=0)=true:=by simp[a]);(have FA:(T.v==0)=false:=by simp[a]);by_cases e:T.v∈l
    ·(have j:Hid (C4 (ts.take (k+1))=l):=by show _=_;rw[Aa f,if_neg (λh=>h.2 e)]);rw[cO e]at d;clear f a e;(go_wp2_with fail);refine(Aa d).mono ?_;rintro _ w3 ⟨rfl,rfl⟩;go_wp2
     go_roundg (ts.length-(k+1))
     case measure=>have:=Aa x;omega
     case rel=>exact⟨k+1,l,c,b,rfl,by go_num,by omega,rfl,by omega,j,m,n⟩
    ·(have j:Hid (C4 (ts.take (k+1))=l++[T.v]):=by show _=_;rw[Aa f,if_pos ⟨a,e⟩]);rw[dM e]at d;clear f a e;(go_wp2_with fail);refine(Aa d).mono ?_;rintro _ w3 ⟨rfl,rfl⟩;obtain⟨B,hB⟩:∃B,wr.heap.size=B:=⟨_,rfl⟩;rw[hB]at u FC⊢;have A:Hid (Aw (wr.alloc (.cells #[.int .i32 T.v, .string T.s] 215)) B [.int .i32 T.v, .string T.s] 215):=u;have CC:B<(wr.alloc (.cells #[.int .i32 T.v, .string T.s] 215)).heap.size:=(Aa A).lt;clear d u hB Q L;generalize wr.alloc (.cells #[.int .i32 T.v, .string T.s] 215)=w4 at m n A CC⊢;have H:=(Aa A).cell 0;simp at H;have G:=Aa m;go_wp2_with (at_builtin;refine ay _ rfl (.tmp 22) (.tmp 25) _ rfl N 21 i0 _ 1 4 underlying234 FW Bx BT EX rfl (by omega) (.slice c l.length b) l.length (l.flatMap AD) rfl (ah G _) ⟨w4.heap.size,0,none⟩ 1 1 [.int .i32 T.v] rfl rfl (aF (cs:=#[.int .i32 T.v]) (t:=21) (fr:=(0,0)) (aS w4 _)) (by simp[Value.oneCell']) (by omega) (by unfold maxLen;omega) (by omega) (by simp;omega) (w4.heap.size+1) (by simp) ?_;intro V K w9 U O AH FF)
     have EY:Hid (w9.ownsRow N 21 1 (.slice (some ⟨V,0,none⟩) (l++[T.v]).length K) (l++[T.v]).length ((l++[T.v]).flatMap AD)):=by
      rw[aN];simp only[am,ak,aH,bf,aB,bq,aX,AD];exact U
     have B9:=Ab (((Aa n).alloc (.cells #[.int .i32 T.v] 21)).grown O (λq hq=>Or.inr (by have:=(G.lt q hq).1;have:=Aa Y;omega)));clear U O AH FF G m n H
     go_roundg (ts.length-(k+1))
     case measure=>have:=Aa x;omega
     case rel=>exact⟨k+1,l++[T.v],some ⟨V,0,none⟩,K,by simp,by go_num,by omega,rfl,by simp;omega,j,EY,B9⟩
  ·have HE:Hid (l=R):=by
    have h:=Aa D;rw[Z9 (by omega),Aa HR]at h;exact h.symm
   go_wp2;go_ret;rw[<-Aa HE];exact⟨c,b,rfl,Aa z,Aa p⟩
