import Derived.Test.YtoihbhenbmffcaaGreatDoorTBH
import Derived.Test.YtoihbhenbmffcaaGreatDoorTBG
set_option linter.all false
set_option maxHeartbeats 0
open Bool renaming false->K
namespace Go.Proofs.YtoihbhenbmffcaaGreatDoor
open Go.RowKit Go.Proofs.Tryz
variable{s t:zA}{i j n k:Nat}{g:UInt8}{c:rc AV}
def fw(p:UInt8->Bool)(s:zA)(i:Nat):∀k (a:k<s.size),i<=k->k<AK p s i->p s[k]=true:=by
 fun_induction AK p s i with
 |case1 i h hp ih=>
  intro k a c b;by_cases e:k=i
  .subst e;exact hp
  .exact ih k a (by omega) b
 |case2 i h hp=>intro k a c b;omega
 |case3 i h=>intro k a c b;omega
def WX(h:g∈(s.extract i j).toList):∃k,∃b:k<s.size,i<=k/\k<j/\g=s[k]:=by
 rw[ng,ByteArray.data_extract]at h;have a:=Array.mem_toList_iff.1 h;obtain⟨k,b,e⟩:=Array.mem_extract_iff_getElem.1 a;have d:s.data.size=s.size:=rfl;exact⟨i+k,by omega,by omega,by omega,e.symm⟩
def aF{p:UInt8->Bool}:∀c∈(s.extract i (AK p s i)).toList,p c=true:=by
 intro c b;obtain⟨k,e,a,d,rfl⟩:=WX b;exact fw p s i k e a d
def aO{p:UInt8->Bool}(h:i<=s.size):(s.extract i (AK p s i)).toList.length=AK p s i-i:=by
 rw[<-A5,n7];have:=C0 p s i h;omega
def Rs(h:(AY s n K).2.2=K):Tt (AY s n K).1:=by
 unfold AY at h⊢;rw[mJ (by simp)]at h⊢;by_cases a:AK AA s (Ae s n)=Ae s n\/4<AK AA s (Ae s n)-Ae s n
 .rw[mK a]at h;cases h
 .rw[mJ a];have b:AK AA s (Ae s n)≠Ae s n:=λe=>a (Or.inl e)
  obtain⟨c,f⟩:=Jn b;have d:=CD AA s (Ae s n);have g:=aO (p:=AA) (Nat.le_of_lt c);show Tt (s.extract (Ae s n) (AK AA s (Ae s n)));exact⟨by omega,by omega,aF⟩
def Sb(h:(Az s n K).2.2=K)(a:(Az s n K).1.v=0):Gn (Az s n K).1.s:=by
 unfold Az at h a⊢;rw[mJ (by simp)]at h a⊢;by_cases b:Ae s n<s.size
 .rw[dif_pos b]at h a⊢;cases hu:Dx s[Ae s n] with
  |true=>
   rw[hu,mK rfl]at a;simp only at a;rw[a]at hu;cases hu
  |false=>
   rw[hu,mJ (by simp)]at h;rw[mJ (by simp)];cases hd:Ap s[Ae s n] with
   |false=>
    rw[hd,nZ,mK rfl]at h;rw[nZ,mK rfl];exact Or.inl (Rs h)
   |true=>
    rw[hd,pj,mJ (by simp)]at h;rw[pj,mJ (by simp)];by_cases c:3<AK Ap s (Ae s n)-Ae s n\/(s[Ae s n]=48/\1<AK Ap s (Ae s n)-Ae s n)
    .rw[mK c]at h;cases h
    .rw[mJ c];have g:=CD Ap s (Ae s n+1);rw[<-Co Ap s _ b hd]at g;have d:=aO (p:=Ap) (Nat.le_of_lt b);have j:=C0 Ap s (Ae s n) (by omega);refine Or.inr ⟨?_,?_,aF,λr f=>?_⟩
     .show 1<=(s.extract (Ae s n) (AK Ap s (Ae s n))).toList.length;omega
     .show(s.extract (Ae s n) (AK Ap s (Ae s n))).toList.length<=3;(have:=λx=>c (Or.inl x));omega
     .obtain⟨k,e,_⟩:=Kg b j (by omega:Ae s n<AK Ap s (Ae s n));simp only at f;rw[f]at e d;have i:=(List.cons.inj e).1;(have:¬1<AK Ap s (Ae s n)-Ae s n:=λx=>c (Or.inr ⟨i.symm,x⟩));rw[mL]at d;exact oP.1 (by omega)
 .rw[dif_neg b]at h;cases h
def YF{s:zA}{b:Nat}(h:(Cq s b).2.2=K):∀t∈(Cq s b).1,t.v=0->Gn t.s:=by
 fun_induction Cq s b with
 |case1 b hc _ _ ih=>
  intro t a c;have d:(Az s b K).2.2=K:=by
   have:=hc.1;rw[mV]at this;simpa using this.1
  rcases mA.1 a with rfl|a
  .exact Sb d c
  .exact ih h t a c
 |case2 b hc=>
  intro t a c;rw[my]at a;subst a;exact Sb h c
structure dV(A:Dr):Prop where
 name:Tt A.name
 args:∀t∈A.args,t.v=0->Gn t.s
def ZJ(h:(A4 s n K).2.2=K):dV (A4 s n K).1:=by
 unfold A4 at h⊢;simp only at h⊢;have a:=IF h;have b:(Bk s (AY s (AF s n K) K).2.1 (AY s (AF s n K) K).2.2 40).2=K:=by
  cases hm:(Bk s (AY s (AF s n K) K).2.1 (AY s (AF s n K) K).2.2 40).2 with
  |false=>rfl
  |true=>unfold DZ at a;rw[hm,mK rfl]at a;cases a
 refine⟨Rs (IF b),?_⟩;unfold DZ at a⊢;rw[b,mJ (by simp)]at a⊢;exact YF a
def Kh(h:(Ao s n).2.2=K):dV (Ao s n).1.head:=by
 unfold Ao at h⊢;simp only at h⊢;exact ZJ (GH (IF h)).1
def Vo.of_list{F:rc UInt8}(c:t.toList=s.toList++32::F):Vo s t:=by
 have a:=MD t;rw[c]at a;have e:s.toList.length=s.size:=(A5 s).symm;have b:EV t s.size (32::F):=by have:=a.right;rwa [nE,e]at this
 have d:=b.1;simp only[mL]at d;refine⟨by omega,λk h f=>?_,λh=>b.head.2⟩;have:=a.left.2 k (by omega) (by omega);simp only[nE]at this;rw[this];simp[ng,ByteArray.getElem_eq_getElem_data]
def KX(p:zA)(f:Af):zA:=p++⟨#[32]⟩++Bv f
def ZA(p:zA)(f:Af):(KX p f).toList=p.toList++32::(Bv f).toList:=by
 unfold KX;rw[CK,CK];have:(⟨#[32]⟩:zA).toList=[32]:=by simp[ng]
 rw[this,nA];rfl
def e9{f:Af}(h:GL f)(o:(Aj s (Ae s 0)).2.2=K):Aj (KX s f) (Ae (KX s f) 0)=((Aj s (Ae s 0)).1++[⟨⟨f.name,f.args.map (AJ.mk 0),s.size+1⟩,[],s.size+1⟩],(KX s f).size,K):=by
 have a:=ZA s f;generalize KX s f=T at a⊢;have n:=Vo.of_list a;have i:=MD T;rw[a]at i;have j:s.toList.length=s.size:=(A5 s).symm;have k:EV T s.size (32::(Bv f).toList):=by have:=i.right;rwa [nE,j]at this
 have g:EV T (s.size+1) (Bv f).toList:=(show EV T s.size ([32]++(Bv f).toList)from k).right;have x:T.size=s.size+1+(Bv f).size:=by
  rw[A5,a,mM,mL,j,<-A5];omega
 have w:=WL h g;have y:0<(Bv f).size:=by
  rw[A5,E2 h.ne];simp;omega
 have v:Ae T s.size=s.size+1:=by
  obtain⟨q,e⟩:=k.head;rw[G4 q (by rw[e];rfl)];have b:=g;rw[E2 h.ne]at b;obtain⟨d,r,e,u,_⟩:=Gn.first (Or.inl h.name);exact EI (c:=d) (m:=r++40::(Eo f.args++[41,46])) (by rw[e]at b;exact b) u
 rw[n.all o,v];have l:AF T (s.size+1+(Bv f).size) K=T.size:=by
  unfold AF;rw[mJ (by simp),<-x,T2 (by omega)]
 have t:Aj T (s.size+1)=([⟨⟨f.name,f.args.map (AJ.mk 0),s.size+1⟩,[],s.size+1⟩],T.size,K):=by
  rw[Aj,dif_pos (by omega),w];simp only;rw[l,dif_pos (by refine⟨?_,?_⟩<;>first|trivial|rfl|omega),Gh (by omega)]
 rw[t]
def JM:zA->rc Af->zA
 |p,[]=>p
 |p,f::l=>JM (KX p f) l
def Q3:∀(l:rc Af) (p:zA) (f:Af),JM p (l++[f])=KX (JM p l) f
 |[],_,_=>rfl
 |g::l,p,f=>Q3 l (KX p g) f
def lj(f:Af)(c:Ca):Prop:=c.head.name=f.name/\c.head.args=f.args.map Lz/\c.body=[]
def X8:∀(l:rc Af) (p:zA),(∀f∈l,GL f)->(Aj p (Ae p 0)).2.2=K->(Aj (JM p l) (Ae (JM p l) 0)).2.2=K/\∃a,(Aj (JM p l) (Ae (JM p l) 0)).1=(Aj p (Ae p 0)).1++a/\F2 lj l a
 |[],p,_,ho=>⟨ho,[],by simp[JM],F2.nil⟩
 |f::l,p,hf,ho=>by
  have b:=e9 (hf f (by simp)) ho;obtain⟨d,a,c,h⟩:=X8 l (KX p f) (λg e=>hf g (by simp[e])) (by rw[b]);refine⟨d,⟨⟨f.name,f.args.map (AJ.mk 0),p.size+1⟩,[],p.size+1⟩::a,?_,F2.cons ⟨rfl,rfl,rfl⟩ h⟩;show(Aj (JM (KX p f) l) (Ae (JM (KX p f) l) 0)).1=_;rw[c,b];simp only[nA,ot,nM]
def NZ(cs ds:rc AV):Prop:=∀c∈cs,∃d∈ds,d.head.name=c.head.name/\d.head.args=c.head.args/\An d=An c
def NZ.inst{b f:rc AV}(h:NZ b f){i:G1 Af}(m:Fa b i):Fa f i:=by
 obtain⟨c,l,σ,e,rfl⟩:=m;obtain⟨d,g,j,k,a⟩:=h c l;refine⟨d,g,σ,?_,?_⟩
 .unfold Qp at e⊢;rw[a];exact e
 .unfold Da Bo;rw[j,k,a]
def NZ.z6{k l:rc AV}(h:NZ k l){f:Af}(j:Dw k f):Dw l f:=by
 refine⟨?_,λx a=>?_⟩
 .obtain⟨c,g,e⟩:=j.zd;obtain⟨d,b,m,i,_⟩:=h c g;exact⟨d,b,by rw[m,i];exact e⟩
 .have a:=j.args x a;unfold consts at a⊢;obtain⟨c,g,a⟩:=m6.1 a;obtain⟨d,b,_,i,_⟩:=h c g;exact m6.2 ⟨d,b,by rw[i];exact a⟩
def NZ.inv{a b:rc AV}(h:NZ a b)(g:NZ b a){L:zA->Nat}{s:rc Af}(c:Hm a L n s):Hm b L n s:=by
 have e:Fa a=Fa b:=funext λi=>propext ⟨h.inst,g.inst⟩
 exact⟨by rw[<-e];exact c.work,c.zG,λf d=>h.z6 (c.zX f d)⟩
def NZ.zS{g i:rc AV}(l:NZ i g){L:zA->Nat}(j:CG g L):CG i L:=by
 refine⟨λd e x b a=>?_,λd e x b a=>?_⟩<;>obtain⟨c,h,f,_,k⟩:=l d e
 .rw[<-f];exact j.pos c h x (by rw[k];exact b) a
 .rw[<-f];exact j.neg c h x (by rw[k];exact b) a
def Xe{g f:rc AV}(i:Cn f)(a:NZ g f)(b:NZ f g){L h:zA->Nat}{m j:rc Af}(r:CG g L)(q:Hm g L n m)(s:∀c∈g,L c.head.name<n)(p:CG f h)(o:Hm f h k j)(u:∀c∈f,h c.head.name<k):m=j:=
 aH (i.other (b.zS r)) (i.other p) (a.inv b q) o (λd l=>by obtain⟨c,t,e,_⟩:=b d l;rw[<-e];exact s c t) u
def TW{u h:rc Af}{e b:rc AV}(m:∀f∈u,f∈h)(j:F2 Gq u e)(l:F2 Gq h b):NZ e b:=by
 intro c n;obtain⟨f,k,g⟩:=j.mem c n;obtain⟨d,i,a⟩:=l.zw f (m f k);exact⟨d,i,by rw[g.1,a.1],by rw[g.1,a.1],by rw[IB g,IB a]⟩
def NZ.app{i g j f:rc AV}(h:NZ i g)(k:NZ j f):NZ (i++j) (g++f):=by
 intro c a;rcases mF.1 a with a|a
 .obtain⟨d,b,e⟩:=h c a;exact⟨d,nS _ b,e⟩
 .obtain⟨d,b,e⟩:=k c a;exact⟨d,List.mem_append_right _ b,e⟩
def iC{a:rc AV}(p:BY a)(n:Cn a){u:rc Af}(r:∀f∈u,Dk a f)(q:u.length<=900)(h:Y2 a u t)(k:Y2 a u s):t=s:=by
 obtain⟨A,L,N,m,g,i,v,l,rfl⟩:=h;obtain⟨z,y,B,C,d,j,x,o,rfl⟩:=k;have e:NZ a a:=λc w=>⟨c,w,rfl,rfl,rfl⟩
 rw[Xe (Ia p n d r q) (e.app (TW (λf b=>b) g d)) (e.app (TW (λf b=>b) d g)) i v l j x o]
def W6{k:rc AV}(S:BY k)(R:Cn k)(AB:k.map AV.erase=(Aj s (Ae s 0)).1)(Ax:(Aj s (Ae s 0)).2.2=K){u l:rc Af}(T:∀f∈u,Dk k f)(F:u.length<=900)(o:∀f∈l,GL f)(A:∀f,f∈l↔f∈u){t y:zA}(h:JI (JM s l) t 0)(G:Y2 k u y):t=y:=by
 obtain⟨r,L,N,m,p,D,W,H,rfl⟩:=h.2 rfl;obtain⟨z,L',N',m',v,E,g3,Q,rfl⟩:=G;obtain⟨_,I,C,B⟩:=X8 l s o Ax;rw[C,<-AB]at p;have a:NZ r (k++z):=by
  intro c n;have j:c.erase∈k.map AV.erase++I:=by rw[<-p];exact mR n
  rcases mF.1 j with j|j
  .obtain⟨d,i,e⟩:=mD.1 j;exact⟨d,nS _ i,congrArg (λx=>x.head.name) e,congrArg (λx=>x.head.args) e,congrArg Ca.body e⟩
  .obtain⟨f,o,q⟩:=B.mem _ j;obtain⟨d,i,g⟩:=v.zw f ((A f).1 o);refine⟨d,List.mem_append_right _ i,?_,?_,?_⟩
   .rw[g.1];exact q.1.symm
   .rw[g.1];exact q.2.1.symm
   .rw[IB g];exact q.2.2.symm
 have b:NZ (k++z) r:=by
  intro d i;rcases mF.1 i with i|i
  ·(have j:d.erase∈r.map AV.erase:=by rw[p];exact nS _ (mR i));obtain⟨c,n,e⟩:=mD.1 j;exact⟨c,n,congrArg (λx=>x.head.name) e,congrArg (λx=>x.head.args) e,congrArg Ca.body e⟩
  .obtain⟨f,o,g⟩:=v.mem d i;obtain⟨w,M,q⟩:=B.zw f ((A f).2 o);(have j:w∈r.map AV.erase:=by rw[p];exact List.mem_append_right _ M);obtain⟨c,n,e⟩:=mD.1 j;subst e;refine⟨c,n,?_,?_,?_⟩
   .rw[g.1];exact q.1
   .rw[g.1];exact q.2.1
   .rw[IB g];exact q.2.2
 rw[Xe (Ia S R v T F) a b D W H E g3 Q]
def iy(h:Il s=true):GL (Cs s):=by
 obtain⟨_,g,i⟩:=GS h;unfold Il at h;rw[mV]at h;obtain⟨a,_⟩:=h;have hF:Cs s=Av Bl (Ao s 0).1.head:=by unfold Cs;rw[mK a]
 unfold Li at a;simp only[mV,oJ,oF]at a;obtain⟨n,f,l,o,m⟩:=a;have d:=Kh f;refine⟨by rw[hF];exact d.name,λx c=>?_,i⟩;have k:=(g x c).size;rw[hF]at c;obtain⟨t,j,rfl⟩:=mD.1 c;by_cases b:t.v=0
 .have e:AP Bl t=t.s:=by unfold AP;rw[mK b]
  rw[e];exact d.args t j b
 .refine absurd ?_ k;unfold AP Bl;rw[mJ b,mN,List.getElem?_replicate];split<;>rfl
def gi{u:rc Af}(e:Dy u)(g:∀f∈u,AL f)(b:∀f∈u,GL f)(s:zA):∀f∈(Fj c u s).2,GL f:=by
 unfold Fj;by_cases a:E3 c s=0
 .rw[mK a];split
  .exact b
  .intro f d;rcases((Ct (PI a).canon e g).2.2 f).1 d with h|h
   .exact b f h
   .rw[h];exact iy (Kc a)
 .rw[mJ a];exact b
def fu{u:rc Af}(a:∀f∈u,GL f)(s:zA):∀f∈(Ft c u s).2,GL f:=by
 unfold Ft;by_cases b:E3 c s=0
 .rw[mK b];split
  .exact λf d=>a f (mT.1 d).1
  .exact a
 .rw[mJ b];exact a
def fL{u:rc Af}(e:Dy u)(l:∀f∈u,Dk c f)(a:∀f∈u,GL f)(n:i<u.length):Fj c (u.drop (i+1)) (Bv u[i])=(0,u.drop i):=by
 have j:=mw n;have b:=l _ j;obtain⟨y,m⟩:=Xj (a _ j) b.two;have r:E3 c (Bv u[i])=0:=by
  unfold E3;rw[mK y,m,mK b.ar,mK (nY.2 λx w=>(I5 _ _).2 (b.zC x w))]
 have g:∀f∈u,AL f:=λf a=>(l f a).canon
 have v:=e.nodup g;have h:u.drop i=u[i]::u.drop (i+1):=mQ n;have o:DB (u.drop (i+1)) u[i]=K:=by
  cases hh:DB (u.drop (i+1)) u[i] with
  |false=>rfl
  |true=>
   have t:=(Ck _ _).1 hh;have k:(u.drop i).Nodup:=List.Pairwise.drop v;rw[h]at k;exact absurd t (oB.1 k).1
 unfold Fj;rw[mK r,m,o,mJ (by simp)];have d:=Ct (s:=u.drop (i+1)) b.canon (e.drop (i:=i+1)) (λp q=>g p (oU q));rw[Pq d.1 (e.drop (i:=i)) d.2.1 (λf a=>g f (oU a)) (λf=>by rw[d.2.2 f,h,mA];exact or_comm)]
