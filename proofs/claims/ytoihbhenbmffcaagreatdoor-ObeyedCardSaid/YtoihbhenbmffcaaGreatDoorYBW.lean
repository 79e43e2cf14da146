import Derived.Test.YtoihbhenbmffcaaGreatDoorYBU
import Derived.Test.YtoihbhenbmffcaaGreatDoorYBV
set_option linter.all false
set_option maxHeartbeats 0
open Go.Value renaming string->O
namespace Go.Proofs.YtoihbhenbmffcaaGreatDoor
open Go.RowKit Go.Proofs.Tryz
def s1:zA:=⟨#[112,40,97,41,46,32,113,40,88,41,32,58,45,32,112,40,88,41,46]⟩
def s2:zA:=⟨#[112,40,97,41,46,32,112,40,98,41,46]⟩
def q2:zA:=⟨#[112,40,88,41,44,32,88,32,35,32,97]⟩
def q3:zA:=⟨#[113,40,97,41,46]⟩
def t1:zA:=⟨#[112,40,97,41,46,10,113,40,97,41,46,10]⟩
def t2:zA:=⟨#[88,61,98,10]⟩
def t3:zA:=⟨#[112,40,97,41,46,32,48,10,113,40,97,41,46,32,49,10]⟩
def fg:Value:=.slice none 0 0
def tA:AE:=⟨0,⟨#[97]⟩⟩
def tB:AE:=⟨0,⟨#[98]⟩⟩
def tX:AE:=⟨88,⟨#[]⟩⟩
def fx:mc A6:=[⟨⟨⟨#[112]⟩,[tA],0⟩,fg,fg,[],0⟩,⟨⟨⟨#[113]⟩,[tX],6⟩,fg,fg,[(⟨97,⟨⟨#[112]⟩,[tX],14⟩,Dm,Dm,14⟩,fg)],6⟩]
def fH:mc A6:=[⟨⟨⟨#[112]⟩,[tA],0⟩,fg,fg,[],0⟩,⟨⟨⟨#[112]⟩,[tB],6⟩,fg,fg,[],6⟩]
def pA:Af:=⟨⟨#[112]⟩,[⟨#[97]⟩]⟩
def pB:Af:=⟨⟨#[112]⟩,[⟨#[98]⟩]⟩
def qA:Af:=⟨⟨#[113]⟩,[⟨#[97]⟩]⟩
theorem fN:fx.map A6.erase=(Ap s1 (Ae s1 0)).1:=by kernel_rfl
theorem gi:(Ap s1 (Ae s1 0)).2.2=false:=by kernel_rfl
theorem gr:Cp fx=(0,0):=by kernel_rfl
theorem fU:fH.map A6.erase=(Ap s2 (Ae s2 0)).1:=by kernel_rfl
theorem fy:(Ap s2 (Ae s2 0)).2.2=false:=by kernel_rfl
theorem gA:Cp fH=(0,0):=by kernel_rfl
def fu:Dn fx:=Ho gi fN gr
def eM:Dn fH:=Ho fy fU gA
def gn:E3 s1 0 0:=by
 unfold E3;rw[gV (by decide),gi];exact⟨fx,fN,gr.symm⟩
def gD:E3 s2 0 0:=by
 unfold E3;rw[gV (by decide),fy];exact⟨fH,fU,gA.symm⟩
def Yg{cs:mc A6}{a:zA->Nat}(c:Oc cs a){u:mc Af}(g:IK cs a 0 []=(u,true))(e:((List.range 7).all λn=> !(IK cs a n u).2)=true):Il cs a 7 u:=by
 have f:∀n,n<7->(IK cs a n u).2=false:=λn d=>by
  have:=ji.1 e n (k0.2 d);simpa using this
 have b:=(OW c (Il.start cs a)).1;rw[g]at b;have:∀n,n<=7->Il cs a n u:=by
  intro n
  induction n with
  |zero=>exact λ_=>b
  |succ n ih=>exact λd=>((OW c (ih (by omega))).2.1 (f n (by omega))).2
 exact this 7 (by omega)
theorem gm:Il fx (DH fx 6) 7 [pA,qA]:=Yg fu.prog (by kernel_rfl) (by kernel_rfl)
theorem gh:Il fH (DH fH 6) 7 [pA,pB]:=Yg eM.prog (by kernel_rfl) (by kernel_rfl)
theorem gH:XJ s1 t1 0:=⟨λh=>absurd rfl h,λ_=>⟨fx,[⟨pA,fg⟩,⟨qA,fg⟩],fN,fu,λc a=>by
 simp only[fx,gP,iU,or_false]at a
 rcases a with rfl|rfl<;>simp,gm,by kernel_rfl⟩⟩
def fi{t:zA}{r:Int×Int}(h:ED s1 (fo s1) r)(a:JF s1 t r.1):r.1=0/\t=t1:=by
 have e:=It gn h;subst e;exact⟨rfl,WP a gH⟩
def gd:mc Bj:=[(⟨97,⟨⟨#[112]⟩,[tX],0⟩,Dm,Dm,0⟩,fg),(⟨35,⟨⟨#[]⟩,[],0⟩,tX,tA,6⟩,fg)]
theorem gq:gd.map Prod.fst=(Bl q2 0).1:=by kernel_rfl
theorem gF:(Bl q2 0).2.2=false:=by kernel_rfl
theorem gC:Vt fH gd=(0,0):=by kernel_rfl
def gG:OZ q2 fH 0 0:=by
 unfold OZ;rw[gV (by decide),gV (by rw[gF];rintro (h|h);exact absurd h (by decide);exact absurd h (by decide+kernel)),gV (by rw[<-gq];decide)];exact⟨gd,gq,gC.symm⟩
theorem gE:Im (Bl q2 0).1 [pA,pB] 88 Bs=[⟨#[97]⟩,⟨#[98]⟩]:=by
 have f:CA (Bl q2 0).1 [pA,pB] 88 Bs=[[⟨#[97]⟩,⟨#[98]⟩]]:=by kernel_rfl
 have d:∀t,JB (Bl q2 0).1 [pA,pB] 88 Bs t↔t∈[(⟨#[97]⟩:zA),⟨#[98]⟩]:=λt=>by
  unfold JB;rw[f];simp
 refine G3 (lt:=fC) (λa h=>by unfold fC at h;rw[FE.irr]at h;cases h) (λa b c=>FE.trans _ _ _) _ _ (Mm λt g=>?_) ?_ (λt=>(ER _ _ 88 Bs t).trans (d t))
 .have h:=(d t).1 g;simp only[gP,iU,or_false]at h;rcases h with rfl|rfl
  .exact(gh.zZ pA (by simp)).canon eM.prog.zN _ (by simp[pA])
  .exact(gh.zZ pB (by simp)).canon eM.prog.zN _ (by simp[pB])
 .have e:Fh (AA ⟨#[97]⟩) (AA ⟨#[98]⟩)=true:=by kernel_rfl
  simpa[fC] using e
theorem fc{t:zA}{r:Int×Int}(h:Oq s2 q2 r)(l:d9 s2 q2 t r.1):r.1=0/\t=t2:=by
 obtain⟨v,g,f⟩:=h;have e:=It gD g;subst e;rcases f with⟨f,_⟩|⟨_,w,y,j,i,p⟩
 .exact absurd rfl f
 .have e:=YS j (fU.trans i.symm) p gG;subst e;obtain⟨x,L,n,u,g,f,j,i,rfl⟩:=l.2 rfl;have a:=Li (g.trans fU.symm);have b:=Li (fU.trans g.symm);have e:[pA,pB]=u:=eM.one gh (b.zS f) (a.inv b j) (λd k=>by
   obtain⟨c,q,m,_⟩:=b d k
   rw[<-m]
   exact i c q)
  subst e;refine⟨rfl,?_⟩;have o:Bk (Bl q2 0).1=[88]:=by kernel_rfl
  have s:DL (Bl q2 0).1 [pA,pB] Bs=false:=by kernel_rfl
  rw[o,Av,s,gV (by simp),gE];show _=_
  kernel_rfl
def St:∀(l m:mc EU) (t:zA),l.map (λh=>(h.1,h.2.head))=m.map (λh=>(h.1,h.2.head))->L1 t l=L1 t m
 |[],[],_,_=>rfl
 |[],_::_,_,h=>by simp at h
 |_::_,[],_,h=>by simp at h
 |x::l,y::m,t,h=>by
  simp only[ii,jB,iE]at h;rw[L1,L1,h.1.1,h.1.2,St l m _ h.2]
def ZT{n:mc A6}(o:n.map A6.erase=fx.map A6.erase){l:mc EU}(p:eH n [pA,qA] l){X:mc EU}{x:EU}(c:l=X++[x])(j:x.2.head=qA):l.map (λh=>(h.1,h.2.head))=[(0,pA),(1,qA)]:=by
 have C:n.length=2:=by simpa[fx] using congrArg List.length o
 match n,C with
 |[c0,c1],_=>
  simp only[fx,ii,jM,jB,A6.erase,Ck.mk.injEq,and_true]at o;obtain⟨⟨F,I,_⟩,u,D,_⟩:=o;have H:qA≠pA:=λh=>absurd (congrArg (λf=>f.name.data.toList) h) (by decide)
  have t:∀A y B,l=A++y::B->(y.1=0/\y.2.head=pA)\/(y.1=1/\∃v,y.2.head=⟨⟨#[113]⟩,[v]⟩/\(⟨⟨#[112]⟩,[v]⟩:Af)∈A.map λh=>h.2.head):=by
   intro A y B h;obtain⟨E,σ,_,b,g,_⟩:=p.each A y B h;obtain⟨k,i⟩:=y
   match k,E with
   |0,_=>
    left;refine⟨rfl,?_⟩;have e:i=CI c0 σ:=b;show i.head=pA;rw[e];show Bu σ c0.head=pA;rw[F];rfl
   |1,_=>
    right;have e:i=CI c1 σ:=b;refine⟨rfl,σ 88,?_,g _ ?_⟩
    .show i.head=_;rw[e];show Bu σ c1.head=_;rw[u];rfl
    .show _∈i.pos;rw[e];unfold CI Ak;rw[D];simp[Bu,Eb,tX]
  have w:=t X x [] c;have r:x.1=1/\pA∈X.map λh=>h.2.head:=by
   rcases w with⟨_,b⟩|⟨a,v,b,g⟩
   .exact absurd (j.symm.trans b) H
   .rw[j]at b;have e:=congrArg Af.args b;simp only[qA,jB,and_true]at e;subst e;exact⟨a,g⟩
  have s:=p.nd;rw[c,iG,kL]at s;obtain⟨m,_,G⟩:=s;have d:∀y∈X,y.2.head=pA:=by
   intro y q;have a:=p.zZ y (by rw[c];simp[q]);simp only[gP,iU,or_false]at a;rcases a with a|a
   .exact a
   .exact absurd (a.trans j.symm) (G _ (it q) _ (by simp))
  match X,r.2,m,d,c with
  |[],h,_,_,_=>simp at h
  |[y],_,_,d,c=>
   have q:=d y (by simp);rcases t [] y [x] (by rw[c];rfl)with⟨a,b⟩|⟨a,v,b,g⟩
   .rw[c];simp[a,b,j,r.1]
   .simp at g
  |y::z::X,_,m,d,_=>
   simp only[ii,jG,gP,not_or]at m;exact absurd ((d y (by simp)).trans (d z (by simp)).symm) m.1.1
theorem fd{t:zA}{r:Int×Int}(h:cI s1 q3 t r):r.1=0/\t=t3:=by
 have j:Er q3=qA:=by kernel_rfl
 have A:Ja q3=true:=by kernel_rfl
 obtain⟨G,v,s⟩:=h;have e:=It gn v;subst e;rcases s with⟨i,_⟩|⟨_,⟨i,_⟩|⟨_,k,I,u,C,L,n,g,m⟩⟩
 .exact absurd rfl i
 .rw[A]at i;cases i
 .rw[j]at k m;have a:=Li (g.erase.trans fN.symm);have b:=Li (fN.trans g.erase.symm);have p:[pA,qA]=u:=fu.one gm (b.zS g.zS) (a.inv b g.inv) (λd o=>by
   obtain⟨c,F,E,_⟩:=b d o
   rw[<-E]
   exact g.top c F)
  subst p;obtain⟨z,B,_⟩:=g.rea.proof (λf j=>(g.inv.zZ f j).canon g.pass.prog.zN) k;obtain⟨H,x,l,D⟩:=B (by simp);have y:=ZT (g.erase.trans fN.symm) z l D;have q:Hz C qA≠[]:=by rw[l];simp
  rcases m with⟨w,_⟩|⟨_,rfl,rfl⟩
  .exact absurd w q
  .refine⟨rfl,?_⟩;rw[St _ [(0,⟨[],[],pA⟩),(1,⟨[],[],qA⟩)] _ (by rw[y];rfl)]
   kernel_rfl
set_option maxRecDepth 100000
theorem Rp(w:World):Calls prog 19 #[] w λe c=>e=.returned (.bool true)/\Ac [] w c:=by
 have i:Hid (∀b,Calls prog 14 #[O s1] b λe c=>∃a,e=.returned (.tuple #[O t1,.int .i64 0,.int .i64 a])/\Ac [] b c):=λb=>by
  refine(NG s1 b (by decide+kernel)).mono ?_;rintro _ c ⟨t,⟨r,a⟩,rfl,d,g,f⟩;obtain⟨rfl,rfl⟩:=fi d g;exact⟨a,rfl,f⟩
 have l:Hid (∀b,Calls prog 24 #[O s2,O q2] b λe c=>∃a,e=.returned (.tuple #[O t2,.int .i64 0,.int .i64 a])/\Ac [] b c):=λb=>by
  refine(bX s2 q2 b (by decide+kernel) (by decide+kernel)).mono ?_;rintro _ c ⟨t,⟨r,a⟩,rfl,d,g,f⟩;obtain⟨rfl,rfl⟩:=fc d g;exact⟨a,rfl,f⟩
 have n:Hid (∀b,Calls prog 27 #[O s1,O q3] b λe c=>∃a,e=.returned (.tuple #[O t3,.int .i64 0,.int .i64 a])/\Ac [] b c):=λb=>by
  refine(bJ s1 q3 b (by decide+kernel) (by decide+kernel)).mono ?_;rintro _ c ⟨t,⟨r,a⟩,rfl,d,f⟩;obtain⟨rfl,rfl⟩:=fd d;exact⟨a,rfl,f⟩
 go_enter func19,ntmps19;go_wp2_with fail
 refine(i _).mono ?_;rintro _ q ⟨z,rfl,h⟩;have k:=Ab h;clear i h;go_wp2_with fail
 refine(l _).mono ?_;rintro _ B ⟨A,rfl,o⟩;have m:=Ab (k.trans o);clear l o k;go_wp2_with fail
 refine(n _).mono ?_;rintro _ s ⟨u,rfl,j⟩;have p:=Ab (m.trans j);clear n j m;have x:(t1.toList==[112,40,97,41,46,10,113,40,97,41,46,10])=true:=by kernel_rfl
 have v:(t2.toList==[88,61,98,10])=true:=by kernel_rfl
 have y:(t3.toList==[112,40,97,41,46,32,48,10,113,40,97,41,46,32,49,10])=true:=by kernel_rfl
 go_wp2_with (go_at_call 16;refine(Tr 0 _).mono ?_;rintro _ C ⟨rfl,rfl⟩)
 go_ret;exact⟨rfl,p⟩
