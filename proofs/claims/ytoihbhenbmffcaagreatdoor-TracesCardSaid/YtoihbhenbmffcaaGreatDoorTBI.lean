import Derived.Test.YtoihbhenbmffcaaGreatDoorTBF
import Derived.Test.YtoihbhenbmffcaaGreatDoorTBH
set_option linter.all false
set_option maxHeartbeats 0
open Go.Value renaming string->O
namespace Go.Proofs.YtoihbhenbmffcaaGreatDoor
open Go.RowKit Go.Proofs.Tryz
variable{c:rc AV}{f:rc Af}{t:zA}
def s1:zA:=⟨#[112,40,97,41,46,32,113,40,88,41,32,58,45,32,112,40,88,41,46]⟩
def s2:zA:=⟨#[112,40,97,41,46,32,112,40,98,41,46]⟩
def q2:zA:=⟨#[112,40,88,41,44,32,88,32,35,32,97]⟩
def q3:zA:=⟨#[113,40,97,41,46]⟩
def t1:zA:=⟨#[112,40,97,41,46,10,113,40,97,41,46,10]⟩
def t2:zA:=⟨#[88,61,98,10]⟩
def t3:zA:=⟨#[112,40,97,41,46,32,48,10,113,40,97,41,46,32,49,10]⟩
def ku:Value:=.slice none 0 0
def tA:AJ:=⟨0,⟨#[97]⟩⟩
def tB:AJ:=⟨0,⟨#[98]⟩⟩
def tX:AJ:=⟨88,⟨#[]⟩⟩
def kR:rc AV:=[⟨⟨⟨#[112]⟩,[tA],0⟩,ku,ku,[],0⟩,⟨⟨⟨#[113]⟩,[tX],6⟩,ku,ku,[(⟨97,⟨⟨#[112]⟩,[tX],14⟩,Ec,Ec,14⟩,ku)],6⟩]
def ln:rc AV:=[⟨⟨⟨#[112]⟩,[tA],0⟩,ku,ku,[],0⟩,⟨⟨⟨#[112]⟩,[tB],6⟩,ku,ku,[],6⟩]
def pA:Af:=⟨⟨#[112]⟩,[⟨#[97]⟩]⟩
def pB:Af:=⟨⟨#[112]⟩,[⟨#[98]⟩]⟩
def qA:Af:=⟨⟨#[113]⟩,[⟨#[97]⟩]⟩
theorem lD:kR.map AV.erase=(Aj s1 (Ae s1 0)).1:=by kernel_rfl
theorem lX:(Aj s1 (Ae s1 0)).2.2=false:=by kernel_rfl
theorem mc:CQ kR=(0,0):=by kernel_rfl
theorem lN:ln.map AV.erase=(Aj s2 (Ae s2 0)).1:=by kernel_rfl
theorem kS:(Aj s2 (Ae s2 0)).2.2=false:=by kernel_rfl
theorem mh:CQ ln=(0,0):=by kernel_rfl
def kP:Cn kR:=DQ lX lD mc
def jZ:Cn ln:=DQ kS lN mh
def l9:DK s1 0 0:=by
 unfold DK;rw[mJ (by decide),lX];exact⟨kR,lD,mc.symm⟩
def mm:DK s2 0 0:=by
 unfold DK;rw[mJ (by decide),kS];exact⟨ln,lN,mh.symm⟩
def bc{a:zA->Nat}(d:QK c a)(i:D9 c a 0 []=(f,true))(g:((List.range 7).all λn=> !(D9 c a n f).2)=true):Hm c a 7 f:=by
 have h:∀n,n<7->(D9 c a n f).2=false:=λn e=>by
  have:=nY.1 g n (qr.2 e);simpa using this
 have b:=(Nl d (Hm.start c a)).1;rw[i]at b;have:∀n,n<=7->Hm c a n f:=by
  intro n
  induction n with
  |zero=>exact λ_=>b
  |succ n ih=>exact λe=>((Nl d (ih (by omega))).2.1 (h n (by omega))).2
 exact this 7 (by omega)
theorem lZ:Hm kR (B3 kR 6) 7 [pA,qA]:=bc kP.prog (by kernel_rfl) (by kernel_rfl)
theorem lW:Hm ln (B3 ln 6) 7 [pA,pB]:=bc jZ.prog (by kernel_rfl) (by kernel_rfl)
theorem mp:OU s1 t1 0:=⟨λh=>absurd rfl h,λ_=>⟨kR,[⟨pA,ku⟩,⟨qA,ku⟩],lD,kP,λc a=>by
 simp only[kR,mA,nI,or_false]at a
 rcases a with rfl|rfl<;>simp,lZ,by kernel_rfl⟩⟩
def kw{r:Int×Int}(h:El s1 (jw s1) r)(a:JI s1 t r.1):r.1=0/\t=t1:=by
 have e:=EH l9 h;subst e;exact⟨rfl,Zr a mp⟩
def lV:rc Bb:=[(⟨97,⟨⟨#[112]⟩,[tX],0⟩,Ec,Ec,0⟩,ku),(⟨35,⟨⟨#[]⟩,[],0⟩,tX,tA,6⟩,ku)]
theorem ma:lV.map Prod.fst=(Bg q2 0).1:=by kernel_rfl
theorem mn:(Bg q2 0).2.2=false:=by kernel_rfl
theorem mj:LI ln lV=(0,0):=by kernel_rfl
def mo:D5 q2 ln 0 0:=by
 unfold D5;rw[mJ (by decide),mJ (by rw[mn];rintro (h|h);exact absurd h (by decide);exact absurd h (by decide+kernel)),mJ (by rw[<-ma];decide)];exact⟨lV,ma,mj.symm⟩
theorem lY:JN (Bg q2 0).1 [pA,pB] 88 Bl=[⟨#[97]⟩,⟨#[98]⟩]:=by
 have f:Di (Bg q2 0).1 [pA,pB] 88 Bl=[[⟨#[97]⟩,⟨#[98]⟩]]:=by kernel_rfl
 have d:∀t,Lg (Bg q2 0).1 [pA,pB] 88 Bl t↔t∈[(⟨#[97]⟩:zA),⟨#[98]⟩]:=λt=>by
  unfold Lg;rw[f];simp
 refine IR (lt:=kV) (λa h=>by unfold kV at h;rw[I7.irr]at h;cases h) (λa b c=>I7.trans _ _ _) _ _ (OA λt g=>?_) ?_ (λt=>(FG _ _ 88 Bl t).trans (d t))
 .have h:=(d t).1 g;simp only[mA,nI,or_false]at h;rcases h with rfl|rfl
  .exact(lW.zX pA (by simp)).canon jZ.prog.zN _ (by simp[pA])
  .exact(lW.zX pB (by simp)).canon jZ.prog.zN _ (by simp[pB])
 .have e:Hx (AD ⟨#[97]⟩) (AD ⟨#[98]⟩)=true:=by kernel_rfl
  simpa[kV] using e
theorem kp{r:Int×Int}(h:Ou s2 q2 r)(l:ia s2 q2 t r.1):r.1=0/\t=t2:=by
 obtain⟨v,g,f⟩:=h;have e:=EH mm g;subst e;rcases f with⟨f,_⟩|⟨_,w,y,j,i,p⟩
 .exact absurd rfl f
 .have e:=TZ j (lN.trans i.symm) p mo;subst e;obtain⟨x,L,n,u,g,f,j,i,rfl⟩:=l.2 rfl;have a:=Nf (g.trans lN.symm);have b:=Nf (lN.trans g.symm);have e:[pA,pB]=u:=jZ.one lW (b.zS f) (a.inv b j) (λd k=>by
   obtain⟨c,q,m,_⟩:=b d k
   rw[<-m]
   exact i c q)
  subst e;refine⟨rfl,?_⟩;have o:Bf (Bg q2 0).1=[88]:=by kernel_rfl
  have s:Ex (Bg q2 0).1 [pA,pB] Bl=false:=by kernel_rfl
  rw[o,Aw,s,mJ (by simp),lY];show _=_
  kernel_rfl
def UK:∀(l m:rc DG) (t:zA),l.map (λh=>(h.1,h.2.head))=m.map (λh=>(h.1,h.2.head))->L4 t l=L4 t m
 |[],[],_,_=>rfl
 |[],_::_,_,h=>by simp at h
 |_::_,[],_,h=>by simp at h
 |x::l,y::m,t,h=>by
  simp only[mU,oA,ny]at h;rw[L4,L4,h.1.1,h.1.2,UK l m _ h.2]
def dL(p:c.map AV.erase=kR.map AV.erase){l:rc DG}(q:jS c [pA,qA] l){g:rc DG}{x:DG}(d:l=g++[x])(n:x.2.head=qA):l.map (λh=>(h.1,h.2.head))=[(0,pA),(1,qA)]:=by
 have D:c.length=2:=by simpa[kR] using congrArg List.length p
 match c,D with
 |[c0,c1],_=>
  simp only[kR,mU,oH,oA,AV.erase,Ca.mk.injEq,and_true]at p;obtain⟨⟨G,L,_⟩,w,E,_⟩:=p;have I:qA≠pA:=λh=>absurd (congrArg (λf=>f.name.data.toList) h) (by decide)
  have u:∀A y B,l=A++y::B->(y.1=0/\y.2.head=pA)\/(y.1=1/\∃v,y.2.head=⟨⟨#[113]⟩,[v]⟩/\(⟨⟨#[112]⟩,[v]⟩:Af)∈A.map λh=>h.2.head):=by
   intro A y B h;obtain⟨F,σ,_,b,m,_⟩:=q.each A y B h;obtain⟨k,i⟩:=y
   match k,F with
   |0,_=>
    left;refine⟨rfl,?_⟩;have e:i=Da c0 σ:=b;show i.head=pA;rw[e];show Bo σ c0.head=pA;rw[G];rfl
   |1,_=>
    right;have e:i=Da c1 σ:=b;refine⟨rfl,σ 88,?_,m _ ?_⟩
    .show i.head=_;rw[e];show Bo σ c1.head=_;rw[w];rfl
    .show _∈i.pos;rw[e];unfold Da An;rw[E];simp[Bo,Eu,tX]
  have C:=u g x [] d;have s:x.1=1/\pA∈g.map λh=>h.2.head:=by
   rcases C with⟨_,b⟩|⟨a,v,b,m⟩
   .exact absurd (n.symm.trans b) I
   .rw[n]at b;have e:=congrArg Af.args b;simp only[qA,oA,and_true]at e;subst e;exact⟨a,m⟩
  have t:=q.nd;rw[d,nk,p9]at t;obtain⟨o,_,H⟩:=t;have j:∀y∈g,y.2.head=pA:=by
   intro y r;have a:=q.zX y (by rw[d];simp[r]);simp only[mA,nI,or_false]at a;rcases a with a|a
   .exact a
   .exact absurd (a.trans n.symm) (H _ (mR r) _ (by simp))
  match g,s.2,o,j,d with
  |[],h,_,_,_=>simp at h
  |[y],_,_,j,d=>
   have r:=j y (by simp);rcases u [] y [x] (by rw[d];rfl)with⟨a,b⟩|⟨a,v,b,m⟩
   .rw[d];simp[a,b,n,s.1]
   .simp at m
  |y::z::g,_,o,j,_=>
   simp only[mU,oB,mA,not_or]at o;exact absurd ((j y (by simp)).trans (j z (by simp)).symm) o.1.1
theorem kq{r:Int×Int}(h:gS s1 q3 t r):r.1=0/\t=t3:=by
 have j:Cs q3=qA:=by kernel_rfl
 have A:Il q3=true:=by kernel_rfl
 obtain⟨G,v,s⟩:=h;have e:=EH l9 v;subst e;rcases s with⟨i,_⟩|⟨_,⟨i,_⟩|⟨_,k,I,u,C,L,n,g,m⟩⟩
 .exact absurd rfl i
 .rw[A]at i;cases i
 .rw[j]at k m;have a:=Nf (g.erase.trans lD.symm);have b:=Nf (lD.trans g.erase.symm);have p:[pA,qA]=u:=kP.one lZ (b.zS g.zS) (a.inv b g.inv) (λd o=>by
   obtain⟨c,F,E,_⟩:=b d o
   rw[<-E]
   exact g.top c F)
  subst p;obtain⟨z,B,_⟩:=g.rea.proof (λf j=>(g.inv.zX f j).canon g.pass.prog.zN) k;obtain⟨H,x,l,D⟩:=B (by simp);have y:=dL (g.erase.trans lD.symm) z l D;have q:Jv C qA≠[]:=by rw[l];simp
  rcases m with⟨w,_⟩|⟨_,rfl,rfl⟩
  .exact absurd w q
  .refine⟨rfl,?_⟩;rw[UK _ [(0,⟨[],[],pA⟩),(1,⟨[],[],qA⟩)] _ (by rw[y];rfl)]
   kernel_rfl
set_option maxRecDepth 100000
theorem TA(w:World):Calls prog 19 #[] w λe c=>e=.returned (.bool true)/\Ac [] w c:=by
 have i:Hid (∀b,Calls prog 14 #[O s1] b λe c=>∃a,e=.returned (.tuple #[O t1,.int .i64 0,.int .i64 a])/\Ac [] b c):=λb=>by
  refine(PR s1 b (by decide+kernel)).mono ?_;rintro _ c ⟨t,⟨r,a⟩,rfl,d,g,f⟩;obtain⟨rfl,rfl⟩:=kw d g;exact⟨a,rfl,f⟩
 have l:Hid (∀b,Calls prog 24 #[O s2,O q2] b λe c=>∃a,e=.returned (.tuple #[O t2,.int .i64 0,.int .i64 a])/\Ac [] b c):=λb=>by
  refine(fZ s2 q2 b (by decide+kernel) (by decide+kernel)).mono ?_;rintro _ c ⟨t,⟨r,a⟩,rfl,d,g,f⟩;obtain⟨rfl,rfl⟩:=kp d g;exact⟨a,rfl,f⟩
 have n:Hid (∀b,Calls prog 27 #[O s1,O q3] b λe c=>∃a,e=.returned (.tuple #[O t3,.int .i64 0,.int .i64 a])/\Ac [] b c):=λb=>by
  refine(fI s1 q3 b (by decide+kernel) (by decide+kernel)).mono ?_;rintro _ c ⟨t,⟨r,a⟩,rfl,d,f⟩;obtain⟨rfl,rfl⟩:=kq d;exact⟨a,rfl,f⟩
 go_enter func19,ntmps19;go_wp2_with fail
 refine(i _).mono ?_;rintro _ q ⟨z,rfl,h⟩;have k:=Ab h;clear i h;go_wp2_with fail
 refine(l _).mono ?_;rintro _ B ⟨A,rfl,o⟩;have m:=Ab (k.trans o);clear l o k;go_wp2_with fail
 refine(n _).mono ?_;rintro _ s ⟨u,rfl,j⟩;have p:=Ab (m.trans j);clear n j m;have x:(t1.toList==[112,40,97,41,46,10,113,40,97,41,46,10])=true:=by kernel_rfl
 have v:(t2.toList==[88,61,98,10])=true:=by kernel_rfl
 have y:(t3.toList==[112,40,97,41,46,32,48,10,113,40,97,41,46,32,49,10])=true:=by kernel_rfl
 go_wp2_with (go_at_call 16;refine(F7 0 _).mono ?_;rintro _ C ⟨rfl,rfl⟩)
 go_ret;exact⟨rfl,p⟩
