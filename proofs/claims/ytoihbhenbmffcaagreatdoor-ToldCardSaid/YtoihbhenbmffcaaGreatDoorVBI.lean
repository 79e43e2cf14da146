import Derived.Test.YtoihbhenbmffcaaGreatDoorVBG
import Derived.Test.YtoihbhenbmffcaaGreatDoorVBH
set_option linter.all false
set_option maxHeartbeats 0
open List renaming length->Z
open Option renaming none->Y,some->V
open Go.Value renaming slice->U,int->X,string->O,pointer->Gi,bool->No
open Bool renaming false->K,true->Cm
open Go.IntKind renaming i64->J
open Go.Ending renaming returned->G3
open ByteArray renaming empty->ND
namespace Go.Proofs.YtoihbhenbmffcaaGreatDoor
open Go.RowKit Go.Proofs.Tryz
variable{c:QC A7}{f:QC Af}{t s:bC}{I:Int}
def s1:bC:=⟨#[112,40,97,41,46,32,113,40,88,41,32,58,45,32,112,40,88,41,46]⟩
def s2:bC:=⟨#[112,40,97,41,46,32,112,40,98,41,46]⟩
def q2:bC:=⟨#[112,40,88,41,44,32,88,32,35,32,97]⟩
def q3:bC:=⟨#[113,40,97,41,46]⟩
def t1:bC:=⟨#[112,40,97,41,46,10,113,40,97,41,46,10]⟩
def t2:bC:=⟨#[88,61,98,10]⟩
def t3:bC:=⟨#[112,40,97,41,46,32,48,10,113,40,97,41,46,32,49,10]⟩
def jF:Value:=U Y 0 0
def tA:AF:=⟨0,⟨#[97]⟩⟩
def tB:AF:=⟨0,⟨#[98]⟩⟩
def tX:AF:=⟨88,⟨#[]⟩⟩
def j4:QC A7:=[⟨⟨⟨#[112]⟩,[tA],0⟩,jF,jF,[],0⟩,⟨⟨⟨#[113]⟩,[tX],6⟩,jF,jF,[(⟨97,⟨⟨#[112]⟩,[tX],14⟩,Cl,Cl,14⟩,jF)],6⟩]
def kp:QC A7:=[⟨⟨⟨#[112]⟩,[tA],0⟩,jF,jF,[],0⟩,⟨⟨⟨#[112]⟩,[tB],6⟩,jF,jF,[],6⟩]
def pA:Af:=⟨⟨#[112]⟩,[⟨#[97]⟩]⟩
def pB:Af:=⟨⟨#[112]⟩,[⟨#[98]⟩]⟩
def qA:Af:=⟨⟨#[113]⟩,[⟨#[97]⟩]⟩
theorem ky:j4.map A7.erase=(An s1 (Ae s1 0)).1:=by kernel_rfl
theorem kY:(An s1 (Ae s1 0)).2.2=K:=by kernel_rfl
theorem ld:CK j4=(0,0):=by kernel_rfl
theorem kP:kp.map A7.erase=(An s2 (Ae s2 0)).1:=by kernel_rfl
theorem j5:(An s2 (Ae s2 0)).2.2=K:=by kernel_rfl
theorem li:CK kp=(0,0):=by kernel_rfl
def jY:Cp j4:=D8 kY ky ld
def ji:Cp kp:=D8 j5 kP li
def k0:CJ s1 0 0:=by
 unfold CJ;rw[lO (by decide),kY];exact⟨j4,ky,ld.symm⟩
def lm:CJ s2 0 0:=by
 unfold CJ;rw[lO (by decide),j5];exact⟨kp,kP,li.symm⟩
def aq{a:bC->Nat}(d:Nz c a)(i:Dz c a 0 []=(f,Cm))(g:((List.range 7).all λn=> !(Dz c a n f).2)=Cm):GN c a 7 f:=by
 have h:∀n,n<7->(Dz c a n f).2=K:=λn e=>by
  have:=m3.1 g n (pu.2 e);simpa using this
 have b:=(Hy d (GN.start c a)).1;rw[i]at b;have:∀n,n<=7->GN c a n f:=by
  intro n
  induction n with
  |zero=>exact λ_=>b
  |succ n ih=>exact λe=>((Hy d (ih (by omega))).2.1 (h n (by omega))).2
 exact this 7 (by omega)
theorem kZ:GN j4 (Cf j4 6) 7 [pA,qA]:=aq jY.prog (by kernel_rfl) (by kernel_rfl)
theorem kX:GN kp (Cf kp 6) 7 [pA,pB]:=aq ji.prog (by kernel_rfl) (by kernel_rfl)
theorem lw:Oj s1 t1 0:=⟨λh=>absurd rfl h,λ_=>⟨j4,[⟨pA,jF⟩,⟨qA,jF⟩],ky,jY,λc a=>by
 simp only[j4,lI,mQ,or_false]at a
 rcases a with rfl|rfl<;>simp,kZ,by kernel_rfl⟩⟩
def jH{r:Int×Int}(h:EI s1 (jo s1) r)(a:Je s1 t r.1):r.1=0/\t=t1:=by
 have e:=Fa k0 h;subst e;exact⟨rfl,Rh a lw⟩
def kW:QC Be:=[(⟨97,⟨⟨#[112]⟩,[tX],0⟩,Cl,Cl,0⟩,jF),(⟨35,⟨⟨#[]⟩,[],0⟩,tX,tA,6⟩,jF)]
theorem lc:kW.map Prod.fst=(A4 q2 0).1:=by kernel_rfl
theorem lq:(A4 q2 0).2.2=K:=by kernel_rfl
theorem lk:I6 kp kW=(0,0):=by kernel_rfl
def lu:Db q2 kp 0 0:=by
 unfold Db;rw[lO (by decide),lO (by rw[lq];rintro (h|h);exact absurd h (by decide);exact absurd h (by decide+kernel)),lO (by rw[<-lc];decide)];exact⟨kW,lc,lk.symm⟩
theorem ln:Jd (A4 q2 0).1 [pA,pB] 88 Bj=[⟨#[97]⟩,⟨#[98]⟩]:=by
 have f:Dc (A4 q2 0).1 [pA,pB] 88 Bj=[[⟨#[97]⟩,⟨#[98]⟩]]:=by kernel_rfl
 have d:∀t,Kq (A4 q2 0).1 [pA,pB] 88 Bj t↔t∈[(⟨#[97]⟩:bC),⟨#[98]⟩]:=λt=>by
  unfold Kq;rw[f];simp
 refine Ih (lt:=ke) (λa h=>by unfold ke at h;rw[Gh.irr]at h;cases h) (λa b c=>Gh.trans _ _ _) _ _ (NO λt g=>?_) ?_ (λt=>(Fr _ _ 88 Bj t).trans (d t))
 .have h:=(d t).1 g;simp only[lI,mQ,or_false]at h;rcases h with rfl|rfl
  .exact(kX.fw pA (by simp)).canon ji.prog.cU _ (by simp[pA])
  .exact(kX.fw pB (by simp)).canon ji.prog.cU _ (by simp[pB])
 .have e:FY (AD ⟨#[97]⟩) (AD ⟨#[98]⟩)=Cm:=by kernel_rfl
  simpa[ke] using e
theorem jB{r:Int×Int}(h:Jz s2 q2 r)(l:Y5 s2 q2 t r.1):r.1=0/\t=t2:=by
 obtain⟨v,g,f⟩:=h;have e:=Fa lm g;subst e;rcases f with⟨f,_⟩|⟨_,w,y,j,i,p⟩
 .exact absurd rfl f
 .have e:=OQ j (kP.trans i.symm) p lu;subst e;obtain⟨x,L,n,u,g,f,j,i,rfl⟩:=l.2 rfl;have a:=Hw (g.trans kP.symm);have b:=Hw (kP.trans g.symm);have e:[pA,pB]=u:=ji.one kX (b.dp f) (a.inv b j) (λd k=>by
   obtain⟨c,q,m,_⟩:=b d k
   rw[<-m]
   exact i c q)
  subst e;refine⟨rfl,?_⟩;have o:A9 (A4 q2 0).1=[88]:=by kernel_rfl
  have s:DU (A4 q2 0).1 [pA,pB] Bj=K:=by kernel_rfl
  rw[o,Av,s,lO (by simp),ln];show _=_
  kernel_rfl
def Ug:∀(l m:QC DY) (t:bC),l.map (λh=>(h.1,h.2.head))=m.map (λh=>(h.1,h.2.head))->Lh t l=Lh t m
 |[],[],_,_=>rfl
 |[],_::_,_,h=>by simp at h
 |_::_,[],_,h=>by simp at h
 |x::l,y::m,t,h=>by
  simp only[l9,nC,mA]at h;rw[Lh,Lh,h.1.1,h.1.2,Ug l m _ h.2]
def de(p:c.map A7.erase=j4.map A7.erase){l:QC DY}(q:jb c [pA,qA] l){g:QC DY}{x:DY}(d:l=g++[x])(n:x.2.head=qA):l.map (λh=>(h.1,h.2.head))=[(0,pA),(1,qA)]:=by
 have D:Z c=2:=by simpa[j4] using congrArg List.length p
 match c,D with
 |[c0,c1],_=>
  simp only[j4,l9,nE,nC,A7.erase,CG.mk.injEq,and_true]at p;obtain⟨⟨G,L,_⟩,w,E,_⟩:=p;have I:qA≠pA:=λh=>absurd (congrArg (λf=>f.name.data.toList) h) (by decide)
  have u:∀A y B,l=A++y::B->(y.1=0/\y.2.head=pA)\/(y.1=1/\∃v,y.2.head=⟨⟨#[113]⟩,[v]⟩/\(⟨⟨#[112]⟩,[v]⟩:Af)∈A.map λh=>h.2.head):=by
   intro A y B h;obtain⟨F,σ,_,b,m,_⟩:=q.each A y B h;obtain⟨k,i⟩:=y
   match k,F with
   |0,_=>
    left;refine⟨rfl,?_⟩;have e:i=C1 c0 σ:=b;show i.head=pA;rw[e];show Bk σ c0.head=pA;rw[G];rfl
   |1,_=>
    right;have e:i=C1 c1 σ:=b;refine⟨rfl,σ 88,?_,m _ ?_⟩
    .show i.head=_;rw[e];show Bk σ c1.head=_;rw[w];rfl
    .show _∈i.pos;rw[e];unfold C1 Am;rw[E];simp[Bk,DZ,tX]
  have C:=u g x [] d;have s:x.1=1/\pA∈g.map λh=>h.2.head:=by
   rcases C with⟨_,b⟩|⟨a,v,b,m⟩
   .exact absurd (n.symm.trans b) I
   .rw[n]at b;have e:=congrArg Af.args b;simp only[qA,nC,and_true]at e;subst e;exact⟨a,m⟩
  have t:=q.nd;rw[d,mx,oV]at t;obtain⟨o,_,H⟩:=t;have j:∀y∈g,y.2.head=pA:=by
   intro y r;have a:=q.fw y (by rw[d];simp[r]);simp only[lI,mQ,or_false]at a;rcases a with a|a
   .exact a
   .exact absurd (a.trans n.symm) (H _ (lZ r) _ (by simp))
  match g,s.2,o,j,d with
  |[],h,_,_,_=>simp at h
  |[y],_,_,j,d=>
   have r:=j y (by simp);rcases u [] y [x] (by rw[d];rfl)with⟨a,b⟩|⟨a,v,b,m⟩
   .rw[d];simp[a,b,n,s.1]
   .simp at m
  |y::z::g,_,o,j,_=>
   simp only[l9,nL,lI,not_or]at o;exact absurd ((j y (by simp)).trans (j z (by simp)).symm) o.1.1
theorem jC{r:Int×Int}(h:fV s1 q3 t r):r.1=0/\t=t3:=by
 have j:CP q3=qA:=by kernel_rfl
 have A:Hj q3=Cm:=by kernel_rfl
 obtain⟨G,v,s⟩:=h;have e:=Fa k0 v;subst e;rcases s with⟨i,_⟩|⟨_,⟨i,_⟩|⟨_,k,I,u,C,L,n,g,m⟩⟩
 .exact absurd rfl i
 .rw[A]at i;cases i
 .rw[j]at k m;have a:=Hw (g.erase.trans ky.symm);have b:=Hw (ky.trans g.erase.symm);have p:[pA,qA]=u:=jY.one kZ (b.dp g.dp) (a.inv b g.inv) (λd o=>by
   obtain⟨c,F,E,_⟩:=b d o
   rw[<-E]
   exact g.top c F)
  subst p;obtain⟨z,B,_⟩:=g.rea.proof (λf j=>(g.inv.fw f j).canon g.pass.prog.cU) k;obtain⟨H,x,l,D⟩:=B (by simp);have y:=de (g.erase.trans ky.symm) z l D;have q:I4 C qA≠[]:=by rw[l];simp
  rcases m with⟨w,_⟩|⟨_,rfl,rfl⟩
  .exact absurd w q
  .refine⟨rfl,?_⟩;rw[Ug _ [(0,⟨[],[],pA⟩),(1,⟨[],[],qA⟩)] _ (by rw[y];rfl)]
   kernel_rfl
set_option maxRecDepth 100000
theorem S4(w:World):Calls prog 19 #[] w λe c=>e=G3 (No Cm)/\Ac [] w c:=by
 have i:Hid (∀b,Calls prog 14 #[O s1] b λe c=>∃a,e=G3 (.tuple #[O t1,X J 0,X J a])/\Ac [] b c):=λb=>by
  refine(KT s1 b (by decide+kernel)).mono ?_;rintro _ c ⟨t,⟨r,a⟩,rfl,d,g,f⟩;obtain⟨rfl,rfl⟩:=jH d g;exact⟨a,rfl,f⟩
 have l:Hid (∀b,Calls prog 24 #[O s2,O q2] b λe c=>∃a,e=G3 (.tuple #[O t2,X J 0,X J a])/\Ac [] b c):=λb=>by
  refine(Lp s2 q2 b (by decide+kernel) (by decide+kernel)).mono ?_;rintro _ c ⟨t,⟨r,a⟩,rfl,d,g,f⟩;obtain⟨rfl,rfl⟩:=jB d g;exact⟨a,rfl,f⟩
 have n:Hid (∀b,Calls prog 27 #[O s1,O q3] b λe c=>∃a,e=G3 (.tuple #[O t3,X J 0,X J a])/\Ac [] b c):=λb=>by
  refine(eZ s1 q3 b (by decide+kernel) (by decide+kernel)).mono ?_;rintro _ c ⟨t,⟨r,a⟩,rfl,d,f⟩;obtain⟨rfl,rfl⟩:=jC d;exact⟨a,rfl,f⟩
 go_enter func19,ntmps19;go_wp2_with fail
 refine(i _).mono ?_;rintro _ q ⟨z,rfl,h⟩;have k:=Ab h;clear i h;go_wp2_with fail
 refine(l _).mono ?_;rintro _ B ⟨A,rfl,o⟩;have m:=Ab (k.trans o);clear l o k;go_wp2_with fail
 refine(n _).mono ?_;rintro _ s ⟨u,rfl,j⟩;have p:=Ab (m.trans j);clear n j m;have x:(t1.toList==[112,40,97,41,46,10,113,40,97,41,46,10])=Cm:=by kernel_rfl
 have v:(t2.toList==[88,61,98,10])=Cm:=by kernel_rfl
 have y:(t3.toList==[112,40,97,41,46,32,48,10,113,40,97,41,46,32,49,10])=Cm:=by kernel_rfl
 go_wp2_with (go_at_call 16;refine(Ma 0 _).mono ?_;rintro _ C ⟨rfl,rfl⟩)
 go_ret;exact⟨rfl,p⟩
def U3(nm:bC):bC:=nm++⟨#[40,88,41]⟩
def My(nm:bC):bC:=nm++⟨#[40,88,44,89,41]⟩
def OF(a:bC):(U3 a).toList=a.toList++40::([88]++[41]):=by
 unfold U3;rw[BH,ma ⟨#[40,88,41]⟩];rfl
def MR(a:bC):(My a).toList=a.toList++40::([88,44,89]++[41]):=by
 unfold My;rw[BH,ma ⟨#[40,88,44,89,41]⟩];rfl
def bM(h:Kd s):A4 (U3 s) 0=([QW s [88]],(U3 s).size,K):=by
 refine R3 h (OF s) ?_;have b:=EB (U3 s);rw[OF]at b;have c:=b.right;have a:CV (U3 s) (0+Z s.toList+[(40:UInt8)].length) ([88]++[41]):=(show CV (U3 s) (0+Z s.toList) ([40]++([88]++[41]))from c).right;rw[mC]at a;exact ex a
def YC(h:Kd s):A4 (My s) 0=([QW s [88,89]],(My s).size,K):=by
 refine R3 h (MR s) ?_;have b:=EB (My s);rw[MR]at b;have c:=b.right;have a:CV (My s) (0+Z s.toList+[(40:UInt8)].length) ([88,44,89]++[41]):=(show CV (My s) (0+Z s.toList) ([40]++([88,44,89]++[41]))from c).right;rw[mC]at a;exact dY a
structure ic(S:bC)(cs:QC A7)(u:QC Af):Prop where
 one:∀nm∈C2 cs,BU cs nm=1->∀wz,Calls prog 24 #[O S,O (U3 nm)] wz λe w'=>∃a:Int,e=G3 (.tuple #[O (IH nm ND u),X J 0,X J a])/\Ac [] wz w'
 two:∀nm∈C2 cs,BU cs nm=2->∀wz,Calls prog 24 #[O S,O (My nm)] wz λe w'=>∃a:Int,e=G3 (.tuple #[O (IH nm ND u),X J 0,X J a])/\Ac [] wz w'
 ar:∀nm∈C2 cs,(BU cs nm=1\/BU cs nm=2)/\nm.size<=4
 yes:∀T,Hj T=Cm->BU cs (CP T).name=(Z (CP T).args:Int)->∀wz,Calls prog 24 #[O S,O (T.extract 0 (T.size-1))] wz λe w'=>∃a:Int,e=G3 (.tuple #[O (if CW u (CP T)=Cm then⟨#[10]⟩else ND),X J 0,X J a])/\Ac [] wz w'
 no:∀T,Hj T=Cm->BU cs (CP T).name=(Z (CP T).args:Int)->∀wz,Calls prog 24 #[O S,O (⟨#[33]⟩++T.extract 0 (T.size-1))] wz λe w'=>∃a:Int,e=G3 (.tuple #[O (if(!CW u (CP T))=Cm then⟨#[10]⟩else ND),X J 0,X J a])/\Ac [] wz w'
def Yb(A:s.size<=9223372036854775807){i:QC A7}(m:Cp i)(x:CJ s 0 I)(M:(An s (Ae s 0)).2.2=K)(q:i.map A7.erase=(An s (Ae s 0)).1){u:QC Af}(w:GN i (Cf i 6) 7 u):ic s i u:=by
 have z:∀a∈C2 i,Kd a:=λa h=>(XE M q m h).1
 have D:∀a∈C2 i,a.size<=4:=λa h=>by rw[AP];exact(z a h).2.1
 have G:∀a∈C2 i,A6 a:=λa h=>by
  have H:=z a h;cases he:a.toList with
  |nil=>have:=H.1;rw[he]at this;simp at this
  |cons c r=>
   have b:=H.2.2 c (by rw[he];simp);unfold AA at b;simp only[mi,n7]at b;exact Or.inl ⟨c,r,he,b.1,b.2⟩
 have L:∀a (n:Nat),BU i a=(n:Int)->∀f∈u,f.name=a->Z f.args=n:=λa n d f P e=>by
  have:=Yq m (w.fw f P);rw[e,d]at this;omega
 refine⟨λa g d l=>?_,λa g d l=>?_,λa g=>⟨(XE M q m g).2,D a g⟩,λT o d l=>?_,λT o d l=>?_⟩
 .have y:(U3 a).size<=300:=by have:=D a g;rw[AP,OF,lU,<-AP];simp;omega
  refine(Lp s (U3 a) l A (by omega)).mono ?_;rintro _ B ⟨t,r,rfl,b,j,k⟩;obtain⟨p,rfl⟩:=Xr b j x m q w (Or.inl rfl) y (bM (z a g)) (G a g) d (L a 1 d);exact⟨r.2,by rw[p],k⟩
 .have y:(My a).size<=300:=by have:=D a g;rw[AP,MR,lU,<-AP];simp;omega
  refine(Lp s (My a) l A (by omega)).mono ?_;rintro _ B ⟨t,r,rfl,b,j,k⟩;obtain⟨p,rfl⟩:=Xr b j x m q w (Or.inr rfl) y (YC (z a g)) (G a g) d (L a 2 d);exact⟨r.2,by rw[p],k⟩
 .obtain⟨v,R,F,W⟩:=Og o;obtain⟨E,N⟩:=Pb o;refine(Lp s _ l A (by omega)).mono ?_;rintro _ B ⟨t,r,rfl,b,j,k⟩;obtain⟨p,C⟩:=W5 b j x m q w (Or.inl rfl) v (Hm o).2.1 F (by omega) (fA v E) d;exact⟨r.2,by rw[p,C];rfl,k⟩
 .obtain⟨v,R,F,W⟩:=Og o;obtain⟨E,N⟩:=Pb o;have Q:(⟨#[33]⟩++T.extract 0 (T.size-1):bC).toList=33::((CP T).name.toList++40::(D7 (CP T).args++[41])):=by
   rw[BH,E,ma ⟨#[33]⟩];rfl
  have y:(⟨#[33]⟩++T.extract 0 (T.size-1):bC).size=T.size:=by
   have b:(⟨#[33]⟩:bC).size=1:=rfl;rw[lK,b];omega
  refine(Lp s _ l A (by omega)).mono ?_;rintro _ B ⟨t,r,rfl,b,j,k⟩;obtain⟨p,C⟩:=W5 b j x m q w (Or.inr rfl) v (Hm o).2.1 F (by omega) (eC v Q) d;exact⟨r.2,by rw[p,C];rfl,k⟩
theorem eK(Nq:∀w,Calls prog 19 #[] w λe n=>e=G3 (No Cm)/\Ac [] w n)
  (ab ao s K7:Nat) (bv:Nat->Int) (S T:Nat->bC) (w:World) (h:SY w ab ao s bv S T) (hl:s<=K7) (hc:K7<=9223372036854775807) (hS:∀i,i<s->(S i).size<=9223372036854775807/\(T i).size<=9223372036854775807):
  Calls prog 8 #[U (V ⟨ab,ao,Y⟩) s K7] w λe n=>e=G3 (No Cm)/\Ac [] w n:=by
 have E0:=Ab h;have NB:=Ab hS;have Wa:=Ab Nq;clear h hS Nq;go_enter func8,ntmps8;go_wp2
 go_loopg [3] s (λgk i wr=>∃(k:Nat),i=X J k/\k<=s/\k<=1152921504606846976/\gk=s-k/\Hid (Ac [] w wr))
 case atStart=>exact⟨0,rfl,by omega,by omega,rfl,SF _ _⟩
 case round=>
  obtain⟨k,rfl,d,bp,VL,HK⟩:=hrel;have HG:=Ab VL;clear VL;by_cases R:k<s
  ·(have bs:(k:Int)<(s:Int):=by omega);(have cl:(0:Int)<=(k:Int):=by omega);by_cases NA:k<1152921504606846976
   ·(have av:(k:Int)<1152921504606846976:=by omega);have HD:=Ab NA;clear NA bp;obtain⟨F,y,C⟩:=E0.kept HK k R;have LM:=(Aa NB k R).1;have b3:=(Aa NB k R).2;have VS:=Ab (LG (S k) wr LM);(go_wp2_with fail);refine VS.mono ?_;rintro _ w3 ⟨pv,er,W0,rfl,Nx,H7,k3⟩;have KS:=Ab Nx;have HS:=Ab H7;have HH:=Ab (HK.trans k3);clear VS Nx H7 k3 HK F y C;by_cases h0:er=0
    .subst h0;obtain⟨F,y,C⟩:=E0.kept HH k R;have b1:((0:Int) !=0)=K:=rfl;have M0:=Ab (KT (S k) w3 LM);(go_wp2_with fail);refine M0.mono ?_;rintro _ w2 ⟨t,⟨rc,ra⟩,rfl,NM,PT,Q⟩;have WW:(rc,ra)=(0,W0):=Fa KS NM;obtain⟨rfl,rfl⟩:=Prod.mk.inj WW;obtain⟨pb,c7,c2,z,rfl,hP,hR,hF,X3,hr,EX,HT⟩:=HS rfl;have W:=D8 hr EX HT;obtain⟨u,hu,VR,JA,K5,ST⟩:=YB PT W hr EX;have RT:Hid (CJ (S k) 0 0):=by
      show CJ _ _ _;unfold CJ;rw[lO (by omega),lO (by rw[hr];simp)];exact⟨z,EX,HT.symm⟩
     have L0:Hid (Calls prog 17 #[O t] w2 λe n=>∃(ad:Option Addr) (cp:Nat) (B:QC BM),e=G3 (.tuple #[U ad (Z B) cp,No Cm])/\B.map BM.f=u/\D2 n (U ad (Z B) cp) B/\Ac [] w2 n):=by
      have h:=aQ t w2 ST;rw[hu]at h;exact h
     have Bx:=Ab (Yb LM W RT hr EX VR);(have RB:Hid (∀a,Ac [] w3 a->Calls prog 22 #[Gi (V ⟨pb,0,Y⟩)] a λe n=>∃v,e=G3 v/\n.ownsRow a.heap.size 9 1 v (Z (C2 z)) ((C2 z).flatMap Ag)/\Ac [] a n):=λa d=>Ut pb _ z a (hP.kept d) (hR.kept d) W.order.small.1 (λc hc=>by obtain⟨k',X0,rfl⟩:=mw hc;exact(Ns (W.order.each k' X0)).2));(have H2:Hid (∀m a,Ac [] w3 a->Calls prog 23 #[Gi (V ⟨pb,0,Y⟩),O m] a λe n=>e=G3 (X J (BU z m))/\Ac [] a n):=λm a d=>Jh pb _ z m a (hP.kept d) (hR.kept d) (by have:=W.order.small.1;omega) (λc hc=>by have:=(W.order.small.2 c hc).1;omega));have M6:Hid (∀f∈u,Z f.args=1\/Z f.args=2):=λf hf=>by
      have h1:=(JA f hf).2;have h2:=List.length_pos_iff.2 (JA f hf).1.ne;omega
     have BS:=Ab (HH.trans Q);have MN:=Ab Q;clear hP hR hF X3 hr EX HT W hu VR JA ST HS KS RT M0 NM PT Q WW F y C HH;(go_wp2_with fail);refine L0.mono ?_;rintro _ w4 ⟨ad,cp,B,rfl,hm,hs,k4⟩;have M1:=Ab (MN.trans k4);(have H7:Z B<=6912:=by rw[<-hm,lR]at K5;exact K5);have FT:=Ab hm;have DY:=Ab hs;have TX:=Ab (BS.trans k4);clear L0 hm hs k4 BS MN K5;go_wp2_with (go_at_call 16;refine(Ma 0 _).mono ?_;rintro _ w5 ⟨rfl,a2⟩;subst a2)
     refine(RB w5 M1).mono ?_;rintro _ w6 ⟨lv,rfl,HU,k6⟩;obtain⟨c3,cB,e⟩:=Ak HU;subst e;have HA:=Ab (Al (base':=0) HU (lW _));have H8:=Ab (M1.trans k6);have H4:=Ab (DY.kept k6);have K6:=Ab (TX.trans k6);(have TH:Hid (∀x∈C2 z,x∈C2 z):=λx h=>h);obtain⟨A,H1⟩:=QP (C2 z);(have N0:Hid (∀x∈A,x∈C2 z):=by rw[<-H1];exact TH);rw[H1]at HA⊢;clear RB HU k6 TH H1 TX DY;go_wp2_with fail
     go_loopg [13] (Z A) (λgk i wq=>∃(j:Nat),i=X J j/\j<=Z A/\gk=Z A-j/\Hid (Ac [] w6 wq))
     case atStart=>exact⟨0,rfl,by omega,rfl,SF _ _⟩
     case round=>
      obtain⟨j,rfl,hj,M2,L⟩:=hrel;have WS:=Ab M2;clear M2;(have ZV:(0:Int)<=(j:Int):=by omega);by_cases FP:j<Z A
      ·(have cf:(j:Int)<(Z A:Int):=by omega);have ch:=Rk HA;obtain⟨g,c6,he,_,NV⟩:=AC (f:=Ag) (l:=A) (Ad (Aa HA) L) (λ_ _=>rfl) j FP;have c0:=NV j FP 0 (by omega);simp only[lB]at he;obtain⟨rfl,_,rfl⟩:=he;simp[Ag]at c0;obtain⟨m,HV⟩:=QP (A[j]);have IA:m∈C2 z:=N0 _ (by rw[<-HV];exact lE FP);rw[HV]at c0;obtain⟨W3,c4⟩:=Bx.ar m IA;obtain⟨F,y,C⟩:=E0.kept (K6.trans L) k R;(have P:Hid (∀a,Ac [] wr a->a.cell? ⟨ab,ao+k*3+1,Y⟩=V (O (S k))/\a.cell? ⟨g,j,Y⟩=V (O m)):=λa d=>⟨d.cellAt y,d.cellAt c0⟩);have FW:=Ab (Bx.one m IA);have HC:=Ab (Bx.two m IA);have LL:Hid (∀a,Ac [] w6 a->Calls prog 25 #[U ad (Z B) cp,O m] a λe n=>e=G3 (O (IH m ND u))/\n=a):=λa d=>by
        have h:=dH ad cp B m a (H4.kept d) (by omega) (λp hp=>M6 p.f (by rw[<-Aa FT];exact lZ hp));rw[Aa FT]at h;exact h
       (have b2:(m++⟨#[40,88,41]⟩:bC).size=m.size+3:=by rw[lK];rfl);(have bn:(m++⟨#[40,88,44,89,41]⟩:bC).size=m.size+5:=by rw[lK];rfl);unfold U3 at FW;unfold My at HC;obtain⟨RG,P0⟩:=QP (IH m ND u);rw[P0]at FW HC LL;(have cL:(RG.toList !=RG.toList)=K:=by simp);clear HV NV F C P0;(go_wp2_with fail);refine(H2 m _ (H8.trans L)).mono ?_;rintro _ w7 ⟨rfl,G⟩;obtain⟨a6,aT⟩:=P w7 G;clear y c0;rcases W3 with ha|ha
       case' inl=>
        have HO:=Ab (FW ha);have SJ:((1:Int)==2)=K:=rfl;rw[ha]
       case' inr=>
        have HO:=Ab (HC ha);have SJ:((2:Int)==2)=Cm:=rfl;rw[ha]
       all_goals
        clear FW HC ha;(go_wp2_with fail);refine(HO _).mono ?_;rintro _ H ⟨a8,rfl,k8⟩;obtain⟨y,c0⟩:=P H (G.trans k8);have A2:=Ab (L.trans (G.trans k8));clear HO a6 aT G k8 P SJ b2 bn;(go_wp2_with fail);refine(LL H A2).mono ?_;rintro _ N ⟨rfl,W2⟩;subst W2;clear LL y c0;go_wp2_with (go_at_call 16;refine(Ma 0 _).mono ?_;rintro _ wA ⟨rfl,KK⟩;subst KK)
        go_roundg (Z A-(j+1))
        case measure=>have:=Aa WS;omega
        case rel=>exact⟨j+1,by go_num,by omega,rfl,A2⟩
      ·(obtain rfl:j=Z A:=by omega);have H0:=Ab (K6.trans L);have OB:=Ab (H8.trans L);have Nd:=Ab (H4.kept L);obtain⟨F,y,C⟩:=E0.kept H0 k R;have SL:=Ab (Vl (T k) wr b3);clear WS ZV FP hj H4 L K6 H8 N0 HA M6;(go_wp2_with fail);refine SL.mono ?_;rintro _ w7 ⟨⟨⟨r,o⟩,xv⟩,rfl,JJ,IJ,_,G⟩;obtain⟨D,E,e⟩:=Ak IJ;simp only at e JJ;subst e;simp only[Bw];have AH:=Ab JJ;have Go:=Ab (D0.kept IJ ((SF [] w7).alloc (.cells [O r,U D (Z o) E].toArray 43)));have ES:=Ab (Tc w7 [O r,U D (Z o) E] 43);have A2:=Ab ((H0.trans G).alloc (.cells [O r,U D (Z o) E].toArray 43));have TS:=Ab ((OB.trans G).alloc (.cells [O r,U D (Z o) E].toArray 43));have HI:=Ab (Nd.kept (G.alloc (.cells [O r,U D (Z o) E].toArray 43)));clear SL IJ JJ G F y C Nd H0 OB;(go_wp2_with fail);generalize w7.alloc (.cells [O r,U D (Z o) E].toArray 43)=H at Go ES A2 TS HI⊢;obtain⟨A1,hX⟩:=QP w7.heap.size;rw[hX]at ES⊢;clear hX;cases ho:Hj (T k)with
       |false=>
        go_quiet (fail)
        rename_i nq;have BA:=Ab (A2.drewN nq);go_wp2
        go_roundg (s-(k+1))
        case measure=>have:=Aa HG;omega
        case rel=>exact⟨k+1,by go_num,by omega,by have:=Aa HD;omega,rfl,BA⟩
       |true=>
        obtain⟨o1,o2,o3,o4⟩:=Og ho;have S1:=o3;have br:=o4;(have LS:Z o<=2:=by rw[<-Aa AH]at o3;exact o3);(have P:Hid (∀a,Ac [] H a->a.cell? ⟨A1,0,Y⟩=V (O r)/\a.cell? ⟨A1,1,Y⟩=V (U D (Z o) E)):=λa d=>⟨d.cellAt (by have:=ES.cell 0;simpa using this),d.cellAt (by have:=ES.cell 1;simpa using this)⟩);obtain⟨AR,Jx⟩:=QP (BU z r);have Pl:Hid (∀a,Ac [] H a->Calls prog 23 #[Gi (V ⟨pb,0,Y⟩),O r] a λe n=>e=G3 (X J AR)/\Ac [] a n):=λa d=>by
         have h:=H2 r a (TS.trans d);rw[Jx]at h;exact h
        have H9:=Ab Jx;clear Jx
        go_region_held3 (λa=>Ac [] H a/\a.cell? ⟨A1,0,Y⟩=V (O r)/\a.cell? ⟨A1,1,Y⟩=V (U D (Z o) E)) ((go_split_ands;refine(fun(FC:Ac [] H _)=>And.intro FC (P _ FC)) ?_;repeat (first|assumption|exact SF [] _|refine Ac.drew ?_|refine Ac.alloc ?_ _))) ((go_at_call 23;refine(Pl _ (by go_split_ands;assumption)).mono ?_;rintro _ N ⟨rfl,k9⟩;have T0:Ac [] H N:=(by go_split_ands;exact Ac.trans (by assumption) k9);clear k9))
        rename_i bd;clear bd Pl;have BA:=Ab (A2.trans T0);obtain⟨BB,K9⟩:=QP (AR==(Z o:Int));rw[K9];have K8:=Ab K9;clear K9;cases BB with
        |true=>
         (have hA:AR=(Z o:Int):=by simpa using Aa K8);have HZ:Hid (BU z (CP (T k)).name=(Z (CP (T k)).args:Int)):=by
          show _=_;rw[<-Aa AH];exact(Aa H9).trans hA
         have HY:=Ab (Bx.yes (T k) ho HZ);have HN:=Ab (Bx.no (T k) ho HZ);obtain⟨p1,p2⟩:=Pb ho;obtain⟨F,y,C⟩:=E0.kept BA k R;(have DT:Hid (∀a,Ac [] N a->a.cell? ⟨ab,ao+k*3+1,Y⟩=V (O (S k))/\a.cell? ⟨ab,ao+k*3+2,Y⟩=V (O (T k))):=λa d=>⟨d.cellAt y,d.cellAt C⟩);obtain⟨q,EK⟩:=QP (T k);obtain⟨SK,HW⟩:=QP (S k);rw[EK,HW]at DT;rw[EK]at p2 o4 HY HN;obtain⟨M,hM⟩:∃M,q.size=M+1:=⟨q.size-1,by omega⟩;(have bt:(q.size:Int)-1=(M:Int):=by omega);(have W1:(0:Int)<=(M:Int):=by omega);(have ap:(M:Int)<=(q.size:Int):=by omega);(have b6:IntKind.i64.wrap ((q.size:Int)-1)=(M:Int):=by rw[nU];omega);(have a0:IntKind.i64.wrap (M:Int)=(M:Int):=by rw[nU];omega);(have a4:(0:Int)<=(q.size:Int)-1:=by omega);(have YP:(q.size:Int)-1<=(q.size:Int):=by omega);(have bb:((q.size:Int)-1).toNat=M:=by omega);have af:=Ab p2;have K3:=Ab hM;have a5:=Ab hA;clear F y C p1 p2 o1 o2 o3 o4 hM hA LS;go_wp2_with fail
         go_region_held3 (λa=>Ac [] N a/\a.cell? ⟨ab,ao+k*3+2,Y⟩=V (O q)) ((go_split_ands;refine(fun(FC:Ac [] N _)=>And.intro FC (DT _ FC).2) ?_;repeat (first|assumption|exact SF [] _|refine Ac.drew ?_|refine Ac.alloc ?_ _))) (fail)
         rename_i X1;clear X1;obtain⟨I,HR⟩:=QP (CW u (CP q));(have MY:q.size-1=M:=by have:=Aa K3;omega);(have a3:Hid (Z o<=2):=by show _<=_;rw[<-Aa AH]at S1;exact S1);have SP:Hid (∀a,Ac [] H a->Calls prog 21 #[U ad (Z B) cp,.agg #[O r,U D (Z o) E]] a λe n=>e=G3 (No I)/\Ac [] a n):=by
          intro a d;have h:=fq ad cp B ⟨⟨r,o⟩,U D (Z o) E⟩ a (HI.kept d) (D0.kept (Aa Go) d) (by omega) (by have:=Aa a3;show Z o<=1000;omega);have hh:(B.any λp=>Em p.f (⟨r,o⟩:Af))=I:=by
           rw[<-HR,<-Aa FT,<-EK,<-Aa AH];unfold CW;rw[oW];rfl
          exact h.mono λe n h=>⟨h.1.trans (congrArg (λb=>G3 (No b)) hh),h.2⟩
         rw[MY,HW,HR]at HY HN;obtain⟨QQ,LB⟩:=QP (q.extract 0 M);(have c1:QQ.size<=299:=by rw[<-LB,mP];rw[EK]at br;have:=Aa K3;omega);(have ce:(QQ.size:Int)<300:=by omega);have hz:(⟨#[33]⟩++QQ:bC).size=QQ.size+1:=by
          have h1:(⟨#[33]⟩:bC).size=1:=rfl;rw[lK,h1];omega
         rw[LB]at HY HN⊢;obtain⟨tY,H5⟩:=QP (if I=Cm then(⟨#[10]⟩:bC)else ND);obtain⟨tN,IS⟩:=QP (if(!I)=Cm then(⟨#[10]⟩:bC)else ND);rw[H5]at HY;rw[IS]at HN;have RV:=Ab H5;have Nj:=Ab IS;clear H5 IS;have M3:=Ab BA.drew;have N2:=Ab T0.drew;obtain⟨e1,-⟩:=DT N.drew (SF [] N).drew;clear LB HR MY AH Go HI HZ bt W1 ap b6 a0 a4 YP bb BA K3 af a5 H9 K8 EK HW;(go_wp2_with fail);refine(HY _).mono ?_;rintro _ wB ⟨aB,rfl,kB⟩;obtain⟨b9,-⟩:=DT wB ((SF [] N).drew.trans kB);have OH:=Ab (M3.trans kB);have Op:=Ab (N2.trans kB);clear HY M3 N2 e1 kB;(go_wp2_with fail);refine(HN _).mono ?_;rintro _ wC ⟨aC,rfl,kC⟩;have RE:=Ab (OH.trans kC);have LE:=Ab (Op.trans kC);obtain⟨f0,f1⟩:=P wC LE;clear HN OH Op b9 kC DT hz;(go_wp2_with fail);refine(SP _ LE).mono ?_;rintro _ wD ⟨rfl,kD⟩;have b0:=Ab (RE.trans kD);clear SP LE RE kD f0 f1 P;have Os:tY=if I=Cm then(⟨#[10]⟩:bC)else ND:=(Aa RV).symm;have U1:tN=if(!I)=Cm then(⟨#[10]⟩:bC)else ND:=(Aa Nj).symm;clear RV Nj;cases I
         case' false=>
          obtain rfl:tY=ND:=Os;obtain rfl:tN=⟨#[10]⟩:=U1
         case' true=>
          obtain rfl:tY=⟨#[10]⟩:=Os;obtain rfl:tN=ND:=U1
         all_goals
          go_wp2_with (go_at_call 16;refine(Ma 0 _).mono ?_;rintro _ wA ⟨rfl,KK⟩;subst KK)
          go_roundg (s-(k+1))
          case measure=>have:=Aa HG;omega
          case rel=>exact⟨k+1,by go_num,by omega,by have:=Aa HD;omega,rfl,b0⟩
        |false=>
         clear LS o1 o2 o3 o4 P Bx H2 Go ES HI AH H9 FT K8 ho;go_wp2
         go_roundg (s-(k+1))
         case measure=>have:=Aa HG;omega
         case rel=>exact⟨k+1,by go_num,by omega,by have:=Aa HD;omega,rfl,BA⟩
    ·(have b1:(er !=0)=Cm:=by simpa using h0);clear HS KS;go_wp2
     go_roundg (s-(k+1))
     case measure=>have:=Aa HG;omega
     case rel=>exact⟨k+1,by go_num,by omega,by have:=Aa HD;omega,rfl,HH⟩
   ·(have av:¬(k:Int)<1152921504606846976:=by omega);(go_wp2_with fail);refine(Wa _).mono ?_;rintro _ w2 ⟨rfl,Q⟩;have BS:=Ab (HK.trans Q);go_wp2;go_ret;exact⟨rfl,BS⟩
  ·(have bs:¬(k:Int)<(s:Int):=by omega);(go_wp2_with fail);refine(Wa _).mono ?_;rintro _ w2 ⟨rfl,Q⟩;have BS:=Ab (HK.trans Q);go_wp2;go_ret;exact⟨rfl,BS⟩
theorem ec(d:∀w,Calls prog 19 #[] w λe b=>e=G3 (No Cm)/\Ac [] w b)(a:Option Addr)(g:Nat)(w:World):Calls prog 8 #[U a 0 g] w λe b=>e=G3 (No Cm)/\Ac [] w b:=by
 have f:=Ab d;clear d;go_enter func8,ntmps8;go_wp2
 go_loop [3] (λi=>i=X J 0) (λ_=>0)
 case atStart=>rfl
 case round=>
  subst hrel;go_wp2_with fail
  refine(f _).mono ?_;rintro _ j ⟨rfl,c⟩;have h:=Ab c;clear c;go_wp2;go_ret;exact⟨rfl,h⟩
