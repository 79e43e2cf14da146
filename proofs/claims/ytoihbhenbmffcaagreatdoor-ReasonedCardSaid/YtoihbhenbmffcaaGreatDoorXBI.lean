import Derived.Test.YtoihbhenbmffcaaGreatDoorXBG
import Derived.Test.YtoihbhenbmffcaaGreatDoorXBH
set_option linter.all false
set_option maxHeartbeats 0
open Go.Value renaming string->O
namespace Go.Proofs.YtoihbhenbmffcaaGreatDoor
open Go.RowKit Go.Proofs.Tryz
variable{c:pM A4}{f:pM Af}{t:zA}
def s1:zA:=⟨#[112,40,97,41,46,32,113,40,88,41,32,58,45,32,112,40,88,41,46]⟩
def s2:zA:=⟨#[112,40,97,41,46,32,112,40,98,41,46]⟩
def q2:zA:=⟨#[112,40,88,41,44,32,88,32,35,32,97]⟩
def q3:zA:=⟨#[113,40,97,41,46]⟩
def t1:zA:=⟨#[112,40,97,41,46,10,113,40,97,41,46,10]⟩
def t2:zA:=⟨#[88,61,98,10]⟩
def t3:zA:=⟨#[112,40,97,41,46,32,48,10,113,40,97,41,46,32,49,10]⟩
def jq:Value:=.slice none 0 0
def tA:AK:=⟨0,⟨#[97]⟩⟩
def tB:AK:=⟨0,⟨#[98]⟩⟩
def tX:AK:=⟨88,⟨#[]⟩⟩
def jM:pM A4:=[⟨⟨⟨#[112]⟩,[tA],0⟩,jq,jq,[],0⟩,⟨⟨⟨#[113]⟩,[tX],6⟩,jq,jq,[(⟨97,⟨⟨#[112]⟩,[tX],14⟩,DQ,DQ,14⟩,jq)],6⟩]
def jY:pM A4:=[⟨⟨⟨#[112]⟩,[tA],0⟩,jq,jq,[],0⟩,⟨⟨⟨#[112]⟩,[tB],6⟩,jq,jq,[],6⟩]
def pA:Af:=⟨⟨#[112]⟩,[⟨#[97]⟩]⟩
def pB:Af:=⟨⟨#[112]⟩,[⟨#[98]⟩]⟩
def qA:Af:=⟨⟨#[113]⟩,[⟨#[97]⟩]⟩
theorem j7:jM.map A4.erase=(An s1 (Ae s1 0)).1:=by kernel_rfl
theorem ky:(An s1 (Ae s1 0)).2.2=false:=by kernel_rfl
theorem kF:CJ jM=(0,0):=by kernel_rfl
theorem kl:jY.map A4.erase=(An s2 (Ae s2 0)).1:=by kernel_rfl
theorem jN:(An s2 (Ae s2 0)).2.2=false:=by kernel_rfl
theorem kI:CJ jY=(0,0):=by kernel_rfl
def jK:Cf jM:=C7 ky j7 kF
def iT:Cf jY:=C7 jN kl kI
def kD:CI s1 0 0:=by
 unfold CI;rw[li (by decide),ky];exact⟨jM,j7,kF.symm⟩
def kL:CI s2 0 0:=by
 unfold CI;rw[li (by decide),jN];exact⟨jY,kl,kI.symm⟩
def ai{a:zA->Nat}(d:Ny c a)(i:Dq c a 0 []=(f,true))(g:((List.range 7).all λn=> !(Dq c a n f).2)=true):GF c a 7 f:=by
 have h:∀n,n<7->(Dq c a n f).2=false:=λn e=>by
  have:=mC.1 g n (oQ.2 e);simpa using this
 have b:=(Ib d (GF.start c a)).1;rw[i]at b;have:∀n,n<=7->GF c a n f:=by
  intro n
  induction n with
  |zero=>exact λ_=>b
  |succ n ih=>exact λe=>((Ib d (ih (by omega))).2.1 (h n (by omega))).2
 exact this 7 (by omega)
theorem kB:GF jM (B5 jM 6) 7 [pA,qA]:=ai jK.prog (by kernel_rfl) (by kernel_rfl)
theorem kx:GF jY (B5 jY 6) 7 [pA,pB]:=ai iT.prog (by kernel_rfl) (by kernel_rfl)
theorem kQ:Oj s1 t1 0:=⟨λh=>absurd rfl h,λ_=>⟨jM,[⟨pA,jq⟩,⟨qA,jq⟩],j7,jK,λc a=>by
 simp only[jM,kZ,mr,or_false]at a
 rcases a with rfl|rfl<;>simp,kB,by kernel_rfl⟩⟩
def jt{r:Int×Int}(h:Ex s1 (iY s1) r)(a:Ja s1 t r.1):r.1=0/\t=t1:=by
 have e:=DA kD h;subst e;exact⟨rfl,Rg a kQ⟩
def kw:pM Ba:=[(⟨97,⟨⟨#[112]⟩,[tX],0⟩,DQ,DQ,0⟩,jq),(⟨35,⟨⟨#[]⟩,[],0⟩,tX,tA,6⟩,jq)]
theorem kE:kw.map Prod.fst=(Bj q2 0).1:=by kernel_rfl
theorem kO:(Bj q2 0).2.2=false:=by kernel_rfl
theorem kK:KP jY kw=(0,0):=by kernel_rfl
def kP:DN q2 jY 0 0:=by
 unfold DN;rw[li (by decide),li (by rw[kO];rintro (h|h);exact absurd h (by decide);exact absurd h (by decide+kernel)),li (by rw[<-kE];decide)];exact⟨kw,kE,kK.symm⟩
theorem kN:Jc (Bj q2 0).1 [pA,pB] 88 Bk=[⟨#[97]⟩,⟨#[98]⟩]:=by
 have f:C5 (Bj q2 0).1 [pA,pB] 88 Bk=[[⟨#[97]⟩,⟨#[98]⟩]]:=by kernel_rfl
 have d:∀t,Kp (Bj q2 0).1 [pA,pB] 88 Bk t↔t∈[(⟨#[97]⟩:zA),⟨#[98]⟩]:=λt=>by
  unfold Kp;rw[f];simp
 refine Il (lt:=jR) (λa h=>by unfold jR at h;rw[Gg.irr]at h;cases h) (λa b c=>Gg.trans _ _ _) _ _ (NK λt g=>?_) ?_ (λt=>(Fk _ _ 88 Bk t).trans (d t))
 .have h:=(d t).1 g;simp only[kZ,mr,or_false]at h;rcases h with rfl|rfl
  .exact(kx.zW pA (by simp)).canon iT.prog.zL _ (by simp[pA])
  .exact(kx.zW pB (by simp)).canon iT.prog.zL _ (by simp[pB])
 .have e:FQ (AE ⟨#[97]⟩) (AE ⟨#[98]⟩)=true:=by kernel_rfl
  simpa[jR] using e
theorem jm{r:Int×Int}(h:NE s2 q2 r)(l:fM s2 q2 t r.1):r.1=0/\t=t2:=by
 obtain⟨v,g,f⟩:=h;have e:=DA kL g;subst e;rcases f with⟨f,_⟩|⟨_,w,y,j,i,p⟩
 .exact absurd rfl f
 .have e:=Tm j (kl.trans i.symm) p kP;subst e;obtain⟨x,L,n,u,g,f,j,i,rfl⟩:=l.2 rfl;have a:=Hy (g.trans kl.symm);have b:=Hy (kl.trans g.symm);have e:[pA,pB]=u:=iT.one kx (b.zR f) (a.inv b j) (λd k=>by
   obtain⟨c,q,m,_⟩:=b d k
   rw[<-m]
   exact i c q)
  subst e;refine⟨rfl,?_⟩;have o:Bf (Bj q2 0).1=[88]:=by kernel_rfl
  have s:Eg (Bj q2 0).1 [pA,pB] Bk=false:=by kernel_rfl
  rw[o,Aw,s,li (by simp),kN];show _=_
  kernel_rfl
def Uh:∀(l m:pM Dk) (t:zA),l.map (λh=>(h.1,h.2.head))=m.map (λh=>(h.1,h.2.head))->Hc t l=Hc t m
 |[],[],_,_=>rfl
 |[],_::_,_,h=>by simp at h
 |_::_,[],_,h=>by simp at h
 |x::l,y::m,t,h=>by
  simp only[lE,mj,lZ]at h;rw[Hc,Hc,h.1.1,h.1.2,Uh l m _ h.2]
def cV(p:c.map A4.erase=jM.map A4.erase){l:pM Dk}(q:iO c [pA,qA] l){g:pM Dk}{x:Dk}(d:l=g++[x])(n:x.2.head=qA):l.map (λh=>(h.1,h.2.head))=[(0,pA),(1,qA)]:=by
 have D:c.length=2:=by simpa[jM] using congrArg List.length p
 match c,D with
 |[c0,c1],_=>
  simp only[jM,lE,m8,mj,A4.erase,CD.mk.injEq,and_true]at p;obtain⟨⟨G,L,_⟩,w,E,_⟩:=p;have I:qA≠pA:=λh=>absurd (congrArg (λf=>f.name.data.toList) h) (by decide)
  have u:∀A y B,l=A++y::B->(y.1=0/\y.2.head=pA)\/(y.1=1/\∃v,y.2.head=⟨⟨#[113]⟩,[v]⟩/\(⟨⟨#[112]⟩,[v]⟩:Af)∈A.map λh=>h.2.head):=by
   intro A y B h;obtain⟨F,σ,_,b,m,_⟩:=q.each A y B h;obtain⟨k,i⟩:=y
   match k,F with
   |0,_=>
    left;refine⟨rfl,?_⟩;have e:i=CG c0 σ:=b;show i.head=pA;rw[e];show Bm σ c0.head=pA;rw[G];rfl
   |1,_=>
    right;have e:i=CG c1 σ:=b;refine⟨rfl,σ 88,?_,m _ ?_⟩
    .show i.head=_;rw[e];show Bm σ c1.head=_;rw[w];rfl
    .show _∈i.pos;rw[e];unfold CG Al;rw[E];simp[Bm,Ed,tX]
  have C:=u g x [] d;have s:x.1=1/\pA∈g.map λh=>h.2.head:=by
   rcases C with⟨_,b⟩|⟨a,v,b,m⟩
   .exact absurd (n.symm.trans b) I
   .rw[n]at b;have e:=congrArg Af.args b;simp only[qA,mj,and_true]at e;subst e;exact⟨a,m⟩
  have t:=q.nd;rw[d,lV,oe]at t;obtain⟨o,_,H⟩:=t;have j:∀y∈g,y.2.head=pA:=by
   intro y r;have a:=q.zW y (by rw[d];simp[r]);simp only[kZ,mr,or_false]at a;rcases a with a|a
   .exact a
   .exact absurd (a.trans n.symm) (H _ (lB r) _ (by simp))
  match g,s.2,o,j,d with
  |[],h,_,_,_=>simp at h
  |[y],_,_,j,d=>
   have r:=j y (by simp);rcases u [] y [x] (by rw[d];rfl)with⟨a,b⟩|⟨a,v,b,m⟩
   .rw[d];simp[a,b,n,s.1]
   .simp at m
  |y::z::g,_,o,j,_=>
   simp only[lE,nh,kZ,not_or]at o;exact absurd ((j y (by simp)).trans (j z (by simp)).symm) o.1.1
theorem jn{r:Int×Int}(h:Tq s1 q3 t r):r.1=0/\t=t3:=by
 have j:DV q3=qA:=by kernel_rfl
 have A:GH q3=true:=by kernel_rfl
 obtain⟨G,v,s⟩:=h;have e:=DA kD v;subst e;rcases s with⟨i,_⟩|⟨_,⟨i,_⟩|⟨_,k,I,u,C,L,n,g,m⟩⟩
 .exact absurd rfl i
 .rw[A]at i;cases i
 .rw[j]at k m;have a:=Hy (g.erase.trans j7.symm);have b:=Hy (j7.trans g.erase.symm);have p:[pA,qA]=u:=jK.one kB (b.zR g.zR) (a.inv b g.inv) (λd o=>by
   obtain⟨c,F,E,_⟩:=b d o
   rw[<-E]
   exact g.top c F)
  subst p;obtain⟨z,B,_⟩:=g.rea.proof (λf j=>(g.inv.zW f j).canon g.pass.prog.zL) k;obtain⟨H,x,l,D⟩:=B (by simp);have y:=cV (g.erase.trans j7.symm) z l D;have q:Ij C qA≠[]:=by rw[l];simp
  rcases m with⟨w,_⟩|⟨_,rfl,rfl⟩
  .exact absurd w q
  .refine⟨rfl,?_⟩;rw[Uh _ [(0,⟨[],[],pA⟩),(1,⟨[],[],qA⟩)] _ (by rw[y];rfl)]
   kernel_rfl
set_option maxRecDepth 100000
theorem Lq(w:World):Calls prog 19 #[] w λe c=>e=.returned (.bool true)/\Ac [] w c:=by
 have i:Hid (∀b,Calls prog 14 #[O s1] b λe c=>∃a,e=.returned (.tuple #[O t1,.int .i64 0,.int .i64 a])/\Ac [] b c):=λb=>by
  refine(IK s1 b (by decide+kernel)).mono ?_;rintro _ c ⟨t,⟨r,a⟩,rfl,d,g,f⟩;obtain⟨rfl,rfl⟩:=jt d g;exact⟨a,rfl,f⟩
 have l:Hid (∀b,Calls prog 24 #[O s2,O q2] b λe c=>∃a,e=.returned (.tuple #[O t2,.int .i64 0,.int .i64 a])/\Ac [] b c):=λb=>by
  refine(Xu s2 q2 b (by decide+kernel) (by decide+kernel)).mono ?_;rintro _ c ⟨t,⟨r,a⟩,rfl,d,g,f⟩;obtain⟨rfl,rfl⟩:=jm d g;exact⟨a,rfl,f⟩
 have n:Hid (∀b,Calls prog 27 #[O s1,O q3] b λe c=>∃a,e=.returned (.tuple #[O t3,.int .i64 0,.int .i64 a])/\Ac [] b c):=λb=>by
  refine(N5 s1 q3 b (by decide+kernel) (by decide+kernel)).mono ?_;rintro _ c ⟨t,⟨r,a⟩,rfl,d,f⟩;obtain⟨rfl,rfl⟩:=jn d;exact⟨a,rfl,f⟩
 go_enter func19,ntmps19;go_wp2_with fail
 refine(i _).mono ?_;rintro _ q ⟨z,rfl,h⟩;have k:=Ab h;clear i h;go_wp2_with fail
 refine(l _).mono ?_;rintro _ B ⟨A,rfl,o⟩;have m:=Ab (k.trans o);clear l o k;go_wp2_with fail
 refine(n _).mono ?_;rintro _ s ⟨u,rfl,j⟩;have p:=Ab (m.trans j);clear n j m;have x:(t1.toList==[112,40,97,41,46,10,113,40,97,41,46,10])=true:=by kernel_rfl
 have v:(t2.toList==[88,61,98,10])=true:=by kernel_rfl
 have y:(t3.toList==[112,40,97,41,46,32,48,10,113,40,97,41,46,32,49,10])=true:=by kernel_rfl
 go_wp2_with (go_at_call 16;refine(E6 0 _).mono ?_;rintro _ C ⟨rfl,rfl⟩)
 go_ret;exact⟨rfl,p⟩
