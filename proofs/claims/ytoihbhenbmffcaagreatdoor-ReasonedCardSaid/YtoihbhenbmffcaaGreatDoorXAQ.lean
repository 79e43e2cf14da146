import Derived.Test.YtoihbhenbmffcaaGreatDoorXAJ
import Derived.Test.YtoihbhenbmffcaaGreatDoorXAO
set_option linter.all false
set_option maxHeartbeats 0
open List renaming length->Z
namespace Go.Proofs.YtoihbhenbmffcaaGreatDoor
open Go.RowKit Go.Proofs.Tryz
variable{c:pM A4}{n:Nat}{f:pM Af}
def Is(cs:pM A4)(s:pM Af):Prop:=Eb s/\∀f∈s,D0 cs f
def GF.zb{a:zA->Nat}(h:GF c a n f):Is c f:=⟨h.zM,h.zW⟩
def Dj.small{a:pM A4}(h:Dj a):Z a<=12/\∀c∈a,Z c.bl<=3/\Z c.head.args<=2/\∀p∈c.bl,BF p=false:=by
 have e:∀k (d:k<Z a),k<12/\a[k].bl.length<=3/\a[k].head.args.length<=2/\∀p∈a[k].bl,BF p=false:=by
  intro k d;have b:=h.each k d;unfold Cm at b;by_cases f:12<=k\/3<a[k].bl.length
  .rw[ln f]at b;cases b
  rw[li f]at b;by_cases g:2<a[k].head.args.length
  .rw[ln g]at b;cases b
  rw[li g]at b;cases a3:a[k].bl.any BF with
  |true=>rw[a3,ln rfl]at b;cases b
  |false=>
   refine⟨by omega,by omega,by omega,λp i=>?_⟩;rw[mU]at a3;cases hm:BF p with
   |false=>rfl
   |true=>exact absurd hm (a3 p i)
 refine⟨?_,λc l=>?_⟩
 .by_cases j:Z a<=12
  .exact j
  .have:=(e 12 (by omega)).1;omega
 .obtain⟨k,d,rfl⟩:=lX l;exact(e k d).2
def XR(a:pM A4)(h:∀c∈a,Z c.head.args<=2):Z (consts a)<=Z a*2:=by
 unfold consts
 induction a with
 |nil=>simp
 |cons c a ih=>
  have f:=ih (λd b=>h d (lY _ b));have e:=h c (mz ..);have g:=mS (λt:AK=>t.v==0) c.head.args;simp only[lF,lu,lm,lj];omega
def MP(l:pM zA):∀n,Z (I3 l n)=Z l^n
 |0=>rfl
 |n+1=>by
  have ih:=MP l n;unfold I3;have:∀m:pM zA,Z (m.flatMap λx=>(I3 l n).map (x:: ·))=Z m*Z l^n:=by
   intro m
   induction m with
   |nil=>simp
   |cons x m ih2=>
    simp only[lF,lu,lm,ih2,ih,lj,nA,Nat.one_mul];omega
  rw[this l,Nat.pow_succ,Nat.mul_comm]
def Oe{a:pM A4}(m:Z a<=12)(h:∀c∈a,Z c.head.args<=2):Z (So a)<=6912:=by
 have j:Z (consts a)<=24:=by have:=XR a h;omega
 have g:∀n,n<=2->Z (I3 (consts a) n)<=576:=by
  intro n k;rw[MP]
  match n,k with
  |0,_=>simp
  |1,_=>simp;omega
  |2,_=>
   have:Z (consts a)^2<=24^2:=Nat.pow_le_pow_left j 2;omega
 have f:∀b:pM A4,(∀c∈b,Z c.head.args<=2)->Z (b.flatMap λc=>(I3 (consts a) (Z c.head.args)).map (Af.mk c.head.name))<=Z b*576:=by
  intro b
  induction b with
  |nil=>simp
  |cons c b ih=>
   intro e;have o:=ih (λd i=>e d (lY _ i));have l:=g _ (e c (mz ..));simp only[lF,lu,lm,lj,nA,Nat.one_mul];omega
 have:=f a h;unfold So;omega
def GM{a:pM A4}(hF:QV a):∀x∈consts a,0<x.size/\x.size<=1000000:=by
 intro x b;unfold consts at b;obtain⟨c,h,d⟩:=ma.1 b;obtain⟨t,g,rfl⟩:=lk.1 d;obtain⟨f,e⟩:=lK.1 g;exact(hF.full c h).head t f (by simpa using e)
def Do.fit{t:AK}(h:Do t):NH t:=by
 rcases h with h|h
 .exact Or.inl h.1
 .exact Or.inr ⟨h.1,h.2.1⟩
def MG(s:zA)(b:Nat)(a:Bool):(A9 s b a).1.size<=s.size:=by
 unfold A9;split
 .exact lz _
 .split
  .exact lz _
  .rw[my];omega
def Oj(s:zA)(t:zA)(er:Int):Prop:=
 (er≠0->t=ByteArray.empty)/\
 (er=0->∃(cs:pM A4) (fs:pM Bv),cs.map A4.erase=(An s (Ae s 0)).1/\Cf cs/\(∀c∈cs,c.head.args≠[])/\GF cs (B5 cs 6) 7 (fs.map Bv.f)/\t=Ow ByteArray.empty fs)
def KH(s:pM Af)(c:A4):Bool:=(Bt (Al c) s).all λe=>C3 s (Aq e c.head)
def SD(cs:pM A4)(s:pM Af):Bool:=cs.all (KH s)
def cH{a:pM A4}{L:zA->Nat}{u:pM Af}(d:Ny a L)(h:GF a L n u)(m:∀c∈a,L c.head.name<n):SD a u=true:=by
 unfold SD KH;rw[mC];intro c b;rw[mC];intro e j;have l:∀f∈u,Ig f:=λf i=>((h.zW f i).canon d.zL).zK
 have k:=Hj l (d.zK.args c b) j;have g:=(Gl c (Jl e) u).1 k;exact(BK _ _).2 (h.work.closed (CG c (Jl e)) ⟨c,b,Jl e,g.2,rfl⟩ (m c b) g.1)
