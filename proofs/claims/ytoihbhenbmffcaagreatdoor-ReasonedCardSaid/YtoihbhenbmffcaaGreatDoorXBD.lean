import Derived.Test.YtoihbhenbmffcaaGreatDoorXAR
import Derived.Test.YtoihbhenbmffcaaGreatDoorXBC
import Derived.Test.YtoihbhenbmffcaaGreatDoorXAL
set_option linter.all false
set_option maxHeartbeats 0
open List renaming length->Z,toArray->ml,replicate->pG
open Option renaming none->Y,some->V
open Go.Value renaming slice->U,int->X,string->O,agg->pC,bool->pE
open Bool renaming false->K,true->jj
open Go.IntKind renaming i64->J
open Go.Obj renaming cells->j3
open Go.Ending renaming returned->oa
open Or renaming inr->oj
open Go renaming World->py
open Go.RowKit renaming Hid->p7
open Go.World renaming ownsRow->p9
open ByteArray renaming empty->pF
open Go.Act renaming put->pJ
namespace Go.Proofs.YtoihbhenbmffcaaGreatDoor
open Go.RowKit Go.Proofs.Tryz
variable{n i:Nat}{I:Int}{s:zA}{w:py}{z:Value}{B:Bool}{g:UInt8}
def WK(s:zA)(b:Nat)(a:Bool):(AN s b a).1.s.size<=s.size:=by
 unfold AN;split
 .exact lz _
 .split
  .split
   .exact lz _
   .split
    .exact MG _ _ _
    .split
     .exact lz _
     .show(ByteArray.extract _ _ _).size<=_;rw[my];omega
  .exact lz _
def eu(s:zA)(b:Nat):∀t∈(CE s b).1,t.s.size<=s.size:=by
 fun_induction CE s b with
 |case1 b hc _ _ ih=>
  intro t a;rcases kZ.1 a with rfl|a
  .exact WK _ _ _
  .exact ih t a
 |case2 b hc=>
  intro t a;rw[kY]at a;subst a;exact WK _ _ _
def j6(s:zA)(A:Dg):Prop:=A.name.size<=s.size/\∀t∈A.args,t.s.size<=s.size
def NP(s:zA)(c:Nat)(b:Bool):j6 s (AZ s c b).1:=by
 unfold AZ;refine⟨MG _ _ _,?_⟩;show∀t∈(Ev s _).1,_;unfold Ev;split
 .intro t a;cases a
 .exact eu _ _
def TM(s:zA):j6 s G6:=⟨lz _,λt a=>by cases a⟩
def ZL(s:zA)(a:Nat):j6 s (DF s a).1.A:=by
 unfold DF;simp only;split
 .exact NP _ _ _
 .split
  .exact NP _ _ _
  .unfold I6;split
   .exact TM s
   .exact TM s
def ei(s:zA)(b:Nat):∀x∈(Bj s b).1,j6 s x.A:=by
 fun_induction Bj s b with
 |case1 b hc _ _ ih=>
  intro t a;rcases kZ.1 a with rfl|a
  .exact ZL _ _
  .exact ih t a
 |case2 b hc=>
  intro t a;rw[kY]at a;subst a;exact ZL _ _
def kH(s:zA)(c:CD):Prop:=j6 s c.head/\∀x∈c.body,j6 s x.A
def JY(s:zA)(b:Nat):kH s (Ao s b).1:=by
 unfold Ao;refine⟨NP _ _ _,?_⟩;show∀x∈(D9 s _ _).1,_;unfold D9;split
 .split
  .exact ei _ _
  .intro x a;cases a
 .intro x a;cases a
def GI(s:zA)(b:Nat):∀c∈(An s b).1,kH s c:=by
 fun_induction An s b with
 |case1 b ha hc ih=>
  intro c a;rcases kZ.1 a with rfl|a
  .exact JY _ _
  .exact ih c a
 |case2 b ha hc=>
  intro c a;rw[kY]at a;subst a;exact JY _ _
 |case3 b ha=>intro c a;cases a
def M5:∀(k:Nat) (x:zA),(LR k x).size<=x.size+k
 |0,x=>lC _
 |k+1,x=>by
  rw[LR];split
  .have h:=M5 k (QH++x);have a:QH.size=1:=rfl;rw[lh,a]at h;omega
  .omega
def Pk(x:zA):(AE x).size<=x.size+3:=by
 unfold AE;split
 .exact M5 3 x
 .omega
def S4(cs ds:pM A4):Prop:=∀c∈cs,∃d∈ds,d.head=c.head/\Al d=Al c
def Hy{b a:pM A4}(h:b.map A4.erase=a.map A4.erase):S4 b a:=by
 intro c g;obtain⟨d,f,e⟩:=(F2.of_map h).yK c g;exact⟨d,f,(congrArg CD.head e).symm,(congrArg CD.body e).symm⟩
def S4.inst{a f:pM A4}(h:S4 a f){i:GZ Af}(l:FR a i):FR f i:=by
 obtain⟨c,k,σ,b,rfl⟩:=l;obtain⟨d,g,j,e⟩:=h c k;refine⟨d,g,σ,?_,?_⟩
 .unfold N8 at b⊢;rw[e];exact b
 .unfold CG;rw[j,e]
def S4.consts{b e:pM A4}(h:S4 b e){x:zA}(a:x∈consts b):x∈consts e:=by
 unfold Go.Proofs.YtoihbhenbmffcaaGreatDoor.consts at a⊢;obtain⟨c,i,a⟩:=ma.1 a;obtain⟨d,f,g,_⟩:=h c i;exact ma.2 ⟨d,f,by rw[g];exact a⟩
def S4.factIn{b g:pM A4}(h:S4 b g){f:Af}(a:D0 b f):D0 g f:=by
 refine⟨?_,λx l=>h.consts (a.args x l)⟩;obtain⟨c,k,e⟩:=a.zb;obtain⟨d,i,j,_⟩:=h c k;exact⟨d,i,by rw[j];exact e⟩
def S4.inv{a b:pM A4}(h:S4 a b)(g:S4 b a){L:zA->Nat}{s:pM Af}(c:GF a L n s):GF b L n s:=by
 have e:FR a=FR b:=funext λi=>propext ⟨h.inst,g.inst⟩
 exact⟨by rw[<-e];exact c.work,c.zM,λf d=>h.factIn (c.zW f d)⟩
def S4.zR{g i:pM A4}(l:S4 i g){L:zA->Nat}(j:CR g L):CR i L:=by
 refine⟨λd e x b a=>?_,λd e x b a=>?_⟩<;>obtain⟨c,h,f,k⟩:=l d e
 .rw[<-f];exact j.pos c h x (by rw[k];exact b) a
 .rw[<-f];exact j.neg c h x (by rw[k];exact b) a
def Ja(s:zA)(t:zA)(er:Int):Prop:=
 (er≠0->t=pF)/\
 (er=0->∃(cs:pM A4) (L:zA->Nat) (N:Nat) (u:pM Af),cs.map A4.erase=(An s (Ae s 0)).1/\CR cs L/\GF cs L N u/\(∀c∈cs,L c.head.name<N)/\t=U6 pF (u.map BU))
def Rg{s t i:zA}(g:Ja s t I)(h:Oj s i I):t=i:=by
 by_cases e:I=0
 .obtain⟨w,L,N,u,j,o,q,p,rfl⟩:=g.2 e;obtain⟨y,x,f,m,v,l,rfl⟩:=h.2 e;have a:=Hy (j.trans f.symm);have b:=Hy (f.trans j.symm);refine m.text v l (b.zR o) (a.inv b q) (λd k=>?_);obtain⟨c,r,n,_⟩:=b d k;rw[<-n];exact p c r
 .rw[g.1 e,h.1 e]
def OY(H:s.size<=300){n:pM PC}{g:pM Dy}(i:Dc (Dl s) 0 []=.ok n)(j:g.map Dy.pc=n)(E:DE w z g){r:Int×Int}(C:Ex s (iY s) r)(y:r.1=0):
  r=(0,0)/\∃a:pM A4,a.map A4.erase=(An s (Ae s 0)).1/\M9 g a:=by
 have h:=Kq s;rw[i]at h;have d:((An s (Ae s 0)).1.map XO).map A4.erase=(An s (Ae s 0)).1:=by
  rw[mq]
  conv=>rhs;rw[<-List.map_id (An s (Ae s 0)).1]
  exact mu λc _=>PI c
 generalize(An s (Ae s 0)).1.map XO=a at d;have F:CI s (CJ a).1 (CJ a).2:=by
  unfold CI;rw[li (by omega),li (by rw[h.1];simp)];exact⟨a,d,rfl⟩
 have t:=DA F C;have o:CJ a=(0,0):=IL (by rw[<-show r.1=(CJ a).1 by rw[t]];exact y);refine⟨by rw[t,o],a,d,?_⟩;have G:=(JB s).1;have B:=J8 (by omega) _ 0 [] (lC _) (by simp) i;have u:g.map Dy.pc=a.map λr=>fT r.erase:=by
  rw[j,h.2.1,<-d,mq];rfl
 have m:∀c∈g,KF c.pc:=λc f=>B.1 _ (by rw[<-j];exact lk.2 ⟨c,f,rfl⟩)
 refine⟨(F2.of_map u).mono (λc f b l k=>fR k (m c f) (E.each c f).wf ?_),C7 h.1 d o,m,λc f=>?_⟩
 .exact h.2.2 b.erase (by rw[<-d];exact lk.2 ⟨b,l,rfl⟩)
 .obtain⟨b,l,k⟩:=(F2.of_map u).yK c f;have q:=GI s (Ae s 0) b.erase (by rw[<-d];exact lB l);refine⟨?_,λp i=>?_⟩
  .have e:c.hn=b.erase.head.name:=congrArg PC.hn k;rw[e];have:=q.1.1;omega
  .have e:c.zH.map Prod.fst=b.erase.body.map LU:=congrArg PC.body k;(have j:p.1∈b.erase.body.map LU:=by rw[<-e];exact lB i);obtain⟨x,D,v⟩:=lk.1 j;rw[<-v];have:=(q.2 x D).1;show x.A.name.size<=_;omega
def Ra(w:s.size<=300){g:pM A4}(h:g.map A4.erase=(An s (Ae s 0)).1){u:pM Af}(q:∀f∈u,D0 g f){fs:pM Fa}(k:fs.map Fa.f=u.map BU):
  ∀p∈fs,p.f.name.size<=1000000/\∀x∈p.f.zC,x.size<=1000000:=by
 intro p i;have b:p.f∈u.map BU:=by rw[<-k];exact lB i
 obtain⟨f,j,e⟩:=lk.1 b;have d:=q f j;rw[<-e];refine⟨?_,λx v=>?_⟩
 .obtain⟨c,a,n,_⟩:=d.zb;show f.name.size<=_;rw[n];have:=(GI s (Ae s 0) c.erase (by rw[<-h];exact lB a)).1.1;have r:c.erase.head=c.head:=rfl;rw[r]at this;omega
 .obtain⟨y,l,rfl⟩:=lk.1 v;have a:=d.args y l;unfold consts at a;obtain⟨c,m,b⟩:=ma.1 a;obtain⟨t,o,rfl⟩:=lk.1 b;have:=(GI s (Ae s 0) c.erase (by rw[<-h];exact lB m)).1.2 t (lK.1 o).1;have:=Pk t.s;omega
set_option maxRecDepth 100000
theorem IK(s:zA)(w:py)(AT:s.size<=9223372036854775807):
  Calls prog 14 #[O s] w λe i=>∃(t:zA) (r:Int×Int),e=oa (.tuple #[O t,X J r.1,X J r.2])/\Ex s (iY s) r/\Ja s t r.1/\Ac [] w i:=by
 have I:=Ab (LY s (iY s) w AT (λf cs m x p=>Me f m p));go_enter func14,ntmps14;go_wp2_with fail
 refine I.mono ?_;rintro _ q ⟨R,n,cp,⟨j,F⟩,rfl,AB,H,E⟩;have A:=Ab AB;have y:=Ab H;have Q:=Ab E;clear I AB H E;by_cases k:j=0
 .subst k;obtain⟨f,cs,x,m,p,rfl,B⟩:=y rfl;obtain⟨T,g,D,C⟩:=OY f m p B A rfl;obtain rfl:F=0:=(Prod.mk.inj T).2;have A2:((0:Int) !=0)=K:=rfl;have Ax:=Ab (Pr R cp x g q B C);have Dk:p7 (∀a u L N b,SQ q a (U R (Z x) cp) [] u b->CR g L->GF g L N u->(∀c∈g,L c.head.name<N)->
    Calls prog 42 #[.pointer (V ⟨a,1,Y⟩)] b λe i=>∃t,e=oa (O t)/\Ja s t 0/\Ac [] q i):=by
   intro a u L N b G h1 v h3;obtain⟨BA,BS,W,CL,CC,xs,o,l,d,_⟩:=G.out;have hc:=o.cell 1;have DT:=(C.zb v).2.2;(have B9:Z W=Z u:=by have:=congrArg List.length d.same;simpa using this);refine(VC a 1 BA BS W b (by simpa using hc) l (by omega) (Ra f D v.zW d.same)).mono ?_;rintro _ i ⟨rfl,hk⟩;exact⟨_,rfl,⟨λh=>absurd rfl h,λ_=>⟨g,L,N,u,D,h1,v,h3,by rw[d.same]⟩⟩,G.kept.trans hk⟩
  clear f m p B T D C y;go_wp2_with fail
  refine Ax.mono ?_;rintro _ b ⟨a,u,L,N,rfl,o,l,d,S⟩;have P:=Ab (Dk a u L N b o l d S);clear Ax Dk o l d S;go_wp2_with fail
  refine P.mono ?_;rintro _ w3 ⟨t,rfl,hF,M⟩;have z:=Ab hF;have B0:=Ab (Q.trans M);clear P hF M;go_wp2_with fail
  go_ret3;exact⟨t,(0,0),rfl,A,z,B0⟩
 .have A2:(j !=0)=jj:=by simp[k]
  have z:p7 (Ja s pF j):=⟨λ_=>rfl,λh=>absurd h k⟩;clear k y;go_wp2_with fail
  go_ret3;exact⟨pF,(j,F),rfl,A,z,Q⟩
def tl(t:AK):Nat:=if t.v=0 then t.s.size else 1
def iC:pM AK->Nat
 |[]=>0
 |t::l=>tl t+iC l
def Ti(h:(A9 s i K).2.2=K):i+(A9 s i K).1.size<=(A9 s i K).2.1/\(A9 s i K).2.1<=s.size:=by
 have b:=Cb s i;by_cases a:AG AD s (Ae s i)=Ae s i\/4<AG AD s (Ae s i)-Ae s i
 .rw[Ep rfl rfl a]at h;cases h
 .rw[Li rfl rfl a];have c:=Pj (p:=AD) (s:=s) (i:=Ae s i) (λe=>a (Or.inl e));have d:=Cr AD s (Ae s i);simp only;rw[my];omega
def Tt(h:(AN s i K).2.2=K):i+tl (AN s i K).1<=(AN s i K).2.1:=by
 have g:=Cb s i;unfold AN at h⊢;rw[li (by simp)]at h⊢;by_cases c:Ae s i<s.size
 .rw[dif_pos c]at h⊢;by_cases a:Ds s[Ae s i]=jj
  .rw[ln a]at h⊢;unfold tl;have f:s[Ae s i]≠0:=by
    intro e;rw[e]at a;exact absurd a (by decide)
   simp only[li f];omega
  .rw[li a]at h⊢;by_cases d:(!Ap s[Ae s i])=jj
   .rw[ln d]at h⊢;have:=(Ti h).1;unfold tl;simp only[if_true];omega
   .rw[li d]at h⊢;by_cases b:3<AG Ap s (Ae s i)-Ae s i\/(s[Ae s i]=48/\1<AG Ap s (Ae s i)-Ae s i)
    .rw[ln b]at h;cases h
    .rw[li b]at h⊢;have j:=Cr Ap s (Ae s i);unfold tl;simp only[if_true];rw[my];omega
 .rw[dif_neg c]at h;cases h
def XQ{s:zA}{i:Nat}(h:(CE s i).2.2=K):0<Z (CE s i).1/\i+iC (CE s i).1+Z (CE s i).1<=(CE s i).2.1+1:=by
 fun_induction CE s i with
 |case1 i hc _ _ ih=>
  have d:=ih h;have a:(AN s i K).2.2=K:=by
   have:=hc.1;rw[lJ]at this;simpa using this.1
  have b:=Tt a;have c:(AN s i K).2.1+1<=Ch s (AN s i K).2.1 (AN s i K).2.2 44:=by
   unfold Ch;rw[ln hc.1];have:=Cb s (AN s i K).2.1;rw[a];unfold AQ;simp;omega
  simp only[lj,iC];omega
 |case2 i hc=>
  have b:=Tt h;have c:=EI s (AN s i K).2.1 (AN s i K).2.2 44;simp only[lj,lO,iC];omega
def RN(h:(By s i B g).2=K):B=K/\i+1<=(By s i B g).1:=by
 unfold By at h⊢;simp only[Bool.not_eq_false']at h;have a:(!B&&Et s (AQ s i B) g)=jj:=by simpa using h
 have b:B=K:=by rw[lJ]at a;simpa using a.1
 refine⟨b,?_⟩;unfold Ch;rw[ln a];subst b;have:=Cb s i;unfold AQ;simp;omega
def Yj(h:(AZ s i K).2.2=K):0<Z (AZ s i K).1.args/\i+(AZ s i K).1.name.size+iC (AZ s i K).1.args+Z (AZ s i K).1.args+1<=(AZ s i K).2.1:=by
 unfold AZ at h⊢;simp only at h⊢;obtain⟨a,b⟩:=RN h;unfold Ev at a b⊢;have k:=Cb s i;cases hm:(By s (A9 s (AQ s i K) K).2.1 (A9 s (AQ s i K) K).2.2 40).2 with
 |true=>rw[hm]at a;simp at a
 |false=>
  rw[hm]at a b;simp only[k0,if_false]at a b⊢;obtain⟨j,e⟩:=RN hm;have g:=(Ti j).1;obtain⟨c,f⟩:=XQ a;have d:AQ s i K=Ae s i:=rfl;rw[d]at e g c f b a⊢;refine⟨c,?_⟩;omega
def JH(h:(Ao s i).2.2=K):0<Z (Ao s i).1.head.args/\Ae s i+(Ao s i).1.head.name.size+iC (Ao s i).1.head.args+Z (Ao s i).1.head.args+2<=(Ao s i).2.1/\
  ((Ao s i).1.body≠[]->Ae s i+(Ao s i).1.head.name.size+iC (Ao s i).1.head.args+Z (Ao s i).1.head.args+3<=(Ao s i).2.1):=by
 unfold Ao at h⊢;simp only at h⊢;obtain⟨a,b⟩:=RN h;have f:=(J3 a).1;obtain⟨d,k⟩:=Yj f;unfold D9 at a b⊢;by_cases e:(!(AZ s (Ae s i) K).2.2&&Et s (AQ s (AZ s (Ae s i) K).2.1 (AZ s (Ae s i) K).2.2) 58)=jj
 .rw[ln e]at a b⊢;by_cases c:Et s (Ch s (AZ s (Ae s i) K).2.1 (AZ s (Ae s i) K).2.2 58) 45=jj
  .rw[ln c]at a b⊢;have g:=EI s (AZ s (Ae s i) K).2.1 (AZ s (Ae s i) K).2.2 58;have j:=W4 s (Ch s (AZ s (Ae s i) K).2.1 (AZ s (Ae s i) K).2.2 58+1);refine⟨d,by omega,λ_=>by omega⟩
  .rw[li c]at a;cases a
 .rw[li e]at a b⊢;have g:=EI s (AZ s (Ae s i) K).2.1 (AZ s (Ae s i) K).2.2 58;simp only at b⊢;exact⟨d,by omega,λh=>absurd rfl h⟩
def Pi:∀(a:pM zA) (s:zA) (b:Bool),(DP s b a).size=s.size+Z a+(a.map λx=>(BZ x).size).sum
 |[],s,b=>by simp[DP]
 |x::a,s,b=>by
  rw[DP,Pi a,lh,lh];have:(if b=jj then(⟨#[44]⟩:zA)else⟨#[40]⟩).size=1:=by cases b<;>rfl
  rw[this];simp;omega
def cC(n:zA)(a:pM zA):(Fq ⟨n,a⟩).size=n.size+Z a+(a.map λx=>(BZ x).size).sum+2:=by
 unfold Fq;rw[lh,Pi];rfl
def ez{t:AK}(h:Do t):(BZ (ct t).s).size+(if t.v=0 then 0 else 1)=tl t:=by
 unfold tl;rcases h with⟨a,c⟩|⟨b,_,d⟩
 .rw[ln a,ln a];show(BZ (DX t.s)).size+0=_;rw[RJ c,Gr c];rfl
 .have a:t.v≠0:=by intro e;rw[e]at b;exact absurd b (by decide)
  rw[li a,li a];show(BZ (DX t.s)).size+1=1;rw[d];have e:DX pF=pF:=by unfold DX;rw[ln (show ByteArray.empty.size=0 from rfl)]
  rw[e];have a:=KX (k:=ByteArray.empty.size) (s:=pF) (by decide);unfold BZ;split
  .rw[a];rfl
  .rfl
def TU:∀(a:pM AK),(∀t∈a,Do t)->((a.map ct).map λt=>(BZ t.s).size).sum<=iC a/\(iC a<=((a.map ct).map λt=>(BZ t.s).size).sum->∀t∈a,t.v=0)
 |[],_=>⟨by simp[iC],λ_ t f=>by simp at f⟩
 |t::a,h=>by
  have d:=ez (h t (by simp));obtain⟨g,e⟩:=TU a (λx b=>h x (by simp[b]));simp only[lE,List.sum_cons,iC];refine⟨by omega,λi=>?_⟩;by_cases c:t.v=0
  .rw[ln c]at d;intro x b;rcases kZ.1 b with rfl|b
   .exact c
   .exact e (by omega) x b
  .rw[li c]at d;omega
def ix(s:zA):Option C4:=match Dc (Dl s) 0 [] with
 | .ok [c]=>if((Fq ⟨c.hn,c.zV.map AW.s⟩).toList==s.toList)=jj then V ⟨c.hn,c.zV.map AW.s⟩else Y
 |_=>Y
def fS(s:zA):Option C4:=if 300<s.size then Y else(ix s).bind λp=>if 2<Z p.zC then Y else V p
def Us{a:pM AK}(h:∀t∈a,Do t)(d:∀t∈a,t.v=0):(a.map ct).map AW.s=(a.map (AI Bk)).map AE:=by
 rw[mq,mq];refine mu (λt b=>?_);simp only[Function.comp];show DX t.s=AE (AI Bk t);unfold AI;rw[ln (d t b)];rcases h t b with⟨_,e⟩|⟨c,_⟩
 .exact RJ e
 .rw[d t b]at c;exact absurd c (by decide)
def T2(h:(Ao s i).2.2=K)(d:∀t∈(Ao s i).1.head.args,t.v=0):AL (Aq Bk (Ao s i).1.head)/\(Aq Bk (Ao s i).1.head).args≠[]:=by
 have f:=(D8 h).head;refine⟨λx j=>?_,?_⟩
 .obtain⟨t,a,rfl⟩:=lk.1 j;unfold AI;rw[ln (d t a)];rcases f.args t a with⟨_,g⟩|⟨c,_⟩
  .exact g
  .rw[d t a]at c;exact absurd c (by decide)
 .intro e;have:=(JH h).1;have b:=congrArg List.length e;unfold Aq at b;simp only[lm,lO]at b;omega
def au(h:(Ao s i).2.2=K)(a:∀t∈(Ao s i).1.head.args,t.v=0):Fq ⟨(Ao s i).1.head.name,((Ao s i).1.head.args.map ct).map AW.s⟩=BN (Aq Bk (Ao s i).1.head):=by
 obtain⟨b,c⟩:=T2 h a;rw[<-O7 b c,Us (D8 h).head.args a];rfl
def Lw(h:GH s=jj):fS s=V (BU (DV s))/\AL (DV s)/\(DV s).args≠[]:=by
 unfold GH at h;rw[lJ]at h;obtain⟨k,j⟩:=h;have hF:DV s=Aq Bk (Ao s 0).1.head:=by unfold DV;rw[ln k]
 have A:BN (DV s)=s:=J2 j;unfold KT at k;simp only[lJ,no,ng]at k;obtain⟨z,d,S,c4,D⟩:=k;obtain⟨T,W,R⟩:=JH d;have o:=(D8 d).head;have Ax:=JR s 0 (lz _);have Q:s.size=(Ao s 0).1.head.name.size+Z (Ao s 0).1.head.args+((Ao s 0).1.head.args.map λt=>(AI Bk t).size).sum+2:=by
  have g:=congrArg ByteArray.size A;rw[hF]at g;rw[<-g];unfold BN;rw[lh];have:∀(e:pM zA) (b:Bool) (u:zA),(F4 u b e).size=u.size+(e.map ByteArray.size).sum+(if b then Z e else Z e-1):=by
   intro e
   induction e with
   |nil=>intro b u;cases b<;>simp[F4]
   |cons x e ih=>
    intro b u;rw[F4,ih,lh];have I:(⟨#[44]⟩:zA).size=1:=rfl;cases b
    .simp;omega
    .simp[lh,I];omega
  rw[this,lh];have y:(⟨#[40]⟩:zA).size=1:=rfl;have G:(⟨#[41,46]⟩:zA).size=2:=rfl;unfold Aq;simp only[mq,lm,y,G,Function.comp_def];simp;omega
 have w:∀c:pM AK,(∀t∈c,Do t)->(c.map λt=>(AI Bk t).size).sum<=iC c/\(iC c<=(c.map λt=>(AI Bk t).size).sum->∀t∈c,t.v=0):=by
  intro c
  induction c with
  |nil=>intro _;exact⟨by simp[iC],λ_ t j=>by simp at j⟩
  |cons t c ih=>
   intro H;obtain⟨M,E⟩:=ih (λx i=>H x (by simp[i]));have g:(AI Bk t).size+(if t.v=0 then 0 else 1)=tl t:=by
    unfold tl AI;by_cases a:t.v=0
    .rw[ln a,ln a,ln a];rfl
    .rw[li a,li a,li a];have:(Bk.getD (t.v.toNat-65) pF).size=0:=by
      unfold Bk;rw[lq,List.getElem?_replicate];split<;>rfl
     omega
   simp only[lE,List.sum_cons,iC];refine⟨by omega,λN=>?_⟩;by_cases a:t.v=0
   .rw[ln a]at g;intro x i;rcases kZ.1 i with rfl|i
    .exact a
    .exact E (by omega) x i
   .rw[li a]at g;omega
 obtain⟨P,C⟩:=w _ o.args;have l:=C (by omega);have F:Ae s 0=0:=by omega
 have q:(Ao s 0).2.1=s.size:=by omega
 obtain⟨n,m⟩:=T2 d l;rw[<-hF]at n m;refine⟨?_,n,m⟩;have L:An s (Ae s 0)=([(Ao s 0).1],(An s s.size).2):=by
  rw[F,An,dif_pos (by omega),dif_pos ⟨d,by rw[d,q,RA _ _ (by omega)];omega⟩];rw[d,q,RA _ _ (by omega)];have:(An s s.size).1=[]:=by rw[An,dif_neg (by omega)]
  rw[this]
 have f:=Kq s;rw[L]at f;have r:(An s s.size).2=(s.size,K):=by rw[An,dif_neg (by omega)]
 rw[r]at f;unfold fS ix;rw[li z];cases hp:Dc (Dl s) 0 [] with
 |error p=>rw[hp]at f;exact absurd f.1 (by simp)
 |ok cs=>
  rw[hp]at f;obtain⟨_,rfl,_⟩:=f;simp only[lE,m8];have B:=au d l;show Option.bind (if((Fq ⟨(Ao s 0).1.head.name,((Ao s 0).1.head.args.map ct).map AW.s⟩).toList==s.toList)=jj then V (⟨(Ao s 0).1.head.name,((Ao s 0).1.head.args.map ct).map AW.s⟩:C4)else Y) _=_;rw[B,<-hF,ln j];simp only[Option.bind_some];rw[li (by simp only[lm];exact D),Us o.args l,hF];rfl
def bF{p:C4}(h:fS s=V p):GH s=jj:=by
 unfold fS at h;by_cases n:300<s.size
 .rw[ln n]at h;cases h
 .rw[li n]at h;have r:=Kq s;unfold ix at h;cases hp:Dc (Dl s) 0 [] with
  |error q=>rw[hp]at h;simp at h
  |ok cs=>
   rw[hp]at h r;obtain⟨k,a,_⟩:=r;cases hcs:(An s (Ae s 0)).1 with
   |nil=>rw[hcs]at a;subst a;simp at h
   |cons c rest=>
    cases rest with
    |cons d rest=>rw[hcs]at a;subst a;simp at h
    |nil=>
     rw[hcs]at a;subst a;simp only[lE,m8]at h;by_cases g:((Fq ⟨(fT c).hn,(fT c).zV.map AW.s⟩).toList==s.toList)=jj
     .rw[ln g]at h;simp only[Option.bind_some]at h;by_cases i:2<Z ((fT c).zV.map AW.s)
      .rw[ln i]at h;cases h
      .have B:Fq ⟨(fT c).hn,(fT c).zV.map AW.s⟩=s:=J2 g;have y:Ae s 0<s.size:=by
        by_cases o:Ae s 0<s.size
        .exact o
        .rw[An,dif_neg o]at hcs;cases hcs
       have L:c=(Ao s (Ae s 0)).1/\(Ao s (Ae s 0)).2.2=K:=by
        rw[An,dif_pos y]at hcs k;by_cases m:(Ao s (Ae s 0)).2.2=K/\Ae s 0<AQ s (Ao s (Ae s 0)).2.1 (Ao s (Ae s 0)).2.2
        .rw[dif_pos m]at hcs;simp only[mj]at hcs;exact⟨hcs.1.symm,m.1⟩
        .rw[dif_neg m]at hcs k;simp only[mj]at hcs;exact⟨hcs.1.symm,k⟩
       obtain⟨f,b⟩:=L;obtain⟨H,u,j⟩:=JH b;have v:=(D8 b).head;have I:=JR s (Ae s 0) (by omega);rw[<-f]at H u j v;have N:s.size=c.head.name.size+Z c.head.args+((c.head.args.map ct).map λt=>(BZ t.s).size).sum+2:=by
        rw[<-B];show(Fq ⟨c.head.name,(c.head.args.map ct).map AW.s⟩).size=_;rw[cC];simp[mq,Function.comp_def]
       obtain⟨M,C⟩:=TU _ v.args;have D:Ae s 0<=Ae s (Ae s 0):=Cb _ _;have A:=C (by omega);(have F:Ae s 0=0:=by omega);rw[F]at f b u j I D;(have G:(Ao s 0).2.1=s.size:=by omega);have z:c.body=[]:=by
        cases hbb:c.body with
        |nil=>rfl
        |cons x l=>have:=j (by rw[hbb];simp);omega
       have w:KT s=jj:=by
        unfold KT;rw[b,G,mG n,<-f,z];have E:¬2<Z c.head.args:=by
         (have e:Z ((fT c).zV.map AW.s)=Z c.head.args:=by show Z ((c.head.args.map ct).map AW.s)=_;simp);rw[e]at i;exact i
        simp[E]
       unfold GH;rw[w,mR];unfold DV;rw[ln w,<-au b (by rw[<-f];exact A),<-f];exact g
     .rw[li g]at h;simp at h
def jp(s:zA):fS s=if GH s=jj then V (BU (DV s))else Y:=by
 cases h:GH s with
 |true=>rw[ln rfl];exact(Lw h).1
 |false=>
  rw[li (by simp)];cases hl:fS s with
  |none=>rfl
  |some p=>rw[bF hl]at h;cases h
def V7(x:zA):(DX x).size<=x.size+3:=by
 unfold DX;split
 .omega
 .split
  .split
   .exact M5 3 x
   .rw[lh];have:(⟨#[0]⟩:zA).size=1:=rfl;omega
  .omega
def KC(o:Option C4)(w:py)(e:Ending)(w':py):Prop:=∃(p:Fa),e=oa (.tuple #[pC (ml (A6 p)),pE o.isSome])/\(∀f,o=V f->p.f=f)/\Ea w' p/\Z p.f.zC<=1000/\Ac [] w w'
def KC.none(w a:py)(k:Ac [] w a):KC Y w (oa (.tuple #[pC #[O ⟨#[]⟩,U Y 0 0],pE K])) a:=
 ⟨⟨⟨⟨#[]⟩,[]⟩,U .none 0 0⟩,rfl,(λf h=>by cases h),lH _ _ _ _,lz _,k⟩
theorem UE(s:zA)(w:py)(hs:s.size<=300):
  Calls prog 97 #[O s] w λe w'=>KC (ix s) w e w':=by
 obtain⟨i0,NY,Nj,Op,NV⟩:=mg Tryz.zi;have E:ix s=match Dc (Dl s) 0 [] with
  | .ok [c]=>if((Fq ⟨c.hn,c.zV.map AW.s⟩).toList==s.toList)=jj then V ⟨c.hn,c.zV.map AW.s⟩else Y
  |_=>Y:=rfl
 have E0:p7 (∀cs,Dc (Dl s) 0 []=.ok cs->∀y:pM Dy,y.map Dy.pc=cs->∀c∈y,c.hn.size<=1000000/\Z c.zV<=1000/\∀t∈c.zV,t.s.size<=1000000):=by
  intro cs JJ y hm c hc;have L:=Me hs JJ hm;have OH:=(L.fit c hc).pc.head.2;have K7:=Kq s;rw[JJ]at K7;obtain⟨g1,g2,_⟩:=K7;have JA:c.pc∈cs:=by rw[<-hm];exact lB hc
  rw[g2]at JA;obtain⟨r,hr,K3⟩:=lk.1 JA;have hz:=(GI s (Ae s 0) r hr).1;have e1:r.head.name=c.hn:=congrArg PC.hn K3;have e2:r.head.args.map ct=c.zV:=congrArg PC.zV K3;refine⟨by rw[<-e1];have:=hz.1;omega,OH,λt ht=>?_⟩;rw[<-e2]at ht;obtain⟨u,hu,rfl⟩:=lk.1 ht;show(DX u.s).size<=_;have I:=V7 u.s;have h2:=hz.2 u hu;omega
 obtain⟨N,hN⟩:=pN w.heap.size;have HN:=Ab hN;have FL:=Ab ((pO [] w).alloc (j3 [O ⟨#[]⟩,U Y 0 0].toArray 104));have A2:=Ab (pP w [O ⟨#[]⟩,U Y 0 0] 104);rw[hN]at A2;clear hN;go_enter func97,ntmps97;refine pL (λKK HZ=>?_);go_wp2;refine HZ _ _ ?_;clear HZ KK;rw[Aa HN];change Code.wp _ _ _ _ (w.alloc (j3 [O ⟨#[]⟩,U Y 0 0].toArray 104));generalize w.alloc (j3 [O ⟨#[]⟩,U Y 0 0].toArray 104)=w1 at FL A2⊢;have MB:=Ab (Ka s w1 hs);have LE:p7 (∀M,Ac [] w1 M->ix s=Y->KC (ix s) w (oa (.tuple #[pC [O ⟨#[]⟩,U Y 0 0].toArray,pE K])) ((M.setCell ⟨N,0,Y⟩ (O ⟨#[]⟩)).setCell ⟨N,1,Y⟩ (U Y 0 0))):=λM hk h=>by
  rw[h];exact KC.none _ _ (((FL.trans hk).setCell (p:=⟨N,0,Y⟩) (oj (by have:=Aa HN;show _<=N;omega)) _).setCell (p:=⟨N,1,Y⟩) (oj (by have:=Aa HN;show _<=N;omega)) _)
 go_wp2_with fail
 refine MB.mono ?_;intro e w2 B9;clear MB;cases hp:Dc (Dl s) 0 [] with
 |error p=>
  rw[hp]at B9 E;obtain⟨rfl,A⟩:=B9;have G:p7 (ix s=Y):=E;have j:=Ab (A2.kept A);have R:=j.cell 0;have P:=j.cell 1;have z0:=j.frozen 0;have z1:=j.frozen 1;simp at R P;have ES:=Ab A;clear hp E E0 A;go_wp2;refine lL (Av rfl (by rfl) ((j.set 0 _).set 1 _) underlying104 rfl (by kernel_rfl)) rfl ?_;exact LE _ ES G
 |ok cs=>
  rw[hp]at B9 E;obtain⟨ad,cp,y,rfl,AO,FA,A⟩:=B9;have HF:Z cs=Z y:=by rw[<-AO];simp
  rw[HF]at FA⊢;obtain⟨EK,K8⟩:=FA.into;have j:=Ab (A2.kept A);have R:=j.cell 0;have P:=j.cell 1;have z0:=j.frozen 0;have z1:=j.frozen 1;simp at R P;have ES:=Ab A;by_cases I:Z y=1
  .obtain⟨c,rfl⟩:∃c,y=[c]:=List.length_eq_one_iff.1 I;obtain⟨g,RV,SL,b,a,Mo,FO,QR,P0,PT,he,H4,d0,d1,d2,d3⟩:=F6 EK 0 (by simp);simp only[oG]at H4;simp only[kS]at he;obtain⟨rfl,-,rfl⟩:=he;have L:=Aa E0 cs hp [c] AO c (by simp);have HQ:=(EK.each c (by simp)).head;have FT:ix s=if((Fq ⟨c.hn,c.zV.map AW.s⟩).toList==s.toList)=jj then V ⟨c.hn,c.zV.map AW.s⟩else Y:=by
    rw[E,<-AO];rfl
   subst H4;simp only at L HQ FT;simp only[List.length_singleton];have H5:=Ab FT;have HA:=Ab HQ;have IA:=Ab L;have RT:=L.2.1;clear hp E E0 AO FA EK K8 HF L HQ FT A I d0 d3;simp only[Nat.zero_mul,me]at d1 d2;(have T:w.heap.size<=N:=by have:=Aa HN;omega);have Os:N<w2.heap.size:=j.lt;have HS:p7 (AF (w2.setCell ⟨N,0,Y⟩ (O b)) N [O b,U Y 0 0] 104):=j.set 0 (O b);have HP:p7 (Ac [] w (w2.setCell ⟨N,0,Y⟩ (O b))):=(FL.trans ES).setCell (p:=⟨N,0,Y⟩) (oj T) _;have HC:p7 (p9 (w2.setCell ⟨N,0,Y⟩ (O b)) 0 215 2 (U Mo (Z a) FO) (Z a) (a.flatMap Ar)):=Ag (Aa HA) (As (Aa HA) (Aa j) (by decide)) _;(go_wp2_with fail);generalize w2.setCell ⟨N,0,Y⟩ (O b)=w3 at HS HP HC⊢;clear d1 d2 R P z0 z1 j HA A2 Os
   go_loopg [34] (Z a) (λgk i wr=>∃(k:Nat) (m:Option Addr) (o:Nat),i=X J k/\k<=Z a/\gk=Z a-k/\p7 (AF wr N [O b,U m k o] 104)/\p7 (p9 wr (N+1) 170 1 (U m k o) k (((a.take k).map AW.s).flatMap Ah))/\p7 (p9 wr 0 215 2 (U Mo (Z a) FO) (Z a) (a.flatMap Ar))/\p7 (Ac [] w wr))
   case atStart=>exact⟨0,Y,0,rfl,by omega,rfl,HS,lH _ _ _ _,HC,HP⟩
   case round=>
    clear HS HC HP;obtain⟨k,m,o,rfl,hk,LL,S,HX,HH,HK⟩:=hrel;have HG:=Ab LL;clear LL;by_cases CC:k<Z a
    .obtain⟨gt,SB,Jx,_,FW⟩:=AC HH (λc _=>rfl) k CC;simp only[kS]at Jx;obtain⟨rfl,-,rfl⟩:=Jx;have a0:=FW k CC 0 (by omega);have a1:=FW k CC 1 (by omega);obtain⟨⟨tv,v⟩,HT⟩:∃t,a[k]=t:=⟨_,rfl⟩;rw[HT]at a0 a1;simp[Ar]at a0 a1;have H8:p7 (((a.take (k+1)).map AW.s).flatMap Ah=((a.take k).map AW.s).flatMap Ah++[O v]):=by
      show _=_;rw[kW CC,lV,lM,HT];rfl
     (have RE:(0:Int)<=(k:Int):=by omega);(have Pl:(k:Int)<(Z a:Int):=by omega);have Q:=Ab ((pO [] wr).alloc (j3 [X .i32 tv,O v].toArray 215));have BA:=Ab (pP wr [X .i32 tv,O v] 215);have H:=Ab (S.kept Q);have HI:=Ab (Ad HX Q);have EY:=Ab (Ad HH Q);have Go:=Ab (HK.trans Q);clear HT FW;refine pL (λK1 z=>?_);go_wp2;refine z _ _ ?_;clear z K1;refine pL (λK1 z=>?_);go_wp2;refine z _ _ ?_;clear z K1;refine pL (λK5 K9=>?_);refine wp_block ?_;refine pL (λK1 z=>?_);go_wp2;refine z _ _ ?_;clear z K1 a0 a1;change Code.wp _ _ _ _ (wr.alloc (j3 [X .i32 tv,O v].toArray 215));generalize wr.alloc (j3 [X .i32 tv,O v].toArray 215)=wa at Q BA H HI EY Go⊢;obtain⟨BT,K4⟩:=pN wr.heap.size;rw[K4]at BA⊢;clear K4 S HX HH HK;have b1:=H.cell 1;have f1:=H.frozen 1;have t1:=BA.cell 1;simp at b1 t1;have AH:=Aa HI;have QQ:N+1<=wa.heap.size:=H.lt;go_wp2_with (at_builtin;refine lG _ rfl (.tmp 39) (.tmp 42) _ rfl (N+1) 170 i0 _ 1 16 underlying102 NY Nj Op NV rfl (by omega) (U m k o) k (((a.take k).map AW.s).flatMap Ah) rfl (lg AH _) ⟨wa.heap.size,0,Y⟩ 1 1 [O v] rfl rfl (lI (lP wa _)) (by simp[Value.oneCell']) (by omega) (by unfold maxLen;omega) (by omega) (by simp;omega) (wa.heap.size+1) (by simp) ?_;intro D C w9 HO CL MN M6;have W:=(H.alloc (j3 #[O v] 170)).grown CL (As AH H (by decide));have b9:=W.cell 1;have f9:=W.frozen 1;simp at b9)
     have LC:p7 (AF (w9.setCell ⟨N,1,Y⟩ (U (V ⟨D,0,Y⟩) (k+1) C)) N [O b,U (V ⟨D,0,Y⟩) (k+1) C] 104):=W.set 1 _;have H7:p7 (p9 (w9.setCell ⟨N,1,Y⟩ (U (V ⟨D,0,Y⟩) (k+1) C)) (N+1) 170 1 (U (V ⟨D,0,Y⟩) (k+1) C) (k+1) (((a.take (k+1)).map AW.s).flatMap Ah)):=by
      rw[Aa H8];exact Ag HO (As HO W (by decide)) _
     have L0:p7 (p9 (w9.setCell ⟨N,1,Y⟩ (U (V ⟨D,0,Y⟩) (k+1) C)) 0 215 2 (U (V ⟨gt,0,Y⟩) (Z a) FO) (Z a) (a.flatMap Ar)):=by
      have h3:=mI (lg EY (j3 #[O v] 170)) CL (oj (λe=>Bc EY AH (by decide) gt rfl e.symm));exact Ag h3 (As h3 W (by decide)) _
     have K6:p7 (Ac [] w (w9.setCell ⟨N,1,Y⟩ (U (V ⟨D,0,Y⟩) (k+1) C))):=((Go.alloc (j3 #[O v] 170)).grown CL (λq hq=>oj (by have:=(AH.lt q hq).1;omega))).setCell (p:=⟨N,1,Y⟩) (oj T) _;generalize w9.setCell ⟨N,1,Y⟩ (U (V ⟨D,0,Y⟩) (k+1) C)=w10 at LC H7 L0 K6⊢;clear HO CL MN M6 W b9 f9 b1 f1 t1 AH H HI EY Go BA Q H8
     try go_wp2
     refine K9 _ _ ?_;clear K9;go_wp2
     go_roundg (Z a-(k+1))
     case measure=>have:=Aa HG;omega
     case rel=>exact⟨k+1,V ⟨D,0,Y⟩,C,by go_num,by omega,rfl,LC,H7,L0,K6⟩
    ·(have Nx:k=Z a:=by omega);subst Nx;obtain⟨n,A1⟩:=pN (a.map AW.s);(have M0:Z n=Z a:=by rw[<-A1,lm]);have HJ:p7 (Ea wr ⟨⟨b,n⟩,U m (Z a) o⟩):=by
      have h:=Aa HX;rw[ni,A1]at h;show p9 wr 0 170 1 _ (Z n) _;rw[M0];exact Am h (lz _)
     have HV:=Aa IA;have Dk:=Ab (λM (hkz:Ac [] wr M)=>Lc ⟨⟨b,n⟩,U m (Z a) o⟩ M (HJ.kept hkz) (by show Z n<=1000;omega) (λx hx=>by
      have K2:x∈n:=hx
      rw[<-A1]at K2
      obtain⟨t,ht,rfl⟩:=lk.1 K2
      exact HV.2.2 t ht) HV.1)
     simp only[A6]at Dk;have FC:=Aa H5;rw[A1]at FC;obtain⟨TX,HL⟩:=pN (Fq ⟨b,n⟩);rw[HL]at FC;simp only[HL]at Dk;have IS:=Ab FC;have b0:=S.cell 0;have b1:=S.cell 1;simp at b0 b1;clear FC HL A1 HX HH HV H5 IA;(go_wp2_with fail);refine(Dk _ (pO _ _)).mono ?_;rintro _ w5 ⟨rfl,k5⟩;have F:=Ab (S.kept k5);have KS:=Ab (HK.trans k5);have NB:=Ab (HJ.kept k5);have R:=F.cell 0;have P:=F.cell 1;have z0:=F.frozen 0;have z1:=F.frozen 1;simp at R P;clear Dk k5 b0 b1 S HK HJ;cases heq:(TX.toList==s.toList)with
     |false=>
      (have MY:(TX.toList !=s.toList)=jj:=by simp only[bne,heq];rfl);have G:p7 (ix s=Y):=by
       show _=_;rw[Aa IS,heq,li (by simp)]
      have HU:p7 (KC (ix s) w (oa (.tuple #[pC [O ⟨#[]⟩,U Y 0 0].toArray,pE K])) ((w5.setCell ⟨N,0,Y⟩ (O ⟨#[]⟩)).setCell ⟨N,1,Y⟩ (U Y 0 0))):=by
       rw[Aa G];exact KC.none _ _ ((KS.setCell (p:=⟨N,0,Y⟩) (oj T) _).setCell (p:=⟨N,1,Y⟩) (oj T) _)
      go_wp2;refine lL (Av rfl (by rfl) ((F.set 0 _).set 1 _) underlying104 rfl (by kernel_rfl)) rfl ?_;exact HU
     |true=>
      (have MY:(TX.toList !=s.toList)=K:=by simp only[bne,heq];rfl);have G:p7 (ix s=V ⟨b,n⟩):=by
       show _=_;rw[Aa IS,heq,ln rfl]
      have HU:p7 (KC (ix s) w (oa (.tuple #[pC [O b,U m (Z a) o].toArray,pE jj])) ((w5.setCell ⟨N,0,Y⟩ (O b)).setCell ⟨N,1,Y⟩ (U m (Z a) o))):=by
       rw[Aa G];refine⟨⟨⟨b,n⟩,U m (Z a) o⟩,rfl,λf h=>mZ h,?_,by show Z n<=1000;omega,(KS.setCell (p:=⟨N,0,Y⟩) (oj T) _).setCell (p:=⟨N,1,Y⟩) (oj T) _⟩;have I:=Aa NB;have h2:=Ag I (As (v1:=U m (Z a) o) I F (by decide)) (p:=⟨N,0,Y⟩) (O b);have h3:=F.set 0 (O b);exact Ag h2 (As (v1:=U m (Z a) o) h2 h3 (by decide)) (p:=⟨N,1,Y⟩) (U m (Z a) o)
      go_wp2;refine lL (Av rfl (by rfl) ((F.set 0 _).set 1 _) underlying104 rfl (by kernel_rfl)) rfl ?_;exact HU
  .have G:p7 (ix s=Y):=by
    show _=_;rw[E]
    match cs,HF with
    |[],_=>rfl
    |[c],h=>simp at h;omega
    |c::d::l,_=>rfl
   (have RO:((Z y:Int) !=1)=jj:=by simp;omega);clear hp E E0 A AO FA EK K8 I;go_wp2;refine lL (Av rfl (by rfl) ((j.set 0 _).set 1 _) underlying104 rfl (by kernel_rfl)) rfl ?_;exact LE _ ES G
theorem UV(s:zA)(w:py)(A1:s.size<=9223372036854775807):
  Calls prog 53 #[O s] w λe Q=>KC (fS s) w e Q:=by
 obtain⟨N,C⟩:=pN w.heap.size;have F:=Ab C;have u:=Ab ((pO [] w).alloc (j3 [O ⟨#[]⟩,U Y 0 0].toArray 104));have n:=Ab (pP w [O ⟨#[]⟩,U Y 0 0] 104);rw[C]at n;have v:w.heap.size<=N:=by omega
 clear C;by_cases H:300<s.size
 .have k:p7 (fS s=Y):=by show _=_;unfold fS;rw[ln H]
  go_enter func53,ntmps53;go_wp2;rw[Aa F];refine lL (Av rfl (by rfl) n underlying104 rfl (by kernel_rfl)) rfl ?_;rw[Aa k];exact KC.none _ _ u
 .have I:=Ab (λwz=>UE s wz (by omega));have m:p7 (fS s=(ix s).bind λp=>if 2<Z p.zC then Y else V p):=by show _=_;unfold fS;rw[li H]
  go_enter func53,ntmps53;refine pL (λr i=>?_);go_wp2;refine i _ _ ?_;clear i r;rw[Aa F];change Code.wp _ _ _ _ (w.alloc (j3 [O ⟨#[]⟩,U Y 0 0].toArray 104));generalize w.alloc (j3 [O ⟨#[]⟩,U Y 0 0].toArray 104)=w1 at u n⊢;refine pL (λr i=>?_);go_wp2;refine i _ _ ?_;clear i r;refine pL (λr i=>?_);go_wp2_with fail
  refine(I w1).mono ?_;rintro _ l ⟨⟨⟨d,a⟩,BA⟩,rfl,z,A,D,y⟩;obtain⟨c,b,e⟩:=Ak A;simp only at e D z;subst e;simp only[A6];have g:=Ab ((n.kept y).alloc (j3 [O d,U c (Z a) b].toArray 104));have x:=Ab (pP l [O d,U c (Z a) b] 104);have G:p7 (Ea (l.alloc (j3 [O d,U c (Z a) b].toArray 104)) ⟨⟨d,a⟩,U c (Z a) b⟩):=Ea.kept A ((pO [] l).alloc _);have B:=Ab ((u.trans y).alloc (j3 [O d,U c (Z a) b].toArray 104));have AT:N≠l.heap.size:=by have:=(n.kept y).lt;omega
  have t:=Ab z;clear z A y I u n;go_wp2;refine i _ _ ?_;clear i r;change Code.wp _ _ _ _ (l.alloc (j3 [O d,U c (Z a) b].toArray 104));generalize l.alloc (j3 [O d,U c (Z a) b].toArray 104)=w3 at g x G B⊢;obtain⟨M,P⟩:=pN l.heap.size;rw[P]at x AT⊢;clear P;have c0:=g.cell 0;have c1:=g.cell 1;have z0:=g.frozen 0;have z1:=g.frozen 1;have S:=x.cell 0;have W:=x.cell 1;simp at c0 c1 S W;have L:p7 (fS s=Y->KC (fS s) w (oa (.tuple #[pC [O ⟨#[]⟩,U Y 0 0].toArray,pE K])) ((w3.setCell ⟨N,0,Y⟩ (O ⟨#[]⟩)).setCell ⟨N,1,Y⟩ (U Y 0 0))):=λh=>by
   rw[h];exact KC.none _ _ ((B.setCell (p:=⟨N,0,Y⟩) (oj v) _).setCell (p:=⟨N,1,Y⟩) (oj v) _)
  cases hr:ix s with
  |none=>
   (have k:p7 (fS s=Y):=by show _=_;rw[Aa m,hr];rfl);simp only[Option.isSome_none];clear hr m t;go_wp2;refine lL (Av rfl (by rfl) ((g.set 0 _).set 1 _) underlying104 rfl (by kernel_rfl)) rfl ?_;exact L k
  |some q=>
   have T:=Aa t q hr;subst T;simp only[Option.isSome_some];by_cases o:2<Z a
   ·(have k:p7 (fS s=Y):=by show _=_;rw[Aa m,hr];show(if 2<Z a then Y else _)=Y;rw[ln o]);(have AO:(2:Int)<(Z a:Int):=by omega);clear hr m t;go_wp2;refine lL (Av rfl (by rfl) ((g.set 0 _).set 1 _) underlying104 rfl (by kernel_rfl)) rfl ?_;exact L k
   ·(have k:p7 (fS s=V ⟨d,a⟩):=by show _=_;rw[Aa m,hr];show(if 2<Z a then Y else _)=_;rw[li o]);(have AO:¬(2:Int)<(Z a:Int):=by omega);have R:p7 (KC (fS s) w (oa (.tuple #[pC [O d,U c (Z a) b].toArray,pE jj])) ((w3.setCell ⟨N,0,Y⟩ (O d)).setCell ⟨N,1,Y⟩ (U c (Z a) b))):=by
     rw[Aa k];refine⟨⟨⟨d,a⟩,U c (Z a) b⟩,rfl,λf h=>mZ h,?_,D,(B.setCell (p:=⟨N,0,Y⟩) (oj v) _).setCell (p:=⟨N,1,Y⟩) (oj v) _⟩;have E:=Aa G;have o:=Ag E (As (v1:=U c (Z a) b) E g (by decide)) (p:=⟨N,0,Y⟩) (O d);have h3:=g.set 0 (O d);exact Ag o (As (v1:=U c (Z a) b) o h3 (by decide)) (p:=⟨N,1,Y⟩) (U c (Z a) b)
    clear hr m t;go_wp2;refine lL (Av rfl (by rfl) ((g.set 0 _).set 1 _) underlying104 rfl (by kernel_rfl)) rfl ?_;exact R
def Vx(s:zA)(w:py)(e:Ending)(w':py):Prop:=∃(p:Bv),e=oa (.tuple #[pC (ml (Be p)),pE (GH s)])/\p.f=DV s/\Dx w' p/\(∀q,p.av.ownBlock=V q->w.heap.size<=q)/\Ac [] w w'
theorem Rj(s:zA)(w:py)(M2:s.size<=9223372036854775807):
  Calls prog 26 #[O s] w λe T=>Vx s w e T:=by
 have K2:p7 (∀g,KT s=K->Ac [] w g->Vx s w (oa (.tuple #[pC [O ⟨#[]⟩,U Y 0 0].toArray,pE K])) g):=λg hc hk=>⟨⟨Zl,U Y 0 0⟩,by unfold GH;rw[hc];rfl,by unfold DV;rw[hc];rfl,lH _ _ _ _,λq hq=>by simp[Value.ownBlock]at hq,hk⟩
 have HB:=Ab (pP w [O ⟨#[]⟩,U Y 0 0] 43);have HM:=Ab ((pO [] w).alloc (j3 [O ⟨#[]⟩,U Y 0 0].toArray 43));by_cases HX:300<s.size
 .have r:p7 (KT s=K):=by show _=_;unfold KT;rw[np HX];rfl
  go_enter func26,ntmps26;go_wp2;refine lL (Av rfl (by rfl) HB underlying43 rfl (by kernel_rfl)) rfl ?_;exact K2 _ r HM
 .have hs:s.size<=300:=by omega
  have LE:s.size<=1000000:=by omega
  have u:p7 (KT s=(!(Ao s 0).2.2&&(!decide ((Ao s 0).2.1<s.size)&&(!decide (0<Z (Ao s 0).1.body)&& !decide (2<Z (Ao s 0).1.head.args))))):=by show _=_;unfold KT;rw[mG HX];rfl
  have D:p7 (KT s=jj->DV s=Aq Bk (Ao s 0).1.head):=λh=>by unfold DV;rw[ln h]
  have L:p7 ((Ao s 0).2.2=K->Sg (Ao s 0).1):=λh=>D8 h
  have G:p7 (j6 s (Ao s 0).1.head):=NP _ _ _;have HE:p7 (∀b g,AF g b (BY s 0 K) 73->Calls prog 44 #[.pointer (V ⟨b,0,Y⟩)] g λe T=>∃(hv bv:Value) (bl:pM Ba),e=oa (pC (ml (C0 (Ao s 0).1 hv bv)))/\p9 T g.heap.size 93 2 hv (Z (Ao s 0).1.head.args) ((Ao s 0).1.head.args.flatMap AV)/\bl.map Prod.fst=(Ao s 0).1.body/\p9 T g.heap.size 95 9 bv (Z bl) (DB bl)/\AF T b (BY s (Ao s 0).2.1 (Ao s 0).2.2) 73/\Ac [b] g T):=λb g hb=>(QA b s 0 g LE (lz _) hb).mono λe T ⟨hv,bv,bl,o,B,Q,h4,h5,h6,h7⟩=>⟨hv,bv,bl,o,B,Q,h4,h6,h7⟩
  obtain⟨⟨⟨f,d,y⟩,A,BT⟩,a,HQ,hR⟩:∃c a HQ,Ao s 0=(c,a,HQ):=⟨_,_,_,rfl⟩;rw[hR]at u D L G HE;simp only at u D L G HE;clear hR HX;obtain⟨N,hN⟩:=pN w.heap.size;have HN:=Ab hN;have FP:=Ab (pP (w.alloc (j3 [O ⟨#[]⟩,U Y 0 0].toArray 43)) (BY s 0 K) 73);rw[lT,hN]at FP;have Go:=Ab (HB.alloc (j3 (ml (BY s 0 K)) 73));rw[hN]at Go;have HT:=Ab (HM.alloc (j3 (ml (BY s 0 K)) 73));have HO:p7 (((w.alloc (j3 [O ⟨#[]⟩,U Y 0 0].toArray 43)).alloc (j3 (ml (BY s 0 K)) 73)).heap.size=N+2):=by show _=_;simp;omega
  clear hN HB HM;go_enter func26,ntmps26;refine pL (λn j=>?_);go_wp2;refine j _ _ ?_;clear j n;refine pL (λn j=>?_);go_wp2;refine j _ _ ?_;clear j n;refine pL (λn j=>?_);go_wp2;refine j _ _ ?_;clear j n;refine pL (λn j=>?_);go_wp2_with fail
  rw[Aa HN];change Calls _ _ _ ((w.alloc (j3 [O ⟨#[]⟩,U Y 0 0].toArray 43)).alloc (j3 (ml (BY s 0 K)) 73)) _;generalize(w.alloc (j3 [O ⟨#[]⟩,U Y 0 0].toArray 43)).alloc (j3 (ml (BY s 0 K)) 73)=w2 at FP Go HT HO⊢;refine(HE (N+1) w2 FP).mono ?_;rintro _ w3 ⟨hv,bv,bl,rfl,HZ,H8,Ix,HI,k3⟩;obtain⟨AH,AB,rfl⟩:=Ct HZ;obtain⟨EY,A2,rfl⟩:=Ct Ix;have IA:=Ab (Go.kept k3);have L0:p7 (Ac [] w w3):=HT.trans' k3 (λq hq=>oj (by simp only[kY]at hq;have:=Aa HN;omega));have K6:=Ab (Am HZ (lz _));have H1:Z bl=Z A:=by rw[<-H8,lm]
  rw[H1];have f1:=HI.cell 1;have f2:=HI.cell 2;simp[BY]at f1 f2;have LB:=k3.size;rw[Aa HO]at LB;clear HE FP Go HT HO HZ H8 Ix HI k3 H1;simp only[C0];have E0:=Ab ((pO [] w3).alloc (j3 [O f,U AH (Z d) AB,X J y,U EY (Z A) A2,X J BT].toArray 82));have z:=Ab (IA.alloc (j3 [O f,U AH (Z d) AB,X J y,U EY (Z A) A2,X J BT].toArray 82));have H:=Ab (pP w3 [O f,U AH (Z d) AB,X J y,U EY (Z A) A2,X J BT] 82);have g1:=E0.cellAt f1;have g2:=E0.cellAt f2;have BS:=Ab (L0.trans E0);have P:=Ab (Ad K6 E0);clear f1 f2 IA K6 E0;go_wp2;refine j _ _ ?_;clear j n;change Code.wp _ _ _ _ (w3.alloc (j3 [O f,U AH (Z d) AB,X J y,U EY (Z A) A2,X J BT].toArray 82));generalize w3.alloc (j3 [O f,U AH (Z d) AB,X J y,U EY (Z A) A2,X J BT].toArray 82)=w4 at z H g1 g2 BS P⊢;obtain⟨C,hC⟩:=pN w3.heap.size;rw[hC]at H⊢;clear hC;have e1:=H.cell 1;have e3:=H.cell 3;simp at e1 e3;have e0:=H.cell 0;have e2:=H.cell 2;have c0:=z.cell 0;have c1:=z.cell 1;have z0:=z.frozen 0;have z1:=z.frozen 1;simp at e0 e2 c0 c1;have FB:p7 (KT s=K->Vx s w (oa (.tuple #[pC [O ⟨#[]⟩,U Y 0 0].toArray,pE K])) ((w4.setCell ⟨N,0,Y⟩ (O ⟨#[]⟩)).setCell ⟨N,1,Y⟩ (U Y 0 0))):=λh=>K2 _ h ((BS.setCell (p:=⟨N,0,Y⟩) (oj (by have:=Aa HN;show _<=N;omega)) _).setCell (p:=⟨N,1,Y⟩) (oj (by have:=Aa HN;show _<=N;omega)) _)
  cases HQ with
  |true=>
   have r:p7 (KT s=K):=u;clear u D L G P;go_wp2;refine lL (Av rfl (by rfl) ((z.set 0 _).set 1 _) underlying43 rfl (by kernel_rfl)) rfl ?_;exact FB r
  |false=>
   by_cases o:a<s.size
   ·(have r:p7 (KT s=K):=by show _=_;rw[Aa u,np o];rfl);(have M0:(a:Int)<(s.size:Int):=by omega);clear u D L G P;go_wp2;refine lL (Av rfl (by rfl) ((z.set 0 _).set 1 _) underlying43 rfl (by kernel_rfl)) rfl ?_;exact FB r
   ·(have M0:¬(a:Int)<(s.size:Int):=by omega);by_cases B:0<Z A
    ·(have r:p7 (KT s=K):=by show _=_;rw[Aa u,mG o,np B];rfl);(have MY:(0:Int)<(Z A:Int):=by omega);clear u D L G P;go_wp2;refine lL (Av rfl (by rfl) ((z.set 0 _).set 1 _) underlying43 rfl (by kernel_rfl)) rfl ?_;exact FB r
    ·(have MY:¬(0:Int)<(Z A:Int):=by omega);by_cases Q:2<Z d
     ·(have r:p7 (KT s=K):=by show _=_;rw[Aa u,mG o,mG B,np Q];rfl);(have LS:(2:Int)<(Z d:Int):=by omega);clear u D L G P;go_wp2;refine lL (Av rfl (by rfl) ((z.set 0 _).set 1 _) underlying43 rfl (by kernel_rfl)) rfl ?_;exact FB r
     ·(have LS:¬(2:Int)<(Z d:Int):=by omega);(have r:p7 (KT s=jj):=by show _=_;rw[Aa u,mG o,mG B,mG Q];rfl);have KB:=(L rfl).head.args;have Bx:=Ab (λg (hk:Ac [] w4 g)=>LW Bk ⟨f,d,y⟩ AH AB g rfl (Ad P hk) (by show Z d<=1000;omega) (λt ht=>by
       rcases KB t ht with h|h
       .exact Or.inl h.1
       .exact oj ⟨h.1,h.2.1⟩))
      simp only[W7,Cy]at Bx;have HH:p7 (DV s=Aq Bk ⟨f,d,y⟩):=D r;have HV:p7 ((∀x∈(Aq Bk ⟨f,d,y⟩).args,x.size<=1000000)/\f.size<=1000000):=by
       have hz:=Aa G;refine⟨λx hx=>?_,by have:=hz.1;simp only at this;omega⟩;obtain⟨t,ht,rfl⟩:=lk.1 hx;unfold AI;split
       .have:=hz.2 t ht;omega
       .unfold Bk;rw[lq,List.getElem?_replicate];split<;>exact lz _
      have AT:p7 ((Aq Bk ⟨f,d,y⟩).name=f/\Z (Aq Bk ⟨f,d,y⟩).args=Z d):=⟨rfl,by show Z (d.map _)=_;rw[lm]⟩;have S:=Ab ((pO [] w4).alloc (j3 iJ 90));have BA:=Ab (pP w4 (pG 26 (O ⟨#[]⟩)) 90);obtain⟨M,HP⟩:=pN (Aq Bk ⟨f,d,y⟩);simp only[HP]at Bx;rw[HP]at HH HV AT;clear u D L G KB FB P HP;have A0:=Ab (H.kept S);refine pL (λn j=>?_);go_wp2;refine j _ _ ?_;clear j n g1 g2 e0 e1 e2 e3 c0 c1 z0 z1;refine pL (λn j=>?_);go_wp2;refine j _ _ ?_;clear j n;change Code.wp _ _ _ _ (w4.alloc (j3 (ml (pG 26 (O ⟨#[]⟩))) 90));change p7 (Ac [] w4 (w4.alloc (j3 (ml (pG 26 (O ⟨#[]⟩))) 90)))at S;change p7 (AF (w4.alloc (j3 (ml (pG 26 (O ⟨#[]⟩))) 90)) C _ 82)at A0;generalize w4.alloc (j3 (ml (pG 26 (O ⟨#[]⟩))) 90)=w5 at S BA A0⊢;obtain⟨E,hE⟩:=pN w4.heap.size;rw[hE]at BA⊢;clear hE;obtain⟨EM,FO⟩:∃EM:pM Value,pG 26 (O ⟨#[]⟩)=EM:=⟨_,rfl⟩;(have K1:Z EM=26:=by rw[<-FO];rfl);(have H0:(prog.info? 90).map (·.size)=V (Z EM):=by rw[K1];exact Tryz.zF);rw[FO]at BA;simp only[FO]at Bx;clear FO;have e0:=A0.cell 0;have e1:=A0.cell 1;have e2:=A0.cell 2;simp at e0 e1 e2;refine pL (λn j=>?_);go_wp2_with ((with_reducible show wpList _ _ _ ({dst:=_,op:=Op.load 90 _,type:=_,pos:=_,after:=_,guard:=_}::_) _ _);refine m5 rfl 90 _ rfl E 0 (by rfl) EM _ BA.range underlying90 rfl H0 ?_)
      refine(Bx _ S).mono ?_;rintro _ R ⟨l,m,rfl,IS,H9,k6⟩;have HL:Ac [] w4 R:=S.trans k6;have H4:=Ab IS;have M1:p7 (∀q,(U l (Z d) m).ownBlock=V q->w.heap.size<=q):=λq hq=>by
       have o:=H9 q hq;have B:=BS.size;have Q:=S.size;omega
      have H6:=Ab (z.kept HL);have MN:=Ab (BS.trans HL);clear Bx IS H9 k6 HL e0 e1 e2 S z BS A0 BA H0 K1 H;simp only[Be,(Aa AT).1];have HY:=Ab (λg (hk:Ac [] R g)=>Nw ⟨M,U l (Z d) m⟩ g (H4.kept hk) (by show Z M.args<=1000;have:=AT.2;omega) HV.1 (by show M.name.size<=_;rw[(Aa AT).1];exact HV.2));simp only[Be,(Aa AT).1]at HY;have Jx:=Ab (H6.alloc (j3 [O f,U l (Z d) m].toArray 43));have FW:=Ab (pP R [O f,U l (Z d) m] 43);have HC:=Ab ((pO [] R).alloc (j3 [O f,U l (Z d) m].toArray 43));go_wp2;refine j _ _ ?_;clear j n;change Code.wp _ _ _ _ (R.alloc (j3 [O f,U l (Z d) m].toArray 43));generalize R.alloc (j3 [O f,U l (Z d) m].toArray 43)=w7 at Jx FW HC⊢;obtain⟨F,hF⟩:=pN R.heap.size;rw[hF]at FW⊢;(have JJ:N≠F:=by have:=H6.lt;omega);clear hF;have EX:p7 (∀g,AF g F [O f,U l (Z d) m] 43->g.cell? ⟨F,0,Y⟩=V (O f)/\g.cell? ⟨F,1,Y⟩=V (U l (Z d) m)):=by
       intro g hb;have h0:=hb.cell 0;have o:=hb.cell 1;simp at h0 o;exact⟨h0,o⟩
      obtain⟨TX,HS⟩:=pN (BN M);simp only[HS]at HY;(have LC:p7 (GH s=(TX.toList==s.toList)):=by show _=_;unfold GH;rw[Aa r,Aa HH,HS,mR]);clear HS;refine pL (λn j=>?_);have HU:=Ab (EX w7.drew FW);refine CH 7 (λg=>g.cell? ⟨F,0,Y⟩=V (O f)/\g.cell? ⟨F,1,Y⟩=V (U l (Z d) m)) (by kernel_rfl) ?_;refine CF.tqH (i:=0) (v:=pC #[O f,U l (Z d) m]) rfl (λ_ _ _ h=>h) HU ?_;simp only[pJ,kR,kT,kU];refine CF.tqH (i:=1) (v:=pC #[O f,U l (Z d) m]) rfl (λ_ _ _ h=>h) HU ?_;simp only[pJ,kR,kT,kU];refine CF.tqH (i:=3) (v:=O s) rfl (λ_ _ _ h=>h) HU ?_;simp only[pJ,kR,kT,kU];refine CF.one (i:=2) (by kernel_rfl) rfl (λES I=>?_)
      go_simp
      refine(HY _ (HC.trans (pO [] w7).drew)).mono ?_;rintro _ w8 ⟨rfl,LL⟩;have k8:Ac [] w7 w8:=(pO [] w7).drew.trans LL;have HK:=FW.kept k8;have W:=Jx.kept k8;refine I.out _ _ (λ_=>EX _ HK) ?_;clear I ES
      try simp only[pJ,kR,kT,kU]
      have MB:=Ab (EX _ HK);refine CF.tqH (i:=4) (v:=pE (TX.toList==s.toList)) rfl (λ_ _ _ h=>h) MB ?_;simp only[pJ,kR,kT,kU];have c0:=W.cell 0;have c1:=W.cell 1;have z0:=W.frozen 0;have z1:=W.frozen 1;simp at c0 c1;refine CF.one (i:=5) (by kernel_rfl) rfl (λES I=>?_)
      go_simp
      have JA:=(HK.zB ⟨N,0,Y⟩ JJ (O f)).zB ⟨N,1,Y⟩ JJ (U l (Z d) m);refine I.out _ _ (λ_=>EX _ JA) ?_;clear I ES
      try simp only[pJ,kR,kT,kU]
      refine CF.one (i:=6) (by kernel_rfl) rfl (λES I=>?_)
      go_simp
      refine I.out _ _ (λ_=>EX _ JA) ?_;clear I ES;refine CF.done (by kernel_rfl) ?_ _
      try simp only[pJ,kR,kT,kU]
      refine j _ _ ?_;clear j n;refine wp_ret ?_;refine lL (Av rfl (by rfl) ((W.set 0 _).set 1 _) underlying43 rfl (by kernel_rfl)) rfl ?_;(have K4:w.heap.size<=N:=by have:=Aa HN;omega);have Mo:=(((MN.trans HC).trans k8).setCell (p:=⟨N,0,Y⟩) (oj K4) (O f)).setCell (p:=⟨N,1,Y⟩) (oj K4) (U l (Z d) m);refine⟨⟨M,U l (Z d) m⟩,?_,HH.symm,?_,M1,Mo⟩
      .rw[Aa LC];simp only[Be,(Aa AT).1];rfl
      .have o:Dx w8 ⟨M,U l (Z d) m⟩:=(H4.kept HC).kept k8;have B:=Ag o (As (v1:=U l (Z d) m) o W (by decide)) (p:=⟨N,0,Y⟩) (O f);have Q:=W.set 0 (O f);exact Ag B (As (v1:=U l (Z d) m) B Q (by decide)) (p:=⟨N,1,Y⟩) (U l (Z d) m)
