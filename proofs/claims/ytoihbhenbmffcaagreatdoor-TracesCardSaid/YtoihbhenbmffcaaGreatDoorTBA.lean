import Derived.Test.YtoihbhenbmffcaaGreatDoorTAQ
import Derived.Test.YtoihbhenbmffcaaGreatDoorTAZ
import Derived.Test.YtoihbhenbmffcaaGreatDoorTAK
set_option linter.all false
set_option maxHeartbeats 0
open List renaming length->Z,toArray->j2,replicate->qV
open Option renaming none->Y,some->V
open Go.Value renaming slice->U,int->X,string->O,pointer->j3,agg->oj,bool->q8,ownBlock->qX
open Bool renaming false->K,true->jj
open Go.IntKind renaming i64->J
open Go.Obj renaming cells->j1
open Go.Ending renaming returned->kt
open Or renaming inl->lo,inr->lx
open Go renaming World->ly,Value->ml
open Go.RowKit renaming Hid->nc
open Go.World renaming cell?->oa,ownsRow->oi
open ByteArray renaming empty->q9
open Go.Act renaming put->qY
namespace Go.Proofs.YtoihbhenbmffcaaGreatDoor
open Go.RowKit Go.Proofs.Tryz
variable{n i m k b j:Nat}{I:Int}{s:zA}{w v u:ly}{z:ml}{B:Bool}{g:UInt8}{c:rc AV}{y x:rc ml}{o:Option Addr}{M:rc Nat}{p:rc CU}
def Xp(s:zA)(b:Nat)(a:Bool):(Az s b a).1.s.size<=s.size:=by
 unfold Az;split
 .exact mO _
 .split
  .split
   .exact mO _
   .split
    .exact Nw _ _ _
    .split
     .exact mO _
     .show(ByteArray.extract _ _ _).size<=_;rw[n7];omega
  .exact mO _
def fj(s:zA)(b:Nat):∀t∈(Cq s b).1,t.s.size<=s.size:=by
 fun_induction Cq s b with
 |case1 b hc _ _ ih=>
  intro t a;rcases mA.1 a with rfl|a
  .exact Xp _ _ _
  .exact ih t a
 |case2 b hc=>
  intro t a;rw[my]at a;subst a;exact Xp _ _ _
def lz(s:zA)(A:Dr):Prop:=A.name.size<=s.size/\∀t∈A.args,t.s.size<=s.size
def OC(s:zA)(c:Nat)(b:Bool):lz s (A4 s c b).1:=by
 unfold A4;refine⟨Nw _ _ _,?_⟩;show∀t∈(DZ s _).1,_;unfold DZ;split
 .intro t a;cases a
 .exact fj _ _
def Uj(s:zA):lz s Hr:=⟨mO _,λt a=>by cases a⟩
def az(s:zA)(a:Nat):lz s (CI s a).1.A:=by
 unfold CI;simp only;split
 .exact OC _ _ _
 .split
  .exact OC _ _ _
  .unfold In;split
   .exact Uj s
   .exact Uj s
def fe(s:zA)(b:Nat):∀x∈(Bg s b).1,lz s x.A:=by
 fun_induction Bg s b with
 |case1 b hc _ _ ih=>
  intro t a;rcases mA.1 a with rfl|a
  .exact az _ _
  .exact ih t a
 |case2 b hc=>
  intro t a;rw[my]at a;subst a;exact az _ _
def mg(s:zA)(c:Ca):Prop:=lz s c.head/\∀x∈c.body,lz s x.A
def Ky(s:zA)(b:Nat):mg s (Ao s b).1:=by
 unfold Ao;refine⟨OC _ _ _,?_⟩;show∀x∈(Df s _ _).1,_;unfold Df;split
 .split
  .exact fe _ _
  .intro x a;cases a
 .intro x a;cases a
def FY(s:zA)(b:Nat):∀c∈(Aj s b).1,mg s c:=by
 fun_induction Aj s b with
 |case1 b ha hc ih=>
  intro c a;rcases mA.1 a with rfl|a
  .exact Ky _ _
  .exact ih c a
 |case2 b ha hc=>
  intro c a;rw[my]at a;subst a;exact Ky _ _
 |case3 b ha=>intro c a;cases a
def NT:∀(k:Nat) (x:zA),(Mx k x).size<=x.size+k
 |0,x=>mP _
 |k+1,x=>by
  rw[Mx];split
  .have h:=NT k (Ro++x);have a:Ro.size=1:=rfl;rw[mH,a]at h;omega
  .omega
def LU(x:zA):(AD x).size<=x.size+3:=by
 unfold AD;split
 .exact NT 3 x
 .omega
def QD(cs ds:rc AV):Prop:=∀c∈cs,∃d∈ds,d.head=c.head/\An d=An c
def Nf{b a:rc AV}(h:b.map AV.erase=a.map AV.erase):QD b a:=by
 intro c g;obtain⟨d,f,e⟩:=(F2.of_map h).zw c g;exact⟨d,f,(congrArg Ca.head e).symm,(congrArg Ca.body e).symm⟩
def QD.inst{a f:rc AV}(h:QD a f){i:G1 Af}(l:Fa a i):Fa f i:=by
 obtain⟨c,k,σ,b,rfl⟩:=l;obtain⟨d,g,j,e⟩:=h c k;refine⟨d,g,σ,?_,?_⟩
 .unfold Qp at b⊢;rw[e];exact b
 .unfold Da;rw[j,e]
def QD.consts{b e:rc AV}(h:QD b e){x:zA}(a:x∈consts b):x∈consts e:=by
 unfold Go.Proofs.YtoihbhenbmffcaaGreatDoor.consts at a⊢;obtain⟨c,i,a⟩:=m6.1 a;obtain⟨d,f,g,_⟩:=h c i;exact m6.2 ⟨d,f,by rw[g];exact a⟩
def QD.z6{b g:rc AV}(h:QD b g){f:Af}(a:Dw b f):Dw g f:=by
 refine⟨?_,λx l=>h.consts (a.args x l)⟩;obtain⟨c,k,e⟩:=a.zd;obtain⟨d,i,j,_⟩:=h c k;exact⟨d,i,by rw[j];exact e⟩
def QD.inv{a b:rc AV}(h:QD a b)(g:QD b a){L:zA->Nat}{s:rc Af}(c:Hm a L n s):Hm b L n s:=by
 have e:Fa a=Fa b:=funext λi=>propext ⟨h.inst,g.inst⟩
 exact⟨by rw[<-e];exact c.work,c.zG,λf d=>h.z6 (c.zX f d)⟩
def QD.zS{g i:rc AV}(l:QD i g){L:zA->Nat}(j:CG g L):CG i L:=by
 refine⟨λd e x b a=>?_,λd e x b a=>?_⟩<;>obtain⟨c,h,f,k⟩:=l d e
 .rw[<-f];exact j.pos c h x (by rw[k];exact b) a
 .rw[<-f];exact j.neg c h x (by rw[k];exact b) a
def JI(s:zA)(t:zA)(er:Int):Prop:=
 (er≠0->t=q9)/\
 (er=0->∃(cs:rc AV) (L:zA->Nat) (N:Nat) (u:rc Af),cs.map AV.erase=(Aj s (Ae s 0)).1/\CG cs L/\Hm cs L N u/\(∀c∈cs,L c.head.name<N)/\t=TI q9 (u.map Bq))
def Zr{s t i:zA}(g:JI s t I)(h:OU s i I):t=i:=by
 by_cases e:I=0
 .obtain⟨w,L,N,u,j,o,q,p,rfl⟩:=g.2 e;obtain⟨y,x,f,m,v,l,rfl⟩:=h.2 e;have a:=Nf (j.trans f.symm);have b:=Nf (f.trans j.symm);refine m.text v l (b.zS o) (a.inv b q) (λd k=>?_);obtain⟨c,r,n,_⟩:=b d k;rw[<-n];exact p c r
 .rw[g.1 e,h.1 e]
def My(H:s.size<=300){n:rc PC}{g:rc CU}(i:Ds (DH s) 0 []=.ok n)(j:g.map CU.pc=n)(E:CE w z g){r:Int×Int}(C:El s (jw s) r)(y:r.1=0):
  r=(0,0)/\∃a:rc AV,a.map AV.erase=(Aj s (Ae s 0)).1/\Im g a:=by
 have h:=Lh s;rw[i]at h;have d:((Aj s (Ae s 0)).1.map Yu).map AV.erase=(Aj s (Ae s 0)).1:=by
  rw[nN]
  conv=>rhs;rw[<-List.map_id (Aj s (Ae s 0)).1]
  exact nL λc _=>Qk c
 generalize(Aj s (Ae s 0)).1.map Yu=a at d;have F:DK s (CQ a).1 (CQ a).2:=by
  unfold DK;rw[mJ (by omega),mJ (by rw[h.1];simp)];exact⟨a,d,rfl⟩
 have t:=EH F C;have o:CQ a=(0,0):=Jb (by rw[<-show r.1=(CQ a).1 by rw[t]];exact y);refine⟨by rw[t,o],a,d,?_⟩;have G:=(Ka s).1;have B:=KI (by omega) _ 0 [] (mP _) (by simp) i;have u:g.map CU.pc=a.map λr=>ij r.erase:=by
  rw[j,h.2.1,<-d,nN];rfl
 have m:∀c∈g,Lw c.pc:=λc f=>B.1 _ (by rw[<-j];exact mD.2 ⟨c,f,rfl⟩)
 refine⟨(F2.of_map u).mono (λc f b l k=>ii k (m c f) (E.each c f).wf ?_),DQ h.1 d o,m,λc f=>?_⟩
 .exact h.2.2 b.erase (by rw[<-d];exact mD.2 ⟨b,l,rfl⟩)
 .obtain⟨b,l,k⟩:=(F2.of_map u).zw c f;have q:=FY s (Ae s 0) b.erase (by rw[<-d];exact mR l);refine⟨?_,λp i=>?_⟩
  .have e:c.hn=b.erase.head.name:=congrArg PC.hn k;rw[e];have:=q.1.1;omega
  .have e:c.zD.map Prod.fst=b.erase.body.map MA:=congrArg PC.body k;(have j:p.1∈b.erase.body.map MA:=by rw[<-e];exact mR i);obtain⟨x,D,v⟩:=mD.1 j;rw[<-v];have:=(q.2 x D).1;show x.A.name.size<=_;omega
def RP(w:s.size<=300){g:rc AV}(h:g.map AV.erase=(Aj s (Ae s 0)).1){u:rc Af}(q:∀f∈u,Dw g f){fs:rc Eb}(k:fs.map Eb.f=u.map Bq):
  ∀p∈fs,p.f.name.size<=1000000/\∀x∈p.f.zC,x.size<=1000000:=by
 intro p i;have b:p.f∈u.map Bq:=by rw[<-k];exact mR i
 obtain⟨f,j,e⟩:=mD.1 b;have d:=q f j;rw[<-e];refine⟨?_,λx v=>?_⟩
 .obtain⟨c,a,n,_⟩:=d.zd;show f.name.size<=_;rw[n];have:=(FY s (Ae s 0) c.erase (by rw[<-h];exact mR a)).1.1;have r:c.erase.head=c.head:=rfl;rw[r]at this;omega
 .obtain⟨y,l,rfl⟩:=mD.1 v;have a:=d.args y l;unfold consts at a;obtain⟨c,m,b⟩:=m6.1 a;obtain⟨t,o,rfl⟩:=mD.1 b;have:=(FY s (Ae s 0) c.erase (by rw[<-h];exact mR m)).1.2 t (mT.1 o).1;have:=LU t.s;omega
set_option maxRecDepth 100000
theorem PR(s:zA)(w:ly)(AR:s.size<=9223372036854775807):
  Calls prog 14 #[O s] w λe i=>∃(t:zA) (r:Int×Int),e=kt (.tuple #[O t,X J r.1,X J r.2])/\El s (jw s) r/\JI s t r.1/\Ac [] w i:=by
 have I:=Ab (J2 s (jw s) w AR (λf cs m x p=>Le f m p));go_enter func14,ntmps14;go_wp2_with fail
 refine I.mono ?_;rintro _ q ⟨R,n,cp,⟨j,F⟩,rfl,AB,H,E⟩;have A:=Ab AB;have y:=Ab H;have Q:=Ab E;clear I AB H E;by_cases k:j=0
 .subst k;obtain⟨f,cs,x,m,p,rfl,B⟩:=y rfl;obtain⟨T,g,D,C⟩:=My f m p B A rfl;obtain rfl:F=0:=(Prod.mk.inj T).2;have A1:((0:Int) !=0)=K:=rfl;have Ax:=Ab (LX R cp x g q B C);have DG:nc (∀a u L N b,Tn q a (U R (Z x) cp) [] u b->CG g L->Hm g L N u->(∀c∈g,L c.head.name<N)->
    Calls prog 42 #[j3 (V ⟨a,1,Y⟩)] b λe i=>∃t,e=kt (O t)/\JI s t 0/\Ac [] q i):=by
   intro a u L N b G h1 v h3;obtain⟨Bx,BA,W,CC,B9,xs,o,l,d,_⟩:=G.out;have hc:=o.cell 1;have CL:=(C.zd v).2.2;(have B2:Z W=Z u:=by have:=congrArg List.length d.same;simpa using this);refine(PN a 1 Bx BA W b (by simpa using hc) l (by omega) (RP f D v.zX d.same)).mono ?_;rintro _ i ⟨rfl,hk⟩;exact⟨_,rfl,⟨λh=>absurd rfl h,λ_=>⟨g,L,N,u,D,h1,v,h3,by rw[d.same]⟩⟩,G.kept.trans hk⟩
  clear f m p B T D C y;go_wp2_with fail
  refine Ax.mono ?_;rintro _ b ⟨a,u,L,N,rfl,o,l,d,S⟩;have P:=Ab (DG a u L N b o l d S);clear Ax DG o l d S;go_wp2_with fail
  refine P.mono ?_;rintro _ w3 ⟨t,rfl,hF,M⟩;have z:=Ab hF;have BT:=Ab (Q.trans M);clear P hF M;go_wp2_with fail
  go_ret3;exact⟨t,(0,0),rfl,A,z,BT⟩
 .have A1:(j !=0)=jj:=by simp[k]
  have z:nc (JI s q9 j):=⟨λ_=>rfl,λh=>absurd h k⟩;clear k y;go_wp2_with fail
  go_ret3;exact⟨q9,(j,F),rfl,A,z,Q⟩
def tl(t:AJ):Nat:=if t.v=0 then t.s.size else 1
def jG:rc AJ->Nat
 |[]=>0
 |t::l=>tl t+jG l
def TQ(h:(AY s i K).2.2=K):i+(AY s i K).1.size<=(AY s i K).2.1/\(AY s i K).2.1<=s.size:=by
 have b:=B1 s i;by_cases a:AK AA s (Ae s i)=Ae s i\/4<AK AA s (Ae s i)-Ae s i
 .rw[Eh rfl rfl a]at h;cases h
 .rw[I0 rfl rfl a];have c:=LT (p:=AA) (s:=s) (i:=Ae s i) (λe=>a (lo e));have d:=CD AA s (Ae s i);simp only;rw[n7];omega
def T5(h:(Az s i K).2.2=K):i+tl (Az s i K).1<=(Az s i K).2.1:=by
 have g:=B1 s i;unfold Az at h⊢;rw[mJ (by simp)]at h⊢;by_cases c:Ae s i<s.size
 .rw[dif_pos c]at h⊢;by_cases a:Dx s[Ae s i]=jj
  .rw[mK a]at h⊢;unfold tl;have f:s[Ae s i]≠0:=by
    intro e;rw[e]at a;exact absurd a (by decide)
   simp only[mJ f];omega
  .rw[mJ a]at h⊢;by_cases d:(!Ap s[Ae s i])=jj
   .rw[mK d]at h⊢;have:=(TQ h).1;unfold tl;simp only[if_true];omega
   .rw[mJ d]at h⊢;by_cases b:3<AK Ap s (Ae s i)-Ae s i\/(s[Ae s i]=48/\1<AK Ap s (Ae s i)-Ae s i)
    .rw[mK b]at h;cases h
    .rw[mJ b]at h⊢;have j:=CD Ap s (Ae s i);unfold tl;simp only[if_true];rw[n7];omega
 .rw[dif_neg c]at h;cases h
def Yw{s:zA}{i:Nat}(h:(Cq s i).2.2=K):0<Z (Cq s i).1/\i+jG (Cq s i).1+Z (Cq s i).1<=(Cq s i).2.1+1:=by
 fun_induction Cq s i with
 |case1 i hc _ _ ih=>
  have d:=ih h;have a:(Az s i K).2.2=K:=by
   have:=hc.1;rw[mV]at this;simpa using this.1
  have b:=T5 a;have c:(Az s i K).2.1+1<=Cg s (Az s i K).2.1 (Az s i K).2.2 44:=by
   unfold Cg;rw[mK hc.1];have:=B1 s (Az s i K).2.1;rw[a];unfold AF;simp;omega
  simp only[mL,jG];omega
 |case2 i hc=>
  have b:=T5 h;have c:=DE s (Az s i K).2.1 (Az s i K).2.2 44;simp only[mL,m8,jG];omega
def Sm(h:(Bk s i B g).2=K):B=K/\i+1<=(Bk s i B g).1:=by
 unfold Bk at h⊢;simp only[Bool.not_eq_false']at h;have a:(!B&&DM s (AF s i B) g)=jj:=by simpa using h
 have b:B=K:=by rw[mV]at a;simpa using a.1
 refine⟨b,?_⟩;unfold Cg;rw[mK a];subst b;have:=B1 s i;unfold AF;simp;omega
def YT(h:(A4 s i K).2.2=K):0<Z (A4 s i K).1.args/\i+(A4 s i K).1.name.size+jG (A4 s i K).1.args+Z (A4 s i K).1.args+1<=(A4 s i K).2.1:=by
 unfold A4 at h⊢;simp only at h⊢;obtain⟨a,b⟩:=Sm h;unfold DZ at a b⊢;have k:=B1 s i;cases hm:(Bk s (AY s (AF s i K) K).2.1 (AY s (AF s i K) K).2.2 40).2 with
 |true=>rw[hm]at a;simp at a
 |false=>
  rw[hm]at a b;simp only[mC,if_false]at a b⊢;obtain⟨j,e⟩:=Sm hm;have g:=(TQ j).1;obtain⟨c,f⟩:=Yw a;have d:AF s i K=Ae s i:=rfl;rw[d]at e g c f b a⊢;refine⟨c,?_⟩;omega
def Ki(h:(Ao s i).2.2=K):0<Z (Ao s i).1.head.args/\Ae s i+(Ao s i).1.head.name.size+jG (Ao s i).1.head.args+Z (Ao s i).1.head.args+2<=(Ao s i).2.1/\
  ((Ao s i).1.body≠[]->Ae s i+(Ao s i).1.head.name.size+jG (Ao s i).1.head.args+Z (Ao s i).1.head.args+3<=(Ao s i).2.1):=by
 unfold Ao at h⊢;simp only at h⊢;obtain⟨a,b⟩:=Sm h;have f:=(GH a).1;obtain⟨d,k⟩:=YT f;unfold Df at a b⊢;by_cases e:(!(A4 s (Ae s i) K).2.2&&DM s (AF s (A4 s (Ae s i) K).2.1 (A4 s (Ae s i) K).2.2) 58)=jj
 .rw[mK e]at a b⊢;by_cases c:DM s (Cg s (A4 s (Ae s i) K).2.1 (A4 s (Ae s i) K).2.2 58) 45=jj
  .rw[mK c]at a b⊢;have g:=DE s (A4 s (Ae s i) K).2.1 (A4 s (Ae s i) K).2.2 58;have j:=XE s (Cg s (A4 s (Ae s i) K).2.1 (A4 s (Ae s i) K).2.2 58+1);refine⟨d,by omega,λ_=>by omega⟩
  .rw[mJ c]at a;cases a
 .rw[mJ e]at a b⊢;have g:=DE s (A4 s (Ae s i) K).2.1 (A4 s (Ae s i) K).2.2 58;simp only at b⊢;exact⟨d,by omega,λh=>absurd rfl h⟩
def PZ:∀(a:rc zA) (s:zA) (b:Bool),(D8 s b a).size=s.size+Z a+(a.map λx=>(B5 x).size).sum
 |[],s,b=>by simp[D8]
 |x::a,s,b=>by
  rw[D8,PZ a,mH,mH];have:(if b=jj then(⟨#[44]⟩:zA)else⟨#[40]⟩).size=1:=by cases b<;>rfl
  rw[this];simp;omega
def dv(n:zA)(a:rc zA):(FK ⟨n,a⟩).size=n.size+Z a+(a.map λx=>(B5 x).size).sum+2:=by
 unfold FK;rw[mH,PZ];rfl
def ft{t:AJ}(h:Dt t):(B5 (ct t).s).size+(if t.v=0 then 0 else 1)=tl t:=by
 unfold tl;rcases h with⟨a,c⟩|⟨b,_,d⟩
 .rw[mK a,mK a];show(B5 (Ek t.s)).size+0=_;rw[J8 c,GO c];rfl
 .have a:t.v≠0:=by intro e;rw[e]at b;exact absurd b (by decide)
  rw[mJ a,mJ a];show(B5 (Ek t.s)).size+1=1;rw[d];have e:Ek q9=q9:=by unfold Ek;rw[mK (show ByteArray.empty.size=0 from rfl)]
  rw[e];have a:=LQ (k:=ByteArray.empty.size) (s:=q9) (by decide);unfold B5;split
  .rw[a];rfl
  .rfl
def Uq:∀(a:rc AJ),(∀t∈a,Dt t)->((a.map ct).map λt=>(B5 t.s).size).sum<=jG a/\(jG a<=((a.map ct).map λt=>(B5 t.s).size).sum->∀t∈a,t.v=0)
 |[],_=>⟨by simp[jG],λ_ t f=>by simp at f⟩
 |t::a,h=>by
  have d:=ft (h t (by simp));obtain⟨g,e⟩:=Uq a (λx b=>h x (by simp[b]));simp only[mU,List.sum_cons,jG];refine⟨by omega,λi=>?_⟩;by_cases c:t.v=0
  .rw[mK c]at d;intro x b;rcases mA.1 b with rfl|b
   .exact c
   .exact e (by omega) x b
  .rw[mJ c]at d;omega
def jy(s:zA):Option CJ:=match Ds (DH s) 0 [] with
 | .ok [c]=>if((FK ⟨c.hn,c.zE.map AZ.s⟩).toList==s.toList)=jj then V ⟨c.hn,c.zE.map AZ.s⟩else Y
 |_=>Y
def dW(s:zA):Option CJ:=if 300<s.size then Y else(jy s).bind λp=>if 2<Z p.zC then Y else V p
def UX{a:rc AJ}(h:∀t∈a,Dt t)(d:∀t∈a,t.v=0):(a.map ct).map AZ.s=(a.map (AP Bl)).map AD:=by
 rw[nN,nN];refine nL (λt b=>?_);simp only[Function.comp];show Ek t.s=AD (AP Bl t);unfold AP;rw[mK (d t b)];rcases h t b with⟨_,e⟩|⟨c,_⟩
 .exact J8 e
 .rw[d t b]at c;exact absurd c (by decide)
def Uv(h:(Ao s i).2.2=K)(d:∀t∈(Ao s i).1.head.args,t.v=0):AL (Av Bl (Ao s i).1.head)/\(Av Bl (Ao s i).1.head).args≠[]:=by
 have f:=(DO h).head;refine⟨λx j=>?_,?_⟩
 .obtain⟨t,a,rfl⟩:=mD.1 j;unfold AP;rw[mK (d t a)];rcases f.args t a with⟨_,g⟩|⟨c,_⟩
  .exact g
  .rw[d t a]at c;exact absurd c (by decide)
 .intro e;have:=(Ki h).1;have b:=congrArg List.length e;unfold Av at b;simp only[mI,m8]at b;omega
def bh(h:(Ao s i).2.2=K)(a:∀t∈(Ao s i).1.head.args,t.v=0):FK ⟨(Ao s i).1.head.name,((Ao s i).1.head.args.map ct).map AZ.s⟩=Bv (Av Bl (Ao s i).1.head):=by
 obtain⟨b,c⟩:=Uv h a;rw[<-PJ b c,UX (DO h).head.args a];rfl
def GS(h:Il s=jj):dW s=V (Bq (Cs s))/\AL (Cs s)/\(Cs s).args≠[]:=by
 unfold Il at h;rw[mV]at h;obtain⟨k,j⟩:=h;have hF:Cs s=Av Bl (Ao s 0).1.head:=by unfold Cs;rw[mK k]
 have A:Bv (Cs s)=s:=GG j;unfold Li at k;simp only[mV,oJ,oF]at k;obtain⟨z,d,S,c4,D⟩:=k;obtain⟨T,W,R⟩:=Ki d;have o:=(DO d).head;have Ax:=IH s 0 (mO _);have Q:s.size=(Ao s 0).1.head.name.size+Z (Ao s 0).1.head.args+((Ao s 0).1.head.args.map λt=>(AP Bl t).size).sum+2:=by
  have g:=congrArg ByteArray.size A;rw[hF]at g;rw[<-g];unfold Bv;rw[mH];have:∀(e:rc zA) (b:Bool) (u:zA),(Gr u b e).size=u.size+(e.map ByteArray.size).sum+(if b then Z e else Z e-1):=by
   intro e
   induction e with
   |nil=>intro b u;cases b<;>simp[Gr]
   |cons x e ih=>
    intro b u;rw[Gr,ih,mH];have I:(⟨#[44]⟩:zA).size=1:=rfl;cases b
    .simp;omega
    .simp[mH,I];omega
  rw[this,mH];have y:(⟨#[40]⟩:zA).size=1:=rfl;have G:(⟨#[41,46]⟩:zA).size=2:=rfl;unfold Av;simp only[nN,mI,y,G,Function.comp_def];simp;omega
 have w:∀c:rc AJ,(∀t∈c,Dt t)->(c.map λt=>(AP Bl t).size).sum<=jG c/\(jG c<=(c.map λt=>(AP Bl t).size).sum->∀t∈c,t.v=0):=by
  intro c
  induction c with
  |nil=>intro _;exact⟨by simp[jG],λ_ t j=>by simp at j⟩
  |cons t c ih=>
   intro H;obtain⟨M,E⟩:=ih (λx i=>H x (by simp[i]));have g:(AP Bl t).size+(if t.v=0 then 0 else 1)=tl t:=by
    unfold tl AP;by_cases a:t.v=0
    .rw[mK a,mK a,mK a];rfl
    .rw[mJ a,mJ a,mJ a];have:(Bl.getD (t.v.toNat-65) q9).size=0:=by
      unfold Bl;rw[mN,List.getElem?_replicate];split<;>rfl
     omega
   simp only[mU,List.sum_cons,jG];refine⟨by omega,λN=>?_⟩;by_cases a:t.v=0
   .rw[mK a]at g;intro x i;rcases mA.1 i with rfl|i
    .exact a
    .exact E (by omega) x i
   .rw[mJ a]at g;omega
 obtain⟨P,C⟩:=w _ o.args;have l:=C (by omega);have F:Ae s 0=0:=by omega
 have q:(Ao s 0).2.1=s.size:=by omega
 obtain⟨n,m⟩:=Uv d l;rw[<-hF]at n m;refine⟨?_,n,m⟩;have L:Aj s (Ae s 0)=([(Ao s 0).1],(Aj s s.size).2):=by
  rw[F,Aj,dif_pos (by omega),dif_pos ⟨d,by rw[d,q,Sg _ _ (by omega)];omega⟩];rw[d,q,Sg _ _ (by omega)];have:(Aj s s.size).1=[]:=by rw[Aj,dif_neg (by omega)]
  rw[this]
 have f:=Lh s;rw[L]at f;have r:(Aj s s.size).2=(s.size,K):=by rw[Aj,dif_neg (by omega)]
 rw[r]at f;unfold dW jy;rw[mJ z];cases hp:Ds (DH s) 0 [] with
 |error p=>rw[hp]at f;exact absurd f.1 (by simp)
 |ok cs=>
  rw[hp]at f;obtain⟨_,rfl,_⟩:=f;simp only[mU,oH];have B:=bh d l;show Option.bind (if((FK ⟨(Ao s 0).1.head.name,((Ao s 0).1.head.args.map ct).map AZ.s⟩).toList==s.toList)=jj then V (⟨(Ao s 0).1.head.name,((Ao s 0).1.head.args.map ct).map AZ.s⟩:CJ)else Y) _=_;rw[B,<-hF,mK j];simp only[Option.bind_some];rw[mJ (by simp only[mI];exact D),UX o.args l,hF];rfl
def cF{p:CJ}(h:dW s=V p):Il s=jj:=by
 unfold dW at h;by_cases n:300<s.size
 .rw[mK n]at h;cases h
 .rw[mJ n]at h;have r:=Lh s;unfold jy at h;cases hp:Ds (DH s) 0 [] with
  |error q=>rw[hp]at h;simp at h
  |ok cs=>
   rw[hp]at h r;obtain⟨k,a,_⟩:=r;cases hcs:(Aj s (Ae s 0)).1 with
   |nil=>rw[hcs]at a;subst a;simp at h
   |cons c rest=>
    cases rest with
    |cons d rest=>rw[hcs]at a;subst a;simp at h
    |nil=>
     rw[hcs]at a;subst a;simp only[mU,oH]at h;by_cases g:((FK ⟨(ij c).hn,(ij c).zE.map AZ.s⟩).toList==s.toList)=jj
     .rw[mK g]at h;simp only[Option.bind_some]at h;by_cases i:2<Z ((ij c).zE.map AZ.s)
      .rw[mK i]at h;cases h
      .have B:FK ⟨(ij c).hn,(ij c).zE.map AZ.s⟩=s:=GG g;have y:Ae s 0<s.size:=by
        by_cases o:Ae s 0<s.size
        .exact o
        .rw[Aj,dif_neg o]at hcs;cases hcs
       have L:c=(Ao s (Ae s 0)).1/\(Ao s (Ae s 0)).2.2=K:=by
        rw[Aj,dif_pos y]at hcs k;by_cases m:(Ao s (Ae s 0)).2.2=K/\Ae s 0<AF s (Ao s (Ae s 0)).2.1 (Ao s (Ae s 0)).2.2
        .rw[dif_pos m]at hcs;simp only[oA]at hcs;exact⟨hcs.1.symm,m.1⟩
        .rw[dif_neg m]at hcs k;simp only[oA]at hcs;exact⟨hcs.1.symm,k⟩
       obtain⟨f,b⟩:=L;obtain⟨H,u,j⟩:=Ki b;have v:=(DO b).head;have I:=IH s (Ae s 0) (by omega);rw[<-f]at H u j v;have N:s.size=c.head.name.size+Z c.head.args+((c.head.args.map ct).map λt=>(B5 t.s).size).sum+2:=by
        rw[<-B];show(FK ⟨c.head.name,(c.head.args.map ct).map AZ.s⟩).size=_;rw[dv];simp[nN,Function.comp_def]
       obtain⟨M,C⟩:=Uq _ v.args;have D:Ae s 0<=Ae s (Ae s 0):=B1 _ _;have A:=C (by omega);(have F:Ae s 0=0:=by omega);rw[F]at f b u j I D;(have G:(Ao s 0).2.1=s.size:=by omega);have z:c.body=[]:=by
        cases hbb:c.body with
        |nil=>rfl
        |cons x l=>have:=j (by rw[hbb];simp);omega
       have w:Li s=jj:=by
        unfold Li;rw[b,G,nW n,<-f,z];have E:¬2<Z c.head.args:=by
         (have e:Z ((ij c).zE.map AZ.s)=Z c.head.args:=by show Z ((c.head.args.map ct).map AZ.s)=_;simp);rw[e]at i;exact i
        simp[E]
       unfold Il;rw[w,oy];unfold Cs;rw[mK w,<-bh b (by rw[<-f];exact A),<-f];exact g
     .rw[mJ g]at h;simp at h
def ib(s:zA):dW s=if Il s=jj then V (Bq (Cs s))else Y:=by
 cases h:Il s with
 |true=>rw[mK rfl];exact(GS h).1
 |false=>
  rw[mJ (by simp)];cases hl:dW s with
  |none=>rfl
  |some p=>rw[cF hl]at h;cases h
def WD(x:zA):(Ek x).size<=x.size+3:=by
 unfold Ek;split
 .omega
 .split
  .split
   .exact NT 3 x
   .rw[mH];have:(⟨#[0]⟩:zA).size=1:=rfl;omega
  .omega
def Lu(o:Option CJ)(w:ly)(e:Ending)(w':ly):Prop:=∃(p:Eb),e=kt (.tuple #[oj (j2 (AM p)),q8 o.isSome])/\(∀f,o=V f->p.f=f)/\C8 w' p/\Z p.f.zC<=1000/\Ac [] w w'
def Lu.none(w a:ly)(k:Ac [] w a):Lu Y w (kt (.tuple #[oj #[O ⟨#[]⟩,U Y 0 0],q8 K])) a:=
 ⟨⟨⟨⟨#[]⟩,[]⟩,U .none 0 0⟩,rfl,(λf h=>by cases h),mS _ _ _ _,mO _,k⟩
theorem Vb(s:zA)(w:ly)(hs:s.size<=300):
  Calls prog 97 #[O s] w λe w'=>Lu (jy s) w e w':=by
 obtain⟨i0,NS,M6,N0,NM⟩:=nC Tryz.zm;have E:jy s=match Ds (DH s) 0 [] with
  | .ok [c]=>if((FK ⟨c.hn,c.zE.map AZ.s⟩).toList==s.toList)=jj then V ⟨c.hn,c.zE.map AZ.s⟩else Y
  |_=>Y:=rfl
 have EX:nc (∀cs,Ds (DH s) 0 []=.ok cs->∀y:rc CU,y.map CU.pc=cs->∀c∈y,c.hn.size<=1000000/\Z c.zE<=1000/\∀t∈c.zE,t.s.size<=1000000):=by
  intro cs Jx y hm c hc;have L:=Le hs Jx hm;have Op:=(L.fit c hc).pc.head.2;have K6:=Lh s;rw[Jx]at K6;obtain⟨g1,g2,_⟩:=K6;have IS:c.pc∈cs:=by rw[<-hm];exact mR hc
  rw[g2]at IS;obtain⟨r,hr,K2⟩:=mD.1 IS;have hz:=(FY s (Ae s 0) r hr).1;have e1:r.head.name=c.hn:=congrArg PC.hn K2;have e2:r.head.args.map ct=c.zE:=congrArg PC.zE K2;refine⟨by rw[<-e1];have:=hz.1;omega,Op,λt ht=>?_⟩;rw[<-e2]at ht;obtain⟨u,hu,rfl⟩:=mD.1 ht;show(Ek u.s).size<=_;have I:=WD u.s;have h2:=hz.2 u hu;omega
 obtain⟨N,hN⟩:=rd w.heap.size;have HN:=Ab hN;have FC:=Ab ((re [] w).alloc (j1 [O ⟨#[]⟩,U Y 0 0].toArray 104));have A1:=Ab (rf w [O ⟨#[]⟩,U Y 0 0] 104);rw[hN]at A1;clear hN;go_enter func97,ntmps97;refine ra (λKK HW=>?_);go_wp2;refine HW _ _ ?_;clear HW KK;rw[Aa HN];change Code.wp _ _ _ _ (w.alloc (j1 [O ⟨#[]⟩,U Y 0 0].toArray 104));generalize w.alloc (j1 [O ⟨#[]⟩,U Y 0 0].toArray 104)=w1 at FC A1⊢;have L0:=Ab (KL s w1 hs);have LC:nc (∀M,Ac [] w1 M->jy s=Y->Lu (jy s) w (kt (.tuple #[oj [O ⟨#[]⟩,U Y 0 0].toArray,q8 K])) ((M.setCell ⟨N,0,Y⟩ (O ⟨#[]⟩)).setCell ⟨N,1,Y⟩ (U Y 0 0))):=λM hk h=>by
  rw[h];exact Lu.none _ _ (((FC.trans hk).setCell (p:=⟨N,0,Y⟩) (lx (by have:=Aa HN;show _<=N;omega)) _).setCell (p:=⟨N,1,Y⟩) (lx (by have:=Aa HN;show _<=N;omega)) _)
 go_wp2_with fail
 refine L0.mono ?_;intro e w2 B2;clear L0;cases hp:Ds (DH s) 0 [] with
 |error p=>
  rw[hp]at B2 E;obtain⟨rfl,A⟩:=B2;have G:nc (jy s=Y):=E;have j:=Ab (A1.kept A);have R:=j.cell 0;have P:=j.cell 1;have z0:=j.frozen 0;have z1:=j.frozen 1;simp at R P;have EK:=Ab A;clear hp E EX A;go_wp2;refine m5 (As rfl (by rfl) ((j.set 0 _).set 1 _) underlying104 rfl (by kernel_rfl)) rfl ?_;exact LC _ EK G
 |ok cs=>
  rw[hp]at B2 E;obtain⟨ad,cp,y,rfl,AO,EY,A⟩:=B2;have HC:Z cs=Z y:=by rw[<-AO];simp
  rw[HC]at EY⊢;obtain⟨CW,K7⟩:=EY.into;have j:=Ab (A1.kept A);have R:=j.cell 0;have P:=j.cell 1;have z0:=j.frozen 0;have z1:=j.frozen 1;simp at R P;have EK:=Ab A;by_cases I:Z y=1
  .obtain⟨c,rfl⟩:∃c,y=[c]:=List.length_eq_one_iff.1 I;obtain⟨g,RO,SJ,b,a,LS,FF,P0,Pl,OH,he,H2,d0,d1,d2,d3⟩:=FE CW 0 (by simp);simp only[pS]at H2;simp only[mu]at he;obtain⟨rfl,-,rfl⟩:=he;have L:=Aa EX cs hp [c] AO c (by simp);have HO:=(CW.each c (by simp)).head;have FO:jy s=if((FK ⟨c.hn,c.zE.map AZ.s⟩).toList==s.toList)=jj then V ⟨c.hn,c.zE.map AZ.s⟩else Y:=by
    rw[E,<-AO];rfl
   subst H2;simp only at L HO FO;simp only[List.length_singleton];have H3:=Ab FO;have Go:=Ab HO;have H9:=Ab L;have RI:=L.2.1;clear hp E EX AO EY CW K7 HC L HO FO A I d0 d3;simp only[Nat.zero_mul,nE]at d1 d2;(have T:w.heap.size<=N:=by have:=Aa HN;omega);have N2:N<w2.heap.size:=j.lt;have HQ:nc (AI (w2.setCell ⟨N,0,Y⟩ (O b)) N [O b,U Y 0 0] 104):=j.set 0 (O b);have HM:nc (Ac [] w (w2.setCell ⟨N,0,Y⟩ (O b))):=(FC.trans EK).setCell (p:=⟨N,0,Y⟩) (lx T) _;have Ha:nc (oi (w2.setCell ⟨N,0,Y⟩ (O b)) 0 215 2 (U LS (Z a) FF) (Z a) (a.flatMap Ar)):=Ah (Aa Go) (Aq (Aa Go) (Aa j) (by decide)) _;(go_wp2_with fail);generalize w2.setCell ⟨N,0,Y⟩ (O b)=w3 at HQ HM Ha⊢;clear d1 d2 R P z0 z1 j Go A1 N2
   go_loopg [34] (Z a) (λgk i wr=>∃(k:Nat) (m:Option Addr) (o:Nat),i=X J k/\k<=Z a/\gk=Z a-k/\nc (AI wr N [O b,U m k o] 104)/\nc (oi wr (N+1) 170 1 (U m k o) k (((a.take k).map AZ.s).flatMap Ai))/\nc (oi wr 0 215 2 (U LS (Z a) FF) (Z a) (a.flatMap Ar))/\nc (Ac [] w wr))
   case atStart=>exact⟨0,Y,0,rfl,by omega,rfl,HQ,mS _ _ _ _,Ha,HM⟩
   case round=>
    clear HQ Ha HM;obtain⟨k,m,o,rfl,hk,LD,S,HX,HH,HK⟩:=hrel;have HG:=Ab LD;clear LD;by_cases B9:k<Z a
    .obtain⟨gt,RT,IJ,_,FP⟩:=AC HH (λc _=>rfl) k B9;simp only[mu]at IJ;obtain⟨rfl,-,rfl⟩:=IJ;have a0:=FP k B9 0 (by omega);have a1:=FP k B9 1 (by omega);obtain⟨⟨tv,v⟩,HR⟩:∃t,a[k]=t:=⟨_,rfl⟩;rw[HR]at a0 a1;simp[Ar]at a0 a1;have H6:nc (((a.take (k+1)).map AZ.s).flatMap Ai=((a.take k).map AZ.s).flatMap Ai++[O v]):=by
      show _=_;rw[mx B9,nk,mY,HR];rfl
     (have QR:(0:Int)<=(k:Int):=by omega);(have Os:(k:Int)<(Z a:Int):=by omega);have Q:=Ab ((re [] wr).alloc (j1 [X .i32 tv,O v].toArray 215));have Bx:=Ab (rf wr [X .i32 tv,O v] 215);have H:=Ab (S.kept Q);have HD:=Ab (Ad HX Q);have ES:=Ab (Ad HH Q);have FT:=Ab (HK.trans Q);clear HR FP;refine ra (λK1 z=>?_);go_wp2;refine z _ _ ?_;clear z K1;refine ra (λK1 z=>?_);go_wp2;refine z _ _ ?_;clear z K1;refine ra (λK5 K8=>?_);refine wp_block ?_;refine ra (λK1 z=>?_);go_wp2;refine z _ _ ?_;clear z K1 a0 a1;change Code.wp _ _ _ _ (wr.alloc (j1 [X .i32 tv,O v].toArray 215));generalize wr.alloc (j1 [X .i32 tv,O v].toArray 215)=wa at Q Bx H HD ES FT⊢;obtain⟨BT,K3⟩:=rd wr.heap.size;rw[K3]at Bx⊢;clear K3 S HX HH HK;have b1:=H.cell 1;have f1:=H.frozen 1;have t1:=Bx.cell 1;simp at b1 t1;have AH:=Aa HD;have PT:N+1<=wa.heap.size:=H.lt;go_wp2_with (at_builtin;refine mZ _ rfl (.tmp 39) (.tmp 42) _ rfl (N+1) 170 i0 _ 1 16 underlying102 NS M6 N0 NM rfl (by omega) (U m k o) k (((a.take k).map AZ.s).flatMap Ai) rfl (mE AH _) ⟨wa.heap.size,0,Y⟩ 1 1 [O v] rfl rfl (mW (m7 wa _)) (by simp[Value.oneCell']) (by omega) (by unfold maxLen;omega) (by omega) (by simp;omega) (wa.heap.size+1) (by simp) ?_;intro D C w9 HL CC Mo M2;have W:=(H.alloc (j1 #[O v] 170)).grown CC (Aq AH H (by decide));have b9:=W.cell 1;have f9:=W.frozen 1;simp at b9)
     have LB:nc (AI (w9.setCell ⟨N,1,Y⟩ (U (V ⟨D,0,Y⟩) (k+1) C)) N [O b,U (V ⟨D,0,Y⟩) (k+1) C] 104):=W.set 1 _;have H5:nc (oi (w9.setCell ⟨N,1,Y⟩ (U (V ⟨D,0,Y⟩) (k+1) C)) (N+1) 170 1 (U (V ⟨D,0,Y⟩) (k+1) C) (k+1) (((a.take (k+1)).map AZ.s).flatMap Ai)):=by
      rw[Aa H6];exact Ah HL (Aq HL W (by decide)) _
     have LM:nc (oi (w9.setCell ⟨N,1,Y⟩ (U (V ⟨D,0,Y⟩) (k+1) C)) 0 215 2 (U (V ⟨gt,0,Y⟩) (Z a) FF) (Z a) (a.flatMap Ar)):=by
      have h3:=n5 (mE ES (j1 #[O v] 170)) CC (lx (λe=>Bh ES AH (by decide) gt rfl e.symm));exact Ah h3 (Aq h3 W (by decide)) _
     have K4:nc (Ac [] w (w9.setCell ⟨N,1,Y⟩ (U (V ⟨D,0,Y⟩) (k+1) C))):=((FT.alloc (j1 #[O v] 170)).grown CC (λq hq=>lx (by have:=(AH.lt q hq).1;omega))).setCell (p:=⟨N,1,Y⟩) (lx T) _;generalize w9.setCell ⟨N,1,Y⟩ (U (V ⟨D,0,Y⟩) (k+1) C)=w10 at LB H5 LM K4⊢;clear HL CC Mo M2 W b9 f9 b1 f1 t1 AH H HD ES FT Bx Q H6
     try go_wp2
     refine K8 _ _ ?_;clear K8;go_wp2
     go_roundg (Z a-(k+1))
     case measure=>have:=Aa HG;omega
     case rel=>exact⟨k+1,V ⟨D,0,Y⟩,C,by go_num,by omega,rfl,LB,H5,LM,K4⟩
    ·(have Nj:k=Z a:=by omega);subst Nj;obtain⟨n,A0⟩:=rd (a.map AZ.s);(have MN:Z n=Z a:=by rw[<-A0,mI]);have HF:nc (C8 wr ⟨⟨b,n⟩,U m (Z a) o⟩):=by
      have h:=Aa HX;rw[nR,A0]at h;show oi wr 0 170 1 _ (Z n) _;rw[MN];exact Ak h (mO _)
     have HT:=Aa H9;have DG:=Ab (λM (hkz:Ac [] wr M)=>LZ ⟨⟨b,n⟩,U m (Z a) o⟩ M (HF.kept hkz) (by show Z n<=1000;omega) (λx hx=>by
      have KS:x∈n:=hx
      rw[<-A0]at KS
      obtain⟨t,ht,rfl⟩:=mD.1 KS
      exact HT.2.2 t ht) HT.1)
     simp only[AM]at DG;have FA:=Aa H3;rw[A0]at FA;obtain⟨TX,HI⟩:=rd (FK ⟨b,n⟩);rw[HI]at FA;simp only[HI]at DG;have IA:=Ab FA;have b0:=S.cell 0;have b1:=S.cell 1;simp at b0 b1;clear FA HI A0 HX HH HT H3 H9;(go_wp2_with fail);refine(DG _ (re _ _)).mono ?_;rintro _ w5 ⟨rfl,k5⟩;have F:=Ab (S.kept k5);have KD:=Ab (HK.trans k5);have Nx:=Ab (HF.kept k5);have R:=F.cell 0;have P:=F.cell 1;have z0:=F.frozen 0;have z1:=F.frozen 1;simp at R P;clear DG k5 b0 b1 S HK HF;cases heq:(TX.toList==s.toList)with
     |false=>
      (have MB:(TX.toList !=s.toList)=jj:=by simp only[bne,heq];rfl);have G:nc (jy s=Y):=by
       show _=_;rw[Aa IA,heq,mJ (by simp)]
      have HS:nc (Lu (jy s) w (kt (.tuple #[oj [O ⟨#[]⟩,U Y 0 0].toArray,q8 K])) ((w5.setCell ⟨N,0,Y⟩ (O ⟨#[]⟩)).setCell ⟨N,1,Y⟩ (U Y 0 0))):=by
       rw[Aa G];exact Lu.none _ _ ((KD.setCell (p:=⟨N,0,Y⟩) (lx T) _).setCell (p:=⟨N,1,Y⟩) (lx T) _)
      go_wp2;refine m5 (As rfl (by rfl) ((F.set 0 _).set 1 _) underlying104 rfl (by kernel_rfl)) rfl ?_;exact HS
     |true=>
      (have MB:(TX.toList !=s.toList)=K:=by simp only[bne,heq];rfl);have G:nc (jy s=V ⟨b,n⟩):=by
       show _=_;rw[Aa IA,heq,mK rfl]
      have HS:nc (Lu (jy s) w (kt (.tuple #[oj [O b,U m (Z a) o].toArray,q8 jj])) ((w5.setCell ⟨N,0,Y⟩ (O b)).setCell ⟨N,1,Y⟩ (U m (Z a) o))):=by
       rw[Aa G];refine⟨⟨⟨b,n⟩,U m (Z a) o⟩,rfl,λf h=>pH h,?_,by show Z n<=1000;omega,(KD.setCell (p:=⟨N,0,Y⟩) (lx T) _).setCell (p:=⟨N,1,Y⟩) (lx T) _⟩;have I:=Aa Nx;have h2:=Ah I (Aq (v1:=U m (Z a) o) I F (by decide)) (p:=⟨N,0,Y⟩) (O b);have h3:=F.set 0 (O b);exact Ah h2 (Aq (v1:=U m (Z a) o) h2 h3 (by decide)) (p:=⟨N,1,Y⟩) (U m (Z a) o)
      go_wp2;refine m5 (As rfl (by rfl) ((F.set 0 _).set 1 _) underlying104 rfl (by kernel_rfl)) rfl ?_;exact HS
  .have G:nc (jy s=Y):=by
    show _=_;rw[E]
    match cs,HC with
    |[],_=>rfl
    |[c],h=>simp at h;omega
    |c::d::l,_=>rfl
   (have RE:((Z y:Int) !=1)=jj:=by simp;omega);clear hp E EX A AO EY CW K7 I;go_wp2;refine m5 (As rfl (by rfl) ((j.set 0 _).set 1 _) underlying104 rfl (by kernel_rfl)) rfl ?_;exact LC _ EK G
theorem Om(s:zA)(w:ly)(A0:s.size<=9223372036854775807):
  Calls prog 53 #[O s] w λe Q=>Lu (dW s) w e Q:=by
 obtain⟨N,C⟩:=rd w.heap.size;have F:=Ab C;have u:=Ab ((re [] w).alloc (j1 [O ⟨#[]⟩,U Y 0 0].toArray 104));have n:=Ab (rf w [O ⟨#[]⟩,U Y 0 0] 104);rw[C]at n;have v:w.heap.size<=N:=by omega
 clear C;by_cases H:300<s.size
 .have k:nc (dW s=Y):=by show _=_;unfold dW;rw[mK H]
  go_enter func53,ntmps53;go_wp2;rw[Aa F];refine m5 (As rfl (by rfl) n underlying104 rfl (by kernel_rfl)) rfl ?_;rw[Aa k];exact Lu.none _ _ u
 .have I:=Ab (λwz=>Vb s wz (by omega));have m:nc (dW s=(jy s).bind λp=>if 2<Z p.zC then Y else V p):=by show _=_;unfold dW;rw[mJ H]
  go_enter func53,ntmps53;refine ra (λr i=>?_);go_wp2;refine i _ _ ?_;clear i r;rw[Aa F];change Code.wp _ _ _ _ (w.alloc (j1 [O ⟨#[]⟩,U Y 0 0].toArray 104));generalize w.alloc (j1 [O ⟨#[]⟩,U Y 0 0].toArray 104)=w1 at u n⊢;refine ra (λr i=>?_);go_wp2;refine i _ _ ?_;clear i r;refine ra (λr i=>?_);go_wp2_with fail
  refine(I w1).mono ?_;rintro _ l ⟨⟨⟨d,a⟩,Bx⟩,rfl,z,A,D,y⟩;obtain⟨c,b,e⟩:=Al A;simp only at e D z;subst e;simp only[AM];have g:=Ab ((n.kept y).alloc (j1 [O d,U c (Z a) b].toArray 104));have x:=Ab (rf l [O d,U c (Z a) b] 104);have G:nc (C8 (l.alloc (j1 [O d,U c (Z a) b].toArray 104)) ⟨⟨d,a⟩,U c (Z a) b⟩):=C8.kept A ((re [] l).alloc _);have B:=Ab ((u.trans y).alloc (j1 [O d,U c (Z a) b].toArray 104));have AR:N≠l.heap.size:=by have:=(n.kept y).lt;omega
  have t:=Ab z;clear z A y I u n;go_wp2;refine i _ _ ?_;clear i r;change Code.wp _ _ _ _ (l.alloc (j1 [O d,U c (Z a) b].toArray 104));generalize l.alloc (j1 [O d,U c (Z a) b].toArray 104)=w3 at g x G B⊢;obtain⟨M,P⟩:=rd l.heap.size;rw[P]at x AR⊢;clear P;have c0:=g.cell 0;have c1:=g.cell 1;have z0:=g.frozen 0;have z1:=g.frozen 1;have S:=x.cell 0;have W:=x.cell 1;simp at c0 c1 S W;have L:nc (dW s=Y->Lu (dW s) w (kt (.tuple #[oj [O ⟨#[]⟩,U Y 0 0].toArray,q8 K])) ((w3.setCell ⟨N,0,Y⟩ (O ⟨#[]⟩)).setCell ⟨N,1,Y⟩ (U Y 0 0))):=λh=>by
   rw[h];exact Lu.none _ _ ((B.setCell (p:=⟨N,0,Y⟩) (lx v) _).setCell (p:=⟨N,1,Y⟩) (lx v) _)
  cases hr:jy s with
  |none=>
   (have k:nc (dW s=Y):=by show _=_;rw[Aa m,hr];rfl);simp only[Option.isSome_none];clear hr m t;go_wp2;refine m5 (As rfl (by rfl) ((g.set 0 _).set 1 _) underlying104 rfl (by kernel_rfl)) rfl ?_;exact L k
  |some q=>
   have T:=Aa t q hr;subst T;simp only[Option.isSome_some];by_cases o:2<Z a
   ·(have k:nc (dW s=Y):=by show _=_;rw[Aa m,hr];show(if 2<Z a then Y else _)=Y;rw[mK o]);(have AO:(2:Int)<(Z a:Int):=by omega);clear hr m t;go_wp2;refine m5 (As rfl (by rfl) ((g.set 0 _).set 1 _) underlying104 rfl (by kernel_rfl)) rfl ?_;exact L k
   ·(have k:nc (dW s=V ⟨d,a⟩):=by show _=_;rw[Aa m,hr];show(if 2<Z a then Y else _)=_;rw[mJ o]);(have AO:¬(2:Int)<(Z a:Int):=by omega);have R:nc (Lu (dW s) w (kt (.tuple #[oj [O d,U c (Z a) b].toArray,q8 jj])) ((w3.setCell ⟨N,0,Y⟩ (O d)).setCell ⟨N,1,Y⟩ (U c (Z a) b))):=by
     rw[Aa k];refine⟨⟨⟨d,a⟩,U c (Z a) b⟩,rfl,λf h=>pH h,?_,D,(B.setCell (p:=⟨N,0,Y⟩) (lx v) _).setCell (p:=⟨N,1,Y⟩) (lx v) _⟩;have E:=Aa G;have o:=Ah E (Aq (v1:=U c (Z a) b) E g (by decide)) (p:=⟨N,0,Y⟩) (O d);have h3:=g.set 0 (O d);exact Ah o (Aq (v1:=U c (Z a) b) o h3 (by decide)) (p:=⟨N,1,Y⟩) (U c (Z a) b)
    clear hr m t;go_wp2;refine m5 (As rfl (by rfl) ((g.set 0 _).set 1 _) underlying104 rfl (by kernel_rfl)) rfl ?_;exact R
def Z3(s:zA)(w:ly)(e:Ending)(w':ly):Prop:=∃(p:BP),e=kt (.tuple #[oj (j2 (BL p)),q8 (Il s)])/\p.f=Cs s/\Ev w' p/\(∀q,p.av.ownBlock=V q->w.heap.size<=q)/\Ac [] w w'
theorem bi(s:zA)(w:ly)(M0:s.size<=9223372036854775807):
  Calls prog 26 #[O s] w λe T=>Z3 s w e T:=by
 have K1:nc (∀g,Li s=K->Ac [] w g->Z3 s w (kt (.tuple #[oj [O ⟨#[]⟩,U Y 0 0].toArray,q8 K])) g):=λg hc hk=>⟨⟨gJ,U Y 0 0⟩,by unfold Il;rw[hc];rfl,by unfold Cs;rw[hc];rfl,mS _ _ _ _,λq hq=>by simp[qX]at hq,hk⟩
 have HB:=Ab (rf w [O ⟨#[]⟩,U Y 0 0] 43);have HK:=Ab ((re [] w).alloc (j1 [O ⟨#[]⟩,U Y 0 0].toArray 43));by_cases HV:300<s.size
 .have r:nc (Li s=K):=by show _=_;unfold Li;rw[oS HV];rfl
  go_enter func26,ntmps26;go_wp2;refine m5 (As rfl (by rfl) HB underlying43 rfl (by kernel_rfl)) rfl ?_;exact K1 _ r HK
 .have hs:s.size<=300:=by omega
  have LC:s.size<=1000000:=by omega
  have u:nc (Li s=(!(Ao s 0).2.2&&(!decide ((Ao s 0).2.1<s.size)&&(!decide (0<Z (Ao s 0).1.body)&& !decide (2<Z (Ao s 0).1.head.args))))):=by show _=_;unfold Li;rw[nW HV];rfl
  have D:nc (Li s=jj->Cs s=Av Bl (Ao s 0).1.head):=λh=>by unfold Cs;rw[mK h]
  have L:nc ((Ao s 0).2.2=K->SR (Ao s 0).1):=λh=>DO h
  have G:nc (lz s (Ao s 0).1.head):=OC _ _ _;have HC:nc (∀b g,AI g b (B7 s 0 K) 73->Calls prog 44 #[j3 (V ⟨b,0,Y⟩)] g λe T=>∃(hv bv:ml) (bl:rc Bb),e=kt (oj (j2 (DV (Ao s 0).1 hv bv)))/\oi T g.heap.size 93 2 hv (Z (Ao s 0).1.head.args) ((Ao s 0).1.head.args.flatMap AQ)/\bl.map Prod.fst=(Ao s 0).1.body/\oi T g.heap.size 95 9 bv (Z bl) (DU bl)/\AI T b (B7 s (Ao s 0).2.1 (Ao s 0).2.2) 73/\Ac [b] g T):=λb g hb=>(Rf b s 0 g LC (mO _) hb).mono λe T ⟨hv,bv,bl,o,B,Q,h4,h5,h6,h7⟩=>⟨hv,bv,bl,o,B,Q,h4,h6,h7⟩
  obtain⟨⟨⟨f,d,y⟩,A,BS⟩,a,HO,hR⟩:∃c a HO,Ao s 0=(c,a,HO):=⟨_,_,_,rfl⟩;rw[hR]at u D L G HC;simp only at u D L G HC;clear hR HV;obtain⟨N,hN⟩:=rd w.heap.size;have HN:=Ab hN;have FL:=Ab (rf (w.alloc (j1 [O ⟨#[]⟩,U Y 0 0].toArray 43)) (B7 s 0 K) 73);rw[m9,hN]at FL;have FT:=Ab (HB.alloc (j1 (j2 (B7 s 0 K)) 73));rw[hN]at FT;have HR:=Ab (HK.alloc (j1 (j2 (B7 s 0 K)) 73));have HL:nc (((w.alloc (j1 [O ⟨#[]⟩,U Y 0 0].toArray 43)).alloc (j1 (j2 (B7 s 0 K)) 73)).heap.size=N+2):=by show _=_;simp;omega
  clear hN HB HK;go_enter func26,ntmps26;refine ra (λn j=>?_);go_wp2;refine j _ _ ?_;clear j n;refine ra (λn j=>?_);go_wp2;refine j _ _ ?_;clear j n;refine ra (λn j=>?_);go_wp2;refine j _ _ ?_;clear j n;refine ra (λn j=>?_);go_wp2_with fail
  rw[Aa HN];change Calls _ _ _ ((w.alloc (j1 [O ⟨#[]⟩,U Y 0 0].toArray 43)).alloc (j1 (j2 (B7 s 0 K)) 73)) _;generalize(w.alloc (j1 [O ⟨#[]⟩,U Y 0 0].toArray 43)).alloc (j1 (j2 (B7 s 0 K)) 73)=w2 at FL FT HR HL⊢;refine(HC (N+1) w2 FL).mono ?_;rintro _ w3 ⟨hv,bv,bl,rfl,HX,H6,H8,HG,k3⟩;obtain⟨AH,AB,rfl⟩:=C2 HX;obtain⟨ES,A1,rfl⟩:=C2 H8;have H9:=Ab (FT.kept k3);have LM:nc (Ac [] w w3):=HR.trans' k3 (λq hq=>lx (by simp only[my]at hq;have:=Aa HN;omega));have K5:=Ab (Ak HX (mO _));have HZ:Z bl=Z A:=by rw[<-H6,mI]
  rw[HZ];have f1:=HG.cell 1;have f2:=HG.cell 2;simp[B7]at f1 f2;have K9:=k3.size;rw[Aa HL]at K9;clear HC FL FT HR HL HX H6 H8 HG k3 HZ;simp only[DV];have EX:=Ab ((re [] w3).alloc (j1 [O f,U AH (Z d) AB,X J y,U ES (Z A) A1,X J BS].toArray 82));have z:=Ab (H9.alloc (j1 [O f,U AH (Z d) AB,X J y,U ES (Z A) A1,X J BS].toArray 82));have H:=Ab (rf w3 [O f,U AH (Z d) AB,X J y,U ES (Z A) A1,X J BS] 82);have g1:=EX.cellAt f1;have g2:=EX.cellAt f2;have BA:=Ab (LM.trans EX);have P:=Ab (Ad K5 EX);clear f1 f2 H9 K5 EX;go_wp2;refine j _ _ ?_;clear j n;change Code.wp _ _ _ _ (w3.alloc (j1 [O f,U AH (Z d) AB,X J y,U ES (Z A) A1,X J BS].toArray 82));generalize w3.alloc (j1 [O f,U AH (Z d) AB,X J y,U ES (Z A) A1,X J BS].toArray 82)=w4 at z H g1 g2 BA P⊢;obtain⟨C,hC⟩:=rd w3.heap.size;rw[hC]at H⊢;clear hC;have e1:=H.cell 1;have e3:=H.cell 3;simp at e1 e3;have e0:=H.cell 0;have e2:=H.cell 2;have c0:=z.cell 0;have c1:=z.cell 1;have z0:=z.frozen 0;have z1:=z.frozen 1;simp at e0 e2 c0 c1;have E0:nc (Li s=K->Z3 s w (kt (.tuple #[oj [O ⟨#[]⟩,U Y 0 0].toArray,q8 K])) ((w4.setCell ⟨N,0,Y⟩ (O ⟨#[]⟩)).setCell ⟨N,1,Y⟩ (U Y 0 0))):=λh=>K1 _ h ((BA.setCell (p:=⟨N,0,Y⟩) (lx (by have:=Aa HN;show _<=N;omega)) _).setCell (p:=⟨N,1,Y⟩) (lx (by have:=Aa HN;show _<=N;omega)) _)
  cases HO with
  |true=>
   have r:nc (Li s=K):=u;clear u D L G P;go_wp2;refine m5 (As rfl (by rfl) ((z.set 0 _).set 1 _) underlying43 rfl (by kernel_rfl)) rfl ?_;exact E0 r
  |false=>
   by_cases o:a<s.size
   ·(have r:nc (Li s=K):=by show _=_;rw[Aa u,oS o];rfl);(have MN:(a:Int)<(s.size:Int):=by omega);clear u D L G P;go_wp2;refine m5 (As rfl (by rfl) ((z.set 0 _).set 1 _) underlying43 rfl (by kernel_rfl)) rfl ?_;exact E0 r
   ·(have MN:¬(a:Int)<(s.size:Int):=by omega);by_cases B:0<Z A
    ·(have r:nc (Li s=K):=by show _=_;rw[Aa u,nW o,oS B];rfl);(have MB:(0:Int)<(Z A:Int):=by omega);clear u D L G P;go_wp2;refine m5 (As rfl (by rfl) ((z.set 0 _).set 1 _) underlying43 rfl (by kernel_rfl)) rfl ?_;exact E0 r
    ·(have MB:¬(0:Int)<(Z A:Int):=by omega);by_cases Q:2<Z d
     ·(have r:nc (Li s=K):=by show _=_;rw[Aa u,nW o,nW B,oS Q];rfl);(have LL:(2:Int)<(Z d:Int):=by omega);clear u D L G P;go_wp2;refine m5 (As rfl (by rfl) ((z.set 0 _).set 1 _) underlying43 rfl (by kernel_rfl)) rfl ?_;exact E0 r
     ·(have LL:¬(2:Int)<(Z d:Int):=by omega);(have r:nc (Li s=jj):=by show _=_;rw[Aa u,nW o,nW B,nW Q];rfl);have JJ:=(L rfl).head.args;have A2:=Ab (λg (hk:Ac [] w4 g)=>PH Bl ⟨f,d,y⟩ AH AB g rfl (Ad P hk) (by show Z d<=1000;omega) (λt ht=>by
       rcases JJ t ht with h|h
       .exact lo h.1
       .exact lx ⟨h.1,h.2.1⟩))
      simp only[XH,CS]at A2;have HF:nc (Cs s=Av Bl ⟨f,d,y⟩):=D r;have HT:nc ((∀x∈(Av Bl ⟨f,d,y⟩).args,x.size<=1000000)/\f.size<=1000000):=by
       have hz:=Aa G;refine⟨λx hx=>?_,by have:=hz.1;simp only at this;omega⟩;obtain⟨t,ht,rfl⟩:=mD.1 hx;unfold AP;split
       .have:=hz.2 t ht;omega
       .unfold Bl;rw[mN,List.getElem?_replicate];split<;>exact mO _
      have AR:nc ((Av Bl ⟨f,d,y⟩).name=f/\Z (Av Bl ⟨f,d,y⟩).args=Z d):=⟨rfl,by show Z (d.map _)=_;rw[mI]⟩;have S:=Ab ((re [] w4).alloc (j1 jO 90));have Bx:=Ab (rf w4 (qV 26 (O ⟨#[]⟩)) 90);obtain⟨M,HM⟩:=rd (Av Bl ⟨f,d,y⟩);simp only[HM]at A2;rw[HM]at HF HT AR;clear u D L G JJ E0 P HM;have AT:=Ab (H.kept S);refine ra (λn j=>?_);go_wp2;refine j _ _ ?_;clear j n g1 g2 e0 e1 e2 e3 c0 c1 z0 z1;refine ra (λn j=>?_);go_wp2;refine j _ _ ?_;clear j n;change Code.wp _ _ _ _ (w4.alloc (j1 (j2 (qV 26 (O ⟨#[]⟩))) 90));change nc (Ac [] w4 (w4.alloc (j1 (j2 (qV 26 (O ⟨#[]⟩))) 90)))at S;change nc (AI (w4.alloc (j1 (j2 (qV 26 (O ⟨#[]⟩))) 90)) C _ 82)at AT;generalize w4.alloc (j1 (j2 (qV 26 (O ⟨#[]⟩))) 90)=w5 at S Bx AT⊢;obtain⟨E,hE⟩:=rd w4.heap.size;rw[hE]at Bx⊢;clear hE;obtain⟨EM,FC⟩:∃EM:rc ml,qV 26 (O ⟨#[]⟩)=EM:=⟨_,rfl⟩;(have KS:Z EM=26:=by rw[<-FC];rfl);(have HY:(prog.info? 90).map (·.size)=V (Z EM):=by rw[KS];exact Tryz.zJ);rw[FC]at Bx;simp only[FC]at A2;clear FC;have e0:=AT.cell 0;have e1:=AT.cell 1;have e2:=AT.cell 2;simp at e0 e1 e2;refine ra (λn j=>?_);go_wp2_with ((with_reducible show wpList _ _ _ ({dst:=_,op:=Op.load 90 _,type:=_,pos:=_,after:=_,guard:=_}::_) _ _);refine oL rfl 90 _ rfl E 0 (by rfl) EM _ Bx.range underlying90 rfl HY ?_)
      refine(A2 _ S).mono ?_;rintro _ R ⟨l,m,rfl,IA,H7,k6⟩;have HJ:Ac [] w4 R:=S.trans k6;have H2:=Ab IA;have MY:nc (∀q,(U l (Z d) m).ownBlock=V q->w.heap.size<=q):=λq hq=>by
       have o:=H7 q hq;have B:=BA.size;have Q:=S.size;omega
      have H4:=Ab (z.kept HJ);have Mo:=Ab (BA.trans HJ);clear A2 IA H7 k6 HJ e0 e1 e2 S z BA AT Bx HY KS H;simp only[BL,(Aa AR).1];have HW:=Ab (λg (hk:Ac [] R g)=>Ol ⟨M,U l (Z d) m⟩ g (H2.kept hk) (by show Z M.args<=1000;have:=AR.2;omega) HT.1 (by show M.name.size<=_;rw[(Aa AR).1];exact HT.2));simp only[BL,(Aa AR).1]at HW;have IJ:=Ab (H4.alloc (j1 [O f,U l (Z d) m].toArray 43));have FP:=Ab (rf R [O f,U l (Z d) m] 43);have Ha:=Ab ((re [] R).alloc (j1 [O f,U l (Z d) m].toArray 43));go_wp2;refine j _ _ ?_;clear j n;change Code.wp _ _ _ _ (R.alloc (j1 [O f,U l (Z d) m].toArray 43));generalize R.alloc (j1 [O f,U l (Z d) m].toArray 43)=w7 at IJ FP Ha⊢;obtain⟨F,hF⟩:=rd R.heap.size;rw[hF]at FP⊢;(have Jx:N≠F:=by have:=H4.lt;omega);clear hF;have EK:nc (∀g,AI g F [O f,U l (Z d) m] 43->oa g ⟨F,0,Y⟩=V (O f)/\oa g ⟨F,1,Y⟩=V (U l (Z d) m)):=by
       intro g hb;have h0:=hb.cell 0;have o:=hb.cell 1;simp at h0 o;exact⟨h0,o⟩
      obtain⟨TX,HQ⟩:=rd (Bv M);simp only[HQ]at HW;(have LB:nc (Il s=(TX.toList==s.toList)):=by show _=_;unfold Il;rw[Aa r,Aa HF,HQ,oy]);clear HQ;refine ra (λn j=>?_);have HS:=Ab (EK w7.drew FP);refine CA 7 (λg=>oa g ⟨F,0,Y⟩=V (O f)/\oa g ⟨F,1,Y⟩=V (U l (Z d) m)) (by kernel_rfl) ?_;refine Cz.tqH (i:=0) (v:=oj #[O f,U l (Z d) m]) rfl (λ_ _ _ h=>h) HS ?_;simp only[qY,mq,mr,mt];refine Cz.tqH (i:=1) (v:=oj #[O f,U l (Z d) m]) rfl (λ_ _ _ h=>h) HS ?_;simp only[qY,mq,mr,mt];refine Cz.tqH (i:=3) (v:=O s) rfl (λ_ _ _ h=>h) HS ?_;simp only[qY,mq,mr,mt];refine Cz.one (i:=2) (by kernel_rfl) rfl (λDT I=>?_)
      go_simp
      refine(HW _ (Ha.trans (re [] w7).drew)).mono ?_;rintro _ w8 ⟨rfl,LD⟩;have k8:Ac [] w7 w8:=(re [] w7).drew.trans LD;have HI:=FP.kept k8;have W:=IJ.kept k8;refine I.out _ _ (λ_=>EK _ HI) ?_;clear I DT
      try simp only[qY,mq,mr,mt]
      have L0:=Ab (EK _ HI);refine Cz.tqH (i:=4) (v:=q8 (TX.toList==s.toList)) rfl (λ_ _ _ h=>h) L0 ?_;simp only[qY,mq,mr,mt];have c0:=W.cell 0;have c1:=W.cell 1;have z0:=W.frozen 0;have z1:=W.frozen 1;simp at c0 c1;refine Cz.one (i:=5) (by kernel_rfl) rfl (λDT I=>?_)
      go_simp
      have IS:=(HI.zB ⟨N,0,Y⟩ Jx (O f)).zB ⟨N,1,Y⟩ Jx (U l (Z d) m);refine I.out _ _ (λ_=>EK _ IS) ?_;clear I DT
      try simp only[qY,mq,mr,mt]
      refine Cz.one (i:=6) (by kernel_rfl) rfl (λDT I=>?_)
      go_simp
      refine I.out _ _ (λ_=>EK _ IS) ?_;clear I DT;refine Cz.done (by kernel_rfl) ?_ _
      try simp only[qY,mq,mr,mt]
      refine j _ _ ?_;clear j n;refine wp_ret ?_;refine m5 (As rfl (by rfl) ((W.set 0 _).set 1 _) underlying43 rfl (by kernel_rfl)) rfl ?_;(have K3:w.heap.size<=N:=by have:=Aa HN;omega);have LS:=(((Mo.trans Ha).trans k8).setCell (p:=⟨N,0,Y⟩) (lx K3) (O f)).setCell (p:=⟨N,1,Y⟩) (lx K3) (U l (Z d) m);refine⟨⟨M,U l (Z d) m⟩,?_,HF.symm,?_,MY,LS⟩
      .rw[Aa LB];simp only[BL,(Aa AR).1];rfl
      .have o:Ev w8 ⟨M,U l (Z d) m⟩:=(H2.kept Ha).kept k8;have B:=Ah o (Aq (v1:=U l (Z d) m) o W (by decide)) (p:=⟨N,0,Y⟩) (O f);have Q:=W.set 0 (O f);exact Ah B (Aq (v1:=U l (Z d) m) B Q (by decide)) (p:=⟨N,1,Y⟩) (U l (Z d) m)
def Lz(x:zA):AJ:=⟨0,x⟩
def V6(f:Af):Dr:=⟨f.name,f.args.map Lz,0⟩
def Gq(f:Af)(c:AV):Prop:=c.head=V6 f/\c.bl=[]/\c.at_=0
structure Dk(cs:rc AV)(f:Af):Prop where
 canon:AL f
 name:A8 f.name
 ne:f.args≠[]
 two:Z f.args<=2
 ar:BQ cs f.name=(Z f.args:Int)
 zC:∀x∈f.args,x∈Bj cs
def dk{a:rc AV}(h:BY a):Z (EO a)<=6:=by
 cases a with
 |nil=>exact mO _
 |cons c l=>
  have b:=(Fd (h.each (Z l) (by simp))).2.2.2.1;rw[mz (by simp)]at b;exact b
def cX{a:rc AV}(h:s∈consts a):s∈Bj a:=by
 rw[(Fc a).mem,(C9 _).2];unfold consts at h;obtain⟨c,f,g⟩:=m6.1 h;obtain⟨t,e,rfl⟩:=mD.1 g;obtain⟨d,b⟩:=mT.1 e;refine m6.2 ⟨c,f,mD.2 ⟨t,mT.2 ⟨?_,b⟩,rfl⟩⟩;unfold E5;exact nS _ d
def Rm{b:rc AV}(h:BQ b s≠-1):s∈EO b:=by
 unfold BQ at h;cases hf:b.findSome? (Gm · s)with
 |none=>rw[hf]at h;exact absurd rfl h
 |some n=>
  obtain⟨c,i,e⟩:=List.exists_of_findSome?_eq_some hf;rw[N5,(C9 _).2];refine m6.2 ⟨c,i,?_⟩;unfold Gm at e;unfold Ht;by_cases f:(c.head.name.toList==s.toList)=jj
  .rw[GG f];exact nK ..
  .rw[mJ f]at e;unfold S3 at e;obtain⟨p,g,d⟩:=List.exists_of_findSome?_eq_some e;by_cases a:(MP p&&(p.1.A.name.toList==s.toList))=jj
   .rw[mV]at a;exact no _ (mD.2 ⟨p,mT.2 ⟨g,a.1⟩,GG a.2⟩)
   .rw[mJ a]at d;cases d
def Tw(cs:rc AV):rc Af:=(EO cs).flatMap λn=>(EA (Bj cs) 0++EA (Bj cs) 1++EA (Bj cs) 2).map (Af.mk n)
def XK(h:BY c):Z (Tw c)<=258:=by
 have b:=KY h;have f:=dk h;have d:Z (EA (Bj c) 0++EA (Bj c) 1++EA (Bj c) 2)<=43:=by
  simp only[mM,KH];have e:Z (Bj c)^2<=6^2:=Nat.pow_le_pow_left b 2;simp only[Nat.pow_zero,Nat.pow_one];omega
 unfold Tw;have a:∀l:rc zA,Z (l.flatMap λn=>(EA (Bj c) 0++EA (Bj c) 1++EA (Bj c) 2).map (Af.mk n))<=Z l*43:=by
  intro l
  induction l with
  |nil=>simp
  |cons x l ih=>
   rw[mX,mM,mI,mL,oZ];omega
 have:=a (EO c);omega
def XV{f:Af}(g:f.name∈EO c)(b:Z f.args<=2)(e:∀x∈f.args,x∈Bj c):f∈Tw c:=by
 unfold Tw;refine m6.2 ⟨f.name,g,mD.2 ⟨f.args,?_,rfl⟩⟩;have a:=Ms (Bj c) f.args e;obtain⟨n,d⟩:=rd (Z f.args);rw[d]at a b
 match n,b,a with
 |0,_,a=>exact nS _ (nS _ a)
 |1,_,a=>exact nS _ (List.mem_append_right _ a)
 |2,_,a=>exact List.mem_append_right _ a
def Dk.pool{f:Af}(h:Dk c f):f∈Tw c:=XV (Rm (by rw[h.ar];omega)) h.two h.zC
def Yq(h:BY c){u:rc Af}(b:u.Nodup)(a:∀f∈u,Dk c f):Z u<=258:=by
 have:=IE u (Tw c) b λf d=>(a f d).pool
 have:=XK h;omega
def IB{f:Af}{c:AV}(h:Gq f c):An c=[]:=by unfold An;rw[h.2.1];rfl
def PA{a b:rc AV}(h:∀c∈b,c.bl=[]):∀(d:Nat) (x:zA),B3 (a++b) d x=B3 a d x
 |0,x=>rfl
 |d+1,x=>by
  have ih:B3 (a++b) d=B3 a d:=funext (PA h d);show(a++b).foldl (Jq (B3 (a++b) d) x) 0=a.foldl (Jq (B3 a d) x) 0;rw[ih,nH];generalize a.foldl (Jq (B3 a d) x) 0=n
  induction b generalizing n with
  |nil=>rfl
  |cons c b ih2=>
   have e:Jq (B3 a d) x n c=n:=by
    unfold Jq;rw[h c (by simp)];unfold JF;simp
   rw[nh,e];exact ih2 (λc e=>h c (by simp[e])) (funext λy=>by
    exact PA (λc e=>h c (by simp[e])) d y) n
def W9{f e:rc AV}(h:∀c∈e,c.bl=[]){L:zA->Nat}(i:CG f L):CG (f++e) L:=by
 have g:∀c∈e,An c=[]:=λc a=>by unfold An;rw[h c a];rfl
 refine⟨λc a x b d=>?_,λc a x b d=>?_⟩<;>rcases mF.1 a with a|a
 .exact i.pos c a x b d
 .rw[g c a]at b;cases b
 .exact i.neg c a x b d
 .rw[g c a]at b;cases b
def Ia{i m:rc AV}{u:rc Af}(B:BY i)(o:Cn i)(F:F2 Gq u m)(r:∀f∈u,Dk i f)(hl:Z u<=900):Cn (i++m):=by
 have z:∀c∈m,c.bl=[]:=λc a=>by obtain⟨f,_,h⟩:=F.mem c a;exact h.2.1
 have C:∀c∈m,An c=[]:=λc a=>by unfold An;rw[z c a];rfl
 have q:∀c∈m,∃f∈u,c.head=V6 f:=λc a=>by obtain⟨f,k,h⟩:=F.mem c a;exact⟨f,k,h.1⟩
 have w:∀c∈i++m,BQ i c.head.name=(Z c.head.args:Int):=by
  intro c a;rcases mF.1 a with a|a
  .exact B.zg c a
  .obtain⟨f,k,e⟩:=q c a;rw[e];show BQ i f.name=(Z (f.args.map Lz):Int);rw[mI];exact(r f k).ar
 have G:=B.small;have S:B3 (i++m) 6=B3 i 6:=funext (PA z 6);have Q:∀x:zA,BQ i x≠-1->BQ (i++m) x=BQ i x:=by
  intro x b;unfold BQ at b⊢;rw[qj];cases hq:i.findSome? (Gm · x)with
  |none=>rw[hq]at b;exact absurd rfl b
  |some n=>rfl
 have N:Z (Bj (i++m))<=6:=by
  have L:=KY B;rw[(Fc _).len]at L⊢;refine nD (M8 _ (jz (i.flatMap JB)) (C9 _).1 (λy l=>?_)) L;rw[(C9 _).2]at l⊢;obtain⟨c,a,l⟩:=m6.1 l;rcases mF.1 a with a|a
  .exact m6.2 ⟨c,a,l⟩
  .obtain⟨f,k,e⟩:=q c a;unfold JB E5 at l;rw[z c a,e]at l;obtain⟨t,j,rfl⟩:=mD.1 l;have j:=(mT.1 j).1;rw[nP,np]at j;obtain⟨x,b,rfl⟩:=mD.1 j;have:=(r f k).zC x b;rw[(Fc _).mem,(C9 _).2]at this;exact this
 refine⟨⟨⟨?_,λc a=>?_⟩,λs R I=>?_,λc a d v e=>?_,λc a d v x b A e=>?_,λc a=>by rw[Q _ (by rw[w c a];omega)];exact w c a,N⟩,⟨⟨λc a x b A=>?_,λc a x b A=>?_,λc a t j=>?_⟩,?_,λc a t j M=>?_⟩,λc a x b=>?_,λc a=>?_⟩
 .rw[mM,<-F.lenX];have:=G.1;omega
 .rcases mF.1 a with a|a
  .exact G.2 c a
  .obtain⟨f,k,e⟩:=q c a;rw[z c a,e];refine⟨by simp,?_,λp o=>by cases o⟩;show Z (f.args.map Lz)<=2;rw[mI];exact(r f k).two
 .have D:=IE s (Tw i) R λf k=>by
   obtain⟨c,a,T,P⟩:=(I f k).zd;have W:f.name∈EO i:=Rm (by rw[T,w c a];omega);refine XV W ?_ λx b=>?_
   .rw[P];rcases mF.1 a with a|a
    .exact(G.2 c a).2.1
    .obtain⟨g,E,e⟩:=q c a;rw[e];show Z (g.args.map Lz)<=2;rw[mI];exact(r g E).two
   .have b:=(I f k).args x b;unfold consts at b;obtain⟨c,a,H⟩:=m6.1 b;rcases mF.1 a with a|a
    .refine cX ?_;unfold consts;exact m6.2 ⟨c,a,H⟩
    .obtain⟨g,E,e⟩:=q c a;rw[e]at H;obtain⟨t,j,rfl⟩:=mD.1 H;obtain⟨y,l,rfl⟩:=mD.1 (mT.1 j).1;exact(r g E).zC y l
  have:=XK B;omega
 .have D:=w c a;rw[e,w d v]at D;omega
 .rcases mF.1 v with v|v
  .have D:=w c a;rw[e,B.yS d v x b A]at D;omega
  .rw[C d v]at b;cases b
 .rcases mF.1 a with a|a
  .exact o.prog.zM.args c a x b A
  .rw[C c a]at b;cases b
 .rcases mF.1 a with a|a
  .exact o.prog.zM.safe c a x b A
  .rw[C c a]at b;cases b
 .rcases mF.1 a with a|a
  .exact o.prog.zM.head c a t j
  .obtain⟨f,k,e⟩:=q c a;rw[e]at j;obtain⟨y,l,rfl⟩:=mD.1 j;exact lo rfl
 .rw[S];exact W9 z o.prog.lay
 .rcases mF.1 a with a|a
  .exact o.prog.zN c a t j M
  .obtain⟨f,k,e⟩:=q c a;rw[e]at j;obtain⟨y,l,rfl⟩:=mD.1 j;exact(r f k).canon y l
 .rcases mF.1 a with a|a
  .exact o.lits c a x b
  .rw[C c a]at b;cases b
 .rcases mF.1 a with a|a
  .exact o.zN c a
  .obtain⟨f,k,e⟩:=q c a;rw[e];refine⟨(r f k).name,λt j=>?_⟩;obtain⟨y,l,rfl⟩:=mD.1 j;exact lo ⟨rfl,(r f k).canon y l⟩
theorem dw(h:Option Addr)(f:Nat)(l:rc zA)(x:zA)(m:Nat)(w:ly)(i:oi w m 170 1 (U h (Z l) f) (Z l) (l.flatMap Ai))(s:Z l<=1000000)(j:C6 Hx l):
  Calls prog 102 #[U h (Z l) f,O x] w λe k=>e=kt (q8 (JG l x))/\k=w:=by
 have o:=Ab (Pg (U h (Z l) f) l 0 x m w i s (mO _) j);have t:=Ab j;have u:=Ab i;clear i j;go_enter func102,ntmps102;go_wp2_with fail
 refine o.mono ?_;rintro e k ⟨b,rfl,c,rfl⟩;have q:=Ab (c.inS t);have y:=c.le;clear o c;by_cases a:b<Z l
 .obtain⟨g,v,p,z,n⟩:=AC u (by simp[Ai]) b a;simp only[mu]at p;obtain⟨rfl,_,rfl⟩:=p;have r:=n b a 0 (by omega);simp[Ai]at r;clear n;have d:nc (JG l x=jF l[b] x):=by show _=_;rw[<-Aa q];unfold EQ;rw[dif_pos a]
  go_wp2;go_ret;rw[d.out];exact⟨rfl,rfl⟩
 .have d:nc (JG l x=K):=by show _=_;rw[<-Aa q];unfold EQ;rw[dif_neg a]
  go_wp2;go_ret;rw[d.out];exact⟨rfl,rfl⟩
def fO:C6 Hx ([]:rc zA):=by
 intro i j a
 first|exact absurd a (by simp)|simp at a|(intro;simp_all)
def Pa(pcs:rc CU)(w:World)(e:Ending)(w':World):Prop:=∃(l:rc zA) (ad:Option Addr) (cp:Nat),e=.returned (.slice ad l.length cp)/\w'.ownsRow 0 170 1 (.slice ad l.length cp) l.length (l.flatMap Ai)/\l.length<=900000/\C6 Hx l/\(∀y,y∈l↔y∈pcs.flatMap C5)/\Ac [] w w'
theorem Vx(AR:Option Addr)(AO:Nat)(a:rc CU)(w:ly)(h:CE w (U AR (Z a) AO) a)(FC:Z a<=12)(T:∀c∈a,Lo c/\Z (Bn c)<=70000):
  Calls prog 101 #[U AR (Z a) AO] w (Pa a w):=by
 have HP:=Ab h;have BT:=Ab T;obtain⟨N,hN⟩:=rd w.heap.size;have W:=Ab hN;clear h T hN;go_enter func101,ntmps101;go_wp2_with fail
 go_loopg [3,8] (Z a) (λgk lv i wr=>∃(k:Nat) (l:rc zA) (f:Option Addr) (j:Nat),lv=U f (Z l) j/\i=X J k/\k<=Z a/\gk=Z a-k/\nc (oi wr N 170 1 (U f (Z l) j) (Z l) (l.flatMap Ai))/\nc (Z l<=k*70000)/\nc (C6 Hx l)/\nc (∀y,y∈l↔y∈(a.take k).flatMap C5)/\nc (Ac [] w wr))
 case atStart=>exact⟨0,[],Y,0,rfl,rfl,by omega,rfl,mS _ _ _ _,by show _<=_;simp,fO,λy=>by simp,re _ _⟩
 case round=>
  obtain⟨k,l,f,j,rfl,rfl,hk,R,B,E,I,H,q⟩:=hrel;have HG:=Ab R;clear R;have EX:Z l<=840000:=by have:=Aa E;omega
  by_cases C:k<Z a
  ·(have FL:(k:Int)<(Z a:Int):=by omega);(have FA:(0:Int)<=(k:Int):=by omega);obtain⟨g,FB,o,r,b,p,n,m,u,d,he,P,e0,e1,e2,e3⟩:=FE (HP.kept q) k C;have M:=(HP.kept q).each _ (mw C);have L:=Aa BT _ (mw C);rw[P]at M L;simp only[mu]at he;obtain⟨rfl,-,rfl⟩:=he;have S:nc (Calls prog 148 #[U f (Z l) j,oj #[X J o,O r,U p (Z b) n,U m (Z d) u]] (wr.alloc (j1 #[X J o,O r,U p (Z b) n,U m (Z d) u] 189)) λe w'=>∃z F G,e=kt (U F (Z z) G)/\I1 N (U f (Z l) j) l (Bn ⟨o,r,b,U p (Z b) n,U m (Z d) u,d⟩) (wr.alloc (j1 #[X J o,O r,U p (Z b) n,U m (Z d) u] 189)) z F G w'):=MJ ⟨o,r,b,U p (Z b) n,U m (Z d) u,d⟩ f j l N _ (M.kept ((re [] wr).alloc _)) L.1 (by omega) (Ad (Aa B) ((re [] wr).alloc _)) (by omega) I (by have:=q.size;have:=Aa W;simp;omega);have Q:nc (∀y,y∈(a.take (k+1)).flatMap C5↔y∈(a.take k).flatMap C5\/∃t∈Bn ⟨o,r,b,U p (Z b) n,U m (Z d) u,d⟩,t.v=0/\t.s=y):=by
    intro y;rw[mx C,mY,mF,P];simp only[mX,nP,np];refine or_congr Iff.rfl ?_;unfold C5;constructor
    .intro h;obtain⟨t,ht,rfl⟩:=mD.1 h;obtain⟨A,D⟩:=mT.1 ht;exact⟨t,A,by simpa using D,rfl⟩
    .rintro ⟨t,A,D,rfl⟩;exact mD.2 ⟨t,mT.2 ⟨A,by simpa using D⟩,rfl⟩
   have AT:=Ab L.2;have Ax:=Ab (q.alloc (j1 #[X J o,O r,U p (Z b) n,U m (Z d) u] 189));clear M L P;(go_wp2_with fail);refine S.mono ?_;rintro _ w3 ⟨z,F,G,rfl,x⟩;have B9:=Ab x.own;have B2:=Ab x.zG;(have A2:nc (Z z<=(k+1)*70000):=by have A:=x.le;have D:=Aa E;have h3:=Aa AT;show _<=_;omega);have CL:nc (∀y,y∈z↔y∈(a.take (k+1)).flatMap C5):=by
    intro y;rw[x.mem y,Q y,H y];exact Or.comm
   have ES:=Ab (Ax.trans' x.kept (λi hi=>by
    simp only[oK]at hi
    have A:=(World.ownsRow.lt (Aa B) i hi).1
    have:=Aa W
    exact lx (by omega)))
   clear S x B E I H q Q AT Ax e0 e1 e2 e3;go_wp2_with fail
   go_roundg (Z a-(k+1))
   case measure=>have:=Aa HG;omega
   case rel=>exact⟨k+1,z,F,G,rfl,by go_num,by omega,rfl,B9,A2,B2,CL,ES⟩
  ·(obtain rfl:k=Z a:=by omega);have CW:nc (Pa a w (kt (U f (Z l) j)) wr):=⟨l,f,j,rfl,Ak (Aa B) (mO _),by omega,I,λy=>by have h:=Aa H y;rw[nR]at h;exact h,q⟩;clear B E I H q;(go_wp2_with fail);go_ret;exact CW
def Xg(pcs:rc CU)(s:zA):Int:=match dW s with
 |none=>2
 |some p=>if iq pcs p.name=V (Z p.zC) then(if p.zC.all (JG (pcs.flatMap C5))=jj then 0 else 7)else 4
def Lk(pcs:rc CU)(s:zA)(w:ly)(e:Ending)(w':ly):Prop:=∃x:Eb,e=kt (.tuple #[oj (j2 (AM x)),X J (Xg pcs s)])/\(Xg pcs s=0->dW s=V x.f)/\C8 w' x/\Z x.f.zC<=1000/\Ac [] w w'
theorem LA(L:Option Addr)(H:Nat)(b:rc CU)(s:zA)(w:ly)(h:CE w (U L (Z b) H) b)(HY:Z b<=12)(hf:∀c∈b,Lo c/\Z (Bn c)<=70000)(HA:∀c∈b,Z c.zD<=1000)(H2:s.size<=9223372036854775807):
  Calls prog 59 #[U L (Z b) H,O s] w (Lk b s w):=by
 have HM:=Ab ((re [] w).alloc (j1 [O ⟨#[]⟩,U Y 0 0].toArray 104));have HH:=Ab (rf w [O ⟨#[]⟩,U Y 0 0] 104);have HN:=Ab (Om s (w.alloc (j1 [O ⟨#[]⟩,U Y 0 0].toArray 104)) H2);have FT:nc (∀x g,Ac [] w g->Calls prog 100 #[O x,U L (Z b) H] g λe w'=>e=kt (BJ ((iq b x).map fun(n:Nat)=>(n:Int)))/\Ac [] g w'):=λx g q=>P8 x L H b g (h.kept q) HA (by omega)
 have E0:nc (∀g,Ac [] w g->Calls prog 101 #[U L (Z b) H] g (Pa b g)):=λg q=>Vx L H b g (h.kept q) HY hf
 clear h hf HA;go_enter func59,ntmps59;go_wp2_with fail
 refine HN.mono ?_;rintro _ E ⟨⟨⟨d,a⟩,xv⟩,rfl,BS,HD,FL,k3⟩;obtain⟨j,k,e⟩:=Al HD;simp only at e BS FL;subst e;simp only[AM];have EK:=Ab BS;have Ax:=Ab HD;have o:=Ab (HH.kept k3);have B9:=Ab (HM.trans k3);clear HN BS k3 HH HM;have EX:nc ((U j (Z a) k).ownBlock≠V w.heap.size):=Aq (Aa Ax) (Aa o) (by decide);have AR:=Ab (rf E [O d,U j (Z a) k] 104);have B2:=Ab (o.alloc (j1 [O d,U j (Z a) k].toArray 104));have CW:=Ab (B9.alloc (j1 [O d,U j (Z a) k].toArray 104));have HO:w.heap.size<E.heap.size:=o.lt;obtain⟨R,hR⟩:=rd w.heap.size;rw[hR]at o B2 HO EX⊢;have D:nc (w.heap.size<=R):=by show _<=_;omega
 have A2:nc (∀B (r:Int),r=Xg b s->r≠0->Ac [] w B->Lk b s w (kt (.tuple #[oj #[O ⟨#[]⟩,U Y 0 0],X J r])) B):=λB r e h0 q=>⟨⟨⟨⟨#[]⟩,[]⟩,U Y 0 0⟩,by rw[e];rfl,λh=>absurd (e.trans h) h0,mS _ _ _ _,mO _,q⟩
 have HW:nc (∀B,(0:Int)=Xg b s->dW s=V ⟨d,a⟩->Ac [] w B->Ac [R] E B->Lk b s w (kt (.tuple #[oj #[O d,U j (Z a) k],X J 0])) B):=λB e HZ q H1=>⟨⟨⟨d,a⟩,U j (Z a) k⟩,by rw[<-e];rfl,λ_=>HZ,Ag (Aa Ax) H1 (λi hi hm=>by
   simp at hm
   subst hm
   exact Aa EX hi),FL,q⟩
 have y:=o.cell 0;have A:=o.cell 1;have P:=o.frozen 0;have M:=o.frozen 1;simp at y A;obtain⟨LD,CC⟩:=rd (dW s);rw[CC]at EK⊢;cases LD with
 |none=>
  simp only[Option.isSome_none];have u:nc (Lk b s w (kt (.tuple #[oj #[O ⟨#[]⟩,U Y 0 0],X J 2])) (((E.setCell ⟨R,0,Y⟩ (O ⟨#[]⟩)).setCell ⟨R,1,Y⟩ (U Y 0 0)).alloc (j1 #[O d,U j (Z a) k] 104))):=A2 _ 2 (by unfold Xg;rw[CC]) (by decide) (((B9.setCell (p:=⟨R,0,Y⟩) (lx (Aa D)) _).setCell (p:=⟨R,1,Y⟩) (lx (Aa D)) _).alloc _);go_wp2_with fail
  refine m5 (As rfl (by rfl) ((((Aa o).set 0 _).set 1 _).alloc _) underlying104 rfl (by kernel_rfl)) rfl ?_;exact u
 |some p=>
  obtain rfl:(⟨d,a⟩:CJ)=p:=EK p rfl;simp only[Option.isSome_some];clear y A P M;have Bx:=Ab CC;have FB:=Ab ((re [R] E).alloc (j1 [O d,U j (Z a) k].toArray 104));have EY:=Ab (C8.kept (Aa Ax) ((re [] E).alloc (j1 [O d,U j (Z a) k].toArray 104)));have z:=AR.cell 0;have m:=AR.cell 1;simp at z m;have AB:=Ab (FT d _ CW);go_wp2_with fail
  refine AB.mono ?_;rintro _ w5 ⟨rfl,F⟩;have Jx:=Ab F;have AH:=Ab (CW.trans F);have HR:=Ab (FB.trans' F (by simp));have C:=Ab ((Aa B2).kept F);have HS:=Ab (C8.kept (Aa EY) F);have N:=Ab ((Aa AR).kept F);clear z m AB F FT FB B2 EY AR CW Ax o B9;have z:=N.cell 0;have m:=N.cell 1;have y:=C.cell 0;have A:=C.cell 1;have P:=C.frozen 0;have M:=C.frozen 1;simp at z m y A;have Q:nc (iq b d≠V (Z a)->Lk b s w (kt (.tuple #[oj #[O ⟨#[]⟩,U Y 0 0],X J 4])) ((w5.setCell ⟨R,0,Y⟩ (O ⟨#[]⟩)).setCell ⟨R,1,Y⟩ (U Y 0 0))):=λT=>A2 _ 4 (by unfold Xg;rw[Aa Bx];show(4:Int)=if iq b d=V (Z a) then _ else 4;rw[mJ T]) (by decide) ((AH.setCell (p:=⟨R,0,Y⟩) (lx (Aa D)) _).setCell (p:=⟨R,1,Y⟩) (lx (Aa D)) _)
  obtain⟨Ha,hX⟩:=rd E.heap.size;rw[hX]at z m N HO⊢;clear hX;cases hav:iq b d with
  |none=>
   have u:=Ab (Q (by rw[hav];simp));simp only[BJ,Option.map_none];clear Q;(go_wp2_with fail);refine m5 (As rfl (by rfl) (((Aa C).set 0 _).set 1 _) underlying104 rfl (by kernel_rfl)) rfl ?_;exact u
  |some n=>
   simp only[BJ,ox];by_cases hn:n=Z a
   .subst hn;(have T:((Z a:Int) !=(Z a:Int))=K:=by simp);clear Q y A P M;have HB:=Ab (E0 w5 AH);(go_wp2_with fail);refine HB.mono ?_;rintro _ w6 ⟨TH,HK,FP,rfl,FC,S,FF,FA,I⟩;have IA:=Ab FC;have H7:=Ab FF;have HP:=Ab (AH.trans I);have H4:=Ab (HR.trans' I (by simp));have H0:=Ab ((Aa C).kept I);have H3:=Ab (C8.kept (Aa HS) I);have HF:=Ab ((Aa N).kept I);have HU:nc (∀x g,Ac [] w6 g->Calls prog 102 #[U HK (Z TH) FP,O x] g λe w'=>e=kt (q8 (JG (b.flatMap C5) x))/\w'=g):=λx g q=>by
     have h:=dw HK FP TH x 0 g (Ad (Aa IA) q) (by omega) H7;have e:JG TH x=JG (b.flatMap C5) x:=by
      rw[nT,He,He];exact FA x
     rw[e]at h;exact h
    have DT:nc (∀r:Int,(r=if a.all (JG (b.flatMap C5))=jj then 0 else 7)->r=Xg b s):=by
     intro r hr;unfold Xg;rw[Aa Bx];show r=if iq b d=V (Z a) then _ else 4;rw[mK hav];exact hr
    generalize b.flatMap C5=PT at HU DT;clear HB FC FF FA I AH HR C HS N z m T E0;have m:=HF.cell 1;simp at m;go_wp2_with fail
    go_loopg [43] (Z a) (λgk i wq=>∃(t:Nat),i=X J t/\t<=Z a/\gk=Z a-t/\nc ((a.take t).all (JG PT)=jj)/\nc (Ac [] w6 wq))
    case atStart=>exact⟨0,rfl,by omega,rfl,by show _=_;simp,re _ _⟩
    case round=>
     clear m;obtain⟨t,rfl,ht,HJ,A0,v⟩:=hrel;have HG:=Ab HJ;clear HJ;have G:=Ab ((Aa H0).kept v);have y:=G.cell 0;have A:=G.cell 1;have P:=G.frozen 0;have M:=G.frozen 1;simp at y A;by_cases S:t<Z a
     ·(have KS:(t:Int)<(Z a:Int):=by omega);(have KD:(0:Int)<=(t:Int):=by omega);obtain⟨ga,JJ,HI,_,EM⟩:=AC (f:=Ai) (l:=a) (C8.kept (Aa H3) v) (λ_ _=>rfl) t S;have a0:=EM t S 0 (by omega);simp only[mu]at HI;obtain⟨rfl,-,rfl⟩:=HI;simp[Ai]at a0;have DG:nc (JG PT a[t]=jj->(a.take (t+1)).all (JG PT)=jj):=λh=>by
       show(a.take (t+1)).all (JG PT)=jj;rw[mx S,List.all_append,Aa A0];simpa using h
      (have AT:nc (JG PT a[t]=K->a.all (JG PT)=K):=λh=>List.all_eq_false.2 ⟨a[t],mw S,by rw[h];simp⟩);obtain⟨W,hY⟩:=rd (a[t]);rw[hY]at a0 DG AT;clear hY EM;(go_wp2_with fail);refine(HU W wr v).mono ?_;rintro _ w7 ⟨rfl,H9⟩;subst H9;cases hb:JG PT W with
      |true=>
       have AB:=Ab (DG hb);clear DG AT a0 y A P M;go_wp2_with fail
       go_roundg (Z a-(t+1))
       case measure=>have:=Aa HG;omega
       case rel=>exact⟨t+1,by go_num,by omega,rfl,AB,v⟩
      |false=>
       have u:nc (Lk b s w (kt (.tuple #[oj #[O ⟨#[]⟩,U Y 0 0],X J 7])) ((w7.setCell ⟨R,0,Y⟩ (O ⟨#[]⟩)).setCell ⟨R,1,Y⟩ (U Y 0 0))):=A2 _ 7 (DT 7 (by rw[Aa AT hb];rfl)) (by decide) (((HP.trans v).setCell (p:=⟨R,0,Y⟩) (lx (Aa D)) _).setCell (p:=⟨R,1,Y⟩) (lx (Aa D)) _);clear DG AT a0 A0 HG;(go_wp2_with fail);refine m5 (As rfl (by rfl) (((Aa G).set 0 _).set 1 _) underlying104 rfl (by kernel_rfl)) rfl ?_;exact u
     ·(obtain rfl:t=Z a:=by omega);have u:nc (Lk b s w (kt (.tuple #[oj #[O d,U j (Z a) k],X J 0])) ((wr.setCell ⟨R,0,Y⟩ (O d)).setCell ⟨R,1,Y⟩ (U j (Z a) k))):=HW _ (DT 0 (by have h:=Aa A0;rw[nR]at h;rw[mK h])) (Aa Bx) (((HP.trans v).setCell (p:=⟨R,0,Y⟩) (lx (Aa D)) _).setCell (p:=⟨R,1,Y⟩) (lx (Aa D)) _) (((H4.trans' v (by simp)).setCell (p:=⟨R,0,Y⟩) (by simp) _).setCell (p:=⟨R,1,Y⟩) (by simp) _);have HL:=Ab ((Aa HF).kept v);have z:=HL.cell 0;have m:=HL.cell 1;simp at z m;(have KK:¬(Z a:Int)<(Z a:Int):=by omega);clear A0 HG;(go_wp2_with fail);refine m5 (As rfl (by rfl) (((Aa G).set 0 _).set 1 _) underlying104 rfl (by kernel_rfl)) rfl ?_;exact u
   .have u:=Ab (Q (by rw[hav];simp[hn]));(have T:((Z a:Int) !=(n:Int))=jj:=by simp;omega);clear Q;(go_wp2_with fail);refine m5 (As rfl (by rfl) (((Aa C).set 0 _).set 1 _) underlying104 rfl (by kernel_rfl)) rfl ?_;exact u
def E3(cs:rc AV)(s:zA):Int:=if Il s=jj then(if BQ cs (Cs s).name=(Z (Cs s).args:Int)then(if(Cs s).args.all (DY (Bj cs))=jj then 0 else 7)else 4)else 2
structure GN(w:ly)(bb pb:Nat)(lad:Option Addr)(lcp:Nat)(cs:rc AV)(fad:Option Addr)(fcp:Nat)(fs:rc BP):Prop where
 base:AI w bb [j3 (V ⟨pb,0,Y⟩),U fad (Z fs) fcp] 63
 prog:AI w pb [U lad (Z cs) lcp] 76
 rows:CF w (U lad (Z cs) lcp) cs
 facts:Ei w (U fad (Z fs) fcp) fs
def GN.kept{w w':ly}{f i:Nat}{e:Option Addr}{a:Nat}{d:rc AV}{c:Option Addr}{b:Nat}{g:rc BP}(h:GN w f i e a d c b g)(k:Ac [] w w'):GN w' f i e a d c b g:=⟨h.base.kept k,h.prog.kept k,h.rows.kept k,h.facts.kept k⟩
def Ow(cs:rc AV)(s:zA)(w:ly)(e:Ending)(w':ly):Prop:=∃x:BP,e=kt (.tuple #[oj (j2 (BL x)),X J (E3 cs s)])/\x.f=Cs s/\Ev w' x/\Ac [] w w'
def fM{α:Type}(f:α->Bool)(l:rc α)(k:Nat)(b:k<Z l)(c:(l.take k).all f=jj)(a:f l[k]=jj):(l.take (k+1)).all f=jj:=by
 rw[mx b,List.all_append,c];simpa using a
theorem bu(bb D:Nat)(K8:Option Addr)(KA:Nat)(g:rc AV)(KK:Option Addr)(KD:Nat)(fs:rc BP)(s:zA)(w:ly)(h:GN w bb D K8 KA g KK KD fs)(hF:Og g)(hl:Z g<=12)(Go:∀c∈g,Hu c)(H1:Z (Bj g)<=6)(H6:s.size<=9223372036854775807):
  Calls prog 62 #[j3 (V ⟨bb,0,Y⟩),O s] w λe z=>Ow g s w e z:=by
 have HB:=Ab h;have HS:=Ab ((re [] w).alloc (j1 [O ⟨#[]⟩,U Y 0 0].toArray 43));have HM:=Ab (rf w [O ⟨#[]⟩,U Y 0 0] 43);have HT:=Ab (bi s (w.alloc (j1 [O ⟨#[]⟩,U Y 0 0].toArray 43)) H6);have HF:nc (∀T b,Ac [] w b->Calls prog 23 #[j3 (V ⟨D,0,Y⟩),O T] b λe z=>e=kt (X J (BQ g T))/\Ac [] b z):=λT b m=>Mq D _ g T b (h.kept m).prog (h.kept m).rows (by omega) (λc hc=>by have:=hF.body c hc;omega)
 have FT:nc (∀b,Ac [] w b->Calls prog 83 #[j3 (V ⟨D,0,Y⟩)] b λe z=>∃v,e=kt v/\oi z b.heap.size 9 1 v (Z (Bj g)) ((Bj g).flatMap Ai)/\Ac [] b z):=λb m=>R6 D _ g b (h.kept m).prog (h.kept m).rows hl Go hF.full
 have K6:nc (∀(x:BP) b (r:Int),r=E3 g s->x.f=Cs s->Ev b x->Ac [] w b->Ow g s w (kt (.tuple #[oj (j2 (BL x)),X J r])) b):=λx b r e h1 h2 h3=>⟨x,by rw[e],h1,h2,h3⟩
 clear h Go hF;go_enter func62,ntmps62;go_wp2_with fail
 refine HT.mono ?_;rintro _ y ⟨⟨⟨d,a⟩,xv⟩,rfl,EK,AH,IS,k3⟩;obtain⟨k,j,e⟩:=Al AH;simp only at e EK;subst e;simp only[BL];have FP:nc (∀q,(U k (Z a) j).ownBlock=V q->q≠w.heap.size):=λq hq=>by have:=IS q hq;simp at this;omega
 have B2:=Ab EK;have H3:=Ab AH;have C:=Ab (HM.kept k3);have HU:=Ab (HS.trans k3);have A0:=Ab (C.alloc (j1 [O d,U k (Z a) j].toArray 43));have A1:=Ab (rf y [O d,U k (Z a) j] 43);have S:=Ab (HU.alloc (j1 [O d,U k (Z a) j].toArray 43));have B9:=Ab (Ev.kept AH ((re [] y).alloc (j1 [O d,U k (Z a) j].toArray 43)));have HV:w.heap.size<y.heap.size:=C.lt;clear HT AH EK k3 HM HS;obtain⟨R,hR⟩:=rd w.heap.size;rw[hR]at A0 C HV FP;have HR:=Ab hR;have W:nc (∀W' (r:Int),r=E3 g s->Ac [] w W'->Ac [R] y W'->Ow g s w (kt (.tuple #[oj #[O d,U k (Z a) j],X J r])) W'):=by
  intro W' r e m H5;refine K6 ⟨⟨d,a⟩,U k (Z a) j⟩ _ r e (Aa B2) ?_ m;exact Ag (Aa H3) H5 (λi hi hm=>by
   simp at hm
   subst hm
   exact absurd rfl (Aa FP i hi))
 have E:nc (w.heap.size<=R):=by have:=Aa HR;show _<=_;omega
 have A:=C.cell 0;have B:=C.cell 1;have Q:=C.frozen 0;have P:=C.frozen 1;simp at A B;cases ho:Il s with
 |false=>
  have F:nc (Ow g s w (kt (.tuple #[oj #[O d,U k (Z a) j],X J 2])) (((y.setCell ⟨R,0,Y⟩ (O d)).setCell ⟨R,1,Y⟩ (U k (Z a) j)).alloc (j1 #[O d,U k (Z a) j] 43))):=W _ 2 (by unfold E3;rw[ho];rfl) (((HU.setCell (p:=⟨R,0,Y⟩) (lx (Aa E)) _).setCell (p:=⟨R,1,Y⟩) (lx (Aa E)) _).alloc _) ((((re [R] y).setCell (p:=⟨R,0,Y⟩) (by simp) _).setCell (p:=⟨R,1,Y⟩) (by simp) _).alloc _);go_wp2_with fail
  refine m5 (As rfl (by rfl) ((((Aa C).set 0 _).set 1 _).alloc _) underlying43 rfl (by kernel_rfl)) rfl ?_;exact F
 |true=>
  clear A B Q P;have CC:=Ab ((re [R] y).alloc (j1 [O d,U k (Z a) j].toArray 43));go_wp2_with fail
  change Code.wp _ _ _ _ (y.alloc (j1 [O d,U k (Z a) j].toArray 43));generalize y.alloc (j1 [O d,U k (Z a) j].toArray 43)=w4 at A0 A1 S B9 CC⊢;obtain⟨L,hX⟩:=rd y.heap.size;rw[hX]at A1 HV⊢;clear hX C hR;have EY:nc (∀b,Ac [] w4 b->oa b ⟨bb,0,Y⟩=V (j3 (V ⟨D,0,Y⟩))/\oa b ⟨L,0,Y⟩=V (O d)/\oa b ⟨L,1,Y⟩=V (U k (Z a) j)):=λb m=>⟨by have:=(HB.kept (S.trans m)).base.cell 0;simpa using this,m.cellAt (by have:=A1.cell 0;simpa using this),m.cellAt (by have:=A1.cell 1;simpa using this)⟩
  obtain⟨I,DT⟩:=rd (BQ g d);have AB:nc (∀b,Ac [] w4 b->Calls prog 23 #[j3 (V ⟨D,0,Y⟩),O d] b λe z=>e=kt (X J I)/\Ac [] b z):=λb m=>by
   have h:=HF d b (S.trans m);rw[DT]at h;exact h
  have CW:=Ab DT;clear DT HF
  go_region_held3 (λb=>Ac [] w4 b/\oa b ⟨bb,0,Y⟩=V (j3 (V ⟨D,0,Y⟩))/\oa b ⟨L,0,Y⟩=V (O d)/\oa b ⟨L,1,Y⟩=V (U k (Z a) j)) ((go_split_ands;refine(fun(HY:Ac [] w4 _)=>And.intro HY (EY _ HY)) ?_;repeat (first|assumption|exact re [] _|refine Ac.drew ?_|refine Ac.alloc ?_ _))) ((go_at_call 23;refine(AB _ (by go_split_ands;assumption)).mono ?_;rintro _ w5 ⟨rfl,k5⟩;have G:Ac [] w4 w5:=(by go_split_ands;exact Ac.trans (by assumption) k5);clear k5))
  rename_i Jx;clear Jx AB;have AO:=Ab (S.trans G);have E0:=Ab (CC.trans' G (by simp));have H:=Ab ((Aa A0).kept G);have HX:=Ab (Ev.kept (Aa B9) G);obtain⟨d0,d1,d2⟩:=EY w5 G;have A:=H.cell 0;have B:=H.cell 1;have Q:=H.frozen 0;have P:=H.frozen 1;simp at A B;by_cases N:I=(Z a:Int)
  ·(have FF:(I !=(Z a:Int))=K:=by simp[N]);clear A B Q P;have HK:=Ab (FT w5 AO);(go_wp2_with fail);refine HK.mono ?_;rintro _ w6 ⟨tv,rfl,CL,M⟩;obtain⟨IJ,H7,rfl⟩:=Al CL;have FA:=Ab (Ak (base':=0) CL (mO _));clear HK CL;have H9:=Ab (G.trans M);have HW:=Ab (AO.trans M);have HJ:=Ab (E0.trans' M (by simp));have HA:=Ab ((Aa H).kept M);have HI:=Ab (Ev.kept (Aa HX) M);obtain⟨n,EX⟩:=rd (Bj g);rw[EX]at FA H1⊢;have HZ:nc (∀r:Int,(r=if a.all (DY n)=jj then 0 else 7)->r=E3 g s):=by
    intro r hr;unfold E3;rw[mK ho,<-Aa B2,EX];show r=if BQ g d=(Z a:Int)then _ else _;rw[mK (by rw[Aa CW];exact N)];exact hr
   (have K7:nc (∀x b,Ac [] w6 b->Calls prog 50 #[U IJ (Z n) H7,O x] b λe z=>e=kt (q8 (DY n x))/\z=b):=λx b m=>IU _ n x 0 b (Ad (Aa FA) m) (by omega));clear EX FT G M AO E0 H HX S CC A0 B9 FF FA d0 d1 d2 N CW;go_wp2_with fail
   go_loopg [9] (Z a) (λgk i wq=>∃(t:Nat),i=X J t/\t<=Z a/\gk=Z a-t/\nc ((a.take t).all (DY n)=jj)/\nc (Ac [] w6 wq))
   case atStart=>exact⟨0,rfl,by omega,rfl,by show _=_;simp,re _ _⟩
   case round=>
    obtain⟨t,rfl,ht,HO,BT,u⟩:=hrel;have HG:=Ab HO;clear HO;obtain⟨d0,d1,d2⟩:=EY wr (H9.trans u);by_cases BA:t<Z a
    ·(have LS:(t:Int)<(Z a:Int):=by omega);(have LL:(0:Int)<=(t:Int):=by omega);obtain⟨ga,LC,HN,_,FL⟩:=AC (f:=Ai) (l:=a) (Ev.kept (Aa HI) u) (λ_ _=>rfl) t BA;have LD:=VW (Aa HI);have a0:=FL t BA 0 (by omega);simp only[mu]at HN;obtain⟨rfl,-,rfl⟩:=HN;simp[Ai]at a0;(have DG:nc (DY n a[t]=jj->(a.take (t+1)).all (DY n)=jj):=λh=>fM _ _ t BA (Aa BT) h);(have BS:nc (DY n a[t]=K->a.all (DY n)=K):=λh=>List.all_eq_false.2 ⟨a[t],mw BA,by rw[h];simp⟩);obtain⟨Ax,hY⟩:=rd (a[t]);rw[hY]at a0 DG BS;clear hY FL;(go_wp2_with fail);refine(K7 Ax wr u).mono ?_;rintro _ w7 ⟨rfl,K4⟩;subst K4;cases hb:DY n Ax with
     |true=>
      have AB:=Ab (DG hb);clear DG BS a0;go_wp2_with fail
      go_roundg (Z a-(t+1))
      case measure=>have:=Aa HG;omega
      case rel=>exact⟨t+1,by go_num,by omega,rfl,AB,u⟩
     |false=>
      have F:nc (Ow g s w (kt (.tuple #[oj #[O d,U (V ⟨ga,0,Y⟩) (Z a) j],X J 7])) ((w7.setCell ⟨R,0,Y⟩ (O d)).setCell ⟨R,1,Y⟩ (U (V ⟨ga,0,Y⟩) (Z a) j))):=W _ 7 (HZ 7 (by rw[Aa BS hb];rfl)) (((HW.trans u).setCell (p:=⟨R,0,Y⟩) (lx (Aa E)) _).setCell (p:=⟨R,1,Y⟩) (lx (Aa E)) _) (((HJ.trans' u (by simp)).setCell (p:=⟨R,0,Y⟩) (by simp) _).setCell (p:=⟨R,1,Y⟩) (by simp) _);have o:=Ab ((Aa HA).kept u);have A:=o.cell 0;have B:=o.cell 1;have Q:=o.frozen 0;have P:=o.frozen 1;simp at A B;clear DG BS a0 BT HG;(go_wp2_with fail);refine m5 (As rfl (by rfl) (((Aa o).set 0 _).set 1 _) underlying43 rfl (by kernel_rfl)) rfl ?_;exact F
    ·(obtain rfl:t=Z a:=by omega);have F:nc (Ow g s w (kt (.tuple #[oj #[O d,U k (Z a) j],X J 0])) ((wr.setCell ⟨R,0,Y⟩ (O d)).setCell ⟨R,1,Y⟩ (U k (Z a) j))):=W _ 0 (HZ 0 (by have h:=Aa BT;rw[nR]at h;rw[mK h])) (((HW.trans u).setCell (p:=⟨R,0,Y⟩) (lx (Aa E)) _).setCell (p:=⟨R,1,Y⟩) (lx (Aa E)) _) (((HJ.trans' u (by simp)).setCell (p:=⟨R,0,Y⟩) (by simp) _).setCell (p:=⟨R,1,Y⟩) (by simp) _);have o:=Ab ((Aa HA).kept u);have A:=o.cell 0;have B:=o.cell 1;have Q:=o.frozen 0;have P:=o.frozen 1;simp at A B;(have LM:¬(Z a:Int)<(Z a:Int):=by omega);clear BT HG;(go_wp2_with fail);refine m5 (As rfl (by rfl) (((Aa o).set 0 _).set 1 _) underlying43 rfl (by kernel_rfl)) rfl ?_;exact F
  ·(have FF:(I !=(Z a:Int))=jj:=by simp[N]);have F:nc (Ow g s w (kt (.tuple #[oj #[O d,U k (Z a) j],X J 4])) ((w5.setCell ⟨R,0,Y⟩ (O d)).setCell ⟨R,1,Y⟩ (U k (Z a) j))):=W _ 4 (by
     unfold E3
     rw[mK ho,mJ]
     rw[<-Aa B2]
     show¬BQ g d=(Z a:Int)
     rw[Aa CW]
     exact N) ((AO.setCell (p:=⟨R,0,Y⟩) (lx (Aa E)) _).setCell (p:=⟨R,1,Y⟩) (lx (Aa E)) _) ((E0.setCell (p:=⟨R,0,Y⟩) (by simp) _).setCell (p:=⟨R,1,Y⟩) (by simp) _)
   (go_wp2_with fail);refine m5 (As rfl (by rfl) (((Aa H).set 0 _).set 1 _) underlying43 rfl (by kernel_rfl)) rfl ?_;exact F
def F2.snoc{α β:Type}{R:α->β->Prop}{a:α}{b:β}:∀{l:rc α} {m:rc β},F2 R l m->R a b->F2 R (l++[a]) (m++[b])
 |[],[],_,h=>F2.cons h F2.nil
 |[],_::_,h,_=>h.elim
 |_::_,[],h,_=>h.elim
 |x::l,y::m,h,hr=>F2.cons h.1 (F2.snoc (l:=l) (m:=m) h.2 hr)
def Z5(h:Il s=jj):QE (Cs s)/\Z (Cs s).args<=2:=by
 obtain⟨_,b,_⟩:=GS h;unfold Il at h;rw[mV]at h;obtain⟨a,_⟩:=h;have hF:Cs s=Av Bl (Ao s 0).1.head:=by unfold Cs;rw[mK a]
 unfold Li at a;simp only[mV,oJ,oF]at a;obtain⟨m,e,g,l,j⟩:=a;rw[hF]at b⊢;refine⟨⟨by simp[Av];omega,λx c=>?_⟩,by simp[Av];omega⟩;have i:=(b x c).size;obtain⟨t,d,rfl⟩:=mD.1 c;have f:=(Ky s 0).1.2 t d;have k:(AP Bl t).size<=t.s.size:=by
  unfold AP Bl;split
  .exact mP _
  .rw[mN,List.getElem?_replicate];split<;>exact mO _
 omega
def Fj(cs:rc AV)(u:rc Af)(s:zA):Int×rc Af:=if E3 cs s=0 then(if DB u (Cs s)=jj then(8,u)else(0,A9 u (Cs s)))else(E3 cs s,u)
def Kc(h:E3 c s=0):Il s=jj:=by
 unfold E3 at h;cases ho:Il s with
 |true=>rfl
 |false=>rw[ho]at h;simp at h
def Hg(bb pb:Nat)(lad:Option Addr)(lcp:Nat)(cs:rc AV)(r:Int×rc Af)(w:ly)(e:Ending)(w':ly):Prop:=∃(ad:Option Addr) (cp:Nat) (fs:rc BP),e=kt (X J r.1)/\fs.map BP.f=r.2/\GN w' bb pb lad lcp cs ad cp fs/\Ac [bb] w w'
def VO{e t:TypeId}(h:oi w m e k z n y)(d:AI w b x t)(f:e≠t):z.ownBlock≠V b:=by
 intro a;rcases h.2 with⟨rfl,_⟩|⟨g,j,i,rfl,_,c,_⟩
 .simp[qX]at a
 .simp only[qX,mB]at a;subst a;unfold AI at d;rw[d]at c;simp only[mB,Obj.cells.injEq]at c;exact f c.2.1.symm
def js{t u:TypeId}(h:AI w n y t)(c:AI w b x u)(d:t≠u):n≠b:=by
 rintro rfl;unfold AI at h c;rw[h]at c;simp only[mB,Obj.cells.injEq]at c;exact d c.2.1
def GN.put{u:rc AV}{z:Option Addr}{A:rc BP}(h:GN w m k o j u z b A){g:Option Addr}{f:Nat}{a:rc BP}(q:Ei w (U g (Z a) f) a):
  GN (w.setCell ⟨m,1,Y⟩ (U g (Z a) f)) m k o j u g f a:=by
 have t:Ac [m] w (w.setCell ⟨m,1,Y⟩ (U g (Z a) f)):=(re [m] w).setCell (p:=⟨m,1,Y⟩) (by simp) _;have d:∀{base e sz n v xs},oi w base e sz v n xs->e≠63->World.ownsRow (w.setCell ⟨m,1,Y⟩ (U g (Z a) f)) base e sz v n xs:=λx y=>Ag x t (λi B s=>by
  simp only[my]at s
  subst s
  exact VO x h.base y B)
 exact⟨by have:=h.base.set 1 (U g (Z a) f);simpa using this,h.prog.kept t (by simpa using js h.prog h.base (by decide)),⟨d h.rows.row (by decide),λc r=>⟨d (h.rows.each c r).args (by decide),d (h.rows.each c r).body (by decide),λp l=>d ((h.rows.each c r).lits p l) (by decide)⟩⟩,⟨d q.row (by decide),λp l=>⟨d (q.each p l).1 (by decide),(q.each p l).2⟩⟩⟩
theorem Yg(m x:Nat)(A:Option Addr)(z:Nat)(j:rc AV)(q:Option Addr)(o:Nat)(g:rc BP)(s:zA)(w:ly)(h:GN w m x A z j q o g)(hF:Og j)(hl:Z j<=12)(Bx:∀c∈j,Hu c)(EX:Z (Bj j)<=6)(CW:s.size<=9223372036854775807)(FP:Z g<=1000):
  Calls prog 34 #[j3 (V ⟨m,0,Y⟩),O s] w (Hg m x A z j (Fj j (g.map BP.f) s) w):=by
 have BS:=Ab (bu m x A z j q o g s w h hF hl Bx EX CW);have HB:=Ab h;clear h hF Bx;go_enter func34,ntmps34;go_wp2_with fail
 refine BS.mono ?_;rintro _ t ⟨⟨⟨i,a⟩,xv⟩,rfl,M,W,T⟩;obtain⟨l,k,e⟩:=Al W;simp only at e M;subst e;simp only[BL];have H:=Ab (HB.kept T);have Q:=Ab T;have AH:=Ab M;have B2:=Ab W;clear BS M W T;by_cases D:E3 j s=0
 .have CL:(E3 j s !=0)=K:=by simp[D]
  have B0:=Z5 (Kc D);have r:nc (Fj j (g.map BP.f) s=if DB (g.map BP.f) ⟨i,a⟩=jj then(8,g.map BP.f)else(0,A9 (g.map BP.f) ⟨i,a⟩)):=by
   show _=_;unfold Fj;rw[mK D,<-Aa AH]
  have G:=Ab (rf t [O i,U l (Z a) k] 43);have u:=Ab (H.kept ((re [] t).alloc (j1 [O i,U l (Z a) k].toArray 43)));have Ax:=Ab (Q.alloc (j1 [O i,U l (Z a) k].toArray 43));have R:=Ab (Ev.kept (Aa B2) ((re [] t).alloc (j1 [O i,U l (Z a) k].toArray 43)));have CC:m<t.heap.size:=H.base.lt;go_wp2_with fail
  change Code.wp _ _ _ _ (t.alloc (j1 [O i,U l (Z a) k].toArray 43));generalize t.alloc (j1 [O i,U l (Z a) k].toArray 43)=w3 at G u Ax R⊢;obtain⟨y,hX⟩:=rd t.heap.size;rw[hX]at G CC⊢;clear hX;have L:nc (∀d,Ac [] w3 d->oa d ⟨m,1,Y⟩=V (U q (Z g) o)/\oa d ⟨y,0,Y⟩=V (O i)/\oa d ⟨y,1,Y⟩=V (U l (Z a) k)):=λd n=>⟨by have:=(u.kept n).base.cell 1;simpa using this,n.cellAt (by have:=G.cell 0;simpa using this),n.cellAt (by have:=G.cell 1;simpa using this)⟩
  have P:QE ⟨i,a⟩:=by rw[Aa AH];exact B0.1
  obtain⟨F,N⟩:=rd (DB (g.map BP.f) ⟨i,a⟩);have BT:nc (∀d,Ac [] w3 d->Calls prog 21 #[U q (Z g) o,oj #[O i,U l (Z a) k]] d λe B=>e=kt (q8 F)/\Ac [] d B):=λd n=>by
   have h:=L5 q o g ⟨⟨i,a⟩,U l (Z a) k⟩ d (u.kept n).facts (Ev.kept (Aa R) n) (by omega) P;(have hh:(g.any λp=>CV p.f (⟨i,a⟩:Af))=F:=by rw[<-N];unfold DB;rw[qd];rfl);exact h.mono λe B h=>⟨h.1.trans (congrArg (λb=>kt (q8 b)) hh),h.2⟩
  have EY:nc (∀d,Ac [] w3 d->Calls prog 57 #[U q (Z g) o,oj #[O i,U l (Z a) k]] d λe B=>∃ad cp,e=kt (U ad (Z (GF g ⟨⟨i,a⟩,U l (Z a) k⟩)) cp)/\Ei B (U ad (Z (GF g ⟨⟨i,a⟩,U l (Z a) k⟩)) cp) (GF g ⟨⟨i,a⟩,U l (Z a) k⟩)/\Ac [] d B):=λd n=>Pe q o g ⟨⟨i,a⟩,U l (Z a) k⟩ d (u.kept n).facts (Ev.kept (Aa R) n) (by omega) P
  rw[N]at r;clear N B0 P H Q B2
  go_region_held3 (λd=>Ac [] w3 d/\oa d ⟨m,1,Y⟩=V (U q (Z g) o)/\oa d ⟨y,0,Y⟩=V (O i)/\oa d ⟨y,1,Y⟩=V (U l (Z a) k)) ((go_split_ands;refine(fun(A1:Ac [] w3 _)=>And.intro A1 (L _ A1)) ?_;repeat (first|assumption|exact re [] _|refine Ac.drew ?_|refine Ac.alloc ?_ _))) ((go_at_call 21;refine(BT _ (by go_split_ands;assumption)).mono ?_;rintro _ C ⟨rfl,k5⟩;have v:Ac [] w3 C:=(by go_split_ands;exact Ac.trans (by assumption) k5);clear k5))
  rename_i ES;clear ES BT;cases F with
  |true=>
   have E:nc (Hg m x A z j (Fj j (g.map BP.f) s) w (kt (X J 8)) C):=⟨q,o,g,by rw[Aa r];rfl,by rw[Aa r];rfl,u.kept v,Ac.mono (Ax.trans v) (by simp)⟩;(go_wp2_with fail);go_ret;exact E
  |false=>
   obtain⟨d0,d1,d2⟩:=L C v;(have DT:nc (∀d,Ac [] C d->oa d ⟨m,1,Y⟩=V (U q (Z g) o)/\d.frozen? ⟨m,1,Y⟩=K):=λd n=>⟨(L d (v.trans n)).1,(u.kept (v.trans n)).base.frozen 1⟩);go_wp2_with fail
   go_region_law (go_simp;go_at_call 57;refine(EY _ (v.drew)).mono ?_;rintro _ I ⟨AB,AR,rfl,BA,S⟩;obtain⟨g1,g2⟩:=DT I ((re [] C).drew.trans S))
   all_goals
    have E:nc (Hg m x A z j (Fj j (g.map BP.f) s) w (kt (X J 0)) (I.setCell ⟨m,1,Y⟩ (U AB (Z (GF g ⟨⟨i,a⟩,U l (Z a) k⟩)) AR))):=by
     have A2:Ac [] w3 I:=(v.drew).trans S;refine⟨AB,AR,_,by rw[Aa r];rfl,?_,(u.kept A2).put BA,(Ac.mono (Ax.trans A2) (by simp)).setCell (p:=⟨m,1,Y⟩) (by simp) _⟩;rw[Aa r,ME];rfl
    clear BA S g1 g2 r;(go_wp2_with fail);go_ret;exact E
 .have CL:(E3 j s !=0)=jj:=by simp[D]
  have r:nc (Fj j (g.map BP.f) s=(E3 j s,g.map BP.f)):=by show _=_;unfold Fj;rw[mJ D]
  have E:nc (Hg m x A z j (Fj j (g.map BP.f) s) w (kt (X J (E3 j s))) (t.alloc (j1 #[O i,U l (Z a) k] 43))):=⟨q,o,g,by rw[Aa r],by rw[Aa r],H.kept ((re [] t).alloc _),(Ac.mono (Aa Q) (by simp)).alloc _⟩;go_wp2_with fail
  go_ret;exact E
def Ft(cs:rc AV)(u:rc Af)(s:zA):Int×rc Af:=if E3 cs s=0 then(if DB u (Cs s)=jj then(0,u.filter λg=> !CV g (Cs s))else(7,u))else(E3 cs s,u)
theorem Xh(u Q:Nat)(S:Option Addr)(R:Nat)(n:rc AV)(F:Option Addr)(z:Nat)(a:rc BP)(s:zA)(w:ly)(h:GN w u Q S R n F z a)(hF:Og n)(hl:Z n<=12)(HF:∀c∈n,Hu c)(H5:Z (Bj n)<=6)(H9:s.size<=9223372036854775807)(K8:Z a<=1000):
  Calls prog 37 #[j3 (V ⟨u,0,Y⟩),O s] w (Hg u Q S R n (Ft n (a.map BP.f) s) w):=by
 have H1:=Ab (bu u Q S R n F z a s w h hF hl HF H5 H9);have HB:=Ab h;clear h hF HF;go_enter func37,ntmps37;go_wp2_with fail
 refine H1.mono ?_;rintro _ B ⟨⟨⟨l,j⟩,xv⟩,rfl,FC,FB,k2⟩;obtain⟨r,t,e⟩:=Al FB;simp only at e FC;subst e;simp only[BL];have Bx:=Ab (HB.kept k2);have FP:=Ab k2;have HC:=Ab FC;have HI:=Ab FB;clear H1 FC FB k2;by_cases hz:E3 n s=0
 .have H4:(E3 n s !=0)=K:=by simp[hz]
  have HH:=Z5 (Kc hz);have G:nc (Ft n (a.map BP.f) s=if DB (a.map BP.f) ⟨l,j⟩=jj then(0,(a.map BP.f).filter λg=> !CV g ⟨l,j⟩)else(7,a.map BP.f)):=by
   show _=_;unfold Ft;rw[mK hz,<-Aa HC]
  have BA:=Ab (rf B [O l,U r (Z j) t] 43);have y:=Ab (Bx.kept ((re [] B).alloc (j1 [O l,U r (Z j) t].toArray 43)));have Go:=Ab (FP.alloc (j1 [O l,U r (Z j) t].toArray 43));have FT:=Ab (Ev.kept (Aa HI) ((re [] B).alloc (j1 [O l,U r (Z j) t].toArray 43)));have JJ:u<B.heap.size:=Bx.base.lt;go_wp2_with fail
  change Code.wp _ _ _ _ (B.alloc (j1 [O l,U r (Z j) t].toArray 43));generalize B.alloc (j1 [O l,U r (Z j) t].toArray 43)=w3 at BA y Go FT⊢;obtain⟨x,hX⟩:=rd B.heap.size;rw[hX]at BA JJ⊢;clear hX;have HA:nc (∀d,Ac [] w3 d->oa d ⟨u,1,Y⟩=V (U F (Z a) z)/\oa d ⟨x,0,Y⟩=V (O l)/\oa d ⟨x,1,Y⟩=V (U r (Z j) t)):=λd o=>⟨by have:=(y.kept o).base.cell 1;simpa using this,o.cellAt (by have:=BA.cell 0;simpa using this),o.cellAt (by have:=BA.cell 1;simpa using this)⟩
  have FO:QE ⟨l,j⟩:=by rw[Aa HC];exact HH.1
  obtain⟨HS,EY⟩:=rd (DB (a.map BP.f) ⟨l,j⟩);have HW:nc (∀d,Ac [] w3 d->Calls prog 21 #[U F (Z a) z,oj #[O l,U r (Z j) t]] d λe w'=>e=kt (q8 HS)/\Ac [] d w'):=λd o=>by
   have h:=L5 F z a ⟨⟨l,j⟩,U r (Z j) t⟩ d (y.kept o).facts (Ev.kept (Aa FT) o) (by omega) FO;(have hh:(a.any λp=>CV p.f (⟨l,j⟩:Af))=HS:=by rw[<-EY];unfold DB;rw[qd];rfl);exact h.mono λe w' h=>⟨h.1.trans (congrArg (λb=>kt (q8 b)) hh),h.2⟩
  have K1:nc (∀p∈a,∀d,Ac [] w3 d->Calls prog 49 #[oj (j2 (BL p)),oj #[O l,U r (Z j) t]] d λe w'=>e=kt (q8 (CV p.f ⟨l,j⟩))/\Ac [] d w'):=λp hp d o=>Ux p ⟨⟨l,j⟩,U r (Z j) t⟩ d (((y.kept o).facts.each p hp).1) (Ev.kept (Aa FT) o) (by have:=((y.facts).each p hp).2.len;omega) (by have h:Z j<=1000:=FO.len;show Z j<=1000000;omega)
  rw[EY]at G;clear EY HH FO Bx FP HI
  go_region_held3 (λd=>Ac [] w3 d/\oa d ⟨u,1,Y⟩=V (U F (Z a) z)/\oa d ⟨x,0,Y⟩=V (O l)/\oa d ⟨x,1,Y⟩=V (U r (Z j) t)) ((go_split_ands;refine(fun(A0:Ac [] w3 _)=>And.intro A0 (HA _ A0)) ?_;repeat (first|assumption|exact re [] _|refine Ac.drew ?_|refine Ac.alloc ?_ _))) ((go_at_call 21;refine(HW _ (by go_split_ands;assumption)).mono ?_;rintro _ w5 ⟨rfl,k5⟩;have L:Ac [] w3 w5:=(by go_split_ands;exact Ac.trans (by assumption) k5);clear k5))
  rename_i KA;clear KA HW;cases HS with
  |false=>
   have I:nc (Hg u Q S R n (Ft n (a.map BP.f) s) w (kt (X J 7)) w5):=⟨F,z,a,by rw[Aa G];rfl,by rw[Aa G];rfl,y.kept L,Ac.mono (Go.trans L) (by simp)⟩;(go_wp2_with fail);go_ret;exact I
  |true=>
   obtain⟨d0,d1,T⟩:=HA w5 L;obtain⟨i0,K2,H8,K5,KD⟩:=nC Tryz.yQ;obtain⟨N,hN⟩:=rd w5.heap.size;have HN:=Ab hN;clear hN;go_wp2_with fail
   go_loopg [8,9] (Z a) (λgk lv i wq=>∃(k:Nat) (m:rc BP) (D:Option Addr) (E:Nat),lv=U D (Z m) E/\i=X J k/\k<=Z a/\gk=Z a-k/\nc (m=(a.take k).filter λp=> !CV p.f ⟨l,j⟩)/\nc (oi wq N 43 2 (U D (Z m) E) (Z m) (m.flatMap BL))/\nc (Ac [] w5 wq))
   case atStart=>exact⟨0,[],Y,0,rfl,rfl,by omega,rfl,by show _=_;simp,mS _ _ _ _,re _ _⟩
   case round=>
    obtain⟨k,m,D,E,rfl,rfl,o,HZ,BT,I,W⟩:=hrel;have HG:=Ab HZ;clear HZ d0 d1 T;have K9:Z m<=1000:=by
     have h1:=oo (λp:BP=> !CV p.f ⟨l,j⟩) (a.take k);rw[<-Aa BT,nu]at h1;omega
    obtain⟨d0,d1,T⟩:=HA wr (L.trans W);by_cases EX:k<Z a
    ·(have LE:(k:Int)<(Z a:Int):=by omega);(have K7:(0:Int)<=(k:Int):=by omega);obtain⟨g,LS,A,v,M,H,he,FW,e0,e1⟩:=CZ (y.kept (L.trans W)).facts k EX;simp only[mu]at he;obtain⟨rfl,-,rfl⟩:=he;have AT:=Ab (K1 _ (mw EX));rw[FW]at AT;have AH:nc ((a.take (k+1)).filter (λp=> !CV p.f ⟨l,j⟩)=if CV ⟨A,v⟩ ⟨l,j⟩=jj then m else m++[⟨⟨A,v⟩,U M (Z v) H⟩]):=by
      show _=_;rw[mx EX,oW,<-Aa BT,FW];cases hb:CV (⟨A,v⟩:Af) ⟨l,j⟩<;>simp[oh,hb]
     obtain⟨SB,HT⟩:=rd (CV (⟨A,v⟩:Af) ⟨l,j⟩);simp only[BL]at AT;rw[HT]at AT AH;(have B0:nc (∀d,Ac [] wr d->oa d ⟨u,1,Y⟩=V (U (V ⟨g,0,Y⟩) (Z a) z)/\oa d ⟨g,k*2,Y⟩=V (O A)/\oa d ⟨g,k*2+1,Y⟩=V (U M (Z v) H)/\oa d ⟨x,0,Y⟩=V (O l)/\oa d ⟨x,1,Y⟩=V (U r (Z j) t)):=λd o=>⟨o.cellAt d0,o.cellAt e0,o.cellAt e1,o.cellAt d1,o.cellAt T⟩);have IS:=Ab (L.trans W);clear HT FW;go_wp2_with fail
     go_region_held3 (λd=>Ac [] wr d/\oa d ⟨u,1,Y⟩=V (U (V ⟨g,0,Y⟩) (Z a) z)/\oa d ⟨g,k*2,Y⟩=V (O A)/\oa d ⟨g,k*2+1,Y⟩=V (U M (Z v) H)/\oa d ⟨x,0,Y⟩=V (O l)/\oa d ⟨x,1,Y⟩=V (U r (Z j) t)) ((go_split_ands;refine(fun(A0:Ac [] wr _)=>And.intro A0 (B0 _ A0)) ?_;repeat (first|assumption|exact re [] _|refine Ac.drew ?_|refine Ac.alloc ?_ _))) ((go_at_call 49;refine(AT _ (IS.trans (by go_split_ands;assumption))).mono ?_;rintro _ P ⟨rfl,k7⟩;have CW:Ac [] wr P:=(by go_split_ands;exact Ac.trans (by assumption) k7);clear k7))
     rename_i H6;clear H6 AT;have E0:=Ab (W.trans CW);have FA:=Ab (Ad (Aa I) CW);cases SB with
     |true=>
      (have B9:nc (m=(a.take (k+1)).filter λp=> !CV p.f ⟨l,j⟩):=by show _=_;rw[Aa AH];rfl);clear AH B0 d0 d1 T e0 e1;go_wp2_with fail
      go_roundg (Z a-(k+1))
      case measure=>have:=Aa HG;omega
      case rel=>exact⟨k+1,m,D,E,rfl,by go_num,by omega,rfl,B9,FA,E0⟩
     |false=>
      (have B9:nc (m++[⟨⟨A,v⟩,U M (Z v) H⟩]=(a.take (k+1)).filter λp=> !CV p.f ⟨l,j⟩):=by show _=_;rw[Aa AH];rfl);obtain⟨f0,f1,f2,-,-⟩:=B0 P CW;clear AH B0 d0 d1 T e0 e1;have LL:=(Aa E0).size;(have Mo:N<=P.heap.size:=by have:=Aa HN;omega);go_wp2_with (at_builtin;refine mZ _ rfl (.tmp 48) (.tmp 56) _ rfl N 43 i0 _ 2 40 underlying35 K2 H8 K5 KD rfl (by omega) (U D (Z m) E) (Z m) (m.flatMap BL) rfl (mE (Aa FA) _) ⟨P.heap.size,0,Y⟩ 1 1 [O A,U M (Z v) H] rfl rfl (mW (m7 P _)) (by simp[Value.oneCell']) (by omega) (by unfold maxLen;omega) (by omega) (by simp;omega) (P.heap.size+1) (by simp) ?_;intro g1 HK w8 HU HL H3 H7;have HE:=Ab HU;have IA:=Ab (((Aa E0).alloc (j1 #[O A,U M (Z v) H] 43)).grown HL (λq hq=>lx (by have h1:=(World.ownsRow.lt (Aa FA) q hq).1;have:=Aa HN;omega)));clear HU HL H3 H7)
      obtain⟨C,BS⟩:∃C:rc BP,C=m++[⟨⟨A,v⟩,U M (Z v) H⟩]:=⟨_,rfl⟩;(have FF:Z m+1=Z C:=by rw[BS];simp);have DT:nc (oi w8 N 43 2 (U (V ⟨g1,0,Y⟩) (Z C) HK) (Z C) (C.flatMap BL)):=by
       show World.ownsRow _ _ _ _ _ _ _;rw[<-FF,BS,mY];exact Aa HE
      (have JA:nc (C=(a.take (k+1)).filter λp=> !CV p.f ⟨l,j⟩):=by show _=_;rw[BS];exact Aa B9);rw[FF];clear HE B9 BS FF
      go_roundg (Z a-(k+1))
      case measure=>have:=Aa HG;omega
      case rel=>exact⟨k+1,C,V ⟨g1,0,Y⟩,HK,rfl,by go_num,by omega,rfl,JA,DT,IA⟩
    ·(obtain rfl:k=Z a:=by omega);(have Ha:nc (m=a.filter λp=> !CV p.f ⟨l,j⟩):=by have h:=Aa BT;rw[nR]at h;exact h);have CC:=L.trans W;have DG:nc (Ei wr (U D (Z m) E) m):=by
      refine⟨Ak (Aa I) (mO _),λp hp=>?_⟩;rw[Aa Ha]at hp;exact(y.kept CC).facts.each p (mT.1 hp).1
     have DT:nc (Hg u Q S R n (Ft n (a.map BP.f) s) w (kt (X J 0)) (wr.setCell ⟨u,1,Y⟩ (U D (Z m) E))):=by
      refine⟨D,E,m,by rw[Aa G];rfl,?_,(y.kept CC).put (Aa DG),(Ac.mono (Go.trans CC) (by simp)).setCell (p:=⟨u,1,Y⟩) (by simp) _⟩;rw[Aa G,Aa Ha,mK (by simp)];show(a.filter λp=> !CV p.f ⟨l,j⟩).map BP.f=(a.map BP.f).filter λg=> !CV g ⟨l,j⟩
      rw[List.filter_map];rfl
     have LB:=(y.kept CC).base.frozen 1;(have L0:¬(Z a:Int)<(Z a:Int):=by omega);clear BT Ha I HG DG;(go_wp2_with fail);go_ret;exact DT
 .have H4:(E3 n s !=0)=jj:=by simp[hz]
  have G:nc (Ft n (a.map BP.f) s=(E3 n s,a.map BP.f)):=by show _=_;unfold Ft;rw[mJ hz]
  have I:nc (Hg u Q S R n (Ft n (a.map BP.f) s) w (kt (X J (E3 n s))) (B.alloc (j1 #[O l,U r (Z j) t] 43))):=⟨F,z,a,by rw[Aa G],by rw[Aa G],Bx.kept ((re [] B).alloc _),(Ac.mono (Aa FP) (by simp)).alloc _⟩;go_wp2_with fail
  go_ret;exact I
def JZ(s:zA)(w:ly)(e:Ending)(w':ly):Prop:=∃(bv:ml) (er at_:Int),e=kt (.tuple #[bv,X J er,X J at_])/\DK s er at_/\(er≠0->bv=j3 Y)/\(er=0->∃(bb pb:Nat) (lad:Option Addr) (lcp:Nat) (cs:rc AV),bv=j3 (V ⟨bb,0,Y⟩)/\w.heap.size<=bb/\GN w' bb pb lad lcp cs Y 0 []/\Og cs/\s.size<=300/\(Aj s (Ae s 0)).2.2=K/\cs.map AV.erase=(Aj s (Ae s 0)).1/\CQ cs=(0,0))/\Ac [] w w'
theorem Rn(s:zA)(w:ly)(y:s.size<=9223372036854775807):Calls prog 32 #[O s] w (JZ s w):=by
 have t:=Ab (JP s w y);go_enter func32,ntmps32;go_wp2_with fail
 refine t.mono ?_;rintro _ a ⟨E,b,k,rfl,x,n,j⟩;have r:=Ab x;have e:=Ab n;have f:=Ab j;clear t x n j;by_cases c:b=0
 .subst c;obtain⟨d,D,C,z,rfl,u,v,hF,l,m,o,q⟩:=e rfl;have A:((0:Int) !=0)=K:=rfl;have g:nc (JZ s w (kt (.tuple #[j3 (V ⟨a.heap.size,0,Y⟩),X J 0,X J 0])) (a.alloc (j1 [j3 (V ⟨d,0,Y⟩),U Y 0 0].toArray 63))):=by
   have i:=(re [] a).alloc (j1 [j3 (V ⟨d,0,Y⟩),U Y 0 0].toArray 63);refine⟨_,0,0,rfl,by have h:=Aa r;rw[h.zero]at h;exact h,λh=>absurd rfl h,λ_=>⟨a.heap.size,d,D,C,z,rfl,f.size,⟨rf a [j3 (V ⟨d,0,Y⟩),U Y 0 0] 63,u.kept i,v.kept i,⟨mS _ _ _ _,λp B=>by cases B⟩⟩,hF,l,m,o,q⟩,f.trans i⟩
  clear u v hF l m o q e;go_wp2_with fail
  go_ret3;exact g
 .have A:(b !=0)=jj:=by simp[c]
  have g:nc (JZ s w (kt (.tuple #[j3 Y,X J b,X J k])) a):=⟨_,b,k,rfl,r,λ_=>rfl,λh=>absurd h c,f⟩;clear c e;go_wp2_with fail
  go_ret3;exact g
structure Gz(T:rc TypeId)(w w':ly):Prop where
 size:w.heap.size<=w'.heap.size
 at_:∀(q:Nat) (cs:Array ml) (t:TypeId) (fr:Nat×Nat),w.heap[q]?=V (j1 cs t fr)->t∉T->w'.heap[q]?=V (j1 cs t fr)
def Gz.refl(T:rc TypeId)(w:ly):Gz T w w:=⟨mP _,λ_ _ _ _ h _=>h⟩
def Gz.trans{T:rc TypeId}(h:Gz T w v)(k:Gz T v u):Gz T w u:=⟨nD h.size k.size,λq e t f g d=>k.at_ q e t f (h.at_ q e t f g d) d⟩
def Gz.of{T:rc TypeId}(k:Ac M w v)(f:∀q∈M,∀(b:Array ml) (t:TypeId) (c:Nat×Nat),w.heap[q]?=V (j1 b t c)->t∈T):Gz T w v:=
 ⟨k.size,λq b t c a g=>by
  have e:=(nz.1 a).1
  rw[k.block q e (λd=>g (f q d b t c a))]
  exact a⟩
def Gz.kept{T:rc TypeId}{w w':ly}(k:Ac [] w w'):Gz T w w':=Gz.of k (λq a=>by cases a)
def Gz.row{T:rc TypeId}(h:Gz T w u){v:ml}(b:oi w m k i v n y)(j:k∉T):oi u m k i v n y:=by
 refine⟨b.1,?_⟩;rcases b.2 with o|⟨g,l,a,c,p,d,f⟩
 .exact lo o
 .exact lx ⟨g,l,a,c,p,h.at_ g a k (0,0) d j,f⟩
def Gz.zO{T:rc TypeId}(h:Gz T w v){t:TypeId}(c:AI w b y t)(a:t∉T):AI v b y t:=h.at_ b (j2 y) t (0,0) c a
def GN.rst{T:rc TypeId}{g:rc AV}{f:Option Addr}{l:rc BP}(h:GN w n m o i g f j l)(k:Gz T w v)(s:∀t∈T,t=117\/t=104):GN v n m o i g f j l:=by
 have a:∀e:TypeId,e≠117->e≠104->e∉T:=λe u r q=>by rcases s e q with h|h;exact u h;exact r h
 exact⟨k.zO h.base (a _ (by decide) (by decide)),k.zO h.prog (a _ (by decide) (by decide)),⟨k.row h.rows.row (a _ (by decide) (by decide)),λc d=>⟨k.row (h.rows.each c d).args (a _ (by decide) (by decide)),k.row (h.rows.each c d).body (a _ (by decide) (by decide)),λp b=>k.row ((h.rows.each c d).lits p b) (a _ (by decide) (by decide))⟩⟩,⟨k.row h.facts.row (a _ (by decide) (by decide)),λp b=>⟨k.row (h.facts.each p b).1 (a _ (by decide) (by decide)),(h.facts.each p b).2⟩⟩⟩
def CE.rst{T:rc TypeId}{f:rc CU}(h:CE w z f)(k:Gz T w v)(j:∀t∈T,t=117\/t=104\/t=63):CE v z f:=by
 have b:∀e:TypeId,e≠117->e≠104->e≠63->e∉T:=λe l i m g=>by rcases j e g with h|h|h;exact l h;exact i h;exact m h
 refine⟨k.row h.row (b _ (by decide) (by decide) (by decide)),λc a=>⟨k.row (h.each c a).head (b _ (by decide) (by decide) (by decide)),⟨k.row (h.each c a).body.row (b _ (by decide) (by decide) (by decide)),λp d=>⟨?_,((h.each c a).body.each p d).2⟩⟩⟩⟩;exact k.row ((h.each c a).body.each p d).1 (b _ (by decide) (by decide) (by decide))
structure Gg(w:ly)(bb:Nat)(lad:Option Addr)(lcp:Nat)(pcs:rc CU)(sad:Option Addr)(scp:Nat)(fs:rc Eb):Prop where
 base:AI w bb [U lad (Z pcs) lcp,U sad (Z fs) scp] 117
 prog:CE w (U lad (Z pcs) lcp) pcs
 facts:Io w (U sad (Z fs) scp) fs
def Gg.kept{w w':ly}{d:Nat}{c:Option Addr}{b:Nat}{g:rc CU}{f:Option Addr}{a:Nat}{e:rc Eb}(h:Gg w d c b g f a e)(k:Ac [] w w'):Gg w' d c b g f a e:=⟨h.base.kept k,h.prog.kept k,h.facts.kept k⟩
theorem LW(a:Nat)(w:ly):Calls prog 58 #[j3 (V ⟨a,0,Y⟩)] w λe b=>e=kt (j3 (V ⟨a,0,Y⟩))/\b=w:=by
 go_enter func58,ntmps58;go_wp2;go_ret;exact⟨rfl,rfl⟩
def Mj(s:zA)(w:ly)(e:Ending)(w':ly):Prop:=∃(bv:ml) (er at_:Int),e=kt (.tuple #[bv,X J er,X J at_])/\El s (jw s) (er,at_)/\(er≠0->bv=j3 Y)/\(er=0->∃(bb:Nat) (lad:Option Addr) (lcp:Nat) (pcs:rc CU) (rcs:rc AV),bv=j3 (V ⟨bb,0,Y⟩)/\w.heap.size<=bb/\Gg w' bb lad lcp pcs Y 0 []/\s.size<=300/\rcs.map AV.erase=(Aj s (Ae s 0)).1/\Im pcs rcs)/\Ac [] w w'
theorem R7(s:zA)(w:ly)(C:s.size<=9223372036854775807):Calls prog 31 #[O s] w (Mj s w):=by
 have v:=Ab (J2 s (jw s) w C (λd D b c i=>Le d b i));go_enter func31,ntmps31;go_wp2_with fail
 refine v.mono ?_;rintro _ a ⟨g,n,j,⟨e,k⟩,rfl,z,u,t⟩;have o:=Ab z;have l:=Ab u;have m:=Ab t;clear v z u t;by_cases f:e=0
 .subst f;obtain⟨d,D,c,b,i,rfl,r⟩:=l rfl;obtain⟨x,F,B,A⟩:=My d b i r o rfl;obtain rfl:k=0:=(Prod.mk.inj x).2;have E:((0:Int) !=0)=K:=rfl;have q:nc (Mj s w (kt (.tuple #[j3 (V ⟨a.heap.size,0,Y⟩),X J 0,X J 0])) (a.alloc (j1 [U g (Z c) j,U Y 0 0].toArray 117))):=by
   have y:=(re [] a).alloc (j1 [U g (Z c) j,U Y 0 0].toArray 117);exact⟨_,0,0,rfl,o,λh=>absurd rfl h,λ_=>⟨a.heap.size,g,j,c,F,rfl,m.size,⟨rf a [U g (Z c) j,U Y 0 0] 117,r.kept y,⟨mS _ _ _ _,λp b=>by cases b⟩⟩,d,B,A⟩,m.trans y⟩
  clear d b i r x B A l;go_wp2_with fail
  go_ret3;exact q
 .have E:(e !=0)=jj:=by simp[f]
  have q:nc (Mj s w (kt (.tuple #[j3 Y,X J e,X J k])) a):=⟨_,e,k,rfl,o,λ_=>rfl,λh=>absurd h f,m⟩;clear f l;go_wp2_with fail
  go_ret3;exact q
def Kq(x:zA):AZ:=⟨0,x⟩
theorem Vg(b:zA)(a:rc zA)(m:Option Addr)(n:Nat)(w:ly)(S:C8 w ⟨⟨b,a⟩,U m (Z a) n⟩)(HI:Z a<=1000):
  Calls prog 108 #[oj #[O b,U m (Z a) n]] w λe w'=>∃(ad:Option Addr) (cp:Nat),e=kt (oj #[X J 0,O b,U ad (Z a) cp,U Y 0 0])/\oi w' w.heap.size 215 2 (U ad (Z a) cp) (Z a) ((a.map Kq).flatMap Ar)/\Ac [] w w':=by
 have HX:=Ab S;clear S;go_enter func108,ntmps108;obtain⟨N,C⟩:=rd w.heap.size;have A:=Ab C;obtain⟨i0,FL,B9,FT,E0⟩:=nC Tryz.zZ;have x:=Ab ((((re [] w).alloc (j1 #[O b,U m (Z a) n] 104)).alloc (j1 #[X J 0,O ⟨#[]⟩,U Y 0 0,U Y 0 0] 189)).alloc (j1 #[X J 0,O b,U Y 0 0] 187));have I:nc (AI (((w.alloc (j1 #[O b,U m (Z a) n] 104)).alloc (j1 #[X J 0,O ⟨#[]⟩,U Y 0 0,U Y 0 0] 189)).alloc (j1 #[X J 0,O b,U Y 0 0] 187)) (N+1+1) [X J 0,O b,U Y 0 0] 187):=by
  have h:=rf ((w.alloc (j1 #[O b,U m (Z a) n] 104)).alloc (j1 #[X J 0,O ⟨#[]⟩,U Y 0 0,U Y 0 0] 189)) [X J 0,O b,U Y 0 0] 187;rw[m9,m9,C]at h;exact h
 have G:nc (AI (((w.alloc (j1 #[O b,U m (Z a) n] 104)).alloc (j1 #[X J 0,O ⟨#[]⟩,U Y 0 0,U Y 0 0] 189)).alloc (j1 #[X J 0,O b,U Y 0 0] 187)) (N+1) [X J 0,O ⟨#[]⟩,U Y 0 0,U Y 0 0] 189):=by
  have h:=(rf (w.alloc (j1 #[O b,U m (Z a) n] 104)) [X J 0,O ⟨#[]⟩,U Y 0 0,U Y 0 0] 189).alloc (j1 #[X J 0,O b,U Y 0 0] 187);rw[m9,C]at h;exact h
 have EM:=Ab (C8.kept (Aa HX) x);go_wp2_with fail
 generalize((w.alloc (j1 #[O b,U m (Z a) n] 104)).alloc (j1 #[X J 0,O ⟨#[]⟩,U Y 0 0,U Y 0 0] 189)).alloc (j1 #[X J 0,O b,U Y 0 0] 187)=w1 at x I G EM⊢;clear C
 go_loopg [12] (Z a) (λgk i wr=>∃(t:Nat) (H:ml),i=X J t/\t<=Z a/\gk=Z a-t/\nc (AI wr (N+1+1) [X J 0,O b,H] 187)/\nc (AI wr (N+1) [X J 0,O ⟨#[]⟩,U Y 0 0,U Y 0 0] 189)/\nc (oi wr (N+1+1+1) 215 2 H t (((a.take t).map Kq).flatMap Ar))/\nc (Ac [] w wr))
 case atStart=>exact⟨0,U Y 0 0,rfl,by omega,rfl,I,G,mS _ _ _ _,x⟩
 case round=>
  clear I G x;obtain⟨t,H,rfl,ht,AH,o,c,j,B⟩:=hrel;have HG:=Ab AH;clear AH;obtain⟨g,d,rfl⟩:=Al j;have W:=o.cell 0;have m1:=o.cell 1;have m2:=o.cell 2;have mf:=o.frozen 2;simp at W m1 m2;have HP:=o.lt;by_cases P:t<Z a
  ·(have HR:(t:Int)<(Z a:Int):=by omega);(have HL:(0:Int)<=(t:Int):=by omega);obtain⟨ga,HJ,AB,_,R⟩:=AC (f:=Ai) (l:=a) (C8.kept (Aa HX) B) (λ_ _=>rfl) t P;have M:=R t P 0 (by omega);simp only[mu]at AB;obtain⟨rfl,-,rfl⟩:=AB;simp[Ai]at M;have Ax:nc (((a.take t).map Kq).flatMap Ar++[X .i32 0,O a[t]]=((a.take (t+1)).map Kq).flatMap Ar):=by
    show _=_;rw[mx P,nk,mY];rfl
   obtain⟨D,T⟩:=rd (a[t]);rw[T]at M Ax;clear T R;go_wp2_with (at_builtin;refine mZ _ rfl (.tmp 17) (.tmp 20) _ rfl (N+1+1+1) 215 i0 _ 2 24 underlying185 FL B9 FT E0 rfl (by omega) (U g t d) t (((a.take t).map Kq).flatMap Ar) rfl (mE (Aa j) _) ⟨wr.heap.size,0,Y⟩ 1 1 [X .i32 0,O D] rfl rfl (mW (m7 wr _)) (by simp[Value.oneCell']) (by omega) (by unfold maxLen;omega) (by omega) (by simp;omega) (wr.heap.size+1) (by simp) ?_;intro r u w5 L y FB FC;have z:=((Aa o).alloc _).grown y (Ba (Aa j) (N+1+1) (by omega));have A2:=((Aa c).alloc _).grown y (Ba (Aa j) (N+1) (by omega));have q5:=z.cell 2;have FA:=z.frozen 2;simp at q5)
   have HK:=(L.lt r rfl).1;have FF:=Ab (z.set 2 (U (V ⟨r,0,Y⟩) (t+1) u));have B2:=Ab (A2.zB ⟨N+1+1,2,Y⟩ (by simp) (U (V ⟨r,0,Y⟩) (t+1) u));have F:=Ah L (p:=⟨N+1+1,2,Y⟩) (by simp[qX];omega) (U (V ⟨r,0,Y⟩) (t+1) u);rw[Aa Ax]at F;have Go:=Ab F;have Ha:=Ab ((((Aa B).alloc _).grown y (λk hk=>lx (by have h1:=(World.ownsRow.lt (Aa j) k hk).1;have h2:=Aa A;omega))).setCell (p:=⟨N+1+1,2,Y⟩) (lx (by have h2:=Aa A;show _<=N+1+1;omega)) (U (V ⟨r,0,Y⟩) (t+1) u));clear L y FB FC z A2 FA q5 F j o c B W m1 m2 mf M
   go_roundg (Z a-(t+1))
   case measure=>have:=Aa HG;omega
   case rel=>exact⟨t+1,U (V ⟨r,0,Y⟩) (t+1) u,by go_num,by omega,rfl,FF,B2,Go,Ha⟩
  ·(obtain rfl:t=Z a:=by omega);have E:nc (oi wr (N+1+1+1) 215 2 (U g (Z a) d) (Z a) ((a.map Kq).flatMap Ar)):=by
    have h:=Aa j;rw[nR]at h;exact h
   have r0:=c.cell 0;have r1:=c.cell 1;have r2:=c.cell 2;have r3:=c.cell 3;have HE:=c.frozen 0;have HC:=c.frozen 1;have HD:=c.frozen 2;have HM:=c.frozen 3;simp at r0 r1 r2 r3;(have HQ:¬(Z a:Int)<(Z a:Int):=by omega);clear j HG;have CL:nc (World.ownsRow ((((wr.setCell ⟨N+1,0,Y⟩ (X J 0)).setCell ⟨N+1,1,Y⟩ (O b)).setCell ⟨N+1,2,Y⟩ (U g (Z a) d)).setCell ⟨N+1,3,Y⟩ (U Y 0 0)) w.heap.size 215 2 (U g (Z a) d) (Z a) ((a.map Kq).flatMap Ar)):=by
    (have hb:∀q,(U g (Z a) d).ownBlock=V q->q≠N+1:=λq hq=>by have:=(World.ownsRow.lt (Aa E) q hq).1;omega);(have v:(U g (Z a) d).ownBlock≠V (N+1):=λe=>hb _ e rfl);exact Ak (Ah (Ah (Ah (Ah (Aa E) (p:=⟨N+1,0,Y⟩) v _) (p:=⟨N+1,1,Y⟩) v _) (p:=⟨N+1,2,Y⟩) v _) (p:=⟨N+1,3,Y⟩) v _) (by have:=Aa A;omega)
   (have s:w.heap.size<=N+1:=by have:=Aa A;omega);have CW:=Ab (((((Aa B).setCell (p:=⟨N+1,0,Y⟩) (lx s) (X J 0)).setCell (p:=⟨N+1,1,Y⟩) (lx s) (O b)).setCell (p:=⟨N+1,2,Y⟩) (lx s) (U g (Z a) d)).setCell (p:=⟨N+1,3,Y⟩) (lx s) (U Y 0 0));have Q:=(((Aa c).set 0 (X J 0)).set 1 (O b)).set 2 (U g (Z a) d)|>.set 3 (U Y 0 0);simp only[mr,mt]at Q;have EK:=Ab Q;clear Q s E;(go_wp2_with fail);refine m5 (Cj rfl rfl (Aa EK) underlying189 rfl (by kernel_rfl)) rfl ?_;exact⟨g,d,rfl,CL,CW⟩
structure il(pcs:rc CU)(cs:rc AV)(s:zA):Prop where
 same:Xg pcs s=E3 cs s
 fact:E3 cs s=0->dW s=V (Bq (Cs s))/\AL (Cs s)
def EF(bb:Nat)(lad:Option Addr)(lcp:Nat)(pcs:rc CU)(sv:ml)(r:Int×rc Af)(w:ly)(e:Ending)(w':ly):Prop:=∃(sad:Option Addr) (scp:Nat) (fs:rc Eb),e=kt (X J r.1)/\Gg w' bb lad lcp pcs sad scp fs/\Cx fs r.2/\Ac (bb::sv.ownBlock.toList) w w'/\∀q,(U sad (Z fs) scp).ownBlock=V q->sv.ownBlock=V q\/w.heap.size<=q
def Gg.rstT{d:Option Addr}{c:rc Eb}(h:Gg w n o m p d i c)(k:Ac (n::(U d (Z c) i).ownBlock.toList) w v):Gz [117,104] w v:=Gz.of k (λq a l t s b=>by
 rcases mA.1 a with rfl|a
 .have:=h.base
  unfold AI at this
  rw[this]at b
  simp only[mB,Obj.cells.injEq]at b
  rw[<-b.2.1]
  simp
 .simp only[oK]at a
  rcases h.facts.row.2 with⟨e,_⟩|⟨g,r,j,e,_,f,_⟩
  .rw[e]at a;simp[qX]at a
  .rw[e]at a
   simp only[qX,mB]at a
   subst a
   rw[f]at b
   simp only[mB,Obj.cells.injEq]at b
   rw[<-b.2.1]
   simp)
theorem Xu(m:Nat)(x:Option Addr)(v:Nat)(n:rc CU)(r:Option Addr)(o:Nat)(f:rc Eb)(l:rc AV)(u:rc Af)(s:zA)(w:ly)(h:Gg w m x v n r o f)(EY:Cx f u)(FC:il n l s)(FL:Z n<=12)(hf:∀c∈n,Lo c/\Z (Bn c)<=70000)(CW:∀c∈n,Z c.zD<=1000)(FT:s.size<=9223372036854775807)(HL:Z f<=1000):
  Calls prog 33 #[j3 (V ⟨m,0,Y⟩),O s] w (EF m x v n (U r (Z f) o) (Fj l u s) w):=by
 have FA:=Ab (LA x v n s w h.prog FL hf CW FT);have HB:=Ab h;have z:=Ab EY;have T:=Ab FC;have c0:=h.base.cell 0;simp at c0;have B9:=Ab (LW m w);clear h EY FC hf CW;go_enter func33,ntmps33;go_wp2_with fail
 refine B9.mono ?_;rintro _ R ⟨rfl,FO⟩;subst FO;go_wp2_with fail
 refine FA.mono ?_;rintro _ y ⟨⟨⟨d,a⟩,xv⟩,rfl,N,AT,AH,W⟩;obtain⟨g,i,e⟩:=Al AT;simp only at e N AH;subst e;simp only[AM];rw[(Aa T).same]at N⊢;have AR:=Ab (HB.kept W);have EK:=Ab W;have A1:=Ab N;have B0:=Ab AT;clear FA N AT W B9 c0;by_cases C:E3 l s=0
 .have FF:(E3 l s !=0)=K:=by simp[C]
  obtain⟨BS,S⟩:=(Aa T).fact C;have D:(⟨d,a⟩:CJ)=Bq (Cs s):=by
   have:=(Aa A1 C).symm.trans BS;exact pH this
  have B:nc (Fj l u s=if DB u (Cs s)=jj then(8,u)else(0,A9 u (Cs s))):=by show _=_;unfold Fj;rw[mK C]
  have M:=Ab (rf y [O d,U g (Z a) i] 104);have F:=Ab (AR.kept ((re [] y).alloc (j1 [O d,U g (Z a) i].toArray 104)));have Q:=Ab (EK.alloc (j1 [O d,U g (Z a) i].toArray 104));have A0:=Ab (C8.kept (Aa B0) ((re [] y).alloc (j1 [O d,U g (Z a) i].toArray 104)));go_wp2_with fail
  change Code.wp _ _ _ _ (y.alloc (j1 [O d,U g (Z a) i].toArray 104));generalize y.alloc (j1 [O d,U g (Z a) i].toArray 104)=w3 at M F Q A0⊢;obtain⟨E,hX⟩:=rd y.heap.size;rw[hX]at M⊢;clear hX;have EX:nc (∀b,Ac [] w3 b->oa b ⟨E,0,Y⟩=V (O d)/\oa b ⟨E,1,Y⟩=V (U g (Z a) i)):=λb j=>⟨j.cellAt (by have:=M.cell 0;simpa using this),j.cellAt (by have:=M.cell 1;simpa using this)⟩
  have EM:nc (∀b,Ac [] w3 b->Calls prog 60 #[j3 (V ⟨m,1,Y⟩),oj #[O d,U g (Z a) i]] b λe A=>e=kt (q8 (DB u (Cs s)))/\Ac [] b A):=λb j=>by
   refine(JO m 1 r o f ⟨⟨d,a⟩,U g (Z a) i⟩ b (by have:=(F.kept j).base.cell 1;simpa using this) (F.kept j).facts (C8.kept (Aa A0) j) AH (by omega) ((Aa z).mono ⟨d,a⟩)).mono ?_;rintro _ A ⟨p,rfl,hc,k⟩;refine⟨?_,k⟩;(have L:E8 f (Bq (Cs s)) p:=by rw[<-D];exact hc);show kt (q8 (De f ⟨d,a⟩ p))=_;rw[D,(Aa z).zk S L]
  have FB:nc (∀b,Ac [] w3 b->DB u (Cs s)=K->Calls prog 61 #[j3 (V ⟨m,1,Y⟩),oj #[O d,U g (Z a) i]] b λe A=>e=kt (.tuple #[])/\EF m x v n (U r (Z f) o) (Fj l u s) R (kt (X J 0)) A):=λb j AB=>by
   have I:=F.kept j;refine(OP m 1 [U x (Z n) v,U r (Z f) o] 117 r o f ⟨⟨d,a⟩,U g (Z a) i⟩ b I.base rfl (by decide) (by decide) I.facts (C8.kept (Aa A0) j) AH (by omega) ((Aa z).mono ⟨d,a⟩)).mono ?_;rintro _ A ⟨rfl,⟨p,ad,cp,hc,HG,HE,HF⟩,B2⟩;(have L:E8 f (Bq (Cs s)) p:=by rw[<-D];exact hc);(have hh:De f (Bq (Cs s)) p=K:=by rw[(Aa z).zk S L];exact AB);have he:LG f ⟨⟨d,a⟩,U g (Z a) i⟩ p=f.take p++⟨⟨d,a⟩,U g (Z a) i⟩::f.drop p:=by
    unfold LG;show(if De f ⟨d,a⟩ p=jj then _ else _)=_;rw[D,hh];rfl
   have FP:=I.rstT B2;have HI:=(Q.trans j).size;refine⟨rfl,ad,cp,LG f ⟨⟨d,a⟩,U g (Z a) i⟩ p,by rw[Aa B,AB];rfl,⟨HG,I.prog.rst FP (λt ht=>by simp at ht;rcases ht with h|h<;>simp[h]),HE⟩,?_,(Ac.mono (Q.trans j) (by simp)).trans B2,λq G=>?_⟩
   .rw[Aa B,AB,he];exact(Aa z).zu D S L hh
   .rcases HF q G with h|h
    .exact lo h
    .exact lx (by omega)
  clear D BS S AR B0 A1 T
  go_region_held3 (λb=>Ac [] w3 b/\oa b ⟨E,0,Y⟩=V (O d)/\oa b ⟨E,1,Y⟩=V (U g (Z a) i)) ((go_split_ands;refine(fun(E0:Ac [] w3 _)=>And.intro E0 (EX _ E0)) ?_;repeat (first|assumption|exact re [] _|refine Ac.drew ?_|refine Ac.alloc ?_ _))) ((go_at_call 60;refine(EM _ (by go_split_ands;assumption)).mono ?_;rintro _ H ⟨rfl,k5⟩;have P:Ac [] w3 H:=(by go_split_ands;exact Ac.trans (by assumption) k5);clear k5))
  rename_i FW;clear FW EM;cases HS:DB u (Cs s)with
  |true=>
   have HO:nc (EF m x v n (U r (Z f) o) (Fj l u s) R (kt (X J 8)) H):=⟨r,o,f,by rw[Aa B,HS];rfl,F.kept P,by rw[Aa B,HS];exact z,Ac.mono (Q.trans P) (by simp),λq G=>lo G⟩;(go_wp2_with fail);go_ret;exact HO
  |false=>
   obtain⟨d1,d2⟩:=EX H P;(have BA:nc (∀b,Ac [] H b->Calls prog 61 #[j3 (V ⟨m,1,Y⟩),oj #[O d,U g (Z a) i]] b λe A=>e=kt (.tuple #[])/\EF m x v n (U r (Z f) o) (Fj l u s) R (kt (X J 0)) A):=λb j=>FB b (P.trans j) HS);clear FB;go_wp2_with fail
   go_region_law (go_simp;go_at_call 61;refine(BA _ ((re [] H).drew)).mono ?_;rintro _ w6 ⟨rfl,BT⟩;have Ha:=Ab BT;clear BT)
   all_goals
    clear BA;(go_wp2_with fail);go_ret;exact Ha
 .have FF:(E3 l s !=0)=jj:=by simp[C]
  have B:nc (Fj l u s=(E3 l s,u)):=by show _=_;unfold Fj;rw[mJ C]
  have HO:nc (EF m x v n (U r (Z f) o) (Fj l u s) R (kt (X J (E3 l s))) (y.alloc (j1 #[O d,U g (Z a) i] 104))):=⟨r,o,f,by rw[Aa B],AR.kept ((re [] y).alloc _),by rw[Aa B];exact z,(Ac.mono (Aa EK) (by simp)).alloc _,λq G=>lo G⟩;go_wp2_with fail
  go_ret;exact HO
