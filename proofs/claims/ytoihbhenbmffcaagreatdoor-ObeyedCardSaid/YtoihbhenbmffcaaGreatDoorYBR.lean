import Derived.Test.YtoihbhenbmffcaaGreatDoorYBC
import Derived.Test.YtoihbhenbmffcaaGreatDoorYBP
import Derived.Test.YtoihbhenbmffcaaGreatDoorYAT
set_option linter.all false
set_option maxHeartbeats 0
open List renaming length->Z,toArray->j3,replicate->lV
open Option renaming none->Y,some->V
open Go.Value renaming slice->U,int->X,string->O,agg->lR,bool->lT
open Bool renaming false->K,true->j1
open Go.IntKind renaming i64->J
open Go.Obj renaming cells->j2
open Go.Ending renaming returned->lo
open Or renaming inr->ly
open Go renaming World->l9
open Go.RowKit renaming Hid->lO
open Go.World renaming ownsRow->lQ
open ByteArray renaming empty->lU
open Go.Act renaming put->lY
namespace Go.Proofs.YtoihbhenbmffcaaGreatDoor
open Go.RowKit Go.Proofs.Tryz
def UW(s:zA)(at_:Nat)(a:Bool):(AI s at_ a).1.s.size<=s.size:=by
 unfold AI;split
 .exact ik _
 .split
  .split
   .exact ik _
   .split
    .exact Ph _ _ _
    .split
     .exact ik _
     .show(ByteArray.extract _ _ _).size<=_;rw[iW];omega
  .exact ik _
def bj(s:zA)(at_:Nat):∀t∈(Ch s at_).1,t.s.size<=s.size:=by
 fun_induction Ch s at_ with
 |case1 at_ hc _ _ ih=>
  intro t a;rcases gP.1 a with rfl|a
  .exact UW _ _ _
  .exact ih t a
 |case2 at_ hc=>
  intro t a;rw[gN]at a;subst a;exact UW _ _ _
def fM(s:zA)(A:Df):Prop:=A.name.size<=s.size/\∀t∈A.args,t.s.size<=s.size
def Mp(s:zA)(at_:Nat)(b:Bool):fM s (AS s at_ b).1:=by
 unfold AS;refine⟨Ph _ _ _,?_⟩;show∀t∈(D2 s _).1,_;unfold D2;split
 .intro t a;cases a
 .exact bj _ _
def R5(s:zA):fM s Gy:=⟨ik _,λt a=>by cases a⟩
def XN(s:zA)(at_:Nat):fM s (Da s at_).1.A:=by
 unfold Da;simp only;split
 .exact Mp _ _ _
 .split
  .exact Mp _ _ _
  .unfold Ig;split
   .exact R5 s
   .exact R5 s
def be(s:zA)(at_:Nat):∀x∈(Bl s at_).1,fM s x.A:=by
 fun_induction Bl s at_ with
 |case1 at_ hc _ _ ih=>
  intro t a;rcases gP.1 a with rfl|a
  .exact XN _ _
  .exact ih t a
 |case2 at_ hc=>
  intro t a;rw[gN]at a;subst a;exact XN _ _
def gv(s:zA)(c:Ck):Prop:=fM s c.head/\∀x∈c.body,fM s x.A
def Lw(s:zA)(at_:Nat):gv s (An s at_).1:=by
 unfold An;refine⟨Mp _ _ _,?_⟩;show∀x∈(DG s _ _).1,_;unfold DG;split
 .split
  .exact be _ _
  .intro x a;cases a
 .intro x a;cases a
def F8(s:zA)(at_:Nat):∀c∈(Ap s at_).1,gv s c:=by
 fun_induction Ap s at_ with
 |case1 at_ ha hc ih=>
  intro c a;rcases gP.1 a with rfl|a
  .exact Lw _ _
  .exact ih c a
 |case2 at_ ha hc=>
  intro c a;rw[gN]at a;subst a;exact Lw _ _
 |case3 at_ ha=>intro c a;cases a
def LR:∀(k:Nat) (x:zA),(KD k x).size<=x.size+k
 |0,x=>ig _
 |k+1,x=>by
  rw[KD];split
  .have h:=LR k (Po++x);have a:Po.size=1:=rfl;rw[gZ,a]at h;omega
  .omega
def NQ(x:zA):(AA x).size<=x.size+3:=by
 unfold AA;split
 .exact LR 3 x
 .omega
def Rn(cs ds:mc A6):Prop:=∀c∈cs,∃d∈ds,d.head=c.head/\Ak d=Ak c
def Li{cs ds:mc A6}(h:cs.map A6.erase=ds.map A6.erase):Rn cs ds:=by
 intro c b;obtain⟨d,a,e⟩:=(F2.of_map h).yS c b;exact⟨d,a,(congrArg Ck.head e).symm,(congrArg Ck.body e).symm⟩
def Rn.inst{cs ds:mc A6}(h:Rn cs ds){i:Gr Af}(g:Fi cs i):Fi ds i:=by
 obtain⟨c,j,σ,a,rfl⟩:=g;obtain⟨d,e,f,b⟩:=h c j;refine⟨d,e,σ,?_,?_⟩
 .unfold Rf at a⊢;rw[b];exact a
 .unfold CI;rw[f,b]
def Rn.consts{cs ds:mc A6}(h:Rn cs ds){x:zA}(a:x∈consts cs):x∈consts ds:=by
 unfold Go.Proofs.YtoihbhenbmffcaaGreatDoor.consts at a⊢;obtain⟨c,e,a⟩:=iI.1 a;obtain⟨d,b,f,_⟩:=h c e;exact iI.2 ⟨d,b,by rw[f];exact a⟩
def Rn.factIn{cs ds:mc A6}(h:Rn cs ds){f:Af}(a:DP cs f):DP ds f:=by
 refine⟨?_,λx j=>h.consts (a.args x j)⟩;obtain⟨c,i,e⟩:=a.zh;obtain⟨d,b,g,_⟩:=h c i;exact⟨d,b,by rw[g];exact e⟩
def Rn.inv{cs ds:mc A6}(h:Rn cs ds)(c:Rn ds cs){L:zA->Nat}{n:Nat}{s:mc Af}(a:Il cs L n s):Il ds L n s:=by
 have e:Fi cs=Fi ds:=funext λi=>propext ⟨h.inst,c.inst⟩
 exact⟨by rw[<-e];exact a.work,a.zL,λf b=>h.factIn (a.zZ f b)⟩
def Rn.zS{cs ds:mc A6}(j:Rn ds cs){L:zA->Nat}(g:Cn cs L):Cn ds L:=by
 refine⟨λd e x b a=>?_,λd e x b a=>?_⟩<;>obtain⟨c,h,f,i⟩:=j d e
 .rw[<-f];exact g.pos c h x (by rw[i];exact b) a
 .rw[<-f];exact g.neg c h x (by rw[i];exact b) a
def JF(s:zA)(t:zA)(er:Int):Prop:=
 (er≠0->t=lU)/\
 (er=0->∃(cs:mc A6) (L:zA->Nat) (N:Nat) (u:mc Af),cs.map A6.erase=(Ap s (Ae s 0)).1/\Cn cs L/\Il cs L N u/\(∀c∈cs,L c.head.name<N)/\t=Tl lU (u.map BN))
def WP{s t g:zA}{f:Int}(j:JF s t f)(k:XJ s g f):t=g:=by
 by_cases e:f=0
 .obtain⟨x,L,N,u,h,m,q,o,rfl⟩:=j.2 e;obtain⟨y,z,i,n,w,p,rfl⟩:=k.2 e;have a:=Li (h.trans i.symm);have b:=Li (i.trans h.symm);refine n.text w p (b.zS m) (a.inv b q) (λd l=>?_);obtain⟨c,v,r,_⟩:=b d l;rw[<-r];exact o c v
 .rw[j.1 e,k.1 e]
def Np{s:zA}(G:s.size<=300){w:l9}{D:Value}{cs:mc PC}{g:mc Db}(i:C1 (C4 s) 0 []=.ok cs)(j:g.map Db.pc=cs)(C:C9 w D g){r:Int×Int}(z:ED s (fo s) r)(v:r.1=0):
  r=(0,0)/\∃a:mc A6,a.map A6.erase=(Ap s (Ae s 0)).1/\LW g a:=by
 have h:=JC s;rw[i]at h;have d:((Ap s (Ae s 0)).1.map VX).map A6.erase=(Ap s (Ae s 0)).1:=by
  rw[iX]
  conv=>rhs;rw[<-List.map_id (Ap s (Ae s 0)).1]
  exact iY λc _=>Oh c
 generalize(Ap s (Ae s 0)).1.map VX=a at d;have E:E3 s (Cp a).1 (Cp a).2:=by
  unfold E3;rw[gV (by omega),gV (by rw[h.1];simp)];exact⟨a,d,rfl⟩
 have q:=It E z;have o:Cp a=(0,0):=J4 (by rw[<-show r.1=(Cp a).1 by rw[q]];exact v);refine⟨by rw[q,o],a,d,?_⟩;have F:=(IL s).1;have y:=Jk (by omega) _ 0 [] (ig _) (by simp) i;have t:g.map Db.pc=a.map λr=>cX r.erase:=by
  rw[j,h.2.1,<-d,iX];rfl
 have m:∀c∈g,JR c.pc:=λc f=>y.1 _ (by rw[<-j];exact gX.2 ⟨c,f,rfl⟩)
 refine⟨(F2.of_map t).mono (λc f b l k=>cV k (m c f) (C.each c f).wf ?_),Ho h.1 d o,m,λc f=>?_⟩
 .exact h.2.2 b.erase (by rw[<-d];exact gX.2 ⟨b,l,rfl⟩)
 .obtain⟨b,l,k⟩:=(F2.of_map t).yS c f;have n:=F8 s (Ae s 0) b.erase (by rw[<-d];exact it l);refine⟨?_,λp i=>?_⟩
  .have e:c.hn=b.erase.head.name:=congrArg PC.hn k;rw[e];have:=n.1.1;omega
  .have e:c.zD.map Prod.fst=b.erase.body.map KF:=congrArg PC.body k;(have j:p.1∈b.erase.body.map KF:=by rw[<-e];exact it i);obtain⟨x,B,u⟩:=gX.1 j;rw[<-u];have:=(n.2 x B).1;show x.A.name.size<=_;omega
def PP{s:zA}(w:s.size<=300){d:mc A6}(h:d.map A6.erase=(Ap s (Ae s 0)).1){u:mc Af}(q:∀f∈u,DP d f){fs:mc EN}(k:fs.map EN.f=u.map BN):
  ∀p∈fs,p.f.name.size<=1000000/\∀x∈p.f.zC,x.size<=1000000:=by
 intro p i;have b:p.f∈u.map BN:=by rw[<-k];exact it i
 obtain⟨f,j,e⟩:=gX.1 b;have g:=q f j;rw[<-e];refine⟨?_,λx v=>?_⟩
 .obtain⟨c,a,n,_⟩:=g.zh;show f.name.size<=_;rw[n];have:=(F8 s (Ae s 0) c.erase (by rw[<-h];exact it a)).1.1;have r:c.erase.head=c.head:=rfl;rw[r]at this;omega
 .obtain⟨y,l,rfl⟩:=gX.1 v;have a:=g.args y l;unfold consts at a;obtain⟨c,m,b⟩:=iI.1 a;obtain⟨t,o,rfl⟩:=gX.1 b;have:=(F8 s (Ae s 0) c.erase (by rw[<-h];exact it m)).1.2 t (ir.1 o).1;have:=NQ t.s;omega
set_option maxRecDepth 100000
theorem NG(s:zA)(w:l9)(A1:s.size<=9223372036854775807):
  Calls prog 14 #[O s] w λe i=>∃(t:zA) (r:Int×Int),e=lo (.tuple #[O t,X J r.1,X J r.2])/\ED s (fo s) r/\JF s t r.1/\Ac [] w i:=by
 have I:=Ab (Nz s (fo s) w A1 (λf cs m x p=>MJ f m p));go_enter func14,ntmps14;go_wp2_with fail
 refine I.mono ?_;rintro _ q ⟨R,n,cp,⟨j,F⟩,rfl,AO,H,E⟩;have A:=Ab AO;have y:=Ab H;have Q:=Ab E;clear I AO H E;by_cases k:j=0
 .subst k;obtain⟨f,cs,x,m,p,rfl,B⟩:=y rfl;obtain⟨T,g,D,C⟩:=Np f m p B A rfl;obtain rfl:F=0:=(Prod.mk.inj T).2;have BA:((0:Int) !=0)=K:=rfl;have Ax:=Ab (N0 R cp x g q B C);have EU:lO (∀a u L N b,Z2 q a (U R (Z x) cp) [] u b->Cn g L->Il g L N u->(∀c∈g,L c.head.name<N)->
    Calls prog 42 #[.pointer (V ⟨a,1,Y⟩)] b λe i=>∃t,e=lo (O t)/\JF s t 0/\Ac [] q i):=by
   intro a u L N b G h1 v h3;obtain⟨BT,B0,W,EK,DT,xs,o,l,d,_⟩:=G.out;have hc:=o.cell 1;have EM:=(C.zh v).2.2;(have CL:Z W=Z u:=by have:=congrArg List.length d.same;simpa using this);refine(TU a 1 BT B0 W b (by simpa using hc) l (by omega) (PP f D v.zZ d.same)).mono ?_;rintro _ i ⟨rfl,hk⟩;exact⟨_,rfl,⟨λh=>absurd rfl h,λ_=>⟨g,L,N,u,D,h1,v,h3,by rw[d.same]⟩⟩,G.kept.trans hk⟩
  clear f m p B T D C y;go_wp2_with fail
  refine Ax.mono ?_;rintro _ b ⟨a,u,L,N,rfl,o,l,d,S⟩;have P:=Ab (EU a u L N b o l d S);clear Ax EU o l d S;go_wp2_with fail
  refine P.mono ?_;rintro _ w3 ⟨t,rfl,hF,M⟩;have z:=Ab hF;have B9:=Ab (Q.trans M);clear P hF M;go_wp2_with fail
  go_ret3;exact⟨t,(0,0),rfl,A,z,B9⟩
 .have BA:(j !=0)=j1:=by simp[k]
  have z:lO (JF s lU j):=⟨λ_=>rfl,λh=>absurd h k⟩;clear k y;go_wp2_with fail
  go_ret3;exact⟨lU,(j,F),rfl,A,z,Q⟩
def tl(t:AE):Nat:=if t.v=0 then t.s.size else 1
def eu:mc AE->Nat
 |[]=>0
 |t::l=>tl t+eu l
def RC{s:zA}{i:Nat}(h:(AY s i K).2.2=K):i+(AY s i K).1.size<=(AY s i K).2.1/\(AY s i K).2.1<=s.size:=by
 have b:=BU s i;by_cases a:AC Az s (Ae s i)=Ae s i\/4<AC Az s (Ae s i)-Ae s i
 .rw[DY rfl rfl a]at h;cases h
 .rw[Kf rfl rfl a];have c:=NP (p:=Az) (s:=s) (i:=Ae s i) (λe=>a (Or.inl e));have d:=B7 Az s (Ae s i);simp only;rw[iW];omega
def RN{s:zA}{i:Nat}(h:(AI s i K).2.2=K):i+tl (AI s i K).1<=(AI s i K).2.1:=by
 have g:=BU s i;unfold AI at h⊢;rw[gV (by simp)]at h⊢;by_cases c:Ae s i<s.size
 .rw[dif_pos c]at h⊢;by_cases a:C2 s[Ae s i]=j1
  .rw[gY a]at h⊢;unfold tl;have f:s[Ae s i]≠0:=by
    intro e;rw[e]at a;exact absurd a (by decide)
   simp only[gV f];omega
  .rw[gV a]at h⊢;by_cases d:(!Ao s[Ae s i])=j1
   .rw[gY d]at h⊢;have:=(RC h).1;unfold tl;simp only[if_true];omega
   .rw[gV d]at h⊢;by_cases b:3<AC Ao s (Ae s i)-Ae s i\/(s[Ae s i]=48/\1<AC Ao s (Ae s i)-Ae s i)
    .rw[gY b]at h;cases h
    .rw[gV b]at h⊢;have j:=B7 Ao s (Ae s i);unfold tl;simp only[if_true];rw[iW];omega
 .rw[dif_neg c]at h;cases h
def VZ{s:zA}{i:Nat}(h:(Ch s i).2.2=K):0<Z (Ch s i).1/\i+eu (Ch s i).1+Z (Ch s i).1<=(Ch s i).2.1+1:=by
 fun_induction Ch s i with
 |case1 i hc _ _ ih=>
  have d:=ih h;have a:(AI s i K).2.2=K:=by
   have:=hc.1;rw[iq]at this;simpa using this.1
  have b:=RN a;have c:(AI s i K).2.1+1<=BX s (AI s i K).2.1 (AI s i K).2.2 44:=by
   unfold BX;rw[gY hc.1];have:=BU s (AI s i K).2.1;rw[a];unfold AM;simp;omega
  simp only[gW,eu];omega
 |case2 i hc=>
  have b:=RN h;have c:=Ek s (AI s i K).2.1 (AI s i K).2.2 44;simp only[gW,iv,eu];omega
def Ql{s:zA}{i:Nat}{a:Bool}{c:UInt8}(h:(Bn s i a c).2=K):a=K/\i+1<=(Bn s i a c).1:=by
 unfold Bn at h⊢;simp only[Bool.not_eq_false']at h;have b:(!a&&D1 s (AM s i a) c)=j1:=by simpa using h
 have d:a=K:=by rw[iq]at b;simpa using b.1
 refine⟨d,?_⟩;unfold BX;rw[gY b];subst d;have:=BU s i;unfold AM;simp;omega
def Wm{s:zA}{i:Nat}(h:(AS s i K).2.2=K):0<Z (AS s i K).1.args/\i+(AS s i K).1.name.size+eu (AS s i K).1.args+Z (AS s i K).1.args+1<=(AS s i K).2.1:=by
 unfold AS at h⊢;simp only at h⊢;obtain⟨a,b⟩:=Ql h;unfold D2 at a b⊢;have k:=BU s i;cases hm:(Bn s (AY s (AM s i K) K).2.1 (AY s (AM s i K) K).2.2 40).2 with
 |true=>rw[hm]at a;simp at a
 |false=>
  rw[hm]at a b;simp only[gO,if_false]at a b⊢;obtain⟨j,e⟩:=Ql hm;have g:=(RC j).1;obtain⟨c,f⟩:=VZ a;have d:AM s i K=Ae s i:=rfl;rw[d]at e g c f b a⊢;refine⟨c,?_⟩;omega
def IT{s:zA}{i:Nat}(h:(An s i).2.2=K):0<Z (An s i).1.head.args/\Ae s i+(An s i).1.head.name.size+eu (An s i).1.head.args+Z (An s i).1.head.args+2<=(An s i).2.1/\
  ((An s i).1.body≠[]->Ae s i+(An s i).1.head.name.size+eu (An s i).1.head.args+Z (An s i).1.head.args+3<=(An s i).2.1):=by
 unfold An at h⊢;simp only at h⊢;obtain⟨a,b⟩:=Ql h;have f:=(Jg a).1;obtain⟨d,k⟩:=Wm f;unfold DG at a b⊢;by_cases e:(!(AS s (Ae s i) K).2.2&&D1 s (AM s (AS s (Ae s i) K).2.1 (AS s (Ae s i) K).2.2) 58)=j1
 .rw[gY e]at a b⊢;by_cases c:D1 s (BX s (AS s (Ae s i) K).2.1 (AS s (Ae s i) K).2.2 58) 45=j1
  .rw[gY c]at a b⊢;have g:=Ek s (AS s (Ae s i) K).2.1 (AS s (Ae s i) K).2.2 58;have j:=Ve s (BX s (AS s (Ae s i) K).2.1 (AS s (Ae s i) K).2.2 58+1);refine⟨d,by omega,λ_=>by omega⟩
  .rw[gV c]at a;cases a
 .rw[gV e]at a b⊢;have g:=Ek s (AS s (Ae s i) K).2.1 (AS s (Ae s i) K).2.2 58;simp only at b⊢;exact⟨d,by omega,λh=>absurd rfl h⟩
def NO:∀(a:mc zA) (s:zA) (b:Bool),(Dl s b a).size=s.size+Z a+(a.map λx=>(BL x).size).sum
 |[],s,b=>by simp[Dl]
 |x::a,s,b=>by
  rw[Dl,NO a,gZ,gZ];have:(if b=j1 then(⟨#[44]⟩:zA)else⟨#[40]⟩).size=1:=by cases b<;>rfl
  rw[this];simp;omega
def ZD(n:zA)(a:mc zA):(E0 ⟨n,a⟩).size=n.size+Z a+(a.map λx=>(BL x).size).sum+2:=by
 unfold E0;rw[gZ,NO];rfl
def bu{t:AE}(h:CX t):(BL (ct t).s).size+(if t.v=0 then 0 else 1)=tl t:=by
 unfold tl;rcases h with⟨a,c⟩|⟨b,_,d⟩
 .rw[gY a,gY a];show(BL (Dt t.s)).size+0=_;rw[Qj c,FU c];rfl
 .have a:t.v≠0:=by intro e;rw[e]at b;exact absurd b (by decide)
  rw[gV a,gV a];show(BL (Dt t.s)).size+1=1;rw[d];have e:Dt lU=lU:=by unfold Dt;rw[gY (show ByteArray.empty.size=0 from rfl)]
  rw[e];have a:=J2 (k:=ByteArray.empty.size) (s:=lU) (by decide);unfold BL;split
  .rw[a];rfl
  .rfl
def R9:∀(a:mc AE),(∀t∈a,CX t)->((a.map ct).map λt=>(BL t.s).size).sum<=eu a/\(eu a<=((a.map ct).map λt=>(BL t.s).size).sum->∀t∈a,t.v=0)
 |[],_=>⟨by simp[eu],λ_ t f=>by simp at f⟩
 |t::a,h=>by
  have d:=bu (h t (by simp));obtain⟨g,e⟩:=R9 a (λx b=>h x (by simp[b]));simp only[ii,List.sum_cons,eu];refine⟨by omega,λi=>?_⟩;by_cases c:t.v=0
  .rw[gY c]at d;intro x b;rcases gP.1 b with rfl|b
   .exact c
   .exact e (by omega) x b
  .rw[gV c]at d;omega
def ej(s:zA):Option CG:=match C1 (C4 s) 0 [] with
 | .ok [c]=>if((E0 ⟨c.hn,c.zE.map AQ.s⟩).toList==s.toList)=j1 then V ⟨c.hn,c.zE.map AQ.s⟩else Y
 |_=>Y
def cW(s:zA):Option CG:=if 300<s.size then Y else(ej s).bind λp=>if 2<Z p.zC then Y else V p
def SG{ts:mc AE}(h:∀t∈ts,CX t)(c:∀t∈ts,t.v=0):(ts.map ct).map AQ.s=(ts.map (AR Bs)).map AA:=by
 rw[iX,iX];refine iY (λt a=>?_);simp only[Function.comp];show Dt t.s=AA (AR Bs t);unfold AR;rw[gY (c t a)];rcases h t a with⟨_,d⟩|⟨b,_⟩
 .exact Qj d
 .rw[c t a]at b;exact absurd b (by decide)
def Sf{s:zA}{i:Nat}(h:(An s i).2.2=K)(d:∀t∈(An s i).1.head.args,t.v=0):AJ (AB Bs (An s i).1.head)/\(AB Bs (An s i).1.head).args≠[]:=by
 have f:=(DF h).head;refine⟨λx j=>?_,?_⟩
 .obtain⟨t,a,rfl⟩:=gX.1 j;unfold AR;rw[gY (d t a)];rcases f.args t a with⟨_,g⟩|⟨c,_⟩
  .exact g
  .rw[d t a]at c;exact absurd c (by decide)
 .intro e;have:=(IT h).1;have b:=congrArg List.length e;unfold AB at b;simp only[ie,iv]at b;omega
def Yl{s:zA}{i:Nat}(h:(An s i).2.2=K)(a:∀t∈(An s i).1.head.args,t.v=0):E0 ⟨(An s i).1.head.name,((An s i).1.head.args.map ct).map AQ.s⟩=C7 (AB Bs (An s i).1.head):=by
 obtain⟨b,c⟩:=Sf h a;rw[<-Ny b c,SG (DF h).head.args a];rfl
def M4{s:zA}(h:Ja s=j1):cW s=V (BN (Er s))/\AJ (Er s)/\(Er s).args≠[]:=by
 unfold Ja at h;rw[iq]at h;obtain⟨k,j⟩:=h;have hF:Er s=AB Bs (An s 0).1.head:=by unfold Er;rw[gY k]
 have A:C7 (Er s)=s:=Jf j;unfold Le at k;simp only[iq,jU,jY]at k;obtain⟨z,d,T,S,D⟩:=k;obtain⟨W,l2,Q⟩:=IT d;have q:=(DF d).head;have AO:=I1 s 0 (ik _);have R:s.size=(An s 0).1.head.name.size+Z (An s 0).1.head.args+((An s 0).1.head.args.map λt=>(AR Bs t).size).sum+2:=by
  have g:=congrArg ByteArray.size A;rw[hF]at g;rw[<-g];unfold C7;rw[gZ];have:∀(e:mc zA) (b:Bool) (u:zA),(GI u b e).size=u.size+(e.map ByteArray.size).sum+(if b then Z e else Z e-1):=by
   intro e
   induction e with
   |nil=>intro b u;cases b<;>simp[GI]
   |cons x e ih=>
    intro b u;rw[GI,ih,gZ];have I:(⟨#[44]⟩:zA).size=1:=rfl;cases b
    .simp;omega
    .simp[gZ,I];omega
  rw[this,gZ];have y:(⟨#[40]⟩:zA).size=1:=rfl;have G:(⟨#[41,46]⟩:zA).size=2:=rfl;unfold AB;simp only[iX,ie,y,G,Function.comp_def];simp;omega
 have w:∀c:mc AE,(∀t∈c,CX t)->(c.map λt=>(AR Bs t).size).sum<=eu c/\(eu c<=(c.map λt=>(AR Bs t).size).sum->∀t∈c,t.v=0):=by
  intro c
  induction c with
  |nil=>intro _;exact⟨by simp[eu],λ_ t j=>by simp at j⟩
  |cons t c ih=>
   intro H;obtain⟨M,E⟩:=ih (λx i=>H x (by simp[i]));have g:(AR Bs t).size+(if t.v=0 then 0 else 1)=tl t:=by
    unfold tl AR;by_cases a:t.v=0
    .rw[gY a,gY a,gY a];rfl
    .rw[gV a,gV a,gV a];have:(Bs.getD (t.v.toNat-65) lU).size=0:=by
      unfold Bs;rw[ia,List.getElem?_replicate];split<;>rfl
     omega
   simp only[ii,List.sum_cons,eu];refine⟨by omega,λN=>?_⟩;by_cases a:t.v=0
   .rw[gY a]at g;intro x i;rcases gP.1 i with rfl|i
    .exact a
    .exact E (by omega) x i
   .rw[gV a]at g;omega
 obtain⟨P,C⟩:=w _ q.args;have l:=C (by omega);have F:Ae s 0=0:=by omega
 have o:(An s 0).2.1=s.size:=by omega
 obtain⟨n,m⟩:=Sf d l;rw[<-hF]at n m;refine⟨?_,n,m⟩;have L:Ap s (Ae s 0)=([(An s 0).1],(Ap s s.size).2):=by
  rw[F,Ap,dif_pos (by omega),dif_pos ⟨d,by rw[d,o,Qe _ _ (by omega)];omega⟩];rw[d,o,Qe _ _ (by omega)];have:(Ap s s.size).1=[]:=by rw[Ap,dif_neg (by omega)]
  rw[this]
 have f:=JC s;rw[L]at f;have r:(Ap s s.size).2=(s.size,K):=by rw[Ap,dif_neg (by omega)]
 rw[r]at f;unfold cW ej;rw[gV z];cases hp:C1 (C4 s) 0 [] with
 |error p=>rw[hp]at f;exact absurd f.1 (by simp)
 |ok cs=>
  rw[hp]at f;obtain⟨_,rfl,_⟩:=f;simp only[ii,jM];have B:=Yl d l;show Option.bind (if((E0 ⟨(An s 0).1.head.name,((An s 0).1.head.args.map ct).map AQ.s⟩).toList==s.toList)=j1 then V (⟨(An s 0).1.head.name,((An s 0).1.head.args.map ct).map AQ.s⟩:CG)else Y) _=_;rw[B,<-hF,gY j];simp only[Option.bind_some];rw[gV (by simp only[ie];exact D),SG q.args l,hF];rfl
def Y4{s:zA}{p:CG}(h:cW s=V p):Ja s=j1:=by
 unfold cW at h;by_cases n:300<s.size
 .rw[gY n]at h;cases h
 .rw[gV n]at h;have r:=JC s;unfold ej at h;cases hp:C1 (C4 s) 0 [] with
  |error q=>rw[hp]at h;simp at h
  |ok cs=>
   rw[hp]at h r;obtain⟨k,a,_⟩:=r;cases hcs:(Ap s (Ae s 0)).1 with
   |nil=>rw[hcs]at a;subst a;simp at h
   |cons c rest=>
    cases rest with
    |cons d rest=>rw[hcs]at a;subst a;simp at h
    |nil=>
     rw[hcs]at a;subst a;simp only[ii,jM]at h;by_cases g:((E0 ⟨(cX c).hn,(cX c).zE.map AQ.s⟩).toList==s.toList)=j1
     .rw[gY g]at h;simp only[Option.bind_some]at h;by_cases i:2<Z ((cX c).zE.map AQ.s)
      .rw[gY i]at h;cases h
      .have B:E0 ⟨(cX c).hn,(cX c).zE.map AQ.s⟩=s:=Jf g;have y:Ae s 0<s.size:=by
        by_cases o:Ae s 0<s.size
        .exact o
        .rw[Ap,dif_neg o]at hcs;cases hcs
       have L:c=(An s (Ae s 0)).1/\(An s (Ae s 0)).2.2=K:=by
        rw[Ap,dif_pos y]at hcs k;by_cases m:(An s (Ae s 0)).2.2=K/\Ae s 0<AM s (An s (Ae s 0)).2.1 (An s (Ae s 0)).2.2
        .rw[dif_pos m]at hcs;simp only[jB]at hcs;exact⟨hcs.1.symm,m.1⟩
        .rw[dif_neg m]at hcs k;simp only[jB]at hcs;exact⟨hcs.1.symm,k⟩
       obtain⟨f,b⟩:=L;obtain⟨H,u,j⟩:=IT b;have v:=(DF b).head;have I:=I1 s (Ae s 0) (by omega);rw[<-f]at H u j v;have N:s.size=c.head.name.size+Z c.head.args+((c.head.args.map ct).map λt=>(BL t.s).size).sum+2:=by
        rw[<-B];show(E0 ⟨c.head.name,(c.head.args.map ct).map AQ.s⟩).size=_;rw[ZD];simp[iX,Function.comp_def]
       obtain⟨M,C⟩:=R9 _ v.args;have D:Ae s 0<=Ae s (Ae s 0):=BU _ _;have A:=C (by omega);(have F:Ae s 0=0:=by omega);rw[F]at f b u j I D;(have G:(An s 0).2.1=s.size:=by omega);have z:c.body=[]:=by
        cases hbb:c.body with
        |nil=>rfl
        |cons x l=>have:=j (by rw[hbb];simp);omega
       have w:Le s=j1:=by
        unfold Le;rw[b,G,i9 n,<-f,z];have E:¬2<Z c.head.args:=by
         (have e:Z ((cX c).zE.map AQ.s)=Z c.head.args:=by show Z ((c.head.args.map ct).map AQ.s)=_;simp);rw[e]at i;exact i
        simp[E]
       unfold Ja;rw[w,jq];unfold Er;rw[gY w,<-Yl b (by rw[<-f];exact A),<-f];exact g
     .rw[gV g]at h;simp at h
def ff(s:zA):cW s=if Ja s=j1 then V (BN (Er s))else Y:=by
 cases h:Ja s with
 |true=>rw[gY rfl];exact(M4 h).1
 |false=>
  rw[gV (by simp)];cases hl:cW s with
  |none=>rfl
  |some p=>rw[Y4 hl]at h;cases h
def Un(x:zA):(Dt x).size<=x.size+3:=by
 unfold Dt;split
 .omega
 .split
  .split
   .exact LR 3 x
   .rw[gZ];have:(⟨#[0]⟩:zA).size=1:=rfl;omega
  .omega
def JO(o:Option CG)(w:l9)(e:Ending)(w':l9):Prop:=∃(p:EN),e=lo (.tuple #[lR (j3 (AW p)),lT o.isSome])/\(∀f,o=V f->p.f=f)/\DS w' p/\Z p.f.zC<=1000/\Ac [] w w'
def JO.none(w w':l9)(k:Ac [] w w'):JO Y w (lo (.tuple #[lR #[O ⟨#[]⟩,U Y 0 0],lT K])) w':=
 ⟨⟨⟨⟨#[]⟩,[]⟩,U .none 0 0⟩,rfl,(λf h=>by cases h),ip _ _ _ _,ik _,k⟩
theorem SS(s:zA)(w:l9)(hs:s.size<=300):
  Calls prog 97 #[O s] w λe w'=>JO (ej s) w e w':=by
 obtain⟨i0,QR,NY,RO,P0⟩:=iR Tryz.zi;have E:ej s=match C1 (C4 s) 0 [] with
  | .ok [c]=>if((E0 ⟨c.hn,c.zE.map AQ.s⟩).toList==s.toList)=j1 then V ⟨c.hn,c.zE.map AQ.s⟩else Y
  |_=>Y:=rfl
 have FF:lO (∀cs,C1 (C4 s) 0 []=.ok cs->∀y:mc Db,y.map Db.pc=cs->∀c∈y,c.hn.size<=1000000/\Z c.zE<=1000/\∀t∈c.zE,t.s.size<=1000000):=by
  intro cs K8 y hm c hc;have L:=MJ hs K8 hm;have SB:=(L.fit c hc).pc.head.2;have Mo:=JC s;rw[K8]at Mo;obtain⟨g1,g2,_⟩:=Mo;have K7:c.pc∈cs:=by rw[<-hm];exact it hc
  rw[g2]at K7;obtain⟨r,hr,LM⟩:=gX.1 K7;have hz:=(F8 s (Ae s 0) r hr).1;have e1:r.head.name=c.hn:=congrArg PC.hn LM;have e2:r.head.args.map ct=c.zE:=congrArg PC.zE LM;refine⟨by rw[<-e1];have:=hz.1;omega,SB,λt ht=>?_⟩;rw[<-e2]at ht;obtain⟨u,hu,rfl⟩:=gX.1 ht;show(Dt u.s).size<=_;have I:=Un u.s;have h2:=hz.2 u hu;omega
 obtain⟨N,hN⟩:∃N,w.heap.size=N:=⟨_,rfl⟩;have HN:=Ab hN;have Go:=Ab ((me [] w).alloc (j2 [O ⟨#[]⟩,U Y 0 0].toArray 104));have BA:=Ab (mf w [O ⟨#[]⟩,U Y 0 0] 104);rw[hN]at BA;clear hN;go_enter func97,ntmps97;refine ma (λKK H4=>?_);go_wp2;refine H4 _ _ ?_;clear H4 KK;rw[Aa HN];change Code.wp _ _ _ _ (w.alloc (j2 [O ⟨#[]⟩,U Y 0 0].toArray 104));generalize w.alloc (j2 [O ⟨#[]⟩,U Y 0 0].toArray 104)=w1 at Go BA⊢;have Nq:=Ab (Jm s w1 hs);have M1:lO (∀M,Ac [] w1 M->ej s=Y->JO (ej s) w (lo (.tuple #[lR [O ⟨#[]⟩,U Y 0 0].toArray,lT K])) ((M.setCell ⟨N,0,Y⟩ (O ⟨#[]⟩)).setCell ⟨N,1,Y⟩ (U Y 0 0))):=λM hk h=>by
  rw[h];exact JO.none _ _ (((Go.trans hk).setCell (p:=⟨N,0,Y⟩) (ly (by have:=Aa HN;show _<=N;omega)) _).setCell (p:=⟨N,1,Y⟩) (ly (by have:=Aa HN;show _<=N;omega)) _)
 go_wp2_with fail
 refine Nq.mono ?_;intro e w2 CL;clear Nq;cases hp:C1 (C4 s) 0 [] with
 |error p=>
  rw[hp]at CL E;obtain⟨rfl,A⟩:=CL;have G:lO (ej s=Y):=E;have j:=Ab (BA.kept A (by simp));have R:=j.cell 0;have P:=j.cell 1;have z0:=j.frozen 0;have z1:=j.frozen 1;simp at R P;have FA:=Ab A;clear hp E FF A;go_wp2;refine im (Au rfl (by rfl) ((j.set 0 _).set 1 _) underlying104 rfl (by kernel_rfl)) rfl ?_;exact M1 _ FA G
 |ok cs=>
  rw[hp]at CL E;obtain⟨ad,cp,y,rfl,A0,FL,A⟩:=CL;have HO:Z cs=Z y:=by rw[<-A0];simp
  rw[HO]at FL⊢;obtain⟨EX,MB⟩:=FL.into;have j:=Ab (BA.kept A (by simp));have R:=j.cell 0;have P:=j.cell 1;have z0:=j.frozen 0;have z1:=j.frozen 1;simp at R P;have FA:=Ab A;by_cases I:Z y=1
  .obtain⟨c,rfl⟩:∃c,y=[c]:=List.length_eq_one_iff.1 I;obtain⟨g,UO,VR,b,a,Nj,Ha,S0,SP,SL,he,H9,d0,d1,d2,d3⟩:=Fq EX 0 (by simp);simp only[kT]at H9;simp only[gM]at he;obtain⟨rfl,-,rfl⟩:=he;have L:=Aa FF cs hp [c] A0 c (by simp);have HV:=(EX.each c (by simp)).head;have HC:ej s=if((E0 ⟨c.hn,c.zE.map AQ.s⟩).toList==s.toList)=j1 then V ⟨c.hn,c.zE.map AQ.s⟩else Y:=by
    rw[E,<-A0];rfl
   subst H9;simp only at L HV HC;simp only[List.length_singleton];have Ix:=Ab HC;have HJ:=Ab HV;have K2:=Ab L;have T0:=L.2.1;clear hp E FF A0 FL EX MB HO L HV HC A I d0 d3;simp only[Nat.zero_mul,iM]at d1 d2;(have T:w.heap.size<=N:=by have:=Aa HN;omega);have RT:N<w2.heap.size:=j.lt;have HY:lO (AH (w2.setCell ⟨N,0,Y⟩ (O b)) N [O b,U Y 0 0] 104):=j.set 0 (O b);have HU:lO (Ac [] w (w2.setCell ⟨N,0,Y⟩ (O b))):=(Go.trans FA).setCell (p:=⟨N,0,Y⟩) (ly T) _;have HL:lO (lQ (w2.setCell ⟨N,0,Y⟩ (O b)) 0 215 2 (U Nj (Z a) Ha) (Z a) (a.flatMap Aq)):=Ag (Aa HJ) (Ar (Aa HJ) (Aa j) (by decide)) _;(go_wp2_with fail);generalize w2.setCell ⟨N,0,Y⟩ (O b)=w3 at HY HU HL⊢;clear d1 d2 R P z0 z1 j HJ BA RT
   go_loopg [34] (Z a) (λgk i wr=>∃(k:Nat) (m:Option Addr) (o:Nat),i=X J k/\k<=Z a/\gk=Z a-k/\lO (AH wr N [O b,U m k o] 104)/\lO (lQ wr (N+1) 170 1 (U m k o) k (((a.take k).map AQ.s).flatMap Ah))/\lO (lQ wr 0 215 2 (U Nj (Z a) Ha) (Z a) (a.flatMap Aq))/\lO (Ac [] w wr))
   case atStart=>exact⟨0,Y,0,rfl,by omega,rfl,HY,ip _ _ _ _,HL,HU⟩
   case round=>
    clear HY HL HU;obtain⟨k,m,o,rfl,hk,M2,S,HX,HH,HK⟩:=hrel;have HG:=Ab M2;clear M2;by_cases DT:k<Z a
    .obtain⟨gt,U0,K6,_,HD⟩:=AF HH (λc _=>rfl) k DT;simp only[gM]at K6;obtain⟨rfl,-,rfl⟩:=K6;have a0:=HD k DT 0 (by omega);have a1:=HD k DT 1 (by omega);obtain⟨⟨tv,v⟩,HZ⟩:∃t,a[k]=t:=⟨_,rfl⟩;rw[HZ]at a0 a1;simp[Aq]at a0 a1;have Jx:lO (((a.take (k+1)).map AQ.s).flatMap Ah=((a.take k).map AQ.s).flatMap Ah++[O v]):=by
      show _=_;rw[gQ DT,iG,ix,HZ];rfl
     (have TL:(0:Int)<=(k:Int):=by omega);(have SJ:(k:Int)<(Z a:Int):=by omega);have Q:=Ab ((me [] wr).alloc (j2 [X .i32 tv,O v].toArray 215));have B0:=Ab (mf wr [X .i32 tv,O v] 215);have H:=Ab (S.kept Q (by simp));have HP:=Ab (Ad HX Q (by simp));have FC:=Ab (Ad HH Q (by simp));have HF:=Ab (HK.trans Q);clear HZ HD;refine ma (λK1 z=>?_);go_wp2;refine z _ _ ?_;clear z K1;refine ma (λK1 z=>?_);go_wp2;refine z _ _ ?_;clear z K1;refine ma (λK5 MN=>?_);refine wp_block ?_;refine ma (λK1 z=>?_);go_wp2;refine z _ _ ?_;clear z K1 a0 a1;change Code.wp _ _ _ _ (wr.alloc (j2 [X .i32 tv,O v].toArray 215));generalize wr.alloc (j2 [X .i32 tv,O v].toArray 215)=wa at Q B0 H HP FC HF⊢;obtain⟨BT,LS⟩:∃BT,wr.heap.size=BT:=⟨_,rfl⟩;rw[LS]at B0⊢;clear LS S HX HH HK;have b1:=H.cell 1;have f1:=H.frozen 1;have t1:=B0.cell 1;simp at b1 t1;have AT:=Aa HP;have ST:N+1<=wa.heap.size:=H.lt;go_wp2_with (at_builtin;refine io _ rfl (.tmp 39) (.tmp 42) _ rfl (N+1) 170 i0 _ 1 16 underlying102 QR NY RO P0 rfl (by omega) (U m k o) k (((a.take k).map AQ.s).flatMap Ah) rfl (gU AT _) ⟨wa.heap.size,0,Y⟩ 1 1 [O v] rfl rfl (iu (cs:=#[O v]) (t:=170) (fr:=(0,0)) (iD wa _)) (by simp[Value.oneCell']) (by omega) (by unfold maxLen;omega) (by omega) (by simp;omega) (wa.heap.size+1) (by simp) ?_;intro D C w9 HT EK Nx NV;have W:=(H.alloc (j2 #[O v] 170)).grown EK (Ar AT H (by decide));have b9:=W.cell 1;have f9:=W.frozen 1;simp at b9)
     have M0:lO (AH (w9.setCell ⟨N,1,Y⟩ (U (V ⟨D,0,Y⟩) (k+1) C)) N [O b,U (V ⟨D,0,Y⟩) (k+1) C] 104):=W.set 1 _;have IS:lO (lQ (w9.setCell ⟨N,1,Y⟩ (U (V ⟨D,0,Y⟩) (k+1) C)) (N+1) 170 1 (U (V ⟨D,0,Y⟩) (k+1) C) (k+1) (((a.take (k+1)).map AQ.s).flatMap Ah)):=by
      rw[Aa Jx];exact Ag HT (Ar HT W (by decide)) _
     have Nd:lO (lQ (w9.setCell ⟨N,1,Y⟩ (U (V ⟨D,0,Y⟩) (k+1) C)) 0 215 2 (U (V ⟨gt,0,Y⟩) (Z a) Ha) (Z a) (a.flatMap Aq)):=by
      have h3:=je (gU FC (j2 #[O v] 170)) EK (ly (λe=>A7 FC AT (by decide) gt rfl e.symm));exact Ag h3 (Ar h3 W (by decide)) _
     have L0:lO (Ac [] w (w9.setCell ⟨N,1,Y⟩ (U (V ⟨D,0,Y⟩) (k+1) C))):=((HF.alloc (j2 #[O v] 170)).grown EK (λq hq=>ly (by have:=(AT.lt q hq).1;omega))).setCell (p:=⟨N,1,Y⟩) (ly T) _;generalize w9.setCell ⟨N,1,Y⟩ (U (V ⟨D,0,Y⟩) (k+1) C)=w10 at M0 IS Nd L0⊢;clear HT EK Nx NV W b9 f9 b1 f1 t1 AT H HP FC HF B0 Q Jx
     try go_wp2
     refine MN _ _ ?_;clear MN;go_wp2
     go_roundg (Z a-(k+1))
     case measure=>have:=Aa HG;omega
     case rel=>exact⟨k+1,V ⟨D,0,Y⟩,C,by go_num,by omega,rfl,M0,IS,Nd,L0⟩
    ·(have N4:k=Z a:=by omega);subst N4;obtain⟨n,Bx⟩:∃n,a.map AQ.s=n:=⟨_,rfl⟩;(have NL:Z n=Z a:=by rw[<-Bx,ie]);have HQ:lO (DS wr ⟨⟨b,n⟩,U m (Z a) o⟩):=by
      have h:=Aa HX;rw[j6,Bx]at h;show lQ wr 0 170 1 _ (Z n) _;rw[NL];exact Am h (ik _)
     have H1:=Aa K2;have EU:=Ab (λM (hkz:Ac [] wr M)=>J9 ⟨⟨b,n⟩,U m (Z a) o⟩ M (HQ.kept hkz) (by show Z n<=1000;omega) (λx hx=>by
      have LL:x∈n:=hx
      rw[<-Bx]at LL
      obtain⟨t,ht,rfl⟩:=gX.1 LL
      exact H1.2.2 t ht) H1.1)
     simp only[AW]at EU;have FP:=Aa Ix;rw[Bx]at FP;obtain⟨TX,HR⟩:∃TX,E0 ⟨b,n⟩=TX:=⟨_,rfl⟩;rw[HR]at FP;simp only[HR]at EU;have K4:=Ab FP;have b0:=S.cell 0;have b1:=S.cell 1;simp at b0 b1;clear FP HR Bx HX HH H1 Ix K2;(go_wp2_with fail);refine(EU _ (me _ _)).mono ?_;rintro _ w5 ⟨rfl,k5⟩;have F:=Ab (S.kept k5 (by simp));have LE:=Ab (HK.trans k5);have Os:=Ab (HQ.kept k5);have R:=F.cell 0;have P:=F.cell 1;have z0:=F.frozen 0;have z1:=F.frozen 1;simp at R P;clear EU k5 b0 b1 S HK HQ;cases heq:(TX.toList==s.toList)with
     |false=>
      (have NB:(TX.toList !=s.toList)=j1:=by simp only[bne,heq];rfl);have G:lO (ej s=Y):=by
       show _=_;rw[Aa K4,heq,gV (by simp)]
      have H0:lO (JO (ej s) w (lo (.tuple #[lR [O ⟨#[]⟩,U Y 0 0].toArray,lT K])) ((w5.setCell ⟨N,0,Y⟩ (O ⟨#[]⟩)).setCell ⟨N,1,Y⟩ (U Y 0 0))):=by
       rw[Aa G];exact JO.none _ _ ((LE.setCell (p:=⟨N,0,Y⟩) (ly T) _).setCell (p:=⟨N,1,Y⟩) (ly T) _)
      go_wp2;refine im (Au rfl (by rfl) ((F.set 0 _).set 1 _) underlying104 rfl (by kernel_rfl)) rfl ?_;exact H0
     |true=>
      (have NB:(TX.toList !=s.toList)=K:=by simp only[bne,heq];rfl);have G:lO (ej s=V ⟨b,n⟩):=by
       show _=_;rw[Aa K4,heq,gY rfl]
      have H0:lO (JO (ej s) w (lo (.tuple #[lR [O b,U m (Z a) o].toArray,lT j1])) ((w5.setCell ⟨N,0,Y⟩ (O b)).setCell ⟨N,1,Y⟩ (U m (Z a) o))):=by
       rw[Aa G];refine⟨⟨⟨b,n⟩,U m (Z a) o⟩,rfl,λf h=>kJ h,?_,by show Z n<=1000;omega,(LE.setCell (p:=⟨N,0,Y⟩) (ly T) _).setCell (p:=⟨N,1,Y⟩) (ly T) _⟩;have I:=Aa Os;have h2:=Ag I (Ar (v1:=U m (Z a) o) I F (by decide)) (p:=⟨N,0,Y⟩) (O b);have h3:=F.set 0 (O b);exact Ag h2 (Ar (v1:=U m (Z a) o) h2 h3 (by decide)) (p:=⟨N,1,Y⟩) (U m (Z a) o)
      go_wp2;refine im (Au rfl (by rfl) ((F.set 0 _).set 1 _) underlying104 rfl (by kernel_rfl)) rfl ?_;exact H0
  .have G:lO (ej s=Y):=by
    show _=_;rw[E]
    match cs,HO with
    |[],_=>rfl
    |[c],h=>simp at h;omega
    |c::d::l,_=>rfl
   (have TV:((Z y:Int) !=1)=j1:=by simp;omega);clear hp E FF A A0 FL EX MB I;go_wp2;refine im (Au rfl (by rfl) ((j.set 0 _).set 1 _) underlying104 rfl (by kernel_rfl)) rfl ?_;exact M1 _ FA G
theorem Tc(s:zA)(w:l9)(Bx:s.size<=9223372036854775807):
  Calls prog 53 #[O s] w λe Q=>JO (cW s) w e Q:=by
 obtain⟨N,C⟩:∃N,w.heap.size=N:=⟨_,rfl⟩;have F:=Ab C;have u:=Ab ((me [] w).alloc (j2 [O ⟨#[]⟩,U Y 0 0].toArray 104));have n:=Ab (mf w [O ⟨#[]⟩,U Y 0 0] 104);rw[C]at n;have v:w.heap.size<=N:=by omega
 clear C;by_cases H:300<s.size
 .have k:lO (cW s=Y):=by show _=_;unfold cW;rw[gY H]
  go_enter func53,ntmps53;go_wp2;rw[Aa F];refine im (Au rfl (by rfl) n underlying104 rfl (by kernel_rfl)) rfl ?_;rw[Aa k];exact JO.none _ _ u
 .have I:=Ab (λwz=>SS s wz (by omega));have m:lO (cW s=(ej s).bind λp=>if 2<Z p.zC then Y else V p):=by show _=_;unfold cW;rw[gV H]
  go_enter func53,ntmps53;refine ma (λr i=>?_);go_wp2;refine i _ _ ?_;clear i r;rw[Aa F];change Code.wp _ _ _ _ (w.alloc (j2 [O ⟨#[]⟩,U Y 0 0].toArray 104));generalize w.alloc (j2 [O ⟨#[]⟩,U Y 0 0].toArray 104)=w1 at u n⊢;refine ma (λr i=>?_);go_wp2;refine i _ _ ?_;clear i r;refine ma (λr i=>?_);go_wp2_with fail
  refine(I w1).mono ?_;rintro _ l ⟨⟨⟨d,a⟩,BT⟩,rfl,z,A,D,y⟩;obtain⟨c,b,e⟩:=Al A;simp only at e D z;subst e;simp only[AW];have g:=Ab ((n.kept y (by simp)).alloc (j2 [O d,U c (Z a) b].toArray 104));have x:=Ab (mf l [O d,U c (Z a) b] 104);have G:lO (DS (l.alloc (j2 [O d,U c (Z a) b].toArray 104)) ⟨⟨d,a⟩,U c (Z a) b⟩):=DS.kept A ((me [] l).alloc _);have B:=Ab ((u.trans y).alloc (j2 [O d,U c (Z a) b].toArray 104));have A1:N≠l.heap.size:=by have:=(n.kept y (by simp)).lt;omega
  have t:=Ab z;clear z A y I u n;go_wp2;refine i _ _ ?_;clear i r;change Code.wp _ _ _ _ (l.alloc (j2 [O d,U c (Z a) b].toArray 104));generalize l.alloc (j2 [O d,U c (Z a) b].toArray 104)=w3 at g x G B⊢;obtain⟨M,P⟩:∃M,l.heap.size=M:=⟨_,rfl⟩;rw[P]at x A1⊢;clear P;have c0:=g.cell 0;have c1:=g.cell 1;have z0:=g.frozen 0;have z1:=g.frozen 1;have S:=x.cell 0;have W:=x.cell 1;simp at c0 c1 S W;have L:lO (cW s=Y->JO (cW s) w (lo (.tuple #[lR [O ⟨#[]⟩,U Y 0 0].toArray,lT K])) ((w3.setCell ⟨N,0,Y⟩ (O ⟨#[]⟩)).setCell ⟨N,1,Y⟩ (U Y 0 0))):=λh=>by
   rw[h];exact JO.none _ _ ((B.setCell (p:=⟨N,0,Y⟩) (ly v) _).setCell (p:=⟨N,1,Y⟩) (ly v) _)
  cases hr:ej s with
  |none=>
   (have k:lO (cW s=Y):=by show _=_;rw[Aa m,hr];rfl);simp only[Option.isSome_none];clear hr m t;go_wp2;refine im (Au rfl (by rfl) ((g.set 0 _).set 1 _) underlying104 rfl (by kernel_rfl)) rfl ?_;exact L k
  |some q=>
   have T:=Aa t q hr;subst T;simp only[Option.isSome_some];by_cases o:2<Z a
   ·(have k:lO (cW s=Y):=by show _=_;rw[Aa m,hr];show(if 2<Z a then Y else _)=Y;rw[gY o]);(have A0:(2:Int)<(Z a:Int):=by omega);clear hr m t;go_wp2;refine im (Au rfl (by rfl) ((g.set 0 _).set 1 _) underlying104 rfl (by kernel_rfl)) rfl ?_;exact L k
   ·(have k:lO (cW s=V ⟨d,a⟩):=by show _=_;rw[Aa m,hr];show(if 2<Z a then Y else _)=_;rw[gV o]);(have A0:¬(2:Int)<(Z a:Int):=by omega);have R:lO (JO (cW s) w (lo (.tuple #[lR [O d,U c (Z a) b].toArray,lT j1])) ((w3.setCell ⟨N,0,Y⟩ (O d)).setCell ⟨N,1,Y⟩ (U c (Z a) b))):=by
     rw[Aa k];refine⟨⟨⟨d,a⟩,U c (Z a) b⟩,rfl,λf h=>kJ h,?_,D,(B.setCell (p:=⟨N,0,Y⟩) (ly v) _).setCell (p:=⟨N,1,Y⟩) (ly v) _⟩;have E:=Aa G;have o:=Ag E (Ar (v1:=U c (Z a) b) E g (by decide)) (p:=⟨N,0,Y⟩) (O d);have h3:=g.set 0 (O d);exact Ag o (Ar (v1:=U c (Z a) b) o h3 (by decide)) (p:=⟨N,1,Y⟩) (U c (Z a) b)
    clear hr m t;go_wp2;refine im (Au rfl (by rfl) ((g.set 0 _).set 1 _) underlying104 rfl (by kernel_rfl)) rfl ?_;exact R
def TM(s:zA)(w:l9)(e:Ending)(w':l9):Prop:=∃(p:Dr),e=lo (.tuple #[lR (j3 (CN p)),lT (Ja s)])/\p.f=Er s/\Gu w' p/\(∀q,p.av.ownBlock=V q->w.heap.size<=q)/\Ac [] w w'
theorem dX(s:zA)(w:l9)(NN:s.size<=9223372036854775807):
  Calls prog 26 #[O s] w λe T=>TM s w e T:=by
 have LE:lO (∀f,Le s=K->Ac [] w f->TM s w (lo (.tuple #[lR [O ⟨#[]⟩,U Y 0 0].toArray,lT K])) f):=λf hc hk=>⟨⟨cu,U Y 0 0⟩,by unfold Ja;rw[hc];rfl,by unfold Er;rw[hc];rfl,ip _ _ _ _,λq hq=>by simp[Value.ownBlock]at hq,hk⟩
 have HB:=Ab (mf w [O ⟨#[]⟩,U Y 0 0] 43);have HU:=Ab ((me [] w).alloc (j2 [O ⟨#[]⟩,U Y 0 0].toArray 43));by_cases H4:300<s.size
 .have r:lO (Le s=K):=by show _=_;unfold Le;rw[jH H4];rfl
  go_enter func26,ntmps26;go_wp2;refine im (Au rfl (by rfl) HB underlying43 rfl (by kernel_rfl)) rfl ?_;exact LE _ r HU
 .have hs:s.size<=300:=by omega
  have M1:s.size<=1000000:=by omega
  have u:lO (Le s=(!(An s 0).2.2&&(!decide ((An s 0).2.1<s.size)&&(!decide (0<Z (An s 0).1.body)&& !decide (2<Z (An s 0).1.head.args))))):=by show _=_;unfold Le;rw[i9 H4];rfl
  have D:lO (Le s=j1->Er s=AB Bs (An s 0).1.head):=λh=>by unfold Er;rw[gY h]
  have L:lO ((An s 0).2.2=K->QG (An s 0).1):=λh=>DF h
  have G:lO (fM s (An s 0).1.head):=Mp _ _ _;have HL:lO (∀b f,AH f b (BO s 0 K) 73->Calls prog 44 #[.pointer (V ⟨b,0,Y⟩)] f λe T=>∃(hv bv:Value) (bl:mc Bj),e=lo (lR (j3 (DZ (An s 0).1 hv bv)))/\lQ T f.heap.size 93 2 hv (Z (An s 0).1.head.args) ((An s 0).1.head.args.flatMap AU)/\bl.map Prod.fst=(An s 0).1.body/\lQ T f.heap.size 95 9 bv (Z bl) (Dq bl)/\AH T b (BO s (An s 0).2.1 (An s 0).2.2) 73/\Ac [b] f T):=λb f hb=>(Pg b s 0 f M1 (ik _) hb).mono λe T ⟨hv,bv,bl,o,B,Q,h4,h5,h6,h7⟩=>⟨hv,bv,bl,o,B,Q,h4,h6,h7⟩
  obtain⟨⟨⟨g,d,y⟩,A,CC⟩,a,HX,hR⟩:∃c a HX,An s 0=(c,a,HX):=⟨_,_,_,rfl⟩;rw[hR]at u D L G HL;simp only at u D L G HL;clear hR H4;obtain⟨N,hN⟩:∃N,w.heap.size=N:=⟨_,rfl⟩;have HN:=Ab hN;have HD:=Ab (mf (w.alloc (j2 [O ⟨#[]⟩,U Y 0 0].toArray 43)) (BO s 0 K) 73);rw[iz,hN]at HD;have HG:=Ab (HB.alloc (j2 (j3 (BO s 0 K)) 73));rw[hN]at HG;have H0:=Ab (HU.alloc (j2 (j3 (BO s 0 K)) 73));have HV:lO (((w.alloc (j2 [O ⟨#[]⟩,U Y 0 0].toArray 43)).alloc (j2 (j3 (BO s 0 K)) 73)).heap.size=N+2):=by show _=_;simp;omega
  clear hN HB HU;go_enter func26,ntmps26;refine ma (λn j=>?_);go_wp2;refine j _ _ ?_;clear j n;refine ma (λn j=>?_);go_wp2;refine j _ _ ?_;clear j n;refine ma (λn j=>?_);go_wp2;refine j _ _ ?_;clear j n;refine ma (λn j=>?_);go_wp2_with fail
  rw[Aa HN];change Calls _ _ _ ((w.alloc (j2 [O ⟨#[]⟩,U Y 0 0].toArray 43)).alloc (j2 (j3 (BO s 0 K)) 73)) _;generalize(w.alloc (j2 [O ⟨#[]⟩,U Y 0 0].toArray 43)).alloc (j2 (j3 (BO s 0 K)) 73)=w2 at HD HG H0 HV⊢;refine(HL (N+1) w2 HD).mono ?_;rintro _ w3 ⟨hv,bv,bl,rfl,H6,JJ,K1,HQ,k3⟩;obtain⟨A0,AO,rfl⟩:=Ca H6;obtain⟨FO,BT,rfl⟩:=Ca K1;have K2:=Ab (HG.kept k3 (by simp));have Nd:lO (Ac [] w w3):=H0.trans' k3 (λq hq=>ly (by simp only[gN]at hq;have:=Aa HN;omega));have L0:=Ab (Am H6 (ik _));have H8:Z bl=Z A:=by rw[<-JJ,ie]
  rw[H8];have f1:=HQ.cell 1;have f2:=HQ.cell 2;simp[BO]at f1 f2;have MY:=k3.size;rw[Aa HV]at MY;clear HL HD HG H0 HV H6 JJ K1 HQ k3 H8;simp only[DZ];have FP:=Ab ((me [] w3).alloc (j2 [O g,U A0 (Z d) AO,X J y,U FO (Z A) BT,X J CC].toArray 82));have z:=Ab (K2.alloc (j2 [O g,U A0 (Z d) AO,X J y,U FO (Z A) BT,X J CC].toArray 82));have H:=Ab (mf w3 [O g,U A0 (Z d) AO,X J y,U FO (Z A) BT,X J CC] 82);have g1:=FP.cellAt f1;have g2:=FP.cellAt f2;have B9:=Ab (Nd.trans FP);have P:=Ab (Ad L0 FP (by simp));clear f1 f2 K2 L0 FP;go_wp2;refine j _ _ ?_;clear j n;change Code.wp _ _ _ _ (w3.alloc (j2 [O g,U A0 (Z d) AO,X J y,U FO (Z A) BT,X J CC].toArray 82));generalize w3.alloc (j2 [O g,U A0 (Z d) AO,X J y,U FO (Z A) BT,X J CC].toArray 82)=w4 at z H g1 g2 B9 P⊢;obtain⟨C,hC⟩:∃C,w3.heap.size=C:=⟨_,rfl⟩;rw[hC]at H⊢;clear hC;have e1:=H.cell 1;have e3:=H.cell 3;simp at e1 e3;have e0:=H.cell 0;have e2:=H.cell 2;have c0:=z.cell 0;have c1:=z.cell 1;have z0:=z.frozen 0;have z1:=z.frozen 1;simp at e0 e2 c0 c1;have Go:lO (Le s=K->TM s w (lo (.tuple #[lR [O ⟨#[]⟩,U Y 0 0].toArray,lT K])) ((w4.setCell ⟨N,0,Y⟩ (O ⟨#[]⟩)).setCell ⟨N,1,Y⟩ (U Y 0 0))):=λh=>LE _ h ((B9.setCell (p:=⟨N,0,Y⟩) (ly (by have:=Aa HN;show _<=N;omega)) _).setCell (p:=⟨N,1,Y⟩) (ly (by have:=Aa HN;show _<=N;omega)) _)
  cases HX with
  |true=>
   have r:lO (Le s=K):=u;clear u D L G P;go_wp2;refine im (Au rfl (by rfl) ((z.set 0 _).set 1 _) underlying43 rfl (by kernel_rfl)) rfl ?_;exact Go r
  |false=>
   by_cases o:a<s.size
   ·(have r:lO (Le s=K):=by show _=_;rw[Aa u,jH o];rfl);(have NL:(a:Int)<(s.size:Int):=by omega);clear u D L G P;go_wp2;refine im (Au rfl (by rfl) ((z.set 0 _).set 1 _) underlying43 rfl (by kernel_rfl)) rfl ?_;exact Go r
   ·(have NL:¬(a:Int)<(s.size:Int):=by omega);by_cases B:0<Z A
    ·(have r:lO (Le s=K):=by show _=_;rw[Aa u,i9 o,jH B];rfl);(have NB:(0:Int)<(Z A:Int):=by omega);clear u D L G P;go_wp2;refine im (Au rfl (by rfl) ((z.set 0 _).set 1 _) underlying43 rfl (by kernel_rfl)) rfl ?_;exact Go r
    ·(have NB:¬(0:Int)<(Z A:Int):=by omega);by_cases Q:2<Z d
     ·(have r:lO (Le s=K):=by show _=_;rw[Aa u,i9 o,i9 B,jH Q];rfl);(have M6:(2:Int)<(Z d:Int):=by omega);clear u D L G P;go_wp2;refine im (Au rfl (by rfl) ((z.set 0 _).set 1 _) underlying43 rfl (by kernel_rfl)) rfl ?_;exact Go r
     ·(have M6:¬(2:Int)<(Z d:Int):=by omega);(have r:lO (Le s=j1):=by show _=_;rw[Aa u,i9 o,i9 B,i9 Q];rfl);have K8:=(L rfl).head.args;have B0:=Ab (λf (hk:Ac [] w4 f)=>Nw Bs ⟨g,d,y⟩ A0 AO f rfl (Ad P hk (by simp)) (by show Z d<=1000;omega) (λt ht=>by
       rcases K8 t ht with h|h
       .exact Or.inl h.1
       .exact ly ⟨h.1,h.2.1⟩))
      simp only[bq,Cg]at B0;have HP:lO (Er s=AB Bs ⟨g,d,y⟩):=D r;have H2:lO ((∀x∈(AB Bs ⟨g,d,y⟩).args,x.size<=1000000)/\g.size<=1000000):=by
       have hz:=Aa G;refine⟨λx hx=>?_,by have:=hz.1;simp only at this;omega⟩;obtain⟨t,ht,rfl⟩:=gX.1 hx;unfold AR;split
       .have:=hz.2 t ht;omega
       .unfold Bs;rw[ia,List.getElem?_replicate];split<;>exact ik _
      have A2:lO ((AB Bs ⟨g,d,y⟩).name=g/\Z (AB Bs ⟨g,d,y⟩).args=Z d):=⟨rfl,by show Z (d.map _)=_;rw[ie]⟩;have S:=Ab ((me [] w4).alloc (j2 fG 90));have B2:=Ab (mf w4 (lV 26 (O ⟨#[]⟩)) 90);obtain⟨M,HW⟩:∃M,AB Bs ⟨g,d,y⟩=M:=⟨_,rfl⟩;simp only[HW]at B0;rw[HW]at HP H2 A2;clear u D L G K8 Go P HW;have BA:=Ab (H.kept S (by simp));refine ma (λn j=>?_);go_wp2;refine j _ _ ?_;clear j n g1 g2 e0 e1 e2 e3 c0 c1 z0 z1;refine ma (λn j=>?_);go_wp2;refine j _ _ ?_;clear j n;change Code.wp _ _ _ _ (w4.alloc (j2 (j3 (lV 26 (O ⟨#[]⟩))) 90));change lO (Ac [] w4 (w4.alloc (j2 (j3 (lV 26 (O ⟨#[]⟩))) 90)))at S;change lO (AH (w4.alloc (j2 (j3 (lV 26 (O ⟨#[]⟩))) 90)) C _ 82)at BA;generalize w4.alloc (j2 (j3 (lV 26 (O ⟨#[]⟩))) 90)=w5 at S B2 BA⊢;obtain⟨E,hE⟩:∃E,w4.heap.size=E:=⟨_,rfl⟩;rw[hE]at B2⊢;clear hE;obtain⟨EM,HC⟩:∃EM:mc Value,lV 26 (O ⟨#[]⟩)=EM:=⟨_,rfl⟩;(have LC:Z EM=26:=by rw[<-HC];rfl);(have H7:(prog.info? 90).map (·.size)=V (Z EM):=by rw[LC];exact Tryz.zK);rw[HC]at B2;simp only[HC]at B0;clear HC;have e0:=BA.cell 0;have e1:=BA.cell 1;have e2:=BA.cell 2;simp at e0 e1 e2;refine ma (λn j=>?_);go_wp2_with ((with_reducible show wpList _ _ _ ({dst:=_,op:=Op.load 90 _,type:=_,pos:=_,after:=_,guard:=_}::_) _ _);refine jN rfl 90 _ rfl E 0 (by rfl) EM _ B2.range underlying90 rfl H7 ?_)
      refine(B0 _ S).mono ?_;rintro _ R ⟨l,m,rfl,K3,KS,k6⟩;have HT:Ac [] w4 R:=S.trans k6;have Ix:=Ab K3;have NM:lO (∀q,(U l (Z d) m).ownBlock=V q->w.heap.size<=q):=λq hq=>by
       have o:=KS q hq;have B:=B9.size;have Q:=S.size;omega
      have IS:=Ab (z.kept HT (by simp));have Nx:=Ab (B9.trans HT);clear B0 K3 KS k6 HT e0 e1 e2 S z B9 BA B2 H7 LC H;simp only[CN,(Aa A2).1];have H5:=Ab (λf (hk:Ac [] R f)=>Ta ⟨M,U l (Z d) m⟩ f (Ix.kept hk) (by show Z M.args<=1000;have:=A2.2;omega) H2.1 (by show M.name.size<=_;rw[(Aa A2).1];exact H2.2));simp only[CN,(Aa A2).1]at H5;have K4:=Ab (IS.alloc (j2 [O g,U l (Z d) m].toArray 43));have HF:=Ab (mf R [O g,U l (Z d) m] 43);have HJ:=Ab ((me [] R).alloc (j2 [O g,U l (Z d) m].toArray 43));go_wp2;refine j _ _ ?_;clear j n;change Code.wp _ _ _ _ (R.alloc (j2 [O g,U l (Z d) m].toArray 43));generalize R.alloc (j2 [O g,U l (Z d) m].toArray 43)=w7 at K4 HF HJ⊢;obtain⟨F,hF⟩:∃F,R.heap.size=F:=⟨_,rfl⟩;rw[hF]at HF⊢;(have K6:N≠F:=by have:=IS.lt;omega);clear hF;have FL:lO (∀f,AH f F [O g,U l (Z d) m] 43->f.cell? ⟨F,0,Y⟩=V (O g)/\f.cell? ⟨F,1,Y⟩=V (U l (Z d) m)):=by
       intro f hb;have h0:=hb.cell 0;have o:=hb.cell 1;simp at h0 o;exact⟨h0,o⟩
      obtain⟨TX,HZ⟩:∃TX,C7 M=TX:=⟨_,rfl⟩;simp only[HZ]at H5;(have M0:lO (Ja s=(TX.toList==s.toList)):=by show _=_;unfold Ja;rw[Aa r,Aa HP,HZ,jq]);clear HZ;refine ma (λn j=>?_);have H1:=Ab (FL w7.drew HF);refine Cz 7 (λf=>f.cell? ⟨F,0,Y⟩=V (O g)/\f.cell? ⟨F,1,Y⟩=V (U l (Z d) m)) (by kernel_rfl) ?_;refine Cx.tkH (i:=0) (v:=lR #[O g,U l (Z d) m]) rfl (by kernel_rfl) (λ_ _ _ h=>h) H1 (by rfl) ?_ ?_
      ·(rintro f ⟨z0,z1⟩;go_simp)
      simp only[lY,gI,gJ,gK];refine Cx.tkH (i:=1) (v:=lR #[O g,U l (Z d) m]) rfl (by kernel_rfl) (λ_ _ _ h=>h) H1 (by rfl) ?_ ?_
      ·(rintro f ⟨z0,z1⟩;go_simp)
      simp only[lY,gI,gJ,gK];refine Cx.tkH (i:=3) (v:=O s) rfl (by kernel_rfl) (λ_ _ _ h=>h) H1 (by rfl) ?_ ?_
      ·(rintro f ⟨z0,z1⟩;go_simp)
      simp only[lY,gI,gJ,gK];refine Cx.one (i:=2) (by kernel_rfl) rfl (λFC I=>?_)
      go_simp
      refine(H5 _ (HJ.trans (me [] w7).drew)).mono ?_;rintro _ w8 ⟨rfl,M2⟩;have k8:Ac [] w7 w8:=(me [] w7).drew.trans M2;have HS:=HF.kept k8 (by simp);have W:=K4.kept k8 (by simp);refine I.out _ _ (λ_=>FL _ HS) ?_;clear I FC
      try simp only[lY,gI,gJ,gK]
      have Nq:=Ab (FL _ HS);refine Cx.tkH (i:=4) (v:=lT (TX.toList==s.toList)) rfl (by kernel_rfl) (λ_ _ _ h=>h) Nq (by rfl) ?_ ?_
      ·(rintro f ⟨z0,z1⟩;go_simp)
      simp only[lY,gI,gJ,gK];have c0:=W.cell 0;have c1:=W.cell 1;have z0:=W.frozen 0;have z1:=W.frozen 1;simp at c0 c1;refine Cx.one (i:=5) (by kernel_rfl) rfl (λFC I=>?_)
      go_simp
      have K5:=(HS.zB ⟨N,0,Y⟩ K6 (O g)).zB ⟨N,1,Y⟩ K6 (U l (Z d) m);refine I.out _ _ (λ_=>FL _ K5) ?_;clear I FC
      try simp only[lY,gI,gJ,gK]
      refine Cx.one (i:=6) (by kernel_rfl) rfl (λFC I=>?_)
      go_simp
      refine I.out _ _ (λ_=>FL _ K5) ?_;clear I FC;refine Cx.done (by kernel_rfl) ?_ _
      try simp only[lY,gI,gJ,gK]
      refine j _ _ ?_;clear j n;refine wp_ret ?_;refine im (Au rfl (by rfl) ((W.set 0 _).set 1 _) underlying43 rfl (by kernel_rfl)) rfl ?_;(have LM:w.heap.size<=N:=by have:=Aa HN;omega);have Nj:=(((Nx.trans HJ).trans k8).setCell (p:=⟨N,0,Y⟩) (ly LM) (O g)).setCell (p:=⟨N,1,Y⟩) (ly LM) (U l (Z d) m);refine⟨⟨M,U l (Z d) m⟩,?_,HP.symm,?_,NM,Nj⟩
      .rw[Aa M0];simp only[CN,(Aa A2).1];rfl
      .have o:Gu w8 ⟨M,U l (Z d) m⟩:=(Ix.kept HJ).kept k8;have B:=Ag o (Ar (v1:=U l (Z d) m) o W (by decide)) (p:=⟨N,0,Y⟩) (O g);have Q:=W.set 0 (O g);exact Ag B (Ar (v1:=U l (Z d) m) B Q (by decide)) (p:=⟨N,1,Y⟩) (U l (Z d) m)
