import Derived.Test.YtoihbhenbmffcaaGreatDoorYBG
import Derived.Test.YtoihbhenbmffcaaGreatDoorYBQ
import Derived.Test.YtoihbhenbmffcaaGreatDoorYAV
set_option linter.all false
set_option maxHeartbeats 0
open List renaming length->Z,toArray->j2,replicate->jL
open Option renaming none->Y,some->V
open Go.Value renaming slice->U,int->X,string->O,agg->jH,bool->jJ
open Bool renaming false->K,true->jj
open Go.IntKind renaming i64->J
open Go.Obj renaming cells->j1
open Go.Ending renaming returned->j4
open Or renaming inr->j6
open Go renaming World->j7
open Go.RowKit renaming Hid->j9
open Go.World renaming ownsRow->jG
open ByteArray renaming empty->jK
open Go.Act renaming put->jO
namespace Go.Proofs.YtoihbhenbmffcaaGreatDoor
open Go.RowKit Go.Proofs.Tryz
def TR(s:g0)(at_:Nat)(a:Bool):(AK s at_ a).1.s.size<=s.size:=by
 unfold AK;split
 .exact eV _
 .split
  .split
   .exact eV _
   .split
    .exact OK _ _ _
    .split
     .exact eV _
     .show(ByteArray.extract _ _ _).size<=_;rw[gh];omega
  .exact eV _
def ZR(s:g0)(at_:Nat):∀t∈(Cr s at_).1,t.s.size<=s.size:=by
 fun_induction Cr s at_ with
 |case1 at_ hc _ _ ih=>
  intro t a;rcases ey.1 a with rfl|a
  .exact TR _ _ _
  .exact ih t a
 |case2 at_ hc=>
  intro t a;rw[ex]at a;subst a;exact TR _ _ _
def dP(s:g0)(A:Dj):Prop:=A.name.size<=s.size/\∀t∈A.args,t.s.size<=s.size
def L3(s:g0)(at_:Nat)(b:Bool):dP s (AR s at_ b).1:=by
 unfold AR;refine⟨OK _ _ _,?_⟩;show∀t∈(DW s _).1,_;unfold DW;split
 .intro t a;cases a
 .exact ZR _ _
def Rc(s:g0):dP s Gk:=⟨eV _,λt a=>by cases a⟩
def WC(s:g0)(at_:Nat):dP s (Dd s at_).1.A:=by
 unfold Dd;simp only;split
 .exact L3 _ _ _
 .split
  .exact L3 _ _ _
  .unfold Hr;split
   .exact Rc s
   .exact Rc s
def ZM(s:g0)(at_:Nat):∀x∈(C5 s at_).1,dP s x.A:=by
 fun_induction C5 s at_ with
 |case1 at_ hc _ _ ih=>
  intro t a;rcases ey.1 a with rfl|a
  .exact WC _ _
  .exact ih t a
 |case2 at_ hc=>
  intro t a;rw[ex]at a;subst a;exact WC _ _
def ed(s:g0)(c:CA):Prop:=dP s c.head/\∀x∈c.body,dP s x.A
def Ld(s:g0)(at_:Nat):ed s (Ao s at_).1:=by
 unfold Ao;refine⟨L3 _ _ _,?_⟩;show∀x∈(Dz s _ _).1,_;unfold Dz;split
 .split
  .exact ZM _ _
  .intro x a;cases a
 .intro x a;cases a
def Hb(s:g0)(at_:Nat):∀c∈(As s at_).1,ed s c:=by
 fun_induction As s at_ with
 |case1 at_ ha hc ih=>
  intro c a;rcases ey.1 a with rfl|a
  .exact Ld _ _
  .exact ih c a
 |case2 at_ ha hc=>
  intro c a;rw[ex]at a;subst a;exact Ld _ _
 |case3 at_ ha=>intro c a;cases a
def Lt:∀(k:Nat) (x:g0),(Kp k x).size<=x.size+k
 |0,x=>eM _
 |k+1,x=>by
  rw[Kp];split
  .have h:=Lt k (OR++x);have a:OR.size=1:=rfl;rw[eO,a]at h;omega
  .omega
def S8(x:g0):(AA x).size<=x.size+3:=by
 unfold AA;split
 .exact Lt 3 x
 .omega
def QA(cs ds:List A8):Prop:=∀c∈cs,∃d∈ds,d.head=c.head/\Aj d=Aj c
def bg{cs ds:List A8}(h:cs.map A8.erase=ds.map A8.erase):QA cs ds:=by
 intro c b;obtain⟨d,a,e⟩:=(F2.of_map h).yO c b;exact⟨d,a,(congrArg CA.head e).symm,(congrArg CA.body e).symm⟩
def QA.inst{cs ds:List A8}(h:QA cs ds){i:Gp Af}(g:E4 cs i):E4 ds i:=by
 obtain⟨c,j,σ,a,rfl⟩:=g;obtain⟨d,e,f,b⟩:=h c j;refine⟨d,e,σ,?_,?_⟩
 .unfold Mf at a⊢;rw[b];exact a
 .unfold CR;rw[f,b]
def QA.consts{cs ds:List A8}(h:QA cs ds){x:g0}(a:x∈consts cs):x∈consts ds:=by
 unfold Go.Proofs.YtoihbhenbmffcaaGreatDoor.consts at a⊢;obtain⟨c,e,a⟩:=fA.1 a;obtain⟨d,b,f,_⟩:=h c e;exact fA.2 ⟨d,b,by rw[f];exact a⟩
def QA.factIn{cs ds:List A8}(h:QA cs ds){f:Af}(a:Fd cs f):Fd ds f:=by
 refine⟨?_,λx j=>h.consts (a.args x j)⟩;obtain⟨c,i,e⟩:=a.zg;obtain⟨d,b,g,_⟩:=h c i;exact⟨d,b,by rw[g];exact e⟩
def QA.inv{cs ds:List A8}(h:QA cs ds)(c:QA ds cs){L:g0->Nat}{n:Nat}{s:List Af}(a:Jd cs L n s):Jd ds L n s:=by
 have e:E4 cs=E4 ds:=funext λi=>propext ⟨h.inst,c.inst⟩
 exact⟨by rw[<-e];exact a.work,a.zK,λf b=>h.factIn (a.zY f b)⟩
def QA.zM{cs ds:List A8}(j:QA ds cs){L:g0->Nat}(g:Di cs L):Di ds L:=by
 refine⟨λd e x b a=>?_,λd e x b a=>?_⟩<;>obtain⟨c,h,f,i⟩:=j d e
 .rw[<-f];exact g.pos c h x (by rw[i];exact b) a
 .rw[<-f];exact g.neg c h x (by rw[i];exact b) a
def Yn{s:g0}(G:s.size<=300){w:j7}{D:Value}{cs:List PC}{g:List Dq}(i:C4 (EH s) 0 []=.ok cs)(j:g.map Dq.pc=cs)(C:DG w D g){r:Int×Int}(z:Fv s (dM s) r)(v:r.1=0):
  r=(0,0)/\∃a:List A8,a.map A8.erase=(As s (Ae s 0)).1/\NF g a:=by
 have h:=Jj s;rw[i]at h;have d:((As s (Ae s 0)).1.map UM).map A8.erase=(As s (Ae s 0)).1:=by
  rw[fN]
  conv=>rhs;rw[<-List.map_id (As s (Ae s 0)).1]
  exact fQ λc _=>NK c
 generalize(As s (Ae s 0)).1.map UM=a at d;have E:E9 s (CM a).1 (CM a).2:=by
  unfold E9;rw[eE (by omega),eE (by rw[h.1];simp)];exact⟨a,d,rfl⟩
 have q:=Kn E z;have o:CM a=(0,0):=JI (by rw[<-show r.1=(CM a).1 by rw[q]];exact v);refine⟨by rw[q,o],a,d,?_⟩;have F:=(L9 s).1;have y:=I2 (by omega) _ 0 [] (eM _) (by simp) i;have t:g.map Dq.pc=a.map λr=>bk r.erase:=by
  rw[j,h.2.1,<-d,fN];rfl
 have m:∀c∈g,Jv c.pc:=λc f=>y.1 _ (by rw[<-j];exact eH.2 ⟨c,f,rfl⟩)
 refine⟨(F2.of_map t).mono (λc f b l k=>bi k (m c f) (C.each c f).wf ?_),JL h.1 d o,m,λc f=>?_⟩
 .exact h.2.2 b.erase (by rw[<-d];exact eH.2 ⟨b,l,rfl⟩)
 .obtain⟨b,l,k⟩:=(F2.of_map t).yO c f;have n:=Hb s (Ae s 0) b.erase (by rw[<-d];exact eZ l);refine⟨?_,λp i=>?_⟩
  .have e:c.hn=b.erase.head.name:=congrArg PC.hn k;rw[e];have:=n.1.1;omega
  .have e:c.zC.map Prod.fst=b.erase.body.map LP:=congrArg PC.body k;(have j:p.1∈b.erase.body.map LP:=by rw[<-e];exact eZ i);obtain⟨x,B,u⟩:=eH.1 j;rw[<-u];have:=(n.2 x B).1;show x.A.name.size<=_;omega
def VF{s:g0}(w:s.size<=300){d:List A8}(h:d.map A8.erase=(As s (Ae s 0)).1){u:List Af}(q:∀f∈u,Fd d f){fs:List Fe}(k:fs.map Fe.f=u.map BJ):
  ∀p∈fs,p.f.name.size<=1000000/\∀x∈p.f.zB,x.size<=1000000:=by
 intro p i;have b:p.f∈u.map BJ:=by rw[<-k];exact eZ i
 obtain⟨f,j,e⟩:=eH.1 b;have g:=q f j;rw[<-e];refine⟨?_,λx v=>?_⟩
 .obtain⟨c,a,n,_⟩:=g.zg;show f.name.size<=_;rw[n];have:=(Hb s (Ae s 0) c.erase (by rw[<-h];exact eZ a)).1.1;have r:c.erase.head=c.head:=rfl;rw[r]at this;omega
 .obtain⟨y,l,rfl⟩:=eH.1 v;have a:=g.args y l;unfold consts at a;obtain⟨c,m,b⟩:=fA.1 a;obtain⟨t,o,rfl⟩:=eH.1 b;have:=(Hb s (Ae s 0) c.erase (by rw[<-h];exact eZ m)).1.2 t (e9.1 o).1;have:=S8 t.s;omega
def tl(t:AG):Nat:=if t.v=0 then t.s.size else 1
def cS:List AG->Nat
 |[]=>0
 |t::l=>tl t+cS l
def QN{s:g0}{i:Nat}(h:(AX s i K).2.2=K):i+(AX s i K).1.size<=(AX s i K).2.1/\(AX s i K).2.1<=s.size:=by
 have b:=BR s i;by_cases a:AF Az s (Ae s i)=Ae s i\/4<AF Az s (Ae s i)-Ae s i
 .rw[DR rfl rfl a]at h;cases h
 .rw[JX rfl rfl a];have c:=No (p:=Az) (s:=s) (i:=Ae s i) (λe=>a (Or.inl e));have d:=B8 Az s (Ae s i);simp only;rw[gh];omega
def QY{s:g0}{i:Nat}(h:(AK s i K).2.2=K):i+tl (AK s i K).1<=(AK s i K).2.1:=by
 have g:=BR s i;unfold AK at h⊢;rw[eE (by simp)]at h⊢;by_cases c:Ae s i<s.size
 .rw[dif_pos c]at h⊢;by_cases a:C6 s[Ae s i]=jj
  .rw[eI a]at h⊢;unfold tl;have f:s[Ae s i]≠0:=by
    intro e;rw[e]at a;exact absurd a (by decide)
   simp only[eE f];omega
  .rw[eE a]at h⊢;by_cases d:(!An s[Ae s i])=jj
   .rw[eI d]at h⊢;have:=(QN h).1;unfold tl;simp only[if_true];omega
   .rw[eE d]at h⊢;by_cases b:3<AF An s (Ae s i)-Ae s i\/(s[Ae s i]=48/\1<AF An s (Ae s i)-Ae s i)
    .rw[eI b]at h;cases h
    .rw[eE b]at h⊢;have j:=B8 An s (Ae s i);unfold tl;simp only[if_true];rw[gh];omega
 .rw[dif_neg c]at h;cases h
def UP{s:g0}{i:Nat}(h:(Cr s i).2.2=K):0<Z (Cr s i).1/\i+cS (Cr s i).1+Z (Cr s i).1<=(Cr s i).2.1+1:=by
 fun_induction Cr s i with
 |case1 i hc _ _ ih=>
  have d:=ih h;have a:(AK s i K).2.2=K:=by
   have:=hc.1;rw[eW]at this;simpa using this.1
  have b:=QY a;have c:(AK s i K).2.1+1<=BZ s (AK s i K).2.1 (AK s i K).2.2 44:=by
   unfold BZ;rw[eI hc.1];have:=BR s (AK s i K).2.1;rw[a];unfold AN;simp;omega
  simp only[eF,cS];omega
 |case2 i hc=>
  have b:=QY h;have c:=D6 s (AK s i K).2.1 (AK s i K).2.2 44;simp only[eF,fb,cS];omega
def PI{s:g0}{i:Nat}{a:Bool}{c:UInt8}(h:(Bl s i a c).2=K):a=K/\i+1<=(Bl s i a c).1:=by
 unfold Bl at h⊢;simp only[Bool.not_eq_false']at h;have b:(!a&&DS s (AN s i a) c)=jj:=by simpa using h
 have d:a=K:=by rw[eW]at b;simpa using b.1
 refine⟨d,?_⟩;unfold BZ;rw[eI b];subst d;have:=BR s i;unfold AN;simp;omega
def Vc{s:g0}{i:Nat}(h:(AR s i K).2.2=K):0<Z (AR s i K).1.args/\i+(AR s i K).1.name.size+cS (AR s i K).1.args+Z (AR s i K).1.args+1<=(AR s i K).2.1:=by
 unfold AR at h⊢;simp only at h⊢;obtain⟨a,b⟩:=PI h;unfold DW at a b⊢;have k:=BR s i;cases hm:(Bl s (AX s (AN s i K) K).2.1 (AX s (AN s i K) K).2.2 40).2 with
 |true=>rw[hm]at a;simp at a
 |false=>
  rw[hm]at a b;simp only[ev,if_false]at a b⊢;obtain⟨j,e⟩:=PI hm;have g:=(QN j).1;obtain⟨c,f⟩:=UP a;have d:AN s i K=Ae s i:=rfl;rw[d]at e g c f b a⊢;refine⟨c,?_⟩;omega
def IB{s:g0}{i:Nat}(h:(Ao s i).2.2=K):0<Z (Ao s i).1.head.args/\Ae s i+(Ao s i).1.head.name.size+cS (Ao s i).1.head.args+Z (Ao s i).1.head.args+2<=(Ao s i).2.1/\
  ((Ao s i).1.body≠[]->Ae s i+(Ao s i).1.head.name.size+cS (Ao s i).1.head.args+Z (Ao s i).1.head.args+3<=(Ao s i).2.1):=by
 unfold Ao at h⊢;simp only at h⊢;obtain⟨a,b⟩:=PI h;have f:=(IY a).1;obtain⟨d,k⟩:=Vc f;unfold Dz at a b⊢;by_cases e:(!(AR s (Ae s i) K).2.2&&DS s (AN s (AR s (Ae s i) K).2.1 (AR s (Ae s i) K).2.2) 58)=jj
 .rw[eI e]at a b⊢;by_cases c:DS s (BZ s (AR s (Ae s i) K).2.1 (AR s (Ae s i) K).2.2 58) 45=jj
  .rw[eI c]at a b⊢;have g:=D6 s (AR s (Ae s i) K).2.1 (AR s (Ae s i) K).2.2 58;have j:=T7 s (BZ s (AR s (Ae s i) K).2.1 (AR s (Ae s i) K).2.2 58+1);refine⟨d,by omega,λ_=>by omega⟩
  .rw[eE c]at a;cases a
 .rw[eE e]at a b⊢;have g:=D6 s (AR s (Ae s i) K).2.1 (AR s (Ae s i) K).2.2 58;simp only at b⊢;exact⟨d,by omega,λh=>absurd rfl h⟩
def Nm:∀(a:List g0) (s:g0) (b:Bool),(Dg s b a).size=s.size+Z a+(a.map λx=>(BN x).size).sum
 |[],s,b=>by simp[Dg]
 |x::a,s,b=>by
  rw[Dg,Nm a,eO,eO];have:(if b=jj then(⟨#[44]⟩:g0)else⟨#[40]⟩).size=1:=by cases b<;>rfl
  rw[this];simp;omega
def Yx(n:g0)(a:List g0):(Gy ⟨n,a⟩).size=n.size+Z a+(a.map λx=>(BN x).size).sum+2:=by
 unfold Gy;rw[eO,Nm];rfl
def ZX{t:AG}(h:C0 t):(BN (ct t).s).size+(if t.v=0 then 0 else 1)=tl t:=by
 unfold tl;rcases h with⟨a,c⟩|⟨b,_,d⟩
 .rw[eI a,eI a];show(BN (Dp t.s)).size+0=_;rw[PF c,GV c];rfl
 .have a:t.v≠0:=by intro e;rw[e]at b;exact absurd b (by decide)
  rw[eE a,eE a];show(BN (Dp t.s)).size+1=1;rw[d];have e:Dp jK=jK:=by unfold Dp;rw[eI (show ByteArray.empty.size=0 from rfl)]
  rw[e];have a:=JH (k:=ByteArray.empty.size) (s:=jK) (by decide);unfold BN;split
  .rw[a];rfl
  .rfl
def Rh:∀(a:List AG),(∀t∈a,C0 t)->((a.map ct).map λt=>(BN t.s).size).sum<=cS a/\(cS a<=((a.map ct).map λt=>(BN t.s).size).sum->∀t∈a,t.v=0)
 |[],_=>⟨by simp[cS],λ_ t f=>by simp at f⟩
 |t::a,h=>by
  have d:=ZX (h t (by simp));obtain⟨g,e⟩:=Rh a (λx b=>h x (by simp[b]));simp only[eR,List.sum_cons,cS];refine⟨by omega,λi=>?_⟩;by_cases c:t.v=0
  .rw[eI c]at d;intro x b;rcases ey.1 b with rfl|b
   .exact c
   .exact e (by omega) x b
  .rw[eE c]at d;omega
def cN(s:g0):Option CV:=match C4 (EH s) 0 [] with
 | .ok [c]=>if((Gy ⟨c.hn,c.zD.map AO.s⟩).toList==s.toList)=jj then V ⟨c.hn,c.zD.map AO.s⟩else Y
 |_=>Y
def bj(s:g0):Option CV:=if 300<s.size then Y else(cN s).bind λp=>if 2<Z p.zB then Y else V p
def RJ{ts:List AG}(h:∀t∈ts,C0 t)(c:∀t∈ts,t.v=0):(ts.map ct).map AO.s=(ts.map (AJ BM)).map AA:=by
 rw[fN,fN];refine fQ (λt a=>?_);simp only[Function.comp];show Dp t.s=AA (AJ BM t);unfold AJ;rw[eI (c t a)];rcases h t a with⟨_,d⟩|⟨b,_⟩
 .exact PF d
 .rw[c t a]at b;exact absurd b (by decide)
def Rk{s:g0}{i:Nat}(h:(Ao s i).2.2=K)(d:∀t∈(Ao s i).1.head.args,t.v=0):AM (Av BM (Ao s i).1.head)/\(Av BM (Ao s i).1.head).args≠[]:=by
 have f:=(Dy h).head;refine⟨λx j=>?_,?_⟩
 .obtain⟨t,a,rfl⟩:=eH.1 j;unfold AJ;rw[eI (d t a)];rcases f.args t a with⟨_,g⟩|⟨c,_⟩
  .exact g
  .rw[d t a]at c;exact absurd c (by decide)
 .intro e;have:=(IB h).1;have b:=congrArg List.length e;unfold Av at b;simp only[eL,fb]at b;omega
def Xb{s:g0}{i:Nat}(h:(Ao s i).2.2=K)(a:∀t∈(Ao s i).1.head.args,t.v=0):Gy ⟨(Ao s i).1.head.name,((Ao s i).1.head.args.map ct).map AO.s⟩=Cq (Av BM (Ao s i).1.head):=by
 obtain⟨b,c⟩:=Rk h a;rw[<-RC b c,RJ (Dy h).head.args a];rfl
def MH{s:g0}(h:IT s=jj):bj s=V (BJ (GC s))/\AM (GC s)/\(GC s).args≠[]:=by
 unfold IT at h;rw[eW]at h;obtain⟨k,j⟩:=h;have hF:GC s=Av BM (Ao s 0).1.head:=by unfold GC;rw[eI k]
 have A:Cq (GC s)=s:=IX j;unfold KN at k;simp only[eW,io,ie]at k;obtain⟨z,d,T,S,D⟩:=k;obtain⟨W,l2,Q⟩:=IB d;have q:=(Dy d).head;have AB:=IL s 0 (eV _);have R:s.size=(Ao s 0).1.head.name.size+Z (Ao s 0).1.head.args+((Ao s 0).1.head.args.map λt=>(AJ BM t).size).sum+2:=by
  have g:=congrArg ByteArray.size A;rw[hF]at g;rw[<-g];unfold Cq;rw[eO];have:∀(e:List g0) (b:Bool) (u:g0),(Gv u b e).size=u.size+(e.map ByteArray.size).sum+(if b then Z e else Z e-1):=by
   intro e
   induction e with
   |nil=>intro b u;cases b<;>simp[Gv]
   |cons x e ih=>
    intro b u;rw[Gv,ih,eO];have I:(⟨#[44]⟩:g0).size=1:=rfl;cases b
    .simp;omega
    .simp[eO,I];omega
  rw[this,eO];have y:(⟨#[40]⟩:g0).size=1:=rfl;have G:(⟨#[41,46]⟩:g0).size=2:=rfl;unfold Av;simp only[fN,eL,y,G,Function.comp_def];simp;omega
 have w:∀c:List AG,(∀t∈c,C0 t)->(c.map λt=>(AJ BM t).size).sum<=cS c/\(cS c<=(c.map λt=>(AJ BM t).size).sum->∀t∈c,t.v=0):=by
  intro c
  induction c with
  |nil=>intro _;exact⟨by simp[cS],λ_ t j=>by simp at j⟩
  |cons t c ih=>
   intro H;obtain⟨M,E⟩:=ih (λx i=>H x (by simp[i]));have g:(AJ BM t).size+(if t.v=0 then 0 else 1)=tl t:=by
    unfold tl AJ;by_cases a:t.v=0
    .rw[eI a,eI a,eI a];rfl
    .rw[eE a,eE a,eE a];have:(BM.getD (t.v.toNat-65) jK).size=0:=by
      unfold BM;rw[eK,List.getElem?_replicate];split<;>rfl
     omega
   simp only[eR,List.sum_cons,cS];refine⟨by omega,λN=>?_⟩;by_cases a:t.v=0
   .rw[eI a]at g;intro x i;rcases ey.1 i with rfl|i
    .exact a
    .exact E (by omega) x i
   .rw[eE a]at g;omega
 obtain⟨P,C⟩:=w _ q.args;have l:=C (by omega);have F:Ae s 0=0:=by omega
 have o:(Ao s 0).2.1=s.size:=by omega
 obtain⟨n,m⟩:=Rk d l;rw[<-hF]at n m;refine⟨?_,n,m⟩;have L:As s (Ae s 0)=([(Ao s 0).1],(As s s.size).2):=by
  rw[F,As,dif_pos (by omega),dif_pos ⟨d,by rw[d,o,Pz _ _ (by omega)];omega⟩];rw[d,o,Pz _ _ (by omega)];have:(As s s.size).1=[]:=by rw[As,dif_neg (by omega)]
  rw[this]
 have f:=Jj s;rw[L]at f;have r:(As s s.size).2=(s.size,K):=by rw[As,dif_neg (by omega)]
 rw[r]at f;unfold bj cN;rw[eE z];cases hp:C4 (EH s) 0 [] with
 |error p=>rw[hp]at f;exact absurd f.1 (by simp)
 |ok cs=>
  rw[hp]at f;obtain⟨_,rfl,_⟩:=f;simp only[eR,gU];have B:=Xb d l;show Option.bind (if((Gy ⟨(Ao s 0).1.head.name,((Ao s 0).1.head.args.map ct).map AO.s⟩).toList==s.toList)=jj then V (⟨(Ao s 0).1.head.name,((Ao s 0).1.head.args.map ct).map AO.s⟩:CV)else Y) _=_;rw[B,<-hF,eI j];simp only[Option.bind_some];rw[eE (by simp only[eL];exact D),RJ q.args l,hF];rfl
def XW{s:g0}{p:CV}(h:bj s=V p):IT s=jj:=by
 unfold bj at h;by_cases n:300<s.size
 .rw[eI n]at h;cases h
 .rw[eE n]at h;have r:=Jj s;unfold cN at h;cases hp:C4 (EH s) 0 [] with
  |error q=>rw[hp]at h;simp at h
  |ok cs=>
   rw[hp]at h r;obtain⟨k,a,_⟩:=r;cases hcs:(As s (Ae s 0)).1 with
   |nil=>rw[hcs]at a;subst a;simp at h
   |cons c rest=>
    cases rest with
    |cons d rest=>rw[hcs]at a;subst a;simp at h
    |nil=>
     rw[hcs]at a;subst a;simp only[eR,gU]at h;by_cases g:((Gy ⟨(bk c).hn,(bk c).zD.map AO.s⟩).toList==s.toList)=jj
     .rw[eI g]at h;simp only[Option.bind_some]at h;by_cases i:2<Z ((bk c).zD.map AO.s)
      .rw[eI i]at h;cases h
      .have B:Gy ⟨(bk c).hn,(bk c).zD.map AO.s⟩=s:=IX g;have y:Ae s 0<s.size:=by
        by_cases o:Ae s 0<s.size
        .exact o
        .rw[As,dif_neg o]at hcs;cases hcs
       have L:c=(Ao s (Ae s 0)).1/\(Ao s (Ae s 0)).2.2=K:=by
        rw[As,dif_pos y]at hcs k;by_cases m:(Ao s (Ae s 0)).2.2=K/\Ae s 0<AN s (Ao s (Ae s 0)).2.1 (Ao s (Ae s 0)).2.2
        .rw[dif_pos m]at hcs;simp only[gW]at hcs;exact⟨hcs.1.symm,m.1⟩
        .rw[dif_neg m]at hcs k;simp only[gW]at hcs;exact⟨hcs.1.symm,k⟩
       obtain⟨f,b⟩:=L;obtain⟨H,u,j⟩:=IB b;have v:=(Dy b).head;have I:=IL s (Ae s 0) (by omega);rw[<-f]at H u j v;have N:s.size=c.head.name.size+Z c.head.args+((c.head.args.map ct).map λt=>(BN t.s).size).sum+2:=by
        rw[<-B];show(Gy ⟨c.head.name,(c.head.args.map ct).map AO.s⟩).size=_;rw[Yx];simp[fN,Function.comp_def]
       obtain⟨M,C⟩:=Rh _ v.args;have D:Ae s 0<=Ae s (Ae s 0):=BR _ _;have A:=C (by omega);(have F:Ae s 0=0:=by omega);rw[F]at f b u j I D;(have G:(Ao s 0).2.1=s.size:=by omega);have z:c.body=[]:=by
        cases hbb:c.body with
        |nil=>rfl
        |cons x l=>have:=j (by rw[hbb];simp);omega
       have w:KN s=jj:=by
        unfold KN;rw[b,G,fO n,<-f,z];have E:¬2<Z c.head.args:=by
         (have e:Z ((bk c).zD.map AO.s)=Z c.head.args:=by show Z ((c.head.args.map ct).map AO.s)=_;simp);rw[e]at i;exact i
        simp[E]
       unfold IT;rw[w,gq];unfold GC;rw[eI w,<-Xb b (by rw[<-f];exact A),<-f];exact g
     .rw[eE g]at h;simp at h
def du(s:g0):bj s=if IT s=jj then V (BJ (GC s))else Y:=by
 cases h:IT s with
 |true=>rw[eI rfl];exact(MH h).1
 |false=>
  rw[eE (by simp)];cases hl:bj s with
  |none=>rfl
  |some p=>rw[XW hl]at h;cases h
def Tj(x:g0):(Dp x).size<=x.size+3:=by
 unfold Dp;split
 .omega
 .split
  .split
   .exact Lt 3 x
   .rw[eO];have:(⟨#[0]⟩:g0).size=1:=rfl;omega
  .omega
def Jt(o:Option CV)(w:j7)(e:Ending)(w':j7):Prop:=∃(p:Fe),e=j4 (.tuple #[jH (j2 (AW p)),jJ o.isSome])/\(∀f,o=V f->p.f=f)/\DL w' p/\Z p.f.zB<=1000/\Ac [] w w'
def Jt.none(w w':j7)(k:Ac [] w w'):Jt Y w (j4 (.tuple #[jH #[O ⟨#[]⟩,U Y 0 0],jJ K])) w':=
 ⟨⟨⟨⟨#[]⟩,[]⟩,U .none 0 0⟩,rfl,(λf h=>by cases h),eU _ _ _ _,eV _,k⟩
set_option maxRecDepth 100000
theorem RS(s:g0)(w:j7)(hs:s.size<=300):
  Calls prog 97 #[O s] w λe w'=>Jt (cN s) w e w':=by
 obtain⟨i0,Pl,NM,RB,Os⟩:=fC Tryz.zh;have E:cN s=match C4 (EH s) 0 [] with
  | .ok [c]=>if((Gy ⟨c.hn,c.zD.map AO.s⟩).toList==s.toList)=jj then V ⟨c.hn,c.zD.map AO.s⟩else Y
  |_=>Y:=rfl
 have FB:j9 (∀cs,C4 (EH s) 0 []=.ok cs->∀y:List Dq,y.map Dq.pc=cs->∀c∈y,c.hn.size<=1000000/\Z c.zD<=1000/\∀t∈c.zD,t.s.size<=1000000):=by
  intro cs K2 y hm c hc;have L:=Sr hs K2 hm;have RO:=(L.fit c hc).pc.head.2;have LL:=Jj s;rw[K2]at LL;obtain⟨g1,g2,_⟩:=LL;have KS:c.pc∈cs:=by rw[<-hm];exact eZ hc
  rw[g2]at KS;obtain⟨r,hr,K9⟩:=eH.1 KS;have hz:=(Hb s (Ae s 0) r hr).1;have e1:r.head.name=c.hn:=congrArg PC.hn K9;have e2:r.head.args.map ct=c.zD:=congrArg PC.zD K9;refine⟨by rw[<-e1];have:=hz.1;omega,RO,λt ht=>?_⟩;rw[<-e2]at ht;obtain⟨u,hu,rfl⟩:=eH.1 ht;show(Dp u.s).size<=_;have I:=Tj u.s;have h2:=hz.2 u hu;omega
 obtain⟨N,hN⟩:∃N,w.heap.size=N:=⟨_,rfl⟩;have HN:=Ab hN;have FP:=Ab ((Ac.refl [] w).alloc (j1 [O ⟨#[]⟩,U Y 0 0].toArray 104));have Bx:=Ab (AI.new w [O ⟨#[]⟩,U Y 0 0] 104);rw[hN]at Bx;clear hN;go_enter func97,ntmps97;refine jT (λKK H1=>?_);go_wp2;refine H1 _ _ ?_;clear H1 KK;rw[Aa HN];change Code.wp _ _ _ _ (w.alloc (j1 [O ⟨#[]⟩,U Y 0 0].toArray 104));generalize w.alloc (j1 [O ⟨#[]⟩,U Y 0 0].toArray 104)=w1 at FP Bx⊢;have M3:=Ab (I5 s w1 hs);have MB:j9 (∀M,Ac [] w1 M->cN s=Y->Jt (cN s) w (j4 (.tuple #[jH [O ⟨#[]⟩,U Y 0 0].toArray,jJ K])) ((M.setCell ⟨N,0,Y⟩ (O ⟨#[]⟩)).setCell ⟨N,1,Y⟩ (U Y 0 0))):=λM hk h=>by
  rw[h];exact Jt.none _ _ (((FP.trans hk).setCell (p:=⟨N,0,Y⟩) (j6 (by have:=Aa HN;show _<=N;omega)) _).setCell (p:=⟨N,1,Y⟩) (j6 (by have:=Aa HN;show _<=N;omega)) _)
 go_wp2_with fail
 refine M3.mono ?_;intro e w2 CC;clear M3;cases hp:C4 (EH s) 0 [] with
 |error p=>
  rw[hp]at CC E;obtain⟨rfl,A⟩:=CC;have G:j9 (cN s=Y):=E;have j:=Ab (Bx.kept A (by simp));have R:=j.cell 0;have P:=j.cell 1;have z0:=j.frozen 0;have z1:=j.frozen 1;simp at R P;have EY:=Ab A;clear hp E FB A;go_wp2;refine eX (Ar rfl (by rfl) ((j.set 0 _).set 1 _) underlying104 rfl (by kernel_rfl)) rfl ?_;exact MB _ EY G
 |ok cs=>
  rw[hp]at CC E;obtain⟨ad,cp,y,rfl,AT,FC,A⟩:=CC;have HJ:Z cs=Z y:=by rw[<-AT];simp
  rw[HJ]at FC⊢;obtain⟨EM,LM⟩:=FC.into;have j:=Ab (Bx.kept A (by simp));have R:=j.cell 0;have P:=j.cell 1;have z0:=j.frozen 0;have z1:=j.frozen 1;simp at R P;have EY:=Ab A;by_cases I:Z y=1
  .obtain⟨c,rfl⟩:∃c,y=[c]:=List.length_eq_one_iff.1 I;obtain⟨g,TS,VR,b,a,M2,FT,SL,SB,RV,he,H6,d0,d1,d2,d3⟩:=Fh EM 0 (by simp);simp only[iT]at H6;simp only[ei]at he;obtain⟨rfl,-,rfl⟩:=he;have L:=Aa FB cs hp [c] AT c (by simp);have HS:=(EM.each c (by simp)).head;have Go:cN s=if((Gy ⟨c.hn,c.zD.map AO.s⟩).toList==s.toList)=jj then V ⟨c.hn,c.zD.map AO.s⟩else Y:=by
    rw[E,<-AT];rfl
   subst H6;simp only at L HS Go;simp only[List.length_singleton];have H7:=Ab Go;have HD:=Ab HS;have Jx:=Ab L;have TL:=L.2.1;clear hp E FB AT FC EM LM HJ L HS Go A I d0 d3;simp only[Nat.zero_mul,fw]at d1 d2;(have T:w.heap.size<=N:=by have:=Aa HN;omega);have RE:N<w2.heap.size:=j.lt;have HU:j9 (AI (w2.setCell ⟨N,0,Y⟩ (O b)) N [O b,U Y 0 0] 104):=j.set 0 (O b);have HR:j9 (Ac [] w (w2.setCell ⟨N,0,Y⟩ (O b))):=(FP.trans EY).setCell (p:=⟨N,0,Y⟩) (j6 T) _;have HF:j9 (jG (w2.setCell ⟨N,0,Y⟩ (O b)) 0 215 2 (U M2 (Z a) FT) (Z a) (a.flatMap Aq)):=Ag (Aa HD) (Ap (Aa HD) (Aa j) (by decide)) _;(go_wp2_with fail);generalize w2.setCell ⟨N,0,Y⟩ (O b)=w3 at HU HR HF⊢;clear d1 d2 R P z0 z1 j HD Bx RE
   go_loopg [34] (Z a) (λgk i wr=>∃(k:Nat) (m:Option Addr) (o:Nat),i=X J k/\k<=Z a/\gk=Z a-k/\j9 (AI wr N [O b,U m k o] 104)/\j9 (jG wr (N+1) 170 1 (U m k o) k (((a.take k).map AO.s).flatMap Ah))/\j9 (jG wr 0 215 2 (U M2 (Z a) FT) (Z a) (a.flatMap Aq))/\j9 (Ac [] w wr))
   case atStart=>exact⟨0,Y,0,rfl,by omega,rfl,HU,eU _ _ _ _,HF,HR⟩
   case round=>
    clear HU HF HR;obtain⟨k,m,o,rfl,hk,MN,S,HX,HH,HK⟩:=hrel;have HG:=Ab MN;clear MN;by_cases CL:k<Z a
    .obtain⟨gt,TV,KB,_,Ha⟩:=AC HH (λc _=>rfl) k CL;simp only[ei]at KB;obtain⟨rfl,-,rfl⟩:=KB;have a0:=Ha k CL 0 (by omega);have a1:=Ha k CL 1 (by omega);obtain⟨⟨tv,v⟩,HV⟩:∃t,a[k]=t:=⟨_,rfl⟩;rw[HV]at a0 a1;simp[Aq]at a0 a1;have Ix:j9 (((a.take (k+1)).map AO.s).flatMap Ah=((a.take k).map AO.s).flatMap Ah++[O v]):=by
      show _=_;rw[ep CL,fi,eY,HV];rfl
     (have ST:(0:Int)<=(k:Int):=by omega);(have RT:(k:Int)<(Z a:Int):=by omega);have Q:=Ab ((Ac.refl [] wr).alloc (j1 [X .i32 tv,O v].toArray 215));have BS:=Ab (AI.new wr [X .i32 tv,O v] 215);have H:=Ab (S.kept Q (by simp));have HL:=Ab (Ad HX Q (by simp));have FA:=Ab (Ad HH Q (by simp));have HA:=Ab (HK.trans Q);clear HV Ha;refine jT (λK1 z=>?_);go_wp2;refine z _ _ ?_;clear z K1;refine jT (λK1 z=>?_);go_wp2;refine z _ _ ?_;clear z K1;refine jT (λK5 LS=>?_);refine wp_block ?_;refine jT (λK1 z=>?_);go_wp2;refine z _ _ ?_;clear z K1 a0 a1;change Code.wp _ _ _ _ (wr.alloc (j1 [X .i32 tv,O v].toArray 215));generalize wr.alloc (j1 [X .i32 tv,O v].toArray 215)=wa at Q BS H HL FA HA⊢;obtain⟨BT,LB⟩:∃BT,wr.heap.size=BT:=⟨_,rfl⟩;rw[LB]at BS⊢;clear LB S HX HH HK;have b1:=H.cell 1;have f1:=H.frozen 1;have t1:=BS.cell 1;simp at b1 t1;have AH:=Aa HL;have SJ:N+1<=wa.heap.size:=H.lt;go_wp2_with (at_builtin;refine eP _ rfl (.tmp 39) (.tmp 42) _ rfl (N+1) 170 i0 _ 1 16 underlying102 Pl NM RB Os rfl (by omega) (U m k o) k (((a.take k).map AO.s).flatMap Ah) rfl (eC AH _) ⟨wa.heap.size,0,Y⟩ 1 1 [O v] rfl rfl (eS (cs:=#[O v]) (t:=170) (fr:=(0,0)) (fe wa _)) (by simp[Value.oneCell']) (by omega) (by unfold maxLen;omega) (by omega) (by simp;omega) (wa.heap.size+1) (by simp) ?_;intro D C w9 HQ DT M6 NB;have W:=(H.alloc (j1 #[O v] 170)).grown DT (Ap AH H (by decide));have b9:=W.cell 1;have f9:=W.frozen 1;simp at b9)
     have Mo:j9 (AI (w9.setCell ⟨N,1,Y⟩ (U (V ⟨D,0,Y⟩) (k+1) C)) N [O b,U (V ⟨D,0,Y⟩) (k+1) C] 104):=W.set 1 _;have H9:j9 (jG (w9.setCell ⟨N,1,Y⟩ (U (V ⟨D,0,Y⟩) (k+1) C)) (N+1) 170 1 (U (V ⟨D,0,Y⟩) (k+1) C) (k+1) (((a.take (k+1)).map AO.s).flatMap Ah)):=by
      rw[Aa Ix];exact Ag HQ (Ap HQ W (by decide)) _
     have M1:j9 (jG (w9.setCell ⟨N,1,Y⟩ (U (V ⟨D,0,Y⟩) (k+1) C)) 0 215 2 (U (V ⟨gt,0,Y⟩) (Z a) FT) (Z a) (a.flatMap Aq)):=by
      have h3:=fT (eC FA (j1 #[O v] 170)) DT (j6 (λe=>A5 FA AH (by decide) gt rfl e.symm));exact Ag h3 (Ap h3 W (by decide)) _
     have LC:j9 (Ac [] w (w9.setCell ⟨N,1,Y⟩ (U (V ⟨D,0,Y⟩) (k+1) C))):=((HA.alloc (j1 #[O v] 170)).grown DT (λq hq=>j6 (by have:=(AH.lt q hq).1;omega))).setCell (p:=⟨N,1,Y⟩) (j6 T) _;generalize w9.setCell ⟨N,1,Y⟩ (U (V ⟨D,0,Y⟩) (k+1) C)=w10 at Mo H9 M1 LC⊢;clear HQ DT M6 NB W b9 f9 b1 f1 t1 AH H HL FA HA BS Q Ix
     try go_wp2
     refine LS _ _ ?_;clear LS;go_wp2
     go_roundg (Z a-(k+1))
     case measure=>have:=Aa HG;omega
     case rel=>exact⟨k+1,V ⟨D,0,Y⟩,C,by go_num,by omega,rfl,Mo,H9,M1,LC⟩
    ·(have NS:k=Z a:=by omega);subst NS;obtain⟨n,A2⟩:∃n,a.map AO.s=n:=⟨_,rfl⟩;(have Nj:Z n=Z a:=by rw[<-A2,eL]);have HM:j9 (DL wr ⟨⟨b,n⟩,U m (Z a) o⟩):=by
      have h:=Aa HX;rw[gP,A2]at h;show jG wr 0 170 1 _ (Z n) _;rw[Nj];exact Am h (eV _)
     have HY:=Aa Jx;have De:=Ab (λM (hkz:Ac [] wr M)=>Nw ⟨⟨b,n⟩,U m (Z a) o⟩ M (HM.kept hkz) (by show Z n<=1000;omega) (λx hx=>by
      have K8:x∈n:=hx
      rw[<-A2]at K8
      obtain⟨t,ht,rfl⟩:=eH.1 K8
      exact HY.2.2 t ht) HY.1)
     simp only[AW]at De;have FL:=Aa H7;rw[A2]at FL;obtain⟨TX,HO⟩:∃TX,Gy ⟨b,n⟩=TX:=⟨_,rfl⟩;rw[HO]at FL;simp only[HO]at De;have KA:=Ab FL;have b0:=S.cell 0;have b1:=S.cell 1;simp at b0 b1;clear FL HO A2 HX HH HY H7 Jx;(go_wp2_with fail);refine(De _ (Ac.refl _ _)).mono ?_;rintro _ w5 ⟨rfl,k5⟩;have F:=Ab (S.kept k5 (by simp));have K7:=Ab (HK.trans k5);have NX:=Ab (HM.kept k5);have R:=F.cell 0;have P:=F.cell 1;have z0:=F.frozen 0;have z1:=F.frozen 1;simp at R P;clear De k5 b0 b1 S HK HM;cases heq:(TX.toList==s.toList)with
     |false=>
      (have Nd:(TX.toList !=s.toList)=jj:=by simp only[bne,heq];rfl);have G:j9 (cN s=Y):=by
       show _=_;rw[Aa KA,heq,eE (by simp)]
      have HW:j9 (Jt (cN s) w (j4 (.tuple #[jH [O ⟨#[]⟩,U Y 0 0].toArray,jJ K])) ((w5.setCell ⟨N,0,Y⟩ (O ⟨#[]⟩)).setCell ⟨N,1,Y⟩ (U Y 0 0))):=by
       rw[Aa G];exact Jt.none _ _ ((K7.setCell (p:=⟨N,0,Y⟩) (j6 T) _).setCell (p:=⟨N,1,Y⟩) (j6 T) _)
      go_wp2;refine eX (Ar rfl (by rfl) ((F.set 0 _).set 1 _) underlying104 rfl (by kernel_rfl)) rfl ?_;exact HW
     |true=>
      (have Nd:(TX.toList !=s.toList)=K:=by simp only[bne,heq];rfl);have G:j9 (cN s=V ⟨b,n⟩):=by
       show _=_;rw[Aa KA,heq,eI rfl]
      have HW:j9 (Jt (cN s) w (j4 (.tuple #[jH [O b,U m (Z a) o].toArray,jJ jj])) ((w5.setCell ⟨N,0,Y⟩ (O b)).setCell ⟨N,1,Y⟩ (U m (Z a) o))):=by
       rw[Aa G];refine⟨⟨⟨b,n⟩,U m (Z a) o⟩,rfl,λf h=>iM h,?_,by show Z n<=1000;omega,(K7.setCell (p:=⟨N,0,Y⟩) (j6 T) _).setCell (p:=⟨N,1,Y⟩) (j6 T) _⟩;have I:=Aa NX;have h2:=Ag I (Ap (v1:=U m (Z a) o) I F (by decide)) (p:=⟨N,0,Y⟩) (O b);have h3:=F.set 0 (O b);exact Ag h2 (Ap (v1:=U m (Z a) o) h2 h3 (by decide)) (p:=⟨N,1,Y⟩) (U m (Z a) o)
      go_wp2;refine eX (Ar rfl (by rfl) ((F.set 0 _).set 1 _) underlying104 rfl (by kernel_rfl)) rfl ?_;exact HW
  .have G:j9 (cN s=Y):=by
    show _=_;rw[E]
    match cs,HJ with
    |[],_=>rfl
    |[c],h=>simp at h;omega
    |c::d::l,_=>rfl
   (have S1:((Z y:Int) !=1)=jj:=by simp;omega);clear hp E FB A AT FC EM LM I;go_wp2;refine eX (Ar rfl (by rfl) ((j.set 0 _).set 1 _) underlying104 rfl (by kernel_rfl)) rfl ?_;exact MB _ EY G
theorem Sa(s:g0)(w:j7)(A2:s.size<=9223372036854775807):
  Calls prog 53 #[O s] w λe Q=>Jt (bj s) w e Q:=by
 obtain⟨N,C⟩:∃N,w.heap.size=N:=⟨_,rfl⟩;have F:=Ab C;have u:=Ab ((Ac.refl [] w).alloc (j1 [O ⟨#[]⟩,U Y 0 0].toArray 104));have n:=Ab (AI.new w [O ⟨#[]⟩,U Y 0 0] 104);rw[C]at n;have v:w.heap.size<=N:=by omega
 clear C;by_cases H:300<s.size
 .have k:j9 (bj s=Y):=by show _=_;unfold bj;rw[eI H]
  go_enter func53,ntmps53;go_wp2;rw[Aa F];refine eX (Ar rfl (by rfl) n underlying104 rfl (by kernel_rfl)) rfl ?_;rw[Aa k];exact Jt.none _ _ u
 .have I:=Ab (λwz=>RS s wz (by omega));have m:j9 (bj s=(cN s).bind λp=>if 2<Z p.zB then Y else V p):=by show _=_;unfold bj;rw[eE H]
  go_enter func53,ntmps53;refine jT (λr i=>?_);go_wp2;refine i _ _ ?_;clear i r;rw[Aa F];change Code.wp _ _ _ _ (w.alloc (j1 [O ⟨#[]⟩,U Y 0 0].toArray 104));generalize w.alloc (j1 [O ⟨#[]⟩,U Y 0 0].toArray 104)=w1 at u n⊢;refine jT (λr i=>?_);go_wp2;refine i _ _ ?_;clear i r;refine jT (λr i=>?_);go_wp2_with fail
  refine(I w1).mono ?_;rintro _ l ⟨⟨⟨d,a⟩,BS⟩,rfl,z,A,D,y⟩;obtain⟨c,b,e⟩:=Ak A;simp only at e D z;subst e;simp only[AW];have g:=Ab ((n.kept y (by simp)).alloc (j1 [O d,U c (Z a) b].toArray 104));have x:=Ab (AI.new l [O d,U c (Z a) b] 104);have G:j9 (DL (l.alloc (j1 [O d,U c (Z a) b].toArray 104)) ⟨⟨d,a⟩,U c (Z a) b⟩):=DL.kept A ((Ac.refl [] l).alloc _);have B:=Ab ((u.trans y).alloc (j1 [O d,U c (Z a) b].toArray 104));have A0:N≠l.heap.size:=by have:=(n.kept y (by simp)).lt;omega
  have t:=Ab z;clear z A y I u n;go_wp2;refine i _ _ ?_;clear i r;change Code.wp _ _ _ _ (l.alloc (j1 [O d,U c (Z a) b].toArray 104));generalize l.alloc (j1 [O d,U c (Z a) b].toArray 104)=w3 at g x G B⊢;obtain⟨M,P⟩:∃M,l.heap.size=M:=⟨_,rfl⟩;rw[P]at x A0⊢;clear P;have c0:=g.cell 0;have c1:=g.cell 1;have z0:=g.frozen 0;have z1:=g.frozen 1;have S:=x.cell 0;have W:=x.cell 1;simp at c0 c1 S W;have L:j9 (bj s=Y->Jt (bj s) w (j4 (.tuple #[jH [O ⟨#[]⟩,U Y 0 0].toArray,jJ K])) ((w3.setCell ⟨N,0,Y⟩ (O ⟨#[]⟩)).setCell ⟨N,1,Y⟩ (U Y 0 0))):=λh=>by
   rw[h];exact Jt.none _ _ ((B.setCell (p:=⟨N,0,Y⟩) (j6 v) _).setCell (p:=⟨N,1,Y⟩) (j6 v) _)
  cases hr:cN s with
  |none=>
   (have k:j9 (bj s=Y):=by show _=_;rw[Aa m,hr];rfl);simp only[Option.isSome_none];clear hr m t;go_wp2;refine eX (Ar rfl (by rfl) ((g.set 0 _).set 1 _) underlying104 rfl (by kernel_rfl)) rfl ?_;exact L k
  |some q=>
   have T:=Aa t q hr;subst T;simp only[Option.isSome_some];by_cases o:2<Z a
   ·(have k:j9 (bj s=Y):=by show _=_;rw[Aa m,hr];show(if 2<Z a then Y else _)=Y;rw[eI o]);(have AT:(2:Int)<(Z a:Int):=by omega);clear hr m t;go_wp2;refine eX (Ar rfl (by rfl) ((g.set 0 _).set 1 _) underlying104 rfl (by kernel_rfl)) rfl ?_;exact L k
   ·(have k:j9 (bj s=V ⟨d,a⟩):=by show _=_;rw[Aa m,hr];show(if 2<Z a then Y else _)=_;rw[eE o]);(have AT:¬(2:Int)<(Z a:Int):=by omega);have R:j9 (Jt (bj s) w (j4 (.tuple #[jH [O d,U c (Z a) b].toArray,jJ jj])) ((w3.setCell ⟨N,0,Y⟩ (O d)).setCell ⟨N,1,Y⟩ (U c (Z a) b))):=by
     rw[Aa k];refine⟨⟨⟨d,a⟩,U c (Z a) b⟩,rfl,λf h=>iM h,?_,D,(B.setCell (p:=⟨N,0,Y⟩) (j6 v) _).setCell (p:=⟨N,1,Y⟩) (j6 v) _⟩;have E:=Aa G;have o:=Ag E (Ap (v1:=U c (Z a) b) E g (by decide)) (p:=⟨N,0,Y⟩) (O d);have h3:=g.set 0 (O d);exact Ag o (Ap (v1:=U c (Z a) b) o h3 (by decide)) (p:=⟨N,1,Y⟩) (U c (Z a) b)
    clear hr m t;go_wp2;refine eX (Ar rfl (by rfl) ((g.set 0 _).set 1 _) underlying104 rfl (by kernel_rfl)) rfl ?_;exact R
def Wn(s:g0)(w:j7)(e:Ending)(w':j7):Prop:=∃(p:B5),e=j4 (.tuple #[jH (j2 (Bq p)),jJ (IT s)])/\p.f=GC s/\Ew w' p/\(∀q,p.av.ownBlock=V q->w.heap.size<=q)/\Ac [] w w'
theorem Xc(s:g0)(w:j7)(Nq:s.size<=9223372036854775807):
  Calls prog 26 #[O s] w λe T=>Wn s w e T:=by
 have K7:j9 (∀f,KN s=K->Ac [] w f->Wn s w (j4 (.tuple #[jH [O ⟨#[]⟩,U Y 0 0].toArray,jJ K])) f):=λf hc hk=>⟨⟨aL,U Y 0 0⟩,by unfold IT;rw[hc];rfl,by unfold GC;rw[hc];rfl,eU _ _ _ _,λq hq=>by simp[Value.ownBlock]at hq,hk⟩
 have HB:=Ab (AI.new w [O ⟨#[]⟩,U Y 0 0] 43);have HR:=Ab ((Ac.refl [] w).alloc (j1 [O ⟨#[]⟩,U Y 0 0].toArray 43));by_cases H1:300<s.size
 .have r:j9 (KN s=K):=by show _=_;unfold KN;rw[gG H1];rfl
  go_enter func26,ntmps26;go_wp2;refine eX (Ar rfl (by rfl) HB underlying43 rfl (by kernel_rfl)) rfl ?_;exact K7 _ r HR
 .have hs:s.size<=300:=by omega
  have Mo:s.size<=1000000:=by omega
  have u:j9 (KN s=(!(Ao s 0).2.2&&(!decide ((Ao s 0).2.1<s.size)&&(!decide (0<Z (Ao s 0).1.body)&& !decide (2<Z (Ao s 0).1.head.args))))):=by show _=_;unfold KN;rw[fO H1];rfl
  have D:j9 (KN s=jj->GC s=Av BM (Ao s 0).1.head):=λh=>by unfold GC;rw[eI h]
  have L:j9 ((Ao s 0).2.2=K->PZ (Ao s 0).1):=λh=>Dy h
  have G:j9 (dP s (Ao s 0).1.head):=L3 _ _ _;have HI:j9 (∀b f,AI f b (BK s 0 K) 73->Calls prog 44 #[.pointer (V ⟨b,0,Y⟩)] f λe T=>∃(hv bv:Value) (bl:List Bw),e=j4 (jH (j2 (CH (Ao s 0).1 hv bv)))/\jG T f.heap.size 93 2 hv (Z (Ao s 0).1.head.args) ((Ao s 0).1.head.args.flatMap AQ)/\bl.map Prod.fst=(Ao s 0).1.body/\jG T f.heap.size 95 9 bv (Z bl) (Dk bl)/\AI T b (BK s (Ao s 0).2.1 (Ao s 0).2.2) 73/\Ac [b] f T):=λb f hb=>(OJ b s 0 f Mo (eV _) hb).mono λe T ⟨hv,bv,bl,o,B,Q,h4,h5,h6,h7⟩=>⟨hv,bv,bl,o,B,Q,h4,h6,h7⟩
  obtain⟨⟨⟨g,d,y⟩,A,B9⟩,a,HU,hR⟩:∃c a HU,Ao s 0=(c,a,HU):=⟨_,_,_,rfl⟩;rw[hR]at u D L G HI;simp only at u D L G HI;clear hR H1;obtain⟨N,hN⟩:∃N,w.heap.size=N:=⟨_,rfl⟩;have HN:=Ab hN;have Ha:=Ab (AI.new (w.alloc (j1 [O ⟨#[]⟩,U Y 0 0].toArray 43)) (BK s 0 K) 73);rw[fg,hN]at Ha;have HD:=Ab (HB.alloc (j1 (j2 (BK s 0 K)) 73));rw[hN]at HD;have HX:=Ab (HR.alloc (j1 (j2 (BK s 0 K)) 73));have HS:j9 (((w.alloc (j1 [O ⟨#[]⟩,U Y 0 0].toArray 43)).alloc (j1 (j2 (BK s 0 K)) 73)).heap.size=N+2):=by show _=_;simp;omega
  clear hN HB HR;go_enter func26,ntmps26;refine jT (λn j=>?_);go_wp2;refine j _ _ ?_;clear j n;refine jT (λn j=>?_);go_wp2;refine j _ _ ?_;clear j n;refine jT (λn j=>?_);go_wp2;refine j _ _ ?_;clear j n;refine jT (λn j=>?_);go_wp2_with fail
  rw[Aa HN];change Calls _ _ _ ((w.alloc (j1 [O ⟨#[]⟩,U Y 0 0].toArray 43)).alloc (j1 (j2 (BK s 0 K)) 73)) _;generalize(w.alloc (j1 [O ⟨#[]⟩,U Y 0 0].toArray 43)).alloc (j1 (j2 (BK s 0 K)) 73)=w2 at Ha HD HX HS⊢;refine(HI (N+1) w2 Ha).mono ?_;rintro _ w3 ⟨hv,bv,bl,rfl,H3,IJ,Jx,HM,k3⟩;obtain⟨AT,AB,rfl⟩:=Ce H3;obtain⟨FC,BS,rfl⟩:=Ce Jx;have JJ:=Ab (HD.kept k3 (by simp));have M0:j9 (Ac [] w w3):=HX.trans' k3 (λq hq=>j6 (by simp only[ex]at hq;have:=Aa HN;omega));have LC:=Ab (Am H3 (eV _));have H5:Z bl=Z A:=by rw[<-IJ,eL]
  rw[H5];have f1:=HM.cell 1;have f2:=HM.cell 2;simp[BK]at f1 f2;have LS:=k3.size;rw[Aa HS]at LS;clear HI Ha HD HX HS H3 IJ Jx HM k3 H5;simp only[CH];have FL:=Ab ((Ac.refl [] w3).alloc (j1 [O g,U AT (Z d) AB,X J y,U FC (Z A) BS,X J B9].toArray 82));have z:=Ab (JJ.alloc (j1 [O g,U AT (Z d) AB,X J y,U FC (Z A) BS,X J B9].toArray 82));have H:=Ab (AI.new w3 [O g,U AT (Z d) AB,X J y,U FC (Z A) BS,X J B9] 82);have g1:=FL.cellAt f1;have g2:=FL.cellAt f2;have B2:=Ab (M0.trans FL);have P:=Ab (Ad LC FL (by simp));clear f1 f2 JJ LC FL;go_wp2;refine j _ _ ?_;clear j n;change Code.wp _ _ _ _ (w3.alloc (j1 [O g,U AT (Z d) AB,X J y,U FC (Z A) BS,X J B9].toArray 82));generalize w3.alloc (j1 [O g,U AT (Z d) AB,X J y,U FC (Z A) BS,X J B9].toArray 82)=w4 at z H g1 g2 B2 P⊢;obtain⟨C,hC⟩:∃C,w3.heap.size=C:=⟨_,rfl⟩;rw[hC]at H⊢;clear hC;have e1:=H.cell 1;have e3:=H.cell 3;simp at e1 e3;have e0:=H.cell 0;have e2:=H.cell 2;have c0:=z.cell 0;have c1:=z.cell 1;have z0:=z.frozen 0;have z1:=z.frozen 1;simp at e0 e2 c0 c1;have FP:j9 (KN s=K->Wn s w (j4 (.tuple #[jH [O ⟨#[]⟩,U Y 0 0].toArray,jJ K])) ((w4.setCell ⟨N,0,Y⟩ (O ⟨#[]⟩)).setCell ⟨N,1,Y⟩ (U Y 0 0))):=λh=>K7 _ h ((B2.setCell (p:=⟨N,0,Y⟩) (j6 (by have:=Aa HN;show _<=N;omega)) _).setCell (p:=⟨N,1,Y⟩) (j6 (by have:=Aa HN;show _<=N;omega)) _)
  cases HU with
  |true=>
   have r:j9 (KN s=K):=u;clear u D L G P;go_wp2;refine eX (Ar rfl (by rfl) ((z.set 0 _).set 1 _) underlying43 rfl (by kernel_rfl)) rfl ?_;exact FP r
  |false=>
   by_cases o:a<s.size
   ·(have r:j9 (KN s=K):=by show _=_;rw[Aa u,gG o];rfl);(have Nd:(a:Int)<(s.size:Int):=by omega);clear u D L G P;go_wp2;refine eX (Ar rfl (by rfl) ((z.set 0 _).set 1 _) underlying43 rfl (by kernel_rfl)) rfl ?_;exact FP r
   ·(have Nd:¬(a:Int)<(s.size:Int):=by omega);by_cases B:0<Z A
    ·(have r:j9 (KN s=K):=by show _=_;rw[Aa u,fO o,gG B];rfl);(have M6:(0:Int)<(Z A:Int):=by omega);clear u D L G P;go_wp2;refine eX (Ar rfl (by rfl) ((z.set 0 _).set 1 _) underlying43 rfl (by kernel_rfl)) rfl ?_;exact FP r
    ·(have M6:¬(0:Int)<(Z A:Int):=by omega);by_cases Q:2<Z d
     ·(have r:j9 (KN s=K):=by show _=_;rw[Aa u,fO o,fO B,gG Q];rfl);(have MY:(2:Int)<(Z d:Int):=by omega);clear u D L G P;go_wp2;refine eX (Ar rfl (by rfl) ((z.set 0 _).set 1 _) underlying43 rfl (by kernel_rfl)) rfl ?_;exact FP r
     ·(have MY:¬(2:Int)<(Z d:Int):=by omega);(have r:j9 (KN s=jj):=by show _=_;rw[Aa u,fO o,fO B,fO Q];rfl);have K3:=(L rfl).head.args;have BT:=Ab (λf (hk:Ac [] w4 f)=>M8 BM ⟨g,d,y⟩ AT AB f rfl (Ad P hk (by simp)) (by show Z d<=1000;omega) (λt ht=>by
       rcases K3 t ht with h|h
       .exact Or.inl h.1
       .exact j6 ⟨h.1,h.2.1⟩))
      simp only[T9,Cj]at BT;have HL:j9 (GC s=Av BM ⟨g,d,y⟩):=D r;have HZ:j9 ((∀x∈(Av BM ⟨g,d,y⟩).args,x.size<=1000000)/\g.size<=1000000):=by
       have hz:=Aa G;refine⟨λx hx=>?_,by have:=hz.1;simp only at this;omega⟩;obtain⟨t,ht,rfl⟩:=eH.1 hx;unfold AJ;split
       .have:=hz.2 t ht;omega
       .unfold BM;rw[eK,List.getElem?_replicate];split<;>exact eV _
      have A1:j9 ((Av BM ⟨g,d,y⟩).name=g/\Z (Av BM ⟨g,d,y⟩).args=Z d):=⟨rfl,by show Z (d.map _)=_;rw[eL]⟩;have S:=Ab ((Ac.refl [] w4).alloc (j1 cW 90));have B0:=Ab (AI.new w4 (jL 26 (O ⟨#[]⟩)) 90);obtain⟨M,HT⟩:∃M,Av BM ⟨g,d,y⟩=M:=⟨_,rfl⟩;simp only[HT]at BT;rw[HT]at HL HZ A1;clear u D L G K3 FP P HT;have Bx:=Ab (H.kept S (by simp));refine jT (λn j=>?_);go_wp2;refine j _ _ ?_;clear j n g1 g2 e0 e1 e2 e3 c0 c1 z0 z1;refine jT (λn j=>?_);go_wp2;refine j _ _ ?_;clear j n;change Code.wp _ _ _ _ (w4.alloc (j1 (j2 (jL 26 (O ⟨#[]⟩))) 90));change j9 (Ac [] w4 (w4.alloc (j1 (j2 (jL 26 (O ⟨#[]⟩))) 90)))at S;change j9 (AI (w4.alloc (j1 (j2 (jL 26 (O ⟨#[]⟩))) 90)) C _ 82)at Bx;generalize w4.alloc (j1 (j2 (jL 26 (O ⟨#[]⟩))) 90)=w5 at S B0 Bx⊢;obtain⟨E,hE⟩:∃E,w4.heap.size=E:=⟨_,rfl⟩;rw[hE]at B0⊢;clear hE;obtain⟨EM,Go⟩:∃EM:List Value,jL 26 (O ⟨#[]⟩)=EM:=⟨_,rfl⟩;(have K6:Z EM=26:=by rw[<-Go];rfl);(have H4:(prog.info? 90).map (·.size)=V (Z EM):=by rw[K6];exact Tryz.zG);rw[Go]at B0;simp only[Go]at BT;clear Go;have e0:=Bx.cell 0;have e1:=Bx.cell 1;have e2:=Bx.cell 2;simp at e0 e1 e2;refine jT (λn j=>?_);go_wp2_with ((with_reducible show wpList _ _ _ ({dst:=_,op:=Op.load 90 _,type:=_,pos:=_,after:=_,guard:=_}::_) _ _);refine gD rfl 90 _ rfl E 0 (by rfl) EM _ B0.range underlying90 rfl H4 ?_)
      refine(BT _ S).mono ?_;rintro _ R ⟨l,m,rfl,KA,IS,k6⟩;have HQ:Ac [] w4 R:=S.trans k6;have H7:=Ab KA;have Nj:j9 (∀q,(U l (Z d) m).ownBlock=V q->w.heap.size<=q):=λq hq=>by
       have o:=IS q hq;have B:=B2.size;have Q:=S.size;omega
      have H9:=Ab (z.kept HQ (by simp));have M3:=Ab (B2.trans HQ);clear BT KA IS k6 HQ e0 e1 e2 S z B2 Bx B0 H4 K6 H;simp only[Bq,(Aa A1).1];have H2:=Ab (λf (hk:Ac [] R f)=>R8 ⟨M,U l (Z d) m⟩ f (H7.kept hk) (by show Z M.args<=1000;have:=A1.2;omega) HZ.1 (by show M.name.size<=_;rw[(Aa A1).1];exact HZ.2));simp only[Bq,(Aa A1).1]at H2;have KB:=Ab (H9.alloc (j1 [O g,U l (Z d) m].toArray 43));have HC:=Ab (AI.new R [O g,U l (Z d) m] 43);have HG:=Ab ((Ac.refl [] R).alloc (j1 [O g,U l (Z d) m].toArray 43));go_wp2;refine j _ _ ?_;clear j n;change Code.wp _ _ _ _ (R.alloc (j1 [O g,U l (Z d) m].toArray 43));generalize R.alloc (j1 [O g,U l (Z d) m].toArray 43)=w7 at KB HC HG⊢;obtain⟨F,hF⟩:∃F,R.heap.size=F:=⟨_,rfl⟩;rw[hF]at HC⊢;(have K1:N≠F:=by have:=H9.lt;omega);clear hF;have FB:j9 (∀f,AI f F [O g,U l (Z d) m] 43->f.cell? ⟨F,0,Y⟩=V (O g)/\f.cell? ⟨F,1,Y⟩=V (U l (Z d) m)):=by
       intro f hb;have h0:=hb.cell 0;have o:=hb.cell 1;simp at h0 o;exact⟨h0,o⟩
      obtain⟨TX,HW⟩:∃TX,Cq M=TX:=⟨_,rfl⟩;simp only[HW]at H2;(have L0:j9 (IT s=(TX.toList==s.toList)):=by show _=_;unfold IT;rw[Aa r,Aa HL,HW,gq]);clear HW;refine jT (λn j=>?_);have HY:=Ab (FB w7.drew HC);refine CK 7 (λf=>f.cell? ⟨F,0,Y⟩=V (O g)/\f.cell? ⟨F,1,Y⟩=V (U l (Z d) m)) (by kernel_rfl) ?_;refine CI.tkH (i:=0) (v:=jH #[O g,U l (Z d) m]) rfl (by kernel_rfl) (λ_ _ _ h=>h) HY (by rfl) ?_ ?_
      ·(rintro f ⟨z0,z1⟩;go_simp)
      simp only[jO,ee,ej,el];refine CI.tkH (i:=1) (v:=jH #[O g,U l (Z d) m]) rfl (by kernel_rfl) (λ_ _ _ h=>h) HY (by rfl) ?_ ?_
      ·(rintro f ⟨z0,z1⟩;go_simp)
      simp only[jO,ee,ej,el];refine CI.tkH (i:=3) (v:=O s) rfl (by kernel_rfl) (λ_ _ _ h=>h) HY (by rfl) ?_ ?_
      ·(rintro f ⟨z0,z1⟩;go_simp)
      simp only[jO,ee,ej,el];refine CI.one (i:=2) (by kernel_rfl) rfl (λFA I=>?_)
      go_simp
      refine(H2 _ (HG.trans (Ac.refl [] w7).drew)).mono ?_;rintro _ w8 ⟨rfl,MB⟩;have k8:Ac [] w7 w8:=(Ac.refl [] w7).drew.trans MB;have HP:=HC.kept k8 (by simp);have W:=KB.kept k8 (by simp);refine I.out _ _ (λ_=>FB _ HP) ?_;clear I FA
      try simp only[jO,ee,ej,el]
      have M2:=Ab (FB _ HP);refine CI.tkH (i:=4) (v:=jJ (TX.toList==s.toList)) rfl (by kernel_rfl) (λ_ _ _ h=>h) M2 (by rfl) ?_ ?_
      ·(rintro f ⟨z0,z1⟩;go_simp)
      simp only[jO,ee,ej,el];have c0:=W.cell 0;have c1:=W.cell 1;have z0:=W.frozen 0;have z1:=W.frozen 1;simp at c0 c1;refine CI.one (i:=5) (by kernel_rfl) rfl (λFA I=>?_)
      go_simp
      have KS:=(HP.zA ⟨N,0,Y⟩ K1 (O g)).zA ⟨N,1,Y⟩ K1 (U l (Z d) m);refine I.out _ _ (λ_=>FB _ KS) ?_;clear I FA
      try simp only[jO,ee,ej,el]
      refine CI.one (i:=6) (by kernel_rfl) rfl (λFA I=>?_)
      go_simp
      refine I.out _ _ (λ_=>FB _ KS) ?_;clear I FA;refine CI.done (by kernel_rfl) ?_ _
      try simp only[jO,ee,ej,el]
      refine j _ _ ?_;clear j n;refine wp_ret ?_;refine eX (Ar rfl (by rfl) ((W.set 0 _).set 1 _) underlying43 rfl (by kernel_rfl)) rfl ?_;(have K9:w.heap.size<=N:=by have:=Aa HN;omega);have M1:=(((M3.trans HG).trans k8).setCell (p:=⟨N,0,Y⟩) (j6 K9) (O g)).setCell (p:=⟨N,1,Y⟩) (j6 K9) (U l (Z d) m);refine⟨⟨M,U l (Z d) m⟩,?_,HL.symm,?_,Nj,M1⟩
      .rw[Aa L0];simp only[Bq,(Aa A1).1];rfl
      .have o:Ew w8 ⟨M,U l (Z d) m⟩:=(H7.kept HG).kept k8;have B:=Ag o (Ap (v1:=U l (Z d) m) o W (by decide)) (p:=⟨N,0,Y⟩) (O g);have Q:=W.set 0 (O g);exact Ag B (Ap (v1:=U l (Z d) m) B Q (by decide)) (p:=⟨N,1,Y⟩) (U l (Z d) m)
set_option maxRecDepth 512
theorem ZD(g m:Int)(t:∀b S T w,g<=b->b<=m->S.size<=9223372036854775807->T.size<=9223372036854775807->Calls prog 39 #[jH #[X J b,O S,O T]] w λe d=>e=j4 (jJ jj)/\Ac [] w d)
  (s q a cap:Nat) (b:Nat->Int) (S T:Nat->g0) (w:j7) (h:VZ w s q a b S T) (N:a<=cap) (Q:cap<=9223372036854775807) (v:∀i,i<a->(S i).size<=9223372036854775807/\(T i).size<=9223372036854775807):
  Calls prog 13 #[U (V ⟨s,q,Y⟩) a cap,X J g,X J m] w λe d=>e=j4 (X J (-1))/\Ac [] w d:=by
 have G:=Ab h;have A:=Ab v;have E:=Ab t;clear h v t;go_enter func13,ntmps13;go_wp2
 go_loopg [7] a (λgk i wr=>∃(k:Nat),i=X J k/\k<=a/\k<=1152921504606846976/\gk=a-k/\j9 (Ac [] w wr))
 case atStart=>exact⟨0,rfl,by omega,by omega,rfl,Ac.refl _ _⟩
 case round=>
  obtain⟨k,rfl,I,D,r,c⟩:=hrel;have f:=Ab r;clear r;by_cases o:k<a
  ·(have F:(k:Int)<(a:Int):=by omega);by_cases n:k<1152921504606846976
   ·(have B:(k:Int)<1152921504606846976:=by omega);have j:=Ab n;clear n D;obtain⟨M,L,H⟩:=G.kept c k o;have x:=Aa A k o;have l:=Ab (c.alloc (j1 [X J (b k),O (S k),O (T k)].toArray 29));by_cases z:g<=b k
    .by_cases y:b k<=m
     .have p:=Ab (E (b k) (S k) (T k) (wr.alloc (j1 [X J (b k),O (S k),O (T k)].toArray 29)) z y x.1 x.2);(go_wp2_with fail);refine p.mono ?_;rintro e P ⟨rfl,u⟩;have C:=Ab (l.trans u);clear p u;go_wp2
      go_roundg (a-(k+1))
      case measure=>have:=Aa f;omega
      case rel=>exact⟨k+1,by go_num,by omega,by have:=Aa j;omega,rfl,C⟩
     .go_wp2
      go_roundg (a-(k+1))
      case measure=>have:=Aa f;omega
      case rel=>exact⟨k+1,by go_num,by omega,by have:=Aa j;omega,rfl,l⟩
    .go_wp2
     go_roundg (a-(k+1))
     case measure=>have:=Aa f;omega
     case rel=>exact⟨k+1,by go_num,by omega,by have:=Aa j;omega,rfl,l⟩
   ·(have B:¬(k:Int)<1152921504606846976:=by omega);go_wp2;go_ret;exact⟨rfl,c⟩
  ·(have F:¬(k:Int)<(a:Int):=by omega);go_wp2;go_ret;exact⟨rfl,c⟩
theorem Zo(c d:Int)(a:Option Addr)(cap:Nat)(w:j7):Calls prog 13 #[U a 0 cap,X J c,X J d] w λe b=>e=j4 (X J (-1))/\Ac [] w b:=by
 go_enter func13,ntmps13;go_wp2
 go_loop [7] (λi=>i=X J 0) (λ_=>0)
 case atStart=>rfl
 case round=>
  subst hrel;go_wp2;go_ret;exact⟨rfl,Ac.refl _ _⟩
