import Derived.Test.YtoihbhenbmffcaaGreatDoorVAR
import Derived.Test.YtoihbhenbmffcaaGreatDoorVBC
import Derived.Test.YtoihbhenbmffcaaGreatDoorVAL
set_option linter.all false
set_option maxHeartbeats 0
open List renaming length->Z,toArray->D6,replicate->NP
open Option renaming none->Y,some->V
open Go.Value renaming slice->U,int->X,string->O,agg->Ms,bool->No
open Bool renaming false->K,true->Cm
open Go.IntKind renaming i64->J
open Go.Obj renaming cells->Dj
open Go.Ending renaming returned->G3
open Or renaming inr->Hf
open Go renaming World->Hq
open Go.RowKit renaming Hid->JR
open Go.World renaming ownsRow->Mi
open ByteArray renaming empty->ND
open Go.Act renaming put->OD
namespace Go.Proofs.YtoihbhenbmffcaaGreatDoor
open Go.RowKit Go.Proofs.Tryz
variable{n i:Nat}{I:Int}{s:bC}{w:Hq}{z:Value}{B:Bool}{g:UInt8}
def WL(s:bC)(b:Nat)(a:Bool):(AM s b a).1.s.size<=s.size:=by
 unfold AM;split
 .exact lW _
 .split
  .split
   .exact lW _
   .split
    .exact MF _ _ _
    .split
     .exact lW _
     .show(ByteArray.extract _ _ _).size<=_;rw[mP];omega
  .exact lW _
def eI(s:bC)(b:Nat):∀t∈(Cb s b).1,t.s.size<=s.size:=by
 fun_induction Cb s b with
 |case1 b hc _ _ ih=>
  intro t a;rcases lI.1 a with rfl|a
  .exact WL _ _ _
  .exact ih t a
 |case2 b hc=>
  intro t a;rw[lG]at a;subst a;exact WL _ _ _
def kx(s:bC)(A:C8):Prop:=A.name.size<=s.size/\∀t∈A.args,t.s.size<=s.size
def NR(s:bC)(c:Nat)(b:Bool):kx s (A3 s c b).1:=by
 unfold A3;refine⟨MF _ _ _,?_⟩;show∀t∈(Et s _).1,_;unfold Et;split
 .intro t a;cases a
 .exact eI _ _
def TN(s:bC):kx s Gp:=⟨lW _,λt a=>by cases a⟩
def ZR(s:bC)(a:Nat):kx s (Dd s a).1.A:=by
 unfold Dd;simp only;split
 .exact NR _ _ _
 .split
  .exact NR _ _ _
  .unfold IF;split
   .exact TN s
   .exact TN s
def eD(s:bC)(b:Nat):∀x∈(A4 s b).1,kx s x.A:=by
 fun_induction A4 s b with
 |case1 b hc _ _ ih=>
  intro t a;rcases lI.1 a with rfl|a
  .exact ZR _ _
  .exact ih t a
 |case2 b hc=>
  intro t a;rw[lG]at a;subst a;exact ZR _ _
def lh(s:bC)(c:CG):Prop:=kx s c.head/\∀x∈c.body,kx s x.A
def MI(s:bC)(b:Nat):lh s (Ao s b).1:=by
 unfold Ao;refine⟨NR _ _ _,?_⟩;show∀x∈(DL s _ _).1,_;unfold DL;split
 .split
  .exact eD _ _
  .intro x a;cases a
 .intro x a;cases a
def GI(s:bC)(b:Nat):∀c∈(An s b).1,lh s c:=by
 fun_induction An s b with
 |case1 b ha hc ih=>
  intro c a;rcases lI.1 a with rfl|a
  .exact MI _ _
  .exact ih c a
 |case2 b ha hc=>
  intro c a;rw[lG]at a;subst a;exact MI _ _
 |case3 b ha=>intro c a;cases a
def MZ:∀(k:Nat) (x:bC),(LO k x).size<=x.size+k
 |0,x=>lX _
 |k+1,x=>by
  rw[LO];split
  .have h:=MZ k (QH++x);have a:QH.size=1:=rfl;rw[lK,a]at h;omega
  .omega
def Pt(x:bC):(AD x).size<=x.size+3:=by
 unfold AD;split
 .exact MZ 3 x
 .omega
def S3(cs ds:QC A7):Prop:=∀c∈cs,∃d∈ds,d.head=c.head/\Am d=Am c
def Hw{b a:QC A7}(h:b.map A7.erase=a.map A7.erase):S3 b a:=by
 intro c g;obtain⟨d,f,e⟩:=(F2.of_map h).zn c g;exact⟨d,f,(congrArg CG.head e).symm,(congrArg CG.body e).symm⟩
def S3.inst{a f:QC A7}(h:S3 a f){i:GZ Af}(l:FZ a i):FZ f i:=by
 obtain⟨c,k,σ,b,rfl⟩:=l;obtain⟨d,g,j,e⟩:=h c k;refine⟨d,g,σ,?_,?_⟩
 .unfold Q6 at b⊢;rw[e];exact b
 .unfold C1;rw[j,e]
def S3.consts{b e:QC A7}(h:S3 b e){x:bC}(a:x∈consts b):x∈consts e:=by
 unfold Go.Proofs.YtoihbhenbmffcaaGreatDoor.consts at a⊢;obtain⟨c,i,a⟩:=mD.1 a;obtain⟨d,f,g,_⟩:=h c i;exact mD.2 ⟨d,f,by rw[g];exact a⟩
def S3.factIn{b g:QC A7}(h:S3 b g){f:Af}(a:DV b f):DV g f:=by
 refine⟨?_,λx l=>h.consts (a.args x l)⟩;obtain⟨c,k,e⟩:=a.zB;obtain⟨d,i,j,_⟩:=h c k;exact⟨d,i,by rw[j];exact e⟩
def S3.inv{a b:QC A7}(h:S3 a b)(g:S3 b a){L:bC->Nat}{s:QC Af}(c:GN a L n s):GN b L n s:=by
 have e:FZ a=FZ b:=funext λi=>propext ⟨h.inst,g.inst⟩
 exact⟨by rw[<-e];exact c.work,c.cE,λf d=>h.factIn (c.fw f d)⟩
def S3.dp{g i:QC A7}(l:S3 i g){L:bC->Nat}(j:CX g L):CX i L:=by
 refine⟨λd e x b a=>?_,λd e x b a=>?_⟩<;>obtain⟨c,h,f,k⟩:=l d e
 .rw[<-f];exact j.pos c h x (by rw[k];exact b) a
 .rw[<-f];exact j.neg c h x (by rw[k];exact b) a
def Je(s:bC)(t:bC)(er:Int):Prop:=
 (er≠0->t=ND)/\
 (er=0->∃(cs:QC A7) (L:bC->Nat) (N:Nat) (u:QC Af),cs.map A7.erase=(An s (Ae s 0)).1/\CX cs L/\GN cs L N u/\(∀c∈cs,L c.head.name<N)/\t=U4 ND (u.map BX))
def Rh{s t i:bC}(g:Je s t I)(h:Oj s i I):t=i:=by
 by_cases e:I=0
 .obtain⟨w,L,N,u,j,o,q,p,rfl⟩:=g.2 e;obtain⟨y,x,f,m,v,l,rfl⟩:=h.2 e;have a:=Hw (j.trans f.symm);have b:=Hw (f.trans j.symm);refine m.text v l (b.dp o) (a.inv b q) (λd k=>?_);obtain⟨c,r,n,_⟩:=b d k;rw[<-n];exact p c r
 .rw[g.1 e,h.1 e]
def O5(H:s.size<=300){n:QC PC}{g:QC DF}(i:Dl (Dt s) 0 []=.ok n)(j:g.map DF.pc=n)(E:DK w z g){r:Int×Int}(C:EI s (jo s) r)(y:r.1=0):
  r=(0,0)/\∃a:QC A7,a.map A7.erase=(An s (Ae s 0)).1/\M7 g a:=by
 have h:=Kr s;rw[i]at h;have d:((An s (Ae s 0)).1.map XU).map A7.erase=(An s (Ae s 0)).1:=by
  rw[mJ]
  conv=>rhs;rw[<-List.map_id (An s (Ae s 0)).1]
  exact mI λc _=>PO c
 generalize(An s (Ae s 0)).1.map XU=a at d;have F:CJ s (CK a).1 (CK a).2:=by
  unfold CJ;rw[lO (by omega),lO (by rw[h.1];simp)];exact⟨a,d,rfl⟩
 have t:=Fa F C;have o:CK a=(0,0):=II (by rw[<-show r.1=(CK a).1 by rw[t]];exact y);refine⟨by rw[t,o],a,d,?_⟩;have G:=(JE s).1;have B:=J9 (by omega) _ 0 [] (lX _) (by simp) i;have u:g.map DF.pc=a.map λr=>gD r.erase:=by
  rw[j,h.2.1,<-d,mJ];rfl
 have m:∀c∈g,KE c.pc:=λc f=>B.1 _ (by rw[<-j];exact lP.2 ⟨c,f,rfl⟩)
 refine⟨(F2.of_map u).mono (λc f b l k=>gB k (m c f) (E.each c f).wf ?_),D8 h.1 d o,m,λc f=>?_⟩
 .exact h.2.2 b.erase (by rw[<-d];exact lP.2 ⟨b,l,rfl⟩)
 .obtain⟨b,l,k⟩:=(F2.of_map u).zn c f;have q:=GI s (Ae s 0) b.erase (by rw[<-d];exact lZ l);refine⟨?_,λp i=>?_⟩
  .have e:c.hn=b.erase.head.name:=congrArg PC.hn k;rw[e];have:=q.1.1;omega
  .have e:c.bm.map Prod.fst=b.erase.body.map LQ:=congrArg PC.body k;(have j:p.1∈b.erase.body.map LQ:=by rw[<-e];exact lZ i);obtain⟨x,D,v⟩:=lP.1 j;rw[<-v];have:=(q.2 x D).1;show x.A.name.size<=_;omega
def Rc(w:s.size<=300){g:QC A7}(h:g.map A7.erase=(An s (Ae s 0)).1){u:QC Af}(q:∀f∈u,DV g f){fs:QC Fh}(k:fs.map Fh.f=u.map BX):
  ∀p∈fs,p.f.name.size<=1000000/\∀x∈p.f.bc,x.size<=1000000:=by
 intro p i;have b:p.f∈u.map BX:=by rw[<-k];exact lZ i
 obtain⟨f,j,e⟩:=lP.1 b;have d:=q f j;rw[<-e];refine⟨?_,λx v=>?_⟩
 .obtain⟨c,a,n,_⟩:=d.zB;show f.name.size<=_;rw[n];have:=(GI s (Ae s 0) c.erase (by rw[<-h];exact lZ a)).1.1;have r:c.erase.head=c.head:=rfl;rw[r]at this;omega
 .obtain⟨y,l,rfl⟩:=lP.1 v;have a:=d.args y l;unfold consts at a;obtain⟨c,m,b⟩:=mD.1 a;obtain⟨t,o,rfl⟩:=lP.1 b;have:=(GI s (Ae s 0) c.erase (by rw[<-h];exact lZ m)).1.2 t (mh.1 o).1;have:=Pt t.s;omega
set_option maxRecDepth 100000
theorem KT(s:bC)(w:Hq)(AR:s.size<=9223372036854775807):
  Calls prog 14 #[O s] w λe i=>∃(t:bC) (r:Int×Int),e=G3 (.tuple #[O t,X J r.1,X J r.2])/\EI s (jo s) r/\Je s t r.1/\Ac [] w i:=by
 have I:=Ab (LV s (jo s) w AR (λf cs m x p=>Me f m p));go_enter func14,ntmps14;go_wp2_with fail
 refine I.mono ?_;rintro _ q ⟨R,n,cp,⟨j,F⟩,rfl,AB,H,E⟩;have A:=Ab AB;have y:=Ab H;have Q:=Ab E;clear I AB H E;by_cases k:j=0
 .subst k;obtain⟨f,cs,x,m,p,rfl,B⟩:=y rfl;obtain⟨T,g,D,C⟩:=O5 f m p B A rfl;obtain rfl:F=0:=(Prod.mk.inj T).2;have A1:((0:Int) !=0)=K:=rfl;have Ax:=Ab (Pz R cp x g q B C);have DY:JR (∀a u L N b,SO q a (U R (Z x) cp) [] u b->CX g L->GN g L N u->(∀c∈g,L c.head.name<N)->
    Calls prog 42 #[.pointer (V ⟨a,1,Y⟩)] b λe i=>∃t,e=G3 (O t)/\Je s t 0/\Ac [] q i):=by
   intro a u L N b G h1 v h3;obtain⟨Bx,BA,W,B9,B2,xs,o,l,d,_⟩:=G.out;have hc:=o.cell 1;have CC:=(C.zB v).2.2;(have B0:Z W=Z u:=by have:=congrArg List.length d.same;simpa using this);refine(VC a 1 Bx BA W b (by simpa using hc) l (by omega) (Rc f D v.fw d.same)).mono ?_;rintro _ i ⟨rfl,hk⟩;exact⟨_,rfl,⟨λh=>absurd rfl h,λ_=>⟨g,L,N,u,D,h1,v,h3,by rw[d.same]⟩⟩,G.kept.trans hk⟩
  clear f m p B T D C y;go_wp2_with fail
  refine Ax.mono ?_;rintro _ b ⟨a,u,L,N,rfl,o,l,d,S⟩;have P:=Ab (DY a u L N b o l d S);clear Ax DY o l d S;go_wp2_with fail
  refine P.mono ?_;rintro _ w3 ⟨t,rfl,hF,M⟩;have z:=Ab hF;have BS:=Ab (Q.trans M);clear P hF M;go_wp2_with fail
  go_ret3;exact⟨t,(0,0),rfl,A,z,BS⟩
 .have A1:(j !=0)=Cm:=by simp[k]
  have z:JR (Je s ND j):=⟨λ_=>rfl,λh=>absurd h k⟩;clear k y;go_wp2_with fail
  go_ret3;exact⟨ND,(j,F),rfl,A,z,Q⟩
def tl(t:AF):Nat:=if t.v=0 then t.s.size else 1
def iR:QC AF->Nat
 |[]=>0
 |t::l=>tl t+iR l
def Tl(h:(Bc s i K).2.2=K):i+(Bc s i K).1.size<=(Bc s i K).2.1/\(Bc s i K).2.1<=s.size:=by
 have b:=Ch s i;by_cases a:AG AA s (Ae s i)=Ae s i\/4<AG AA s (Ae s i)-Ae s i
 .rw[EC rfl rfl a]at h;cases h
 .rw[Li rfl rfl a];have c:=Ps (p:=AA) (s:=s) (i:=Ae s i) (λe=>a (Or.inl e));have d:=Cw AA s (Ae s i);simp only;rw[mP];omega
def Tu(h:(AM s i K).2.2=K):i+tl (AM s i K).1<=(AM s i K).2.1:=by
 have g:=Ch s i;unfold AM at h⊢;rw[lO (by simp)]at h⊢;by_cases c:Ae s i<s.size
 .rw[dif_pos c]at h⊢;by_cases a:Do s[Ae s i]=Cm
  .rw[lS a]at h⊢;unfold tl;have f:s[Ae s i]≠0:=by
    intro e;rw[e]at a;exact absurd a (by decide)
   simp only[lO f];omega
  .rw[lO a]at h⊢;by_cases d:(!Ap s[Ae s i])=Cm
   .rw[lS d]at h⊢;have:=(Tl h).1;unfold tl;simp only[if_true];omega
   .rw[lO d]at h⊢;by_cases b:3<AG Ap s (Ae s i)-Ae s i\/(s[Ae s i]=48/\1<AG Ap s (Ae s i)-Ae s i)
    .rw[lS b]at h;cases h
    .rw[lO b]at h⊢;have j:=Cw Ap s (Ae s i);unfold tl;simp only[if_true];rw[mP];omega
 .rw[dif_neg c]at h;cases h
def XW{s:bC}{i:Nat}(h:(Cb s i).2.2=K):0<Z (Cb s i).1/\i+iR (Cb s i).1+Z (Cb s i).1<=(Cb s i).2.1+1:=by
 fun_induction Cb s i with
 |case1 i hc _ _ ih=>
  have d:=ih h;have a:(AM s i K).2.2=K:=by
   have:=hc.1;rw[mi]at this;simpa using this.1
  have b:=Tu a;have c:(AM s i K).2.1+1<=B7 s (AM s i K).2.1 (AM s i K).2.2 44:=by
   unfold B7;rw[lS hc.1];have:=Ch s (AM s i K).2.1;rw[a];unfold AQ;simp;omega
  simp only[lQ,iR];omega
 |case2 i hc=>
  have b:=Tu h;have c:=EZ s (AM s i K).2.1 (AM s i K).2.2 44;simp only[lQ,mn,iR];omega
def RP(h:(Bz s i B g).2=K):B=K/\i+1<=(Bz s i B g).1:=by
 unfold Bz at h⊢;simp only[Bool.not_eq_false']at h;have a:(!B&&Ej s (AQ s i B) g)=Cm:=by simpa using h
 have b:B=K:=by rw[mi]at a;simpa using a.1
 refine⟨b,?_⟩;unfold B7;rw[lS a];subst b;have:=Ch s i;unfold AQ;simp;omega
def Yn(h:(A3 s i K).2.2=K):0<Z (A3 s i K).1.args/\i+(A3 s i K).1.name.size+iR (A3 s i K).1.args+Z (A3 s i K).1.args+1<=(A3 s i K).2.1:=by
 unfold A3 at h⊢;simp only at h⊢;obtain⟨a,b⟩:=RP h;unfold Et at a b⊢;have k:=Ch s i;cases hm:(Bz s (Bc s (AQ s i K) K).2.1 (Bc s (AQ s i K) K).2.2 40).2 with
 |true=>rw[hm]at a;simp at a
 |false=>
  rw[hm]at a b;simp only[lJ,if_false]at a b⊢;obtain⟨j,e⟩:=RP hm;have g:=(Tl j).1;obtain⟨c,f⟩:=XW a;have d:AQ s i K=Ae s i:=rfl;rw[d]at e g c f b a⊢;refine⟨c,?_⟩;omega
def JN(h:(Ao s i).2.2=K):0<Z (Ao s i).1.head.args/\Ae s i+(Ao s i).1.head.name.size+iR (Ao s i).1.head.args+Z (Ao s i).1.head.args+2<=(Ao s i).2.1/\
  ((Ao s i).1.body≠[]->Ae s i+(Ao s i).1.head.name.size+iR (Ao s i).1.head.args+Z (Ao s i).1.head.args+3<=(Ao s i).2.1):=by
 unfold Ao at h⊢;simp only at h⊢;obtain⟨a,b⟩:=RP h;have f:=(J5 a).1;obtain⟨d,k⟩:=Yn f;unfold DL at a b⊢;by_cases e:(!(A3 s (Ae s i) K).2.2&&Ej s (AQ s (A3 s (Ae s i) K).2.1 (A3 s (Ae s i) K).2.2) 58)=Cm
 .rw[lS e]at a b⊢;by_cases c:Ej s (B7 s (A3 s (Ae s i) K).2.1 (A3 s (Ae s i) K).2.2 58) 45=Cm
  .rw[lS c]at a b⊢;have g:=EZ s (A3 s (Ae s i) K).2.1 (A3 s (Ae s i) K).2.2 58;have j:=W7 s (B7 s (A3 s (Ae s i) K).2.1 (A3 s (Ae s i) K).2.2 58+1);refine⟨d,by omega,λ_=>by omega⟩
  .rw[lO c]at a;cases a
 .rw[lO e]at a b⊢;have g:=EZ s (A3 s (Ae s i) K).2.1 (A3 s (Ae s i) K).2.2 58;simp only at b⊢;exact⟨d,by omega,λh=>absurd rfl h⟩
def Pq:∀(a:QC bC) (s:bC) (b:Bool),(DS s b a).size=s.size+Z a+(a.map λx=>(B4 x).size).sum
 |[],s,b=>by simp[DS]
 |x::a,s,b=>by
  rw[DS,Pq a,lK,lK];have:(if b=Cm then(⟨#[44]⟩:bC)else⟨#[40]⟩).size=1:=by cases b<;>rfl
  rw[this];simp;omega
def cK(n:bC)(a:QC bC):(Fy ⟨n,a⟩).size=n.size+Z a+(a.map λx=>(B4 x).size).sum+2:=by
 unfold Fy;rw[lK,Pq];rfl
def eN{t:AF}(h:Dw t):(B4 (ct t).s).size+(if t.v=0 then 0 else 1)=tl t:=by
 unfold tl;rcases h with⟨a,c⟩|⟨b,_,d⟩
 .rw[lS a,lS a];show(B4 (D4 t.s)).size+0=_;rw[RJ c,Gt c];rfl
 .have a:t.v≠0:=by intro e;rw[e]at b;exact absurd b (by decide)
  rw[lO a,lO a];show(B4 (D4 t.s)).size+1=1;rw[d];have e:D4 ND=ND:=by unfold D4;rw[lS (show ByteArray.empty.size=0 from rfl)]
  rw[e];have a:=KU (k:=ByteArray.empty.size) (s:=ND) (by decide);unfold B4;split
  .rw[a];rfl
  .rfl
def TW:∀(a:QC AF),(∀t∈a,Dw t)->((a.map ct).map λt=>(B4 t.s).size).sum<=iR a/\(iR a<=((a.map ct).map λt=>(B4 t.s).size).sum->∀t∈a,t.v=0)
 |[],_=>⟨by simp[iR],λ_ t f=>by simp at f⟩
 |t::a,h=>by
  have d:=eN (h t (by simp));obtain⟨g,e⟩:=TW a (λx b=>h x (by simp[b]));simp only[l9,List.sum_cons,iR];refine⟨by omega,λi=>?_⟩;by_cases c:t.v=0
  .rw[lS c]at d;intro x b;rcases lI.1 b with rfl|b
   .exact c
   .exact e (by omega) x b
  .rw[lO c]at d;omega
def iN(s:bC):Option C9:=match Dl (Dt s) 0 [] with
 | .ok [c]=>if((Fy ⟨c.hn,c.dx.map AY.s⟩).toList==s.toList)=Cm then V ⟨c.hn,c.dx.map AY.s⟩else Y
 |_=>Y
def gC(s:bC):Option C9:=if 300<s.size then Y else(iN s).bind λp=>if 2<Z p.bc then Y else V p
def Us{a:QC AF}(h:∀t∈a,Dw t)(d:∀t∈a,t.v=0):(a.map ct).map AY.s=(a.map (AL Bj)).map AD:=by
 rw[mJ,mJ];refine mI (λt b=>?_);simp only[Function.comp];show D4 t.s=AD (AL Bj t);unfold AL;rw[lS (d t b)];rcases h t b with⟨_,e⟩|⟨c,_⟩
 .exact RJ e
 .rw[d t b]at c;exact absurd c (by decide)
def T2(h:(Ao s i).2.2=K)(d:∀t∈(Ao s i).1.head.args,t.v=0):AJ (Aq Bj (Ao s i).1.head)/\(Aq Bj (Ao s i).1.head).args≠[]:=by
 have f:=(Ei h).head;refine⟨λx j=>?_,?_⟩
 .obtain⟨t,a,rfl⟩:=lP.1 j;unfold AL;rw[lS (d t a)];rcases f.args t a with⟨_,g⟩|⟨c,_⟩
  .exact g
  .rw[d t a]at c;exact absurd c (by decide)
 .intro e;have:=(JN h).1;have b:=congrArg List.length e;unfold Aq at b;simp only[lR,mn]at b;omega
def az(h:(Ao s i).2.2=K)(a:∀t∈(Ao s i).1.head.args,t.v=0):Fy ⟨(Ao s i).1.head.name,((Ao s i).1.head.args.map ct).map AY.s⟩=B5 (Aq Bj (Ao s i).1.head):=by
 obtain⟨b,c⟩:=T2 h a;rw[<-Pd b c,Us (Ei h).head.args a];rfl
def Hm(h:Hj s=Cm):gC s=V (BX (CP s))/\AJ (CP s)/\(CP s).args≠[]:=by
 unfold Hj at h;rw[mi]at h;obtain⟨k,j⟩:=h;have hF:CP s=Aq Bj (Ao s 0).1.head:=by unfold CP;rw[lS k]
 have A:B5 (CP s)=s:=J4 j;unfold Lo at k;simp only[mi,nW,nV]at k;obtain⟨z,d,S,c4,D⟩:=k;obtain⟨T,W,R⟩:=JN d;have o:=(Ei d).head;have Ax:=JV s 0 (lW _);have Q:s.size=(Ao s 0).1.head.name.size+Z (Ao s 0).1.head.args+((Ao s 0).1.head.args.map λt=>(AL Bj t).size).sum+2:=by
  have g:=congrArg ByteArray.size A;rw[hF]at g;rw[<-g];unfold B5;rw[lK];have:∀(e:QC bC) (b:Bool) (u:bC),(F7 u b e).size=u.size+(e.map ByteArray.size).sum+(if b then Z e else Z e-1):=by
   intro e
   induction e with
   |nil=>intro b u;cases b<;>simp[F7]
   |cons x e ih=>
    intro b u;rw[F7,ih,lK];have I:(⟨#[44]⟩:bC).size=1:=rfl;cases b
    .simp;omega
    .simp[lK,I];omega
  rw[this,lK];have y:(⟨#[40]⟩:bC).size=1:=rfl;have G:(⟨#[41,46]⟩:bC).size=2:=rfl;unfold Aq;simp only[mJ,lR,y,G,Function.comp_def];simp;omega
 have w:∀c:QC AF,(∀t∈c,Dw t)->(c.map λt=>(AL Bj t).size).sum<=iR c/\(iR c<=(c.map λt=>(AL Bj t).size).sum->∀t∈c,t.v=0):=by
  intro c
  induction c with
  |nil=>intro _;exact⟨by simp[iR],λ_ t j=>by simp at j⟩
  |cons t c ih=>
   intro H;obtain⟨M,E⟩:=ih (λx i=>H x (by simp[i]));have g:(AL Bj t).size+(if t.v=0 then 0 else 1)=tl t:=by
    unfold tl AL;by_cases a:t.v=0
    .rw[lS a,lS a,lS a];rfl
    .rw[lO a,lO a,lO a];have:(Bj.getD (t.v.toNat-65) ND).size=0:=by
      unfold Bj;rw[lT,List.getElem?_replicate];split<;>rfl
     omega
   simp only[l9,List.sum_cons,iR];refine⟨by omega,λN=>?_⟩;by_cases a:t.v=0
   .rw[lS a]at g;intro x i;rcases lI.1 i with rfl|i
    .exact a
    .exact E (by omega) x i
   .rw[lO a]at g;omega
 obtain⟨P,C⟩:=w _ o.args;have l:=C (by omega);have F:Ae s 0=0:=by omega
 have q:(Ao s 0).2.1=s.size:=by omega
 obtain⟨n,m⟩:=T2 d l;rw[<-hF]at n m;refine⟨?_,n,m⟩;have L:An s (Ae s 0)=([(Ao s 0).1],(An s s.size).2):=by
  rw[F,An,dif_pos (by omega),dif_pos ⟨d,by rw[d,q,RA _ _ (by omega)];omega⟩];rw[d,q,RA _ _ (by omega)];have:(An s s.size).1=[]:=by rw[An,dif_neg (by omega)]
  rw[this]
 have f:=Kr s;rw[L]at f;have r:(An s s.size).2=(s.size,K):=by rw[An,dif_neg (by omega)]
 rw[r]at f;unfold gC iN;rw[lO z];cases hp:Dl (Dt s) 0 [] with
 |error p=>rw[hp]at f;exact absurd f.1 (by simp)
 |ok cs=>
  rw[hp]at f;obtain⟨_,rfl,_⟩:=f;simp only[l9,nE];have B:=az d l;show Option.bind (if((Fy ⟨(Ao s 0).1.head.name,((Ao s 0).1.head.args.map ct).map AY.s⟩).toList==s.toList)=Cm then V (⟨(Ao s 0).1.head.name,((Ao s 0).1.head.args.map ct).map AY.s⟩:C9)else Y) _=_;rw[B,<-hF,lS j];simp only[Option.bind_some];rw[lO (by simp only[lR];exact D),Us o.args l,hF];rfl
def bO{p:C9}(h:gC s=V p):Hj s=Cm:=by
 unfold gC at h;by_cases n:300<s.size
 .rw[lS n]at h;cases h
 .rw[lO n]at h;have r:=Kr s;unfold iN at h;cases hp:Dl (Dt s) 0 [] with
  |error q=>rw[hp]at h;simp at h
  |ok cs=>
   rw[hp]at h r;obtain⟨k,a,_⟩:=r;cases hcs:(An s (Ae s 0)).1 with
   |nil=>rw[hcs]at a;subst a;simp at h
   |cons c rest=>
    cases rest with
    |cons d rest=>rw[hcs]at a;subst a;simp at h
    |nil=>
     rw[hcs]at a;subst a;simp only[l9,nE]at h;by_cases g:((Fy ⟨(gD c).hn,(gD c).dx.map AY.s⟩).toList==s.toList)=Cm
     .rw[lS g]at h;simp only[Option.bind_some]at h;by_cases i:2<Z ((gD c).dx.map AY.s)
      .rw[lS i]at h;cases h
      .have B:Fy ⟨(gD c).hn,(gD c).dx.map AY.s⟩=s:=J4 g;have y:Ae s 0<s.size:=by
        by_cases o:Ae s 0<s.size
        .exact o
        .rw[An,dif_neg o]at hcs;cases hcs
       have L:c=(Ao s (Ae s 0)).1/\(Ao s (Ae s 0)).2.2=K:=by
        rw[An,dif_pos y]at hcs k;by_cases m:(Ao s (Ae s 0)).2.2=K/\Ae s 0<AQ s (Ao s (Ae s 0)).2.1 (Ao s (Ae s 0)).2.2
        .rw[dif_pos m]at hcs;simp only[nC]at hcs;exact⟨hcs.1.symm,m.1⟩
        .rw[dif_neg m]at hcs k;simp only[nC]at hcs;exact⟨hcs.1.symm,k⟩
       obtain⟨f,b⟩:=L;obtain⟨H,u,j⟩:=JN b;have v:=(Ei b).head;have I:=JV s (Ae s 0) (by omega);rw[<-f]at H u j v;have N:s.size=c.head.name.size+Z c.head.args+((c.head.args.map ct).map λt=>(B4 t.s).size).sum+2:=by
        rw[<-B];show(Fy ⟨c.head.name,(c.head.args.map ct).map AY.s⟩).size=_;rw[cK];simp[mJ,Function.comp_def]
       obtain⟨M,C⟩:=TW _ v.args;have D:Ae s 0<=Ae s (Ae s 0):=Ch _ _;have A:=C (by omega);(have F:Ae s 0=0:=by omega);rw[F]at f b u j I D;(have G:(Ao s 0).2.1=s.size:=by omega);have z:c.body=[]:=by
        cases hbb:c.body with
        |nil=>rfl
        |cons x l=>have:=j (by rw[hbb];simp);omega
       have w:Lo s=Cm:=by
        unfold Lo;rw[b,G,mY n,<-f,z];have E:¬2<Z c.head.args:=by
         (have e:Z ((gD c).dx.map AY.s)=Z c.head.args:=by show Z ((c.head.args.map ct).map AY.s)=_;simp);rw[e]at i;exact i
        simp[E]
       unfold Hj;rw[w,np];unfold CP;rw[lS w,<-az b (by rw[<-f];exact A),<-f];exact g
     .rw[lO g]at h;simp at h
def jE(s:bC):gC s=if Hj s=Cm then V (BX (CP s))else Y:=by
 cases h:Hj s with
 |true=>rw[lS rfl];exact(Hm h).1
 |false=>
  rw[lO (by simp)];cases hl:gC s with
  |none=>rfl
  |some p=>rw[bO hl]at h;cases h
def V5(x:bC):(D4 x).size<=x.size+3:=by
 unfold D4;split
 .omega
 .split
  .split
   .exact MZ 3 x
   .rw[lK];have:(⟨#[0]⟩:bC).size=1:=rfl;omega
  .omega
def KB(o:Option C9)(w:Hq)(e:Ending)(w':Hq):Prop:=∃(p:Fh),e=G3 (.tuple #[Ms (D6 (A8 p)),No o.isSome])/\(∀f,o=V f->p.f=f)/\Ek w' p/\Z p.f.bc<=1000/\Ac [] w w'
def KB.none(w a:Hq)(k:Ac [] w a):KB Y w (G3 (.tuple #[Ms #[O ⟨#[]⟩,U Y 0 0],No K])) a:=
 ⟨⟨⟨⟨#[]⟩,[]⟩,U .none 0 0⟩,rfl,(λf h=>by cases h),mf _ _ _ _,lW _,k⟩
theorem UD(s:bC)(w:Hq)(hs:s.size<=300):
  Calls prog 97 #[O s] w λe w'=>KB (iN s) w e w':=by
 obtain⟨i0,NX,Nd,N4,NS⟩:=mH Tryz.zC;have E:iN s=match Dl (Dt s) 0 [] with
  | .ok [c]=>if((Fy ⟨c.hn,c.dx.map AY.s⟩).toList==s.toList)=Cm then V ⟨c.hn,c.dx.map AY.s⟩else Y
  |_=>Y:=rfl
 have EX:JR (∀cs,Dl (Dt s) 0 []=.ok cs->∀y:QC DF,y.map DF.pc=cs->∀c∈y,c.hn.size<=1000000/\Z c.dx<=1000/\∀t∈c.dx,t.s.size<=1000000):=by
  intro cs Jx y hm c hc;have L:=Me hs Jx hm;have OB:=(L.fit c hc).pc.head.2;have K6:=Kr s;rw[Jx]at K6;obtain⟨g1,g2,_⟩:=K6;have IS:c.pc∈cs:=by rw[<-hm];exact lZ hc
  rw[g2]at IS;obtain⟨r,hr,K2⟩:=lP.1 IS;have hz:=(GI s (Ae s 0) r hr).1;have e1:r.head.name=c.hn:=congrArg PC.hn K2;have e2:r.head.args.map ct=c.dx:=congrArg PC.dx K2;refine⟨by rw[<-e1];have:=hz.1;omega,OB,λt ht=>?_⟩;rw[<-e2]at ht;obtain⟨u,hu,rfl⟩:=lP.1 ht;show(D4 u.s).size<=_;have I:=V5 u.s;have h2:=hz.2 u hu;omega
 obtain⟨N,hN⟩:=QP w.heap.size;have HN:=Ab hN;have FC:=Ab ((SF [] w).alloc (Dj [O ⟨#[]⟩,U Y 0 0].toArray 104));have A1:=Ab (Tc w [O ⟨#[]⟩,U Y 0 0] 104);rw[hN]at A1;clear hN;go_enter func97,ntmps97;refine Q0 (λKK HW=>?_);go_wp2;refine HW _ _ ?_;clear HW KK;rw[Aa HN];change Code.wp _ _ _ _ (w.alloc (Dj [O ⟨#[]⟩,U Y 0 0].toArray 104));generalize w.alloc (Dj [O ⟨#[]⟩,U Y 0 0].toArray 104)=w1 at FC A1⊢;have Mo:=Ab (Kb s w1 hs);have LC:JR (∀M,Ac [] w1 M->iN s=Y->KB (iN s) w (G3 (.tuple #[Ms [O ⟨#[]⟩,U Y 0 0].toArray,No K])) ((M.setCell ⟨N,0,Y⟩ (O ⟨#[]⟩)).setCell ⟨N,1,Y⟩ (U Y 0 0))):=λM hk h=>by
  rw[h];exact KB.none _ _ (((FC.trans hk).setCell (p:=⟨N,0,Y⟩) (Hf (by have:=Aa HN;show _<=N;omega)) _).setCell (p:=⟨N,1,Y⟩) (Hf (by have:=Aa HN;show _<=N;omega)) _)
 go_wp2_with fail
 refine Mo.mono ?_;intro e w2 B0;clear Mo;cases hp:Dl (Dt s) 0 [] with
 |error p=>
  rw[hp]at B0 E;obtain⟨rfl,A⟩:=B0;have G:JR (iN s=Y):=E;have j:=Ab (A1.kept A);have R:=j.cell 0;have P:=j.cell 1;have z0:=j.frozen 0;have z1:=j.frozen 1;simp at R P;have EK:=Ab A;clear hp E EX A;go_wp2;refine mj (Aw rfl (by rfl) ((j.set 0 _).set 1 _) underlying104 rfl (by kernel_rfl)) rfl ?_;exact LC _ EK G
 |ok cs=>
  rw[hp]at B0 E;obtain⟨ad,cp,y,rfl,AO,EY,A⟩:=B0;have HC:Z cs=Z y:=by rw[<-AO];simp
  rw[HC]at EY⊢;obtain⟨CL,K7⟩:=EY.into;have j:=Ab (A1.kept A);have R:=j.cell 0;have P:=j.cell 1;have z0:=j.frozen 0;have z1:=j.frozen 1;simp at R P;have EK:=Ab A;by_cases I:Z y=1
  .obtain⟨c,rfl⟩:∃c,y=[c]:=List.length_eq_one_iff.1 I;obtain⟨g,RO,SJ,b,a,L0,FF,QQ,PT,Pl,he,H2,d0,d1,d2,d3⟩:=F9 CL 0 (by simp);simp only[ox]at H2;simp only[lB]at he;obtain⟨rfl,-,rfl⟩:=he;have L:=Aa EX cs hp [c] AO c (by simp);have HO:=(CL.each c (by simp)).head;have FO:iN s=if((Fy ⟨c.hn,c.dx.map AY.s⟩).toList==s.toList)=Cm then V ⟨c.hn,c.dx.map AY.s⟩else Y:=by
    rw[E,<-AO];rfl
   subst H2;simp only at L HO FO;simp only[List.length_singleton];have H3:=Ab FO;have Go:=Ab HO;have H9:=Ab L;have RI:=L.2.1;clear hp E EX AO EY CL K7 HC L HO FO A I d0 d3;simp only[Nat.zero_mul,mC]at d1 d2;(have T:w.heap.size<=N:=by have:=Aa HN;omega);have Op:N<w2.heap.size:=j.lt;have HQ:JR (AI (w2.setCell ⟨N,0,Y⟩ (O b)) N [O b,U Y 0 0] 104):=j.set 0 (O b);have HM:JR (Ac [] w (w2.setCell ⟨N,0,Y⟩ (O b))):=(FC.trans EK).setCell (p:=⟨N,0,Y⟩) (Hf T) _;have Ha:JR (Mi (w2.setCell ⟨N,0,Y⟩ (O b)) 0 215 2 (U L0 (Z a) FF) (Z a) (a.flatMap Ar)):=Ah (Aa Go) (As (Aa Go) (Aa j) (by decide)) _;(go_wp2_with fail);generalize w2.setCell ⟨N,0,Y⟩ (O b)=w3 at HQ HM Ha⊢;clear d1 d2 R P z0 z1 j Go A1 Op
   go_loopg [34] (Z a) (λgk i wr=>∃(k:Nat) (m:Option Addr) (o:Nat),i=X J k/\k<=Z a/\gk=Z a-k/\JR (AI wr N [O b,U m k o] 104)/\JR (Mi wr (N+1) 170 1 (U m k o) k (((a.take k).map AY.s).flatMap Ag))/\JR (Mi wr 0 215 2 (U L0 (Z a) FF) (Z a) (a.flatMap Ar))/\JR (Ac [] w wr))
   case atStart=>exact⟨0,Y,0,rfl,by omega,rfl,HQ,mf _ _ _ _,Ha,HM⟩
   case round=>
    clear HQ Ha HM;obtain⟨k,m,o,rfl,hk,LE,S,HX,HH,HK⟩:=hrel;have HG:=Ab LE;clear LE;by_cases B2:k<Z a
    .obtain⟨gt,RT,IJ,_,FP⟩:=AC HH (λc _=>rfl) k B2;simp only[lB]at IJ;obtain⟨rfl,-,rfl⟩:=IJ;have a0:=FP k B2 0 (by omega);have a1:=FP k B2 1 (by omega);obtain⟨⟨tv,v⟩,HR⟩:∃t,a[k]=t:=⟨_,rfl⟩;rw[HR]at a0 a1;simp[Ar]at a0 a1;have H6:JR (((a.take (k+1)).map AY.s).flatMap Ag=((a.take k).map AY.s).flatMap Ag++[O v]):=by
      show _=_;rw[lF B2,mx,mm,HR];rfl
     (have RB:(0:Int)<=(k:Int):=by omega);(have OH:(k:Int)<(Z a:Int):=by omega);have Q:=Ab ((SF [] wr).alloc (Dj [X .i32 tv,O v].toArray 215));have Bx:=Ab (Tc wr [X .i32 tv,O v] 215);have H:=Ab (S.kept Q);have HD:=Ab (Ad HX Q);have ES:=Ab (Ad HH Q);have FT:=Ab (HK.trans Q);clear HR FP;refine Q0 (λK1 z=>?_);go_wp2;refine z _ _ ?_;clear z K1;refine Q0 (λK1 z=>?_);go_wp2;refine z _ _ ?_;clear z K1;refine Q0 (λK5 K8=>?_);refine wp_block ?_;refine Q0 (λK1 z=>?_);go_wp2;refine z _ _ ?_;clear z K1 a0 a1;change Code.wp _ _ _ _ (wr.alloc (Dj [X .i32 tv,O v].toArray 215));generalize wr.alloc (Dj [X .i32 tv,O v].toArray 215)=wa at Q Bx H HD ES FT⊢;obtain⟨BT,K3⟩:=QP wr.heap.size;rw[K3]at Bx⊢;clear K3 S HX HH HK;have b1:=H.cell 1;have f1:=H.frozen 1;have t1:=Bx.cell 1;simp at b1 t1;have AH:=Aa HD;have P0:N+1<=wa.heap.size:=H.lt;go_wp2_with (at_builtin;refine me _ rfl (.tmp 39) (.tmp 42) _ rfl (N+1) 170 i0 _ 1 16 underlying102 NX Nd N4 NS rfl (by omega) (U m k o) k (((a.take k).map AY.s).flatMap Ag) rfl (lM AH _) ⟨wa.heap.size,0,Y⟩ 1 1 [O v] rfl rfl (mg (mo wa _)) (by simp[Value.oneCell']) (by omega) (by unfold maxLen;omega) (by omega) (by simp;omega) (wa.heap.size+1) (by simp) ?_;intro D C w9 HL B9 MB M3;have W:=(H.alloc (Dj #[O v] 170)).grown B9 (As AH H (by decide));have b9:=W.cell 1;have f9:=W.frozen 1;simp at b9)
     have LB:JR (AI (w9.setCell ⟨N,1,Y⟩ (U (V ⟨D,0,Y⟩) (k+1) C)) N [O b,U (V ⟨D,0,Y⟩) (k+1) C] 104):=W.set 1 _;have H5:JR (Mi (w9.setCell ⟨N,1,Y⟩ (U (V ⟨D,0,Y⟩) (k+1) C)) (N+1) 170 1 (U (V ⟨D,0,Y⟩) (k+1) C) (k+1) (((a.take (k+1)).map AY.s).flatMap Ag)):=by
      rw[Aa H6];exact Ah HL (As HL W (by decide)) _
     have LS:JR (Mi (w9.setCell ⟨N,1,Y⟩ (U (V ⟨D,0,Y⟩) (k+1) C)) 0 215 2 (U (V ⟨gt,0,Y⟩) (Z a) FF) (Z a) (a.flatMap Ar)):=by
      have h3:=m0 (lM ES (Dj #[O v] 170)) B9 (Hf (λe=>Bg ES AH (by decide) gt rfl e.symm));exact Ah h3 (As h3 W (by decide)) _
     have K4:JR (Ac [] w (w9.setCell ⟨N,1,Y⟩ (U (V ⟨D,0,Y⟩) (k+1) C))):=((FT.alloc (Dj #[O v] 170)).grown B9 (λq hq=>Hf (by have:=(AH.lt q hq).1;omega))).setCell (p:=⟨N,1,Y⟩) (Hf T) _;generalize w9.setCell ⟨N,1,Y⟩ (U (V ⟨D,0,Y⟩) (k+1) C)=w10 at LB H5 LS K4⊢;clear HL B9 MB M3 W b9 f9 b1 f1 t1 AH H HD ES FT Bx Q H6
     try go_wp2
     refine K8 _ _ ?_;clear K8;go_wp2
     go_roundg (Z a-(k+1))
     case measure=>have:=Aa HG;omega
     case rel=>exact⟨k+1,V ⟨D,0,Y⟩,C,by go_num,by omega,rfl,LB,H5,LS,K4⟩
    ·(have Nq:k=Z a:=by omega);subst Nq;obtain⟨n,A0⟩:=QP (a.map AY.s);(have MY:Z n=Z a:=by rw[<-A0,lR]);have HF:JR (Ek wr ⟨⟨b,n⟩,U m (Z a) o⟩):=by
      have h:=Aa HX;rw[nM,A0]at h;show Mi wr 0 170 1 _ (Z n) _;rw[MY];exact Al h (lW _)
     have HT:=Aa H9;have DY:=Ab (λM (hkz:Ac [] wr M)=>La ⟨⟨b,n⟩,U m (Z a) o⟩ M (HF.kept hkz) (by show Z n<=1000;omega) (λx hx=>by
      have KS:x∈n:=hx
      rw[<-A0]at KS
      obtain⟨t,ht,rfl⟩:=lP.1 KS
      exact HT.2.2 t ht) HT.1)
     simp only[A8]at DY;have FA:=Aa H3;rw[A0]at FA;obtain⟨TX,HI⟩:=QP (Fy ⟨b,n⟩);rw[HI]at FA;simp only[HI]at DY;have IA:=Ab FA;have b0:=S.cell 0;have b1:=S.cell 1;simp at b0 b1;clear FA HI A0 HX HH HT H3 H9;(go_wp2_with fail);refine(DY _ (SF _ _)).mono ?_;rintro _ w5 ⟨rfl,k5⟩;have F:=Ab (S.kept k5);have KD:=Ab (HK.trans k5);have NA:=Ab (HF.kept k5);have R:=F.cell 0;have P:=F.cell 1;have z0:=F.frozen 0;have z1:=F.frozen 1;simp at R P;clear DY k5 b0 b1 S HK HF;cases heq:(TX.toList==s.toList)with
     |false=>
      (have MN:(TX.toList !=s.toList)=Cm:=by simp only[bne,heq];rfl);have G:JR (iN s=Y):=by
       show _=_;rw[Aa IA,heq,lO (by simp)]
      have HS:JR (KB (iN s) w (G3 (.tuple #[Ms [O ⟨#[]⟩,U Y 0 0].toArray,No K])) ((w5.setCell ⟨N,0,Y⟩ (O ⟨#[]⟩)).setCell ⟨N,1,Y⟩ (U Y 0 0))):=by
       rw[Aa G];exact KB.none _ _ ((KD.setCell (p:=⟨N,0,Y⟩) (Hf T) _).setCell (p:=⟨N,1,Y⟩) (Hf T) _)
      go_wp2;refine mj (Aw rfl (by rfl) ((F.set 0 _).set 1 _) underlying104 rfl (by kernel_rfl)) rfl ?_;exact HS
     |true=>
      (have MN:(TX.toList !=s.toList)=K:=by simp only[bne,heq];rfl);have G:JR (iN s=V ⟨b,n⟩):=by
       show _=_;rw[Aa IA,heq,lS rfl]
      have HS:JR (KB (iN s) w (G3 (.tuple #[Ms [O b,U m (Z a) o].toArray,No Cm])) ((w5.setCell ⟨N,0,Y⟩ (O b)).setCell ⟨N,1,Y⟩ (U m (Z a) o))):=by
       rw[Aa G];refine⟨⟨⟨b,n⟩,U m (Z a) o⟩,rfl,λf h=>oU h,?_,by show Z n<=1000;omega,(KD.setCell (p:=⟨N,0,Y⟩) (Hf T) _).setCell (p:=⟨N,1,Y⟩) (Hf T) _⟩;have I:=Aa NA;have h2:=Ah I (As (v1:=U m (Z a) o) I F (by decide)) (p:=⟨N,0,Y⟩) (O b);have h3:=F.set 0 (O b);exact Ah h2 (As (v1:=U m (Z a) o) h2 h3 (by decide)) (p:=⟨N,1,Y⟩) (U m (Z a) o)
      go_wp2;refine mj (Aw rfl (by rfl) ((F.set 0 _).set 1 _) underlying104 rfl (by kernel_rfl)) rfl ?_;exact HS
  .have G:JR (iN s=Y):=by
    show _=_;rw[E]
    match cs,HC with
    |[],_=>rfl
    |[c],h=>simp at h;omega
    |c::d::l,_=>rfl
   (have RG:((Z y:Int) !=1)=Cm:=by simp;omega);clear hp E EX A AO EY CL K7 I;go_wp2;refine mj (Aw rfl (by rfl) ((j.set 0 _).set 1 _) underlying104 rfl (by kernel_rfl)) rfl ?_;exact LC _ EK G
theorem UU(s:bC)(w:Hq)(A0:s.size<=9223372036854775807):
  Calls prog 53 #[O s] w λe Q=>KB (gC s) w e Q:=by
 obtain⟨N,C⟩:=QP w.heap.size;have F:=Ab C;have u:=Ab ((SF [] w).alloc (Dj [O ⟨#[]⟩,U Y 0 0].toArray 104));have n:=Ab (Tc w [O ⟨#[]⟩,U Y 0 0] 104);rw[C]at n;have v:w.heap.size<=N:=by omega
 clear C;by_cases H:300<s.size
 .have k:JR (gC s=Y):=by show _=_;unfold gC;rw[lS H]
  go_enter func53,ntmps53;go_wp2;rw[Aa F];refine mj (Aw rfl (by rfl) n underlying104 rfl (by kernel_rfl)) rfl ?_;rw[Aa k];exact KB.none _ _ u
 .have I:=Ab (λwz=>UD s wz (by omega));have m:JR (gC s=(iN s).bind λp=>if 2<Z p.bc then Y else V p):=by show _=_;unfold gC;rw[lO H]
  go_enter func53,ntmps53;refine Q0 (λr i=>?_);go_wp2;refine i _ _ ?_;clear i r;rw[Aa F];change Code.wp _ _ _ _ (w.alloc (Dj [O ⟨#[]⟩,U Y 0 0].toArray 104));generalize w.alloc (Dj [O ⟨#[]⟩,U Y 0 0].toArray 104)=w1 at u n⊢;refine Q0 (λr i=>?_);go_wp2;refine i _ _ ?_;clear i r;refine Q0 (λr i=>?_);go_wp2_with fail
  refine(I w1).mono ?_;rintro _ l ⟨⟨⟨d,a⟩,Bx⟩,rfl,z,A,D,y⟩;obtain⟨c,b,e⟩:=Ak A;simp only at e D z;subst e;simp only[A8];have g:=Ab ((n.kept y).alloc (Dj [O d,U c (Z a) b].toArray 104));have x:=Ab (Tc l [O d,U c (Z a) b] 104);have G:JR (Ek (l.alloc (Dj [O d,U c (Z a) b].toArray 104)) ⟨⟨d,a⟩,U c (Z a) b⟩):=Ek.kept A ((SF [] l).alloc _);have B:=Ab ((u.trans y).alloc (Dj [O d,U c (Z a) b].toArray 104));have AR:N≠l.heap.size:=by have:=(n.kept y).lt;omega
  have t:=Ab z;clear z A y I u n;go_wp2;refine i _ _ ?_;clear i r;change Code.wp _ _ _ _ (l.alloc (Dj [O d,U c (Z a) b].toArray 104));generalize l.alloc (Dj [O d,U c (Z a) b].toArray 104)=w3 at g x G B⊢;obtain⟨M,P⟩:=QP l.heap.size;rw[P]at x AR⊢;clear P;have c0:=g.cell 0;have c1:=g.cell 1;have z0:=g.frozen 0;have z1:=g.frozen 1;have S:=x.cell 0;have W:=x.cell 1;simp at c0 c1 S W;have L:JR (gC s=Y->KB (gC s) w (G3 (.tuple #[Ms [O ⟨#[]⟩,U Y 0 0].toArray,No K])) ((w3.setCell ⟨N,0,Y⟩ (O ⟨#[]⟩)).setCell ⟨N,1,Y⟩ (U Y 0 0))):=λh=>by
   rw[h];exact KB.none _ _ ((B.setCell (p:=⟨N,0,Y⟩) (Hf v) _).setCell (p:=⟨N,1,Y⟩) (Hf v) _)
  cases hr:iN s with
  |none=>
   (have k:JR (gC s=Y):=by show _=_;rw[Aa m,hr];rfl);simp only[Option.isSome_none];clear hr m t;go_wp2;refine mj (Aw rfl (by rfl) ((g.set 0 _).set 1 _) underlying104 rfl (by kernel_rfl)) rfl ?_;exact L k
  |some q=>
   have T:=Aa t q hr;subst T;simp only[Option.isSome_some];by_cases o:2<Z a
   ·(have k:JR (gC s=Y):=by show _=_;rw[Aa m,hr];show(if 2<Z a then Y else _)=Y;rw[lS o]);(have AO:(2:Int)<(Z a:Int):=by omega);clear hr m t;go_wp2;refine mj (Aw rfl (by rfl) ((g.set 0 _).set 1 _) underlying104 rfl (by kernel_rfl)) rfl ?_;exact L k
   ·(have k:JR (gC s=V ⟨d,a⟩):=by show _=_;rw[Aa m,hr];show(if 2<Z a then Y else _)=_;rw[lO o]);(have AO:¬(2:Int)<(Z a:Int):=by omega);have R:JR (KB (gC s) w (G3 (.tuple #[Ms [O d,U c (Z a) b].toArray,No Cm])) ((w3.setCell ⟨N,0,Y⟩ (O d)).setCell ⟨N,1,Y⟩ (U c (Z a) b))):=by
     rw[Aa k];refine⟨⟨⟨d,a⟩,U c (Z a) b⟩,rfl,λf h=>oU h,?_,D,(B.setCell (p:=⟨N,0,Y⟩) (Hf v) _).setCell (p:=⟨N,1,Y⟩) (Hf v) _⟩;have E:=Aa G;have o:=Ah E (As (v1:=U c (Z a) b) E g (by decide)) (p:=⟨N,0,Y⟩) (O d);have h3:=g.set 0 (O d);exact Ah o (As (v1:=U c (Z a) b) o h3 (by decide)) (p:=⟨N,1,Y⟩) (U c (Z a) b)
    clear hr m t;go_wp2;refine mj (Aw rfl (by rfl) ((g.set 0 _).set 1 _) underlying104 rfl (by kernel_rfl)) rfl ?_;exact R
def Vv(s:bC)(w:Hq)(e:Ending)(w':Hq):Prop:=∃(p:BM),e=G3 (.tuple #[Ms (D6 (Bw p)),No (Hj s)])/\p.f=CP s/\D0 w' p/\(∀q,p.av.ownBlock=V q->w.heap.size<=q)/\Ac [] w w'
theorem Vl(s:bC)(w:Hq)(M1:s.size<=9223372036854775807):
  Calls prog 26 #[O s] w λe T=>Vv s w e T:=by
 have K1:JR (∀g,Lo s=K->Ac [] w g->Vv s w (G3 (.tuple #[Ms [O ⟨#[]⟩,U Y 0 0].toArray,No K])) g):=λg hc hk=>⟨⟨fJ,U Y 0 0⟩,by unfold Hj;rw[hc];rfl,by unfold CP;rw[hc];rfl,mf _ _ _ _,λq hq=>by simp[Value.ownBlock]at hq,hk⟩
 have HB:=Ab (Tc w [O ⟨#[]⟩,U Y 0 0] 43);have HK:=Ab ((SF [] w).alloc (Dj [O ⟨#[]⟩,U Y 0 0].toArray 43));by_cases HV:300<s.size
 .have r:JR (Lo s=K):=by show _=_;unfold Lo;rw[nP HV];rfl
  go_enter func26,ntmps26;go_wp2;refine mj (Aw rfl (by rfl) HB underlying43 rfl (by kernel_rfl)) rfl ?_;exact K1 _ r HK
 .have hs:s.size<=300:=by omega
  have LC:s.size<=1000000:=by omega
  have u:JR (Lo s=(!(Ao s 0).2.2&&(!decide ((Ao s 0).2.1<s.size)&&(!decide (0<Z (Ao s 0).1.body)&& !decide (2<Z (Ao s 0).1.head.args))))):=by show _=_;unfold Lo;rw[mY HV];rfl
  have D:JR (Lo s=Cm->CP s=Aq Bj (Ao s 0).1.head):=λh=>by unfold CP;rw[lS h]
  have L:JR ((Ao s 0).2.2=K->Si (Ao s 0).1):=λh=>Ei h
  have G:JR (kx s (Ao s 0).1.head):=NR _ _ _;have HC:JR (∀b g,AI g b (B1 s 0 K) 73->Calls prog 44 #[.pointer (V ⟨b,0,Y⟩)] g λe T=>∃(hv bv:Value) (bl:QC Be),e=G3 (Ms (D6 (DI (Ao s 0).1 hv bv)))/\Mi T g.heap.size 93 2 hv (Z (Ao s 0).1.head.args) ((Ao s 0).1.head.args.flatMap AX)/\bl.map Prod.fst=(Ao s 0).1.body/\Mi T g.heap.size 95 9 bv (Z bl) (DH bl)/\AI T b (B1 s (Ao s 0).2.1 (Ao s 0).2.2) 73/\Ac [b] g T):=λb g hb=>(QB b s 0 g LC (lW _) hb).mono λe T ⟨hv,bv,bl,o,B,Q,h4,h5,h6,h7⟩=>⟨hv,bv,bl,o,B,Q,h4,h6,h7⟩
  obtain⟨⟨⟨f,d,y⟩,A,BB⟩,a,HO,hR⟩:∃c a HO,Ao s 0=(c,a,HO):=⟨_,_,_,rfl⟩;rw[hR]at u D L G HC;simp only at u D L G HC;clear hR HV;obtain⟨N,hN⟩:=QP w.heap.size;have HN:=Ab hN;have FL:=Ab (Tc (w.alloc (Dj [O ⟨#[]⟩,U Y 0 0].toArray 43)) (B1 s 0 K) 73);rw[mt,hN]at FL;have FT:=Ab (HB.alloc (Dj (D6 (B1 s 0 K)) 73));rw[hN]at FT;have HR:=Ab (HK.alloc (Dj (D6 (B1 s 0 K)) 73));have HL:JR (((w.alloc (Dj [O ⟨#[]⟩,U Y 0 0].toArray 43)).alloc (Dj (D6 (B1 s 0 K)) 73)).heap.size=N+2):=by show _=_;simp;omega
  clear hN HB HK;go_enter func26,ntmps26;refine Q0 (λn j=>?_);go_wp2;refine j _ _ ?_;clear j n;refine Q0 (λn j=>?_);go_wp2;refine j _ _ ?_;clear j n;refine Q0 (λn j=>?_);go_wp2;refine j _ _ ?_;clear j n;refine Q0 (λn j=>?_);go_wp2_with fail
  rw[Aa HN];change Calls _ _ _ ((w.alloc (Dj [O ⟨#[]⟩,U Y 0 0].toArray 43)).alloc (Dj (D6 (B1 s 0 K)) 73)) _;generalize(w.alloc (Dj [O ⟨#[]⟩,U Y 0 0].toArray 43)).alloc (Dj (D6 (B1 s 0 K)) 73)=w2 at FL FT HR HL⊢;refine(HC (N+1) w2 FL).mono ?_;rintro _ w3 ⟨hv,bv,bl,rfl,HX,H6,H8,HG,k3⟩;obtain⟨AH,AB,rfl⟩:=Cy HX;obtain⟨ES,A1,rfl⟩:=Cy H8;have H9:=Ab (FT.kept k3);have LS:JR (Ac [] w w3):=HR.trans' k3 (λq hq=>Hf (by simp only[lG]at hq;have:=Aa HN;omega));have K5:=Ab (Al HX (lW _));have HZ:Z bl=Z A:=by rw[<-H6,lR]
  rw[HZ];have f1:=HG.cell 1;have f2:=HG.cell 2;simp[B1]at f1 f2;have K9:=k3.size;rw[Aa HL]at K9;clear HC FL FT HR HL HX H6 H8 HG k3 HZ;simp only[DI];have EX:=Ab ((SF [] w3).alloc (Dj [O f,U AH (Z d) AB,X J y,U ES (Z A) A1,X J BB].toArray 82));have z:=Ab (H9.alloc (Dj [O f,U AH (Z d) AB,X J y,U ES (Z A) A1,X J BB].toArray 82));have H:=Ab (Tc w3 [O f,U AH (Z d) AB,X J y,U ES (Z A) A1,X J BB] 82);have g1:=EX.cellAt f1;have g2:=EX.cellAt f2;have BA:=Ab (LS.trans EX);have P:=Ab (Ad K5 EX);clear f1 f2 H9 K5 EX;go_wp2;refine j _ _ ?_;clear j n;change Code.wp _ _ _ _ (w3.alloc (Dj [O f,U AH (Z d) AB,X J y,U ES (Z A) A1,X J BB].toArray 82));generalize w3.alloc (Dj [O f,U AH (Z d) AB,X J y,U ES (Z A) A1,X J BB].toArray 82)=w4 at z H g1 g2 BA P⊢;obtain⟨C,hC⟩:=QP w3.heap.size;rw[hC]at H⊢;clear hC;have e1:=H.cell 1;have e3:=H.cell 3;simp at e1 e3;have e0:=H.cell 0;have e2:=H.cell 2;have c0:=z.cell 0;have c1:=z.cell 1;have z0:=z.frozen 0;have z1:=z.frozen 1;simp at e0 e2 c0 c1;have E0:JR (Lo s=K->Vv s w (G3 (.tuple #[Ms [O ⟨#[]⟩,U Y 0 0].toArray,No K])) ((w4.setCell ⟨N,0,Y⟩ (O ⟨#[]⟩)).setCell ⟨N,1,Y⟩ (U Y 0 0))):=λh=>K1 _ h ((BA.setCell (p:=⟨N,0,Y⟩) (Hf (by have:=Aa HN;show _<=N;omega)) _).setCell (p:=⟨N,1,Y⟩) (Hf (by have:=Aa HN;show _<=N;omega)) _)
  cases HO with
  |true=>
   have r:JR (Lo s=K):=u;clear u D L G P;go_wp2;refine mj (Aw rfl (by rfl) ((z.set 0 _).set 1 _) underlying43 rfl (by kernel_rfl)) rfl ?_;exact E0 r
  |false=>
   by_cases o:a<s.size
   ·(have r:JR (Lo s=K):=by show _=_;rw[Aa u,nP o];rfl);(have MY:(a:Int)<(s.size:Int):=by omega);clear u D L G P;go_wp2;refine mj (Aw rfl (by rfl) ((z.set 0 _).set 1 _) underlying43 rfl (by kernel_rfl)) rfl ?_;exact E0 r
   ·(have MY:¬(a:Int)<(s.size:Int):=by omega);by_cases B:0<Z A
    ·(have r:JR (Lo s=K):=by show _=_;rw[Aa u,mY o,nP B];rfl);(have MN:(0:Int)<(Z A:Int):=by omega);clear u D L G P;go_wp2;refine mj (Aw rfl (by rfl) ((z.set 0 _).set 1 _) underlying43 rfl (by kernel_rfl)) rfl ?_;exact E0 r
    ·(have MN:¬(0:Int)<(Z A:Int):=by omega);by_cases Q:2<Z d
     ·(have r:JR (Lo s=K):=by show _=_;rw[Aa u,mY o,mY B,nP Q];rfl);(have LM:(2:Int)<(Z d:Int):=by omega);clear u D L G P;go_wp2;refine mj (Aw rfl (by rfl) ((z.set 0 _).set 1 _) underlying43 rfl (by kernel_rfl)) rfl ?_;exact E0 r
     ·(have LM:¬(2:Int)<(Z d:Int):=by omega);(have r:JR (Lo s=Cm):=by show _=_;rw[Aa u,mY o,mY B,mY Q];rfl);have JJ:=(L rfl).head.args;have A2:=Ab (λg (hk:Ac [] w4 g)=>LT Bj ⟨f,d,y⟩ AH AB g rfl (Ad P hk) (by show Z d<=1000;omega) (λt ht=>by
       rcases JJ t ht with h|h
       .exact Or.inl h.1
       .exact Hf ⟨h.1,h.2.1⟩))
      simp only[Xa,CB]at A2;have HF:JR (CP s=Aq Bj ⟨f,d,y⟩):=D r;have HT:JR ((∀x∈(Aq Bj ⟨f,d,y⟩).args,x.size<=1000000)/\f.size<=1000000):=by
       have hz:=Aa G;refine⟨λx hx=>?_,by have:=hz.1;simp only at this;omega⟩;obtain⟨t,ht,rfl⟩:=lP.1 hx;unfold AL;split
       .have:=hz.2 t ht;omega
       .unfold Bj;rw[lT,List.getElem?_replicate];split<;>exact lW _
      have AR:JR ((Aq Bj ⟨f,d,y⟩).name=f/\Z (Aq Bj ⟨f,d,y⟩).args=Z d):=⟨rfl,by show Z (d.map _)=_;rw[lR]⟩;have S:=Ab ((SF [] w4).alloc (Dj iZ 90));have Bx:=Ab (Tc w4 (NP 26 (O ⟨#[]⟩)) 90);obtain⟨M,HM⟩:=QP (Aq Bj ⟨f,d,y⟩);simp only[HM]at A2;rw[HM]at HF HT AR;clear u D L G JJ E0 P HM;have AT:=Ab (H.kept S);refine Q0 (λn j=>?_);go_wp2;refine j _ _ ?_;clear j n g1 g2 e0 e1 e2 e3 c0 c1 z0 z1;refine Q0 (λn j=>?_);go_wp2;refine j _ _ ?_;clear j n;change Code.wp _ _ _ _ (w4.alloc (Dj (D6 (NP 26 (O ⟨#[]⟩))) 90));change JR (Ac [] w4 (w4.alloc (Dj (D6 (NP 26 (O ⟨#[]⟩))) 90)))at S;change JR (AI (w4.alloc (Dj (D6 (NP 26 (O ⟨#[]⟩))) 90)) C _ 82)at AT;generalize w4.alloc (Dj (D6 (NP 26 (O ⟨#[]⟩))) 90)=w5 at S Bx AT⊢;obtain⟨E,hE⟩:=QP w4.heap.size;rw[hE]at Bx⊢;clear hE;obtain⟨EM,FC⟩:∃EM:QC Value,NP 26 (O ⟨#[]⟩)=EM:=⟨_,rfl⟩;(have KS:Z EM=26:=by rw[<-FC];rfl);(have HY:(prog.info? 90).map (·.size)=V (Z EM):=by rw[KS];exact Tryz.zh);rw[FC]at Bx;simp only[FC]at A2;clear FC;have e0:=AT.cell 0;have e1:=AT.cell 1;have e2:=AT.cell 2;simp at e0 e1 e2;refine Q0 (λn j=>?_);go_wp2_with ((with_reducible show wpList _ _ _ ({dst:=_,op:=Op.load 90 _,type:=_,pos:=_,after:=_,guard:=_}::_) _ _);refine nH rfl 90 _ rfl E 0 (by rfl) EM _ Bx.range underlying90 rfl HY ?_)
      refine(A2 _ S).mono ?_;rintro _ R ⟨l,m,rfl,IA,H7,k6⟩;have HJ:Ac [] w4 R:=S.trans k6;have H2:=Ab IA;have M0:JR (∀q,(U l (Z d) m).ownBlock=V q->w.heap.size<=q):=λq hq=>by
       have o:=H7 q hq;have B:=BA.size;have Q:=S.size;omega
      have H4:=Ab (z.kept HJ);have MB:=Ab (BA.trans HJ);clear A2 IA H7 k6 HJ e0 e1 e2 S z BA AT Bx HY KS H;simp only[Bw,(Aa AR).1];have HW:=Ab (λg (hk:Ac [] R g)=>Ny ⟨M,U l (Z d) m⟩ g (H2.kept hk) (by show Z M.args<=1000;have:=AR.2;omega) HT.1 (by show M.name.size<=_;rw[(Aa AR).1];exact HT.2));simp only[Bw,(Aa AR).1]at HW;have IJ:=Ab (H4.alloc (Dj [O f,U l (Z d) m].toArray 43));have FP:=Ab (Tc R [O f,U l (Z d) m] 43);have Ha:=Ab ((SF [] R).alloc (Dj [O f,U l (Z d) m].toArray 43));go_wp2;refine j _ _ ?_;clear j n;change Code.wp _ _ _ _ (R.alloc (Dj [O f,U l (Z d) m].toArray 43));generalize R.alloc (Dj [O f,U l (Z d) m].toArray 43)=w7 at IJ FP Ha⊢;obtain⟨F,hF⟩:=QP R.heap.size;rw[hF]at FP⊢;(have Jx:N≠F:=by have:=H4.lt;omega);clear hF;have EK:JR (∀g,AI g F [O f,U l (Z d) m] 43->g.cell? ⟨F,0,Y⟩=V (O f)/\g.cell? ⟨F,1,Y⟩=V (U l (Z d) m)):=by
       intro g hb;have h0:=hb.cell 0;have o:=hb.cell 1;simp at h0 o;exact⟨h0,o⟩
      obtain⟨TX,HQ⟩:=QP (B5 M);simp only[HQ]at HW;(have LB:JR (Hj s=(TX.toList==s.toList)):=by show _=_;unfold Hj;rw[Aa r,Aa HF,HQ,np]);clear HQ;refine Q0 (λn j=>?_);have HS:=Ab (EK w7.drew FP);refine CI 7 (λg=>g.cell? ⟨F,0,Y⟩=V (O f)/\g.cell? ⟨F,1,Y⟩=V (U l (Z d) m)) (by kernel_rfl) ?_;refine CH.tqH (i:=0) (v:=Ms #[O f,U l (Z d) m]) rfl (λ_ _ _ h=>h) HS ?_;simp only[OD,lz,lC,lD];refine CH.tqH (i:=1) (v:=Ms #[O f,U l (Z d) m]) rfl (λ_ _ _ h=>h) HS ?_;simp only[OD,lz,lC,lD];refine CH.tqH (i:=3) (v:=O s) rfl (λ_ _ _ h=>h) HS ?_;simp only[OD,lz,lC,lD];refine CH.one (i:=2) (by kernel_rfl) rfl (λDT I=>?_)
      go_simp
      refine(HW _ (Ha.trans (SF [] w7).drew)).mono ?_;rintro _ w8 ⟨rfl,LE⟩;have k8:Ac [] w7 w8:=(SF [] w7).drew.trans LE;have HI:=FP.kept k8;have W:=IJ.kept k8;refine I.out _ _ (λ_=>EK _ HI) ?_;clear I DT
      try simp only[OD,lz,lC,lD]
      have Mo:=Ab (EK _ HI);refine CH.tqH (i:=4) (v:=No (TX.toList==s.toList)) rfl (λ_ _ _ h=>h) Mo ?_;simp only[OD,lz,lC,lD];have c0:=W.cell 0;have c1:=W.cell 1;have z0:=W.frozen 0;have z1:=W.frozen 1;simp at c0 c1;refine CH.one (i:=5) (by kernel_rfl) rfl (λDT I=>?_)
      go_simp
      have IS:=(HI.bI ⟨N,0,Y⟩ Jx (O f)).bI ⟨N,1,Y⟩ Jx (U l (Z d) m);refine I.out _ _ (λ_=>EK _ IS) ?_;clear I DT
      try simp only[OD,lz,lC,lD]
      refine CH.one (i:=6) (by kernel_rfl) rfl (λDT I=>?_)
      go_simp
      refine I.out _ _ (λ_=>EK _ IS) ?_;clear I DT;refine CH.done (by kernel_rfl) ?_ _
      try simp only[OD,lz,lC,lD]
      refine j _ _ ?_;clear j n;refine wp_ret ?_;refine mj (Aw rfl (by rfl) ((W.set 0 _).set 1 _) underlying43 rfl (by kernel_rfl)) rfl ?_;(have K3:w.heap.size<=N:=by have:=Aa HN;omega);have L0:=(((MB.trans Ha).trans k8).setCell (p:=⟨N,0,Y⟩) (Hf K3) (O f)).setCell (p:=⟨N,1,Y⟩) (Hf K3) (U l (Z d) m);refine⟨⟨M,U l (Z d) m⟩,?_,HF.symm,?_,M0,L0⟩
      .rw[Aa LB];simp only[Bw,(Aa AR).1];rfl
      .have o:D0 w8 ⟨M,U l (Z d) m⟩:=(H2.kept Ha).kept k8;have B:=Ah o (As (v1:=U l (Z d) m) o W (by decide)) (p:=⟨N,0,Y⟩) (O f);have Q:=W.set 0 (O f);exact Ah B (As (v1:=U l (Z d) m) B Q (by decide)) (p:=⟨N,1,Y⟩) (U l (Z d) m)
