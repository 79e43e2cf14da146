import Derived.Test.YtoihbhenbmffcaaGreatDoorMG
import Derived.Lib.SliceRun
import Derived.Shelf.RegionOpenPlain
import Derived.LoopIn
import Derived.OwnWalk
set_option linter.all false
set_option maxHeartbeats 0
open List renaming length->Z,toArray->Za,replicate->kB,flatMap->qS,take->qT,foldl->qU
open Option renaming none->Y,some->V,toList->qV
open Go.Value renaming slice->U,int->X,string->O,pointer->jj,agg->ku,bool->kx,ownBlock->kE,ownBlock->qW
open Bool renaming false->K,true->T6
open Go.IntKind renaming i64->J
open Go.Obj renaming cells->Y6
open Go.Ending renaming returned->j1
open Or renaming inl->j2,inr->j3
open Go renaming World->jH,Value->jR,Calls->rE,undef->rH
open Go.RowKit renaming Hid->jV,intOf->rG
open Go.World renaming cell?->jY,ownsRow->kt
open ByteArray renaming empty->ky
open Go.Act renaming put->kF
open Go.Proofs.Tryz renaming prog->rF
open Prod renaming fst->kD
namespace Go.Proofs.YtoihbhenbmffcaaGreatDoor
open Go.RowKit Go.Proofs.Tryz
section
variable{n i m k b j:Nat}{I:Int}{s:bN}{w v u:jH}{z:jR}{c:kN AW}{B:rD}{g:rC}{y x:kN jR}{o:rB}{M:kN Nat}{p:kN CQ}
def Xe(s b a):(AN s b a).1.s.size<=s.size:=by
 unfold AN;split
 .exact mr _
 .split
  .split
   .exact mr _
   .split
    .exact Nh _ _ _
    .split
     .exact mr _
     exact li
  exact ln
def fq(s b):∀t∈(CO s b).1,t.s.size<=s.size:=by
 fun_induction CO s b with
 |case1 b hc _ _ ih=>
  intro t a;rcases l9.1 a with rfl|a
  .exact Xe _ _ _
  .exact ih t a
 |case2 b hc=>
  intro t a;rw[lX]at a;subst a;exact Xe _ _ _
def lh(s:bN)(A:Dp):Prop:=A.a.size<=s.size/\∀t∈A.qH,t.s.size<=s.size
def Ol(s c b):lh s (A5 s c b).1:=by
 refine⟨Nh _ _ _,?_⟩;show∀t∈(Ez s _).1,_;unfold Ez;split
 .exact ln
 .exact fq _ _
def T5(s):lh s Hg:=⟨mr _,λt a=>by cases a⟩
def aq(s a):lh s (DO s a).1.A:=by
 unfold DO;simp only;split
 .exact Ol _ _ _
 .split
  .exact Ol _ _ _
  .unfold Jh;split
   .exact T5 s
   .exact T5 s
def fh(s b):∀x∈(By s b).1,lh s x.A:=by
 fun_induction By s b with
 |case1 b hc _ _ ih=>
  intro t a;rcases l9.1 a with rfl|a
  .exact aq _ _
  .exact ih t a
 |case2 b hc=>
  intro t a;rw[lX]at a;subst a;exact aq _ _
def lP(s:bN)(c:Cv):Prop:=lh s c.E/\∀x∈c.body,lh s x.A
def Iu(s b):lP s (An s b).1:=by
 refine⟨Ol _ _ _,?_⟩;show∀x∈(Eg s _ _).1,_;unfold Eg;split
 .split
  .exact fh _ _
  exact ln
 exact ln
def FJ(s b):∀c∈(Ao s b).1,lP s c:=by
 fun_induction Ao s b with
 |case1 b ha hc ih=>
  intro c a;rcases l9.1 a with rfl|a
  .exact Iu _ _
  .exact ih c a
 |case2 b ha hc=>
  intro c a;rw[lX]at a;subst a;exact Iu _ _
 |case3 b ha=>exact ln
def ND:∀k x,(Mj k x).size<=x.size+k
 |0,x=>mt _
 |k+1,x=>by
  rw[Mj];split
  .have h:=ND k (Q6++x);have a:Q6.size=1:=rfl;rw[mj,a]at h;omega
  .omega
def Lu(x):(AE x).size<=x.size+3:=by
 unfold AE;split
 .exact ND 3 x
 .omega
def Qo(cs ds:kN AW):Prop:=∀c∈cs,∃d∈ds,d.E=c.E/\Am d=Am c
def Qn{b a}(h:b.map AW.erase=a.map AW.erase):Qo b a:=by
 intro c g;obtain⟨d,f,e⟩:=(F2.of_map h).yG c g;exact⟨d,f,(rk Cv.E e).symm,(rk Cv.body e).symm⟩
def Qo.inst{a f}(h:Qo a f){i}(l:F7 a i):F7 f i:=by
 obtain⟨c,k,σ,b,rfl⟩:=l;obtain⟨d,g,j,e⟩:=h c k;refine⟨d,g,σ,?_,?_⟩
 .unfold Oy at b|-;rw[e];exact b
 .unfold Dr;rw[j,e]
def Qo.consts{b e:kN AW}(h:Qo b e){x:bN}(a:x∈consts b):x∈consts e:=by
 unfold Go.Proofs.YtoihbhenbmffcaaGreatDoor.consts at a|-;obtain⟨c,i,a⟩:=mH.1 a;obtain⟨d,f,g,_⟩:=h c i;exact mH.2 ⟨d,f,by rw[g];exact a⟩
def Qo.factIn{b g}(h:Qo b g){f}(a:DQ b f):DQ g f:=by
 refine⟨?_,λx l=>h.consts (a.qH x l)⟩;obtain⟨c,k,e⟩:=a.zV;obtain⟨d,i,j,_⟩:=h c k;exact⟨d,i,by rw[j];exact e⟩
def Qo.inv{a b}(h:Qo a b)(g:Qo b a){L}{s}(c:Hu a L n s):Hu b L n s:=by
 have e:F7 a=F7 b:=funext λi=>propext ⟨h.inst,g.inst⟩
 exact⟨by rw[<-e];exact c.work,c.zB,λf d=>h.factIn (c.zS f d)⟩
def Qo.zQ{g i}(l:Qo i g){L}(j:CP g L):CP i L:=by
 refine⟨λd e x b a=>?_,λd e x b a=>?_⟩<;>obtain⟨c,h,f,k⟩:=l d e
 .rw[<-f];exact j.pos c h x (by rw[k];exact b) a
 .rw[<-f];exact j.neg c h x (by rw[k];exact b) a
def RP(s:bN)(t:bN)(er:Int):Prop:=
 (er≠0->t=ky)/\
 (er=0->∃(cs:kN AW) (L:bN->Nat) (N:Nat) (u:kN Ae),cs.map AW.erase=(Ao s (Af s 0)).1/\CP cs L/\Hu cs L N u/\(∀c∈cs,L c.E.a<N)/\t=Ts ky (u.map Bn))
def Zn{s t i}(g:RP s t I)(h:QV s i I):t=i:=by
 by_cases e:I=0
 .obtain⟨w,L,N,u,j,o,q,p,rfl⟩:=g.2 e;obtain⟨y,x,f,m,v,l,rfl⟩:=h.2 e;have a:=Qn (j.H f.symm);have b:=Qn (f.H j.symm);refine m.qJ v l (b.zQ o) (a.inv b q) (λd k=>?_);obtain⟨c,r,n,_⟩:=b d k;rw[<-n];exact p c r
 .rw[g.1 e,h.1 e]
def Mk(H:s.size<=300){n}{g:kN CQ}(i:Dq (DB s) 0 []=.ok n)(j:g.map CQ.pc=n)(E:CA w z g){r}(C:EC s (jK s) r)(y:r.1=0):
  r=(0,0)/\∃a:kN AW,a.map AW.erase=(Ao s (Af s 0)).1/\Ia g a:=by
 have h:=KO s;rw[i]at h;have d:((Ao s (Af s 0)).1.map Yl).map AW.erase=(Ao s (Af s 0)).1:=by
  rw[nh]
  conv=>rhs;rw[<-List.map_id (Ao s (Af s 0)).1]
  exact nj λc _=>P3 c
 generalize(Ao s (Af s 0)).1.map Yl=a at d;have F:Ds s (CH a).1 (CH a).2:=by
  unfold Ds;rw[mm lc,mm (by rw[h.1];simp)];exact⟨a,d,rfl⟩
 have t:=Fc F C;have o:=GO (by rw[<-show r.1=(CH a).1 by rw[t]];exact y);refine⟨by rw[t,o],a,d,?_⟩;have G:=(JT s).1;have B:=Kp lc _ 0 [] (mt _) ln i;have u:g.map CQ.pc=a.map λr=>im r.erase:=by
  rw[j,h.2.1,<-d,nh];rfl
 have m:∀c∈g,Lf c.pc:=λc f=>B.1 _ (by rw[<-j];exact me.2 ⟨c,f,rfl⟩)
 refine⟨(F2.of_map u).G (λc f b l k=>il k (m c f) (E.j c f).wf ?_),EN h.1 d o,m,λc f=>?_⟩
 .exact h.2.2 _ (by rw[<-d];exact me.2 ⟨b,l,rfl⟩)
 .obtain⟨b,l,k⟩:=(F2.of_map u).yG c f;have q:=FJ s _ _ (by rw[<-d];exact mx l);refine⟨?_,λp i=>?_⟩
  .have e:c.hn=b.erase.E.a:=rk PC.hn k;rw[e];have:=q.1.1;omega
  .have e:c.ea.map Prod.fst=b.erase.body.map Mn:=rk PC.body k;(have j:p.1∈b.erase.body.map Mn:=by rw[<-e];exact mx i);obtain⟨x,D,v⟩:=me.1 j;rw[<-v];have:=(q.2 x D).1;show x.A.a.size<=_;omega
def Rv(w:s.size<=300){g:kN AW}(h:g.map AW.erase=(Ao s (Af s 0)).1){u:kN Ae}(q:∀f∈u,DQ g f){fs:kN D5}(k:fs.map D5.f=u.map Bn):
  ∀p∈fs,p.f.a.size<=1000000/\∀x∈p.f.dN,x.size<=1000000:=by
 intro p i;have b:p.f∈u.map Bn:=by rw[<-k];exact mx i
 obtain⟨f,j,e⟩:=me.1 b;have d:=q f j;rw[<-e];refine⟨?_,λx v=>?_⟩
 .obtain⟨c,a,n,_⟩:=d.zV;show f.a.size<=_;rw[n];have:=(FJ s _ _ (by rw[<-h];exact mx a)).1.1;have r:c.erase.E=c.E:=rfl;rw[r]at this;omega
 .obtain⟨y,l,rfl⟩:=me.1 v;have a:=d.qH y l;obtain⟨c,m,b⟩:=mH.1 a;obtain⟨t,o,rfl⟩:=me.1 b;have:=(FJ s _ _ (by rw[<-h];exact mx m)).1.2 t (my.1 o).1;have:=Lu t.s;omega
set_option maxRecDepth 100000
theorem V5(s:bN)(w)(AR:s.size<=9223372036854775807):rE rF 14 #[O s] w λe i=>∃(t:bN) (r:Int×Int),e=j1 (.tuple #[O t,X J r.1,X J r.2])/\EC s (jK s) r/\RP s t r.1/\Ac [] w i:=by
 have I:=Ab (JK s (jK s) w AR (λf cs m x p=>KM f m p));go_enter func14,ntmps14;go_wp2_with fail
 refine I.G ?_;rintro _ q ⟨R,n,cp,⟨j,F⟩,rfl,AB,H,E⟩;have A:=Ab AB;have y:=Ab H;have Q:=Ab E;clear I AB H E;by_cases k:j=0
 .subst k;obtain⟨f,cs,x,m,p,rfl,B⟩:=y rfl;obtain⟨T,g,D,C⟩:=Mk f m p B A rfl;obtain rfl:F=0:=(Prod.mk.inj T).2;have A1:((0:Int) !=0)=K:=rfl;have Ax:=Ab (Lx R cp x g q B C);have Df:jV (∀a u L N b,Ta q a (U R (Z x) cp) [] u b->CP g L->Hu g L N u->(∀c∈g,L c.E.a<N)->
    rE rF 42 #[jj (V ⟨a,1,Y⟩)] b λe i=>∃t,e=j1 (O t)/\RP s t 0/\Ac [] q i):=by
   intro a u L N b G h1 v h3;obtain⟨Bx,BA,W,CC,B9,xs,o,l,d,_⟩:=G.o;have hc:=o.D 1;have CL:=(C.zV v).2.2;(have B2:Z W=Z u:=by have:=rk List.length d.same;simpa using this);refine(Pv a 1 Bx BA W b (by simpa using hc) l lc (Rv f D v.zS d.same)).G ?_;rintro _ i ⟨rfl,hk⟩;exact⟨_,rfl,⟨λh=>rl rfl h,λ_=>⟨g,L,N,u,D,h1,v,h3,by rw[d.same]⟩⟩,G.C.H hk⟩
  clear f m p B T D C y;go_wp2_with fail
  refine Ax.G ?_;rintro _ b ⟨a,u,L,N,rfl,o,l,d,S⟩;have P:=Ab (Df a u L N b o l d S);clear Ax Df o l d S;go_wp2_with fail
  refine P.G ?_;rintro _ w3 ⟨t,rfl,hF,M⟩;have z:=Ab hF;have BT:=Ab (Q.H M);clear P hF M;go_wp2_with fail
  go_ret3;exact⟨t,(0,0),rfl,A,z,BT⟩
 .have A1:(j !=0)=T6:=by simp[k]
  have z:jV (RP s ky j):=⟨λ_=>rfl,λh=>rl h k⟩;clear k y;go_wp2_with fail
  go_ret3;exact⟨ky,(j,F),rfl,A,z,Q⟩
def Mt(x:bN):AK:=⟨0,x⟩
def VV(f:Ae):Dp:=⟨f.a,f.qH.map Mt,0⟩
def GV(f:Ae)(c:AW):Prop:=c.E=VV f/\c.bl=[]/\c.e=0
structure EG(cs:kN AW)(f:Ae):Prop where
 qK:AG f
 a:A7 f.a
 ne:f.qH≠[]
 two:Z f.qH<=2
 ar:BQ cs f.a=(Z f.qH:Int)
 dN:∀x∈f.qH,x∈Bh cs
def dg{a}(h:B8 a):Z (EA a)<=6:=by
 cases a with
 |nil=>exact mr _
 |cons c l=>
  have b:=(E3 (h.j (Z l) ln)).2.2.2.1;rw[lY ln]at b;exact b
def cT{a}(h:s∈consts a):s∈Bh a:=by
 rw[(E2 a).mem,(C8 _).2];obtain⟨c,f,g⟩:=mH.1 h;obtain⟨t,e,rfl⟩:=me.1 g;obtain⟨d,b⟩:=my.1 e;refine mH.2 ⟨c,f,me.2 ⟨t,my.2 ⟨?_,b⟩,rfl⟩⟩;exact nP _ d
def Q5{b}(h:BQ b s≠-1):s∈EA b:=by
 unfold BQ at h;cases hf:b.findSome? (Gd · s)with
 |none=>exact qr
 |some n=>
  obtain⟨c,i,e⟩:=List.exists_of_findSome?_eq_some hf;rw[NJ,(C8 _).2];refine mH.2 ⟨c,i,?_⟩;unfold Gd at e;unfold Hi;by_cases f:(c.E.a.toList==s.toList)=T6
  .rw[Gx f];exact ln
  .rw[mm f]at e;obtain⟨p,g,d⟩:=List.exists_of_findSome?_eq_some e;by_cases a:(L5 p&&(p.1.A.a.toList==s.toList))=T6
   .rw[mC]at a;exact mP _ (me.2 ⟨p,my.2 ⟨g,a.1⟩,Gx a.2⟩)
   .rw[mm a]at d;cases d
def Ti(cs:kN AW):kN Ae:=(EA cs).flatMap λn=>(Em (Bh cs) 0++Em (Bh cs) 1++Em (Bh cs) 2).map (Ae.mk n)
def Xz(h:B8 c):Z (Ti c)<=258:=by
 have b:=KE h;have f:=dg h;have d:Z (Em (Bh c) 0++Em (Bh c) 1++Em (Bh c) 2)<=43:=by
  simp only[mp,Ko];have e:=Nat.pow_le_pow_left b 2;exact li
 unfold Ti;have a:∀l:kN bN,Z (l.flatMap λn=>(Em (Bh c) 0++Em (Bh c) 1++Em (Bh c) 2).map (Ae.mk n))<=Z l*43:=by
  intro l
  induction l with
  |nil=>simp
  |cons x l ih=>
   rw[mB,mp,mh,mn,oD];omega
 have:=a (EA c);omega
def XK{f}(g:f.a∈EA c)(b:Z f.qH<=2)(e:∀x∈f.qH,x∈Bh c):f∈Ti c:=by
 refine mH.2 ⟨f.a,g,me.2 ⟨f.qH,?_,rfl⟩⟩;have a:=Md _ f.qH e;obtain⟨n,d⟩:=kQ (Z f.qH);rw[d]at a b
 match n,b,a with
 |0,_,a=>exact nP _ (nP _ a)
 |1,_,a=>exact nP _ (rz _ a)
 |2,_,a=>exact rz _ a
def EG.pool{f}(h:EG c f):f∈Ti c:=XK (Q5 (by rw[h.ar];omega)) h.two h.dN
def Yh(h:B8 c){u:kN Ae}(b:u.Nodup)(a:∀f∈u,EG c f):Z u<=258:=by
 have:=G0 u _ b λf d=>(a f d).pool
 have:=Xz h;omega
def Uw{f}{c}(h:GV f c):Am c=[]:=by unfold Am;rw[h.2.1];rfl
def Pj{a b:kN AW}(h:∀c∈b,c.bl=[]):∀d x,BW (a++b) d x=BW a d x
 |0,x=>rfl
 |d+1,x=>by
  have ih:BW _ d=BW a d:=funext (Pj h d);show qU (I9 (BW (a++b) d) x) 0 (a++b)=qU (I9 (BW a d) x) 0 a;rw[ih,m6];generalize qU (I9 (BW a d) x) 0 a=n
  induction b generalizing n with
  |nil=>rfl
  |cons c b ih2=>
   have e:I9 (BW a d) x n c=n:=by
    unfold I9;rw[h c ln];unfold Jn;simp
   rw[mK,e];exact ih2 (λc e=>h c (by simp[e])) (funext λy=>by
    exact Pj (λc e=>h c (by simp[e])) d y) n
def WZ{f e:kN AW}(h:∀c∈e,c.bl=[]){L}(i:CP f L):CP (f++e) L:=by
 have g:∀c∈e,Am c=[]:=λc a=>by unfold Am;rw[h c a];rfl
 refine⟨λc a x b d=>?_,λc a x b d=>?_⟩<;>rcases mi.1 a with a|a
 .exact i.pos c a x b d
 .rw[g c a]at b;cases b
 .exact i.neg c a x b d
 .rw[g c a]at b;cases b
def NO{i m}{u}(B:B8 i)(o:Cb i)(F:F2 GV u m)(r:∀f∈u,EG i f)(hl:Z u<=900):Cb (i++m):=by
 have z:∀c∈m,c.bl=[]:=λc a=>by obtain⟨f,_,h⟩:=F.mem c a;exact h.2.1
 have C:∀c∈m,Am c=[]:=λc a=>by unfold Am;rw[z c a];rfl
 have q:∀c∈m,∃f∈u,c.E=VV f:=λc a=>by obtain⟨f,k,h⟩:=F.mem c a;exact⟨f,k,h.1⟩
 have w:∀c∈i++m,BQ i c.E.a=Z c.E.qH:=by
  intro c a;rcases mi.1 a with a|a
  .exact B.zZ c a
  .obtain⟨f,k,e⟩:=q c a;rw[e];show BQ i f.a=(Z (f.qH.map Mt):Int);rw[mh];exact(r f k).ar
 have G:=B.small;have S:BW _ 6=BW i 6:=funext (Pj z 6);have Q:∀x:bN,BQ i x≠-1->BQ (i++m) x=BQ i x:=by
  intro x b;unfold BQ at b|-;rw[pM];cases hq:i.findSome? (Gd · x)with
  |none=>exact qr
  |some n=>rfl
 have N:Z (Bh (i++m))<=6:=by
  have L:=KE B;rw[(E2 _).len]at L|-;refine mZ (MQ _ _ (C8 _).1 (λy l=>?_)) L;rw[(C8 _).2]at l|-;obtain⟨c,a,l⟩:=mH.1 l;rcases mi.1 a with a|a
  .exact mH.2 ⟨c,a,l⟩
  .obtain⟨f,k,e⟩:=q c a;unfold Jk ER at l;rw[z c a,e]at l;obtain⟨t,j,rfl⟩:=me.1 l;have j:=(my.1 j).1;rw[np,mQ]at j;obtain⟨x,b,rfl⟩:=me.1 j;have:=(r f k).dN x b;rw[(E2 _).mem,(C8 _).2]at this;exact this
 refine⟨⟨⟨?_,λc a=>?_⟩,λs R I=>?_,λc a d v e=>?_,λc a d v x b A e=>?_,λc a=>qr,N⟩,⟨⟨λc a x b A=>?_,λc a x b A=>?_,λc a t j=>?_⟩,?_,λc a t j M=>?_⟩,λc a x b=>?_,λc a=>?_⟩
 .rw[mp,<-F.lenX];omega
 .rcases mi.1 a with a|a
  .exact G.2 c a
  .obtain⟨f,k,e⟩:=q c a;rw[z c a,e];refine⟨ln,?_,λp o=>by cases o⟩;show Z (f.qH.map Mt)<=2;rw[mh];exact(r f k).two
 .have D:=G0 s _ R λf k=>by
   obtain⟨c,a,T,P⟩:=(I f k).zV;have W:f.a∈EA i:=Q5 (by rw[T,w c a];omega);refine XK W ?_ λx b=>?_
   .rw[P];rcases mi.1 a with a|a
    .exact(G.2 c a).2.1
    .obtain⟨g,E,e⟩:=q c a;rw[e];show Z (g.qH.map Mt)<=2;rw[mh];exact(r g E).two
   .have b:=(I f k).qH x b;obtain⟨c,a,H⟩:=mH.1 b;rcases mi.1 a with a|a
    .refine cT ?_;exact mH.2 ⟨c,a,H⟩
    .obtain⟨g,E,e⟩:=q c a;rw[e]at H;obtain⟨t,j,rfl⟩:=me.1 H;obtain⟨y,l,rfl⟩:=me.1 (my.1 j).1;exact(r g E).dN y l
  have:=Xz B;omega
 .have D:=w c a;rw[e,w d v]at D;omega
 .rcases mi.1 v with v|v
  .have D:=w c a;rw[e,B.yJ d v x b A]at D;omega
  .rw[C d v]at b;cases b
 .rcases mi.1 a with a|a
  .exact o.prog.zD.qH c a x b A
  .rw[C c a]at b;cases b
 .rcases mi.1 a with a|a
  .exact o.prog.zD.safe c a x b A
  .rw[C c a]at b;cases b
 .rcases mi.1 a with a|a
  .exact o.prog.zD.E c a t j
  .obtain⟨f,k,e⟩:=q c a;rw[e]at j;obtain⟨y,l,rfl⟩:=me.1 j;exact j2 rfl
 .rw[S];exact WZ z o.prog.lay
 .rcases mi.1 a with a|a
  .exact o.prog.zI c a t j M
  .obtain⟨f,k,e⟩:=q c a;rw[e]at j;obtain⟨y,l,rfl⟩:=me.1 j;exact(r f k).qK y l
 .rcases mi.1 a with a|a
  .exact o.g c a x b
  .rw[C c a]at b;cases b
 .rcases mi.1 a with a|a
  .exact o.zI c a
  .obtain⟨f,k,e⟩:=q c a;rw[e];refine⟨(r f k).a,λt j=>?_⟩;obtain⟨y,l,rfl⟩:=me.1 j;exact j2 ⟨rfl,(r f k).qK y l⟩
def gn{b d:kN AW}{u}(i:∀c∈b,c.E.qH≠[])(e:F2 GV u d)(j:∀f∈u,EG b f):∀c∈b++d,c.E.qH≠[]:=by
 intro c a;rcases mi.1 a with a|a
 .exact i c a
 .obtain⟨f,g,h⟩:=e.mem c a;rw[h.1];intro k;exact(j f g).ne (List.map_eq_nil_iff.1 k)
def T8{k j l i}{u}(h:Qo k j)(n:F2 GV u l)(p:F2 GV u i):Qo (k++l) (j++i):=by
 intro c a;rcases mi.1 a with a|a
 .obtain⟨d,b,e⟩:=h c a;exact⟨d,nP _ b,e⟩
 .obtain⟨f,o,g⟩:=n.mem c a;obtain⟨d,b,m⟩:=p.yG f o;exact⟨d,rz _ b,by rw[g.1,m.1],by rw[Uw g,Uw m]⟩
theorem dq(h f)(l:kN bN)(x:bN)(m w)(i:kt w m 170 1 (U h (Z l) f) (Z l) (qS Ai l))(s:Z l<=1000000)(j:C3 Hn l):rE rF 102 #[U h (Z l) f,O x] w λe k=>e=j1 (kx (Jo l x))/\k=w:=by
 have o:=Ab (O1 (U h (Z l) f) l 0 x m w i s (mr _) j);have t:=Ab j;have u:=Ab i;clear i j;go_enter func102,ntmps102;go_wp2_with fail
 refine o.G ?_;rintro e k ⟨b,rfl,c,rfl⟩;have q:=Ab (c.inS t);have y:=c.le;clear o c;by_cases a:b<Z l
 .obtain⟨g,v,p,z,n⟩:=Az u (by simp[Ai]) b a;obtain⟨rfl,_,rfl⟩:=qX p;have r:=n b a 0 lc;simp[Ai]at r;clear n;have d:jV (Jo l x=jI l[b] x):=by show _=_;rw[<-Aa q];unfold EE;rw[dif_pos a]
  go_wp2;go_ret;rw[d.o];exact⟨rfl,rfl⟩
 .have d:jV (Jo l x=K):=by show _=_;rw[<-Aa q];unfold EE;rw[dif_neg a]
  go_wp2;go_ret;rw[d.o];exact⟨rfl,rfl⟩
def fQ:C3 Hn ([]:kN bN):=by
 first|exact ln|simp at a|(intro;simp_all)
def OW(pcs:kN CQ)(w:jH)(e:Ending)(w':jH):Prop:=∃(l:kN bN) (ad:rB) (cp:Nat),e=j1 (U ad (Z l) cp)/\kt w' 0 170 1 (U ad (Z l) cp) (Z l) (qS Ai l)/\Z l<=900000/\C3 Hn l/\(∀y,y∈l↔y∈qS C1 pcs)/\Ac [] w w'
theorem Vm(AR AO)(a:kN CQ)(w)(h:CA w (U AR (Z a) AO) a)(FC:Z a<=12)(T:∀c∈a,KY c/\Z (Bl c)<=70000):rE rF 101 #[U AR (Z a) AO] w (OW a w):=by
 have HP:=Ab h;have BT:=Ab T;obtain⟨N,hN⟩:=kQ w.heap.size;have W:=Ab hN;clear h T hN;go_enter func101,ntmps101;go_wp2_with fail
 go_loopg [3,8] (Z a) (λgk lv i wr=>∃(k:Nat) (l:kN bN) (f:rB) (j:Nat),lv=U f (Z l) j/\i=X J k/\k<=Z a/\gk=Z a-k/\jV (kt wr N 170 1 (U f (Z l) j) (Z l) (qS Ai l))/\jV (Z l<=k*70000)/\jV (C3 Hn l)/\jV (∀y,y∈l↔y∈qS C1 (qT k a))/\jV (Ac [] w wr))
 case atStart=>exact⟨0,[],Y,0,rfl,rfl,lc,rfl,mw _ _ _ _,by show _<=_;simp,fQ,λy=>ln,kR _ _⟩
 case round=>
  obtain⟨k,l,f,j,rfl,rfl,hk,R,B,E,I,H,q⟩:=hrel;have HG:=Ab R;clear R;have EX:Z l<=840000:=by have:=Aa E;omega
  by_cases C:k<Z a
  ·have FL:(k:Int)<Z a:=lc;have FA:=rJ k;obtain⟨g,FB,o,r,b,p,n,m,u,d,he,P,e0,e1,e2,e3⟩:=Fs (HP.C q) k C;have M:=(HP.C q).j _ (lV C);have L:=Aa BT _ (lV C);rw[P]at M L;obtain⟨rfl,-,rfl⟩:=qX he;have S:jV (rE rF 148 #[U f (Z l) j,ku #[X J o,O r,U p (Z b) n,U m (Z d) u]] (wr.alloc (Y6 #[X J o,O r,U p (Z b) n,U m (Z d) u] 189)) _):=Mw ⟨o,r,b,_,_,d⟩ f j l N _ (M.C ((kR [] wr).alloc _)) L.1 lc (Ad (Aa B) ((kR [] wr).alloc _)) lc I (by have:=q.size;have:=Aa W;simp;omega);have Q:jV (∀y,y∈qS C1 (qT (k+1) a)↔y∈qS C1 (qT k a)\/∃t∈Bl ⟨o,r,b,U p (Z b) n,U m (Z d) u,d⟩,t.v=0/\t.s=y):=by
    intro y;rw[lW C,mD,mi,P];simp only[mB,np,mQ];refine or_congr Iff.rfl ?_;constructor
    .intro h;obtain⟨t,ht,rfl⟩:=me.1 h;obtain⟨A,D⟩:=my.1 ht;exact⟨t,A,by simpa using D,rfl⟩
    .rintro ⟨t,A,D,rfl⟩;exact me.2 ⟨t,my.2 ⟨A,li⟩,rfl⟩
   have AT:=Ab L.2;have Ax:=Ab (q.alloc (Y6 #[X J o,O r,U p (Z b) n,U m (Z d) u] 189));clear M L P;(go_wp2_with fail);refine S.G ?_;rintro _ w3 ⟨z,F,G,rfl,x⟩;have B9:=Ab x.own;have B2:=Ab x.zB;(have A2:jV (Z z<=(k+1)*70000):=by have A:=x.le;exact qu);have CL:jV (∀y,y∈z↔y∈qS C1 (qT (k+1) a)):=by
    intro y;rw[x.mem y,Q y,H y];exact Or.comm
   have ES:=Ab (Ax.trans' x.C (λi hi=>by
    simp at hi
    have A:=(rx (Aa B) i hi).1
    have:=Aa W
    exact lc))
   clear S x B E I H q Q AT Ax e0 e1 e2 e3;go_wp2_with fail
   go_roundg (Z a-(k+1))
   case measure=>exact qu
   case rel=>exact⟨k+1,z,F,G,rfl,ly,lc,rfl,B9,A2,B2,CL,ES⟩
  ·obtain rfl:k=Z a:=lc;have CW:jV (OW a w _ wr):=⟨l,f,j,rfl,Ak (Aa B) (mr _),lc,I,λy=>by have h:=Aa H y;rw[nw]at h;exact h,q⟩;(go_wp2_with fail);go_ret;exact CW
def tl(t:AK):Nat:=if t.v=0 then t.s.size else 1
def jJ:kN AK->Nat
 |[]=>0
 |t::l=>tl t+jJ l
def TA(h:(A9 s i K).2.2=K):i+(A9 s i K).1.size<=(A9 s i K).2.1/\(A9 s i K).2.1<=s.size:=by
 have b:=Ck s i;by_cases a:AL AC s (Af s i)=Af s i\/4<AL AC s (Af s i)-Af s i
 .rw[Ev rfl rfl a]at h;cases h
 .rw[LI rfl rfl a];have c:=PG (p:=AC) (s:=s) (i:=Af s i) (λe=>a (j2 e));have d:=Cz AC s (Af s i);exact li
def TJ(h:(AN s i K).2.2=K):i+tl (AN s i K).1<=(AN s i K).2.1:=by
 have g:=Ck s i;unfold AN at h|-;rw[mm ln]at h|-;by_cases c:Af s i<s.size
 .rw[dif_pos c]at h|-;by_cases a:DF s[Af s i]=T6
  .rw[mo a]at h|-;unfold tl;have f:s[Af s i]≠0:=by
    intro e;rw[e]at a;exact rl a lu
   simp only[mm f];omega
  .rw[mm a]at h|-;by_cases d:(!Aq s[Af s i])=T6
   .rw[mo d]at h|-;have:=(TA h).1;unfold tl;exact li
   .rw[mm d]at h|-;by_cases b:3<AL Aq s (Af s i)-Af s i\/(s[Af s i]=48/\1<AL Aq s (Af s i)-Af s i)
    .rw[mo b]at h;cases h
    .rw[mm b]at h|-;have j:=Cz Aq s (Af s i);unfold tl;exact li
 .exact qr
def Yn{s}{i}(h:(CO s i).2.2=K):0<Z (CO s i).1/\i+jJ (CO s i).1+Z (CO s i).1<=(CO s i).2.1+1:=by
 fun_induction CO s i with
 |case1 i hc _ _ ih=>
  have d:=ih h;have a:(AN s i K).2.2=K:=qr
  have b:=TJ a;have c:(AN s i K).2.1+1<=Cn s (AN s i K).2.1 (AN s i K).2.2 44:=by
   unfold Cn;rw[mo hc.1];have:=Ck s (AN s i K).2.1;rw[a];unfold AS;simp;omega
  simp only[mn,jJ];omega
 |case2 i hc=>
  have b:=TJ h;have c:=EV s (AN s i K).2.1 (AN s i K).2.2 44;simp only[mn,mI,jJ];omega
def Sc(h:(BM s i B g).2=K):B=K/\i+1<=(BM s i B g).1:=by
 unfold BM at h|-;simp only[Bool.not_eq_false']at h;have a:(!B&&Ey s (AS s i B) g)=T6:=lc
 have b:B=K:=qr
 refine⟨b,?_⟩;unfold Cn;rw[mo a];subst b;have:=Ck s i;unfold AS;simp;omega
def YM(h:(A5 s i K).2.2=K):0<Z (A5 s i K).1.qH/\i+(A5 s i K).1.a.size+jJ (A5 s i K).1.qH+Z (A5 s i K).1.qH+1<=(A5 s i K).2.1:=by
 unfold A5 at h|-;simp at h|-;obtain⟨a,b⟩:=Sc h;unfold Ez at a b|-;have k:=Ck s i;cases hm:(BM s (A9 s (AS s i K) K).2.1 (A9 s (AS s i K) K).2.2 40).2 with
 |true=>rw[hm]at a;simp at a
 |false=>
  rw[hm]at a b;simp at a b|-;obtain⟨j,e⟩:=Sc hm;have g:=(TA j).1;obtain⟨c,f⟩:=Yn a;have d:AS s i K=Af s i:=rfl;omega
def J0(h:(An s i).2.2=K):0<Z (An s i).1.E.qH/\Af s i+(An s i).1.E.a.size+jJ (An s i).1.E.qH+Z (An s i).1.E.qH+2<=(An s i).2.1/\
  ((An s i).1.body≠[]->Af s i+(An s i).1.E.a.size+jJ (An s i).1.E.qH+Z (An s i).1.E.qH+3<=(An s i).2.1):=by
 unfold An at h|-;simp only at h|-;obtain⟨a,b⟩:=Sc h;have f:=(Kl a).1;obtain⟨d,k⟩:=YM f;unfold Eg at a b|-;by_cases e:(!(A5 s (Af s i) K).2.2&&Ey s (AS s (A5 s (Af s i) K).2.1 (A5 s (Af s i) K).2.2) 58)=T6
 .rw[mo e]at a b|-;by_cases c:Ey s (Cn s (A5 s (Af s i) K).2.1 (A5 s (Af s i) K).2.2 58) 45=T6
  .rw[mo c]at a b|-;have g:=EV s (A5 s (Af s i) K).2.1 (A5 s (Af s i) K).2.2 58;have j:=Xt s (Cn s (A5 s (Af s i) K).2.1 (A5 s (Af s i) K).2.2 58+1);exact lc
  .rw[mm c]at a;cases a
 .rw[mm e]at a b|-;have g:=EV s (A5 s (Af s i) K).2.1 (A5 s (Af s i) K).2.2 58;exact qy
def PF:∀a s b,(D0 s b a).size=s.size+Z a+(a.map λx=>(B3 x).size).sum
 |[],s,b=>by simp[D0]
 |x::a,s,b=>by
  rw[D0,PF a,mj,mj];have:(if b=T6 then(⟨#[44]⟩:bN)else⟨#[40]⟩).size=1:=by cases b<;>rfl
  simp;omega
def dp(n a):(Fx ⟨n,a⟩).size=n.size+Z a+(a.map λx=>(B3 x).size).sum+2:=by
 unfold Fx;rw[mj,PF];rfl
def fA{t}(h:Dt t):(B3 (ct t).s).size+(if t.v=0 then 0 else 1)=tl t:=by
 unfold tl;rcases h with⟨a,c⟩|⟨b,_,d⟩
 .rw[mo a,mo a];show(B3 (D9 t.s)).size+0=_;rw[JR c,GC c];rfl
 .have a:t.v≠0:=by intro e;rw[e]at b;exact rl b lu
  rw[mm a,mm a];show(B3 (D9 t.s)).size+1=1;rw[d];have e:D9 ky=ky:=lx
  rw[e];have a:=Ls (k:=ByteArray.empty.size) (s:=ky) lu;unfold B3;split
  .rw[a];rfl
  .rfl
def Uc:∀a,(∀t∈a,Dt t)->((a.map ct).map λt=>(B3 t.s).size).sum<=jJ a/\(jJ a<=((a.map ct).map λt=>(B3 t.s).size).sum->∀t∈a,t.v=0)
 |[],_=>⟨by simp[jJ],λ_ t f=>by simp at f⟩
 |t::a,h=>by
  have d:=fA (h t ln);obtain⟨g,e⟩:=Uc a (λx b=>h x sq);simp only[mA,List.sum_cons,jJ];refine⟨lc,λi=>?_⟩;by_cases c:t.v=0
  .exact qr
  .rw[mm c]at d;omega
def jE(s:bN):Option CE:=match Dq (DB s) 0 [] with
 | .ok [c]=>if((Fx ⟨c.hn,c.zA.map AY.s⟩).toList==s.toList)=T6 then V ⟨c.hn,c.zA.map AY.s⟩else Y
 |_=>Y
def dR(s:bN):Option CE:=if 300<s.size then Y else(jE s).bind λp=>if 2<Z p.dN then Y else V p
def UJ{a:kN AK}(h:∀t∈a,Dt t)(d:∀t∈a,t.v=0):(a.map ct).map AY.s=(a.map (AI Bm)).map AE:=by
 rw[nh,nh];refine nj (λt b=>?_);simp;unfold AI;rw[mo (d t b)];rcases h t b with⟨_,e⟩|⟨c,_⟩
 .exact JR e
 .exact qr
def Uh(h:(An s i).2.2=K)(d:∀t∈(An s i).1.E.qH,t.v=0):AG (Av Bm (An s i).1.E)/\(Av Bm (An s i).1.E).qH≠[]:=by
 have f:=(DH h).E;refine⟨λx j=>?_,?_⟩
 .obtain⟨t,a,rfl⟩:=me.1 j;unfold AI;rw[mo (d t a)];rcases f.qH t a with⟨_,g⟩|⟨c,_⟩
  .exact g
  .exact qr
 .intro e;have:=(J0 h).1;have b:=rk List.length e;unfold Av at b;simp only[mh,mI]at b;omega
def aZ(h:(An s i).2.2=K)(a:∀t∈(An s i).1.E.qH,t.v=0):Fx ⟨(An s i).1.E.a,((An s i).1.E.qH.map ct).map AY.s⟩=B7 (Av Bm (An s i).1.E):=by
 obtain⟨b,c⟩:=Uh h a;rw[<-Ps b c,UJ (DH h).E.qH a];rfl
def GG(h:Gw s=T6):dR s=V (Bn (Co s))/\AG (Co s)/\(Co s).qH≠[]:=by
 unfold Gw at h;rw[mC]at h;obtain⟨k,j⟩:=h;have hF:Co s=Av Bm (An s 0).1.E:=by unfold Co;rw[mo k]
 have A:=Gx j;unfold KP at k;simp only[mC,n6,nX]at k;obtain⟨z,d,S,c4,D⟩:=k;obtain⟨T,W,R⟩:=J0 d;have o:=(DH d).E;have Ax:=Kb s 0 (mr _);have Q:s.size=(An s 0).1.E.a.size+Z (An s 0).1.E.qH+((An s 0).1.E.qH.map λt=>(AI Bm t).size).sum+2:=by
  have g:=rk ByteArray.size A;rw[hF]at g;rw[<-g];unfold B7;rw[mj];have:∀(e:kN bN) (b:rD) (u:bN),(Gg u b e).size=u.size+(e.map ByteArray.size).sum+(if b then Z e else Z e-1):=by
   intro e
   induction e with
   |nil=>intro b u;cases b<;>simp[Gg]
   |cons x e ih=>
    intro b u;rw[Gg,ih,mj];have I:(⟨#[44]⟩:bN).size=1:=rfl;cases b
    .simp;omega
    exact li
  rw[this,mj];have y:(⟨#[40]⟩:bN).size=1:=rfl;have G:(⟨#[41,46]⟩:bN).size=2:=rfl;unfold Av;simp only[nh,mh,y,G,Function.comp_def];simp;omega
 have w:∀c:kN AK,(∀t∈c,Dt t)->(c.map λt=>(AI Bm t).size).sum<=jJ c/\(jJ c<=(c.map λt=>(AI Bm t).size).sum->∀t∈c,t.v=0):=by
  intro c
  induction c with
  |nil=>exact ln
  |cons t c ih=>
   intro H;obtain⟨M,E⟩:=ih (λx i=>H x (by simp[i]));have g:(AI Bm t).size+(if t.v=0 then 0 else 1)=tl t:=by
    unfold tl AI;by_cases a:t.v=0
    .rw[mo a,mo a,mo a];rfl
    .rw[mm a,mm a,mm a];have:(Bm.getD (t.v.toNat-65) ky).size=0:=by
      unfold Bm;rw[mq,ry];split<;>rfl
     omega
   simp only[mA,List.sum_cons,jJ];refine⟨lc,λN=>?_⟩;by_cases a:t.v=0
   .exact qr
   .rw[mm a]at g;omega
 obtain⟨P,C⟩:=w _ o.qH;have l:=C lc;have F:Af s 0=0:=lc
 have q:(An s 0).2.1=s.size:=lc
 obtain⟨n,m⟩:=Uh d l;rw[<-hF]at n m;refine⟨?_,n,m⟩;have L:Ao s (Af s 0)=([(An s 0).1],(Ao s s.size).2):=by
  rw[F,Ao,dif_pos lc,dif_pos ⟨d,by rw[d,q,R6 _ _ lc];omega⟩];rw[d,q,R6 _ _ lc];have:(Ao s s.size).1=[]:=by rw[Ao,dif_neg lc]
  rw[this]
 have f:=KO s;rw[L]at f;have r:(Ao s s.size).2=(s.size,K):=by rw[Ao,dif_neg lc]
 rw[r]at f;unfold dR jE;rw[mm z];cases hp:Dq (DB s) 0 [] with
 |error p=>exact qr
 |ok cs=>
  rw[hp]at f;obtain⟨_,rfl,_⟩:=f;have B:=aZ d l;show Option.bind (if((Fx ⟨(An s 0).1.E.a,((An s 0).1.E.qH.map ct).map AY.s⟩).toList==s.toList)=T6 then V (⟨(An s 0).1.E.a,((An s 0).1.E.qH.map ct).map AY.s⟩:CE)else Y) _=_;rw[B,<-hF,mo j];simp only[Option.bind_some];rw[mm li,UJ o.qH l,hF];rfl
def cw{p}(h:dR s=V p):Gw s=T6:=by
 unfold dR at h;by_cases n:300<s.size
 .rw[mo n]at h;cases h
 .rw[mm n]at h;have r:=KO s;unfold jE at h;cases hp:Dq (DB s) 0 [] with
  |error q=>rw[hp]at h;simp at h
  |ok cs=>
   rw[hp]at h r;obtain⟨k,a,_⟩:=r;cases hcs:(Ao s (Af s 0)).1 with
   |nil=>exact qr
   |cons c rest=>
    cases rest with
    |cons d rest=>exact qr
    |nil=>
     rw[hcs]at a;subst a;simp only[mA,om]at h;by_cases g:((Fx ⟨(im c).hn,(im c).zA.map AY.s⟩).toList==s.toList)=T6
     .rw[mo g]at h;simp only[Option.bind_some]at h;by_cases i:2<Z ((im c).zA.map AY.s)
      .rw[mo i]at h;cases h
      .have B:=Gx g;have y:Af s 0<s.size:=by
        by_cases o:Af s 0<s.size
        .exact o
        .rw[Ao,dif_neg o]at hcs;cases hcs
       have L:c=(An s (Af s 0)).1/\(An s (Af s 0)).2.2=K:=by
        rw[Ao,dif_pos y]at hcs k;by_cases m:(An s (Af s 0)).2.2=K/\Af s 0<AS s (An s (Af s 0)).2.1 (An s (Af s 0)).2.2
        .rw[dif_pos m]at hcs;exact qr
        .rw[dif_neg m]at hcs k;exact qr
       obtain⟨f,b⟩:=L;obtain⟨H,u,j⟩:=J0 b;have v:=(DH b).E;have I:=Kb s (Af s 0) lc;rw[<-f]at H u j v;have N:s.size=c.E.a.size+Z c.E.qH+((c.E.qH.map ct).map λt=>(B3 t.s).size).sum+2:=by
        rw[<-B];show(Fx ⟨c.E.a,(c.E.qH.map ct).map AY.s⟩).size=_;rw[dp];simp[nh,Function.comp_def]
       obtain⟨M,C⟩:=Uc _ v.qH;have D:Af s 0<=Af s _:=Ck _ _;have A:=C lc;have F:Af s 0=0:=lc;rw[F]at f b u j I D;have G:(An s 0).2.1=s.size:=lc;have z:c.body=[]:=by
        cases hbb:c.body with
        |nil=>rfl
        |cons x l=>have:=j (by rw[hbb];simp);omega
       have w:KP s=T6:=by
        unfold KP;rw[b,G,nC n,<-f,z];have E:¬2<Z c.E.qH:=by
         (have e:Z ((im c).zA.map AY.s)=Z c.E.qH:=by show Z ((c.E.qH.map ct).map AY.s)=_;simp);exact lc
        simp[E]
       unfold Gw;rw[w,nQ];unfold Co;rw[mo w,<-aZ b (by rw[<-f];exact A),<-f];exact g
     .rw[mm g]at h;simp at h
def ig(s):dR s=if Gw s=T6 then V (Bn (Co s))else Y:=by
 cases h:Gw s with
 |true=>exact(GG h).1
 |false=>
  cases hl:dR s with
  |none=>rfl
  |some p=>rw[cw hl]at h;cases h
def Wt(x):(D9 x).size<=x.size+3:=by
 unfold D9;split
 .omega
 .split
  .split
   .exact ND 3 x
   .rw[mj];have:(⟨#[0]⟩:bN).size=1:=rfl;omega
  .omega
def Ld(o:Option CE)(w:jH)(e:Ending)(w':jH):Prop:=∃(p:D5),e=j1 (.tuple #[ku (Za (AJ p)),kx o.isSome])/\(∀f,o=V f->p.f=f)/\C6 w' p/\Z p.f.dN<=1000/\Ac [] w w'
def Ld.none(w a)(k:Ac [] w a):Ld Y w (j1 (.tuple #[ku #[O ⟨#[]⟩,U Y 0 0],kx K])) a:=
 ⟨⟨⟨⟨#[]⟩,[]⟩,U .none 0 0⟩,rfl,(λf h=>oj),mw _ _ _ _,mr _,k⟩
theorem UY(s:bN)(w)(hs:s.size<=300):rE rF 97 #[O s] w λe w'=>Ld (jE s) w e w':=by
 obtain⟨i0,NS,M6,N0,NM⟩:=mW Tryz.zh;have E:jE s=match Dq (DB s) 0 [] with
  | .ok [c]=>if((Fx ⟨c.hn,c.zA.map AY.s⟩).toList==s.toList)=T6 then V ⟨c.hn,c.zA.map AY.s⟩else Y
  |_=>Y:=rfl
 have EX:jV (∀cs,Dq (DB s) 0 []=.ok cs->∀y:kN CQ,y.map CQ.pc=cs->∀c∈y,c.hn.size<=1000000/\Z c.zA<=1000/\∀t∈c.zA,t.s.size<=1000000):=by
  intro cs Jx y hm c hc;have L:=KM hs Jx hm;have Op:=(L.fit c hc).pc.E.2;have K6:=KO s;rw[Jx]at K6;obtain⟨g1,g2,_⟩:=K6;have IS:c.pc∈cs:=by rw[<-hm];exact mx hc
  rw[g2]at IS;obtain⟨r,hr,KS⟩:=me.1 IS;have hz:=(FJ s _ r hr).1;have e1:r.E.a=c.hn:=rk PC.hn KS;have e2:r.E.qH.map ct=c.zA:=rk PC.zA KS;refine⟨by rw[<-e1];have:=hz.1;omega,Op,λt ht=>?_⟩;rw[<-e2]at ht;obtain⟨u,hu,rfl⟩:=me.1 ht;show(D9 u.s).size<=_;have I:=Wt u.s;have h2:=hz.2 u hu;omega
 obtain⟨N,hN⟩:=kQ w.heap.size;have HN:=Ab hN;have FC:=Ab ((kR [] w).alloc (Y6 #[O ⟨#[]⟩,U Y 0 0] 104));have A1:=Ab (kS w [O ⟨#[]⟩,U Y 0 0] 104);rw[hN]at A1;clear hN;go_enter func97,ntmps97;refine kI (λKK HW=>?_);go_wp2;refine HW _ _ ?_;clear HW KK;rw[Aa HN];change Code.wp _ _ _ _ (w.alloc (Y6 #[O ⟨#[]⟩,U Y 0 0] 104));generalize w.alloc (Y6 #[O ⟨#[]⟩,U Y 0 0] 104)=w1 at FC A1|-;have L0:=Ab (Ks s w1 hs);have LC:jV (∀M,Ac [] w1 M->jE s=Y->Ld (jE s) w _ ((M.setCell _ (O ⟨#[]⟩)).setCell _ (U Y 0 0))):=λM hk h=>by
  rw[h];exact Ld.none _ _ (((FC.H hk).setCell (p:=⟨N,0,Y⟩) (j3 qu) _).setCell (p:=⟨N,1,Y⟩) (j3 qu) _)
 go_wp2_with fail
 refine L0.G ?_;intro e w2 B2;clear L0;cases hp:Dq (DB s) 0 [] with
 |error p=>
  rw[hp]at B2 E;obtain⟨rfl,A⟩:=B2;have G:jV (jE s=Y):=E;have j:=Ab (A1.C A);obtain⟨R,P⟩:=j.c2;have z0:=j.qI 0;have z1:=j.qI 1;simp at R P;have EK:=Ab A;clear hp E EX A;go_wp2;refine mF (As rfl lx ((j.set 0 _).set 1 _) underlying104 rfl lo) rfl ?_;exact LC _ EK G
 |ok cs=>
  rw[hp]at B2 E;obtain⟨ad,cp,y,rfl,AO,EY,A⟩:=B2;have HC:Z cs=Z y:=by rw[<-AO];simp
  rw[HC]at EY|-;obtain⟨CW,K7⟩:=EY.into;have j:=Ab (A1.C A);obtain⟨R,P⟩:=j.c2;have z0:=j.qI 0;have z1:=j.qI 1;simp at R P;have EK:=Ab A;by_cases I:Z y=1
  .obtain⟨c,rfl⟩:∃c,y=[c]:=List.length_eq_one_iff.1 I;obtain⟨g,RO,SJ,b,a,LS,FF,P0,Pl,OH,he,H2,d0,d1,d2,d3⟩:=Fs CW 0 ln;simp only[pu]at H2;obtain⟨rfl,-,rfl⟩:=qX he;have L:=Aa EX cs hp [c] AO c ln;have HO:=(CW.j c ln).E;have FO:jE s=if((Fx ⟨c.hn,c.zA.map AY.s⟩).toList==s.toList)=T6 then V ⟨c.hn,c.zA.map AY.s⟩else Y:=by
    rw[E,<-AO];rfl
   subst H2;simp only at L HO FO;simp;have H3:=Ab FO;have Go:=Ab HO;have H9:=Ab L;have RI:=L.2.1;clear hp E EX AO EY CW K7 HC L HO FO A I d0 d3;simp at d1 d2;have T:w.heap.size<=N:=sx;have N2:=j.lt;have HQ:jV (AF _ N [O b,U Y 0 0] 104):=j.set 0 (O b);have HM:jV (Ac [] w (w2.setCell _ (O b))):=(FC.H EK).setCell (p:=⟨N,0,Y⟩) (j3 T) _;have Ha:jV (kt (w2.setCell ⟨N,0,Y⟩ (O b)) 0 215 2 _ (Z a) _):=Ah (Aa Go) (Ap (Aa Go) (Aa j) lu) _;(go_wp2_with fail);generalize w2.setCell ⟨N,0,Y⟩ (O b)=w3 at HQ HM Ha|-;clear d1 d2 R P z0 z1 j Go A1 N2
   go_loopg [34] (Z a) (λgk i wr=>∃(k:Nat) (m:rB) (o:Nat),i=X J k/\k<=Z a/\gk=Z a-k/\jV (AF wr N [O b,U m k o] 104)/\jV (kt wr (N+1) 170 1 (U m k o) k (qS Ai ((qT k a).map AY.s)))/\jV (kt wr 0 215 2 (U LS (Z a) FF) (Z a) (qS Ar a))/\jV (Ac [] w wr))
   case atStart=>exact⟨0,Y,0,rfl,lc,rfl,HQ,mw _ _ _ _,Ha,HM⟩
   case round=>
    clear HQ Ha HM;obtain⟨k,m,o,rfl,hk,LD,S,HX,HH,HK⟩:=hrel;have HG:=Ab LD;clear LD;by_cases B9:k<Z a
    .obtain⟨gt,RT,IJ,_,FP⟩:=Az HH (λc _=>rfl) k B9;obtain⟨rfl,-,rfl⟩:=qX IJ;have a0:=FP k B9 0 lc;have a1:=FP k B9 1 lc;obtain⟨⟨tv,v⟩,HR⟩:∃t,a[k]=t:=⟨_,rfl⟩;rw[HR]at a0 a1;simp[Ar]at a0 a1;have H6:jV (qS Ai ((qT (k+1) a).map AY.s)=qS Ai ((qT k a).map AY.s)++[O v]):=by
      rw[lW B9,mO,mD,HR];rfl
     obtain⟨QR,Os⟩:=rI lc;have Q:=Ab ((kR [] wr).alloc (Y6 #[X .i32 tv,O v] 215));have Bx:=Ab (kS wr [X .i32 tv,O v] 215);have H:=Ab (S.C Q);have HD:=Ab (Ad HX Q);have ES:=Ab (Ad HH Q);have FT:=Ab (HK.H Q);clear HR FP;refine kI (λK1 z=>?_);go_wp2;refine z _ _ ?_;clear z K1;refine kI (λK1 z=>?_);go_wp2;refine z _ _ ?_;clear z K1;refine kI (λK5 K8=>?_);refine wp_block ?_;refine kI (λK1 z=>?_);go_wp2;refine z _ _ ?_;clear z K1 a0 a1;change Code.wp _ _ _ _ (wr.alloc (Y6 #[X .i32 tv,O v] 215));generalize wr.alloc (Y6 #[X .i32 tv,O v] 215)=wa at Q Bx H HD ES FT|-;obtain⟨BT,K2⟩:=kQ wr.heap.size;rw[K2]at Bx|-;clear K2 S HX HH HK;have b1:=H.D 1;have f1:=H.qI 1;have t1:=Bx.D 1;simp at b1 t1;have AH:=Aa HD;have PT:N+1<=wa.heap.size:=H.lt;go_wp2_with (at_builtin;refine mE _ rfl (.tmp 39) (.tmp 42) _ rfl (N+1) 170 i0 _ 1 16 underlying102 NS M6 N0 NM rfl lc (U m k o) k (qS Ai ((qT k a).map AY.s)) rfl (mg AH _) ⟨wa.heap.size,0,Y⟩ 1 1 [O v] rfl rfl (mz (mG wa _)) lC lc lw lc li (wa.heap.size+1) ln ?_;intro D C w9 HL CC Mo M2;have W:=(H.alloc (Y6 #[O v] 170)).grown CC (Ap AH H lu);have b9:=W.D 1;have f9:=W.qI 1;simp at b9)
     have LB:jV (AF _ N [O b,U (V ⟨D,0,Y⟩) (k+1) C] 104):=W.set 1 _;have H5:jV (kt (w9.setCell ⟨N,1,Y⟩ (U (V ⟨D,0,Y⟩) (k+1) C)) (N+1) 170 1 (U (V ⟨D,0,Y⟩) (k+1) C) (k+1) (qS Ai ((qT (k+1) a).map AY.s))):=by
      rw[Aa H6];exact Ah HL (Ap HL W lu) _
     have LM:jV (kt (w9.setCell ⟨N,1,Y⟩ (U (V ⟨D,0,Y⟩) (k+1) C)) 0 215 2 (U (V ⟨gt,0,Y⟩) (Z a) FF) (Z a) (qS Ar a)):=by
      have h3:=nF (mg ES _) CC (j3 (λe=>Be ES AH lu gt rfl e.symm));exact Ah h3 (Ap h3 W lu) _
     have K3:jV (Ac [] w (w9.setCell _ (U (V ⟨D,0,Y⟩) (k+1) C))):=((FT.alloc _).grown CC (λq hq=>j3 (by have:=(AH.lt q hq).1;omega))).setCell (p:=⟨N,1,Y⟩) (j3 T) _;generalize w9.setCell ⟨N,1,Y⟩ (U (V ⟨D,0,Y⟩) (k+1) C)=w10 at LB H5 LM K3|-;clear HL CC Mo M2 W b9 f9 b1 f1 t1 AH H HD ES FT Bx Q H6
     try go_wp2
     refine K8 _ _ ?_;clear K8;go_wp2
     go_roundg (Z a-(k+1))
     case measure=>exact qu
     case rel=>exact⟨k+1,_,C,ly,lc,rfl,LB,H5,LM,K3⟩
    ·have Nj:k=Z a:=lc;subst Nj;obtain⟨n,A0⟩:=kQ (a.map AY.s);(have MN:Z n=Z a:=by rw[<-A0,mh]);have HF:jV (C6 wr ⟨⟨b,n⟩,U m (Z a) o⟩):=by
      have h:=Aa HX;rw[nw,A0]at h;show kt wr 0 170 1 _ (Z n) _;rw[MN];exact Ak h (mr _)
     have HT:=Aa H9;have Df:=Ab (λM hkz=>Lz _ M (HF.C hkz) li (λx hx=>by
      have KD:x∈n:=hx
      rw[<-A0]at KD
      obtain⟨t,ht,rfl⟩:=me.1 KD
      exact HT.2.2 t ht) HT.1)
     simp only[AJ]at Df;have FA:=Aa H3;rw[A0]at FA;obtain⟨TX,HI⟩:=kQ (Fx ⟨b,n⟩);rw[HI]at FA;simp only[HI]at Df;have IA:=Ab FA;obtain⟨b0,b1⟩:=S.c2;simp at b0 b1;clear FA HI A0 HX HH HT H3 H9;(go_wp2_with fail);refine(Df _ (kR _ _)).G ?_;rintro _ w5 ⟨rfl,k5⟩;have F:=Ab (S.C k5);have KB:=Ab (HK.H k5);have Nx:=Ab (HF.C k5);obtain⟨R,P⟩:=F.c2;have z0:=F.qI 0;have z1:=F.qI 1;simp at R P;clear Df k5 b0 b1 S HK HF;cases heq:(TX.toList==s.toList)with
     |false=>
      (have MB:(TX.toList !=s.toList)=T6:=by simp only[bne,heq];rfl);have G:jV (jE s=Y):=by
       show _=_;rw[Aa IA,heq,mm ln]
      have HS:jV (Ld (jE s) w (j1 (.tuple #[ku #[O ⟨#[]⟩,U Y 0 0],kx K])) ((w5.setCell ⟨N,0,Y⟩ (O ⟨#[]⟩)).setCell ⟨N,1,Y⟩ (U Y 0 0))):=by
       rw[Aa G];exact Ld.none _ _ ((KB.setCell (p:=⟨N,0,Y⟩) (j3 T) _).setCell (p:=⟨N,1,Y⟩) (j3 T) _)
      go_wp2;refine mF (As rfl lx ((F.set 0 _).set 1 _) underlying104 rfl lo) rfl ?_;exact HS
     |true=>
      (have MB:(TX.toList !=s.toList)=K:=by simp only[bne,heq];rfl);have G:jV (jE s=V ⟨b,n⟩):=by
       show _=_;rw[Aa IA,heq,mo rfl]
      have HS:jV (Ld (jE s) w (j1 (.tuple #[ku #[O b,U m (Z a) o],kx T6])) ((w5.setCell ⟨N,0,Y⟩ (O b)).setCell ⟨N,1,Y⟩ (U m (Z a) o))):=by
       rw[Aa G];refine⟨⟨_,_⟩,rfl,λf h=>o9 h,?_,li,(KB.setCell (p:=⟨N,0,Y⟩) (j3 T) _).setCell (p:=⟨N,1,Y⟩) (j3 T) _⟩;have I:=Aa Nx;have h2:=Ah I (Ap (v1:=U m (Z a) o) I F lu) (p:=⟨N,0,Y⟩) (O b);have h3:=F.set 0 (O b);exact Ah h2 (Ap (v1:=U m (Z a) o) h2 h3 lu) (p:=⟨N,1,Y⟩) _
      go_wp2;refine mF (As rfl lx ((F.set 0 _).set 1 _) underlying104 rfl lo) rfl ?_;exact HS
  .have G:jV (jE s=Y):=by
    rw[E]
    match cs,HC with
    |[],_=>rfl
    |[c],h=>simp at h;omega
    |c::d::l,_=>rfl
   have RE:((Z y:Int) !=1)=T6:=li;clear hp E EX A AO EY CW K7 I;go_wp2;refine mF (As rfl lx ((j.set 0 _).set 1 _) underlying104 rfl lo) rfl ?_;exact LC _ EK G
theorem Ob(s:bN)(w)(A0:s.size<=9223372036854775807):rE rF 53 #[O s] w λe Q=>Ld (dR s) w e Q:=by
 obtain⟨N,C⟩:=kQ w.heap.size;have F:=Ab C;have u:=Ab ((kR [] w).alloc (Y6 #[O ⟨#[]⟩,U Y 0 0] 104));have n:=Ab (kS w [O ⟨#[]⟩,U Y 0 0] 104);rw[C]at n;have v:w.heap.size<=N:=lc
 clear C;by_cases H:300<s.size
 .have k:jV (dR s=Y):=by show _=_;unfold dR;rw[mo H]
  go_enter func53,ntmps53;go_wp2;rw[Aa F];refine mF (As rfl lx n underlying104 rfl lo) rfl ?_;rw[Aa k];exact Ld.none _ _ u
 .have I:=Ab (λwz=>UY s wz lc);have m:jV (dR s=(jE s).bind λp=>if 2<Z p.dN then Y else V p):=by show _=_;unfold dR;rw[mm H]
  go_enter func53,ntmps53;refine kI (λr i=>?_);go_wp2;refine i _ _ ?_;clear i r;rw[Aa F];change Code.wp _ _ _ _ (w.alloc (Y6 #[O ⟨#[]⟩,U Y 0 0] 104));generalize w.alloc (Y6 #[O ⟨#[]⟩,U Y 0 0] 104)=w1 at u n|-;refine kI (λr i=>?_);go_wp2;refine i _ _ ?_;clear i r;refine kI (λr i=>?_);go_wp2_with fail
  refine(I w1).G ?_;rintro _ l ⟨⟨⟨d,a⟩,Bx⟩,rfl,z,A,D,y⟩;obtain⟨c,b,e⟩:=Aj A;simp only at e D z;subst e;simp only[AJ];have g:=Ab ((n.C y).alloc (Y6 #[O d,U c (Z a) b] 104));have x:=Ab (kS l [O d,U c (Z a) b] 104);have G:jV (C6 (l.alloc (Y6 #[O d,U c (Z a) b] 104)) ⟨⟨d,a⟩,U c (Z a) b⟩):=C6.C A ((kR [] l).alloc _);have B:=Ab ((u.H y).alloc (Y6 #[O d,U c (Z a) b] 104));have AR:N≠l.heap.size:=by have:=(n.C y).lt;omega
  have t:=Ab z;clear z A y I u n;go_wp2;refine i _ _ ?_;clear i r;change Code.wp _ _ _ _ (l.alloc (Y6 #[O d,U c (Z a) b] 104));generalize l.alloc (Y6 #[O d,U c (Z a) b] 104)=w3 at g x G B|-;obtain⟨M,P⟩:=kQ l.heap.size;rw[P]at x AR|-;clear P;obtain⟨c0,c1⟩:=g.c2;have z0:=g.qI 0;have z1:=g.qI 1;obtain⟨S,W⟩:=x.c2;simp at c0 c1 S W;have L:jV (dR s=Y->Ld (dR s) w (j1 (.tuple #[ku #[O ⟨#[]⟩,U Y 0 0],kx K])) ((w3.setCell ⟨N,0,Y⟩ (O ⟨#[]⟩)).setCell ⟨N,1,Y⟩ (U Y 0 0))):=λh=>by
   rw[h];exact Ld.none _ _ ((B.setCell (p:=⟨N,0,Y⟩) (j3 v) _).setCell (p:=⟨N,1,Y⟩) (j3 v) _)
  cases hr:jE s with
  |none=>
   (have k:jV (dR s=Y):=by show _=_;rw[Aa m,hr];rfl);simp only[Option.isSome_none];clear hr m t;go_wp2;refine mF (As rfl lx ((g.set 0 _).set 1 _) underlying104 rfl lo) rfl ?_;exact L k
  |some q=>
   have T:=Aa t q hr;subst T;simp only[Option.isSome_some];by_cases o:2<Z a
   ·(have k:jV (dR s=Y):=by show _=_;rw[Aa m,hr];show(if 2<Z a then Y else _)=Y;rw[mo o]);have AO:(2:Int)<(Z a:Int):=lc;clear hr m t;go_wp2;refine mF (As rfl lx ((g.set 0 _).set 1 _) underlying104 rfl lo) rfl ?_;exact L k
   ·(have k:jV (dR s=V ⟨d,a⟩):=by show _=_;rw[Aa m,hr];show(if 2<Z a then Y else _)=_;rw[mm o]);have AO:¬(2:Int)<(Z a:Int):=lc;have R:jV (Ld (dR s) w (j1 (.tuple #[ku #[O d,U c (Z a) b],kx T6])) ((w3.setCell ⟨N,0,Y⟩ (O d)).setCell ⟨N,1,Y⟩ (U c (Z a) b))):=by
     rw[Aa k];refine⟨⟨⟨d,a⟩,U c (Z a) b⟩,rfl,λf h=>o9 h,?_,D,(B.setCell (p:=⟨N,0,Y⟩) (j3 v) _).setCell (p:=⟨N,1,Y⟩) (j3 v) _⟩;have E:=Aa G;have o:=Ah E (Ap (v1:=U c (Z a) b) E g lu) (p:=⟨N,0,Y⟩) (O d);have h3:=g.set 0 (O d);exact Ah o (Ap (v1:=U c (Z a) b) o h3 lu) (p:=⟨N,1,Y⟩) (U c (Z a) b)
    clear hr m t;go_wp2;refine mF (As rfl lx ((g.set 0 _).set 1 _) underlying104 rfl lo) rfl ?_;exact R
def W8(pcs:kN CQ)(s:bN):Int:=match dR s with
 |none=>2
 |some p=>if iw pcs p.a=V (Z p.dN) then(if p.dN.all (Jo (qS C1 pcs))=T6 then 0 else 7)else 4
def KR(pcs:kN CQ)(s:bN)(w:jH)(e:Ending)(w':jH):Prop:=∃x:D5,e=j1 (.tuple #[ku (Za (AJ x)),X J (W8 pcs s)])/\(W8 pcs s=0->dR s=V x.f)/\C6 w' x/\Z x.f.dN<=1000/\Ac [] w w'
theorem Li(L H)(b:kN CQ)(s:bN)(w)(h:CA w (U L (Z b) H) b)(HY:Z b<=12)(hf:∀c∈b,KY c/\Z (Bl c)<=70000)(HA:∀c∈b,Z c.ea<=1000)(H2:s.size<=9223372036854775807):rE rF 59 #[U L (Z b) H,O s] w (KR b s w):=by
 have HM:=Ab ((kR [] w).alloc (Y6 #[O ⟨#[]⟩,U Y 0 0] 104));have HH:=Ab (kS w [O ⟨#[]⟩,U Y 0 0] 104);have HN:=Ab (Ob s (w.alloc (Y6 #[O ⟨#[]⟩,U Y 0 0] 104)) H2);have FT:jV (∀x g,Ac [] w g->rE rF 100 #[O x,U L (Z b) H] g λe w'=>e=j1 (BL ((iw b x).map fun(n:Nat)=>(n:Int)))/\Ac [] g w'):=λx g q=>PP x L H b g (h.C q) HA lc
 have E0:jV (∀g,Ac [] w g->rE rF 101 #[U L (Z b) H] g (OW b g)):=λg q=>Vm L H b g (h.C q) HY hf
 clear h hf HA;go_enter func59,ntmps59;go_wp2_with fail
 refine HN.G ?_;rintro _ E ⟨⟨⟨d,a⟩,xv⟩,rfl,BS,HD,FL,k3⟩;obtain⟨j,k,e⟩:=Aj HD;simp only at e BS FL;subst e;simp only[AJ];have EK:=Ab BS;have Ax:=Ab HD;have o:=Ab (HH.C k3);have B9:=Ab (HM.H k3);clear HN BS k3 HH HM;have EX:jV ((U j (Z a) k).ownBlock≠V w.heap.size):=Ap (Aa Ax) (Aa o) lu;have AR:=Ab (kS E [O d,U j (Z a) k] 104);have B2:=Ab (o.alloc (Y6 #[O d,U j (Z a) k] 104));have CW:=Ab (B9.alloc (Y6 #[O d,U j (Z a) k] 104));have HO:w.heap.size<E.heap.size:=o.lt;obtain⟨R,hR⟩:=kQ w.heap.size;rw[hR]at o B2 HO EX|-;have D:jV (w.heap.size<=R):=by show _<=_;omega
 have A2:jV (∀B (r:Int),r=W8 b s->r≠0->Ac [] w B->KR b s w (j1 (.tuple #[ku #[O ⟨#[]⟩,U Y 0 0],X J r])) B):=λB r e h0 q=>⟨⟨⟨⟨#[]⟩,[]⟩,U Y 0 0⟩,by rw[e];rfl,λh=>rl (e.H h) h0,mw _ _ _ _,mr _,q⟩
 have HW:jV (∀B,(0:Int)=W8 b s->dR s=V ⟨d,a⟩->Ac [] w B->Ac [R] E B->KR b s w (j1 (.tuple #[ku #[O d,U j (Z a) k],X J 0])) B):=λB e HZ q H1=>⟨⟨⟨d,a⟩,U j (Z a) k⟩,by rw[<-e];rfl,λ_=>HZ,Ag (Aa Ax) H1 (λi hi hm=>by
   simp at hm
   subst hm
   exact Aa EX hi),FL,q⟩
 obtain⟨y,A⟩:=o.c2;have P:=o.qI 0;have M:=o.qI 1;simp at y A;obtain⟨LD,CC⟩:=kQ (dR s);rw[CC]at EK|-;cases LD with
 |none=>
  simp only[Option.isSome_none];have u:jV (KR b s w (j1 (.tuple #[ku #[O ⟨#[]⟩,U Y 0 0],X J 2])) (((E.setCell ⟨R,0,Y⟩ (O ⟨#[]⟩)).setCell ⟨R,1,Y⟩ (U Y 0 0)).alloc (Y6 #[O d,U j (Z a) k] 104))):=A2 _ 2 (by unfold W8;rw[CC]) lu (((B9.setCell (p:=⟨R,0,Y⟩) (j3 (Aa D)) _).setCell (p:=⟨R,1,Y⟩) (j3 (Aa D)) _).alloc _);go_wp2_with fail
  refine mF (As rfl lx ((((Aa o).set 0 _).set 1 _).alloc _) underlying104 rfl lo) rfl ?_;exact u
 |some p=>
  obtain rfl:(⟨d,a⟩:CE)=p:=EK p rfl;simp only[Option.isSome_some];clear y A P M;have Bx:=Ab CC;have FB:=Ab ((kR [R] E).alloc (Y6 #[O d,U j (Z a) k] 104));have EY:=Ab (C6.C (Aa Ax) ((kR [] E).alloc (Y6 #[O d,U j (Z a) k] 104)));obtain⟨z,m⟩:=AR.c2;simp at z m;have AB:=Ab (FT d _ CW);go_wp2_with fail
  refine AB.G ?_;rintro _ w5 ⟨rfl,F⟩;have Jx:=Ab F;have AH:=Ab (CW.H F);have HR:=Ab (FB.trans' F ln);have C:=Ab ((Aa B2).C F);have HS:=Ab (C6.C (Aa EY) F);have N:=Ab ((Aa AR).C F);clear z m AB F FT FB B2 EY AR CW Ax o B9;obtain⟨z,m⟩:=N.c2;obtain⟨y,A⟩:=C.c2;have P:=C.qI 0;have M:=C.qI 1;simp at z m y A;have Q:jV (iw b d≠V (Z a)->KR b s w (j1 (.tuple #[ku #[O ⟨#[]⟩,U Y 0 0],X J 4])) ((w5.setCell ⟨R,0,Y⟩ (O ⟨#[]⟩)).setCell ⟨R,1,Y⟩ (U Y 0 0))):=λT=>A2 _ 4 (by unfold W8;rw[Aa Bx];show(4:Int)=if iw b d=V (Z a) then _ else 4;rw[mm T]) lu ((AH.setCell (p:=⟨R,0,Y⟩) (j3 (Aa D)) _).setCell (p:=⟨R,1,Y⟩) (j3 (Aa D)) _)
  obtain⟨Ha,hX⟩:=kQ E.heap.size;rw[hX]at z m N HO|-;clear hX;cases hav:iw b d with
  |none=>
   have u:=Ab (Q (by rw[hav];simp));simp only[BL,Option.map_none];clear Q;(go_wp2_with fail);refine mF (As rfl lx (((Aa C).set 0 _).set 1 _) underlying104 rfl lo) rfl ?_;exact u
  |some n=>
   simp only[BL,nM];by_cases hn:n=Z a
   .subst hn;have T:((Z a:Int) !=(Z a:Int))=K:=ln;clear Q y A P M;have HB:=Ab (E0 w5 AH);(go_wp2_with fail);refine HB.G ?_;rintro _ w6 ⟨TH,HK,FP,rfl,FC,S,FF,FA,I⟩;have IA:=Ab FC;have H7:=Ab FF;have HP:=Ab (AH.H I);have H4:=Ab (HR.trans' I ln);have H0:=Ab ((Aa C).C I);have H3:=Ab (C6.C (Aa HS) I);have HF:=Ab ((Aa N).C I);have HU:jV (∀x g,Ac [] w6 g->rE rF 102 #[U HK (Z TH) FP,O x] g λe w'=>e=j1 (kx (Jo (qS C1 b) x))/\w'=g):=λx g q=>by
     have h:=dq HK FP TH x 0 g (Ad (Aa IA) q) lc H7;have e:Jo TH x=Jo (qS C1 b) x:=by
      rw[nz,G4,G4];exact FA x
     rw[e]at h;exact h
    have DT:jV (∀r:Int,(r=if a.all (Jo (qS C1 b))=T6 then 0 else 7)->r=W8 b s):=by
     intro r hr;unfold W8;rw[Aa Bx];show r=if iw b d=V (Z a) then _ else 4;rw[mo hav];exact hr
    generalize qS C1 b=PT at HU DT;clear HB FC FF FA I AH HR C HS N z m T E0;have m:=HF.D 1;simp at m;go_wp2_with fail
    go_loopg [43] (Z a) (λgk i wq=>∃(t:Nat),i=X J t/\t<=Z a/\gk=Z a-t/\jV ((qT t a).all (Jo PT)=T6)/\jV (Ac [] w6 wq))
    case atStart=>exact⟨0,rfl,lc,rfl,se,kR _ _⟩
    case round=>
     clear m;obtain⟨t,rfl,ht,HJ,A0,v⟩:=hrel;have HG:=Ab HJ;clear HJ;have G:=Ab ((Aa H0).C v);obtain⟨y,A⟩:=G.c2;have P:=G.qI 0;have M:=G.qI 1;simp at y A;by_cases S:t<Z a
     ·have KK:(t:Int)<(Z a:Int):=lc;have KB:=rJ t;obtain⟨ga,JJ,HI,_,EM⟩:=Az (f:=Ai) (l:=a) (C6.C (Aa H3) v) (λ_ _=>rfl) t S;have a0:=EM t S 0 lc;obtain⟨rfl,-,rfl⟩:=qX HI;simp[Ai]at a0;have Df:jV (Jo PT a[t]=T6->(qT (t+1) a).all (Jo PT)=T6):=λh=>by
       show(qT (t+1) a).all (Jo PT)=T6;rw[lW S,List.all_append,Aa A0];simpa using h
      (have AT:jV (Jo PT a[t]=K->a.all (Jo PT)=K):=λh=>List.all_eq_false.2 ⟨a[t],lV S,by rw[h];simp⟩);obtain⟨W,hY⟩:=kQ (a[t]);rw[hY]at a0 Df AT;clear hY EM;(go_wp2_with fail);refine(HU W wr v).G ?_;rintro _ w7 ⟨rfl,H9⟩;subst H9;cases hb:Jo PT W with
      |true=>
       have AB:=Ab (Df hb);clear Df AT a0 y A P M;go_wp2_with fail
       go_roundg (Z a-(t+1))
       case measure=>exact qu
       case rel=>exact⟨t+1,ly,lc,rfl,AB,v⟩
      |false=>
       have u:jV (KR b s w (j1 (.tuple #[ku #[O ⟨#[]⟩,U Y 0 0],X J 7])) ((w7.setCell ⟨R,0,Y⟩ (O ⟨#[]⟩)).setCell ⟨R,1,Y⟩ (U Y 0 0))):=A2 _ 7 (DT 7 (by rw[Aa AT hb];rfl)) lu (((HP.H v).setCell (p:=⟨R,0,Y⟩) (j3 (Aa D)) _).setCell (p:=⟨R,1,Y⟩) (j3 (Aa D)) _);clear Df AT a0 A0 HG;(go_wp2_with fail);refine mF (As rfl lx (((Aa G).set 0 _).set 1 _) underlying104 rfl lo) rfl ?_;exact u
     ·obtain rfl:t=Z a:=lc;have u:jV (KR b s w (j1 (.tuple #[ku #[O d,U j (Z a) k],X J 0])) ((wr.setCell ⟨R,0,Y⟩ (O d)).setCell ⟨R,1,Y⟩ (U j (Z a) k))):=HW _ (DT 0 (by have h:=Aa A0;rw[nw]at h;rw[mo h])) (Aa Bx) (((HP.H v).setCell (p:=⟨R,0,Y⟩) (j3 (Aa D)) _).setCell (p:=⟨R,1,Y⟩) (j3 (Aa D)) _) (((H4.trans' v ln).setCell (p:=⟨R,0,Y⟩) ln _).setCell (p:=⟨R,1,Y⟩) ln _);have HL:=Ab ((Aa HF).C v);obtain⟨z,m⟩:=HL.c2;simp at z m;have KD:¬(Z a:Int)<(Z a:Int):=lc;clear A0 HG;(go_wp2_with fail);refine mF (As rfl lx (((Aa G).set 0 _).set 1 _) underlying104 rfl lo) rfl ?_;exact u
   .have u:=Ab (Q (by rw[hav];simp[hn]));have T:((Z a:Int) !=(n:Int))=T6:=li;clear Q;(go_wp2_with fail);refine mF (As rfl lx (((Aa C).set 0 _).set 1 _) underlying104 rfl lo) rfl ?_;exact u
def ZZ(s:bN)(w:jH)(e:Ending)(w':jH):Prop:=∃(p:BE),e=j1 (.tuple #[ku (Za (Bj p)),kx (Gw s)])/\p.f=Co s/\DR w' p/\(∀q,p.av.ownBlock=V q->w.heap.size<=q)/\Ac [] w w'
theorem VI(s:bN)(w)(MY:s.size<=9223372036854775807):rE rF 26 #[O s] w λe T=>ZZ s w e T:=by
 have KS:jV (∀g,KP s=K->Ac [] w g->ZZ s w (j1 (.tuple #[ku #[O ⟨#[]⟩,U Y 0 0],kx K])) g):=λg hc hk=>⟨⟨gN,_⟩,by unfold Gw;rw[hc];rfl,by unfold Co;rw[hc];rfl,mw _ _ _ _,λq hq=>by simp[kE]at hq,hk⟩
 have HB:=Ab (kS w [O ⟨#[]⟩,U Y 0 0] 43);have HK:=Ab ((kR [] w).alloc (Y6 #[O ⟨#[]⟩,U Y 0 0] 43));by_cases HV:300<s.size
 .have r:jV (KP s=K):=by unfold KP;rw[oy HV];rfl
  go_enter func26,ntmps26;go_wp2;refine mF (As rfl lx HB underlying43 rfl lo) rfl ?_;exact KS _ r HK
 .have hs:s.size<=300:=by omega
  have LB:s.size<=1000000:=lc
  have u:jV (KP s=(!(An s 0).2.2&&(!decide ((An s 0).2.1<s.size)&&(!decide (0<Z (An s 0).1.body)&& !decide (2<Z (An s 0).1.E.qH))))):=by unfold KP;rw[nC HV];rfl
  have D:jV (KP s=T6->Co s=Av Bm _):=λh=>by unfold Co;rw[mo h]
  have L:jV ((An s 0).2.2=K->SA _):=λh=>DH h
  have G:jV (lh s (An s 0).1.E):=Ol _ _ _;have HC:jV (∀b g,AF g b _ 73->rE rF 44 _ g λe T=>∃(hv bv:jR) (bl:kN Bc),e=j1 _/\kt T _ 93 2 hv _ _/\bl.map Prod.fst=(An s 0).1.body/\kt T _ 95 9 bv _ _/\AF T b _ 73/\Ac [b] g T):=λb g hb=>(QY b s 0 g LB (mr _) hb).G λe T ⟨hv,bv,bl,o,B,Q,h4,h5,h6,h7⟩=>⟨hv,bv,bl,o,B,Q,h4,h6,h7⟩
  obtain⟨⟨⟨f,d,y⟩,A,BS⟩,a,HO,hR⟩:∃c a HO,An s 0=(c,a,HO):=⟨_,_,_,rfl⟩;rw[hR]at u D L G HC;simp only at u D L G HC;clear hR HV;obtain⟨N,hN⟩:=kQ w.heap.size;have HN:=Ab hN;have FL:=Ab (kS (w.alloc (Y6 #[O ⟨#[]⟩,U Y 0 0] 43)) (B5 s 0 K) 73);rw[mJ,hN]at FL;have FT:=Ab (HB.alloc (Y6 (Za (B5 s 0 K)) 73));rw[hN]at FT;have HR:=Ab (HK.alloc (Y6 (Za (B5 s 0 K)) 73));have HL:jV (((w.alloc (Y6 #[O ⟨#[]⟩,U Y 0 0] 43)).alloc (Y6 (Za (B5 s 0 K)) 73)).heap.size=N+2):=li
  clear hN HB HK;go_enter func26,ntmps26;refine kI (λn j=>?_);go_wp2;refine j _ _ ?_;clear j n;refine kI (λn j=>?_);go_wp2;refine j _ _ ?_;clear j n;refine kI (λn j=>?_);go_wp2;refine j _ _ ?_;clear j n;refine kI (λn j=>?_);go_wp2_with fail
  rw[Aa HN];change rE _ _ _ ((w.alloc (Y6 #[O ⟨#[]⟩,U Y 0 0] 43)).alloc (Y6 (Za (B5 s 0 K)) 73)) _;generalize(w.alloc (Y6 #[O ⟨#[]⟩,U Y 0 0] 43)).alloc (Y6 (Za (B5 s 0 K)) 73)=w2 at FL FT HR HL|-;refine(HC (N+1) w2 FL).G ?_;rintro _ w3 ⟨hv,bv,bl,rfl,HX,H6,H8,HG,k3⟩;obtain⟨AH,AB,rfl⟩:=CX HX;obtain⟨ES,A1,rfl⟩:=CX H8;have H9:=Ab (FT.C k3);have LL:jV _:=HR.trans' k3 (λq hq=>j3 (by simp at hq;have:=Aa HN;omega));have K4:=Ab (Ak HX (mr _));have HZ:Z bl=Z A:=by rw[<-H6,mh]
  rw[HZ];have f1:=HG.D 1;have f2:=HG.D 2;simp[B5]at f1 f2;have K8:=k3.size;rw[Aa HL]at K8;clear HC FL FT HR HL HX H6 H8 HG k3 HZ;simp only[Dc];have EX:=Ab ((kR [] w3).alloc (Y6 #[O f,U AH (Z d) AB,X J y,U ES (Z A) A1,X J BS] 82));have z:=Ab (H9.alloc (Y6 #[O f,U AH (Z d) AB,X J y,U ES (Z A) A1,X J BS] 82));have H:=Ab (kS w3 [O f,U AH (Z d) AB,X J y,U ES (Z A) A1,X J BS] 82);have g1:=EX.cellAt f1;have g2:=EX.cellAt f2;have BA:=Ab (LL.H EX);have P:=Ab (Ad K4 EX);clear f1 f2 H9 K4 EX;go_wp2;refine j _ _ ?_;clear j n;change Code.wp _ _ _ _ (w3.alloc (Y6 #[O f,U AH (Z d) AB,X J y,U ES (Z A) A1,X J BS] 82));generalize w3.alloc (Y6 #[O f,U AH (Z d) AB,X J y,U ES (Z A) A1,X J BS] 82)=w4 at z H g1 g2 BA P|-;obtain⟨C,hC⟩:=kQ w3.heap.size;rw[hC]at H|-;clear hC;have e1:=H.D 1;have e3:=H.D 3;simp at e1 e3;have e0:=H.D 0;have e2:=H.D 2;obtain⟨c0,c1⟩:=z.c2;have z0:=z.qI 0;have z1:=z.qI 1;simp at e0 e2 c0 c1;have E0:jV (KP s=K->ZZ s w _ ((w4.setCell _ (O ⟨#[]⟩)).setCell _ (U Y 0 0))):=λh=>KS _ h ((BA.setCell (p:=⟨N,0,Y⟩) (j3 qu) _).setCell (p:=⟨N,1,Y⟩) (j3 qu) _)
  cases HO with
  |true=>
   have r:jV (KP s=K):=u;clear u D L G P;go_wp2;refine mF (As rfl lx ((z.set 0 _).set 1 _) underlying43 rfl lo) rfl ?_;exact E0 r
  |false=>
   by_cases o:a<s.size
   ·(have r:jV (KP s=K):=qr);have MB:(a:Int)<s.size:=lc;clear u D L G P;go_wp2;refine mF (As rfl lx ((z.set 0 _).set 1 _) underlying43 rfl lo) rfl ?_;exact E0 r
   ·have MB:¬(a:Int)<s.size:=lc;by_cases B:0<Z A
    ·(have r:jV (KP s=K):=qr);have Mo:(0:Int)<Z A:=lc;clear u D L G P;go_wp2;refine mF (As rfl lx ((z.set 0 _).set 1 _) underlying43 rfl lo) rfl ?_;exact E0 r
    ·have Mo:¬(0:Int)<Z A:=lc;by_cases Q:2<Z d
     ·(have r:jV (KP s=K):=qr);have LE:(2:Int)<Z d:=lc;clear u D L G P;go_wp2;refine mF (As rfl lx ((z.set 0 _).set 1 _) underlying43 rfl lo) rfl ?_;exact E0 r
     ·have LE:¬(2:Int)<Z d:=lc;(have r:jV (KP s=T6):=qr);have JJ:=(L rfl).E.qH;have A2:=Ab (λg (hk:Ac [] w4 g)=>Pr Bm ⟨f,d,y⟩ AH AB g rfl (Ad P hk) li (λt ht=>by
       rcases JJ t ht with h|h
       .exact j2 h.1
       exact lc))
      simp only[Xw,CN]at A2;have HF:jV _:=D r;have HT:jV ((∀x∈(Av Bm ⟨f,d,y⟩).qH,x.size<=1000000)/\f.size<=1000000):=by
       have hz:=Aa G;refine⟨λx hx=>?_,by have:=hz.1;simp at this;omega⟩;obtain⟨t,ht,rfl⟩:=me.1 hx;unfold AI;split
       .have:=hz.2 t ht;omega
       .unfold Bm;rw[mq,ry];split<;>exact mr _
      have AR:jV ((Av Bm ⟨f,d,y⟩).a=f/\Z (Av Bm ⟨f,d,y⟩).qH=Z d):=⟨rfl,by show Z (d.map _)=_;rw[mh]⟩;have S:=Ab ((kR [] w4).alloc (Y6 jS 90));have Bx:=Ab (kS w4 (kB 26 (O ⟨#[]⟩)) 90);obtain⟨M,HM⟩:=kQ (Av Bm ⟨f,d,y⟩);simp only[HM]at A2;rw[HM]at HF HT AR;clear u D L G JJ E0 P HM;have AT:=Ab (H.C S);refine kI (λn j=>?_);go_wp2;refine j _ _ ?_;clear j n g1 g2 e0 e1 e2 e3 c0 c1 z0 z1;refine kI (λn j=>?_);go_wp2;refine j _ _ ?_;clear j n;change Code.wp _ _ _ _ (w4.alloc (Y6 (Za (kB 26 (O ⟨#[]⟩))) 90));change jV (Ac [] w4 (w4.alloc (Y6 (Za (kB 26 (O ⟨#[]⟩))) 90)))at S;change jV (AF (w4.alloc (Y6 (Za (kB 26 (O ⟨#[]⟩))) 90)) C _ 82)at AT;generalize w4.alloc (Y6 (Za (kB 26 (O ⟨#[]⟩))) 90)=w5 at S Bx AT|-;obtain⟨E,hE⟩:=kQ w4.heap.size;rw[hE]at Bx|-;clear hE;obtain⟨EM,FC⟩:∃EM:kN jR,kB 26 (O ⟨#[]⟩)=EM:=⟨_,rfl⟩;(have KD:Z EM=26:=by rw[<-FC];rfl);(have HY:(rF.info? 90).map (·.size)=V (Z EM):=by rw[KD];exact lx);rw[FC]at Bx;simp only[FC]at A2;clear FC;obtain⟨e0,e1,e2⟩:=AT.c3;simp at e0 e1 e2;refine kI (λn j=>?_);go_wp2_with ((with_reducible refine qY 90 ?_);refine oe rfl 90 _ rfl E 0 lx EM _ Bx.range underlying90 rfl HY ?_)
      refine(A2 _ S).G ?_;rintro _ R ⟨l,m,rfl,IA,H7,k6⟩;have HJ:=S.H k6;have H2:=Ab IA;have MN:jV (∀q,(U l (Z d) m).ownBlock=V q->w.heap.size<=q):=λq hq=>by
       have o:=H7 q hq;have B:=BA.size;have Q:=S.size;omega
      have H4:=Ab (z.C HJ);have L0:=Ab (BA.H HJ);clear A2 IA H7 k6 HJ e0 e1 e2 S z BA AT Bx HY KD H;simp only[Bj,(Aa AR).1];have HW:=Ab (λg hk=>Oa _ g (H2.C hk) qu HT.1 qw);simp only[Bj,(Aa AR).1]at HW;have IJ:=Ab (H4.alloc (Y6 #[O f,U l (Z d) m] 43));have FP:=Ab (kS R [O f,U l (Z d) m] 43);have Ha:=Ab ((kR [] R).alloc (Y6 #[O f,U l (Z d) m] 43));go_wp2;refine j _ _ ?_;clear j n;change Code.wp _ _ _ _ (R.alloc (Y6 #[O f,U l (Z d) m] 43));generalize R.alloc (Y6 #[O f,U l (Z d) m] 43)=w7 at IJ FP Ha|-;obtain⟨F,hF⟩:=kQ R.heap.size;rw[hF]at FP|-;(have Jx:N≠F:=by have:=H4.lt;omega);clear hF;have EK:jV (∀g,AF g F [O f,U l (Z d) m] 43->jY g ⟨F,0,Y⟩=V (O f)/\jY g ⟨F,1,Y⟩=V (U l (Z d) m)):=by
       intro g hb;obtain⟨h0,o⟩:=hb.c2;exact⟨h0,o⟩
      obtain⟨TX,HQ⟩:=kQ (B7 M);simp only[HQ]at HW;(have K9:jV (Gw s=(TX.toList==s.toList)):=by show _=_;unfold Gw;rw[Aa r,Aa HF,HQ,nQ]);clear HQ;refine kI (λn j=>?_);have HS:=Ab (EK w7.drew FP);refine Cx 7 (λg=>jY g ⟨F,0,Y⟩=V (O f)/\jY g ⟨F,1,Y⟩=V (U l (Z d) m)) lo ?_;refine Cw.tqH (i:=0) (v:=ku #[O f,U l (Z d) m]) rfl (λ_ _ _ h=>h) HS ?_;simp only[kF,lR,lS,lT];refine Cw.tqH (i:=1) (v:=ku #[O f,U l (Z d) m]) rfl (λ_ _ _ h=>h) HS ?_;simp only[kF,lR,lS,lT];refine Cw.tqH (i:=3) (v:=O s) rfl (λ_ _ _ h=>h) HS ?_;simp only[kF,lR,lS,lT];refine Cw.one (i:=2) lo rfl (λDT I=>?_)
      go_simp
      refine(HW _ (Ha.H (kR [] w7).drew)).G ?_;rintro _ w8 ⟨rfl,LC⟩;have k8:=(kR [] w7).drew.H LC;have HI:=FP.C k8;have W:=IJ.C k8;refine I.o _ _ (λ_=>EK _ HI) ?_;clear I DT
      try simp only[kF,lR,lS,lT]
      have LS:=Ab (EK _ HI);refine Cw.tqH (i:=4) (v:=kx (TX.toList==s.toList)) rfl (λ_ _ _ h=>h) LS ?_;simp only[kF,lR,lS,lT];obtain⟨c0,c1⟩:=W.c2;have z0:=W.qI 0;have z1:=W.qI 1;simp at c0 c1;refine Cw.one (i:=5) lo rfl (λDT I=>?_)
      go_simp
      have IS:=(HI.bW ⟨N,0,Y⟩ Jx (O f)).bW ⟨N,1,Y⟩ Jx (U l (Z d) m);refine I.o _ _ (λ_=>EK _ IS) ?_;clear I DT
      try simp only[kF,lR,lS,lT]
      refine Cw.one (i:=6) lo rfl (λDT I=>?_)
      go_simp
      refine I.o _ _ (λ_=>EK _ IS) ?_;clear I DT;refine Cw.done lo ?_ _
      try simp only[kF,lR,lS,lT]
      refine j _ _ ?_;clear j n;refine wp_ret ?_;refine mF (As rfl lx ((W.set 0 _).set 1 _) underlying43 rfl lo) rfl ?_;have K2:w.heap.size<=N:=sx;have LM:=(((L0.H Ha).H k8).setCell (p:=⟨N,0,Y⟩) (j3 K2) (O f)).setCell (p:=⟨N,1,Y⟩) (j3 K2) (U l (Z d) m);refine⟨⟨M,_⟩,?_,HF.symm,?_,MN,LM⟩
      .rw[Aa K9];simp only[Bj,(Aa AR).1];rfl
      .have o:=(H2.C Ha).C k8;have B:=Ah o (Ap (v1:=U l (Z d) m) o W lu) (p:=⟨N,0,Y⟩) (O f);have Q:=W.set 0 (O f);exact Ah B (Ap (v1:=U l (Z d) m) B Q lu) (p:=⟨N,1,Y⟩) _
def Fn(cs:kN AW)(s:bN):Int:=if Gw s=T6 then(if BQ cs (Co s).a=(Z (Co s).qH:Int)then(if(Co s).qH.all (DP (Bh cs))=T6 then 0 else 7)else 4)else 2
structure IF(w:jH)(bb pb:Nat)(lad:rB)(lcp:Nat)(cs:kN AW)(fad:rB)(fcp:Nat)(fs:kN BE):Prop where
 base:AF w bb [jj (V ⟨pb,0,Y⟩),U fad (Z fs) fcp] 63
 prog:AF w pb [U lad (Z cs) lcp] 76
 rows:Cf w (U lad (Z cs) lcp) cs
 facts:CS w (U fad (Z fs) fcp) fs
def IF.C{w w'}{f i}{e}{a}{d}{c}{b}{g}(h:IF w f i e a d c b g)(k:Ac [] w w'):IF w' f i e a d c b g:=⟨h.base.C k,h.prog.C k,h.rows.C k,h.facts.C k⟩
def Oh(cs:kN AW)(s:bN)(w:jH)(e:Ending)(w':jH):Prop:=∃x:BE,e=j1 (.tuple #[ku (Za (Bj x)),X J (Fn cs s)])/\x.f=Co s/\DR w' x/\Ac [] w w'
def fO{α:Type}(f)(l:kN α)(k b)(c:(qT k l).all f=T6)(a:f l[k]=T6):(qT (k+1) l).all f=T6:=by
 rw[lW b,List.all_append,c];exact li
theorem bi(bb D K7 KA g KD KB fs)(s:bN)(w)(h:IF w bb D K7 KA g KD KB fs)(hF:LP g)(hl:Z g<=12)(Go:∀c∈g,Hj c)(H1:Z (Bh g)<=6)(H6:s.size<=9223372036854775807):rE rF 62 #[jj (V ⟨bb,0,Y⟩),O s] w λe z=>Oh g s w e z:=by
 have HB:=Ab h;have HS:=Ab ((kR [] w).alloc (Y6 #[O ⟨#[]⟩,U Y 0 0] 43));have HM:=Ab (kS w [O ⟨#[]⟩,U Y 0 0] 43);have HT:=Ab (VI s (w.alloc (Y6 #[O ⟨#[]⟩,U Y 0 0] 43)) H6);have HF:jV (∀T b,Ac [] w b->rE rF 23 #[jj (V ⟨D,0,Y⟩),O T] b λe z=>e=j1 (X J (BQ g T))/\Ac [] b z):=λT b m=>Mb D _ g T b (h.C m).prog (h.C m).rows lc (λc hc=>by have:=hF.body c hc;omega)
 have FT:jV (∀b,Ac [] w b->rE rF 83 #[jj (V ⟨D,0,Y⟩)] b λe z=>∃v,e=j1 v/\kt z b.heap.size 9 1 v (Z (Bh g)) (qS Ai (Bh g))/\Ac [] b z):=λb m=>RW D _ g b (h.C m).prog (h.C m).rows hl Go hF.full
 have K5:jV (∀(x:BE) b (r:Int),r=Fn g s->x.f=Co s->DR b x->Ac [] w b->Oh g s w (j1 (.tuple #[ku (Za (Bj x)),X J r])) b):=λx b r e h1 h2 h3=>⟨x,by rw[e],h1,h2,h3⟩
 clear h Go hF;go_enter func62,ntmps62;go_wp2_with fail
 refine HT.G ?_;rintro _ y ⟨⟨⟨d,a⟩,xv⟩,rfl,EK,AH,IS,k3⟩;obtain⟨k,j,e⟩:=Aj AH;simp only at e EK;subst e;simp only[Bj];have FP:jV (∀q,(U k (Z a) j).ownBlock=V q->q≠w.heap.size):=λq hq=>by have:=IS q hq;simp at this;omega
 have B2:=Ab EK;have H3:=Ab AH;have C:=Ab (HM.C k3);have HU:=Ab (HS.H k3);have A0:=Ab (C.alloc (Y6 #[O d,U k (Z a) j] 43));have A1:=Ab (kS y [O d,U k (Z a) j] 43);have S:=Ab (HU.alloc (Y6 #[O d,U k (Z a) j] 43));have B9:=Ab (DR.C AH ((kR [] y).alloc (Y6 #[O d,U k (Z a) j] 43)));have HV:w.heap.size<y.heap.size:=C.lt;clear HT AH EK k3 HM HS;obtain⟨R,hR⟩:=kQ w.heap.size;rw[hR]at A0 C HV FP;have HR:=Ab hR;have W:jV (∀W' (r:Int),r=Fn g s->Ac [] w W'->Ac [R] y W'->Oh g s w (j1 (.tuple #[ku #[O d,U k (Z a) j],X J r])) W'):=by
  intro W' r e m H5;refine K5 ⟨⟨d,a⟩,U k (Z a) j⟩ _ r e (Aa B2) ?_ m;exact Ag (Aa H3) H5 (λi hi hm=>by
   simp at hm
   subst hm
   exact rl rfl (Aa FP i hi))
 have E:jV (w.heap.size<=R):=by have:=Aa HR;show _<=_;omega
 obtain⟨A,B⟩:=C.c2;have Q:=C.qI 0;have P:=C.qI 1;simp at A B;cases ho:Gw s with
 |false=>
  have F:jV (Oh g s w (j1 (.tuple #[ku #[O d,U k (Z a) j],X J 2])) (((y.setCell ⟨R,0,Y⟩ (O d)).setCell ⟨R,1,Y⟩ (U k (Z a) j)).alloc (Y6 #[O d,U k (Z a) j] 43))):=W _ 2 (by unfold Fn;rw[ho];rfl) (((HU.setCell (p:=⟨R,0,Y⟩) (j3 (Aa E)) _).setCell (p:=⟨R,1,Y⟩) (j3 (Aa E)) _).alloc _) ((((kR [R] y).setCell (p:=⟨R,0,Y⟩) ln _).setCell (p:=⟨R,1,Y⟩) ln _).alloc _);go_wp2_with fail
  refine mF (As rfl lx ((((Aa C).set 0 _).set 1 _).alloc _) underlying43 rfl lo) rfl ?_;exact F
 |true=>
  clear A B Q P;have CC:=Ab ((kR [R] y).alloc (Y6 #[O d,U k (Z a) j] 43));go_wp2_with fail
  change Code.wp _ _ _ _ (y.alloc (Y6 #[O d,U k (Z a) j] 43));generalize y.alloc (Y6 #[O d,U k (Z a) j] 43)=w4 at A0 A1 S B9 CC|-;obtain⟨L,hX⟩:=kQ y.heap.size;rw[hX]at A1 HV|-;clear hX C hR;have EY:jV (∀b,Ac [] w4 b->jY b ⟨bb,0,Y⟩=V (jj (V ⟨D,0,Y⟩))/\jY b ⟨L,0,Y⟩=V (O d)/\jY b ⟨L,1,Y⟩=V (U k (Z a) j)):=λb m=>⟨by have:=(HB.C (S.H m)).base.D 0;simpa using this,m.cellAt (by have:=A1.D 0;simpa using this),m.cellAt (by have:=A1.D 1;simpa using this)⟩
  obtain⟨I,DT⟩:=kQ (BQ g d);have AB:jV (∀b,Ac [] w4 b->rE rF 23 #[jj (V ⟨D,0,Y⟩),O d] b λe z=>e=j1 (X J I)/\Ac [] b z):=λb m=>by
   have h:=HF d b (S.H m);rw[DT]at h;exact h
  have CW:=Ab DT;clear DT HF
  go_region_held3 (λb=>Ac [] w4 b/\jY b ⟨bb,0,Y⟩=V (jj (V ⟨D,0,Y⟩))/\jY b ⟨L,0,Y⟩=V (O d)/\jY b ⟨L,1,Y⟩=V (U k (Z a) j)) ((go_split_ands;refine(fun(HY:Ac [] w4 _)=>And.intro HY (EY _ HY)) ?_;repeat (first|assumption|exact kR [] _|refine Ac.drew ?_|refine Ac.alloc ?_ _))) ((go_at_call 23;refine(AB _ ml).G ?_;rintro _ w5 ⟨rfl,k5⟩;have G:Ac [] w4 w5:=si;clear k5))
  rename_i Jx;clear Jx AB;have AO:=Ab (S.H G);have E0:=Ab (CC.trans' G ln);have H:=Ab ((Aa A0).C G);have HX:=Ab (DR.C (Aa B9) G);obtain⟨d0,d1,d2⟩:=EY w5 G;obtain⟨A,B⟩:=H.c2;have Q:=H.qI 0;have P:=H.qI 1;simp at A B;by_cases N:I=(Z a:Int)
  ·(have FF:(I !=(Z a:Int))=K:=by simp[N]);clear A B Q P;have HK:=Ab (FT w5 AO);(go_wp2_with fail);refine HK.G ?_;rintro _ w6 ⟨tv,rfl,CL,M⟩;obtain⟨IJ,H7,rfl⟩:=Aj CL;have FA:=Ab (Ak (base':=0) CL (mr _));clear HK CL;have H9:=Ab (G.H M);have HW:=Ab (AO.H M);have HJ:=Ab (E0.trans' M ln);have HA:=Ab ((Aa H).C M);have HI:=Ab (DR.C (Aa HX) M);obtain⟨n,EX⟩:=kQ (Bh g);rw[EX]at FA H1|-;have HZ:jV (∀r:Int,(r=if a.all (DP n)=T6 then 0 else 7)->r=Fn g s):=by
    intro r hr;unfold Fn;rw[mo ho,<-Aa B2,EX];show r=if BQ g d=(Z a:Int)then _ else _;rw[mo (by rw[Aa CW];exact N)];exact hr
   (have K6:jV (∀x b,Ac [] w6 b->rE rF 50 #[U IJ (Z n) H7,O x] b λe z=>e=j1 (kx (DP n x))/\z=b):=λx b m=>IC _ n x 0 b (Ad (Aa FA) m) lc);clear EX FT G M AO E0 H HX S CC A0 B9 FF FA d0 d1 d2 N CW;go_wp2_with fail
   go_loopg [9] (Z a) (λgk i wq=>∃(t:Nat),i=X J t/\t<=Z a/\gk=Z a-t/\jV ((qT t a).all (DP n)=T6)/\jV (Ac [] w6 wq))
   case atStart=>exact⟨0,rfl,lc,rfl,se,kR _ _⟩
   case round=>
    obtain⟨t,rfl,ht,HO,BT,u⟩:=hrel;have HG:=Ab HO;clear HO;obtain⟨d0,d1,d2⟩:=EY wr (H9.H u);by_cases BA:t<Z a
    ·have LM:(t:Int)<(Z a:Int):=lc;have LE:=rJ t;obtain⟨ga,LB,HN,_,FL⟩:=Az (f:=Ai) (l:=a) (DR.C (Aa HI) u) (λ_ _=>rfl) t BA;have LC:=VH (Aa HI);have a0:=FL t BA 0 lc;obtain⟨rfl,-,rfl⟩:=qX HN;simp[Ai]at a0;(have Df:jV (DP n a[t]=T6->(qT (t+1) a).all (DP n)=T6):=λh=>fO _ _ t BA (Aa BT) h);(have BS:jV (DP n a[t]=K->a.all (DP n)=K):=λh=>List.all_eq_false.2 ⟨a[t],lV BA,by rw[h];simp⟩);obtain⟨Ax,hY⟩:=kQ (a[t]);rw[hY]at a0 Df BS;clear hY FL;(go_wp2_with fail);refine(K6 Ax wr u).G ?_;rintro _ w7 ⟨rfl,K3⟩;subst K3;cases hb:DP n Ax with
     |true=>
      have AB:=Ab (Df hb);clear Df BS a0;go_wp2_with fail
      go_roundg (Z a-(t+1))
      case measure=>exact qu
      case rel=>exact⟨t+1,ly,lc,rfl,AB,u⟩
     |false=>
      have F:jV (Oh g s w (j1 (.tuple #[ku #[O d,U (V ⟨ga,0,Y⟩) (Z a) j],X J 7])) ((w7.setCell ⟨R,0,Y⟩ (O d)).setCell ⟨R,1,Y⟩ (U (V ⟨ga,0,Y⟩) (Z a) j))):=W _ 7 (HZ 7 (by rw[Aa BS hb];rfl)) (((HW.H u).setCell (p:=⟨R,0,Y⟩) (j3 (Aa E)) _).setCell (p:=⟨R,1,Y⟩) (j3 (Aa E)) _) (((HJ.trans' u ln).setCell (p:=⟨R,0,Y⟩) ln _).setCell (p:=⟨R,1,Y⟩) ln _);have o:=Ab ((Aa HA).C u);obtain⟨A,B⟩:=o.c2;have Q:=o.qI 0;have P:=o.qI 1;simp at A B;clear Df BS a0 BT HG;(go_wp2_with fail);refine mF (As rfl lx (((Aa o).set 0 _).set 1 _) underlying43 rfl lo) rfl ?_;exact F
    ·obtain rfl:t=Z a:=lc;have F:jV (Oh g s w (j1 (.tuple #[ku #[O d,U k (Z a) j],X J 0])) ((wr.setCell ⟨R,0,Y⟩ (O d)).setCell ⟨R,1,Y⟩ (U k (Z a) j))):=W _ 0 (HZ 0 (by have h:=Aa BT;rw[nw]at h;rw[mo h])) (((HW.H u).setCell (p:=⟨R,0,Y⟩) (j3 (Aa E)) _).setCell (p:=⟨R,1,Y⟩) (j3 (Aa E)) _) (((HJ.trans' u ln).setCell (p:=⟨R,0,Y⟩) ln _).setCell (p:=⟨R,1,Y⟩) ln _);have o:=Ab ((Aa HA).C u);obtain⟨A,B⟩:=o.c2;have Q:=o.qI 0;have P:=o.qI 1;simp at A B;have LL:¬(Z a:Int)<(Z a:Int):=lc;clear BT HG;(go_wp2_with fail);refine mF (As rfl lx (((Aa o).set 0 _).set 1 _) underlying43 rfl lo) rfl ?_;exact F
  ·(have FF:(I !=(Z a:Int))=T6:=by simp[N]);have F:jV (Oh g s w (j1 (.tuple #[ku #[O d,U k (Z a) j],X J 4])) ((w5.setCell ⟨R,0,Y⟩ (O d)).setCell ⟨R,1,Y⟩ (U k (Z a) j))):=W _ 4 (by
     unfold Fn
     rw[mo ho,mm]
     rw[<-Aa B2]
     show¬BQ g d=(Z a:Int)
     rw[Aa CW]
     exact N) ((AO.setCell (p:=⟨R,0,Y⟩) (j3 (Aa E)) _).setCell (p:=⟨R,1,Y⟩) (j3 (Aa E)) _) ((E0.setCell (p:=⟨R,0,Y⟩) ln _).setCell (p:=⟨R,1,Y⟩) ln _)
   (go_wp2_with fail);refine mF (As rfl lx (((Aa H).set 0 _).set 1 _) underlying43 rfl lo) rfl ?_;exact F
def F2.snoc{α β}{R}{a}{b}:∀{l:kN α} {m:kN β},F2 R l m->R a b->F2 R (l++[a]) (m++[b])
 |[],[],_,h=>F2.cons h F2.nil
 |[],_::_,h,_=>h.elim
 |_::_,[],h,_=>h.elim
 |x::l,y::m,h,hr=>F2.cons h.1 (F2.snoc (l:=l) (m:=m) h.2 hr)
def Xh(cs:kN AW)(fs:kN BE)(w:jH)(e:Ending)(w':jH):Prop:=∃(qb:Nat) (qad:rB) (qcp:Nat) (ws:kN AW),e=j1 (jj (V ⟨qb,0,Y⟩))/\AF w' qb [U qad (Z (cs++ws)) qcp] 76/\Cf w' (U qad (Z (cs++ws)) qcp) (cs++ws)/\F2 GV (fs.map BE.f) ws/\Ac [] w w'
theorem bE(bb pb M2 K9)(a:kN AW)(LD LC)(o:kN BE)(w)(hB:AF w bb [jj (V ⟨pb,0,Y⟩),U LD (Z o) LC] 63)(hP:AF w pb [U M2 (Z a) K9] 76)(hR:Cf w (U M2 (Z a) K9) a)(hS:CS w (U LD (Z o) LC) o)(S0:Z a<=1000)(RT:Z o<=1000):rE rF 110 #[jj (V ⟨bb,0,Y⟩)] w (Xh a o w):=by
 have HB:=Ab hB;have HP:=Ab hP;have HR:=Ab hR;have HS:=Ab hS;have HD:=Ab (kS w [U Y 0 0] 76);have K7:=Ab ((kR [] w).alloc (Y6 #[U Y 0 0] 76));obtain⟨i0,LB,JJ,LM,K5⟩:=mW Tryz.yE;clear hB hP hR hS;go_enter func110,ntmps110;obtain⟨N,hN⟩:=kQ w.heap.size;rw[hN]at HD;have HN:=Ab hN;go_wp2_with fail
 clear hN
 go_loopg [4] (Z a) (λgk i wr=>∃(k:Nat) (Q:jR),i=X J k/\k<=Z a/\gk=Z a-k/\jV (AF wr N [Q] 76)/\jV (kt wr (N+1) 82 5 Q k (qS BH (qT k a)))/\jV (Ac [] w wr))
 case atStart=>exact⟨0,U Y 0 0,rfl,lc,rfl,HD,mw _ _ _ _,K7⟩
 case round=>
  clear HD K7;obtain⟨k,Q,rfl,B,LS,x,z,q⟩:=hrel;have HG:=Ab LS;clear LS;obtain⟨I,H,rfl⟩:=Aj z;have c0:=(HB.C q).D 0;have y:=(HB.C q).D 1;have p0:=(HP.C q).D 0;have q0:=x.D 0;have qf:=x.qI 0;simp at c0 y p0 q0;have N0:=x.lt;by_cases D:k<Z a
  ·have NX:(k:Int)<(Z a:Int):=lc;have RO:=rJ k;obtain⟨g,cap,hd,L0,H9,K1,KB,bl,a5,E,E0,B0,e0,e1,e2,e3⟩:=JE (HR.C q) k D;have e4:jY wr ⟨g,k*5+4,Y⟩=V (X J a5):=by
    obtain⟨g',RI,Ix,_,NE⟩:=Az (HR.C q).row (λc _=>B6 c) k D;have h4:=NE k D 4 lc;simp only[lU]at E Ix;rw[E0]at h4;simp[BH]at h4;have:=E.1.symm.H Ix.1;simp only[lZ,mR]at this;rw[this.1];exact h4
   obtain⟨rfl,-,rfl⟩:=qX E;have W:jV (qS BH (qT k a)++[O hd.a,U L0 (Z hd.qH) H9,X J hd.e,U K1 (Z bl) KB,X J a5]=qS BH (qT (k+1) a)):=by
    show _=_;rw[lW D,mD,E0];rfl
   clear B0 E0;go_wp2_with fail
   go_region_law (refine oJ _ lx _ _ _ lx (N+1) 82 i0 _ 5 80 underlying74 LB JJ LM K5 rfl lc (U I k H) k (qS BH (qT k a)) lx ((CV (Aa z)).alloc _) ⟨wr.heap.size,0,Y⟩ 1 1 [O hd.a,U L0 (Z hd.qH) H9,X J hd.e,U K1 (Z bl) KB,X J a5] lx lx (mz (mG wr.drew _)) lC lc lw lc li (wr.heap.size+1) ln ?_;intro e m w5 C A AO BA;have u:=((Aa x).drew.alloc _).grown A (A8 (Aa z) N lc);have P:=u.D 0;have Bx:=u.qI 0;simp at P)
   all_goals
    have K6:=(C.lt e rfl).1;have FO:=Ab (u.set 0 (U (V ⟨e,0,Y⟩) (k+1) m));have S:=Ah C (p:=⟨N,0,Y⟩) su (U (V ⟨e,0,Y⟩) (k+1) m);rw[Aa W]at S;have HJ:=Ab S;have HZ:=Ab ((((Aa q).drew.alloc _).grown A (λk B=>j3 (by have h1:=(rx (Aa z) k B).1;have L:=Aa HN;omega))).setCell (p:=⟨N,0,Y⟩) (j3 (by have L:=Aa HN;show w.heap.size<=N;omega)) (U (V ⟨e,0,Y⟩) (k+1) m));clear C A AO BA u Bx P S z x q c0 y p0 q0 qf e0 e1 e2 e3 e4;go_wp2_with fail
    go_roundg (Z a-(k+1))
    case measure=>exact qu
    case rel=>exact⟨k+1,U (V ⟨e,0,Y⟩) (k+1) m,ly,lc,rfl,FO,HJ,HZ⟩
  ·obtain rfl:k=Z a:=lc;have IJ:jV (kt wr (N+1) 82 5 (U I (Z a) H) (Z a) (qS BH a)):=by
    have h:=Aa z;rw[nw]at h;exact h
   clear z HG D B;have H2:¬(Z a:Int)<(Z a:Int):=lc;(go_wp2_with fail);clear c0 y p0 q0 qf H2
   go_loopg [5] (Z o) (λgk i wq=>∃(j:Nat) (Q:jR) (d:kN AW),i=X J j/\j<=Z o/\gk=Z o-j/\jV (F2 GV ((qT j o).map BE.f) d)/\jV (AF wq N [Q] 76)/\jV (kt wq (N+1) 82 5 Q (Z (a++d)) (qS BH (a++d)))/\jV (∀c∈d,M9 wq (N+1) Q c)/\jV (Ac [] w wq))
   case atStart=>exact⟨0,_,[],rfl,lc,rfl,F2.nil,x,by show World.ownsRow _ _ _ _ _ _ _;rw[mQ];exact IJ,λc r=>(by cases r),q⟩
   case round=>
    clear x IJ q;obtain⟨j,Q,d,rfl,hj,IA,HF,x,z,HC,q⟩:=hrel;have HG:=Ab IA;clear IA;obtain⟨I,H,rfl⟩:=Aj z;have y:=(HB.C q).D 1;simp at y;have N0:=x.lt;by_cases D:j<Z o
    ·have NX:(j:Int)<(Z o:Int):=lc;have QQ:=rJ j;obtain⟨g,cap,T,b,SJ,RB,E,HI,e0,e1⟩:=Dd (HS.C q) j D;obtain⟨rfl,-,rfl⟩:=qX E;have B0:=((HS.C q).j _ (lV D)).1;have IS:=((Aa HS).j _ (lV D)).2.len;rw[HI]at B0 IS;simp only at IS;have Mo:=Ab B0;have KK:=Ab HI;clear B0 HI;(have SP:Z d=j:=by have:=(Aa HF).lenX;simp at this;omega);have v:=Ab (kS wr [O T,U Y 0 0,X J 0,U Y 0 0,X J 0] 82);have H8:=Ab ((kR [] wr).alloc (Y6 #[O T,U Y 0 0,X J 0,U Y 0 0,X J 0] 82));obtain⟨M,hM⟩:=kQ wr.heap.size;rw[hM]at v;have FB:=Ab hM;clear y;have y:=(HB.C q).D 1;simp at y;(go_wp2_with fail);clear hM;obtain⟨j0,NM,NA,NY,Nq⟩:=mW Tryz.yK
     go_loopg [7] (Z b) (λgk i wt=>∃(t:Nat) (av:jR),i=X J t/\t<=Z b/\gk=Z b-t/\jV (AF wt M [O T,av,X J 0,U Y 0 0,X J 0] 82)/\jV (kt wt (M+1) 93 2 av t (qS AP ((qT t b).map Mt)))/\jV (Ac [] wr wt))
     case atStart=>exact⟨0,U Y 0 0,rfl,lc,rfl,v,mw _ _ _ _,H8⟩
     case round=>
      clear v H8 y e0;obtain⟨t,av,rfl,ht,K3,v,R,F⟩:=hrel;have MN:=Ab K3;clear K3;obtain⟨AB,Ax,rfl⟩:=Aj R;obtain⟨m0,m1,m2,m3,m4⟩:=v.c5;have mf:=v.qI 1;simp at m0 m1 m2 m3 m4;have SS:=v.lt;have y:=((HB.C q).C F).D 1;simp at y;have M6:=F.cellAt e1;by_cases EM:t<Z b
      ·have ST:(t:Int)<(Z b:Int):=lc;have SL:=rJ t;obtain⟨ga,RV,K2,_,H5⟩:=Az (f:=Ai) (l:=b) (DR.C (Aa Mo) F) (λ_ _=>rfl) t EM;have a0:=H5 t EM 0 lc;obtain⟨rfl,-,rfl⟩:=qX K2;simp[Ai]at a0;have W:jV (qS AP ((qT t b).map Mt)++[X .u8 0,O b[t]]=qS AP ((qT (t+1) b).map Mt)):=by
        show _=_;rw[lW EM,mO,mD];rfl
       obtain⟨FL,hX⟩:=kQ (b[t]);rw[hX]at a0 W;clear hX H5;go_wp2_with fail
       go_region_law (refine oJ _ lx _ _ _ lx (M+1) 93 j0 _ 2 24 underlying77 NM NA NY Nq rfl lc (U AB t Ax) t (qS AP ((qT t b).map Mt)) lx ((CV (Aa R)).alloc _) ⟨wr.heap.size,0,Y⟩ 1 1 [X .u8 0,O FL] lx lx (mz (mG wr.drew _)) lC lc lw lc li (wr.heap.size+1) ln ?_;intro e m w5 C A AO BA;have u:=((Aa v).drew.alloc _).grown A (A8 (Aa R) M lc);have P:=u.D 1;have Bx:=u.qI 1;simp at P)
       all_goals
        have K6:=(C.lt e rfl).1;have NS:=Ab (u.set 1 (U (V ⟨e,0,Y⟩) (t+1) m));have FC:=Ah C (p:=⟨M,1,Y⟩) su (U (V ⟨e,0,Y⟩) (t+1) m);rw[Aa W]at FC;have N2:=Ab FC;have Op:=Ab ((((Aa F).drew.alloc _).grown A (λk B=>j3 (by have h1:=(rx (Aa R) k B).1;have L:=Aa FB;omega))).setCell (p:=⟨M,1,Y⟩) (j3 (by have L:=Aa FB;show _<=M;omega)) (U (V ⟨e,0,Y⟩) (t+1) m));clear C A AO BA u Bx P FC R v F y M6 a0 m0 m1 m2 m3 m4 mf;go_wp2_with fail
        go_roundg (Z b-(t+1))
        case measure=>exact qu
        case rel=>exact⟨t+1,U (V ⟨e,0,Y⟩) (t+1) m,ly,lc,rfl,NS,N2,Op⟩
      ·obtain rfl:t=Z b:=lc;have EY:jV (kt wr (M+1) 93 2 (U AB (Z b) Ax) (Z b) (qS AP (b.map Mt))):=by
        have h:=Aa R;rw[nw]at h;exact h
       have AH:=Ab (x.C F);have A1:=Ab (Ad (Aa z) (Aa F));have H2:¬(Z b:Int)<(Z b:Int):=lc;have SB:N<wr.heap.size:=AH.lt;clear R MN ht EM;(have Nj:Z (a++d)<=2000:=by rw[mp];omega);obtain⟨s,FF⟩:=kQ (Z (a++d));have MB:=Ab FF;rw[FF]at A1 AH Nj;clear FF;have q0:=AH.D 0;have qf:=AH.qI 0;simp at q0;obtain⟨G,CL⟩:∃G:AW,G=⟨VV ⟨T,b⟩,U AB (Z b) Ax,U Y 0 0,[],0⟩:=⟨_,rfl⟩;have W:jV ([O T,U AB (Z b) Ax,X J 0,U Y 0 0,X J 0]=BH G):=by
        show _=_;rw[CL];rfl
       have H7:jV (∀c∈d++[G],M9 wr (N+1) (U I s H) c):=by
        intro c r;(have M1:(U I (Z (a++d)) H:jR)=U I s H:=by rw[Aa MB]);rcases mi.1 r with r|r
        .rw[<-M1];exact(Aa HC c r).C (Aa F)
        .rw[lX]at r;subst r;rw[CL];have hb:=x.lt;have S1:=Aa FB;refine⟨Ak (by show World.ownsRow _ _ _ _ _ _ _;simp only[VV,mh];exact Aa EY) lc,mw _ _ _ _,λp hp=>(by cases hp),λk B E=>?_,λk B E=>(by simp[kE]at B),λp hp=>(by cases hp)⟩;have h1:=(rx (Aa EY) k B).1;have L:=(rx (Aa z) k (by rw[M1];exact E)).2;omega
       have OH:jV (F2 GV ((qT (j+1) o).map BE.f) (d++[G])):=by
        show F2 _ _ _;rw[lW D,mO,Aa KK];exact F2.snoc (Aa HF) (by rw[CL];exact⟨rfl,rfl,rfl⟩)
       have Jx:=Ab (q.H F);clear CL HC HF EY Mo KK e1;(go_wp2_with fail);clear y M6
       go_region_law (refine oJ _ lx _ _ _ lx (N+1) 82 i0 _ 5 80 underlying74 LB JJ LM K5 rfl lc (U I s H) s (qS BH (a++d)) lx ((CV (Aa A1)).alloc _) ⟨wr.heap.size,0,Y⟩ 1 1 [O T,U AB (Z b) Ax,X J 0,U Y 0 0,X J 0] lx lx (mz (mG wr.drew _)) lC lc lw lc li (wr.heap.size+1) ln ?_;intro e m w5 C A AO BA;have u:=((Aa AH).drew.alloc _).grown A (A8 (Aa A1) N lc);have P:=u.D 0;have Bx:=u.qI 0;simp at P)
       all_goals
        have K6:=(C.lt e rfl).1;have FO:=Ab (u.set 0 (U (V ⟨e,0,Y⟩) (s+1) m));have S:=Ah C (p:=⟨N,0,Y⟩) su (U (V ⟨e,0,Y⟩) (s+1) m);have NB:jV (Z (a++(d++[G]))=s+1):=by
         show _=_;rw[<-Aa MB];simp[Nat.add_assoc]
        have HJ:jV (World.ownsRow (w5.setCell ⟨N,0,Y⟩ (U (V ⟨e,0,Y⟩) (s+1) m)) (N+1) 82 5 (U (V ⟨e,0,Y⟩) (s+1) m) (Z (a++(d++[G]))) (qS BH (a++(d++[G])))):=by
         show World.ownsRow _ _ _ _ _ _ _;rw[Aa NB,<-mY,mD];rw[Aa W]at S;simpa using S
        have Nx:jV (∀c∈d++[G],M9 (w5.setCell ⟨N,0,Y⟩ (U (V ⟨e,0,Y⟩) (s+1) m)) (N+1) (U (V ⟨e,0,Y⟩) (s+1) m) c):=by
         intro c r;have h1:=(Aa H7 c r).C ((kR [] wr).drew.alloc (Y6 #[O T,U AB (Z b) Ax,X J 0,U Y 0 0,X J 0] 82));have L:=M9.grown (n:=s+1) (cap:=m) h1 A AO ln;exact L.C ((kR [N] w5).setCell (p:=⟨N,0,Y⟩) ln _)
        have HZ:=Ab ((((Aa Jx).drew.alloc _).grown A (λk B=>j3 (by have h1:=(rx (Aa A1) k B).1;have L:=Aa HN;omega))).setCell (p:=⟨N,0,Y⟩) (j3 (by have L:=Aa HN;show w.heap.size<=N;omega)) (U (V ⟨e,0,Y⟩) (s+1) m));clear C A AO BA u Bx P S A1 AH Jx F H7 q0 qf m0 m1 m2 m3 m4 mf;go_wp2_with fail
        go_roundg (Z o-(j+1))
        case measure=>exact qu
        case rel=>exact⟨j+1,U (V ⟨e,0,Y⟩) (s+1) m,d++[G],ly,lc,rfl,OH,FO,HJ,Nx,HZ⟩
    ·obtain rfl:j=Z o:=lc;have JA:jV (F2 GV (o.map BE.f) d):=by
      have h:=Aa HF;rw[nw]at h;exact h
     have M3:jV (Cf wr (U I (Z (a++d)) H) (a++d)):=by
      refine⟨Ak (Aa z) (mr _),λc r=>?_⟩;rcases mi.1 r with r|r
      .exact((Aa HR).j c r).C (Aa q)
      .exact(Aa HC c r).cvIn
     have HW:jV (Xh a o w (j1 (jj (V ⟨N,0,Y⟩))) wr):=⟨N,I,H,d,rfl,x,M3,JA,q⟩;clear HF HC z HG JA M3 x;have H2:¬(Z o:Int)<(Z o:Int):=lc;(go_wp2_with fail);go_ret;exact HW
def Vs(h:Gw s=T6):M4 (Co s)/\Z (Co s).qH<=2:=by
 obtain⟨_,b,_⟩:=GG h;unfold Gw at h;rw[mC]at h;obtain⟨a,_⟩:=h;have hF:Co s=Av Bm (An s 0).1.E:=by unfold Co;rw[mo a]
 unfold KP at a;simp only[mC,n6,nX]at a;rw[hF]at b|-;refine⟨⟨by simp[Av];omega,λx c=>?_⟩,by simp[Av];omega⟩;have i:=(b x c).size;obtain⟨t,d,rfl⟩:=me.1 c;have f:=(Iu s 0).1.2 t d;have k:(AI Bm t).size<=t.s.size:=by
  unfold AI Bm;split
  .exact mt _
  .rw[mq,ry];split<;>exact mr _
 omega
def Ib(cs:kN AW)(u:kN Ae)(s:bN):Int×kN Ae:=if Fn cs s=0 then(if C7 u (Co s)=T6 then(8,u)else(0,A3 u (Co s)))else(Fn cs s,u)
def LV(h:Fn c s=0):Gw s=T6:=by
 unfold Fn at h;cases ho:Gw s with
 |true=>rfl
 |false=>rw[ho]at h;simp at h
def Iw(bb pb:Nat)(lad:rB)(lcp:Nat)(cs:kN AW)(r:Int×kN Ae)(w:jH)(e:Ending)(w':jH):Prop:=∃(ad:rB) (cp:Nat) (fs:kN BE),e=j1 (X J r.1)/\fs.map BE.f=r.2/\IF w' bb pb lad lcp cs ad cp fs/\Ac [bb] w w'
def i8{e t}(h:kt w m e k z n y)(d:AF w b x t)(f:e≠t):z.ownBlock≠V b:=by
 intro a;rcases h.2 with⟨rfl,_⟩|⟨g,j,i,rfl,_,c,_⟩
 .simp[kE]at a
 .simp only[kE,lZ]at a;subst a;rw[d]at c;exact qr
def jB{t u}(h:AF w n y t)(c:AF w b x u)(d:t≠u):n≠b:=by
 rintro rfl;unfold AF at h c;exact qr
def IF.put{u}{z}{A}(h:IF w m k o j u z b A){g}{f}{a:kN BE}(q:CS w (U g (Z a) f) a):
  IF (w.setCell ⟨m,1,Y⟩ (U g (Z a) f)) m k o j u g f a:=by
 have t:Ac [m] w (w.setCell _ (U g (Z a) f)):=(kR [m] w).setCell (p:=⟨m,1,Y⟩) ln _;have d:∀{base e sz n v xs},kt w base e sz v n xs->e≠63->World.ownsRow _ base e sz v n xs:=λx y=>Ag x t (λi B s=>by
  simp at s
  subst s
  exact i8 x h.base y B)
 exact⟨by have:=h.base.set 1 (U g (Z a) f);exact oa,h.prog.C t (by simpa using jB h.prog h.base lu),⟨d h.rows.row lu,λc r=>⟨d (h.rows.j c r).qH lu,d (h.rows.j c r).body lu,λp l=>d ((h.rows.j c r).g p l) lu⟩⟩,⟨d q.row lu,λp l=>⟨d (q.j p l).1 lu,(q.j p l).2⟩⟩⟩
theorem gJ(m x A z j q o g)(s:bN)(w)(h:IF w m x A z j q o g)(hF:LP j)(hl:Z j<=12)(Bx:∀c∈j,Hj c)(EX:Z (Bh j)<=6)(CW:s.size<=9223372036854775807)(FP:Z g<=1000):rE rF 34 #[jj (V ⟨m,0,Y⟩),O s] w (Iw m x A z j (Ib j (g.map BE.f) s) w):=by
 have BS:=Ab (bi m x A z j q o g s w h hF hl Bx EX CW);have HB:=Ab h;clear h hF Bx;go_enter func34,ntmps34;go_wp2_with fail
 refine BS.G ?_;rintro _ t ⟨⟨⟨i,a⟩,xv⟩,rfl,M,W,T⟩;obtain⟨l,k,e⟩:=Aj W;simp at e M;subst e;simp only[Bj];have H:=Ab (HB.C T);have Q:=Ab T;have AH:=Ab M;have B2:=Ab W;clear BS M W T;by_cases D:Fn j s=0
 .have CL:(Fn j s !=0)=K:=by simp[D]
  have B0:=Vs (LV D);have r:jV (Ib j (g.map BE.f) s=if C7 (g.map BE.f) ⟨i,a⟩=T6 then(8,g.map BE.f)else(0,A3 (g.map BE.f) ⟨i,a⟩)):=by
   show _=_;unfold Ib;rw[mo D,<-Aa AH]
  have G:=Ab (kS t [O i,U l (Z a) k] 43);have u:=Ab (H.C ((kR [] t).alloc (Y6 #[O i,U l (Z a) k] 43)));have Ax:=Ab (Q.alloc (Y6 #[O i,U l (Z a) k] 43));have R:=Ab (DR.C (Aa B2) ((kR [] t).alloc (Y6 #[O i,U l (Z a) k] 43)));have CC:=H.base.lt;go_wp2_with fail
  change Code.wp _ _ _ _ (t.alloc (Y6 #[O i,U l (Z a) k] 43));generalize t.alloc (Y6 #[O i,U l (Z a) k] 43)=w3 at G u Ax R|-;obtain⟨y,hX⟩:=kQ t.heap.size;rw[hX]at G CC|-;clear hX;have L:jV (∀d,Ac [] w3 d->jY d _=V _/\jY d _=V (O i)/\jY d _=V _):=λd n=>⟨by have:=(u.C n).base.D 1;exact oa,n.cellAt (by have:=G.D 0;exact oa),n.cellAt (by have:=G.D 1;exact oa)⟩
  have P:M4 ⟨i,a⟩:=by rw[Aa AH];exact B0.1
  obtain⟨F,N⟩:=kQ (C7 (g.map BE.f) ⟨i,a⟩);have BT:jV (∀d,Ac [] w3 d->rE rF 21 #[U q (Z g) o,ku #[O i,U l (Z a) k]] d λe B=>e=j1 _/\Ac [] d B):=λd n=>by
   have h:=II q o g _ d (u.C n).facts (DR.C (Aa R) n) lc P;(have hh:(g.any λp=>CB p.f ⟨i,a⟩)=F:=by rw[<-N];unfold C7;rw[pj];rfl);exact h.G λe B h=>⟨h.1.H (rk (λb=>j1 _) hh),h.2⟩
  have EY:jV (∀d,Ac [] w3 d->rE rF 57 #[U q (Z g) o,ku #[O i,U l (Z a) k]] d _):=λd n=>LZ q o g ⟨⟨i,a⟩,_⟩ d (u.C n).facts (DR.C (Aa R) n) lc P
  rw[N]at r;clear N B0 P H Q B2
  go_region_held3 (λd=>Ac [] w3 d/\jY d ⟨m,1,Y⟩=V (U q (Z g) o)/\jY d ⟨y,0,Y⟩=V (O i)/\jY d ⟨y,1,Y⟩=V (U l (Z a) k)) ((go_split_ands;refine(fun(A1:Ac [] w3 _)=>And.intro A1 (L _ A1)) ?_;repeat (first|assumption|exact kR [] _|refine Ac.drew ?_|refine Ac.alloc ?_ _))) ((go_at_call 21;refine(BT _ ml).G ?_;rintro _ C ⟨rfl,k5⟩;have v:Ac [] w3 C:=si;clear k5))
  rename_i ES;clear ES BT;cases F with
  |true=>
   have E:jV (Iw m x A z j (Ib j _ s) w (j1 (X J 8)) C):=⟨q,o,g,by rw[Aa r];rfl,by rw[Aa r];rfl,u.C v,Ac.G (Ax.H v) ln⟩;(go_wp2_with fail);go_ret;exact E
  |false=>
   obtain⟨d0,d1,d2⟩:=L C v;(have DT:jV (∀d,Ac [] C d->jY d _=V _/\d.frozen? _=K):=λd n=>⟨(L d (v.H n)).1,(u.C (v.H n)).base.qI 1⟩);go_wp2_with fail
   go_region_law (go_simp;go_at_call 57;refine(EY _ (v.drew)).G ?_;rintro _ I ⟨AB,AR,rfl,BA,S⟩;obtain⟨g1,g2⟩:=DT I ((kR [] C).drew.H S))
   all_goals
    have E:jV (Iw m x A z j (Ib j (g.map BE.f) s) w (j1 (X J 0)) (I.setCell ⟨m,1,Y⟩ (U AB (Z (Eh g ⟨⟨i,a⟩,U l (Z a) k⟩)) AR))):=by
     have A2:=(v.drew).H S;refine⟨AB,AR,_,by rw[Aa r];rfl,?_,(u.C A2).put BA,(Ac.G (Ax.H A2) ln).setCell (p:=⟨m,1,Y⟩) ln _⟩;rw[Aa r,JF];rfl
    (go_wp2_with fail);go_ret;exact E
 .have r:jV (Ib j (g.map BE.f) s=(Fn j s,g.map BE.f)):=by show _=_;unfold Ib;rw[mm D]
  have E:jV (Iw m x A z j (Ib j _ s) w (j1 (X J (Fn j s))) (t.alloc (Y6 #[O i,U l (Z a) k] 43))):=⟨q,o,g,by rw[Aa r],by rw[Aa r],H.C ((kR [] t).alloc _),(Ac.G (Aa Q) ln).alloc _⟩;go_wp2_with fail
  go_ret;exact E
def Hz(cs:kN AW)(u:kN Ae)(s:bN):Int×kN Ae:=if Fn cs s=0 then(if C7 u (Co s)=T6 then(0,u.filter λg=> !CB g (Co s))else(7,u))else(Fn cs s,u)
theorem eG(u Q S R n F z a)(s:bN)(w)(h:IF w u Q S R n F z a)(hF:LP n)(hl:Z n<=12)(HF:∀c∈n,Hj c)(H5:Z (Bh n)<=6)(H9:s.size<=9223372036854775807)(K7:Z a<=1000):rE rF 37 #[jj (V ⟨u,0,Y⟩),O s] w (Iw u Q S R n (Hz n (a.map BE.f) s) w):=by
 have H1:=Ab (bi u Q S R n F z a s w h hF hl HF H5 H9);have HB:=Ab h;clear h hF HF;go_enter func37,ntmps37;go_wp2_with fail
 refine H1.G ?_;rintro _ B ⟨⟨⟨l,j⟩,xv⟩,rfl,FC,FB,k2⟩;obtain⟨r,t,e⟩:=Aj FB;simp at e FC;subst e;simp only[Bj];have Bx:=Ab (HB.C k2);have FP:=Ab k2;have HC:=Ab FC;have HI:=Ab FB;clear H1 FC FB k2;by_cases hz:Fn n s=0
 .have H4:(Fn n s !=0)=K:=by simp[hz]
  have HH:=Vs (LV hz);have G:jV (Hz n (a.map BE.f) s=if C7 (a.map BE.f) ⟨l,j⟩=T6 then(0,(a.map BE.f).filter λg=> !CB g ⟨l,j⟩)else(7,a.map BE.f)):=by
   show _=_;unfold Hz;rw[mo hz,<-Aa HC]
  have BA:=Ab (kS B [O l,U r (Z j) t] 43);have y:=Ab (Bx.C ((kR [] B).alloc (Y6 #[O l,U r (Z j) t] 43)));have Go:=Ab (FP.alloc (Y6 #[O l,U r (Z j) t] 43));have FT:=Ab (DR.C (Aa HI) ((kR [] B).alloc (Y6 #[O l,U r (Z j) t] 43)));have JJ:=Bx.base.lt;go_wp2_with fail
  change Code.wp _ _ _ _ (B.alloc (Y6 #[O l,U r (Z j) t] 43));generalize B.alloc (Y6 #[O l,U r (Z j) t] 43)=w3 at BA y Go FT|-;obtain⟨x,hX⟩:=kQ B.heap.size;rw[hX]at BA JJ|-;clear hX;have HA:jV (∀d,Ac [] w3 d->jY d _=V _/\jY d _=V (O l)/\jY d _=V _):=λd o=>⟨by have:=(y.C o).base.D 1;simpa using this,o.cellAt (by have:=BA.D 0;simpa using this),o.cellAt (by have:=BA.D 1;simpa using this)⟩
  have FO:M4 ⟨l,j⟩:=by rw[Aa HC];exact HH.1
  obtain⟨HS,EY⟩:=kQ (C7 (a.map BE.f) ⟨l,j⟩);have HW:jV (∀d,Ac [] w3 d->rE rF 21 #[U F (Z a) z,ku #[O l,U r (Z j) t]] d λe w'=>e=j1 _/\Ac [] d w'):=λd o=>by
   have h:=II F z a _ d (y.C o).facts (DR.C (Aa FT) o) lc FO;(have hh:(a.any λp=>CB p.f ⟨l,j⟩)=HS:=by rw[<-EY];unfold C7;rw[pj];rfl);exact h.G λe w' h=>⟨h.1.H (rk (λb=>j1 _) hh),h.2⟩
  have KS:jV (∀p∈a,∀d,Ac [] w3 d->rE rF 49 #[ku _,ku #[O l,U r (Z j) t]] d λe w'=>e=j1 (kx (CB p.f ⟨l,j⟩))/\Ac [] d w'):=λp hp d o=>Pp p _ d (((y.C o).facts.j p hp).1) (DR.C (Aa FT) o) (by have:=((y.facts).j p hp).2.len;omega) (by have h:Z j<=1000:=FO.len;show Z j<=1000000;omega)
  rw[EY]at G;clear EY HH FO Bx FP HI
  go_region_held3 (λd=>Ac [] w3 d/\jY d ⟨u,1,Y⟩=V (U F (Z a) z)/\jY d ⟨x,0,Y⟩=V (O l)/\jY d ⟨x,1,Y⟩=V (U r (Z j) t)) ((go_split_ands;refine(fun(A0:Ac [] w3 _)=>And.intro A0 (HA _ A0)) ?_;repeat (first|assumption|exact kR [] _|refine Ac.drew ?_|refine Ac.alloc ?_ _))) ((go_at_call 21;refine(HW _ ml).G ?_;rintro _ w5 ⟨rfl,k5⟩;have L:Ac [] w3 w5:=si;clear k5))
  rename_i KA;clear KA HW;cases HS with
  |false=>
   have I:jV (Iw u Q S R n (Hz n _ s) w (j1 (X J 7)) w5):=⟨F,z,a,by rw[Aa G];rfl,by rw[Aa G];rfl,y.C L,Ac.G (Go.H L) ln⟩;(go_wp2_with fail);go_ret;exact I
  |true=>
   obtain⟨d0,d1,T⟩:=HA w5 L;obtain⟨i0,K1,H8,K4,KB⟩:=mW Tryz.yH;obtain⟨N,hN⟩:=kQ w5.heap.size;have HN:=Ab hN;clear hN;go_wp2_with fail
   go_loopg [8,9] (Z a) (λgk lv i wq=>∃(k:Nat) (m:kN BE) (D:rB) (E:Nat),lv=U D (Z m) E/\i=X J k/\k<=Z a/\gk=Z a-k/\jV (m=(qT k a).filter λp=> !CB p.f ⟨l,j⟩)/\jV (kt wq N 43 2 (U D (Z m) E) (Z m) (qS Bj m))/\jV (Ac [] w5 wq))
   case atStart=>exact⟨0,[],Y,0,rfl,rfl,lc,rfl,se,mw _ _ _ _,kR _ _⟩
   case round=>
    obtain⟨k,m,D,E,rfl,rfl,o,HZ,BT,I,W⟩:=hrel;have HG:=Ab HZ;clear HZ d0 d1 T;have K8:Z m<=1000:=by
     have h1:=nL (λp:BE=> !CB p.f ⟨l,j⟩) (qT k a);rw[<-Aa BT,mT]at h1;omega
    obtain⟨d0,d1,T⟩:=HA wr (L.H W);by_cases EX:k<Z a
    ·have LD:(k:Int)<Z a:=lc;have K6:=rJ k;obtain⟨g,LM,A,v,M,H,he,FW,e0,e1⟩:=Dd (y.C (L.H W)).facts k EX;obtain⟨rfl,-,rfl⟩:=qX he;have AT:=Ab (KS _ (lV EX));rw[FW]at AT;have AH:jV ((qT (k+1) a).filter (λp=> !CB p.f ⟨l,j⟩)=if CB ⟨A,v⟩ ⟨l,j⟩=T6 then m else m++[⟨⟨A,v⟩,U M (Z v) H⟩]):=by
      show _=_;rw[lW EX,oA,<-Aa BT,FW];cases hb:CB (⟨A,v⟩:Ae) ⟨l,j⟩<;>simp[nJ,hb]
     obtain⟨SB,HT⟩:=kQ (CB ⟨A,v⟩ ⟨l,j⟩);simp only[Bj]at AT;rw[HT]at AT AH;(have B0:jV (∀d,Ac [] wr d->jY d _=V _/\jY d _=V (O A)/\jY d _=V _/\jY d _=V (O l)/\jY d _=V _):=λd o=>⟨o.cellAt d0,o.cellAt e0,o.cellAt e1,o.cellAt d1,o.cellAt T⟩);have IS:=Ab (L.H W);clear HT FW;go_wp2_with fail
     go_region_held3 (λd=>Ac [] wr d/\jY d ⟨u,1,Y⟩=V (U (V ⟨g,0,Y⟩) (Z a) z)/\jY d ⟨g,k*2,Y⟩=V (O A)/\jY d ⟨g,k*2+1,Y⟩=V (U M (Z v) H)/\jY d ⟨x,0,Y⟩=V (O l)/\jY d ⟨x,1,Y⟩=V (U r (Z j) t)) ((go_split_ands;refine(fun(A0:Ac [] wr _)=>And.intro A0 (B0 _ A0)) ?_;repeat (first|assumption|exact kR [] _|refine Ac.drew ?_|refine Ac.alloc ?_ _))) ((go_at_call 49;refine(AT _ (IS.H ml)).G ?_;rintro _ P ⟨rfl,k7⟩;have CW:Ac [] wr P:=(by go_split_ands;exact Ac.H oa k7);clear k7))
     rename_i H6;clear H6 AT;have E0:=Ab (W.H CW);have FA:=Ab (Ad (Aa I) CW);cases SB with
     |true=>
      (have B9:jV (m=(qT (k+1) a).filter λp=> !CB p.f ⟨l,j⟩):=by rw[Aa AH];rfl);clear AH B0 d0 d1 T e0 e1;go_wp2_with fail
      go_roundg (Z a-(k+1))
      case measure=>exact qu
      case rel=>exact⟨k+1,m,D,E,rfl,ly,lc,rfl,B9,FA,E0⟩
     |false=>
      (have B9:jV (m++[⟨⟨A,v⟩,U M (Z v) H⟩]=(qT (k+1) a).filter λp=> !CB p.f ⟨l,j⟩):=by rw[Aa AH];rfl);obtain⟨f0,f1,f2,-,-⟩:=B0 P CW;clear AH B0 d0 d1 T e0 e1;have LE:=(Aa E0).size;have L0:N<=P.heap.size:=sx;go_wp2_with (at_builtin;refine mE _ rfl (.tmp 48) (.tmp 56) _ rfl N 43 i0 _ 2 40 underlying35 K1 H8 K4 KB rfl lc (U D (Z m) E) (Z m) (qS Bj m) rfl (mg (Aa FA) _) ⟨P.heap.size,0,Y⟩ 1 1 [O A,U M (Z v) H] rfl rfl (mz (mG P _)) lC lc lw lc li (P.heap.size+1) ln ?_;intro g1 HK w8 HU HL H3 H7;have HE:=Ab HU;have IA:=Ab (((Aa E0).alloc (Y6 #[O A,U M (Z v) H] 43)).grown HL (λq hq=>j3 (by have h1:=(rx (Aa FA) q hq).1;have:=Aa HN;omega)));clear HU HL H3 H7)
      obtain⟨C,BS⟩:∃C:kN BE,C=m++[⟨⟨A,v⟩,U M (Z v) H⟩]:=⟨_,rfl⟩;(have FF:Z m+1=Z C:=by rw[BS];simp);have DT:jV (kt w8 N 43 2 (U (V ⟨g1,0,Y⟩) (Z C) HK) (Z C) (qS Bj C)):=by
       rw[<-FF,BS,mD];exact Aa HE
      (have JA:jV (C=(qT (k+1) a).filter λp=> !CB p.f ⟨l,j⟩):=by rw[BS];exact Aa B9);rw[FF];clear HE B9 BS FF
      go_roundg (Z a-(k+1))
      case measure=>exact qu
      case rel=>exact⟨k+1,C,_,HK,rfl,ly,lc,rfl,JA,DT,IA⟩
    ·obtain rfl:k=Z a:=lc;(have Ha:jV (m=a.filter λp=> !CB p.f ⟨l,j⟩):=by have h:=Aa BT;rw[nw]at h;exact h);have CC:=L.H W;have Df:jV (CS wr (U D (Z m) E) m):=by
      refine⟨Ak (Aa I) (mr _),λp hp=>?_⟩;rw[Aa Ha]at hp;exact(y.C CC).facts.j p (my.1 hp).1
     have DT:jV (Iw u Q S R n (Hz n (a.map BE.f) s) w (j1 (X J 0)) (wr.setCell ⟨u,1,Y⟩ (U D (Z m) E))):=by
      refine⟨D,E,m,by rw[Aa G];rfl,?_,(y.C CC).put (Aa Df),(Ac.G (Go.H CC) ln).setCell (p:=⟨u,1,Y⟩) ln _⟩;rw[Aa G,Aa Ha,mo ln];rw[List.filter_map];rfl
     have K9:=(y.C CC).base.qI 1;have LS:¬(Z a:Int)<Z a:=lc;clear BT Ha I HG Df;(go_wp2_with fail);go_ret;exact DT
 .have G:jV (Hz n (a.map BE.f) s=(Fn n s,a.map BE.f)):=by show _=_;unfold Hz;rw[mm hz]
  have I:jV (Iw u Q S R n (Hz n _ s) w (j1 (X J (Fn n s))) (B.alloc (Y6 #[O l,U r (Z j) t] 43))):=⟨F,z,a,by rw[Aa G],by rw[Aa G],Bx.C ((kR [] B).alloc _),(Ac.G (Aa FP) ln).alloc _⟩;go_wp2_with fail
  go_ret;exact I
def ZI{e b}{u}(hF:LP e)(w:Z e<=12)(i:F2 GV u b)(l:∀f∈u,M4 f)(v:Z u<=900):LP (e++b):=by
 have j:∀c∈b,c.bl=[]:=λc a=>by obtain⟨f,_,h⟩:=i.mem c a;exact h.2.1
 refine⟨by rw[mp,<-i.lenX];omega,λc a=>?_,λc a=>?_,λc a p d=>?_,?_,λc a=>?_⟩
 .rcases mi.1 a with a|a
  .exact hF.body c a
  .rw[j c a];simp
 .rcases mi.1 a with a|a
  .exact hF.E c a
  .obtain⟨f,k,h⟩:=i.mem c a;rw[h.1];show Z (f.qH.map Mt)<=_;rw[mh];have:=(l f k).len;omega
 .rcases mi.1 a with a|a
  .exact hF.g c a p d
  .rw[j c a]at d;cases d
 .have o:=hF.atoms;have m:Dz (e++b)=Dz e:=by
   unfold Dz;exact qr
  rw[m];exact o
 .rcases mi.1 a with a|a
  .exact hF.full c a
  .obtain⟨f,k,h⟩:=i.mem c a;refine⟨?_,λp d=>by rw[j c a]at d;cases d⟩;rw[h.1];intro t r _;obtain⟨y,n,rfl⟩:=me.1 r;exact(l f k).j y n
def Vz(cs:kN AW)(u:kN Ae)(w:jH)(e:Ending)(w':jH):Prop:=∃(ad:rB) (cp:Nat) (ms:kN BE) (ws:kN AW),e=j1 (U ad (Z ms) cp)/\CS w' (U ad (Z ms) cp) ms/\F2 GV u ws/\Cb (cs++ws)/\Hu (cs++ws) (BW (cs++ws) 6) 7 (ms.map BE.f)/\Ac [] w w'
theorem Ze(v H Ax W a C B c w)(h:IF w v H Ax W a C B c)(hF:LP a)(hl:Z a<=12)(N:B8 a)(L:Cb a)(P:∀f∈c.map BE.f,EG a f)(BT:Z c<=300):rE rF 65 #[jj (V ⟨v,0,Y⟩)] w (Vz a (c.map BE.f) w):=by
 have R:=Ab (bE v H Ax W a C B c w h.base h.prog h.rows h.facts lc lc);have D:jV (∀e i g b j,Ac [] w j->AF j e [U i (Z (a++b)) g] 76->Cf j (U i (Z (a++b)) g) (a++b)->F2 GV (c.map BE.f) b->rE rF 111 #[jj (V ⟨e,0,Y⟩)] j (Vz a (c.map BE.f) w)):=by
  intro e i g b j m E T y;have u:=NO N L y P (by rw[mh];omega);have r:=ZI hF hl y (λf hf=>by obtain⟨p,AT,rfl⟩:=me.1 hf;exact(h.facts.j p AT).2) (by rw[mh];omega);refine(Ui (BW (a++b) 6) (Hu (a++b) (BW (a++b) 6)) (I4 (a++b)) e i g (a++b) j E T r.len
   (λx wy m=>UR e i g (a++b) r.len r.body 6 x wy (E.C m) (T.C m) lc) (λx=>by have:=RC (a++b) 6 x;omega)
   (u.fit r) (Hu.start (a++b) _) (λn t h=>h.zV) (λn t h=>by
    have z:=u.round h
    exact⟨z.1,λh0=>by have d:=z.2.1 h0;rw[d.1];exact d.2,z.2.2.1⟩)).G ?_
  rintro _ w' ⟨q,s,l,rfl,o,d,k⟩;exact⟨q,s,l,b,rfl,o,y,u,d,m.H k⟩
 clear h hF N L P;go_enter func65,ntmps65;go_wp2_with fail
 refine R.G ?_;rintro _ w2 ⟨e,i,g,b,rfl,o,d,Q,S⟩;have A:=Ab (D e i g b w2 S o d Q);clear R D o d Q S;go_wp2_with fail
 refine A.G ?_;rintro _ w3 ⟨q,s,l,A1,rfl,M,F,g3,I,G⟩;have HO:jV (Vz a (c.map BE.f) w (j1 (U q (Z l) s)) w3):=⟨q,s,l,A1,rfl,M,F,g3,I,G⟩;clear A M F g3 I G;go_wp2_with fail
 go_ret;exact HO
def Mq(s:bN)(w:jH)(e:Ending)(w':jH):Prop:=∃(bv:jR) (er at_:Int),e=j1 (.tuple #[bv,X J er,X J at_])/\Ds s er at_/\(er≠0->bv=jj Y)/\(er=0->∃(bb pb:Nat) (lad:rB) (lcp:Nat) (cs:kN AW),bv=jj (V ⟨bb,0,Y⟩)/\w.heap.size<=bb/\IF w' bb pb lad lcp cs Y 0 []/\LP cs/\s.size<=300/\(Ao s (Af s 0)).2.2=K/\cs.map AW.erase=(Ao s (Af s 0)).1/\CH cs=(0,0))/\Ac [] w w'
theorem YJ(s:bN)(w)(y:s.size<=9223372036854775807):rE rF 32 #[O s] w (Mq s w):=by
 have t:=Ab (Ju s w y);go_enter func32,ntmps32;go_wp2_with fail
 refine t.G ?_;rintro _ a ⟨E,b,k,rfl,x,n,j⟩;have r:=Ab x;have e:=Ab n;have f:=Ab j;clear t x n j;by_cases c:b=0
 .subst c;obtain⟨d,D,C,z,rfl,u,v,hF,l,m,o,q⟩:=e rfl;have A:((0:Int) !=0)=K:=rfl;have g:jV (Mq s w (j1 (.tuple #[jj (V ⟨a.heap.size,0,Y⟩),X J 0,X J 0])) (a.alloc (Y6 #[jj (V ⟨d,0,Y⟩),U Y 0 0] 63))):=by
   have i:=(kR [] a).alloc (Y6 #[jj (V ⟨d,0,Y⟩),U Y 0 0] 63);refine⟨_,0,0,rfl,by have h:=Aa r;rw[h.zero]at h;exact h,λh=>rl rfl h,λ_=>⟨a.heap.size,d,D,C,z,rfl,f.size,⟨kS a [jj (V ⟨d,0,Y⟩),U Y 0 0] 63,u.C i,v.C i,⟨mw _ _ _ _,λp B=>by cases B⟩⟩,hF,l,m,o,q⟩,f.H i⟩
  clear u v hF l m o q e;go_wp2_with fail
  go_ret3;exact g
 .have A:(b !=0)=T6:=by simp[c]
  have g:jV (Mq s w (j1 (.tuple #[jj Y,X J b,X J k])) a):=⟨_,b,k,rfl,r,λ_=>rfl,λh=>rl h c,f⟩;clear c e;go_wp2_with fail
  go_ret3;exact g
structure J9(T:kN TypeId)(w w':jH):Prop where
 size:w.heap.size<=w'.heap.size
 e:∀(q:Nat) (cs:Array jR) (t:TypeId) (fr:Nat×Nat),w.heap[q]?=V (Y6 cs t fr)->t∉T->w'.heap[q]?=V (Y6 cs t fr)
def J9.H{T}(h:J9 T w v)(k:J9 T v u):J9 T w u:=⟨mZ h.size k.size,λq e t f g d=>k.e q e t f (h.e q e t f g d) d⟩
def J9.of{T}(k:Ac M w v)(f:∀q∈M,∀(b:Array jR) (t:TypeId) (c:Nat×Nat),w.heap[q]?=V (Y6 b t c)->t∈T):J9 T w v:=
 ⟨k.size,λq b t c a g=>by
  have e:=(mV.1 a).1
  rw[k.block q e (λd=>g (f q d b t c a))]
  exact a⟩
def J9.C{T}{w w'}(k:Ac [] w w'):J9 T w w':=J9.of k (λq a=>by cases a)
def J9.row{T}(h:J9 T w u){v}(b:kt w m k i v n y)(j:k∉T):kt u m k i v n y:=by
 refine⟨b.1,?_⟩;rcases b.2 with o|⟨g,l,a,c,p,d,f⟩
 .exact j2 o
 .exact j3 ⟨g,l,a,c,p,h.e g a k (0,0) d j,f⟩
def J9.zJ{T}(h:J9 T w v){t}(c:AF w b y t)(a:t∉T):AF v b y t:=h.e b (Za y) t (0,0) c a
def IF.rst{T}{g}{f}{l}(h:IF w n m o i g f j l)(k:J9 T w v)(s:∀t∈T,t=117\/t=104):IF v n m o i g f j l:=by
 have a:∀e:TypeId,e≠117->e≠104->e∉T:=λe u r q=>by rcases s e q with h|h;exact u h;exact r h
 exact⟨k.zJ h.base (a _ lu lu),k.zJ h.prog (a _ lu lu),⟨k.row h.rows.row (a _ lu lu),λc d=>⟨k.row (h.rows.j c d).qH (a _ lu lu),k.row (h.rows.j c d).body (a _ lu lu),λp b=>k.row ((h.rows.j c d).g p b) (a _ lu lu)⟩⟩,⟨k.row h.facts.row (a _ lu lu),λp b=>⟨k.row (h.facts.j p b).1 (a _ lu lu),(h.facts.j p b).2⟩⟩⟩
def CA.rst{T}{f}(h:CA w z f)(k:J9 T w v)(j:∀t∈T,t=117\/t=104\/t=63):CA v z f:=by
 have b:∀e:TypeId,e≠117->e≠104->e≠63->e∉T:=λe l i m g=>by rcases j e g with h|h|h;exact l h;exact i h;exact m h
 refine⟨k.row h.row (b _ lu lu lu),λc a=>⟨k.row (h.j c a).E (b _ lu lu lu),⟨k.row (h.j c a).body.row (b _ lu lu lu),λp d=>⟨?_,((h.j c a).body.j p d).2⟩⟩⟩⟩;exact k.row ((h.j c a).body.j p d).1 (b _ lu lu lu)
structure Jq(w:jH)(bb:Nat)(lad:rB)(lcp:Nat)(pcs:kN CQ)(sad:rB)(scp:Nat)(fs:kN D5):Prop where
 base:AF w bb [U lad (Z pcs) lcp,U sad (Z fs) scp] 117
 prog:CA w (U lad (Z pcs) lcp) pcs
 facts:Ic w (U sad (Z fs) scp) fs
def Jq.C{w w'}{d}{c}{b}{g}{f}{a}{e}(h:Jq w d c b g f a e)(k:Ac [] w w'):Jq w' d c b g f a e:=⟨h.base.C k,h.prog.C k,h.facts.C k⟩
theorem Lw(a w):rE rF 58 #[jj (V ⟨a,0,Y⟩)] w λe b=>e=j1 (jj (V ⟨a,0,Y⟩))/\b=w:=by
 go_wp2;go_ret;exact ln
def O6(s:bN)(w:jH)(e:Ending)(w':jH):Prop:=∃(bv:jR) (er at_:Int),e=j1 (.tuple #[bv,X J er,X J at_])/\EC s (jK s) (er,at_)/\(er≠0->bv=jj Y)/\(er=0->∃(bb:Nat) (lad:rB) (lcp:Nat) (pcs:kN CQ) (rcs:kN AW),bv=jj (V ⟨bb,0,Y⟩)/\w.heap.size<=bb/\Jq w' bb lad lcp pcs Y 0 []/\s.size<=300/\rcs.map AW.erase=(Ao s (Af s 0)).1/\Ia pcs rcs)/\Ac [] w w'
theorem ZA(s:bN)(w)(C:s.size<=9223372036854775807):rE rF 31 #[O s] w (O6 s w):=by
 have v:=Ab (JK s (jK s) w C (λd D b c i=>KM d b i));go_enter func31,ntmps31;go_wp2_with fail
 refine v.G ?_;rintro _ a ⟨g,n,j,⟨e,k⟩,rfl,z,u,t⟩;have o:=Ab z;have l:=Ab u;have m:=Ab t;clear v z u t;by_cases f:e=0
 .subst f;obtain⟨d,D,c,b,i,rfl,r⟩:=l rfl;obtain⟨x,F,B,A⟩:=Mk d b i r o rfl;obtain rfl:k=0:=(Prod.mk.inj x).2;have E:((0:Int) !=0)=K:=rfl;have q:jV (O6 s w (j1 (.tuple #[jj (V ⟨a.heap.size,0,Y⟩),X J 0,X J 0])) (a.alloc (Y6 #[U g (Z c) j,U Y 0 0] 117))):=by
   have y:=(kR [] a).alloc (Y6 #[U g (Z c) j,U Y 0 0] 117);exact⟨_,0,0,rfl,o,λh=>rl rfl h,λ_=>⟨a.heap.size,g,j,c,F,rfl,m.size,⟨kS a [U g (Z c) j,U Y 0 0] 117,r.C y,⟨mw _ _ _ _,λp b=>by cases b⟩⟩,d,B,A⟩,m.H y⟩
  clear d b i r x B A l;go_wp2_with fail
  go_ret3;exact q
 .have E:(e !=0)=T6:=by simp[f]
  have q:jV (O6 s w (j1 (.tuple #[jj Y,X J e,X J k])) a):=⟨_,e,k,rfl,o,λ_=>rfl,λh=>rl h f,m⟩;clear f l;go_wp2_with fail
  go_ret3;exact q
def J8(x:bN):AY:=⟨0,x⟩
theorem U5(b a m n w)(S:C6 w ⟨⟨b,a⟩,U m (Z a) n⟩)(HI:Z a<=1000):rE rF 108 #[ku #[O b,U m (Z a) n]] w λe w'=>∃(ad:rB) (cp:Nat),e=j1 (ku #[X J 0,O b,U ad (Z a) cp,U Y 0 0])/\kt w' w.heap.size 215 2 (U ad (Z a) cp) (Z a) (qS Ar (a.map J8))/\Ac [] w w':=by
 have HX:=Ab S;clear S;go_enter func108,ntmps108;obtain⟨N,C⟩:=kQ w.heap.size;have A:=Ab C;obtain⟨i0,FL,B9,FT,E0⟩:=mW Tryz.zW;have x:=Ab ((((kR [] w).alloc (Y6 #[O b,U m (Z a) n] 104)).alloc (Y6 #[X J 0,O ⟨#[]⟩,U Y 0 0,U Y 0 0] 189)).alloc (Y6 #[X J 0,O b,U Y 0 0] 187));have I:jV (AF (((w.alloc (Y6 #[O b,U m (Z a) n] 104)).alloc (Y6 #[X J 0,O ⟨#[]⟩,U Y 0 0,U Y 0 0] 189)).alloc (Y6 #[X J 0,O b,U Y 0 0] 187)) (N+1+1) [X J 0,O b,U Y 0 0] 187):=by
  have h:=kS ((w.alloc (Y6 #[O b,U m (Z a) n] 104)).alloc (Y6 #[X J 0,O ⟨#[]⟩,U Y 0 0,U Y 0 0] 189)) [X J 0,O b,U Y 0 0] 187;rw[mJ,mJ,C]at h;exact h
 have G:jV (AF (((w.alloc (Y6 #[O b,U m (Z a) n] 104)).alloc (Y6 #[X J 0,O ⟨#[]⟩,U Y 0 0,U Y 0 0] 189)).alloc (Y6 #[X J 0,O b,U Y 0 0] 187)) (N+1) [X J 0,O ⟨#[]⟩,U Y 0 0,U Y 0 0] 189):=by
  have h:=(kS (w.alloc (Y6 #[O b,U m (Z a) n] 104)) [X J 0,O ⟨#[]⟩,U Y 0 0,U Y 0 0] 189).alloc (Y6 #[X J 0,O b,U Y 0 0] 187);rw[mJ,C]at h;exact h
 have EM:=Ab (C6.C (Aa HX) x);go_wp2_with fail
 generalize((w.alloc (Y6 #[O b,U m (Z a) n] 104)).alloc (Y6 #[X J 0,O ⟨#[]⟩,U Y 0 0,U Y 0 0] 189)).alloc (Y6 #[X J 0,O b,U Y 0 0] 187)=w1 at x I G EM|-;clear C
 go_loopg [12] (Z a) (λgk i wr=>∃(t:Nat) (H:jR),i=X J t/\t<=Z a/\gk=Z a-t/\jV (AF wr (N+1+1) [X J 0,O b,H] 187)/\jV (AF wr (N+1) [X J 0,O ⟨#[]⟩,U Y 0 0,U Y 0 0] 189)/\jV (kt wr (N+1+1+1) 215 2 H t (qS Ar ((qT t a).map J8)))/\jV (Ac [] w wr))
 case atStart=>exact⟨0,_,rfl,lc,rfl,I,G,mw _ _ _ _,x⟩
 case round=>
  clear I G x;obtain⟨t,H,rfl,ht,AH,o,c,j,B⟩:=hrel;have HG:=Ab AH;clear AH;obtain⟨g,d,rfl⟩:=Aj j;obtain⟨W,m1,m2⟩:=o.c3;have mf:=o.qI 2;simp at W m1 m2;have HP:=o.lt;by_cases P:t<Z a
  ·have HR:(t:Int)<Z a:=lc;have HL:=rJ t;obtain⟨ga,HJ,AB,_,R⟩:=Az (f:=Ai) (l:=a) (C6.C (Aa HX) B) (λ_ _=>rfl) t P;have M:=R t P 0 lc;obtain⟨rfl,-,rfl⟩:=qX AB;simp[Ai]at M;have Ax:jV (qS Ar ((qT t a).map J8)++[X .i32 0,O a[t]]=qS Ar ((qT (t+1) a).map J8)):=by
    rw[lW P,mO,mD];rfl
   obtain⟨D,T⟩:=kQ (a[t]);rw[T]at M Ax;clear T R;go_wp2_with (at_builtin;refine mE _ rfl (.tmp 17) (.tmp 20) _ rfl (N+1+1+1) 215 i0 _ 2 24 underlying185 FL B9 FT E0 rfl lc (U g t d) t (qS Ar ((qT t a).map J8)) rfl (mg (Aa j) _) ⟨wr.heap.size,0,Y⟩ 1 1 [X .i32 0,O D] rfl rfl (mz (mG wr _)) lC lc lw lc li (wr.heap.size+1) ln ?_;intro r u w5 L y FB FC;have z:=((Aa o).alloc _).grown y (A8 (Aa j) (N+1+1) lc);have A2:=((Aa c).alloc _).grown y (A8 (Aa j) (N+1) lc);have q5:=z.D 2;have FA:=z.qI 2;simp at q5)
   have HK:=(L.lt r rfl).1;have FF:=Ab (z.set 2 (U (V ⟨r,0,Y⟩) (t+1) u));have B2:=Ab (A2.bW ⟨N+1+1,2,Y⟩ ln (U (V ⟨r,0,Y⟩) (t+1) u));have F:=Ah L (p:=⟨N+1+1,2,Y⟩) su (U (V ⟨r,0,Y⟩) (t+1) u);rw[Aa Ax]at F;have Go:=Ab F;have Ha:=Ab ((((Aa B).alloc _).grown y (λk hk=>j3 (by have h1:=(rx (Aa j) k hk).1;have h2:=Aa A;omega))).setCell (p:=⟨N+1+1,2,Y⟩) (j3 (by have h2:=Aa A;show _<=N+1+1;omega)) (U (V ⟨r,0,Y⟩) (t+1) u));clear L y FB FC z A2 FA q5 F j o c B W m1 m2 mf M
   go_roundg (Z a-(t+1))
   case measure=>exact qu
   case rel=>exact⟨t+1,_,ly,lc,rfl,FF,B2,Go,Ha⟩
  ·obtain rfl:t=Z a:=lc;have E:jV (kt wr (N+1+1+1) 215 2 (U g (Z a) d) (Z a) (qS Ar (a.map J8))):=by
    have h:=Aa j;rw[nw]at h;exact h
   obtain⟨r0,r1,r2,r3⟩:=c.c4;have HE:=c.qI 0;have HC:=c.qI 1;have HD:=c.qI 2;have HM:=c.qI 3;simp at r0 r1 r2 r3;have HQ:¬(Z a:Int)<Z a:=lc;clear j HG;have CL:jV (World.ownsRow ((((wr.setCell ⟨N+1,0,Y⟩ (X J 0)).setCell ⟨N+1,1,Y⟩ (O b)).setCell ⟨N+1,2,Y⟩ (U g (Z a) d)).setCell ⟨N+1,3,Y⟩ (U Y 0 0)) w.heap.size 215 2 (U g (Z a) d) (Z a) (qS Ar (a.map J8))):=by
    (have hb:∀q,(U g (Z a) d).ownBlock=V q->q≠N+1:=λq hq=>by have:=(rx (Aa E) q hq).1;omega);(have v:(U g (Z a) d).ownBlock≠V (N+1):=λe=>hb _ e rfl);exact Ak (Ah (Ah (Ah (Ah (Aa E) (p:=⟨N+1,0,Y⟩) v _) (p:=⟨N+1,1,Y⟩) v _) (p:=⟨N+1,2,Y⟩) v _) (p:=⟨N+1,3,Y⟩) v _) (by have:=Aa A;omega)
   (have s:w.heap.size<=N+1:=by have:=Aa A;omega);have CW:=Ab (((((Aa B).setCell (p:=⟨N+1,0,Y⟩) (j3 s) (X J 0)).setCell (p:=⟨N+1,1,Y⟩) (j3 s) (O b)).setCell (p:=⟨N+1,2,Y⟩) (j3 s) (U g (Z a) d)).setCell (p:=⟨N+1,3,Y⟩) (j3 s) (U Y 0 0));have Q:=(((Aa c).set 0 (X J 0)).set 1 (O b)).set 2 (U g (Z a) d)|>.set 3 (U Y 0 0);simp at Q;have EK:=Ab Q;clear Q s E;(go_wp2_with fail);refine mF (Cj rfl rfl (Aa EK) underlying189 rfl lo) rfl ?_;exact⟨g,d,rfl,CL,CW⟩
structure ip(pcs:kN CQ)(cs:kN AW)(s:bN):Prop where
 same:W8 pcs s=Fn cs s
 fact:Fn cs s=0->dR s=V (Bn (Co s))/\AG (Co s)
def E7(bb:Nat)(lad:rB)(lcp:Nat)(pcs:kN CQ)(sv:jR)(r:Int×kN Ae)(w:jH)(e:Ending)(w':jH):Prop:=∃(sad:rB) (scp:Nat) (fs:kN D5),e=j1 (X J r.1)/\Jq w' bb lad lcp pcs sad scp fs/\CJ fs r.2/\Ac (bb::qV (qW sv)) w w'/\∀q,(U sad (Z fs) scp).ownBlock=V q->sv.ownBlock=V q\/w.heap.size<=q
def Jq.rstT{d}{c}(h:Jq w n o m p d i c)(k:Ac (n::qV (qW (U d (Z c) i))) w v):J9 [117,104] w v:=J9.of k (λq a l t s b=>by
 rcases l9.1 a with rfl|a
 .have:=h.base
  rw[this]at b
  exact qr
 .simp at a
  rcases h.facts.row.2 with⟨e,_⟩|⟨g,r,j,e,_,f,_⟩
  .rw[e]at a;simp[kE]at a
  .rw[e]at a
   simp only[kE,lZ]at a
   exact qr)
theorem fe(m x v n r o f l u s w)(h:Jq w m x v n r o f)(EY:CJ f u)(FC:ip n l s)(FL:Z n<=12)(hf:∀c∈n,KY c/\Z (Bl c)<=70000)(CW:∀c∈n,Z c.ea<=1000)(FT:s.size<=9223372036854775807)(HL:Z f<=1000):rE rF 33 #[jj (V ⟨m,0,Y⟩),O s] w (E7 m x v n (U r (Z f) o) (Ib l u s) w):=by
 have FA:=Ab (Li x v n s w h.prog FL hf CW FT);have HB:=Ab h;have z:=Ab EY;have T:=Ab FC;have c0:=h.base.D 0;simp at c0;have B9:=Ab (Lw m w);clear h EY FC hf CW;go_enter func33,ntmps33;go_wp2_with fail
 refine B9.G ?_;rintro _ R ⟨rfl,FO⟩;subst FO;go_wp2_with fail
 refine FA.G ?_;rintro _ y ⟨⟨⟨d,a⟩,xv⟩,rfl,N,AT,AH,W⟩;obtain⟨g,i,e⟩:=Aj AT;simp at e N AH;subst e;simp only[AJ];rw[(Aa T).same]at N|-;have AR:=Ab (HB.C W);have EK:=Ab W;have A1:=Ab N;have B0:=Ab AT;clear FA N AT W B9 c0;by_cases C:Fn l s=0
 .have FF:(Fn l s !=0)=K:=by simp[C]
  obtain⟨BS,S⟩:=(Aa T).fact C;have D:⟨d,a⟩=Bn (Co s):=qw
  have B:jV (Ib l u s=if C7 u (Co s)=T6 then(8,u)else(0,A3 u (Co s))):=by show _=_;unfold Ib;rw[mo C]
  have M:=Ab (kS y [O d,U g (Z a) i] 104);have F:=Ab (AR.C ((kR [] y).alloc (Y6 #[O d,U g (Z a) i] 104)));have Q:=Ab (EK.alloc (Y6 #[O d,U g (Z a) i] 104));have A0:=Ab (C6.C (Aa B0) ((kR [] y).alloc (Y6 #[O d,U g (Z a) i] 104)));go_wp2_with fail
  change Code.wp _ _ _ _ (y.alloc (Y6 #[O d,U g (Z a) i] 104));generalize y.alloc (Y6 #[O d,U g (Z a) i] 104)=w3 at M F Q A0|-;obtain⟨E,hX⟩:=kQ y.heap.size;rw[hX]at M|-;clear hX;have EX:jV (∀b,Ac [] w3 b->jY b _=V (O d)/\jY b _=V _):=λb j=>⟨j.cellAt (by have:=M.D 0;exact oa),j.cellAt (by have:=M.D 1;exact oa)⟩
  have EM:jV (∀b,Ac [] w3 b->rE rF 60 #[jj _,ku #[O d,U g (Z a) i]] b λe A=>e=j1 _/\Ac [] b A):=λb j=>by
   refine(Jt m 1 r o f _ b (by have:=(F.C j).base.D 1;exact oa) (F.C j).facts (C6.C (Aa A0) j) AH lc ((Aa z).G _)).G ?_;rintro _ A ⟨p,rfl,hc,k⟩;refine⟨?_,k⟩;(have L:EW f (Bn (Co s)) p:=by rw[<-D];exact hc);rw[D,(Aa z).ze S L]
  have FB:jV (∀b,Ac [] w3 b->C7 u _=K->rE rF 61 #[jj _,ku #[O d,U g (Z a) i]] b λe A=>e=j1 _/\E7 m x v n _ (Ib l u s) R (j1 (X J 0)) A):=λb j AB=>by
   have I:=F.C j;refine(OB m 1 _ 117 r o f _ b I.base rfl lu lu I.facts (C6.C (Aa A0) j) AH lc ((Aa z).G _)).G ?_;rintro _ A ⟨rfl,⟨p,ad,cp,hc,HG,HE,HF⟩,B2⟩;(have L:EW f (Bn (Co s)) p:=by rw[<-D];exact hc);(have hh:Dg f (Bn (Co s)) p=K:=by rw[(Aa z).ze S L];exact AB);have he:Ll f ⟨⟨d,a⟩,U g (Z a) i⟩ p=qT p f++⟨⟨d,a⟩,U g (Z a) i⟩::f.drop p:=by
    unfold Ll;rw[D,hh];rfl
   have FP:=I.rstT B2;have HI:=(Q.H j).size;refine⟨rfl,ad,cp,_,by rw[Aa B,AB];rfl,⟨HG,I.prog.rst FP (λt ht=>by simp at ht;rcases ht with h|h<;>simp[h]),HE⟩,?_,(Ac.G (Q.H j) ln).H B2,λq G=>?_⟩
   .rw[Aa B,AB,he];exact(Aa z).zm D S L hh
   .rcases HF q G with h|h
    .exact j2 h
    exact lc
  clear D BS S AR B0 A1 T
  go_region_held3 (λb=>Ac [] w3 b/\jY b ⟨E,0,Y⟩=V (O d)/\jY b ⟨E,1,Y⟩=V (U g (Z a) i)) ((go_split_ands;refine(fun(E0:Ac [] w3 _)=>And.intro E0 (EX _ E0)) ?_;repeat (first|assumption|exact kR [] _|refine Ac.drew ?_|refine Ac.alloc ?_ _))) ((go_at_call 60;refine(EM _ ml).G ?_;rintro _ H ⟨rfl,k5⟩;have P:Ac [] w3 H:=si;clear k5))
  rename_i FW;clear FW EM;cases HS:C7 u (Co s)with
  |true=>
   have HO:jV (E7 m x v n _ (Ib l u s) R (j1 (X J 8)) H):=⟨r,o,f,by rw[Aa B,HS];rfl,F.C P,by rw[Aa B,HS];exact z,Ac.G (Q.H P) ln,λq G=>j2 G⟩;(go_wp2_with fail);go_ret;exact HO
  |false=>
   obtain⟨d1,d2⟩:=EX H P;(have BA:jV _:=λb j=>FB b (P.H j) HS);clear FB;go_wp2_with fail
   go_region_law (go_simp;go_at_call 61;refine(BA _ ((kR [] H).drew)).G ?_;rintro _ w6 ⟨rfl,BT⟩;have Ha:=Ab BT;clear BT)
   all_goals
    (go_wp2_with fail);go_ret;exact Ha
 .have B:jV (Ib l u s=(Fn l s,u)):=by show _=_;unfold Ib;rw[mm C]
  have HO:jV (E7 m x v n _ (Ib l u s) R (j1 (X J (Fn l s))) (y.alloc (Y6 #[O d,U g (Z a) i] 104))):=⟨r,o,f,by rw[Aa B],AR.C ((kR [] y).alloc _),by rw[Aa B];exact z,(Ac.G (Aa EK) ln).alloc _,λq G=>j2 G⟩;go_wp2_with fail
  go_ret;exact HO
theorem Q7(S T:bN)(w)(p:S.size<=9223372036854775807):rE rF 39 #[ku #[X J 2,O S,O T]] w λe q=>e=j1 (kx T6)/\Ac [] w q:=by
 have j:=Ab (kS w [X J 2,O S,O T] 29);have k:=Ab ((kR [] w).alloc (Y6 #[X J 2,O S,O T] 29));have m:=Ab (V5 S (w.alloc (Y6 #[X J 2,O S,O T] 29)) p);go_enter func39,ntmps39;go_wp2_with fail
 refine m.G ?_;rintro _ x ⟨t,⟨s,z⟩,rfl,i,hF,a⟩;have b:=j.C a;have h:=Ab (k.H a);have n:=Ab (Wz S x p);have g:=b.D 1;simp at g;have c:=Ab i;have f:=Ab hF;clear m a i hF j k b;go_wp2_with fail
 refine n.G ?_;rintro _ r ⟨A,C,B,rfl,o,l,d⟩;obtain⟨rfl,rfl⟩:=Prod.mk.inj (Fc o c);obtain rfl:=Zn f l;have v:=Ab (h.H d);clear n o l d c f g h;go_wp2_with fail
 refine(Gp s r).G ?_;rintro _ y ⟨rfl,u⟩;subst u;go_wp2;go_ret;exact⟨ln,v⟩
set_option maxRecDepth 512
theorem eX(g n)(u:∀b S T w,g<=b->b<=n->S.size<=9223372036854775807->T.size<=9223372036854775807->rE rF 39 #[ku #[X J b,O S,O T]] w λe d=>e=j1 (kx T6)/\Ac [] w d)(t r a j b S T w)(h:RU w t r a b S T)(P:a<=j)(R:j<=9223372036854775807)(x:∀i,i<a->(S i).size<=9223372036854775807/\(T i).size<=9223372036854775807):rE rF 13 #[U (V ⟨t,r,Y⟩) a j,X J g,X J n] w λe d=>e=j1 (X J (-1))/\Ac [] w d:=by
 have H:=Ab h;have B:=Ab x;have F:=Ab u;clear h x u;go_enter func13,ntmps13;go_wp2
 go_loopg [7] a (λgk i wr=>∃(k:Nat),i=X J k/\k<=a/\k<=1152921504606846976/\gk=a-k/\jV (Ac [] w wr))
 case atStart=>exact⟨0,rfl,lc,lc,rfl,kR _ _⟩
 case round=>
  obtain⟨k,rfl,L,E,s,c⟩:=hrel;have f:=Ab s;clear s;by_cases p:k<a
  ·have G:(k:Int)<(a:Int):=lc;by_cases o:k<1152921504606846976
   ·have C:(k:Int)<1152921504606846976:=lc;have l:=Ab o;clear o E;obtain⟨N,M,I⟩:=H.C c k p;have y:=Aa B k p;have m:=Ab (c.alloc (Y6 #[X J (b k),O (S k),O (T k)] 29));by_cases A:g<=b k
    .by_cases z:b k<=n
     .have q:=Ab (F (b k) (S k) (T k) (wr.alloc (Y6 #[X J (b k),O (S k),O (T k)] 29)) A z y.1 y.2);(go_wp2_with fail);refine q.G ?_;rintro e Q ⟨rfl,v⟩;have D:=Ab (m.H v);clear q v;go_wp2
      go_roundg (a-(k+1))
      case measure=>exact qu
      case rel=>exact⟨k+1,ly,lc,by have:=Aa l;omega,rfl,D⟩
     .go_wp2
      go_roundg (a-(k+1))
      case measure=>exact qu
      case rel=>exact⟨k+1,ly,lc,by have:=Aa l;omega,rfl,m⟩
    .go_wp2
     go_roundg (a-(k+1))
     case measure=>exact qu
     case rel=>exact⟨k+1,ly,lc,by have:=Aa l;omega,rfl,m⟩
   ·have C:¬(k:Int)<1152921504606846976:=lc;go_wp2;go_ret;exact⟨rfl,c⟩
  ·have G:¬(k:Int)<(a:Int):=lc;go_wp2;go_ret;exact⟨rfl,c⟩
theorem eE(c f a d w):rE rF 13 #[U a 0 d,X J c,X J f] w λe b=>e=j1 (X J (-1))/\Ac [] w b:=by
 go_enter func13,ntmps13;go_wp2
 go_loop [7] (λi=>i=X J 0) (λ_=>0)
 case atStart=>rfl
 case round=>
  subst hrel;go_wp2;go_ret;exact⟨rfl,kR _ _⟩
end
section
variable{n m:Nat}{o:rB}{M:kN Nat}{w v:jH}{p:kN CQ}
set_option maxRecDepth 100000
theorem bJ(d b n)(c:kN Value)(w)(h:kt w 0 189 4 (U d n b) n c)(R:n<=1000)(o:∀u∈c,u.oneCell'=true):rE rF 106 #[U d n b] w λe m=>∃(i:rB) (s:Nat),e=j1 (U i n s)/\kt m w.heap.size 189 4 (U i n s) n c/\Ac [] w m:=by
 have k:=Ab h;have G:=Ab o;clear h o;have f:∀(w:jH),(binOp .eql 66 (U d n b) (U Y 0 0)).run rF w=.ok (.bool d.isNone) w:=λw=>Lib.run_eql_slice_nil w 66 189 d n b 0 0 underlying66
 cases d with
 |none=>
  simp only[Option.isNone_none]at f;obtain⟨rfl,rfl⟩:n=0/\b=0:=by
   rcases(Aa k).2 with⟨e,y⟩|⟨g,p,Q,e,_⟩
   .simp only[lU]at e;exact⟨y,e.2.2⟩
   .simp at e
  obtain rfl:c=[]:=ot (by have:=(Aa k).1;simpa using this);go_enter func106,ntmps106;go_wp2;go_ret;exact⟨Y,0,rfl,mw _ _ _ _,kR _ _⟩
 |some a=>
  simp only[Option.isNone_some]at f;obtain⟨B,P,x,A,C⟩:=mW Tryz.zq;obtain⟨N,j⟩:=kQ w.heap.size;have E:=Ab j;have l:World.ownsRow (w.alloc (Y6 #[] 189)) N 189 4 (U (V ⟨N,0,Y⟩) 0 0) 0 []:=by
   refine⟨ln,j3 ⟨N,0,#[],rfl,mt _,?_,mt _,lw,ln,ln⟩⟩;have h:=mG w (Y6 #[] 189 (0,0));rw[j]at h;exact h
  have v:World.ownsRow (w.alloc (Y6 #[] 189)) 0 189 4 (U (V a) n b) n c:=mg (Aa k) _;have z:=Ab ((kR [] w).alloc (Y6 #[] 189));have I:=Ab l;have L:=Ab v;have D:(w.alloc (Y6 #[] 189)).heap.size=N+1:=by rw[mJ,j]
  clear l v;go_enter func106,ntmps106;go_wp2_with (at_builtin;refine F4 _ rfl (.tmp 5) (.tmp 6) _ rfl N 189 B _ 4 72 underlying66 P x A C rfl lc (V ⟨N,0,Y⟩) 0 0 [] rfl (Aa I) 0 (V a) n b c rfl (Aa L) (Aa G) lw lc (by rw[D];omega) ?_;intro i p S r t F)
  have M:=Ab r;have H:=Ab ((Aa z).grown t (λq f=>j3 (by simp[Value.ownBlock]at f;have:=Aa E;omega)));clear r t F;go_ret;refine⟨i,p,ln,?_,H⟩;have h:=Aa M;simp only[m7,nk]at h;rw[j];exact h
def Jz(v:Value)(w:jH)(e:Ending)(w':jH):Prop:=∃b1:Nat,e=j1 (.func (.func 189) #[] #[jj (V ⟨b1,0,Y⟩)])/\AF w' b1 [v] 113/\w.heap.size<=b1/\Ac [] w w'
theorem WC(b n a w):rE rF 154 #[U b n a] w (Jz (U b n a) w):=by
 have c:Hid (Jz (U b n a) w (j1 (.func (.func 189) #[] #[jj (V ⟨w.heap.size,0,Y⟩)])) (w.alloc (Y6 #[U b n a] 113))):=⟨w.heap.size,rfl,kS w [U b n a] 113,mt _,(kR [] w).alloc _⟩;go_enter func154,ntmps154;go_wp2_with fail
 go_ret;exact c
theorem Zg(i g b n a w)(l:jY w ⟨i,g,Y⟩=V (U b n a)):rE rF 107 #[jj (V ⟨i,g,Y⟩)] w (Jz (U b n a) w):=by
 have f:=Ab (WC b n a w);go_enter func107,ntmps107;go_wp2_with fail
 refine f.G ?_;rintro _ k ⟨c,rfl,e,d,h⟩;have j:Hid (Jz (U b n a) w (j1 (.func (.func 189) #[] #[jj (V ⟨c,0,Y⟩)])) k):=⟨c,rfl,e,d,h⟩;clear f e d h;go_wp2_with fail
 go_ret;exact j
structure P6(b1:Nat)(sad:rB)(scp:Nat)(fs:kN D5)(M:kN Nat)(w:jH):Prop where
 e:jY w ⟨b1,0,Y⟩=V (U sad (Z fs) scp)
 row:kt w 0 104 2 (U sad (Z fs) scp) (Z fs) (qS AJ fs)
 apart:∀k∈M,k≠b1/\(U sad (Z fs) scp).ownBlock≠V k/\k<w.heap.size
def P6.grow{b}(h:P6 n o m b M w)(k:Ac [] w v):P6 n o m b M v:=
 ⟨k.cellAt h.e,Ad h.row k,λi a=>⟨(h.apart i a).1,(h.apart i a).2.1,nR (h.apart i a).2.2 k.size⟩⟩
def P6.round{f}{M g}(h:P6 n o m f M w)(k:Ac M w v)(d:∀i∈g,(i∈M\/w.heap.size<=i)/\i<v.heap.size):P6 n o m f g v:=by
 have j:=KV h.e;refine⟨I5 k h.e (λb=>(h.apart _ b).1 rfl),Ag h.row k (λq c b=>(h.apart q b).2.1 c),λi e=>⟨?_,?_,(d i e).2⟩⟩
 .rcases(d i e).1 with a|a
  .exact(h.apart i a).1
  .omega
 .rcases(d i e).1 with a|a
  .exact(h.apart i a).2.1
  .intro c;have:=(h.row.lt i c).2;omega
def iE{a:kN D5}(h:kt w 0 104 2 (U o (Z a) n) (Z a) (qS AJ a))(j b):
  ∃g,o=V ⟨g,0,Y⟩/\jY w ⟨g,j*2,Y⟩=V (O a[j].f.a)/\jY w ⟨g,j*2+1,Y⟩=V a[j].tv:=by
 obtain⟨g,l,i,_,k⟩:=Az h (λc _=>rfl) j b;simp only[lU]at i;have d:=k j b 0 lc;have e:=k j b 1 lc;exact⟨g,i.1,d,e⟩
theorem WL(y Bx BT a w A)(hB:P6 y Bx BT a A w)(AR:∀q∈a,∃ad n cp,q.tv=U ad n cp)(HF:Z a<=900000):K0 rF 189 #[jj (V ⟨y,0,Y⟩)] (λq=>#[ku (AJ q).toArray]) a A w:=by
 intro l z Jx W ES _ _ hJ HH hR B9;have D:=hB.grow ES;have c1:=D.e;have HB:=Ab D;have HJ:=Ab hJ;have HR:=Ab hR;have FC:=Ab AR;have A1:Hid (z (qT 0 a) A W):=B9;clear hB D hJ hR B9 ES AR;show rE rF 189 #[.func (.yield l) #[] #[],jj (V ⟨y,0,Y⟩)] W _;go_enter func189,ntmps189;go_wp2_with fail
 go_loopg [4,7] (Z a) (λgk bx i wr=>∃(k:Nat) (M:kN Nat),i=X .i64 k/\k<=Z a/\gk=Z a-k/\Hid (P6 y Bx BT a M wr)/\Hid (z (qT k a) M wr)/\Hid (W.heap.size<=wr.heap.size))
 case atStart=>exact⟨0,A,rfl,lc,rfl,HB,A1,mt _⟩
 case round=>
  clear HB A1 c1;obtain⟨k,M,rfl,hk,A2,F,B,B0⟩:=hrel;have HG:=Ab A2;clear A2;by_cases t:k<Z a
  .obtain⟨g,hg,e0,e1⟩:=iE F.row k t;subst hg;obtain⟨m,r,j,R⟩:=FC a[k] (lV t);rw[R]at e1;obtain⟨d,S⟩:=kQ (a[k].f.a);rw[S]at e0;have CC:Hid ((#[ku (AJ a[k]).toArray]:Array Value)=#[ku #[O d,U m r j]]):=by
    show _=_;unfold AJ;rw[S,R]
   have AH:Hid (qT k a++[a[k]]=qT (k+1) a):=by
    show _=_;rw[lW t]
   have CL:Hid (a=qT k a++a[k]::a.drop (k+1)):=by
    show _=_
    conv=>lhs;rw[<-ni k a]
    rw[mu t]
   obtain⟨HI,FP⟩:=rI (lc:k<Z a);have p:=Ab (kS wr [O d,U m r j] 104);have x:=Ab ((kR [] wr).alloc (Y6 #[O d,U m r j] 104));clear S R;refine kI (λo b=>?_);go_wp2;refine b _ _ ?_;clear b o;refine kI (λo b=>?_);go_wp2;refine b _ _ ?_;clear b o;refine kI (λK5 CW=>?_);refine wp_block ?_;refine kI (λo b=>?_);go_wp2;refine b _ _ ?_;clear b o;change Code.wp _ _ _ _ (wr.alloc (Y6 #[O d,U m r j] 104));generalize hw2:wr.alloc (Y6 #[O d,U m r j] 104)=w2 at p x|-;have BS:=p.lt;generalize wr.heap.size=N at p BS|-;have Q:=Ab (F.grow x);have G:Hid (z (qT k a) M w2):=Bz HJ (s:=(qT k a,M)) B x;have I:Hid (W.heap.size<=w2.heap.size):=mZ B0 x.size;obtain⟨C,T⟩:=p.c2;simp at C T;have H:YieldAt Fence.wide 0 rF l #[ku (AJ a[k]).toArray] w2 _:=HR _ _ _ M w2 CL G;rw[Aa CC,Aa AH]at H;have L:=Ab H;clear H;clear hw2 e0 e1 F B B0 x p BS CC AH CL;refine kI (λo b=>?_);refine Gz (n:=0) 2 lM (λK2 BA=>?_);simp only[oL,pk];go_wp2;refine BA _ _ ?_;clear BA K2;simp only[oW,pG];refine Iy (λ_=>trivial) rfl rfl (l:=l) (args:=#[ku #[O d,U m r j]]) lx sG L ?_;rintro e w4 (⟨rfl,E,u,P,AO⟩|⟨rfl,E,u,-⟩)
   .refine⟨_,rfl,Dj lM ?_⟩;simp only[kF,lR,lS,lT];have FW:=Ab (Q.round P AO);have Ax:=Ab u;have FT:Hid (W.heap.size<=w4.heap.size):=mZ I P.size;clear u P AO C T L Q G I;go_wp2;refine b _ _ ?_;clear b;go_wp2;refine CW _ _ ?_;clear CW;go_wp2
    go_roundg (Z a-(k+1))
    case measure=>exact qu
    case rel=>exact⟨k+1,E,ly,lc,rfl,FW,Ax,FT⟩
   .refine⟨_,rfl,Dj lM ?_⟩;simp only[kF,lR,lS,lT];have Ax:=Ab u;clear u C T L Q G I;go_wp2;refine b _ _ ?_;clear b;go_wp2;refine mF (pI rfl _ _ _) rfl ?_;exact⟨⟨_,rfl⟩,j3 ⟨_,E,Ax⟩⟩
  ·obtain rfl:k=Z a:=lc;have Go:Hid (z a M wr):=by
    have h:=Aa B;rw[nw]at h;exact h
   have FP:¬(Z a:Int)<(Z a:Int):=lc;clear B t;go_wp2;go_end0;exact⟨⟨_,rfl⟩,j2 ⟨M,Go⟩⟩
def Tj(f:CE)(c:CQ):Prop:=c.hp=0/\c.hn=f.a/\c.zA=f.dN.map J8/\c.bv=U Y 0 0/\c.ea=[]
structure lk(w:jH)(N:Nat)(pcs:kN CQ)(pre:kN D5)(M:kN Nat)(W:jH):Prop where
 C:Ac [] w W
 o:∃(ad:rB) (cp:Nat) (qs:kN CQ),AF W N [U ad (Z (pcs++qs)) cp] 66/\kt W w.heap.size 189 4 (U ad (Z (pcs++qs)) cp) (Z (pcs++qs)) (qS Ba (pcs++qs))/\(∀c∈qs,kt W w.heap.size 215 2 c.hv (Z c.zA) (qS Ar c.zA))/\F2 Tj (pre.map D5.f) qs/\M=N::qV (qW (U ad (Z (pcs++qs)) cp))
def lk.own{N B}(l:w.heap.size<=B):OwnFrom B (fun(s:kN D5×kN Nat) W=>lk w N p s.1 s.2 W):=
 BF (λs W n M h k a=>by
  obtain⟨m,j,g,d,b,e,i⟩:=h.o
  exact⟨DK h.C k a l,m,j,g,d.C k (CZ a d),Ag b k (BY a b),λc f=>Ag (e c f) k (BY a (e c f)),i⟩)
def RX(pcs:kN CQ)(fs:kN D5)(w:jH)(e:Ending)(w':jH):Prop:=∃(ad:rB) (cp:Nat) (qs:kN CQ),e=j1 (U ad (Z (pcs++qs)) cp)/\CA w' (U ad (Z (pcs++qs)) cp) (pcs++qs)/\F2 Tj (fs.map D5.f) qs/\Ac [] w w'
def jo{c}(h:JG w 0 c.hv c.bv c.zA c.ea):∀u∈Ba c,u.oneCell'=true:=by
 obtain⟨i,g,b⟩:=Aj h.E;obtain⟨e,f,d⟩:=Aj h.body.row;intro u a;unfold Ba at a;rw[b,d]at a;simp at a;rcases a with rfl|rfl|rfl|rfl<;>rfl
theorem SH(sb so HZ HT)(a:kN CQ)(CC B9)(A:kN D5)(w)(hP:CA w (U HZ (Z a) HT) a)(r:jY w ⟨sb,so,Y⟩=V (U CC (Z A) B9))(hF:Ic w (U CC (Z A) B9) A)(VS:Z a<=12)(VL:Z A<=300):rE rF 63 #[U HZ (Z a) HT,jj (V ⟨sb,so,Y⟩)] w (RX a A w):=by
 have MB:=Ab (bJ HZ HT (Z a) _ w hP.row lc (λu hu=>by obtain⟨c,r,hu⟩:=mH.1 hu;exact jo (hP.j c r) u hu));have M0:Hid (∀g,Ac [] w g->rE rF 107 _ g _):=λg y=>Zg sb so CC (Z A) B9 g (y.cellAt r)
 have NA:Hid (∀(j:bN) (S:kN bN) (FC:rB) (FF:Nat) g,(⟨_,_⟩:D5)∈A->Ac [] w g->rE rF 108 _ g _):=λj S FC FF g hm y=>U5 j S FC FF g ((hF.j _ hm).1.C y) (hF.j _ hm).2
 have HP:=Ab hP;have HF:=Ab hF;have VR:=KV r;obtain⟨i0,SB,NS,S1,RI⟩:=mW Tryz.zq;clear hP hF r;refine Eb func63 rfl ?_;simp only[ntmps63,nu,mn,mI,Nat.reduceAdd,Nat.reduceSub,oF,oG,oX,oM,nk,nS];have HX:¬LetsOut (bodyPostM _ 0 rF Tryz.f63 (RX a A w)):=Pg (λ_ ⟨_,_,_,h,_⟩=>oj);obtain⟨QQ,HW⟩:=kQ (bodyPostM Fence.wide 0 rF Tryz.f63 (RX a A w));have Os:=Ab HW;rw[HW]at HX|-;have UO:=Ab HX;clear HW HX;refine kI (λK1 Ax=>?_);go_wp2;refine Ax _ _ ?_;clear Ax K1;refine kI (λK1 Ax=>?_);go_wp2_with fail
 refine MB.G ?_;rintro _ w1 ⟨Q,H,rfl,MY,E⟩;have LL:=Ab MY;have MN:=Ab E;clear MB MY E;go_wp2_with fail
 refine Ax _ _ ?_;clear Ax K1;have FO:=Ab (kS w1 [U Q (Z a) H] 66);have HA:=Ab ((kR [] w1).alloc (Y6 #[U Q (Z a) H] 66));change Code.wp _ _ _ _ (w1.alloc (Y6 #[U Q (Z a) H] 66));generalize w1.alloc (Y6 #[U Q (Z a) H] 66)=w2 at FO HA|-;obtain⟨N,hN⟩:=kQ w1.heap.size;rw[hN]at FO|-;have L0:w.heap.size<=N:=by have:=MN.size;omega
 have NL:=FO.lt;have FA:=Ab (MN.H HA);have OH:Hid (lk w N a [] (N::qV (qW (U Q (Z a) H))) w2):=by
  refine⟨FA,Q,H,[],?_,?_,(λc r=>by cases r),F2.nil,?_⟩
  .rw[mQ];exact FO
  .rw[mQ];exact Ad LL HA
  .rw[mQ]
 have M1:=Ab (M0 w2 FA);clear M0;refine kI (λK1 Ax=>?_);refine kI (λK2 K6=>?_);go_wp2_with fail
 refine M1.G ?_;rintro _ w3 ⟨b1,rfl,BT,H9,k3⟩;have RT:=Ab BT;have Op:=Ab H9;have ES:=Ab k3;clear M1 BT H9 k3;go_wp2_with fail
 refine K6 _ _ ?_;clear K6 K2;refine wp_block ?_;have K7:Hid (lk w N a [] (N::qV _) w3):=Bz (lk.own (mt _)) (s:=([],N::qV _)) OH ES;have K8:Hid (∀k∈N::qV (qW (U Q (Z a) H)),w.heap.size<=k/\k<w2.heap.size):=by
  intro k y;rcases l9.1 y with rfl|y
  .exact lc
  .have F:=LL.lt k (by simpa using y);exact lc
 have Pl:Hid (P6 b1 CC B9 A (N::qV (qW (U Q (Z a) H))) w3):=by
  have F:=RT.D 0;refine⟨F,(Ic.C HF (FA.H ES)).row,λk y=>?_⟩;have h2:=K8 k y;have h3:=ES.size;have h4:=Aa Op;refine⟨lc,λhs=>?_,lc⟩;have:=(HF.row.lt k hs).2;omega
 have NY:=WL b1 CC B9 A w3 _ Pl (λq o=>by obtain⟨ad,cp,e⟩:=Aj (HF.j q o).1;exact⟨ad,_,cp,e⟩) lc;refine Ik (T:=104) (q:=6) rfl (enters_of func189 lo rfl) NY (λk y=>by have:=K8 k y;have:=ES.size;omega) _ (λ_ _ _ _=>False) (lk.own (by have:=ES.size;omega)) (λ_ _ _ _ _ h _ _=>h) K7 ?assign ?body ?done ?stop
 case assign=>
  intro l x W A0 hx HK;obtain⟨⟨j,m⟩,xv⟩:=x;obtain⟨I,P,EK⟩:=Aj (HF.j _ hx).1;simp at EK;subst EK;simp only[AJ]at HK|-;refine AM lx (G8 FY) ?_;go_wp2;refine HK _ ((kR [] W).alloc _) ?_;exact kS W _ 104
 case body=>
  intro l Bx NX x T0 M W HV hi hM WW hB;have hx:x∈A:=by rw[HV];simp
  obtain⟨⟨j,m⟩,xv⟩:=x;obtain⟨I,P,EK⟩:=Aj (HF.j _ hx).1;simp at EK;subst EK;obtain⟨B,C,z,F,h2,h3,h4,h5⟩:=hi.o;simp only[AJ]at hB|-;have WB:Z z<=300:=by
   have e1:=h4.lenX;have e2:=rk List.length HV;simp at e1 e2;omega
  have IJ:=Ab (NA j m I P _ hx hi.C.drew);have HM:=Ab hi.C;have NV:=Ab hB;have H1:=Ab F;have H2:=Ab h2;have H3:=Ab h3;have H4:=Ab h4;have H5:=Ab h5;obtain⟨JA,hX⟩:∃JA:D5,JA=⟨⟨j,m⟩,U I (Z m) P⟩:=⟨_,rfl⟩;have ST:=Ab hX;rw[<-hX]at HV|-;obtain⟨L,hL⟩:=kQ (Z (a++z));have N0:=Ab hL;have U0:L<=1000:=by rw[<-hL,mp];omega
  rw[hL]at H1 H2 H5;clear hx hi hB F h2 h3 h4 h5 hM hX hL;have EY:Hid (∀g,Ac [] W g->AF g N _ 66/\AF g Bx _ 104):=λg y=>⟨H1.C y,NV.C y⟩
  have Df:Hid (∀g,AF g N [U B L C] 66/\AF g Bx [O j,U I (Z m) P] 104->jY g _=V _/\jY g _=V (O j)/\jY g _=V _):=λg h=>by
   have a1:=h.1.D 0;have a2:=h.2.D 0;have a3:=h.2.D 1;exact⟨a1,a2,a3⟩
  have LD:=Ab (Df _ (EY _ (kR [] W).drew));simp;refine wpIn_block ?_;refine DZ 5 (λg=>jY g ⟨N,0,Y⟩=V (U B L C)/\jY g ⟨Bx,0,Y⟩=V (O j)/\jY g ⟨Bx,1,Y⟩=V (U I (Z m) P)) lo lx lB ?_;refine Cw.tq (i:=0) (v:=U B L C) rfl (λ_ _ _ h=>h) LD ?_;simp only[kF,lR,lS,lT];refine Cw.tq (i:=1) (v:=ku #[O j,U I (Z m) P]) rfl (λ_ _ _ h=>h) LD ?_;simp only[kF,lR,lS,lT];refine Cw.one (i:=2) lo rfl (λA0 G=>?_)
  go_simp
  refine IJ.G ?_;rintro _ R ⟨BA,A2,rfl,H7,TH⟩;have RV:=Ab H7;clear H7 IJ;have E:=(kR [] W).drew.H TH;refine G.o _ _ (λ_=>Df _ (EY _ E)) ?_;clear G A0
  try simp only[kF,lR,lS,lT]
  refine Cw.one (i:=3) lo rfl (λA0 G=>?_)
  go_simp
  have k2:=E.alloc (Y6 #[X .i64 0,O j,U BA (Z m) A2,U Y 0 0] 189);refine G.o _ _ (λ_=>Df _ (EY _ k2)) ?_;clear G A0
  try simp only[kF,lR,lS,lT]
  have Go:=Ad H2 E;have U1:w.heap.size<=R.heap.size:=by have:=HM.size;have:=E.size;omega
  refine Cw.one (i:=4) lo rfl (λA0 G=>?_);refine oJ _ lx _ _ _ lx _ 189 i0 _ 4 72 underlying66 SB NS S1 RI rfl lc _ L _ lx (mg Go _)
   _ 1 1 [X .i64 0,O j,U BA (Z m) A2,U Y 0 0] lx lx (mz (mG R _)) lC
   lc lw lc li (R.heap.size+1) ln ?_
  intro gg HD u3 HJ FT QR WS;have K5:∀{b:Nat} {cs:kN Value} {t:TypeId},AF R b cs t->189≠t->(U B L C).ownBlock≠V b:=λhb M3=>Ap Go hb M3
  have BT:=Aa EY R E;have KK:AF u3 N _ 66/\AF u3 Bx _ 104:=⟨(BT.1.alloc _).grown FT (K5 BT.1 lu),(BT.2.alloc _).grown FT (K5 BT.2 lu)⟩;have B2:=KK.1;have kM:Ac (N::qV _) W u3:=((E.G ln).alloc _).grown FT (λq o=>j2 (mP _ (by simpa using o)));refine G.o _ _ (λ_=>Df _ KK) ?_;clear G A0
  try simp only[kF,lR,lS,lT]
  have c8:=B2.D 0;have f8:=B2.qI 0;simp at c8;refine Cw.one (i:=5) lo rfl (λA0 G=>?_)
  go_simp
  refine G.o _ _ (λh=>rl rfl h) ?_;clear G A0;refine Cw.done lo ?_ _;have FP:=Aa H5;have K9:Ac M W (u3.setCell ⟨N,0,Y⟩ (U (V ⟨gg,0,Y⟩) (L+1) HD)):=by
   rw[FP];exact kM.setCell (p:=⟨N,0,Y⟩) (j2 (m9 ..)) _
  have SP:∀q∈M,w.heap.size<=q:=by
   intro q o;rw[FP]at o;rcases l9.1 o with rfl|o
   .exact L0
   .exact(Go.lt q (by simpa using o)).1
  have LE:∀{b e sz n:Nat} {v:Value} {ys:kN Value},kt R b e sz v n ys->e≠189->e≠66->kt (u3.setCell ⟨N,0,Y⟩ (U (V ⟨gg,0,Y⟩) (L+1) HD)) b e sz v n ys:=fun{b e sz n v ys} hr F h2=>by
   have KA:=nF (v:=v) (mg (v:=v) hr _) FT (by
    cases hpo:v.ownBlock with
    |none=>exact j2 rfl
    |some q=>exact j3 (λe=>Be hr Go F q hpo e.symm))
   exact Ah KA (Ap KA B2 h2) _
  have HQ:Z (a++(z++[(⟨0,j,m.map J8,U BA (Z m) A2,U Y 0 0,[]⟩:CQ)]))=L+1:=by rw[<-mY,mp,Aa N0];rfl
  refine⟨K9,N::[gg],⟨HM.trans' K9 (λq o=>j3 (SP q o)),V ⟨gg,0,Y⟩,HD,z++[⟨0,j,m.map J8,U BA (Z m) A2,U Y 0 0,[]⟩],?_,?_,?_,?_,?_⟩,?_⟩
  .rw[HQ];exact B2.set 0 _
  .rw[HQ,<-mY,mD];have h:=Ah HJ (Ap HJ B2 lu) (p:=⟨N,0,Y⟩) (U (V ⟨gg,0,Y⟩) (L+1) HD);exact h
  .intro c r;rcases mi.1 r with h|h
   .exact LE (Ad (H3 c h) E) lu lu
   .simp at h;subst h;rw[mh];exact LE (Ak RV (by have:=HM.size;show w.heap.size<=W.heap.size;omega)) lu lu
  .rw[mO];refine F2.snoc H4 ?_;rw[Aa ST];exact⟨rfl,rfl,rfl,rfl,rfl⟩
  .rw[HQ];rfl
  .intro q o;have h3:=B2.lt;rcases l9.1 o with rfl|o
   .exact⟨j2 (by rw[FP];exact m9 ..),li⟩
   .simp at o;subst o;refine⟨?_,li⟩;rcases QR with h|h
    .exact j2 (by rw[FP];exact mP _ (by rw[h];simp))
    .exact j3 (by have:=E.size;omega)
 case done=>
  intro D M' W hD hi hd _;obtain⟨B,C,z,F,h2,h3,h4,h5⟩:=hi.o;have c9:=F.D 0;refine Ax _ _ ?_;have SS:=Ab h2;have N2:=Ab h3;have IS:=Ab h4;have Nx:=Ab hi.C;obtain⟨L,hL⟩:=kQ (Z (a++z));have HL:=Ab hL;rw[mp]at hL;refine kI (λK3 IA=>?_);go_wp2;refine IA _ _ ?_;refine wp_ret ?_;rw[<-Aa Os];have SL:OwnFrom _ (fun(_:Unit) W=>kt W w.heap.size 189 4 (U B (Z (a++z)) C) (Z (a++z)) (qS Ba (a++z))/\(∀c∈z,kt W w.heap.size 215 2 c.hv (Z c.zA) (qS Ar c.zA))/\Ac [] w W):=BF (λ_ W W' M h k hM=>⟨Ag h.1 k (BY hM h.1),λc r=>Ag (h.2.1 c r) k (BY hM (h.2.1 c r)),DK h.2.2 k hM (mt _)⟩);have JJ:Dy w.heap.size [D] W:=⟨ln,λd FB=>by simp at FB;have:=K7.C.size;omega,λd FB=>qr⟩;refine Dh [D] W JJ (λw' hs=>?_);obtain⟨g1,g2,g3⟩:=hs.own SL (s:=()) JJ ⟨SS,N2,Nx⟩;refine⟨_,results_tmp rfl _ _ _,B,C,z,li,⟨Ak g1 (mr _),λc r=>?_⟩,IS,g3⟩;rcases mi.1 r with h|h
  .exact(HP.j c h).C g3
  .obtain⟨f,_,hf⟩:=IS.mem c h;refine⟨Ak (g2 c h) (mr _),?_⟩;rw[hf.2.2.2.1,hf.2.2.2.2];exact⟨mw _ _ _ _,λp hp=>by cases hp⟩
 case stop=>
  exact ln
end
section
variable{k n m i j:Nat}{w u v:jH}{f:kN Ae}{M:kN Nat}
def fG{α:Type}(l:kN α):Nat->kN α
 |0=>l
 |k+1=>match l[k]?,l[Z l-1-k]? with
  |some a,V b=>((fG l k).set k b).set (Z l-1-k) a
  |_,_=>fG l k
def Ir{α}(l:kN α):∀k,Z (fG l k)=Z l
 |0=>rfl
 |k+1=>by
  rw[fG];split
  .rw[nO,nO,Ir l k]
  .exact Ir l k
def Xx{α}(l:kN α)(b a):fG l (k+1)=((fG l k).set k l[Z l-1-k]).set (Z l-1-k) l[k]:=by
 rw[fG,mc b,mc a]
def VX{α}(l:kN α):∀k,2*k<=Z l->∀i,i<Z l->(fG l k)[i]?=if i<k\/Z l-k<=i then l[Z l-1-i]? else l[i]?
 |0,_,i,hi=>by
  rw[mm lc];rfl
 |k+1,hk,i,hi=>by
  rw[Xx l lc lc];by_cases b:i=Z l-1-k
  .subst b;rw[nG (by rw[nO,Ir];omega),mo lc,show Z l-1-(Z l-1-k)=k by omega,mc]
  .rw[ng lc];by_cases c:i=k
   .subst c;rw[nG (by rw[Ir];omega),mo lc,mc]
   .rw[ng lc,VX l k lc i hi];by_cases a:i<k\/Z l-k<=i
    .rw[mo a,mo lc]
    .rw[mm a,mm lc]
def jp{α}(l:kN α)(c:2*k<=Z l)(d:Z l<=2*k+1):fG l k=l.reverse:=by
 apply List.ext_getElem?;intro i;by_cases a:i<Z l
 .rw[VX l k c i a,List.getElem?_reverse a];by_cases b:i<k\/Z l-k<=i
  .rw[mo b]
  .rw[mm b,show Z l-1-i=i by omega]
 .rw[List.getElem?_eq_none (by rw[Ir];omega),List.getElem?_eq_none li]
def aw(l:kN (Nat×Vn)):Z (qS Cl l)=4*Z l:=by
 induction l with
 |nil=>rfl
 |cons a l ih=>rw[mB,mp,ih,mn];simp[Cl,Lh];omega
def Z3(l:kN (Nat×Vn))(k a)(c:a<4):(qS Cl l)[4*k+a]?=(l[k]?).bind λp=>(Cl p)[a]?:=by
 induction l generalizing k with
 |nil=>simp
 |cons p l ih=>
  rw[mB];have b:Z (Cl p)=4:=rfl;cases k with
  |zero=>rw[List.getElem?_append_left lc];simp
  |succ k=>
   rw[oU lc,b,show 4*(k+1)+a-4=4*k+a by omega,ih k];simp
def ah(l:kN (Nat×Vn))(k)(c:k<Z l)(p):qS Cl (l.set k p)=((((qS Cl l).set (4*k) (O p.2.f.f.a)).set (4*k+1) p.2.f.tv).set (4*k+2) (X J p.1)).set (4*k+3) p.2.n:=by
 apply List.ext_getElem?;intro i;have b:i=4*(i/4)+i%4:=lc
 have a:i%4<4:=Nat.mod_lt _ lc;have m:=aw l;by_cases d:i/4=k
 .have e:((qS Cl (l.set k p))[i]?)=(Cl p)[i%4]?:=by
   rw[b,Z3 _ _ _ lc,show(4*(i/4)+i%4)%4=i%4 by omega,d,nG c];rfl
  rw[e];have g:i%4=0\/i%4=1\/i%4=2\/i%4=3:=lc
  have j:4*k+4<=Z (qS Cl l):=lc
  rcases g with h|h|h|h
  .rw[h,ng lc,ng lc,ng lc,show i=4*k by omega,nG lc];rfl
  .rw[h,ng lc,ng lc,show i=4*k+1 by omega,nG (by simp only[nO];omega)];rfl
  .rw[h,ng lc,show i=4*k+2 by omega,nG (by simp only[nO];omega)];rfl
  .rw[h,show i=4*k+3 by omega,nG (by simp only[nO];omega)];rfl
 .rw[ng lc,ng lc,ng lc,ng lc,b,Z3 _ _ _ a,Z3 _ _ _ a,ng lc]
set_option maxRecDepth 100000
theorem WN(F m l)(b:kN (Nat×Vn))(w)(hR:kt w F 176 4 (U m (Z b) l) (Z b) (qS Cl b))(HZ:Z b<=900000)(EX:∀p∈b,(∃a n c,p.2.f.tv=U a n c)/\∃a n c,p.2.n=U a n c):rE rF 146 #[U m (Z b) l] w λr w'=>(∃v,r=.returned v)/\kt w' F 176 4 (U m (Z b) l) (Z b) (qS Cl b.reverse)/\Ac (qV (qW (U m (Z b) l))) w w':=by
 have HR:=Ab hR;have E0:=Ab EX;have mixed:rF.follows .mixedOrders=true:=lo
 clear hR EX;go_enter func146,ntmps146;have FB:jV (kt w F 176 4 _ (Z b) (qS Cl (fG b 0))):=HR;go_wp2_with fail
 go_loopg [2,3] (Z b) (λgk i jv wr=>∃(k:Nat),i=X J k/\jv=X J ((Z b:Int)-1-k)/\2*k<=Z b/\gk=Z b-k/\jV (kt wr F 176 4 (U m (Z b) l) (Z b) (qS Cl (fG b k)))/\jV (Ac (qV (qW (U m (Z b) l))) w wr))
 case atStart=>exact⟨0,rfl,ly,lc,rfl,FB,kR _ _⟩
 case round=>
  clear FB;obtain⟨k,rfl,rfl,hk,FC,HW,HK⟩:=hrel;have HG:=Ab FC;clear FC;by_cases H0:2*k+1<Z b
  .obtain⟨j,hj⟩:=kQ (Z b-1-k);have HI:(Z b:Int)-1-k=j:=lc;rw[HI];(have S:k<Z (fG b k):=by rw[Ir];omega);(have P:j<Z (fG b k):=by rw[Ir];omega);have d:=Aa HW;rw[<-Ir b k]at d;obtain⟨g,hg,a0,a1,a2,a3⟩:=Kd (Ak d (mr _)) k S;obtain⟨g',AR,b0,b1,b2,W⟩:=Kd (Ak d (mr _)) j P;rw[hg]at AR;simp only[lZ,mR]at AR;obtain⟨rfl,-,-⟩:=AR;subst hg;have H4:=d.frozenAt (k*4);have H7:=d.frozenAt (k*4+1);have HX:=d.frozenAt (k*4+2);have H1:=d.frozenAt (k*4+3);have H9:=d.frozenAt (j*4);have H3:=d.frozenAt (j*4+1);have H6:=d.frozenAt (j*4+2);have HU:=d.frozenAt (j*4+3);have EM:(fG b k)[k]=b[k]:=by
    have h:=VX b k hk k lc;rw[mm lc,mc S,mc lc]at h;simpa using h
   have FL:(fG b k)[j]=b[j]:=by
    have h:=VX b k hk j lc;rw[mm lc,mc P,mc lc]at h;simpa using h
   rw[EM]at a0 a1 a2 a3;rw[FL]at b0 b1 b2 W;obtain⟨A,Q⟩:=kQ (b[k]);obtain⟨B,R⟩:=kQ (b[j]);have HA:jV (fG b (k+1)=((fG b k).set k B).set j A):=by
    show _=_;have h:=Xx b (lc:k<Z b) lc;simp only[hj]at h;rw[h,Q,R]
   rw[Q]at a0 a1 a2 a3;rw[R]at b0 b1 b2 W;obtain⟨t,A1⟩:∃x,A.2.f.f.a=x:=⟨_,rfl⟩;obtain⟨⟨I,y,M,BT⟩,z,o,G,B9⟩:=E0 A (by rw[<-Q];exact lV _);obtain⟨⟨D,E,C,T⟩,q,H,s,AH⟩:=E0 B (by rw[<-R];exact lV _);obtain⟨N,AB⟩:∃x,A.1=x:=⟨_,rfl⟩;obtain⟨u,CC⟩:∃x,B.2.f.f.a=x:=⟨_,rfl⟩;obtain⟨L,Bx⟩:∃x,B.1=x:=⟨_,rfl⟩;have FO:jV (A.2.f.f.a=t/\A.2.f.tv=U I y M/\A.1=N/\A.2.n=U z o G):=⟨A1,BT,AB,B9⟩;have HT:jV (B.2.f.f.a=u/\B.2.f.tv=U D E C/\B.1=L/\B.2.n=U q H s):=⟨CC,T,Bx,AH⟩;rw[A1]at a0;rw[BT]at a1;rw[AB]at a2;rw[B9]at a3;rw[CC]at b0;rw[T]at b1;rw[Bx]at b2;rw[AH]at W;have H5:=rJ k;have HB:(k:Int)<j:=lc;have HV:(k:Int)<Z b:=lc;have H2:(j:Int)<Z b:=lc;have H8:=rJ j;have Ha:jV (kt ((((((((wr.setCell ⟨g,k*4,Y⟩ (O u)).setCell ⟨g,k*4+1,Y⟩ (U D E C)).setCell ⟨g,k*4+2,Y⟩ (X J L)).setCell ⟨g,k*4+3,Y⟩ (U q H s)).setCell ⟨g,j*4,Y⟩ (O t)).setCell ⟨g,j*4+1,Y⟩ (U I y M)).setCell ⟨g,j*4+2,Y⟩ (X J N)).setCell ⟨g,j*4+3,Y⟩ (U z o G)) F 176 4 (U (V ⟨g,0,Y⟩) (Z b) l) (Z b) (qS Cl (fG b (k+1)))):=by
    (have HE:j<Z ((fG b k).set k B):=li);have h:=(BO (BO (BO (BO (BO (BO (BO (BO d (4*k) (O u)) (4*k+1) (U D E C)) (4*k+2) (X J L)) (4*k+3) (U q H s)) (4*j) (O t)) (4*j+1) (U I y M)) (4*j+2) (X J N)) (4*j+3) (U z o G));have e:qS Cl (fG b (k+1))=((((((((qS Cl (fG b k)).set (4*k) (O u)).set (4*k+1) (U D E C)).set (4*k+2) (X J L)).set (4*k+3) (U q H s)).set (4*j) (O t)).set (4*j+1) (U I y M)).set (4*j+2) (X J N)).set (4*j+3) (U z o G):=by
     obtain⟨p1,p2,p3,p4⟩:=FO;obtain⟨q1,q2,q3,q4⟩:=HT;rw[Aa HA,ah _ _ HE,ah _ _ S,p1,p2,p3,p4,q1,q2,q3,q4]
    rw[e];rw[Ir]at h;simp only[Nat.mul_comm 4]at h|-;exact h
   have HL:jV _:=((((((((HK.setCell (p:=⟨g,k*4,Y⟩) (j2 sw) (O u)).setCell (p:=⟨g,k*4+1,Y⟩) (j2 sw) (U D E C)).setCell (p:=⟨g,k*4+2,Y⟩) (j2 sw) (X J L)).setCell (p:=⟨g,k*4+3,Y⟩) (j2 sw) (U q H s)).setCell (p:=⟨g,j*4,Y⟩) (j2 sw) (O t)).setCell (p:=⟨g,j*4+1,Y⟩) (j2 sw) (U I y M)).setCell (p:=⟨g,j*4+2,Y⟩) (j2 sw) (X J N)).setCell (p:=⟨g,j*4+3,Y⟩) (j2 sw) (U z o G));have HH:=Ab (Ad Ha (kR [] _).drew);have HM:=Ab HL.drew;clear d EM FL Q R A1 BT AB B9 CC T Bx AH HW S P;go_wp2_with fail
   go_region_o
   all_goals go_wp2
   go_roundg (Z b-(k+1))
   case measure=>exact qu
   case rel=>exact⟨k+1,rk (X J) lc,rk (X J) lc,lc,rfl,HH,HM⟩
  .have FT:jV (kt wr F 176 4 (U m (Z b) l) (Z b) (qS Cl b.reverse)):=by
    have h:=Aa HW;rw[jp b hk lc]at h;exact h
   go_wp2;go_end0;exact⟨⟨_,rfl⟩,FT,HK⟩
structure dF(w w5:jH)(NB RB:Nat)(sts:kN (Nat×Vn))(T:kN Ae)(A:kN Df)(Nd:kN Ae)(M:kN Nat)(W:jH):Prop where
 C:Ac [] w W
 j:∀p∈sts,LK W p.2
 sub:∀f∈Nd,f∈T
 o:∃(nad:rB) (ncp:Nat) (ns:kN D5) (rad:rB) (rcp:Nat) (rs:kN (Nat×Vn)),
  AF W NB [U nad (Z ns) ncp] 115/\Ic W (U nad (Z ns) ncp) ns/\CJ ns Nd/\
  (∀q,(U nad (Z ns) ncp).ownBlock=V q->w.heap.size<=q/\∀p∈sts,p.2.n.ownBlock≠V q)/\
  AF W RB [U rad (Z rs) rcp] 137/\kt W w5.heap.size 176 4 (U rad (Z rs) rcp) (Z rs) (qS Cl rs)/\
  rs.map (λp=>(p.1,p.2.f.f))=A.map (λh=>(h.1,Bn h.2.E))/\(∀p∈rs,p∈sts)/\
  M=NB::RB::(qV (qW (U nad (Z ns) ncp))++qV (qW (U rad (Z rs) rcp)))
def dF.own{r}{st:kN Nat->kN Df×kN Ae}(E:w.heap.size<=i):OwnFrom i (fun(s:kN Nat×kN Nat) W=>dF w u n m r f (st s.1).1 (st s.1).2 s.2 W):=
 BF (λs W G M h k a=>by
  obtain⟨o,A,t,F,x,C,e,b,D,y,g,l,z⟩:=h.o
  refine⟨DK h.C k a E,λp c=>(h.j p c).map (λq d=>Ag (v:=q.tv) d k (BY (v:=q.tv) a d)) (λj=>Ag j k (BY a j)),h.sub,o,A,t,F,x,C,e.C k (CZ a e),⟨Ag b.row k (BY a b.row),λp c=>⟨Ag (v:=p.tv) (b.j p c).1 k (BY (v:=p.tv) a (b.j p c).1),(b.j p c).2⟩⟩,D,y,g.C k (CZ a g),Ag l k (BY a l),z⟩)
def dF.calm{c}{A}{a}{W b}(h:dF w v n m c f A a M W)(k:Ac [] W b):dF w v n m c f A a M b:=
 Bz (dF.own (st:=λ_=>(A,a)) (mt w.heap.size)) (s:=([],M)) h k
def dF.lt{w l}{g j}{c}{T}{A}{f}{M}{W}(h:dF w l g j c T A f M W):∀k∈M,k<W.heap.size:=by
 obtain⟨m,r,n,v,o,s,d,b,u,p,e,i,q,t,rfl⟩:=h.o;intro k a;simp at a;rcases a with rfl|rfl|a|a
 .exact d.lt
 .exact e.lt
 .exact(b.row.lt k a).2
 .exact(i.lt k a).2
structure TW(M:kN Nat)(W:jH)(M2:kN Nat)(wz:jH):Prop where
 C:Ac M W wz
 mem:∀k∈M2,(k∈M\/W.heap.size<=k)/\k<wz.heap.size
def TW.step{M c e}(h:TW M w c v)(k:Ac c v u)(d:∀q∈e,(q∈c\/v.heap.size<=q)/\q<u.heap.size):TW M w e u:=by
 refine⟨h.C.trans' k (λq a=>(h.mem q a).1),λq a=>⟨?_,(d q a).2⟩⟩;rcases(d q a).1 with b|b
 .exact(h.mem q b).1
 .exact j3 (mZ h.C.size b)
def fY{R:kN Df}(b a):qU G7 a (qT (j+1) R)=G7 (qU G7 a (qT j R)) R[j]:=by
 rw[lW b,m6];rfl
def Ri:∀(R:kN Df) (a),Z (qU G7 a R).1<=Z a.1+Z R
 |[],a=>ln
 |h::R,a=>by
  have b:=Ri R (G7 a h);have c:Z (G7 a h).1<=Z a.1+1:=by
   unfold G7;split
   .simp
   .omega
  exact li
def jc{a d:kN Nat}(h:(List.range n).reverse=a++m::d):Z a<n/\m=n-1-Z a:=by
 have c:=rk List.length h;simp at c;have b:=rk (λl=>l[Z a]?) h;rw[List.getElem?_reverse li,List.length_range,List.getElem?_range lc]at b;exact qr
theorem gG(lad lcp)(d6:kN CQ)(rcs F fp w)(hP:CA w (U lad (Z d6) lcp) d6)(hB:Ia d6 rcs)(hf:fp.f=Bn F)(hc:AG F)(i4:C6 w fp)(o0:Z fp.f.dN<=1000):rE rF 98 #[U lad (Z d6) lcp,.agg (AJ fp).toArray] w λr w'=>∃(ad:rB) (cp:Nat) (o:kN (Nat×Vn)) (s:kN Ae) (E:kN Df) (L:bN->Nat) (N:Nat),r=.returned (U ad (Z o) cp)/\kt w' 0 176 4 (U ad (Z o) cp) (Z o) (qS Cl o)/\(∀p∈o,C6 w' p.2.f/\Z p.2.f.f.dN<=1000/\∃a n c,p.2.n=U a n c)/\o.map (λp=>(p.1,p.2.f.f))=(IT E F).map (λh=>(h.1,Bn h.2.E))/\ZP rcs E s/\CP rcs L/\Hu rcs L N s/\(∀c∈rcs,L c.E.a<N)/\Ac [] w w':=by
 obtain⟨i0,C1,D2,x9,z9⟩:=mW Tryz.zn;obtain⟨⟨fn,S⟩,D0⟩:=fp;obtain⟨a9,a7,e⟩:=Aj i4;simp at e hf o0;subst e;simp only[AJ];obtain⟨N,hN⟩:=kQ w.heap.size;have HN:=Ab hN;have l6:=Ab (((kR [] w).alloc (Y6 #[O fn,U a9 (Z S) a7] 104)).alloc (Y6 #[U Y 0 0] 115));have b7:=Ab ((kS w [O fn,U a9 (Z S) a7] 104).alloc (Y6 #[U Y 0 0] 115));have i9:=Ab (kS (w.alloc (Y6 #[O fn,U a9 (Z S) a7] 104)) [U Y 0 0] 115);rw[mJ]at i9;have z8:=Ab i4;have HF:=Ab hf;have HC:=Ab hc;have x5:jV (Z S<=1000):=o0;have B6:=Ab hP;have p2:=Ab hB;obtain⟨QQ,o7⟩:=kQ (KQ (bodyPostM Fence.wide 0 rF Tryz.f98 λr w'=>∃(ad:rB) (cp:Nat) (o:kN (Nat×Vn)) (s:kN Ae) (E:kN Df) (L:bN->Nat) (N:Nat),r=.returned (U ad (Z o) cp)/\kt w' 0 176 4 (U ad (Z o) cp) (Z o) (qS Cl o)/\(∀p∈o,C6 w' p.2.f/\Z p.2.f.f.dN<=1000/\∃a n c,p.2.n=U a n c)/\o.map (λp=>(p.1,p.2.f.f))=(IT E F).map (λh=>(h.1,Bn h.2.E))/\ZP rcs E s/\CP rcs L/\Hu rcs L N s/\(∀c∈rcs,L c.E.a<N)/\Ac [] w w'));have z6:=Ab o7;clear i4 hf hc hP hB hN o0;refine Eb func98 rfl (GD ?_);rw[o7];clear o7;simp only[ntmps98,nu,mn,mI,Nat.reduceAdd,Nat.reduceSub,oF,oG,oX,oM,nk,nS];refine kI (λKK a3=>?_);go_wp2;refine a3 _ _ ?_;clear a3 KK;refine kI (λKK a3=>?_);go_wp2;refine a3 _ _ ?_;clear a3 KK;change Code.wp _ _ _ _ ((w.alloc (Y6 #[O fn,U a9 (Z S) a7] 104)).alloc (Y6 #[U Y 0 0] 115));generalize(w.alloc (Y6 #[O fn,U a9 (Z S) a7] 104)).alloc (Y6 #[U Y 0 0] 115)=w2 at l6 b7 i9|-;rw[Aa HN]at b7 i9|-;have d5:=Ab (OB (N+1) 0 [U Y 0 0] 115 Y 0 [] ⟨⟨fn,S⟩,U a9 (Z S) a7⟩ w2 i9 rfl lu lu ⟨mw _ _ _ _,λp hp=>by simp at hp⟩ (z8.C l6) x5 ln (λi j hi=>by simp at hi));simp only[AJ]at d5;obtain⟨b0,b1⟩:=b7.c2;simp at b0 b1;refine kI (λKK a3=>?_);go_wp2_with fail
 refine d5.G ?_;rintro _ w3 ⟨rfl,hA⟩;obtain⟨p0,e4,f1,p5,f0,e9,f4⟩:=hA.o;have n2:Ll [] ⟨⟨fn,S⟩,U a9 (Z S) a7⟩ p0=[⟨⟨fn,S⟩,U a9 (Z S) a7⟩]:=by
  unfold Ll Dg;simp
 rw[n2]at f0 e9 f4;have u2:Ac [] w w3:=l6.trans' hA.C (λq t=>j3 (by
  have:=Aa HN
  simp[kE]at t
  omega))
 simp only[lS]at f0;have n4:=Ab u2;have m3:=Ab f0;have r7:=Ab e9;have i8:jV (∀q,(U e4 1 f1).ownBlock=V q->w.heap.size<=q/\q<w3.heap.size):=λq t=>by
  rcases f4 q t with h|h
  .simp[kE]at h
  .exact⟨mZ l6.size h,(e9.row.lt q t).2⟩
 have t2:jV (CJ [⟨⟨fn,S⟩,U a9 (Z S) a7⟩] [F]):=⟨by simp only[mA,om];rw[Aa HF],List.pairwise_singleton _ _,λf hf=>by simp at hf;rw[hf];exact HC⟩;clear d5 hA p5 f0 e9 f4 n2 u2 b0 b1 b7 i9;go_wp2;refine a3 _ _ ?_;clear a3 KK;have z:=Ab ((kR [] w3).alloc (Y6 #[U Y 0 0] 137));have l0:=Ab (kS w3 [U Y 0 0] 137);refine kI (λKK a3=>?_);go_wp2;refine a3 _ _ ?_;clear a3 KK;change Code.wp _ _ _ _ (w3.alloc (Y6 #[U Y 0 0] 137));generalize w3.alloc (Y6 #[U Y 0 0] 137)=w4 at z l0|-;obtain⟨I,o1⟩:=kQ w3.heap.size;have y9:=Ab o1;rw[o1]at l0|-;clear o1;have x0:=Ab (MI lad lcp d6 rcs w4 (B6.C (n4.H z)) p2);refine kI (λKK a3=>?_);refine kI (λK5 s2=>?_);go_wp2_with fail
 refine x0.G ?_;rintro _ w6 ⟨cb,s,E,L,NN,rfl,q2,s5,u3,q6,m2⟩;obtain⟨B5,x7,fs,p3,p7,o,o5,-,-,e8,-,-,m4⟩:=q2.o;have o3:Z s=Z o:=by
  have h1:=e8.1;rw[aw]at h1;omega
 rw[o3]at o5 e8;have c2:=o5.D 2;simp at c2;have m7:=p2.zV q6;have v3:=Ab (UZ p3 (Z o) p7 w6);clear x0;go_wp2_with fail
 refine v3.G ?_;rintro _ w5 ⟨b1,rfl,t0,D3,k5⟩;have h0:=q2.C;have b5:jV (YD w5 w4.heap.size (U B5 (Z fs) x7) E o):=m4.C k5;have m8:=Ab (Ad e8 k5);have y8:=Ab t0;have e6:jV (Ac [] w4 w5):=h0.H k5;have z4:jV (w4.heap.size<=w6.heap.size):=h0.size;have i3:jV (ZP rcs E s/\CP rcs L/\Hu rcs L NN s/\(∀c∈rcs,L c.E.a<NN)):=⟨s5,u3,q6,m2⟩;have b6:=Ab m7;have o9:=Ab o3;clear q2 s5 u3 q6 m2 o5 e8 m4 o3 c2 m7 v3 t0 k5 h0;go_wp2;refine s2 _ _ ?_;clear s2 K5;refine wp_block ?_;have i5:jV (I<w4.heap.size/\N+1<I/\w4.heap.size<=w5.heap.size/\w4.heap.size<=b1/\w.heap.size<=N):=by
  have h1:=l0.lt;have h2:=m3.lt;have h3:=Aa y9;have h4:=e6.size;have h5:=Aa z4;have h6:=Aa HN;exact⟨h1,lc,h4,lc,lc⟩
 have e5:jV (Ac [] w w5):=(n4.H z).H e6;have m1:jV (Ac [] w3 w5):=z.H e6;have q7:jV (∀x,x<Z o->∃A0 pa pn pc A2 qa qn qc,aN o x=[O A0,U pa pn pc,X J (A2:Nat),U qa qn qc]):=by
  intro x hx;have h:=(b5.j o[x] (lV hx)).1;obtain⟨pa,pc,e1⟩:=Aj h.pf;obtain⟨qa,qc,e2⟩:=h.sl;refine⟨o[x].2.f.f.a,pa,o[x].2.f.f.dN.length,pc,o[x].1,qa,o[x].2.ns.length,qc,?_⟩;unfold aN;rw[mc hx];show[_,o[x].2.f.tv,_,o[x].2.n]=_;rw[e1,e2]
 have ze:=cW b1 p3 p7 o w5 ((N+1)::I::(qV (qW (U e4 1 f1))++qV (qW (U Y 0 0)))) ⟨by have h:=y8.D 0;simpa using h,Ak m8 (mr _),λk hk=>by
  have hw:=Aa i5
  have D6:k<w4.heap.size:=by
   simp only[l9,mi,n7]at hk
   rcases hk with rfl|rfl|hk|hk
   .omega
   .omega
   .have h1:=(i8 k hk).2
    have h2:=z.size
    omega
   .simp[kE]at hk
  exact⟨lc,λh=>by have:=(m8.lt k h).1;omega,lc⟩⟩ (by have:=b6.2.2;have:=Aa o9;omega)
 have r2:jV (dF w w5 (N+1) I o (F::s) [] [F] ((N+1)::I::(qV (qW (U e4 1 f1))++qV (qW (U Y 0 0)))) w5):=by
  refine⟨e5,λp hp=>(b5.j p hp).1,λf hf=>by simp at hf;simp[hf],e4,f1,_,Y,0,[],m3.C m1,r7.C m1,t2,λq t=>⟨(i8 q t).1,λp hp he=>?_⟩,l0.C e6,mw _ _ _ _,rfl,λp hp=>by simp at hp,rfl⟩;have h1:=((b5.j p hp).2 q he).1;have h2:=(i8 q t).2;have h3:=z.size;omega
 have C3:=r2.lt;have A4:w.heap.size<=w5.heap.size:=e5.size;refine UL (encs:=jh o) rfl (enters_of func182 lo rfl) ze (λ_=>rfl) C3 (λB M W=>dF w w5 (N+1) I o (F::s) (qU G7 ([],[F]) (E.reverse.take (Z B))).1 (qU G7 ([],[F]) (E.reverse.take (Z B))).2 M W) (λ_ _ _ _=>False) (dF.own (st:=λB=>qU G7 ([],[F]) (E.reverse.take (Z B))) A4) (λ_ _ _ _ _ h _ _=>h) r2
  (λn0 x a' W=>AF W n0 (aN o x) 176/\a'=⟨#[U lad (Z d6) lcp,.agg #[O fn,U a9 (Z S) a7],rH,jj (V ⟨N,0,Y⟩),U Y 0 0,jj (V ⟨N+1,0,Y⟩),jj (V ⟨I,0,Y⟩),rH,jj (V ⟨n0,0,Y⟩),rH,rH,.agg #[O fn,U a9 (Z S) a7],.tuple #[],U lad (Z d6) lcp,jj (V ⟨cb,0,Y⟩),jj (V ⟨cb,0,Y⟩),jj (V ⟨cb,2,Y⟩),U p3 (Z o) p7,.func (.func 182) #[] #[jj (V ⟨b1,0,Y⟩)],X J x,.agg (aN o x).toArray,rH,rH,rH,rH,rH,rH,rH,rH,rH,rH,rH,rH,rH,rH,rH,rH,rH,rH,rH,rH,rH],[]⟩)
  (λn0 x a'=>BF (λ_ W W' M h k hM=>⟨h.1.C k (CZ hM h.1),h.2⟩)) ?rassign ?rbody ?rdone ?rstop
 case rassign=>
  intro l x W' K hx _ HK;have m9:jV (∀a' t8,Ac [] W' t8->_->K a' t8):=HK;have x8:x<Z o:=by
   rw[List.mem_reverse,qi]at hx;exact hx
  obtain⟨A0,pa,pn,pc,A2,qa,qn,qc,c8⟩:=q7 x x8;unfold jh;rw[c8]at m9|-;have i2:=Ab (kS W' [O ⟨#[]⟩,U Y 0 0,X J 0,U Y 0 0] 176);obtain⟨z0,z1,z2,z3⟩:=i2.c4;have y0:=i2.qI 0;have y1:=i2.qI 1;have y2:=i2.qI 2;have y3:=i2.qI 3;simp at z0 z1 z2 z3;clear HK c8 ze;refine AM lx (G8 FY) ?_;go_wp2;exact m9 _ _ ((kR [] W').alloc _) ⟨kS W' [O A0,U pa pn pc,X J (A2:Nat),U qa qn qc] 176,rfl⟩
 case rbody=>
  intro l n0 B x D4 M a' W r4 hi hM E2 D9 B1;obtain⟨j5,rfl⟩:=B1;obtain⟨z7,A9⟩:=jc r4;have o2:Z E=Z o:=by have h:=rk List.length b5.eq;simpa using h.symm
  have hx:x<Z o:=lc
  have j0:x<Z E:=lc
  have t4:E.reverse[Z B]' li=E[x]:=by
   rw[List.getElem_reverse]
   congr 1
   omega
  have b8:qU G7 ([],[F]) (E.reverse.take (Z (B++[x])))=G7 (qU G7 ([],[F]) (E.reverse.take (Z B))) E[x]:=by
   rw[mp,List.length_singleton,fY li,t4]
  obtain⟨⟨A,Nd⟩,n8⟩:∃a,qU G7 ([],[F]) (E.reverse.take (Z B))=a:=⟨_,rfl⟩;rw[n8]at b8 hi;simp only at hi;obtain⟨H,hH⟩:=kQ (E[x]);rw[hH]at b8;have u7:H∈E:=by rw[<-hH];exact lV j0
  have u5:H.2.E∈s:=(i3.1.mem _).2 (me.2 ⟨H,u7,rfl⟩);have o8:∀g∈H.2.pos,g∈s:=by
   obtain⟨_,_,_,_,h4,_⟩:=i3.1.j x j0;rw[hH]at h4;intro g hg;obtain⟨y,hy,e⟩:=me.1 (h4 g hg);exact(i3.1.mem g).2 (me.2 ⟨y,ny hy,e⟩)
  have r6:jV (Z H.2.pos<=1000):=by
   obtain⟨h1,σ,_,h3,_,_⟩:=i3.1.j x j0;simp only[hH]at h1 h3;have h5:=(p2.pass.order.small.2 _ (lV h1)).1;show Z H.2.pos<=1000;rw[h3];show Z (((Am _).filter _).map _)<=1000;rw[mh];have h6:=nL (λx:Bt=>x.b==97) (Am rcs[H.1]);(have h7:Z (Am rcs[H.1])=rcs[H.1].bl.length:=by unfold Am;rw[mh]);omega
  have c8:=rk (λl=>l[x]?) b5.eq;simp only[no,mc hx,mc j0,nM,lZ,hH,mU]at c8;obtain⟨q5,j6,k6⟩:=c8;have c5:o[x]∈o:=lV hx;have q4:aN o x=Cl o[x]:=by unfold aN;rw[mc hx];rfl
  rw[q4]at j5;simp only[q4];obtain⟨⟨E4,⟨⟨c3,b2⟩,D0⟩,nv,a0⟩,n5⟩:∃p,o[x]=p:=⟨_,rfl⟩;rw[n5]at q5 j6 k6 c5 j5;simp only[n5];simp only at q5 j6 k6;obtain⟨pa,pc,e1⟩:=Aj (hi.j _ c5).pf;obtain⟨qa,qc,e2⟩:=(hi.j _ c5).sl;simp only at e1 e2;subst e1 e2;subst q5;have d8:jV (∀A' c0 M2 wz,G7 (A,Nd) H=(A',c0)->dF w w5 (N+1) I o (F::s) A' c0 M2 wz->TW M W M2 wz->Mi (λB M W=>dF w w5 (N+1) I o (F::s) (qU G7 ([],[F]) (E.reverse.take (Z B))).1 (qU G7 ([],[F]) (E.reverse.take (Z B))).2 M W) (λ_ _ _ _=>False) (B++[x]) M W .normal ⟨#[],[]⟩ wz):=by
   intro A' c0 M2 wz he hW hO;refine⟨hO.C,M2,?_,hO.mem⟩;show dF w w5 (N+1) I o (F::s) (qU G7 ([],[F]) (E.reverse.take (Z (B++[x])))).1 (qU G7 ([],[F]) (E.reverse.take (Z (B++[x])))).2 M2 wz;rw[b8,he];exact hW
  have y7:=Ab hM;have C8:jV (Z A<=7000):=by
   have h1:=Ri (E.reverse.take (Z B)) ([],[F]);rw[n8,mT]at h1;have h2:=b6.2.2;have h3:=Aa o9;simp only[mI]at h1;show Z A<=7000;omega
  have t6:jV (∀(ns:kN D5) (c0:kN Ae),CJ ns c0->(∀f∈c0,f∈F::s)->Z ns<=7000):=by
   intro ns c0 h1 h2;have h3:=G0 c0 (F::s) (h1.zB.nodup h1.qK) h2;have h4:=h1.len;have h5:=b6.2.2;simp only[mn]at h3;omega
  have C5:jV (AG H.2.E):=b6.2.1 _ u5;have A6:jV (∀g∈H.2.pos,AG g/\g∈F::s):=λg hg=>⟨b6.2.1 _ (o8 g hg),mP _ (o8 g hg)⟩
  have v4:jV ((⟨c3,b2⟩:CE)=Bn H.2.E):=j6;have u6:jV (a0.map D5.f=H.2.pos.map Bn):=k6;have e7:=Ab c5;have j4:=Ab hi;have b7:=Ab j5;have t3:jV (TW M W M W):=⟨kR _ _,λk hk=>⟨j2 hk,hi.lt k hk⟩⟩;have l7:jV (∀wz,dF w w5 (N+1) I o (F::s) A Nd M wz->rE rF 60 #[jj (V ⟨N+1,0,Y⟩),.agg #[O c3,U pa (Z b2) pc]] wz λr w'=>r=.returned (.bool (C7 Nd H.2.E))/\Ac [] wz w'):=by
   intro wz hz;obtain⟨a5,a4,ns,a1,T,R,g1,g2,g3,_⟩:=hz.o;have s6:=g1.D 0;simp at s6;have v2:=(hz.j _ e7);refine(Jt (N+1) 0 a5 a4 ns ⟨⟨c3,b2⟩,U pa (Z b2) pc⟩ wz s6 g2 v2.pf v2.len (by have:=Aa t6 ns Nd g3 hz.sub;omega) (g3.G _)).G ?_;rintro e w' ⟨p,rfl,c1,k⟩;simp only at c1|-;rw[Aa v4]at c1|-;exact⟨by rw[g3.ze (Aa C5) c1],k⟩
  clear hi j5 c5 n5 q4 j6 k6 o8 u5 u7 hH n8 b8 t4 o2 r4 hM ze z7 A9 hx j0 q7;obtain⟨e0,e1⟩:=b7.c2;simp[Cl,Lh]at e0 e1;simp only[Cl,Lh]at b7|-;refine wpIn_block ?_;refine nK (λK8 f6=>?_);have d7:=Ab f6;clear f6;refine nK (λK7 t1=>?_);have s8:=Ab t1;clear t1;refine AM lx lB ?_;go_wp2_with fail
  refine(l7 W j4).G ?_;rintro _ w7 ⟨rfl,k7⟩;have c6:=Ab k7;clear l7 k7 e0 e1;go_wp2;refine s8 _ _ ?_;clear s8 K7;have f3:=Ab (j4.calm c6);have k9:jV (TW M W M w7):=t3.step (c6.G ln) (λq t=>⟨j2 t,nR (j4.lt q t) c6.size⟩);have e3:=Ab (b7.C c6);clear j4 t3 b7 c6;cases n6:C7 Nd H.2.E with
  |false=>
   refine pm rfl (wpIn_exit ?_);exact d8 A Nd M _ (by unfold G7;rw[mm (by rw[n6];simp)]) f3 k9
  |true=>
   refine pg rfl (wpIn_skip ?_);refine d7 _ _ ?_;clear d7 K8;(have m0:jV (∀M2 wz,dF w w5 (N+1) I o (F::s) (A++[H]) (qU A3 Nd H.2.pos) M2 wz->TW M W M2 wz->Mi (λB M W=>dF w w5 (N+1) I o (F::s) (qU G7 ([],[F]) (E.reverse.take (Z B))).1 (qU G7 ([],[F]) (E.reverse.take (Z B))).2 M W) (λ_ _ _ _=>False) (B++[x]) M W .normal ⟨#[],[]⟩ wz):=λM2 wz=>d8 _ _ M2 wz (by unfold G7;rw[mo n6]));clear d8 n6;obtain⟨a5,a4,ns,a1,T,R,g1,g2,g3,g4,g5,g6,g7,g8,a6⟩:=(Aa f3).o;have B8:Z R<=7000:=by
    have h:=rk List.length g7;rw[mh,mh]at h;have:=Aa C8;omega
   obtain⟨d0,d1,d2⟩:=e3.c3;have d3:=(Aa e3).D 3;have r0:=g5.D 0;simp at d0 d1 d2 d3 r0;(have w0:w5.heap.size<=w7.heap.size:=by have:=k9.C.size;omega);have p9:=Ab g1;have j9:=Ab g2;have u8:=Ab g3;have o6:=Ab g4;have p8:=Ab g5;have C9:=Ab g6;have u0:=Ab g7;have t5:=Ab g8;have x3:=Ab a6;clear g1 g2 g3 g4 g5 g7 g8 a6;refine nK (λK8 f6=>?_);have d7:=Ab f6;clear f6;refine AM lx lB ?_;go_wp2_with (at_builtin;refine mE _ rfl (.tmp 25) (.tmp 27) _ rfl w5.heap.size 176 i0 _ 4 72 underlying137 C1 D2 x9 z9 rfl lc (U a1 (Z R) T) (Z R) (qS Cl R) rfl (mg g6 _) ⟨w7.heap.size,0,Y⟩ 1 1 [O c3,U pa (Z b2) pc,X J H.1,U qa (Z a0) qc] rfl rfl (mz (mG w7 _)) lC lc lw lc li (w7.heap.size+1) ln ?_;intro gg C w9 n9 f7 v0 y4;have f2:=(p8.alloc (Y6 #[O c3,U pa (Z b2) pc,X J H.1,U qa (Z a0) qc] 176)).grown f7 (Ap g6 p8 lu);have c9:=f2.D 0;have f9:=f2.qI 0;simp at c9)
   have c7:=Aa x3;have kM:Ac M w7 (w9.setCell ⟨I,0,Y⟩ (U (V ⟨gg,0,Y⟩) (Z R+1) C)):=(((kR M w7).alloc (Y6 #[O c3,U pa (Z b2) pc,X J H.1,U qa (Z a0) qc] 176)).grown f7 (λq t=>j2 (by rw[c7];simp[t]))).setCell (p:=⟨I,0,Y⟩) (j2 (by rw[c7];simp)) _;have j7:∀q∈M,w.heap.size<=q:=by
    intro q t;have hw:=Aa i5;rw[c7]at t;simp only[l9,mi,n7]at t;rcases t with rfl|rfl|t|t
    .omega
    .omega
    .exact(o6 q t).1
    .have:=(g6.lt q t).1;omega
   have b9:∀{b e sz n:Nat} {v:Value} {ys:kN Value},kt w7 b e sz v n ys->e≠176->e≠137->kt (w9.setCell ⟨I,0,Y⟩ (U (V ⟨gg,0,Y⟩) (Z R+1) C)) b e sz v n ys:=fun{b e sz n v ys} hr h1 h2=>by
    have r3:=nF (v:=v) (mg (v:=v) hr _) f7 (by
     cases B0:v.ownBlock with
     |none=>exact j2 rfl
     |some q=>exact j3 (λe=>Be hr g6 h1 q B0 e.symm))
    exact Ah r3 (Ap r3 f2 h2) _
   have b4:jV (dF w w5 (N+1) I o (F::s) (A++[H]) Nd ((N+1)::I::(qV (qW (U a5 (Z ns) a4))++[gg])) (w9.setCell ⟨I,0,Y⟩ (U (V ⟨gg,0,Y⟩) (Z R+1) C))):=by
    (have y6:N+1≠I:=by have:=Aa i5;omega);refine⟨f3.C.trans' kM (λq t=>j3 (j7 q t)),λp hp=>(f3.j p hp).map (λq t=>b9 (v:=q.tv) t lu lu) (λhr=>b9 hr lu lu),f3.sub,a5,a4,ns,V ⟨gg,0,Y⟩,C,R++[(H.1,⟨⟨⟨c3,b2⟩,U pa (Z b2) pc⟩,U qa (Z a0) qc,a0⟩)],?_,⟨b9 j9.row lu lu,λp hp=>⟨b9 (v:=p.tv) (j9.j p hp).1 lu lu,(j9.j p hp).2⟩⟩,u8,o6,?_,?_,?_,?_,rfl⟩
    .have h:=(p9.alloc (Y6 #[O c3,U pa (Z b2) pc,X J H.1,U qa (Z a0) qc] 176)).grown f7 (Ap g6 p9 lu);exact h.bW ⟨I,0,Y⟩ (Ne.symm y6) _
    .rw[mp];exact f2.set 0 _
    .rw[mp,mD];exact Ah n9 (Ap n9 f2 lu) _
    .rw[mO,mO,Aa u0];simp only[mA,om];rw[Aa v4]
    .intro p hp;rcases mi.1 hp with h|h
     .exact t5 p h
     .simp only[lX]at h;rw[h];exact e7
   have c4:jV (TW M W ((N+1)::I::(qV (qW (U a5 (Z ns) a4))++[gg])) (w9.setCell ⟨I,0,Y⟩ (U (V ⟨gg,0,Y⟩) (Z R+1) C))):=by
    refine k9.step kM (λq t=>⟨?_,b4.lt q t⟩);simp only[l9,mi,lX,nr,or_false,n7]at t;rcases t with rfl|rfl|t|rfl
    .exact j2 (by rw[c7];simp)
    .exact j2 (by rw[c7];simp)
    .exact j2 (by rw[c7];simp[t])
    .rcases v0 with h|h
     .exact j2 (by rw[c7];simp[h])
     .exact j3 lc
   have d9:=Ab (e3.C kM (λhm=>by have:=Aa y7 n0 hm;omega));have z5:jV (∃A1 u4 M1,A1=A++[H]/\u4=Nd/\dF w w5 (N+1) I o (F::s) A1 u4 M1 (w9.setCell ⟨I,0,Y⟩ (U (V ⟨gg,0,Y⟩) (Z R+1) C))/\TW M W M1 (w9.setCell ⟨I,0,Y⟩ (U (V ⟨gg,0,Y⟩) (Z R+1) C))):=⟨_,_,_,rfl,rfl,b4,c4⟩;go_wp2;refine d7 _ _ ?_;clear d7 K8;generalize w9.setCell ⟨I,0,Y⟩ (U (V ⟨gg,0,Y⟩) (Z R+1) C)=B2 at b4 c4 d9|-;generalize(N+1)::I::(qV (qW (U a5 (Z ns) a4))++[gg])=M1 at b4 c4;clear z5 b9 j7 kM c7 f2 c9 f9 n9 f7 v0 y4 g6 p9 j9 u8 o6 p8 C9 u0 t5 x3 d0 d1 d2 d3 r0 B8 w0 f3 k9 e3;have d3:=d9.D 3;simp at d3;(have i1:jV (Z a0=Z H.2.pos):=by show _=_;have h:=rk List.length u6;simpa using h);have n3:jV (dF w w5 (N+1) I o (F::s) (A++[H]) (qU A3 Nd (H.2.pos.take 0)) M1 B2):=b4;refine nK (λK4 P=>?_);have z:=Ab P;clear P;refine AM lx lB ?_;go_wp2;refine z _ _ ?_;clear z K4 d3;refine wpIn_block ?_
   gi_loopw [32] (λi wz=>∃(j:Nat) (M2:kN Nat),i=X J j/\j<=Z a0/\jV (dF w w5 (N+1) I o (F::s) (A++[H]) (qU A3 Nd (H.2.pos.take j)) M2 wz)/\jV (TW M W M2 wz)) (λi _=>Z a0-(rG i).toNat)
   case atStart=>exact⟨0,M1,rfl,mr _,n3,c4⟩
   case round=>
    clear n3 c4 b4 d9;obtain⟨j,M2,rfl,hj,HS,HO⟩:=hrel;by_cases p1:j<Z a0
    .obtain⟨g,E3,n1,Q,a8,C,he,v5,q0,q1⟩:=JO (HS.j _ e7).nds j p1;obtain⟨rfl,-,rfl⟩:=qX he;(have j8:j<Z H.2.pos:=by have:=Aa i1;omega);have l5:qU A3 Nd (H.2.pos.take (j+1))=A3 (qU A3 Nd (H.2.pos.take j)) H.2.pos[j]:=by
      rw[lW j8,m6];rfl
     have k4:a0[j].f=Bn H.2.pos[j]:=by
      have h:=rk (λl=>l[j]?) u6;simp only[no,mc p1,mc j8,nM,lZ]at h;exact h
     have o4:=Aa A6 H.2.pos[j] (lV j8);have p4:=(HS.j _ e7).nds.j a0[j] (lV p1);obtain⟨G,hG⟩:=kQ (H.2.pos[j]);rw[hG]at l5 k4 o4;rw[v5]at k4 p4;obtain⟨Nj,s1⟩:=kQ (qU A3 Nd (H.2.pos.take j));rw[s1]at l5 HS;have s9:=Ab l5;have f5:=Ab o4;have h9:=Ab k4;have q3:=Ab p4;obtain⟨D8,x6⟩:=rI (lc:j<Z a0);(have E0:j<1000:=by have:=Aa i1;have:=Aa r6;omega);have b3:=Ab (HS.calm ((kR [] wr).alloc (Y6 #[O n1,U a8 (Z Q) C] 104)));have p6:jV (TW M W M2 (wr.alloc (Y6 #[O n1,U a8 (Z Q) C] 104))):=HO.step (((kR [] wr).alloc _).G ln) (λq t=>⟨j2 t,b3.lt q t⟩);have h8:=Ab (kS wr [O n1,U a8 (Z Q) C] 104);have g0:=Ab (q3.1.C ((kR [] wr).alloc (Y6 #[O n1,U a8 (Z Q) C] 104)));clear l5 o4 k4 p4 hG s1 v5 j8;refine nK (λK4 P=>?_);have z:=Ab P;clear P;refine AM lx lB ?_;go_wp2;refine z _ _ ?_;clear z K4;refine nK (λK4 P=>?_);have z:=Ab P;clear P;refine pm rfl (wpIn_skip ?_);refine z _ _ ?_;clear z K4;refine nK (λK6 x1=>?_);have r1:=Ab x1;clear x1;refine wpIn_block ?_;refine nK (λK4 P=>?_);have z:=Ab P;clear P;refine AM lx lB ?_;go_wp2;refine z _ _ ?_;clear z K4 q0 q1;change Code.wpIn _ _ _ _ _ _ (wr.alloc (Y6 #[O n1,U a8 (Z Q) C] 104));generalize wr.alloc (Y6 #[O n1,U a8 (Z Q) C] 104)=wa at b3 p6 h8 g0|-;obtain⟨BA,s0⟩:=kQ wr.heap.size;rw[s0]at h8|-;clear s0 HS HO;have q0:=(Aa h8).D 0;have q1:=(Aa h8).D 1;simp at q0 q1;obtain⟨a5,a4,ns,a1,T,R,g1,g2,g3,g4,g5,g6,g7,g8,a6⟩:=(Aa b3).o;have A5:=Aa t6 ns Nj g3 (Aa b3).sub;have d5:=Ab (OB (N+1) 0 [U a5 (Z ns) a4] 115 a5 a4 ns ⟨⟨n1,Q⟩,U a8 (Z Q) C⟩ wa g1 rfl lu lu g2 (Aa g0) (Aa q3).2 lc (g3.G _));simp only[AJ]at d5;have m5:jV (∀wb,Vt (N+1) 0 [U a5 (Z ns) a4] 115 (U a5 (Z ns) a4) ns ⟨⟨n1,Q⟩,U a8 (Z Q) C⟩ wa wb->∃M3,dF w w5 (N+1) I o (F::s) (A++[H]) (qU A3 Nd (H.2.pos.take (j+1))) M3 wb/\TW M W M3 wb):=by
      intro wb hA;obtain⟨p,v9,s4,c1,x2,A8,q9⟩:=hA.o;simp only[lS]at x2;have i7:EW ns (Bn G) p:=by
       have h:=c1;simp only at h;rw[Aa h9]at h;exact h
      have x4:CJ (Ll ns ⟨⟨n1,Q⟩,U a8 (Z Q) C⟩ p) (A3 Nj G):=by
       unfold Ll;simp only;cases hh:Dg ns ⟨n1,Q⟩ p with
       |true=>
        simp only[ro];rw[Aa h9]at hh;exact g3.yP f5.1 i7 hh
       |false=>
        simp only[ma,rm];have h2:=hh;rw[Aa h9]at h2;exact g3.zm (x:=⟨⟨n1,Q⟩,U a8 (Z Q) C⟩) h9 f5.1 i7 h2
      have r5:Ac M2 wa wb:=hA.C.G (λq t=>by
       rw[a6]
       rcases l9.1 t with rfl|t
       .simp
       .simp only[l9,mi];exact j3 (j3 (j2 t)))
      have j7:∀q∈M2,w.heap.size<=q:=by
       intro q t;have hw:=Aa i5;rw[a6]at t;simp only[l9,mi,n7]at t;rcases t with rfl|rfl|t|t
       .omega
       .omega
       .exact(g4 q t).1
       .have:=(g6.lt q t).1;omega
      have b9:∀{b e sz n:Nat} {v:Value} {ys:kN Value},kt wa b e sz v n ys->e≠115->(∀q,v.ownBlock=V q->(U a5 (Z ns) a4).ownBlock≠V q)->kt wb b e sz v n ys:=fun{b e sz n v ys} hr h1 h2=>Ag hr hA.C (λq t hm=>by
       rcases l9.1 hm with rfl|hm
       .exact Ap hr g1 h1 t
       .exact h2 q t sC)
      have B7:I∉(N+1)::qV (qW (U a5 (Z ns) a4)):=by
       intro hm;rcases l9.1 hm with h|h
       .have:=Aa i5;omega
       .exact Ap g2.row g5 lu sE
      have E1:=hA.C.size;have hS:dF w w5 (N+1) I o (F::s) (A++[H]) (A3 Nj G) ((N+1)::I::(qV (qW (U v9 (Z (Ll ns ⟨⟨n1,Q⟩,U a8 (Z Q) C⟩ p)) s4))++qV (qW (U a1 (Z R) T)))) wb:=by
       refine⟨b3.C.trans' r5 (λq t=>j3 (j7 q t)),λp' k0=>(b3.j p' k0).map (λq t=>b9 (v:=q.tv) t lu (λq' i6=>Be (v1:=q.tv) t g2.row lu q' i6)) (λhr=>b9 hr lu (λq' i6 he=>(g4 q' he).2 p' k0 i6)),λf hf=>?_,v9,s4,_,a1,T,R,x2,A8,x4,λq t=>?_,g5.C hA.C B7,b9 g6 lu (λq' i6=>Be g6 g2.row lu q' i6),g7,g8,rfl⟩
       .rcases((CR f5.1 g3.zB g3.qK).2.2 f).1 hf with h|h
        .exact b3.sub f h
        .rw[h];exact f5.2
       .rcases q9 q t with h|h
        .exact g4 q h
        .refine⟨mZ b3.C.size h,λp' k0 he=>?_⟩;have:=((b3.j p' k0).nds.row.lt q he).2;omega
      refine⟨_,by rw[Aa s9];exact hS,p6.step r5 (λq t=>⟨?_,hS.lt q t⟩)⟩;simp only[l9,mi,n7]at t;rcases t with rfl|rfl|t|t
      .exact j2 (by rw[a6];simp)
      .exact j2 (by rw[a6];simp)
      .rcases q9 q t with h|h
       .exact j2 (by rw[a6];simp[h])
       .exact j3 h
      .exact j2 (by rw[a6];simp[t])
     clear g1 g2 g3 g4 g5 g6 g7 g8 a6 A5 b3 p6 g0 q3 h9 f5 s9;refine AM lx lB ?_;(go_wp2_with fail);refine d5.G ?_;rintro _ wb ⟨rfl,hA⟩;obtain⟨M3,v6,t7⟩:=m5 wb hA;have A7:=Ab v6;have B3:=Ab t7;clear d5 m5 hA v6 t7 q0 q1 h8;go_wp2;refine r1 _ _ ?_;clear r1;refine AM lx lB ?_;go_wp2
     go_roundw
     case rel=>exact⟨j+1,M3,ly,lc,A7,B3⟩
     case measure=>simp[rG];omega
    .have u1:jV (dF w w5 (N+1) I o (F::s) (A++[H]) (qU A3 Nd H.2.pos) M2 wr):=by
      have h:=Aa HS;rw[lY (by have:=Aa i1;omega)]at h;exact h
     have HP:=Ab (m0 M2 wr u1 HO);have x6:¬(j:Int)<(Z a0:Int):=lc;clear HS u1 HO m0;refine nK (λK4 P=>?_);have z:=Ab P;clear P;refine AM lx lB ?_;go_wp2;refine z _ _ ?_;clear z K4;refine nK (λK4 P=>?_);have z:=Ab P;clear P z;refine pg rfl (wpIn_exit ?_);exact HP
 case rdone=>
  intro D M' W2 hD hi hd t9;have o2:Z E=Z o:=by have h:=rk List.length b5.eq;simpa using h.symm
  have c8:qU G7 ([],[F]) (E.reverse.take (Z (List.range (Z o)).reverse))=qU G7 ([],[F]) E.reverse:=by
   rw[lY li]
  have hA:(qU G7 ([],[F]) E.reverse).1=(IT E F).reverse:=by
   rw[Rg];rfl
  have d4:dF w w5 (N+1) I o (F::s) (IT E F).reverse (qU G7 ([],[F]) E.reverse).2 M' W2:=by
   have h:=hi;rw[c8,hA]at h;exact h
  obtain⟨a5,a4,ns,a1,T,R,-,-,-,-,g5,g6,g7,g8,a6⟩:=d4.o;have r9:Z R<=7000:=by
   have h:=rk List.length g7;rw[mh,mh,rA]at h;have h1:=Ri E.reverse ([],[F]);rw[hA,rA,rA]at h1;have h2:=b6.2.2;have h3:=Aa o9;simp only[mI]at h1;omega
  have s7:=Ab (WN w5.heap.size a1 T R W2 g6 lc (λp hp=>by
   have h:=d4.j p (g8 p hp)
   obtain⟨a,c,e⟩:=Aj h.pf
   obtain⟨a2,c2,e2⟩:=h.sl
   exact⟨⟨a,_,c,e⟩,a2,_,c2,e2⟩))
  have s3:jV (∀(f8:Array Value) (w':jH),f8.getD 4 rH=U a1 (Z R) T->kt w' w5.heap.size 176 4 (U a1 (Z R) T) (Z R) (qS Cl R.reverse)->Ac (qV (qW (U a1 (Z R) T))) W2 w'->QQ .ret ⟨f8,[EJ D]⟩ w'):=by
   intro f8 w' h4 hr hk;rw[<-Aa z6];(have C2:D∉(qV (qW (U a1 (Z R) T))):=λhm=>t9 D (by rw[a6];simp only[l9,mi];exact j3 (j3 (j3 hm))) rfl);have D1:D<W2.heap.size:=(mV.1 hd).1;have B4:w'.heap[D]?=V (.deferred (V [])):=(hk.block D D1 C2).H hd;have u9:Dy w.heap.size [D] w':=⟨ln,λd j1=>by simp only[lX]at j1;have:=e5.size;omega,λd j1=>by simp only[lX]at j1;rw[j1];exact B4⟩;refine Dh [D] w' u9 (λD7 C0=>?_);have y5:Ac [] w w':=d4.C.trans' hk (λq t=>j3 (by have h1:=(g6.lt q (by simpa using t)).1;have h2:=e5.size;omega));have i4:∀p∈R,C6 w' p.2.f:=λp hp=>by
    have h:=(d4.j p (g8 p hp)).pf;exact Ag (v:=p.2.f.tv) h hk (λq t hm=>Be (v1:=p.2.f.tv) h g6 lu q t sC)
   have v7:OwnFrom w.heap.size (fun(_:Unit) W=>kt W w5.heap.size 176 4 (U a1 (Z R) T) (Z R) (qS Cl R.reverse)/\(∀p∈R,C6 W p.2.f)/\Ac [] w W):=BF (λ_ W W' M h kk hM=>⟨Ag h.1 kk (BY hM h.1),λp hp=>Ag (v:=p.2.f.tv) (h.2.1 p hp) kk (BY (v:=p.2.f.tv) hM (h.2.1 p hp)),DK h.2.2 kk hM (mt _)⟩);obtain⟨k1,k2,k3⟩:=C0.own v7 (s:=()) u9 ⟨hr,i4,y5⟩;obtain⟨l1,l2,l3,l4⟩:=i3;refine⟨_,results_tmp rfl _ _ _,a1,T,R.reverse,s,E,L,NN,by rw[h4,rA],by rw[rA];exact Ak k1 (mr _),λp hp=>⟨k2 p (List.mem_reverse.1 hp),(d4.j p (g8 p (List.mem_reverse.1 hp))).len,by obtain⟨a,c,e⟩:=(d4.j p (g8 p (List.mem_reverse.1 hp))).sl;exact⟨a,_,c,e⟩⟩,?_,l1,l2,l3,l4,k3⟩;rw[List.map_reverse,g7,<-List.map_reverse,List.reverse_reverse]
  have r0:=g5.D 0;simp at r0;have C4:=Ab g5;have l8:jV (∀w',Ac (qV (qW (U a1 (Z R) T))) W2 w'->AF w' I [U a1 (Z R) T] 137):=λw' hk=>g5.C hk (λhm=>Ap g6 g5 lu sC)
  clear hi d4 hd t9 c8 hA o2 g5 g6 g7 g8 a6 ze r9 C4;refine a3 _ _ ?_;clear a3;refine kI (λK3 g9=>?_);go_wp2_with fail
  refine s7.G ?_;rintro _ w8 ⟨⟨v8,rfl⟩,q8,k8⟩;have w1:=Aa l8 w8 k8;have r8:=w1.D 0;simp at r8;have B9:=Ab q8;have d7:=Ab k8;clear s7 q8 k8 w1 r0 l8;go_wp2;refine g9 _ _ ?_;clear g9 K3;refine kI (λK3 g9=>?_);go_wp2;refine g9 _ _ ?_;clear g9 K3;refine wp_ret ?_;exact s3 _ _ rfl B9 d7
 case rstop=>
  intro D c B M' W2 _ h _;exact h.elim
end
section
variable{w:jH}{e:kN bN}{g:rC}{T:TypeId}{z:Value}{y:kN Value}{s t:bN}{M:kN Nat}{b n m:Nat}
def Rp(a):∀l t r,F5 a t (l++[r])=KI (F5 a t l) K a r++⟨#[10]⟩
 |[],t,r=>rfl
 |x::l,t,r=>by rw[nS,F5,Rp a l,F5]
def Ug:∀a c t b,(∀x∈c,x.size<=1000000)->(KI t b a c).size<=t.size+Z a*1000010
 |[],c,t,b,_=>by simp[KI]
 |v::a,[],t,b,_=>by simp[KI]
 |v::a,x::c,t,b,h=>by
  rw[KI];have f:=Ug a c ((if b then t++⟨#[32]⟩else t)++⟨#[v]⟩++⟨#[61]⟩++x) true (λy d=>h y sn);have e:((if b then t++⟨#[32]⟩else t)++⟨#[v]⟩++⟨#[61]⟩++x:bN).size<=t.size+1+1+1+x.size:=by
   rw[mj,mj,mj];cases b with
   |true=>
    rw[mo rfl,mj];show t.size+1+1+1+x.size<=_;omega
   |false=>
    show t.size+1+1+x.size<=_;omega
  have g:=h x ln;rw[mn];omega
def QH{a:kN rC}(b:Z a<=6):∀l t,(∀r∈l,∀x∈r,x.size<=1000000)->(F5 a t l).size<=t.size+Z l*10000000
 |[],t,_=>by simp[F5]
 |r::l,t,h=>by
  rw[F5];have d:=QH b l (KI t K a r++⟨#[10]⟩) (λr c=>h r ss);have e:=Ug a r t K (h r ln);rw[mj]at d;have g:(⟨#[10]⟩:bN).size=1:=rfl;exact li
structure lI(w:jH)(N:Nat)(vs:kN rC)(pre:kN (kN bN))(M:kN Nat)(W:jH):Prop where
 zz:Lp N (F5 vs ky (pre.map (F0 vs))) M W
 C:Ac [] w W
def lI.own{N B}{g}(j:w.heap.size<=B):OwnFrom B (fun(q:kN (kN bN)×kN Nat) W=>lI w N g q.1 q.2 W):=
 BF (λq W l M h a b=>by
  refine⟨?_,DK h.C a b j⟩
  obtain⟨p,k,i,e,d,c,f⟩:=h.zz
  exact⟨p,k,i,e,d.C a (CZ b d),Ag c a (BY b c),f⟩)
structure ir(vs:kN rC)(XS:kN (kN bN)):Prop where
 len:Z XS<=46656
 qK:∀x∈XS,∀v∈vs,A7 (NR x v)/\(NR x v).size<=1000
 ok:∀x∈XS,Z x=26
 vars:∀v∈vs,EB v
 six:Z vs<=6
def iy(c:Z e=26)(b:EB g)(a:A7 (NR e g)):NR (Bo e) g=AE (NR e g):=by
 unfold NR at a|-;obtain⟨f,d⟩:=b;unfold Bo;rw[mq,no,mc lc];rw[mq,mc lc]at a|-;exact CU a
def dj{q x n N}(h:w.ownsRow q T x z n y)(r:Lp N s M w)(l:(T==145)=K)(j:(T==5)=K):∀i,z.ownBlock=V i->i∉M:=by
 intro i d a;obtain⟨p,A,m,_,o,k,rfl⟩:=r;rcases l9.1 a with rfl|a
 .exact MF h o l _ d ln
 .have a:(U A s.size m).ownBlock=V i:=by simpa using a
  rcases k.2 with⟨b,_⟩|⟨g,c,f,b,_,u,_⟩
  .rw[b]at a;simp[kE]at a
  .rw[b]at a;simp only[kE,lZ]at a;subst a;exact MF (t:=5) h (N:=g) (cs:=f.toList) oa j _ d ln
def Tr(h:AF w b y T)(j:Lp n s M w)(f:(T==145)=K)(c:(T==5)=K):b∉M:=by
 intro a;obtain⟨p,k,g,_,i,d,rfl⟩:=j;rcases l9.1 a with rfl|a
 .exact Z0 h i f ln
 .have a:(U k s.size g).ownBlock=V b:=by simpa using a
  exact MF d h (by cases hh:((5:TypeId)==T)with|false=>rfl|true=>exact qr) b a ln
structure PA(w:jH)(N:Nat)(M:kN Nat)(W:jH)(g:Nat)(vs:kN rC)(x:kN bN)(t:bN)(wz:jH):Prop where
 zz:∃M2,Lp N t M2 wz/\ZB M W M2 wz
 row:wz.ownsRow 0 172 2 (U (V ⟨g,0,Y⟩) (Z vs) (Z vs)) (Z vs) (qS (Jp (Bo x)) vs)
 C:Ac [] w wz
def PA.step{w W a e}{N g}{M c}{d}{x}{t f}(q:w.heap.size=N)(h:PA w N M W g d x t a)(j:Lp N t c a)(m:ZB M W c a)(k:ej N f c a e):PA w N M W g d x f e:=by
 obtain⟨l,n,b,o⟩:=k;exact⟨⟨l,n,m.step b o⟩,Ag h.row b (dj h.row j lx lx),h.C.trans' b (λi p=>Or.inr (by have:=(j.lt i p).1;omega))⟩
def PA.calm{w W f c}{b}(h:PA w n M W m b e t f)(k:Ac [] f c):PA w n M W m b e t c:=by
 obtain⟨j,d,i⟩:=h.zz;exact⟨⟨j,d.C k,i.step (k.G ln) (λq a=>⟨Or.inl a,nR (d.lt q a).2 k.size⟩)⟩,Ad h.row k,h.C.H k⟩
set_option maxRecDepth 100000
theorem WF(B0 BA)(Q:kN CQ)(I A2 AT)(AH:kN L6)(o w)(hP:CA w (U B0 (Z Q) BA) Q)(hB:Ia Q I)(hQ:kP w (U A2 (Z AH) AT) AH o)(hq:∀s,(∀f∈s,DQ I f)->aF o s/\ir (Bf o) (Aw (Jr o s) o s (Bf o) Bm)):rE rF 52 #[U B0 (Z Q) BA,U A2 (Z AH) AT] w λr p=>∃(t:bN) (s:kN Ae) (L:bN->Nat) (n:Nat),r=j1 (O t)/\CP I L/\Hu I L n s/\(∀c∈I,L c.E.a<n)/\t=F5 (Bf o) ky ((Aw (Jr o s) o s (Bf o) Bm).map (F0 (Bf o)))/\Ac [] w p:=by
 obtain⟨N,hN⟩:=kQ w.heap.size;have HN:=Ab hN;have HO:=Ab ((kR [] w).alloc (.cells #[jj Y,U Y 0 0] 145));have Go:=Ab (Lp.new w);rw[hN]at Go;have JJ:=Ab (Lx B0 BA Q I _ (hP.C (Aa HO)) hB);have JA:Hid (∀cb s L n T,Ta (w.alloc (.cells #[jj Y,U Y 0 0] 145)) cb (U B0 (Z Q) BA) [] s T->Hu I L n s->rE rF 94 #[jj (V ⟨cb,1,Y⟩),U A2 (Z AH) AT] T λr p=>∃sp b1,r=j1 (.func (.func 140) #[] #[jj (V ⟨b1,0,Y⟩)])/\AF p b1 [jj (V ⟨sp,0,Y⟩)] 233/\T.heap.size<=b1/\(∀m,Ac [N] p m->eV m sp o s (Bf o))/\Ac [] T p):=by
  intro cb s L n T hC hI;obtain⟨a7,ap,fs,b6,b0,xs,g1,g2,g3,_⟩:=hC.o;have hc:=g1.D 1;have KA:AF T N [jj Y,U Y 0 0] 145:=by
   have h:=(kS w [jj Y,U Y 0 0] 145).C hC.C;rw[hN]at h;exact h
  have hw:=hB.zV hI;obtain⟨ao,a5⟩:=hq s hI.zS;exact S5 cb 1 a7 ap fs A2 AT AH o s T N _ KA (Z0 g1 KA lx) (by simpa using hc) g2 ⟨hQ.e.C ((Aa HO).H hC.C),hQ.map,hQ.zD,hQ.len⟩ g3 lc ao a5.six
 have M6:Hid (∀s L n,Hu I L n s->ir (Bf o) (Aw (Jr o s) o s (Bf o) Bm)):=λs L n hI=>(hq s hI.zS).2
 clear hP hB hQ hq hN;refine Eb func52 rfl (GD ?_);simp only[ntmps52,nu,mn,mI,Nat.reduceAdd,Nat.reduceSub,oF,oG,oX,oM,nk,nS];refine kI (λK1 A1=>?_);go_wp2;refine Aa A1 _ _ ?_;clear A1 K1;refine kI (λK1 A1=>?_);go_wp2;refine Aa A1 _ _ ?_;clear A1 K1;rw[Aa HN];generalize hw1:w.alloc (.cells #[jj Y,U Y 0 0] 145)=w1 at HO Go JJ JA|-;clear hw1;obtain⟨QQ,MN⟩:=kQ (KQ (bodyPostM Fence.wide 0 rF Tryz.f52 λr p=>∃(t:bN) (s:kN Ae) (L:bN->Nat) (n:Nat),r=j1 (O t)/\CP I L/\Hu I L n s/\(∀c∈I,L c.E.a<n)/\t=F5 (Bf o) ky ((Aw (Jr o s) o s (Bf o) Bm).map (F0 (Bf o)))/\Ac [] w p));have ZV:=Ab MN;rw[MN];clear MN;refine kI (λK1 A1=>?_);refine kI (λK5 QR=>?_);go_wp2_with fail
 refine(Aa JJ).G ?_;rintro _ T ⟨cb,s,L,n,rfl,g1,g2,g3,g4⟩;have N2:=Ab (Aa JA cb s L n T g1 g3);have KK:=Ab (Aa M6 s L n g3);have HI:=Ab (And.intro g2 (And.intro g3 g4));have LC:=Ab g1.C;clear JJ JA M6 g1 g2 g3 g4;go_wp2_with fail
 refine(Aa N2).G ?_;rintro _ w5 ⟨sp,b1,rfl,TH,bb,K8,k5⟩;have SS:Hid (Ac [] w1 w5):=(Aa LC).H k5;have RV:=Ab ((Aa Go).C (Aa SS));have Nx:=((Aa RV).lt N ln).2;have KA:N<T.heap.size:=by
  have h:=((Aa Go).C (Aa LC)).lt N ln;exact h.2
 obtain⟨a,LE⟩:=kQ (Bf o);obtain⟨XS,H0⟩:=kQ (Aw (Jr o s) o s a Bm);rw[LE]at K8 KK;rw[H0]at KK;have HA:=gC sp o s a w5 [N] K8 b1 w5 [N] ⟨kR _ _,TH,λk P=>by rw[lX]at P;subst P;exact⟨Or.inl ln,lc,Nx⟩⟩;rw[H0]at HA;have VL:Hid (Bf o=a/\Aw (Jr o s) o s a Bm=XS):=⟨LE,H0⟩;have P0:Hid (Ac [] w w5):=(Aa HO).H (Aa SS);have Wa:w.heap.size<=w5.heap.size:=(Aa P0).size;clear N2 TH bb K8 k5 LC Go LE H0;go_wp2;refine Aa QR _ _ ?_;clear QR K5;refine wp_block ?_;refine Tp rfl (enters_of func140 lo rfl) HA (λx vs W h=>by obtain⟨g,rfl,_⟩:=h;rfl) (λk P=>by rw[lX]at P;subst P;exact Nx) (lI w N a) (λ_ _ _ _=>False) (lI.own Wa) (λ_ _ _ _ _ h _ _=>h) ⟨Aa RV,Aa P0⟩
  (λn0 x a' W=>∃g,a'=⟨#[U B0 (Z Q) BA,U A2 (Z AH) AT,rH,rH,O ⟨#[]⟩,jj (V ⟨N,0,Y⟩),U (V ⟨g,0,Y⟩) (Z a) (Z a),rH,rH,U B0 (Z Q) BA,jj (V ⟨cb,1,Y⟩),U A2 (Z AH) AT,.func (.func 140) #[] #[jj (V ⟨b1,0,Y⟩)],U (V ⟨g,0,Y⟩) (Z a) (Z a),rH,rH,rH,rH,rH,rH,rH,rH,rH,rH,rH,rH,rH,rH,rH,rH,rH,rH,rH,rH,rH],[]⟩/\W.ownsRow 0 172 2 (U (V ⟨g,0,Y⟩) (Z a) (Z a)) (Z a) (qS (Jp (Bo x)) a))
  (λn0 x a'=>BF (λ_ W W' M h k hM=>by obtain⟨g,B,G⟩:=h;exact⟨g,B,Ag G k (BY hM G)⟩)) ?rassign ?rbody ?rdone ?rstop
 case rassign=>
  intro l x vs W' a1 hx _ W0 HK;obtain⟨g,rfl,hr⟩:=W0;have TS:Hid (∀a' Os,Ac [] W' Os->_->a1 a' Os):=HK;have HR:=Ab hr;clear HK hr HA;refine AM lx (G8 FY) ?_;go_wp2;exact Aa TS _ _ (kR _ _) ⟨g,rfl,Aa HR⟩
 case rbody=>
  intro l n0 EY x bt M a' W H7 hi hM aa UO ad;obtain⟨g,rfl,hr⟩:=ad;have AB:=Aa KK;have KS:x∈XS:=by rw[H7];simp
  obtain⟨T0,HQ⟩:=kQ (F5 a ky (EY.map (F0 a)));have BS:=hi.zz;rw[HQ]at BS;have U0:Hid (PA w N M W g a x T0 W):=⟨⟨M,BS,⟨kR _ _,λq hq=>⟨Or.inl hq,(BS.lt q hq).2⟩⟩⟩,hr,hi.C⟩;have b7:T0.size<=466560000000:=by
   have B:=QH AB.six (EY.map (F0 a)) ky (λr hr y hy=>by
    obtain⟨z,hz,rfl⟩:=me.1 hr
    obtain⟨v,hv,rfl⟩:=me.1 hy
    have:=(AB.qK z (by rw[H7];exact nP _ hz) v hv).2
    omega)
   rw[HQ,mh]at B;(have G:Z EY<=Z XS:=by rw[H7];simp);have h3:Z EY*10000000<=46656*10000000:=m5 _ (by have:=AB.len;omega);have h4:ByteArray.empty.size=0:=rfl;omega
  obtain⟨RT,IS⟩:=kQ (KI T0 K a (F0 a x));have W1:Hid (KI T0 (decide (0<0)) (a.drop 0) ((F0 a x).drop 0)=RT):=IS;have Ix:Hid (∀m,PA w N M W g a x (RT++⟨#[10]⟩) m->Mi (lI w N a) (λ_ _ _ _=>False) (EY++[x]) M W .normal ⟨#[],[]⟩ m):=by
   intro m hz;obtain⟨M2,B,G⟩:=hz.zz;refine⟨G.C,M2,⟨?_,hz.C⟩,G.mem⟩;rw[mO,mA,om,Rp,HQ,IS];exact B
  have YP:Hid (∀v∈a,B3 (NR (Bo x) v)=NR x v/\(NR x v).size<=1000/\(NR (Bo x) v).size<=1000000):=λv hv=>by
   obtain⟨hc,hz⟩:=AB.qK x KS v hv;rw[iy (AB.ok x KS) (AB.vars v hv) hc];have:=Lu (NR x v);exact⟨GC hc,hz,lc⟩
  have TT:Hid (∀v∈a,EB v):=AB.vars;have h6:=AB.six;have MB:=Aa HN;have Jx:Hid (∀(d:rC) t m,PA w N M W g a x t m->t.size+1<=140737488355328->rE rF 77 #[jj (V ⟨N,0,Y⟩),X .u8 (d.toNat:Int)] m λe p=>e=j1 .nilIface/\PA w N M W g a x (t++⟨#[d]⟩) p/\∀b cs,AF m b cs 172->AF p b cs 172):=by
   intro d t m h hl;obtain⟨M2,B,G⟩:=h.zz;refine(UI N t M2 d m B hl).G ?_;rintro e p ⟨rfl,hW⟩;refine⟨rfl,h.step MB B G hW,λb cs hb=>?_⟩;obtain⟨_,_,P,_⟩:=hW;exact hb.C P (Tr hb B lx lx)
  have VR:Hid (∀(d:rC) t m,PA w N M W g a x t m->d.toNat<=127->t.size+1<=140737488355328->rE rF 95 #[jj (V ⟨N,0,Y⟩),X .i32 (d.toNat:Int)] m λe p=>(∃v,e=j1 v)/\PA w N M W g a x (t++⟨#[d]⟩) p/\∀b cs,AF m b cs 172->AF p b cs 172):=by
   intro d t m h hd hl;obtain⟨M2,B,G⟩:=h.zz;refine(bO N t M2 d m B hd hl).G ?_;rintro e p ⟨hv,hW⟩;refine⟨hv,h.step MB B G hW,λb cs hb=>?_⟩;obtain⟨_,_,P,_⟩:=hW;exact hb.C P (Tr hb B lx lx)
  have an:Hid (∀(y:bN) t m,PA w N M W g a x t m->t.size+y.size<=140737488355328->rE rF 75 #[jj (V ⟨N,0,Y⟩),O y] m λe p=>e=j1 (.tuple #[X .i64 y.size,.nilIface])/\PA w N M W g a x (t++y) p):=by
   intro y t m h hl;obtain⟨M2,B,G⟩:=h.zz;refine(XD N t M2 y m B hl).G ?_;rintro e p ⟨rfl,hW⟩;exact⟨rfl,h.step MB B G hW⟩
  clear hi hr BS AB KS HQ IS H7 hM aa UO HA;refine wpIn_block ?_;refine nK (λK3 HD=>?_);have HH:=Ab HD;clear HD;refine nK (λH u=>?_);have A:=Ab u;clear u;refine AM lx lB ?_;go_wp2;refine Aa A _ _ ?_;clear A H;refine wpIn_block ?_
  gi_loopw [16] (λi m=>∃(j:Nat) (t:bN),i=X .i64 j/\j<=Z a/\t.size<=T0.size+j*1000010/\Hid (KI t (decide (0<j)) (a.drop j) ((F0 a x).drop j)=RT)/\Hid (PA w N M W g a x t m)) (λi _=>Z a-(rG i).toNat)
  case atStart=>exact⟨0,T0,rfl,mr _,lc,W1,U0⟩
  case round=>
   obtain⟨j,t,rfl,hj,av,HC,FT⟩:=hrel;have b2:j*1000010<=6*1000010:=m5 _ lc;by_cases CC:j<Z a
   .obtain⟨g',bx,he,_,KD⟩:=Az (Aa FT).row (λc _=>Ua (Bo x) c) j CC;simp only[lU,lZ,mR]at he;obtain⟨⟨rfl,-,-⟩,-,-⟩:=he;have d0:=KD j CC 0 lc;have d1:=KD j CC 1 lc;simp[Jp]at d0 d1;(have aT:j<Z (F0 a x):=by unfold F0;rw[mh];exact CC);have HB:Hid (KI ((if decide (0<j)then t++⟨#[32]⟩else t)++⟨#[a[j]]⟩++⟨#[61]⟩++NR x a[j]) true (a.drop (j+1)) ((F0 a x).drop (j+1))=RT):=by
     have h:=Aa HC;rw[mu CC,mu aT,KI]at h;(have e:(F0 a x)[j]=NR x a[j]:=by simp[F0]);rw[e]at h;exact h
    obtain⟨HL,M0,HV⟩:=Aa YP a[j] (lV CC);have af:=(Aa TT a[j] (lV CC)).2;obtain⟨E,hV⟩:=kQ (a[j]);rw[hV]at d0 d1 HB HL M0 HV af;obtain⟨Ax,hY⟩:=kQ (NR (Bo x) E);obtain⟨E0,hX⟩:=kQ (NR x E);rw[hY]at d1 HL HV;rw[hX]at HB HL M0;obtain⟨ca,WB⟩:=rI (lc:j<Z a);have NV:=Ab (λm=>Kf Ax m HV);rw[HL]at NV;clear KD HC hV hY hX HL HV;refine nK (λH u=>?_);have A:=Ab u;clear u;refine AM lx lB ?_;go_wp2;refine Aa A _ _ ?_;clear A H;refine nK (λH u=>?_);have A:=Ab u;clear u;refine pm rfl (wpIn_skip ?_);refine Aa A _ _ ?_;clear A H;refine nK (λK6 NL=>?_);have Mo:=Ab NL;clear NL;refine wpIn_block ?_;refine nK (λH u=>?_);have A:=Ab u;clear u;refine AM lx lB ?_;have HX:=Ab (kS wr [X .i32 (E.toNat:Int),O Ax] 172);have HZ:=Ab ((Aa FT).calm ((kR [] wr).alloc (.cells #[X .i32 (E.toNat:Int),O Ax] 172)));go_wp2;refine Aa A _ _ ?_;clear A H;change Code.wpIn _ _ _ _ _ _ (wr.alloc (.cells #[X .i32 (E.toNat:Int),O Ax] 172));generalize wr.alloc (.cells #[X .i32 (E.toNat:Int),O Ax] 172)=w7 at HX HZ|-;obtain⟨NX,S0⟩:=kQ wr.heap.size;rw[S0]at HX|-;clear S0 d0 d1 FT;obtain⟨F,LL,ce⟩:∃F,(if decide (0<j)then t++⟨#[32]⟩else t)=F/\F.size<=t.size+1:=⟨_,rfl,by
     split
     .rw[mj];exact mt _
     .omega⟩
    rw[LL]at HB;have NB:Hid (KI (F++⟨#[E]⟩++⟨#[61]⟩++E0) (decide (0<j+1)) (a.drop (j+1)) ((F0 a x).drop (j+1))=RT):=by
     have h:=Aa HB;show _=_;simpa using h
    have NE:(F++⟨#[E]⟩++⟨#[61]⟩++E0:bN).size<=T0.size+(j+1)*1000010:=by
     rw[mj,mj,mj];show F.size+1+1+E0.size<=_;omega
    (have TV:(F++⟨#[E]⟩:bN).size=F.size+1:=by rw[mj];rfl);(have cl:(F++⟨#[E]⟩++⟨#[61]⟩:bN).size=F.size+1+1:=by rw[mj,TV];rfl);have TL:=Ab LL;clear HB LL;refine nK (λH u=>?_);have A:=Ab u;clear u;have NA:Hid (∀SL Op SP m,PA w N M W g a x F m->AF m NX [X .i32 (E.toNat:Int),O Ax] 172->H ⟨#[U B0 (Z Q) BA,U A2 (Z AH) AT,rH,rH,O ⟨#[]⟩,jj (V ⟨N,0,Y⟩),U (V ⟨g,0,Y⟩) (Z a) (Z a),X .i64 j,jj (V ⟨NX,0,Y⟩),U B0 (Z Q) BA,jj (V ⟨cb,1,Y⟩),U A2 (Z AH) AT,.func (.func 140) #[] #[jj (V ⟨b1,0,Y⟩)],U (V ⟨g,0,Y⟩) (Z a) (Z a),U (V ⟨g,0,Y⟩) (Z a) (Z a),X .i64 (Z a),X .i64 j,.bool true,X .i64 j,jj (V ⟨g,j*2,Y⟩),.agg #[X .i32 (E.toNat:Int),O Ax],SL,Op,SP,u24,u25,u26,u27,u28,u29,u30,u31,u32,rH,rH],[]⟩ m):=by
     intro SL Op SP m C KB;refine Aa A _ _ ?_;have e0:=KB.D 0;simp at e0;have SJ:=Ab (Aa VR E F m C lc lc);have S1:=Ab KB;clear A C KB;refine nK (λK7 Bx=>?_);have S:=Ab Bx;clear Bx;refine AM lx lB ?_;(go_wp2_with fail);refine(Aa SJ).G ?_;rintro _ w8 ⟨⟨v8,rfl⟩,C,R⟩;have OH:=Ab (R _ _ (Aa S1));have ST:=Ab (Aa Jx 61 (F++⟨#[E]⟩) w8 C lc);clear SJ S1 C R e0;go_wp2;refine Aa S _ _ ?_;clear S K7;refine nK (λK7 Bx=>?_);have S:=Ab Bx;clear Bx;refine AM lx lB ?_;(go_wp2_with fail);refine(Aa ST).G ?_;rintro _ w9 ⟨rfl,C,R⟩;have NN:=R _ _ (Aa OH);have e1:=NN.D 1;simp at e1;have SB:=Ab (Aa an E0 (F++⟨#[E]⟩++⟨#[61]⟩) w9 C lc);have Nj:=Ab (Aa NV w9);clear ST OH C R NN;go_wp2;refine Aa S _ _ ?_;clear S K7;refine AM lx lB ?_;(go_wp2_with fail);refine(Aa Nj).G ?_;rintro _ ch ⟨rfl,rfl⟩;clear Nj;(go_wp2_with fail);refine(Aa SB).G ?_;rintro _ b4 ⟨rfl,C⟩;have a9:=Ab C;clear SB C e1;go_wp2;refine Aa Mo _ _ ?_;clear Mo;refine AM lx lB ?_;go_wp2
     go_roundw
     case rel=>exact⟨j+1,_,ly,lc,NE,NB,a9⟩
     case measure=>simp[rG];omega
    clear A Mo NB NE;refine nK (λK7 Bx=>?_);have S:=Ab Bx;clear Bx;refine AM lx lB ?_;by_cases h0:0<j
    ·have a4:(0:Int)<(j:Int):=lc;have EX:Hid (t++⟨#[32]⟩=F):=by
      have h:=Aa TL;rw[mo (by simpa using h0)]at h;exact h
     have FC:=Ab (Aa Jx 32 t w7 (Aa HZ) lc);rw[Aa EX]at FC;go_wp2;refine Aa S _ _ ?_;clear S K7;refine pm rfl ?_;refine AM lx lB ?_;(go_wp2_with fail);refine(Aa FC).G ?_;rintro _ w8 ⟨rfl,C,R⟩;have a3:=Ab C;have WS:=Ab (R _ _ (Aa HX));clear FC C R;go_wp2;exact Aa NA _ _ _ _ (Aa a3) (Aa WS)
    ·have a4:¬(0:Int)<(j:Int):=lc;have EX:Hid (t=F):=by
      have h:=Aa TL;rw[mm (by simpa using h0)]at h;exact h
     rw[Aa EX]at HZ;go_wp2;refine Aa S _ _ ?_;clear S K7;refine pg rfl (wpIn_skip ?_);exact Aa NA _ _ _ _ (Aa HZ) (Aa HX)
   .have EX:Hid (t=RT):=by
     have h:=Aa HC;rw[mN lc]at h;(have e:∀(b:rD) (l:kN bN),KI t b [] l=t:=λb l=>by cases l<;>rfl);rw[e]at h;exact h
    rw[Aa EX]at av FT;have FC:=Ab (Aa Jx 10 RT wr (Aa FT) lc);have WB:¬(j:Int)<(Z a:Int):=lc;clear HC EX FT;refine nK (λH u=>?_);have A:=Ab u;clear u;refine AM lx lB ?_;go_wp2;refine Aa A _ _ ?_;clear A H;refine nK (λH u=>?_);have A:=Ab u;clear u A;refine pg rfl (wpIn_exit ?_);refine Aa HH _ _ ?_;clear HH;refine AM lx lB ?_;(go_wp2_with fail);refine(Aa FC).G ?_;rintro _ w8 ⟨rfl,C,_⟩;have HP:=Ab (Aa Ix w8 C);clear FC C Ix;go_wp2;exact Aa HP
 case rdone=>
  intro D M' W2 hD hi hd _;have W3:D≠N:=lc
  obtain⟨TX,K9⟩:=kQ (F5 a ky (XS.map (F0 a)));have BS:=hi.zz;rw[K9]at BS;have Df:=Ab (Xl N TX M' W2 BS);have Ix:Hid (∀(LB:Array Value) p,LB.getD 4 rH=O TX->Below N W2 p->Lib.OthersKept 5 (V N) W2 p->QQ .ret ⟨LB,[EJ D]⟩ p):=by
   intro LB p h4 R WW;rw[<-Aa ZV];have NY:Dy w.heap.size [D] p:=⟨ln,λd HT=>by simp only[lX]at HT;omega,λd HT=>by simp only[lX]at HT;rw[HT];exact WW D _ hd (by simpa using W3) (λc fz h=>oj)⟩;refine Dh [D] p NY (λcf hs=>?_);have a0:OwnFrom w.heap.size (fun(_:Unit) W=>Ac [] w W):=BF (λ_ W W' M h kk hM=>DK h kk hM (mt _));have a2:Ac [] w p:=by
    have h:=R;rw[<-Aa HN]at h;exact Ip hi.C h
   have P:=hs.own a0 (s:=()) NY a2;obtain⟨g2,g3,g4⟩:=Aa HI;obtain⟨e1,e2⟩:=Aa VL;refine⟨_,results_tmp rfl _ _ _,TX,s,L,n,by rw[h4],g2,g3,g4,?_,P⟩;rw[e1,e2,K9]
  clear hi hd BS K9 HA;refine Aa A1 _ _ ?_;clear A1;refine kI (λK3 HH=>?_);go_wp2_with fail
  refine(Aa Df).G ?_;rintro _ w3 ⟨rfl,B,G⟩;have ar:=Ab B;have X2:=Ab G;clear Df B G;go_wp2;refine Aa HH _ _ ?_;clear HH K3;refine wp_ret ?_;exact Aa Ix _ _ rfl (Aa ar) (Aa X2)
 case rstop=>
  intro D c EY M' W2 _ h _;exact h.elim
end
section
variable{P:Program}{a:Act}{Q:Exit->Act->jH->Prop}{w:jH}{m i n k j b:Nat}{T:TypeId}{y:kN jR}{p:kN CQ}{c:kN AW}{s:bN}
def Jl(w){G}{o}{q}{E}(r:o.guard=Y)(s x t)(H:o.op=.call {callee:=.builtin .append,args:=#[s,x],argTypes:=#[t,t]})(l e i f)(C:P.underlying t=V (.slice e))(z:P.info? e=V i)(B:i.size=f)(g k b)(p:kN jR)(L:a.eval s=U (V ⟨g,0,Y⟩) k b)(v:kt w l e f (U (V ⟨g,0,Y⟩) k b) k p)(n m c)(h:kN jR)(M:a.eval x=U (V n) m c)(N:Z h=m*f)(S:∀j u,h[j]?=V u->w.cell? (n.add j)=V u)(F:∀u∈h,u.oneCell'=true)(y:k+m<=b)(D:∀d,kt d l e f (U (V ⟨g,0,Y⟩) (k+m) b) (k+m) (p++h)->w.grownBy d (V g)->q (a.put o.dst (U (V ⟨g,0,Y⟩) (k+m) b)) d):
  if Region.wanted o (yielded G a.tmps)=true then Oper.wp P o a w q Q else E:=by
 rw[mo (by unfold Region.wanted;simp[r])];obtain⟨d,I,A,R⟩:=run_append_fits (P:=P) w l t o.type e i f C z B g k b p v n m c h N S F y;unfold Oper.wp execOp;simp only[H,resolve,invoke,builtin,pL,Sem.run_pure,Result.andThen_ok,List.map_toArray,mA,om,L,M,I];exact D d A R
def U2(h:kt w m T i (U (V ⟨j,0,Y⟩) n b) n y)(d:k<=n):kt w m T i (U (V ⟨j,0,Y⟩) k b) k (qT (k*i) y):=by
 have c:k*i<=n*i:=m5 _ d;refine⟨by rw[mT,h.1];omega,?_⟩;rcases h.2 with⟨T,_⟩|⟨t,s,a,T,q,o,r,f,l,p⟩
 .simp at T
 .obtain⟨rfl,rfl⟩:=T;refine Or.inr ⟨j,b,a,rfl,q,o,lc,f,l,?_⟩;rw[<-p,pi,oP c]
def i7{a:kN D5}(h:kt w n 104 2 (U (V ⟨m,0,Y⟩) (Z a) i) (Z a) (qS AJ a))(k)(d:k<=Z a):∀j u,(qS AJ (a.drop k))[j]?=V u->w.cell? ((⟨m,k*2,Y⟩:Addr).add j)=V u:=by
 intro j u b;have c:=(Jv AJ 2 a k (λ_ _=>rfl) d).2;rw[c,pB]at b;rcases h.2 with⟨e,_⟩|⟨s,p,o,e,_,l,r,_,q,f⟩
 .simp at e
 .obtain⟨rfl,rfl⟩:=e;rw[<-f,nV]at b;split at b
  .rw[Array.getElem?_toList]at b;rw[oN];simp[World.cell?,l,b]
  .cases b
set_option maxRecDepth 100000
theorem Wq(g f)(d:kN D5)(i n w)(h:kt w n 104 2 (U (V ⟨g,0,Y⟩) (Z d) f) (Z d) (qS AJ d))(FL:Z d<=900000)(hi:i<Z d)(BS:∀u∈qS AJ (d.drop (i+1)),u.oneCell'=true):rE rF 109 #[U (V ⟨g,0,Y⟩) (Z d) f,X .i64 i,X .i64 ((i:Int)+1)] w λe w'=>e=j1 (U (V ⟨g,0,Y⟩) (Z (d.eraseIdx i)) f)/\kt w' n 104 2 (U (V ⟨g,0,Y⟩) (Z (d.eraseIdx i)) f) (Z (d.eraseIdx i)) (qS AJ (d.eraseIdx i))/\Ac [g] w w':=by
 have C:=Ab h;have FF:Z d<=f:=by
  rcases h.2 with⟨e,_⟩|⟨z,N,l,e,_,_,hc,_⟩
  .simp at e
  .simp only[lU]at e;omega
 have h1:(i:Int)<=(i:Int)+1:=lc
 have h2:(i:Int)+1<=(Z d:Int):=lc
 have h3:=rJ i
 have HG:f<=9223372036854775807:=by
  rcases h.2 with⟨e,_⟩|⟨z,N,l,e,_,_,hc,hm,_⟩
  .simp at e
  .simp only[lU]at e;unfold maxLen at hm;omega
 have FC:((i:Int)==(i:Int)+1)=false:=by simp only[mM,ne_eq];omega
 clear h;go_enter func109,ntmps109;have HC:i<=f:=lc
 have HE:i+1<=f:=lc
 have Go:i+1<=Z d:=lc
 obtain⟨W,AR,HA,A1,HJ⟩:=mW Tryz.zc;have h4:(0:Int)<=(i:Int)+1:=lc
 have T:Hid (kt w n 104 2 (U (V ⟨g,0,Y⟩) i f) i (qS AJ (qT i d))):=by
  have h:=U2 (k:=i) (Aa C) lc;rw[<-(Jv AJ 2 d i (λ_ _=>rfl) lc).1]at h;exact h
 have A2:=Ab (i7 (Aa C) (i+1) lc);have G:∀u∈qS AJ (d.drop (i+1)),u.oneCell'=true:=BS;have y:Z (qS AJ (d.drop (i+1)))=(Z d-(i+1))*2:=by
  rw[(Jv AJ 2 d (i+1) (λ_ _=>rfl) lc).2,mX,(Aa C).1];omega
 have r:Hid (qS AJ (qT i d)++qS AJ (d.drop (i+1))=qS AJ (d.eraseIdx i)/\i+(Z d-(i+1))=Z (d.eraseIdx i)):=by
  refine⟨?_,?_⟩
  .rw[<-mD,List.eraseIdx_eq_take_drop_succ]
  .rw[List.length_eraseIdx,mo hi];omega
 obtain⟨p,R⟩:=kQ (qS AJ (d.drop (i+1)));rw[R]at A2 G y r;clear R;go_wp2_with fail
 by_cases x:f=i+1
 case' pos=>
  have HB:=Ab x;have v:(f=i+1)=True:=eq_true x;have Ax:p=[]:=ot (by rw[y];omega);clear x
  go_region_law (refine Jl _ lx _ _ _ lx n 104 W 2 underlying113 AR A1 g i f (qS AJ (qT i d)) lx (CV (Aa T)) ⟨g,0,Y⟩ (Z d-(i+1)) (f-(i+1)) p lx y (λj u s=>by rw[Ax]at s;simp at s) G lc ?_;intro m H D)
  clear v Ax
 case' neg=>
  go_region_law (refine Jl _ lx _ _ _ lx n 104 W 2 underlying113 AR A1 g i f (qS AJ (qT i d)) lx (CV (Aa T)) ⟨g,(i+1)*2,Y⟩ (Z d-(i+1)) (f-(i+1)) p lx y (λj u s=>Aa A2 j u s) G lc ?_;intro m H D)
  clear x
 all_goals
  obtain⟨L,F⟩:=kQ (Z (d.eraseIdx i));have HD:Z d=L+1:=by have:=(Aa r).2;omega
  have t:=H;rw[(Aa r).1,(Aa r).2,F]at t;rw[(Aa r).2,F];have A0:=Ab t;have AO:=Ab (((kR [g] w).drew).grown D (λq v=>Or.inl (by simp at v;simp[v])));obtain⟨l,I,CL⟩:∃l:Array jR,m.heap[g]?=V (Y6 l 104 (0,0))/\l.size=f*2:=by
   rcases t.2 with⟨e,_⟩|⟨z,N,l,e,_,hg,_,_,hs,_⟩
   .simp at e
   .simp only[lU,lZ,mR,and_true,true_and]at e;obtain⟨rfl,rfl⟩:=e;exact⟨l,hg,hs⟩
  have o:AF m g l.toList 104:=by unfold AF;rw[I]
  have A:=o.D (L*2);have E:=o.D (L*2+1);have Bx:=o.qI (L*2);have AH:=o.qI (L*2+1);rw[Array.getElem?_toList,Array.getElem?_eq_getElem lc]at A E;have HH:(L:Int)<=(Z d:Int):=lc
  have Ha:L<=Z d:=lc
  have FP:Z d<=f:=lc
  have HL:¬f=L:=lc
  have FW:=rJ L
  have HK:Z d-L=1:=lc
  clear H D t;have HN:∀ty c,(Builtin.clear_ #[113] ty #[U (V ⟨g,L*2,Y⟩) 1 c]).run rF m=.ok (.tuple #[]) (m.setCells g (L*2) [O ⟨#[]⟩,U Y 0 0]):=by
   intro ty c;have S:=run_storeCells_cells (P:=rF) g (L*2) [O ⟨#[]⟩,U Y 0 0] 0 m (λj B=>by
    rcases j with _|_|j
    .simp[A]
    .simp[E]
    .simp at B;omega) (λj B=>by
    rcases j with _|_|j
    .simpa using Bx
    .simpa using AH
    .simp at B;omega) lC
   simp only[pN]at S;(have EY:(Builtin.zeroCells (ku #[O ⟨#[]⟩,U Y 0 0]).cells 1).toList=[O ⟨#[]⟩,U Y 0 0]:=by first|kernel_rfl|(simp[Builtin.zeroCells,Value.cells];done)|decide);simp[Builtin.clear_,qh underlying113,zeroValue104,EY,S]
  have B9:Hid (World.ownsRow (m.setCells g (L*2) [O ⟨#[]⟩,U Y 0 0]) n 104 2 (U (V ⟨g,0,Y⟩) L f) L (qS AJ (d.eraseIdx i))):=by
   have hr:=Aa A0;have EK:=o.setCells [O ⟨#[]⟩,U Y 0 0] (L*2);refine⟨hr.1,?_⟩;rcases hr.2 with⟨e,_⟩|⟨z,N,FT,e,e2,Q,e4,e5,e6,e7⟩
   .simp at e
   .simp only[lU,lZ,mR,and_true,true_and]at e;obtain⟨rfl,rfl⟩:=e;rw[I]at Q;simp only[lZ,Obj.cells.injEq,and_true]at Q;subst Q;have EM:Z (NZ l.toList (L*2) [O ⟨#[]⟩,U Y 0 0])=Z l.toList:=DU _ _ _;refine Or.inr ⟨g,f,(NZ l.toList (L*2) [O ⟨#[]⟩,U Y 0 0]).toArray,rfl,e2,EK,e4,e5,by simp only[nu];rw[EM,Array.length_toList];exact e6,?_⟩;rw[<-e7,Hb _ _ _ li,mY,m8 li,pi,Nat.min_self]
  have FB:=Ab (Ac.setCells (M:=[g]) (a:=w) (b:=g) ln [O ⟨#[]⟩,U Y 0 0] (L*2) (Aa AO));clear A E Bx AH I CL o A0 AO;go_wp2_with fail
  go_ret;rw[F];exact⟨rfl,B9,FB⟩
def Vr(fs:kN D5)(x:CE)(p:Nat):kN D5:=if Dg fs x p then fs.eraseIdx p else fs
structure gO(sb so:Nat)(cells:kN jR)(ty:TypeId)(sv:jR)(fs:kN D5)(x:CE)(w w':jH):Prop where
 o:∃(p:Nat) (ad:rB) (cp:Nat),EW fs x p/\AF w' sb (cells.set so (U ad (Z (Vr fs x p)) cp)) ty/\Ic w' (U ad (Z (Vr fs x p)) cp) (Vr fs x p)/\∀q,(U ad (Z (Vr fs x p)) cp).ownBlock=V q->sv.ownBlock=V q
 C:Ac (sb::qV (qW sv)) w w'
def gX{a}{x}(h:Dg a x n=true):n<Z a:=by
 unfold Dg at h;by_cases b:n<Z a
 .exact b
 .simp[b]at h
theorem gF(l d y A r k)(a:kN D5)(c b o n w)(H:AF w l y A)(I:y[d]?=V (U r (Z a) k))(FB:104≠A)(E0:170≠A)(h:Ic w (U r (Z a) k) a)(hx:C6 w ⟨⟨c,b⟩,U o (Z b) n⟩)(EK:Z b<=1000)(HD:Z a<=900000)(DT:∀i j (x:i<Z a) (hj:j<Z a),i<=j->CT a[j].f ⟨c,b⟩<0->CT a[i].f ⟨c,b⟩<0):rE rF 64 #[jj (V ⟨l,d,Y⟩),ku #[O c,U o (Z b) n]] w λe m=>e=j1 (.tuple #[])/\gO l d y A (U r (Z a) k) a ⟨c,b⟩ w m:=by
 have HC:=H.lt;have AH:Hid (∀wr,Ac [] w wr->rE rF 103 #[U r (Z a) k,ku #[O c,U o (Z b) n],.func _ #[] #[]] wr λe m=>∃p:Nat,e=j1 (.tuple #[X .i64 p,.bool (Dg a ⟨c,b⟩ p)])/\EW a ⟨c,b⟩ p/\Ac [] wr m):=λwr hk=>IX r k a ⟨_,_⟩ wr (h.C hk) (C6.C hx hk) EK lc DT
 have HB:=Ab H;have HP:=Ab h;have hK:=(kR [] w).alloc (Y6 #[O c,U o (Z b) n] 104);have T:=(H.alloc (Y6 #[O c,U o (Z b) n] 104)).D d;rw[I]at T;have CL:=Ab I;have ES:Hid (y.set d (U r (Z a) k)=y):=by
  show _=_;obtain⟨AO,e⟩:=oI.1 I;rw[<-e,List.set_getElem_self]
 clear I;have B:=kS w [O c,U o (Z b) n] 104;have S:=Ab hK;clear h hx DT hK H;go_enter func64,ntmps64;go_wp2_with fail
 change Code.wp _ _ _ _ (w.alloc (Y6 #[O c,U o (Z b) n] 104));generalize w.alloc (Y6 #[O c,U o (Z b) n] 104)=w1 at S T B|-;obtain⟨N,A0⟩:=kQ w.heap.size;rw[A0]at B|-;clear A0;obtain⟨x0,x1⟩:=B.c2;simp at x0 x1;have A1:=Ab (AH _ S.drew);clear AH B
 go_region_law (go_simp;go_at_call 103;refine A1.G ?_;rintro e L ⟨p,rfl,hcut,k3⟩;have BS:=Ab hcut;have D:=Ab (S.drew.H k3);clear hcut k3)
 all_goals
  clear A1 T x0 x1;have z:=Ab (HP.C D);have E:=Ab (HB.C D);obtain⟨HT,M⟩:=kQ (Dg a ⟨c,b⟩ p);have W:=Ab M;rw[M];clear M;have FW:=D.size;cases HT with
  |false=>
   (have v:Hid (Vr a ⟨c,b⟩ p=a):=by show _=_;unfold Vr;rw[Aa W,mm ln]);go_wp2;go_end0;refine⟨rfl,⟨p,r,k,BS,?_,?_,?_⟩,D.G ln⟩
   .rw[Aa v,Aa ES];exact E
   .rw[Aa v];exact z
   .rw[Aa v];exact λq t=>t
  |true=>
   have AO:=gX (Aa W);(have v:Hid (Vr a ⟨c,b⟩ p=a.eraseIdx p):=by show _=_;unfold Vr;rw[Aa W,mo rfl]);obtain⟨g,rfl⟩:∃g,r=V _:=by
    rcases(z.row).2 with⟨e,h0⟩|⟨g,Ha,HE,e,_⟩
    .omega
    .simp only[lU]at e;exact⟨g,e.1⟩
   have CC:g≠l:=λe=>by
    subst e;exact Ap z.row E FB lx
   have B0:Hid (∀F,Ac [] L F->rE rF 109 #[U (V ⟨g,0,Y⟩) (Z a) k,X .i64 p,X .i64 (p+1)] F λe m=>e=j1 (U (V ⟨g,0,Y⟩) (Z (a.eraseIdx p)) k)/\m.cell? ⟨l,d,Y⟩=V (U (V ⟨g,0,Y⟩) (Z a) k)/\m.frozen? ⟨l,d,Y⟩=false/\gO l d y A (U (V ⟨g,0,Y⟩) (Z a) k) a ⟨c,b⟩ w (m.setCell ⟨l,d,Y⟩ (U (V ⟨g,0,Y⟩) (Z (a.eraseIdx p)) k))):=by
    intro F Q;have s:=z.C Q;have AT:=E.C Q;refine(Wq g k a p 0 F s.row lc AO (λu hu=>by
     obtain⟨q,t,h2⟩:=mH.1 hu
     exact ZQ (s.j q (oR t)).1 u h2)).G ?_
    rintro _ m ⟨rfl,FF,P⟩;have R:=AT.C P li;have AR:=R.D d;rw[Aa CL]at AR;refine⟨rfl,AR,R.qI d,⟨p,V ⟨g,0,Y⟩,k,BS,?_,?_,?_⟩,?_⟩
    .rw[Aa v];exact R.set d _
    .rw[Aa v];have EX:Ac [l] m (m.setCell _ (U (V ⟨g,0,Y⟩) (Z (a.eraseIdx p)) k)):=(kR [l] m).setCell (p:=⟨l,d,Y⟩) ln _;refine⟨Ah FF (p:=⟨l,d,Y⟩) (by simpa[kE] using CC) _,λq t=>?_⟩;have G:=List.mem_of_mem_eraseIdx t;refine⟨Ag (Ag (s.j q G).1 P (λi x C=>?_)) EX (λi x C=>?_),(s.j q G).2⟩
     .simp only[lX]at C;subst C;exact Be (s.j q G).1 s.row lu i x lx
     .simp only[lX]at C;subst C;exact Ap (s.j q G).1 AT E0 x
    .rw[Aa v];intro q t;simpa[kE] using t
    .exact((D.H Q).G ln).trans' (N:=[g]) P (λi x=>Or.inl (by simp at x;simp[x,kE]))|>.setCell (p:=⟨l,d,Y⟩) ln _
   have c3:=E.D d;rw[Aa CL]at c3;have FO:(p:Int)+1<=9223372036854775807:=lc;clear z;(go_wp2_with fail);refine(B0 L (kR [] L)).G ?_;rintro _ w5 ⟨rfl,q0,q1,B9⟩;have FC:=Ab B9;clear B0 B9 c3;(go_wp2_with fail);go_end0;exact⟨rfl,FC⟩
def N9:∀{l:kN Ae},l.Nodup->∀p b,l.filter (λg=> !CB g l[p])=l.eraseIdx p
 |[],_,p,b=>by simp at b
 |a::l,hn,0,b=>by
  obtain⟨c,f⟩:=od.1 hn;have e:=(F1 a a).2 rfl;simp only[pu,nJ,e,oK,ma,rm,List.eraseIdx_cons_zero];refine List.filter_eq_self.2 λg h=>?_
  cases hb:CB g a with
  |false=>rfl
  |true=>rw[(F1 g a).1 hb]at h;exact rl h c
 |a::l,hn,p+1,b=>by
  obtain⟨c,f⟩:=od.1 hn;have d:p<Z l:=sB
  have e:CB a l[p]=false:=by
   cases hb:CB a l[p] with
   |false=>rfl
   |true=>rw[(F1 _ _).1 hb]at c;exact rl (lV d) c
  simp only[List.getElem_cons_succ,nJ,e,nE,ro,List.eraseIdx_cons_succ,N9 f p d]
def OZ{α β:Type}(f:α->β):∀(l:kN α) (i),(l.eraseIdx i).map f=(l.map f).eraseIdx i
 |[],i=>ln
 |a::l,0=>ln
 |a::l,i+1=>by simp[OZ f l i]
def CJ.rem{a}{s}(h:CJ a s){f}(k:AG f)(b:Dg a (Bn f) n=true):CJ (a.eraseIdx n) (s.filter λg=> !CB g f):=by
 have d:=gX b;have r:Z a=Z s:=by have:=rk List.length h.same;simpa using this
 have c:n<Z s:=lc
 have l:a[n].f=Bn s[n]:=by
  have i:(a.map D5.f)[n]?=(s.map Bn)[n]?:=by rw[h.same]
  exact qr
 have j:a[n].f=Bn f:=by
  unfold Dg at b;rw[dif_pos d]at b;exact(FZ _ _).1 sB
 have m:s[n]=f:=LT (h.qK _ (lV c)) k (l.symm.H j);have q:=h.zB.nodup h.qK;have e:=N9 q n c;rw[m]at e;refine⟨?_,h.zB.sublist (List.filter_sublist ..),λg o=>h.qK g (my.1 o).1⟩;rw[e,OZ,OZ,h.same]
theorem ep(m y x n v r f l u s w)(h:Jq w m y x n v r f)(E0:CJ f u)(FF:ip n l s)(FO:Z n<=12)(hf:∀c∈n,KY c/\Z (Bl c)<=70000)(DT:∀c∈n,Z c.ea<=1000)(FW:s.size<=9223372036854775807)(HL:Z f<=1000):rE rF 36 #[jj (V ⟨m,0,Y⟩),O s] w (E7 m y x n (U v (Z f) r) (Hz l u s) w):=by
 have FB:=Ab (Li y x n s w h.prog FO hf DT FW);have HB:=Ab h;have A:=Ab E0;have S:=Ab FF;have c0:=h.base.D 0;simp at c0;have CC:=Ab (Lw m w);clear h E0 FF hf DT;go_enter func36,ntmps36;go_wp2_with fail
 refine CC.G ?_;rintro _ Q ⟨rfl,FP⟩;subst FP;go_wp2_with fail
 refine FB.G ?_;rintro _ z ⟨⟨⟨d,b⟩,xv⟩,rfl,N,AT,AB,T⟩;obtain⟨i,j,e⟩:=Aj AT;simp at e N AB;subst e;simp only[AJ];rw[(Aa S).same]at N|-;have AR:=Ab (HB.C T);have EM:=Ab T;have A2:=Ab N;have B2:=Ab AT;clear FB N AT T CC c0;by_cases D:Fn l s=0
 .have FL:(Fn l s !=0)=false:=by simp[D]
  obtain⟨BT,R⟩:=(Aa S).fact D;have F:⟨d,b⟩=Bn (Co s):=qw
  have C:Hid (Hz l u s=if C7 u (Co s)=true then(0,u.filter λg=> !CB g (Co s))else(7,u)):=by show _=_;unfold Hz;rw[mo D]
  have M:=Ab (kS z [O d,U i (Z b) j] 104);have G:=Ab (AR.C ((kR [] z).alloc (Y6 #[O d,U i (Z b) j] 104)));have A1:=Ab (EM.alloc (Y6 #[O d,U i (Z b) j] 104));have A0:=Ab (C6.C (Aa B2) ((kR [] z).alloc (Y6 #[O d,U i (Z b) j] 104)));go_wp2_with fail
  change Code.wp _ _ _ _ (z.alloc (Y6 #[O d,U i (Z b) j] 104));generalize z.alloc (Y6 #[O d,U i (Z b) j] 104)=w3 at M G A1 A0|-;obtain⟨E,hX⟩:=kQ z.heap.size;rw[hX]at M|-;clear hX;have EY:Hid (∀a,Ac [] w3 a->a.cell? _=V (O d)/\a.cell? _=V _):=λa o=>⟨o.cellAt (by have:=M.D 0;exact oa),o.cellAt (by have:=M.D 1;exact oa)⟩
  have ES:Hid (∀a,Ac [] w3 a->rE rF 60 #[jj _,ku #[O d,U i (Z b) j]] a λe B=>e=j1 _/\Ac [] a B):=λa o=>by
   refine(Jt m 1 v r f _ a (by have:=(G.C o).base.D 1;exact oa) (G.C o).facts (C6.C (Aa A0) o) AB lc ((Aa A).G _)).G ?_;rintro _ B ⟨p,rfl,W,k⟩;refine⟨?_,k⟩;(have AO:EW f (Bn (Co s)) p:=by rw[<-F];exact W);rw[F,(Aa A).ze R AO]
  have FC:Hid (∀a,Ac [] w3 a->C7 u _=true->rE rF 64 _ a λe B=>e=j1 _/\E7 m y x n _ (Hz l u s) Q (j1 (X .i64 0)) B):=λa o Ax=>by
   have L:=G.C o;refine(gF m 1 _ 117 v r f d b i j a L.base rfl lu lu L.facts (C6.C (Aa A0) o) AB lc ((Aa A).G _)).G ?_;rintro _ B ⟨rfl,⟨p,ad,cp,W,HH,HF,HG⟩,B9⟩;(have AO:EW f (Bn (Co s)) p:=by rw[<-F];exact W);(have hh:Dg f (Bn (Co s)) p=true:=by rw[(Aa A).ze R AO];exact Ax);have he:Vr f ⟨d,b⟩ p=f.eraseIdx p:=by
    unfold Vr;rw[F,hh];rfl
   have FT:=L.rstT B9;refine⟨rfl,ad,cp,_,by rw[Aa C,Ax];rfl,⟨HH,L.prog.rst FT (λt ht=>by simp at ht;rcases ht with h|h<;>simp[h]),HF⟩,?_,(Ac.G (A1.H o) ln).H B9,λq H=>Or.inl (HG q H)⟩;rw[Aa C,Ax,he];exact(Aa A).rem R hh
  clear F BT R AR B2 A2 S
  go_region_held3 (λa=>Ac [] w3 a/\a.cell? ⟨E,0,Y⟩=V (O d)/\a.cell? ⟨E,1,Y⟩=V (U i (Z b) j)) ((go_split_ands;refine(fun(FA:Ac [] w3 _)=>And.intro FA (EY _ FA)) ?_;repeat (first|assumption|exact kR [] _|refine Ac.drew ?_|refine Ac.alloc ?_ _))) ((go_at_call 60;refine(ES _ ml).G ?_;rintro _ I ⟨rfl,k5⟩;have P:Ac [] w3 I:=si;clear k5))
  rename_i Go;clear Go ES;cases HS:C7 u (Co s)with
  |false=>
   have HO:Hid (E7 m y x n _ (Hz l u s) Q (j1 (X .i64 7)) I):=⟨v,r,f,by rw[Aa C,HS];rfl,G.C P,by rw[Aa C,HS];exact A,Ac.G (A1.H P) ln,λq H=>Or.inl H⟩;(go_wp2_with fail);go_ret;exact HO
  |true=>
   obtain⟨d1,d2⟩:=EY I P;(have BS:Hid _:=λa o=>FC a (P.H o) HS);clear FC;go_wp2_with fail
   go_region_law (go_simp;go_at_call 64;refine(BS _ ((kR [] I).drew)).G ?_;rintro _ w6 ⟨rfl,B0⟩;have HA:=Ab B0;clear B0)
   all_goals
    (go_wp2_with fail);go_ret;exact HA
 .have C:Hid (Hz l u s=(Fn l s,u)):=by show _=_;unfold Hz;rw[mm D]
  have HO:Hid (E7 m y x n _ (Hz l u s) Q (j1 (X .i64 (Fn l s))) (z.alloc (Y6 #[O d,U i (Z b) j] 104))):=⟨v,r,f,by rw[Aa C],AR.C ((kR [] z).alloc _),by rw[Aa C];exact A,(Ac.G (Aa EM) ln).alloc _,λq H=>Or.inl H⟩;go_wp2_with fail
  go_ret;exact HO
def F2.via{α β γ:Type}{R}{f:β->γ}(g:∀a b c,R a b->f b=f c->R a c):∀{l:kN α} {m d:kN β},F2 R l m->m.map f=d.map f->F2 R l d
 |[],[],[],_,_=>F2.nil
 |[],[],_::_,_,h=>pp
 |[],_::_,_,h,_=>h.elim
 |_::_,[],_,h,_=>h.elim
 |_::_,_::_,[],_,h=>pp
 |a::l,b::m,c::d,h,e=>by
  simp at e;exact F2.cons (g a b c h.1 e.1) (F2.via g h.2 e.2)
def dm{c}{r d}(h:Qi c r)(e:r.erase=d.erase):Qi c d:=by
 have a:r.E=d.E:=rk Cv.E e;have i:r.bl.map Prod.fst=d.bl.map Prod.fst:=rk Cv.body e;have g:r.e=d.e:=rk Cv.e e;refine⟨by rw[<-a];exact h.hp,by rw[<-a];exact h.hn,by rw[<-a];exact h.zA,h.g.via (λp q j b e=>?_) i,by rw[<-a];exact h.len,by rw[<-a,<-g];exact h.e⟩;refine⟨by rw[<-e];exact b.eq,by rw[<-e];exact b.len,λf=>?_⟩;rw[<-e];refine b.plain ?_;unfold L5 at f|-;rw[e];exact f
def Ia.other{d c}(h:Ia p d)(e:d.map AW.erase=c.map AW.erase)(g:Cb c):Ia p c:=
 ⟨F2.via (R:=Qi) (f:=AW.erase) (λa b i h e=>dm h e) h.zg e,g,h.zD,h.names⟩
def gM(b:Cb c){r}(e:r∈c):∀t∈ER r,Dt t:=by
 intro t a;rcases mi.1 a with a|a
 .exact(b.zI r e).qH t a
 .obtain⟨q,f,a⟩:=mH.1 a;have h:=b.g r e q.1 (mx f);unfold Di at h;unfold AA L5 at a;by_cases d:(q.1.b==97||q.1.b==33)=true
  .rw[mo d]at h a;exact h.qH t a
  .rw[mm d]at h a;simp at a;rcases a with rfl|rfl
   .exact h.1
   .exact h.2.1
def b8(a:Cb c){r}(e:r∈c):∀y∈Jk r,A7 y:=by
 intro y d;obtain⟨t,g,rfl⟩:=me.1 d;obtain⟨f,b⟩:=my.1 g;rcases gM a e t f with h|h
 .exact h.2
 exact qr
def PY(h:Ia p c)(j:A7 s):Jo (qS C1 p) (AE s)=DP (Bh c) s:=by
 rw[nz,G4,JV,(E2 c).mem,(C8 _).2,F2.flatMap (λa b h=>h.dN) h.zg];constructor
 .intro d;obtain⟨r,g,d⟩:=mH.1 d;obtain⟨y,f,e⟩:=me.1 d;have i:=b8 h.pass g y f;rw[JR i]at e;rw[<-FD i j e];exact mH.2 ⟨r,g,f⟩
 .intro d;obtain⟨r,g,f⟩:=mH.1 d;exact mH.2 ⟨r,g,me.2 ⟨s,f,JR j⟩⟩
def Yp{a}(h:Ia a c)(x n):iw a x=V n↔BQ c x=(n:Int):=by
 rw[Sn h.zg,L3];unfold Pz;cases(Fz c).find? (jZ x)with
 |none=>simp
 |some p=>
  exact li
def gW(h:Ia p c)(s):ip p c s:=by
 refine⟨?_,λj=>?_⟩
 .unfold W8 Fn;rw[ig];cases ho:Gw s with
  |false=>rfl
  |true=>
   obtain⟨_,i,_⟩:=GG ho;have d:iw p (Bn (Co s)).a=V (Z (Bn (Co s)).dN)↔BQ c (Co s).a=Z (Co s).qH:=by
    rw[Yp h];simp only[Bn,mh]
   have f:(Bn (Co s)).dN.all (Jo (qS C1 p))=(Co s).qH.all (DP (Bh c)):=by
    simp only[Bn,List.all_map];rw[nz,nI,nI];constructor
    .intro g x a;rw[<-PY h (i x a)];exact g x a
    .intro g x a;show Jo _ (AE x)=true;rw[PY h (i x a)];exact g x a
   exact qr
 .obtain⟨d,f,_⟩:=GG (LV j);exact⟨d,f⟩
def Uz(h:Fn c s=0):EG c (Co s):=by
 have a:=LV h;obtain⟨_,g,e⟩:=GG a;have f:=(Vs a).2;unfold Fn at h;rw[mo a]at h;by_cases d:BQ c (Co s).a=Z (Co s).qH
 .rw[mo d]at h;cases ht:(Co s).qH.all (DP (Bh c))with
  |false=>rw[ht]at h;cases h
  |true=>
   refine⟨g,?_,e,f,d,λx i=>(JV _ _).1 (nI.1 ht x i)⟩;unfold Gw at a;rw[mC]at a;have b:=a.1;(have hF:Co s=Av Bm (An s 0).1.E:=by unfold Co;rw[mo b]);unfold KP at b;simp only[mC,n6,nX]at b;rw[hF];exact(DH b.2.1).E.a
 exact lc
end
section
variable{s t:bN}{c:kN AW}{p:kN CQ}{I:Int}
def ZX(c:Cv):kN lL:=((c.E.e:Int),c.E.a,Z c.E.qH)::(c.body.filter λx=>x.b==97||x.b==33).map λx=>((x.A.e:Int),x.A.a,Z x.A.qH)
def Vf(r):Fj r=ZX r.erase:=by
 unfold Fj ZX AW.erase;rw[List.filter_map,nh];rfl
def Wx{d b}(h:d.map AW.erase=b.map AW.erase):Fz d=Fz b:=by
 have e:∀l:kN AW,Fz l=(l.map AW.erase).flatMap λc=>(ZX c).map λa=>a.2:=by
  intro l;unfold Fz;rw[List.flatMap_map]
  congr 1
  funext r
  rw[Vf]
 rw[e,e,h]
def aO{b}{bl}(c:b.map kD=(bl.map kD).map Mn)(f:∀p∈b,Hm p.1)(d:∀p∈b,lenOf p.2=Z p.1.ts):F2 Uk b bl:=by
 rw[nh]at c;refine(F2.of_map c).G (λp a q _ e=>?_);have e:p.1=Mn q.1:=e;refine⟨e,?_,λg=>?_⟩
 .rw[d p a,e];show Z (q.1.A.qH.map ct)=_;rw[mh]
 .have a:=(f p a).plain (by rw[e,IP];exact g);rw[e]at a;exact List.map_eq_nil_iff.1 a
def j8{f}{c e}(hF:F2 Qi f c)(i:e.map AW.erase=c.map AW.erase){d}{g}(h:F2 Uk d g):
  kp f (AU d)=(g.find? (Qs e)).map λq=>(q.1.A.e:Int):=by
 unfold kp AU;rw[List.find?_map,List.find?_filter,Option.map_map];refine F2.find (λp q b=>⟨?_,?_⟩) h
 .unfold Qs;rw[b.atom];cases hi:L5 q with
  |false=>rfl
  |true=>
   simp;unfold SW;(have j:p.1.an=q.1.A.a:=by rw[b.eq];rfl);rw[b.len,j,Sn hF,L3,Wx i];unfold Pz;cases hf:(Fz c).find? (jZ q.1.A.a)with
   |none=>simp
   |some a=>
    rw[nz];simp;omega
 .simp;rw[b.eq];rfl
def kg{a}{b}(h:F2 Uk a b):(a.find? λp=>(AQ p.1).any (DD a)).map (λp=>p.1.c)=if 0<=D4 Ga b then some (D4 Ga b)else none:=by
 have c:Qi ⟨0,ky,[],U none 0 0,U none 0 0,a⟩ ⟨Ga,U none 0 0,U none 0 0,b,0⟩:=⟨rfl,rfl,rfl,h,rfl,rfl⟩;have:=c.yY;exact this
def jM{e}{f c}(hF:F2 Qi e f)(g:c.map AW.erase=f.map AW.erase){d}{b}(h:F2 Uk d b):qR e d=LQ c b:=by
 unfold qR LQ;rw[j8 hF g h,kg h];cases hf:b.find? (Qs c)with
 |some p=>rfl
 |none=>
  simp;by_cases a:0<=D4 Ga b
  .rw[mo a,mo a]
  .rw[mm a,mm a]
def bZ{f}{m g}(hF:F2 Qi f m)(x:g.map AW.erase=m.map AW.erase){r}{e d}(b:jN s f r)(a:Es s g e d):r=(e,d):=by
 unfold jN at b;unfold Es at a;by_cases k:300<s.size
 .exact qr
 .rw[mm k]at b a;have c:=Xv s;cases hal:FU (DB s)with
  |error p=>
   exact qr
  |ok ls=>
   rw[hal]at b c;obtain⟨y,z,i⟩:=c;obtain⟨v,_⟩:=Ru lc hal;rw[mm qr]at a;(have B:Z ls=Z (By s 0).1:=by rw[i,mh]);simp only at b;by_cases j:3<Z ls
   .exact qr
   .rw[mm j]at b;rw[mm lc]at a;obtain⟨C,l,t,w⟩:=b;obtain⟨A,o,n⟩:=a;rw[w,n];refine jM hF x (aO (by rw[l,o,i]) (λp u=>v p.1 (by rw[<-l];exact mx u)) t)
def UV(g:s.size<=300){b:kN AW}(f:b.map AW.erase=(Ao s (Af s 0)).1){x}(a:x∈consts b):x.size<=300:=by
 obtain⟨c,e,a⟩:=mH.1 a;obtain⟨t,d,rfl⟩:=me.1 a;have h:=(FJ s _ _ (by rw[<-f];exact mx e)).1.2 t (my.1 d).1;omega
def j7(E:s.size<=300){o}(I:c.map AW.erase=(Ao s (Af s 0)).1)(n:Ia o c){d:kN L6}(G:FU (DB t)=.ok (d.map kD))(A:∀p∈d,Hm p.1)(L:Z d<=3)(C:∀p∈d,lenOf p.2=Z p.1.ts)(z:qR o d=(0,0)):
  d.map kD=(By t 0).1.map Mn/\∀u,(∀f∈u,DQ c f)->aF (By t 0).1 u/\ir (Bf (By t 0).1) (Aw (Jr (By t 0).1 u) (By t 0).1 u (Bf (By t 0).1) Bm):=by
 have y:=Xv t;rw[G]at y;obtain⟨F,M,j⟩:=y;refine⟨j,λu k=>?_⟩;obtain⟨bl,h⟩:∃bl:kN Bc,bl.map kD=(By t 0).1:=⟨(By t 0).1.map λx=>(x,U none 0 0),by rw[nh];exact List.map_id' _⟩;have B:=aO (bl:=bl) (by rw[h];exact j) A C;have r:LQ c bl=(0,0):=by rw[<-jM n.zg rfl B];exact z
 have H:Z bl<=3:=by
  have b:=rk List.length j;have i:=rk List.length h;simp at b i;omega
 have a:=Sq n.pass k r (by rw[h];exact Nb F);have l:=QP r H;rw[h]at a l;refine⟨a,⟨?_,λx w v g=>?_,GT _ _ rfl,λv g=>(a.vars v g).1,l⟩⟩
 .have b:=W7 n.pass k a l _ (λe m=>m);rw[Xd a,mh]at b;exact b
 .refine⟨a.zu w v g,?_⟩;obtain⟨e,m,D⟩:=Q8 a w;have b:NR e v=NR x v:=by
   have i:=List.map_inj_left.1 D v g;exact i
  rw[<-b];have:=UV E I (M8 k a m v g);omega
def Qd(s q:bN)(r:Int×Int):Prop:=
 ∃r1,EC s (jK s) r1/\((r1.1≠0/\r=r1)\/(r1.1=0/\∃(pcs:kN CQ) (rcs:kN AW),F2 Qi pcs rcs/\rcs.map AW.erase=(Ao s (Af s 0)).1/\jN q pcs r))
def jy(s q t:bN)(er:Int):Prop:=
 (er≠0->t=ky)/\
 (er=0->∃(rcs:kN AW) (L:bN->Nat) (n:Nat) (u:kN Ae),rcs.map AW.erase=(Ao s (Af s 0)).1/\CP rcs L/\Hu rcs L n u/\(∀c∈rcs,L c.E.a<n)/\
  t=F5 (Bf (By q 0).1) ky ((Aw (Jr (By q 0).1 u) (By q 0).1 u (Bf (By q 0).1) Bm).map (F0 (Bf (By q 0).1))))
def jN.zero(h:jN s p (0,I)):I=0:=by
 unfold jN at h;split at h
 .exact rl (rk kD h) ln
 .split at h
  .exact rl (rk kD h) ln
  .split at h
   .exact rl (rk kD h) ln
   .obtain⟨b,_,_,h⟩:=h;unfold qR at h;split at h
    .exact rl (rk kD h) ln
    .split at h
     .exact rl (rk kD h) ln
     .exact rk Prod.snd h
def Qd.zero{s q}{a}(h:Qd s q (0,a)):a=0:=by
 obtain⟨d,_,h|⟨_,b,c,_,_,h⟩⟩:=h
 .exact rl (by rw[<-h.2]) h.1
 .exact h.zero
set_option maxRecDepth 100000
theorem gd(s q:bN)(w)(BT:s.size<=9223372036854775807)(H:q.size<=9223372036854775807):rE rF 24 #[O s,O q] w λe x=>∃(t:bN) (r:Int×Int),e=.returned (.tuple #[O t,X .i64 r.1,X .i64 r.2])/\Qd s q r/\jy s q t r.1/\Ac [] w x:=by
 have AB:=Ab (JK s (jK s) w BT (λp cs z d A=>KM p z A));go_enter func24,ntmps24;go_wp2_with fail
 refine(Aa AB).G ?_;rintro _ T ⟨I,n,P,⟨g,v⟩,rfl,Bx,Ax,S⟩;have o:=Ab Bx;have E:=Ab Ax;have AR:=Ab S;clear AB Bx Ax S;by_cases b:g=0
 .subst b;obtain⟨p,cs,d,z,A,rfl,C⟩:=Aa E rfl;obtain⟨hr,Q,y,l⟩:=Mk p z A C (Aa o) rfl;have B9:((0:Int) !=0)=false:=rfl;have F:=Ab (cV q I P d T H C (λc hc=>(l.fit hc).pc.g) (by have:=l.len;omega));have D:Hid (∀r,jN q d r->Qd s q r):=λr h=>⟨(0,v),Aa o,Or.inr ⟨rfl,d,Q,l.zg,y,h⟩⟩
  have N:Hid (∀(i:rB) (j f:Nat) (r:Int×Int) (a:World),Ac [] T a->io q d a (U i j f) j r->r.1=0->rE rF 52 #[U I (Z d) P,U i j f] a λe x=>∃t,e=.returned (O t)/\jy s q t 0/\Ac [] a x):=by
   intro i j f r a hk hl b;obtain⟨FT,E0,FA,hg,h3,rfl,CC,CW,H⟩:=hl b;obtain⟨e1,k⟩:=j7 p y l FA hg h3 CW H;refine(WF I P d Q i f E0 _ a (C.C hk) l ⟨CC,e1,hg,h3⟩ k).G ?_;rintro e x ⟨t,u,L,n,rfl,g1,g2,g3,g4,g5⟩;exact⟨t,rfl,⟨λh=>rl rfl h,λ_=>⟨Q,L,n,u,y,g1,g2,g3,g4⟩⟩,g5⟩
  clear p z A C hr y l E o;go_wp2_with fail
  refine(Aa F).G ?_;rintro _ a ⟨i,j,f,⟨k,a2⟩,rfl,M,R,B⟩;have W:=Ab (Aa D _ M);have A0:=Ab ((Aa AR).H B);by_cases m:k=0
  .have A2:=Ab (Aa N i j f _ a B R m);subst m;clear F D N M R B;(go_wp2_with fail);refine(Aa A2).G ?_;rintro _ w3 ⟨t,rfl,hA,k3⟩;have BA:=Ab hA;have FB:=Ab ((Aa A0).H k3);clear A2 hA k3;(go_wp2_with fail);go_ret3;exact⟨t,(0,0),rfl,by have h:=Aa W;rw[h.zero]at h;exact h,Aa BA,Aa FB⟩
  ·(have FP:(k !=0)=true:=by simp[m]);have G:Hid (jy s q ky k):=⟨λ_=>rfl,λh=>rl h m⟩;clear m F D N M R B;(go_wp2_with fail);go_ret3;exact⟨ky,(k,a2),rfl,Aa W,Aa G,Aa A0⟩
 .have B9:(g !=0)=true:=by simp[b]
  have G:Hid (jy s q ky g):=⟨λ_=>rfl,λh=>rl h b⟩;have HI:Hid (Qd s q (g,v)):=⟨(g,v),Aa o,Or.inl ⟨b,rfl⟩⟩;clear b E o;go_wp2_with fail
  go_ret3;exact⟨ky,(g,v),rfl,Aa HI,Aa G,Aa AR⟩
def i6{s q t y}{r}{h o}(F:Qd s q r)(x:jy s q t r.1)(G:Tc s q h o)(B:ij s q y h):r=(h,o)/\t=y:=by
 have z:r=(h,o):=by
  obtain⟨N,k,g⟩:=F;obtain⟨A,R,l,j⟩:=G;have e:=Fc l k;subst e;rcases g with⟨g,rfl⟩|⟨g,P,I,w,p,E⟩
  .exact li
  .rcases j with⟨f,_⟩|⟨_,D,f,_,m⟩
   .exact lc
   .exact bZ w (f.H p.symm) E m
 refine⟨z,?_⟩;rw[z]at x;by_cases i:h=0
 .obtain⟨I,L,n,u,k,g,w,p,rfl⟩:=x.2 i;obtain⟨D,H,Q,l,j,f,v,m,rfl⟩:=B.2 i;have a:=Qn (k.H l.symm);have b:=Qn (l.H k.symm);have e:=j.one f (b.zQ g) (a.inv b w) (λd C=>by
   obtain⟨c,M,A,_⟩:=b d C
   rw[<-A]
   exact p c M)
  subst e;rw[v]at m|-;rw[Xd m,nh];rfl
 .rw[x.1 i,B.1 i]
theorem Q0(S T:bN)(w)(s:S.size<=9223372036854775807)(f:T.size<=9223372036854775807):rE rF 39 #[.agg #[X .i64 3,O S,O T]] w λe u=>e=.returned (.bool true)/\Ac [] w u:=by
 have l:=Ab (kS w [X .i64 3,O S,O T] 29);have m:=Ab ((kR [] w).alloc (.cells #[X .i64 3,O S,O T] 29));have o:=Ab (gd S T (w.alloc (.cells #[X .i64 3,O S,O T] 29)) s f);go_enter func39,ntmps39;go_wp2_with fail
 refine(Aa o).G ?_;rintro _ A ⟨t,r,rfl,k,hF,b⟩;have a:=(Aa l).C b;have i:=Ab ((Aa m).H b);have p:=Ab (gH S T A s f);have h:=a.D 1;have j:=a.D 2;simp at h j;have c:=Ab k;have g:=Ab hF;clear o b k hF l m a;go_wp2_with fail
 refine(Aa p).G ?_;rintro _ v ⟨C,y,D,rfl,q,n,d⟩;obtain⟨rfl,rfl⟩:=i6 (Aa c) (Aa g) q n;have z:=Ab ((Aa i).H d);clear p q n d c g h j i;go_wp2_with fail
 refine(Gp y v).G ?_;rintro _ B ⟨rfl,x⟩;subst x;go_wp2;go_ret;exact⟨ln,Aa z⟩
end
section
variable{s t:bN}{c:kN AW}
def Ii(f:Ae):Prop:=f.a.size<=300/\∀x∈f.qH,x.size<=300
def fS(h:Gw s=true):Ii (Co s):=by
 unfold Gw at h;rw[mC]at h;obtain⟨a,_⟩:=h;have hF:Co s=Av Bm (An s 0).1.E:=by unfold Co;rw[mo a]
 unfold KP at a;simp only[mC,n6,nX]at a;have b:=(Iu s 0).1;rw[hF];refine⟨by have:=b.1;show(An s 0).1.E.a.size<=300;omega,λx d=>?_⟩;obtain⟨t,c,rfl⟩:=me.1 d;have e:=b.2 t c;have f:(AI Bm t).size<=t.s.size:=by
  unfold AI Bm;split
  .exact mt _
  .rw[mq,ry];split<;>exact mr _
 omega
def dB{u}(g:D3 u)(b:∀f∈u,EG c f/\Ii f)(s):∀f∈(Ib c u s).2,EG c f/\Ii f:=by
 unfold Ib;by_cases a:Fn c s=0
 .rw[mo a];split
  .exact b
  .intro f e;rcases((CR (Uz a).qK g (λp d=>(b p d).1.qK)).2.2 f).1 e with h|h
   .exact b f h
   .rw[h];exact⟨Uz a,fS (LV a)⟩
 .rw[mm a];exact b
def bF{u}(a:∀f∈u,EG c f/\Ii f)(s):∀f∈(Hz c u s).2,EG c f/\Ii f:=by
 unfold Hz;by_cases b:Fn c s=0
 .rw[mo b];split
  .exact qr
  .exact a
 .rw[mm b];exact a
def F2.app{α β}{R}:∀{l b:kN α} {m a:kN β},F2 R l m->F2 R b a->F2 R (l++b) (m++a)
 |[],_,[],_,_,h=>h
 |[],_,_::_,_,h,_=>h.elim
 |_::_,_,[],_,h,_=>h.elim
 |_::_,_,_::_,_,h,k=>⟨h.1,F2.app h.2 k⟩
def kT(f:Ae):AW:=⟨VV f,U Y 0 0,U Y 0 0,[],0⟩
def aV:∀u,F2 GV u (u.map kT)
 |[]=>F2.nil
 |_::u=>F2.cons ⟨rfl,rfl,rfl⟩ (aV u)
def gK{f}{q}{c}(g:Tj (Bn f) q)(m:GV f c)(d:AG f)(h:lenOf q.hv=Z q.zA):Qi q c:=by
 obtain⟨j,o,l,p,i⟩:=g;obtain⟨a,b,k⟩:=m;have e:q.zA=c.E.qH.map ct:=by
  rw[l,a];simp only[Bn,VV,nh];refine nj (λx n=>?_);show J8 (AE x)=ct (Mt x);unfold ct Mt J8;rw[JR (d x n)];rfl
 refine⟨by rw[j,a];rfl,by rw[o,a];rfl,e,by rw[i,b];exact F2.nil,by rw[h,e,mh],by rw[k,a];rfl⟩
def UE:∀{u:kN Ae} {a:kN CQ} {b:kN AW},F2 Tj (u.map Bn) a->F2 GV u b->(∀f∈u,AG f)->(∀q∈a,lenOf q.hv=Z q.zA)->F2 Qi a b
 |[],[],[],_,_,_,_=>F2.nil
 |[],[],_::_,_,h,_,_=>h.elim
 |[],_::_,_,h,_,_,_=>h.elim
 |_::_,[],_,h,_,_,_=>h.elim
 |_::_,_::_,[],_,h,_,_=>h.elim
 |f::u,q::a,c::b,hq,hc,hf,hv=>F2.cons (gK hq.1 hc.1 (hf f ln) (hv q ln)) (UE hq.2 hc.2 (λg e=>hf g (by simp[e])) (λp d=>hv p sn))
def Yq{s k}{g v}{u}(n:Ia s g)(B:B8 g)(t:F2 Tj (u.map Bn) k)(w:F2 GV u v)(m:∀f∈u,EG g f/\Ii f)(d:Z u<=900)(D:∀q∈k,lenOf q.hv=Z q.zA):Ia (s++k) (g++v):=by
 have y:∀q∈k,∃f∈u,Tj _ q:=λq C=>by
  obtain⟨p,j,h⟩:=t.mem q C;obtain⟨f,b,rfl⟩:=me.1 j;exact⟨f,b,h⟩
 refine⟨n.zg.app (UE t w (λf b=>(m f b).1.qK) D),NO B n.pass w (λf b=>(m f b).1) d,λc a=>?_,λc a=>?_⟩
 .rcases mi.1 a with a|a
  .exact n.zD c a
  .obtain⟨f,b,A,o,x,z,i⟩:=y c a;have r:=(m f b).1;(have F:Z c.zA=Z f.qH:=by rw[x];simp[Bn]);(have E:Z f.qH≠0:=λe=>r.ne (ot e));refine⟨⟨by show 0<Z c.zA;omega,by show Z c.zA<=151;have:=r.two;omega⟩,?_,λl d=>?_⟩
   .show Z (c.ea.map Prod.fst)<=151;rw[i];simp
   .have d:l∈c.ea.map Prod.fst:=d;rw[i]at d;cases d
 .rcases mi.1 a with a|a
  .exact n.names c a
  .obtain⟨f,b,A,o,x,z,i⟩:=y c a;refine⟨?_,λp j=>by rw[i]at j;cases j⟩;rw[o];have:=(m f b).2.1;show f.a.size<=_;omega
def kK(cs:kN AW)(u:kN Ae)(t:bN):Prop:=∃(ws:kN AW) (L:bN->Nat) (N:Nat) (m:kN Ae),F2 GV u ws/\CP (cs++ws) L/\Hu (cs++ws) L N m/\(∀c∈cs++ws,L c.E.a<N)/\t=Ts ByteArray.empty (m.map Bn)
def PM(A:s.size<=300){e o:kN AW}{u}(w:e.map AW.erase=(Ao s (Af s 0)).1)(k:F2 GV u o)(n:∀f∈u,EG e f/\Ii f){m:kN Ae}(i:∀f∈m,DQ (e++o) f):
  ∀f∈m,f.a.size<=300/\∀x∈f.qH,x.size<=300:=by
 intro f q;have l:=i f q;have p:∀c∈e,lh s c.E:=λc a=>(FJ s _ _ (by rw[<-w];exact mx a)).1
 refine⟨?_,λx z=>?_⟩
 .obtain⟨c,a,v,_⟩:=l.zV;rw[v];rcases mi.1 a with a|a
  .have:=(p c a).1;omega
  .obtain⟨g,j,h⟩:=k.mem c a;rw[h.1];exact(n g j).2.1
 .have a:=l.qH x z;obtain⟨c,b,i⟩:=mH.1 a;obtain⟨t,d,rfl⟩:=me.1 i;have d:=(my.1 d).1;rcases mi.1 b with b|b
  .have:=(p c b).2 t d;omega
  .obtain⟨g,j,h⟩:=k.mem c b;rw[h.1]at d;obtain⟨y,r,rfl⟩:=me.1 d;exact(n g j).2.2 y r
def OS(cs:kN AW)(u:kN Ae)(w:jH)(e:Ending)(w':jH):Prop:=∃t,e=j1 (O t)/\kK cs u t/\Ac [] w w'
set_option maxRecDepth 100000
theorem Y1(d E D g CC CL C s r u w)(h:Jq w d E D g CC CL C)(S:CJ C u)(hB:Ia g r)(ho:B8 r)(hs:s.size<=300)(BA:r.map AW.erase=(Ao s (Af s 0)).1)(hu:∀f∈u,EG r f/\Ii f)(HI:Z u<=300):rE rF 35 #[jj (V ⟨d,0,Y⟩)] w (OS r u w):=by
 have HL:Z C=Z u:=by have:=rk List.length S.same;simpa using this
 have c0:=h.base.D 0;have W:=h.base.D 1;simp at c0 W;have A2:=Ab (Lw d w);have A1:Hid (∀c,Ac [] w c->rE rF 63 #[U E (Z g) D,jj (V ⟨d,1,Y⟩)] c (RX g C c)):=λc n=>SH d 1 E D g CC CL C c (h.prog.C n) (n.cellAt W) (h.facts.C n) (by rw[hB.zg.lenX];exact ho.small.1) lc
 have EK:Hid (∀A F k c,Ac [] w c->CA c (U A (Z (g++k)) F) (g++k)->F2 Tj (C.map D5.f) k->rE rF 41 #[U A (Z (g++k)) F] c λe Q=>∃B,e=j1 (jj (V ⟨B,1,Y⟩))/\Ac [] w Q/\rE rF 42 #[jj (V ⟨B,1,Y⟩)] Q λe HB=>OS r u w e HB):=by
  intro A F k c n hP hq;rw[S.same]at hq;have hw:=aV u;have hb:=Yq hB ho hq hw hu lc (λq hm=>by
   obtain⟨a,b,e⟩:=Aj (hP.j q (rz _ hm)).E
   rw[e]
   rfl)
  refine(Lx A F (g++k) _ c hP hb).G ?_;rintro _ M ⟨B,m,L,N,rfl,g1,g2,g3,g4⟩;refine⟨B,rfl,n.H g1.C,?_⟩;obtain⟨E0,FB,B0,HJ,HH,xs,k1,I,G,_⟩:=g1.o;have hc:=k1.D 1;have HK:=(hb.zV g3).2.2;have HG:Z B0=Z m:=by have:=rk List.length G.same;simpa using this
  refine(Pv B 1 E0 FB B0 M (by simpa using hc) I lc ?_).G ?_
  .intro p hp;(have FT:p.f∈m.map Bn:=by rw[<-G.same];exact mx hp);obtain⟨f,hf,e⟩:=me.1 FT;have hz:=PM hs BA hw hu g3.zS f hf;rw[<-e];refine⟨by show f.a.size<=_;omega,λx hx=>?_⟩;obtain⟨y,hy,rfl⟩:=me.1 hx;have T:=hz.2 y hy;have R:=Lu y;omega
  .rintro _ Q ⟨rfl,FA⟩;exact⟨_,rfl,⟨_,L,N,m,hw,g2,g3,g4,by rw[G.same]⟩,(n.H g1.C).H FA⟩
 clear h S hB ho BA hu W;go_enter func35,ntmps35;go_wp2_with fail
 refine A2.G ?_;rintro _ l ⟨rfl,Ha⟩;subst Ha;clear A2;have H:Hid (∀c,Ac [] l c->c.cell? ⟨d,0,Y⟩=V (U E (Z g) D)):=λc n=>n.cellAt c0
 have z:=Ab (H l.drew (kR [] l).drew);have DT:=Ab (A1 l.drew (kR [] l).drew);clear A1 c0;go_wp2_with fail
 refine Cx 10 (λc=>c.cell? ⟨d,0,Y⟩=V (U E (Z g) D)) lo ?_;refine Cw.tq (i:=0) (v:=jj (V ⟨d,0,Y⟩)) rfl (λ_ _ _ h=>h) z ?_;simp only[kF,lR,lS,lT];refine Cw.tq (i:=1) (v:=jj (V ⟨d,0,Y⟩)) rfl (λ_ _ _ h=>h) z ?_;simp only[kF,lR,lS,lT];refine Cw.tq (i:=2) (v:=jj (V ⟨d,0,Y⟩)) rfl (λ_ _ _ h=>h) z ?_;simp only[kF,lR,lS,lT];refine Cw.tq (i:=3) (v:=U E (Z g) D) rfl (λ_ _ _ h=>h) z ?_;simp only[kF,lR,lS,lT];refine Cw.tq (i:=4) (v:=jj (V ⟨d,0,Y⟩)) rfl (λ_ _ _ h=>h) z ?_;simp only[kF,lR,lS,lT];refine Cw.tq (i:=5) (v:=jj (V ⟨d,0,Y⟩)) rfl (λ_ _ _ h=>h) z ?_;simp only[kF,lR,lS,lT];refine Cw.tq (i:=6) (v:=jj (V ⟨d,1,Y⟩)) rfl (λ_ _ _ h=>h) z ?_;simp only[kF,lR,lS,lT];refine Cw.one (i:=7) lo rfl (λo j=>?_)
 go_simp
 refine DT.G ?_;rintro _ M ⟨A,F,k,rfl,T,R,Bx⟩;have I:Ac [] l M:=(kR [] l).drew.H Bx;have P:=Ab (EK A F k M I T R);generalize Z (g++k)=L at P|-;refine j.o _ _ (λ_=>H _ I) ?_;clear j o DT EK T R Bx
 try simp only[kF,lR,lS,lT]
 refine Cw.one (i:=8) lo rfl (λo j=>?_)
 go_simp
 refine P.G ?_;rintro _ w3 ⟨B,rfl,G,h3⟩;have H3:=Ab h3;refine j.o _ _ (λ_=>H _ G) ?_;clear j o P h3
 try simp only[kF,lR,lS,lT]
 refine Cw.one (i:=9) lo rfl (λo j=>?_)
 go_simp
 refine H3.G ?_;rintro _ w4 ⟨t,rfl,ht,k4⟩;have HO:Hid (OS r u l (j1 (O t)) w4):=⟨t,rfl,ht,k4⟩;refine j.o _ _ (λ_=>H _ k4) ?_;clear j o H3 ht
 try simp only[kF,lR,lS,lT]
 refine Cw.one (i:=10) lo rfl (λo j=>?_)
 go_simp
 refine j.o _ _ (λh=>rl rfl h) ?_;clear j o;refine Cw.done lo ?_ _;go_wp2;go_ret;exact HO
def mod_one{e g}{u}(h:kK e u t)(r:∀c∈e,c.E.qH≠[])(x:∀f∈u,EG e f)(i:F2 GV u g)(p:Cb (e++g)){k}(w:Hu (e++g) (BW (e++g) 6) 7 (k.map BE.f)):t=Oc ByteArray.empty k:=by
 obtain⟨z,L,N,m,l,s,y,v,rfl⟩:=h;have n:Qo e e:=λc j=>⟨c,j,rfl,rfl⟩
 have a:=T8 n l i;have b:=T8 n i l;refine p.qJ (gn r i x) w (b.zQ s) (a.inv b y) (λd o=>?_);obtain⟨c,j,q,_⟩:=b d o;rw[<-q];exact v c j
end
variable{n m i j b:Nat}{o:rB}{p:kN CQ}{c:kN AW}{w v:jH}
structure P8(s:bN)(pcs:kN CQ)(cs:kN AW):Prop where
 both:Ia pcs cs
 order:B8 cs
 fits:LP cs
 size:s.size<=300
 read:(Ao s (Af s 0)).2.2=false
 eq:cs.map AW.erase=(Ao s (Af s 0)).1
structure BB(w0 w:jH)(bb rb pb:Nat)(lad:rB)(lcp:Nat)(pcs:kN CQ)(rad:rB)(rcp:Nat)(cs:kN AW)(u v:kN Ae):Prop where
 C:Ac [] w0 w
 bb_:w0.heap.size<=bb
 rb_:w0.heap.size<=rb
 prog:∃sad scp fs,Jq w bb lad lcp pcs sad scp fs/\CJ fs u/\∀q,(U sad (Z fs) scp).ownBlock=V q->w0.heap.size<=q
 ref:∃fad fcp rs,IF w rb pb rad rcp cs fad fcp rs/\rs.map BE.f=v
 fitU:∀f∈u,EG cs f/\Ii f
 fitV:∀f∈v,EG cs f/\Ii f
 zB:D3 v
def BB.to{d w a}{e}{u v}(h:BB d w n m i o j p e b c u v)(k:Ac [] w a):BB d a n m i o j p e b c u v:=by
 obtain⟨A,s,y,x,q,z⟩:=h.prog;obtain⟨t,r,f,l,g⟩:=h.ref;exact⟨h.C.H k,h.bb_,h.rb_,⟨A,s,y,x.C k,q,z⟩,⟨t,r,f,l.C k,g⟩,h.fitU,h.fitV,h.zB⟩
def Qj(d:B8 c){u}(e:D3 u)(b:∀f∈u,EG c f/\Ii f):Z u<=258:=Yh d (e.nodup λf a=>(b f a).1.qK) λf a=>(b f a).1
def Jq.beside{s}{l}{f}(h:Jq w n o m s l i f){x}{y}{A}{z}{u}(B:IF w j b x y c A z u)(k:Ac [j] w v):Jq v n o m s l i f:=by
 have r:J9 [63] w v:=J9.of k (λq e c t C a=>by
  simp at e
  subst e
  have g:=B.base
  rw[g]at a
  exact qr)
 exact⟨r.zJ h.base lu,h.prog.rst r ln,⟨r.row h.facts.row lu,λp d=>⟨r.row (h.facts.j p d).1 lu,(h.facts.j p d).2⟩⟩⟩
def P8.small{s}{d}{b}(h:P8 s d b):Z d<=12/\(∀c∈d,KY c/\Z (Bl c)<=70000)/\(∀c∈d,Z c.ea<=1000)/\Z b<=12/\(∀c∈b,Hj c)/\Z (Bh b)<=6:=by
 have f:=h.order.small;refine⟨by rw[h.both.zg.lenX];exact f.1,λc a=>?_,λc a=>(h.both.fit a).pc.g,f.1,λc a=>?_,KE h.order⟩
 .have i:=h.both.zD c a;refine⟨(h.both.fit a).pc,?_⟩;have k:Z c.ea<=151:=by have:=i.body;simpa[CQ.pc] using this
  have n:Z (A6 c.ea)<=Z c.ea*151:=ON _ 151 _ (λp e=>by
   have l:=i.g p.1 (by exact me.2 ⟨p,e,rfl⟩)
   unfold AQ
   split
   .exact l.le
   .simp)
  have m:Z c.zA<=151:=i.E.2;unfold Bl;exact li
 .have g:=f.2 c a;refine⟨g.1,g.2.1,λp e=>?_⟩;have j:=g.2.2 p e;have:=pE j;omega
section
variable {s:bN} {w0 w:jH} {bb rb pb:Nat} {lad:rB} {lcp:Nat} {pcs:kN CQ} {rad:rB} {rcp:Nat} {cs:kN AW} {u v:kN Ae}
def BB.turnP(h:BB w0 w bb rb pb lad lcp pcs rad rcp cs u v){c}(E:∀f∈c,EG cs f/\Ii f){b}{d}{g}(l:Jq w bb lad lcp pcs b d g)(m:∀q,(U b (Z g) d).ownBlock=V q->w0.heap.size<=q){r}{e}{a}(C:E7 bb lad lcp pcs (U b (Z g) d) (r,c) w e a):e=j1 (X J r)/\BB w0 a bb rb pb lad lcp pcs rad rcp cs c v/\J9 [117,104] w a:=by
 obtain⟨p,x,s,rfl,D,t,k,B⟩:=C;obtain⟨o,n,A,z,F⟩:=h.ref;refine⟨rfl,⟨h.C.trans' k (λi j=>Or.inr ?_),h.bb_,h.rb_,⟨p,x,s,D,t,λq y=>?_⟩,⟨o,n,A,z.rst (l.rstT k) ln,F⟩,E,h.fitV,h.zB⟩,l.rstT k⟩
 .rcases l9.1 j with rfl|j
  .exact h.bb_
  .exact qr
 .rcases B q y with h|G
  .exact m q h
  .have:=h.C.size;omega
def BB.turnR(h:BB w0 w bb rb pb lad lcp pcs rad rcp cs u v){r}{e}{a}(n:Iw rb pb rad rcp cs (r,u) w e a):e=j1 (X J r)/\BB w0 a bb rb pb lad lcp pcs rad rcp cs u u:=by
 obtain⟨m,t,q,rfl,o,g,d⟩:=n;obtain⟨y,x,z,j,A⟩:=h.ref;obtain⟨l,p,f,k,b,s⟩:=h.prog;exact⟨rfl,h.C.trans' d (λi c=>Or.inr (by simp at c;rw[c];exact h.rb_)),h.bb_,h.rb_,⟨l,p,f,k.beside j d,b,s⟩,⟨m,t,q,g,o⟩,h.fitU,h.fitU,b.zB⟩
def iI(b:P8 s pcs cs)(h:BB w0 w bb rb pb lad lcp pcs rad rcp cs u v)(S:bN)(m:S.size<=9223372036854775807):rE rF 33 #[jj (V ⟨bb,0,Y⟩),O S] w λe c=>e=j1 (X J (Ib cs u S).1)/\BB w0 c bb rb pb lad lcp pcs rad rcp cs (Ib cs u S).2 v/\J9 [117,104] w c:=by
 obtain⟨o,l,f,d,a,n⟩:=h.prog;obtain⟨g,i,k,_⟩:=b.small;have p:=Qj b.order a.zB h.fitU;have q:Z f=Z u:=by have:=rk List.length a.same;simpa using this
 exact(fe bb lad lcp pcs o l f cs u S w d a (gW b.both S) g i k m lc).G λe c j=>h.turnP (dB a.zB h.fitU S) d n j
def je(a:P8 s pcs cs)(h:BB w0 w bb rb pb lad lcp pcs rad rcp cs u v)(S:bN)(m:S.size<=9223372036854775807):rE rF 36 #[jj (V ⟨bb,0,Y⟩),O S] w λe b=>e=j1 (X J (Hz cs u S).1)/\BB w0 b bb rb pb lad lcp pcs rad rcp cs (Hz cs u S).2 v/\J9 [117,104] w b:=by
 obtain⟨o,l,f,d,c,n⟩:=h.prog;obtain⟨g,i,k,_⟩:=a.small;have p:=Qj a.order c.zB h.fitU;have q:Z f=Z u:=by have:=rk List.length c.same;simpa using this
 exact(ep bb lad lcp pcs o l f cs u S w d c (gW a.both S) g i k m lc).G λe b j=>h.turnP (bF h.fitU S) d n j
def iL(a:P8 s pcs cs)(S)(h:BB w0 w bb rb pb lad lcp pcs rad rcp cs (Ib cs v S).2 v)(g:S.size<=9223372036854775807):rE rF 34 #[jj (V ⟨rb,0,Y⟩),O S] w λe b=>e=j1 (X J (Ib cs v S).1)/\BB w0 b bb rb pb lad lcp pcs rad rcp cs (Ib cs v S).2 (Ib cs v S).2:=by
 obtain⟨k,i,c,j,rfl⟩:=h.ref;obtain⟨_,_,_,n,m,l⟩:=a.small;have f:=Qj a.order h.zB h.fitV;rw[mh]at f;exact(gJ rb pb rad rcp cs k i c S w j a.fits n m l g lc).G λe b d=>h.turnR d
def js(a:P8 s pcs cs)(S)(h:BB w0 w bb rb pb lad lcp pcs rad rcp cs (Hz cs v S).2 v)(g:S.size<=9223372036854775807):rE rF 37 #[jj (V ⟨rb,0,Y⟩),O S] w λe b=>e=j1 (X J (Hz cs v S).1)/\BB w0 b bb rb pb lad lcp pcs rad rcp cs (Hz cs v S).2 (Hz cs v S).2:=by
 obtain⟨k,i,c,j,rfl⟩:=h.ref;obtain⟨_,_,_,n,m,l⟩:=a.small;have f:=Qj a.order h.zB h.fitV;rw[mh]at f;exact(eG rb pb rad rcp cs k i c S w j a.fits n m l g lc).G λe b d=>h.turnR d
def kZ(a:P8 s pcs cs)(h:BB w0 w bb rb pb lad lcp pcs rad rcp cs u v):rE rF 35 #[jj (V ⟨bb,0,Y⟩)] w (OS cs u w):=by
 obtain⟨f,c,e,d,b,i⟩:=h.prog;have g:=Qj a.order b.zB h.fitU;exact Y1 bb lad lcp pcs f c e s cs u w d b a.both a.order a.size a.eq h.fitU lc
def XP(cs:kN AW)(v:kN Ae)(w:jH)(e:Ending)(w':jH):Prop:=∃x,e=j1 x/\rE rF 66 #[x] w' λe w''=>∃t,e=j1 (O t)/\(∀t',kK cs v t'->t'=t)/\Ac [] w w''
def kV(a:P8 s pcs cs)(h:BB w0 w bb rb pb lad lcp pcs rad rcp cs u v):rE rF 65 #[jj (V ⟨rb,0,Y⟩)] w (XP cs v w):=by
 obtain⟨j,i,o,m,rfl⟩:=h.ref;have t:=Qj a.order h.zB h.fitV;rw[mh]at t;refine(Ze rb pb rad rcp cs j i o w m a.fits a.small.2.2.2.1 a.order a.both.pass (λf c=>(h.fitV f c).1) lc).G ?_;rintro _ A ⟨n,z,e,D,rfl,r,g,d,b,y⟩;have x:=d.order.few _ (b.zB.nodup λf c=>(b.zS f c).qK d.prog.zI) b.zS;rw[mh]at x;refine⟨_,rfl,(PI n z e A r lc (λp q=>?_)).G ?_⟩
 .have:=(PM a.size a.eq g h.fitV b.zS p.f (mx q)).1;omega
 .rintro _ B ⟨rfl,l⟩;exact⟨_,rfl,λC k=>mod_one k (Oz a.read a.eq) (λf c=>(h.fitV f c).1) g d b,y.H l⟩
end
set_option maxRecDepth 100000
theorem TY(P:bN)(sa c B0 BA S T w)(hP:P.size<=9223372036854775807)(h:c=0\/∃ab W,sa=V ⟨ab,W,Y⟩/\RU w ab W c BA S T/\c<=B0/\B0<=9223372036854775807)(hS:∀i,i<c->(S i).size<=9223372036854775807):rE rF 38 #[O P,U sa c B0] w λe w'=>e=j1 (.bool true)/\Ac [] w w':=by
 have KA:=Ab h;have Ix:=Ab hS;have Df:=Ab (ZA P w hP);have HX:Hid (∀a,rE rF 32 #[O P] a (Mq P a)):=λa=>YJ P a hP
 clear h hS hP;go_enter func38,ntmps38;go_wp2_with fail
 refine Df.G ?_;rintro _ w1 ⟨bv,er,KD,rfl,HH,HM,HQ,k1⟩;have H3:=Ab HH;have FP:=Ab HM;have FT:=Ab HQ;have AH:=Ab k1;have HS:=Ab (HX w1);clear Df HX HH HM HQ k1;go_wp2_with fail
 refine HS.G ?_;rintro _ w2 ⟨rv,K1,LB,rfl,HR,H4,HW,k2⟩;obtain⟨rfl,rfl⟩:=Prod.mk.inj (Fc HR H3);have FC:=Ab H4;have HA:=Ab HW;have A1:=Ab k2;clear HS HR H4 HW k2 H3;by_cases h0:er=0
 .obtain⟨A,F,E,z,K2,e1,HO,HN,hs,H6,hB⟩:=FT h0;obtain⟨o,D,C,B,b,e2,H2,HZ,hF,_,HI,CL,E0⟩:=HA h0;subst e1 e2;have AB:Hid (P8 P z b):=⟨hB.other (H6.H CL.symm) (EN HI CL E0),JH E0,hF,hs,HI,CL⟩;have H1:Hid (BB w w2 A o D F E z C B b [] []):=⟨AH.H A1,HO,mZ AH.size H2,⟨Y,0,[],HN.C A1,⟨rfl,rp,λf hf=>by cases hf⟩,(λq hq=>by cases hq)⟩,⟨Y,0,[],HZ,rfl⟩,(λf hf=>by cases hf),(λf hf=>by cases hf),rp⟩;have FF:Hid (∀u a,BB w a A o D F E z C B b u u->rE rF 35 #[jj (V ⟨A,0,Y⟩)] a (OS b u a)):=λu a G=>kZ AB G
  have CW:Hid (∀u a,BB w a A o D F E z C B b u u->rE rF 65 #[jj (V ⟨o,0,Y⟩)] a (XP b u a)):=λu a G=>kV AB G
  clear HO HN hs H6 hB H2 HZ hF HI CL E0 FP FC FT HA AH A1;go_wp2_with fail
  refine(Gp 0 w2).G ?_;rintro _ w3 ⟨rfl,Ha⟩;subst Ha;go_wp2_with fail
  go_loopg [11] c (λgk i wr=>∃(k:Nat) (u:kN Ae),i=X J k/\k<=c/\k<=1152921504606846976/\gk=c-k/\Hid (BB w wr A o D F E z C B b u u))
  case atStart=>exact⟨0,[],rfl,lc,lc,rfl,H1⟩
  case round=>
   clear H1;obtain⟨k,u,rfl,hk,LL,H0,M⟩:=hrel;have HG:=Ab H0;clear H0;by_cases EK:k<c/\k<1152921504606846976
   .obtain⟨CC,K4⟩:=EK;have HH:(k:Int)<(c:Int):=lc;have IJ:(k:Int)<1152921504606846976:=lc;obtain⟨ab,W,rfl,H9,hl,hc⟩:∃ab W,sa=V ⟨ab,W,Y⟩/\RU w ab W c BA S T/\c<=B0/\B0<=9223372036854775807:=by
     rcases Aa KA with h|h
     .omega
     .exact h
    obtain⟨d0,d1,d2⟩:=H9.C M.C k CC;have EM:=Aa Ix k CC;have HD:=Ab (M.to ((kR [] wr).alloc (.cells #[X J (BA k),O (S k),O (T k)] 29)));have EY:=Ab (kS wr [X J (BA k),O (S k),O (T k)] 29);have K7:=EY.lt;generalize BA k=KK at*;generalize S k=SS at*;generalize T k=TT at*;by_cases h5:KK=5
    .subst h5;have I:=Ab (iI AB HD SS EM);(have L:Hid (∀a,BB w a A o D F E z C B b (Ib b u SS).2 u->rE rF 34 #[jj (V ⟨o,0,Y⟩),O SS] a λe w'=>e=j1 (X J (Ib b u SS).1)/\BB w w' A o D F E z C B b (Ib b u SS).2 (Ib b u SS).2):=λa G=>iL AB SS G EM);generalize Ib b u SS=R at I L;obtain⟨r,Q⟩:=R;(go_wp2_with fail);refine I.G ?_;rintro _ w4 ⟨rfl,B9,Bx⟩;have A0:=Ab (Bx.zJ EY lu);have A2:=Ab (L w4 B9);have o1:=A0.D 1;simp at o1;clear I L B9 Bx;(go_wp2_with fail);refine A2.G ?_;rintro _ w5 ⟨rfl,N⟩;have y:=Ab (FF Q w5 N);have BT:=Ab N;clear A2 N o1 A0;(go_wp2_with fail);refine(Gp r w5).G ?_;rintro _ w6 ⟨rfl,ES⟩;subst ES;(go_wp2_with fail);refine y.G ?_;rintro _ H ⟨t,rfl,g,j⟩;have p:=Ab g;have d:=Ab (BT.to j);have m:=Ab (CW Q H d);clear y g j BT;(go_wp2_with fail);refine m.G ?_;rintro _ w8 ⟨x,rfl,n⟩;have l:=Ab n;clear m n;(go_wp2_with fail);refine l.G ?_;rintro _ w9 ⟨t',rfl,v,s⟩;obtain rfl:=v t p;have FO:=Ab (d.to s);clear l v p s d;go_wp2_with fail
     go_roundg (c-(k+1))
     case measure=>exact qu
     case rel=>exact⟨k+1,Q,ly,lc,lc,rfl,FO⟩
    .by_cases h6:KK=6
     .subst h6;have I:=Ab (je AB HD SS EM);(have L:Hid (∀a,BB w a A o D F E z C B b (Hz b u SS).2 u->rE rF 37 #[jj (V ⟨o,0,Y⟩),O SS] a λe w'=>e=j1 (X J (Hz b u SS).1)/\BB w w' A o D F E z C B b (Hz b u SS).2 (Hz b u SS).2):=λa G=>js AB SS G EM);generalize Hz b u SS=R at I L;obtain⟨r,Q⟩:=R;(go_wp2_with fail);refine I.G ?_;rintro _ w4 ⟨rfl,B9,Bx⟩;have A0:=Ab (Bx.zJ EY lu);have A2:=Ab (L w4 B9);have o1:=A0.D 1;simp at o1;clear I L B9 Bx;(go_wp2_with fail);refine A2.G ?_;rintro _ w5 ⟨rfl,N⟩;have y:=Ab (FF Q w5 N);have BT:=Ab N;clear A2 N o1 A0;(go_wp2_with fail);refine(Gp r w5).G ?_;rintro _ w6 ⟨rfl,ES⟩;subst ES;(go_wp2_with fail);refine y.G ?_;rintro _ H ⟨t,rfl,g,j⟩;have p:=Ab g;have d:=Ab (BT.to j);have m:=Ab (CW Q H d);clear y g j BT;(go_wp2_with fail);refine m.G ?_;rintro _ w8 ⟨x,rfl,n⟩;have l:=Ab n;clear m n;(go_wp2_with fail);refine l.G ?_;rintro _ w9 ⟨t',rfl,v,s⟩;obtain rfl:=v t p;have FO:=Ab (d.to s);clear l v p s d;go_wp2_with fail
      go_roundg (c-(k+1))
      case measure=>exact qu
      case rel=>exact⟨k+1,Q,ly,lc,lc,rfl,FO⟩
     ·(have K6:(KK==5)=false:=by simp[h5]);(have LM:(KK==6)=false:=by simp[h6]);clear h5 h6;go_wp2
      go_roundg (c-(k+1))
      case measure=>exact qu
      case rel=>exact⟨k+1,u,ly,lc,lc,rfl,HD⟩
   .have y:=Ab (FF u wr M);(have FB:(k:Int)<(c:Int)->¬(k:Int)<1152921504606846976:=λh1 h2=>EK ⟨lc,lc⟩);by_cases CC:(k:Int)<(c:Int)
    .have IJ:=FB CC;clear EK FB;(go_wp2_with fail);refine y.G ?_;rintro _ H ⟨t,rfl,g,j⟩;have p:=Ab g;have d:=Ab (M.to j);have m:=Ab (CW u H d);clear y g j M;(go_wp2_with fail);refine m.G ?_;rintro _ w8 ⟨x,rfl,n⟩;have l:=Ab n;clear m n;(go_wp2_with fail);refine l.G ?_;rintro _ w9 ⟨t',rfl,v,s⟩;obtain rfl:=v t p;have AO:=Ab (d.to s).C;clear l v p s d;(go_wp2_with fail);go_ret;exact⟨ln,AO⟩
    .clear EK FB;(go_wp2_with fail);refine y.G ?_;rintro _ H ⟨t,rfl,g,j⟩;have p:=Ab g;have d:=Ab (M.to j);have m:=Ab (CW u H d);clear y g j M;(go_wp2_with fail);refine m.G ?_;rintro _ w8 ⟨x,rfl,n⟩;have l:=Ab n;clear m n;(go_wp2_with fail);refine l.G ?_;rintro _ w9 ⟨t',rfl,v,s⟩;obtain rfl:=v t p;have AO:=Ab (d.to s).C;clear l v p s d;(go_wp2_with fail);go_ret;exact⟨ln,AO⟩
 .obtain rfl:=FP h0;obtain rfl:=FC h0;have AO:=Ab (AH.H A1);clear FT HA FP FC AH A1;go_wp2_with fail
  refine(Gp er w2).G ?_;rintro _ w3 ⟨rfl,Ha⟩;subst Ha;go_wp2_with fail
  go_ret;exact⟨rfl,AO⟩
