import Derived.Test.YtoihbhenbmffcaaGreatDoorFAR
import Derived.Test.YtoihbhenbmffcaaGreatDoorFBC
set_option linter.all false
set_option maxHeartbeats 0
open Go.Value renaming int->X,string->O
open Go.IntKind renaming i64->J
open Go.Ending renaming returned->oa
open ByteArray renaming empty->pF
namespace Go.Proofs.YtoihbhenbmffcaaGreatDoor
open Go.RowKit Go.Proofs.Tryz
variable{n:Nat}{I:Int}{s:zA}{w:World}{z:Value}
def WK(s:zA)(b:Nat)(a:Bool):(AN s b a).1.s.size<=s.size:=by
 unfold AN;split
 .exact lz _
 .split
  .split
   .exact lz _
   .split
    .exact MG _ _ _
    .split
     .exact lz _
     .show(ByteArray.extract _ _ _).size<=_;rw[my];omega
  .exact lz _
def eu(s:zA)(b:Nat):∀t∈(CE s b).1,t.s.size<=s.size:=by
 fun_induction CE s b with
 |case1 b hc _ _ ih=>
  intro t a;rcases kZ.1 a with rfl|a
  .exact WK _ _ _
  .exact ih t a
 |case2 b hc=>
  intro t a;rw[kY]at a;subst a;exact WK _ _ _
def j6(s:zA)(A:Dg):Prop:=A.name.size<=s.size/\∀t∈A.args,t.s.size<=s.size
def NP(s:zA)(c:Nat)(b:Bool):j6 s (AZ s c b).1:=by
 unfold AZ;refine⟨MG _ _ _,?_⟩;show∀t∈(Ev s _).1,_;unfold Ev;split
 .intro t a;cases a
 .exact eu _ _
def TM(s:zA):j6 s G6:=⟨lz _,λt a=>by cases a⟩
def ZL(s:zA)(a:Nat):j6 s (DF s a).1.A:=by
 unfold DF;simp only;split
 .exact NP _ _ _
 .split
  .exact NP _ _ _
  .unfold I6;split
   .exact TM s
   .exact TM s
def ei(s:zA)(b:Nat):∀x∈(Bj s b).1,j6 s x.A:=by
 fun_induction Bj s b with
 |case1 b hc _ _ ih=>
  intro t a;rcases kZ.1 a with rfl|a
  .exact ZL _ _
  .exact ih t a
 |case2 b hc=>
  intro t a;rw[kY]at a;subst a;exact ZL _ _
def kH(s:zA)(c:CD):Prop:=j6 s c.head/\∀x∈c.body,j6 s x.A
def JY(s:zA)(b:Nat):kH s (Ao s b).1:=by
 unfold Ao;refine⟨NP _ _ _,?_⟩;show∀x∈(D9 s _ _).1,_;unfold D9;split
 .split
  .exact ei _ _
  .intro x a;cases a
 .intro x a;cases a
def GI(s:zA)(b:Nat):∀c∈(An s b).1,kH s c:=by
 fun_induction An s b with
 |case1 b ha hc ih=>
  intro c a;rcases kZ.1 a with rfl|a
  .exact JY _ _
  .exact ih c a
 |case2 b ha hc=>
  intro c a;rw[kY]at a;subst a;exact JY _ _
 |case3 b ha=>intro c a;cases a
def M5:∀(k:Nat) (x:zA),(LR k x).size<=x.size+k
 |0,x=>lC _
 |k+1,x=>by
  rw[LR];split
  .have h:=M5 k (QH++x);have a:QH.size=1:=rfl;rw[lh,a]at h;omega
  .omega
def Pk(x:zA):(AE x).size<=x.size+3:=by
 unfold AE;split
 .exact M5 3 x
 .omega
def S4(cs ds:pM A4):Prop:=∀c∈cs,∃d∈ds,d.head=c.head/\Al d=Al c
def Hy{b a:pM A4}(h:b.map A4.erase=a.map A4.erase):S4 b a:=by
 intro c g;obtain⟨d,f,e⟩:=(F2.of_map h).yK c g;exact⟨d,f,(congrArg CD.head e).symm,(congrArg CD.body e).symm⟩
def S4.inst{a f:pM A4}(h:S4 a f){i:GZ Af}(l:FR a i):FR f i:=by
 obtain⟨c,k,σ,b,rfl⟩:=l;obtain⟨d,g,j,e⟩:=h c k;refine⟨d,g,σ,?_,?_⟩
 .unfold N8 at b⊢;rw[e];exact b
 .unfold CG;rw[j,e]
def S4.consts{b e:pM A4}(h:S4 b e){x:zA}(a:x∈consts b):x∈consts e:=by
 unfold Go.Proofs.YtoihbhenbmffcaaGreatDoor.consts at a⊢;obtain⟨c,i,a⟩:=ma.1 a;obtain⟨d,f,g,_⟩:=h c i;exact ma.2 ⟨d,f,by rw[g];exact a⟩
def S4.factIn{b g:pM A4}(h:S4 b g){f:Af}(a:D0 b f):D0 g f:=by
 refine⟨?_,λx l=>h.consts (a.args x l)⟩;obtain⟨c,k,e⟩:=a.zb;obtain⟨d,i,j,_⟩:=h c k;exact⟨d,i,by rw[j];exact e⟩
def S4.inv{a b:pM A4}(h:S4 a b)(g:S4 b a){L:zA->Nat}{s:pM Af}(c:GF a L n s):GF b L n s:=by
 have e:FR a=FR b:=funext λi=>propext ⟨h.inst,g.inst⟩
 exact⟨by rw[<-e];exact c.work,c.zM,λf d=>h.factIn (c.zW f d)⟩
def S4.zR{g i:pM A4}(l:S4 i g){L:zA->Nat}(j:CR g L):CR i L:=by
 refine⟨λd e x b a=>?_,λd e x b a=>?_⟩<;>obtain⟨c,h,f,k⟩:=l d e
 .rw[<-f];exact j.pos c h x (by rw[k];exact b) a
 .rw[<-f];exact j.neg c h x (by rw[k];exact b) a
def Ja(s:zA)(t:zA)(er:Int):Prop:=
 (er≠0->t=pF)/\
 (er=0->∃(cs:pM A4) (L:zA->Nat) (N:Nat) (u:pM Af),cs.map A4.erase=(An s (Ae s 0)).1/\CR cs L/\GF cs L N u/\(∀c∈cs,L c.head.name<N)/\t=U6 pF (u.map BU))
def Rg{s t i:zA}(g:Ja s t I)(h:Oj s i I):t=i:=by
 by_cases e:I=0
 .obtain⟨w,L,N,u,j,o,q,p,rfl⟩:=g.2 e;obtain⟨y,x,f,m,v,l,rfl⟩:=h.2 e;have a:=Hy (j.trans f.symm);have b:=Hy (f.trans j.symm);refine m.text v l (b.zR o) (a.inv b q) (λd k=>?_);obtain⟨c,r,n,_⟩:=b d k;rw[<-n];exact p c r
 .rw[g.1 e,h.1 e]
def OY(H:s.size<=300){n:pM PC}{g:pM Dy}(i:Dc (Dl s) 0 []=.ok n)(j:g.map Dy.pc=n)(E:DE w z g){r:Int×Int}(C:Ex s (iY s) r)(y:r.1=0):
  r=(0,0)/\∃a:pM A4,a.map A4.erase=(An s (Ae s 0)).1/\M9 g a:=by
 have h:=Kq s;rw[i]at h;have d:((An s (Ae s 0)).1.map XO).map A4.erase=(An s (Ae s 0)).1:=by
  rw[mq]
  conv=>rhs;rw[<-List.map_id (An s (Ae s 0)).1]
  exact mu λc _=>PI c
 generalize(An s (Ae s 0)).1.map XO=a at d;have F:CI s (CJ a).1 (CJ a).2:=by
  unfold CI;rw[li (by omega),li (by rw[h.1];simp)];exact⟨a,d,rfl⟩
 have t:=DA F C;have o:CJ a=(0,0):=IL (by rw[<-show r.1=(CJ a).1 by rw[t]];exact y);refine⟨by rw[t,o],a,d,?_⟩;have G:=(JB s).1;have B:=J8 (by omega) _ 0 [] (lC _) (by simp) i;have u:g.map Dy.pc=a.map λr=>fT r.erase:=by
  rw[j,h.2.1,<-d,mq];rfl
 have m:∀c∈g,KF c.pc:=λc f=>B.1 _ (by rw[<-j];exact lk.2 ⟨c,f,rfl⟩)
 refine⟨(F2.of_map u).mono (λc f b l k=>fR k (m c f) (E.each c f).wf ?_),C7 h.1 d o,m,λc f=>?_⟩
 .exact h.2.2 b.erase (by rw[<-d];exact lk.2 ⟨b,l,rfl⟩)
 .obtain⟨b,l,k⟩:=(F2.of_map u).yK c f;have q:=GI s (Ae s 0) b.erase (by rw[<-d];exact lB l);refine⟨?_,λp i=>?_⟩
  .have e:c.hn=b.erase.head.name:=congrArg PC.hn k;rw[e];have:=q.1.1;omega
  .have e:c.zH.map Prod.fst=b.erase.body.map LU:=congrArg PC.body k;(have j:p.1∈b.erase.body.map LU:=by rw[<-e];exact lB i);obtain⟨x,D,v⟩:=lk.1 j;rw[<-v];have:=(q.2 x D).1;show x.A.name.size<=_;omega
def Ra(w:s.size<=300){g:pM A4}(h:g.map A4.erase=(An s (Ae s 0)).1){u:pM Af}(q:∀f∈u,D0 g f){fs:pM Fa}(k:fs.map Fa.f=u.map BU):
  ∀p∈fs,p.f.name.size<=1000000/\∀x∈p.f.zC,x.size<=1000000:=by
 intro p i;have b:p.f∈u.map BU:=by rw[<-k];exact lB i
 obtain⟨f,j,e⟩:=lk.1 b;have d:=q f j;rw[<-e];refine⟨?_,λx v=>?_⟩
 .obtain⟨c,a,n,_⟩:=d.zb;show f.name.size<=_;rw[n];have:=(GI s (Ae s 0) c.erase (by rw[<-h];exact lB a)).1.1;have r:c.erase.head=c.head:=rfl;rw[r]at this;omega
 .obtain⟨y,l,rfl⟩:=lk.1 v;have a:=d.args y l;unfold consts at a;obtain⟨c,m,b⟩:=ma.1 a;obtain⟨t,o,rfl⟩:=lk.1 b;have:=(GI s (Ae s 0) c.erase (by rw[<-h];exact lB m)).1.2 t (lK.1 o).1;have:=Pk t.s;omega
set_option maxRecDepth 100000
theorem IK(s:zA)(w:World)(AT:s.size<=9223372036854775807):
  Calls prog 14 #[O s] w λe i=>∃(t:zA) (r:Int×Int),e=oa (.tuple #[O t,X J r.1,X J r.2])/\Ex s (iY s) r/\Ja s t r.1/\Ac [] w i:=by
 have I:=Ab (LY s (iY s) w AT (λf cs m x p=>Me f m p));go_enter func14,ntmps14;go_wp2_with fail
 refine I.mono ?_;rintro _ q ⟨R,n,cp,⟨j,F⟩,rfl,AB,H,E⟩;have A:=Ab AB;have y:=Ab H;have Q:=Ab E;clear I AB H E;by_cases k:j=0
 .subst k;obtain⟨f,cs,x,m,p,rfl,B⟩:=y rfl;obtain⟨T,g,D,C⟩:=OY f m p B A rfl;obtain rfl:F=0:=(Prod.mk.inj T).2;have A2:((0:Int) !=0)=false:=rfl;have Ax:=Ab (Pr R cp x g q B C);have Dk:Hid (∀a u L N b,SQ q a (.slice R x.length cp) [] u b->CR g L->GF g L N u->(∀c∈g,L c.head.name<N)->
    Calls prog 42 #[.pointer (some ⟨a,1,none⟩)] b λe i=>∃t,e=oa (O t)/\Ja s t 0/\Ac [] q i):=by
   intro a u L N b G h1 v h3;obtain⟨BA,BS,W,CL,CC,xs,o,l,d,_⟩:=G.out;have hc:=o.cell 1;have DT:=(C.zb v).2.2;(have B9:W.length=u.length:=by have:=congrArg List.length d.same;simpa using this);refine(VC a 1 BA BS W b (by simpa using hc) l (by omega) (Ra f D v.zW d.same)).mono ?_;rintro _ i ⟨rfl,hk⟩;exact⟨_,rfl,⟨λh=>absurd rfl h,λ_=>⟨g,L,N,u,D,h1,v,h3,by rw[d.same]⟩⟩,G.kept.trans hk⟩
  clear f m p B T D C y;go_wp2_with fail
  refine Ax.mono ?_;rintro _ b ⟨a,u,L,N,rfl,o,l,d,S⟩;have P:=Ab (Dk a u L N b o l d S);clear Ax Dk o l d S;go_wp2_with fail
  refine P.mono ?_;rintro _ w3 ⟨t,rfl,hF,M⟩;have z:=Ab hF;have B0:=Ab (Q.trans M);clear P hF M;go_wp2_with fail
  go_ret3;exact⟨t,(0,0),rfl,A,z,B0⟩
 .have A2:(j !=0)=true:=by simp[k]
  have z:Hid (Ja s pF j):=⟨λ_=>rfl,λh=>absurd h k⟩;clear k y;go_wp2_with fail
  go_ret3;exact⟨pF,(j,F),rfl,A,z,Q⟩
theorem Yk(S T:zA)(w:World)(p:S.size<=9223372036854775807):Calls prog 39 #[.agg #[X J 2,O S,O T]] w λe q=>e=oa (.bool true)/\Ac [] w q:=by
 have j:=Ab (pP w [X J 2,O S,O T] 29);have k:=Ab ((pO [] w).alloc (.cells [X J 2,O S,O T].toArray 29));have m:=Ab (IK S (w.alloc (.cells [X J 2,O S,O T].toArray 29)) p);go_enter func39,ntmps39;go_wp2_with fail
 refine m.mono ?_;rintro _ x ⟨t,⟨s,z⟩,rfl,i,hF,a⟩;have b:=j.kept a;have h:=Ab (k.trans a);have n:=Ab (Wg S x p);have g:=b.cell 1;simp at g;have c:=Ab i;have f:=Ab hF;clear m a i hF j k b;go_wp2_with fail
 refine n.mono ?_;rintro _ r ⟨A,C,B,rfl,o,l,d⟩;obtain⟨rfl,rfl⟩:=Prod.mk.inj (DA o c);obtain rfl:=Rg f l;have v:=Ab (h.trans d);clear n o l d c f g h;go_wp2_with fail
 refine(E6 s r).mono ?_;rintro _ y ⟨rfl,u⟩;subst u;go_wp2;go_ret;exact⟨by simp,v⟩
set_option maxRecDepth 512
theorem RM(g n:Int)(u:∀b S T w,g<=b->b<=n->S.size<=9223372036854775807->T.size<=9223372036854775807->Calls prog 39 #[.agg #[X J b,O S,O T]] w λe d=>e=oa (.bool true)/\Ac [] w d)
  (t r a j:Nat) (b:Nat->Int) (S T:Nat->zA) (w:World) (h:LZ w t r a b S T) (P:a<=j) (R:j<=9223372036854775807) (x:∀i,i<a->(S i).size<=9223372036854775807/\(T i).size<=9223372036854775807):
  Calls prog 13 #[.slice (some ⟨t,r,none⟩) a j,X J g,X J n] w λe d=>e=oa (X J (-1))/\Ac [] w d:=by
 have H:=Ab h;have B:=Ab x;have F:=Ab u;clear h x u;go_enter func13,ntmps13;go_wp2
 go_loopg [7] a (λgk i wr=>∃(k:Nat),i=X J k/\k<=a/\k<=1152921504606846976/\gk=a-k/\Hid (Ac [] w wr))
 case atStart=>exact⟨0,rfl,by omega,by omega,rfl,pO _ _⟩
 case round=>
  obtain⟨k,rfl,L,E,s,c⟩:=hrel;have f:=Ab s;clear s;by_cases p:k<a
  ·(have G:(k:Int)<(a:Int):=by omega);by_cases o:k<1152921504606846976
   ·(have C:(k:Int)<1152921504606846976:=by omega);have l:=Ab o;clear o E;obtain⟨N,M,I⟩:=H.kept c k p;have y:=Aa B k p;have m:=Ab (c.alloc (.cells [X J (b k),O (S k),O (T k)].toArray 29));by_cases A:g<=b k
    .by_cases z:b k<=n
     .have q:=Ab (F (b k) (S k) (T k) (wr.alloc (.cells [X J (b k),O (S k),O (T k)].toArray 29)) A z y.1 y.2);(go_wp2_with fail);refine q.mono ?_;rintro e Q ⟨rfl,v⟩;have D:=Ab (m.trans v);clear q v;go_wp2
      go_roundg (a-(k+1))
      case measure=>have:=Aa f;omega
      case rel=>exact⟨k+1,by go_num,by omega,by have:=Aa l;omega,rfl,D⟩
     .go_wp2
      go_roundg (a-(k+1))
      case measure=>have:=Aa f;omega
      case rel=>exact⟨k+1,by go_num,by omega,by have:=Aa l;omega,rfl,m⟩
    .go_wp2
     go_roundg (a-(k+1))
     case measure=>have:=Aa f;omega
     case rel=>exact⟨k+1,by go_num,by omega,by have:=Aa l;omega,rfl,m⟩
   ·(have C:¬(k:Int)<1152921504606846976:=by omega);go_wp2;go_ret;exact⟨rfl,c⟩
  ·(have G:¬(k:Int)<(a:Int):=by omega);go_wp2;go_ret;exact⟨rfl,c⟩
theorem RC(c f:Int)(a:Option Addr)(d:Nat)(w:World):Calls prog 13 #[.slice a 0 d,X J c,X J f] w λe b=>e=oa (X J (-1))/\Ac [] w b:=by
 go_enter func13,ntmps13;go_wp2
 go_loop [7] (λi=>i=X J 0) (λ_=>0)
 case atStart=>rfl
 case round=>
  subst hrel;go_wp2;go_ret;exact⟨rfl,pO _ _⟩
theorem QO(h:Calls prog 13 #[z,X J 2,X J 2] w λe a=>e=oa (X J (-1))/\Ac [] w a):Calls prog 4 #[z] w λe a=>e=oa (.bool true)/\Ac [] w a:=by
 go_enter func4,ntmps4;go_wp2_with fail
 refine h.mono ?_;rintro e d ⟨rfl,b⟩;have c:=Ab b;clear b;go_wp2;go_ret;exact⟨rfl,c⟩
def jf(a:Int)(S T:zA)(w:World)(f:2<=a)(d:a<=2)(c:S.size<=9223372036854775807)(_:T.size<=9223372036854775807):Calls prog 39 #[.agg #[X J a,O S,O T]] w λe b=>e=oa (.bool true)/\Ac [] w b:=by
 obtain rfl:a=2:=by omega
 exact Yk S T w c
