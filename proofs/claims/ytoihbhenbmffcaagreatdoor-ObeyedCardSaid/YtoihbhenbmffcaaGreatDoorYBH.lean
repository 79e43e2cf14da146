import Derived.RangeFuncBound
import Derived.Test.YtoihbhenbmffcaaGreatDoorYBG
set_option linter.all false
set_option maxHeartbeats 0
open Option renaming none->Y,some->V
open Go.Value renaming int->X,pointer->kt
open Go.IntKind renaming i64->J
open Go.Obj renaming cells->j2
open List renaming toArray->j3
open Go renaming World->l9
namespace Go.Proofs.YtoihbhenbmffcaaGreatDoor
open Go.RowKit Go.Proofs.Tryz
structure Z7(w0:l9)(sp b1 b2 b3 b4 from_ zg:Nat)(e:mc zA)(M:mc Nat)(w:l9):Prop where
 kept:Ac [] w0 w
 s:AH w b1 [kt (V ⟨sp,0,Y⟩)] 233
 bound:AH w b2 (Aj (Be e)) 243
 fr:AH w b3 [X J from_] 3
 zg:AH w b4 [X J zg] 3
 apart:∀k∈M,w0.heap.size<=k/\k≠b1/\k≠b2/\k≠b3/\k≠b4/\k<w.heap.size
structure Tv(w0:l9)(M1:mc Nat)(sp b1 b2 b3 b4 from_ zg:Nat)(e:mc zA)(M:mc Nat)(w:l9):Prop where
 kept:Ac M1 w0 w
 s:AH w b1 [kt (V ⟨sp,0,Y⟩)] 233
 bound:AH w b2 (Aj (Be e)) 243
 fr:AH w b3 [X J from_] 3
 zg:AH w b4 [X J zg] 3
 apart:∀k∈M,(k∈M1\/w0.heap.size<=k)/\k≠b1/\k≠b2/\k≠b3/\k≠b4/\k<w.heap.size
def Z7.more{w0 w:l9}{d c f i g j a:Nat}{e:mc zA}{M:mc Nat}(h:Z7 w0 d c f i g j a e M w):Tv w0 [] d c f i g j a e M w:=
 ⟨h.kept,h.s,h.bound,h.fr,h.zg,λk b=>⟨Or.inr (h.apart k b).1,(h.apart k b).2⟩⟩
def Tv.grow{w0 w w':l9}{c b d g f j a:Nat}{e:mc zA}{M l:mc Nat}(h:Tv w0 l c b d g f j a e M w)(k:Ac [] w w'):Tv w0 l c b d g f j a e M w':=
 ⟨h.kept.trans (k.mono (by simp)),h.s.kept k (by simp),h.bound.kept k (by simp),h.fr.kept k (by simp),h.zg.kept k (by simp),λi t=>by
  obtain⟨p,n,r,o,q,m⟩:=h.apart i t
  exact⟨p,n,r,o,q,jw m k.size⟩⟩
set_option maxRecDepth 100000
theorem Hr(a d b:Nat)(E:mc Value)(w:l9)(k:(Value.agg (j3 E)).cells=j3 E)(j:E.length=26):
  Calls prog 141 #[kt (V ⟨a,0,Y⟩),X J d,X J b,.agg (j3 E)] w λr c=>∃e f i g,r=.returned (.func (.func 176) #[] #[kt (V ⟨e,0,Y⟩),kt (V ⟨f,0,Y⟩),kt (V ⟨i,0,Y⟩),kt (V ⟨g,0,Y⟩)])/\
   AH c e [kt (V ⟨a,0,Y⟩)] 233/\AH c f E 243/\AH c i [X J d] 3/\AH c g [X J b] 3/\(w.heap.size<=e/\w.heap.size<=f/\w.heap.size<=i/\w.heap.size<=g)/\Ac [] w c:=by
 go_enter func141,ntmps141;go_wp2;go_ret;refine⟨w.heap.size,w.heap.size+3,w.heap.size+1,w.heap.size+2,rfl,?_,?_,?_,?_,⟨by omega,by omega,by omega,by omega⟩,((((me [] w).alloc _).alloc _).alloc _).alloc _⟩
 .exact(((mf w [kt (V ⟨a,0,Y⟩)] 233).alloc _).alloc _).alloc _
 .have h:=mf (((w.alloc (j2 #[kt (V ⟨a,0,Y⟩)] 233)).alloc (j2 #[X J d] 3)).alloc (j2 #[X J b] 3)) E 243
  rw[iz,iz,iz]at h;exact h
 .have h:=((mf (w.alloc (j2 #[kt (V ⟨a,0,Y⟩)] 233)) [X J d] 3).alloc (j2 #[X J b] 3)).alloc (j2 (j3 E) 243)
  rw[iz]at h;exact h
 .have h:=(mf ((w.alloc (j2 #[kt (V ⟨a,0,Y⟩)] 233)).alloc (j2 #[X J d] 3)) [X J b] 3).alloc (j2 (j3 E) 243)
  rw[iz,iz]at h;exact h
theorem TZ(z:Nat)(d:mc Bi)(s:mc Af)(vs:mc UInt8)(w0:l9)(M1:mc Nat)(hS:∀a,Ac M1 w0 a->aQ a z d s vs)(al:UInt8->mc zA->mc zA)(n:Nat)(e:mc zA)(y k C H:Nat)(w:l9)(f:mc Nat)(he:CQ e)
  (hB:Tv w0 M1 z y k C H n n e f w):
  Kq prog 176 #[kt (V ⟨y,0,Y⟩),kt (V ⟨k,0,Y⟩),kt (V ⟨C,0,Y⟩),kt (V ⟨H,0,Y⟩)] (λx=>#[.agg (j3 (Aj (Be x)))]) (Av al d s [] e) f w:=by
 intro l S Jx W FC _ _ hJ HC hR DT;have i:=hB.grow FC;have A:Hid (∀a,Ac [] W a->Calls prog 177 #[kt (V ⟨z,0,Y⟩),.agg (j3 (Aj (Be e)))] a λr w'=>r=.returned (.bool (DL d s e))/\Ac [] a w'):=λa j=>SC (hS _ (i.kept.trans (j.mono (by simp)))) he
 have hc:=Bv (Be e);have EM:(Aj (Be e)).length=26:=by unfold Aj;rw[ie];exact Hb he
 have P:=Ab EM;have u:Hid (Av al d s [] e=if DL d s e then[] else[e]):=by show _=_;rw[Av]
 have I:=Ab hR;have HJ:=Ab hJ;have HA:=Ab DT;obtain⟨m,EK⟩:∃m,Av al d s [] e=m:=⟨_,rfl⟩;rw[EK]at u I⊢;have HY:Hid (∀a,m=[e]->S [] f a->YieldAt Fence.wide 0 prog l #[.agg (j3 (Aj (Be e)))] a λr M=>(r=.returned (.bool true)/\∃b,S [e] b M)\/(r=.returned (.bool false)/\∃b,Jx [e] b M)):=by
  intro a FT hj;have h:=Aa I [] e [] f a (by rw[FT];rfl) hj;refine YieldAt.mono h ?_;rintro r M (⟨rfl,b,Q,_⟩|⟨rfl,b,Q,_⟩)
  .exact Or.inl ⟨rfl,b,Q⟩
  .exact Or.inr ⟨rfl,b,Q⟩
 obtain⟨E,hE⟩:∃E,Aj (Be e)=E:=⟨_,rfl⟩;have T:=i.bound;rw[hE]at hc EM P A HY T;have R:=i.s.cell 0;have c3:=i.fr.cell 0;have c4:=i.zg.cell 0;simp at R c3 c4;have L:Hid (∀a,Ac [] W a->AH a k E 243/\a.cell? ⟨y,0,Y⟩=V (kt (V ⟨z,0,Y⟩))/\a.cell? ⟨C,0,Y⟩=V (X J n)/\a.cell? ⟨H,0,Y⟩=V (X J n)):=λa j=>⟨T.kept j (by simp),j.cellAt R,j.cellAt c3,j.cellAt c4⟩
 obtain⟨F,hF⟩:∃F,DL d s e=F:=⟨_,rfl⟩;rw[hF]at u A;clear hB i T hR hJ DT HC EK hE hF R c3 c4 FC I;have q:=Ab ((me [] W).alloc (j2 #[.func (.yield l) #[] #[]] 279));have G:=Ab (mf W [.func (.yield l) #[] #[]] 279);show Calls prog 176 #[.func (.yield l) #[] #[],kt (V ⟨y,0,Y⟩),kt (V ⟨k,0,Y⟩),kt (V ⟨C,0,Y⟩),kt (V ⟨H,0,Y⟩)] W _;go_enter func176,ntmps176;refine ma (λD g=>?_);go_wp2;refine g _ _ ?_;clear g D;change Code.wp _ _ _ _ (W.alloc (j2 [.func (.yield l) #[] #[]].toArray 279));generalize hw1:W.alloc (j2 [.func (.yield l) #[] #[]].toArray 279)=w1 at q G⊢;clear hw1;generalize W.heap.size=N at G⊢;obtain⟨q2,q1,q3,q4⟩:=L w1 q;have Bx:=Ab (A w1 q);have BT:=Ab q2;clear q2;refine ma (λD g=>?_);go_wp2_with ((with_reducible show wpList _ _ _ ({dst:=_,op:=Op.load 243 _,type:=_,pos:=_,after:=_,guard:=_}::_) _ _);refine BH (by rfl) 243 _ rfl k 0 (by rfl) E _ BT.range underlying243 rfl (by rw[Aa P];exact Tryz.zH) ?_)
 refine Bx.mono ?_;rintro _ w2 ⟨rfl,k2⟩;have B9:=Ab (q.trans k2);have HG:=Ab (G.kept k2 (by simp));have B0:Hid (S [] f w2):=BB HJ (s:=([],f)) HA B9;obtain⟨r2,r1,r3,r4⟩:=L w2 B9;have HD:=Ab r2;have r5:=HG.cell 0;simp at r5;clear k2 q1 q3 q4 BT Bx A q G r2 L;cases F with
 |true=>
  have B:Hid (m=[]):=by show _=_;rw[Aa u,gY rfl]
  go_wp2;refine im (kV rfl _ _ _) rfl ?_;exact⟨⟨_,rfl⟩,Or.inl ⟨f,by rw[Aa B];exact B0⟩⟩
 |false=>
  have B:Hid (m=[e]):=by show _=_;rw[Aa u,gV (by simp)]
  have HF:=Ab (HY w2 B B0);have HP:((n:Int)==(n:Int))=true:=by simp
  clear u HY;go_wp2;refine g _ _ ?_;clear g D;refine ma (λD g=>?_);refine ma (λK4 p=>?_);go_wp2;refine p _ _ ?_;clear p K4;refine wp_cond_true rfl ?_;refine ma (λK4 p=>?_);refine Ia (n:=0) 2 (by rintro ⟨_,_,h⟩;obtain⟨⟨v,e⟩,_⟩:=h;cases e) (λK2 BS=>?_);simp only[kc,kI];go_wp2_with ((with_reducible show wpList _ _ _ ({dst:=_,op:=Op.load 243 _,type:=_,pos:=_,after:=_,guard:=_}::_) _ _);refine BH (by rfl) 243 _ rfl k 0 (by rfl) E _ HD.range underlying243 rfl (by rw[Aa P];exact Tryz.zH) ?_)
  refine BS _ _ ?_;clear BS K2;simp only[kB,kS];refine Jj (λ_=>trivial) rfl rfl (l:=l) (args:=#[.agg (j3 E)]) (by rfl) (by first|(simp[go_sem,Oper.semAt];done)|(simp[go_sem,Oper.semAt,execOp,resolve,invoke];done)) HF ?_;rintro r w4 (⟨rfl,b,o⟩|⟨rfl,b,o⟩)
  .refine⟨_,rfl,DM (by rintro ⟨_,_,h⟩;obtain⟨⟨v,e⟩,_⟩:=h;cases e) ?_⟩;simp only[Act.put,gI,gJ,gK];have AT:=Ab o;clear o;go_wp2;refine p _ _ ?_;go_wp2;refine im (kV rfl _ _ _) rfl ?_;exact⟨⟨_,rfl⟩,Or.inl ⟨b,by rw[Aa B];exact AT⟩⟩
  .refine⟨_,rfl,DM (by rintro ⟨_,_,h⟩;obtain⟨⟨v,e⟩,_⟩:=h;cases e) ?_⟩;simp only[Act.put,gI,gJ,gK];have AT:=Ab o;clear o;go_wp2;refine p _ _ ?_;go_wp2;refine im (kV rfl _ _ _) rfl ?_;exact⟨⟨_,rfl⟩,Or.inr ⟨_,b,AT⟩⟩
