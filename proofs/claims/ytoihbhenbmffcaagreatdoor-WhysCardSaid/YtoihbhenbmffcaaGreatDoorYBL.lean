import Derived.RangeFuncBound
import Derived.Test.YtoihbhenbmffcaaGreatDoorYBK
set_option linter.all false
set_option maxHeartbeats 0
open Option renaming none->Y,some->V
open Go.Value renaming int->X,pointer->j3
open Go.IntKind renaming i64->J
open Go.Obj renaming cells->j1
open List renaming toArray->j2
open Go renaming World->j7
namespace Go.Proofs.YtoihbhenbmffcaaGreatDoor
open Go.RowKit Go.Proofs.Tryz
structure Y6(w0:j7)(sp b1 b2 b3 b4 from_ ze:Nat)(e:List g0)(M:List Nat)(w:j7):Prop where
 kept:Ac [] w0 w
 s:AI w b1 [j3 (V ⟨sp,0,Y⟩)] 233
 bound:AI w b2 (Ai (Bv e)) 243
 fr:AI w b3 [X J from_] 3
 ze:AI w b4 [X J ze] 3
 apart:∀k∈M,w0.heap.size<=k/\k≠b1/\k≠b2/\k≠b3/\k≠b4/\k<w.heap.size
structure Ue(w0:j7)(M1:List Nat)(sp b1 b2 b3 b4 from_ ze:Nat)(e:List g0)(M:List Nat)(w:j7):Prop where
 kept:Ac M1 w0 w
 s:AI w b1 [j3 (V ⟨sp,0,Y⟩)] 233
 bound:AI w b2 (Ai (Bv e)) 243
 fr:AI w b3 [X J from_] 3
 ze:AI w b4 [X J ze] 3
 apart:∀k∈M,(k∈M1\/w0.heap.size<=k)/\k≠b1/\k≠b2/\k≠b3/\k≠b4/\k<w.heap.size
def Y6.more{w0 w:j7}{d c f i g j a:Nat}{e:List g0}{M:List Nat}(h:Y6 w0 d c f i g j a e M w):Ue w0 [] d c f i g j a e M w:=
 ⟨h.kept,h.s,h.bound,h.fr,h.ze,λk b=>⟨Or.inr (h.apart k b).1,(h.apart k b).2⟩⟩
def Ue.grow{w0 w w':j7}{c b d g f j a:Nat}{e:List g0}{M l:List Nat}(h:Ue w0 l c b d g f j a e M w)(k:Ac [] w w'):Ue w0 l c b d g f j a e M w':=
 ⟨h.kept.trans (k.mono (by simp)),h.s.kept k (by simp),h.bound.kept k (by simp),h.fr.kept k (by simp),h.ze.kept k (by simp),λi t=>by
  obtain⟨p,n,r,o,q,m⟩:=h.apart i t
  exact⟨p,n,r,o,q,gI m k.size⟩⟩
set_option maxRecDepth 100000
theorem JP(a d b:Nat)(E:List Value)(w:j7)(k:(Value.agg (j2 E)).cells=j2 E)(j:E.length=26):
  Calls prog 141 #[j3 (V ⟨a,0,Y⟩),X J d,X J b,.agg (j2 E)] w λr c=>∃e f i g,r=.returned (.func (.func 176) #[] #[j3 (V ⟨e,0,Y⟩),j3 (V ⟨f,0,Y⟩),j3 (V ⟨i,0,Y⟩),j3 (V ⟨g,0,Y⟩)])/\
   AI c e [j3 (V ⟨a,0,Y⟩)] 233/\AI c f E 243/\AI c i [X J d] 3/\AI c g [X J b] 3/\(w.heap.size<=e/\w.heap.size<=f/\w.heap.size<=i/\w.heap.size<=g)/\Ac [] w c:=by
 go_enter func141,ntmps141;go_wp2;go_ret;refine⟨w.heap.size,w.heap.size+3,w.heap.size+1,w.heap.size+2,rfl,?_,?_,?_,?_,⟨by omega,by omega,by omega,by omega⟩,((((Ac.refl [] w).alloc _).alloc _).alloc _).alloc _⟩
 .exact(((AI.new w [j3 (V ⟨a,0,Y⟩)] 233).alloc _).alloc _).alloc _
 .have h:=AI.new (((w.alloc (j1 #[j3 (V ⟨a,0,Y⟩)] 233)).alloc (j1 #[X J d] 3)).alloc (j1 #[X J b] 3)) E 243
  rw[fg,fg,fg]at h;exact h
 .have h:=((AI.new (w.alloc (j1 #[j3 (V ⟨a,0,Y⟩)] 233)) [X J d] 3).alloc (j1 #[X J b] 3)).alloc (j1 (j2 E) 243)
  rw[fg]at h;exact h
 .have h:=(AI.new ((w.alloc (j1 #[j3 (V ⟨a,0,Y⟩)] 233)).alloc (j1 #[X J d] 3)) [X J b] 3).alloc (j1 (j2 E) 243)
  rw[fg,fg]at h;exact h
theorem SV(C:Nat)(f:List BF)(s:List Af)(vs:List UInt8)(w0:j7)(M1:List Nat)(hS:∀a,Ac M1 w0 a->cO a C f s vs)(al:UInt8->List g0->List g0)(n:Nat)(e:List g0)(B k A H:Nat)(w:j7)(d:List Nat)(he:Da e)
  (hB:Ue w0 M1 C B k A H n n e d w):
  K0 prog 176 #[j3 (V ⟨B,0,Y⟩),j3 (V ⟨k,0,Y⟩),j3 (V ⟨A,0,Y⟩),j3 (V ⟨H,0,Y⟩)] (λx=>#[.agg (j2 (Ai (Bv x)))]) (AE al f s [] e) d w:=by
 intro l S Jx W FB _ _ hJ HG hR BS;have g:=hB.grow FB;have y:Hid (∀a,Ac [] W a->Calls prog 177 #[j3 (V ⟨C,0,Y⟩),.agg (j2 (Ai (Bv e)))] a λr w'=>r=.returned (.bool (D8 f s e))/\Ac [] a w'):=λa i=>RF (hS _ (g.kept.trans (i.mono (by simp)))) he
 have hc:=Bj (Bv e);have DT:(Ai (Bv e)).length=26:=by unfold Ai;rw[eL];exact GZ he
 have M:=Ab DT;have u:Hid (AE al f s [] e=if D8 f s e then[] else[e]):=by show _=_;rw[AE]
 have I:=Ab hR;have HJ:=Ab hJ;have FL:=Ab BS;obtain⟨p,B2⟩:∃p,AE al f s [] e=p:=⟨_,rfl⟩;rw[B2]at u I⊢;have T:Hid (∀a,p=[e]->S [] d a->YieldAt Fence.wide 0 prog l #[.agg (j2 (Ai (Bv e)))] a λr W'=>(r=.returned (.bool true)/\∃b,S [e] b W')\/(r=.returned (.bool false)/\∃b,Jx [e] b W')):=by
  intro a HD hj;have h:=Aa I [] e [] d a (by rw[HD];rfl) hj;refine YieldAt.mono h ?_;rintro r W' (⟨rfl,b,h1,_⟩|⟨rfl,b,h1,_⟩)
  .exact Or.inl ⟨rfl,b,h1⟩
  .exact Or.inr ⟨rfl,b,h1⟩
 obtain⟨E,hE⟩:∃E,Ai (Bv e)=E:=⟨_,rfl⟩;have Q:=g.bound;rw[hE]at hc DT M y T Q;have P:=g.s.cell 0;have R:=g.fr.cell 0;have c4:=g.ze.cell 0;simp at P R c4;have AH:Hid (∀a,Ac [] W a->AI a k E 243/\a.cell? ⟨B,0,Y⟩=V (j3 (V ⟨C,0,Y⟩))/\a.cell? ⟨A,0,Y⟩=V (X J n)/\a.cell? ⟨H,0,Y⟩=V (X J n)):=λa i=>⟨Q.kept i (by simp),i.cellAt P,i.cellAt R,i.cellAt c4⟩
 obtain⟨F,hF⟩:∃F,D8 f s e=F:=⟨_,rfl⟩;rw[hF]at u y;clear hB g Q hR hJ BS HG B2 hE hF P R c4 FB I;have m:=Ab ((Ac.refl [] W).alloc (j1 #[.func (.yield l) #[] #[]] 279));have G:=Ab (AI.new W [.func (.yield l) #[] #[]] 279);show Calls prog 176 #[.func (.yield l) #[] #[],j3 (V ⟨B,0,Y⟩),j3 (V ⟨k,0,Y⟩),j3 (V ⟨A,0,Y⟩),j3 (V ⟨H,0,Y⟩)] W _;go_enter func176,ntmps176;refine jT (λD j=>?_);go_wp2;refine j _ _ ?_;clear j D;change Code.wp _ _ _ _ (W.alloc (j1 [.func (.yield l) #[] #[]].toArray 279));generalize hw1:W.alloc (j1 [.func (.yield l) #[] #[]].toArray 279)=w1 at m G⊢;clear hw1;generalize W.heap.size=N at G⊢;obtain⟨q2,q1,q3,q4⟩:=AH w1 m;have EX:=Ab (y w1 m);have CC:=Ab q2;clear q2;refine jT (λD j=>?_);go_wp2_with ((with_reducible show wpList _ _ _ ({dst:=_,op:=Op.load 243 _,type:=_,pos:=_,after:=_,guard:=_}::_) _ _);refine Bz (by rfl) 243 _ rfl k 0 (by rfl) E _ CC.range underlying243 rfl (by rw[Aa M];exact Tryz.zH) ?_)
 refine EX.mono ?_;rintro _ w2 ⟨rfl,L⟩;have CL:=Ab (m.trans L);have HA:=Ab (G.kept L (by simp));have BT:Hid (S [] d w2):=BI HJ (s:=([],d)) FL CL;obtain⟨r2,r1,r3,r4⟩:=AH w2 CL;have FP:=Ab r2;have r5:=HA.cell 0;simp at r5;clear L q1 q3 q4 CC EX y m G r2 AH;cases F with
 |true=>
  have z:Hid (p=[]):=by show _=_;rw[Aa u,eI rfl]
  go_wp2;refine eX (jg rfl _ _ _) rfl ?_;exact⟨⟨_,rfl⟩,Or.inl ⟨d,by rw[Aa z];exact BT⟩⟩
 |false=>
  have z:Hid (p=[e]):=by show _=_;rw[Aa u,eE (by simp)]
  have Go:=Ab (T w2 z BT);have HO:((n:Int)==(n:Int))=true:=by simp
  clear u T;go_wp2;refine j _ _ ?_;clear j D;refine jT (λD j=>?_);refine jT (λK4 t=>?_);go_wp2;refine t _ _ ?_;clear t K4;refine wp_cond_true rfl ?_;refine jT (λK4 t=>?_);refine Ho (n:=0) 2 (by rintro ⟨_,_,h⟩;obtain⟨⟨v,e⟩,_⟩:=h;cases e) (λK2 EY=>?_);simp only[ip,iJ];go_wp2_with ((with_reducible show wpList _ _ _ ({dst:=_,op:=Op.load 243 _,type:=_,pos:=_,after:=_,guard:=_}::_) _ _);refine Bz (by rfl) 243 _ rfl k 0 (by rfl) E _ FP.range underlying243 rfl (by rw[Aa M];exact Tryz.zH) ?_)
  refine EY _ _ ?_;clear EY K2;simp only[iC,i8];refine I1 (λ_=>trivial) rfl rfl (l:=l) (args:=#[.agg (j2 E)]) (by rfl) (by first|(simp[go_sem,Oper.semAt];done)|(simp[go_sem,Oper.semAt,execOp,resolve,invoke];done)) Go ?_;rintro r w4 (⟨rfl,b,q⟩|⟨rfl,b,q⟩)
  .refine⟨_,rfl,DH (by rintro ⟨_,_,h⟩;obtain⟨⟨v,e⟩,_⟩:=h;cases e) ?_⟩;simp only[Act.put,ee,ej,el];have A1:=Ab q;clear q;go_wp2;refine t _ _ ?_;go_wp2;refine eX (jg rfl _ _ _) rfl ?_;exact⟨⟨_,rfl⟩,Or.inl ⟨b,by rw[Aa z];exact A1⟩⟩
  .refine⟨_,rfl,DH (by rintro ⟨_,_,h⟩;obtain⟨⟨v,e⟩,_⟩:=h;cases e) ?_⟩;simp only[Act.put,ee,ej,el];have A1:=Ab q;clear q;go_wp2;refine t _ _ ?_;go_wp2;refine eX (jg rfl _ _ _) rfl ?_;exact⟨⟨_,rfl⟩,Or.inr ⟨_,b,A1⟩⟩
