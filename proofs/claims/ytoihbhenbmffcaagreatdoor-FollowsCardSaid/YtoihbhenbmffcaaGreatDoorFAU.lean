import Derived.RangeFuncBound
import Derived.Test.YtoihbhenbmffcaaGreatDoorFAT
set_option linter.all false
set_option maxHeartbeats 0
open Option renaming none->Y,some->V
open Go.Value renaming int->X,pointer->m2
open Go.IntKind renaming i64->J
open Go.Obj renaming cells->j3
open List renaming toArray->ml
namespace Go.Proofs.YtoihbhenbmffcaaGreatDoor
open Go.RowKit Go.Proofs.Tryz
variable{v w u:World}{e:pM zA}{M:pM Nat}
structure dl(w0:World)(sp b1 b2 b3 b4 from_ yQ:Nat)(e:pM zA)(M:pM Nat)(w:World):Prop where
 kept:Ac [] w0 w
 s:AF w b1 [m2 (V ⟨sp,0,Y⟩)] 233
 bound:AF w b2 (Aj (Bn e)) 243
 fr:AF w b3 [X J from_] 3
 yQ:AF w b4 [X J yQ] 3
 apart:∀k∈M,w0.heap.size<=k/\k≠b1/\k≠b2/\k≠b3/\k≠b4/\k<w.heap.size
structure Vf(w0:World)(M1:pM Nat)(sp b1 b2 b3 b4 from_ yQ:Nat)(e:pM zA)(M:pM Nat)(w:World):Prop where
 kept:Ac M1 w0 w
 s:AF w b1 [m2 (V ⟨sp,0,Y⟩)] 233
 bound:AF w b2 (Aj (Bn e)) 243
 fr:AF w b3 [X J from_] 3
 yQ:AF w b4 [X J yQ] 3
 apart:∀k∈M,(k∈M1\/w0.heap.size<=k)/\k≠b1/\k≠b2/\k≠b3/\k≠b4/\k<w.heap.size
def dl.more{d c f i g j a:Nat}(h:dl v d c f i g j a e M w):Vf v [] d c f i g j a e M w:=
 ⟨h.kept,h.s,h.bound,h.fr,h.yQ,λk b=>⟨Or.inr (h.apart k b).1,(h.apart k b).2⟩⟩
def Vf.grow{c b d g f j a:Nat}{M l:pM Nat}(h:Vf v l c b d g f j a e M w)(k:Ac [] w u):Vf v l c b d g f j a e M u:=
 ⟨h.kept.trans (k.mono (by simp)),h.s.kept k,h.bound.kept k,h.fr.kept k,h.yQ.kept k,λi t=>by
  obtain⟨p,n,r,o,q,m⟩:=h.apart i t
  exact⟨p,n,r,o,q,mX m k.size⟩⟩
set_option maxRecDepth 100000
theorem IQ(a d b:Nat)(E:pM Value)(w:World)(k:(Value.agg (ml E)).cells=ml E)(j:E.length=26):
  Calls prog 141 #[m2 (V ⟨a,0,Y⟩),X J d,X J b,.agg (ml E)] w λr c=>∃e f i g,r=.returned (.func (.func 176) #[] #[m2 (V ⟨e,0,Y⟩),m2 (V ⟨f,0,Y⟩),m2 (V ⟨i,0,Y⟩),m2 (V ⟨g,0,Y⟩)])/\
   AF c e [m2 (V ⟨a,0,Y⟩)] 233/\AF c f E 243/\AF c i [X J d] 3/\AF c g [X J b] 3/\(w.heap.size<=e/\w.heap.size<=f/\w.heap.size<=i/\w.heap.size<=g)/\Ac [] w c:=by
 go_enter func141,ntmps141;go_wp2;go_ret;refine⟨w.heap.size,w.heap.size+3,w.heap.size+1,w.heap.size+2,rfl,?_,?_,?_,?_,⟨by omega,by omega,by omega,by omega⟩,((((pO [] w).alloc _).alloc _).alloc _).alloc _⟩
 .exact(((pP w [m2 (V ⟨a,0,Y⟩)] 233).alloc _).alloc _).alloc _
 .have h:=pP (((w.alloc (j3 #[m2 (V ⟨a,0,Y⟩)] 233)).alloc (j3 #[X J d] 3)).alloc (j3 #[X J b] 3)) E 243
  rw[lT,lT,lT]at h;exact h
 .have h:=((pP (w.alloc (j3 #[m2 (V ⟨a,0,Y⟩)] 233)) [X J d] 3).alloc (j3 #[X J b] 3)).alloc (j3 (ml E) 243)
  rw[lT]at h;exact h
 .have h:=(pP ((w.alloc (j3 #[m2 (V ⟨a,0,Y⟩)] 233)).alloc (j3 #[X J d] 3)) [X J b] 3).alloc (j3 (ml E) 243)
  rw[lT,lT]at h;exact h
theorem VF(C:Nat)(f:pM Br)(s:pM Af)(vs:pM UInt8)(w0:World)(M1:pM Nat)(hS:∀a,Ac M1 w0 a->dU a C f s vs)(al:UInt8->pM zA->pM zA)(n:Nat)(e:pM zA)(B k A H:Nat)(w:World)(d:pM Nat)(he:Di e)
  (hB:Vf w0 M1 C B k A H n n e d w):
  Lx prog 176 #[m2 (V ⟨B,0,Y⟩),m2 (V ⟨k,0,Y⟩),m2 (V ⟨A,0,Y⟩),m2 (V ⟨H,0,Y⟩)] (λx=>#[.agg (ml (Aj (Bn x)))]) (Aw al f s [] e) d w:=by
 intro l S Jx W FA _ _ hJ HE hR BS;have g:=hB.grow FA;have y:Hid (∀a,Ac [] W a->Calls prog 177 #[m2 (V ⟨C,0,Y⟩),.agg (ml (Aj (Bn e)))] a λr w'=>r=.returned (.bool (Eg f s e))/\Ac [] a w'):=λa i=>Uo (hS _ (g.kept.trans (i.mono (by simp)))) he
 have hc:=Bp (Bn e);have DT:(Aj (Bn e)).length=26:=by unfold Aj;rw[lm];exact Iv he
 have M:=Ab DT;have u:Hid (Aw al f s [] e=if Eg f s e then[] else[e]):=by show _=_;rw[Aw]
 have I:=Ab hR;have HJ:=Ab hJ;have FF:=Ab BS;obtain⟨p,B2⟩:=pN (Aw al f s [] e);rw[B2]at u I⊢;have T:Hid (∀a,p=[e]->S [] d a->YieldAt Fence.wide 0 prog l #[.agg (ml (Aj (Bn e)))] a λr W'=>(r=.returned (.bool true)/\∃b,S [e] b W')\/(r=.returned (.bool false)/\∃b,Jx [e] b W')):=by
  intro a HB hj;have h:=Aa I [] e [] d a (by rw[HB];rfl) hj;refine YieldAt.mono h ?_;rintro r W' (⟨rfl,b,h1,_⟩|⟨rfl,b,h1,_⟩)
  .exact Or.inl ⟨rfl,b,h1⟩
  .exact Or.inr ⟨rfl,b,h1⟩
 obtain⟨E,hE⟩:=pN (Aj (Bn e));have Q:=g.bound;rw[hE]at hc DT M y T Q;have P:=g.s.cell 0;have R:=g.fr.cell 0;have c4:=g.yQ.cell 0;simp at P R c4;have AH:Hid (∀a,Ac [] W a->AF a k E 243/\a.cell? ⟨B,0,Y⟩=V (m2 (V ⟨C,0,Y⟩))/\a.cell? ⟨A,0,Y⟩=V (X J n)/\a.cell? ⟨H,0,Y⟩=V (X J n)):=λa i=>⟨Q.kept i,i.cellAt P,i.cellAt R,i.cellAt c4⟩
 obtain⟨F,hF⟩:=pN (Eg f s e);rw[hF]at u y;clear hB g Q hR hJ BS HE B2 hE hF P R c4 FA I;have m:=Ab ((pO [] W).alloc (j3 #[.func (.yield l) #[] #[]] 279));have G:=Ab (pP W [.func (.yield l) #[] #[]] 279);show Calls prog 176 #[.func (.yield l) #[] #[],m2 (V ⟨B,0,Y⟩),m2 (V ⟨k,0,Y⟩),m2 (V ⟨A,0,Y⟩),m2 (V ⟨H,0,Y⟩)] W _;go_enter func176,ntmps176;refine pL (λD j=>?_);go_wp2;refine j _ _ ?_;clear j D;change Code.wp _ _ _ _ (W.alloc (j3 [.func (.yield l) #[] #[]].toArray 279));generalize hw1:W.alloc (j3 [.func (.yield l) #[] #[]].toArray 279)=w1 at m G⊢;clear hw1;generalize W.heap.size=N at G⊢;obtain⟨q2,q1,q3,q4⟩:=AH w1 m;have EM:=Ab (y w1 m);have CC:=Ab q2;clear q2;refine pL (λD j=>?_);go_wp2_with ((with_reducible show wpList _ _ _ ({dst:=_,op:=Op.load 243 _,type:=_,pos:=_,after:=_,guard:=_}::_) _ _);refine BR (by rfl) 243 _ rfl k 0 (by rfl) E _ CC.range underlying243 rfl (by rw[Aa M];exact Tryz.zG) ?_)
 refine EM.mono ?_;rintro _ w2 ⟨rfl,L⟩;have CL:=Ab (m.trans L);have Go:=Ab (G.kept L);have BT:Hid (S [] d w2):=BI HJ (s:=([],d)) FF CL;obtain⟨r2,r1,r3,r4⟩:=AH w2 CL;have FL:=Ab r2;have r5:=Go.cell 0;simp at r5;clear L q1 q3 q4 CC EM y m G r2 AH;cases F with
 |true=>
  have z:Hid (p=[]):=by show _=_;rw[Aa u,ln rfl]
  go_wp2;refine lL (oL rfl _ _ _) rfl ?_;exact⟨⟨_,rfl⟩,Or.inl ⟨d,by rw[Aa z];exact BT⟩⟩
 |false=>
  have z:Hid (p=[e]):=by show _=_;rw[Aa u,li (by simp)]
  have FT:=Ab (T w2 z BT);have HM:((n:Int)==(n:Int))=true:=by simp
  clear u T;go_wp2;refine j _ _ ?_;clear j D;refine pL (λD j=>?_);refine pL (λK4 t=>?_);go_wp2;refine t _ _ ?_;clear t K4;refine wp_cond_true rfl ?_;refine pL (λK4 t=>?_);refine I1 (n:=0) 2 (by rintro ⟨_,_,h⟩;obtain⟨⟨v,e⟩,_⟩:=h;cases e) (λK2 ES=>?_);simp only[nQ,oA];go_wp2_with ((with_reducible show wpList _ _ _ ({dst:=_,op:=Op.load 243 _,type:=_,pos:=_,after:=_,guard:=_}::_) _ _);refine BR (by rfl) 243 _ rfl k 0 (by rfl) E _ FL.range underlying243 rfl (by rw[Aa M];exact Tryz.zG) ?_)
  refine ES _ _ ?_;clear ES K2;simp only[om,oF];refine J6 (λ_=>trivial) rfl rfl (l:=l) (args:=#[.agg (ml E)]) (by rfl) (by first|(simp[go_sem,Oper.semAt];done)|(simp[go_sem,Oper.semAt,execOp,resolve,invoke];done)) FT ?_;rintro r w4 (⟨rfl,b,q⟩|⟨rfl,b,q⟩)
  .refine⟨_,rfl,Eh (by rintro ⟨_,_,h⟩;obtain⟨⟨v,e⟩,_⟩:=h;cases e) ?_⟩;simp only[Act.put,kR,kT,kU];have A1:=Ab q;clear q;go_wp2;refine t _ _ ?_;go_wp2;refine lL (oL rfl _ _ _) rfl ?_;exact⟨⟨_,rfl⟩,Or.inl ⟨b,by rw[Aa z];exact A1⟩⟩
  .refine⟨_,rfl,Eh (by rintro ⟨_,_,h⟩;obtain⟨⟨v,e⟩,_⟩:=h;cases e) ?_⟩;simp only[Act.put,kR,kT,kU];have A1:=Ab q;clear q;go_wp2;refine t _ _ ?_;go_wp2;refine lL (oL rfl _ _ _) rfl ?_;exact⟨⟨_,rfl⟩,Or.inr ⟨_,b,A1⟩⟩
