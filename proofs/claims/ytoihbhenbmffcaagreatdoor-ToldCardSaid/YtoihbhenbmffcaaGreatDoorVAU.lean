import Derived.RangeFuncBound
import Derived.Test.YtoihbhenbmffcaaGreatDoorVAT
set_option linter.all false
set_option maxHeartbeats 0
open Option renaming none->Y,some->V
open Go.Value renaming int->X,pointer->Gi
open Go.IntKind renaming i64->J
open Go.Obj renaming cells->Dj
open List renaming toArray->D6
namespace Go.Proofs.YtoihbhenbmffcaaGreatDoor
open Go.RowKit Go.Proofs.Tryz
variable{v w u:World}{e:QC bC}{M:QC Nat}
structure dv(w0:World)(sp b1 b2 b3 b4 from_ zj:Nat)(e:QC bC)(M:QC Nat)(w:World):Prop where
 kept:Ac [] w0 w
 s:AI w b1 [Gi (V ⟨sp,0,Y⟩)] 233
 bound:AI w b2 (Aj (Bq e)) 243
 fr:AI w b3 [X J from_] 3
 zj:AI w b4 [X J zj] 3
 apart:∀k∈M,w0.heap.size<=k/\k≠b1/\k≠b2/\k≠b3/\k≠b4/\k<w.heap.size
structure Vd(w0:World)(M1:QC Nat)(sp b1 b2 b3 b4 from_ zj:Nat)(e:QC bC)(M:QC Nat)(w:World):Prop where
 kept:Ac M1 w0 w
 s:AI w b1 [Gi (V ⟨sp,0,Y⟩)] 233
 bound:AI w b2 (Aj (Bq e)) 243
 fr:AI w b3 [X J from_] 3
 zj:AI w b4 [X J zj] 3
 apart:∀k∈M,(k∈M1\/w0.heap.size<=k)/\k≠b1/\k≠b2/\k≠b3/\k≠b4/\k<w.heap.size
def dv.more{d c f i g j a:Nat}(h:dv v d c f i g j a e M w):Vd v [] d c f i g j a e M w:=
 ⟨h.kept,h.s,h.bound,h.fr,h.zj,λk b=>⟨Or.inr (h.apart k b).1,(h.apart k b).2⟩⟩
def Vd.grow{c b d g f j a:Nat}{M l:QC Nat}(h:Vd v l c b d g f j a e M w)(k:Ac [] w u):Vd v l c b d g f j a e M u:=
 ⟨h.kept.trans (k.mono (by simp)),h.s.kept k,h.bound.kept k,h.fr.kept k,h.zj.kept k,λi t=>by
  obtain⟨p,n,r,o,q,m⟩:=h.apart i t
  exact⟨p,n,r,o,q,nz m k.size⟩⟩
set_option maxRecDepth 100000
theorem IR(a d b:Nat)(E:QC Value)(w:World)(k:(Value.agg (D6 E)).cells=D6 E)(j:E.length=26):
  Calls prog 141 #[Gi (V ⟨a,0,Y⟩),X J d,X J b,.agg (D6 E)] w λr c=>∃e f i g,r=.returned (.func (.func 176) #[] #[Gi (V ⟨e,0,Y⟩),Gi (V ⟨f,0,Y⟩),Gi (V ⟨i,0,Y⟩),Gi (V ⟨g,0,Y⟩)])/\
   AI c e [Gi (V ⟨a,0,Y⟩)] 233/\AI c f E 243/\AI c i [X J d] 3/\AI c g [X J b] 3/\(w.heap.size<=e/\w.heap.size<=f/\w.heap.size<=i/\w.heap.size<=g)/\Ac [] w c:=by
 go_enter func141,ntmps141;go_wp2;go_ret;refine⟨w.heap.size,w.heap.size+3,w.heap.size+1,w.heap.size+2,rfl,?_,?_,?_,?_,⟨by omega,by omega,by omega,by omega⟩,((((SF [] w).alloc _).alloc _).alloc _).alloc _⟩
 .exact(((Tc w [Gi (V ⟨a,0,Y⟩)] 233).alloc _).alloc _).alloc _
 .have h:=Tc (((w.alloc (Dj #[Gi (V ⟨a,0,Y⟩)] 233)).alloc (Dj #[X J d] 3)).alloc (Dj #[X J b] 3)) E 243
  rw[mt,mt,mt]at h;exact h
 .have h:=((Tc (w.alloc (Dj #[Gi (V ⟨a,0,Y⟩)] 233)) [X J d] 3).alloc (Dj #[X J b] 3)).alloc (Dj (D6 E) 243)
  rw[mt]at h;exact h
 .have h:=(Tc ((w.alloc (Dj #[Gi (V ⟨a,0,Y⟩)] 233)).alloc (Dj #[X J d] 3)) [X J b] 3).alloc (Dj (D6 E) 243)
  rw[mt,mt]at h;exact h
theorem VF(C:Nat)(f:QC Bp)(s:QC Af)(vs:QC UInt8)(w0:World)(M1:QC Nat)(hS:∀a,Ac M1 w0 a->eh a C f s vs)(al:UInt8->QC bC->QC bC)(n:Nat)(e:QC bC)(B k A H:Nat)(w:World)(d:QC Nat)(he:Dr e)
  (hB:Vd w0 M1 C B k A H n n e d w):
  Lv prog 176 #[Gi (V ⟨B,0,Y⟩),Gi (V ⟨k,0,Y⟩),Gi (V ⟨A,0,Y⟩),Gi (V ⟨H,0,Y⟩)] (λx=>#[.agg (D6 (Aj (Bq x)))]) (Av al f s [] e) d w:=by
 intro l S Jx W EY _ _ hJ HC hR BA;have g:=hB.grow EY;have y:Hid (∀a,Ac [] W a->Calls prog 177 #[Gi (V ⟨C,0,Y⟩),.agg (D6 (Aj (Bq e)))] a λr w'=>r=.returned (.bool (DU f s e))/\Ac [] a w'):=λa i=>Un (hS _ (g.kept.trans (i.mono (by simp)))) he
 have hc:=Bt (Bq e);have CC:(Aj (Bq e)).length=26:=by unfold Aj;rw[lR];exact Is he
 have M:=Ab CC;have u:Hid (Av al f s [] e=if DU f s e then[] else[e]):=by show _=_;rw[Av]
 have I:=Ab hR;have HJ:=Ab hJ;have FB:=Ab BA;obtain⟨p,BT⟩:=QP (Av al f s [] e);rw[BT]at u I⊢;have T:Hid (∀a,p=[e]->S [] d a->YieldAt Fence.wide 0 prog l #[.agg (D6 (Aj (Bq e)))] a λr W'=>(r=.returned (.bool true)/\∃b,S [e] b W')\/(r=.returned (.bool false)/\∃b,Jx [e] b W')):=by
  intro a Ha hj;have h:=Aa I [] e [] d a (by rw[Ha];rfl) hj;refine YieldAt.mono h ?_;rintro r W' (⟨rfl,b,h1,_⟩|⟨rfl,b,h1,_⟩)
  .exact Or.inl ⟨rfl,b,h1⟩
  .exact Or.inr ⟨rfl,b,h1⟩
 obtain⟨E,hE⟩:=QP (Aj (Bq e));have Q:=g.bound;rw[hE]at hc CC M y T Q;have P:=g.s.cell 0;have R:=g.fr.cell 0;have c4:=g.zj.cell 0;simp at P R c4;have AH:Hid (∀a,Ac [] W a->AI a k E 243/\a.cell? ⟨B,0,Y⟩=V (Gi (V ⟨C,0,Y⟩))/\a.cell? ⟨A,0,Y⟩=V (X J n)/\a.cell? ⟨H,0,Y⟩=V (X J n)):=λa i=>⟨Q.kept i,i.cellAt P,i.cellAt R,i.cellAt c4⟩
 obtain⟨F,hF⟩:=QP (DU f s e);rw[hF]at u y;clear hB g Q hR hJ BA HC BT hE hF P R c4 EY I;have m:=Ab ((SF [] W).alloc (Dj #[.func (.yield l) #[] #[]] 279));have G:=Ab (Tc W [.func (.yield l) #[] #[]] 279);show Calls prog 176 #[.func (.yield l) #[] #[],Gi (V ⟨B,0,Y⟩),Gi (V ⟨k,0,Y⟩),Gi (V ⟨A,0,Y⟩),Gi (V ⟨H,0,Y⟩)] W _;go_enter func176,ntmps176;refine Q0 (λD j=>?_);go_wp2;refine j _ _ ?_;clear j D;change Code.wp _ _ _ _ (W.alloc (Dj [.func (.yield l) #[] #[]].toArray 279));generalize hw1:W.alloc (Dj [.func (.yield l) #[] #[]].toArray 279)=w1 at m G⊢;clear hw1;generalize W.heap.size=N at G⊢;obtain⟨q2,q1,q3,q4⟩:=AH w1 m;have DT:=Ab (y w1 m);have B2:=Ab q2;clear q2;refine Q0 (λD j=>?_);go_wp2_with ((with_reducible show wpList _ _ _ ({dst:=_,op:=Op.load 243 _,type:=_,pos:=_,after:=_,guard:=_}::_) _ _);refine BW (by rfl) 243 _ rfl k 0 (by rfl) E _ B2.range underlying243 rfl (by rw[Aa M];exact Tryz.bi) ?_)
 refine DT.mono ?_;rintro _ w2 ⟨rfl,L⟩;have B9:=Ab (m.trans L);have FT:=Ab (G.kept L);have BB:Hid (S [] d w2):=BK HJ (s:=([],d)) FB B9;obtain⟨r2,r1,r3,r4⟩:=AH w2 B9;have FC:=Ab r2;have r5:=FT.cell 0;simp at r5;clear L q1 q3 q4 B2 DT y m G r2 AH;cases F with
 |true=>
  have z:Hid (p=[]):=by show _=_;rw[Aa u,lS rfl]
  go_wp2;refine mj (pj rfl _ _ _) rfl ?_;exact⟨⟨_,rfl⟩,Or.inl ⟨d,by rw[Aa z];exact BB⟩⟩
 |false=>
  have z:Hid (p=[e]):=by show _=_;rw[Aa u,lO (by simp)]
  have FO:=Ab (T w2 z BB);have HK:((n:Int)==(n:Int))=true:=by simp
  clear u T;go_wp2;refine j _ _ ?_;clear j D;refine Q0 (λD j=>?_);refine Q0 (λK4 t=>?_);go_wp2;refine t _ _ ?_;clear t K4;refine wp_cond_true rfl ?_;refine Q0 (λK4 t=>?_);refine I5 (n:=0) 2 (by rintro ⟨_,_,h⟩;obtain⟨⟨v,e⟩,_⟩:=h;cases e) (λK2 EK=>?_);simp only[oy,oT];go_wp2_with ((with_reducible show wpList _ _ _ ({dst:=_,op:=Op.load 243 _,type:=_,pos:=_,after:=_,guard:=_}::_) _ _);refine BW (by rfl) 243 _ rfl k 0 (by rfl) E _ FC.range underlying243 rfl (by rw[Aa M];exact Tryz.bi) ?_)
  refine EK _ _ ?_;clear EK K2;simp only[oM,pd];refine J8 (λ_=>trivial) rfl rfl (l:=l) (args:=#[.agg (D6 E)]) (by rfl) (by first|(simp[go_sem,Oper.semAt];done)|(simp[go_sem,Oper.semAt,execOp,resolve,invoke];done)) FO ?_;rintro r w4 (⟨rfl,b,q⟩|⟨rfl,b,q⟩)
  .refine⟨_,rfl,Ep (by rintro ⟨_,_,h⟩;obtain⟨⟨v,e⟩,_⟩:=h;cases e) ?_⟩;simp only[Act.put,lz,lC,lD];have A0:=Ab q;clear q;go_wp2;refine t _ _ ?_;go_wp2;refine mj (pj rfl _ _ _) rfl ?_;exact⟨⟨_,rfl⟩,Or.inl ⟨b,by rw[Aa z];exact A0⟩⟩
  .refine⟨_,rfl,Ep (by rintro ⟨_,_,h⟩;obtain⟨⟨v,e⟩,_⟩:=h;cases e) ?_⟩;simp only[Act.put,lz,lC,lD];have A0:=Ab q;clear q;go_wp2;refine t _ _ ?_;go_wp2;refine mj (pj rfl _ _ _) rfl ?_;exact⟨⟨_,rfl⟩,Or.inr ⟨_,b,A0⟩⟩
