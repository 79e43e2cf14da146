import Derived.RangeFuncBound
import Derived.Test.YtoihbhenbmffcaaGreatDoorZBJ
import Derived.Test.YtoihbhenbmffcaaGreatDoorZAF
set_option linter.unusedVariables false
set_option linter.unusedSimpArgs false
set_option maxHeartbeats 6400000
namespace Go.Proofs.YtoihbhenbmffcaaGreatDoor
open Go.RowKit
open Go.Proofs.Tryz
structure KI(w0:World)(sp b1 b2 b3 b4 from_ to_:Nat)(e:List cL)(M:List Nat)(w:World):Prop where
 kept:Ac [] w0 w
 s:Aw w b1 [.pointer (some ⟨sp,0,none⟩)] 233
 bound:Aw w b2 (Ah (Bw e)) 243
 fr:Aw w b3 [.int .i64 from_] 3
 to_:Aw w b4 [.int .i64 to_] 3
 apart:∀k∈M,w0.heap.size<=k/\k≠b1/\k≠b2/\k≠b3/\k≠b4/\k<w.heap.size
theorem KI.grow{w0 w w':World}{c b d g f j a:Nat}{e:List cL}{M:List Nat}(h:KI w0 c b d g f j a e M w)(k:Ac [] w w'):KI w0 c b d g f j a e M w':=
 ⟨h.kept.trans k,h.s.kept k (by simp),h.bound.kept k (by simp),h.fr.kept k (by simp),h.to_.kept k (by simp),λi r=>by
  obtain⟨o,m,q,n,p,l⟩:=h.apart i r
  exact⟨o,m,q,n,p,cB l k.size⟩⟩
set_option maxRecDepth 100000
theorem IV(a d b:Nat)(E:List Value)(w:World)(k:(Value.agg E.toArray).cells=E.toArray)(j:E.length=26):
  Calls prog 141 #[.pointer (some ⟨a,0,none⟩), .int .i64 d, .int .i64 b, .agg E.toArray] w λr c=>∃e f i g,r= .returned (.func (.func 176) #[] #[.pointer (some ⟨e,0,none⟩), .pointer (some ⟨f,0,none⟩), .pointer (some ⟨i,0,none⟩), .pointer (some ⟨g,0,none⟩)])/\
   Aw c e [.pointer (some ⟨a,0,none⟩)] 233/\Aw c f E 243/\Aw c i [.int .i64 d] 3/\Aw c g [.int .i64 b] 3/\(w.heap.size<=e/\w.heap.size<=f/\w.heap.size<=i/\w.heap.size<=g)/\Ac [] w c:=by
 go_enter func141,ntmps141;go_wp2;go_ret;refine⟨w.heap.size,w.heap.size+3,w.heap.size+1,w.heap.size+2,rfl,?_,?_,?_,?_,⟨by omega,by omega,by omega,by omega⟩,((((Ac.refl [] w).alloc _).alloc _).alloc _).alloc _⟩
 ·exact(((Aw.new w [.pointer (some ⟨a,0,none⟩)] 233).alloc _).alloc _).alloc _
 ·have h:=Aw.new (((w.alloc (.cells #[.pointer (some ⟨a,0,none⟩)] 233)).alloc (.cells #[.int .i64 d] 3)).alloc (.cells #[.int .i64 b] 3)) E 243
  rw[aP,aP,aP]at h;exact h
 ·have h:=((Aw.new (w.alloc (.cells #[.pointer (some ⟨a,0,none⟩)] 233)) [.int .i64 d] 3).alloc (.cells #[.int .i64 b] 3)).alloc (.cells E.toArray 243)
  rw[aP]at h;exact h
 ·have h:=(Aw.new ((w.alloc (.cells #[.pointer (some ⟨a,0,none⟩)] 233)).alloc (.cells #[.int .i64 d] 3)) [.int .i64 b] 3).alloc (.cells E.toArray 243)
  rw[aP,aP]at h;exact h
theorem Q4(z:Nat)(d:List By)(s:List Aj)(vs:List UInt8)(w0:World)(hS:Zh w0 z d s vs)(al:UInt8->List cL->List cL)(n:Nat)(e:List cL)(y k C H:Nat)(w:World)(f:List Nat)(he:C3 e)
  (hB:KI w0 z y k C H n n e f w):
  Mi prog 176 #[.pointer (some ⟨y,0,none⟩), .pointer (some ⟨k,0,none⟩), .pointer (some ⟨C,0,none⟩), .pointer (some ⟨H,0,none⟩)] (λx=>#[.agg (Ah (Bw x)).toArray]) (AK al d s [] e) f w:=by
 intro l J Jx W FA _ _ hJ HC hR BT;have i:=hB.grow FA;have A:Hid (∀a,Ac [] W a->Calls prog 177 #[.pointer (some ⟨z,0,none⟩), .agg (Ah (Bw e)).toArray] a λr w'=>r= .returned (.bool (DY d s e))/\Ac [] a w'):=λa j=>PV (hS.kept (i.kept.trans j)) he
 have hc:=Bl (Bw e);have CC:(Ah (Bw e)).length=26:=by unfold Ah;rw[aD];exact Gw he
 have M:=Ab CC;have u:Hid (AK al d s [] e=if DY d s e then[] else[e]):=by show _=_;rw[AK]
 have I:=Ab hR;have HJ:=Ab hJ;have Ha:=Ab BT;obtain⟨m,B9⟩:∃m,AK al d s [] e=m:=⟨_,rfl⟩;rw[B9]at u I⊢;have R:Hid (∀a,m=[e]->J [] f a->YieldAt Fence.wide 0 prog l #[.agg (Ah (Bw e)).toArray] a λr L=>(r= .returned (.bool true)/\∃b,J [e] b L)\/(r= .returned (.bool false)/\∃b,Jx [e] b L)):=by
  intro a FP hj;have h:=Aa I [] e [] f a (by rw[FP];rfl) hj;refine YieldAt.mono h ?_;rintro r L (⟨rfl,b,O,_⟩|⟨rfl,b,O,_⟩)
  ·exact Or.inl ⟨rfl,b,O⟩
  ·exact Or.inr ⟨rfl,b,O⟩
 obtain⟨E,hE⟩:∃E,Ah (Bw e)=E:=⟨_,rfl⟩;have Q:=i.bound;rw[hE]at hc CC M A R Q;have P:=i.s.cell 0;have S:=i.fr.cell 0;have X:=i.to_.cell 0;simp at P S X;have K:Hid (∀a,Ac [] W a->Aw a k E 243/\a.cell? ⟨y,0,none⟩=some (.pointer (some ⟨z,0,none⟩))/\a.cell? ⟨C,0,none⟩=some (.int .i64 n)/\a.cell? ⟨H,0,none⟩=some (.int .i64 n)):=λa j=>⟨Q.kept j (by simp),j.cellAt P,j.cellAt S,j.cellAt X⟩
 obtain⟨F,hF⟩:∃F,DY d s e=F:=⟨_,rfl⟩;rw[hF]at u A;clear hB i Q hR hJ BT HC B9 hE hF P S X FA I;have q:=Ab ((Ac.refl [] W).alloc (.cells #[.func (.yield l) #[] #[]] 279));have G:=Ab (Aw.new W [.func (.yield l) #[] #[]] 279);show Calls prog 176 #[.func (.yield l) #[] #[], .pointer (some ⟨y,0,none⟩), .pointer (some ⟨k,0,none⟩), .pointer (some ⟨C,0,none⟩), .pointer (some ⟨H,0,none⟩)] W _;go_enter func176,ntmps176;refine wp_seq_k (λD c=>?_);have g:=Ab c;clear c;go_wp2;refine Aa g _ _ ?_;clear g D;change Code.wp _ _ _ _ (W.alloc (.cells [.func (.yield l) #[] #[]].toArray 279));generalize hw1:W.alloc (.cells [.func (.yield l) #[] #[]].toArray 279)=w1 at q G⊢;clear hw1;generalize W.heap.size=N at G⊢;obtain⟨q2,q1,q3,q4⟩:=Aa K w1 (Aa q);have Y:=Ab (Aa A w1 (Aa q));have Ax:=Ab q2;clear q2;refine wp_seq_k (λD c=>?_);have g:=Ab c;clear c;go_wp2_with ((with_reducible show wpList _ _ _ ({dst:=_,op:=Op.load 243 _,type:=_,pos:=_,after:=_,guard:=_}::_) _ _);refine Br (by rfl) 243 _ rfl k 0 (by rfl) E _ (Aa Ax).range underlying243 rfl (by rw[Aa M];exact Tryz.size243) ?_)
 refine(Aa Y).mono ?_;rintro _ V ⟨rfl,U⟩;have AT:=Ab ((Aa q).trans U);have HG:=Ab ((Aa G).kept U (by simp));have AB:Hid (J [] f V):=BH (Aa HJ) (s:=([],f)) (Aa Ha) (Aa AT);obtain⟨r2,r1,r3,r4⟩:=Aa K V (Aa AT);have HD:=Ab r2;have r5:=(Aa HG).cell 0;simp at r5;clear U q1 q3 q4 Ax Y A q G r2 K;cases F with
 |true=>
  have B:Hid (m=[]):=by show _=_;rw[Aa u,if_pos rfl]
  go_wp2;refine aE (ep rfl _ _ _) rfl ?_;exact⟨⟨_,rfl⟩,Or.inl ⟨f,by rw[Aa B];exact Aa AB⟩⟩
 |false=>
  have B:Hid (m=[e]):=by show _=_;rw[Aa u,if_neg (by simp)]
  have HF:=Ab (Aa R V (Aa B) (Aa AB));have HP:((n:Int)==(n:Int))=true:=by simp
  clear u R;go_wp2;refine Aa g _ _ ?_;clear g D;refine wp_seq_k (λD c=>?_);have g:=Ab c;clear c;refine wp_seq_k (λK4 t=>?_);have p:=Ab t;clear t;go_wp2;refine Aa p _ _ ?_;clear p K4;refine wp_cond_true rfl ?_;refine wp_seq_k (λK4 t=>?_);have p:=Ab t;clear t;refine JC (n:=0) 2 (by rintro ⟨_,_,h⟩;obtain⟨⟨v,e⟩,_⟩:=h;cases e) (λK2 Z=>?_);simp only[dd,dY];go_wp2_with ((with_reducible show wpList _ _ _ ({dst:=_,op:=Op.load 243 _,type:=_,pos:=_,after:=_,guard:=_}::_) _ _);refine Br (by rfl) 243 _ rfl k 0 (by rfl) E _ (Aa HD).range underlying243 rfl (by rw[Aa M];exact Tryz.size243) ?_)
  refine Aa Z _ _ ?_;clear Z K2;simp only[dq,dZ];refine J1 (λ_=>trivial) rfl rfl (l:=l) (args:=#[.agg E.toArray]) (by rfl) (by first|(simp[go_sem,Oper.semAt];done)|(simp[go_sem,Oper.semAt,execOp,resolve,invoke];done)) (Aa HF) ?_;rintro r w4 (⟨rfl,b,o⟩|⟨rfl,b,o⟩)
  ·refine⟨_,rfl,E5 (by rintro ⟨_,_,h⟩;obtain⟨⟨v,e⟩,_⟩:=h;cases e) ?_⟩;simp only[Act.put,Z3,Z4,Z5];have T:=Ab o;clear o;go_wp2;refine Aa p _ _ ?_;go_wp2;refine aE (ep rfl _ _ _) rfl ?_;exact⟨⟨_,rfl⟩,Or.inl ⟨b,by rw[Aa B];exact Aa T⟩⟩
  ·refine⟨_,rfl,E5 (by rintro ⟨_,_,h⟩;obtain⟨⟨v,e⟩,_⟩:=h;cases e) ?_⟩;simp only[Act.put,Z3,Z4,Z5];have T:=Ab o;clear o;go_wp2;refine Aa p _ _ ?_;go_wp2;refine aE (ep rfl _ _ _) rfl ?_;exact⟨⟨_,rfl⟩,Or.inr ⟨_,b,Aa T⟩⟩
