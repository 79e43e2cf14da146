import Derived.RangeFuncBound
import Derived.Test.YtoihbhenbmffcaaGreatDoorYBH
set_option linter.all false
set_option maxHeartbeats 0
namespace Go.Proofs.YtoihbhenbmffcaaGreatDoor
open Go.RowKit Go.Proofs.Tryz
structure XR(w0:World)(sp b1 b2 b3 b4 from_ gR:Nat)(e:List cR)(M:List Nat)(w:World):Prop where
 kept:Ac [] w0 w
 s:AE w b1 [.pointer (some ⟨sp,0,none⟩)] 233
 bound:AE w b2 (Ai (Bf e)) 243
 fr:AE w b3 [.int .i64 from_] 3
 gR:AE w b4 [.int .i64 gR] 3
 apart:∀k∈M,w0.heap.size<=k/\k≠b1/\k≠b2/\k≠b3/\k≠b4/\k<w.heap.size
structure Ry(w0:World)(M1:List Nat)(sp b1 b2 b3 b4 from_ gR:Nat)(e:List cR)(M:List Nat)(w:World):Prop where
 kept:Ac M1 w0 w
 s:AE w b1 [.pointer (some ⟨sp,0,none⟩)] 233
 bound:AE w b2 (Ai (Bf e)) 243
 fr:AE w b3 [.int .i64 from_] 3
 gR:AE w b4 [.int .i64 gR] 3
 apart:∀k∈M,(k∈M1\/w0.heap.size<=k)/\k≠b1/\k≠b2/\k≠b3/\k≠b4/\k<w.heap.size
theorem XR.more{w0 w:World}{d c f i g j a:Nat}{e:List cR}{M:List Nat}(h:XR w0 d c f i g j a e M w):Ry w0 [] d c f i g j a e M w:=
 ⟨h.kept,h.s,h.bound,h.fr,h.gR,λk b=>⟨Or.inr (h.apart k b).1,(h.apart k b).2⟩⟩
theorem Ry.grow{w0 w w':World}{c b d g f j a:Nat}{e:List cR}{M l:List Nat}(h:Ry w0 l c b d g f j a e M w)(k:Ac [] w w'):Ry w0 l c b d g f j a e M w':=
 ⟨h.kept.trans (k.mono (by simp)),h.s.kept k (by simp),h.bound.kept k (by simp),h.fr.kept k (by simp),h.gR.kept k (by simp),λi t=>by
  obtain⟨p,n,r,o,q,m⟩:=h.apart i t
  exact⟨p,n,r,o,q,dJ m k.size⟩⟩
set_option maxRecDepth 100000
theorem G1(a d b:Nat)(E:List Value)(w:World)(k:(Value.agg E.toArray).cells=E.toArray)(j:E.length=26):
  Calls prog 141 #[.pointer (some ⟨a,0,none⟩),.int .i64 d,.int .i64 b,.agg E.toArray] w λr c=>∃e f i g,r=.returned (.func (.func 176) #[] #[.pointer (some ⟨e,0,none⟩),.pointer (some ⟨f,0,none⟩),.pointer (some ⟨i,0,none⟩),.pointer (some ⟨g,0,none⟩)])/\
   AE c e [.pointer (some ⟨a,0,none⟩)] 233/\AE c f E 243/\AE c i [.int .i64 d] 3/\AE c g [.int .i64 b] 3/\(w.heap.size<=e/\w.heap.size<=f/\w.heap.size<=i/\w.heap.size<=g)/\Ac [] w c:=by
 go_enter func141,ntmps141;go_wp2;go_ret;refine⟨w.heap.size,w.heap.size+3,w.heap.size+1,w.heap.size+2,rfl,?_,?_,?_,?_,⟨by omega,by omega,by omega,by omega⟩,((((Ac.refl [] w).alloc _).alloc _).alloc _).alloc _⟩
 .exact(((AE.new w [.pointer (some ⟨a,0,none⟩)] 233).alloc _).alloc _).alloc _
 .have h:=AE.new (((w.alloc (.cells #[.pointer (some ⟨a,0,none⟩)] 233)).alloc (.cells #[.int .i64 d] 3)).alloc (.cells #[.int .i64 b] 3)) E 243
  rw[cD,cD,cD]at h;exact h
 .have h:=((AE.new (w.alloc (.cells #[.pointer (some ⟨a,0,none⟩)] 233)) [.int .i64 d] 3).alloc (.cells #[.int .i64 b] 3)).alloc (.cells E.toArray 243)
  rw[cD]at h;exact h
 .have h:=(AE.new ((w.alloc (.cells #[.pointer (some ⟨a,0,none⟩)] 233)).alloc (.cells #[.int .i64 d] 3)) [.int .i64 b] 3).alloc (.cells E.toArray 243)
  rw[cD,cD]at h;exact h
theorem R3(B:Nat)(f:List Bg)(s:List Ah)(vs:List UInt8)(w0:World)(Y:List Nat)(hS:∀a,Ac Y w0 a->Yl a B f s vs)(al:UInt8->List cR->List cR)(n:Nat)(e:List cR)(A k z G:Nat)(w:World)(d:List Nat)(he:CP e)
  (hB:Ry w0 Y B A k z G n n e d w):
  Kr prog 176 #[.pointer (some ⟨A,0,none⟩),.pointer (some ⟨k,0,none⟩),.pointer (some ⟨z,0,none⟩),.pointer (some ⟨G,0,none⟩)] (λx=>#[.agg (Ai (Bf x)).toArray]) (As al f s [] e) d w:=by
 intro l J Jx W FA _ _ hJ HH hR AB;have g:=hB.grow FA;have y:Hid (∀a,Ac [] W a->Calls prog 177 #[.pointer (some ⟨B,0,none⟩),.agg (Ai (Bf e)).toArray] a λr w'=>r=.returned (.bool (DT f s e))/\Ac [] a w'):=λa i=>QT (hS _ (g.kept.trans (i.mono (by simp)))) he
 have hc:=Bo (Bf e);have B9:(Ai (Bf e)).length=26:=by unfold Ai;rw[bX];exact GM he
 have L:=Ab B9;have u:Hid (As al f s [] e=if DT f s e then[] else[e]):=by show _=_;rw[As]
 have I:=Ab hR;have HJ:=Ab hJ;have FL:=Ab AB;obtain⟨p,AT⟩:∃p,As al f s [] e=p:=⟨_,rfl⟩;rw[AT]at u I⊢;have Q:Hid (∀a,p=[e]->J [] d a->YieldAt Fence.wide 0 prog l #[.agg (Ai (Bf e)).toArray] a λr S=>(r=.returned (.bool true)/\∃b,J [e] b S)\/(r=.returned (.bool false)/\∃b,Jx [e] b S)):=by
  intro a HE hj;have h:=Aa I [] e [] d a (by rw[HE];rfl) hj;refine YieldAt.mono h ?_;rintro r S (⟨rfl,b,U,_⟩|⟨rfl,b,U,_⟩)
  .exact Or.inl ⟨rfl,b,U⟩
  .exact Or.inr ⟨rfl,b,U⟩
 obtain⟨E,hE⟩:∃E,Ai (Bf e)=E:=⟨_,rfl⟩;have O:=g.bound;rw[hE]at hc B9 L y Q O;have M:=g.s.cell 0;have P:=g.fr.cell 0;have R:=g.gR.cell 0;simp at M P R;have T:Hid (∀a,Ac [] W a->AE a k E 243/\a.cell? ⟨A,0,none⟩=some (.pointer (some ⟨B,0,none⟩))/\a.cell? ⟨z,0,none⟩=some (.int .i64 n)/\a.cell? ⟨G,0,none⟩=some (.int .i64 n)):=λa i=>⟨O.kept i (by simp),i.cellAt M,i.cellAt P,i.cellAt R⟩
 obtain⟨F,hF⟩:∃F,DT f s e=F:=⟨_,rfl⟩;rw[hF]at u y;clear hB g O hR hJ AB HH AT hE hF M P R FA I;have m:=Ab ((Ac.refl [] W).alloc (.cells #[.func (.yield l) #[] #[]] 279));have D:=Ab (AE.new W [.func (.yield l) #[] #[]] 279);show Calls prog 176 #[.func (.yield l) #[] #[],.pointer (some ⟨A,0,none⟩),.pointer (some ⟨k,0,none⟩),.pointer (some ⟨z,0,none⟩),.pointer (some ⟨G,0,none⟩)] W _;go_enter func176,ntmps176;refine wp_seq_k (λC c=>?_);have j:=Ab c;clear c;go_wp2;refine Aa j _ _ ?_;clear j C;change Code.wp _ _ _ _ (W.alloc (.cells [.func (.yield l) #[] #[]].toArray 279));generalize hw1:W.alloc (.cells [.func (.yield l) #[] #[]].toArray 279)=w1 at m D⊢;clear hw1;generalize W.heap.size=N at D⊢;obtain⟨q2,q1,q3,q4⟩:=Aa T w1 (Aa m);have EK:=Ab (Aa y w1 (Aa m));have BA:=Ab q2;clear q2;refine wp_seq_k (λC c=>?_);have j:=Ab c;clear c;go_wp2_with ((with_reducible show wpList _ _ _ ({dst:=_,op:=Op.load 243 _,type:=_,pos:=_,after:=_,guard:=_}::_) _ _);refine By (by rfl) 243 _ rfl k 0 (by rfl) E _ (Aa BA).range underlying243 rfl (by rw[Aa L];exact Tryz.ea) ?_)
 refine(Aa EK).mono ?_;rintro _ V ⟨rfl,K⟩;have BT:=Ab ((Aa m).trans K);have HB:=Ab ((Aa D).kept K (by simp));have AH:Hid (J [] d V):=BC (Aa HJ) (s:=([],d)) (Aa FL) (Aa BT);obtain⟨r2,r1,r3,r4⟩:=Aa T V (Aa BT);have FP:=Ab r2;have r5:=(Aa HB).cell 0;simp at r5;clear K q1 q3 q4 BA EK y m D r2 T;cases F with
 |true=>
  have H:Hid (p=[]):=by show _=_;rw[Aa u,if_pos rfl]
  go_wp2;refine cB (fE rfl _ _ _) rfl ?_;exact⟨⟨_,rfl⟩,Or.inl ⟨d,by rw[Aa H];exact Aa AH⟩⟩
 |false=>
  have H:Hid (p=[e]):=by show _=_;rw[Aa u,if_neg (by simp)]
  have Ha:=Ab (Aa Q V (Aa H) (Aa AH));have HP:((n:Int)==(n:Int))=true:=by simp
  clear u Q;go_wp2;refine Aa j _ _ ?_;clear j C;refine wp_seq_k (λC c=>?_);have j:=Ab c;clear c;refine wp_seq_k (λZ o=>?_);have t:=Ab o;clear o;go_wp2;refine Aa t _ _ ?_;clear t Z;refine wp_cond_true rfl ?_;refine wp_seq_k (λZ o=>?_);have t:=Ab o;clear o;refine J9 (n:=0) 2 (by rintro ⟨_,_,h⟩;obtain⟨⟨v,e⟩,_⟩:=h;cases e) (λK2 ES=>?_);simp only[eG,fN];go_wp2_with ((with_reducible show wpList _ _ _ ({dst:=_,op:=Op.load 243 _,type:=_,pos:=_,after:=_,guard:=_}::_) _ _);refine By (by rfl) 243 _ rfl k 0 (by rfl) E _ (Aa FP).range underlying243 rfl (by rw[Aa L];exact Tryz.ea) ?_)
  refine Aa ES _ _ ?_;clear ES K2;simp only[eZ,ft];refine KB (λ_=>trivial) rfl rfl (l:=l) (args:=#[.agg E.toArray]) (by rfl) (by first|(simp[go_sem,Oper.semAt];done)|(simp[go_sem,Oper.semAt,execOp,resolve,invoke];done)) (Aa Ha) ?_;rintro r w4 (⟨rfl,b,q⟩|⟨rfl,b,q⟩)
  .refine⟨_,rfl,Fr (by rintro ⟨_,_,h⟩;obtain⟨⟨v,e⟩,_⟩:=h;cases e) ?_⟩;simp only[Act.put,bH,bI,bJ];have X:=Ab q;clear q;go_wp2;refine Aa t _ _ ?_;go_wp2;refine cB (fE rfl _ _ _) rfl ?_;exact⟨⟨_,rfl⟩,Or.inl ⟨b,by rw[Aa H];exact Aa X⟩⟩
  .refine⟨_,rfl,Fr (by rintro ⟨_,_,h⟩;obtain⟨⟨v,e⟩,_⟩:=h;cases e) ?_⟩;simp only[Act.put,bH,bI,bJ];have X:=Ab q;clear q;go_wp2;refine Aa t _ _ ?_;go_wp2;refine cB (fE rfl _ _ _) rfl ?_;exact⟨⟨_,rfl⟩,Or.inr ⟨_,b,Aa X⟩⟩
