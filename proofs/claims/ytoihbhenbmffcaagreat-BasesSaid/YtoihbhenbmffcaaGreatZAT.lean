import Derived.RangeFuncBound
import Derived.Test.YtoihbhenbmffcaaGreatZAS
set_option linter.all false
set_option maxHeartbeats 0
open Option renaming none->Y,some->V
open Go.Value renaming int->X,pointer->j2
open Go.IntKind renaming i64->J
open Go.Obj renaming cells->jj
open List renaming toArray->j1
namespace Go.Proofs.YtoihbhenbmffcaaGreat
open Go.RowKit Go.Proofs.Tryz
variable{v w u:World}{e:kJ zA}{M:kJ Nat}
structure Zj(w0:World)(sp b1 b2 b3 b4 from_ zy:Nat)(e:kJ zA)(M:kJ Nat)(w:World):Prop where
 kept:Ac [] w0 w
 s:AF w b1 [j2 (V ⟨sp,0,Y⟩)] 237
 bound:AF w b2 (Ai (Bt e)) 244
 fr:AF w b3 [X J from_] 3
 zy:AF w b4 [X J zy] 3
 apart:∀k∈M,w0.heap.size<=k/\k≠b1/\k≠b2/\k≠b3/\k≠b4/\k<w.heap.size
structure UD(w0:World)(M1:kJ Nat)(sp b1 b2 b3 b4 from_ zy:Nat)(e:kJ zA)(M:kJ Nat)(w:World):Prop where
 kept:Ac M1 w0 w
 s:AF w b1 [j2 (V ⟨sp,0,Y⟩)] 237
 bound:AF w b2 (Ai (Bt e)) 244
 fr:AF w b3 [X J from_] 3
 zy:AF w b4 [X J zy] 3
 apart:∀k∈M,(k∈M1\/w0.heap.size<=k)/\k≠b1/\k≠b2/\k≠b3/\k≠b4/\k<w.heap.size
def Zj.more{d c f i g j a:Nat}(h:Zj v d c f i g j a e M w):UD v [] d c f i g j a e M w:=
 ⟨h.kept,h.s,h.bound,h.fr,h.zy,λk b=>⟨Or.inr (h.apart k b).1,(h.apart k b).2⟩⟩
def UD.grow{c b d g f j a:Nat}{M l:kJ Nat}(h:UD v l c b d g f j a e M w)(k:Ac [] w u):UD v l c b d g f j a e M u:=
 ⟨h.kept.trans (k.mono (by simp)),h.s.kept k,h.bound.kept k,h.fr.kept k,h.zy.kept k,λi t=>by
  obtain⟨p,n,r,o,q,m⟩:=h.apart i t
  exact⟨p,n,r,o,q,iM m k.size⟩⟩
set_option maxRecDepth 100000
theorem JQ(a d b:Nat)(E:kJ Value)(w:World)(k:(Value.agg (j1 E)).cells=j1 E)(j:E.length=26):
  Calls prog 146 #[j2 (V ⟨a,0,Y⟩),X J d,X J b,.agg (j1 E)] w λr c=>∃e f i g,r=.returned (.func (.func 160) #[] #[j2 (V ⟨e,0,Y⟩),j2 (V ⟨f,0,Y⟩),j2 (V ⟨i,0,Y⟩),j2 (V ⟨g,0,Y⟩)])/\
   AF c e [j2 (V ⟨a,0,Y⟩)] 237/\AF c f E 244/\AF c i [X J d] 3/\AF c g [X J b] 3/\(w.heap.size<=e/\w.heap.size<=f/\w.heap.size<=i/\w.heap.size<=g)/\Ac [] w c:=by
 go_enter func146,ntmps146;go_wp2;go_ret;refine⟨w.heap.size,w.heap.size+3,w.heap.size+1,w.heap.size+2,rfl,?_,?_,?_,?_,⟨by omega,by omega,by omega,by omega⟩,((((kL [] w).alloc _).alloc _).alloc _).alloc _⟩
 .exact(((kN w [j2 (V ⟨a,0,Y⟩)] 237).alloc _).alloc _).alloc _
 .have h:=kN (((w.alloc (jj #[j2 (V ⟨a,0,Y⟩)] 237)).alloc (jj #[X J d] 3)).alloc (jj #[X J b] 3)) E 244
  rw[fY,fY,fY]at h;exact h
 .have h:=((kN (w.alloc (jj #[j2 (V ⟨a,0,Y⟩)] 237)) [X J d] 3).alloc (jj #[X J b] 3)).alloc (jj (j1 E) 244)
  rw[fY]at h;exact h
 .have h:=(kN ((w.alloc (jj #[j2 (V ⟨a,0,Y⟩)] 237)).alloc (jj #[X J d] 3)) [X J b] 3).alloc (jj (j1 E) 244)
  rw[fY,fY]at h;exact h
theorem To(C:Nat)(f:kJ BH)(s:kJ Ag)(vs:kJ UInt8)(w0:World)(M1:kJ Nat)(hS:∀a,Ac M1 w0 a->di a C f s vs)(al:UInt8->kJ zA->kJ zA)(n:Nat)(e:kJ zA)(B k A H:Nat)(w:World)(d:kJ Nat)(he:De e)
  (hB:UD w0 M1 C B k A H n n e d w):
  Le prog 160 #[j2 (V ⟨B,0,Y⟩),j2 (V ⟨k,0,Y⟩),j2 (V ⟨A,0,Y⟩),j2 (V ⟨H,0,Y⟩)] (λx=>#[.agg (j1 (Ai (Bt x)))]) (AE al f s [] e) d w:=by
 intro l S Jx W FW _ _ hJ HO hR CL;have g:=hB.grow FW;have y:Hid (∀a,Ac [] W a->Calls prog 161 #[j2 (V ⟨C,0,Y⟩),.agg (j1 (Ai (Bt e)))] a λr w'=>r=.returned (.bool (Ef f s e))/\Ac [] a w'):=λa i=>Sf (hS _ (g.kept.trans (i.mono (by simp)))) he
 have hc:=Bh (Bt e);have FA:(Ai (Bt e)).length=26:=by unfold Ai;rw[fH];exact G9 he
 have M:=Ab FA;have u:Hid (AE al f s [] e=if Ef f s e then[] else[e]):=by show _=_;rw[AE]
 have I:=Ab hR;have HJ:=Ab hJ;have HA:=Ab CL;obtain⟨p,EM⟩:=kK (AE al f s [] e);rw[EM]at u I⊢;have T:Hid (∀a,p=[e]->S [] d a->YieldAt Fence.wide 0 prog l #[.agg (j1 (Ai (Bt e)))] a λr W'=>(r=.returned (.bool true)/\∃b,S [e] b W')\/(r=.returned (.bool false)/\∃b,Jx [e] b W')):=by
  intro a HL hj;have h:=Aa I [] e [] d a (by rw[HL];rfl) hj;refine YieldAt.mono h ?_;rintro r W' (⟨rfl,b,h1,_⟩|⟨rfl,b,h1,_⟩)
  .exact Or.inl ⟨rfl,b,h1⟩
  .exact Or.inr ⟨rfl,b,h1⟩
 obtain⟨E,hE⟩:=kK (Ai (Bt e));have Q:=g.bound;rw[hE]at hc FA M y T Q;have P:=g.s.cell 0;have R:=g.fr.cell 0;have c4:=g.zy.cell 0;simp at P R c4;have AH:Hid (∀a,Ac [] W a->AF a k E 244/\a.cell? ⟨B,0,Y⟩=V (j2 (V ⟨C,0,Y⟩))/\a.cell? ⟨A,0,Y⟩=V (X J n)/\a.cell? ⟨H,0,Y⟩=V (X J n)):=λa i=>⟨Q.kept i,i.cellAt P,i.cellAt R,i.cellAt c4⟩
 obtain⟨F,hF⟩:=kK (Ef f s e);rw[hF]at u y;clear hB g Q hR hJ CL HO EM hE hF P R c4 FW I;have m:=Ab ((kL [] W).alloc (jj #[.func (.yield l) #[] #[]] 257));have G:=Ab (kN W [.func (.yield l) #[] #[]] 257);show Calls prog 160 #[.func (.yield l) #[] #[],j2 (V ⟨B,0,Y⟩),j2 (V ⟨k,0,Y⟩),j2 (V ⟨A,0,Y⟩),j2 (V ⟨H,0,Y⟩)] W _;go_enter func160,ntmps160;refine kI (λD j=>?_);go_wp2;refine j _ _ ?_;clear j D;change Code.wp _ _ _ _ (W.alloc (jj [.func (.yield l) #[] #[]].toArray 257));generalize hw1:W.alloc (jj [.func (.yield l) #[] #[]].toArray 257)=w1 at m G⊢;clear hw1;generalize W.heap.size=N at G⊢;obtain⟨q2,q1,q3,q4⟩:=AH w1 m;have FF:=Ab (y w1 m);have EY:=Ab q2;clear q2;refine kI (λD j=>?_);go_wp2_with ((with_reducible show wpList _ _ _ ({dst:=_,op:=Op.load 244 _,type:=_,pos:=_,after:=_,guard:=_}::_) _ _);refine Bv (by rfl) 244 _ rfl k 0 (by rfl) E _ EY.range underlying244 rfl (by rw[Aa M];exact Tryz.size244) ?_)
 refine FF.mono ?_;rintro _ w2 ⟨rfl,L⟩;have E0:=Ab (m.trans L);have HH:=Ab (G.kept L);have CW:Hid (S [] d w2):=Bz HJ (s:=([],d)) HA E0;obtain⟨r2,r1,r3,r4⟩:=AH w2 E0;have HC:=Ab r2;have r5:=HH.cell 0;simp at r5;clear L q1 q3 q4 EY FF y m G r2 AH;cases F with
 |true=>
  have z:Hid (p=[]):=by show _=_;rw[Aa u,fF rfl]
  go_wp2;refine fL (jR rfl _ _ _) rfl ?_;exact⟨⟨_,rfl⟩,Or.inl ⟨d,by rw[Aa z];exact CW⟩⟩
 |false=>
  have z:Hid (p=[e]):=by show _=_;rw[Aa u,fB (by simp)]
  have HF:=Ab (T w2 z CW);have HV:((n:Int)==(n:Int))=true:=by simp
  clear u T;go_wp2;refine j _ _ ?_;clear j D;refine kI (λD j=>?_);refine kI (λK4 t=>?_);go_wp2;refine t _ _ ?_;clear t K4;refine wp_cond_true rfl ?_;refine kI (λK4 t=>?_);refine Hw (n:=0) 2 (by rintro ⟨_,_,h⟩;obtain⟨⟨v,e⟩,_⟩:=h;cases e) (λK2 FL=>?_);simp only[iX,jJ];go_wp2_with ((with_reducible show wpList _ _ _ ({dst:=_,op:=Op.load 244 _,type:=_,pos:=_,after:=_,guard:=_}::_) _ _);refine Bv (by rfl) 244 _ rfl k 0 (by rfl) E _ HC.range underlying244 rfl (by rw[Aa M];exact Tryz.size244) ?_)
  refine FL _ _ ?_;clear FL K2;simp only[ji,jK];refine Jb (λ_=>trivial) rfl rfl (l:=l) (args:=#[.agg (j1 E)]) (by rfl) (by first|(simp[go_sem,Oper.semAt];done)|(simp[go_sem,Oper.semAt,execOp,resolve,invoke];done)) HF ?_;rintro r w4 (⟨rfl,b,q⟩|⟨rfl,b,q⟩)
  .refine⟨_,rfl,DM (by rintro ⟨_,_,h⟩;obtain⟨⟨v,e⟩,_⟩:=h;cases e) ?_⟩;simp only[Act.put,ff,fh,fi];have BA:=Ab q;clear q;go_wp2;refine t _ _ ?_;go_wp2;refine fL (jR rfl _ _ _) rfl ?_;exact⟨⟨_,rfl⟩,Or.inl ⟨b,by rw[Aa z];exact BA⟩⟩
  .refine⟨_,rfl,DM (by rintro ⟨_,_,h⟩;obtain⟨⟨v,e⟩,_⟩:=h;cases e) ?_⟩;simp only[Act.put,ff,fh,fi];have BA:=Ab q;clear q;go_wp2;refine t _ _ ?_;go_wp2;refine fL (jR rfl _ _ _) rfl ?_;exact⟨⟨_,rfl⟩,Or.inr ⟨_,b,BA⟩⟩
