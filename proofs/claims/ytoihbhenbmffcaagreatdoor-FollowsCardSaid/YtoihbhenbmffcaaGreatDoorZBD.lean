import Derived.Deep.OwnRows
import Derived.Test.YtoihbhenbmffcaaGreatDoorZBC
import Derived.Test.YtoihbhenbmffcaaGreatDoorZAX
set_option linter.unusedVariables false
set_option linter.unusedSimpArgs false
set_option maxHeartbeats 6400000
namespace Go.Proofs.YtoihbhenbmffcaaGreatDoor
open Go.RowKit
open Go.Proofs.Tryz
theorem PX(z:Value)(n:Nat):(madeCells #[z] n).toList=List.replicate n z:=by
 apply List.ext_getElem
 ·simp[madeCells]
 ·intro i a b;simp[madeCells];rw[Nat.mod_one];rfl
def Ew(b:List cL)(ts:List A3)(k:Nat):List Value:=((ts.take k).map λt=>Value.string (Bn b t))++List.replicate (ts.length-k) (.string ⟨#[]⟩)
theorem Ry(b:List cL)(ts:List A3):Ew b ts 0=List.replicate ts.length (.string ⟨#[]⟩):=by simp[Ew]
theorem Ta(b:List cL)(ts:List A3)(k:Nat)(h:k<=ts.length):(Ew b ts k).length=ts.length:=by simp[Ew];omega
theorem T1(b:List cL)(ts:List A3)(k:Nat)(h:k<ts.length):(Ew b ts k).set k (.string (Bn b ts[k]))=Ew b ts (k+1):=by
 unfold Ew;rw[ac h,bm,show ts.length-k=(ts.length-(k+1))+1 by omega,List.replicate_succ];rw[eh _ _ (by simp;omega)];simp;rw[da (by omega),Nat.sub_self];rfl
theorem T3(b:List cL)(ts:List A3):Ew b ts ts.length=(ts.map (Bn b)).flatMap Ae:=by
 unfold Ew;rw[dv,Nat.sub_self];simp only[List.replicate_zero,aX]
 induction ts with
 |nil=>rfl
 |cons t ts ih=>simp[Ae,ih]
set_option maxRecDepth 100000
theorem Lq(A ty:Nat)(b:List cL)(f:Int)(nm:cL)(a:Option Addr)(d:Nat)(ts:List A3)(base:Nat)(w:World)(B:b.length=26)(hB:Aw w A (Ah b) ty)(Z:w.ownsRow base 215 2 (.slice a ts.length d) ts.length (ts.flatMap Am))(HP:ts.length<=100000)(hv:∀t∈ts,MA t):
  Calls prog 196 #[.pointer (some ⟨A,0,none⟩), .agg #[.int .i64 f, .string nm, .slice a ts.length d]] w λr z=>∃g,r= .returned (.agg #[.string nm, .slice (some ⟨g,0,none⟩) ts.length ts.length])/\z.ownsRow w.heap.size 170 1 (.slice (some ⟨g,0,none⟩) ts.length ts.length) ts.length ((ts.map (Bn b)).flatMap Ae)/\Ac [] w z:=by
 obtain⟨i0,HI,EK,FO,Go⟩:=bj Tryz.info170;have HT:Hid (∀t∈ts,∀n,Ac [] w n->Calls prog 180 #[.pointer (some ⟨A,0,none⟩), .agg #[.int .i32 t.v, .string t.s]] n λr z=>r= .returned (.string (Bn b t))/\Ac [] n z):=λt ht n G=>Jf A ty b t n B (hB.kept G (by simp)) (hv t ht)
 have HH:=Ab Z;obtain⟨N,x⟩:∃N,w.heap.size=N:=⟨_,rfl⟩;have j:Hid (Aw ((w.alloc (.cells #[.int .i64 f, .string nm, .slice a ts.length d] 187)).alloc (.cells #[.string ⟨#[]⟩, .slice none 0 0] 104)) N [.int .i64 f, .string nm, .slice a ts.length d] 187):=by rw[<-x];exact(Aw.new w [.int .i64 f, .string nm, .slice a ts.length d] 187).alloc _
 have c:Hid (Aw ((w.alloc (.cells #[.int .i64 f, .string nm, .slice a ts.length d] 187)).alloc (.cells #[.string ⟨#[]⟩, .slice none 0 0] 104)) (N+1) [.string ⟨#[]⟩, .slice none 0 0] 104):=by
  have h:=Aw.new (w.alloc (.cells #[.int .i64 f, .string nm, .slice a ts.length d] 187)) [.string ⟨#[]⟩, .slice none 0 0] 104;simp only[aP,x]at h;exact h
 have L:=Ab (((Ac.refl [] w).alloc (.cells #[.int .i64 f, .string nm, .slice a ts.length d] 187)).alloc (.cells #[.string ⟨#[]⟩, .slice none 0 0] 104));have o:=Ab x;clear Z hv hB;go_enter func196,ntmps196;apply wp_seq_k;intro KK W;have O:=Ab W;clear W;go_wp2;refine Aa O _ _ ?_;clear O KK;rw[x];clear x;have J:((w.alloc (.cells #[.int .i64 f, .string nm, .slice a ts.length d] 187)).alloc (.cells #[.string ⟨#[]⟩, .slice none 0 0] 104)).heap.size=N+1+1:=by simp;exact Aa o
 generalize(w.alloc (.cells #[.int .i64 f, .string nm, .slice a ts.length d] 187)).alloc (.cells #[.string ⟨#[]⟩, .slice none 0 0] 104)=w1 at j c L J⊢;have X:=(Aa j).cell 2;simp at X;go_wp2_with ((with_reducible show wpList _ _ _ ({dst:=_,op:=Op.makeSlice 102 _ _,type:=_,pos:=_,after:=_,guard:=_}::_) _ _);refine wpList_make_row _ rfl _ _ 102 rfl 170 i0 _ underlying102 HI EK FO rfl .i64 .i64 ts.length (by rfl) (by rfl) (by rw[Go];omega) (by omega) ?_)
 have l:Hid ((w1.alloc (.cells (madeCells #[.string ⟨#[]⟩] ts.length) 170)).ownsRow (N+1+1) 170 1 (.slice (some ⟨N+1+1,0,none⟩) ts.length ts.length) ts.length (Ew b ts 0)):=by
  have h:=World.ownsRow_lit (e:=170) (size:=1) (base:=N+1+1) w1 (madeCells #[.string ⟨#[]⟩] ts.length) ts.length (by omega) (by unfold maxLen;omega) (by rw[size_madeCells];omega);rw[PX,J]at h;rw[Ry];exact h
 have M:=Ab ((Aa j).alloc (.cells (madeCells #[.string ⟨#[]⟩] ts.length) 170));have F:=Ab ((Aa c).alloc (.cells (madeCells #[.string ⟨#[]⟩] ts.length) 170));have m:=Ab ((Aa L).alloc (.cells (madeCells #[.string ⟨#[]⟩] ts.length) 170));clear j c L X J;generalize w1.alloc (.cells (madeCells #[.string ⟨#[]⟩] ts.length) 170)=w2 at l M F m⊢
 go_loopg [15] ts.length (λgk i wr=>∃(k:Nat),i= .int .i64 k/\k<=ts.length/\gk=ts.length-k/\Hid (wr.ownsRow (N+1+1) 170 1 (.slice (some ⟨N+1+1,0,none⟩) ts.length ts.length) ts.length (Ew b ts k))/\Hid (Aw wr N [.int .i64 f, .string nm, .slice a ts.length d] 187)/\Hid (Aw wr (N+1) [.string ⟨#[]⟩, .slice none 0 0] 104)/\Hid (Ac [] w wr))
 case atStart=>exact⟨0,rfl,by omega,rfl,l,M,F,m⟩
 case round=>
  clear l M F m;obtain⟨k,rfl,G,S,l,j,c,u⟩:=hrel;have HG:=Ab S;clear S;by_cases y:k<ts.length
  ·obtain⟨g,HO,he,Y,R⟩:=En (Ad (Aa HH) (Aa u) (by simp)) k y;simp only[Z6]at he;obtain⟨rfl,_,rfl⟩:=he;obtain⟨T,E⟩:∃T,ts[k]=T:=⟨_,rfl⟩;have m:=Ab ((Aa u).alloc (.cells #[.int .i32 T.v, .string T.s] 215));have I:=Ab (Aa HT T (by rw[<-E];exact Z7 y) _ (Aa m));(have K:Hid ((Ew b ts k).set k (.string (Bn b T))=Ew b ts (k+1)):=by rw[<-E];exact T1 b ts k y);rw[E]at Y R;obtain⟨V,hV⟩:∃V,Bn b T=V:=⟨_,rfl⟩;rw[hV]at I K;clear E hV;(have HQ:(0:Int)<=(k:Int):=by omega);(have HR:(k:Int)<(ts.length:Int):=by omega);(go_wp2_with fail);refine(Aa I).mono ?_;rintro _ Q ⟨rfl,H⟩;have C:Ac [] wr Q:=((Ac.refl [] wr).alloc _).trans H;have D:=Ad (Aa l) C (by simp);have CC:=Ab ((Aa j).kept C (by simp));have P:=Ab ((Aa c).kept C (by simp));have BA:=Ab ((Aa m).trans H);have y0:=D.cellAt k (by omega);have yf:=D.frozenAt k;(have BT:k<(Ew b ts k).length:=by rw[Ta b ts k G];exact y);rw[aA BT]at y0;generalize(Ew b ts k)[k]=U at y0;have HB:Hid ((Q.setCell ⟨N+1+1,k,none⟩ (.string V)).ownsRow (N+1+1) 170 1 (.slice (some ⟨N+1+1,0,none⟩) ts.length ts.length) ts.length (Ew b ts (k+1))):=by
    rw[<-Aa K];exact Fb D k _
   have HE:=Ab ((Aa CC).set_other ⟨N+1+1,k,none⟩ (show N+1+1≠N by omega) (.string V));have HD:=Ab ((Aa P).set_other ⟨N+1+1,k,none⟩ (show N+1+1≠N+1 by omega) (.string V));have FC:=Ab ((Aa BA).setCell (p:=⟨N+1+1,k,none⟩) (Or.inr (by have:=Aa o;show _<=N+1+1;omega)) (.string V));clear I m u H C D Y R j c l CC P BA K BT;go_wp2
   go_roundg (ts.length-(k+1))
   case measure=>have:=Aa HG;omega
   case rel=>exact⟨k+1,by go_num,by omega,rfl,HB,HE,HD,FC⟩
  ·(have FT:k=ts.length:=by omega);subst FT;have c1:=(Aa j).cell 1;have e0:=(Aa c).cell 0;have e1:=(Aa c).cell 1;have ef:=(Aa c).frozen;simp at c1 e0 e1;have Ha:Hid (Aw ((wr.setCell ⟨N+1,0,none⟩ (.string nm)).setCell ⟨N+1,1,none⟩ (.slice (some ⟨N+1+1,0,none⟩) ts.length ts.length)) (N+1) [.string nm, .slice (some ⟨N+1+1,0,none⟩) ts.length ts.length] 104):=((Aa c).set 0 _).set 1 _;have HA:Hid (((wr.setCell ⟨N+1,0,none⟩ (.string nm)).setCell ⟨N+1,1,none⟩ (.slice (some ⟨N+1+1,0,none⟩) ts.length ts.length)).ownsRow N 170 1 (.slice (some ⟨N+1+1,0,none⟩) ts.length ts.length) ts.length ((ts.map (Bn b)).flatMap Ae)):=by
    have h:=Aa l;rw[T3]at h;(have B:∀q,(Value.slice (some ⟨N+1+1,0,none⟩) ts.length ts.length).ownBlock=some q->q≠N+1:=λq hq=>by have:=(h.lt q hq).1;omega);exact Ai (Ag (Ag h (λh=>B _ h rfl) _) (λh=>B _ h rfl) _) (by have:=Aa o;omega)
   have FF:=Ab (((Aa u).setCell (p:=⟨N+1,0,none⟩) (Or.inr (by have:=Aa o;show _<=N+1;omega)) (.string nm)).setCell (p:=⟨N+1,1,none⟩) (Or.inr (by have:=Aa o;show _<=N+1;omega)) (.slice (some ⟨N+1+1,0,none⟩) ts.length ts.length));clear j c l u;go_wp2;exact aE (AY rfl rfl (Aa Ha) underlying104 rfl (by kernel_rfl)) rfl ⟨N+1+1,rfl,Aa HA,Aa FF⟩
theorem Br{P:Program}{ops:Array Oper}{e:List Oper}{op:Oper}{a:Act}{w:World}{Q:Exit->Act->World->Prop}(g:Region.wanted op (yielded ops a.tmps)=true)(c:TypeId)(x:Operand)(i:op.op= .load c x)
  (b o:Nat) (n:a.eval x= .pointer (some ⟨b,o,none⟩)) (cs:List Value) (d:TypeDesc) (l:w.rangeAt b o cs)
  (k:P.underlying c=some d) (f:d.isRow=true) (m:(P.info? c).map (·.size)=some cs.length)
  (h:wpList P ops Q e (a.put op.dst (.agg cs.toArray)) w):wpList P ops Q (op::e) a w:=
 wpList_step λK j=>by rw[if_pos g];exact wp_load_mid c x i b o n cs d l k f m (j _ _ h)
def El(b:List cL)(x:PL):DB:=⟨x.an,x.ts.map (Bn b)⟩
def IB(fs:List Fm)(b:List cL)(x:PL)(B:Bool):Prop:=
 if x.sort=0 then∃p,Gt fs (El b x) p/\B=ED fs (El b x) p
 else if x.sort=1 then∃p,Gt fs (El b x) p/\B= !ED fs (El b x) p
 else if x.sort=2 then B=((Bn b x.l).toList==(Bn b x.r).toList)
 else if x.sort=3 then B= !((Bn b x.l).toList==(Bn b x.r).toList)
 else B=Op.bytesLess (Bn b x.l).toList (Bn b x.r).toList
structure Mn(w:World)(sp kb ko:Nat)(bv ov:Value)(sad:Option Addr)(scp:Nat)(fs:List Fm):Prop where
 blk:Aw w sp [.pointer (some ⟨kb,ko,none⟩),bv,ov] 237
 set:w.cell? ⟨kb,ko,none⟩=some (.slice sad fs.length scp)
 facts:Mc w (.slice sad fs.length scp) fs
theorem Mn.kept{w w':World}{a e c:Nat}{i f:Value}{g:Option Addr}{b:Nat}{d:List Fm}(h:Mn w a e c i f g b d)(k:Ac [] w w'):Mn w' a e c i f g b d:=⟨h.blk.kept k (by simp),k.cellAt h.set,h.facts.kept k⟩
theorem Tq(U R Q:Nat)(bv ov:Value)(H0:Option Addr)(HQ:Nat)(k:List Fm)(x:PL)(m:Option Addr)(n:Nat)(b:List cL)(w:World)(K:b.length=26)(hS:Mn w U R Q bv ov H0 HQ k)(hx:IM w 0 (x, .slice m x.ts.length n))(K7:k.length<=900000)(K1:x.ts.length<=1000)(HU:∀t∈x.ts,MA t)(HW:MA x.l)(HM:MA x.r)
  (HR:∀i j (hi:i<k.length) (hj:j<k.length),i<=j->B6 k[j].f (El b x)<0->B6 k[i].f (El b x)<0):
  Calls prog 205 #[.pointer (some ⟨U,0,none⟩), .agg (Ap (x, .slice m x.ts.length n)).toArray, .agg (Ah b).toArray] w λr D=>∃B,r= .returned (.bool B)/\IB k b x B/\Ac [] w D:=by
 have HI:=Ab hS;have EY:Hid (∀d a,Ac [] w a->Aw a d (Ah b) 243->Calls prog 196 #[.pointer (some ⟨d,0,none⟩), .agg #[.int .i64 x.ap, .string x.an, .slice m x.ts.length n]] a λr D=>∃g,r= .returned (.agg #[.string x.an, .slice (some ⟨g,0,none⟩) x.ts.length x.ts.length])/\D.ownsRow a.heap.size 170 1 (.slice (some ⟨g,0,none⟩) x.ts.length x.ts.length) x.ts.length ((x.ts.map (Bn b)).flatMap Ae)/\Ac [] a D):=λd a H P=>Lq d 243 b x.ap x.an m n x.ts 0 a K P (Ad hx H (by simp)) (by omega) HU
 have FW:Hid (∀g a,Ac [] w a->a.ownsRow 0 170 1 (.slice (some ⟨g,0,none⟩) x.ts.length x.ts.length) x.ts.length ((x.ts.map (Bn b)).flatMap Ae)->Calls prog 60 #[.pointer (some ⟨R,Q,none⟩), .agg #[.string x.an, .slice (some ⟨g,0,none⟩) x.ts.length x.ts.length]] a λe D=>∃p:Nat,e= .returned (.bool (ED k (El b x) p))/\Gt k (El b x) p/\Ac [] a D):=by
  intro g a H hr;have HL:=hS.kept H;have H4:DW a ⟨El b x, .slice (some ⟨g,0,none⟩) x.ts.length x.ts.length⟩:=by
   show a.ownsRow 0 170 1 _ (x.ts.map (Bn b)).length _;rw[aD];exact hr
  exact Pi R Q H0 HQ k ⟨El b x, .slice (some ⟨g,0,none⟩) x.ts.length x.ts.length⟩ a HL.set HL.facts H4 (by show(x.ts.map (Bn b)).length<=1000;rw[aD];exact K1) (by omega) HR
 have HT:Hid (∀d (t:A3) a,MA t->Aw a d (Ah b) 243->Calls prog 180 #[.pointer (some ⟨d,0,none⟩), .agg #[.int .i32 t.v, .string t.s]] a λr D=>r= .returned (.string (Bn b t))/\Ac [] a D):=λd t a hv P=>Jf d 243 b t a K P hv
 have HY:=Ab HW;have HG:=Ab HM;have J:Hid (∀B,IB k b x B=(if x.sort=0 then∃p,Gt k (El b x) p/\B=ED k (El b x) p
 else if x.sort=1 then∃p,Gt k (El b x) p/\B= !ED k (El b x) p
 else if x.sort=2 then B=((Bn b x.l).toList==(Bn b x.r).toList)
 else if x.sort=3 then B= !((Bn b x.l).toList==(Bn b x.r).toList)
 else B=Op.bytesLess (Bn b x.l).toList (Bn b x.r).toList)):=λB=>rfl
 generalize El b x=FC at FW J;generalize IB k b x=HC at J⊢;have hc:=Bl b;have hl:(Ah b).length=26:=by unfold Ah;simp[K]
 obtain⟨E,hE⟩:∃E,Ah b=E:=⟨_,rfl⟩;rw[hE]at hc hl EY HT⊢;clear hS hx HU HW HM HR hE;obtain⟨L,c,G,F,C,⟨y,o⟩,⟨q,u⟩⟩:=x;simp only[Ap]at*;have FA:Hid (∀d a,Aw a d E 243->Calls prog 180 #[.pointer (some ⟨d,0,none⟩), .agg #[.int .i32 y, .string o]] a λr D=>r= .returned (.string (Bn b ⟨y,o⟩))/\Ac [] a D):=λd a P=>Aa HT d ⟨y,o⟩ a (Aa HY) P
 have Go:Hid (∀d a,Aw a d E 243->Calls prog 180 #[.pointer (some ⟨d,0,none⟩), .agg #[.int .i32 q, .string u]] a λr D=>r= .returned (.string (Bn b ⟨q,u⟩))/\Ac [] a D):=λd a P=>Aa HT d ⟨q,u⟩ a (Aa HG) P
 generalize Bn b ⟨y,o⟩=VL at FA J;generalize Bn b ⟨q,u⟩=VR at Go J;clear HT HY HG;have V:Hid (Aw ((w.alloc (.cells [.int .i64 L, .int .i64 c, .int .i64 G, .string F, .slice m C.length n, .int .i32 y, .string o, .int .i32 q, .string u].toArray 217)).alloc (.cells E.toArray 243)) w.heap.size [.int .i64 L, .int .i64 c, .int .i64 G, .string F, .slice m C.length n, .int .i32 y, .string o, .int .i32 q, .string u] 217):=(Aw.new w [.int .i64 L, .int .i64 c, .int .i64 G, .string F, .slice m C.length n, .int .i32 y, .string o, .int .i32 q, .string u] 217).alloc _;have W:Hid (Aw ((w.alloc (.cells [.int .i64 L, .int .i64 c, .int .i64 G, .string F, .slice m C.length n, .int .i32 y, .string o, .int .i32 q, .string u].toArray 217)).alloc (.cells E.toArray 243)) (w.heap.size+1) E 243):=by
  have h:=Aw.new (w.alloc (.cells [.int .i64 L, .int .i64 c, .int .i64 G, .string F, .slice m C.length n, .int .i32 y, .string o, .int .i32 q, .string u].toArray 217)) E 243;simp only[aP]at h;exact h
 have HK:=Ab (((Ac.refl [] w).alloc (.cells [.int .i64 L, .int .i64 c, .int .i64 G, .string F, .slice m C.length n, .int .i32 y, .string o, .int .i32 q, .string u].toArray 217)).alloc (.cells E.toArray 243));go_enter func205,ntmps205;apply wp_seq_k;intro KK HZ;have HF:=Ab HZ;clear HZ;go_wp2;refine Aa HF _ _ ?_;clear HF KK;change Code.wp _ _ _ _ ((w.alloc (.cells [.int .i64 L, .int .i64 c, .int .i64 G, .string F, .slice m C.length n, .int .i32 y, .string o, .int .i32 q, .string u].toArray 217)).alloc (.cells E.toArray 243));generalize((w.alloc (.cells [.int .i64 L, .int .i64 c, .int .i64 G, .string F, .slice m C.length n, .int .i32 y, .string o, .int .i32 q, .string u].toArray 217)).alloc (.cells E.toArray 243))=w1 at V W HK⊢;generalize w.heap.size=N at V W⊢;have HV:Hid (∀a,Ac [] w1 a->a.cell? ⟨N,5,none⟩=some (.int .i32 y)/\a.cell? ⟨N,6,none⟩=some (.string o)/\a.cell? ⟨N,7,none⟩=some (.int .i32 q)/\a.cell? ⟨N,8,none⟩=some (.string u)):=by
  intro a H;have K:=(Aa V).kept H (by simp);have c5:=K.cell 5;have c6:=K.cell 6;have c7:=K.cell 7;have c8:=K.cell 8;simp at c5 c6 c7 c8;exact⟨c5,c6,c7,c8⟩
 go_wp2_with fail
 go_region_held3 (λa=>Ac [] w1 a/\a.cell? ⟨N,5,none⟩=some (.int .i32 y)/\a.cell? ⟨N,6,none⟩=some (.string o)/\a.cell? ⟨N,7,none⟩=some (.int .i32 q)/\a.cell? ⟨N,8,none⟩=some (.string u)) ((go_split_ands;refine(fun(M:Ac [] w1 _)=>And.intro M (Aa HV _ M)) ?_;repeat (first|assumption|exact Ac.refl [] _|refine Ac.drew ?_|refine Ac.alloc ?_ _))) ((go_at_call 180;first
  |((with_reducible show Calls _ _ #[_,Value.agg #[Value.int .i32 y,Value.string o]] _ _);refine(Aa FA (N+1) _ ((Aa W).kept (by go_split_ands;assumption) (by simp))).mono ?_;rintro _ w3 ⟨rfl,k3⟩;have KS:Ac [] w1 w3:=(by go_split_ands;exact Ac.trans (by assumption) k3);clear k3)
  |((with_reducible show Calls _ _ #[_,Value.agg #[Value.int .i32 q,Value.string u]] _ _);refine(Aa Go (N+1) _ ((Aa W).kept (by go_split_ands;assumption) (by simp))).mono ?_;rintro _ z ⟨rfl,k4⟩;have O:Ac [] w1 z:=(by go_split_ands;exact Ac.trans (by assumption) k4);clear k4)))
 rename_i Jx;clear Jx KS FA Go HV;have d1:=((Aa V).kept O (by simp)).cell 1;simp at d1;by_cases S:c=0
 ·have K5:(c==0)=true:=by simp[S]
  have I:=(Aa V).kept O (by simp);have q2:=I.cell 2;have Y:=I.cell 3;have q4:=I.cell 4;simp at q2 Y q4;have A:Hid (Ac [] w z):=(Aa HK).trans O;have HB:Hid (∀a,Ac [] z a->a.cell? ⟨U,0,none⟩=some (.pointer (some ⟨R,Q,none⟩))/\a.cell? ⟨N,2,none⟩=some (.int .i64 G)/\a.cell? ⟨N,3,none⟩=some (.string F)/\a.cell? ⟨N,4,none⟩=some (.slice m C.length n)):=by
   intro a H;have Z:=((Aa HI).kept ((Aa A).trans H)).blk.cell 0;have T:=I.kept H (by simp);have r2:=T.cell 2;have r3:=T.cell 3;have r4:=T.cell 4;simp at Z r2 r3 r4;exact⟨Z,r2,r3,r4⟩
  have FP:=Ab ((Aa W).kept O (by simp));clear I q2 Y q4;go_wp2_with fail
  go_region_held3 (λa=>Ac [] z a/\a.cell? ⟨U,0,none⟩=some (.pointer (some ⟨R,Q,none⟩))/\a.cell? ⟨N,2,none⟩=some (.int .i64 G)/\a.cell? ⟨N,3,none⟩=some (.string F)/\a.cell? ⟨N,4,none⟩=some (.slice m C.length n)) ((go_split_ands;refine(fun(M:Ac [] z _)=>And.intro M (Aa HB _ M)) ?_;repeat (first|assumption|exact Ac.refl [] _|refine Ac.drew ?_|refine Ac.alloc ?_ _))) ((first
   |(go_at_call 196;refine(Aa EY (N+1) _ ((Aa A).trans (by go_split_ands;assumption)) ((Aa FP).kept (by go_split_ands;assumption) (by simp))).mono ?_;rintro _ w5 ⟨g5,rfl,AB,k5⟩;have Ix:Ac [] z w5:=(by go_split_ands;exact Ac.trans (by assumption) k5);have HA:=Ab (Ai AB (aG _));clear k5 AB)
   |(go_at_call 60;refine(Aa FW g5 _ ((Aa A).trans (by go_split_ands;assumption)) (Aa HA)).mono ?_;rintro _ w6 ⟨p6,rfl,hcut,k6⟩;have FL:Ac [] z w6:=(by go_split_ands;exact Ac.trans (by assumption) k6);have FT:=Ab hcut;clear k6 hcut)))
  go_wp2;go_ret;refine⟨_,rfl,?_,(Aa A).trans FL⟩;rw[Aa J];rw[if_pos S];exact⟨p6,Aa FT,rfl⟩
 ·have K5:(c==0)=false:=by simp[S]
  by_cases X:c=1
  ·(have K3:(c==1)=true:=by simp[X]);have I:=(Aa V).kept O (by simp);have q2:=I.cell 2;have Y:=I.cell 3;have q4:=I.cell 4;simp at q2 Y q4;have A:Hid (Ac [] w z):=(Aa HK).trans O;have HB:Hid (∀a,Ac [] z a->a.cell? ⟨U,0,none⟩=some (.pointer (some ⟨R,Q,none⟩))/\a.cell? ⟨N,2,none⟩=some (.int .i64 G)/\a.cell? ⟨N,3,none⟩=some (.string F)/\a.cell? ⟨N,4,none⟩=some (.slice m C.length n)):=by
    intro a H;have Z:=((Aa HI).kept ((Aa A).trans H)).blk.cell 0;have T:=I.kept H (by simp);have r2:=T.cell 2;have r3:=T.cell 3;have r4:=T.cell 4;simp at Z r2 r3 r4;exact⟨Z,r2,r3,r4⟩
   have FP:=Ab ((Aa W).kept O (by simp));clear I q2 Y q4;go_wp2_with fail
   go_region_held3 (λa=>Ac [] z a/\a.cell? ⟨U,0,none⟩=some (.pointer (some ⟨R,Q,none⟩))/\a.cell? ⟨N,2,none⟩=some (.int .i64 G)/\a.cell? ⟨N,3,none⟩=some (.string F)/\a.cell? ⟨N,4,none⟩=some (.slice m C.length n)) ((go_split_ands;refine(fun(M:Ac [] z _)=>And.intro M (Aa HB _ M)) ?_;repeat (first|assumption|exact Ac.refl [] _|refine Ac.drew ?_|refine Ac.alloc ?_ _))) ((first
    |(go_at_call 196;refine(Aa EY (N+1) _ ((Aa A).trans (by go_split_ands;assumption)) ((Aa FP).kept (by go_split_ands;assumption) (by simp))).mono ?_;rintro _ w5 ⟨g5,rfl,AB,k5⟩;have Ix:Ac [] z w5:=(by go_split_ands;exact Ac.trans (by assumption) k5);have HA:=Ab (Ai AB (aG _));clear k5 AB)
    |(go_at_call 60;refine(Aa FW g5 _ ((Aa A).trans (by go_split_ands;assumption)) (Aa HA)).mono ?_;rintro _ w6 ⟨p6,rfl,hcut,k6⟩;have FL:Ac [] z w6:=(by go_split_ands;exact Ac.trans (by assumption) k6);have FT:=Ab hcut;clear k6 hcut)))
   go_wp2;go_ret;refine⟨_,rfl,?_,(Aa A).trans FL⟩;rw[Aa J];rw[if_neg S,if_pos X];exact⟨p6,Aa FT,rfl⟩
  ·(have K3:(c==1)=false:=by simp[X]);have A:Hid (Ac [] w z):=(Aa HK).trans O;by_cases h2:c=2
   ·(have H8:(c==2)=true:=by simp[h2]);go_wp2;go_ret;refine⟨_,rfl,?_,Aa A⟩;rw[Aa J,if_neg S,if_neg X,if_pos h2]
   ·(have H8:(c==2)=false:=by simp[h2]);by_cases h3:c=3
    ·(have H2:(c==3)=true:=by simp[h3]);go_wp2;go_ret;refine⟨_,rfl,?_,Aa A⟩;rw[Aa J,if_neg S,if_neg X,if_neg h2,if_pos h3]
    ·(have H2:(c==3)=false:=by simp[h3]);go_wp2;go_ret;refine⟨_,rfl,?_,Aa A⟩;rw[Aa J,if_neg S,if_neg X,if_neg h2,if_neg h3]
def EA(fs:List Fm)(b:List cL):List PL->Bool->Prop
 |[],B=>B=false
 |x::l,B=>if FE b (AS x)then∃H,IB fs b x H/\(if H then EA fs b l B else B=true)else EA fs b l B
theorem QO{w:World}{base:Nat}{C:Value}{ls:List MH}(h:Cd w base C ls)(k:Nat)(a:k<ls.length):
  ∃g n x d f,C= .slice (some ⟨g,0,none⟩) ls.length n/\ls[k]=(x, .slice d x.ts.length f)/\IM w base (x, .slice d x.ts.length f)/\
   w.cell? ⟨g,k*9,none⟩=some (.int .i64 x.place)/\w.cell? ⟨g,k*9+1,none⟩=some (.int .i64 x.sort)/\w.cell? ⟨g,k*9+2,none⟩=some (.int .i64 x.ap)/\w.cell? ⟨g,k*9+3,none⟩=some (.string x.an)/\w.cell? ⟨g,k*9+4,none⟩=some (.slice d x.ts.length f)/\
   w.cell? ⟨g,k*9+5,none⟩=some (.int .i32 x.l.v)/\w.cell? ⟨g,k*9+6,none⟩=some (.string x.l.s)/\w.cell? ⟨g,k*9+7,none⟩=some (.int .i32 x.r.v)/\w.cell? ⟨g,k*9+8,none⟩=some (.string x.r.s):=by
 obtain⟨g,n,D,_,b⟩:=AE h.row (λc _=>rfl) k a;have u:=(h.each _ (Z7 a)).1;have t:=b k a 0 (by omega);have m:=b k a 1 (by omega);have i:=b k a 2 (by omega);have j:=b k a 3 (by omega);have A:=b k a 4 (by omega);have y:=b k a 5 (by omega);have q:=b k a 6 (by omega);have o:=b k a 7 (by omega);have z:=b k a 8 (by omega);obtain⟨⟨x,E⟩,B⟩:∃p,ls[k]=p:=⟨_,rfl⟩;rw[B]at t m i j A y q o z u;obtain⟨d,f,e⟩:=Ak u;simp only at e;subst e;simp[Ap]at t m i j A y q o z;exact⟨g,n,x,d,f,D,B,u,t,m,i,j,A,y,q,o,z⟩
structure NR(x:PL):Prop where
 len:x.ts.length<=1000
 ts:∀t∈x.ts,MA t
 l:MA x.l
 r:MA x.r
theorem NR.terms{x:PL}(h:NR x):(∀t∈AS x,MA t)/\(AS x).length<=100000:=by
 unfold AS;split
 ·exact⟨h.ts,by have:=h.len;omega⟩
 ·refine⟨λt a=>?_,by simp⟩;simp only[aj,bE,or_false]at a;rcases a with rfl|rfl
  ·exact h.l
  ·exact h.r
theorem Uf(I kb ko:Nat)(HI:Option Addr)(EK:Nat)(ls:List MH)(ov:Value)(H6:Option Addr)(HQ:Nat)(c:List Fm)(b:List cL)(w:World)(R:b.length=26)(hS:Mn w I kb ko (.slice HI ls.length EK) ov H6 HQ c)(K:Cd w 0 (.slice HI ls.length EK) ls)(K2:c.length<=900000)(M0:ls.length<=1000)(hl:∀p∈ls,NR p.1)
  (H1:∀(X:DB) i j (hi:i<c.length) (hj:j<c.length),i<=j->B6 c[j].f X<0->B6 c[i].f X<0):
  Calls prog 177 #[.pointer (some ⟨I,0,none⟩), .agg (Ah b).toArray] w λr u=>∃B,r= .returned (.bool B)/\EA c b (ls.map Prod.fst) B/\Ac [] w u:=by
 have K4:=Ab hS;have HT:=Ab K;have K3:Hid (∀(x:PL) d m a,Ac [] w a->IM w 0 (x, .slice d x.ts.length m)->Calls prog 137 #[.agg (Ap (x, .slice d x.ts.length m)).toArray] a λe u=>∃H7 HO,e= .returned (.slice H7 (AS x).length HO)/\u.ownsRow 0 215 2 (.slice H7 (AS x).length HO) (AS x).length ((AS x).flatMap Am)/\Ac [] a u):=λx d m a v T=>Ka x d m a (T.kept v (by simp))
 have KS:Hid (∀G (x:PL) d m a,NR x->Aw a G (Ah b) 243->a.ownsRow 0 215 2 (.slice d (AS x).length m) (AS x).length ((AS x).flatMap Am)->Calls prog 204 #[.pointer (some ⟨G,0,none⟩), .slice d (AS x).length m] a λr u=>r= .returned (.bool (FE b (AS x)))/\Ac [] a u):=λG x d m a o K hr=>RM G 243 b d m (AS x) 0 a R K hr o.terms.2 o.terms.1
 have HA:Hid (∀(x:PL) d m a,Ac [] w a->NR x->IM w 0 (x, .slice d x.ts.length m)->Calls prog 205 #[.pointer (some ⟨I,0,none⟩), .agg (Ap (x, .slice d x.ts.length m)).toArray, .agg (Ah b).toArray] a λr u=>∃B,r= .returned (.bool B)/\IB c b x B/\Ac [] a u):=λx d m a v o T=>Tq I kb ko _ ov H6 HQ c x d m b a R (hS.kept v) (T.kept v (by simp)) K2 o.len o.ts o.l o.r (H1 _)
 have K9:=Ab hl;have o:=Bl b;have HS:(Ah b).length=26:=by unfold Ah;simp[R]
 have FW:=Ab HS;obtain⟨E,hE⟩:∃E,Ah b=E:=⟨_,rfl⟩;rw[hE]at o HS FW KS HA⊢;have A:=Ab (Aw.new w E 243);have s:=Ab ((Ac.refl [] w).alloc (.cells E.toArray 243));clear hE hS K hl H1;obtain⟨t,Bx⟩:∃t:Bool->Prop,t=EA c b (ls.map Prod.fst):=⟨_,rfl⟩;have D:Hid (∀B,EA c b ((ls.drop 0).map Prod.fst) B->t B):=λB h=>by rw[Bx];exact h
 rw[<-Bx];clear Bx;go_enter func177,ntmps177;apply wp_seq_k;intro KK H5;have CL:=Ab H5;clear H5;go_wp2;refine Aa CL _ _ ?_;clear CL KK;generalize w.alloc (.cells E.toArray 243)=w1 at A s⊢;generalize w.heap.size=N at A⊢;have s1:=((Aa K4).kept (Aa s)).blk.cell 1;simp at s1;go_wp2_with fail
 go_loopg [12] ls.length (λgk i wr=>∃(k:Nat),i= .int .i64 k/\k<=ls.length/\gk=ls.length-k/\Hid (∀B,EA c b ((ls.drop k).map Prod.fst) B->t B)/\Hid (Aw wr N E 243)/\Hid (Ac [] w wr))
 case atStart=>exact⟨0,rfl,by omega,rfl,D,A,s⟩
 case round=>
  clear D A s s1;obtain⟨k,rfl,v,H4,D,A,s⟩:=hrel;have HG:=Ab H4;clear H4;by_cases U:k<ls.length
  ·obtain⟨g,M6,x,y,C,he,S,_,d0,d1,d2,d3,d4,d5,d6,d7,d8⟩:=QO ((Aa HT).kept (Aa s) (by simp)) k U;simp only[Z6]at he;obtain⟨rfl,_,rfl⟩:=he;(have Y:(x,Value.slice y x.ts.length C)∈ls:=by rw[<-S];exact Z7 U);have Z:=Aa K9 _ Y;have V:IM w 0 (x, .slice y x.ts.length C):=((Aa HT).each _ Y).1;have q:Hid (∀B,(if FE b (AS x)then∃H,IB c b x H/\(if H then EA c b ((ls.drop (k+1)).map Prod.fst) B else B=true)else EA c b ((ls.drop (k+1)).map Prod.fst) B)->t B):=by
    intro B h;refine Aa D B ?_;rw[aC U,aI,S];exact h
   have M:=Ab ((Aa s).alloc (.cells (Ap (x, .slice y x.ts.length C)).toArray 217));have AT:=Ab ((Aa A).alloc (.cells (Ap (x, .slice y x.ts.length C)).toArray 217));have AB:=Ab (Aw.new wr (Ap (x, .slice y x.ts.length C)) 217);have J:=Ab (Aa K3 x y C _ (Aa M) V);have W:=Ab (λd m a=>Aa KS N x d m a Z);have F:=Ab (λa v=>Aa HA x y C a v Z V);generalize AS x=TL at J W q;generalize IB c b x=HX at F q;obtain⟨pl,so,ap,an,ts,⟨lv,Mo⟩,⟨rv,Nq⟩⟩:=x;simp only[Ap]at M AT AB J F d0 d1 d2 d3 d4 d5 d6 d7 d8;clear S Y Z V D;(go_wp2_with fail);refine(Aa J).mono ?_;rintro _ w3 ⟨K1,K7,rfl,HD,L⟩;have H0:=Ab ((Aa M).trans L);have Ax:=Ab ((Aa AT).kept L (by simp));have HH:=Ab ((Aa AB).kept L (by simp));have H3:=Ab (Aa W K1 K7 w3 (Aa Ax) HD);clear J W M AT AB HD L d0 d1 d2 d3 d4 d5 d6 d7 d8 s A;(go_wp2_with fail);refine(Aa H3).mono ?_;rintro _ w4 ⟨rfl,P⟩;have Q:=Ab ((Aa H0).trans P);have O:=Ab ((Aa Ax).kept P (by simp));have n:=(Aa HH).kept P (by simp);have e0:=n.cell 0;have e1:=n.cell 1;have e2:=n.cell 2;have e3:=n.cell 3;have e4:=n.cell 4;have e5:=n.cell 5;have e6:=n.cell 6;have e7:=n.cell 7;have e8:=n.cell 8;simp at e0 e1 e2 e3 e4 e5 e6 e7 e8;clear H3 H0 Ax HH P n;obtain⟨ST,EX⟩:∃ST,FE b TL=ST:=⟨_,rfl⟩;rw[EX]at q⊢;clear EX;cases ST with
   |false=>
    (have z:Hid (∀B,EA c b ((ls.drop (k+1)).map Prod.fst) B->t B):=λB h=>Aa q B (by rw[if_neg (by simp)];exact h));clear q F;go_wp2
    go_roundg (ls.length-(k+1))
    case measure=>have:=Aa HG;omega
    case rel=>exact⟨k+1,by go_num,by omega,rfl,z,O,Q⟩
   |true=>
    have FO:=Ab (Aa F w4 (Aa Q));clear F;go_wp2_with ((with_reducible show wpList _ _ _ ({dst:=_,op:=Op.load 243 _,type:=_,pos:=_,after:=_,guard:=_}::_) _ _);refine Br (by rfl) 243 _ rfl N 0 (by rfl) E _ (Aa O).range underlying243 rfl (by rw[Aa FW];exact Tryz.size243) ?_)
    refine(Aa FO).mono ?_;rintro _ w5 ⟨HB,rfl,EY,k5⟩;have HW:=Ab ((Aa Q).trans k5);have LC:=Ab ((Aa O).kept k5 (by simp));have H8:=Ab EY;clear FO k5 EY Q O e0 e1 e2 e3 e4 e5 e6 e7 e8;cases HB with
    |true=>
     (have z:Hid (∀B,EA c b ((ls.drop (k+1)).map Prod.fst) B->t B):=λB h=>Aa q B (by rw[if_pos True.intro];exact⟨true,Aa H8,h⟩));clear q;go_wp2
     go_roundg (ls.length-(k+1))
     case measure=>have:=Aa HG;omega
     case rel=>exact⟨k+1,by go_num,by omega,rfl,z,LC,HW⟩
    |false=>
     have z:Hid (t true):=Aa q true (by rw[if_pos True.intro];exact⟨false,Aa H8,rfl⟩);clear q;go_wp2;go_ret;exact⟨true,rfl,Aa z,Aa HW⟩
  ·have z:Hid (t false):=Aa D false (by rw[aQ (by omega)];rfl);go_wp2;go_ret;exact⟨false,rfl,Aa z,Aa s⟩
abbrev Sq:=List cL×Value
structure Y8(w:World)(lv:Value)(ps:List Sq):Prop where
 row:w.ownsRow 0 102 1 lv ps.length (ps.flatMap λp=>[p.2])
 each:∀p∈ps,w.ownsRow 0 170 1 p.2 p.1.length (p.1.flatMap Ae)/\Ct Dg p.1/\p.1.length<=10000
theorem Y8.kept{w w':World}{c:Value}{b:List Sq}(h:Y8 w c b)(k:Ac [] w w'):Y8 w' c b:=⟨Ad h.row k (by simp),λp a=>⟨Ad (h.each p a).1 k (by simp),(h.each p a).2⟩⟩
theorem Yw{w:World}{m:Value}{a:List Sq}(h:Y8 w m a)(k:Nat)(b:k<a.length):∃g l i f,m= .slice (some ⟨g,0,none⟩) a.length l/\w.cell? ⟨g,k,none⟩=some (.slice i (Bv (a.map Prod.fst) k).length f)/\w.ownsRow 0 170 1 (.slice i (Bv (a.map Prod.fst) k).length f) (Bv (a.map Prod.fst) k).length ((Bv (a.map Prod.fst) k).flatMap Ae)/\Ct Dg (Bv (a.map Prod.fst) k)/\(Bv (a.map Prod.fst) k).length<=10000:=by
 obtain⟨g,l,n,_,r⟩:=AE h.row (λc _=>rfl) k b;have d:=r k b 0 (by omega);have o:Bv (a.map Prod.fst) k=a[k].1:=by
  unfold Bv;rw[aq,cu,aA b];rfl
 rw[o];obtain⟨j,p,q⟩:=h.each _ (Z7 b);obtain⟨i,f,e⟩:=Ak j;rw[e]at j;simp[e]at d;exact⟨g,l,i,f,n,d,j,p,q⟩
theorem UU{w:World}{base:Nat}{v:Value}{l:List Nat}(h:w.ownsRow base 3 1 v l.length (l.flatMap BG))(k:Nat)(b:k<l.length):∃g a,v= .slice (some ⟨g,0,none⟩) l.length a/\w.cell? ⟨g,k,none⟩=some (.int .i64 (l[k]:Nat)):=by
 obtain⟨g,a,e,_,f⟩:=AE h (λc _=>rfl) k b;have d:=f k b 0 (by omega);simp[BG]at d;exact⟨g,a,e,d⟩
theorem KF(a:List Nat)(t v:Nat)(b:t<a.length):UF (λi=>a.getD i 0) t v=λi=>(a.set t v).getD i 0:=by
 funext i
 unfold UF;simp only[aq,List.getElem?_set];split
 ·rename_i e;subst e;simp[b]
 ·rename_i e;rw[if_neg (λh=>e h.symm)]
theorem Ji(b:List Nat)(t v:Nat):(b.set t v).flatMap BG=(b.flatMap BG).set t (.int .i64 (v:Nat)):=by
 have e:∀l:List Nat,l.flatMap BG=l.map λn=>Value.int .i64 (n:Nat):=λl=>by
  induction l with
  |nil=>rfl
  |cons a l ih=>simp[BG,ih]
 rw[e,e,eF]
theorem Ky:∀l:List Nat,l.flatMap BG=l.map λn=>Value.int .i64 (n:Nat)
 |[]=>rfl
 |a::l=>by simp only[aB,aI,Ky l];rfl
theorem Kj(a:List Nat)(t:Nat)(h:t<a.length):(a.flatMap BG)[t]?=some (.int .i64 (a[t]:Nat)):=by
 rw[Ky,cu,aA h];rfl
theorem Y7(ls:List (List cL))(s:cL)(h:∀l∈ls,l.length<=10000):QE Dg s ls<=ls.length*10000:=by
 induction ls with
 |nil=>simp[QE]
 |cons l ls ih=>
  have b:=ih (λq a=>h q (be _ a));have c:=h l (bC ..);have d:Zy Dg s l<=l.length:=ej;have e:QE Dg s (l::ls)=Zy Dg s l+QE Dg s ls:=by unfold QE;simp
  rw[e,ak,ce];omega
structure Iz(ps:List Sq)(m:List cL):Prop where
 mem:∀y,y∈m↔(ps≠[]/\Iy (ps.map Prod.fst) y)
 rise:m.Pairwise λa b=>Dg a b=true
theorem Tryz.info3c:(Tryz.prog.info? 3).map (λi=>(i.zero,i.size,i.bytes))=some (some (.int .i64 0),1,8):=by kernel_rfl
theorem S5(lad:Option Addr)(lcp:Nat)(ps:List Sq)(w:World)(h:Y8 w (.slice lad ps.length lcp) ps)(hlen:ps.length<=1000):
  Calls prog 208 #[.slice lad ps.length lcp] w λr w'=>∃(ad:Option Addr) (cp:Nat) (m:List cL),r= .returned (.slice ad m.length cp)/\Iz ps m/\w'.ownsRow w.heap.size 170 1 (.slice ad m.length cp) m.length (m.flatMap Ae)/\Ac [] w w':=by
 obtain⟨i0,hi0,hz0,hz1,hz2⟩:=bj Tryz.info170;obtain⟨j0,hj0,hy0,hy1,hy2⟩:=bj Tryz.info3c;have HL:=Ab h;obtain⟨N,hN⟩:∃N,w.heap.size=N:=⟨_,rfl⟩;rw[hN];have HN:=Ab hN;clear hN h;obtain⟨LS,hLS⟩:∃LS,ps.map Prod.fst=LS:=⟨_,rfl⟩;have hLl:LS.length=ps.length:=by rw[<-hLS,aD]
 have HLS:=Ab hLS;have HMx:Hid (∀s,QE Dg s LS<=ps.length*10000):=by
  intro s;have h1:=Y7 LS s (λl hl=>by
   rw[<-hLS]at hl
   obtain⟨p,hp,rfl⟩:=az.1 hl
   exact((Aa HL).each p hp).2.2)
  rw[hLl]at h1;exact h1
 have HOut:Hid (∀m,(ps≠[]->(∀y,y∈m↔Iy LS y))->(ps=[]->m=[])->m.Pairwise (λa b=>Dg a b=true)->Iz ps m):=by
  intro m h1 h2 h3;refine⟨λy=>?_,h3⟩;by_cases hp:ps=[]
  ·rw[h2 hp];simp[hp]
  ·rw[h1 hp y,<-hLS];exact⟨λh=>⟨hp,h⟩,λh=>h.2⟩
 by_cases h0:ps.length=0
 ·have h0b:((ps.length:Int)==0)=true:=by simp[h0]
  have h0c:(ps.length:Int)=0:=by omega
  have HE:Hid (Iz ps []):=Aa HOut [] (λh=>absurd (cG.1 h0) h) (λ_=>rfl) List.Pairwise.nil;clear hLS;go_enter func208,ntmps208;go_wp2;go_ret;exact⟨none,0,[],rfl,Aa HE,ax _ _ _ _,Ac.refl _ _⟩
 ·have hpos:0<ps.length:=by omega
  have h0b:((ps.length:Int)==0)=false:=by rw[bc];omega
  have h0c:¬(ps.length:Int)=0:=by omega
  have hpne:ps≠[]:=λe=>h0 (by rw[e];rfl)
  obtain⟨g,cap,ad0,cp0,he,e0,r0,q0,b0⟩:=Yw (Aa HL) 0 hpos;simp only[Z6]at he;obtain⟨rfl,-,rfl⟩:=he;rw[hLS]at e0 r0 q0 b0;have hi00:(0:Int)<(ps.length:Int):=by omega
  by_cases hz:(Bv LS 0).length=0
  ·(have hzb:(((Bv LS 0).length:Int)==0)=true:=by simp[hz]);(have hzc:((Bv LS 0).length:Int)=0:=by omega);have HE:Hid (Iz ps []):=Aa HOut [] (λ_ y=>by
    refine⟨λh=>by simp at h,λh=>?_⟩
    have h1:=h (Bv LS 0) (Ee (by omega))
    rw[cG.1 hz]at h1
    exact h1) (λh=>absurd h hpne) List.Pairwise.nil
   clear hLS hz;go_enter func208,ntmps208;go_wp2;go_ret;exact⟨none,0,[],rfl,Aa HE,ax _ _ _ _,Ac.refl _ _⟩
  ·(have hzp:0<(Bv LS 0).length:=by omega);(have hzb:(((Bv LS 0).length:Int)==0)=false:=by rw[bc];omega);(have hzc:¬((Bv LS 0).length:Int)=0:=by omega);(have hzi:(0:Int)<((Bv LS 0).length:Int):=by omega);obtain⟨gz,cz,hez,z0⟩:=Fj r0 0 hzp;simp only[Z6]at hez;obtain⟨rfl,-,rfl⟩:=hez;have HSt:=Ab (Mz.start Eb (ls:=LS) (by omega) q0 hzp);obtain⟨s0,hs0⟩:∃s0,(Bv LS 0)[0]=s0:=⟨_,rfl⟩;rw[hs0]at HSt z0;clear hs0 hLS r0 q0 hz;generalize(Bv LS 0).length=L0 at e0 hzb hzc hzi;(have e0a:=λo=>((Ac.refl [] w).alloc o).cellAt e0);(have z0a:=λo=>((Ac.refl [] w).alloc o).cellAt z0);go_enter func208,ntmps208;go_wp2_with ((with_reducible show wpList _ _ _ ({dst:=_,op:=Op.makeSlice 221 _ _,type:=_,pos:=_,after:=_,guard:=_}::_) _ _);refine wpList_make_row _ rfl _ _ 221 rfl 3 j0 _ underlying221 hj0 hy0 hy1 rfl .i64 .i64 ps.length (by rfl) (by rfl) (by rw[hy2];omega) (by omega) ?_)
   have HPl:Hid ((w.alloc (.cells (madeCells #[.int .i64 0] ps.length) 3)).ownsRow N 3 1 (.slice (some ⟨N,0,none⟩) ps.length ps.length) ps.length ((List.replicate ps.length 0).flatMap BG)):=by
    have h:=World.ownsRow_lit (e:=3) (size:=1) (base:=N) w (madeCells #[.int .i64 0] ps.length) ps.length (by have:=Aa HN;omega) (by unfold maxLen;omega) (by rw[size_madeCells];omega);rw[PX,Aa HN]at h;have e:(List.replicate ps.length 0).flatMap BG=List.replicate ps.length (.int .i64 0):=by
     generalize ps.length=n
     induction n with
     |zero=>rfl
     |succ n ih=>rw[List.replicate_succ,aB,ih,List.replicate_succ];rfl
    rw[e];exact h
   have HK0:=Ab ((Ac.refl [] w).alloc (.cells (madeCells #[.int .i64 0] ps.length) 3));have HC0:Hid (Mz Dg LS 0 s0 0 (λi=>(List.replicate ps.length 0).getD i 0) []):=by
    have e:(λi=>(List.replicate ps.length 0).getD i 0)=λ_=>0:=by
     funext i
     rw[aq,List.getElem?_replicate];split<;>rfl
    rw[e];exact Aa HSt
   rw[Aa HN];clear e0 z0 e0a z0a HSt hzb hzc hzi b0 hzp;generalize w.alloc (.cells (madeCells #[.int .i64 0] ps.length) 3)=w1 at HPl HK0⊢
   go_loopg [3,5,6,7] (QE Dg s0 LS*(ps.length+1)+ps.length) (λgk cv sv av tv wr=>∃(t:Nat) (s:cL) (ag:Nat) (pl:List Nat) (m:List cL) (mad:Option Addr) (mcp:Nat),cv= .slice mad m.length mcp/\sv= .string s/\av= .int .i64 ag/\tv= .int .i64 t/\gk=QE Dg s LS*(ps.length+1)+(ps.length-ag)/\pl.length=ps.length/\m.length+QE Dg s LS<=10000000/\Hid (Mz Dg LS t s ag (λi=>pl.getD i 0) m)/\Hid (wr.ownsRow N 3 1 (.slice (some ⟨N,0,none⟩) ps.length ps.length) ps.length (pl.flatMap BG))/\Hid (wr.ownsRow N 170 1 (.slice mad m.length mcp) m.length (m.flatMap Ae))/\Hid (Ac [] w wr))
   case atStart=>exact⟨0,s0,0,List.replicate ps.length 0,[],none,0,rfl,rfl,rfl,rfl,by simp,by simp,by have:=Aa HMx s0;simp;omega,HC0,HPl,ax _ _ _ _,HK0⟩
   case round=>
    clear HC0 HPl HK0;obtain⟨t,s,ag,pl,m,mad,mcp,rfl,rfl,rfl,rfl,hgk,hpl,hml,HC,HP,HM,HK⟩:=hrel;have HG:=Ab hgk;clear hgk;(have htk:t<ps.length:=by have:=(Aa HC).tk;omega);(have hagk:ag<ps.length:=by have:=(Aa HC).agk;omega);obtain⟨g',cap',adt,cpt,he',et,rt,qt,bt⟩:=Yw ((Aa HL).kept (Aa HK)) t htk;simp only[Z6,ai,aW]at he';obtain⟨⟨hgq,-,-⟩,-,-⟩:=he';subst hgq;rw[Aa HLS]at et rt qt bt;(have hP2:wr.ownsRow N 3 1 (.slice (some ⟨N,0,none⟩) ps.length ps.length) pl.length (pl.flatMap BG):=by rw[hpl];exact Aa HP);have hptl:pl.getD t 0<=(Bv LS t).length:=(Aa HC).ple t (Aa HC).tk;obtain⟨gp,cpp,hep,pt⟩:=UU (l:=pl) (v:= .slice (some ⟨N,0,none⟩) ps.length ps.length) hP2 t (by omega);simp only[Z6,ai,aW]at hep;obtain⟨⟨hgq,-,-⟩,-,-⟩:=hep;subst hgq;obtain⟨PT,hPT⟩:∃PT,pl[t]=PT:=⟨_,rfl⟩;(have hPD:pl.getD t 0=PT:=by rw[aq,aA (by omega),hPT];rfl);rw[hPT]at pt;rw[hPD]at hptl;have HLp:=Ab (O8 (.slice adt (Bv LS t).length cpt) (Bv LS t) PT s 0 wr rt (by omega) hptl qt);have HQ:=Ab qt;have HRt:=Ab rt;have HPD:=Ab hPD;(have htr0:(0:Int)<=(t:Int):=by omega);(have htr1:(t:Int)<(ps.length:Int):=by omega);have pf:=(Aa HP).frozenAt t;have HLow:Hid (∀q0 q1,adt=some ⟨q0,q1,none⟩->q0<N):=by
     intro q0 q1 hq;obtain⟨gw,_,adw,cpw,hew,ew,rw0,_,_⟩:=Yw (Aa HL) t htk;simp only[Z6,ai,aW]at hew;obtain⟨⟨hgq,-,-⟩,-,-⟩:=hew;subst hgq;have e2:=(Aa HK).cellAt ew;rw[Aa HLS,et]at e2;simp only[ai,Z6]at e2;have h3:=(rw0.lt q0 (by rw[<-e2.1,hq];rfl)).2;rw[Aa HN]at h3;exact h3
    have HTm:Hid (((t:Int)+1).tmod (ps.length:Int)=(Ev ps.length t:Int)/\((t:Int)+1)%(ps.length:Int)=(Ev ps.length t:Int)/\Ev ps.length t<ps.length):=by
     have h1:=Xj htk;(have h2:((t:Int)+1)%(ps.length:Int)=(Ev ps.length t:Int):=by rw[<-h1,Int.natCast_emod,Int.natCast_add];rfl);exact⟨by rw[Int.tmod_eq_emod_of_nonneg (by omega)];exact h2,h2,Qz htk⟩
    clear hPT hP2 hPD qt rt;(go_wp2_with fail);refine(Aa HLp).mono ?_;rintro _ w2 ⟨at_,rfl,hleap,hw2⟩;have hw3:=hw2.symm;subst hw3;(have hleap2:Ck Dg (Bv LS t) ((λi=>pl.getD i 0) t) s at_:=by show Ck Dg (Bv LS t) (pl.getD t 0) s at_;rw[Aa HPD];exact hleap);have HLe:=Ab hleap2;have hal:=hleap.le;clear hleap hleap2 HLp;by_cases hend:at_=(Bv LS t).length
    ·have HE:Hid (Iz ps m):=Aa HOut m (λ_=>(Aa HC).done (Aa HLe) hend) (λh=>absurd h hpne) (Aa HC).rise;(have hendb:((at_:Int)==((Bv LS t).length:Int))=true:=by simp[hend]);(have hendc:(at_:Int)=((Bv LS t).length:Int):=by omega);clear hend;go_wp2;go_ret;exact⟨mad,mcp,m,rfl,Aa HE,Aa HM,Aa HK⟩
    ·(have halt:at_<(Bv LS t).length:=by omega);(have hendb:((at_:Int)==((Bv LS t).length:Int))=false:=by rw[bc];omega);(have hendc:¬(at_:Int)=((Bv LS t).length:Int):=by omega);(have har0:(0:Int)<=(at_:Int):=by omega);(have har1:(at_:Int)<((Bv LS t).length:Int):=by omega);obtain⟨gx,cx,hex,x0⟩:=Fj (Aa HRt) at_ halt;simp only[Z6]at hex;obtain⟨rfl,-,rfl⟩:=hex;obtain⟨X,hX⟩:∃X,(Bv LS t)[at_]=X:=⟨_,rfl⟩;rw[hX]at x0;cases hsx:(X.toList==s.toList)with
     |true=>
      have hXs:X=s:=(D4 X s).1 hsx;have HMid:=Ab ((Aa HC).same (Aa HLe) halt (by rw[hX,hXs]));(have hGl:QE Dg X LS<=QE Dg s LS:=by rw[hXs];exact au _);subst hXs;clear hX HC;(have hag1:ag+1<=ps.length:=by omega);by_cases hall:ag+1=ps.length
      ·(have hallb:(((ag:Int)+1)==(ps.length:Int))=true:=by rw[b8];omega);have hallc:((ag:Int)+1)=(ps.length:Int):=by omega
       skip
       skip
       (have hlall:ag+1=LS.length:=by omega);by_cases hlast:at_+1=(Bv LS t).length
       ·(have hlb:(((at_:Int)+1)==((Bv LS t).length:Int))=true:=by rw[b8];omega);(have hlc:((at_:Int)+1)=((Bv LS t).length:Int):=by omega);have HE:Hid (Iz ps (m++[X])):=Aa HOut (m++[X]) (λ_=>(Aa HMid).last Eb (Aa HQ) hlall hlast) (λh=>absurd h hpne) ((Aa HMid).took hlall).2;have hM:=Aa HM;clear hall hlast;go_wp2_with (at_builtin;refine ay _ rfl (.tmp 65) (.tmp 67) _ rfl N 170 i0 _ 1 16 underlying102 hi0 hz0 hz1 hz2 rfl (by omega) (.slice mad m.length mcp) m.length (m.flatMap Ae) rfl (ah hM _) ⟨wr.heap.size,0,none⟩ 1 1 [.string X] rfl rfl (aF (cs:=#[.string X]) (t:=170) (fr:=(0,0)) (aS wr _)) (by simp[Value.oneCell']) (by omega) (by unfold maxLen;omega) (by omega) (by simp;have:=(Aa HK).size;have:=Aa HN;omega) (wr.heap.size+1) (by simp) ?_;intro g1 cp1 w9 ho1 hg1 ha1 hl1)
        go_ret;refine⟨some ⟨g1,0,none⟩,cp1,m++[X],by simp,Aa HE,?_,((Aa HK).alloc _).grown hg1 (λq hq=>Or.inr (by have:=(hM.lt q hq).1;have:=Aa HN;omega))⟩;rw[aN];simp only[am,ak,aH,bf,aB,bq,aX,Ae];exact ho1
       ·(have hlb:(((at_:Int)+1)==((Bv LS t).length:Int))=false:=by rw[bc];omega);(have hlc:¬((at_:Int)+1)=((Bv LS t).length:Int):=by omega);(have hgo:at_+1<(Bv LS t).length:=by omega);obtain⟨gy,cy,hey,y0⟩:=Fj (Aa HRt) (at_+1) hgo;simp only[Z6,ai,aW]at hey;obtain⟨⟨hgq,-,-⟩,-,-⟩:=hey;subst hgq;have hmore:=(Aa HMid).more Eb (Aa HQ) hlall hgo;obtain⟨Y,hY⟩:∃Y,(Bv LS t)[at_+1]=Y:=⟨_,rfl⟩;rw[hY]at y0 hmore;rw[KF pl t (at_+1) (by omega),hLl]at hmore;have HCn:=Ab hmore.1;have hGm:=hmore.2;(have hyr0:(0:Int)<=(at_:Int)+1:=by omega);(have hyr1:(at_:Int)+1<((Bv LS t).length:Int):=by omega);have hM:=Aa HM;have HYk:Hid (∀w9,(wr.alloc (.cells #[.string X] 170)).grownBy w9 (Value.slice mad m.length mcp).ownBlock->w9.cell? ⟨gx,at_+1,none⟩=some (.string Y)/\w9.ownsRow N 3 1 (.slice (some ⟨N,0,none⟩) ps.length ps.length) ps.length (pl.flatMap BG)):=by
         intro w9 hg9;refine⟨?_,(ah (Aa HP) _).kept hg9 (Or.inr (λe=>Bt (Aa HP) hM (by decide) N rfl e.symm))⟩;have hgx:gx<N:=Aa HLow _ _ (by rfl);(have hgw:gx<wr.heap.size:=by have:=(Aa HK).size;have:=Aa HN;omega);rw[hg9.cell_far ⟨gx,at_+1,none⟩ (by simp;omega) (λe=>by have:=(hM.lt gx e.symm).1;omega)];exact(((Ac.refl [] wr).alloc _).cellAt y0)
        clear hall hlast hY hmore;go_wp2_with (at_builtin;refine ay _ rfl (.tmp 65) (.tmp 67) _ rfl N 170 i0 _ 1 16 underlying102 hi0 hz0 hz1 hz2 rfl (by omega) (.slice mad m.length mcp) m.length (m.flatMap Ae) rfl (ah hM _) ⟨wr.heap.size,0,none⟩ 1 1 [.string X] rfl rfl (aF (cs:=#[.string X]) (t:=170) (fr:=(0,0)) (aS wr _)) (by simp[Value.oneCell']) (by omega) (by unfold maxLen;omega) (by omega) (by simp;have:=(Aa HK).size;have:=Aa HN;omega) (wr.heap.size+1) (by simp) ?_;intro g1 cp1 w9 ho1 hg1 ha1 hl1;have y9:=(Aa HYk w9 hg1).1;have p9r:=(Aa HYk w9 hg1).2;have p9c:=p9r.cellAt t (by omega);have p9f:=p9r.frozenAt t;rw[Kj pl t (by omega)]at p9c)
        have ht1:=(Aa HTm).1;have ht2:=(Aa HTm).2.1;have HS9:=Ab (((Aa HYk w9 hg1).2).stored t (.int .i64 ((at_+1:Nat):Int)));go_wp2
        go_roundg (QE Dg Y LS*(ps.length+1)+ps.length)
        case measure=>
         have h1:=Aa HG;have h2:(QE Dg Y LS+1)*(ps.length+1)<=QE Dg X LS*(ps.length+1):=bA _ (by omega);rw[ce]at h2;omega
        case rel=>
         refine⟨Ev ps.length t,Y,0,pl.set t (at_+1),m++[X],some ⟨g1,0,none⟩,cp1,by simp,rfl,rfl,by first|rfl|exact congrArg _ (Aa HTm).2.1,by simp,by simp[hpl],by simp;omega,HCn,?_,?_,?_⟩
         ·rw[Ji];have h:=(Aa HS9).1;exact h
         ·have hap:=Bt (Aa HYk w9 hg1).2 ho1 (by decide) N rfl;have h9:w9.ownsRow N 170 1 (.slice (some ⟨g1,0,none⟩) (m++[X]).length cp1) (m++[X]).length ((m++[X]).flatMap Ae):=by
           rw[aN];simp only[am,ak,aH,bf,aB,bq,aX,Ae];exact ho1
          exact Ar h9 (Ac.setCell (M:=[N]) (Ac.refl [N] _) (Or.inl (by simp)) _) (λq hq=>by simp only[ae];intro e;subst e;exact hap hq)
         ·exact(((Aa HK).alloc _).grown hg1 (λq hq=>Or.inr (by have:=(hM.lt q hq).1;have:=Aa HN;omega))).setCell (Or.inr (by have:=Aa HN;simp;omega)) _
      ·(have hallb:(((ag:Int)+1)==(ps.length:Int))=false:=by rw[bc];omega);have hallc:¬((ag:Int)+1)=(ps.length:Int):=by omega
       skip
       skip
       have hnx:=(Aa HMid).next (by omega);rw[KF pl t at_ (by omega),hLl]at hnx;have HCn:=Ab hnx;have ht1:=(Aa HTm).1;have ht2:=(Aa HTm).2.1;clear hall hnx;go_wp2
       go_roundg (QE Dg X LS*(ps.length+1)+(ps.length-(ag+1)))
       case measure=>
        have h1:=Aa HG
        skip
        skip
        omega
       case rel=>
        refine⟨Ev ps.length t,X,ag+1,pl.set t at_,m,mad,mcp,rfl,rfl,by go_num,by first|rfl|exact congrArg _ (Aa HTm).2.1,rfl,by simp[hpl],by omega,HCn,?_,?_,?_⟩
        ·rw[Ji];exact((Aa HP).stored t (.int .i64 (at_:Int))).1
        ·have hap:=Bt (Aa HP) (Aa HM) (by decide) N rfl;exact Ar (Aa HM) (Ac.setCell (M:=[N]) (Ac.refl [N] _) (Or.inl (by simp)) _) (λq hq=>by simp only[ae];intro e;subst e;exact hap hq)
        ·exact(Aa HK).setCell (Or.inr (by have:=Aa HN;simp;omega)) _
     |false=>
      (have hXs:X≠s:=λe=>by rw[(D4 X s).2 e]at hsx;cases hsx);have hpast:=(Aa HC).past Eb (Aa HQ) (Aa HLe) halt (by rw[hX];exact hXs);rw[hX]at hpast;have HMid:=Ab hpast.1;have hGl:=hpast.2;clear hX HC hpast hXs;(have hag1:0+1<=ps.length:=by omega);by_cases hall:0+1=ps.length
      ·(have hallb:(((0:Int)+1)==(ps.length:Int))=true:=by rw[b8];omega);(have hallb1:((1:Int)==(ps.length:Int))=true:=by rw[b8];omega);(have hlall:0+1=LS.length:=by omega);by_cases hlast:at_+1=(Bv LS t).length
       ·(have hlb:(((at_:Int)+1)==((Bv LS t).length:Int))=true:=by rw[b8];omega);(have hlc:((at_:Int)+1)=((Bv LS t).length:Int):=by omega);have HE:Hid (Iz ps (m++[X])):=Aa HOut (m++[X]) (λ_=>(Aa HMid).last Eb (Aa HQ) hlall hlast) (λh=>absurd h hpne) ((Aa HMid).took hlall).2;have hM:=Aa HM;clear hall hlast;go_wp2_with (at_builtin;refine ay _ rfl (.tmp 65) (.tmp 67) _ rfl N 170 i0 _ 1 16 underlying102 hi0 hz0 hz1 hz2 rfl (by omega) (.slice mad m.length mcp) m.length (m.flatMap Ae) rfl (ah hM _) ⟨wr.heap.size,0,none⟩ 1 1 [.string X] rfl rfl (aF (cs:=#[.string X]) (t:=170) (fr:=(0,0)) (aS wr _)) (by simp[Value.oneCell']) (by omega) (by unfold maxLen;omega) (by omega) (by simp;have:=(Aa HK).size;have:=Aa HN;omega) (wr.heap.size+1) (by simp) ?_;intro g1 cp1 w9 ho1 hg1 ha1 hl1)
        go_ret;refine⟨some ⟨g1,0,none⟩,cp1,m++[X],by simp,Aa HE,?_,((Aa HK).alloc _).grown hg1 (λq hq=>Or.inr (by have:=(hM.lt q hq).1;have:=Aa HN;omega))⟩;rw[aN];simp only[am,ak,aH,bf,aB,bq,aX,Ae];exact ho1
       ·(have hlb:(((at_:Int)+1)==((Bv LS t).length:Int))=false:=by rw[bc];omega);(have hlc:¬((at_:Int)+1)=((Bv LS t).length:Int):=by omega);(have hgo:at_+1<(Bv LS t).length:=by omega);obtain⟨gy,cy,hey,y0⟩:=Fj (Aa HRt) (at_+1) hgo;simp only[Z6,ai,aW]at hey;obtain⟨⟨hgq,-,-⟩,-,-⟩:=hey;subst hgq;have hmore:=(Aa HMid).more Eb (Aa HQ) hlall hgo;obtain⟨Y,hY⟩:∃Y,(Bv LS t)[at_+1]=Y:=⟨_,rfl⟩;rw[hY]at y0 hmore;rw[KF pl t (at_+1) (by omega),hLl]at hmore;have HCn:=Ab hmore.1;have hGm:=hmore.2;(have hyr0:(0:Int)<=(at_:Int)+1:=by omega);(have hyr1:(at_:Int)+1<((Bv LS t).length:Int):=by omega);have hM:=Aa HM;have HYk:Hid (∀w9,(wr.alloc (.cells #[.string X] 170)).grownBy w9 (Value.slice mad m.length mcp).ownBlock->w9.cell? ⟨gx,at_+1,none⟩=some (.string Y)/\w9.ownsRow N 3 1 (.slice (some ⟨N,0,none⟩) ps.length ps.length) ps.length (pl.flatMap BG)):=by
         intro w9 hg9;refine⟨?_,(ah (Aa HP) _).kept hg9 (Or.inr (λe=>Bt (Aa HP) hM (by decide) N rfl e.symm))⟩;have hgx:gx<N:=Aa HLow _ _ (by rfl);(have hgw:gx<wr.heap.size:=by have:=(Aa HK).size;have:=Aa HN;omega);rw[hg9.cell_far ⟨gx,at_+1,none⟩ (by simp;omega) (λe=>by have:=(hM.lt gx e.symm).1;omega)];exact(((Ac.refl [] wr).alloc _).cellAt y0)
        clear hall hlast hY hmore;go_wp2_with (at_builtin;refine ay _ rfl (.tmp 65) (.tmp 67) _ rfl N 170 i0 _ 1 16 underlying102 hi0 hz0 hz1 hz2 rfl (by omega) (.slice mad m.length mcp) m.length (m.flatMap Ae) rfl (ah hM _) ⟨wr.heap.size,0,none⟩ 1 1 [.string X] rfl rfl (aF (cs:=#[.string X]) (t:=170) (fr:=(0,0)) (aS wr _)) (by simp[Value.oneCell']) (by omega) (by unfold maxLen;omega) (by omega) (by simp;have:=(Aa HK).size;have:=Aa HN;omega) (wr.heap.size+1) (by simp) ?_;intro g1 cp1 w9 ho1 hg1 ha1 hl1;have y9:=(Aa HYk w9 hg1).1;have p9r:=(Aa HYk w9 hg1).2;have p9c:=p9r.cellAt t (by omega);have p9f:=p9r.frozenAt t;rw[Kj pl t (by omega)]at p9c)
        have ht1:=(Aa HTm).1;have ht2:=(Aa HTm).2.1;have HS9:=Ab (((Aa HYk w9 hg1).2).stored t (.int .i64 ((at_+1:Nat):Int)));go_wp2
        go_roundg (QE Dg Y LS*(ps.length+1)+ps.length)
        case measure=>
         have h1:=Aa HG;have h2:(QE Dg Y LS+1)*(ps.length+1)<=QE Dg s LS*(ps.length+1):=bA _ (by omega);rw[ce]at h2;omega
        case rel=>
         refine⟨Ev ps.length t,Y,0,pl.set t (at_+1),m++[X],some ⟨g1,0,none⟩,cp1,by simp,rfl,rfl,by first|rfl|exact congrArg _ (Aa HTm).2.1,by simp,by simp[hpl],by simp;omega,HCn,?_,?_,?_⟩
         ·rw[Ji];have h:=(Aa HS9).1;exact h
         ·have hap:=Bt (Aa HYk w9 hg1).2 ho1 (by decide) N rfl;have h9:w9.ownsRow N 170 1 (.slice (some ⟨g1,0,none⟩) (m++[X]).length cp1) (m++[X]).length ((m++[X]).flatMap Ae):=by
           rw[aN];simp only[am,ak,aH,bf,aB,bq,aX,Ae];exact ho1
          exact Ar h9 (Ac.setCell (M:=[N]) (Ac.refl [N] _) (Or.inl (by simp)) _) (λq hq=>by simp only[ae];intro e;subst e;exact hap hq)
         ·exact(((Aa HK).alloc _).grown hg1 (λq hq=>Or.inr (by have:=(hM.lt q hq).1;have:=Aa HN;omega))).setCell (Or.inr (by have:=Aa HN;simp;omega)) _
      ·(have hallb:(((0:Int)+1)==(ps.length:Int))=false:=by rw[bc];omega);(have hallc:¬((0:Int)+1)=(ps.length:Int):=by omega);(have hallb1:((1:Int)==(ps.length:Int))=false:=by rw[bc];omega);(have hallc1:¬(1:Int)=(ps.length:Int):=by omega);have hnx:=(Aa HMid).next (by omega);rw[KF pl t at_ (by omega),hLl]at hnx;have HCn:=Ab hnx;have ht1:=(Aa HTm).1;have ht2:=(Aa HTm).2.1;clear hall hnx;go_wp2
       go_roundg (QE Dg X LS*(ps.length+1)+(ps.length-(0+1)))
       case measure=>
        have h1:=Aa HG;have h2:(QE Dg X LS+1)*(ps.length+1)<=QE Dg s LS*(ps.length+1):=bA _ (by omega);rw[ce]at h2;omega
       case rel=>
        refine⟨Ev ps.length t,X,0+1,pl.set t at_,m,mad,mcp,rfl,rfl,by go_num,by first|rfl|exact congrArg _ (Aa HTm).2.1,rfl,by simp[hpl],by omega,HCn,?_,?_,?_⟩
        ·rw[Ji];exact((Aa HP).stored t (.int .i64 (at_:Int))).1
        ·have hap:=Bt (Aa HP) (Aa HM) (by decide) N rfl;exact Ar (Aa HM) (Ac.setCell (M:=[N]) (Ac.refl [N] _) (Or.inl (by simp)) _) (λq hq=>by simp only[ae];intro e;subst e;exact hap hq)
        ·exact(Aa HK).setCell (Or.inr (by have:=Aa HN;simp;omega)) _
theorem DW.grown{w w':World}{p:Fm}{base n:Nat}{v:Value}{a:List Value}(h:DW w p)(c:w.ownsRow base 104 2 v n a)(b:w.grownBy w' v.ownBlock):DW w' p:=
 bS (v:=p.tv) h b (by
  cases hp:p.tv.ownBlock with
  |none=>exact Or.inl rfl
  |some q=>exact Or.inr (λe=>Bt h c (by decide) q hp e.symm))
def JL(b:List cL)(ls:List PL):List DB:=(ls.filter λx=>x.sort==0).map (El b)
theorem Vu(M ty:Nat)(b:List cL)(Go:Option Addr)(BA:Nat)(ls:List MH)(w:World)(hb:b.length=26)(HI:Aw w M (Ah b) ty)(hB:Cd w 0 (.slice Go ls.length BA) ls)(K3:ls.length<=1000)(hl:∀p∈ls,NR p.1):
  Calls prog 198 #[.pointer (some ⟨M,0,none⟩), .slice Go ls.length BA] w λr s=>∃(m:Option Addr) (n:Nat) (a:List Fm),r= .returned (.slice m a.length n)/\a.map Fm.f=JL b (ls.map Prod.fst)/\Mc s (.slice m a.length n) a/\Ac [] w s:=by
 obtain⟨i0,H4,HZ,H6,H3⟩:=bj Tryz.info104;have HF:=Ab hB;have H1:=Ab hl;have HT:Hid (∀(x:PL) m n C,Ac [] w C->NR x->IM w 0 (x, .slice m x.ts.length n)->Calls prog 196 #[.pointer (some ⟨M,0,none⟩), .agg #[.int .i64 x.ap, .string x.an, .slice m x.ts.length n]] C λr s=>∃g,r= .returned (.agg #[.string x.an, .slice (some ⟨g,0,none⟩) x.ts.length x.ts.length])/\DW s ⟨El b x, .slice (some ⟨g,0,none⟩) x.ts.length x.ts.length⟩/\Ac [] C s):=by
  intro x m n C U hc hx;refine(Lq M ty b x.ap x.an m n x.ts 0 C hb (HI.kept U (by simp)) (hx.kept U (by simp)) (by have:=hc.len;omega) hc.ts).mono ?_;rintro r s ⟨g,rfl,hr,k⟩;refine⟨g,rfl,?_,k⟩;show s.ownsRow 0 170 1 _ (x.ts.map (Bn b)).length _;rw[aD];exact Ai hr (aG _)
 obtain⟨R,hR⟩:∃R,JL b (ls.map Prod.fst)=R:=⟨_,rfl⟩;rw[hR];have HR:=Ab hR;obtain⟨N,hN⟩:∃N,w.heap.size=N:=⟨_,rfl⟩;have HN:=Ab hN;clear hB hl hR hN HI;go_enter func198,ntmps198;go_wp2_with fail
 go_loopg [5,10] ls.length (λgk o i wr=>∃(k:Nat) (a:List Fm) (z:Option Addr) (u:Nat),o= .slice z a.length u/\i= .int .i64 k/\k<=ls.length/\gk=ls.length-k/\a.length<=k/\Hid (a.map Fm.f=JL b ((ls.take k).map Prod.fst))/\Hid (wr.ownsRow N 104 2 (.slice z a.length u) a.length (a.flatMap A9))/\Hid (∀p∈a,DW wr p/\p.f.things.length<=1000)/\Hid (Ac [] w wr))
 case atStart=>exact⟨0,[],none,0,rfl,rfl,by omega,rfl,by simp,rfl,ax _ _ _ _,(λp d=>by cases d),Ac.refl _ _⟩
 case round=>
  obtain⟨k,a,z,u,rfl,rfl,U,HJ,K1,G,V,J,D⟩:=hrel;have HG:=Ab HJ;clear HJ;by_cases T:k<ls.length
  ·obtain⟨g,K4,x,v,y,he,S,_,d0,d1,d2,d3,d4,d5,d6,d7,d8⟩:=QO ((Aa HF).kept (Aa D) (by simp)) k T;simp only[Z6]at he;obtain⟨rfl,_,rfl⟩:=he;(have W:(x,Value.slice v x.ts.length y)∈ls:=by rw[<-S];exact Z7 T);have X:=Aa H1 _ W;have FL:IM w 0 (x, .slice v x.ts.length y):=((Aa HF).each _ W).1;have j:Hid (JL b ((ls.take (k+1)).map Prod.fst)=JL b ((ls.take k).map Prod.fst)++if(x.sort==0)=true then[El b x] else[]):=by
    show _=_;unfold JL;rw[ac T,bm,cE,bm,S]
    congr 1
    simp only[aI,ec,bL,List.filter_nil];split<;>rfl
   have F:=Ab ((Aa D).alloc (.cells (Ap (x, .slice v x.ts.length y)).toArray 217));have H:=Ab (ah (Aa V) (.cells (Ap (x, .slice v x.ts.length y)).toArray 217));(have A:Hid (∀p∈a,DW (wr.alloc (.cells (Ap (x, .slice v x.ts.length y)).toArray 217)) p/\p.f.things.length<=1000):=λp d=>⟨((Aa J) p d).1.kept ((Ac.refl [] wr).alloc _),((Aa J) p d).2⟩);have B:=Ab (Aa HT x v y _ (Aa F) X FL);(have CL:Hid ((El b x).things.length<=1000):=by show(x.ts.map (Bn b)).length<=1000;rw[aD];exact X.len);(have O:Hid (∀g,A9 ⟨El b x, .slice (some ⟨g,0,none⟩) x.ts.length x.ts.length⟩=[.string x.an, .slice (some ⟨g,0,none⟩) x.ts.length x.ts.length]):=λg=>rfl);generalize El b x=FC at j B CL O;obtain⟨pl,Q,ap,an,c,⟨lv,JJ⟩,⟨rv,K5⟩⟩:=x;simp only[Ap]at F H A B j O d0 d1 d2 d3 d4 d5 d6 d7 d8;clear S W X FL V J;(have K2:N<=wr.heap.size:=by have:=(Aa D).size;have:=Aa HN;omega);clear D;by_cases L:Q=0
   ·(have Y:(Q==0)=true:=by simp[L]);rw[Y,if_pos rfl]at j;clear L;(go_wp2_with fail);refine(Aa B).mono ?_;rintro _ l ⟨e,rfl,EY,K⟩;have E:=Ad (Aa H) K (by simp);(have Z:Hid (∀p∈a,DW l p/\p.f.things.length<=1000):=λp d=>⟨((Aa A) p d).1.kept K,((Aa A) p d).2⟩);have AB:=Ab ((Aa F).trans K);have HA:=Ab EY;(have Ix:N<=l.heap.size:=by have:=(Aa AB).size;have:=Aa HN;omega);clear B H A F K EY d0 d1 d2 d3 d4 d5 d6 d7 d8;go_wp2_with (at_builtin;refine ay _ rfl (.tmp 17) (.tmp 22) _ rfl N 104 i0 _ 2 40 underlying113 H4 HZ H6 H3 rfl (by omega) (.slice z a.length u) a.length (a.flatMap A9) rfl (ah E _) ⟨l.heap.size,0,none⟩ 1 1 [.string an, .slice (some ⟨e,0,none⟩) c.length c.length] rfl rfl (aF (cs:=#[.string an, .slice (some ⟨e,0,none⟩) c.length c.length]) (t:=104) (fr:=(0,0)) (aS l _)) (by simp[Value.oneCell']) (by omega) (by unfold maxLen;omega) (by omega) (by simp;omega) (l.heap.size+1) (by simp) ?_;intro g1 FA w9 HB I HS HX)
    have P:Hid ((a++[Fm.mk FC (.slice (some ⟨e,0,none⟩) c.length c.length)]).map Fm.f=JL b ((ls.take (k+1)).map Prod.fst)):=by
     show _=_;rw[Aa j,bm,Aa G];rfl
    have HV:Hid (w9.ownsRow N 104 2 (.slice (some ⟨g1,0,none⟩) (a++[Fm.mk FC (.slice (some ⟨e,0,none⟩) c.length c.length)]).length FA) (a++[Fm.mk FC (.slice (some ⟨e,0,none⟩) c.length c.length)]).length ((a++[Fm.mk FC (.slice (some ⟨e,0,none⟩) c.length c.length)]).flatMap A9)):=by
     rw[aN];simp only[am,ak,aH,bf,aB,bq,aX,Aa O];exact HB
    have HY:Hid (∀p∈a++[Fm.mk FC (.slice (some ⟨e,0,none⟩) c.length c.length)],DW w9 p/\p.f.things.length<=1000):=by
     intro p d;rcases aw.1 d with h|h
     ·exact⟨DW.grown (((Aa Z) p h).1.kept ((Ac.refl [] l).alloc _)) (ah E _) I,((Aa Z) p h).2⟩
     ·simp only[ae]at h;subst h;exact⟨DW.grown ((Aa HA).kept ((Ac.refl [] l).alloc _)) (ah E _) I,Aa CL⟩
    have H2:=Ab (((Aa AB).alloc (.cells #[.string an, .slice (some ⟨e,0,none⟩) c.length c.length] 104)).grown I (λq hq=>Or.inr (by have:=(E.lt q hq).1;have:=Aa HN;omega)));clear HB I HS HX E Z AB HA j G
    go_roundg (ls.length-(k+1))
    case measure=>have:=Aa HG;omega
    case rel=>exact⟨k+1,a++[Fm.mk FC (.slice (some ⟨e,0,none⟩) c.length c.length)],some ⟨g1,0,none⟩,FA,by simp,by go_num,by omega,rfl,by simp;omega,P,HV,HY,H2⟩
   ·(have Y:(Q==0)=false:=by simp[L]);rw[Y,if_neg (by simp),aX]at j;(have P:Hid (a.map Fm.f=JL b ((ls.take (k+1)).map Prod.fst)):=by show _=_;rw[Aa j];exact Aa G);clear L j G B;go_wp2
    go_roundg (ls.length-(k+1))
    case measure=>have:=Aa HG;omega
    case rel=>exact⟨k+1,a,z,u,rfl,by go_num,by omega,rfl,by omega,P,H,A,F⟩
  ·have H8:Hid (a.map Fm.f=R):=by
    have h:=Aa G;rw[Z9 (by omega),Aa HR]at h;exact h
   go_wp2;go_ret;exact⟨z,u,a,rfl,Aa H8,⟨Ai (Aa V) (aG _),Aa J⟩,Aa D⟩
