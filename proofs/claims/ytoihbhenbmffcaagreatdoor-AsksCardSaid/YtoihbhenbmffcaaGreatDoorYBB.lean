import Derived.Deep.OwnRows
import Derived.Test.YtoihbhenbmffcaaGreatDoorYBA
import Derived.Test.YtoihbhenbmffcaaGreatDoorYAV
set_option linter.all false
set_option maxHeartbeats 0
namespace Go.Proofs.YtoihbhenbmffcaaGreatDoor
open Go.RowKit Go.Proofs.Tryz
theorem QV(z:Value)(n:Nat):(madeCells #[z] n).toList=List.replicate n z:=by
 apply List.ext_getElem
 .simp[madeCells]
 .intro i a b;simp[madeCells];rw[Nat.mod_one];rfl
def EE(b:List cR)(ts:List A3)(k:Nat):List Value:=((ts.take k).map λt=>Value.string (Bs b t))++List.replicate (ts.length-k) (.string ⟨#[]⟩)
theorem Su(b:List cR)(ts:List A3):EE b ts 0=List.replicate ts.length (.string ⟨#[]⟩):=by simp[EE]
theorem T9(b:List cR)(ts:List A3)(k:Nat)(h:k<=ts.length):(EE b ts k).length=ts.length:=by simp[EE];omega
theorem US(b:List cR)(ts:List A3)(k:Nat)(h:k<ts.length):(EE b ts k).set k (.string (Bs b ts[k]))=EE b ts (k+1):=by
 unfold EE;rw[bM h,cW,show ts.length-k=(ts.length-(k+1))+1 by omega,List.replicate_succ];rw[fQ _ _ (by simp;omega)];simp;rw[eF (by omega),Nat.sub_self];rfl
theorem UU(b:List cR)(ts:List A3):EE b ts ts.length=(ts.map (Bs b)).flatMap Ae:=by
 unfold EE;rw[eN,Nat.sub_self];simp only[List.replicate_zero,cK]
 induction ts with
 |nil=>rfl
 |cons t ts ih=>simp[Ae,ih]
set_option maxRecDepth 100000
theorem Md(A ty:Nat)(b:List cR)(f:Int)(nm:cR)(a:Option Addr)(d:Nat)(ts:List A3)(base:Nat)(w:World)(B:b.length=26)(hB:AE w A (Ai b) ty)(Z:w.ownsRow base 215 2 (.slice a ts.length d) ts.length (ts.flatMap Ao))(HO:ts.length<=100000)(hv:∀t∈ts,Nl t):
  Calls prog 196 #[.pointer (some ⟨A,0,none⟩),.agg #[.int .i64 f,.string nm,.slice a ts.length d]] w λr z=>∃g,r=.returned (.agg #[.string nm,.slice (some ⟨g,0,none⟩) ts.length ts.length])/\z.ownsRow w.heap.size 170 1 (.slice (some ⟨g,0,none⟩) ts.length ts.length) ts.length ((ts.map (Bs b)).flatMap Ae)/\Ac [] w z:=by
 obtain⟨i0,HH,CL,FF,FW⟩:=cU Tryz.gZ;have HT:Hid (∀t∈ts,∀n,Ac [] w n->Calls prog 180 #[.pointer (some ⟨A,0,none⟩),.agg #[.int .i32 t.v,.string t.s]] n λr z=>r=.returned (.string (Bs b t))/\Ac [] n z):=λt ht n G=>JO A ty b t n B (hB.kept G (by simp)) (hv t ht)
 have HF:=Ab Z;obtain⟨N,x⟩:∃N,w.heap.size=N:=⟨_,rfl⟩;have j:Hid (AE ((w.alloc (.cells #[.int .i64 f,.string nm,.slice a ts.length d] 187)).alloc (.cells #[.string ⟨#[]⟩,.slice none 0 0] 104)) N [.int .i64 f,.string nm,.slice a ts.length d] 187):=by rw[<-x];exact(AE.new w [.int .i64 f,.string nm,.slice a ts.length d] 187).alloc _
 have c:Hid (AE ((w.alloc (.cells #[.int .i64 f,.string nm,.slice a ts.length d] 187)).alloc (.cells #[.string ⟨#[]⟩,.slice none 0 0] 104)) (N+1) [.string ⟨#[]⟩,.slice none 0 0] 104):=by
  have h:=AE.new (w.alloc (.cells #[.int .i64 f,.string nm,.slice a ts.length d] 187)) [.string ⟨#[]⟩,.slice none 0 0] 104;simp only[cD,x]at h;exact h
 have L:=Ab (((Ac.refl [] w).alloc (.cells #[.int .i64 f,.string nm,.slice a ts.length d] 187)).alloc (.cells #[.string ⟨#[]⟩,.slice none 0 0] 104));have o:=Ab x;clear Z hv hB;go_enter func196,ntmps196;apply wp_seq_k;intro KK W;have O:=Ab W;clear W;go_wp2;refine Aa O _ _ ?_;clear O KK;rw[x];clear x;have J:((w.alloc (.cells #[.int .i64 f,.string nm,.slice a ts.length d] 187)).alloc (.cells #[.string ⟨#[]⟩,.slice none 0 0] 104)).heap.size=N+1+1:=by simp;exact Aa o
 generalize(w.alloc (.cells #[.int .i64 f,.string nm,.slice a ts.length d] 187)).alloc (.cells #[.string ⟨#[]⟩,.slice none 0 0] 104)=w1 at j c L J⊢;have X:=(Aa j).cell 2;simp at X;go_wp2_with ((with_reducible show wpList _ _ _ ({dst:=_,op:=Op.makeSlice 102 _ _,type:=_,pos:=_,after:=_,guard:=_}::_) _ _);refine wpList_make_row _ rfl _ _ 102 rfl 170 i0 _ underlying102 HH CL FF rfl .i64 .i64 ts.length (by rfl) (by rfl) (by rw[FW];omega) (by omega) ?_)
 have l:Hid ((w1.alloc (.cells (madeCells #[.string ⟨#[]⟩] ts.length) 170)).ownsRow (N+1+1) 170 1 (.slice (some ⟨N+1+1,0,none⟩) ts.length ts.length) ts.length (EE b ts 0)):=by
  have h:=fM (e:=170) (size:=1) (base:=N+1+1) w1 (madeCells #[.string ⟨#[]⟩] ts.length) ts.length (by omega) (by unfold maxLen;omega) (by rw[size_madeCells];omega);rw[QV,J]at h;rw[Su];exact h
 have M:=Ab ((Aa j).alloc (.cells (madeCells #[.string ⟨#[]⟩] ts.length) 170));have F:=Ab ((Aa c).alloc (.cells (madeCells #[.string ⟨#[]⟩] ts.length) 170));have m:=Ab ((Aa L).alloc (.cells (madeCells #[.string ⟨#[]⟩] ts.length) 170));clear j c L X J;generalize w1.alloc (.cells (madeCells #[.string ⟨#[]⟩] ts.length) 170)=w2 at l M F m⊢
 go_loopg [15] ts.length (λgk i wr=>∃(k:Nat),i=.int .i64 k/\k<=ts.length/\gk=ts.length-k/\Hid (wr.ownsRow (N+1+1) 170 1 (.slice (some ⟨N+1+1,0,none⟩) ts.length ts.length) ts.length (EE b ts k))/\Hid (AE wr N [.int .i64 f,.string nm,.slice a ts.length d] 187)/\Hid (AE wr (N+1) [.string ⟨#[]⟩,.slice none 0 0] 104)/\Hid (Ac [] w wr))
 case atStart=>exact⟨0,rfl,by omega,rfl,l,M,F,m⟩
 case round=>
  clear l M F m;obtain⟨k,rfl,G,S,l,j,c,u⟩:=hrel;have HG:=Ab S;clear S;by_cases y:k<ts.length
  .obtain⟨g,HM,he,Y,R⟩:=Eu (Ad (Aa HF) (Aa u) (by simp)) k y;simp only[bK]at he;obtain⟨rfl,_,rfl⟩:=he;obtain⟨T,E⟩:∃T,ts[k]=T:=⟨_,rfl⟩;have m:=Ab ((Aa u).alloc (.cells #[.int .i32 T.v,.string T.s] 215));have I:=Ab (Aa HT T (by rw[<-E];exact bL y) _ (Aa m));(have K:Hid ((EE b ts k).set k (.string (Bs b T))=EE b ts (k+1)):=by rw[<-E];exact US b ts k y);rw[E]at Y R;obtain⟨V,hV⟩:∃V,Bs b T=V:=⟨_,rfl⟩;rw[hV]at I K;clear E hV;(have HP:(0:Int)<=(k:Int):=by omega);(have HQ:(k:Int)<(ts.length:Int):=by omega);(go_wp2_with fail);refine(Aa I).mono ?_;rintro _ Q ⟨rfl,H⟩;have C:Ac [] wr Q:=((Ac.refl [] wr).alloc _).trans H;have D:=Ad (Aa l) C (by simp);have B9:=Ab ((Aa j).kept C (by simp));have P:=Ab ((Aa c).kept C (by simp));have Bx:=Ab ((Aa m).trans H);have y0:=D.cellAt k (by omega);have yf:=D.frozenAt k;(have BA:k<(EE b ts k).length:=by rw[T9 b ts k G];exact y);rw[bW BA]at y0;generalize(EE b ts k)[k]=U at y0;have HA:Hid ((Q.setCell ⟨N+1+1,k,none⟩ (.string V)).ownsRow (N+1+1) 170 1 (.slice (some ⟨N+1+1,0,none⟩) ts.length ts.length) ts.length (EE b ts (k+1))):=by
    rw[<-Aa K];exact Ds D k _
   have HD:=Ab ((Aa B9).dT ⟨N+1+1,k,none⟩ (show N+1+1≠N by omega) (.string V));have HB:=Ab ((Aa P).dT ⟨N+1+1,k,none⟩ (show N+1+1≠N+1 by omega) (.string V));have EY:=Ab ((Aa Bx).setCell (p:=⟨N+1+1,k,none⟩) (Or.inr (by have:=Aa o;show _<=N+1+1;omega)) (.string V));clear I m u H C D Y R j c l B9 P Bx K BA;go_wp2
   go_roundg (ts.length-(k+1))
   case measure=>have:=Aa HG;omega
   case rel=>exact⟨k+1,by go_num,by omega,rfl,HA,HD,HB,EY⟩
  ·(have FO:k=ts.length:=by omega);subst FO;have c1:=(Aa j).cell 1;have e0:=(Aa c).cell 0;have e1:=(Aa c).cell 1;have ef:=(Aa c).frozen;simp at c1 e0 e1;have Go:Hid (AE ((wr.setCell ⟨N+1,0,none⟩ (.string nm)).setCell ⟨N+1,1,none⟩ (.slice (some ⟨N+1+1,0,none⟩) ts.length ts.length)) (N+1) [.string nm,.slice (some ⟨N+1+1,0,none⟩) ts.length ts.length] 104):=((Aa c).set 0 _).set 1 _;have Ha:Hid (((wr.setCell ⟨N+1,0,none⟩ (.string nm)).setCell ⟨N+1,1,none⟩ (.slice (some ⟨N+1+1,0,none⟩) ts.length ts.length)).ownsRow N 170 1 (.slice (some ⟨N+1+1,0,none⟩) ts.length ts.length) ts.length ((ts.map (Bs b)).flatMap Ae)):=by
    have h:=Aa l;rw[UU]at h;(have B:∀q,(Value.slice (some ⟨N+1+1,0,none⟩) ts.length ts.length).ownBlock=some q->q≠N+1:=λq hq=>by have:=(h.lt q hq).1;omega);exact Ak (Ag (Ag h (λh=>B _ h rfl) _) (λh=>B _ h rfl) _) (by have:=Aa o;omega)
   have FA:=Ab (((Aa u).setCell (p:=⟨N+1,0,none⟩) (Or.inr (by have:=Aa o;show _<=N+1;omega)) (.string nm)).setCell (p:=⟨N+1,1,none⟩) (Or.inr (by have:=Aa o;show _<=N+1;omega)) (.slice (some ⟨N+1+1,0,none⟩) ts.length ts.length));clear j c l u;go_wp2;exact cB (BL rfl rfl (Aa Go) underlying104 rfl (by kernel_rfl)) rfl ⟨N+1+1,rfl,Aa Ha,Aa FA⟩
theorem By{P:Program}{ops:Array Oper}{e:List Oper}{op:Oper}{a:Act}{w:World}{Q:Exit->Act->World->Prop}(g:Region.wanted op (yielded ops a.tmps)=true)(c:TypeId)(x:Operand)(i:op.op=.load c x)
  (b o:Nat) (n:a.eval x=.pointer (some ⟨b,o,none⟩)) (cs:List Value) (d:TypeDesc) (l:w.rangeAt b o cs)
  (k:P.underlying c=some d) (f:d.isRow=true) (m:(P.info? c).map (·.size)=some cs.length)
  (h:wpList P ops Q e (a.put op.dst (.agg cs.toArray)) w):wpList P ops Q (op::e) a w:=
 wpList_step λK j=>by rw[if_pos g];exact wp_load_mid c x i b o n cs d l k f m (j _ _ h)
def Es(b:List cR)(x:PL):Ev:=⟨x.an,x.ts.map (Bs b)⟩
def I4(fs:List Gm)(b:List cR)(x:PL)(B:Bool):Prop:=
 if x.sort=0 then∃p,GI fs (Es b x) p/\B=EQ fs (Es b x) p
 else if x.sort=1 then∃p,GI fs (Es b x) p/\B= !EQ fs (Es b x) p
 else if x.sort=2 then B=((Bs b x.l).toList==(Bs b x.r).toList)
 else if x.sort=3 then B= !((Bs b x.l).toList==(Bs b x.r).toList)
 else B=Op.bytesLess (Bs b x.l).toList (Bs b x.r).toList
structure M8(w:World)(sp kb ko:Nat)(bv ov:Value)(sad:Option Addr)(scp:Nat)(fs:List Gm):Prop where
 gA:AE w sp [.pointer (some ⟨kb,ko,none⟩),bv,ov] 237
 set:w.cell? ⟨kb,ko,none⟩=some (.slice sad fs.length scp)
 facts:KQ w (.slice sad fs.length scp) fs
theorem M8.kept{w w':World}{a e c:Nat}{i f:Value}{g:Option Addr}{b:Nat}{d:List Gm}(h:M8 w a e c i f g b d)(k:Ac [] w w'):M8 w' a e c i f g b d:=⟨h.gA.kept k (by simp),k.cellAt h.set,h.facts.kept k⟩
theorem Un(U R Q:Nat)(bv ov:Value)(HZ:Option Addr)(HP:Nat)(k:List Gm)(x:PL)(m:Option Addr)(n:Nat)(b:List cR)(w:World)(K:b.length=26)(hS:M8 w U R Q bv ov HZ HP k)(hx:Jf w 0 (x,.slice m x.ts.length n))(K3:k.length<=900000)(JA:x.ts.length<=1000)(HS:∀t∈x.ts,Nl t)(HV:Nl x.l)(HL:Nl x.r)
  (HQ:∀i j (hi:i<k.length) (hj:j<k.length),i<=j->Cc k[j].f (Es b x)<0->Cc k[i].f (Es b x)<0):
  Calls prog 205 #[.pointer (some ⟨U,0,none⟩),.agg (Aq (x,.slice m x.ts.length n)).toArray,.agg (Ai b).toArray] w λr D=>∃B,r=.returned (.bool B)/\I4 k b x B/\Ac [] w D:=by
 have HH:=Ab hS;have ES:Hid (∀d a,Ac [] w a->AE a d (Ai b) 243->Calls prog 196 #[.pointer (some ⟨d,0,none⟩),.agg #[.int .i64 x.ap,.string x.an,.slice m x.ts.length n]] a λr D=>∃g,r=.returned (.agg #[.string x.an,.slice (some ⟨g,0,none⟩) x.ts.length x.ts.length])/\D.ownsRow a.heap.size 170 1 (.slice (some ⟨g,0,none⟩) x.ts.length x.ts.length) x.ts.length ((x.ts.map (Bs b)).flatMap Ae)/\Ac [] a D):=λd a H P=>Md d 243 b x.ap x.an m n x.ts 0 a K P (Ad hx H (by simp)) (by omega) HS
 have FP:Hid (∀g a,Ac [] w a->a.ownsRow 0 170 1 (.slice (some ⟨g,0,none⟩) x.ts.length x.ts.length) x.ts.length ((x.ts.map (Bs b)).flatMap Ae)->Calls prog 60 #[.pointer (some ⟨R,Q,none⟩),.agg #[.string x.an,.slice (some ⟨g,0,none⟩) x.ts.length x.ts.length]] a λe D=>∃p:Nat,e=.returned (.bool (EQ k (Es b x) p))/\GI k (Es b x) p/\Ac [] a D):=by
  intro g a H hr;have HJ:=hS.kept H;have H3:Ec a ⟨Es b x,.slice (some ⟨g,0,none⟩) x.ts.length x.ts.length⟩:=by
   show a.ownsRow 0 170 1 _ (x.ts.map (Bs b)).length _;rw[bX];exact hr
  exact Qd R Q HZ HP k ⟨Es b x,.slice (some ⟨g,0,none⟩) x.ts.length x.ts.length⟩ a HJ.set HJ.facts H3 (by show(x.ts.map (Bs b)).length<=1000;rw[bX];exact JA) (by omega) HQ
 have HT:Hid (∀d (t:A3) a,Nl t->AE a d (Ai b) 243->Calls prog 180 #[.pointer (some ⟨d,0,none⟩),.agg #[.int .i32 t.v,.string t.s]] a λr D=>r=.returned (.string (Bs b t))/\Ac [] a D):=λd t a hv P=>JO d 243 b t a K P hv
 have HX:=Ab HV;have HF:=Ab HL;have J:Hid (∀B,I4 k b x B=(if x.sort=0 then∃p,GI k (Es b x) p/\B=EQ k (Es b x) p
 else if x.sort=1 then∃p,GI k (Es b x) p/\B= !EQ k (Es b x) p
 else if x.sort=2 then B=((Bs b x.l).toList==(Bs b x.r).toList)
 else if x.sort=3 then B= !((Bs b x.l).toList==(Bs b x.r).toList)
 else B=Op.bytesLess (Bs b x.l).toList (Bs b x.r).toList)):=λB=>rfl
 generalize Es b x=FC at FP J;generalize I4 k b x=HC at J⊢;have hc:=Bo b;have hl:(Ai b).length=26:=by unfold Ai;simp[K]
 obtain⟨E,hE⟩:∃E,Ai b=E:=⟨_,rfl⟩;rw[hE]at hc hl ES HT⊢;clear hS hx HS HV HL HQ hE;obtain⟨L,c,G,F,C,⟨y,o⟩,⟨q,u⟩⟩:=x;simp only[Aq]at*;have EX:Hid (∀d a,AE a d E 243->Calls prog 180 #[.pointer (some ⟨d,0,none⟩),.agg #[.int .i32 y,.string o]] a λr D=>r=.returned (.string (Bs b ⟨y,o⟩))/\Ac [] a D):=λd a P=>Aa HT d ⟨y,o⟩ a (Aa HX) P
 have FW:Hid (∀d a,AE a d E 243->Calls prog 180 #[.pointer (some ⟨d,0,none⟩),.agg #[.int .i32 q,.string u]] a λr D=>r=.returned (.string (Bs b ⟨q,u⟩))/\Ac [] a D):=λd a P=>Aa HT d ⟨q,u⟩ a (Aa HF) P
 generalize Bs b ⟨y,o⟩=VL at EX J;generalize Bs b ⟨q,u⟩=VR at FW J;clear HT HX HF;have V:Hid (AE ((w.alloc (.cells [.int .i64 L,.int .i64 c,.int .i64 G,.string F,.slice m C.length n,.int .i32 y,.string o,.int .i32 q,.string u].toArray 217)).alloc (.cells E.toArray 243)) w.heap.size [.int .i64 L,.int .i64 c,.int .i64 G,.string F,.slice m C.length n,.int .i32 y,.string o,.int .i32 q,.string u] 217):=(AE.new w [.int .i64 L,.int .i64 c,.int .i64 G,.string F,.slice m C.length n,.int .i32 y,.string o,.int .i32 q,.string u] 217).alloc _;have W:Hid (AE ((w.alloc (.cells [.int .i64 L,.int .i64 c,.int .i64 G,.string F,.slice m C.length n,.int .i32 y,.string o,.int .i32 q,.string u].toArray 217)).alloc (.cells E.toArray 243)) (w.heap.size+1) E 243):=by
  have h:=AE.new (w.alloc (.cells [.int .i64 L,.int .i64 c,.int .i64 G,.string F,.slice m C.length n,.int .i32 y,.string o,.int .i32 q,.string u].toArray 217)) E 243;simp only[cD]at h;exact h
 have HK:=Ab (((Ac.refl [] w).alloc (.cells [.int .i64 L,.int .i64 c,.int .i64 G,.string F,.slice m C.length n,.int .i32 y,.string o,.int .i32 q,.string u].toArray 217)).alloc (.cells E.toArray 243));go_enter func205,ntmps205;apply wp_seq_k;intro KK HY;have HE:=Ab HY;clear HY;go_wp2;refine Aa HE _ _ ?_;clear HE KK;change Code.wp _ _ _ _ ((w.alloc (.cells [.int .i64 L,.int .i64 c,.int .i64 G,.string F,.slice m C.length n,.int .i32 y,.string o,.int .i32 q,.string u].toArray 217)).alloc (.cells E.toArray 243));generalize((w.alloc (.cells [.int .i64 L,.int .i64 c,.int .i64 G,.string F,.slice m C.length n,.int .i32 y,.string o,.int .i32 q,.string u].toArray 217)).alloc (.cells E.toArray 243))=w1 at V W HK⊢;generalize w.heap.size=N at V W⊢;have HU:Hid (∀a,Ac [] w1 a->a.cell? ⟨N,5,none⟩=some (.int .i32 y)/\a.cell? ⟨N,6,none⟩=some (.string o)/\a.cell? ⟨N,7,none⟩=some (.int .i32 q)/\a.cell? ⟨N,8,none⟩=some (.string u)):=by
  intro a H;have K:=(Aa V).kept H (by simp);have c5:=K.cell 5;have c6:=K.cell 6;have c7:=K.cell 7;have c8:=K.cell 8;simp at c5 c6 c7 c8;exact⟨c5,c6,c7,c8⟩
 go_wp2_with fail
 go_region_held3 (λa=>Ac [] w1 a/\a.cell? ⟨N,5,none⟩=some (.int .i32 y)/\a.cell? ⟨N,6,none⟩=some (.string o)/\a.cell? ⟨N,7,none⟩=some (.int .i32 q)/\a.cell? ⟨N,8,none⟩=some (.string u)) ((go_split_ands;refine(fun(M:Ac [] w1 _)=>And.intro M (Aa HU _ M)) ?_;repeat (first|assumption|exact Ac.refl [] _|refine Ac.drew ?_|refine Ac.alloc ?_ _))) ((go_at_call 180;first
  |((with_reducible show Calls _ _ #[_,Value.agg #[Value.int .i32 y,Value.string o]] _ _);refine(Aa EX (N+1) _ ((Aa W).kept (by go_split_ands;assumption) (by simp))).mono ?_;rintro _ w3 ⟨rfl,k3⟩;have Jx:Ac [] w1 w3:=(by go_split_ands;exact Ac.trans (by assumption) k3);clear k3)
  |((with_reducible show Calls _ _ #[_,Value.agg #[Value.int .i32 q,Value.string u]] _ _);refine(Aa FW (N+1) _ ((Aa W).kept (by go_split_ands;assumption) (by simp))).mono ?_;rintro _ z ⟨rfl,k4⟩;have O:Ac [] w1 z:=(by go_split_ands;exact Ac.trans (by assumption) k4);clear k4)))
 rename_i Ix;clear Ix Jx EX FW HU;have d1:=((Aa V).kept O (by simp)).cell 1;simp at d1;by_cases S:c=0
 .have K1:(c==0)=true:=by simp[S]
  have I:=(Aa V).kept O (by simp);have q2:=I.cell 2;have Y:=I.cell 3;have q4:=I.cell 4;simp at q2 Y q4;have A:Hid (Ac [] w z):=(Aa HK).trans O;have HA:Hid (∀a,Ac [] z a->a.cell? ⟨U,0,none⟩=some (.pointer (some ⟨R,Q,none⟩))/\a.cell? ⟨N,2,none⟩=some (.int .i64 G)/\a.cell? ⟨N,3,none⟩=some (.string F)/\a.cell? ⟨N,4,none⟩=some (.slice m C.length n)):=by
   intro a H;have Z:=((Aa HH).kept ((Aa A).trans H)).gA.cell 0;have T:=I.kept H (by simp);have r2:=T.cell 2;have r3:=T.cell 3;have r4:=T.cell 4;simp at Z r2 r3 r4;exact⟨Z,r2,r3,r4⟩
  have FL:=Ab ((Aa W).kept O (by simp));clear I q2 Y q4;go_wp2_with fail
  go_region_held3 (λa=>Ac [] z a/\a.cell? ⟨U,0,none⟩=some (.pointer (some ⟨R,Q,none⟩))/\a.cell? ⟨N,2,none⟩=some (.int .i64 G)/\a.cell? ⟨N,3,none⟩=some (.string F)/\a.cell? ⟨N,4,none⟩=some (.slice m C.length n)) ((go_split_ands;refine(fun(M:Ac [] z _)=>And.intro M (Aa HA _ M)) ?_;repeat (first|assumption|exact Ac.refl [] _|refine Ac.drew ?_|refine Ac.alloc ?_ _))) ((first
   |(go_at_call 196;refine(Aa ES (N+1) _ ((Aa A).trans (by go_split_ands;assumption)) ((Aa FL).kept (by go_split_ands;assumption) (by simp))).mono ?_;rintro _ w5 ⟨g5,rfl,AB,k5⟩;have H9:Ac [] z w5:=(by go_split_ands;exact Ac.trans (by assumption) k5);have Ha:=Ab (Ak AB (b8 _));clear k5 AB)
   |(go_at_call 60;refine(Aa FP g5 _ ((Aa A).trans (by go_split_ands;assumption)) (Aa Ha)).mono ?_;rintro _ w6 ⟨p6,rfl,hcut,k6⟩;have FA:Ac [] z w6:=(by go_split_ands;exact Ac.trans (by assumption) k6);have FO:=Ab hcut;clear k6 hcut)))
  go_wp2;go_ret;refine⟨_,rfl,?_,(Aa A).trans FA⟩;rw[Aa J];rw[if_pos S];exact⟨p6,Aa FO,rfl⟩
 .have K1:(c==0)=false:=by simp[S]
  by_cases X:c=1
  ·(have KD:(c==1)=true:=by simp[X]);have I:=(Aa V).kept O (by simp);have q2:=I.cell 2;have Y:=I.cell 3;have q4:=I.cell 4;simp at q2 Y q4;have A:Hid (Ac [] w z):=(Aa HK).trans O;have HA:Hid (∀a,Ac [] z a->a.cell? ⟨U,0,none⟩=some (.pointer (some ⟨R,Q,none⟩))/\a.cell? ⟨N,2,none⟩=some (.int .i64 G)/\a.cell? ⟨N,3,none⟩=some (.string F)/\a.cell? ⟨N,4,none⟩=some (.slice m C.length n)):=by
    intro a H;have Z:=((Aa HH).kept ((Aa A).trans H)).gA.cell 0;have T:=I.kept H (by simp);have r2:=T.cell 2;have r3:=T.cell 3;have r4:=T.cell 4;simp at Z r2 r3 r4;exact⟨Z,r2,r3,r4⟩
   have FL:=Ab ((Aa W).kept O (by simp));clear I q2 Y q4;go_wp2_with fail
   go_region_held3 (λa=>Ac [] z a/\a.cell? ⟨U,0,none⟩=some (.pointer (some ⟨R,Q,none⟩))/\a.cell? ⟨N,2,none⟩=some (.int .i64 G)/\a.cell? ⟨N,3,none⟩=some (.string F)/\a.cell? ⟨N,4,none⟩=some (.slice m C.length n)) ((go_split_ands;refine(fun(M:Ac [] z _)=>And.intro M (Aa HA _ M)) ?_;repeat (first|assumption|exact Ac.refl [] _|refine Ac.drew ?_|refine Ac.alloc ?_ _))) ((first
    |(go_at_call 196;refine(Aa ES (N+1) _ ((Aa A).trans (by go_split_ands;assumption)) ((Aa FL).kept (by go_split_ands;assumption) (by simp))).mono ?_;rintro _ w5 ⟨g5,rfl,AB,k5⟩;have H9:Ac [] z w5:=(by go_split_ands;exact Ac.trans (by assumption) k5);have Ha:=Ab (Ak AB (b8 _));clear k5 AB)
    |(go_at_call 60;refine(Aa FP g5 _ ((Aa A).trans (by go_split_ands;assumption)) (Aa Ha)).mono ?_;rintro _ w6 ⟨p6,rfl,hcut,k6⟩;have FA:Ac [] z w6:=(by go_split_ands;exact Ac.trans (by assumption) k6);have FO:=Ab hcut;clear k6 hcut)))
   go_wp2;go_ret;refine⟨_,rfl,?_,(Aa A).trans FA⟩;rw[Aa J];rw[if_neg S,if_pos X];exact⟨p6,Aa FO,rfl⟩
  ·(have KD:(c==1)=false:=by simp[X]);have A:Hid (Ac [] w z):=(Aa HK).trans O;by_cases h2:c=2
   ·(have H7:(c==2)=true:=by simp[h2]);go_wp2;go_ret;refine⟨_,rfl,?_,Aa A⟩;rw[Aa J,if_neg S,if_neg X,if_pos h2]
   ·(have H7:(c==2)=false:=by simp[h2]);by_cases h3:c=3
    ·(have H1:(c==3)=true:=by simp[h3]);go_wp2;go_ret;refine⟨_,rfl,?_,Aa A⟩;rw[Aa J,if_neg S,if_neg X,if_neg h2,if_pos h3]
    ·(have H1:(c==3)=false:=by simp[h3]);go_wp2;go_ret;refine⟨_,rfl,?_,Aa A⟩;rw[Aa J,if_neg S,if_neg X,if_neg h2,if_neg h3]
def EM(fs:List Gm)(b:List cR):List PL->Bool->Prop
 |[],B=>B=false
 |x::l,B=>if FZ b (AI x)then∃H,I4 fs b x H/\(if H then EM fs b l B else B=true)else EM fs b l B
theorem RQ{w:World}{base:Nat}{C:Value}{ls:List JF}(h:BI w base C ls)(k:Nat)(a:k<ls.length):
  ∃g n x d f,C=.slice (some ⟨g,0,none⟩) ls.length n/\ls[k]=(x,.slice d x.ts.length f)/\Jf w base (x,.slice d x.ts.length f)/\
   w.cell? ⟨g,k*9,none⟩=some (.int .i64 x.place)/\w.cell? ⟨g,k*9+1,none⟩=some (.int .i64 x.sort)/\w.cell? ⟨g,k*9+2,none⟩=some (.int .i64 x.ap)/\w.cell? ⟨g,k*9+3,none⟩=some (.string x.an)/\w.cell? ⟨g,k*9+4,none⟩=some (.slice d x.ts.length f)/\
   w.cell? ⟨g,k*9+5,none⟩=some (.int .i32 x.l.v)/\w.cell? ⟨g,k*9+6,none⟩=some (.string x.l.s)/\w.cell? ⟨g,k*9+7,none⟩=some (.int .i32 x.r.v)/\w.cell? ⟨g,k*9+8,none⟩=some (.string x.r.s):=by
 obtain⟨g,n,D,_,b⟩:=Av h.row (λc _=>rfl) k a;have u:=(h.each _ (bL a)).1;have t:=b k a 0 (by omega);have m:=b k a 1 (by omega);have i:=b k a 2 (by omega);have j:=b k a 3 (by omega);have A:=b k a 4 (by omega);have y:=b k a 5 (by omega);have q:=b k a 6 (by omega);have o:=b k a 7 (by omega);have z:=b k a 8 (by omega);obtain⟨⟨x,E⟩,B⟩:∃p,ls[k]=p:=⟨_,rfl⟩;rw[B]at t m i j A y q o z u;obtain⟨d,f,e⟩:=Aj u;simp only at e;subst e;simp[Aq]at t m i j A y q o z;exact⟨g,n,x,d,f,D,B,u,t,m,i,j,A,y,q,o,z⟩
structure Np(x:PL):Prop where
 len:x.ts.length<=1000
 ts:∀t∈x.ts,Nl t
 l:Nl x.l
 r:Nl x.r
theorem Np.gC{x:PL}(h:Np x):(∀t∈AI x,Nl t)/\(AI x).length<=100000:=by
 unfold AI;split
 .exact⟨h.ts,by have:=h.len;omega⟩
 .refine⟨λt a=>?_,by simp⟩;simp only[bS,di,or_false]at a;rcases a with rfl|rfl
  .exact h.l
  .exact h.r
theorem U9(I kb ko:Nat)(HH:Option Addr)(CL:Nat)(ls:List JF)(ov:Value)(H5:Option Addr)(HP:Nat)(c:List Gm)(b:List cR)(w:World)(R:b.length=26)(hS:M8 w I kb ko (.slice HH ls.length CL) ov H5 HP c)(K:BI w 0 (.slice HH ls.length CL) ls)(JJ:c.length<=900000)(Mo:ls.length<=1000)(hl:∀p∈ls,Np p.1)
  (H0:∀(X:Ev) i j (hi:i<c.length) (hj:j<c.length),i<=j->Cc c[j].f X<0->Cc c[i].f X<0):
  Calls prog 177 #[.pointer (some ⟨I,0,none⟩),.agg (Ai b).toArray] w λr u=>∃B,r=.returned (.bool B)/\EM c b (ls.map Prod.fst) B/\Ac [] w u:=by
 have KS:=Ab hS;have HS:=Ab K;have KD:Hid (∀(x:PL) d m a,Ac [] w a->Jf w 0 (x,.slice d x.ts.length m)->Calls prog 137 #[.agg (Aq (x,.slice d x.ts.length m)).toArray] a λe u=>∃H6 HM,e=.returned (.slice H6 (AI x).length HM)/\u.ownsRow 0 215 2 (.slice H6 (AI x).length HM) (AI x).length ((AI x).flatMap Ao)/\Ac [] a u):=λx d m a v T=>KN x d m a (T.kept v (by simp))
 have Jx:Hid (∀G (x:PL) d m a,Np x->AE a G (Ai b) 243->a.ownsRow 0 215 2 (.slice d (AI x).length m) (AI x).length ((AI x).flatMap Ao)->Calls prog 204 #[.pointer (some ⟨G,0,none⟩),.slice d (AI x).length m] a λr u=>r=.returned (.bool (FZ b (AI x)))/\Ac [] a u):=λG x d m a o K hr=>SE G 243 b d m (AI x) 0 a R K hr o.gC.2 o.gC.1
 have Ha:Hid (∀(x:PL) d m a,Ac [] w a->Np x->Jf w 0 (x,.slice d x.ts.length m)->Calls prog 205 #[.pointer (some ⟨I,0,none⟩),.agg (Aq (x,.slice d x.ts.length m)).toArray,.agg (Ai b).toArray] a λr u=>∃B,r=.returned (.bool B)/\I4 c b x B/\Ac [] a u):=λx d m a v o T=>Un I kb ko _ ov H5 HP c x d m b a R (hS.kept v) (T.kept v (by simp)) JJ o.len o.ts o.l o.r (H0 _)
 have K5:=Ab hl;have o:=Bo b;have HQ:(Ai b).length=26:=by unfold Ai;simp[R]
 have FP:=Ab HQ;obtain⟨E,hE⟩:∃E,Ai b=E:=⟨_,rfl⟩;rw[hE]at o HQ FP Jx Ha⊢;have A:=Ab (AE.new w E 243);have s:=Ab ((Ac.refl [] w).alloc (.cells E.toArray 243));clear hE hS K hl H0;obtain⟨t,AT⟩:∃t:Bool->Prop,t=EM c b (ls.map Prod.fst):=⟨_,rfl⟩;have D:Hid (∀B,EM c b ((ls.drop 0).map Prod.fst) B->t B):=λB h=>by rw[AT];exact h
 rw[<-AT];clear AT;go_enter func177,ntmps177;apply wp_seq_k;intro KK H4;have CC:=Ab H4;clear H4;go_wp2;refine Aa CC _ _ ?_;clear CC KK;generalize w.alloc (.cells E.toArray 243)=w1 at A s⊢;generalize w.heap.size=N at A⊢;have s1:=((Aa KS).kept (Aa s)).gA.cell 1;simp at s1;go_wp2_with fail
 go_loopg [12] ls.length (λgk i wr=>∃(k:Nat),i=.int .i64 k/\k<=ls.length/\gk=ls.length-k/\Hid (∀B,EM c b ((ls.drop k).map Prod.fst) B->t B)/\Hid (AE wr N E 243)/\Hid (Ac [] w wr))
 case atStart=>exact⟨0,rfl,by omega,rfl,D,A,s⟩
 case round=>
  clear D A s s1;obtain⟨k,rfl,v,H3,D,A,s⟩:=hrel;have HG:=Ab H3;clear H3;by_cases U:k<ls.length
  .obtain⟨g,MB,x,y,C,he,S,_,d0,d1,d2,d3,d4,d5,d6,d7,d8⟩:=RQ ((Aa HS).kept (Aa s) (by simp)) k U;simp only[bK]at he;obtain⟨rfl,_,rfl⟩:=he;(have Y:(x,Value.slice y x.ts.length C)∈ls:=by rw[<-S];exact bL U);have Z:=Aa K5 _ Y;have V:Jf w 0 (x,.slice y x.ts.length C):=((Aa HS).each _ Y).1;have q:Hid (∀B,(if FZ b (AI x)then∃H,I4 c b x H/\(if H then EM c b ((ls.drop (k+1)).map Prod.fst) B else B=true)else EM c b ((ls.drop (k+1)).map Prod.fst) B)->t B):=by
    intro B h;refine Aa D B ?_;rw[ci U,cu,S];exact h
   have M:=Ab ((Aa s).alloc (.cells (Aq (x,.slice y x.ts.length C)).toArray 217));have AO:=Ab ((Aa A).alloc (.cells (Aq (x,.slice y x.ts.length C)).toArray 217));have AB:=Ab (AE.new wr (Aq (x,.slice y x.ts.length C)) 217);have J:=Ab (Aa KD x y C _ (Aa M) V);have W:=Ab (λd m a=>Aa Jx N x d m a Z);have F:=Ab (λa v=>Aa Ha x y C a v Z V);generalize AI x=TL at J W q;generalize I4 c b x=HX at F q;obtain⟨pl,so,ap,an,ts,⟨lv,LL⟩,⟨rv,MN⟩⟩:=x;simp only[Aq]at M AO AB J F d0 d1 d2 d3 d4 d5 d6 d7 d8;clear S Y Z V D;(go_wp2_with fail);refine(Aa J).mono ?_;rintro _ w3 ⟨JA,K3,rfl,HC,L⟩;have HZ:=Ab ((Aa M).trans L);have Ax:=Ab ((Aa AO).kept L (by simp));have HF:=Ab ((Aa AB).kept L (by simp));have H2:=Ab (Aa W JA K3 w3 (Aa Ax) HC);clear J W M AO AB HC L d0 d1 d2 d3 d4 d5 d6 d7 d8 s A;(go_wp2_with fail);refine(Aa H2).mono ?_;rintro _ w4 ⟨rfl,P⟩;have Q:=Ab ((Aa HZ).trans P);have O:=Ab ((Aa Ax).kept P (by simp));have n:=(Aa HF).kept P (by simp);have e0:=n.cell 0;have e1:=n.cell 1;have e2:=n.cell 2;have e3:=n.cell 3;have e4:=n.cell 4;have e5:=n.cell 5;have e6:=n.cell 6;have e7:=n.cell 7;have e8:=n.cell 8;simp at e0 e1 e2 e3 e4 e5 e6 e7 e8;clear H2 HZ Ax HF P n;obtain⟨ST,EK⟩:∃ST,FZ b TL=ST:=⟨_,rfl⟩;rw[EK]at q⊢;clear EK;cases ST with
   |false=>
    (have z:Hid (∀B,EM c b ((ls.drop (k+1)).map Prod.fst) B->t B):=λB h=>Aa q B (by rw[if_neg (by simp)];exact h));clear q F;go_wp2
    go_roundg (ls.length-(k+1))
    case measure=>have:=Aa HG;omega
    case rel=>exact⟨k+1,by go_num,by omega,rfl,z,O,Q⟩
   |true=>
    have FF:=Ab (Aa F w4 (Aa Q));clear F;go_wp2_with ((with_reducible show wpList _ _ _ ({dst:=_,op:=Op.load 243 _,type:=_,pos:=_,after:=_,guard:=_}::_) _ _);refine By (by rfl) 243 _ rfl N 0 (by rfl) E _ (Aa O).range underlying243 rfl (by rw[Aa FP];exact Tryz.ea) ?_)
    refine(Aa FF).mono ?_;rintro _ w5 ⟨HB,rfl,ES,k5⟩;have HV:=Ab ((Aa Q).trans k5);have K7:=Ab ((Aa O).kept k5 (by simp));have H7:=Ab ES;clear FF k5 ES Q O e0 e1 e2 e3 e4 e5 e6 e7 e8;cases HB with
    |true=>
     (have z:Hid (∀B,EM c b ((ls.drop (k+1)).map Prod.fst) B->t B):=λB h=>Aa q B (by rw[if_pos True.intro];exact⟨true,Aa H7,h⟩));clear q;go_wp2
     go_roundg (ls.length-(k+1))
     case measure=>have:=Aa HG;omega
     case rel=>exact⟨k+1,by go_num,by omega,rfl,z,K7,HV⟩
    |false=>
     have z:Hid (t true):=Aa q true (by rw[if_pos True.intro];exact⟨false,Aa H7,rfl⟩);clear q;go_wp2;go_ret;exact⟨true,rfl,Aa z,Aa HV⟩
  .have z:Hid (t false):=Aa D false (by rw[cG (by omega)];rfl);go_wp2;go_ret;exact⟨false,rfl,Aa z,Aa s⟩
abbrev Tl:=List cR×Value
structure Z2(w:World)(lv:Value)(ps:List Tl):Prop where
 row:w.ownsRow 0 102 1 lv ps.length (ps.flatMap λp=>[p.2])
 each:∀p∈ps,w.ownsRow 0 170 1 p.2 p.1.length (p.1.flatMap Ae)/\Cy E2 p.1/\p.1.length<=10000
theorem Z2.kept{w w':World}{c:Value}{b:List Tl}(h:Z2 w c b)(k:Ac [] w w'):Z2 w' c b:=⟨Ad h.row k (by simp),λp a=>⟨Ad (h.each p a).1 k (by simp),(h.each p a).2⟩⟩
theorem Zr{w:World}{m:Value}{a:List Tl}(h:Z2 w m a)(k:Nat)(b:k<a.length):∃g l i f,m=.slice (some ⟨g,0,none⟩) a.length l/\w.cell? ⟨g,k,none⟩=some (.slice i (BE (a.map Prod.fst) k).length f)/\w.ownsRow 0 170 1 (.slice i (BE (a.map Prod.fst) k).length f) (BE (a.map Prod.fst) k).length ((BE (a.map Prod.fst) k).flatMap Ae)/\Cy E2 (BE (a.map Prod.fst) k)/\(BE (a.map Prod.fst) k).length<=10000:=by
 obtain⟨g,l,n,_,r⟩:=Av h.row (λc _=>rfl) k b;have d:=r k b 0 (by omega);have o:BE (a.map Prod.fst) k=a[k].1:=by
  unfold BE;rw[bT,dI,bW b];rfl
 rw[o];obtain⟨j,p,q⟩:=h.each _ (bL b);obtain⟨i,f,e⟩:=Aj j;rw[e]at j;simp[e]at d;exact⟨g,l,i,f,n,d,j,p,q⟩
theorem VX{w:World}{base:Nat}{v:Value}{l:List Nat}(h:w.ownsRow base 3 1 v l.length (l.flatMap BM))(k:Nat)(b:k<l.length):∃g a,v=.slice (some ⟨g,0,none⟩) l.length a/\w.cell? ⟨g,k,none⟩=some (.int .i64 (l[k]:Nat)):=by
 obtain⟨g,a,e,_,f⟩:=Av h (λc _=>rfl) k b;have d:=f k b 0 (by omega);simp[BM]at d;exact⟨g,a,e,d⟩
theorem Lx(a:List Nat)(t v:Nat)(b:t<a.length):VE (λi=>a.getD i 0) t v=λi=>(a.set t v).getD i 0:=by
 funext i
 unfold VE;simp only[bT,List.getElem?_set];split
 .rename_i e;subst e;simp[b]
 .rename_i e;rw[if_neg (λh=>e h.symm)]
theorem JQ(b:List Nat)(t v:Nat):(b.set t v).flatMap BM=(b.flatMap BM).set t (.int .i64 (v:Nat)):=by
 have e:∀l:List Nat,l.flatMap BM=l.map λn=>Value.int .i64 (n:Nat):=λl=>by
  induction l with
  |nil=>rfl
  |cons a l ih=>simp[BM,ih]
 rw[e,e,gd]
theorem Ln:∀l:List Nat,l.flatMap BM=l.map λn=>Value.int .i64 (n:Nat)
 |[]=>rfl
 |a::l=>by simp only[cg,cu,Ln l];rfl
theorem KX(a:List Nat)(t:Nat)(h:t<a.length):(a.flatMap BM)[t]?=some (.int .i64 (a[t]:Nat)):=by
 rw[Ln,dI,bW h];rfl
theorem Z1(ls:List (List cR))(s:cR)(h:∀l∈ls,l.length<=10000):RD E2 s ls<=ls.length*10000:=by
 induction ls with
 |nil=>simp[RD]
 |cons l ls ih=>
  have b:=ih (λq a=>h q (cF _ a));have c:=h l (dg ..);have d:aI E2 s l<=l.length:=fT;have e:RD E2 s (l::ls)=aI E2 s l+RD E2 s ls:=by unfold RD;simp
  rw[e,bU,dS];omega
structure I2(ps:List Tl)(m:List cR):Prop where
 mem:∀y,y∈m↔(ps≠[]/\I1 (ps.map Prod.fst) y)
 en:m.Pairwise λa b=>E2 a b=true
theorem Tryz.zE:(Tryz.prog.info? 3).map (λi=>(i.zero,i.size,i.bytes))=some (some (.int .i64 0),1,8):=by kernel_rfl
theorem T4(lad:Option Addr)(lcp:Nat)(ps:List Tl)(w:World)(h:Z2 w (.slice lad ps.length lcp) ps)(hlen:ps.length<=1000):
  Calls prog 208 #[.slice lad ps.length lcp] w λr w'=>∃(ad:Option Addr) (cp:Nat) (m:List cR),r=.returned (.slice ad m.length cp)/\I2 ps m/\w'.ownsRow w.heap.size 170 1 (.slice ad m.length cp) m.length (m.flatMap Ae)/\Ac [] w w':=by
 obtain⟨i0,hi0,hz0,hz1,hz2⟩:=cU Tryz.gZ;obtain⟨j0,hj0,hy0,hy1,hy2⟩:=cU Tryz.zE;have HL:=Ab h;obtain⟨N,hN⟩:∃N,w.heap.size=N:=⟨_,rfl⟩;rw[hN];have HN:=Ab hN;clear hN h;obtain⟨LS,hLS⟩:∃LS,ps.map Prod.fst=LS:=⟨_,rfl⟩;have hLl:LS.length=ps.length:=by rw[<-hLS,bX]
 have HLS:=Ab hLS;have HMx:Hid (∀s,RD E2 s LS<=ps.length*10000):=by
  intro s;have h1:=Z1 LS s (λl hl=>by
   rw[<-hLS]at hl
   obtain⟨p,hp,rfl⟩:=bV.1 hl
   exact((Aa HL).each p hp).2.2)
  rw[hLl]at h1;exact h1
 have HOut:Hid (∀m,(ps≠[]->(∀y,y∈m↔I1 LS y))->(ps=[]->m=[])->m.Pairwise (λa b=>E2 a b=true)->I2 ps m):=by
  intro m h1 h2 h3;refine⟨λy=>?_,h3⟩;by_cases hp:ps=[]
  .rw[h2 hp];simp[hp]
  .rw[h1 hp y,<-hLS];exact⟨λh=>⟨hp,h⟩,λh=>h.2⟩
 by_cases h0:ps.length=0
 .have h0b:((ps.length:Int)==0)=true:=by simp[h0]
  have h0c:(ps.length:Int)=0:=by omega
  have HE:Hid (I2 ps []):=Aa HOut [] (λh=>absurd (e9.1 h0) h) (λ_=>rfl) List.Pairwise.nil;clear hLS;go_enter func208,ntmps208;go_wp2;go_ret;exact⟨none,0,[],rfl,Aa HE,ck _ _ _ _,Ac.refl _ _⟩
 .have hpos:0<ps.length:=by omega
  have h0b:((ps.length:Int)==0)=false:=by rw[cJ];omega
  have h0c:¬(ps.length:Int)=0:=by omega
  have hpne:ps≠[]:=λe=>h0 (by rw[e];rfl)
  obtain⟨g,cap,ad0,cp0,he,e0,r0,q0,b0⟩:=Zr (Aa HL) 0 hpos;simp only[bK]at he;obtain⟨rfl,-,rfl⟩:=he;rw[hLS]at e0 r0 q0 b0;have hi00:(0:Int)<(ps.length:Int):=by omega
  by_cases hz:(BE LS 0).length=0
  ·(have hzb:(((BE LS 0).length:Int)==0)=true:=by simp[hz]);(have hzc:((BE LS 0).length:Int)=0:=by omega);have HE:Hid (I2 ps []):=Aa HOut [] (λ_ y=>by
    refine⟨λh=>by simp at h,λh=>?_⟩
    have h1:=h (BE LS 0) (Eo (by omega))
    rw[e9.1 hz]at h1
    exact h1) (λh=>absurd h hpne) List.Pairwise.nil
   clear hLS hz;go_enter func208,ntmps208;go_wp2;go_ret;exact⟨none,0,[],rfl,Aa HE,ck _ _ _ _,Ac.refl _ _⟩
  ·(have hzp:0<(BE LS 0).length:=by omega);(have hzb:(((BE LS 0).length:Int)==0)=false:=by rw[cJ];omega);(have hzc:¬((BE LS 0).length:Int)=0:=by omega);(have hzi:(0:Int)<((BE LS 0).length:Int):=by omega);obtain⟨gz,cz,hez,z0⟩:=FE r0 0 hzp;simp only[bK]at hez;obtain⟨rfl,-,rfl⟩:=hez;have HSt:=Ab (Nj.start F0 (ls:=LS) (by omega) q0 hzp);obtain⟨s0,hs0⟩:∃s0,(BE LS 0)[0]=s0:=⟨_,rfl⟩;rw[hs0]at HSt z0;clear hs0 hLS r0 q0 hz;generalize(BE LS 0).length=L0 at e0 hzb hzc hzi;(have e0a:=λo=>((Ac.refl [] w).alloc o).cellAt e0);(have z0a:=λo=>((Ac.refl [] w).alloc o).cellAt z0);go_enter func208,ntmps208;go_wp2_with ((with_reducible show wpList _ _ _ ({dst:=_,op:=Op.makeSlice 221 _ _,type:=_,pos:=_,after:=_,guard:=_}::_) _ _);refine wpList_make_row _ rfl _ _ 221 rfl 3 j0 _ underlying221 hj0 hy0 hy1 rfl .i64 .i64 ps.length (by rfl) (by rfl) (by rw[hy2];omega) (by omega) ?_)
   have HPl:Hid ((w.alloc (.cells (madeCells #[.int .i64 0] ps.length) 3)).ownsRow N 3 1 (.slice (some ⟨N,0,none⟩) ps.length ps.length) ps.length ((List.replicate ps.length 0).flatMap BM)):=by
    have h:=fM (e:=3) (size:=1) (base:=N) w (madeCells #[.int .i64 0] ps.length) ps.length (by have:=Aa HN;omega) (by unfold maxLen;omega) (by rw[size_madeCells];omega);rw[QV,Aa HN]at h;have e:(List.replicate ps.length 0).flatMap BM=List.replicate ps.length (.int .i64 0):=by
     generalize ps.length=n
     induction n with
     |zero=>rfl
     |succ n ih=>rw[List.replicate_succ,cg,ih,List.replicate_succ];rfl
    rw[e];exact h
   have HK0:=Ab ((Ac.refl [] w).alloc (.cells (madeCells #[.int .i64 0] ps.length) 3));have HC0:Hid (Nj E2 LS 0 s0 0 (λi=>(List.replicate ps.length 0).getD i 0) []):=by
    have e:(λi=>(List.replicate ps.length 0).getD i 0)=λ_=>0:=by
     funext i
     rw[bT,List.getElem?_replicate];split<;>rfl
    rw[e];exact Aa HSt
   rw[Aa HN];clear e0 z0 e0a z0a HSt hzb hzc hzi b0 hzp;generalize w.alloc (.cells (madeCells #[.int .i64 0] ps.length) 3)=w1 at HPl HK0⊢
   go_loopg [3,5,6,7] (RD E2 s0 LS*(ps.length+1)+ps.length) (λgk cv sv av tv wr=>∃(t:Nat) (s:cR) (ag:Nat) (pl:List Nat) (m:List cR) (mad:Option Addr) (mcp:Nat),cv=.slice mad m.length mcp/\sv=.string s/\av=.int .i64 ag/\tv=.int .i64 t/\gk=RD E2 s LS*(ps.length+1)+(ps.length-ag)/\pl.length=ps.length/\m.length+RD E2 s LS<=10000000/\Hid (Nj E2 LS t s ag (λi=>pl.getD i 0) m)/\Hid (wr.ownsRow N 3 1 (.slice (some ⟨N,0,none⟩) ps.length ps.length) ps.length (pl.flatMap BM))/\Hid (wr.ownsRow N 170 1 (.slice mad m.length mcp) m.length (m.flatMap Ae))/\Hid (Ac [] w wr))
   case atStart=>exact⟨0,s0,0,List.replicate ps.length 0,[],none,0,rfl,rfl,rfl,rfl,by simp,by simp,by have:=Aa HMx s0;simp;omega,HC0,HPl,ck _ _ _ _,HK0⟩
   case round=>
    clear HC0 HPl HK0;obtain⟨t,s,ag,pl,m,mad,mcp,rfl,rfl,rfl,rfl,hgk,hpl,hml,HC,HP,HM,HK⟩:=hrel;have HG:=Ab hgk;clear hgk;(have htk:t<ps.length:=by have:=(Aa HC).tk;omega);(have hagk:ag<ps.length:=by have:=(Aa HC).agk;omega);obtain⟨g',cap',adt,cpt,he',et,rt,qt,bt⟩:=Zr ((Aa HL).kept (Aa HK)) t htk;simp only[bK,bR,cI]at he';obtain⟨⟨hgq,-,-⟩,-,-⟩:=he';subst hgq;rw[Aa HLS]at et rt qt bt;(have hP2:wr.ownsRow N 3 1 (.slice (some ⟨N,0,none⟩) ps.length ps.length) pl.length (pl.flatMap BM):=by rw[hpl];exact Aa HP);have hptl:pl.getD t 0<=(BE LS t).length:=(Aa HC).ple t (Aa HC).tk;obtain⟨gp,cpp,hep,pt⟩:=VX (l:=pl) (v:=.slice (some ⟨N,0,none⟩) ps.length ps.length) hP2 t (by omega);simp only[bK,bR,cI]at hep;obtain⟨⟨hgq,-,-⟩,-,-⟩:=hep;subst hgq;obtain⟨PT,hPT⟩:∃PT,pl[t]=PT:=⟨_,rfl⟩;(have hPD:pl.getD t 0=PT:=by rw[bT,bW (by omega),hPT];rfl);rw[hPT]at pt;rw[hPD]at hptl;have HLp:=Ab (P3 (.slice adt (BE LS t).length cpt) (BE LS t) PT s 0 wr rt (by omega) hptl qt);have HQ:=Ab qt;have HRt:=Ab rt;have HPD:=Ab hPD;(have htr0:(0:Int)<=(t:Int):=by omega);(have htr1:(t:Int)<(ps.length:Int):=by omega);have pf:=(Aa HP).frozenAt t;have HLow:Hid (∀q0 q1,adt=some ⟨q0,q1,none⟩->q0<N):=by
     intro q0 q1 hq;obtain⟨gw,_,adw,cpw,hew,ew,rw0,_,_⟩:=Zr (Aa HL) t htk;simp only[bK,bR,cI]at hew;obtain⟨⟨hgq,-,-⟩,-,-⟩:=hew;subst hgq;have e2:=(Aa HK).cellAt ew;rw[Aa HLS,et]at e2;simp only[bR,bK]at e2;have h3:=(rw0.lt q0 (by rw[<-e2.1,hq];rfl)).2;rw[Aa HN]at h3;exact h3
    have HTm:Hid (((t:Int)+1).tmod (ps.length:Int)=(ED ps.length t:Int)/\((t:Int)+1)%(ps.length:Int)=(ED ps.length t:Int)/\ED ps.length t<ps.length):=by
     have h1:=Yb htk;(have h2:((t:Int)+1)%(ps.length:Int)=(ED ps.length t:Int):=by rw[<-h1,Int.natCast_emod,Int.natCast_add];rfl);exact⟨by rw[Int.tmod_eq_emod_of_nonneg (by omega)];exact h2,h2,Rw htk⟩
    clear hPT hP2 hPD qt rt;(go_wp2_with fail);refine(Aa HLp).mono ?_;rintro _ w2 ⟨at_,rfl,hleap,hw2⟩;have hw3:=hw2.symm;subst hw3;(have hleap2:CK E2 (BE LS t) ((λi=>pl.getD i 0) t) s at_:=by show CK E2 (BE LS t) (pl.getD t 0) s at_;rw[Aa HPD];exact hleap);have HLe:=Ab hleap2;have hal:=hleap.le;clear hleap hleap2 HLp;by_cases hend:at_=(BE LS t).length
    .have HE:Hid (I2 ps m):=Aa HOut m (λ_=>(Aa HC).done (Aa HLe) hend) (λh=>absurd h hpne) (Aa HC).en;(have hendb:((at_:Int)==((BE LS t).length:Int))=true:=by simp[hend]);(have hendc:(at_:Int)=((BE LS t).length:Int):=by omega);clear hend;go_wp2;go_ret;exact⟨mad,mcp,m,rfl,Aa HE,Aa HM,Aa HK⟩
    ·(have halt:at_<(BE LS t).length:=by omega);(have hendb:((at_:Int)==((BE LS t).length:Int))=false:=by rw[cJ];omega);(have hendc:¬(at_:Int)=((BE LS t).length:Int):=by omega);(have har0:(0:Int)<=(at_:Int):=by omega);(have har1:(at_:Int)<((BE LS t).length:Int):=by omega);obtain⟨gx,cx,hex,x0⟩:=FE (Aa HRt) at_ halt;simp only[bK]at hex;obtain⟨rfl,-,rfl⟩:=hex;obtain⟨X,hX⟩:∃X,(BE LS t)[at_]=X:=⟨_,rfl⟩;rw[hX]at x0;cases hsx:(X.toList==s.toList)with
     |true=>
      have hXs:X=s:=(DR X s).1 hsx;have HMid:=Ab ((Aa HC).same (Aa HLe) halt (by rw[hX,hXs]));(have hGl:RD E2 X LS<=RD E2 s LS:=by rw[hXs];exact bZ _);subst hXs;clear hX HC;(have hag1:ag+1<=ps.length:=by omega);by_cases hall:ag+1=ps.length
      ·(have hallb:(((ag:Int)+1)==(ps.length:Int))=true:=by rw[dE];omega);have hallc:((ag:Int)+1)=(ps.length:Int):=by omega
       skip
       skip
       (have hlall:ag+1=LS.length:=by omega);by_cases hlast:at_+1=(BE LS t).length
       ·(have hlb:(((at_:Int)+1)==((BE LS t).length:Int))=true:=by rw[dE];omega);(have hlc:((at_:Int)+1)=((BE LS t).length:Int):=by omega);have HE:Hid (I2 ps (m++[X])):=Aa HOut (m++[X]) (λ_=>(Aa HMid).last F0 (Aa HQ) hlall hlast) (λh=>absurd h hpne) ((Aa HMid).zL hlall).2;have hM:=Aa HM;clear hall hlast;go_wp2_with (at_builtin;refine cd _ rfl (.tmp 65) (.tmp 67) _ rfl N 170 i0 _ 1 16 underlying102 hi0 hz0 hz1 hz2 rfl (by omega) (.slice mad m.length mcp) m.length (m.flatMap Ae) rfl (bQ hM _) ⟨wr.heap.size,0,none⟩ 1 1 [.string X] rfl rfl (cj (cs:=#[.string X]) (t:=170) (fr:=(0,0)) (cA wr _)) (by simp[Value.oneCell']) (by omega) (by unfold maxLen;omega) (by omega) (by simp;have:=(Aa HK).size;have:=Aa HN;omega) (wr.heap.size+1) (by simp) ?_;intro g1 cp1 w9 ho1 hg1 ha1 hl1)
        go_ret;refine⟨some ⟨g1,0,none⟩,cp1,m++[X],by simp,Aa HE,?_,((Aa HK).alloc _).grown hg1 (λq hq=>Or.inr (by have:=(hM.lt q hq).1;have:=Aa HN;omega))⟩;rw[cw];simp only[cc,bU,cE,cV,cg,cZ,cK,Ae];exact ho1
       ·(have hlb:(((at_:Int)+1)==((BE LS t).length:Int))=false:=by rw[cJ];omega);(have hlc:¬((at_:Int)+1)=((BE LS t).length:Int):=by omega);(have hgo:at_+1<(BE LS t).length:=by omega);obtain⟨gy,cy,hey,y0⟩:=FE (Aa HRt) (at_+1) hgo;simp only[bK,bR,cI]at hey;obtain⟨⟨hgq,-,-⟩,-,-⟩:=hey;subst hgq;have hmore:=(Aa HMid).more F0 (Aa HQ) hlall hgo;obtain⟨Y,hY⟩:∃Y,(BE LS t)[at_+1]=Y:=⟨_,rfl⟩;rw[hY]at y0 hmore;rw[Lx pl t (at_+1) (by omega),hLl]at hmore;have HCn:=Ab hmore.1;have hGm:=hmore.2;(have hyr0:(0:Int)<=(at_:Int)+1:=by omega);(have hyr1:(at_:Int)+1<((BE LS t).length:Int):=by omega);have hM:=Aa HM;have HYk:Hid (∀w9,(wr.alloc (.cells #[.string X] 170)).grownBy w9 (Value.slice mad m.length mcp).ownBlock->w9.cell? ⟨gx,at_+1,none⟩=some (.string Y)/\w9.ownsRow N 3 1 (.slice (some ⟨N,0,none⟩) ps.length ps.length) ps.length (pl.flatMap BM)):=by
         intro w9 hg9;refine⟨?_,(bQ (Aa HP) _).kept hg9 (Or.inr (λe=>BB (Aa HP) hM (by decide) N rfl e.symm))⟩;have hgx:gx<N:=Aa HLow _ _ (by rfl);(have hgw:gx<wr.heap.size:=by have:=(Aa HK).size;have:=Aa HN;omega);rw[hg9.cell_far ⟨gx,at_+1,none⟩ (by simp;omega) (λe=>by have:=(hM.lt gx e.symm).1;omega)];exact(((Ac.refl [] wr).alloc _).cellAt y0)
        clear hall hlast hY hmore;go_wp2_with (at_builtin;refine cd _ rfl (.tmp 65) (.tmp 67) _ rfl N 170 i0 _ 1 16 underlying102 hi0 hz0 hz1 hz2 rfl (by omega) (.slice mad m.length mcp) m.length (m.flatMap Ae) rfl (bQ hM _) ⟨wr.heap.size,0,none⟩ 1 1 [.string X] rfl rfl (cj (cs:=#[.string X]) (t:=170) (fr:=(0,0)) (cA wr _)) (by simp[Value.oneCell']) (by omega) (by unfold maxLen;omega) (by omega) (by simp;have:=(Aa HK).size;have:=Aa HN;omega) (wr.heap.size+1) (by simp) ?_;intro g1 cp1 w9 ho1 hg1 ha1 hl1;have y9:=(Aa HYk w9 hg1).1;have p9r:=(Aa HYk w9 hg1).2;have p9c:=p9r.cellAt t (by omega);have p9f:=p9r.frozenAt t;rw[KX pl t (by omega)]at p9c)
        have ht1:=(Aa HTm).1;have ht2:=(Aa HTm).2.1;have HS9:=Ab (((Aa HYk w9 hg1).2).stored t (.int .i64 ((at_+1:Nat):Int)));go_wp2
        go_roundg (RD E2 Y LS*(ps.length+1)+ps.length)
        case measure=>
         have h1:=Aa HG;have h2:(RD E2 Y LS+1)*(ps.length+1)<=RD E2 X LS*(ps.length+1):=dj _ (by omega);rw[dS]at h2;omega
        case rel=>
         refine⟨ED ps.length t,Y,0,pl.set t (at_+1),m++[X],some ⟨g1,0,none⟩,cp1,by simp,rfl,rfl,by first|rfl|exact congrArg _ (Aa HTm).2.1,by simp,by simp[hpl],by simp;omega,HCn,?_,?_,?_⟩
         .rw[JQ];have h:=(Aa HS9).1;exact h
         .have hap:=BB (Aa HYk w9 hg1).2 ho1 (by decide) N rfl;have h9:w9.ownsRow N 170 1 (.slice (some ⟨g1,0,none⟩) (m++[X]).length cp1) (m++[X]).length ((m++[X]).flatMap Ae):=by
           rw[cw];simp only[cc,bU,cE,cV,cg,cZ,cK,Ae];exact ho1
          exact Al h9 (Ac.setCell (M:=[N]) (Ac.refl [N] _) (Or.inl (by simp)) _) (λq hq=>by simp only[bO];intro e;subst e;exact hap hq)
         .exact(((Aa HK).alloc _).grown hg1 (λq hq=>Or.inr (by have:=(hM.lt q hq).1;have:=Aa HN;omega))).setCell (Or.inr (by have:=Aa HN;simp;omega)) _
      ·(have hallb:(((ag:Int)+1)==(ps.length:Int))=false:=by rw[cJ];omega);have hallc:¬((ag:Int)+1)=(ps.length:Int):=by omega
       skip
       skip
       have hnx:=(Aa HMid).next (by omega);rw[Lx pl t at_ (by omega),hLl]at hnx;have HCn:=Ab hnx;have ht1:=(Aa HTm).1;have ht2:=(Aa HTm).2.1;clear hall hnx;go_wp2
       go_roundg (RD E2 X LS*(ps.length+1)+(ps.length-(ag+1)))
       case measure=>
        have h1:=Aa HG
        skip
        skip
        omega
       case rel=>
        refine⟨ED ps.length t,X,ag+1,pl.set t at_,m,mad,mcp,rfl,rfl,by go_num,by first|rfl|exact congrArg _ (Aa HTm).2.1,rfl,by simp[hpl],by omega,HCn,?_,?_,?_⟩
        .rw[JQ];exact((Aa HP).stored t (.int .i64 (at_:Int))).1
        .have hap:=BB (Aa HP) (Aa HM) (by decide) N rfl;exact Al (Aa HM) (Ac.setCell (M:=[N]) (Ac.refl [N] _) (Or.inl (by simp)) _) (λq hq=>by simp only[bO];intro e;subst e;exact hap hq)
        .exact(Aa HK).setCell (Or.inr (by have:=Aa HN;simp;omega)) _
     |false=>
      (have hXs:X≠s:=λe=>by rw[(DR X s).2 e]at hsx;cases hsx);have hpast:=(Aa HC).past F0 (Aa HQ) (Aa HLe) halt (by rw[hX];exact hXs);rw[hX]at hpast;have HMid:=Ab hpast.1;have hGl:=hpast.2;clear hX HC hpast hXs;(have hag1:0+1<=ps.length:=by omega);by_cases hall:0+1=ps.length
      ·(have hallb:(((0:Int)+1)==(ps.length:Int))=true:=by rw[dE];omega);(have hallb1:((1:Int)==(ps.length:Int))=true:=by rw[dE];omega);(have hlall:0+1=LS.length:=by omega);by_cases hlast:at_+1=(BE LS t).length
       ·(have hlb:(((at_:Int)+1)==((BE LS t).length:Int))=true:=by rw[dE];omega);(have hlc:((at_:Int)+1)=((BE LS t).length:Int):=by omega);have HE:Hid (I2 ps (m++[X])):=Aa HOut (m++[X]) (λ_=>(Aa HMid).last F0 (Aa HQ) hlall hlast) (λh=>absurd h hpne) ((Aa HMid).zL hlall).2;have hM:=Aa HM;clear hall hlast;go_wp2_with (at_builtin;refine cd _ rfl (.tmp 65) (.tmp 67) _ rfl N 170 i0 _ 1 16 underlying102 hi0 hz0 hz1 hz2 rfl (by omega) (.slice mad m.length mcp) m.length (m.flatMap Ae) rfl (bQ hM _) ⟨wr.heap.size,0,none⟩ 1 1 [.string X] rfl rfl (cj (cs:=#[.string X]) (t:=170) (fr:=(0,0)) (cA wr _)) (by simp[Value.oneCell']) (by omega) (by unfold maxLen;omega) (by omega) (by simp;have:=(Aa HK).size;have:=Aa HN;omega) (wr.heap.size+1) (by simp) ?_;intro g1 cp1 w9 ho1 hg1 ha1 hl1)
        go_ret;refine⟨some ⟨g1,0,none⟩,cp1,m++[X],by simp,Aa HE,?_,((Aa HK).alloc _).grown hg1 (λq hq=>Or.inr (by have:=(hM.lt q hq).1;have:=Aa HN;omega))⟩;rw[cw];simp only[cc,bU,cE,cV,cg,cZ,cK,Ae];exact ho1
       ·(have hlb:(((at_:Int)+1)==((BE LS t).length:Int))=false:=by rw[cJ];omega);(have hlc:¬((at_:Int)+1)=((BE LS t).length:Int):=by omega);(have hgo:at_+1<(BE LS t).length:=by omega);obtain⟨gy,cy,hey,y0⟩:=FE (Aa HRt) (at_+1) hgo;simp only[bK,bR,cI]at hey;obtain⟨⟨hgq,-,-⟩,-,-⟩:=hey;subst hgq;have hmore:=(Aa HMid).more F0 (Aa HQ) hlall hgo;obtain⟨Y,hY⟩:∃Y,(BE LS t)[at_+1]=Y:=⟨_,rfl⟩;rw[hY]at y0 hmore;rw[Lx pl t (at_+1) (by omega),hLl]at hmore;have HCn:=Ab hmore.1;have hGm:=hmore.2;(have hyr0:(0:Int)<=(at_:Int)+1:=by omega);(have hyr1:(at_:Int)+1<((BE LS t).length:Int):=by omega);have hM:=Aa HM;have HYk:Hid (∀w9,(wr.alloc (.cells #[.string X] 170)).grownBy w9 (Value.slice mad m.length mcp).ownBlock->w9.cell? ⟨gx,at_+1,none⟩=some (.string Y)/\w9.ownsRow N 3 1 (.slice (some ⟨N,0,none⟩) ps.length ps.length) ps.length (pl.flatMap BM)):=by
         intro w9 hg9;refine⟨?_,(bQ (Aa HP) _).kept hg9 (Or.inr (λe=>BB (Aa HP) hM (by decide) N rfl e.symm))⟩;have hgx:gx<N:=Aa HLow _ _ (by rfl);(have hgw:gx<wr.heap.size:=by have:=(Aa HK).size;have:=Aa HN;omega);rw[hg9.cell_far ⟨gx,at_+1,none⟩ (by simp;omega) (λe=>by have:=(hM.lt gx e.symm).1;omega)];exact(((Ac.refl [] wr).alloc _).cellAt y0)
        clear hall hlast hY hmore;go_wp2_with (at_builtin;refine cd _ rfl (.tmp 65) (.tmp 67) _ rfl N 170 i0 _ 1 16 underlying102 hi0 hz0 hz1 hz2 rfl (by omega) (.slice mad m.length mcp) m.length (m.flatMap Ae) rfl (bQ hM _) ⟨wr.heap.size,0,none⟩ 1 1 [.string X] rfl rfl (cj (cs:=#[.string X]) (t:=170) (fr:=(0,0)) (cA wr _)) (by simp[Value.oneCell']) (by omega) (by unfold maxLen;omega) (by omega) (by simp;have:=(Aa HK).size;have:=Aa HN;omega) (wr.heap.size+1) (by simp) ?_;intro g1 cp1 w9 ho1 hg1 ha1 hl1;have y9:=(Aa HYk w9 hg1).1;have p9r:=(Aa HYk w9 hg1).2;have p9c:=p9r.cellAt t (by omega);have p9f:=p9r.frozenAt t;rw[KX pl t (by omega)]at p9c)
        have ht1:=(Aa HTm).1;have ht2:=(Aa HTm).2.1;have HS9:=Ab (((Aa HYk w9 hg1).2).stored t (.int .i64 ((at_+1:Nat):Int)));go_wp2
        go_roundg (RD E2 Y LS*(ps.length+1)+ps.length)
        case measure=>
         have h1:=Aa HG;have h2:(RD E2 Y LS+1)*(ps.length+1)<=RD E2 s LS*(ps.length+1):=dj _ (by omega);rw[dS]at h2;omega
        case rel=>
         refine⟨ED ps.length t,Y,0,pl.set t (at_+1),m++[X],some ⟨g1,0,none⟩,cp1,by simp,rfl,rfl,by first|rfl|exact congrArg _ (Aa HTm).2.1,by simp,by simp[hpl],by simp;omega,HCn,?_,?_,?_⟩
         .rw[JQ];have h:=(Aa HS9).1;exact h
         .have hap:=BB (Aa HYk w9 hg1).2 ho1 (by decide) N rfl;have h9:w9.ownsRow N 170 1 (.slice (some ⟨g1,0,none⟩) (m++[X]).length cp1) (m++[X]).length ((m++[X]).flatMap Ae):=by
           rw[cw];simp only[cc,bU,cE,cV,cg,cZ,cK,Ae];exact ho1
          exact Al h9 (Ac.setCell (M:=[N]) (Ac.refl [N] _) (Or.inl (by simp)) _) (λq hq=>by simp only[bO];intro e;subst e;exact hap hq)
         .exact(((Aa HK).alloc _).grown hg1 (λq hq=>Or.inr (by have:=(hM.lt q hq).1;have:=Aa HN;omega))).setCell (Or.inr (by have:=Aa HN;simp;omega)) _
      ·(have hallb:(((0:Int)+1)==(ps.length:Int))=false:=by rw[cJ];omega);(have hallc:¬((0:Int)+1)=(ps.length:Int):=by omega);(have hallb1:((1:Int)==(ps.length:Int))=false:=by rw[cJ];omega);(have hallc1:¬(1:Int)=(ps.length:Int):=by omega);have hnx:=(Aa HMid).next (by omega);rw[Lx pl t at_ (by omega),hLl]at hnx;have HCn:=Ab hnx;have ht1:=(Aa HTm).1;have ht2:=(Aa HTm).2.1;clear hall hnx;go_wp2
       go_roundg (RD E2 X LS*(ps.length+1)+(ps.length-(0+1)))
       case measure=>
        have h1:=Aa HG;have h2:(RD E2 X LS+1)*(ps.length+1)<=RD E2 s LS*(ps.length+1):=dj _ (by omega);rw[dS]at h2;omega
       case rel=>
        refine⟨ED ps.length t,X,0+1,pl.set t at_,m,mad,mcp,rfl,rfl,by go_num,by first|rfl|exact congrArg _ (Aa HTm).2.1,rfl,by simp[hpl],by omega,HCn,?_,?_,?_⟩
        .rw[JQ];exact((Aa HP).stored t (.int .i64 (at_:Int))).1
        .have hap:=BB (Aa HP) (Aa HM) (by decide) N rfl;exact Al (Aa HM) (Ac.setCell (M:=[N]) (Ac.refl [N] _) (Or.inl (by simp)) _) (λq hq=>by simp only[bO];intro e;subst e;exact hap hq)
        .exact(Aa HK).setCell (Or.inr (by have:=Aa HN;simp;omega)) _
theorem Ec.grown{w w':World}{p:Gm}{base n:Nat}{v:Value}{a:List Value}(h:Ec w p)(c:w.ownsRow base 104 2 v n a)(b:w.grownBy w' v.ownBlock):Ec w' p:=
 dB (v:=p.tv) h b (by
  cases hp:p.tv.ownBlock with
  |none=>exact Or.inl rfl
  |some q=>exact Or.inr (λe=>BB h c (by decide) q hp e.symm))
def Kg(b:List cR)(ls:List PL):List Ev:=(ls.filter λx=>x.sort==0).map (Es b)
theorem Ww(M ty:Nat)(b:List cR)(FW:Option Addr)(Bx:Nat)(ls:List JF)(w:World)(hb:b.length=26)(HH:AE w M (Ai b) ty)(hB:BI w 0 (.slice FW ls.length Bx) ls)(KK:ls.length<=1000)(hl:∀p∈ls,Np p.1):
  Calls prog 198 #[.pointer (some ⟨M,0,none⟩),.slice FW ls.length Bx] w λr s=>∃(m:Option Addr) (n:Nat) (a:List Gm),r=.returned (.slice m a.length n)/\a.map Gm.f=Kg b (ls.map Prod.fst)/\KQ s (.slice m a.length n) a/\Ac [] w s:=by
 obtain⟨i0,H3,HY,H5,H2⟩:=cU Tryz.gS;have HD:=Ab hB;have H0:=Ab hl;have HS:Hid (∀(x:PL) m n C,Ac [] w C->Np x->Jf w 0 (x,.slice m x.ts.length n)->Calls prog 196 #[.pointer (some ⟨M,0,none⟩),.agg #[.int .i64 x.ap,.string x.an,.slice m x.ts.length n]] C λr s=>∃g,r=.returned (.agg #[.string x.an,.slice (some ⟨g,0,none⟩) x.ts.length x.ts.length])/\Ec s ⟨Es b x,.slice (some ⟨g,0,none⟩) x.ts.length x.ts.length⟩/\Ac [] C s):=by
  intro x m n C U hc hx;refine(Md M ty b x.ap x.an m n x.ts 0 C hb (HH.kept U (by simp)) (hx.kept U (by simp)) (by have:=hc.len;omega) hc.ts).mono ?_;rintro r s ⟨g,rfl,hr,k⟩;refine⟨g,rfl,?_,k⟩;show s.ownsRow 0 170 1 _ (x.ts.map (Bs b)).length _;rw[bX];exact Ak hr (b8 _)
 obtain⟨R,hR⟩:∃R,Kg b (ls.map Prod.fst)=R:=⟨_,rfl⟩;rw[hR];have HR:=Ab hR;obtain⟨N,hN⟩:∃N,w.heap.size=N:=⟨_,rfl⟩;have HN:=Ab hN;clear hB hl hR hN HH;go_enter func198,ntmps198;go_wp2_with fail
 go_loopg [5,10] ls.length (λgk o i wr=>∃(k:Nat) (a:List Gm) (z:Option Addr) (u:Nat),o=.slice z a.length u/\i=.int .i64 k/\k<=ls.length/\gk=ls.length-k/\a.length<=k/\Hid (a.map Gm.f=Kg b ((ls.take k).map Prod.fst))/\Hid (wr.ownsRow N 104 2 (.slice z a.length u) a.length (a.flatMap Bh))/\Hid (∀p∈a,Ec wr p/\p.f.dc.length<=1000)/\Hid (Ac [] w wr))
 case atStart=>exact⟨0,[],none,0,rfl,rfl,by omega,rfl,by simp,rfl,ck _ _ _ _,(λp d=>by cases d),Ac.refl _ _⟩
 case round=>
  obtain⟨k,a,z,u,rfl,rfl,U,HI,JJ,G,V,J,D⟩:=hrel;have HG:=Ab HI;clear HI;by_cases T:k<ls.length
  .obtain⟨g,KS,x,v,y,he,S,_,d0,d1,d2,d3,d4,d5,d6,d7,d8⟩:=RQ ((Aa HD).kept (Aa D) (by simp)) k T;simp only[bK]at he;obtain⟨rfl,_,rfl⟩:=he;(have W:(x,Value.slice v x.ts.length y)∈ls:=by rw[<-S];exact bL T);have X:=Aa H0 _ W;have FA:Jf w 0 (x,.slice v x.ts.length y):=((Aa HD).each _ W).1;have j:Hid (Kg b ((ls.take (k+1)).map Prod.fst)=Kg b ((ls.take k).map Prod.fst)++if(x.sort==0)=true then[Es b x] else[]):=by
    show _=_;unfold Kg;rw[bM T,cW,dZ,cW,S]
    congr 1
    simp only[cu,eW,dv,List.filter_nil];split<;>rfl
   have F:=Ab ((Aa D).alloc (.cells (Aq (x,.slice v x.ts.length y)).toArray 217));have H:=Ab (bQ (Aa V) (.cells (Aq (x,.slice v x.ts.length y)).toArray 217));(have A:Hid (∀p∈a,Ec (wr.alloc (.cells (Aq (x,.slice v x.ts.length y)).toArray 217)) p/\p.f.dc.length<=1000):=λp d=>⟨((Aa J) p d).1.kept ((Ac.refl [] wr).alloc _),((Aa J) p d).2⟩);have B:=Ab (Aa HS x v y _ (Aa F) X FA);(have CC:Hid ((Es b x).dc.length<=1000):=by show(x.ts.map (Bs b)).length<=1000;rw[bX];exact X.len);(have O:Hid (∀g,Bh ⟨Es b x,.slice (some ⟨g,0,none⟩) x.ts.length x.ts.length⟩=[.string x.an,.slice (some ⟨g,0,none⟩) x.ts.length x.ts.length]):=λg=>rfl);generalize Es b x=FC at j B CC O;obtain⟨pl,Q,ap,an,c,⟨lv,IA⟩,⟨rv,K1⟩⟩:=x;simp only[Aq]at F H A B j O d0 d1 d2 d3 d4 d5 d6 d7 d8;clear S W X FA V J;(have KD:N<=wr.heap.size:=by have:=(Aa D).size;have:=Aa HN;omega);clear D;by_cases L:Q=0
   ·(have Y:(Q==0)=true:=by simp[L]);rw[Y,if_pos rfl]at j;clear L;(go_wp2_with fail);refine(Aa B).mono ?_;rintro _ l ⟨e,rfl,ES,K⟩;have E:=Ad (Aa H) K (by simp);(have Z:Hid (∀p∈a,Ec l p/\p.f.dc.length<=1000):=λp d=>⟨((Aa A) p d).1.kept K,((Aa A) p d).2⟩);have AB:=Ab ((Aa F).trans K);have Ha:=Ab ES;(have H9:N<=l.heap.size:=by have:=(Aa AB).size;have:=Aa HN;omega);clear B H A F K ES d0 d1 d2 d3 d4 d5 d6 d7 d8;go_wp2_with (at_builtin;refine cd _ rfl (.tmp 17) (.tmp 22) _ rfl N 104 i0 _ 2 40 underlying113 H3 HY H5 H2 rfl (by omega) (.slice z a.length u) a.length (a.flatMap Bh) rfl (bQ E _) ⟨l.heap.size,0,none⟩ 1 1 [.string an,.slice (some ⟨e,0,none⟩) c.length c.length] rfl rfl (cj (cs:=#[.string an,.slice (some ⟨e,0,none⟩) c.length c.length]) (t:=104) (fr:=(0,0)) (cA l _)) (by simp[Value.oneCell']) (by omega) (by unfold maxLen;omega) (by omega) (by simp;omega) (l.heap.size+1) (by simp) ?_;intro g1 EX w9 HA I HQ HW)
    have P:Hid ((a++[Gm.mk FC (.slice (some ⟨e,0,none⟩) c.length c.length)]).map Gm.f=Kg b ((ls.take (k+1)).map Prod.fst)):=by
     show _=_;rw[Aa j,cW,Aa G];rfl
    have HU:Hid (w9.ownsRow N 104 2 (.slice (some ⟨g1,0,none⟩) (a++[Gm.mk FC (.slice (some ⟨e,0,none⟩) c.length c.length)]).length EX) (a++[Gm.mk FC (.slice (some ⟨e,0,none⟩) c.length c.length)]).length ((a++[Gm.mk FC (.slice (some ⟨e,0,none⟩) c.length c.length)]).flatMap Bh)):=by
     rw[cw];simp only[cc,bU,cE,cV,cg,cZ,cK,Aa O];exact HA
    have HX:Hid (∀p∈a++[Gm.mk FC (.slice (some ⟨e,0,none⟩) c.length c.length)],Ec w9 p/\p.f.dc.length<=1000):=by
     intro p d;rcases bY.1 d with h|h
     .exact⟨Ec.grown (((Aa Z) p h).1.kept ((Ac.refl [] l).alloc _)) (bQ E _) I,((Aa Z) p h).2⟩
     .simp only[bO]at h;subst h;exact⟨Ec.grown ((Aa Ha).kept ((Ac.refl [] l).alloc _)) (bQ E _) I,Aa CC⟩
    have H1:=Ab (((Aa AB).alloc (.cells #[.string an,.slice (some ⟨e,0,none⟩) c.length c.length] 104)).grown I (λq hq=>Or.inr (by have:=(E.lt q hq).1;have:=Aa HN;omega)));clear HA I HQ HW E Z AB Ha j G
    go_roundg (ls.length-(k+1))
    case measure=>have:=Aa HG;omega
    case rel=>exact⟨k+1,a++[Gm.mk FC (.slice (some ⟨e,0,none⟩) c.length c.length)],some ⟨g1,0,none⟩,EX,by simp,by go_num,by omega,rfl,by simp;omega,P,HU,HX,H1⟩
   ·(have Y:(Q==0)=false:=by simp[L]);rw[Y,if_neg (by simp),cK]at j;(have P:Hid (a.map Gm.f=Kg b ((ls.take (k+1)).map Prod.fst)):=by show _=_;rw[Aa j];exact Aa G);clear L j G B;go_wp2
    go_roundg (ls.length-(k+1))
    case measure=>have:=Aa HG;omega
    case rel=>exact⟨k+1,a,z,u,rfl,by go_num,by omega,rfl,by omega,P,H,A,F⟩
  .have H7:Hid (a.map Gm.f=R):=by
    have h:=Aa G;rw[bP (by omega),Aa HR]at h;exact h
   go_wp2;go_ret;exact⟨z,u,a,rfl,Aa H7,⟨Ak (Aa V) (b8 _),Aa J⟩,Aa D⟩
