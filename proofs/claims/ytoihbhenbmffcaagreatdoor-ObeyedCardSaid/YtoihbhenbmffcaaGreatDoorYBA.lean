import Derived.Deep.OwnRows
import Derived.Test.YtoihbhenbmffcaaGreatDoorYAZ
import Derived.Test.YtoihbhenbmffcaaGreatDoorYAV
set_option linter.all false
set_option maxHeartbeats 0
open List renaming length->Z,toArray->j3,replicate->lV
open Option renaming none->Y,some->V
open Go.Value renaming slice->U,int->X,string->O,pointer->kt,agg->lR,bool->lT
open Bool renaming false->K,true->j1
open Go.IntKind renaming i64->J,i32->lS
open Go.Obj renaming cells->j2
open Go.Ending renaming returned->lo
open Or renaming inl->lx,inr->ly
open Go renaming World->l9,Value->lN
open Go.RowKit renaming Hid->lO
open Go.World renaming cell?->lP,ownsRow->lQ
open Prod renaming fst->lW
namespace Go.Proofs.YtoihbhenbmffcaaGreatDoor
open Go.RowKit Go.Proofs.Tryz
def SE(z:lN)(n:Nat):(madeCells #[z] n).toList=lV n z:=by
 apply List.ext_getElem
 .simp[madeCells]
 .intro i a b;simp[madeCells];rw[Nat.mod_one];rfl
def E8(b:mc zA)(ts:mc AQ)(k:Nat):mc lN:=((ts.take k).map λt=>O (Bz b t))++lV (Z ts-k) (O ⟨#[]⟩)
def Ut(b:mc zA)(ts:mc AQ):E8 b ts 0=lV (Z ts) (O ⟨#[]⟩):=by simp[E8]
def V7(b:mc zA)(ts:mc AQ)(k:Nat)(h:k<=Z ts):Z (E8 b ts k)=Z ts:=by simp[E8];omega
def WX(b:mc zA)(ts:mc AQ)(k:Nat)(h:k<Z ts):(E8 b ts k).set k (O (Bz b ts[k]))=E8 b ts (k+1):=by
 unfold E8;rw[gQ h,iG,show Z ts-k=(Z ts-(k+1))+1 by omega,List.replicate_succ];rw[lE _ _ (by simp;omega)];simp;rw[kD (by omega),Nat.sub_self];rfl
def WZ(b:mc zA)(ts:mc AQ):E8 b ts (Z ts)=(ts.map (Bz b)).flatMap Ah:=by
 unfold E8;rw[j6,Nat.sub_self];simp only[List.replicate_zero,iJ]
 induction ts with
 |nil=>rfl
 |cons t ts ih=>simp[Ah,ih]
set_option maxRecDepth 100000
theorem Na(B ty:Nat)(b:mc zA)(f:Int)(nm:zA)(a:Option Addr)(d:Nat)(ts:mc AQ)(base:Nat)(w:l9)(C:Z b=26)(hB:AH w B (Aj b) ty)(hr:lQ w base 215 2 (.slice a (Z ts) d) (Z ts) (ts.flatMap Aq))(HP:Z ts<=100000)(hv:∀t∈ts,OE t):
  Calls prog 196 #[kt (V ⟨B,0,Y⟩),lR #[X J f,O nm,.slice a (Z ts) d]] w λr A=>∃g,r=lo (lR #[O nm,.slice (V ⟨g,0,Y⟩) (Z ts) (Z ts)])/\lQ A w.heap.size 170 1 (.slice (V ⟨g,0,Y⟩) (Z ts) (Z ts)) (Z ts) ((ts.map (Bz b)).flatMap Ah)/\Ac [] w A:=by
 obtain⟨i0,HI,EM,FL,Go⟩:=iR Tryz.zi;have HT:lO (∀t∈ts,∀o,Ac [] w o->Calls prog 180 #[kt (V ⟨B,0,Y⟩),lR #[X lS t.v,O t.s]] o λr A=>r=lo (O (Bz b t))/\Ac [] o A):=λt ht o H=>KA B ty b t o C (hB.kept H (by simp)) (hv t ht)
 have HH:=Ab hr;obtain⟨N,y⟩:∃N,w.heap.size=N:=⟨_,rfl⟩;have j:lO (AH ((w.alloc (j2 #[X J f,O nm,.slice a (Z ts) d] 187)).alloc (j2 #[O ⟨#[]⟩,.slice Y 0 0] 104)) N [X J f,O nm,.slice a (Z ts) d] 187):=by rw[<-y];exact(mf w [X J f,O nm,.slice a (Z ts) d] 187).alloc _
 have c:lO (AH ((w.alloc (j2 #[X J f,O nm,.slice a (Z ts) d] 187)).alloc (j2 #[O ⟨#[]⟩,.slice Y 0 0] 104)) (N+1) [O ⟨#[]⟩,.slice Y 0 0] 104):=by
  have h:=mf (w.alloc (j2 #[X J f,O nm,.slice a (Z ts) d] 187)) [O ⟨#[]⟩,.slice Y 0 0] 104;simp only[iz,y]at h;exact h
 have Q:=Ab (((me [] w).alloc (j2 #[X J f,O nm,.slice a (Z ts) d] 187)).alloc (j2 #[O ⟨#[]⟩,.slice Y 0 0] 104));have u:=Ab y;clear hr hv hB;go_enter func196,ntmps196;apply wp_seq_k;intro KK A0;have S:=Ab A0;clear A0;go_wp2;refine S _ _ ?_;clear S KK;rw[y];clear y;have M:((w.alloc (j2 #[X J f,O nm,.slice a (Z ts) d] 187)).alloc (j2 #[O ⟨#[]⟩,.slice Y 0 0] 104)).heap.size=N+1+1:=by simp;exact u
 generalize(w.alloc (j2 #[X J f,O nm,.slice a (Z ts) d] 187)).alloc (j2 #[O ⟨#[]⟩,.slice Y 0 0] 104)=w1 at j c Q M⊢;have c2:=j.cell 2;simp at c2;go_wp2_with ((with_reducible show wpList _ _ _ ({dst:=_,op:=Op.makeSlice 102 _ _,type:=_,pos:=_,after:=_,guard:=_}::_) _ _);refine wpList_make_row _ rfl _ _ 102 rfl 170 i0 _ underlying102 HI EM FL rfl J J (Z ts) (by rfl) (by rfl) (by rw[Go];omega) (by omega) ?_)
 have l:lO (lQ (w1.alloc (j2 (madeCells #[O ⟨#[]⟩] (Z ts)) 170)) (N+1+1) 170 1 (.slice (V ⟨N+1+1,0,Y⟩) (Z ts) (Z ts)) (Z ts) (E8 b ts 0)):=by
  have h:=lw (e:=170) (size:=1) (base:=N+1+1) w1 (madeCells #[O ⟨#[]⟩] (Z ts)) (Z ts) (by omega) (by unfold maxLen;omega) (by rw[size_madeCells];omega);rw[SE,M]at h;rw[Ut];exact h
 have R:=Ab (j.alloc (j2 (madeCells #[O ⟨#[]⟩] (Z ts)) 170));have G:=Ab (c.alloc (j2 (madeCells #[O ⟨#[]⟩] (Z ts)) 170));have m:=Ab (Q.alloc (j2 (madeCells #[O ⟨#[]⟩] (Z ts)) 170));clear j c Q c2 M;generalize w1.alloc (j2 (madeCells #[O ⟨#[]⟩] (Z ts)) 170)=w2 at l R G m⊢
 go_loopg [15] (Z ts) (λgk i wr=>∃(k:Nat),i=X J k/\k<=Z ts/\gk=Z ts-k/\lO (lQ wr (N+1+1) 170 1 (.slice (V ⟨N+1+1,0,Y⟩) (Z ts) (Z ts)) (Z ts) (E8 b ts k))/\lO (AH wr N [X J f,O nm,.slice a (Z ts) d] 187)/\lO (AH wr (N+1) [O ⟨#[]⟩,.slice Y 0 0] 104)/\lO (Ac [] w wr))
 case atStart=>exact⟨0,rfl,by omega,rfl,l,R,G,m⟩
 case round=>
  clear l R G m;obtain⟨k,rfl,H,AT,l,j,c,x⟩:=hrel;have HG:=Ab AT;clear AT;by_cases z:k<Z ts
  .obtain⟨g,HO,he,d0,d1⟩:=EZ (Ad HH x (by simp)) k z;simp only[gM]at he;obtain⟨rfl,_,rfl⟩:=he;obtain⟨T,F⟩:∃T,ts[k]=T:=⟨_,rfl⟩;have m:=Ab (x.alloc (j2 #[X lS T.v,O T.s] 215));have L:=Ab (HT T (by rw[<-F];exact gL z) _ m);(have P:lO ((E8 b ts k).set k (O (Bz b T))=E8 b ts (k+1)):=by rw[<-F];exact WX b ts k z);rw[F]at d0 d1;obtain⟨n,hV⟩:∃n,Bz b T=n:=⟨_,rfl⟩;rw[hV]at L P;clear F hV;(have HQ:(0:Int)<=(k:Int):=by omega);(have HR:(k:Int)<(Z ts:Int):=by omega);(go_wp2_with fail);refine L.mono ?_;rintro _ w3 ⟨rfl,I⟩;have D:Ac [] wr w3:=((me [] wr).alloc _).trans I;have E:=Ad l D (by simp);have DT:=Ab (j.kept D (by simp));have W:=Ab (c.kept D (by simp));have B9:=Ab (m.trans I);have y0:=E.cellAt k (by omega);have yf:=E.frozenAt k;(have CC:k<Z (E8 b ts k):=by rw[V7 b ts k H];exact z);rw[gS CC]at y0;generalize(E8 b ts k)[k]=U at y0;have HB:lO (lQ (w3.setCell ⟨N+1+1,k,Y⟩ (O n)) (N+1+1) 170 1 (.slice (V ⟨N+1+1,0,Y⟩) (Z ts) (Z ts)) (Z ts) (E8 b ts (k+1))):=by
    rw[<-Aa P];exact Bw E k _
   have HE:=Ab (DT.zB ⟨N+1+1,k,Y⟩ (show N+1+1≠N by omega) (O n));have HD:=Ab (W.zB ⟨N+1+1,k,Y⟩ (show N+1+1≠N+1 by omega) (O n));have FB:=Ab (B9.setCell (p:=⟨N+1+1,k,Y⟩) (ly (by have:=Aa u;show _<=N+1+1;omega)) (O n));clear L m x I D E d0 d1 j c l DT W B9 P CC;go_wp2
   go_roundg (Z ts-(k+1))
   case measure=>have:=Aa HG;omega
   case rel=>exact⟨k+1,by go_num,by omega,rfl,HB,HE,HD,FB⟩
  ·(have FP:k=Z ts:=by omega);subst FP;have c1:=j.cell 1;have e0:=c.cell 0;have e1:=c.cell 1;have ef:=c.frozen;simp at c1 e0 e1;have Ha:lO (AH ((wr.setCell ⟨N+1,0,Y⟩ (O nm)).setCell ⟨N+1,1,Y⟩ (.slice (V ⟨N+1+1,0,Y⟩) (Z ts) (Z ts))) (N+1) [O nm,.slice (V ⟨N+1+1,0,Y⟩) (Z ts) (Z ts)] 104):=(c.set 0 _).set 1 _;have HA:lO (lQ ((wr.setCell ⟨N+1,0,Y⟩ (O nm)).setCell ⟨N+1,1,Y⟩ (.slice (V ⟨N+1+1,0,Y⟩) (Z ts) (Z ts))) N 170 1 (.slice (V ⟨N+1+1,0,Y⟩) (Z ts) (Z ts)) (Z ts) ((ts.map (Bz b)).flatMap Ah)):=by
    have h:=Aa l;rw[WZ]at h;(have C:∀q,(Value.slice (V ⟨N+1+1,0,Y⟩) (Z ts) (Z ts)).ownBlock=V q->q≠N+1:=λq hq=>by have:=(h.lt q hq).1;omega);exact Am (Ag (Ag h (λh=>C _ h rfl) _) (λh=>C _ h rfl) _) (by have:=Aa u;omega)
   have FC:=Ab ((x.setCell (p:=⟨N+1,0,Y⟩) (ly (by have:=Aa u;show _<=N+1;omega)) (O nm)).setCell (p:=⟨N+1,1,Y⟩) (ly (by have:=Aa u;show _<=N+1;omega)) (.slice (V ⟨N+1+1,0,Y⟩) (Z ts) (Z ts)));clear j c l x;go_wp2;exact im (BR rfl rfl Ha underlying104 rfl (by kernel_rfl)) rfl ⟨N+1+1,rfl,HA,FC⟩
def BH{P:Program}{ops:Array Oper}{e:mc Oper}{op:Oper}{a:Act}{w:l9}{Q:Exit->Act->l9->Prop}(g:Region.wanted op (yielded ops a.tmps)=j1)(c:TypeId)(x:Operand)(i:op.op=.load c x)
  (b o:Nat) (n:a.eval x=kt (V ⟨b,o,Y⟩)) (cs:mc lN) (d:TypeDesc) (l:w.rangeAt b o cs)
  (k:P.underlying c=V d) (f:d.isRow=j1) (m:(P.info? c).map (·.size)=V (Z cs))
  (h:wpList P ops Q e (a.put op.dst (lR (j3 cs))) w):wpList P ops Q (op::e) a w:=
 wpList_step λp j=>by rw[gY g];exact wp_load_mid c x i b o n cs d l k f m (j _ _ h)
def EV(b:mc zA)(x:PL):CG:=⟨x.an,x.ts.map (Bz b)⟩
def JN(fs:mc EN)(b:mc zA)(x:PL)(B:Bool):Prop:=
 if x.sort=0 then∃p,Gg fs (EV b x) p/\B=Ev fs (EV b x) p
 else if x.sort=1 then∃p,Gg fs (EV b x) p/\B= !Ev fs (EV b x) p
 else if x.sort=2 then B=((Bz b x.l).toList==(Bz b x.r).toList)
 else if x.sort=3 then B= !((Bz b x.l).toList==(Bz b x.r).toList)
 else B=Op.bytesLess (Bz b x.l).toList (Bz b x.r).toList
structure Om(w:l9)(sp kb ko:Nat)(bv ov:lN)(sad:Option Addr)(scp:Nat)(fs:mc EN):Prop where
 zO:AH w sp [kt (V ⟨kb,ko,Y⟩),bv,ov] 237
 set:lP w ⟨kb,ko,Y⟩=V (U sad (Z fs) scp)
 facts:Iw w (U sad (Z fs) scp) fs
def Om.kept{w w':l9}{a d c:Nat}{g e:lN}{f:Option Addr}{b:Nat}{fs:mc EN}(h:Om w a d c g e f b fs)(k:Ac [] w w'):Om w' a d c g e f b fs:=⟨h.zO.kept k (by simp),k.cellAt h.set,h.facts.kept k⟩
theorem Ws(sp T S:Nat)(bv ov:lN)(HY:Option Addr)(HO:Nat)(fs:mc EN)(x:PL)(k:Option Addr)(m:Nat)(b:mc zA)(w:l9)(L:Z b=26)(hS:Om w sp T S bv ov HY HO fs)(hx:J1 w 0 (x,U k (Z x.ts) m))(K3:Z fs<=900000)(IS:Z x.ts<=1000)(HR:∀t∈x.ts,OE t)(HU:OE x.l)(HJ:OE x.r)
  (HP:∀i j (hi:i<Z fs) (hj:j<Z fs),i<=j->Cm fs[j].f (EV b x)<0->Cm fs[i].f (EV b x)<0):
  Calls prog 205 #[kt (V ⟨sp,0,Y⟩),lR (j3 (Aw (x,U k (Z x.ts) m))),lR (j3 (Aj b))] w λr C=>∃B,r=lo (lT B)/\JN fs b x B/\Ac [] w C:=by
 have HG:=Ab hS;have EM:lO (∀d a,Ac [] w a->AH a d (Aj b) 243->Calls prog 196 #[kt (V ⟨d,0,Y⟩),lR #[X J x.ap,O x.an,U k (Z x.ts) m]] a λr C=>∃g,r=lo (lR #[O x.an,U (V ⟨g,0,Y⟩) (Z x.ts) (Z x.ts)])/\lQ C a.heap.size 170 1 (U (V ⟨g,0,Y⟩) (Z x.ts) (Z x.ts)) (Z x.ts) ((x.ts.map (Bz b)).flatMap Ah)/\Ac [] a C):=λd a G R=>Na d 243 b x.ap x.an k m x.ts 0 a L R (Ad hx G (by simp)) (by omega) HR
 have FO:lO (∀g a,Ac [] w a->lQ a 0 170 1 (U (V ⟨g,0,Y⟩) (Z x.ts) (Z x.ts)) (Z x.ts) ((x.ts.map (Bz b)).flatMap Ah)->Calls prog 60 #[kt (V ⟨T,S,Y⟩),lR #[O x.an,U (V ⟨g,0,Y⟩) (Z x.ts) (Z x.ts)]] a λe C=>∃p:Nat,e=lo (lT (Ev fs (EV b x) p))/\Gg fs (EV b x) p/\Ac [] a C):=by
  intro g a G hr;have HI:=hS.kept G;have H2:DS a ⟨EV b x,U (V ⟨g,0,Y⟩) (Z x.ts) (Z x.ts)⟩:=by
   show lQ a 0 170 1 _ (Z (x.ts.map (Bz b))) _;rw[ie];exact hr
  exact Ng T S HY HO fs ⟨EV b x,U (V ⟨g,0,Y⟩) (Z x.ts) (Z x.ts)⟩ a HI.set HI.facts H2 (by show Z (x.ts.map (Bz b))<=1000;rw[ie];exact IS) (by omega) HP
 have HT:lO (∀d (t:AQ) a,OE t->AH a d (Aj b) 243->Calls prog 180 #[kt (V ⟨d,0,Y⟩),lR #[X lS t.v,O t.s]] a λr C=>r=lo (O (Bz b t))/\Ac [] a C):=λd t a hv R=>KA d 243 b t a L R hv
 have HW:=Ab HU;have HE:=Ab HJ;have I:lO (∀B,JN fs b x B=(if x.sort=0 then∃p,Gg fs (EV b x) p/\B=Ev fs (EV b x) p
 else if x.sort=1 then∃p,Gg fs (EV b x) p/\B= !Ev fs (EV b x) p
 else if x.sort=2 then B=((Bz b x.l).toList==(Bz b x.r).toList)
 else if x.sort=3 then B= !((Bz b x.l).toList==(Bz b x.r).toList)
 else B=Op.bytesLess (Bz b x.l).toList (Bz b x.r).toList)):=λB=>rfl
 generalize EV b x=FC at FO I;generalize JN fs b x=HC at I⊢;have hc:=Bv b;have hl:Z (Aj b)=26:=by unfold Aj;simp[L]
 obtain⟨E,hE⟩:∃E,Aj b=E:=⟨_,rfl⟩;rw[hE]at hc hl EM HT⊢;clear hS hx HR HU HJ HP hE;obtain⟨M,c,F,D,A,⟨u,n⟩,⟨o,q⟩⟩:=x;simp only[Aw]at*;have EX:lO (∀d a,AH a d E 243->Calls prog 180 #[kt (V ⟨d,0,Y⟩),lR #[X lS u,O n]] a λr C=>r=lo (O (Bz b ⟨u,n⟩))/\Ac [] a C):=λd a R=>HT d ⟨u,n⟩ a HW R
 have FP:lO (∀d a,AH a d E 243->Calls prog 180 #[kt (V ⟨d,0,Y⟩),lR #[X lS o,O q]] a λr C=>r=lo (O (Bz b ⟨o,q⟩))/\Ac [] a C):=λd a R=>HT d ⟨o,q⟩ a HE R
 generalize Bz b ⟨u,n⟩=VL at EX I;generalize Bz b ⟨o,q⟩=VR at FP I;clear HT HW HE;have AT:lO (AH ((w.alloc (j2 [X J M,X J c,X J F,O D,U k (Z A) m,X lS u,O n,X lS o,O q].toArray 217)).alloc (j2 (j3 E) 243)) w.heap.size [X J M,X J c,X J F,O D,U k (Z A) m,X lS u,O n,X lS o,O q] 217):=(mf w [X J M,X J c,X J F,O D,U k (Z A) m,X lS u,O n,X lS o,O q] 217).alloc _;have A0:lO (AH ((w.alloc (j2 [X J M,X J c,X J F,O D,U k (Z A) m,X lS u,O n,X lS o,O q].toArray 217)).alloc (j2 (j3 E) 243)) (w.heap.size+1) E 243):=by
  have h:=mf (w.alloc (j2 [X J M,X J c,X J F,O D,U k (Z A) m,X lS u,O n,X lS o,O q].toArray 217)) E 243;simp only[iz]at h;exact h
 have HK:=Ab (((me [] w).alloc (j2 [X J M,X J c,X J F,O D,U k (Z A) m,X lS u,O n,X lS o,O q].toArray 217)).alloc (j2 (j3 E) 243));go_enter func205,ntmps205;apply wp_seq_k;intro KK HX;have HD:=Ab HX;clear HX;go_wp2;refine HD _ _ ?_;clear HD KK;change Code.wp _ _ _ _ ((w.alloc (j2 [X J M,X J c,X J F,O D,U k (Z A) m,X lS u,O n,X lS o,O q].toArray 217)).alloc (j2 (j3 E) 243));generalize((w.alloc (j2 [X J M,X J c,X J F,O D,U k (Z A) m,X lS u,O n,X lS o,O q].toArray 217)).alloc (j2 (j3 E) 243))=w1 at AT A0 HK⊢;generalize w.heap.size=N at AT A0⊢;have HS:lO (∀a,Ac [] w1 a->lP a ⟨N,5,Y⟩=V (X lS u)/\lP a ⟨N,6,Y⟩=V (O n)/\lP a ⟨N,7,Y⟩=V (X lS o)/\lP a ⟨N,8,Y⟩=V (O q)):=by
  intro a G;have L:=AT.kept G (by simp);have c5:=L.cell 5;have c6:=L.cell 6;have c7:=L.cell 7;have c8:=L.cell 8;simp at c5 c6 c7 c8;exact⟨c5,c6,c7,c8⟩
 go_wp2_with fail
 go_region_held3 (λa=>Ac [] w1 a/\lP a ⟨N,5,Y⟩=V (X lS u)/\lP a ⟨N,6,Y⟩=V (O n)/\lP a ⟨N,7,Y⟩=V (X lS o)/\lP a ⟨N,8,Y⟩=V (O q)) ((go_split_ands;refine(fun(P:Ac [] w1 _)=>And.intro P (HS _ P)) ?_;repeat (first|assumption|exact me [] _|refine Ac.drew ?_|refine Ac.alloc ?_ _))) ((go_at_call 180;first
  |((with_reducible show Calls _ _ #[_,lR #[X lS u,O n]] _ _);refine(EX (N+1) _ (A0.kept (by go_split_ands;assumption) (by simp))).mono ?_;rintro _ w3 ⟨rfl,k3⟩;have IJ:Ac [] w1 w3:=(by go_split_ands;exact Ac.trans (by assumption) k3);clear k3)
  |((with_reducible show Calls _ _ #[_,lR #[X lS o,O q]] _ _);refine(FP (N+1) _ (A0.kept (by go_split_ands;assumption) (by simp))).mono ?_;rintro _ y ⟨rfl,k4⟩;have Q:Ac [] w1 y:=(by go_split_ands;exact Ac.trans (by assumption) k4);clear k4)))
 rename_i H9;clear H9 IJ EX FP HS;have d1:=(AT.kept Q (by simp)).cell 1;simp at d1;by_cases W:c=0
 .have K1:(c==0)=j1:=by simp[W]
  have H:=AT.kept Q (by simp);have q2:=H.cell 2;have q3:=H.cell 3;have q4:=H.cell 4;simp at q2 q3 q4;have z:lO (Ac [] w y):=HK.trans Q;have Ha:lO (∀a,Ac [] y a->lP a ⟨sp,0,Y⟩=V (kt (V ⟨T,S,Y⟩))/\lP a ⟨N,2,Y⟩=V (X J F)/\lP a ⟨N,3,Y⟩=V (O D)/\lP a ⟨N,4,Y⟩=V (U k (Z A) m)):=by
   intro a G;have hs:=(HG.kept (z.trans G)).zO.cell 0;have hn:=H.kept G (by simp);have r2:=hn.cell 2;have r3:=hn.cell 3;have r4:=hn.cell 4;simp at hs r2 r3 r4;exact⟨hs,r2,r3,r4⟩
  have FF:=Ab (A0.kept Q (by simp));clear H q2 q3 q4;go_wp2_with fail
  go_region_held3 (λa=>Ac [] y a/\lP a ⟨sp,0,Y⟩=V (kt (V ⟨T,S,Y⟩))/\lP a ⟨N,2,Y⟩=V (X J F)/\lP a ⟨N,3,Y⟩=V (O D)/\lP a ⟨N,4,Y⟩=V (U k (Z A) m)) ((go_split_ands;refine(fun(P:Ac [] y _)=>And.intro P (Ha _ P)) ?_;repeat (first|assumption|exact me [] _|refine Ac.drew ?_|refine Ac.alloc ?_ _))) ((first
   |(go_at_call 196;refine(EM (N+1) _ (z.trans (by go_split_ands;assumption)) (FF.kept (by go_split_ands;assumption) (by simp))).mono ?_;rintro _ w5 ⟨g5,rfl,BA,k5⟩;have H8:Ac [] y w5:=(by go_split_ands;exact Ac.trans (by assumption) k5);have Go:=Ab (Am BA (ik _));clear k5 BA)
   |(go_at_call 60;refine(FO g5 _ (z.trans (by go_split_ands;assumption)) Go).mono ?_;rintro _ w6 ⟨p6,rfl,hcut,k6⟩;have FA:Ac [] y w6:=(by go_split_ands;exact Ac.trans (by assumption) k6);have FL:=Ab hcut;clear k6 hcut)))
  go_wp2;go_ret;refine⟨_,rfl,?_,z.trans FA⟩;rw[Aa I];rw[gY W];exact⟨p6,FL,rfl⟩
 .have K1:(c==0)=K:=by simp[W]
  by_cases h1:c=1
  ·(have JJ:(c==1)=j1:=by simp[h1]);have H:=AT.kept Q (by simp);have q2:=H.cell 2;have q3:=H.cell 3;have q4:=H.cell 4;simp at q2 q3 q4;have z:lO (Ac [] w y):=HK.trans Q;have Ha:lO (∀a,Ac [] y a->lP a ⟨sp,0,Y⟩=V (kt (V ⟨T,S,Y⟩))/\lP a ⟨N,2,Y⟩=V (X J F)/\lP a ⟨N,3,Y⟩=V (O D)/\lP a ⟨N,4,Y⟩=V (U k (Z A) m)):=by
    intro a G;have hs:=(HG.kept (z.trans G)).zO.cell 0;have hn:=H.kept G (by simp);have r2:=hn.cell 2;have r3:=hn.cell 3;have r4:=hn.cell 4;simp at hs r2 r3 r4;exact⟨hs,r2,r3,r4⟩
   have FF:=Ab (A0.kept Q (by simp));clear H q2 q3 q4;go_wp2_with fail
   go_region_held3 (λa=>Ac [] y a/\lP a ⟨sp,0,Y⟩=V (kt (V ⟨T,S,Y⟩))/\lP a ⟨N,2,Y⟩=V (X J F)/\lP a ⟨N,3,Y⟩=V (O D)/\lP a ⟨N,4,Y⟩=V (U k (Z A) m)) ((go_split_ands;refine(fun(P:Ac [] y _)=>And.intro P (Ha _ P)) ?_;repeat (first|assumption|exact me [] _|refine Ac.drew ?_|refine Ac.alloc ?_ _))) ((first
    |(go_at_call 196;refine(EM (N+1) _ (z.trans (by go_split_ands;assumption)) (FF.kept (by go_split_ands;assumption) (by simp))).mono ?_;rintro _ w5 ⟨g5,rfl,BA,k5⟩;have H8:Ac [] y w5:=(by go_split_ands;exact Ac.trans (by assumption) k5);have Go:=Ab (Am BA (ik _));clear k5 BA)
    |(go_at_call 60;refine(FO g5 _ (z.trans (by go_split_ands;assumption)) Go).mono ?_;rintro _ w6 ⟨p6,rfl,hcut,k6⟩;have FA:Ac [] y w6:=(by go_split_ands;exact Ac.trans (by assumption) k6);have FL:=Ab hcut;clear k6 hcut)))
   go_wp2;go_ret;refine⟨_,rfl,?_,z.trans FA⟩;rw[Aa I];rw[gV W,gY h1];exact⟨p6,FL,rfl⟩
  ·(have JJ:(c==1)=K:=by simp[h1]);have z:lO (Ac [] w y):=HK.trans Q;by_cases h2:c=2
   ·(have H6:(c==2)=j1:=by simp[h2]);go_wp2;go_ret;refine⟨_,rfl,?_,z⟩;rw[Aa I,gV W,gV h1,gY h2]
   ·(have H6:(c==2)=K:=by simp[h2]);by_cases h3:c=3
    ·(have H0:(c==3)=j1:=by simp[h3]);go_wp2;go_ret;refine⟨_,rfl,?_,z⟩;rw[Aa I,gV W,gV h1,gV h2,gY h3]
    ·(have H0:(c==3)=K:=by simp[h3]);go_wp2;go_ret;refine⟨_,rfl,?_,z⟩;rw[Aa I,gV W,gV h1,gV h2,gV h3]
def Fd(fs:mc EN)(b:mc zA):mc PL->Bool->Prop
 |[],B=>B=K
 |x::l,B=>if Gk b (AL x)then∃H,JN fs b x H/\(if H then Fd fs b l B else B=j1)else Fd fs b l B
def TI{w:l9}{base:Nat}{C:lN}{ls:mc Ks}(h:BP w base C ls)(k:Nat)(a:k<Z ls):
  ∃g n x d f,C=U (V ⟨g,0,Y⟩) (Z ls) n/\ls[k]=(x,U d (Z x.ts) f)/\J1 w base (x,U d (Z x.ts) f)/\
   lP w ⟨g,k*9,Y⟩=V (X J x.place)/\lP w ⟨g,k*9+1,Y⟩=V (X J x.sort)/\lP w ⟨g,k*9+2,Y⟩=V (X J x.ap)/\lP w ⟨g,k*9+3,Y⟩=V (O x.an)/\lP w ⟨g,k*9+4,Y⟩=V (U d (Z x.ts) f)/\
   lP w ⟨g,k*9+5,Y⟩=V (X lS x.l.v)/\lP w ⟨g,k*9+6,Y⟩=V (O x.l.s)/\lP w ⟨g,k*9+7,Y⟩=V (X lS x.r.v)/\lP w ⟨g,k*9+8,Y⟩=V (O x.r.s):=by
 obtain⟨g,n,D,_,b⟩:=AF h.row (λc _=>rfl) k a;have u:=(h.each _ (gL a)).1;have t:=b k a 0 (by omega);have m:=b k a 1 (by omega);have i:=b k a 2 (by omega);have j:=b k a 3 (by omega);have A:=b k a 4 (by omega);have y:=b k a 5 (by omega);have q:=b k a 6 (by omega);have o:=b k a 7 (by omega);have z:=b k a 8 (by omega);obtain⟨⟨x,E⟩,B⟩:∃p,ls[k]=p:=⟨_,rfl⟩;rw[B]at t m i j A y q o z u;obtain⟨d,f,e⟩:=Al u;simp only at e;subst e;simp[Aw]at t m i j A y q o z;exact⟨g,n,x,d,f,D,B,u,t,m,i,j,A,y,q,o,z⟩
structure OK(x:PL):Prop where
 len:Z x.ts<=1000
 ts:∀t∈x.ts,OE t
 l:OE x.l
 r:OE x.r
def OK.zQ{x:PL}(h:OK x):(∀t∈AL x,OE t)/\Z (AL x)<=100000:=by
 unfold AL;split
 .exact⟨h.ts,by have:=h.len;omega⟩
 .refine⟨λt a=>?_,by simp⟩;simp only[gP,iU,or_false]at a;rcases a with rfl|rfl
  .exact h.l
  .exact h.r
theorem Xg(G kb ko:Nat)(HI:Option Addr)(EK:Nat)(ls:mc Ks)(ov:lN)(H5:Option Addr)(HQ:Nat)(fs:mc EN)(b:mc zA)(w:l9)(T:Z b=26)(hS:Om w G kb ko (U HI (Z ls) EK) ov H5 HQ fs)(L:BP w 0 (U HI (Z ls) EK) ls)(Jx:Z fs<=900000)(Mo:Z ls<=1000)(hl:∀p∈ls,OK p.1)
  (H0:∀(HC:CG) i j (hi:i<Z fs) (hj:j<Z fs),i<=j->Cm fs[j].f HC<0->Cm fs[i].f HC<0):
  Calls prog 177 #[kt (V ⟨G,0,Y⟩),lR (j3 (Aj b))] w λr t=>∃B,r=lo (lT B)/\Fd fs b (ls.map lW) B/\Ac [] w t:=by
 have KS:=Ab hS;have HT:=Ab L;have JJ:lO (∀(x:PL) c d a,Ac [] w a->J1 w 0 (x,U c (Z x.ts) d)->Calls prog 137 #[lR (j3 (Aw (x,U c (Z x.ts) d)))] a λe t=>∃H6 HO,e=lo (U H6 (Z (AL x)) HO)/\lQ t 0 215 2 (U H6 (Z (AL x)) HO) (Z (AL x)) ((AL x).flatMap Aq)/\Ac [] a t):=λx c d a u hx=>LQ x c d a (hx.kept u (by simp))
 have EU:lO (∀F (x:PL) c d a,OK x->AH a F (Aj b) 243->lQ a 0 215 2 (U c (Z (AL x)) d) (Z (AL x)) ((AL x).flatMap Aq)->Calls prog 204 #[kt (V ⟨F,0,Y⟩),U c (Z (AL x)) d] a λr t=>r=lo (lT (Gk b (AL x)))/\Ac [] a t):=λF x c d a n L hr=>UC F 243 b c d (AL x) 0 a T L hr n.zQ.2 n.zQ.1
 have Ha:lO (∀(x:PL) c d a,Ac [] w a->OK x->J1 w 0 (x,U c (Z x.ts) d)->Calls prog 205 #[kt (V ⟨G,0,Y⟩),lR (j3 (Aw (x,U c (Z x.ts) d))),lR (j3 (Aj b))] a λr t=>∃B,r=lo (lT B)/\JN fs b x B/\Ac [] a t):=λx c d a u n hx=>Ws G kb ko _ ov H5 HQ fs x c d b a T (hS.kept u) (hx.kept u (by simp)) Jx n.len n.ts n.l n.r (H0 _)
 have K5:=Ab hl;have n:=Bv b;have HS:Z (Aj b)=26:=by unfold Aj;simp[T]
 have FP:=Ab HS;obtain⟨E,hE⟩:∃E,Aj b=E:=⟨_,rfl⟩;rw[hE]at n HS FP EU Ha⊢;have z:=Ab (mf w E 243);have q:=Ab ((me [] w).alloc (j2 (j3 E) 243));clear hE hS L hl H0;obtain⟨s,B0⟩:∃s:Bool->Prop,s=Fd fs b (ls.map lW):=⟨_,rfl⟩;have C:lO (∀B,Fd fs b ((ls.drop 0).map lW) B->s B):=λB h=>by rw[B0];exact h
 rw[<-B0];clear B0;go_enter func177,ntmps177;apply wp_seq_k;intro KK H4;have DT:=Ab H4;clear H4;go_wp2;refine DT _ _ ?_;clear DT KK;generalize w.alloc (j2 (j3 E) 243)=w1 at z q⊢;generalize w.heap.size=N at z⊢;have s1:=(KS.kept q).zO.cell 1;simp at s1;go_wp2_with fail
 go_loopg [12] (Z ls) (λgk i wr=>∃(k:Nat),i=X J k/\k<=Z ls/\gk=Z ls-k/\lO (∀B,Fd fs b ((ls.drop k).map lW) B->s B)/\lO (AH wr N E 243)/\lO (Ac [] w wr))
 case atStart=>exact⟨0,rfl,by omega,rfl,C,z,q⟩
 case round=>
  clear C z q s1;obtain⟨k,rfl,u,H3,C,z,q⟩:=hrel;have HG:=Ab H3;clear H3;by_cases AO:k<Z ls
  .obtain⟨g,MB,x,v,A,he,W,_,d0,d1,d2,d3,d4,d5,d6,d7,d8⟩:=TI (HT.kept q (by simp)) k AO;simp only[gM]at he;obtain⟨rfl,_,rfl⟩:=he;(have A1:(x,U v (Z x.ts) A)∈ls:=by rw[<-W];exact gL AO);have A2:=Aa K5 _ A1;have AT:J1 w 0 (x,U v (Z x.ts) A):=(HT.each _ A1).1;have o:lO (∀B,(if Gk b (AL x)then∃H,JN fs b x H/\(if H then Fd fs b ((ls.drop (k+1)).map lW) B else B=j1)else Fd fs b ((ls.drop (k+1)).map lW) B)->s B):=by
    intro B h;refine C B ?_;rw[ij AO,ii,W];exact h
   have P:=Ab (q.alloc (j2 (j3 (Aw (x,U v (Z x.ts) A))) 217));have BT:=Ab (z.alloc (j2 (j3 (Aw (x,U v (Z x.ts) A))) 217));have BA:=Ab (mf wr (Aw (x,U v (Z x.ts) A)) 217);have I:=Ab (JJ x v A _ P AT);have A0:=Ab (λc d a=>EU N x c d a A2);have D:=Ab (λa u=>Ha x v A a u A2 AT);generalize AL x=TL at I A0 o;generalize JN fs b x=HX at D o;obtain⟨pl,so,ap,an,ts,⟨lv,LL⟩,⟨rv,MN⟩⟩:=x;simp only[Aw]at P BT BA I D d0 d1 d2 d3 d4 d5 d6 d7 d8;clear W A1 A2 AT C;(go_wp2_with fail);refine I.mono ?_;rintro _ w3 ⟨IS,K3,rfl,HD,M⟩;have HZ:=Ab (P.trans M);have Bx:=Ab (BT.kept M (by simp));have HH:=Ab (BA.kept M (by simp));have H2:=Ab (A0 IS K3 w3 Bx HD);clear I A0 P BT BA HD M d0 d1 d2 d3 d4 d5 d6 d7 d8 q z;(go_wp2_with fail);refine H2.mono ?_;rintro _ w4 ⟨rfl,R⟩;have S:=Ab (HZ.trans R);have Q:=Ab (Bx.kept R (by simp));have m:=HH.kept R (by simp);have e0:=m.cell 0;have e1:=m.cell 1;have e2:=m.cell 2;have e3:=m.cell 3;have e4:=m.cell 4;have e5:=m.cell 5;have e6:=m.cell 6;have e7:=m.cell 7;have e8:=m.cell 8;simp at e0 e1 e2 e3 e4 e5 e6 e7 e8;clear H2 HZ Bx HH R m;obtain⟨ST,EM⟩:∃ST,Gk b TL=ST:=⟨_,rfl⟩;rw[EM]at o⊢;clear EM;cases ST with
   |false=>
    (have y:lO (∀B,Fd fs b ((ls.drop (k+1)).map lW) B->s B):=λB h=>o B (by rw[gV (by simp)];exact h));clear o D;go_wp2
    go_roundg (Z ls-(k+1))
    case measure=>have:=Aa HG;omega
    case rel=>exact⟨k+1,by go_num,by omega,rfl,y,Q,S⟩
   |true=>
    have FF:=Ab (D w4 S);clear D;go_wp2_with ((with_reducible show wpList _ _ _ ({dst:=_,op:=Op.load 243 _,type:=_,pos:=_,after:=_,guard:=_}::_) _ _);refine BH (by rfl) 243 _ rfl N 0 (by rfl) E _ Q.range underlying243 rfl (by rw[Aa FP];exact Tryz.zH) ?_)
    refine FF.mono ?_;rintro _ w5 ⟨HB,rfl,EX,k5⟩;have HV:=Ab (S.trans k5);have K7:=Ab (Q.kept k5 (by simp));have H7:=Ab EX;clear FF k5 EX S Q e0 e1 e2 e3 e4 e5 e6 e7 e8;cases HB with
    |true=>
     (have y:lO (∀B,Fd fs b ((ls.drop (k+1)).map lW) B->s B):=λB h=>o B (by rw[gY True.intro];exact⟨j1,H7,h⟩));clear o;go_wp2
     go_roundg (Z ls-(k+1))
     case measure=>have:=Aa HG;omega
     case rel=>exact⟨k+1,by go_num,by omega,rfl,y,K7,HV⟩
    |false=>
     have y:lO (s j1):=o j1 (by rw[gY True.intro];exact⟨K,H7,rfl⟩);clear o;go_wp2;go_ret;exact⟨j1,rfl,y,HV⟩
  .have y:lO (s K):=C K (by rw[iC (by omega)];rfl);go_wp2;go_ret;exact⟨K,rfl,y,q⟩
abbrev Vp:=mc zA×lN
structure dV(w:l9)(lv:lN)(ps:mc Vp):Prop where
 row:lQ w 0 102 1 lv (Z ps) (ps.flatMap λp=>[p.2])
 each:∀p∈ps,lQ w 0 170 1 p.2 (Z p.1) (p.1.flatMap Ah)/\CE Fh p.1/\Z p.1<=10000
def dV.kept{w w':l9}{c:lN}{b:mc Vp}(h:dV w c b)(k:Ac [] w w'):dV w' c b:=⟨Ad h.row k (by simp),λp a=>⟨Ad (h.each p a).1 k (by simp),(h.each p a).2⟩⟩
def cZ{w:l9}{m:lN}{a:mc Vp}(h:dV w m a)(k:Nat)(b:k<Z a):∃g l i f,m=U (V ⟨g,0,Y⟩) (Z a) l/\lP w ⟨g,k,Y⟩=V (U i (Z (BJ (a.map lW) k)) f)/\lQ w 0 170 1 (U i (Z (BJ (a.map lW) k)) f) (Z (BJ (a.map lW) k)) ((BJ (a.map lW) k).flatMap Ah)/\CE Fh (BJ (a.map lW) k)/\Z (BJ (a.map lW) k)<=10000:=by
 obtain⟨g,l,n,_,r⟩:=AF h.row (λc _=>rfl) k b;have d:=r k b 0 (by omega);have o:BJ (a.map lW) k=a[k].1:=by
  unfold BJ;rw[ia,jf,gS b];rfl
 rw[o];obtain⟨j,p,q⟩:=h.each _ (gL b);obtain⟨i,f,e⟩:=Al j;rw[e]at j;simp[e]at d;exact⟨g,l,i,f,n,d,j,p,q⟩
def Yd{w:l9}{base:Nat}{v:lN}{l:mc Nat}(h:lQ w base 3 1 v (Z l) (l.flatMap CB))(k:Nat)(b:k<Z l):∃g a,v=U (V ⟨g,0,Y⟩) (Z l) a/\lP w ⟨g,k,Y⟩=V (X J (l[k]:Nat)):=by
 obtain⟨g,a,e,_,f⟩:=AF h (λc _=>rfl) k b;have d:=f k b 0 (by omega);simp[CB]at d;exact⟨g,a,e,d⟩
def Mr(a:mc Nat)(t v:Nat)(b:t<Z a):XQ (λi=>a.getD i 0) t v=λi=>(a.set t v).getD i 0:=by
 funext i
 unfold XQ;simp only[ia,List.getElem?_set];split
 .rename_i e;subst e;simp[b]
 .rename_i e;rw[gV (λh=>e h.symm)]
def KC(b:mc Nat)(t v:Nat):(b.set t v).flatMap CB=(b.flatMap CB).set t (X J (v:Nat)):=by
 have e:∀l:mc Nat,l.flatMap CB=l.map λn=>X J (n:Nat):=λl=>by
  induction l with
  |nil=>rfl
  |cons a l ih=>simp[CB,ih]
 rw[e,e,lL]
def Mh:∀l:mc Nat,l.flatMap CB=l.map λn=>X J (n:Nat)
 |[]=>rfl
 |a::l=>by simp only[il,ii,Mh l];rfl
def L2(a:mc Nat)(t:Nat)(h:t<Z a):(a.flatMap CB)[t]?=V (X J (a[t]:Nat)):=by
 rw[Mh,jf,gS h];rfl
def dU(ls:mc (mc zA))(s:zA)(h:∀l∈ls,Z l<=10000):Tx Fh s ls<=Z ls*10000:=by
 induction ls with
 |nil=>simp[Tx]
 |cons l ls ih=>
  have b:=ih (λq a=>h q (iB _ a));have c:=h l (iV ..);have d:eX Fh s l<=Z l:=lH;have e:Tx Fh s (l::ls)=eX Fh s l+Tx Fh s ls:=by unfold Tx;simp
  rw[e,gW,jS];omega
structure JL(ps:mc Vp)(m:mc zA):Prop where
 mem:∀y,y∈m↔(ps≠[]/\JI (ps.map lW) y)
 zL:m.Pairwise λa b=>Fh a b=j1
theorem Tryz.yC:(Tryz.prog.info? 3).map (λi=>(i.zero,i.size,i.bytes))=V (V (X J 0),1,8):=by kernel_rfl
theorem V3(lad:Option Addr)(lcp:Nat)(ps:mc Vp)(w:l9)(h:dV w (U lad (Z ps) lcp) ps)(hlen:Z ps<=1000):
  Calls prog 208 #[U lad (Z ps) lcp] w λr w'=>∃(ad:Option Addr) (cp:Nat) (m:mc zA),r=lo (U ad (Z m) cp)/\JL ps m/\lQ w' w.heap.size 170 1 (U ad (Z m) cp) (Z m) (m.flatMap Ah)/\Ac [] w w':=by
 obtain⟨i0,hi0,hz0,hz1,hz2⟩:=iR Tryz.zi;obtain⟨j0,hj0,hy0,hy1,hy2⟩:=iR Tryz.yC;have HL:=Ab h;obtain⟨N,hN⟩:∃N,w.heap.size=N:=⟨_,rfl⟩;rw[hN];have HN:=Ab hN;clear hN h;obtain⟨LS,hLS⟩:∃LS,ps.map lW=LS:=⟨_,rfl⟩;have hLl:Z LS=Z ps:=by rw[<-hLS,ie]
 have HLS:=Ab hLS;have HMx:lO (∀s,Tx Fh s LS<=Z ps*10000):=by
  intro s;have h1:=dU LS s (λl hl=>by
   rw[<-hLS]at hl
   obtain⟨p,hp,rfl⟩:=gX.1 hl
   exact(HL.each p hp).2.2)
  rw[hLl]at h1;exact h1
 have HOut:lO (∀m,(ps≠[]->(∀y,y∈m↔JI LS y))->(ps=[]->m=[])->m.Pairwise (λa b=>Fh a b=j1)->JL ps m):=by
  intro m h1 h2 h3;refine⟨λy=>?_,h3⟩;by_cases hp:ps=[]
  .rw[h2 hp];simp[hp]
  .rw[h1 hp y,<-hLS];exact⟨λh=>⟨hp,h⟩,λh=>h.2⟩
 by_cases h0:Z ps=0
 .have h0b:((Z ps:Int)==0)=j1:=by simp[h0]
  have h0c:(Z ps:Int)=0:=by omega
  have HE:lO (JL ps []):=HOut [] (λh=>absurd (jF.1 h0) h) (λ_=>rfl) List.Pairwise.nil;clear hLS;go_enter func208,ntmps208;go_wp2;go_ret;exact⟨none,0,[],rfl,HE,ip _ _ _ _,me _ _⟩
 .have hpos:0<Z ps:=by omega
  have h0b:((Z ps:Int)==0)=K:=by rw[iw];omega
  have h0c:¬(Z ps:Int)=0:=by omega
  have hpne:ps≠[]:=λe=>h0 (by rw[e];rfl)
  obtain⟨g,cap,ad0,cp0,he,e0,r0,q0,b0⟩:=cZ HL 0 hpos;simp only[gM]at he;obtain⟨rfl,-,rfl⟩:=he;rw[hLS]at e0 r0 q0 b0;have hi00:(0:Int)<(Z ps:Int):=by omega
  by_cases hz:Z (BJ LS 0)=0
  ·(have hzb:((Z (BJ LS 0):Int)==0)=j1:=by simp[hz]);(have hzc:(Z (BJ LS 0):Int)=0:=by omega);have HE:lO (JL ps []):=HOut [] (λ_ y=>by
    refine⟨λh=>by simp at h,λh=>?_⟩
    have h1:=h (BJ LS 0) (EP (by omega))
    rw[jF.1 hz]at h1
    exact h1) (λh=>absurd h hpne) List.Pairwise.nil
   clear hLS hz;go_enter func208,ntmps208;go_wp2;go_ret;exact⟨none,0,[],rfl,HE,ip _ _ _ _,me _ _⟩
  ·(have hzp:0<Z (BJ LS 0):=by omega);(have hzb:((Z (BJ LS 0):Int)==0)=K:=by rw[iw];omega);(have hzc:¬(Z (BJ LS 0):Int)=0:=by omega);(have hzi:(0:Int)<(Z (BJ LS 0):Int):=by omega);obtain⟨gz,cz,hez,z0⟩:=F1 r0 0 hzp;simp only[gM]at hez;obtain⟨rfl,-,rfl⟩:=hez;have EU:=Ab (OC.start FE (ls:=LS) (by omega) q0 hzp);obtain⟨s0,hs0⟩:∃s0,(BJ LS 0)[0]=s0:=⟨_,rfl⟩;rw[hs0]at EU z0;clear hs0 hLS r0 q0 hz;generalize Z (BJ LS 0)=L0 at e0 hzb hzc hzi;(have e0a:=λo=>((me [] w).alloc o).cellAt e0);(have z0a:=λo=>((me [] w).alloc o).cellAt z0);go_enter func208,ntmps208;go_wp2_with ((with_reducible show wpList _ _ _ ({dst:=_,op:=Op.makeSlice 221 _ _,type:=_,pos:=_,after:=_,guard:=_}::_) _ _);refine wpList_make_row _ rfl _ _ 221 rfl 3 j0 _ underlying221 hj0 hy0 hy1 rfl J J (Z ps) (by rfl) (by rfl) (by rw[hy2];omega) (by omega) ?_)
   have HPl:lO (lQ (w.alloc (j2 (madeCells #[.int J 0] (Z ps)) 3)) N 3 1 (U (V ⟨N,0,none⟩) (Z ps) (Z ps)) (Z ps) ((lV (Z ps) 0).flatMap CB)):=by
    have h:=lw (e:=3) (size:=1) (base:=N) w (madeCells #[.int J 0] (Z ps)) (Z ps) (by have:=Aa HN;omega) (by unfold maxLen;omega) (by rw[size_madeCells];omega);rw[SE,Aa HN]at h;have e:(lV (Z ps) 0).flatMap CB=lV (Z ps) (.int J 0):=by
     generalize Z ps=n
     induction n with
     |zero=>rfl
     |succ n ih=>rw[List.replicate_succ,il,ih,List.replicate_succ];rfl
    rw[e];exact h
   have HK0:=Ab ((me [] w).alloc (j2 (madeCells #[.int J 0] (Z ps)) 3));have HC0:lO (OC Fh LS 0 s0 0 (λi=>(lV (Z ps) 0).getD i 0) []):=by
    have e:(λi=>(lV (Z ps) 0).getD i 0)=λ_=>0:=by
     funext i
     rw[ia,List.getElem?_replicate];split<;>rfl
    rw[e];exact EU
   rw[Aa HN];clear e0 z0 e0a z0a EU hzb hzc hzi b0 hzp;generalize w.alloc (j2 (madeCells #[.int J 0] (Z ps)) 3)=w1 at HPl HK0⊢
   go_loopg [3,5,6,7] (Tx Fh s0 LS*(Z ps+1)+Z ps) (λgk cv sv av tv wr=>∃(t:Nat) (s:zA) (ag:Nat) (pl:mc Nat) (m:mc zA) (mad:Option Addr) (mcp:Nat),cv=U mad (Z m) mcp/\sv=O s/\av=.int J ag/\tv=.int J t/\gk=Tx Fh s LS*(Z ps+1)+(Z ps-ag)/\Z pl=Z ps/\Z m+Tx Fh s LS<=10000000/\lO (OC Fh LS t s ag (λi=>pl.getD i 0) m)/\lO (lQ wr N 3 1 (U (V ⟨N,0,none⟩) (Z ps) (Z ps)) (Z ps) (pl.flatMap CB))/\lO (lQ wr N 170 1 (U mad (Z m) mcp) (Z m) (m.flatMap Ah))/\lO (Ac [] w wr))
   case atStart=>exact⟨0,s0,0,lV (Z ps) 0,[],none,0,rfl,rfl,rfl,rfl,by simp,by simp,by have:=Aa HMx s0;simp;omega,HC0,HPl,ip _ _ _ _,HK0⟩
   case round=>
    clear HC0 HPl HK0;obtain⟨t,s,ag,pl,m,mad,mcp,rfl,rfl,rfl,rfl,hgk,hpl,hml,HC,HP,HM,HK⟩:=hrel;have HG:=Ab hgk;clear hgk;(have htk:t<Z ps:=by have:=HC.tk;omega);(have hagk:ag<Z ps:=by have:=HC.agk;omega);obtain⟨g',cap',adt,cpt,he',et,rt,qt,bt⟩:=cZ (HL.kept HK) t htk;simp only[gM,gT,iL]at he';obtain⟨⟨hgq,-,-⟩,-,-⟩:=he';subst hgq;rw[Aa HLS]at et rt qt bt;(have hP2:lQ wr N 3 1 (U (V ⟨N,0,none⟩) (Z ps) (Z ps)) (Z pl) (pl.flatMap CB):=by rw[hpl];exact HP);have hptl:pl.getD t 0<=Z (BJ LS t):=HC.ple t HC.tk;obtain⟨gp,cpp,hep,pt⟩:=Yd (l:=pl) (v:=U (V ⟨N,0,none⟩) (Z ps) (Z ps)) hP2 t (by omega);simp only[gM,gT,iL]at hep;obtain⟨⟨hgq,-,-⟩,-,-⟩:=hep;subst hgq;obtain⟨PT,hPT⟩:∃PT,pl[t]=PT:=⟨_,rfl⟩;(have hPD:pl.getD t 0=PT:=by rw[ia,gS (by omega),hPT];rfl);rw[hPT]at pt;rw[hPD]at hptl;have HLp:=Ab (Rv (U adt (Z (BJ LS t)) cpt) (BJ LS t) PT s 0 wr rt (by omega) hptl qt);have HQ:=Ab qt;have HRt:=Ab rt;have HPD:=Ab hPD;(have htr0:(0:Int)<=(t:Int):=by omega);(have htr1:(t:Int)<(Z ps:Int):=by omega);have pf:=HP.frozenAt t;have HLow:lO (∀q0 q1,adt=V ⟨q0,q1,none⟩->q0<N):=by
     intro q0 q1 hq;obtain⟨gw,_,adw,cpw,hew,ew,rw0,_,_⟩:=cZ HL t htk;simp only[gM,gT,iL]at hew;obtain⟨⟨hgq,-,-⟩,-,-⟩:=hew;subst hgq;have e2:=HK.cellAt ew;rw[Aa HLS,et]at e2;simp only[gT,gM]at e2;have h3:=(rw0.lt q0 (by rw[<-e2.1,hq];rfl)).2;rw[Aa HN]at h3;exact h3
    have HTm:lO (((t:Int)+1).tmod (Z ps:Int)=(E7 (Z ps) t:Int)/\((t:Int)+1)%(Z ps:Int)=(E7 (Z ps) t:Int)/\E7 (Z ps) t<Z ps):=by
     have h1:=aD htk;(have h2:((t:Int)+1)%(Z ps:Int)=(E7 (Z ps) t:Int):=by rw[<-h1,Int.natCast_emod,Int.natCast_add];rfl);exact⟨by rw[Int.tmod_eq_emod_of_nonneg (by omega)];exact h2,h2,Tt htk⟩
    clear hPT hP2 hPD qt rt;(go_wp2_with fail);refine HLp.mono ?_;rintro _ w2 ⟨at_,rfl,hleap,hw2⟩;have hw3:=hw2.symm;subst hw3;(have hleap2:C0 Fh (BJ LS t) ((λi=>pl.getD i 0) t) s at_:=by show C0 Fh (BJ LS t) (pl.getD t 0) s at_;rw[Aa HPD];exact hleap);have HLe:=Ab hleap2;have hal:=hleap.le;clear hleap hleap2 HLp;by_cases hend:at_=Z (BJ LS t)
    .have HE:lO (JL ps m):=HOut m (λ_=>HC.done HLe hend) (λh=>absurd h hpne) HC.zL;(have hendb:((at_:Int)==(Z (BJ LS t):Int))=j1:=by simp[hend]);(have hendc:(at_:Int)=(Z (BJ LS t):Int):=by omega);clear hend;go_wp2;go_ret;exact⟨mad,mcp,m,rfl,HE,HM,HK⟩
    ·(have halt:at_<Z (BJ LS t):=by omega);(have hendb:((at_:Int)==(Z (BJ LS t):Int))=K:=by rw[iw];omega);(have hendc:¬(at_:Int)=(Z (BJ LS t):Int):=by omega);(have har0:(0:Int)<=(at_:Int):=by omega);(have har1:(at_:Int)<(Z (BJ LS t):Int):=by omega);obtain⟨gx,cx,hex,x0⟩:=F1 HRt at_ halt;simp only[gM]at hex;obtain⟨rfl,-,rfl⟩:=hex;obtain⟨X,hX⟩:∃X,(BJ LS t)[at_]=X:=⟨_,rfl⟩;rw[hX]at x0;cases hsx:(X.toList==s.toList)with
     |true=>
      have hXs:X=s:=(Ej X s).1 hsx;have HMid:=Ab (HC.same HLe halt (by rw[hX,hXs]));(have hGl:Tx Fh X LS<=Tx Fh s LS:=by rw[hXs];exact ig _);subst hXs;clear hX HC;(have hag1:ag+1<=Z ps:=by omega);by_cases hall:ag+1=Z ps
      ·(have hallb:(((ag:Int)+1)==(Z ps:Int))=j1:=by rw[jA];omega);have hallc:((ag:Int)+1)=(Z ps:Int):=by omega
       skip
       skip
       (have hlall:ag+1=Z LS:=by omega);by_cases hlast:at_+1=Z (BJ LS t)
       ·(have hlb:(((at_:Int)+1)==(Z (BJ LS t):Int))=j1:=by rw[jA];omega);(have hlc:((at_:Int)+1)=(Z (BJ LS t):Int):=by omega);have HE:lO (JL ps (m++[X])):=HOut (m++[X]) (λ_=>HMid.last FE HQ hlall hlast) (λh=>absurd h hpne) (HMid.yO hlall).2;have hM:=Aa HM;clear hall hlast;go_wp2_with (at_builtin;refine io _ rfl (.tmp 65) (.tmp 67) _ rfl N 170 i0 _ 1 16 underlying102 hi0 hz0 hz1 hz2 rfl (by omega) (U mad (Z m) mcp) (Z m) (m.flatMap Ah) rfl (gU hM _) ⟨wr.heap.size,0,none⟩ 1 1 [O X] rfl rfl (iu (cs:=#[O X]) (t:=170) (fr:=(0,0)) (iD wr _)) (by simp[Value.oneCell']) (by omega) (by unfold maxLen;omega) (by omega) (by simp;have:=HK.size;have:=Aa HN;omega) (wr.heap.size+1) (by simp) ?_;intro g1 cp1 w9 ho1 hg1 ha1 hl1)
        go_ret;refine⟨V ⟨g1,0,none⟩,cp1,m++[X],by simp,HE,?_,(HK.alloc _).grown hg1 (λq hq=>ly (by have:=(hM.lt q hq).1;have:=Aa HN;omega))⟩;rw[ix];simp only[ib,gW,iv,iM,il,jh,iJ,Ah];exact ho1
       ·(have hlb:(((at_:Int)+1)==(Z (BJ LS t):Int))=K:=by rw[iw];omega);(have hlc:¬((at_:Int)+1)=(Z (BJ LS t):Int):=by omega);(have hgo:at_+1<Z (BJ LS t):=by omega);obtain⟨gy,cy,hey,y0⟩:=F1 HRt (at_+1) hgo;simp only[gM,gT,iL]at hey;obtain⟨⟨hgq,-,-⟩,-,-⟩:=hey;subst hgq;have hmore:=HMid.more FE HQ hlall hgo;obtain⟨Y,hY⟩:∃Y,(BJ LS t)[at_+1]=Y:=⟨_,rfl⟩;rw[hY]at y0 hmore;rw[Mr pl t (at_+1) (by omega),hLl]at hmore;have HCn:=Ab hmore.1;have hGm:=hmore.2;(have hyr0:(0:Int)<=(at_:Int)+1:=by omega);(have hyr1:(at_:Int)+1<(Z (BJ LS t):Int):=by omega);have hM:=Aa HM;have HYk:lO (∀w9,(wr.alloc (j2 #[O X] 170)).grownBy w9 (U mad (Z m) mcp).ownBlock->lP w9 ⟨gx,at_+1,none⟩=V (O Y)/\lQ w9 N 3 1 (U (V ⟨N,0,none⟩) (Z ps) (Z ps)) (Z ps) (pl.flatMap CB)):=by
         intro w9 hg9;refine⟨?_,(gU HP _).kept hg9 (ly (λe=>A7 HP hM (by decide) N rfl e.symm))⟩;have hgx:gx<N:=HLow _ _ (by rfl);(have hgw:gx<wr.heap.size:=by have:=HK.size;have:=Aa HN;omega);rw[hg9.cell_far ⟨gx,at_+1,none⟩ (by simp;omega) (λe=>by have:=(hM.lt gx e.symm).1;omega)];exact(((me [] wr).alloc _).cellAt y0)
        clear hall hlast hY hmore;go_wp2_with (at_builtin;refine io _ rfl (.tmp 65) (.tmp 67) _ rfl N 170 i0 _ 1 16 underlying102 hi0 hz0 hz1 hz2 rfl (by omega) (U mad (Z m) mcp) (Z m) (m.flatMap Ah) rfl (gU hM _) ⟨wr.heap.size,0,none⟩ 1 1 [O X] rfl rfl (iu (cs:=#[O X]) (t:=170) (fr:=(0,0)) (iD wr _)) (by simp[Value.oneCell']) (by omega) (by unfold maxLen;omega) (by omega) (by simp;have:=HK.size;have:=Aa HN;omega) (wr.heap.size+1) (by simp) ?_;intro g1 cp1 w9 ho1 hg1 ha1 hl1;have y9:=(HYk w9 hg1).1;have p9r:=(HYk w9 hg1).2;have p9c:=p9r.cellAt t (by omega);have p9f:=p9r.frozenAt t;rw[L2 pl t (by omega)]at p9c)
        have ht1:=HTm.1;have ht2:=HTm.2.1;have HS9:=Ab (((HYk w9 hg1).2).stored t (.int J ((at_+1:Nat):Int)));go_wp2
        go_roundg (Tx Fh Y LS*(Z ps+1)+Z ps)
        case measure=>
         have h1:=Aa HG;have h2:(Tx Fh Y LS+1)*(Z ps+1)<=Tx Fh X LS*(Z ps+1):=iS _ (by omega);rw[jS]at h2;omega
        case rel=>
         refine⟨E7 (Z ps) t,Y,0,pl.set t (at_+1),m++[X],V ⟨g1,0,none⟩,cp1,by simp,rfl,rfl,by first|rfl|exact congrArg _ HTm.2.1,by simp,by simp[hpl],by simp;omega,HCn,?_,?_,?_⟩
         .rw[KC];have h:=HS9.1;exact h
         .have hap:=A7 (HYk w9 hg1).2 ho1 (by decide) N rfl;have h9:lQ w9 N 170 1 (U (V ⟨g1,0,none⟩) (Z (m++[X])) cp1) (Z (m++[X])) ((m++[X]).flatMap Ah):=by
           rw[ix];simp only[ib,gW,iv,iM,il,jh,iJ,Ah];exact ho1
          exact Ai h9 (Ac.setCell (M:=[N]) (me [N] _) (lx (by simp)) _) (λq hq=>by simp only[gN];intro e;subst e;exact hap hq)
         .exact((HK.alloc _).grown hg1 (λq hq=>ly (by have:=(hM.lt q hq).1;have:=Aa HN;omega))).setCell (ly (by have:=Aa HN;simp;omega)) _
      ·(have hallb:(((ag:Int)+1)==(Z ps:Int))=K:=by rw[iw];omega);have hallc:¬((ag:Int)+1)=(Z ps:Int):=by omega
       skip
       skip
       have hnx:=HMid.next (by omega);rw[Mr pl t at_ (by omega),hLl]at hnx;have HCn:=Ab hnx;have ht1:=HTm.1;have ht2:=HTm.2.1;clear hall hnx;go_wp2
       go_roundg (Tx Fh X LS*(Z ps+1)+(Z ps-(ag+1)))
       case measure=>
        have h1:=Aa HG
        skip
        skip
        omega
       case rel=>
        refine⟨E7 (Z ps) t,X,ag+1,pl.set t at_,m,mad,mcp,rfl,rfl,by go_num,by first|rfl|exact congrArg _ HTm.2.1,rfl,by simp[hpl],by omega,HCn,?_,?_,?_⟩
        .rw[KC];exact(HP.stored t (.int J (at_:Int))).1
        .have hap:=A7 HP HM (by decide) N rfl;exact Ai HM (Ac.setCell (M:=[N]) (me [N] _) (lx (by simp)) _) (λq hq=>by simp only[gN];intro e;subst e;exact hap hq)
        .exact HK.setCell (ly (by have:=Aa HN;simp;omega)) _
     |false=>
      (have hXs:X≠s:=λe=>by rw[(Ej X s).2 e]at hsx;cases hsx);have hpast:=HC.past FE HQ HLe halt (by rw[hX];exact hXs);rw[hX]at hpast;have HMid:=Ab hpast.1;have hGl:=hpast.2;clear hX HC hpast hXs;(have hag1:0+1<=Z ps:=by omega);by_cases hall:0+1=Z ps
      ·(have hallb:(((0:Int)+1)==(Z ps:Int))=j1:=by rw[jA];omega);(have hallb1:((1:Int)==(Z ps:Int))=j1:=by rw[jA];omega);(have hlall:0+1=Z LS:=by omega);by_cases hlast:at_+1=Z (BJ LS t)
       ·(have hlb:(((at_:Int)+1)==(Z (BJ LS t):Int))=j1:=by rw[jA];omega);(have hlc:((at_:Int)+1)=(Z (BJ LS t):Int):=by omega);have HE:lO (JL ps (m++[X])):=HOut (m++[X]) (λ_=>HMid.last FE HQ hlall hlast) (λh=>absurd h hpne) (HMid.yO hlall).2;have hM:=Aa HM;clear hall hlast;go_wp2_with (at_builtin;refine io _ rfl (.tmp 65) (.tmp 67) _ rfl N 170 i0 _ 1 16 underlying102 hi0 hz0 hz1 hz2 rfl (by omega) (U mad (Z m) mcp) (Z m) (m.flatMap Ah) rfl (gU hM _) ⟨wr.heap.size,0,none⟩ 1 1 [O X] rfl rfl (iu (cs:=#[O X]) (t:=170) (fr:=(0,0)) (iD wr _)) (by simp[Value.oneCell']) (by omega) (by unfold maxLen;omega) (by omega) (by simp;have:=HK.size;have:=Aa HN;omega) (wr.heap.size+1) (by simp) ?_;intro g1 cp1 w9 ho1 hg1 ha1 hl1)
        go_ret;refine⟨V ⟨g1,0,none⟩,cp1,m++[X],by simp,HE,?_,(HK.alloc _).grown hg1 (λq hq=>ly (by have:=(hM.lt q hq).1;have:=Aa HN;omega))⟩;rw[ix];simp only[ib,gW,iv,iM,il,jh,iJ,Ah];exact ho1
       ·(have hlb:(((at_:Int)+1)==(Z (BJ LS t):Int))=K:=by rw[iw];omega);(have hlc:¬((at_:Int)+1)=(Z (BJ LS t):Int):=by omega);(have hgo:at_+1<Z (BJ LS t):=by omega);obtain⟨gy,cy,hey,y0⟩:=F1 HRt (at_+1) hgo;simp only[gM,gT,iL]at hey;obtain⟨⟨hgq,-,-⟩,-,-⟩:=hey;subst hgq;have hmore:=HMid.more FE HQ hlall hgo;obtain⟨Y,hY⟩:∃Y,(BJ LS t)[at_+1]=Y:=⟨_,rfl⟩;rw[hY]at y0 hmore;rw[Mr pl t (at_+1) (by omega),hLl]at hmore;have HCn:=Ab hmore.1;have hGm:=hmore.2;(have hyr0:(0:Int)<=(at_:Int)+1:=by omega);(have hyr1:(at_:Int)+1<(Z (BJ LS t):Int):=by omega);have hM:=Aa HM;have HYk:lO (∀w9,(wr.alloc (j2 #[O X] 170)).grownBy w9 (U mad (Z m) mcp).ownBlock->lP w9 ⟨gx,at_+1,none⟩=V (O Y)/\lQ w9 N 3 1 (U (V ⟨N,0,none⟩) (Z ps) (Z ps)) (Z ps) (pl.flatMap CB)):=by
         intro w9 hg9;refine⟨?_,(gU HP _).kept hg9 (ly (λe=>A7 HP hM (by decide) N rfl e.symm))⟩;have hgx:gx<N:=HLow _ _ (by rfl);(have hgw:gx<wr.heap.size:=by have:=HK.size;have:=Aa HN;omega);rw[hg9.cell_far ⟨gx,at_+1,none⟩ (by simp;omega) (λe=>by have:=(hM.lt gx e.symm).1;omega)];exact(((me [] wr).alloc _).cellAt y0)
        clear hall hlast hY hmore;go_wp2_with (at_builtin;refine io _ rfl (.tmp 65) (.tmp 67) _ rfl N 170 i0 _ 1 16 underlying102 hi0 hz0 hz1 hz2 rfl (by omega) (U mad (Z m) mcp) (Z m) (m.flatMap Ah) rfl (gU hM _) ⟨wr.heap.size,0,none⟩ 1 1 [O X] rfl rfl (iu (cs:=#[O X]) (t:=170) (fr:=(0,0)) (iD wr _)) (by simp[Value.oneCell']) (by omega) (by unfold maxLen;omega) (by omega) (by simp;have:=HK.size;have:=Aa HN;omega) (wr.heap.size+1) (by simp) ?_;intro g1 cp1 w9 ho1 hg1 ha1 hl1;have y9:=(HYk w9 hg1).1;have p9r:=(HYk w9 hg1).2;have p9c:=p9r.cellAt t (by omega);have p9f:=p9r.frozenAt t;rw[L2 pl t (by omega)]at p9c)
        have ht1:=HTm.1;have ht2:=HTm.2.1;have HS9:=Ab (((HYk w9 hg1).2).stored t (.int J ((at_+1:Nat):Int)));go_wp2
        go_roundg (Tx Fh Y LS*(Z ps+1)+Z ps)
        case measure=>
         have h1:=Aa HG;have h2:(Tx Fh Y LS+1)*(Z ps+1)<=Tx Fh s LS*(Z ps+1):=iS _ (by omega);rw[jS]at h2;omega
        case rel=>
         refine⟨E7 (Z ps) t,Y,0,pl.set t (at_+1),m++[X],V ⟨g1,0,none⟩,cp1,by simp,rfl,rfl,by first|rfl|exact congrArg _ HTm.2.1,by simp,by simp[hpl],by simp;omega,HCn,?_,?_,?_⟩
         .rw[KC];have h:=HS9.1;exact h
         .have hap:=A7 (HYk w9 hg1).2 ho1 (by decide) N rfl;have h9:lQ w9 N 170 1 (U (V ⟨g1,0,none⟩) (Z (m++[X])) cp1) (Z (m++[X])) ((m++[X]).flatMap Ah):=by
           rw[ix];simp only[ib,gW,iv,iM,il,jh,iJ,Ah];exact ho1
          exact Ai h9 (Ac.setCell (M:=[N]) (me [N] _) (lx (by simp)) _) (λq hq=>by simp only[gN];intro e;subst e;exact hap hq)
         .exact((HK.alloc _).grown hg1 (λq hq=>ly (by have:=(hM.lt q hq).1;have:=Aa HN;omega))).setCell (ly (by have:=Aa HN;simp;omega)) _
      ·(have hallb:(((0:Int)+1)==(Z ps:Int))=K:=by rw[iw];omega);(have hallc:¬((0:Int)+1)=(Z ps:Int):=by omega);(have hallb1:((1:Int)==(Z ps:Int))=K:=by rw[iw];omega);(have hallc1:¬(1:Int)=(Z ps:Int):=by omega);have hnx:=HMid.next (by omega);rw[Mr pl t at_ (by omega),hLl]at hnx;have HCn:=Ab hnx;have ht1:=HTm.1;have ht2:=HTm.2.1;clear hall hnx;go_wp2
       go_roundg (Tx Fh X LS*(Z ps+1)+(Z ps-(0+1)))
       case measure=>
        have h1:=Aa HG;have h2:(Tx Fh X LS+1)*(Z ps+1)<=Tx Fh s LS*(Z ps+1):=iS _ (by omega);rw[jS]at h2;omega
       case rel=>
        refine⟨E7 (Z ps) t,X,0+1,pl.set t at_,m,mad,mcp,rfl,rfl,by go_num,by first|rfl|exact congrArg _ HTm.2.1,rfl,by simp[hpl],by omega,HCn,?_,?_,?_⟩
        .rw[KC];exact(HP.stored t (.int J (at_:Int))).1
        .have hap:=A7 HP HM (by decide) N rfl;exact Ai HM (Ac.setCell (M:=[N]) (me [N] _) (lx (by simp)) _) (λq hq=>by simp only[gN];intro e;subst e;exact hap hq)
        .exact HK.setCell (ly (by have:=Aa HN;simp;omega)) _
def DS.grown{w w':l9}{p:EN}{base n:Nat}{v:lN}{a:mc lN}(h:DS w p)(c:lQ w base 104 2 v n a)(b:w.grownBy w' v.ownBlock):DS w' p:=
 je (v:=p.tv) h b (by
  cases hp:p.tv.ownBlock with
  |none=>exact lx rfl
  |some q=>exact ly (λe=>A7 h c (by decide) q hp e.symm))
def IP(b:mc zA)(ls:mc PL):mc CG:=(ls.filter λx=>x.sort==0).map (EV b)
theorem YM(S ty:Nat)(b:mc zA)(Go:Option Addr)(B9:Nat)(ls:mc Ks)(w:l9)(hb:Z b=26)(HI:AH w S (Aj b) ty)(hB:BP w 0 (U Go (Z ls) B9) ls)(K1:Z ls<=1000)(hl:∀p∈ls,OK p.1):
  Calls prog 198 #[kt (V ⟨S,0,Y⟩),U Go (Z ls) B9] w λr m=>∃(j:Option Addr) (l:Nat) (a:mc EN),r=lo (U j (Z a) l)/\a.map EN.f=IP b (ls.map lW)/\Iw m (U j (Z a) l) a/\lQ m w.heap.size 104 2 (U j (Z a) l) (Z a) (a.flatMap AW)/\Ac [] w m:=by
 obtain⟨i0,H4,HZ,H6,H3⟩:=iR Tryz.zj;have HF:=Ab hB;have H1:=Ab hl;have HT:lO (∀(x:PL) j l B,Ac [] w B->OK x->J1 w 0 (x,U j (Z x.ts) l)->Calls prog 196 #[kt (V ⟨S,0,Y⟩),lR #[X J x.ap,O x.an,U j (Z x.ts) l]] B λr m=>∃g,r=lo (lR #[O x.an,U (V ⟨g,0,Y⟩) (Z x.ts) (Z x.ts)])/\DS m ⟨EV b x,U (V ⟨g,0,Y⟩) (Z x.ts) (Z x.ts)⟩/\Ac [] B m):=by
  intro x j l B hk hc hx;refine(Na S ty b x.ap x.an j l x.ts 0 B hb (HI.kept hk (by simp)) (hx.kept hk (by simp)) (by have:=hc.len;omega) hc.ts).mono ?_;rintro r m ⟨g,rfl,hr,k⟩;refine⟨g,rfl,?_,k⟩;show lQ m 0 170 1 _ (Z (x.ts.map (Bz b))) _;rw[ie];exact Am hr (ik _)
 obtain⟨R,hR⟩:∃R,IP b (ls.map lW)=R:=⟨_,rfl⟩;rw[hR];have HR:=Ab hR;obtain⟨N,hN⟩:∃N,w.heap.size=N:=⟨_,rfl⟩;have P:=Ab hN;clear hB hl hR hN HI;go_enter func198,ntmps198;go_wp2_with fail
 go_loopg [5,10] (Z ls) (λgk o i wr=>∃(k:Nat) (a:mc EN) (y:Option Addr) (s:Nat),o=U y (Z a) s/\i=X J k/\k<=Z ls/\gk=Z ls-k/\Z a<=k/\lO (a.map EN.f=IP b ((ls.take k).map lW))/\lO (lQ wr N 104 2 (U y (Z a) s) (Z a) (a.flatMap AW))/\lO (∀p∈a,DS wr p/\Z p.f.zC<=1000)/\lO (Ac [] w wr))
 case atStart=>exact⟨0,[],Y,0,rfl,rfl,by omega,rfl,by simp,rfl,ip _ _ _ _,(λp d=>by cases d),me _ _⟩
 case round=>
  obtain⟨k,a,y,s,rfl,rfl,hk,HJ,KK,F,I,L,C⟩:=hrel;have HG:=Ab HJ;clear HJ;by_cases AT:k<Z ls
  .obtain⟨g,K2,x,u,v,he,AO,_,d0,d1,d2,d3,d4,d5,d6,d7,d8⟩:=TI (HF.kept C (by simp)) k AT;simp only[gM]at he;obtain⟨rfl,_,rfl⟩:=he;(have A1:(x,U u (Z x.ts) v)∈ls:=by rw[<-AO];exact gL AT);have A2:=Aa H1 _ A1;have FF:J1 w 0 (x,U u (Z x.ts) v):=(HF.each _ A1).1;have EU:lO (IP b ((ls.take (k+1)).map lW)=IP b ((ls.take k).map lW)++if(x.sort==0)=j1 then[EV b x] else[]):=by
    show _=_;unfold IP;rw[gQ AT,iG,jX,iG,AO]
    congr 1
    simp only[ii,jM,jt,List.filter_nil];split<;>rfl
   have E:=Ab (C.alloc (j2 (j3 (Aw (x,U u (Z x.ts) v))) 217));have G:=Ab (gU I (j2 (j3 (Aw (x,U u (Z x.ts) v))) 217));(have z:lO (∀p∈a,DS (wr.alloc (j2 (j3 (Aw (x,U u (Z x.ts) v))) 217)) p/\Z p.f.zC<=1000):=λp d=>⟨(L p d).1.kept ((me [] wr).alloc _),(L p d).2⟩);have A:=Ab (HT x u v _ E A2 FF);(have EK:lO (Z (EV b x).zC<=1000):=by show Z (x.ts.map (Bz b))<=1000;rw[ie];exact A2.len);(have T:lO (∀g,AW ⟨EV b x,U (V ⟨g,0,Y⟩) (Z x.ts) (Z x.ts)⟩=[O x.an,U (V ⟨g,0,Y⟩) (Z x.ts) (Z x.ts)]):=λg=>rfl);generalize EV b x=FC at EU A EK T;obtain⟨pl,so,ap,an,c,⟨lv,IS⟩,⟨rv,K3⟩⟩:=x;simp only[Aw]at E G z A EU T d0 d1 d2 d3 d4 d5 d6 d7 d8;clear AO A1 A2 FF I L;(have KS:N<=wr.heap.size:=by have:=C.size;have:=Aa P;omega);clear C;by_cases Q:so=0
   ·(have Bx:(so==0)=j1:=by simp[Q]);rw[Bx,gY rfl]at EU;clear Q;(go_wp2_with fail);refine A.mono ?_;rintro _ n ⟨e,rfl,EY,M⟩;have D:=Ad G M (by simp);(have BA:lO (∀p∈a,DS n p/\Z p.f.zC<=1000):=λp d=>⟨(z p d).1.kept M,(z p d).2⟩);have BS:=Ab (E.trans M);have HA:=Ab EY;(have Ix:N<=n.heap.size:=by have:=BS.size;have:=Aa P;omega);clear A G z E M EY d0 d1 d2 d3 d4 d5 d6 d7 d8;go_wp2_with (at_builtin;refine io _ rfl (.tmp 17) (.tmp 22) _ rfl N 104 i0 _ 2 40 underlying113 H4 HZ H6 H3 rfl (by omega) (U y (Z a) s) (Z a) (a.flatMap AW) rfl (gU D _) ⟨n.heap.size,0,Y⟩ 1 1 [O an,U (V ⟨e,0,Y⟩) (Z c) (Z c)] rfl rfl (iu (cs:=#[O an,U (V ⟨e,0,Y⟩) (Z c) (Z c)]) (t:=104) (fr:=(0,0)) (iD n _)) (by simp[Value.oneCell']) (by omega) (by unfold maxLen;omega) (by omega) (by simp;omega) (n.heap.size+1) (by simp) ?_;intro g1 FA w9 HB H HS HX)
    have W:lO ((a++[EN.mk FC (U (V ⟨e,0,Y⟩) (Z c) (Z c))]).map EN.f=IP b ((ls.take (k+1)).map lW)):=by
     show _=_;rw[Aa EU,iG,Aa F];rfl
    have HV:lO (lQ w9 N 104 2 (U (V ⟨g1,0,Y⟩) (Z (a++[EN.mk FC (U (V ⟨e,0,Y⟩) (Z c) (Z c))])) FA) (Z (a++[EN.mk FC (U (V ⟨e,0,Y⟩) (Z c) (Z c))])) ((a++[EN.mk FC (U (V ⟨e,0,Y⟩) (Z c) (Z c))]).flatMap AW)):=by
     rw[ix];simp only[ib,gW,iv,iM,il,jh,iJ,Aa T];exact HB
    have HY:lO (∀p∈a++[EN.mk FC (U (V ⟨e,0,Y⟩) (Z c) (Z c))],DS w9 p/\Z p.f.zC<=1000):=by
     intro p d;rcases ic.1 d with h|h
     .exact⟨DS.grown ((BA p h).1.kept ((me [] n).alloc _)) (gU D _) H,(BA p h).2⟩
     .simp only[gN]at h;subst h;exact⟨DS.grown (HA.kept ((me [] n).alloc _)) (gU D _) H,EK⟩
    have H2:=Ab ((BS.alloc (j2 #[O an,U (V ⟨e,0,Y⟩) (Z c) (Z c)] 104)).grown H (λq hq=>ly (by have:=(D.lt q hq).1;have:=Aa P;omega)));clear HB H HS HX D BA BS HA EU F
    go_roundg (Z ls-(k+1))
    case measure=>have:=Aa HG;omega
    case rel=>exact⟨k+1,a++[EN.mk FC (U (V ⟨e,0,Y⟩) (Z c) (Z c))],V ⟨g1,0,Y⟩,FA,by simp,by go_num,by omega,rfl,by simp;omega,W,HV,HY,H2⟩
   ·(have Bx:(so==0)=K:=by simp[Q]);rw[Bx,gV (by simp),iJ]at EU;(have W:lO (a.map EN.f=IP b ((ls.take (k+1)).map lW)):=by show _=_;rw[Aa EU];exact F);clear Q EU F A;go_wp2
    go_roundg (Z ls-(k+1))
    case measure=>have:=Aa HG;omega
    case rel=>exact⟨k+1,a,y,s,rfl,by go_num,by omega,rfl,by omega,W,G,z,E⟩
  .have H8:lO (a.map EN.f=R):=by
    have h:=Aa F;rw[gR (by omega),Aa HR]at h;exact h
   go_wp2;go_ret;exact⟨y,s,a,rfl,H8,⟨Am I (ik _),L⟩,by rw[Aa P];exact I,C⟩
