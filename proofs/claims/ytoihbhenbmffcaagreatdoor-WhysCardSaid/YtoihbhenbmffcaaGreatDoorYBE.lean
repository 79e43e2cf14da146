import Derived.Deep.OwnRows
import Derived.Test.YtoihbhenbmffcaaGreatDoorYBC
import Derived.Test.YtoihbhenbmffcaaGreatDoorYAX
set_option linter.all false
set_option maxHeartbeats 0
open List renaming length->Z,toArray->j2,replicate->jL
open Option renaming none->Y,some->V
open Go.Value renaming slice->U,int->X,string->O,pointer->j3,agg->jH,bool->jJ
open Bool renaming false->K,true->jj
open Go.IntKind renaming i64->J,i32->jI
open Go.Obj renaming cells->j1
open Go.Ending renaming returned->j4
open Go renaming World->j7,Value->j8
open Go.RowKit renaming Hid->j9
open Go.World renaming cell?->jF,ownsRow->jG
open Prod renaming fst->jM
namespace Go.Proofs.YtoihbhenbmffcaaGreatDoor
open Go.RowKit Go.Proofs.Tryz
def RH(z:j8)(n:Nat):(madeCells #[z] n).toList=jL n z:=by
 apply List.ext_getElem
 .simp[madeCells]
 .intro i a b;simp[madeCells];rw[Nat.mod_one];rfl
def ET(b:List g0)(ts:List AO)(k:Nat):List j8:=((ts.take k).map λt=>O (Bt b t))++jL (Z ts-k) (O ⟨#[]⟩)
def To(b:List g0)(ts:List AO):ET b ts 0=jL (Z ts) (O ⟨#[]⟩):=by simp[ET]
def UZ(b:List g0)(ts:List AO)(k:Nat)(h:k<=Z ts):Z (ET b ts k)=Z ts:=by simp[ET];omega
def VT(b:List g0)(ts:List AO)(k:Nat)(h:k<Z ts):(ET b ts k).set k (O (Bt b ts[k]))=ET b ts (k+1):=by
 unfold ET;rw[ep h,fi,show Z ts-k=(Z ts-(k+1))+1 by omega,List.replicate_succ];rw[js _ _ (by simp;omega)];simp;rw[iu (by omega),Nat.sub_self];rfl
def VV(b:List g0)(ts:List AO):ET b ts (Z ts)=(ts.map (Bt b)).flatMap Ah:=by
 unfold ET;rw[gP,Nat.sub_self];simp only[List.replicate_zero,fh]
 induction ts with
 |nil=>rfl
 |cons t ts ih=>simp[Ah,ih]
set_option maxRecDepth 100000
theorem ML(B ty:Nat)(b:List g0)(f:Int)(nm:g0)(a:Option Addr)(d:Nat)(ts:List AO)(base:Nat)(w:j7)(C:Z b=26)(hB:AI w B (Ai b) ty)(hr:jG w base 215 2 (.slice a (Z ts) d) (Z ts) (ts.flatMap Aq))(HL:Z ts<=100000)(hv:∀t∈ts,Oa t):
  Calls prog 196 #[j3 (V ⟨B,0,Y⟩),jH #[X J f,O nm,.slice a (Z ts) d]] w λr A=>∃g,r=j4 (jH #[O nm,.slice (V ⟨g,0,Y⟩) (Z ts) (Z ts)])/\jG A w.heap.size 170 1 (.slice (V ⟨g,0,Y⟩) (Z ts) (Z ts)) (Z ts) ((ts.map (Bt b)).flatMap Ah)/\Ac [] w A:=by
 obtain⟨i0,HE,EK,FC,FP⟩:=fC Tryz.zh;have HT:j9 (∀t∈ts,∀o,Ac [] w o->Calls prog 180 #[j3 (V ⟨B,0,Y⟩),jH #[X jI t.v,O t.s]] o λr A=>r=j4 (O (Bt b t))/\Ac [] o A):=λt ht o H=>Kk B ty b t o C (hB.kept H (by simp)) (hv t ht)
 have HD:=Ab hr;obtain⟨N,y⟩:∃N,w.heap.size=N:=⟨_,rfl⟩;have j:j9 (AI ((w.alloc (j1 #[X J f,O nm,.slice a (Z ts) d] 187)).alloc (j1 #[O ⟨#[]⟩,.slice Y 0 0] 104)) N [X J f,O nm,.slice a (Z ts) d] 187):=by rw[<-y];exact(AI.new w [X J f,O nm,.slice a (Z ts) d] 187).alloc _
 have c:j9 (AI ((w.alloc (j1 #[X J f,O nm,.slice a (Z ts) d] 187)).alloc (j1 #[O ⟨#[]⟩,.slice Y 0 0] 104)) (N+1) [O ⟨#[]⟩,.slice Y 0 0] 104):=by
  have h:=AI.new (w.alloc (j1 #[X J f,O nm,.slice a (Z ts) d] 187)) [O ⟨#[]⟩,.slice Y 0 0] 104;simp only[fg,y]at h;exact h
 have Q:=Ab (((Ac.refl [] w).alloc (j1 #[X J f,O nm,.slice a (Z ts) d] 187)).alloc (j1 #[O ⟨#[]⟩,.slice Y 0 0] 104));have u:=Ab y;clear hr hv hB;go_enter func196,ntmps196;apply wp_seq_k;intro KK AT;have S:=Ab AT;clear AT;go_wp2;refine S _ _ ?_;clear S KK;rw[y];clear y;have M:((w.alloc (j1 #[X J f,O nm,.slice a (Z ts) d] 187)).alloc (j1 #[O ⟨#[]⟩,.slice Y 0 0] 104)).heap.size=N+1+1:=by simp;exact u
 generalize(w.alloc (j1 #[X J f,O nm,.slice a (Z ts) d] 187)).alloc (j1 #[O ⟨#[]⟩,.slice Y 0 0] 104)=w1 at j c Q M⊢;have c2:=j.cell 2;simp at c2;go_wp2_with ((with_reducible show wpList _ _ _ ({dst:=_,op:=Op.makeSlice 102 _ _,type:=_,pos:=_,after:=_,guard:=_}::_) _ _);refine wpList_make_row _ rfl _ _ 102 rfl 170 i0 _ underlying102 HE EK FC rfl J J (Z ts) (by rfl) (by rfl) (by rw[FP];omega) (by omega) ?_)
 have l:j9 (jG (w1.alloc (j1 (madeCells #[O ⟨#[]⟩] (Z ts)) 170)) (N+1+1) 170 1 (.slice (V ⟨N+1+1,0,Y⟩) (Z ts) (Z ts)) (Z ts) (ET b ts 0)):=by
  have h:=jp (e:=170) (size:=1) (base:=N+1+1) w1 (madeCells #[O ⟨#[]⟩] (Z ts)) (Z ts) (by omega) (by unfold maxLen;omega) (by rw[size_madeCells];omega);rw[RH,M]at h;rw[To];exact h
 have R:=Ab (j.alloc (j1 (madeCells #[O ⟨#[]⟩] (Z ts)) 170));have G:=Ab (c.alloc (j1 (madeCells #[O ⟨#[]⟩] (Z ts)) 170));have m:=Ab (Q.alloc (j1 (madeCells #[O ⟨#[]⟩] (Z ts)) 170));clear j c Q c2 M;generalize w1.alloc (j1 (madeCells #[O ⟨#[]⟩] (Z ts)) 170)=w2 at l R G m⊢
 go_loopg [15] (Z ts) (λgk i wr=>∃(k:Nat),i=X J k/\k<=Z ts/\gk=Z ts-k/\j9 (jG wr (N+1+1) 170 1 (.slice (V ⟨N+1+1,0,Y⟩) (Z ts) (Z ts)) (Z ts) (ET b ts k))/\j9 (AI wr N [X J f,O nm,.slice a (Z ts) d] 187)/\j9 (AI wr (N+1) [O ⟨#[]⟩,.slice Y 0 0] 104)/\j9 (Ac [] w wr))
 case atStart=>exact⟨0,rfl,by omega,rfl,l,R,G,m⟩
 case round=>
  clear l R G m;obtain⟨k,rfl,H,AH,l,j,c,x⟩:=hrel;have HG:=Ab AH;clear AH;by_cases z:k<Z ts
  .obtain⟨g,HJ,he,d0,d1⟩:=EG (Ad HD x (by simp)) k z;simp only[ei]at he;obtain⟨rfl,_,rfl⟩:=he;obtain⟨T,F⟩:∃T,ts[k]=T:=⟨_,rfl⟩;have m:=Ab (x.alloc (j1 #[X jI T.v,O T.s] 215));have L:=Ab (HT T (by rw[<-F];exact eo z) _ m);(have P:j9 ((ET b ts k).set k (O (Bt b T))=ET b ts (k+1)):=by rw[<-F];exact VT b ts k z);rw[F]at d0 d1;obtain⟨n,hV⟩:∃n,Bt b T=n:=⟨_,rfl⟩;rw[hV]at L P;clear F hV;(have HM:(0:Int)<=(k:Int):=by omega);(have HO:(k:Int)<(Z ts:Int):=by omega);(go_wp2_with fail);refine L.mono ?_;rintro _ w3 ⟨rfl,I⟩;have D:Ac [] wr w3:=((Ac.refl [] wr).alloc _).trans I;have E:=Ad l D (by simp);have CL:=Ab (j.kept D (by simp));have W:=Ab (c.kept D (by simp));have B2:=Ab (m.trans I);have y0:=E.cellAt k (by omega);have yf:=E.frozenAt k;(have B9:k<Z (ET b ts k):=by rw[UZ b ts k H];exact z);rw[ez B9]at y0;generalize(ET b ts k)[k]=U at y0;have Go:j9 (jG (w3.setCell ⟨N+1+1,k,Y⟩ (O n)) (N+1+1) 170 1 (.slice (V ⟨N+1+1,0,Y⟩) (Z ts) (Z ts)) (Z ts) (ET b ts (k+1))):=by
    rw[<-Aa P];exact BE E k _
   have HA:=Ab (CL.zA ⟨N+1+1,k,Y⟩ (show N+1+1≠N by omega) (O n));have Ha:=Ab (W.zA ⟨N+1+1,k,Y⟩ (show N+1+1≠N+1 by omega) (O n));have E0:=Ab (B2.setCell (p:=⟨N+1+1,k,Y⟩) (Or.inr (by have:=Aa u;show _<=N+1+1;omega)) (O n));clear L m x I D E d0 d1 j c l CL W B2 P B9;go_wp2
   go_roundg (Z ts-(k+1))
   case measure=>have:=Aa HG;omega
   case rel=>exact⟨k+1,by go_num,by omega,rfl,Go,HA,Ha,E0⟩
  ·(have FL:k=Z ts:=by omega);subst FL;have c1:=j.cell 1;have e0:=c.cell 0;have e1:=c.cell 1;have ef:=c.frozen;simp at c1 e0 e1;have FT:j9 (AI ((wr.setCell ⟨N+1,0,Y⟩ (O nm)).setCell ⟨N+1,1,Y⟩ (.slice (V ⟨N+1+1,0,Y⟩) (Z ts) (Z ts))) (N+1) [O nm,.slice (V ⟨N+1+1,0,Y⟩) (Z ts) (Z ts)] 104):=(c.set 0 _).set 1 _;have FW:j9 (jG ((wr.setCell ⟨N+1,0,Y⟩ (O nm)).setCell ⟨N+1,1,Y⟩ (.slice (V ⟨N+1+1,0,Y⟩) (Z ts) (Z ts))) N 170 1 (.slice (V ⟨N+1+1,0,Y⟩) (Z ts) (Z ts)) (Z ts) ((ts.map (Bt b)).flatMap Ah)):=by
    have h:=Aa l;rw[VV]at h;(have C:∀q,(Value.slice (V ⟨N+1+1,0,Y⟩) (Z ts) (Z ts)).ownBlock=V q->q≠N+1:=λq hq=>by have:=(h.lt q hq).1;omega);exact Am (Ag (Ag h (λh=>C _ h rfl) _) (λh=>C _ h rfl) _) (by have:=Aa u;omega)
   have FA:=Ab ((x.setCell (p:=⟨N+1,0,Y⟩) (Or.inr (by have:=Aa u;show _<=N+1;omega)) (O nm)).setCell (p:=⟨N+1,1,Y⟩) (Or.inr (by have:=Aa u;show _<=N+1;omega)) (.slice (V ⟨N+1+1,0,Y⟩) (Z ts) (Z ts)));clear j c l x;go_wp2;exact eX (BQ rfl rfl FT underlying104 rfl (by kernel_rfl)) rfl ⟨N+1+1,rfl,FW,FA⟩
def Bz{P:Program}{ops:Array Oper}{e:List Oper}{op:Oper}{a:Act}{w:j7}{Q:Exit->Act->j7->Prop}(g:Region.wanted op (yielded ops a.tmps)=jj)(c:TypeId)(x:Operand)(i:op.op=.load c x)
  (b o:Nat) (n:a.eval x=j3 (V ⟨b,o,Y⟩)) (cs:List j8) (d:TypeDesc) (l:w.rangeAt b o cs)
  (k:P.underlying c=V d) (f:d.isRow=jj) (m:(P.info? c).map (·.size)=V (Z cs))
  (h:wpList P ops Q e (a.put op.dst (jH (j2 cs))) w):wpList P ops Q (op::e) a w:=
 wpList_step λp j=>by rw[eI g];exact wp_load_mid c x i b o n cs d l k f m (j _ _ h)
def EE(b:List g0)(x:PL):CV:=⟨x.an,x.ts.map (Bt b)⟩
def Js(fs:List Fe)(b:List g0)(x:PL)(B:Bool):Prop:=
 if x.sort=0 then∃p,F6 fs (EE b x) p/\B=Eh fs (EE b x) p
 else if x.sort=1 then∃p,F6 fs (EE b x) p/\B= !Eh fs (EE b x) p
 else if x.sort=2 then B=((Bt b x.l).toList==(Bt b x.r).toList)
 else if x.sort=3 then B= !((Bt b x.l).toList==(Bt b x.r).toList)
 else B=Op.bytesLess (Bt b x.l).toList (Bt b x.r).toList
structure NU(w:j7)(sp kb ko:Nat)(bv ov:j8)(sad:Option Addr)(scp:Nat)(fs:List Fe):Prop where
 zO:AI w sp [j3 (V ⟨kb,ko,Y⟩),bv,ov] 237
 set:jF w ⟨kb,ko,Y⟩=V (U sad (Z fs) scp)
 facts:Lx w (U sad (Z fs) scp) fs
def NU.kept{w w':j7}{a d c:Nat}{g e:j8}{f:Option Addr}{b:Nat}{fs:List Fe}(h:NU w a d c g e f b fs)(k:Ac [] w w'):NU w' a d c g e f b fs:=⟨h.zO.kept k (by simp),k.cellAt h.set,h.facts.kept k⟩
theorem Vi(sp T S:Nat)(bv ov:j8)(HX:Option Addr)(HN:Nat)(fs:List Fe)(x:PL)(k:Option Addr)(m:Nat)(b:List g0)(w:j7)(L:Z b=26)(hS:NU w sp T S bv ov HX HN fs)(hx:JG w 0 (x,U k (Z x.ts) m))(KS:Z fs<=900000)(IJ:Z x.ts<=1000)(HQ:∀t∈x.ts,Oa t)(HS:Oa x.l)(HI:Oa x.r)
  (HO:∀i j (hi:i<Z fs) (hj:j<Z fs),i<=j->Cx fs[j].f (EE b x)<0->Cx fs[i].f (EE b x)<0):
  Calls prog 205 #[j3 (V ⟨sp,0,Y⟩),jH (j2 (Aw (x,U k (Z x.ts) m))),jH (j2 (Ai b))] w λr C=>∃B,r=j4 (jJ B)/\Js fs b x B/\Ac [] w C:=by
 have HF:=Ab hS;have EX:j9 (∀d a,Ac [] w a->AI a d (Ai b) 243->Calls prog 196 #[j3 (V ⟨d,0,Y⟩),jH #[X J x.ap,O x.an,U k (Z x.ts) m]] a λr C=>∃g,r=j4 (jH #[O x.an,U (V ⟨g,0,Y⟩) (Z x.ts) (Z x.ts)])/\jG C a.heap.size 170 1 (U (V ⟨g,0,Y⟩) (Z x.ts) (Z x.ts)) (Z x.ts) ((x.ts.map (Bt b)).flatMap Ah)/\Ac [] a C):=λd a G R=>ML d 243 b x.ap x.an k m x.ts 0 a L R (Ad hx G (by simp)) (by omega) HQ
 have FO:j9 (∀g a,Ac [] w a->jG a 0 170 1 (U (V ⟨g,0,Y⟩) (Z x.ts) (Z x.ts)) (Z x.ts) ((x.ts.map (Bt b)).flatMap Ah)->Calls prog 60 #[j3 (V ⟨T,S,Y⟩),jH #[O x.an,U (V ⟨g,0,Y⟩) (Z x.ts) (Z x.ts)]] a λe C=>∃p:Nat,e=j4 (jJ (Eh fs (EE b x) p))/\F6 fs (EE b x) p/\Ac [] a C):=by
  intro g a G hr;have HH:=hS.kept G;have H1:DL a ⟨EE b x,U (V ⟨g,0,Y⟩) (Z x.ts) (Z x.ts)⟩:=by
   show jG a 0 170 1 _ (Z (x.ts.map (Bt b))) _;rw[eL];exact hr
  exact MQ T S HX HN fs ⟨EE b x,U (V ⟨g,0,Y⟩) (Z x.ts) (Z x.ts)⟩ a HH.set HH.facts H1 (by show Z (x.ts.map (Bt b))<=1000;rw[eL];exact IJ) (by omega) HO
 have HT:j9 (∀d (t:AO) a,Oa t->AI a d (Ai b) 243->Calls prog 180 #[j3 (V ⟨d,0,Y⟩),jH #[X jI t.v,O t.s]] a λr C=>r=j4 (O (Bt b t))/\Ac [] a C):=λd t a hv R=>Kk d 243 b t a L R hv
 have HV:=Ab HS;have HD:=Ab HI;have I:j9 (∀B,Js fs b x B=(if x.sort=0 then∃p,F6 fs (EE b x) p/\B=Eh fs (EE b x) p
 else if x.sort=1 then∃p,F6 fs (EE b x) p/\B= !Eh fs (EE b x) p
 else if x.sort=2 then B=((Bt b x.l).toList==(Bt b x.r).toList)
 else if x.sort=3 then B= !((Bt b x.l).toList==(Bt b x.r).toList)
 else B=Op.bytesLess (Bt b x.l).toList (Bt b x.r).toList)):=λB=>rfl
 generalize EE b x=FC at FO I;generalize Js fs b x=HC at I⊢;have hc:=Bj b;have hl:Z (Ai b)=26:=by unfold Ai;simp[L]
 obtain⟨E,hE⟩:∃E,Ai b=E:=⟨_,rfl⟩;rw[hE]at hc hl EX HT⊢;clear hS hx HQ HS HI HO hE;obtain⟨M,c,F,D,A,⟨u,n⟩,⟨o,q⟩⟩:=x;simp only[Aw]at*;have EY:j9 (∀d a,AI a d E 243->Calls prog 180 #[j3 (V ⟨d,0,Y⟩),jH #[X jI u,O n]] a λr C=>r=j4 (O (Bt b ⟨u,n⟩))/\Ac [] a C):=λd a R=>HT d ⟨u,n⟩ a HV R
 have FP:j9 (∀d a,AI a d E 243->Calls prog 180 #[j3 (V ⟨d,0,Y⟩),jH #[X jI o,O q]] a λr C=>r=j4 (O (Bt b ⟨o,q⟩))/\Ac [] a C):=λd a R=>HT d ⟨o,q⟩ a HD R
 generalize Bt b ⟨u,n⟩=VL at EY I;generalize Bt b ⟨o,q⟩=VR at FP I;clear HT HV HD;have AH:j9 (AI ((w.alloc (j1 [X J M,X J c,X J F,O D,U k (Z A) m,X jI u,O n,X jI o,O q].toArray 217)).alloc (j1 (j2 E) 243)) w.heap.size [X J M,X J c,X J F,O D,U k (Z A) m,X jI u,O n,X jI o,O q] 217):=(AI.new w [X J M,X J c,X J F,O D,U k (Z A) m,X jI u,O n,X jI o,O q] 217).alloc _;have AT:j9 (AI ((w.alloc (j1 [X J M,X J c,X J F,O D,U k (Z A) m,X jI u,O n,X jI o,O q].toArray 217)).alloc (j1 (j2 E) 243)) (w.heap.size+1) E 243):=by
  have h:=AI.new (w.alloc (j1 [X J M,X J c,X J F,O D,U k (Z A) m,X jI u,O n,X jI o,O q].toArray 217)) E 243;simp only[fg]at h;exact h
 have HK:=Ab (((Ac.refl [] w).alloc (j1 [X J M,X J c,X J F,O D,U k (Z A) m,X jI u,O n,X jI o,O q].toArray 217)).alloc (j1 (j2 E) 243));go_enter func205,ntmps205;apply wp_seq_k;intro KK HW;have HB:=Ab HW;clear HW;go_wp2;refine HB _ _ ?_;clear HB KK;change Code.wp _ _ _ _ ((w.alloc (j1 [X J M,X J c,X J F,O D,U k (Z A) m,X jI u,O n,X jI o,O q].toArray 217)).alloc (j1 (j2 E) 243));generalize((w.alloc (j1 [X J M,X J c,X J F,O D,U k (Z A) m,X jI u,O n,X jI o,O q].toArray 217)).alloc (j1 (j2 E) 243))=w1 at AH AT HK⊢;generalize w.heap.size=N at AH AT⊢;have HR:j9 (∀a,Ac [] w1 a->jF a ⟨N,5,Y⟩=V (X jI u)/\jF a ⟨N,6,Y⟩=V (O n)/\jF a ⟨N,7,Y⟩=V (X jI o)/\jF a ⟨N,8,Y⟩=V (O q)):=by
  intro a G;have L:=AH.kept G (by simp);have c5:=L.cell 5;have c6:=L.cell 6;have c7:=L.cell 7;have c8:=L.cell 8;simp at c5 c6 c7 c8;exact⟨c5,c6,c7,c8⟩
 go_wp2_with fail
 go_region_held3 (λa=>Ac [] w1 a/\jF a ⟨N,5,Y⟩=V (X jI u)/\jF a ⟨N,6,Y⟩=V (O n)/\jF a ⟨N,7,Y⟩=V (X jI o)/\jF a ⟨N,8,Y⟩=V (O q)) ((go_split_ands;refine(fun(P:Ac [] w1 _)=>And.intro P (HR _ P)) ?_;repeat (first|assumption|exact Ac.refl [] _|refine Ac.drew ?_|refine Ac.alloc ?_ _))) ((go_at_call 180;first
  |((with_reducible show Calls _ _ #[_,jH #[X jI u,O n]] _ _);refine(EY (N+1) _ (AT.kept (by go_split_ands;assumption) (by simp))).mono ?_;rintro _ w3 ⟨rfl,k3⟩;have Ix:Ac [] w1 w3:=(by go_split_ands;exact Ac.trans (by assumption) k3);clear k3)
  |((with_reducible show Calls _ _ #[_,jH #[X jI o,O q]] _ _);refine(FP (N+1) _ (AT.kept (by go_split_ands;assumption) (by simp))).mono ?_;rintro _ y ⟨rfl,k4⟩;have Q:Ac [] w1 y:=(by go_split_ands;exact Ac.trans (by assumption) k4);clear k4)))
 rename_i H8;clear H8 Ix EY FP HR;have d1:=(AH.kept Q (by simp)).cell 1;simp at d1;by_cases W:c=0
 .have KA:(c==0)=jj:=by simp[W]
  have H:=AH.kept Q (by simp);have q2:=H.cell 2;have q3:=H.cell 3;have q4:=H.cell 4;simp at q2 q3 q4;have z:j9 (Ac [] w y):=HK.trans Q;have Go:j9 (∀a,Ac [] y a->jF a ⟨sp,0,Y⟩=V (j3 (V ⟨T,S,Y⟩))/\jF a ⟨N,2,Y⟩=V (X J F)/\jF a ⟨N,3,Y⟩=V (O D)/\jF a ⟨N,4,Y⟩=V (U k (Z A) m)):=by
   intro a G;have hs:=(HF.kept (z.trans G)).zO.cell 0;have hn:=H.kept G (by simp);have r2:=hn.cell 2;have r3:=hn.cell 3;have r4:=hn.cell 4;simp at hs r2 r3 r4;exact⟨hs,r2,r3,r4⟩
  have FF:=Ab (AT.kept Q (by simp));clear H q2 q3 q4;go_wp2_with fail
  go_region_held3 (λa=>Ac [] y a/\jF a ⟨sp,0,Y⟩=V (j3 (V ⟨T,S,Y⟩))/\jF a ⟨N,2,Y⟩=V (X J F)/\jF a ⟨N,3,Y⟩=V (O D)/\jF a ⟨N,4,Y⟩=V (U k (Z A) m)) ((go_split_ands;refine(fun(P:Ac [] y _)=>And.intro P (Go _ P)) ?_;repeat (first|assumption|exact Ac.refl [] _|refine Ac.drew ?_|refine Ac.alloc ?_ _))) ((first
   |(go_at_call 196;refine(EX (N+1) _ (z.trans (by go_split_ands;assumption)) (FF.kept (by go_split_ands;assumption) (by simp))).mono ?_;rintro _ w5 ⟨g5,rfl,BA,k5⟩;have H7:Ac [] y w5:=(by go_split_ands;exact Ac.trans (by assumption) k5);have FW:=Ab (Am BA (eV _));clear k5 BA)
   |(go_at_call 60;refine(FO g5 _ (z.trans (by go_split_ands;assumption)) FW).mono ?_;rintro _ w6 ⟨p6,rfl,hcut,k6⟩;have FA:Ac [] y w6:=(by go_split_ands;exact Ac.trans (by assumption) k6);have FL:=Ab hcut;clear k6 hcut)))
  go_wp2;go_ret;refine⟨_,rfl,?_,z.trans FA⟩;rw[Aa I];rw[eI W];exact⟨p6,FL,rfl⟩
 .have KA:(c==0)=K:=by simp[W]
  by_cases h1:c=1
  ·(have Jx:(c==1)=jj:=by simp[h1]);have H:=AH.kept Q (by simp);have q2:=H.cell 2;have q3:=H.cell 3;have q4:=H.cell 4;simp at q2 q3 q4;have z:j9 (Ac [] w y):=HK.trans Q;have Go:j9 (∀a,Ac [] y a->jF a ⟨sp,0,Y⟩=V (j3 (V ⟨T,S,Y⟩))/\jF a ⟨N,2,Y⟩=V (X J F)/\jF a ⟨N,3,Y⟩=V (O D)/\jF a ⟨N,4,Y⟩=V (U k (Z A) m)):=by
    intro a G;have hs:=(HF.kept (z.trans G)).zO.cell 0;have hn:=H.kept G (by simp);have r2:=hn.cell 2;have r3:=hn.cell 3;have r4:=hn.cell 4;simp at hs r2 r3 r4;exact⟨hs,r2,r3,r4⟩
   have FF:=Ab (AT.kept Q (by simp));clear H q2 q3 q4;go_wp2_with fail
   go_region_held3 (λa=>Ac [] y a/\jF a ⟨sp,0,Y⟩=V (j3 (V ⟨T,S,Y⟩))/\jF a ⟨N,2,Y⟩=V (X J F)/\jF a ⟨N,3,Y⟩=V (O D)/\jF a ⟨N,4,Y⟩=V (U k (Z A) m)) ((go_split_ands;refine(fun(P:Ac [] y _)=>And.intro P (Go _ P)) ?_;repeat (first|assumption|exact Ac.refl [] _|refine Ac.drew ?_|refine Ac.alloc ?_ _))) ((first
    |(go_at_call 196;refine(EX (N+1) _ (z.trans (by go_split_ands;assumption)) (FF.kept (by go_split_ands;assumption) (by simp))).mono ?_;rintro _ w5 ⟨g5,rfl,BA,k5⟩;have H7:Ac [] y w5:=(by go_split_ands;exact Ac.trans (by assumption) k5);have FW:=Ab (Am BA (eV _));clear k5 BA)
    |(go_at_call 60;refine(FO g5 _ (z.trans (by go_split_ands;assumption)) FW).mono ?_;rintro _ w6 ⟨p6,rfl,hcut,k6⟩;have FA:Ac [] y w6:=(by go_split_ands;exact Ac.trans (by assumption) k6);have FL:=Ab hcut;clear k6 hcut)))
   go_wp2;go_ret;refine⟨_,rfl,?_,z.trans FA⟩;rw[Aa I];rw[eE W,eI h1];exact⟨p6,FL,rfl⟩
  ·(have Jx:(c==1)=K:=by simp[h1]);have z:j9 (Ac [] w y):=HK.trans Q;by_cases h2:c=2
   ·(have H5:(c==2)=jj:=by simp[h2]);go_wp2;go_ret;refine⟨_,rfl,?_,z⟩;rw[Aa I,eE W,eE h1,eI h2]
   ·(have H5:(c==2)=K:=by simp[h2]);by_cases h3:c=3
    ·(have HZ:(c==3)=jj:=by simp[h3]);go_wp2;go_ret;refine⟨_,rfl,?_,z⟩;rw[Aa I,eE W,eE h1,eE h2,eI h3]
    ·(have HZ:(c==3)=K:=by simp[h3]);go_wp2;go_ret;refine⟨_,rfl,?_,z⟩;rw[Aa I,eE W,eE h1,eE h2,eE h3]
def E1(fs:List Fe)(b:List g0):List PL->Bool->Prop
 |[],B=>B=K
 |x::l,B=>if Ga b (AV x)then∃H,Js fs b x H/\(if H then E1 fs b l B else B=jj)else E1 fs b l B
def SI{w:j7}{base:Nat}{C:j8}{ls:List Oi}(h:CE w base C ls)(k:Nat)(a:k<Z ls):
  ∃g n x d f,C=U (V ⟨g,0,Y⟩) (Z ls) n/\ls[k]=(x,U d (Z x.ts) f)/\JG w base (x,U d (Z x.ts) f)/\
   jF w ⟨g,k*9,Y⟩=V (X J x.place)/\jF w ⟨g,k*9+1,Y⟩=V (X J x.sort)/\jF w ⟨g,k*9+2,Y⟩=V (X J x.ap)/\jF w ⟨g,k*9+3,Y⟩=V (O x.an)/\jF w ⟨g,k*9+4,Y⟩=V (U d (Z x.ts) f)/\
   jF w ⟨g,k*9+5,Y⟩=V (X jI x.l.v)/\jF w ⟨g,k*9+6,Y⟩=V (O x.l.s)/\jF w ⟨g,k*9+7,Y⟩=V (X jI x.r.v)/\jF w ⟨g,k*9+8,Y⟩=V (O x.r.s):=by
 obtain⟨g,n,D,_,b⟩:=AC h.row (λc _=>rfl) k a;have u:=(h.each _ (eo a)).1;have t:=b k a 0 (by omega);have m:=b k a 1 (by omega);have i:=b k a 2 (by omega);have j:=b k a 3 (by omega);have A:=b k a 4 (by omega);have y:=b k a 5 (by omega);have q:=b k a 6 (by omega);have o:=b k a 7 (by omega);have z:=b k a 8 (by omega);obtain⟨⟨x,E⟩,B⟩:∃p,ls[k]=p:=⟨_,rfl⟩;rw[B]at t m i j A y q o z u;obtain⟨d,f,e⟩:=Ak u;simp only at e;subst e;simp[Aw]at t m i j A y q o z;exact⟨g,n,x,d,f,D,B,u,t,m,i,j,A,y,q,o,z⟩
structure Pm(x:PL):Prop where
 len:Z x.ts<=1000
 ts:∀t∈x.ts,Oa t
 l:Oa x.l
 r:Oa x.r
def Pm.zS{x:PL}(h:Pm x):(∀t∈AV x,Oa t)/\Z (AV x)<=100000:=by
 unfold AV;split
 .exact⟨h.ts,by have:=h.len;omega⟩
 .refine⟨λt a=>?_,by simp⟩;simp only[ey,fP,or_false]at a;rcases a with rfl|rfl
  .exact h.l
  .exact h.r
theorem V6(G kb ko:Nat)(HE:Option Addr)(DT:Nat)(ls:List Oi)(ov:j8)(H3:Option Addr)(HM:Nat)(fs:List Fe)(b:List g0)(w:j7)(T:Z b=26)(hS:NU w G kb ko (U HE (Z ls) DT) ov H3 HM fs)(L:CE w 0 (U HE (Z ls) DT) ls)(IJ:Z fs<=900000)(LL:Z ls<=1000)(hl:∀p∈ls,Pm p.1)
  (HY:∀(Go:CV) i j (hi:i<Z fs) (hj:j<Z fs),i<=j->Cx fs[j].f Go<0->Cx fs[i].f Go<0):
  Calls prog 177 #[j3 (V ⟨G,0,Y⟩),jH (j2 (Ai b))] w λr t=>∃B,r=j4 (jJ B)/\E1 fs b (ls.map jM) B/\Ac [] w t:=by
 have Jx:=Ab hS;have HP:=Ab L;have IS:j9 (∀(x:PL) c d a,Ac [] w a->JG w 0 (x,U c (Z x.ts) d)->Calls prog 137 #[jH (j2 (Aw (x,U c (Z x.ts) d)))] a λe t=>∃H4 HJ,e=j4 (U H4 (Z (AV x)) HJ)/\jG t 0 215 2 (U H4 (Z (AV x)) HJ) (Z (AV x)) ((AV x).flatMap Aq)/\Ac [] a t):=λx c d a u hx=>Lr x c d a (hx.kept u (by simp))
 have De:j9 (∀F (x:PL) c d a,Pm x->AI a F (Ai b) 243->jG a 0 215 2 (U c (Z (AV x)) d) (Z (AV x)) ((AV x).flatMap Aq)->Calls prog 204 #[j3 (V ⟨F,0,Y⟩),U c (Z (AV x)) d] a λr t=>r=j4 (jJ (Ga b (AV x)))/\Ac [] a t):=λF x c d a n L hr=>Tw F 243 b c d (AV x) 0 a T L hr n.zS.2 n.zS.1
 have FT:j9 (∀(x:PL) c d a,Ac [] w a->Pm x->JG w 0 (x,U c (Z x.ts) d)->Calls prog 205 #[j3 (V ⟨G,0,Y⟩),jH (j2 (Aw (x,U c (Z x.ts) d))),jH (j2 (Ai b))] a λr t=>∃B,r=j4 (jJ B)/\Js fs b x B/\Ac [] a t):=λx c d a u n hx=>Vi G kb ko _ ov H3 HM fs x c d b a T (hS.kept u) (hx.kept u (by simp)) IJ n.len n.ts n.l n.r (HY _)
 have K1:=Ab hl;have n:=Bj b;have HO:Z (Ai b)=26:=by unfold Ai;simp[T]
 have FL:=Ab HO;obtain⟨E,hE⟩:∃E,Ai b=E:=⟨_,rfl⟩;rw[hE]at n HO FL De FT⊢;have z:=Ab (AI.new w E 243);have q:=Ab ((Ac.refl [] w).alloc (j1 (j2 E) 243));clear hE hS L hl HY;obtain⟨s,BT⟩:∃s:Bool->Prop,s=E1 fs b (ls.map jM):=⟨_,rfl⟩;have C:j9 (∀B,E1 fs b ((ls.drop 0).map jM) B->s B):=λB h=>by rw[BT];exact h
 rw[<-BT];clear BT;go_enter func177,ntmps177;apply wp_seq_k;intro KK H2;have CL:=Ab H2;clear H2;go_wp2;refine CL _ _ ?_;clear CL KK;generalize w.alloc (j1 (j2 E) 243)=w1 at z q⊢;generalize w.heap.size=N at z⊢;have s1:=(Jx.kept q).zO.cell 1;simp at s1;go_wp2_with fail
 go_loopg [12] (Z ls) (λgk i wr=>∃(k:Nat),i=X J k/\k<=Z ls/\gk=Z ls-k/\j9 (∀B,E1 fs b ((ls.drop k).map jM) B->s B)/\j9 (AI wr N E 243)/\j9 (Ac [] w wr))
 case atStart=>exact⟨0,rfl,by omega,rfl,C,z,q⟩
 case round=>
  clear C z q s1;obtain⟨k,rfl,u,H1,C,z,q⟩:=hrel;have HG:=Ab H1;clear H1;by_cases AB:k<Z ls
  .obtain⟨g,LM,x,v,A,he,W,_,d0,d1,d2,d3,d4,d5,d6,d7,d8⟩:=SI (HP.kept q (by simp)) k AB;simp only[ei]at he;obtain⟨rfl,_,rfl⟩:=he;(have A0:(x,U v (Z x.ts) A)∈ls:=by rw[<-W];exact eo AB);have A1:=Aa K1 _ A0;have AH:JG w 0 (x,U v (Z x.ts) A):=(HP.each _ A0).1;have o:j9 (∀B,(if Ga b (AV x)then∃H,Js fs b x H/\(if H then E1 fs b ((ls.drop (k+1)).map jM) B else B=jj)else E1 fs b ((ls.drop (k+1)).map jM) B)->s B):=by
    intro B h;refine C B ?_;rw[eQ AB,eR,W];exact h
   have P:=Ab (q.alloc (j1 (j2 (Aw (x,U v (Z x.ts) A))) 217));have BS:=Ab (z.alloc (j1 (j2 (Aw (x,U v (Z x.ts) A))) 217));have Bx:=Ab (AI.new wr (Aw (x,U v (Z x.ts) A)) 217);have I:=Ab (IS x v A _ P AH);have AT:=Ab (λc d a=>De N x c d a A1);have D:=Ab (λa u=>FT x v A a u A1 AH);generalize AV x=TL at I AT o;generalize Js fs b x=HX at D o;obtain⟨pl,so,ap,an,ts,⟨lv,K9⟩,⟨rv,LS⟩⟩:=x;simp only[Aw]at P BS Bx I D d0 d1 d2 d3 d4 d5 d6 d7 d8;clear W A0 A1 AH C;(go_wp2_with fail);refine I.mono ?_;rintro _ w3 ⟨Ix,KB,rfl,Ha,M⟩;have HW:=Ab (P.trans M);have A2:=Ab (BS.kept M (by simp));have HD:=Ab (Bx.kept M (by simp));have H0:=Ab (AT Ix KB w3 A2 Ha);clear I AT P BS Bx Ha M d0 d1 d2 d3 d4 d5 d6 d7 d8 q z;(go_wp2_with fail);refine H0.mono ?_;rintro _ w4 ⟨rfl,R⟩;have S:=Ab (HW.trans R);have Q:=Ab (A2.kept R (by simp));have m:=HD.kept R (by simp);have e0:=m.cell 0;have e1:=m.cell 1;have e2:=m.cell 2;have e3:=m.cell 3;have e4:=m.cell 4;have e5:=m.cell 5;have e6:=m.cell 6;have e7:=m.cell 7;have e8:=m.cell 8;simp at e0 e1 e2 e3 e4 e5 e6 e7 e8;clear H0 HW A2 HD R m;obtain⟨ST,EK⟩:∃ST,Ga b TL=ST:=⟨_,rfl⟩;rw[EK]at o⊢;clear EK;cases ST with
   |false=>
    (have y:j9 (∀B,E1 fs b ((ls.drop (k+1)).map jM) B->s B):=λB h=>o B (by rw[eE (by simp)];exact h));clear o D;go_wp2
    go_roundg (Z ls-(k+1))
    case measure=>have:=Aa HG;omega
    case rel=>exact⟨k+1,by go_num,by omega,rfl,y,Q,S⟩
   |true=>
    have FB:=Ab (D w4 S);clear D;go_wp2_with ((with_reducible show wpList _ _ _ ({dst:=_,op:=Op.load 243 _,type:=_,pos:=_,after:=_,guard:=_}::_) _ _);refine Bz (by rfl) 243 _ rfl N 0 (by rfl) E _ Q.range underlying243 rfl (by rw[Aa FL];exact Tryz.zH) ?_)
    refine FB.mono ?_;rintro _ w5 ⟨HB,rfl,EM,k5⟩;have HT:=Ab (S.trans k5);have K3:=Ab (Q.kept k5 (by simp));have H5:=Ab EM;clear FB k5 EM S Q e0 e1 e2 e3 e4 e5 e6 e7 e8;cases HB with
    |true=>
     (have y:j9 (∀B,E1 fs b ((ls.drop (k+1)).map jM) B->s B):=λB h=>o B (by rw[eI True.intro];exact⟨jj,H5,h⟩));clear o;go_wp2
     go_roundg (Z ls-(k+1))
     case measure=>have:=Aa HG;omega
     case rel=>exact⟨k+1,by go_num,by omega,rfl,y,K3,HT⟩
    |false=>
     have y:j9 (s jj):=o jj (by rw[eI True.intro];exact⟨K,H5,rfl⟩);clear o;go_wp2;go_ret;exact⟨jj,rfl,y,HT⟩
  .have y:j9 (s K):=C K (by rw[fq (by omega)];rfl);go_wp2;go_ret;exact⟨K,rfl,y,q⟩
abbrev Uk:=List g0×j8
structure cA(w:j7)(lv:j8)(ps:List Uk):Prop where
 row:jG w 0 102 1 lv (Z ps) (ps.flatMap λp=>[p.2])
 each:∀p∈ps,jG w 0 170 1 p.2 (Z p.1) (p.1.flatMap Ah)/\CP E8 p.1/\Z p.1<=10000
def cA.kept{w w':j7}{c:j8}{b:List Uk}(h:cA w c b)(k:Ac [] w w'):cA w' c b:=⟨Ad h.row k (by simp),λp a=>⟨Ad (h.each p a).1 k (by simp),(h.each p a).2⟩⟩
def bm{w:j7}{m:j8}{a:List Uk}(h:cA w m a)(k:Nat)(b:k<Z a):∃g l i f,m=U (V ⟨g,0,Y⟩) (Z a) l/\jF w ⟨g,k,Y⟩=V (U i (Z (BC (a.map jM) k)) f)/\jG w 0 170 1 (U i (Z (BC (a.map jM) k)) f) (Z (BC (a.map jM) k)) ((BC (a.map jM) k).flatMap Ah)/\CP E8 (BC (a.map jM) k)/\Z (BC (a.map jM) k)<=10000:=by
 obtain⟨g,l,n,_,r⟩:=AC h.row (λc _=>rfl) k b;have d:=r k b 0 (by omega);have o:BC (a.map jM) k=a[k].1:=by
  unfold BC;rw[eK,fM,ez b];rfl
 rw[o];obtain⟨j,p,q⟩:=h.each _ (eo b);obtain⟨i,f,e⟩:=Ak j;rw[e]at j;simp[e]at d;exact⟨g,l,i,f,n,d,j,p,q⟩
def W5{w:j7}{base:Nat}{v:j8}{l:List Nat}(h:jG w base 3 1 v (Z l) (l.flatMap BW))(k:Nat)(b:k<Z l):∃g a,v=U (V ⟨g,0,Y⟩) (Z l) a/\jF w ⟨g,k,Y⟩=V (X J (l[k]:Nat)):=by
 obtain⟨g,a,e,_,f⟩:=AC h (λc _=>rfl) k b;have d:=f k b 0 (by omega);simp[BW]at d;exact⟨g,a,e,d⟩
def L5(a:List Nat)(t v:Nat)(b:t<Z a):WI (λi=>a.getD i 0) t v=λi=>(a.set t v).getD i 0:=by
 funext i
 unfold WI;simp only[eK,List.getElem?_set];split
 .rename_i e;subst e;simp[b]
 .rename_i e;rw[eE (λh=>e h.symm)]
def Ko(b:List Nat)(t v:Nat):(b.set t v).flatMap BW=(b.flatMap BW).set t (X J (v:Nat)):=by
 have e:∀l:List Nat,l.flatMap BW=l.map λn=>X J (n:Nat):=λl=>by
  induction l with
  |nil=>rfl
  |cons a l ih=>simp[BW,ih]
 rw[e,e,jE]
def LV:∀l:List Nat,l.flatMap BW=l.map λn=>X J (n:Nat)
 |[]=>rfl
 |a::l=>by simp only[eN,eR,LV l];rfl
def LD(a:List Nat)(t:Nat)(h:t<Z a):(a.flatMap BW)[t]?=V (X J (a[t]:Nat)):=by
 rw[LV,fM,ez h];rfl
def cw(ls:List (List g0))(s:g0)(h:∀l∈ls,Z l<=10000):Sw E8 s ls<=Z ls*10000:=by
 induction ls with
 |nil=>simp[Sw]
 |cons l ls ih=>
  have b:=ih (λq a=>h q (fu _ a));have c:=h l (fI ..);have d:dl E8 s l<=Z l:=jw;have e:Sw E8 s (l::ls)=dl E8 s l+Sw E8 s ls:=by unfold Sw;simp
  rw[e,eF,gL];omega
structure Jq(ps:List Uk)(m:List g0):Prop where
 mem:∀y,y∈m↔(ps≠[]/\Jo (ps.map jM) y)
 zK:m.Pairwise λa b=>E8 a b=jj
theorem Tryz.yA:(Tryz.prog.info? 3).map (λi=>(i.zero,i.size,i.bytes))=V (V (X J 0),1,8):=by kernel_rfl
theorem UT(lad:Option Addr)(lcp:Nat)(ps:List Uk)(w:World)(h:cA w (.slice lad ps.length lcp) ps)(hlen:ps.length<=1000):
  Calls prog 208 #[.slice lad ps.length lcp] w λr w'=>∃(ad:Option Addr) (cp:Nat) (m:List g0),r=.returned (.slice ad m.length cp)/\Jq ps m/\w'.ownsRow w.heap.size 170 1 (.slice ad m.length cp) m.length (m.flatMap Ah)/\Ac [] w w':=by
 obtain⟨i0,hi0,hz0,hz1,hz2⟩:=fC Tryz.zh;obtain⟨j0,hj0,hy0,hy1,hy2⟩:=fC Tryz.yA;have HL:=Ab h;obtain⟨N,hN⟩:∃N,w.heap.size=N:=⟨_,rfl⟩;rw[hN];have HN:=Ab hN;clear hN h;obtain⟨LS,hLS⟩:∃LS,ps.map Prod.fst=LS:=⟨_,rfl⟩;have hLl:LS.length=ps.length:=by rw[<-hLS,eL]
 have HLS:=Ab hLS;have HMx:Hid (∀s,Sw E8 s LS<=ps.length*10000):=by
  intro s;have h1:=cw LS s (λl hl=>by
   rw[<-hLS]at hl
   obtain⟨p,hp,rfl⟩:=eH.1 hl
   exact(HL.each p hp).2.2)
  rw[hLl]at h1;exact h1
 have HOut:Hid (∀m,(ps≠[]->(∀y,y∈m↔Jo LS y))->(ps=[]->m=[])->m.Pairwise (λa b=>E8 a b=true)->Jq ps m):=by
  intro m h1 h2 h3;refine⟨λy=>?_,h3⟩;by_cases hp:ps=[]
  .rw[h2 hp];simp[hp]
  .rw[h1 hp y,<-hLS];exact⟨λh=>⟨hp,h⟩,λh=>h.2⟩
 by_cases h0:ps.length=0
 .have h0b:((ps.length:Int)==0)=true:=by simp[h0]
  have h0c:(ps.length:Int)=0:=by omega
  have HE:Hid (Jq ps []):=HOut [] (λh=>absurd (gB.1 h0) h) (λ_=>rfl) List.Pairwise.nil;clear hLS;go_enter func208,ntmps208;go_wp2;go_ret;exact⟨none,0,[],rfl,HE,eU _ _ _ _,Ac.refl _ _⟩
 .have hpos:0<ps.length:=by omega
  have h0b:((ps.length:Int)==0)=false:=by rw[ff];omega
  have h0c:¬(ps.length:Int)=0:=by omega
  have hpne:ps≠[]:=λe=>h0 (by rw[e];rfl)
  obtain⟨g,cap,ad0,cp0,he,e0,r0,q0,b0⟩:=bm HL 0 hpos;simp only[ei]at he;obtain⟨rfl,-,rfl⟩:=he;rw[hLS]at e0 r0 q0 b0;have hi00:(0:Int)<(ps.length:Int):=by omega
  by_cases hz:(BC LS 0).length=0
  ·(have hzb:(((BC LS 0).length:Int)==0)=true:=by simp[hz]);(have hzc:((BC LS 0).length:Int)=0:=by omega);have HE:Hid (Jq ps []):=HOut [] (λ_ y=>by
    refine⟨λh=>by simp at h,λh=>?_⟩
    have h1:=h (BC LS 0) (Ez (by omega))
    rw[gB.1 hz]at h1
    exact h1) (λh=>absurd h hpne) List.Pairwise.nil
   clear hLS hz;go_enter func208,ntmps208;go_wp2;go_ret;exact⟨none,0,[],rfl,HE,eU _ _ _ _,Ac.refl _ _⟩
  ·(have hzp:0<(BC LS 0).length:=by omega);(have hzb:(((BC LS 0).length:Int)==0)=false:=by rw[ff];omega);(have hzc:¬((BC LS 0).length:Int)=0:=by omega);(have hzi:(0:Int)<((BC LS 0).length:Int):=by omega);obtain⟨gz,cz,hez,z0⟩:=FM r0 0 hzp;simp only[ei]at hez;obtain⟨rfl,-,rfl⟩:=hez;have De:=Ab (N9.start Gb (ls:=LS) (by omega) q0 hzp);obtain⟨s0,hs0⟩:∃s0,(BC LS 0)[0]=s0:=⟨_,rfl⟩;rw[hs0]at De z0;clear hs0 hLS r0 q0 hz;generalize(BC LS 0).length=L0 at e0 hzb hzc hzi;(have e0a:=λo=>((Ac.refl [] w).alloc o).cellAt e0);(have z0a:=λo=>((Ac.refl [] w).alloc o).cellAt z0);go_enter func208,ntmps208;go_wp2_with ((with_reducible show wpList _ _ _ ({dst:=_,op:=Op.makeSlice 221 _ _,type:=_,pos:=_,after:=_,guard:=_}::_) _ _);refine wpList_make_row _ rfl _ _ 221 rfl 3 j0 _ underlying221 hj0 hy0 hy1 rfl .i64 .i64 ps.length (by rfl) (by rfl) (by rw[hy2];omega) (by omega) ?_)
   have HPl:Hid ((w.alloc (.cells (madeCells #[.int .i64 0] ps.length) 3)).ownsRow N 3 1 (.slice (some ⟨N,0,none⟩) ps.length ps.length) ps.length ((List.replicate ps.length 0).flatMap BW)):=by
    have h:=jp (e:=3) (size:=1) (base:=N) w (madeCells #[.int .i64 0] ps.length) ps.length (by have:=Aa HN;omega) (by unfold maxLen;omega) (by rw[size_madeCells];omega);rw[RH,Aa HN]at h;have e:(List.replicate ps.length 0).flatMap BW=List.replicate ps.length (.int .i64 0):=by
     generalize ps.length=n
     induction n with
     |zero=>rfl
     |succ n ih=>rw[List.replicate_succ,eN,ih,List.replicate_succ];rfl
    rw[e];exact h
   have HK0:=Ab ((Ac.refl [] w).alloc (.cells (madeCells #[.int .i64 0] ps.length) 3));have HC0:Hid (N9 E8 LS 0 s0 0 (λi=>(List.replicate ps.length 0).getD i 0) []):=by
    have e:(λi=>(List.replicate ps.length 0).getD i 0)=λ_=>0:=by
     funext i
     rw[eK,List.getElem?_replicate];split<;>rfl
    rw[e];exact De
   rw[Aa HN];clear e0 z0 e0a z0a De hzb hzc hzi b0 hzp;generalize w.alloc (.cells (madeCells #[.int .i64 0] ps.length) 3)=w1 at HPl HK0⊢
   go_loopg [3,5,6,7] (Sw E8 s0 LS*(ps.length+1)+ps.length) (λgk cv sv av tv wr=>∃(t:Nat) (s:g0) (ag:Nat) (pl:List Nat) (m:List g0) (mad:Option Addr) (mcp:Nat),cv=.slice mad m.length mcp/\sv=.string s/\av=.int .i64 ag/\tv=.int .i64 t/\gk=Sw E8 s LS*(ps.length+1)+(ps.length-ag)/\pl.length=ps.length/\m.length+Sw E8 s LS<=10000000/\Hid (N9 E8 LS t s ag (λi=>pl.getD i 0) m)/\Hid (wr.ownsRow N 3 1 (.slice (some ⟨N,0,none⟩) ps.length ps.length) ps.length (pl.flatMap BW))/\Hid (wr.ownsRow N 170 1 (.slice mad m.length mcp) m.length (m.flatMap Ah))/\Hid (Ac [] w wr))
   case atStart=>exact⟨0,s0,0,List.replicate ps.length 0,[],none,0,rfl,rfl,rfl,rfl,by simp,by simp,by have:=Aa HMx s0;simp;omega,HC0,HPl,eU _ _ _ _,HK0⟩
   case round=>
    clear HC0 HPl HK0;obtain⟨t,s,ag,pl,m,mad,mcp,rfl,rfl,rfl,rfl,hgk,hpl,hml,HC,HP,HM,HK⟩:=hrel;have HG:=Ab hgk;clear hgk;(have htk:t<ps.length:=by have:=HC.tk;omega);(have hagk:ag<ps.length:=by have:=HC.agk;omega);obtain⟨g',cap',adt,cpt,he',et,rt,qt,bt⟩:=bm (HL.kept HK) t htk;simp only[ei,eD,fm]at he';obtain⟨⟨hgq,-,-⟩,-,-⟩:=he';subst hgq;rw[Aa HLS]at et rt qt bt;(have hP2:wr.ownsRow N 3 1 (.slice (some ⟨N,0,none⟩) ps.length ps.length) pl.length (pl.flatMap BW):=by rw[hpl];exact HP);have hptl:pl.getD t 0<=(BC LS t).length:=HC.ple t HC.tk;obtain⟨gp,cpp,hep,pt⟩:=W5 (l:=pl) (v:=.slice (some ⟨N,0,none⟩) ps.length ps.length) hP2 t (by omega);simp only[ei,eD,fm]at hep;obtain⟨⟨hgq,-,-⟩,-,-⟩:=hep;subst hgq;obtain⟨PT,hPT⟩:∃PT,pl[t]=PT:=⟨_,rfl⟩;(have hPD:pl.getD t 0=PT:=by rw[eK,ez (by omega),hPT];rfl);rw[hPT]at pt;rw[hPD]at hptl;have HLp:=Ab (QI (.slice adt (BC LS t).length cpt) (BC LS t) PT s 0 wr rt (by omega) hptl qt);have HQ:=Ab qt;have HRt:=Ab rt;have HPD:=Ab hPD;(have htr0:(0:Int)<=(t:Int):=by omega);(have htr1:(t:Int)<(ps.length:Int):=by omega);have pf:=HP.frozenAt t;have HLow:Hid (∀q0 q1,adt=some ⟨q0,q1,none⟩->q0<N):=by
     intro q0 q1 hq;obtain⟨gw,_,adw,cpw,hew,ew,rw0,_,_⟩:=bm HL t htk;simp only[ei,eD,fm]at hew;obtain⟨⟨hgq,-,-⟩,-,-⟩:=hew;subst hgq;have e2:=HK.cellAt ew;rw[Aa HLS,et]at e2;simp only[eD,ei]at e2;have h3:=(rw0.lt q0 (by rw[<-e2.1,hq];rfl)).2;rw[Aa HN]at h3;exact h3
    have HTm:Hid (((t:Int)+1).tmod (ps.length:Int)=(ER ps.length t:Int)/\((t:Int)+1)%(ps.length:Int)=(ER ps.length t:Int)/\ER ps.length t<ps.length):=by
     have h1:=Zq htk;(have h2:((t:Int)+1)%(ps.length:Int)=(ER ps.length t:Int):=by rw[<-h1,Int.natCast_emod,Int.natCast_add];rfl);exact⟨by rw[Int.tmod_eq_emod_of_nonneg (by omega)];exact h2,h2,Sq htk⟩
    clear hPT hP2 hPD qt rt;(go_wp2_with fail);refine HLp.mono ?_;rintro _ w2 ⟨at_,rfl,hleap,hw2⟩;have hw3:=hw2.symm;subst hw3;(have hleap2:C3 E8 (BC LS t) ((λi=>pl.getD i 0) t) s at_:=by show C3 E8 (BC LS t) (pl.getD t 0) s at_;rw[Aa HPD];exact hleap);have HLe:=Ab hleap2;have hal:=hleap.le;clear hleap hleap2 HLp;by_cases hend:at_=(BC LS t).length
    .have HE:Hid (Jq ps m):=HOut m (λ_=>HC.done HLe hend) (λh=>absurd h hpne) HC.zK;(have hendb:((at_:Int)==((BC LS t).length:Int))=true:=by simp[hend]);(have hendc:(at_:Int)=((BC LS t).length:Int):=by omega);clear hend;go_wp2;go_ret;exact⟨mad,mcp,m,rfl,HE,HM,HK⟩
    ·(have halt:at_<(BC LS t).length:=by omega);(have hendb:((at_:Int)==((BC LS t).length:Int))=false:=by rw[ff];omega);(have hendc:¬(at_:Int)=((BC LS t).length:Int):=by omega);(have har0:(0:Int)<=(at_:Int):=by omega);(have har1:(at_:Int)<((BC LS t).length:Int):=by omega);obtain⟨gx,cx,hex,x0⟩:=FM HRt at_ halt;simp only[ei]at hex;obtain⟨rfl,-,rfl⟩:=hex;obtain⟨X,hX⟩:∃X,(BC LS t)[at_]=X:=⟨_,rfl⟩;rw[hX]at x0;cases hsx:(X.toList==s.toList)with
     |true=>
      have hXs:X=s:=(Er X s).1 hsx;have HMid:=Ab (HC.same HLe halt (by rw[hX,hXs]));(have hGl:Sw E8 X LS<=Sw E8 s LS:=by rw[hXs];exact eM _);subst hXs;clear hX HC;(have hag1:ag+1<=ps.length:=by omega);by_cases hall:ag+1=ps.length
      ·(have hallb:(((ag:Int)+1)==(ps.length:Int))=true:=by rw[gF];omega);have hallc:((ag:Int)+1)=(ps.length:Int):=by omega
       skip
       skip
       (have hlall:ag+1=LS.length:=by omega);by_cases hlast:at_+1=(BC LS t).length
       ·(have hlb:(((at_:Int)+1)==((BC LS t).length:Int))=true:=by rw[gF];omega);(have hlc:((at_:Int)+1)=((BC LS t).length:Int):=by omega);have HE:Hid (Jq ps (m++[X])):=HOut (m++[X]) (λ_=>HMid.last Gb HQ hlall hlast) (λh=>absurd h hpne) (HMid.yJ hlall).2;have hM:=Aa HM;clear hall hlast;go_wp2_with (at_builtin;refine eP _ rfl (.tmp 65) (.tmp 67) _ rfl N 170 i0 _ 1 16 underlying102 hi0 hz0 hz1 hz2 rfl (by omega) (.slice mad m.length mcp) m.length (m.flatMap Ah) rfl (eC hM _) ⟨wr.heap.size,0,none⟩ 1 1 [.string X] rfl rfl (eS (cs:=#[.string X]) (t:=170) (fr:=(0,0)) (fe wr _)) (by simp[Value.oneCell']) (by omega) (by unfold maxLen;omega) (by omega) (by simp;have:=HK.size;have:=Aa HN;omega) (wr.heap.size+1) (by simp) ?_;intro g1 cp1 w9 ho1 hg1 ha1 hl1)
        go_ret;refine⟨some ⟨g1,0,none⟩,cp1,m++[X],by simp,HE,?_,(HK.alloc _).grown hg1 (λq hq=>Or.inr (by have:=(hM.lt q hq).1;have:=Aa HN;omega))⟩;rw[eY];simp only[eJ,eF,fb,fw,eN,fF,fh,Ah];exact ho1
       ·(have hlb:(((at_:Int)+1)==((BC LS t).length:Int))=false:=by rw[ff];omega);(have hlc:¬((at_:Int)+1)=((BC LS t).length:Int):=by omega);(have hgo:at_+1<(BC LS t).length:=by omega);obtain⟨gy,cy,hey,y0⟩:=FM HRt (at_+1) hgo;simp only[ei,eD,fm]at hey;obtain⟨⟨hgq,-,-⟩,-,-⟩:=hey;subst hgq;have hmore:=HMid.more Gb HQ hlall hgo;obtain⟨Y,hY⟩:∃Y,(BC LS t)[at_+1]=Y:=⟨_,rfl⟩;rw[hY]at y0 hmore;rw[L5 pl t (at_+1) (by omega),hLl]at hmore;have HCn:=Ab hmore.1;have hGm:=hmore.2;(have hyr0:(0:Int)<=(at_:Int)+1:=by omega);(have hyr1:(at_:Int)+1<((BC LS t).length:Int):=by omega);have hM:=Aa HM;have HYk:Hid (∀w9,(wr.alloc (.cells #[.string X] 170)).grownBy w9 (Value.slice mad m.length mcp).ownBlock->w9.cell? ⟨gx,at_+1,none⟩=some (.string Y)/\w9.ownsRow N 3 1 (.slice (some ⟨N,0,none⟩) ps.length ps.length) ps.length (pl.flatMap BW)):=by
         intro w9 hg9;refine⟨?_,(eC HP _).kept hg9 (Or.inr (λe=>A5 HP hM (by decide) N rfl e.symm))⟩;have hgx:gx<N:=HLow _ _ (by rfl);(have hgw:gx<wr.heap.size:=by have:=HK.size;have:=Aa HN;omega);rw[hg9.cell_far ⟨gx,at_+1,none⟩ (by simp;omega) (λe=>by have:=(hM.lt gx e.symm).1;omega)];exact(((Ac.refl [] wr).alloc _).cellAt y0)
        clear hall hlast hY hmore;go_wp2_with (at_builtin;refine eP _ rfl (.tmp 65) (.tmp 67) _ rfl N 170 i0 _ 1 16 underlying102 hi0 hz0 hz1 hz2 rfl (by omega) (.slice mad m.length mcp) m.length (m.flatMap Ah) rfl (eC hM _) ⟨wr.heap.size,0,none⟩ 1 1 [.string X] rfl rfl (eS (cs:=#[.string X]) (t:=170) (fr:=(0,0)) (fe wr _)) (by simp[Value.oneCell']) (by omega) (by unfold maxLen;omega) (by omega) (by simp;have:=HK.size;have:=Aa HN;omega) (wr.heap.size+1) (by simp) ?_;intro g1 cp1 w9 ho1 hg1 ha1 hl1;have y9:=(HYk w9 hg1).1;have p9r:=(HYk w9 hg1).2;have p9c:=p9r.cellAt t (by omega);have p9f:=p9r.frozenAt t;rw[LD pl t (by omega)]at p9c)
        have ht1:=HTm.1;have ht2:=HTm.2.1;have HS9:=Ab (((HYk w9 hg1).2).stored t (.int .i64 ((at_+1:Nat):Int)));go_wp2
        go_roundg (Sw E8 Y LS*(ps.length+1)+ps.length)
        case measure=>
         have h1:=Aa HG;have h2:(Sw E8 Y LS+1)*(ps.length+1)<=Sw E8 X LS*(ps.length+1):=fV _ (by omega);rw[gL]at h2;omega
        case rel=>
         refine⟨ER ps.length t,Y,0,pl.set t (at_+1),m++[X],some ⟨g1,0,none⟩,cp1,by simp,rfl,rfl,by first|rfl|exact congrArg _ HTm.2.1,by simp,by simp[hpl],by simp;omega,HCn,?_,?_,?_⟩
         .rw[Ko];have h:=HS9.1;exact h
         .have hap:=A5 (HYk w9 hg1).2 ho1 (by decide) N rfl;have h9:w9.ownsRow N 170 1 (.slice (some ⟨g1,0,none⟩) (m++[X]).length cp1) (m++[X]).length ((m++[X]).flatMap Ah):=by
           rw[eY];simp only[eJ,eF,fb,fw,eN,fF,fh,Ah];exact ho1
          exact Al h9 (Ac.setCell (M:=[N]) (Ac.refl [N] _) (Or.inl (by simp)) _) (λq hq=>by simp only[ex];intro e;subst e;exact hap hq)
         .exact((HK.alloc _).grown hg1 (λq hq=>Or.inr (by have:=(hM.lt q hq).1;have:=Aa HN;omega))).setCell (Or.inr (by have:=Aa HN;simp;omega)) _
      ·(have hallb:(((ag:Int)+1)==(ps.length:Int))=false:=by rw[ff];omega);have hallc:¬((ag:Int)+1)=(ps.length:Int):=by omega
       skip
       skip
       have hnx:=HMid.next (by omega);rw[L5 pl t at_ (by omega),hLl]at hnx;have HCn:=Ab hnx;have ht1:=HTm.1;have ht2:=HTm.2.1;clear hall hnx;go_wp2
       go_roundg (Sw E8 X LS*(ps.length+1)+(ps.length-(ag+1)))
       case measure=>
        have h1:=Aa HG
        skip
        skip
        omega
       case rel=>
        refine⟨ER ps.length t,X,ag+1,pl.set t at_,m,mad,mcp,rfl,rfl,by go_num,by first|rfl|exact congrArg _ HTm.2.1,rfl,by simp[hpl],by omega,HCn,?_,?_,?_⟩
        .rw[Ko];exact(HP.stored t (.int .i64 (at_:Int))).1
        .have hap:=A5 HP HM (by decide) N rfl;exact Al HM (Ac.setCell (M:=[N]) (Ac.refl [N] _) (Or.inl (by simp)) _) (λq hq=>by simp only[ex];intro e;subst e;exact hap hq)
        .exact HK.setCell (Or.inr (by have:=Aa HN;simp;omega)) _
     |false=>
      (have hXs:X≠s:=λe=>by rw[(Er X s).2 e]at hsx;cases hsx);have hpast:=HC.past Gb HQ HLe halt (by rw[hX];exact hXs);rw[hX]at hpast;have HMid:=Ab hpast.1;have hGl:=hpast.2;clear hX HC hpast hXs;(have hag1:0+1<=ps.length:=by omega);by_cases hall:0+1=ps.length
      ·(have hallb:(((0:Int)+1)==(ps.length:Int))=true:=by rw[gF];omega);(have hallb1:((1:Int)==(ps.length:Int))=true:=by rw[gF];omega);(have hlall:0+1=LS.length:=by omega);by_cases hlast:at_+1=(BC LS t).length
       ·(have hlb:(((at_:Int)+1)==((BC LS t).length:Int))=true:=by rw[gF];omega);(have hlc:((at_:Int)+1)=((BC LS t).length:Int):=by omega);have HE:Hid (Jq ps (m++[X])):=HOut (m++[X]) (λ_=>HMid.last Gb HQ hlall hlast) (λh=>absurd h hpne) (HMid.yJ hlall).2;have hM:=Aa HM;clear hall hlast;go_wp2_with (at_builtin;refine eP _ rfl (.tmp 65) (.tmp 67) _ rfl N 170 i0 _ 1 16 underlying102 hi0 hz0 hz1 hz2 rfl (by omega) (.slice mad m.length mcp) m.length (m.flatMap Ah) rfl (eC hM _) ⟨wr.heap.size,0,none⟩ 1 1 [.string X] rfl rfl (eS (cs:=#[.string X]) (t:=170) (fr:=(0,0)) (fe wr _)) (by simp[Value.oneCell']) (by omega) (by unfold maxLen;omega) (by omega) (by simp;have:=HK.size;have:=Aa HN;omega) (wr.heap.size+1) (by simp) ?_;intro g1 cp1 w9 ho1 hg1 ha1 hl1)
        go_ret;refine⟨some ⟨g1,0,none⟩,cp1,m++[X],by simp,HE,?_,(HK.alloc _).grown hg1 (λq hq=>Or.inr (by have:=(hM.lt q hq).1;have:=Aa HN;omega))⟩;rw[eY];simp only[eJ,eF,fb,fw,eN,fF,fh,Ah];exact ho1
       ·(have hlb:(((at_:Int)+1)==((BC LS t).length:Int))=false:=by rw[ff];omega);(have hlc:¬((at_:Int)+1)=((BC LS t).length:Int):=by omega);(have hgo:at_+1<(BC LS t).length:=by omega);obtain⟨gy,cy,hey,y0⟩:=FM HRt (at_+1) hgo;simp only[ei,eD,fm]at hey;obtain⟨⟨hgq,-,-⟩,-,-⟩:=hey;subst hgq;have hmore:=HMid.more Gb HQ hlall hgo;obtain⟨Y,hY⟩:∃Y,(BC LS t)[at_+1]=Y:=⟨_,rfl⟩;rw[hY]at y0 hmore;rw[L5 pl t (at_+1) (by omega),hLl]at hmore;have HCn:=Ab hmore.1;have hGm:=hmore.2;(have hyr0:(0:Int)<=(at_:Int)+1:=by omega);(have hyr1:(at_:Int)+1<((BC LS t).length:Int):=by omega);have hM:=Aa HM;have HYk:Hid (∀w9,(wr.alloc (.cells #[.string X] 170)).grownBy w9 (Value.slice mad m.length mcp).ownBlock->w9.cell? ⟨gx,at_+1,none⟩=some (.string Y)/\w9.ownsRow N 3 1 (.slice (some ⟨N,0,none⟩) ps.length ps.length) ps.length (pl.flatMap BW)):=by
         intro w9 hg9;refine⟨?_,(eC HP _).kept hg9 (Or.inr (λe=>A5 HP hM (by decide) N rfl e.symm))⟩;have hgx:gx<N:=HLow _ _ (by rfl);(have hgw:gx<wr.heap.size:=by have:=HK.size;have:=Aa HN;omega);rw[hg9.cell_far ⟨gx,at_+1,none⟩ (by simp;omega) (λe=>by have:=(hM.lt gx e.symm).1;omega)];exact(((Ac.refl [] wr).alloc _).cellAt y0)
        clear hall hlast hY hmore;go_wp2_with (at_builtin;refine eP _ rfl (.tmp 65) (.tmp 67) _ rfl N 170 i0 _ 1 16 underlying102 hi0 hz0 hz1 hz2 rfl (by omega) (.slice mad m.length mcp) m.length (m.flatMap Ah) rfl (eC hM _) ⟨wr.heap.size,0,none⟩ 1 1 [.string X] rfl rfl (eS (cs:=#[.string X]) (t:=170) (fr:=(0,0)) (fe wr _)) (by simp[Value.oneCell']) (by omega) (by unfold maxLen;omega) (by omega) (by simp;have:=HK.size;have:=Aa HN;omega) (wr.heap.size+1) (by simp) ?_;intro g1 cp1 w9 ho1 hg1 ha1 hl1;have y9:=(HYk w9 hg1).1;have p9r:=(HYk w9 hg1).2;have p9c:=p9r.cellAt t (by omega);have p9f:=p9r.frozenAt t;rw[LD pl t (by omega)]at p9c)
        have ht1:=HTm.1;have ht2:=HTm.2.1;have HS9:=Ab (((HYk w9 hg1).2).stored t (.int .i64 ((at_+1:Nat):Int)));go_wp2
        go_roundg (Sw E8 Y LS*(ps.length+1)+ps.length)
        case measure=>
         have h1:=Aa HG;have h2:(Sw E8 Y LS+1)*(ps.length+1)<=Sw E8 s LS*(ps.length+1):=fV _ (by omega);rw[gL]at h2;omega
        case rel=>
         refine⟨ER ps.length t,Y,0,pl.set t (at_+1),m++[X],some ⟨g1,0,none⟩,cp1,by simp,rfl,rfl,by first|rfl|exact congrArg _ HTm.2.1,by simp,by simp[hpl],by simp;omega,HCn,?_,?_,?_⟩
         .rw[Ko];have h:=HS9.1;exact h
         .have hap:=A5 (HYk w9 hg1).2 ho1 (by decide) N rfl;have h9:w9.ownsRow N 170 1 (.slice (some ⟨g1,0,none⟩) (m++[X]).length cp1) (m++[X]).length ((m++[X]).flatMap Ah):=by
           rw[eY];simp only[eJ,eF,fb,fw,eN,fF,fh,Ah];exact ho1
          exact Al h9 (Ac.setCell (M:=[N]) (Ac.refl [N] _) (Or.inl (by simp)) _) (λq hq=>by simp only[ex];intro e;subst e;exact hap hq)
         .exact((HK.alloc _).grown hg1 (λq hq=>Or.inr (by have:=(hM.lt q hq).1;have:=Aa HN;omega))).setCell (Or.inr (by have:=Aa HN;simp;omega)) _
      ·(have hallb:(((0:Int)+1)==(ps.length:Int))=false:=by rw[ff];omega);(have hallc:¬((0:Int)+1)=(ps.length:Int):=by omega);(have hallb1:((1:Int)==(ps.length:Int))=false:=by rw[ff];omega);(have hallc1:¬(1:Int)=(ps.length:Int):=by omega);have hnx:=HMid.next (by omega);rw[L5 pl t at_ (by omega),hLl]at hnx;have HCn:=Ab hnx;have ht1:=HTm.1;have ht2:=HTm.2.1;clear hall hnx;go_wp2
       go_roundg (Sw E8 X LS*(ps.length+1)+(ps.length-(0+1)))
       case measure=>
        have h1:=Aa HG;have h2:(Sw E8 X LS+1)*(ps.length+1)<=Sw E8 s LS*(ps.length+1):=fV _ (by omega);rw[gL]at h2;omega
       case rel=>
        refine⟨ER ps.length t,X,0+1,pl.set t at_,m,mad,mcp,rfl,rfl,by go_num,by first|rfl|exact congrArg _ HTm.2.1,rfl,by simp[hpl],by omega,HCn,?_,?_,?_⟩
        .rw[Ko];exact(HP.stored t (.int .i64 (at_:Int))).1
        .have hap:=A5 HP HM (by decide) N rfl;exact Al HM (Ac.setCell (M:=[N]) (Ac.refl [N] _) (Or.inl (by simp)) _) (λq hq=>by simp only[ex];intro e;subst e;exact hap hq)
        .exact HK.setCell (Or.inr (by have:=Aa HN;simp;omega)) _
def DL.grown{w w':j7}{p:Fe}{base n:Nat}{v:j8}{a:List j8}(h:DL w p)(c:jG w base 104 2 v n a)(b:w.grownBy w' v.ownBlock):DL w' p:=
 fT (v:=p.tv) h b (by
  cases hp:p.tv.ownBlock with
  |none=>exact Or.inl rfl
  |some q=>exact Or.inr (λe=>A5 h c (by decide) q hp e.symm))
def Iw(b:List g0)(ls:List PL):List CV:=(ls.filter λx=>x.sort==0).map (EE b)
theorem XE(S ty:Nat)(b:List g0)(FP:Option Addr)(B2:Nat)(ls:List Oi)(w:j7)(hb:Z b=26)(HD:AI w S (Ai b) ty)(hB:CE w 0 (U FP (Z ls) B2) ls)(JJ:Z ls<=1000)(hl:∀p∈ls,Pm p.1):
  Calls prog 198 #[j3 (V ⟨S,0,Y⟩),U FP (Z ls) B2] w λr m=>∃(j:Option Addr) (l:Nat) (a:List Fe),r=j4 (U j (Z a) l)/\a.map Fe.f=Iw b (ls.map jM)/\Lx m (U j (Z a) l) a/\jG m w.heap.size 104 2 (U j (Z a) l) (Z a) (a.flatMap AW)/\Ac [] w m:=by
 obtain⟨i0,H1,HW,H3,H0⟩:=fC Tryz.zi;have HB:=Ab hB;have HY:=Ab hl;have HM:j9 (∀(x:PL) j l B,Ac [] w B->Pm x->JG w 0 (x,U j (Z x.ts) l)->Calls prog 196 #[j3 (V ⟨S,0,Y⟩),jH #[X J x.ap,O x.an,U j (Z x.ts) l]] B λr m=>∃g,r=j4 (jH #[O x.an,U (V ⟨g,0,Y⟩) (Z x.ts) (Z x.ts)])/\DL m ⟨EE b x,U (V ⟨g,0,Y⟩) (Z x.ts) (Z x.ts)⟩/\Ac [] B m):=by
  intro x j l B hk hc hx;refine(ML S ty b x.ap x.an j l x.ts 0 B hb (HD.kept hk (by simp)) (hx.kept hk (by simp)) (by have:=hc.len;omega) hc.ts).mono ?_;rintro r m ⟨g,rfl,hr,k⟩;refine⟨g,rfl,?_,k⟩;show jG m 0 170 1 _ (Z (x.ts.map (Bt b))) _;rw[eL];exact Am hr (eV _)
 obtain⟨R,hR⟩:∃R,Iw b (ls.map jM)=R:=⟨_,rfl⟩;rw[hR];have HR:=Ab hR;obtain⟨N,hN⟩:∃N,w.heap.size=N:=⟨_,rfl⟩;have P:=Ab hN;clear hB hl hR hN HD;go_enter func198,ntmps198;go_wp2_with fail
 go_loopg [5,10] (Z ls) (λgk o i wr=>∃(k:Nat) (a:List Fe) (y:Option Addr) (s:Nat),o=U y (Z a) s/\i=X J k/\k<=Z ls/\gk=Z ls-k/\Z a<=k/\j9 (a.map Fe.f=Iw b ((ls.take k).map jM))/\j9 (jG wr N 104 2 (U y (Z a) s) (Z a) (a.flatMap AW))/\j9 (∀p∈a,DL wr p/\Z p.f.zB<=1000)/\j9 (Ac [] w wr))
 case atStart=>exact⟨0,[],Y,0,rfl,rfl,by omega,rfl,by simp,rfl,eU _ _ _ _,(λp d=>by cases d),Ac.refl _ _⟩
 case round=>
  obtain⟨k,a,y,s,rfl,rfl,hk,HF,IS,F,I,L,C⟩:=hrel;have HG:=Ab HF;clear HF;by_cases AH:k<Z ls
  .obtain⟨g,KA,x,u,v,he,AB,_,d0,d1,d2,d3,d4,d5,d6,d7,d8⟩:=SI (HB.kept C (by simp)) k AH;simp only[ei]at he;obtain⟨rfl,_,rfl⟩:=he;(have A0:(x,U u (Z x.ts) v)∈ls:=by rw[<-AB];exact eo AH);have A1:=Aa HY _ A0;have FA:JG w 0 (x,U u (Z x.ts) v):=(HB.each _ A0).1;have De:j9 (Iw b ((ls.take (k+1)).map jM)=Iw b ((ls.take k).map jM)++if(x.sort==0)=jj then[EE b x] else[]):=by
    show _=_;unfold Iw;rw[ep AH,fi,ii,fi,AB]
    congr 1
    simp only[eR,gU,gm,List.filter_nil];split<;>rfl
   have E:=Ab (C.alloc (j1 (j2 (Aw (x,U u (Z x.ts) v))) 217));have G:=Ab (eC I (j1 (j2 (Aw (x,U u (Z x.ts) v))) 217));(have z:j9 (∀p∈a,DL (wr.alloc (j1 (j2 (Aw (x,U u (Z x.ts) v))) 217)) p/\Z p.f.zB<=1000):=λp d=>⟨(L p d).1.kept ((Ac.refl [] wr).alloc _),(L p d).2⟩);have A:=Ab (HM x u v _ E A1 FA);(have DT:j9 (Z (EE b x).zB<=1000):=by show Z (x.ts.map (Bt b))<=1000;rw[eL];exact A1.len);(have T:j9 (∀g,AW ⟨EE b x,U (V ⟨g,0,Y⟩) (Z x.ts) (Z x.ts)⟩=[O x.an,U (V ⟨g,0,Y⟩) (Z x.ts) (Z x.ts)]):=λg=>rfl);generalize EE b x=FC at De A DT T;obtain⟨pl,so,ap,an,c,⟨lv,H9⟩,⟨rv,KB⟩⟩:=x;simp only[Aw]at E G z A De T d0 d1 d2 d3 d4 d5 d6 d7 d8;clear AB A0 A1 FA I L;(have Jx:N<=wr.heap.size:=by have:=C.size;have:=Aa P;omega);clear C;by_cases Q:so=0
   ·(have A2:(so==0)=jj:=by simp[Q]);rw[A2,eI rfl]at De;clear Q;(go_wp2_with fail);refine A.mono ?_;rintro _ n ⟨e,rfl,EX,M⟩;have D:=Ad G M (by simp);(have Bx:j9 (∀p∈a,DL n p/\Z p.f.zB<=1000):=λp d=>⟨(z p d).1.kept M,(z p d).2⟩);have BA:=Ab (E.trans M);have FW:=Ab EX;(have H7:N<=n.heap.size:=by have:=BA.size;have:=Aa P;omega);clear A G z E M EX d0 d1 d2 d3 d4 d5 d6 d7 d8;go_wp2_with (at_builtin;refine eP _ rfl (.tmp 17) (.tmp 22) _ rfl N 104 i0 _ 2 40 underlying113 H1 HW H3 H0 rfl (by omega) (U y (Z a) s) (Z a) (a.flatMap AW) rfl (eC D _) ⟨n.heap.size,0,Y⟩ 1 1 [O an,U (V ⟨e,0,Y⟩) (Z c) (Z c)] rfl rfl (eS (cs:=#[O an,U (V ⟨e,0,Y⟩) (Z c) (Z c)]) (t:=104) (fr:=(0,0)) (fe n _)) (by simp[Value.oneCell']) (by omega) (by unfold maxLen;omega) (by omega) (by simp;omega) (n.heap.size+1) (by simp) ?_;intro g1 EY w9 Go H HL HU)
    have W:j9 ((a++[Fe.mk FC (U (V ⟨e,0,Y⟩) (Z c) (Z c))]).map Fe.f=Iw b ((ls.take (k+1)).map jM)):=by
     show _=_;rw[Aa De,fi,Aa F];rfl
    have HS:j9 (jG w9 N 104 2 (U (V ⟨g1,0,Y⟩) (Z (a++[Fe.mk FC (U (V ⟨e,0,Y⟩) (Z c) (Z c))])) EY) (Z (a++[Fe.mk FC (U (V ⟨e,0,Y⟩) (Z c) (Z c))])) ((a++[Fe.mk FC (U (V ⟨e,0,Y⟩) (Z c) (Z c))]).flatMap AW)):=by
     rw[eY];simp only[eJ,eF,fb,fw,eN,fF,fh,Aa T];exact Go
    have HV:j9 (∀p∈a++[Fe.mk FC (U (V ⟨e,0,Y⟩) (Z c) (Z c))],DL w9 p/\Z p.f.zB<=1000):=by
     intro p d;rcases eG.1 d with h|h
     .exact⟨DL.grown ((Bx p h).1.kept ((Ac.refl [] n).alloc _)) (eC D _) H,(Bx p h).2⟩
     .simp only[ex]at h;subst h;exact⟨DL.grown (FW.kept ((Ac.refl [] n).alloc _)) (eC D _) H,DT⟩
    have HZ:=Ab ((BA.alloc (j1 #[O an,U (V ⟨e,0,Y⟩) (Z c) (Z c)] 104)).grown H (λq hq=>Or.inr (by have:=(D.lt q hq).1;have:=Aa P;omega)));clear Go H HL HU D Bx BA FW De F
    go_roundg (Z ls-(k+1))
    case measure=>have:=Aa HG;omega
    case rel=>exact⟨k+1,a++[Fe.mk FC (U (V ⟨e,0,Y⟩) (Z c) (Z c))],V ⟨g1,0,Y⟩,EY,by simp,by go_num,by omega,rfl,by simp;omega,W,HS,HV,HZ⟩
   ·(have A2:(so==0)=K:=by simp[Q]);rw[A2,eE (by simp),fh]at De;(have W:j9 (a.map Fe.f=Iw b ((ls.take (k+1)).map jM)):=by show _=_;rw[Aa De];exact F);clear Q De F A;go_wp2
    go_roundg (Z ls-(k+1))
    case measure=>have:=Aa HG;omega
    case rel=>exact⟨k+1,a,y,s,rfl,by go_num,by omega,rfl,by omega,W,G,z,E⟩
  .have H5:j9 (a.map Fe.f=R):=by
    have h:=Aa F;rw[eu (by omega),Aa HR]at h;exact h
   go_wp2;go_ret;exact⟨y,s,a,rfl,H5,⟨Am I (eV _),L⟩,by rw[Aa P];exact I,C⟩
