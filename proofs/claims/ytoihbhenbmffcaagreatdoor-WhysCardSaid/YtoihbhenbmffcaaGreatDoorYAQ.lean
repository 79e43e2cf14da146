import Derived.Test.YtoihbhenbmffcaaGreatDoorYAP
set_option linter.all false
set_option maxHeartbeats 0
open List renaming length->Z,toArray->j2,replicate->jL
open Option renaming none->Y,some->V
open Go.Value renaming slice->U,int->X,string->O,agg->jH
open Bool renaming false->K,true->jj
open Go.IntKind renaming i64->J
open Go.Obj renaming cells->j1
open Go.Ending renaming returned->j4
open Go renaming Value->j8
open Go.World renaming cell?->jF
namespace Go.Proofs.YtoihbhenbmffcaaGreatDoor
open Go.RowKit Go.Proofs.Tryz
def Cf(e:List g0):Z (Ai e)=Z e:=by unfold Ai;simp
def UI(e:List g0)(j:Nat)(x:g0):Ai (e.set j x)=(Ai e).set j (O x):=by unfold Ai;rw[jE]
def Fs(e:List g0):∀v∈Ai e,v.oneCell'=jj:=λv a=>by
 unfold Ai at a;obtain⟨x,_,rfl⟩:=eH.1 a;rfl
structure Sm(w:World)(N:Nat)(E:List j8)(nm:g0)(av:j8)(j:Nat)(ts:List AG)(fn:g0)(fv:j8)(xs:List g0):Prop where
 b0:AI w N E 90
 b1:AI w (N+1) [O nm,av,X J j] 79
 b2:AI w (N+1+1) [O fn,fv] 43
 b3:AI w (N+1+1+1) (jL 26 (O ⟨#[]⟩)) 90
 row:w.ownsRow 0 93 2 av (Z ts) (ts.flatMap AQ)
 rof:w.ownsRow 0 9 1 fv (Z xs) (xs.flatMap Ah)
 low:∀q,av.ownBlock=V q->q<N
 lof:∀q,fv.ownBlock=V q->q<N
def Sm.kept{w w':World}{N:Nat}{E:List j8}{nm fn:g0}{c a:j8}{j:Nat}{ts:List AG}{b:List g0}(h:Sm w N E nm c j ts fn a b)(k:Ac [] w w'):Sm w' N E nm c j ts fn a b:=
 ⟨h.b0.kept k (by simp),h.b1.kept k (by simp),h.b2.kept k (by simp),h.b3.kept k (by simp),Ad h.row k (by simp),Ad h.rof k (by simp),h.low,h.lof⟩
def Sm.set{w:World}{N:Nat}{E:List j8}{nm fn:g0}{c a:j8}{j:Nat}{ts:List AG}{b:List g0}(h:Sm w N E nm c j ts fn a b)(i:Nat)(u:j8):Sm (w.setCell ⟨N,i,Y⟩ u) N (E.set i u) nm c j ts fn a b:=
 ⟨h.b0.set i u,h.b1.zA _ (show N≠N+1 by omega) _,h.b2.zA _ (show N≠N+1+1 by omega) _,h.b3.zA _ (show N≠N+1+1+1 by omega) _,
  Ag h.row (λe=>by have:=h.low _ e;simp at this) _,Ag h.rof (λe=>by have:=h.lof _ e;simp at this) _,h.low,h.lof⟩
def GI{w:World}{b:Nat}(h:AI w b (jL 26 (O ⟨#[]⟩)) 90){E:List j8}(a:Z E=26):w.there b 0 E.toArray.size:=by
 have:=h.there;rw[gM]at this;rw[fU,a];exact this
set_option maxRecDepth 100000
theorem Lw(e:List g0)(A:Dj)(D:Option Addr)(x:Nat)(p:B5)(w:World)(he:Z e=26)(hA:w.ownsRow 0 93 2 (U D (Z A.args) x) (Z A.args) (A.args.flatMap AQ))(hP:Ew w p)(Mo:Z A.args<=1000)(LS:Z p.f.args<=1000000)(hg:∀t∈A.args,Bs t):
  Calls prog 87 #[jH (j2 (Ai e)),jH (j2 (Cj A.name (U D (Z A.args) x) A.at_)),jH (j2 (Bq p))] w λr w'=>r=j4 (.tuple #[jH (j2 (Ai (BH e A p.f).1)),.bool (BH e A p.f).2])/\Ac [] w w':=by
 obtain⟨d,a,j⟩:=A;obtain⟨⟨m,b⟩,pv⟩:=p;obtain⟨G,y,K9⟩:=Ak hP;simp only at K9;subst K9;simp only at hA Mo hg LS⊢;obtain⟨R,hR⟩:∃R,BH e ⟨d,a,j⟩ ⟨m,b⟩=R:=⟨_,rfl⟩;have HR:Hid ((if(d.toList==m.toList)&&(Z a==Z b)then CT e a b else(e,K))=R):=hR;rw[hR];have HV:Hid (∀e' t wr,Z e'=26->t∈a->Calls prog 89 #[jH (j2 (Ai e')),jH (j2 (AQ t))] wr λr w'=>r=j4 (O (AJ e' t))/\Ac [] wr w'):=λe' t wr A0 ht=>Kj e' t wr A0 (by rcases hg t ht with h|h;exact Or.inl h.1;exact Or.inr h)
 have NM:=Ab hg;have hc:=Bj e;have hl:Z (Ai e)=26:=by rw[Cf,he]
 have n:=Ab hl;have HO:Hid (∀v∈Ai e,v.oneCell'=jj):=Fs e;have c:Hid (Sm ((((w.alloc (j1 (j2 (Ai e)) 90)).alloc (j1 [O d,U D (Z a) x,X J j].toArray 79)).alloc (j1 [O m,U G (Z b) y].toArray 43)).alloc (j1 (j2 (jL 26 (O ⟨#[]⟩))) 90)) w.heap.size (Ai e) d (U D (Z a) x) j a m (U G (Z b) y) b):=by
  have b0:=AI.new w (Ai e) 90;have b1:=AI.new (w.alloc (j1 (j2 (Ai e)) 90)) [O d,U D (Z a) x,X J j] 79;have b2:=AI.new ((w.alloc (j1 (j2 (Ai e)) 90)).alloc (j1 [O d,U D (Z a) x,X J j].toArray 79)) [O m,U G (Z b) y] 43;have b3:=AI.new (((w.alloc (j1 (j2 (Ai e)) 90)).alloc (j1 [O d,U D (Z a) x,X J j].toArray 79)).alloc (j1 [O m,U G (Z b) y].toArray 43)) (jL 26 (O ⟨#[]⟩)) 90;simp only[fg]at b1 b2 b3;have hk:=((((Ac.refl [] w).alloc (j1 (j2 (Ai e)) 90)).alloc (j1 [O d,U D (Z a) x,X J j].toArray 79)).alloc (j1 [O m,U G (Z b) y].toArray 43)).alloc (j1 (j2 (jL 26 (O ⟨#[]⟩))) 90);exact⟨((b0.alloc _).alloc _).alloc _,(b1.alloc _).alloc _,b2.alloc _,b3,Ad hA hk (by simp),Ad hP hk (by simp),λq hq=>(hA.lt q hq).2,λq hq=>(World.ownsRow.lt hP q hq).2⟩
 have I:=Ab (((((Ac.refl [] w).alloc (j1 (j2 (Ai e)) 90)).alloc (j1 [O d,U D (Z a) x,X J j].toArray 79)).alloc (j1 [O m,U G (Z b) y].toArray 43)).alloc (j1 (j2 (jL 26 (O ⟨#[]⟩))) 90));simp only[Cj,Bq];clear hR hA hP hg;obtain⟨E,hE⟩:∃E,Ai e=E:=⟨_,rfl⟩;rw[hE]at hc hl n HO c I⊢;have HP:=Ab hE;clear hE;obtain⟨C,hC⟩:∃C,((d.toList==m.toList)&&(Z a==Z b))=C:=⟨_,rfl⟩;rw[hC]at HR;cases C with
 |false=>
  have P:Hid (Ai R.1=E/\R.2=K):=by rw[<-Aa HR,<-Aa HP];exact⟨rfl,rfl⟩
  have HC:Hid (((d.toList==m.toList)&&(Z a==Z b))=K):=hC;clear hC HR;cases hn:(d.toList==m.toList)with
  |false=>
   (have LB:(d.toList !=m.toList)=jj:=by simp[bne,hn]);clear HC;go_enter func87,ntmps87;apply wp_seq_k;intro KK AT;have AB:=Ab AT;clear AT;go_wp2;refine AB _ _ ?_;clear AB KK;change Code.wp _ _ _ _ ((((w.alloc (j1 (j2 E) 90)).alloc (j1 [O d,U D (Z a) x,X J j].toArray 79)).alloc (j1 [O m,U G (Z b) y].toArray 43)).alloc (j1 (j2 (jL 26 (O ⟨#[]⟩))) 90));generalize((((w.alloc (j1 (j2 E) 90)).alloc (j1 [O d,U D (Z a) x,X J j].toArray 79)).alloc (j1 [O m,U G (Z b) y].toArray 43)).alloc (j1 (j2 (jL 26 (O ⟨#[]⟩))) 90))=w1 at c I⊢;obtain⟨N,M⟩:∃N,w.heap.size=N:=⟨_,rfl⟩;rw[M]at c⊢;have HN:=Ab M;clear M;have c0:=c.b1.cell 0;have c2:=c.b2.cell 0;have W:=c.b1.cell 1;have c3:=c.b2.cell 1;simp at c0 c2 W c3;go_wp2_with (first|((with_reducible show wpList _ _ _ ({dst:=_,op:=Op.load 90 _,type:=_,pos:=_,after:=_,guard:=_}::_) _ _);refine gD rfl 90 _ rfl N 0 (by rfl) E _ c.b0.range underlying90 rfl (by rw[Aa n];exact Tryz.zG) ?_)|((with_reducible show wpList _ _ _ ({dst:=_,op:=Op.store 90 _ _,type:=_,pos:=_,after:=_,guard:=_}::_) _ _);refine gQ rfl 90 _ _ rfl (N+1+1+1) 0 (j2 E) (by rfl) (by rfl) (GI c.b3 n) (by rw[fU,Aa n];exact Tryz.zG) (fX HO) ?_))
   refine eX (Ar rfl (by rfl) (c.b3.zQ E (by rw[Aa n];rfl)) underlying90 rfl (by rw[Aa n];exact Tryz.zG)) rfl ⟨?_,I.zI (Or.inr (by have:=Aa HN;omega)) _ _⟩;rw[(Aa P).1,(Aa P).2];rfl
  |true=>
   (have LB:(d.toList !=m.toList)=K:=by simp[bne,hn]);have M1:¬Z a=Z b:=by
    have h:=Aa HC;rw[hn]at h;simpa using h
   (have NA:((Z a:Int) !=(Z b:Int))=jj:=by simp[bne];omega);(have Nj:((Z a:Int)==(Z b:Int))=K:=by rw[ff];omega);clear HC M1;go_enter func87,ntmps87;apply wp_seq_k;intro KK AT;have AB:=Ab AT;clear AT;go_wp2;refine AB _ _ ?_;clear AB KK;change Code.wp _ _ _ _ ((((w.alloc (j1 (j2 E) 90)).alloc (j1 [O d,U D (Z a) x,X J j].toArray 79)).alloc (j1 [O m,U G (Z b) y].toArray 43)).alloc (j1 (j2 (jL 26 (O ⟨#[]⟩))) 90));generalize((((w.alloc (j1 (j2 E) 90)).alloc (j1 [O d,U D (Z a) x,X J j].toArray 79)).alloc (j1 [O m,U G (Z b) y].toArray 43)).alloc (j1 (j2 (jL 26 (O ⟨#[]⟩))) 90))=w1 at c I⊢;obtain⟨N,M⟩:∃N,w.heap.size=N:=⟨_,rfl⟩;rw[M]at c⊢;have HN:=Ab M;clear M;have c0:=c.b1.cell 0;have c2:=c.b2.cell 0;have W:=c.b1.cell 1;have c3:=c.b2.cell 1;simp at c0 c2 W c3;go_wp2_with (first|((with_reducible show wpList _ _ _ ({dst:=_,op:=Op.load 90 _,type:=_,pos:=_,after:=_,guard:=_}::_) _ _);refine gD rfl 90 _ rfl N 0 (by rfl) E _ c.b0.range underlying90 rfl (by rw[Aa n];exact Tryz.zG) ?_)|((with_reducible show wpList _ _ _ ({dst:=_,op:=Op.store 90 _ _,type:=_,pos:=_,after:=_,guard:=_}::_) _ _);refine gQ rfl 90 _ _ rfl (N+1+1+1) 0 (j2 E) (by rfl) (by rfl) (GI c.b3 n) (by rw[fU,Aa n];exact Tryz.zG) (fX HO) ?_))
   refine eX (Ar rfl (by rfl) (c.b3.zQ E (by rw[Aa n];rfl)) underlying90 rfl (by rw[Aa n];exact Tryz.zG)) rfl ⟨?_,I.zI (Or.inr (by have:=Aa HN;omega)) _ _⟩;rw[(Aa P).1,(Aa P).2];rfl
 |true=>
  have BT:(d.toList==m.toList)=jj/\Z a=Z b:=by simpa using hC
  have hn:=BT.1;have LB:(d.toList !=m.toList)=K:=by simp[bne,BT.1]
  have NA:((Z a:Int) !=(Z b:Int))=K:=by simp[BT.2]
  have Nj:((Z a:Int)==(Z b:Int))=jj:=by simp[BT.2]
  have M6:=Ab BT.2;have H3:Hid (CT e (a.drop 0) (b.drop 0)=R):=by have h:=Aa HR;rw[eI rfl]at h;exact h
  clear hC HR BT;go_enter func87,ntmps87;apply wp_seq_k;intro KK AT;have AB:=Ab AT;clear AT;go_wp2;refine AB _ _ ?_;clear AB KK;change Code.wp _ _ _ _ ((((w.alloc (j1 (j2 E) 90)).alloc (j1 [O d,U D (Z a) x,X J j].toArray 79)).alloc (j1 [O m,U G (Z b) y].toArray 43)).alloc (j1 (j2 (jL 26 (O ⟨#[]⟩))) 90));generalize((((w.alloc (j1 (j2 E) 90)).alloc (j1 [O d,U D (Z a) x,X J j].toArray 79)).alloc (j1 [O m,U G (Z b) y].toArray 43)).alloc (j1 (j2 (jL 26 (O ⟨#[]⟩))) 90))=w1 at c I⊢;obtain⟨N,M⟩:∃N,w.heap.size=N:=⟨_,rfl⟩;rw[M]at c⊢;have HN:=Ab M;clear M;have c0:=c.b1.cell 0;have c2:=c.b2.cell 0;have W:=c.b1.cell 1;have c3:=c.b2.cell 1;simp at c0 c2 W c3;clear n HO;go_wp2_with fail
  have MB:(prog.info? 90).map (·.size)=V 26:=Tryz.zG
  go_loopg [8] (Z a) (λgk i wr=>∃(k:Nat) (B:List g0),i=X J k/\k<=Z a/\gk=Z a-k/\Z B=26/\Hid (CT B (a.drop k) (b.drop k)=R)/\Hid (Sm wr N (Ai B) d (U D (Z a) x) j a m (U G (Z b) y) b)/\Hid (Ac [] w wr))
  case atStart=>exact⟨0,e,rfl,by omega,rfl,he,H3,(by rw[Aa HP];exact c),I⟩
  case round=>
   clear H3 c I c0 W c2 c3 hl hc HP;obtain⟨k,B,rfl,hk,K7,FO,HM,Q,I⟩:=hrel;have HG:=Ab K7;clear K7 he;have W:=Q.b1.cell 1;have c3:=Q.b2.cell 1;simp at W c3;obtain⟨z,AH⟩:∃z,Ai B=z:=⟨_,rfl⟩;(have CC:Z z=26:=by rw[<-AH,Cf,FO]);(have JJ:Hid (∀v∈z,v.oneCell'=jj):=by show∀v∈z,_;rw[<-AH];exact Fs B);rw[AH]at Q;by_cases E0:k<Z a
   ·(have HL:k<Z b:=by have:=Aa M6;omega);obtain⟨g,SL,K3,d0,d1⟩:=Mh Q.row k E0;simp only[ei]at K3;obtain⟨rfl,_,rfl⟩:=K3;obtain⟨S,S0,IJ,f0⟩:=G3 Q.rof k HL;simp only[ei]at IJ;obtain⟨rfl,_,rfl⟩:=IJ;obtain⟨T,hT⟩:∃T,a[k]=T:=⟨_,rfl⟩;obtain⟨F,hX⟩:∃F,b[k]=F:=⟨_,rfl⟩;(have H7:Hid (T∈a):=by show _∈_;rw[<-hT];exact eo E0);have De:Hid (CT B (T::a.drop (k+1)) (F::b.drop (k+1))=R):=by
     have h:=Aa HM;rw[eQ E0,eQ HL,hT,hX]at h;exact h
    have HS:Hid (∀o,Sm o N z d (U (V ⟨g,0,Y⟩) (Z a) x) j a m (U (V ⟨S,0,Y⟩) (Z b) y) b->o.rangeAt N 0 z/\jF o ⟨N+1,1,Y⟩=V (U (V ⟨g,0,Y⟩) (Z a) x)/\jF o ⟨g,k*2,Y⟩=V (X .u8 T.v.toNat)/\jF o ⟨g,k*2+1,Y⟩=V (O T.s)/\jF o ⟨N+1+1,1,Y⟩=V (U (V ⟨S,0,Y⟩) (Z b) y)/\jF o ⟨S,k,Y⟩=V (O F)):=by
     intro o hz;obtain⟨g',M3,A0,q0,q1⟩:=Mh hz.row k E0;simp only[ei,eD,fm]at A0;obtain⟨⟨rfl,_,_⟩,_,_⟩:=A0;obtain⟨g',M3,A0,q2⟩:=G3 hz.rof k HL;simp only[ei,eD,fm]at A0;obtain⟨⟨rfl,_,_⟩,_,_⟩:=A0;rw[hT]at q0 q1;rw[hX]at q2;have x1:=hz.b1.cell 1;have x2:=hz.b2.cell 1;simp at x1 x2;exact⟨hz.b0.range,x1,q0,q1,x2,q2⟩
    rw[hT]at d0 d1;rw[hX]at f0;clear hT hX HM;(have SB:(0:Int)<=(k:Int):=by omega);(have OH:(k:Int)<(Z a:Int):=by omega);(have NY:(k:Int)<(Z b:Int):=by omega);obtain⟨L,hV⟩:∃L,AJ B T=L:=⟨_,rfl⟩;have FB:=Ab (HV B T wr.drew FO H7);rw[hV,AH]at FB;have FW:=Ab hV;have HT:=Ab AH;clear hV AH;have hu:=underlying90;(have hi:(prog.info? 90).map (·.size)=V (Z z):=by rw[CC];exact MB);have e0:=Q.b0.range;have Ix:=Ab (Q.kept (Ac.refl [] wr).drew);simp only[AQ]at FB;go_wp2_with fail
    go_region_held3 (λo=>o.rangeAt N 0 z/\jF o ⟨N+1,1,Y⟩=V (U (V ⟨g,0,Y⟩) (Z a) x)/\jF o ⟨g,k*2,Y⟩=V (X .u8 T.v.toNat)/\jF o ⟨g,k*2+1,Y⟩=V (O T.s)) (first|(refine⟨?_,?_,?_,?_⟩<;>assumption)|go_keep_ranges) ((go_at_call 89;refine FB.mono ?_;rintro e w3 ⟨rfl,k3⟩;have H:=Ab (Ix.kept k3);have Ha:=Ab (I.drew.trans k3);obtain⟨y0,y1,y2,y3,y4,y5⟩:=HS w3 H;clear k3))
    rename_i NB;clear NB FB Ix e0 W c3 d0 d1 f0;cases hv:So L with
    |true=>
     have M0:T.v≠0/\65<=T.v.toNat/\T.v.toNat<=90:=by
      (have hz:(AJ B T).size=0:=by rw[Aa FW];exact(DO L).1 hv);have h:=(NM T H7).yH hz;exact⟨h.1,h.2.1,h.2.2.1⟩
     have EY:Hid (CT (B.set (T.v.toNat-65) F) (a.drop (k+1)) (b.drop (k+1))=R):=by
      have h:=Aa De;rw[CT,Aa FW,hv,eI rfl]at h;exact h
     have HF:(L.toList==[])=jj:=hv;(have Nx:L.toList=[]:=by simpa using HF);obtain⟨l,Jx⟩:∃l,T.v.toNat-65=l:=⟨_,rfl⟩;(have NX:T.v.toNat=l+65:=by omega);(have ST:l<26:=by omega);rw[Jx]at EY;(have Nd:((T.v.toNat:Nat):Int)=(l:Int)+65:=by omega);rw[Nd]at y2;(have Pl:(0:Int)<=(l:Int):=by omega);(have N4:(l:Int)<26:=by omega);(have MY:IntKind.u8.wrap (l:Int)=l:=by rw[IntKind.wrap_u8];omega);(have N2:IntKind.u8.wrap ((l:Int)+65-65)=l:=by rw[show(l:Int)+65-65=l by omega];exact MY);have yN:∃u,jF w3 ⟨N,l,Y⟩=V u:=by
      refine⟨z[l]'(by omega),?_⟩;rw[(Aa H).b0.cell,ez (by omega)]
     obtain⟨u0,yN⟩:=yN;have yF:=H.b0.frozen l;have FT:Hid (∀o,o=w3->Sm (o.setCell ⟨N,l,Y⟩ (O F)).drew N (Ai (B.set l F)) d (U (V ⟨g,0,Y⟩) (Z a) x) j a m (U (V ⟨S,0,Y⟩) (Z b) y) b):=by
      rintro o rfl;rw[UI,Aa HT];exact(H.set l _).kept (Ac.refl [] _).drew
     have K5:Hid (Ac [] w (w3.setCell ⟨N,l,Y⟩ (O F)).drew):=(Ha.setCell (p:=⟨N,l,Y⟩) (Or.inr (by have:=Aa HN;simp;omega)) _).drew;(have Nq:Z (B.set l F)=26:=by simp[FO]);(have n1:¬N=N+1:=by omega);(have n2:¬N=N+1+1:=by omega);(have Os:¬N=g:=by have:=H.low g rfl;omega);(have RE:¬N=S:=by have:=H.lof S rfl;omega);(have PT:¬N+1=N:=by omega);(have QQ:¬N+1+1=N:=by omega);(have P0:¬g=N:=by omega);(have RT:¬S=N:=by omega);have RB:=Ab yN;clear hv M0 Jx NX HS De H Ha y0 y3;go_wp2_with fail
     go_region_held3 (λo=>jF o ⟨N+1,1,Y⟩=V (U (V ⟨g,0,Y⟩) (Z a) x)/\jF o ⟨g,k*2,Y⟩=V (X .u8 ((l:Int)+65))/\jF o ⟨N+1+1,1,Y⟩=V (U (V ⟨S,0,Y⟩) (Z b) y)/\jF o ⟨S,k,Y⟩=V (O F)) (go_keep) (fail)
     rename_i MN;clear MN y1 y2 y4 y5 yN yF;have KB:=Ab (FT _ rfl);clear FT;generalize(w3.setCell ⟨N,l,Y⟩ (O F)).drew=w4 at KB K5⊢;go_wp2
     go_roundg (Z a-(k+1))
     case measure=>have:=Aa HG;omega
     case rel=>exact⟨k+1,B.set l F,by go_num,by omega,rfl,Nq,EY,KB,K5⟩
    |false=>
     have HF:(L.toList==[])=K:=hv;(have Nx:¬L.toList=[]:=by simpa using HF);cases hx:(L.toList==F.toList)with
     |true=>
      (have LE:(L.toList !=F.toList)=K:=by simp[bne,hx]);have EY:Hid (CT B (a.drop (k+1)) (b.drop (k+1))=R):=by
       have h:=Aa De;rw[CT,Aa FW,hv,eE (by simp),hx,eI rfl]at h;exact h
      (have FT:Hid (Sm w3 N (Ai B) d (U (V ⟨g,0,Y⟩) (Z a) x) j a m (U (V ⟨S,0,Y⟩) (Z b) y) b):=by rw[Aa HT];exact H);clear hv HS De H y0 y1 y2 y3;go_wp2
      go_roundg (Z a-(k+1))
      case measure=>have:=Aa HG;omega
      case rel=>exact⟨k+1,B,by go_num,by omega,rfl,FO,EY,FT,Ha⟩
     |false=>
      (have LE:(L.toList !=F.toList)=jj:=by simp[bne,hx]);have P:Hid (Ai R.1=z/\R.2=K):=by
       have h:=Aa De;rw[CT,Aa FW,hv,eE (by simp),hx,eE (by simp)]at h;rw[<-h,<-Aa HT];exact⟨rfl,rfl⟩
      have n:=Ab CC;clear hv HS De y0 y1 y2 y3 hi CC;go_wp2_with (first|((with_reducible show wpList _ _ _ ({dst:=_,op:=Op.load 90 _,type:=_,pos:=_,after:=_,guard:=_}::_) _ _);refine gD rfl 90 _ rfl N 0 (by rfl) z _ H.b0.range underlying90 rfl (by rw[Aa n];exact Tryz.zG) ?_)|((with_reducible show wpList _ _ _ ({dst:=_,op:=Op.store 90 _ _,type:=_,pos:=_,after:=_,guard:=_}::_) _ _);refine gQ rfl 90 _ _ rfl (N+1+1+1) 0 (j2 z) (by rfl) (by rfl) (GI H.b3 n) (by rw[fU,Aa n];exact Tryz.zG) (fX JJ) ?_))
      refine eX (Ar rfl (by rfl) (H.b3.zQ z (by rw[Aa n];rfl)) underlying90 rfl (by rw[Aa n];exact Tryz.zG)) rfl ⟨?_,Ha.zI (Or.inr (by have:=Aa HN;omega)) _ _⟩;rw[(Aa P).1,(Aa P).2];rfl
   .have P:Hid (Ai R.1=z/\R.2=jj):=by
     have h:=Aa HM;rw[fq (by omega),CT]at h;rw[<-h,<-AH];exact⟨rfl,rfl⟩
    have n:=Ab CC;clear CC AH HM;go_wp2_with (first|((with_reducible show wpList _ _ _ ({dst:=_,op:=Op.load 90 _,type:=_,pos:=_,after:=_,guard:=_}::_) _ _);refine gD rfl 90 _ rfl N 0 (by rfl) z _ Q.b0.range underlying90 rfl (by rw[Aa n];exact Tryz.zG) ?_)|((with_reducible show wpList _ _ _ ({dst:=_,op:=Op.store 90 _ _,type:=_,pos:=_,after:=_,guard:=_}::_) _ _);refine gQ rfl 90 _ _ rfl (N+1+1+1) 0 (j2 z) (by rfl) (by rfl) (GI Q.b3 n) (by rw[fU,Aa n];exact Tryz.zG) (fX JJ) ?_))
    refine eX (Ar rfl (by rfl) (Q.b3.zQ z (by rw[Aa n];rfl)) underlying90 rfl (by rw[Aa n];exact Tryz.zG)) rfl ⟨?_,I.zI (Or.inr (by have:=Aa HN;omega)) _ _⟩;rw[(Aa P).1,(Aa P).2];rfl
def N7(t:AG):Prop:=t.v=0\/(65<=t.v.toNat/\t.v.toNat<=90)
structure LX(e:List g0)(x:BF):Prop where
 atom:(x.kind==97||x.kind==33)=jj->(∀t∈x.A.args,N7 t)/\Z x.A.args<=1000/\QB (Av e x.A)
 cmp:(x.kind==97||x.kind==33)=K->N7 x.L/\N7 x.R/\0<(AJ e x.L).size/\(AJ e x.L).size<=1000000/\0<(AJ e x.R).size/\(AJ e x.R).size<=1000000
theorem O4(e:List g0)(x:BF)(k:Option Addr)(i:Nat)(CL:Option Addr)(EK:Nat)(fs:List B5)(w:World)(he:Z e=26)(hx:Cv w 0 (x,U k (Z x.A.args) i))(hs:Dm w (U CL (Z fs) EK) fs)(HJ:Z fs<=1000000)(C:LX e x):
  Calls prog 88 #[jH (j2 (Ai e)),jH (j2 (Cs x (U k (Z x.A.args) i))),U CL (Z fs) EK] w λr l=>r=j4 (.bool (Cg (Av e) (AJ e) (fs.map B5.f) x))/\Ac [] w l:=by
 have n:Hid ((x.kind==97||x.kind==33)=jj->∀wr,Ac [] w wr->Calls prog 48 #[jH (j2 (Ai e)),jH (j2 (Cj x.A.name (U k (Z x.A.args) i) x.A.at_))] wr λr l=>∃D H,r=j4 (jH (j2 (Bq ⟨Av e x.A,U D (Z x.A.args) H⟩)))/\Ew l ⟨Av e x.A,U D (Z x.A.args) H⟩/\Ac [] wr l):=λh wr hk=>XR e x.A k i wr he (Ad hx hk (by simp)) (C.atom h).2.1 (C.atom h).1
 have s:Hid ((x.kind==97||x.kind==33)=jj->∀av wr,Ac [] w wr->Ew wr ⟨Av e x.A,av⟩->Calls prog 21 #[U CL (Z fs) EK,jH (j2 (Bq ⟨Av e x.A,av⟩))] wr λe' l=>e'=j4 (.bool (fs.any λp=>Fg p.f (Av e x.A)))/\Ac [] wr l):=λh av wr hk hr=>JZ CL EK fs ⟨Av e x.A,av⟩ wr (hs.kept hk) hr HJ (C.atom h).2.2
 have FC:Hid ((fs.any λp=>Fg p.f (Av e x.A))=DD (fs.map B5.f) (Av e x.A)):=by show _=_;unfold DD;rw[iP];rfl
 have G:Hid ((x.kind==97||x.kind==33)=K->∀wr,Calls prog 89 #[jH (j2 (Ai e)),jH (j2 (AQ x.L))] wr λr l=>r=j4 (O (AJ e x.L))/\Ac [] wr l):=λh wr=>Kj e x.L wr he (C.cmp h).1
 have F:Hid ((x.kind==97||x.kind==33)=K->∀wr,Calls prog 89 #[jH (j2 (Ai e)),jH (j2 (AQ x.R))] wr λr l=>r=j4 (O (AJ e x.R))/\Ac [] wr l):=λh wr=>Kj e x.R wr he (C.cmp h).2.1
 have M:Hid ((x.kind==97||x.kind==33)=K->∀wr,Calls prog 86 #[O (AJ e x.L),O (AJ e x.R)] wr λe' l=>e'=j4 (.bool (Fm (AJ e x.L) (AJ e x.R)))/\l=wr):=λh wr=>L6 _ _ wr (C.cmp h).2.2.1 (C.cmp h).2.2.2.2.1 (C.cmp h).2.2.2.1 (C.cmp h).2.2.2.2.2
 obtain⟨B,hB⟩:∃B,Cg (Av e) (AJ e) (fs.map B5.f) x=B:=⟨_,rfl⟩;rw[hB];have b:Hid ((if x.kind==97 then DD (fs.map B5.f) (Av e x.A)else if x.kind==33 then !DD (fs.map B5.f) (Av e x.A)else if x.kind==61 then(AJ e x.L).toList==(AJ e x.R).toList else if x.kind==35 then !((AJ e x.L).toList==(AJ e x.R).toList)else Fm (AJ e x.L) (AJ e x.R))=B):=hB;clear hB C hs hx;obtain⟨c,⟨g,d,j⟩,⟨u,m⟩,⟨o,q⟩,v⟩:=x;simp only at n s FC G F M b⊢;rw[Aa FC]at s;clear FC;have E0:Hid (∀D H,Bq ⟨Av e ⟨g,d,j⟩,U D (Z d) H⟩=[O g,U D (Z d) H]):=λD H=>rfl
 generalize DD (fs.map B5.f) (Av e ⟨g,d,j⟩)=HH at s b;generalize Av e ⟨g,d,j⟩=FP at n s E0;generalize AJ e ⟨u,m⟩=VL at G M b;generalize AJ e ⟨o,q⟩=VR at F M b;have hc:=Bj e;have W:Hid (Z (Ai e)=26):=by show _=_;rw[Cf,he]
 have hl:=Aa W;generalize Ai e=E at hc hl W n G F⊢;simp only[Cs,Cj,AQ]at n G F⊢;have y:=Ab ((AI.new w E 90).alloc (j1 [X .u8 c.toNat,O g,U k (Z d) i,X J j,X .u8 u.toNat,O m,X .u8 o.toNat,O q,X J v].toArray 95));have a:Hid (AI ((w.alloc (j1 (j2 E) 90)).alloc (j1 [X .u8 c.toNat,O g,U k (Z d) i,X J j,X .u8 u.toNat,O m,X .u8 o.toNat,O q,X J v].toArray 95)) (w.heap.size+1) [X .u8 c.toNat,O g,U k (Z d) i,X J j,X .u8 u.toNat,O m,X .u8 o.toNat,O q,X J v] 95):=by
  have h:=AI.new (w.alloc (j1 (j2 E) 90)) [X .u8 c.toNat,O g,U k (Z d) i,X J j,X .u8 u.toNat,O m,X .u8 o.toNat,O q,X J v] 95;simp only[fg]at h;exact h
 have z:=Ab (((Ac.refl [] w).alloc (j1 (j2 E) 90)).alloc (j1 [X .u8 c.toNat,O g,U k (Z d) i,X J j,X .u8 u.toNat,O m,X .u8 o.toNat,O q,X J v].toArray 95));have HG:((c.toNat:Int)==97)=(c==97):=Cp _ 97;have FF:((c.toNat:Int)==33)=(c==33):=Cp _ 33;have DT:((c.toNat:Int)==61)=(c==61):=Cp _ 61;have CC:((c.toNat:Int)==35)=(c==35):=Cp _ 35;cases h97:(c==97)with
 |true=>
  rw[h97]at b n s HG;rw[eI rfl]at b;have B2:=Ab (n rfl);have B0:=Ab (s rfl);clear n s G F M FF DT CC;go_enter func88,ntmps88;apply wp_seq_k;intro KK Q;have P:=Ab Q;clear Q;go_wp2;refine P _ _ ?_;clear P KK;change Code.wp _ _ _ _ ((w.alloc (j1 (j2 E) 90)).alloc (j1 [X .u8 c.toNat,O g,U k (Z d) i,X J j,X .u8 u.toNat,O m,X .u8 o.toNat,O q,X J v].toArray 95));generalize((w.alloc (j1 (j2 E) 90)).alloc (j1 [X .u8 c.toNat,O g,U k (Z d) i,X J j,X .u8 u.toNat,O m,X .u8 o.toNat,O q,X J v].toArray 95))=w1 at y a z⊢;generalize w.heap.size=N at y a⊢;have c0:=a.cell 0;have c1:=a.cell 1;have c2:=a.cell 2;have c3:=a.cell 3;have c4:=a.cell 4;have c5:=a.cell 5;have c6:=a.cell 6;have c7:=a.cell 7;simp at c0 c1 c2 c3 c4 c5 c6 c7;go_wp2_with (first|((with_reducible show wpList _ _ _ ({dst:=_,op:=Op.load 90 _,type:=_,pos:=_,after:=_,guard:=_}::_) _ _);refine gD rfl 90 _ rfl N 0 (by rfl) E _ y.range underlying90 rfl (by rw[Aa W];exact Tryz.zG) ?_)|fail)
  refine(B2 _ z).mono ?_;rintro _ w2 ⟨D,H,rfl,BS,t⟩;have S:=Ab (B0 (U D (Z d) H) w2 (z.trans t) BS);have AH:=Ab (z.trans t);rw[Aa E0]at S⊢;clear BS t B2 B0;go_wp2_with fail
  refine S.mono ?_;rintro _ w3 ⟨rfl,I⟩;have T:=Ab (AH.trans I);clear I S;go_wp2;go_ret;rw[<-Aa b];exact⟨rfl,T⟩
 |false=>
  rw[h97]at b n s HG G F M;rw[eE (by simp)]at b;cases h33:(c==33)with
  |true=>
   rw[h33]at b n s FF;rw[eI rfl]at b;have B2:=Ab (n rfl);have B0:=Ab (s rfl);clear n s G F M DT CC;go_enter func88,ntmps88;apply wp_seq_k;intro KK Q;have P:=Ab Q;clear Q;go_wp2;refine P _ _ ?_;clear P KK;change Code.wp _ _ _ _ ((w.alloc (j1 (j2 E) 90)).alloc (j1 [X .u8 c.toNat,O g,U k (Z d) i,X J j,X .u8 u.toNat,O m,X .u8 o.toNat,O q,X J v].toArray 95));generalize((w.alloc (j1 (j2 E) 90)).alloc (j1 [X .u8 c.toNat,O g,U k (Z d) i,X J j,X .u8 u.toNat,O m,X .u8 o.toNat,O q,X J v].toArray 95))=w1 at y a z⊢;generalize w.heap.size=N at y a⊢;have c0:=a.cell 0;have c1:=a.cell 1;have c2:=a.cell 2;have c3:=a.cell 3;have c4:=a.cell 4;have c5:=a.cell 5;have c6:=a.cell 6;have c7:=a.cell 7;simp at c0 c1 c2 c3 c4 c5 c6 c7;go_wp2_with (first|((with_reducible show wpList _ _ _ ({dst:=_,op:=Op.load 90 _,type:=_,pos:=_,after:=_,guard:=_}::_) _ _);refine gD rfl 90 _ rfl N 0 (by rfl) E _ y.range underlying90 rfl (by rw[Aa W];exact Tryz.zG) ?_)|fail)
   refine(B2 _ z).mono ?_;rintro _ w2 ⟨D,H,rfl,BS,t⟩;have S:=Ab (B0 (U D (Z d) H) w2 (z.trans t) BS);have AH:=Ab (z.trans t);rw[Aa E0]at S⊢;clear BS t B2 B0;(go_wp2_with fail);refine S.mono ?_;rintro _ w3 ⟨rfl,I⟩;have T:=Ab (AH.trans I);clear I S;go_wp2;go_ret;rw[<-Aa b];exact⟨rfl,T⟩
  |false=>
   rw[h33]at b FF G F M;rw[eE (by simp)]at b;have FT:=Ab (G rfl);have HC:=Ab (F rfl);have HI:=Ab (M rfl);clear n s G F M;go_enter func88,ntmps88;apply wp_seq_k;intro KK Q;have P:=Ab Q;clear Q;go_wp2;refine P _ _ ?_;clear P KK;change Code.wp _ _ _ _ ((w.alloc (j1 (j2 E) 90)).alloc (j1 [X .u8 c.toNat,O g,U k (Z d) i,X J j,X .u8 u.toNat,O m,X .u8 o.toNat,O q,X J v].toArray 95));generalize((w.alloc (j1 (j2 E) 90)).alloc (j1 [X .u8 c.toNat,O g,U k (Z d) i,X J j,X .u8 u.toNat,O m,X .u8 o.toNat,O q,X J v].toArray 95))=w1 at y a z⊢;generalize w.heap.size=N at y a⊢;have c0:=a.cell 0;have c1:=a.cell 1;have c2:=a.cell 2;have c3:=a.cell 3;have c4:=a.cell 4;have c5:=a.cell 5;have c6:=a.cell 6;have c7:=a.cell 7;simp at c0 c1 c2 c3 c4 c5 c6 c7;go_wp2_with (first|((with_reducible show wpList _ _ _ ({dst:=_,op:=Op.load 90 _,type:=_,pos:=_,after:=_,guard:=_}::_) _ _);refine gD rfl 90 _ rfl N 0 (by rfl) E _ y.range underlying90 rfl (by rw[Aa W];exact Tryz.zG) ?_)|fail)
   refine(FT _).mono ?_;rintro _ w2 ⟨rfl,t⟩;have FO:=Ab (y.kept t (by simp));have B9:=a.kept t (by simp);have AH:=Ab (z.trans t);have d0:=B9.cell 0;have d6:=B9.cell 6;have d7:=B9.cell 7;simp at d0 d6 d7;have Go:=Ab B9;clear t y a z FT B9 c0 c1 c2 c3 c4 c5 c6 c7;go_wp2_with (first|((with_reducible show wpList _ _ _ ({dst:=_,op:=Op.load 90 _,type:=_,pos:=_,after:=_,guard:=_}::_) _ _);refine gD rfl 90 _ rfl N 0 (by rfl) E _ FO.range underlying90 rfl (by rw[Aa W];exact Tryz.zG) ?_)|fail)
   refine(HC _).mono ?_;rintro _ w3 ⟨rfl,I⟩;have T:=Ab (AH.trans I);have HL:=(Go.kept I (by simp)).cell 0;simp at HL;clear I AH HC FO Go d0 d6 d7;cases h61:(c==61)with
   |true=>
    rw[h61]at b DT;rw[eI rfl]at b;go_wp2;go_ret;rw[<-Aa b];exact⟨rfl,T⟩
   |false=>
    rw[h61]at b DT;rw[eE (by simp)]at b;cases h35:(c==35)with
    |true=>
     rw[h35]at b CC;rw[eI rfl]at b;go_wp2;go_ret;rw[<-Aa b];exact⟨rfl,T⟩
    |false=>
     rw[h35]at b CC;rw[eE (by simp)]at b;(go_wp2_with fail);refine(HI _).mono ?_;rintro _ w4 ⟨rfl,rfl⟩;go_wp2;go_ret;rw[<-Aa b];exact⟨rfl,T⟩
