import Derived.Test.YtoihbhenbmffcaaGreatDoorYAM
set_option linter.all false
set_option maxHeartbeats 0
open List renaming length->Z,toArray->j3,replicate->lV
open Option renaming none->Y,some->V
open Go.Value renaming slice->U,int->X,string->O,pointer->kt,agg->lR,bool->lT
open Bool renaming false->K,true->j1
open Go.IntKind renaming i64->J
open Go.Obj renaming cells->j2
open Go.Ending renaming returned->lo
open Or renaming inr->ly
open Go renaming World->l9,Value->lN
open Go.RowKit renaming Hid->lO
open Go.World renaming cell?->lP,ownsRow->lQ
namespace Go.Proofs.YtoihbhenbmffcaaGreatDoor
open Go.RowKit Go.Proofs.Tryz
def De(e:mc zA):Z (Aj e)=Z e:=by unfold Aj;simp
def VT(e:mc zA)(j:Nat)(x:zA):Aj (e.set j x)=(Aj e).set j (O x):=by unfold Aj;rw[lL]
def I3(e:mc zA):∀v∈Aj e,v.oneCell'=j1:=λv a=>by
 unfold Aj at a;obtain⟨x,_,rfl⟩:=gX.1 a;rfl
structure Tp(w:l9)(N:Nat)(E:mc lN)(nm:zA)(av:lN)(j:Nat)(ts:mc AE)(fn:zA)(fv:lN)(xs:mc zA):Prop where
 b0:AH w N E 90
 b1:AH w (N+1) [O nm,av,X J j] 79
 b2:AH w (N+1+1) [O fn,fv] 43
 b3:AH w (N+1+1+1) (lV 26 (O ⟨#[]⟩)) 90
 row:lQ w 0 93 2 av (Z ts) (ts.flatMap AU)
 rof:lQ w 0 9 1 fv (Z xs) (xs.flatMap Ah)
 low:∀q,av.ownBlock=V q->q<N
 lof:∀q,fv.ownBlock=V q->q<N
def Tp.kept{w w':l9}{N:Nat}{E:mc lN}{nm fn:zA}{c a:lN}{j:Nat}{ts:mc AE}{b:mc zA}(h:Tp w N E nm c j ts fn a b)(k:Ac [] w w'):Tp w' N E nm c j ts fn a b:=
 ⟨h.b0.kept k (by simp),h.b1.kept k (by simp),h.b2.kept k (by simp),h.b3.kept k (by simp),Ad h.row k (by simp),Ad h.rof k (by simp),h.low,h.lof⟩
def Tp.set{w:l9}{N:Nat}{E:mc lN}{nm fn:zA}{c a:lN}{j:Nat}{ts:mc AE}{b:mc zA}(h:Tp w N E nm c j ts fn a b)(i:Nat)(u:lN):Tp (w.setCell ⟨N,i,Y⟩ u) N (E.set i u) nm c j ts fn a b:=
 ⟨h.b0.set i u,h.b1.zB _ (show N≠N+1 by omega) _,h.b2.zB _ (show N≠N+1+1 by omega) _,h.b3.zB _ (show N≠N+1+1+1 by omega) _,
  Ag h.row (λe=>by have:=h.low _ e;simp at this) _,Ag h.rof (λe=>by have:=h.lof _ e;simp at this) _,h.low,h.lof⟩
def GU{w:l9}{b:Nat}(h:AH w b (lV 26 (O ⟨#[]⟩)) 90){E:mc lN}(a:Z E=26):w.there b 0 E.toArray.size:=by
 have:=h.there;rw[jE]at this;rw[i7,a];exact this
set_option maxRecDepth 100000
theorem W4(e:mc zA)(A:Df)(D:Option Addr)(x:Nat)(p:Dr)(w:l9)(he:Z e=26)(hA:lQ w 0 93 2 (U D (Z A.args) x) (Z A.args) (A.args.flatMap AU))(hP:Gu w p)(M0:Z A.args<=1000)(MN:Z p.f.args<=1000000)(hg:∀t∈A.args,BK t):
  Calls prog 87 #[lR (j3 (Aj e)),lR (j3 (Cg A.name (U D (Z A.args) x) A.at_)),lR (j3 (CN p))] w λr w'=>r=lo (.tuple #[lR (j3 (Aj (D3 e A p.f).1)),lT (D3 e A p.f).2])/\Ac [] w w':=by
 obtain⟨d,a,j⟩:=A;obtain⟨⟨m,b⟩,pv⟩:=p;obtain⟨G,y,LL⟩:=Al hP;simp only at LL;subst LL;simp only at hA M0 hg MN⊢;obtain⟨R,hR⟩:∃R,D3 e ⟨d,a,j⟩ ⟨m,b⟩=R:=⟨_,rfl⟩;have HR:lO ((if(d.toList==m.toList)&&(Z a==Z b)then CK e a b else(e,K))=R):=hR;rw[hR];have HV:lO (∀e' t wr,Z e'=26->t∈a->Calls prog 89 #[lR (j3 (Aj e')),lR (j3 (AU t))] wr λr w'=>r=lo (O (AR e' t))/\Ac [] wr w'):=λe' t wr A1 ht=>Kz e' t wr A1 (by rcases hg t ht with h|h;exact Or.inl h.1;exact ly h)
 have NY:=Ab hg;have hc:=Bv e;have hl:Z (Aj e)=26:=by rw[De,he]
 have n:=Ab hl;have HO:lO (∀v∈Aj e,v.oneCell'=j1):=I3 e;have c:lO (Tp ((((w.alloc (j2 (j3 (Aj e)) 90)).alloc (j2 [O d,U D (Z a) x,X J j].toArray 79)).alloc (j2 [O m,U G (Z b) y].toArray 43)).alloc (j2 (j3 (lV 26 (O ⟨#[]⟩))) 90)) w.heap.size (Aj e) d (U D (Z a) x) j a m (U G (Z b) y) b):=by
  have b0:=mf w (Aj e) 90;have b1:=mf (w.alloc (j2 (j3 (Aj e)) 90)) [O d,U D (Z a) x,X J j] 79;have b2:=mf ((w.alloc (j2 (j3 (Aj e)) 90)).alloc (j2 [O d,U D (Z a) x,X J j].toArray 79)) [O m,U G (Z b) y] 43;have b3:=mf (((w.alloc (j2 (j3 (Aj e)) 90)).alloc (j2 [O d,U D (Z a) x,X J j].toArray 79)).alloc (j2 [O m,U G (Z b) y].toArray 43)) (lV 26 (O ⟨#[]⟩)) 90;simp only[iz]at b1 b2 b3;have hk:=((((me [] w).alloc (j2 (j3 (Aj e)) 90)).alloc (j2 [O d,U D (Z a) x,X J j].toArray 79)).alloc (j2 [O m,U G (Z b) y].toArray 43)).alloc (j2 (j3 (lV 26 (O ⟨#[]⟩))) 90);exact⟨((b0.alloc _).alloc _).alloc _,(b1.alloc _).alloc _,b2.alloc _,b3,Ad hA hk (by simp),Ad hP hk (by simp),λq hq=>(hA.lt q hq).2,λq hq=>(World.ownsRow.lt hP q hq).2⟩
 have I:=Ab (((((me [] w).alloc (j2 (j3 (Aj e)) 90)).alloc (j2 [O d,U D (Z a) x,X J j].toArray 79)).alloc (j2 [O m,U G (Z b) y].toArray 43)).alloc (j2 (j3 (lV 26 (O ⟨#[]⟩))) 90));simp only[Cg,CN];clear hR hA hP hg;obtain⟨E,hE⟩:∃E,Aj e=E:=⟨_,rfl⟩;rw[hE]at hc hl n HO c I⊢;have HU:=Ab hE;clear hE;obtain⟨C,hC⟩:∃C,((d.toList==m.toList)&&(Z a==Z b))=C:=⟨_,rfl⟩;rw[hC]at HR;cases C with
 |false=>
  have P:lO (Aj R.1=E/\R.2=K):=by rw[<-Aa HR,<-Aa HU];exact⟨rfl,rfl⟩
  have HC:lO (((d.toList==m.toList)&&(Z a==Z b))=K):=hC;clear hC HR;cases hn:(d.toList==m.toList)with
  |false=>
   (have LM:(d.toList !=m.toList)=j1:=by simp[bne,hn]);clear HC;go_enter func87,ntmps87;apply wp_seq_k;intro KK A0;have AO:=Ab A0;clear A0;go_wp2;refine AO _ _ ?_;clear AO KK;change Code.wp _ _ _ _ ((((w.alloc (j2 (j3 E) 90)).alloc (j2 [O d,U D (Z a) x,X J j].toArray 79)).alloc (j2 [O m,U G (Z b) y].toArray 43)).alloc (j2 (j3 (lV 26 (O ⟨#[]⟩))) 90));generalize((((w.alloc (j2 (j3 E) 90)).alloc (j2 [O d,U D (Z a) x,X J j].toArray 79)).alloc (j2 [O m,U G (Z b) y].toArray 43)).alloc (j2 (j3 (lV 26 (O ⟨#[]⟩))) 90))=w1 at c I⊢;obtain⟨N,M⟩:∃N,w.heap.size=N:=⟨_,rfl⟩;rw[M]at c⊢;have HN:=Ab M;clear M;have c0:=c.b1.cell 0;have c2:=c.b2.cell 0;have W:=c.b1.cell 1;have c3:=c.b2.cell 1;simp at c0 c2 W c3;go_wp2_with (first|((with_reducible show wpList _ _ _ ({dst:=_,op:=Op.load 90 _,type:=_,pos:=_,after:=_,guard:=_}::_) _ _);refine jN rfl 90 _ rfl N 0 (by rfl) E _ c.b0.range underlying90 rfl (by rw[Aa n];exact Tryz.zK) ?_)|((with_reducible show wpList _ _ _ ({dst:=_,op:=Op.store 90 _ _,type:=_,pos:=_,after:=_,guard:=_}::_) _ _);refine jO rfl 90 _ _ rfl (N+1+1+1) 0 (j3 E) (by rfl) (by rfl) (GU c.b3 n) (by rw[i7,Aa n];exact Tryz.zK) (jk HO) ?_))
   refine im (Au rfl (by rfl) (c.b3.zU E (by rw[Aa n];rfl)) underlying90 rfl (by rw[Aa n];exact Tryz.zK)) rfl ⟨?_,I.zJ (ly (by have:=Aa HN;omega)) _ _⟩;rw[(Aa P).1,(Aa P).2];rfl
  |true=>
   (have LM:(d.toList !=m.toList)=K:=by simp[bne,hn]);have Nd:¬Z a=Z b:=by
    have h:=Aa HC;rw[hn]at h;simpa using h
   (have NS:((Z a:Int) !=(Z b:Int))=j1:=by simp[bne];omega);(have NL:((Z a:Int)==(Z b:Int))=K:=by rw[iw];omega);clear HC Nd;go_enter func87,ntmps87;apply wp_seq_k;intro KK A0;have AO:=Ab A0;clear A0;go_wp2;refine AO _ _ ?_;clear AO KK;change Code.wp _ _ _ _ ((((w.alloc (j2 (j3 E) 90)).alloc (j2 [O d,U D (Z a) x,X J j].toArray 79)).alloc (j2 [O m,U G (Z b) y].toArray 43)).alloc (j2 (j3 (lV 26 (O ⟨#[]⟩))) 90));generalize((((w.alloc (j2 (j3 E) 90)).alloc (j2 [O d,U D (Z a) x,X J j].toArray 79)).alloc (j2 [O m,U G (Z b) y].toArray 43)).alloc (j2 (j3 (lV 26 (O ⟨#[]⟩))) 90))=w1 at c I⊢;obtain⟨N,M⟩:∃N,w.heap.size=N:=⟨_,rfl⟩;rw[M]at c⊢;have HN:=Ab M;clear M;have c0:=c.b1.cell 0;have c2:=c.b2.cell 0;have W:=c.b1.cell 1;have c3:=c.b2.cell 1;simp at c0 c2 W c3;go_wp2_with (first|((with_reducible show wpList _ _ _ ({dst:=_,op:=Op.load 90 _,type:=_,pos:=_,after:=_,guard:=_}::_) _ _);refine jN rfl 90 _ rfl N 0 (by rfl) E _ c.b0.range underlying90 rfl (by rw[Aa n];exact Tryz.zK) ?_)|((with_reducible show wpList _ _ _ ({dst:=_,op:=Op.store 90 _ _,type:=_,pos:=_,after:=_,guard:=_}::_) _ _);refine jO rfl 90 _ _ rfl (N+1+1+1) 0 (j3 E) (by rfl) (by rfl) (GU c.b3 n) (by rw[i7,Aa n];exact Tryz.zK) (jk HO) ?_))
   refine im (Au rfl (by rfl) (c.b3.zU E (by rw[Aa n];rfl)) underlying90 rfl (by rw[Aa n];exact Tryz.zK)) rfl ⟨?_,I.zJ (ly (by have:=Aa HN;omega)) _ _⟩;rw[(Aa P).1,(Aa P).2];rfl
 |true=>
  have B0:(d.toList==m.toList)=j1/\Z a=Z b:=by simpa using hC
  have hn:=B0.1;have LM:(d.toList !=m.toList)=K:=by simp[bne,B0.1]
  have NS:((Z a:Int) !=(Z b:Int))=K:=by simp[B0.2]
  have NL:((Z a:Int)==(Z b:Int))=j1:=by simp[B0.2]
  have Nx:=Ab B0.2;have H6:lO (CK e (a.drop 0) (b.drop 0)=R):=by have h:=Aa HR;rw[gY rfl]at h;exact h
  clear hC HR B0;go_enter func87,ntmps87;apply wp_seq_k;intro KK A0;have AO:=Ab A0;clear A0;go_wp2;refine AO _ _ ?_;clear AO KK;change Code.wp _ _ _ _ ((((w.alloc (j2 (j3 E) 90)).alloc (j2 [O d,U D (Z a) x,X J j].toArray 79)).alloc (j2 [O m,U G (Z b) y].toArray 43)).alloc (j2 (j3 (lV 26 (O ⟨#[]⟩))) 90));generalize((((w.alloc (j2 (j3 E) 90)).alloc (j2 [O d,U D (Z a) x,X J j].toArray 79)).alloc (j2 [O m,U G (Z b) y].toArray 43)).alloc (j2 (j3 (lV 26 (O ⟨#[]⟩))) 90))=w1 at c I⊢;obtain⟨N,M⟩:∃N,w.heap.size=N:=⟨_,rfl⟩;rw[M]at c⊢;have HN:=Ab M;clear M;have c0:=c.b1.cell 0;have c2:=c.b2.cell 0;have W:=c.b1.cell 1;have c3:=c.b2.cell 1;simp at c0 c2 W c3;clear n HO;go_wp2_with fail
  have M1:(prog.info? 90).map (·.size)=V 26:=Tryz.zK
  go_loopg [8] (Z a) (λgk i wr=>∃(k:Nat) (B:mc zA),i=X J k/\k<=Z a/\gk=Z a-k/\Z B=26/\lO (CK B (a.drop k) (b.drop k)=R)/\lO (Tp wr N (Aj B) d (U D (Z a) x) j a m (U G (Z b) y) b)/\lO (Ac [] w wr))
  case atStart=>exact⟨0,e,rfl,by omega,rfl,he,H6,(by rw[Aa HU];exact c),I⟩
  case round=>
   clear H6 c I c0 W c2 c3 hl hc HU;obtain⟨k,B,rfl,hk,LC,FT,HM,Q,I⟩:=hrel;have HG:=Ab LC;clear LC he;have W:=Q.b1.cell 1;have c3:=Q.b2.cell 1;simp at W c3;obtain⟨z,AT⟩:∃z,Aj B=z:=⟨_,rfl⟩;(have CL:Z z=26:=by rw[<-AT,De,FT]);(have K2:lO (∀v∈z,v.oneCell'=j1):=by show∀v∈z,_;rw[<-AT];exact I3 B);rw[AT]at Q;by_cases FB:k<Z a
   ·(have HT:k<Z b:=by have:=Aa Nx;omega);obtain⟨g,S0,K7,d0,d1⟩:=Mz Q.row k FB;simp only[gM]at K7;obtain⟨rfl,_,rfl⟩:=K7;obtain⟨S,TL,JJ,f0⟩:=Hg Q.rof k HT;simp only[gM]at JJ;obtain⟨rfl,_,rfl⟩:=JJ;obtain⟨T,hT⟩:∃T,a[k]=T:=⟨_,rfl⟩;obtain⟨F,hX⟩:∃F,b[k]=F:=⟨_,rfl⟩;(have Ix:lO (T∈a):=by show _∈_;rw[<-hT];exact gL FB);have EU:lO (CK B (T::a.drop (k+1)) (F::b.drop (k+1))=R):=by
     have h:=Aa HM;rw[ij FB,ij HT,hT,hX]at h;exact h
    have HS:lO (∀o,Tp o N z d (U (V ⟨g,0,Y⟩) (Z a) x) j a m (U (V ⟨S,0,Y⟩) (Z b) y) b->o.rangeAt N 0 z/\lP o ⟨N+1,1,Y⟩=V (U (V ⟨g,0,Y⟩) (Z a) x)/\lP o ⟨g,k*2,Y⟩=V (X .u8 T.v.toNat)/\lP o ⟨g,k*2+1,Y⟩=V (O T.s)/\lP o ⟨N+1+1,1,Y⟩=V (U (V ⟨S,0,Y⟩) (Z b) y)/\lP o ⟨S,k,Y⟩=V (O F)):=by
     intro o hz;obtain⟨g',Nq,A1,q0,q1⟩:=Mz hz.row k FB;simp only[gM,gT,iL]at A1;obtain⟨⟨rfl,_,_⟩,_,_⟩:=A1;obtain⟨g',Nq,A1,q2⟩:=Hg hz.rof k HT;simp only[gM,gT,iL]at A1;obtain⟨⟨rfl,_,_⟩,_,_⟩:=A1;rw[hT]at q0 q1;rw[hX]at q2;have x1:=hz.b1.cell 1;have x2:=hz.b2.cell 1;simp at x1 x2;exact⟨hz.b0.range,x1,q0,q1,x2,q2⟩
    rw[hT]at d0 d1;rw[hX]at f0;clear hT hX HM;(have SP:(0:Int)<=(k:Int):=by omega);(have QQ:(k:Int)<(Z a:Int):=by omega);(have OH:(k:Int)<(Z b:Int):=by omega);obtain⟨L,hV⟩:∃L,AR B T=L:=⟨_,rfl⟩;have FF:=Ab (HV B T wr.drew FT Ix);rw[hV,AT]at FF;have HA:=Ab hV;have HX:=Ab AT;clear hV AT;have hu:=underlying90;(have hi:(prog.info? 90).map (·.size)=V (Z z):=by rw[CL];exact M1);have e0:=Q.b0.range;have Jx:=Ab (Q.kept (me [] wr).drew);simp only[AU]at FF;go_wp2_with fail
    go_region_held3 (λo=>o.rangeAt N 0 z/\lP o ⟨N+1,1,Y⟩=V (U (V ⟨g,0,Y⟩) (Z a) x)/\lP o ⟨g,k*2,Y⟩=V (X .u8 T.v.toNat)/\lP o ⟨g,k*2+1,Y⟩=V (O T.s)) (first|(refine⟨?_,?_,?_,?_⟩<;>assumption)|go_keep_ranges) ((go_at_call 89;refine FF.mono ?_;rintro e w3 ⟨rfl,k3⟩;have H:=Ab (Jx.kept k3);have HD:=Ab (I.drew.trans k3);obtain⟨y0,y1,y2,y3,y4,y5⟩:=HS w3 H;clear k3))
    rename_i NV;clear NV FF Jx e0 W c3 d0 d1 f0;cases hv:Tj L with
    |true=>
     have M6:T.v≠0/\65<=T.v.toNat/\T.v.toNat<=90:=by
      (have hz:(AR B T).size=0:=by rw[Aa HA];exact(DC L).1 hv);have h:=(NY T Ix).yK hz;exact⟨h.1,h.2.1,h.2.2.1⟩
     have FA:lO (CK (B.set (T.v.toNat-65) F) (a.drop (k+1)) (b.drop (k+1))=R):=by
      have h:=Aa EU;rw[CK,Aa HA,hv,gY rfl]at h;exact h
     have HJ:(L.toList==[])=j1:=hv;(have NN:L.toList=[]:=by simpa using HJ);obtain⟨l,K1⟩:∃l,T.v.toNat-65=l:=⟨_,rfl⟩;(have OB:T.v.toNat=l+65:=by omega);(have TH:l<26:=by omega);rw[K1]at FA;(have NB:((T.v.toNat:Nat):Int)=(l:Int)+65:=by omega);rw[NB]at y2;(have QR:(0:Int)<=(l:Int):=by omega);(have PT:(l:Int)<26:=by omega);(have M3:IntKind.u8.wrap (l:Int)=l:=by rw[IntKind.wrap_u8];omega);(have Pl:IntKind.u8.wrap ((l:Int)+65-65)=l:=by rw[show(l:Int)+65-65=l by omega];exact M3);have yN:∃u,lP w3 ⟨N,l,Y⟩=V u:=by
      refine⟨z[l]'(by omega),?_⟩;rw[(Aa H).b0.cell,gS (by omega)]
     obtain⟨u0,yN⟩:=yN;have yF:=H.b0.frozen l;have Ha:lO (∀o,o=w3->Tp (o.setCell ⟨N,l,Y⟩ (O F)).drew N (Aj (B.set l F)) d (U (V ⟨g,0,Y⟩) (Z a) x) j a m (U (V ⟨S,0,Y⟩) (Z b) y) b):=by
      rintro o rfl;rw[VT,Aa HX];exact(H.set l _).kept (me [] _).drew
     have K9:lO (Ac [] w (w3.setCell ⟨N,l,Y⟩ (O F)).drew):=(HD.setCell (p:=⟨N,l,Y⟩) (ly (by have:=Aa HN;simp;omega)) _).drew;(have NM:Z (B.set l F)=26:=by simp[FT]);(have n1:¬N=N+1:=by omega);(have n2:¬N=N+1+1:=by omega);(have P0:¬N=g:=by have:=H.low g rfl;omega);(have RT:¬N=S:=by have:=H.lof S rfl;omega);(have RB:¬N+1=N:=by omega);(have RI:¬N+1+1=N:=by omega);(have RE:¬g=N:=by omega);(have SJ:¬S=N:=by omega);have RO:=Ab yN;clear hv M6 K1 OB HS EU H HD y0 y3;go_wp2_with fail
     go_region_held3 (λo=>lP o ⟨N+1,1,Y⟩=V (U (V ⟨g,0,Y⟩) (Z a) x)/\lP o ⟨g,k*2,Y⟩=V (X .u8 ((l:Int)+65))/\lP o ⟨N+1+1,1,Y⟩=V (U (V ⟨S,0,Y⟩) (Z b) y)/\lP o ⟨S,k,Y⟩=V (O F)) (go_keep) (fail)
     rename_i M2;clear M2 y1 y2 y4 y5 yN yF;have K4:=Ab (Ha _ rfl);clear Ha;generalize(w3.setCell ⟨N,l,Y⟩ (O F)).drew=w4 at K4 K9⊢;go_wp2
     go_roundg (Z a-(k+1))
     case measure=>have:=Aa HG;omega
     case rel=>exact⟨k+1,B.set l F,by go_num,by omega,rfl,NM,FA,K4,K9⟩
    |false=>
     have HJ:(L.toList==[])=K:=hv;(have NN:¬L.toList=[]:=by simpa using HJ);cases hx:(L.toList==F.toList)with
     |true=>
      (have L0:(L.toList !=F.toList)=K:=by simp[bne,hx]);have FA:lO (CK B (a.drop (k+1)) (b.drop (k+1))=R):=by
       have h:=Aa EU;rw[CK,Aa HA,hv,gV (by simp),hx,gY rfl]at h;exact h
      (have Ha:lO (Tp w3 N (Aj B) d (U (V ⟨g,0,Y⟩) (Z a) x) j a m (U (V ⟨S,0,Y⟩) (Z b) y) b):=by rw[Aa HX];exact H);clear hv HS EU H y0 y1 y2 y3;go_wp2
      go_roundg (Z a-(k+1))
      case measure=>have:=Aa HG;omega
      case rel=>exact⟨k+1,B,by go_num,by omega,rfl,FT,FA,Ha,HD⟩
     |false=>
      (have L0:(L.toList !=F.toList)=j1:=by simp[bne,hx]);have P:lO (Aj R.1=z/\R.2=K):=by
       have h:=Aa EU;rw[CK,Aa HA,hv,gV (by simp),hx,gV (by simp)]at h;rw[<-h,<-Aa HX];exact⟨rfl,rfl⟩
      have n:=Ab CL;clear hv HS EU y0 y1 y2 y3 hi CL;go_wp2_with (first|((with_reducible show wpList _ _ _ ({dst:=_,op:=Op.load 90 _,type:=_,pos:=_,after:=_,guard:=_}::_) _ _);refine jN rfl 90 _ rfl N 0 (by rfl) z _ H.b0.range underlying90 rfl (by rw[Aa n];exact Tryz.zK) ?_)|((with_reducible show wpList _ _ _ ({dst:=_,op:=Op.store 90 _ _,type:=_,pos:=_,after:=_,guard:=_}::_) _ _);refine jO rfl 90 _ _ rfl (N+1+1+1) 0 (j3 z) (by rfl) (by rfl) (GU H.b3 n) (by rw[i7,Aa n];exact Tryz.zK) (jk K2) ?_))
      refine im (Au rfl (by rfl) (H.b3.zU z (by rw[Aa n];rfl)) underlying90 rfl (by rw[Aa n];exact Tryz.zK)) rfl ⟨?_,HD.zJ (ly (by have:=Aa HN;omega)) _ _⟩;rw[(Aa P).1,(Aa P).2];rfl
   .have P:lO (Aj R.1=z/\R.2=j1):=by
     have h:=Aa HM;rw[iC (by omega),CK]at h;rw[<-h,<-AT];exact⟨rfl,rfl⟩
    have n:=Ab CL;clear CL AT HM;go_wp2_with (first|((with_reducible show wpList _ _ _ ({dst:=_,op:=Op.load 90 _,type:=_,pos:=_,after:=_,guard:=_}::_) _ _);refine jN rfl 90 _ rfl N 0 (by rfl) z _ Q.b0.range underlying90 rfl (by rw[Aa n];exact Tryz.zK) ?_)|((with_reducible show wpList _ _ _ ({dst:=_,op:=Op.store 90 _ _,type:=_,pos:=_,after:=_,guard:=_}::_) _ _);refine jO rfl 90 _ _ rfl (N+1+1+1) 0 (j3 z) (by rfl) (by rfl) (GU Q.b3 n) (by rw[i7,Aa n];exact Tryz.zK) (jk K2) ?_))
    refine im (Au rfl (by rfl) (Q.b3.zU z (by rw[Aa n];rfl)) underlying90 rfl (by rw[Aa n];exact Tryz.zK)) rfl ⟨?_,I.zJ (ly (by have:=Aa HN;omega)) _ _⟩;rw[(Aa P).1,(Aa P).2];rfl
def zb(l:mc zA)(t:AE):mc zA:=if t.v==0&& !DV l t.s then Hq l t.s else l
def zR(l:mc zA)(ts:mc AE):mc zA:=ts.foldl zb l
def JW(l:mc zA):Prop:=∀y∈l,0<y.size/\y.size<=1000000
def Wl(ts:mc AE):Prop:=∀t∈ts,t.v=0->0<t.s.size/\t.s.size<=1000000
def L7(x:zA)(d:0<x.size/\x.size<=1000000):∀(l:mc zA) (a:mc zA×Bool),JW l->JW a.1->JW (l.foldl (CO x) a).1
 |[],_,_,ha=>ha
 |y::l,a,hl,ha=>by
  refine L7 x d l _ (λz b=>hl z (by simp[b])) ?_;have c:=hl y (by simp);unfold CO;split
  .intro z b;simp only[ic,gN]at b;rcases b with(b|b)|b
   .exact ha z b
   .rw[b];exact d
   .rw[b];exact c
  .intro z b;simp only[ic,gN]at b;rcases b with b|b
   .exact ha z b
   .rw[b];exact c
def Xf{l:mc zA}{x:zA}(c:JW l)(b:0<x.size/\x.size<=1000000):JW (Hq l x):=by
 have h:JW (Mg l x).1:=L7 x b l ([],K) c (by intro y d;simp at d);unfold Hq;split
 .exact h
 .intro z a;simp only[ic,gN]at a;rcases a with a|a
  .exact h z a
  .rw[a];exact b
def Rz{l:mc zA}{t:AE}(a:JW l)(b:t.v=0->0<t.s.size/\t.s.size<=1000000):JW (zb l t):=by
 unfold zb;split
 .rename_i h;simp only[iq,jA]at h;exact Xf a (b h.1)
 .exact a
def aW(l:mc zA)(t:AE):Z (zb l t)<=Z l+1:=by
 unfold zb;split
 .rw[Nc];omega
 .omega
def YH(l:mc zA){ts:mc AE}{k:Nat}(a:k<Z ts):zR l (ts.take (k+1))=zb (zR l (ts.take k)) ts[k]:=by
 unfold zR;rw[gQ a,jo];rfl
def Vi(l:mc zA)(ts:mc AE):Z (zR l ts)<=Z l+Z ts:=by
 unfold zR
 induction ts generalizing l with
 |nil=>simp
 |cons t ts ih=>
  have a:=ih (zb l t);have b:=aW l t;simp only[iA,gW];omega
def RY{l:mc zA}{ts:mc AE}(a:JW l)(b:Wl ts):JW (zR l ts):=by
 unfold zR
 induction ts generalizing l with
 |nil=>exact a
 |cons t ts ih=>exact ih (Rz a (b t (by simp))) (λu c=>b u (by simp[c]))
theorem Yo(G tv:lN)(l:mc zA)(ts:mc AE)(base:Nat)(w:l9)(u:lQ w base 9 1 G (Z l) (l.flatMap Ah))(r:lQ w 0 93 2 tv (Z ts) (ts.flatMap AU))(A0:base<=w.heap.size)
  (Bx:Z l+Z ts<=1000000) (D:JW l) (H:Wl ts):
  Calls prog 130 #[G,tv] w λe z=>∃v,e=lo v/\lQ z base 9 1 v (Z (zR l ts)) ((zR l ts).flatMap Ah)/\Ac [] w z:=by
 obtain⟨ad,A2,rfl⟩:=Al u;obtain⟨Q,N,rfl⟩:=Al r;have q:lO (lQ w 0 93 2 (U Q (Z ts) N) (Z ts) (ts.flatMap AU)/\JW l/\Wl ts):=⟨r,D,H⟩;clear r D H;have A1:∀(x:Bool) (w:l9),(Op.unary .not (lT x)).run prog w=.ok (lT (!x)) w:=λ_ _=>rfl
 go_enter func130,ntmps130;go_wp2
 go_loopw [0,5] (λo i wr=>∃(k:Nat) (a:mc zA),i=X J k/\k<=Z ts/\lO (zR l (ts.take k)=a/\JW a)/\Z a<=Z l+k/\lQ wr base 9 1 o (Z a) (a.flatMap Ah)/\Ac [] w wr) (λ_ i _=>Z ts-(intOf i).toNat)
 case atStart=>exact⟨0,l,rfl,ik _,⟨by simp[zR],q.out.2.1⟩,by omega,u,me _ _⟩
 case round=>
  clear u;obtain⟨k,a,rfl,hk,p,Ax,b,f⟩:=hrel;obtain⟨B0,BT,rfl⟩:=Al b;have BS:=f.size;by_cases d:k<Z ts
  .obtain⟨g,AO,F,hc,t⟩:=AF (Ad q.out.1 f (by simp)) (λc _=>Ga c) k d;simp only[gM]at F;obtain⟨rfl,_,rfl⟩:=F;have P:=t k d 0 (by omega);have M:=t k d 1 (by omega);simp[AU]at P M;clear t;have E:((ts[k].v.toNat:Int)==0)=(ts[k].v==0):=CP _ 0;have j:lO (zR l (ts.take (k+1))=zb a ts[k]/\JW (zb a ts[k])):=⟨by rw[YH l d,p.out.1],Rz p.out.2 (q.out.2.2 ts[k] (gL d))⟩;cases hz:(ts[k].v==0)with
   |false=>
    rw[hz]at E;(have m:lO (zR l (ts.take (k+1))=a/\JW a):=by have h:=j.out;simp only[zb,hz,kq,gO,if_false]at h;exact h);clear j hz;go_wp2
    go_roundw
    case rel=>exact⟨k+1,a,by go_num,by omega,m,by omega,b,f⟩
    case measure=>simp[intOf];omega
   |true=>
    rw[hz]at E;have S:=q.out.2.2 ts[k] (gL d) (by simpa using hz);cases hh:DV a ts[k].s with
    |true=>
     (have m:lO (zR l (ts.take (k+1))=a/\JW a):=by have h:=j.out;simp only[zb,hz,hh,jW,ks,gO,if_false]at h;exact h);clear j hz;(go_wp2_with fail);refine(Dz _ a ts[k].s base _ b (by omega)).mono ?_;rintro e y ⟨rfl,n⟩;rw[hh,n];clear n y;go_wp2
     go_roundw
     case rel=>exact⟨k+1,a,by go_num,by omega,m,by omega,b,f⟩
     case measure=>simp[intOf];omega
    |false=>
     (have m:lO (zR l (ts.take (k+1))=Hq a ts[k].s/\JW (Hq a ts[k].s)):=by have h:=j.out;simp only[zb,hz,hh,jb,Bool.and_true,if_true]at h;exact h);have R:=Ab p.out.2;clear j hz;(go_wp2_with fail);refine(Dz _ a ts[k].s base _ b (by omega)).mono ?_;rintro e y ⟨rfl,n⟩;rw[hh,n];clear n y;(go_wp2_with fail);refine(aV _ a ts[k].s base _ b (by omega) S R).mono ?_;rintro e w2 ⟨v2,rfl,B,C⟩;have I:=f.trans C;have T:=Am (base':=base) B (by omega);have A:=Nc a ts[k].s;have L:=Ab A;clear B C A;go_wp2
     go_roundw
     case rel=>exact⟨k+1,Hq a ts[k].s,by go_num,by omega,m,by rw[Aa L];omega,T,I⟩
     case measure=>simp[intOf];omega
  ·(have W:lO (zR l ts=a):=by have h:=p.out.1;rwa [gR (by omega)]at h);go_wp2;go_ret;rw[W.out];exact⟨_,rfl,b,f⟩
structure JU(c:A6):Prop where
 body:Z c.bl<=3
 args:Z c.head.args<=2
 lits:∀p∈c.bl,Z p.1.A.args<=2
structure Z6(c:A6):Prop where
 head:Wl c.head.args
 body:∀p∈c.bl,Wl (A4 p)
def Cy(l:mc zA)(x:zA):mc zA:=if DV l x then l else l++[x]
def zF(l:mc zA)(p:Bj):mc zA:=if MT p then Cy l p.1.A.name else l
def Lc(l:mc zA)(c:A6):mc zA:=c.bl.foldl zF (Cy l c.head.name)
def Gv(cs:mc A6):mc zA:=cs.foldl Lc []
def Tq(l:mc zA)(p:Bj):mc zA:=zR l (A4 p)
def Jw(l:mc zA)(c:A6):mc zA:=c.bl.foldl Tq (zR l c.head.args)
def Dy(cs:mc A6):mc zA:=cs.foldl Jw []
def DJ{α β:Type}(f:β->α->β)(b:β){l:mc α}{k:Nat}(a:k<Z l):(l.take (k+1)).foldl f b=f ((l.take k).foldl f b) l[k]:=by
 rw[gQ a,jo];rfl
theorem W9(pb:Nat)(lv:lN)(cs:mc A6)(w:l9)(hP:AH w pb [lv] 76)(hR:Dw w lv cs)(H0:Z cs<=12)(l:∀c∈cs,JU c)(r:∀c∈cs,Z6 c):
  Calls prog 83 #[kt (V ⟨pb,0,Y⟩)] w λe w'=>∃v,e=lo v/\lQ w' w.heap.size 9 1 v (Z (Dy cs)) ((Dy cs).flatMap Ah)/\Ac [] w w':=by
 obtain⟨ad,HU,rfl⟩:=Al hR.row;have G:lO (Dw w (U ad (Z cs) HU) cs/\(∀c∈cs,JU c)/\(∀c∈cs,Z6 c)):=⟨hR,l,r⟩;clear hR l r;go_enter func83,ntmps83;go_wp2
 go_loopw [3,4] (λo i wr=>∃(k:Nat) (d:mc zA),i=X J k/\k<=Z cs/\lO ((cs.take k).foldl Jw []=d/\JW d)/\Z d<=8*k/\lQ wr w.heap.size 9 1 o (Z d) (d.flatMap Ah)/\Ac [] w wr) (λ_ i _=>Z cs-(intOf i).toNat)
 case atStart=>exact⟨0,[],rfl,ik _,⟨by simp,by intro y hy;simp at hy⟩,by simp,ip _ _ _ _,me _ _⟩
 case round=>
  obtain⟨k,d,rfl,hk,C,H6,F,s⟩:=hrel;obtain⟨K6,K5,rfl⟩:=Al F;have u:=(hP.kept s (by simp)).cell 0;simp at u;have BT:=s.size;by_cases j:k<Z cs
  .have I:=G.out.1.kept s;obtain⟨g,H7,he,hc,EK⟩:=AF I.row (λc _=>BQ c) k j;simp only[gM]at he;obtain⟨rfl,_,rfl⟩:=he;have A1:=EK k j 1 (by omega);simp[CR]at A1;have p:=I.each cs[k] (gL j);have l:=G.out.2.1 cs[k] (gL j);have r:=G.out.2.2 cs[k] (gL j);obtain⟨K7,K2,AT⟩:=Al p.args;obtain⟨HQ,HK,FB⟩:=Al p.body;rw[AT]at A1;have HD:lO (cs[k].bv=U HQ cs[k].bl.length HK):=FB;have A:=Yo _ _ d cs[k].head.args w.heap.size _ F p.args BT (by have:=l.args;omega) C.out.2 r.head;rw[AT]at A;have HA:=Ab A;have KK:=l.args;have H1:=l.body;have x:lO (JU cs[k]/\Z6 cs[k]):=⟨l,r⟩;clear EK I p AT FB A l r;(go_wp2_with fail);refine HA.mono ?_;rintro e w1 ⟨v1,rfl,D,B9⟩;have A2:=s.trans B9;have L:=Ab (Vi d cs[k].head.args);obtain⟨n,E⟩:∃n,zR d cs[k].head.args=n:=⟨_,rfl⟩;rw[E]at D L;have B2:lO (zR d cs[k].head.args=n/\JW n):=⟨E,by rw[<-E];exact RY C.out.2 x.out.2.head⟩;(have HW:Z n<=8*k+2:=by have:=Aa L;omega);obtain⟨K8,JJ,rfl⟩:=Al D;clear A1 u F s BT B9 E L HA;go_wp2
   go_loopw [3,5] (λo i Q=>∃(m:Nat) (b:mc zA),i=X J m/\m<=cs[k].bl.length/\lO ((cs[k].bl.take m).foldl Tq n=b/\JW b)/\Z b<=8*k+2+2*m/\lQ Q w.heap.size 9 1 o (Z b) (b.flatMap Ah)/\Ac [] w Q) (λ_ i _=>cs[k].bl.length-(intOf i).toNat)
   case atStart=>exact⟨0,n,rfl,ik _,⟨by simp,B2.out.2⟩,by omega,D,A2⟩
   case round=>
    rename_i Q _;clear D A2;obtain⟨m,b,rfl,hm,t,IJ,z,q⟩:=hrel;obtain⟨Jx,HV,rfl⟩:=Al z;have u:=(hP.kept q (by simp)).cell 0;simp at u;have LB:=q.size;have Ax:=G.out.1.kept q;obtain⟨g2,HV,HG,_,FF⟩:=AF Ax.row (λc _=>BQ c) k j;simp only[gM,gT,iL]at HG;obtain⟨⟨rfl,_,_⟩,_,rfl⟩:=HG;have N:=FF k j 3 (by omega);simp[CR]at N;rw[HD.out]at N;have p:=Ax.each cs[k] (gL j);clear FF Ax;by_cases a:m<cs[k].bl.length
    .obtain⟨gb,H2,M,KS,f⟩:=AF p.body (λc _=>B6 c) m a;rw[HD.out]at M;simp only[gM]at M;obtain⟨rfl,_,rfl⟩:=M;have R:=p.lits cs[k].bl[m] (gL a);obtain⟨K9,IS,W⟩:=Al R;have T:=RU cs[k].bl[m] _ R;simp only[Bt,CJ,W]at T;have d0:=f m a 0 (by omega);have d1:=f m a 1 (by omega);have H:=f m a 2 (by omega);have d3:=f m a 3 (by omega);have d4:=f m a 4 (by omega);have d5:=f m a 5 (by omega);have d6:=f m a 6 (by omega);have d7:=f m a 7 (by omega);have d8:=f m a 8 (by omega);simp[Bt,CJ]at d0 d1 H d3 d4 d5 d6 d7 d8;rw[W]at H;have HT:=Ab T;clear f R W p T;have K3:Z (A4 cs[k].bl[m])<=2:=by
      have:=x.out.1.lits cs[k].bl[m] (gL a);unfold A4;split
      .exact this
      .simp
     (go_wp2_with fail);refine HT.mono ?_;rintro e w2 ⟨tv,rfl,FC,AO⟩;have P:=q.trans AO;have EM:=Ad z AO (by simp);have HO:=P.size;clear d0 d1 H d3 d4 d5 d6 d7 d8 HT u N;(go_wp2_with fail);refine(Yo _ _ b (A4 cs[k].bl[m]) w.heap.size _ EM FC HO (by omega) t.out.2 (x.out.2.body _ (gL a))).mono ?_;rintro e w3 ⟨v3,rfl,CL,FA⟩;have HL:=P.trans FA;have S:=Ab (Vi b (A4 cs[k].bl[m]));have HC:lO ((cs[k].bl.take (m+1)).foldl Tq n=zR b (A4 cs[k].bl[m])/\JW (zR b (A4 cs[k].bl[m]))):=
      ⟨by rw[DJ _ _ a,t.out.1];rfl,RY t.out.2 (x.out.2.body _ (gL a))⟩
     obtain⟨B,HB⟩:∃B,zR b (A4 cs[k].bl[m])=B:=⟨_,rfl⟩;rw[HB]at CL S HC;(have HI:Z B<=8*k+2+2*(m+1):=by have:=Aa S;omega);clear q z EM FC AO FA P HB S;go_wp2
     go_roundw
     case rel=>exact⟨m+1,B,by go_num,by omega,HC,HI,CL,HL⟩
     case measure=>simp[intOf];omega
    .have HZ:lO ((cs.take (k+1)).foldl Jw []=b/\JW b):=by
      have h:=t.out.1;rw[gR (by omega)]at h;refine⟨?_,t.out.2⟩;rw[DJ _ _ j,C.out.1,<-h];unfold Jw;rw[B2.out.1]
     go_wp2
     go_roundw
     case rel=>exact⟨k+1,b,by go_num,by omega,HZ,by omega,z,q⟩
     case measure=>simp[intOf];omega
  ·(have HE:lO (Dy cs=d):=by have h:=C.out.1;rwa [gR (by omega)]at h);go_wp2;go_ret;rw[HE.out];exact⟨_,rfl,F,s⟩
def IB(w:l9)(o:Obj)(cs:Array lN)(t:TypeId)(l:mc lN)(a:l=cs.toList):∀j u,l[j]?=V u->lP ((w.alloc o).alloc (j2 cs t)) ((⟨w.heap.size+1,0,Y⟩:Addr).add j)=V u:=by
 subst a;have h:=iD (w.alloc o) (j2 cs t);rw[iz]at h;exact iu h
theorem ZU(pb:Nat)(lv:lN)(cs:mc A6)(w:l9)(hP:AH w pb [lv] 76)(hR:Dw w lv cs)(K7:Z cs<=12)(BA:∀c∈cs,JU c):
  Calls prog 22 #[kt (V ⟨pb,0,Y⟩)] w λe w'=>∃v,e=lo v/\lQ w' w.heap.size 9 1 v (Z (Gv cs)) ((Gv cs).flatMap Ah)/\Ac [] w w':=by
 obtain⟨i0,EK,BS,EY,CL⟩:=iR Tryz.zt;obtain⟨ad,K4,rfl⟩:=Al hR.row;have HR:lO (Dw w (U ad (Z cs) K4) cs/\(∀c∈cs,JU c)):=⟨hR,BA⟩;clear hR BA;have LL:∀(x:Bool) (w:l9),(Op.unary .not (lT x)).run prog w=.ok (lT (!x)) w:=λ_ _=>rfl
 go_enter func22,ntmps22;go_wp2
 go_loopw [3,4] (λo i wr=>∃(k:Nat) (f:mc zA),i=X J k/\k<=Z cs/\lO ((cs.take k).foldl Lc []=f)/\Z f<=4*k/\lQ wr w.heap.size 9 1 o (Z f) (f.flatMap Ah)/\Ac [] w wr) (λ_ i _=>Z cs-(intOf i).toNat)
 case atStart=>exact⟨0,[],rfl,ik _,by show _=_;simp,by simp,ip _ _ _ _,me _ _⟩
 case round=>
  obtain⟨k,f,rfl,hk,HF,LB,G,I⟩:=hrel;obtain⟨H5,H3,rfl⟩:=Al G;have S:=(hP.kept I (by simp)).cell 0;simp at S;have HQ:=I.size;by_cases B:k<Z cs
  .have FP:=HR.out.1.kept I;obtain⟨g,LC,he,hc,HU⟩:=AF FP.row (λc _=>BQ c) k B;simp only[gM]at he;obtain⟨rfl,_,rfl⟩:=he;have HI:=HU k B 0 (by omega);simp[CR]at HI;have E:=FP.each cs[k] (gL B);have BA:=HR.out.2 cs[k] (gL B);obtain⟨KS,IJ,HX⟩:=Al E.body;have FF:lO (cs[k].bv=U KS cs[k].bl.length IJ):=HX;have K8:=BA.body;clear HU FP E HX BA;(have K5:∀(b:mc zA) (v1:lN) (w1:l9),lO (Cy f cs[k].head.name=b)->Z b<=4*k+1->lQ w1 w.heap.size 9 1 v1 (Z b) (b.flatMap Ah)->Ac [] w w1->True:=λ_ _ _ _ _ _ _=>trivial);clear K5;cases hh:DV f cs[k].head.name with
   |true=>
    (have P:lO (Cy f cs[k].head.name=f):=by show _=_;simp[Cy,hh]);(go_wp2_with fail);refine(Dz _ f cs[k].head.name w.heap.size _ G (by omega)).mono ?_;rintro e z ⟨rfl,d⟩;rw[hh,d];clear d z hh;have F:=G;have Bx:=I;(have A2:Z f<=4*k+1:=by omega);go_wp2;obtain⟨b,P,F,A2⟩:∃b,lO (Cy f cs[k].head.name=b)/\lQ wr w.heap.size 9 1 (U H5 (Z f) H3) (Z b) (b.flatMap Ah)/\Z b<=4*k+1:=⟨f,P,F,A2⟩;clear HI S G I HQ
    go_loopw [3,5] (λo i wq=>∃(m:Nat) (a:mc zA),i=X J m/\m<=cs[k].bl.length/\lO ((cs[k].bl.take m).foldl zF b=a)/\Z a<=4*k+1+m/\lQ wq w.heap.size 9 1 o (Z a) (a.flatMap Ah)/\Ac [] w wq) (λ_ i _=>cs[k].bl.length-(intOf i).toNat)
    case atStart=>exact⟨0,b,rfl,ik _,by show _=_;simp,by omega,F,Bx⟩
    case round=>
     clear F Bx;obtain⟨m,a,rfl,hm,HM,KK,C,u⟩:=hrel;obtain⟨B2,FA,rfl⟩:=Al C;have S:=(hP.kept u (by simp)).cell 0;simp at S;have K6:=u.size;have W:=HR.out.1.kept u;obtain⟨g2,IS,FB,_,CC⟩:=AF W.row (λc _=>BQ c) k B;simp only[gM,gT,iL]at FB;obtain⟨⟨rfl,_,_⟩,_,rfl⟩:=FB;have B0:=CC k B 3 (by omega);simp[CR]at B0;rw[FF.out]at B0;have E:=W.each cs[k] (gL B);clear CC W;by_cases j:m<cs[k].bl.length
     .obtain⟨gb,H8,Q,K2,p⟩:=AF E.body (λc _=>B6 c) m j;rw[FF.out]at Q;simp only[gM]at Q;obtain⟨rfl,_,rfl⟩:=Q;have hl:=E.lits cs[k].bl[m] (gL j);obtain⟨HO,HH,EX⟩:=Al hl;have d0:=p m j 0 (by omega);have d1:=p m j 1 (by omega);have d2:=p m j 2 (by omega);have d3:=p m j 3 (by omega);have d4:=p m j 4 (by omega);have d5:=p m j 5 (by omega);have d6:=p m j 6 (by omega);have d7:=p m j 7 (by omega);have d8:=p m j 8 (by omega);simp[Bt,CJ]at d0 d1 d2 d3 d4 d5 d6 d7 d8;rw[EX]at d2;clear p hl EX E;(have n:lO ((cs[k].bl.take (m+1)).foldl zF b=zF a cs[k].bl[m]):=by show _=_;rw[DJ _ _ j,HM.out]);have r:=C.alloc (j2 #[X .u8 cs[k].bl[m].1.kind.toNat,O cs[k].bl[m].1.A.name,U HO cs[k].bl[m].1.A.args.length HH,X J cs[k].bl[m].1.A.at_,X .u8 cs[k].bl[m].1.L.v.toNat,O cs[k].bl[m].1.L.s,X .u8 cs[k].bl[m].1.R.v.toNat,O cs[k].bl[m].1.R.s,X J cs[k].bl[m].1.at_] 95);rcases E2 cs[k].bl[m] with⟨k1,l⟩|⟨k1,k2,l⟩|⟨k1,k2,l⟩
      .cases hh2:DV a cs[k].bl[m].1.A.name with
       |true=>
        (have y:lO ((cs[k].bl.take (m+1)).foldl zF b=a):=by show _=_;rw[n.out];simp[zF,Cy,l,hh2]);clear n l;(go_wp2_with fail);refine(Dz _ a cs[k].bl[m].1.A.name w.heap.size _ r (by omega)).mono ?_;rintro e z ⟨rfl,d⟩;rw[hh2,d];clear d z hh2;go_wp2
        go_roundw
        case rel=>exact⟨m+1,a,by go_num,by omega,y,by omega,r,u.alloc _⟩
        case measure=>simp[intOf];omega
       |false=>
        (have y:lO ((cs[k].bl.take (m+1)).foldl zF b=a++[cs[k].bl[m].1.A.name]):=by show _=_;rw[n.out];simp[zF,Cy,l,hh2]);clear n l;(go_wp2_with fail);refine(Dz _ a cs[k].bl[m].1.A.name w.heap.size _ r (by omega)).mono ?_;rintro e z ⟨rfl,d⟩;rw[hh2,d];clear d z hh2;go_wp2_with (at_builtin;refine io _ rfl (.tmp 80) (.tmp 84) _ rfl w.heap.size 9 i0 _ 1 16 underlying41 EK BS EY CL rfl (by omega) (U B2 (Z a) FA) (Z a) (a.flatMap Ah) rfl (r.alloc _) ⟨wr.heap.size+1,0,Y⟩ 1 1 [O cs[k].bl[m].1.A.name] rfl rfl (IB wr _ _ _ _ rfl) (by simp[Value.oneCell']) (by omega) (by unfold maxLen;omega) (by omega) (by simp;omega) (wr.heap.size+2) (by simp) ?_;intro g5 HJ w5 M D N T)
        have Ax:Ac [] w w5:=((u.alloc _).alloc _).grown D (λq H=>ly (C.lt q H).1);clear D N T;go_wp2
        go_roundw
        case rel=>
         refine⟨m+1,a++[cs[k].bl[m].1.A.name],by go_num,by omega,y,by simp;omega,?_,Ax⟩;simpa[Ah] using M
        case measure=>simp[intOf];omega
      .cases hh2:DV a cs[k].bl[m].1.A.name with
       |true=>
        (have y:lO ((cs[k].bl.take (m+1)).foldl zF b=a):=by show _=_;rw[n.out];simp[zF,Cy,l,hh2]);clear n l;(go_wp2_with fail);refine(Dz _ a cs[k].bl[m].1.A.name w.heap.size _ r (by omega)).mono ?_;rintro e z ⟨rfl,d⟩;rw[hh2,d];clear d z hh2;go_wp2
        go_roundw
        case rel=>exact⟨m+1,a,by go_num,by omega,y,by omega,r,u.alloc _⟩
        case measure=>simp[intOf];omega
       |false=>
        (have y:lO ((cs[k].bl.take (m+1)).foldl zF b=a++[cs[k].bl[m].1.A.name]):=by show _=_;rw[n.out];simp[zF,Cy,l,hh2]);clear n l;(go_wp2_with fail);refine(Dz _ a cs[k].bl[m].1.A.name w.heap.size _ r (by omega)).mono ?_;rintro e z ⟨rfl,d⟩;rw[hh2,d];clear d z hh2;go_wp2_with (at_builtin;refine io _ rfl (.tmp 80) (.tmp 84) _ rfl w.heap.size 9 i0 _ 1 16 underlying41 EK BS EY CL rfl (by omega) (U B2 (Z a) FA) (Z a) (a.flatMap Ah) rfl (r.alloc _) ⟨wr.heap.size+1,0,Y⟩ 1 1 [O cs[k].bl[m].1.A.name] rfl rfl (IB wr _ _ _ _ rfl) (by simp[Value.oneCell']) (by omega) (by unfold maxLen;omega) (by omega) (by simp;omega) (wr.heap.size+2) (by simp) ?_;intro g5 HJ w5 M D N T)
        have Ax:Ac [] w w5:=((u.alloc _).alloc _).grown D (λq H=>ly (C.lt q H).1);clear D N T;go_wp2
        go_roundw
        case rel=>
         refine⟨m+1,a++[cs[k].bl[m].1.A.name],by go_num,by omega,y,by simp;omega,?_,Ax⟩;simpa[Ah] using M
        case measure=>simp[intOf];omega
      ·(have y:lO ((cs[k].bl.take (m+1)).foldl zF b=a):=by show _=_;rw[n.out];simp[zF,l]);clear n l;go_wp2
       go_roundw
       case rel=>exact⟨m+1,a,by go_num,by omega,y,by omega,r,u.alloc _⟩
       case measure=>simp[intOf];omega
     .have HZ:lO ((cs.take (k+1)).foldl Lc []=a):=by
       have h:=HM.out;rw[gR (by omega)]at h;show _=_;rw[DJ _ _ B,HF.out,<-h];unfold Lc;rw[P.out]
      go_wp2
      go_roundw
      case rel=>exact⟨k+1,a,by go_num,by omega,HZ,by omega,C,u⟩
      case measure=>simp[intOf];omega
   |false=>
    (have P:lO (Cy f cs[k].head.name=f++[cs[k].head.name]):=by show _=_;simp[Cy,hh]);(go_wp2_with fail);refine(Dz _ f cs[k].head.name w.heap.size _ G (by omega)).mono ?_;rintro e z ⟨rfl,d⟩;rw[hh,d];clear d z hh;go_wp2_with (at_builtin;refine io _ rfl (.tmp 28) (.tmp 38) _ rfl w.heap.size 9 i0 _ 1 16 underlying41 EK BS EY CL rfl (by omega) (U H5 (Z f) H3) (Z f) (f.flatMap Ah) rfl (G.alloc _) ⟨wr.heap.size,0,Y⟩ 1 1 [O cs[k].head.name] rfl rfl (iu (cs:=#[O cs[k].head.name]) (t:=9) (fr:=(0,0)) (iD wr _)) (by simp[Value.oneCell']) (by omega) (by unfold maxLen;omega) (by omega) (by simp;omega) (wr.heap.size+1) (by simp) ?_;intro g1 HT w1 H0 HV H6 H9)
    have Bx:Ac [] w w1:=(I.alloc _).grown HV (λq H=>ly (G.lt q H).1);(have F:lQ w1 w.heap.size 9 1 (U (V ⟨g1,0,Y⟩) (Z f+1) HT) (Z (f++[cs[k].head.name])) ((f++[cs[k].head.name]).flatMap Ah):=by simpa[Ah] using H0);(have A2:Z (f++[cs[k].head.name])<=4*k+1:=by simp;omega);clear HV H6 H9 H0;go_wp2;obtain⟨b,P,F,A2⟩:∃b,lO (Cy f cs[k].head.name=b)/\lQ w1 w.heap.size 9 1 (U (V ⟨g1,0,Y⟩) (Z f+1) HT) (Z b) (b.flatMap Ah)/\Z b<=4*k+1:=⟨_,P,F,A2⟩;clear HI S G I HQ
    go_loopw [3,5] (λo i wq=>∃(m:Nat) (a:mc zA),i=X J m/\m<=cs[k].bl.length/\lO ((cs[k].bl.take m).foldl zF b=a)/\Z a<=4*k+1+m/\lQ wq w.heap.size 9 1 o (Z a) (a.flatMap Ah)/\Ac [] w wq) (λ_ i _=>cs[k].bl.length-(intOf i).toNat)
    case atStart=>exact⟨0,b,rfl,ik _,by show _=_;simp,by omega,F,Bx⟩
    case round=>
     clear F Bx;obtain⟨m,a,rfl,hm,HM,KK,C,u⟩:=hrel;obtain⟨B2,FA,rfl⟩:=Al C;have S:=(hP.kept u (by simp)).cell 0;simp at S;have K6:=u.size;have W:=HR.out.1.kept u;obtain⟨g2,IS,FB,_,CC⟩:=AF W.row (λc _=>BQ c) k B;simp only[gM,gT,iL]at FB;obtain⟨⟨rfl,_,_⟩,_,rfl⟩:=FB;have B0:=CC k B 3 (by omega);simp[CR]at B0;rw[FF.out]at B0;have E:=W.each cs[k] (gL B);clear CC W;by_cases j:m<cs[k].bl.length
     .obtain⟨gb,H8,Q,K2,p⟩:=AF E.body (λc _=>B6 c) m j;rw[FF.out]at Q;simp only[gM]at Q;obtain⟨rfl,_,rfl⟩:=Q;have hl:=E.lits cs[k].bl[m] (gL j);obtain⟨HO,HH,EX⟩:=Al hl;have d0:=p m j 0 (by omega);have d1:=p m j 1 (by omega);have d2:=p m j 2 (by omega);have d3:=p m j 3 (by omega);have d4:=p m j 4 (by omega);have d5:=p m j 5 (by omega);have d6:=p m j 6 (by omega);have d7:=p m j 7 (by omega);have d8:=p m j 8 (by omega);simp[Bt,CJ]at d0 d1 d2 d3 d4 d5 d6 d7 d8;rw[EX]at d2;clear p hl EX E;(have n:lO ((cs[k].bl.take (m+1)).foldl zF b=zF a cs[k].bl[m]):=by show _=_;rw[DJ _ _ j,HM.out]);have r:=C.alloc (j2 #[X .u8 cs[k].bl[m].1.kind.toNat,O cs[k].bl[m].1.A.name,U HO cs[k].bl[m].1.A.args.length HH,X J cs[k].bl[m].1.A.at_,X .u8 cs[k].bl[m].1.L.v.toNat,O cs[k].bl[m].1.L.s,X .u8 cs[k].bl[m].1.R.v.toNat,O cs[k].bl[m].1.R.s,X J cs[k].bl[m].1.at_] 95);rcases E2 cs[k].bl[m] with⟨k1,l⟩|⟨k1,k2,l⟩|⟨k1,k2,l⟩
      .cases hh2:DV a cs[k].bl[m].1.A.name with
       |true=>
        (have y:lO ((cs[k].bl.take (m+1)).foldl zF b=a):=by show _=_;rw[n.out];simp[zF,Cy,l,hh2]);clear n l;(go_wp2_with fail);refine(Dz _ a cs[k].bl[m].1.A.name w.heap.size _ r (by omega)).mono ?_;rintro e z ⟨rfl,d⟩;rw[hh2,d];clear d z hh2;go_wp2
        go_roundw
        case rel=>exact⟨m+1,a,by go_num,by omega,y,by omega,r,u.alloc _⟩
        case measure=>simp[intOf];omega
       |false=>
        (have y:lO ((cs[k].bl.take (m+1)).foldl zF b=a++[cs[k].bl[m].1.A.name]):=by show _=_;rw[n.out];simp[zF,Cy,l,hh2]);clear n l;(go_wp2_with fail);refine(Dz _ a cs[k].bl[m].1.A.name w.heap.size _ r (by omega)).mono ?_;rintro e z ⟨rfl,d⟩;rw[hh2,d];clear d z hh2;go_wp2_with (at_builtin;refine io _ rfl (.tmp 80) (.tmp 84) _ rfl w.heap.size 9 i0 _ 1 16 underlying41 EK BS EY CL rfl (by omega) (U B2 (Z a) FA) (Z a) (a.flatMap Ah) rfl (r.alloc _) ⟨wr.heap.size+1,0,Y⟩ 1 1 [O cs[k].bl[m].1.A.name] rfl rfl (IB wr _ _ _ _ rfl) (by simp[Value.oneCell']) (by omega) (by unfold maxLen;omega) (by omega) (by simp;omega) (wr.heap.size+2) (by simp) ?_;intro g5 HJ w5 M D N T)
        have Ax:Ac [] w w5:=((u.alloc _).alloc _).grown D (λq H=>ly (C.lt q H).1);clear D N T;go_wp2
        go_roundw
        case rel=>
         refine⟨m+1,a++[cs[k].bl[m].1.A.name],by go_num,by omega,y,by simp;omega,?_,Ax⟩;simpa[Ah] using M
        case measure=>simp[intOf];omega
      .cases hh2:DV a cs[k].bl[m].1.A.name with
       |true=>
        (have y:lO ((cs[k].bl.take (m+1)).foldl zF b=a):=by show _=_;rw[n.out];simp[zF,Cy,l,hh2]);clear n l;(go_wp2_with fail);refine(Dz _ a cs[k].bl[m].1.A.name w.heap.size _ r (by omega)).mono ?_;rintro e z ⟨rfl,d⟩;rw[hh2,d];clear d z hh2;go_wp2
        go_roundw
        case rel=>exact⟨m+1,a,by go_num,by omega,y,by omega,r,u.alloc _⟩
        case measure=>simp[intOf];omega
       |false=>
        (have y:lO ((cs[k].bl.take (m+1)).foldl zF b=a++[cs[k].bl[m].1.A.name]):=by show _=_;rw[n.out];simp[zF,Cy,l,hh2]);clear n l;(go_wp2_with fail);refine(Dz _ a cs[k].bl[m].1.A.name w.heap.size _ r (by omega)).mono ?_;rintro e z ⟨rfl,d⟩;rw[hh2,d];clear d z hh2;go_wp2_with (at_builtin;refine io _ rfl (.tmp 80) (.tmp 84) _ rfl w.heap.size 9 i0 _ 1 16 underlying41 EK BS EY CL rfl (by omega) (U B2 (Z a) FA) (Z a) (a.flatMap Ah) rfl (r.alloc _) ⟨wr.heap.size+1,0,Y⟩ 1 1 [O cs[k].bl[m].1.A.name] rfl rfl (IB wr _ _ _ _ rfl) (by simp[Value.oneCell']) (by omega) (by unfold maxLen;omega) (by omega) (by simp;omega) (wr.heap.size+2) (by simp) ?_;intro g5 HJ w5 M D N T)
        have Ax:Ac [] w w5:=((u.alloc _).alloc _).grown D (λq H=>ly (C.lt q H).1);clear D N T;go_wp2
        go_roundw
        case rel=>
         refine⟨m+1,a++[cs[k].bl[m].1.A.name],by go_num,by omega,y,by simp;omega,?_,Ax⟩;simpa[Ah] using M
        case measure=>simp[intOf];omega
      ·(have y:lO ((cs[k].bl.take (m+1)).foldl zF b=a):=by show _=_;rw[n.out];simp[zF,l]);clear n l;go_wp2
       go_roundw
       case rel=>exact⟨m+1,a,by go_num,by omega,y,by omega,r,u.alloc _⟩
       case measure=>simp[intOf];omega
     .have HZ:lO ((cs.take (k+1)).foldl Lc []=a):=by
       have h:=HM.out;rw[gR (by omega)]at h;show _=_;rw[DJ _ _ B,HF.out,<-h];unfold Lc;rw[P.out]
      go_wp2
      go_roundw
      case rel=>exact⟨k+1,a,by go_num,by omega,HZ,by omega,C,u⟩
      case measure=>simp[intOf];omega
  ·(have HE:lO (Gv cs=f):=by have h:=HF.out;rwa [gR (by omega)]at h);go_wp2;go_ret;rw[HE.out];exact⟨_,rfl,G,I⟩
def Mu(x:zA)(l:mc zA)(c:A6):mc zA:=if c.head.name.toList==x.toList then c.bl.foldl zF l else l
def Ml(cs:mc A6)(l:mc zA)(x:zA):mc zA:=cs.foldl (Mu x) l
def DB(cs:mc A6):mc zA:=cs.flatMap λc=>(c.bl.filter MT).map λp=>p.1.A.name
def Pa(cs:mc A6)(l:mc zA):Nat:=(DB cs).countP λx=> !DV l x
def Bd(cs:mc A6)(l:mc zA):Prop:=Z l+Pa cs l<=1+Z (DB cs)
def JH:Nat->mc A6->zA->mc zA->Nat->Bool
 |0,_,_,_,_=>K
 |f+1,cs,to,l,n=>if h:n<Z l then(if l[n].toList==to.toList then j1 else JH f cs to (Ml cs l l[n]) (n+1))else K
def GW(cs:mc A6)(frm to:zA):Bool:=JH (2+Z (DB cs)) cs to [frm] 0
def Od(l:mc zA)(x:zA):∀(m:mc zA),(m.countP λy=> !DV (l++[x]) y)<=m.countP λy=> !DV l y
 |[]=>by simp
 |y::m=>by
  have ih:=Od l x m;simp only[List.countP_cons];have:(!DV (l++[x]) y)=j1->(!DV l y)=j1:=by
   rw[KB];cases DV l y<;>simp
  cases h1:(!DV (l++[x]) y)with
  |true=>simp only[this h1,if_true];omega
  |false=>simp only[gO,if_false];omega
def I2(l:mc zA)(x:zA)(b:DV l x=K):∀(m:mc zA),x∈m->(m.countP λy=> !DV (l++[x]) y)+1<=m.countP λy=> !DV l y
 |[],h=>by simp at h
 |y::m,h=>by
  simp only[List.countP_cons];by_cases c:y=x
  .subst c;have a:=Od l y m;(have d:DV (l++[y]) y=j1:=by rw[KB];simp);simp only[d,b,jW,jb,if_true,gO,if_false];omega
  .have ih:=I2 l x b m (by rcases gP.1 h with h|h;exact absurd h.symm c;exact h);have:(!DV (l++[x]) y)=j1->(!DV l y)=j1:=by
    rw[KB];cases DV l y<;>simp
   cases a:(!DV (l++[x]) y)with
   |true=>simp only[this a,if_true];omega
   |false=>simp only[gO,if_false];omega
def bS{cs:mc A6}{c:A6}{p:Bj}{l:mc zA}(f:c∈cs)(a:p∈c.bl)(h:Bd cs l):Bd cs (zF l p):=by
 unfold zF Cy;split
 .rename_i e;split
  .exact h
  .rename_i g;(have d:DV l p.1.A.name=K:=by simpa using g);have b:p.1.A.name∈DB cs:=by
    unfold DB;rw[iI];exact⟨c,f,gX.2 ⟨p,ir.2 ⟨a,e⟩,rfl⟩⟩
   have:=I2 l p.1.A.name d (DB cs) b;unfold Bd Pa at h⊢;simp only[ib,gW,iv];omega
 .exact h
def ZW(l:mc zA)(p:Bj):∃a,zF l p=l++a:=by
 unfold zF Cy;split
 .split
  .exact⟨[],by simp⟩
  .exact⟨[_],rfl⟩
 .exact⟨[],by simp⟩
structure EA(cs:mc A6)(l l2:mc zA):Prop where
 pre:∃suf,l2=l++suf
 bd:Bd cs l2
def EA.zF{cs:mc A6}{l b:mc zA}(h:EA cs l b){c:A6}{p:Bj}(g:c∈cs)(d:p∈c.bl):EA cs l (zF b p):=by
 obtain⟨⟨a,rfl⟩,f⟩:=h;obtain⟨s2,e⟩:=ZW (l++a) p;exact⟨⟨a++s2,by rw[e,iT]⟩,bS g d f⟩
def EA.at{cs:mc A6}{l a:mc zA}(h:EA cs l a){n:Nat}(b:n<Z l):∃c:n<Z a,a[n]=l[n]:=by
 obtain⟨⟨d,rfl⟩,_⟩:=h;exact⟨by simp;omega,kj b⟩
def EA.len{cs:mc A6}{l a:mc zA}(h:EA cs l a):Z l<=Z a/\Z a<=1+Z (DB cs):=by
 obtain⟨⟨c,rfl⟩,b⟩:=h;unfold Bd at b;exact⟨by simp,by omega⟩
theorem TW(pb:Nat)(lv:lN)(cs:mc A6)(N G:zA)(w:l9)(hP:AH w pb [lv] 76)(hR:Dw w lv cs)(NS:Z cs<=1000000)(H9:∀c∈cs,Z c.bl<=1000000)(Nx:Z (DB cs)<=900000):
  Calls prog 85 #[kt (V ⟨pb,0,Y⟩),O N,O G] w λe w'=>e=lo (lT (GW cs N G))/\Ac [] w w':=by
 obtain⟨i0,K2,H3,FO,FB⟩:=iR Tryz.zt;obtain⟨ad,HU,rfl⟩:=Al hR.row;obtain⟨R,HH⟩:∃R,GW cs N G=R:=⟨_,rfl⟩;rw[HH];have HR:lO (Dw w (U ad (Z cs) HU) cs/\(∀c∈cs,Z c.bl<=1000000)/\GW cs N G=R):=⟨hR,H9,HH⟩;obtain⟨A,hA⟩:∃A,Z (DB cs)=A:=⟨_,rfl⟩;rw[hA]at Nx;have HA:=Ab hA;clear hR H9 HH hA;have QR:∀(x:Bool) (w:l9),(Op.unary .not (lT x)).run prog w=.ok (lT (!x)) w:=λ_ _=>rfl
 go_enter func85,ntmps85;go_wp2
 go_loopg [7,8] (1+A) (λgk o i wr=>∃(n:Nat) (l:mc zA),i=X J n/\n<=Z l/\Z l<=1+A/\gk=1+A-n/\lO (Bd cs l/\JH (2+A-n) cs G l n=R)/\lQ wr w.heap.size 9 1 o (Z l) (l.flatMap Ah)/\Ac [] w wr)
 case atStart=>
  refine⟨0,[N],rfl,by simp,by simp,by simp,⟨?_,?_⟩,?_,(me _ _).alloc _⟩
  .unfold Bd Pa;have:=lH (p:=λx=> !DV [N] x) (l:=DB cs);simp only[gW,iv];omega
  .have h:=HR.out.2.2;unfold GW at h;rw[Aa HA]at h;exact h
  .exact⟨rfl,ly ⟨_,1,#[O N],rfl,ig _,iD w _,by simp,by unfold maxLen;omega,rfl,by simp[Ah]⟩⟩
 case round=>
  obtain⟨n,l,rfl,hn,hl,K6,HB,FL,hK⟩:=hrel;have HG:lO (gk=1+A-n):=K6;clear K6;obtain⟨RO,RI,rfl⟩:=Al FL;by_cases AO:n<Z l
  .obtain⟨g,N4,he,hc,H5⟩:=AF FL (λc _=>rfl) n AO;simp only[gM]at he;obtain⟨rfl,_,rfl⟩:=he;have F:=H5 n AO 0 (by omega);simp[Ah]at F;clear H5;obtain⟨x,hx⟩:∃x,l[n]=x:=⟨_,rfl⟩;rw[hx]at F;cases hto:(x.toList==G.toList)with
   |true=>
    have Nq:lO (R=j1):=by
     have h:=HB.out.2;rw[show 2+A-n=(1+A-n)+1 by omega,JH,dif_pos AO,hx,hto]at h;exact h.symm
    clear hx;go_wp2;go_ret;rw[Nq.out];exact⟨rfl,hK⟩
   |false=>
    have K7:lO (JH (2+A-(n+1)) cs G (Ml cs l x) (n+1)=R/\l[n]=x):=by
     have h:=HB.out.2;rw[show 2+A-n=(2+A-(n+1))+1 by omega,JH,dif_pos AO,hx,hto]at h;exact⟨h,hx⟩
    have H2:lO (EA cs l l):=⟨⟨[],by simp⟩,HB.out.1⟩;clear hx HB;go_wp2;clear F hto
    go_loopw [7,9] (λo i P=>∃(k:Nat) (b:mc zA),i=X J k/\k<=Z cs/\lO ((cs.take k).foldl (Mu x) l=b/\EA cs l b)/\lQ P w.heap.size 9 1 o (Z b) (b.flatMap Ah)/\Ac [] w P) (λ_ i _=>Z cs-(intOf i).toNat)
    case atStart=>exact⟨0,l,rfl,ik _,⟨by simp,H2.out⟩,FL,hK⟩
    case round=>
     clear FL hK H2;obtain⟨k,b,rfl,hk,HM,H,B⟩:=hrel;obtain⟨QQ,NL,rfl⟩:=Al H;have JJ:=(hP.kept B (by simp)).cell 0;simp at JJ;by_cases t:k<Z cs
     .have HT:=HR.out.1.kept B;obtain⟨gp,P0,KK,_,Nj⟩:=AF HT.row (λc _=>BQ c) k t;simp only[gM]at KK;obtain⟨rfl,_,rfl⟩:=KK;have A1:=HT.each cs[k] (gL t);have RT:=HR.out.2.1 cs[k] (gL t);obtain⟨MY,H4,IJ⟩:=Al A1.body;have K9:=Ab IJ;clear Nj HT A1 IJ JJ;have W:lO (∀(M:l9) (o:lN) (a:mc zA),Ac [] w M->lQ M w.heap.size 9 1 o (Z a) (a.flatMap Ah)->EA cs l a->
        lP M ⟨pb,0,Y⟩=V (U (V ⟨gp,0,Y⟩) (Z cs) HU)/\lP M ⟨gp,k*5,Y⟩=V (O cs[k].head.name)/\lP M ⟨gp,k*5+3,Y⟩=V (U MY cs[k].bl.length H4)/\
        ∃E Q,o=U (V ⟨E,0,Y⟩) (Z a) Q/\n<Z a/\lP M ⟨E,n,Y⟩=V (O x)):=by
       intro M o a K8 LL NM;have h1:=(hP.kept K8 (by simp)).cell 0;have LE:=HR.out.1.kept K8;obtain⟨g2,c2,LB,_,IS⟩:=AF LE.row (λc _=>BQ c) k t;simp only[gM,gT,iL]at LB;obtain⟨⟨rfl,_,_⟩,_,rfl⟩:=LB;have h2:=IS k t 0 (by omega);have h3:=IS k t 3 (by omega);simp[CR]at h1 h2 h3;rw[Aa K9]at h3;obtain⟨BA,L0⟩:=NM.at AO;obtain⟨E,Q,T,_,NB⟩:=AF LL (λc _=>rfl) n BA;have h4:=NB n BA 0 (by omega);simp[Ah]at h4;rw[L0,K7.out.2]at h4;exact⟨h1,h2,h3,E,Q,T,BA,h4⟩
      cases hnm:(cs[k].head.name.toList==x.toList)with
      |false=>
       have D:lO ((cs.take (k+1)).foldl (Mu x) l=b/\EA cs l b):=⟨by rw[DJ _ _ t,HM.out.1];simp[Mu,hnm],HM.out.2⟩;obtain⟨f1,f2,f3,E,Q,T,BA,f4⟩:=W.out _ _ _ B H D.out.2;simp only[gM]at T;obtain⟨rfl,_,rfl⟩:=T;clear W;(have Mo:(k:Int)<(Z cs:Int):=by omega);(have MB:(n:Int)<(Z b:Int):=by omega);go_wp2
       go_loopw [7,10] (λo i P=>o=U (V ⟨E,0,Y⟩) (Z b) NL/\i=X J 0/\∃q,P=wr.drewN q) (λ_ _ _=>0)
       case atStart=>exact⟨rfl,rfl,0,rfl⟩
       case round=>
        obtain⟨rfl,rfl,q,rfl⟩:=hrel;go_wp2_with fail
        go_quiet (fail)
        go_wp2_with fail
        go_roundw
        case rel=>exact⟨k+1,b,by go_num,by omega,D,DK H _,B.drewN _⟩
        case measure=>simp[intOf];omega
      |true=>
       (have NN:lO ((cs.take (k+1)).foldl (Mu x) l=cs[k].bl.foldl zF b):=by show _=_;rw[DJ _ _ t,HM.out.1];simp[Mu,hnm]);have Jx:=Ab HM.out.2;(have Mo:(k:Int)<(Z cs:Int):=by omega);obtain⟨f1,_⟩:=W.out _ _ _ B H Jx;go_wp2;clear f1
       go_loopw [7,10] (λo i P=>∃(m:Nat) (a:mc zA),i=X J m/\m<=cs[k].bl.length/\lO ((cs[k].bl.take m).foldl zF b=a/\EA cs l a)/\lQ P w.heap.size 9 1 o (Z a) (a.flatMap Ah)/\Ac [] w P) (λ_ i _=>cs[k].bl.length-(intOf i).toNat)
       case atStart=>exact⟨0,b,rfl,ik _,⟨by simp,Jx⟩,H,B⟩
       case round=>
        clear H;have Os:=Ab B;clear B;obtain⟨m,a,rfl,hm,HN,EM,AT⟩:=hrel;obtain⟨f1,f2,f3,E,Q,T,BA,f4⟩:=W.out _ _ _ AT EM HN.out.2;subst T;(have MB:(n:Int)<(Z a:Int):=by omega);(have Pl:Z a<=1+A:=by have:=HN.out.2.len.2;rw[Aa HA]at this;exact this);have M0:=AT.size;by_cases f:m<cs[k].bl.length
        ·(have OH:(m:Int)<(cs[k].bl.length:Int):=by omega);(have M1:decide ((m:Int)<(cs[k].bl.length:Int))=j1:=by simp;omega);have A1:=(HR.out.1.kept AT).each cs[k] (gL t);obtain⟨d,NX,HJ,RB,y⟩:=AF A1.body (λc _=>B6 c) m f;rw[Aa K9]at HJ;simp only[gM]at HJ;obtain⟨rfl,_,rfl⟩:=HJ;have hl:=A1.lits cs[k].bl[m] (gL f);obtain⟨HV,HK,K4⟩:=Al hl;have F:=y m f 0 (by omega);have d1:=y m f 1 (by omega);have d2:=y m f 2 (by omega);have d3:=y m f 3 (by omega);have d4:=y m f 4 (by omega);have d5:=y m f 5 (by omega);have d6:=y m f 6 (by omega);have d7:=y m f 7 (by omega);have d8:=y m f 8 (by omega);simp[Bt,CJ]at F d1 d2 d3 d4 d5 d6 d7 d8;rw[K4]at d2;have HD:lO (lP wr ⟨d,m*9,Y⟩=V (X .u8 cs[k].bl[m].1.kind.toNat)/\lP wr ⟨d,m*9+1,Y⟩=V (O cs[k].bl[m].1.A.name)/\lP wr ⟨d,m*9+2,Y⟩=V (U HV cs[k].bl[m].1.A.args.length HK)/\lP wr ⟨d,m*9+3,Y⟩=V (X J cs[k].bl[m].1.A.at_)/\lP wr ⟨d,m*9+4,Y⟩=V (X .u8 cs[k].bl[m].1.L.v.toNat)/\lP wr ⟨d,m*9+5,Y⟩=V (O cs[k].bl[m].1.L.s)/\lP wr ⟨d,m*9+6,Y⟩=V (X .u8 cs[k].bl[m].1.R.v.toNat)/\lP wr ⟨d,m*9+7,Y⟩=V (O cs[k].bl[m].1.R.s)/\lP wr ⟨d,m*9+8,Y⟩=V (X J cs[k].bl[m].1.at_)):=⟨F,d1,d2,d3,d4,d5,d6,d7,d8⟩;have u:lO ((cs[k].bl.take (m+1)).foldl zF b=zF a cs[k].bl[m]/\EA cs l (zF a cs[k].bl[m])):=⟨by rw[DJ _ _ f,HN.out.1],HN.out.2.zF (gL t) (gL f)⟩;clear y hl K4 A1 F d1 d2 d3 d4 d5 d6 d7 d8 W;go_wp2_with fail
         go_quiet (fail)
         have DT:=DK EM nq;have I:=AT.drewN nq;have FF:lP (wr.drewN nq) ⟨pb,0,Y⟩=V (U (V ⟨gp,0,Y⟩) (Z cs) HU)/\lP (wr.drewN nq) ⟨gp,k*5+3,Y⟩=V (U (V ⟨d,0,Y⟩) cs[k].bl.length H4)/\lP (wr.drewN nq) ⟨d,m*9,Y⟩=V (X .u8 cs[k].bl[m].1.kind.toNat)/\lP (wr.drewN nq) ⟨d,m*9+1,Y⟩=V (O cs[k].bl[m].1.A.name)/\lP (wr.drewN nq) ⟨d,m*9+2,Y⟩=V (U HV cs[k].bl[m].1.A.args.length HK)/\lP (wr.drewN nq) ⟨d,m*9+3,Y⟩=V (X J cs[k].bl[m].1.A.at_)/\lP (wr.drewN nq) ⟨d,m*9+4,Y⟩=V (X .u8 cs[k].bl[m].1.L.v.toNat)/\lP (wr.drewN nq) ⟨d,m*9+5,Y⟩=V (O cs[k].bl[m].1.L.s)/\lP (wr.drewN nq) ⟨d,m*9+6,Y⟩=V (X .u8 cs[k].bl[m].1.R.v.toNat)/\lP (wr.drewN nq) ⟨d,m*9+7,Y⟩=V (O cs[k].bl[m].1.R.s)/\lP (wr.drewN nq) ⟨d,m*9+8,Y⟩=V (X J cs[k].bl[m].1.at_):=⟨f1,f3,HD.out⟩;clear HD f1 f2 f3 f4 EM AT M0;generalize wr.drewN nq=wd at FF DT I⊢;obtain⟨f1,f3,F,d1,d2,d3,d4,d5,d6,d7,d8⟩:=FF;have N2:=I.size;have z:=DT.alloc (j2 #[X .u8 cs[k].bl[m].1.kind.toNat,O cs[k].bl[m].1.A.name,U HV cs[k].bl[m].1.A.args.length HK,X J cs[k].bl[m].1.A.at_,X .u8 cs[k].bl[m].1.L.v.toNat,O cs[k].bl[m].1.L.s,X .u8 cs[k].bl[m].1.R.v.toNat,O cs[k].bl[m].1.R.s,X J cs[k].bl[m].1.at_] 95);rcases E2 cs[k].bl[m] with⟨k1,j⟩|⟨k1,k2,j⟩|⟨k1,k2,j⟩
         .cases hh2:DV a cs[k].bl[m].1.A.name with
          |true=>
           (have e:zF a cs[k].bl[m]=a:=by simp[zF,Cy,j,hh2]);(have C:lO ((cs[k].bl.take (m+1)).foldl zF b=a/\EA cs l a):=by have h:=u.out;rw[e]at h;exact h);clear e;clear u j;(go_wp2_with fail);refine(Dz _ a cs[k].bl[m].1.A.name w.heap.size _ z (by omega)).mono ?_;rintro e S ⟨rfl,r⟩;rw[hh2,r];clear r S hh2;go_wp2
           go_roundw
           case rel=>exact⟨m+1,a,by go_num,by omega,C,z,I.alloc _⟩
           case measure=>simp[intOf];omega
          |false=>
           (have e:zF a cs[k].bl[m]=a++[cs[k].bl[m].1.A.name]:=by simp[zF,Cy,j,hh2]);(have C:lO ((cs[k].bl.take (m+1)).foldl zF b=a++[cs[k].bl[m].1.A.name]/\EA cs l (a++[cs[k].bl[m].1.A.name])):=by have h:=u.out;rw[e]at h;exact h);clear e;clear u j;(go_wp2_with fail);refine(Dz _ a cs[k].bl[m].1.A.name w.heap.size _ z (by omega)).mono ?_;rintro e S ⟨rfl,r⟩;rw[hh2,r];clear r S hh2;go_wp2_with (at_builtin;refine io _ rfl (.tmp 91) (.tmp 95) _ rfl w.heap.size 9 i0 _ 1 16 underlying41 K2 H3 FO FB rfl (by omega) (U (V ⟨E,0,Y⟩) (Z a) Q) (Z a) (a.flatMap Ah) rfl (z.alloc _) ⟨wd.heap.size+1,0,Y⟩ 1 1 [O cs[k].bl[m].1.A.name] rfl rfl (IB wd _ _ _ _ rfl) (by simp[Value.oneCell']) (by omega) (by unfold maxLen;omega) (by omega) (by simp;omega) (wd.heap.size+2) (by simp) ?_;intro g5 M6 w5 Ha B9 HE HP)
           have HW:Ac [] w w5:=((I.alloc _).alloc _).grown B9 (λq hq=>ly (DT.lt q hq).1);clear B9 HE HP;go_wp2
           go_roundw
           case rel=>
            refine⟨m+1,a++[cs[k].bl[m].1.A.name],by go_num,by omega,C,?_,HW⟩;simpa[Ah] using Ha
           case measure=>simp[intOf];omega
         .cases hh2:DV a cs[k].bl[m].1.A.name with
          |true=>
           (have e:zF a cs[k].bl[m]=a:=by simp[zF,Cy,j,hh2]);(have C:lO ((cs[k].bl.take (m+1)).foldl zF b=a/\EA cs l a):=by have h:=u.out;rw[e]at h;exact h);clear e;clear u j;(go_wp2_with fail);refine(Dz _ a cs[k].bl[m].1.A.name w.heap.size _ z (by omega)).mono ?_;rintro e S ⟨rfl,r⟩;rw[hh2,r];clear r S hh2;go_wp2
           go_roundw
           case rel=>exact⟨m+1,a,by go_num,by omega,C,z,I.alloc _⟩
           case measure=>simp[intOf];omega
          |false=>
           (have e:zF a cs[k].bl[m]=a++[cs[k].bl[m].1.A.name]:=by simp[zF,Cy,j,hh2]);(have C:lO ((cs[k].bl.take (m+1)).foldl zF b=a++[cs[k].bl[m].1.A.name]/\EA cs l (a++[cs[k].bl[m].1.A.name])):=by have h:=u.out;rw[e]at h;exact h);clear e;clear u j;(go_wp2_with fail);refine(Dz _ a cs[k].bl[m].1.A.name w.heap.size _ z (by omega)).mono ?_;rintro e S ⟨rfl,r⟩;rw[hh2,r];clear r S hh2;go_wp2_with (at_builtin;refine io _ rfl (.tmp 91) (.tmp 95) _ rfl w.heap.size 9 i0 _ 1 16 underlying41 K2 H3 FO FB rfl (by omega) (U (V ⟨E,0,Y⟩) (Z a) Q) (Z a) (a.flatMap Ah) rfl (z.alloc _) ⟨wd.heap.size+1,0,Y⟩ 1 1 [O cs[k].bl[m].1.A.name] rfl rfl (IB wd _ _ _ _ rfl) (by simp[Value.oneCell']) (by omega) (by unfold maxLen;omega) (by omega) (by simp;omega) (wd.heap.size+2) (by simp) ?_;intro g5 M6 w5 Ha B9 HE HP)
           have HW:Ac [] w w5:=((I.alloc _).alloc _).grown B9 (λq hq=>ly (DT.lt q hq).1);clear B9 HE HP;go_wp2
           go_roundw
           case rel=>
            refine⟨m+1,a++[cs[k].bl[m].1.A.name],by go_num,by omega,C,?_,HW⟩;simpa[Ah] using Ha
           case measure=>simp[intOf];omega
         ·(have e:zF a cs[k].bl[m]=a:=by simp[zF,j]);(have C:lO ((cs[k].bl.take (m+1)).foldl zF b=a/\EA cs l a):=by have h:=u.out;rw[e]at h;exact h);clear e;clear u j;go_wp2
          go_roundw
          case rel=>exact⟨m+1,a,by go_num,by omega,C,z,I.alloc _⟩
          case measure=>simp[intOf];omega
        ·(have M1:decide ((m:Int)<(cs[k].bl.length:Int))=K:=by simp;omega);(have RV:decide (m<cs[k].bl.length)=K:=by simp;omega);have D:lO ((cs.take (k+1)).foldl (Mu x) l=a/\EA cs l a):=by
          have h:=HN.out;rw[gR (by omega)]at h;exact⟨by rw[Aa NN];exact h.1,h.2⟩
         clear W;go_wp2_with fail
         go_quiet (fail)
         go_wp2_with fail
         go_roundw
         case rel=>exact⟨k+1,a,by go_num,by omega,D,DK EM _,AT.drewN _⟩
         case measure=>simp[intOf];omega
     ·(have D:lO (Ml cs l x=b/\EA cs l b):=by have h:=HM.out;rw[gR (by omega)]at h;exact h);(have FO:n+1<=Z b:=by have:=D.out.2.len.1;omega);(have FB:Z b<=1+A:=by have:=D.out.2.len.2;rw[Aa HA]at this;exact this);go_wp2
      go_roundg (1+A-(n+1))
      case measure=>have:=HG.out;omega
      case rel=>exact⟨n+1,b,by go_num,FO,FB,rfl,⟨D.out.2.bd,by rw[<-D.out.1];exact K7.out.1⟩,H,B⟩
  .have LM:lO (R=K):=by
    have h:=HB.out.2;rw[show 2+A-n=(1+A-n)+1 by omega,JH,dif_neg AO]at h;exact h.symm
   go_wp2;go_ret;rw[LM.out];exact⟨rfl,hK⟩
def BC(p:Bj):Bool:=decide (2<Z p.1.A.args)
def BI(cs:mc A6)(p:Bj):Bool:=MT p&&(Dv cs p.1.A.name !=(Z p.1.A.args:Int))
def B1(cs:mc A6)(i:Nat)(c:A6):Option (Int×Int):=
 if 12<=i\/3<Z c.bl then V (3,c.at_)
 else if 2<Z c.head.args then V (3,c.at_)
 else if c.bl.any BC then V (3,c.at_)
 else if 6<Z (Gv (cs.take (i+1)))\/6<Z (Dy (cs.take (i+1))) then V (3,c.at_)
 else if Dv cs c.head.name≠(Z c.head.args:Int)then V (4,c.head.at_)
 else match c.bl.find? (BI cs)with
  |some p=>V (4,p.1.A.at_)
  |none=>if 0<=D5 c.head c.bl then V (5,D5 c.head c.bl)else Y
def D6(cs:mc A6):Nat->mc A6->Option (Int×Int)
 |_,[]=>Y
 |i,c::l=>match B1 cs i c with
  |some r=>V r
  |none=>D6 cs (i+1) l
def EE(cs:mc A6)(c:A6)(p:Bj):Bool:=p.1.kind==33&&GW cs p.1.A.name c.head.name
def Dk(cs:mc A6)(c:A6):Option (Int×Int):=(c.bl.find? (EE cs c)).map λp=>(6,(p.1.at_:Int))
def Cp(cs:mc A6):Int×Int:=match D6 cs 0 cs with
 |some r=>r
 |none=>match cs.findSome? (Dk cs)with
  |some r=>r
  |none=>(0,0)
def J7{cs:mc A6}:∀(l:mc A6) (i k:Nat),(∀j (b:j<Z l),j<k->B1 cs (i+j) l[j]=Y)->k<=Z l->D6 cs i l=D6 cs (i+k) (l.drop k)
 |l,i,0,_,_=>by simp
 |[],i,k+1,_,hk=>by simp at hk
 |c::l,i,k+1,h,hk=>by
  have a:=h 0 (by simp) (by omega);simp only[Nat.add_zero,kT]at a;rw[D6,a];simp only[kB];rw[J7 l (i+1) k (λj b d=>by
   have:=h (j+1) (by simp;omega) (by omega)
   simp only[List.getElem_cons_succ]at this
   rw[show i+1+j=i+(j+1) by omega];exact this) (by simpa using hk)]
  rw[show i+1+k=i+(k+1) by omega]
def Xb{cs:mc A6}{k:Nat}(b:k<Z cs)(d:∀j (a:j<Z cs),j<k->B1 cs j cs[j]=Y){r:Int×Int}(c:B1 cs k cs[k]=V r):Cp cs=r:=by
 unfold Cp;rw[J7 cs 0 k (λj a e=>by rw[iM];exact d j a e) (by omega),ij b,iM,D6,c]
def Ue{cs:mc A6}(b:∀j (a:j<Z cs),B1 cs j cs[j]=Y):Cp cs=match cs.findSome? (Dk cs)with|some r=>r|none=>(0,0):=by
 unfold Cp;rw[J7 cs 0 (Z cs) (λj a _=>by rw[iM];exact b j a) (ig _),List.drop_length,D6]
def S7{cs:mc A6}{i:Nat}{c:A6}(h:B1 cs i c=Y):i<12/\JU c:=by
 unfold B1 at h;split at h
 .cases h
 .rename_i d;split at h
  .cases h
  .rename_i e;split at h
   .cases h
   .rename_i b;refine⟨by omega,⟨by omega,by omega,λp a=>?_⟩⟩;have:BC p=K:=by
     cases hm:BC p with
     |false=>rfl
     |true=>exact absurd (by rw[jg];exact⟨p,a,hm⟩) b
    simpa[BC] using this
def Dw.take{w:l9}{g:Nat}{cap:Nat}{cs:mc A6}(h:Dw w (U (V ⟨g,0,Y⟩) (Z cs) cap) cs)(k:Nat)(r:k<=Z cs):Dw w (U (V ⟨g,0,Y⟩) k cap) (cs.take k):=by
 refine⟨?_,λc j=>h.each c (jr j)⟩;have d:Z (cs.take k)=k:=by simp;omega
 rw[d];have i:∀(l:mc A6),Z (l.flatMap CR)=Z l*5:=by
  intro l
  induction l with
  |nil=>rfl
  |cons a l ih=>rw[il,ib,ih,BQ,gW];omega
 rcases h.row.2 with⟨b,_⟩|⟨t,s,f,b,_,q,j,m,n,p⟩
 .cases b
 .simp only[gM,gT,iL]at b;obtain⟨⟨rfl,_,_⟩,_,rfl⟩:=b;refine⟨by rw[i,d],ly ⟨g,cap,f,rfl,ik _,q,by omega,m,n,?_⟩⟩;have e:cs.flatMap CR=(cs.take k).flatMap CR++(cs.drop k).flatMap CR:=by rw[<-ix,iZ]
  have o:f.toList.take (k*5)=(f.toList.take (Z cs*5)).take (k*5):=by rw[kR,kD (by omega)]
  rw[o,p,e,iP (by rw[i,d];omega),gR (by rw[i,d];omega)]
structure ak(cs:mc A6):Prop where
 len:Z cs<=1000
 body:∀c∈cs,Z c.bl<=1000
 head:∀c∈cs,Z c.head.args<=1000000
 lits:∀c∈cs,∀p∈c.bl,Z p.1.A.args<=1000000
 atoms:Z (DB cs)<=900000
 full:∀c∈cs,Z6 c
def TC{w b:l9}{g cap:Nat}{cs:mc A6}(h:Dw w (U (V ⟨g,0,Y⟩) (Z cs) cap) cs)(o:Ac [] w b){k:Nat}(a:k<Z cs):
  lP b ⟨g,k*5,Y⟩=V (O cs[k].head.name)/\lP b ⟨g,k*5+1,Y⟩=V cs[k].hv/\lP b ⟨g,k*5+2,Y⟩=V (X J cs[k].head.at_)/\lP b ⟨g,k*5+3,Y⟩=V cs[k].bv/\lP b ⟨g,k*5+4,Y⟩=V (X J cs[k].at_):=by
 have n:=h.kept o;obtain⟨q,p,j,_,d⟩:=AF n.row (λc _=>BQ c) k a;simp only[gM,gT,iL]at j;obtain⟨⟨rfl,_,_⟩,_,rfl⟩:=j;have l:=d k a 0 (by omega);have i:=d k a 1 (by omega);have e:=d k a 2 (by omega);have m:=d k a 3 (by omega);have f:=d k a 4 (by omega);simp[CR]at l i e m f;exact⟨l,i,e,m,f⟩
def TD{w:l9}{c:A6}(h:Yf w c){m:Nat}(b:m<Z c.bl):∃a e,c.bv=U (V ⟨a,0,Y⟩) (Z c.bl) e/\
  lP w ⟨a,m*9,Y⟩=V (X .u8 c.bl[m].1.kind.toNat)/\lP w ⟨a,m*9+1,Y⟩=V (O c.bl[m].1.A.name)/\lP w ⟨a,m*9+2,Y⟩=V c.bl[m].2/\lP w ⟨a,m*9+3,Y⟩=V (X J c.bl[m].1.A.at_)/\
  lP w ⟨a,m*9+4,Y⟩=V (X .u8 c.bl[m].1.L.v.toNat)/\lP w ⟨a,m*9+5,Y⟩=V (O c.bl[m].1.L.s)/\lP w ⟨a,m*9+6,Y⟩=V (X .u8 c.bl[m].1.R.v.toNat)/\lP w ⟨a,m*9+7,Y⟩=V (O c.bl[m].1.R.s)/\lP w ⟨a,m*9+8,Y⟩=V (X J c.bl[m].1.at_):=by
 obtain⟨a,e,r,_,d⟩:=AF h.body (λp _=>B6 p) m b;have j:=d m b 0 (by omega);have k:=d m b 1 (by omega);have f:=d m b 2 (by omega);have i:=d m b 3 (by omega);have g:=d m b 4 (by omega);have l:=d m b 5 (by omega);have o:=d m b 6 (by omega);have n:=d m b 7 (by omega);have q:=d m b 8 (by omega);simp[Bt,CJ]at j k f i g l o n q;exact⟨a,e,r,j,k,f,i,g,l,o,n,q⟩
def Oz(t:AE):Prop:=t.v=0\/(65<=t.v.toNat/\t.v.toNat<=90)
structure TP(e:mc zA)(x:Bi):Prop where
 atom:(x.kind==97||x.kind==33)=j1->(∀t∈x.A.args,Oz t)/\Z x.A.args<=1000/\OA (AB e x.A)
 cmp:(x.kind==97||x.kind==33)=K->Oz x.L/\Oz x.R/\0<(AR e x.L).size/\(AR e x.L).size<=1000000/\0<(AR e x.R).size/\(AR e x.R).size<=1000000
theorem Wz(e:mc zA)(x:Bi)(k:Option Addr)(i:Nat)(DT:Option Addr)(EM:Nat)(fs:mc Dr)(w:l9)(he:Z e=26)(hx:CF w 0 (x,U k (Z x.A.args) i))(hs:KG w (U DT (Z fs) EM) fs)(HN:Z fs<=1000000)(C:TP e x):
  Calls prog 88 #[lR (j3 (Aj e)),lR (j3 (CJ x (U k (Z x.A.args) i))),U DT (Z fs) EM] w λr l=>r=lo (lT (CH (AB e) (AR e) (fs.map Dr.f) x))/\Ac [] w l:=by
 have n:lO ((x.kind==97||x.kind==33)=j1->∀wr,Ac [] w wr->Calls prog 48 #[lR (j3 (Aj e)),lR (j3 (Cg x.A.name (U k (Z x.A.args) i) x.A.at_))] wr λr l=>∃D H,r=lo (lR (j3 (CN ⟨AB e x.A,U D (Z x.A.args) H⟩)))/\Gu l ⟨AB e x.A,U D (Z x.A.args) H⟩/\Ac [] wr l):=λh wr hk=>Y0 e x.A k i wr he (Ad hx hk (by simp)) (C.atom h).2.1 (C.atom h).1
 have s:lO ((x.kind==97||x.kind==33)=j1->∀av wr,Ac [] w wr->Gu wr ⟨AB e x.A,av⟩->Calls prog 21 #[U DT (Z fs) EM,lR (j3 (CN ⟨AB e x.A,av⟩))] wr λe' l=>e'=lo (lT (fs.any λp=>GK p.f (AB e x.A)))/\Ac [] wr l):=λh av wr hk hr=>US DT EM fs ⟨AB e x.A,av⟩ wr (hs.kept hk) hr HN (C.atom h).2.2
 have FL:lO ((fs.any λp=>GK p.f (AB e x.A))=D9 (fs.map Dr.f) (AB e x.A)):=by show _=_;unfold D9;rw[lk];rfl
 have G:lO ((x.kind==97||x.kind==33)=K->∀wr,Calls prog 89 #[lR (j3 (Aj e)),lR (j3 (AU x.L))] wr λr l=>r=lo (O (AR e x.L))/\Ac [] wr l):=λh wr=>Kz e x.L wr he (C.cmp h).1
 have F:lO ((x.kind==97||x.kind==33)=K->∀wr,Calls prog 89 #[lR (j3 (Aj e)),lR (j3 (AU x.R))] wr λr l=>r=lo (O (AR e x.R))/\Ac [] wr l):=λh wr=>Kz e x.R wr he (C.cmp h).2.1
 have M:lO ((x.kind==97||x.kind==33)=K->∀wr,Calls prog 86 #[O (AR e x.L),O (AR e x.R)] wr λe' l=>e'=lo (lT (Fu (AR e x.L) (AR e x.R)))/\l=wr):=λh wr=>Ms _ _ wr (C.cmp h).2.2.1 (C.cmp h).2.2.2.2.1 (C.cmp h).2.2.2.1 (C.cmp h).2.2.2.2.2
 obtain⟨B,hB⟩:∃B,CH (AB e) (AR e) (fs.map Dr.f) x=B:=⟨_,rfl⟩;rw[hB];have b:lO ((if x.kind==97 then D9 (fs.map Dr.f) (AB e x.A)else if x.kind==33 then !D9 (fs.map Dr.f) (AB e x.A)else if x.kind==61 then(AR e x.L).toList==(AR e x.R).toList else if x.kind==35 then !((AR e x.L).toList==(AR e x.R).toList)else Fu (AR e x.L) (AR e x.R))=B):=hB;clear hB C hs hx;obtain⟨c,⟨g,d,j⟩,⟨u,m⟩,⟨o,q⟩,v⟩:=x;simp only at n s FL G F M b⊢;rw[Aa FL]at s;clear FL;have FB:lO (∀D H,CN ⟨AB e ⟨g,d,j⟩,U D (Z d) H⟩=[O g,U D (Z d) H]):=λD H=>rfl
 generalize D9 (fs.map Dr.f) (AB e ⟨g,d,j⟩)=HH at s b;generalize AB e ⟨g,d,j⟩=FP at n s FB;generalize AR e ⟨u,m⟩=VL at G M b;generalize AR e ⟨o,q⟩=VR at F M b;have hc:=Bv e;have W:lO (Z (Aj e)=26):=by show _=_;rw[De,he]
 have hl:=Aa W;generalize Aj e=E at hc hl W n G F⊢;simp only[CJ,Cg,AU]at n G F⊢;have y:=Ab ((mf w E 90).alloc (j2 [X .u8 c.toNat,O g,U k (Z d) i,X J j,X .u8 u.toNat,O m,X .u8 o.toNat,O q,X J v].toArray 95));have a:lO (AH ((w.alloc (j2 (j3 E) 90)).alloc (j2 [X .u8 c.toNat,O g,U k (Z d) i,X J j,X .u8 u.toNat,O m,X .u8 o.toNat,O q,X J v].toArray 95)) (w.heap.size+1) [X .u8 c.toNat,O g,U k (Z d) i,X J j,X .u8 u.toNat,O m,X .u8 o.toNat,O q,X J v] 95):=by
  have h:=mf (w.alloc (j2 (j3 E) 90)) [X .u8 c.toNat,O g,U k (Z d) i,X J j,X .u8 u.toNat,O m,X .u8 o.toNat,O q,X J v] 95;simp only[iz]at h;exact h
 have z:=Ab (((me [] w).alloc (j2 (j3 E) 90)).alloc (j2 [X .u8 c.toNat,O g,U k (Z d) i,X J j,X .u8 u.toNat,O m,X .u8 o.toNat,O q,X J v].toArray 95));have HL:((c.toNat:Int)==97)=(c==97):=CP _ 97;have FO:((c.toNat:Int)==33)=(c==33):=CP _ 33;have EK:((c.toNat:Int)==61)=(c==61):=CP _ 61;have CL:((c.toNat:Int)==35)=(c==35):=CP _ 35;cases h97:(c==97)with
 |true=>
  rw[h97]at b n s HL;rw[gY rfl]at b;have B9:=Ab (n rfl);have B2:=Ab (s rfl);clear n s G F M FO EK CL;go_enter func88,ntmps88;apply wp_seq_k;intro KK Q;have P:=Ab Q;clear Q;go_wp2;refine P _ _ ?_;clear P KK;change Code.wp _ _ _ _ ((w.alloc (j2 (j3 E) 90)).alloc (j2 [X .u8 c.toNat,O g,U k (Z d) i,X J j,X .u8 u.toNat,O m,X .u8 o.toNat,O q,X J v].toArray 95));generalize((w.alloc (j2 (j3 E) 90)).alloc (j2 [X .u8 c.toNat,O g,U k (Z d) i,X J j,X .u8 u.toNat,O m,X .u8 o.toNat,O q,X J v].toArray 95))=w1 at y a z⊢;generalize w.heap.size=N at y a⊢;have c0:=a.cell 0;have c1:=a.cell 1;have c2:=a.cell 2;have c3:=a.cell 3;have c4:=a.cell 4;have c5:=a.cell 5;have c6:=a.cell 6;have c7:=a.cell 7;simp at c0 c1 c2 c3 c4 c5 c6 c7;go_wp2_with (first|((with_reducible show wpList _ _ _ ({dst:=_,op:=Op.load 90 _,type:=_,pos:=_,after:=_,guard:=_}::_) _ _);refine jN rfl 90 _ rfl N 0 (by rfl) E _ y.range underlying90 rfl (by rw[Aa W];exact Tryz.zK) ?_)|fail)
  refine(B9 _ z).mono ?_;rintro _ w2 ⟨D,H,rfl,BT,t⟩;have S:=Ab (B2 (U D (Z d) H) w2 (z.trans t) BT);have AT:=Ab (z.trans t);rw[Aa FB]at S⊢;clear BT t B9 B2;go_wp2_with fail
  refine S.mono ?_;rintro _ w3 ⟨rfl,I⟩;have T:=Ab (AT.trans I);clear I S;go_wp2;go_ret;rw[<-Aa b];exact⟨rfl,T⟩
 |false=>
  rw[h97]at b n s HL G F M;rw[gV (by simp)]at b;cases h33:(c==33)with
  |true=>
   rw[h33]at b n s FO;rw[gY rfl]at b;have B9:=Ab (n rfl);have B2:=Ab (s rfl);clear n s G F M EK CL;go_enter func88,ntmps88;apply wp_seq_k;intro KK Q;have P:=Ab Q;clear Q;go_wp2;refine P _ _ ?_;clear P KK;change Code.wp _ _ _ _ ((w.alloc (j2 (j3 E) 90)).alloc (j2 [X .u8 c.toNat,O g,U k (Z d) i,X J j,X .u8 u.toNat,O m,X .u8 o.toNat,O q,X J v].toArray 95));generalize((w.alloc (j2 (j3 E) 90)).alloc (j2 [X .u8 c.toNat,O g,U k (Z d) i,X J j,X .u8 u.toNat,O m,X .u8 o.toNat,O q,X J v].toArray 95))=w1 at y a z⊢;generalize w.heap.size=N at y a⊢;have c0:=a.cell 0;have c1:=a.cell 1;have c2:=a.cell 2;have c3:=a.cell 3;have c4:=a.cell 4;have c5:=a.cell 5;have c6:=a.cell 6;have c7:=a.cell 7;simp at c0 c1 c2 c3 c4 c5 c6 c7;go_wp2_with (first|((with_reducible show wpList _ _ _ ({dst:=_,op:=Op.load 90 _,type:=_,pos:=_,after:=_,guard:=_}::_) _ _);refine jN rfl 90 _ rfl N 0 (by rfl) E _ y.range underlying90 rfl (by rw[Aa W];exact Tryz.zK) ?_)|fail)
   refine(B9 _ z).mono ?_;rintro _ w2 ⟨D,H,rfl,BT,t⟩;have S:=Ab (B2 (U D (Z d) H) w2 (z.trans t) BT);have AT:=Ab (z.trans t);rw[Aa FB]at S⊢;clear BT t B9 B2;(go_wp2_with fail);refine S.mono ?_;rintro _ w3 ⟨rfl,I⟩;have T:=Ab (AT.trans I);clear I S;go_wp2;go_ret;rw[<-Aa b];exact⟨rfl,T⟩
  |false=>
   rw[h33]at b FO G F M;rw[gV (by simp)]at b;have Ha:=Ab (G rfl);have HF:=Ab (F rfl);have HM:=Ab (M rfl);clear n s G F M;go_enter func88,ntmps88;apply wp_seq_k;intro KK Q;have P:=Ab Q;clear Q;go_wp2;refine P _ _ ?_;clear P KK;change Code.wp _ _ _ _ ((w.alloc (j2 (j3 E) 90)).alloc (j2 [X .u8 c.toNat,O g,U k (Z d) i,X J j,X .u8 u.toNat,O m,X .u8 o.toNat,O q,X J v].toArray 95));generalize((w.alloc (j2 (j3 E) 90)).alloc (j2 [X .u8 c.toNat,O g,U k (Z d) i,X J j,X .u8 u.toNat,O m,X .u8 o.toNat,O q,X J v].toArray 95))=w1 at y a z⊢;generalize w.heap.size=N at y a⊢;have c0:=a.cell 0;have c1:=a.cell 1;have c2:=a.cell 2;have c3:=a.cell 3;have c4:=a.cell 4;have c5:=a.cell 5;have c6:=a.cell 6;have c7:=a.cell 7;simp at c0 c1 c2 c3 c4 c5 c6 c7;go_wp2_with (first|((with_reducible show wpList _ _ _ ({dst:=_,op:=Op.load 90 _,type:=_,pos:=_,after:=_,guard:=_}::_) _ _);refine jN rfl 90 _ rfl N 0 (by rfl) E _ y.range underlying90 rfl (by rw[Aa W];exact Tryz.zK) ?_)|fail)
   refine(Ha _).mono ?_;rintro _ w2 ⟨rfl,t⟩;have Go:=Ab (y.kept t (by simp));have CC:=a.kept t (by simp);have AT:=Ab (z.trans t);have d0:=CC.cell 0;have d6:=CC.cell 6;have d7:=CC.cell 7;simp at d0 d6 d7;have HC:=Ab CC;clear t y a z Ha CC c0 c1 c2 c3 c4 c5 c6 c7;go_wp2_with (first|((with_reducible show wpList _ _ _ ({dst:=_,op:=Op.load 90 _,type:=_,pos:=_,after:=_,guard:=_}::_) _ _);refine jN rfl 90 _ rfl N 0 (by rfl) E _ Go.range underlying90 rfl (by rw[Aa W];exact Tryz.zK) ?_)|fail)
   refine(HF _).mono ?_;rintro _ w3 ⟨rfl,I⟩;have T:=Ab (AT.trans I);have HO:=(HC.kept I (by simp)).cell 0;simp at HO;clear I AT HF Go HC d0 d6 d7;cases h61:(c==61)with
   |true=>
    rw[h61]at b EK;rw[gY rfl]at b;go_wp2;go_ret;rw[<-Aa b];exact⟨rfl,T⟩
   |false=>
    rw[h61]at b EK;rw[gV (by simp)]at b;cases h35:(c==35)with
    |true=>
     rw[h35]at b CL;rw[gY rfl]at b;go_wp2;go_ret;rw[<-Aa b];exact⟨rfl,T⟩
    |false=>
     rw[h35]at b CL;rw[gV (by simp)]at b;(go_wp2_with fail);refine(HM _).mono ?_;rintro _ w4 ⟨rfl,rfl⟩;go_wp2;go_ret;rw[<-Aa b];exact⟨rfl,T⟩
def VV{cs:mc A6}{k:Nat}(f:k<Z cs)(d:∀j (a:j<Z cs),j<k->B1 cs j cs[j]=Y)(e:JU cs[k]):∀c∈cs.take (k+1),JU c:=by
 intro c b;obtain⟨j,a,rfl⟩:=List.mem_iff_getElem.1 b;simp only[iH]at a;rw[kK];by_cases h:j<k
 .exact(S7 (d j (by omega) h)).2
 .have:j=k:=by omega
  subst this;exact e
structure KW(w0:l9) where
 wk:l9
 kept:Ac [] w0 wk
theorem KW.some(w0:l9):Nonempty (KW w0):=⟨⟨w0,me _ _⟩⟩
def Gh{P:Program}{d:Nat}{Q:Exit->Act->l9->Prop}{a:Act}{w w0:l9}{l:mc Oper}(e:P.follows .mixedOrders=j1)(g:Region.lexB .any (j3 l)=j1)(c:Ac [] w0 w)
  (h:wpQuiet P (j3 l) (λb=>∃n:KW w0,b=n.wk) (λf=>∀b,(∃n:KW w0,b=n.wk)->Q .normal f b) l a):(Code.region d (j3 l) j1).wp P Q a w:=
 wp_region_quiet (C:=λb=>∃n:KW w0,b=n.wk) e g ⟨⟨_,c.drew⟩,rfl⟩ (by simpa using h)
def Calls.zk{P:Program}{f:FuncId}{args:Array lN}{w0:l9}{n:KW w0}{v:lN}
  (h:Calls P f args n.wk λe a=>e=lo v/\Ac [] n.wk a):Calls P f args n.wk λe b=>e=lo v/\∃m:KW w0,b=m.wk:=
 h.mono λ_ a ⟨he,hk⟩=>⟨he,⟨⟨a,n.kept.trans hk⟩,rfl⟩⟩
theorem Y9(pb:Nat)(lv:lN)(cs:mc A6)(w:l9)(hP:AH w pb [lv] 76)(hR:Dw w lv cs)(hF:ak cs):
  Calls prog 45 #[kt (V ⟨pb,0,Y⟩)] w λe w'=>e=lo (.tuple #[X J (Cp cs).1,X J (Cp cs).2])/\Ac [] w w':=by
 obtain⟨ad,cap,rfl⟩:=Al hR.row;obtain⟨R,hRR⟩:∃R,Cp cs=R:=⟨_,rfl⟩;rw[hRR];have HR:lO (Dw w (U ad (Z cs) cap) cs/\ak cs/\Cp cs=R):=⟨hR,hF,hRR⟩;have hlen:=hF.len;clear hR hF hRR;go_enter func45,ntmps45;go_wp2
 go_loopw [4] (λi wr=>∃k:Nat,i=X J k/\k<=Z cs/\lO (∀j (hj:j<Z cs),j<k->B1 cs j cs[j]=Y)/\Ac [] w wr) (λi _=>Z cs-(intOf i).toNat)
 case atStart=>exact⟨0,rfl,ik _,λj hj h=>by omega,me _ _⟩
 case round=>
  obtain⟨k,rfl,hk,HC,hK⟩:=hrel;have hpc:=(hP.kept hK (by simp)).cell 0;simp at hpc;by_cases zY:k<Z cs
  .obtain⟨g,cap',he,hcap,hcellx⟩:=AF HR.out.1.row (λc _=>BQ c) k zY;clear hcellx;simp only[gM]at he;obtain⟨rfl,_,rfl⟩:=he;obtain⟨c0,c1,c2,c3,c4⟩:=TC HR.out.1 hK zY;have hin:=(HR.out.1.kept hK).each cs[k] (gL zY);obtain⟨adh,caph,hhv⟩:=Al hin.args;obtain⟨adb,capb,hbv⟩:=Al hin.body;rw[hhv]at c1;rw[hbv]at c3;obtain⟨c,hc⟩:∃c,cs[k]=c:=⟨_,rfl⟩;rw[hc]at c0 c1 c2 c3 c4 hhv hbv;have HH:lO (cs[k]=c/\c.hv=U adh (Z c.head.args) caph/\c.bv=U adb (Z c.bl) capb):=⟨hc,hhv,hbv⟩;(have hbl:Z c.bl<=1000:=by have:=HR.out.2.1.body cs[k] (gL zY);rw[hc]at this;exact this);(have hhl:Z c.head.args<=1000000:=by have:=HR.out.2.1.head cs[k] (gL zY);rw[hc]at this;exact this);have HIT:lO (∀r,B1 cs k c=V r->R=r):=by
    intro r hr;rw[<-HR.out.2.2];exact Xb zY HC.out (by rw[hc];exact hr)
   clear hin hhv hbv hc;by_cases h1:12<=k\/3<Z c.bl
   .have HRt:lO (R=(3,(c.at_:Int))):=HIT.out _ (by unfold B1;rw[gY h1]);by_cases h12:12<=k
    ·(have h12':(12:Int)<=(k:Int):=by omega);clear h1;go_wp2_with fail
     go_quiet (fail)
     (go_wp2_with fail);go_ret2;rw[HRt.out];exact⟨rfl,(hK.alloc _).drewN _⟩
    ·(have h3:(3:Int)<(Z c.bl:Int):=by omega);clear h1;go_wp2_with fail
     go_quiet (fail)
     (go_wp2_with fail);go_ret2;rw[HRt.out];exact⟨rfl,(hK.alloc _).drewN _⟩
   ·(have hk12:k<12:=by omega);(have hb3:Z c.bl<=3:=by omega);by_cases h2:2<Z c.head.args
    .have HRt:lO (R=(3,(c.at_:Int))):=HIT.out _ (by unfold B1;rw[gV h1,gY h2]);clear h1;go_wp2_with fail
     go_quiet (fail)
     (go_wp2_with fail);go_ret2;rw[HRt.out];exact⟨rfl,(hK.alloc _).drewN _⟩
    ·(have ha2:Z c.head.args<=2:=by omega);have H12:lO (¬(12<=k\/3<Z c.bl)/\¬2<Z c.head.args):=⟨h1,h2⟩;clear h1 h2;(go_wp2_with fail);have hB1:=mf wr [O c.head.name,U adh (Z c.head.args) caph,X J c.head.at_,U adb (Z c.bl) capb,X J c.at_] 82;have hK1:=hK.alloc (j2 [O c.head.name,U adh (Z c.head.args) caph,X J c.head.at_,U adb (Z c.bl) capb,X J c.at_].toArray 82);have hwN:=hK.size;clear hpc c0 c1 c2 c3 c4 hK;generalize wr.alloc (j2 [O c.head.name,U adh (Z c.head.args) caph,X J c.head.at_,U adb (Z c.bl) capb,X J c.at_].toArray 82)=w1 at hB1 hK1⊢;generalize wr.heap.size=N at hB1 hwN⊢;have q0:=hB1.cell 0;have q1:=hB1.cell 1;have q2:=hB1.cell 2;have q3:=hB1.cell 3;have q4:=hB1.cell 4;simp at q0 q1 q2 q3 q4
     go_loop [6] (λi=>∃m:Nat,i=X J m/\m<=Z c.bl/\lO ((c.bl.take m).any BC=K)) (λi=>Z c.bl-(intOf i).toNat)
     case atStart=>exact⟨0,rfl,ik _,by show _=_;simp⟩
     case round=>
      obtain⟨m,rfl,hm,HM⟩:=hrel;by_cases hlm:m<Z c.bl
      .have hin:=(HR.out.1.kept hK1).each cs[k] (gL zY);rw[HH.out.1]at hin;obtain⟨gb,capb',heb,d0,d1,d2,d3,d4,d5,d6,d7,d8⟩:=TD hin hlm;rw[HH.out.2.2]at heb;simp only[gM]at heb;obtain⟨rfl,_,rfl⟩:=heb;obtain⟨ada,capa,hav⟩:=Al (hin.lits c.bl[m] (gL hlm));rw[hav]at d2;clear d0 d1 d3 d4 d5 d6 d7 d8 hin hav;by_cases hma:2<c.bl[m].1.A.args.length
       .have HRt:lO (R=(3,(c.at_:Int))):=HIT.out _ (by unfold B1;rw[gV H12.out.1,gV H12.out.2,gY (Jv _ _ m hlm (by simpa[BC] using hma))]);go_wp2_with fail
        go_quiet (fail)
        (go_wp2_with fail);go_ret2;rw[HRt.out];exact⟨rfl,hK1.drewN _⟩
       ·(have HN:lO ((c.bl.take (m+1)).any BC=K):=by show _=_;rw[CT _ _ m hlm HM.out];simpa[BC] using hma);go_wp2_with fail
        go_round
        case rel=>exact⟨m+1,by go_num,by omega,HN⟩
        case measure=>simp[intOf];omega
      ·(have HM2:lO (c.bl.any BC=K):=by have h:=HM.out;rwa [gR (by omega)]at h);clear HM;have hpc:=(hP.kept hK1 (by simp)).cell 0;simp at hpc;(have hcap':(k:Int)+1<=(cap:Int):=by omega);have HSm:lO (∀c'∈cs.take (k+1),JU c'):=by
        refine VV zY HC.out ?_;rw[HH.out.1];refine⟨hb3,ha2,λp hp=>?_⟩;cases hmm:BC p with
        |false=>simpa[BC] using hmm
        |true=>(have:c.bl.any BC=j1:=by rw[jg];exact⟨p,hp,hmm⟩);rw[HM2.out]at this;cases this
       (go_wp2_with fail);clear hlm hm;have hBq:=mf w1 [U (V ⟨g,0,Y⟩) (k+1) cap] 76;have hK2:=hK1.alloc (j2 [U (V ⟨g,0,Y⟩) (k+1) cap].toArray 76);have hB2:=hB1.alloc (j2 [U (V ⟨g,0,Y⟩) (k+1) cap].toArray 76);have hNlt:=hB1.lt;clear hpc q0 q1 q2 q3 q4 hB1 hK1;generalize w1.alloc (j2 [U (V ⟨g,0,Y⟩) (k+1) cap].toArray 76)=w2 at hBq hK2 hB2⊢;generalize w1.heap.size=Nq at hBq hNlt⊢;(have htl:Z (cs.take (k+1))=k+1:=by simp;omega);have hRk:=(HR.out.1.kept hK2).take (k+1) (by omega);refine(ZU Nq _ (cs.take (k+1)) _ hBq hRk (by omega) HSm).mono ?_;rintro e w3 ⟨v3,rfl,hown3,hK3⟩;obtain⟨ad3,cap3,rfl⟩:=Al hown3;have hK3':=hK2.trans hK3;have hB3:=hB2.kept hK3 (by simp);have hBq3:=hBq.kept hK3 (by simp);have hRk3:=hRk.kept hK3;obtain⟨nn,hnn⟩:∃nn,Z (Gv (cs.take (k+1)))=nn:=⟨_,rfl⟩;have HNN:=Ab hnn;rw[hnn];clear hown3 hK3 hB2 hBq hRk hK2 hnn;have q4:=hB3.cell 4;simp at q4;by_cases hn6:6<nn
       .have HRt:lO (R=(3,(c.at_:Int))):=HIT.out _ (by unfold B1;rw[gV H12.out.1,gV H12.out.2,gV (by rw[HM2.out];exact jJ),gY (Or.inl (by rw[Aa HNN];exact hn6))]);go_wp2_with fail
        go_quiet (fail)
        (go_wp2_with fail);go_ret2;rw[HRt.out];exact⟨rfl,hK3'.drewN _⟩
       ·(go_wp2_with fail);refine(W9 Nq _ (cs.take (k+1)) _ hBq3 hRk3 (by omega) HSm (λc' hc'=>HR.out.2.1.full c' (jr hc'))).mono ?_;rintro e w4 ⟨v4,rfl,hown4,hK4⟩;obtain⟨ad4,cap4,rfl⟩:=Al hown4;have hK4':=hK3'.trans hK4;have hB4:=hB3.kept hK4 (by simp);obtain⟨nt,hnt⟩:∃nt,Z (Dy (cs.take (k+1)))=nt:=⟨_,rfl⟩;have HNT:=Ab hnt;rw[hnt];clear hown4 hK4 hB3 hBq3 hRk3 hK3' hnt q4;have q0:=hB4.cell 0;have q1:=hB4.cell 1;have q2:=hB4.cell 2;have q4:=hB4.cell 4;simp at q0 q1 q2 q4;by_cases ht6:6<nt
        .have HRt:lO (R=(3,(c.at_:Int))):=HIT.out _ (by unfold B1;rw[gV H12.out.1,gV H12.out.2,gV (by rw[HM2.out];exact jJ),gY (ly (by rw[Aa HNT];exact ht6))]);go_wp2_with fail
         go_quiet (fail)
         (go_wp2_with fail);go_ret2;rw[HRt.out];exact⟨rfl,hK4'.drewN _⟩
        .have H34:lO (¬(6<Z (Gv (cs.take (k+1)))\/6<Z (Dy (cs.take (k+1))))):=by
          show¬_;rw[Aa HNN,Aa HNT];omega
         obtain⟨ar,har⟩:∃ar,Dv cs c.head.name=ar:=⟨_,rfl⟩;have HAr:=Ab har;have hP4:=(hP.kept hK4' (by simp)).drew;have hK4d:=hK4'.drew;have HF4:lO (Z cs<=1000000/\(∀c∈cs,Z c.bl<=1000000)/\(∀c∈cs,∀p∈c.bl,Z p.1.A.args<=1000000)):=⟨by omega,λc' hc'=>by have:=HR.out.2.1.body c' hc';omega,HR.out.2.1.lits⟩;clear har;go_wp2_with fail
         go_region_held3 (λw'=>lP w' ⟨N,0,Y⟩=V (O c.head.name)/\lP w' ⟨N,1,Y⟩=V (U adh (Z c.head.args) caph)) (go_keep) (first|(go_at_call 23;refine(Nf pb _ cs c.head.name _ (by exact hP4) (by exact HR.out.1.kept hK4d) HF4.out.1 HF4.out.2.1).mono ?_;rintro e w5 ⟨rfl,hK5⟩;rw[Aa HAr];have hB5:=hB4.drew.kept hK5 (by simp);have r0:=hB5.cell 0;have r1:=hB5.cell 1;simp at r0 r1))
         have hK5':=hK4d.trans hK5;clear hP4 hK4d hK4' hB4 q0 q1 q2 q4 hK5 r0 r1;have q2:=hB5.cell 2;have q3:=hB5.cell 3;simp at q2 q3;by_cases hae:ar=(Z c.head.args:Int)
         ·(have hne:(ar !=(Z c.head.args:Int))=K:=by simp[hae]);(have HAE:lO (¬Dv cs c.head.name≠(Z c.head.args:Int)):=by show¬_;rw[Aa HAr];simp[hae]);clear hae;go_wp2_with fail
          go_loopw [8] (λi wq=>∃m:Nat,i=X J m/\m<=Z c.bl/\lO ((c.bl.take m).any (BI cs)=K)/\Ac [] w wq/\AH wq N [O c.head.name,U adh (Z c.head.args) caph,X J c.head.at_,U adb (Z c.bl) capb,X J c.at_] 82) (λi _=>Z c.bl-(intOf i).toNat)
          case atStart=>exact⟨0,rfl,ik _,by show _=_;simp,hK5',hB5⟩
          case round=>
           clear q2 q3 hB5 hK5' hne;obtain⟨m,rfl,hm,HM,hKq,hBq⟩:=hrel;have hNq:=hBq.lt;have q0:=hBq.cell 0;have q1:=hBq.cell 1;have q2:=hBq.cell 2;have q3:=hBq.cell 3;simp at q0 q1 q2 q3;have hin:=(HR.out.1.kept hKq).each cs[k] (gL zY);rw[HH.out.1]at hin;by_cases hlm:m<Z c.bl
           .obtain⟨gb,capb',heb,d0,d1,d2,d3,d4,d5,d6,d7,d8⟩:=TD hin hlm;rw[HH.out.2.2]at heb;simp only[gM]at heb;obtain⟨rfl,_,rfl⟩:=heb;obtain⟨ada,capa,hav⟩:=Al (hin.lits c.bl[m] (gL hlm));rw[hav]at d2;clear hin hav;obtain⟨pp,hpp⟩:∃pp,c.bl[m]=pp:=⟨_,rfl⟩;rw[hpp]at d0 d1 d2 d3 d4 d5 d6 d7 d8;have HY:lO (BI cs pp=j1->R=(4,(pp.1.A.at_:Int))):=by
             intro ho;refine HIT.out _ ?_;unfold B1;rw[gV H12.out.1,gV H12.out.2,gV (by rw[HM2.out];exact jJ),gV H34.out,gV HAE.out,FY _ _ m hlm HM.out (by rw[hpp];exact ho),hpp]
            have HN:lO (BI cs pp=K->(c.bl.take (m+1)).any (BI cs)=K):=by
             intro ho;rw[CT _ _ m hlm HM.out,hpp];exact ho
            clear hpp;(go_wp2_with fail);clear d0 d1 d2 d3 d4 d5 d6 d7 d8 q0 q1 q2 q3;have hBx:=mf wr [X .u8 pp.1.kind.toNat,O pp.1.A.name,U ada (Z pp.1.A.args) capa,X J pp.1.A.at_,X .u8 pp.1.L.v.toNat,O pp.1.L.s,X .u8 pp.1.R.v.toNat,O pp.1.R.s,X J pp.1.at_] 95;have hBn:=hBq.alloc (j2 [X .u8 pp.1.kind.toNat,O pp.1.A.name,U ada (Z pp.1.A.args) capa,X J pp.1.A.at_,X .u8 pp.1.L.v.toNat,O pp.1.L.s,X .u8 pp.1.R.v.toNat,O pp.1.R.s,X J pp.1.at_].toArray 95);have hKx:=hKq.alloc (j2 [X .u8 pp.1.kind.toNat,O pp.1.A.name,U ada (Z pp.1.A.args) capa,X J pp.1.A.at_,X .u8 pp.1.L.v.toNat,O pp.1.L.s,X .u8 pp.1.R.v.toNat,O pp.1.R.s,X J pp.1.at_].toArray 95);clear hBq hKq;generalize wr.alloc (j2 [X .u8 pp.1.kind.toNat,O pp.1.A.name,U ada (Z pp.1.A.args) capa,X J pp.1.A.at_,X .u8 pp.1.L.v.toNat,O pp.1.L.s,X .u8 pp.1.R.v.toNat,O pp.1.R.s,X J pp.1.at_].toArray 95)=w6 at hBx hBn hKx⊢;generalize wr.heap.size=Nx at hBx hNq⊢;have x0:=hBx.cell 0;have x1:=hBx.cell 1;have x2:=hBx.cell 2;have x3:=hBx.cell 3;simp at x0 x1 x2 x3;obtain⟨yB,har2⟩:∃yB,Dv cs pp.1.A.name=yB:=⟨_,rfl⟩;have HA2:=Ab har2;have hP6:=(hP.kept hKx (by simp)).drew;have hK6d:=hKx.drew;rcases E2 pp with⟨k1,k3⟩|⟨k1,k2,k3⟩|⟨k1,k2,k3⟩
            ·(have y0:∀n:KW w6,lP n.wk ⟨Nx,0,Y⟩=V (X .u8 pp.1.kind.toNat):=λn=>(hBx.kept n.kept (by simp)).cell 0);(have y1:∀n:KW w6,lP n.wk ⟨Nx,1,Y⟩=V (O pp.1.A.name):=λn=>(hBx.kept n.kept (by simp)).cell 1);(have y2:∀n:KW w6,lP n.wk ⟨Nx,2,Y⟩=V (U ada (Z pp.1.A.args) capa):=λn=>(hBx.kept n.kept (by simp)).cell 2);have ACALL:lO (∀n:KW w6,Calls prog 23 #[kt (V ⟨pb,0,Y⟩),O pp.1.A.name] n.wk λe w''=>e=lo (X J yB)/\∃m:KW w6,w''=m.wk):=by
              intro n;have h:=Nf pb _ cs pp.1.A.name n.wk (hP.kept (hKx.trans n.kept) (by simp)) (HR.out.1.kept (hKx.trans n.kept)) HF4.out.1 HF4.out.2.1;rw[Aa HA2]at h;exact Calls.zk h
             clear x0 x1 x2;have hsome:=KW.some w6;refine Gh (w0:=w6) (by kernel_rfl) (by kernel_rfl) (me _ _) ?_
             repeat (go_big_quiet_step ((go_at_call 23;exact ACALL _)))
             refine wpQuiet_nil ?_;intro _ hw';obtain⟨⟨w7,hK7⟩,hw7⟩:=hw';subst hw7
             try simp only
             clear y0 y1 y2 ACALL;have hK7':=hKx.trans hK7;have hBn7:=hBn.kept hK7 (by simp);have x3':=(hBx.kept hK7 (by simp)).cell 3;simp at x3';by_cases hae:yB=(Z pp.1.A.args:Int)
             ·(have hne2:(yB !=(Z pp.1.A.args:Int))=K:=by simp[hae]);have HN':=Ab (HN.out (by simp only[BI,k3,Aa HA2,hne2,ks]));clear HY HN k3 har2 hP6 hK6d x3 hBx hBn hKx hK7 hae;go_wp2_with fail
              go_roundw
              case rel=>exact⟨m+1,by go_num,by omega,HN',hK7',hBn7⟩
              case measure=>simp[intOf];omega
             ·(have hne2:(yB !=(Z pp.1.A.args:Int))=j1:=by simp[hae]);have HRt:lO (R=(4,(pp.1.A.at_:Int))):=HY.out (by simp only[BI,k3,Aa HA2,hne2,kf]);clear HY HN k3 har2 hP6 hK6d x3 hBx hBn hKx hK7 hae;go_wp2_with fail
              go_quiet (fail)
              (go_wp2_with fail);go_ret2;rw[HRt.out];exact⟨rfl,hK7'.drewN _⟩
            ·(have y0:∀n:KW w6,lP n.wk ⟨Nx,0,Y⟩=V (X .u8 pp.1.kind.toNat):=λn=>(hBx.kept n.kept (by simp)).cell 0);(have y1:∀n:KW w6,lP n.wk ⟨Nx,1,Y⟩=V (O pp.1.A.name):=λn=>(hBx.kept n.kept (by simp)).cell 1);(have y2:∀n:KW w6,lP n.wk ⟨Nx,2,Y⟩=V (U ada (Z pp.1.A.args) capa):=λn=>(hBx.kept n.kept (by simp)).cell 2);have ACALL:lO (∀n:KW w6,Calls prog 23 #[kt (V ⟨pb,0,Y⟩),O pp.1.A.name] n.wk λe w''=>e=lo (X J yB)/\∃m:KW w6,w''=m.wk):=by
              intro n;have h:=Nf pb _ cs pp.1.A.name n.wk (hP.kept (hKx.trans n.kept) (by simp)) (HR.out.1.kept (hKx.trans n.kept)) HF4.out.1 HF4.out.2.1;rw[Aa HA2]at h;exact Calls.zk h
             clear x0 x1 x2;have hsome:=KW.some w6;refine Gh (w0:=w6) (by kernel_rfl) (by kernel_rfl) (me _ _) ?_
             repeat (go_big_quiet_step ((go_at_call 23;exact ACALL _)))
             refine wpQuiet_nil ?_;intro _ hw';obtain⟨⟨w7,hK7⟩,hw7⟩:=hw';subst hw7
             try simp only
             clear y0 y1 y2 ACALL;have hK7':=hKx.trans hK7;have hBn7:=hBn.kept hK7 (by simp);have x3':=(hBx.kept hK7 (by simp)).cell 3;simp at x3';by_cases hae:yB=(Z pp.1.A.args:Int)
             ·(have hne2:(yB !=(Z pp.1.A.args:Int))=K:=by simp[hae]);have HN':=Ab (HN.out (by simp only[BI,k3,Aa HA2,hne2,ks]));clear HY HN k3 har2 hP6 hK6d x3 hBx hBn hKx hK7 hae;go_wp2_with fail
              go_roundw
              case rel=>exact⟨m+1,by go_num,by omega,HN',hK7',hBn7⟩
              case measure=>simp[intOf];omega
             ·(have hne2:(yB !=(Z pp.1.A.args:Int))=j1:=by simp[hae]);have HRt:lO (R=(4,(pp.1.A.at_:Int))):=HY.out (by simp only[BI,k3,Aa HA2,hne2,kf]);clear HY HN k3 har2 hP6 hK6d x3 hBx hBn hKx hK7 hae;go_wp2_with fail
              go_quiet (fail)
              (go_wp2_with fail);go_ret2;rw[HRt.out];exact⟨rfl,hK7'.drewN _⟩
            .have HN':=Ab (HN.out (by simp[BI,k3]));clear HY HN k3 har2 hP6 hK6d
             go_quiet (fail)
             go_wp2_with fail
             go_roundw
             case rel=>exact⟨m+1,by go_num,by omega,HN',hKx.drewN _,hBn.drewN _⟩
             case measure=>simp[intOf];omega
           .have HFN:lO (c.bl.find? (BI cs)=Y):=by
             have h:=HM.out;rw[gR (by omega)]at h;show _=_;rw[jK];intro x hx hf;(have:c.bl.any (BI cs)=j1:=by rw[jg];exact⟨x,hx,hf⟩);rw[h]at this;cases this
            have T:=cc c.head c.hv c.bv c.bl _ hin.args hin.body hin.lits (by omega) (λp hp=>by have:=HF4.out.2.2 cs[k] (gL zY) p (by rw[HH.out.1];exact hp);exact this) hhl;rw[HH.out.2.1,HH.out.2.2]at T;simp only[Cg]at T;have HT:=Ab T;obtain⟨sf,hsf⟩:∃sf,D5 c.head c.bl=sf:=⟨_,rfl⟩;have HSF:=Ab hsf;(have hsfb: -1<=sf/\sf<=9223372036854775806->True:=λ_=>trivial);clear hsfb T hin hsf;(go_wp2_with fail);refine HT.mono ?_;rintro e w7 ⟨rfl,hK7⟩;rw[Aa HSF];have hK7':=hKq.trans hK7;clear HT hK7 hKq hBq q0 q1 q2 q3;by_cases hs0:0<=sf
            .have HRt:lO (R=(5,sf)):=HIT.out _ (by unfold B1;rw[gV H12.out.1,gV H12.out.2,gV (by rw[HM2.out];exact jJ),gV H34.out,gV HAE.out,HFN.out];simp only;rw[Aa HSF,gY hs0]);(go_wp2_with fail);go_ret2;rw[HRt.out];exact⟨rfl,hK7'⟩
            .have HCn:lO (∀j (hj:j<Z cs),j<k+1->B1 cs j cs[j]=Y):=by
              intro j hj hjk;by_cases hjk':j<k
              .exact HC.out j hj hjk'
              ·(have:j=k:=by omega);subst this;rw[HH.out.1];unfold B1;rw[gV H12.out.1,gV H12.out.2,gV (by rw[HM2.out];exact jJ),gV H34.out,gV HAE.out,HFN.out];simp only;rw[Aa HSF,gV hs0]
             go_wp2_with fail
             go_roundw
             case rel=>exact⟨k+1,by go_num,by omega,HCn,hK7'⟩
             case measure=>simp[intOf];omega
         ·(have hne:(ar !=(Z c.head.args:Int))=j1:=by simp[hae]);have HRt:lO (R=(4,(c.head.at_:Int))):=HIT.out _ (by unfold B1;rw[gV H12.out.1,gV H12.out.2,gV (by rw[HM2.out];exact jJ),gV H34.out,gY (by rw[Aa HAr];exact hae)]);clear hae;go_wp2_with fail
          go_quiet (fail)
          (go_wp2_with fail);go_ret2;rw[HRt.out];exact⟨rfl,hK5'.drewN _⟩
  .have HRn:lO (R=match cs.findSome? (Dk cs)with|some r=>r|none=>(0,0)):=by
    rw[<-HR.out.2.2];exact Ue (λj hj=>HC.out j hj (by omega))
   have HF5:lO (Z cs<=1000000/\(∀c∈cs,Z c.bl<=1000000)/\Z (DB cs)<=900000):=⟨by omega,λc' hc'=>by have:=HR.out.2.1.body c' hc';omega,HR.out.2.1.atoms⟩;clear HC;(go_wp2_with fail);clear hpc
   go_loopw [11] (λi wr=>∃q:Nat,i=X J q/\q<=Z cs/\lO ((cs.take q).findSome? (Dk cs)=Y)/\Ac [] w wr) (λi _=>Z cs-(intOf i).toNat)
   case atStart=>exact⟨0,rfl,ik _,by show _=_;simp,hK⟩
   case round=>
    clear hK;obtain⟨q,rfl,hq,HQ,hK⟩:=hrel;have hpc:=(hP.kept hK (by simp)).cell 0;simp at hpc;by_cases hlq:q<Z cs
    .obtain⟨g,cap',he,hcap,hcellx⟩:=AF HR.out.1.row (λc _=>BQ c) q hlq;clear hcellx;simp only[gM]at he;obtain⟨rfl,_,rfl⟩:=he;have hin0:=HR.out.1.each cs[q] (gL hlq);obtain⟨adb,capb,hbv⟩:=Al hin0.body;obtain⟨c,hc⟩:∃c,cs[q]=c:=⟨_,rfl⟩;rw[hc]at hbv;have HH:lO (cs[q]=c/\c.bv=U adb (Z c.bl) capb):=⟨hc,hbv⟩;(have hbl:Z c.bl<=1000:=by have:=HR.out.2.1.body cs[q] (gL hlq);rw[hc]at this;exact this);clear hin0 hbv hc;(go_wp2_with fail);clear hpc
     go_loopw [12] (λi wq=>∃m:Nat,i=X J m/\m<=Z c.bl/\lO ((c.bl.take m).any (EE cs c)=K)/\Ac [] w wq) (λi _=>Z c.bl-(intOf i).toNat)
     case atStart=>exact⟨0,rfl,ik _,by show _=_;simp,hK⟩
     case round=>
      clear hK;obtain⟨m,rfl,hm,HM,hKq⟩:=hrel;have hpc:=(hP.kept hKq (by simp)).cell 0;simp at hpc;obtain⟨c0,_,_,c3,_⟩:=TC HR.out.1 hKq hlq;rw[HH.out.1]at c0 c3;rw[HH.out.2]at c3;have hin:=(HR.out.1.kept hKq).each cs[q] (gL hlq);rw[HH.out.1]at hin;by_cases hlm:m<Z c.bl
      .obtain⟨gb,capb',heb,d0,d1,d2,d3,d4,d5,d6,d7,d8⟩:=TD hin hlm;rw[HH.out.2]at heb;simp only[gM]at heb;obtain⟨rfl,_,rfl⟩:=heb;obtain⟨ada,capa,hav⟩:=Al (hin.lits c.bl[m] (gL hlm));rw[hav]at d2;clear hin hav;obtain⟨pp,hpp⟩:∃pp,c.bl[m]=pp:=⟨_,rfl⟩;rw[hpp]at d0 d1 d2 d3 d4 d5 d6 d7 d8;have HY:lO (EE cs c pp=j1->R=(6,(pp.1.at_:Int))):=by
        intro ho;have h1:Dk cs cs[q]=V (6,(pp.1.at_:Int)):=by
         unfold Dk;rw[HH.out.1,FY _ _ m hlm HM.out (by rw[hpp];exact ho),hpp];rfl
        rw[HRn.out,GF _ _ q hlq HQ.out h1]
       have HN:lO (EE cs c pp=K->(c.bl.take (m+1)).any (EE cs c)=K):=by
        intro ho;rw[CT _ _ m hlm HM.out,hpp];exact ho
       clear hpp;have e33:((pp.1.kind.toNat:Int)==33)=(pp.1.kind==33):=CP _ 33;cases hkd:(pp.1.kind==33)with
       |false=>
        rw[hkd]at e33;have HN':=Ab (HN.out (by simp[EE,hkd]));clear HY HN hkd;go_wp2_with fail
        go_roundw
        case rel=>exact⟨m+1,by go_num,by omega,HN',hKq.alloc _⟩
        case measure=>simp[intOf];omega
       |true=>
        rw[hkd]at e33;(go_wp2_with fail);clear d0 d1 d2 d3 d4 d5 d6 d7 d8 hpc c0 c3 e33;have hBx:=mf wr [X .u8 pp.1.kind.toNat,O pp.1.A.name,U ada (Z pp.1.A.args) capa,X J pp.1.A.at_,X .u8 pp.1.L.v.toNat,O pp.1.L.s,X .u8 pp.1.R.v.toNat,O pp.1.R.s,X J pp.1.at_] 95;have hKx:=hKq.alloc (j2 [X .u8 pp.1.kind.toNat,O pp.1.A.name,U ada (Z pp.1.A.args) capa,X J pp.1.A.at_,X .u8 pp.1.L.v.toNat,O pp.1.L.s,X .u8 pp.1.R.v.toNat,O pp.1.R.s,X J pp.1.at_].toArray 95);clear hKq;generalize wr.alloc (j2 [X .u8 pp.1.kind.toNat,O pp.1.A.name,U ada (Z pp.1.A.args) capa,X J pp.1.A.at_,X .u8 pp.1.L.v.toNat,O pp.1.L.s,X .u8 pp.1.R.v.toNat,O pp.1.R.s,X J pp.1.at_].toArray 95)=w6 at hBx hKx⊢;generalize wr.heap.size=Nx at hBx⊢;(have y1:∀n:KW w6,lP n.wk ⟨Nx,1,Y⟩=V (O pp.1.A.name):=λn=>(hBx.kept n.kept (by simp)).cell 1);(have y2:∀n:KW w6,lP n.wk ⟨pb,0,Y⟩=V (U (V ⟨g,0,Y⟩) (Z cs) cap):=λn=>(hP.kept (hKx.trans n.kept) (by simp)).cell 0);(have y3:∀n:KW w6,lP n.wk ⟨g,q*5,Y⟩=V (O c.head.name):=λn=>by have h:=(TC HR.out.1 (hKx.trans n.kept) hlq).1;rw[HH.out.1]at h;exact h);obtain⟨rb,hrb⟩:∃rb,GW cs pp.1.A.name c.head.name=rb:=⟨_,rfl⟩;have HRB:=Ab hrb;have ACALL:lO (∀n:KW w6,Calls prog 85 #[kt (V ⟨pb,0,Y⟩),O pp.1.A.name,O c.head.name] n.wk λe w''=>e=lo (lT rb)/\∃m:KW w6,w''=m.wk):=by
         intro n;have h:=TW pb _ cs pp.1.A.name c.head.name n.wk (hP.kept (hKx.trans n.kept) (by simp)) (HR.out.1.kept (hKx.trans n.kept)) HF5.out.1 HF5.out.2.1 HF5.out.2.2;rw[Aa HRB]at h;exact Calls.zk h
        (have hlq':(q:Int)<(Z cs:Int):=by omega);clear hrb;have hsome:=KW.some w6;refine Gh (w0:=w6) (by kernel_rfl) (by kernel_rfl) (me _ _) ?_
        repeat (go_big_quiet_step ((go_at_call 85;exact ACALL _)))
        refine wpQuiet_nil ?_;intro _ hw';obtain⟨⟨w7,hK7⟩,hw7⟩:=hw';subst hw7
        try simp only
        clear y1 y2 y3 ACALL;have hK7':=hKx.trans hK7;have x8:=(hBx.kept hK7 (by simp)).cell 8;simp at x8;cases rb with
        |true=>
         have HRt:lO (R=(6,(pp.1.at_:Int))):=HY.out (by simp only[EE,hkd,Aa HRB,kf]);clear HY HN hkd hBx hKx hK7;go_wp2_with fail
         go_quiet (fail)
         (go_wp2_with fail);go_ret2;rw[HRt.out];exact⟨rfl,hK7'.drewN _⟩
        |false=>
         have HN':=Ab (HN.out (by simp only[EE,hkd,Aa HRB,ks]));clear HY HN hkd hBx hKx hK7;go_wp2_with fail
         go_roundw
         case rel=>exact⟨m+1,by go_num,by omega,HN',hK7'⟩
         case measure=>simp[intOf];omega
      .have HZ:lO ((cs.take (q+1)).findSome? (Dk cs)=Y):=by
        have h:=HM.out;rw[gR (by omega)]at h;show _=_;rw[FI _ _ q hlq HQ.out,HH.out.1];unfold Dk;have:c.bl.find? (EE cs c)=Y:=by
         rw[jK];intro x hx hf;(have:c.bl.any (EE cs c)=j1:=by rw[jg];exact⟨x,hx,hf⟩);rw[h]at this;cases this
        rw[this];rfl
       go_wp2_with fail
       go_roundw
       case rel=>exact⟨q+1,by go_num,by omega,HZ,hKq⟩
       case measure=>simp[intOf];omega
    .have HE:lO (R=(0,0)):=by
      have h:=HQ.out;rw[gR (by omega)]at h;show _=_;rw[HRn.out,h]
     (go_wp2_with fail);go_ret2;rw[HE.out];exact⟨rfl,hK⟩
def Ap(s:zA)(at_:Nat):mc Ck×Nat×Bool:=
 if h:at_<s.size then
  if h2:(An s at_).2.2=K/\at_<AM s (An s at_).2.1 (An s at_).2.2 then
   ((An s at_).1::(Ap s (AM s (An s at_).2.1 (An s at_).2.2)).1,(Ap s (AM s (An s at_).2.1 (An s at_).2.2)).2)
  else([(An s at_).1],AM s (An s at_).2.1 (An s at_).2.2,(An s at_).2.2)
 else([],at_,K)
def EQ(s:zA)(a:Nat)(bd:Bool):mc Ck×Nat×Bool:=if bd then([],a,j1)else Ap s a
def Lb{s:zA}{a e:Nat}{c:Ck}{b:Bool}(g:a<s.size)(d:An s a=(c,e,b)):
  Ap s a=(c::(EQ s (AM s e b) b).1,(EQ s (AM s e b) b).2):=by
 conv=>lhs;rw[Ap]
 rw[dif_pos g];cases b with
 |true=>rw[dif_neg (by rw[d];simp)];rw[d];rfl
 |false=>
  have f:=Pq (s:=s) (at_:=a) (by rw[d]);rw[d]at f;have h:=JA s e K;rw[dif_pos (by rw[d];exact⟨rfl,by simp only at f⊢;omega⟩),d];rfl
def L3{s:zA}{a:Nat}(b:¬a<s.size):Ap s a=([],a,K):=by
 rw[Ap,dif_neg b]
def TT(s:zA)(t:AE):Prop:=t.v=0->0<t.s.size/\t.s.size<=s.size
def IZ(s:zA)(i j:Nat)(h:j<=s.size):(s.extract i j).size=j-i:=by
 rw[iW,kD h]
def VQ{s:zA}{at_:Nat}(h:(AY s at_ K).2.2=K)(d:at_<=s.size):0<(AY s at_ K).1.size/\(AY s at_ K).1.size<=s.size:=by
 have c:=Bp s at_ d;have a:=Ci Az s _ c;have e:=B7 Az s (Ae s at_);unfold AY at h⊢;simp only[gO,if_false]at h⊢;split at h
 .cases h
 .rename_i b;simp only[b,if_false];rw[IZ _ _ _ a];omega
def Jr{s:zA}{at_:Nat}(h:(AI s at_ K).2.2=K)(j:at_<=s.size):TT s (AI s at_ K).1:=by
 have e:=Bp s at_ j;intro a;unfold AI at h a⊢;simp only[gO,if_false]at h a⊢;split at h
 .rename_i d;simp only[d,dite_true]at a⊢;split at h
  .rename_i b;simp only[b,if_true]at a;rw[a]at b;exact absurd b (by decide)
  .rename_i b;simp only[b,if_false,gO]at a⊢;split at h
   .rename_i c;simp only[c,if_true];exact VQ h e
   .rename_i c;simp only[c,if_false,gO];split at h
    .cases h
    .rename_i i;simp only[i,if_false];have f:=Ci Ao s _ e;(have g:Ao s[Ae s at_]=j1:=by simpa using c);have l:=B5 Ao s _ d g;have k:=B7 Ao s (Ae s at_+1);show 0<(s.extract (Ae s at_) (AC Ao s (Ae s at_))).size/\_;rw[IZ _ _ _ f];omega
 .cases h
def Wb(s:zA)(at_:Nat)(c:at_<=s.size):Z (Ch s at_).1<=s.size-at_+1/\((Ch s at_).2.2=K->∀t∈(Ch s at_).1,TT s t):=by
 fun_induction Ch s at_ with
 |case1 at_ hc _ _ ih=>
  have e:=DA s _ (AI s at_ K).2.2 44 (Fo s at_ K c);obtain⟨g,f⟩:=ih e;have h:=hc.2.1;refine⟨by simp only[gW];omega,λb t a=>?_⟩;rcases gP.1 a with rfl|a
  .have d:(AI s at_ K).2.2=K:=by
    have:=hc.1;simp only[iq,jU]at this;exact this.1
   exact Jr d c
  .exact f b t a
 |case2 at_ hc=>
  refine⟨by simp,λb t a=>?_⟩;simp only[gN]at a;subst a;exact Jr b c
def P3(s:zA)(p:Nat×Bool)(a:p.1<=s.size):Z (D2 s p).1<=s.size+1/\((D2 s p).2.2=K->∀t∈(D2 s p).1,TT s t):=by
 unfold D2;split
 .exact⟨by simp,λh=>by cases h⟩
 .have h:=Wb s p.1 a;exact⟨by omega,h.2⟩
def dd(s:zA)(a:Df):Prop:=∀t∈a.args,TT s t
def Nr(s:zA)(at_:Nat)(b:Bool)(a:at_<=s.size):Z (AS s at_ b).1.args<=s.size+1:=by
 unfold AS;exact(P3 s _ (DA _ _ _ _ (He _ _ _ (Gm _ _ _ a)))).1
def RF{s:zA}{a:Nat}{b:Bool}{c:UInt8}(h:(Bn s a b c).2=K):b=K:=by
 unfold Bn at h;cases b<;>simp_all
def Lr{s:zA}{at_:Nat}{a:Bool}(h:(AS s at_ a).2.2=K)(b:at_<=s.size):dd s (AS s at_ a).1:=by
 unfold AS at h⊢;exact(P3 s _ (DA _ _ _ _ (He _ _ _ (Gm _ _ _ b)))).2 (RF h)
structure ae(s:zA)(x:Bi):Prop where
 atom:dd s x.A
 left:(x.kind==97||x.kind==33)=K->TT s x.L
 right:(x.kind==97||x.kind==33)=K->TT s x.R
def Vf(s:zA)(at_:Nat)(b:at_<=s.size):Z (Da s at_).1.A.args<=s.size+1:=by
 have a:=Bp s at_ b;unfold Da;simp only;split
 .rename_i c;have:=Fl c;exact Nr s _ _ (by omega)
 .split
  .exact Nr s _ _ a
  .unfold Ig;split<;>simp[Gy]
def RM{s:zA}{at_:Nat}(h:(Da s at_).2.2=K)(i:at_<=s.size):ae s (Da s at_).1:=by
 have f:=Bp s at_ i;unfold Da at h⊢;simp only at h⊢;split at h
 .rename_i c;simp only[c,if_true];have:=Fl c;exact⟨Lr h (by omega),λa=>by simp at a,λa=>by simp at a⟩
 .rename_i c;simp only[c,gO,if_false];split at h
  .rename_i d;simp only[d,if_true];exact⟨Lr h f,λa=>by simp at a,λa=>by simp at a⟩
  .rename_i d;simp only[d,gO,if_false];unfold Ig at h⊢;split at h
   .rename_i b;simp only[b,if_true];simp only[iq,jU,jx]at b;have j:AM s (AI s (Ae s at_) K).2.1 (AI s (Ae s at_) K).2.2<s.size:=by
     rcases b.2 with(e|e)|e<;>exact Fl e
    exact⟨λt g=>by simp[Gy]at g,λ_=>Jr b.1 f,λ_=>Jr h (by omega)⟩
   .cases h
def WU(s:zA)(at_:Nat)(b:at_<=s.size):Z (Bl s at_).1<=s.size-at_+1/\(∀x∈(Bl s at_).1,Z x.A.args<=s.size+1)/\((Bl s at_).2.2=K->∀x∈(Bl s at_).1,ae s x):=by
 fun_induction Bl s at_ with
 |case1 at_ hc _ _ ih=>
  have f:=DA s _ (Da s at_).2.2 44 (KT s at_ b);obtain⟨h,g,e⟩:=ih f;have i:=hc.2.1;refine⟨by simp only[gW];omega,λx a=>?_,λc x a=>?_⟩
  .rcases gP.1 a with rfl|a
   .exact Vf s at_ b
   .exact g x a
  .rcases gP.1 a with rfl|a
   .have d:(Da s at_).2.2=K:=by
     have:=hc.1;simp only[iq,jU]at this;exact this.1
    exact RM d b
   .exact e c x a
 |case2 at_ hc=>
  refine⟨by simp,λx a=>?_,λc x a=>?_⟩
  .simp only[gN]at a;subst a;exact Vf s at_ b
  .simp only[gN]at a;subst a;exact RM c b
structure ac(s:zA)(c:Ck):Prop where
 head:dd s c.head
 body:∀x∈c.body,ae s x
structure fw(s:zA)(c:Ck):Prop where
 head:Z c.head.args<=s.size+1
 body:Z c.body<=s.size+1
 lits:∀x∈c.body,Z x.A.args<=s.size+1
def Pm(s:zA)(c:Nat)(a:Bool)(j:c<=s.size):Z (DG s c a).1<=s.size+1/\(∀x∈(DG s c a).1,Z x.A.args<=s.size+1)/\((DG s c a).2.2=K->a=K/\∀x∈(DG s c a).1,ae s x):=by
 unfold DG;split
 .rename_i k;have e:a=K:=by cases a<;>simp_all
  split
  .rename_i b;have i:=Fl b;obtain⟨g,f,d⟩:=WU s (BX s c a 58+1) (by omega);exact⟨by omega,f,λh=>⟨e,d h⟩⟩
  .exact⟨by simp,λx b=>by simp at b,λh=>by cases h⟩
 .exact⟨by simp,λx b=>by simp at b,λh=>⟨h,λx b=>by simp at b⟩⟩
def UI(s:zA)(at_:Nat)(c:at_<=s.size):fw s (An s at_).1:=by
 have a:=Bp s at_ c;have b:=Pm s (AS s (Ae s at_) K).2.1 (AS s (Ae s at_) K).2.2 (IC _ _ _ a);unfold An;exact⟨Nr s _ _ a,b.1,b.2.1⟩
def SR{s:zA}{at_:Nat}(h:(An s at_).2.2=K)(c:at_<=s.size):ac s (An s at_).1:=by
 have a:=Bp s at_ c;have d:=Pm s (AS s (Ae s at_) K).2.1 (AS s (Ae s at_) K).2.2 (IC _ _ _ a);unfold An at h⊢;have b:=d.2.2 (RF h);exact⟨Lr b.1 a,b.2⟩
