import Derived.Test.YtoihbhenbmffcaaGreatDoorZAQ
set_option linter.unusedVariables false
set_option linter.unusedSimpArgs false
set_option maxHeartbeats 6400000
namespace Go.Proofs.YtoihbhenbmffcaaGreatDoor
open Go.RowKit
open Go.Proofs.Tryz
theorem CW(e:List cL):(Ah e).length=e.length:=by unfold Ah;simp
theorem SU(e:List cL)(j:Nat)(x:cL):Ah (e.set j x)=(Ah e).set j (.string x):=by unfold Ah;rw[eF]
theorem Hu(e:List cL):∀v∈Ah e,v.oneCell'=true:=λv a=>by
 unfold Ah at a;obtain⟨x,_,rfl⟩:=az.1 a;rfl
structure Qv(w:World)(N:Nat)(E:List Value)(nm:cL)(av:Value)(j:Nat)(ts:List AG)(fn:cL)(fv:Value)(xs:List cL):Prop where
 b0:Aw w N E 90
 b1:Aw w (N+1) [.string nm,av, .int .i64 j] 79
 b2:Aw w (N+1+1) [.string fn,fv] 43
 b3:Aw w (N+1+1+1) (List.replicate 26 (.string ⟨#[]⟩)) 90
 row:w.ownsRow 0 93 2 av ts.length (ts.flatMap Az)
 rof:w.ownsRow 0 9 1 fv xs.length (xs.flatMap Ae)
 low:∀q,av.ownBlock=some q->q<N
 lof:∀q,fv.ownBlock=some q->q<N
theorem Qv.kept{w w':World}{N:Nat}{E:List Value}{nm fn:cL}{c a:Value}{j:Nat}{ts:List AG}{b:List cL}(h:Qv w N E nm c j ts fn a b)(k:Ac [] w w'):Qv w' N E nm c j ts fn a b:=
 ⟨h.b0.kept k (by simp),h.b1.kept k (by simp),h.b2.kept k (by simp),h.b3.kept k (by simp),Ad h.row k (by simp),Ad h.rof k (by simp),h.low,h.lof⟩
theorem Qv.set{w:World}{N:Nat}{E:List Value}{nm fn:cL}{c a:Value}{j:Nat}{ts:List AG}{b:List cL}(h:Qv w N E nm c j ts fn a b)(i:Nat)(u:Value):Qv (w.setCell ⟨N,i,none⟩ u) N (E.set i u) nm c j ts fn a b:=
 ⟨h.b0.set i u,h.b1.set_other _ (show N≠N+1 by omega) _,h.b2.set_other _ (show N≠N+1+1 by omega) _,h.b3.set_other _ (show N≠N+1+1+1 by omega) _,
  Ag h.row (λe=>by have:=h.low _ e;simp at this) _,Ag h.rof (λe=>by have:=h.lof _ e;simp at this) _,h.low,h.lof⟩
theorem Gf{w:World}{b:Nat}(h:Aw w b (List.replicate 26 (.string ⟨#[]⟩)) 90){E:List Value}(a:E.length=26):w.there b 0 E.toArray.size:=by
 have:=h.there;rw[cc]at this;rw[bo,a];exact this
set_option maxRecDepth 100000
theorem T4(e:List cL)(A:CQ)(D:Option Addr)(x:Nat)(p:CM)(w:World)(he:e.length=26)(hA:w.ownsRow 0 93 2 (.slice D A.args.length x) A.args.length (A.args.flatMap Az))(hP:G8 w p)(Nx:A.args.length<=1000)(M6:p.f.args.length<=1000000)(hg:∀t∈A.args,BD t):
  Calls prog 87 #[.agg (Ah e).toArray, .agg (BO A.name (.slice D A.args.length x) A.at_).toArray, .agg (BU p).toArray] w λr w'=>r= .returned (.tuple #[.agg (Ah (Du e A p.f).1).toArray, .bool (Du e A p.f).2])/\Ac [] w w':=by
 obtain⟨d,a,j⟩:=A;obtain⟨⟨m,b⟩,pv⟩:=p;obtain⟨F,y,L0⟩:=Ak hP;simp only at L0;subst L0;simp only at hA Nx hg M6⊢;obtain⟨R,hR⟩:∃R,Du e ⟨d,a,j⟩ ⟨m,b⟩=R:=⟨_,rfl⟩;have HR:Hid ((if(d.toList==m.toList)&&(a.length==b.length)then Cu e a b else(e,false))=R):=hR;rw[hR];have HV:Hid (∀e' t wr,e'.length=26->t∈a->Calls prog 89 #[.agg (Ah e').toArray, .agg (Az t).toArray] wr λr w'=>r= .returned (.string (AU e' t))/\Ac [] wr w'):=λe' t wr U ht=>Je e' t wr U (by rcases hg t ht with h|h;exact Or.inl h.1;exact Or.inr h)
 have RE:=Ab hg;have hc:=Bl e;have hl:(Ah e).length=26:=by rw[CW,he]
 have n:=Ab hl;have HO:Hid (∀v∈Ah e,v.oneCell'=true):=Hu e;have c:Hid (Qv ((((w.alloc (.cells (Ah e).toArray 90)).alloc (.cells [.string d, .slice D a.length x, .int .i64 j].toArray 79)).alloc (.cells [.string m, .slice F b.length y].toArray 43)).alloc (.cells (List.replicate 26 (.string ⟨#[]⟩)).toArray 90)) w.heap.size (Ah e) d (.slice D a.length x) j a m (.slice F b.length y) b):=by
  have b0:=Aw.new w (Ah e) 90;have b1:=Aw.new (w.alloc (.cells (Ah e).toArray 90)) [.string d, .slice D a.length x, .int .i64 j] 79;have b2:=Aw.new ((w.alloc (.cells (Ah e).toArray 90)).alloc (.cells [.string d, .slice D a.length x, .int .i64 j].toArray 79)) [.string m, .slice F b.length y] 43;have b3:=Aw.new (((w.alloc (.cells (Ah e).toArray 90)).alloc (.cells [.string d, .slice D a.length x, .int .i64 j].toArray 79)).alloc (.cells [.string m, .slice F b.length y].toArray 43)) (List.replicate 26 (.string ⟨#[]⟩)) 90;simp only[aP]at b1 b2 b3;have hk:=((((Ac.refl [] w).alloc (.cells (Ah e).toArray 90)).alloc (.cells [.string d, .slice D a.length x, .int .i64 j].toArray 79)).alloc (.cells [.string m, .slice F b.length y].toArray 43)).alloc (.cells (List.replicate 26 (.string ⟨#[]⟩)).toArray 90);exact⟨((b0.alloc _).alloc _).alloc _,(b1.alloc _).alloc _,b2.alloc _,b3,Ad hA hk (by simp),Ad hP hk (by simp),λq hq=>(hA.lt q hq).2,λq hq=>(World.ownsRow.lt hP q hq).2⟩
 have H:=Ab (((((Ac.refl [] w).alloc (.cells (Ah e).toArray 90)).alloc (.cells [.string d, .slice D a.length x, .int .i64 j].toArray 79)).alloc (.cells [.string m, .slice F b.length y].toArray 43)).alloc (.cells (List.replicate 26 (.string ⟨#[]⟩)).toArray 90));simp only[BO,BU];clear hR hA hP hg;obtain⟨E,hE⟩:∃E,Ah e=E:=⟨_,rfl⟩;rw[hE]at hc hl n HO c H⊢;have HU:=Ab hE;clear hE;obtain⟨C,hC⟩:∃C,((d.toList==m.toList)&&(a.length==b.length))=C:=⟨_,rfl⟩;rw[hC]at HR;cases C with
 |false=>
  have J:Hid (Ah R.1=E/\R.2=false):=by rw[<-Aa HR,<-Aa HU];exact⟨rfl,rfl⟩
  have HC:Hid (((d.toList==m.toList)&&(a.length==b.length))=false):=hC;clear hC HR;cases hn:(d.toList==m.toList)with
  |false=>
   (have Mo:(d.toList !=m.toList)=true:=by simp[bne,hn]);clear HC;go_enter func87,ntmps87;apply wp_seq_k;intro KK S;have P:=Ab S;clear S;go_wp2;refine Aa P _ _ ?_;clear P KK;change Code.wp _ _ _ _ ((((w.alloc (.cells E.toArray 90)).alloc (.cells [.string d, .slice D a.length x, .int .i64 j].toArray 79)).alloc (.cells [.string m, .slice F b.length y].toArray 43)).alloc (.cells (List.replicate 26 (.string ⟨#[]⟩)).toArray 90));generalize((((w.alloc (.cells E.toArray 90)).alloc (.cells [.string d, .slice D a.length x, .int .i64 j].toArray 79)).alloc (.cells [.string m, .slice F b.length y].toArray 43)).alloc (.cells (List.replicate 26 (.string ⟨#[]⟩)).toArray 90))=w1 at c H⊢;obtain⟨N,I⟩:∃N,w.heap.size=N:=⟨_,rfl⟩;rw[I]at c⊢;have Y:=Ab I;clear I;have c0:=(Aa c).b1.cell 0;have Z:=(Aa c).b2.cell 0;have M:=(Aa c).b1.cell 1;have O:=(Aa c).b2.cell 1;simp at c0 Z M O;go_wp2_with (first|((with_reducible show wpList _ _ _ ({dst:=_,op:=Op.load 90 _,type:=_,pos:=_,after:=_,guard:=_}::_) _ _);refine cm rfl 90 _ rfl N 0 (by rfl) E _ (Aa c).b0.range underlying90 rfl (by rw[Aa n];exact Tryz.size90) ?_)|((with_reducible show wpList _ _ _ ({dst:=_,op:=Op.store 90 _ _,type:=_,pos:=_,after:=_,guard:=_}::_) _ _);refine cq rfl 90 _ _ rfl (N+1+1+1) 0 E.toArray (by rfl) (by rfl) (Gf (Aa c).b3 (Aa n)) (by rw[bo,Aa n];exact Tryz.size90) (bK (Aa HO)) ?_))
   refine aE (AF rfl (by rfl) ((Aa c).b3.setAll E (by rw[Aa n];rfl)) underlying90 rfl (by rw[Aa n];exact Tryz.size90)) rfl ⟨?_,(Aa H).putCells (Or.inr (by have:=Aa Y;omega)) _ _⟩;rw[(Aa J).1,(Aa J).2];rfl
  |true=>
   (have Mo:(d.toList !=m.toList)=false:=by simp[bne,hn]);have NX:¬a.length=b.length:=by
    have h:=Aa HC;rw[hn]at h;simpa using h
   (have P0:((a.length:Int) !=(b.length:Int))=true:=by simp[bne];omega);(have OH:((a.length:Int)==(b.length:Int))=false:=by rw[bc];omega);clear HC NX;go_enter func87,ntmps87;apply wp_seq_k;intro KK S;have P:=Ab S;clear S;go_wp2;refine Aa P _ _ ?_;clear P KK;change Code.wp _ _ _ _ ((((w.alloc (.cells E.toArray 90)).alloc (.cells [.string d, .slice D a.length x, .int .i64 j].toArray 79)).alloc (.cells [.string m, .slice F b.length y].toArray 43)).alloc (.cells (List.replicate 26 (.string ⟨#[]⟩)).toArray 90));generalize((((w.alloc (.cells E.toArray 90)).alloc (.cells [.string d, .slice D a.length x, .int .i64 j].toArray 79)).alloc (.cells [.string m, .slice F b.length y].toArray 43)).alloc (.cells (List.replicate 26 (.string ⟨#[]⟩)).toArray 90))=w1 at c H⊢;obtain⟨N,I⟩:∃N,w.heap.size=N:=⟨_,rfl⟩;rw[I]at c⊢;have Y:=Ab I;clear I;have c0:=(Aa c).b1.cell 0;have Z:=(Aa c).b2.cell 0;have M:=(Aa c).b1.cell 1;have O:=(Aa c).b2.cell 1;simp at c0 Z M O;go_wp2_with (first|((with_reducible show wpList _ _ _ ({dst:=_,op:=Op.load 90 _,type:=_,pos:=_,after:=_,guard:=_}::_) _ _);refine cm rfl 90 _ rfl N 0 (by rfl) E _ (Aa c).b0.range underlying90 rfl (by rw[Aa n];exact Tryz.size90) ?_)|((with_reducible show wpList _ _ _ ({dst:=_,op:=Op.store 90 _ _,type:=_,pos:=_,after:=_,guard:=_}::_) _ _);refine cq rfl 90 _ _ rfl (N+1+1+1) 0 E.toArray (by rfl) (by rfl) (Gf (Aa c).b3 (Aa n)) (by rw[bo,Aa n];exact Tryz.size90) (bK (Aa HO)) ?_))
   refine aE (AF rfl (by rfl) ((Aa c).b3.setAll E (by rw[Aa n];rfl)) underlying90 rfl (by rw[Aa n];exact Tryz.size90)) rfl ⟨?_,(Aa H).putCells (Or.inr (by have:=Aa Y;omega)) _ _⟩;rw[(Aa J).1,(Aa J).2];rfl
 |true=>
  have AH:(d.toList==m.toList)=true/\a.length=b.length:=by simpa using hC
  have hn:=AH.1;have Mo:(d.toList !=m.toList)=false:=by simp[bne,AH.1]
  have P0:((a.length:Int) !=(b.length:Int))=false:=by simp[AH.2]
  have OH:((a.length:Int)==(b.length:Int))=true:=by simp[AH.2]
  have N4:=Ab AH.2;have H6:Hid (Cu e (a.drop 0) (b.drop 0)=R):=by have h:=Aa HR;rw[if_pos rfl]at h;exact h
  clear hC HR AH;go_enter func87,ntmps87;apply wp_seq_k;intro KK S;have P:=Ab S;clear S;go_wp2;refine Aa P _ _ ?_;clear P KK;change Code.wp _ _ _ _ ((((w.alloc (.cells E.toArray 90)).alloc (.cells [.string d, .slice D a.length x, .int .i64 j].toArray 79)).alloc (.cells [.string m, .slice F b.length y].toArray 43)).alloc (.cells (List.replicate 26 (.string ⟨#[]⟩)).toArray 90));generalize((((w.alloc (.cells E.toArray 90)).alloc (.cells [.string d, .slice D a.length x, .int .i64 j].toArray 79)).alloc (.cells [.string m, .slice F b.length y].toArray 43)).alloc (.cells (List.replicate 26 (.string ⟨#[]⟩)).toArray 90))=w1 at c H⊢;obtain⟨N,I⟩:∃N,w.heap.size=N:=⟨_,rfl⟩;rw[I]at c⊢;have Y:=Ab I;clear I;have c0:=(Aa c).b1.cell 0;have Z:=(Aa c).b2.cell 0;have M:=(Aa c).b1.cell 1;have O:=(Aa c).b2.cell 1;simp at c0 Z M O;clear n HO;go_wp2_with fail
  have NL:(prog.info? 90).map (·.size)=some 26:=Tryz.size90
  go_loopg [8] a.length (λgk i wr=>∃(k:Nat) (B:List cL),i= .int .i64 k/\k<=a.length/\gk=a.length-k/\B.length=26/\Hid (Cu B (a.drop k) (b.drop k)=R)/\Hid (Qv wr N (Ah B) d (.slice D a.length x) j a m (.slice F b.length y) b)/\Hid (Ac [] w wr))
  case atStart=>exact⟨0,e,rfl,by omega,rfl,he,H6,(by rw[Aa HU];exact c),H⟩
  case round=>
   clear H6 c H c0 M Z O hl hc HU;obtain⟨k,B,rfl,hk,LM,FW,HM,K,H⟩:=hrel;have HG:=Ab LM;clear LM he;have M:=(Aa K).b1.cell 1;have O:=(Aa K).b2.cell 1;simp at M O;obtain⟨z,Q⟩:∃z,Ah B=z:=⟨_,rfl⟩;(have B9:z.length=26:=by rw[<-Q,CW,FW]);(have K4:Hid (∀v∈z,v.oneCell'=true):=by show∀v∈z,_;rw[<-Q];exact Hu B);rw[Q]at K;by_cases FC:k<a.length
   ·(have HT:k<b.length:=by have:=Aa N4;omega);obtain⟨g,W0,LB,d0,d1⟩:=KR (Aa K).row k FC;simp only[Z6]at LB;obtain⟨rfl,_,rfl⟩:=LB;obtain⟨L,W3,K1,f0⟩:=Gz (Aa K).rof k HT;simp only[Z6]at K1;obtain⟨rfl,_,rfl⟩:=K1;obtain⟨T,hT⟩:∃T,a[k]=T:=⟨_,rfl⟩;obtain⟨X,hX⟩:∃X,b[k]=X:=⟨_,rfl⟩;(have Ix:Hid (T∈a):=by show _∈_;rw[<-hT];exact Z7 FC);have AT:Hid (Cu B (T::a.drop (k+1)) (X::b.drop (k+1))=R):=by
     have h:=Aa HM;rw[aC FC,aC HT,hT,hX]at h;exact h
    have HS:Hid (∀o,Qv o N z d (.slice (some ⟨g,0,none⟩) a.length x) j a m (.slice (some ⟨L,0,none⟩) b.length y) b->o.rangeAt N 0 z/\o.cell? ⟨N+1,1,none⟩=some (.slice (some ⟨g,0,none⟩) a.length x)/\o.cell? ⟨g,k*2,none⟩=some (.int .u8 T.v.toNat)/\o.cell? ⟨g,k*2+1,none⟩=some (.string T.s)/\o.cell? ⟨N+1+1,1,none⟩=some (.slice (some ⟨L,0,none⟩) b.length y)/\o.cell? ⟨L,k,none⟩=some (.string X)):=by
     intro o W;obtain⟨g',N2,U,q0,q1⟩:=KR W.row k FC;simp only[Z6,ai,aW]at U;obtain⟨⟨rfl,_,_⟩,_,_⟩:=U;obtain⟨g',N2,U,q2⟩:=Gz W.rof k HT;simp only[Z6,ai,aW]at U;obtain⟨⟨rfl,_,_⟩,_,_⟩:=U;rw[hT]at q0 q1;rw[hX]at q2;have x1:=W.b1.cell 1;have x2:=W.b2.cell 1;simp at x1 x2;exact⟨W.b0.range,x1,q0,q1,x2,q2⟩
    rw[hT]at d0 d1;rw[hX]at f0;clear hT hX HM;(have WB:(0:Int)<=(k:Int):=by omega);(have S0:(k:Int)<(a.length:Int):=by omega);(have SJ:(k:Int)<(b.length:Int):=by omega);obtain⟨V,hV⟩:∃V,AU B T=V:=⟨_,rfl⟩;have FL:=Ab (Aa HV B T wr.drew FW (Aa Ix));rw[hV,Q]at FL;have HA:=Ab hV;have HX:=Ab Q;clear hV Q;have hu:=underlying90;(have hi:(prog.info? 90).map (·.size)=some z.length:=by rw[B9];exact NL);have e0:=(Aa K).b0.range;have KS:=Ab ((Aa K).kept (Ac.refl [] wr).drew);simp only[Az]at FL;go_wp2_with fail
    go_region_held3 (λo=>o.rangeAt N 0 z/\o.cell? ⟨N+1,1,none⟩=some (.slice (some ⟨g,0,none⟩) a.length x)/\o.cell? ⟨g,k*2,none⟩=some (.int .u8 T.v.toNat)/\o.cell? ⟨g,k*2+1,none⟩=some (.string T.s)) (first|(refine⟨?_,?_,?_,?_⟩<;>assumption)|go_keep_ranges) ((go_at_call 89;refine(Aa FL).mono ?_;rintro e w3 ⟨rfl,k3⟩;have G:=Ab ((Aa KS).kept k3);have HD:=Ab ((Aa H).drew.trans k3);obtain⟨y0,y1,y2,y3,y4,y5⟩:=Aa HS w3 (Aa G);clear k3))
    rename_i QQ;clear QQ FL KS e0 M O d0 d1 f0;cases hv:QR V with
    |true=>
     have NV:T.v≠0/\65<=T.v.toNat/\T.v.toNat<=90:=by
      (have W:(AU B T).size=0:=by rw[Aa HA];exact(DG V).1 hv);have h:=(Aa RE T (Aa Ix)).unset W;exact⟨h.1,h.2.1,h.2.2.1⟩
     have FA:Hid (Cu (B.set (T.v.toNat-65) X) (a.drop (k+1)) (b.drop (k+1))=R):=by
      have h:=Aa AT;rw[Cu,Aa HA,hv,if_pos rfl]at h;exact h
     have HJ:(V.toList==[])=true:=hv;(have PT:V.toList=[]:=by simpa using HJ);obtain⟨l,K3⟩:∃l,T.v.toNat-65=l:=⟨_,rfl⟩;(have SB:T.v.toNat=l+65:=by omega);(have W2:l<26:=by omega);rw[K3]at FA;(have Os:((T.v.toNat:Nat):Int)=(l:Int)+65:=by omega);rw[Os]at y2;(have S1:(0:Int)<=(l:Int):=by omega);(have SP:(l:Int)<26:=by omega);(have NS:IntKind.u8.wrap (l:Int)=l:=by rw[IntKind.wrap_u8];omega);(have SL:IntKind.u8.wrap ((l:Int)+65-65)=l:=by rw[show(l:Int)+65-65=l by omega];exact NS);have yN:∃u,w3.cell? ⟨N,l,none⟩=some u:=by
      refine⟨z[l]'(by omega),?_⟩;rw[(Aa G).b0.cell,aA (by omega)]
     obtain⟨u0,yN⟩:=yN;have yF:=(Aa G).b0.frozen l;have Ha:Hid (∀o,o=w3->Qv (o.setCell ⟨N,l,none⟩ (.string X)).drew N (Ah (B.set l X)) d (.slice (some ⟨g,0,none⟩) a.length x) j a m (.slice (some ⟨L,0,none⟩) b.length y) b):=by
      rintro o rfl;rw[SU,Aa HX];exact((Aa G).set l _).kept (Ac.refl [] _).drew
     have LE:Hid (Ac [] w (w3.setCell ⟨N,l,none⟩ (.string X)).drew):=((Aa HD).setCell (p:=⟨N,l,none⟩) (Or.inr (by have:=Aa Y;simp;omega)) _).drew;(have Pl:(B.set l X).length=26:=by simp[FW]);(have n1:¬N=N+1:=by omega);(have n2:¬N=N+1+1:=by omega);(have ST:¬N=g:=by have:=(Aa G).low g rfl;omega);(have TX:¬N=L:=by have:=(Aa G).lof L rfl;omega);(have TH:¬N+1=N:=by omega);(have TS:¬N+1+1=N:=by omega);(have TL:¬g=N:=by omega);(have VR:¬L=N:=by omega);have TV:=Ab yN;clear hv NV K3 SB HS AT G HD y0 y3;go_wp2_with fail
     go_region_held3 (λo=>o.cell? ⟨N+1,1,none⟩=some (.slice (some ⟨g,0,none⟩) a.length x)/\o.cell? ⟨g,k*2,none⟩=some (.int .u8 ((l:Int)+65))/\o.cell? ⟨N+1+1,1,none⟩=some (.slice (some ⟨L,0,none⟩) b.length y)/\o.cell? ⟨L,k,none⟩=some (.string X)) (go_keep) (fail)
     rename_i NM;clear NM y1 y2 y4 y5 yN yF;have K6:=Ab (Aa Ha _ rfl);clear Ha;generalize(w3.setCell ⟨N,l,none⟩ (.string X)).drew=w4 at K6 LE⊢;go_wp2
     go_roundg (a.length-(k+1))
     case measure=>have:=Aa HG;omega
     case rel=>exact⟨k+1,B.set l X,by go_num,by omega,rfl,Pl,FA,K6,LE⟩
    |false=>
     have HJ:(V.toList==[])=false:=hv;(have PT:¬V.toList=[]:=by simpa using HJ);cases hx:(V.toList==X.toList)with
     |true=>
      (have MN:(V.toList !=X.toList)=false:=by simp[bne,hx]);have FA:Hid (Cu B (a.drop (k+1)) (b.drop (k+1))=R):=by
       have h:=Aa AT;rw[Cu,Aa HA,hv,if_neg (by simp),hx,if_pos rfl]at h;exact h
      (have Ha:Hid (Qv w3 N (Ah B) d (.slice (some ⟨g,0,none⟩) a.length x) j a m (.slice (some ⟨L,0,none⟩) b.length y) b):=by rw[Aa HX];exact G);clear hv HS AT G y0 y1 y2 y3;go_wp2
      go_roundg (a.length-(k+1))
      case measure=>have:=Aa HG;omega
      case rel=>exact⟨k+1,B,by go_num,by omega,rfl,FW,FA,Ha,HD⟩
     |false=>
      (have MN:(V.toList !=X.toList)=true:=by simp[bne,hx]);have J:Hid (Ah R.1=z/\R.2=false):=by
       have h:=Aa AT;rw[Cu,Aa HA,hv,if_neg (by simp),hx,if_neg (by simp)]at h;rw[<-h,<-Aa HX];exact⟨rfl,rfl⟩
      have n:=Ab B9;clear hv HS AT y0 y1 y2 y3 hi B9;go_wp2_with (first|((with_reducible show wpList _ _ _ ({dst:=_,op:=Op.load 90 _,type:=_,pos:=_,after:=_,guard:=_}::_) _ _);refine cm rfl 90 _ rfl N 0 (by rfl) z _ (Aa G).b0.range underlying90 rfl (by rw[Aa n];exact Tryz.size90) ?_)|((with_reducible show wpList _ _ _ ({dst:=_,op:=Op.store 90 _ _,type:=_,pos:=_,after:=_,guard:=_}::_) _ _);refine cq rfl 90 _ _ rfl (N+1+1+1) 0 z.toArray (by rfl) (by rfl) (Gf (Aa G).b3 (Aa n)) (by rw[bo,Aa n];exact Tryz.size90) (bK (Aa K4)) ?_))
      refine aE (AF rfl (by rfl) ((Aa G).b3.setAll z (by rw[Aa n];rfl)) underlying90 rfl (by rw[Aa n];exact Tryz.size90)) rfl ⟨?_,(Aa HD).putCells (Or.inr (by have:=Aa Y;omega)) _ _⟩;rw[(Aa J).1,(Aa J).2];rfl
   ·have J:Hid (Ah R.1=z/\R.2=true):=by
     have h:=Aa HM;rw[aQ (by omega),Cu]at h;rw[<-h,<-Q];exact⟨rfl,rfl⟩
    have n:=Ab B9;clear B9 Q HM;go_wp2_with (first|((with_reducible show wpList _ _ _ ({dst:=_,op:=Op.load 90 _,type:=_,pos:=_,after:=_,guard:=_}::_) _ _);refine cm rfl 90 _ rfl N 0 (by rfl) z _ (Aa K).b0.range underlying90 rfl (by rw[Aa n];exact Tryz.size90) ?_)|((with_reducible show wpList _ _ _ ({dst:=_,op:=Op.store 90 _ _,type:=_,pos:=_,after:=_,guard:=_}::_) _ _);refine cq rfl 90 _ _ rfl (N+1+1+1) 0 z.toArray (by rfl) (by rfl) (Gf (Aa K).b3 (Aa n)) (by rw[bo,Aa n];exact Tryz.size90) (bK (Aa K4)) ?_))
    refine aE (AF rfl (by rfl) ((Aa K).b3.setAll z (by rw[Aa n];rfl)) underlying90 rfl (by rw[Aa n];exact Tryz.size90)) rfl ⟨?_,(Aa H).putCells (Or.inr (by have:=Aa Y;omega)) _ _⟩;rw[(Aa J).1,(Aa J).2];rfl
def Mx(t:AG):Prop:=t.v=0\/(65<=t.v.toNat/\t.v.toNat<=90)
structure QV(e:List cL)(x:By):Prop where
 atom:(x.kind==97||x.kind==33)=true->(∀t∈x.A.args,Mx t)/\x.A.args.length<=1000/\RX (AI e x.A)
 cmp:(x.kind==97||x.kind==33)=false->Mx x.L/\Mx x.R/\0<(AU e x.L).size/\(AU e x.L).size<=1000000/\0<(AU e x.R).size/\(AU e x.R).size<=1000000
theorem TB(e:List cL)(x:By)(k:Option Addr)(i:Nat)(CC:Option Addr)(EK:Nat)(l:List CM)(w:World)(he:e.length=26)(hx:BS w 0 (x, .slice k x.A.args.length i))(hs:F4 w (.slice CC l.length EK) l)(HN:l.length<=1000000)(D:QV e x):
  Calls prog 88 #[.agg (Ah e).toArray, .agg (Bq x (.slice k x.A.args.length i)).toArray, .slice CC l.length EK] w λr m=>r= .returned (.bool (C1 (AI e) (AU e) (l.map CM.f) x))/\Ac [] w m:=by
 have o:Hid ((x.kind==97||x.kind==33)=true->∀wr,Ac [] w wr->Calls prog 48 #[.agg (Ah e).toArray, .agg (BO x.A.name (.slice k x.A.args.length i) x.A.at_).toArray] wr λr m=>∃F I,r= .returned (.agg (BU ⟨AI e x.A, .slice F x.A.args.length I⟩).toArray)/\G8 m ⟨AI e x.A, .slice F x.A.args.length I⟩/\Ac [] wr m):=λh wr hk=>VI e x.A k i wr he (Ad hx hk (by simp)) (D.atom h).2.1 (D.atom h).1
 have t:Hid ((x.kind==97||x.kind==33)=true->∀av wr,Ac [] w wr->G8 wr ⟨AI e x.A,av⟩->Calls prog 21 #[.slice CC l.length EK, .agg (BU ⟨AI e x.A,av⟩).toArray] wr λe' m=>e'= .returned (.bool (l.any λp=>F5 p.f (AI e x.A)))/\Ac [] wr m):=λh av wr hk hr=>Ob CC EK l ⟨AI e x.A,av⟩ wr (hs.kept hk) hr HN (D.atom h).2.2
 have FO:Hid ((l.any λp=>F5 p.f (AI e x.A))=Fq (l.map CM.f) (AI e x.A)):=by show _=_;unfold Fq;rw[dK];rfl
 have H:Hid ((x.kind==97||x.kind==33)=false->∀wr,Calls prog 89 #[.agg (Ah e).toArray, .agg (Az x.L).toArray] wr λr m=>r= .returned (.string (AU e x.L))/\Ac [] wr m):=λh wr=>Je e x.L wr he (D.cmp h).1
 have G:Hid ((x.kind==97||x.kind==33)=false->∀wr,Calls prog 89 #[.agg (Ah e).toArray, .agg (Az x.R).toArray] wr λr m=>r= .returned (.string (AU e x.R))/\Ac [] wr m):=λh wr=>Je e x.R wr he (D.cmp h).2.1
 have K:Hid ((x.kind==97||x.kind==33)=false->∀wr,Calls prog 86 #[.string (AU e x.L), .string (AU e x.R)] wr λe' m=>e'= .returned (.bool (ES (AU e x.L) (AU e x.R)))/\m=wr):=λh wr=>KG _ _ wr (D.cmp h).2.2.1 (D.cmp h).2.2.2.2.1 (D.cmp h).2.2.2.1 (D.cmp h).2.2.2.2.2
 obtain⟨B,hB⟩:∃B,C1 (AI e) (AU e) (l.map CM.f) x=B:=⟨_,rfl⟩;rw[hB];have b:Hid ((if x.kind==97 then Fq (l.map CM.f) (AI e x.A)else if x.kind==33 then !Fq (l.map CM.f) (AI e x.A)else if x.kind==61 then(AU e x.L).toList==(AU e x.R).toList else if x.kind==35 then !((AU e x.L).toList==(AU e x.R).toList)else ES (AU e x.L) (AU e x.R))=B):=hB;clear hB D hs hx;obtain⟨c,⟨g,d,j⟩,⟨v,n⟩,⟨q,s⟩,y⟩:=x;simp only at o t FO H G K b⊢;rw[Aa FO]at t;clear FO;have FC:Hid (∀F I,BU ⟨AI e ⟨g,d,j⟩, .slice F d.length I⟩=[.string g, .slice F d.length I]):=λF I=>rfl
 generalize Fq (l.map CM.f) (AI e ⟨g,d,j⟩)=HH at t b;generalize AI e ⟨g,d,j⟩=FP at o t FC;generalize AU e ⟨v,n⟩=VL at H K b;generalize AU e ⟨q,s⟩=VR at G K b;have hc:=Bl e;have S:Hid ((Ah e).length=26):=by show _=_;rw[CW,he]
 have hl:=Aa S;generalize Ah e=E at hc hl S o H G⊢;simp only[Bq,BO,Az]at o H G⊢;have z:=Ab ((Aw.new w E 90).alloc (.cells [.int .u8 c.toNat, .string g, .slice k d.length i, .int .i64 j, .int .u8 v.toNat, .string n, .int .u8 q.toNat, .string s, .int .i64 y].toArray 95));have a:Hid (Aw ((w.alloc (.cells E.toArray 90)).alloc (.cells [.int .u8 c.toNat, .string g, .slice k d.length i, .int .i64 j, .int .u8 v.toNat, .string n, .int .u8 q.toNat, .string s, .int .i64 y].toArray 95)) (w.heap.size+1) [.int .u8 c.toNat, .string g, .slice k d.length i, .int .i64 j, .int .u8 v.toNat, .string n, .int .u8 q.toNat, .string s, .int .i64 y] 95):=by
  have h:=Aw.new (w.alloc (.cells E.toArray 90)) [.int .u8 c.toNat, .string g, .slice k d.length i, .int .i64 j, .int .u8 v.toNat, .string n, .int .u8 q.toNat, .string s, .int .i64 y] 95;simp only[aP]at h;exact h
 have C:=Ab (((Ac.refl [] w).alloc (.cells E.toArray 90)).alloc (.cells [.int .u8 c.toNat, .string g, .slice k d.length i, .int .i64 j, .int .u8 v.toNat, .string n, .int .u8 q.toNat, .string s, .int .i64 y].toArray 95));have HL:((c.toNat:Int)==97)=(c==97):=B8 _ 97;have FT:((c.toNat:Int)==33)=(c==33):=B8 _ 33;have CL:((c.toNat:Int)==61)=(c==61):=B8 _ 61;have B9:((c.toNat:Int)==35)=(c==35):=B8 _ 35;cases h97:(c==97)with
 |true=>
  rw[h97]at b o t HL;rw[if_pos rfl]at b;have BA:=Ab (Aa o rfl);have Bx:=Ab (Aa t rfl);clear o t H G K FT CL B9;go_enter func88,ntmps88;apply wp_seq_k;intro KK O;have M:=Ab O;clear O;go_wp2;refine Aa M _ _ ?_;clear M KK;change Code.wp _ _ _ _ ((w.alloc (.cells E.toArray 90)).alloc (.cells [.int .u8 c.toNat, .string g, .slice k d.length i, .int .i64 j, .int .u8 v.toNat, .string n, .int .u8 q.toNat, .string s, .int .i64 y].toArray 95));generalize((w.alloc (.cells E.toArray 90)).alloc (.cells [.int .u8 c.toNat, .string g, .slice k d.length i, .int .i64 j, .int .u8 v.toNat, .string n, .int .u8 q.toNat, .string s, .int .i64 y].toArray 95))=w1 at z a C⊢;generalize w.heap.size=N at z a⊢;have c0:=(Aa a).cell 0;have U:=(Aa a).cell 1;have W:=(Aa a).cell 2;have X:=(Aa a).cell 3;have c4:=(Aa a).cell 4;have Y:=(Aa a).cell 5;have Z:=(Aa a).cell 6;have T:=(Aa a).cell 7;simp at c0 U W X c4 Y Z T;go_wp2_with (first|((with_reducible show wpList _ _ _ ({dst:=_,op:=Op.load 90 _,type:=_,pos:=_,after:=_,guard:=_}::_) _ _);refine cm rfl 90 _ rfl N 0 (by rfl) E _ (Aa z).range underlying90 rfl (by rw[Aa S];exact Tryz.size90) ?_)|fail)
  refine(Aa BA _ (Aa C)).mono ?_;rintro _ w2 ⟨F,I,rfl,AH,u⟩;have P:=Ab (Aa Bx (.slice F d.length I) w2 ((Aa C).trans u) AH);have V:=Ab ((Aa C).trans u);rw[Aa FC]at P⊢;clear AH u BA Bx;go_wp2_with fail
  refine(Aa P).mono ?_;rintro _ w3 ⟨rfl,J⟩;have Q:=Ab ((Aa V).trans J);clear J P;go_wp2;go_ret;rw[<-Aa b];exact⟨rfl,Aa Q⟩
 |false=>
  rw[h97]at b o t HL H G K;rw[if_neg (by simp)]at b;cases h33:(c==33)with
  |true=>
   rw[h33]at b o t FT;rw[if_pos rfl]at b;have BA:=Ab (Aa o rfl);have Bx:=Ab (Aa t rfl);clear o t H G K CL B9;go_enter func88,ntmps88;apply wp_seq_k;intro KK O;have M:=Ab O;clear O;go_wp2;refine Aa M _ _ ?_;clear M KK;change Code.wp _ _ _ _ ((w.alloc (.cells E.toArray 90)).alloc (.cells [.int .u8 c.toNat, .string g, .slice k d.length i, .int .i64 j, .int .u8 v.toNat, .string n, .int .u8 q.toNat, .string s, .int .i64 y].toArray 95));generalize((w.alloc (.cells E.toArray 90)).alloc (.cells [.int .u8 c.toNat, .string g, .slice k d.length i, .int .i64 j, .int .u8 v.toNat, .string n, .int .u8 q.toNat, .string s, .int .i64 y].toArray 95))=w1 at z a C⊢;generalize w.heap.size=N at z a⊢;have c0:=(Aa a).cell 0;have U:=(Aa a).cell 1;have W:=(Aa a).cell 2;have X:=(Aa a).cell 3;have c4:=(Aa a).cell 4;have Y:=(Aa a).cell 5;have Z:=(Aa a).cell 6;have T:=(Aa a).cell 7;simp at c0 U W X c4 Y Z T;go_wp2_with (first|((with_reducible show wpList _ _ _ ({dst:=_,op:=Op.load 90 _,type:=_,pos:=_,after:=_,guard:=_}::_) _ _);refine cm rfl 90 _ rfl N 0 (by rfl) E _ (Aa z).range underlying90 rfl (by rw[Aa S];exact Tryz.size90) ?_)|fail)
   refine(Aa BA _ (Aa C)).mono ?_;rintro _ w2 ⟨F,I,rfl,AH,u⟩;have P:=Ab (Aa Bx (.slice F d.length I) w2 ((Aa C).trans u) AH);have V:=Ab ((Aa C).trans u);rw[Aa FC]at P⊢;clear AH u BA Bx;(go_wp2_with fail);refine(Aa P).mono ?_;rintro _ w3 ⟨rfl,J⟩;have Q:=Ab ((Aa V).trans J);clear J P;go_wp2;go_ret;rw[<-Aa b];exact⟨rfl,Aa Q⟩
  |false=>
   rw[h33]at b FT H G K;rw[if_neg (by simp)]at b;have Ha:=Ab (Aa H rfl);have HF:=Ab (Aa G rfl);have HM:=Ab (Aa K rfl);clear o t H G K;go_enter func88,ntmps88;apply wp_seq_k;intro KK O;have M:=Ab O;clear O;go_wp2;refine Aa M _ _ ?_;clear M KK;change Code.wp _ _ _ _ ((w.alloc (.cells E.toArray 90)).alloc (.cells [.int .u8 c.toNat, .string g, .slice k d.length i, .int .i64 j, .int .u8 v.toNat, .string n, .int .u8 q.toNat, .string s, .int .i64 y].toArray 95));generalize((w.alloc (.cells E.toArray 90)).alloc (.cells [.int .u8 c.toNat, .string g, .slice k d.length i, .int .i64 j, .int .u8 v.toNat, .string n, .int .u8 q.toNat, .string s, .int .i64 y].toArray 95))=w1 at z a C⊢;generalize w.heap.size=N at z a⊢;have c0:=(Aa a).cell 0;have U:=(Aa a).cell 1;have W:=(Aa a).cell 2;have X:=(Aa a).cell 3;have c4:=(Aa a).cell 4;have Y:=(Aa a).cell 5;have Z:=(Aa a).cell 6;have T:=(Aa a).cell 7;simp at c0 U W X c4 Y Z T;go_wp2_with (first|((with_reducible show wpList _ _ _ ({dst:=_,op:=Op.load 90 _,type:=_,pos:=_,after:=_,guard:=_}::_) _ _);refine cm rfl 90 _ rfl N 0 (by rfl) E _ (Aa z).range underlying90 rfl (by rw[Aa S];exact Tryz.size90) ?_)|fail)
   refine(Aa Ha _).mono ?_;rintro _ w2 ⟨rfl,u⟩;have Go:=Ab ((Aa z).kept u (by simp));have BT:=(Aa a).kept u (by simp);have V:=Ab ((Aa C).trans u);have d0:=BT.cell 0;have d6:=BT.cell 6;have d7:=BT.cell 7;simp at d0 d6 d7;have HC:=Ab BT;clear u z a C Ha BT c0 U W X c4 Y Z T;go_wp2_with (first|((with_reducible show wpList _ _ _ ({dst:=_,op:=Op.load 90 _,type:=_,pos:=_,after:=_,guard:=_}::_) _ _);refine cm rfl 90 _ rfl N 0 (by rfl) E _ (Aa Go).range underlying90 rfl (by rw[Aa S];exact Tryz.size90) ?_)|fail)
   refine(Aa HF _).mono ?_;rintro _ w3 ⟨rfl,J⟩;have Q:=Ab ((Aa V).trans J);have HO:=((Aa HC).kept J (by simp)).cell 0;simp at HO;clear J V HF Go HC d0 d6 d7;cases h61:(c==61)with
   |true=>
    rw[h61]at b CL;rw[if_pos rfl]at b;go_wp2;go_ret;rw[<-Aa b];exact⟨rfl,Aa Q⟩
   |false=>
    rw[h61]at b CL;rw[if_neg (by simp)]at b;cases h35:(c==35)with
    |true=>
     rw[h35]at b B9;rw[if_pos rfl]at b;go_wp2;go_ret;rw[<-Aa b];exact⟨rfl,Aa Q⟩
    |false=>
     rw[h35]at b B9;rw[if_neg (by simp)]at b;(go_wp2_with fail);refine(Aa HM _).mono ?_;rintro _ w4 ⟨rfl,rfl⟩;go_wp2;go_ret;rw[<-Aa b];exact⟨rfl,Aa Q⟩
