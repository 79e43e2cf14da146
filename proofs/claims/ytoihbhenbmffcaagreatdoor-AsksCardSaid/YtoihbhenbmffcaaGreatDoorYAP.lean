import Derived.Test.YtoihbhenbmffcaaGreatDoorYAO
set_option linter.all false
set_option maxHeartbeats 0
namespace Go.Proofs.YtoihbhenbmffcaaGreatDoor
open Go.RowKit Go.Proofs.Tryz
theorem CV(e:List cR):(Ai e).length=e.length:=by unfold Ai;simp
theorem TQ(e:List cR)(j:Nat)(x:cR):Ai (e.set j x)=(Ai e).set j (.string x):=by unfold Ai;rw[gd]
theorem Is(e:List cR):∀v∈Ai e,v.oneCell'=true:=λv a=>by
 unfold Ai at a;obtain⟨x,_,rfl⟩:=bV.1 a;rfl
structure Rr(w:World)(N:Nat)(E:List Value)(nm:cR)(av:Value)(j:Nat)(ts:List AG)(fn:cR)(fv:Value)(xs:List cR):Prop where
 b0:AE w N E 90
 b1:AE w (N+1) [.string nm,av,.int .i64 j] 79
 b2:AE w (N+1+1) [.string fn,fv] 43
 b3:AE w (N+1+1+1) (List.replicate 26 (.string ⟨#[]⟩)) 90
 row:w.ownsRow 0 93 2 av ts.length (ts.flatMap AM)
 rof:w.ownsRow 0 9 1 fv xs.length (xs.flatMap Ae)
 low:∀q,av.ownBlock=some q->q<N
 lof:∀q,fv.ownBlock=some q->q<N
theorem Rr.kept{w w':World}{N:Nat}{E:List Value}{nm fn:cR}{c a:Value}{j:Nat}{ts:List AG}{b:List cR}(h:Rr w N E nm c j ts fn a b)(k:Ac [] w w'):Rr w' N E nm c j ts fn a b:=
 ⟨h.b0.kept k (by simp),h.b1.kept k (by simp),h.b2.kept k (by simp),h.b3.kept k (by simp),Ad h.row k (by simp),Ad h.rof k (by simp),h.low,h.lof⟩
theorem Rr.set{w:World}{N:Nat}{E:List Value}{nm fn:cR}{c a:Value}{j:Nat}{ts:List AG}{b:List cR}(h:Rr w N E nm c j ts fn a b)(i:Nat)(u:Value):Rr (w.setCell ⟨N,i,none⟩ u) N (E.set i u) nm c j ts fn a b:=
 ⟨h.b0.set i u,h.b1.dT _ (show N≠N+1 by omega) _,h.b2.dT _ (show N≠N+1+1 by omega) _,h.b3.dT _ (show N≠N+1+1+1 by omega) _,
  Ag h.row (λe=>by have:=h.low _ e;simp at this) _,Ag h.rof (λe=>by have:=h.lof _ e;simp at this) _,h.low,h.lof⟩
theorem Gw{w:World}{b:Nat}(h:AE w b (List.replicate 26 (.string ⟨#[]⟩)) 90){E:List Value}(a:E.length=26):w.there b 0 E.toArray.size:=by
 have:=h.there;rw[dD]at this;rw[dh,a];exact this
set_option maxRecDepth 100000
theorem UV(e:List cR)(A:C2)(D:Option Addr)(x:Nat)(p:CF)(w:World)(he:e.length=26)(hA:w.ownsRow 0 93 2 (.slice D A.args.length x) A.args.length (A.args.flatMap AM))(hP:Hv w p)(MY:A.args.length<=1000)(MB:p.f.args.length<=1000000)(hg:∀t∈A.args,Bz t):
  Calls prog 87 #[.agg (Ai e).toArray,.agg (B6 A.name (.slice D A.args.length x) A.at_).toArray,.agg (B7 p).toArray] w λr w'=>r=.returned (.tuple #[.agg (Ai (DF e A p.f).1).toArray,.bool (DF e A p.f).2])/\Ac [] w w':=by
 obtain⟨d,a,j⟩:=A;obtain⟨⟨m,b⟩,pv⟩:=p;obtain⟨F,y,LE⟩:=Aj hP;simp only at LE;subst LE;simp only at hA MY hg MB⊢;obtain⟨R,hR⟩:∃R,DF e ⟨d,a,j⟩ ⟨m,b⟩=R:=⟨_,rfl⟩;have HR:Hid ((if(d.toList==m.toList)&&(a.length==b.length)then Cz e a b else(e,false))=R):=hR;rw[hR];have HV:Hid (∀e' t wr,e'.length=26->t∈a->Calls prog 89 #[.agg (Ai e').toArray,.agg (AM t).toArray] wr λr w'=>r=.returned (.string (AR e' t))/\Ac [] wr w'):=λe' t wr U ht=>JN e' t wr U (by rcases hg t ht with h|h;exact Or.inl h.1;exact Or.inr h)
 have N4:=Ab hg;have hc:=Bo e;have hl:(Ai e).length=26:=by rw[CV,he]
 have n:=Ab hl;have HO:Hid (∀v∈Ai e,v.oneCell'=true):=Is e;have c:Hid (Rr ((((w.alloc (.cells (Ai e).toArray 90)).alloc (.cells [.string d,.slice D a.length x,.int .i64 j].toArray 79)).alloc (.cells [.string m,.slice F b.length y].toArray 43)).alloc (.cells (List.replicate 26 (.string ⟨#[]⟩)).toArray 90)) w.heap.size (Ai e) d (.slice D a.length x) j a m (.slice F b.length y) b):=by
  have b0:=AE.new w (Ai e) 90;have b1:=AE.new (w.alloc (.cells (Ai e).toArray 90)) [.string d,.slice D a.length x,.int .i64 j] 79;have b2:=AE.new ((w.alloc (.cells (Ai e).toArray 90)).alloc (.cells [.string d,.slice D a.length x,.int .i64 j].toArray 79)) [.string m,.slice F b.length y] 43;have b3:=AE.new (((w.alloc (.cells (Ai e).toArray 90)).alloc (.cells [.string d,.slice D a.length x,.int .i64 j].toArray 79)).alloc (.cells [.string m,.slice F b.length y].toArray 43)) (List.replicate 26 (.string ⟨#[]⟩)) 90;simp only[cD]at b1 b2 b3;have hk:=((((Ac.refl [] w).alloc (.cells (Ai e).toArray 90)).alloc (.cells [.string d,.slice D a.length x,.int .i64 j].toArray 79)).alloc (.cells [.string m,.slice F b.length y].toArray 43)).alloc (.cells (List.replicate 26 (.string ⟨#[]⟩)).toArray 90);exact⟨((b0.alloc _).alloc _).alloc _,(b1.alloc _).alloc _,b2.alloc _,b3,Ad hA hk (by simp),Ad hP hk (by simp),λq hq=>(hA.lt q hq).2,λq hq=>(World.ownsRow.lt hP q hq).2⟩
 have H:=Ab (((((Ac.refl [] w).alloc (.cells (Ai e).toArray 90)).alloc (.cells [.string d,.slice D a.length x,.int .i64 j].toArray 79)).alloc (.cells [.string m,.slice F b.length y].toArray 43)).alloc (.cells (List.replicate 26 (.string ⟨#[]⟩)).toArray 90));simp only[B6,B7];clear hR hA hP hg;obtain⟨E,hE⟩:∃E,Ai e=E:=⟨_,rfl⟩;rw[hE]at hc hl n HO c H⊢;have HT:=Ab hE;clear hE;obtain⟨C,hC⟩:∃C,((d.toList==m.toList)&&(a.length==b.length))=C:=⟨_,rfl⟩;rw[hC]at HR;cases C with
 |false=>
  have J:Hid (Ai R.1=E/\R.2=false):=by rw[<-Aa HR,<-Aa HT];exact⟨rfl,rfl⟩
  have HC:Hid (((d.toList==m.toList)&&(a.length==b.length))=false):=hC;clear hC HR;cases hn:(d.toList==m.toList)with
  |false=>
   (have LL:(d.toList !=m.toList)=true:=by simp[bne,hn]);clear HC;go_enter func87,ntmps87;apply wp_seq_k;intro KK S;have P:=Ab S;clear S;go_wp2;refine Aa P _ _ ?_;clear P KK;change Code.wp _ _ _ _ ((((w.alloc (.cells E.toArray 90)).alloc (.cells [.string d,.slice D a.length x,.int .i64 j].toArray 79)).alloc (.cells [.string m,.slice F b.length y].toArray 43)).alloc (.cells (List.replicate 26 (.string ⟨#[]⟩)).toArray 90));generalize((((w.alloc (.cells E.toArray 90)).alloc (.cells [.string d,.slice D a.length x,.int .i64 j].toArray 79)).alloc (.cells [.string m,.slice F b.length y].toArray 43)).alloc (.cells (List.replicate 26 (.string ⟨#[]⟩)).toArray 90))=w1 at c H⊢;obtain⟨N,I⟩:∃N,w.heap.size=N:=⟨_,rfl⟩;rw[I]at c⊢;have Y:=Ab I;clear I;have c0:=(Aa c).b1.cell 0;have Z:=(Aa c).b2.cell 0;have M:=(Aa c).b1.cell 1;have O:=(Aa c).b2.cell 1;simp at c0 Z M O;go_wp2_with (first|((with_reducible show wpList _ _ _ ({dst:=_,op:=Op.load 90 _,type:=_,pos:=_,after:=_,guard:=_}::_) _ _);refine dU rfl 90 _ rfl N 0 (by rfl) E _ (Aa c).b0.range underlying90 rfl (by rw[Aa n];exact Tryz.em) ?_)|((with_reducible show wpList _ _ _ ({dst:=_,op:=Op.store 90 _ _,type:=_,pos:=_,after:=_,guard:=_}::_) _ _);refine dP rfl 90 _ _ rfl (N+1+1+1) 0 E.toArray (by rfl) (by rfl) (Gw (Aa c).b3 (Aa n)) (by rw[dh,Aa n];exact Tryz.em) (dq (Aa HO)) ?_))
   refine cB (AC rfl (by rfl) ((Aa c).b3.gH E (by rw[Aa n];rfl)) underlying90 rfl (by rw[Aa n];exact Tryz.em)) rfl ⟨?_,(Aa H).ek (Or.inr (by have:=Aa Y;omega)) _ _⟩;rw[(Aa J).1,(Aa J).2];rfl
  |true=>
   (have LL:(d.toList !=m.toList)=false:=by simp[bne,hn]);have M6:¬a.length=b.length:=by
    have h:=Aa HC;rw[hn]at h;simpa using h
   (have NY:((a.length:Int) !=(b.length:Int))=true:=by simp[bne];omega);(have NS:((a.length:Int)==(b.length:Int))=false:=by rw[cJ];omega);clear HC M6;go_enter func87,ntmps87;apply wp_seq_k;intro KK S;have P:=Ab S;clear S;go_wp2;refine Aa P _ _ ?_;clear P KK;change Code.wp _ _ _ _ ((((w.alloc (.cells E.toArray 90)).alloc (.cells [.string d,.slice D a.length x,.int .i64 j].toArray 79)).alloc (.cells [.string m,.slice F b.length y].toArray 43)).alloc (.cells (List.replicate 26 (.string ⟨#[]⟩)).toArray 90));generalize((((w.alloc (.cells E.toArray 90)).alloc (.cells [.string d,.slice D a.length x,.int .i64 j].toArray 79)).alloc (.cells [.string m,.slice F b.length y].toArray 43)).alloc (.cells (List.replicate 26 (.string ⟨#[]⟩)).toArray 90))=w1 at c H⊢;obtain⟨N,I⟩:∃N,w.heap.size=N:=⟨_,rfl⟩;rw[I]at c⊢;have Y:=Ab I;clear I;have c0:=(Aa c).b1.cell 0;have Z:=(Aa c).b2.cell 0;have M:=(Aa c).b1.cell 1;have O:=(Aa c).b2.cell 1;simp at c0 Z M O;go_wp2_with (first|((with_reducible show wpList _ _ _ ({dst:=_,op:=Op.load 90 _,type:=_,pos:=_,after:=_,guard:=_}::_) _ _);refine dU rfl 90 _ rfl N 0 (by rfl) E _ (Aa c).b0.range underlying90 rfl (by rw[Aa n];exact Tryz.em) ?_)|((with_reducible show wpList _ _ _ ({dst:=_,op:=Op.store 90 _ _,type:=_,pos:=_,after:=_,guard:=_}::_) _ _);refine dP rfl 90 _ _ rfl (N+1+1+1) 0 E.toArray (by rfl) (by rfl) (Gw (Aa c).b3 (Aa n)) (by rw[dh,Aa n];exact Tryz.em) (dq (Aa HO)) ?_))
   refine cB (AC rfl (by rfl) ((Aa c).b3.gH E (by rw[Aa n];rfl)) underlying90 rfl (by rw[Aa n];exact Tryz.em)) rfl ⟨?_,(Aa H).ek (Or.inr (by have:=Aa Y;omega)) _ _⟩;rw[(Aa J).1,(Aa J).2];rfl
 |true=>
  have AH:(d.toList==m.toList)=true/\a.length=b.length:=by simpa using hC
  have hn:=AH.1;have LL:(d.toList !=m.toList)=false:=by simp[bne,AH.1]
  have NY:((a.length:Int) !=(b.length:Int))=false:=by simp[AH.2]
  have NS:((a.length:Int)==(b.length:Int))=true:=by simp[AH.2]
  have NL:=Ab AH.2;have H5:Hid (Cz e (a.drop 0) (b.drop 0)=R):=by have h:=Aa HR;rw[if_pos rfl]at h;exact h
  clear hC HR AH;go_enter func87,ntmps87;apply wp_seq_k;intro KK S;have P:=Ab S;clear S;go_wp2;refine Aa P _ _ ?_;clear P KK;change Code.wp _ _ _ _ ((((w.alloc (.cells E.toArray 90)).alloc (.cells [.string d,.slice D a.length x,.int .i64 j].toArray 79)).alloc (.cells [.string m,.slice F b.length y].toArray 43)).alloc (.cells (List.replicate 26 (.string ⟨#[]⟩)).toArray 90));generalize((((w.alloc (.cells E.toArray 90)).alloc (.cells [.string d,.slice D a.length x,.int .i64 j].toArray 79)).alloc (.cells [.string m,.slice F b.length y].toArray 43)).alloc (.cells (List.replicate 26 (.string ⟨#[]⟩)).toArray 90))=w1 at c H⊢;obtain⟨N,I⟩:∃N,w.heap.size=N:=⟨_,rfl⟩;rw[I]at c⊢;have Y:=Ab I;clear I;have c0:=(Aa c).b1.cell 0;have Z:=(Aa c).b2.cell 0;have M:=(Aa c).b1.cell 1;have O:=(Aa c).b2.cell 1;simp at c0 Z M O;clear n HO;go_wp2_with fail
  have M0:(prog.info? 90).map (·.size)=some 26:=Tryz.em
  go_loopg [8] a.length (λgk i wr=>∃(k:Nat) (B:List cR),i=.int .i64 k/\k<=a.length/\gk=a.length-k/\B.length=26/\Hid (Cz B (a.drop k) (b.drop k)=R)/\Hid (Rr wr N (Ai B) d (.slice D a.length x) j a m (.slice F b.length y) b)/\Hid (Ac [] w wr))
  case atStart=>exact⟨0,e,rfl,by omega,rfl,he,H5,(by rw[Aa HT];exact c),H⟩
  case round=>
   clear H5 c H c0 M Z O hl hc HT;obtain⟨k,B,rfl,hk,LB,FP,HM,K,H⟩:=hrel;have HG:=Ab LB;clear LB he;have M:=(Aa K).b1.cell 1;have O:=(Aa K).b2.cell 1;simp at M O;obtain⟨z,Q⟩:∃z,Ai B=z:=⟨_,rfl⟩;(have BT:z.length=26:=by rw[<-Q,CV,FP]);(have KS:Hid (∀v∈z,v.oneCell'=true):=by show∀v∈z,_;rw[<-Q];exact Is B);rw[Q]at K;by_cases EY:k<a.length
   ·(have HQ:k<b.length:=by have:=Aa NL;omega);obtain⟨g,TL,K6,d0,d1⟩:=LH (Aa K).row k EY;simp only[bK]at K6;obtain⟨rfl,_,rfl⟩:=K6;obtain⟨L,TX,JA,f0⟩:=GP (Aa K).rof k HQ;simp only[bK]at JA;obtain⟨rfl,_,rfl⟩:=JA;obtain⟨T,hT⟩:∃T,a[k]=T:=⟨_,rfl⟩;obtain⟨X,hX⟩:∃X,b[k]=X:=⟨_,rfl⟩;(have H9:Hid (T∈a):=by show _∈_;rw[<-hT];exact bL EY);have AO:Hid (Cz B (T::a.drop (k+1)) (X::b.drop (k+1))=R):=by
     have h:=Aa HM;rw[ci EY,ci HQ,hT,hX]at h;exact h
    have HS:Hid (∀o,Rr o N z d (.slice (some ⟨g,0,none⟩) a.length x) j a m (.slice (some ⟨L,0,none⟩) b.length y) b->o.rangeAt N 0 z/\o.cell? ⟨N+1,1,none⟩=some (.slice (some ⟨g,0,none⟩) a.length x)/\o.cell? ⟨g,k*2,none⟩=some (.int .u8 T.v.toNat)/\o.cell? ⟨g,k*2+1,none⟩=some (.string T.s)/\o.cell? ⟨N+1+1,1,none⟩=some (.slice (some ⟨L,0,none⟩) b.length y)/\o.cell? ⟨L,k,none⟩=some (.string X)):=by
     intro o W;obtain⟨g',Nx,U,q0,q1⟩:=LH W.row k EY;simp only[bK,bR,cI]at U;obtain⟨⟨rfl,_,_⟩,_,_⟩:=U;obtain⟨g',Nx,U,q2⟩:=GP W.rof k HQ;simp only[bK,bR,cI]at U;obtain⟨⟨rfl,_,_⟩,_,_⟩:=U;rw[hT]at q0 q1;rw[hX]at q2;have x1:=W.b1.cell 1;have x2:=W.b2.cell 1;simp at x1 x2;exact⟨W.b0.range,x1,q0,q1,x2,q2⟩
    rw[hT]at d0 d1;rw[hX]at f0;clear hT hX HM;(have S1:(0:Int)<=(k:Int):=by omega);(have RE:(k:Int)<(a.length:Int):=by omega);(have P0:(k:Int)<(b.length:Int):=by omega);obtain⟨V,hV⟩:∃V,AR B T=V:=⟨_,rfl⟩;have FC:=Ab (Aa HV B T wr.drew FP (Aa H9));rw[hV,Q]at FC;have Ha:=Ab hV;have HW:=Ab Q;clear hV Q;have hu:=underlying90;(have hi:(prog.info? 90).map (·.size)=some z.length:=by rw[BT];exact M0);have e0:=(Aa K).b0.range;have Jx:=Ab ((Aa K).kept (Ac.refl [] wr).drew);simp only[AM]at FC;go_wp2_with fail
    go_region_held3 (λo=>o.rangeAt N 0 z/\o.cell? ⟨N+1,1,none⟩=some (.slice (some ⟨g,0,none⟩) a.length x)/\o.cell? ⟨g,k*2,none⟩=some (.int .u8 T.v.toNat)/\o.cell? ⟨g,k*2+1,none⟩=some (.string T.s)) (first|(refine⟨?_,?_,?_,?_⟩<;>assumption)|go_keep_ranges) ((go_at_call 89;refine(Aa FC).mono ?_;rintro e w3 ⟨rfl,k3⟩;have G:=Ab ((Aa Jx).kept k3);have HB:=Ab ((Aa H).drew.trans k3);obtain⟨y0,y1,y2,y3,y4,y5⟩:=Aa HS w3 (Aa G);clear k3))
    rename_i N0;clear N0 FC Jx e0 M O d0 d1 f0;cases hv:Ru V with
    |true=>
     have M3:T.v≠0/\65<=T.v.toNat/\T.v.toNat<=90:=by
      (have W:(AR B T).size=0:=by rw[Aa Ha];exact(DA V).1 hv);have h:=(Aa N4 T (Aa H9)).zJ W;exact⟨h.1,h.2.1,h.2.2.1⟩
     have EX:Hid (Cz (B.set (T.v.toNat-65) X) (a.drop (k+1)) (b.drop (k+1))=R):=by
      have h:=Aa AO;rw[Cz,Aa Ha,hv,if_pos rfl]at h;exact h
     have HI:(V.toList==[])=true:=hv;(have NX:V.toList=[]:=by simpa using HI);obtain⟨l,KD⟩:∃l,T.v.toNat-65=l:=⟨_,rfl⟩;(have PT:T.v.toNat=l+65:=by omega);(have TV:l<26:=by omega);rw[KD]at EX;(have NM:((T.v.toNat:Nat):Int)=(l:Int)+65:=by omega);rw[NM]at y2;(have RI:(0:Int)<=(l:Int):=by omega);(have QR:(l:Int)<26:=by omega);(have M2:IntKind.u8.wrap (l:Int)=l:=by rw[IntKind.wrap_u8];omega);(have QQ:IntKind.u8.wrap ((l:Int)+65-65)=l:=by rw[show(l:Int)+65-65=l by omega];exact M2);have yN:∃u,w3.cell? ⟨N,l,none⟩=some u:=by
      refine⟨z[l]'(by omega),?_⟩;rw[(Aa G).b0.cell,bW (by omega)]
     obtain⟨u0,yN⟩:=yN;have yF:=(Aa G).b0.frozen l;have Go:Hid (∀o,o=w3->Rr (o.setCell ⟨N,l,none⟩ (.string X)).drew N (Ai (B.set l X)) d (.slice (some ⟨g,0,none⟩) a.length x) j a m (.slice (some ⟨L,0,none⟩) b.length y) b):=by
      rintro o rfl;rw[TQ,Aa HW];exact((Aa G).set l _).kept (Ac.refl [] _).drew
     have K8:Hid (Ac [] w (w3.setCell ⟨N,l,none⟩ (.string X)).drew):=((Aa HB).setCell (p:=⟨N,l,none⟩) (Or.inr (by have:=Aa Y;simp;omega)) _).drew;(have NV:(B.set l X).length=26:=by simp[FP]);(have n1:¬N=N+1:=by omega);(have n2:¬N=N+1+1:=by omega);(have RB:¬N=g:=by have:=(Aa G).low g rfl;omega);(have SJ:¬N=L:=by have:=(Aa G).lof L rfl;omega);(have RO:¬N+1=N:=by omega);(have RV:¬N+1+1=N:=by omega);(have RT:¬g=N:=by omega);(have ST:¬L=N:=by omega);have SB:=Ab yN;clear hv M3 KD PT HS AO G HB y0 y3;go_wp2_with fail
     go_region_held3 (λo=>o.cell? ⟨N+1,1,none⟩=some (.slice (some ⟨g,0,none⟩) a.length x)/\o.cell? ⟨g,k*2,none⟩=some (.int .u8 ((l:Int)+65))/\o.cell? ⟨N+1+1,1,none⟩=some (.slice (some ⟨L,0,none⟩) b.length y)/\o.cell? ⟨L,k,none⟩=some (.string X)) (go_keep) (fail)
     rename_i M1;clear M1 y1 y2 y4 y5 yN yF;have K2:=Ab (Aa Go _ rfl);clear Go;generalize(w3.setCell ⟨N,l,none⟩ (.string X)).drew=w4 at K2 K8⊢;go_wp2
     go_roundg (a.length-(k+1))
     case measure=>have:=Aa HG;omega
     case rel=>exact⟨k+1,B.set l X,by go_num,by omega,rfl,NV,EX,K2,K8⟩
    |false=>
     have HI:(V.toList==[])=false:=hv;(have NX:¬V.toList=[]:=by simpa using HI);cases hx:(V.toList==X.toList)with
     |true=>
      (have LS:(V.toList !=X.toList)=false:=by simp[bne,hx]);have EX:Hid (Cz B (a.drop (k+1)) (b.drop (k+1))=R):=by
       have h:=Aa AO;rw[Cz,Aa Ha,hv,if_neg (by simp),hx,if_pos rfl]at h;exact h
      (have Go:Hid (Rr w3 N (Ai B) d (.slice (some ⟨g,0,none⟩) a.length x) j a m (.slice (some ⟨L,0,none⟩) b.length y) b):=by rw[Aa HW];exact G);clear hv HS AO G y0 y1 y2 y3;go_wp2
      go_roundg (a.length-(k+1))
      case measure=>have:=Aa HG;omega
      case rel=>exact⟨k+1,B,by go_num,by omega,rfl,FP,EX,Go,HB⟩
     |false=>
      (have LS:(V.toList !=X.toList)=true:=by simp[bne,hx]);have J:Hid (Ai R.1=z/\R.2=false):=by
       have h:=Aa AO;rw[Cz,Aa Ha,hv,if_neg (by simp),hx,if_neg (by simp)]at h;rw[<-h,<-Aa HW];exact⟨rfl,rfl⟩
      have n:=Ab BT;clear hv HS AO y0 y1 y2 y3 hi BT;go_wp2_with (first|((with_reducible show wpList _ _ _ ({dst:=_,op:=Op.load 90 _,type:=_,pos:=_,after:=_,guard:=_}::_) _ _);refine dU rfl 90 _ rfl N 0 (by rfl) z _ (Aa G).b0.range underlying90 rfl (by rw[Aa n];exact Tryz.em) ?_)|((with_reducible show wpList _ _ _ ({dst:=_,op:=Op.store 90 _ _,type:=_,pos:=_,after:=_,guard:=_}::_) _ _);refine dP rfl 90 _ _ rfl (N+1+1+1) 0 z.toArray (by rfl) (by rfl) (Gw (Aa G).b3 (Aa n)) (by rw[dh,Aa n];exact Tryz.em) (dq (Aa KS)) ?_))
      refine cB (AC rfl (by rfl) ((Aa G).b3.gH z (by rw[Aa n];rfl)) underlying90 rfl (by rw[Aa n];exact Tryz.em)) rfl ⟨?_,(Aa HB).ek (Or.inr (by have:=Aa Y;omega)) _ _⟩;rw[(Aa J).1,(Aa J).2];rfl
   .have J:Hid (Ai R.1=z/\R.2=true):=by
     have h:=Aa HM;rw[cG (by omega),Cz]at h;rw[<-h,<-Q];exact⟨rfl,rfl⟩
    have n:=Ab BT;clear BT Q HM;go_wp2_with (first|((with_reducible show wpList _ _ _ ({dst:=_,op:=Op.load 90 _,type:=_,pos:=_,after:=_,guard:=_}::_) _ _);refine dU rfl 90 _ rfl N 0 (by rfl) z _ (Aa K).b0.range underlying90 rfl (by rw[Aa n];exact Tryz.em) ?_)|((with_reducible show wpList _ _ _ ({dst:=_,op:=Op.store 90 _ _,type:=_,pos:=_,after:=_,guard:=_}::_) _ _);refine dP rfl 90 _ _ rfl (N+1+1+1) 0 z.toArray (by rfl) (by rfl) (Gw (Aa K).b3 (Aa n)) (by rw[dh,Aa n];exact Tryz.em) (dq (Aa KS)) ?_))
    refine cB (AC rfl (by rfl) ((Aa K).b3.gH z (by rw[Aa n];rfl)) underlying90 rfl (by rw[Aa n];exact Tryz.em)) rfl ⟨?_,(Aa H).ek (Or.inr (by have:=Aa Y;omega)) _ _⟩;rw[(Aa J).1,(Aa J).2];rfl
def Ni(t:AG):Prop:=t.v=0\/(65<=t.v.toNat/\t.v.toNat<=90)
structure PB(e:List cR)(x:Bg):Prop where
 atom:(x.kind==97||x.kind==33)=true->(∀t∈x.A.args,Ni t)/\x.A.args.length<=1000/\TN (AA e x.A)
 cmp:(x.kind==97||x.kind==33)=false->Ni x.L/\Ni x.R/\0<(AR e x.L).size/\(AR e x.L).size<=1000000/\0<(AR e x.R).size/\(AR e x.R).size<=1000000
theorem Uy(e:List cR)(x:Bg)(k:Option Addr)(i:Nat)(B9:Option Addr)(CL:Nat)(l:List CF)(w:World)(he:e.length=26)(hx:BJ w 0 (x,.slice k x.A.args.length i))(hs:Fa w (.slice B9 l.length CL) l)(HM:l.length<=1000000)(D:PB e x):
  Calls prog 88 #[.agg (Ai e).toArray,.agg (BQ x (.slice k x.A.args.length i)).toArray,.slice B9 l.length CL] w λr m=>r=.returned (.bool (CS (AA e) (AR e) (l.map CF.f) x))/\Ac [] w m:=by
 have o:Hid ((x.kind==97||x.kind==33)=true->∀wr,Ac [] w wr->Calls prog 48 #[.agg (Ai e).toArray,.agg (B6 x.A.name (.slice k x.A.args.length i) x.A.at_).toArray] wr λr m=>∃F I,r=.returned (.agg (B7 ⟨AA e x.A,.slice F x.A.args.length I⟩).toArray)/\Hv m ⟨AA e x.A,.slice F x.A.args.length I⟩/\Ac [] wr m):=λh wr hk=>WI e x.A k i wr he (Ad hx hk (by simp)) (D.atom h).2.1 (D.atom h).1
 have t:Hid ((x.kind==97||x.kind==33)=true->∀av wr,Ac [] w wr->Hv wr ⟨AA e x.A,av⟩->Calls prog 21 #[.slice B9 l.length CL,.agg (B7 ⟨AA e x.A,av⟩).toArray] wr λe' m=>e'=.returned (.bool (l.any λp=>Gn p.f (AA e x.A)))/\Ac [] wr m):=λh av wr hk hr=>OV B9 CL l ⟨AA e x.A,av⟩ wr (hs.kept hk) hr HM (D.atom h).2.2
 have FF:Hid ((l.any λp=>Gn p.f (AA e x.A))=FK (l.map CF.f) (AA e x.A)):=by show _=_;unfold FK;rw[fB];rfl
 have H:Hid ((x.kind==97||x.kind==33)=false->∀wr,Calls prog 89 #[.agg (Ai e).toArray,.agg (AM x.L).toArray] wr λr m=>r=.returned (.string (AR e x.L))/\Ac [] wr m):=λh wr=>JN e x.L wr he (D.cmp h).1
 have G:Hid ((x.kind==97||x.kind==33)=false->∀wr,Calls prog 89 #[.agg (Ai e).toArray,.agg (AM x.R).toArray] wr λr m=>r=.returned (.string (AR e x.R))/\Ac [] wr m):=λh wr=>JN e x.R wr he (D.cmp h).2.1
 have K:Hid ((x.kind==97||x.kind==33)=false->∀wr,Calls prog 86 #[.string (AR e x.L),.string (AR e x.R)] wr λe' m=>e'=.returned (.bool (Ff (AR e x.L) (AR e x.R)))/\m=wr):=λh wr=>Ly _ _ wr (D.cmp h).2.2.1 (D.cmp h).2.2.2.2.1 (D.cmp h).2.2.2.1 (D.cmp h).2.2.2.2.2
 obtain⟨B,hB⟩:∃B,CS (AA e) (AR e) (l.map CF.f) x=B:=⟨_,rfl⟩;rw[hB];have b:Hid ((if x.kind==97 then FK (l.map CF.f) (AA e x.A)else if x.kind==33 then !FK (l.map CF.f) (AA e x.A)else if x.kind==61 then(AR e x.L).toList==(AR e x.R).toList else if x.kind==35 then !((AR e x.L).toList==(AR e x.R).toList)else Ff (AR e x.L) (AR e x.R))=B):=hB;clear hB D hs hx;obtain⟨c,⟨g,d,j⟩,⟨v,n⟩,⟨q,s⟩,y⟩:=x;simp only at o t FF H G K b⊢;rw[Aa FF]at t;clear FF;have EY:Hid (∀F I,B7 ⟨AA e ⟨g,d,j⟩,.slice F d.length I⟩=[.string g,.slice F d.length I]):=λF I=>rfl
 generalize FK (l.map CF.f) (AA e ⟨g,d,j⟩)=HH at t b;generalize AA e ⟨g,d,j⟩=FP at o t EY;generalize AR e ⟨v,n⟩=VL at H K b;generalize AR e ⟨q,s⟩=VR at G K b;have hc:=Bo e;have S:Hid ((Ai e).length=26):=by show _=_;rw[CV,he]
 have hl:=Aa S;generalize Ai e=E at hc hl S o H G⊢;simp only[BQ,B6,AM]at o H G⊢;have z:=Ab ((AE.new w E 90).alloc (.cells [.int .u8 c.toNat,.string g,.slice k d.length i,.int .i64 j,.int .u8 v.toNat,.string n,.int .u8 q.toNat,.string s,.int .i64 y].toArray 95));have a:Hid (AE ((w.alloc (.cells E.toArray 90)).alloc (.cells [.int .u8 c.toNat,.string g,.slice k d.length i,.int .i64 j,.int .u8 v.toNat,.string n,.int .u8 q.toNat,.string s,.int .i64 y].toArray 95)) (w.heap.size+1) [.int .u8 c.toNat,.string g,.slice k d.length i,.int .i64 j,.int .u8 v.toNat,.string n,.int .u8 q.toNat,.string s,.int .i64 y] 95):=by
  have h:=AE.new (w.alloc (.cells E.toArray 90)) [.int .u8 c.toNat,.string g,.slice k d.length i,.int .i64 j,.int .u8 v.toNat,.string n,.int .u8 q.toNat,.string s,.int .i64 y] 95;simp only[cD]at h;exact h
 have C:=Ab (((Ac.refl [] w).alloc (.cells E.toArray 90)).alloc (.cells [.int .u8 c.toNat,.string g,.slice k d.length i,.int .i64 j,.int .u8 v.toNat,.string n,.int .u8 q.toNat,.string s,.int .i64 y].toArray 95));have HJ:((c.toNat:Int)==97)=(c==97):=B2 _ 97;have FL:((c.toNat:Int)==33)=(c==33):=B2 _ 33;have CC:((c.toNat:Int)==61)=(c==61):=B2 _ 61;have BT:((c.toNat:Int)==35)=(c==35):=B2 _ 35;cases h97:(c==97)with
 |true=>
  rw[h97]at b o t HJ;rw[if_pos rfl]at b;have Bx:=Ab (Aa o rfl);have AT:=Ab (Aa t rfl);clear o t H G K FL CC BT;go_enter func88,ntmps88;apply wp_seq_k;intro KK O;have M:=Ab O;clear O;go_wp2;refine Aa M _ _ ?_;clear M KK;change Code.wp _ _ _ _ ((w.alloc (.cells E.toArray 90)).alloc (.cells [.int .u8 c.toNat,.string g,.slice k d.length i,.int .i64 j,.int .u8 v.toNat,.string n,.int .u8 q.toNat,.string s,.int .i64 y].toArray 95));generalize((w.alloc (.cells E.toArray 90)).alloc (.cells [.int .u8 c.toNat,.string g,.slice k d.length i,.int .i64 j,.int .u8 v.toNat,.string n,.int .u8 q.toNat,.string s,.int .i64 y].toArray 95))=w1 at z a C⊢;generalize w.heap.size=N at z a⊢;have c0:=(Aa a).cell 0;have U:=(Aa a).cell 1;have W:=(Aa a).cell 2;have X:=(Aa a).cell 3;have c4:=(Aa a).cell 4;have Y:=(Aa a).cell 5;have Z:=(Aa a).cell 6;have T:=(Aa a).cell 7;simp at c0 U W X c4 Y Z T;go_wp2_with (first|((with_reducible show wpList _ _ _ ({dst:=_,op:=Op.load 90 _,type:=_,pos:=_,after:=_,guard:=_}::_) _ _);refine dU rfl 90 _ rfl N 0 (by rfl) E _ (Aa z).range underlying90 rfl (by rw[Aa S];exact Tryz.em) ?_)|fail)
  refine(Aa Bx _ (Aa C)).mono ?_;rintro _ w2 ⟨F,I,rfl,AH,u⟩;have P:=Ab (Aa AT (.slice F d.length I) w2 ((Aa C).trans u) AH);have V:=Ab ((Aa C).trans u);rw[Aa EY]at P⊢;clear AH u Bx AT;go_wp2_with fail
  refine(Aa P).mono ?_;rintro _ w3 ⟨rfl,J⟩;have Q:=Ab ((Aa V).trans J);clear J P;go_wp2;go_ret;rw[<-Aa b];exact⟨rfl,Aa Q⟩
 |false=>
  rw[h97]at b o t HJ H G K;rw[if_neg (by simp)]at b;cases h33:(c==33)with
  |true=>
   rw[h33]at b o t FL;rw[if_pos rfl]at b;have Bx:=Ab (Aa o rfl);have AT:=Ab (Aa t rfl);clear o t H G K CC BT;go_enter func88,ntmps88;apply wp_seq_k;intro KK O;have M:=Ab O;clear O;go_wp2;refine Aa M _ _ ?_;clear M KK;change Code.wp _ _ _ _ ((w.alloc (.cells E.toArray 90)).alloc (.cells [.int .u8 c.toNat,.string g,.slice k d.length i,.int .i64 j,.int .u8 v.toNat,.string n,.int .u8 q.toNat,.string s,.int .i64 y].toArray 95));generalize((w.alloc (.cells E.toArray 90)).alloc (.cells [.int .u8 c.toNat,.string g,.slice k d.length i,.int .i64 j,.int .u8 v.toNat,.string n,.int .u8 q.toNat,.string s,.int .i64 y].toArray 95))=w1 at z a C⊢;generalize w.heap.size=N at z a⊢;have c0:=(Aa a).cell 0;have U:=(Aa a).cell 1;have W:=(Aa a).cell 2;have X:=(Aa a).cell 3;have c4:=(Aa a).cell 4;have Y:=(Aa a).cell 5;have Z:=(Aa a).cell 6;have T:=(Aa a).cell 7;simp at c0 U W X c4 Y Z T;go_wp2_with (first|((with_reducible show wpList _ _ _ ({dst:=_,op:=Op.load 90 _,type:=_,pos:=_,after:=_,guard:=_}::_) _ _);refine dU rfl 90 _ rfl N 0 (by rfl) E _ (Aa z).range underlying90 rfl (by rw[Aa S];exact Tryz.em) ?_)|fail)
   refine(Aa Bx _ (Aa C)).mono ?_;rintro _ w2 ⟨F,I,rfl,AH,u⟩;have P:=Ab (Aa AT (.slice F d.length I) w2 ((Aa C).trans u) AH);have V:=Ab ((Aa C).trans u);rw[Aa EY]at P⊢;clear AH u Bx AT;(go_wp2_with fail);refine(Aa P).mono ?_;rintro _ w3 ⟨rfl,J⟩;have Q:=Ab ((Aa V).trans J);clear J P;go_wp2;go_ret;rw[<-Aa b];exact⟨rfl,Aa Q⟩
  |false=>
   rw[h33]at b FL H G K;rw[if_neg (by simp)]at b;have Go:=Ab (Aa H rfl);have HE:=Ab (Aa G rfl);have HL:=Ab (Aa K rfl);clear o t H G K;go_enter func88,ntmps88;apply wp_seq_k;intro KK O;have M:=Ab O;clear O;go_wp2;refine Aa M _ _ ?_;clear M KK;change Code.wp _ _ _ _ ((w.alloc (.cells E.toArray 90)).alloc (.cells [.int .u8 c.toNat,.string g,.slice k d.length i,.int .i64 j,.int .u8 v.toNat,.string n,.int .u8 q.toNat,.string s,.int .i64 y].toArray 95));generalize((w.alloc (.cells E.toArray 90)).alloc (.cells [.int .u8 c.toNat,.string g,.slice k d.length i,.int .i64 j,.int .u8 v.toNat,.string n,.int .u8 q.toNat,.string s,.int .i64 y].toArray 95))=w1 at z a C⊢;generalize w.heap.size=N at z a⊢;have c0:=(Aa a).cell 0;have U:=(Aa a).cell 1;have W:=(Aa a).cell 2;have X:=(Aa a).cell 3;have c4:=(Aa a).cell 4;have Y:=(Aa a).cell 5;have Z:=(Aa a).cell 6;have T:=(Aa a).cell 7;simp at c0 U W X c4 Y Z T;go_wp2_with (first|((with_reducible show wpList _ _ _ ({dst:=_,op:=Op.load 90 _,type:=_,pos:=_,after:=_,guard:=_}::_) _ _);refine dU rfl 90 _ rfl N 0 (by rfl) E _ (Aa z).range underlying90 rfl (by rw[Aa S];exact Tryz.em) ?_)|fail)
   refine(Aa Go _).mono ?_;rintro _ w2 ⟨rfl,u⟩;have FW:=Ab ((Aa z).kept u (by simp));have BA:=(Aa a).kept u (by simp);have V:=Ab ((Aa C).trans u);have d0:=BA.cell 0;have d6:=BA.cell 6;have d7:=BA.cell 7;simp at d0 d6 d7;have HA:=Ab BA;clear u z a C Go BA c0 U W X c4 Y Z T;go_wp2_with (first|((with_reducible show wpList _ _ _ ({dst:=_,op:=Op.load 90 _,type:=_,pos:=_,after:=_,guard:=_}::_) _ _);refine dU rfl 90 _ rfl N 0 (by rfl) E _ (Aa FW).range underlying90 rfl (by rw[Aa S];exact Tryz.em) ?_)|fail)
   refine(Aa HE _).mono ?_;rintro _ w3 ⟨rfl,J⟩;have Q:=Ab ((Aa V).trans J);have HN:=((Aa HA).kept J (by simp)).cell 0;simp at HN;clear J V HE FW HA d0 d6 d7;cases h61:(c==61)with
   |true=>
    rw[h61]at b CC;rw[if_pos rfl]at b;go_wp2;go_ret;rw[<-Aa b];exact⟨rfl,Aa Q⟩
   |false=>
    rw[h61]at b CC;rw[if_neg (by simp)]at b;cases h35:(c==35)with
    |true=>
     rw[h35]at b BT;rw[if_pos rfl]at b;go_wp2;go_ret;rw[<-Aa b];exact⟨rfl,Aa Q⟩
    |false=>
     rw[h35]at b BT;rw[if_neg (by simp)]at b;(go_wp2_with fail);refine(Aa HL _).mono ?_;rintro _ w4 ⟨rfl,rfl⟩;go_wp2;go_ret;rw[<-Aa b];exact⟨rfl,Aa Q⟩
def No(cs:List A7)(p:AY):Bool:=KT p&&((decide (0<=CT cs p.1.A.name)&& !(CT cs p.1.A.name==(p.1.A.args.length:Int)))||decide (2<p.1.A.args.length))
def E3:C2:=⟨ByteArray.empty,[],0⟩
def Ju(cs:List A7)(bl:List AY):Int×Int:=
 match bl.find? (No cs)with
 |some p=>(4,p.1.A.at_)
 |none=>if 0<=C3 E3 bl then(5,C3 E3 bl)else(0,0)
def Dw(s:cR)(cs:List A7)(er at_:Int):Prop:=
 if 300<s.size then er=1/\at_=0
 else if(Be s 0).2.2=true\/Af s (Be s 0).2.1<s.size then er=2/\at_=(AQ s (Be s 0).2.1 (Be s 0).2.2:Int)
 else if 3<(Be s 0).1.length then er=3/\at_=0
 else∃bl:List AY,bl.map Prod.fst=(Be s 0).1/\(er,at_)=Ju cs bl
def Mj(s:cR)(cs:List A7)(w:World)(bv:Value)(er:Int):Prop:=
 er=0->s.size<=300/\(Be s 0).2.2=false/\¬Af s (Be s 0).2.1<s.size/\∃(ad:Option Addr) (cp:Nat) (bl:List AY),bv=.slice ad bl.length cp/\bl.length<=3/\bl.map Prod.fst=(Be s 0).1/\w.ownsRow 0 95 9 bv bl.length (bl.flatMap AN)/\(∀p∈bl,BJ w 0 p)/\Ju cs bl=(0,0)
theorem Kq(cs:List A7)(p:AY){A:Int}(d:CT cs p.1.A.name=A){n:Nat}(e:p.1.A.args.length=n):
  (No cs p=true/\KT p=true/\((0<=A/\(A==(n:Int))=false/\¬A=(n:Int)/\True)\/(0<=A/\(A==(n:Int))=true/\A=(n:Int)/\(2:Int)<(n:Int))\/(A<0/\True/\True/\(2:Int)<(n:Int))))\/
  (No cs p=false/\(KT p=false\/(KT p=true/\((0<=A/\(A==(n:Int))=true/\A=(n:Int)/\¬(2:Int)<(n:Int))\/(A<0/\True/\True/\¬(2:Int)<(n:Int)))))):=by
 unfold No;rw[d,e];cases hi:KT p with
 |false=>exact Or.inr ⟨rfl,Or.inl rfl⟩
 |true=>
  by_cases c:0<=A
  .by_cases a:A=(n:Int)
   .by_cases b:2<n
    .exact Or.inl ⟨by simp[b],rfl,Or.inr (Or.inl ⟨c,by simp[a],a,by omega⟩)⟩
    .exact Or.inr ⟨by simp[b,a],Or.inr ⟨rfl,Or.inl ⟨c,by simp[a],a,by omega⟩⟩⟩
   .exact Or.inl ⟨by simp[c,a],rfl,Or.inl ⟨c,by simp[a],a,trivial⟩⟩
  .by_cases b:2<n
   .exact Or.inl ⟨by simp[b],rfl,Or.inr (Or.inr ⟨by omega,trivial,trivial,by omega⟩)⟩
   .exact Or.inr ⟨by simp[b,c],Or.inr ⟨rfl,Or.inr ⟨by omega,trivial,trivial,by omega⟩⟩⟩
theorem Ws(s:cR)(Y:Nat)(LC:Option Addr)(Jx:Nat)(cs:List A7)(w:World)(LS:s.size<=9223372036854775807)(hP:AE w Y [.slice LC cs.length Jx] 76)(hR:Ci w (.slice LC cs.length Jx) cs)(hF:Tf cs):
  Calls prog 112 #[.string s,.pointer (some ⟨Y,0,none⟩)] w λe m=>∃(K:Value) (j l:Int),e=.returned (.tuple #[K,.int .i64 j,.int .i64 l])/\Dw s cs j l/\Mj s cs m K j/\Ac [] w m:=by
 have Mo:Hid (∀x f,Ac [] w f->Calls prog 23 #[.pointer (some ⟨Y,0,none⟩),.string x] f λe m=>e=.returned (.int .i64 (CT cs x))/\Ac [] f m):=λx f y=>JL Y _ cs x f (hP.kept y (by simp)) (hR.kept y) (by have:=hF.len;omega) (λc hc=>by have:=hF.body c hc;omega)
 clear hP hR hF;by_cases HM:300<s.size
 .have C:Hid (Dw s cs 1 0):=by show Dw _ _ _ _;unfold Dw;rw[if_pos HM];exact⟨rfl,rfl⟩
  go_enter func112,ntmps112;go_wp2;go_ret3;exact⟨_,1,0,rfl,C.out,(λh=>by cases h),Ac.refl _ _⟩
 .have hs:s.size<=300:=by omega
  have HS:s.size<=1000000:=by omega
  obtain⟨L,a,B,S⟩:∃L a B,Be s 0=(L,a,B):=⟨_,_,_,rfl⟩;have ha:a<=s.size:=by have:=Pd s 0 (b8 _);rw[S]at this;exact this
  have C:Hid (∀j l:Int,(if B=true\/Af s a<s.size then j=2/\l=(AQ s a B:Int)else if 3<L.length then j=3/\l=0 else∃d:List AY,d.map Prod.fst=L/\(j,l)=Ju cs d)->Dw s cs j l):=by
   intro j l h;unfold Dw;rw[if_neg HM,S];exact h
  have P:Hid (B=false->¬Af s a<s.size->∀(ad:Option Addr) (cp:Nat) (d:List AY) (f:World),d.length<=3->d.map Prod.fst=L->f.ownsRow 0 95 9 (.slice ad d.length cp) d.length (d.flatMap AN)->(∀p∈d,BJ f 0 p)->Ju cs d=(0,0)->Mj s cs f (.slice ad d.length cp) 0):=by
   intro h1 h2 ad cp d f F h4 h5 h6 h7 _;rw[S];exact⟨hs,h1,h2,ad,cp,d,rfl,F,h4,h5,h6,h7⟩
  have KK:Hid (L.length<=s.size+1/\∀x∈L,x.A.args.length<=s.size+1):=by have h:=IL s 0 (b8 _);rw[S]at h;exact⟨by have:=h.1;omega,h.2.1⟩
  have K6:Hid (∀b f,AE f b (BO s 0 false) 73->Calls prog 81 #[.pointer (some ⟨b,0,none⟩)] f λe m=>∃(K:Value) (d:List AY),e=.returned K/\d.map Prod.fst=L/\
    m.ownsRow f.heap.size 95 9 K d.length (C6 d)/\(∀p∈d,BJ m f.heap.size p)/\AE m b (BO s a B) 73/\Ac [b] f m):=by
   intro b f hb;have h:=Tr b s 0 f HS (b8 _) hb;rw[S]at h;exact h
  clear S HM LS;go_enter func112,ntmps112;go_wp2_with fail
  refine(Aa K6 _ _ (AE.new w (BO s 0 false) 73)).mono ?_;rintro e w2 ⟨K,d,rfl,V,ES,FA,H2,H⟩;have H6:Hid (Ac [] w w2):=((Ac.refl [] w).alloc _).trans' H (λi u=>Or.inr (by simp at u;omega));have K8:=Ab (Ak ES (b8 _));have JJ:Hid (∀p∈d,BJ w2 0 p):=λp t=>Ak (FA p t) (b8 _)
  have H3:=Ab H2;have HU:∀i,K.ownBlock=some i->w.heap.size+1<=i:=λi u=>by have:=(ES.lt i u).1;simp at this;omega
  have K3:∀p∈d,∀i,p.2.ownBlock=some i->w.heap.size+1<=i:=λp t i u=>by have:=((FA p t).lt i u).1;simp at this;omega
  obtain⟨X,T,rfl⟩:=Aj ES;clear K6 ES FA H2 H;go_wp2_with fail
  refine(CZ w.heap.size s a B _ HS ha (Aa H3)).mono ?_;rintro e I ⟨rfl,FO,k3⟩;have N:Hid (Ac [] w I):=(Aa H6).trans' k3 (λi u=>Or.inr (by simp at u;omega));have HF:Hid (I.ownsRow 0 95 9 (.slice X d.length T) d.length (d.flatMap AN)):=Al (Aa K8) k3 (λi u hm=>by simp at hm;have:=HU i u;omega);have HL:Hid (∀p∈d,BJ I 0 p):=λp t=>Al (Aa JJ p t) k3 (λi u hm=>by simp at hm;have:=K3 p t i u;omega)
  have f1:=FO.cell 1;have f2:=FO.cell 2;simp[BO]at f1 f2;clear HU K3 K8 JJ H3 H6 FO k3;obtain⟨G,hG⟩:∃G,AQ s a B=G:=⟨_,rfl⟩;rw[hG]at f1 C;have HW:B=false->Af s a=G:=λh=>by rw[<-hG,h];rfl
  clear hG;cases B with
  |true=>
   have r:=Ab (Aa C 2 G (by rw[if_pos (Or.inl rfl)];exact⟨rfl,rfl⟩));clear C P;go_wp2_with fail
   go_region_held3 (λm=>m.cell? ⟨w.heap.size,1,none⟩=some (.int .i64 G)) (go_keep) (fail)
   rename_i FC;clear FC;go_wp2;go_ret3;exact⟨_,2,G,rfl,Aa r,(λh=>by cases h),(Aa N).drew⟩
  |false=>
   rw[HW rfl]at C P;clear HW;by_cases FW:G<s.size
   .have r:=Ab (Aa C 2 G (by rw[if_pos (Or.inr FW)];exact⟨rfl,rfl⟩));clear C P;(have MY:(G:Int)<(s.size:Int):=by omega);go_wp2_with fail
    go_region_held3 (λm=>m.cell? ⟨w.heap.size,1,none⟩=some (.int .i64 G)) (go_keep) (fail)
    rename_i FC;clear FC;go_wp2;go_ret3;exact⟨_,2,G,rfl,Aa r,(λh=>by cases h),(Aa N).drew⟩
   ·(have MY:¬(G:Int)<(s.size:Int):=by omega);(have KS:L.length=d.length:=by rw[<-V,bX]);(have AO:Hid (∀j l:Int,(if 3<d.length then j=3/\l=0 else∃d:List AY,d.map Prod.fst=L/\(j,l)=Ju cs d)->Dw s cs j l):=λj l h=>Aa C j l (by rw[if_neg (by rintro (h|h);cases h;exact FW h),KS];exact h));clear C;by_cases F:3<d.length
    .have r:=Ab (Aa AO 3 0 (by rw[if_pos F];exact⟨rfl,rfl⟩));clear AO P;go_wp2;go_ret3;exact⟨_,3,0,rfl,Aa r,(λh=>by cases h),Aa N⟩
    ·(have r:Hid (∀j l:Int,(j,l)=Ju cs d->Dw s cs j l):=λj l h=>Aa AO j l (by rw[if_neg F];exact⟨d,V,h⟩));(have AT:Hid (∀f,Ac [] I f->Ju cs d=(0,0)->Mj s cs f (.slice X d.length T) 0):=λf y h=>Aa P rfl FW X T d f (by omega) V (Ad (Aa HF) y (by simp)) (λp t=>Ad (Aa HL p t) y (by simp)) h);have NL:Hid (∀p∈d,p.1.A.args.length<=1000000):=λp t=>by
      have:=(Aa KK).2 p.1 (by rw[<-V];exact cm t);omega
     clear AO P V KS KK;(go_wp2_with fail);clear f1 f2
     go_loopw [9] (λi wr=>∃k:Nat,i=.int .i64 k/\k<=d.length/\Hid ((d.take k).any (No cs)=false)/\Hid (Ac [] I wr)) (λi _=>d.length-(intOf i).toNat)
     case atStart=>exact⟨0,rfl,b8 _,by show _=_;simp,Ac.refl _ _⟩
     case round=>
      obtain⟨k,rfl,y,HC,D⟩:=hrel;by_cases q:k<d.length
      .obtain⟨g,NS,he,hc,z⟩:=Av (Ad (Aa HF) (Aa D) (by simp)) (λc _=>Bw c) k q;simp only[bK]at he;obtain⟨rfl,_,rfl⟩:=he;have K5:BJ _ 0 d[k]:=(Aa HL d[k] (bL q)).kept (Aa D) (by simp);obtain⟨HO,HB,K1⟩:=Aj K5;have d0:=z k q 0 (by omega);have d1:=z k q 1 (by omega);have d2:=z k q 2 (by omega);have d3:=z k q 3 (by omega);have d4:=z k q 4 (by omega);have d5:=z k q 5 (by omega);have d6:=z k q 6 (by omega);have d7:=z k q 7 (by omega);have d8:=z k q 8 (by omega);simp[AN,BQ]at d0 d1 d2 d3 d4 d5 d6 d7 d8;rw[K1]at d2;clear z K5;(have HN:Hid (No cs d[k]=false->(d.take (k+1)).any (No cs)=false):=by intro h;rw[Ct _ _ k q HC.out];exact h);(have HY:Hid (No cs d[k]=true->Ju cs d=(4,(d[k].1.A.at_:Int))):=by intro h;unfold Ju;rw[EJ _ _ k q HC.out h]);obtain⟨A,hA⟩:∃A,CT cs d[k].1.A.name=A:=⟨_,rfl⟩;obtain⟨n,hn⟩:∃n,d[k].1.A.args.length=n:=⟨_,rfl⟩;have H1:=Kq cs d[k] hA hn;(have HX:Hid (∀f,Ac [] I f->Calls prog 23 #[.pointer (some ⟨Y,0,none⟩),.string d[k].1.A.name] f λe m=>e=.returned (.int .i64 A)/\Ac [] f m):=λf y=>by rw[<-hA];exact Aa Mo _ f ((Aa N).trans y));rw[hn]at d2;have E:=Dp d[k];obtain⟨o,H0⟩:∃o,(d[k].1.kind.toNat:Int)=o:=⟨_,rfl⟩;obtain⟨J,K4⟩:∃J,(d[k].1.A.at_:Int)=J:=⟨_,rfl⟩;obtain⟨IA,H5⟩:∃IA,KT d[k]=IA:=⟨_,rfl⟩;rw[H0]at d0 E;rw[K4]at d3 HY;rw[H5]at E H1;have H8:Hid (∀f,Ac [] (wr.alloc (.cells #[.int .u8 o,.string d[k].1.A.name,.slice HO n HB,.int .i64 J,.int .u8 d[k].1.L.v.toNat,.string d[k].1.L.s,.int .u8 d[k].1.R.v.toNat,.string d[k].1.R.s,.int .i64 d[k].1.at_] 95)) f->f.cell? ⟨wr.heap.size,0,none⟩=some (.int .u8 o)/\f.cell? ⟨wr.heap.size,2,none⟩=some (.slice HO n HB)/\f.cell? ⟨wr.heap.size,3,none⟩=some (.int .i64 J)):=by
        intro f y;have h:=(AE.new wr [.int .u8 o,.string d[k].1.A.name,.slice HO n HB,.int .i64 J,.int .u8 d[k].1.L.v.toNat,.string d[k].1.L.s,.int .u8 d[k].1.R.v.toNat,.string d[k].1.R.s,.int .i64 d[k].1.at_] 95).kept y (by simp);exact⟨h.cell 0,h.cell 2,h.cell 3⟩
       clear H0 K4 H5 K1 hA hn HC;(go_wp2_with fail);refine(Aa HX _ ((Aa D).alloc _)).mono ?_;rintro e w5 ⟨rfl,O⟩;obtain⟨y0,y2,y3⟩:=Aa H8 w5 O;have M:Hid (Ac [] I w5):=((Aa D).alloc _).trans O;clear O H8 HX D d0 d1 d2 d3 d4 d5 d6 d7 d8;rcases H1 with⟨Z,rfl,W⟩|⟨Z,W⟩
       .have M2:=Ab (Aa r 4 J (Aa HY Z).symm);clear HY HN r AT Z;have U:(o==97)=true/\True\/(o==97)=false/\(o==33)=true:=by
         rcases E with h|h|h
         .exact Or.inl ⟨h.1,trivial⟩
         .exact Or.inr ⟨h.1,h.2.1⟩
         .cases h.2.2
        clear E;rcases U with⟨k1,H⟩|⟨k1,H⟩<;>rcases W with⟨a1,a2,a3,a4⟩|⟨a1,a2,a3,a4⟩|⟨a1,a2,a3,a4⟩;all_goals
         go_wp2_with fail
         go_quiet (fail)
         go_wp2;go_ret3;exact⟨_,4,J,rfl,Aa M2,(λh=>by cases h),(Aa N).trans ((Aa M).drewN _)⟩
       .have K9:=Ab (Aa HN Z);clear HY HN Z;rcases W with rfl|⟨rfl,W⟩
        .have U:(o==97)=false/\(o==33)=false:=by
          rcases E with h|h|h
          .cases h.2
          .cases h.2.2
          .exact⟨h.1,h.2.1⟩
         obtain⟨k1,H⟩:=U;clear E;go_wp2
         go_roundw
         case rel=>exact⟨k+1,by go_num,by omega,K9,M⟩
         case measure=>simp[intOf];omega
        .have U:(o==97)=true/\True\/(o==97)=false/\(o==33)=true:=by
          rcases E with h|h|h
          .exact Or.inl ⟨h.1,trivial⟩
          .exact Or.inr ⟨h.1,h.2.1⟩
          .cases h.2.2
         clear E;rcases U with⟨k1,H⟩|⟨k1,H⟩<;>rcases W with⟨a1,a2,a3,a4⟩|⟨a1,a2,a3,a4⟩;all_goals
          go_wp2
          go_roundw
          case rel=>exact⟨k+1,by go_num,by omega,K9,M⟩
          case measure=>simp[intOf];omega
      .have Q:Hid (Ju cs d=if 0<=C3 E3 d then(5,C3 E3 d)else(0,0)):=by
        show _=_;have h:=HC.out;rw[bP (by omega)]at h;unfold Ju;have h2:d.find? (No cs)=none:=by
         rw[dC];intro x hx hf;(have F:d.any (No cs)=true:=by rw[dp];exact⟨x,hx,hf⟩);rw[h]at F;cases F
        rw[h2]
       have HA:Hid (Calls prog 84 #[.agg #[.string ⟨#[]⟩,.slice none 0 0,.int .i64 0],.slice X d.length T] wr λe m=>e=.returned (.int .i64 (C3 E3 d))/\Ac [] wr m):=
        Ty E3 (.slice none 0 0) (.slice X d.length T) d wr (ck _ _ _ _) (Ad (Aa HF) (Aa D) (by simp)) (λp t=>Ad (Aa HL p t) (Aa D) (by simp)) (by omega) (Aa NL) (by simp[E3])
       generalize C3 E3 d=SP at Q HA;clear HC;(go_wp2_with fail);refine(Aa HA).mono ?_;rintro e w5 ⟨rfl,O⟩;have M:=Ab ((Aa D).trans O);clear HA O D;by_cases h0:0<=SP
       .have HH:=Ab (Aa r 5 SP (by rw[Aa Q,if_pos h0]));clear Q r AT;go_wp2;go_ret3;exact⟨_,5,SP,rfl,Aa HH,(λh=>by cases h),(Aa N).trans (Aa M)⟩
       .have HH:=Ab (Aa r 0 0 (by rw[Aa Q,if_neg h0]));have M1:=Ab (Aa AT w5 (Aa M) (by rw[Aa Q,if_neg h0]));clear Q r AT;go_wp2;go_ret3;exact⟨_,0,0,rfl,Aa HH,Aa M1,(Aa N).trans (Aa M)⟩
