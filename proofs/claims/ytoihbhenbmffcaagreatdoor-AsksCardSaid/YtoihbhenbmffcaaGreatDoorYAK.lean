import Derived.Test.YtoihbhenbmffcaaGreatDoorYAJ
set_option linter.all false
set_option maxHeartbeats 0
namespace Go.Proofs.YtoihbhenbmffcaaGreatDoor
open Go.RowKit Go.Proofs.Tryz
theorem WT(s:cR)(j a:Nat)(t:AG):Hg s j a t true=(⟨0,Gc,t,DV,j⟩,a,true):=by simp[Hg]
theorem Zg{s:cR}{i:Nat}(h:¬i<s.size)(c:UInt8):DW s i c=false:=by simp[DW,h]
theorem XK{s:cR}{j a:Nat}{t:AG}(h:¬a<s.size):Hg s j a t false=(⟨0,Gc,t,DV,j⟩,a,true):=by simp[Hg,Zg h]
theorem Hk{s:cR}{i:Nat}(h:i<s.size)(c:UInt8):DW s i c=((s[i].toNat:Int)==(c.toNat:Int)):=by rw[B2];simp[DW,h]
theorem Wi{s:cR}{j a:Nat}{t:AG}(h:a<s.size)(b:((s[a].toNat:Int)==61)=false)(c:((s[a].toNat:Int)==35)=false)(d:((s[a].toNat:Int)==60)=false):
  Hg s j a t false=(⟨0,Gc,t,DV,j⟩,a,true):=by
 unfold Hg;rw[Hk h 61,Hk h 35,Hk h 60];rw[show((s[a].toNat:Int)==((61:UInt8).toNat:Int))=false from b,show((s[a].toNat:Int)==((35:UInt8).toNat:Int))=false from c,show((s[a].toNat:Int)==((60:UInt8).toNat:Int))=false from d]
 rfl
theorem RJ{s:cR}{j a:Nat}{t:AG}(h:a<s.size)(b:((s[a].toNat:Int)==61)=true\/((s[a].toNat:Int)==35)=true\/((s[a].toNat:Int)==60)=true):
  Hg s j a t false=(⟨s[a],Gc,t,(AP s (a+1) false).1,j⟩,(AP s (a+1) false).2):=by
 unfold Hg Cb;rw[Hk h 61,Hk h 35,Hk h 60,dif_pos h];rw[if_pos];simp only[dn,dF,dr];rcases b with b|b|b
 .exact Or.inl (Or.inl b)
 .exact Or.inl (Or.inr b)
 .exact Or.inr b
theorem WN{s:cR}{j:Nat}(h:¬j<s.size):(AP s j false).2.2=true:=by
 have a:=Cv s j;unfold AP;rw[dif_neg (by omega)];rfl
theorem T6(s:cR)(j a:Nat)(t:AG)(d:Bool):
  (Hg s j a t d=(⟨0,Gc,t,DV,j⟩,a,true)/\(d=true\/(d=false/\¬a<s.size)\/(d=false/\∃h:a<s.size,((s[a].toNat:Int) !=61)=true/\((s[a].toNat:Int) !=35)=true/\((s[a].toNat:Int) !=60)=true)))\/
  (d=false/\∃h:a<s.size,Hg s j a t d=(⟨s[a],Gc,t,(AP s (a+1) false).1,j⟩,(AP s (a+1) false).2)/\(((s[a].toNat:Int) !=61)=false\/(((s[a].toNat:Int) !=61)=true/\((s[a].toNat:Int) !=35)=false)\/(((s[a].toNat:Int) !=61)=true/\((s[a].toNat:Int) !=35)=true/\((s[a].toNat:Int) !=60)=false))):=by
 have b:∀{x:Int} {c:Int} {v:Bool},(x==c)=v->(x !=c)= !v:=λh=>by simp only[bne,h]
 cases d
 .by_cases h:a<s.size
  .cases k1:((s[a].toNat:Int)==61)
   .cases k2:((s[a].toNat:Int)==35)
    .cases k3:((s[a].toNat:Int)==60)
     .exact Or.inl ⟨Wi h k1 k2 k3,Or.inr (Or.inr ⟨rfl,h,b k1,b k2,b k3⟩)⟩
     .exact Or.inr ⟨rfl,h,RJ h (Or.inr (Or.inr k3)),Or.inr (Or.inr ⟨b k1,b k2,b k3⟩)⟩
    .exact Or.inr ⟨rfl,h,RJ h (Or.inr (Or.inl k2)),Or.inr (Or.inl ⟨b k1,b k2⟩)⟩
   .exact Or.inr ⟨rfl,h,RJ h (Or.inl k1),Or.inl (b k1)⟩
  .exact Or.inl ⟨XK h,Or.inr (Or.inl ⟨rfl,h⟩)⟩
 .exact Or.inl ⟨WT s j a t,Or.inl rfl⟩
set_option maxRecDepth 100000
theorem ZM(b:Nat)(s:cR)(at_ j:Nat)(w:World)(t:AG)(M d:Nat)(f:Bool)(r:s.size<=1000000)(H0:at_<=s.size)(hj:Af s at_=j)(hx:DW s j 33=false)(ho:Hid ((EP s j&&KE s j)=false))
  (O:Hid (AP s j false=(t,M,f)/\AQ s M f=d)) (hB:AE w b (BO s at_ false) 73):
  Calls prog 129 #[.pointer (some ⟨b,0,none⟩)] w λe F=>∃av,e=.returned (.agg (BQ (Hg s j d t f).1 av).toArray)/\
   F.ownsRow w.heap.size 93 2 av (Hg s j d t f).1.A.args.length ((Hg s j d t f).1.A.args.flatMap AM)/\AE F b (BO s (Hg s j d t f).2.1 (Hg s j d t f).2.2) 73/\Ac [b] w F:=by
 have U:=Ab (T6 s j d t f);have HB:Hid (j<s.size\/f=true):=by
  by_cases h:j<s.size
  .exact Or.inl h
  .have h1:=WN h;rw[O.out.1]at h1;exact Or.inr h1
 generalize Hg s j d t f=Z at U⊢;have MN:=hB.lt;have Nq:j<=s.size:=by have:=Bk s at_ H0;omega
 have AB:AQ s j false=j:=by rw[<-hj];exact BY s at_
 have HN:B3 s j false 33=j:=by unfold B3;rw[AB,hx];rfl
 have HM:(!false&&DW s (AQ s j false) 33)=false:=by rw[AB,hx];rfl
 have W:Hid (Af s at_=j/\B3 s j false 33=j/\(!false&&DW s (AQ s j false) 33)=false):=⟨hj,HN,HM⟩;clear hj hx AB HN HM;go_enter func129,ntmps129;go_wp2_with fail
 refine(CZ b s at_ false _ r H0 (hB.alloc _)).mono ?_;rintro e w1 ⟨rfl,H,hK⟩;rw[show AQ s at_ false=j from W.out.1]at H
 have hn:=(AE.new w _ _).kept hK (by simp;omega);have HL:=((Ac.refl [b] w).alloc _).trans hK;clear hB hK;have K1:=H.lt;have H8:=hn.lt;have i:=H.cell 1;simp[BO]at i;go_wp2_with fail
 refine(Lp b s j false 33 33 _ rfl r (by omega) (H.alloc _)).mono ?_;rintro e w2 ⟨rfl,g,X⟩;rw[W.out.2.1]at g;rw[W.out.2.2];have m:=(AE.new w1 _ _).kept X (by simp;omega);have v:=(hn.alloc _).kept X (by simp;omega);have o:=(HL.alloc _).trans X;obtain⟨N,hN⟩:∃N,w1.heap.size=N:=⟨_,rfl⟩;rw[hN]at m⊢;have Mo:b<N:=by omega
 have Nx:w.heap.size<N:=by omega
 clear HL H hn K1 H8 i X hN W;have M0:=m.lt;have M6:=g.lt;have LS:=v.lt;have u:=g.cell 0;have i:=g.cell 1;have q:=g.cell 2;simp[BO]at u i q;have hL:(∃h:j<s.size,Az s[j]=true)\/(∃h:j<s.size,Az s[j]=false)\/¬j<s.size:=by
  by_cases h:j<s.size
  .cases L:Az s[j]
   .exact Or.inr (Or.inl ⟨h,L⟩)
   .exact Or.inl ⟨h,L⟩
  .exact Or.inr (Or.inr h)
 rcases hL with⟨J,L⟩|⟨J,L⟩|J
 case' inl=>
  have KK:(j:Int)<(s.size:Int):=by omega
  obtain⟨wd,x,l,T⟩:∃wd x l,Ba s j false=(wd,x,l):=⟨_,_,_,rfl⟩;have JA:x<=s.size:=by have:=GN s j false (by omega);rw[T]at this;exact this
  have HR:(!l&&DW s (AQ s x l) 40)=false:=by have h:=ho.out;rw[show EP s j=true by unfold EP;simp[J,L],dF]at h;unfold KE at h;rw[T]at h;exact h
  have HW:Hid (Ba s j false=(wd,x,l)/\(!l&&DW s (AQ s x l) 40)=false):=⟨T,HR⟩;clear T HR;go_wp2_with fail
  go_quiet ((go_at_call 169;exact eE (Hs _ s[j] _ rfl)))
  go_wp2_with fail
  go_region
  go_wp2_with fail
  refine(Lw w2.heap.size s j false _ r (by omega) (AE.new (w2.drewN _) (BO s j false) 73)).mono ?_;rintro e w3 ⟨rfl,FA,K⟩;rw[HW.out.1]at FA⊢;have HQ:=((g.drewN _).alloc _).kept K (by simp;omega);have HX:=((m.drewN _).alloc _).kept K (by simp;omega);have HO:=((v.drewN _).alloc _).kept K (by simp;omega);have HP:=((o.drewN _).alloc _).trans' K (by have:=o.size;simp;omega);clear g m v K u i q;simp only;go_wp2_with fail
  refine(O3 w2.heap.size s x l 40 40 _ rfl r JA FA).mono ?_;rintro e w4 ⟨rfl,_,I⟩;have G:=HQ.kept I (by simp;omega);have E:=HX.kept I (by simp;omega);have D:=HO.kept I (by simp;omega);have Q:=HP.trans' I (by have:=o.size;simp;omega);rw[HW.out.2];clear HQ HX HO HP I FA HW o
 case' inr.inl=>
  have KK:(j:Int)<(s.size:Int):=by omega
  go_wp2_with fail
  go_quiet ((go_at_call 169;exact eE (Hs _ s[j] _ rfl)))
  have G:=g.drewN nq;have E:=m.drewN nq;have D:=v.drewN nq;have Q:=o.drewN nq;clear g m v o u i q
 case' inr.inr=>
  have IA:decide ((j:Int)<(s.size:Int))=false:=by simp;omega
  have K3:decide (j<s.size)=false:=by simp;omega
  go_wp2_with fail
  go_quiet (fail)
  have G:=g.drewN nq;have E:=m.drewN nq;have D:=v.drewN nq;have Q:=o.drewN nq;clear g m v o u i q IA K3
 all_goals
  have LE:=E.lt;have K8:=G.lt;have M2:=D.lt;have H4:M<=s.size:=by have:=E9 s j false (by omega);rw[O.out.1]at this;exact this
  have LL:d<=s.size:=by have:=F1 s M f H4;rw[O.out.2]at this;exact this
  go_wp2_with fail
  refine(O7 b s j false _ r (by omega) (by first|exact G|exact G.drewN _)).mono ?_;rintro e w5 ⟨rfl,Ha,S⟩;rw[O.out.1]at Ha⊢;have P:=AE.kept (by first|exact E|exact E.drewN _) S (by simp;omega);have HV:=AE.kept (by first|exact D|exact D.drewN _) S (by simp;omega);have HK:=Ac.trans (by first|exact Q|exact Q.drewN _) S;clear G E D Q S;have C:=P.cell 4;have z:=P.cell 5;have Jx:=P.frozen;simp at C z;simp only[AM];go_wp2_with fail
  refine(CZ b s M f _ r H4 ((Ha.dT _ (by simp;omega) _).dT _ (by simp;omega) _)).mono ?_;rintro e w6 ⟨rfl,k,R⟩;rw[O.out.2]at k;have n:=((P.set 4 _).set 5 _).kept R (by simp;omega);have B:=((HV.dT _ (by simp;omega) _).dT _ (by simp;omega) _).kept R (by simp;omega);have EK:=((HK.setCell (p:=⟨N,4,none⟩) (by simp;omega) _).setCell (p:=⟨N,5,none⟩) (by simp;omega) _).trans R;clear Ha P HV HK R C z Jx;simp only[bI,bJ]at n;have LB:=k.lt;have M1:=B.lt;have K7:=n.lt;have u:=k.cell 0;have i:=k.cell 1;have q:=k.cell 2;have Ix:=k.frozen;simp[BO]at u i q;have K5:¬N=b:=by omega
  have LC:¬b=N:=by omega
  rcases Aa U with⟨rfl,Y⟩|⟨rfl,HY,rfl,Y⟩
  .clear U;rcases Y with rfl|⟨rfl,HY⟩|⟨rfl,HY,k1,k2,k3⟩;all_goals try (have h:=Aa HB;simp[J]at h;done)
   all_goals
    try have H6:(d:Int)<(s.size:Int):=by omega
    try have FC:decide ((s.size:Int)<=(d:Int))=false:=by simp;omega
    try have HE:decide (s.size<=d)=false:=by simp;omega
    try have FC:decide ((s.size:Int)<=(d:Int))=true:=by simp;omega
    try have HE:decide (s.size<=d)=true:=by simp;omega
    go_wp2_with fail
    go_quiet (fail)
    have a:=n.cell;have CC:=n.frozen;have c:=B.cell;have KD:=B.frozen;have y:=a 0;have e1:=a 1;have e2:=a 2;have e3:=a 3;have C:=a 4;have z:=a 5;have e6:=a 6;have e7:=a 7;have e8:=a 8;have f0:=c 0;have f1:=c 1;have f2:=c 2;have f3:=c 3;have f4:=c 4;have f5:=c 5;have f6:=c 6;have f7:=c 7;have f8:=c 8;simp at y e1 e2 e3 C z e6 e7 e8 f0 f1 f2 f3 f4 f5 f6 f7 f8;clear a c;go_wp2;refine cB (BL rfl rfl (((((((((((B.drewN _).dT _ (by simp;omega) _).set 0 _).set 1 _).set 2 _).set 3 _).set 4 _).set 5 _).set 6 _).set 7 _).set 8 _) underlying95 rfl (by kernel_rfl)) rfl ⟨_,rfl,ck _ _ _ _,?_,?_⟩
    .repeat (refine AE.dT ?_ _ (by simp;omega) _)
     exact(k.drewN _).set 2 _
    .repeat (refine Ac.setCell ?_ (by simp;try omega) _)
     exact EK.drewN _
  .clear U;(have H6:(d:Int)<(s.size:Int):=by omega);(have FC:decide ((s.size:Int)<=(d:Int))=false:=by simp;omega);(have HE:decide (s.size<=d)=false:=by simp;omega);rcases Y with p1|⟨p1,p2⟩|⟨p1,p2,p3⟩;all_goals try (have h:=Aa HB;simp[J]at h;done)
   all_goals
    go_wp2_with fail
    go_quiet (fail)
    have y:=n.cell 0;have CC:=n.frozen 0;simp at y;clear FC HE;go_wp2_with fail
    go_region_held3 (λF=>F.cell? ⟨b,0,none⟩=some (.string s)/\F.cell? ⟨b,1,none⟩=some (.int .i64 d)) (go_keep) (fail)
    clear y CC;(go_wp2_with fail);refine(O7 b s (d+1) false _ r (by omega) (((k.drewN _).dT ⟨N,0,none⟩ (by simp;omega) _).set 1 _)).mono ?_;rintro e w7 ⟨rfl,KS,V⟩;have HU:=(((n.drewN _).set 0 _).dT ⟨b,1,none⟩ (by simp;omega) _).kept V (by simp;omega);have HC:=(((B.drewN _).dT ⟨N,0,none⟩ (by simp;omega) _).dT ⟨b,1,none⟩ (by simp;omega) _).kept V (by simp;omega);have K2:=(((EK.drewN _).setCell (p:=⟨N,0,none⟩) (by simp;omega) _).setCell (p:=⟨b,1,none⟩) (by simp) _).trans V;clear k n B EK V u i q Ix;have a:=HU.cell;have CC:=HU.frozen;have c:=HC.cell;have KD:=HC.frozen;simp only[AM];have y:=a 0;have e1:=a 1;have e2:=a 2;have e3:=a 3;have C:=a 4;have z:=a 5;have e6:=a 6;have e7:=a 7;have e8:=a 8;have f0:=c 0;have f1:=c 1;have f2:=c 2;have f3:=c 3;have f4:=c 4;have f5:=c 5;have f6:=c 6;have f7:=c 7;have f8:=c 8;simp at y e1 e2 e3 C z e6 e7 e8 f0 f1 f2 f3 f4 f5 f6 f7 f8;clear a c;go_wp2;refine cB (BL rfl rfl (((((((((((HC.dT _ (by simp;omega) _).dT _ (by simp;omega) _).set 0 _).set 1 _).set 2 _).set 3 _).set 4 _).set 5 _).set 6 _).set 7 _).set 8 _) underlying95 rfl (by kernel_rfl)) rfl ⟨_,rfl,ck _ _ _ _,?_,?_⟩
    .repeat (refine AE.dT ?_ _ (by simp;omega) _)
     exact KS
    .repeat (refine Ac.setCell ?_ (by simp;try omega) _)
     exact K2
