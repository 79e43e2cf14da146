import Derived.Test.YtoihbhenbmffcaaGreatDoorZAL
import Derived.Test.YtoihbhenbmffcaaGreatDoorZAD
set_option linter.unusedVariables false
set_option linter.unusedSimpArgs false
set_option maxHeartbeats 6400000
namespace Go.Proofs.YtoihbhenbmffcaaGreatDoor
open Go.RowKit
open Go.Proofs.Tryz
set_option maxRecDepth 100000
theorem VH(b:Nat)(s:cL)(at_ j:Nat)(w:World)(t:AG)(i L:Nat)(r:s.size<=1000000)(Z:at_<=s.size)(H:Af s at_=j)(G:Cz s j 33=false)(HG:¬j<s.size)
  (z:Hid (AA s j false=(t,i,true)/\As s i true=L)) (I:Aw w b (AP s at_ false) 73):
  Calls prog 129 #[.pointer (some ⟨b,0,none⟩)] w λe J=>∃V,e= .returned (.agg (Bq ⟨0,CI,t,CV,j⟩ V).toArray)/\
   J.ownsRow w.heap.size 93 2 V 0 []/\Aw J b (AP s L true) 73/\Ac [b] w J:=by
 have HN:=I.lt;have HU:j<=s.size:=by have:=AN s at_ Z;omega
 have F:As s j false=j:=by rw[<-H];exact AZ s at_
 have U:Bi s j false 33=j:=by unfold Bi;rw[F,G];rfl
 have T:(!false&&Cz s (As s j false) 33)=false:=by rw[F,G];rfl
 have C:Hid (Af s at_=j/\Bi s j false 33=j/\(!false&&Cz s (As s j false) 33)=false):=⟨H,U,T⟩;clear H G F U T;go_enter func129,ntmps129;go_wp2_with fail
 refine(A1 b s at_ false _ r Z (I.alloc _)).mono ?_;rintro e Y ⟨rfl,h,K⟩;rw[show As s at_ false=j from C.out.1]at h
 have Q:=(Aw.new w _ _).kept K (by simp;omega);have S:=((Ac.refl [b] w).alloc _).trans K;clear I K;have Ha:=h.lt;have AT:=Q.lt;have g:=h.cell 1;simp[AP]at g;go_wp2_with fail
 refine(C0 b s j false 33 33 _ rfl r (by omega) (h.alloc _)).mono ?_;rintro e w2 ⟨rfl,d,D⟩;rw[C.out.2.1]at d;rw[C.out.2.2];have l:=(Aw.new Y _ _).kept D (by simp;omega);have P:=(Q.alloc _).kept D (by simp;omega);have X:=(S.alloc _).trans D;obtain⟨N,hN⟩:∃N,Y.heap.size=N:=⟨_,rfl⟩;rw[hN]at l⊢;have HL:b<N:=by omega
 have HV:w.heap.size<N:=by omega
 clear S h Q Ha AT g D hN C;have HO:=l.lt;have HS:=d.lt;have HI:=P.lt;have v:=d.cell 0;have g:=d.cell 1;have q:=d.cell 2;simp[AP]at v g q;have EK:decide ((j:Int)<(s.size:Int))=false:=by simp;omega
 have HA:decide (j<s.size)=false:=by simp;omega
 go_wp2_with fail
 go_quiet (fail)
 have E:=d.drewN nq;have B:=l.drewN nq;have A:=P.drewN nq;have O:=X.drewN nq;clear d l P X v g q EK HA;have HE:=B.lt;have HC:=E.lt;have HQ:=A.lt;have Ax:i<=s.size:=by have:=BK s j false (by omega);rw[z.out.1]at this;exact this
 have HH:L<=s.size:=by have:=B2 s i true Ax;rw[z.out.2]at this;exact this
 go_wp2_with fail
 refine(BQ b s j false _ r (by omega) (by first|exact E|exact E.drewN _)).mono ?_;rintro e w5 ⟨rfl,M,o⟩;rw[z.out.1]at M⊢;have k:=Aw.kept (by first|exact B|exact B.drewN _) o (by simp;omega);have W:=Aw.kept (by first|exact A|exact A.drewN _) o (by simp;omega);have R:=Ac.trans (by first|exact O|exact O.drewN _) o;clear E B A O o;have y:=k.cell 4;have u:=k.cell 5;have FA:=k.frozen;simp at y u;simp only[Az];go_wp2_with fail
 refine(A1 b s i true _ r Ax ((M.set_other _ (by simp;omega) _).set_other _ (by simp;omega) _)).mono ?_;rintro e w6 ⟨rfl,f,n⟩;rw[z.out.2]at f;have m:=((k.set 4 _).set 5 _).kept n (by simp;omega);have x:=((W.set_other _ (by simp;omega) _).set_other _ (by simp;omega) _).kept n (by simp;omega);have EX:=((R.setCell (p:=⟨N,4,none⟩) (by simp;omega) _).setCell (p:=⟨N,5,none⟩) (by simp;omega) _).trans n;clear M k W R n y u FA;simp only[Z4,Z5]at m;have HD:=f.lt;have HP:=x.lt;have HB:=m.lt;have v:=f.cell 0;have g:=f.cell 1;have q:=f.cell 2;have HF:=f.frozen;simp[AP]at v g q;go_wp2_with fail
 go_quiet (fail)
 have a:=m.cell;have HM:=m.frozen;have c:=x.cell;have HR:=x.frozen;have e0:=a 0;have e1:=a 1;have e2:=a 2;have e3:=a 3;have y:=a 4;have u:=a 5;have e6:=a 6;have e7:=a 7;have e8:=a 8;have f0:=c 0;have f1:=c 1;have f2:=c 2;have f3:=c 3;have f4:=c 4;have f5:=c 5;have f6:=c 6;have f7:=c 7;have f8:=c 8;simp at e0 e1 e2 e3 y u e6 e7 e8 f0 f1 f2 f3 f4 f5 f6 f7 f8;clear a c;go_wp2;refine aE (AY rfl rfl (((((((((((x.drewN _).set_other _ (by simp;omega) _).set 0 _).set 1 _).set 2 _).set 3 _).set 4 _).set 5 _).set 6 _).set 7 _).set 8 _) underlying95 rfl (by kernel_rfl)) rfl ⟨_,rfl,ax _ _ _ _,?_,?_⟩
 ·repeat (refine Aw.set_other ?_ _ (by simp;omega) _)
  exact(f.drewN _).set 2 _
 ·repeat (refine Ac.setCell ?_ (by simp;try omega) _)
  exact EX.drewN _
theorem Vh(b:Nat)(s:cL)(at_ j:Nat)(w:World)(t:AG)(i L:Nat)(r:s.size<=1000000)(Z:at_<=s.size)(H:Af s at_=j)(G:Cz s j 33=false)(HE:j<s.size)(hl:Av s[j]=false)
  (z:Hid (AA s j false=(t,i,true)/\As s i true=L)) (I:Aw w b (AP s at_ false) 73):
  Calls prog 129 #[.pointer (some ⟨b,0,none⟩)] w λe J=>∃V,e= .returned (.agg (Bq ⟨0,CI,t,CV,j⟩ V).toArray)/\
   J.ownsRow w.heap.size 93 2 V 0 []/\Aw J b (AP s L true) 73/\Ac [b] w J:=by
 have HL:=I.lt;have HS:j<=s.size:=by have:=AN s at_ Z;omega
 have F:As s j false=j:=by rw[<-H];exact AZ s at_
 have U:Bi s j false 33=j:=by unfold Bi;rw[F,G];rfl
 have T:(!false&&Cz s (As s j false) 33)=false:=by rw[F,G];rfl
 have C:Hid (Af s at_=j/\Bi s j false 33=j/\(!false&&Cz s (As s j false) 33)=false):=⟨H,U,T⟩;clear H G F U T;go_enter func129,ntmps129;go_wp2_with fail
 refine(A1 b s at_ false _ r Z (I.alloc _)).mono ?_;rintro e Y ⟨rfl,h,K⟩;rw[show As s at_ false=j from C.out.1]at h
 have Q:=(Aw.new w _ _).kept K (by simp;omega);have S:=((Ac.refl [b] w).alloc _).trans K;clear I K;have Go:=h.lt;have AT:=Q.lt;have g:=h.cell 1;simp[AP]at g;go_wp2_with fail
 refine(C0 b s j false 33 33 _ rfl r (by omega) (h.alloc _)).mono ?_;rintro e w2 ⟨rfl,d,D⟩;rw[C.out.2.1]at d;rw[C.out.2.2];have l:=(Aw.new Y _ _).kept D (by simp;omega);have P:=(Q.alloc _).kept D (by simp;omega);have X:=(S.alloc _).trans D;obtain⟨N,hN⟩:∃N,Y.heap.size=N:=⟨_,rfl⟩;rw[hN]at l⊢;have HI:b<N:=by omega
 have HV:w.heap.size<N:=by omega
 clear S h Q Go AT g D hN C;have HM:=l.lt;have HR:=d.lt;have HG:=P.lt;have v:=d.cell 0;have g:=d.cell 1;have q:=d.cell 2;simp[AP]at v g q;have HU:(j:Int)<(s.size:Int):=by omega
 go_wp2_with fail
 go_quiet ((go_at_call 169;exact bu (B1 _ s[j] _ rfl)))
 have E:=d.drewN nq;have B:=l.drewN nq;have A:=P.drewN nq;have O:=X.drewN nq;clear d l P X v g q;have HC:=B.lt;have HA:=E.lt;have HP:=A.lt;have Ax:i<=s.size:=by have:=BK s j false (by omega);rw[z.out.1]at this;exact this
 have HF:L<=s.size:=by have:=B2 s i true Ax;rw[z.out.2]at this;exact this
 go_wp2_with fail
 refine(BQ b s j false _ r (by omega) (by first|exact E|exact E.drewN _)).mono ?_;rintro e w5 ⟨rfl,M,o⟩;rw[z.out.1]at M⊢;have k:=Aw.kept (by first|exact B|exact B.drewN _) o (by simp;omega);have W:=Aw.kept (by first|exact A|exact A.drewN _) o (by simp;omega);have R:=Ac.trans (by first|exact O|exact O.drewN _) o;clear E B A O o;have y:=k.cell 4;have u:=k.cell 5;have EY:=k.frozen;simp at y u;simp only[Az];go_wp2_with fail
 refine(A1 b s i true _ r Ax ((M.set_other _ (by simp;omega) _).set_other _ (by simp;omega) _)).mono ?_;rintro e w6 ⟨rfl,f,n⟩;rw[z.out.2]at f;have m:=((k.set 4 _).set 5 _).kept n (by simp;omega);have x:=((W.set_other _ (by simp;omega) _).set_other _ (by simp;omega) _).kept n (by simp;omega);have EK:=((R.setCell (p:=⟨N,4,none⟩) (by simp;omega) _).setCell (p:=⟨N,5,none⟩) (by simp;omega) _).trans n;clear M k W R n y u EY;simp only[Z4,Z5]at m;have HB:=f.lt;have HN:=x.lt;have Ha:=m.lt;have v:=f.cell 0;have g:=f.cell 1;have q:=f.cell 2;have HD:=f.frozen;simp[AP]at v g q;go_wp2_with fail
 go_quiet (fail)
 have a:=m.cell;have HK:=m.frozen;have c:=x.cell;have HQ:=x.frozen;have e0:=a 0;have e1:=a 1;have e2:=a 2;have e3:=a 3;have y:=a 4;have u:=a 5;have e6:=a 6;have e7:=a 7;have e8:=a 8;have f0:=c 0;have f1:=c 1;have f2:=c 2;have f3:=c 3;have f4:=c 4;have f5:=c 5;have f6:=c 6;have f7:=c 7;have f8:=c 8;simp at e0 e1 e2 e3 y u e6 e7 e8 f0 f1 f2 f3 f4 f5 f6 f7 f8;clear a c;go_wp2;refine aE (AY rfl rfl (((((((((((x.drewN _).set_other _ (by simp;omega) _).set 0 _).set 1 _).set 2 _).set 3 _).set 4 _).set 5 _).set 6 _).set 7 _).set 8 _) underlying95 rfl (by kernel_rfl)) rfl ⟨_,rfl,ax _ _ _ _,?_,?_⟩
 ·repeat (refine Aw.set_other ?_ _ (by simp;omega) _)
  exact(f.drewN _).set 2 _
 ·repeat (refine Ac.setCell ?_ (by simp;try omega) _)
  exact EK.drewN _
theorem Qb(b:Nat)(s:cL)(at_ j:Nat)(w:World)(t:AG)(k h:Nat)(u:s.size<=1000000)(Z:at_<=s.size)(I:Af s at_=j)(H:Cz s j 33=false)(HE:j<s.size)(hl:Av s[j]=false)(HR:¬h<s.size)
  (A:Hid (AA s j false=(t,k,false)/\As s k false=h)) (J:Aw w b (AP s at_ false) 73):
  Calls prog 129 #[.pointer (some ⟨b,0,none⟩)] w λe K=>∃V,e= .returned (.agg (Bq ⟨0,CI,t,CV,j⟩ V).toArray)/\
   K.ownsRow w.heap.size 93 2 V 0 []/\Aw K b (AP s h true) 73/\Ac [b] w K:=by
 have HM:=J.lt;have HV:j<=s.size:=by have:=AN s at_ Z;omega
 have G:As s j false=j:=by rw[<-I];exact AZ s at_
 have U:Bi s j false 33=j:=by unfold Bi;rw[G,H];rfl
 have T:(!false&&Cz s (As s j false) 33)=false:=by rw[G,H];rfl
 have D:Hid (Af s at_=j/\Bi s j false 33=j/\(!false&&Cz s (As s j false) 33)=false):=⟨I,U,T⟩;clear I H G U T;go_enter func129,ntmps129;go_wp2_with fail
 refine(A1 b s at_ false _ u Z (J.alloc _)).mono ?_;rintro e Y ⟨rfl,i,L⟩;rw[show As s at_ false=j from D.out.1]at i
 have Q:=(Aw.new w _ _).kept L (by simp;omega);have S:=((Ac.refl [b] w).alloc _).trans L;clear J L;have Go:=i.lt;have AT:=Q.lt;have g:=i.cell 1;simp[AP]at g;go_wp2_with fail
 refine(C0 b s j false 33 33 _ rfl u (by omega) (i.alloc _)).mono ?_;rintro e w2 ⟨rfl,d,E⟩;rw[D.out.2.1]at d;rw[D.out.2.2];have m:=(Aw.new Y _ _).kept E (by simp;omega);have P:=(Q.alloc _).kept E (by simp;omega);have X:=(S.alloc _).trans E;obtain⟨N,hN⟩:∃N,Y.heap.size=N:=⟨_,rfl⟩;rw[hN]at m⊢;have HI:b<N:=by omega
 have HX:w.heap.size<N:=by omega
 clear S i Q Go AT g E hN D;have HN:=m.lt;have HU:=d.lt;have HG:=P.lt;have x:=d.cell 0;have g:=d.cell 1;have r:=d.cell 2;simp[AP]at x g r;have HW:(j:Int)<(s.size:Int):=by omega
 go_wp2_with fail
 go_quiet ((go_at_call 169;exact bu (B1 _ s[j] _ rfl)))
 have F:=d.drewN nq;have C:=m.drewN nq;have B:=P.drewN nq;have O:=X.drewN nq;clear d m P X x g r;have HC:=C.lt;have HA:=F.lt;have HQ:=B.lt;have Ax:k<=s.size:=by have:=BK s j false (by omega);rw[A.out.1]at this;exact this
 have HF:h<=s.size:=by have:=B2 s k false Ax;rw[A.out.2]at this;exact this
 go_wp2_with fail
 refine(BQ b s j false _ u (by omega) (by first|exact F|exact F.drewN _)).mono ?_;rintro e w5 ⟨rfl,M,q⟩;rw[A.out.1]at M⊢;have l:=Aw.kept (by first|exact C|exact C.drewN _) q (by simp;omega);have W:=Aw.kept (by first|exact B|exact B.drewN _) q (by simp;omega);have R:=Ac.trans (by first|exact O|exact O.drewN _) q;clear F C B O q;have z:=l.cell 4;have v:=l.cell 5;have EY:=l.frozen;simp at z v;simp only[Az];go_wp2_with fail
 refine(A1 b s k false _ u Ax ((M.set_other _ (by simp;omega) _).set_other _ (by simp;omega) _)).mono ?_;rintro e w6 ⟨rfl,f,o⟩;rw[A.out.2]at f;have n:=((l.set 4 _).set 5 _).kept o (by simp;omega);have y:=((W.set_other _ (by simp;omega) _).set_other _ (by simp;omega) _).kept o (by simp;omega);have EK:=((R.setCell (p:=⟨N,4,none⟩) (by simp;omega) _).setCell (p:=⟨N,5,none⟩) (by simp;omega) _).trans o;clear M l W R o z v EY;simp only[Z4,Z5]at n;have HB:=f.lt;have HO:=y.lt;have Ha:=n.lt;have x:=f.cell 0;have g:=f.cell 1;have r:=f.cell 2;have HD:=f.frozen;simp[AP]at x g r;have HL:decide ((s.size:Int)<=(h:Int))=true:=by simp;omega
 have HY:decide (s.size<=h)=true:=by simp;omega
 go_wp2_with fail
 go_quiet (fail)
 have a:=n.cell;have HK:=n.frozen;have c:=y.cell;have HS:=y.frozen;have e0:=a 0;have e1:=a 1;have e2:=a 2;have e3:=a 3;have z:=a 4;have v:=a 5;have e6:=a 6;have e7:=a 7;have e8:=a 8;have f0:=c 0;have f1:=c 1;have f2:=c 2;have f3:=c 3;have f4:=c 4;have f5:=c 5;have f6:=c 6;have f7:=c 7;have f8:=c 8;simp at e0 e1 e2 e3 z v e6 e7 e8 f0 f1 f2 f3 f4 f5 f6 f7 f8;clear a c;go_wp2;refine aE (AY rfl rfl (((((((((((y.drewN _).set_other _ (by simp;omega) _).set 0 _).set 1 _).set 2 _).set 3 _).set 4 _).set 5 _).set 6 _).set 7 _).set 8 _) underlying95 rfl (by kernel_rfl)) rfl ⟨_,rfl,ax _ _ _ _,?_,?_⟩
 ·repeat (refine Aw.set_other ?_ _ (by simp;omega) _)
  exact(f.drewN _).set 2 _
 ·repeat (refine Ac.setCell ?_ (by simp;try omega) _)
  exact EK.drewN _
theorem WN(b:Nat)(s:cL)(at_ j:Nat)(w:World)(t:AG)(k a:Nat)(u:s.size<=1000000)(Z:at_<=s.size)(I:Af s at_=j)(H:Cz s j 33=false)(HI:j<s.size)(hl:Av s[j]=false)(HX:a<s.size)(k1:((s[a].toNat:Int)==61)=false)(k2:((s[a].toNat:Int)==35)=false)(k3:((s[a].toNat:Int)==60)=false)
  (B:Hid (AA s j false=(t,k,false)/\As s k false=a)) (J:Aw w b (AP s at_ false) 73):
  Calls prog 129 #[.pointer (some ⟨b,0,none⟩)] w λe K=>∃V,e= .returned (.agg (Bq ⟨0,CI,t,CV,j⟩ V).toArray)/\
   K.ownsRow w.heap.size 93 2 V 0 []/\Aw K b (AP s a true) 73/\Ac [b] w K:=by
 have HR:=J.lt;have H1:j<=s.size:=by have:=AN s at_ Z;omega
 have G:As s j false=j:=by rw[<-I];exact AZ s at_
 have U:Bi s j false 33=j:=by unfold Bi;rw[G,H];rfl
 have T:(!false&&Cz s (As s j false) 33)=false:=by rw[G,H];rfl
 have D:Hid (Af s at_=j/\Bi s j false 33=j/\(!false&&Cz s (As s j false) 33)=false):=⟨I,U,T⟩;clear I H G U T;go_enter func129,ntmps129;go_wp2_with fail
 refine(A1 b s at_ false _ u Z (J.alloc _)).mono ?_;rintro e Y ⟨rfl,i,L⟩;rw[show As s at_ false=j from D.out.1]at i
 have Q:=(Aw.new w _ _).kept L (by simp;omega);have S:=((Ac.refl [b] w).alloc _).trans L;clear J L;have HB:=i.lt;have AT:=Q.lt;have h:=i.cell 1;simp[AP]at h;go_wp2_with fail
 refine(C0 b s j false 33 33 _ rfl u (by omega) (i.alloc _)).mono ?_;rintro e w2 ⟨rfl,f,E⟩;rw[D.out.2.1]at f;rw[D.out.2.2];have m:=(Aw.new Y _ _).kept E (by simp;omega);have P:=(Q.alloc _).kept E (by simp;omega);have X:=(S.alloc _).trans E;obtain⟨N,hN⟩:∃N,Y.heap.size=N:=⟨_,rfl⟩;rw[hN]at m⊢;have HN:b<N:=by omega
 have H3:w.heap.size<N:=by omega
 clear S i Q HB AT h E hN D;have HS:=m.lt;have HZ:=f.lt;have HL:=P.lt;have x:=f.cell 0;have h:=f.cell 1;have r:=f.cell 2;simp[AP]at x h r;have H2:(j:Int)<(s.size:Int):=by omega
 go_wp2_with fail
 go_quiet ((go_at_call 169;exact bu (B1 _ s[j] _ rfl)))
 have F:=f.drewN nq;have C:=m.drewN nq;have A:=P.drewN nq;have O:=X.drewN nq;clear f m P X x h r;have HG:=C.lt;have HE:=F.lt;have HW:=A.lt;have Ax:k<=s.size:=by have:=BK s j false (by omega);rw[B.out.1]at this;exact this
 have HK:a<=s.size:=by have:=B2 s k false Ax;rw[B.out.2]at this;exact this
 go_wp2_with fail
 refine(BQ b s j false _ u (by omega) (by first|exact F|exact F.drewN _)).mono ?_;rintro e w5 ⟨rfl,M,q⟩;rw[B.out.1]at M⊢;have l:=Aw.kept (by first|exact C|exact C.drewN _) q (by simp;omega);have W:=Aw.kept (by first|exact A|exact A.drewN _) q (by simp;omega);have R:=Ac.trans (by first|exact O|exact O.drewN _) q;clear F C A O q;have z:=l.cell 4;have v:=l.cell 5;have FA:=l.frozen;simp at z v;simp only[Az];go_wp2_with fail
 refine(A1 b s k false _ u Ax ((M.set_other _ (by simp;omega) _).set_other _ (by simp;omega) _)).mono ?_;rintro e w6 ⟨rfl,g,o⟩;rw[B.out.2]at g;have n:=((l.set 4 _).set 5 _).kept o (by simp;omega);have y:=((W.set_other _ (by simp;omega) _).set_other _ (by simp;omega) _).kept o (by simp;omega);have EX:=((R.setCell (p:=⟨N,4,none⟩) (by simp;omega) _).setCell (p:=⟨N,5,none⟩) (by simp;omega) _).trans o;clear M l W R o z v FA;simp only[Z4,Z5]at n;have HF:=g.lt;have HU:=y.lt;have HD:=n.lt;have x:=g.cell 0;have h:=g.cell 1;have r:=g.cell 2;have HH:=g.frozen;simp[AP]at x h r;have HC:(a:Int)<(s.size:Int):=by omega
 have HP:decide ((s.size:Int)<=(a:Int))=false:=by simp;omega
 have H5:decide (s.size<=a)=false:=by simp;omega
 have H4:((s[a].toNat:Int) !=61)=true:=by simp only[bne,k1];rfl
 have H0:((s[a].toNat:Int) !=35)=true:=by simp only[bne,k2];rfl
 have HQ:((s[a].toNat:Int) !=60)=true:=by simp only[bne,k3];rfl
 go_wp2_with fail
 go_quiet (fail)
 have c:=n.cell;have HO:=n.frozen;have d:=y.cell;have HY:=y.frozen;have e0:=c 0;have e1:=c 1;have e2:=c 2;have e3:=c 3;have z:=c 4;have v:=c 5;have e6:=c 6;have e7:=c 7;have e8:=c 8;have f0:=d 0;have f1:=d 1;have f2:=d 2;have f3:=d 3;have f4:=d 4;have f5:=d 5;have f6:=d 6;have f7:=d 7;have f8:=d 8;simp at e0 e1 e2 e3 z v e6 e7 e8 f0 f1 f2 f3 f4 f5 f6 f7 f8;clear c d;go_wp2;refine aE (AY rfl rfl (((((((((((y.drewN _).set_other _ (by simp;omega) _).set 0 _).set 1 _).set 2 _).set 3 _).set 4 _).set 5 _).set 6 _).set 7 _).set 8 _) underlying95 rfl (by kernel_rfl)) rfl ⟨_,rfl,ax _ _ _ _,?_,?_⟩
 ·repeat (refine Aw.set_other ?_ _ (by simp;omega) _)
  exact(g.drewN _).set 2 _
 ·repeat (refine Ac.setCell ?_ (by simp;try omega) _)
  exact EX.drewN _
theorem Vp(b:Nat)(s:cL)(at_ j:Nat)(w:World)(t:AG)(q a:Nat)(n:s.size<=1000000)(BA:at_<=s.size)(K:Af s at_=j)(J:Cz s j 33=false)(HR:j<s.size)(hl:Av s[j]=false)(H3:a<s.size)(q1:((s[a].toNat:Int)==61)=true)
  (C:Hid (AA s j false=(t,q,false)/\As s q false=a)) (L:Aw w b (AP s at_ false) 73):
  Calls prog 129 #[.pointer (some ⟨b,0,none⟩)] w λe k=>∃av,e= .returned (.agg (Bq ⟨s[a],CI,t,(AA s (a+1) false).1,j⟩ av).toArray)/\
   k.ownsRow w.heap.size 93 2 av 0 []/\Aw k b (AP s (AA s (a+1) false).2.1 (AA s (a+1) false).2.2) 73/\Ac [b] w k:=by
 have HY:=L.lt;have H6:j<=s.size:=by have:=AN s at_ BA;omega
 have I:As s j false=j:=by rw[<-K];exact AZ s at_
 have X:Bi s j false 33=j:=by unfold Bi;rw[I,J];rfl
 have W:(!false&&Cz s (As s j false) 33)=false:=by rw[I,J];rfl
 have F:Hid (Af s at_=j/\Bi s j false 33=j/\(!false&&Cz s (As s j false) 33)=false):=⟨K,X,W⟩;clear K J I X W;go_enter func129,ntmps129;go_wp2_with fail
 refine(A1 b s at_ false _ n BA (L.alloc _)).mono ?_;rintro e w1 ⟨rfl,l,O⟩;rw[show As s at_ false=j from F.out.1]at l
 have T:=(Aw.new w _ _).kept O (by simp;omega);have V:=((Ac.refl [b] w).alloc _).trans O;clear L O;have HG:=l.lt;have CL:=T.lt;have g:=l.cell 1;simp[AP]at g;go_wp2_with fail
 refine(C0 b s j false 33 33 _ rfl n (by omega) (l.alloc _)).mono ?_;rintro e w2 ⟨rfl,h,G⟩;rw[F.out.2.1]at h;rw[F.out.2.2];have v:=(Aw.new w1 _ _).kept G (by simp;omega);have S:=(T.alloc _).kept G (by simp;omega);have AT:=(V.alloc _).trans G;obtain⟨N,hN⟩:∃N,w1.heap.size=N:=⟨_,rfl⟩;rw[hN]at v⊢;have HW:b<N:=by omega
 have H8:w.heap.size<N:=by omega
 clear V l T HG CL g G hN F;have HZ:=v.lt;have H5:=h.lt;have HU:=S.lt;have o:=h.cell 0;have g:=h.cell 1;have m:=h.cell 2;simp[AP]at o g m;have H7:(j:Int)<(s.size:Int):=by omega
 go_wp2_with fail
 go_quiet ((go_at_call 169;exact bu (B1 _ s[j] _ rfl)))
 have H:=h.drewN nq;have E:=v.drewN nq;have D:=S.drewN nq;have Q:=AT.drewN nq;clear h v S AT o g m;have HQ:=E.lt;have HN:=H.lt;have H2:=D.lt;have B9:q<=s.size:=by have:=BK s j false (by omega);rw[C.out.1]at this;exact this
 have HS:a<=s.size:=by have:=B2 s q false B9;rw[C.out.2]at this;exact this
 go_wp2_with fail
 refine(BQ b s j false _ n (by omega) (by first|exact H|exact H.drewN _)).mono ?_;rintro e w5 ⟨rfl,P,y⟩;rw[C.out.1]at P⊢;have r:=Aw.kept (by first|exact E|exact E.drewN _) y (by simp;omega);have AH:=Aw.kept (by first|exact D|exact D.drewN _) y (by simp;omega);have U:=Ac.trans (by first|exact Q|exact Q.drewN _) y;clear H E D Q y;have B:=r.cell 4;have z:=r.cell 5;have FP:=r.frozen;simp at B z;simp only[Az];go_wp2_with fail
 refine(A1 b s q false _ n B9 ((P.set_other _ (by simp;omega) _).set_other _ (by simp;omega) _)).mono ?_;rintro e w6 ⟨rfl,f,x⟩;rw[C.out.2]at f;have i:=((r.set 4 _).set 5 _).kept x (by simp;omega);have M:=((AH.set_other _ (by simp;omega) _).set_other _ (by simp;omega) _).kept x (by simp;omega);have Z:=((U.setCell (p:=⟨N,4,none⟩) (by simp;omega) _).setCell (p:=⟨N,5,none⟩) (by simp;omega) _).trans x;clear P r AH U x B z FP;simp only[Z4,Z5]at i;have HO:=f.lt;have H0:=M.lt;have HM:=i.lt;have o:=f.cell 0;have g:=f.cell 1;have m:=f.cell 2;have FC:=f.frozen;simp[AP]at o g m;have HK:(a:Int)<(s.size:Int):=by omega
 have HX:decide ((s.size:Int)<=(a:Int))=false:=by simp;omega
 have H9:decide (s.size<=a)=false:=by simp;omega
 have HI:¬N=b:=by omega
 have HP:¬b=N:=by omega
 have p1:((s[a].toNat:Int) !=61)=false:=by simp only[bne,q1];rfl
 clear q1;go_wp2_with fail
 go_quiet (fail)
 have u:=i.cell 0;have Y:=i.frozen 0;simp at u;clear p1;go_wp2_with fail
 go_region_held3 (λk=>k.cell? ⟨b,0,none⟩=some (.string s)/\k.cell? ⟨b,1,none⟩=some (.int .i64 a)) (go_keep) (fail)
 clear u Y;go_wp2_with fail
 refine(BQ b s (a+1) false _ n (by omega) (((f.drewN _).set_other ⟨N,0,none⟩ (by simp;omega) _).set 1 _)).mono ?_;rintro e w7 ⟨rfl,HD,A⟩;have AB:=(((i.drewN _).set 0 _).set_other ⟨b,1,none⟩ (by simp;omega) _).kept A (by simp;omega);have R:=(((M.drewN _).set_other ⟨N,0,none⟩ (by simp;omega) _).set_other ⟨b,1,none⟩ (by simp;omega) _).kept A (by simp;omega);have HH:=(((Z.drewN _).setCell (p:=⟨N,0,none⟩) (by simp;omega) _).setCell (p:=⟨b,1,none⟩) (by simp) _).trans A;clear f i M Z A o g m FC;have c:=AB.cell;have Y:=AB.frozen;have d:=R.cell;have H4:=R.frozen;simp only[Az];have u:=c 0;have e1:=c 1;have e2:=c 2;have e3:=c 3;have B:=c 4;have z:=c 5;have e6:=c 6;have e7:=c 7;have e8:=c 8;have f0:=d 0;have f1:=d 1;have f2:=d 2;have f3:=d 3;have f4:=d 4;have f5:=d 5;have f6:=d 6;have f7:=d 7;have f8:=d 8;simp at u e1 e2 e3 B z e6 e7 e8 f0 f1 f2 f3 f4 f5 f6 f7 f8;clear c d;go_wp2;refine aE (AY rfl rfl (((((((((((R.set_other _ (by simp;omega) _).set_other _ (by simp;omega) _).set 0 _).set 1 _).set 2 _).set 3 _).set 4 _).set 5 _).set 6 _).set 7 _).set 8 _) underlying95 rfl (by kernel_rfl)) rfl ⟨_,rfl,ax _ _ _ _,?_,?_⟩
 ·repeat (refine Aw.set_other ?_ _ (by simp;omega) _)
  exact HD
 ·repeat (refine Ac.setCell ?_ (by simp;try omega) _)
  exact HH
theorem Wd(b:Nat)(s:cL)(at_ j:Nat)(w:World)(t:AG)(q a:Nat)(n:s.size<=1000000)(BT:at_<=s.size)(K:Af s at_=j)(J:Cz s j 33=false)(HU:j<s.size)(hl:Av s[j]=false)(H5:a<s.size)(q1:((s[a].toNat:Int)==35)=true)(q2:((s[a].toNat:Int)==61)=false)
  (C:Hid (AA s j false=(t,q,false)/\As s q false=a)) (L:Aw w b (AP s at_ false) 73):
  Calls prog 129 #[.pointer (some ⟨b,0,none⟩)] w λe k=>∃av,e= .returned (.agg (Bq ⟨s[a],CI,t,(AA s (a+1) false).1,j⟩ av).toArray)/\
   k.ownsRow w.heap.size 93 2 av 0 []/\Aw k b (AP s (AA s (a+1) false).2.1 (AA s (a+1) false).2.2) 73/\Ac [b] w k:=by
 have H0:=L.lt;have H8:j<=s.size:=by have:=AN s at_ BT;omega
 have I:As s j false=j:=by rw[<-K];exact AZ s at_
 have X:Bi s j false 33=j:=by unfold Bi;rw[I,J];rfl
 have W:(!false&&Cz s (As s j false) 33)=false:=by rw[I,J];rfl
 have F:Hid (Af s at_=j/\Bi s j false 33=j/\(!false&&Cz s (As s j false) 33)=false):=⟨K,X,W⟩;clear K J I X W;go_enter func129,ntmps129;go_wp2_with fail
 refine(A1 b s at_ false _ n BT (L.alloc _)).mono ?_;rintro e w1 ⟨rfl,l,O⟩;rw[show As s at_ false=j from F.out.1]at l
 have T:=(Aw.new w _ _).kept O (by simp;omega);have V:=((Ac.refl [b] w).alloc _).trans O;clear L O;have HI:=l.lt;have EX:=T.lt;have g:=l.cell 1;simp[AP]at g;go_wp2_with fail
 refine(C0 b s j false 33 33 _ rfl n (by omega) (l.alloc _)).mono ?_;rintro e w2 ⟨rfl,h,G⟩;rw[F.out.2.1]at h;rw[F.out.2.2];have v:=(Aw.new w1 _ _).kept G (by simp;omega);have S:=(T.alloc _).kept G (by simp;omega);have AT:=(V.alloc _).trans G;obtain⟨N,hN⟩:∃N,w1.heap.size=N:=⟨_,rfl⟩;rw[hN]at v⊢;have HY:b<N:=by omega
 have Ix:w.heap.size<N:=by omega
 clear V l T HI EX g G hN F;have H1:=v.lt;have H7:=h.lt;have HW:=S.lt;have o:=h.cell 0;have g:=h.cell 1;have m:=h.cell 2;simp[AP]at o g m;have H9:(j:Int)<(s.size:Int):=by omega
 go_wp2_with fail
 go_quiet ((go_at_call 169;exact bu (B1 _ s[j] _ rfl)))
 have H:=h.drewN nq;have E:=v.drewN nq;have D:=S.drewN nq;have Q:=AT.drewN nq;clear h v S AT o g m;have HS:=E.lt;have HP:=H.lt;have H4:=D.lt;have CC:q<=s.size:=by have:=BK s j false (by omega);rw[C.out.1]at this;exact this
 have HV:a<=s.size:=by have:=B2 s q false CC;rw[C.out.2]at this;exact this
 go_wp2_with fail
 refine(BQ b s j false _ n (by omega) (by first|exact H|exact H.drewN _)).mono ?_;rintro e w5 ⟨rfl,P,y⟩;rw[C.out.1]at P⊢;have r:=Aw.kept (by first|exact E|exact E.drewN _) y (by simp;omega);have AH:=Aw.kept (by first|exact D|exact D.drewN _) y (by simp;omega);have U:=Ac.trans (by first|exact Q|exact Q.drewN _) y;clear H E D Q y;have B:=r.cell 4;have z:=r.cell 5;have FW:=r.frozen;simp at B z;simp only[Az];go_wp2_with fail
 refine(A1 b s q false _ n CC ((P.set_other _ (by simp;omega) _).set_other _ (by simp;omega) _)).mono ?_;rintro e w6 ⟨rfl,f,x⟩;rw[C.out.2]at f;have i:=((r.set 4 _).set 5 _).kept x (by simp;omega);have M:=((AH.set_other _ (by simp;omega) _).set_other _ (by simp;omega) _).kept x (by simp;omega);have Z:=((U.setCell (p:=⟨N,4,none⟩) (by simp;omega) _).setCell (p:=⟨N,5,none⟩) (by simp;omega) _).trans x;clear P r AH U x B z FW;simp only[Z4,Z5]at i;have HQ:=f.lt;have H2:=M.lt;have HO:=i.lt;have o:=f.cell 0;have g:=f.cell 1;have m:=f.cell 2;have FL:=f.frozen;simp[AP]at o g m;have HM:(a:Int)<(s.size:Int):=by omega
 have HZ:decide ((s.size:Int)<=(a:Int))=false:=by simp;omega
 have Jx:decide (s.size<=a)=false:=by simp;omega
 have HL:¬N=b:=by omega
 have HR:¬b=N:=by omega
 have p1:((s[a].toNat:Int) !=35)=false:=by simp only[bne,q1];rfl
 have p2:((s[a].toNat:Int) !=61)=true:=by simp only[bne,q2];rfl
 clear q1 q2;go_wp2_with fail
 go_quiet (fail)
 have u:=i.cell 0;have Y:=i.frozen 0;simp at u;clear p1 p2;go_wp2_with fail
 go_region_held3 (λk=>k.cell? ⟨b,0,none⟩=some (.string s)/\k.cell? ⟨b,1,none⟩=some (.int .i64 a)) (go_keep) (fail)
 clear u Y;go_wp2_with fail
 refine(BQ b s (a+1) false _ n (by omega) (((f.drewN _).set_other ⟨N,0,none⟩ (by simp;omega) _).set 1 _)).mono ?_;rintro e w7 ⟨rfl,HF,A⟩;have AB:=(((i.drewN _).set 0 _).set_other ⟨b,1,none⟩ (by simp;omega) _).kept A (by simp;omega);have R:=(((M.drewN _).set_other ⟨N,0,none⟩ (by simp;omega) _).set_other ⟨b,1,none⟩ (by simp;omega) _).kept A (by simp;omega);have HK:=(((Z.drewN _).setCell (p:=⟨N,0,none⟩) (by simp;omega) _).setCell (p:=⟨b,1,none⟩) (by simp) _).trans A;clear f i M Z A o g m FL;have c:=AB.cell;have Y:=AB.frozen;have d:=R.cell;have H6:=R.frozen;simp only[Az];have u:=c 0;have e1:=c 1;have e2:=c 2;have e3:=c 3;have B:=c 4;have z:=c 5;have e6:=c 6;have e7:=c 7;have e8:=c 8;have f0:=d 0;have f1:=d 1;have f2:=d 2;have f3:=d 3;have f4:=d 4;have f5:=d 5;have f6:=d 6;have f7:=d 7;have f8:=d 8;simp at u e1 e2 e3 B z e6 e7 e8 f0 f1 f2 f3 f4 f5 f6 f7 f8;clear c d;go_wp2;refine aE (AY rfl rfl (((((((((((R.set_other _ (by simp;omega) _).set_other _ (by simp;omega) _).set 0 _).set 1 _).set 2 _).set 3 _).set 4 _).set 5 _).set 6 _).set 7 _).set 8 _) underlying95 rfl (by kernel_rfl)) rfl ⟨_,rfl,ax _ _ _ _,?_,?_⟩
 ·repeat (refine Aw.set_other ?_ _ (by simp;omega) _)
  exact HF
 ·repeat (refine Ac.setCell ?_ (by simp;try omega) _)
  exact HK
theorem WM(b:Nat)(s:cL)(at_ j:Nat)(w:World)(t:AG)(q a:Nat)(n:s.size<=1000000)(B9:at_<=s.size)(K:Af s at_=j)(J:Cz s j 33=false)(HW:j<s.size)(hl:Av s[j]=false)(H7:a<s.size)(q1:((s[a].toNat:Int)==60)=true)(q2:((s[a].toNat:Int)==61)=false)(V:((s[a].toNat:Int)==35)=false)
  (C:Hid (AA s j false=(t,q,false)/\As s q false=a)) (L:Aw w b (AP s at_ false) 73):
  Calls prog 129 #[.pointer (some ⟨b,0,none⟩)] w λe k=>∃av,e= .returned (.agg (Bq ⟨s[a],CI,t,(AA s (a+1) false).1,j⟩ av).toArray)/\
   k.ownsRow w.heap.size 93 2 av 0 []/\Aw k b (AP s (AA s (a+1) false).2.1 (AA s (a+1) false).2.2) 73/\Ac [b] w k:=by
 have H2:=L.lt;have Ix:j<=s.size:=by have:=AN s at_ B9;omega
 have I:As s j false=j:=by rw[<-K];exact AZ s at_
 have Y:Bi s j false 33=j:=by unfold Bi;rw[I,J];rfl
 have X:(!false&&Cz s (As s j false) 33)=false:=by rw[I,J];rfl
 have F:Hid (Af s at_=j/\Bi s j false 33=j/\(!false&&Cz s (As s j false) 33)=false):=⟨K,Y,X⟩;clear K J I Y X;go_enter func129,ntmps129;go_wp2_with fail
 refine(A1 b s at_ false _ n B9 (L.alloc _)).mono ?_;rintro e w1 ⟨rfl,l,O⟩;rw[show As s at_ false=j from F.out.1]at l
 have T:=(Aw.new w _ _).kept O (by simp;omega);have W:=((Ac.refl [b] w).alloc _).trans O;clear L O;have HL:=l.lt;have FA:=T.lt;have g:=l.cell 1;simp[AP]at g;go_wp2_with fail
 refine(C0 b s j false 33 33 _ rfl n (by omega) (l.alloc _)).mono ?_;rintro e w2 ⟨rfl,h,G⟩;rw[F.out.2.1]at h;rw[F.out.2.2];have v:=(Aw.new w1 _ _).kept G (by simp;omega);have S:=(T.alloc _).kept G (by simp;omega);have Bx:=(W.alloc _).trans G;obtain⟨N,hN⟩:∃N,w1.heap.size=N:=⟨_,rfl⟩;rw[hN]at v⊢;have H0:b<N:=by omega
 have JJ:w.heap.size<N:=by omega
 clear W l T HL FA g G hN F;have H3:=v.lt;have H9:=h.lt;have HY:=S.lt;have o:=h.cell 0;have g:=h.cell 1;have m:=h.cell 2;simp[AP]at o g m;have Jx:(j:Int)<(s.size:Int):=by omega
 go_wp2_with fail
 go_quiet ((go_at_call 169;exact bu (B1 _ s[j] _ rfl)))
 have H:=h.drewN nq;have E:=v.drewN nq;have D:=S.drewN nq;have Q:=Bx.drewN nq;clear h v S Bx o g m;have HV:=E.lt;have HR:=H.lt;have H6:=D.lt;have CL:q<=s.size:=by have:=BK s j false (by omega);rw[C.out.1]at this;exact this
 have HX:a<=s.size:=by have:=B2 s q false CL;rw[C.out.2]at this;exact this
 go_wp2_with fail
 refine(BQ b s j false _ n (by omega) (by first|exact H|exact H.drewN _)).mono ?_;rintro e w5 ⟨rfl,P,y⟩;rw[C.out.1]at P⊢;have r:=Aw.kept (by first|exact E|exact E.drewN _) y (by simp;omega);have AT:=Aw.kept (by first|exact D|exact D.drewN _) y (by simp;omega);have U:=Ac.trans (by first|exact Q|exact Q.drewN _) y;clear H E D Q y;have B:=r.cell 4;have z:=r.cell 5;have Ha:=r.frozen;simp at B z;simp only[Az];go_wp2_with fail
 refine(A1 b s q false _ n CL ((P.set_other _ (by simp;omega) _).set_other _ (by simp;omega) _)).mono ?_;rintro e w6 ⟨rfl,f,x⟩;rw[C.out.2]at f;have i:=((r.set 4 _).set 5 _).kept x (by simp;omega);have M:=((AT.set_other _ (by simp;omega) _).set_other _ (by simp;omega) _).kept x (by simp;omega);have Ax:=((U.setCell (p:=⟨N,4,none⟩) (by simp;omega) _).setCell (p:=⟨N,5,none⟩) (by simp;omega) _).trans x;clear P r AT U x B z Ha;simp only[Z4,Z5]at i;have HS:=f.lt;have H4:=M.lt;have HQ:=i.lt;have o:=f.cell 0;have g:=f.cell 1;have m:=f.cell 2;have FP:=f.frozen;simp[AP]at o g m;have HO:(a:Int)<(s.size:Int):=by omega
 have H1:decide ((s.size:Int)<=(a:Int))=false:=by simp;omega
 have KK:decide (s.size<=a)=false:=by simp;omega
 have HN:¬N=b:=by omega
 have HU:¬b=N:=by omega
 have p1:((s[a].toNat:Int) !=60)=false:=by simp only[bne,q1];rfl
 have p2:((s[a].toNat:Int) !=61)=true:=by simp only[bne,q2];rfl
 have p3:((s[a].toNat:Int) !=35)=true:=by simp only[bne,V];rfl
 clear q1 q2 V;go_wp2_with fail
 go_quiet (fail)
 have u:=i.cell 0;have Z:=i.frozen 0;simp at u;clear p1 p2 p3;go_wp2_with fail
 go_region_held3 (λk=>k.cell? ⟨b,0,none⟩=some (.string s)/\k.cell? ⟨b,1,none⟩=some (.int .i64 a)) (go_keep) (fail)
 clear u Z;go_wp2_with fail
 refine(BQ b s (a+1) false _ n (by omega) (((f.drewN _).set_other ⟨N,0,none⟩ (by simp;omega) _).set 1 _)).mono ?_;rintro e w7 ⟨rfl,HH,A⟩;have AH:=(((i.drewN _).set 0 _).set_other ⟨b,1,none⟩ (by simp;omega) _).kept A (by simp;omega);have R:=(((M.drewN _).set_other ⟨N,0,none⟩ (by simp;omega) _).set_other ⟨b,1,none⟩ (by simp;omega) _).kept A (by simp;omega);have HM:=(((Ax.drewN _).setCell (p:=⟨N,0,none⟩) (by simp;omega) _).setCell (p:=⟨b,1,none⟩) (by simp) _).trans A;clear f i M Ax A o g m FP;have c:=AH.cell;have Z:=AH.frozen;have d:=R.cell;have H8:=R.frozen;simp only[Az];have u:=c 0;have e1:=c 1;have e2:=c 2;have e3:=c 3;have B:=c 4;have z:=c 5;have e6:=c 6;have e7:=c 7;have e8:=c 8;have f0:=d 0;have f1:=d 1;have f2:=d 2;have f3:=d 3;have f4:=d 4;have f5:=d 5;have f6:=d 6;have f7:=d 7;have f8:=d 8;simp at u e1 e2 e3 B z e6 e7 e8 f0 f1 f2 f3 f4 f5 f6 f7 f8;clear c d;go_wp2;refine aE (AY rfl rfl (((((((((((R.set_other _ (by simp;omega) _).set_other _ (by simp;omega) _).set 0 _).set 1 _).set 2 _).set 3 _).set 4 _).set 5 _).set 6 _).set 7 _).set 8 _) underlying95 rfl (by kernel_rfl)) rfl ⟨_,rfl,ax _ _ _ _,?_,?_⟩
 ·repeat (refine Aw.set_other ?_ _ (by simp;omega) _)
  exact HH
 ·repeat (refine Ac.setCell ?_ (by simp;try omega) _)
  exact HM
theorem VO{s:cL}{j:Nat}(h:¬j<s.size):(AA s j false).2.2=true:=by
 have a:=Cr s j;unfold AA;rw[dif_neg (by omega)];rfl
theorem YM(b:Nat)(s:cL)(at_:Nat)(w:World)(hs:s.size<=1000000)(hat:at_<=s.size)(hB:Aw w b (AP s at_ false) 73):
  Calls prog 129 #[.pointer (some ⟨b,0,none⟩)] w λe w'=>∃av,e= .returned (.agg (Bq (CU s at_).1 av).toArray)/\
   w'.ownsRow w.heap.size 93 2 av (CU s at_).1.A.args.length ((CU s at_).1.A.args.flatMap Az)/\Aw w' b (AP s (CU s at_).2.1 (CU s at_).2.2) 73/\Ac [b] w w':=by
 obtain⟨j,hj⟩:∃j,Af s at_=j:=⟨_,rfl⟩;have hjs:j<=s.size:=by have:=AN s at_ hat;omega
 cases hx:Cz s j 33 with
 |true=>
  have e:CU s at_=(⟨33,(A4 s (j+1) false).1,CV,CV,j⟩,(A4 s (j+1) false).2):=by unfold CU;simp only[hj,hx,if_true]
  rw[e];exact YA b s at_ j w hs hat hj hx hB
 |false=>
  cases hlo:(EW s j&&EE s j)with
  |true=>
   (have e:CU s at_=(⟨97,(A4 s j false).1,CV,CV,j⟩,(A4 s j false).2):=by unfold CU;simp only[hj,hx,hlo,if_true,Z8,if_false]);rw[e];simp only[aO]at hlo;have hlt:j<s.size:=by
    have h:=hlo.1;unfold EW at h;split at h
    ·assumption
    ·cases h
   (have hl:Av s[j]=true:=by have h:=hlo.1;unfold EW at h;simpa[hlt] using h);exact X6 b s at_ j w hs hat hj hx hlt hl hlo.2 hB
  |false=>
   obtain⟨t,a2,b2,ht⟩:∃t a2 b2,AA s j false=(t,a2,b2):=⟨_,_,_,rfl⟩;obtain⟨a3,ha3⟩:∃a3,As s a2 b2=a3:=⟨_,rfl⟩;(have e:CU s at_=Ke s j a3 t b2:=by unfold CU;simp only[hj,hx,hlo,ht,ha3,Z8,if_false]);rw[e];by_cases hlt:j<s.size
   ·cases hl:Av s[j] with
    |true=>
     (have ho:EE s j=false:=by(have h:EW s j=true:=by unfold EW;simp[hlt,hl]);rw[h]at hlo;simpa using hlo);cases b2 with
     |true=>rw[LA];exact Vm b s at_ j w t a2 a3 hs hat hj hx hlt hl ho ⟨ht,ha3⟩ hB
     |false=>
      by_cases h3:a3<s.size
      ·cases k1:((s[a3].toNat:Int)==61)with
       |true=>rw[JH h3 (Or.inl k1)];exact VB b s at_ j w t a2 a3 hs hat hj hx hlt hl ho h3 k1 ⟨ht,ha3⟩ hB
       |false=>
        cases k2:((s[a3].toNat:Int)==35)with
        |true=>rw[JH h3 (Or.inr (Or.inl k2))];exact VC b s at_ j w t a2 a3 hs hat hj hx hlt hl ho h3 k2 k1 ⟨ht,ha3⟩ hB
        |false=>
         cases k3:((s[a3].toNat:Int)==60)with
         |true=>rw[JH h3 (Or.inr (Or.inr k3))];exact Vq b s at_ j w t a2 a3 hs hat hj hx hlt hl ho h3 k3 k1 k2 ⟨ht,ha3⟩ hB
         |false=>rw[O5 h3 k1 k2 k3];exact Wq b s at_ j w t a2 a3 hs hat hj hx hlt hl ho h3 k1 k2 k3 ⟨ht,ha3⟩ hB
      ·rw[P1 h3];exact VQ b s at_ j w t a2 a3 hs hat hj hx hlt hl ho h3 ⟨ht,ha3⟩ hB
    |false=>
     cases b2 with
     |true=>rw[LA];exact Vh b s at_ j w t a2 a3 hs hat hj hx hlt hl ⟨ht,ha3⟩ hB
     |false=>
      by_cases h3:a3<s.size
      ·cases k1:((s[a3].toNat:Int)==61)with
       |true=>rw[JH h3 (Or.inl k1)];exact Vp b s at_ j w t a2 a3 hs hat hj hx hlt hl h3 k1 ⟨ht,ha3⟩ hB
       |false=>
        cases k2:((s[a3].toNat:Int)==35)with
        |true=>rw[JH h3 (Or.inr (Or.inl k2))];exact Wd b s at_ j w t a2 a3 hs hat hj hx hlt hl h3 k2 k1 ⟨ht,ha3⟩ hB
        |false=>
         cases k3:((s[a3].toNat:Int)==60)with
         |true=>rw[JH h3 (Or.inr (Or.inr k3))];exact WM b s at_ j w t a2 a3 hs hat hj hx hlt hl h3 k3 k1 k2 ⟨ht,ha3⟩ hB
         |false=>rw[O5 h3 k1 k2 k3];exact WN b s at_ j w t a2 a3 hs hat hj hx hlt hl h3 k1 k2 k3 ⟨ht,ha3⟩ hB
      ·rw[P1 h3];exact Qb b s at_ j w t a2 a3 hs hat hj hx hlt hl h3 ⟨ht,ha3⟩ hB
   ·(have hb2:b2=true:=by have:=VO hlt;rw[ht]at this;exact this);subst hb2;rw[LA];exact VH b s at_ j w t a2 a3 hs hat hj hx hlt ⟨ht,ha3⟩ hB
theorem Is(s:cL)(at_:Nat)(a:Bool):at_<=As s at_ a:=by
 unfold As;split
 ·exact au _
 ·exact Cr s at_
theorem Ou(s:cL)(at_:Nat)(a:Bool):at_<=(AW s at_ a).2.1:=by
 have b:=Cr s at_;have c:=Cq Av s (Af s at_);unfold AW;split
 ·exact au _
 ·split<;>simp only<;>omega
theorem I3(s:cL)(at_:Nat)(b:Bool):at_<=(AA s at_ b).2.1:=by
 have a:=Cr s at_;have c:=Cq An s (Af s at_);have d:=Ou s (Af s at_) false;unfold AA;split
 ·exact au _
 ·split
  ·split
   ·simp only;omega
   ·split
    ·simp only;omega
    ·split<;>simp only<;>omega
  ·exact a
theorem XB(s:cL)(at_:Nat):at_<=(De s at_).2.1:=by
 fun_induction De s at_ with
 |case1 at_ hc _ _ ih=>have:=hc.2.1;simp only;omega
 |case2 at_ hc=>
  have a:=I3 s at_ false;have b:=EV s (AA s at_ false).2.1 (AA s at_ false).2.2 44;simp only;omega
theorem R2(s:cL)(p:Nat×Bool):p.1<=(Ek s p).2.1:=by
 unfold Ek;split
 ·exact au _
 ·exact XB s p.1
theorem Xd(s:cL)(p:Nat×Bool)(h:p.1<=s.size):(Ek s p).2.1<=s.size:=by
 unfold Ek;split
 ·exact h
 ·exact Sf s p.1 h
theorem PB{s:cL}{at_:Nat}{a:Bool}{c:UInt8}(h:(Bk s at_ a c).2=false):at_<(Bk s at_ a c).1:=by
 unfold Bk Bi at*;have:=Is s at_ a;simp only at h⊢;have b:(!a&&Cz s (As s at_ a) c)=true:=by simpa using h
 rw[if_pos b];omega
theorem I1(s:cL)(at_:Nat)(a:Bool):at_<=(A4 s at_ a).2.1:=by
 unfold A4;simp only;have e:=Is s at_ a;have c:=Ou s (As s at_ a) a;have g:=EV s (AW s (As s at_ a) a).2.1 (AW s (As s at_ a) a).2.2 40;have d:=R2 s (Bk s (AW s (As s at_ a) a).2.1 (AW s (As s at_ a) a).2.2 40);have f:=EV s (Ek s (Bk s (AW s (As s at_ a) a).2.1 (AW s (As s at_ a) a).2.2 40)).2.1 (Ek s (Bk s (AW s (As s at_ a) a).2.1 (AW s (As s at_ a) a).2.2 40)).2.2 41;have b:(Bk s (AW s (As s at_ a) a).2.1 (AW s (As s at_ a) a).2.2 40).1=Bi s (AW s (As s at_ a) a).2.1 (AW s (As s at_ a) a).2.2 40:=rfl;show at_<=Bi s _ _ 41;omega
theorem XR{s:cL}{at_:Nat}{a:Bool}(h:(A4 s at_ a).2.2=false):at_<(A4 s at_ a).2.1:=by
 unfold A4 at h⊢;simp only at h⊢;have e:=Is s at_ a;have c:=Ou s (As s at_ a) a;have g:=EV s (AW s (As s at_ a) a).2.1 (AW s (As s at_ a) a).2.2 40;have d:=R2 s (Bk s (AW s (As s at_ a) a).2.1 (AW s (As s at_ a) a).2.2 40);have f:=PB h;have b:(Bk s (AW s (As s at_ a) a).2.1 (AW s (As s at_ a) a).2.2 40).1=Bi s (AW s (As s at_ a) a).2.1 (AW s (As s at_ a) a).2.2 40:=rfl;omega
theorem EO(s:cL)(at_:Nat)(a:Bool)(h:at_<=s.size):(A4 s at_ a).2.1<=s.size:=by
 unfold A4;simp only;exact Cy _ _ _ _ (Xd _ _ (Cy _ _ _ _ (Dq _ _ _ (B2 _ _ _ h))))
theorem Jy(s:cL)(at_:Nat)(h:at_<=s.size):(CU s at_).2.1<=s.size:=by
 have b:=AN s at_ h;unfold CU;simp only;split
 ·rename_i e;have:=EL e;exact EO _ _ _ (by omega)
 ·split
  ·exact EO _ _ _ b
  ·have d:=B2 s _ (AA s (Af s at_) false).2.2 (BK s (Af s at_) false b);unfold Ke;split
   ·rename_i c;simp only[aO,bN]at c;have:As s (AA s (Af s at_) false).2.1 (AA s (Af s at_) false).2.2<s.size:=by
     rcases c.2 with(a|a)|a<;>exact EL a
    exact BK _ _ _ (by omega)
   ·exact d
theorem Vb(s:cL)(at_:Nat):at_<=(CU s at_).2.1:=by
 have a:=Cr s at_;unfold CU;simp only;split
 ·have:=I1 s (Af s at_+1) false;simp only;omega
 ·split
  ·have:=I1 s (Af s at_) false;simp only;omega
  ·have b:=I3 s (Af s at_) false;have c:=Is s (AA s (Af s at_) false).2.1 (AA s (Af s at_) false).2.2;unfold Ke;split
   ·have:=I3 s (As s (AA s (Af s at_) false).2.1 (AA s (Af s at_) false).2.2+1) false;simp only;omega
   ·simp only;omega
theorem UL{s:cL}{at_:Nat}(h:(CU s at_).2.2=false):at_<(CU s at_).2.1:=by
 have e:=Cr s at_;unfold CU at h⊢;simp only at h⊢;split
 ·have:=I1 s (Af s at_+1) false;simp only;omega
 ·rename_i c;simp only[c,Z8,if_false]at h;split
  ·rename_i a;simp only[a,if_true]at h;have:=XR h;simp only;omega
  ·rename_i a;simp only[a,Z8,if_false]at h;have d:=I3 s (Af s at_) false;have f:=Is s (AA s (Af s at_) false).2.1 (AA s (Af s at_) false).2.2;unfold Ke at h⊢;split
   ·have:=I3 s (As s (AA s (Af s at_) false).2.1 (AA s (Af s at_) false).2.2+1) false;simp only;omega
   ·rename_i b;simp only[b,Z8,if_false]at h;cases h
def CJ(s:cL)(at_:Nat):List By×Nat×Bool:=
 if h:(!(CU s at_).2.2&&Cz s (As s (CU s at_).2.1 (CU s at_).2.2) 44)=true/\at_<Bi s (CU s at_).2.1 (CU s at_).2.2 44/\at_<s.size then
  have _h1:at_<s.size:=h.2.2;have _h2:=h.2.1
  ((CU s at_).1::(CJ s (Bi s (CU s at_).2.1 (CU s at_).2.2 44)).1,(CJ s (Bi s (CU s at_).2.1 (CU s at_).2.2 44)).2)
 else([(CU s at_).1],Bi s (CU s at_).2.1 (CU s at_).2.2 44,(CU s at_).2.2)
theorem Ny{s:cL}{at_ a:Nat}{x:By}{b:Bool}(c:CU s at_=(x,a,b))(h:at_<=s.size)(f:(!b&&Cz s (As s a b) 44)=true):
  at_<Bi s a b 44/\CJ s at_=(x::(CJ s (Bi s a b 44)).1,(CJ s (Bi s a b 44)).2):=by
 have g:b=false:=by cases b<;>simp_all
 subst g;have e:=UL (s:=s) (at_:=at_) (by rw[c]);have d:=Jy s at_ h;rw[c]at e d;simp only at e d;have i:=EV s a false 44;refine⟨by omega,?_⟩
 conv=>lhs;rw[CJ]
 rw[dif_pos (by rw[c];exact⟨f,by simp only;omega,by omega⟩)];simp only[c]
theorem Kc{s:cL}{at_ a:Nat}{x:By}{b:Bool}(d:CU s at_=(x,a,b))(c:(!b&&Cz s (As s a b) 44)=false):
  CJ s at_=([x],Bi s a b 44,b):=by
 conv=>lhs;rw[CJ]
 rw[dif_neg (by rw[d];intro h;rw[h.1]at c;cases c),d]
theorem SD(s:cL)(at_:Nat)(h:at_<=s.size):(CJ s at_).2.1<=s.size:=by
 fun_induction CJ s at_ with
 |case1 at_ hc _ _ ih=>exact ih (Cy _ _ _ _ (Jy _ _ h))
 |case2 at_ hc=>exact Cy _ _ _ _ (Jy _ _ h)
theorem XI(s:cL)(at_:Nat):at_<=(CJ s at_).2.1:=by
 fun_induction CJ s at_ with
 |case1 at_ hc _ _ ih=>have:=hc.2.1;simp only;omega
 |case2 at_ hc=>
  have a:=Vb s at_;have b:=EV s (CU s at_).2.1 (CU s at_).2.2 44;simp only;omega
def DE(s:cL)(mb bd:Bool)(a:Nat)(acc:List By)(R:List By×Nat×Bool):Prop:=
 if(mb&& !bd)=true then(acc++(CJ s a).1,(CJ s a).2)=R else(acc,a,bd)=R
theorem DE.step{s:cL}{a c:Nat}{acc:List By}{R:List By×Nat×Bool}{t:By}{b:Bool}(h:DE s true false a acc R)(d:CU s a=(t,c,b))(f:a<=s.size)(o:acc.length<=a):
  Bi s c b 44<=s.size/\(acc++[t]).length<=Bi s c b 44+1/\(((!b&&Cz s (As s c b) 44)&& !b)=true->(acc++[t]).length<=Bi s c b 44)/\
  2*(s.size-Bi s c b 44)+(if((!b&&Cz s (As s c b) 44)&& !b)=true then 1 else 0)<2*(s.size-a)+1/\
  DE s (!b&&Cz s (As s c b) 44) b (Bi s c b 44) (acc++[t]) R:=by
 have e:=Jy s a f;have m:=EV s c b 44;have i:b=false->a<c:=λk=>by
  have:=UL (s:=s) (at_:=a) (by rw[d];exact k);rw[d]at this;exact this
 have n:a<=c:=by have:=Vb s a;rw[d]at this;exact this
 rw[d]at e;simp only at e;have g:=Cy s c b 44 e;unfold DE at h;simp only[bG,cN,if_true]at h;cases hm:(!b&&Cz s (As s c b) 44)with
 |true=>
  have l:b=false:=by cases b<;>simp_all
  subst l;obtain⟨p,j⟩:=Ny d f hm;have:=i rfl;refine⟨g,by simp;omega,by simp;omega,by simp;omega,?_⟩;unfold DE;simp only[bG,cN,if_true];rw[j]at h;rw[<-h];simp
 |false=>
  refine⟨g,by simp;omega,by simp,by simp;omega,?_⟩;unfold DE;rw[Kc d hm]at h;rw[<-h];simp
theorem DE.done{s:cL}{a:Nat}{c b:Bool}{acc L:List By}{d:Nat}{e:Bool}(h:DE s c b a acc (L,d,e))(f:(c&& !b)=false):acc=L/\a=d/\b=e:=by
 unfold DE at h;rw[if_neg (by rw[f];exact bY)]at h;simpa using h
def Ex:Nat->cL->cL
 |0,s=>s
 |k+1,s=>if 1<s.size/\B5 s 0=48 then Ex k (s.extract 1 s.size)else s
def CX(s:cL):cL:=if GT s then Ex s.size s else s
theorem LT{k:Nat}{s:cL}(h:¬(1<s.size/\B5 s 0=48)):Ex k s=s:=by
 cases k with
 |zero=>rfl
 |succ k=>rw[Ex,if_neg h]
theorem Mh(s:cL)(w:World)(u:s.size<=1000000):Calls prog 96 #[.string s] w λe a=>e= .returned (.string (CX s))/\a=w:=by
 have c:=Kn s w;by_cases f:GT s=true
 ·rw[f]at c;obtain⟨T,i⟩:∃T,CX s=T:=⟨_,rfl⟩;rw[i];have g:Hid (Ex s.size s=T):=by show _=_;rw[<-i];unfold CX;rw[f];rfl
  clear i f;go_enter func96,ntmps96;go_wp2_with (go_at_call 144;refine c.mono ?_;rintro e a ⟨rfl,rfl⟩)
  rename_i a _ _
  go_loopg [3] s.size (λgk o wr=>∃(t:cL),o= .string t/\Hid (Ex gk t=T)/\t.size<=gk/\t.size<=1000000/\a=wr)
  case atStart=>exact⟨s,rfl,g,au _,u,rfl⟩
  case round=>
   clear g;obtain⟨t,rfl,l,x,z,rfl⟩:=hrel;by_cases n:1<t.size
   ·(have r:(1:Int)<(t.size:Int):=by omega);(have m:B5 t 0=t[0]:=by unfold B5;rw[dif_pos (by omega)]);by_cases b:t[0]=48
    ·(have q:((t[0].toNat:Int)==48)=true:=by rw[b];rfl);obtain⟨k,rfl⟩:∃k,gk=k+1:=⟨gk-1,by omega⟩;have v:Hid (Ex k (t.extract 1 t.size)=T):=by
      have h:=Aa l;rw[Ex,if_pos ⟨n,by rw[m];exact b⟩]at h;exact h
     (have y:(t.extract 1 t.size).size=t.size-1:=by rw[cK];omega);go_wp2
     go_roundg k
     case measure=>omega
     case rel=>exact⟨t.extract 1 t.size,rfl,v,by omega,by omega,rfl⟩
    ·have q:((t[0].toNat:Int)==48)=false:=by
      rw[bc];intro d;apply b;apply bQ.1;(have:t[0].toNat=48:=by omega);rw[this];rfl
     have j:Hid (t=T):=by
      have h:=Aa l;rw[LT (λd=>b (by rw[<-m];exact d.2))]at h;exact h
     go_wp2;go_ret;rw[<-Aa j];exact⟨rfl,rfl⟩
   ·(have r:¬(1:Int)<(t.size:Int):=by omega);have j:Hid (t=T):=by
     have h:=Aa l;rw[LT (λd=>n d.1)]at h;exact h
    go_wp2;go_ret;rw[<-Aa j];exact⟨rfl,rfl⟩
 ·have p:GT s=false:=by simpa using f
  rw[p]at c;have g:Hid (CX s=s):=by show _=_;unfold CX;rw[p];rfl
  rw[Aa g];go_enter func96,ntmps96;go_wp2_with (go_at_call 144;refine c.mono ?_;rintro e a ⟨rfl,rfl⟩)
  all_goals go_ret
  all_goals exact⟨rfl,rfl⟩
