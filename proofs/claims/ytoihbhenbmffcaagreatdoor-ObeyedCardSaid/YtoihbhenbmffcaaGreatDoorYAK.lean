import Derived.Test.YtoihbhenbmffcaaGreatDoorYAJ
set_option linter.all false
set_option maxHeartbeats 0
open Option renaming none->Y
open Bool renaming false->K,true->j1
open Or renaming inl->lx,inr->ly
namespace Go.Proofs.YtoihbhenbmffcaaGreatDoor
open Go.RowKit Go.Proofs.Tryz
def Ze(s:zA)(j a:Nat)(t:AE):Ig s j a t j1=(⟨0,Gy,t,Dm,j⟩,a,j1):=by simp[Ig]
def cN{s:zA}{i:Nat}(h:¬i<s.size)(c:UInt8):D1 s i c=K:=by simp[D1,h]
def ZZ{s:zA}{j a:Nat}{t:AE}(h:¬a<s.size):Ig s j a t K=(⟨0,Gy,t,Dm,j⟩,a,j1):=by simp[Ig,cN h]
def Ik{s:zA}{i:Nat}(h:i<s.size)(c:UInt8):D1 s i c=((s[i].toNat:Int)==(c.toNat:Int)):=by rw[CP];simp[D1,h]
def Yy{s:zA}{j a:Nat}{t:AE}(h:a<s.size)(b:((s[a].toNat:Int)==61)=K)(c:((s[a].toNat:Int)==35)=K)(d:((s[a].toNat:Int)==60)=K):
  Ig s j a t K=(⟨0,Gy,t,Dm,j⟩,a,j1):=by
 unfold Ig;rw[Ik h 61,Ik h 35,Ik h 60];rw[show((s[a].toNat:Int)==((61:UInt8).toNat:Int))=K from b,show((s[a].toNat:Int)==((35:UInt8).toNat:Int))=K from c,show((s[a].toNat:Int)==((60:UInt8).toNat:Int))=K from d]
 rfl
def TB{s:zA}{j a:Nat}{t:AE}(h:a<s.size)(b:((s[a].toNat:Int)==61)=j1\/((s[a].toNat:Int)==35)=j1\/((s[a].toNat:Int)==60)=j1):
  Ig s j a t K=(⟨s[a],Gy,t,(AI s (a+1) K).1,j⟩,(AI s (a+1) K).2):=by
 unfold Ig Cl;rw[Ik h 61,Ik h 35,Ik h 60,dif_pos h];rw[gY];simp only[jb,jq,jx];rcases b with b|b|b
 .exact lx (lx b)
 .exact lx (ly b)
 .exact ly b
def Y7{s:zA}{j:Nat}(h:¬j<s.size):(AI s j K).2.2=j1:=by
 have a:=BU s j;unfold AI;rw[dif_neg (by omega)];rfl
def V5(s:zA)(j a:Nat)(t:AE)(d:Bool):
  (Ig s j a t d=(⟨0,Gy,t,Dm,j⟩,a,j1)/\(d=j1\/(d=K/\¬a<s.size)\/(d=K/\∃h:a<s.size,((s[a].toNat:Int) !=61)=j1/\((s[a].toNat:Int) !=35)=j1/\((s[a].toNat:Int) !=60)=j1)))\/
  (d=K/\∃h:a<s.size,Ig s j a t d=(⟨s[a],Gy,t,(AI s (a+1) K).1,j⟩,(AI s (a+1) K).2)/\(((s[a].toNat:Int) !=61)=K\/(((s[a].toNat:Int) !=61)=j1/\((s[a].toNat:Int) !=35)=K)\/(((s[a].toNat:Int) !=61)=j1/\((s[a].toNat:Int) !=35)=j1/\((s[a].toNat:Int) !=60)=K))):=by
 have b:∀{x:Int} {c:Int} {v:Bool},(x==c)=v->(x !=c)= !v:=λh=>by simp only[bne,h]
 cases d
 .by_cases h:a<s.size
  .cases k1:((s[a].toNat:Int)==61)
   .cases k2:((s[a].toNat:Int)==35)
    .cases k3:((s[a].toNat:Int)==60)
     .exact lx ⟨Yy h k1 k2 k3,ly (ly ⟨rfl,h,b k1,b k2,b k3⟩)⟩
     .exact ly ⟨rfl,h,TB h (ly (ly k3)),ly (ly ⟨b k1,b k2,b k3⟩)⟩
    .exact ly ⟨rfl,h,TB h (ly (lx k2)),ly (lx ⟨b k1,b k2⟩)⟩
   .exact ly ⟨rfl,h,TB h (lx k1),lx (b k1)⟩
  .exact lx ⟨ZZ h,ly (lx ⟨rfl,h⟩)⟩
 .exact lx ⟨Ze s j a t,lx rfl⟩
set_option maxRecDepth 100000
theorem dB(b:Nat)(s:zA)(at_ j:Nat)(w:World)(t:AE)(Q d:Nat)(f:Bool)(r:s.size<=1000000)(H1:at_<=s.size)(hj:Ae s at_=j)(hx:D1 s j 33=K)(ho:Hid ((Fe s j&&LG s j)=K))
  (R:Hid (AI s j K=(t,Q,f)/\AM s Q f=d)) (hB:AH w b (BO s at_ K) 73):
  Calls prog 129 #[.pointer (some ⟨b,0,Y⟩)] w λe F=>∃av,e=.returned (.agg (CJ (Ig s j d t f).1 av).toArray)/\
   F.ownsRow w.heap.size 93 2 av (Ig s j d t f).1.A.args.length ((Ig s j d t f).1.A.args.flatMap AU)/\AH F b (BO s (Ig s j d t f).2.1 (Ig s j d t f).2.2) 73/\Ac [b] w F:=by
 have HD:=Ab (V5 s j d t f);have HB:Hid (j<s.size\/f=j1):=by
  by_cases h:j<s.size
  .exact lx h
  .have h1:=Y7 h;rw[R.out.1]at h1;exact ly h1
 generalize Ig s j d t f=Z at HD⊢;have M0:=hB.lt;have Nq:j<=s.size:=by have:=Bp s at_ H1;omega
 have BS:AM s j K=j:=by rw[<-hj];exact Cb s at_
 have HO:BX s j K 33=j:=by unfold BX;rw[BS,hx];rfl
 have HN:(!false&&D1 s (AM s j K) 33)=K:=by rw[BS,hx];rfl
 have HJ:Hid (Ae s at_=j/\BX s j K 33=j/\(!false&&D1 s (AM s j K) 33)=K):=⟨hj,HO,HN⟩;clear hj hx BS HO HN;go_enter func129,ntmps129;go_wp2_with fail
 refine(Dx b s at_ K _ r H1 (hB.alloc _)).mono ?_;rintro e w1 ⟨rfl,H,hK⟩;rw[show AM s at_ K=j from HJ.out.1]at H
 have hn:=(mf w _ _).kept hK (by simp;omega);have HM:=((me [b] w).alloc _).trans hK;clear hB hK;have K3:=H.lt;have H9:=hn.lt;have i:=H.cell 1;simp[BO]at i;go_wp2_with fail
 refine(Mi b s j K 33 33 _ rfl r (by omega) (H.alloc _)).mono ?_;rintro e w2 ⟨rfl,g,A2⟩;rw[HJ.out.2.1]at g;rw[HJ.out.2.2];have m:=(mf w1 _ _).kept A2 (by simp;omega);have v:=(hn.alloc _).kept A2 (by simp;omega);have o:=(HM.alloc _).trans A2;obtain⟨N,hN⟩:∃N,w1.heap.size=N:=⟨_,rfl⟩;rw[hN]at m⊢;have MN:b<N:=by omega
 have Nx:w.heap.size<N:=by omega
 clear HM H hn K3 H9 i A2 hN HJ;have M2:=m.lt;have Nj:=g.lt;have Mo:=v.lt;have u:=g.cell 0;have i:=g.cell 1;have q:=g.cell 2;simp[BO]at u i q;have hL:(∃h:j<s.size,Az s[j]=j1)\/(∃h:j<s.size,Az s[j]=K)\/¬j<s.size:=by
  by_cases h:j<s.size
  .cases P:Az s[j]
   .exact ly (lx ⟨h,P⟩)
   .exact lx ⟨h,P⟩
  .exact ly (ly h)
 rcases hL with⟨L,P⟩|⟨L,P⟩|L
 case' inl=>
  have K1:(j:Int)<(s.size:Int):=by omega
  obtain⟨wd,x,l,AO⟩:∃wd x l,AY s j K=(wd,x,l):=⟨_,_,_,rfl⟩;have JJ:x<=s.size:=by have:=He s j K (by omega);rw[AO]at this;exact this
  have HS:(!l&&D1 s (AM s x l) 40)=K:=by have h:=ho.out;rw[show Fe s j=j1 by unfold Fe;simp[L,P],jq]at h;unfold LG at h;rw[AO]at h;exact h
  have HW:Hid (AY s j K=(wd,x,l)/\(!l&&D1 s (AM s x l) 40)=K):=⟨AO,HS⟩;clear AO HS;go_wp2_with fail
  go_quiet ((go_at_call 169;exact ky (Iu _ s[j] _ rfl)))
  go_wp2_with fail
  go_region
  go_wp2_with fail
  refine(Mq w2.heap.size s j K _ r (by omega) (mf (w2.drewN _) (BO s j K) 73)).mono ?_;rintro e w3 ⟨rfl,FC,M⟩;rw[HW.out.1]at FC⊢;have HR:=((g.drewN _).alloc _).kept M (by simp;omega);have HY:=((m.drewN _).alloc _).kept M (by simp;omega);have HP:=((v.drewN _).alloc _).kept M (by simp;omega);have HQ:=((o.drewN _).alloc _).trans' M (by have:=o.size;simp;omega);clear g m v M u i q;simp only;go_wp2_with fail
  refine(Qo w2.heap.size s x l 40 40 _ rfl r JJ FC).mono ?_;rintro e w4 ⟨rfl,_,I⟩;have G:=HR.kept I (by simp;omega);have E:=HY.kept I (by simp;omega);have D:=HP.kept I (by simp;omega);have T:=HQ.trans' I (by have:=o.size;simp;omega);rw[HW.out.2];clear HR HY HP HQ I FC HW o
 case' inr.inl=>
  have K1:(j:Int)<(s.size:Int):=by omega
  go_wp2_with fail
  go_quiet ((go_at_call 169;exact ky (Iu _ s[j] _ rfl)))
  have G:=g.drewN nq;have E:=m.drewN nq;have D:=v.drewN nq;have T:=o.drewN nq;clear g m v o u i q
 case' inr.inr=>
  have IS:decide ((j:Int)<(s.size:Int))=K:=by simp;omega
  have K5:decide (j<s.size)=K:=by simp;omega
  go_wp2_with fail
  go_quiet (fail)
  have G:=g.drewN nq;have E:=m.drewN nq;have D:=v.drewN nq;have T:=o.drewN nq;clear g m v o u i q IS K5
 all_goals
  have LM:=E.lt;have LB:=G.lt;have M6:=D.lt;have H5:Q<=s.size:=by have:=Fo s j K (by omega);rw[R.out.1]at this;exact this
  have LS:d<=s.size:=by have:=Gm s Q f H5;rw[R.out.2]at this;exact this
  go_wp2_with fail
  refine(Qv b s j K _ r (by omega) (by first|exact G|exact G.drewN _)).mono ?_;rintro e w5 ⟨rfl,HA,Ax⟩;rw[R.out.1]at HA⊢;have S:=AH.kept (by first|exact E|exact E.drewN _) Ax (by simp;omega);have HX:=AH.kept (by first|exact D|exact D.drewN _) Ax (by simp;omega);have HL:=Ac.trans (by first|exact T|exact T.drewN _) Ax;clear G E D T Ax;have C:=S.cell 4;have z:=S.cell 5;have Jx:=S.frozen;simp at C z;simp only[AU];go_wp2_with fail
  refine(Dx b s Q f _ r H5 ((HA.zB _ (by simp;omega) _).zB _ (by simp;omega) _)).mono ?_;rintro e w6 ⟨rfl,k,W⟩;rw[R.out.2]at k;have n:=((S.set 4 _).set 5 _).kept W (by simp;omega);have B:=((HX.zB _ (by simp;omega) _).zB _ (by simp;omega) _).kept W (by simp;omega);have EX:=((HL.setCell (p:=⟨N,4,Y⟩) (by simp;omega) _).setCell (p:=⟨N,5,Y⟩) (by simp;omega) _).trans W;clear HA S HX HL W C z Jx;simp only[gJ,gK]at n;have LE:=k.lt;have M3:=B.lt;have K9:=n.lt;have u:=k.cell 0;have i:=k.cell 1;have q:=k.cell 2;have IJ:=k.frozen;simp[BO]at u i q;have K7:¬N=b:=by omega
  have LL:¬b=N:=by omega
  rcases Aa HD with⟨rfl,hD⟩|⟨rfl,HZ,rfl,hD⟩
  .clear HD;rcases hD with rfl|⟨rfl,HZ⟩|⟨rfl,HZ,k1,k2,k3⟩;all_goals try (have h:=Aa HB;simp[L]at h;done)
   all_goals
    try have H7:(d:Int)<(s.size:Int):=by omega
    try have FF:decide ((s.size:Int)<=(d:Int))=K:=by simp;omega
    try have HF:decide (s.size<=d)=K:=by simp;omega
    try have FF:decide ((s.size:Int)<=(d:Int))=j1:=by simp;omega
    try have HF:decide (s.size<=d)=j1:=by simp;omega
    go_wp2_with fail
    go_quiet (fail)
    have a:=n.cell;have EK:=n.frozen;have c:=B.cell;have KS:=B.frozen;have y:=a 0;have e1:=a 1;have e2:=a 2;have e3:=a 3;have C:=a 4;have z:=a 5;have e6:=a 6;have e7:=a 7;have e8:=a 8;have f0:=c 0;have f1:=c 1;have f2:=c 2;have f3:=c 3;have f4:=c 4;have f5:=c 5;have f6:=c 6;have f7:=c 7;have f8:=c 8;simp at y e1 e2 e3 C z e6 e7 e8 f0 f1 f2 f3 f4 f5 f6 f7 f8;clear a c;go_wp2;refine im (BR rfl rfl (((((((((((B.drewN _).zB _ (by simp;omega) _).set 0 _).set 1 _).set 2 _).set 3 _).set 4 _).set 5 _).set 6 _).set 7 _).set 8 _) underlying95 rfl (by kernel_rfl)) rfl ⟨_,rfl,ip _ _ _ _,?_,?_⟩
    .repeat (refine AH.zB ?_ _ (by simp;omega) _)
     exact(k.drewN _).set 2 _
    .repeat (refine Ac.setCell ?_ (by simp;try omega) _)
     exact EX.drewN _
  .clear HD;(have H7:(d:Int)<(s.size:Int):=by omega);(have FF:decide ((s.size:Int)<=(d:Int))=K:=by simp;omega);(have HF:decide (s.size<=d)=K:=by simp;omega);rcases hD with p1|⟨p1,p2⟩|⟨p1,p2,p3⟩;all_goals try (have h:=Aa HB;simp[L]at h;done)
   all_goals
    go_wp2_with fail
    go_quiet (fail)
    have y:=n.cell 0;have EK:=n.frozen 0;simp at y;clear FF HF;go_wp2_with fail
    go_region_held3 (λF=>F.cell? ⟨b,0,Y⟩=some (.string s)/\F.cell? ⟨b,1,Y⟩=some (.int .i64 d)) (go_keep) (fail)
    clear y EK;(go_wp2_with fail);refine(Qv b s (d+1) K _ r (by omega) (((k.drewN _).zB ⟨N,0,Y⟩ (by simp;omega) _).set 1 _)).mono ?_;rintro e w7 ⟨rfl,K2,A0⟩;have HV:=(((n.drewN _).set 0 _).zB ⟨b,1,Y⟩ (by simp;omega) _).kept A0 (by simp;omega);have HE:=(((B.drewN _).zB ⟨N,0,Y⟩ (by simp;omega) _).zB ⟨b,1,Y⟩ (by simp;omega) _).kept A0 (by simp;omega);have K4:=(((EX.drewN _).setCell (p:=⟨N,0,Y⟩) (by simp;omega) _).setCell (p:=⟨b,1,Y⟩) (by simp) _).trans A0;clear k n B EX A0 u i q IJ;have a:=HV.cell;have EK:=HV.frozen;have c:=HE.cell;have KS:=HE.frozen;simp only[AU];have y:=a 0;have e1:=a 1;have e2:=a 2;have e3:=a 3;have C:=a 4;have z:=a 5;have e6:=a 6;have e7:=a 7;have e8:=a 8;have f0:=c 0;have f1:=c 1;have f2:=c 2;have f3:=c 3;have f4:=c 4;have f5:=c 5;have f6:=c 6;have f7:=c 7;have f8:=c 8;simp at y e1 e2 e3 C z e6 e7 e8 f0 f1 f2 f3 f4 f5 f6 f7 f8;clear a c;go_wp2;refine im (BR rfl rfl (((((((((((HE.zB _ (by simp;omega) _).zB _ (by simp;omega) _).set 0 _).set 1 _).set 2 _).set 3 _).set 4 _).set 5 _).set 6 _).set 7 _).set 8 _) underlying95 rfl (by kernel_rfl)) rfl ⟨_,rfl,ip _ _ _ _,?_,?_⟩
    .repeat (refine AH.zB ?_ _ (by simp;omega) _)
     exact K2
    .repeat (refine Ac.setCell ?_ (by simp;try omega) _)
     exact K4
