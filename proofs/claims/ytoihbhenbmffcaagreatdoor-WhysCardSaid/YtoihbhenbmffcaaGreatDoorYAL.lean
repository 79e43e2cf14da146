import Derived.Test.YtoihbhenbmffcaaGreatDoorYAK
set_option linter.all false
set_option maxHeartbeats 0
open Option renaming none->Y
open Bool renaming false->K,true->jj
open Or renaming inl->j5,inr->j6
namespace Go.Proofs.YtoihbhenbmffcaaGreatDoor
open Go.RowKit Go.Proofs.Tryz
def X9(s:g0)(j a:Nat)(t:AG):Hr s j a t jj=(⟨0,Gk,t,Ec,j⟩,a,jj):=by simp[Hr]
def aX{s:g0}{i:Nat}(h:¬i<s.size)(c:UInt8):DS s i c=K:=by simp[DS,h]
def YY{s:g0}{j a:Nat}{t:AG}(h:¬a<s.size):Hr s j a t K=(⟨0,Gk,t,Ec,j⟩,a,jj):=by simp[Hr,aX h]
def Hy{s:g0}{i:Nat}(h:i<s.size)(c:UInt8):DS s i c=((s[i].toNat:Int)==(c.toNat:Int)):=by rw[Cp];simp[DS,h]
def Xp{s:g0}{j a:Nat}{t:AG}(h:a<s.size)(b:((s[a].toNat:Int)==61)=K)(c:((s[a].toNat:Int)==35)=K)(d:((s[a].toNat:Int)==60)=K):
  Hr s j a t K=(⟨0,Gk,t,Ec,j⟩,a,jj):=by
 unfold Hr;rw[Hy h 61,Hy h 35,Hy h 60];rw[show((s[a].toNat:Int)==((61:UInt8).toNat:Int))=K from b,show((s[a].toNat:Int)==((35:UInt8).toNat:Int))=K from c,show((s[a].toNat:Int)==((60:UInt8).toNat:Int))=K from d]
 rfl
def SC{s:g0}{j a:Nat}{t:AG}(h:a<s.size)(b:((s[a].toNat:Int)==61)=jj\/((s[a].toNat:Int)==35)=jj\/((s[a].toNat:Int)==60)=jj):
  Hr s j a t K=(⟨s[a],Gk,t,(AK s (a+1) K).1,j⟩,(AK s (a+1) K).2):=by
 unfold Hr Cw;rw[Hy h 61,Hy h 35,Hy h 60,dif_pos h];rw[eI];simp only[fS,gq,gr];rcases b with b|b|b
 .exact j5 (j5 b)
 .exact j5 (j6 b)
 .exact j6 b
def XZ{s:g0}{j:Nat}(h:¬j<s.size):(AK s j K).2.2=jj:=by
 have a:=BR s j;unfold AK;rw[dif_neg (by omega)];rfl
def UX(s:g0)(j a:Nat)(t:AG)(d:Bool):
  (Hr s j a t d=(⟨0,Gk,t,Ec,j⟩,a,jj)/\(d=jj\/(d=K/\¬a<s.size)\/(d=K/\∃h:a<s.size,((s[a].toNat:Int) !=61)=jj/\((s[a].toNat:Int) !=35)=jj/\((s[a].toNat:Int) !=60)=jj)))\/
  (d=K/\∃h:a<s.size,Hr s j a t d=(⟨s[a],Gk,t,(AK s (a+1) K).1,j⟩,(AK s (a+1) K).2)/\(((s[a].toNat:Int) !=61)=K\/(((s[a].toNat:Int) !=61)=jj/\((s[a].toNat:Int) !=35)=K)\/(((s[a].toNat:Int) !=61)=jj/\((s[a].toNat:Int) !=35)=jj/\((s[a].toNat:Int) !=60)=K))):=by
 have b:∀{x:Int} {c:Int} {v:Bool},(x==c)=v->(x !=c)= !v:=λh=>by simp only[bne,h]
 cases d
 .by_cases h:a<s.size
  .cases k1:((s[a].toNat:Int)==61)
   .cases k2:((s[a].toNat:Int)==35)
    .cases k3:((s[a].toNat:Int)==60)
     .exact j5 ⟨Xp h k1 k2 k3,j6 (j6 ⟨rfl,h,b k1,b k2,b k3⟩)⟩
     .exact j6 ⟨rfl,h,SC h (j6 (j6 k3)),j6 (j6 ⟨b k1,b k2,b k3⟩)⟩
    .exact j6 ⟨rfl,h,SC h (j6 (j5 k2)),j6 (j5 ⟨b k1,b k2⟩)⟩
   .exact j6 ⟨rfl,h,SC h (j5 k1),j5 (b k1)⟩
  .exact j5 ⟨YY h,j6 (j5 ⟨rfl,h⟩)⟩
 .exact j5 ⟨X9 s j a t,j5 rfl⟩
set_option maxRecDepth 100000
theorem bT(b:Nat)(s:g0)(at_ j:Nat)(w:World)(t:AG)(Q d:Nat)(f:Bool)(r:s.size<=1000000)(HY:at_<=s.size)(hj:Ae s at_=j)(hx:DS s j 33=K)(ho:Hid ((E3 s j&&Li s j)=K))
  (R:Hid (AK s j K=(t,Q,f)/\AN s Q f=d)) (hB:AI w b (BK s at_ K) 73):
  Calls prog 129 #[.pointer (some ⟨b,0,Y⟩)] w λe F=>∃av,e=.returned (.agg (Cs (Hr s j d t f).1 av).toArray)/\
   F.ownsRow w.heap.size 93 2 av (Hr s j d t f).1.A.args.length ((Hr s j d t f).1.A.args.flatMap AQ)/\AI F b (BK s (Hr s j d t f).2.1 (Hr s j d t f).2.2) 73/\Ac [b] w F:=by
 have HD:=Ab (UX s j d t f);have HB:Hid (j<s.size\/f=jj):=by
  by_cases h:j<s.size
  .exact j5 h
  .have h1:=XZ h;rw[R.out.1]at h1;exact j6 h1
 generalize Hr s j d t f=Z at HD⊢;have L0:=hB.lt;have M2:j<=s.size:=by have:=Bn s at_ HY;omega
 have BA:AN s j K=j:=by rw[<-hj];exact Ch s at_
 have HL:BZ s j K 33=j:=by unfold BZ;rw[BA,hx];rfl
 have HK:(!false&&DS s (AN s j K) 33)=K:=by rw[BA,hx];rfl
 have HJ:Hid (Ae s at_=j/\BZ s j K 33=j/\(!false&&DS s (AN s j K) 33)=K):=⟨hj,HL,HK⟩;clear hj hx BA HL HK;go_enter func129,ntmps129;go_wp2_with fail
 refine(Ds b s at_ K _ r HY (hB.alloc _)).mono ?_;rintro e w1 ⟨rfl,H,hK⟩;rw[show AN s at_ K=j from HJ.out.1]at H
 have hn:=(AI.new w _ _).kept hK (by simp;omega);have HI:=((Ac.refl [b] w).alloc _).trans hK;clear hB hK;have KB:=H.lt;have H6:=hn.lt;have i:=H.cell 1;simp[BK]at i;go_wp2_with fail
 refine(LW b s j K 33 33 _ rfl r (by omega) (H.alloc _)).mono ?_;rintro e w2 ⟨rfl,g,A1⟩;rw[HJ.out.2.1]at g;rw[HJ.out.2.2];have m:=(AI.new w1 _ _).kept A1 (by simp;omega);have v:=(hn.alloc _).kept A1 (by simp;omega);have o:=(HI.alloc _).trans A1;obtain⟨N,hN⟩:∃N,w1.heap.size=N:=⟨_,rfl⟩;rw[hN]at m⊢;have LM:b<N:=by omega
 have M3:w.heap.size<N:=by omega
 clear HI H hn KB H6 i A1 hN HJ;have MB:=m.lt;have M1:=g.lt;have LE:=v.lt;have u:=g.cell 0;have i:=g.cell 1;have q:=g.cell 2;simp[BK]at u i q;have hL:(∃h:j<s.size,Az s[j]=jj)\/(∃h:j<s.size,Az s[j]=K)\/¬j<s.size:=by
  by_cases h:j<s.size
  .cases P:Az s[j]
   .exact j6 (j5 ⟨h,P⟩)
   .exact j5 ⟨h,P⟩
  .exact j6 (j6 h)
 rcases hL with⟨L,P⟩|⟨L,P⟩|L
 case' inl=>
  have JJ:(j:Int)<(s.size:Int):=by omega
  obtain⟨wd,x,l,AB⟩:∃wd x l,AX s j K=(wd,x,l):=⟨_,_,_,rfl⟩;have IJ:x<=s.size:=by have:=G1 s j K (by omega);rw[AB]at this;exact this
  have HP:(!l&&DS s (AN s x l) 40)=K:=by have h:=ho.out;rw[show E3 s j=jj by unfold E3;simp[L,P],gq]at h;unfold Li at h;rw[AB]at h;exact h
  have HW:Hid (AX s j K=(wd,x,l)/\(!l&&DS s (AN s x l) 40)=K):=⟨AB,HP⟩;clear AB HP;go_wp2_with fail
  go_quiet ((go_at_call 169;exact iB (Ij _ s[j] _ rfl)))
  go_wp2_with fail
  go_region
  go_wp2_with fail
  refine(L4 w2.heap.size s j K _ r (by omega) (AI.new (w2.drewN _) (BK s j K) 73)).mono ?_;rintro e w3 ⟨rfl,FA,M⟩;rw[HW.out.1]at FA⊢;have HO:=((g.drewN _).alloc _).kept M (by simp;omega);have HU:=((m.drewN _).alloc _).kept M (by simp;omega);have HM:=((v.drewN _).alloc _).kept M (by simp;omega);have HN:=((o.drewN _).alloc _).trans' M (by have:=o.size;simp;omega);clear g m v M u i q;simp only;go_wp2_with fail
  refine(PK w2.heap.size s x l 40 40 _ rfl r IJ FA).mono ?_;rintro e w4 ⟨rfl,_,I⟩;have G:=HO.kept I (by simp;omega);have E:=HU.kept I (by simp;omega);have D:=HM.kept I (by simp;omega);have T:=HN.trans' I (by have:=o.size;simp;omega);rw[HW.out.2];clear HO HU HM HN I FA HW o
 case' inr.inl=>
  have JJ:(j:Int)<(s.size:Int):=by omega
  go_wp2_with fail
  go_quiet ((go_at_call 169;exact iB (Ij _ s[j] _ rfl)))
  have G:=g.drewN nq;have E:=m.drewN nq;have D:=v.drewN nq;have T:=o.drewN nq;clear g m v o u i q
 case' inr.inr=>
  have H9:decide ((j:Int)<(s.size:Int))=K:=by simp;omega
  have KS:decide (j<s.size)=K:=by simp;omega
  go_wp2_with fail
  go_quiet (fail)
  have G:=g.drewN nq;have E:=m.drewN nq;have D:=v.drewN nq;have T:=o.drewN nq;clear g m v o u i q H9 KS
 all_goals
  have K9:=E.lt;have K5:=G.lt;have MY:=D.lt;have H2:Q<=s.size:=by have:=Ff s j K (by omega);rw[R.out.1]at this;exact this
  have LB:d<=s.size:=by have:=Gc s Q f H2;rw[R.out.2]at this;exact this
  go_wp2_with fail
  refine(PP b s j K _ r (by omega) (by first|exact G|exact G.drewN _)).mono ?_;rintro e w5 ⟨rfl,FW,Ax⟩;rw[R.out.1]at FW⊢;have S:=AI.kept (by first|exact E|exact E.drewN _) Ax (by simp;omega);have HS:=AI.kept (by first|exact D|exact D.drewN _) Ax (by simp;omega);have HH:=Ac.trans (by first|exact T|exact T.drewN _) Ax;clear G E D T Ax;have C:=S.cell 4;have z:=S.cell 5;have Ix:=S.frozen;simp at C z;simp only[AQ];go_wp2_with fail
  refine(Ds b s Q f _ r H2 ((FW.zA _ (by simp;omega) _).zA _ (by simp;omega) _)).mono ?_;rintro e w6 ⟨rfl,k,W⟩;rw[R.out.2]at k;have n:=((S.set 4 _).set 5 _).kept W (by simp;omega);have B:=((HS.zA _ (by simp;omega) _).zA _ (by simp;omega) _).kept W (by simp;omega);have EM:=((HH.setCell (p:=⟨N,4,Y⟩) (by simp;omega) _).setCell (p:=⟨N,5,Y⟩) (by simp;omega) _).trans W;clear FW S HS HH W C z Ix;simp only[ej,el]at n;have K7:=k.lt;have MN:=B.lt;have K4:=n.lt;have u:=k.cell 0;have i:=k.cell 1;have q:=k.cell 2;have H8:=k.frozen;simp[BK]at u i q;have K2:¬N=b:=by omega
  have K8:¬b=N:=by omega
  rcases Aa HD with⟨rfl,hD⟩|⟨rfl,HV,rfl,hD⟩
  .clear HD;rcases hD with rfl|⟨rfl,HV⟩|⟨rfl,HV,k1,k2,k3⟩;all_goals try (have h:=Aa HB;simp[L]at h;done)
   all_goals
    try have H4:(d:Int)<(s.size:Int):=by omega
    try have FB:decide ((s.size:Int)<=(d:Int))=K:=by simp;omega
    try have HA:decide (s.size<=d)=K:=by simp;omega
    try have FB:decide ((s.size:Int)<=(d:Int))=jj:=by simp;omega
    try have HA:decide (s.size<=d)=jj:=by simp;omega
    go_wp2_with fail
    go_quiet (fail)
    have a:=n.cell;have DT:=n.frozen;have c:=B.cell;have Jx:=B.frozen;have y:=a 0;have e1:=a 1;have e2:=a 2;have e3:=a 3;have C:=a 4;have z:=a 5;have e6:=a 6;have e7:=a 7;have e8:=a 8;have f0:=c 0;have f1:=c 1;have f2:=c 2;have f3:=c 3;have f4:=c 4;have f5:=c 5;have f6:=c 6;have f7:=c 7;have f8:=c 8;simp at y e1 e2 e3 C z e6 e7 e8 f0 f1 f2 f3 f4 f5 f6 f7 f8;clear a c;go_wp2;refine eX (BQ rfl rfl (((((((((((B.drewN _).zA _ (by simp;omega) _).set 0 _).set 1 _).set 2 _).set 3 _).set 4 _).set 5 _).set 6 _).set 7 _).set 8 _) underlying95 rfl (by kernel_rfl)) rfl ⟨_,rfl,eU _ _ _ _,?_,?_⟩
    .repeat (refine AI.zA ?_ _ (by simp;omega) _)
     exact(k.drewN _).set 2 _
    .repeat (refine Ac.setCell ?_ (by simp;try omega) _)
     exact EM.drewN _
  .clear HD;(have H4:(d:Int)<(s.size:Int):=by omega);(have FB:decide ((s.size:Int)<=(d:Int))=K:=by simp;omega);(have HA:decide (s.size<=d)=K:=by simp;omega);rcases hD with p1|⟨p1,p2⟩|⟨p1,p2,p3⟩;all_goals try (have h:=Aa HB;simp[L]at h;done)
   all_goals
    go_wp2_with fail
    go_quiet (fail)
    have y:=n.cell 0;have DT:=n.frozen 0;simp at y;clear FB HA;go_wp2_with fail
    go_region_held3 (λF=>F.cell? ⟨b,0,Y⟩=some (.string s)/\F.cell? ⟨b,1,Y⟩=some (.int .i64 d)) (go_keep) (fail)
    clear y DT;(go_wp2_with fail);refine(PP b s (d+1) K _ r (by omega) (((k.drewN _).zA ⟨N,0,Y⟩ (by simp;omega) _).set 1 _)).mono ?_;rintro e w7 ⟨rfl,KA,AT⟩;have HR:=(((n.drewN _).set 0 _).zA ⟨b,1,Y⟩ (by simp;omega) _).kept AT (by simp;omega);have Ha:=(((B.drewN _).zA ⟨N,0,Y⟩ (by simp;omega) _).zA ⟨b,1,Y⟩ (by simp;omega) _).kept AT (by simp;omega);have KK:=(((EM.drewN _).setCell (p:=⟨N,0,Y⟩) (by simp;omega) _).setCell (p:=⟨b,1,Y⟩) (by simp) _).trans AT;clear k n B EM AT u i q H8;have a:=HR.cell;have DT:=HR.frozen;have c:=Ha.cell;have Jx:=Ha.frozen;simp only[AQ];have y:=a 0;have e1:=a 1;have e2:=a 2;have e3:=a 3;have C:=a 4;have z:=a 5;have e6:=a 6;have e7:=a 7;have e8:=a 8;have f0:=c 0;have f1:=c 1;have f2:=c 2;have f3:=c 3;have f4:=c 4;have f5:=c 5;have f6:=c 6;have f7:=c 7;have f8:=c 8;simp at y e1 e2 e3 C z e6 e7 e8 f0 f1 f2 f3 f4 f5 f6 f7 f8;clear a c;go_wp2;refine eX (BQ rfl rfl (((((((((((Ha.zA _ (by simp;omega) _).zA _ (by simp;omega) _).set 0 _).set 1 _).set 2 _).set 3 _).set 4 _).set 5 _).set 6 _).set 7 _).set 8 _) underlying95 rfl (by kernel_rfl)) rfl ⟨_,rfl,eU _ _ _ _,?_,?_⟩
    .repeat (refine AI.zA ?_ _ (by simp;omega) _)
     exact KA
    .repeat (refine Ac.setCell ?_ (by simp;try omega) _)
     exact KK
