import Derived.Test.YtoihbhenbmffcaaGreatDoorTAD
set_option linter.all false
set_option maxHeartbeats 0
open Option renaming none->Y
open Bool renaming false->K,true->jj
open Or renaming inl->lo,inr->lx
namespace Go.Proofs.YtoihbhenbmffcaaGreatDoor
open Go.RowKit Go.Proofs.Tryz
variable{s:zA}{i j n:Nat}
def cP(s:zA)(j a:Nat)(t:AJ):In s j a t jj=(⟨0,Hr,t,Ec,j⟩,a,jj):=by simp[In]
def gW(h:¬i<s.size)(c:UInt8):DM s i c=K:=by simp[DM,h]
def dS{t:AJ}(h:¬n<s.size):In s j n t K=(⟨0,Hr,t,Ec,j⟩,n,jj):=by simp[In,gW h]
def JE(h:i<s.size)(c:UInt8):DM s i c=((s[i].toNat:Int)==(c.toNat:Int)):=by rw[Cy];simp[DM,h]
def bG{t:AJ}(h:n<s.size)(a:((s[n].toNat:Int)==61)=K)(b:((s[n].toNat:Int)==35)=K)(c:((s[n].toNat:Int)==60)=K):
  In s j n t K=(⟨0,Hr,t,Ec,j⟩,n,jj):=by
 unfold In;rw[JE h 61,JE h 35,JE h 60];rw[show((s[n].toNat:Int)==((61:UInt8).toNat:Int))=K from a,show((s[n].toNat:Int)==((35:UInt8).toNat:Int))=K from b,show((s[n].toNat:Int)==((60:UInt8).toNat:Int))=K from c]
 rfl
def VY{t:AJ}(h:n<s.size)(a:((s[n].toNat:Int)==61)=jj\/((s[n].toNat:Int)==35)=jj\/((s[n].toNat:Int)==60)=jj):
  In s j n t K=(⟨s[n],Hr,t,(Az s (n+1) K).1,j⟩,(Az s (n+1) K).2):=by
 unfold In CN;rw[JE h 61,JE h 35,JE h 60,dif_pos h];rw[mK];simp only[nZ,oy,om];rcases a with a|a|a
 .exact lo (lo a)
 .exact lo (lx a)
 .exact lx a
def cI(h:¬j<s.size):(Az s j K).2.2=jj:=by
 have a:=B1 s j;unfold Az;rw[dif_neg (by omega)];rfl
def YE(s:zA)(j a:Nat)(t:AJ)(d:Bool):
  (In s j a t d=(⟨0,Hr,t,Ec,j⟩,a,jj)/\(d=jj\/(d=K/\¬a<s.size)\/(d=K/\∃h:a<s.size,((s[a].toNat:Int) !=61)=jj/\((s[a].toNat:Int) !=35)=jj/\((s[a].toNat:Int) !=60)=jj)))\/
  (d=K/\∃h:a<s.size,In s j a t d=(⟨s[a],Hr,t,(Az s (a+1) K).1,j⟩,(Az s (a+1) K).2)/\(((s[a].toNat:Int) !=61)=K\/(((s[a].toNat:Int) !=61)=jj/\((s[a].toNat:Int) !=35)=K)\/(((s[a].toNat:Int) !=61)=jj/\((s[a].toNat:Int) !=35)=jj/\((s[a].toNat:Int) !=60)=K))):=by
 have b:∀{x:Int} {c:Int} {v:Bool},(x==c)=v->(x !=c)= !v:=λh=>by simp only[bne,h]
 cases d
 .by_cases h:a<s.size
  .cases k1:((s[a].toNat:Int)==61)
   .cases k2:((s[a].toNat:Int)==35)
    .cases k3:((s[a].toNat:Int)==60)
     .exact lo ⟨bG h k1 k2 k3,lx (lx ⟨rfl,h,b k1,b k2,b k3⟩)⟩
     .exact lx ⟨rfl,h,VY h (lx (lx k3)),lx (lx ⟨b k1,b k2,b k3⟩)⟩
    .exact lx ⟨rfl,h,VY h (lx (lo k2)),lx (lo ⟨b k1,b k2⟩)⟩
   .exact lx ⟨rfl,h,VY h (lo k1),lo (b k1)⟩
  .exact lo ⟨dS h,lx (lo ⟨rfl,h⟩)⟩
 .exact lo ⟨cP s j a t,lo rfl⟩
set_option maxRecDepth 100000
theorem iR(b:Nat)(s:zA)(l j:Nat)(w:World)(t:AJ)(R d:Nat)(f:Bool)(u:s.size<=1000000)(HU:l<=s.size)(hj:Ae s l=j)(hx:DM s j 33=K)(ho:Hid ((CT s j&&Gs s j)=K))
  (S:Hid (Az s j K=(t,R,f)/\AF s R f=d)) (hB:AI w b (B7 s l K) 73):
  Calls prog 129 #[.pointer (some ⟨b,0,Y⟩)] w λe G=>∃av,e=.returned (.agg (CB (In s j d t f).1 av).toArray)/\
   G.ownsRow w.heap.size 93 2 av (In s j d t f).1.A.args.length ((In s j d t f).1.A.args.flatMap AQ)/\AI G b (B7 s (In s j d t f).2.1 (In s j d t f).2.2) 73/\Ac [b] w G:=by
 have HD:=Ab (YE s j d t f);have HB:Hid (j<s.size\/f=jj):=by
  by_cases h:j<s.size
  .exact lo h
  .have h1:=cI h;rw[S.out.1]at h1;exact lx h1
 generalize In s j d t f=Z at HD⊢;have LC:=hB.lt;have Mo:j<=s.size:=by have:=Bp s l HU;omega
 have Bx:AF s j K=j:=by rw[<-hj];exact BU s l
 have HH:Cg s j K 33=j:=by unfold Cg;rw[Bx,hx];rfl
 have HG:(!false&&DM s (AF s j K) 33)=K:=by rw[Bx,hx];rfl
 have HJ:Hid (Ae s l=j/\Cg s j K 33=j/\(!false&&DM s (AF s j K) 33)=K):=⟨hj,HH,HG⟩;clear hj hx Bx HH HG;go_enter func129,ntmps129;go_wp2_with fail
 refine(D6 b s l K _ u HU (hB.alloc _)).mono ?_;rintro e w1 ⟨rfl,I,hK⟩;rw[show AF s l K=j from HJ.out.1]at I
 have hn:=(rf w _ _).kept hK (by simp;omega);have HF:=((re [b] w).alloc _).trans hK;clear hB hK;have IS:=I.lt;have H3:=hn.lt;have i:=I.cell 1;simp[B7]at i;go_wp2_with fail
 refine(Ov b s j K 33 33 _ rfl u (by omega) (I.alloc _)).mono ?_;rintro e w2 ⟨rfl,g,A0⟩;rw[HJ.out.2.1]at g;rw[HJ.out.2.2];have n:=(rf w1 _ _).kept A0 (by simp;omega);have x:=(hn.alloc _).kept A0 (by simp;omega);have q:=(HF.alloc _).trans A0;obtain⟨N,hN⟩:=rd w1.heap.size;rw[hN]at n⊢;have K9:b<N:=by omega
 have MB:w.heap.size<N:=by omega
 clear HF I hn IS H3 i A0 hN HJ;have LE:=n.lt;have L0:=g.lt;have K7:=x.lt;have v:=g.cell 0;have i:=g.cell 1;have r:=g.cell 2;simp[B7]at v i r;have hL:(∃h:j<s.size,AA s[j]=jj)\/(∃h:j<s.size,AA s[j]=K)\/¬j<s.size:=by
  by_cases h:j<s.size
  .cases Q:AA s[j]
   .exact lx (lo ⟨h,Q⟩)
   .exact lo ⟨h,Q⟩
  .exact lx (lx h)
 rcases hL with⟨M,Q⟩|⟨M,Q⟩|M
 case' inl=>
  have IA:(j:Int)<(s.size:Int):=by omega
  obtain⟨wd,y,m,AH⟩:∃wd y m,AY s j K=(wd,y,m):=⟨_,_,_,rfl⟩;have H8:y<=s.size:=by have:=Hk s j K (by omega);rw[AH]at this;exact this
  have HM:(!m&&DM s (AF s y m) 40)=K:=by have h:=ho.out;rw[show CT s j=jj by unfold CT;simp[M,Q],oy]at h;unfold Gs at h;rw[AH]at h;exact h
  have HW:Hid (AY s j K=(wd,y,m)/\(!m&&DM s (AF s y m) 40)=K):=⟨AH,HM⟩;clear AH HM;go_wp2_with fail
  go_quiet ((go_at_call 169;exact pQ (JW _ s[j] _ rfl)))
  go_wp2_with fail
  go_region
  go_wp2_with fail
  refine(OD w2.heap.size s j K _ u (by omega) (rf (w2.drewN _) (B7 s j K) 73)).mono ?_;rintro e w3 ⟨rfl,EX,P⟩;rw[HW.out.1]at EX⊢;have HL:=((g.drewN _).alloc _).kept P (by simp;omega);have HQ:=((n.drewN _).alloc _).kept P (by simp;omega);have HI:=((x.drewN _).alloc _).kept P (by simp;omega);have HK:=((q.drewN _).alloc _).trans' P (by have:=q.size;simp;omega);clear g n x P v i r;simp only;go_wp2_with fail
  refine(Sp w2.heap.size s y m 40 40 _ rfl u H8 EX).mono ?_;rintro e w4 ⟨rfl,_,L⟩;have H:=HL.kept L (by simp;omega);have F:=HQ.kept L (by simp;omega);have E:=HI.kept L (by simp;omega);have W:=HK.trans' L (by have:=q.size;simp;omega);rw[HW.out.2];clear HL HQ HI HK L EX HW q
 case' inr.inl=>
  have IA:(j:Int)<(s.size:Int):=by omega
  go_wp2_with fail
  go_quiet ((go_at_call 169;exact pQ (JW _ s[j] _ rfl)))
  have H:=g.drewN nq;have F:=n.drewN nq;have E:=x.drewN nq;have W:=q.drewN nq;clear g n x q v i r
 case' inr.inr=>
  have H6:decide ((j:Int)<(s.size:Int))=K:=by simp;omega
  have JA:decide (j<s.size)=K:=by simp;omega
  go_wp2_with fail
  go_quiet (fail)
  have H:=g.drewN nq;have F:=n.drewN nq;have E:=x.drewN nq;have W:=q.drewN nq;clear g n x q v i r H6 JA
 all_goals
  have K4:=F.lt;have KS:=H.lt;have LM:=E.lt;have HZ:R<=s.size:=by have:=Fh s j K (by omega);rw[S.out.1]at this;exact this
  have K5:d<=s.size:=by have:=Gx s R f HZ;rw[S.out.2]at this;exact this
  go_wp2_with fail
  refine(Sy b s j K _ u (by omega) (by first|exact H|exact H.drewN _)).mono ?_;rintro e w5 ⟨rfl,FO,AB⟩;rw[S.out.1]at FO⊢;have T:=AI.kept (by first|exact F|exact F.drewN _) AB (by simp;omega);have HP:=AI.kept (by first|exact E|exact E.drewN _) AB (by simp;omega);have HE:=Ac.trans (by first|exact W|exact W.drewN _) AB;clear H F E W AB;have D:=T.cell 4;have B:=T.cell 5;have H7:=T.frozen;simp at D B;simp only[AQ];go_wp2_with fail
  refine(D6 b s R f _ u HZ ((FO.zB _ (by simp;omega) _).zB _ (by simp;omega) _)).mono ?_;rintro e w6 ⟨rfl,k,Ax⟩;rw[S.out.2]at k;have o:=((T.set 4 _).set 5 _).kept Ax (by simp;omega);have C:=((HP.zB _ (by simp;omega) _).zB _ (by simp;omega) _).kept Ax (by simp;omega);have DT:=((HE.setCell (p:=⟨N,4,Y⟩) (by simp;omega) _).setCell (p:=⟨N,5,Y⟩) (by simp;omega) _).trans Ax;clear FO T HP HE Ax D B H7;simp only[mr,mt]at o;have K2:=k.lt;have LL:=C.lt;have KK:=o.lt;have v:=k.cell 0;have i:=k.cell 1;have r:=k.cell 2;have H5:=k.frozen;simp[B7]at v i r;have KA:¬N=b:=by omega
  have K3:¬b=N:=by omega
  rcases Aa HD with⟨rfl,hD⟩|⟨rfl,HR,rfl,hD⟩
  .clear HD;rcases hD with rfl|⟨rfl,HR⟩|⟨rfl,HR,k1,k2,k3⟩;all_goals try (have h:=Aa HB;simp[M]at h;done)
   all_goals
    try have H1:(d:Int)<(s.size:Int):=by omega
    try have EY:decide ((s.size:Int)<=(d:Int))=K:=by simp;omega
    try have FW:decide (s.size<=d)=K:=by simp;omega
    try have EY:decide ((s.size:Int)<=(d:Int))=jj:=by simp;omega
    try have FW:decide (s.size<=d)=jj:=by simp;omega
    go_wp2_with fail
    go_quiet (fail)
    have a:=o.cell;have CL:=o.frozen;have c:=C.cell;have Ix:=C.frozen;have z:=a 0;have e1:=a 1;have e2:=a 2;have e3:=a 3;have D:=a 4;have B:=a 5;have e6:=a 6;have e7:=a 7;have e8:=a 8;have f0:=c 0;have f1:=c 1;have f2:=c 2;have f3:=c 3;have f4:=c 4;have f5:=c 5;have f6:=c 6;have f7:=c 7;have f8:=c 8;simp at z e1 e2 e3 D B e6 e7 e8 f0 f1 f2 f3 f4 f5 f6 f7 f8;clear a c;go_wp2;refine m5 (Cj rfl rfl (((((((((((C.drewN _).zB _ (by simp;omega) _).set 0 _).set 1 _).set 2 _).set 3 _).set 4 _).set 5 _).set 6 _).set 7 _).set 8 _) underlying95 rfl (by kernel_rfl)) rfl ⟨_,rfl,mS _ _ _ _,?_,?_⟩
    .repeat (refine AI.zB ?_ _ (by simp;omega) _)
     exact(k.drewN _).set 2 _
    .repeat (refine Ac.setCell ?_ (by simp;try omega) _)
     exact DT.drewN _
  .clear HD;(have H1:(d:Int)<(s.size:Int):=by omega);(have EY:decide ((s.size:Int)<=(d:Int))=K:=by simp;omega);(have FW:decide (s.size<=d)=K:=by simp;omega);rcases hD with p1|⟨p1,p2⟩|⟨p1,p2,p3⟩;all_goals try (have h:=Aa HB;simp[M]at h;done)
   all_goals
    go_wp2_with fail
    go_quiet (fail)
    have z:=o.cell 0;have CL:=o.frozen 0;simp at z;clear EY FW;go_wp2_with fail
    go_region_held3 (λG=>G.cell? ⟨b,0,Y⟩=some (.string s)/\G.cell? ⟨b,1,Y⟩=some (.int .i64 d)) (go_keep) (fail)
    clear z CL;(go_wp2_with fail);refine(Sy b s (d+1) K _ u (by omega) (((k.drewN _).zB ⟨N,0,Y⟩ (by simp;omega) _).set 1 _)).mono ?_;rintro e w7 ⟨rfl,IJ,AR⟩;have HO:=(((o.drewN _).set 0 _).zB ⟨b,1,Y⟩ (by simp;omega) _).kept AR (by simp;omega);have FT:=(((C.drewN _).zB ⟨N,0,Y⟩ (by simp;omega) _).zB ⟨b,1,Y⟩ (by simp;omega) _).kept AR (by simp;omega);have Jx:=(((DT.drewN _).setCell (p:=⟨N,0,Y⟩) (by simp;omega) _).setCell (p:=⟨b,1,Y⟩) (by simp) _).trans AR;clear k o C DT AR v i r H5;have a:=HO.cell;have CL:=HO.frozen;have c:=FT.cell;have Ix:=FT.frozen;simp only[AQ];have z:=a 0;have e1:=a 1;have e2:=a 2;have e3:=a 3;have D:=a 4;have B:=a 5;have e6:=a 6;have e7:=a 7;have e8:=a 8;have f0:=c 0;have f1:=c 1;have f2:=c 2;have f3:=c 3;have f4:=c 4;have f5:=c 5;have f6:=c 6;have f7:=c 7;have f8:=c 8;simp at z e1 e2 e3 D B e6 e7 e8 f0 f1 f2 f3 f4 f5 f6 f7 f8;clear a c;go_wp2;refine m5 (Cj rfl rfl (((((((((((FT.zB _ (by simp;omega) _).zB _ (by simp;omega) _).set 0 _).set 1 _).set 2 _).set 3 _).set 4 _).set 5 _).set 6 _).set 7 _).set 8 _) underlying95 rfl (by kernel_rfl)) rfl ⟨_,rfl,mS _ _ _ _,?_,?_⟩
    .repeat (refine AI.zB ?_ _ (by simp;omega) _)
     exact IJ
    .repeat (refine Ac.setCell ?_ (by simp;try omega) _)
     exact Jx
