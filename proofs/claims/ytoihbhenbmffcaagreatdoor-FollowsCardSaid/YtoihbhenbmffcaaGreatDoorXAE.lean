import Derived.Test.YtoihbhenbmffcaaGreatDoorXAD
set_option linter.all false
set_option maxHeartbeats 0
open Option renaming none->Y
open Bool renaming false->K,true->jj
open Or renaming inl->oi,inr->oj
namespace Go.Proofs.YtoihbhenbmffcaaGreatDoor
open Go.RowKit Go.Proofs.Tryz
variable{s:zA}{i j n:Nat}
def bP(s:zA)(j a:Nat)(t:AK):I6 s j a t jj=(⟨0,G6,t,DQ,j⟩,a,jj):=by simp[I6]
def fI(h:¬i<s.size)(c:UInt8):Et s i c=K:=by simp[Et,h]
def dd{t:AK}(h:¬n<s.size):I6 s j n t K=(⟨0,G6,t,DQ,j⟩,n,jj):=by simp[I6,fI h]
def I9(h:i<s.size)(c:UInt8):Et s i c=((s[i].toNat:Int)==(c.toNat:Int)):=by rw[Cq];simp[Et,h]
def aJ{t:AK}(h:n<s.size)(a:((s[n].toNat:Int)==61)=K)(b:((s[n].toNat:Int)==35)=K)(c:((s[n].toNat:Int)==60)=K):
  I6 s j n t K=(⟨0,G6,t,DQ,j⟩,n,jj):=by
 unfold I6;rw[I9 h 61,I9 h 35,I9 h 60];rw[show((s[n].toNat:Int)==((61:UInt8).toNat:Int))=K from a,show((s[n].toNat:Int)==((35:UInt8).toNat:Int))=K from b,show((s[n].toNat:Int)==((60:UInt8).toNat:Int))=K from c]
 rfl
def Vo{t:AK}(h:n<s.size)(a:((s[n].toNat:Int)==61)=jj\/((s[n].toNat:Int)==35)=jj\/((s[n].toNat:Int)==60)=jj):
  I6 s j n t K=(⟨s[n],G6,t,(AN s (n+1) K).1,j⟩,(AN s (n+1) K).2):=by
 unfold I6 CQ;rw[I9 h 61,I9 h 35,I9 h 60,dif_pos h];rw[ln];simp only[mJ,mR,mP];rcases a with a|a|a
 .exact oi (oi a)
 .exact oi (oj a)
 .exact oj a
def bI(h:¬j<s.size):(AN s j K).2.2=jj:=by
 have a:=Cb s j;unfold AN;rw[dif_neg (by omega)];rfl
def XX(s:zA)(j a:Nat)(t:AK)(d:Bool):
  (I6 s j a t d=(⟨0,G6,t,DQ,j⟩,a,jj)/\(d=jj\/(d=K/\¬a<s.size)\/(d=K/\∃h:a<s.size,((s[a].toNat:Int) !=61)=jj/\((s[a].toNat:Int) !=35)=jj/\((s[a].toNat:Int) !=60)=jj)))\/
  (d=K/\∃h:a<s.size,I6 s j a t d=(⟨s[a],G6,t,(AN s (a+1) K).1,j⟩,(AN s (a+1) K).2)/\(((s[a].toNat:Int) !=61)=K\/(((s[a].toNat:Int) !=61)=jj/\((s[a].toNat:Int) !=35)=K)\/(((s[a].toNat:Int) !=61)=jj/\((s[a].toNat:Int) !=35)=jj/\((s[a].toNat:Int) !=60)=K))):=by
 have b:∀{x:Int} {c:Int} {v:Bool},(x==c)=v->(x !=c)= !v:=λh=>by simp only[bne,h]
 cases d
 .by_cases h:a<s.size
  .cases k1:((s[a].toNat:Int)==61)
   .cases k2:((s[a].toNat:Int)==35)
    .cases k3:((s[a].toNat:Int)==60)
     .exact oi ⟨aJ h k1 k2 k3,oj (oj ⟨rfl,h,b k1,b k2,b k3⟩)⟩
     .exact oj ⟨rfl,h,Vo h (oj (oj k3)),oj (oj ⟨b k1,b k2,b k3⟩)⟩
    .exact oj ⟨rfl,h,Vo h (oj (oi k2)),oj (oi ⟨b k1,b k2⟩)⟩
   .exact oj ⟨rfl,h,Vo h (oi k1),oi (b k1)⟩
  .exact oi ⟨dd h,oj (oi ⟨rfl,h⟩)⟩
 .exact oi ⟨bP s j a t,oi rfl⟩
set_option maxRecDepth 100000
theorem gO(b:Nat)(s:zA)(l j:Nat)(w:World)(t:AK)(R d:Nat)(f:Bool)(u:s.size<=1000000)(HX:l<=s.size)(hj:Ae s l=j)(hx:Et s j 33=K)(ho:Hid ((FJ s j&&MR s j)=K))
  (S:Hid (AN s j K=(t,R,f)/\AQ s R f=d)) (hB:AF w b (BY s l K) 73):
  Calls prog 129 #[.pointer (some ⟨b,0,Y⟩)] w λe G=>∃av,e=.returned (.agg (Cj (I6 s j d t f).1 av).toArray)/\
   G.ownsRow w.heap.size 93 2 av (I6 s j d t f).1.A.args.length ((I6 s j d t f).1.A.args.flatMap AV)/\AF G b (BY s (I6 s j d t f).2.1 (I6 s j d t f).2.2) 73/\Ac [b] w G:=by
 have HD:=Ab (XX s j d t f);have HB:Hid (j<s.size\/f=jj):=by
  by_cases h:j<s.size
  .exact oi h
  .have h1:=bI h;rw[S.out.1]at h1;exact oj h1
 generalize I6 s j d t f=Z at HD⊢;have LE:=hB.lt;have MN:j<=s.size:=by have:=BB s l HX;omega
 have BA:AQ s j K=j:=by rw[<-hj];exact Cu s l
 have HK:Ch s j K 33=j:=by unfold Ch;rw[BA,hx];rfl
 have HI:(!false&&Et s (AQ s j K) 33)=K:=by rw[BA,hx];rfl
 have HJ:Hid (Ae s l=j/\Ch s j K 33=j/\(!false&&Et s (AQ s j K) 33)=K):=⟨hj,HK,HI⟩;clear hj hx BA HK HI;go_enter func129,ntmps129;go_wp2_with fail
 refine(DO b s l K _ u HX (hB.alloc _)).mono ?_;rintro e w1 ⟨rfl,I,hK⟩;rw[show AQ s l K=j from HJ.out.1]at I
 have hn:=(pP w _ _).kept hK (by simp;omega);have HH:=((pO [b] w).alloc _).trans hK;clear hB hK;have JA:=I.lt;have H5:=hn.lt;have i:=I.cell 1;simp[BY]at i;go_wp2_with fail
 refine(NF b s j K 33 33 _ rfl u (by omega) (I.alloc _)).mono ?_;rintro e w2 ⟨rfl,g,A1⟩;rw[HJ.out.2.1]at g;rw[HJ.out.2.2];have n:=(pP w1 _ _).kept A1 (by simp;omega);have x:=(hn.alloc _).kept A1 (by simp;omega);have q:=(HH.alloc _).trans A1;obtain⟨N,hN⟩:=pN w1.heap.size;rw[hN]at n⊢;have LB:b<N:=by omega
 have MY:w.heap.size<N:=by omega
 clear HH I hn JA H5 i A1 hN HJ;have LM:=n.lt;have MB:=g.lt;have K8:=x.lt;have v:=g.cell 0;have i:=g.cell 1;have r:=g.cell 2;simp[BY]at v i r;have hL:(∃h:j<s.size,AD s[j]=jj)\/(∃h:j<s.size,AD s[j]=K)\/¬j<s.size:=by
  by_cases h:j<s.size
  .cases Q:AD s[j]
   .exact oj (oi ⟨h,Q⟩)
   .exact oi ⟨h,Q⟩
  .exact oj (oj h)
 rcases hL with⟨M,Q⟩|⟨M,Q⟩|M
 case' inl=>
  have IS:(j:Int)<(s.size:Int):=by omega
  obtain⟨wd,y,m,AH⟩:∃wd y m,A9 s j K=(wd,y,m):=⟨_,_,_,rfl⟩;have Ix:y<=s.size:=by have:=Iz s j K (by omega);rw[AH]at this;exact this
  have HO:(!m&&Et s (AQ s y m) 40)=K:=by have h:=ho.out;rw[show FJ s j=jj by unfold FJ;simp[M,Q],mR]at h;unfold MR at h;rw[AH]at h;exact h
  have HW:Hid (A9 s j K=(wd,y,m)/\(!m&&Et s (AQ s y m) 40)=K):=⟨AH,HO⟩;clear AH HO;go_wp2_with fail
  go_quiet ((go_at_call 169;exact ol (Jk _ s[j] _ rfl)))
  go_wp2_with fail
  go_region
  go_wp2_with fail
  refine(NQ w2.heap.size s j K _ u (by omega) (pP (w2.drewN _) (BY s j K) 73)).mono ?_;rintro e w3 ⟨rfl,E0,P⟩;rw[HW.out.1]at E0⊢;have HN:=((g.drewN _).alloc _).kept P (by simp;omega);have HS:=((n.drewN _).alloc _).kept P (by simp;omega);have HL:=((x.drewN _).alloc _).kept P (by simp;omega);have HM:=((q.drewN _).alloc _).trans' P (by have:=q.size;simp;omega);clear g n x P v i r;simp only;go_wp2_with fail
  refine(RR w2.heap.size s y m 40 40 _ rfl u Ix E0).mono ?_;rintro e w4 ⟨rfl,_,L⟩;have H:=HN.kept L (by simp;omega);have F:=HS.kept L (by simp;omega);have E:=HL.kept L (by simp;omega);have W:=HM.trans' L (by have:=q.size;simp;omega);rw[HW.out.2];clear HN HS HL HM L E0 HW q
 case' inr.inl=>
  have IS:(j:Int)<(s.size:Int):=by omega
  go_wp2_with fail
  go_quiet ((go_at_call 169;exact ol (Jk _ s[j] _ rfl)))
  have H:=g.drewN nq;have F:=n.drewN nq;have E:=x.drewN nq;have W:=q.drewN nq;clear g n x q v i r
 case' inr.inr=>
  have H8:decide ((j:Int)<(s.size:Int))=K:=by simp;omega
  have KA:decide (j<s.size)=K:=by simp;omega
  go_wp2_with fail
  go_quiet (fail)
  have H:=g.drewN nq;have F:=n.drewN nq;have E:=x.drewN nq;have W:=q.drewN nq;clear g n x q v i r H8 KA
 all_goals
  have K5:=F.lt;have K1:=H.lt;have L0:=E.lt;have H1:R<=s.size:=by have:=F5 s j K (by omega);rw[S.out.1]at this;exact this
  have K6:d<=s.size:=by have:=GV s R f H1;rw[S.out.2]at this;exact this
  go_wp2_with fail
  refine(R1 b s j K _ u (by omega) (by first|exact H|exact H.drewN _)).mono ?_;rintro e w5 ⟨rfl,FT,AB⟩;rw[S.out.1]at FT⊢;have T:=AF.kept (by first|exact F|exact F.drewN _) AB (by simp;omega);have HR:=AF.kept (by first|exact E|exact E.drewN _) AB (by simp;omega);have HG:=Ac.trans (by first|exact W|exact W.drewN _) AB;clear H F E W AB;have D:=T.cell 4;have B:=T.cell 5;have H9:=T.frozen;simp at D B;simp only[AV];go_wp2_with fail
  refine(DO b s R f _ u H1 ((FT.zB _ (by simp;omega) _).zB _ (by simp;omega) _)).mono ?_;rintro e w6 ⟨rfl,k,Ax⟩;rw[S.out.2]at k;have o:=((T.set 4 _).set 5 _).kept Ax (by simp;omega);have C:=((HR.zB _ (by simp;omega) _).zB _ (by simp;omega) _).kept Ax (by simp;omega);have EM:=((HG.setCell (p:=⟨N,4,Y⟩) (by simp;omega) _).setCell (p:=⟨N,5,Y⟩) (by simp;omega) _).trans Ax;clear FT T HR HG Ax D B H9;simp only[kT,kU]at o;have K3:=k.lt;have LS:=C.lt;have KS:=o.lt;have v:=k.cell 0;have i:=k.cell 1;have r:=k.cell 2;have H7:=k.frozen;simp[BY]at v i r;have KD:¬N=b:=by omega
  have K4:¬b=N:=by omega
  rcases Aa HD with⟨rfl,hD⟩|⟨rfl,HU,rfl,hD⟩
  .clear HD;rcases hD with rfl|⟨rfl,HU⟩|⟨rfl,HU,k1,k2,k3⟩;all_goals try (have h:=Aa HB;simp[M]at h;done)
   all_goals
    try have H3:(d:Int)<(s.size:Int):=by omega
    try have FA:decide ((s.size:Int)<=(d:Int))=K:=by simp;omega
    try have Ha:decide (s.size<=d)=K:=by simp;omega
    try have FA:decide ((s.size:Int)<=(d:Int))=jj:=by simp;omega
    try have Ha:decide (s.size<=d)=jj:=by simp;omega
    go_wp2_with fail
    go_quiet (fail)
    have a:=o.cell;have DT:=o.frozen;have c:=C.cell;have IJ:=C.frozen;have z:=a 0;have e1:=a 1;have e2:=a 2;have e3:=a 3;have D:=a 4;have B:=a 5;have e6:=a 6;have e7:=a 7;have e8:=a 8;have f0:=c 0;have f1:=c 1;have f2:=c 2;have f3:=c 3;have f4:=c 4;have f5:=c 5;have f6:=c 6;have f7:=c 7;have f8:=c 8;simp at z e1 e2 e3 D B e6 e7 e8 f0 f1 f2 f3 f4 f5 f6 f7 f8;clear a c;go_wp2;refine lL (Ca rfl rfl (((((((((((C.drewN _).zB _ (by simp;omega) _).set 0 _).set 1 _).set 2 _).set 3 _).set 4 _).set 5 _).set 6 _).set 7 _).set 8 _) underlying95 rfl (by kernel_rfl)) rfl ⟨_,rfl,lH _ _ _ _,?_,?_⟩
    .repeat (refine AF.zB ?_ _ (by simp;omega) _)
     exact(k.drewN _).set 2 _
    .repeat (refine Ac.setCell ?_ (by simp;try omega) _)
     exact EM.drewN _
  .clear HD;(have H3:(d:Int)<(s.size:Int):=by omega);(have FA:decide ((s.size:Int)<=(d:Int))=K:=by simp;omega);(have Ha:decide (s.size<=d)=K:=by simp;omega);rcases hD with p1|⟨p1,p2⟩|⟨p1,p2,p3⟩;all_goals try (have h:=Aa HB;simp[M]at h;done)
   all_goals
    go_wp2_with fail
    go_quiet (fail)
    have z:=o.cell 0;have DT:=o.frozen 0;simp at z;clear FA Ha;go_wp2_with fail
    go_region_held3 (λG=>G.cell? ⟨b,0,Y⟩=some (.string s)/\G.cell? ⟨b,1,Y⟩=some (.int .i64 d)) (go_keep) (fail)
    clear z DT;(go_wp2_with fail);refine(R1 b s (d+1) K _ u (by omega) (((k.drewN _).zB ⟨N,0,Y⟩ (by simp;omega) _).set 1 _)).mono ?_;rintro e w7 ⟨rfl,Jx,AT⟩;have HQ:=(((o.drewN _).set 0 _).zB ⟨b,1,Y⟩ (by simp;omega) _).kept AT (by simp;omega);have Go:=(((C.drewN _).zB ⟨N,0,Y⟩ (by simp;omega) _).zB ⟨b,1,Y⟩ (by simp;omega) _).kept AT (by simp;omega);have JJ:=(((EM.drewN _).setCell (p:=⟨N,0,Y⟩) (by simp;omega) _).setCell (p:=⟨b,1,Y⟩) (by simp) _).trans AT;clear k o C EM AT v i r H7;have a:=HQ.cell;have DT:=HQ.frozen;have c:=Go.cell;have IJ:=Go.frozen;simp only[AV];have z:=a 0;have e1:=a 1;have e2:=a 2;have e3:=a 3;have D:=a 4;have B:=a 5;have e6:=a 6;have e7:=a 7;have e8:=a 8;have f0:=c 0;have f1:=c 1;have f2:=c 2;have f3:=c 3;have f4:=c 4;have f5:=c 5;have f6:=c 6;have f7:=c 7;have f8:=c 8;simp at z e1 e2 e3 D B e6 e7 e8 f0 f1 f2 f3 f4 f5 f6 f7 f8;clear a c;go_wp2;refine lL (Ca rfl rfl (((((((((((Go.zB _ (by simp;omega) _).zB _ (by simp;omega) _).set 0 _).set 1 _).set 2 _).set 3 _).set 4 _).set 5 _).set 6 _).set 7 _).set 8 _) underlying95 rfl (by kernel_rfl)) rfl ⟨_,rfl,lH _ _ _ _,?_,?_⟩
    .repeat (refine AF.zB ?_ _ (by simp;omega) _)
     exact Jx
    .repeat (refine Ac.setCell ?_ (by simp;try omega) _)
     exact JJ
