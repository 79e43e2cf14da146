import Derived.Test.YtoihbhenbmffcaaGreatDoorVAD
set_option linter.all false
set_option maxHeartbeats 0
open Option renaming none->Y
open Bool renaming false->K,true->Cm
open Or renaming inl->Hd,inr->Hf
namespace Go.Proofs.YtoihbhenbmffcaaGreatDoor
open Go.RowKit Go.Proofs.Tryz
variable{s:bC}{i j n:Nat}
def bX(s:bC)(j a:Nat)(t:AF):IF s j a t Cm=(⟨0,Gp,t,Cl,j⟩,a,Cm):=by simp[IF]
def gc(h:¬i<s.size)(c:UInt8):Ej s i c=K:=by simp[Ej,h]
def dl{t:AF}(h:¬n<s.size):IF s j n t K=(⟨0,Gp,t,Cl,j⟩,n,Cm):=by simp[IF,gc h]
def Jc(h:i<s.size)(c:UInt8):Ej s i c=((s[i].toNat:Int)==(c.toNat:Int)):=by rw[Cu];simp[Ej,h]
def aP{t:AF}(h:n<s.size)(a:((s[n].toNat:Int)==61)=K)(b:((s[n].toNat:Int)==35)=K)(c:((s[n].toNat:Int)==60)=K):
  IF s j n t K=(⟨0,Gp,t,Cl,j⟩,n,Cm):=by
 unfold IF;rw[Jc h 61,Jc h 35,Jc h 60];rw[show((s[n].toNat:Int)==((61:UInt8).toNat:Int))=K from a,show((s[n].toNat:Int)==((35:UInt8).toNat:Int))=K from b,show((s[n].toNat:Int)==((60:UInt8).toNat:Int))=K from c]
 rfl
def Vn{t:AF}(h:n<s.size)(a:((s[n].toNat:Int)==61)=Cm\/((s[n].toNat:Int)==35)=Cm\/((s[n].toNat:Int)==60)=Cm):
  IF s j n t K=(⟨s[n],Gp,t,(AM s (n+1) K).1,j⟩,(AM s (n+1) K).2):=by
 unfold IF CT;rw[Jc h 61,Jc h 35,Jc h 60,dif_pos h];rw[lS];simp only[m4,np,ni];rcases a with a|a|a
 .exact Hd (Hd a)
 .exact Hd (Hf a)
 .exact Hf a
def bR(h:¬j<s.size):(AM s j K).2.2=Cm:=by
 have a:=Ch s j;unfold AM;rw[dif_neg (by omega)];rfl
def X7(s:bC)(j a:Nat)(t:AF)(d:Bool):
  (IF s j a t d=(⟨0,Gp,t,Cl,j⟩,a,Cm)/\(d=Cm\/(d=K/\¬a<s.size)\/(d=K/\∃h:a<s.size,((s[a].toNat:Int) !=61)=Cm/\((s[a].toNat:Int) !=35)=Cm/\((s[a].toNat:Int) !=60)=Cm)))\/
  (d=K/\∃h:a<s.size,IF s j a t d=(⟨s[a],Gp,t,(AM s (a+1) K).1,j⟩,(AM s (a+1) K).2)/\(((s[a].toNat:Int) !=61)=K\/(((s[a].toNat:Int) !=61)=Cm/\((s[a].toNat:Int) !=35)=K)\/(((s[a].toNat:Int) !=61)=Cm/\((s[a].toNat:Int) !=35)=Cm/\((s[a].toNat:Int) !=60)=K))):=by
 have b:∀{x:Int} {c:Int} {v:Bool},(x==c)=v->(x !=c)= !v:=λh=>by simp only[bne,h]
 cases d
 .by_cases h:a<s.size
  .cases k1:((s[a].toNat:Int)==61)
   .cases k2:((s[a].toNat:Int)==35)
    .cases k3:((s[a].toNat:Int)==60)
     .exact Hd ⟨aP h k1 k2 k3,Hf (Hf ⟨rfl,h,b k1,b k2,b k3⟩)⟩
     .exact Hf ⟨rfl,h,Vn h (Hf (Hf k3)),Hf (Hf ⟨b k1,b k2,b k3⟩)⟩
    .exact Hf ⟨rfl,h,Vn h (Hf (Hd k2)),Hf (Hd ⟨b k1,b k2⟩)⟩
   .exact Hf ⟨rfl,h,Vn h (Hd k1),Hd (b k1)⟩
  .exact Hd ⟨dl h,Hf (Hd ⟨rfl,h⟩)⟩
 .exact Hd ⟨bX s j a t,Hd rfl⟩
set_option maxRecDepth 100000
theorem ig(b:Nat)(s:bC)(l j:Nat)(w:World)(t:AF)(R d:Nat)(f:Bool)(u:s.size<=1000000)(HU:l<=s.size)(hj:Ae s l=j)(hx:Ej s j 33=K)(ho:Hid ((Ey s j&&Ka s j)=K))
  (S:Hid (AM s j K=(t,R,f)/\AQ s R f=d)) (hB:AI w b (B1 s l K) 73):
  Calls prog 129 #[.pointer (some ⟨b,0,Y⟩)] w λe G=>∃av,e=.returned (.agg (Cn (IF s j d t f).1 av).toArray)/\
   G.ownsRow w.heap.size 93 2 av (IF s j d t f).1.A.args.length ((IF s j d t f).1.A.args.flatMap AX)/\AI G b (B1 s (IF s j d t f).2.1 (IF s j d t f).2.2) 73/\Ac [b] w G:=by
 have HD:=Ab (X7 s j d t f);have HB:Hid (j<s.size\/f=Cm):=by
  by_cases h:j<s.size
  .exact Hd h
  .have h1:=bR h;rw[S.out.1]at h1;exact Hf h1
 generalize IF s j d t f=Z at HD⊢;have LC:=hB.lt;have MB:j<=s.size:=by have:=BD s l HU;omega
 have Bx:AQ s j K=j:=by rw[<-hj];exact Cz s l
 have HH:B7 s j K 33=j:=by unfold B7;rw[Bx,hx];rfl
 have HG:(!false&&Ej s (AQ s j K) 33)=K:=by rw[Bx,hx];rfl
 have HJ:Hid (Ae s l=j/\B7 s j K 33=j/\(!false&&Ej s (AQ s j K) 33)=K):=⟨hj,HH,HG⟩;clear hj hx Bx HH HG;go_enter func129,ntmps129;go_wp2_with fail
 refine(DR b s l K _ u HU (hB.alloc _)).mono ?_;rintro e w1 ⟨rfl,I,hK⟩;rw[show AQ s l K=j from HJ.out.1]at I
 have hn:=(Tc w _ _).kept hK (by simp;omega);have HF:=((SF [b] w).alloc _).trans hK;clear hB hK;have IS:=I.lt;have H3:=hn.lt;have i:=I.cell 1;simp[B1]at i;go_wp2_with fail
 refine(NF b s j K 33 33 _ rfl u (by omega) (I.alloc _)).mono ?_;rintro e w2 ⟨rfl,g,A0⟩;rw[HJ.out.2.1]at g;rw[HJ.out.2.2];have n:=(Tc w1 _ _).kept A0 (by simp;omega);have x:=(hn.alloc _).kept A0 (by simp;omega);have q:=(HF.alloc _).trans A0;obtain⟨N,hN⟩:=QP w1.heap.size;rw[hN]at n⊢;have K9:b<N:=by omega
 have MN:w.heap.size<N:=by omega
 clear HF I hn IS H3 i A0 hN HJ;have LL:=n.lt;have Mo:=g.lt;have K7:=x.lt;have v:=g.cell 0;have i:=g.cell 1;have r:=g.cell 2;simp[B1]at v i r;have hL:(∃h:j<s.size,AA s[j]=Cm)\/(∃h:j<s.size,AA s[j]=K)\/¬j<s.size:=by
  by_cases h:j<s.size
  .cases Q:AA s[j]
   .exact Hf (Hd ⟨h,Q⟩)
   .exact Hd ⟨h,Q⟩
  .exact Hf (Hf h)
 rcases hL with⟨M,Q⟩|⟨M,Q⟩|M
 case' inl=>
  have IA:(j:Int)<(s.size:Int):=by omega
  obtain⟨wd,y,m,AH⟩:∃wd y m,Bc s j K=(wd,y,m):=⟨_,_,_,rfl⟩;have H8:y<=s.size:=by have:=Iv s j K (by omega);rw[AH]at this;exact this
  have HM:(!m&&Ej s (AQ s y m) 40)=K:=by have h:=ho.out;rw[show Ey s j=Cm by unfold Ey;simp[M,Q],np]at h;unfold Ka at h;rw[AH]at h;exact h
  have HW:Hid (Bc s j K=(wd,y,m)/\(!m&&Ej s (AQ s y m) 40)=K):=⟨AH,HM⟩;clear AH HM;go_wp2_with fail
  go_quiet ((go_at_call 169;exact oL (Jp _ s[j] _ rfl)))
  go_wp2_with fail
  go_region
  go_wp2_with fail
  refine(NT w2.heap.size s j K _ u (by omega) (Tc (w2.drewN _) (B1 s j K) 73)).mono ?_;rintro e w3 ⟨rfl,EX,P⟩;rw[HW.out.1]at EX⊢;have HL:=((g.drewN _).alloc _).kept P (by simp;omega);have HQ:=((n.drewN _).alloc _).kept P (by simp;omega);have HI:=((x.drewN _).alloc _).kept P (by simp;omega);have HK:=((q.drewN _).alloc _).trans' P (by have:=q.size;simp;omega);clear g n x P v i r;simp only;go_wp2_with fail
  refine(RS w2.heap.size s y m 40 40 _ rfl u H8 EX).mono ?_;rintro e w4 ⟨rfl,_,L⟩;have H:=HL.kept L (by simp;omega);have F:=HQ.kept L (by simp;omega);have E:=HI.kept L (by simp;omega);have W:=HK.trans' L (by have:=q.size;simp;omega);rw[HW.out.2];clear HL HQ HI HK L EX HW q
 case' inr.inl=>
  have IA:(j:Int)<(s.size:Int):=by omega
  go_wp2_with fail
  go_quiet ((go_at_call 169;exact oL (Jp _ s[j] _ rfl)))
  have H:=g.drewN nq;have F:=n.drewN nq;have E:=x.drewN nq;have W:=q.drewN nq;clear g n x q v i r
 case' inr.inr=>
  have H6:decide ((j:Int)<(s.size:Int))=K:=by simp;omega
  have JA:decide (j<s.size)=K:=by simp;omega
  go_wp2_with fail
  go_quiet (fail)
  have H:=g.drewN nq;have F:=n.drewN nq;have E:=x.drewN nq;have W:=q.drewN nq;clear g n x q v i r H6 JA
 all_goals
  have K4:=F.lt;have KS:=H.lt;have LS:=E.lt;have HZ:R<=s.size:=by have:=F8 s j K (by omega);rw[S.out.1]at this;exact this
  have K5:d<=s.size:=by have:=GV s R f HZ;rw[S.out.2]at this;exact this
  go_wp2_with fail
  refine(R2 b s j K _ u (by omega) (by first|exact H|exact H.drewN _)).mono ?_;rintro e w5 ⟨rfl,FO,AB⟩;rw[S.out.1]at FO⊢;have T:=AI.kept (by first|exact F|exact F.drewN _) AB (by simp;omega);have HP:=AI.kept (by first|exact E|exact E.drewN _) AB (by simp;omega);have HE:=Ac.trans (by first|exact W|exact W.drewN _) AB;clear H F E W AB;have D:=T.cell 4;have B:=T.cell 5;have H7:=T.frozen;simp at D B;simp only[AX];go_wp2_with fail
  refine(DR b s R f _ u HZ ((FO.bI _ (by simp;omega) _).bI _ (by simp;omega) _)).mono ?_;rintro e w6 ⟨rfl,k,Ax⟩;rw[S.out.2]at k;have o:=((T.set 4 _).set 5 _).kept Ax (by simp;omega);have C:=((HP.bI _ (by simp;omega) _).bI _ (by simp;omega) _).kept Ax (by simp;omega);have DT:=((HE.setCell (p:=⟨N,4,Y⟩) (by simp;omega) _).setCell (p:=⟨N,5,Y⟩) (by simp;omega) _).trans Ax;clear FO T HP HE Ax D B H7;simp only[lC,lD]at o;have K2:=k.lt;have LM:=C.lt;have KK:=o.lt;have v:=k.cell 0;have i:=k.cell 1;have r:=k.cell 2;have H5:=k.frozen;simp[B1]at v i r;have KA:¬N=b:=by omega
  have K3:¬b=N:=by omega
  rcases Aa HD with⟨rfl,hD⟩|⟨rfl,HR,rfl,hD⟩
  .clear HD;rcases hD with rfl|⟨rfl,HR⟩|⟨rfl,HR,k1,k2,k3⟩;all_goals try (have h:=Aa HB;simp[M]at h;done)
   all_goals
    try have H1:(d:Int)<(s.size:Int):=by omega
    try have EY:decide ((s.size:Int)<=(d:Int))=K:=by simp;omega
    try have FW:decide (s.size<=d)=K:=by simp;omega
    try have EY:decide ((s.size:Int)<=(d:Int))=Cm:=by simp;omega
    try have FW:decide (s.size<=d)=Cm:=by simp;omega
    go_wp2_with fail
    go_quiet (fail)
    have a:=o.cell;have CC:=o.frozen;have c:=C.cell;have Ix:=C.frozen;have z:=a 0;have e1:=a 1;have e2:=a 2;have e3:=a 3;have D:=a 4;have B:=a 5;have e6:=a 6;have e7:=a 7;have e8:=a 8;have f0:=c 0;have f1:=c 1;have f2:=c 2;have f3:=c 3;have f4:=c 4;have f5:=c 5;have f6:=c 6;have f7:=c 7;have f8:=c 8;simp at z e1 e2 e3 D B e6 e7 e8 f0 f1 f2 f3 f4 f5 f6 f7 f8;clear a c;go_wp2;refine mj (Cg rfl rfl (((((((((((C.drewN _).bI _ (by simp;omega) _).set 0 _).set 1 _).set 2 _).set 3 _).set 4 _).set 5 _).set 6 _).set 7 _).set 8 _) underlying95 rfl (by kernel_rfl)) rfl ⟨_,rfl,mf _ _ _ _,?_,?_⟩
    .repeat (refine AI.bI ?_ _ (by simp;omega) _)
     exact(k.drewN _).set 2 _
    .repeat (refine Ac.setCell ?_ (by simp;try omega) _)
     exact DT.drewN _
  .clear HD;(have H1:(d:Int)<(s.size:Int):=by omega);(have EY:decide ((s.size:Int)<=(d:Int))=K:=by simp;omega);(have FW:decide (s.size<=d)=K:=by simp;omega);rcases hD with p1|⟨p1,p2⟩|⟨p1,p2,p3⟩;all_goals try (have h:=Aa HB;simp[M]at h;done)
   all_goals
    go_wp2_with fail
    go_quiet (fail)
    have z:=o.cell 0;have CC:=o.frozen 0;simp at z;clear EY FW;go_wp2_with fail
    go_region_held3 (λG=>G.cell? ⟨b,0,Y⟩=some (.string s)/\G.cell? ⟨b,1,Y⟩=some (.int .i64 d)) (go_keep) (fail)
    clear z CC;(go_wp2_with fail);refine(R2 b s (d+1) K _ u (by omega) (((k.drewN _).bI ⟨N,0,Y⟩ (by simp;omega) _).set 1 _)).mono ?_;rintro e w7 ⟨rfl,IJ,AR⟩;have HO:=(((o.drewN _).set 0 _).bI ⟨b,1,Y⟩ (by simp;omega) _).kept AR (by simp;omega);have FT:=(((C.drewN _).bI ⟨N,0,Y⟩ (by simp;omega) _).bI ⟨b,1,Y⟩ (by simp;omega) _).kept AR (by simp;omega);have Jx:=(((DT.drewN _).setCell (p:=⟨N,0,Y⟩) (by simp;omega) _).setCell (p:=⟨b,1,Y⟩) (by simp) _).trans AR;clear k o C DT AR v i r H5;have a:=HO.cell;have CC:=HO.frozen;have c:=FT.cell;have Ix:=FT.frozen;simp only[AX];have z:=a 0;have e1:=a 1;have e2:=a 2;have e3:=a 3;have D:=a 4;have B:=a 5;have e6:=a 6;have e7:=a 7;have e8:=a 8;have f0:=c 0;have f1:=c 1;have f2:=c 2;have f3:=c 3;have f4:=c 4;have f5:=c 5;have f6:=c 6;have f7:=c 7;have f8:=c 8;simp at z e1 e2 e3 D B e6 e7 e8 f0 f1 f2 f3 f4 f5 f6 f7 f8;clear a c;go_wp2;refine mj (Cg rfl rfl (((((((((((FT.bI _ (by simp;omega) _).bI _ (by simp;omega) _).set 0 _).set 1 _).set 2 _).set 3 _).set 4 _).set 5 _).set 6 _).set 7 _).set 8 _) underlying95 rfl (by kernel_rfl)) rfl ⟨_,rfl,mf _ _ _ _,?_,?_⟩
    .repeat (refine AI.bI ?_ _ (by simp;omega) _)
     exact IJ
    .repeat (refine Ac.setCell ?_ (by simp;try omega) _)
     exact Jx
