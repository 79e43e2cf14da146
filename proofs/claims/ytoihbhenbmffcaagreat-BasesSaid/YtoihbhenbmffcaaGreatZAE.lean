import Derived.Test.YtoihbhenbmffcaaGreatZAD
set_option linter.all false
set_option maxHeartbeats 0
open Option renaming none->Y
open Bool renaming false->K,true->hG
open Or renaming inl->kn,inr->kp
namespace Go.Proofs.YtoihbhenbmffcaaGreat
open Go.RowKit Go.Proofs.Tryz
variable{s:zA}{i j n:Nat}
def Yp(s:zA)(j a:Nat)(t:AG):Hz s j a t hG=(⟨0,Gz,t,Ej,j⟩,a,hG):=by simp[Hz]
def bo(h:¬i<s.size)(c:UInt8):DV s i c=K:=by simp[DV,h]
def Zd{t:AG}(h:¬n<s.size):Hz s j n t K=(⟨0,Gz,t,Ej,j⟩,n,hG):=by simp[Hz,bo h]
def Ie(h:i<s.size)(c:UInt8):DV s i c=((s[i].toNat:Int)==(c.toNat:Int)):=by rw[Ck];simp[DV,h]
def XG{t:AG}(h:n<s.size)(a:((s[n].toNat:Int)==61)=K)(b:((s[n].toNat:Int)==35)=K)(c:((s[n].toNat:Int)==60)=K):
  Hz s j n t K=(⟨0,Gz,t,Ej,j⟩,n,hG):=by
 unfold Hz;rw[Ie h 61,Ie h 35,Ie h 60];rw[show((s[n].toNat:Int)==((61:UInt8).toNat:Int))=K from a,show((s[n].toNat:Int)==((35:UInt8).toNat:Int))=K from b,show((s[n].toNat:Int)==((60:UInt8).toNat:Int))=K from c]
 rfl
def S8{t:AG}(h:n<s.size)(a:((s[n].toNat:Int)==61)=hG\/((s[n].toNat:Int)==35)=hG\/((s[n].toNat:Int)==60)=hG):
  Hz s j n t K=(⟨s[n],Gz,t,(AK s (n+1) K).1,j⟩,(AK s (n+1) K).2):=by
 unfold Hz Cw;rw[Ie h 61,Ie h 35,Ie h 60,dif_pos h];rw[fF];simp only[gX,ii,ie];rcases a with a|a|a
 .exact kn (kn a)
 .exact kn (kp a)
 .exact kp a
def Yj(h:¬j<s.size):(AK s j K).2.2=hG:=by
 have a:=BR s j;unfold AK;rw[dif_neg (by omega)];rfl
def Vu(s:zA)(j a:Nat)(t:AG)(d:Bool):
  (Hz s j a t d=(⟨0,Gz,t,Ej,j⟩,a,hG)/\(d=hG\/(d=K/\¬a<s.size)\/(d=K/\∃h:a<s.size,((s[a].toNat:Int) !=61)=hG/\((s[a].toNat:Int) !=35)=hG/\((s[a].toNat:Int) !=60)=hG)))\/
  (d=K/\∃h:a<s.size,Hz s j a t d=(⟨s[a],Gz,t,(AK s (a+1) K).1,j⟩,(AK s (a+1) K).2)/\(((s[a].toNat:Int) !=61)=K\/(((s[a].toNat:Int) !=61)=hG/\((s[a].toNat:Int) !=35)=K)\/(((s[a].toNat:Int) !=61)=hG/\((s[a].toNat:Int) !=35)=hG/\((s[a].toNat:Int) !=60)=K))):=by
 have b:∀{x:Int} {c:Int} {v:Bool},(x==c)=v->(x !=c)= !v:=λh=>by simp only[bne,h]
 cases d
 .by_cases h:a<s.size
  .cases k1:((s[a].toNat:Int)==61)
   .cases k2:((s[a].toNat:Int)==35)
    .cases k3:((s[a].toNat:Int)==60)
     .exact kn ⟨XG h k1 k2 k3,kp (kp ⟨rfl,h,b k1,b k2,b k3⟩)⟩
     .exact kp ⟨rfl,h,S8 h (kp (kp k3)),kp (kp ⟨b k1,b k2,b k3⟩)⟩
    .exact kp ⟨rfl,h,S8 h (kp (kn k2)),kp (kn ⟨b k1,b k2⟩)⟩
   .exact kp ⟨rfl,h,S8 h (kn k1),kn (b k1)⟩
  .exact kn ⟨Zd h,kp (kn ⟨rfl,h⟩)⟩
 .exact kn ⟨Yp s j a t,kn rfl⟩
set_option maxRecDepth 100000
theorem cm(b:Nat)(s:zA)(l j:Nat)(w:World)(t:AG)(R d:Nat)(f:Bool)(u:s.size<=1000000)(H4:l<=s.size)(hj:Ae s l=j)(hx:DV s j 33=K)(ho:Hid ((Ff s j&&Lp s j)=K))
  (S:Hid (AK s j K=(t,R,f)/\AN s R f=d)) (hB:AF w b (BL s l K) 81):
  Calls prog 114 #[.pointer (some ⟨b,0,Y⟩)] w λe G=>∃av,e=.returned (.agg (Co (Hz s j d t f).1 av).toArray)/\
   G.ownsRow w.heap.size 135 2 av (Hz s j d t f).1.A.args.length ((Hz s j d t f).1.A.args.flatMap AP)/\AF G b (BL s (Hz s j d t f).2.1 (Hz s j d t f).2.2) 81/\Ac [b] w G:=by
 have HD:=Ab (Vu s j d t f);have HB:Hid (j<s.size\/f=hG):=by
  by_cases h:j<s.size
  .exact kn h
  .have h1:=Yj h;rw[S.out.1]at h1;exact kp h1
 generalize Hz s j d t f=Z at HD⊢;have M6:=hB.lt;have NM:j<=s.size:=by have:=Bj s l H4;omega
 have CC:AN s j K=j:=by rw[<-hj];exact B8 s l
 have HR:BW s j K 33=j:=by unfold BW;rw[CC,hx];rfl
 have HQ:(!false&&DV s (AN s j K) 33)=K:=by rw[CC,hx];rfl
 have HJ:Hid (Ae s l=j/\BW s j K 33=j/\(!false&&DV s (AN s j K) 33)=K):=⟨hj,HR,HQ⟩;clear hj hx CC HR HQ;go_enter func114,ntmps114;go_wp2_with fail
 refine(DA b s l K _ u H4 (hB.alloc _)).mono ?_;rintro e w1 ⟨rfl,I,hK⟩;rw[show AN s l K=j from HJ.out.1]at I
 have hn:=(kN w _ _).kept hK (by simp;omega);have HP:=((kL [b] w).alloc _).trans hK;clear hB hK;have K6:=I.lt;have IS:=hn.lt;have i:=I.cell 1;simp[BL]at i;go_wp2_with fail
 refine(Mb b s j K 33 33 _ rfl u (by omega) (I.alloc _)).mono ?_;rintro e w2 ⟨rfl,g,BA⟩;rw[HJ.out.2.1]at g;rw[HJ.out.2.2];have n:=(kN w1 _ _).kept BA (by simp;omega);have x:=(hn.alloc _).kept BA (by simp;omega);have q:=(HP.alloc _).trans BA;obtain⟨N,hN⟩:=kK w1.heap.size;rw[hN]at n⊢;have M0:b<N:=by omega
 have NS:w.heap.size<N:=by omega
 clear HP I hn K6 IS i BA hN HJ;have Nx:=n.lt;have NL:=g.lt;have MN:=x.lt;have v:=g.cell 0;have i:=g.cell 1;have r:=g.cell 2;simp[BL]at v i r;have hL:(∃h:j<s.size,Az s[j]=hG)\/(∃h:j<s.size,Az s[j]=K)\/¬j<s.size:=by
  by_cases h:j<s.size
  .cases Q:Az s[j]
   .exact kp (kn ⟨h,Q⟩)
   .exact kn ⟨h,Q⟩
  .exact kp (kp h)
 rcases hL with⟨M,Q⟩|⟨M,Q⟩|M
 case' inl=>
  have K4:(j:Int)<(s.size:Int):=by omega
  obtain⟨wd,y,m,AH⟩:∃wd y m,A3 s j K=(wd,y,m):=⟨_,_,_,rfl⟩;have K1:y<=s.size:=by have:=Hc s j K (by omega);rw[AH]at this;exact this
  have HX:(!m&&DV s (AN s y m) 40)=K:=by have h:=ho.out;rw[show Ff s j=hG by unfold Ff;simp[M,Q],ii]at h;unfold Lp at h;rw[AH]at h;exact h
  have HW:Hid (A3 s j K=(wd,y,m)/\(!m&&DV s (AN s y m) 40)=K):=⟨AH,HX⟩;clear AH HX;go_wp2_with fail
  go_quiet ((go_at_call 137;exact jh (It _ s[j] _ rfl)))
  go_wp2_with fail
  go_region
  go_wp2_with fail
  refine(Mj w2.heap.size s j K _ u (by omega) (kN (w2.drewN _) (BL s j K) 81)).mono ?_;rintro e w3 ⟨rfl,FP,P⟩;rw[HW.out.1]at FP⊢;have HV:=((g.drewN _).alloc _).kept P (by simp;omega);have H1:=((n.drewN _).alloc _).kept P (by simp;omega);have HS:=((x.drewN _).alloc _).kept P (by simp;omega);have HU:=((q.drewN _).alloc _).trans' P (by have:=q.size;simp;omega);clear g n x P v i r;simp only;go_wp2_with fail
  refine(Qh w2.heap.size s y m 40 40 _ rfl u K1 FP).mono ?_;rintro e w4 ⟨rfl,_,L⟩;have H:=HV.kept L (by simp;omega);have F:=H1.kept L (by simp;omega);have E:=HS.kept L (by simp;omega);have W:=HU.trans' L (by have:=q.size;simp;omega);rw[HW.out.2];clear HV H1 HS HU L FP HW q
 case' inr.inl=>
  have K4:(j:Int)<(s.size:Int):=by omega
  go_wp2_with fail
  go_quiet ((go_at_call 137;exact jh (It _ s[j] _ rfl)))
  have H:=g.drewN nq;have F:=n.drewN nq;have E:=x.drewN nq;have W:=q.drewN nq;clear g n x q v i r
 case' inr.inr=>
  have KK:decide ((j:Int)<(s.size:Int))=K:=by simp;omega
  have K8:decide (j<s.size)=K:=by simp;omega
  go_wp2_with fail
  go_quiet (fail)
  have H:=g.drewN nq;have F:=n.drewN nq;have E:=x.drewN nq;have W:=q.drewN nq;clear g n x q v i r KK K8
 all_goals
  have L0:=F.lt;have LE:=H.lt;have NB:=E.lt;have H8:R<=s.size:=by have:=Fp s j K (by omega);rw[S.out.1]at this;exact this
  have Mo:d<=s.size:=by have:=Gq s R f H8;rw[S.out.2]at this;exact this
  go_wp2_with fail
  refine(Qn b s j K _ u (by omega) (by first|exact H|exact H.drewN _)).mono ?_;rintro e w5 ⟨rfl,HF,AB⟩;rw[S.out.1]at HF⊢;have T:=AF.kept (by first|exact F|exact F.drewN _) AB (by simp;omega);have H0:=AF.kept (by first|exact E|exact E.drewN _) AB (by simp;omega);have HO:=Ac.trans (by first|exact W|exact W.drewN _) AB;clear H F E W AB;have D:=T.cell 4;have B:=T.cell 5;have KS:=T.frozen;simp at D B;simp only[AP];go_wp2_with fail
  refine(DA b s R f _ u H8 ((HF.zB _ (by simp;omega) _).zB _ (by simp;omega) _)).mono ?_;rintro e w6 ⟨rfl,k,Ax⟩;rw[S.out.2]at k;have o:=((T.set 4 _).set 5 _).kept Ax (by simp;omega);have C:=((H0.zB _ (by simp;omega) _).zB _ (by simp;omega) _).kept Ax (by simp;omega);have FC:=((HO.setCell (p:=⟨N,4,Y⟩) (by simp;omega) _).setCell (p:=⟨N,5,Y⟩) (by simp;omega) _).trans Ax;clear HF T H0 HO Ax D B KS;simp only[fh,fi]at o;have LM:=k.lt;have NA:=C.lt;have LD:=o.lt;have v:=k.cell 0;have i:=k.cell 1;have r:=k.cell 2;have JJ:=k.frozen;simp[BL]at v i r;have LB:¬N=b:=by omega
  have LS:¬b=N:=by omega
  rcases Aa HD with⟨rfl,hD⟩|⟨rfl,H2,rfl,hD⟩
  .clear HD;rcases hD with rfl|⟨rfl,H2⟩|⟨rfl,H2,k1,k2,k3⟩;all_goals try (have h:=Aa HB;simp[M]at h;done)
   all_goals
    try have Ix:(d:Int)<(s.size:Int):=by omega
    try have FT:decide ((s.size:Int)<=(d:Int))=K:=by simp;omega
    try have HI:decide (s.size<=d)=K:=by simp;omega
    try have FT:decide ((s.size:Int)<=(d:Int))=hG:=by simp;omega
    try have HI:decide (s.size<=d)=hG:=by simp;omega
    go_wp2_with fail
    go_quiet (fail)
    have a:=o.cell;have FA:=o.frozen;have c:=C.cell;have K3:=C.frozen;have z:=a 0;have e1:=a 1;have e2:=a 2;have e3:=a 3;have D:=a 4;have B:=a 5;have e6:=a 6;have e7:=a 7;have e8:=a 8;have f0:=c 0;have f1:=c 1;have f2:=c 2;have f3:=c 3;have f4:=c 4;have f5:=c 5;have f6:=c 6;have f7:=c 7;have f8:=c 8;simp at z e1 e2 e3 D B e6 e7 e8 f0 f1 f2 f3 f4 f5 f6 f7 f8;clear a c;go_wp2;refine fL (BK rfl rfl (((((((((((C.drewN _).zB _ (by simp;omega) _).set 0 _).set 1 _).set 2 _).set 3 _).set 4 _).set 5 _).set 6 _).set 7 _).set 8 _) underlying173 rfl (by kernel_rfl)) rfl ⟨_,rfl,fK _ _ _ _,?_,?_⟩
    .repeat (refine AF.zB ?_ _ (by simp;omega) _)
     exact(k.drewN _).set 2 _
    .repeat (refine Ac.setCell ?_ (by simp;try omega) _)
     exact FC.drewN _
  .clear HD;(have Ix:(d:Int)<(s.size:Int):=by omega);(have FT:decide ((s.size:Int)<=(d:Int))=K:=by simp;omega);(have HI:decide (s.size<=d)=K:=by simp;omega);rcases hD with p1|⟨p1,p2⟩|⟨p1,p2,p3⟩;all_goals try (have h:=Aa HB;simp[M]at h;done)
   all_goals
    go_wp2_with fail
    go_quiet (fail)
    have z:=o.cell 0;have FA:=o.frozen 0;simp at z;clear FT HI;go_wp2_with fail
    go_region_held3 (λG=>G.cell? ⟨b,0,Y⟩=some (.string s)/\G.cell? ⟨b,1,Y⟩=some (.int .i64 d)) (go_keep) (fail)
    clear z FA;(go_wp2_with fail);refine(Qn b s (d+1) K _ u (by omega) (((k.drewN _).zB ⟨N,0,Y⟩ (by simp;omega) _).set 1 _)).mono ?_;rintro e w7 ⟨rfl,K5,AT⟩;have HZ:=(((o.drewN _).set 0 _).zB ⟨b,1,Y⟩ (by simp;omega) _).kept AT (by simp;omega);have HH:=(((C.drewN _).zB ⟨N,0,Y⟩ (by simp;omega) _).zB ⟨b,1,Y⟩ (by simp;omega) _).kept AT (by simp;omega);have K7:=(((FC.drewN _).setCell (p:=⟨N,0,Y⟩) (by simp;omega) _).setCell (p:=⟨b,1,Y⟩) (by simp) _).trans AT;clear k o C FC AT v i r JJ;have a:=HZ.cell;have FA:=HZ.frozen;have c:=HH.cell;have K3:=HH.frozen;simp only[AP];have z:=a 0;have e1:=a 1;have e2:=a 2;have e3:=a 3;have D:=a 4;have B:=a 5;have e6:=a 6;have e7:=a 7;have e8:=a 8;have f0:=c 0;have f1:=c 1;have f2:=c 2;have f3:=c 3;have f4:=c 4;have f5:=c 5;have f6:=c 6;have f7:=c 7;have f8:=c 8;simp at z e1 e2 e3 D B e6 e7 e8 f0 f1 f2 f3 f4 f5 f6 f7 f8;clear a c;go_wp2;refine fL (BK rfl rfl (((((((((((HH.zB _ (by simp;omega) _).zB _ (by simp;omega) _).set 0 _).set 1 _).set 2 _).set 3 _).set 4 _).set 5 _).set 6 _).set 7 _).set 8 _) underlying173 rfl (by kernel_rfl)) rfl ⟨_,rfl,fK _ _ _ _,?_,?_⟩
    .repeat (refine AF.zB ?_ _ (by simp;omega) _)
     exact K5
    .repeat (refine Ac.setCell ?_ (by simp;try omega) _)
     exact K7
