import Derived.Laws.IdiomStrings
import Derived.Test.YtoihbhenbmffcaaGreatDoorAAZ
set_option linter.all false
set_option maxHeartbeats 0
open List renaming length->Z
open Option renaming none->Y,some->V
open Go.Value renaming slice->U,int->X,string->O,pointer->m2
open Go.RowKit renaming Hid->p7
open Go.World renaming cell?->p8,ownsRow->p9
open ByteArray renaming empty->pF
open Prod renaming fst->pH
open Go.Act renaming put->pJ
namespace Go.Proofs.YtoihbhenbmffcaaGreatDoor
open Go.RowKit Go.Proofs.Tryz
variable{k:Nat}{s:zA}{c:pM A4}{I:Int}
def SS(s q:zA)(er at_:Int):Prop:=
 ∃e1 a1:Int,CI s e1 a1/\((e1≠0/\er=e1/\at_=a1)\/
  (e1=0/\∃cs:pM A4,cs.map A4.erase=(An s (Ae s 0)).1/\CJ cs=(0,0)/\DN q cs er at_))
def fP(s q t:zA)(er:Int):Prop:=
 (er≠0->t=pF)/\
 (er=0->∃(cs:pM A4) (fs:pM Af) (bl:pM Ba),cs.map A4.erase=(An s (Ae s 0)).1/\Cf cs/\GF cs (B5 cs 6) 7 fs/\bl.map pH=(Bj q 0).1/\ZX (bl.map pH) fs/\
  t=FK (Bf (bl.map pH)) pF ((FM (Bf (bl.map pH)) [] (Bt (bl.map pH) fs)).map Af.args))
def XT(b:pM UInt8){a:pM (pM zA)}(c:k<Z a):FM b [] (a.take (k+1))=A3 (FM b [] (a.take k)) (Ln b a[k]):=by
 unfold FM;rw[kW c,mi];rfl
def DN.zero(h:DN s c 0 I):I=0:=by
 unfold DN at h;split at h
 .exact h.2
 .split at h
  .exact absurd h.1 (by decide)
  .split at h
   .exact h.2
   .obtain⟨a,_,h⟩:=h;unfold KP at h;split at h
    .exact absurd (congrArg pH h) (by simp)
    .split at h
     .exact absurd (congrArg pH h) (by simp)
     .exact congrArg Prod.snd h
def SS.zero{s q:zA}{a:Int}(h:SS s q 0 a):a=0:=by
 obtain⟨d,b,_,h|⟨_,c,_,_,h⟩⟩:=h
 .exact absurd h.2.1.symm h.1
 .exact h.zero
set_option maxRecDepth 100000
theorem fi(s q:zA)(w:World)(YP:s.size<=9223372036854775807)(aa:q.size<=9223372036854775807):
  Calls prog 69 #[O s,O q] w λe w'=>∃(t:zA) (F N:Int),e=.returned (.tuple #[O t,X .i64 F,X .i64 N])/\SS s q F N/\fP s q t F/\Ac [] w w':=by
 obtain⟨i0,K4,X0,b2,a0⟩:=mg Tryz.zo;have TS:=Ab (Hr s w YP);go_enter func69,ntmps69;go_wp2_with fail
 refine(Aa TS).mono ?_;rintro _ w1 ⟨pv,F,N,rfl,M2,IA,k1⟩;have HK:=Ab M2;have HW:=Ab IA;have FP:=Ab k1;clear TS M2 IA k1;by_cases h0:F=0
 .subst h0;obtain⟨pb,TV,RE,cs,rfl,hP,hR,hF,H0,hr,Ax,FT⟩:=Aa HW rfl;have b1:((0:Int) !=0)=false:=rfl;have z:=C7 hr Ax FT;have SK:=Ab (aX q pb TV RE cs w1 aa hP hR hF);have HM:p7 (∀a,Ac [] w1 a->_):=λa u=>MO s pb TV RE cs a (hP.kept u) (hR.kept u) hF hr Ax FT
  have RV:p7 (∀F N,DN q cs F N->SS s q F N):=λco cR h=>⟨0,N,Aa HK,Or.inr ⟨rfl,cs,Ax,FT,h⟩⟩
  have K3:=Ab (And.intro z (And.intro hF Ax));clear hP hR hF H0 hr Ax FT HW z;go_wp2_with fail
  refine(Aa SK).mono ?_;rintro _ w2 ⟨bv,e2,a2,rfl,S1,RO,k2⟩;have Jx:=Ab (Aa RV e2 a2 S1);have LB:=Ab RO;have HG:=Ab k2;clear SK RV HK S1 RO k2;by_cases h2:e2=0
  .subst h2;obtain⟨M0,H5,ba,C,D,l,rfl,IS,EX,K5,HU,CL⟩:=Aa LB rfl;(have Ix:∀x∈l.map pH,Db x:=by rw[EX];exact MA H5);have HV:=Ab (cY C D l w2 K5 HU (by omega) (λp z=>by
    have h1:=(Kf q 0 (lz _)).2.1 p.1 (by rw[<-EX];exact lB z)
    omega))
   rw[dC]at HV;have h6:=Qu CL IS;have NL:=Yq M0 EX H5;obtain⟨z,hF,Ax⟩:=Aa K3;have RB:p7 (∀(B2:Option Addr) (B0:Nat) (d:pM Bv) (a:World),Ac [] w2 a->Cv a (U B2 (Z d) B0) d->GF cs (B5 cs 6) 7 (d.map Bv.f)->
     Calls prog 47 #[U C (Z l) D,U B2 (Z d) B0] a λr w'=>∃C D,r=.returned (U C (Z (Bt (l.map pH) (d.map Bv.f))) D)/\BJ w' a.heap.size (U C (Z (Bt (l.map pH) (d.map Bv.f))) D) (Bt (l.map pH) (d.map Bv.f))/\Ac [] a w'):=by
    intro B2 B0 d a u hS L;have AB:=R5 z L.zW CL Ix;have N2:=aR z hF L.zW CL AB NL;refine OA C D l B2 B0 d a (Ad K5 u) (λp z=>Ad (HU p z) u) hS IS ?_ N2.1 N2.2;have:=(z.fit hF).len _ L.zb;rw[lm]at this;exact this
   have HY:p7 (∀d:pM Bv,GF cs (B5 cs 6) 7 (d.map Bv.f)->ZX (l.map pH) (d.map Bv.f)/\(∀e∈Bt (l.map pH) (d.map Bv.f),Z e=26/\JP (Ln (Bf (l.map pH)) e))/\(∀k,Z (FM (Bf (l.map pH)) [] ((Bt (l.map pH) (d.map Bv.f)).take k))<=46656)/\(∀v∈Bf (l.map pH),Ew v)/\(∀g∈FM (Bf (l.map pH)) [] (Bt (l.map pH) (d.map Bv.f)),Z g.args=Z (Bf (l.map pH)))/\
     fP s q (FK (Bf (l.map pH)) pF ((FM (Bf (l.map pH)) [] (Bt (l.map pH) (d.map Bv.f))).map Af.args)) 0):=by
    intro d L;have AB:=R5 z L.zW CL Ix;refine⟨AB,λe W=>⟨O8 e W,?_,λx hx=>?_⟩,λk=>WE z L.zW AB h6 _ (λe W=>mD W),λv hv=>(AB.vars v hv).1,λg hg=>?_,λh=>absurd rfl h,λ_=>⟨cs,d.map Bv.f,l,Ax,z,L,EX,AB,rfl⟩⟩
    .show Z (FI _ e)<=1000;unfold FI;rw[lm];omega
    .obtain⟨v,hv,rfl⟩:=lk.1 hx;exact GM hF _ (My L.zW AB W v hv)
    .rcases((Kb _ _ [] (λe W=>AB.zy W) List.Pairwise.nil (λf hf=>by cases hf)).2.2 g).1 hg with h|⟨e,_,rfl⟩
     .cases h
     .show Z (FI _ e)=_;unfold FI;rw[lm]
   clear K5 HU CL NL Ix EX IS z hF Ax M0 H5 ba K3;generalize Bf (l.map pH)=VS at HV HY h6;(go_wp2_with fail);refine(Aa HV).mono ?_;rintro _ w3 ⟨OB,H8,rfl,NA,k3⟩;have TK:=Ab NA;have K1:=Ab k3;have S0:=Ab (Aa HM w3 ((Aa HG).trans k3));clear HV NA k3 HM;(go_wp2_with fail);refine(Aa S0).mono ?_;rintro _ w4 ⟨B2,B0,d,rfl,hS,L,k4⟩;have JA:=Ab (Aa RB B2 B0 d w4 ((Aa K1).trans k4) hS L);have AT:=Ab (Aa HY d L);have TH:=Ab (Ad (Aa TK) k4);have SP:=Ab ((Aa K1).trans k4);clear S0 hS L k4 RB HY TK K1;generalize Bt (l.map pH) (d.map Bv.f)=ES at JA AT;(go_wp2_with fail);refine(Aa JA).mono ?_;rintro _ w5 ⟨b9,ao,rfl,hE,k5⟩;have HE:=Ab hE;have K7:=Ab (Ad (Aa TH) k5);have P0:=Ab ((Aa HG).trans ((Aa SP).trans k5));clear JA hE k5 TH SP HG;have aT:=Vm (Aa HE).row;go_wp2_with fail
   go_loopw [15,16] (λo i wr=>∃(k:Nat) (b:pM Bv) (C:Option Addr) (D:Nat),i=X .i64 k/\k<=Z ES/\o=U C (Z b) D/\p7 (b.map Bv.f=FM VS [] (ES.take k))/\p7 (Cv wr (U C (Z b) D) b)/\p7 (Ac [] w5 wr)) (λ_ i _=>Z ES-(intOf i).toNat)
   case atStart=>exact⟨0,[],Y,0,rfl,lz _,rfl,by show _=_;simp[FM],⟨lH _ _ _ _,λp z=>by cases z⟩,pO _ _⟩
   case round=>
    obtain⟨k,b,H6,HX,rfl,u,rfl,T,LC,B9⟩:=hrel;by_cases S:k<Z ES
    .obtain⟨ge,ce,Op,_,UO⟩:=G4 ((Aa HE).kept (Aa B9)) k S;simp only[kS]at Op;obtain⟨rfl,_,rfl⟩:=Op;obtain⟨E,Ha⟩:=pN (ES[k]);(have NM:E∈ES:=by rw[<-Ha];exact kV S);obtain⟨cz,NY⟩:=(Aa AT).2.1 E NM;(have W0:p7 (FM VS [] (ES.take (k+1))=A3 (FM VS [] (ES.take k)) (Ln VS E)):=by show _=_;rw[XT VS S,Ha]);have QQ:p7 (∀j (hj:j<Z VS) a,Ac [] wr a->∃m:Nat,(VS[j].toNat:Int)=(m:Int)+65/\m<26/\p8 a ⟨ge,k*26+m,Y⟩=V (O (Nk E VS[j]))):=by
      intro j hj a K8;obtain⟨h1,h2⟩:=(Aa AT).2.2.2.1 _ (kV hj);refine⟨VS[j].toNat-65,by omega,by omega,K8.cellAt (UO _ _ ?_)⟩;rw[Ha];unfold Aj Nk;rw[mA,lc (by omega),lq,lc (by omega)];rfl
     (have ST:p7 (∀a,Ac [] wr a->p9 a w2.heap.size 5 1 (U OB (Z VS) H8) (Z VS) (VS.flatMap DZ)):=λa K8=>Ad (Aa K7) ((Aa B9).trans K8));have Wa:=Ab NY;have HH:=Ab (pO [] wr);(have W1:(k:Int)<(Z ES:Int):=by omega);(have ZV:(0:Int)<=(k:Int):=by omega);clear Ha NM NY UO;obtain⟨N0,MB⟩:=pN wr.heap.size;have LM:=Ab MB;clear MB;generalize wr=wo at*;go_wp2_with fail
     go_loopw [17,18] (λo i a=>∃(j:Nat) (C:Option Addr) (D:Nat),i=X .i64 j/\j<=Z VS/\o=U C j D/\p7 (p9 a N0 9 1 (U C j D) j (((VS.take j).map (Nk E)).flatMap Ah))/\p7 (Ac [] wo a)) (λ_ i _=>Z VS-(intOf i).toNat)
     case atStart=>exact⟨0,Y,0,rfl,lz _,rfl,lH _ _ _ _,HH⟩
     case round=>
      obtain⟨j,Q,P,rfl,hj,rfl,FO,B⟩:=hrel;by_cases M:j<Z VS
      .obtain⟨gv,cv,FL,_,E0⟩:=AC (Aa ST wr (Aa B)) (λc _=>Hh c) j M;simp only[kS]at FL;obtain⟨rfl,_,rfl⟩:=FL;have v0:=E0 j M 0 (by omega);simp[DZ]at v0;obtain⟨m,e1,ds,x0⟩:=Aa QQ j M wr (Aa B);rw[e1]at v0;have H7:p7 (((VS.take (j+1)).map (Nk E)).flatMap Ah=((VS.take j).map (Nk E)).flatMap Ah++[O (Nk E VS[j])]):=by
        show _=_;rw[kW M,lV,lM];rfl
       obtain⟨y,hX⟩:=pN (Nk E VS[j]);rw[hX]at x0 H7;(have Mo:IntKind.u8.wrap (m:Int)=m:=by rw[IntKind.wrap_u8];omega);(have VL:IntKind.u8.wrap ((m:Int)+65-65)=m:=by rw[show(m:Int)+65-65=m by omega];exact Mo);(have W2:(0:Int)<=(m:Int):=by omega);(have ch:(m:Int)<26:=by omega);(have c1:(j:Int)<(Z VS:Int):=by omega);(have c8:(0:Int)<=(j:Int):=by omega);have H0:=(Aa B).size;rw[Aa LM]at H0;have HN:p7 (∀a,Ac [] wo a->p8 a ⟨gv,j,Y⟩=V (X .u8 ((m:Int)+65))/\p8 a ⟨ge,k*26+m,Y⟩=V (O y)):=λa u=>by
        obtain⟨dT,c2,NX,_,X3⟩:=AC (Aa ST a u) (λc _=>Hh c) j M;simp only[kS,ld,lW]at NX;obtain⟨⟨rfl,_,_⟩,_,_⟩:=NX;have v1:=X3 j M 0 (by omega);simp[DZ]at v1;obtain⟨bx,d3,_,x1⟩:=Aa QQ j M a u;(obtain rfl:bx=m:=by omega);rw[e1]at v1;rw[hX]at x1;exact⟨v1,x1⟩
       clear E0 e1 hX;(go_wp2_with fail);have I:p7 (p8 wr.drew ⟨gv,j,Y⟩=V (X .u8 ((m:Int)+65))/\p8 wr.drew ⟨ge,k*26+m,Y⟩=V (O y)):=Aa HN _ (Aa B).drew;refine CH 13 (λa=>p8 a ⟨gv,j,Y⟩=V (X .u8 ((m:Int)+65))/\p8 a ⟨ge,k*26+m,Y⟩=V (O y)) (by kernel_rfl) ?_;refine CF.tq (i:=0) (v:=U Q j P) rfl (λ_ _ _ h=>h) I ?_;simp only[pJ,kR,kT,kU];refine CF.tq (i:=1) (v:=U (V ⟨ge,0,Y⟩) (Z ES) ao) rfl (λ_ _ _ h=>h) I ?_;simp only[pJ,kR,kT,kU];refine CF.tq (i:=2) (v:=X .i64 k) rfl (λ_ _ _ h=>h) I ?_;simp only[pJ,kR,kT,kU];refine CF.tq (i:=3) (v:=U (V ⟨gv,0,Y⟩) (Z VS) H8) rfl (λ_ _ _ h=>h) I ?_;simp only[pJ,kR,kT,kU];refine CF.tq (i:=4) (v:=X .i64 j) rfl (λ_ _ _ h=>h) I ?_;simp only[pJ,kR,kT,kU];refine CF.tq (i:=5) (v:=m2 (V ⟨gv,j,Y⟩)) rfl (λ_ _ _ h=>h) I ?_;simp only[pJ,kR,kT,kU];refine CF.tq (i:=6) (v:=X .u8 ((m:Int)+65)) rfl (λ_ _ _ h=>h) I ?_;simp only[pJ,kR,kT,kU];refine CF.tq (i:=7) (v:=X .u8 (m:Int)) rfl (λ_ _ _ h=>h) I ?_;simp only[pJ,kR,kT,kU];refine CF.tq (i:=8) (v:=m2 (V ⟨ge,k*26,Y⟩)) rfl (λ_ _ _ h=>h) I ?_;simp only[pJ,kR,kT,kU];refine CF.tq (i:=9) (v:=m2 (V ⟨ge,k*26+m,Y⟩)) rfl (λ_ _ _ h=>h) I ?_;simp only[pJ,kR,kT,kU];refine CF.tq (i:=10) (v:=O y) rfl (λ_ _ _ h=>h) I ?_;simp only[pJ,kR,kT,kU];refine CF.one (i:=11) (by kernel_rfl) rfl (λFF hK=>?_)
       go_simp
       refine hK.out _ _ (λ_=>Aa HN _ ((Aa B).drew.alloc _)) ?_;clear hK FF
       try simp only[pJ,kR,kT,kU]
       refine CF.one (i:=12) (by kernel_rfl) rfl (λFF hK=>?_);refine oC _ (by rfl) _ _ _ (by rfl) N0 9 i0 _ 1 16 underlying41 K4 X0 b2 a0 rfl (by omega) (U Q j P) j (((VS.take j).map (Nk E)).flatMap Ah) (by rfl) (lg (FX (Aa FO)) _) ⟨wr.drew.heap.size,0,Y⟩ 1 1 [O y] (by rfl) (by rfl) (lI (lP wr.drew _)) (by simp[Value.oneCell']) (by omega) (by unfold maxLen;omega) (by omega) (by simp;omega) (wr.drew.heap.size+1) (by simp) ?_;intro g5 Pl w6 LS TX WS bs;have H9:Ac [] wo w6:=((Aa B).drew.alloc _).grown TX (λq hq=>Or.inr (by have:=((Aa FO).lt q hq).1;have:=Aa LM;omega));refine hK.out _ _ (λ_=>Aa HN _ H9) ?_;clear hK FF
       try simp only[pJ,kR,kT,kU]
       refine CF.one (i:=13) (by kernel_rfl) rfl (λFF hK=>?_)
       go_simp
       refine hK.out _ _ (λh=>absurd rfl h) ?_;clear hK FF;refine CF.done (by kernel_rfl) ?_ _
       try simp only[pJ,kR,kT,kU]
       (have a1:p7 (p9 w6 N0 9 1 (U (V ⟨g5,0,Y⟩) (j+1) Pl) (j+1) (((VS.take (j+1)).map (Nk E)).flatMap Ah)):=by rw[Aa H7];exact LS);have bz:=Ab H9;clear LS TX WS bs H9 H7 FO B HN I v0 x0 Mo VL;go_wp2
       go_roundw
       case rel=>exact⟨j+1,V ⟨g5,0,Y⟩,Pl,by go_num,by omega,rfl,a1,bz⟩
       case measure=>simp[intOf];omega
      ·(have a5:j=Z VS:=by omega);subst a5;have MN:p7 (Dx wr ⟨Ln VS E,U Q (Z VS) P⟩):=by
        show p9 wr 0 9 1 _ (Z (FI VS E)) _;have h:=Am (Aa FO) (lz _);rw[kX (lC _)]at h;unfold Ln FI;rw[lm];exact h
       have EK:p7 (Z b<=46656):=by
        have h:=(Aa AT).2.2.1 k;rw[<-Aa T,lm]at h;exact h
       have K6:p7 (Calls prog 57 #[U H6 (Z b) HX,.agg #[O ⟨#[]⟩,U Q (Z VS) P]] wr λe w'=>∃C D,e=.returned (U C (Z (EW b ⟨Ln VS E,U Q (Z VS) P⟩)) D)/\Cv w' (U C (Z (EW b ⟨Ln VS E,U Q (Z VS) P⟩)) D) (EW b ⟨Ln VS E,U Q (Z VS) P⟩)/\Ac [] wr w'):=
        OF H6 HX b ⟨Ln VS E,U Q (Z VS) P⟩ wr ((Aa LC).kept (Aa B)) (Aa MN) (by have:=Aa EK;omega) (Aa Wa)
       (have Nj:p7 ((EW b ⟨Ln VS E,U Q (Z VS) P⟩).map Bv.f=FM VS [] (ES.take (k+1))):=by show _=_;rw[LX,Aa W0,Aa T]);generalize EW b ⟨Ln VS E,U Q (Z VS) P⟩=rs2 at K6 Nj;clear FO MN EK;(go_wp2_with fail);refine(Aa K6).mono ?_;rintro _ w7 ⟨a6,W3,rfl,SL,k7⟩;have b4:=Ab SL;have bd:p7 (Ac [] w5 w7):=(Aa B9).trans ((Aa B).trans k7);clear SL k7 K6 B;go_wp2
       go_roundw
       case rel=>exact⟨k+1,rs2,a6,W3,by go_num,by omega,rfl,Nj,b4,bd⟩
       case measure=>simp[intOf];omega
    ·(have H2:p7 (b.map Bv.f=FM VS [] ES):=by show _=_;have h:=Aa T;rwa [kX (by omega)]at h);have EK:p7 (Z b<=46656):=by
      have h:=(Aa AT).2.2.1 k;rw[<-Aa T,lm]at h;exact h
     (have X1:p7 (∀p∈b,Z p.f.args=Z VS):=λp z=>(Aa AT).2.2.2.2.1 p.f (by rw[<-Aa H2];exact lB z));obtain⟨R,hR⟩:=pN (FK VS pF ((FM VS [] ES).map Af.args));have LL:p7 (FK VS pF ((b.drop 0).map λp=>p.f.args)=R):=by
      show _=_;rw[<-hR,<-Aa H2,mq];rfl
     (have WB:p7 (fP s q R 0):=by rw[<-hR];exact(Aa AT).2.2.2.2.2);(have bb:p7 (∀a,Ac [] wr a->p9 a w2.heap.size 5 1 (U OB (Z VS) H8) (Z VS) (VS.flatMap DZ)):=λa u=>Ad (Aa K7) ((Aa B9).trans u));(have Go:p7 (∀a,Ac [] wr a->Cv a (U H6 (Z b) HX) b):=λa u=>(Aa LC).kept u);have an:p7 (Ac [] w wr):=(Aa FP).trans ((Aa P0).trans (Aa B9));have HH:=Ab (pO [] wr);(have a3:p7 (SS s q 0 0):=by have h:=Aa Jx;rw[h.zero]at h;exact h);have IA:=Aa EK;clear T H2 hR AT K7 HE B9 LC FP P0 EK aT Jx LB;generalize wr=wo at*;(go_wp2_with fail);clear S u
     go_loopw [19,20] (λo i a=>∃(k:Nat) (t:zA),i=X .i64 k/\k<=Z b/\o=O t/\t.size<=k*10000000/\p7 (FK VS t ((b.drop k).map λp=>p.f.args)=R)/\p7 (Ac [] wo a)) (λ_ i _=>Z b-(intOf i).toNat)
     case atStart=>exact⟨0,pF,rfl,lz _,rfl,by simp,LL,HH⟩
     case round=>
      clear LL HH;obtain⟨k,t,rfl,u,rfl,a8,HC,B⟩:=hrel;have cb:k*10000000<=46656*10000000:=mh _ (by omega);by_cases S:k<Z b
      .obtain⟨gr,cr,n,A,Os,NN,W,HJ,d0,d1⟩:=C1 (Aa Go wr (Aa B)) k S;simp only[kS]at W;obtain⟨rfl,_,rfl⟩:=W;have EY:=kV S;rw[HJ]at EY;have M1:Z A=Z VS:=Aa X1 _ EY;(have Nx:p7 (∀a,Ac [] wo a->p9 a 0 9 1 (U Os (Z A) NN) (Z A) (A.flatMap Ah)):=λa u=>((Aa Go a u).each _ EY).1);(have b3:p7 (∀x∈A,x.size<=1000000):=λx hx=>(((Aa Go wr (Aa B)).each _ EY).2.each x hx).2);obtain⟨G,H1⟩:=pN (Kl t false VS A);have Nq:p7 (Kl t (decide (0<0)) (VS.drop 0) (A.drop 0)=G):=H1;have al:p7 (FK VS (G++⟨#[10]⟩) ((b.drop (k+1)).map λp=>p.f.args)=R):=by
        have h:=Aa HC;rw[lD S,lE,FK,HJ,H1]at h;exact h
       have NV:p7 (∀a,Ac [] wo a->p8 a ⟨gr,k*2+1,Y⟩=V (U Os (Z A) NN)):=by
        intro a u;obtain⟨b7,b6,n',c7,db,df,L0,M3,_,av⟩:=C1 (Aa Go a u) _ S;simp only[kS,ld,lW]at L0;obtain⟨⟨rfl,_,_⟩,_,_⟩:=L0;rw[HJ]at M3;cases M3
        exact av
       (have W1:(k:Int)<(Z b:Int):=by omega);(have ZV:(0:Int)<=(k:Int):=by omega);clear HJ EY HC H1 d0;rw[M1]at Nx NV d1;(go_wp2_with fail);clear d1
       go_loopw [19,21] (λo i a=>∃(j:Nat) (t2:zA),i=X .i64 j/\j<=Z VS/\o=O t2/\t2.size<=k*10000000+j*1000010/\p7 (Kl t2 (decide (0<j)) (VS.drop j) (A.drop j)=G)/\p7 (Ac [] wo a)) (λ_ i _=>Z VS-(intOf i).toNat)
       case atStart=>exact⟨0,t,rfl,lz _,rfl,by rw[Nat.zero_mul,oX];exact a8,Nq,B⟩
       case round=>
        clear Nq B;obtain⟨j,t2,rfl,hj,rfl,U0,HD,CC⟩:=hrel;have c0:j*1000010<=6*1000010:=mh _ (by omega);have d1:=Aa NV _ (Aa CC);by_cases M:j<Z VS
        .obtain⟨gv,cv,FL,_,E0⟩:=AC (Aa bb _ (Aa CC)) (λc _=>Hh c) j M;simp only[kS]at FL;obtain⟨rfl,_,rfl⟩:=FL;have v0:=E0 j M 0 (by omega);simp[DZ]at v0;(have KS:j<Z A:=by omega);have HT:=Aa Nx _ (Aa CC);rw[<-M1]at HT;obtain⟨ga,ca,N4,x0⟩:=G0 HT j KS;simp only[kS]at N4;obtain⟨rfl,_,rfl⟩:=N4;have BA:p7 (Kl ((if decide (0<j)then t2++⟨#[32]⟩else t2)++⟨#[VS[j]]⟩++⟨#[61]⟩++A[j]) true (VS.drop (j+1)) (A.drop (j+1))=G):=by
          have h:=Aa HD;rw[lD M,lD KS,Kl]at h;exact h
         have bp:=Aa b3 A[j] (kV KS);obtain⟨H,hV⟩:=pN (VS[j]);obtain⟨y,hX⟩:=pN (A[j]);rw[hV]at v0 BA;rw[hX]at x0 BA bp;(have c5:(j:Int)<(Z VS:Int):=by omega);(have W2:(0:Int)<=(j:Int):=by omega);have dc:(convert 143 9 (U (V ⟨wr.heap.size,0,Y⟩) 1 1)).run prog (wr.alloc (.cells #[X .u8 (H.toNat:Int)] 5)).drew=.ok (O ⟨#[H]⟩) (wr.alloc (.cells #[X .u8 (H.toNat:Int)] 5)).drew:=by
          refine run_convert_bytes_back _ 143 9 5 ⟨wr.heap.size,0,Y⟩ 1 [H] underlying143 underlying5 underlying9 (λi hi=>?_);(have K4:i=0:=by simp at hi;omega);subst K4;exact(pP wr [X .u8 (H.toNat:Int)] 5).cell 0
         have x1:=((pO [] wr).alloc (.cells #[X .u8 (H.toNat:Int)] 5)).cellAt x0;have d2:=((pO [] wr).alloc (.cells #[X .u8 (H.toNat:Int)] 5)).cellAt d1;clear E0 hV hX HT HD;by_cases h0:0<j
         ·(have br:(0:Int)<(j:Int):=by omega);(have a4:(t2++⟨#[32]⟩:zA).size=t2.size+1:=by rw[lh];rfl);(have hb:t2.size<=466566000060:=by omega);(have PT:¬9223372036854775807<t2.size+1+1:=by omega);(have af:¬9223372036854775807<t2.size+1+1+1:=by omega);(have U1:¬9223372036854775807<t2.size+1+1+1+y.size:=by omega);have KB:p7 (Kl (t2++⟨#[32]⟩++⟨#[H]⟩++⟨#[61]⟩++y) (decide (0<j+1)) (VS.drop (j+1)) (A.drop (j+1))=G):=by
           have h:=Aa BA;simp only[h0,decide_true,if_true]at h;show _=_;simpa using h
          have EM:(t2++⟨#[32]⟩++⟨#[H]⟩++⟨#[61]⟩++y:zA).size<=k*10000000+(j+1)*1000010:=by
           rw[lh,lh,lh,a4];show t2.size+1+1+1+y.size<=_;omega
          clear BA;go_wp2_with fail
          go_region
          go_wp2
          go_roundw
          case rel=>exact⟨j+1,_,by go_num,by omega,rfl,EM,KB,((Aa CC).alloc _).drew⟩
          case measure=>simp[intOf];omega
         ·(have br:¬(0:Int)<(j:Int):=by omega);(have hb:t2.size<=466566000060:=by omega);(have PT:¬9223372036854775807<t2.size+1:=by omega);(have af:¬9223372036854775807<t2.size+1+1:=by omega);(have U1:¬9223372036854775807<t2.size+1+1+y.size:=by omega);have KB:p7 (Kl (t2++⟨#[H]⟩++⟨#[61]⟩++y) (decide (0<j+1)) (VS.drop (j+1)) (A.drop (j+1))=G):=by
           have h:=Aa BA;simp only[h0,oW,k0,if_false]at h;show _=_;simpa using h
          have EM:(t2++⟨#[H]⟩++⟨#[61]⟩++y:zA).size<=k*10000000+(j+1)*1000010:=by
           rw[lh,lh,lh];show t2.size+1+1+y.size<=_;omega
          clear BA;go_wp2_with fail
          go_region
          go_wp2
          go_roundw
          case rel=>exact⟨j+1,_,by go_num,by omega,rfl,EM,KB,((Aa CC).alloc _).drew⟩
          case measure=>simp[intOf];omega
        .have HA:p7 (t2=G):=by
          have h:=Aa HD;rw[lS (by omega),lS (by omega),Kl]at h
          .exact h
          .intro v vs x xs h;cases h
         rw[Aa HA]at U0⊢;(have hb:G.size<=466566000060:=by omega);(have PT:¬9223372036854775807<G.size+1:=by omega);have EM:(G++⟨#[10]⟩:zA).size<=(k+1)*10000000:=by
          rw[lh];show G.size+1<=_;omega
         clear HD HA;go_wp2
         go_roundw
         case rel=>exact⟨k+1,_,by go_num,by omega,rfl,EM,al,CC⟩
         case measure=>simp[intOf];omega
      .have HA:p7 (t=R):=by
        have h:=Aa HC;rw[lS (by omega),m8,FK]at h;exact h
       clear HC;go_wp2;go_ret3;rw[Aa HA];exact⟨R,0,0,rfl,Aa a3,Aa WB,(Aa an).trans (Aa B)⟩
  ·(have cl:(e2 !=0)=true:=by simp[h2]);have T:p7 (fP s q pF e2):=⟨λ_=>rfl,λh=>absurd h h2⟩;clear h2 LB HM K3;(go_wp2_with fail);go_ret3;exact⟨pF,e2,a2,rfl,Aa Jx,Aa T,(Aa FP).trans (Aa HG)⟩
 .have b1:(F !=0)=true:=by simp[h0]
  have T:p7 (fP s q pF F):=⟨λ_=>rfl,λh=>absurd h h0⟩;have HI:p7 (SS s q F N):=⟨F,N,Aa HK,Or.inl ⟨h0,rfl,rfl⟩⟩;clear h0 HW HK;go_wp2_with fail
  go_ret3;exact⟨pF,F,N,rfl,Aa HI,Aa T,Aa FP⟩
