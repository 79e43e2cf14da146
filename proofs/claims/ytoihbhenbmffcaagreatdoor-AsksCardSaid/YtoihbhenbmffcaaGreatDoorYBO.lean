import Derived.Laws.IdiomStrings
import Derived.Test.YtoihbhenbmffcaaGreatDoorYBN
set_option linter.all false
set_option maxHeartbeats 0
namespace Go.Proofs.YtoihbhenbmffcaaGreatDoor
open Go.RowKit Go.Proofs.Tryz
def PN(s q:cR)(er at_:Int):Prop:=
 ∃e1 a1:Int,F7 s e1 a1/\((e1≠0/\er=e1/\at_=a1)\/
  (e1=0/\∃cs:List A7,cs.map A7.erase=(AD s (Af s 0)).1/\Cg cs=(0,0)/\Dw q cs er at_))
def Zn(s q t:cR)(er:Int):Prop:=
 (er≠0->t=ByteArray.empty)/\
 (er=0->∃(cs:List A7) (fs:List Ah) (bl:List AY),cs.map A7.erase=(AD s (Af s 0)).1/\DZ cs/\I7 cs (B0 cs 6) 7 fs/\bl.map Prod.fst=(Be q 0).1/\VI (bl.map Prod.fst) fs/\
  t=ET (A1 (bl.map Prod.fst)) ByteArray.empty ((EU (A1 (bl.map Prod.fst)) [] (Br (bl.map Prod.fst) fs)).map Ah.args))
theorem T2(b:List UInt8){a:List (List cR)}{k:Nat}(c:k<a.length):EU b [] (a.take (k+1))=Bp (EU b [] (a.take k)) (Jt b a[k]):=by
 unfold EU;rw[bM c,cY];rfl
theorem Dw.zero{s:cR}{cs:List A7}{at_:Int}(h:Dw s cs 0 at_):at_=0:=by
 unfold Dw at h;split at h
 .exact h.2
 .split at h
  .exact absurd h.1 (by decide)
  .split at h
   .exact h.2
   .obtain⟨a,_,h⟩:=h;unfold Ju at h;split at h
    .exact absurd (congrArg Prod.fst h) (by simp)
    .split at h
     .exact absurd (congrArg Prod.fst h) (by simp)
     .exact congrArg Prod.snd h
theorem PN.zero{s q:cR}{at_:Int}(h:PN s q 0 at_):at_=0:=by
 obtain⟨c,a,_,h|⟨_,b,_,_,h⟩⟩:=h
 .exact absurd h.2.1.symm h.1
 .exact h.zero
set_option maxRecDepth 100000
theorem Y6(s q:cR)(w:World)(bd:s.size<=9223372036854775807)(bp:q.size<=9223372036854775807):
  Calls prog 69 #[.string s,.string q] w λe w'=>∃(t:cR) (F L:Int),e=.returned (.tuple #[.string t,.int .i64 F,.int .i64 L])/\PN s q F L/\Zn s q t F/\Ac [] w w':=by
 obtain⟨i0,LM,a8,b7,bM⟩:=cU Tryz.gW;have aa:=Ab (WH s w bd);go_enter func69,ntmps69;go_wp2_with fail
 refine(Aa aa).mono ?_;rintro _ w1 ⟨pv,F,L,rfl,NY,KS,k1⟩;have HR:=Ab NY;have H2:=Ab KS;have HB:=Ab k1;clear aa NY KS k1;by_cases Y:F=0
 .subst Y;obtain⟨pb,ab,T0,cs,rfl,hP,hR,hF,H6,hr,U,HD⟩:=Aa H2 rfl;have b6:((0:Int) !=0)=false:=rfl;have z:=Jj hr U HD;have Wa:=Ab (Ws q pb ab T0 cs w1 bp hP hR hF);have HM:Hid (∀a,Ac [] w1 a->_):=λa y=>Ut s pb ab T0 cs a (hP.kept y (by simp)) (hR.kept y) hF hr U HD
  have U1:Hid (∀F L,Dw q cs F L->PN s q F L):=λck cu h=>⟨0,L,Aa HR,Or.inr ⟨rfl,cs,U,HD,h⟩⟩
  have LL:=Ab (And.intro z (And.intro hF U));clear hP hR hF H6 hr U HD H2 z;go_wp2_with fail
  refine(Aa Wa).mono ?_;rintro _ w2 ⟨bv,e2,a2,rfl,W2,U0,k2⟩;have K3:=Ab (Aa U1 e2 a2 W2);have MY:=Ab U0;have HO:=Ab k2;clear Wa U1 HR W2 U0 k2;by_cases h2:e2=0
  .subst h2;obtain⟨NV,IA,bV,C,D,m,rfl,K2,FF,LS,H1,EX⟩:=Aa MY rfl;(have KK:∀x∈m.map Prod.fst,CN x:=by rw[FF];exact Kp IA);have HV:=Ab (XI C D m w2 LS H1 (by omega) (λp z=>by
    have h1:=(IL q 0 (b8 _)).2.1 p.1 (by rw[<-FF];exact cm z)
    omega))
   rw[X5]at HV;have h6:=NR EX K2;have QQ:=Uo NV FF IA;obtain⟨z,hF,U⟩:=Aa LL;have TX:Hid (∀(CC:Option Addr) (B9:Nat) (l:List CF) (a:World),Ac [] w2 a->Fa a (.slice CC l.length B9) l->I7 cs (B0 cs 6) 7 (l.map CF.f)->
     Calls prog 47 #[.slice C m.length D,.slice CC l.length B9] a λr w'=>∃C D,r=.returned (.slice C (Br (m.map Prod.fst) (l.map CF.f)).length D)/\Ca w' a.heap.size (.slice C (Br (m.map Prod.fst) (l.map CF.f)).length D) (Br (m.map Prod.fst) (l.map CF.f))/\Ac [] a w'):=by
    intro CC B9 l a y hS I;have W:=Pb z I.gQ EX KK;have SB:=Wp z hF I.gQ EX W QQ;refine PW C D m CC B9 l a (Ad LS y (by simp)) (λp z=>Ad (H1 p z) y (by simp)) hS K2 ?_ SB.1 SB.2;have:=(z.fit hF).len _ I.gi;rw[bX]at this;exact this
   have H4:Hid (∀l:List CF,I7 cs (B0 cs 6) 7 (l.map CF.f)->VI (m.map Prod.fst) (l.map CF.f)/\(∀e∈Br (m.map Prod.fst) (l.map CF.f),e.length=26/\TN (Jt (A1 (m.map Prod.fst)) e))/\(∀k,(EU (A1 (m.map Prod.fst)) [] ((Br (m.map Prod.fst) (l.map CF.f)).take k)).length<=46656)/\(∀v∈A1 (m.map Prod.fst),DH v)/\(∀g∈EU (A1 (m.map Prod.fst)) [] (Br (m.map Prod.fst) (l.map CF.f)),g.args.length=(A1 (m.map Prod.fst)).length)/\
     Zn s q (ET (A1 (m.map Prod.fst)) ByteArray.empty ((EU (A1 (m.map Prod.fst)) [] (Br (m.map Prod.fst) (l.map CF.f))).map Ah.args)) 0):=by
    intro l I;have W:=Pb z I.gQ EX KK;refine⟨W,λe T=>⟨QY e T,?_,λx hx=>?_⟩,λk=>SS z I.gQ W h6 _ (λe T=>d9 T),λv hv=>(W.vars v hv).1,λg hg=>?_,λh=>absurd rfl h,λ_=>⟨cs,l.map CF.f,m,U,z,I,FF,W,rfl⟩⟩
    .show(EO _ e).length<=1000;unfold EO;rw[bX];omega
    .obtain⟨v,hv,rfl⟩:=bV.1 hx;exact G4 hF _ (Kn I.gQ W T v hv)
    .rcases((IG _ _ [] (λe T=>W.gq T) List.Pairwise.nil (λf hf=>by cases hf)).2.2 g).1 hg with h|⟨e,_,rfl⟩
     .cases h
     .show(EO _ e).length=_;unfold EO;rw[bX]
   clear LS H1 EX QQ KK FF K2 z hF U NV IA bV LL;generalize A1 (m.map Prod.fst)=VS at HV H4 h6;(go_wp2_with fail);refine(Aa HV).mono ?_;rintro _ w3 ⟨ST,JJ,rfl,PT,k3⟩;have XS:=Ab PT;have LC:=Ab k3;have W1:=Ab (Aa HM w3 ((Aa HO).trans k3));clear HV PT k3 HM;(go_wp2_with fail);refine(Aa W1).mono ?_;rintro _ w4 ⟨CC,B9,l,rfl,hS,I,k4⟩;have K4:=Ab (Aa TX CC B9 l w4 ((Aa LC).trans k4) hS I);have Ax:=Ab (Aa H4 l I);have W3:=Ab (Ad (Aa XS) k4 (by simp));have WW:=Ab ((Aa LC).trans k4);clear W1 hS I k4 TX H4 XS LC;generalize Br (m.map Prod.fst) (l.map CF.f)=ES at K4 Ax;(go_wp2_with fail);refine(Aa K4).mono ?_;rintro _ w5 ⟨cf,bH,rfl,hE,k5⟩;have HE:=Ab hE;have Mo:=Ab (Ad (Aa W3) k5 (by simp));have TL:=Ab ((Aa HO).trans ((Aa WW).trans k5));clear K4 hE k5 W3 WW HO;have bL:=V3 (Aa HE).row;go_wp2_with fail
   go_loopw [15,16] (λo i wr=>∃(k:Nat) (b:List CF) (C:Option Addr) (D:Nat),i=.int .i64 k/\k<=ES.length/\o=.slice C b.length D/\Hid (b.map CF.f=EU VS [] (ES.take k))/\Hid (Fa wr (.slice C b.length D) b)/\Hid (Ac [] w5 wr)) (λ_ i _=>ES.length-(intOf i).toNat)
   case atStart=>exact⟨0,[],none,0,rfl,b8 _,rfl,by show _=_;simp[EU],⟨ck _ _ _ _,λp z=>by cases z⟩,Ac.refl _ _⟩
   case round=>
    obtain⟨k,b,Jx,H3,rfl,y,rfl,S,M0,CL⟩:=hrel;by_cases Q:k<ES.length
    .obtain⟨ge,ce,SL,_,al⟩:=Lo ((Aa HE).kept (Aa CL) (by simp)) k Q;simp only[bK]at SL;obtain⟨rfl,_,rfl⟩:=SL;obtain⟨E,HJ⟩:∃E,ES[k]=E:=⟨_,rfl⟩;(have QR:E∈ES:=by rw[<-HJ];exact bL Q);obtain⟨cn,RV⟩:=(Aa Ax).2.1 E QR;(have a3:Hid (EU VS [] (ES.take (k+1))=Bp (EU VS [] (ES.take k)) (Jt VS E)):=by show _=_;rw[T2 VS Q,HJ]);have TS:Hid (∀j (hj:j<VS.length) a,Ac [] wr a->∃u:Nat,(VS[j].toNat:Int)=(u:Int)+65/\u<26/\a.cell? ⟨ge,k*26+u,none⟩=some (.string (Lv E VS[j]))):=by
      intro j hj a MB;obtain⟨h1,h2⟩:=(Aa Ax).2.2.2.1 _ (bL hj);refine⟨VS[j].toNat-65,by omega,by omega,MB.cellAt (al _ _ ?_)⟩;rw[HJ];unfold Ai Lv;rw[dI,bW (by omega),bT,bW (by omega)];rfl
     (have W0:Hid (∀a,Ac [] wr a->a.ownsRow w2.heap.size 5 1 (.slice ST VS.length JJ) VS.length (VS.flatMap Dc)):=λa MB=>Ad (Aa Mo) ((Aa CL).trans MB) (by simp));have av:=Ab RV;have HP:=Ab (Ac.refl [] wr);(have a4:(k:Int)<(ES.length:Int):=by omega);(have bn:(0:Int)<=(k:Int):=by omega);clear HJ QR RV al;obtain⟨N0,NL⟩:∃N0,wr.heap.size=N0:=⟨_,rfl⟩;have M3:=Ab NL;clear NL;generalize wr=wo at*;go_wp2_with fail
     go_loopw [17,18] (λo i a=>∃(j:Nat) (C:Option Addr) (D:Nat),i=.int .i64 j/\j<=VS.length/\o=.slice C j D/\Hid (a.ownsRow N0 9 1 (.slice C j D) j (((VS.take j).map (Lv E)).flatMap Ae))/\Hid (Ac [] wo a)) (λ_ i _=>VS.length-(intOf i).toNat)
     case atStart=>exact⟨0,none,0,rfl,b8 _,rfl,ck _ _ _ _,HP⟩
     case round=>
      obtain⟨j,O,M,rfl,hj,rfl,HA,B⟩:=hrel;by_cases J:j<VS.length
      .obtain⟨gv,cv,Ha,_,FO⟩:=Av (Aa W0 wr (Aa B)) (λc _=>Gl c) j J;simp only[bK]at Ha;obtain⟨rfl,_,rfl⟩:=Ha;have v0:=FO j J 0 (by omega);simp[Dc]at v0;obtain⟨u,e1,cJ,x0⟩:=Aa TS j J wr (Aa B);rw[e1]at v0;have JA:Hid (((VS.take (j+1)).map (Lv E)).flatMap Ae=((VS.take j).map (Lv E)).flatMap Ae++[.string (Lv E VS[j])]):=by
        show _=_;rw[bM J,cW,cw];rfl
       obtain⟨X,hX⟩:∃X,Lv E VS[j]=X:=⟨_,rfl⟩;rw[hX]at x0 JA;(have Nx:IntKind.u8.wrap (u:Int)=u:=by rw[IntKind.wrap_u8];omega);(have ap:IntKind.u8.wrap ((u:Int)+65-65)=u:=by rw[show(u:Int)+65-65=u by omega];exact Nx);(have a5:(0:Int)<=(u:Int):=by omega);(have ci:(u:Int)<26:=by omega);(have cx:(j:Int)<(VS.length:Int):=by omega);(have cE:(0:Int)<=(j:Int):=by omega);have H6:=(Aa B).size;rw[Aa M3]at H6;have HT:Hid (∀a,Ac [] wo a->a.cell? ⟨gv,j,none⟩=some (.int .u8 ((u:Int)+65))/\a.cell? ⟨ge,k*26+u,none⟩=some (.string X)):=λa y=>by
        obtain⟨cK,cy,RO,_,bb⟩:=Av (Aa W0 a y) (λc _=>Gl c) j J;simp only[bK,bR,cI]at RO;obtain⟨⟨rfl,_,_⟩,_,_⟩:=RO;have v1:=bb j J 0 (by omega);simp[Dc]at v1;obtain⟨b3,cL,_,x1⟩:=Aa TS j J a y;(obtain rfl:b3=u:=by omega);rw[e1]at v1;rw[hX]at x1;exact⟨v1,x1⟩
       clear FO e1 hX;(go_wp2_with fail);have H:Hid (wr.drew.cell? ⟨gv,j,none⟩=some (.int .u8 ((u:Int)+65))/\wr.drew.cell? ⟨ge,k*26+u,none⟩=some (.string X)):=Aa HT _ (Aa B).drew;refine Cp 13 (λa=>a.cell? ⟨gv,j,none⟩=some (.int .u8 ((u:Int)+65))/\a.cell? ⟨ge,k*26+u,none⟩=some (.string X)) (by kernel_rfl) ?_;refine Ce.tk (i:=0) (v:=.slice O j M) rfl (by kernel_rfl) (λ_ _ _ h=>h) H (by rfl) ?_ ?_
       ·(rintro a ⟨N,P⟩;go_simp)
       simp only[Act.put,bH,bI,bJ];refine Ce.tk (i:=1) (v:=.slice (some ⟨ge,0,none⟩) ES.length bH) rfl (by kernel_rfl) (λ_ _ _ h=>h) H (by rfl) ?_ ?_
       ·(rintro a ⟨N,P⟩;go_simp)
       simp only[Act.put,bH,bI,bJ];refine Ce.tk (i:=2) (v:=.int .i64 k) rfl (by kernel_rfl) (λ_ _ _ h=>h) H (by rfl) ?_ ?_
       ·(rintro a ⟨N,P⟩;go_simp)
       simp only[Act.put,bH,bI,bJ];refine Ce.tk (i:=3) (v:=.slice (some ⟨gv,0,none⟩) VS.length JJ) rfl (by kernel_rfl) (λ_ _ _ h=>h) H (by rfl) ?_ ?_
       ·(rintro a ⟨N,P⟩;go_simp)
       simp only[Act.put,bH,bI,bJ];refine Ce.tk (i:=4) (v:=.int .i64 j) rfl (by kernel_rfl) (λ_ _ _ h=>h) H (by rfl) ?_ ?_
       ·(rintro a ⟨N,P⟩;go_simp)
       simp only[Act.put,bH,bI,bJ];refine Ce.tk (i:=5) (v:=.pointer (some ⟨gv,j,none⟩)) rfl (by kernel_rfl) (λ_ _ _ h=>h) H (by rfl) ?_ ?_
       ·(rintro a ⟨N,P⟩;go_simp)
       simp only[Act.put,bH,bI,bJ];refine Ce.tk (i:=6) (v:=.int .u8 ((u:Int)+65)) rfl (by kernel_rfl) (λ_ _ _ h=>h) H (by rfl) ?_ ?_
       ·(rintro a ⟨N,P⟩;go_simp)
       simp only[Act.put,bH,bI,bJ];refine Ce.tk (i:=7) (v:=.int .u8 (u:Int)) rfl (by kernel_rfl) (λ_ _ _ h=>h) H (by rfl) ?_ ?_
       ·(rintro a ⟨N,P⟩;go_simp)
       simp only[Act.put,bH,bI,bJ];refine Ce.tk (i:=8) (v:=.pointer (some ⟨ge,k*26,none⟩)) rfl (by kernel_rfl) (λ_ _ _ h=>h) H (by rfl) ?_ ?_
       ·(rintro a ⟨N,P⟩;go_simp)
       simp only[Act.put,bH,bI,bJ];refine Ce.tk (i:=9) (v:=.pointer (some ⟨ge,k*26+u,none⟩)) rfl (by kernel_rfl) (λ_ _ _ h=>h) H (by rfl) ?_ ?_
       ·(rintro a ⟨N,P⟩;go_simp)
       simp only[Act.put,bH,bI,bJ];refine Ce.tk (i:=10) (v:=.string X) rfl (by kernel_rfl) (λ_ _ _ h=>h) H (by rfl) ?_ ?_
       ·(rintro a ⟨N,P⟩;go_simp)
       simp only[Act.put,bH,bI,bJ];refine Ce.one (i:=11) (by kernel_rfl) rfl (λK Z=>?_)
       go_simp
       refine Z.out _ _ (λ_=>Aa HT _ ((Aa B).drew.alloc _)) ?_;clear Z K
       try simp only[Act.put,bH,bI,bJ]
       refine Ce.one (i:=12) (by kernel_rfl) rfl (λK Z=>?_);refine fc _ (by rfl) _ _ _ (by rfl) N0 9 i0 _ 1 16 underlying41 LM a8 b7 bM rfl (by omega) (.slice O j M) j (((VS.take j).map (Lv E)).flatMap Ae) (by rfl) (bQ (E0 (Aa HA)) _) ⟨wr.drew.heap.size,0,none⟩ 1 1 [.string X] (by rfl) (by rfl) (cj (cs:=#[.string X]) (t:=9) (fr:=(0,0)) (cA wr.drew _)) (by simp[Value.oneCell']) (by omega) (by unfold maxLen;omega) (by omega) (by simp;omega) (wr.drew.heap.size+1) (by simp) ?_;intro g5 S1 w6 M6 af a0 b1;have KD:Ac [] wo w6:=((Aa B).drew.alloc _).grown af (λq hq=>Or.inr (by have:=((Aa HA).lt q hq).1;have:=Aa M3;omega));refine Z.out _ _ (λ_=>Aa HT _ KD) ?_;clear Z K
       try simp only[Act.put,bH,bI,bJ]
       refine Ce.one (i:=13) (by kernel_rfl) rfl (λK Z=>?_)
       go_simp
       refine Z.out _ _ (λh=>absurd rfl h) ?_;clear Z K;refine Ce.done (by kernel_rfl) ?_ _
       try simp only[Act.put,bH,bI,bJ]
       (have bN:Hid (w6.ownsRow N0 9 1 (.slice (some ⟨g5,0,none⟩) (j+1) S1) (j+1) (((VS.take (j+1)).map (Lv E)).flatMap Ae)):=by rw[Aa JA];exact M6);have b4:=Ab KD;clear M6 af a0 b1 KD JA HA B HT H v0 x0 Nx ap;go_wp2
       go_roundw
       case rel=>exact⟨j+1,some ⟨g5,0,none⟩,S1,by go_num,by omega,rfl,bN,b4⟩
       case measure=>simp[intOf];omega
      ·(have bQ:j=VS.length:=by omega);subst bQ;have NM:Hid (Hv wr ⟨Jt VS E,.slice O VS.length M⟩):=by
        show wr.ownsRow 0 9 1 _ (EO VS E).length _;have h:=Ak (Aa HA) (b8 _);rw[bP (bZ _)]at h;unfold Jt EO;rw[bX];exact h
       have FA:Hid (b.length<=46656):=by
        have h:=(Aa Ax).2.2.1 k;rw[<-Aa S,bX]at h;exact h
       have L0:Hid (Calls prog 57 #[.slice Jx b.length H3,.agg #[.string ⟨#[]⟩,.slice O VS.length M]] wr λe w'=>∃C D,e=.returned (.slice C (GW b ⟨Jt VS E,.slice O VS.length M⟩).length D)/\Fa w' (.slice C (GW b ⟨Jt VS E,.slice O VS.length M⟩).length D) (GW b ⟨Jt VS E,.slice O VS.length M⟩)/\Ac [] wr w'):=
        P2 Jx H3 b ⟨Jt VS E,.slice O VS.length M⟩ wr ((Aa M0).kept (Aa B)) (Aa NM) (by have:=Aa FA;omega) (Aa av)
       (have Os:Hid ((GW b ⟨Jt VS E,.slice O VS.length M⟩).map CF.f=EU VS [] (ES.take (k+1))):=by show _=_;rw[Ms,Aa a3,Aa S]);generalize GW b ⟨Jt VS E,.slice O VS.length M⟩=rs2 at L0 Os;clear HA NM FA;(go_wp2_with fail);refine(Aa L0).mono ?_;rintro _ w7 ⟨bR,a6,rfl,WB,k7⟩;have b9:=Ab WB;have bX:Hid (Ac [] w5 w7):=(Aa CL).trans ((Aa B).trans k7);clear WB k7 L0 B;go_wp2
       go_roundw
       case rel=>exact⟨k+1,rs2,bR,a6,by go_num,by omega,rfl,Os,b9,bX⟩
       case measure=>simp[intOf];omega
    ·(have H8:Hid (b.map CF.f=EU VS [] ES):=by show _=_;have h:=Aa S;rwa [bP (by omega)]at h);have FA:Hid (b.length<=46656):=by
      have h:=(Aa Ax).2.2.1 k;rw[<-Aa S,bX]at h;exact h
     (have a9:Hid (∀p∈b,p.f.args.length=VS.length):=λp z=>(Aa Ax).2.2.2.2.1 p.f (by rw[<-Aa H8];exact cm z));obtain⟨R,hR⟩:∃R,ET VS ByteArray.empty ((EU VS [] ES).map Ah.args)=R:=⟨_,rfl⟩;have M2:Hid (ET VS ByteArray.empty ((b.drop 0).map λp=>p.f.args)=R):=by
      show _=_;rw[<-hR,<-Aa H8,dt];rfl
     (have aT:Hid (Zn s q R 0):=by rw[<-hR];exact(Aa Ax).2.2.2.2.2);(have bW:Hid (∀a,Ac [] wr a->a.ownsRow w2.heap.size 5 1 (.slice ST VS.length JJ) VS.length (VS.flatMap Dc)):=λa y=>Ad (Aa Mo) ((Aa CL).trans y) (by simp));(have HH:Hid (∀a,Ac [] wr a->Fa a (.slice Jx b.length H3) b):=λa y=>(Aa M0).kept y);have bz:Hid (Ac [] w wr):=(Aa HB).trans ((Aa TL).trans (Aa CL));have HP:=Ab (Ac.refl [] wr);(have bO:Hid (PN s q 0 0):=by have h:=Aa K3;rw[h.zero]at h;exact h);have KS:=Aa FA;clear S H8 hR Ax Mo HE CL M0 HB TL FA bL K3 MY;generalize wr=wo at*;(go_wp2_with fail);clear Q y
     go_loopw [19,20] (λo i a=>∃(k:Nat) (t:cR),i=.int .i64 k/\k<=b.length/\o=.string t/\t.size<=k*10000000/\Hid (ET VS t ((b.drop k).map λp=>p.f.args)=R)/\Hid (Ac [] wo a)) (λ_ i _=>b.length-(intOf i).toNat)
     case atStart=>exact⟨0,ByteArray.empty,rfl,b8 _,rfl,by simp,M2,HP⟩
     case round=>
      clear M2 HP;obtain⟨k,t,rfl,y,rfl,bT,HC,B⟩:=hrel;have cg:k*10000000<=46656*10000000:=dj _ (by omega);by_cases Q:k<b.length
      .obtain⟨gr,cr,n,A,SP,RB,T,HQ,d0,d1⟩:=Ey (Aa HH wr (Aa B)) k Q;simp only[bK]at T;obtain⟨rfl,_,rfl⟩:=T;have FL:=bL Q;rw[HQ]at FL;have NX:A.length=VS.length:=Aa a9 _ FL;(have Pl:Hid (∀a,Ac [] wo a->a.ownsRow 0 9 1 (.slice SP A.length RB) A.length (A.flatMap Ae)):=λa y=>((Aa HH a y).each _ FL).1);(have b8:Hid (∀x∈A,x.size<=1000000):=λx hx=>(((Aa HH wr (Aa B)).each _ FL).2.each x hx).2);obtain⟨G,H7⟩:∃G,IT t false VS A=G:=⟨_,rfl⟩;have OH:Hid (IT t (decide (0<0)) (VS.drop 0) (A.drop 0)=G):=H7;have bx:Hid (ET VS (G++⟨#[10]⟩) ((b.drop (k+1)).map λp=>p.f.args)=R):=by
        have h:=Aa HC;rw[ci Q,cu,ET,HQ,H7]at h;exact h
       have RI:Hid (∀a,Ac [] wo a->a.cell? ⟨gr,k*2+1,none⟩=some (.slice SP A.length RB)):=by
        intro a y;obtain⟨cd,cc,n',cD,cG,cI,Nq,N2,_,bK⟩:=Ey (Aa HH a y) _ Q;simp only[bK,bR,cI]at Nq;obtain⟨⟨rfl,_,_⟩,_,_⟩:=Nq;rw[HQ]at N2;cases N2
        exact bK
       (have a4:(k:Int)<(b.length:Int):=by omega);(have bn:(0:Int)<=(k:Int):=by omega);clear HQ FL HC H7 d0;rw[NX]at Pl RI d1;(go_wp2_with fail);clear d1
       go_loopw [19,21] (λo i a=>∃(j:Nat) (d:cR),i=.int .i64 j/\j<=VS.length/\o=.string d/\d.size<=k*10000000+j*1000010/\Hid (IT d (decide (0<j)) (VS.drop j) (A.drop j)=G)/\Hid (Ac [] wo a)) (λ_ i _=>VS.length-(intOf i).toNat)
       case atStart=>exact⟨0,t,rfl,b8 _,rfl,by rw[Nat.zero_mul,fS];exact bT,OH,B⟩
       case round=>
        clear OH B;obtain⟨j,d,rfl,hj,rfl,an,HN,EK⟩:=hrel;have cw:j*1000010<=6*1000010:=dj _ (by omega);have d1:=Aa RI _ (Aa EK);by_cases J:j<VS.length
        .obtain⟨gv,cv,Ha,_,FO⟩:=Av (Aa bW _ (Aa EK)) (λc _=>Gl c) j J;simp only[bK]at Ha;obtain⟨rfl,_,rfl⟩:=Ha;have v0:=FO j J 0 (by omega);simp[Dc]at v0;(have LB:j<A.length:=by omega);have H0:=Aa Pl _ (Aa EK);rw[<-NX]at H0;obtain⟨ga,ca,SJ,x0⟩:=GP H0 j LB;simp only[bK]at SJ;obtain⟨rfl,_,rfl⟩:=SJ;have Bx:Hid (IT ((if decide (0<j)then d++⟨#[32]⟩else d)++⟨#[VS[j]]⟩++⟨#[61]⟩++A[j]) true (VS.drop (j+1)) (A.drop (j+1))=G):=by
          have h:=Aa HN;rw[ci J,ci LB,IT]at h;exact h
         have bZ:=Aa b8 A[j] (bL LB);obtain⟨V,hV⟩:∃V,VS[j]=V:=⟨_,rfl⟩;obtain⟨X,hX⟩:∃X,A[j]=X:=⟨_,rfl⟩;rw[hV]at v0 Bx;rw[hX]at x0 Bx bZ;(have cB:(j:Int)<(VS.length:Int):=by omega);(have a5:(0:Int)<=(j:Int):=by omega);have cH:(convert 143 9 (.slice (some ⟨wr.heap.size,0,none⟩) 1 1)).run prog (wr.alloc (.cells #[.int .u8 (V.toNat:Int)] 5)).drew=.ok (.string ⟨#[V]⟩) (wr.alloc (.cells #[.int .u8 (V.toNat:Int)] 5)).drew:=by
          refine run_convert_bytes_back _ 143 9 5 ⟨wr.heap.size,0,none⟩ 1 [V] underlying143 underlying5 underlying9 (λi hi=>?_);(have LM:i=0:=by simp at hi;omega);subst LM;exact(AE.new wr [.int .u8 (V.toNat:Int)] 5).cell 0
         have x1:=((Ac.refl [] wr).alloc (.cells #[.int .u8 (V.toNat:Int)] 5)).cellAt x0;have d2:=((Ac.refl [] wr).alloc (.cells #[.int .u8 (V.toNat:Int)] 5)).cellAt d1;clear FO hV hX H0 HN;by_cases Y:0<j
         ·(have b0:(0:Int)<(j:Int):=by omega);(have bP:(d++⟨#[32]⟩:cR).size=d.size+1:=by rw[cH];rfl);(have hb:d.size<=466566000060:=by omega);(have TH:¬9223372036854775807<d.size+1+1:=by omega);(have bs:¬9223372036854775807<d.size+1+1+1:=by omega);(have ao:¬9223372036854775807<d.size+1+1+1+X.size:=by omega);have K7:Hid (IT (d++⟨#[32]⟩++⟨#[V]⟩++⟨#[61]⟩++X) (decide (0<j+1)) (VS.drop (j+1)) (A.drop (j+1))=G):=by
           have h:=Aa Bx;simp only[Y,decide_true,if_true]at h;show _=_;simpa using h
          have FC:(d++⟨#[32]⟩++⟨#[V]⟩++⟨#[61]⟩++X:cR).size<=k*10000000+(j+1)*1000010:=by
           rw[cH,cH,cH,bP];show d.size+1+1+1+X.size<=_;omega
          clear Bx;go_wp2_with fail
          go_region
          go_wp2
          go_roundw
          case rel=>exact⟨j+1,_,by go_num,by omega,rfl,FC,K7,((Aa EK).alloc _).drew⟩
          case measure=>simp[intOf];omega
         ·(have b0:¬(0:Int)<(j:Int):=by omega);(have hb:d.size<=466566000060:=by omega);(have TH:¬9223372036854775807<d.size+1:=by omega);(have bs:¬9223372036854775807<d.size+1+1:=by omega);(have ao:¬9223372036854775807<d.size+1+1+X.size:=by omega);have K7:Hid (IT (d++⟨#[V]⟩++⟨#[61]⟩++X) (decide (0<j+1)) (VS.drop (j+1)) (A.drop (j+1))=G):=by
           have h:=Aa Bx;simp only[Y,fP,bN,if_false]at h;show _=_;simpa using h
          have FC:(d++⟨#[V]⟩++⟨#[61]⟩++X:cR).size<=k*10000000+(j+1)*1000010:=by
           rw[cH,cH,cH];show d.size+1+1+X.size<=_;omega
          clear Bx;go_wp2_with fail
          go_region
          go_wp2
          go_roundw
          case rel=>exact⟨j+1,_,by go_num,by omega,rfl,FC,K7,((Aa EK).alloc _).drew⟩
          case measure=>simp[intOf];omega
        .have HK:Hid (d=G):=by
          have h:=Aa HN;rw[cG (by omega),cG (by omega),IT]at h
          .exact h
          .intro v vs x xs h;cases h
         rw[Aa HK]at an⊢;(have hb:G.size<=466566000060:=by omega);(have TH:¬9223372036854775807<G.size+1:=by omega);have FC:(G++⟨#[10]⟩:cR).size<=(k+1)*10000000:=by
          rw[cH];show G.size+1<=_;omega
         clear HN HK;go_wp2
         go_roundw
         case rel=>exact⟨k+1,_,by go_num,by omega,rfl,FC,bx,EK⟩
         case measure=>simp[intOf];omega
      .have HK:Hid (t=R):=by
        have h:=Aa HC;rw[cG (by omega),eW,ET]at h;exact h
       clear HC;go_wp2;go_ret3;rw[Aa HK];exact⟨R,0,0,rfl,Aa bO,Aa aT,(Aa bz).trans (Aa B)⟩
  ·(have cj:(e2 !=0)=true:=by simp[h2]);have S:Hid (Zn s q ByteArray.empty e2):=⟨λ_=>rfl,λh=>absurd h h2⟩;clear h2 MY HM LL;(go_wp2_with fail);go_ret3;exact⟨ByteArray.empty,e2,a2,rfl,Aa K3,Aa S,(Aa HB).trans (Aa HO)⟩
 .have b6:(F !=0)=true:=by simp[Y]
  have S:Hid (Zn s q ByteArray.empty F):=⟨λ_=>rfl,λh=>absurd h Y⟩;have HI:Hid (PN s q F L):=⟨F,L,Aa HR,Or.inl ⟨Y,rfl,rfl⟩⟩;clear Y H2 HR;go_wp2_with fail
  go_ret3;exact⟨ByteArray.empty,F,L,rfl,Aa HI,Aa S,Aa HB⟩
