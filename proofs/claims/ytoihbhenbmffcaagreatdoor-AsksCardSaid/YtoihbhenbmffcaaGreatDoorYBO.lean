import Derived.Laws.IdiomStrings
import Derived.Test.YtoihbhenbmffcaaGreatDoorYBN
set_option linter.all false
set_option maxHeartbeats 0
namespace Go.Proofs.YtoihbhenbmffcaaGreatDoor
open Go.RowKit Go.Proofs.Tryz
def PN(s q:cR)(er at_:Int):Prop:=
 ∃e1 a1:Int,F7 s e1 a1/\((e1≠0/\er=e1/\at_=a1)\/
  (e1=0/\∃cs:List A7,cs.map A7.erase=(AD s (Af s 0)).1/\Cg cs=(0,0)/\Dw q cs er at_))
def Zn(s q t:cR)(er:Int):Prop:=
 (er≠0->t=ByteArray.empty)/\
 (er=0->∃(cs:List A7) (fs:List Ah) (bl:List AY),cs.map A7.erase=(AD s (Af s 0)).1/\DZ cs/\I7 cs (B0 cs 6) 7 fs/\bl.map Prod.fst=(Be q 0).1/\VI (bl.map Prod.fst) fs/\
  t=ET (A1 (bl.map Prod.fst)) ByteArray.empty ((EU (A1 (bl.map Prod.fst)) [] (Br (bl.map Prod.fst) fs)).map Ah.args))
theorem T2(b:List UInt8){a:List (List cR)}{k:Nat}(c:k<a.length):EU b [] (a.take (k+1))=Bp (EU b [] (a.take k)) (Jt b a[k]):=by
 unfold EU;rw[bM c,cY];rfl
theorem Dw.zero{s:cR}{cs:List A7}{at_:Int}(h:Dw s cs 0 at_):at_=0:=by
 unfold Dw at h;split at h
 .exact h.2
 .split at h
  .exact absurd h.1 (by decide)
  .split at h
   .exact h.2
   .obtain⟨a,_,h⟩:=h;unfold Ju at h;split at h
    .exact absurd (congrArg Prod.fst h) (by simp)
    .split at h
     .exact absurd (congrArg Prod.fst h) (by simp)
     .exact congrArg Prod.snd h
theorem PN.zero{s q:cR}{at_:Int}(h:PN s q 0 at_):at_=0:=by
 obtain⟨c,a,_,h|⟨_,b,_,_,h⟩⟩:=h
 .exact absurd h.2.1.symm h.1
 .exact h.zero
set_option maxRecDepth 100000
theorem Y6(s q:cR)(w:World)(hs0:s.size<=9223372036854775807)(hq0:q.size<=9223372036854775807):
  Calls prog 69 #[.string s,.string q] w λe w'=>∃(t:cR) (er at_:Int),e=.returned (.tuple #[.string t,.int .i64 er,.int .i64 at_])/\PN s q er at_/\Zn s q t er/\Ac [] w w':=by
 obtain⟨i0,hi0,hz0,hz1,hz2⟩:=cU Tryz.gW;have HRd:=Ab (WH s w hs0);go_enter func69,ntmps69;go_wp2_with fail
 refine(Aa HRd).mono ?_;rintro _ w1 ⟨pv,er,at_,rfl,hri,hrl,k1⟩;have HRi:=Ab hri;have HRl:=Ab hrl;have HK1:=Ab k1;clear HRd hri hrl k1;by_cases h0:er=0
 .subst h0;obtain⟨pb,lad,lcp,cs,rfl,hP,hR,hF,hsz,hr,hcs,hok⟩:=Aa HRl rfl;have h00:((0:Int) !=0)=false:=rfl;have hp:=Jj hr hcs hok;have HQu:=Ab (Ws q pb lad lcp cs w1 hq0 hP hR hF);have HM:Hid (∀wz,Ac [] w1 wz->_):=λwz hk=>Ut s pb lad lcp cs wz (hP.kept hk (by simp)) (hR.kept hk) hF hr hcs hok
  have HIs:Hid (∀er at_,Dw q cs er at_->PN s q er at_):=λer' at' h=>⟨0,at_,Aa HRi,Or.inr ⟨rfl,cs,hcs,hok,h⟩⟩
  have HPd:=Ab (And.intro hp (And.intro hF hcs));clear hP hR hF hsz hr hcs hok HRl hp;go_wp2_with fail
  refine(Aa HQu).mono ?_;rintro _ w2 ⟨bv,e2,a2,rfl,hqi,hql,k2⟩;have HI2:=Ab (Aa HIs e2 a2 hqi);have HQl:=Ab hql;have HK2:=Ab k2;clear HQu HIs HRi hqi hql k2;by_cases h2:e2=0
  .subst h2;obtain⟨hq3,hbd,hge,ad,cp,bl,rfl,hbl,hmap,hown,hlits,hqr⟩:=Aa HQl rfl;(have hrdq:∀x∈bl.map Prod.fst,CN x:=by rw[hmap];exact Kp hbd);have HV:=Ab (XI ad cp bl w2 hown hlits (by omega) (λp hp=>by
    have h1:=(IL q 0 (b8 _)).2.1 p.1 (by rw[<-hmap];exact cm hp)
    omega))
   rw[X5]at HV;have h6:=NR hqr hbl;have hfl:=Uo hq3 hmap hbd;obtain⟨hp,hF,hcs⟩:=Aa HPd;have HSo:Hid (∀(sad:Option Addr) (scp:Nat) (fs:List CF) (wz:World),Ac [] w2 wz->Fa wz (.slice sad fs.length scp) fs->I7 cs (B0 cs 6) 7 (fs.map CF.f)->
     Calls prog 47 #[.slice ad bl.length cp,.slice sad fs.length scp] wz λr w'=>∃ad cp,r=.returned (.slice ad (Br (bl.map Prod.fst) (fs.map CF.f)).length cp)/\Ca w' wz.heap.size (.slice ad (Br (bl.map Prod.fst) (fs.map CF.f)).length cp) (Br (bl.map Prod.fst) (fs.map CF.f))/\Ac [] wz w'):=by
    intro sad scp fs wz hk hS hI;have hqo:=Pb hp hI.gQ hqr hrdq;have hqf:=Wp hp hF hI.gQ hqr hqo hfl;refine PW ad cp bl sad scp fs wz (Ad hown hk (by simp)) (λp hp=>Ad (hlits p hp) hk (by simp)) hS hbl ?_ hqf.1 hqf.2;have:=(hp.fit hF).len _ hI.gi;rw[bX]at this;exact this
   have HQo:Hid (∀fs:List CF,I7 cs (B0 cs 6) 7 (fs.map CF.f)->VI (bl.map Prod.fst) (fs.map CF.f)/\(∀e∈Br (bl.map Prod.fst) (fs.map CF.f),e.length=26/\TN (Jt (A1 (bl.map Prod.fst)) e))/\(∀k,(EU (A1 (bl.map Prod.fst)) [] ((Br (bl.map Prod.fst) (fs.map CF.f)).take k)).length<=46656)/\(∀v∈A1 (bl.map Prod.fst),DH v)/\(∀g∈EU (A1 (bl.map Prod.fst)) [] (Br (bl.map Prod.fst) (fs.map CF.f)),g.args.length=(A1 (bl.map Prod.fst)).length)/\
     Zn s q (ET (A1 (bl.map Prod.fst)) ByteArray.empty ((EU (A1 (bl.map Prod.fst)) [] (Br (bl.map Prod.fst) (fs.map CF.f))).map Ah.args)) 0):=by
    intro fs hI;have hqo:=Pb hp hI.gQ hqr hrdq;refine⟨hqo,λe he=>⟨QY e he,?_,λx hx=>?_⟩,λk=>SS hp hI.gQ hqo h6 _ (λe he=>d9 he),λv hv=>(hqo.vars v hv).1,λg hg=>?_,λh=>absurd rfl h,λ_=>⟨cs,fs.map CF.f,bl,hcs,hp,hI,hmap,hqo,rfl⟩⟩
    .show(EO _ e).length<=1000;unfold EO;rw[bX];omega
    .obtain⟨v,hv,rfl⟩:=bV.1 hx;exact G4 hF _ (Kn hI.gQ hqo he v hv)
    .rcases((IG _ _ [] (λe he=>hqo.gq he) List.Pairwise.nil (λf hf=>by cases hf)).2.2 g).1 hg with h|⟨e,_,rfl⟩
     .cases h
     .show(EO _ e).length=_;unfold EO;rw[bX]
   clear hown hlits hqr hfl hrdq hmap hbl hp hF hcs hq3 hbd hge HPd;generalize A1 (bl.map Prod.fst)=VS at HV HQo h6;(go_wp2_with fail);refine(Aa HV).mono ?_;rintro _ w3 ⟨vad,vcp,rfl,hvr,k3⟩;have HVr:=Ab hvr;have HK3:=Ab k3;have HM3:=Ab (Aa HM w3 ((Aa HK2).trans k3));clear HV hvr k3 HM;(go_wp2_with fail);refine(Aa HM3).mono ?_;rintro _ w4 ⟨sad,scp,fs,rfl,hS,hI,k4⟩;have HSo4:=Ab (Aa HSo sad scp fs w4 ((Aa HK3).trans k4) hS hI);have HQ4:=Ab (Aa HQo fs hI);have HVr4:=Ab (Ad (Aa HVr) k4 (by simp));have HK4:=Ab ((Aa HK3).trans k4);clear HM3 hS hI k4 HSo HQo HVr HK3;generalize Br (bl.map Prod.fst) (fs.map CF.f)=ES at HSo4 HQ4;(go_wp2_with fail);refine(Aa HSo4).mono ?_;rintro _ w5 ⟨ead,ecp,rfl,hE,k5⟩;have HE:=Ab hE;have HVr5:=Ab (Ad (Aa HVr4) k5 (by simp));have HK5:=Ab ((Aa HK2).trans ((Aa HK4).trans k5));clear HSo4 hE k5 HVr4 HK4 HK2;have hel:=V3 (Aa HE).row;go_wp2_with fail
   go_loopw [15,16] (λo i wr=>∃(k:Nat) (rs:List CF) (ad:Option Addr) (cp:Nat),i=.int .i64 k/\k<=ES.length/\o=.slice ad rs.length cp/\Hid (rs.map CF.f=EU VS [] (ES.take k))/\Hid (Fa wr (.slice ad rs.length cp) rs)/\Hid (Ac [] w5 wr)) (λ_ i _=>ES.length-(intOf i).toNat)
   case atStart=>exact⟨0,[],none,0,rfl,b8 _,rfl,by show _=_;simp[EU],⟨ck _ _ _ _,λp hp=>by cases hp⟩,Ac.refl _ _⟩
   case round=>
    obtain⟨k,rs,rad,rcp,rfl,hk,rfl,HF,HSi,HKr⟩:=hrel;by_cases gK:k<ES.length
    .obtain⟨ge,ce,hee,_,hre⟩:=Lo ((Aa HE).kept (Aa HKr) (by simp)) k gK;simp only[bK]at hee;obtain⟨rfl,_,rfl⟩:=hee;obtain⟨E,hEk⟩:∃E,ES[k]=E:=⟨_,rfl⟩;(have hEm:E∈ES:=by rw[<-hEk];exact bL gK);obtain⟨hE26,hEok⟩:=(Aa HQ4).2.1 E hEm;(have HNx:Hid (EU VS [] (ES.take (k+1))=Bp (EU VS [] (ES.take k)) (Jt VS E)):=by show _=_;rw[T2 VS gK,hEk]);have HRe:Hid (∀j (hj:j<VS.length) wz,Ac [] wr wz->∃jj:Nat,(VS[j].toNat:Int)=(jj:Int)+65/\jj<26/\wz.cell? ⟨ge,k*26+jj,none⟩=some (.string (Lv E VS[j]))):=by
      intro j hj wz hkz;obtain⟨h1,h2⟩:=(Aa HQ4).2.2.2.1 _ (bL hj);refine⟨VS[j].toNat-65,by omega,by omega,hkz.cellAt (hre _ _ ?_)⟩;rw[hEk];unfold Ai Lv;rw[dI,bW (by omega),bT,bW (by omega)];rfl
     (have HVr6:Hid (∀wz,Ac [] wr wz->wz.ownsRow w2.heap.size 5 1 (.slice vad VS.length vcp) VS.length (VS.flatMap Dc)):=λwz hkz=>Ad (Aa HVr5) ((Aa HKr).trans hkz) (by simp));have HOk:=Ab hEok;have HK0:=Ab (Ac.refl [] wr);(have hkb:(k:Int)<(ES.length:Int):=by omega);(have hk0:(0:Int)<=(k:Int):=by omega);clear hEk hEm hEok hre;obtain⟨N0,hN0⟩:∃N0,wr.heap.size=N0:=⟨_,rfl⟩;have HN0:=Ab hN0;clear hN0;generalize wr=wo at*;go_wp2_with fail
     go_loopw [17,18] (λo i wz=>∃(j:Nat) (ad:Option Addr) (cp:Nat),i=.int .i64 j/\j<=VS.length/\o=.slice ad j cp/\Hid (wz.ownsRow N0 9 1 (.slice ad j cp) j (((VS.take j).map (Lv E)).flatMap Ae))/\Hid (Ac [] wo wz)) (λ_ i _=>VS.length-(intOf i).toNat)
     case atStart=>exact⟨0,none,0,rfl,b8 _,rfl,ck _ _ _ _,HK0⟩
     case round=>
      obtain⟨j,oad,ocp,rfl,hj,rfl,HOw,HKz⟩:=hrel;by_cases hlj:j<VS.length
      .obtain⟨gv,cv,hev,_,hcv⟩:=Av (Aa HVr6 wr (Aa HKz)) (λc _=>Gl c) j hlj;simp only[bK]at hev;obtain⟨rfl,_,rfl⟩:=hev;have v0:=hcv j hlj 0 (by omega);simp[Dc]at v0;obtain⟨jj,e1,hj26,x0⟩:=Aa HRe j hlj wr (Aa HKz);rw[e1]at v0;have HTk:Hid (((VS.take (j+1)).map (Lv E)).flatMap Ae=((VS.take j).map (Lv E)).flatMap Ae++[.string (Lv E VS[j])]):=by
        show _=_;rw[bM hlj,cW,cw];rfl
       obtain⟨X,hX⟩:∃X,Lv E VS[j]=X:=⟨_,rfl⟩;rw[hX]at x0 HTk;(have hw1:IntKind.u8.wrap (jj:Int)=jj:=by rw[IntKind.wrap_u8];omega);(have hw2:IntKind.u8.wrap ((jj:Int)+65-65)=jj:=by rw[show(jj:Int)+65-65=jj by omega];exact hw1);(have hj0:(0:Int)<=(jj:Int):=by omega);(have hjl:(jj:Int)<26:=by omega);(have hjv:(j:Int)<(VS.length:Int):=by omega);(have hjv0:(0:Int)<=(j:Int):=by omega);have hsz:=(Aa HKz).size;rw[Aa HN0]at hsz;have HCs:Hid (∀wz,Ac [] wo wz->wz.cell? ⟨gv,j,none⟩=some (.int .u8 ((jj:Int)+65))/\wz.cell? ⟨ge,k*26+jj,none⟩=some (.string X)):=λwz hk=>by
        obtain⟨gv',cv',hev',_,hcv'⟩:=Av (Aa HVr6 wz hk) (λc _=>Gl c) j hlj;simp only[bK,bR,cI]at hev';obtain⟨⟨rfl,_,_⟩,_,_⟩:=hev';have v1:=hcv' j hlj 0 (by omega);simp[Dc]at v1;obtain⟨jj',e1',_,x1⟩:=Aa HRe j hlj wz hk;(obtain rfl:jj'=jj:=by omega);rw[e1]at v1;rw[hX]at x1;exact⟨v1,x1⟩
       clear hcv e1 hX;(go_wp2_with fail);have HHS:Hid (wr.drew.cell? ⟨gv,j,none⟩=some (.int .u8 ((jj:Int)+65))/\wr.drew.cell? ⟨ge,k*26+jj,none⟩=some (.string X)):=Aa HCs _ (Aa HKz).drew;refine Cp 13 (λwz=>wz.cell? ⟨gv,j,none⟩=some (.int .u8 ((jj:Int)+65))/\wz.cell? ⟨ge,k*26+jj,none⟩=some (.string X)) (by kernel_rfl) ?_;refine Ce.tk (i:=0) (v:=.slice oad j ocp) rfl (by kernel_rfl) (λ_ _ _ h=>h) HHS (by rfl) ?_ ?_
       ·(rintro wz ⟨z0,z1⟩;go_simp)
       simp only[Act.put,bH,bI,bJ];refine Ce.tk (i:=1) (v:=.slice (some ⟨ge,0,none⟩) ES.length ecp) rfl (by kernel_rfl) (λ_ _ _ h=>h) HHS (by rfl) ?_ ?_
       ·(rintro wz ⟨z0,z1⟩;go_simp)
       simp only[Act.put,bH,bI,bJ];refine Ce.tk (i:=2) (v:=.int .i64 k) rfl (by kernel_rfl) (λ_ _ _ h=>h) HHS (by rfl) ?_ ?_
       ·(rintro wz ⟨z0,z1⟩;go_simp)
       simp only[Act.put,bH,bI,bJ];refine Ce.tk (i:=3) (v:=.slice (some ⟨gv,0,none⟩) VS.length vcp) rfl (by kernel_rfl) (λ_ _ _ h=>h) HHS (by rfl) ?_ ?_
       ·(rintro wz ⟨z0,z1⟩;go_simp)
       simp only[Act.put,bH,bI,bJ];refine Ce.tk (i:=4) (v:=.int .i64 j) rfl (by kernel_rfl) (λ_ _ _ h=>h) HHS (by rfl) ?_ ?_
       ·(rintro wz ⟨z0,z1⟩;go_simp)
       simp only[Act.put,bH,bI,bJ];refine Ce.tk (i:=5) (v:=.pointer (some ⟨gv,j,none⟩)) rfl (by kernel_rfl) (λ_ _ _ h=>h) HHS (by rfl) ?_ ?_
       ·(rintro wz ⟨z0,z1⟩;go_simp)
       simp only[Act.put,bH,bI,bJ];refine Ce.tk (i:=6) (v:=.int .u8 ((jj:Int)+65)) rfl (by kernel_rfl) (λ_ _ _ h=>h) HHS (by rfl) ?_ ?_
       ·(rintro wz ⟨z0,z1⟩;go_simp)
       simp only[Act.put,bH,bI,bJ];refine Ce.tk (i:=7) (v:=.int .u8 (jj:Int)) rfl (by kernel_rfl) (λ_ _ _ h=>h) HHS (by rfl) ?_ ?_
       ·(rintro wz ⟨z0,z1⟩;go_simp)
       simp only[Act.put,bH,bI,bJ];refine Ce.tk (i:=8) (v:=.pointer (some ⟨ge,k*26,none⟩)) rfl (by kernel_rfl) (λ_ _ _ h=>h) HHS (by rfl) ?_ ?_
       ·(rintro wz ⟨z0,z1⟩;go_simp)
       simp only[Act.put,bH,bI,bJ];refine Ce.tk (i:=9) (v:=.pointer (some ⟨ge,k*26+jj,none⟩)) rfl (by kernel_rfl) (λ_ _ _ h=>h) HHS (by rfl) ?_ ?_
       ·(rintro wz ⟨z0,z1⟩;go_simp)
       simp only[Act.put,bH,bI,bJ];refine Ce.tk (i:=10) (v:=.string X) rfl (by kernel_rfl) (λ_ _ _ h=>h) HHS (by rfl) ?_ ?_
       ·(rintro wz ⟨z0,z1⟩;go_simp)
       simp only[Act.put,bH,bI,bJ];refine Ce.one (i:=11) (by kernel_rfl) rfl (λK hK=>?_)
       go_simp
       refine hK.out _ _ (λ_=>Aa HCs _ ((Aa HKz).drew.alloc _)) ?_;clear hK K
       try simp only[Act.put,bH,bI,bJ]
       refine Ce.one (i:=12) (by kernel_rfl) rfl (λK hK=>?_);refine fc _ (by rfl) _ _ _ (by rfl) N0 9 i0 _ 1 16 underlying41 hi0 hz0 hz1 hz2 rfl (by omega) (.slice oad j ocp) j (((VS.take j).map (Lv E)).flatMap Ae) (by rfl) (bQ (E0 (Aa HOw)) _) ⟨wr.drew.heap.size,0,none⟩ 1 1 [.string X] (by rfl) (by rfl) (cj (cs:=#[.string X]) (t:=9) (fr:=(0,0)) (cA wr.drew _)) (by simp[Value.oneCell']) (by omega) (by unfold maxLen;omega) (by omega) (by simp;omega) (wr.drew.heap.size+1) (by simp) ?_;intro g5 cp5 w6 ho5 hg5 ha5 hl5;have hk6:Ac [] wo w6:=((Aa HKz).drew.alloc _).grown hg5 (λq hq=>Or.inr (by have:=((Aa HOw).lt q hq).1;have:=Aa HN0;omega));refine hK.out _ _ (λ_=>Aa HCs _ hk6) ?_;clear hK K
       try simp only[Act.put,bH,bI,bJ]
       refine Ce.one (i:=13) (by kernel_rfl) rfl (λK hK=>?_)
       go_simp
       refine hK.out _ _ (λh=>absurd rfl h) ?_;clear hK K;refine Ce.done (by kernel_rfl) ?_ _
       try simp only[Act.put,bH,bI,bJ]
       (have HO6:Hid (w6.ownsRow N0 9 1 (.slice (some ⟨g5,0,none⟩) (j+1) cp5) (j+1) (((VS.take (j+1)).map (Lv E)).flatMap Ae)):=by rw[Aa HTk];exact ho5);have HK6:=Ab hk6;clear ho5 hg5 ha5 hl5 hk6 HTk HOw HKz HCs HHS v0 x0 hw1 hw2;go_wp2
       go_roundw
       case rel=>exact⟨j+1,some ⟨g5,0,none⟩,cp5,by go_num,by omega,rfl,HO6,HK6⟩
       case measure=>simp[intOf];omega
      ·(have hje:j=VS.length:=by omega);subst hje;have HRf:Hid (Hv wr ⟨Jt VS E,.slice oad VS.length ocp⟩):=by
        show wr.ownsRow 0 9 1 _ (EO VS E).length _;have h:=Ak (Aa HOw) (b8 _);rw[bP (bZ _)]at h;unfold Jt EO;rw[bX];exact h
       have HLr:Hid (rs.length<=46656):=by
        have h:=(Aa HQ4).2.2.1 k;rw[<-Aa HF,bX]at h;exact h
       have HWi:Hid (Calls prog 57 #[.slice rad rs.length rcp,.agg #[.string ⟨#[]⟩,.slice oad VS.length ocp]] wr λe w'=>∃ad cp,e=.returned (.slice ad (GW rs ⟨Jt VS E,.slice oad VS.length ocp⟩).length cp)/\Fa w' (.slice ad (GW rs ⟨Jt VS E,.slice oad VS.length ocp⟩).length cp) (GW rs ⟨Jt VS E,.slice oad VS.length ocp⟩)/\Ac [] wr w'):=
        P2 rad rcp rs ⟨Jt VS E,.slice oad VS.length ocp⟩ wr ((Aa HSi).kept (Aa HKz)) (Aa HRf) (by have:=Aa HLr;omega) (Aa HOk)
       (have HFn:Hid ((GW rs ⟨Jt VS E,.slice oad VS.length ocp⟩).map CF.f=EU VS [] (ES.take (k+1))):=by show _=_;rw[Ms,Aa HNx,Aa HF]);generalize GW rs ⟨Jt VS E,.slice oad VS.length ocp⟩=rs2 at HWi HFn;clear HOw HRf HLr;(go_wp2_with fail);refine(Aa HWi).mono ?_;rintro _ w7 ⟨ad7,cp7,rfl,hS7,k7⟩;have HS7:=Ab hS7;have HK7:Hid (Ac [] w5 w7):=(Aa HKr).trans ((Aa HKz).trans k7);clear hS7 k7 HWi HKz;go_wp2
       go_roundw
       case rel=>exact⟨k+1,rs2,ad7,cp7,by go_num,by omega,rfl,HFn,HS7,HK7⟩
       case measure=>simp[intOf];omega
    ·(have HFe:Hid (rs.map CF.f=EU VS [] ES):=by show _=_;have h:=Aa HF;rwa [bP (by omega)]at h);have HLr:Hid (rs.length<=46656):=by
      have h:=(Aa HQ4).2.2.1 k;rw[<-Aa HF,bX]at h;exact h
     (have HLn:Hid (∀p∈rs,p.f.args.length=VS.length):=λp hp=>(Aa HQ4).2.2.2.2.1 p.f (by rw[<-Aa HFe];exact cm hp));obtain⟨R,hR⟩:∃R,ET VS ByteArray.empty ((EU VS [] ES).map Ah.args)=R:=⟨_,rfl⟩;have HR0:Hid (ET VS ByteArray.empty ((rs.drop 0).map λp=>p.f.args)=R):=by
      show _=_;rw[<-hR,<-Aa HFe,dt];rfl
     (have HAs:Hid (Zn s q R 0):=by rw[<-hR];exact(Aa HQ4).2.2.2.2.2);(have HVw:Hid (∀wz,Ac [] wr wz->wz.ownsRow w2.heap.size 5 1 (.slice vad VS.length vcp) VS.length (VS.flatMap Dc)):=λwz hk=>Ad (Aa HVr5) ((Aa HKr).trans hk) (by simp));(have HSw:Hid (∀wz,Ac [] wr wz->Fa wz (.slice rad rs.length rcp) rs):=λwz hk=>(Aa HSi).kept hk);have HKw:Hid (Ac [] w wr):=(Aa HK1).trans ((Aa HK5).trans (Aa HKr));have HK0:=Ab (Ac.refl [] wr);(have HI3:Hid (PN s q 0 0):=by have h:=Aa HI2;rw[h.zero]at h;exact h);have hrl:=Aa HLr;clear HF HFe hR HQ4 HVr5 HE HKr HSi HK1 HK5 HLr hel HI2 HQl;generalize wr=wo at*;(go_wp2_with fail);clear gK hk
     go_loopw [19,20] (λo i wz=>∃(k:Nat) (t:cR),i=.int .i64 k/\k<=rs.length/\o=.string t/\t.size<=k*10000000/\Hid (ET VS t ((rs.drop k).map λp=>p.f.args)=R)/\Hid (Ac [] wo wz)) (λ_ i _=>rs.length-(intOf i).toNat)
     case atStart=>exact⟨0,ByteArray.empty,rfl,b8 _,rfl,by simp,HR0,HK0⟩
     case round=>
      clear HR0 HK0;obtain⟨k,t,rfl,hk,rfl,eB,HC,HKz⟩:=hrel;have hkk:k*10000000<=46656*10000000:=dj _ (by omega);by_cases gK:k<rs.length
      .obtain⟨gr,cr,n,as',aad,acp,he,hfk,d0,d1⟩:=Ey (Aa HSw wr (Aa HKz)) k gK;simp only[bK]at he;obtain⟨rfl,_,rfl⟩:=he;have hmem:=bL gK;rw[hfk]at hmem;have hal:as'.length=VS.length:=Aa HLn _ hmem;(have HAr:Hid (∀wz,Ac [] wo wz->wz.ownsRow 0 9 1 (.slice aad as'.length acp) as'.length (as'.flatMap Ae)):=λwz hk=>((Aa HSw wz hk).each _ hmem).1);(have HAz:Hid (∀x∈as',x.size<=1000000):=λx hx=>(((Aa HSw wr (Aa HKz)).each _ hmem).2.each x hx).2);obtain⟨RT,hRT⟩:∃RT,IT t false VS as'=RT:=⟨_,rfl⟩;have HT0:Hid (IT t (decide (0<0)) (VS.drop 0) (as'.drop 0)=RT):=hRT;have HC2:Hid (ET VS (RT++⟨#[10]⟩) ((rs.drop (k+1)).map λp=>p.f.args)=R):=by
        have h:=Aa HC;rw[ci gK,cu,ET,hfk,hRT]at h;exact h
       have HD1:Hid (∀wz,Ac [] wo wz->wz.cell? ⟨gr,k*2+1,none⟩=some (.slice aad as'.length acp)):=by
        intro wz hk;obtain⟨gr',cr',n',as2,aad',acp',he',hfk',_,d1'⟩:=Ey (Aa HSw wz hk) _ gK;simp only[bK,bR,cI]at he';obtain⟨⟨rfl,_,_⟩,_,_⟩:=he';rw[hfk]at hfk';cases hfk'
        exact d1'
       (have hkb:(k:Int)<(rs.length:Int):=by omega);(have hk0:(0:Int)<=(k:Int):=by omega);clear hfk hmem HC hRT d0;rw[hal]at HAr HD1 d1;(go_wp2_with fail);clear d1
       go_loopw [19,21] (λo i wz=>∃(j:Nat) (t2:cR),i=.int .i64 j/\j<=VS.length/\o=.string t2/\t2.size<=k*10000000+j*1000010/\Hid (IT t2 (decide (0<j)) (VS.drop j) (as'.drop j)=RT)/\Hid (Ac [] wo wz)) (λ_ i _=>VS.length-(intOf i).toNat)
       case atStart=>exact⟨0,t,rfl,b8 _,rfl,by rw[Nat.zero_mul,fS];exact eB,HT0,HKz⟩
       case round=>
        clear HT0 HKz;obtain⟨j,t2,rfl,hj,rfl,hts2,HC3,HKy⟩:=hrel;have hjj:j*1000010<=6*1000010:=dj _ (by omega);have d1:=Aa HD1 _ (Aa HKy);by_cases hlj:j<VS.length
        .obtain⟨gv,cv,hev,_,hcv⟩:=Av (Aa HVw _ (Aa HKy)) (λc _=>Gl c) j hlj;simp only[bK]at hev;obtain⟨rfl,_,rfl⟩:=hev;have v0:=hcv j hlj 0 (by omega);simp[Dc]at v0;(have hlj2:j<as'.length:=by omega);have har:=Aa HAr _ (Aa HKy);rw[<-hal]at har;obtain⟨ga,ca,hea,x0⟩:=GP har j hlj2;simp only[bK]at hea;obtain⟨rfl,_,rfl⟩:=hea;have HC4:Hid (IT ((if decide (0<j)then t2++⟨#[32]⟩else t2)++⟨#[VS[j]]⟩++⟨#[61]⟩++as'[j]) true (VS.drop (j+1)) (as'.drop (j+1))=RT):=by
          have h:=Aa HC3;rw[ci hlj,ci hlj2,IT]at h;exact h
         have hxz:=Aa HAz as'[j] (bL hlj2);obtain⟨V,hV⟩:∃V,VS[j]=V:=⟨_,rfl⟩;obtain⟨X,hX⟩:∃X,as'[j]=X:=⟨_,rfl⟩;rw[hV]at v0 HC4;rw[hX]at x0 HC4 hxz;(have hjb:(j:Int)<(VS.length:Int):=by omega);(have hj0:(0:Int)<=(j:Int):=by omega);have hcv2:(convert 143 9 (.slice (some ⟨wr.heap.size,0,none⟩) 1 1)).run prog (wr.alloc (.cells #[.int .u8 (V.toNat:Int)] 5)).drew=.ok (.string ⟨#[V]⟩) (wr.alloc (.cells #[.int .u8 (V.toNat:Int)] 5)).drew:=by
          refine run_convert_bytes_back _ 143 9 5 ⟨wr.heap.size,0,none⟩ 1 [V] underlying143 underlying5 underlying9 (λi hi=>?_);(have hi0:i=0:=by simp at hi;omega);subst hi0;exact(AE.new wr [.int .u8 (V.toNat:Int)] 5).cell 0
         have x1:=((Ac.refl [] wr).alloc (.cells #[.int .u8 (V.toNat:Int)] 5)).cellAt x0;have d2:=((Ac.refl [] wr).alloc (.cells #[.int .u8 (V.toNat:Int)] 5)).cellAt d1;clear hcv hV hX har HC3;by_cases h0:0<j
         ·(have h0i:(0:Int)<(j:Int):=by omega);(have hs1:(t2++⟨#[32]⟩:cR).size=t2.size+1:=by rw[cH];rfl);(have hb:t2.size<=466566000060:=by omega);(have hnb1:¬9223372036854775807<t2.size+1+1:=by omega);(have hnb2:¬9223372036854775807<t2.size+1+1+1:=by omega);(have hnb3:¬9223372036854775807<t2.size+1+1+1+X.size:=by omega);have HC5:Hid (IT (t2++⟨#[32]⟩++⟨#[V]⟩++⟨#[61]⟩++X) (decide (0<j+1)) (VS.drop (j+1)) (as'.drop (j+1))=RT):=by
           have h:=Aa HC4;simp only[h0,decide_true,if_true]at h;show _=_;simpa using h
          have hsn:(t2++⟨#[32]⟩++⟨#[V]⟩++⟨#[61]⟩++X:cR).size<=k*10000000+(j+1)*1000010:=by
           rw[cH,cH,cH,hs1];show t2.size+1+1+1+X.size<=_;omega
          clear HC4;go_wp2_with fail
          go_region
          go_wp2
          go_roundw
          case rel=>exact⟨j+1,_,by go_num,by omega,rfl,hsn,HC5,((Aa HKy).alloc _).drew⟩
          case measure=>simp[intOf];omega
         ·(have h0i:¬(0:Int)<(j:Int):=by omega);(have hb:t2.size<=466566000060:=by omega);(have hnb1:¬9223372036854775807<t2.size+1:=by omega);(have hnb2:¬9223372036854775807<t2.size+1+1:=by omega);(have hnb3:¬9223372036854775807<t2.size+1+1+X.size:=by omega);have HC5:Hid (IT (t2++⟨#[V]⟩++⟨#[61]⟩++X) (decide (0<j+1)) (VS.drop (j+1)) (as'.drop (j+1))=RT):=by
           have h:=Aa HC4;simp only[h0,fP,bN,if_false]at h;show _=_;simpa using h
          have hsn:(t2++⟨#[V]⟩++⟨#[61]⟩++X:cR).size<=k*10000000+(j+1)*1000010:=by
           rw[cH,cH,cH];show t2.size+1+1+X.size<=_;omega
          clear HC4;go_wp2_with fail
          go_region
          go_wp2
          go_roundw
          case rel=>exact⟨j+1,_,by go_num,by omega,rfl,hsn,HC5,((Aa HKy).alloc _).drew⟩
          case measure=>simp[intOf];omega
        .have HTe:Hid (t2=RT):=by
          have h:=Aa HC3;rw[cG (by omega),cG (by omega),IT]at h
          .exact h
          .intro v vs x xs h;cases h
         rw[Aa HTe]at hts2⊢;(have hb:RT.size<=466566000060:=by omega);(have hnb1:¬9223372036854775807<RT.size+1:=by omega);have hsn:(RT++⟨#[10]⟩:cR).size<=(k+1)*10000000:=by
          rw[cH];show RT.size+1<=_;omega
         clear HC3 HTe;go_wp2
         go_roundw
         case rel=>exact⟨k+1,_,by go_num,by omega,rfl,hsn,HC2,HKy⟩
         case measure=>simp[intOf];omega
      .have HTe:Hid (t=R):=by
        have h:=Aa HC;rw[cG (by omega),eW,ET]at h;exact h
       clear HC;go_wp2;go_ret3;rw[Aa HTe];exact⟨R,0,0,rfl,Aa HI3,Aa HAs,(Aa HKw).trans (Aa HKz)⟩
  ·(have h02:(e2 !=0)=true:=by simp[h2]);have HF:Hid (Zn s q ByteArray.empty e2):=⟨λ_=>rfl,λh=>absurd h h2⟩;clear h2 HQl HM HPd;(go_wp2_with fail);go_ret3;exact⟨ByteArray.empty,e2,a2,rfl,Aa HI2,Aa HF,(Aa HK1).trans (Aa HK2)⟩
 .have h00:(er !=0)=true:=by simp[h0]
  have HF:Hid (Zn s q ByteArray.empty er):=⟨λ_=>rfl,λh=>absurd h h0⟩;have HI:Hid (PN s q er at_):=⟨er,at_,Aa HRi,Or.inl ⟨h0,rfl,rfl⟩⟩;clear h0 HRl HRi;go_wp2_with fail
  go_ret3;exact⟨ByteArray.empty,er,at_,rfl,Aa HI,Aa HF,Aa HK1⟩
