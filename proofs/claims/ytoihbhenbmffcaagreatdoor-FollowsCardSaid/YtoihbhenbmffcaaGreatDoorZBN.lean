import Derived.Test.YtoihbhenbmffcaaGreatDoorZBM
set_option linter.unusedVariables false
set_option linter.unusedSimpArgs false
set_option maxHeartbeats 6400000
namespace Go.Proofs.YtoihbhenbmffcaaGreatDoor
open Go.RowKit
open Go.Proofs.Tryz
theorem Tryz.info176:(Tryz.prog.info? 176).map (λi=>(i.zero,i.size,i.bytes))=some (some (.agg #[.string ⟨#[]⟩, .slice none 0 0, .int .i64 0, .slice none 0 0]),4,72):=by kernel_rfl
theorem Nj{t:AG}(h:Dh t):MA (ct t):=by
 rcases h with⟨h,_⟩|⟨a,b,_⟩
 ·exact Or.inl (by unfold ct;rw[h];rfl)
 ·exact Or.inr ⟨by unfold ct;simp only;omega,by unfold ct;simp only;omega⟩
structure ZP(w3:World)(k:Nat)(al:UInt8->List cL->List cL)(r:Bf)(s:List Aj)(pre:List (List cL))(M:List Nat)(W:World):Prop where
 kept:Ac [] w3 W
 out:∃(sts:List ZZ) (ad:Option Addr) (cp:Nat),Aw W w3.heap.size [.slice ad sts.length cp] 137/\W.ownsRow w3.heap.size 176 4 (.slice ad sts.length cp) sts.length (sts.flatMap (NT k))/\
  (∀st∈sts,DW W st.f/\st.f.f.things.length<=1000/\∃a n c,st.n= .slice a n c)/\sts.map (λst=>st.f.f)=(J2 al r s pre).map CK/\M=w3.heap.size::(Value.slice ad sts.length cp).ownBlock.toList
theorem ZP.own{g:World}{k B:Nat}{al:UInt8->List cL->List cL}{r:Bf}{s:List Aj}(n:g.heap.size<=B):OwnFrom B (fun(q:List (List cL)×List Nat) W=>ZP g k al r s q.1 q.2 W):=
 CR (λq W p M h a b=>by
  obtain⟨l,o,m,i,f,d,j⟩:=h.out
  exact⟨Ge h.kept a b n,l,o,m,i.kept a (Do b i),Ar f a (Gb b f),λe c=>⟨Ar (d e c).1 a (Gb b (d e c).1),(d e c).2⟩,j⟩)
set_option maxRecDepth 100000
theorem Qq(cb k:Nat)(lad:Option Addr)(lcp:Nat)(pcs:List Da)(sad:Option Addr)(scp:Nat)(fs:List Fm)(stv:Value)(r:Bf)(s:List Aj)(w:World)(hk:k<pcs.length)(hlen:pcs.length<=1000)(hC:Aw w cb [.slice lad pcs.length lcp, .slice sad fs.length scp,stv] 139)(hP:Dv w (.slice lad pcs.length lcp) pcs)(hF:Mc w (.slice sad fs.length scp) fs)(hE:Ej fs s)(hcl:OC pcs[k] r s)(hnl:(OF (KA (Al r) s) r (Cf r) (C2 r) s).length<=100000):
  Calls prog 167 #[.pointer (some ⟨cb,0,none⟩), .int .i64 k] w λrr w'=>∃(ad:Option Addr) (cp:Nat) (sts:List ZZ),rr= .returned (.slice ad sts.length cp)/\sts.map (λst=>st.f.f)=(OF (KA (Al r) s) r (Cf r) (C2 r) s).map CK/\
   w'.ownsRow w.heap.size 176 4 (.slice ad sts.length cp) sts.length (sts.flatMap (NT k))/\(∀st∈sts,DW w' st.f/\st.f.f.things.length<=1000/\∃a n c,st.n= .slice a n c)/\Ac [] w w':=by
 obtain⟨i0,hi0,hz0,hz1,hz2⟩:=bj Tryz.info176;obtain⟨g,cap,hp,hn,hts,adh,cph,adb,cpb,lvs,he,hck,_,_,_,_⟩:=FI hP k hk;simp only[Z6]at he;obtain⟨rfl,-,rfl⟩:=he;have hpc:=hP.each _ (Z7 hk);rw[hck]at hcl hpc;have hfl:=hE.len;have hsl:=hcl.len;have hth:hts.length<=1000:=hcl.fit.head.2;have HCT:Hid (∀wz,Ac [] w wz->Calls prog 184 #[.agg #[.int .i64 hp, .string hn, .slice adh hts.length cph, .slice adb lvs.length cpb]] wz λe w'=>∃ad cp,e= .returned (.slice ad (Bj ⟨hp,hn,hts, .slice adh hts.length cph, .slice adb lvs.length cpb,lvs⟩).length cp)/\w'.ownsRow 0 215 2 (.slice ad (Bj ⟨hp,hn,hts, .slice adh hts.length cph, .slice adb lvs.length cpb,lvs⟩).length cp) (Bj ⟨hp,hn,hts, .slice adh hts.length cph, .slice adb lvs.length cpb,lvs⟩).length ((Bj ⟨hp,hn,hts, .slice adh hts.length cph, .slice adb lvs.length cpb,lvs⟩).flatMap Am)/\Ac [] wz w'):=
  λwz hk=>(NG ⟨hp,hn,hts, .slice adh hts.length cph, .slice adb lvs.length cpb,lvs⟩ wz (hpc.kept hk (by simp)) hcl.fit).mono λe w' ⟨ad,cp,h1,h2,h3⟩=>⟨ad,cp,h1,Ai h2 (aG _),h3⟩
 have HV1:Hid (∀ad cp wz,wz.ownsRow 0 215 2 (.slice ad (Bj ⟨hp,hn,hts, .slice adh hts.length cph, .slice adb lvs.length cpb,lvs⟩).length cp) (Bj ⟨hp,hn,hts, .slice adh hts.length cph, .slice adb lvs.length cpb,lvs⟩).length ((Bj ⟨hp,hn,hts, .slice adh hts.length cph, .slice adb lvs.length cpb,lvs⟩).flatMap Am)->Calls prog 138 #[.slice ad (Bj ⟨hp,hn,hts, .slice adh hts.length cph, .slice adb lvs.length cpb,lvs⟩).length cp] wz λr w'=>∃ad' cp',r= .returned (.slice ad' (C4 (Bj ⟨hp,hn,hts, .slice adh hts.length cph, .slice adb lvs.length cpb,lvs⟩)).length cp')/\w'.ownsRow 0 21 1 (.slice ad' (C4 (Bj ⟨hp,hn,hts, .slice adh hts.length cph, .slice adb lvs.length cpb,lvs⟩)).length cp') (C4 (Bj ⟨hp,hn,hts, .slice adh hts.length cph, .slice adb lvs.length cpb,lvs⟩)).length ((C4 (Bj ⟨hp,hn,hts, .slice adh hts.length cph, .slice adb lvs.length cpb,lvs⟩)).flatMap AD)/\Ac [] wz w'):=
  λad cp wz h=>(O6 ad cp _ 0 wz h hcl.terms).mono λe w' ⟨ad,cp,h1,h2,h3⟩=>⟨ad,cp,h1,Ai h2 (aG _),h3⟩
 have HSea:Hid (∀sp oad ocp wz,Ac [] w wz->Aw wz sp [.pointer (some ⟨cb,1,none⟩), .slice adb lvs.length cpb, .slice oad (C4 (Bj ⟨hp,hn,hts, .slice adh hts.length cph, .slice adb lvs.length cpb,lvs⟩)).length ocp] 237->wz.ownsRow 0 21 1 (.slice oad (C4 (Bj ⟨hp,hn,hts, .slice adh hts.length cph, .slice adb lvs.length cpb,lvs⟩)).length ocp) (C4 (Bj ⟨hp,hn,hts, .slice adh hts.length cph, .slice adb lvs.length cpb,lvs⟩)).length ((C4 (Bj ⟨hp,hn,hts, .slice adh hts.length cph, .slice adb lvs.length cpb,lvs⟩)).flatMap AD)->Zh wz sp (Al r) s (Cf r++C2 r)):=by
  intro sp oad ocp wz hk hb hr;have hc1:=(hC.kept hk (by simp)).cell 1;simp at hc1;exact hcl.sea (c:=⟨hp,hn,hts, .slice adh hts.length cph, .slice adb lvs.length cpb,lvs⟩) ⟨hb,hc1,hF.kept hk⟩ (hpc.body.kept hk (by simp)) hr hE
 have HVl:Hid ((C4 (Bj ⟨hp,hn,hts, .slice adh hts.length cph, .slice adb lvs.length cpb,lvs⟩)).length=(Cf r++C2 r).length/\(Cf r++C2 r).length<=26):=⟨by rw[hcl.order,LK],hcl.vlen⟩;obtain⟨TV,hTV⟩:∃TV,Bj ⟨hp,hn,hts, .slice adh hts.length cph, .slice adb lvs.length cpb,lvs⟩=TV:=⟨_,rfl⟩;rw[hTV]at HCT HV1 HSea HVl;have HV2:Hid (∀wz,Ac [] w wz->Calls prog 138 #[.slice adh hts.length cph] wz λr' w'=>∃ad' cp',r'= .returned (.slice ad' (Cf r).length cp')/\Ac [] wz w'):=λwz hk=>(O6 adh cph hts 0 wz (Ad hpc.head hk (by simp)) (by omega)).mono λe w' ⟨ad,cp,h1,h2,h3⟩=>⟨ad,cp,by rw[h1,hcl.ofHead,LK],h3⟩
 have hvt:∀t∈hts,MA t:=by
  have hh:=hcl.cor.hts;simp only at hh;rw[hh];intro t ht;obtain⟨u,hu,rfl⟩:=az.1 ht;exact Nj (hcl.head.args u hu)
 have HBf:Hid (∀Bx b wz,Ac [] w wz->b.length=26->Aw wz Bx (Ah b) 243->Calls prog 196 #[.pointer (some ⟨Bx,0,none⟩), .agg #[.int .i64 hp, .string hn, .slice adh hts.length cph]] wz λr w'=>∃g,r= .returned (.agg #[.string hn, .slice (some ⟨g,0,none⟩) hts.length hts.length])/\DW w' ⟨⟨hn,hts.map (Bn b)⟩, .slice (some ⟨g,0,none⟩) hts.length hts.length⟩/\Ac [] wz w'):=by
  intro Bx b wz hk hb hB;refine(Lq Bx 243 b hp hn adh cph hts 0 wz hb hB (Ad hpc.head hk (by simp)) (by omega) hvt).mono ?_;rintro r w' ⟨g,rfl,hr,k⟩;refine⟨g,rfl,?_,k⟩;show w'.ownsRow 0 170 1 _ (hts.map (Bn b)).length _;rw[aD];exact Ai hr (aG _)
 have HHs:Hid (∀(g:Nat) (ts:List cL) (f:Aj) wz,Ac [] w wz->ts.length=hts.length->DW wz ⟨⟨hn,ts⟩, .slice (some ⟨g,0,none⟩) hts.length hts.length⟩->(⟨hn,ts⟩:DB)=CK f->A6 f->Calls prog 60 #[.pointer (some ⟨cb,1,none⟩), .agg #[.string hn, .slice (some ⟨g,0,none⟩) hts.length hts.length]] wz λe w'=>e= .returned (.bool (Fq s f))/\Ac [] wz w'):=by
  intro g ts f wz hk htl hpf hf hcf;have hc1:=(hC.kept hk (by simp)).cell 1;simp at hc1;refine(Pi cb 1 sad scp fs ⟨⟨hn,ts⟩, .slice (some ⟨g,0,none⟩) hts.length hts.length⟩ wz hc1 (hF.kept hk) hpf (by show ts.length<=1000;omega) (by omega) (hE.mono _)).mono ?_;rintro e w' ⟨p,rfl,hcut,k⟩;simp only at hcut⊢;rw[hf]at hcut⊢;exact⟨by rw[hE.hit hcf hcut],k⟩
 have HNe:Hid (∀WB b wz,Ac [] w wz->b.length=26->Aw wz WB (Ah b) 243->Calls prog 198 #[.pointer (some ⟨WB,0,none⟩), .slice adb lvs.length cpb] wz λr w'=>∃(ad:Option Addr) (n cp:Nat),r= .returned (.slice ad n cp)/\Ac [] wz w'):=by
  intro WB b wz hk hb hB;have hl:∀p∈lvs,NR p.1:=λp hp=>by
   have hm:p.1∈(Al r).map Lg:=by
    have h2:=F2.fst hcl.cor.lits;simp only at h2;unfold Al;rw[<-h2];exact aM hp
   obtain⟨x,hx,e1⟩:=az.1 hm;rw[<-e1];exact(hcl.lits x hx).2
  refine(Vu WB 243 b adb cpb lvs wz hb hB (hpc.body.kept hk (by simp)) hcl.fit.lits hl).mono ?_;rintro e w' ⟨ad,cp,ps,rfl,_,_,k⟩;exact⟨ad,ps.length,cp,rfl,k⟩
 have HCl:=Ab hcl;have HFc:Hid (∀b∈AK (KA (Al r) s) (Al r) s (Cf r) Dr,C3 b/\(⟨hn,hts.map (Bn (Bw b))⟩:DB)=CK (AI b r.head)/\A6 (AI b r.head)):=λb hb=>by
  have hcan:=MS hcl.al hcl.parts hcl.head hb;exact⟨IT hcl.al _ _ C3.start b hb,V2 hcl.cor hcl.head hcan,GH hcan⟩
 have HNl:=Ab hnl;have HPr:=Ab hP;have HCo:=Ab hC;have HCk:=Ab hck;clear hcl hpc hE hF hC hfl hsl hvt hTV hnl;obtain⟨N,hN⟩:∃N,w.heap.size=N:=⟨_,rfl⟩;have HN:=Ab hN;obtain⟨PL,hPL⟩:∃PL,pcs.length=PL:=⟨_,rfl⟩;have HC1:Hid (∀wz,Ac [] w wz->wz.cell? ⟨cb,0,none⟩=some (.slice (some ⟨g,0,none⟩) PL lcp)/\wz.cell? ⟨g,k*4,none⟩=some (.int .i64 hp)/\wz.cell? ⟨g,k*4+1,none⟩=some (.string hn)/\wz.cell? ⟨g,k*4+2,none⟩=some (.slice adh hts.length cph)/\wz.cell? ⟨g,k*4+3,none⟩=some (.slice adb lvs.length cpb)):=by
  intro wz hkz;obtain⟨g',cap',hp',hn',hts',adh',cph',adb',cpb',lvs',he',hck',d0,d1,d2,d3⟩:=FI (hP.kept hkz) k hk;rw[hck]at hck';simp only[Da.mk.injEq]at hck';obtain⟨rfl,rfl,rfl,e1,e2,rfl⟩:=hck';simp only[Z6,ai,aW]at he';obtain⟨⟨rfl,-,-⟩,-,-⟩:=he';rw[<-e1]at d2;rw[<-e2]at d3;have h0:=((Aa HCo).kept hkz (by simp)).cell 0;simp[hPL]at h0;exact⟨h0,d0,d1,d2,d3⟩
 have hk0:(0:Int)<=(k:Int):=by omega
 have hk1:(k:Int)<(PL:Int):=by omega
 clear hP hck hPL hlen hN;obtain⟨QQ,hQQ⟩:∃QQ,NK (bodyPostM Fence.wide 0 prog Tryz.f167 λrr w'=>∃(ad:Option Addr) (cp:Nat) (sts:List ZZ),rr= .returned (.slice ad sts.length cp)/\sts.map (λst=>st.f.f)=(OF (KA (Al r) s) r (Cf r) (C2 r) s).map CK/\
   w'.ownsRow w.heap.size 176 4 (.slice ad sts.length cp) sts.length (sts.flatMap (NT k))/\(∀st∈sts,DW w' st.f/\st.f.f.things.length<=1000/\∃a n c,st.n= .slice a n c)/\Ac [] w w')=QQ:=⟨_,rfl⟩
 have HQQ:=Ab hQQ;have HQp:Hid (∀c a w,¬QQ (.panic c) a w):=by
  intro c a w h;rw[<-hQQ]at h;exact h
 refine GE func167 rfl (Kd ?_);rw[hQQ];clear hQQ;simp only[ntmps167,bo,ak,aH,Nat.reduceAdd,Nat.reduceSub,dD,dE,dV,dI,bU,cJ];have HK1:=Ab (((Ac.refl [] w).alloc (.cells #[.pointer (some ⟨cb,0,none⟩)] 140)).alloc (.cells #[.int .i64 k] 3));have HB0:=Ab ((Aw.new w [.pointer (some ⟨cb,0,none⟩)] 140).alloc (.cells #[.int .i64 k] 3));have HB1:Hid (Aw ((w.alloc (.cells #[.pointer (some ⟨cb,0,none⟩)] 140)).alloc (.cells #[.int .i64 k] 3)) (w.heap.size+1) [.int .i64 k] 3):=by
  have h:=Aw.new (w.alloc (.cells #[.pointer (some ⟨cb,0,none⟩)] 140)) [.int .i64 k] 3;rw[aP]at h;exact h
 refine wp_seq_k (λK1 hK1=>?_);have HKk:=Ab hK1;clear hK1;go_wp2;refine Aa HKk _ _ ?_;clear HKk K1;change Code.wp _ _ _ _ ((w.alloc (.cells [.pointer (some ⟨cb,0,none⟩)].toArray 140)).alloc (.cells [.int .i64 k].toArray 3));generalize hw1:(w.alloc (.cells [.pointer (some ⟨cb,0,none⟩)].toArray 140)).alloc (.cells [.int .i64 k].toArray 3)=w1 at HK1 HB0 HB1⊢;have hsz1:w1.heap.size=w.heap.size+2:=by rw[<-hw1];simp
 clear hw1;rw[Aa HN]at HB0 HB1 hsz1⊢;have HS1:Hid (∀wz,Ac [] w1 wz->Ac [] w1 wz/\wz.cell? ⟨N,0,none⟩=some (.pointer (some ⟨cb,0,none⟩))/\wz.cell? ⟨N+1,0,none⟩=some (.int .i64 k)/\wz.cell? ⟨cb,0,none⟩=some (.slice (some ⟨g,0,none⟩) PL lcp)/\wz.cell? ⟨g,k*4,none⟩=some (.int .i64 hp)/\wz.cell? ⟨g,k*4+1,none⟩=some (.string hn)/\wz.cell? ⟨g,k*4+2,none⟩=some (.slice adh hts.length cph)/\wz.cell? ⟨g,k*4+3,none⟩=some (.slice adb lvs.length cpb)):=by
  intro wz hkz;have h0:=((Aa HB0).kept hkz (by simp)).cell 0;have h1:=((Aa HB1).kept hkz (by simp)).cell 0;simp at h0 h1;exact⟨hkz,h0,h1,Aa HC1 wz ((Aa HK1).trans hkz)⟩
 refine wp_seq_k (λK1 hK1=>?_);have HKk:=Ab hK1;clear hK1;have HHS:=Ab (Aa HS1 w1.drew (Ac.refl [] w1).drew);refine CS 9 (λwz=>Ac [] w1 wz/\wz.cell? ⟨N,0,none⟩=some (.pointer (some ⟨cb,0,none⟩))/\wz.cell? ⟨N+1,0,none⟩=some (.int .i64 k)/\wz.cell? ⟨cb,0,none⟩=some (.slice (some ⟨g,0,none⟩) PL lcp)/\wz.cell? ⟨g,k*4,none⟩=some (.int .i64 hp)/\wz.cell? ⟨g,k*4+1,none⟩=some (.string hn)/\wz.cell? ⟨g,k*4+2,none⟩=some (.slice adh hts.length cph)/\wz.cell? ⟨g,k*4+3,none⟩=some (.slice adb lvs.length cpb)) (by kernel_rfl) ?_;refine CF.takeH (i:=0) (v:= .pointer (some ⟨cb,0,none⟩)) rfl (by kernel_rfl) (by kernel_rfl) (by kernel_rfl) (by decide) (λ_ _ _ h=>absurd h (Aa HQp _ _ _)) (Aa HHS) (Or.inl ⟨by rfl,?_⟩) ?_
 ·(intro wz hSw;obtain⟨z0,z1,z2,z3,z4,z5,z6,z7⟩:=hSw;go_simp)
 simp only[Act.put,Z3,Z4,Z5];refine CF.takeH (i:=1) (v:= .pointer (some ⟨cb,0,none⟩)) rfl (by kernel_rfl) (by kernel_rfl) (by kernel_rfl) (by decide) (λ_ _ _ h=>absurd h (Aa HQp _ _ _)) (Aa HHS) (Or.inl ⟨by rfl,?_⟩) ?_
 ·(intro wz hSw;obtain⟨z0,z1,z2,z3,z4,z5,z6,z7⟩:=hSw;go_simp)
 simp only[Act.put,Z3,Z4,Z5];refine CF.takeH (i:=2) (v:= .pointer (some ⟨cb,0,none⟩)) rfl (by kernel_rfl) (by kernel_rfl) (by kernel_rfl) (by decide) (λ_ _ _ h=>absurd h (Aa HQp _ _ _)) (Aa HHS) (Or.inl ⟨by rfl,?_⟩) ?_
 ·(intro wz hSw;obtain⟨z0,z1,z2,z3,z4,z5,z6,z7⟩:=hSw;go_simp)
 simp only[Act.put,Z3,Z4,Z5];refine CF.takeH (i:=3) (v:= .slice (some ⟨g,0,none⟩) PL lcp) rfl (by kernel_rfl) (by kernel_rfl) (by kernel_rfl) (by decide) (λ_ _ _ h=>absurd h (Aa HQp _ _ _)) (Aa HHS) (Or.inl ⟨by rfl,?_⟩) ?_
 ·(intro wz hSw;obtain⟨z0,z1,z2,z3,z4,z5,z6,z7⟩:=hSw;go_simp)
 simp only[Act.put,Z3,Z4,Z5];refine CF.takeH (i:=4) (v:= .int .i64 k) rfl (by kernel_rfl) (by kernel_rfl) (by kernel_rfl) (by decide) (λ_ _ _ h=>absurd h (Aa HQp _ _ _)) (Aa HHS) (Or.inl ⟨by rfl,?_⟩) ?_
 ·(intro wz hSw;obtain⟨z0,z1,z2,z3,z4,z5,z6,z7⟩:=hSw;go_simp)
 simp only[Act.put,Z3,Z4,Z5];refine CF.takeH (i:=5) (v:= .pointer (some ⟨g,k*4,none⟩)) rfl (by kernel_rfl) (by kernel_rfl) (by kernel_rfl) (by decide) (λ_ _ _ h=>absurd h (Aa HQp _ _ _)) (Aa HHS) (Or.inl ⟨by rfl,?_⟩) ?_
 ·(intro wz hSw;obtain⟨z0,z1,z2,z3,z4,z5,z6,z7⟩:=hSw;go_simp)
 simp only[Act.put,Z3,Z4,Z5];refine CF.takeH (i:=6) (v:= .agg #[.int .i64 hp, .string hn, .slice adh hts.length cph, .slice adb lvs.length cpb]) rfl (by kernel_rfl) (by kernel_rfl) (by kernel_rfl) (by decide) (λ_ _ _ h=>absurd h (Aa HQp _ _ _)) (Aa HHS) (Or.inl ⟨by rfl,?_⟩) ?_
 ·(intro wz hSw;obtain⟨z0,z1,z2,z3,z4,z5,z6,z7⟩:=hSw;go_simp)
 simp only[Act.put,Z3,Z4,Z5];refine CF.one (i:=7) (by kernel_rfl) rfl (λK hK=>?_)
 go_simp
 refine hK.out _ _ (λ_=>Aa HS1 _ ((Ac.refl [] w1).drew.alloc _)) ?_;clear hK K
 try simp only[Act.put,Z3,Z4,Z5]
 have HB2:=Ab (Aw.new w1.drew [.int .i64 0, .string ⟨#[]⟩, .slice none 0 0, .slice none 0 0] 189);have HK2:=Ab ((Ac.refl [] w1).drew.alloc (.cells [.int .i64 0, .string ⟨#[]⟩, .slice none 0 0, .slice none 0 0].toArray 189));change CF _ _ _ _ _ _ _ _ _ (w1.drew.alloc (.cells [.int .i64 0, .string ⟨#[]⟩, .slice none 0 0, .slice none 0 0].toArray 189));have hsz:w1.drew.heap.size=N+2:=hsz1;rw[hsz]at HB2;generalize w1.drew.alloc (.cells [.int .i64 0, .string ⟨#[]⟩, .slice none 0 0, .slice none 0 0].toArray 189)=w2 at HB2 HK2⊢;have q0:=(Aa HB2).cell 0;have q1:=(Aa HB2).cell 1;have q2:=(Aa HB2).cell 2;have q3:=(Aa HB2).cell 3;have f0:=(Aa HB2).frozen 0;have f1:=(Aa HB2).frozen 1;have f2:=(Aa HB2).frozen 2;have f3:=(Aa HB2).frozen 3;simp at q0 q1 q2 q3;refine CF.one (i:=8) (by kernel_rfl) rfl (λK hK=>?_)
 go_simp
 have HB3:=Ab ((Aa HB2).fill4 rfl (.int .i64 hp) (.string hn) (.slice adh hts.length cph) (.slice adb lvs.length cpb));have HK3:=Ab ((Aa HK2).fill4 (N:=N+2) (Or.inr (by omega)) (.int .i64 hp) (.string hn) (.slice adh hts.length cph) (.slice adb lvs.length cpb));refine hK.out _ _ (λ_=>Aa HS1 _ (Aa HK3)) ?_;clear hK K;refine CF.done (by kernel_rfl) ?_ _
 try simp only[Act.put,Z3,Z4,Z5]
 generalize(((w2.setCell ⟨N+2,0,none⟩ (.int .i64 hp)).setCell ⟨N+2,1,none⟩ (.string hn)).setCell ⟨N+2,2,none⟩ (.slice adh hts.length cph)).setCell ⟨N+2,3,none⟩ (.slice adb lvs.length cpb)=wA at HB3 HK3⊢;refine Aa HKk _ _ ?_;clear HKk K1 HHS HS1 HB2 HK2 q0 q1 q2 q3 f0 f1 f2 f3;have HKw:Hid (Ac [] w wA):=(Aa HK1).trans (Aa HK3);have HBc:Hid (Aw wA N [.pointer (some ⟨cb,0,none⟩)] 140/\Aw wA (N+1) [.int .i64 k] 3/\Aw wA (N+2) [.int .i64 hp, .string hn, .slice adh hts.length cph, .slice adb lvs.length cpb] 189):=⟨(Aa HB0).kept (Aa HK3) (by simp),(Aa HB1).kept (Aa HK3) (by simp),by have h:=Aa HB3;simpa using h⟩;clear HB3 HK3 HK1 HB0 HB1 hsz1 hsz;have HS2:Hid (∀wz,Ac [] wA wz->Ac [] wA wz/\wz.cell? ⟨N,0,none⟩=some (.pointer (some ⟨cb,0,none⟩))/\wz.cell? ⟨N+2,0,none⟩=some (.int .i64 hp)/\wz.cell? ⟨N+2,1,none⟩=some (.string hn)/\wz.cell? ⟨N+2,2,none⟩=some (.slice adh hts.length cph)/\wz.cell? ⟨N+2,3,none⟩=some (.slice adb lvs.length cpb)):=by
  intro wz hkz;have h0:=((Aa HBc).1.kept hkz (by simp)).cell 0;have hb:=(Aa HBc).2.2.kept hkz (by simp);have h1:=hb.cell 0;have h2:=hb.cell 1;have h3:=hb.cell 2;have h4:=hb.cell 3;simp at h0 h1 h2 h3 h4;exact⟨hkz,h0,h1,h2,h3,h4⟩
 obtain⟨VR,hVR⟩:∃VR,C4 TV=VR:=⟨_,rfl⟩;rw[hVR]at HV1 HSea HVl;clear hVR;refine wp_seq_k (λK2 hK2=>?_);have HK2k:=Ab hK2;clear hK2;have HE2:Hid (∀(y13 y14 y15 y16 y17 y18 y19 y20 y21 y22 y23 y24 y25 y26 y27 y28:Value) (oad:Option Addr) (ocp sp tb:Nat) (wz:World),Ac [] wA wz->wz.ownsRow 0 21 1 (.slice oad VR.length ocp) VR.length (VR.flatMap AD)->Aw wz sp [.pointer (some ⟨cb,1,none⟩), .slice adb lvs.length cpb, .slice oad VR.length ocp] 237->Aw wz tb [.pointer (some ⟨sp,0,none⟩)] 233->K2 ⟨#[.pointer (some ⟨cb,0,none⟩), .int .i64 k, .pointer (some ⟨N,0,none⟩), .pointer (some ⟨N+1,0,none⟩), .slice none 0 0, .pointer (some ⟨N+2,0,none⟩), .pointer (some ⟨tb,0,none⟩),undef,undef,undef,undef,undef,undef,y13,y14,y15,y16,y17,y18,y19,y20,y21,y22,y23,y24,y25,y26,y27,y28, .pointer (some ⟨sp,0,none⟩),undef,undef,undef,undef,undef,undef,undef,undef,undef,undef,undef,undef,undef,undef,undef,undef,undef,undef,undef,undef,undef,undef,undef,undef,undef,undef,undef,undef,undef,undef,undef,undef,undef,undef,undef,undef,undef,undef,undef,undef,undef],[]⟩ wz):=by
  intro y13 y14 y15 y16 y17 y18 y19 y20 y21 y22 y23 y24 y25 y26 y27 y28 oad ocp sp tb wz hkz hrow hsp htb;refine Aa HK2k _ _ ?_;clear HK2k K2;have HSa:=Ab (Aa HSea sp oad ocp wz ((Aa HKw).trans hkz) hsp hrow);have HKz:Hid (Ac [] w wz):=(Aa HKw).trans hkz;have HBz:Hid (Aw wz N [.pointer (some ⟨cb,0,none⟩)] 140/\Aw wz (N+1) [.int .i64 k] 3/\Aw wz (N+2) [.int .i64 hp, .string hn, .slice adh hts.length cph, .slice adb lvs.length cpb] 189/\Aw wz tb [.pointer (some ⟨sp,0,none⟩)] 233):=⟨(Aa HBc).1.kept hkz (by simp),(Aa HBc).2.1.kept hkz (by simp),(Aa HBc).2.2.kept hkz (by simp),htb⟩;clear hkz hrow hsp htb HSea HS2;have e2:=(Aa HBz).2.2.1.cell 2;simp at e2;have HC3:=Ab (Aa HV2 wz (Aa HKz));refine wp_seq_k (λK1 hK1=>?_);have HKk:=Ab hK1;clear hK1;go_wp2_with fail
  refine(Aa HC3).mono ?_;rintro _ v2 ⟨ad',cp',rfl,k2⟩;obtain⟨OH,hOH⟩:∃OH,(Cf r).length=OH:=⟨_,rfl⟩;have HOH:=Ab hOH;rw[hOH];have HK2:=Ab k2;clear hOH HC3 k2 e2;go_wp2;refine Aa HKk _ _ ?_;clear HKk K1;have HKo:=Ab ((Aa HK2).alloc (.cells [.int .i64 OH].toArray 3));have HBo:=Ab (Aw.new v2 [.int .i64 OH] 3);change Code.wp _ _ _ _ (v2.alloc (.cells [.int .i64 OH].toArray 3));generalize v2.alloc (.cells [.int .i64 OH].toArray 3)=w3 at HKo HBo⊢;generalize v2.heap.size=ob at HBo⊢;have HK3:Hid (Ac [] w w3):=(Aa HKz).trans (Aa HKo);have HS3:Hid (Zh w3 sp (Al r) s (Cf r++C2 r)):=(Aa HSa).kept (Aa HKo);have HB3:Hid (∀W,Ac [] w3 W->Aw W N [.pointer (some ⟨cb,0,none⟩)] 140/\Aw W (N+1) [.int .i64 k] 3/\Aw W (N+2) [.int .i64 hp, .string hn, .slice adh hts.length cph, .slice adb lvs.length cpb] 189/\Aw W tb [.pointer (some ⟨sp,0,none⟩)] 233/\Aw W ob [.int .i64 OH] 3):=λW hkW=>⟨((Aa HBz).1.kept (Aa HKo) (by simp)).kept hkW (by simp),((Aa HBz).2.1.kept (Aa HKo) (by simp)).kept hkW (by simp),((Aa HBz).2.2.1.kept (Aa HKo) (by simp)).kept hkW (by simp),((Aa HBz).2.2.2.kept (Aa HKo) (by simp)).kept hkW (by simp),(Aa HBo).kept hkW (by simp)⟩
  clear HSa HKz HBz HK2 HKo HBo HKw HBc;obtain⟨SB,hSB⟩:∃SB,w3.heap.size=SB:=⟨_,rfl⟩;have HSB:=Ab hSB;have HK4:=Ab ((Ac.refl [] w3).alloc (.cells [.slice none 0 0].toArray 137));have HB4:=Ab (Aw.new w3 [.slice none 0 0] 137);refine wp_seq_k (λK1 hK1=>?_);have HKk:=Ab hK1;clear hK1;go_wp2;refine Aa HKk _ _ ?_;clear HKk K1;change Code.wp _ _ _ _ (w3.alloc (.cells [.slice none 0 0].toArray 137));generalize w3.alloc (.cells [.slice none 0 0].toArray 137)=w4 at HK4 HB4⊢;rw[hSB]at HB4;clear hSB;have t4:=(Aa HB3 w4 (Aa HK4)).2.2.2.1.cell 0;have o4:=(Aa HB3 w4 (Aa HK4)).2.2.2.2.cell 0;simp at t4 o4;have HBt:Hid (∀wz,Calls prog 141 #[.pointer (some ⟨sp,0,none⟩), .int .i64 0, .int .i64 OH, .agg (List.replicate 26 (Value.string ⟨#[]⟩)).toArray] wz λr w'=>∃b1 b2 b3 b4,r= .returned (.func (.func 176) #[] #[.pointer (some ⟨b1,0,none⟩), .pointer (some ⟨b2,0,none⟩), .pointer (some ⟨b3,0,none⟩), .pointer (some ⟨b4,0,none⟩)])/\
    Aw w' b1 [.pointer (some ⟨sp,0,none⟩)] 233/\Aw w' b2 (Ah (Bw Dr)) 243/\Aw w' b3 [.int .i64 ((0:Nat):Int)] 3/\Aw w' b4 [.int .i64 OH] 3/\(wz.heap.size<=b1/\wz.heap.size<=b2/\wz.heap.size<=b3/\wz.heap.size<=b4)/\Ac [] wz w'):=λwz=>by
   have h:=IV sp 0 OH (Ah (Bw Dr)) wz (Bl _) (Ez Dr rfl).1;rw[LX]at h⊢;exact h
  refine wp_seq_k (λK1 hK1=>?_);have HKk:=Ab hK1;clear hK1;refine wp_seq_k (λK5 hK5=>?_);have HK5:=Ab hK5;clear hK5;go_wp2_with fail
  refine(Aa HBt _).mono ?_;rintro _ w5 ⟨d1,d2,d3,d4,rfl,n1,n2,n3,n4,hds,k5⟩;have HK35:Hid (Ac [] w3 w5):=(Aa HK4).trans k5;have HB5:=Ab ((Aa HB4).kept k5 (by simp));have hs5:=k5.size;have hs4:=(Aa HK4).size;have hit:=Ko sp (Al r) s (Cf r++C2 r) w3 (Aa HS3) OH (by rw[<-Aa HOH,am];omega) (Cf r) 0 Dr d1 d2 d3 d4 w5 [SB] C3.start (by omega) (by rw[<-Aa HOH,List.take_left,dZ]) ⟨Aa HK35,n1,n2,n3,n4,λq hq=>by
   have hb:=(Aa HB4).lt
   have hsb:=Aa HSB
   obtain⟨g1,g2,g3,g4⟩:=hds
   simp only[ae]at hq
   subst hq
   exact⟨by omega,by omega,by omega,by omega,by omega,by omega⟩⟩
  have HIn:Hid (ZP w3 k (KA (Al r) s) r s [] [SB] w5):=⟨Aa HK35,[],none,0,by rw[Aa HSB];exact Aa HB5,ax _ _ _ _,λst hst=>by simp at hst,rfl,by rw[Aa HSB];rfl⟩;have hw3:w3.heap.size<=w5.heap.size:=(Aa HK35).size;have hSl:=(Aa HB5).lt;clear n1 n2 n3 n4 hds k5 HBt t4 o4 HB4 HB5 HK4;go_wp2;refine Aa HK5 _ _ ?_;clear HK5 K5;refine wp_block ?_;obtain⟨XS,hXS⟩:∃XS,AK (KA (Al r) s) (Al r) s (Cf r) Dr=XS:=⟨_,rfl⟩;have HXS:=Ab hXS;rw[hXS]at hit HFc;clear hXS;have HXl:Hid (∀x∈XS,x.length=26):=λx hx=>(Aa HFc x hx).1.len
  refine Jh (T:=243) (q:=9) rfl (enters_of func176 (by kernel_rfl) rfl) hit (λq hq=>by
   simp only[ae]at hq
   subst hq
   exact hSl) (ZP w3 k (KA (Al r) s) r s) (λ_ _ _ _=>False) (ZP.own hw3) (λ_ _ _ _ _ h _ _=>h) (Aa HIn) ?rassign ?rbody ?rdone ?rstop
  case rassign=>
   intro l' x W' K hx HK;obtain⟨hxl,hxo⟩:=Ez x (Aa HXl x hx);obtain⟨EX,hEX⟩:∃EX,Ah (Bw x)=EX:=⟨_,rfl⟩;rw[hEX]at hxl hxo HK⊢;have HXo:=Ab hxo;have HXl:=Ab hxl;(have HXa:Hid (EX.toArray.size=26):=by show _=_;simp[hxl]);clear hx hEX hxl hxo;simp only[Z3,Z4,Z5]at HK⊢;refine CN (by rfl) (KN Jk) ?_;go_wp2_with ((with_reducible show wpList _ _ _ ({dst:=_,op:=Op.store 243 _ _,type:=_,pos:=_,after:=_,guard:=_}::_) _ _);refine cq rfl 243 _ _ rfl W'.heap.size 0 EX.toArray (by rfl) (by rfl) ?_ ?_ ?_ ?_)
   ·have h:=(Aw.new W' (List.replicate 26 (Value.string ⟨#[]⟩)) 243).there;simp only[cc]at h;rw[Aa HXa];exact h
   ·rw[Aa HXa];exact Tryz.size243
   ·exact bK (Aa HXo)
   ·refine Aa HK _ (((Ac.refl [] W').alloc (.cells (List.replicate 26 (Value.string ⟨#[]⟩)).toArray 243)).putCells (b:=W'.heap.size) (Or.inr (au _)) EX 0) ?_;exact(Aw.new W' (List.replicate 26 (Value.string ⟨#[]⟩)) 243).setAll EX (by rw[Aa HXl];simp)
  case rbody=>
   intro l' Bx pre x rest' M W' hxs hi hM hBx hblk;(have hxm:x∈XS:=by rw[hxs];simp);obtain⟨heo,hfeq,hfcan⟩:=Aa HFc x hxm;obtain⟨sts,ad,cp,i1,i2,i3,i4,i5⟩:=hi.out;rw[Aa HSB]at i1 i2 i5;have HLs:Hid (sts.length<=100000):=by
    have h1:=congrArg List.length i4;rw[aD,aD]at h1;have h2:=Aa HNl;rw[<-Ps,Aa HXS,hxs]at h2;(have h3:J2 (KA (Al r) s) r s (pre++x::rest')=J2 (KA (Al r) s) r s pre++J2 (KA (Al r) s) r s (x::rest'):=by unfold J2;rw[cE,bm]);rw[h3,am]at h2;show sts.length<=100000;omega
   have HKw':Hid (Ac [] w W'):=(Aa HK3).trans hi.kept;have HBW:=Ab (Aa HB3 W' hi.kept);have HSo:Hid (J2 (KA (Al r) s) r s (pre++[x])=J2 (KA (Al r) s) r s pre++if(!Fq s (AI x r.head)&& !(AK (KA (Al r) s) (Al r) s (C2 r) x).isEmpty)=true then[AI x r.head] else[]):=TU _ _ _ _ _;have HC7:=Ab (Aa HBf Bx (Bw x) W' (Aa HKw') (Gw heo) hblk);have HC8:=Ab (λg wz hk hpf=>Aa HHs g (hts.map (Bn (Bw x))) (AI x r.head) wz hk (by rw[aD]) hpf hfeq hfcan);(have HC9:Hid (∀wz,Ac [] W' wz->Calls prog 197 #[.pointer (some ⟨sp,0,none⟩), .int .i64 OH, .int .i64 (Cf r++C2 r).length, .agg (Ah (Bw x)).toArray] wz λr' w'=>∃(y:List cL) (B:Bool),r'= .returned (.tuple #[.agg (Ah (Bw y)).toArray, .bool B])/\y.length=26/\B= !(AK (KA (Al r) s) (Al r) s (C2 r) x).isEmpty/\Ac [] wz w'):=λwz hk=>(V5 sp (Al r) s (Cf r++C2 r) OH (Cf r++C2 r).length (C2 r) x wz ((Aa HS3).kept (hi.kept.trans hk)) heo (by rw[<-Aa HOH,am];omega) (au _) (by rw[dv,<-Aa HOH,List.drop_left])).mono λr' w' ⟨y,B,h1,h2,h3,_,h5⟩=>⟨y,B,h1,h2,h3,h5⟩);have HI0:=Ab hi;have HFe:=Ab hfeq;have HLx:=Ab (Gw heo);have HBl:=Ab hblk;have H1:=Ab i1;have H2:=Ab i2;have H3:=Ab i3;have H4:=Ab i4;have H5:=Ab i5;clear hi hxs hM hblk heo hfeq hfcan i1 i2 i3 i4 i5 hxm;obtain⟨EX,hEX⟩:∃EX,Ah (Bw x)=EX:=⟨_,rfl⟩;have HEX:=Ab hEX;rw[hEX]at HC9 HBl;simp only[hEX];(have HXe:Hid (EX.length=26):=by show _=_;rw[<-hEX];unfold Ah;rw[aD];exact Aa HLx);clear hEX;obtain⟨HF,hHF⟩:∃HF,Fq s (AI x r.head)=HF:=⟨_,rfl⟩;rw[hHF]at HSo HC8;clear hHF;obtain⟨RE,hRE⟩:∃RE,(AK (KA (Al r) s) (Al r) s (C2 r) x).isEmpty=RE:=⟨_,rfl⟩;rw[hRE]at HSo HC9;clear hRE;obtain⟨FA,hFA⟩:∃FA,AI x r.head=FA:=⟨_,rfl⟩;rw[hFA]at HSo HFe;clear hFA;obtain⟨VL,hVL⟩:∃VL,(Cf r++C2 r).length=VL:=⟨_,rfl⟩;have HVL2:=Ab hVL;rw[hVL]at HC9 HVl;clear hVL;simp only[Z3,Z4,Z5];have x0:=(Aa HBW).2.2.1.cell 0;have x1:=(Aa HBW).2.2.1.cell 1;have x2:=(Aa HBW).2.2.1.cell 2;simp at x0 x1 x2;refine wpIn_block ?_;refine dW (λK7 hK7=>?_);have HK7:=Ab hK7;clear hK7;refine CN (by rfl) (by rintro ⟨_,_,h⟩;exact h) ?_;(go_wp2_with fail);refine(Aa HC7).mono ?_;rintro _ v7 ⟨g7,rfl,hpf7,k7⟩;have HK7a:=Ab (k7.alloc (.cells [.string hn, .slice (some ⟨g7,0,none⟩) hts.length hts.length].toArray 104));have HBh:=Ab (Aw.new v7 [.string hn, .slice (some ⟨g7,0,none⟩) hts.length hts.length] 104);have HPf:Hid (DW (v7.alloc (.cells [.string hn, .slice (some ⟨g7,0,none⟩) hts.length hts.length].toArray 104)) ⟨⟨hn,hts.map (Bn (Bw x))⟩, .slice (some ⟨g7,0,none⟩) hts.length hts.length⟩):=hpf7.kept ((Ac.refl [] v7).alloc _);clear HC7 hpf7 k7 x0 x1 x2;obtain⟨TS,hTS⟩:∃TS,hts.map (Bn (Bw x))=TS:=⟨_,rfl⟩;(have HTl:Hid (TS.length=hts.length):=by show _=_;rw[<-hTS,aD]);rw[hTS]at HPf HC8 HFe;clear hTS;go_wp2;refine Aa HK7 _ _ ?_;clear HK7 K7;change Code.wpIn _ _ _ _ _ _ (v7.alloc (.cells [.string hn, .slice (some ⟨g7,0,none⟩) hts.length hts.length].toArray 104));generalize v7.alloc (.cells [.string hn, .slice (some ⟨g7,0,none⟩) hts.length hts.length].toArray 104)=v8 at HK7a HBh HPf⊢;generalize v7.heap.size=HB at HBh⊢;have HS8:Hid (∀wz,Ac [] v8 wz->Ac [] v8 wz/\wz.cell? ⟨N,0,none⟩=some (.pointer (some ⟨cb,0,none⟩))/\wz.cell? ⟨HB,0,none⟩=some (.string hn)/\wz.cell? ⟨HB,1,none⟩=some (.slice (some ⟨g7,0,none⟩) hts.length hts.length)):=by
    intro wz hkz;have h0:=((Aa HBW).1.kept ((Aa HK7a).trans hkz) (by simp)).cell 0;have h1:=((Aa HBh).kept hkz (by simp)).cell 0;have h2:=((Aa HBh).kept hkz (by simp)).cell 1;simp at h0 h1 h2;exact⟨hkz,h0,h1,h2⟩
   have HHS:=Ab (Aa HS8 v8.drew (Ac.refl [] v8).drew);refine dW (λK8 hK8=>?_);have HK8:=Ab hK8;clear hK8;refine dW (λK1 hK1=>?_);have HKk1:=Ab hK1;clear hK1;refine DA 5 (λwz=>Ac [] v8 wz/\wz.cell? ⟨N,0,none⟩=some (.pointer (some ⟨cb,0,none⟩))/\wz.cell? ⟨HB,0,none⟩=some (.string hn)/\wz.cell? ⟨HB,1,none⟩=some (.slice (some ⟨g7,0,none⟩) hts.length hts.length)) (by kernel_rfl) (by rfl) (by rintro ⟨_,_,h⟩;exact h) ?_;refine CF.takeH (i:=0) (v:= .pointer (some ⟨cb,0,none⟩)) rfl (by kernel_rfl) (by kernel_rfl) (by kernel_rfl) (by decide) (λ_ _ _ h=>h) (Aa HHS) (Or.inl ⟨by rfl,?_⟩) ?_
   ·(intro wz hSw;obtain⟨z0,z1,z2,z3⟩:=hSw;go_simp)
   simp only[Act.put,Z3,Z4,Z5];refine CF.takeH (i:=1) (v:= .pointer (some ⟨cb,0,none⟩)) rfl (by kernel_rfl) (by kernel_rfl) (by kernel_rfl) (by decide) (λ_ _ _ h=>h) (Aa HHS) (Or.inl ⟨by rfl,?_⟩) ?_
   ·(intro wz hSw;obtain⟨z0,z1,z2,z3⟩:=hSw;go_simp)
   simp only[Act.put,Z3,Z4,Z5];refine CF.takeH (i:=2) (v:= .pointer (some ⟨cb,1,none⟩)) rfl (by kernel_rfl) (by kernel_rfl) (by kernel_rfl) (by decide) (λ_ _ _ h=>h) (Aa HHS) (Or.inl ⟨by rfl,?_⟩) ?_
   ·(intro wz hSw;obtain⟨z0,z1,z2,z3⟩:=hSw;go_simp)
   simp only[Act.put,Z3,Z4,Z5];refine CF.takeH (i:=3) (v:= .agg #[.string hn, .slice (some ⟨g7,0,none⟩) hts.length hts.length]) rfl (by kernel_rfl) (by kernel_rfl) (by kernel_rfl) (by decide) (λ_ _ _ h=>h) (Aa HHS) (Or.inl ⟨by rfl,?_⟩) ?_
   ·(intro wz hSw;obtain⟨z0,z1,z2,z3⟩:=hSw;go_simp)
   simp only[Act.put,Z3,Z4,Z5];refine CF.one (i:=4) (by kernel_rfl) rfl (λK hK=>?_)
   go_simp
   refine(Aa HC8 g7 _ ((Aa HKw').trans ((Aa HK7a).trans (Ac.refl [] v8).drew)) ((Aa HPf).kept (Ac.refl [] v8).drew)).mono ?_;rintro _ v9 ⟨rfl,k9⟩;have HK9:Hid (Ac [] v8 v9):=(Ac.refl [] v8).drew.trans k9;refine hK.out _ _ (λ_=>Aa HS8 _ (Aa HK9)) ?_;clear hK K k9;refine CF.done (by kernel_rfl) ?_ _
   try simp only[Act.put,Z3,Z4,Z5]
   refine Aa HKk1 _ _ ?_;clear HKk1 K1 HHS HC8;have HKW9:Hid (Ac [] W' v9):=(Aa HK7a).trans (Aa HK9);have HGo:Hid (∀(a:Act) (wz:World),Ac [] W' wz->(!HF&& !RE)=false->Tz (ZP w3 k (KA (Al r) s) r s) (λ_ _ _ _=>False) (pre++[x]) M W' .normal a wz):=by
    intro a wz hkz hb;have hi2:=BH (ZP.own (au w3.heap.size)) (s:=(pre,M)) (Aa HI0) hkz;obtain⟨sts',ad',cp',g1,g2,g3,g4,g5⟩:=hi2.out;refine⟨hkz.mono (by simp),M,⟨hi2.kept,sts',ad',cp',g1,g2,g3,?_,g5⟩,λq hq=>⟨Or.inl hq,?_⟩⟩
    ·rw[g4,Aa HSo,hb,if_neg (by simp),aX]
    ·have hsz:=hkz.size;rw[Aa H5]at hq;rcases aj.1 hq with rfl|hq
     ·have:=(Aa H1).lt;omega
     ·have:=((Aa H2).lt q (by simpa using hq)).2;omega
   cases HF with
   |true=>
    refine wpIn_cond_true rfl (wpIn_exit ?_);exact Aa HGo ⟨#[],[]⟩ _ (Aa HKW9) (by simp)
   |false=>
    refine wpIn_cond_false rfl (wpIn_skip ?_);refine Aa HK8 _ _ ?_;clear HK8 K8;have HSs:Hid (∃kb ko bv og oc,Aw W' sp [.pointer (some ⟨kb,ko,none⟩),bv, .slice og VL oc] 237):=by
     obtain⟨kb,ko,bad,bcp,lvs',oad',ocp',sad',scp',fs',h1,_⟩:=((Aa HS3).kept (Aa HI0).kept).at_;have hb:=h1.blk;rw[LK,Aa HVL2]at hb;exact⟨kb,ko,_,oad',ocp',hb⟩
    obtain⟨kb,ko,bv,og,oc,hsb⟩:=Aa HSs;have HSb:=Ab hsb;clear hsb HSs;have HS9:Hid (∀wz,Ac [] v9 wz->wz.rangeAt Bx 0 EX/\Ac [] v9 wz/\wz.cell? ⟨tb,0,none⟩=some (.pointer (some ⟨sp,0,none⟩))/\wz.cell? ⟨ob,0,none⟩=some (.int .i64 OH)/\wz.cell? ⟨sp,2,none⟩=some (.slice og VL oc)):=by
     intro wz hkz;have hk:=(Aa HKW9).trans hkz;have h0:=((Aa HBW).2.2.2.1.kept hk (by simp)).cell 0;have h1:=((Aa HBW).2.2.2.2.kept hk (by simp)).cell 0;have h2:=((Aa HSb).kept hk (by simp)).cell 2;simp at h0 h1 h2;exact⟨((Aa HBl).kept hk (by simp)).range,hkz,h0,h1,h2⟩
    refine dW (λK9 hK9=>?_);have HK9k:=Ab hK9;clear hK9;have HE9:Hid (∀(y13 y14 y15 y16 y17 y18 y19 y20 y21 y22 y23 y24 y25 y26 y27 y28 y29 y30 y31 y32 y33 y34 y35 y36 y37 y38 y39 y40 y41 y42 y43 y44 y45 y46 y47 y48 y49 y50 y51 y52 y53 y54 y55 y56 y57 y58 y59 y60 y61 y62 y63 y64 y65 y66 y67 y68 y69 y70:Value) (WB:Nat) (B:Bool) (y:List cL) (wz:World),Ac [] v9 wz->y.length=26->Aw wz WB (Ah (Bw y)) 243->B= !RE->K9 ⟨#[.pointer (some ⟨cb,0,none⟩), .int .i64 k, .pointer (some ⟨N,0,none⟩), .pointer (some ⟨N+1,0,none⟩), .slice none 0 0, .pointer (some ⟨N+2,0,none⟩), .pointer (some ⟨tb,0,none⟩), .pointer (some ⟨ob,0,none⟩), .pointer (some ⟨SB,0,none⟩), .pointer (some ⟨Bx,0,none⟩), .pointer (some ⟨HB,0,none⟩), .pointer (some ⟨WB,0,none⟩), .bool B,y13,y14,y15,y16,y17,y18,y19,y20,y21,y22,y23,y24,y25,y26,y27,y28,y29,y30,y31,y32,y33,y34,y35,y36,y37,y38,y39,y40,y41,y42,y43,y44,y45,y46,y47,y48,y49,y50,y51,y52,y53,y54,y55,y56,y57,y58,y59,y60,y61,y62,y63,y64,y65,y66,y67,y68,y69,y70],[]⟩ wz):=by
     intro y13 y14 y15 y16 y17 y18 y19 y20 y21 y22 y23 y24 y25 y26 y27 y28 y29 y30 y31 y32 y33 y34 y35 y36 y37 y38 y39 y40 y41 y42 y43 y44 y45 y46 y47 y48 y49 y50 y51 y52 y53 y54 y55 y56 y57 y58 y59 y60 y61 y62 y63 y64 y65 y66 y67 y68 y69 y70 WB B y wz hkz hyl hWB hB;refine Aa HK9k _ _ ?_;clear HK9k K9;have HKz:=Ab hkz;have HyL:=Ab hyl;have HWB:=Ab hWB;have HKWz:Hid (Ac [] W' wz):=(Aa HKW9).trans hkz;clear hkz hyl hWB;refine dW (λK1 hK1=>?_);have HKk1:=Ab hK1;clear hK1;refine CN (by rfl) (by rintro ⟨_,_,h⟩;exact h) ?_;go_wp2;refine Aa HKk1 _ _ ?_;clear HKk1 K1;cases RE with
     |true=>
      subst hB;refine wpIn_cond_false rfl (wpIn_skip ?_);exact Aa HGo ⟨#[],[]⟩ _ (Aa HKWz) (by simp)
     |false=>
      subst hB;refine wpIn_cond_true rfl ?_;have HC11:=Ab (λwy (hk:Ac [] wz wy)=>Aa HNe WB (Bw y) wy ((Aa HKw').trans ((Aa HKWz).trans hk)) (by unfold Bw;rw[aD];exact Aa HyL) ((Aa HWB).kept hk (by simp)));obtain⟨SL,hSL⟩:∃SL,sts.length=SL:=⟨_,rfl⟩;have HSL:=Ab hSL;have HBs:Hid (∀wy,Ac [] wz wy->Aw wy SB [.slice ad SL cp] 137/\Aw wy HB [.string hn, .slice (some ⟨g7,0,none⟩) hts.length hts.length] 104/\Aw wy (N+1) [.int .i64 k] 3/\Aw wy (N+2) [.int .i64 hp, .string hn, .slice adh hts.length cph, .slice adb lvs.length cpb] 189):=by
       intro wy hk;have hkW:=(Aa HKWz).trans hk;have h0:=(Aa H1).kept hkW (by simp);rw[hSL]at h0;exact⟨h0,(Aa HBh).kept (((Aa HK9).trans (Aa HKz)).trans hk) (by simp),(Aa HBW).2.1.kept hkW (by simp),(Aa HBW).2.2.1.kept hkW (by simp)⟩
      have HSt:Hid (∀wy,Aw wy SB [.slice ad SL cp] 137/\Aw wy HB [.string hn, .slice (some ⟨g7,0,none⟩) hts.length hts.length] 104/\Aw wy (N+1) [.int .i64 k] 3/\Aw wy (N+2) [.int .i64 hp, .string hn, .slice adh hts.length cph, .slice adb lvs.length cpb] 189->wy.cell? ⟨SB,0,none⟩=some (.slice ad SL cp)/\wy.cell? ⟨HB,0,none⟩=some (.string hn)/\wy.cell? ⟨HB,1,none⟩=some (.slice (some ⟨g7,0,none⟩) hts.length hts.length)/\wy.cell? ⟨N+1,0,none⟩=some (.int .i64 k)/\wy.cell? ⟨N+2,3,none⟩=some (.slice adb lvs.length cpb)):=by
       rintro wy ⟨b0,b1,b2,b3⟩;have h0:=b0.cell 0;have h1:=b1.cell 0;have h2:=b1.cell 1;have h3:=b2.cell 0;have h4:=b3.cell 3;simp at h0 h1 h2 h3 h4;exact⟨h0,h1,h2,h3,h4⟩
      clear hSL;have HHS:=Ab (Aa HSt wz.drew (Aa HBs _ (Ac.refl [] wz).drew));refine DA 9 (λwy=>wy.cell? ⟨SB,0,none⟩=some (.slice ad SL cp)/\wy.cell? ⟨HB,0,none⟩=some (.string hn)/\wy.cell? ⟨HB,1,none⟩=some (.slice (some ⟨g7,0,none⟩) hts.length hts.length)/\wy.cell? ⟨N+1,0,none⟩=some (.int .i64 k)/\wy.cell? ⟨N+2,3,none⟩=some (.slice adb lvs.length cpb)) (by kernel_rfl) (by rfl) (by rintro ⟨_,_,h⟩;exact h) ?_;refine CF.take (i:=0) (v:= .slice ad SL cp) rfl (by kernel_rfl) (by kernel_rfl) (by kernel_rfl) (by kernel_rfl) (λ_ _ _ h=>h) (Aa HHS) (Or.inl ⟨by rfl,?_⟩) ?_
      ·(intro wz hSw;obtain⟨z0,z1,z2,z3,z4⟩:=hSw;go_simp)
      simp only[Act.put,Z3,Z4,Z5];refine CF.take (i:=1) (v:= .agg #[.string hn, .slice (some ⟨g7,0,none⟩) hts.length hts.length]) rfl (by kernel_rfl) (by kernel_rfl) (by kernel_rfl) (by kernel_rfl) (λ_ _ _ h=>h) (Aa HHS) (Or.inl ⟨by rfl,?_⟩) ?_
      ·(intro wz hSw;obtain⟨z0,z1,z2,z3,z4⟩:=hSw;go_simp)
      simp only[Act.put,Z3,Z4,Z5];refine CF.take (i:=2) (v:= .int .i64 k) rfl (by kernel_rfl) (by kernel_rfl) (by kernel_rfl) (by kernel_rfl) (λ_ _ _ h=>h) (Aa HHS) (Or.inl ⟨by rfl,?_⟩) ?_
      ·(intro wz hSw;obtain⟨z0,z1,z2,z3,z4⟩:=hSw;go_simp)
      simp only[Act.put,Z3,Z4,Z5];refine CF.take (i:=3) (v:= .pointer (some ⟨N+2,3,none⟩)) rfl (by kernel_rfl) (by kernel_rfl) (by kernel_rfl) (by kernel_rfl) (λ_ _ _ h=>h) (Aa HHS) (Or.inl ⟨by rfl,?_⟩) ?_
      ·(intro wz hSw;obtain⟨z0,z1,z2,z3,z4⟩:=hSw;go_simp)
      simp only[Act.put,Z3,Z4,Z5];refine CF.take (i:=4) (v:= .slice adb lvs.length cpb) rfl (by kernel_rfl) (by kernel_rfl) (by kernel_rfl) (by kernel_rfl) (λ_ _ _ h=>h) (Aa HHS) (Or.inl ⟨by rfl,?_⟩) ?_
      ·(intro wz hSw;obtain⟨z0,z1,z2,z3,z4⟩:=hSw;go_simp)
      simp only[Act.put,Z3,Z4,Z5];refine CF.one (i:=5) (by kernel_rfl) rfl (λK hK=>?_)
      go_simp
      refine(Aa HC11 _ (Ac.refl [] wz).drew).mono ?_;rintro _ u1 ⟨nad,nn,ncp,rfl,k1'⟩;have k1:Ac [] wz u1:=(Ac.refl [] wz).drew.trans k1';refine hK.out _ _ (λ_=>Aa HSt _ (Aa HBs _ k1)) ?_;clear hK K
      try simp only[Act.put,Z3,Z4,Z5]
      have HHS1:=Ab (Aa HSt _ (Aa HBs _ k1));refine CF.take (i:=6) (v:= .agg #[.string hn, .slice (some ⟨g7,0,none⟩) hts.length hts.length, .int .i64 k, .slice nad nn ncp]) rfl (by kernel_rfl) (by kernel_rfl) (by kernel_rfl) (by kernel_rfl) (λ_ _ _ h=>h) (Aa HHS1) (Or.inl ⟨by rfl,?_⟩) ?_
      ·(intro wz hSw;obtain⟨z0,z1,z2,z3,z4⟩:=hSw;go_simp)
      simp only[Act.put,Z3,Z4,Z5];refine CF.one (i:=7) (by kernel_rfl) rfl (λK hK=>?_)
      go_simp
      have k2:=k1.alloc (.cells #[.string hn, .slice (some ⟨g7,0,none⟩) hts.length hts.length, .int .i64 k, .slice nad nn ncp] 176);refine hK.out _ _ (λ_=>Aa HSt _ (Aa HBs _ k2)) ?_;clear hK K
      try simp only[Act.put,Z3,Z4,Z5]
      have hkW1:Ac [] W' u1:=(Aa HKWz).trans k1;have hrow1:u1.ownsRow SB 176 4 (.slice ad SL cp) SL (sts.flatMap (NT k)):=by
       have h:=Ad (Aa H2) hkW1 (by simp);rw[Aa HSL]at h;exact h
      (have hSBu:SB+1<=u1.heap.size:=by have h1:=(Aa H1).lt;have h2:=hkW1.size;omega);(have hSL1:SL<=100000:=by have:=Aa HLs;have:=Aa HSL;omega);refine CF.one (i:=8) (by kernel_rfl) rfl (λK hK=>?_);refine dG _ (by rfl) _ _ _ (by rfl) SB 176 i0 _ 4 72 underlying137 hi0 hz0 hz1 hz2 rfl (by omega) (.slice ad SL cp) SL (sts.flatMap (NT k)) (by rfl) (ah hrow1 _)
       ⟨u1.heap.size,0,none⟩ 1 1 [.string hn, .slice (some ⟨g7,0,none⟩) hts.length hts.length, .int .i64 k, .slice nad nn ncp] (by rfl) (by rfl) (aF (cs:=#[.string hn, .slice (some ⟨g7,0,none⟩) hts.length hts.length, .int .i64 k, .slice nad nn ncp]) (t:=176) (fr:=(0,0)) (aS u1 _)) (by simp[Value.oneCell'])
       (by omega) (by unfold maxLen;omega) (by omega) (by simp;omega) (u1.heap.size+1) (by simp) ?_
      intro gg cap u3 hown3 hgrow hat3 hlt3;(have hap:∀{b:Nat} {cs:List Value} {t:TypeId},Aw u1 b cs t->176≠t->(Value.slice ad SL cp).ownBlock≠some b:=λhb hne=>AO hrow1 hb hne);have hb1:=Aa HBs u1 k1;have hb3:Aw u3 SB [.slice ad SL cp] 137/\Aw u3 HB [.string hn, .slice (some ⟨g7,0,none⟩) hts.length hts.length] 104/\Aw u3 (N+1) [.int .i64 k] 3/\Aw u3 (N+2) [.int .i64 hp, .string hn, .slice adh hts.length cph, .slice adb lvs.length cpb] 189:=⟨(hb1.1.alloc _).grown hgrow (hap hb1.1 (by decide)),(hb1.2.1.alloc _).grown hgrow (hap hb1.2.1 (by decide)),(hb1.2.2.1.alloc _).grown hgrow (hap hb1.2.2.1 (by decide)),(hb1.2.2.2.alloc _).grown hgrow (hap hb1.2.2.2 (by decide))⟩;have hSB3:=hb3.1;have kM:Ac (SB::(Value.slice ad SL cp).ownBlock.toList) W' u3:=((hkW1.mono (by simp)).alloc (.cells #[.string hn, .slice (some ⟨g7,0,none⟩) hts.length hts.length, .int .i64 k, .slice nad nn ncp] 176)).grown hgrow (λq hq=>Or.inl (be _ (by simpa using hq)));refine hK.out _ _ (λ_=>Aa HSt _ hb3) ?_;clear hK K
      try simp only[Act.put,Z3,Z4,Z5]
      have c8:=hSB3.cell 0;have f8:=hSB3.frozen 0;simp at c8;refine CF.one (i:=9) (by kernel_rfl) rfl (λK hK=>?_)
      go_simp
      refine hK.out _ _ (λh=>absurd rfl h) ?_;clear hK K;refine CF.done (by kernel_rfl) ?_ _;have hM5:=Aa H5;rw[Aa HSL]at hM5;have kM4:Ac M W' (u3.setCell ⟨SB,0,none⟩ (.slice (some ⟨gg,0,none⟩) (SL+1) cap)):=by
       rw[hM5];exact kM.setCell (p:=⟨SB,0,none⟩) (Or.inl (bC ..)) _
      have hMge:∀q∈M,SB<=q:=by
       intro q hq;rw[hM5]at hq;rcases aj.1 hq with rfl|hq
       ·exact au _
       ·exact(hrow1.lt q (by simpa using hq)).1
      (have hset:∀{p:Fm},DW u3 p->DW (u3.setCell ⟨SB,0,none⟩ (.slice (some ⟨gg,0,none⟩) (SL+1) cap)) p:=fun{p} hp=>Ag (v:=p.tv) hp (AO (v1:=p.tv) hp hSB3 (by decide)) _);have hgr:∀{p:Fm},DW u1 p->DW u3 p:=fun{p} hp=>bS (v:=p.tv) (ah (v:=p.tv) hp _) hgrow (by
       cases hpo:p.tv.ownBlock with
       |none=>exact Or.inl rfl
       |some q=>exact Or.inr (λe=>Bt (v1:=p.tv) hp hrow1 (by decide) q hpo e.symm))
      have hPn:DW u1 ⟨⟨hn,TS⟩, .slice (some ⟨g7,0,none⟩) hts.length hts.length⟩:=(Aa HPf).kept (((Aa HK9).trans (Aa HKz)).trans k1);refine⟨kM4,SB::[gg],⟨(Aa HI0).kept.trans' kM4 (λq hq=>Or.inr (by have:=hMge q hq;have:=Aa HSB;omega)),sts++[⟨⟨⟨hn,TS⟩, .slice (some ⟨g7,0,none⟩) hts.length hts.length⟩, .slice nad nn ncp⟩],some ⟨gg,0,none⟩,cap,?_,?_,?_,?_,?_⟩,?_⟩
      ·rw[Aa HSB,am,Aa HSL];exact hSB3.set 0 _
      ·rw[Aa HSB,am,Aa HSL,aN];have h:=Ag hown3 (AO hown3 hSB3 (by decide)) (p:=⟨SB,0,none⟩) (.slice (some ⟨gg,0,none⟩) (SL+1) cap);exact h
      ·intro st hst;rcases aw.1 hst with h|h
       ·exact⟨hset (hgr (((Aa H3) st h).1.kept hkW1)),((Aa H3) st h).2⟩
       ·simp only[ae]at h;subst h;exact⟨hset (hgr hPn),by show TS.length<=1000;have:=Aa HTl;omega,nad,nn,ncp,rfl⟩
      ·rw[bm,Aa H4,Aa HSo,if_pos (by rfl),bm];simp only[aI,ec];rw[Aa HFe]
      ·rw[Aa HSB,am];rfl
      ·intro q hq;have h3:=hSB3.lt;rcases aj.1 hq with rfl|hq
       ·exact⟨Or.inl (by rw[hM5];exact bC ..),by simp;omega⟩
       ·simp only[ae]at hq;subst hq;have h4:=(hown3.lt q rfl).2;refine⟨?_,by simp;omega⟩;rcases hat3 with h|h
        ·exact Or.inl (by rw[hM5];exact be _ (by rw[h];simp))
        ·exact Or.inr (by have:=hkW1.size;omega)
    clear HK9k;have HHS:=Ab (Aa HS9 v9.drew (Ac.refl [] v9).drew);refine DA 15 (λwz=>wz.rangeAt Bx 0 EX/\Ac [] v9 wz/\wz.cell? ⟨tb,0,none⟩=some (.pointer (some ⟨sp,0,none⟩))/\wz.cell? ⟨ob,0,none⟩=some (.int .i64 OH)/\wz.cell? ⟨sp,2,none⟩=some (.slice og VL oc)) (by kernel_rfl) (by rfl) (by rintro ⟨_,_,h⟩;exact h) ?_;refine CF.takeH (i:=0) (v:= .pointer (some ⟨sp,0,none⟩)) rfl (by kernel_rfl) (by kernel_rfl) (by kernel_rfl) (by decide) (λ_ _ _ h=>h) (Aa HHS) (Or.inl ⟨by rfl,?_⟩) ?_
    ·(intro wz hSw;obtain⟨z0,z1,z2,z3,z4⟩:=hSw;go_simp)
    simp only[Act.put,Z3,Z4,Z5];refine CF.takeH (i:=1) (v:= .int .i64 OH) rfl (by kernel_rfl) (by kernel_rfl) (by kernel_rfl) (by decide) (λ_ _ _ h=>h) (Aa HHS) (Or.inl ⟨by rfl,?_⟩) ?_
    ·(intro wz hSw;obtain⟨z0,z1,z2,z3,z4⟩:=hSw;go_simp)
    simp only[Act.put,Z3,Z4,Z5];refine CF.takeH (i:=2) (v:= .pointer (some ⟨sp,0,none⟩)) rfl (by kernel_rfl) (by kernel_rfl) (by kernel_rfl) (by decide) (λ_ _ _ h=>h) (Aa HHS) (Or.inl ⟨by rfl,?_⟩) ?_
    ·(intro wz hSw;obtain⟨z0,z1,z2,z3,z4⟩:=hSw;go_simp)
    simp only[Act.put,Z3,Z4,Z5];refine CF.takeH (i:=3) (v:= .pointer (some ⟨sp,0,none⟩)) rfl (by kernel_rfl) (by kernel_rfl) (by kernel_rfl) (by decide) (λ_ _ _ h=>h) (Aa HHS) (Or.inl ⟨by rfl,?_⟩) ?_
    ·(intro wz hSw;obtain⟨z0,z1,z2,z3,z4⟩:=hSw;go_simp)
    simp only[Act.put,Z3,Z4,Z5];refine CF.takeH (i:=4) (v:= .pointer (some ⟨sp,2,none⟩)) rfl (by kernel_rfl) (by kernel_rfl) (by kernel_rfl) (by decide) (λ_ _ _ h=>h) (Aa HHS) (Or.inl ⟨by rfl,?_⟩) ?_
    ·(intro wz hSw;obtain⟨z0,z1,z2,z3,z4⟩:=hSw;go_simp)
    simp only[Act.put,Z3,Z4,Z5];refine CF.takeH (i:=5) (v:= .slice og VL oc) rfl (by kernel_rfl) (by kernel_rfl) (by kernel_rfl) (by decide) (λ_ _ _ h=>h) (Aa HHS) (Or.inl ⟨by rfl,?_⟩) ?_
    ·(intro wz hSw;obtain⟨z0,z1,z2,z3,z4⟩:=hSw;go_simp)
    simp only[Act.put,Z3,Z4,Z5];refine CF.takeH (i:=6) (v:= .int .i64 VL) rfl (by kernel_rfl) (by kernel_rfl) (by kernel_rfl) (by decide) (λ_ _ _ h=>h) (Aa HHS) (Or.inl ⟨by rfl,?_⟩) ?_
    ·(intro wz hSw;obtain⟨z0,z1,z2,z3,z4⟩:=hSw;go_simp)
    simp only[Act.put,Z3,Z4,Z5];refine CF.takeH (i:=7) (v:= .agg EX.toArray) rfl (by kernel_rfl) (by kernel_rfl) (by kernel_rfl) (by decide) (λ_ _ _ h=>h) (Aa HHS) (yieldsIf_load_mid (by rfl) 243 _ rfl Bx 0 (by rfl) EX _ (λwz hz=>hz.1) underlying243 rfl (by rw[Aa HXe];exact Tryz.size243)) ?_;simp only[Act.put,Z3,Z4,Z5];have hka:Ac [] v9 v9.drew:=(Ac.refl [] v9).drew;generalize v9.drew=x0 at hka HHS⊢;refine CF.two (i:=8) (j:=12) (by kernel_rfl) rfl rfl (λK hK=>?_) (λK hK=>?_)
    ·go_simp
     refine(Aa HC9 _ ((Aa HKW9).trans hka)).mono ?_;rintro _ x2 ⟨y,B,rfl,hyl,hB,k8'⟩;have HBb:=Ab hB;clear hB;have k8:Ac [] v9 x2:=hka.trans k8';refine hK.out _ _ (λ_=>Aa HS9 _ k8) ?_;clear hK K
     try simp only[Act.put,Z3,Z4,Z5]
     obtain⟨hyE,hyo⟩:=Ez y hyl;obtain⟨EY,hEY⟩:∃EY,Ah (Bw y)=EY:=⟨_,rfl⟩;have HEY:=Ab hEY;rw[hEY]at hyE hyo⊢;clear hEY;have HHS8:=Ab (Aa HS9 _ k8);refine CF.takeH (i:=9) (v:= .tuple #[.agg EY.toArray, .bool B]) rfl (by kernel_rfl) (by kernel_rfl) (by kernel_rfl) (by decide) (λ_ _ _ h=>h) (Aa HHS8) (Or.inl ⟨by rfl,?_⟩) ?_
     ·(intro wz hSw;obtain⟨z0,z1,z2,z3,z4⟩:=hSw;go_simp)
     simp only[Act.put,Z3,Z4,Z5];refine CF.takeH (i:=10) (v:= .agg EY.toArray) rfl (by kernel_rfl) (by kernel_rfl) (by kernel_rfl) (by decide) (λ_ _ _ h=>h) (Aa HHS8) (Or.inl ⟨by rfl,?_⟩) ?_
     ·(intro wz hSw;obtain⟨z0,z1,z2,z3,z4⟩:=hSw;go_simp)
     simp only[Act.put,Z3,Z4,Z5];refine CF.takeH (i:=11) (v:= .bool B) rfl (by kernel_rfl) (by kernel_rfl) (by kernel_rfl) (by decide) (λ_ _ _ h=>h) (Aa HHS8) (Or.inl ⟨by rfl,?_⟩) ?_
     ·(intro wz hSw;obtain⟨z0,z1,z2,z3,z4⟩:=hSw;go_simp)
     simp only[Act.put,Z3,Z4,Z5];refine CF.one (i:=12) (by kernel_rfl) rfl (λK hK=>?_)
     go_simp
     have k12:=k8.alloc (.cells (List.replicate 26 (Value.string ⟨#[]⟩)).toArray 243);refine hK.out _ _ (λ_=>Aa HS9 _ k12) ?_;clear hK K
     try simp only[Act.put,Z3,Z4,Z5]
     have hWB:=Aw.new x2 (List.replicate 26 (Value.string ⟨#[]⟩)) 243;have hge:v9.heap.size<=x2.heap.size:=k8.size;change CF _ _ _ _ _ _ _ _ _ (x2.alloc (.cells (List.replicate 26 (Value.string ⟨#[]⟩)).toArray 243));generalize x2.heap.size=WB at hWB hge⊢;generalize x2.alloc (.cells (List.replicate 26 (Value.string ⟨#[]⟩)).toArray 243)=x3 at k12 hWB⊢;clear k8;have k8:=k12;(have hya:EY.toArray.size=26:=by simp[hyE]);have hth:x3.there WB 0 EY.toArray.size:=by
      have h:=hWB.there;simp only[cc]at h;rw[hya];exact h
     have k13:=k8.putCells (b:=WB) (Or.inr hge) EY 0;have hW2:=hWB.setAll EY (by rw[hyE];simp);refine CF.one (i:=13) (by kernel_rfl) rfl (λK hK=>?_);rw[if_pos (by rfl)];refine wp_store_mid 243 _ _ rfl WB 0 EY.toArray (by rfl) (by rfl) hth (by rw[hya];exact Tryz.size243) (bK hyo) ?_;simp only[dt];refine hK.out _ _ (λ_=>Aa HS9 _ k13) ?_;clear hK K;generalize x3.setCells WB 0 EY=x4 at k13 hW2⊢
     try simp only[Act.put,Z3,Z4,Z5]
     refine CF.one (i:=14) (by kernel_rfl) rfl (λK hK=>?_)
     go_simp
     refine hK.out _ _ (λ_=>Aa HS9 _ k13) ?_;clear hK K;refine CF.done (by kernel_rfl) ?_ _
     try simp only[Act.put,Z3,Z4,Z5]
     exact Aa HE9 _ _ _ _ _ _ _ _ _ _ _ _ _ _ _ _ _ _ _ _ _ _ _ _ _ _ _ _ _ _ _ _ _ _ _ _ _ _ _ _ _ _ _ _ _ _ _ _ _ _ _ _ _ _ _ _ _ _ WB B y _ k13 hyl (by rw[Aa HEY];exact hW2) (Aa HBb)
    ·go_simp
     have k12:=hka.alloc (.cells (List.replicate 26 (Value.string ⟨#[]⟩)).toArray 243);refine hK.out _ _ (λ_=>Aa HS9 _ k12) ?_;clear hK K
     try simp only[Act.put,Z3,Z4,Z5]
     have hWB:=Aw.new x0 (List.replicate 26 (Value.string ⟨#[]⟩)) 243;have hge:v9.heap.size<=x0.heap.size:=hka.size;change CF _ _ _ _ _ _ _ _ _ (x0.alloc (.cells (List.replicate 26 (Value.string ⟨#[]⟩)).toArray 243));generalize x0.heap.size=WB at hWB hge⊢;generalize x0.alloc (.cells (List.replicate 26 (Value.string ⟨#[]⟩)).toArray 243)=x1 at k12 hWB⊢;refine CF.one (i:=8) (by kernel_rfl) rfl (λK hK=>?_)
     go_simp
     refine(Aa HC9 _ ((Aa HKW9).trans k12)).mono ?_;rintro _ x2 ⟨y,B,rfl,hyl,hB,k8'⟩;have HBb:=Ab hB;clear hB;have k8:Ac [] v9 x2:=k12.trans k8';have hWB:=hWB.kept k8' (by simp);refine hK.out _ _ (λ_=>Aa HS9 _ k8) ?_;clear hK K
     try simp only[Act.put,Z3,Z4,Z5]
     obtain⟨hyE,hyo⟩:=Ez y hyl;obtain⟨EY,hEY⟩:∃EY,Ah (Bw y)=EY:=⟨_,rfl⟩;have HEY:=Ab hEY;rw[hEY]at hyE hyo⊢;clear hEY;have HHS8:=Ab (Aa HS9 _ k8);refine CF.takeH (i:=9) (v:= .tuple #[.agg EY.toArray, .bool B]) rfl (by kernel_rfl) (by kernel_rfl) (by kernel_rfl) (by decide) (λ_ _ _ h=>h) (Aa HHS8) (Or.inl ⟨by rfl,?_⟩) ?_
     ·(intro wz hSw;obtain⟨z0,z1,z2,z3,z4⟩:=hSw;go_simp)
     simp only[Act.put,Z3,Z4,Z5];refine CF.takeH (i:=10) (v:= .agg EY.toArray) rfl (by kernel_rfl) (by kernel_rfl) (by kernel_rfl) (by decide) (λ_ _ _ h=>h) (Aa HHS8) (Or.inl ⟨by rfl,?_⟩) ?_
     ·(intro wz hSw;obtain⟨z0,z1,z2,z3,z4⟩:=hSw;go_simp)
     simp only[Act.put,Z3,Z4,Z5];refine CF.takeH (i:=11) (v:= .bool B) rfl (by kernel_rfl) (by kernel_rfl) (by kernel_rfl) (by decide) (λ_ _ _ h=>h) (Aa HHS8) (Or.inl ⟨by rfl,?_⟩) ?_
     ·(intro wz hSw;obtain⟨z0,z1,z2,z3,z4⟩:=hSw;go_simp)
     simp only[Act.put,Z3,Z4,Z5];(have hya:EY.toArray.size=26:=by simp[hyE]);have hth:x2.there WB 0 EY.toArray.size:=by
      have h:=hWB.there;simp only[cc]at h;rw[hya];exact h
     have k13:=k8.putCells (b:=WB) (Or.inr hge) EY 0;have hW2:=hWB.setAll EY (by rw[hyE];simp);refine CF.one (i:=13) (by kernel_rfl) rfl (λK hK=>?_);rw[if_pos (by rfl)];refine wp_store_mid 243 _ _ rfl WB 0 EY.toArray (by rfl) (by rfl) hth (by rw[hya];exact Tryz.size243) (bK hyo) ?_;simp only[dt];refine hK.out _ _ (λ_=>Aa HS9 _ k13) ?_;clear hK K;generalize x2.setCells WB 0 EY=x4 at k13 hW2⊢
     try simp only[Act.put,Z3,Z4,Z5]
     refine CF.one (i:=14) (by kernel_rfl) rfl (λK hK=>?_)
     go_simp
     refine hK.out _ _ (λ_=>Aa HS9 _ k13) ?_;clear hK K;refine CF.done (by kernel_rfl) ?_ _
     try simp only[Act.put,Z3,Z4,Z5]
     exact Aa HE9 _ _ _ _ _ _ _ _ _ _ _ _ _ _ _ _ _ _ _ _ _ _ _ _ _ _ _ _ _ _ _ _ _ _ _ _ _ _ _ _ _ _ _ _ _ _ _ _ _ _ _ _ _ _ _ _ _ _ WB B y _ k13 hyl (by rw[Aa HEY];exact hW2) (Aa HBb)
  case rdone=>
   intro D M' W2 hD hi hd _;obtain⟨sts,ad,cp,i1,i2,i3,i4,i5⟩:=hi.out;rw[Aa HSB]at i1 i2;obtain⟨SL,hSL⟩:∃SL,sts.length=SL:=⟨_,rfl⟩;have c8:=i1.cell 0;simp[hSL]at c8;have HFin:Hid (∀tmps:Array Value,tmps.getD 4 undef= .slice ad SL cp->QQ .ret ⟨tmps,[Gk D]⟩ W2):=by
    intro tmps h4;rw[<-Aa HQQ];have hmk:D3 w.heap.size [D] W2:=⟨by simp,λd hd'=>by simp only[ae]at hd';have:=(Aa HK3).size;omega,λd hd'=>by simp only[ae]at hd';rw[hd'];exact hd⟩;refine EH [D] W2 hmk (λw' hs=>?_);have hown:OwnFrom w.heap.size (fun(_:Unit) W=>W.ownsRow SB 176 4 (.slice ad sts.length cp) sts.length (sts.flatMap (NT k))/\(∀st∈sts,DW W st.f/\st.f.f.things.length<=1000/\∃a n c,st.n= .slice a n c)/\Ac [] w W):=CR (λ_ W W' M h kk hM=>⟨Ar h.1 kk (Gb hM h.1),λst hst=>⟨Ar (h.2.1 st hst).1 kk (Gb hM (h.2.1 st hst).1),(h.2.1 st hst).2⟩,Ge h.2.2 kk hM (au _)⟩);obtain⟨g1,g2,g3⟩:=hs.own hown (s:=()) hmk ⟨i2,i3,(Aa HK3).trans hi.kept⟩;refine⟨_,results_tmp rfl _ _ _,ad,cp,sts,by rw[h4,hSL],?_,Ai g1 (by have:=(Aa HK3).size;have:=Aa HSB;omega),g2,g3⟩;rw[i4,<-Aa HXS,Ps]
   clear i1 i2 i3 i4 i5 hSL hi hd hit;refine Aa HKk _ _ ?_;clear HKk;refine wp_seq_k (λK3 hK3=>?_);have HK3':=Ab hK3;clear hK3;go_wp2;refine Aa HK3' _ _ ?_;clear HK3' K3;refine wp_ret ?_;exact Aa HFin _ rfl
  case rstop=>
   intro D c pre M' W2 _ h _;exact h.elim
 clear HK2k;have HHS:=Ab (Aa HS2 wA.drew (Ac.refl [] wA).drew);refine CS 12 (λwz=>Ac [] wA wz/\wz.cell? ⟨N,0,none⟩=some (.pointer (some ⟨cb,0,none⟩))/\wz.cell? ⟨N+2,0,none⟩=some (.int .i64 hp)/\wz.cell? ⟨N+2,1,none⟩=some (.string hn)/\wz.cell? ⟨N+2,2,none⟩=some (.slice adh hts.length cph)/\wz.cell? ⟨N+2,3,none⟩=some (.slice adb lvs.length cpb)) (by kernel_rfl) ?_;refine CF.takeH (i:=0) (v:= .pointer (some ⟨cb,0,none⟩)) rfl (by kernel_rfl) (by kernel_rfl) (by kernel_rfl) (by decide) (λ_ _ _ h=>absurd h (Aa HQp _ _ _)) (Aa HHS) (Or.inl ⟨by rfl,?_⟩) ?_
 ·(intro wz hSw;obtain⟨z0,z1,z2,z3,z4,z5⟩:=hSw;go_simp)
 simp only[Act.put,Z3,Z4,Z5];refine CF.takeH (i:=1) (v:= .pointer (some ⟨cb,0,none⟩)) rfl (by kernel_rfl) (by kernel_rfl) (by kernel_rfl) (by decide) (λ_ _ _ h=>absurd h (Aa HQp _ _ _)) (Aa HHS) (Or.inl ⟨by rfl,?_⟩) ?_
 ·(intro wz hSw;obtain⟨z0,z1,z2,z3,z4,z5⟩:=hSw;go_simp)
 simp only[Act.put,Z3,Z4,Z5];refine CF.takeH (i:=2) (v:= .pointer (some ⟨cb,1,none⟩)) rfl (by kernel_rfl) (by kernel_rfl) (by kernel_rfl) (by decide) (λ_ _ _ h=>absurd h (Aa HQp _ _ _)) (Aa HHS) (Or.inl ⟨by rfl,?_⟩) ?_
 ·(intro wz hSw;obtain⟨z0,z1,z2,z3,z4,z5⟩:=hSw;go_simp)
 simp only[Act.put,Z3,Z4,Z5];refine CF.takeH (i:=3) (v:= .pointer (some ⟨N+2,3,none⟩)) rfl (by kernel_rfl) (by kernel_rfl) (by kernel_rfl) (by decide) (λ_ _ _ h=>absurd h (Aa HQp _ _ _)) (Aa HHS) (Or.inl ⟨by rfl,?_⟩) ?_
 ·(intro wz hSw;obtain⟨z0,z1,z2,z3,z4,z5⟩:=hSw;go_simp)
 simp only[Act.put,Z3,Z4,Z5];refine CF.takeH (i:=4) (v:= .slice adb lvs.length cpb) rfl (by kernel_rfl) (by kernel_rfl) (by kernel_rfl) (by decide) (λ_ _ _ h=>absurd h (Aa HQp _ _ _)) (Aa HHS) (Or.inl ⟨by rfl,?_⟩) ?_
 ·(intro wz hSw;obtain⟨z0,z1,z2,z3,z4,z5⟩:=hSw;go_simp)
 simp only[Act.put,Z3,Z4,Z5];refine CF.takeH (i:=5) (v:= .agg #[.int .i64 hp, .string hn, .slice adh hts.length cph, .slice adb lvs.length cpb]) rfl (by kernel_rfl) (by kernel_rfl) (by kernel_rfl) (by decide) (λ_ _ _ h=>absurd h (Aa HQp _ _ _)) (Aa HHS) (Or.inl ⟨by rfl,?_⟩) ?_
 ·(intro wz hSw;obtain⟨z0,z1,z2,z3,z4,z5⟩:=hSw;go_simp)
 simp only[Act.put,Z3,Z4,Z5];have hka:Ac [] wA wA.drew:=(Ac.refl [] wA).drew;generalize wA.drew=x0 at hka HHS⊢;refine CF.two (i:=6) (j:=10) (by kernel_rfl) rfl rfl (λK hK=>?_) (λK hK=>?_)
 ·go_simp
  refine(Aa HCT _ ((Aa HKw).trans hka)).mono ?_;rintro _ x1 ⟨ad6,cp6,rfl,hrow6,k1'⟩;have k1:Ac [] wA x1:=hka.trans k1';refine hK.out _ _ (λ_=>Aa HS2 _ k1) ?_;clear hK K
  try simp only[Act.put,Z3,Z4,Z5]
  refine CF.two (i:=7) (j:=10) (by kernel_rfl) rfl rfl (λK hK=>?_) (λK hK=>?_)
  ·go_simp
   refine(Aa HV1 ad6 cp6 _ hrow6).mono ?_;rintro _ x2 ⟨oad,ocp,rfl,hrow7,k2'⟩;have k2:Ac [] wA x2:=k1.trans k2';refine hK.out _ _ (λ_=>Aa HS2 _ k2) ?_;clear hK K
   try simp only[Act.put,Z3,Z4,Z5]
   have HHS2:=Ab (Aa HS2 _ k2);refine CF.takeH (i:=8) (v:= .agg #[.pointer (some ⟨cb,1,none⟩), .slice adb lvs.length cpb, .slice oad VR.length ocp]) rfl (by kernel_rfl) (by kernel_rfl) (by kernel_rfl) (by decide) (λ_ _ _ h=>absurd h (Aa HQp _ _ _)) (Aa HHS2) (Or.inl ⟨by rfl,?_⟩) ?_
   ·(intro wz hSw;obtain⟨z0,z1,z2,z3,z4,z5⟩:=hSw;go_simp)
   simp only[Act.put,Z3,Z4,Z5];refine CF.two (i:=9) (j:=10) (by kernel_rfl) rfl rfl (λK hK=>?_) (λK hK=>?_)
   ·go_simp
    have k3:=k2.alloc (.cells #[.pointer (some ⟨cb,1,none⟩), .slice adb lvs.length cpb, .slice oad VR.length ocp] 237);refine hK.out _ _ (λ_=>Aa HS2 _ k3) ?_;clear hK K
    try simp only[Act.put,Z3,Z4,Z5]
    have hsp3:=Aw.new x2 [.pointer (some ⟨cb,1,none⟩), .slice adb lvs.length cpb, .slice oad VR.length ocp] 237;have hr3:=ah hrow7 (.cells #[.pointer (some ⟨cb,1,none⟩), .slice adb lvs.length cpb, .slice oad VR.length ocp] 237);refine CF.one (i:=10) (by kernel_rfl) rfl (λK hK=>?_)
    go_simp
    have k4:=k3.alloc (.cells #[.pointer none] 233);refine hK.out _ _ (λ_=>Aa HS2 _ k4) ?_;clear hK K
    try simp only[Act.put,Z3,Z4,Z5]
    have htb4:=Aw.new (x2.alloc (.cells #[.pointer (some ⟨cb,1,none⟩), .slice adb lvs.length cpb, .slice oad VR.length ocp] 237)) [.pointer none] 233;have hsp4:=hsp3.alloc (.cells #[.pointer none] 233);have hr6_4:=ah hrow6 (.cells #[.pointer none] 233);have hr7_4:=ah hr3 (.cells #[.pointer none] 233);have hne:=show(x2.alloc (.cells #[.pointer (some ⟨cb,1,none⟩), .slice adb lvs.length cpb, .slice oad VR.length ocp] 237)).heap.size≠x2.heap.size from Nat.ne_of_gt hsp3.lt
    have hge:=k3.size
    try simp only[aP]at hsp4 htb4 hne hge
    generalize((x2.alloc (.cells #[.pointer (some ⟨cb,1,none⟩), .slice adb lvs.length cpb, .slice oad VR.length ocp] 237)).alloc (.cells #[.pointer none] 233))=WW at k4 hr7_4 hsp4 htb4⊢;have c6:=htb4.cell 0;have f6:=htb4.frozen 0;simp at c6;refine CF.one (i:=11) (by kernel_rfl) rfl (λK hK=>?_)
    go_simp
    have kz:=k4.setCell (p:=⟨x2.heap.size+1,0,none⟩) (Or.inr hge) (.pointer (some ⟨x2.heap.size,0,none⟩));refine hK.out _ _ (λ_=>Aa HS2 _ kz) ?_;clear hK K;refine CF.done (by kernel_rfl) ?_ _
    try simp only[Act.put,Z3,Z4,Z5]
    exact Aa HE2 _ _ _ _ _ _ _ _ _ _ _ _ _ _ _ _ oad ocp (x2.heap.size) (x2.heap.size+1) _ kz (Ag hr7_4 (AO hr7_4 htb4 (by decide)) _) (hsp4.set_other ⟨x2.heap.size+1,0,none⟩ hne _) (htb4.set 0 _)
   ·go_simp
    have k3:=k2.alloc (.cells #[.pointer none] 233);refine hK.out _ _ (λ_=>Aa HS2 _ k3) ?_;clear hK K
    try simp only[Act.put,Z3,Z4,Z5]
    have htb3:=Aw.new x2 [.pointer none] 233;have hr6_3:=ah hrow6 (.cells #[.pointer none] 233);have hr7_3:=ah hrow7 (.cells #[.pointer none] 233);refine CF.one (i:=9) (by kernel_rfl) rfl (λK hK=>?_)
    go_simp
    have k4:=k3.alloc (.cells #[.pointer (some ⟨cb,1,none⟩), .slice adb lvs.length cpb, .slice oad VR.length ocp] 237);refine hK.out _ _ (λ_=>Aa HS2 _ k4) ?_;clear hK K
    try simp only[Act.put,Z3,Z4,Z5]
    have hsp4:=Aw.new (x2.alloc (.cells #[.pointer none] 233)) [.pointer (some ⟨cb,1,none⟩), .slice adb lvs.length cpb, .slice oad VR.length ocp] 237;have hr4:=ah hr7_3 (.cells #[.pointer (some ⟨cb,1,none⟩), .slice adb lvs.length cpb, .slice oad VR.length ocp] 237);have htb4:=htb3.alloc (.cells #[.pointer (some ⟨cb,1,none⟩), .slice adb lvs.length cpb, .slice oad VR.length ocp] 237);have hne:=show x2.heap.size≠(x2.alloc (.cells #[.pointer none] 233)).heap.size from Nat.ne_of_lt htb3.lt
    have hge:=k2.size
    try simp only[aP]at hsp4 htb4 hne hge
    generalize((x2.alloc (.cells #[.pointer none] 233)).alloc (.cells #[.pointer (some ⟨cb,1,none⟩), .slice adb lvs.length cpb, .slice oad VR.length ocp] 237))=WW at k4 hr4 hsp4 htb4⊢;have c6:=htb4.cell 0;have f6:=htb4.frozen 0;simp at c6;refine CF.one (i:=11) (by kernel_rfl) rfl (λK hK=>?_)
    go_simp
    have kz:=k4.setCell (p:=⟨x2.heap.size,0,none⟩) (Or.inr hge) (.pointer (some ⟨x2.heap.size+1,0,none⟩));refine hK.out _ _ (λ_=>Aa HS2 _ kz) ?_;clear hK K;refine CF.done (by kernel_rfl) ?_ _
    try simp only[Act.put,Z3,Z4,Z5]
    exact Aa HE2 _ _ _ _ _ _ _ _ _ _ _ _ _ _ _ _ oad ocp (x2.heap.size+1) (x2.heap.size) _ kz (Ag hr4 (AO hr4 htb4 (by decide)) _) (hsp4.set_other ⟨x2.heap.size,0,none⟩ hne _) (htb4.set 0 _)
  ·go_simp
   have k2:=k1.alloc (.cells #[.pointer none] 233);refine hK.out _ _ (λ_=>Aa HS2 _ k2) ?_;clear hK K
   try simp only[Act.put,Z3,Z4,Z5]
   have htb2:=Aw.new x1 [.pointer none] 233;have hr6_2:=ah hrow6 (.cells #[.pointer none] 233);refine CF.one (i:=7) (by kernel_rfl) rfl (λK hK=>?_)
   go_simp
   refine(Aa HV1 ad6 cp6 _ hr6_2).mono ?_;rintro _ x3 ⟨oad,ocp,rfl,hrow7,k3'⟩;have k3:Ac [] wA x3:=k2.trans k3';refine hK.out _ _ (λ_=>Aa HS2 _ k3) ?_;clear hK K
   try simp only[Act.put,Z3,Z4,Z5]
   have htb3:=htb2.kept k3' (by simp);have HHS3:=Ab (Aa HS2 _ k3);refine CF.takeH (i:=8) (v:= .agg #[.pointer (some ⟨cb,1,none⟩), .slice adb lvs.length cpb, .slice oad VR.length ocp]) rfl (by kernel_rfl) (by kernel_rfl) (by kernel_rfl) (by decide) (λ_ _ _ h=>absurd h (Aa HQp _ _ _)) (Aa HHS3) (Or.inl ⟨by rfl,?_⟩) ?_
   ·(intro wz hSw;obtain⟨z0,z1,z2,z3,z4,z5⟩:=hSw;go_simp)
   simp only[Act.put,Z3,Z4,Z5];refine CF.one (i:=9) (by kernel_rfl) rfl (λK hK=>?_)
   go_simp
   have k4:=k3.alloc (.cells #[.pointer (some ⟨cb,1,none⟩), .slice adb lvs.length cpb, .slice oad VR.length ocp] 237);refine hK.out _ _ (λ_=>Aa HS2 _ k4) ?_;clear hK K
   try simp only[Act.put,Z3,Z4,Z5]
   have hsp4:=Aw.new x3 [.pointer (some ⟨cb,1,none⟩), .slice adb lvs.length cpb, .slice oad VR.length ocp] 237;have hr4:=ah hrow7 (.cells #[.pointer (some ⟨cb,1,none⟩), .slice adb lvs.length cpb, .slice oad VR.length ocp] 237);have htb4:=htb3.alloc (.cells #[.pointer (some ⟨cb,1,none⟩), .slice adb lvs.length cpb, .slice oad VR.length ocp] 237);have hne:=show x1.heap.size≠x3.heap.size from Nat.ne_of_lt htb3.lt
   have hge:=k1.size
   try simp only[aP]at hsp4 htb4 hne hge
   generalize(x3.alloc (.cells #[.pointer (some ⟨cb,1,none⟩), .slice adb lvs.length cpb, .slice oad VR.length ocp] 237))=WW at k4 hr4 hsp4 htb4⊢;have c6:=htb4.cell 0;have f6:=htb4.frozen 0;simp at c6;refine CF.one (i:=11) (by kernel_rfl) rfl (λK hK=>?_)
   go_simp
   have kz:=k4.setCell (p:=⟨x1.heap.size,0,none⟩) (Or.inr hge) (.pointer (some ⟨x3.heap.size,0,none⟩));refine hK.out _ _ (λ_=>Aa HS2 _ kz) ?_;clear hK K;refine CF.done (by kernel_rfl) ?_ _
   try simp only[Act.put,Z3,Z4,Z5]
   exact Aa HE2 _ _ _ _ _ _ _ _ _ _ _ _ _ _ _ _ oad ocp (x3.heap.size) (x1.heap.size) _ kz (Ag hr4 (AO hr4 htb4 (by decide)) _) (hsp4.set_other ⟨x1.heap.size,0,none⟩ hne _) (htb4.set 0 _)
 ·go_simp
  have k1:=hka.alloc (.cells #[.pointer none] 233);refine hK.out _ _ (λ_=>Aa HS2 _ k1) ?_;clear hK K
  try simp only[Act.put,Z3,Z4,Z5]
  have htb1:=Aw.new x0 [.pointer none] 233;refine CF.one (i:=6) (by kernel_rfl) rfl (λK hK=>?_)
  go_simp
  refine(Aa HCT _ ((Aa HKw).trans k1)).mono ?_;rintro _ x2 ⟨ad6,cp6,rfl,hrow6,k2'⟩;have k2:Ac [] wA x2:=k1.trans k2';refine hK.out _ _ (λ_=>Aa HS2 _ k2) ?_;clear hK K
  try simp only[Act.put,Z3,Z4,Z5]
  have htb2:=htb1.kept k2' (by simp);refine CF.one (i:=7) (by kernel_rfl) rfl (λK hK=>?_)
  go_simp
  refine(Aa HV1 ad6 cp6 _ hrow6).mono ?_;rintro _ x3 ⟨oad,ocp,rfl,hrow7,k3'⟩;have k3:Ac [] wA x3:=k2.trans k3';refine hK.out _ _ (λ_=>Aa HS2 _ k3) ?_;clear hK K
  try simp only[Act.put,Z3,Z4,Z5]
  have htb3:=htb2.kept k3' (by simp);have HHS3:=Ab (Aa HS2 _ k3);refine CF.takeH (i:=8) (v:= .agg #[.pointer (some ⟨cb,1,none⟩), .slice adb lvs.length cpb, .slice oad VR.length ocp]) rfl (by kernel_rfl) (by kernel_rfl) (by kernel_rfl) (by decide) (λ_ _ _ h=>absurd h (Aa HQp _ _ _)) (Aa HHS3) (Or.inl ⟨by rfl,?_⟩) ?_
  ·(intro wz hSw;obtain⟨z0,z1,z2,z3,z4,z5⟩:=hSw;go_simp)
  simp only[Act.put,Z3,Z4,Z5];refine CF.one (i:=9) (by kernel_rfl) rfl (λK hK=>?_)
  go_simp
  have k4:=k3.alloc (.cells #[.pointer (some ⟨cb,1,none⟩), .slice adb lvs.length cpb, .slice oad VR.length ocp] 237);refine hK.out _ _ (λ_=>Aa HS2 _ k4) ?_;clear hK K
  try simp only[Act.put,Z3,Z4,Z5]
  have hsp4:=Aw.new x3 [.pointer (some ⟨cb,1,none⟩), .slice adb lvs.length cpb, .slice oad VR.length ocp] 237;have hr4:=ah hrow7 (.cells #[.pointer (some ⟨cb,1,none⟩), .slice adb lvs.length cpb, .slice oad VR.length ocp] 237);have htb4:=htb3.alloc (.cells #[.pointer (some ⟨cb,1,none⟩), .slice adb lvs.length cpb, .slice oad VR.length ocp] 237);have hne:=show x0.heap.size≠x3.heap.size from Nat.ne_of_lt htb3.lt
  have hge:=hka.size
  try simp only[aP]at hsp4 htb4 hne hge
  generalize(x3.alloc (.cells #[.pointer (some ⟨cb,1,none⟩), .slice adb lvs.length cpb, .slice oad VR.length ocp] 237))=WW at k4 hr4 hsp4 htb4⊢;have c6:=htb4.cell 0;have f6:=htb4.frozen 0;simp at c6;refine CF.one (i:=11) (by kernel_rfl) rfl (λK hK=>?_)
  go_simp
  have kz:=k4.setCell (p:=⟨x0.heap.size,0,none⟩) (Or.inr hge) (.pointer (some ⟨x3.heap.size,0,none⟩));refine hK.out _ _ (λ_=>Aa HS2 _ kz) ?_;clear hK K;refine CF.done (by kernel_rfl) ?_ _
  try simp only[Act.put,Z3,Z4,Z5]
  exact Aa HE2 _ _ _ _ _ _ _ _ _ _ _ _ _ _ _ _ oad ocp (x3.heap.size) (x0.heap.size) _ kz (Ag hr4 (AO hr4 htb4 (by decide)) _) (hsp4.set_other ⟨x0.heap.size,0,none⟩ hne _) (htb4.set 0 _)
