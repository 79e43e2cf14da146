import Derived.Test.YtoihbhenbmffcaaGreatDoorYBK
set_option linter.all false
set_option maxHeartbeats 0
namespace Go.Proofs.YtoihbhenbmffcaaGreatDoor
open Go.RowKit Go.Proofs.Tryz
theorem Tryz.g0:(Tryz.prog.info? 176).map (λi=>(i.zero,i.size,i.bytes))=some (some (.agg #[.string ⟨#[]⟩,.slice none 0 0,.int .i64 0,.slice none 0 0]),4,72):=by kernel_rfl
theorem IU{t:AG}(h:Dq t):Nl (ct t):=by
 rcases h with⟨h,_⟩|⟨a,b,_⟩
 .exact Or.inl (by unfold ct;rw[h];rfl)
 .exact Or.inr ⟨by unfold ct;simp only;omega,by unfold ct;simp only;omega⟩
structure bh(w3:World)(k:Nat)(al:UInt8->List cR->List cR)(r:A7)(s:List Ah)(pre:List (List cR))(M:List Nat)(W:World):Prop where
 kept:Ac [] w3 W
 out:∃(sts:List bB) (ad:Option Addr) (cp:Nat),AE W w3.heap.size [.slice ad sts.length cp] 137/\W.ownsRow w3.heap.size 176 4 (.slice ad sts.length cp) sts.length (sts.flatMap (OE k))/\
  (∀st∈sts,Ec W st.f/\st.f.f.dc.length<=1000/\∃a n c,st.n=.slice a n c)/\sts.map (λst=>st.f.f)=(KC al r s pre).map Df/\M=w3.heap.size::(Value.slice ad sts.length cp).ownBlock.toList
theorem bh.own{g:World}{k B:Nat}{al:UInt8->List cR->List cR}{r:A7}{s:List Ah}(n:g.heap.size<=B):OwnFrom B (fun(q:List (List cR)×List Nat) W=>bh g k al r s q.1 q.2 W):=
 BV (λq W p M h a b=>by
  obtain⟨l,o,m,i,f,d,j⟩:=h.out
  exact⟨EL h.kept a b n,l,o,m,i.kept a (C5 b i),Al f a (EI b f),λe c=>⟨Al (d e c).1 a (EI b (d e c).1),(d e c).2⟩,j⟩)
set_option maxRecDepth 100000
theorem Rl(cb k:Nat)(lad:Option Addr)(lcp:Nat)(pcs:List C0)(sad:Option Addr)(scp:Nat)(fs:List Gm)(stv:Value)(r:A7)(s:List Ah)(w:World)(hk:k<pcs.length)(hlen:pcs.length<=1000)(hC:AE w cb [.slice lad pcs.length lcp,.slice sad fs.length scp,stv] 139)(hP:C9 w (.slice lad pcs.length lcp) pcs)(hF:KQ w (.slice sad fs.length scp) fs)(hE:Ei fs s)(hcl:Pp pcs[k] r s)(hnl:(Ps (IX (Am r) s) r (Ck r) (C7 r) s).length<=100000):
  Calls prog 167 #[.pointer (some ⟨cb,0,none⟩),.int .i64 k] w λrr w'=>∃(ad:Option Addr) (cp:Nat) (sts:List bB),rr=.returned (.slice ad sts.length cp)/\sts.map (λst=>st.f.f)=(Ps (IX (Am r) s) r (Ck r) (C7 r) s).map Df/\
   w'.ownsRow w.heap.size 176 4 (.slice ad sts.length cp) sts.length (sts.flatMap (OE k))/\(∀st∈sts,Ec w' st.f/\st.f.f.dc.length<=1000/\∃a n c,st.n=.slice a n c)/\Ac [] w w':=by
 obtain⟨i0,hi0,hz0,hz1,hz2⟩:=cU Tryz.g0;obtain⟨g,cap,hp,hn,eB,adh,cph,adb,cpb,db,he,hck,_,_,_,_⟩:=F5 hP k hk;simp only[bK]at he;obtain⟨rfl,-,rfl⟩:=he;have hpc:=hP.each _ (bL hk);rw[hck]at hcl hpc;have hfl:=hE.len;have hsl:=hcl.len;have hth:eB.length<=1000:=hcl.fit.head.2;have HCT:Hid (∀wz,Ac [] w wz->Calls prog 184 #[.agg #[.int .i64 hp,.string hn,.slice adh eB.length cph,.slice adb db.length cpb]] wz λe w'=>∃ad cp,e=.returned (.slice ad (Bn ⟨hp,hn,eB,.slice adh eB.length cph,.slice adb db.length cpb,db⟩).length cp)/\w'.ownsRow 0 215 2 (.slice ad (Bn ⟨hp,hn,eB,.slice adh eB.length cph,.slice adb db.length cpb,db⟩).length cp) (Bn ⟨hp,hn,eB,.slice adh eB.length cph,.slice adb db.length cpb,db⟩).length ((Bn ⟨hp,hn,eB,.slice adh eB.length cph,.slice adb db.length cpb,db⟩).flatMap Ao)/\Ac [] wz w'):=
  λwz hk=>(Ow ⟨hp,hn,eB,.slice adh eB.length cph,.slice adb db.length cpb,db⟩ wz (hpc.kept hk (by simp)) hcl.fit).mono λe w' ⟨ad,cp,h1,h2,h3⟩=>⟨ad,cp,h1,Ak h2 (b8 _),h3⟩
 have HV1:Hid (∀ad cp wz,wz.ownsRow 0 215 2 (.slice ad (Bn ⟨hp,hn,eB,.slice adh eB.length cph,.slice adb db.length cpb,db⟩).length cp) (Bn ⟨hp,hn,eB,.slice adh eB.length cph,.slice adb db.length cpb,db⟩).length ((Bn ⟨hp,hn,eB,.slice adh eB.length cph,.slice adb db.length cpb,db⟩).flatMap Ao)->Calls prog 138 #[.slice ad (Bn ⟨hp,hn,eB,.slice adh eB.length cph,.slice adb db.length cpb,db⟩).length cp] wz λr w'=>∃ad' cp',r=.returned (.slice ad' (C4 (Bn ⟨hp,hn,eB,.slice adh eB.length cph,.slice adb db.length cpb,db⟩)).length cp')/\w'.ownsRow 0 21 1 (.slice ad' (C4 (Bn ⟨hp,hn,eB,.slice adh eB.length cph,.slice adb db.length cpb,db⟩)).length cp') (C4 (Bn ⟨hp,hn,eB,.slice adh eB.length cph,.slice adb db.length cpb,db⟩)).length ((C4 (Bn ⟨hp,hn,eB,.slice adh eB.length cph,.slice adb db.length cpb,db⟩)).flatMap AK)/\Ac [] wz w'):=
  λad cp wz h=>(L6 ad cp _ 0 wz h hcl.gC).mono λe w' ⟨ad,cp,h1,h2,h3⟩=>⟨ad,cp,h1,Ak h2 (b8 _),h3⟩
 have HSea:Hid (∀sp oad ocp wz,Ac [] w wz->AE wz sp [.pointer (some ⟨cb,1,none⟩),.slice adb db.length cpb,.slice oad (C4 (Bn ⟨hp,hn,eB,.slice adh eB.length cph,.slice adb db.length cpb,db⟩)).length ocp] 237->wz.ownsRow 0 21 1 (.slice oad (C4 (Bn ⟨hp,hn,eB,.slice adh eB.length cph,.slice adb db.length cpb,db⟩)).length ocp) (C4 (Bn ⟨hp,hn,eB,.slice adh eB.length cph,.slice adb db.length cpb,db⟩)).length ((C4 (Bn ⟨hp,hn,eB,.slice adh eB.length cph,.slice adb db.length cpb,db⟩)).flatMap AK)->Yl wz sp (Am r) s (Ck r++C7 r)):=by
  intro sp oad ocp wz hk hb hr;have hc1:=(hC.kept hk (by simp)).cell 1;simp at hc1;exact hcl.sea (c:=⟨hp,hn,eB,.slice adh eB.length cph,.slice adb db.length cpb,db⟩) ⟨hb,hc1,hF.kept hk⟩ (hpc.body.kept hk (by simp)) hr hE
 have HVl:Hid ((C4 (Bn ⟨hp,hn,eB,.slice adh eB.length cph,.slice adb db.length cpb,db⟩)).length=(Ck r++C7 r).length/\(Ck r++C7 r).length<=26):=⟨by rw[hcl.order,FI],hcl.zC⟩;obtain⟨TV,hTV⟩:∃TV,Bn ⟨hp,hn,eB,.slice adh eB.length cph,.slice adb db.length cpb,db⟩=TV:=⟨_,rfl⟩;rw[hTV]at HCT HV1 HSea HVl;have HV2:Hid (∀wz,Ac [] w wz->Calls prog 138 #[.slice adh eB.length cph] wz λr' w'=>∃ad' cp',r'=.returned (.slice ad' (Ck r).length cp')/\Ac [] wz w'):=λwz hk=>(L6 adh cph eB 0 wz (Ad hpc.head hk (by simp)) (by omega)).mono λe w' ⟨ad,cp,h1,h2,h3⟩=>⟨ad,cp,by rw[h1,hcl.ofHead,FI],h3⟩
 have hvt:∀t∈eB,Nl t:=by
  have hh:=hcl.gh.eB;simp only at hh;rw[hh];intro t ht;obtain⟨u,hu,rfl⟩:=bV.1 ht;exact IU (hcl.head.args u hu)
 have HBf:Hid (∀Bx b wz,Ac [] w wz->b.length=26->AE wz Bx (Ai b) 243->Calls prog 196 #[.pointer (some ⟨Bx,0,none⟩),.agg #[.int .i64 hp,.string hn,.slice adh eB.length cph]] wz λr w'=>∃g,r=.returned (.agg #[.string hn,.slice (some ⟨g,0,none⟩) eB.length eB.length])/\Ec w' ⟨⟨hn,eB.map (Bs b)⟩,.slice (some ⟨g,0,none⟩) eB.length eB.length⟩/\Ac [] wz w'):=by
  intro Bx b wz hk hb hB;refine(Md Bx 243 b hp hn adh cph eB 0 wz hb hB (Ad hpc.head hk (by simp)) (by omega) hvt).mono ?_;rintro r w' ⟨g,rfl,hr,k⟩;refine⟨g,rfl,?_,k⟩;show w'.ownsRow 0 170 1 _ (eB.map (Bs b)).length _;rw[bX];exact Ak hr (b8 _)
 have HHs:Hid (∀(g:Nat) (ts:List cR) (f:Ah) wz,Ac [] w wz->ts.length=eB.length->Ec wz ⟨⟨hn,ts⟩,.slice (some ⟨g,0,none⟩) eB.length eB.length⟩->(⟨hn,ts⟩:Ev)=Df f->A4 f->Calls prog 60 #[.pointer (some ⟨cb,1,none⟩),.agg #[.string hn,.slice (some ⟨g,0,none⟩) eB.length eB.length]] wz λe w'=>e=.returned (.bool (FK s f))/\Ac [] wz w'):=by
  intro g ts f wz hk htl hpf hf hcf;have hc1:=(hC.kept hk (by simp)).cell 1;simp at hc1;refine(Qd cb 1 sad scp fs ⟨⟨hn,ts⟩,.slice (some ⟨g,0,none⟩) eB.length eB.length⟩ wz hc1 (hF.kept hk) hpf (by show ts.length<=1000;omega) (by omega) (hE.mono _)).mono ?_;rintro e w' ⟨p,rfl,hcut,k⟩;simp only at hcut⊢;rw[hf]at hcut⊢;exact⟨by rw[hE.gX hcf hcut],k⟩
 have HNe:Hid (∀WB b wz,Ac [] w wz->b.length=26->AE wz WB (Ai b) 243->Calls prog 198 #[.pointer (some ⟨WB,0,none⟩),.slice adb db.length cpb] wz λr w'=>∃(ad:Option Addr) (n cp:Nat),r=.returned (.slice ad n cp)/\Ac [] wz w'):=by
  intro WB b wz hk hb hB;have hl:∀p∈db,Np p.1:=λp hp=>by
   have hm:p.1∈(Am r).map Kj:=by
    have h2:=F2.fst hcl.gh.lits;simp only at h2;unfold Am;rw[<-h2];exact cm hp
   obtain⟨x,hx,e1⟩:=bV.1 hm;rw[<-e1];exact(hcl.lits x hx).2
  refine(Ww WB 243 b adb cpb db wz hb hB (hpc.body.kept hk (by simp)) hcl.fit.lits hl).mono ?_;rintro e w' ⟨ad,cp,ps,rfl,_,_,k⟩;exact⟨ad,ps.length,cp,rfl,k⟩
 have HCl:=Ab hcl;have HFc:Hid (∀b∈As (IX (Am r) s) (Am r) s (Ck r) BX,CP b/\(⟨hn,eB.map (Bs (Bf b))⟩:Ev)=Df (AA b r.head)/\A4 (AA b r.head)):=λb hb=>by
  have hcan:=NE hcl.al hcl.parts hcl.head hb;exact⟨GY hcl.al _ _ CP.start b hb,W6 hcl.gh hcl.head hcan,GX hcan⟩
 have HNl:=Ab hnl;have HPr:=Ab hP;have HCo:=Ab hC;have HCk:=Ab hck;clear hcl hpc hE hF hC hfl hsl hvt hTV hnl;obtain⟨N,hN⟩:∃N,w.heap.size=N:=⟨_,rfl⟩;have HN:=Ab hN;obtain⟨PL,hPL⟩:∃PL,pcs.length=PL:=⟨_,rfl⟩;have HC1:Hid (∀wz,Ac [] w wz->wz.cell? ⟨cb,0,none⟩=some (.slice (some ⟨g,0,none⟩) PL lcp)/\wz.cell? ⟨g,k*4,none⟩=some (.int .i64 hp)/\wz.cell? ⟨g,k*4+1,none⟩=some (.string hn)/\wz.cell? ⟨g,k*4+2,none⟩=some (.slice adh eB.length cph)/\wz.cell? ⟨g,k*4+3,none⟩=some (.slice adb db.length cpb)):=by
  intro wz hkz;obtain⟨g',cap',hp',hn',hts',adh',cph',adb',cpb',lvs',he',hck',d0,d1,d2,d3⟩:=F5 (hP.kept hkz) k hk;rw[hck]at hck';simp only[C0.mk.injEq]at hck';obtain⟨rfl,rfl,rfl,e1,e2,rfl⟩:=hck';simp only[bK,bR,cI]at he';obtain⟨⟨rfl,-,-⟩,-,-⟩:=he';rw[<-e1]at d2;rw[<-e2]at d3;have h0:=((Aa HCo).kept hkz (by simp)).cell 0;simp[hPL]at h0;exact⟨h0,d0,d1,d2,d3⟩
 have hk0:(0:Int)<=(k:Int):=by omega
 have hk1:(k:Int)<(PL:Int):=by omega
 clear hP hck hPL hlen hN;obtain⟨QQ,hQQ⟩:∃QQ,Kd (bodyPostM Fence.wide 0 prog Tryz.f167 λrr w'=>∃(ad:Option Addr) (cp:Nat) (sts:List bB),rr=.returned (.slice ad sts.length cp)/\sts.map (λst=>st.f.f)=(Ps (IX (Am r) s) r (Ck r) (C7 r) s).map Df/\
   w'.ownsRow w.heap.size 176 4 (.slice ad sts.length cp) sts.length (sts.flatMap (OE k))/\(∀st∈sts,Ec w' st.f/\st.f.f.dc.length<=1000/\∃a n c,st.n=.slice a n c)/\Ac [] w w')=QQ:=⟨_,rfl⟩
 have HQQ:=Ab hQQ;have HQp:Hid (∀c a w,¬QQ (.panic c) a w):=by
  intro c a w h;rw[<-hQQ]at h;exact h
 refine EB func167 rfl (GJ ?_);rw[hQQ];clear hQQ;simp only[ntmps167,dh,bU,cE,Nat.reduceAdd,Nat.reduceSub,eu,ev,eU,eH,dm,dG];have HK1:=Ab (((Ac.refl [] w).alloc (.cells #[.pointer (some ⟨cb,0,none⟩)] 140)).alloc (.cells #[.int .i64 k] 3));have HB0:=Ab ((AE.new w [.pointer (some ⟨cb,0,none⟩)] 140).alloc (.cells #[.int .i64 k] 3));have HB1:Hid (AE ((w.alloc (.cells #[.pointer (some ⟨cb,0,none⟩)] 140)).alloc (.cells #[.int .i64 k] 3)) (w.heap.size+1) [.int .i64 k] 3):=by
  have h:=AE.new (w.alloc (.cells #[.pointer (some ⟨cb,0,none⟩)] 140)) [.int .i64 k] 3;rw[cD]at h;exact h
 refine wp_seq_k (λK1 hK1=>?_);have HKk:=Ab hK1;clear hK1;go_wp2;refine Aa HKk _ _ ?_;clear HKk K1;change Code.wp _ _ _ _ ((w.alloc (.cells [.pointer (some ⟨cb,0,none⟩)].toArray 140)).alloc (.cells [.int .i64 k].toArray 3));generalize hw1:(w.alloc (.cells [.pointer (some ⟨cb,0,none⟩)].toArray 140)).alloc (.cells [.int .i64 k].toArray 3)=w1 at HK1 HB0 HB1⊢;have hsz1:w1.heap.size=w.heap.size+2:=by rw[<-hw1];simp
 clear hw1;rw[Aa HN]at HB0 HB1 hsz1⊢;have HS1:Hid (∀wz,Ac [] w1 wz->Ac [] w1 wz/\wz.cell? ⟨N,0,none⟩=some (.pointer (some ⟨cb,0,none⟩))/\wz.cell? ⟨N+1,0,none⟩=some (.int .i64 k)/\wz.cell? ⟨cb,0,none⟩=some (.slice (some ⟨g,0,none⟩) PL lcp)/\wz.cell? ⟨g,k*4,none⟩=some (.int .i64 hp)/\wz.cell? ⟨g,k*4+1,none⟩=some (.string hn)/\wz.cell? ⟨g,k*4+2,none⟩=some (.slice adh eB.length cph)/\wz.cell? ⟨g,k*4+3,none⟩=some (.slice adb db.length cpb)):=by
  intro wz hkz;have h0:=((Aa HB0).kept hkz (by simp)).cell 0;have h1:=((Aa HB1).kept hkz (by simp)).cell 0;simp at h0 h1;exact⟨hkz,h0,h1,Aa HC1 wz ((Aa HK1).trans hkz)⟩
 refine wp_seq_k (λK1 hK1=>?_);have HKk:=Ab hK1;clear hK1;have HHS:=Ab (Aa HS1 w1.drew (Ac.refl [] w1).drew);refine Cp 9 (λwz=>Ac [] w1 wz/\wz.cell? ⟨N,0,none⟩=some (.pointer (some ⟨cb,0,none⟩))/\wz.cell? ⟨N+1,0,none⟩=some (.int .i64 k)/\wz.cell? ⟨cb,0,none⟩=some (.slice (some ⟨g,0,none⟩) PL lcp)/\wz.cell? ⟨g,k*4,none⟩=some (.int .i64 hp)/\wz.cell? ⟨g,k*4+1,none⟩=some (.string hn)/\wz.cell? ⟨g,k*4+2,none⟩=some (.slice adh eB.length cph)/\wz.cell? ⟨g,k*4+3,none⟩=some (.slice adb db.length cpb)) (by kernel_rfl) ?_;refine Ce.tkH (i:=0) (v:=.pointer (some ⟨cb,0,none⟩)) rfl (by kernel_rfl) (Bl HQp) HHS (by rfl) ?_ ?_
 ·(rintro wz ⟨z0,z1,z2,z3,z4,z5,z6,z7⟩;go_simp)
 simp only[Act.put,bH,bI,bJ];refine Ce.tkH (i:=1) (v:=.pointer (some ⟨cb,0,none⟩)) rfl (by kernel_rfl) (Bl HQp) HHS (by rfl) ?_ ?_
 ·(rintro wz ⟨z0,z1,z2,z3,z4,z5,z6,z7⟩;go_simp)
 simp only[Act.put,bH,bI,bJ];refine Ce.tkH (i:=2) (v:=.pointer (some ⟨cb,0,none⟩)) rfl (by kernel_rfl) (Bl HQp) HHS (by rfl) ?_ ?_
 ·(rintro wz ⟨z0,z1,z2,z3,z4,z5,z6,z7⟩;go_simp)
 simp only[Act.put,bH,bI,bJ];refine Ce.tkH (i:=3) (v:=.slice (some ⟨g,0,none⟩) PL lcp) rfl (by kernel_rfl) (Bl HQp) HHS (by rfl) ?_ ?_
 ·(rintro wz ⟨z0,z1,z2,z3,z4,z5,z6,z7⟩;go_simp)
 simp only[Act.put,bH,bI,bJ];refine Ce.tkH (i:=4) (v:=.int .i64 k) rfl (by kernel_rfl) (Bl HQp) HHS (by rfl) ?_ ?_
 ·(rintro wz ⟨z0,z1,z2,z3,z4,z5,z6,z7⟩;go_simp)
 simp only[Act.put,bH,bI,bJ];refine Ce.tkH (i:=5) (v:=.pointer (some ⟨g,k*4,none⟩)) rfl (by kernel_rfl) (Bl HQp) HHS (by rfl) ?_ ?_
 ·(rintro wz ⟨z0,z1,z2,z3,z4,z5,z6,z7⟩;go_simp)
 simp only[Act.put,bH,bI,bJ];refine Ce.tkH (i:=6) (v:=.agg #[.int .i64 hp,.string hn,.slice adh eB.length cph,.slice adb db.length cpb]) rfl (by kernel_rfl) (Bl HQp) HHS (by rfl) ?_ ?_
 ·(rintro wz ⟨z0,z1,z2,z3,z4,z5,z6,z7⟩;go_simp)
 simp only[Act.put,bH,bI,bJ];refine Ce.one (i:=7) (by kernel_rfl) rfl (λK hK=>?_)
 go_simp
 refine hK.out _ _ (λ_=>Aa HS1 _ ((Ac.refl [] w1).drew.alloc _)) ?_;clear hK K
 try simp only[Act.put,bH,bI,bJ]
 have HB2:=Ab (AE.new w1.drew [.int .i64 0,.string ⟨#[]⟩,.slice none 0 0,.slice none 0 0] 189);have HK2:=Ab ((Ac.refl [] w1).drew.alloc (.cells [.int .i64 0,.string ⟨#[]⟩,.slice none 0 0,.slice none 0 0].toArray 189));change Ce _ _ _ _ _ _ _ _ _ (w1.drew.alloc (.cells [.int .i64 0,.string ⟨#[]⟩,.slice none 0 0,.slice none 0 0].toArray 189));have hsz:w1.drew.heap.size=N+2:=hsz1;rw[hsz]at HB2;generalize w1.drew.alloc (.cells [.int .i64 0,.string ⟨#[]⟩,.slice none 0 0,.slice none 0 0].toArray 189)=w2 at HB2 HK2⊢;have q0:=(Aa HB2).cell 0;have q1:=(Aa HB2).cell 1;have q2:=(Aa HB2).cell 2;have q3:=(Aa HB2).cell 3;have f0:=(Aa HB2).frozen 0;have f1:=(Aa HB2).frozen 1;have f2:=(Aa HB2).frozen 2;have f3:=(Aa HB2).frozen 3;simp at q0 q1 q2 q3;refine Ce.one (i:=8) (by kernel_rfl) rfl (λK hK=>?_)
 go_simp
 have HB3:=Ab ((Aa HB2).gB rfl (.int .i64 hp) (.string hn) (.slice adh eB.length cph) (.slice adb db.length cpb));have HK3:=Ab ((Aa HK2).gB (N:=N+2) (Or.inr (by omega)) (.int .i64 hp) (.string hn) (.slice adh eB.length cph) (.slice adb db.length cpb));refine hK.out _ _ (λ_=>Aa HS1 _ (Aa HK3)) ?_;clear hK K;refine Ce.done (by kernel_rfl) ?_ _
 try simp only[Act.put,bH,bI,bJ]
 generalize(((w2.setCell ⟨N+2,0,none⟩ (.int .i64 hp)).setCell ⟨N+2,1,none⟩ (.string hn)).setCell ⟨N+2,2,none⟩ (.slice adh eB.length cph)).setCell ⟨N+2,3,none⟩ (.slice adb db.length cpb)=wA at HB3 HK3⊢;refine Aa HKk _ _ ?_;clear HKk K1 HHS HS1 HB2 HK2 q0 q1 q2 q3 f0 f1 f2 f3;have HKw:Hid (Ac [] w wA):=(Aa HK1).trans (Aa HK3);have HBc:Hid (AE wA N [.pointer (some ⟨cb,0,none⟩)] 140/\AE wA (N+1) [.int .i64 k] 3/\AE wA (N+2) [.int .i64 hp,.string hn,.slice adh eB.length cph,.slice adb db.length cpb] 189):=⟨(Aa HB0).kept (Aa HK3) (by simp),(Aa HB1).kept (Aa HK3) (by simp),by have h:=Aa HB3;simpa using h⟩;clear HB3 HK3 HK1 HB0 HB1 hsz1 hsz;have HS2:Hid (∀wz,Ac [] wA wz->Ac [] wA wz/\wz.cell? ⟨N,0,none⟩=some (.pointer (some ⟨cb,0,none⟩))/\wz.cell? ⟨N+2,0,none⟩=some (.int .i64 hp)/\wz.cell? ⟨N+2,1,none⟩=some (.string hn)/\wz.cell? ⟨N+2,2,none⟩=some (.slice adh eB.length cph)/\wz.cell? ⟨N+2,3,none⟩=some (.slice adb db.length cpb)):=by
  intro wz hkz;have h0:=((Aa HBc).1.kept hkz (by simp)).cell 0;have hb:=(Aa HBc).2.2.kept hkz (by simp);have h1:=hb.cell 0;have h2:=hb.cell 1;have h3:=hb.cell 2;have h4:=hb.cell 3;simp at h0 h1 h2 h3 h4;exact⟨hkz,h0,h1,h2,h3,h4⟩
 obtain⟨VR,hVR⟩:∃VR,C4 TV=VR:=⟨_,rfl⟩;rw[hVR]at HV1 HSea HVl;clear hVR;refine wp_seq_k (λK2 hK2=>?_);have HK2k:=Ab hK2;clear hK2;have HE2:Hid (∀(y13 y14 y15 y16 y17 y18 y19 y20 y21 y22 y23 y24 y25 y26 y27 y28:Value) (oad:Option Addr) (ocp sp tb:Nat) (wz:World),Ac [] wA wz->wz.ownsRow 0 21 1 (.slice oad VR.length ocp) VR.length (VR.flatMap AK)->AE wz sp [.pointer (some ⟨cb,1,none⟩),.slice adb db.length cpb,.slice oad VR.length ocp] 237->AE wz tb [.pointer (some ⟨sp,0,none⟩)] 233->K2 ⟨#[.pointer (some ⟨cb,0,none⟩),.int .i64 k,.pointer (some ⟨N,0,none⟩),.pointer (some ⟨N+1,0,none⟩),.slice none 0 0,.pointer (some ⟨N+2,0,none⟩),.pointer (some ⟨tb,0,none⟩),undef,undef,undef,undef,undef,undef,y13,y14,y15,y16,y17,y18,y19,y20,y21,y22,y23,y24,y25,y26,y27,y28,.pointer (some ⟨sp,0,none⟩),undef,undef,undef,undef,undef,undef,undef,undef,undef,undef,undef,undef,undef,undef,undef,undef,undef,undef,undef,undef,undef,undef,undef,undef,undef,undef,undef,undef,undef,undef,undef,undef,undef,undef,undef,undef,undef,undef,undef,undef,undef],[]⟩ wz):=by
  intro y13 y14 y15 y16 y17 y18 y19 y20 y21 y22 y23 y24 y25 y26 y27 y28 oad ocp sp tb wz hkz hrow hsp htb;refine Aa HK2k _ _ ?_;clear HK2k K2;have HSa:=Ab (Aa HSea sp oad ocp wz ((Aa HKw).trans hkz) hsp hrow);have HKz:Hid (Ac [] w wz):=(Aa HKw).trans hkz;have HBz:Hid (AE wz N [.pointer (some ⟨cb,0,none⟩)] 140/\AE wz (N+1) [.int .i64 k] 3/\AE wz (N+2) [.int .i64 hp,.string hn,.slice adh eB.length cph,.slice adb db.length cpb] 189/\AE wz tb [.pointer (some ⟨sp,0,none⟩)] 233):=⟨(Aa HBc).1.kept hkz (by simp),(Aa HBc).2.1.kept hkz (by simp),(Aa HBc).2.2.kept hkz (by simp),htb⟩;clear hkz hrow hsp htb HSea HS2;have e2:=(Aa HBz).2.2.1.cell 2;simp at e2;have HC3:=Ab (Aa HV2 wz (Aa HKz));refine wp_seq_k (λK1 hK1=>?_);have HKk:=Ab hK1;clear hK1;go_wp2_with fail
  refine(Aa HC3).mono ?_;rintro _ v2 ⟨ad',cp',rfl,k2⟩;obtain⟨OH,hOH⟩:∃OH,(Ck r).length=OH:=⟨_,rfl⟩;have HOH:=Ab hOH;rw[hOH];have HK2:=Ab k2;clear hOH HC3 k2 e2;go_wp2;refine Aa HKk _ _ ?_;clear HKk K1;have HKo:=Ab ((Aa HK2).alloc (.cells [.int .i64 OH].toArray 3));have HBo:=Ab (AE.new v2 [.int .i64 OH] 3);change Code.wp _ _ _ _ (v2.alloc (.cells [.int .i64 OH].toArray 3));generalize v2.alloc (.cells [.int .i64 OH].toArray 3)=w3 at HKo HBo⊢;generalize v2.heap.size=ob at HBo⊢;have HK3:Hid (Ac [] w w3):=(Aa HKz).trans (Aa HKo);have HS3:Hid (Yl w3 sp (Am r) s (Ck r++C7 r)):=(Aa HSa).kept (Aa HKo);have HB3:Hid (∀W,Ac [] w3 W->AE W N [.pointer (some ⟨cb,0,none⟩)] 140/\AE W (N+1) [.int .i64 k] 3/\AE W (N+2) [.int .i64 hp,.string hn,.slice adh eB.length cph,.slice adb db.length cpb] 189/\AE W tb [.pointer (some ⟨sp,0,none⟩)] 233/\AE W ob [.int .i64 OH] 3):=λW hkW=>⟨((Aa HBz).1.kept (Aa HKo) (by simp)).kept hkW (by simp),((Aa HBz).2.1.kept (Aa HKo) (by simp)).kept hkW (by simp),((Aa HBz).2.2.1.kept (Aa HKo) (by simp)).kept hkW (by simp),((Aa HBz).2.2.2.kept (Aa HKo) (by simp)).kept hkW (by simp),(Aa HBo).kept hkW (by simp)⟩
  clear HSa HKz HBz HK2 HKo HBo HKw HBc;obtain⟨SB,hSB⟩:∃SB,w3.heap.size=SB:=⟨_,rfl⟩;have HSB:=Ab hSB;have HK4:=Ab ((Ac.refl [] w3).alloc (.cells [.slice none 0 0].toArray 137));have HB4:=Ab (AE.new w3 [.slice none 0 0] 137);refine wp_seq_k (λK1 hK1=>?_);have HKk:=Ab hK1;clear hK1;go_wp2;refine Aa HKk _ _ ?_;clear HKk K1;change Code.wp _ _ _ _ (w3.alloc (.cells [.slice none 0 0].toArray 137));generalize w3.alloc (.cells [.slice none 0 0].toArray 137)=w4 at HK4 HB4⊢;rw[hSB]at HB4;clear hSB;have t4:=(Aa HB3 w4 (Aa HK4)).2.2.2.1.cell 0;have o4:=(Aa HB3 w4 (Aa HK4)).2.2.2.2.cell 0;simp at t4 o4;have HBt:Hid (∀wz,Calls prog 141 #[.pointer (some ⟨sp,0,none⟩),.int .i64 0,.int .i64 OH,.agg (List.replicate 26 (Value.string ⟨#[]⟩)).toArray] wz λr w'=>∃b1 b2 b3 b4,r=.returned (.func (.func 176) #[] #[.pointer (some ⟨b1,0,none⟩),.pointer (some ⟨b2,0,none⟩),.pointer (some ⟨b3,0,none⟩),.pointer (some ⟨b4,0,none⟩)])/\
    AE w' b1 [.pointer (some ⟨sp,0,none⟩)] 233/\AE w' b2 (Ai (Bf BX)) 243/\AE w' b3 [.int .i64 ((0:Nat):Int)] 3/\AE w' b4 [.int .i64 OH] 3/\(wz.heap.size<=b1/\wz.heap.size<=b2/\wz.heap.size<=b3/\wz.heap.size<=b4)/\Ac [] wz w'):=λwz=>by
   have h:=G1 sp 0 OH (Ai (Bf BX)) wz (Bo _) (D4 BX rfl).1;rw[Jg]at h⊢;exact h
  refine wp_seq_k (λK1 hK1=>?_);have HKk:=Ab hK1;clear hK1;refine wp_seq_k (λK5 hK5=>?_);have HK5:=Ab hK5;clear hK5;go_wp2_with fail
  refine(Aa HBt _).mono ?_;rintro _ w5 ⟨d1,d2,d3,d4,rfl,n1,n2,n3,n4,hds,k5⟩;have HK35:Hid (Ac [] w3 w5):=(Aa HK4).trans k5;have HB5:=Ab ((Aa HB4).kept k5 (by simp));have hs5:=k5.size;have hs4:=(Aa HK4).size;have gX:=Lc sp (Am r) s (Ck r++C7 r) w3 (Aa HS3) OH (by rw[<-Aa HOH,cc];omega) (Ck r) 0 BX d1 d2 d3 d4 w5 [SB] CP.start (by omega) (by rw[<-Aa HOH,List.take_left,ft]) ⟨Aa HK35,n1,n2,n3,n4,λq hq=>by
   have hb:=(Aa HB4).lt
   have hsb:=Aa HSB
   obtain⟨g1,g2,g3,g4⟩:=hds
   simp only[bO]at hq
   subst hq
   exact⟨by omega,by omega,by omega,by omega,by omega,by omega⟩⟩
  have HIn:Hid (bh w3 k (IX (Am r) s) r s [] [SB] w5):=⟨Aa HK35,[],none,0,by rw[Aa HSB];exact Aa HB5,ck _ _ _ _,λst hst=>by simp at hst,rfl,by rw[Aa HSB];rfl⟩;have hw3:w3.heap.size<=w5.heap.size:=(Aa HK35).size;have hSl:=(Aa HB5).lt;clear n1 n2 n3 n4 hds k5 HBt t4 o4 HB4 HB5 HK4;go_wp2;refine Aa HK5 _ _ ?_;clear HK5 K5;refine wp_block ?_;obtain⟨XS,hXS⟩:∃XS,As (IX (Am r) s) (Am r) s (Ck r) BX=XS:=⟨_,rfl⟩;have HXS:=Ab hXS;rw[hXS]at gX HFc;clear hXS;have HXl:Hid (∀x∈XS,x.length=26):=λx hx=>(Aa HFc x hx).1.len
  refine Hp (T:=243) (q:=9) rfl (enters_of func176 (by kernel_rfl) rfl) gX (λq hq=>by
   simp only[bO]at hq
   subst hq
   exact hSl) (bh w3 k (IX (Am r) s) r s) (λ_ _ _ _=>False) (bh.own hw3) (λ_ _ _ _ _ h _ _=>h) (Aa HIn) ?rassign ?rbody ?rdone ?rstop
  case rassign=>
   intro l' x W' K hx HK;obtain⟨hxl,hxo⟩:=D4 x (Aa HXl x hx);obtain⟨EX,hEX⟩:∃EX,Ai (Bf x)=EX:=⟨_,rfl⟩;rw[hEX]at hxl hxo HK⊢;have HXo:=Ab hxo;have HXl:=Ab hxl;(have HXa:Hid (EX.toArray.size=26):=by show _=_;simp[hxl]);clear hx hEX hxl hxo;simp only[bH,bI,bJ]at HK⊢;refine AZ (by rfl) (If Gx) ?_;go_wp2_with ((with_reducible show wpList _ _ _ ({dst:=_,op:=Op.store 243 _ _,type:=_,pos:=_,after:=_,guard:=_}::_) _ _);refine dP rfl 243 _ _ rfl W'.heap.size 0 EX.toArray (by rfl) (by rfl) ?_ ?_ ?_ ?_)
   .have h:=(AE.new W' (List.replicate 26 (Value.string ⟨#[]⟩)) 243).there;simp only[dD]at h;rw[Aa HXa];exact h
   .rw[Aa HXa];exact Tryz.ea
   .exact dq (Aa HXo)
   .refine Aa HK _ (((Ac.refl [] W').alloc (.cells (List.replicate 26 (Value.string ⟨#[]⟩)).toArray 243)).ek (b:=W'.heap.size) (Or.inr (bZ _)) EX 0) ?_;exact(AE.new W' (List.replicate 26 (Value.string ⟨#[]⟩)) 243).gH EX (by rw[Aa HXl];simp)
  case rbody=>
   intro l' Bx pre x rest' M W' hxs hi hM hBx hblk;(have hxm:x∈XS:=by rw[hxs];simp);obtain⟨heo,hfeq,hfcan⟩:=Aa HFc x hxm;obtain⟨sts,ad,cp,i1,i2,i3,i4,i5⟩:=hi.out;rw[Aa HSB]at i1 i2 i5;have HLs:Hid (sts.length<=100000):=by
    have h1:=congrArg List.length i4;rw[bX,bX]at h1;have h2:=Aa HNl;rw[<-Qn,Aa HXS,hxs]at h2;(have h3:KC (IX (Am r) s) r s (pre++x::rest')=KC (IX (Am r) s) r s pre++KC (IX (Am r) s) r s (x::rest'):=by unfold KC;rw[dZ,cW]);rw[h3,cc]at h2;show sts.length<=100000;omega
   have HKw':Hid (Ac [] w W'):=(Aa HK3).trans hi.kept;have HBW:=Ab (Aa HB3 W' hi.kept);have HSo:Hid (KC (IX (Am r) s) r s (pre++[x])=KC (IX (Am r) s) r s pre++if(!FK s (AA x r.head)&& !(As (IX (Am r) s) (Am r) s (C7 r) x).isEmpty)=true then[AA x r.head] else[]):=UL _ _ _ _ _;have HC7:=Ab (Aa HBf Bx (Bf x) W' (Aa HKw') (GM heo) hblk);have HC8:=Ab (λg wz hk hpf=>Aa HHs g (eB.map (Bs (Bf x))) (AA x r.head) wz hk (by rw[bX]) hpf hfeq hfcan);(have HC9:Hid (∀wz,Ac [] W' wz->Calls prog 197 #[.pointer (some ⟨sp,0,none⟩),.int .i64 OH,.int .i64 (Ck r++C7 r).length,.agg (Ai (Bf x)).toArray] wz λr' w'=>∃(y:List cR) (B:Bool),r'=.returned (.tuple #[.agg (Ai (Bf y)).toArray,.bool B])/\y.length=26/\B= !(As (IX (Am r) s) (Am r) s (C7 r) x).isEmpty/\Ac [] wz w'):=λwz hk=>(Xa sp (Am r) s (Ck r++C7 r) OH (Ck r++C7 r).length (C7 r) x wz ((Aa HS3).kept (hi.kept.trans hk)) heo (by rw[<-Aa HOH,cc];omega) (bZ _) (by rw[eN,<-Aa HOH,List.drop_left])).mono λr' w' ⟨y,B,h1,h2,h3,_,h5⟩=>⟨y,B,h1,h2,h3,h5⟩);have HI0:=Ab hi;have HFe:=Ab hfeq;have HLx:=Ab (GM heo);have HBl:=Ab hblk;have H1:=Ab i1;have H2:=Ab i2;have H3:=Ab i3;have H4:=Ab i4;have H5:=Ab i5;clear hi hxs hM hblk heo hfeq hfcan i1 i2 i3 i4 i5 hxm;obtain⟨EX,hEX⟩:∃EX,Ai (Bf x)=EX:=⟨_,rfl⟩;have HEX:=Ab hEX;rw[hEX]at HC9 HBl;simp only[hEX];(have HXe:Hid (EX.length=26):=by show _=_;rw[<-hEX];unfold Ai;rw[bX];exact Aa HLx);clear hEX;obtain⟨HF,hHF⟩:∃HF,FK s (AA x r.head)=HF:=⟨_,rfl⟩;rw[hHF]at HSo HC8;clear hHF;obtain⟨RE,hRE⟩:∃RE,(As (IX (Am r) s) (Am r) s (C7 r) x).isEmpty=RE:=⟨_,rfl⟩;rw[hRE]at HSo HC9;clear hRE;obtain⟨FA,hFA⟩:∃FA,AA x r.head=FA:=⟨_,rfl⟩;rw[hFA]at HSo HFe;clear hFA;obtain⟨VL,hVL⟩:∃VL,(Ck r++C7 r).length=VL:=⟨_,rfl⟩;have HVL2:=Ab hVL;rw[hVL]at HC9 HVl;clear hVL;simp only[bH,bI,bJ];have x0:=(Aa HBW).2.2.1.cell 0;have x1:=(Aa HBW).2.2.1.cell 1;have x2:=(Aa HBW).2.2.1.cell 2;simp at x0 x1 x2;refine wpIn_block ?_;refine dM (λK7 hK7=>?_);have HK7:=Ab hK7;clear hK7;refine AZ (by rfl) (by rintro ⟨_,_,h⟩;exact h) ?_;(go_wp2_with fail);refine(Aa HC7).mono ?_;rintro _ v7 ⟨g7,rfl,hpf7,k7⟩;have HK7a:=Ab (k7.alloc (.cells [.string hn,.slice (some ⟨g7,0,none⟩) eB.length eB.length].toArray 104));have HBh:=Ab (AE.new v7 [.string hn,.slice (some ⟨g7,0,none⟩) eB.length eB.length] 104);have HPf:Hid (Ec (v7.alloc (.cells [.string hn,.slice (some ⟨g7,0,none⟩) eB.length eB.length].toArray 104)) ⟨⟨hn,eB.map (Bs (Bf x))⟩,.slice (some ⟨g7,0,none⟩) eB.length eB.length⟩):=hpf7.kept ((Ac.refl [] v7).alloc _);clear HC7 hpf7 k7 x0 x1 x2;obtain⟨TS,hTS⟩:∃TS,eB.map (Bs (Bf x))=TS:=⟨_,rfl⟩;(have HTl:Hid (TS.length=eB.length):=by show _=_;rw[<-hTS,bX]);rw[hTS]at HPf HC8 HFe;clear hTS;go_wp2;refine Aa HK7 _ _ ?_;clear HK7 K7;change Code.wpIn _ _ _ _ _ _ (v7.alloc (.cells [.string hn,.slice (some ⟨g7,0,none⟩) eB.length eB.length].toArray 104));generalize v7.alloc (.cells [.string hn,.slice (some ⟨g7,0,none⟩) eB.length eB.length].toArray 104)=v8 at HK7a HBh HPf⊢;generalize v7.heap.size=HB at HBh⊢;have HS8:Hid (∀wz,Ac [] v8 wz->Ac [] v8 wz/\wz.cell? ⟨N,0,none⟩=some (.pointer (some ⟨cb,0,none⟩))/\wz.cell? ⟨HB,0,none⟩=some (.string hn)/\wz.cell? ⟨HB,1,none⟩=some (.slice (some ⟨g7,0,none⟩) eB.length eB.length)):=by
    intro wz hkz;have h0:=((Aa HBW).1.kept ((Aa HK7a).trans hkz) (by simp)).cell 0;have h1:=((Aa HBh).kept hkz (by simp)).cell 0;have h2:=((Aa HBh).kept hkz (by simp)).cell 1;simp at h0 h1 h2;exact⟨hkz,h0,h1,h2⟩
   have HHS:=Ab (Aa HS8 v8.drew (Ac.refl [] v8).drew);refine dM (λK8 hK8=>?_);have HK8:=Ab hK8;clear hK8;refine dM (λK1 hK1=>?_);have HKk1:=Ab hK1;clear hK1;refine DO 5 (λwz=>Ac [] v8 wz/\wz.cell? ⟨N,0,none⟩=some (.pointer (some ⟨cb,0,none⟩))/\wz.cell? ⟨HB,0,none⟩=some (.string hn)/\wz.cell? ⟨HB,1,none⟩=some (.slice (some ⟨g7,0,none⟩) eB.length eB.length)) (by kernel_rfl) (by rfl) (by rintro ⟨_,_,h⟩;exact h) ?_;refine Ce.tkH (i:=0) (v:=.pointer (some ⟨cb,0,none⟩)) rfl (by kernel_rfl) (λ_ _ _ h=>h) HHS (by rfl) ?_ ?_
   ·(rintro wz ⟨z0,z1,z2,z3⟩;go_simp)
   simp only[Act.put,bH,bI,bJ];refine Ce.tkH (i:=1) (v:=.pointer (some ⟨cb,0,none⟩)) rfl (by kernel_rfl) (λ_ _ _ h=>h) HHS (by rfl) ?_ ?_
   ·(rintro wz ⟨z0,z1,z2,z3⟩;go_simp)
   simp only[Act.put,bH,bI,bJ];refine Ce.tkH (i:=2) (v:=.pointer (some ⟨cb,1,none⟩)) rfl (by kernel_rfl) (λ_ _ _ h=>h) HHS (by rfl) ?_ ?_
   ·(rintro wz ⟨z0,z1,z2,z3⟩;go_simp)
   simp only[Act.put,bH,bI,bJ];refine Ce.tkH (i:=3) (v:=.agg #[.string hn,.slice (some ⟨g7,0,none⟩) eB.length eB.length]) rfl (by kernel_rfl) (λ_ _ _ h=>h) HHS (by rfl) ?_ ?_
   ·(rintro wz ⟨z0,z1,z2,z3⟩;go_simp)
   simp only[Act.put,bH,bI,bJ];refine Ce.one (i:=4) (by kernel_rfl) rfl (λK hK=>?_)
   go_simp
   refine(Aa HC8 g7 _ ((Aa HKw').trans ((Aa HK7a).trans (Ac.refl [] v8).drew)) ((Aa HPf).kept (Ac.refl [] v8).drew)).mono ?_;rintro _ v9 ⟨rfl,k9⟩;have HK9:Hid (Ac [] v8 v9):=(Ac.refl [] v8).drew.trans k9;refine hK.out _ _ (λ_=>Aa HS8 _ (Aa HK9)) ?_;clear hK K k9;refine Ce.done (by kernel_rfl) ?_ _
   try simp only[Act.put,bH,bI,bJ]
   refine Aa HKk1 _ _ ?_;clear HKk1 K1 HHS HC8;have HKW9:Hid (Ac [] W' v9):=(Aa HK7a).trans (Aa HK9);have HGo:Hid (∀(a:Act) (wz:World),Ac [] W' wz->(!HF&& !RE)=false->M5 (bh w3 k (IX (Am r) s) r s) (λ_ _ _ _=>False) (pre++[x]) M W' .normal a wz):=by
    intro a wz hkz hb;have hi2:=BC (bh.own (bZ w3.heap.size)) (s:=(pre,M)) (Aa HI0) hkz;obtain⟨sts',ad',cp',g1,g2,g3,g4,g5⟩:=hi2.out;refine⟨hkz.mono (by simp),M,⟨hi2.kept,sts',ad',cp',g1,g2,g3,?_,g5⟩,λq hq=>⟨Or.inl hq,?_⟩⟩
    .rw[g4,Aa HSo,hb,if_neg (by simp),cK]
    .have hsz:=hkz.size;rw[Aa H5]at hq;rcases bS.1 hq with rfl|hq
     .have:=(Aa H1).lt;omega
     .have:=((Aa H2).lt q (by simpa using hq)).2;omega
   cases HF with
   |true=>
    refine ff rfl (wpIn_exit ?_);exact Aa HGo ⟨#[],[]⟩ _ (Aa HKW9) (by simp)
   |false=>
    refine eV rfl (wpIn_skip ?_);refine Aa HK8 _ _ ?_;clear HK8 K8;have HSs:Hid (∃kb ko bv og oc,AE W' sp [.pointer (some ⟨kb,ko,none⟩),bv,.slice og VL oc] 237):=by
     obtain⟨kb,ko,bad,bcp,lvs',oad',ocp',sad',scp',fs',h1,_⟩:=((Aa HS3).kept (Aa HI0).kept).at_;have hb:=h1.gA;rw[FI,Aa HVL2]at hb;exact⟨kb,ko,_,oad',ocp',hb⟩
    obtain⟨kb,ko,bv,og,oc,hsb⟩:=Aa HSs;have HSb:=Ab hsb;clear hsb HSs;have HS9:Hid (∀wz,Ac [] v9 wz->wz.rangeAt Bx 0 EX/\Ac [] v9 wz/\wz.cell? ⟨tb,0,none⟩=some (.pointer (some ⟨sp,0,none⟩))/\wz.cell? ⟨ob,0,none⟩=some (.int .i64 OH)/\wz.cell? ⟨sp,2,none⟩=some (.slice og VL oc)):=by
     intro wz hkz;have hk:=(Aa HKW9).trans hkz;have h0:=((Aa HBW).2.2.2.1.kept hk (by simp)).cell 0;have h1:=((Aa HBW).2.2.2.2.kept hk (by simp)).cell 0;have h2:=((Aa HSb).kept hk (by simp)).cell 2;simp at h0 h1 h2;exact⟨((Aa HBl).kept hk (by simp)).range,hkz,h0,h1,h2⟩
    refine dM (λK9 hK9=>?_);have HK9k:=Ab hK9;clear hK9;have HE9:Hid (∀(y13 y14 y15 y16 y17 y18 y19 y20 y21 y22 y23 y24 y25 y26 y27 y28 y29 y30 y31 y32 y33 y34 y35 y36 y37 y38 y39 y40 y41 y42 y43 y44 y45 y46 y47 y48 y49 y50 y51 y52 y53 y54 y55 y56 y57 y58 y59 y60 y61 y62 y63 y64 y65 y66 y67 y68 y69 y70:Value) (WB:Nat) (B:Bool) (y:List cR) (wz:World),Ac [] v9 wz->y.length=26->AE wz WB (Ai (Bf y)) 243->B= !RE->K9 ⟨#[.pointer (some ⟨cb,0,none⟩),.int .i64 k,.pointer (some ⟨N,0,none⟩),.pointer (some ⟨N+1,0,none⟩),.slice none 0 0,.pointer (some ⟨N+2,0,none⟩),.pointer (some ⟨tb,0,none⟩),.pointer (some ⟨ob,0,none⟩),.pointer (some ⟨SB,0,none⟩),.pointer (some ⟨Bx,0,none⟩),.pointer (some ⟨HB,0,none⟩),.pointer (some ⟨WB,0,none⟩),.bool B,y13,y14,y15,y16,y17,y18,y19,y20,y21,y22,y23,y24,y25,y26,y27,y28,y29,y30,y31,y32,y33,y34,y35,y36,y37,y38,y39,y40,y41,y42,y43,y44,y45,y46,y47,y48,y49,y50,y51,y52,y53,y54,y55,y56,y57,y58,y59,y60,y61,y62,y63,y64,y65,y66,y67,y68,y69,y70],[]⟩ wz):=by
     intro y13 y14 y15 y16 y17 y18 y19 y20 y21 y22 y23 y24 y25 y26 y27 y28 y29 y30 y31 y32 y33 y34 y35 y36 y37 y38 y39 y40 y41 y42 y43 y44 y45 y46 y47 y48 y49 y50 y51 y52 y53 y54 y55 y56 y57 y58 y59 y60 y61 y62 y63 y64 y65 y66 y67 y68 y69 y70 WB B y wz hkz hyl hWB hB;refine Aa HK9k _ _ ?_;clear HK9k K9;have HKz:=Ab hkz;have HyL:=Ab hyl;have HWB:=Ab hWB;have HKWz:Hid (Ac [] W' wz):=(Aa HKW9).trans hkz;clear hkz hyl hWB;refine dM (λK1 hK1=>?_);have HKk1:=Ab hK1;clear hK1;refine AZ (by rfl) (by rintro ⟨_,_,h⟩;exact h) ?_;go_wp2;refine Aa HKk1 _ _ ?_;clear HKk1 K1;cases RE with
     |true=>
      subst hB;refine eV rfl (wpIn_skip ?_);exact Aa HGo ⟨#[],[]⟩ _ (Aa HKWz) (by simp)
     |false=>
      subst hB;refine ff rfl ?_;have HC11:=Ab (λwy (hk:Ac [] wz wy)=>Aa HNe WB (Bf y) wy ((Aa HKw').trans ((Aa HKWz).trans hk)) (by unfold Bf;rw[bX];exact Aa HyL) ((Aa HWB).kept hk (by simp)));obtain⟨SL,hSL⟩:∃SL,sts.length=SL:=⟨_,rfl⟩;have HSL:=Ab hSL;have HBs:Hid (∀wy,Ac [] wz wy->AE wy SB [.slice ad SL cp] 137/\AE wy HB [.string hn,.slice (some ⟨g7,0,none⟩) eB.length eB.length] 104/\AE wy (N+1) [.int .i64 k] 3/\AE wy (N+2) [.int .i64 hp,.string hn,.slice adh eB.length cph,.slice adb db.length cpb] 189):=by
       intro wy hk;have hkW:=(Aa HKWz).trans hk;have h0:=(Aa H1).kept hkW (by simp);rw[hSL]at h0;exact⟨h0,(Aa HBh).kept (((Aa HK9).trans (Aa HKz)).trans hk) (by simp),(Aa HBW).2.1.kept hkW (by simp),(Aa HBW).2.2.1.kept hkW (by simp)⟩
      have HSt:Hid (∀wy,AE wy SB [.slice ad SL cp] 137/\AE wy HB [.string hn,.slice (some ⟨g7,0,none⟩) eB.length eB.length] 104/\AE wy (N+1) [.int .i64 k] 3/\AE wy (N+2) [.int .i64 hp,.string hn,.slice adh eB.length cph,.slice adb db.length cpb] 189->wy.cell? ⟨SB,0,none⟩=some (.slice ad SL cp)/\wy.cell? ⟨HB,0,none⟩=some (.string hn)/\wy.cell? ⟨HB,1,none⟩=some (.slice (some ⟨g7,0,none⟩) eB.length eB.length)/\wy.cell? ⟨N+1,0,none⟩=some (.int .i64 k)/\wy.cell? ⟨N+2,3,none⟩=some (.slice adb db.length cpb)):=by
       rintro wy ⟨b0,b1,b2,b3⟩;have h0:=b0.cell 0;have h1:=b1.cell 0;have h2:=b1.cell 1;have h3:=b2.cell 0;have h4:=b3.cell 3;simp at h0 h1 h2 h3 h4;exact⟨h0,h1,h2,h3,h4⟩
      clear hSL;have HHS:=Ab (Aa HSt wz.drew (Aa HBs _ (Ac.refl [] wz).drew));refine DO 9 (λwy=>wy.cell? ⟨SB,0,none⟩=some (.slice ad SL cp)/\wy.cell? ⟨HB,0,none⟩=some (.string hn)/\wy.cell? ⟨HB,1,none⟩=some (.slice (some ⟨g7,0,none⟩) eB.length eB.length)/\wy.cell? ⟨N+1,0,none⟩=some (.int .i64 k)/\wy.cell? ⟨N+2,3,none⟩=some (.slice adb db.length cpb)) (by kernel_rfl) (by rfl) (by rintro ⟨_,_,h⟩;exact h) ?_;refine Ce.tk (i:=0) (v:=.slice ad SL cp) rfl (by kernel_rfl) (λ_ _ _ h=>h) HHS (by rfl) ?_ ?_
      ·(rintro wz ⟨z0,z1,z2,z3,z4⟩;go_simp)
      simp only[Act.put,bH,bI,bJ];refine Ce.tk (i:=1) (v:=.agg #[.string hn,.slice (some ⟨g7,0,none⟩) eB.length eB.length]) rfl (by kernel_rfl) (λ_ _ _ h=>h) HHS (by rfl) ?_ ?_
      ·(rintro wz ⟨z0,z1,z2,z3,z4⟩;go_simp)
      simp only[Act.put,bH,bI,bJ];refine Ce.tk (i:=2) (v:=.int .i64 k) rfl (by kernel_rfl) (λ_ _ _ h=>h) HHS (by rfl) ?_ ?_
      ·(rintro wz ⟨z0,z1,z2,z3,z4⟩;go_simp)
      simp only[Act.put,bH,bI,bJ];refine Ce.tk (i:=3) (v:=.pointer (some ⟨N+2,3,none⟩)) rfl (by kernel_rfl) (λ_ _ _ h=>h) HHS (by rfl) ?_ ?_
      ·(rintro wz ⟨z0,z1,z2,z3,z4⟩;go_simp)
      simp only[Act.put,bH,bI,bJ];refine Ce.tk (i:=4) (v:=.slice adb db.length cpb) rfl (by kernel_rfl) (λ_ _ _ h=>h) HHS (by rfl) ?_ ?_
      ·(rintro wz ⟨z0,z1,z2,z3,z4⟩;go_simp)
      simp only[Act.put,bH,bI,bJ];refine Ce.one (i:=5) (by kernel_rfl) rfl (λK hK=>?_)
      go_simp
      refine(Aa HC11 _ (Ac.refl [] wz).drew).mono ?_;rintro _ u1 ⟨nad,nn,ncp,rfl,k1'⟩;have k1:Ac [] wz u1:=(Ac.refl [] wz).drew.trans k1';refine hK.out _ _ (λ_=>Aa HSt _ (Aa HBs _ k1)) ?_;clear hK K
      try simp only[Act.put,bH,bI,bJ]
      have HHS1:=Ab (Aa HSt _ (Aa HBs _ k1));refine Ce.tk (i:=6) (v:=.agg #[.string hn,.slice (some ⟨g7,0,none⟩) eB.length eB.length,.int .i64 k,.slice nad nn ncp]) rfl (by kernel_rfl) (λ_ _ _ h=>h) HHS1 (by rfl) ?_ ?_
      ·(rintro wz ⟨z0,z1,z2,z3,z4⟩;go_simp)
      simp only[Act.put,bH,bI,bJ];refine Ce.one (i:=7) (by kernel_rfl) rfl (λK hK=>?_)
      go_simp
      have k2:=k1.alloc (.cells #[.string hn,.slice (some ⟨g7,0,none⟩) eB.length eB.length,.int .i64 k,.slice nad nn ncp] 176);refine hK.out _ _ (λ_=>Aa HSt _ (Aa HBs _ k2)) ?_;clear hK K
      try simp only[Act.put,bH,bI,bJ]
      have hkW1:Ac [] W' u1:=(Aa HKWz).trans k1;have hrow1:u1.ownsRow SB 176 4 (.slice ad SL cp) SL (sts.flatMap (OE k)):=by
       have h:=Ad (Aa H2) hkW1 (by simp);rw[Aa HSL]at h;exact h
      (have hSBu:SB+1<=u1.heap.size:=by have h1:=(Aa H1).lt;have h2:=hkW1.size;omega);(have hSL1:SL<=100000:=by have:=Aa HLs;have:=Aa HSL;omega);refine Ce.one (i:=8) (by kernel_rfl) rfl (λK hK=>?_);refine fc _ (by rfl) _ _ _ (by rfl) SB 176 i0 _ 4 72 underlying137 hi0 hz0 hz1 hz2 rfl (by omega) (.slice ad SL cp) SL (sts.flatMap (OE k)) (by rfl) (bQ hrow1 _)
       ⟨u1.heap.size,0,none⟩ 1 1 [.string hn,.slice (some ⟨g7,0,none⟩) eB.length eB.length,.int .i64 k,.slice nad nn ncp] (by rfl) (by rfl) (cj (cs:=#[.string hn,.slice (some ⟨g7,0,none⟩) eB.length eB.length,.int .i64 k,.slice nad nn ncp]) (t:=176) (fr:=(0,0)) (cA u1 _)) (by simp[Value.oneCell'])
       (by omega) (by unfold maxLen;omega) (by omega) (by simp;omega) (u1.heap.size+1) (by simp) ?_
      intro gg cap u3 hown3 hgrow hat3 hlt3;(have hap:∀{b:Nat} {cs:List Value} {t:TypeId},AE u1 b cs t->176≠t->(Value.slice ad SL cp).ownBlock≠some b:=λhb hne=>AS hrow1 hb hne);have hb1:=Aa HBs u1 k1;have hb3:AE u3 SB [.slice ad SL cp] 137/\AE u3 HB [.string hn,.slice (some ⟨g7,0,none⟩) eB.length eB.length] 104/\AE u3 (N+1) [.int .i64 k] 3/\AE u3 (N+2) [.int .i64 hp,.string hn,.slice adh eB.length cph,.slice adb db.length cpb] 189:=⟨(hb1.1.alloc _).grown hgrow (hap hb1.1 (by decide)),(hb1.2.1.alloc _).grown hgrow (hap hb1.2.1 (by decide)),(hb1.2.2.1.alloc _).grown hgrow (hap hb1.2.2.1 (by decide)),(hb1.2.2.2.alloc _).grown hgrow (hap hb1.2.2.2 (by decide))⟩;have hSB3:=hb3.1;have kM:Ac (SB::(Value.slice ad SL cp).ownBlock.toList) W' u3:=((hkW1.mono (by simp)).alloc (.cells #[.string hn,.slice (some ⟨g7,0,none⟩) eB.length eB.length,.int .i64 k,.slice nad nn ncp] 176)).grown hgrow (λq hq=>Or.inl (cF _ (by simpa using hq)));refine hK.out _ _ (λ_=>Aa HSt _ hb3) ?_;clear hK K
      try simp only[Act.put,bH,bI,bJ]
      have c8:=hSB3.cell 0;have f8:=hSB3.frozen 0;simp at c8;refine Ce.one (i:=9) (by kernel_rfl) rfl (λK hK=>?_)
      go_simp
      refine hK.out _ _ (λh=>absurd rfl h) ?_;clear hK K;refine Ce.done (by kernel_rfl) ?_ _;have hM5:=Aa H5;rw[Aa HSL]at hM5;have kM4:Ac M W' (u3.setCell ⟨SB,0,none⟩ (.slice (some ⟨gg,0,none⟩) (SL+1) cap)):=by
       rw[hM5];exact kM.setCell (p:=⟨SB,0,none⟩) (Or.inl (dg ..)) _
      have hMge:∀q∈M,SB<=q:=by
       intro q hq;rw[hM5]at hq;rcases bS.1 hq with rfl|hq
       .exact bZ _
       .exact(hrow1.lt q (by simpa using hq)).1
      (have hset:∀{p:Gm},Ec u3 p->Ec (u3.setCell ⟨SB,0,none⟩ (.slice (some ⟨gg,0,none⟩) (SL+1) cap)) p:=fun{p} hp=>Ag (v:=p.tv) hp (AS (v1:=p.tv) hp hSB3 (by decide)) _);have hgr:∀{p:Gm},Ec u1 p->Ec u3 p:=fun{p} hp=>dB (v:=p.tv) (bQ (v:=p.tv) hp _) hgrow (by
       cases hpo:p.tv.ownBlock with
       |none=>exact Or.inl rfl
       |some q=>exact Or.inr (λe=>BB (v1:=p.tv) hp hrow1 (by decide) q hpo e.symm))
      have hPn:Ec u1 ⟨⟨hn,TS⟩,.slice (some ⟨g7,0,none⟩) eB.length eB.length⟩:=(Aa HPf).kept (((Aa HK9).trans (Aa HKz)).trans k1);refine⟨kM4,SB::[gg],⟨(Aa HI0).kept.trans' kM4 (λq hq=>Or.inr (by have:=hMge q hq;have:=Aa HSB;omega)),sts++[⟨⟨⟨hn,TS⟩,.slice (some ⟨g7,0,none⟩) eB.length eB.length⟩,.slice nad nn ncp⟩],some ⟨gg,0,none⟩,cap,?_,?_,?_,?_,?_⟩,?_⟩
      .rw[Aa HSB,cc,Aa HSL];exact hSB3.set 0 _
      .rw[Aa HSB,cc,Aa HSL,cw];have h:=Ag hown3 (AS hown3 hSB3 (by decide)) (p:=⟨SB,0,none⟩) (.slice (some ⟨gg,0,none⟩) (SL+1) cap);exact h
      .intro st hst;rcases bY.1 hst with h|h
       .exact⟨hset (hgr (((Aa H3) st h).1.kept hkW1)),((Aa H3) st h).2⟩
       .simp only[bO]at h;subst h;exact⟨hset (hgr hPn),by show TS.length<=1000;have:=Aa HTl;omega,nad,nn,ncp,rfl⟩
      .rw[cW,Aa H4,Aa HSo,if_pos (by rfl),cW];simp only[cu,eW];rw[Aa HFe]
      .rw[Aa HSB,cc];rfl
      .intro q hq;have h3:=hSB3.lt;rcases bS.1 hq with rfl|hq
       .exact⟨Or.inl (by rw[hM5];exact dg ..),by simp;omega⟩
       .simp only[bO]at hq;subst hq;have h4:=(hown3.lt q rfl).2;refine⟨?_,by simp;omega⟩;rcases hat3 with h|h
        .exact Or.inl (by rw[hM5];exact cF _ (by rw[h];simp))
        .exact Or.inr (by have:=hkW1.size;omega)
    clear HK9k;have HHS:=Ab (Aa HS9 v9.drew (Ac.refl [] v9).drew);refine DO 15 (λwz=>wz.rangeAt Bx 0 EX/\Ac [] v9 wz/\wz.cell? ⟨tb,0,none⟩=some (.pointer (some ⟨sp,0,none⟩))/\wz.cell? ⟨ob,0,none⟩=some (.int .i64 OH)/\wz.cell? ⟨sp,2,none⟩=some (.slice og VL oc)) (by kernel_rfl) (by rfl) (by rintro ⟨_,_,h⟩;exact h) ?_;refine Ce.tkH (i:=0) (v:=.pointer (some ⟨sp,0,none⟩)) rfl (by kernel_rfl) (λ_ _ _ h=>h) HHS (by rfl) ?_ ?_
    ·(rintro wz ⟨z0,z1,z2,z3,z4⟩;go_simp)
    simp only[Act.put,bH,bI,bJ];refine Ce.tkH (i:=1) (v:=.int .i64 OH) rfl (by kernel_rfl) (λ_ _ _ h=>h) HHS (by rfl) ?_ ?_
    ·(rintro wz ⟨z0,z1,z2,z3,z4⟩;go_simp)
    simp only[Act.put,bH,bI,bJ];refine Ce.tkH (i:=2) (v:=.pointer (some ⟨sp,0,none⟩)) rfl (by kernel_rfl) (λ_ _ _ h=>h) HHS (by rfl) ?_ ?_
    ·(rintro wz ⟨z0,z1,z2,z3,z4⟩;go_simp)
    simp only[Act.put,bH,bI,bJ];refine Ce.tkH (i:=3) (v:=.pointer (some ⟨sp,0,none⟩)) rfl (by kernel_rfl) (λ_ _ _ h=>h) HHS (by rfl) ?_ ?_
    ·(rintro wz ⟨z0,z1,z2,z3,z4⟩;go_simp)
    simp only[Act.put,bH,bI,bJ];refine Ce.tkH (i:=4) (v:=.pointer (some ⟨sp,2,none⟩)) rfl (by kernel_rfl) (λ_ _ _ h=>h) HHS (by rfl) ?_ ?_
    ·(rintro wz ⟨z0,z1,z2,z3,z4⟩;go_simp)
    simp only[Act.put,bH,bI,bJ];refine Ce.tkH (i:=5) (v:=.slice og VL oc) rfl (by kernel_rfl) (λ_ _ _ h=>h) HHS (by rfl) ?_ ?_
    ·(rintro wz ⟨z0,z1,z2,z3,z4⟩;go_simp)
    simp only[Act.put,bH,bI,bJ];refine Ce.tkH (i:=6) (v:=.int .i64 VL) rfl (by kernel_rfl) (λ_ _ _ h=>h) HHS (by rfl) ?_ ?_
    ·(rintro wz ⟨z0,z1,z2,z3,z4⟩;go_simp)
    simp only[Act.put,bH,bI,bJ];refine Ce.zH (i:=7) (v:=.agg EX.toArray) rfl (by kernel_rfl) (by kernel_rfl) (by kernel_rfl) (by decide) (λ_ _ _ h=>h) (Aa HHS) (yieldsIf_load_mid (by rfl) 243 _ rfl Bx 0 (by rfl) EX _ (λwz hz=>hz.1) underlying243 rfl (by rw[Aa HXe];exact Tryz.ea)) ?_;simp only[Act.put,bH,bI,bJ];have hka:Ac [] v9 v9.drew:=(Ac.refl [] v9).drew;generalize v9.drew=x0 at hka HHS⊢;refine Ce.two (i:=8) (j:=12) (by kernel_rfl) rfl rfl (λK hK=>?_) (λK hK=>?_)
    .go_simp
     refine(Aa HC9 _ ((Aa HKW9).trans hka)).mono ?_;rintro _ x2 ⟨y,B,rfl,hyl,hB,k8'⟩;have HBb:=Ab hB;clear hB;have k8:Ac [] v9 x2:=hka.trans k8';refine hK.out _ _ (λ_=>Aa HS9 _ k8) ?_;clear hK K
     try simp only[Act.put,bH,bI,bJ]
     obtain⟨hyE,hyo⟩:=D4 y hyl;obtain⟨EY,hEY⟩:∃EY,Ai (Bf y)=EY:=⟨_,rfl⟩;have HEY:=Ab hEY;rw[hEY]at hyE hyo⊢;clear hEY;have HHS8:=Ab (Aa HS9 _ k8);refine Ce.tkH (i:=9) (v:=.tuple #[.agg EY.toArray,.bool B]) rfl (by kernel_rfl) (λ_ _ _ h=>h) HHS8 (by rfl) ?_ ?_
     ·(rintro wz ⟨z0,z1,z2,z3,z4⟩;go_simp)
     simp only[Act.put,bH,bI,bJ];refine Ce.tkH (i:=10) (v:=.agg EY.toArray) rfl (by kernel_rfl) (λ_ _ _ h=>h) HHS8 (by rfl) ?_ ?_
     ·(rintro wz ⟨z0,z1,z2,z3,z4⟩;go_simp)
     simp only[Act.put,bH,bI,bJ];refine Ce.tkH (i:=11) (v:=.bool B) rfl (by kernel_rfl) (λ_ _ _ h=>h) HHS8 (by rfl) ?_ ?_
     ·(rintro wz ⟨z0,z1,z2,z3,z4⟩;go_simp)
     simp only[Act.put,bH,bI,bJ];refine Ce.one (i:=12) (by kernel_rfl) rfl (λK hK=>?_)
     go_simp
     have k12:=k8.alloc (.cells (List.replicate 26 (Value.string ⟨#[]⟩)).toArray 243);refine hK.out _ _ (λ_=>Aa HS9 _ k12) ?_;clear hK K
     try simp only[Act.put,bH,bI,bJ]
     have hWB:=AE.new x2 (List.replicate 26 (Value.string ⟨#[]⟩)) 243;have hge:v9.heap.size<=x2.heap.size:=k8.size;change Ce _ _ _ _ _ _ _ _ _ (x2.alloc (.cells (List.replicate 26 (Value.string ⟨#[]⟩)).toArray 243));generalize x2.heap.size=WB at hWB hge⊢;generalize x2.alloc (.cells (List.replicate 26 (Value.string ⟨#[]⟩)).toArray 243)=x3 at k12 hWB⊢;clear k8;have k8:=k12;(have hya:EY.toArray.size=26:=by simp[hyE]);have hth:x3.there WB 0 EY.toArray.size:=by
      have h:=hWB.there;simp only[dD]at h;rw[hya];exact h
     have k13:=k8.ek (b:=WB) (Or.inr hge) EY 0;have hW2:=hWB.gH EY (by rw[hyE];simp);refine Ce.one (i:=13) (by kernel_rfl) rfl (λK hK=>?_);rw[if_pos (by rfl)];refine wp_store_mid 243 _ _ rfl WB 0 EY.toArray (by rfl) (by rfl) hth (by rw[hya];exact Tryz.ea) (dq hyo) ?_;simp only[fb];refine hK.out _ _ (λ_=>Aa HS9 _ k13) ?_;clear hK K;generalize x3.setCells WB 0 EY=x4 at k13 hW2⊢
     try simp only[Act.put,bH,bI,bJ]
     refine Ce.one (i:=14) (by kernel_rfl) rfl (λK hK=>?_)
     go_simp
     refine hK.out _ _ (λ_=>Aa HS9 _ k13) ?_;clear hK K;refine Ce.done (by kernel_rfl) ?_ _
     try simp only[Act.put,bH,bI,bJ]
     exact Aa HE9 _ _ _ _ _ _ _ _ _ _ _ _ _ _ _ _ _ _ _ _ _ _ _ _ _ _ _ _ _ _ _ _ _ _ _ _ _ _ _ _ _ _ _ _ _ _ _ _ _ _ _ _ _ _ _ _ _ _ WB B y _ k13 hyl (by rw[Aa HEY];exact hW2) (Aa HBb)
    .go_simp
     have k12:=hka.alloc (.cells (List.replicate 26 (Value.string ⟨#[]⟩)).toArray 243);refine hK.out _ _ (λ_=>Aa HS9 _ k12) ?_;clear hK K
     try simp only[Act.put,bH,bI,bJ]
     have hWB:=AE.new x0 (List.replicate 26 (Value.string ⟨#[]⟩)) 243;have hge:v9.heap.size<=x0.heap.size:=hka.size;change Ce _ _ _ _ _ _ _ _ _ (x0.alloc (.cells (List.replicate 26 (Value.string ⟨#[]⟩)).toArray 243));generalize x0.heap.size=WB at hWB hge⊢;generalize x0.alloc (.cells (List.replicate 26 (Value.string ⟨#[]⟩)).toArray 243)=x1 at k12 hWB⊢;refine Ce.one (i:=8) (by kernel_rfl) rfl (λK hK=>?_)
     go_simp
     refine(Aa HC9 _ ((Aa HKW9).trans k12)).mono ?_;rintro _ x2 ⟨y,B,rfl,hyl,hB,k8'⟩;have HBb:=Ab hB;clear hB;have k8:Ac [] v9 x2:=k12.trans k8';have hWB:=hWB.kept k8' (by simp);refine hK.out _ _ (λ_=>Aa HS9 _ k8) ?_;clear hK K
     try simp only[Act.put,bH,bI,bJ]
     obtain⟨hyE,hyo⟩:=D4 y hyl;obtain⟨EY,hEY⟩:∃EY,Ai (Bf y)=EY:=⟨_,rfl⟩;have HEY:=Ab hEY;rw[hEY]at hyE hyo⊢;clear hEY;have HHS8:=Ab (Aa HS9 _ k8);refine Ce.tkH (i:=9) (v:=.tuple #[.agg EY.toArray,.bool B]) rfl (by kernel_rfl) (λ_ _ _ h=>h) HHS8 (by rfl) ?_ ?_
     ·(rintro wz ⟨z0,z1,z2,z3,z4⟩;go_simp)
     simp only[Act.put,bH,bI,bJ];refine Ce.tkH (i:=10) (v:=.agg EY.toArray) rfl (by kernel_rfl) (λ_ _ _ h=>h) HHS8 (by rfl) ?_ ?_
     ·(rintro wz ⟨z0,z1,z2,z3,z4⟩;go_simp)
     simp only[Act.put,bH,bI,bJ];refine Ce.tkH (i:=11) (v:=.bool B) rfl (by kernel_rfl) (λ_ _ _ h=>h) HHS8 (by rfl) ?_ ?_
     ·(rintro wz ⟨z0,z1,z2,z3,z4⟩;go_simp)
     simp only[Act.put,bH,bI,bJ];(have hya:EY.toArray.size=26:=by simp[hyE]);have hth:x2.there WB 0 EY.toArray.size:=by
      have h:=hWB.there;simp only[dD]at h;rw[hya];exact h
     have k13:=k8.ek (b:=WB) (Or.inr hge) EY 0;have hW2:=hWB.gH EY (by rw[hyE];simp);refine Ce.one (i:=13) (by kernel_rfl) rfl (λK hK=>?_);rw[if_pos (by rfl)];refine wp_store_mid 243 _ _ rfl WB 0 EY.toArray (by rfl) (by rfl) hth (by rw[hya];exact Tryz.ea) (dq hyo) ?_;simp only[fb];refine hK.out _ _ (λ_=>Aa HS9 _ k13) ?_;clear hK K;generalize x2.setCells WB 0 EY=x4 at k13 hW2⊢
     try simp only[Act.put,bH,bI,bJ]
     refine Ce.one (i:=14) (by kernel_rfl) rfl (λK hK=>?_)
     go_simp
     refine hK.out _ _ (λ_=>Aa HS9 _ k13) ?_;clear hK K;refine Ce.done (by kernel_rfl) ?_ _
     try simp only[Act.put,bH,bI,bJ]
     exact Aa HE9 _ _ _ _ _ _ _ _ _ _ _ _ _ _ _ _ _ _ _ _ _ _ _ _ _ _ _ _ _ _ _ _ _ _ _ _ _ _ _ _ _ _ _ _ _ _ _ _ _ _ _ _ _ _ _ _ _ _ WB B y _ k13 hyl (by rw[Aa HEY];exact hW2) (Aa HBb)
  case rdone=>
   intro D M' W2 hD hi hd _;obtain⟨sts,ad,cp,i1,i2,i3,i4,i5⟩:=hi.out;rw[Aa HSB]at i1 i2;obtain⟨SL,hSL⟩:∃SL,sts.length=SL:=⟨_,rfl⟩;have c8:=i1.cell 0;simp[hSL]at c8;have HFin:Hid (∀tmps:Array Value,tmps.getD 4 undef=.slice ad SL cp->QQ .ret ⟨tmps,[DY D]⟩ W2):=by
    intro tmps h4;rw[<-Aa HQQ];have hmk:C1 w.heap.size [D] W2:=⟨by simp,λd hd'=>by simp only[bO]at hd';have:=(Aa HK3).size;omega,λd hd'=>by simp only[bO]at hd';rw[hd'];exact hd⟩;refine Dk [D] W2 hmk (λw' hs=>?_);have hown:OwnFrom w.heap.size (fun(_:Unit) W=>W.ownsRow SB 176 4 (.slice ad sts.length cp) sts.length (sts.flatMap (OE k))/\(∀st∈sts,Ec W st.f/\st.f.f.dc.length<=1000/\∃a n c,st.n=.slice a n c)/\Ac [] w W):=BV (λ_ W W' M h kk hM=>⟨Al h.1 kk (EI hM h.1),λst hst=>⟨Al (h.2.1 st hst).1 kk (EI hM (h.2.1 st hst).1),(h.2.1 st hst).2⟩,EL h.2.2 kk hM (bZ _)⟩);obtain⟨g1,g2,g3⟩:=hs.own hown (s:=()) hmk ⟨i2,i3,(Aa HK3).trans hi.kept⟩;refine⟨_,results_tmp rfl _ _ _,ad,cp,sts,by rw[h4,hSL],?_,Ak g1 (by have:=(Aa HK3).size;have:=Aa HSB;omega),g2,g3⟩;rw[i4,<-Aa HXS,Qn]
   clear i1 i2 i3 i4 i5 hSL hi hd gX;refine Aa HKk _ _ ?_;clear HKk;refine wp_seq_k (λK3 hK3=>?_);have HK3':=Ab hK3;clear hK3;go_wp2;refine Aa HK3' _ _ ?_;clear HK3' K3;refine wp_ret ?_;exact Aa HFin _ rfl
  case rstop=>
   intro D c pre M' W2 _ h _;exact h.elim
 clear HK2k;have HHS:=Ab (Aa HS2 wA.drew (Ac.refl [] wA).drew);refine Cp 12 (λwz=>Ac [] wA wz/\wz.cell? ⟨N,0,none⟩=some (.pointer (some ⟨cb,0,none⟩))/\wz.cell? ⟨N+2,0,none⟩=some (.int .i64 hp)/\wz.cell? ⟨N+2,1,none⟩=some (.string hn)/\wz.cell? ⟨N+2,2,none⟩=some (.slice adh eB.length cph)/\wz.cell? ⟨N+2,3,none⟩=some (.slice adb db.length cpb)) (by kernel_rfl) ?_;refine Ce.tkH (i:=0) (v:=.pointer (some ⟨cb,0,none⟩)) rfl (by kernel_rfl) (Bl HQp) HHS (by rfl) ?_ ?_
 ·(rintro wz ⟨z0,z1,z2,z3,z4,z5⟩;go_simp)
 simp only[Act.put,bH,bI,bJ];refine Ce.tkH (i:=1) (v:=.pointer (some ⟨cb,0,none⟩)) rfl (by kernel_rfl) (Bl HQp) HHS (by rfl) ?_ ?_
 ·(rintro wz ⟨z0,z1,z2,z3,z4,z5⟩;go_simp)
 simp only[Act.put,bH,bI,bJ];refine Ce.tkH (i:=2) (v:=.pointer (some ⟨cb,1,none⟩)) rfl (by kernel_rfl) (Bl HQp) HHS (by rfl) ?_ ?_
 ·(rintro wz ⟨z0,z1,z2,z3,z4,z5⟩;go_simp)
 simp only[Act.put,bH,bI,bJ];refine Ce.tkH (i:=3) (v:=.pointer (some ⟨N+2,3,none⟩)) rfl (by kernel_rfl) (Bl HQp) HHS (by rfl) ?_ ?_
 ·(rintro wz ⟨z0,z1,z2,z3,z4,z5⟩;go_simp)
 simp only[Act.put,bH,bI,bJ];refine Ce.tkH (i:=4) (v:=.slice adb db.length cpb) rfl (by kernel_rfl) (Bl HQp) HHS (by rfl) ?_ ?_
 ·(rintro wz ⟨z0,z1,z2,z3,z4,z5⟩;go_simp)
 simp only[Act.put,bH,bI,bJ];refine Ce.tkH (i:=5) (v:=.agg #[.int .i64 hp,.string hn,.slice adh eB.length cph,.slice adb db.length cpb]) rfl (by kernel_rfl) (Bl HQp) HHS (by rfl) ?_ ?_
 ·(rintro wz ⟨z0,z1,z2,z3,z4,z5⟩;go_simp)
 simp only[Act.put,bH,bI,bJ];have hka:Ac [] wA wA.drew:=(Ac.refl [] wA).drew;generalize wA.drew=x0 at hka HHS⊢;refine Ce.two (i:=6) (j:=10) (by kernel_rfl) rfl rfl (λK hK=>?_) (λK hK=>?_)
 .go_simp
  refine(Aa HCT _ ((Aa HKw).trans hka)).mono ?_;rintro _ x1 ⟨ad6,cp6,rfl,hrow6,k1'⟩;have k1:Ac [] wA x1:=hka.trans k1';refine hK.out _ _ (λ_=>Aa HS2 _ k1) ?_;clear hK K
  try simp only[Act.put,bH,bI,bJ]
  refine Ce.two (i:=7) (j:=10) (by kernel_rfl) rfl rfl (λK hK=>?_) (λK hK=>?_)
  .go_simp
   refine(Aa HV1 ad6 cp6 _ hrow6).mono ?_;rintro _ x2 ⟨oad,ocp,rfl,hrow7,k2'⟩;have k2:Ac [] wA x2:=k1.trans k2';refine hK.out _ _ (λ_=>Aa HS2 _ k2) ?_;clear hK K
   try simp only[Act.put,bH,bI,bJ]
   have HHS2:=Ab (Aa HS2 _ k2);refine Ce.tkH (i:=8) (v:=.agg #[.pointer (some ⟨cb,1,none⟩),.slice adb db.length cpb,.slice oad VR.length ocp]) rfl (by kernel_rfl) (Bl HQp) HHS2 (by rfl) ?_ ?_
   ·(rintro wz ⟨z0,z1,z2,z3,z4,z5⟩;go_simp)
   simp only[Act.put,bH,bI,bJ];refine Ce.two (i:=9) (j:=10) (by kernel_rfl) rfl rfl (λK hK=>?_) (λK hK=>?_)
   .go_simp
    have k3:=k2.alloc (.cells #[.pointer (some ⟨cb,1,none⟩),.slice adb db.length cpb,.slice oad VR.length ocp] 237);refine hK.out _ _ (λ_=>Aa HS2 _ k3) ?_;clear hK K
    try simp only[Act.put,bH,bI,bJ]
    have hsp3:=AE.new x2 [.pointer (some ⟨cb,1,none⟩),.slice adb db.length cpb,.slice oad VR.length ocp] 237;have hr3:=bQ hrow7 (.cells #[.pointer (some ⟨cb,1,none⟩),.slice adb db.length cpb,.slice oad VR.length ocp] 237);refine Ce.one (i:=10) (by kernel_rfl) rfl (λK hK=>?_)
    go_simp
    have k4:=k3.alloc (.cells #[.pointer none] 233);refine hK.out _ _ (λ_=>Aa HS2 _ k4) ?_;clear hK K
    try simp only[Act.put,bH,bI,bJ]
    have htb4:=AE.new (x2.alloc (.cells #[.pointer (some ⟨cb,1,none⟩),.slice adb db.length cpb,.slice oad VR.length ocp] 237)) [.pointer none] 233;have hsp4:=hsp3.alloc (.cells #[.pointer none] 233);have hr6_4:=bQ hrow6 (.cells #[.pointer none] 233);have hr7_4:=bQ hr3 (.cells #[.pointer none] 233);have hne:=show(x2.alloc (.cells #[.pointer (some ⟨cb,1,none⟩),.slice adb db.length cpb,.slice oad VR.length ocp] 237)).heap.size≠x2.heap.size from Nat.ne_of_gt hsp3.lt
    have hge:=k3.size
    try simp only[cD]at hsp4 htb4 hne hge
    generalize((x2.alloc (.cells #[.pointer (some ⟨cb,1,none⟩),.slice adb db.length cpb,.slice oad VR.length ocp] 237)).alloc (.cells #[.pointer none] 233))=WW at k4 hr7_4 hsp4 htb4⊢;have c6:=htb4.cell 0;have f6:=htb4.frozen 0;simp at c6;refine Ce.one (i:=11) (by kernel_rfl) rfl (λK hK=>?_)
    go_simp
    have kz:=k4.setCell (p:=⟨x2.heap.size+1,0,none⟩) (Or.inr hge) (.pointer (some ⟨x2.heap.size,0,none⟩));refine hK.out _ _ (λ_=>Aa HS2 _ kz) ?_;clear hK K;refine Ce.done (by kernel_rfl) ?_ _
    try simp only[Act.put,bH,bI,bJ]
    exact Aa HE2 _ _ _ _ _ _ _ _ _ _ _ _ _ _ _ _ oad ocp (x2.heap.size) (x2.heap.size+1) _ kz (Ag hr7_4 (AS hr7_4 htb4 (by decide)) _) (hsp4.dT ⟨x2.heap.size+1,0,none⟩ hne _) (htb4.set 0 _)
   .go_simp
    have k3:=k2.alloc (.cells #[.pointer none] 233);refine hK.out _ _ (λ_=>Aa HS2 _ k3) ?_;clear hK K
    try simp only[Act.put,bH,bI,bJ]
    have htb3:=AE.new x2 [.pointer none] 233;have hr6_3:=bQ hrow6 (.cells #[.pointer none] 233);have hr7_3:=bQ hrow7 (.cells #[.pointer none] 233);refine Ce.one (i:=9) (by kernel_rfl) rfl (λK hK=>?_)
    go_simp
    have k4:=k3.alloc (.cells #[.pointer (some ⟨cb,1,none⟩),.slice adb db.length cpb,.slice oad VR.length ocp] 237);refine hK.out _ _ (λ_=>Aa HS2 _ k4) ?_;clear hK K
    try simp only[Act.put,bH,bI,bJ]
    have hsp4:=AE.new (x2.alloc (.cells #[.pointer none] 233)) [.pointer (some ⟨cb,1,none⟩),.slice adb db.length cpb,.slice oad VR.length ocp] 237;have hr4:=bQ hr7_3 (.cells #[.pointer (some ⟨cb,1,none⟩),.slice adb db.length cpb,.slice oad VR.length ocp] 237);have htb4:=htb3.alloc (.cells #[.pointer (some ⟨cb,1,none⟩),.slice adb db.length cpb,.slice oad VR.length ocp] 237);have hne:=show x2.heap.size≠(x2.alloc (.cells #[.pointer none] 233)).heap.size from Nat.ne_of_lt htb3.lt
    have hge:=k2.size
    try simp only[cD]at hsp4 htb4 hne hge
    generalize((x2.alloc (.cells #[.pointer none] 233)).alloc (.cells #[.pointer (some ⟨cb,1,none⟩),.slice adb db.length cpb,.slice oad VR.length ocp] 237))=WW at k4 hr4 hsp4 htb4⊢;have c6:=htb4.cell 0;have f6:=htb4.frozen 0;simp at c6;refine Ce.one (i:=11) (by kernel_rfl) rfl (λK hK=>?_)
    go_simp
    have kz:=k4.setCell (p:=⟨x2.heap.size,0,none⟩) (Or.inr hge) (.pointer (some ⟨x2.heap.size+1,0,none⟩));refine hK.out _ _ (λ_=>Aa HS2 _ kz) ?_;clear hK K;refine Ce.done (by kernel_rfl) ?_ _
    try simp only[Act.put,bH,bI,bJ]
    exact Aa HE2 _ _ _ _ _ _ _ _ _ _ _ _ _ _ _ _ oad ocp (x2.heap.size+1) (x2.heap.size) _ kz (Ag hr4 (AS hr4 htb4 (by decide)) _) (hsp4.dT ⟨x2.heap.size,0,none⟩ hne _) (htb4.set 0 _)
  .go_simp
   have k2:=k1.alloc (.cells #[.pointer none] 233);refine hK.out _ _ (λ_=>Aa HS2 _ k2) ?_;clear hK K
   try simp only[Act.put,bH,bI,bJ]
   have htb2:=AE.new x1 [.pointer none] 233;have hr6_2:=bQ hrow6 (.cells #[.pointer none] 233);refine Ce.one (i:=7) (by kernel_rfl) rfl (λK hK=>?_)
   go_simp
   refine(Aa HV1 ad6 cp6 _ hr6_2).mono ?_;rintro _ x3 ⟨oad,ocp,rfl,hrow7,k3'⟩;have k3:Ac [] wA x3:=k2.trans k3';refine hK.out _ _ (λ_=>Aa HS2 _ k3) ?_;clear hK K
   try simp only[Act.put,bH,bI,bJ]
   have htb3:=htb2.kept k3' (by simp);have HHS3:=Ab (Aa HS2 _ k3);refine Ce.tkH (i:=8) (v:=.agg #[.pointer (some ⟨cb,1,none⟩),.slice adb db.length cpb,.slice oad VR.length ocp]) rfl (by kernel_rfl) (Bl HQp) HHS3 (by rfl) ?_ ?_
   ·(rintro wz ⟨z0,z1,z2,z3,z4,z5⟩;go_simp)
   simp only[Act.put,bH,bI,bJ];refine Ce.one (i:=9) (by kernel_rfl) rfl (λK hK=>?_)
   go_simp
   have k4:=k3.alloc (.cells #[.pointer (some ⟨cb,1,none⟩),.slice adb db.length cpb,.slice oad VR.length ocp] 237);refine hK.out _ _ (λ_=>Aa HS2 _ k4) ?_;clear hK K
   try simp only[Act.put,bH,bI,bJ]
   have hsp4:=AE.new x3 [.pointer (some ⟨cb,1,none⟩),.slice adb db.length cpb,.slice oad VR.length ocp] 237;have hr4:=bQ hrow7 (.cells #[.pointer (some ⟨cb,1,none⟩),.slice adb db.length cpb,.slice oad VR.length ocp] 237);have htb4:=htb3.alloc (.cells #[.pointer (some ⟨cb,1,none⟩),.slice adb db.length cpb,.slice oad VR.length ocp] 237);have hne:=show x1.heap.size≠x3.heap.size from Nat.ne_of_lt htb3.lt
   have hge:=k1.size
   try simp only[cD]at hsp4 htb4 hne hge
   generalize(x3.alloc (.cells #[.pointer (some ⟨cb,1,none⟩),.slice adb db.length cpb,.slice oad VR.length ocp] 237))=WW at k4 hr4 hsp4 htb4⊢;have c6:=htb4.cell 0;have f6:=htb4.frozen 0;simp at c6;refine Ce.one (i:=11) (by kernel_rfl) rfl (λK hK=>?_)
   go_simp
   have kz:=k4.setCell (p:=⟨x1.heap.size,0,none⟩) (Or.inr hge) (.pointer (some ⟨x3.heap.size,0,none⟩));refine hK.out _ _ (λ_=>Aa HS2 _ kz) ?_;clear hK K;refine Ce.done (by kernel_rfl) ?_ _
   try simp only[Act.put,bH,bI,bJ]
   exact Aa HE2 _ _ _ _ _ _ _ _ _ _ _ _ _ _ _ _ oad ocp (x3.heap.size) (x1.heap.size) _ kz (Ag hr4 (AS hr4 htb4 (by decide)) _) (hsp4.dT ⟨x1.heap.size,0,none⟩ hne _) (htb4.set 0 _)
 .go_simp
  have k1:=hka.alloc (.cells #[.pointer none] 233);refine hK.out _ _ (λ_=>Aa HS2 _ k1) ?_;clear hK K
  try simp only[Act.put,bH,bI,bJ]
  have htb1:=AE.new x0 [.pointer none] 233;refine Ce.one (i:=6) (by kernel_rfl) rfl (λK hK=>?_)
  go_simp
  refine(Aa HCT _ ((Aa HKw).trans k1)).mono ?_;rintro _ x2 ⟨ad6,cp6,rfl,hrow6,k2'⟩;have k2:Ac [] wA x2:=k1.trans k2';refine hK.out _ _ (λ_=>Aa HS2 _ k2) ?_;clear hK K
  try simp only[Act.put,bH,bI,bJ]
  have htb2:=htb1.kept k2' (by simp);refine Ce.one (i:=7) (by kernel_rfl) rfl (λK hK=>?_)
  go_simp
  refine(Aa HV1 ad6 cp6 _ hrow6).mono ?_;rintro _ x3 ⟨oad,ocp,rfl,hrow7,k3'⟩;have k3:Ac [] wA x3:=k2.trans k3';refine hK.out _ _ (λ_=>Aa HS2 _ k3) ?_;clear hK K
  try simp only[Act.put,bH,bI,bJ]
  have htb3:=htb2.kept k3' (by simp);have HHS3:=Ab (Aa HS2 _ k3);refine Ce.tkH (i:=8) (v:=.agg #[.pointer (some ⟨cb,1,none⟩),.slice adb db.length cpb,.slice oad VR.length ocp]) rfl (by kernel_rfl) (Bl HQp) HHS3 (by rfl) ?_ ?_
  ·(rintro wz ⟨z0,z1,z2,z3,z4,z5⟩;go_simp)
  simp only[Act.put,bH,bI,bJ];refine Ce.one (i:=9) (by kernel_rfl) rfl (λK hK=>?_)
  go_simp
  have k4:=k3.alloc (.cells #[.pointer (some ⟨cb,1,none⟩),.slice adb db.length cpb,.slice oad VR.length ocp] 237);refine hK.out _ _ (λ_=>Aa HS2 _ k4) ?_;clear hK K
  try simp only[Act.put,bH,bI,bJ]
  have hsp4:=AE.new x3 [.pointer (some ⟨cb,1,none⟩),.slice adb db.length cpb,.slice oad VR.length ocp] 237;have hr4:=bQ hrow7 (.cells #[.pointer (some ⟨cb,1,none⟩),.slice adb db.length cpb,.slice oad VR.length ocp] 237);have htb4:=htb3.alloc (.cells #[.pointer (some ⟨cb,1,none⟩),.slice adb db.length cpb,.slice oad VR.length ocp] 237);have hne:=show x0.heap.size≠x3.heap.size from Nat.ne_of_lt htb3.lt
  have hge:=hka.size
  try simp only[cD]at hsp4 htb4 hne hge
  generalize(x3.alloc (.cells #[.pointer (some ⟨cb,1,none⟩),.slice adb db.length cpb,.slice oad VR.length ocp] 237))=WW at k4 hr4 hsp4 htb4⊢;have c6:=htb4.cell 0;have f6:=htb4.frozen 0;simp at c6;refine Ce.one (i:=11) (by kernel_rfl) rfl (λK hK=>?_)
  go_simp
  have kz:=k4.setCell (p:=⟨x0.heap.size,0,none⟩) (Or.inr hge) (.pointer (some ⟨x3.heap.size,0,none⟩));refine hK.out _ _ (λ_=>Aa HS2 _ kz) ?_;clear hK K;refine Ce.done (by kernel_rfl) ?_ _
  try simp only[Act.put,bH,bI,bJ]
  exact Aa HE2 _ _ _ _ _ _ _ _ _ _ _ _ _ _ _ _ oad ocp (x3.heap.size) (x0.heap.size) _ kz (Ag hr4 (AS hr4 htb4 (by decide)) _) (hsp4.dT ⟨x0.heap.size,0,none⟩ hne _) (htb4.set 0 _)
