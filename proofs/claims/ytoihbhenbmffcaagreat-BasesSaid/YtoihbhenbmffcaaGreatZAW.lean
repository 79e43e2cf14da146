import Derived.Test.YtoihbhenbmffcaaGreatZAV
set_option linter.all false
set_option maxHeartbeats 0
open List renaming length->Z,toArray->j1,replicate->kD
open Option renaming none->Y,some->V
open Go.Value renaming slice->U,int->X,string->O,pointer->j2,agg->kx,bool->k0
open Go.IntKind renaming i64->J
open Go.Obj renaming cells->jj
open Go.Ending renaming returned->j3
open Or renaming inl->kn,inr->kp
open Go renaming World->kq,Value->ks
open Go.RowKit renaming Hid->kt
open Go.World renaming cell?->ku,ownsRow->kw
open Go.Act renaming put->kG
namespace Go.Proofs.YtoihbhenbmffcaaGreat
open Go.RowKit Go.Proofs.Tryz
variable{w:kq}{k n:Nat}
theorem Tryz.info220:(Tryz.prog.info? 220).map (λi=>(i.zero,i.size,i.bytes))=V (V (kx #[O ⟨#[]⟩,U Y 0 0,X J 0,U Y 0 0]),4,72):=by kernel_rfl
def Pj{t:AG}(h:CS t):OM (ct t):=by
 rcases h with⟨h,_⟩|⟨a,b,_⟩
 .exact kn (by unfold ct;rw[h];rfl)
 .exact kp ⟨by unfold ct;simp only;omega,by unfold ct;simp only;omega⟩
structure eM(w3:kq)(k:Nat)(al:UInt8->kJ zA->kJ zA)(r:AY)(s:kJ Ag)(pre:kJ (kJ zA))(M:kJ Nat)(W:kq):Prop where
 kept:Ac [] w3 W
 out:∃(sts:kJ dr) (ad:Option Addr) (cp:Nat),AF W w3.heap.size [U ad (Z sts) cp] 108/\kw W w3.heap.size 220 4 (U ad (Z sts) cp) (Z sts) (sts.flatMap (Ox k))/\
  (∀st∈sts,KD W st/\aZ w3.heap.size r s st)/\sts.map (λst=>st.f.f)=(Lo al r s pre).map Bn/\M=w3.heap.size::(U ad (Z sts) cp).ownBlock.toList
def eM.own{o:UInt8->kJ zA->kJ zA}{r:AY}{s:kJ Ag}(u:w.heap.size<=n):OwnFrom n (fun(q:kJ (kJ zA)×kJ Nat) W=>eM w k o r s q.1 q.2 W):=
 Cm (λq W y M h a b=>by
  obtain⟨m,x,t,g,e,i,l⟩:=h.out
  exact⟨E9 h.kept a b u,m,x,t,g.kept a (Dt b g),Am e a (Df b e),λj c=>⟨(i j c).1.map (λp d=>Am (v:=p.tv) d a (Df (v:=p.tv) b d)) (λf=>Am f a (Df b f)),(i j c).2⟩,l⟩)
set_option maxRecDepth 100000
theorem SM(cb k:Nat)(lad:Option Addr)(lcp:Nat)(pcs:kJ CB)(sad:Option Addr)(scp:Nat)(fs:kJ DF)(stv:ks)(r:AY)(s:kJ Ag)(w:kq)(hk:k<Z pcs)(hlen:Z pcs<=1000)(hC:AF w cb [U lad (Z pcs) lcp,U sad (Z fs) scp,stv] 110)(hP:Cv w (U lad (Z pcs) lcp) pcs)(hF:Iw w (U sad (Z fs) scp) fs)(hE:CG fs s)(hcl:Pp pcs[k] r s)(hnl:Z (QE (Kv (Ak r) s) r (Cf r) (C7 r) s)<=100000):
  Calls prog 124 #[j2 (V ⟨cb,0,Y⟩),X J k] w λrr w'=>∃(ad:Option Addr) (cp:Nat) (sts:kJ dr),rr=j3 (U ad (Z sts) cp)/\sts.map (λst=>st.f.f)=(QE (Kv (Ak r) s) r (Cf r) (C7 r) s).map Bn/\
   kw w' w.heap.size 220 4 (U ad (Z sts) cp) (Z sts) (sts.flatMap (Ox k))/\(∀st∈sts,KD w' st/\aZ w.heap.size r s st)/\Ac [] w w':=by
 obtain⟨i0,hi0,hz0,hz1,hz2⟩:=gH Tryz.info220;obtain⟨g,cap,hp,hn,zD,adh,cph,adb,cpb,zE,he,hck,_,_,_,_⟩:=EP hP k hk;simp only[fg]at he;obtain⟨rfl,-,rfl⟩:=he;have hpc:=hP.each _ (fj hk);rw[hck]at hcl hpc;have hfl:=hE.len;have hsl:=hcl.len;have hth:Z zD<=1000:=hcl.fit.head.2;have HCT:kt (∀wz,Ac [] w wz->Calls prog 116 #[kx #[X J hp,O hn,U adh (Z zD) cph,U adb (Z zE) cpb]] wz λe w'=>∃ad cp,e=j3 (U ad (Z (A5 ⟨hp,hn,zD,U adh (Z zD) cph,U adb (Z zE) cpb,zE⟩)) cp)/\kw w' 0 164 2 (U ad (Z (A5 ⟨hp,hn,zD,U adh (Z zD) cph,U adb (Z zE) cpb,zE⟩)) cp) (Z (A5 ⟨hp,hn,zD,U adh (Z zD) cph,U adb (Z zE) cpb,zE⟩)) ((A5 ⟨hp,hn,zD,U adh (Z zD) cph,U adb (Z zE) cpb,zE⟩).flatMap Ap)/\Ac [] wz w'):=
  λwz hk=>(PG ⟨hp,hn,zD,U adh (Z zD) cph,U adb (Z zE) cpb,zE⟩ wz (hpc.kept hk) hcl.fit).mono λe w' ⟨ad,cp,h1,h2,h3⟩=>⟨ad,cp,h1,Al h2 (fP _),h3⟩
 have HV1:kt (∀ad cp wz,kw wz 0 164 2 (U ad (Z (A5 ⟨hp,hn,zD,U adh (Z zD) cph,U adb (Z zE) cpb,zE⟩)) cp) (Z (A5 ⟨hp,hn,zD,U adh (Z zD) cph,U adb (Z zE) cpb,zE⟩)) ((A5 ⟨hp,hn,zD,U adh (Z zD) cph,U adb (Z zE) cpb,zE⟩).flatMap Ap)->Calls prog 145 #[U ad (Z (A5 ⟨hp,hn,zD,U adh (Z zD) cph,U adb (Z zE) cpb,zE⟩)) cp] wz λr w'=>∃ad' cp',r=j3 (U ad' (Z (Dv (A5 ⟨hp,hn,zD,U adh (Z zD) cph,U adb (Z zE) cpb,zE⟩))) cp')/\kw w' 0 21 1 (U ad' (Z (Dv (A5 ⟨hp,hn,zD,U adh (Z zD) cph,U adb (Z zE) cpb,zE⟩))) cp') (Z (Dv (A5 ⟨hp,hn,zD,U adh (Z zD) cph,U adb (Z zE) cpb,zE⟩))) ((Dv (A5 ⟨hp,hn,zD,U adh (Z zD) cph,U adb (Z zE) cpb,zE⟩)).flatMap AU)/\Ac [] wz w'):=
  λad cp wz h=>(Rb ad cp _ 0 wz h hcl.zQ).mono λe w' ⟨ad,cp,h1,h2,h3⟩=>⟨ad,cp,h1,Al h2 (fP _),h3⟩
 have HSea:kt (∀sp oad ocp wz,Ac [] w wz->AF wz sp [j2 (V ⟨cb,1,Y⟩),U adb (Z zE) cpb,U oad (Z (Dv (A5 ⟨hp,hn,zD,U adh (Z zD) cph,U adb (Z zE) cpb,zE⟩))) ocp] 239->kw wz 0 21 1 (U oad (Z (Dv (A5 ⟨hp,hn,zD,U adh (Z zD) cph,U adb (Z zE) cpb,zE⟩))) ocp) (Z (Dv (A5 ⟨hp,hn,zD,U adh (Z zD) cph,U adb (Z zE) cpb,zE⟩))) ((Dv (A5 ⟨hp,hn,zD,U adh (Z zD) cph,U adb (Z zE) cpb,zE⟩)).flatMap AU)->di wz sp (Ak r) s (Cf r++C7 r)):=by
  intro sp oad ocp wz hk hb hr;have hc1:=(hC.kept hk).cell 1;simp at hc1;exact hcl.sea (c:=⟨hp,hn,zD,U adh (Z zD) cph,U adb (Z zE) cpb,zE⟩) ⟨hb,hc1,hF.kept hk⟩ (hpc.body.kept hk) hr hE
 have HVl:kt (Z (Dv (A5 ⟨hp,hn,zD,U adh (Z zD) cph,U adb (Z zE) cpb,zE⟩))=Z (Cf r++C7 r)/\Z (Cf r++C7 r)<=26):=⟨by rw[hcl.order,Ny],hcl.zs⟩;obtain⟨TV,hTV⟩:=kK (A5 ⟨hp,hn,zD,U adh (Z zD) cph,U adb (Z zE) cpb,zE⟩);rw[hTV]at HCT HV1 HSea HVl;have HV2:kt (∀wz,Ac [] w wz->Calls prog 145 #[U adh (Z zD) cph] wz λr' w'=>∃ad' cp',r'=j3 (U ad' (Z (Cf r)) cp')/\Ac [] wz w'):=λwz hk=>(Rb adh cph zD 0 wz (Ad hpc.head hk) (by omega)).mono λe w' ⟨ad,cp,h1,h2,h3⟩=>⟨ad,cp,by rw[h1,hcl.ofHead,Ny],h3⟩
 have hvt:∀t∈zD,OM t:=by
  have hh:=hcl.zg.zD;simp only at hh;rw[hh];intro t ht;obtain⟨u,hu,rfl⟩:=fC.1 ht;exact Pj (hcl.head.args u hu)
 have HBf:kt (∀Bx b wz,Ac [] w wz->Z b=26->AF wz Bx (Ai b) 244->Calls prog 147 #[j2 (V ⟨Bx,0,Y⟩),kx #[X J hp,O hn,U adh (Z zD) cph]] wz λr w'=>∃g,r=j3 (kx #[O hn,U (V ⟨g,0,Y⟩) (Z zD) (Z zD)])/\Dc w' ⟨⟨hn,zD.map (Bq b)⟩,U (V ⟨g,0,Y⟩) (Z zD) (Z zD)⟩/\Ac [] wz w'):=by
  intro Bx b wz hk hb hB;refine(Na Bx 244 b hp hn adh cph zD 0 wz hb hB (Ad hpc.head hk) (by omega) hvt).mono ?_;rintro r w' ⟨g,rfl,hr,k⟩;refine⟨g,rfl,?_,k⟩;show kw w' 0 98 1 _ (Z (zD.map (Bq b))) _;rw[fH];exact Al hr (fP _)
 have HHs:kt (∀(g:Nat) (ts:kJ zA) (f:Ag) wz,Ac [] w wz->Z ts=Z zD->Dc wz ⟨⟨hn,ts⟩,U (V ⟨g,0,Y⟩) (Z zD) (Z zD)⟩->(⟨hn,ts⟩:Cg)=Bn f->AQ f->Calls prog 18 #[j2 (V ⟨cb,1,Y⟩),kx #[O hn,U (V ⟨g,0,Y⟩) (Z zD) (Z zD)]] wz λe w'=>e=j3 (k0 (DI s f))/\Ac [] wz w'):=by
  intro g ts f wz hk htl hpf hf hcf;have hc1:=(hC.kept hk).cell 1;simp at hc1;refine(Ki cb 1 sad scp fs ⟨⟨hn,ts⟩,U (V ⟨g,0,Y⟩) (Z zD) (Z zD)⟩ wz hc1 (hF.kept hk) hpf (by show Z ts<=1000;omega) (by omega) (hE.mono _)).mono ?_;rintro e w' ⟨p,rfl,hcut,k⟩;simp only at hcut⊢;rw[hf]at hcut⊢;exact⟨by rw[hE.zh hcf hcut],k⟩
 have HNe:kt (∀x y WB wz,Ac [] w wz->x∈AE (Kv (Ak r) s) (Ak r) s (Cf r) BM->y∈AE (Kv (Ak r) s) (Ak r) s (C7 r) x->Z y=26->AF wz WB (Ai (Bt y)) 244->Calls prog 149 #[j2 (V ⟨WB,0,Y⟩),U adb (Z zE) cpb] wz λr' w'=>∃(ad:Option Addr) (n cp:Nat) (ps:kJ DF),r'=j3 (U ad n cp)/\(Iw w' (U ad n cp) ps/\n=Z ps/\∀q,(U ad n cp).ownBlock=V q->wz.heap.size<=q)/\eY r s (Bn (Av x r.head)) (ps.map DF.f)/\Ac [] wz w'):=by
  intro x y WB wz hk hx hy hyl hB;have hfst:zE.map Prod.fst=(Ak r).map L1:=by
   have h2:=F2.fst hcl.zg.lits;simp only at h2;rw[h2];rfl
  have hl:∀p∈zE,PR p.1:=λp hp=>by
   have hm:p.1∈(Ak r).map L1:=by
    rw[<-hfst];exact fW hp
   obtain⟨x,hx,e1⟩:=fC.1 hm;rw[<-e1];exact(hcl.lits x hx).2
  refine(X1 WB 244 (Bt y) adb cpb zE wz (by unfold Bt;rw[fH];exact hyl) hB (hpc.body.kept hk) hcl.fit.lits hl).mono ?_;rintro e w' ⟨ad,cp,ps,rfl,h1,h2,h3,k⟩;refine⟨ad,Z ps,cp,ps,rfl,⟨h2,rfl,λq hq=>(h3.lt q hq).1⟩,?_,k⟩;rw[h1,hfst];exact cJ hcl hx hy
 have HCl:=Ab hcl;have HFc:kt (∀b∈AE (Kv (Ak r) s) (Ak r) s (Cf r) BM,De b/\(⟨hn,zD.map (Bq (Bt b))⟩:Cg)=Bn (Av b r.head)/\AQ (Av b r.head)):=λb hb=>by
  have hcan:=KZ hcl.al hcl.parts hcl.head hb;exact⟨Gd hcl.al _ _ De.start b hb,Yv hcl.zg hcl.head hcan,Gc hcan⟩
 have HNl:=Ab hnl;have HPr:=Ab hP;have HCo:=Ab hC;have HCk:=Ab hck;clear hcl hpc hE hF hC hfl hsl hvt hTV hnl;obtain⟨N,hN⟩:=kK w.heap.size;have HN:=Ab hN;obtain⟨PL,hPL⟩:=kK (Z pcs);have HC1:kt (∀wz,Ac [] w wz->ku wz ⟨cb,0,Y⟩=V (U (V ⟨g,0,Y⟩) PL lcp)/\ku wz ⟨g,k*4,Y⟩=V (X J hp)/\ku wz ⟨g,k*4+1,Y⟩=V (O hn)/\ku wz ⟨g,k*4+2,Y⟩=V (U adh (Z zD) cph)/\ku wz ⟨g,k*4+3,Y⟩=V (U adb (Z zE) cpb)):=by
  intro wz hkz;obtain⟨g',cap',hp',hn',hts',adh',cph',adb',cpb',lvs',he',hck',d0,d1,d2,d3⟩:=EP (hP.kept hkz) k hk;rw[hck]at hck';simp only[CB.mk.injEq]at hck';obtain⟨rfl,rfl,rfl,e1,e2,rfl⟩:=hck';simp only[fg,fu,gi]at he';obtain⟨⟨rfl,-,-⟩,-,-⟩:=he';rw[<-e1]at d2;rw[<-e2]at d3;have h0:=(HCo.kept hkz).cell 0;simp[hPL]at h0;exact⟨h0,d0,d1,d2,d3⟩
 have hk0:(0:Int)<=(k:Int):=by omega
 have hk1:(k:Int)<(PL:Int):=by omega
 clear hP hck hPL hlen hN;obtain⟨QQ,hQQ⟩:∃QQ,PM (bodyPostM Fence.wide 0 prog Tryz.f124 λrr w'=>∃(ad:Option Addr) (cp:Nat) (sts:kJ dr),rr=j3 (U ad (Z sts) cp)/\sts.map (λst=>st.f.f)=(QE (Kv (Ak r) s) r (Cf r) (C7 r) s).map Bn/\
   kw w' w.heap.size 220 4 (U ad (Z sts) cp) (Z sts) (sts.flatMap (Ox k))/\(∀st∈sts,KD w' st/\aZ w.heap.size r s st)/\Ac [] w w')=QQ:=⟨_,rfl⟩
 have HQQ:=Ab hQQ;have HQp:kt (∀c a w,¬QQ (.panic c) a w):=by
  intro c a w h;rw[<-hQQ]at h;exact h
 refine F6 func124 rfl (LG ?_);rw[hQQ];clear hQQ;simp only[ntmps124,gS,fD,gh,Nat.reduceAdd,Nat.reduceSub,ju,jv,jG,jB,ia,iO];have HK1:=Ab (((kL [] w).alloc (jj #[j2 (V ⟨cb,0,Y⟩)] 111)).alloc (jj #[X J k] 3));have HB0:=Ab ((kN w [j2 (V ⟨cb,0,Y⟩)] 111).alloc (jj #[X J k] 3));have HB1:kt (AF ((w.alloc (jj #[j2 (V ⟨cb,0,Y⟩)] 111)).alloc (jj #[X J k] 3)) (w.heap.size+1) [X J k] 3):=by
  have h:=kN (w.alloc (jj #[j2 (V ⟨cb,0,Y⟩)] 111)) [X J k] 3;rw[fY]at h;exact h
 refine kI (λK1 HKk=>?_);go_wp2;refine HKk _ _ ?_;clear HKk K1;change Code.wp _ _ _ _ ((w.alloc (jj [j2 (V ⟨cb,0,Y⟩)].toArray 111)).alloc (jj [X J k].toArray 3));generalize hw1:(w.alloc (jj [j2 (V ⟨cb,0,Y⟩)].toArray 111)).alloc (jj [X J k].toArray 3)=w1 at HK1 HB0 HB1⊢;have hsz1:w1.heap.size=w.heap.size+2:=by rw[<-hw1];simp
 clear hw1;rw[Aa HN]at HB0 HB1 hsz1⊢;have HS1:kt (∀wz,Ac [] w1 wz->Ac [] w1 wz/\ku wz ⟨N,0,Y⟩=V (j2 (V ⟨cb,0,Y⟩))/\ku wz ⟨N+1,0,Y⟩=V (X J k)/\ku wz ⟨cb,0,Y⟩=V (U (V ⟨g,0,Y⟩) PL lcp)/\ku wz ⟨g,k*4,Y⟩=V (X J hp)/\ku wz ⟨g,k*4+1,Y⟩=V (O hn)/\ku wz ⟨g,k*4+2,Y⟩=V (U adh (Z zD) cph)/\ku wz ⟨g,k*4+3,Y⟩=V (U adb (Z zE) cpb)):=by
  intro wz hkz;have h0:=(HB0.kept hkz).cell 0;have h1:=(HB1.kept hkz).cell 0;simp at h0 h1;exact⟨hkz,h0,h1,HC1 wz (HK1.trans hkz)⟩
 refine kI (λK1 HKk=>?_);have HHS:=Ab (HS1 w1.drew (kL [] w1).drew);refine Cn 9 (λwz=>Ac [] w1 wz/\ku wz ⟨N,0,Y⟩=V (j2 (V ⟨cb,0,Y⟩))/\ku wz ⟨N+1,0,Y⟩=V (X J k)/\ku wz ⟨cb,0,Y⟩=V (U (V ⟨g,0,Y⟩) PL lcp)/\ku wz ⟨g,k*4,Y⟩=V (X J hp)/\ku wz ⟨g,k*4+1,Y⟩=V (O hn)/\ku wz ⟨g,k*4+2,Y⟩=V (U adh (Z zD) cph)/\ku wz ⟨g,k*4+3,Y⟩=V (U adb (Z zE) cpb)) (by kernel_rfl) ?_;refine Ci.tqH (i:=0) (v:=j2 (V ⟨cb,0,Y⟩)) rfl (Bk HQp) HHS ?_;simp only[kG,ff,fh,fi];refine Ci.tqH (i:=1) (v:=j2 (V ⟨cb,0,Y⟩)) rfl (Bk HQp) HHS ?_;simp only[kG,ff,fh,fi];refine Ci.tqH (i:=2) (v:=j2 (V ⟨cb,0,Y⟩)) rfl (Bk HQp) HHS ?_;simp only[kG,ff,fh,fi];refine Ci.tqH (i:=3) (v:=U (V ⟨g,0,Y⟩) PL lcp) rfl (Bk HQp) HHS ?_;simp only[kG,ff,fh,fi];refine Ci.tqH (i:=4) (v:=X J k) rfl (Bk HQp) HHS ?_;simp only[kG,ff,fh,fi];refine Ci.tqH (i:=5) (v:=j2 (V ⟨g,k*4,Y⟩)) rfl (Bk HQp) HHS ?_;simp only[kG,ff,fh,fi];refine Ci.tqH (i:=6) (v:=kx #[X J hp,O hn,U adh (Z zD) cph,U adb (Z zE) cpb]) rfl (Bk HQp) HHS ?_;simp only[kG,ff,fh,fi];refine Ci.one (i:=7) (by kernel_rfl) rfl (λK hK=>?_)
 go_simp
 refine hK.out _ _ (λ_=>HS1 _ ((kL [] w1).drew.alloc _)) ?_;clear hK K
 try simp only[kG,ff,fh,fi]
 have HB2:=Ab (kN w1.drew [X J 0,O ⟨#[]⟩,U Y 0 0,U Y 0 0] 120);have HK2:=Ab ((kL [] w1).drew.alloc (jj [X J 0,O ⟨#[]⟩,U Y 0 0,U Y 0 0].toArray 120));change Ci _ _ _ _ _ _ _ _ _ (w1.drew.alloc (jj [X J 0,O ⟨#[]⟩,U Y 0 0,U Y 0 0].toArray 120));have hsz:w1.drew.heap.size=N+2:=hsz1;rw[hsz]at HB2;generalize w1.drew.alloc (jj [X J 0,O ⟨#[]⟩,U Y 0 0,U Y 0 0].toArray 120)=w2 at HB2 HK2⊢;have q0:=HB2.cell 0;have q1:=HB2.cell 1;have q2:=HB2.cell 2;have q3:=HB2.cell 3;have f0:=HB2.frozen 0;have f1:=HB2.frozen 1;have f2:=HB2.frozen 2;have f3:=HB2.frozen 3;simp at q0 q1 q2 q3;refine Ci.one (i:=8) (by kernel_rfl) rfl (λK hK=>?_)
 go_simp
 have HB3:=Ab (HB2.zM rfl (X J hp) (O hn) (U adh (Z zD) cph) (U adb (Z zE) cpb));have HK3:=Ab (HK2.zM (N:=N+2) (kp (by omega)) (X J hp) (O hn) (U adh (Z zD) cph) (U adb (Z zE) cpb));refine hK.out _ _ (λ_=>HS1 _ HK3) ?_;clear hK K;refine Ci.done (by kernel_rfl) ?_ _
 try simp only[kG,ff,fh,fi]
 generalize(((w2.setCell ⟨N+2,0,Y⟩ (X J hp)).setCell ⟨N+2,1,Y⟩ (O hn)).setCell ⟨N+2,2,Y⟩ (U adh (Z zD) cph)).setCell ⟨N+2,3,Y⟩ (U adb (Z zE) cpb)=wA at HB3 HK3⊢;refine HKk _ _ ?_;clear HKk K1 HHS HS1 HB2 HK2 q0 q1 q2 q3 f0 f1 f2 f3;have HKw:kt (Ac [] w wA):=HK1.trans HK3;have HBc:kt (AF wA N [j2 (V ⟨cb,0,Y⟩)] 111/\AF wA (N+1) [X J k] 3/\AF wA (N+2) [X J hp,O hn,U adh (Z zD) cph,U adb (Z zE) cpb] 120):=⟨HB0.kept HK3,HB1.kept HK3,by have h:=Aa HB3;simpa using h⟩;clear HB3 HK3 HK1 HB0 HB1 hsz1 hsz;have HS2:kt (∀wz,Ac [] wA wz->Ac [] wA wz/\ku wz ⟨N,0,Y⟩=V (j2 (V ⟨cb,0,Y⟩))/\ku wz ⟨N+2,0,Y⟩=V (X J hp)/\ku wz ⟨N+2,1,Y⟩=V (O hn)/\ku wz ⟨N+2,2,Y⟩=V (U adh (Z zD) cph)/\ku wz ⟨N+2,3,Y⟩=V (U adb (Z zE) cpb)):=by
  intro wz hkz;have h0:=(HBc.1.kept hkz).cell 0;have hb:=HBc.2.2.kept hkz;have h1:=hb.cell 0;have h2:=hb.cell 1;have h3:=hb.cell 2;have h4:=hb.cell 3;simp at h0 h1 h2 h3 h4;exact⟨hkz,h0,h1,h2,h3,h4⟩
 obtain⟨VR,hVR⟩:=kK (Dv TV);rw[hVR]at HV1 HSea HVl;clear hVR;refine kI (λK2 HK2k=>?_);have HE2:kt (∀(y13 y14 y15 y16 y17 y18 y19 y20 y21 y22 y23 y24 y25 y26 y27 y28:ks) (oad:Option Addr) (ocp sp tb:Nat) (wz:kq),Ac [] wA wz->kw wz 0 21 1 (U oad (Z VR) ocp) (Z VR) (VR.flatMap AU)->AF wz sp [j2 (V ⟨cb,1,Y⟩),U adb (Z zE) cpb,U oad (Z VR) ocp] 239->AF wz tb [j2 (V ⟨sp,0,Y⟩)] 237->K2 ⟨#[j2 (V ⟨cb,0,Y⟩),X J k,j2 (V ⟨N,0,Y⟩),j2 (V ⟨N+1,0,Y⟩),U Y 0 0,j2 (V ⟨N+2,0,Y⟩),j2 (V ⟨tb,0,Y⟩),undef,undef,undef,undef,undef,undef,y13,y14,y15,y16,y17,y18,y19,y20,y21,y22,y23,y24,y25,y26,y27,y28,j2 (V ⟨sp,0,Y⟩),undef,undef,undef,undef,undef,undef,undef,undef,undef,undef,undef,undef,undef,undef,undef,undef,undef,undef,undef,undef,undef,undef,undef,undef,undef,undef,undef,undef,undef,undef,undef,undef,undef,undef,undef,undef,undef,undef,undef,undef,undef],[]⟩ wz):=by
  intro y13 y14 y15 y16 y17 y18 y19 y20 y21 y22 y23 y24 y25 y26 y27 y28 oad ocp sp tb wz hkz hrow hsp htb;refine HK2k _ _ ?_;clear HK2k K2;have HSa:=Ab (HSea sp oad ocp wz (HKw.trans hkz) hsp hrow);have HKz:kt (Ac [] w wz):=HKw.trans hkz;have HBz:kt (AF wz N [j2 (V ⟨cb,0,Y⟩)] 111/\AF wz (N+1) [X J k] 3/\AF wz (N+2) [X J hp,O hn,U adh (Z zD) cph,U adb (Z zE) cpb] 120/\AF wz tb [j2 (V ⟨sp,0,Y⟩)] 237):=⟨HBc.1.kept hkz,HBc.2.1.kept hkz,HBc.2.2.kept hkz,htb⟩;clear hkz hrow hsp htb HSea HS2;have e2:=HBz.2.2.1.cell 2;simp at e2;have HC3:=Ab (HV2 wz HKz);refine kI (λK1 HKk=>?_);go_wp2_with fail
  refine HC3.mono ?_;rintro _ v2 ⟨ad',cp',rfl,k2⟩;obtain⟨OH,hOH⟩:=kK (Z (Cf r));have HOH:=Ab hOH;rw[hOH];have HK2:=Ab k2;clear hOH HC3 k2 e2;go_wp2;refine HKk _ _ ?_;clear HKk K1;have HKo:=Ab (HK2.alloc (jj [X J OH].toArray 3));have HBo:=Ab (kN v2 [X J OH] 3);change Code.wp _ _ _ _ (v2.alloc (jj [X J OH].toArray 3));generalize v2.alloc (jj [X J OH].toArray 3)=w3 at HKo HBo⊢;generalize v2.heap.size=ob at HBo⊢;have HK3:kt (Ac [] w w3):=HKz.trans HKo;have HS3:kt (di w3 sp (Ak r) s (Cf r++C7 r)):=HSa.kept HKo;have HB3:kt (∀W,Ac [] w3 W->AF W N [j2 (V ⟨cb,0,Y⟩)] 111/\AF W (N+1) [X J k] 3/\AF W (N+2) [X J hp,O hn,U adh (Z zD) cph,U adb (Z zE) cpb] 120/\AF W tb [j2 (V ⟨sp,0,Y⟩)] 237/\AF W ob [X J OH] 3):=λW hkW=>⟨(HBz.1.kept HKo).kept hkW,(HBz.2.1.kept HKo).kept hkW,(HBz.2.2.1.kept HKo).kept hkW,(HBz.2.2.2.kept HKo).kept hkW,HBo.kept hkW⟩
  clear HSa HKz HBz HK2 HKo HBo HKw HBc;obtain⟨SB,hSB⟩:=kK w3.heap.size;have HSB:=Ab hSB;have HK4:=Ab ((kL [] w3).alloc (jj [U Y 0 0].toArray 108));have HB4:=Ab (kN w3 [U Y 0 0] 108);refine kI (λK1 HKk=>?_);go_wp2;refine HKk _ _ ?_;clear HKk K1;change Code.wp _ _ _ _ (w3.alloc (jj [U Y 0 0].toArray 108));generalize w3.alloc (jj [U Y 0 0].toArray 108)=w4 at HK4 HB4⊢;rw[hSB]at HB4;clear hSB;have t4:=(HB3 w4 HK4).2.2.2.1.cell 0;have o4:=(HB3 w4 HK4).2.2.2.2.cell 0;simp at t4 o4;have HBt:kt (∀wz,Calls prog 146 #[j2 (V ⟨sp,0,Y⟩),X J 0,X J OH,kx (j1 (kD 26 (O ⟨#[]⟩)))] wz λr w'=>∃b1 b2 b3 b4,r=j3 (.func (.func 160) #[] #[j2 (V ⟨b1,0,Y⟩),j2 (V ⟨b2,0,Y⟩),j2 (V ⟨b3,0,Y⟩),j2 (V ⟨b4,0,Y⟩)])/\
    AF w' b1 [j2 (V ⟨sp,0,Y⟩)] 237/\AF w' b2 (Ai (Bt BM)) 244/\AF w' b3 [X J ((0:Nat):Int)] 3/\AF w' b4 [X J OH] 3/\(wz.heap.size<=b1/\wz.heap.size<=b2/\wz.heap.size<=b3/\wz.heap.size<=b4)/\Ac [] wz w'):=λwz=>by
   have h:=JQ sp 0 OH (Ai (Bt BM)) wz (Bh _) (E8 BM rfl).1;rw[NQ]at h⊢;exact h
  refine kI (λK1 HKk=>?_);refine kI (λK5 HK5=>?_);go_wp2_with fail
  refine(HBt _).mono ?_;rintro _ w5 ⟨d1,d2,d3,d4,rfl,n1,n2,n3,n4,hds,k5⟩;have HK35:kt (Ac [] w3 w5):=HK4.trans k5;have HB5:=Ab (HB4.kept k5);have hs5:=k5.size;have hs4:=HK4.size;have zh:=LX sp (Ak r) s (Cf r++C7 r) w3 HS3 OH (by rw[<-Aa HOH,fE];omega) (Cf r) 0 BM d1 d2 d3 d4 w5 [SB] De.start (by omega) (by rw[<-Aa HOH,List.take_left,jK]) ⟨HK35,n1,n2,n3,n4,λq hq=>by
   have hb:=HB4.lt
   have hsb:=Aa HSB
   obtain⟨g1,g2,g3,g4⟩:=hds
   simp only[ft]at hq
   subst hq
   exact⟨by omega,by omega,by omega,by omega,by omega,by omega⟩⟩
  have HIn:kt (eM w3 k (Kv (Ak r) s) r s [] [SB] w5):=⟨HK35,[],Y,0,by rw[Aa HSB];exact HB5,fK _ _ _ _,λst hst=>by simp at hst,rfl,by rw[Aa HSB];rfl⟩;have hw3:w3.heap.size<=w5.heap.size:=HK35.size;have hSl:=HB5.lt;clear n1 n2 n3 n4 hds k5 HBt t4 o4 HB4 HB5 HK4;go_wp2;refine HK5 _ _ ?_;clear HK5 K5;refine wp_block ?_;obtain⟨XS,hXS⟩:=kK (AE (Kv (Ak r) s) (Ak r) s (Cf r) BM);have HXS:=Ab hXS;rw[hXS]at zh HFc;clear hXS;have HXl:kt (∀x∈XS,Z x=26):=λx hx=>(HFc x hx).1.len
  refine Iq (T:=244) (q:=9) rfl (enters_of func160 (by kernel_rfl) rfl) zh (λq hq=>by
   simp only[ft]at hq
   subst hq
   exact hSl) (eM w3 k (Kv (Ak r) s) r s) (λ_ _ _ _=>False) (eM.own hw3) (λ_ _ _ _ _ h _ _=>h) HIn ?rassign ?rbody ?rdone ?rstop
  case rassign=>
   intro l' x W' K hx HK;obtain⟨hxl,hxo⟩:=E8 x (HXl x hx);obtain⟨EX,hEX⟩:=kK (Ai (Bt x));rw[hEX]at hxl hxo HK⊢;have HXo:=Ab hxo;have HXl:=Ab hxl;(have HXa:kt (EX.toArray.size=26):=by show _=_;simp[hxl]);clear hx hEX hxl hxo;simp only[ff,fh,fi]at HK⊢;refine CM (by rfl) (J2 Is) ?_;go_wp2_with ((with_reducible show wpList _ _ _ ({dst:=_,op:=Op.store 244 _ _,type:=_,pos:=_,after:=_,guard:=_}::_) _ _);refine iJ rfl 244 _ _ rfl W'.heap.size 0 (j1 EX) (by rfl) (by rfl) ?_ ?_ ?_ ?_)
   .have h:=(kN W' (kD 26 (O ⟨#[]⟩)) 244).there;simp only[iI]at h;rw[Aa HXa];exact h
   .rw[Aa HXa];exact Tryz.size244
   .exact gZ HXo
   .refine HK _ (((kL [] W').alloc (jj (j1 (kD 26 (O ⟨#[]⟩))) 244)).zI (b:=W'.heap.size) (kp (fJ _)) EX 0) ?_;exact(kN W' (kD 26 (O ⟨#[]⟩)) 244).zO EX (by rw[Aa HXl];simp)
  case rbody=>
   intro l' Bx pre x rest' M W' hxs hi hM hBx hblk;(have hxm:x∈XS:=by rw[hxs];simp);obtain⟨heo,hfeq,hfcan⟩:=HFc x hxm;obtain⟨sts,ad,cp,i1,i2,i3,i4,i5⟩:=hi.out;rw[Aa HSB]at i1 i2 i5;have HLs:kt (Z sts<=100000):=by
    have h1:=congrArg List.length i4;rw[fH,fH]at h1;have h2:=Aa HNl;rw[<-Rx,Aa HXS,hxs]at h2;(have h3:Lo (Kv (Ak r) s) r s (pre++x::rest')=Lo (Kv (Ak r) s) r s pre++Lo (Kv (Ak r) s) r s (x::rest'):=by unfold Lo;rw[iD,gn]);rw[h3,fE]at h2;show Z sts<=100000;omega
   have HKw':kt (Ac [] w W'):=HK3.trans hi.kept;have HBW:=Ab (HB3 W' hi.kept);have HSo:kt (Lo (Kv (Ak r) s) r s (pre++[x])=Lo (Kv (Ak r) s) r s pre++if(!DI s (Av x r.head)&& !(AE (Kv (Ak r) s) (Ak r) s (C7 r) x).isEmpty)=true then[Av x r.head] else[]):=Wh _ _ _ _ _;have HC7:=Ab (HBf Bx (Bt x) W' HKw' (G9 heo) hblk);have HC8:=Ab (λg wz hk hpf=>HHs g (zD.map (Bq (Bt x))) (Av x r.head) wz hk (by rw[fH]) hpf hfeq hfcan);(have hXSm:x∈AE (Kv (Ak r) s) (Ak r) s (Cf r) BM:=by rw[Aa HXS];exact hxm);(obtain⟨YP,hYP⟩:∃YP:kJ zA->Bool->Prop,YP=λy B=>Z y=26/\(B=true->y∈AE (Kv (Ak r) s) (Ak r) s (C7 r) x):=⟨_,rfl⟩);(have HYl:kt (∀y B,YP y B->Z y=26):=λy B h=>by rw[hYP]at h;exact h.1);(have HNx:kt (∀y WB wz,Ac [] w wz->YP y true->AF wz WB (Ai (Bt y)) 244->Calls prog 149 #[j2 (V ⟨WB,0,Y⟩),U adb (Z zE) cpb] wz λr' w'=>∃(ad:Option Addr) (n cp:Nat) (ps:kJ DF),r'=j3 (U ad n cp)/\(Iw w' (U ad n cp) ps/\n=Z ps/\∀q,(U ad n cp).ownBlock=V q->wz.heap.size<=q)/\eY r s (Bn (Av x r.head)) (ps.map DF.f)/\Ac [] wz w'):=λy WB wz hk hy hB=>HNe x y WB wz hk hXSm (by rw[hYP]at hy;exact hy.2 rfl) (HYl y true hy) hB);(have HC9:kt (∀wz,Ac [] W' wz->Calls prog 148 #[j2 (V ⟨sp,0,Y⟩),X J OH,X J (Z (Cf r++C7 r)),kx (j1 (Ai (Bt x)))] wz λr' w'=>∃(y:kJ zA) (B:Bool),r'=j3 (.tuple #[kx (j1 (Ai (Bt y))),k0 B])/\YP y B/\B= !(AE (Kv (Ak r) s) (Ak r) s (C7 r) x).isEmpty/\Ac [] wz w'):=λwz hk=>(Yz sp (Ak r) s (Cf r++C7 r) OH (Z (Cf r++C7 r)) (C7 r) x wz (HS3.kept (hi.kept.trans hk)) heo (by rw[<-Aa HOH,fE];omega) (fJ _) (by rw[gT,<-Aa HOH,List.drop_left])).mono λr' w' ⟨y,B,h1,h2,h3,h4,h5⟩=>⟨y,B,h1,by rw[hYP];exact⟨h2,h4⟩,h3,h5⟩);clear hYP hXSm;have HI0:=Ab hi;have HFe:=Ab hfeq;have HLx:=Ab (G9 heo);have HBl:=Ab hblk;have H1:=Ab i1;have H2:=Ab i2;have H3:=Ab i3;have H4:=Ab i4;have H5:=Ab i5;clear hi hxs hM hblk heo hfeq hfcan i1 i2 i3 i4 i5 hxm;obtain⟨EX,hEX⟩:=kK (Ai (Bt x));have HEX:=Ab hEX;rw[hEX]at HC9 HBl;simp only[hEX];(have HXe:kt (Z EX=26):=by show _=_;rw[<-hEX];unfold Ai;rw[fH];exact HLx);clear hEX;obtain⟨HF,hHF⟩:=kK (DI s (Av x r.head));rw[hHF]at HSo HC8;clear hHF;obtain⟨RE,hRE⟩:=kK (AE (Kv (Ak r) s) (Ak r) s (C7 r) x).isEmpty;rw[hRE]at HSo HC9;clear hRE;obtain⟨FA,hFA⟩:=kK (Av x r.head);rw[hFA]at HSo HFe HNx;clear hFA;obtain⟨VL,hVL⟩:=kK (Z (Cf r++C7 r));have HVL2:=Ab hVL;rw[hVL]at HC9 HVl;clear hVL;simp only[ff,fh,fi];have x0:=HBW.2.2.1.cell 0;have x1:=HBW.2.2.1.cell 1;have x2:=HBW.2.2.1.cell 2;simp at x0 x1 x2;refine wpIn_block ?_;refine j5 (λK7 hK7=>?_);have HK7:=Ab hK7;clear hK7;refine CM (by rfl) (by rintro ⟨_,_,h⟩;exact h) ?_;(go_wp2_with fail);refine HC7.mono ?_;rintro _ v7 ⟨g7,rfl,hpf7,k7⟩;have HK7a:=Ab (k7.alloc (jj [O hn,U (V ⟨g7,0,Y⟩) (Z zD) (Z zD)].toArray 56));have HBh:=Ab (kN v7 [O hn,U (V ⟨g7,0,Y⟩) (Z zD) (Z zD)] 56);have HPf:kt (Dc (v7.alloc (jj [O hn,U (V ⟨g7,0,Y⟩) (Z zD) (Z zD)].toArray 56)) ⟨⟨hn,zD.map (Bq (Bt x))⟩,U (V ⟨g7,0,Y⟩) (Z zD) (Z zD)⟩):=hpf7.kept ((kL [] v7).alloc _);clear HC7 hpf7 k7 x0 x1 x2;obtain⟨TS,hTS⟩:=kK (zD.map (Bq (Bt x)));(have HTl:kt (Z TS=Z zD):=by show _=_;rw[<-hTS,fH]);rw[hTS]at HPf HC8 HFe;clear hTS;go_wp2;refine HK7 _ _ ?_;clear HK7 K7;change Code.wpIn _ _ _ _ _ _ (v7.alloc (jj [O hn,U (V ⟨g7,0,Y⟩) (Z zD) (Z zD)].toArray 56));generalize v7.alloc (jj [O hn,U (V ⟨g7,0,Y⟩) (Z zD) (Z zD)].toArray 56)=v8 at HK7a HBh HPf⊢;generalize v7.heap.size=HB at HBh⊢;have HS8:kt (∀wz,Ac [] v8 wz->Ac [] v8 wz/\ku wz ⟨N,0,Y⟩=V (j2 (V ⟨cb,0,Y⟩))/\ku wz ⟨HB,0,Y⟩=V (O hn)/\ku wz ⟨HB,1,Y⟩=V (U (V ⟨g7,0,Y⟩) (Z zD) (Z zD))):=by
    intro wz hkz;have h0:=(HBW.1.kept (HK7a.trans hkz)).cell 0;have h1:=(HBh.kept hkz).cell 0;have h2:=(HBh.kept hkz).cell 1;simp at h0 h1 h2;exact⟨hkz,h0,h1,h2⟩
   have HHS:=Ab (HS8 v8.drew (kL [] v8).drew);refine j5 (λK8 hK8=>?_);have HK8:=Ab hK8;clear hK8;refine j5 (λK1 hK1=>?_);have HKk1:=Ab hK1;clear hK1;refine Dp 5 (λwz=>Ac [] v8 wz/\ku wz ⟨N,0,Y⟩=V (j2 (V ⟨cb,0,Y⟩))/\ku wz ⟨HB,0,Y⟩=V (O hn)/\ku wz ⟨HB,1,Y⟩=V (U (V ⟨g7,0,Y⟩) (Z zD) (Z zD))) (by kernel_rfl) (by rfl) (by rintro ⟨_,_,h⟩;exact h) ?_;refine Ci.tqH (i:=0) (v:=j2 (V ⟨cb,0,Y⟩)) rfl (λ_ _ _ h=>h) HHS ?_;simp only[kG,ff,fh,fi];refine Ci.tqH (i:=1) (v:=j2 (V ⟨cb,0,Y⟩)) rfl (λ_ _ _ h=>h) HHS ?_;simp only[kG,ff,fh,fi];refine Ci.tqH (i:=2) (v:=j2 (V ⟨cb,1,Y⟩)) rfl (λ_ _ _ h=>h) HHS ?_;simp only[kG,ff,fh,fi];refine Ci.tqH (i:=3) (v:=kx #[O hn,U (V ⟨g7,0,Y⟩) (Z zD) (Z zD)]) rfl (λ_ _ _ h=>h) HHS ?_;simp only[kG,ff,fh,fi];refine Ci.one (i:=4) (by kernel_rfl) rfl (λK hK=>?_)
   go_simp
   refine(HC8 g7 _ (HKw'.trans (HK7a.trans (kL [] v8).drew)) (HPf.kept (kL [] v8).drew)).mono ?_;rintro _ v9 ⟨rfl,k9⟩;have HK9:kt (Ac [] v8 v9):=(kL [] v8).drew.trans k9;refine hK.out _ _ (λ_=>HS8 _ HK9) ?_;clear hK K k9;refine Ci.done (by kernel_rfl) ?_ _
   try simp only[kG,ff,fh,fi]
   refine HKk1 _ _ ?_;clear HKk1 K1 HHS HC8;have HKW9:kt (Ac [] W' v9):=HK7a.trans HK9;have HGo:kt (∀(a:Act) (wz:kq),Ac [] W' wz->(!HF&& !RE)=false->Q0 (eM w3 k (Kv (Ak r) s) r s) (λ_ _ _ _=>False) (pre++[x]) M W' .normal a wz):=by
    intro a wz hkz hb;have hi2:=Bz (eM.own (fJ w3.heap.size)) (s:=(pre,M)) HI0 hkz;obtain⟨sts',ad',cp',g1,g2,g3,g4,g5⟩:=hi2.out;refine⟨hkz.mono (by simp),M,⟨hi2.kept,sts',ad',cp',g1,g2,g3,?_,g5⟩,λq hq=>⟨kn hq,?_⟩⟩
    .rw[g4,Aa HSo,hb,fB (by simp),gd]
    .have hsz:=hkz.size;rw[Aa H5]at hq;rcases fx.1 hq with rfl|hq
     .have:=H1.lt;omega
     .have:=(H2.lt q (by simpa using hq)).2;omega
   cases HF with
   |true=>
    refine wpIn_cond_true rfl (wpIn_exit ?_);exact HGo ⟨#[],[]⟩ _ HKW9 (by simp)
   |false=>
    refine wpIn_cond_false rfl (wpIn_skip ?_);refine HK8 _ _ ?_;clear HK8 K8;have HSs:kt (∃kb ko bv og oc,AF W' sp [j2 (V ⟨kb,ko,Y⟩),bv,U og VL oc] 239):=by
     obtain⟨kb,ko,bad,bcp,lvs',oad',ocp',sad',scp',fs',h1,_⟩:=(HS3.kept HI0.kept).at_;have hb:=h1.zK;rw[Ny,Aa HVL2]at hb;exact⟨kb,ko,_,oad',ocp',hb⟩
    obtain⟨kb,ko,bv,og,oc,hsb⟩:=Aa HSs;have HSb:=Ab hsb;clear hsb HSs;have HS9:kt (∀wz,Ac [] v9 wz->wz.rangeAt Bx 0 EX/\Ac [] v9 wz/\ku wz ⟨tb,0,Y⟩=V (j2 (V ⟨sp,0,Y⟩))/\ku wz ⟨ob,0,Y⟩=V (X J OH)/\ku wz ⟨sp,2,Y⟩=V (U og VL oc)):=by
     intro wz hkz;have hk:=HKW9.trans hkz;have h0:=(HBW.2.2.2.1.kept hk).cell 0;have h1:=(HBW.2.2.2.2.kept hk).cell 0;have h2:=(HSb.kept hk).cell 2;simp at h0 h1 h2;exact⟨(HBl.kept hk).range,hkz,h0,h1,h2⟩
    refine j5 (λK9 hK9=>?_);have HK9k:=Ab hK9;clear hK9;have HE9:kt (∀(y13 y14 y15 y16 y17 y18 y19 y20 y21 y22 y23 y24 y25 y26 y27 y28 y29 y30 y31 y32 y33 y34 y35 y36 y37 y38 y39 y40 y41 y42 y43 y44 y45 y46 y47 y48 y49 y50 y51 y52 y53 y54 y55 y56 y57 y58 y59 y60 y61 y62 y63 y64 y65 y66 y67 y68 y69 y70:ks) (WB:Nat) (B:Bool) (y:kJ zA) (wz:kq),Ac [] v9 wz->YP y B->AF wz WB (Ai (Bt y)) 244->B= !RE->K9 ⟨#[j2 (V ⟨cb,0,Y⟩),X J k,j2 (V ⟨N,0,Y⟩),j2 (V ⟨N+1,0,Y⟩),U Y 0 0,j2 (V ⟨N+2,0,Y⟩),j2 (V ⟨tb,0,Y⟩),j2 (V ⟨ob,0,Y⟩),j2 (V ⟨SB,0,Y⟩),j2 (V ⟨Bx,0,Y⟩),j2 (V ⟨HB,0,Y⟩),j2 (V ⟨WB,0,Y⟩),k0 B,y13,y14,y15,y16,y17,y18,y19,y20,y21,y22,y23,y24,y25,y26,y27,y28,y29,y30,y31,y32,y33,y34,y35,y36,y37,y38,y39,y40,y41,y42,y43,y44,y45,y46,y47,y48,y49,y50,y51,y52,y53,y54,y55,y56,y57,y58,y59,y60,y61,y62,y63,y64,y65,y66,y67,y68,y69,y70],[]⟩ wz):=by
     intro y13 y14 y15 y16 y17 y18 y19 y20 y21 y22 y23 y24 y25 y26 y27 y28 y29 y30 y31 y32 y33 y34 y35 y36 y37 y38 y39 y40 y41 y42 y43 y44 y45 y46 y47 y48 y49 y50 y51 y52 y53 y54 y55 y56 y57 y58 y59 y60 y61 y62 y63 y64 y65 y66 y67 y68 y69 y70 WB B y wz hkz hyl hWB hB;refine HK9k _ _ ?_;clear HK9k K9;have HKz:=Ab hkz;have HyL:=Ab hyl;have HWB:=Ab hWB;have HKWz:kt (Ac [] W' wz):=HKW9.trans hkz;clear hkz hyl hWB;refine j5 (λK1 hK1=>?_);have HKk1:=Ab hK1;clear hK1;refine CM (by rfl) (by rintro ⟨_,_,h⟩;exact h) ?_;go_wp2;refine HKk1 _ _ ?_;clear HKk1 K1;cases RE with
     |true=>
      subst hB;refine wpIn_cond_false rfl (wpIn_skip ?_);exact HGo ⟨#[],[]⟩ _ HKWz (by simp)
     |false=>
      subst hB;refine wpIn_cond_true rfl ?_;have HC11:=Ab (λwy (hk:Ac [] wz wy)=>HNx y WB wy (HKw'.trans (HKWz.trans hk)) HyL (HWB.kept hk));obtain⟨SL,hSL⟩:=kK (Z sts);have HSL:=Ab hSL;have HBs:kt (∀wy,Ac [] wz wy->AF wy SB [U ad SL cp] 108/\AF wy HB [O hn,U (V ⟨g7,0,Y⟩) (Z zD) (Z zD)] 56/\AF wy (N+1) [X J k] 3/\AF wy (N+2) [X J hp,O hn,U adh (Z zD) cph,U adb (Z zE) cpb] 120):=by
       intro wy hk;have hkW:=HKWz.trans hk;have h0:=H1.kept hkW;rw[hSL]at h0;exact⟨h0,HBh.kept ((HK9.trans HKz).trans hk),HBW.2.1.kept hkW,HBW.2.2.1.kept hkW⟩
      have HSt:kt (∀wy,AF wy SB [U ad SL cp] 108/\AF wy HB [O hn,U (V ⟨g7,0,Y⟩) (Z zD) (Z zD)] 56/\AF wy (N+1) [X J k] 3/\AF wy (N+2) [X J hp,O hn,U adh (Z zD) cph,U adb (Z zE) cpb] 120->ku wy ⟨SB,0,Y⟩=V (U ad SL cp)/\ku wy ⟨HB,0,Y⟩=V (O hn)/\ku wy ⟨HB,1,Y⟩=V (U (V ⟨g7,0,Y⟩) (Z zD) (Z zD))/\ku wy ⟨N+1,0,Y⟩=V (X J k)/\ku wy ⟨N+2,3,Y⟩=V (U adb (Z zE) cpb)):=by
       rintro wy ⟨b0,b1,b2,b3⟩;have h0:=b0.cell 0;have h1:=b1.cell 0;have h2:=b1.cell 1;have h3:=b2.cell 0;have h4:=b3.cell 3;simp at h0 h1 h2 h3 h4;exact⟨h0,h1,h2,h3,h4⟩
      clear hSL;have HHS:=Ab (HSt wz.drew (HBs _ (kL [] wz).drew));refine Dp 9 (λwy=>ku wy ⟨SB,0,Y⟩=V (U ad SL cp)/\ku wy ⟨HB,0,Y⟩=V (O hn)/\ku wy ⟨HB,1,Y⟩=V (U (V ⟨g7,0,Y⟩) (Z zD) (Z zD))/\ku wy ⟨N+1,0,Y⟩=V (X J k)/\ku wy ⟨N+2,3,Y⟩=V (U adb (Z zE) cpb)) (by kernel_rfl) (by rfl) (by rintro ⟨_,_,h⟩;exact h) ?_;refine Ci.tq (i:=0) (v:=U ad SL cp) rfl (λ_ _ _ h=>h) HHS ?_;simp only[kG,ff,fh,fi];refine Ci.tq (i:=1) (v:=kx #[O hn,U (V ⟨g7,0,Y⟩) (Z zD) (Z zD)]) rfl (λ_ _ _ h=>h) HHS ?_;simp only[kG,ff,fh,fi];refine Ci.tq (i:=2) (v:=X J k) rfl (λ_ _ _ h=>h) HHS ?_;simp only[kG,ff,fh,fi];refine Ci.tq (i:=3) (v:=j2 (V ⟨N+2,3,Y⟩)) rfl (λ_ _ _ h=>h) HHS ?_;simp only[kG,ff,fh,fi];refine Ci.tq (i:=4) (v:=U adb (Z zE) cpb) rfl (λ_ _ _ h=>h) HHS ?_;simp only[kG,ff,fh,fi];refine Ci.one (i:=5) (by kernel_rfl) rfl (λK hK=>?_)
      go_simp
      refine(HC11 _ (kL [] wz).drew).mono ?_;rintro _ u1 ⟨nad,nn,ncp,nps,rfl,hnps,hnst,k1'⟩;have HNps:=Ab hnps;have HNst:=Ab hnst;clear hnps hnst;have k1:Ac [] wz u1:=(kL [] wz).drew.trans k1';refine hK.out _ _ (λ_=>HSt _ (HBs _ k1)) ?_;clear hK K
      try simp only[kG,ff,fh,fi]
      have HHS1:=Ab (HSt _ (HBs _ k1));refine Ci.tq (i:=6) (v:=kx #[O hn,U (V ⟨g7,0,Y⟩) (Z zD) (Z zD),X J k,U nad nn ncp]) rfl (λ_ _ _ h=>h) HHS1 ?_;simp only[kG,ff,fh,fi];refine Ci.one (i:=7) (by kernel_rfl) rfl (λK hK=>?_)
      go_simp
      have k2:=k1.alloc (jj #[O hn,U (V ⟨g7,0,Y⟩) (Z zD) (Z zD),X J k,U nad nn ncp] 220);refine hK.out _ _ (λ_=>HSt _ (HBs _ k2)) ?_;clear hK K
      try simp only[kG,ff,fh,fi]
      have hkW1:Ac [] W' u1:=HKWz.trans k1;have hrow1:kw u1 SB 220 4 (U ad SL cp) SL (sts.flatMap (Ox k)):=by
       have h:=Ad H2 hkW1;rw[Aa HSL]at h;exact h
      (have hSBu:SB+1<=u1.heap.size:=by have h1:=H1.lt;have h2:=hkW1.size;omega);(have hSL1:SL<=100000:=by have:=Aa HLs;have:=Aa HSL;omega);refine Ci.one (i:=8) (by kernel_rfl) rfl (λK hK=>?_);refine iU _ (by rfl) _ _ _ (by rfl) SB 220 i0 _ 4 72 underlying108 hi0 hz0 hz1 hz2 rfl (by omega) (U ad SL cp) SL (sts.flatMap (Ox k)) (by rfl) (fw hrow1 _)
       ⟨u1.heap.size,0,Y⟩ 1 1 [O hn,U (V ⟨g7,0,Y⟩) (Z zD) (Z zD),X J k,U nad nn ncp] (by rfl) (by rfl) (fM (fX u1 _)) (by simp[Value.oneCell'])
       (by omega) (by unfold maxLen;omega) (by omega) (by simp;omega) (u1.heap.size+1) (by simp) ?_
      intro gg cap u3 hown3 hgrow hat3 hlt3;(have hap:∀{b:Nat} {cs:kJ ks} {t:TypeId},AF u1 b cs t->220≠t->(U ad SL cp).ownBlock≠V b:=λhb hne=>As hrow1 hb hne);have hb1:=Aa HBs u1 k1;have hb3:AF u3 SB [U ad SL cp] 108/\AF u3 HB [O hn,U (V ⟨g7,0,Y⟩) (Z zD) (Z zD)] 56/\AF u3 (N+1) [X J k] 3/\AF u3 (N+2) [X J hp,O hn,U adh (Z zD) cph,U adb (Z zE) cpb] 120:=⟨(hb1.1.alloc _).grown hgrow (hap hb1.1 (by decide)),(hb1.2.1.alloc _).grown hgrow (hap hb1.2.1 (by decide)),(hb1.2.2.1.alloc _).grown hgrow (hap hb1.2.2.1 (by decide)),(hb1.2.2.2.alloc _).grown hgrow (hap hb1.2.2.2 (by decide))⟩;have hSB3:=hb3.1;have kM:Ac (SB::(U ad SL cp).ownBlock.toList) W' u3:=((hkW1.mono (by simp)).alloc (jj #[O hn,U (V ⟨g7,0,Y⟩) (Z zD) (Z zD),X J k,U nad nn ncp] 220)).grown hgrow (λq hq=>kn (gu _ (by simpa using hq)));refine hK.out _ _ (λ_=>HSt _ hb3) ?_;clear hK K
      try simp only[kG,ff,fh,fi]
      have c8:=hSB3.cell 0;have f8:=hSB3.frozen 0;simp at c8;refine Ci.one (i:=9) (by kernel_rfl) rfl (λK hK=>?_)
      go_simp
      refine hK.out _ _ (λh=>absurd rfl h) ?_;clear hK K;refine Ci.done (by kernel_rfl) ?_ _;have hM5:=Aa H5;rw[Aa HSL]at hM5;have kM4:Ac M W' (u3.setCell ⟨SB,0,Y⟩ (U (V ⟨gg,0,Y⟩) (SL+1) cap)):=by
       rw[hM5];exact kM.setCell (p:=⟨SB,0,Y⟩) (kn (gJ ..)) _
      have hMge:∀q∈M,SB<=q:=by
       intro q hq;rw[hM5]at hq;rcases fx.1 hq with rfl|hq
       .exact fJ _
       .exact(hrow1.lt q (by simpa using hq)).1
      have hst13:∀{b e sz n:Nat} {v:ks} {ys:kJ ks},kw u1 b e sz v n ys->e≠220->e≠108->kw (u3.setCell ⟨SB,0,Y⟩ (U (V ⟨gg,0,Y⟩) (SL+1) cap)) b e sz v n ys:=fun{b e sz n v ys} hr h1 h2=>by
       have hr3:=gY (v:=v) (fw (v:=v) hr _) hgrow (by
        cases hpo:v.ownBlock with
        |none=>exact kn rfl
        |some q=>exact kp (λe=>Bg hr hrow1 h1 q hpo e.symm))
       exact Af hr3 (As hr3 hSB3 h2) _
      have hPn:Dc u1 ⟨⟨hn,TS⟩,U (V ⟨g7,0,Y⟩) (Z zD) (Z zD)⟩:=HPf.kept ((HK9.trans HKz).trans k1);refine⟨kM4,SB::[gg],⟨HI0.kept.trans' kM4 (λq hq=>kp (by have:=hMge q hq;have:=Aa HSB;omega)),sts++[⟨⟨⟨hn,TS⟩,U (V ⟨g7,0,Y⟩) (Z zD) (Z zD)⟩,U nad nn ncp,nps⟩],V ⟨gg,0,Y⟩,cap,?_,?_,?_,?_,?_⟩,?_⟩
      .rw[Aa HSB,fE,Aa HSL];exact hSB3.set 0 _
      .rw[Aa HSB,fE,Aa HSL,fR];have h:=Af hown3 (As hown3 hSB3 (by decide)) (p:=⟨SB,0,Y⟩) (U (V ⟨gg,0,Y⟩) (SL+1) cap);exact h
      .intro st hst;rcases fA.1 hst with h|h
       .exact⟨((H3 st h).1.kept hkW1).map (λp hp=>hst13 (v:=p.tv) hp (by decide) (by decide)) (λhr=>hst13 hr (by decide) (by decide)),(H3 st h).2⟩
       .simp only[ft]at h;subst h;obtain⟨q1,q2,q3⟩:=HNps;refine⟨⟨hst13 hPn (by decide) (by decide),by show Z TS<=1000;have:=Aa HTl;omega,⟨hst13 q1.row (by decide) (by decide),λp hp=>⟨hst13 (v:=p.tv) (q1.each p hp).1 (by decide) (by decide),(q1.each p hp).2⟩⟩,nad,ncp,by show U nad nn ncp=_;rw[q2]⟩,λq hq=>?_,?_⟩
        .have h1:wz.heap.size<=q:=q3 q hq;have h2:=HI0.kept.size;have h3:=HKWz.size;omega
        .show eY r s (⟨hn,TS⟩:Cg) _;rw[Aa HFe];exact HNst
      .rw[gn,Aa H4,Aa HSo,fF (by rfl),gn];simp only[fS,iV];rw[Aa HFe]
      .rw[Aa HSB,fE];rfl
      .intro q hq;have h3:=hSB3.lt;rcases fx.1 hq with rfl|hq
       .exact⟨kn (by rw[hM5];exact gJ ..),by simp;omega⟩
       .simp only[ft]at hq;subst hq;have h4:=(hown3.lt q rfl).2;refine⟨?_,by simp;omega⟩;rcases hat3 with h|h
        .exact kn (by rw[hM5];exact gu _ (by rw[h];simp))
        .exact kp (by have:=hkW1.size;omega)
    clear HK9k;have HHS:=Ab (HS9 v9.drew (kL [] v9).drew);refine Dp 15 (λwz=>wz.rangeAt Bx 0 EX/\Ac [] v9 wz/\ku wz ⟨tb,0,Y⟩=V (j2 (V ⟨sp,0,Y⟩))/\ku wz ⟨ob,0,Y⟩=V (X J OH)/\ku wz ⟨sp,2,Y⟩=V (U og VL oc)) (by kernel_rfl) (by rfl) (by rintro ⟨_,_,h⟩;exact h) ?_;refine Ci.tqH (i:=0) (v:=j2 (V ⟨sp,0,Y⟩)) rfl (λ_ _ _ h=>h) HHS ?_;simp only[kG,ff,fh,fi];refine Ci.tqH (i:=1) (v:=X J OH) rfl (λ_ _ _ h=>h) HHS ?_;simp only[kG,ff,fh,fi];refine Ci.tqH (i:=2) (v:=j2 (V ⟨sp,0,Y⟩)) rfl (λ_ _ _ h=>h) HHS ?_;simp only[kG,ff,fh,fi];refine Ci.tqH (i:=3) (v:=j2 (V ⟨sp,0,Y⟩)) rfl (λ_ _ _ h=>h) HHS ?_;simp only[kG,ff,fh,fi];refine Ci.tqH (i:=4) (v:=j2 (V ⟨sp,2,Y⟩)) rfl (λ_ _ _ h=>h) HHS ?_;simp only[kG,ff,fh,fi];refine Ci.tqH (i:=5) (v:=U og VL oc) rfl (λ_ _ _ h=>h) HHS ?_;simp only[kG,ff,fh,fi];refine Ci.tqH (i:=6) (v:=X J VL) rfl (λ_ _ _ h=>h) HHS ?_;simp only[kG,ff,fh,fi];refine Ci.zu (i:=7) (v:=kx (j1 EX)) rfl (by kernel_rfl) (by kernel_rfl) (by kernel_rfl) (by decide) (λ_ _ _ h=>h) HHS (yieldsIf_load_mid (by rfl) 244 _ rfl Bx 0 (by rfl) EX _ (λwz hz=>hz.1) underlying244 rfl (by rw[Aa HXe];exact Tryz.size244)) ?_;simp only[kG,ff,fh,fi];have hka:Ac [] v9 v9.drew:=(kL [] v9).drew;generalize v9.drew=x0 at hka HHS⊢;refine Ci.two (i:=8) (j:=12) (by kernel_rfl) rfl rfl (λK hK=>?_) (λK hK=>?_)
    .go_simp
     refine(HC9 _ (HKW9.trans hka)).mono ?_;rintro _ x2 ⟨y,B,rfl,hyl,hB,k8'⟩;have HBb:=Ab hB;clear hB;have k8:Ac [] v9 x2:=hka.trans k8';refine hK.out _ _ (λ_=>HS9 _ k8) ?_;clear hK K
     try simp only[kG,ff,fh,fi]
     obtain⟨hyE,hyo⟩:=E8 y (HYl y B hyl);obtain⟨EY,hEY⟩:=kK (Ai (Bt y));have HEY:=Ab hEY;rw[hEY]at hyE hyo⊢;clear hEY;have HHS8:=Ab (HS9 _ k8);refine Ci.tqH (i:=9) (v:=.tuple #[kx (j1 EY),k0 B]) rfl (λ_ _ _ h=>h) HHS8 ?_;simp only[kG,ff,fh,fi];refine Ci.tqH (i:=10) (v:=kx (j1 EY)) rfl (λ_ _ _ h=>h) HHS8 ?_;simp only[kG,ff,fh,fi];refine Ci.tqH (i:=11) (v:=k0 B) rfl (λ_ _ _ h=>h) HHS8 ?_;simp only[kG,ff,fh,fi];refine Ci.one (i:=12) (by kernel_rfl) rfl (λK hK=>?_)
     go_simp
     have k12:=k8.alloc (jj (j1 (kD 26 (O ⟨#[]⟩))) 244);refine hK.out _ _ (λ_=>HS9 _ k12) ?_;clear hK K
     try simp only[kG,ff,fh,fi]
     have hWB:=kN x2 (kD 26 (O ⟨#[]⟩)) 244;have hge:v9.heap.size<=x2.heap.size:=k8.size;change Ci _ _ _ _ _ _ _ _ _ (x2.alloc (jj (j1 (kD 26 (O ⟨#[]⟩))) 244));generalize x2.heap.size=WB at hWB hge⊢;generalize x2.alloc (jj (j1 (kD 26 (O ⟨#[]⟩))) 244)=x3 at k12 hWB⊢;clear k8;have k8:=k12;(have hya:EY.toArray.size=26:=by simp[hyE]);have hth:x3.there WB 0 EY.toArray.size:=by
      have h:=hWB.there;simp only[iI]at h;rw[hya];exact h
     have k13:=k8.zI (b:=WB) (kp hge) EY 0;have hW2:=hWB.zO EY (by rw[hyE];simp);refine Ci.one (i:=13) (by kernel_rfl) rfl (λK hK=>?_);rw[fF (by rfl)];refine wp_store_mid 244 _ _ rfl WB 0 (j1 EY) (by rfl) (by rfl) hth (by rw[hya];exact Tryz.size244) (gZ hyo) ?_;simp only[jk];refine hK.out _ _ (λ_=>HS9 _ k13) ?_;clear hK K;generalize x3.setCells WB 0 EY=x4 at k13 hW2⊢
     try simp only[kG,ff,fh,fi]
     refine Ci.one (i:=14) (by kernel_rfl) rfl (λK hK=>?_)
     go_simp
     refine hK.out _ _ (λ_=>HS9 _ k13) ?_;clear hK K;refine Ci.done (by kernel_rfl) ?_ _
     try simp only[kG,ff,fh,fi]
     exact HE9 _ _ _ _ _ _ _ _ _ _ _ _ _ _ _ _ _ _ _ _ _ _ _ _ _ _ _ _ _ _ _ _ _ _ _ _ _ _ _ _ _ _ _ _ _ _ _ _ _ _ _ _ _ _ _ _ _ _ WB B y _ k13 hyl (by rw[Aa HEY];exact hW2) HBb
    .go_simp
     have k12:=hka.alloc (jj (j1 (kD 26 (O ⟨#[]⟩))) 244);refine hK.out _ _ (λ_=>HS9 _ k12) ?_;clear hK K
     try simp only[kG,ff,fh,fi]
     have hWB:=kN x0 (kD 26 (O ⟨#[]⟩)) 244;have hge:v9.heap.size<=x0.heap.size:=hka.size;change Ci _ _ _ _ _ _ _ _ _ (x0.alloc (jj (j1 (kD 26 (O ⟨#[]⟩))) 244));generalize x0.heap.size=WB at hWB hge⊢;generalize x0.alloc (jj (j1 (kD 26 (O ⟨#[]⟩))) 244)=x1 at k12 hWB⊢;refine Ci.one (i:=8) (by kernel_rfl) rfl (λK hK=>?_)
     go_simp
     refine(HC9 _ (HKW9.trans k12)).mono ?_;rintro _ x2 ⟨y,B,rfl,hyl,hB,k8'⟩;have HBb:=Ab hB;clear hB;have k8:Ac [] v9 x2:=k12.trans k8';have hWB:=hWB.kept k8';refine hK.out _ _ (λ_=>HS9 _ k8) ?_;clear hK K
     try simp only[kG,ff,fh,fi]
     obtain⟨hyE,hyo⟩:=E8 y (HYl y B hyl);obtain⟨EY,hEY⟩:=kK (Ai (Bt y));have HEY:=Ab hEY;rw[hEY]at hyE hyo⊢;clear hEY;have HHS8:=Ab (HS9 _ k8);refine Ci.tqH (i:=9) (v:=.tuple #[kx (j1 EY),k0 B]) rfl (λ_ _ _ h=>h) HHS8 ?_;simp only[kG,ff,fh,fi];refine Ci.tqH (i:=10) (v:=kx (j1 EY)) rfl (λ_ _ _ h=>h) HHS8 ?_;simp only[kG,ff,fh,fi];refine Ci.tqH (i:=11) (v:=k0 B) rfl (λ_ _ _ h=>h) HHS8 ?_;simp only[kG,ff,fh,fi];(have hya:EY.toArray.size=26:=by simp[hyE]);have hth:x2.there WB 0 EY.toArray.size:=by
      have h:=hWB.there;simp only[iI]at h;rw[hya];exact h
     have k13:=k8.zI (b:=WB) (kp hge) EY 0;have hW2:=hWB.zO EY (by rw[hyE];simp);refine Ci.one (i:=13) (by kernel_rfl) rfl (λK hK=>?_);rw[fF (by rfl)];refine wp_store_mid 244 _ _ rfl WB 0 (j1 EY) (by rfl) (by rfl) hth (by rw[hya];exact Tryz.size244) (gZ hyo) ?_;simp only[jk];refine hK.out _ _ (λ_=>HS9 _ k13) ?_;clear hK K;generalize x2.setCells WB 0 EY=x4 at k13 hW2⊢
     try simp only[kG,ff,fh,fi]
     refine Ci.one (i:=14) (by kernel_rfl) rfl (λK hK=>?_)
     go_simp
     refine hK.out _ _ (λ_=>HS9 _ k13) ?_;clear hK K;refine Ci.done (by kernel_rfl) ?_ _
     try simp only[kG,ff,fh,fi]
     exact HE9 _ _ _ _ _ _ _ _ _ _ _ _ _ _ _ _ _ _ _ _ _ _ _ _ _ _ _ _ _ _ _ _ _ _ _ _ _ _ _ _ _ _ _ _ _ _ _ _ _ _ _ _ _ _ _ _ _ _ WB B y _ k13 hyl (by rw[Aa HEY];exact hW2) HBb
  case rdone=>
   intro D M' W2 hD hi hd _;obtain⟨sts,ad,cp,i1,i2,i3,i4,i5⟩:=hi.out;rw[Aa HSB]at i1 i2;obtain⟨SL,hSL⟩:=kK (Z sts);have c8:=i1.cell 0;simp[hSL]at c8;have HFin:kt (∀tmps:Array ks,tmps.getD 4 undef=U ad SL cp->QQ .ret ⟨tmps,[FU D]⟩ W2):=by
    intro tmps h4;rw[<-Aa HQQ];have hmk:Ea w.heap.size [D] W2:=⟨by simp,λd hd'=>by simp only[ft]at hd';have:=HK3.size;omega,λd hd'=>by simp only[ft]at hd';rw[hd'];exact hd⟩;refine Eg [D] W2 hmk (λw' hs=>?_);have hown:OwnFrom w.heap.size (fun(_:Unit) W=>kw W SB 220 4 (U ad (Z sts) cp) (Z sts) (sts.flatMap (Ox k))/\(∀st∈sts,KD W st/\aZ w.heap.size r s st)/\Ac [] w W):=Cm (λ_ W W' M h kk hM=>⟨Am h.1 kk (Df hM h.1),λst hst=>⟨(h.2.1 st hst).1.map (λp hp=>Am (v:=p.tv) hp kk (Df (v:=p.tv) hM hp)) (λhr=>Am hr kk (Df hM hr)),(h.2.1 st hst).2⟩,E9 h.2.2 kk hM (fJ _)⟩);obtain⟨g1,g2,g3⟩:=hs.own hown (s:=()) hmk ⟨i2,λst hst=>⟨(i3 st hst).1,λq hq=>by have:=(i3 st hst).2.1 q hq;have:=HK3.size;omega,(i3 st hst).2.2⟩,HK3.trans hi.kept⟩;refine⟨_,results_tmp rfl _ _ _,ad,cp,sts,by rw[h4,hSL],?_,Al g1 (by have:=HK3.size;have:=Aa HSB;omega),g2,g3⟩;rw[i4,<-Aa HXS,Rx]
   clear i1 i2 i3 i4 i5 hSL hi hd zh;refine HKk _ _ ?_;clear HKk;refine kI (λK3 HK3'=>?_);go_wp2;refine HK3' _ _ ?_;clear HK3' K3;refine wp_ret ?_;exact HFin _ rfl
  case rstop=>
   intro D c pre M' W2 _ h _;exact h.elim
 clear HK2k;have HHS:=Ab (HS2 wA.drew (kL [] wA).drew);refine Cn 12 (λwz=>Ac [] wA wz/\ku wz ⟨N,0,Y⟩=V (j2 (V ⟨cb,0,Y⟩))/\ku wz ⟨N+2,0,Y⟩=V (X J hp)/\ku wz ⟨N+2,1,Y⟩=V (O hn)/\ku wz ⟨N+2,2,Y⟩=V (U adh (Z zD) cph)/\ku wz ⟨N+2,3,Y⟩=V (U adb (Z zE) cpb)) (by kernel_rfl) ?_;refine Ci.tqH (i:=0) (v:=j2 (V ⟨cb,0,Y⟩)) rfl (Bk HQp) HHS ?_;simp only[kG,ff,fh,fi];refine Ci.tqH (i:=1) (v:=j2 (V ⟨cb,0,Y⟩)) rfl (Bk HQp) HHS ?_;simp only[kG,ff,fh,fi];refine Ci.tqH (i:=2) (v:=j2 (V ⟨cb,1,Y⟩)) rfl (Bk HQp) HHS ?_;simp only[kG,ff,fh,fi];refine Ci.tqH (i:=3) (v:=j2 (V ⟨N+2,3,Y⟩)) rfl (Bk HQp) HHS ?_;simp only[kG,ff,fh,fi];refine Ci.tqH (i:=4) (v:=U adb (Z zE) cpb) rfl (Bk HQp) HHS ?_;simp only[kG,ff,fh,fi];refine Ci.tqH (i:=5) (v:=kx #[X J hp,O hn,U adh (Z zD) cph,U adb (Z zE) cpb]) rfl (Bk HQp) HHS ?_;simp only[kG,ff,fh,fi];have hka:Ac [] wA wA.drew:=(kL [] wA).drew;generalize wA.drew=x0 at hka HHS⊢;refine Ci.two (i:=6) (j:=10) (by kernel_rfl) rfl rfl (λK hK=>?_) (λK hK=>?_)
 .go_simp
  refine(HCT _ (HKw.trans hka)).mono ?_;rintro _ x1 ⟨ad6,cp6,rfl,hrow6,k1'⟩;have k1:Ac [] wA x1:=hka.trans k1';refine hK.out _ _ (λ_=>HS2 _ k1) ?_;clear hK K
  try simp only[kG,ff,fh,fi]
  refine Ci.two (i:=7) (j:=10) (by kernel_rfl) rfl rfl (λK hK=>?_) (λK hK=>?_)
  .go_simp
   refine(HV1 ad6 cp6 _ hrow6).mono ?_;rintro _ x2 ⟨oad,ocp,rfl,hrow7,k2'⟩;have k2:Ac [] wA x2:=k1.trans k2';refine hK.out _ _ (λ_=>HS2 _ k2) ?_;clear hK K
   try simp only[kG,ff,fh,fi]
   have HHS2:=Ab (HS2 _ k2);refine Ci.tqH (i:=8) (v:=kx #[j2 (V ⟨cb,1,Y⟩),U adb (Z zE) cpb,U oad (Z VR) ocp]) rfl (Bk HQp) HHS2 ?_;simp only[kG,ff,fh,fi];refine Ci.two (i:=9) (j:=10) (by kernel_rfl) rfl rfl (λK hK=>?_) (λK hK=>?_)
   .go_simp
    have k3:=k2.alloc (jj #[j2 (V ⟨cb,1,Y⟩),U adb (Z zE) cpb,U oad (Z VR) ocp] 239);refine hK.out _ _ (λ_=>HS2 _ k3) ?_;clear hK K
    try simp only[kG,ff,fh,fi]
    have hsp3:=kN x2 [j2 (V ⟨cb,1,Y⟩),U adb (Z zE) cpb,U oad (Z VR) ocp] 239;have hr3:=fw hrow7 (jj #[j2 (V ⟨cb,1,Y⟩),U adb (Z zE) cpb,U oad (Z VR) ocp] 239);refine Ci.one (i:=10) (by kernel_rfl) rfl (λK hK=>?_)
    go_simp
    have k4:=k3.alloc (jj #[j2 Y] 237);refine hK.out _ _ (λ_=>HS2 _ k4) ?_;clear hK K
    try simp only[kG,ff,fh,fi]
    have htb4:=kN (x2.alloc (jj #[j2 (V ⟨cb,1,Y⟩),U adb (Z zE) cpb,U oad (Z VR) ocp] 239)) [j2 Y] 237;have hsp4:=hsp3.alloc (jj #[j2 Y] 237);have hr6_4:=fw hrow6 (jj #[j2 Y] 237);have hr7_4:=fw hr3 (jj #[j2 Y] 237);have hne:=show(x2.alloc (jj #[j2 (V ⟨cb,1,Y⟩),U adb (Z zE) cpb,U oad (Z VR) ocp] 239)).heap.size≠x2.heap.size from Nat.ne_of_gt hsp3.lt
    have hge:=k3.size
    try simp only[fY]at hsp4 htb4 hne hge
    generalize((x2.alloc (jj #[j2 (V ⟨cb,1,Y⟩),U adb (Z zE) cpb,U oad (Z VR) ocp] 239)).alloc (jj #[j2 Y] 237))=WW at k4 hr7_4 hsp4 htb4⊢;have c6:=htb4.cell 0;have f6:=htb4.frozen 0;simp at c6;refine Ci.one (i:=11) (by kernel_rfl) rfl (λK hK=>?_)
    go_simp
    have kz:=k4.setCell (p:=⟨x2.heap.size+1,0,Y⟩) (kp hge) (j2 (V ⟨x2.heap.size,0,Y⟩));refine hK.out _ _ (λ_=>HS2 _ kz) ?_;clear hK K;refine Ci.done (by kernel_rfl) ?_ _
    try simp only[kG,ff,fh,fi]
    exact HE2 _ _ _ _ _ _ _ _ _ _ _ _ _ _ _ _ oad ocp (x2.heap.size) (x2.heap.size+1) _ kz (Af hr7_4 (As hr7_4 htb4 (by decide)) _) (hsp4.zB ⟨x2.heap.size+1,0,Y⟩ hne _) (htb4.set 0 _)
   .go_simp
    have k3:=k2.alloc (jj #[j2 Y] 237);refine hK.out _ _ (λ_=>HS2 _ k3) ?_;clear hK K
    try simp only[kG,ff,fh,fi]
    have htb3:=kN x2 [j2 Y] 237;have hr6_3:=fw hrow6 (jj #[j2 Y] 237);have hr7_3:=fw hrow7 (jj #[j2 Y] 237);refine Ci.one (i:=9) (by kernel_rfl) rfl (λK hK=>?_)
    go_simp
    have k4:=k3.alloc (jj #[j2 (V ⟨cb,1,Y⟩),U adb (Z zE) cpb,U oad (Z VR) ocp] 239);refine hK.out _ _ (λ_=>HS2 _ k4) ?_;clear hK K
    try simp only[kG,ff,fh,fi]
    have hsp4:=kN (x2.alloc (jj #[j2 Y] 237)) [j2 (V ⟨cb,1,Y⟩),U adb (Z zE) cpb,U oad (Z VR) ocp] 239;have hr4:=fw hr7_3 (jj #[j2 (V ⟨cb,1,Y⟩),U adb (Z zE) cpb,U oad (Z VR) ocp] 239);have htb4:=htb3.alloc (jj #[j2 (V ⟨cb,1,Y⟩),U adb (Z zE) cpb,U oad (Z VR) ocp] 239);have hne:=show x2.heap.size≠(x2.alloc (jj #[j2 Y] 237)).heap.size from Nat.ne_of_lt htb3.lt
    have hge:=k2.size
    try simp only[fY]at hsp4 htb4 hne hge
    generalize((x2.alloc (jj #[j2 Y] 237)).alloc (jj #[j2 (V ⟨cb,1,Y⟩),U adb (Z zE) cpb,U oad (Z VR) ocp] 239))=WW at k4 hr4 hsp4 htb4⊢;have c6:=htb4.cell 0;have f6:=htb4.frozen 0;simp at c6;refine Ci.one (i:=11) (by kernel_rfl) rfl (λK hK=>?_)
    go_simp
    have kz:=k4.setCell (p:=⟨x2.heap.size,0,Y⟩) (kp hge) (j2 (V ⟨x2.heap.size+1,0,Y⟩));refine hK.out _ _ (λ_=>HS2 _ kz) ?_;clear hK K;refine Ci.done (by kernel_rfl) ?_ _
    try simp only[kG,ff,fh,fi]
    exact HE2 _ _ _ _ _ _ _ _ _ _ _ _ _ _ _ _ oad ocp (x2.heap.size+1) (x2.heap.size) _ kz (Af hr4 (As hr4 htb4 (by decide)) _) (hsp4.zB ⟨x2.heap.size,0,Y⟩ hne _) (htb4.set 0 _)
  .go_simp
   have k2:=k1.alloc (jj #[j2 Y] 237);refine hK.out _ _ (λ_=>HS2 _ k2) ?_;clear hK K
   try simp only[kG,ff,fh,fi]
   have htb2:=kN x1 [j2 Y] 237;have hr6_2:=fw hrow6 (jj #[j2 Y] 237);refine Ci.one (i:=7) (by kernel_rfl) rfl (λK hK=>?_)
   go_simp
   refine(HV1 ad6 cp6 _ hr6_2).mono ?_;rintro _ x3 ⟨oad,ocp,rfl,hrow7,k3'⟩;have k3:Ac [] wA x3:=k2.trans k3';refine hK.out _ _ (λ_=>HS2 _ k3) ?_;clear hK K
   try simp only[kG,ff,fh,fi]
   have htb3:=htb2.kept k3';have HHS3:=Ab (HS2 _ k3);refine Ci.tqH (i:=8) (v:=kx #[j2 (V ⟨cb,1,Y⟩),U adb (Z zE) cpb,U oad (Z VR) ocp]) rfl (Bk HQp) HHS3 ?_;simp only[kG,ff,fh,fi];refine Ci.one (i:=9) (by kernel_rfl) rfl (λK hK=>?_)
   go_simp
   have k4:=k3.alloc (jj #[j2 (V ⟨cb,1,Y⟩),U adb (Z zE) cpb,U oad (Z VR) ocp] 239);refine hK.out _ _ (λ_=>HS2 _ k4) ?_;clear hK K
   try simp only[kG,ff,fh,fi]
   have hsp4:=kN x3 [j2 (V ⟨cb,1,Y⟩),U adb (Z zE) cpb,U oad (Z VR) ocp] 239;have hr4:=fw hrow7 (jj #[j2 (V ⟨cb,1,Y⟩),U adb (Z zE) cpb,U oad (Z VR) ocp] 239);have htb4:=htb3.alloc (jj #[j2 (V ⟨cb,1,Y⟩),U adb (Z zE) cpb,U oad (Z VR) ocp] 239);have hne:=show x1.heap.size≠x3.heap.size from Nat.ne_of_lt htb3.lt
   have hge:=k1.size
   try simp only[fY]at hsp4 htb4 hne hge
   generalize(x3.alloc (jj #[j2 (V ⟨cb,1,Y⟩),U adb (Z zE) cpb,U oad (Z VR) ocp] 239))=WW at k4 hr4 hsp4 htb4⊢;have c6:=htb4.cell 0;have f6:=htb4.frozen 0;simp at c6;refine Ci.one (i:=11) (by kernel_rfl) rfl (λK hK=>?_)
   go_simp
   have kz:=k4.setCell (p:=⟨x1.heap.size,0,Y⟩) (kp hge) (j2 (V ⟨x3.heap.size,0,Y⟩));refine hK.out _ _ (λ_=>HS2 _ kz) ?_;clear hK K;refine Ci.done (by kernel_rfl) ?_ _
   try simp only[kG,ff,fh,fi]
   exact HE2 _ _ _ _ _ _ _ _ _ _ _ _ _ _ _ _ oad ocp (x3.heap.size) (x1.heap.size) _ kz (Af hr4 (As hr4 htb4 (by decide)) _) (hsp4.zB ⟨x1.heap.size,0,Y⟩ hne _) (htb4.set 0 _)
 .go_simp
  have k1:=hka.alloc (jj #[j2 Y] 237);refine hK.out _ _ (λ_=>HS2 _ k1) ?_;clear hK K
  try simp only[kG,ff,fh,fi]
  have htb1:=kN x0 [j2 Y] 237;refine Ci.one (i:=6) (by kernel_rfl) rfl (λK hK=>?_)
  go_simp
  refine(HCT _ (HKw.trans k1)).mono ?_;rintro _ x2 ⟨ad6,cp6,rfl,hrow6,k2'⟩;have k2:Ac [] wA x2:=k1.trans k2';refine hK.out _ _ (λ_=>HS2 _ k2) ?_;clear hK K
  try simp only[kG,ff,fh,fi]
  have htb2:=htb1.kept k2';refine Ci.one (i:=7) (by kernel_rfl) rfl (λK hK=>?_)
  go_simp
  refine(HV1 ad6 cp6 _ hrow6).mono ?_;rintro _ x3 ⟨oad,ocp,rfl,hrow7,k3'⟩;have k3:Ac [] wA x3:=k2.trans k3';refine hK.out _ _ (λ_=>HS2 _ k3) ?_;clear hK K
  try simp only[kG,ff,fh,fi]
  have htb3:=htb2.kept k3';have HHS3:=Ab (HS2 _ k3);refine Ci.tqH (i:=8) (v:=kx #[j2 (V ⟨cb,1,Y⟩),U adb (Z zE) cpb,U oad (Z VR) ocp]) rfl (Bk HQp) HHS3 ?_;simp only[kG,ff,fh,fi];refine Ci.one (i:=9) (by kernel_rfl) rfl (λK hK=>?_)
  go_simp
  have k4:=k3.alloc (jj #[j2 (V ⟨cb,1,Y⟩),U adb (Z zE) cpb,U oad (Z VR) ocp] 239);refine hK.out _ _ (λ_=>HS2 _ k4) ?_;clear hK K
  try simp only[kG,ff,fh,fi]
  have hsp4:=kN x3 [j2 (V ⟨cb,1,Y⟩),U adb (Z zE) cpb,U oad (Z VR) ocp] 239;have hr4:=fw hrow7 (jj #[j2 (V ⟨cb,1,Y⟩),U adb (Z zE) cpb,U oad (Z VR) ocp] 239);have htb4:=htb3.alloc (jj #[j2 (V ⟨cb,1,Y⟩),U adb (Z zE) cpb,U oad (Z VR) ocp] 239);have hne:=show x0.heap.size≠x3.heap.size from Nat.ne_of_lt htb3.lt
  have hge:=hka.size
  try simp only[fY]at hsp4 htb4 hne hge
  generalize(x3.alloc (jj #[j2 (V ⟨cb,1,Y⟩),U adb (Z zE) cpb,U oad (Z VR) ocp] 239))=WW at k4 hr4 hsp4 htb4⊢;have c6:=htb4.cell 0;have f6:=htb4.frozen 0;simp at c6;refine Ci.one (i:=11) (by kernel_rfl) rfl (λK hK=>?_)
  go_simp
  have kz:=k4.setCell (p:=⟨x0.heap.size,0,Y⟩) (kp hge) (j2 (V ⟨x3.heap.size,0,Y⟩));refine hK.out _ _ (λ_=>HS2 _ kz) ?_;clear hK K;refine Ci.done (by kernel_rfl) ?_ _
  try simp only[kG,ff,fh,fi]
  exact HE2 _ _ _ _ _ _ _ _ _ _ _ _ _ _ _ _ oad ocp (x3.heap.size) (x0.heap.size) _ kz (Af hr4 (As hr4 htb4 (by decide)) _) (hsp4.zB ⟨x0.heap.size,0,Y⟩ hne _) (htb4.set 0 _)
