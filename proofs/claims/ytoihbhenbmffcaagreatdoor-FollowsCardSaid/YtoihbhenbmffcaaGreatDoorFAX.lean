import Derived.Test.YtoihbhenbmffcaaGreatDoorFAW
set_option linter.all false
set_option maxHeartbeats 0
open List renaming length->Z,toArray->ml,replicate->pG
open Option renaming none->Y,some->V
open Go.Value renaming slice->U,int->X,string->O,pointer->m2,agg->pC,bool->pE
open Go.IntKind renaming i64->J
open Go.Obj renaming cells->j3
open Go.Ending renaming returned->oa
open Or renaming inl->oi,inr->oj
open Go renaming World->py,Value->p5
open Go.RowKit renaming Hid->p7
open Go.World renaming cell?->p8,ownsRow->p9
open Go.Act renaming put->pJ
namespace Go.Proofs.YtoihbhenbmffcaaGreatDoor
open Go.RowKit Go.Proofs.Tryz
variable{w:py}{k n:Nat}
theorem Tryz.zr:(Tryz.prog.info? 176).map (λi=>(i.zero,i.size,i.bytes))=V (V (pC #[O ⟨#[]⟩,U Y 0 0,X J 0,U Y 0 0]),4,72):=by kernel_rfl
def Km{t:AK}(h:Do t):P2 (ct t):=by
 rcases h with⟨h,_⟩|⟨a,b,_⟩
 .exact oi (by unfold ct;rw[h];rfl)
 .exact oj ⟨by unfold ct;simp only;omega,by unfold ct;simp only;omega⟩
structure j5(w3:py)(k:Nat)(al:UInt8->pM zA->pM zA)(r:A4)(s:pM Af)(pre:pM (pM zA))(M:pM Nat)(W:py):Prop where
 kept:Ac [] w3 W
 out:∃(sts:pM U3) (ad:Option Addr) (cp:Nat),AF W w3.heap.size [U ad (Z sts) cp] 137/\p9 W w3.heap.size 176 4 (U ad (Z sts) cp) (Z sts) (sts.flatMap (KJ k))/\
  (∀st∈sts,Lk W st/\fq w3.heap.size r s st)/\sts.map (λst=>st.f.f)=(MQ al r s pre).map BU/\M=w3.heap.size::(U ad (Z sts) cp).ownBlock.toList
def j5.own{o:UInt8->pM zA->pM zA}{r:A4}{s:pM Af}(u:w.heap.size<=n):OwnFrom n (fun(q:pM (pM zA)×pM Nat) W=>j5 w k o r s q.1 q.2 W):=
 BO (λq W y M h a b=>by
  obtain⟨m,x,t,g,e,i,l⟩:=h.out
  exact⟨Eo h.kept a b u,m,x,t,g.kept a (CY b g),Ai e a (Co b e),λj c=>⟨(i j c).1.map (λp d=>Ai (v:=p.tv) d a (Co (v:=p.tv) b d)) (λf=>Ai f a (Co b f)),(i j c).2⟩,l⟩)
set_option maxRecDepth 100000
theorem U2(cb k:Nat)(lad:Option Addr)(lcp:Nat)(pcs:pM Dy)(sad:Option Addr)(scp:Nat)(fs:pM Fa)(stv:p5)(r:A4)(s:pM Af)(w:py)(hk:k<Z pcs)(hlen:Z pcs<=1000)(hC:AF w cb [U lad (Z pcs) lcp,U sad (Z fs) scp,stv] 139)(hP:DE w (U lad (Z pcs) lcp) pcs)(hF:Jm w (U sad (Z fs) scp) fs)(hE:Df fs s)(hcl:QK pcs[k] r s)(hnl:Z (Ss (Jc (Al r) s) r (CA r) (Dp r) s)<=100000):
  Calls prog 167 #[m2 (V ⟨cb,0,Y⟩),X J k] w λrr w'=>∃(ad:Option Addr) (cp:Nat) (sts:pM U3),rr=oa (U ad (Z sts) cp)/\sts.map (λst=>st.f.f)=(Ss (Jc (Al r) s) r (CA r) (Dp r) s).map BU/\
   p9 w' w.heap.size 176 4 (U ad (Z sts) cp) (Z sts) (sts.flatMap (KJ k))/\(∀st∈sts,Lk w' st/\fq w.heap.size r s st)/\Ac [] w w':=by
 obtain⟨i0,hi0,hz0,hz1,hz2⟩:=mg Tryz.zr;obtain⟨g,cap,hp,hn,zV,adh,cph,adb,cpb,zH,he,hck,_,_,_,_⟩:=F6 hP k hk;simp only[kS]at he;obtain⟨rfl,-,rfl⟩:=he;have hpc:=hP.each _ (kV hk);rw[hck]at hcl hpc;have hfl:=hE.len;have hsl:=hcl.len;have hth:Z zV<=1000:=hcl.fit.head.2;have HCT:p7 (∀wz,Ac [] w wz->Calls prog 184 #[pC #[X J hp,O hn,U adh (Z zV) cph,U adb (Z zH) cpb]] wz λe w'=>∃ad cp,e=oa (U ad (Z (BE ⟨hp,hn,zV,U adh (Z zV) cph,U adb (Z zH) cpb,zH⟩)) cp)/\p9 w' 0 215 2 (U ad (Z (BE ⟨hp,hn,zV,U adh (Z zV) cph,U adb (Z zH) cpb,zH⟩)) cp) (Z (BE ⟨hp,hn,zV,U adh (Z zV) cph,U adb (Z zH) cpb,zH⟩)) ((BE ⟨hp,hn,zV,U adh (Z zV) cph,U adb (Z zH) cpb,zH⟩).flatMap Ar)/\Ac [] wz w'):=
  λwz hk=>(Rc ⟨hp,hn,zV,U adh (Z zV) cph,U adb (Z zH) cpb,zH⟩ wz (hpc.kept hk) hcl.fit).mono λe w' ⟨ad,cp,h1,h2,h3⟩=>⟨ad,cp,h1,Am h2 (lz _),h3⟩
 have HV1:p7 (∀ad cp wz,p9 wz 0 215 2 (U ad (Z (BE ⟨hp,hn,zV,U adh (Z zV) cph,U adb (Z zH) cpb,zH⟩)) cp) (Z (BE ⟨hp,hn,zV,U adh (Z zV) cph,U adb (Z zH) cpb,zH⟩)) ((BE ⟨hp,hn,zV,U adh (Z zV) cph,U adb (Z zH) cpb,zH⟩).flatMap Ar)->Calls prog 138 #[U ad (Z (BE ⟨hp,hn,zV,U adh (Z zV) cph,U adb (Z zH) cpb,zH⟩)) cp] wz λr w'=>∃ad' cp',r=oa (U ad' (Z (DS (BE ⟨hp,hn,zV,U adh (Z zV) cph,U adb (Z zH) cpb,zH⟩))) cp')/\p9 w' 0 21 1 (U ad' (Z (DS (BE ⟨hp,hn,zV,U adh (Z zV) cph,U adb (Z zH) cpb,zH⟩))) cp') (Z (DS (BE ⟨hp,hn,zV,U adh (Z zV) cph,U adb (Z zH) cpb,zH⟩))) ((DS (BE ⟨hp,hn,zV,U adh (Z zV) cph,U adb (Z zH) cpb,zH⟩)).flatMap AU)/\Ac [] wz w'):=
  λad cp wz h=>(OD ad cp _ 0 wz h hcl.zQ).mono λe w' ⟨ad,cp,h1,h2,h3⟩=>⟨ad,cp,h1,Am h2 (lz _),h3⟩
 have HSea:p7 (∀sp oad ocp wz,Ac [] w wz->AF wz sp [m2 (V ⟨cb,1,Y⟩),U adb (Z zH) cpb,U oad (Z (DS (BE ⟨hp,hn,zV,U adh (Z zV) cph,U adb (Z zH) cpb,zH⟩))) ocp] 237->p9 wz 0 21 1 (U oad (Z (DS (BE ⟨hp,hn,zV,U adh (Z zV) cph,U adb (Z zH) cpb,zH⟩))) ocp) (Z (DS (BE ⟨hp,hn,zV,U adh (Z zV) cph,U adb (Z zH) cpb,zH⟩))) ((DS (BE ⟨hp,hn,zV,U adh (Z zV) cph,U adb (Z zH) cpb,zH⟩)).flatMap AU)->dU wz sp (Al r) s (CA r++Dp r)):=by
  intro sp oad ocp wz hk hb hr;have hc1:=(hC.kept hk).cell 1;simp at hc1;exact hcl.sea (c:=⟨hp,hn,zV,U adh (Z zV) cph,U adb (Z zH) cpb,zH⟩) ⟨hb,hc1,hF.kept hk⟩ (hpc.body.kept hk) hr hE
 have HVl:p7 (Z (DS (BE ⟨hp,hn,zV,U adh (Z zV) cph,U adb (Z zH) cpb,zH⟩))=Z (CA r++Dp r)/\Z (CA r++Dp r)<=26):=⟨by rw[hcl.order,GE],hcl.yB⟩;obtain⟨TV,hTV⟩:=pN (BE ⟨hp,hn,zV,U adh (Z zV) cph,U adb (Z zH) cpb,zH⟩);rw[hTV]at HCT HV1 HSea HVl;have HV2:p7 (∀wz,Ac [] w wz->Calls prog 138 #[U adh (Z zV) cph] wz λr' w'=>∃ad' cp',r'=oa (U ad' (Z (CA r)) cp')/\Ac [] wz w'):=λwz hk=>(OD adh cph zV 0 wz (Ad hpc.head hk) (by omega)).mono λe w' ⟨ad,cp,h1,h2,h3⟩=>⟨ad,cp,by rw[h1,hcl.ofHead,GE],h3⟩
 have hvt:∀t∈zV,P2 t:=by
  have hh:=hcl.zv.zV;simp only at hh;rw[hh];intro t ht;obtain⟨u,hu,rfl⟩:=lk.1 ht;exact Km (hcl.head.args u hu)
 have HBf:p7 (∀Bx b wz,Ac [] w wz->Z b=26->AF wz Bx (Aj b) 243->Calls prog 196 #[m2 (V ⟨Bx,0,Y⟩),pC #[X J hp,O hn,U adh (Z zV) cph]] wz λr w'=>∃g,r=oa (pC #[O hn,U (V ⟨g,0,Y⟩) (Z zV) (Z zV)])/\Ea w' ⟨⟨hn,zV.map (BH b)⟩,U (V ⟨g,0,Y⟩) (Z zV) (Z zV)⟩/\Ac [] wz w'):=by
  intro Bx b wz hk hb hB;refine(ON Bx 243 b hp hn adh cph zV 0 wz hb hB (Ad hpc.head hk) (by omega) hvt).mono ?_;rintro r w' ⟨g,rfl,hr,k⟩;refine⟨g,rfl,?_,k⟩;show p9 w' 0 170 1 _ (Z (zV.map (BH b))) _;rw[lm];exact Am hr (lz _)
 have HHs:p7 (∀(g:Nat) (ts:pM zA) (f:Af) wz,Ac [] w wz->Z ts=Z zV->Ea wz ⟨⟨hn,ts⟩,U (V ⟨g,0,Y⟩) (Z zV) (Z zV)⟩->(⟨hn,ts⟩:C4)=BU f->AL f->Calls prog 60 #[m2 (V ⟨cb,1,Y⟩),pC #[O hn,U (V ⟨g,0,Y⟩) (Z zV) (Z zV)]] wz λe w'=>e=oa (pE (C3 s f))/\Ac [] wz w'):=by
  intro g ts f wz hk htl hpf hf hcf;have hc1:=(hC.kept hk).cell 1;simp at hc1;refine(OQ cb 1 sad scp fs ⟨⟨hn,ts⟩,U (V ⟨g,0,Y⟩) (Z zV) (Z zV)⟩ wz hc1 (hF.kept hk) hpf (by show Z ts<=1000;omega) (by omega) (hE.mono _)).mono ?_;rintro e w' ⟨p,rfl,hcut,k⟩;simp only at hcut⊢;rw[hf]at hcut⊢;exact⟨by rw[hE.yD hcf hcut],k⟩
 have HNe:p7 (∀x y WB wz,Ac [] w wz->x∈Aw (Jc (Al r) s) (Al r) s (CA r) Bk->y∈Aw (Jc (Al r) s) (Al r) s (Dp r) x->Z y=26->AF wz WB (Aj (Bn y)) 243->Calls prog 198 #[m2 (V ⟨WB,0,Y⟩),U adb (Z zH) cpb] wz λr' w'=>∃(ad:Option Addr) (n cp:Nat) (ps:pM Fa),r'=oa (U ad n cp)/\(Jm w' (U ad n cp) ps/\n=Z ps/\∀q,(U ad n cp).ownBlock=V q->wz.heap.size<=q)/\ki r s (BU (Aq x r.head)) (ps.map Fa.f)/\Ac [] wz w'):=by
  intro x y WB wz hk hx hy hyl hB;have hfst:zH.map Prod.fst=(Al r).map LU:=by
   have h2:=F2.fst hcl.zv.lits;simp only at h2;rw[h2];rfl
  have hl:∀p∈zH,P6 p.1:=λp hp=>by
   have hm:p.1∈(Al r).map LU:=by
    rw[<-hfst];exact lB hp
   obtain⟨x,hx,e1⟩:=lk.1 hm;rw[<-e1];exact(hcl.lits x hx).2
  refine(be WB 243 (Bn y) adb cpb zH wz (by unfold Bn;rw[lm];exact hyl) hB (hpc.body.kept hk) hcl.fit.lits hl).mono ?_;rintro e w' ⟨ad,cp,ps,rfl,h1,h2,h3,k⟩;refine⟨ad,Z ps,cp,ps,rfl,⟨h2,rfl,λq hq=>(h3.lt q hq).1⟩,?_,k⟩;rw[h1,hfst];exact ie hcl hx hy
 have HCl:=Ab hcl;have HFc:p7 (∀b∈Aw (Jc (Al r) s) (Al r) s (CA r) Bk,Di b/\(⟨hn,zV.map (BH (Bn b))⟩:C4)=BU (Aq b r.head)/\AL (Aq b r.head)):=λb hb=>by
  have hcan:=Mv hcl.al hcl.parts hcl.head hb;exact⟨Fy hcl.al _ _ Di.start b hb,bW hcl.zv hcl.head hcan,GJ hcan⟩
 have HNl:=Ab hnl;have HPr:=Ab hP;have HCo:=Ab hC;have HCk:=Ab hck;clear hcl hpc hE hF hC hfl hsl hvt hTV hnl;obtain⟨N,hN⟩:=pN w.heap.size;have HN:=Ab hN;obtain⟨PL,hPL⟩:=pN (Z pcs);have HC1:p7 (∀wz,Ac [] w wz->p8 wz ⟨cb,0,Y⟩=V (U (V ⟨g,0,Y⟩) PL lcp)/\p8 wz ⟨g,k*4,Y⟩=V (X J hp)/\p8 wz ⟨g,k*4+1,Y⟩=V (O hn)/\p8 wz ⟨g,k*4+2,Y⟩=V (U adh (Z zV) cph)/\p8 wz ⟨g,k*4+3,Y⟩=V (U adb (Z zH) cpb)):=by
  intro wz hkz;obtain⟨g',cap',hp',hn',hts',adh',cph',adb',cpb',lvs',he',hck',d0,d1,d2,d3⟩:=F6 (hP.kept hkz) k hk;rw[hck]at hck';simp only[Dy.mk.injEq]at hck';obtain⟨rfl,rfl,rfl,e1,e2,rfl⟩:=hck';simp only[kS,ld,lW]at he';obtain⟨⟨rfl,-,-⟩,-,-⟩:=he';rw[<-e1]at d2;rw[<-e2]at d3;have h0:=(HCo.kept hkz).cell 0;simp[hPL]at h0;exact⟨h0,d0,d1,d2,d3⟩
 have hk0:(0:Int)<=(k:Int):=by omega
 have hk1:(k:Int)<(PL:Int):=by omega
 clear hP hck hPL hlen hN;obtain⟨QQ,hQQ⟩:∃QQ,Kr (bodyPostM Fence.wide 0 prog Tryz.f167 λrr w'=>∃(ad:Option Addr) (cp:Nat) (sts:pM U3),rr=oa (U ad (Z sts) cp)/\sts.map (λst=>st.f.f)=(Ss (Jc (Al r) s) r (CA r) (Dp r) s).map BU/\
   p9 w' w.heap.size 176 4 (U ad (Z sts) cp) (Z sts) (sts.flatMap (KJ k))/\(∀st∈sts,Lk w' st/\fq w.heap.size r s st)/\Ac [] w w')=QQ:=⟨_,rfl⟩
 have HQQ:=Ab hQQ;have HQp:p7 (∀c a w,¬QQ (.panic c) a w):=by
  intro c a w h;rw[<-hQQ]at h;exact h
 refine EC func167 rfl (Gt ?_);rw[hQQ];clear hQQ;simp only[ntmps167,mE,lj,lO,Nat.reduceAdd,Nat.reduceSub,nL,nM,oh,nR,mw,mV];have HK1:=Ab (((pO [] w).alloc (j3 #[m2 (V ⟨cb,0,Y⟩)] 140)).alloc (j3 #[X J k] 3));have HB0:=Ab ((pP w [m2 (V ⟨cb,0,Y⟩)] 140).alloc (j3 #[X J k] 3));have HB1:p7 (AF ((w.alloc (j3 #[m2 (V ⟨cb,0,Y⟩)] 140)).alloc (j3 #[X J k] 3)) (w.heap.size+1) [X J k] 3):=by
  have h:=pP (w.alloc (j3 #[m2 (V ⟨cb,0,Y⟩)] 140)) [X J k] 3;rw[lT]at h;exact h
 refine pL (λK1 HKk=>?_);go_wp2;refine HKk _ _ ?_;clear HKk K1;change Code.wp _ _ _ _ ((w.alloc (j3 [m2 (V ⟨cb,0,Y⟩)].toArray 140)).alloc (j3 [X J k].toArray 3));generalize hw1:(w.alloc (j3 [m2 (V ⟨cb,0,Y⟩)].toArray 140)).alloc (j3 [X J k].toArray 3)=w1 at HK1 HB0 HB1⊢;have hsz1:w1.heap.size=w.heap.size+2:=by rw[<-hw1];simp
 clear hw1;rw[Aa HN]at HB0 HB1 hsz1⊢;have HS1:p7 (∀wz,Ac [] w1 wz->Ac [] w1 wz/\p8 wz ⟨N,0,Y⟩=V (m2 (V ⟨cb,0,Y⟩))/\p8 wz ⟨N+1,0,Y⟩=V (X J k)/\p8 wz ⟨cb,0,Y⟩=V (U (V ⟨g,0,Y⟩) PL lcp)/\p8 wz ⟨g,k*4,Y⟩=V (X J hp)/\p8 wz ⟨g,k*4+1,Y⟩=V (O hn)/\p8 wz ⟨g,k*4+2,Y⟩=V (U adh (Z zV) cph)/\p8 wz ⟨g,k*4+3,Y⟩=V (U adb (Z zH) cpb)):=by
  intro wz hkz;have h0:=(HB0.kept hkz).cell 0;have h1:=(HB1.kept hkz).cell 0;simp at h0 h1;exact⟨hkz,h0,h1,HC1 wz (HK1.trans hkz)⟩
 refine pL (λK1 HKk=>?_);have HHS:=Ab (HS1 w1.drew (pO [] w1).drew);refine CH 9 (λwz=>Ac [] w1 wz/\p8 wz ⟨N,0,Y⟩=V (m2 (V ⟨cb,0,Y⟩))/\p8 wz ⟨N+1,0,Y⟩=V (X J k)/\p8 wz ⟨cb,0,Y⟩=V (U (V ⟨g,0,Y⟩) PL lcp)/\p8 wz ⟨g,k*4,Y⟩=V (X J hp)/\p8 wz ⟨g,k*4+1,Y⟩=V (O hn)/\p8 wz ⟨g,k*4+2,Y⟩=V (U adh (Z zV) cph)/\p8 wz ⟨g,k*4+3,Y⟩=V (U adb (Z zH) cpb)) (by kernel_rfl) ?_;refine CF.tqH (i:=0) (v:=m2 (V ⟨cb,0,Y⟩)) rfl (BD HQp) HHS ?_;simp only[pJ,kR,kT,kU];refine CF.tqH (i:=1) (v:=m2 (V ⟨cb,0,Y⟩)) rfl (BD HQp) HHS ?_;simp only[pJ,kR,kT,kU];refine CF.tqH (i:=2) (v:=m2 (V ⟨cb,0,Y⟩)) rfl (BD HQp) HHS ?_;simp only[pJ,kR,kT,kU];refine CF.tqH (i:=3) (v:=U (V ⟨g,0,Y⟩) PL lcp) rfl (BD HQp) HHS ?_;simp only[pJ,kR,kT,kU];refine CF.tqH (i:=4) (v:=X J k) rfl (BD HQp) HHS ?_;simp only[pJ,kR,kT,kU];refine CF.tqH (i:=5) (v:=m2 (V ⟨g,k*4,Y⟩)) rfl (BD HQp) HHS ?_;simp only[pJ,kR,kT,kU];refine CF.tqH (i:=6) (v:=pC #[X J hp,O hn,U adh (Z zV) cph,U adb (Z zH) cpb]) rfl (BD HQp) HHS ?_;simp only[pJ,kR,kT,kU];refine CF.one (i:=7) (by kernel_rfl) rfl (λK hK=>?_)
 go_simp
 refine hK.out _ _ (λ_=>HS1 _ ((pO [] w1).drew.alloc _)) ?_;clear hK K
 try simp only[pJ,kR,kT,kU]
 have HB2:=Ab (pP w1.drew [X J 0,O ⟨#[]⟩,U Y 0 0,U Y 0 0] 189);have HK2:=Ab ((pO [] w1).drew.alloc (j3 [X J 0,O ⟨#[]⟩,U Y 0 0,U Y 0 0].toArray 189));change CF _ _ _ _ _ _ _ _ _ (w1.drew.alloc (j3 [X J 0,O ⟨#[]⟩,U Y 0 0,U Y 0 0].toArray 189));have hsz:w1.drew.heap.size=N+2:=hsz1;rw[hsz]at HB2;generalize w1.drew.alloc (j3 [X J 0,O ⟨#[]⟩,U Y 0 0,U Y 0 0].toArray 189)=w2 at HB2 HK2⊢;have q0:=HB2.cell 0;have q1:=HB2.cell 1;have q2:=HB2.cell 2;have q3:=HB2.cell 3;have f0:=HB2.frozen 0;have f1:=HB2.frozen 1;have f2:=HB2.frozen 2;have f3:=HB2.frozen 3;simp at q0 q1 q2 q3;refine CF.one (i:=8) (by kernel_rfl) rfl (λK hK=>?_)
 go_simp
 have HB3:=Ab (HB2.zO rfl (X J hp) (O hn) (U adh (Z zV) cph) (U adb (Z zH) cpb));have HK3:=Ab (HK2.zO (N:=N+2) (oj (by omega)) (X J hp) (O hn) (U adh (Z zV) cph) (U adb (Z zH) cpb));refine hK.out _ _ (λ_=>HS1 _ HK3) ?_;clear hK K;refine CF.done (by kernel_rfl) ?_ _
 try simp only[pJ,kR,kT,kU]
 generalize(((w2.setCell ⟨N+2,0,Y⟩ (X J hp)).setCell ⟨N+2,1,Y⟩ (O hn)).setCell ⟨N+2,2,Y⟩ (U adh (Z zV) cph)).setCell ⟨N+2,3,Y⟩ (U adb (Z zH) cpb)=wA at HB3 HK3⊢;refine HKk _ _ ?_;clear HKk K1 HHS HS1 HB2 HK2 q0 q1 q2 q3 f0 f1 f2 f3;have HKw:p7 (Ac [] w wA):=HK1.trans HK3;have HBc:p7 (AF wA N [m2 (V ⟨cb,0,Y⟩)] 140/\AF wA (N+1) [X J k] 3/\AF wA (N+2) [X J hp,O hn,U adh (Z zV) cph,U adb (Z zH) cpb] 189):=⟨HB0.kept HK3,HB1.kept HK3,by have h:=Aa HB3;simpa using h⟩;clear HB3 HK3 HK1 HB0 HB1 hsz1 hsz;have HS2:p7 (∀wz,Ac [] wA wz->Ac [] wA wz/\p8 wz ⟨N,0,Y⟩=V (m2 (V ⟨cb,0,Y⟩))/\p8 wz ⟨N+2,0,Y⟩=V (X J hp)/\p8 wz ⟨N+2,1,Y⟩=V (O hn)/\p8 wz ⟨N+2,2,Y⟩=V (U adh (Z zV) cph)/\p8 wz ⟨N+2,3,Y⟩=V (U adb (Z zH) cpb)):=by
  intro wz hkz;have h0:=(HBc.1.kept hkz).cell 0;have hb:=HBc.2.2.kept hkz;have h1:=hb.cell 0;have h2:=hb.cell 1;have h3:=hb.cell 2;have h4:=hb.cell 3;simp at h0 h1 h2 h3 h4;exact⟨hkz,h0,h1,h2,h3,h4⟩
 obtain⟨VR,hVR⟩:=pN (DS TV);rw[hVR]at HV1 HSea HVl;clear hVR;refine pL (λK2 HK2k=>?_);have HE2:p7 (∀(y13 y14 y15 y16 y17 y18 y19 y20 y21 y22 y23 y24 y25 y26 y27 y28:p5) (oad:Option Addr) (ocp sp tb:Nat) (wz:py),Ac [] wA wz->p9 wz 0 21 1 (U oad (Z VR) ocp) (Z VR) (VR.flatMap AU)->AF wz sp [m2 (V ⟨cb,1,Y⟩),U adb (Z zH) cpb,U oad (Z VR) ocp] 237->AF wz tb [m2 (V ⟨sp,0,Y⟩)] 233->K2 ⟨#[m2 (V ⟨cb,0,Y⟩),X J k,m2 (V ⟨N,0,Y⟩),m2 (V ⟨N+1,0,Y⟩),U Y 0 0,m2 (V ⟨N+2,0,Y⟩),m2 (V ⟨tb,0,Y⟩),undef,undef,undef,undef,undef,undef,y13,y14,y15,y16,y17,y18,y19,y20,y21,y22,y23,y24,y25,y26,y27,y28,m2 (V ⟨sp,0,Y⟩),undef,undef,undef,undef,undef,undef,undef,undef,undef,undef,undef,undef,undef,undef,undef,undef,undef,undef,undef,undef,undef,undef,undef,undef,undef,undef,undef,undef,undef,undef,undef,undef,undef,undef,undef,undef,undef,undef,undef,undef,undef],[]⟩ wz):=by
  intro y13 y14 y15 y16 y17 y18 y19 y20 y21 y22 y23 y24 y25 y26 y27 y28 oad ocp sp tb wz hkz hrow hsp htb;refine HK2k _ _ ?_;clear HK2k K2;have HSa:=Ab (HSea sp oad ocp wz (HKw.trans hkz) hsp hrow);have HKz:p7 (Ac [] w wz):=HKw.trans hkz;have HBz:p7 (AF wz N [m2 (V ⟨cb,0,Y⟩)] 140/\AF wz (N+1) [X J k] 3/\AF wz (N+2) [X J hp,O hn,U adh (Z zV) cph,U adb (Z zH) cpb] 189/\AF wz tb [m2 (V ⟨sp,0,Y⟩)] 233):=⟨HBc.1.kept hkz,HBc.2.1.kept hkz,HBc.2.2.kept hkz,htb⟩;clear hkz hrow hsp htb HSea HS2;have e2:=HBz.2.2.1.cell 2;simp at e2;have HC3:=Ab (HV2 wz HKz);refine pL (λK1 HKk=>?_);go_wp2_with fail
  refine HC3.mono ?_;rintro _ v2 ⟨ad',cp',rfl,k2⟩;obtain⟨OH,hOH⟩:=pN (Z (CA r));have HOH:=Ab hOH;rw[hOH];have HK2:=Ab k2;clear hOH HC3 k2 e2;go_wp2;refine HKk _ _ ?_;clear HKk K1;have HKo:=Ab (HK2.alloc (j3 [X J OH].toArray 3));have HBo:=Ab (pP v2 [X J OH] 3);change Code.wp _ _ _ _ (v2.alloc (j3 [X J OH].toArray 3));generalize v2.alloc (j3 [X J OH].toArray 3)=w3 at HKo HBo⊢;generalize v2.heap.size=ob at HBo⊢;have HK3:p7 (Ac [] w w3):=HKz.trans HKo;have HS3:p7 (dU w3 sp (Al r) s (CA r++Dp r)):=HSa.kept HKo;have HB3:p7 (∀W,Ac [] w3 W->AF W N [m2 (V ⟨cb,0,Y⟩)] 140/\AF W (N+1) [X J k] 3/\AF W (N+2) [X J hp,O hn,U adh (Z zV) cph,U adb (Z zH) cpb] 189/\AF W tb [m2 (V ⟨sp,0,Y⟩)] 233/\AF W ob [X J OH] 3):=λW hkW=>⟨(HBz.1.kept HKo).kept hkW,(HBz.2.1.kept HKo).kept hkW,(HBz.2.2.1.kept HKo).kept hkW,(HBz.2.2.2.kept HKo).kept hkW,HBo.kept hkW⟩
  clear HSa HKz HBz HK2 HKo HBo HKw HBc;obtain⟨SB,hSB⟩:=pN w3.heap.size;have HSB:=Ab hSB;have HK4:=Ab ((pO [] w3).alloc (j3 [U Y 0 0].toArray 137));have HB4:=Ab (pP w3 [U Y 0 0] 137);refine pL (λK1 HKk=>?_);go_wp2;refine HKk _ _ ?_;clear HKk K1;change Code.wp _ _ _ _ (w3.alloc (j3 [U Y 0 0].toArray 137));generalize w3.alloc (j3 [U Y 0 0].toArray 137)=w4 at HK4 HB4⊢;rw[hSB]at HB4;clear hSB;have t4:=(HB3 w4 HK4).2.2.2.1.cell 0;have o4:=(HB3 w4 HK4).2.2.2.2.cell 0;simp at t4 o4;have HBt:p7 (∀wz,Calls prog 141 #[m2 (V ⟨sp,0,Y⟩),X J 0,X J OH,pC (ml (pG 26 (O ⟨#[]⟩)))] wz λr w'=>∃b1 b2 b3 b4,r=oa (.func (.func 176) #[] #[m2 (V ⟨b1,0,Y⟩),m2 (V ⟨b2,0,Y⟩),m2 (V ⟨b3,0,Y⟩),m2 (V ⟨b4,0,Y⟩)])/\
    AF w' b1 [m2 (V ⟨sp,0,Y⟩)] 233/\AF w' b2 (Aj (Bn Bk)) 243/\AF w' b3 [X J ((0:Nat):Int)] 3/\AF w' b4 [X J OH] 3/\(wz.heap.size<=b1/\wz.heap.size<=b2/\wz.heap.size<=b3/\wz.heap.size<=b4)/\Ac [] wz w'):=λwz=>by
   have h:=IQ sp 0 OH (Aj (Bn Bk)) wz (Bp _) (EU Bk rfl).1;rw[KY]at h⊢;exact h
  refine pL (λK1 HKk=>?_);refine pL (λK5 HK5=>?_);go_wp2_with fail
  refine(HBt _).mono ?_;rintro _ w5 ⟨d1,d2,d3,d4,rfl,n1,n2,n3,n4,hds,k5⟩;have HK35:p7 (Ac [] w3 w5):=HK4.trans k5;have HB5:=Ab (HB4.kept k5);have hs5:=k5.size;have hs4:=HK4.size;have yD:=Nr sp (Al r) s (CA r++Dp r) w3 HS3 OH (by rw[<-Aa HOH,lu];omega) (CA r) 0 Bk d1 d2 d3 d4 w5 [SB] Di.start (by omega) (by rw[<-Aa HOH,List.take_left,oF]) ⟨HK35,n1,n2,n3,n4,λq hq=>by
   have hb:=HB4.lt
   have hsb:=Aa HSB
   obtain⟨g1,g2,g3,g4⟩:=hds
   simp only[kY]at hq
   subst hq
   exact⟨by omega,by omega,by omega,by omega,by omega,by omega⟩⟩
  have HIn:p7 (j5 w3 k (Jc (Al r) s) r s [] [SB] w5):=⟨HK35,[],Y,0,by rw[Aa HSB];exact HB5,lH _ _ _ _,λst hst=>by simp at hst,rfl,by rw[Aa HSB];rfl⟩;have hw3:w3.heap.size<=w5.heap.size:=HK35.size;have hSl:=HB5.lt;clear n1 n2 n3 n4 hds k5 HBt t4 o4 HB4 HB5 HK4;go_wp2;refine HK5 _ _ ?_;clear HK5 K5;refine wp_block ?_;obtain⟨XS,hXS⟩:=pN (Aw (Jc (Al r) s) (Al r) s (CA r) Bk);have HXS:=Ab hXS;rw[hXS]at yD HFc;clear hXS;have HXl:p7 (∀x∈XS,Z x=26):=λx hx=>(HFc x hx).1.len
  refine Jh (T:=243) (q:=9) rfl (enters_of func176 (by kernel_rfl) rfl) yD (λq hq=>by
   simp only[kY]at hq
   subst hq
   exact hSl) (j5 w3 k (Jc (Al r) s) r s) (λ_ _ _ _=>False) (j5.own hw3) (λ_ _ _ _ _ h _ _=>h) HIn ?rassign ?rbody ?rdone ?rstop
  case rassign=>
   intro l' x W' K hx HK;obtain⟨hxl,hxo⟩:=EU x (HXl x hx);obtain⟨EX,hEX⟩:=pN (Aj (Bn x));rw[hEX]at hxl hxo HK⊢;have HXo:=Ab hxo;have HXl:=Ab hxl;(have HXa:p7 (EX.toArray.size=26):=by show _=_;simp[hxl]);clear hx hEX hxl hxo;simp only[kR,kT,kU]at HK⊢;refine AM (by rfl) (Iw Gz) ?_;go_wp2_with ((with_reducible show wpList _ _ _ ({dst:=_,op:=Op.store 243 _ _,type:=_,pos:=_,after:=_,guard:=_}::_) _ _);refine nj rfl 243 _ _ rfl W'.heap.size 0 (ml EX) (by rfl) (by rfl) ?_ ?_ ?_ ?_)
   .have h:=(pP W' (pG 26 (O ⟨#[]⟩)) 243).there;simp only[m9]at h;rw[Aa HXa];exact h
   .rw[Aa HXa];exact Tryz.zG
   .exact mL HXo
   .refine HK _ (((pO [] W').alloc (j3 (ml (pG 26 (O ⟨#[]⟩))) 243)).zI (b:=W'.heap.size) (oj (lC _)) EX 0) ?_;exact(pP W' (pG 26 (O ⟨#[]⟩)) 243).zP EX (by rw[Aa HXl];simp)
  case rbody=>
   intro l' Bx pre x rest' M W' hxs hi hM hBx hblk;(have hxm:x∈XS:=by rw[hxs];simp);obtain⟨heo,hfeq,hfcan⟩:=HFc x hxm;obtain⟨sts,ad,cp,i1,i2,i3,i4,i5⟩:=hi.out;rw[Aa HSB]at i1 i2 i5;have HLs:p7 (Z sts<=100000):=by
    have h1:=congrArg List.length i4;rw[lm,lm]at h1;have h2:=Aa HNl;rw[<-TC,Aa HXS,hxs]at h2;(have h3:MQ (Jc (Al r) s) r s (pre++x::rest')=MQ (Jc (Al r) s) r s pre++MQ (Jc (Al r) s) r s (x::rest'):=by unfold MQ;rw[nF,lV]);rw[h3,lu]at h2;show Z sts<=100000;omega
   have HKw':p7 (Ac [] w W'):=HK3.trans hi.kept;have HBW:=Ab (HB3 W' hi.kept);have HSo:p7 (MQ (Jc (Al r) s) r s (pre++[x])=MQ (Jc (Al r) s) r s pre++if(!C3 s (Aq x r.head)&& !(Aw (Jc (Al r) s) (Al r) s (Dp r) x).isEmpty)=true then[Aq x r.head] else[]):=YT _ _ _ _ _;have HC7:=Ab (HBf Bx (Bn x) W' HKw' (Iv heo) hblk);have HC8:=Ab (λg wz hk hpf=>HHs g (zV.map (BH (Bn x))) (Aq x r.head) wz hk (by rw[lm]) hpf hfeq hfcan);(have hXSm:x∈Aw (Jc (Al r) s) (Al r) s (CA r) Bk:=by rw[Aa HXS];exact hxm);(obtain⟨YP,hYP⟩:∃YP:pM zA->Bool->Prop,YP=λy B=>Z y=26/\(B=true->y∈Aw (Jc (Al r) s) (Al r) s (Dp r) x):=⟨_,rfl⟩);(have HYl:p7 (∀y B,YP y B->Z y=26):=λy B h=>by rw[hYP]at h;exact h.1);(have HNx:p7 (∀y WB wz,Ac [] w wz->YP y true->AF wz WB (Aj (Bn y)) 243->Calls prog 198 #[m2 (V ⟨WB,0,Y⟩),U adb (Z zH) cpb] wz λr' w'=>∃(ad:Option Addr) (n cp:Nat) (ps:pM Fa),r'=oa (U ad n cp)/\(Jm w' (U ad n cp) ps/\n=Z ps/\∀q,(U ad n cp).ownBlock=V q->wz.heap.size<=q)/\ki r s (BU (Aq x r.head)) (ps.map Fa.f)/\Ac [] wz w'):=λy WB wz hk hy hB=>HNe x y WB wz hk hXSm (by rw[hYP]at hy;exact hy.2 rfl) (HYl y true hy) hB);(have HC9:p7 (∀wz,Ac [] W' wz->Calls prog 197 #[m2 (V ⟨sp,0,Y⟩),X J OH,X J (Z (CA r++Dp r)),pC (ml (Aj (Bn x)))] wz λr' w'=>∃(y:pM zA) (B:Bool),r'=oa (.tuple #[pC (ml (Aj (Bn y))),pE B])/\YP y B/\B= !(Aw (Jc (Al r) s) (Al r) s (Dp r) x).isEmpty/\Ac [] wz w'):=λwz hk=>(cc sp (Al r) s (CA r++Dp r) OH (Z (CA r++Dp r)) (Dp r) x wz (HS3.kept (hi.kept.trans hk)) heo (by rw[<-Aa HOH,lu];omega) (lC _) (by rw[ni,<-Aa HOH,List.drop_left])).mono λr' w' ⟨y,B,h1,h2,h3,h4,h5⟩=>⟨y,B,h1,by rw[hYP];exact⟨h2,h4⟩,h3,h5⟩);clear hYP hXSm;have HI0:=Ab hi;have HFe:=Ab hfeq;have HLx:=Ab (Iv heo);have HBl:=Ab hblk;have H1:=Ab i1;have H2:=Ab i2;have H3:=Ab i3;have H4:=Ab i4;have H5:=Ab i5;clear hi hxs hM hblk heo hfeq hfcan i1 i2 i3 i4 i5 hxm;obtain⟨EX,hEX⟩:=pN (Aj (Bn x));have HEX:=Ab hEX;rw[hEX]at HC9 HBl;simp only[hEX];(have HXe:p7 (Z EX=26):=by show _=_;rw[<-hEX];unfold Aj;rw[lm];exact HLx);clear hEX;obtain⟨HF,hHF⟩:=pN (C3 s (Aq x r.head));rw[hHF]at HSo HC8;clear hHF;obtain⟨RE,hRE⟩:=pN (Aw (Jc (Al r) s) (Al r) s (Dp r) x).isEmpty;rw[hRE]at HSo HC9;clear hRE;obtain⟨FA,hFA⟩:=pN (Aq x r.head);rw[hFA]at HSo HFe HNx;clear hFA;obtain⟨VL,hVL⟩:=pN (Z (CA r++Dp r));have HVL2:=Ab hVL;rw[hVL]at HC9 HVl;clear hVL;simp only[kR,kT,kU];have x0:=HBW.2.2.1.cell 0;have x1:=HBW.2.2.1.cell 1;have x2:=HBW.2.2.1.cell 2;simp at x0 x1 x2;refine wpIn_block ?_;refine mM (λK7 hK7=>?_);have HK7:=Ab hK7;clear hK7;refine AM (by rfl) (by rintro ⟨_,_,h⟩;exact h) ?_;(go_wp2_with fail);refine HC7.mono ?_;rintro _ v7 ⟨g7,rfl,hpf7,k7⟩;have HK7a:=Ab (k7.alloc (j3 [O hn,U (V ⟨g7,0,Y⟩) (Z zV) (Z zV)].toArray 104));have HBh:=Ab (pP v7 [O hn,U (V ⟨g7,0,Y⟩) (Z zV) (Z zV)] 104);have HPf:p7 (Ea (v7.alloc (j3 [O hn,U (V ⟨g7,0,Y⟩) (Z zV) (Z zV)].toArray 104)) ⟨⟨hn,zV.map (BH (Bn x))⟩,U (V ⟨g7,0,Y⟩) (Z zV) (Z zV)⟩):=hpf7.kept ((pO [] v7).alloc _);clear HC7 hpf7 k7 x0 x1 x2;obtain⟨TS,hTS⟩:=pN (zV.map (BH (Bn x)));(have HTl:p7 (Z TS=Z zV):=by show _=_;rw[<-hTS,lm]);rw[hTS]at HPf HC8 HFe;clear hTS;go_wp2;refine HK7 _ _ ?_;clear HK7 K7;change Code.wpIn _ _ _ _ _ _ (v7.alloc (j3 [O hn,U (V ⟨g7,0,Y⟩) (Z zV) (Z zV)].toArray 104));generalize v7.alloc (j3 [O hn,U (V ⟨g7,0,Y⟩) (Z zV) (Z zV)].toArray 104)=v8 at HK7a HBh HPf⊢;generalize v7.heap.size=HB at HBh⊢;have HS8:p7 (∀wz,Ac [] v8 wz->Ac [] v8 wz/\p8 wz ⟨N,0,Y⟩=V (m2 (V ⟨cb,0,Y⟩))/\p8 wz ⟨HB,0,Y⟩=V (O hn)/\p8 wz ⟨HB,1,Y⟩=V (U (V ⟨g7,0,Y⟩) (Z zV) (Z zV))):=by
    intro wz hkz;have h0:=(HBW.1.kept (HK7a.trans hkz)).cell 0;have h1:=(HBh.kept hkz).cell 0;have h2:=(HBh.kept hkz).cell 1;simp at h0 h1 h2;exact⟨hkz,h0,h1,h2⟩
   have HHS:=Ab (HS8 v8.drew (pO [] v8).drew);refine mM (λK8 hK8=>?_);have HK8:=Ab hK8;clear hK8;refine mM (λK1 hK1=>?_);have HKk1:=Ab hK1;clear hK1;refine ED 5 (λwz=>Ac [] v8 wz/\p8 wz ⟨N,0,Y⟩=V (m2 (V ⟨cb,0,Y⟩))/\p8 wz ⟨HB,0,Y⟩=V (O hn)/\p8 wz ⟨HB,1,Y⟩=V (U (V ⟨g7,0,Y⟩) (Z zV) (Z zV))) (by kernel_rfl) (by rfl) (by rintro ⟨_,_,h⟩;exact h) ?_;refine CF.tqH (i:=0) (v:=m2 (V ⟨cb,0,Y⟩)) rfl (λ_ _ _ h=>h) HHS ?_;simp only[pJ,kR,kT,kU];refine CF.tqH (i:=1) (v:=m2 (V ⟨cb,0,Y⟩)) rfl (λ_ _ _ h=>h) HHS ?_;simp only[pJ,kR,kT,kU];refine CF.tqH (i:=2) (v:=m2 (V ⟨cb,1,Y⟩)) rfl (λ_ _ _ h=>h) HHS ?_;simp only[pJ,kR,kT,kU];refine CF.tqH (i:=3) (v:=pC #[O hn,U (V ⟨g7,0,Y⟩) (Z zV) (Z zV)]) rfl (λ_ _ _ h=>h) HHS ?_;simp only[pJ,kR,kT,kU];refine CF.one (i:=4) (by kernel_rfl) rfl (λK hK=>?_)
   go_simp
   refine(HC8 g7 _ (HKw'.trans (HK7a.trans (pO [] v8).drew)) (HPf.kept (pO [] v8).drew)).mono ?_;rintro _ v9 ⟨rfl,k9⟩;have HK9:p7 (Ac [] v8 v9):=(pO [] v8).drew.trans k9;refine hK.out _ _ (λ_=>HS8 _ HK9) ?_;clear hK K k9;refine CF.done (by kernel_rfl) ?_ _
   try simp only[pJ,kR,kT,kU]
   refine HKk1 _ _ ?_;clear HKk1 K1 HHS HC8;have HKW9:p7 (Ac [] W' v9):=HK7a.trans HK9;have HGo:p7 (∀(a:Act) (wz:py),Ac [] W' wz->(!HF&& !RE)=false->LP (j5 w3 k (Jc (Al r) s) r s) (λ_ _ _ _=>False) (pre++[x]) M W' .normal a wz):=by
    intro a wz hkz hb;have hi2:=BI (j5.own (lC w3.heap.size)) (s:=(pre,M)) HI0 hkz;obtain⟨sts',ad',cp',g1,g2,g3,g4,g5⟩:=hi2.out;refine⟨hkz.mono (by simp),M,⟨hi2.kept,sts',ad',cp',g1,g2,g3,?_,g5⟩,λq hq=>⟨oi hq,?_⟩⟩
    .rw[g4,Aa HSo,hb,li (by simp),lU]
    .have hsz:=hkz.size;rw[Aa H5]at hq;rcases kZ.1 hq with rfl|hq
     .have:=H1.lt;omega
     .have:=(H2.lt q (by simpa using hq)).2;omega
   cases HF with
   |true=>
    refine n7 rfl (wpIn_exit ?_);exact HGo ⟨#[],[]⟩ _ HKW9 (by simp)
   |false=>
    refine nW rfl (wpIn_skip ?_);refine HK8 _ _ ?_;clear HK8 K8;have HSs:p7 (∃kb ko bv og oc,AF W' sp [m2 (V ⟨kb,ko,Y⟩),bv,U og VL oc] 237):=by
     obtain⟨kb,ko,bad,bcp,lvs',oad',ocp',sad',scp',fs',h1,_⟩:=(HS3.kept HI0.kept).at_;have hb:=h1.zN;rw[GE,Aa HVL2]at hb;exact⟨kb,ko,_,oad',ocp',hb⟩
    obtain⟨kb,ko,bv,og,oc,hsb⟩:=Aa HSs;have HSb:=Ab hsb;clear hsb HSs;have HS9:p7 (∀wz,Ac [] v9 wz->wz.rangeAt Bx 0 EX/\Ac [] v9 wz/\p8 wz ⟨tb,0,Y⟩=V (m2 (V ⟨sp,0,Y⟩))/\p8 wz ⟨ob,0,Y⟩=V (X J OH)/\p8 wz ⟨sp,2,Y⟩=V (U og VL oc)):=by
     intro wz hkz;have hk:=HKW9.trans hkz;have h0:=(HBW.2.2.2.1.kept hk).cell 0;have h1:=(HBW.2.2.2.2.kept hk).cell 0;have h2:=(HSb.kept hk).cell 2;simp at h0 h1 h2;exact⟨(HBl.kept hk).range,hkz,h0,h1,h2⟩
    refine mM (λK9 hK9=>?_);have HK9k:=Ab hK9;clear hK9;have HE9:p7 (∀(y13 y14 y15 y16 y17 y18 y19 y20 y21 y22 y23 y24 y25 y26 y27 y28 y29 y30 y31 y32 y33 y34 y35 y36 y37 y38 y39 y40 y41 y42 y43 y44 y45 y46 y47 y48 y49 y50 y51 y52 y53 y54 y55 y56 y57 y58 y59 y60 y61 y62 y63 y64 y65 y66 y67 y68 y69 y70:p5) (WB:Nat) (B:Bool) (y:pM zA) (wz:py),Ac [] v9 wz->YP y B->AF wz WB (Aj (Bn y)) 243->B= !RE->K9 ⟨#[m2 (V ⟨cb,0,Y⟩),X J k,m2 (V ⟨N,0,Y⟩),m2 (V ⟨N+1,0,Y⟩),U Y 0 0,m2 (V ⟨N+2,0,Y⟩),m2 (V ⟨tb,0,Y⟩),m2 (V ⟨ob,0,Y⟩),m2 (V ⟨SB,0,Y⟩),m2 (V ⟨Bx,0,Y⟩),m2 (V ⟨HB,0,Y⟩),m2 (V ⟨WB,0,Y⟩),pE B,y13,y14,y15,y16,y17,y18,y19,y20,y21,y22,y23,y24,y25,y26,y27,y28,y29,y30,y31,y32,y33,y34,y35,y36,y37,y38,y39,y40,y41,y42,y43,y44,y45,y46,y47,y48,y49,y50,y51,y52,y53,y54,y55,y56,y57,y58,y59,y60,y61,y62,y63,y64,y65,y66,y67,y68,y69,y70],[]⟩ wz):=by
     intro y13 y14 y15 y16 y17 y18 y19 y20 y21 y22 y23 y24 y25 y26 y27 y28 y29 y30 y31 y32 y33 y34 y35 y36 y37 y38 y39 y40 y41 y42 y43 y44 y45 y46 y47 y48 y49 y50 y51 y52 y53 y54 y55 y56 y57 y58 y59 y60 y61 y62 y63 y64 y65 y66 y67 y68 y69 y70 WB B y wz hkz hyl hWB hB;refine HK9k _ _ ?_;clear HK9k K9;have HKz:=Ab hkz;have HyL:=Ab hyl;have HWB:=Ab hWB;have HKWz:p7 (Ac [] W' wz):=HKW9.trans hkz;clear hkz hyl hWB;refine mM (λK1 hK1=>?_);have HKk1:=Ab hK1;clear hK1;refine AM (by rfl) (by rintro ⟨_,_,h⟩;exact h) ?_;go_wp2;refine HKk1 _ _ ?_;clear HKk1 K1;cases RE with
     |true=>
      subst hB;refine nW rfl (wpIn_skip ?_);exact HGo ⟨#[],[]⟩ _ HKWz (by simp)
     |false=>
      subst hB;refine n7 rfl ?_;have HC11:=Ab (λwy (hk:Ac [] wz wy)=>HNx y WB wy (HKw'.trans (HKWz.trans hk)) HyL (HWB.kept hk));obtain⟨SL,hSL⟩:=pN (Z sts);have HSL:=Ab hSL;have HBs:p7 (∀wy,Ac [] wz wy->AF wy SB [U ad SL cp] 137/\AF wy HB [O hn,U (V ⟨g7,0,Y⟩) (Z zV) (Z zV)] 104/\AF wy (N+1) [X J k] 3/\AF wy (N+2) [X J hp,O hn,U adh (Z zV) cph,U adb (Z zH) cpb] 189):=by
       intro wy hk;have hkW:=HKWz.trans hk;have h0:=H1.kept hkW;rw[hSL]at h0;exact⟨h0,HBh.kept ((HK9.trans HKz).trans hk),HBW.2.1.kept hkW,HBW.2.2.1.kept hkW⟩
      have Dk:p7 (∀wy,AF wy SB [U ad SL cp] 137/\AF wy HB [O hn,U (V ⟨g7,0,Y⟩) (Z zV) (Z zV)] 104/\AF wy (N+1) [X J k] 3/\AF wy (N+2) [X J hp,O hn,U adh (Z zV) cph,U adb (Z zH) cpb] 189->p8 wy ⟨SB,0,Y⟩=V (U ad SL cp)/\p8 wy ⟨HB,0,Y⟩=V (O hn)/\p8 wy ⟨HB,1,Y⟩=V (U (V ⟨g7,0,Y⟩) (Z zV) (Z zV))/\p8 wy ⟨N+1,0,Y⟩=V (X J k)/\p8 wy ⟨N+2,3,Y⟩=V (U adb (Z zH) cpb)):=by
       rintro wy ⟨b0,b1,b2,b3⟩;have h0:=b0.cell 0;have h1:=b1.cell 0;have h2:=b1.cell 1;have h3:=b2.cell 0;have h4:=b3.cell 3;simp at h0 h1 h2 h3 h4;exact⟨h0,h1,h2,h3,h4⟩
      clear hSL;have HHS:=Ab (Dk wz.drew (HBs _ (pO [] wz).drew));refine ED 9 (λwy=>p8 wy ⟨SB,0,Y⟩=V (U ad SL cp)/\p8 wy ⟨HB,0,Y⟩=V (O hn)/\p8 wy ⟨HB,1,Y⟩=V (U (V ⟨g7,0,Y⟩) (Z zV) (Z zV))/\p8 wy ⟨N+1,0,Y⟩=V (X J k)/\p8 wy ⟨N+2,3,Y⟩=V (U adb (Z zH) cpb)) (by kernel_rfl) (by rfl) (by rintro ⟨_,_,h⟩;exact h) ?_;refine CF.tq (i:=0) (v:=U ad SL cp) rfl (λ_ _ _ h=>h) HHS ?_;simp only[pJ,kR,kT,kU];refine CF.tq (i:=1) (v:=pC #[O hn,U (V ⟨g7,0,Y⟩) (Z zV) (Z zV)]) rfl (λ_ _ _ h=>h) HHS ?_;simp only[pJ,kR,kT,kU];refine CF.tq (i:=2) (v:=X J k) rfl (λ_ _ _ h=>h) HHS ?_;simp only[pJ,kR,kT,kU];refine CF.tq (i:=3) (v:=m2 (V ⟨N+2,3,Y⟩)) rfl (λ_ _ _ h=>h) HHS ?_;simp only[pJ,kR,kT,kU];refine CF.tq (i:=4) (v:=U adb (Z zH) cpb) rfl (λ_ _ _ h=>h) HHS ?_;simp only[pJ,kR,kT,kU];refine CF.one (i:=5) (by kernel_rfl) rfl (λK hK=>?_)
      go_simp
      refine(HC11 _ (pO [] wz).drew).mono ?_;rintro _ u1 ⟨nad,nn,ncp,nps,rfl,hnps,hnst,k1'⟩;have HNps:=Ab hnps;have HNst:=Ab hnst;clear hnps hnst;have k1:Ac [] wz u1:=(pO [] wz).drew.trans k1';refine hK.out _ _ (λ_=>Dk _ (HBs _ k1)) ?_;clear hK K
      try simp only[pJ,kR,kT,kU]
      have HHS1:=Ab (Dk _ (HBs _ k1));refine CF.tq (i:=6) (v:=pC #[O hn,U (V ⟨g7,0,Y⟩) (Z zV) (Z zV),X J k,U nad nn ncp]) rfl (λ_ _ _ h=>h) HHS1 ?_;simp only[pJ,kR,kT,kU];refine CF.one (i:=7) (by kernel_rfl) rfl (λK hK=>?_)
      go_simp
      have k2:=k1.alloc (j3 #[O hn,U (V ⟨g7,0,Y⟩) (Z zV) (Z zV),X J k,U nad nn ncp] 176);refine hK.out _ _ (λ_=>Dk _ (HBs _ k2)) ?_;clear hK K
      try simp only[pJ,kR,kT,kU]
      have hkW1:Ac [] W' u1:=HKWz.trans k1;have hrow1:p9 u1 SB 176 4 (U ad SL cp) SL (sts.flatMap (KJ k)):=by
       have h:=Ad H2 hkW1;rw[Aa HSL]at h;exact h
      (have hSBu:SB+1<=u1.heap.size:=by have h1:=H1.lt;have h2:=hkW1.size;omega);(have hSL1:SL<=100000:=by have:=Aa HLs;have:=Aa HSL;omega);refine CF.one (i:=8) (by kernel_rfl) rfl (λK hK=>?_);refine oC _ (by rfl) _ _ _ (by rfl) SB 176 i0 _ 4 72 underlying137 hi0 hz0 hz1 hz2 rfl (by omega) (U ad SL cp) SL (sts.flatMap (KJ k)) (by rfl) (lg hrow1 _)
       ⟨u1.heap.size,0,Y⟩ 1 1 [O hn,U (V ⟨g7,0,Y⟩) (Z zV) (Z zV),X J k,U nad nn ncp] (by rfl) (by rfl) (lI (lP u1 _)) (by simp[Value.oneCell'])
       (by omega) (by unfold maxLen;omega) (by omega) (by simp;omega) (u1.heap.size+1) (by simp) ?_
      intro gg cap u3 hown3 hgrow hat3 hlt3;(have hap:∀{b:Nat} {cs:pM p5} {t:TypeId},AF u1 b cs t->176≠t->(U ad SL cp).ownBlock≠V b:=λhb hne=>As hrow1 hb hne);have hb1:=Aa HBs u1 k1;have hb3:AF u3 SB [U ad SL cp] 137/\AF u3 HB [O hn,U (V ⟨g7,0,Y⟩) (Z zV) (Z zV)] 104/\AF u3 (N+1) [X J k] 3/\AF u3 (N+2) [X J hp,O hn,U adh (Z zV) cph,U adb (Z zH) cpb] 189:=⟨(hb1.1.alloc _).grown hgrow (hap hb1.1 (by decide)),(hb1.2.1.alloc _).grown hgrow (hap hb1.2.1 (by decide)),(hb1.2.2.1.alloc _).grown hgrow (hap hb1.2.2.1 (by decide)),(hb1.2.2.2.alloc _).grown hgrow (hap hb1.2.2.2 (by decide))⟩;have hSB3:=hb3.1;have kM:Ac (SB::(U ad SL cp).ownBlock.toList) W' u3:=((hkW1.mono (by simp)).alloc (j3 #[O hn,U (V ⟨g7,0,Y⟩) (Z zV) (Z zV),X J k,U nad nn ncp] 176)).grown hgrow (λq hq=>oi (lY _ (by simpa using hq)));refine hK.out _ _ (λ_=>Dk _ hb3) ?_;clear hK K
      try simp only[pJ,kR,kT,kU]
      have c8:=hSB3.cell 0;have f8:=hSB3.frozen 0;simp at c8;refine CF.one (i:=9) (by kernel_rfl) rfl (λK hK=>?_)
      go_simp
      refine hK.out _ _ (λh=>absurd rfl h) ?_;clear hK K;refine CF.done (by kernel_rfl) ?_ _;have hM5:=Aa H5;rw[Aa HSL]at hM5;have kM4:Ac M W' (u3.setCell ⟨SB,0,Y⟩ (U (V ⟨gg,0,Y⟩) (SL+1) cap)):=by
       rw[hM5];exact kM.setCell (p:=⟨SB,0,Y⟩) (oi (mz ..)) _
      have hMge:∀q∈M,SB<=q:=by
       intro q hq;rw[hM5]at hq;rcases kZ.1 hq with rfl|hq
       .exact lC _
       .exact(hrow1.lt q (by simpa using hq)).1
      have hst13:∀{b e sz n:Nat} {v:p5} {ys:pM p5},p9 u1 b e sz v n ys->e≠176->e≠137->p9 (u3.setCell ⟨SB,0,Y⟩ (U (V ⟨gg,0,Y⟩) (SL+1) cap)) b e sz v n ys:=fun{b e sz n v ys} hr h1 h2=>by
       have hr3:=mI (v:=v) (lg (v:=v) hr _) hgrow (by
        cases hpo:v.ownBlock with
        |none=>exact oi rfl
        |some q=>exact oj (λe=>Bc hr hrow1 h1 q hpo e.symm))
       exact Ag hr3 (As hr3 hSB3 h2) _
      have hPn:Ea u1 ⟨⟨hn,TS⟩,U (V ⟨g7,0,Y⟩) (Z zV) (Z zV)⟩:=HPf.kept ((HK9.trans HKz).trans k1);refine⟨kM4,SB::[gg],⟨HI0.kept.trans' kM4 (λq hq=>oj (by have:=hMge q hq;have:=Aa HSB;omega)),sts++[⟨⟨⟨hn,TS⟩,U (V ⟨g7,0,Y⟩) (Z zV) (Z zV)⟩,U nad nn ncp,nps⟩],V ⟨gg,0,Y⟩,cap,?_,?_,?_,?_,?_⟩,?_⟩
      .rw[Aa HSB,lu,Aa HSL];exact hSB3.set 0 _
      .rw[Aa HSB,lu,Aa HSL,lM];have h:=Ag hown3 (As hown3 hSB3 (by decide)) (p:=⟨SB,0,Y⟩) (U (V ⟨gg,0,Y⟩) (SL+1) cap);exact h
      .intro st hst;rcases lw.1 hst with h|h
       .exact⟨((H3 st h).1.kept hkW1).map (λp hp=>hst13 (v:=p.tv) hp (by decide) (by decide)) (λhr=>hst13 hr (by decide) (by decide)),(H3 st h).2⟩
       .simp only[kY]at h;subst h;obtain⟨q1,q2,q3⟩:=HNps;refine⟨⟨hst13 hPn (by decide) (by decide),by show Z TS<=1000;have:=Aa HTl;omega,⟨hst13 q1.row (by decide) (by decide),λp hp=>⟨hst13 (v:=p.tv) (q1.each p hp).1 (by decide) (by decide),(q1.each p hp).2⟩⟩,nad,ncp,by show U nad nn ncp=_;rw[q2]⟩,λq hq=>?_,?_⟩
        .have h1:wz.heap.size<=q:=q3 q hq;have h2:=HI0.kept.size;have h3:=HKWz.size;omega
        .show ki r s (⟨hn,TS⟩:C4) _;rw[Aa HFe];exact HNst
      .rw[lV,Aa H4,Aa HSo,ln (by rfl),lV];simp only[lE,m8];rw[Aa HFe]
      .rw[Aa HSB,lu];rfl
      .intro q hq;have h3:=hSB3.lt;rcases kZ.1 hq with rfl|hq
       .exact⟨oi (by rw[hM5];exact mz ..),by simp;omega⟩
       .simp only[kY]at hq;subst hq;have h4:=(hown3.lt q rfl).2;refine⟨?_,by simp;omega⟩;rcases hat3 with h|h
        .exact oi (by rw[hM5];exact lY _ (by rw[h];simp))
        .exact oj (by have:=hkW1.size;omega)
    clear HK9k;have HHS:=Ab (HS9 v9.drew (pO [] v9).drew);refine ED 15 (λwz=>wz.rangeAt Bx 0 EX/\Ac [] v9 wz/\p8 wz ⟨tb,0,Y⟩=V (m2 (V ⟨sp,0,Y⟩))/\p8 wz ⟨ob,0,Y⟩=V (X J OH)/\p8 wz ⟨sp,2,Y⟩=V (U og VL oc)) (by kernel_rfl) (by rfl) (by rintro ⟨_,_,h⟩;exact h) ?_;refine CF.tqH (i:=0) (v:=m2 (V ⟨sp,0,Y⟩)) rfl (λ_ _ _ h=>h) HHS ?_;simp only[pJ,kR,kT,kU];refine CF.tqH (i:=1) (v:=X J OH) rfl (λ_ _ _ h=>h) HHS ?_;simp only[pJ,kR,kT,kU];refine CF.tqH (i:=2) (v:=m2 (V ⟨sp,0,Y⟩)) rfl (λ_ _ _ h=>h) HHS ?_;simp only[pJ,kR,kT,kU];refine CF.tqH (i:=3) (v:=m2 (V ⟨sp,0,Y⟩)) rfl (λ_ _ _ h=>h) HHS ?_;simp only[pJ,kR,kT,kU];refine CF.tqH (i:=4) (v:=m2 (V ⟨sp,2,Y⟩)) rfl (λ_ _ _ h=>h) HHS ?_;simp only[pJ,kR,kT,kU];refine CF.tqH (i:=5) (v:=U og VL oc) rfl (λ_ _ _ h=>h) HHS ?_;simp only[pJ,kR,kT,kU];refine CF.tqH (i:=6) (v:=X J VL) rfl (λ_ _ _ h=>h) HHS ?_;simp only[pJ,kR,kT,kU];refine CF.yJ (i:=7) (v:=pC (ml EX)) rfl (by kernel_rfl) (by kernel_rfl) (by kernel_rfl) (by decide) (λ_ _ _ h=>h) HHS (yieldsIf_load_mid (by rfl) 243 _ rfl Bx 0 (by rfl) EX _ (λwz hz=>hz.1) underlying243 rfl (by rw[Aa HXe];exact Tryz.zG)) ?_;simp only[pJ,kR,kT,kU];have hka:Ac [] v9 v9.drew:=(pO [] v9).drew;generalize v9.drew=x0 at hka HHS⊢;refine CF.two (i:=8) (j:=12) (by kernel_rfl) rfl rfl (λK hK=>?_) (λK hK=>?_)
    .go_simp
     refine(HC9 _ (HKW9.trans hka)).mono ?_;rintro _ x2 ⟨y,B,rfl,hyl,hB,k8'⟩;have HBb:=Ab hB;clear hB;have k8:Ac [] v9 x2:=hka.trans k8';refine hK.out _ _ (λ_=>HS9 _ k8) ?_;clear hK K
     try simp only[pJ,kR,kT,kU]
     obtain⟨hyE,hyo⟩:=EU y (HYl y B hyl);obtain⟨EY,hEY⟩:=pN (Aj (Bn y));have HEY:=Ab hEY;rw[hEY]at hyE hyo⊢;clear hEY;have HHS8:=Ab (HS9 _ k8);refine CF.tqH (i:=9) (v:=.tuple #[pC (ml EY),pE B]) rfl (λ_ _ _ h=>h) HHS8 ?_;simp only[pJ,kR,kT,kU];refine CF.tqH (i:=10) (v:=pC (ml EY)) rfl (λ_ _ _ h=>h) HHS8 ?_;simp only[pJ,kR,kT,kU];refine CF.tqH (i:=11) (v:=pE B) rfl (λ_ _ _ h=>h) HHS8 ?_;simp only[pJ,kR,kT,kU];refine CF.one (i:=12) (by kernel_rfl) rfl (λK hK=>?_)
     go_simp
     have k12:=k8.alloc (j3 (ml (pG 26 (O ⟨#[]⟩))) 243);refine hK.out _ _ (λ_=>HS9 _ k12) ?_;clear hK K
     try simp only[pJ,kR,kT,kU]
     have hWB:=pP x2 (pG 26 (O ⟨#[]⟩)) 243;have hge:v9.heap.size<=x2.heap.size:=k8.size;change CF _ _ _ _ _ _ _ _ _ (x2.alloc (j3 (ml (pG 26 (O ⟨#[]⟩))) 243));generalize x2.heap.size=WB at hWB hge⊢;generalize x2.alloc (j3 (ml (pG 26 (O ⟨#[]⟩))) 243)=x3 at k12 hWB⊢;clear k8;have k8:=k12;(have hya:EY.toArray.size=26:=by simp[hyE]);have hth:x3.there WB 0 EY.toArray.size:=by
      have h:=hWB.there;simp only[m9]at h;rw[hya];exact h
     have k13:=k8.zI (b:=WB) (oj hge) EY 0;have hW2:=hWB.zP EY (by rw[hyE];simp);refine CF.one (i:=13) (by kernel_rfl) rfl (λK hK=>?_);rw[ln (by rfl)];refine wp_store_mid 243 _ _ rfl WB 0 (ml EY) (by rfl) (by rfl) hth (by rw[hya];exact Tryz.zG) (mL hyo) ?_;simp only[oo];refine hK.out _ _ (λ_=>HS9 _ k13) ?_;clear hK K;generalize x3.setCells WB 0 EY=x4 at k13 hW2⊢
     try simp only[pJ,kR,kT,kU]
     refine CF.one (i:=14) (by kernel_rfl) rfl (λK hK=>?_)
     go_simp
     refine hK.out _ _ (λ_=>HS9 _ k13) ?_;clear hK K;refine CF.done (by kernel_rfl) ?_ _
     try simp only[pJ,kR,kT,kU]
     exact HE9 _ _ _ _ _ _ _ _ _ _ _ _ _ _ _ _ _ _ _ _ _ _ _ _ _ _ _ _ _ _ _ _ _ _ _ _ _ _ _ _ _ _ _ _ _ _ _ _ _ _ _ _ _ _ _ _ _ _ WB B y _ k13 hyl (by rw[Aa HEY];exact hW2) HBb
    .go_simp
     have k12:=hka.alloc (j3 (ml (pG 26 (O ⟨#[]⟩))) 243);refine hK.out _ _ (λ_=>HS9 _ k12) ?_;clear hK K
     try simp only[pJ,kR,kT,kU]
     have hWB:=pP x0 (pG 26 (O ⟨#[]⟩)) 243;have hge:v9.heap.size<=x0.heap.size:=hka.size;change CF _ _ _ _ _ _ _ _ _ (x0.alloc (j3 (ml (pG 26 (O ⟨#[]⟩))) 243));generalize x0.heap.size=WB at hWB hge⊢;generalize x0.alloc (j3 (ml (pG 26 (O ⟨#[]⟩))) 243)=x1 at k12 hWB⊢;refine CF.one (i:=8) (by kernel_rfl) rfl (λK hK=>?_)
     go_simp
     refine(HC9 _ (HKW9.trans k12)).mono ?_;rintro _ x2 ⟨y,B,rfl,hyl,hB,k8'⟩;have HBb:=Ab hB;clear hB;have k8:Ac [] v9 x2:=k12.trans k8';have hWB:=hWB.kept k8';refine hK.out _ _ (λ_=>HS9 _ k8) ?_;clear hK K
     try simp only[pJ,kR,kT,kU]
     obtain⟨hyE,hyo⟩:=EU y (HYl y B hyl);obtain⟨EY,hEY⟩:=pN (Aj (Bn y));have HEY:=Ab hEY;rw[hEY]at hyE hyo⊢;clear hEY;have HHS8:=Ab (HS9 _ k8);refine CF.tqH (i:=9) (v:=.tuple #[pC (ml EY),pE B]) rfl (λ_ _ _ h=>h) HHS8 ?_;simp only[pJ,kR,kT,kU];refine CF.tqH (i:=10) (v:=pC (ml EY)) rfl (λ_ _ _ h=>h) HHS8 ?_;simp only[pJ,kR,kT,kU];refine CF.tqH (i:=11) (v:=pE B) rfl (λ_ _ _ h=>h) HHS8 ?_;simp only[pJ,kR,kT,kU];(have hya:EY.toArray.size=26:=by simp[hyE]);have hth:x2.there WB 0 EY.toArray.size:=by
      have h:=hWB.there;simp only[m9]at h;rw[hya];exact h
     have k13:=k8.zI (b:=WB) (oj hge) EY 0;have hW2:=hWB.zP EY (by rw[hyE];simp);refine CF.one (i:=13) (by kernel_rfl) rfl (λK hK=>?_);rw[ln (by rfl)];refine wp_store_mid 243 _ _ rfl WB 0 (ml EY) (by rfl) (by rfl) hth (by rw[hya];exact Tryz.zG) (mL hyo) ?_;simp only[oo];refine hK.out _ _ (λ_=>HS9 _ k13) ?_;clear hK K;generalize x2.setCells WB 0 EY=x4 at k13 hW2⊢
     try simp only[pJ,kR,kT,kU]
     refine CF.one (i:=14) (by kernel_rfl) rfl (λK hK=>?_)
     go_simp
     refine hK.out _ _ (λ_=>HS9 _ k13) ?_;clear hK K;refine CF.done (by kernel_rfl) ?_ _
     try simp only[pJ,kR,kT,kU]
     exact HE9 _ _ _ _ _ _ _ _ _ _ _ _ _ _ _ _ _ _ _ _ _ _ _ _ _ _ _ _ _ _ _ _ _ _ _ _ _ _ _ _ _ _ _ _ _ _ _ _ _ _ _ _ _ _ _ _ _ _ WB B y _ k13 hyl (by rw[Aa HEY];exact hW2) HBb
  case rdone=>
   intro D M' W2 hD hi hd _;obtain⟨sts,ad,cp,i1,i2,i3,i4,i5⟩:=hi.out;rw[Aa HSB]at i1 i2;obtain⟨SL,hSL⟩:=pN (Z sts);have c8:=i1.cell 0;simp[hSL]at c8;have HFin:p7 (∀tmps:Array p5,tmps.getD 4 undef=U ad SL cp->QQ .ret ⟨tmps,[EA D]⟩ W2):=by
    intro tmps h4;rw[<-Aa HQQ];have hmk:Dv w.heap.size [D] W2:=⟨by simp,λd hd'=>by simp only[kY]at hd';have:=HK3.size;omega,λd hd'=>by simp only[kY]at hd';rw[hd'];exact hd⟩;refine Du [D] W2 hmk (λw' hs=>?_);have hown:OwnFrom w.heap.size (fun(_:Unit) W=>p9 W SB 176 4 (U ad (Z sts) cp) (Z sts) (sts.flatMap (KJ k))/\(∀st∈sts,Lk W st/\fq w.heap.size r s st)/\Ac [] w W):=BO (λ_ W W' M h kk hM=>⟨Ai h.1 kk (Co hM h.1),λst hst=>⟨(h.2.1 st hst).1.map (λp hp=>Ai (v:=p.tv) hp kk (Co (v:=p.tv) hM hp)) (λhr=>Ai hr kk (Co hM hr)),(h.2.1 st hst).2⟩,Eo h.2.2 kk hM (lC _)⟩);obtain⟨g1,g2,g3⟩:=hs.own hown (s:=()) hmk ⟨i2,λst hst=>⟨(i3 st hst).1,λq hq=>by have:=(i3 st hst).2.1 q hq;have:=HK3.size;omega,(i3 st hst).2.2⟩,HK3.trans hi.kept⟩;refine⟨_,results_tmp rfl _ _ _,ad,cp,sts,by rw[h4,hSL],?_,Am g1 (by have:=HK3.size;have:=Aa HSB;omega),g2,g3⟩;rw[i4,<-Aa HXS,TC]
   clear i1 i2 i3 i4 i5 hSL hi hd yD;refine HKk _ _ ?_;clear HKk;refine pL (λK3 HK3'=>?_);go_wp2;refine HK3' _ _ ?_;clear HK3' K3;refine wp_ret ?_;exact HFin _ rfl
  case rstop=>
   intro D c pre M' W2 _ h _;exact h.elim
 clear HK2k;have HHS:=Ab (HS2 wA.drew (pO [] wA).drew);refine CH 12 (λwz=>Ac [] wA wz/\p8 wz ⟨N,0,Y⟩=V (m2 (V ⟨cb,0,Y⟩))/\p8 wz ⟨N+2,0,Y⟩=V (X J hp)/\p8 wz ⟨N+2,1,Y⟩=V (O hn)/\p8 wz ⟨N+2,2,Y⟩=V (U adh (Z zV) cph)/\p8 wz ⟨N+2,3,Y⟩=V (U adb (Z zH) cpb)) (by kernel_rfl) ?_;refine CF.tqH (i:=0) (v:=m2 (V ⟨cb,0,Y⟩)) rfl (BD HQp) HHS ?_;simp only[pJ,kR,kT,kU];refine CF.tqH (i:=1) (v:=m2 (V ⟨cb,0,Y⟩)) rfl (BD HQp) HHS ?_;simp only[pJ,kR,kT,kU];refine CF.tqH (i:=2) (v:=m2 (V ⟨cb,1,Y⟩)) rfl (BD HQp) HHS ?_;simp only[pJ,kR,kT,kU];refine CF.tqH (i:=3) (v:=m2 (V ⟨N+2,3,Y⟩)) rfl (BD HQp) HHS ?_;simp only[pJ,kR,kT,kU];refine CF.tqH (i:=4) (v:=U adb (Z zH) cpb) rfl (BD HQp) HHS ?_;simp only[pJ,kR,kT,kU];refine CF.tqH (i:=5) (v:=pC #[X J hp,O hn,U adh (Z zV) cph,U adb (Z zH) cpb]) rfl (BD HQp) HHS ?_;simp only[pJ,kR,kT,kU];have hka:Ac [] wA wA.drew:=(pO [] wA).drew;generalize wA.drew=x0 at hka HHS⊢;refine CF.two (i:=6) (j:=10) (by kernel_rfl) rfl rfl (λK hK=>?_) (λK hK=>?_)
 .go_simp
  refine(HCT _ (HKw.trans hka)).mono ?_;rintro _ x1 ⟨ad6,cp6,rfl,hrow6,k1'⟩;have k1:Ac [] wA x1:=hka.trans k1';refine hK.out _ _ (λ_=>HS2 _ k1) ?_;clear hK K
  try simp only[pJ,kR,kT,kU]
  refine CF.two (i:=7) (j:=10) (by kernel_rfl) rfl rfl (λK hK=>?_) (λK hK=>?_)
  .go_simp
   refine(HV1 ad6 cp6 _ hrow6).mono ?_;rintro _ x2 ⟨oad,ocp,rfl,hrow7,k2'⟩;have k2:Ac [] wA x2:=k1.trans k2';refine hK.out _ _ (λ_=>HS2 _ k2) ?_;clear hK K
   try simp only[pJ,kR,kT,kU]
   have HHS2:=Ab (HS2 _ k2);refine CF.tqH (i:=8) (v:=pC #[m2 (V ⟨cb,1,Y⟩),U adb (Z zH) cpb,U oad (Z VR) ocp]) rfl (BD HQp) HHS2 ?_;simp only[pJ,kR,kT,kU];refine CF.two (i:=9) (j:=10) (by kernel_rfl) rfl rfl (λK hK=>?_) (λK hK=>?_)
   .go_simp
    have k3:=k2.alloc (j3 #[m2 (V ⟨cb,1,Y⟩),U adb (Z zH) cpb,U oad (Z VR) ocp] 237);refine hK.out _ _ (λ_=>HS2 _ k3) ?_;clear hK K
    try simp only[pJ,kR,kT,kU]
    have hsp3:=pP x2 [m2 (V ⟨cb,1,Y⟩),U adb (Z zH) cpb,U oad (Z VR) ocp] 237;have hr3:=lg hrow7 (j3 #[m2 (V ⟨cb,1,Y⟩),U adb (Z zH) cpb,U oad (Z VR) ocp] 237);refine CF.one (i:=10) (by kernel_rfl) rfl (λK hK=>?_)
    go_simp
    have k4:=k3.alloc (j3 #[m2 Y] 233);refine hK.out _ _ (λ_=>HS2 _ k4) ?_;clear hK K
    try simp only[pJ,kR,kT,kU]
    have htb4:=pP (x2.alloc (j3 #[m2 (V ⟨cb,1,Y⟩),U adb (Z zH) cpb,U oad (Z VR) ocp] 237)) [m2 Y] 233;have hsp4:=hsp3.alloc (j3 #[m2 Y] 233);have hr6_4:=lg hrow6 (j3 #[m2 Y] 233);have hr7_4:=lg hr3 (j3 #[m2 Y] 233);have hne:=show(x2.alloc (j3 #[m2 (V ⟨cb,1,Y⟩),U adb (Z zH) cpb,U oad (Z VR) ocp] 237)).heap.size≠x2.heap.size from Nat.ne_of_gt hsp3.lt
    have hge:=k3.size
    try simp only[lT]at hsp4 htb4 hne hge
    generalize((x2.alloc (j3 #[m2 (V ⟨cb,1,Y⟩),U adb (Z zH) cpb,U oad (Z VR) ocp] 237)).alloc (j3 #[m2 Y] 233))=WW at k4 hr7_4 hsp4 htb4⊢;have c6:=htb4.cell 0;have f6:=htb4.frozen 0;simp at c6;refine CF.one (i:=11) (by kernel_rfl) rfl (λK hK=>?_)
    go_simp
    have kz:=k4.setCell (p:=⟨x2.heap.size+1,0,Y⟩) (oj hge) (m2 (V ⟨x2.heap.size,0,Y⟩));refine hK.out _ _ (λ_=>HS2 _ kz) ?_;clear hK K;refine CF.done (by kernel_rfl) ?_ _
    try simp only[pJ,kR,kT,kU]
    exact HE2 _ _ _ _ _ _ _ _ _ _ _ _ _ _ _ _ oad ocp (x2.heap.size) (x2.heap.size+1) _ kz (Ag hr7_4 (As hr7_4 htb4 (by decide)) _) (hsp4.zB ⟨x2.heap.size+1,0,Y⟩ hne _) (htb4.set 0 _)
   .go_simp
    have k3:=k2.alloc (j3 #[m2 Y] 233);refine hK.out _ _ (λ_=>HS2 _ k3) ?_;clear hK K
    try simp only[pJ,kR,kT,kU]
    have htb3:=pP x2 [m2 Y] 233;have hr6_3:=lg hrow6 (j3 #[m2 Y] 233);have hr7_3:=lg hrow7 (j3 #[m2 Y] 233);refine CF.one (i:=9) (by kernel_rfl) rfl (λK hK=>?_)
    go_simp
    have k4:=k3.alloc (j3 #[m2 (V ⟨cb,1,Y⟩),U adb (Z zH) cpb,U oad (Z VR) ocp] 237);refine hK.out _ _ (λ_=>HS2 _ k4) ?_;clear hK K
    try simp only[pJ,kR,kT,kU]
    have hsp4:=pP (x2.alloc (j3 #[m2 Y] 233)) [m2 (V ⟨cb,1,Y⟩),U adb (Z zH) cpb,U oad (Z VR) ocp] 237;have hr4:=lg hr7_3 (j3 #[m2 (V ⟨cb,1,Y⟩),U adb (Z zH) cpb,U oad (Z VR) ocp] 237);have htb4:=htb3.alloc (j3 #[m2 (V ⟨cb,1,Y⟩),U adb (Z zH) cpb,U oad (Z VR) ocp] 237);have hne:=show x2.heap.size≠(x2.alloc (j3 #[m2 Y] 233)).heap.size from Nat.ne_of_lt htb3.lt
    have hge:=k2.size
    try simp only[lT]at hsp4 htb4 hne hge
    generalize((x2.alloc (j3 #[m2 Y] 233)).alloc (j3 #[m2 (V ⟨cb,1,Y⟩),U adb (Z zH) cpb,U oad (Z VR) ocp] 237))=WW at k4 hr4 hsp4 htb4⊢;have c6:=htb4.cell 0;have f6:=htb4.frozen 0;simp at c6;refine CF.one (i:=11) (by kernel_rfl) rfl (λK hK=>?_)
    go_simp
    have kz:=k4.setCell (p:=⟨x2.heap.size,0,Y⟩) (oj hge) (m2 (V ⟨x2.heap.size+1,0,Y⟩));refine hK.out _ _ (λ_=>HS2 _ kz) ?_;clear hK K;refine CF.done (by kernel_rfl) ?_ _
    try simp only[pJ,kR,kT,kU]
    exact HE2 _ _ _ _ _ _ _ _ _ _ _ _ _ _ _ _ oad ocp (x2.heap.size+1) (x2.heap.size) _ kz (Ag hr4 (As hr4 htb4 (by decide)) _) (hsp4.zB ⟨x2.heap.size,0,Y⟩ hne _) (htb4.set 0 _)
  .go_simp
   have k2:=k1.alloc (j3 #[m2 Y] 233);refine hK.out _ _ (λ_=>HS2 _ k2) ?_;clear hK K
   try simp only[pJ,kR,kT,kU]
   have htb2:=pP x1 [m2 Y] 233;have hr6_2:=lg hrow6 (j3 #[m2 Y] 233);refine CF.one (i:=7) (by kernel_rfl) rfl (λK hK=>?_)
   go_simp
   refine(HV1 ad6 cp6 _ hr6_2).mono ?_;rintro _ x3 ⟨oad,ocp,rfl,hrow7,k3'⟩;have k3:Ac [] wA x3:=k2.trans k3';refine hK.out _ _ (λ_=>HS2 _ k3) ?_;clear hK K
   try simp only[pJ,kR,kT,kU]
   have htb3:=htb2.kept k3';have HHS3:=Ab (HS2 _ k3);refine CF.tqH (i:=8) (v:=pC #[m2 (V ⟨cb,1,Y⟩),U adb (Z zH) cpb,U oad (Z VR) ocp]) rfl (BD HQp) HHS3 ?_;simp only[pJ,kR,kT,kU];refine CF.one (i:=9) (by kernel_rfl) rfl (λK hK=>?_)
   go_simp
   have k4:=k3.alloc (j3 #[m2 (V ⟨cb,1,Y⟩),U adb (Z zH) cpb,U oad (Z VR) ocp] 237);refine hK.out _ _ (λ_=>HS2 _ k4) ?_;clear hK K
   try simp only[pJ,kR,kT,kU]
   have hsp4:=pP x3 [m2 (V ⟨cb,1,Y⟩),U adb (Z zH) cpb,U oad (Z VR) ocp] 237;have hr4:=lg hrow7 (j3 #[m2 (V ⟨cb,1,Y⟩),U adb (Z zH) cpb,U oad (Z VR) ocp] 237);have htb4:=htb3.alloc (j3 #[m2 (V ⟨cb,1,Y⟩),U adb (Z zH) cpb,U oad (Z VR) ocp] 237);have hne:=show x1.heap.size≠x3.heap.size from Nat.ne_of_lt htb3.lt
   have hge:=k1.size
   try simp only[lT]at hsp4 htb4 hne hge
   generalize(x3.alloc (j3 #[m2 (V ⟨cb,1,Y⟩),U adb (Z zH) cpb,U oad (Z VR) ocp] 237))=WW at k4 hr4 hsp4 htb4⊢;have c6:=htb4.cell 0;have f6:=htb4.frozen 0;simp at c6;refine CF.one (i:=11) (by kernel_rfl) rfl (λK hK=>?_)
   go_simp
   have kz:=k4.setCell (p:=⟨x1.heap.size,0,Y⟩) (oj hge) (m2 (V ⟨x3.heap.size,0,Y⟩));refine hK.out _ _ (λ_=>HS2 _ kz) ?_;clear hK K;refine CF.done (by kernel_rfl) ?_ _
   try simp only[pJ,kR,kT,kU]
   exact HE2 _ _ _ _ _ _ _ _ _ _ _ _ _ _ _ _ oad ocp (x3.heap.size) (x1.heap.size) _ kz (Ag hr4 (As hr4 htb4 (by decide)) _) (hsp4.zB ⟨x1.heap.size,0,Y⟩ hne _) (htb4.set 0 _)
 .go_simp
  have k1:=hka.alloc (j3 #[m2 Y] 233);refine hK.out _ _ (λ_=>HS2 _ k1) ?_;clear hK K
  try simp only[pJ,kR,kT,kU]
  have htb1:=pP x0 [m2 Y] 233;refine CF.one (i:=6) (by kernel_rfl) rfl (λK hK=>?_)
  go_simp
  refine(HCT _ (HKw.trans k1)).mono ?_;rintro _ x2 ⟨ad6,cp6,rfl,hrow6,k2'⟩;have k2:Ac [] wA x2:=k1.trans k2';refine hK.out _ _ (λ_=>HS2 _ k2) ?_;clear hK K
  try simp only[pJ,kR,kT,kU]
  have htb2:=htb1.kept k2';refine CF.one (i:=7) (by kernel_rfl) rfl (λK hK=>?_)
  go_simp
  refine(HV1 ad6 cp6 _ hrow6).mono ?_;rintro _ x3 ⟨oad,ocp,rfl,hrow7,k3'⟩;have k3:Ac [] wA x3:=k2.trans k3';refine hK.out _ _ (λ_=>HS2 _ k3) ?_;clear hK K
  try simp only[pJ,kR,kT,kU]
  have htb3:=htb2.kept k3';have HHS3:=Ab (HS2 _ k3);refine CF.tqH (i:=8) (v:=pC #[m2 (V ⟨cb,1,Y⟩),U adb (Z zH) cpb,U oad (Z VR) ocp]) rfl (BD HQp) HHS3 ?_;simp only[pJ,kR,kT,kU];refine CF.one (i:=9) (by kernel_rfl) rfl (λK hK=>?_)
  go_simp
  have k4:=k3.alloc (j3 #[m2 (V ⟨cb,1,Y⟩),U adb (Z zH) cpb,U oad (Z VR) ocp] 237);refine hK.out _ _ (λ_=>HS2 _ k4) ?_;clear hK K
  try simp only[pJ,kR,kT,kU]
  have hsp4:=pP x3 [m2 (V ⟨cb,1,Y⟩),U adb (Z zH) cpb,U oad (Z VR) ocp] 237;have hr4:=lg hrow7 (j3 #[m2 (V ⟨cb,1,Y⟩),U adb (Z zH) cpb,U oad (Z VR) ocp] 237);have htb4:=htb3.alloc (j3 #[m2 (V ⟨cb,1,Y⟩),U adb (Z zH) cpb,U oad (Z VR) ocp] 237);have hne:=show x0.heap.size≠x3.heap.size from Nat.ne_of_lt htb3.lt
  have hge:=hka.size
  try simp only[lT]at hsp4 htb4 hne hge
  generalize(x3.alloc (j3 #[m2 (V ⟨cb,1,Y⟩),U adb (Z zH) cpb,U oad (Z VR) ocp] 237))=WW at k4 hr4 hsp4 htb4⊢;have c6:=htb4.cell 0;have f6:=htb4.frozen 0;simp at c6;refine CF.one (i:=11) (by kernel_rfl) rfl (λK hK=>?_)
  go_simp
  have kz:=k4.setCell (p:=⟨x0.heap.size,0,Y⟩) (oj hge) (m2 (V ⟨x3.heap.size,0,Y⟩));refine hK.out _ _ (λ_=>HS2 _ kz) ?_;clear hK K;refine CF.done (by kernel_rfl) ?_ _
  try simp only[pJ,kR,kT,kU]
  exact HE2 _ _ _ _ _ _ _ _ _ _ _ _ _ _ _ _ oad ocp (x3.heap.size) (x0.heap.size) _ kz (Ag hr4 (As hr4 htb4 (by decide)) _) (hsp4.zB ⟨x0.heap.size,0,Y⟩ hne _) (htb4.set 0 _)
