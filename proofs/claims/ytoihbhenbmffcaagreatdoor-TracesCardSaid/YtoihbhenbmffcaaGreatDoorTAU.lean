import Derived.Test.YtoihbhenbmffcaaGreatDoorTAT
set_option linter.all false
set_option maxHeartbeats 0
open List renaming length->Z,toArray->j2,replicate->qV
open Option renaming none->Y,some->V
open Go.Value renaming slice->U,int->X,string->O,pointer->j3,agg->oj,bool->q8
open Go.IntKind renaming i64->J
open Go.Obj renaming cells->j1
open Go.Ending renaming returned->kt
open Or renaming inl->lo,inr->lx
open Go renaming World->ly,Value->ml
open Go.RowKit renaming Hid->nc
open Go.World renaming cell?->oa,ownsRow->oi
open Go.Act renaming put->qY
namespace Go.Proofs.YtoihbhenbmffcaaGreatDoor
open Go.RowKit Go.Proofs.Tryz
variable{w:ly}{k n:Nat}
theorem Tryz.zv:(Tryz.prog.info? 176).map (λi=>(i.zero,i.size,i.bytes))=V (V (oj #[O ⟨#[]⟩,U Y 0 0,X J 0,U Y 0 0]),4,72):=by kernel_rfl
def Lc{t:AJ}(h:Dt t):QG (ct t):=by
 rcases h with⟨h,_⟩|⟨a,b,_⟩
 .exact lo (by unfold ct;rw[h];rfl)
 .exact lx ⟨by unfold ct;simp only;omega,by unfold ct;simp only;omega⟩
structure lB(w3:ly)(k:Nat)(al:UInt8->rc zA->rc zA)(r:AV)(s:rc Af)(pre:rc (rc zA))(M:rc Nat)(W:ly):Prop where
 kept:Ac [] w3 W
 out:∃(sts:rc Vy) (ad:Option Addr) (cp:Nat),AI W w3.heap.size [U ad (Z sts) cp] 137/\oi W w3.heap.size 176 4 (U ad (Z sts) cp) (Z sts) (sts.flatMap (Ly k))/\
  (∀st∈sts,L6 W st/\gM w3.heap.size r s st)/\sts.map (λst=>st.f.f)=(NH al r s pre).map Bq/\M=w3.heap.size::(U ad (Z sts) cp).ownBlock.toList
def lB.own{o:UInt8->rc zA->rc zA}{r:AV}{s:rc Af}(u:w.heap.size<=n):OwnFrom n (fun(q:rc (rc zA)×rc Nat) W=>lB w k o r s q.1 q.2 W):=
 BF (λq W y M h a b=>by
  obtain⟨m,x,t,g,e,i,l⟩:=h.out
  exact⟨DS h.kept a b u,m,x,t,g.kept a (C3 b g),Ag e a (BZ b e),λj c=>⟨(i j c).1.map (λp d=>Ag (v:=p.tv) d a (BZ (v:=p.tv) b d)) (λf=>Ag f a (BZ b f)),(i j c).2⟩,l⟩)
set_option maxRecDepth 100000
theorem Vw(cb k:Nat)(lad:Option Addr)(lcp:Nat)(pcs:rc CU)(sad:Option Addr)(scp:Nat)(fs:rc Eb)(stv:ml)(r:AV)(s:rc Af)(w:ly)(hk:k<Z pcs)(hlen:Z pcs<=1000)(hC:AI w cb [U lad (Z pcs) lcp,U sad (Z fs) scp,stv] 139)(hP:CE w (U lad (Z pcs) lcp) pcs)(hF:Io w (U sad (Z fs) scp) fs)(hE:Cx fs s)(hcl:Rq pcs[k] r s)(hnl:Z (S4 (JN (An r) s) r (CP r) (DL r) s)<=100000):
  Calls prog 167 #[j3 (V ⟨cb,0,Y⟩),X J k] w λrr w'=>∃(ad:Option Addr) (cp:Nat) (sts:rc Vy),rr=kt (U ad (Z sts) cp)/\sts.map (λst=>st.f.f)=(S4 (JN (An r) s) r (CP r) (DL r) s).map Bq/\
   oi w' w.heap.size 176 4 (U ad (Z sts) cp) (Z sts) (sts.flatMap (Ly k))/\(∀st∈sts,L6 w' st/\gM w.heap.size r s st)/\Ac [] w w':=by
 obtain⟨i0,hi0,hz0,hz1,hz2⟩:=nC Tryz.zv;obtain⟨g,cap,hp,hn,zE,adh,cph,adb,cpb,zD,he,hck,_,_,_,_⟩:=FE hP k hk;simp only[mu]at he;obtain⟨rfl,-,rfl⟩:=he;have hpc:=hP.each _ (mw hk);rw[hck]at hcl hpc;have hfl:=hE.len;have hsl:=hcl.len;have hth:Z zE<=1000:=hcl.fit.head.2;have HCT:nc (∀wz,Ac [] w wz->Calls prog 184 #[oj #[X J hp,O hn,U adh (Z zE) cph,U adb (Z zD) cpb]] wz λe w'=>∃ad cp,e=kt (U ad (Z (Bn ⟨hp,hn,zE,U adh (Z zE) cph,U adb (Z zD) cpb,zD⟩)) cp)/\oi w' 0 215 2 (U ad (Z (Bn ⟨hp,hn,zE,U adh (Z zE) cph,U adb (Z zD) cpb,zD⟩)) cp) (Z (Bn ⟨hp,hn,zE,U adh (Z zE) cph,U adb (Z zD) cpb,zD⟩)) ((Bn ⟨hp,hn,zE,U adh (Z zE) cph,U adb (Z zD) cpb,zD⟩).flatMap Ar)/\Ac [] wz w'):=
  λwz hk=>(RR ⟨hp,hn,zE,U adh (Z zE) cph,U adb (Z zD) cpb,zD⟩ wz (hpc.kept hk) hcl.fit).mono λe w' ⟨ad,cp,h1,h2,h3⟩=>⟨ad,cp,h1,Ak h2 (mO _),h3⟩
 have HV1:nc (∀ad cp wz,oi wz 0 215 2 (U ad (Z (Bn ⟨hp,hn,zE,U adh (Z zE) cph,U adb (Z zD) cpb,zD⟩)) cp) (Z (Bn ⟨hp,hn,zE,U adh (Z zE) cph,U adb (Z zD) cpb,zD⟩)) ((Bn ⟨hp,hn,zE,U adh (Z zE) cph,U adb (Z zD) cpb,zD⟩).flatMap Ar)->Calls prog 138 #[U ad (Z (Bn ⟨hp,hn,zE,U adh (Z zE) cph,U adb (Z zD) cpb,zD⟩)) cp] wz λr w'=>∃ad' cp',r=kt (U ad' (Z (Ef (Bn ⟨hp,hn,zE,U adh (Z zE) cph,U adb (Z zD) cpb,zD⟩))) cp')/\oi w' 0 21 1 (U ad' (Z (Ef (Bn ⟨hp,hn,zE,U adh (Z zE) cph,U adb (Z zD) cpb,zD⟩))) cp') (Z (Ef (Bn ⟨hp,hn,zE,U adh (Z zE) cph,U adb (Z zD) cpb,zD⟩))) ((Ef (Bn ⟨hp,hn,zE,U adh (Z zE) cph,U adb (Z zD) cpb,zD⟩)).flatMap AX)/\Ac [] wz w'):=
  λad cp wz h=>(Pb ad cp _ 0 wz h hcl.zR).mono λe w' ⟨ad,cp,h1,h2,h3⟩=>⟨ad,cp,h1,Ak h2 (mO _),h3⟩
 have HSea:nc (∀sp oad ocp wz,Ac [] w wz->AI wz sp [j3 (V ⟨cb,1,Y⟩),U adb (Z zD) cpb,U oad (Z (Ef (Bn ⟨hp,hn,zE,U adh (Z zE) cph,U adb (Z zD) cpb,zD⟩))) ocp] 237->oi wz 0 21 1 (U oad (Z (Ef (Bn ⟨hp,hn,zE,U adh (Z zE) cph,U adb (Z zD) cpb,zD⟩))) ocp) (Z (Ef (Bn ⟨hp,hn,zE,U adh (Z zE) cph,U adb (Z zD) cpb,zD⟩))) ((Ef (Bn ⟨hp,hn,zE,U adh (Z zE) cph,U adb (Z zD) cpb,zD⟩)).flatMap AX)->eR wz sp (An r) s (CP r++DL r)):=by
  intro sp oad ocp wz hk hb hr;have hc1:=(hC.kept hk).cell 1;simp at hc1;exact hcl.sea (c:=⟨hp,hn,zE,U adh (Z zE) cph,U adb (Z zD) cpb,zD⟩) ⟨hb,hc1,hF.kept hk⟩ (hpc.body.kept hk) hr hE
 have HVl:nc (Z (Ef (Bn ⟨hp,hn,zE,U adh (Z zE) cph,U adb (Z zD) cpb,zD⟩))=Z (CP r++DL r)/\Z (CP r++DL r)<=26):=⟨by rw[hcl.order,GX],hcl.yH⟩;obtain⟨TV,hTV⟩:=rd (Bn ⟨hp,hn,zE,U adh (Z zE) cph,U adb (Z zD) cpb,zD⟩);rw[hTV]at HCT HV1 HSea HVl;have HV2:nc (∀wz,Ac [] w wz->Calls prog 138 #[U adh (Z zE) cph] wz λr' w'=>∃ad' cp',r'=kt (U ad' (Z (CP r)) cp')/\Ac [] wz w'):=λwz hk=>(Pb adh cph zE 0 wz (Ad hpc.head hk) (by omega)).mono λe w' ⟨ad,cp,h1,h2,h3⟩=>⟨ad,cp,by rw[h1,hcl.ofHead,GX],h3⟩
 have hvt:∀t∈zE,QG t:=by
  have hh:=hcl.zl.zE;simp only at hh;rw[hh];intro t ht;obtain⟨u,hu,rfl⟩:=mD.1 ht;exact Lc (hcl.head.args u hu)
 have HBf:nc (∀Bx b wz,Ac [] w wz->Z b=26->AI wz Bx (Am b) 243->Calls prog 196 #[j3 (V ⟨Bx,0,Y⟩),oj #[X J hp,O hn,U adh (Z zE) cph]] wz λr w'=>∃g,r=kt (oj #[O hn,U (V ⟨g,0,Y⟩) (Z zE) (Z zE)])/\C8 w' ⟨⟨hn,zE.map (BO b)⟩,U (V ⟨g,0,Y⟩) (Z zE) (Z zE)⟩/\Ac [] wz w'):=by
  intro Bx b wz hk hb hB;refine(Pk Bx 243 b hp hn adh cph zE 0 wz hb hB (Ad hpc.head hk) (by omega) hvt).mono ?_;rintro r w' ⟨g,rfl,hr,k⟩;refine⟨g,rfl,?_,k⟩;show oi w' 0 170 1 _ (Z (zE.map (BO b))) _;rw[mI];exact Ak hr (mO _)
 have HHs:nc (∀(g:Nat) (ts:rc zA) (f:Af) wz,Ac [] w wz->Z ts=Z zE->C8 wz ⟨⟨hn,ts⟩,U (V ⟨g,0,Y⟩) (Z zE) (Z zE)⟩->(⟨hn,ts⟩:CJ)=Bq f->AL f->Calls prog 60 #[j3 (V ⟨cb,1,Y⟩),oj #[O hn,U (V ⟨g,0,Y⟩) (Z zE) (Z zE)]] wz λe w'=>e=kt (q8 (DB s f))/\Ac [] wz w'):=by
  intro g ts f wz hk htl hpf hf hcf;have hc1:=(hC.kept hk).cell 1;simp at hc1;refine(JO cb 1 sad scp fs ⟨⟨hn,ts⟩,U (V ⟨g,0,Y⟩) (Z zE) (Z zE)⟩ wz hc1 (hF.kept hk) hpf (by show Z ts<=1000;omega) (by omega) (hE.mono _)).mono ?_;rintro e w' ⟨p,rfl,hcut,k⟩;simp only at hcut⊢;rw[hf]at hcut⊢;exact⟨by rw[hE.zk hcf hcut],k⟩
 have HNe:nc (∀x y WB wz,Ac [] w wz->x∈Aw (JN (An r) s) (An r) s (CP r) Bl->y∈Aw (JN (An r) s) (An r) s (DL r) x->Z y=26->AI wz WB (Am (Br y)) 243->Calls prog 198 #[j3 (V ⟨WB,0,Y⟩),U adb (Z zD) cpb] wz λr' w'=>∃(ad:Option Addr) (n cp:Nat) (ps:rc Eb),r'=kt (U ad n cp)/\(Io w' (U ad n cp) ps/\n=Z ps/\∀q,(U ad n cp).ownBlock=V q->wz.heap.size<=q)/\lL r s (Bq (Av x r.head)) (ps.map Eb.f)/\Ac [] wz w'):=by
  intro x y WB wz hk hx hy hyl hB;have hfst:zD.map Prod.fst=(An r).map MA:=by
   have h2:=F2.fst hcl.zl.lits;simp only at h2;rw[h2];rfl
  have hl:∀p∈zD,QJ p.1:=λp hp=>by
   have hm:p.1∈(An r).map MA:=by
    rw[<-hfst];exact mR hp
   obtain⟨x,hx,e1⟩:=mD.1 hm;rw[<-e1];exact(hcl.lits x hx).2
  refine(b8 WB 243 (Br y) adb cpb zD wz (by unfold Br;rw[mI];exact hyl) hB (hpc.body.kept hk) hcl.fit.lits hl).mono ?_;rintro e w' ⟨ad,cp,ps,rfl,h1,h2,h3,k⟩;refine⟨ad,Z ps,cp,ps,rfl,⟨h2,rfl,λq hq=>(h3.lt q hq).1⟩,?_,k⟩;rw[h1,hfst];exact jd hcl hx hy
 have HCl:=Ab hcl;have HFc:nc (∀b∈Aw (JN (An r) s) (An r) s (CP r) Bl,DF b/\(⟨hn,zE.map (BO (Br b))⟩:CJ)=Bq (Av b r.head)/\AL (Av b r.head)):=λb hb=>by
  have hcan:=Nk hcl.al hcl.parts hcl.head hb;exact⟨F3 hcl.al _ _ DF.start b hb,cW hcl.zl hcl.head hcan,G0 hcan⟩
 have HNl:=Ab hnl;have HPr:=Ab hP;have HCo:=Ab hC;have HCk:=Ab hck;clear hcl hpc hE hF hC hfl hsl hvt hTV hnl;obtain⟨N,hN⟩:=rd w.heap.size;have HN:=Ab hN;obtain⟨PL,hPL⟩:=rd (Z pcs);have HC1:nc (∀wz,Ac [] w wz->oa wz ⟨cb,0,Y⟩=V (U (V ⟨g,0,Y⟩) PL lcp)/\oa wz ⟨g,k*4,Y⟩=V (X J hp)/\oa wz ⟨g,k*4+1,Y⟩=V (O hn)/\oa wz ⟨g,k*4+2,Y⟩=V (U adh (Z zE) cph)/\oa wz ⟨g,k*4+3,Y⟩=V (U adb (Z zD) cpb)):=by
  intro wz hkz;obtain⟨g',cap',hp',hn',hts',adh',cph',adb',cpb',lvs',he',hck',d0,d1,d2,d3⟩:=FE (hP.kept hkz) k hk;rw[hck]at hck';simp only[CU.mk.injEq]at hck';obtain⟨rfl,rfl,rfl,e1,e2,rfl⟩:=hck';simp only[mu,mB,nr]at he';obtain⟨⟨rfl,-,-⟩,-,-⟩:=he';rw[<-e1]at d2;rw[<-e2]at d3;have h0:=(HCo.kept hkz).cell 0;simp[hPL]at h0;exact⟨h0,d0,d1,d2,d3⟩
 have hk0:(0:Int)<=(k:Int):=by omega
 have hk1:(k:Int)<(PL:Int):=by omega
 clear hP hck hPL hlen hN;obtain⟨QQ,hQQ⟩:∃QQ,Lj (bodyPostM Fence.wide 0 prog Tryz.f167 λrr w'=>∃(ad:Option Addr) (cp:Nat) (sts:rc Vy),rr=kt (U ad (Z sts) cp)/\sts.map (λst=>st.f.f)=(S4 (JN (An r) s) r (CP r) (DL r) s).map Bq/\
   oi w' w.heap.size 176 4 (U ad (Z sts) cp) (Z sts) (sts.flatMap (Ly k))/\(∀st∈sts,L6 w' st/\gM w.heap.size r s st)/\Ac [] w w')=QQ:=⟨_,rfl⟩
 have HQQ:=Ab hQQ;have HQp:nc (∀c a w,¬QQ (.panic c) a w):=by
  intro c a w h;rw[<-hQQ]at h;exact h
 refine En func167 rfl (GP ?_);rw[hQQ];clear hQQ;simp only[ntmps167,nQ,mL,m8,Nat.reduceAdd,Nat.reduceSub,pd,pg,pD,pm,nM,ot];have HK1:=Ab (((re [] w).alloc (j1 #[j3 (V ⟨cb,0,Y⟩)] 140)).alloc (j1 #[X J k] 3));have HB0:=Ab ((rf w [j3 (V ⟨cb,0,Y⟩)] 140).alloc (j1 #[X J k] 3));have HB1:nc (AI ((w.alloc (j1 #[j3 (V ⟨cb,0,Y⟩)] 140)).alloc (j1 #[X J k] 3)) (w.heap.size+1) [X J k] 3):=by
  have h:=rf (w.alloc (j1 #[j3 (V ⟨cb,0,Y⟩)] 140)) [X J k] 3;rw[m9]at h;exact h
 refine ra (λK1 HKk=>?_);go_wp2;refine HKk _ _ ?_;clear HKk K1;change Code.wp _ _ _ _ ((w.alloc (j1 [j3 (V ⟨cb,0,Y⟩)].toArray 140)).alloc (j1 [X J k].toArray 3));generalize hw1:(w.alloc (j1 [j3 (V ⟨cb,0,Y⟩)].toArray 140)).alloc (j1 [X J k].toArray 3)=w1 at HK1 HB0 HB1⊢;have hsz1:w1.heap.size=w.heap.size+2:=by rw[<-hw1];simp
 clear hw1;rw[Aa HN]at HB0 HB1 hsz1⊢;have HS1:nc (∀wz,Ac [] w1 wz->Ac [] w1 wz/\oa wz ⟨N,0,Y⟩=V (j3 (V ⟨cb,0,Y⟩))/\oa wz ⟨N+1,0,Y⟩=V (X J k)/\oa wz ⟨cb,0,Y⟩=V (U (V ⟨g,0,Y⟩) PL lcp)/\oa wz ⟨g,k*4,Y⟩=V (X J hp)/\oa wz ⟨g,k*4+1,Y⟩=V (O hn)/\oa wz ⟨g,k*4+2,Y⟩=V (U adh (Z zE) cph)/\oa wz ⟨g,k*4+3,Y⟩=V (U adb (Z zD) cpb)):=by
  intro wz hkz;have h0:=(HB0.kept hkz).cell 0;have h1:=(HB1.kept hkz).cell 0;simp at h0 h1;exact⟨hkz,h0,h1,HC1 wz (HK1.trans hkz)⟩
 refine ra (λK1 HKk=>?_);have HHS:=Ab (HS1 w1.drew (re [] w1).drew);refine CA 9 (λwz=>Ac [] w1 wz/\oa wz ⟨N,0,Y⟩=V (j3 (V ⟨cb,0,Y⟩))/\oa wz ⟨N+1,0,Y⟩=V (X J k)/\oa wz ⟨cb,0,Y⟩=V (U (V ⟨g,0,Y⟩) PL lcp)/\oa wz ⟨g,k*4,Y⟩=V (X J hp)/\oa wz ⟨g,k*4+1,Y⟩=V (O hn)/\oa wz ⟨g,k*4+2,Y⟩=V (U adh (Z zE) cph)/\oa wz ⟨g,k*4+3,Y⟩=V (U adb (Z zD) cpb)) (by kernel_rfl) ?_;refine Cz.tqH (i:=0) (v:=j3 (V ⟨cb,0,Y⟩)) rfl (BI HQp) HHS ?_;simp only[qY,mq,mr,mt];refine Cz.tqH (i:=1) (v:=j3 (V ⟨cb,0,Y⟩)) rfl (BI HQp) HHS ?_;simp only[qY,mq,mr,mt];refine Cz.tqH (i:=2) (v:=j3 (V ⟨cb,0,Y⟩)) rfl (BI HQp) HHS ?_;simp only[qY,mq,mr,mt];refine Cz.tqH (i:=3) (v:=U (V ⟨g,0,Y⟩) PL lcp) rfl (BI HQp) HHS ?_;simp only[qY,mq,mr,mt];refine Cz.tqH (i:=4) (v:=X J k) rfl (BI HQp) HHS ?_;simp only[qY,mq,mr,mt];refine Cz.tqH (i:=5) (v:=j3 (V ⟨g,k*4,Y⟩)) rfl (BI HQp) HHS ?_;simp only[qY,mq,mr,mt];refine Cz.tqH (i:=6) (v:=oj #[X J hp,O hn,U adh (Z zE) cph,U adb (Z zD) cpb]) rfl (BI HQp) HHS ?_;simp only[qY,mq,mr,mt];refine Cz.one (i:=7) (by kernel_rfl) rfl (λK hK=>?_)
 go_simp
 refine hK.out _ _ (λ_=>HS1 _ ((re [] w1).drew.alloc _)) ?_;clear hK K
 try simp only[qY,mq,mr,mt]
 have HB2:=Ab (rf w1.drew [X J 0,O ⟨#[]⟩,U Y 0 0,U Y 0 0] 189);have HK2:=Ab ((re [] w1).drew.alloc (j1 [X J 0,O ⟨#[]⟩,U Y 0 0,U Y 0 0].toArray 189));change Cz _ _ _ _ _ _ _ _ _ (w1.drew.alloc (j1 [X J 0,O ⟨#[]⟩,U Y 0 0,U Y 0 0].toArray 189));have hsz:w1.drew.heap.size=N+2:=hsz1;rw[hsz]at HB2;generalize w1.drew.alloc (j1 [X J 0,O ⟨#[]⟩,U Y 0 0,U Y 0 0].toArray 189)=w2 at HB2 HK2⊢;have q0:=HB2.cell 0;have q1:=HB2.cell 1;have q2:=HB2.cell 2;have q3:=HB2.cell 3;have f0:=HB2.frozen 0;have f1:=HB2.frozen 1;have f2:=HB2.frozen 2;have f3:=HB2.frozen 3;simp at q0 q1 q2 q3;refine Cz.one (i:=8) (by kernel_rfl) rfl (λK hK=>?_)
 go_simp
 have HB3:=Ab (HB2.zP rfl (X J hp) (O hn) (U adh (Z zE) cph) (U adb (Z zD) cpb));have HK3:=Ab (HK2.zP (N:=N+2) (lx (by omega)) (X J hp) (O hn) (U adh (Z zE) cph) (U adb (Z zD) cpb));refine hK.out _ _ (λ_=>HS1 _ HK3) ?_;clear hK K;refine Cz.done (by kernel_rfl) ?_ _
 try simp only[qY,mq,mr,mt]
 generalize(((w2.setCell ⟨N+2,0,Y⟩ (X J hp)).setCell ⟨N+2,1,Y⟩ (O hn)).setCell ⟨N+2,2,Y⟩ (U adh (Z zE) cph)).setCell ⟨N+2,3,Y⟩ (U adb (Z zD) cpb)=wA at HB3 HK3⊢;refine HKk _ _ ?_;clear HKk K1 HHS HS1 HB2 HK2 q0 q1 q2 q3 f0 f1 f2 f3;have HKw:nc (Ac [] w wA):=HK1.trans HK3;have HBc:nc (AI wA N [j3 (V ⟨cb,0,Y⟩)] 140/\AI wA (N+1) [X J k] 3/\AI wA (N+2) [X J hp,O hn,U adh (Z zE) cph,U adb (Z zD) cpb] 189):=⟨HB0.kept HK3,HB1.kept HK3,by have h:=Aa HB3;simpa using h⟩;clear HB3 HK3 HK1 HB0 HB1 hsz1 hsz;have HS2:nc (∀wz,Ac [] wA wz->Ac [] wA wz/\oa wz ⟨N,0,Y⟩=V (j3 (V ⟨cb,0,Y⟩))/\oa wz ⟨N+2,0,Y⟩=V (X J hp)/\oa wz ⟨N+2,1,Y⟩=V (O hn)/\oa wz ⟨N+2,2,Y⟩=V (U adh (Z zE) cph)/\oa wz ⟨N+2,3,Y⟩=V (U adb (Z zD) cpb)):=by
  intro wz hkz;have h0:=(HBc.1.kept hkz).cell 0;have hb:=HBc.2.2.kept hkz;have h1:=hb.cell 0;have h2:=hb.cell 1;have h3:=hb.cell 2;have h4:=hb.cell 3;simp at h0 h1 h2 h3 h4;exact⟨hkz,h0,h1,h2,h3,h4⟩
 obtain⟨VR,hVR⟩:=rd (Ef TV);rw[hVR]at HV1 HSea HVl;clear hVR;refine ra (λK2 HK2k=>?_);have HE2:nc (∀(y13 y14 y15 y16 y17 y18 y19 y20 y21 y22 y23 y24 y25 y26 y27 y28:ml) (oad:Option Addr) (ocp sp tb:Nat) (wz:ly),Ac [] wA wz->oi wz 0 21 1 (U oad (Z VR) ocp) (Z VR) (VR.flatMap AX)->AI wz sp [j3 (V ⟨cb,1,Y⟩),U adb (Z zD) cpb,U oad (Z VR) ocp] 237->AI wz tb [j3 (V ⟨sp,0,Y⟩)] 233->K2 ⟨#[j3 (V ⟨cb,0,Y⟩),X J k,j3 (V ⟨N,0,Y⟩),j3 (V ⟨N+1,0,Y⟩),U Y 0 0,j3 (V ⟨N+2,0,Y⟩),j3 (V ⟨tb,0,Y⟩),undef,undef,undef,undef,undef,undef,y13,y14,y15,y16,y17,y18,y19,y20,y21,y22,y23,y24,y25,y26,y27,y28,j3 (V ⟨sp,0,Y⟩),undef,undef,undef,undef,undef,undef,undef,undef,undef,undef,undef,undef,undef,undef,undef,undef,undef,undef,undef,undef,undef,undef,undef,undef,undef,undef,undef,undef,undef,undef,undef,undef,undef,undef,undef,undef,undef,undef,undef,undef,undef],[]⟩ wz):=by
  intro y13 y14 y15 y16 y17 y18 y19 y20 y21 y22 y23 y24 y25 y26 y27 y28 oad ocp sp tb wz hkz hrow hsp htb;refine HK2k _ _ ?_;clear HK2k K2;have HSa:=Ab (HSea sp oad ocp wz (HKw.trans hkz) hsp hrow);have HKz:nc (Ac [] w wz):=HKw.trans hkz;have HBz:nc (AI wz N [j3 (V ⟨cb,0,Y⟩)] 140/\AI wz (N+1) [X J k] 3/\AI wz (N+2) [X J hp,O hn,U adh (Z zE) cph,U adb (Z zD) cpb] 189/\AI wz tb [j3 (V ⟨sp,0,Y⟩)] 233):=⟨HBc.1.kept hkz,HBc.2.1.kept hkz,HBc.2.2.kept hkz,htb⟩;clear hkz hrow hsp htb HSea HS2;have e2:=HBz.2.2.1.cell 2;simp at e2;have HC3:=Ab (HV2 wz HKz);refine ra (λK1 HKk=>?_);go_wp2_with fail
  refine HC3.mono ?_;rintro _ v2 ⟨ad',cp',rfl,k2⟩;obtain⟨OH,hOH⟩:=rd (Z (CP r));have HOH:=Ab hOH;rw[hOH];have HK2:=Ab k2;clear hOH HC3 k2 e2;go_wp2;refine HKk _ _ ?_;clear HKk K1;have HKo:=Ab (HK2.alloc (j1 [X J OH].toArray 3));have HBo:=Ab (rf v2 [X J OH] 3);change Code.wp _ _ _ _ (v2.alloc (j1 [X J OH].toArray 3));generalize v2.alloc (j1 [X J OH].toArray 3)=w3 at HKo HBo⊢;generalize v2.heap.size=ob at HBo⊢;have HK3:nc (Ac [] w w3):=HKz.trans HKo;have HS3:nc (eR w3 sp (An r) s (CP r++DL r)):=HSa.kept HKo;have HB3:nc (∀W,Ac [] w3 W->AI W N [j3 (V ⟨cb,0,Y⟩)] 140/\AI W (N+1) [X J k] 3/\AI W (N+2) [X J hp,O hn,U adh (Z zE) cph,U adb (Z zD) cpb] 189/\AI W tb [j3 (V ⟨sp,0,Y⟩)] 233/\AI W ob [X J OH] 3):=λW hkW=>⟨(HBz.1.kept HKo).kept hkW,(HBz.2.1.kept HKo).kept hkW,(HBz.2.2.1.kept HKo).kept hkW,(HBz.2.2.2.kept HKo).kept hkW,HBo.kept hkW⟩
  clear HSa HKz HBz HK2 HKo HBo HKw HBc;obtain⟨SB,hSB⟩:=rd w3.heap.size;have HSB:=Ab hSB;have HK4:=Ab ((re [] w3).alloc (j1 [U Y 0 0].toArray 137));have HB4:=Ab (rf w3 [U Y 0 0] 137);refine ra (λK1 HKk=>?_);go_wp2;refine HKk _ _ ?_;clear HKk K1;change Code.wp _ _ _ _ (w3.alloc (j1 [U Y 0 0].toArray 137));generalize w3.alloc (j1 [U Y 0 0].toArray 137)=w4 at HK4 HB4⊢;rw[hSB]at HB4;clear hSB;have t4:=(HB3 w4 HK4).2.2.2.1.cell 0;have o4:=(HB3 w4 HK4).2.2.2.2.cell 0;simp at t4 o4;have HBt:nc (∀wz,Calls prog 141 #[j3 (V ⟨sp,0,Y⟩),X J 0,X J OH,oj (j2 (qV 26 (O ⟨#[]⟩)))] wz λr w'=>∃b1 b2 b3 b4,r=kt (.func (.func 176) #[] #[j3 (V ⟨b1,0,Y⟩),j3 (V ⟨b2,0,Y⟩),j3 (V ⟨b3,0,Y⟩),j3 (V ⟨b4,0,Y⟩)])/\
    AI w' b1 [j3 (V ⟨sp,0,Y⟩)] 233/\AI w' b2 (Am (Br Bl)) 243/\AI w' b3 [X J ((0:Nat):Int)] 3/\AI w' b4 [X J OH] 3/\(wz.heap.size<=b1/\wz.heap.size<=b2/\wz.heap.size<=b3/\wz.heap.size<=b4)/\Ac [] wz w'):=λwz=>by
   have h:=Jh sp 0 OH (Am (Br Bl)) wz (Bs _) (Fk Bl rfl).1;rw[LR]at h⊢;exact h
  refine ra (λK1 HKk=>?_);refine ra (λK5 HK5=>?_);go_wp2_with fail
  refine(HBt _).mono ?_;rintro _ w5 ⟨d1,d2,d3,d4,rfl,n1,n2,n3,n4,hds,k5⟩;have HK35:nc (Ac [] w3 w5):=HK4.trans k5;have HB5:=Ab (HB4.kept k5);have hs5:=k5.size;have hs4:=HK4.size;have zk:=Oe sp (An r) s (CP r++DL r) w3 HS3 OH (by rw[<-Aa HOH,mM];omega) (CP r) 0 Bl d1 d2 d3 d4 w5 [SB] DF.start (by omega) (by rw[<-Aa HOH,List.take_left,pF]) ⟨HK35,n1,n2,n3,n4,λq hq=>by
   have hb:=HB4.lt
   have hsb:=Aa HSB
   obtain⟨g1,g2,g3,g4⟩:=hds
   simp only[my]at hq
   subst hq
   exact⟨by omega,by omega,by omega,by omega,by omega,by omega⟩⟩
  have HIn:nc (lB w3 k (JN (An r) s) r s [] [SB] w5):=⟨HK35,[],Y,0,by rw[Aa HSB];exact HB5,mS _ _ _ _,λst hst=>by simp at hst,rfl,by rw[Aa HSB];rfl⟩;have hw3:w3.heap.size<=w5.heap.size:=HK35.size;have hSl:=HB5.lt;clear n1 n2 n3 n4 hds k5 HBt t4 o4 HB4 HB5 HK4;go_wp2;refine HK5 _ _ ?_;clear HK5 K5;refine wp_block ?_;obtain⟨XS,hXS⟩:=rd (Aw (JN (An r) s) (An r) s (CP r) Bl);have HXS:=Ab hXS;rw[hXS]at zk HFc;clear hXS;have HXl:nc (∀x∈XS,Z x=26):=λx hx=>(HFc x hx).1.len
  refine Iv (T:=243) (q:=9) rfl (enters_of func176 (by kernel_rfl) rfl) zk (λq hq=>by
   simp only[my]at hq
   subst hq
   exact hSl) (lB w3 k (JN (An r) s) r s) (λ_ _ _ _=>False) (lB.own hw3) (λ_ _ _ _ _ h _ _=>h) HIn ?rassign ?rbody ?rdone ?rstop
  case rassign=>
   intro l' x W' K hx HK;obtain⟨hxl,hxo⟩:=Fk x (HXl x hx);obtain⟨EX,hEX⟩:=rd (Am (Br x));rw[hEX]at hxl hxo HK⊢;have HXo:=Ab hxo;have HXl:=Ab hxl;(have HXa:nc (EX.toArray.size=26):=by show _=_;simp[hxl]);clear hx hEX hxl hxo;simp only[mq,mr,mt]at HK⊢;refine AN (by rfl) (Hj Ga) ?_;go_wp2_with ((with_reducible show wpList _ _ _ ({dst:=_,op:=Op.store 243 _ _,type:=_,pos:=_,after:=_,guard:=_}::_) _ _);refine oR rfl 243 _ _ rfl W'.heap.size 0 (j2 EX) (by rfl) (by rfl) ?_ ?_ ?_ ?_)
   .have h:=(rf W' (qV 26 (O ⟨#[]⟩)) 243).there;simp only[oO]at h;rw[Aa HXa];exact h
   .rw[Aa HXa];exact Tryz.zI
   .exact oe HXo
   .refine HK _ (((re [] W').alloc (j1 (j2 (qV 26 (O ⟨#[]⟩))) 243)).zK (b:=W'.heap.size) (lx (mP _)) EX 0) ?_;exact(rf W' (qV 26 (O ⟨#[]⟩)) 243).zQ EX (by rw[Aa HXl];simp)
  case rbody=>
   intro l' Bx pre x rest' M W' hxs hi hM hBx hblk;(have hxm:x∈XS:=by rw[hxs];simp);obtain⟨heo,hfeq,hfcan⟩:=HFc x hxm;obtain⟨sts,ad,cp,i1,i2,i3,i4,i5⟩:=hi.out;rw[Aa HSB]at i1 i2 i5;have HLs:nc (Z sts<=100000):=by
    have h1:=congrArg List.length i4;rw[mI,mI]at h1;have h2:=Aa HNl;rw[<-Uc,Aa HXS,hxs]at h2;(have h3:NH (JN (An r) s) r s (pre++x::rest')=NH (JN (An r) s) r s pre++NH (JN (An r) s) r s (x::rest'):=by unfold NH;rw[oW,nk]);rw[h3,mM]at h2;show Z sts<=100000;omega
   have HKw':nc (Ac [] w W'):=HK3.trans hi.kept;have HBW:=Ab (HB3 W' hi.kept);have HSo:nc (NH (JN (An r) s) r s (pre++[x])=NH (JN (An r) s) r s pre++if(!DB s (Av x r.head)&& !(Aw (JN (An r) s) (An r) s (DL r) x).isEmpty)=true then[Av x r.head] else[]):=Zs _ _ _ _ _;have HC7:=Ab (HBf Bx (Br x) W' HKw' (I2 heo) hblk);have HC8:=Ab (λg wz hk hpf=>HHs g (zE.map (BO (Br x))) (Av x r.head) wz hk (by rw[mI]) hpf hfeq hfcan);(have hXSm:x∈Aw (JN (An r) s) (An r) s (CP r) Bl:=by rw[Aa HXS];exact hxm);(obtain⟨YP,hYP⟩:∃YP:rc zA->Bool->Prop,YP=λy B=>Z y=26/\(B=true->y∈Aw (JN (An r) s) (An r) s (DL r) x):=⟨_,rfl⟩);(have HYl:nc (∀y B,YP y B->Z y=26):=λy B h=>by rw[hYP]at h;exact h.1);(have HNx:nc (∀y WB wz,Ac [] w wz->YP y true->AI wz WB (Am (Br y)) 243->Calls prog 198 #[j3 (V ⟨WB,0,Y⟩),U adb (Z zD) cpb] wz λr' w'=>∃(ad:Option Addr) (n cp:Nat) (ps:rc Eb),r'=kt (U ad n cp)/\(Io w' (U ad n cp) ps/\n=Z ps/\∀q,(U ad n cp).ownBlock=V q->wz.heap.size<=q)/\lL r s (Bq (Av x r.head)) (ps.map Eb.f)/\Ac [] wz w'):=λy WB wz hk hy hB=>HNe x y WB wz hk hXSm (by rw[hYP]at hy;exact hy.2 rfl) (HYl y true hy) hB);(have HC9:nc (∀wz,Ac [] W' wz->Calls prog 197 #[j3 (V ⟨sp,0,Y⟩),X J OH,X J (Z (CP r++DL r)),oj (j2 (Am (Br x)))] wz λr' w'=>∃(y:rc zA) (B:Bool),r'=kt (.tuple #[oj (j2 (Am (Br y))),q8 B])/\YP y B/\B= !(Aw (JN (An r) s) (An r) s (DL r) x).isEmpty/\Ac [] wz w'):=λwz hk=>(de sp (An r) s (CP r++DL r) OH (Z (CP r++DL r)) (DL r) x wz (HS3.kept (hi.kept.trans hk)) heo (by rw[<-Aa HOH,mM];omega) (mP _) (by rw[nR,<-Aa HOH,List.drop_left])).mono λr' w' ⟨y,B,h1,h2,h3,h4,h5⟩=>⟨y,B,h1,by rw[hYP];exact⟨h2,h4⟩,h3,h5⟩);clear hYP hXSm;have HI0:=Ab hi;have HFe:=Ab hfeq;have HLx:=Ab (I2 heo);have HBl:=Ab hblk;have H1:=Ab i1;have H2:=Ab i2;have H3:=Ab i3;have H4:=Ab i4;have H5:=Ab i5;clear hi hxs hM hblk heo hfeq hfcan i1 i2 i3 i4 i5 hxm;obtain⟨EX,hEX⟩:=rd (Am (Br x));have HEX:=Ab hEX;rw[hEX]at HC9 HBl;simp only[hEX];(have HXe:nc (Z EX=26):=by show _=_;rw[<-hEX];unfold Am;rw[mI];exact HLx);clear hEX;obtain⟨HF,hHF⟩:=rd (DB s (Av x r.head));rw[hHF]at HSo HC8;clear hHF;obtain⟨RE,hRE⟩:=rd (Aw (JN (An r) s) (An r) s (DL r) x).isEmpty;rw[hRE]at HSo HC9;clear hRE;obtain⟨FA,hFA⟩:=rd (Av x r.head);rw[hFA]at HSo HFe HNx;clear hFA;obtain⟨VL,hVL⟩:=rd (Z (CP r++DL r));have HVL2:=Ab hVL;rw[hVL]at HC9 HVl;clear hVL;simp only[mq,mr,mt];have x0:=HBW.2.2.1.cell 0;have x1:=HBW.2.2.1.cell 1;have x2:=HBW.2.2.1.cell 2;simp at x0 x1 x2;refine wpIn_block ?_;refine ol (λK7 hK7=>?_);have HK7:=Ab hK7;clear hK7;refine AN (by rfl) (by rintro ⟨_,_,h⟩;exact h) ?_;(go_wp2_with fail);refine HC7.mono ?_;rintro _ v7 ⟨g7,rfl,hpf7,k7⟩;have HK7a:=Ab (k7.alloc (j1 [O hn,U (V ⟨g7,0,Y⟩) (Z zE) (Z zE)].toArray 104));have HBh:=Ab (rf v7 [O hn,U (V ⟨g7,0,Y⟩) (Z zE) (Z zE)] 104);have HPf:nc (C8 (v7.alloc (j1 [O hn,U (V ⟨g7,0,Y⟩) (Z zE) (Z zE)].toArray 104)) ⟨⟨hn,zE.map (BO (Br x))⟩,U (V ⟨g7,0,Y⟩) (Z zE) (Z zE)⟩):=hpf7.kept ((re [] v7).alloc _);clear HC7 hpf7 k7 x0 x1 x2;obtain⟨TS,hTS⟩:=rd (zE.map (BO (Br x)));(have HTl:nc (Z TS=Z zE):=by show _=_;rw[<-hTS,mI]);rw[hTS]at HPf HC8 HFe;clear hTS;go_wp2;refine HK7 _ _ ?_;clear HK7 K7;change Code.wpIn _ _ _ _ _ _ (v7.alloc (j1 [O hn,U (V ⟨g7,0,Y⟩) (Z zE) (Z zE)].toArray 104));generalize v7.alloc (j1 [O hn,U (V ⟨g7,0,Y⟩) (Z zE) (Z zE)].toArray 104)=v8 at HK7a HBh HPf⊢;generalize v7.heap.size=HB at HBh⊢;have HS8:nc (∀wz,Ac [] v8 wz->Ac [] v8 wz/\oa wz ⟨N,0,Y⟩=V (j3 (V ⟨cb,0,Y⟩))/\oa wz ⟨HB,0,Y⟩=V (O hn)/\oa wz ⟨HB,1,Y⟩=V (U (V ⟨g7,0,Y⟩) (Z zE) (Z zE))):=by
    intro wz hkz;have h0:=(HBW.1.kept (HK7a.trans hkz)).cell 0;have h1:=(HBh.kept hkz).cell 0;have h2:=(HBh.kept hkz).cell 1;simp at h0 h1 h2;exact⟨hkz,h0,h1,h2⟩
   have HHS:=Ab (HS8 v8.drew (re [] v8).drew);refine ol (λK8 hK8=>?_);have HK8:=Ab hK8;clear hK8;refine ol (λK1 hK1=>?_);have HKk1:=Ab hK1;clear hK1;refine D7 5 (λwz=>Ac [] v8 wz/\oa wz ⟨N,0,Y⟩=V (j3 (V ⟨cb,0,Y⟩))/\oa wz ⟨HB,0,Y⟩=V (O hn)/\oa wz ⟨HB,1,Y⟩=V (U (V ⟨g7,0,Y⟩) (Z zE) (Z zE))) (by kernel_rfl) (by rfl) (by rintro ⟨_,_,h⟩;exact h) ?_;refine Cz.tqH (i:=0) (v:=j3 (V ⟨cb,0,Y⟩)) rfl (λ_ _ _ h=>h) HHS ?_;simp only[qY,mq,mr,mt];refine Cz.tqH (i:=1) (v:=j3 (V ⟨cb,0,Y⟩)) rfl (λ_ _ _ h=>h) HHS ?_;simp only[qY,mq,mr,mt];refine Cz.tqH (i:=2) (v:=j3 (V ⟨cb,1,Y⟩)) rfl (λ_ _ _ h=>h) HHS ?_;simp only[qY,mq,mr,mt];refine Cz.tqH (i:=3) (v:=oj #[O hn,U (V ⟨g7,0,Y⟩) (Z zE) (Z zE)]) rfl (λ_ _ _ h=>h) HHS ?_;simp only[qY,mq,mr,mt];refine Cz.one (i:=4) (by kernel_rfl) rfl (λK hK=>?_)
   go_simp
   refine(HC8 g7 _ (HKw'.trans (HK7a.trans (re [] v8).drew)) (HPf.kept (re [] v8).drew)).mono ?_;rintro _ v9 ⟨rfl,k9⟩;have HK9:nc (Ac [] v8 v9):=(re [] v8).drew.trans k9;refine hK.out _ _ (λ_=>HS8 _ HK9) ?_;clear hK K k9;refine Cz.done (by kernel_rfl) ?_ _
   try simp only[qY,mq,mr,mt]
   refine HKk1 _ _ ?_;clear HKk1 K1 HHS HC8;have HKW9:nc (Ac [] W' v9):=HK7a.trans HK9;have HGo:nc (∀(a:Act) (wz:ly),Ac [] W' wz->(!HF&& !RE)=false->Mw (lB w3 k (JN (An r) s) r s) (λ_ _ _ _=>False) (pre++[x]) M W' .normal a wz):=by
    intro a wz hkz hb;have hi2:=BD (lB.own (mP w3.heap.size)) (s:=(pre,M)) HI0 hkz;obtain⟨sts',ad',cp',g1,g2,g3,g4,g5⟩:=hi2.out;refine⟨hkz.mono (by simp),M,⟨hi2.kept,sts',ad',cp',g1,g2,g3,?_,g5⟩,λq hq=>⟨lo hq,?_⟩⟩
    .rw[g4,Aa HSo,hb,mJ (by simp),np]
    .have hsz:=hkz.size;rw[Aa H5]at hq;rcases mA.1 hq with rfl|hq
     .have:=H1.lt;omega
     .have:=(H2.lt q (by simpa using hq)).2;omega
   cases HF with
   |true=>
    refine pO rfl (wpIn_exit ?_);exact HGo ⟨#[],[]⟩ _ HKW9 (by simp)
   |false=>
    refine pJ rfl (wpIn_skip ?_);refine HK8 _ _ ?_;clear HK8 K8;have HSs:nc (∃kb ko bv og oc,AI W' sp [j3 (V ⟨kb,ko,Y⟩),bv,U og VL oc] 237):=by
     obtain⟨kb,ko,bad,bcp,lvs',oad',ocp',sad',scp',fs',h1,_⟩:=(HS3.kept HI0.kept).at_;have hb:=h1.zO;rw[GX,Aa HVL2]at hb;exact⟨kb,ko,_,oad',ocp',hb⟩
    obtain⟨kb,ko,bv,og,oc,hsb⟩:=Aa HSs;have HSb:=Ab hsb;clear hsb HSs;have HS9:nc (∀wz,Ac [] v9 wz->wz.rangeAt Bx 0 EX/\Ac [] v9 wz/\oa wz ⟨tb,0,Y⟩=V (j3 (V ⟨sp,0,Y⟩))/\oa wz ⟨ob,0,Y⟩=V (X J OH)/\oa wz ⟨sp,2,Y⟩=V (U og VL oc)):=by
     intro wz hkz;have hk:=HKW9.trans hkz;have h0:=(HBW.2.2.2.1.kept hk).cell 0;have h1:=(HBW.2.2.2.2.kept hk).cell 0;have h2:=(HSb.kept hk).cell 2;simp at h0 h1 h2;exact⟨(HBl.kept hk).range,hkz,h0,h1,h2⟩
    refine ol (λK9 hK9=>?_);have HK9k:=Ab hK9;clear hK9;have HE9:nc (∀(y13 y14 y15 y16 y17 y18 y19 y20 y21 y22 y23 y24 y25 y26 y27 y28 y29 y30 y31 y32 y33 y34 y35 y36 y37 y38 y39 y40 y41 y42 y43 y44 y45 y46 y47 y48 y49 y50 y51 y52 y53 y54 y55 y56 y57 y58 y59 y60 y61 y62 y63 y64 y65 y66 y67 y68 y69 y70:ml) (WB:Nat) (B:Bool) (y:rc zA) (wz:ly),Ac [] v9 wz->YP y B->AI wz WB (Am (Br y)) 243->B= !RE->K9 ⟨#[j3 (V ⟨cb,0,Y⟩),X J k,j3 (V ⟨N,0,Y⟩),j3 (V ⟨N+1,0,Y⟩),U Y 0 0,j3 (V ⟨N+2,0,Y⟩),j3 (V ⟨tb,0,Y⟩),j3 (V ⟨ob,0,Y⟩),j3 (V ⟨SB,0,Y⟩),j3 (V ⟨Bx,0,Y⟩),j3 (V ⟨HB,0,Y⟩),j3 (V ⟨WB,0,Y⟩),q8 B,y13,y14,y15,y16,y17,y18,y19,y20,y21,y22,y23,y24,y25,y26,y27,y28,y29,y30,y31,y32,y33,y34,y35,y36,y37,y38,y39,y40,y41,y42,y43,y44,y45,y46,y47,y48,y49,y50,y51,y52,y53,y54,y55,y56,y57,y58,y59,y60,y61,y62,y63,y64,y65,y66,y67,y68,y69,y70],[]⟩ wz):=by
     intro y13 y14 y15 y16 y17 y18 y19 y20 y21 y22 y23 y24 y25 y26 y27 y28 y29 y30 y31 y32 y33 y34 y35 y36 y37 y38 y39 y40 y41 y42 y43 y44 y45 y46 y47 y48 y49 y50 y51 y52 y53 y54 y55 y56 y57 y58 y59 y60 y61 y62 y63 y64 y65 y66 y67 y68 y69 y70 WB B y wz hkz hyl hWB hB;refine HK9k _ _ ?_;clear HK9k K9;have HKz:=Ab hkz;have HyL:=Ab hyl;have HWB:=Ab hWB;have HKWz:nc (Ac [] W' wz):=HKW9.trans hkz;clear hkz hyl hWB;refine ol (λK1 hK1=>?_);have HKk1:=Ab hK1;clear hK1;refine AN (by rfl) (by rintro ⟨_,_,h⟩;exact h) ?_;go_wp2;refine HKk1 _ _ ?_;clear HKk1 K1;cases RE with
     |true=>
      subst hB;refine pJ rfl (wpIn_skip ?_);exact HGo ⟨#[],[]⟩ _ HKWz (by simp)
     |false=>
      subst hB;refine pO rfl ?_;have HC11:=Ab (λwy (hk:Ac [] wz wy)=>HNx y WB wy (HKw'.trans (HKWz.trans hk)) HyL (HWB.kept hk));obtain⟨SL,hSL⟩:=rd (Z sts);have HSL:=Ab hSL;have HBs:nc (∀wy,Ac [] wz wy->AI wy SB [U ad SL cp] 137/\AI wy HB [O hn,U (V ⟨g7,0,Y⟩) (Z zE) (Z zE)] 104/\AI wy (N+1) [X J k] 3/\AI wy (N+2) [X J hp,O hn,U adh (Z zE) cph,U adb (Z zD) cpb] 189):=by
       intro wy hk;have hkW:=HKWz.trans hk;have h0:=H1.kept hkW;rw[hSL]at h0;exact⟨h0,HBh.kept ((HK9.trans HKz).trans hk),HBW.2.1.kept hkW,HBW.2.2.1.kept hkW⟩
      have DG:nc (∀wy,AI wy SB [U ad SL cp] 137/\AI wy HB [O hn,U (V ⟨g7,0,Y⟩) (Z zE) (Z zE)] 104/\AI wy (N+1) [X J k] 3/\AI wy (N+2) [X J hp,O hn,U adh (Z zE) cph,U adb (Z zD) cpb] 189->oa wy ⟨SB,0,Y⟩=V (U ad SL cp)/\oa wy ⟨HB,0,Y⟩=V (O hn)/\oa wy ⟨HB,1,Y⟩=V (U (V ⟨g7,0,Y⟩) (Z zE) (Z zE))/\oa wy ⟨N+1,0,Y⟩=V (X J k)/\oa wy ⟨N+2,3,Y⟩=V (U adb (Z zD) cpb)):=by
       rintro wy ⟨b0,b1,b2,b3⟩;have h0:=b0.cell 0;have h1:=b1.cell 0;have h2:=b1.cell 1;have h3:=b2.cell 0;have h4:=b3.cell 3;simp at h0 h1 h2 h3 h4;exact⟨h0,h1,h2,h3,h4⟩
      clear hSL;have HHS:=Ab (DG wz.drew (HBs _ (re [] wz).drew));refine D7 9 (λwy=>oa wy ⟨SB,0,Y⟩=V (U ad SL cp)/\oa wy ⟨HB,0,Y⟩=V (O hn)/\oa wy ⟨HB,1,Y⟩=V (U (V ⟨g7,0,Y⟩) (Z zE) (Z zE))/\oa wy ⟨N+1,0,Y⟩=V (X J k)/\oa wy ⟨N+2,3,Y⟩=V (U adb (Z zD) cpb)) (by kernel_rfl) (by rfl) (by rintro ⟨_,_,h⟩;exact h) ?_;refine Cz.tq (i:=0) (v:=U ad SL cp) rfl (λ_ _ _ h=>h) HHS ?_;simp only[qY,mq,mr,mt];refine Cz.tq (i:=1) (v:=oj #[O hn,U (V ⟨g7,0,Y⟩) (Z zE) (Z zE)]) rfl (λ_ _ _ h=>h) HHS ?_;simp only[qY,mq,mr,mt];refine Cz.tq (i:=2) (v:=X J k) rfl (λ_ _ _ h=>h) HHS ?_;simp only[qY,mq,mr,mt];refine Cz.tq (i:=3) (v:=j3 (V ⟨N+2,3,Y⟩)) rfl (λ_ _ _ h=>h) HHS ?_;simp only[qY,mq,mr,mt];refine Cz.tq (i:=4) (v:=U adb (Z zD) cpb) rfl (λ_ _ _ h=>h) HHS ?_;simp only[qY,mq,mr,mt];refine Cz.one (i:=5) (by kernel_rfl) rfl (λK hK=>?_)
      go_simp
      refine(HC11 _ (re [] wz).drew).mono ?_;rintro _ u1 ⟨nad,nn,ncp,nps,rfl,hnps,hnst,k1'⟩;have HNps:=Ab hnps;have HNst:=Ab hnst;clear hnps hnst;have k1:Ac [] wz u1:=(re [] wz).drew.trans k1';refine hK.out _ _ (λ_=>DG _ (HBs _ k1)) ?_;clear hK K
      try simp only[qY,mq,mr,mt]
      have HHS1:=Ab (DG _ (HBs _ k1));refine Cz.tq (i:=6) (v:=oj #[O hn,U (V ⟨g7,0,Y⟩) (Z zE) (Z zE),X J k,U nad nn ncp]) rfl (λ_ _ _ h=>h) HHS1 ?_;simp only[qY,mq,mr,mt];refine Cz.one (i:=7) (by kernel_rfl) rfl (λK hK=>?_)
      go_simp
      have k2:=k1.alloc (j1 #[O hn,U (V ⟨g7,0,Y⟩) (Z zE) (Z zE),X J k,U nad nn ncp] 176);refine hK.out _ _ (λ_=>DG _ (HBs _ k2)) ?_;clear hK K
      try simp only[qY,mq,mr,mt]
      have hkW1:Ac [] W' u1:=HKWz.trans k1;have hrow1:oi u1 SB 176 4 (U ad SL cp) SL (sts.flatMap (Ly k)):=by
       have h:=Ad H2 hkW1;rw[Aa HSL]at h;exact h
      (have hSBu:SB+1<=u1.heap.size:=by have h1:=H1.lt;have h2:=hkW1.size;omega);(have hSL1:SL<=100000:=by have:=Aa HLs;have:=Aa HSL;omega);refine Cz.one (i:=8) (by kernel_rfl) rfl (λK hK=>?_);refine pi _ (by rfl) _ _ _ (by rfl) SB 176 i0 _ 4 72 underlying137 hi0 hz0 hz1 hz2 rfl (by omega) (U ad SL cp) SL (sts.flatMap (Ly k)) (by rfl) (mE hrow1 _)
       ⟨u1.heap.size,0,Y⟩ 1 1 [O hn,U (V ⟨g7,0,Y⟩) (Z zE) (Z zE),X J k,U nad nn ncp] (by rfl) (by rfl) (mW (m7 u1 _)) (by simp[Value.oneCell'])
       (by omega) (by unfold maxLen;omega) (by omega) (by simp;omega) (u1.heap.size+1) (by simp) ?_
      intro gg cap u3 hown3 hgrow hat3 hlt3;(have hap:∀{b:Nat} {cs:rc ml} {t:TypeId},AI u1 b cs t->176≠t->(U ad SL cp).ownBlock≠V b:=λhb hne=>Aq hrow1 hb hne);have hb1:=Aa HBs u1 k1;have hb3:AI u3 SB [U ad SL cp] 137/\AI u3 HB [O hn,U (V ⟨g7,0,Y⟩) (Z zE) (Z zE)] 104/\AI u3 (N+1) [X J k] 3/\AI u3 (N+2) [X J hp,O hn,U adh (Z zE) cph,U adb (Z zD) cpb] 189:=⟨(hb1.1.alloc _).grown hgrow (hap hb1.1 (by decide)),(hb1.2.1.alloc _).grown hgrow (hap hb1.2.1 (by decide)),(hb1.2.2.1.alloc _).grown hgrow (hap hb1.2.2.1 (by decide)),(hb1.2.2.2.alloc _).grown hgrow (hap hb1.2.2.2 (by decide))⟩;have hSB3:=hb3.1;have kM:Ac (SB::(U ad SL cp).ownBlock.toList) W' u3:=((hkW1.mono (by simp)).alloc (j1 #[O hn,U (V ⟨g7,0,Y⟩) (Z zE) (Z zE),X J k,U nad nn ncp] 176)).grown hgrow (λq hq=>lo (no _ (by simpa using hq)));refine hK.out _ _ (λ_=>DG _ hb3) ?_;clear hK K
      try simp only[qY,mq,mr,mt]
      have c8:=hSB3.cell 0;have f8:=hSB3.frozen 0;simp at c8;refine Cz.one (i:=9) (by kernel_rfl) rfl (λK hK=>?_)
      go_simp
      refine hK.out _ _ (λh=>absurd rfl h) ?_;clear hK K;refine Cz.done (by kernel_rfl) ?_ _;have hM5:=Aa H5;rw[Aa HSL]at hM5;have kM4:Ac M W' (u3.setCell ⟨SB,0,Y⟩ (U (V ⟨gg,0,Y⟩) (SL+1) cap)):=by
       rw[hM5];exact kM.setCell (p:=⟨SB,0,Y⟩) (lo (nK ..)) _
      have hMge:∀q∈M,SB<=q:=by
       intro q hq;rw[hM5]at hq;rcases mA.1 hq with rfl|hq
       .exact mP _
       .exact(hrow1.lt q (by simpa using hq)).1
      have hst13:∀{b e sz n:Nat} {v:ml} {ys:rc ml},oi u1 b e sz v n ys->e≠176->e≠137->oi (u3.setCell ⟨SB,0,Y⟩ (U (V ⟨gg,0,Y⟩) (SL+1) cap)) b e sz v n ys:=fun{b e sz n v ys} hr h1 h2=>by
       have hr3:=n5 (v:=v) (mE (v:=v) hr _) hgrow (by
        cases hpo:v.ownBlock with
        |none=>exact lo rfl
        |some q=>exact lx (λe=>Bh hr hrow1 h1 q hpo e.symm))
       exact Ah hr3 (Aq hr3 hSB3 h2) _
      have hPn:C8 u1 ⟨⟨hn,TS⟩,U (V ⟨g7,0,Y⟩) (Z zE) (Z zE)⟩:=HPf.kept ((HK9.trans HKz).trans k1);refine⟨kM4,SB::[gg],⟨HI0.kept.trans' kM4 (λq hq=>lx (by have:=hMge q hq;have:=Aa HSB;omega)),sts++[⟨⟨⟨hn,TS⟩,U (V ⟨g7,0,Y⟩) (Z zE) (Z zE)⟩,U nad nn ncp,nps⟩],V ⟨gg,0,Y⟩,cap,?_,?_,?_,?_,?_⟩,?_⟩
      .rw[Aa HSB,mM,Aa HSL];exact hSB3.set 0 _
      .rw[Aa HSB,mM,Aa HSL,mY];have h:=Ah hown3 (Aq hown3 hSB3 (by decide)) (p:=⟨SB,0,Y⟩) (U (V ⟨gg,0,Y⟩) (SL+1) cap);exact h
      .intro st hst;rcases mF.1 hst with h|h
       .exact⟨((H3 st h).1.kept hkW1).map (λp hp=>hst13 (v:=p.tv) hp (by decide) (by decide)) (λhr=>hst13 hr (by decide) (by decide)),(H3 st h).2⟩
       .simp only[my]at h;subst h;obtain⟨q1,q2,q3⟩:=HNps;refine⟨⟨hst13 hPn (by decide) (by decide),by show Z TS<=1000;have:=Aa HTl;omega,⟨hst13 q1.row (by decide) (by decide),λp hp=>⟨hst13 (v:=p.tv) (q1.each p hp).1 (by decide) (by decide),(q1.each p hp).2⟩⟩,nad,ncp,by show U nad nn ncp=_;rw[q2]⟩,λq hq=>?_,?_⟩
        .have h1:wz.heap.size<=q:=q3 q hq;have h2:=HI0.kept.size;have h3:=HKWz.size;omega
        .show lL r s (⟨hn,TS⟩:CJ) _;rw[Aa HFe];exact HNst
      .rw[nk,Aa H4,Aa HSo,mK (by rfl),nk];simp only[mU,oH];rw[Aa HFe]
      .rw[Aa HSB,mM];rfl
      .intro q hq;have h3:=hSB3.lt;rcases mA.1 hq with rfl|hq
       .exact⟨lo (by rw[hM5];exact nK ..),by simp;omega⟩
       .simp only[my]at hq;subst hq;have h4:=(hown3.lt q rfl).2;refine⟨?_,by simp;omega⟩;rcases hat3 with h|h
        .exact lo (by rw[hM5];exact no _ (by rw[h];simp))
        .exact lx (by have:=hkW1.size;omega)
    clear HK9k;have HHS:=Ab (HS9 v9.drew (re [] v9).drew);refine D7 15 (λwz=>wz.rangeAt Bx 0 EX/\Ac [] v9 wz/\oa wz ⟨tb,0,Y⟩=V (j3 (V ⟨sp,0,Y⟩))/\oa wz ⟨ob,0,Y⟩=V (X J OH)/\oa wz ⟨sp,2,Y⟩=V (U og VL oc)) (by kernel_rfl) (by rfl) (by rintro ⟨_,_,h⟩;exact h) ?_;refine Cz.tqH (i:=0) (v:=j3 (V ⟨sp,0,Y⟩)) rfl (λ_ _ _ h=>h) HHS ?_;simp only[qY,mq,mr,mt];refine Cz.tqH (i:=1) (v:=X J OH) rfl (λ_ _ _ h=>h) HHS ?_;simp only[qY,mq,mr,mt];refine Cz.tqH (i:=2) (v:=j3 (V ⟨sp,0,Y⟩)) rfl (λ_ _ _ h=>h) HHS ?_;simp only[qY,mq,mr,mt];refine Cz.tqH (i:=3) (v:=j3 (V ⟨sp,0,Y⟩)) rfl (λ_ _ _ h=>h) HHS ?_;simp only[qY,mq,mr,mt];refine Cz.tqH (i:=4) (v:=j3 (V ⟨sp,2,Y⟩)) rfl (λ_ _ _ h=>h) HHS ?_;simp only[qY,mq,mr,mt];refine Cz.tqH (i:=5) (v:=U og VL oc) rfl (λ_ _ _ h=>h) HHS ?_;simp only[qY,mq,mr,mt];refine Cz.tqH (i:=6) (v:=X J VL) rfl (λ_ _ _ h=>h) HHS ?_;simp only[qY,mq,mr,mt];refine Cz.yO (i:=7) (v:=oj (j2 EX)) rfl (by kernel_rfl) (by kernel_rfl) (by kernel_rfl) (by decide) (λ_ _ _ h=>h) HHS (yieldsIf_load_mid (by rfl) 243 _ rfl Bx 0 (by rfl) EX _ (λwz hz=>hz.1) underlying243 rfl (by rw[Aa HXe];exact Tryz.zI)) ?_;simp only[qY,mq,mr,mt];have hka:Ac [] v9 v9.drew:=(re [] v9).drew;generalize v9.drew=x0 at hka HHS⊢;refine Cz.two (i:=8) (j:=12) (by kernel_rfl) rfl rfl (λK hK=>?_) (λK hK=>?_)
    .go_simp
     refine(HC9 _ (HKW9.trans hka)).mono ?_;rintro _ x2 ⟨y,B,rfl,hyl,hB,k8'⟩;have HBb:=Ab hB;clear hB;have k8:Ac [] v9 x2:=hka.trans k8';refine hK.out _ _ (λ_=>HS9 _ k8) ?_;clear hK K
     try simp only[qY,mq,mr,mt]
     obtain⟨hyE,hyo⟩:=Fk y (HYl y B hyl);obtain⟨EY,hEY⟩:=rd (Am (Br y));have HEY:=Ab hEY;rw[hEY]at hyE hyo⊢;clear hEY;have HHS8:=Ab (HS9 _ k8);refine Cz.tqH (i:=9) (v:=.tuple #[oj (j2 EY),q8 B]) rfl (λ_ _ _ h=>h) HHS8 ?_;simp only[qY,mq,mr,mt];refine Cz.tqH (i:=10) (v:=oj (j2 EY)) rfl (λ_ _ _ h=>h) HHS8 ?_;simp only[qY,mq,mr,mt];refine Cz.tqH (i:=11) (v:=q8 B) rfl (λ_ _ _ h=>h) HHS8 ?_;simp only[qY,mq,mr,mt];refine Cz.one (i:=12) (by kernel_rfl) rfl (λK hK=>?_)
     go_simp
     have k12:=k8.alloc (j1 (j2 (qV 26 (O ⟨#[]⟩))) 243);refine hK.out _ _ (λ_=>HS9 _ k12) ?_;clear hK K
     try simp only[qY,mq,mr,mt]
     have hWB:=rf x2 (qV 26 (O ⟨#[]⟩)) 243;have hge:v9.heap.size<=x2.heap.size:=k8.size;change Cz _ _ _ _ _ _ _ _ _ (x2.alloc (j1 (j2 (qV 26 (O ⟨#[]⟩))) 243));generalize x2.heap.size=WB at hWB hge⊢;generalize x2.alloc (j1 (j2 (qV 26 (O ⟨#[]⟩))) 243)=x3 at k12 hWB⊢;clear k8;have k8:=k12;(have hya:EY.toArray.size=26:=by simp[hyE]);have hth:x3.there WB 0 EY.toArray.size:=by
      have h:=hWB.there;simp only[oO]at h;rw[hya];exact h
     have k13:=k8.zK (b:=WB) (lx hge) EY 0;have hW2:=hWB.zQ EY (by rw[hyE];simp);refine Cz.one (i:=13) (by kernel_rfl) rfl (λK hK=>?_);rw[mK (by rfl)];refine wp_store_mid 243 _ _ rfl WB 0 (j2 EY) (by rfl) (by rfl) hth (by rw[hya];exact Tryz.zI) (oe hyo) ?_;simp only[pR];refine hK.out _ _ (λ_=>HS9 _ k13) ?_;clear hK K;generalize x3.setCells WB 0 EY=x4 at k13 hW2⊢
     try simp only[qY,mq,mr,mt]
     refine Cz.one (i:=14) (by kernel_rfl) rfl (λK hK=>?_)
     go_simp
     refine hK.out _ _ (λ_=>HS9 _ k13) ?_;clear hK K;refine Cz.done (by kernel_rfl) ?_ _
     try simp only[qY,mq,mr,mt]
     exact HE9 _ _ _ _ _ _ _ _ _ _ _ _ _ _ _ _ _ _ _ _ _ _ _ _ _ _ _ _ _ _ _ _ _ _ _ _ _ _ _ _ _ _ _ _ _ _ _ _ _ _ _ _ _ _ _ _ _ _ WB B y _ k13 hyl (by rw[Aa HEY];exact hW2) HBb
    .go_simp
     have k12:=hka.alloc (j1 (j2 (qV 26 (O ⟨#[]⟩))) 243);refine hK.out _ _ (λ_=>HS9 _ k12) ?_;clear hK K
     try simp only[qY,mq,mr,mt]
     have hWB:=rf x0 (qV 26 (O ⟨#[]⟩)) 243;have hge:v9.heap.size<=x0.heap.size:=hka.size;change Cz _ _ _ _ _ _ _ _ _ (x0.alloc (j1 (j2 (qV 26 (O ⟨#[]⟩))) 243));generalize x0.heap.size=WB at hWB hge⊢;generalize x0.alloc (j1 (j2 (qV 26 (O ⟨#[]⟩))) 243)=x1 at k12 hWB⊢;refine Cz.one (i:=8) (by kernel_rfl) rfl (λK hK=>?_)
     go_simp
     refine(HC9 _ (HKW9.trans k12)).mono ?_;rintro _ x2 ⟨y,B,rfl,hyl,hB,k8'⟩;have HBb:=Ab hB;clear hB;have k8:Ac [] v9 x2:=k12.trans k8';have hWB:=hWB.kept k8';refine hK.out _ _ (λ_=>HS9 _ k8) ?_;clear hK K
     try simp only[qY,mq,mr,mt]
     obtain⟨hyE,hyo⟩:=Fk y (HYl y B hyl);obtain⟨EY,hEY⟩:=rd (Am (Br y));have HEY:=Ab hEY;rw[hEY]at hyE hyo⊢;clear hEY;have HHS8:=Ab (HS9 _ k8);refine Cz.tqH (i:=9) (v:=.tuple #[oj (j2 EY),q8 B]) rfl (λ_ _ _ h=>h) HHS8 ?_;simp only[qY,mq,mr,mt];refine Cz.tqH (i:=10) (v:=oj (j2 EY)) rfl (λ_ _ _ h=>h) HHS8 ?_;simp only[qY,mq,mr,mt];refine Cz.tqH (i:=11) (v:=q8 B) rfl (λ_ _ _ h=>h) HHS8 ?_;simp only[qY,mq,mr,mt];(have hya:EY.toArray.size=26:=by simp[hyE]);have hth:x2.there WB 0 EY.toArray.size:=by
      have h:=hWB.there;simp only[oO]at h;rw[hya];exact h
     have k13:=k8.zK (b:=WB) (lx hge) EY 0;have hW2:=hWB.zQ EY (by rw[hyE];simp);refine Cz.one (i:=13) (by kernel_rfl) rfl (λK hK=>?_);rw[mK (by rfl)];refine wp_store_mid 243 _ _ rfl WB 0 (j2 EY) (by rfl) (by rfl) hth (by rw[hya];exact Tryz.zI) (oe hyo) ?_;simp only[pR];refine hK.out _ _ (λ_=>HS9 _ k13) ?_;clear hK K;generalize x2.setCells WB 0 EY=x4 at k13 hW2⊢
     try simp only[qY,mq,mr,mt]
     refine Cz.one (i:=14) (by kernel_rfl) rfl (λK hK=>?_)
     go_simp
     refine hK.out _ _ (λ_=>HS9 _ k13) ?_;clear hK K;refine Cz.done (by kernel_rfl) ?_ _
     try simp only[qY,mq,mr,mt]
     exact HE9 _ _ _ _ _ _ _ _ _ _ _ _ _ _ _ _ _ _ _ _ _ _ _ _ _ _ _ _ _ _ _ _ _ _ _ _ _ _ _ _ _ _ _ _ _ _ _ _ _ _ _ _ _ _ _ _ _ _ WB B y _ k13 hyl (by rw[Aa HEY];exact hW2) HBb
  case rdone=>
   intro D M' W2 hD hi hd _;obtain⟨sts,ad,cp,i1,i2,i3,i4,i5⟩:=hi.out;rw[Aa HSB]at i1 i2;obtain⟨SL,hSL⟩:=rd (Z sts);have c8:=i1.cell 0;simp[hSL]at c8;have HFin:nc (∀tmps:Array ml,tmps.getD 4 undef=U ad SL cp->QQ .ret ⟨tmps,[EU D]⟩ W2):=by
    intro tmps h4;rw[<-Aa HQQ];have hmk:DC w.heap.size [D] W2:=⟨by simp,λd hd'=>by simp only[my]at hd';have:=HK3.size;omega,λd hd'=>by simp only[my]at hd';rw[hd'];exact hd⟩;refine Dg [D] W2 hmk (λw' hs=>?_);have hown:OwnFrom w.heap.size (fun(_:Unit) W=>oi W SB 176 4 (U ad (Z sts) cp) (Z sts) (sts.flatMap (Ly k))/\(∀st∈sts,L6 W st/\gM w.heap.size r s st)/\Ac [] w W):=BF (λ_ W W' M h kk hM=>⟨Ag h.1 kk (BZ hM h.1),λst hst=>⟨(h.2.1 st hst).1.map (λp hp=>Ag (v:=p.tv) hp kk (BZ (v:=p.tv) hM hp)) (λhr=>Ag hr kk (BZ hM hr)),(h.2.1 st hst).2⟩,DS h.2.2 kk hM (mP _)⟩);obtain⟨g1,g2,g3⟩:=hs.own hown (s:=()) hmk ⟨i2,λst hst=>⟨(i3 st hst).1,λq hq=>by have:=(i3 st hst).2.1 q hq;have:=HK3.size;omega,(i3 st hst).2.2⟩,HK3.trans hi.kept⟩;refine⟨_,results_tmp rfl _ _ _,ad,cp,sts,by rw[h4,hSL],?_,Ak g1 (by have:=HK3.size;have:=Aa HSB;omega),g2,g3⟩;rw[i4,<-Aa HXS,Uc]
   clear i1 i2 i3 i4 i5 hSL hi hd zk;refine HKk _ _ ?_;clear HKk;refine ra (λK3 HK3'=>?_);go_wp2;refine HK3' _ _ ?_;clear HK3' K3;refine wp_ret ?_;exact HFin _ rfl
  case rstop=>
   intro D c pre M' W2 _ h _;exact h.elim
 clear HK2k;have HHS:=Ab (HS2 wA.drew (re [] wA).drew);refine CA 12 (λwz=>Ac [] wA wz/\oa wz ⟨N,0,Y⟩=V (j3 (V ⟨cb,0,Y⟩))/\oa wz ⟨N+2,0,Y⟩=V (X J hp)/\oa wz ⟨N+2,1,Y⟩=V (O hn)/\oa wz ⟨N+2,2,Y⟩=V (U adh (Z zE) cph)/\oa wz ⟨N+2,3,Y⟩=V (U adb (Z zD) cpb)) (by kernel_rfl) ?_;refine Cz.tqH (i:=0) (v:=j3 (V ⟨cb,0,Y⟩)) rfl (BI HQp) HHS ?_;simp only[qY,mq,mr,mt];refine Cz.tqH (i:=1) (v:=j3 (V ⟨cb,0,Y⟩)) rfl (BI HQp) HHS ?_;simp only[qY,mq,mr,mt];refine Cz.tqH (i:=2) (v:=j3 (V ⟨cb,1,Y⟩)) rfl (BI HQp) HHS ?_;simp only[qY,mq,mr,mt];refine Cz.tqH (i:=3) (v:=j3 (V ⟨N+2,3,Y⟩)) rfl (BI HQp) HHS ?_;simp only[qY,mq,mr,mt];refine Cz.tqH (i:=4) (v:=U adb (Z zD) cpb) rfl (BI HQp) HHS ?_;simp only[qY,mq,mr,mt];refine Cz.tqH (i:=5) (v:=oj #[X J hp,O hn,U adh (Z zE) cph,U adb (Z zD) cpb]) rfl (BI HQp) HHS ?_;simp only[qY,mq,mr,mt];have hka:Ac [] wA wA.drew:=(re [] wA).drew;generalize wA.drew=x0 at hka HHS⊢;refine Cz.two (i:=6) (j:=10) (by kernel_rfl) rfl rfl (λK hK=>?_) (λK hK=>?_)
 .go_simp
  refine(HCT _ (HKw.trans hka)).mono ?_;rintro _ x1 ⟨ad6,cp6,rfl,hrow6,k1'⟩;have k1:Ac [] wA x1:=hka.trans k1';refine hK.out _ _ (λ_=>HS2 _ k1) ?_;clear hK K
  try simp only[qY,mq,mr,mt]
  refine Cz.two (i:=7) (j:=10) (by kernel_rfl) rfl rfl (λK hK=>?_) (λK hK=>?_)
  .go_simp
   refine(HV1 ad6 cp6 _ hrow6).mono ?_;rintro _ x2 ⟨oad,ocp,rfl,hrow7,k2'⟩;have k2:Ac [] wA x2:=k1.trans k2';refine hK.out _ _ (λ_=>HS2 _ k2) ?_;clear hK K
   try simp only[qY,mq,mr,mt]
   have HHS2:=Ab (HS2 _ k2);refine Cz.tqH (i:=8) (v:=oj #[j3 (V ⟨cb,1,Y⟩),U adb (Z zD) cpb,U oad (Z VR) ocp]) rfl (BI HQp) HHS2 ?_;simp only[qY,mq,mr,mt];refine Cz.two (i:=9) (j:=10) (by kernel_rfl) rfl rfl (λK hK=>?_) (λK hK=>?_)
   .go_simp
    have k3:=k2.alloc (j1 #[j3 (V ⟨cb,1,Y⟩),U adb (Z zD) cpb,U oad (Z VR) ocp] 237);refine hK.out _ _ (λ_=>HS2 _ k3) ?_;clear hK K
    try simp only[qY,mq,mr,mt]
    have hsp3:=rf x2 [j3 (V ⟨cb,1,Y⟩),U adb (Z zD) cpb,U oad (Z VR) ocp] 237;have hr3:=mE hrow7 (j1 #[j3 (V ⟨cb,1,Y⟩),U adb (Z zD) cpb,U oad (Z VR) ocp] 237);refine Cz.one (i:=10) (by kernel_rfl) rfl (λK hK=>?_)
    go_simp
    have k4:=k3.alloc (j1 #[j3 Y] 233);refine hK.out _ _ (λ_=>HS2 _ k4) ?_;clear hK K
    try simp only[qY,mq,mr,mt]
    have htb4:=rf (x2.alloc (j1 #[j3 (V ⟨cb,1,Y⟩),U adb (Z zD) cpb,U oad (Z VR) ocp] 237)) [j3 Y] 233;have hsp4:=hsp3.alloc (j1 #[j3 Y] 233);have hr6_4:=mE hrow6 (j1 #[j3 Y] 233);have hr7_4:=mE hr3 (j1 #[j3 Y] 233);have hne:=show(x2.alloc (j1 #[j3 (V ⟨cb,1,Y⟩),U adb (Z zD) cpb,U oad (Z VR) ocp] 237)).heap.size≠x2.heap.size from Nat.ne_of_gt hsp3.lt
    have hge:=k3.size
    try simp only[m9]at hsp4 htb4 hne hge
    generalize((x2.alloc (j1 #[j3 (V ⟨cb,1,Y⟩),U adb (Z zD) cpb,U oad (Z VR) ocp] 237)).alloc (j1 #[j3 Y] 233))=WW at k4 hr7_4 hsp4 htb4⊢;have c6:=htb4.cell 0;have f6:=htb4.frozen 0;simp at c6;refine Cz.one (i:=11) (by kernel_rfl) rfl (λK hK=>?_)
    go_simp
    have kz:=k4.setCell (p:=⟨x2.heap.size+1,0,Y⟩) (lx hge) (j3 (V ⟨x2.heap.size,0,Y⟩));refine hK.out _ _ (λ_=>HS2 _ kz) ?_;clear hK K;refine Cz.done (by kernel_rfl) ?_ _
    try simp only[qY,mq,mr,mt]
    exact HE2 _ _ _ _ _ _ _ _ _ _ _ _ _ _ _ _ oad ocp (x2.heap.size) (x2.heap.size+1) _ kz (Ah hr7_4 (Aq hr7_4 htb4 (by decide)) _) (hsp4.zB ⟨x2.heap.size+1,0,Y⟩ hne _) (htb4.set 0 _)
   .go_simp
    have k3:=k2.alloc (j1 #[j3 Y] 233);refine hK.out _ _ (λ_=>HS2 _ k3) ?_;clear hK K
    try simp only[qY,mq,mr,mt]
    have htb3:=rf x2 [j3 Y] 233;have hr6_3:=mE hrow6 (j1 #[j3 Y] 233);have hr7_3:=mE hrow7 (j1 #[j3 Y] 233);refine Cz.one (i:=9) (by kernel_rfl) rfl (λK hK=>?_)
    go_simp
    have k4:=k3.alloc (j1 #[j3 (V ⟨cb,1,Y⟩),U adb (Z zD) cpb,U oad (Z VR) ocp] 237);refine hK.out _ _ (λ_=>HS2 _ k4) ?_;clear hK K
    try simp only[qY,mq,mr,mt]
    have hsp4:=rf (x2.alloc (j1 #[j3 Y] 233)) [j3 (V ⟨cb,1,Y⟩),U adb (Z zD) cpb,U oad (Z VR) ocp] 237;have hr4:=mE hr7_3 (j1 #[j3 (V ⟨cb,1,Y⟩),U adb (Z zD) cpb,U oad (Z VR) ocp] 237);have htb4:=htb3.alloc (j1 #[j3 (V ⟨cb,1,Y⟩),U adb (Z zD) cpb,U oad (Z VR) ocp] 237);have hne:=show x2.heap.size≠(x2.alloc (j1 #[j3 Y] 233)).heap.size from Nat.ne_of_lt htb3.lt
    have hge:=k2.size
    try simp only[m9]at hsp4 htb4 hne hge
    generalize((x2.alloc (j1 #[j3 Y] 233)).alloc (j1 #[j3 (V ⟨cb,1,Y⟩),U adb (Z zD) cpb,U oad (Z VR) ocp] 237))=WW at k4 hr4 hsp4 htb4⊢;have c6:=htb4.cell 0;have f6:=htb4.frozen 0;simp at c6;refine Cz.one (i:=11) (by kernel_rfl) rfl (λK hK=>?_)
    go_simp
    have kz:=k4.setCell (p:=⟨x2.heap.size,0,Y⟩) (lx hge) (j3 (V ⟨x2.heap.size+1,0,Y⟩));refine hK.out _ _ (λ_=>HS2 _ kz) ?_;clear hK K;refine Cz.done (by kernel_rfl) ?_ _
    try simp only[qY,mq,mr,mt]
    exact HE2 _ _ _ _ _ _ _ _ _ _ _ _ _ _ _ _ oad ocp (x2.heap.size+1) (x2.heap.size) _ kz (Ah hr4 (Aq hr4 htb4 (by decide)) _) (hsp4.zB ⟨x2.heap.size,0,Y⟩ hne _) (htb4.set 0 _)
  .go_simp
   have k2:=k1.alloc (j1 #[j3 Y] 233);refine hK.out _ _ (λ_=>HS2 _ k2) ?_;clear hK K
   try simp only[qY,mq,mr,mt]
   have htb2:=rf x1 [j3 Y] 233;have hr6_2:=mE hrow6 (j1 #[j3 Y] 233);refine Cz.one (i:=7) (by kernel_rfl) rfl (λK hK=>?_)
   go_simp
   refine(HV1 ad6 cp6 _ hr6_2).mono ?_;rintro _ x3 ⟨oad,ocp,rfl,hrow7,k3'⟩;have k3:Ac [] wA x3:=k2.trans k3';refine hK.out _ _ (λ_=>HS2 _ k3) ?_;clear hK K
   try simp only[qY,mq,mr,mt]
   have htb3:=htb2.kept k3';have HHS3:=Ab (HS2 _ k3);refine Cz.tqH (i:=8) (v:=oj #[j3 (V ⟨cb,1,Y⟩),U adb (Z zD) cpb,U oad (Z VR) ocp]) rfl (BI HQp) HHS3 ?_;simp only[qY,mq,mr,mt];refine Cz.one (i:=9) (by kernel_rfl) rfl (λK hK=>?_)
   go_simp
   have k4:=k3.alloc (j1 #[j3 (V ⟨cb,1,Y⟩),U adb (Z zD) cpb,U oad (Z VR) ocp] 237);refine hK.out _ _ (λ_=>HS2 _ k4) ?_;clear hK K
   try simp only[qY,mq,mr,mt]
   have hsp4:=rf x3 [j3 (V ⟨cb,1,Y⟩),U adb (Z zD) cpb,U oad (Z VR) ocp] 237;have hr4:=mE hrow7 (j1 #[j3 (V ⟨cb,1,Y⟩),U adb (Z zD) cpb,U oad (Z VR) ocp] 237);have htb4:=htb3.alloc (j1 #[j3 (V ⟨cb,1,Y⟩),U adb (Z zD) cpb,U oad (Z VR) ocp] 237);have hne:=show x1.heap.size≠x3.heap.size from Nat.ne_of_lt htb3.lt
   have hge:=k1.size
   try simp only[m9]at hsp4 htb4 hne hge
   generalize(x3.alloc (j1 #[j3 (V ⟨cb,1,Y⟩),U adb (Z zD) cpb,U oad (Z VR) ocp] 237))=WW at k4 hr4 hsp4 htb4⊢;have c6:=htb4.cell 0;have f6:=htb4.frozen 0;simp at c6;refine Cz.one (i:=11) (by kernel_rfl) rfl (λK hK=>?_)
   go_simp
   have kz:=k4.setCell (p:=⟨x1.heap.size,0,Y⟩) (lx hge) (j3 (V ⟨x3.heap.size,0,Y⟩));refine hK.out _ _ (λ_=>HS2 _ kz) ?_;clear hK K;refine Cz.done (by kernel_rfl) ?_ _
   try simp only[qY,mq,mr,mt]
   exact HE2 _ _ _ _ _ _ _ _ _ _ _ _ _ _ _ _ oad ocp (x3.heap.size) (x1.heap.size) _ kz (Ah hr4 (Aq hr4 htb4 (by decide)) _) (hsp4.zB ⟨x1.heap.size,0,Y⟩ hne _) (htb4.set 0 _)
 .go_simp
  have k1:=hka.alloc (j1 #[j3 Y] 233);refine hK.out _ _ (λ_=>HS2 _ k1) ?_;clear hK K
  try simp only[qY,mq,mr,mt]
  have htb1:=rf x0 [j3 Y] 233;refine Cz.one (i:=6) (by kernel_rfl) rfl (λK hK=>?_)
  go_simp
  refine(HCT _ (HKw.trans k1)).mono ?_;rintro _ x2 ⟨ad6,cp6,rfl,hrow6,k2'⟩;have k2:Ac [] wA x2:=k1.trans k2';refine hK.out _ _ (λ_=>HS2 _ k2) ?_;clear hK K
  try simp only[qY,mq,mr,mt]
  have htb2:=htb1.kept k2';refine Cz.one (i:=7) (by kernel_rfl) rfl (λK hK=>?_)
  go_simp
  refine(HV1 ad6 cp6 _ hrow6).mono ?_;rintro _ x3 ⟨oad,ocp,rfl,hrow7,k3'⟩;have k3:Ac [] wA x3:=k2.trans k3';refine hK.out _ _ (λ_=>HS2 _ k3) ?_;clear hK K
  try simp only[qY,mq,mr,mt]
  have htb3:=htb2.kept k3';have HHS3:=Ab (HS2 _ k3);refine Cz.tqH (i:=8) (v:=oj #[j3 (V ⟨cb,1,Y⟩),U adb (Z zD) cpb,U oad (Z VR) ocp]) rfl (BI HQp) HHS3 ?_;simp only[qY,mq,mr,mt];refine Cz.one (i:=9) (by kernel_rfl) rfl (λK hK=>?_)
  go_simp
  have k4:=k3.alloc (j1 #[j3 (V ⟨cb,1,Y⟩),U adb (Z zD) cpb,U oad (Z VR) ocp] 237);refine hK.out _ _ (λ_=>HS2 _ k4) ?_;clear hK K
  try simp only[qY,mq,mr,mt]
  have hsp4:=rf x3 [j3 (V ⟨cb,1,Y⟩),U adb (Z zD) cpb,U oad (Z VR) ocp] 237;have hr4:=mE hrow7 (j1 #[j3 (V ⟨cb,1,Y⟩),U adb (Z zD) cpb,U oad (Z VR) ocp] 237);have htb4:=htb3.alloc (j1 #[j3 (V ⟨cb,1,Y⟩),U adb (Z zD) cpb,U oad (Z VR) ocp] 237);have hne:=show x0.heap.size≠x3.heap.size from Nat.ne_of_lt htb3.lt
  have hge:=hka.size
  try simp only[m9]at hsp4 htb4 hne hge
  generalize(x3.alloc (j1 #[j3 (V ⟨cb,1,Y⟩),U adb (Z zD) cpb,U oad (Z VR) ocp] 237))=WW at k4 hr4 hsp4 htb4⊢;have c6:=htb4.cell 0;have f6:=htb4.frozen 0;simp at c6;refine Cz.one (i:=11) (by kernel_rfl) rfl (λK hK=>?_)
  go_simp
  have kz:=k4.setCell (p:=⟨x0.heap.size,0,Y⟩) (lx hge) (j3 (V ⟨x3.heap.size,0,Y⟩));refine hK.out _ _ (λ_=>HS2 _ kz) ?_;clear hK K;refine Cz.done (by kernel_rfl) ?_ _
  try simp only[qY,mq,mr,mt]
  exact HE2 _ _ _ _ _ _ _ _ _ _ _ _ _ _ _ _ oad ocp (x3.heap.size) (x0.heap.size) _ kz (Ah hr4 (Aq hr4 htb4 (by decide)) _) (hsp4.zB ⟨x0.heap.size,0,Y⟩ hne _) (htb4.set 0 _)
