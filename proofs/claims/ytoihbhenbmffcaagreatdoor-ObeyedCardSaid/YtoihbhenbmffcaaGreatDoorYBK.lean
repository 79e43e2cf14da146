import Derived.Test.YtoihbhenbmffcaaGreatDoorYBJ
set_option linter.all false
set_option maxHeartbeats 0
open List renaming length->Z,toArray->j3,replicate->lV
open Option renaming none->Y,some->V
open Go.Value renaming slice->U,int->X,string->O,pointer->kt,agg->lR,bool->lT
open Go.IntKind renaming i64->J
open Go.Obj renaming cells->j2
open Go.Ending renaming returned->lo
open Or renaming inl->lx,inr->ly
open Go renaming World->l9,Value->lN
open Go.RowKit renaming Hid->lO
open Go.World renaming cell?->lP,ownsRow->lQ
open Go.Act renaming put->lY
namespace Go.Proofs.YtoihbhenbmffcaaGreatDoor
open Go.RowKit Go.Proofs.Tryz
theorem Tryz.zq:(Tryz.prog.info? 176).map (λi=>(i.zero,i.size,i.bytes))=V (V (lR #[O ⟨#[]⟩,U Y 0 0,X J 0,U Y 0 0]),4,72):=by kernel_rfl
def Jy{t:AE}(h:CX t):OE (ct t):=by
 rcases h with⟨h,_⟩|⟨a,b,_⟩
 .exact lx (by unfold ct;rw[h];rfl)
 .exact ly ⟨by unfold ct;simp only;omega,by unfold ct;simp only;omega⟩
structure fL(w3:l9)(k:Nat)(al:UInt8->mc zA->mc zA)(r:A6)(s:mc Af)(pre:mc (mc zA))(M:mc Nat)(W:l9):Prop where
 kept:Ac [] w3 W
 out:∃(sts:mc Ti) (ad:Option Addr) (cp:Nat),AH W w3.heap.size [U ad (Z sts) cp] 137/\lQ W w3.heap.size 176 4 (U ad (Z sts) cp) (Z sts) (sts.flatMap (JV k))/\
  (∀st∈sts,Kg W st/\cA w3.heap.size r s st)/\sts.map (λst=>st.f.f)=(LF al r s pre).map BN/\M=w3.heap.size::(U ad (Z sts) cp).ownBlock.toList
def fL.own{f:l9}{k B:Nat}{al:UInt8->mc zA->mc zA}{r:A6}{s:mc Af}(t:f.heap.size<=B):OwnFrom B (fun(q:mc (mc zA)×mc Nat) W=>fL f k al r s q.1 q.2 W):=
 BF (λq W w M h a b=>by
  obtain⟨n,u,o,g,e,j,m⟩:=h.out
  exact⟨DX h.kept a b t,n,u,o,g.kept a (Ct b g),Ai e a (B4 b e),λl c=>⟨(j l c).1.map (λp d=>Ai (v:=p.tv) d a (B4 (v:=p.tv) b d)) (λi=>Ai i a (B4 b i)),(j l c).2⟩,m⟩)
set_option maxRecDepth 100000
theorem Tg(cb k:Nat)(lad:Option Addr)(lcp:Nat)(pcs:mc Db)(sad:Option Addr)(scp:Nat)(fs:mc EN)(stv:lN)(r:A6)(s:mc Af)(w:l9)(hk:k<Z pcs)(hlen:Z pcs<=1000)(hC:AH w cb [U lad (Z pcs) lcp,U sad (Z fs) scp,stv] 139)(hP:C9 w (U lad (Z pcs) lcp) pcs)(hF:Iw w (U sad (Z fs) scp) fs)(hE:Dc fs s)(hcl:Pr pcs[k] r s)(hnl:Z (QT (Im (Ak r) s) r (Ce r) (CY r) s)<=100000):
  Calls prog 167 #[kt (V ⟨cb,0,Y⟩),X J k] w λrr w'=>∃(ad:Option Addr) (cp:Nat) (sts:mc Ti),rr=lo (U ad (Z sts) cp)/\sts.map (λst=>st.f.f)=(QT (Im (Ak r) s) r (Ce r) (CY r) s).map BN/\
   lQ w' w.heap.size 176 4 (U ad (Z sts) cp) (Z sts) (sts.flatMap (JV k))/\(∀st∈sts,Kg w' st/\cA w.heap.size r s st)/\Ac [] w w':=by
 obtain⟨i0,hi0,hz0,hz1,hz2⟩:=iR Tryz.zq;obtain⟨g,cap,hp,hn,zE,adh,cph,adb,cpb,zD,he,hck,_,_,_,_⟩:=Fq hP k hk;simp only[gM]at he;obtain⟨rfl,-,rfl⟩:=he;have hpc:=hP.each _ (gL hk);rw[hck]at hcl hpc;have hfl:=hE.len;have hsl:=hcl.len;have hth:Z zE<=1000:=hcl.fit.head.2;have HCT:lO (∀wz,Ac [] w wz->Calls prog 184 #[lR #[X J hp,O hn,U adh (Z zE) cph,U adb (Z zD) cpb]] wz λe w'=>∃ad cp,e=lo (U ad (Z (Br ⟨hp,hn,zE,U adh (Z zE) cph,U adb (Z zD) cpb,zD⟩)) cp)/\lQ w' 0 215 2 (U ad (Z (Br ⟨hp,hn,zE,U adh (Z zE) cph,U adb (Z zD) cpb,zD⟩)) cp) (Z (Br ⟨hp,hn,zE,U adh (Z zE) cph,U adb (Z zD) cpb,zD⟩)) ((Br ⟨hp,hn,zE,U adh (Z zE) cph,U adb (Z zD) cpb,zD⟩).flatMap Aq)/\Ac [] wz w'):=
  λwz hk=>(PR ⟨hp,hn,zE,U adh (Z zE) cph,U adb (Z zD) cpb,zD⟩ wz (hpc.kept hk (by simp)) hcl.fit).mono λe w' ⟨ad,cp,h1,h2,h3⟩=>⟨ad,cp,h1,Am h2 (ik _),h3⟩
 have HV1:lO (∀ad cp wz,lQ wz 0 215 2 (U ad (Z (Br ⟨hp,hn,zE,U adh (Z zE) cph,U adb (Z zD) cpb,zD⟩)) cp) (Z (Br ⟨hp,hn,zE,U adh (Z zE) cph,U adb (Z zD) cpb,zD⟩)) ((Br ⟨hp,hn,zE,U adh (Z zE) cph,U adb (Z zD) cpb,zD⟩).flatMap Aq)->Calls prog 138 #[U ad (Z (Br ⟨hp,hn,zE,U adh (Z zE) cph,U adb (Z zD) cpb,zD⟩)) cp] wz λr w'=>∃ad' cp',r=lo (U ad' (Z (Dp (Br ⟨hp,hn,zE,U adh (Z zE) cph,U adb (Z zD) cpb,zD⟩))) cp')/\lQ w' 0 21 1 (U ad' (Z (Dp (Br ⟨hp,hn,zE,U adh (Z zE) cph,U adb (Z zD) cpb,zD⟩))) cp') (Z (Dp (Br ⟨hp,hn,zE,U adh (Z zE) cph,U adb (Z zD) cpb,zD⟩))) ((Dp (Br ⟨hp,hn,zE,U adh (Z zE) cph,U adb (Z zD) cpb,zD⟩)).flatMap AP)/\Ac [] wz w'):=
  λad cp wz h=>(MV ad cp _ 0 wz h hcl.zQ).mono λe w' ⟨ad,cp,h1,h2,h3⟩=>⟨ad,cp,h1,Am h2 (ik _),h3⟩
 have HSea:lO (∀sp oad ocp wz,Ac [] w wz->AH wz sp [kt (V ⟨cb,1,Y⟩),U adb (Z zD) cpb,U oad (Z (Dp (Br ⟨hp,hn,zE,U adh (Z zE) cph,U adb (Z zD) cpb,zD⟩))) ocp] 237->lQ wz 0 21 1 (U oad (Z (Dp (Br ⟨hp,hn,zE,U adh (Z zE) cph,U adb (Z zD) cpb,zD⟩))) ocp) (Z (Dp (Br ⟨hp,hn,zE,U adh (Z zE) cph,U adb (Z zD) cpb,zD⟩))) ((Dp (Br ⟨hp,hn,zE,U adh (Z zE) cph,U adb (Z zD) cpb,zD⟩)).flatMap AP)->aQ wz sp (Ak r) s (Ce r++CY r)):=by
  intro sp oad ocp wz hk hb hr;have hc1:=(hC.kept hk (by simp)).cell 1;simp at hc1;exact hcl.sea (c:=⟨hp,hn,zE,U adh (Z zE) cph,U adb (Z zD) cpb,zD⟩) ⟨hb,hc1,hF.kept hk⟩ (hpc.body.kept hk (by simp)) hr hE
 have HVl:lO (Z (Dp (Br ⟨hp,hn,zE,U adh (Z zE) cph,U adb (Z zD) cpb,zD⟩))=Z (Ce r++CY r)/\Z (Ce r++CY r)<=26):=⟨by rw[hcl.order,F6],hcl.z9⟩;obtain⟨TV,hTV⟩:∃TV,Br ⟨hp,hn,zE,U adh (Z zE) cph,U adb (Z zD) cpb,zD⟩=TV:=⟨_,rfl⟩;rw[hTV]at HCT HV1 HSea HVl;have HV2:lO (∀wz,Ac [] w wz->Calls prog 138 #[U adh (Z zE) cph] wz λr' w'=>∃ad' cp',r'=lo (U ad' (Z (Ce r)) cp')/\Ac [] wz w'):=λwz hk=>(MV adh cph zE 0 wz (Ad hpc.head hk (by simp)) (by omega)).mono λe w' ⟨ad,cp,h1,h2,h3⟩=>⟨ad,cp,by rw[h1,hcl.ofHead,F6],h3⟩
 have hvt:∀t∈zE,OE t:=by
  have hh:=hcl.zs.zE;simp only at hh;rw[hh];intro t ht;obtain⟨u,hu,rfl⟩:=gX.1 ht;exact Jy (hcl.head.args u hu)
 have HBf:lO (∀Bx b wz,Ac [] w wz->Z b=26->AH wz Bx (Aj b) 243->Calls prog 196 #[kt (V ⟨Bx,0,Y⟩),lR #[X J hp,O hn,U adh (Z zE) cph]] wz λr w'=>∃g,r=lo (lR #[O hn,U (V ⟨g,0,Y⟩) (Z zE) (Z zE)])/\DS w' ⟨⟨hn,zE.map (Bz b)⟩,U (V ⟨g,0,Y⟩) (Z zE) (Z zE)⟩/\Ac [] wz w'):=by
  intro Bx b wz hk hb hB;refine(Na Bx 243 b hp hn adh cph zE 0 wz hb hB (Ad hpc.head hk (by simp)) (by omega) hvt).mono ?_;rintro r w' ⟨g,rfl,hr,k⟩;refine⟨g,rfl,?_,k⟩;show lQ w' 0 170 1 _ (Z (zE.map (Bz b))) _;rw[ie];exact Am hr (ik _)
 have HHs:lO (∀(g:Nat) (ts:mc zA) (f:Af) wz,Ac [] w wz->Z ts=Z zE->DS wz ⟨⟨hn,ts⟩,U (V ⟨g,0,Y⟩) (Z zE) (Z zE)⟩->(⟨hn,ts⟩:CG)=BN f->AJ f->Calls prog 60 #[kt (V ⟨cb,1,Y⟩),lR #[O hn,U (V ⟨g,0,Y⟩) (Z zE) (Z zE)]] wz λe w'=>e=lo (lT (D9 s f))/\Ac [] wz w'):=by
  intro g ts f wz hk htl hpf hf hcf;have hc1:=(hC.kept hk (by simp)).cell 1;simp at hc1;refine(Ng cb 1 sad scp fs ⟨⟨hn,ts⟩,U (V ⟨g,0,Y⟩) (Z zE) (Z zE)⟩ wz hc1 (hF.kept hk) hpf (by show Z ts<=1000;omega) (by omega) (hE.mono _)).mono ?_;rintro e w' ⟨p,rfl,hcut,k⟩;simp only at hcut⊢;rw[hf]at hcut⊢;exact⟨by rw[hE.zn hcf hcut],k⟩
 have HNe:lO (∀x y WB wz,Ac [] w wz->x∈Av (Im (Ak r) s) (Ak r) s (Ce r) Bs->y∈Av (Im (Ak r) s) (Ak r) s (CY r) x->Z y=26->AH wz WB (Aj (Be y)) 243->Calls prog 198 #[kt (V ⟨WB,0,Y⟩),U adb (Z zD) cpb] wz λr' w'=>∃(ad:Option Addr) (n cp:Nat) (ps:mc EN),r'=lo (U ad n cp)/\(Iw w' (U ad n cp) ps/\n=Z ps/\∀q,(U ad n cp).ownBlock=V q->wz.heap.size<=q)/\fS r s (BN (AB x r.head)) (ps.map EN.f)/\Ac [] wz w'):=by
  intro x y WB wz hk hx hy hyl hB;have hfst:zD.map Prod.fst=(Ak r).map KF:=by
   have h2:=F2.fst hcl.zs.lits;simp only at h2;rw[h2];rfl
  have hl:∀p∈zD,OK p.1:=λp hp=>by
   have hm:p.1∈(Ak r).map KF:=by
    rw[<-hfst];exact it hp
   obtain⟨x,hx,e1⟩:=gX.1 hm;rw[<-e1];exact(hcl.lits x hx).2
  refine(YM WB 243 (Be y) adb cpb zD wz (by unfold Be;rw[ie];exact hyl) hB (hpc.body.kept hk (by simp)) hcl.fit.lits hl).mono ?_;rintro e w' ⟨ad,cp,ps,rfl,h1,h2,h3,k⟩;refine⟨ad,Z ps,cp,ps,rfl,⟨h2,rfl,λq hq=>(h3.lt q hq).1⟩,?_,k⟩;rw[h1,hfst];exact dO hcl hx hy
 have HCl:=Ab hcl;have HFc:lO (∀b∈Av (Im (Ak r) s) (Ak r) s (Ce r) Bs,CQ b/\(⟨hn,zE.map (Bz (Be b))⟩:CG)=BN (AB b r.head)/\AJ (AB b r.head)):=λb hb=>by
  have hcan:=Ln hcl.al hcl.parts hcl.head hb;exact⟨Fa hcl.al _ _ CQ.start b hb,Zm hcl.zs hcl.head hcan,F9 hcan⟩
 have HNl:=Ab hnl;have HPr:=Ab hP;have HCo:=Ab hC;have HCk:=Ab hck;clear hcl hpc hE hF hC hfl hsl hvt hTV hnl;obtain⟨N,hN⟩:∃N,w.heap.size=N:=⟨_,rfl⟩;have HN:=Ab hN;obtain⟨PL,hPL⟩:∃PL,Z pcs=PL:=⟨_,rfl⟩;have HC1:lO (∀wz,Ac [] w wz->lP wz ⟨cb,0,Y⟩=V (U (V ⟨g,0,Y⟩) PL lcp)/\lP wz ⟨g,k*4,Y⟩=V (X J hp)/\lP wz ⟨g,k*4+1,Y⟩=V (O hn)/\lP wz ⟨g,k*4+2,Y⟩=V (U adh (Z zE) cph)/\lP wz ⟨g,k*4+3,Y⟩=V (U adb (Z zD) cpb)):=by
  intro wz hkz;obtain⟨g',cap',hp',hn',hts',adh',cph',adb',cpb',lvs',he',hck',d0,d1,d2,d3⟩:=Fq (hP.kept hkz) k hk;rw[hck]at hck';simp only[Db.mk.injEq]at hck';obtain⟨rfl,rfl,rfl,e1,e2,rfl⟩:=hck';simp only[gM,gT,iL]at he';obtain⟨⟨rfl,-,-⟩,-,-⟩:=he';rw[<-e1]at d2;rw[<-e2]at d3;have h0:=(HCo.kept hkz (by simp)).cell 0;simp[hPL]at h0;exact⟨h0,d0,d1,d2,d3⟩
 have hk0:(0:Int)<=(k:Int):=by omega
 have hk1:(k:Int)<(PL:Int):=by omega
 clear hP hck hPL hlen hN;obtain⟨QQ,hQQ⟩:∃QQ,JD (bodyPostM Fence.wide 0 prog Tryz.f167 λrr w'=>∃(ad:Option Addr) (cp:Nat) (sts:mc Ti),rr=lo (U ad (Z sts) cp)/\sts.map (λst=>st.f.f)=(QT (Im (Ak r) s) r (Ce r) (CY r) s).map BN/\
   lQ w' w.heap.size 176 4 (U ad (Z sts) cp) (Z sts) (sts.flatMap (JV k))/\(∀st∈sts,Kg w' st/\cA w.heap.size r s st)/\Ac [] w w')=QQ:=⟨_,rfl⟩
 have HQQ:=Ab hQQ;have HQp:lO (∀c a w,¬QQ (.panic c) a w):=by
  intro c a w h;rw[<-hQQ]at h;exact h
 refine Ec func167 rfl (FV ?_);rw[hQQ];clear hQQ;simp only[ntmps167,i7,gW,iv,Nat.reduceAdd,Nat.reduceSub,jZ,j4,kx,ke,i6,js];have HK1:=Ab (((me [] w).alloc (j2 #[kt (V ⟨cb,0,Y⟩)] 140)).alloc (j2 #[X J k] 3));have HB0:=Ab ((mf w [kt (V ⟨cb,0,Y⟩)] 140).alloc (j2 #[X J k] 3));have HB1:lO (AH ((w.alloc (j2 #[kt (V ⟨cb,0,Y⟩)] 140)).alloc (j2 #[X J k] 3)) (w.heap.size+1) [X J k] 3):=by
  have h:=mf (w.alloc (j2 #[kt (V ⟨cb,0,Y⟩)] 140)) [X J k] 3;rw[iz]at h;exact h
 refine ma (λK1 HKk=>?_);go_wp2;refine HKk _ _ ?_;clear HKk K1;change Code.wp _ _ _ _ ((w.alloc (j2 [kt (V ⟨cb,0,Y⟩)].toArray 140)).alloc (j2 [X J k].toArray 3));generalize hw1:(w.alloc (j2 [kt (V ⟨cb,0,Y⟩)].toArray 140)).alloc (j2 [X J k].toArray 3)=w1 at HK1 HB0 HB1⊢;have hsz1:w1.heap.size=w.heap.size+2:=by rw[<-hw1];simp
 clear hw1;rw[Aa HN]at HB0 HB1 hsz1⊢;have HS1:lO (∀wz,Ac [] w1 wz->Ac [] w1 wz/\lP wz ⟨N,0,Y⟩=V (kt (V ⟨cb,0,Y⟩))/\lP wz ⟨N+1,0,Y⟩=V (X J k)/\lP wz ⟨cb,0,Y⟩=V (U (V ⟨g,0,Y⟩) PL lcp)/\lP wz ⟨g,k*4,Y⟩=V (X J hp)/\lP wz ⟨g,k*4+1,Y⟩=V (O hn)/\lP wz ⟨g,k*4+2,Y⟩=V (U adh (Z zE) cph)/\lP wz ⟨g,k*4+3,Y⟩=V (U adb (Z zD) cpb)):=by
  intro wz hkz;have h0:=(HB0.kept hkz (by simp)).cell 0;have h1:=(HB1.kept hkz (by simp)).cell 0;simp at h0 h1;exact⟨hkz,h0,h1,HC1 wz (HK1.trans hkz)⟩
 refine ma (λK1 HKk=>?_);have HHS:=Ab (HS1 w1.drew (me [] w1).drew);refine Cz 9 (λwz=>Ac [] w1 wz/\lP wz ⟨N,0,Y⟩=V (kt (V ⟨cb,0,Y⟩))/\lP wz ⟨N+1,0,Y⟩=V (X J k)/\lP wz ⟨cb,0,Y⟩=V (U (V ⟨g,0,Y⟩) PL lcp)/\lP wz ⟨g,k*4,Y⟩=V (X J hp)/\lP wz ⟨g,k*4+1,Y⟩=V (O hn)/\lP wz ⟨g,k*4+2,Y⟩=V (U adh (Z zE) cph)/\lP wz ⟨g,k*4+3,Y⟩=V (U adb (Z zD) cpb)) (by kernel_rfl) ?_;refine Cx.tkH (i:=0) (v:=kt (V ⟨cb,0,Y⟩)) rfl (by kernel_rfl) (Bq HQp) HHS (by rfl) ?_ ?_
 ·(rintro wz ⟨z0,z1,z2,z3,z4,z5,z6,z7⟩;go_simp)
 simp only[lY,gI,gJ,gK];refine Cx.tkH (i:=1) (v:=kt (V ⟨cb,0,Y⟩)) rfl (by kernel_rfl) (Bq HQp) HHS (by rfl) ?_ ?_
 ·(rintro wz ⟨z0,z1,z2,z3,z4,z5,z6,z7⟩;go_simp)
 simp only[lY,gI,gJ,gK];refine Cx.tkH (i:=2) (v:=kt (V ⟨cb,0,Y⟩)) rfl (by kernel_rfl) (Bq HQp) HHS (by rfl) ?_ ?_
 ·(rintro wz ⟨z0,z1,z2,z3,z4,z5,z6,z7⟩;go_simp)
 simp only[lY,gI,gJ,gK];refine Cx.tkH (i:=3) (v:=U (V ⟨g,0,Y⟩) PL lcp) rfl (by kernel_rfl) (Bq HQp) HHS (by rfl) ?_ ?_
 ·(rintro wz ⟨z0,z1,z2,z3,z4,z5,z6,z7⟩;go_simp)
 simp only[lY,gI,gJ,gK];refine Cx.tkH (i:=4) (v:=X J k) rfl (by kernel_rfl) (Bq HQp) HHS (by rfl) ?_ ?_
 ·(rintro wz ⟨z0,z1,z2,z3,z4,z5,z6,z7⟩;go_simp)
 simp only[lY,gI,gJ,gK];refine Cx.tkH (i:=5) (v:=kt (V ⟨g,k*4,Y⟩)) rfl (by kernel_rfl) (Bq HQp) HHS (by rfl) ?_ ?_
 ·(rintro wz ⟨z0,z1,z2,z3,z4,z5,z6,z7⟩;go_simp)
 simp only[lY,gI,gJ,gK];refine Cx.tkH (i:=6) (v:=lR #[X J hp,O hn,U adh (Z zE) cph,U adb (Z zD) cpb]) rfl (by kernel_rfl) (Bq HQp) HHS (by rfl) ?_ ?_
 ·(rintro wz ⟨z0,z1,z2,z3,z4,z5,z6,z7⟩;go_simp)
 simp only[lY,gI,gJ,gK];refine Cx.one (i:=7) (by kernel_rfl) rfl (λK hK=>?_)
 go_simp
 refine hK.out _ _ (λ_=>HS1 _ ((me [] w1).drew.alloc _)) ?_;clear hK K
 try simp only[lY,gI,gJ,gK]
 have HB2:=Ab (mf w1.drew [X J 0,O ⟨#[]⟩,U Y 0 0,U Y 0 0] 189);have HK2:=Ab ((me [] w1).drew.alloc (j2 [X J 0,O ⟨#[]⟩,U Y 0 0,U Y 0 0].toArray 189));change Cx _ _ _ _ _ _ _ _ _ (w1.drew.alloc (j2 [X J 0,O ⟨#[]⟩,U Y 0 0,U Y 0 0].toArray 189));have hsz:w1.drew.heap.size=N+2:=hsz1;rw[hsz]at HB2;generalize w1.drew.alloc (j2 [X J 0,O ⟨#[]⟩,U Y 0 0,U Y 0 0].toArray 189)=w2 at HB2 HK2⊢;have q0:=HB2.cell 0;have q1:=HB2.cell 1;have q2:=HB2.cell 2;have q3:=HB2.cell 3;have f0:=HB2.frozen 0;have f1:=HB2.frozen 1;have f2:=HB2.frozen 2;have f3:=HB2.frozen 3;simp at q0 q1 q2 q3;refine Cx.one (i:=8) (by kernel_rfl) rfl (λK hK=>?_)
 go_simp
 have HB3:=Ab (HB2.zP rfl (X J hp) (O hn) (U adh (Z zE) cph) (U adb (Z zD) cpb));have HK3:=Ab (HK2.zP (N:=N+2) (ly (by omega)) (X J hp) (O hn) (U adh (Z zE) cph) (U adb (Z zD) cpb));refine hK.out _ _ (λ_=>HS1 _ HK3) ?_;clear hK K;refine Cx.done (by kernel_rfl) ?_ _
 try simp only[lY,gI,gJ,gK]
 generalize(((w2.setCell ⟨N+2,0,Y⟩ (X J hp)).setCell ⟨N+2,1,Y⟩ (O hn)).setCell ⟨N+2,2,Y⟩ (U adh (Z zE) cph)).setCell ⟨N+2,3,Y⟩ (U adb (Z zD) cpb)=wA at HB3 HK3⊢;refine HKk _ _ ?_;clear HKk K1 HHS HS1 HB2 HK2 q0 q1 q2 q3 f0 f1 f2 f3;have HKw:lO (Ac [] w wA):=HK1.trans HK3;have HBc:lO (AH wA N [kt (V ⟨cb,0,Y⟩)] 140/\AH wA (N+1) [X J k] 3/\AH wA (N+2) [X J hp,O hn,U adh (Z zE) cph,U adb (Z zD) cpb] 189):=⟨HB0.kept HK3 (by simp),HB1.kept HK3 (by simp),by have h:=Aa HB3;simpa using h⟩;clear HB3 HK3 HK1 HB0 HB1 hsz1 hsz;have HS2:lO (∀wz,Ac [] wA wz->Ac [] wA wz/\lP wz ⟨N,0,Y⟩=V (kt (V ⟨cb,0,Y⟩))/\lP wz ⟨N+2,0,Y⟩=V (X J hp)/\lP wz ⟨N+2,1,Y⟩=V (O hn)/\lP wz ⟨N+2,2,Y⟩=V (U adh (Z zE) cph)/\lP wz ⟨N+2,3,Y⟩=V (U adb (Z zD) cpb)):=by
  intro wz hkz;have h0:=(HBc.1.kept hkz (by simp)).cell 0;have hb:=HBc.2.2.kept hkz (by simp);have h1:=hb.cell 0;have h2:=hb.cell 1;have h3:=hb.cell 2;have h4:=hb.cell 3;simp at h0 h1 h2 h3 h4;exact⟨hkz,h0,h1,h2,h3,h4⟩
 obtain⟨VR,hVR⟩:∃VR,Dp TV=VR:=⟨_,rfl⟩;rw[hVR]at HV1 HSea HVl;clear hVR;refine ma (λK2 HK2k=>?_);have HE2:lO (∀(y13 y14 y15 y16 y17 y18 y19 y20 y21 y22 y23 y24 y25 y26 y27 y28:lN) (oad:Option Addr) (ocp sp tb:Nat) (wz:l9),Ac [] wA wz->lQ wz 0 21 1 (U oad (Z VR) ocp) (Z VR) (VR.flatMap AP)->AH wz sp [kt (V ⟨cb,1,Y⟩),U adb (Z zD) cpb,U oad (Z VR) ocp] 237->AH wz tb [kt (V ⟨sp,0,Y⟩)] 233->K2 ⟨#[kt (V ⟨cb,0,Y⟩),X J k,kt (V ⟨N,0,Y⟩),kt (V ⟨N+1,0,Y⟩),U Y 0 0,kt (V ⟨N+2,0,Y⟩),kt (V ⟨tb,0,Y⟩),undef,undef,undef,undef,undef,undef,y13,y14,y15,y16,y17,y18,y19,y20,y21,y22,y23,y24,y25,y26,y27,y28,kt (V ⟨sp,0,Y⟩),undef,undef,undef,undef,undef,undef,undef,undef,undef,undef,undef,undef,undef,undef,undef,undef,undef,undef,undef,undef,undef,undef,undef,undef,undef,undef,undef,undef,undef,undef,undef,undef,undef,undef,undef,undef,undef,undef,undef,undef,undef],[]⟩ wz):=by
  intro y13 y14 y15 y16 y17 y18 y19 y20 y21 y22 y23 y24 y25 y26 y27 y28 oad ocp sp tb wz hkz hrow hsp htb;refine HK2k _ _ ?_;clear HK2k K2;have HSa:=Ab (HSea sp oad ocp wz (HKw.trans hkz) hsp hrow);have HKz:lO (Ac [] w wz):=HKw.trans hkz;have HBz:lO (AH wz N [kt (V ⟨cb,0,Y⟩)] 140/\AH wz (N+1) [X J k] 3/\AH wz (N+2) [X J hp,O hn,U adh (Z zE) cph,U adb (Z zD) cpb] 189/\AH wz tb [kt (V ⟨sp,0,Y⟩)] 233):=⟨HBc.1.kept hkz (by simp),HBc.2.1.kept hkz (by simp),HBc.2.2.kept hkz (by simp),htb⟩;clear hkz hrow hsp htb HSea HS2;have e2:=HBz.2.2.1.cell 2;simp at e2;have HC3:=Ab (HV2 wz HKz);refine ma (λK1 HKk=>?_);go_wp2_with fail
  refine HC3.mono ?_;rintro _ v2 ⟨ad',cp',rfl,k2⟩;obtain⟨OH,hOH⟩:∃OH,Z (Ce r)=OH:=⟨_,rfl⟩;have HOH:=Ab hOH;rw[hOH];have HK2:=Ab k2;clear hOH HC3 k2 e2;go_wp2;refine HKk _ _ ?_;clear HKk K1;have HKo:=Ab (HK2.alloc (j2 [X J OH].toArray 3));have HBo:=Ab (mf v2 [X J OH] 3);change Code.wp _ _ _ _ (v2.alloc (j2 [X J OH].toArray 3));generalize v2.alloc (j2 [X J OH].toArray 3)=w3 at HKo HBo⊢;generalize v2.heap.size=ob at HBo⊢;have HK3:lO (Ac [] w w3):=HKz.trans HKo;have HS3:lO (aQ w3 sp (Ak r) s (Ce r++CY r)):=HSa.kept HKo;have HB3:lO (∀W,Ac [] w3 W->AH W N [kt (V ⟨cb,0,Y⟩)] 140/\AH W (N+1) [X J k] 3/\AH W (N+2) [X J hp,O hn,U adh (Z zE) cph,U adb (Z zD) cpb] 189/\AH W tb [kt (V ⟨sp,0,Y⟩)] 233/\AH W ob [X J OH] 3):=λW hkW=>⟨(HBz.1.kept HKo (by simp)).kept hkW (by simp),(HBz.2.1.kept HKo (by simp)).kept hkW (by simp),(HBz.2.2.1.kept HKo (by simp)).kept hkW (by simp),(HBz.2.2.2.kept HKo (by simp)).kept hkW (by simp),HBo.kept hkW (by simp)⟩
  clear HSa HKz HBz HK2 HKo HBo HKw HBc;obtain⟨SB,hSB⟩:∃SB,w3.heap.size=SB:=⟨_,rfl⟩;have HSB:=Ab hSB;have HK4:=Ab ((me [] w3).alloc (j2 [U Y 0 0].toArray 137));have HB4:=Ab (mf w3 [U Y 0 0] 137);refine ma (λK1 HKk=>?_);go_wp2;refine HKk _ _ ?_;clear HKk K1;change Code.wp _ _ _ _ (w3.alloc (j2 [U Y 0 0].toArray 137));generalize w3.alloc (j2 [U Y 0 0].toArray 137)=w4 at HK4 HB4⊢;rw[hSB]at HB4;clear hSB;have t4:=(HB3 w4 HK4).2.2.2.1.cell 0;have o4:=(HB3 w4 HK4).2.2.2.2.cell 0;simp at t4 o4;have HBt:lO (∀wz,Calls prog 141 #[kt (V ⟨sp,0,Y⟩),X J 0,X J OH,lR (j3 (lV 26 (O ⟨#[]⟩)))] wz λr w'=>∃b1 b2 b3 b4,r=lo (.func (.func 176) #[] #[kt (V ⟨b1,0,Y⟩),kt (V ⟨b2,0,Y⟩),kt (V ⟨b3,0,Y⟩),kt (V ⟨b4,0,Y⟩)])/\
    AH w' b1 [kt (V ⟨sp,0,Y⟩)] 233/\AH w' b2 (Aj (Be Bs)) 243/\AH w' b3 [X J ((0:Nat):Int)] 3/\AH w' b4 [X J OH] 3/\(wz.heap.size<=b1/\wz.heap.size<=b2/\wz.heap.size<=b3/\wz.heap.size<=b4)/\Ac [] wz w'):=λwz=>by
   have h:=Hr sp 0 OH (Aj (Be Bs)) wz (Bv _) (Ex Bs rfl).1;rw[J3]at h⊢;exact h
  refine ma (λK1 HKk=>?_);refine ma (λK5 HK5=>?_);go_wp2_with fail
  refine(HBt _).mono ?_;rintro _ w5 ⟨d1,d2,d3,d4,rfl,n1,n2,n3,n4,hds,k5⟩;have HK35:lO (Ac [] w3 w5):=HK4.trans k5;have HB5:=Ab (HB4.kept k5 (by simp));have hs5:=k5.size;have hs4:=HK4.size;have zn:=L9 sp (Ak r) s (Ce r++CY r) w3 HS3 OH (by rw[<-Aa HOH,ib];omega) (Ce r) 0 Bs d1 d2 d3 d4 w5 [SB] CQ.start (by omega) (by rw[<-Aa HOH,List.take_left,kS]) ⟨HK35,n1,n2,n3,n4,λq hq=>by
   have hb:=HB4.lt
   have hsb:=Aa HSB
   obtain⟨g1,g2,g3,g4⟩:=hds
   simp only[gN]at hq
   subst hq
   exact⟨by omega,by omega,by omega,by omega,by omega,by omega⟩⟩
  have HIn:lO (fL w3 k (Im (Ak r) s) r s [] [SB] w5):=⟨HK35,[],Y,0,by rw[Aa HSB];exact HB5,ip _ _ _ _,λst hst=>by simp at hst,rfl,by rw[Aa HSB];rfl⟩;have hw3:w3.heap.size<=w5.heap.size:=HK35.size;have hSl:=HB5.lt;clear n1 n2 n3 n4 hds k5 HBt t4 o4 HB4 HB5 HK4;go_wp2;refine HK5 _ _ ?_;clear HK5 K5;refine wp_block ?_;obtain⟨XS,hXS⟩:∃XS,Av (Im (Ak r) s) (Ak r) s (Ce r) Bs=XS:=⟨_,rfl⟩;have HXS:=Ab hXS;rw[hXS]at zn HFc;clear hXS;have HXl:lO (∀x∈XS,Z x=26):=λx hx=>(HFc x hx).1.len
  refine Ir (T:=243) (q:=9) rfl (enters_of func176 (by kernel_rfl) rfl) zn (λq hq=>by
   simp only[gN]at hq
   subst hq
   exact hSl) (fL w3 k (Im (Ak r) s) r s) (λ_ _ _ _=>False) (fL.own hw3) (λ_ _ _ _ _ h _ _=>h) HIn ?rassign ?rbody ?rdone ?rstop
  case rassign=>
   intro l' x W' K hx HK;obtain⟨hxl,hxo⟩:=Ex x (HXl x hx);obtain⟨EX,hEX⟩:∃EX,Aj (Be x)=EX:=⟨_,rfl⟩;rw[hEX]at hxl hxo HK⊢;have HXo:=Ab hxo;have HXl:=Ab hxl;(have HXa:lO (EX.toArray.size=26):=by show _=_;simp[hxl]);clear hx hEX hxl hxo;simp only[gI,gJ,gK]at HK⊢;refine AG (by rfl) (Hc F0) ?_;go_wp2_with ((with_reducible show wpList _ _ _ ({dst:=_,op:=Op.store 243 _ _,type:=_,pos:=_,after:=_,guard:=_}::_) _ _);refine jO rfl 243 _ _ rfl W'.heap.size 0 (j3 EX) (by rfl) (by rfl) ?_ ?_ ?_ ?_)
   .have h:=(mf W' (lV 26 (O ⟨#[]⟩)) 243).there;simp only[jE]at h;rw[Aa HXa];exact h
   .rw[Aa HXa];exact Tryz.zH
   .exact jk HXo
   .refine HK _ (((me [] W').alloc (j2 (j3 (lV 26 (O ⟨#[]⟩))) 243)).zJ (b:=W'.heap.size) (ly (ig _)) EX 0) ?_;exact(mf W' (lV 26 (O ⟨#[]⟩)) 243).zU EX (by rw[Aa HXl];simp)
  case rbody=>
   intro l' Bx pre x rest' M W' hxs hi hM hBx hblk;(have hxm:x∈XS:=by rw[hxs];simp);obtain⟨heo,hfeq,hfcan⟩:=HFc x hxm;obtain⟨sts,ad,cp,i1,i2,i3,i4,i5⟩:=hi.out;rw[Aa HSB]at i1 i2 i5;have HLs:lO (Z sts<=100000):=by
    have h1:=congrArg List.length i4;rw[ie,ie]at h1;have h2:=Aa HNl;rw[<-RZ,Aa HXS,hxs]at h2;(have h3:LF (Im (Ak r) s) r s (pre++x::rest')=LF (Im (Ak r) s) r s pre++LF (Im (Ak r) s) r s (x::rest'):=by unfold LF;rw[jX,iG]);rw[h3,ib]at h2;show Z sts<=100000;omega
   have HKw':lO (Ac [] w W'):=HK3.trans hi.kept;have HBW:=Ab (HB3 W' hi.kept);have HSo:lO (LF (Im (Ak r) s) r s (pre++[x])=LF (Im (Ak r) s) r s pre++if(!D9 s (AB x r.head)&& !(Av (Im (Ak r) s) (Ak r) s (CY r) x).isEmpty)=true then[AB x r.head] else[]):=WQ _ _ _ _ _;have HC7:=Ab (HBf Bx (Be x) W' HKw' (Hb heo) hblk);have HC8:=Ab (λg wz hk hpf=>HHs g (zE.map (Bz (Be x))) (AB x r.head) wz hk (by rw[ie]) hpf hfeq hfcan);(have hXSm:x∈Av (Im (Ak r) s) (Ak r) s (Ce r) Bs:=by rw[Aa HXS];exact hxm);(obtain⟨YP,hYP⟩:∃YP:mc zA->Bool->Prop,YP=λy B=>Z y=26/\(B=true->y∈Av (Im (Ak r) s) (Ak r) s (CY r) x):=⟨_,rfl⟩);(have HYl:lO (∀y B,YP y B->Z y=26):=λy B h=>by rw[hYP]at h;exact h.1);(have HNx:lO (∀y WB wz,Ac [] w wz->YP y true->AH wz WB (Aj (Be y)) 243->Calls prog 198 #[kt (V ⟨WB,0,Y⟩),U adb (Z zD) cpb] wz λr' w'=>∃(ad:Option Addr) (n cp:Nat) (ps:mc EN),r'=lo (U ad n cp)/\(Iw w' (U ad n cp) ps/\n=Z ps/\∀q,(U ad n cp).ownBlock=V q->wz.heap.size<=q)/\fS r s (BN (AB x r.head)) (ps.map EN.f)/\Ac [] wz w'):=λy WB wz hk hy hB=>HNe x y WB wz hk hXSm (by rw[hYP]at hy;exact hy.2 rfl) (HYl y true hy) hB);(have HC9:lO (∀wz,Ac [] W' wz->Calls prog 197 #[kt (V ⟨sp,0,Y⟩),X J OH,X J (Z (Ce r++CY r)),lR (j3 (Aj (Be x)))] wz λr' w'=>∃(y:mc zA) (B:Bool),r'=lo (.tuple #[lR (j3 (Aj (Be y))),lT B])/\YP y B/\B= !(Av (Im (Ak r) s) (Ak r) s (CY r) x).isEmpty/\Ac [] wz w'):=λwz hk=>(Zr sp (Ak r) s (Ce r++CY r) OH (Z (Ce r++CY r)) (CY r) x wz (HS3.kept (hi.kept.trans hk)) heo (by rw[<-Aa HOH,ib];omega) (ig _) (by rw[j6,<-Aa HOH,List.drop_left])).mono λr' w' ⟨y,B,h1,h2,h3,h4,h5⟩=>⟨y,B,h1,by rw[hYP];exact⟨h2,h4⟩,h3,h5⟩);clear hYP hXSm;have HI0:=Ab hi;have HFe:=Ab hfeq;have HLx:=Ab (Hb heo);have HBl:=Ab hblk;have H1:=Ab i1;have H2:=Ab i2;have H3:=Ab i3;have H4:=Ab i4;have H5:=Ab i5;clear hi hxs hM hblk heo hfeq hfcan i1 i2 i3 i4 i5 hxm;obtain⟨EX,hEX⟩:∃EX,Aj (Be x)=EX:=⟨_,rfl⟩;have HEX:=Ab hEX;rw[hEX]at HC9 HBl;simp only[hEX];(have HXe:lO (Z EX=26):=by show _=_;rw[<-hEX];unfold Aj;rw[ie];exact HLx);clear hEX;obtain⟨HF,hHF⟩:∃HF,D9 s (AB x r.head)=HF:=⟨_,rfl⟩;rw[hHF]at HSo HC8;clear hHF;obtain⟨RE,hRE⟩:∃RE,(Av (Im (Ak r) s) (Ak r) s (CY r) x).isEmpty=RE:=⟨_,rfl⟩;rw[hRE]at HSo HC9;clear hRE;obtain⟨FA,hFA⟩:∃FA,AB x r.head=FA:=⟨_,rfl⟩;rw[hFA]at HSo HFe HNx;clear hFA;obtain⟨VL,hVL⟩:∃VL,Z (Ce r++CY r)=VL:=⟨_,rfl⟩;have HVL2:=Ab hVL;rw[hVL]at HC9 HVl;clear hVL;simp only[gI,gJ,gK];have x0:=HBW.2.2.1.cell 0;have x1:=HBW.2.2.1.cell 1;have x2:=HBW.2.2.1.cell 2;simp at x0 x1 x2;refine wpIn_block ?_;refine jd (λK7 hK7=>?_);have HK7:=Ab hK7;clear hK7;refine AG (by rfl) (by rintro ⟨_,_,h⟩;exact h) ?_;(go_wp2_with fail);refine HC7.mono ?_;rintro _ v7 ⟨g7,rfl,hpf7,k7⟩;have HK7a:=Ab (k7.alloc (j2 [O hn,U (V ⟨g7,0,Y⟩) (Z zE) (Z zE)].toArray 104));have HBh:=Ab (mf v7 [O hn,U (V ⟨g7,0,Y⟩) (Z zE) (Z zE)] 104);have HPf:lO (DS (v7.alloc (j2 [O hn,U (V ⟨g7,0,Y⟩) (Z zE) (Z zE)].toArray 104)) ⟨⟨hn,zE.map (Bz (Be x))⟩,U (V ⟨g7,0,Y⟩) (Z zE) (Z zE)⟩):=hpf7.kept ((me [] v7).alloc _);clear HC7 hpf7 k7 x0 x1 x2;obtain⟨TS,hTS⟩:∃TS,zE.map (Bz (Be x))=TS:=⟨_,rfl⟩;(have HTl:lO (Z TS=Z zE):=by show _=_;rw[<-hTS,ie]);rw[hTS]at HPf HC8 HFe;clear hTS;go_wp2;refine HK7 _ _ ?_;clear HK7 K7;change Code.wpIn _ _ _ _ _ _ (v7.alloc (j2 [O hn,U (V ⟨g7,0,Y⟩) (Z zE) (Z zE)].toArray 104));generalize v7.alloc (j2 [O hn,U (V ⟨g7,0,Y⟩) (Z zE) (Z zE)].toArray 104)=v8 at HK7a HBh HPf⊢;generalize v7.heap.size=HB at HBh⊢;have HS8:lO (∀wz,Ac [] v8 wz->Ac [] v8 wz/\lP wz ⟨N,0,Y⟩=V (kt (V ⟨cb,0,Y⟩))/\lP wz ⟨HB,0,Y⟩=V (O hn)/\lP wz ⟨HB,1,Y⟩=V (U (V ⟨g7,0,Y⟩) (Z zE) (Z zE))):=by
    intro wz hkz;have h0:=(HBW.1.kept (HK7a.trans hkz) (by simp)).cell 0;have h1:=(HBh.kept hkz (by simp)).cell 0;have h2:=(HBh.kept hkz (by simp)).cell 1;simp at h0 h1 h2;exact⟨hkz,h0,h1,h2⟩
   have HHS:=Ab (HS8 v8.drew (me [] v8).drew);refine jd (λK8 hK8=>?_);have HK8:=Ab hK8;clear hK8;refine jd (λK1 hK1=>?_);have HKk1:=Ab hK1;clear hK1;refine Ee 5 (λwz=>Ac [] v8 wz/\lP wz ⟨N,0,Y⟩=V (kt (V ⟨cb,0,Y⟩))/\lP wz ⟨HB,0,Y⟩=V (O hn)/\lP wz ⟨HB,1,Y⟩=V (U (V ⟨g7,0,Y⟩) (Z zE) (Z zE))) (by kernel_rfl) (by rfl) (by rintro ⟨_,_,h⟩;exact h) ?_;refine Cx.tkH (i:=0) (v:=kt (V ⟨cb,0,Y⟩)) rfl (by kernel_rfl) (λ_ _ _ h=>h) HHS (by rfl) ?_ ?_
   ·(rintro wz ⟨z0,z1,z2,z3⟩;go_simp)
   simp only[lY,gI,gJ,gK];refine Cx.tkH (i:=1) (v:=kt (V ⟨cb,0,Y⟩)) rfl (by kernel_rfl) (λ_ _ _ h=>h) HHS (by rfl) ?_ ?_
   ·(rintro wz ⟨z0,z1,z2,z3⟩;go_simp)
   simp only[lY,gI,gJ,gK];refine Cx.tkH (i:=2) (v:=kt (V ⟨cb,1,Y⟩)) rfl (by kernel_rfl) (λ_ _ _ h=>h) HHS (by rfl) ?_ ?_
   ·(rintro wz ⟨z0,z1,z2,z3⟩;go_simp)
   simp only[lY,gI,gJ,gK];refine Cx.tkH (i:=3) (v:=lR #[O hn,U (V ⟨g7,0,Y⟩) (Z zE) (Z zE)]) rfl (by kernel_rfl) (λ_ _ _ h=>h) HHS (by rfl) ?_ ?_
   ·(rintro wz ⟨z0,z1,z2,z3⟩;go_simp)
   simp only[lY,gI,gJ,gK];refine Cx.one (i:=4) (by kernel_rfl) rfl (λK hK=>?_)
   go_simp
   refine(HC8 g7 _ (HKw'.trans (HK7a.trans (me [] v8).drew)) (HPf.kept (me [] v8).drew)).mono ?_;rintro _ v9 ⟨rfl,k9⟩;have HK9:lO (Ac [] v8 v9):=(me [] v8).drew.trans k9;refine hK.out _ _ (λ_=>HS8 _ HK9) ?_;clear hK K k9;refine Cx.done (by kernel_rfl) ?_ _
   try simp only[lY,gI,gJ,gK]
   refine HKk1 _ _ ?_;clear HKk1 K1 HHS HC8;have HKW9:lO (Ac [] W' v9):=HK7a.trans HK9;have HGo:lO (∀(a:Act) (wz:l9),Ac [] W' wz->(!HF&& !RE)=false->LI (fL w3 k (Im (Ak r) s) r s) (λ_ _ _ _=>False) (pre++[x]) M W' .normal a wz):=by
    intro a wz hkz hb;have hi2:=BB (fL.own (ig w3.heap.size)) (s:=(pre,M)) HI0 hkz;obtain⟨sts',ad',cp',g1,g2,g3,g4,g5⟩:=hi2.out;refine⟨hkz.mono (by simp),M,⟨hi2.kept,sts',ad',cp',g1,g2,g3,?_,g5⟩,λq hq=>⟨lx hq,?_⟩⟩
    .rw[g4,Aa HSo,hb,gV (by simp),iJ]
    .have hsz:=hkz.size;rw[Aa H5]at hq;rcases gP.1 hq with rfl|hq
     .have:=H1.lt;omega
     .have:=(H2.lt q (by simpa using hq)).2;omega
   cases HF with
   |true=>
    refine ku rfl (wpIn_exit ?_);exact HGo ⟨#[],[]⟩ _ HKW9 (by simp)
   |false=>
    refine ki rfl (wpIn_skip ?_);refine HK8 _ _ ?_;clear HK8 K8;have HSs:lO (∃kb ko bv og oc,AH W' sp [kt (V ⟨kb,ko,Y⟩),bv,U og VL oc] 237):=by
     obtain⟨kb,ko,bad,bcp,lvs',oad',ocp',sad',scp',fs',h1,_⟩:=(HS3.kept HI0.kept).at_;have hb:=h1.zO;rw[F6,Aa HVL2]at hb;exact⟨kb,ko,_,oad',ocp',hb⟩
    obtain⟨kb,ko,bv,og,oc,hsb⟩:=Aa HSs;have HSb:=Ab hsb;clear hsb HSs;have HS9:lO (∀wz,Ac [] v9 wz->wz.rangeAt Bx 0 EX/\Ac [] v9 wz/\lP wz ⟨tb,0,Y⟩=V (kt (V ⟨sp,0,Y⟩))/\lP wz ⟨ob,0,Y⟩=V (X J OH)/\lP wz ⟨sp,2,Y⟩=V (U og VL oc)):=by
     intro wz hkz;have hk:=HKW9.trans hkz;have h0:=(HBW.2.2.2.1.kept hk (by simp)).cell 0;have h1:=(HBW.2.2.2.2.kept hk (by simp)).cell 0;have h2:=(HSb.kept hk (by simp)).cell 2;simp at h0 h1 h2;exact⟨(HBl.kept hk (by simp)).range,hkz,h0,h1,h2⟩
    refine jd (λK9 hK9=>?_);have HK9k:=Ab hK9;clear hK9;have HE9:lO (∀(y13 y14 y15 y16 y17 y18 y19 y20 y21 y22 y23 y24 y25 y26 y27 y28 y29 y30 y31 y32 y33 y34 y35 y36 y37 y38 y39 y40 y41 y42 y43 y44 y45 y46 y47 y48 y49 y50 y51 y52 y53 y54 y55 y56 y57 y58 y59 y60 y61 y62 y63 y64 y65 y66 y67 y68 y69 y70:lN) (WB:Nat) (B:Bool) (y:mc zA) (wz:l9),Ac [] v9 wz->YP y B->AH wz WB (Aj (Be y)) 243->B= !RE->K9 ⟨#[kt (V ⟨cb,0,Y⟩),X J k,kt (V ⟨N,0,Y⟩),kt (V ⟨N+1,0,Y⟩),U Y 0 0,kt (V ⟨N+2,0,Y⟩),kt (V ⟨tb,0,Y⟩),kt (V ⟨ob,0,Y⟩),kt (V ⟨SB,0,Y⟩),kt (V ⟨Bx,0,Y⟩),kt (V ⟨HB,0,Y⟩),kt (V ⟨WB,0,Y⟩),lT B,y13,y14,y15,y16,y17,y18,y19,y20,y21,y22,y23,y24,y25,y26,y27,y28,y29,y30,y31,y32,y33,y34,y35,y36,y37,y38,y39,y40,y41,y42,y43,y44,y45,y46,y47,y48,y49,y50,y51,y52,y53,y54,y55,y56,y57,y58,y59,y60,y61,y62,y63,y64,y65,y66,y67,y68,y69,y70],[]⟩ wz):=by
     intro y13 y14 y15 y16 y17 y18 y19 y20 y21 y22 y23 y24 y25 y26 y27 y28 y29 y30 y31 y32 y33 y34 y35 y36 y37 y38 y39 y40 y41 y42 y43 y44 y45 y46 y47 y48 y49 y50 y51 y52 y53 y54 y55 y56 y57 y58 y59 y60 y61 y62 y63 y64 y65 y66 y67 y68 y69 y70 WB B y wz hkz hyl hWB hB;refine HK9k _ _ ?_;clear HK9k K9;have HKz:=Ab hkz;have HyL:=Ab hyl;have HWB:=Ab hWB;have HKWz:lO (Ac [] W' wz):=HKW9.trans hkz;clear hkz hyl hWB;refine jd (λK1 hK1=>?_);have HKk1:=Ab hK1;clear hK1;refine AG (by rfl) (by rintro ⟨_,_,h⟩;exact h) ?_;go_wp2;refine HKk1 _ _ ?_;clear HKk1 K1;cases RE with
     |true=>
      subst hB;refine ki rfl (wpIn_skip ?_);exact HGo ⟨#[],[]⟩ _ HKWz (by simp)
     |false=>
      subst hB;refine ku rfl ?_;have HC11:=Ab (λwy (hk:Ac [] wz wy)=>HNx y WB wy (HKw'.trans (HKWz.trans hk)) HyL (HWB.kept hk (by simp)));obtain⟨SL,hSL⟩:∃SL,Z sts=SL:=⟨_,rfl⟩;have HSL:=Ab hSL;have HBs:lO (∀wy,Ac [] wz wy->AH wy SB [U ad SL cp] 137/\AH wy HB [O hn,U (V ⟨g7,0,Y⟩) (Z zE) (Z zE)] 104/\AH wy (N+1) [X J k] 3/\AH wy (N+2) [X J hp,O hn,U adh (Z zE) cph,U adb (Z zD) cpb] 189):=by
       intro wy hk;have hkW:=HKWz.trans hk;have h0:=H1.kept hkW (by simp);rw[hSL]at h0;exact⟨h0,HBh.kept ((HK9.trans HKz).trans hk) (by simp),HBW.2.1.kept hkW (by simp),HBW.2.2.1.kept hkW (by simp)⟩
      have EU:lO (∀wy,AH wy SB [U ad SL cp] 137/\AH wy HB [O hn,U (V ⟨g7,0,Y⟩) (Z zE) (Z zE)] 104/\AH wy (N+1) [X J k] 3/\AH wy (N+2) [X J hp,O hn,U adh (Z zE) cph,U adb (Z zD) cpb] 189->lP wy ⟨SB,0,Y⟩=V (U ad SL cp)/\lP wy ⟨HB,0,Y⟩=V (O hn)/\lP wy ⟨HB,1,Y⟩=V (U (V ⟨g7,0,Y⟩) (Z zE) (Z zE))/\lP wy ⟨N+1,0,Y⟩=V (X J k)/\lP wy ⟨N+2,3,Y⟩=V (U adb (Z zD) cpb)):=by
       rintro wy ⟨b0,b1,b2,b3⟩;have h0:=b0.cell 0;have h1:=b1.cell 0;have h2:=b1.cell 1;have h3:=b2.cell 0;have h4:=b3.cell 3;simp at h0 h1 h2 h3 h4;exact⟨h0,h1,h2,h3,h4⟩
      clear hSL;have HHS:=Ab (EU wz.drew (HBs _ (me [] wz).drew));refine Ee 9 (λwy=>lP wy ⟨SB,0,Y⟩=V (U ad SL cp)/\lP wy ⟨HB,0,Y⟩=V (O hn)/\lP wy ⟨HB,1,Y⟩=V (U (V ⟨g7,0,Y⟩) (Z zE) (Z zE))/\lP wy ⟨N+1,0,Y⟩=V (X J k)/\lP wy ⟨N+2,3,Y⟩=V (U adb (Z zD) cpb)) (by kernel_rfl) (by rfl) (by rintro ⟨_,_,h⟩;exact h) ?_;refine Cx.tk (i:=0) (v:=U ad SL cp) rfl (by kernel_rfl) (λ_ _ _ h=>h) HHS (by rfl) ?_ ?_
      ·(rintro wz ⟨z0,z1,z2,z3,z4⟩;go_simp)
      simp only[lY,gI,gJ,gK];refine Cx.tk (i:=1) (v:=lR #[O hn,U (V ⟨g7,0,Y⟩) (Z zE) (Z zE)]) rfl (by kernel_rfl) (λ_ _ _ h=>h) HHS (by rfl) ?_ ?_
      ·(rintro wz ⟨z0,z1,z2,z3,z4⟩;go_simp)
      simp only[lY,gI,gJ,gK];refine Cx.tk (i:=2) (v:=X J k) rfl (by kernel_rfl) (λ_ _ _ h=>h) HHS (by rfl) ?_ ?_
      ·(rintro wz ⟨z0,z1,z2,z3,z4⟩;go_simp)
      simp only[lY,gI,gJ,gK];refine Cx.tk (i:=3) (v:=kt (V ⟨N+2,3,Y⟩)) rfl (by kernel_rfl) (λ_ _ _ h=>h) HHS (by rfl) ?_ ?_
      ·(rintro wz ⟨z0,z1,z2,z3,z4⟩;go_simp)
      simp only[lY,gI,gJ,gK];refine Cx.tk (i:=4) (v:=U adb (Z zD) cpb) rfl (by kernel_rfl) (λ_ _ _ h=>h) HHS (by rfl) ?_ ?_
      ·(rintro wz ⟨z0,z1,z2,z3,z4⟩;go_simp)
      simp only[lY,gI,gJ,gK];refine Cx.one (i:=5) (by kernel_rfl) rfl (λK hK=>?_)
      go_simp
      refine(HC11 _ (me [] wz).drew).mono ?_;rintro _ u1 ⟨nad,nn,ncp,nps,rfl,hnps,hnst,k1'⟩;have HNps:=Ab hnps;have HNst:=Ab hnst;clear hnps hnst;have k1:Ac [] wz u1:=(me [] wz).drew.trans k1';refine hK.out _ _ (λ_=>EU _ (HBs _ k1)) ?_;clear hK K
      try simp only[lY,gI,gJ,gK]
      have HHS1:=Ab (EU _ (HBs _ k1));refine Cx.tk (i:=6) (v:=lR #[O hn,U (V ⟨g7,0,Y⟩) (Z zE) (Z zE),X J k,U nad nn ncp]) rfl (by kernel_rfl) (λ_ _ _ h=>h) HHS1 (by rfl) ?_ ?_
      ·(rintro wz ⟨z0,z1,z2,z3,z4⟩;go_simp)
      simp only[lY,gI,gJ,gK];refine Cx.one (i:=7) (by kernel_rfl) rfl (λK hK=>?_)
      go_simp
      have k2:=k1.alloc (j2 #[O hn,U (V ⟨g7,0,Y⟩) (Z zE) (Z zE),X J k,U nad nn ncp] 176);refine hK.out _ _ (λ_=>EU _ (HBs _ k2)) ?_;clear hK K
      try simp only[lY,gI,gJ,gK]
      have hkW1:Ac [] W' u1:=HKWz.trans k1;have hrow1:lQ u1 SB 176 4 (U ad SL cp) SL (sts.flatMap (JV k)):=by
       have h:=Ad H2 hkW1 (by simp);rw[Aa HSL]at h;exact h
      (have hSBu:SB+1<=u1.heap.size:=by have h1:=H1.lt;have h2:=hkW1.size;omega);(have hSL1:SL<=100000:=by have:=Aa HLs;have:=Aa HSL;omega);refine Cx.one (i:=8) (by kernel_rfl) rfl (λK hK=>?_);refine lc _ (by rfl) _ _ _ (by rfl) SB 176 i0 _ 4 72 underlying137 hi0 hz0 hz1 hz2 rfl (by omega) (U ad SL cp) SL (sts.flatMap (JV k)) (by rfl) (gU hrow1 _)
       ⟨u1.heap.size,0,Y⟩ 1 1 [O hn,U (V ⟨g7,0,Y⟩) (Z zE) (Z zE),X J k,U nad nn ncp] (by rfl) (by rfl) (iu (cs:=#[O hn,U (V ⟨g7,0,Y⟩) (Z zE) (Z zE),X J k,U nad nn ncp]) (t:=176) (fr:=(0,0)) (iD u1 _)) (by simp[Value.oneCell'])
       (by omega) (by unfold maxLen;omega) (by omega) (by simp;omega) (u1.heap.size+1) (by simp) ?_
      intro gg cap u3 hown3 hgrow hat3 hlt3;(have hap:∀{b:Nat} {cs:mc lN} {t:TypeId},AH u1 b cs t->176≠t->(U ad SL cp).ownBlock≠V b:=λhb hne=>Ar hrow1 hb hne);have hb1:=Aa HBs u1 k1;have hb3:AH u3 SB [U ad SL cp] 137/\AH u3 HB [O hn,U (V ⟨g7,0,Y⟩) (Z zE) (Z zE)] 104/\AH u3 (N+1) [X J k] 3/\AH u3 (N+2) [X J hp,O hn,U adh (Z zE) cph,U adb (Z zD) cpb] 189:=⟨(hb1.1.alloc _).grown hgrow (hap hb1.1 (by decide)),(hb1.2.1.alloc _).grown hgrow (hap hb1.2.1 (by decide)),(hb1.2.2.1.alloc _).grown hgrow (hap hb1.2.2.1 (by decide)),(hb1.2.2.2.alloc _).grown hgrow (hap hb1.2.2.2 (by decide))⟩;have hSB3:=hb3.1;have kM:Ac (SB::(U ad SL cp).ownBlock.toList) W' u3:=((hkW1.mono (by simp)).alloc (j2 #[O hn,U (V ⟨g7,0,Y⟩) (Z zE) (Z zE),X J k,U nad nn ncp] 176)).grown hgrow (λq hq=>lx (iB _ (by simpa using hq)));refine hK.out _ _ (λ_=>EU _ hb3) ?_;clear hK K
      try simp only[lY,gI,gJ,gK]
      have c8:=hSB3.cell 0;have f8:=hSB3.frozen 0;simp at c8;refine Cx.one (i:=9) (by kernel_rfl) rfl (λK hK=>?_)
      go_simp
      refine hK.out _ _ (λh=>absurd rfl h) ?_;clear hK K;refine Cx.done (by kernel_rfl) ?_ _;have hM5:=Aa H5;rw[Aa HSL]at hM5;have kM4:Ac M W' (u3.setCell ⟨SB,0,Y⟩ (U (V ⟨gg,0,Y⟩) (SL+1) cap)):=by
       rw[hM5];exact kM.setCell (p:=⟨SB,0,Y⟩) (lx (iV ..)) _
      have hMge:∀q∈M,SB<=q:=by
       intro q hq;rw[hM5]at hq;rcases gP.1 hq with rfl|hq
       .exact ig _
       .exact(hrow1.lt q (by simpa using hq)).1
      have hst13:∀{b e sz n:Nat} {v:lN} {ys:mc lN},lQ u1 b e sz v n ys->e≠176->e≠137->lQ (u3.setCell ⟨SB,0,Y⟩ (U (V ⟨gg,0,Y⟩) (SL+1) cap)) b e sz v n ys:=fun{b e sz n v ys} hr h1 h2=>by
       have hr3:=je (v:=v) (gU (v:=v) hr _) hgrow (by
        cases hpo:v.ownBlock with
        |none=>exact lx rfl
        |some q=>exact ly (λe=>A7 hr hrow1 h1 q hpo e.symm))
       exact Ag hr3 (Ar hr3 hSB3 h2) _
      have hPn:DS u1 ⟨⟨hn,TS⟩,U (V ⟨g7,0,Y⟩) (Z zE) (Z zE)⟩:=HPf.kept ((HK9.trans HKz).trans k1);refine⟨kM4,SB::[gg],⟨HI0.kept.trans' kM4 (λq hq=>ly (by have:=hMge q hq;have:=Aa HSB;omega)),sts++[⟨⟨⟨hn,TS⟩,U (V ⟨g7,0,Y⟩) (Z zE) (Z zE)⟩,U nad nn ncp,nps⟩],V ⟨gg,0,Y⟩,cap,?_,?_,?_,?_,?_⟩,?_⟩
      .rw[Aa HSB,ib,Aa HSL];exact hSB3.set 0 _
      .rw[Aa HSB,ib,Aa HSL,ix];have h:=Ag hown3 (Ar hown3 hSB3 (by decide)) (p:=⟨SB,0,Y⟩) (U (V ⟨gg,0,Y⟩) (SL+1) cap);exact h
      .intro st hst;rcases ic.1 hst with h|h
       .exact⟨((H3 st h).1.kept hkW1).map (λp hp=>hst13 (v:=p.tv) hp (by decide) (by decide)) (λhr=>hst13 hr (by decide) (by decide)),(H3 st h).2⟩
       .simp only[gN]at h;subst h;obtain⟨q1,q2,q3⟩:=HNps;refine⟨⟨hst13 hPn (by decide) (by decide),by show Z TS<=1000;have:=Aa HTl;omega,⟨hst13 q1.row (by decide) (by decide),λp hp=>⟨hst13 (v:=p.tv) (q1.each p hp).1 (by decide) (by decide),(q1.each p hp).2⟩⟩,nad,ncp,by show U nad nn ncp=_;rw[q2]⟩,λq hq=>?_,?_⟩
        .have h1:wz.heap.size<=q:=q3 q hq;have h2:=HI0.kept.size;have h3:=HKWz.size;omega
        .show fS r s (⟨hn,TS⟩:CG) _;rw[Aa HFe];exact HNst
      .rw[iG,Aa H4,Aa HSo,gY (by rfl),iG];simp only[ii,jM];rw[Aa HFe]
      .rw[Aa HSB,ib];rfl
      .intro q hq;have h3:=hSB3.lt;rcases gP.1 hq with rfl|hq
       .exact⟨lx (by rw[hM5];exact iV ..),by simp;omega⟩
       .simp only[gN]at hq;subst hq;have h4:=(hown3.lt q rfl).2;refine⟨?_,by simp;omega⟩;rcases hat3 with h|h
        .exact lx (by rw[hM5];exact iB _ (by rw[h];simp))
        .exact ly (by have:=hkW1.size;omega)
    clear HK9k;have HHS:=Ab (HS9 v9.drew (me [] v9).drew);refine Ee 15 (λwz=>wz.rangeAt Bx 0 EX/\Ac [] v9 wz/\lP wz ⟨tb,0,Y⟩=V (kt (V ⟨sp,0,Y⟩))/\lP wz ⟨ob,0,Y⟩=V (X J OH)/\lP wz ⟨sp,2,Y⟩=V (U og VL oc)) (by kernel_rfl) (by rfl) (by rintro ⟨_,_,h⟩;exact h) ?_;refine Cx.tkH (i:=0) (v:=kt (V ⟨sp,0,Y⟩)) rfl (by kernel_rfl) (λ_ _ _ h=>h) HHS (by rfl) ?_ ?_
    ·(rintro wz ⟨z0,z1,z2,z3,z4⟩;go_simp)
    simp only[lY,gI,gJ,gK];refine Cx.tkH (i:=1) (v:=X J OH) rfl (by kernel_rfl) (λ_ _ _ h=>h) HHS (by rfl) ?_ ?_
    ·(rintro wz ⟨z0,z1,z2,z3,z4⟩;go_simp)
    simp only[lY,gI,gJ,gK];refine Cx.tkH (i:=2) (v:=kt (V ⟨sp,0,Y⟩)) rfl (by kernel_rfl) (λ_ _ _ h=>h) HHS (by rfl) ?_ ?_
    ·(rintro wz ⟨z0,z1,z2,z3,z4⟩;go_simp)
    simp only[lY,gI,gJ,gK];refine Cx.tkH (i:=3) (v:=kt (V ⟨sp,0,Y⟩)) rfl (by kernel_rfl) (λ_ _ _ h=>h) HHS (by rfl) ?_ ?_
    ·(rintro wz ⟨z0,z1,z2,z3,z4⟩;go_simp)
    simp only[lY,gI,gJ,gK];refine Cx.tkH (i:=4) (v:=kt (V ⟨sp,2,Y⟩)) rfl (by kernel_rfl) (λ_ _ _ h=>h) HHS (by rfl) ?_ ?_
    ·(rintro wz ⟨z0,z1,z2,z3,z4⟩;go_simp)
    simp only[lY,gI,gJ,gK];refine Cx.tkH (i:=5) (v:=U og VL oc) rfl (by kernel_rfl) (λ_ _ _ h=>h) HHS (by rfl) ?_ ?_
    ·(rintro wz ⟨z0,z1,z2,z3,z4⟩;go_simp)
    simp only[lY,gI,gJ,gK];refine Cx.tkH (i:=6) (v:=X J VL) rfl (by kernel_rfl) (λ_ _ _ h=>h) HHS (by rfl) ?_ ?_
    ·(rintro wz ⟨z0,z1,z2,z3,z4⟩;go_simp)
    simp only[lY,gI,gJ,gK];refine Cx.yG (i:=7) (v:=lR (j3 EX)) rfl (by kernel_rfl) (by kernel_rfl) (by kernel_rfl) (by decide) (λ_ _ _ h=>h) HHS (yieldsIf_load_mid (by rfl) 243 _ rfl Bx 0 (by rfl) EX _ (λwz hz=>hz.1) underlying243 rfl (by rw[Aa HXe];exact Tryz.zH)) ?_;simp only[lY,gI,gJ,gK];have hka:Ac [] v9 v9.drew:=(me [] v9).drew;generalize v9.drew=x0 at hka HHS⊢;refine Cx.two (i:=8) (j:=12) (by kernel_rfl) rfl rfl (λK hK=>?_) (λK hK=>?_)
    .go_simp
     refine(HC9 _ (HKW9.trans hka)).mono ?_;rintro _ x2 ⟨y,B,rfl,hyl,hB,k8'⟩;have HBb:=Ab hB;clear hB;have k8:Ac [] v9 x2:=hka.trans k8';refine hK.out _ _ (λ_=>HS9 _ k8) ?_;clear hK K
     try simp only[lY,gI,gJ,gK]
     obtain⟨hyE,hyo⟩:=Ex y (HYl y B hyl);obtain⟨EY,hEY⟩:∃EY,Aj (Be y)=EY:=⟨_,rfl⟩;have HEY:=Ab hEY;rw[hEY]at hyE hyo⊢;clear hEY;have HHS8:=Ab (HS9 _ k8);refine Cx.tkH (i:=9) (v:=.tuple #[lR (j3 EY),lT B]) rfl (by kernel_rfl) (λ_ _ _ h=>h) HHS8 (by rfl) ?_ ?_
     ·(rintro wz ⟨z0,z1,z2,z3,z4⟩;go_simp)
     simp only[lY,gI,gJ,gK];refine Cx.tkH (i:=10) (v:=lR (j3 EY)) rfl (by kernel_rfl) (λ_ _ _ h=>h) HHS8 (by rfl) ?_ ?_
     ·(rintro wz ⟨z0,z1,z2,z3,z4⟩;go_simp)
     simp only[lY,gI,gJ,gK];refine Cx.tkH (i:=11) (v:=lT B) rfl (by kernel_rfl) (λ_ _ _ h=>h) HHS8 (by rfl) ?_ ?_
     ·(rintro wz ⟨z0,z1,z2,z3,z4⟩;go_simp)
     simp only[lY,gI,gJ,gK];refine Cx.one (i:=12) (by kernel_rfl) rfl (λK hK=>?_)
     go_simp
     have k12:=k8.alloc (j2 (j3 (lV 26 (O ⟨#[]⟩))) 243);refine hK.out _ _ (λ_=>HS9 _ k12) ?_;clear hK K
     try simp only[lY,gI,gJ,gK]
     have hWB:=mf x2 (lV 26 (O ⟨#[]⟩)) 243;have hge:v9.heap.size<=x2.heap.size:=k8.size;change Cx _ _ _ _ _ _ _ _ _ (x2.alloc (j2 (j3 (lV 26 (O ⟨#[]⟩))) 243));generalize x2.heap.size=WB at hWB hge⊢;generalize x2.alloc (j2 (j3 (lV 26 (O ⟨#[]⟩))) 243)=x3 at k12 hWB⊢;clear k8;have k8:=k12;(have hya:EY.toArray.size=26:=by simp[hyE]);have hth:x3.there WB 0 EY.toArray.size:=by
      have h:=hWB.there;simp only[jE]at h;rw[hya];exact h
     have k13:=k8.zJ (b:=WB) (ly hge) EY 0;have hW2:=hWB.zU EY (by rw[hyE];simp);refine Cx.one (i:=13) (by kernel_rfl) rfl (λK hK=>?_);rw[gY (by rfl)];refine wp_store_mid 243 _ _ rfl WB 0 (j3 EY) (by rfl) (by rfl) hth (by rw[hya];exact Tryz.zH) (jk hyo) ?_;simp only[kO];refine hK.out _ _ (λ_=>HS9 _ k13) ?_;clear hK K;generalize x3.setCells WB 0 EY=x4 at k13 hW2⊢
     try simp only[lY,gI,gJ,gK]
     refine Cx.one (i:=14) (by kernel_rfl) rfl (λK hK=>?_)
     go_simp
     refine hK.out _ _ (λ_=>HS9 _ k13) ?_;clear hK K;refine Cx.done (by kernel_rfl) ?_ _
     try simp only[lY,gI,gJ,gK]
     exact HE9 _ _ _ _ _ _ _ _ _ _ _ _ _ _ _ _ _ _ _ _ _ _ _ _ _ _ _ _ _ _ _ _ _ _ _ _ _ _ _ _ _ _ _ _ _ _ _ _ _ _ _ _ _ _ _ _ _ _ WB B y _ k13 hyl (by rw[Aa HEY];exact hW2) HBb
    .go_simp
     have k12:=hka.alloc (j2 (j3 (lV 26 (O ⟨#[]⟩))) 243);refine hK.out _ _ (λ_=>HS9 _ k12) ?_;clear hK K
     try simp only[lY,gI,gJ,gK]
     have hWB:=mf x0 (lV 26 (O ⟨#[]⟩)) 243;have hge:v9.heap.size<=x0.heap.size:=hka.size;change Cx _ _ _ _ _ _ _ _ _ (x0.alloc (j2 (j3 (lV 26 (O ⟨#[]⟩))) 243));generalize x0.heap.size=WB at hWB hge⊢;generalize x0.alloc (j2 (j3 (lV 26 (O ⟨#[]⟩))) 243)=x1 at k12 hWB⊢;refine Cx.one (i:=8) (by kernel_rfl) rfl (λK hK=>?_)
     go_simp
     refine(HC9 _ (HKW9.trans k12)).mono ?_;rintro _ x2 ⟨y,B,rfl,hyl,hB,k8'⟩;have HBb:=Ab hB;clear hB;have k8:Ac [] v9 x2:=k12.trans k8';have hWB:=hWB.kept k8' (by simp);refine hK.out _ _ (λ_=>HS9 _ k8) ?_;clear hK K
     try simp only[lY,gI,gJ,gK]
     obtain⟨hyE,hyo⟩:=Ex y (HYl y B hyl);obtain⟨EY,hEY⟩:∃EY,Aj (Be y)=EY:=⟨_,rfl⟩;have HEY:=Ab hEY;rw[hEY]at hyE hyo⊢;clear hEY;have HHS8:=Ab (HS9 _ k8);refine Cx.tkH (i:=9) (v:=.tuple #[lR (j3 EY),lT B]) rfl (by kernel_rfl) (λ_ _ _ h=>h) HHS8 (by rfl) ?_ ?_
     ·(rintro wz ⟨z0,z1,z2,z3,z4⟩;go_simp)
     simp only[lY,gI,gJ,gK];refine Cx.tkH (i:=10) (v:=lR (j3 EY)) rfl (by kernel_rfl) (λ_ _ _ h=>h) HHS8 (by rfl) ?_ ?_
     ·(rintro wz ⟨z0,z1,z2,z3,z4⟩;go_simp)
     simp only[lY,gI,gJ,gK];refine Cx.tkH (i:=11) (v:=lT B) rfl (by kernel_rfl) (λ_ _ _ h=>h) HHS8 (by rfl) ?_ ?_
     ·(rintro wz ⟨z0,z1,z2,z3,z4⟩;go_simp)
     simp only[lY,gI,gJ,gK];(have hya:EY.toArray.size=26:=by simp[hyE]);have hth:x2.there WB 0 EY.toArray.size:=by
      have h:=hWB.there;simp only[jE]at h;rw[hya];exact h
     have k13:=k8.zJ (b:=WB) (ly hge) EY 0;have hW2:=hWB.zU EY (by rw[hyE];simp);refine Cx.one (i:=13) (by kernel_rfl) rfl (λK hK=>?_);rw[gY (by rfl)];refine wp_store_mid 243 _ _ rfl WB 0 (j3 EY) (by rfl) (by rfl) hth (by rw[hya];exact Tryz.zH) (jk hyo) ?_;simp only[kO];refine hK.out _ _ (λ_=>HS9 _ k13) ?_;clear hK K;generalize x2.setCells WB 0 EY=x4 at k13 hW2⊢
     try simp only[lY,gI,gJ,gK]
     refine Cx.one (i:=14) (by kernel_rfl) rfl (λK hK=>?_)
     go_simp
     refine hK.out _ _ (λ_=>HS9 _ k13) ?_;clear hK K;refine Cx.done (by kernel_rfl) ?_ _
     try simp only[lY,gI,gJ,gK]
     exact HE9 _ _ _ _ _ _ _ _ _ _ _ _ _ _ _ _ _ _ _ _ _ _ _ _ _ _ _ _ _ _ _ _ _ _ _ _ _ _ _ _ _ _ _ _ _ _ _ _ _ _ _ _ _ _ _ _ _ _ WB B y _ k13 hyl (by rw[Aa HEY];exact hW2) HBb
  case rdone=>
   intro D M' W2 hD hi hd _;obtain⟨sts,ad,cp,i1,i2,i3,i4,i5⟩:=hi.out;rw[Aa HSB]at i1 i2;obtain⟨SL,hSL⟩:∃SL,Z sts=SL:=⟨_,rfl⟩;have c8:=i1.cell 0;simp[hSL]at c8;have HFin:lO (∀tmps:Array lN,tmps.getD 4 undef=U ad SL cp->QQ .ret ⟨tmps,[D8 D]⟩ W2):=by
    intro tmps h4;rw[<-Aa HQQ];have hmk:C6 w.heap.size [D] W2:=⟨by simp,λd hd'=>by simp only[gN]at hd';have:=HK3.size;omega,λd hd'=>by simp only[gN]at hd';rw[hd'];exact hd⟩;refine C5 [D] W2 hmk (λw' hs=>?_);have hown:OwnFrom w.heap.size (fun(_:Unit) W=>lQ W SB 176 4 (U ad (Z sts) cp) (Z sts) (sts.flatMap (JV k))/\(∀st∈sts,Kg W st/\cA w.heap.size r s st)/\Ac [] w W):=BF (λ_ W W' M h kk hM=>⟨Ai h.1 kk (B4 hM h.1),λst hst=>⟨(h.2.1 st hst).1.map (λp hp=>Ai (v:=p.tv) hp kk (B4 (v:=p.tv) hM hp)) (λhr=>Ai hr kk (B4 hM hr)),(h.2.1 st hst).2⟩,DX h.2.2 kk hM (ig _)⟩);obtain⟨g1,g2,g3⟩:=hs.own hown (s:=()) hmk ⟨i2,λst hst=>⟨(i3 st hst).1,λq hq=>by have:=(i3 st hst).2.1 q hq;have:=HK3.size;omega,(i3 st hst).2.2⟩,HK3.trans hi.kept⟩;refine⟨_,results_tmp rfl _ _ _,ad,cp,sts,by rw[h4,hSL],?_,Am g1 (by have:=HK3.size;have:=Aa HSB;omega),g2,g3⟩;rw[i4,<-Aa HXS,RZ]
   clear i1 i2 i3 i4 i5 hSL hi hd zn;refine HKk _ _ ?_;clear HKk;refine ma (λK3 HK3'=>?_);go_wp2;refine HK3' _ _ ?_;clear HK3' K3;refine wp_ret ?_;exact HFin _ rfl
  case rstop=>
   intro D c pre M' W2 _ h _;exact h.elim
 clear HK2k;have HHS:=Ab (HS2 wA.drew (me [] wA).drew);refine Cz 12 (λwz=>Ac [] wA wz/\lP wz ⟨N,0,Y⟩=V (kt (V ⟨cb,0,Y⟩))/\lP wz ⟨N+2,0,Y⟩=V (X J hp)/\lP wz ⟨N+2,1,Y⟩=V (O hn)/\lP wz ⟨N+2,2,Y⟩=V (U adh (Z zE) cph)/\lP wz ⟨N+2,3,Y⟩=V (U adb (Z zD) cpb)) (by kernel_rfl) ?_;refine Cx.tkH (i:=0) (v:=kt (V ⟨cb,0,Y⟩)) rfl (by kernel_rfl) (Bq HQp) HHS (by rfl) ?_ ?_
 ·(rintro wz ⟨z0,z1,z2,z3,z4,z5⟩;go_simp)
 simp only[lY,gI,gJ,gK];refine Cx.tkH (i:=1) (v:=kt (V ⟨cb,0,Y⟩)) rfl (by kernel_rfl) (Bq HQp) HHS (by rfl) ?_ ?_
 ·(rintro wz ⟨z0,z1,z2,z3,z4,z5⟩;go_simp)
 simp only[lY,gI,gJ,gK];refine Cx.tkH (i:=2) (v:=kt (V ⟨cb,1,Y⟩)) rfl (by kernel_rfl) (Bq HQp) HHS (by rfl) ?_ ?_
 ·(rintro wz ⟨z0,z1,z2,z3,z4,z5⟩;go_simp)
 simp only[lY,gI,gJ,gK];refine Cx.tkH (i:=3) (v:=kt (V ⟨N+2,3,Y⟩)) rfl (by kernel_rfl) (Bq HQp) HHS (by rfl) ?_ ?_
 ·(rintro wz ⟨z0,z1,z2,z3,z4,z5⟩;go_simp)
 simp only[lY,gI,gJ,gK];refine Cx.tkH (i:=4) (v:=U adb (Z zD) cpb) rfl (by kernel_rfl) (Bq HQp) HHS (by rfl) ?_ ?_
 ·(rintro wz ⟨z0,z1,z2,z3,z4,z5⟩;go_simp)
 simp only[lY,gI,gJ,gK];refine Cx.tkH (i:=5) (v:=lR #[X J hp,O hn,U adh (Z zE) cph,U adb (Z zD) cpb]) rfl (by kernel_rfl) (Bq HQp) HHS (by rfl) ?_ ?_
 ·(rintro wz ⟨z0,z1,z2,z3,z4,z5⟩;go_simp)
 simp only[lY,gI,gJ,gK];have hka:Ac [] wA wA.drew:=(me [] wA).drew;generalize wA.drew=x0 at hka HHS⊢;refine Cx.two (i:=6) (j:=10) (by kernel_rfl) rfl rfl (λK hK=>?_) (λK hK=>?_)
 .go_simp
  refine(HCT _ (HKw.trans hka)).mono ?_;rintro _ x1 ⟨ad6,cp6,rfl,hrow6,k1'⟩;have k1:Ac [] wA x1:=hka.trans k1';refine hK.out _ _ (λ_=>HS2 _ k1) ?_;clear hK K
  try simp only[lY,gI,gJ,gK]
  refine Cx.two (i:=7) (j:=10) (by kernel_rfl) rfl rfl (λK hK=>?_) (λK hK=>?_)
  .go_simp
   refine(HV1 ad6 cp6 _ hrow6).mono ?_;rintro _ x2 ⟨oad,ocp,rfl,hrow7,k2'⟩;have k2:Ac [] wA x2:=k1.trans k2';refine hK.out _ _ (λ_=>HS2 _ k2) ?_;clear hK K
   try simp only[lY,gI,gJ,gK]
   have HHS2:=Ab (HS2 _ k2);refine Cx.tkH (i:=8) (v:=lR #[kt (V ⟨cb,1,Y⟩),U adb (Z zD) cpb,U oad (Z VR) ocp]) rfl (by kernel_rfl) (Bq HQp) HHS2 (by rfl) ?_ ?_
   ·(rintro wz ⟨z0,z1,z2,z3,z4,z5⟩;go_simp)
   simp only[lY,gI,gJ,gK];refine Cx.two (i:=9) (j:=10) (by kernel_rfl) rfl rfl (λK hK=>?_) (λK hK=>?_)
   .go_simp
    have k3:=k2.alloc (j2 #[kt (V ⟨cb,1,Y⟩),U adb (Z zD) cpb,U oad (Z VR) ocp] 237);refine hK.out _ _ (λ_=>HS2 _ k3) ?_;clear hK K
    try simp only[lY,gI,gJ,gK]
    have hsp3:=mf x2 [kt (V ⟨cb,1,Y⟩),U adb (Z zD) cpb,U oad (Z VR) ocp] 237;have hr3:=gU hrow7 (j2 #[kt (V ⟨cb,1,Y⟩),U adb (Z zD) cpb,U oad (Z VR) ocp] 237);refine Cx.one (i:=10) (by kernel_rfl) rfl (λK hK=>?_)
    go_simp
    have k4:=k3.alloc (j2 #[kt Y] 233);refine hK.out _ _ (λ_=>HS2 _ k4) ?_;clear hK K
    try simp only[lY,gI,gJ,gK]
    have htb4:=mf (x2.alloc (j2 #[kt (V ⟨cb,1,Y⟩),U adb (Z zD) cpb,U oad (Z VR) ocp] 237)) [kt Y] 233;have hsp4:=hsp3.alloc (j2 #[kt Y] 233);have hr6_4:=gU hrow6 (j2 #[kt Y] 233);have hr7_4:=gU hr3 (j2 #[kt Y] 233);have hne:=show(x2.alloc (j2 #[kt (V ⟨cb,1,Y⟩),U adb (Z zD) cpb,U oad (Z VR) ocp] 237)).heap.size≠x2.heap.size from Nat.ne_of_gt hsp3.lt
    have hge:=k3.size
    try simp only[iz]at hsp4 htb4 hne hge
    generalize((x2.alloc (j2 #[kt (V ⟨cb,1,Y⟩),U adb (Z zD) cpb,U oad (Z VR) ocp] 237)).alloc (j2 #[kt Y] 233))=WW at k4 hr7_4 hsp4 htb4⊢;have c6:=htb4.cell 0;have f6:=htb4.frozen 0;simp at c6;refine Cx.one (i:=11) (by kernel_rfl) rfl (λK hK=>?_)
    go_simp
    have kz:=k4.setCell (p:=⟨x2.heap.size+1,0,Y⟩) (ly hge) (kt (V ⟨x2.heap.size,0,Y⟩));refine hK.out _ _ (λ_=>HS2 _ kz) ?_;clear hK K;refine Cx.done (by kernel_rfl) ?_ _
    try simp only[lY,gI,gJ,gK]
    exact HE2 _ _ _ _ _ _ _ _ _ _ _ _ _ _ _ _ oad ocp (x2.heap.size) (x2.heap.size+1) _ kz (Ag hr7_4 (Ar hr7_4 htb4 (by decide)) _) (hsp4.zB ⟨x2.heap.size+1,0,Y⟩ hne _) (htb4.set 0 _)
   .go_simp
    have k3:=k2.alloc (j2 #[kt Y] 233);refine hK.out _ _ (λ_=>HS2 _ k3) ?_;clear hK K
    try simp only[lY,gI,gJ,gK]
    have htb3:=mf x2 [kt Y] 233;have hr6_3:=gU hrow6 (j2 #[kt Y] 233);have hr7_3:=gU hrow7 (j2 #[kt Y] 233);refine Cx.one (i:=9) (by kernel_rfl) rfl (λK hK=>?_)
    go_simp
    have k4:=k3.alloc (j2 #[kt (V ⟨cb,1,Y⟩),U adb (Z zD) cpb,U oad (Z VR) ocp] 237);refine hK.out _ _ (λ_=>HS2 _ k4) ?_;clear hK K
    try simp only[lY,gI,gJ,gK]
    have hsp4:=mf (x2.alloc (j2 #[kt Y] 233)) [kt (V ⟨cb,1,Y⟩),U adb (Z zD) cpb,U oad (Z VR) ocp] 237;have hr4:=gU hr7_3 (j2 #[kt (V ⟨cb,1,Y⟩),U adb (Z zD) cpb,U oad (Z VR) ocp] 237);have htb4:=htb3.alloc (j2 #[kt (V ⟨cb,1,Y⟩),U adb (Z zD) cpb,U oad (Z VR) ocp] 237);have hne:=show x2.heap.size≠(x2.alloc (j2 #[kt Y] 233)).heap.size from Nat.ne_of_lt htb3.lt
    have hge:=k2.size
    try simp only[iz]at hsp4 htb4 hne hge
    generalize((x2.alloc (j2 #[kt Y] 233)).alloc (j2 #[kt (V ⟨cb,1,Y⟩),U adb (Z zD) cpb,U oad (Z VR) ocp] 237))=WW at k4 hr4 hsp4 htb4⊢;have c6:=htb4.cell 0;have f6:=htb4.frozen 0;simp at c6;refine Cx.one (i:=11) (by kernel_rfl) rfl (λK hK=>?_)
    go_simp
    have kz:=k4.setCell (p:=⟨x2.heap.size,0,Y⟩) (ly hge) (kt (V ⟨x2.heap.size+1,0,Y⟩));refine hK.out _ _ (λ_=>HS2 _ kz) ?_;clear hK K;refine Cx.done (by kernel_rfl) ?_ _
    try simp only[lY,gI,gJ,gK]
    exact HE2 _ _ _ _ _ _ _ _ _ _ _ _ _ _ _ _ oad ocp (x2.heap.size+1) (x2.heap.size) _ kz (Ag hr4 (Ar hr4 htb4 (by decide)) _) (hsp4.zB ⟨x2.heap.size,0,Y⟩ hne _) (htb4.set 0 _)
  .go_simp
   have k2:=k1.alloc (j2 #[kt Y] 233);refine hK.out _ _ (λ_=>HS2 _ k2) ?_;clear hK K
   try simp only[lY,gI,gJ,gK]
   have htb2:=mf x1 [kt Y] 233;have hr6_2:=gU hrow6 (j2 #[kt Y] 233);refine Cx.one (i:=7) (by kernel_rfl) rfl (λK hK=>?_)
   go_simp
   refine(HV1 ad6 cp6 _ hr6_2).mono ?_;rintro _ x3 ⟨oad,ocp,rfl,hrow7,k3'⟩;have k3:Ac [] wA x3:=k2.trans k3';refine hK.out _ _ (λ_=>HS2 _ k3) ?_;clear hK K
   try simp only[lY,gI,gJ,gK]
   have htb3:=htb2.kept k3' (by simp);have HHS3:=Ab (HS2 _ k3);refine Cx.tkH (i:=8) (v:=lR #[kt (V ⟨cb,1,Y⟩),U adb (Z zD) cpb,U oad (Z VR) ocp]) rfl (by kernel_rfl) (Bq HQp) HHS3 (by rfl) ?_ ?_
   ·(rintro wz ⟨z0,z1,z2,z3,z4,z5⟩;go_simp)
   simp only[lY,gI,gJ,gK];refine Cx.one (i:=9) (by kernel_rfl) rfl (λK hK=>?_)
   go_simp
   have k4:=k3.alloc (j2 #[kt (V ⟨cb,1,Y⟩),U adb (Z zD) cpb,U oad (Z VR) ocp] 237);refine hK.out _ _ (λ_=>HS2 _ k4) ?_;clear hK K
   try simp only[lY,gI,gJ,gK]
   have hsp4:=mf x3 [kt (V ⟨cb,1,Y⟩),U adb (Z zD) cpb,U oad (Z VR) ocp] 237;have hr4:=gU hrow7 (j2 #[kt (V ⟨cb,1,Y⟩),U adb (Z zD) cpb,U oad (Z VR) ocp] 237);have htb4:=htb3.alloc (j2 #[kt (V ⟨cb,1,Y⟩),U adb (Z zD) cpb,U oad (Z VR) ocp] 237);have hne:=show x1.heap.size≠x3.heap.size from Nat.ne_of_lt htb3.lt
   have hge:=k1.size
   try simp only[iz]at hsp4 htb4 hne hge
   generalize(x3.alloc (j2 #[kt (V ⟨cb,1,Y⟩),U adb (Z zD) cpb,U oad (Z VR) ocp] 237))=WW at k4 hr4 hsp4 htb4⊢;have c6:=htb4.cell 0;have f6:=htb4.frozen 0;simp at c6;refine Cx.one (i:=11) (by kernel_rfl) rfl (λK hK=>?_)
   go_simp
   have kz:=k4.setCell (p:=⟨x1.heap.size,0,Y⟩) (ly hge) (kt (V ⟨x3.heap.size,0,Y⟩));refine hK.out _ _ (λ_=>HS2 _ kz) ?_;clear hK K;refine Cx.done (by kernel_rfl) ?_ _
   try simp only[lY,gI,gJ,gK]
   exact HE2 _ _ _ _ _ _ _ _ _ _ _ _ _ _ _ _ oad ocp (x3.heap.size) (x1.heap.size) _ kz (Ag hr4 (Ar hr4 htb4 (by decide)) _) (hsp4.zB ⟨x1.heap.size,0,Y⟩ hne _) (htb4.set 0 _)
 .go_simp
  have k1:=hka.alloc (j2 #[kt Y] 233);refine hK.out _ _ (λ_=>HS2 _ k1) ?_;clear hK K
  try simp only[lY,gI,gJ,gK]
  have htb1:=mf x0 [kt Y] 233;refine Cx.one (i:=6) (by kernel_rfl) rfl (λK hK=>?_)
  go_simp
  refine(HCT _ (HKw.trans k1)).mono ?_;rintro _ x2 ⟨ad6,cp6,rfl,hrow6,k2'⟩;have k2:Ac [] wA x2:=k1.trans k2';refine hK.out _ _ (λ_=>HS2 _ k2) ?_;clear hK K
  try simp only[lY,gI,gJ,gK]
  have htb2:=htb1.kept k2' (by simp);refine Cx.one (i:=7) (by kernel_rfl) rfl (λK hK=>?_)
  go_simp
  refine(HV1 ad6 cp6 _ hrow6).mono ?_;rintro _ x3 ⟨oad,ocp,rfl,hrow7,k3'⟩;have k3:Ac [] wA x3:=k2.trans k3';refine hK.out _ _ (λ_=>HS2 _ k3) ?_;clear hK K
  try simp only[lY,gI,gJ,gK]
  have htb3:=htb2.kept k3' (by simp);have HHS3:=Ab (HS2 _ k3);refine Cx.tkH (i:=8) (v:=lR #[kt (V ⟨cb,1,Y⟩),U adb (Z zD) cpb,U oad (Z VR) ocp]) rfl (by kernel_rfl) (Bq HQp) HHS3 (by rfl) ?_ ?_
  ·(rintro wz ⟨z0,z1,z2,z3,z4,z5⟩;go_simp)
  simp only[lY,gI,gJ,gK];refine Cx.one (i:=9) (by kernel_rfl) rfl (λK hK=>?_)
  go_simp
  have k4:=k3.alloc (j2 #[kt (V ⟨cb,1,Y⟩),U adb (Z zD) cpb,U oad (Z VR) ocp] 237);refine hK.out _ _ (λ_=>HS2 _ k4) ?_;clear hK K
  try simp only[lY,gI,gJ,gK]
  have hsp4:=mf x3 [kt (V ⟨cb,1,Y⟩),U adb (Z zD) cpb,U oad (Z VR) ocp] 237;have hr4:=gU hrow7 (j2 #[kt (V ⟨cb,1,Y⟩),U adb (Z zD) cpb,U oad (Z VR) ocp] 237);have htb4:=htb3.alloc (j2 #[kt (V ⟨cb,1,Y⟩),U adb (Z zD) cpb,U oad (Z VR) ocp] 237);have hne:=show x0.heap.size≠x3.heap.size from Nat.ne_of_lt htb3.lt
  have hge:=hka.size
  try simp only[iz]at hsp4 htb4 hne hge
  generalize(x3.alloc (j2 #[kt (V ⟨cb,1,Y⟩),U adb (Z zD) cpb,U oad (Z VR) ocp] 237))=WW at k4 hr4 hsp4 htb4⊢;have c6:=htb4.cell 0;have f6:=htb4.frozen 0;simp at c6;refine Cx.one (i:=11) (by kernel_rfl) rfl (λK hK=>?_)
  go_simp
  have kz:=k4.setCell (p:=⟨x0.heap.size,0,Y⟩) (ly hge) (kt (V ⟨x3.heap.size,0,Y⟩));refine hK.out _ _ (λ_=>HS2 _ kz) ?_;clear hK K;refine Cx.done (by kernel_rfl) ?_ _
  try simp only[lY,gI,gJ,gK]
  exact HE2 _ _ _ _ _ _ _ _ _ _ _ _ _ _ _ _ oad ocp (x3.heap.size) (x0.heap.size) _ kz (Ag hr4 (Ar hr4 htb4 (by decide)) _) (hsp4.zB ⟨x0.heap.size,0,Y⟩ hne _) (htb4.set 0 _)
