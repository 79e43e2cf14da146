import Derived.Test.YtoihbhenbmffcaaGreatDoorYBF
import Derived.Test.YtoihbhenbmffcaaGreatDoorYBA
set_option linter.all false
set_option maxHeartbeats 0
open List renaming length->Z,toArray->j3
open Option renaming none->Y,some->V
open Go.Value renaming slice->U,int->X,string->O,pointer->kt,agg->lR
open Go.IntKind renaming i64->J
open Bool renaming true->j1
open Go.Obj renaming cells->j2
open Go.Ending renaming returned->lo
open Or renaming inl->lx,inr->ly
open Go renaming World->l9,Value->lN
open Go.RowKit renaming Hid->lO
open Go.World renaming cell?->lP,ownsRow->lQ
open ByteArray renaming empty->lU
open Prod renaming fst->lW
open Go.Act renaming put->lY
namespace Go.Proofs.YtoihbhenbmffcaaGreatDoor
open Go.RowKit Go.Proofs.Tryz
def WM(b:mc zA)(ts:mc AQ)(at_:Nat)(fs:mc EN)(m:mc zA):Prop:=∀y,y∈m↔∃q∈fs,G4 b ts q.f.zC=j1/\y=q.f.zC.getD at_ lU
structure XO(w:l9)(N:Nat)(ap:Int)(nm:zA)(tv:lN)(E:mc lN)(b:mc zA)(ts:mc AQ)(at_:Nat)(pre:mc EN)(M:mc Nat)(W:l9):Prop where
 kept:Ac [] w W
 b5:AH W N [X J ap,O nm,tv] 187
 b6:AH W (N+1) [X J at_] 3
 b7:AH W (N+2) E 243
 out:∃(m:mc zA) (ad:Option Addr) (cp:Nat),AH W (N+3) [U ad (Z m) cp] 102/\lQ W N 170 1 (U ad (Z m) cp) (Z m) (m.flatMap Ah)/\CE Fh m/\WM b ts at_ pre m/\Z m<=Z pre/\M=(N+3)::(U ad (Z m) cp).ownBlock.toList
def XO.own{w:l9}{N B:Nat}{ap:Int}{nm:zA}{tv:lN}{E:mc lN}{b:mc zA}{ts:mc AQ}{at_:Nat}(f:w.heap.size<=B):OwnFrom B (fun(s:mc EN×mc Nat) W=>XO w N ap nm tv E b ts at_ s.1 s.2 W):=
 BF (λs W j M h k a=>by
  obtain⟨m,i,e,d,c,g⟩:=h.out
  exact⟨DX h.kept k a f,h.b5.kept k (Ct a h.b5),h.b6.kept k (Ct a h.b6),h.b7.kept k (Ct a h.b7),m,i,e,d.kept k (Ct a d),Ai c k (B4 a c),g⟩)
set_option maxRecDepth 100000
theorem VW(sp kb ko:Nat)(bv ov:lN)(sad:Option Addr)(scp:Nat)(fs:mc EN)(ap:Int)(nm:zA)(tad:Option Addr)(tcp:Nat)(ts:mc AQ)(at_:Nat)(b:mc zA)(w:l9)(hb:Z b=26)(hS:Om w sp kb ko bv ov sad scp fs)
  (ht:lQ w 0 215 2 (U tad (Z ts) tcp) (Z ts) (ts.flatMap Aq)) (htl:Z ts<=1000) (hv:∀t∈ts,OE t) (hlen:Z fs<=900000) (hpair:fs.Pairwise λa b=>Cm a.f b.f<0)
  (hmono:∀i j (hi:i<Z fs) (hj:j<Z fs),i<=j->Cm fs[j].f ⟨nm,[]⟩<0->Cm fs[i].f ⟨nm,[]⟩<0)
  (hq:∀q∈fs,Th nm q=j1->Z ts<=Z q.f.zC/\at_<Z q.f.zC):
  Calls prog 207 #[kt (V ⟨sp,0,none⟩),lR #[.int J ap,O nm,U tad (Z ts) tcp],.int J at_,lR (j3 (Aj b))] w λr w'=>∃(ad:Option Addr) (cp:Nat) (m:mc zA),r=lo (U ad (Z m) cp)/\CE Fh m/\WM b ts at_ (fs.filter (Th nm)) m/\Z m<=Z fs/\lQ w' w.heap.size 170 1 (U ad (Z m) cp) (Z m) (m.flatMap Ah)/\Ac [] w w':=by
 have HFi:lO (∀nb (p:EN) wz,p∈fs->Th nm p=j1->Ac [] w wz->AH wz nb (Aj b) 243->Calls prog 222 #[kt (V ⟨nb,0,none⟩),lR #[.int J ap,O nm,U tad (Z ts) tcp],lR (j3 (AW p))] wz λr w'=>r=lo (.bool (G4 b ts p.f.zC))/\Ac [] wz w'):=λnb p wz hp hn hk hB=>bT nb 243 b ap nm tad tcp ts p 0 wz hb hB (Ad ht hk (by simp)) ((hS.facts.each p hp).1.kept hk) (by omega) (hq p hp hn).1 hv
 have HIt:lO (∀b1 b2 M0 wz,lP wz ⟨b1,0,none⟩=V (kt (V ⟨kb,ko,none⟩))->Tz w b2 nm M0 wz->Kq prog 235 #[kt (V ⟨b1,0,none⟩),kt (V ⟨b2,0,none⟩)] (λq:EN=>#[lR (j3 (AW q))]) (fs.filter (Th nm)) M0 wz):=λb1 b2 M0 wz h1 hO=>dk b1 b2 kb ko sad scp fs nm w wz M0 h1 hO hS.set hS.facts hlen hpair hmono
 have HSe:=Ab hS;have HQ:=Ab hq;have hc:=Bv b;have hl26:Z (Aj b)=26:=by unfold Aj;simp[hb]
 obtain⟨E,hE⟩:∃E,Aj b=E:=⟨_,rfl⟩;rw[hE]at hc hl26 HFi⊢;clear hE hS hpair hmono hq hv;have HTr:=Ab ht;clear ht;obtain⟨N,hN⟩:∃N,w.heap.size=N:=⟨_,rfl⟩;have HN:=Ab hN;obtain⟨w1,hw1⟩:∃w1,(((w.alloc (j2 #[.int J ap,O nm,U tad (Z ts) tcp] 187)).alloc (j2 #[.int J at_] 3)).alloc (j2 (j3 E) 243)).alloc (j2 #[U none 0 0] 102)=w1:=⟨_,rfl⟩;have HW1:=Ab hw1;have hK1:Ac [] w w1:=by rw[<-hw1];exact((((me [] w).alloc _).alloc _).alloc _).alloc _
 have hB5:AH w1 N [.int J ap,O nm,U tad (Z ts) tcp] 187:=by
  rw[<-hw1,<-hN];exact(((mf w [.int J ap,O nm,U tad (Z ts) tcp] 187).alloc _).alloc _).alloc _
 have hB6:AH w1 (N+1) [.int J at_] 3:=by
  rw[<-hw1];have h:=((mf (w.alloc (j2 #[.int J ap,O nm,U tad (Z ts) tcp] 187)) [.int J at_] 3).alloc (j2 (j3 E) 243)).alloc (j2 #[U none 0 0] 102);rw[iz,hN]at h;exact h
 have hB7:AH w1 (N+2) E 243:=by
  rw[<-hw1];have h:=(mf ((w.alloc (j2 #[.int J ap,O nm,U tad (Z ts) tcp] 187)).alloc (j2 #[.int J at_] 3)) E 243).alloc (j2 #[U none 0 0] 102);rw[iz,iz,hN]at h;exact h
 have hB9:AH w1 (N+3) [U none 0 0] 102:=by
  rw[<-hw1];have h:=mf (((w.alloc (j2 #[.int J ap,O nm,U tad (Z ts) tcp] 187)).alloc (j2 #[.int J at_] 3)).alloc (j2 (j3 E) 243)) [U none 0 0] 102;rw[iz,iz,iz,hN]at h;exact h
 have HI1:lO (XO w N ap nm (U tad (Z ts) tcp) E b ts at_ [] [N+3] w1):=⟨hK1,hB5,hB6,hB7,[],none,0,hB9,ip _ _ _ _,λi j h=>absurd h (by simp),λy=>by simp,by simp,by simp[Value.ownBlock]⟩;have HB9:=Ab hB9.lt;clear hw1 hK1 hB5 hB6 hB7 hB9 hN;refine Ec func207 rfl ?_;simp only[ntmps207,i7,gW,iv,Nat.reduceAdd,Nat.reduceSub,jZ,j4,kx,ke,i6,js];have hNO:¬LetsOut (bodyPostM Fence.wide 0 prog Tryz.f207 λr w'=>∃(ad:Option Addr) (cp:Nat) (m:mc zA),r=lo (U ad (Z m) cp)/\CE Fh m/\WM b ts at_ (fs.filter (Th nm)) m/\Z m<=Z fs/\lQ w' w.heap.size 170 1 (U ad (Z m) cp) (Z m) (m.flatMap Ah)/\Ac [] w w'):=Zh (λ_ ⟨_,_,_,h,_⟩=>by cases h);obtain⟨QQ,hQQ⟩:∃QQ,(bodyPostM Fence.wide 0 prog Tryz.f207 λr w'=>∃(ad:Option Addr) (cp:Nat) (m:mc zA),r=lo (U ad (Z m) cp)/\CE Fh m/\WM b ts at_ (fs.filter (Th nm)) m/\Z m<=Z fs/\lQ w' w.heap.size 170 1 (U ad (Z m) cp) (Z m) (m.flatMap Ah)/\Ac [] w w')=QQ:=⟨_,rfl⟩;have HQQ:=Ab hQQ;rw[hQQ]at hNO⊢;have HNO:=Ab hNO;clear hQQ hNO;refine ma (λK1 HK1=>?_);go_wp2;refine HK1 _ _ ?_;clear HK1 K1;refine ma (λK1 HK1=>?_);go_wp2;refine HK1 _ _ ?_;clear HK1 K1;change Code.wp _ _ _ _ ((((w.alloc (j2 #[.int J ap,O nm,U tad (Z ts) tcp] 187)).alloc (j2 #[.int J at_] 3)).alloc (j2 (j3 E) 243)).alloc (j2 #[U none 0 0] 102));rw[Aa HW1,Aa HN];clear HW1;have HCs:lO (∀wz,Ac [] w1 wz->lP wz ⟨sp,0,none⟩=V (kt (V ⟨kb,ko,none⟩))/\lP wz ⟨N,1,none⟩=V (O nm)):=λwz hk=>by
  have h1:=(HSe.kept (HI1.kept.trans hk)).zO.cell 0;have h2:=(HI1.b5.kept hk (by simp)).cell 1;simp at h1 h2;exact⟨h1,h2⟩
 have HOf:lO (∀wz,Calls prog 221 #[kt (V ⟨kb,ko,none⟩),O nm] wz λr w'=>∃b1 b2,r=lo (.func (.func 235) #[] #[kt (V ⟨b1,0,none⟩),kt (V ⟨b2,0,none⟩)])/\AH w' b1 [kt (V ⟨kb,ko,none⟩)] 69/\AH w' b2 [O nm] 9/\wz.heap.size<=b1/\wz.heap.size<=b2/\Ac [] wz w'):=λwz=>YL kb ko nm wz
 obtain⟨s0,s1⟩:=HCs w1 (me _ _);refine ma (λK1 HK1=>?_);refine ma (λK2 HK2=>?_)
 go_region_held3 (λwz=>Ac [] w1 wz/\lP wz ⟨sp,0,none⟩=V (kt (V ⟨kb,ko,none⟩))/\lP wz ⟨N,1,none⟩=V (O nm)) ((go_split_ands;refine(fun(hkz:Ac [] w1 _)=>And.intro hkz (HCs _ hkz)) ?_;repeat (first|assumption|exact me [] _|refine Ac.drew ?_|refine Ac.alloc ?_ _))) ((go_at_call 221;refine(HOf _).mono ?_;rintro e w3 ⟨b1,b2,rfl,hb1,hb2,hl1,hl2,k3⟩;have hk3:Ac [] w1 w3:=(by go_split_ands;exact Ac.trans (by assumption) k3);have HB1:=Ab hb1;have HB2:=Ab hb2;have HK3:=Ab hk3;have HL3:lO (w1.heap.size<=b1/\w1.heap.size<=b2):=⟨hl1,hl2⟩;clear hb1 hb2 hl1 hl2 k3 hk3))
 refine HK2 _ _ ?_;clear HK2 K2 s0 s1 HOf HCs;refine wp_block ?_;have HI3:lO (XO w N ap nm (U tad (Z ts) tcp) E b ts at_ [] [N+3] w3):=BB (XO.own (ig _)) (s:=([],[N+3])) HI1 HK3;have HO3:lO (Tz w b2 nm [N+3] w3):=by
  have h1:=HB2.cell 0;simp at h1;refine⟨HI3.kept,h1,λk hk=>?_⟩;have hn:=Aa HN;have h2:=HL3.2;have h3:=Aa HB9;have h4:=HK3.size;simp only[gN]at hk;omega
 have zn:=Aa HIt b1 b2 [N+3] w3 (by have h:=HB1.cell 0;simp at h;exact h) HO3;have hw3:N+4<=w3.heap.size:=by have h3:=Aa HB9;have h4:=HK3.size;omega
 refine Ir (T:=104) (q:=10) rfl (enters_of func235 (by kernel_rfl) rfl) zn (λk hk=>by simp only[gN]at hk;omega) (XO w N ap nm (U tad (Z ts) tcp) E b ts at_) (λ_ _ _ _=>False) (XO.own (by have:=Aa HN;omega)) (λ_ _ _ _ _ h _ _=>h) HI3 ?assign ?body ?done ?stop
 case assign=>
  intro l x W K hx HK;have hxf:=(ir.1 hx).1;obtain⟨⟨xn,xt⟩,xv⟩:=x;obtain⟨xad,xcp,hxv⟩:=Al (HSe.facts.each _ hxf).1;simp only at hxv;subst hxv;simp only[AW]at HK⊢;clear hx hxf;simp only[gI,gJ,gK]at HK⊢;refine AG (by rfl) (Hc F0) ?_;go_wp2;refine HK _ ((me [] W).alloc _) ?_;exact mf W [O xn,U xad (Z xt) xcp] 104
 case body=>
  intro l Bx pre x rest M W hxs hi hM hBx hB;have hx:x∈fs.filter (Th nm):=by rw[hxs];simp
  have hxf:=(ir.1 hx).1;have hxn:=(ir.1 hx).2;have hxa:=(HQ x hxf hxn).2;have HCall:=Ab (HFi (N+2) x W hxf hxn hi.kept hi.b7);have HPf:lO (DS W x):=(HSe.facts.each x hxf).1.kept hi.kept;have HPw:lO (DS w x):=(HSe.facts.each x hxf).1;obtain⟨⟨xn,xt⟩,xv⟩:=x;obtain⟨xad,xcp,hxv⟩:=Al HPf;simp only at hxv hxa;subst hxv;obtain⟨m,mad,mcp,h9,hrow,hrise,hcol,hml,hMe⟩:=hi.out;simp only[AW]at HCall hB⊢;have d0:=hi.b5.cell 0;have d1:=hi.b5.cell 1;have d2:=hi.b5.cell 2;have e0:=hB.cell 0;have e1:=hB.cell 1;simp at d0 d1 d2 e0 e1;have HIi:=Ab hi;have HBx:=Ab hB;have H9:=Ab h9;have HRow:=Ab hrow;have HRise:=Ab hrise;have HCol:=Ab hcol;have HMe:=Ab hMe;obtain⟨X,hX⟩:∃X:EN,X=⟨⟨xn,xt⟩,U xad (Z xt) xcp⟩:=⟨_,rfl⟩;have HXX:=Ab hX;rw[<-hX]at hxs⊢;clear hx hxf hxn hi hB h9 hrow hrise hcol hMe hM hX;obtain⟨F,hF⟩:∃F,G4 b ts xt=F:=⟨_,rfl⟩;rw[hF]at HCall;have HF:=Ab hF;clear hF;simp only[gI,gJ,gK];refine wpIn_block ?_;refine jd (λK3 hK3=>?_);have HK3':=Ab hK3;clear hK3;refine AG (by rfl) (by rintro ⟨_,_,h⟩;exact h) ?_;go_wp2_with fail
  refine HCall.mono ?_;rintro _ w4 ⟨rfl,k4⟩;have HK4:=Ab k4;clear k4 d0 d1 d2 e0 e1 HCall;go_wp2;refine HK3' _ _ ?_;clear HK3' K3;cases F with
  |false=>
   refine ki rfl (wpIn_skip ?_);refine⟨HK4.mono (by simp),M,?_,λk hk=>⟨lx hk,?_⟩⟩
   .have hi4:=BB (XO.own (N:=N) (ap:=ap) (nm:=nm) (tv:=U tad (Z ts) tcp) (E:=E) (b:=b) (ts:=ts) (at_:=at_) (ig w.heap.size)) (s:=(pre,M)) HIi HK4;obtain⟨m',ad',cp',g1,g2,g3,g4,g5,g6⟩:=hi4.out;refine⟨hi4.kept,hi4.b5,hi4.b6,hi4.b7,m',ad',cp',g1,g2,g3,λy=>?_,by have:=g5;simp at this⊢;omega,g6⟩;rw[g4 y];constructor
    .rintro ⟨q,hq,hh⟩;exact⟨q,by simp[hq],hh⟩
    .rintro ⟨q,hq,hh⟩;rcases ic.1 hq with hq|hq
     .exact⟨q,hq,hh⟩
     .simp only[gN]at hq;subst hq;rw[Aa HXX]at hh;rw[Aa HF]at hh;cases hh.1
   .rw[Aa HMe]at hk;have h4:=HK4.size;rcases gP.1 hk with rfl|hk
    .have:=H9.lt;omega
    .have:=(HRow.lt k (by simpa using hk)).2;omega
  |true=>
   refine ku rfl ?_;have hro4:=Ai HRow HK4 (by simp);have hnap:(U mad (Z m) mcp).ownBlock≠V (N+3):=Ar hro4 (H9.kept HK4 (by simp)) (by decide);obtain⟨gx,cx,hex,hxc⟩:=F1 HPw at_ hxa;simp only[gM]at hex;obtain⟨rfl,-,rfl⟩:=hex;obtain⟨Y,hY⟩:∃Y,xt[at_]=Y:=⟨_,rfl⟩;rw[hY]at hxc;have hgx:=MS hxc;have HSS:lO (∀wz,Ac (U mad (Z m) mcp).ownBlock.toList w4 wz->lP wz ⟨N+3,0,none⟩=V (U mad (Z m) mcp)/\lP wz ⟨Bx,1,none⟩=V (U (V ⟨gx,0,none⟩) (Z xt) xcp)/\lP wz ⟨N+1,0,none⟩=V (.int J at_)/\lP wz ⟨gx,at_,none⟩=V (O Y)):=by
    intro wz hz;have a1:=((H9.kept HK4 (by simp)).kept hz (λhm=>hnap (by simpa using hm))).cell 0;have a2:=((HBx.kept HK4 (by simp)).kept hz (λhm=>Ar hro4 (HBx.kept HK4 (by simp)) (by decide) (by simpa using hm))).cell 1;have a3:=((HIi.b6.kept HK4 (by simp)).kept hz (λhm=>Ar hro4 (HIi.b6.kept HK4 (by simp)) (by decide) (by simpa using hm))).cell 0;have a4:=Kc hz (HK4.cellAt (HIi.kept.cellAt hxc)) (λhm=>by have:=(hro4.lt gx (by simpa using hm)).1;have:=Aa HN;omega);simp at a1 a2 a3;exact⟨a1,a2,a3,a4⟩
   have HHS:=Ab (HSS w4.drew (me _ _).drew);(have hat0:(0:Int)<=(at_:Int):=by omega);(have hat1:(at_:Int)<(Z xt:Int):=by omega);have HAdd:=Ab (Vs mad mcp m Y N w4.drew hro4.drew (by have h1:=congrArg List.length hxs;have h2:=jn (Th nm) fs;simp at h1;omega) HRise (by have:=HIi.kept.size;have:=HK4.size;have:=Aa HN;show N<=w4.heap.size;omega));have HYg:lO (xt.getD at_ lU=Y):=by
    show _=_;rw[ia,gS hxa,hY];rfl
   clear hY hxc hro4;refine Ee 7 (λwz=>lP wz ⟨N+3,0,none⟩=V (U mad (Z m) mcp)/\lP wz ⟨Bx,1,none⟩=V (U (V ⟨gx,0,none⟩) (Z xt) xcp)/\lP wz ⟨N+1,0,none⟩=V (.int J at_)/\lP wz ⟨gx,at_,none⟩=V (O Y)) (by kernel_rfl) (by rfl) (by rintro ⟨_,_,h⟩;exact h) ?_;refine Cx.tk (i:=0) (v:=U mad (Z m) mcp) rfl (by kernel_rfl) (λ_ _ _ h=>h) HHS (by rfl) ?_ ?_
   ·(rintro wz ⟨z0,z1,z2,z3⟩;go_simp)
   simp only[lY,gI,gJ,gK];refine Cx.tk (i:=1) (v:=kt (V ⟨Bx,1,none⟩)) rfl (by kernel_rfl) (λ_ _ _ h=>h) HHS (by rfl) ?_ ?_
   ·(rintro wz ⟨z0,z1,z2,z3⟩;go_simp)
   simp only[lY,gI,gJ,gK];refine Cx.tk (i:=2) (v:=U (V ⟨gx,0,none⟩) (Z xt) xcp) rfl (by kernel_rfl) (λ_ _ _ h=>h) HHS (by rfl) ?_ ?_
   ·(rintro wz ⟨z0,z1,z2,z3⟩;go_simp)
   simp only[lY,gI,gJ,gK];refine Cx.tk (i:=3) (v:=.int J at_) rfl (by kernel_rfl) (λ_ _ _ h=>h) HHS (by rfl) ?_ ?_
   ·(rintro wz ⟨z0,z1,z2,z3⟩;go_simp)
   simp only[lY,gI,gJ,gK];refine Cx.tk (i:=4) (v:=kt (V ⟨gx,at_,none⟩)) rfl (by kernel_rfl) (λ_ _ _ h=>h) HHS (by rfl) ?_ ?_
   ·(rintro wz ⟨z0,z1,z2,z3⟩;go_simp)
   simp only[lY,gI,gJ,gK];refine Cx.tk (i:=5) (v:=O Y) rfl (by kernel_rfl) (λ_ _ _ h=>h) HHS (by rfl) ?_ ?_
   ·(rintro wz ⟨z0,z1,z2,z3⟩;go_simp)
   simp only[lY,gI,gJ,gK];refine Cx.one (i:=6) (by kernel_rfl) rfl (λK hK=>?_)
   go_simp
   refine HAdd.mono ?_;rintro e w5 ⟨m',ad',cp',rfl,hr',hmem,hl1,hl2,hown,hk5,hfr⟩;have hk5':Ac (U mad (Z m) mcp).ownBlock.toList w4 w5:=(me _ _).drew.trans hk5;refine hK.out _ _ (λ_=>HSS w5 hk5') ?_;clear hK K
   try simp only[lY,gI,gJ,gK]
   have h95:AH w5 (N+3) [U mad (Z m) mcp] 102:=(H9.kept HK4 (by simp)).kept hk5' (λhm=>hnap (by simpa using hm));have c9:=h95.cell 0;have f9:=h95.frozen 0;simp at c9;refine Cx.one (i:=7) (by kernel_rfl) rfl (λK hK=>?_)
   go_simp
   refine hK.out _ _ (λh=>absurd rfl h) ?_;clear hK K;refine Cx.done (by kernel_rfl) ?_ _;have hnap2:(U ad' (Z m') cp').ownBlock≠V (N+3):=Ar hown h95 (by decide);have hM6:Ac M W (w5.setCell ⟨N+3,0,none⟩ (U ad' (Z m') cp')):=by
    rw[Aa HMe];exact((HK4.mono (by simp)).trans (hk5'.mono (λi hi=>iB _ hi))).setCell (p:=⟨N+3,0,none⟩) (lx (iV ..)) _
   have hMge:∀k∈M,N<=k:=by
    intro k hk;rw[Aa HMe]at hk;rcases gP.1 hk with rfl|hk
    .omega
    .exact(HRow.lt k (by simpa using hk)).1
   have hap:∀{bb:Nat} {cs:mc lN} {t:TypeId},AH W bb cs t->bb≠N+3->170≠t->bb∉M:=by
    intro bb cs t hbb hne htt hm;rw[Aa HMe]at hm;rcases gP.1 hm with rfl|hm
    .exact hne rfl
    .exact Ar HRow hbb htt (by simpa using hm)
   refine⟨hM6,(N+3)::(U ad' (Z m') cp').ownBlock.toList,⟨HIi.kept.trans' hM6 (λk hk=>ly (by have:=hMge k hk;have:=Aa HN;omega)),HIi.b5.kept hM6 (hap HIi.b5 (by omega) (by decide)),HIi.b6.kept hM6 (hap HIi.b6 (by omega) (by decide)),HIi.b7.kept hM6 (hap HIi.b7 (by omega) (by decide)),m',ad',cp',h95.set 0 _,Ag hown hnap2 _,hr',λy=>?_,by simp;omega,rfl⟩,λk hk=>?_⟩
   .rw[hmem y,Aa HCol y];constructor
    .rintro (rfl|⟨q,hq,hh⟩)
     .exact⟨X,by simp,by rw[Aa HXX];exact HF,by rw[Aa HXX];exact HYg.symm⟩
     .exact⟨q,by simp[hq],hh⟩
    .rintro ⟨q,hq,hh⟩;rcases ic.1 hq with hq|hq
     .exact ly ⟨q,hq,hh⟩
     .simp only[gN]at hq;subst hq;rw[Aa HXX]at hh;exact lx (hh.2.trans HYg)
   .have h6:=hk5'.size;have h4:=HK4.size;rcases gP.1 hk with rfl|hk
    .exact⟨lx (by rw[Aa HMe];exact iV ..),by have:=h95.lt;simp;omega⟩
    ·(have hk':(U ad' (Z m') cp').ownBlock=V k:=by simpa using hk);refine⟨?_,by have:=(hown.lt k hk').2;simp;omega⟩;rcases hfr k hk' with h|h
     .exact lx (by rw[Aa HMe];exact iB _ (by rw[h];simp))
     .exact ly (by have h2:w4.heap.size<=k:=h;omega)
 case done=>
  intro D M' W hD hi hd _;obtain⟨m,mad,mcp,h9,hrow,hrise,hcol,hml,hMe⟩:=hi.out;have c9:=h9.cell 0;simp at c9;refine HK1 _ _ ?_;clear HK1;simp only[i6];refine ma (λK3 HK3'=>?_);go_wp2;refine HK3' _ _ ?_;clear HK3' K3;refine wp_ret ?_;rw[<-Aa HQQ];have hown:OwnFrom w.heap.size (fun(_:Unit) W=>lQ W N 170 1 (U mad (Z m) mcp) (Z m) (m.flatMap Ah)/\Ac [] w W):=BF (λ_ W W' M h k hM=>⟨Ai h.1 k (B4 hM h.1),DX h.2 k hM (ig _)⟩);have hmk:C6 w.heap.size [D] W:=⟨by simp,λd hd'=>by simp only[gN]at hd';have:=HI3.kept.size;omega,λd hd'=>by simp only[gN]at hd';rw[hd'];exact hd⟩;refine C5 [D] W hmk (λw' hs=>?_);obtain⟨g1,g2⟩:=hs.own hown (s:=()) hmk ⟨hrow,hi.kept⟩;refine⟨_,results_tmp rfl _ _ _,mad,mcp,m,rfl,hrise,hcol,iQ hml (jn _ _),?_,g2⟩;rw[Aa HN];exact g1
 case stop=>
  intro D c pre M' W _ h _;exact h.elim
structure CQ(e:mc zA):Prop where
 len:Z e=26
 each:∀x∈e,Q1 x
def CQ.start:CQ Bs:=⟨by simp[Bs],λx a=>lx (by rw[(List.mem_replicate.1 a).2];rfl)⟩
def CQ.set{e:mc zA}(h:CQ e)(j:Nat){x:zA}(c:A3 x):CQ (e.set j x):=⟨by simp[h.len],λy b=>by
 rcases List.mem_or_eq_of_mem_set b with a|rfl
 .exact h.each y a
 .exact ly c⟩
def Hb{e:mc zA}(h:CQ e):Z (Be e)=26:=by unfold Be;rw[ie,h.len]
def Qj{s:zA}(h:A3 s):Dt s=AA s:=by
 have a:=h.size;unfold Dt AA;rw[gV a];cases hn:Ib s with
 |false=>simp
 |true=>
  simp only[if_true];rcases h with⟨c,r,e,b,_⟩|h
  .unfold Ib at hn;rw[e,EO]at hn;have:=of_decide_eq_true hn;omega
  .rw[gY h]
def Hd{t:AE}(h:CX t)(e:mc zA):Bz (Be e) (ct t)=UR (AR e t):=by
 have f:(ct t).v.toNat=t.v.toNat:=by unfold ct;simp
 unfold Bz cO;rw[f];rcases h with⟨a,c⟩|⟨b,g,_⟩
 .rw[a,gY (show(0:UInt8).toNat=0 from rfl)]
  unfold AR;rw[gY a,Cv c];exact Qj c
 .have a:t.v≠0:=λd=>by rw[d]at b;exact absurd b (by decide)
  rw[gV (by omega),<-Et];unfold QZ;rw[gV a]
def CQ.val{e:mc zA}(b:CQ e){t:AE}(h:CX t):Q1 (AR e t):=by
 unfold AR;split
 .rename_i d;rcases h with⟨_,c⟩|⟨a,_⟩
  .exact ly c
  .rw[d]at a;exact absurd a (by decide)
 .rw[ia];cases hg:e[t.v.toNat-65]? with
  |none=>exact lx rfl
  |some x=>exact b.each x (List.mem_of_getElem? hg)
def Uq{e:mc zA}(d:CQ e){ts:mc AE}(h:∀t∈ts,CX t):Gk (Be e) (ts.map ct)=Di e ts:=by
 rw[<-Mc ts (λt a=>d.val (h t a))];unfold Gk Qm;rw[List.all_map,jl,ji,ji];have c:∀t∈ts,((λt=> !Tj (Bz (Be e) t))∘ct) t= !Tj (QZ (Be e) t):=λt a=>by
  simp only[Function.comp];rw[Hd (h t a),Et]
 exact⟨λb t a=>by rw[<-c t a];exact b t a,λb t a=>by rw[c t a];exact b t a⟩
def Pe(x:Bi):AL (KF x)=(Bm x).map ct:=by
 unfold AL Bm;rw[Hf];split<;>simp[KF]
def Do.zQ{x:Bi}(h:Do x):∀t∈Bm x,CX t:=by
 intro t a;unfold Do at h;unfold Bm at a;split at h
 .rename_i b;rw[gY b]at a;exact h.args t a
 .rename_i b;rw[gV b]at a;rcases gP.1 a with rfl|a
  .exact h.1
  .rw[gN]at a;subst a;exact h.2.1
def Q9{e:mc zA}(d:CQ e){ts:mc AE}(h:∀t∈ts,CX t)(c:Di e ts=j1):∀t∈ts,A3 (AR e t):=by
 intro t b;rcases d.val (h t b)with h1|h1
 .have a:=ji.1 c t b;rw[(DC _).2 h1]at a;cases a
 .exact h1
def VM{e:mc zA}{x:Bi}(h:∀t∈x.A.args,CX t)(b:∀t∈x.A.args,A3 (AR e t)):EV (Be e) (KF x)=BN (AB e x.A):=by
 unfold EV BN AB KF;simp only;rw[iX,iX]
 congr 1
 refine iY (λt a=>?_);simp only[Function.comp];rw[Hd (h t a),Cv (b t a)]
def F9{e:mc zA}{A:Df}(a:∀t∈A.args,A3 (AR e t)):AJ (AB e A):=by
 intro y b;obtain⟨t,c,rfl⟩:=gX.1 b;exact a t c
def Wv{fs:mc EN}{s:mc Af}{e:mc zA}{x:Bi}{B:Bool}(t:Dc fs s)(D:CQ e)(C:Do x)(z:Di e (Bm x)=j1)(h:JN fs (Be e) (KF x) B):B=CH (AB e) (AR e) s x:=by
 have c:=C.zQ;have b:=Q9 D c z;have E:(KF x).sort=Fs x.kind:=rfl;unfold JN at h;unfold CH;rw[E]at h;by_cases f:x.kind=97
 .have a:Fs x.kind=0:=by rw[f];rfl
  have d:Bm x=x.A.args:=by unfold Bm;rw[f];rfl
  rw[d]at c b;rw[gY a,VM c b]at h;rw[gY (by rw[f];rfl)];obtain⟨p,m,rfl⟩:=h;exact t.zn (F9 b) m
 .have q:¬(x.kind==97)=j1:=by simpa using f
  rw[gV q];by_cases g:x.kind=33
  ·(have a:Fs x.kind=1:=by rw[g];rfl);(have d:Bm x=x.A.args:=by unfold Bm;rw[g];rfl);rw[d]at c b;rw[a,gV (by decide),gY rfl,VM c b]at h;rw[gY (by rw[g];rfl)];obtain⟨p,m,rfl⟩:=h;rw[t.zn (F9 b) m]
  ·(have o:¬(x.kind==33)=j1:=by simpa using g);(have d:Bm x=[x.L,x.R]:=by unfold Bm;rw[gV (by rw[jx,not_or];exact⟨q,o⟩)]);rw[d]at c b;have k:=b x.L (by simp);have n:=b x.R (by simp);have u:Bz (Be e) (KF x).l=QZ (Be e) x.L:=(Hd (c x.L (by simp)) e).trans (Et e x.L).symm;have w:Bz (Be e) (KF x).r=QZ (Be e) x.R:=(Hd (c x.R (by simp)) e).trans (Et e x.R).symm;rw[u,w]at h;rw[gV o];by_cases i:x.kind=61
   ·(have a:Fs x.kind=2:=by rw[i];rfl);rw[a,gV (by decide),gV (by decide),gY rfl,Vk k n]at h;rw[gY (by rw[i];rfl)];exact h
   ·(have y:¬(x.kind==61)=j1:=by simpa using i);rw[gV y];by_cases j:x.kind=35
    ·(have a:Fs x.kind=3:=by rw[j];rfl);rw[a,gV (by decide),gV (by decide),gV (by decide),gY rfl,Vk k n]at h;rw[gY (by rw[j];rfl)];exact h
    ·(have v:¬(x.kind==35)=j1:=by simpa using j);(have a:Fs x.kind=4:=by unfold Fs;rw[gV f,gV g,gV i,gV j]);rw[a,gV (by decide),gV (by decide),gV (by decide),gV (by decide),aH k n]at h;rw[gV v];exact h
def VN{fs:mc EN}{s:mc Af}{e:mc zA}(d:Dc fs s)(c:CQ e):∀(a:mc Bi),(∀x∈a,Do x)->∀B,Fd fs (Be e) (a.map KF) B->B=DL a s e
 |[],_,B,h=>h
 |x::a,hb,B,h=>by
  have ih:=VN d c a (λy i=>hb y (by simp[i]));have f:=hb x (by simp);rw[ii,Fd,Pe,Uq c f.zQ]at h;have g:DL (x::a) s e=((Di e (Bm x)&& !CH (AB e) (AR e) s x)||DL a s e):=by
   unfold DL;rw[kW]
  rw[g];cases hset:Di e (Bm x)with
  |false=>
   rw[hset,gV (by simp)]at h;rw[kq,kp];exact ih B h
  |true=>
   rw[hset,gY rfl]at h;obtain⟨H,j,b⟩:=h;have k:=Wv d c f hset j;rw[<-k,jq];cases H with
   |true=>
    rw[gY rfl]at b;rw[jW,kp];exact ih B b
   |false=>
    rw[gV (by simp)]at b;rw[b];rfl
def VF{e:mc zA}(g:CQ e):∀(a:mc AE) (b:mc zA),(∀t∈a,CX t)->(∀x∈b,A3 x)->G4 (Be e) (a.map ct) (b.map AA)=P6 e a b:=by
 intro a b c f;rw[<-SH a b (λt h=>g.val (c t h)) f];clear f;generalize b.map AA=ys
 induction a generalizing ys with
 |nil=>cases ys<;>simp[G4,Rd]
 |cons t a ih=>
  cases ys with
  |nil=>simp[G4,Rd]
  |cons y ys=>
   have d:=ih (λu i=>c u (by simp[i])) ys;unfold Rd at d⊢;rw[ii,G4,d,ln,kH,Hd (c t (by simp)),Et]
def fP(s:mc Af)(A:Df)(i:Nat)(e:mc zA)(m:mc zA):Prop:=∀y,y∈m↔∃t∈Gj s A i e,y=AA t
def Y2{fs:mc EN}{s:mc Af}{e:mc zA}{A:Df}{i:Nat}{m:mc zA}(d:Dc fs s)(r:CQ e)(u:∀t∈A.args,CX t)(v:∀f∈s,f.name=A.name->i<Z f.args)(h:WM (Be e) (A.args.map ct) i (fs.filter (Th A.name)) m):fP s A i e m:=by
 intro y;rw[h y];unfold Gj;constructor
 .rintro ⟨q,l,b,rfl⟩;obtain⟨x,o⟩:=ir.1 l;have j:q.f∈s.map BN:=by rw[<-d.same];exact it x
  obtain⟨g,a,p⟩:=gX.1 j;have w:g.name.toList==A.name.toList:=by
   (have z:q.f.name=g.name:=by rw[<-p];rfl);unfold Th at o;rw[z]at o;exact o
  have k:=v g a (toList_inj (by simpa using w));rw[<-p]at b⊢;unfold BN at b⊢;simp only at b⊢;rw[VF r _ _ u (d.canon g a)]at b;refine⟨g.args.getD i lU,gX.2 ⟨g,ir.2 ⟨a,by rw[w,b];rfl⟩,rfl⟩,?_⟩;rw[ia,ia,jf,gS k];rfl
 .rintro ⟨t,B,rfl⟩;obtain⟨g,a,rfl⟩:=gX.1 B;obtain⟨a,c⟩:=ir.1 a;rw[iq]at c;have k:=v g a (toList_inj (by simpa using c.1));have j:BN g∈fs.map EN.f:=by rw[d.same];exact it a
  obtain⟨q,l,n⟩:=gX.1 j;refine⟨q,ir.2 ⟨l,?_⟩,?_,?_⟩
  .unfold Th;rw[n];exact c.1
  .rw[n];unfold BN;simp only;rw[VF r _ _ u (d.canon g a)];exact c.2
  .rw[n];unfold BN;simp only;rw[ia,ia,jf,gS k];rfl
def fC(a b:zA):Prop:=Fh (AA a) (AA b)=j1
def VK(x:zA):mc zA->mc zA
 |[]=>[x]
 |y::l=>if Fh (AA x) (AA y)then x::y::l else if x.toList==y.toList then y::l else y::VK x l
def dZ{a b:zA}(e:A3 a)(f:A3 b)(d:Fh (AA a) (AA b)=false)(c:Fh (AA b) (AA a)=false):a=b:=by
 refine FQ e f ?_;cases he:eE (AA a) (AA b)with
 |true=>exact(FE.eqv _ _).1 he
 |false=>rw[FE.tot _ _ d he]at c;cases c
def Qt(x:zA):∀(l:mc zA) (y:zA),y∈VK x l↔y=x\/y∈l
 |[],y=>by simp[VK]
 |z::l,y=>by
  rw[VK];split
  .simp
  .split
   .rename_i a;have e:x=z:=toList_inj (by simpa using a);rw[e];simp
   .rw[gP,Qt x l,gP];constructor<;>(rintro (h|h|h)<;>simp[h])
def Sk{x:zA}(d:A3 x):∀(l:mc zA),(∀y∈l,A3 y)->l.Pairwise fC->(VK x l).Pairwise fC
 |[],_,_=>by simp[VK]
 |z::l,hc,hp=>by
  obtain⟨c,f⟩:=jz.1 hp;rw[VK];split
  .rename_i b;refine jz.2 ⟨λy a=>?_,hp⟩;rcases gP.1 a with rfl|a
   .exact b
   .exact FE.trans _ _ _ b (c y a)
  .rename_i g;split
   .exact hp
   .rename_i e;refine jz.2 ⟨λy a=>?_,Sk d l (λy a=>hc y (by simp[a])) f⟩;rcases(Qt x l y).1 a with rfl|a
    .cases hg:Fh (AA z) (AA y)with
     |true=>exact hg
     |false=>exact absurd (by rw[dZ d (hc z (by simp)) (by simpa using g) hg];simp) e
    .exact c y a
def JB(body:mc Bi)(s:mc Af)(v:UInt8)(e:mc zA)(t:zA):Prop:=CA body s v e≠[]/\∀l∈CA body s v e,t∈l
def gc(body:mc Bi)(s:mc Af)(v:UInt8)(e:mc zA):mc zA:=match CA body s v e with
 |[]=>[]
 |l::ls=>l.filter λt=>ls.all λm=>m.any λx=>x.toList==t.toList
def Im(body:mc Bi)(s:mc Af)(v:UInt8)(e:mc zA):mc zA:=(gc body s v e).foldr VK []
def Qa:∀(l:mc zA) (y:zA),y∈l.foldr VK []↔y∈l
 |[],y=>Iff.rfl
 |x::l,y=>by rw[List.foldr_cons,Qt,Qa l,gP]
def Sc:∀(l:mc zA),(∀y∈l,A3 y)->(l.foldr VK []).Pairwise fC
 |[],_=>List.Pairwise.nil
 |x::l,h=>Sk (h x (by simp)) _ (λy a=>h y (by simp[(Qa l y).1 a])) (Sc l λy a=>h y (by simp[a]))
def XM(c:mc Bi)(s:mc Af)(v:UInt8)(e:mc zA)(t:zA):t∈gc c s v e↔JB c s v e t:=by
 unfold gc JB;cases CA c s v e with
 |nil=>simp
 |cons l ls=>
  rw[ir,ji];have a:∀m:mc zA,(m.any λx=>x.toList==t.toList)=j1↔t∈m:=λm=>by
   rw[jg];constructor
   .rintro ⟨x,f,e⟩;rw[<-toList_inj (by simpa using e:x.toList=t.toList)];exact f
   .exact λh=>⟨t,h,by simp⟩
  simp only[a];constructor
  .rintro ⟨d,b⟩;refine⟨by simp,λm a=>?_⟩;rcases gP.1 a with rfl|a
   .exact d
   .exact b m a
  .rintro ⟨_,b⟩;exact⟨b l (by simp),λm a=>b m (by simp[a])⟩
def ER(a:mc Bi)(s:mc Af):Oy (Im a s) a s:=λv e t=>(Qa _ t).trans (XM a s v e t)
def Mm{a:mc Bi}{s:mc Af}{v:UInt8}{e:mc zA}(h:∀t,JB a s v e t->A3 t):(Im a s v e).Pairwise fC:=Sc _ λt b=>h t ((XM a s v e t).1 b)
def El(fs:mc EN)(b:mc zA)(v:Int):mc PL->mc (mc zA)->Prop
 |[],r=>r=[]
 |x::l,r=>if x.sort=0 then∃n,Rk x.ts ⟨v,lU⟩ n/\(if n<0 then El fs b v l r else∃m r',r=m::r'/\WM b x.ts n.toNat (fs.filter (Th x.an)) m/\El fs b v l r')else El fs b v l r
def eO{ts:mc AE}(h:∀t∈ts,CX t){v:UInt8}(e:Ed v){n:Int}(x:Rk (ts.map ct) ⟨(v.toNat:Int),lU⟩ n):(n<0/\ts.findIdx? (λt=>t.v==v)=Y)\/(0<=n/\ts.findIdx? (λt=>t.v==v)=V n.toNat):=by
 have b:∀t∈ts,IG ⟨(v.toNat:Int),lU⟩ (ct t)=(t.v==v):=by
  intro t a;unfold IG;have p:((v.toNat:Int)==(ct t).v)=(t.v==v):=by
   rw[<-ez t v,jl];simp only[jA];exact⟨λh=>h.symm,λh=>h.symm⟩
  simp only[p];cases hb:(t.v==v)with
  |false=>rfl
  |true=>
   (have m:t.v=v:=by simpa using hb);rcases h t a with⟨g,_⟩|⟨_,_,u⟩
   .rw[m]at g;rw[g]at e;exact absurd e.1 (by decide)
   .have w:(ct t).s=lU:=by
     unfold ct;simp only;rw[u];rfl
    rw[w,jq];simp
 rcases x with⟨rfl,l⟩|⟨k,o,rfl,c,r⟩
 .left;refine⟨by decide,List.findIdx?_eq_none_iff.2 (λt a=>?_)⟩;rw[<-b t a];exact l _ (it a)
 .right;have d:k<Z ts:=by simpa using o
  refine⟨by omega,?_⟩;rw[show((k:Nat):Int).toNat=k by omega];refine jL.2 ⟨d,?_,λj q=>?_⟩
  .rw[<-b _ (gL d)];rw[List.getElem_map]at c;exact c
  ·(have i:j<Z ts:=by omega);have f:=r j (by simpa using i) q;rw[List.getElem_map,b _ (gL i)]at f;simpa using f
def XI(s:mc Af)(body:mc Bi):Prop:=∀f∈s,∀x∈body,(x.kind==97)=j1->f.name=x.A.name->Z f.args=Z x.A.args
def Yw{fs:mc EN}{s:mc Af}{e:mc zA}(u:Dc fs s)(F:CQ e){v:UInt8}(G:Ed v):∀(a:mc Bi),(∀x∈a,Do x)->XI s a->∀r,El fs (Be e) (v.toNat:Int) (a.map KF) r->F2 (λm l=>∀y,y∈m↔∃t∈l,y=AA t) r (CA a s v e)/\∀l∈CA a s v e,∀t∈l,A3 t
 |[],_,_,r,h=>by
  have h:r=[]:=h;subst h;exact⟨F2.nil,λl d=>by simp[CA]at d⟩
 |x::a,hb,hf,r,h=>by
  have ih:=Yw u F G a (λy q=>hb y (by simp[q])) (λf S y q=>hf f S y (by simp[q]));have W:=hb x (by simp);rw[ii,El]at h;have AT:(KF x).sort=Fs x.kind:=rfl;rw[AT]at h;have e1:CA (x::a) s v e=match(if x.kind==97 then(x.A.args.findIdx? λt=>t.v==v).map λi=>Gj s x.A i e else Y)with|some c=>c::CA a s v e|none=>CA a s v e:=by
   unfold CA;rw[List.filterMap_cons];generalize(if(x.kind==97)=j1 then(x.A.args.findIdx? λt=>t.v==v).map λi=>Gj s x.A i e else Y)=o;cases o<;>rfl
  rw[e1];by_cases b:(x.kind==97)=j1
  ·(have p:x.kind=97:=by simpa using b);(have k:Fs x.kind=0:=by rw[p];rfl);have E:∀t∈x.A.args,CX t:=by
    have:=W.zQ;unfold Bm at this;rw[b,kN,gY rfl]at this;exact this
   rw[gY k]at h;obtain⟨n,w,h⟩:=h;rw[gY b];rcases eO E G w with⟨A0,R⟩|⟨A1,z⟩
   .rw[gY A0]at h;rw[R];exact ih r h
   .rw[gV (by omega)]at h;obtain⟨m,M,rfl,Q,N⟩:=h;rw[z];simp only[jC];obtain⟨i1,P⟩:=ih M N;obtain⟨L,_,_⟩:=jL.1 z;have C:∀f∈s,f.name=x.A.name->n.toNat<Z f.args:=λf I w=>by
     rw[hf f I x (by simp) b w];exact L
    refine⟨F2.cons (Y2 u F E C Q) i1,λl d=>?_⟩;rcases gP.1 d with rfl|d
    .intro t B;unfold Gj at B;obtain⟨g,j,rfl⟩:=gX.1 B;obtain⟨j,D⟩:=ir.1 j;rw[iq]at D;have H:=C g j (toList_inj (by simpa using D.1));rw[ia,gS H];exact u.canon g j _ (gL H)
    .exact P l d
  ·(have p:x.kind≠97:=by simpa using b);have k:Fs x.kind≠0:=by
    intro T;have:=Ri x.kind;rw[T]at this;exact p (by simpa using this)
   rw[gV k]at h;rw[gV b];exact ih r h
def bc{r ls:mc (mc zA)}(h:F2 (λm l=>∀y,y∈m↔∃t∈l,y=AA t) r ls)(g:∀l∈ls,∀t∈l,A3 t)(y:zA):(r≠[]/\JI r y)↔∃t,(ls≠[]/\∀l∈ls,t∈l)/\y=AA t:=by
 cases r with
 |nil=>
  cases ls with
  |nil=>simp
  |cons l ls=>exact absurd h (by simp[F2])
 |cons m r=>
  cases ls with
  |nil=>exact absurd h (by simp[F2])
  |cons l ls=>
   have i:=h.mem;have o:=h.yS;constructor
   .rintro ⟨_,b⟩;obtain⟨t,j,e⟩:=(h.1 y).1 (b m (by simp));refine⟨t,⟨by simp,λk a=>?_⟩,e⟩;obtain⟨q,c,d⟩:=i k a;obtain⟨u,f,n⟩:=(d y).1 (b q c);have:u=t:=FQ (g k a u f) (g l (by simp) t j) (by rw[<-n,e]);rw[<-this];exact f
   .rintro ⟨t,⟨_,b⟩,rfl⟩;refine⟨by simp,λq c=>?_⟩;obtain⟨k,a,d⟩:=o q c;exact(d _).2 ⟨t,b k a,rfl⟩
def WG{fs:mc EN}{s:mc Af}{e:mc zA}(B:Dc fs s)(u:CQ e){v:UInt8}(w:Ed v){d:mc Bi}(A:∀x∈d,Do x)(o:XI s d){f:mc Vp}(n:El fs (Be e) (v.toNat:Int) (d.map KF) (f.map lW)){m:mc zA}(i:JL f m):m=(Im d s v e).map AA/\∀t∈Im d s v e,A3 t:=by
 obtain⟨z,k⟩:=Yw B u w d A o _ n;have j:∀t,JB d s v e t->A3 t:=by
  rintro t ⟨r,p⟩;cases hl:CA d s v e with
  |nil=>exact absurd hl r
  |cons l ls=>exact k l (by rw[hl];simp) t (p l (by rw[hl];simp))
 refine⟨?_,λt g=>j t ((ER d s v e t).1 g)⟩;refine G3 (lt:=λa b=>Fh a b=j1) (λa h=>by rw[FE.irr]at h;cases h) (λa b c=>FE.trans a b c) _ _ i.zL ?_ (λy=>?_)
 .rw[jQ];exact Mm j
 .rw[i.mem y];have q:(f≠[]/\JI (f.map lW) y)↔(f.map lW≠[]/\JI (f.map lW) y):=by
   rw[ne_eq,ne_eq,List.map_eq_nil_iff]
  rw[q,bc z k,gX];constructor
  .rintro ⟨t,g,rfl⟩;exact⟨t,(ER d s v e t).2 g,rfl⟩
  .rintro ⟨t,g,rfl⟩;exact⟨t,(ER d s v e t).1 g,rfl⟩
def K0{al:UInt8->mc zA->mc zA}{n:mc Bi}{s:mc Af}(i:∀v e,(al v e).Nodup)(c:∀v e,∀t∈al v e,t.size≠0):
  ∀(a:mc UInt8) (e:mc zA),Z e=26->a.Nodup->(∀v∈a,Ed v)->(Av al n s a e).Nodup
 |[],e,_,_,_=>by
  rw[Av];split<;>simp
 |v::a,e,he,hd,hv=>by
  rw[Av];obtain⟨f,j⟩:=jG.1 hd;have d:=hv v (by simp);have b:∀u∈a,Ed u:=λu o=>hv u (by simp[o])
  split
  .simp
  .unfold List.Nodup;rw[List.pairwise_flatMap];refine⟨λt _=>K0 i c a _ (by simp[he]) j b,?_⟩;refine List.Pairwise.imp ?_ (i v e);intro t u l x p y m k;subst k;have h:=(BG c a _ x (by simp[he]) b p).2.2.1 v d f;have g:=(BG c a _ x (by simp[he]) b m).2.2.1 v d f;rw[Kj he d]at h g;exact l (by rw[<-h,g])
def dE{a b:mc zA}(g:Z a=26)(j:Z b=26)(h:∀u,Ed u->OI a u=OI b u):a=b:=by
 refine List.ext_getElem (by omega) (λi f e=>?_);have c:(UInt8.ofNat (i+65)).toNat=i+65:=by
  rw[UInt8.toNat_ofNat'];omega
 have d:=h (UInt8.ofNat (i+65)) ⟨by rw[c];omega,by rw[c];omega⟩;unfold OI at d;rw[c,Nat.add_sub_cancel,ia,ia,gS f,gS e]at d;exact d
def YK{al:UInt8->mc zA->mc zA}{c:A6}{d n:mc UInt8}{s:mc Af}(A:∀v e,(al v e).Nodup)(j:∀v e,∀t∈al v e,t.size≠0)(y:Rc c d n)(p:d.Nodup)(z:∀v∈d,∃t∈c.head.args,t.v=v):(QT al c d n s).Nodup:=by
 have g:∀v∈d,Ed v:=λv h=>(y.ok v (lx h)).1
 unfold QT List.Nodup;rw[jQ];refine jV ?_ ((K0 A j d Bs rfl p g).filter _);intro a b C w q B;have k:=BG j d Bs a rfl g (ir.1 C).1;have o:=BG j d Bs b rfl g (ir.1 w).1;refine q (dE k.1 o.1 (λu f=>?_));by_cases i:u∈d
 .obtain⟨t,r,rfl⟩:=z u i;have m:t.v≠0:=λh=>by rw[h]at f;exact absurd f.1 (by decide)
  have x:c.head.args.map (AR a)=c.head.args.map (AR b):=congrArg Af.args B;have l:=List.map_inj_left.1 x t r;rw[Eh m,Eh m]at l;exact l
 .rw[k.2.2.1 u f i,o.2.2.1 u f i]
def Vw:∀(l:mc Af) (s:mc Af),Ef s->(∀f∈s,AJ f)->l.Nodup->(∀f∈l,f∉s/\AJ f)->Z (l.foldl A9 s)=Z s+Z l
 |[],s,_,_,_,_=>by simp
 |f::l,s,hr,hc,hn,h=>by
  obtain⟨n,k⟩:=jG.1 hn;obtain⟨j,e⟩:=h f (by simp);obtain⟨a,b,m⟩:=Dg e hr hc;rw[iA,Vw l (A9 s f) a b k (λg c=>⟨λi=>?_,(h g (by simp[c])).2⟩),(Kn s f).2 j,gW]
  .omega
  .rcases(m g).1 i with d|d
   .exact(h g (by simp[c])).1 d
   .rw[d]at c;exact n c
def Iq{b:mc Bi}{s:mc Af}(q:∀f∈s,AJ f)(n:XI s b):∀v e t,JB b s v e t->A3 t:=by
 rintro v e t ⟨p,o⟩;cases hl:CA b s v e with
 |nil=>exact absurd hl p
 |cons l ls=>
  have g:=o l (by rw[hl];simp);have k:l∈CA b s v e:=by rw[hl];simp
  unfold CA at k;obtain⟨x,u,a⟩:=jy.1 k;by_cases c:(x.kind==97)=j1
  .rw[gY c,kF]at a;obtain⟨i,r,rfl⟩:=a;obtain⟨w,_,_⟩:=jL.1 r;unfold Gj at g;obtain⟨f,m,rfl⟩:=gX.1 g;obtain⟨j,d⟩:=ir.1 m;rw[iq]at d;have y:=n f j x u c (toList_inj (by simpa using d.1));(have h:i<Z f.args:=by omega);rw[ia,gS h];exact q f j _ (gL h)
  .rw[gV c]at a;cases a
def R1{c:mc Bi}{s:mc Af}(g:∀f∈s,AJ f)(i:XI s c)(v:UInt8)(e:mc zA):(Im c s v e).Nodup:=by
 refine List.Pairwise.imp ?_ (Mm (Iq g i v e));intro a b h d;subst d;unfold fC at h;rw[FE.irr]at h;cases h
theorem Tryz.yR:(Tryz.prog.info? 102).map (λi=>(i.zero,i.size,i.bytes))=V (V (U Y 0 0),1,24):=by kernel_rfl
def RX{w w':l9}{p:Vp}{base n:Nat}{v:lN}{a:mc lN}(h:lQ w 0 170 1 p.2 (Z p.1) (p.1.flatMap Ah))(c:lQ w base 102 1 v n a)(b:w.grownBy w' v.ownBlock):lQ w' 0 170 1 p.2 (Z p.1) (p.1.flatMap Ah):=
 je h b (by
  cases hp:p.2.ownBlock with
  |none=>exact lx rfl
  |some q=>exact ly (λe=>A7 h c (by decide) q hp e.symm))
theorem Uc(sp kb ko:Nat)(bad:Option Addr)(bcp:Nat)(ls:mc Ks)(ov:lN)(sad:Option Addr)(scp:Nat)(fs:mc EN)(v:Int)(b:mc zA)(w:l9)(hb:Z b=26)(hS:Om w sp kb ko (U bad (Z ls) bcp) ov sad scp fs)(hB:BP w 0 (U bad (Z ls) bcp) ls)(hlen:Z fs<=10000)(hll:Z ls<=1000)(hl:∀p∈ls,OK p.1)(hpair:fs.Pairwise λa b=>Cm a.f b.f<0)
  (hmono:∀(X:CG) i j (hi:i<Z fs) (hj:j<Z fs),i<=j->Cm fs[j].f X<0->Cm fs[i].f X<0)
  (hq:∀p∈ls,p.1.sort=0->∀q∈fs,Th p.1.an q=j1->Z p.1.ts<=Z q.f.zC):
  Calls prog 178 #[kt (V ⟨sp,0,Y⟩),.int .i32 v,lR (j3 (Aj b))] w λr w'=>∃(ad:Option Addr) (cp:Nat) (m:mc zA) (ps:mc Vp),r=lo (U ad (Z m) cp)/\JL ps m/\El fs b v (ls.map lW) (ps.map lW)/\lQ w' w.heap.size 170 1 (U ad (Z m) cp) (Z m) (m.flatMap Ah)/\Ac [] w w':=by
 obtain⟨i0,hi0,hz0,hz1,hz2⟩:=iR Tryz.yR;have HSe:=Ab hS;have HBo:=Ab hB;have HIx:lO (∀(x:PL) ad cp wz,Ac [] w wz->OK x->J1 w 0 (x,U ad (Z x.ts) cp)->Calls prog 206 #[U ad (Z x.ts) cp,lR #[.int .i32 v,O ⟨#[]⟩]] wz λr w'=>∃n,r=lo (.int J n)/\Rk x.ts ⟨v,lU⟩ n/\Ac [] wz w'):=λx ad cp wz hk hc hx=>ZC ad cp x.ts ⟨v,lU⟩ 0 wz (hx.kept hk (by simp)) (by have:=hc.len;omega)
 have HCo:lO (∀(x:PL) ad cp (at_:Nat) wz,Ac [] w wz->OK x->J1 w 0 (x,U ad (Z x.ts) cp)->(∀q∈fs,Th x.an q=j1->Z x.ts<=Z q.f.zC)->at_<Z x.ts->Calls prog 207 #[kt (V ⟨sp,0,Y⟩),lR #[.int J x.ap,O x.an,U ad (Z x.ts) cp],.int J at_,lR (j3 (Aj b))] wz λr w'=>∃(ad:Option Addr) (cp:Nat) (m:mc zA),r=lo (U ad (Z m) cp)/\CE Fh m/\WM b x.ts at_ (fs.filter (Th x.an)) m/\Z m<=Z fs/\lQ w' wz.heap.size 170 1 (U ad (Z m) cp) (Z m) (m.flatMap Ah)/\Ac [] wz w'):=
  λx ad cp at_ wz hk hc hx hqx hat=>VW sp kb ko _ ov sad scp fs x.ap x.an ad cp x.ts at_ b wz hb (hS.kept hk) (hx.kept hk (by simp)) hc.len hc.ts (by omega) hpair (hmono _) (λq hqm hqn=>⟨hqx q hqm hqn,by have:=hqx q hqm hqn;omega⟩)
 have HLc:=Ab hl;have HQq:=Ab hq;have hc:=Bv b;have hl26:Z (Aj b)=26:=by unfold Aj;simp[hb]
 have HL26:=Ab hl26;obtain⟨E,hE⟩:∃E,Aj b=E:=⟨_,rfl⟩;rw[hE]at hc hl26 HL26 HCo⊢;have HN:=Ab (mf w E 243);have HK:=Ab ((me [] w).alloc (j2 (j3 E) 243));clear hE hS hB hl hmono hq hpair;obtain⟨CC,hCC⟩:∃CC:mc (mc zA)->Prop,CC=El fs b v (ls.map lW):=⟨_,rfl⟩;have HR:lO (∀R,El fs b v ((ls.drop 0).map lW) R->CC (([]:mc Vp).map lW++R)):=λR h=>by rw[hCC];exact h
 rw[<-hCC];clear hCC;obtain⟨W0,hW0⟩:∃W0,w.heap.size=W0:=⟨_,rfl⟩;have HW0:=Ab hW0;go_enter func178,ntmps178;apply wp_seq_k;intro KK hKK;have HKK:=Ab hKK;clear hKK;go_wp2;refine HKK _ _ ?_;clear HKK KK;generalize hw1:w.alloc (j2 (j3 E) 243)=w1 at HN HK⊢;clear hw1;rw[hW0]at HN⊢;clear hW0;have s1:=(HSe.kept HK).zO.cell 1;simp at s1;go_wp2_with fail
 go_loopg [7,16] (Z ls) (λgk o i wr=>∃(k:Nat) (ps:mc Vp) (ado:Option Addr) (cpo:Nat),o=U ado (Z ps) cpo/\i=.int J k/\k<=Z ls/\gk=Z ls-k/\Z ps<=k/\lO (∀R,El fs b v ((ls.drop k).map lW) R->CC (ps.map lW++R))/\lO (lQ wr W0 102 1 (U ado (Z ps) cpo) (Z ps) (ps.flatMap λp=>[p.2]))/\lO (∀p∈ps,lQ wr 0 170 1 p.2 (Z p.1) (p.1.flatMap Ah)/\CE Fh p.1/\Z p.1<=10000)/\lO (AH wr W0 E 243)/\lO (Ac [] w wr))
 case atStart=>exact⟨0,[],Y,0,rfl,rfl,by omega,rfl,by simp,HR,ip _ _ _ _,(λp hp=>by cases hp),HN,HK⟩
 case round=>
  clear HR HN HK s1;obtain⟨k,ps,ado,cpo,rfl,rfl,hk,hgk,hpl,HR,HO,HE,HN,HK⟩:=hrel;have HG:=Ab hgk;clear hgk;by_cases zY:k<Z ls
  .obtain⟨g,cap,x,xad,xcp,he,hlk,_,d0,d1,d2,d3,d4,d5,d6,d7,d8⟩:=TI (HBo.kept HK (by simp)) k zY;simp only[gM]at he;obtain⟨rfl,_,rfl⟩:=he;(have hmem:(x,U xad (Z x.ts) xcp)∈ls:=by rw[<-hlk];exact gL zY);have hLx:=Aa HLc _ hmem;have hPx:J1 w 0 (x,U xad (Z x.ts) xcp):=(HBo.each _ hmem).1;(have hQx:x.sort=0->∀q∈fs,Th x.an q=j1->Z x.ts<=Z q.f.zC:=λh=>HQq _ hmem h);have HR2:lO (∀R,(if x.sort=0 then∃n,Rk x.ts ⟨v,lU⟩ n/\(if n<0 then El fs b v ((ls.drop (k+1)).map lW) R else∃m r',R=m::r'/\WM b x.ts n.toNat (fs.filter (Th x.an)) m/\El fs b v ((ls.drop (k+1)).map lW) r')else El fs b v ((ls.drop (k+1)).map lW) R)->CC (ps.map lW++R)):=by
    intro R h;refine HR R ?_;rw[ij zY,ii,hlk];exact h
   have HKa:=Ab (HK.alloc (j2 (j3 (Aw (x,U xad (Z x.ts) xcp))) 217));have HOa:=Ab (gU HO (j2 (j3 (Aw (x,U xad (Z x.ts) xcp))) 217));(have HEa:lO (∀p∈ps,lQ (wr.alloc (j2 (j3 (Aw (x,U xad (Z x.ts) xcp))) 217)) 0 170 1 p.2 (Z p.1) (p.1.flatMap Ah)/\CE Fh p.1/\Z p.1<=10000):=λp hp=>⟨gU (HE p hp).1 _,(HE p hp).2⟩);have HBa:=Ab (HN.alloc (j2 (j3 (Aw (x,U xad (Z x.ts) xcp))) 217));have HXa:=Ab (mf wr (Aw (x,U xad (Z x.ts) xcp)) 217);have HC1:=Ab (HIx x xad xcp _ HKa hLx hPx);have HC2:=Ab (λat_ wz hk hq=>HCo x xad xcp at_ wz hk hLx hPx hq);have HQx:=Ab hQx;(have hsw:W0<=wr.heap.size:=by have:=HK.size;have:=Aa HW0;omega);obtain⟨pl,so,ap,an,ts,⟨lv,lsv⟩,⟨rv,rsv⟩⟩:=x;simp only[Aw]at HKa HOa HEa HBa HXa HC1 HC2 HR2 HQx d0 d1 d2 d3 d4 d5 d6 d7 d8;clear hlk hmem hLx hPx hQx HR HO HE HN HK;by_cases hso:so=0
   ·(have hsb:(so !=0)=false:=by simp[hso]);(have hsc:(so==0)=j1:=by simp[hso]);have HQy:=Ab (HQx hso);(have HR3:lO (∀R,(∃n,Rk ts ⟨v,lU⟩ n/\(if n<0 then El fs b v ((ls.drop (k+1)).map lW) R else∃m r',R=m::r'/\WM b ts n.toNat (fs.filter (Th an)) m/\El fs b v ((ls.drop (k+1)).map lW) r'))->CC (ps.map lW++R)):=λR h=>HR2 R (by rw[gY hso];exact h));clear HR2 HQx hso;(go_wp2_with fail);refine HC1.mono ?_;rintro _ w3 ⟨n,rfl,hidx,k3⟩;have HId:=Ab hidx;have HK3:=Ab (HKa.trans k3);have HB3:=Ab (HBa.kept k3 (by simp));have hX3:=HXa.kept k3 (by simp);have HO3:=Ab (Ad HOa k3 (by simp));(have HE3:lO (∀p∈ps,lQ w3 0 170 1 p.2 (Z p.1) (p.1.flatMap Ah)/\CE Fh p.1/\Z p.1<=10000):=λp hp=>⟨Ad (HEa p hp).1 k3 (by simp),(HEa p hp).2⟩);clear hidx HC1 HKa HBa HOa HEa k3 d0 d1 d2 d3 d4 d5 d6 d7 d8 HXa;by_cases hn:n<0
    ·(have hn0:¬(0:Int)<=n:=by omega);(have HR4:lO (∀R,El fs b v ((ls.drop (k+1)).map lW) R->CC (ps.map lW++R)):=λR h=>HR3 R ⟨n,HId,by rw[gY hn];exact h⟩);clear HR3 hn HC2 hX3;go_wp2
     go_roundg (Z ls-(k+1))
     case measure=>have:=Aa HG;omega
     case rel=>exact⟨k+1,ps,ado,cpo,rfl,by go_num,by omega,rfl,by omega,HR4,HO3,HE3,HB3,HK3⟩
    ·(have hn0:(0:Int)<=n:=by omega);obtain⟨at_,rfl⟩:∃at_:Nat,n=(at_:Int):=⟨n.toNat,by omega⟩;have hat:at_<Z ts:=by
      rcases HId with⟨h,_⟩|⟨j,hj,h,_⟩
      .omega
      .omega
     have HC4:=Ab (HC2 at_ w3 HK3 HQy hat);have e0:=hX3.cell 0;have e1:=hX3.cell 1;have e2:=hX3.cell 2;have e3:=hX3.cell 3;have e4:=hX3.cell 4;simp at e0 e1 e2 e3 e4;clear hX3 HC2 hn;go_wp2_with ((with_reducible show wpList _ _ _ ({dst:=_,op:=Op.load 243 _,type:=_,pos:=_,after:=_,guard:=_}::_) _ _);refine BH (by rfl) 243 _ rfl W0 0 (by rfl) E _ HB3.range underlying243 rfl (by rw[Aa HL26];exact Tryz.zH) ?_)
     refine HC4.mono ?_;rintro _ w4 ⟨cad,ccp,m,rfl,hris,hcol,hml,hrow,k4⟩;have HK4:=Ab (HK3.trans k4);have HB4:=Ab (HB3.kept k4 (by simp));have hO4:=Ad HO3 k4 (by simp);(have HE4:lO (∀p∈ps,lQ w4 0 170 1 p.2 (Z p.1) (p.1.flatMap Ah)/\CE Fh p.1/\Z p.1<=10000):=λp hp=>⟨Ad (HE3 p hp).1 k4 (by simp),(HE3 p hp).2⟩);have HRow:lO (lQ w4 0 170 1 (U cad (Z m) ccp) (Z m) (m.flatMap Ah)):=Am hrow (ik _);have HRi:lO (CE Fh m/\Z m<=10000):=⟨hris,by omega⟩;have HR4:lO (∀R,El fs b v ((ls.drop (k+1)).map lW) R->CC ((ps++[(m,U cad (Z m) ccp)]).map lW++R)):=by
      intro R h;have h2:=Aa HR3 (m::R) ⟨at_,HId,by rw[gV (by omega)];exact⟨m,R,rfl,by rw[show((at_:Nat):Int).toNat=at_ by omega];exact hcol,h⟩⟩;rw[iG,iT];exact h2
     (have hs4:W0<=w4.heap.size:=by have:=HK4.size;have:=Aa HW0;omega);clear HC4 HK3 HB3 HO3 HE3 k4 hris hcol hml hrow HR3 e0 e1 e2 e3 e4;obtain⟨ml,hml⟩:∃ml,Z m=ml:=⟨_,rfl⟩;have HMl:=Ab hml;rw[hml]at HR4 HRow⊢;clear hml;go_wp2_with (at_builtin;refine io _ rfl (.tmp 31) (.tmp 38) _ rfl W0 102 i0 _ 1 24 underlying303 hi0 hz0 hz1 hz2 rfl (by omega) (U ado (Z ps) cpo) (Z ps) (ps.flatMap λp=>[p.2]) rfl (gU hO4 _) ⟨w4.heap.size,0,Y⟩ 1 1 [U cad ml ccp] rfl rfl (iu (cs:=#[U cad ml ccp]) (t:=102) (fr:=(0,0)) (iD w4 _)) (by simp[Value.oneCell']) (by omega) (by unfold maxLen;omega) (by omega) (by simp;omega) (w4.heap.size+1) (by simp) ?_;intro g1 cp1 w9 ho1 hg1 ha1 hl1)
     have HO9:lO (lQ w9 W0 102 1 (U (V ⟨g1,0,Y⟩) (Z (ps++[(m,U cad ml ccp)])) cp1) (Z (ps++[(m,U cad ml ccp)])) ((ps++[(m,U cad ml ccp)]).flatMap λp=>[p.2])):=by
      rw[ix];simp only[ib,gW,iv,iM,il,jh,iJ];exact ho1
     have HE9:lO (∀p∈ps++[(m,U cad ml ccp)],lQ w9 0 170 1 p.2 (Z p.1) (p.1.flatMap Ah)/\CE Fh p.1/\Z p.1<=10000):=by
      intro p hp;rcases ic.1 hp with h|h
      .exact⟨RX (gU (HE4 p h).1 _) (gU hO4 _) hg1,(HE4 p h).2⟩
      .simp only[gN]at h;subst h;exact⟨RX (p:=(m,U cad ml ccp)) (gU (by rw[Aa HMl];exact HRow) _) (gU hO4 _) hg1,HRi⟩
     have HK9:=Ab ((HK4.alloc (j2 #[U cad ml ccp] 102)).grown hg1 (λq hq=>ly (by have:=(hO4.lt q hq).1;have:=Aa HW0;omega)));have HB9:lO (AH w9 W0 E 243):=(HB4.alloc (j2 #[U cad ml ccp] 102)).grown hg1 (Ar hO4 HB4 (by decide));clear ho1 hg1 ha1 hl1 hO4 HE4 HK4 HB4 HRow
     go_roundg (Z ls-(k+1))
     case measure=>have:=Aa HG;omega
     case rel=>exact⟨k+1,ps++[(m,U cad ml ccp)],V ⟨g1,0,Y⟩,cp1,by simp,by go_num,by omega,rfl,by simp;omega,HR4,HO9,HE9,HB9,HK9⟩
   ·(have hsb:(so !=0)=j1:=by simp[hso]);(have hsc:(so==0)=false:=by simp[hso]);(have HR4:lO (∀R,El fs b v ((ls.drop (k+1)).map lW) R->CC (ps.map lW++R)):=λR h=>HR2 R (by rw[gV hso];exact h));clear hso HR2 HC1 HC2 HQx;go_wp2
    go_roundg (Z ls-(k+1))
    case measure=>have:=Aa HG;omega
    case rel=>exact⟨k+1,ps,ado,cpo,rfl,by go_num,by omega,rfl,by omega,HR4,HOa,HEa,HBa,HKa⟩
  .have HR3:lO (CC (ps.map lW)):=by
    have h:=Aa HR [] (by rw[iC (by omega)];rfl);rw[iJ]at h;exact h
   have HCm:=Ab (V3 ado cpo ps wr ⟨Am HO (ik _),HE⟩ (by omega));clear HR HO HE HN;(go_wp2_with fail);refine HCm.mono ?_;rintro _ w3 ⟨ad,cp,m,rfl,hcom,hrow,k3⟩;have HCo2:=Ab hcom;have HRow:=Ab (Am hrow (show w.heap.size<=wr.heap.size from HK.size))
   have HK3:=Ab (HK.trans k3);obtain⟨ml,hml⟩:∃ml,Z m=ml:=⟨_,rfl⟩;have HMl:=Ab hml;rw[hml];clear hcom hrow k3 HCm hml;go_wp2;go_ret;rw[<-Aa HMl];refine⟨ad,cp,m,ps,rfl,HCo2,HR3,?_,HK3⟩;rw[<-Aa HW0];exact HRow
def Cw(vs:mc UInt8):mc Int:=vs.map λv=>(v.toNat:Int)
structure aQ(w:l9)(sp:Nat)(body:mc Bi)(s:mc Af)(vs:mc UInt8):Prop where
 at_:∃(kb ko:Nat) (bad:Option Addr) (bcp:Nat) (zD:mc Ks) (oad:Option Addr) (ocp:Nat) (sad:Option Addr) (scp:Nat) (fs:mc EN),
  Om w sp kb ko (U bad (Z zD) bcp) (U oad (Z (Cw vs)) ocp) sad scp fs/\BP w 0 (U bad (Z zD) bcp) zD/\zD.map lW=body.map KF/\
  lQ w 0 21 1 (U oad (Z (Cw vs)) ocp) (Z (Cw vs)) ((Cw vs).flatMap AP)/\Dc fs s
 len:Z s<=10000
 lits:∀x∈body,Do x/\OK (KF x)
 blen:Z body<=1000
 z9:Z vs<=1000
 fit:XI s body
 ok:∀v∈vs,Ed v
def aQ.kept{w w':l9}{a:Nat}{c:mc Bi}{s:mc Af}{b:mc UInt8}(h:aQ w a c s b)(k:Ac [] w w'):aQ w' a c s b:=by
 obtain⟨t,n,u,l,i,o,d,r,g,p,j,e,q,f,m⟩:=h.at_;exact⟨⟨t,n,u,l,i,o,d,r,g,p,j.kept k,e.kept k (by simp),q,Ad f k (by simp),m⟩,h.len,h.lits,h.blen,h.z9,h.fit,h.ok⟩
def Dc.len{fs:mc EN}{s:mc Af}(h:Dc fs s):Z fs=Z s:=by
 have:=congrArg List.length h.same;simpa using this
def SC{w:l9}{b:Nat}{a:mc Bi}{s:mc Af}{q:mc UInt8}(h:aQ w b a s q){e:mc zA}(i:CQ e):
  Calls prog 177 #[kt (V ⟨b,0,Y⟩),lR (j3 (Aj (Be e)))] w λr g=>r=lo (.bool (DL a s e))/\Ac [] w g:=by
 obtain⟨E,u,o,n,j,F,I,v,A,C,t,m,d,H,c⟩:=h.at_;have L:=c.len;have N:Z j=Z a:=by have:=congrArg List.length d;simpa using this
 have G:=h.blen;have M:=h.len;refine(Xg b E u o n j _ v A C (Be e) w (Hb i) t m (by omega) (by omega) (λp y=>?_) (λz=>c.mono z)).mono ?_
 .have:p.1∈a.map KF:=by rw[<-d];exact it y
  obtain⟨x,f,D⟩:=gX.1 this;rw[<-D];exact(h.lits x f).2
 .rintro r g ⟨B,rfl,l,k⟩;rw[d]at l;exact⟨by rw[VN c i a (λx f=>(h.lits x f).1) B l],k⟩
def Ua{w:l9}{o:Nat}{a:mc Bi}{s:mc Af}{N:mc UInt8}(h:aQ w o a s N){e:mc zA}(D:CQ e){v:UInt8}(hv:Ed v):
  Calls prog 178 #[kt (V ⟨o,0,Y⟩),X .i32 (v.toNat:Int),lR (j3 (Aj (Be e)))] w λr t=>∃(l:Option Addr) (n:Nat),r=lo (U l (Z ((Im a s v e).map AA)) n)/\
   lQ t w.heap.size 170 1 (U l (Z ((Im a s v e).map AA)) n) (Z ((Im a s v e).map AA)) (((Im a s v e).map AA).flatMap Ah)/\Ac [] w t:=by
 obtain⟨kb,Q,I,G,y,Bx,B0,R,T,W,P,F,u,h4,b⟩:=h.at_;have hl:=b.len;have CC:Z y=Z a:=by have:=congrArg List.length u;simpa using this
 have hb:=h.blen;have hn:=h.len;have C:∀p∈y,∃x∈a,KF x=p.1:=λp c=>by
  have:p.1∈a.map KF:=by rw[<-u];exact it c
  exact gX.1 this
 refine(Uc o kb Q I G y _ R T W (v.toNat:Int) (Be e) w (Hb D) P F (by omega) (by omega) (λp c=>?_) b.pair (λS=>b.mono S) (λp c E q M j=>?_)).mono ?_
 .obtain⟨x,d,i⟩:=C p c;rw[<-i];exact(h.lits x d).2
 .obtain⟨x,d,i⟩:=C p c;have hm:q.f∈s.map BN:=by rw[<-b.same];exact it M
  obtain⟨g,H,B⟩:=gX.1 hm;rw[<-i]at E j⊢;have L:(x.kind==97)=j1:=by
   rw[<-Ri];have:Fs x.kind=0:=E;rw[this];rfl
  have AT:g.name=x.A.name:=by
   unfold Th at j;rw[<-B]at j;exact toList_inj (by simpa[KF,BN] using j)
  have:=h.fit g H x d L AT;rw[<-B];simp[KF,BN];omega
 .rintro r t ⟨l,n,m,ps,rfl,hc,z,A0,k⟩;rw[u]at z;obtain⟨i,_⟩:=WG b D hv (λx d=>(h.lits x d).1) h.fit z hc;rw[<-i];exact⟨l,n,rfl,A0,k⟩
def ZG{w:l9}{b:Nat}{a:mc Bi}{s:mc Af}{d:mc UInt8}(h:aQ w b a s d)(v:UInt8)(e:mc zA):∀t∈Im a s v e,A3 t:=by
 obtain⟨y,n,k,i,x,j,p,o,q,r,m,g,u,l,f⟩:=h.at_;exact λt c=>Iq f.canon h.fit v e t ((ER a s v e t).1 c)
def ZL{w:l9}{f:Nat}{l:mc Bi}{s:mc Af}{a:mc UInt8}(h:aQ w f l s a)(k:Nat)(m:k<Z a):
  ∃(d c:Nat) (t:lN) (g b:Nat),AH w f [kt (V ⟨d,c,Y⟩),t,U (V ⟨g,0,Y⟩) (Z a) b] 237/\lP w ⟨g,k,Y⟩=V (X .i32 (a[k].toNat:Int)):=by
 obtain⟨d,c,y,v,F,x,B,A,C,D,o,u,E,n,z⟩:=h.at_;have j:k<Z (Cw a):=by unfold Cw;simpa using m
 obtain⟨g,b,q,r⟩:=Qd n k j;have p:Z (Cw a)=Z a:=by unfold Cw;simp
 have i:=o.zO;rw[q,p]at i;refine⟨d,c,_,g,b,i,?_⟩;have e:(Cw a)[k]=(a[k].toNat:Int):=by simp[Cw]
 rw[r,e]
