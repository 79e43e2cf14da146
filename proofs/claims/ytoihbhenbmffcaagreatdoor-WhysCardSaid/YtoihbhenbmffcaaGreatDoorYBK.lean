import Derived.Test.YtoihbhenbmffcaaGreatDoorYBJ
import Derived.Test.YtoihbhenbmffcaaGreatDoorYBE
set_option linter.all false
set_option maxHeartbeats 0
open List renaming length->Z,toArray->j2
open Option renaming none->Y,some->V
open Go.Value renaming slice->U,int->X,string->O,pointer->j3,agg->jH
open Go.IntKind renaming i64->J
open Bool renaming true->jj
open Go.Obj renaming cells->j1
open Go.Ending renaming returned->j4
open Or renaming inl->j5,inr->j6
open Go renaming World->j7,Value->j8
open Go.RowKit renaming Hid->j9
open Go.World renaming cell?->jF,ownsRow->jG
open ByteArray renaming empty->jK
open Prod renaming fst->jM
open Go.Act renaming put->jO
namespace Go.Proofs.YtoihbhenbmffcaaGreatDoor
open Go.RowKit Go.Proofs.Tryz
def VK(b:List g0)(ts:List AO)(at_:Nat)(fs:List Fe)(m:List g0):Prop:=∀y,y∈m↔∃q∈fs,GT b ts q.f.zB=jj/\y=q.f.zB.getD at_ jK
structure WD(w:j7)(N:Nat)(ap:Int)(nm:g0)(tv:j8)(E:List j8)(b:List g0)(ts:List AO)(at_:Nat)(pre:List Fe)(M:List Nat)(W:j7):Prop where
 kept:Ac [] w W
 b5:AI W N [X J ap,O nm,tv] 187
 b6:AI W (N+1) [X J at_] 3
 b7:AI W (N+2) E 243
 out:∃(m:List g0) (ad:Option Addr) (cp:Nat),AI W (N+3) [U ad (Z m) cp] 102/\jG W N 170 1 (U ad (Z m) cp) (Z m) (m.flatMap Ah)/\CP E8 m/\VK b ts at_ pre m/\Z m<=Z pre/\M=(N+3)::(U ad (Z m) cp).ownBlock.toList
def WD.own{w:j7}{N B:Nat}{ap:Int}{nm:g0}{tv:j8}{E:List j8}{b:List g0}{ts:List AO}{at_:Nat}(f:w.heap.size<=B):OwnFrom B (fun(s:List Fe×List Nat) W=>WD w N ap nm tv E b ts at_ s.1 s.2 W):=
 B7 (λs W j M h k a=>by
  obtain⟨m,i,e,d,c,g⟩:=h.out
  exact⟨EZ h.kept k a f,h.b5.kept k (CS a h.b5),h.b6.kept k (CS a h.b6),h.b7.kept k (CS a h.b7),m,i,e,d.kept k (CS a d),Al c k (Ct a c),g⟩)
set_option maxRecDepth 100000
theorem UL(sp kb ko:Nat)(bv ov:j8)(sad:Option Addr)(scp:Nat)(fs:List Fe)(ap:Int)(nm:g0)(tad:Option Addr)(tcp:Nat)(ts:List AO)(at_:Nat)(b:List g0)(w:j7)(hb:Z b=26)(hS:NU w sp kb ko bv ov sad scp fs)
  (ht:jG w 0 215 2 (U tad (Z ts) tcp) (Z ts) (ts.flatMap Aq)) (htl:Z ts<=1000) (hv:∀t∈ts,Oa t) (hlen:Z fs<=900000) (hpair:fs.Pairwise λa b=>Cx a.f b.f<0)
  (hmono:∀i j (hi:i<Z fs) (hj:j<Z fs),i<=j->Cx fs[j].f ⟨nm,[]⟩<0->Cx fs[i].f ⟨nm,[]⟩<0)
  (hq:∀q∈fs,Sh nm q=jj->Z ts<=Z q.f.zB/\at_<Z q.f.zB):
  Calls prog 207 #[j3 (V ⟨sp,0,none⟩),jH #[.int J ap,O nm,U tad (Z ts) tcp],.int J at_,jH (j2 (Ai b))] w λr w'=>∃(ad:Option Addr) (cp:Nat) (m:List g0),r=j4 (U ad (Z m) cp)/\CP E8 m/\VK b ts at_ (fs.filter (Sh nm)) m/\Z m<=Z fs/\jG w' w.heap.size 170 1 (U ad (Z m) cp) (Z m) (m.flatMap Ah)/\Ac [] w w':=by
 have HFi:j9 (∀nb (p:Fe) wz,p∈fs->Sh nm p=jj->Ac [] w wz->AI wz nb (Ai b) 243->Calls prog 222 #[j3 (V ⟨nb,0,none⟩),jH #[.int J ap,O nm,U tad (Z ts) tcp],jH (j2 (AW p))] wz λr w'=>r=j4 (.bool (GT b ts p.f.zB))/\Ac [] wz w'):=λnb p wz hp hn hk hB=>aw nb 243 b ap nm tad tcp ts p 0 wz hb hB (Ad ht hk (by simp)) ((hS.facts.each p hp).1.kept hk) (by omega) (hq p hp hn).1 hv
 have HIt:j9 (∀b1 b2 M0 wz,jF wz ⟨b1,0,none⟩=V (j3 (V ⟨kb,ko,none⟩))->Sz w b2 nm M0 wz->K0 prog 235 #[j3 (V ⟨b1,0,none⟩),j3 (V ⟨b2,0,none⟩)] (λq:Fe=>#[jH (j2 (AW q))]) (fs.filter (Sh nm)) M0 wz):=λb1 b2 M0 wz h1 hO=>bC b1 b2 kb ko sad scp fs nm w wz M0 h1 hO hS.set hS.facts hlen hpair hmono
 have HSe:=Ab hS;have HQ:=Ab hq;have hc:=Bj b;have hl26:Z (Ai b)=26:=by unfold Ai;simp[hb]
 obtain⟨E,hE⟩:∃E,Ai b=E:=⟨_,rfl⟩;rw[hE]at hc hl26 HFi⊢;clear hE hS hpair hmono hq hv;have HTr:=Ab ht;clear ht;obtain⟨N,hN⟩:∃N,w.heap.size=N:=⟨_,rfl⟩;have HN:=Ab hN;obtain⟨w1,hw1⟩:∃w1,(((w.alloc (j1 #[.int J ap,O nm,U tad (Z ts) tcp] 187)).alloc (j1 #[.int J at_] 3)).alloc (j1 (j2 E) 243)).alloc (j1 #[U none 0 0] 102)=w1:=⟨_,rfl⟩;have HW1:=Ab hw1;have hK1:Ac [] w w1:=by rw[<-hw1];exact((((Ac.refl [] w).alloc _).alloc _).alloc _).alloc _
 have hB5:AI w1 N [.int J ap,O nm,U tad (Z ts) tcp] 187:=by
  rw[<-hw1,<-hN];exact(((AI.new w [.int J ap,O nm,U tad (Z ts) tcp] 187).alloc _).alloc _).alloc _
 have hB6:AI w1 (N+1) [.int J at_] 3:=by
  rw[<-hw1];have h:=((AI.new (w.alloc (j1 #[.int J ap,O nm,U tad (Z ts) tcp] 187)) [.int J at_] 3).alloc (j1 (j2 E) 243)).alloc (j1 #[U none 0 0] 102);rw[fg,hN]at h;exact h
 have hB7:AI w1 (N+2) E 243:=by
  rw[<-hw1];have h:=(AI.new ((w.alloc (j1 #[.int J ap,O nm,U tad (Z ts) tcp] 187)).alloc (j1 #[.int J at_] 3)) E 243).alloc (j1 #[U none 0 0] 102);rw[fg,fg,hN]at h;exact h
 have hB9:AI w1 (N+3) [U none 0 0] 102:=by
  rw[<-hw1];have h:=AI.new (((w.alloc (j1 #[.int J ap,O nm,U tad (Z ts) tcp] 187)).alloc (j1 #[.int J at_] 3)).alloc (j1 (j2 E) 243)) [U none 0 0] 102;rw[fg,fg,fg,hN]at h;exact h
 have HI1:j9 (WD w N ap nm (U tad (Z ts) tcp) E b ts at_ [] [N+3] w1):=⟨hK1,hB5,hB6,hB7,[],none,0,hB9,eU _ _ _ _,λi j h=>absurd h (by simp),λy=>by simp,by simp,by simp[Value.ownBlock]⟩;have HB9:=Ab hB9.lt;clear hw1 hK1 hB5 hB6 hB7 hB9 hN;refine FS func207 rfl ?_;simp only[ntmps207,fU,eF,fb,Nat.reduceAdd,Nat.reduceSub,iK,iL,iY,iR,gd,gO];have hNO:¬LetsOut (bodyPostM Fence.wide 0 prog Tryz.f207 λr w'=>∃(ad:Option Addr) (cp:Nat) (m:List g0),r=j4 (U ad (Z m) cp)/\CP E8 m/\VK b ts at_ (fs.filter (Sh nm)) m/\Z m<=Z fs/\jG w' w.heap.size 170 1 (U ad (Z m) cp) (Z m) (m.flatMap Ah)/\Ac [] w w'):=Yd (λ_ ⟨_,_,_,h,_⟩=>by cases h);obtain⟨QQ,hQQ⟩:∃QQ,(bodyPostM Fence.wide 0 prog Tryz.f207 λr w'=>∃(ad:Option Addr) (cp:Nat) (m:List g0),r=j4 (U ad (Z m) cp)/\CP E8 m/\VK b ts at_ (fs.filter (Sh nm)) m/\Z m<=Z fs/\jG w' w.heap.size 170 1 (U ad (Z m) cp) (Z m) (m.flatMap Ah)/\Ac [] w w')=QQ:=⟨_,rfl⟩;have HQQ:=Ab hQQ;rw[hQQ]at hNO⊢;have HNO:=Ab hNO;clear hQQ hNO;refine jT (λK1 HK1=>?_);go_wp2;refine HK1 _ _ ?_;clear HK1 K1;refine jT (λK1 HK1=>?_);go_wp2;refine HK1 _ _ ?_;clear HK1 K1;change Code.wp _ _ _ _ ((((w.alloc (j1 #[.int J ap,O nm,U tad (Z ts) tcp] 187)).alloc (j1 #[.int J at_] 3)).alloc (j1 (j2 E) 243)).alloc (j1 #[U none 0 0] 102));rw[Aa HW1,Aa HN];clear HW1;have HCs:j9 (∀wz,Ac [] w1 wz->jF wz ⟨sp,0,none⟩=V (j3 (V ⟨kb,ko,none⟩))/\jF wz ⟨N,1,none⟩=V (O nm)):=λwz hk=>by
  have h1:=(HSe.kept (HI1.kept.trans hk)).zO.cell 0;have h2:=(HI1.b5.kept hk (by simp)).cell 1;simp at h1 h2;exact⟨h1,h2⟩
 have HOf:j9 (∀wz,Calls prog 221 #[j3 (V ⟨kb,ko,none⟩),O nm] wz λr w'=>∃b1 b2,r=j4 (.func (.func 235) #[] #[j3 (V ⟨b1,0,none⟩),j3 (V ⟨b2,0,none⟩)])/\AI w' b1 [j3 (V ⟨kb,ko,none⟩)] 69/\AI w' b2 [O nm] 9/\wz.heap.size<=b1/\wz.heap.size<=b2/\Ac [] wz w'):=λwz=>XC kb ko nm wz
 obtain⟨s0,s1⟩:=HCs w1 (Ac.refl _ _);refine jT (λK1 HK1=>?_);refine jT (λK2 HK2=>?_)
 go_region_held3 (λwz=>Ac [] w1 wz/\jF wz ⟨sp,0,none⟩=V (j3 (V ⟨kb,ko,none⟩))/\jF wz ⟨N,1,none⟩=V (O nm)) ((go_split_ands;refine(fun(hkz:Ac [] w1 _)=>And.intro hkz (HCs _ hkz)) ?_;repeat (first|assumption|exact Ac.refl [] _|refine Ac.drew ?_|refine Ac.alloc ?_ _))) ((go_at_call 221;refine(HOf _).mono ?_;rintro e w3 ⟨b1,b2,rfl,hb1,hb2,hl1,hl2,k3⟩;have hk3:Ac [] w1 w3:=(by go_split_ands;exact Ac.trans (by assumption) k3);have HB1:=Ab hb1;have HB2:=Ab hb2;have HK3:=Ab hk3;have HL3:j9 (w1.heap.size<=b1/\w1.heap.size<=b2):=⟨hl1,hl2⟩;clear hb1 hb2 hl1 hl2 k3 hk3))
 refine HK2 _ _ ?_;clear HK2 K2 s0 s1 HOf HCs;refine wp_block ?_;have HI3:j9 (WD w N ap nm (U tad (Z ts) tcp) E b ts at_ [] [N+3] w3):=BI (WD.own (eM _)) (s:=([],[N+3])) HI1 HK3;have HO3:j9 (Sz w b2 nm [N+3] w3):=by
  have h1:=HB2.cell 0;simp at h1;refine⟨HI3.kept,h1,λk hk=>?_⟩;have hn:=Aa HN;have h2:=HL3.2;have h3:=Aa HB9;have h4:=HK3.size;simp only[ex]at hk;omega
 have zm:=Aa HIt b1 b2 [N+3] w3 (by have h:=HB1.cell 0;simp at h;exact h) HO3;have hw3:N+4<=w3.heap.size:=by have h3:=Aa HB9;have h4:=HK3.size;omega
 refine Km (T:=104) (q:=10) rfl (enters_of func235 (by kernel_rfl) rfl) zm (λk hk=>by simp only[ex]at hk;omega) (WD w N ap nm (U tad (Z ts) tcp) E b ts at_) (λ_ _ _ _=>False) (WD.own (by have:=Aa HN;omega)) (λ_ _ _ _ _ h _ _=>h) HI3 ?assign ?body ?done ?stop
 case assign=>
  intro l x W K hx HK;have hxf:=(e9.1 hx).1;obtain⟨⟨xn,xt⟩,xv⟩:=x;obtain⟨xad,xcp,hxv⟩:=Ak (HSe.facts.each _ hxf).1;simp only at hxv;subst hxv;simp only[AW]at HK⊢;clear hx hxf;simp only[ee,ej,el]at HK⊢;refine Bi (by rfl) (J5 Ih) ?_;go_wp2;refine HK _ ((Ac.refl [] W).alloc _) ?_;exact AI.new W [O xn,U xad (Z xt) xcp] 104
 case body=>
  intro l Bx pre x rest M W hxs hi hM hBx hB;have hx:x∈fs.filter (Sh nm):=by rw[hxs];simp
  have hxf:=(e9.1 hx).1;have hxn:=(e9.1 hx).2;have hxa:=(HQ x hxf hxn).2;have HCall:=Ab (HFi (N+2) x W hxf hxn hi.kept hi.b7);have HPf:j9 (DL W x):=(HSe.facts.each x hxf).1.kept hi.kept;have HPw:j9 (DL w x):=(HSe.facts.each x hxf).1;obtain⟨⟨xn,xt⟩,xv⟩:=x;obtain⟨xad,xcp,hxv⟩:=Ak HPf;simp only at hxv hxa;subst hxv;obtain⟨m,mad,mcp,h9,hrow,hrise,hcol,hml,hMe⟩:=hi.out;simp only[AW]at HCall hB⊢;have d0:=hi.b5.cell 0;have d1:=hi.b5.cell 1;have d2:=hi.b5.cell 2;have e0:=hB.cell 0;have e1:=hB.cell 1;simp at d0 d1 d2 e0 e1;have HIi:=Ab hi;have HBx:=Ab hB;have H9:=Ab h9;have HRow:=Ab hrow;have HRise:=Ab hrise;have HCol:=Ab hcol;have HMe:=Ab hMe;obtain⟨X,hX⟩:∃X:Fe,X=⟨⟨xn,xt⟩,U xad (Z xt) xcp⟩:=⟨_,rfl⟩;have HXX:=Ab hX;rw[<-hX]at hxs⊢;clear hx hxf hxn hi hB h9 hrow hrise hcol hMe hM hX;obtain⟨F,hF⟩:∃F,GT b ts xt=F:=⟨_,rfl⟩;rw[hF]at HCall;have HF:=Ab hF;clear hF;simp only[ee,ej,el];refine wpIn_block ?_;refine ia (λK3 hK3=>?_);have HK3':=Ab hK3;clear hK3;refine Bi (by rfl) (by rintro ⟨_,_,h⟩;exact h) ?_;go_wp2_with fail
  refine HCall.mono ?_;rintro _ w4 ⟨rfl,k4⟩;have HK4:=Ab k4;clear k4 d0 d1 d2 e0 e1 HCall;go_wp2;refine HK3' _ _ ?_;clear HK3' K3;cases F with
  |false=>
   refine iW rfl (wpIn_skip ?_);refine⟨HK4.mono (by simp),M,?_,λk hk=>⟨j5 hk,?_⟩⟩
   .have hi4:=BI (WD.own (N:=N) (ap:=ap) (nm:=nm) (tv:=U tad (Z ts) tcp) (E:=E) (b:=b) (ts:=ts) (at_:=at_) (eM w.heap.size)) (s:=(pre,M)) HIi HK4;obtain⟨m',ad',cp',g1,g2,g3,g4,g5,g6⟩:=hi4.out;refine⟨hi4.kept,hi4.b5,hi4.b6,hi4.b7,m',ad',cp',g1,g2,g3,λy=>?_,by have:=g5;simp at this⊢;omega,g6⟩;rw[g4 y];constructor
    .rintro ⟨q,hq,hh⟩;exact⟨q,by simp[hq],hh⟩
    .rintro ⟨q,hq,hh⟩;rcases eG.1 hq with hq|hq
     .exact⟨q,hq,hh⟩
     .simp only[ex]at hq;subst hq;rw[Aa HXX]at hh;rw[Aa HF]at hh;cases hh.1
   .rw[Aa HMe]at hk;have h4:=HK4.size;rcases ey.1 hk with rfl|hk
    .have:=H9.lt;omega
    .have:=(HRow.lt k (by simpa using hk)).2;omega
  |true=>
   refine i9 rfl ?_;have hro4:=Al HRow HK4 (by simp);have hnap:(U mad (Z m) mcp).ownBlock≠V (N+3):=Ap hro4 (H9.kept HK4 (by simp)) (by decide);obtain⟨gx,cx,hex,hxc⟩:=FM HPw at_ hxa;simp only[ei]at hex;obtain⟨rfl,-,rfl⟩:=hex;obtain⟨Y,hY⟩:∃Y,xt[at_]=Y:=⟨_,rfl⟩;rw[hY]at hxc;have hgx:=MC hxc;have HSS:j9 (∀wz,Ac (U mad (Z m) mcp).ownBlock.toList w4 wz->jF wz ⟨N+3,0,none⟩=V (U mad (Z m) mcp)/\jF wz ⟨Bx,1,none⟩=V (U (V ⟨gx,0,none⟩) (Z xt) xcp)/\jF wz ⟨N+1,0,none⟩=V (.int J at_)/\jF wz ⟨gx,at_,none⟩=V (O Y)):=by
    intro wz hz;have a1:=((H9.kept HK4 (by simp)).kept hz (λhm=>hnap (by simpa using hm))).cell 0;have a2:=((HBx.kept HK4 (by simp)).kept hz (λhm=>Ap hro4 (HBx.kept HK4 (by simp)) (by decide) (by simpa using hm))).cell 1;have a3:=((HIi.b6.kept HK4 (by simp)).kept hz (λhm=>Ap hro4 (HIi.b6.kept HK4 (by simp)) (by decide) (by simpa using hm))).cell 0;have a4:=JT hz (HK4.cellAt (HIi.kept.cellAt hxc)) (λhm=>by have:=(hro4.lt gx (by simpa using hm)).1;have:=Aa HN;omega);simp at a1 a2 a3;exact⟨a1,a2,a3,a4⟩
   have HHS:=Ab (HSS w4.drew (Ac.refl _ _).drew);(have hat0:(0:Int)<=(at_:Int):=by omega);(have hat1:(at_:Int)<(Z xt:Int):=by omega);have HAdd:=Ab (Ul mad mcp m Y N w4.drew hro4.drew (by have h1:=congrArg List.length hxs;have h2:=fZ (Sh nm) fs;simp at h1;omega) HRise (by have:=HIi.kept.size;have:=HK4.size;have:=Aa HN;show N<=w4.heap.size;omega));have HYg:j9 (xt.getD at_ jK=Y):=by
    show _=_;rw[eK,ez hxa,hY];rfl
   clear hY hxc hro4;refine D2 7 (λwz=>jF wz ⟨N+3,0,none⟩=V (U mad (Z m) mcp)/\jF wz ⟨Bx,1,none⟩=V (U (V ⟨gx,0,none⟩) (Z xt) xcp)/\jF wz ⟨N+1,0,none⟩=V (.int J at_)/\jF wz ⟨gx,at_,none⟩=V (O Y)) (by kernel_rfl) (by rfl) (by rintro ⟨_,_,h⟩;exact h) ?_;refine CI.tk (i:=0) (v:=U mad (Z m) mcp) rfl (by kernel_rfl) (λ_ _ _ h=>h) HHS (by rfl) ?_ ?_
   ·(rintro wz ⟨z0,z1,z2,z3⟩;go_simp)
   simp only[jO,ee,ej,el];refine CI.tk (i:=1) (v:=j3 (V ⟨Bx,1,none⟩)) rfl (by kernel_rfl) (λ_ _ _ h=>h) HHS (by rfl) ?_ ?_
   ·(rintro wz ⟨z0,z1,z2,z3⟩;go_simp)
   simp only[jO,ee,ej,el];refine CI.tk (i:=2) (v:=U (V ⟨gx,0,none⟩) (Z xt) xcp) rfl (by kernel_rfl) (λ_ _ _ h=>h) HHS (by rfl) ?_ ?_
   ·(rintro wz ⟨z0,z1,z2,z3⟩;go_simp)
   simp only[jO,ee,ej,el];refine CI.tk (i:=3) (v:=.int J at_) rfl (by kernel_rfl) (λ_ _ _ h=>h) HHS (by rfl) ?_ ?_
   ·(rintro wz ⟨z0,z1,z2,z3⟩;go_simp)
   simp only[jO,ee,ej,el];refine CI.tk (i:=4) (v:=j3 (V ⟨gx,at_,none⟩)) rfl (by kernel_rfl) (λ_ _ _ h=>h) HHS (by rfl) ?_ ?_
   ·(rintro wz ⟨z0,z1,z2,z3⟩;go_simp)
   simp only[jO,ee,ej,el];refine CI.tk (i:=5) (v:=O Y) rfl (by kernel_rfl) (λ_ _ _ h=>h) HHS (by rfl) ?_ ?_
   ·(rintro wz ⟨z0,z1,z2,z3⟩;go_simp)
   simp only[jO,ee,ej,el];refine CI.one (i:=6) (by kernel_rfl) rfl (λK hK=>?_)
   go_simp
   refine HAdd.mono ?_;rintro e w5 ⟨m',ad',cp',rfl,hr',hmem,hl1,hl2,hown,hk5,hfr⟩;have hk5':Ac (U mad (Z m) mcp).ownBlock.toList w4 w5:=(Ac.refl _ _).drew.trans hk5;refine hK.out _ _ (λ_=>HSS w5 hk5') ?_;clear hK K
   try simp only[jO,ee,ej,el]
   have h95:AI w5 (N+3) [U mad (Z m) mcp] 102:=(H9.kept HK4 (by simp)).kept hk5' (λhm=>hnap (by simpa using hm));have c9:=h95.cell 0;have f9:=h95.frozen 0;simp at c9;refine CI.one (i:=7) (by kernel_rfl) rfl (λK hK=>?_)
   go_simp
   refine hK.out _ _ (λh=>absurd rfl h) ?_;clear hK K;refine CI.done (by kernel_rfl) ?_ _;have hnap2:(U ad' (Z m') cp').ownBlock≠V (N+3):=Ap hown h95 (by decide);have hM6:Ac M W (w5.setCell ⟨N+3,0,none⟩ (U ad' (Z m') cp')):=by
    rw[Aa HMe];exact((HK4.mono (by simp)).trans (hk5'.mono (λi hi=>fu _ hi))).setCell (p:=⟨N+3,0,none⟩) (j5 (fI ..)) _
   have hMge:∀k∈M,N<=k:=by
    intro k hk;rw[Aa HMe]at hk;rcases ey.1 hk with rfl|hk
    .omega
    .exact(HRow.lt k (by simpa using hk)).1
   have hap:∀{bb:Nat} {cs:List j8} {t:TypeId},AI W bb cs t->bb≠N+3->170≠t->bb∉M:=by
    intro bb cs t hbb hne htt hm;rw[Aa HMe]at hm;rcases ey.1 hm with rfl|hm
    .exact hne rfl
    .exact Ap HRow hbb htt (by simpa using hm)
   refine⟨hM6,(N+3)::(U ad' (Z m') cp').ownBlock.toList,⟨HIi.kept.trans' hM6 (λk hk=>j6 (by have:=hMge k hk;have:=Aa HN;omega)),HIi.b5.kept hM6 (hap HIi.b5 (by omega) (by decide)),HIi.b6.kept hM6 (hap HIi.b6 (by omega) (by decide)),HIi.b7.kept hM6 (hap HIi.b7 (by omega) (by decide)),m',ad',cp',h95.set 0 _,Ag hown hnap2 _,hr',λy=>?_,by simp;omega,rfl⟩,λk hk=>?_⟩
   .rw[hmem y,Aa HCol y];constructor
    .rintro (rfl|⟨q,hq,hh⟩)
     .exact⟨X,by simp,by rw[Aa HXX];exact HF,by rw[Aa HXX];exact HYg.symm⟩
     .exact⟨q,by simp[hq],hh⟩
    .rintro ⟨q,hq,hh⟩;rcases eG.1 hq with hq|hq
     .exact j6 ⟨q,hq,hh⟩
     .simp only[ex]at hq;subst hq;rw[Aa HXX]at hh;exact j5 (hh.2.trans HYg)
   .have h6:=hk5'.size;have h4:=HK4.size;rcases ey.1 hk with rfl|hk
    .exact⟨j5 (by rw[Aa HMe];exact fI ..),by have:=h95.lt;simp;omega⟩
    ·(have hk':(U ad' (Z m') cp').ownBlock=V k:=by simpa using hk);refine⟨?_,by have:=(hown.lt k hk').2;simp;omega⟩;rcases hfr k hk' with h|h
     .exact j5 (by rw[Aa HMe];exact fu _ (by rw[h];simp))
     .exact j6 (by have h2:w4.heap.size<=k:=h;omega)
 case done=>
  intro D M' W hD hi hd _;obtain⟨m,mad,mcp,h9,hrow,hrise,hcol,hml,hMe⟩:=hi.out;have c9:=h9.cell 0;simp at c9;refine HK1 _ _ ?_;clear HK1;simp only[gd];refine jT (λK3 HK3'=>?_);go_wp2;refine HK3' _ _ ?_;clear HK3' K3;refine wp_ret ?_;rw[<-Aa HQQ];have hown:OwnFrom w.heap.size (fun(_:Unit) W=>jG W N 170 1 (U mad (Z m) mcp) (Z m) (m.flatMap Ah)/\Ac [] w W):=B7 (λ_ W W' M h k hM=>⟨Al h.1 k (Ct hM h.1),EZ h.2 k hM (eM _)⟩);have hmk:D5 w.heap.size [D] W:=⟨by simp,λd hd'=>by simp only[ex]at hd';have:=HI3.kept.size;omega,λd hd'=>by simp only[ex]at hd';rw[hd'];exact hd⟩;refine D9 [D] W hmk (λw' hs=>?_);obtain⟨g1,g2⟩:=hs.own hown (s:=()) hmk ⟨hrow,hi.kept⟩;refine⟨_,results_tmp rfl _ _ _,mad,mcp,m,rfl,hrise,hcol,fJ hml (fZ _ _),?_,g2⟩;rw[Aa HN];exact g1
 case stop=>
  intro D c pre M' W _ h _;exact h.elim
structure Da(e:List g0):Prop where
 len:Z e=26
 each:∀x∈e,Qk x
def Da.start:Da BM:=⟨by simp[BM],λx a=>j5 (by rw[(List.mem_replicate.1 a).2];rfl)⟩
def Da.set{e:List g0}(h:Da e)(j:Nat){x:g0}(c:A3 x):Da (e.set j x):=⟨by simp[h.len],λy b=>by
 rcases List.mem_or_eq_of_mem_set b with a|rfl
 .exact h.each y a
 .exact j6 c⟩
def GZ{e:List g0}(h:Da e):Z (Bv e)=26:=by unfold Bv;rw[eL,h.len]
def PF{s:g0}(h:A3 s):Dp s=AA s:=by
 have a:=h.size;unfold Dp AA;rw[eE a];cases hn:Hp s with
 |false=>simp
 |true=>
  simp only[if_true];rcases h with⟨c,r,e,b,_⟩|h
  .unfold Hp at hn;rw[e,Ey]at hn;have:=of_decide_eq_true hn;omega
  .rw[eI h]
def G0{t:AG}(h:C0 t)(e:List g0):Bt (Bv e) (ct t)=TN (AJ e t):=by
 have f:(ct t).v.toNat=t.v.toNat:=by unfold ct;simp
 unfold Bt da;rw[f];rcases h with⟨a,c⟩|⟨b,g,_⟩
 .rw[a,eI (show(0:UInt8).toNat=0 from rfl)]
  unfold AJ;rw[eI a,CX c];exact PF c
 .have a:t.v≠0:=λd=>by rw[d]at b;exact absurd b (by decide)
  rw[eE (by omega),<-Eg];unfold Qi;rw[eE a]
def Da.val{e:List g0}(b:Da e){t:AG}(h:C0 t):Qk (AJ e t):=by
 unfold AJ;split
 .rename_i d;rcases h with⟨_,c⟩|⟨a,_⟩
  .exact j6 c
  .rw[d]at a;exact absurd a (by decide)
 .rw[eK];cases hg:e[t.v.toNat-65]? with
  |none=>exact j5 rfl
  |some x=>exact b.each x (List.mem_of_getElem? hg)
def Tm{e:List g0}(d:Da e){ts:List AG}(h:∀t∈ts,C0 t):Ga (Bv e) (ts.map ct)=DQ e ts:=by
 rw[<-LO ts (λt a=>d.val (h t a))];unfold Ga PJ;rw[List.all_map,gc,gN,gN];have c:∀t∈ts,((λt=> !So (Bt (Bv e) t))∘ct) t= !So (Qi (Bv e) t):=λt a=>by
  simp only[Function.comp];rw[G0 (h t a),Eg]
 exact⟨λb t a=>by rw[<-c t a];exact b t a,λb t a=>by rw[c t a];exact b t a⟩
def UV(x:BF):AV (LP x)=(BP x).map ct:=by
 unfold AV BP;rw[Ml];split<;>simp[LP]
def DA.zS{x:BF}(h:DA x):∀t∈BP x,C0 t:=by
 intro t a;unfold DA at h;unfold BP at a;split at h
 .rename_i b;rw[eI b]at a;exact h.args t a
 .rename_i b;rw[eE b]at a;rcases ey.1 a with rfl|a
  .exact h.1
  .rw[ex]at a;subst a;exact h.2.1
def Qp{e:List g0}(d:Da e){ts:List AG}(h:∀t∈ts,C0 t)(c:DQ e ts=jj):∀t∈ts,A3 (AJ e t):=by
 intro t b;rcases d.val (h t b)with h1|h1
 .have a:=gN.1 c t b;rw[(DO _).2 h1]at a;cases a
 .exact h1
def UB{e:List g0}{x:BF}(h:∀t∈x.A.args,C0 t)(b:∀t∈x.A.args,A3 (AJ e t)):EE (Bv e) (LP x)=BJ (Av e x.A):=by
 unfold EE BJ Av LP;simp only;rw[fN,fN]
 congr 1
 refine fQ (λt a=>?_);simp only[Function.comp];rw[G0 (h t a),CX (b t a)]
def FX{e:List g0}{A:Dj}(a:∀t∈A.args,A3 (AJ e t)):AM (Av e A):=by
 intro y b;obtain⟨t,c,rfl⟩:=eH.1 b;exact a t c
def Vo{fs:List Fe}{s:List Af}{e:List g0}{x:BF}{B:Bool}(t:Dl fs s)(D:Da e)(C:DA x)(z:DQ e (BP x)=jj)(h:Js fs (Bv e) (LP x) B):B=Cg (Av e) (AJ e) s x:=by
 have c:=C.zS;have b:=Qp D c z;have E:(LP x).sort=Fj x.kind:=rfl;unfold Js at h;unfold Cg;rw[E]at h;by_cases f:x.kind=97
 .have a:Fj x.kind=0:=by rw[f];rfl
  have d:BP x=x.A.args:=by unfold BP;rw[f];rfl
  rw[d]at c b;rw[eI a,UB c b]at h;rw[eI (by rw[f];rfl)];obtain⟨p,m,rfl⟩:=h;exact t.zm (FX b) m
 .have q:¬(x.kind==97)=jj:=by simpa using f
  rw[eE q];by_cases g:x.kind=33
  ·(have a:Fj x.kind=1:=by rw[g];rfl);(have d:BP x=x.A.args:=by unfold BP;rw[g];rfl);rw[d]at c b;rw[a,eE (by decide),eI rfl,UB c b]at h;rw[eI (by rw[g];rfl)];obtain⟨p,m,rfl⟩:=h;rw[t.zm (FX b) m]
  ·(have o:¬(x.kind==33)=jj:=by simpa using g);(have d:BP x=[x.L,x.R]:=by unfold BP;rw[eE (by rw[gr,not_or];exact⟨q,o⟩)]);rw[d]at c b;have k:=b x.L (by simp);have n:=b x.R (by simp);have u:Bt (Bv e) (LP x).l=Qi (Bv e) x.L:=(G0 (c x.L (by simp)) e).trans (Eg e x.L).symm;have w:Bt (Bv e) (LP x).r=Qi (Bv e) x.R:=(G0 (c x.R (by simp)) e).trans (Eg e x.R).symm;rw[u,w]at h;rw[eE o];by_cases i:x.kind=61
   ·(have a:Fj x.kind=2:=by rw[i];rfl);rw[a,eE (by decide),eE (by decide),eI rfl,Uf k n]at h;rw[eI (by rw[i];rfl)];exact h
   ·(have y:¬(x.kind==61)=jj:=by simpa using i);rw[eE y];by_cases j:x.kind=35
    ·(have a:Fj x.kind=3:=by rw[j];rfl);rw[a,eE (by decide),eE (by decide),eE (by decide),eI rfl,Uf k n]at h;rw[eI (by rw[j];rfl)];exact h
    ·(have v:¬(x.kind==35)=jj:=by simpa using j);(have a:Fj x.kind=4:=by unfold Fj;rw[eE f,eE g,eE i,eE j]);rw[a,eE (by decide),eE (by decide),eE (by decide),eE (by decide),Zt k n]at h;rw[eE v];exact h
def UC{fs:List Fe}{s:List Af}{e:List g0}(d:Dl fs s)(c:Da e):∀(a:List BF),(∀x∈a,DA x)->∀B,E1 fs (Bv e) (a.map LP) B->B=D8 a s e
 |[],_,B,h=>h
 |x::a,hb,B,h=>by
  have ih:=UC d c a (λy i=>hb y (by simp[i]));have f:=hb x (by simp);rw[eR,E1,UV,Tm c f.zS]at h;have g:D8 (x::a) s e=((DQ e (BP x)&& !Cg (Av e) (AJ e) s x)||D8 a s e):=by
   unfold D8;rw[iX]
  rw[g];cases hset:DQ e (BP x)with
  |false=>
   rw[hset,eE (by simp)]at h;rw[iA,ib];exact ih B h
  |true=>
   rw[hset,eI rfl]at h;obtain⟨H,j,b⟩:=h;have k:=Vo d c f hset j;rw[<-k,gq];cases H with
   |true=>
    rw[eI rfl]at b;rw[ig,ib];exact ih B b
   |false=>
    rw[eE (by simp)]at b;rw[b];rfl
def Uy{e:List g0}(g:Da e):∀(a:List AG) (b:List g0),(∀t∈a,C0 t)->(∀x∈b,A3 x)->GT (Bv e) (a.map ct) (b.map AA)=Pt e a b:=by
 intro a b c f;rw[<-RK a b (λt h=>g.val (c t h)) f];clear f;generalize b.map AA=ys
 induction a generalizing ys with
 |nil=>cases ys<;>simp[GT,Qt]
 |cons t a ih=>
  cases ys with
  |nil=>simp[GT,Qt]
  |cons y ys=>
   have d:=ih (λu i=>c u (by simp[i])) ys;unfold Qt at d⊢;rw[eR,GT,d,ji,iI,G0 (c t (by simp)),Eg]
def dS(s:List Af)(A:Dj)(i:Nat)(e:List g0)(m:List g0):Prop:=∀y,y∈m↔∃t∈F9 s A i e,y=AA t
def XU{fs:List Fe}{s:List Af}{e:List g0}{A:Dj}{i:Nat}{m:List g0}(d:Dl fs s)(r:Da e)(u:∀t∈A.args,C0 t)(v:∀f∈s,f.name=A.name->i<Z f.args)(h:VK (Bv e) (A.args.map ct) i (fs.filter (Sh A.name)) m):dS s A i e m:=by
 intro y;rw[h y];unfold F9;constructor
 .rintro ⟨q,l,b,rfl⟩;obtain⟨x,o⟩:=e9.1 l;have j:q.f∈s.map BJ:=by rw[<-d.same];exact eZ x
  obtain⟨g,a,p⟩:=eH.1 j;have w:g.name.toList==A.name.toList:=by
   (have z:q.f.name=g.name:=by rw[<-p];rfl);unfold Sh at o;rw[z]at o;exact o
  have k:=v g a (toList_inj (by simpa using w));rw[<-p]at b⊢;unfold BJ at b⊢;simp only at b⊢;rw[Uy r _ _ u (d.canon g a)]at b;refine⟨g.args.getD i jK,eH.2 ⟨g,e9.2 ⟨a,by rw[w,b];rfl⟩,rfl⟩,?_⟩;rw[eK,eK,fM,ez k];rfl
 .rintro ⟨t,B,rfl⟩;obtain⟨g,a,rfl⟩:=eH.1 B;obtain⟨a,c⟩:=e9.1 a;rw[eW]at c;have k:=v g a (toList_inj (by simpa using c.1));have j:BJ g∈fs.map Fe.f:=by rw[d.same];exact eZ a
  obtain⟨q,l,n⟩:=eH.1 j;refine⟨q,e9.2 ⟨l,?_⟩,?_,?_⟩
  .unfold Sh;rw[n];exact c.1
  .rw[n];unfold BJ;simp only;rw[Uy r _ _ u (d.canon g a)];exact c.2
  .rw[n];unfold BJ;simp only;rw[eK,eK,fM,ez k];rfl
def dR(a b:g0):Prop:=E8 (AA a) (AA b)=jj
def Zg(x:g0):List g0->List g0
 |[]=>[x]
 |y::l=>if E8 (AA x) (AA y)then x::y::l else if E8 (AA y) (AA x)then y::Zg x l else y::l
def cF{a b:g0}(e:A3 a)(f:A3 b)(d:E8 (AA a) (AA b)=false)(c:E8 (AA b) (AA a)=false):a=b:=by
 refine FE e f ?_;cases he:cX (AA a) (AA b)with
 |true=>exact(Gb.eqv _ _).1 he
 |false=>rw[Gb.tot _ _ d he]at c;cases c
def Ru{x:g0}(f:A3 x):∀(l:List g0),(∀y∈l,A3 y)->l.Pairwise dR->(Zg x l).Pairwise dR/\∀y,y∈Zg x l↔y=x\/y∈l
 |[],_,_=>⟨by simp[Zg],λy=>by simp[Zg]⟩
 |z::l,hc,hp=>by
  obtain⟨c,j⟩:=gE.1 hp;rw[Zg];split
  .rename_i b;refine⟨gE.2 ⟨λy a=>?_,hp⟩,λy=>by simp⟩;rcases ey.1 a with rfl|a
   .exact b
   .exact Gb.trans _ _ _ b (c y a)
  .rename_i m;split
   .rename_i i;obtain⟨g,d⟩:=Ru f l (λy a=>hc y (by simp[a])) j;refine⟨gE.2 ⟨λy a=>?_,g⟩,λy=>?_⟩
    .rcases(d y).1 a with rfl|a
     .exact i
     .exact c y a
    .rw[ey,d,ey];constructor
     .rintro (h|h|h)
      .exact j6 (j5 h)
      .exact j5 h
      .exact j6 (j6 h)
     .rintro (h|h|h)
      .exact j6 (j5 h)
      .exact j5 h
      .exact j6 (j6 h)
   .rename_i k;have e:=cF f (hc z (by simp)) (by simpa using m) (by simpa using k);refine⟨hp,λy=>?_⟩;rw[e];simp
def Xj:∀(l:List g0),(∀y∈l,A3 y)->∃r:List g0,r.Pairwise dR/\∀y,y∈r↔y∈l
 |[],_=>⟨[],List.Pairwise.nil,λy=>Iff.rfl⟩
 |x::l,h=>by
  obtain⟨r,d,b⟩:=Xj l (λy a=>h y (by simp[a]));obtain⟨e,c⟩:=Ru (h x (by simp)) r (λy a=>h y (by simp[(b y).1 a])) d;exact⟨Zg x r,e,λy=>by rw[c,b,ey]⟩
def Hw(body:List BF)(s:List Af)(v:UInt8)(e:List g0)(t:g0):Prop:=C1 body s v e≠[]/\∀l∈C1 body s v e,t∈l
def PH(c:List BF)(s:List Af)(v:UInt8)(e:List g0):∃r:List g0,(∀t,t∈r↔Hw c s v e t)/\((∀t,Hw c s v e t->A3 t)->r.Pairwise dR):=by
 have i:∃r:List g0,∀t,t∈r↔Hw c s v e t:=by
  unfold Hw;cases C1 c s v e with
  |nil=>exact⟨[],λt=>by simp⟩
  |cons l ls=>
   classical
   refine⟨l.filter λt=>decide (∀m∈ls,t∈m),λt=>?_⟩;rw[e9,decide_eq_true_iff];constructor
   .rintro ⟨f,a⟩;refine⟨by simp,λm b=>?_⟩;rcases ey.1 b with rfl|b
    .exact f
    .exact a m b
   .rintro ⟨_,a⟩;exact⟨a l (by simp),λm b=>a m (by simp[b])⟩
 obtain⟨r,d⟩:=i;by_cases g:∀t,Hw c s v e t->A3 t
 .obtain⟨q,f,a⟩:=Xj r (λy j=>g y ((d y).1 j));exact⟨q,λt=>by rw[a,d],λ_=>f⟩
 .exact⟨r,d,λh=>absurd h g⟩
noncomputable def Kv(body:List BF)(s:List Af)(v:UInt8)(e:List g0):List g0:=Classical.choose (PH body s v e)
def G2(a:List BF)(s:List Af):N6 (Kv a s) a s:=λv e t=>(Classical.choose_spec (PH a s v e)).1 t
def TK{a:List BF}{s:List Af}{v:UInt8}{e:List g0}(h:∀t,Hw a s v e t->A3 t):(Kv a s v e).Pairwise dR:=(Classical.choose_spec (PH a s v e)).2 h
def D7(fs:List Fe)(b:List g0)(v:Int):List PL->List (List g0)->Prop
 |[],r=>r=[]
 |x::l,r=>if x.sort=0 then∃n,Qx x.ts ⟨v,jK⟩ n/\(if n<0 then D7 fs b v l r else∃m r',r=m::r'/\VK b x.ts n.toNat (fs.filter (Sh x.an)) m/\D7 fs b v l r')else D7 fs b v l r
def dg{ts:List AG}(h:∀t∈ts,C0 t){v:UInt8}(e:F1 v){n:Int}(x:Qx (ts.map ct) ⟨(v.toNat:Int),jK⟩ n):(n<0/\ts.findIdx? (λt=>t.v==v)=Y)\/(0<=n/\ts.findIdx? (λt=>t.v==v)=V n.toNat):=by
 have b:∀t∈ts,Ip ⟨(v.toNat:Int),jK⟩ (ct t)=(t.v==v):=by
  intro t a;unfold Ip;have p:((v.toNat:Int)==(ct t).v)=(t.v==v):=by
   rw[<-cU t v,gc];simp only[gF];exact⟨λh=>h.symm,λh=>h.symm⟩
  simp only[p];cases hb:(t.v==v)with
  |false=>rfl
  |true=>
   (have m:t.v=v:=by simpa using hb);rcases h t a with⟨g,_⟩|⟨_,_,u⟩
   .rw[m]at g;rw[g]at e;exact absurd e.1 (by decide)
   .have w:(ct t).s=jK:=by
     unfold ct;simp only;rw[u];rfl
    rw[w,gq];simp
 rcases x with⟨rfl,l⟩|⟨k,o,rfl,c,r⟩
 .left;refine⟨by decide,List.findIdx?_eq_none_iff.2 (λt a=>?_)⟩;rw[<-b t a];exact l _ (eZ a)
 .right;have d:k<Z ts:=by simpa using o
  refine⟨by omega,?_⟩;rw[show((k:Nat):Int).toNat=k by omega];refine gK.2 ⟨d,?_,λj q=>?_⟩
  .rw[<-b _ (eo d)];rw[List.getElem_map]at c;exact c
  ·(have i:j<Z ts:=by omega);have f:=r j (by simpa using i) q;rw[List.getElem_map,b _ (eo i)]at f;simpa using f
def Ze(s:List Af)(body:List BF):Prop:=∀f∈s,∀x∈body,(x.kind==97)=jj->f.name=x.A.name->Z f.args=Z x.A.args
def Xm{fs:List Fe}{s:List Af}{e:List g0}(u:Dl fs s)(F:Da e){v:UInt8}(G:F1 v):∀(a:List BF),(∀x∈a,DA x)->Ze s a->∀r,D7 fs (Bv e) (v.toNat:Int) (a.map LP) r->F2 (λm l=>∀y,y∈m↔∃t∈l,y=AA t) r (C1 a s v e)/\∀l∈C1 a s v e,∀t∈l,A3 t
 |[],_,_,r,h=>by
  have h:r=[]:=h;subst h;exact⟨F2.nil,λl d=>by simp[C1]at d⟩
 |x::a,hb,hf,r,h=>by
  have ih:=Xm u F G a (λy q=>hb y (by simp[q])) (λf S y q=>hf f S y (by simp[q]));have W:=hb x (by simp);rw[eR,D7]at h;have AH:(LP x).sort=Fj x.kind:=rfl;rw[AH]at h;have e1:C1 (x::a) s v e=match(if x.kind==97 then(x.A.args.findIdx? λt=>t.v==v).map λi=>F9 s x.A i e else Y)with|some c=>c::C1 a s v e|none=>C1 a s v e:=by
   unfold C1;rw[jd];generalize(if(x.kind==97)=jj then(x.A.args.findIdx? λt=>t.v==v).map λi=>F9 s x.A i e else Y)=o;cases o<;>rfl
  rw[e1];by_cases b:(x.kind==97)=jj
  ·(have p:x.kind=97:=by simpa using b);(have k:Fj x.kind=0:=by rw[p];rfl);have E:∀t∈x.A.args,C0 t:=by
    have:=W.zS;unfold BP at this;rw[b,iG,eI rfl]at this;exact this
   rw[eI k]at h;obtain⟨n,w,h⟩:=h;rw[eI b];rcases dg E G w with⟨AT,R⟩|⟨A0,z⟩
   .rw[eI AT]at h;rw[R];exact ih r h
   .rw[eE (by omega)]at h;obtain⟨m,M,rfl,Q,N⟩:=h;rw[z];simp only[gu];obtain⟨i1,P⟩:=ih M N;obtain⟨L,_,_⟩:=gK.1 z;have C:∀f∈s,f.name=x.A.name->n.toNat<Z f.args:=λf I w=>by
     rw[hf f I x (by simp) b w];exact L
    refine⟨F2.cons (XU u F E C Q) i1,λl d=>?_⟩;rcases ey.1 d with rfl|d
    .intro t B;unfold F9 at B;obtain⟨g,j,rfl⟩:=eH.1 B;obtain⟨j,D⟩:=e9.1 j;rw[eW]at D;have H:=C g j (toList_inj (by simpa using D.1));rw[eK,ez H];exact u.canon g j _ (eo H)
    .exact P l d
  ·(have p:x.kind≠97:=by simpa using b);have k:Fj x.kind≠0:=by
    intro T;have:=Qv x.kind;rw[T]at this;exact p (by simpa using this)
   rw[eE k]at h;rw[eE b];exact ih r h
def ZL{r ls:List (List g0)}(h:F2 (λm l=>∀y,y∈m↔∃t∈l,y=AA t) r ls)(g:∀l∈ls,∀t∈l,A3 t)(y:g0):(r≠[]/\Jo r y)↔∃t,(ls≠[]/\∀l∈ls,t∈l)/\y=AA t:=by
 cases r with
 |nil=>
  cases ls with
  |nil=>simp
  |cons l ls=>exact absurd h (by simp[F2])
 |cons m r=>
  cases ls with
  |nil=>exact absurd h (by simp[F2])
  |cons l ls=>
   have i:=h.mem;have o:=h.yO;constructor
   .rintro ⟨_,b⟩;obtain⟨t,j,e⟩:=(h.1 y).1 (b m (by simp));refine⟨t,⟨by simp,λk a=>?_⟩,e⟩;obtain⟨q,c,d⟩:=i k a;obtain⟨u,f,n⟩:=(d y).1 (b q c);have:u=t:=FE (g k a u f) (g l (by simp) t j) (by rw[<-n,e]);rw[<-this];exact f
   .rintro ⟨t,⟨_,b⟩,rfl⟩;refine⟨by simp,λq c=>?_⟩;obtain⟨k,a,d⟩:=o q c;exact(d _).2 ⟨t,b k a,rfl⟩
def VC{fs:List Fe}{s:List Af}{e:List g0}(B:Dl fs s)(u:Da e){v:UInt8}(w:F1 v){d:List BF}(A:∀x∈d,DA x)(o:Ze s d){f:List Uk}(n:D7 fs (Bv e) (v.toNat:Int) (d.map LP) (f.map jM)){m:List g0}(i:Jq f m):m=(Kv d s v e).map AA/\∀t∈Kv d s v e,A3 t:=by
 obtain⟨z,k⟩:=Xm B u w d A o _ n;have j:∀t,Hw d s v e t->A3 t:=by
  rintro t ⟨r,p⟩;cases hl:C1 d s v e with
  |nil=>exact absurd hl r
  |cons l ls=>exact k l (by rw[hl];simp) t (p l (by rw[hl];simp))
 refine⟨?_,λt g=>j t ((G2 d s v e t).1 g)⟩;refine I3 (lt:=λa b=>E8 a b=jj) (λa h=>by rw[Gb.irr]at h;cases h) (λa b c=>Gb.trans a b c) _ _ i.zK ?_ (λy=>?_)
 .rw[gY];exact TK j
 .rw[i.mem y];have q:(f≠[]/\Jo (f.map jM) y)↔(f.map jM≠[]/\Jo (f.map jM) y):=by
   rw[ne_eq,ne_eq,List.map_eq_nil_iff]
  rw[q,ZL z k,eH];constructor
  .rintro ⟨t,g,rfl⟩;exact⟨t,(G2 d s v e t).2 g,rfl⟩
  .rintro ⟨t,g,rfl⟩;exact⟨t,(G2 d s v e t).1 g,rfl⟩
def KG{al:UInt8->List g0->List g0}{n:List BF}{s:List Af}(i:∀v e,(al v e).Nodup)(c:∀v e,∀t∈al v e,t.size≠0):
  ∀(a:List UInt8) (e:List g0),Z e=26->a.Nodup->(∀v∈a,F1 v)->(AE al n s a e).Nodup
 |[],e,_,_,_=>by
  rw[AE];split<;>simp
 |v::a,e,he,hd,hv=>by
  rw[AE];obtain⟨f,j⟩:=gX.1 hd;have d:=hv v (by simp);have b:∀u∈a,F1 u:=λu o=>hv u (by simp[o])
  split
  .simp
  .unfold List.Nodup;rw[List.pairwise_flatMap];refine⟨λt _=>KG i c a _ (by simp[he]) j b,?_⟩;refine List.Pairwise.imp ?_ (i v e);intro t u l x p y m k;subst k;have h:=(Cb c a _ x (by simp[he]) b p).2.2.1 v d f;have g:=(Cb c a _ x (by simp[he]) b m).2.2.1 v d f;rw[Me he d]at h g;exact l (by rw[<-h,g])
def bW{a b:List g0}(g:Z a=26)(j:Z b=26)(h:∀u,F1 u->aR a u=aR b u):a=b:=by
 refine List.ext_getElem (by omega) (λi f e=>?_);have c:(UInt8.ofNat (i+65)).toNat=i+65:=by
  rw[UInt8.toNat_ofNat'];omega
 have d:=h (UInt8.ofNat (i+65)) ⟨by rw[c];omega,by rw[c];omega⟩;unfold aR at d;rw[c,Nat.add_sub_cancel,eK,eK,ez f,ez e]at d;exact d
def XB{al:UInt8->List g0->List g0}{c:A8}{d n:List UInt8}{s:List Af}(A:∀v e,(al v e).Nodup)(j:∀v e,∀t∈al v e,t.size≠0)(y:Qs c d n)(p:d.Nodup)(z:∀v∈d,∃t∈c.head.args,t.v=v):(Qb al c d n s).Nodup:=by
 have g:∀v∈d,F1 v:=λv h=>(y.ok v (j5 h)).1
 unfold Qb List.Nodup;rw[gY];refine gZ ?_ ((KG A j d BM rfl p g).filter _);intro a b C w q B;have k:=Cb j d BM a rfl g (e9.1 C).1;have o:=Cb j d BM b rfl g (e9.1 w).1;refine q (bW k.1 o.1 (λu f=>?_));by_cases i:u∈d
 .obtain⟨t,r,rfl⟩:=z u i;have m:t.v≠0:=λh=>by rw[h]at f;exact absurd f.1 (by decide)
  have x:c.head.args.map (AJ a)=c.head.args.map (AJ b):=congrArg Af.args B;have l:=List.map_inj_left.1 x t r;rw[Gf m,Gf m]at l;exact l
 .rw[k.2.2.1 u f i,o.2.2.1 u f i]
def Uo:∀(l:List Af) (s:List Af),EI s->(∀f∈s,AM f)->l.Nodup->(∀f∈l,f∉s/\AM f)->Z (l.foldl AY s)=Z s+Z l
 |[],s,_,_,_,_=>by simp
 |f::l,s,hr,hc,hn,h=>by
  obtain⟨n,k⟩:=gX.1 hn;obtain⟨j,e⟩:=h f (by simp);obtain⟨a,b,m⟩:=DC e hr hc;rw[fd,Uo l (AY s f) a b k (λg c=>⟨λi=>?_,(h g (by simp[c])).2⟩),(J9 s f).2 j,eF]
  .omega
  .rcases(m g).1 i with d|d
   .exact(h g (by simp[c])).1 d
   .rw[d]at c;exact n c
def MT{b:List BF}{s:List Af}(q:∀f∈s,AM f)(n:Ze s b):∀v e t,Hw b s v e t->A3 t:=by
 rintro v e t ⟨p,o⟩;cases hl:C1 b s v e with
 |nil=>exact absurd hl p
 |cons l ls=>
  have g:=o l (by rw[hl];simp);have k:l∈C1 b s v e:=by rw[hl];simp
  unfold C1 at k;obtain⟨x,u,a⟩:=gA.1 k;by_cases c:(x.kind==97)=jj
  .rw[eI c,iE]at a;obtain⟨i,r,rfl⟩:=a;obtain⟨w,_,_⟩:=gK.1 r;unfold F9 at g;obtain⟨f,m,rfl⟩:=eH.1 g;obtain⟨j,d⟩:=e9.1 m;rw[eW]at d;have y:=n f j x u c (toList_inj (by simpa using d.1));(have h:i<Z f.args:=by omega);rw[eK,ez h];exact q f j _ (eo h)
  .rw[eE c]at a;cases a
def Q7{c:List BF}{s:List Af}(g:∀f∈s,AM f)(i:Ze s c)(v:UInt8)(e:List g0):(Kv c s v e).Nodup:=by
 refine List.Pairwise.imp ?_ (TK (MT g i v e));intro a b h d;subst d;unfold dR at h;rw[Gb.irr]at h;cases h
theorem Tryz.yM:(Tryz.prog.info? 102).map (λi=>(i.zero,i.size,i.bytes))=V (V (U Y 0 0),1,24):=by kernel_rfl
def Q3{w w':j7}{p:Uk}{base n:Nat}{v:j8}{a:List j8}(h:jG w 0 170 1 p.2 (Z p.1) (p.1.flatMap Ah))(c:jG w base 102 1 v n a)(b:w.grownBy w' v.ownBlock):jG w' 0 170 1 p.2 (Z p.1) (p.1.flatMap Ah):=
 fT h b (by
  cases hp:p.2.ownBlock with
  |none=>exact j5 rfl
  |some q=>exact j6 (λe=>A5 h c (by decide) q hp e.symm))
theorem Ta(sp kb ko:Nat)(bad:Option Addr)(bcp:Nat)(ls:List Oi)(ov:j8)(sad:Option Addr)(scp:Nat)(fs:List Fe)(v:Int)(b:List g0)(w:j7)(hb:Z b=26)(hS:NU w sp kb ko (U bad (Z ls) bcp) ov sad scp fs)(hB:CE w 0 (U bad (Z ls) bcp) ls)(hlen:Z fs<=10000)(hll:Z ls<=1000)(hl:∀p∈ls,Pm p.1)(hpair:fs.Pairwise λa b=>Cx a.f b.f<0)
  (hmono:∀(X:CV) i j (hi:i<Z fs) (hj:j<Z fs),i<=j->Cx fs[j].f X<0->Cx fs[i].f X<0)
  (hq:∀p∈ls,p.1.sort=0->∀q∈fs,Sh p.1.an q=jj->Z p.1.ts<=Z q.f.zB):
  Calls prog 178 #[j3 (V ⟨sp,0,Y⟩),.int .i32 v,jH (j2 (Ai b))] w λr w'=>∃(ad:Option Addr) (cp:Nat) (m:List g0) (ps:List Uk),r=j4 (U ad (Z m) cp)/\Jq ps m/\D7 fs b v (ls.map jM) (ps.map jM)/\jG w' w.heap.size 170 1 (U ad (Z m) cp) (Z m) (m.flatMap Ah)/\Ac [] w w':=by
 obtain⟨i0,hi0,hz0,hz1,hz2⟩:=fC Tryz.yM;have HSe:=Ab hS;have HBo:=Ab hB;have HIx:j9 (∀(x:PL) ad cp wz,Ac [] w wz->Pm x->JG w 0 (x,U ad (Z x.ts) cp)->Calls prog 206 #[U ad (Z x.ts) cp,jH #[.int .i32 v,O ⟨#[]⟩]] wz λr w'=>∃n,r=j4 (.int J n)/\Qx x.ts ⟨v,jK⟩ n/\Ac [] wz w'):=λx ad cp wz hk hc hx=>Yw ad cp x.ts ⟨v,jK⟩ 0 wz (hx.kept hk (by simp)) (by have:=hc.len;omega)
 have HCo:j9 (∀(x:PL) ad cp (at_:Nat) wz,Ac [] w wz->Pm x->JG w 0 (x,U ad (Z x.ts) cp)->(∀q∈fs,Sh x.an q=jj->Z x.ts<=Z q.f.zB)->at_<Z x.ts->Calls prog 207 #[j3 (V ⟨sp,0,Y⟩),jH #[.int J x.ap,O x.an,U ad (Z x.ts) cp],.int J at_,jH (j2 (Ai b))] wz λr w'=>∃(ad:Option Addr) (cp:Nat) (m:List g0),r=j4 (U ad (Z m) cp)/\CP E8 m/\VK b x.ts at_ (fs.filter (Sh x.an)) m/\Z m<=Z fs/\jG w' wz.heap.size 170 1 (U ad (Z m) cp) (Z m) (m.flatMap Ah)/\Ac [] wz w'):=
  λx ad cp at_ wz hk hc hx hqx hat=>UL sp kb ko _ ov sad scp fs x.ap x.an ad cp x.ts at_ b wz hb (hS.kept hk) (hx.kept hk (by simp)) hc.len hc.ts (by omega) hpair (hmono _) (λq hqm hqn=>⟨hqx q hqm hqn,by have:=hqx q hqm hqn;omega⟩)
 have HLc:=Ab hl;have HQq:=Ab hq;have hc:=Bj b;have hl26:Z (Ai b)=26:=by unfold Ai;simp[hb]
 have HL26:=Ab hl26;obtain⟨E,hE⟩:∃E,Ai b=E:=⟨_,rfl⟩;rw[hE]at hc hl26 HL26 HCo⊢;have HN:=Ab (AI.new w E 243);have HK:=Ab ((Ac.refl [] w).alloc (j1 (j2 E) 243));clear hE hS hB hl hmono hq hpair;obtain⟨CC,hCC⟩:∃CC:List (List g0)->Prop,CC=D7 fs b v (ls.map jM):=⟨_,rfl⟩;have HR:j9 (∀R,D7 fs b v ((ls.drop 0).map jM) R->CC (([]:List Uk).map jM++R)):=λR h=>by rw[hCC];exact h
 rw[<-hCC];clear hCC;obtain⟨W0,hW0⟩:∃W0,w.heap.size=W0:=⟨_,rfl⟩;have HW0:=Ab hW0;go_enter func178,ntmps178;apply wp_seq_k;intro KK hKK;have HKK:=Ab hKK;clear hKK;go_wp2;refine HKK _ _ ?_;clear HKK KK;generalize hw1:w.alloc (j1 (j2 E) 243)=w1 at HN HK⊢;clear hw1;rw[hW0]at HN⊢;clear hW0;have s1:=(HSe.kept HK).zO.cell 1;simp at s1;go_wp2_with fail
 go_loopg [7,16] (Z ls) (λgk o i wr=>∃(k:Nat) (ps:List Uk) (ado:Option Addr) (cpo:Nat),o=U ado (Z ps) cpo/\i=.int J k/\k<=Z ls/\gk=Z ls-k/\Z ps<=k/\j9 (∀R,D7 fs b v ((ls.drop k).map jM) R->CC (ps.map jM++R))/\j9 (jG wr W0 102 1 (U ado (Z ps) cpo) (Z ps) (ps.flatMap λp=>[p.2]))/\j9 (∀p∈ps,jG wr 0 170 1 p.2 (Z p.1) (p.1.flatMap Ah)/\CP E8 p.1/\Z p.1<=10000)/\j9 (AI wr W0 E 243)/\j9 (Ac [] w wr))
 case atStart=>exact⟨0,[],Y,0,rfl,rfl,by omega,rfl,by simp,HR,eU _ _ _ _,(λp hp=>by cases hp),HN,HK⟩
 case round=>
  clear HR HN HK s1;obtain⟨k,ps,ado,cpo,rfl,rfl,hk,hgk,hpl,HR,HO,HE,HN,HK⟩:=hrel;have HG:=Ab hgk;clear hgk;by_cases zX:k<Z ls
  .obtain⟨g,cap,x,xad,xcp,he,hlk,_,d0,d1,d2,d3,d4,d5,d6,d7,d8⟩:=SI (HBo.kept HK (by simp)) k zX;simp only[ei]at he;obtain⟨rfl,_,rfl⟩:=he;(have hmem:(x,U xad (Z x.ts) xcp)∈ls:=by rw[<-hlk];exact eo zX);have hLx:=Aa HLc _ hmem;have hPx:JG w 0 (x,U xad (Z x.ts) xcp):=(HBo.each _ hmem).1;(have hQx:x.sort=0->∀q∈fs,Sh x.an q=jj->Z x.ts<=Z q.f.zB:=λh=>HQq _ hmem h);have HR2:j9 (∀R,(if x.sort=0 then∃n,Qx x.ts ⟨v,jK⟩ n/\(if n<0 then D7 fs b v ((ls.drop (k+1)).map jM) R else∃m r',R=m::r'/\VK b x.ts n.toNat (fs.filter (Sh x.an)) m/\D7 fs b v ((ls.drop (k+1)).map jM) r')else D7 fs b v ((ls.drop (k+1)).map jM) R)->CC (ps.map jM++R)):=by
    intro R h;refine HR R ?_;rw[eQ zX,eR,hlk];exact h
   have HKa:=Ab (HK.alloc (j1 (j2 (Aw (x,U xad (Z x.ts) xcp))) 217));have HOa:=Ab (eC HO (j1 (j2 (Aw (x,U xad (Z x.ts) xcp))) 217));(have HEa:j9 (∀p∈ps,jG (wr.alloc (j1 (j2 (Aw (x,U xad (Z x.ts) xcp))) 217)) 0 170 1 p.2 (Z p.1) (p.1.flatMap Ah)/\CP E8 p.1/\Z p.1<=10000):=λp hp=>⟨eC (HE p hp).1 _,(HE p hp).2⟩);have HBa:=Ab (HN.alloc (j1 (j2 (Aw (x,U xad (Z x.ts) xcp))) 217));have HXa:=Ab (AI.new wr (Aw (x,U xad (Z x.ts) xcp)) 217);have HC1:=Ab (HIx x xad xcp _ HKa hLx hPx);have HC2:=Ab (λat_ wz hk hq=>HCo x xad xcp at_ wz hk hLx hPx hq);have HQx:=Ab hQx;(have hsw:W0<=wr.heap.size:=by have:=HK.size;have:=Aa HW0;omega);obtain⟨pl,so,ap,an,ts,⟨lv,lsv⟩,⟨rv,rsv⟩⟩:=x;simp only[Aw]at HKa HOa HEa HBa HXa HC1 HC2 HR2 HQx d0 d1 d2 d3 d4 d5 d6 d7 d8;clear hlk hmem hLx hPx hQx HR HO HE HN HK;by_cases hso:so=0
   ·(have hsb:(so !=0)=false:=by simp[hso]);(have hsc:(so==0)=jj:=by simp[hso]);have HQy:=Ab (HQx hso);(have HR3:j9 (∀R,(∃n,Qx ts ⟨v,jK⟩ n/\(if n<0 then D7 fs b v ((ls.drop (k+1)).map jM) R else∃m r',R=m::r'/\VK b ts n.toNat (fs.filter (Sh an)) m/\D7 fs b v ((ls.drop (k+1)).map jM) r'))->CC (ps.map jM++R)):=λR h=>HR2 R (by rw[eI hso];exact h));clear HR2 HQx hso;(go_wp2_with fail);refine HC1.mono ?_;rintro _ w3 ⟨n,rfl,hidx,k3⟩;have HId:=Ab hidx;have HK3:=Ab (HKa.trans k3);have HB3:=Ab (HBa.kept k3 (by simp));have hX3:=HXa.kept k3 (by simp);have HO3:=Ab (Ad HOa k3 (by simp));(have HE3:j9 (∀p∈ps,jG w3 0 170 1 p.2 (Z p.1) (p.1.flatMap Ah)/\CP E8 p.1/\Z p.1<=10000):=λp hp=>⟨Ad (HEa p hp).1 k3 (by simp),(HEa p hp).2⟩);clear hidx HC1 HKa HBa HOa HEa k3 d0 d1 d2 d3 d4 d5 d6 d7 d8 HXa;by_cases hn:n<0
    ·(have hn0:¬(0:Int)<=n:=by omega);(have HR4:j9 (∀R,D7 fs b v ((ls.drop (k+1)).map jM) R->CC (ps.map jM++R)):=λR h=>HR3 R ⟨n,HId,by rw[eI hn];exact h⟩);clear HR3 hn HC2 hX3;go_wp2
     go_roundg (Z ls-(k+1))
     case measure=>have:=Aa HG;omega
     case rel=>exact⟨k+1,ps,ado,cpo,rfl,by go_num,by omega,rfl,by omega,HR4,HO3,HE3,HB3,HK3⟩
    ·(have hn0:(0:Int)<=n:=by omega);obtain⟨at_,rfl⟩:∃at_:Nat,n=(at_:Int):=⟨n.toNat,by omega⟩;have hat:at_<Z ts:=by
      rcases HId with⟨h,_⟩|⟨j,hj,h,_⟩
      .omega
      .omega
     have HC4:=Ab (HC2 at_ w3 HK3 HQy hat);have e0:=hX3.cell 0;have e1:=hX3.cell 1;have e2:=hX3.cell 2;have e3:=hX3.cell 3;have e4:=hX3.cell 4;simp at e0 e1 e2 e3 e4;clear hX3 HC2 hn;go_wp2_with ((with_reducible show wpList _ _ _ ({dst:=_,op:=Op.load 243 _,type:=_,pos:=_,after:=_,guard:=_}::_) _ _);refine Bz (by rfl) 243 _ rfl W0 0 (by rfl) E _ HB3.range underlying243 rfl (by rw[Aa HL26];exact Tryz.zH) ?_)
     refine HC4.mono ?_;rintro _ w4 ⟨cad,ccp,m,rfl,hris,hcol,hml,hrow,k4⟩;have HK4:=Ab (HK3.trans k4);have HB4:=Ab (HB3.kept k4 (by simp));have hO4:=Ad HO3 k4 (by simp);(have HE4:j9 (∀p∈ps,jG w4 0 170 1 p.2 (Z p.1) (p.1.flatMap Ah)/\CP E8 p.1/\Z p.1<=10000):=λp hp=>⟨Ad (HE3 p hp).1 k4 (by simp),(HE3 p hp).2⟩);have HRow:j9 (jG w4 0 170 1 (U cad (Z m) ccp) (Z m) (m.flatMap Ah)):=Am hrow (eV _);have HRi:j9 (CP E8 m/\Z m<=10000):=⟨hris,by omega⟩;have HR4:j9 (∀R,D7 fs b v ((ls.drop (k+1)).map jM) R->CC ((ps++[(m,U cad (Z m) ccp)]).map jM++R)):=by
      intro R h;have h2:=Aa HR3 (m::R) ⟨at_,HId,by rw[eE (by omega)];exact⟨m,R,rfl,by rw[show((at_:Nat):Int).toNat=at_ by omega];exact hcol,h⟩⟩;rw[fi,fD];exact h2
     (have hs4:W0<=w4.heap.size:=by have:=HK4.size;have:=Aa HW0;omega);clear HC4 HK3 HB3 HO3 HE3 k4 hris hcol hml hrow HR3 e0 e1 e2 e3 e4;obtain⟨ml,hml⟩:∃ml,Z m=ml:=⟨_,rfl⟩;have HMl:=Ab hml;rw[hml]at HR4 HRow⊢;clear hml;go_wp2_with (at_builtin;refine eP _ rfl (.tmp 31) (.tmp 38) _ rfl W0 102 i0 _ 1 24 underlying303 hi0 hz0 hz1 hz2 rfl (by omega) (U ado (Z ps) cpo) (Z ps) (ps.flatMap λp=>[p.2]) rfl (eC hO4 _) ⟨w4.heap.size,0,Y⟩ 1 1 [U cad ml ccp] rfl rfl (eS (cs:=#[U cad ml ccp]) (t:=102) (fr:=(0,0)) (fe w4 _)) (by simp[Value.oneCell']) (by omega) (by unfold maxLen;omega) (by omega) (by simp;omega) (w4.heap.size+1) (by simp) ?_;intro g1 cp1 w9 ho1 hg1 ha1 hl1)
     have HO9:j9 (jG w9 W0 102 1 (U (V ⟨g1,0,Y⟩) (Z (ps++[(m,U cad ml ccp)])) cp1) (Z (ps++[(m,U cad ml ccp)])) ((ps++[(m,U cad ml ccp)]).flatMap λp=>[p.2])):=by
      rw[eY];simp only[eJ,eF,fb,fw,eN,fF,fh];exact ho1
     have HE9:j9 (∀p∈ps++[(m,U cad ml ccp)],jG w9 0 170 1 p.2 (Z p.1) (p.1.flatMap Ah)/\CP E8 p.1/\Z p.1<=10000):=by
      intro p hp;rcases eG.1 hp with h|h
      .exact⟨Q3 (eC (HE4 p h).1 _) (eC hO4 _) hg1,(HE4 p h).2⟩
      .simp only[ex]at h;subst h;exact⟨Q3 (p:=(m,U cad ml ccp)) (eC (by rw[Aa HMl];exact HRow) _) (eC hO4 _) hg1,HRi⟩
     have HK9:=Ab ((HK4.alloc (j1 #[U cad ml ccp] 102)).grown hg1 (λq hq=>j6 (by have:=(hO4.lt q hq).1;have:=Aa HW0;omega)));have HB9:j9 (AI w9 W0 E 243):=(HB4.alloc (j1 #[U cad ml ccp] 102)).grown hg1 (Ap hO4 HB4 (by decide));clear ho1 hg1 ha1 hl1 hO4 HE4 HK4 HB4 HRow
     go_roundg (Z ls-(k+1))
     case measure=>have:=Aa HG;omega
     case rel=>exact⟨k+1,ps++[(m,U cad ml ccp)],V ⟨g1,0,Y⟩,cp1,by simp,by go_num,by omega,rfl,by simp;omega,HR4,HO9,HE9,HB9,HK9⟩
   ·(have hsb:(so !=0)=jj:=by simp[hso]);(have hsc:(so==0)=false:=by simp[hso]);(have HR4:j9 (∀R,D7 fs b v ((ls.drop (k+1)).map jM) R->CC (ps.map jM++R)):=λR h=>HR2 R (by rw[eE hso];exact h));clear hso HR2 HC1 HC2 HQx;go_wp2
    go_roundg (Z ls-(k+1))
    case measure=>have:=Aa HG;omega
    case rel=>exact⟨k+1,ps,ado,cpo,rfl,by go_num,by omega,rfl,by omega,HR4,HOa,HEa,HBa,HKa⟩
  .have HR3:j9 (CC (ps.map jM)):=by
    have h:=Aa HR [] (by rw[fq (by omega)];rfl);rw[fh]at h;exact h
   have HCm:=Ab (UT ado cpo ps wr ⟨Am HO (eV _),HE⟩ (by omega));clear HR HO HE HN;(go_wp2_with fail);refine HCm.mono ?_;rintro _ w3 ⟨ad,cp,m,rfl,hcom,hrow,k3⟩;have HCo2:=Ab hcom;have HRow:=Ab (Am hrow (show w.heap.size<=wr.heap.size from HK.size))
   have HK3:=Ab (HK.trans k3);obtain⟨ml,hml⟩:∃ml,Z m=ml:=⟨_,rfl⟩;have HMl:=Ab hml;rw[hml];clear hcom hrow k3 HCm hml;go_wp2;go_ret;rw[<-Aa HMl];refine⟨ad,cp,m,ps,rfl,HCo2,HR3,?_,HK3⟩;rw[<-Aa HW0];exact HRow
def E5(vs:List UInt8):List Int:=vs.map λv=>(v.toNat:Int)
structure cO(w:j7)(sp:Nat)(body:List BF)(s:List Af)(vs:List UInt8):Prop where
 at_:∃(kb ko:Nat) (bad:Option Addr) (bcp:Nat) (zC:List Oi) (oad:Option Addr) (ocp:Nat) (sad:Option Addr) (scp:Nat) (fs:List Fe),
  NU w sp kb ko (U bad (Z zC) bcp) (U oad (Z (E5 vs)) ocp) sad scp fs/\CE w 0 (U bad (Z zC) bcp) zC/\zC.map jM=body.map LP/\
  jG w 0 21 1 (U oad (Z (E5 vs)) ocp) (Z (E5 vs)) ((E5 vs).flatMap AP)/\Dl fs s
 len:Z s<=10000
 lits:∀x∈body,DA x/\Pm (LP x)
 blen:Z body<=1000
 yC:Z vs<=1000
 fit:Ze s body
 ok:∀v∈vs,F1 v
def cO.kept{w w':j7}{a:Nat}{c:List BF}{s:List Af}{b:List UInt8}(h:cO w a c s b)(k:Ac [] w w'):cO w' a c s b:=by
 obtain⟨t,n,u,l,i,o,d,r,g,p,j,e,q,f,m⟩:=h.at_;exact⟨⟨t,n,u,l,i,o,d,r,g,p,j.kept k,e.kept k (by simp),q,Ad f k (by simp),m⟩,h.len,h.lits,h.blen,h.yC,h.fit,h.ok⟩
def Dl.len{fs:List Fe}{s:List Af}(h:Dl fs s):Z fs=Z s:=by
 have:=congrArg List.length h.same;simpa using this
def RF{w:j7}{b:Nat}{a:List BF}{s:List Af}{q:List UInt8}(h:cO w b a s q){e:List g0}(i:Da e):
  Calls prog 177 #[j3 (V ⟨b,0,Y⟩),jH (j2 (Ai (Bv e)))] w λr g=>r=j4 (.bool (D8 a s e))/\Ac [] w g:=by
 obtain⟨E,u,o,n,j,F,I,v,A,C,t,m,d,H,c⟩:=h.at_;have L:=c.len;have N:Z j=Z a:=by have:=congrArg List.length d;simpa using this
 have G:=h.blen;have M:=h.len;refine(V6 b E u o n j _ v A C (Bv e) w (GZ i) t m (by omega) (by omega) (λp y=>?_) (λz=>c.mono z)).mono ?_
 .have:p.1∈a.map LP:=by rw[<-d];exact eZ y
  obtain⟨x,f,D⟩:=eH.1 this;rw[<-D];exact(h.lits x f).2
 .rintro r g ⟨B,rfl,l,k⟩;rw[d]at l;exact⟨by rw[UC c i a (λx f=>(h.lits x f).1) B l],k⟩
def S7{w:j7}{o:Nat}{a:List BF}{s:List Af}{N:List UInt8}(h:cO w o a s N){e:List g0}(D:Da e){v:UInt8}(hv:F1 v):
  Calls prog 178 #[j3 (V ⟨o,0,Y⟩),X .i32 (v.toNat:Int),jH (j2 (Ai (Bv e)))] w λr t=>∃(l:Option Addr) (n:Nat),r=j4 (U l (Z ((Kv a s v e).map AA)) n)/\
   jG t w.heap.size 170 1 (U l (Z ((Kv a s v e).map AA)) n) (Z ((Kv a s v e).map AA)) (((Kv a s v e).map AA).flatMap Ah)/\Ac [] w t:=by
 obtain⟨kb,Q,I,G,y,A2,BT,R,T,W,P,F,u,h4,b⟩:=h.at_;have hl:=b.len;have B9:Z y=Z a:=by have:=congrArg List.length u;simpa using this
 have hb:=h.blen;have hn:=h.len;have C:∀p∈y,∃x∈a,LP x=p.1:=λp c=>by
  have:p.1∈a.map LP:=by rw[<-u];exact eZ c
  exact eH.1 this
 refine(Ta o kb Q I G y _ R T W (v.toNat:Int) (Bv e) w (GZ D) P F (by omega) (by omega) (λp c=>?_) b.pair (λS=>b.mono S) (λp c E q M j=>?_)).mono ?_
 .obtain⟨x,d,i⟩:=C p c;rw[<-i];exact(h.lits x d).2
 .obtain⟨x,d,i⟩:=C p c;have hm:q.f∈s.map BJ:=by rw[<-b.same];exact eZ M
  obtain⟨g,H,B⟩:=eH.1 hm;rw[<-i]at E j⊢;have L:(x.kind==97)=jj:=by
   rw[<-Qv];have:Fj x.kind=0:=E;rw[this];rfl
  have AH:g.name=x.A.name:=by
   unfold Sh at j;rw[<-B]at j;exact toList_inj (by simpa[LP,BJ] using j)
  have:=h.fit g H x d L AH;rw[<-B];simp[LP,BJ];omega
 .rintro r t ⟨l,n,m,ps,rfl,hc,z,AT,k⟩;rw[u]at z;obtain⟨i,_⟩:=VC b D hv (λx d=>(h.lits x d).1) h.fit z hc;rw[<-i];exact⟨l,n,rfl,AT,k⟩
def YC{w:j7}{b:Nat}{a:List BF}{s:List Af}{d:List UInt8}(h:cO w b a s d)(v:UInt8)(e:List g0):∀t∈Kv a s v e,A3 t:=by
 obtain⟨y,n,k,i,x,j,p,o,q,r,m,g,u,l,f⟩:=h.at_;exact λt c=>MT f.canon h.fit v e t ((G2 a s v e t).1 c)
def YI{w:j7}{f:Nat}{l:List BF}{s:List Af}{a:List UInt8}(h:cO w f l s a)(k:Nat)(m:k<Z a):
  ∃(d c:Nat) (t:j8) (g b:Nat),AI w f [j3 (V ⟨d,c,Y⟩),t,U (V ⟨g,0,Y⟩) (Z a) b] 237/\jF w ⟨g,k,Y⟩=V (X .i32 (a[k].toNat:Int)):=by
 obtain⟨d,c,y,v,F,x,B,A,C,D,o,u,E,n,z⟩:=h.at_;have j:k<Z (E5 a):=by unfold E5;simpa using m
 obtain⟨g,b,q,r⟩:=TJ n k j;have p:Z (E5 a)=Z a:=by unfold E5;simp
 have i:=o.zO;rw[q,p]at i;refine⟨d,c,_,g,b,i,?_⟩;have e:(E5 a)[k]=(a[k].toNat:Int):=by simp[E5]
 rw[r,e]
