import Derived.Test.YtoihbhenbmffcaaGreatDoorYBG
import Derived.Test.YtoihbhenbmffcaaGreatDoorYBB
set_option linter.all false
set_option maxHeartbeats 0
namespace Go.Proofs.YtoihbhenbmffcaaGreatDoor
open Go.RowKit Go.Proofs.Tryz
def UJ(b:List cR)(ts:List A3)(at_:Nat)(fs:List Gm)(m:List cR):Prop:=∀y,y∈m↔∃q∈fs,GF b ts q.f.dc=true/\y=q.f.dc.getD at_ ByteArray.empty
structure VC(w:World)(N:Nat)(ap:Int)(nm:cR)(tv:Value)(E:List Value)(b:List cR)(ts:List A3)(at_:Nat)(pre:List Gm)(M:List Nat)(W:World):Prop where
 kept:Ac [] w W
 b5:AE W N [.int .i64 ap,.string nm,tv] 187
 b6:AE W (N+1) [.int .i64 at_] 3
 b7:AE W (N+2) E 243
 out:∃(m:List cR) (ad:Option Addr) (cp:Nat),AE W (N+3) [.slice ad m.length cp] 102/\W.ownsRow N 170 1 (.slice ad m.length cp) m.length (m.flatMap Ae)/\Cy E2 m/\UJ b ts at_ pre m/\m.length<=pre.length/\M=(N+3)::(Value.slice ad m.length cp).ownBlock.toList
theorem VC.own{w:World}{N B:Nat}{ap:Int}{nm:cR}{tv:Value}{E:List Value}{b:List cR}{ts:List A3}{at_:Nat}(f:w.heap.size<=B):OwnFrom B (fun(s:List Gm×List Nat) W=>VC w N ap nm tv E b ts at_ s.1 s.2 W):=
 BV (λs W j M h k a=>by
  obtain⟨m,i,e,d,c,g⟩:=h.out
  exact⟨EL h.kept k a f,h.b5.kept k (C5 a h.b5),h.b6.kept k (C5 a h.b6),h.b7.kept k (C5 a h.b7),m,i,e,d.kept k (C5 a d),Al c k (EI a c),g⟩)
set_option maxRecDepth 100000
theorem TW(sp kb ko:Nat)(bv ov:Value)(sad:Option Addr)(scp:Nat)(fs:List Gm)(ap:Int)(nm:cR)(tad:Option Addr)(tcp:Nat)(ts:List A3)(at_:Nat)(b:List cR)(w:World)(hb:b.length=26)(hS:M8 w sp kb ko bv ov sad scp fs)
  (ht:w.ownsRow 0 215 2 (.slice tad ts.length tcp) ts.length (ts.flatMap Ao)) (htl:ts.length<=1000) (hv:∀t∈ts,Nl t) (hlen:fs.length<=900000) (hpair:fs.Pairwise λa b=>Cc a.f b.f<0)
  (hmono:∀i j (hi:i<fs.length) (hj:j<fs.length),i<=j->Cc fs[j].f ⟨nm,[]⟩<0->Cc fs[i].f ⟨nm,[]⟩<0)
  (hq:∀q∈fs,Rm nm q=true->ts.length<=q.f.dc.length/\at_<q.f.dc.length):
  Calls prog 207 #[.pointer (some ⟨sp,0,none⟩),.agg #[.int .i64 ap,.string nm,.slice tad ts.length tcp],.int .i64 at_,.agg (Ai b).toArray] w λr w'=>∃(ad:Option Addr) (cp:Nat) (m:List cR),r=.returned (.slice ad m.length cp)/\Cy E2 m/\UJ b ts at_ (fs.filter (Rm nm)) m/\m.length<=fs.length/\w'.ownsRow w.heap.size 170 1 (.slice ad m.length cp) m.length (m.flatMap Ae)/\Ac [] w w':=by
 have HFi:Hid (∀nb (p:Gm) wz,p∈fs->Rm nm p=true->Ac [] w wz->AE wz nb (Ai b) 243->Calls prog 222 #[.pointer (some ⟨nb,0,none⟩),.agg #[.int .i64 ap,.string nm,.slice tad ts.length tcp],.agg (Bh p).toArray] wz λr w'=>r=.returned (.bool (GF b ts p.f.dc))/\Ac [] wz w'):=λnb p wz hp hn hk hB=>YU nb 243 b ap nm tad tcp ts p 0 wz hb hB (Ad ht hk (by simp)) ((hS.facts.each p hp).1.kept hk) (by omega) (hq p hp hn).1 hv
 have HIt:Hid (∀b1 b2 M0 wz,wz.cell? ⟨b1,0,none⟩=some (.pointer (some ⟨kb,ko,none⟩))->RH w b2 nm M0 wz->Kr prog 235 #[.pointer (some ⟨b1,0,none⟩),.pointer (some ⟨b2,0,none⟩)] (λq:Gm=>#[.agg (Bh q).toArray]) (fs.filter (Rm nm)) M0 wz):=λb1 b2 M0 wz h1 hO=>Zy b1 b2 kb ko sad scp fs nm w wz M0 h1 hO hS.set hS.facts hlen hpair hmono
 have HSe:=Ab hS;have HQ:=Ab hq;have hc:=Bo b;have hl26:(Ai b).length=26:=by unfold Ai;simp[hb]
 obtain⟨E,hE⟩:∃E,Ai b=E:=⟨_,rfl⟩;rw[hE]at hc hl26 HFi⊢;clear hE hS hpair hmono hq hv;have HTr:=Ab ht;clear ht;obtain⟨N,hN⟩:∃N,w.heap.size=N:=⟨_,rfl⟩;have HN:=Ab hN;obtain⟨w1,hw1⟩:∃w1,(((w.alloc (.cells #[.int .i64 ap,.string nm,.slice tad ts.length tcp] 187)).alloc (.cells #[.int .i64 at_] 3)).alloc (.cells E.toArray 243)).alloc (.cells #[.slice none 0 0] 102)=w1:=⟨_,rfl⟩;have HW1:=Ab hw1;have hK1:Ac [] w w1:=by rw[<-hw1];exact((((Ac.refl [] w).alloc _).alloc _).alloc _).alloc _
 have hB5:AE w1 N [.int .i64 ap,.string nm,.slice tad ts.length tcp] 187:=by
  rw[<-hw1,<-hN];exact(((AE.new w [.int .i64 ap,.string nm,.slice tad ts.length tcp] 187).alloc _).alloc _).alloc _
 have hB6:AE w1 (N+1) [.int .i64 at_] 3:=by
  rw[<-hw1];have h:=((AE.new (w.alloc (.cells #[.int .i64 ap,.string nm,.slice tad ts.length tcp] 187)) [.int .i64 at_] 3).alloc (.cells E.toArray 243)).alloc (.cells #[.slice none 0 0] 102);rw[cD,hN]at h;exact h
 have hB7:AE w1 (N+2) E 243:=by
  rw[<-hw1];have h:=(AE.new ((w.alloc (.cells #[.int .i64 ap,.string nm,.slice tad ts.length tcp] 187)).alloc (.cells #[.int .i64 at_] 3)) E 243).alloc (.cells #[.slice none 0 0] 102);rw[cD,cD,hN]at h;exact h
 have hB9:AE w1 (N+3) [.slice none 0 0] 102:=by
  rw[<-hw1];have h:=AE.new (((w.alloc (.cells #[.int .i64 ap,.string nm,.slice tad ts.length tcp] 187)).alloc (.cells #[.int .i64 at_] 3)).alloc (.cells E.toArray 243)) [.slice none 0 0] 102;rw[cD,cD,cD,hN]at h;exact h
 have HI1:Hid (VC w N ap nm (.slice tad ts.length tcp) E b ts at_ [] [N+3] w1):=⟨hK1,hB5,hB6,hB7,[],none,0,hB9,ck _ _ _ _,λi j h=>absurd h (by simp),λy=>by simp,by simp,by simp[Value.ownBlock]⟩;have HB9:=Ab hB9.lt;clear hw1 hK1 hB5 hB6 hB7 hB9 hN;refine EB func207 rfl ?_;simp only[ntmps207,dh,bU,cE,Nat.reduceAdd,Nat.reduceSub,eu,ev,eU,eH,dm,dG];have hNO:¬LetsOut (bodyPostM Fence.wide 0 prog Tryz.f207 λr w'=>∃(ad:Option Addr) (cp:Nat) (m:List cR),r=.returned (.slice ad m.length cp)/\Cy E2 m/\UJ b ts at_ (fs.filter (Rm nm)) m/\m.length<=fs.length/\w'.ownsRow w.heap.size 170 1 (.slice ad m.length cp) m.length (m.flatMap Ae)/\Ac [] w w'):=WX (λ_ ⟨_,_,_,h,_⟩=>by cases h);obtain⟨QQ,hQQ⟩:∃QQ,(bodyPostM Fence.wide 0 prog Tryz.f207 λr w'=>∃(ad:Option Addr) (cp:Nat) (m:List cR),r=.returned (.slice ad m.length cp)/\Cy E2 m/\UJ b ts at_ (fs.filter (Rm nm)) m/\m.length<=fs.length/\w'.ownsRow w.heap.size 170 1 (.slice ad m.length cp) m.length (m.flatMap Ae)/\Ac [] w w')=QQ:=⟨_,rfl⟩;have HQQ:=Ab hQQ;rw[hQQ]at hNO⊢;have HNO:=Ab hNO;clear hQQ hNO;refine wp_seq_k (λK1 hK1=>?_);have HK1:=Ab hK1;clear hK1;go_wp2;refine Aa HK1 _ _ ?_;clear HK1 K1;refine wp_seq_k (λK1 hK1=>?_);have HK1:=Ab hK1;clear hK1;go_wp2;refine Aa HK1 _ _ ?_;clear HK1 K1;change Code.wp _ _ _ _ ((((w.alloc (.cells #[.int .i64 ap,.string nm,.slice tad ts.length tcp] 187)).alloc (.cells #[.int .i64 at_] 3)).alloc (.cells E.toArray 243)).alloc (.cells #[.slice none 0 0] 102));rw[Aa HW1,Aa HN];clear HW1;have HCs:Hid (∀wz,Ac [] w1 wz->wz.cell? ⟨sp,0,none⟩=some (.pointer (some ⟨kb,ko,none⟩))/\wz.cell? ⟨N,1,none⟩=some (.string nm)):=λwz hk=>by
  have h1:=((Aa HSe).kept ((Aa HI1).kept.trans hk)).gA.cell 0;have h2:=((Aa HI1).b5.kept hk (by simp)).cell 1;simp at h1 h2;exact⟨h1,h2⟩
 have HOf:Hid (∀wz,Calls prog 221 #[.pointer (some ⟨kb,ko,none⟩),.string nm] wz λr w'=>∃b1 b2,r=.returned (.func (.func 235) #[] #[.pointer (some ⟨b1,0,none⟩),.pointer (some ⟨b2,0,none⟩)])/\AE w' b1 [.pointer (some ⟨kb,ko,none⟩)] 69/\AE w' b2 [.string nm] 9/\wz.heap.size<=b1/\wz.heap.size<=b2/\Ac [] wz w'):=λwz=>Wu kb ko nm wz
 obtain⟨s0,s1⟩:=Aa HCs w1 (Ac.refl _ _);refine wp_seq_k (λK1 hK1=>?_);have HK1:=Ab hK1;clear hK1;refine wp_seq_k (λK2 hK2=>?_);have HK2:=Ab hK2;clear hK2
 go_region_held3 (λwz=>Ac [] w1 wz/\wz.cell? ⟨sp,0,none⟩=some (.pointer (some ⟨kb,ko,none⟩))/\wz.cell? ⟨N,1,none⟩=some (.string nm)) ((go_split_ands;refine(fun(hkz:Ac [] w1 _)=>And.intro hkz (Aa HCs _ hkz)) ?_;repeat (first|assumption|exact Ac.refl [] _|refine Ac.drew ?_|refine Ac.alloc ?_ _))) ((go_at_call 221;refine(Aa HOf _).mono ?_;rintro e w3 ⟨b1,b2,rfl,hb1,hb2,hl1,hl2,k3⟩;have hk3:Ac [] w1 w3:=(by go_split_ands;exact Ac.trans (by assumption) k3);have HB1:=Ab hb1;have HB2:=Ab hb2;have HK3:=Ab hk3;have HL3:Hid (w1.heap.size<=b1/\w1.heap.size<=b2):=⟨hl1,hl2⟩;clear hb1 hb2 hl1 hl2 k3 hk3))
 refine Aa HK2 _ _ ?_;clear HK2 K2 s0 s1 HOf HCs;refine wp_block ?_;have HI3:Hid (VC w N ap nm (.slice tad ts.length tcp) E b ts at_ [] [N+3] w3):=BC (VC.own (bZ _)) (s:=([],[N+3])) (Aa HI1) (Aa HK3);have HO3:Hid (RH w b2 nm [N+3] w3):=by
  have h1:=(Aa HB2).cell 0;simp at h1;refine⟨(Aa HI3).kept,h1,λk hk=>?_⟩;have hn:=Aa HN;have h2:=(Aa HL3).2;have h3:=Aa HB9;have h4:=(Aa HK3).size;simp only[bO]at hk;omega
 have gX:=Aa HIt b1 b2 [N+3] w3 (by have h:=(Aa HB1).cell 0;simp at h;exact h) (Aa HO3);have hw3:N+4<=w3.heap.size:=by have h3:=Aa HB9;have h4:=(Aa HK3).size;omega
 refine Hp (T:=104) (q:=10) rfl (enters_of func235 (by kernel_rfl) rfl) gX (λk hk=>by simp only[bO]at hk;omega) (VC w N ap nm (.slice tad ts.length tcp) E b ts at_) (λ_ _ _ _=>False) (VC.own (by have:=Aa HN;omega)) (λ_ _ _ _ _ h _ _=>h) (Aa HI3) ?assign ?body ?done ?stop
 case assign=>
  intro l x W K hx HK;have hxf:=(cn.1 hx).1;obtain⟨⟨xn,xt⟩,xv⟩:=x;obtain⟨xad,xcp,hxv⟩:=Aj ((Aa HSe).facts.each _ hxf).1;simp only at hxv;subst hxv;simp only[Bh]at HK⊢;clear hx hxf;simp only[bH,bI,bJ]at HK⊢;refine AZ (by rfl) (If Gx) ?_;go_wp2;refine Aa HK _ ((Ac.refl [] W).alloc _) ?_;exact AE.new W [.string xn,.slice xad xt.length xcp] 104
 case body=>
  intro l Bx pre x rest M W hxs hi hM hBx hB;have hx:x∈fs.filter (Rm nm):=by rw[hxs];simp
  have hxf:=(cn.1 hx).1;have hxn:=(cn.1 hx).2;have hxa:=(Aa HQ x hxf hxn).2;have HCall:=Ab (Aa HFi (N+2) x W hxf hxn hi.kept hi.b7);have HPf:Hid (Ec W x):=((Aa HSe).facts.each x hxf).1.kept hi.kept;have HPw:Hid (Ec w x):=((Aa HSe).facts.each x hxf).1;obtain⟨⟨xn,xt⟩,xv⟩:=x;obtain⟨xad,xcp,hxv⟩:=Aj (Aa HPf);simp only at hxv hxa;subst hxv;obtain⟨m,mad,mcp,h9,hrow,hrise,hcol,hml,hMe⟩:=hi.out;simp only[Bh]at HCall hB⊢;have d0:=hi.b5.cell 0;have d1:=hi.b5.cell 1;have d2:=hi.b5.cell 2;have e0:=hB.cell 0;have e1:=hB.cell 1;simp at d0 d1 d2 e0 e1;have HIi:=Ab hi;have HBx:=Ab hB;have H9:=Ab h9;have HRow:=Ab hrow;have HRise:=Ab hrise;have HCol:=Ab hcol;have HMe:=Ab hMe;obtain⟨X,hX⟩:∃X:Gm,X=⟨⟨xn,xt⟩,.slice xad xt.length xcp⟩:=⟨_,rfl⟩;have HXX:=Ab hX;rw[<-hX]at hxs⊢;clear hx hxf hxn hi hB h9 hrow hrise hcol hMe hM hX;obtain⟨F,hF⟩:∃F,GF b ts xt=F:=⟨_,rfl⟩;rw[hF]at HCall;have HF:=Ab hF;clear hF;simp only[bH,bI,bJ];refine wpIn_block ?_;refine dM (λK3 hK3=>?_);have HK3':=Ab hK3;clear hK3;refine AZ (by rfl) (by rintro ⟨_,_,h⟩;exact h) ?_;go_wp2_with fail
  refine(Aa HCall).mono ?_;rintro _ w4 ⟨rfl,k4⟩;have HK4:=Ab k4;clear k4 d0 d1 d2 e0 e1 HCall;go_wp2;refine Aa HK3' _ _ ?_;clear HK3' K3;cases F with
  |false=>
   refine eV rfl (wpIn_skip ?_);refine⟨(Aa HK4).mono (by simp),M,?_,λk hk=>⟨Or.inl hk,?_⟩⟩
   .have hi4:=BC (VC.own (N:=N) (ap:=ap) (nm:=nm) (tv:=.slice tad ts.length tcp) (E:=E) (b:=b) (ts:=ts) (at_:=at_) (bZ w.heap.size)) (s:=(pre,M)) (Aa HIi) (Aa HK4);obtain⟨m',ad',cp',g1,g2,g3,g4,g5,g6⟩:=hi4.out;refine⟨hi4.kept,hi4.b5,hi4.b6,hi4.b7,m',ad',cp',g1,g2,g3,λy=>?_,by have:=g5;simp at this⊢;omega,g6⟩;rw[g4 y];constructor
    .rintro ⟨q,hq,hh⟩;exact⟨q,by simp[hq],hh⟩
    .rintro ⟨q,hq,hh⟩;rcases bY.1 hq with hq|hq
     .exact⟨q,hq,hh⟩
     .simp only[bO]at hq;subst hq;rw[Aa HXX]at hh;rw[Aa HF]at hh;cases hh.1
   .rw[Aa HMe]at hk;have h4:=(Aa HK4).size;rcases bS.1 hk with rfl|hk
    .have:=(Aa H9).lt;omega
    .have:=((Aa HRow).lt k (by simpa using hk)).2;omega
  |true=>
   refine ff rfl ?_;have hro4:=Al (Aa HRow) (Aa HK4) (by simp);have hnap:(Value.slice mad m.length mcp).ownBlock≠some (N+3):=AS hro4 ((Aa H9).kept (Aa HK4) (by simp)) (by decide);obtain⟨gx,cx,hex,hxc⟩:=FE (Aa HPw) at_ hxa;simp only[bK]at hex;obtain⟨rfl,-,rfl⟩:=hex;obtain⟨Y,hY⟩:∃Y,xt[at_]=Y:=⟨_,rfl⟩;rw[hY]at hxc;have hgx:=OP hxc;have HSS:Hid (∀wz,Ac (Value.slice mad m.length mcp).ownBlock.toList w4 wz->wz.cell? ⟨N+3,0,none⟩=some (.slice mad m.length mcp)/\wz.cell? ⟨Bx,1,none⟩=some (.slice (some ⟨gx,0,none⟩) xt.length xcp)/\wz.cell? ⟨N+1,0,none⟩=some (.int .i64 at_)/\wz.cell? ⟨gx,at_,none⟩=some (.string Y)):=by
    intro wz hz;have a1:=(((Aa H9).kept (Aa HK4) (by simp)).kept hz (λhm=>hnap (by simpa using hm))).cell 0;have a2:=(((Aa HBx).kept (Aa HK4) (by simp)).kept hz (λhm=>AS hro4 ((Aa HBx).kept (Aa HK4) (by simp)) (by decide) (by simpa using hm))).cell 1;have a3:=(((Aa HIi).b6.kept (Aa HK4) (by simp)).kept hz (λhm=>AS hro4 ((Aa HIi).b6.kept (Aa HK4) (by simp)) (by decide) (by simpa using hm))).cell 0;have a4:=MT hz ((Aa HK4).cellAt ((Aa HIi).kept.cellAt hxc)) (λhm=>by have:=(hro4.lt gx (by simpa using hm)).1;have:=Aa HN;omega);simp at a1 a2 a3;exact⟨a1,a2,a3,a4⟩
   have HHS:=Ab (Aa HSS w4.drew (Ac.refl _ _).drew);(have hat0:(0:Int)<=(at_:Int):=by omega);(have hat1:(at_:Int)<(xt.length:Int):=by omega);have HAdd:=Ab (Tn mad mcp m Y N w4.drew hro4.drew (by have h1:=congrArg List.length hxs;have h2:=dw (Rm nm) fs;simp at h1;omega) (Aa HRise) (by have:=(Aa HIi).kept.size;have:=(Aa HK4).size;have:=Aa HN;show N<=w4.heap.size;omega));have HYg:Hid (xt.getD at_ ByteArray.empty=Y):=by
    show _=_;rw[bT,bW hxa,hY];rfl
   clear hY hxc hro4;refine DO 7 (λwz=>wz.cell? ⟨N+3,0,none⟩=some (.slice mad m.length mcp)/\wz.cell? ⟨Bx,1,none⟩=some (.slice (some ⟨gx,0,none⟩) xt.length xcp)/\wz.cell? ⟨N+1,0,none⟩=some (.int .i64 at_)/\wz.cell? ⟨gx,at_,none⟩=some (.string Y)) (by kernel_rfl) (by rfl) (by rintro ⟨_,_,h⟩;exact h) ?_;refine Ce.tk (i:=0) (v:=.slice mad m.length mcp) rfl (by kernel_rfl) (λ_ _ _ h=>h) HHS (by rfl) ?_ ?_
   ·(rintro wz ⟨z0,z1,z2,z3⟩;go_simp)
   simp only[Act.put,bH,bI,bJ];refine Ce.tk (i:=1) (v:=.pointer (some ⟨Bx,1,none⟩)) rfl (by kernel_rfl) (λ_ _ _ h=>h) HHS (by rfl) ?_ ?_
   ·(rintro wz ⟨z0,z1,z2,z3⟩;go_simp)
   simp only[Act.put,bH,bI,bJ];refine Ce.tk (i:=2) (v:=.slice (some ⟨gx,0,none⟩) xt.length xcp) rfl (by kernel_rfl) (λ_ _ _ h=>h) HHS (by rfl) ?_ ?_
   ·(rintro wz ⟨z0,z1,z2,z3⟩;go_simp)
   simp only[Act.put,bH,bI,bJ];refine Ce.tk (i:=3) (v:=.int .i64 at_) rfl (by kernel_rfl) (λ_ _ _ h=>h) HHS (by rfl) ?_ ?_
   ·(rintro wz ⟨z0,z1,z2,z3⟩;go_simp)
   simp only[Act.put,bH,bI,bJ];refine Ce.tk (i:=4) (v:=.pointer (some ⟨gx,at_,none⟩)) rfl (by kernel_rfl) (λ_ _ _ h=>h) HHS (by rfl) ?_ ?_
   ·(rintro wz ⟨z0,z1,z2,z3⟩;go_simp)
   simp only[Act.put,bH,bI,bJ];refine Ce.tk (i:=5) (v:=.string Y) rfl (by kernel_rfl) (λ_ _ _ h=>h) HHS (by rfl) ?_ ?_
   ·(rintro wz ⟨z0,z1,z2,z3⟩;go_simp)
   simp only[Act.put,bH,bI,bJ];refine Ce.one (i:=6) (by kernel_rfl) rfl (λK hK=>?_)
   go_simp
   refine(Aa HAdd).mono ?_;rintro e w5 ⟨m',ad',cp',rfl,hr',hmem,hl1,hl2,hown,hk5,hfr⟩;have hk5':Ac (Value.slice mad m.length mcp).ownBlock.toList w4 w5:=(Ac.refl _ _).drew.trans hk5;refine hK.out _ _ (λ_=>Aa HSS w5 hk5') ?_;clear hK K
   try simp only[Act.put,bH,bI,bJ]
   have h95:AE w5 (N+3) [.slice mad m.length mcp] 102:=((Aa H9).kept (Aa HK4) (by simp)).kept hk5' (λhm=>hnap (by simpa using hm));have c9:=h95.cell 0;have f9:=h95.frozen 0;simp at c9;refine Ce.one (i:=7) (by kernel_rfl) rfl (λK hK=>?_)
   go_simp
   refine hK.out _ _ (λh=>absurd rfl h) ?_;clear hK K;refine Ce.done (by kernel_rfl) ?_ _;have hnap2:(Value.slice ad' m'.length cp').ownBlock≠some (N+3):=AS hown h95 (by decide);have hM6:Ac M W (w5.setCell ⟨N+3,0,none⟩ (.slice ad' m'.length cp')):=by
    rw[Aa HMe];exact(((Aa HK4).mono (by simp)).trans (hk5'.mono (λi hi=>cF _ hi))).setCell (p:=⟨N+3,0,none⟩) (Or.inl (dg ..)) _
   have hMge:∀k∈M,N<=k:=by
    intro k hk;rw[Aa HMe]at hk;rcases bS.1 hk with rfl|hk
    .omega
    .exact((Aa HRow).lt k (by simpa using hk)).1
   have hap:∀{bb:Nat} {cs:List Value} {t:TypeId},AE W bb cs t->bb≠N+3->170≠t->bb∉M:=by
    intro bb cs t hbb hne htt hm;rw[Aa HMe]at hm;rcases bS.1 hm with rfl|hm
    .exact hne rfl
    .exact AS (Aa HRow) hbb htt (by simpa using hm)
   refine⟨hM6,(N+3)::(Value.slice ad' m'.length cp').ownBlock.toList,⟨(Aa HIi).kept.trans' hM6 (λk hk=>Or.inr (by have:=hMge k hk;have:=Aa HN;omega)),(Aa HIi).b5.kept hM6 (hap (Aa HIi).b5 (by omega) (by decide)),(Aa HIi).b6.kept hM6 (hap (Aa HIi).b6 (by omega) (by decide)),(Aa HIi).b7.kept hM6 (hap (Aa HIi).b7 (by omega) (by decide)),m',ad',cp',h95.set 0 _,Ag hown hnap2 _,hr',λy=>?_,by simp;omega,rfl⟩,λk hk=>?_⟩
   .rw[hmem y,Aa HCol y];constructor
    .rintro (rfl|⟨q,hq,hh⟩)
     .exact⟨X,by simp,by rw[Aa HXX];exact Aa HF,by rw[Aa HXX];exact(Aa HYg).symm⟩
     .exact⟨q,by simp[hq],hh⟩
    .rintro ⟨q,hq,hh⟩;rcases bY.1 hq with hq|hq
     .exact Or.inr ⟨q,hq,hh⟩
     .simp only[bO]at hq;subst hq;rw[Aa HXX]at hh;exact Or.inl (hh.2.trans (Aa HYg))
   .have h6:=hk5'.size;have h4:=(Aa HK4).size;rcases bS.1 hk with rfl|hk
    .exact⟨Or.inl (by rw[Aa HMe];exact dg ..),by have:=h95.lt;simp;omega⟩
    ·(have hk':(Value.slice ad' m'.length cp').ownBlock=some k:=by simpa using hk);refine⟨?_,by have:=(hown.lt k hk').2;simp;omega⟩;rcases hfr k hk' with h|h
     .exact Or.inl (by rw[Aa HMe];exact cF _ (by rw[h];simp))
     .exact Or.inr (by have h2:w4.heap.size<=k:=h;omega)
 case done=>
  intro D M' W hD hi hd _;obtain⟨m,mad,mcp,h9,hrow,hrise,hcol,hml,hMe⟩:=hi.out;have c9:=h9.cell 0;simp at c9;refine Aa HK1 _ _ ?_;clear HK1;simp only[dm];refine wp_seq_k (λK3 hK3=>?_);have HK3':=Ab hK3;clear hK3;go_wp2;refine Aa HK3' _ _ ?_;clear HK3' K3;refine wp_ret ?_;rw[<-Aa HQQ];have hown:OwnFrom w.heap.size (fun(_:Unit) W=>W.ownsRow N 170 1 (.slice mad m.length mcp) m.length (m.flatMap Ae)/\Ac [] w W):=BV (λ_ W W' M h k hM=>⟨Al h.1 k (EI hM h.1),EL h.2 k hM (bZ _)⟩);have hmk:C1 w.heap.size [D] W:=⟨by simp,λd hd'=>by simp only[bO]at hd';have:=(Aa HI3).kept.size;omega,λd hd'=>by simp only[bO]at hd';rw[hd'];exact hd⟩;refine Dk [D] W hmk (λw' hs=>?_);obtain⟨g1,g2⟩:=hs.own hown (s:=()) hmk ⟨hrow,hi.kept⟩;refine⟨_,results_tmp rfl _ _ _,mad,mcp,m,rfl,hrise,hcol,da hml (dw _ _),?_,g2⟩;rw[Aa HN];exact g1
 case stop=>
  intro D c pre M' W _ h _;exact h.elim
structure CP(e:List cR):Prop where
 len:e.length=26
 each:∀x∈e,PE x
theorem CP.start:CP BX:=⟨by simp[BX],λx a=>Or.inl (by rw[(List.mem_replicate.1 a).2];rfl)⟩
theorem CP.set{e:List cR}(h:CP e)(j:Nat){x:cR}(c:AX x):CP (e.set j x):=⟨by simp[h.len],λy b=>by
 rcases List.mem_or_eq_of_mem_set b with a|rfl
 .exact h.each y a
 .exact Or.inr c⟩
theorem GM{e:List cR}(h:CP e):(Bf e).length=26:=by unfold Bf;rw[bX,h.len]
theorem Yg{s:cR}(h:AX s):F9 s=Aw s:=by
 have a:=h.size;unfold F9 Aw;rw[if_neg a];cases hn:Hc s with
 |false=>simp
 |true=>
  simp only[if_true];rcases h with⟨c,r,e,b,_⟩|h
  .unfold Hc at hn;rw[e,En]at hn;have:=of_decide_eq_true hn;omega
  .rw[if_pos h]
theorem Ig{t:AG}(h:Dq t)(e:List cR):Bs (Bf e) (ct t)=SR (AR e t):=by
 have f:(ct t).v.toNat=t.v.toNat:=by unfold ct;simp
 unfold Bs Zi;rw[f];rcases h with⟨a,c⟩|⟨b,g,_⟩
 .rw[a,if_pos (show(0:UInt8).toNat=0 from rfl)]
  unfold AR;rw[if_pos a,CD c];exact Yg c
 .have a:t.v≠0:=λd=>by rw[d]at b;exact absurd b (by decide)
  rw[if_neg (by omega),<-D1];unfold PA;rw[if_neg a]
theorem CP.val{e:List cR}(b:CP e){t:AG}(h:Dq t):PE (AR e t):=by
 unfold AR;split
 .rename_i d;rcases h with⟨_,c⟩|⟨a,_⟩
  .exact Or.inr c
  .rw[d]at a;exact absurd a (by decide)
 .rw[bT];cases hg:e[t.v.toNat-65]? with
  |none=>exact Or.inl rfl
  |some x=>exact b.each x (List.mem_of_getElem? hg)
theorem Ss{e:List cR}(d:CP e){ts:List AG}(h:∀t∈ts,Dq t):FZ (Bf e) (ts.map ct)=DC e ts:=by
 rw[<-Lg ts (λt a=>d.val (h t a))];unfold FZ O2;rw[List.all_map,dk,dO,dO];have c:∀t∈ts,((λt=> !Ru (Bs (Bf e) t))∘ct) t= !Ru (PA (Bf e) t):=λt a=>by
  simp only[Function.comp];rw[Ig (h t a),D1]
 exact⟨λb t a=>by rw[<-c t a];exact b t a,λb t a=>by rw[c t a];exact b t a⟩
theorem N1(x:Bg):AI (Kj x)=(Bm x).map ct:=by
 unfold AI Bm;rw[GO];split<;>simp[Kj]
theorem CN.gC{x:Bg}(h:CN x):∀t∈Bm x,Dq t:=by
 intro t a;unfold CN at h;unfold Bm at a;split at h
 .rename_i b;rw[if_pos b]at a;exact h.args t a
 .rename_i b;rw[if_neg b]at a;rcases bS.1 a with rfl|a
  .exact h.1
  .rw[bO]at a;subst a;exact h.2.1
theorem PJ{e:List cR}(d:CP e){ts:List AG}(h:∀t∈ts,Dq t)(c:DC e ts=true):∀t∈ts,AX (AR e t):=by
 intro t b;rcases d.val (h t b)with h1|h1
 .have a:=dO.1 c t b;rw[(DA _).2 h1]at a;cases a
 .exact h1
theorem TF{e:List cR}{x:Bg}(h:∀t∈x.A.args,Dq t)(b:∀t∈x.A.args,AX (AR e t)):Es (Bf e) (Kj x)=Df (AA e x.A):=by
 unfold Es Df AA Kj;simp only;rw[dt,dt]
 congr 1
 refine du (λt a=>?_);simp only[Function.comp];rw[Ig (h t a),CD (b t a)]
theorem GX{e:List cR}{A:C2}(a:∀t∈A.args,AX (AR e t)):A4 (AA e A):=by
 intro y b;obtain⟨t,c,rfl⟩:=bV.1 b;exact a t c
theorem Uu{t:List Gm}{s:List Ah}{e:List cR}{x:Bg}{B:Bool}(u:Ei t s)(E:CP e)(D:CN x)(C:DC e (Bm x)=true)(h:I4 t (Bf e) (Kj x) B):B=CS (AA e) (AR e) s x:=by
 have c:=D.gC;have b:=PJ E c C;have F:(Kj x).sort=Fx x.kind:=rfl;unfold I4 at h;unfold CS;rw[F]at h;by_cases f:x.kind=97
 .have a:Fx x.kind=0:=by rw[f];rfl
  have d:Bm x=x.A.args:=by unfold Bm;rw[f];rfl
  rw[d]at c b;rw[if_pos a,TF c b]at h;rw[if_pos (by rw[f];rfl)];obtain⟨p,m,rfl⟩:=h;exact u.gX (GX b) m
 .have q:¬(x.kind==97)=true:=by simpa using f
  rw[if_neg q];by_cases g:x.kind=33
  ·(have a:Fx x.kind=1:=by rw[g];rfl);(have d:Bm x=x.A.args:=by unfold Bm;rw[g];rfl);rw[d]at c b;rw[a,if_neg (by decide),if_pos rfl,TF c b]at h;rw[if_pos (by rw[g];rfl)];obtain⟨p,m,rfl⟩:=h;rw[u.gX (GX b) m]
  ·(have o:¬(x.kind==33)=true:=by simpa using g);(have d:Bm x=[x.L,x.R]:=by unfold Bm;rw[if_neg (by rw[dr,not_or];exact⟨q,o⟩)]);rw[d]at c b;have k:=b x.L (by simp);have n:=b x.R (by simp);have v:Bs (Bf e) (Kj x).l=PA (Bf e) x.L:=(Ig (c x.L (by simp)) e).trans (D1 e x.L).symm;have y:Bs (Bf e) (Kj x).r=PA (Bf e) x.R:=(Ig (c x.R (by simp)) e).trans (D1 e x.R).symm;rw[v,y]at h;rw[if_neg o];by_cases i:x.kind=61
   ·(have a:Fx x.kind=2:=by rw[i];rfl);rw[a,if_neg (by decide),if_neg (by decide),if_pos rfl,Th k n]at h;rw[if_pos (by rw[i];rfl)];exact h
   ·(have z:¬(x.kind==61)=true:=by simpa using i);rw[if_neg z];by_cases j:x.kind=35
    ·(have a:Fx x.kind=3:=by rw[j];rfl);rw[a,if_neg (by decide),if_neg (by decide),if_neg (by decide),if_pos rfl,Th k n]at h;rw[if_pos (by rw[j];rfl)];exact h
    ·(have w:¬(x.kind==35)=true:=by simpa using j);(have a:Fx x.kind=4:=by unfold Fx;rw[if_neg f,if_neg g,if_neg i,if_neg j]);rw[a,if_neg (by decide),if_neg (by decide),if_neg (by decide),if_neg (by decide),Ye k n]at h;rw[if_neg w];exact h
theorem TG{d:List Gm}{s:List Ah}{e:List cR}(f:Ei d s)(c:CP e):∀(a:List Bg),(∀x∈a,CN x)->∀B,EM d (Bf e) (a.map Kj) B->B=DT a s e
 |[],_,B,h=>h
 |x::a,hb,B,h=>by
  have ih:=TG f c a (λy j=>hb y (by simp[j]));have g:=hb x (by simp);rw[cu,EM,N1,Ss c g.gC]at h;have i:DT (x::a) s e=((DC e (Bm x)&& !CS (AA e) (AR e) s x)||DT a s e):=by
   unfold DT;rw[fj]
  rw[i];cases hset:DC e (Bm x)with
  |false=>
   rw[hset,if_neg (by simp)]at h;rw[eC,ex];exact ih B h
  |true=>
   rw[hset,if_pos rfl]at h;obtain⟨H,k,b⟩:=h;have l:=Uu f c g hset k;rw[<-l,dF];cases H with
   |true=>
    rw[if_pos rfl]at b;rw[ey,ex];exact ih B b
   |false=>
    rw[if_neg (by simp)]at b;rw[b];rfl
theorem TA{e:List cR}(g:CP e):∀(a:List AG) (b:List cR),(∀t∈a,Dq t)->(∀x∈b,AX x)->GF (Bf e) (a.map ct) (b.map Aw)=OM e a b:=by
 intro a b c f;rw[<-QW a b (λt h=>g.val (c t h)) f];clear f;generalize b.map Aw=ys
 induction a generalizing ys with
 |nil=>cases ys<;>simp[GF,PP]
 |cons t a ih=>
  cases ys with
  |nil=>simp[GF,PP]
  |cons y ys=>
   have d:=ih (λu i=>c u (by simp[i])) ys;unfold PP at d⊢;rw[cu,GF,d,fF,eP,Ig (c t (by simp)),D1]
def bk(s:List Ah)(A:C2)(i:Nat)(e:List cR)(m:List cR):Prop:=∀y,y∈m↔∃t∈FY s A i e,y=Aw t
theorem WK{o:List Gm}{s:List Ah}{e:List cR}{A:C2}{i:Nat}{m:List cR}(d:Ei o s)(u:CP e)(v:∀t∈A.args,Dq t)(w:∀f∈s,f.name=A.name->i<f.args.length)(h:UJ (Bf e) (A.args.map ct) i (o.filter (Rm A.name)) m):bk s A i e m:=by
 intro y;rw[h y];unfold FY;constructor
 .rintro ⟨q,l,b,rfl⟩;obtain⟨z,p⟩:=cn.1 l;have j:q.f∈s.map Df:=by rw[<-d.same];exact cm z
  obtain⟨g,a,r⟩:=bV.1 j;have x:g.name.toList==A.name.toList:=by
   (have B:q.f.name=g.name:=by rw[<-r];rfl);unfold Rm at p;rw[B]at p;exact p
  have k:=w g a (toList_inj (by simpa using x));rw[<-r]at b⊢;unfold Df at b⊢;simp only at b⊢;rw[TA u _ _ v (d.canon g a)]at b;refine⟨g.args.getD i ByteArray.empty,bV.2 ⟨g,cn.2 ⟨a,by rw[x,b];rfl⟩,rfl⟩,?_⟩;rw[bT,bT,dI,bW k];rfl
 .rintro ⟨t,C,rfl⟩;obtain⟨g,a,rfl⟩:=bV.1 C;obtain⟨a,c⟩:=cn.1 a;rw[cq]at c;have k:=w g a (toList_inj (by simpa using c.1));have j:Df g∈o.map Gm.f:=by rw[d.same];exact cm a
  obtain⟨q,l,n⟩:=bV.1 j;refine⟨q,cn.2 ⟨l,?_⟩,?_,?_⟩
  .unfold Rm;rw[n];exact c.1
  .rw[n];unfold Df;simp only;rw[TA u _ _ v (d.canon g a)];exact c.2
  .rw[n];unfold Df;simp only;rw[bT,bT,dI,bW k];rfl
def be(a b:cR):Prop:=E2 (Aw a) (Aw b)=true
def X1(x:cR):List cR->List cR
 |[]=>[x]
 |y::l=>if E2 (Aw x) (Aw y)then x::y::l else if E2 (Aw y) (Aw x)then y::X1 x l else y::l
theorem Z3{a b:cR}(e:AX a)(f:AX b)(d:E2 (Aw a) (Aw b)=false)(c:E2 (Aw b) (Aw a)=false):a=b:=by
 refine Fv e f ?_;cases he:am (Aw a) (Aw b)with
 |true=>exact(F0.eqv _ _).1 he
 |false=>rw[F0.tot _ _ d he]at c;cases c
theorem QH{x:cR}(f:AX x):∀(l:List cR),(∀y∈l,AX y)->l.Pairwise be->(X1 x l).Pairwise be/\∀y,y∈X1 x l↔y=x\/y∈l
 |[],_,_=>⟨by simp[X1],λy=>by simp[X1]⟩
 |z::l,hc,hp=>by
  obtain⟨c,j⟩:=dA.1 hp;rw[X1];split
  .rename_i b;refine⟨dA.2 ⟨λy a=>?_,hp⟩,λy=>by simp⟩;rcases bS.1 a with rfl|a
   .exact b
   .exact F0.trans _ _ _ b (c y a)
  .rename_i m;split
   .rename_i i;obtain⟨g,d⟩:=QH f l (λy a=>hc y (by simp[a])) j;refine⟨dA.2 ⟨λy a=>?_,g⟩,λy=>?_⟩
    .rcases(d y).1 a with rfl|a
     .exact i
     .exact c y a
    .rw[bS,d,bS];constructor
     .rintro (h|h|h)
      .exact Or.inr (Or.inl h)
      .exact Or.inl h
      .exact Or.inr (Or.inr h)
     .rintro (h|h|h)
      .exact Or.inr (Or.inl h)
      .exact Or.inl h
      .exact Or.inr (Or.inr h)
   .rename_i k;have e:=Z3 f (hc z (by simp)) (by simpa using m) (by simpa using k);refine⟨hp,λy=>?_⟩;rw[e];simp
theorem Wc:∀(l:List cR),(∀y∈l,AX y)->∃r:List cR,r.Pairwise be/\∀y,y∈r↔y∈l
 |[],_=>⟨[],List.Pairwise.nil,λy=>Iff.rfl⟩
 |x::l,h=>by
  obtain⟨r,d,b⟩:=Wc l (λy a=>h y (by simp[a]));obtain⟨e,c⟩:=QH (h x (by simp)) r (λy a=>h y (by simp[(b y).1 a])) d;exact⟨X1 x r,e,λy=>by rw[c,b,bS]⟩
def Hi(body:List Bg)(s:List Ah)(v:UInt8)(e:List cR)(t:cR):Prop:=CJ body s v e≠[]/\∀l∈CJ body s v e,t∈l
theorem O1(c:List Bg)(s:List Ah)(v:UInt8)(e:List cR):∃r:List cR,(∀t,t∈r↔Hi c s v e t)/\((∀t,Hi c s v e t->AX t)->r.Pairwise be):=by
 have i:∃r:List cR,∀t,t∈r↔Hi c s v e t:=by
  unfold Hi;cases CJ c s v e with
  |nil=>exact⟨[],λt=>by simp⟩
  |cons l ls=>
   classical
   refine⟨l.filter λt=>decide (∀m∈ls,t∈m),λt=>?_⟩;rw[cn,decide_eq_true_iff];constructor
   .rintro ⟨f,a⟩;refine⟨by simp,λm b=>?_⟩;rcases bS.1 b with rfl|b
    .exact f
    .exact a m b
   .rintro ⟨_,a⟩;exact⟨a l (by simp),λm b=>a m (by simp[b])⟩
 obtain⟨r,d⟩:=i;by_cases g:∀t,Hi c s v e t->AX t
 .obtain⟨q,f,a⟩:=Wc r (λy j=>g y ((d y).1 j));exact⟨q,λt=>by rw[a,d],λ_=>f⟩
 .exact⟨r,d,λh=>absurd h g⟩
noncomputable def IX(body:List Bg)(s:List Ah)(v:UInt8)(e:List cR):List cR:=Classical.choose (O1 body s v e)
theorem Fd(a:List Bg)(s:List Ah):Nh (IX a s) a s:=λv e t=>(Classical.choose_spec (O1 a s v e)).1 t
theorem OT{a:List Bg}{s:List Ah}{v:UInt8}{e:List cR}(h:∀t,Hi a s v e t->AX t):(IX a s v e).Pairwise be:=(Classical.choose_spec (O1 a s v e)).2 h
def DS(fs:List Gm)(b:List cR)(v:Int):List PL->List (List cR)->Prop
 |[],r=>r=[]
 |x::l,r=>if x.sort=0 then∃n,PR x.ts ⟨v,ByteArray.empty⟩ n/\(if n<0 then DS fs b v l r else∃m r',r=m::r'/\UJ b x.ts n.toNat (fs.filter (Rm x.an)) m/\DS fs b v l r')else DS fs b v l r
theorem az{ts:List AG}(h:∀t∈ts,Dq t){v:UInt8}(e:DH v){n:Int}(x:PR (ts.map ct) ⟨(v.toNat:Int),ByteArray.empty⟩ n):(n<0/\ts.findIdx? (λt=>t.v==v)=none)\/(0<=n/\ts.findIdx? (λt=>t.v==v)=some n.toNat):=by
 have b:∀t∈ts,Ia ⟨(v.toNat:Int),ByteArray.empty⟩ (ct t)=(t.v==v):=by
  intro t a;unfold Ia;have p:((v.toNat:Int)==(ct t).v)=(t.v==v):=by
   rw[<-ai t v,dk];simp only[dE];exact⟨λh=>h.symm,λh=>h.symm⟩
  simp only[p];cases hb:(t.v==v)with
  |false=>rfl
  |true=>
   (have m:t.v=v:=by simpa using hb);rcases h t a with⟨g,_⟩|⟨_,_,u⟩
   .rw[m]at g;rw[g]at e;exact absurd e.1 (by decide)
   .have w:(ct t).s=ByteArray.empty:=by
     unfold ct;simp only;rw[u];rfl
    rw[w,dF];simp
 rcases x with⟨rfl,l⟩|⟨k,o,rfl,c,r⟩
 .left;refine⟨by decide,List.findIdx?_eq_none_iff.2 (λt a=>?_)⟩;rw[<-b t a];exact l _ (cm a)
 .right;have d:k<ts.length:=by simpa using o
  refine⟨by omega,?_⟩;rw[show((k:Nat):Int).toNat=k by omega];refine dL.2 ⟨d,?_,λj q=>?_⟩
  .rw[<-b _ (bL d)];rw[List.getElem_map]at c;exact c
  ·(have i:j<ts.length:=by omega);have f:=r j (by simpa using i) q;rw[List.getElem_map,b _ (bL i)]at f;simpa using f
def Vy(s:List Ah)(body:List Bg):Prop:=∀f∈s,∀x∈body,(x.kind==97)=true->f.name=x.A.name->f.args.length=x.A.args.length
theorem Wg{F:List Gm}{s:List Ah}{e:List cR}(u:Ei F s)(G:CP e){v:UInt8}(H:DH v):∀(a:List Bg),(∀x∈a,CN x)->Vy s a->∀r,DS F (Bf e) (v.toNat:Int) (a.map Kj) r->F2 (λm l=>∀y,y∈m↔∃t∈l,y=Aw t) r (CJ a s v e)/\∀l∈CJ a s v e,∀t∈l,AX t
 |[],_,_,r,h=>by
  have h:r=[]:=h;subst h;exact⟨F2.nil,λl d=>by simp[CJ]at d⟩
 |x::a,hb,hf,r,h=>by
  have ih:=Wg u G H a (λy q=>hb y (by simp[q])) (λf Q y q=>hf f Q y (by simp[q]));have S:=hb x (by simp);rw[cu,DS]at h;have V:(Kj x).sort=Fx x.kind:=rfl;rw[V]at h;have U:CJ (x::a) s v e=match(if x.kind==97 then(x.A.args.findIdx? λt=>t.v==v).map λi=>FY s x.A i e else none)with|some c=>c::CJ a s v e|none=>CJ a s v e:=by
   unfold CJ;rw[List.filterMap_cons];generalize(if(x.kind==97)=true then(x.A.args.findIdx? λt=>t.v==v).map λi=>FY s x.A i e else none)=o;cases o<;>rfl
  rw[U];by_cases b:(x.kind==97)=true
  ·(have p:x.kind=97:=by simpa using b);(have k:Fx x.kind=0:=by rw[p];rfl);have E:∀t∈x.A.args,Dq t:=by
    have:=S.gC;unfold Bm at this;rw[b,eX,if_pos rfl]at this;exact this
   rw[if_pos k]at h;obtain⟨n,w,h⟩:=h;rw[if_pos b];rcases az E H w with⟨W,P⟩|⟨X,z⟩
   .rw[if_pos W]at h;rw[P];exact ih r h
   .rw[if_neg (by omega)]at h;obtain⟨m,L,rfl,O,M⟩:=h;rw[z];simp only[ei];obtain⟨T,N⟩:=ih L M;obtain⟨K,_,_⟩:=dL.1 z;have C:∀f∈s,f.name=x.A.name->n.toNat<f.args.length:=λf J w=>by
     rw[hf f J x (by simp) b w];exact K
    refine⟨F2.cons (WK u G E C O) T,λl d=>?_⟩;rcases bS.1 d with rfl|d
    .intro t B;unfold FY at B;obtain⟨g,j,rfl⟩:=bV.1 B;obtain⟨j,D⟩:=cn.1 j;rw[cq]at D;have I:=C g j (toList_inj (by simpa using D.1));rw[bT,bW I];exact u.canon g j _ (bL I)
    .exact N l d
  ·(have p:x.kind≠97:=by simpa using b);have k:Fx x.kind≠0:=by
    intro R;have:=RW x.kind;rw[R]at this;exact p (by simpa using this)
   rw[if_neg k]at h;rw[if_neg b];exact ih r h
theorem Yv{r ls:List (List cR)}(h:F2 (λm l=>∀y,y∈m↔∃t∈l,y=Aw t) r ls)(g:∀l∈ls,∀t∈l,AX t)(y:cR):(r≠[]/\I1 r y)↔∃t,(ls≠[]/\∀l∈ls,t∈l)/\y=Aw t:=by
 cases r with
 |nil=>
  cases ls with
  |nil=>simp
  |cons l ls=>exact absurd h (by simp[F2])
 |cons m r=>
  cases ls with
  |nil=>exact absurd h (by simp[F2])
  |cons l ls=>
   have i:=h.mem;have o:=h.zR;constructor
   .rintro ⟨_,b⟩;obtain⟨t,j,e⟩:=(h.1 y).1 (b m (by simp));refine⟨t,⟨by simp,λk a=>?_⟩,e⟩;obtain⟨q,c,d⟩:=i k a;obtain⟨u,f,n⟩:=(d y).1 (b q c);have:u=t:=Fv (g k a u f) (g l (by simp) t j) (by rw[<-n,e]);rw[<-this];exact f
   .rintro ⟨t,⟨_,b⟩,rfl⟩;refine⟨by simp,λq c=>?_⟩;obtain⟨k,a,d⟩:=o q c;exact(d _).2 ⟨t,b k a,rfl⟩
theorem UG{n:List Gm}{s:List Ah}{e:List cR}(C:Ei n s)(w:CP e){v:UInt8}(z:DH v){d:List Bg}(B:∀x∈d,CN x)(p:Vy s d){f:List Tl}(o:DS n (Bf e) (v.toNat:Int) (d.map Kj) (f.map Prod.fst)){m:List cR}(i:I2 f m):m=(IX d s v e).map Aw/\∀t∈IX d s v e,AX t:=by
 obtain⟨A,k⟩:=Wg C w z d B p _ o;have j:∀t,Hi d s v e t->AX t:=by
  rintro t ⟨u,q⟩;cases hl:CJ d s v e with
  |nil=>exact absurd hl u
  |cons l ls=>exact k l (by rw[hl];simp) t (q l (by rw[hl];simp))
 refine⟨?_,λt g=>j t ((Fd d s v e t).1 g)⟩;refine IF (lt:=λa b=>E2 a b=true) (λa h=>by rw[F0.irr]at h;cases h) (λa b c=>F0.trans a b c) _ _ i.en ?_ (λy=>?_)
 .rw[dQ];exact OT j
 .rw[i.mem y];have r:(f≠[]/\I1 (f.map Prod.fst) y)↔(f.map Prod.fst≠[]/\I1 (f.map Prod.fst) y):=by
   rw[ne_eq,ne_eq,List.map_eq_nil_iff]
  rw[r,Yv A k,bV];constructor
  .rintro ⟨t,g,rfl⟩;exact⟨t,(Fd d s v e t).2 g,rfl⟩
  .rintro ⟨t,g,rfl⟩;exact⟨t,(Fd d s v e t).1 g,rfl⟩
theorem J8{al:UInt8->List cR->List cR}{n:List Bg}{s:List Ah}(i:∀v e,(al v e).Nodup)(c:∀v e,∀t∈al v e,t.size≠0):
  ∀(a:List UInt8) (e:List cR),e.length=26->a.Nodup->(∀v∈a,DH v)->(As al n s a e).Nodup
 |[],e,_,_,_=>by
  rw[As];split<;>simp
 |v::a,e,he,hd,hv=>by
  rw[As];obtain⟨f,j⟩:=dN.1 hd;have d:=hv v (by simp);have b:∀u∈a,DH u:=λu o=>hv u (by simp[o])
  split
  .simp
  .unfold List.Nodup;rw[List.pairwise_flatMap];refine⟨λt _=>J8 i c a _ (by simp[he]) j b,?_⟩;refine List.Pairwise.imp ?_ (i v e);intro t u l x p y m k;subst k;have h:=(BN c a _ x (by simp[he]) b p).2.2.1 v d f;have g:=(BN c a _ x (by simp[he]) b m).2.2.1 v d f;rw[Jv he d]at h g;exact l (by rw[<-h,g])
theorem ZO{a b:List cR}(g:a.length=26)(j:b.length=26)(h:∀u,DH u->Lv a u=Lv b u):a=b:=by
 refine List.ext_getElem (by omega) (λi f e=>?_);have c:(UInt8.ofNat (i+65)).toNat=i+65:=by
  rw[UInt8.toNat_ofNat'];omega
 have d:=h (UInt8.ofNat (i+65)) ⟨by rw[c];omega,by rw[c];omega⟩;unfold Lv at d;rw[c,Nat.add_sub_cancel,bT,bT,bW f,bW e]at d;exact d
theorem Wt{al:UInt8->List cR->List cR}{c:A7}{d n:List UInt8}{s:List Ah}(A:∀v e,(al v e).Nodup)(j:∀v e,∀t∈al v e,t.size≠0)(y:PO c d n)(p:d.Nodup)(z:∀v∈d,∃t∈c.head.args,t.v=v):(Ps al c d n s).Nodup:=by
 have g:∀v∈d,DH v:=λv h=>(y.ok v (Or.inl h)).1
 unfold Ps List.Nodup;rw[dQ];refine dV ?_ ((J8 A j d BX rfl p g).filter _);intro a b C w q B;have k:=BN j d BX a rfl g (cn.1 C).1;have o:=BN j d BX b rfl g (cn.1 w).1;refine q (ZO k.1 o.1 (λu f=>?_));by_cases i:u∈d
 .obtain⟨t,r,rfl⟩:=z u i;have m:t.v≠0:=λh=>by rw[h]at f;exact absurd f.1 (by decide)
  have x:c.head.args.map (AR a)=c.head.args.map (AR b):=congrArg Ah.args B;have l:=List.map_inj_left.1 x t r;rw[Fi m,Fi m]at l;exact l
 .rw[k.2.2.1 u f i,o.2.2.1 u f i]
theorem Tp:∀(l:List Ah) (s:List Ah),E8 s->(∀f∈s,A4 f)->l.Nodup->(∀f∈l,f∉s/\A4 f)->(l.foldl Bp s).length=s.length+l.length
 |[],s,_,_,_,_=>by simp
 |f::l,s,hr,hc,hn,h=>by
  obtain⟨n,k⟩:=dN.1 hn;obtain⟨j,e⟩:=h f (by simp);obtain⟨a,b,m⟩:=Ex e hr hc;rw[cC,Tp l (Bp s f) a b k (λg c=>⟨λi=>?_,(h g (by simp[c])).2⟩),(JB s f).2 j,bU]
  .omega
  .rcases(m g).1 i with d|d
   .exact(h g (by simp[c])).1 d
   .rw[d]at c;exact n c
theorem Ho{b:List Bg}{s:List Ah}(q:∀f∈s,A4 f)(n:Vy s b):∀v e t,Hi b s v e t->AX t:=by
 rintro v e t ⟨p,o⟩;cases hl:CJ b s v e with
 |nil=>exact absurd hl p
 |cons l ls=>
  have g:=o l (by rw[hl];simp);have k:l∈CJ b s v e:=by rw[hl];simp
  unfold CJ at k;obtain⟨x,u,a⟩:=dY.1 k;by_cases c:(x.kind==97)=true
  .rw[if_pos c,eK]at a;obtain⟨i,r,rfl⟩:=a;obtain⟨w,_,_⟩:=dL.1 r;unfold FY at g;obtain⟨f,m,rfl⟩:=bV.1 g;obtain⟨j,d⟩:=cn.1 m;rw[cq]at d;have y:=n f j x u c (toList_inj (by simpa using d.1));(have h:i<f.args.length:=by omega);rw[bT,bW h];exact q f j _ (bL h)
  .rw[if_neg c]at a;cases a
theorem Qo{c:List Bg}{s:List Ah}(g:∀f∈s,A4 f)(i:Vy s c)(v:UInt8)(e:List cR):(IX c s v e).Nodup:=by
 refine List.Pairwise.imp ?_ (OT (Ho g i v e));intro a b h d;subst d;unfold be at h;rw[F0.irr]at h;cases h
theorem Tryz.zQ:(Tryz.prog.info? 102).map (λi=>(i.zero,i.size,i.bytes))=some (some (.slice none 0 0),1,24):=by kernel_rfl
theorem Ql{w w':World}{p:Tl}{base n:Nat}{v:Value}{a:List Value}(h:w.ownsRow 0 170 1 p.2 p.1.length (p.1.flatMap Ae))(c:w.ownsRow base 102 1 v n a)(b:w.grownBy w' v.ownBlock):w'.ownsRow 0 170 1 p.2 p.1.length (p.1.flatMap Ae):=
 dB h b (by
  cases hp:p.2.ownBlock with
  |none=>exact Or.inl rfl
  |some q=>exact Or.inr (λe=>BB h c (by decide) q hp e.symm))
theorem Sg(sp kb ko:Nat)(bad:Option Addr)(bcp:Nat)(ls:List JF)(ov:Value)(sad:Option Addr)(scp:Nat)(fs:List Gm)(v:Int)(b:List cR)(w:World)(hb:b.length=26)(hS:M8 w sp kb ko (.slice bad ls.length bcp) ov sad scp fs)(hB:BI w 0 (.slice bad ls.length bcp) ls)(hlen:fs.length<=10000)(hll:ls.length<=1000)(hl:∀p∈ls,Np p.1)(hpair:fs.Pairwise λa b=>Cc a.f b.f<0)
  (hmono:∀(X:Ev) i j (hi:i<fs.length) (hj:j<fs.length),i<=j->Cc fs[j].f X<0->Cc fs[i].f X<0)
  (hq:∀p∈ls,p.1.sort=0->∀q∈fs,Rm p.1.an q=true->p.1.ts.length<=q.f.dc.length):
  Calls prog 178 #[.pointer (some ⟨sp,0,none⟩),.int .i32 v,.agg (Ai b).toArray] w λr w'=>∃(ad:Option Addr) (cp:Nat) (m:List cR) (ps:List Tl),r=.returned (.slice ad m.length cp)/\I2 ps m/\DS fs b v (ls.map Prod.fst) (ps.map Prod.fst)/\w'.ownsRow w.heap.size 170 1 (.slice ad m.length cp) m.length (m.flatMap Ae)/\Ac [] w w':=by
 obtain⟨i0,hi0,hz0,hz1,hz2⟩:=cU Tryz.zQ;have HSe:=Ab hS;have HBo:=Ab hB;have HIx:Hid (∀(x:PL) ad cp wz,Ac [] w wz->Np x->Jf w 0 (x,.slice ad x.ts.length cp)->Calls prog 206 #[.slice ad x.ts.length cp,.agg #[.int .i32 v,.string ⟨#[]⟩]] wz λr w'=>∃n,r=.returned (.int .i64 n)/\PR x.ts ⟨v,ByteArray.empty⟩ n/\Ac [] wz w'):=λx ad cp wz hk hc hx=>Xn ad cp x.ts ⟨v,ByteArray.empty⟩ 0 wz (hx.kept hk (by simp)) (by have:=hc.len;omega)
 have HCo:Hid (∀(x:PL) ad cp (at_:Nat) wz,Ac [] w wz->Np x->Jf w 0 (x,.slice ad x.ts.length cp)->(∀q∈fs,Rm x.an q=true->x.ts.length<=q.f.dc.length)->at_<x.ts.length->Calls prog 207 #[.pointer (some ⟨sp,0,none⟩),.agg #[.int .i64 x.ap,.string x.an,.slice ad x.ts.length cp],.int .i64 at_,.agg (Ai b).toArray] wz λr w'=>∃(ad:Option Addr) (cp:Nat) (m:List cR),r=.returned (.slice ad m.length cp)/\Cy E2 m/\UJ b x.ts at_ (fs.filter (Rm x.an)) m/\m.length<=fs.length/\w'.ownsRow wz.heap.size 170 1 (.slice ad m.length cp) m.length (m.flatMap Ae)/\Ac [] wz w'):=
  λx ad cp at_ wz hk hc hx hqx hat=>TW sp kb ko _ ov sad scp fs x.ap x.an ad cp x.ts at_ b wz hb (hS.kept hk) (hx.kept hk (by simp)) hc.len hc.ts (by omega) hpair (hmono _) (λq hqm hqn=>⟨hqx q hqm hqn,by have:=hqx q hqm hqn;omega⟩)
 have HLc:=Ab hl;have HQq:=Ab hq;have hc:=Bo b;have hl26:(Ai b).length=26:=by unfold Ai;simp[hb]
 have HL26:=Ab hl26;obtain⟨E,hE⟩:∃E,Ai b=E:=⟨_,rfl⟩;rw[hE]at hc hl26 HL26 HCo⊢;have HN:=Ab (AE.new w E 243);have HK:=Ab ((Ac.refl [] w).alloc (.cells E.toArray 243));clear hE hS hB hl hmono hq hpair;obtain⟨CC,hCC⟩:∃CC:List (List cR)->Prop,CC=DS fs b v (ls.map Prod.fst):=⟨_,rfl⟩;have HR:Hid (∀R,DS fs b v ((ls.drop 0).map Prod.fst) R->CC (([]:List Tl).map Prod.fst++R)):=λR h=>by rw[hCC];exact h
 rw[<-hCC];clear hCC;obtain⟨W0,hW0⟩:∃W0,w.heap.size=W0:=⟨_,rfl⟩;have HW0:=Ab hW0;go_enter func178,ntmps178;apply wp_seq_k;intro KK hKK;have HKK:=Ab hKK;clear hKK;go_wp2;refine Aa HKK _ _ ?_;clear HKK KK;generalize hw1:w.alloc (.cells E.toArray 243)=w1 at HN HK⊢;clear hw1;rw[hW0]at HN⊢;clear hW0;have s1:=((Aa HSe).kept (Aa HK)).gA.cell 1;simp at s1;go_wp2_with fail
 go_loopg [7,16] ls.length (λgk o i wr=>∃(k:Nat) (ps:List Tl) (ado:Option Addr) (cpo:Nat),o=.slice ado ps.length cpo/\i=.int .i64 k/\k<=ls.length/\gk=ls.length-k/\ps.length<=k/\Hid (∀R,DS fs b v ((ls.drop k).map Prod.fst) R->CC (ps.map Prod.fst++R))/\Hid (wr.ownsRow W0 102 1 (.slice ado ps.length cpo) ps.length (ps.flatMap λp=>[p.2]))/\Hid (∀p∈ps,wr.ownsRow 0 170 1 p.2 p.1.length (p.1.flatMap Ae)/\Cy E2 p.1/\p.1.length<=10000)/\Hid (AE wr W0 E 243)/\Hid (Ac [] w wr))
 case atStart=>exact⟨0,[],none,0,rfl,rfl,by omega,rfl,by simp,HR,ck _ _ _ _,(λp hp=>by cases hp),HN,HK⟩
 case round=>
  clear HR HN HK s1;obtain⟨k,ps,ado,cpo,rfl,rfl,hk,hgk,hpl,HR,HO,HE,HN,HK⟩:=hrel;have HG:=Ab hgk;clear hgk;by_cases gK:k<ls.length
  .obtain⟨g,cap,x,xad,xcp,he,hlk,_,d0,d1,d2,d3,d4,d5,d6,d7,d8⟩:=RQ ((Aa HBo).kept (Aa HK) (by simp)) k gK;simp only[bK]at he;obtain⟨rfl,_,rfl⟩:=he;(have hmem:(x,Value.slice xad x.ts.length xcp)∈ls:=by rw[<-hlk];exact bL gK);have hLx:=Aa HLc _ hmem;have hPx:Jf w 0 (x,.slice xad x.ts.length xcp):=((Aa HBo).each _ hmem).1;(have hQx:x.sort=0->∀q∈fs,Rm x.an q=true->x.ts.length<=q.f.dc.length:=λh=>Aa HQq _ hmem h);have HR2:Hid (∀R,(if x.sort=0 then∃n,PR x.ts ⟨v,ByteArray.empty⟩ n/\(if n<0 then DS fs b v ((ls.drop (k+1)).map Prod.fst) R else∃m r',R=m::r'/\UJ b x.ts n.toNat (fs.filter (Rm x.an)) m/\DS fs b v ((ls.drop (k+1)).map Prod.fst) r')else DS fs b v ((ls.drop (k+1)).map Prod.fst) R)->CC (ps.map Prod.fst++R)):=by
    intro R h;refine Aa HR R ?_;rw[ci gK,cu,hlk];exact h
   have HKa:=Ab ((Aa HK).alloc (.cells (Aq (x,.slice xad x.ts.length xcp)).toArray 217));have HOa:=Ab (bQ (Aa HO) (.cells (Aq (x,.slice xad x.ts.length xcp)).toArray 217));(have HEa:Hid (∀p∈ps,(wr.alloc (.cells (Aq (x,.slice xad x.ts.length xcp)).toArray 217)).ownsRow 0 170 1 p.2 p.1.length (p.1.flatMap Ae)/\Cy E2 p.1/\p.1.length<=10000):=λp hp=>⟨bQ (Aa HE p hp).1 _,(Aa HE p hp).2⟩);have HBa:=Ab ((Aa HN).alloc (.cells (Aq (x,.slice xad x.ts.length xcp)).toArray 217));have HXa:=Ab (AE.new wr (Aq (x,.slice xad x.ts.length xcp)) 217);have HC1:=Ab (Aa HIx x xad xcp _ (Aa HKa) hLx hPx);have HC2:=Ab (λat_ wz hk hq=>Aa HCo x xad xcp at_ wz hk hLx hPx hq);have HQx:=Ab hQx;(have hsw:W0<=wr.heap.size:=by have:=(Aa HK).size;have:=Aa HW0;omega);obtain⟨pl,so,ap,an,ts,⟨lv,lsv⟩,⟨rv,rsv⟩⟩:=x;simp only[Aq]at HKa HOa HEa HBa HXa HC1 HC2 HR2 HQx d0 d1 d2 d3 d4 d5 d6 d7 d8;clear hlk hmem hLx hPx hQx HR HO HE HN HK;by_cases hso:so=0
   ·(have hsb:(so !=0)=false:=by simp[hso]);(have hsc:(so==0)=true:=by simp[hso]);have HQy:=Ab (Aa HQx hso);(have HR3:Hid (∀R,(∃n,PR ts ⟨v,ByteArray.empty⟩ n/\(if n<0 then DS fs b v ((ls.drop (k+1)).map Prod.fst) R else∃m r',R=m::r'/\UJ b ts n.toNat (fs.filter (Rm an)) m/\DS fs b v ((ls.drop (k+1)).map Prod.fst) r'))->CC (ps.map Prod.fst++R)):=λR h=>Aa HR2 R (by rw[if_pos hso];exact h));clear HR2 HQx hso;(go_wp2_with fail);refine(Aa HC1).mono ?_;rintro _ w3 ⟨n,rfl,hidx,k3⟩;have HId:=Ab hidx;have HK3:=Ab ((Aa HKa).trans k3);have HB3:=Ab ((Aa HBa).kept k3 (by simp));have hX3:=(Aa HXa).kept k3 (by simp);have HO3:=Ab (Ad (Aa HOa) k3 (by simp));(have HE3:Hid (∀p∈ps,w3.ownsRow 0 170 1 p.2 p.1.length (p.1.flatMap Ae)/\Cy E2 p.1/\p.1.length<=10000):=λp hp=>⟨Ad (Aa HEa p hp).1 k3 (by simp),(Aa HEa p hp).2⟩);clear hidx HC1 HKa HBa HOa HEa k3 d0 d1 d2 d3 d4 d5 d6 d7 d8 HXa;by_cases hn:n<0
    ·(have hn0:¬(0:Int)<=n:=by omega);(have HR4:Hid (∀R,DS fs b v ((ls.drop (k+1)).map Prod.fst) R->CC (ps.map Prod.fst++R)):=λR h=>Aa HR3 R ⟨n,Aa HId,by rw[if_pos hn];exact h⟩);clear HR3 hn HC2 hX3;go_wp2
     go_roundg (ls.length-(k+1))
     case measure=>have:=Aa HG;omega
     case rel=>exact⟨k+1,ps,ado,cpo,rfl,by go_num,by omega,rfl,by omega,HR4,HO3,HE3,HB3,HK3⟩
    ·(have hn0:(0:Int)<=n:=by omega);obtain⟨at_,rfl⟩:∃at_:Nat,n=(at_:Int):=⟨n.toNat,by omega⟩;have hat:at_<ts.length:=by
      rcases Aa HId with⟨h,_⟩|⟨j,hj,h,_⟩
      .omega
      .omega
     have HC4:=Ab (Aa HC2 at_ w3 (Aa HK3) (Aa HQy) hat);have e0:=hX3.cell 0;have e1:=hX3.cell 1;have e2:=hX3.cell 2;have e3:=hX3.cell 3;have e4:=hX3.cell 4;simp at e0 e1 e2 e3 e4;clear hX3 HC2 hn;go_wp2_with ((with_reducible show wpList _ _ _ ({dst:=_,op:=Op.load 243 _,type:=_,pos:=_,after:=_,guard:=_}::_) _ _);refine By (by rfl) 243 _ rfl W0 0 (by rfl) E _ (Aa HB3).range underlying243 rfl (by rw[Aa HL26];exact Tryz.ea) ?_)
     refine(Aa HC4).mono ?_;rintro _ w4 ⟨cad,ccp,m,rfl,hris,hcol,hml,hrow,k4⟩;have HK4:=Ab ((Aa HK3).trans k4);have HB4:=Ab ((Aa HB3).kept k4 (by simp));have hO4:=Ad (Aa HO3) k4 (by simp);(have HE4:Hid (∀p∈ps,w4.ownsRow 0 170 1 p.2 p.1.length (p.1.flatMap Ae)/\Cy E2 p.1/\p.1.length<=10000):=λp hp=>⟨Ad (Aa HE3 p hp).1 k4 (by simp),(Aa HE3 p hp).2⟩);have HRow:Hid (w4.ownsRow 0 170 1 (.slice cad m.length ccp) m.length (m.flatMap Ae)):=Ak hrow (b8 _);have HRi:Hid (Cy E2 m/\m.length<=10000):=⟨hris,by omega⟩;have HR4:Hid (∀R,DS fs b v ((ls.drop (k+1)).map Prod.fst) R->CC ((ps++[(m,Value.slice cad m.length ccp)]).map Prod.fst++R)):=by
      intro R h;have h2:=Aa HR3 (m::R) ⟨at_,Aa HId,by rw[if_neg (by omega)];exact⟨m,R,rfl,by rw[show((at_:Nat):Int).toNat=at_ by omega];exact hcol,h⟩⟩;rw[cW,dd];exact h2
     (have hs4:W0<=w4.heap.size:=by have:=(Aa HK4).size;have:=Aa HW0;omega);clear HC4 HK3 HB3 HO3 HE3 k4 hris hcol hml hrow HR3 e0 e1 e2 e3 e4;obtain⟨ml,hml⟩:∃ml,m.length=ml:=⟨_,rfl⟩;have HMl:=Ab hml;rw[hml]at HR4 HRow⊢;clear hml;go_wp2_with (at_builtin;refine cd _ rfl (.tmp 31) (.tmp 38) _ rfl W0 102 i0 _ 1 24 underlying303 hi0 hz0 hz1 hz2 rfl (by omega) (.slice ado ps.length cpo) ps.length (ps.flatMap λp=>[p.2]) rfl (bQ hO4 _) ⟨w4.heap.size,0,none⟩ 1 1 [.slice cad ml ccp] rfl rfl (cj (cs:=#[.slice cad ml ccp]) (t:=102) (fr:=(0,0)) (cA w4 _)) (by simp[Value.oneCell']) (by omega) (by unfold maxLen;omega) (by omega) (by simp;omega) (w4.heap.size+1) (by simp) ?_;intro g1 cp1 w9 ho1 hg1 ha1 hl1)
     have HO9:Hid (w9.ownsRow W0 102 1 (.slice (some ⟨g1,0,none⟩) (ps++[(m,Value.slice cad ml ccp)]).length cp1) (ps++[(m,Value.slice cad ml ccp)]).length ((ps++[(m,Value.slice cad ml ccp)]).flatMap λp=>[p.2])):=by
      rw[cw];simp only[cc,bU,cE,cV,cg,cZ,cK];exact ho1
     have HE9:Hid (∀p∈ps++[(m,Value.slice cad ml ccp)],w9.ownsRow 0 170 1 p.2 p.1.length (p.1.flatMap Ae)/\Cy E2 p.1/\p.1.length<=10000):=by
      intro p hp;rcases bY.1 hp with h|h
      .exact⟨Ql (bQ (Aa HE4 p h).1 _) (bQ hO4 _) hg1,(Aa HE4 p h).2⟩
      .simp only[bO]at h;subst h;exact⟨Ql (p:=(m,Value.slice cad ml ccp)) (bQ (by rw[Aa HMl];exact Aa HRow) _) (bQ hO4 _) hg1,Aa HRi⟩
     have HK9:=Ab (((Aa HK4).alloc (.cells #[.slice cad ml ccp] 102)).grown hg1 (λq hq=>Or.inr (by have:=(hO4.lt q hq).1;have:=Aa HW0;omega)));have HB9:Hid (AE w9 W0 E 243):=((Aa HB4).alloc (.cells #[.slice cad ml ccp] 102)).grown hg1 (AS hO4 (Aa HB4) (by decide));clear ho1 hg1 ha1 hl1 hO4 HE4 HK4 HB4 HRow
     go_roundg (ls.length-(k+1))
     case measure=>have:=Aa HG;omega
     case rel=>exact⟨k+1,ps++[(m,Value.slice cad ml ccp)],some ⟨g1,0,none⟩,cp1,by simp,by go_num,by omega,rfl,by simp;omega,HR4,HO9,HE9,HB9,HK9⟩
   ·(have hsb:(so !=0)=true:=by simp[hso]);(have hsc:(so==0)=false:=by simp[hso]);(have HR4:Hid (∀R,DS fs b v ((ls.drop (k+1)).map Prod.fst) R->CC (ps.map Prod.fst++R)):=λR h=>Aa HR2 R (by rw[if_neg hso];exact h));clear hso HR2 HC1 HC2 HQx;go_wp2
    go_roundg (ls.length-(k+1))
    case measure=>have:=Aa HG;omega
    case rel=>exact⟨k+1,ps,ado,cpo,rfl,by go_num,by omega,rfl,by omega,HR4,HOa,HEa,HBa,HKa⟩
  .have HR3:Hid (CC (ps.map Prod.fst)):=by
    have h:=Aa HR [] (by rw[cG (by omega)];rfl);rw[cK]at h;exact h
   have HCm:=Ab (T4 ado cpo ps wr ⟨Ak (Aa HO) (b8 _),Aa HE⟩ (by omega));clear HR HO HE HN;(go_wp2_with fail);refine(Aa HCm).mono ?_;rintro _ w3 ⟨ad,cp,m,rfl,hcom,hrow,k3⟩;have HCo2:=Ab hcom;have HRow:=Ab (Ak hrow (show w.heap.size<=wr.heap.size from(Aa HK).size))
   have HK3:=Ab ((Aa HK).trans k3);obtain⟨ml,hml⟩:∃ml,m.length=ml:=⟨_,rfl⟩;have HMl:=Ab hml;rw[hml];clear hcom hrow k3 HCm hml;go_wp2;go_ret;rw[<-Aa HMl];refine⟨ad,cp,m,ps,rfl,Aa HCo2,Aa HR3,?_,Aa HK3⟩;rw[<-Aa HW0];exact Aa HRow
def Cm(vs:List UInt8):List Int:=vs.map λv=>(v.toNat:Int)
structure Yl(w:World)(sp:Nat)(body:List Bg)(s:List Ah)(vs:List UInt8):Prop where
 at_:∃(kb ko:Nat) (bad:Option Addr) (bcp:Nat) (db:List JF) (oad:Option Addr) (ocp:Nat) (sad:Option Addr) (scp:Nat) (fs:List Gm),
  M8 w sp kb ko (.slice bad db.length bcp) (.slice oad (Cm vs).length ocp) sad scp fs/\BI w 0 (.slice bad db.length bcp) db/\db.map Prod.fst=body.map Kj/\
  w.ownsRow 0 21 1 (.slice oad (Cm vs).length ocp) (Cm vs).length ((Cm vs).flatMap AK)/\Ei fs s
 len:s.length<=10000
 lits:∀x∈body,CN x/\Np (Kj x)
 blen:body.length<=1000
 zC:vs.length<=1000
 fit:Vy s body
 ok:∀v∈vs,DH v
theorem Yl.kept{w w':World}{a:Nat}{c:List Bg}{s:List Ah}{b:List UInt8}(h:Yl w a c s b)(k:Ac [] w w'):Yl w' a c s b:=by
 obtain⟨t,n,u,l,i,o,d,r,g,p,j,e,q,f,m⟩:=h.at_;exact⟨⟨t,n,u,l,i,o,d,r,g,p,j.kept k,e.kept k (by simp),q,Ad f k (by simp),m⟩,h.len,h.lits,h.blen,h.zC,h.fit,h.ok⟩
theorem Ei.len{a:List Gm}{s:List Ah}(h:Ei a s):a.length=s.length:=by
 have:=congrArg List.length h.same;simpa using this
theorem QT{w:World}{b:Nat}{a:List Bg}{s:List Ah}{q:List UInt8}(h:Yl w b a s q){e:List cR}(i:CP e):
  Calls prog 177 #[.pointer (some ⟨b,0,none⟩),.agg (Ai (Bf e)).toArray] w λr g=>r=.returned (.bool (DT a s e))/\Ac [] w g:=by
 obtain⟨D,u,o,n,j,E,H,v,z,A,t,m,d,G,c⟩:=h.at_;have I:=c.len;have K:j.length=a.length:=by have:=congrArg List.length d;simpa using this
 have F:=h.blen;have J:=h.len;refine(U9 b D u o n j _ v z A (Bf e) w (GM i) t m (by omega) (by omega) (λp y=>?_) (λX=>c.mono X)).mono ?_
 .have:p.1∈a.map Kj:=by rw[<-d];exact cm y
  obtain⟨x,f,C⟩:=bV.1 this;rw[<-C];exact(h.lits x f).2
 .rintro r g ⟨B,rfl,l,k⟩;rw[d]at l;exact⟨by rw[TG c i a (λx f=>(h.lits x f).1) B l],k⟩
theorem Sd{w:World}{o:Nat}{a:List Bg}{s:List Ah}{L:List UInt8}(h:Yl w o a s L){e:List cR}(D:CP e){v:UInt8}(S:DH v):
  Calls prog 178 #[.pointer (some ⟨o,0,none⟩),.int .i32 (v.toNat:Int),.agg (Ai (Bf e)).toArray] w λr t=>∃(l:Option Addr) (n:Nat),r=.returned (.slice l ((IX a s v e).map Aw).length n)/\
   t.ownsRow w.heap.size 170 1 (.slice l ((IX a s v e).map Aw).length n) ((IX a s v e).map Aw).length (((IX a s v e).map Aw).flatMap Ae)/\Ac [] w t:=by
 obtain⟨V,N,I,G,y,Y,AH,O,P,Q,M,F,u,h4,b⟩:=h.at_;have hl:=b.len;have Bx:y.length=a.length:=by have:=congrArg List.length u;simpa using this
 have Z:=h.blen;have hn:=h.len;have C:∀p∈y,∃x∈a,Kj x=p.1:=λp c=>by
  have:p.1∈a.map Kj:=by rw[<-u];exact cm c
  exact bV.1 this
 refine(Sg o V N I G y _ O P Q (v.toNat:Int) (Bf e) w (GM D) M F (by omega) (by omega) (λp c=>?_) b.pair (λX=>b.mono X) (λp c E q K j=>?_)).mono ?_
 .obtain⟨x,d,i⟩:=C p c;rw[<-i];exact(h.lits x d).2
 .obtain⟨x,d,i⟩:=C p c;have R:q.f∈s.map Df:=by rw[<-b.same];exact cm K
  obtain⟨g,H,B⟩:=bV.1 R;rw[<-i]at E j⊢;have J:(x.kind==97)=true:=by
   rw[<-RW];have:Fx x.kind=0:=E;rw[this];rfl
  have T:g.name=x.A.name:=by
   unfold Rm at j;rw[<-B]at j;exact toList_inj (by simpa[Kj,Df] using j)
  have:=h.fit g H x d J T;rw[<-B];simp[Kj,Df];omega
 .rintro r t ⟨l,n,m,ps,rfl,W,z,U,k⟩;rw[u]at z;obtain⟨i,_⟩:=UG b D S (λx d=>(h.lits x d).1) h.fit z W;rw[<-i];exact⟨l,n,rfl,U,k⟩
theorem Xr{w:World}{b:Nat}{a:List Bg}{s:List Ah}{d:List UInt8}(h:Yl w b a s d)(v:UInt8)(e:List cR):∀t∈IX a s v e,AX t:=by
 obtain⟨y,n,k,i,x,j,p,o,q,r,m,g,u,l,f⟩:=h.at_;exact λt c=>Ho f.canon h.fit v e t ((Fd a s v e t).1 c)
theorem Xw{w:World}{f:Nat}{l:List Bg}{s:List Ah}{a:List UInt8}(h:Yl w f l s a)(k:Nat)(m:k<a.length):
  ∃(d c:Nat) (t:Value) (g b:Nat),AE w f [.pointer (some ⟨d,c,none⟩),t,.slice (some ⟨g,0,none⟩) a.length b] 237/\w.cell? ⟨g,k,none⟩=some (.int .i32 (a[k].toNat:Int)):=by
 obtain⟨d,c,y,v,F,x,B,A,C,D,o,u,E,n,z⟩:=h.at_;have j:k<(Cm a).length:=by unfold Cm;simpa using m
 obtain⟨g,b,q,r⟩:=OS n k j;have p:(Cm a).length=a.length:=by unfold Cm;simp
 have i:=o.gA;rw[q,p]at i;refine⟨d,c,_,g,b,i,?_⟩;have e:(Cm a)[k]=(a[k].toNat:Int):=by simp[Cm]
 rw[r,e]
