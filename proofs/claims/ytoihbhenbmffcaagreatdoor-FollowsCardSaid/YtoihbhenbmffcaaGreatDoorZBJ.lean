import Derived.Test.YtoihbhenbmffcaaGreatDoorZBI
import Derived.Test.YtoihbhenbmffcaaGreatDoorZBD
set_option linter.unusedVariables false
set_option linter.unusedSimpArgs false
set_option maxHeartbeats 6400000
namespace Go.Proofs.YtoihbhenbmffcaaGreatDoor
open Go.RowKit
open Go.Proofs.Tryz
def TP(b:List cL)(ts:List A3)(at_:Nat)(fs:List Fm)(m:List cL):Prop:=∀y,y∈m↔∃q∈fs,Gr b ts q.f.things=true/\y=q.f.things.getD at_ ByteArray.empty
structure UC(w:World)(N:Nat)(ap:Int)(nm:cL)(tv:Value)(E:List Value)(b:List cL)(ts:List A3)(at_:Nat)(pre:List Fm)(M:List Nat)(W:World):Prop where
 kept:Ac [] w W
 b5:Aw W N [.int .i64 ap, .string nm,tv] 187
 b6:Aw W (N+1) [.int .i64 at_] 3
 b7:Aw W (N+2) E 243
 out:∃(m:List cL) (ad:Option Addr) (cp:Nat),Aw W (N+3) [.slice ad m.length cp] 102/\W.ownsRow N 170 1 (.slice ad m.length cp) m.length (m.flatMap Ae)/\Ct Dg m/\TP b ts at_ pre m/\m.length<=pre.length/\M=(N+3)::(Value.slice ad m.length cp).ownBlock.toList
theorem UC.own{w:World}{N B:Nat}{ap:Int}{nm:cL}{tv:Value}{E:List Value}{b:List cL}{ts:List A3}{at_:Nat}(f:w.heap.size<=B):OwnFrom B (fun(s:List Fm×List Nat) W=>UC w N ap nm tv E b ts at_ s.1 s.2 W):=
 CR (λs W j M h k a=>by
  obtain⟨m,i,e,d,c,g⟩:=h.out
  exact⟨Ge h.kept k a f,h.b5.kept k (Do a h.b5),h.b6.kept k (Do a h.b6),h.b7.kept k (Do a h.b7),m,i,e,d.kept k (Do a d),Ar c k (Gb a c),g⟩)
set_option maxRecDepth 100000
theorem SY(sp kb ko:Nat)(bv ov:Value)(sad:Option Addr)(scp:Nat)(fs:List Fm)(ap:Int)(nm:cL)(tad:Option Addr)(tcp:Nat)(ts:List A3)(at_:Nat)(b:List cL)(w:World)(hb:b.length=26)(hS:Mn w sp kb ko bv ov sad scp fs)
  (ht:w.ownsRow 0 215 2 (.slice tad ts.length tcp) ts.length (ts.flatMap Am)) (htl:ts.length<=1000) (hv:∀t∈ts,MA t) (hlen:fs.length<=900000) (hpair:fs.Pairwise λa b=>B6 a.f b.f<0)
  (hmono:∀i j (hi:i<fs.length) (hj:j<fs.length),i<=j->B6 fs[j].f ⟨nm,[]⟩<0->B6 fs[i].f ⟨nm,[]⟩<0)
  (hq:∀q∈fs,Qr nm q=true->ts.length<=q.f.things.length/\at_<q.f.things.length):
  Calls prog 207 #[.pointer (some ⟨sp,0,none⟩), .agg #[.int .i64 ap, .string nm, .slice tad ts.length tcp], .int .i64 at_, .agg (Ah b).toArray] w λr w'=>∃(ad:Option Addr) (cp:Nat) (m:List cL),r= .returned (.slice ad m.length cp)/\Ct Dg m/\TP b ts at_ (fs.filter (Qr nm)) m/\m.length<=fs.length/\w'.ownsRow w.heap.size 170 1 (.slice ad m.length cp) m.length (m.flatMap Ae)/\Ac [] w w':=by
 have HFi:Hid (∀nb (p:Fm) wz,p∈fs->Qr nm p=true->Ac [] w wz->Aw wz nb (Ah b) 243->Calls prog 222 #[.pointer (some ⟨nb,0,none⟩), .agg #[.int .i64 ap, .string nm, .slice tad ts.length tcp], .agg (A9 p).toArray] wz λr w'=>r= .returned (.bool (Gr b ts p.f.things))/\Ac [] wz w'):=λnb p wz hp hn hk hB=>X3 nb 243 b ap nm tad tcp ts p 0 wz hb hB (Ad ht hk (by simp)) ((hS.facts.each p hp).1.kept hk) (by omega) (hq p hp hn).1 hv
 have HIt:Hid (∀b1 b2 M0 wz,wz.cell? ⟨b1,0,none⟩=some (.pointer (some ⟨kb,ko,none⟩))->QH w b2 nm M0 wz->Mi prog 235 #[.pointer (some ⟨b1,0,none⟩), .pointer (some ⟨b2,0,none⟩)] (λq:Fm=>#[.agg (A9 q).toArray]) (fs.filter (Qr nm)) M0 wz):=λb1 b2 M0 wz h1 hO=>YD b1 b2 kb ko sad scp fs nm w wz M0 h1 hO hS.set hS.facts hlen hpair hmono
 have HSe:=Ab hS;have HQ:=Ab hq;have hc:=Bl b;have hl26:(Ah b).length=26:=by unfold Ah;simp[hb]
 obtain⟨E,hE⟩:∃E,Ah b=E:=⟨_,rfl⟩;rw[hE]at hc hl26 HFi⊢;clear hE hS hpair hmono hq hv;have HTr:=Ab ht;clear ht;obtain⟨N,hN⟩:∃N,w.heap.size=N:=⟨_,rfl⟩;have HN:=Ab hN;obtain⟨w1,hw1⟩:∃w1,(((w.alloc (.cells #[.int .i64 ap, .string nm, .slice tad ts.length tcp] 187)).alloc (.cells #[.int .i64 at_] 3)).alloc (.cells E.toArray 243)).alloc (.cells #[.slice none 0 0] 102)=w1:=⟨_,rfl⟩;have HW1:=Ab hw1;have hK1:Ac [] w w1:=by rw[<-hw1];exact((((Ac.refl [] w).alloc _).alloc _).alloc _).alloc _
 have hB5:Aw w1 N [.int .i64 ap, .string nm, .slice tad ts.length tcp] 187:=by
  rw[<-hw1,<-hN];exact(((Aw.new w [.int .i64 ap, .string nm, .slice tad ts.length tcp] 187).alloc _).alloc _).alloc _
 have hB6:Aw w1 (N+1) [.int .i64 at_] 3:=by
  rw[<-hw1];have h:=((Aw.new (w.alloc (.cells #[.int .i64 ap, .string nm, .slice tad ts.length tcp] 187)) [.int .i64 at_] 3).alloc (.cells E.toArray 243)).alloc (.cells #[.slice none 0 0] 102);rw[aP,hN]at h;exact h
 have hB7:Aw w1 (N+2) E 243:=by
  rw[<-hw1];have h:=(Aw.new ((w.alloc (.cells #[.int .i64 ap, .string nm, .slice tad ts.length tcp] 187)).alloc (.cells #[.int .i64 at_] 3)) E 243).alloc (.cells #[.slice none 0 0] 102);rw[aP,aP,hN]at h;exact h
 have hB9:Aw w1 (N+3) [.slice none 0 0] 102:=by
  rw[<-hw1];have h:=Aw.new (((w.alloc (.cells #[.int .i64 ap, .string nm, .slice tad ts.length tcp] 187)).alloc (.cells #[.int .i64 at_] 3)).alloc (.cells E.toArray 243)) [.slice none 0 0] 102;rw[aP,aP,aP,hN]at h;exact h
 have HI1:Hid (UC w N ap nm (.slice tad ts.length tcp) E b ts at_ [] [N+3] w1):=⟨hK1,hB5,hB6,hB7,[],none,0,hB9,ax _ _ _ _,λi j h=>absurd h (by simp),λy=>by simp,by simp,by simp[Value.ownBlock]⟩;have HB9:=Ab hB9.lt;clear hw1 hK1 hB5 hB6 hB7 hB9 hN;refine GE func207 rfl ?_;simp only[ntmps207,bo,ak,aH,Nat.reduceAdd,Nat.reduceSub,dD,dE,dV,dI,bU,cJ];have hNO:¬LetsOut (bodyPostM Fence.wide 0 prog Tryz.f207 λr w'=>∃(ad:Option Addr) (cp:Nat) (m:List cL),r= .returned (.slice ad m.length cp)/\Ct Dg m/\TP b ts at_ (fs.filter (Qr nm)) m/\m.length<=fs.length/\w'.ownsRow w.heap.size 170 1 (.slice ad m.length cp) m.length (m.flatMap Ae)/\Ac [] w w'):=VY (λ_ ⟨_,_,_,h,_⟩=>by cases h);obtain⟨QQ,hQQ⟩:∃QQ,(bodyPostM Fence.wide 0 prog Tryz.f207 λr w'=>∃(ad:Option Addr) (cp:Nat) (m:List cL),r= .returned (.slice ad m.length cp)/\Ct Dg m/\TP b ts at_ (fs.filter (Qr nm)) m/\m.length<=fs.length/\w'.ownsRow w.heap.size 170 1 (.slice ad m.length cp) m.length (m.flatMap Ae)/\Ac [] w w')=QQ:=⟨_,rfl⟩;have HQQ:=Ab hQQ;rw[hQQ]at hNO⊢;have HNO:=Ab hNO;clear hQQ hNO;refine wp_seq_k (λK1 hK1=>?_);have HK1:=Ab hK1;clear hK1;go_wp2;refine Aa HK1 _ _ ?_;clear HK1 K1;refine wp_seq_k (λK1 hK1=>?_);have HK1:=Ab hK1;clear hK1;go_wp2;refine Aa HK1 _ _ ?_;clear HK1 K1;change Code.wp _ _ _ _ ((((w.alloc (.cells #[.int .i64 ap, .string nm, .slice tad ts.length tcp] 187)).alloc (.cells #[.int .i64 at_] 3)).alloc (.cells E.toArray 243)).alloc (.cells #[.slice none 0 0] 102));rw[Aa HW1,Aa HN];clear HW1;have HCs:Hid (∀wz,Ac [] w1 wz->wz.cell? ⟨sp,0,none⟩=some (.pointer (some ⟨kb,ko,none⟩))/\wz.cell? ⟨N,1,none⟩=some (.string nm)):=λwz hk=>by
  have h1:=((Aa HSe).kept ((Aa HI1).kept.trans hk)).blk.cell 0;have h2:=((Aa HI1).b5.kept hk (by simp)).cell 1;simp at h1 h2;exact⟨h1,h2⟩
 have HOf:Hid (∀wz,Calls prog 221 #[.pointer (some ⟨kb,ko,none⟩), .string nm] wz λr w'=>∃b1 b2,r= .returned (.func (.func 235) #[] #[.pointer (some ⟨b1,0,none⟩), .pointer (some ⟨b2,0,none⟩)])/\Aw w' b1 [.pointer (some ⟨kb,ko,none⟩)] 69/\Aw w' b2 [.string nm] 9/\wz.heap.size<=b1/\wz.heap.size<=b2/\Ac [] wz w'):=λwz=>Vs kb ko nm wz
 obtain⟨s0,s1⟩:=Aa HCs w1 (Ac.refl _ _);refine wp_seq_k (λK1 hK1=>?_);have HK1:=Ab hK1;clear hK1;refine wp_seq_k (λK2 hK2=>?_);have HK2:=Ab hK2;clear hK2
 go_region_held3 (λwz=>Ac [] w1 wz/\wz.cell? ⟨sp,0,none⟩=some (.pointer (some ⟨kb,ko,none⟩))/\wz.cell? ⟨N,1,none⟩=some (.string nm)) ((go_split_ands;refine(fun(hkz:Ac [] w1 _)=>And.intro hkz (Aa HCs _ hkz)) ?_;repeat (first|assumption|exact Ac.refl [] _|refine Ac.drew ?_|refine Ac.alloc ?_ _))) ((go_at_call 221;refine(Aa HOf _).mono ?_;rintro e w3 ⟨b1,b2,rfl,hb1,hb2,hl1,hl2,k3⟩;have hk3:Ac [] w1 w3:=(by go_split_ands;exact Ac.trans (by assumption) k3);have HB1:=Ab hb1;have HB2:=Ab hb2;have HK3:=Ab hk3;have HL3:Hid (w1.heap.size<=b1/\w1.heap.size<=b2):=⟨hl1,hl2⟩;clear hb1 hb2 hl1 hl2 k3 hk3))
 refine Aa HK2 _ _ ?_;clear HK2 K2 s0 s1 HOf HCs;refine wp_block ?_;have HI3:Hid (UC w N ap nm (.slice tad ts.length tcp) E b ts at_ [] [N+3] w3):=BH (UC.own (au _)) (s:=([],[N+3])) (Aa HI1) (Aa HK3);have HO3:Hid (QH w b2 nm [N+3] w3):=by
  have h1:=(Aa HB2).cell 0;simp at h1;refine⟨(Aa HI3).kept,h1,λk hk=>?_⟩;have hn:=Aa HN;have h2:=(Aa HL3).2;have h3:=Aa HB9;have h4:=(Aa HK3).size;simp only[ae]at hk;omega
 have hit:=Aa HIt b1 b2 [N+3] w3 (by have h:=(Aa HB1).cell 0;simp at h;exact h) (Aa HO3);have hw3:N+4<=w3.heap.size:=by have h3:=Aa HB9;have h4:=(Aa HK3).size;omega
 refine Jh (T:=104) (q:=10) rfl (enters_of func235 (by kernel_rfl) rfl) hit (λk hk=>by simp only[ae]at hk;omega) (UC w N ap nm (.slice tad ts.length tcp) E b ts at_) (λ_ _ _ _=>False) (UC.own (by have:=Aa HN;omega)) (λ_ _ _ _ _ h _ _=>h) (Aa HI3) ?assign ?body ?done ?stop
 case assign=>
  intro l x W K hx HK;have hxf:=(aJ.1 hx).1;obtain⟨⟨xn,xt⟩,xv⟩:=x;obtain⟨xad,xcp,hxv⟩:=Ak ((Aa HSe).facts.each _ hxf).1;simp only at hxv;subst hxv;simp only[A9]at HK⊢;clear hx hxf;simp only[Z3,Z4,Z5]at HK⊢;refine CN (by rfl) (KN Jk) ?_;go_wp2;refine Aa HK _ ((Ac.refl [] W).alloc _) ?_;exact Aw.new W [.string xn, .slice xad xt.length xcp] 104
 case body=>
  intro l Bx pre x rest M W hxs hi hM hBx hB;have hx:x∈fs.filter (Qr nm):=by rw[hxs];simp
  have hxf:=(aJ.1 hx).1;have hxn:=(aJ.1 hx).2;have hxa:=(Aa HQ x hxf hxn).2;have HCall:=Ab (Aa HFi (N+2) x W hxf hxn hi.kept hi.b7);have HPf:Hid (DW W x):=((Aa HSe).facts.each x hxf).1.kept hi.kept;have HPw:Hid (DW w x):=((Aa HSe).facts.each x hxf).1;obtain⟨⟨xn,xt⟩,xv⟩:=x;obtain⟨xad,xcp,hxv⟩:=Ak (Aa HPf);simp only at hxv hxa;subst hxv;obtain⟨m,mad,mcp,h9,hrow,hrise,hcol,hml,hMe⟩:=hi.out;simp only[A9]at HCall hB⊢;have d0:=hi.b5.cell 0;have d1:=hi.b5.cell 1;have d2:=hi.b5.cell 2;have e0:=hB.cell 0;have e1:=hB.cell 1;simp at d0 d1 d2 e0 e1;have HIi:=Ab hi;have HBx:=Ab hB;have H9:=Ab h9;have HRow:=Ab hrow;have HRise:=Ab hrise;have HCol:=Ab hcol;have HMe:=Ab hMe;obtain⟨X,hX⟩:∃X:Fm,X=⟨⟨xn,xt⟩, .slice xad xt.length xcp⟩:=⟨_,rfl⟩;have HXX:=Ab hX;rw[<-hX]at hxs⊢;clear hx hxf hxn hi hB h9 hrow hrise hcol hMe hM hX;obtain⟨F,hF⟩:∃F,Gr b ts xt=F:=⟨_,rfl⟩;rw[hF]at HCall;have HF:=Ab hF;clear hF;simp only[Z3,Z4,Z5];refine wpIn_block ?_;refine dW (λK3 hK3=>?_);have HK3':=Ab hK3;clear hK3;refine CN (by rfl) (by rintro ⟨_,_,h⟩;exact h) ?_;go_wp2_with fail
  refine(Aa HCall).mono ?_;rintro _ w4 ⟨rfl,k4⟩;have HK4:=Ab k4;clear k4 d0 d1 d2 e0 e1 HCall;go_wp2;refine Aa HK3' _ _ ?_;clear HK3' K3;cases F with
  |false=>
   refine wpIn_cond_false rfl (wpIn_skip ?_);refine⟨(Aa HK4).mono (by simp),M,?_,λk hk=>⟨Or.inl hk,?_⟩⟩
   ·have hi4:=BH (UC.own (N:=N) (ap:=ap) (nm:=nm) (tv:= .slice tad ts.length tcp) (E:=E) (b:=b) (ts:=ts) (at_:=at_) (au w.heap.size)) (s:=(pre,M)) (Aa HIi) (Aa HK4);obtain⟨m',ad',cp',g1,g2,g3,g4,g5,g6⟩:=hi4.out;refine⟨hi4.kept,hi4.b5,hi4.b6,hi4.b7,m',ad',cp',g1,g2,g3,λy=>?_,by have:=g5;simp at this⊢;omega,g6⟩;rw[g4 y];constructor
    ·rintro ⟨q,hq,hh⟩;exact⟨q,by simp[hq],hh⟩
    ·rintro ⟨q,hq,hh⟩;rcases aw.1 hq with hq|hq
     ·exact⟨q,hq,hh⟩
     ·simp only[ae]at hq;subst hq;rw[Aa HXX]at hh;rw[Aa HF]at hh;cases hh.1
   ·rw[Aa HMe]at hk;have h4:=(Aa HK4).size;rcases aj.1 hk with rfl|hk
    ·have:=(Aa H9).lt;omega
    ·have:=((Aa HRow).lt k (by simpa using hk)).2;omega
  |true=>
   refine wpIn_cond_true rfl ?_;have hro4:=Ar (Aa HRow) (Aa HK4) (by simp);have hnap:(Value.slice mad m.length mcp).ownBlock≠some (N+3):=AO hro4 ((Aa H9).kept (Aa HK4) (by simp)) (by decide);obtain⟨gx,cx,hex,hxc⟩:=Fj (Aa HPw) at_ hxa;simp only[Z6]at hex;obtain⟨rfl,-,rfl⟩:=hex;obtain⟨Y,hY⟩:∃Y,xt[at_]=Y:=⟨_,rfl⟩;rw[hY]at hxc;have hgx:=N8 hxc;have HSS:Hid (∀wz,Ac (Value.slice mad m.length mcp).ownBlock.toList w4 wz->wz.cell? ⟨N+3,0,none⟩=some (.slice mad m.length mcp)/\wz.cell? ⟨Bx,1,none⟩=some (.slice (some ⟨gx,0,none⟩) xt.length xcp)/\wz.cell? ⟨N+1,0,none⟩=some (.int .i64 at_)/\wz.cell? ⟨gx,at_,none⟩=some (.string Y)):=by
    intro wz hz;have a1:=(((Aa H9).kept (Aa HK4) (by simp)).kept hz (λhm=>hnap (by simpa using hm))).cell 0;have a2:=(((Aa HBx).kept (Aa HK4) (by simp)).kept hz (λhm=>AO hro4 ((Aa HBx).kept (Aa HK4) (by simp)) (by decide) (by simpa using hm))).cell 1;have a3:=(((Aa HIi).b6.kept (Aa HK4) (by simp)).kept hz (λhm=>AO hro4 ((Aa HIi).b6.kept (Aa HK4) (by simp)) (by decide) (by simpa using hm))).cell 0;have a4:=Md hz ((Aa HK4).cellAt ((Aa HIi).kept.cellAt hxc)) (λhm=>by have:=(hro4.lt gx (by simpa using hm)).1;have:=Aa HN;omega);simp at a1 a2 a3;exact⟨a1,a2,a3,a4⟩
   have HHS:=Ab (Aa HSS w4.drew (Ac.refl _ _).drew);(have hat0:(0:Int)<=(at_:Int):=by omega);(have hat1:(at_:Int)<(xt.length:Int):=by omega);have HAdd:=Ab (Sr mad mcp m Y N w4.drew hro4.drew (by have h1:=congrArg List.length hxs;have h2:=bO (Qr nm) fs;simp at h1;omega) (Aa HRise) (by have:=(Aa HIi).kept.size;have:=(Aa HK4).size;have:=Aa HN;show N<=w4.heap.size;omega));have HYg:Hid (xt.getD at_ ByteArray.empty=Y):=by
    show _=_;rw[aq,aA hxa,hY];rfl
   clear hY hxc hro4;refine DA 7 (λwz=>wz.cell? ⟨N+3,0,none⟩=some (.slice mad m.length mcp)/\wz.cell? ⟨Bx,1,none⟩=some (.slice (some ⟨gx,0,none⟩) xt.length xcp)/\wz.cell? ⟨N+1,0,none⟩=some (.int .i64 at_)/\wz.cell? ⟨gx,at_,none⟩=some (.string Y)) (by kernel_rfl) (by rfl) (by rintro ⟨_,_,h⟩;exact h) ?_;refine CF.take (i:=0) (v:= .slice mad m.length mcp) rfl (by kernel_rfl) (by kernel_rfl) (by kernel_rfl) (by kernel_rfl) (λ_ _ _ h=>h) (Aa HHS) (Or.inl ⟨by rfl,?_⟩) ?_
   ·(intro wz hSw;obtain⟨z0,z1,z2,z3⟩:=hSw;go_simp)
   simp only[Act.put,Z3,Z4,Z5];refine CF.take (i:=1) (v:= .pointer (some ⟨Bx,1,none⟩)) rfl (by kernel_rfl) (by kernel_rfl) (by kernel_rfl) (by kernel_rfl) (λ_ _ _ h=>h) (Aa HHS) (Or.inl ⟨by rfl,?_⟩) ?_
   ·(intro wz hSw;obtain⟨z0,z1,z2,z3⟩:=hSw;go_simp)
   simp only[Act.put,Z3,Z4,Z5];refine CF.take (i:=2) (v:= .slice (some ⟨gx,0,none⟩) xt.length xcp) rfl (by kernel_rfl) (by kernel_rfl) (by kernel_rfl) (by kernel_rfl) (λ_ _ _ h=>h) (Aa HHS) (Or.inl ⟨by rfl,?_⟩) ?_
   ·(intro wz hSw;obtain⟨z0,z1,z2,z3⟩:=hSw;go_simp)
   simp only[Act.put,Z3,Z4,Z5];refine CF.take (i:=3) (v:= .int .i64 at_) rfl (by kernel_rfl) (by kernel_rfl) (by kernel_rfl) (by kernel_rfl) (λ_ _ _ h=>h) (Aa HHS) (Or.inl ⟨by rfl,?_⟩) ?_
   ·(intro wz hSw;obtain⟨z0,z1,z2,z3⟩:=hSw;go_simp)
   simp only[Act.put,Z3,Z4,Z5];refine CF.take (i:=4) (v:= .pointer (some ⟨gx,at_,none⟩)) rfl (by kernel_rfl) (by kernel_rfl) (by kernel_rfl) (by kernel_rfl) (λ_ _ _ h=>h) (Aa HHS) (Or.inl ⟨by rfl,?_⟩) ?_
   ·(intro wz hSw;obtain⟨z0,z1,z2,z3⟩:=hSw;go_simp)
   simp only[Act.put,Z3,Z4,Z5];refine CF.take (i:=5) (v:= .string Y) rfl (by kernel_rfl) (by kernel_rfl) (by kernel_rfl) (by kernel_rfl) (λ_ _ _ h=>h) (Aa HHS) (Or.inl ⟨by rfl,?_⟩) ?_
   ·(intro wz hSw;obtain⟨z0,z1,z2,z3⟩:=hSw;go_simp)
   simp only[Act.put,Z3,Z4,Z5];refine CF.one (i:=6) (by kernel_rfl) rfl (λK hK=>?_)
   go_simp
   refine(Aa HAdd).mono ?_;rintro e w5 ⟨m',ad',cp',rfl,hr',hmem,hl1,hl2,hown,hk5,hfr⟩;have hk5':Ac (Value.slice mad m.length mcp).ownBlock.toList w4 w5:=(Ac.refl _ _).drew.trans hk5;refine hK.out _ _ (λ_=>Aa HSS w5 hk5') ?_;clear hK K
   try simp only[Act.put,Z3,Z4,Z5]
   have h95:Aw w5 (N+3) [.slice mad m.length mcp] 102:=((Aa H9).kept (Aa HK4) (by simp)).kept hk5' (λhm=>hnap (by simpa using hm));have c9:=h95.cell 0;have f9:=h95.frozen 0;simp at c9;refine CF.one (i:=7) (by kernel_rfl) rfl (λK hK=>?_)
   go_simp
   refine hK.out _ _ (λh=>absurd rfl h) ?_;clear hK K;refine CF.done (by kernel_rfl) ?_ _;have hnap2:(Value.slice ad' m'.length cp').ownBlock≠some (N+3):=AO hown h95 (by decide);have hM6:Ac M W (w5.setCell ⟨N+3,0,none⟩ (.slice ad' m'.length cp')):=by
    rw[Aa HMe];exact(((Aa HK4).mono (by simp)).trans (hk5'.mono (λi hi=>be _ hi))).setCell (p:=⟨N+3,0,none⟩) (Or.inl (bC ..)) _
   have hMge:∀k∈M,N<=k:=by
    intro k hk;rw[Aa HMe]at hk;rcases aj.1 hk with rfl|hk
    ·omega
    ·exact((Aa HRow).lt k (by simpa using hk)).1
   have hap:∀{bb:Nat} {cs:List Value} {t:TypeId},Aw W bb cs t->bb≠N+3->170≠t->bb∉M:=by
    intro bb cs t hbb hne htt hm;rw[Aa HMe]at hm;rcases aj.1 hm with rfl|hm
    ·exact hne rfl
    ·exact AO (Aa HRow) hbb htt (by simpa using hm)
   refine⟨hM6,(N+3)::(Value.slice ad' m'.length cp').ownBlock.toList,⟨(Aa HIi).kept.trans' hM6 (λk hk=>Or.inr (by have:=hMge k hk;have:=Aa HN;omega)),(Aa HIi).b5.kept hM6 (hap (Aa HIi).b5 (by omega) (by decide)),(Aa HIi).b6.kept hM6 (hap (Aa HIi).b6 (by omega) (by decide)),(Aa HIi).b7.kept hM6 (hap (Aa HIi).b7 (by omega) (by decide)),m',ad',cp',h95.set 0 _,Ag hown hnap2 _,hr',λy=>?_,by simp;omega,rfl⟩,λk hk=>?_⟩
   ·rw[hmem y,Aa HCol y];constructor
    ·rintro (rfl|⟨q,hq,hh⟩)
     ·exact⟨X,by simp,by rw[Aa HXX];exact Aa HF,by rw[Aa HXX];exact(Aa HYg).symm⟩
     ·exact⟨q,by simp[hq],hh⟩
    ·rintro ⟨q,hq,hh⟩;rcases aw.1 hq with hq|hq
     ·exact Or.inr ⟨q,hq,hh⟩
     ·simp only[ae]at hq;subst hq;rw[Aa HXX]at hh;exact Or.inl (hh.2.trans (Aa HYg))
   ·have h6:=hk5'.size;have h4:=(Aa HK4).size;rcases aj.1 hk with rfl|hk
    ·exact⟨Or.inl (by rw[Aa HMe];exact bC ..),by have:=h95.lt;simp;omega⟩
    ·(have hk':(Value.slice ad' m'.length cp').ownBlock=some k:=by simpa using hk);refine⟨?_,by have:=(hown.lt k hk').2;simp;omega⟩;rcases hfr k hk' with h|h
     ·exact Or.inl (by rw[Aa HMe];exact be _ (by rw[h];simp))
     ·exact Or.inr (by have h2:w4.heap.size<=k:=h;omega)
 case done=>
  intro D M' W hD hi hd _;obtain⟨m,mad,mcp,h9,hrow,hrise,hcol,hml,hMe⟩:=hi.out;have c9:=h9.cell 0;simp at c9;refine Aa HK1 _ _ ?_;clear HK1;simp only[bU];refine wp_seq_k (λK3 hK3=>?_);have HK3':=Ab hK3;clear hK3;go_wp2;refine Aa HK3' _ _ ?_;clear HK3' K3;refine wp_ret ?_;rw[<-Aa HQQ];have hown:OwnFrom w.heap.size (fun(_:Unit) W=>W.ownsRow N 170 1 (.slice mad m.length mcp) m.length (m.flatMap Ae)/\Ac [] w W):=CR (λ_ W W' M h k hM=>⟨Ar h.1 k (Gb hM h.1),Ge h.2 k hM (au _)⟩);have hmk:D3 w.heap.size [D] W:=⟨by simp,λd hd'=>by simp only[ae]at hd';have:=(Aa HI3).kept.size;omega,λd hd'=>by simp only[ae]at hd';rw[hd'];exact hd⟩;refine EH [D] W hmk (λw' hs=>?_);obtain⟨g1,g2⟩:=hs.own hown (s:=()) hmk ⟨hrow,hi.kept⟩;refine⟨_,results_tmp rfl _ _ _,mad,mcp,m,rfl,hrise,hcol,bM hml (bO _ _),?_,g2⟩;rw[Aa HN];exact g1
 case stop=>
  intro D c pre M' W _ h _;exact h.elim
structure C3(e:List cL):Prop where
 len:e.length=26
 each:∀x∈e,OP x
theorem C3.start:C3 Dr:=⟨by simp[Dr],λx a=>Or.inl (by rw[(List.mem_replicate.1 a).2];rfl)⟩
theorem C3.set{e:List cL}(h:C3 e)(j:Nat){x:cL}(c:AX x):C3 (e.set j x):=⟨by simp[h.len],λy b=>by
 rcases List.mem_or_eq_of_mem_set b with a|rfl
 ·exact h.each y a
 ·exact Or.inr c⟩
theorem Gw{e:List cL}(h:C3 e):(Bw e).length=26:=by unfold Bw;rw[aD,h.len]
theorem Xo{s:cL}(h:AX s):FM s=Ay s:=by
 have a:=h.size;unfold FM Ay;rw[if_neg a];cases hn:GT s with
 |false=>simp
 |true=>
  simp only[if_true];rcases h with⟨c,r,e,b,_⟩|h
  ·unfold GT at hn;rw[e,Ed]at hn;have:=of_decide_eq_true hn;omega
  ·rw[if_pos h]
theorem Hg{t:AG}(h:Dh t)(e:List cL):Bn (Bw e) (ct t)=R1 (AU e t):=by
 have f:(ct t).v.toNat=t.v.toNat:=by unfold ct;simp
 unfold Bn Zm;rw[f];rcases h with⟨a,c⟩|⟨b,g,_⟩
 ·rw[a,if_pos (show(0:UInt8).toNat=0 from rfl)]
  unfold AU;rw[if_pos a,CY c];exact Xo c
 ·have a:t.v≠0:=λd=>by rw[d]at b;exact absurd b (by decide)
  rw[if_neg (by omega),<-DP];unfold ON;rw[if_neg a]
theorem C3.val{e:List cL}(b:C3 e){t:AG}(h:Dh t):OP (AU e t):=by
 unfold AU;split
 ·rename_i d;rcases h with⟨_,c⟩|⟨a,_⟩
  ·exact Or.inr c
  ·rw[d]at a;exact absurd a (by decide)
 ·rw[aq];cases hg:e[t.v.toNat-65]? with
  |none=>exact Or.inl rfl
  |some x=>exact b.each x (List.mem_of_getElem? hg)
theorem Rx{e:List cL}(d:C3 e){ts:List AG}(h:∀t∈ts,Dh t):FE (Bw e) (ts.map ct)=Ef e ts:=by
 rw[<-Kr ts (λt a=>d.val (h t a))];unfold FE Oi;rw[List.all_map,bJ,cI,cI];have c:∀t∈ts,((λt=> !QR (Bn (Bw e) t))∘ct) t= !QR (ON (Bw e) t):=λt a=>by
  simp only[Function.comp];rw[Hg (h t a),DP]
 exact⟨λb t a=>by rw[<-c t a];exact b t a,λb t a=>by rw[c t a];exact b t a⟩
theorem S7(x:By):AS (Lg x)=(BM x).map ct:=by
 unfold AS BM;rw[KV];split<;>simp[Lg]
theorem DC.terms{x:By}(h:DC x):∀t∈BM x,Dh t:=by
 intro t a;unfold DC at h;unfold BM at a;split at h
 ·rename_i b;rw[if_pos b]at a;exact h.args t a
 ·rename_i b;rw[if_neg b]at a;rcases aj.1 a with rfl|a
  ·exact h.1
  ·rw[ae]at a;subst a;exact h.2.1
theorem OW{e:List cL}(d:C3 e){ts:List AG}(h:∀t∈ts,Dh t)(c:Ef e ts=true):∀t∈ts,AX (AU e t):=by
 intro t b;rcases d.val (h t b)with h1|h1
 ·have a:=cI.1 c t b;rw[(DG _).2 h1]at a;cases a
 ·exact h1
theorem SI{e:List cL}{x:By}(h:∀t∈x.A.args,Dh t)(b:∀t∈x.A.args,AX (AU e t)):El (Bw e) (Lg x)=CK (AI e x.A):=by
 unfold El CK AI Lg;simp only;rw[bX,bX]
 congr 1
 refine bT (λt a=>?_);simp only[Function.comp];rw[Hg (h t a),CY (b t a)]
theorem GH{e:List cL}{A:CQ}(a:∀t∈A.args,AX (AU e t)):A6 (AI e A):=by
 intro y b;obtain⟨t,c,rfl⟩:=az.1 b;exact a t c
theorem Tv{t:List Fm}{s:List Aj}{e:List cL}{x:By}{B:Bool}(u:Ej t s)(E:C3 e)(D:DC x)(C:Ef e (BM x)=true)(h:IB t (Bw e) (Lg x) B):B=C1 (AI e) (AU e) s x:=by
 have c:=D.terms;have b:=OW E c C;have F:(Lg x).sort=Fd x.kind:=rfl;unfold IB at h;unfold C1;rw[F]at h;by_cases f:x.kind=97
 ·have a:Fd x.kind=0:=by rw[f];rfl
  have d:BM x=x.A.args:=by unfold BM;rw[f];rfl
  rw[d]at c b;rw[if_pos a,SI c b]at h;rw[if_pos (by rw[f];rfl)];obtain⟨p,m,rfl⟩:=h;exact u.hit (GH b) m
 ·have q:¬(x.kind==97)=true:=by simpa using f
  rw[if_neg q];by_cases g:x.kind=33
  ·(have a:Fd x.kind=1:=by rw[g];rfl);(have d:BM x=x.A.args:=by unfold BM;rw[g];rfl);rw[d]at c b;rw[a,if_neg (by decide),if_pos rfl,SI c b]at h;rw[if_pos (by rw[g];rfl)];obtain⟨p,m,rfl⟩:=h;rw[u.hit (GH b) m]
  ·(have o:¬(x.kind==33)=true:=by simpa using g);(have d:BM x=[x.L,x.R]:=by unfold BM;rw[if_neg (by rw[bN,not_or];exact⟨q,o⟩)]);rw[d]at c b;have k:=b x.L (by simp);have n:=b x.R (by simp);have v:Bn (Bw e) (Lg x).l=ON (Bw e) x.L:=(Hg (c x.L (by simp)) e).trans (DP e x.L).symm;have y:Bn (Bw e) (Lg x).r=ON (Bw e) x.R:=(Hg (c x.R (by simp)) e).trans (DP e x.R).symm;rw[v,y]at h;rw[if_neg o];by_cases i:x.kind=61
   ·(have a:Fd x.kind=2:=by rw[i];rfl);rw[a,if_neg (by decide),if_neg (by decide),if_pos rfl,Sm k n]at h;rw[if_pos (by rw[i];rfl)];exact h
   ·(have z:¬(x.kind==61)=true:=by simpa using i);rw[if_neg z];by_cases j:x.kind=35
    ·(have a:Fd x.kind=3:=by rw[j];rfl);rw[a,if_neg (by decide),if_neg (by decide),if_neg (by decide),if_pos rfl,Sm k n]at h;rw[if_pos (by rw[j];rfl)];exact h
    ·(have w:¬(x.kind==35)=true:=by simpa using j);(have a:Fd x.kind=4:=by unfold Fd;rw[if_neg f,if_neg g,if_neg i,if_neg j]);rw[a,if_neg (by decide),if_neg (by decide),if_neg (by decide),if_neg (by decide),Xm k n]at h;rw[if_neg w];exact h
theorem SK{d:List Fm}{s:List Aj}{e:List cL}(f:Ej d s)(c:C3 e):∀(a:List By),(∀x∈a,DC x)->∀B,EA d (Bw e) (a.map Lg) B->B=DY a s e
 |[],_,B,h=>h
 |x::a,hb,B,h=>by
  have ih:=SK f c a (λy j=>hb y (by simp[j]));have g:=hb x (by simp);rw[aI,EA,S7,Rx c g.terms]at h;have i:DY (x::a) s e=((Ef e (BM x)&& !C1 (AI e) (AU e) s x)||DY a s e):=by
   unfold DY;rw[dx]
  rw[i];cases hset:Ef e (BM x)with
  |false=>
   rw[hset,if_neg (by simp)]at h;rw[cX,cU];exact ih B h
  |true=>
   rw[hset,if_pos rfl]at h;obtain⟨H,k,b⟩:=h;have l:=Tv f c g hset k;rw[<-l,cn];cases H with
   |true=>
    rw[if_pos rfl]at b;rw[cV,cU];exact ih B b
   |false=>
    rw[if_neg (by simp)]at b;rw[b];rfl
theorem SE{e:List cL}(g:C3 e):∀(a:List AG) (b:List cL),(∀t∈a,Dh t)->(∀x∈b,AX x)->Gr (Bw e) (a.map ct) (b.map Ay)=N5 e a b:=by
 intro a b c f;rw[<-PY a b (λt h=>g.val (c t h)) f];clear f;generalize b.map Ay=ys
 induction a generalizing ys with
 |nil=>cases ys<;>simp[Gr,O0]
 |cons t a ih=>
  cases ys with
  |nil=>simp[Gr,O0]
  |cons y ys=>
   have d:=ih (λu i=>c u (by simp[i])) ys;unfold O0 at d⊢;rw[aI,Gr,d,dL,dh,Hg (c t (by simp)),DP]
def ZU(s:List Aj)(A:CQ)(i:Nat)(e:List cL)(m:List cL):Prop:=∀y,y∈m↔∃t∈FD s A i e,y=Ay t
theorem VK{o:List Fm}{s:List Aj}{e:List cL}{A:CQ}{i:Nat}{m:List cL}(d:Ej o s)(u:C3 e)(v:∀t∈A.args,Dh t)(w:∀f∈s,f.name=A.name->i<f.args.length)(h:TP (Bw e) (A.args.map ct) i (o.filter (Qr A.name)) m):ZU s A i e m:=by
 intro y;rw[h y];unfold FD;constructor
 ·rintro ⟨q,l,b,rfl⟩;obtain⟨z,p⟩:=aJ.1 l;have j:q.f∈s.map CK:=by rw[<-d.same];exact aM z
  obtain⟨g,a,r⟩:=az.1 j;have x:g.name.toList==A.name.toList:=by
   (have B:q.f.name=g.name:=by rw[<-r];rfl);unfold Qr at p;rw[B]at p;exact p
  have k:=w g a (toList_inj (by simpa using x));rw[<-r]at b⊢;unfold CK at b⊢;simp only at b⊢;rw[SE u _ _ v (d.canon g a)]at b;refine⟨g.args.getD i ByteArray.empty,az.2 ⟨g,aJ.2 ⟨a,by rw[x,b];rfl⟩,rfl⟩,?_⟩;rw[aq,aq,cu,aA k];rfl
 ·rintro ⟨t,C,rfl⟩;obtain⟨g,a,rfl⟩:=az.1 C;obtain⟨a,c⟩:=aJ.1 a;rw[aO]at c;have k:=w g a (toList_inj (by simpa using c.1));have j:CK g∈o.map Fm.f:=by rw[d.same];exact aM a
  obtain⟨q,l,n⟩:=az.1 j;refine⟨q,aJ.2 ⟨l,?_⟩,?_,?_⟩
  ·unfold Qr;rw[n];exact c.1
  ·rw[n];unfold CK;simp only;rw[SE u _ _ v (d.canon g a)];exact c.2
  ·rw[n];unfold CK;simp only;rw[aq,aq,cu,aA k];rfl
def ZS(a b:cL):Prop:=Dg (Ay a) (Ay b)=true
def W8(x:cL):List cL->List cL
 |[]=>[x]
 |y::l=>if Dg (Ay x) (Ay y)then x::y::l else if Dg (Ay y) (Ay x)then y::W8 x l else y::l
theorem Za{a b:cL}(e:AX a)(f:AX b)(d:Dg (Ay a) (Ay b)=false)(c:Dg (Ay b) (Ay a)=false):a=b:=by
 refine Fa e f ?_;cases he:Zk (Ay a) (Ay b)with
 |true=>exact(Eb.eqv _ _).1 he
 |false=>rw[Eb.tot _ _ d he]at c;cases c
theorem PM{x:cL}(f:AX x):∀(l:List cL),(∀y∈l,AX y)->l.Pairwise ZS->(W8 x l).Pairwise ZS/\∀y,y∈W8 x l↔y=x\/y∈l
 |[],_,_=>⟨by simp[W8],λy=>by simp[W8]⟩
 |z::l,hc,hp=>by
  obtain⟨c,j⟩:=bR.1 hp;rw[W8];split
  ·rename_i b;refine⟨bR.2 ⟨λy a=>?_,hp⟩,λy=>by simp⟩;rcases aj.1 a with rfl|a
   ·exact b
   ·exact Eb.trans _ _ _ b (c y a)
  ·rename_i m;split
   ·rename_i i;obtain⟨g,d⟩:=PM f l (λy a=>hc y (by simp[a])) j;refine⟨bR.2 ⟨λy a=>?_,g⟩,λy=>?_⟩
    ·rcases(d y).1 a with rfl|a
     ·exact i
     ·exact c y a
    ·rw[aj,d,aj];constructor
     ·rintro (h|h|h)
      ·exact Or.inr (Or.inl h)
      ·exact Or.inl h
      ·exact Or.inr (Or.inr h)
     ·rintro (h|h|h)
      ·exact Or.inr (Or.inl h)
      ·exact Or.inl h
      ·exact Or.inr (Or.inr h)
   ·rename_i k;have e:=Za f (hc z (by simp)) (by simpa using m) (by simpa using k);refine⟨hp,λy=>?_⟩;rw[e];simp
theorem U7:∀(l:List cL),(∀y∈l,AX y)->∃r:List cL,r.Pairwise ZS/\∀y,y∈r↔y∈l
 |[],_=>⟨[],List.Pairwise.nil,λy=>Iff.rfl⟩
 |x::l,h=>by
  obtain⟨r,d,b⟩:=U7 l (λy a=>h y (by simp[a]));obtain⟨e,c⟩:=PM (h x (by simp)) r (λy a=>h y (by simp[(b y).1 a])) d;exact⟨W8 x r,e,λy=>by rw[c,b,aj]⟩
def GX(body:List By)(s:List Aj)(v:UInt8)(e:List cL)(t:cL):Prop:=CH body s v e≠[]/\∀l∈CH body s v e,t∈l
theorem Oh(c:List By)(s:List Aj)(v:UInt8)(e:List cL):∃r:List cL,(∀t,t∈r↔GX c s v e t)/\((∀t,GX c s v e t->AX t)->r.Pairwise ZS):=by
 have i:∃r:List cL,∀t,t∈r↔GX c s v e t:=by
  unfold GX;cases CH c s v e with
  |nil=>exact⟨[],λt=>by simp⟩
  |cons l ls=>
   classical
   refine⟨l.filter λt=>decide (∀m∈ls,t∈m),λt=>?_⟩;rw[aJ,decide_eq_true_iff];constructor
   ·rintro ⟨f,a⟩;refine⟨by simp,λm b=>?_⟩;rcases aj.1 b with rfl|b
    ·exact f
    ·exact a m b
   ·rintro ⟨_,a⟩;exact⟨a l (by simp),λm b=>a m (by simp[b])⟩
 obtain⟨r,d⟩:=i;by_cases g:∀t,GX c s v e t->AX t
 ·obtain⟨q,f,a⟩:=U7 r (λy j=>g y ((d y).1 j));exact⟨q,λt=>by rw[a,d],λ_=>f⟩
 ·exact⟨r,d,λh=>absurd h g⟩
noncomputable def KA(body:List By)(s:List Aj)(v:UInt8)(e:List cL):List cL:=Classical.choose (Oh body s v e)
theorem Gy(a:List By)(s:List Aj):Mw (KA a s) a s:=λv e t=>(Classical.choose_spec (Oh a s v e)).1 t
theorem RZ{a:List By}{s:List Aj}{v:UInt8}{e:List cL}(h:∀t,GX a s v e t->AX t):(KA a s v e).Pairwise ZS:=(Classical.choose_spec (Oh a s v e)).2 h
def DH(fs:List Fm)(b:List cL)(v:Int):List PL->List (List cL)->Prop
 |[],r=>r=[]
 |x::l,r=>if x.sort=0 then∃n,O1 x.ts ⟨v,ByteArray.empty⟩ n/\(if n<0 then DH fs b v l r else∃m r',r=m::r'/\TP b x.ts n.toNat (fs.filter (Qr x.an)) m/\DH fs b v l r')else DH fs b v l r
theorem Zs{ts:List AG}(h:∀t∈ts,Dh t){v:UInt8}(e:Fu v){n:Int}(x:O1 (ts.map ct) ⟨(v.toNat:Int),ByteArray.empty⟩ n):(n<0/\ts.findIdx? (λt=>t.v==v)=none)\/(0<=n/\ts.findIdx? (λt=>t.v==v)=some n.toNat):=by
 have b:∀t∈ts,Hd ⟨(v.toNat:Int),ByteArray.empty⟩ (ct t)=(t.v==v):=by
  intro t a;unfold Hd;have p:((v.toNat:Int)==(ct t).v)=(t.v==v):=by
   rw[<-Zj t v,bJ];simp only[b8];exact⟨λh=>h.symm,λh=>h.symm⟩
  simp only[p];cases hb:(t.v==v)with
  |false=>rfl
  |true=>
   (have m:t.v=v:=by simpa using hb);rcases h t a with⟨g,_⟩|⟨_,_,u⟩
   ·rw[m]at g;rw[g]at e;exact absurd e.1 (by decide)
   ·have w:(ct t).s=ByteArray.empty:=by
     unfold ct;simp only;rw[u];rfl
    rw[w,cn];simp
 rcases x with⟨rfl,l⟩|⟨k,o,rfl,c,r⟩
 ·left;refine⟨by decide,List.findIdx?_eq_none_iff.2 (λt a=>?_)⟩;rw[<-b t a];exact l _ (aM a)
 ·right;have d:k<ts.length:=by simpa using o
  refine⟨by omega,?_⟩;rw[show((k:Nat):Int).toNat=k by omega];refine bZ.2 ⟨d,?_,λj q=>?_⟩
  ·rw[<-b _ (Z7 d)];rw[List.getElem_map]at c;exact c
  ·(have i:j<ts.length:=by omega);have f:=r j (by simpa using i) q;rw[List.getElem_map,b _ (Z7 i)]at f;simpa using f
def W5(s:List Aj)(body:List By):Prop:=∀f∈s,∀x∈body,(x.kind==97)=true->f.name=x.A.name->f.args.length=x.A.args.length
theorem Va{F:List Fm}{s:List Aj}{e:List cL}(u:Ej F s)(G:C3 e){v:UInt8}(H:Fu v):∀(a:List By),(∀x∈a,DC x)->W5 s a->∀r,DH F (Bw e) (v.toNat:Int) (a.map Lg) r->F2 (λm l=>∀y,y∈m↔∃t∈l,y=Ay t) r (CH a s v e)/\∀l∈CH a s v e,∀t∈l,AX t
 |[],_,_,r,h=>by
  have h:r=[]:=h;subst h;exact⟨F2.nil,λl d=>by simp[CH]at d⟩
 |x::a,hb,hf,r,h=>by
  have ih:=Va u G H a (λy q=>hb y (by simp[q])) (λf Q y q=>hf f Q y (by simp[q]));have S:=hb x (by simp);rw[aI,DH]at h;have V:(Lg x).sort=Fd x.kind:=rfl;rw[V]at h;have U:CH (x::a) s v e=match(if x.kind==97 then(x.A.args.findIdx? λt=>t.v==v).map λi=>FD s x.A i e else none)with|some c=>c::CH a s v e|none=>CH a s v e:=by
   unfold CH;rw[List.filterMap_cons];generalize(if(x.kind==97)=true then(x.A.args.findIdx? λt=>t.v==v).map λi=>FD s x.A i e else none)=o;cases o<;>rfl
  rw[U];by_cases b:(x.kind==97)=true
  ·(have p:x.kind=97:=by simpa using b);(have k:Fd x.kind=0:=by rw[p];rfl);have E:∀t∈x.A.args,Dh t:=by
    have:=S.terms;unfold BM at this;rw[b,dl,if_pos rfl]at this;exact this
   rw[if_pos k]at h;obtain⟨n,w,h⟩:=h;rw[if_pos b];rcases Zs E H w with⟨W,P⟩|⟨X,z⟩
   ·rw[if_pos W]at h;rw[P];exact ih r h
   ·rw[if_neg (by omega)]at h;obtain⟨m,L,rfl,O,M⟩:=h;rw[z];simp only[cQ];obtain⟨T,N⟩:=ih L M;obtain⟨K,_,_⟩:=bZ.1 z;have C:∀f∈s,f.name=x.A.name->n.toNat<f.args.length:=λf J w=>by
     rw[hf f J x (by simp) b w];exact K
    refine⟨F2.cons (VK u G E C O) T,λl d=>?_⟩;rcases aj.1 d with rfl|d
    ·intro t B;unfold FD at B;obtain⟨g,j,rfl⟩:=az.1 B;obtain⟨j,D⟩:=aJ.1 j;rw[aO]at D;have I:=C g j (toList_inj (by simpa using D.1));rw[aq,aA I];exact u.canon g j _ (Z7 I)
    ·exact N l d
  ·(have p:x.kind≠97:=by simpa using b);have k:Fd x.kind≠0:=by
    intro R;have:=QW x.kind;rw[R]at this;exact p (by simpa using this)
   rw[if_neg k]at h;rw[if_neg b];exact ih r h
theorem Xz{r ls:List (List cL)}(h:F2 (λm l=>∀y,y∈m↔∃t∈l,y=Ay t) r ls)(g:∀l∈ls,∀t∈l,AX t)(y:cL):(r≠[]/\Iy r y)↔∃t,(ls≠[]/\∀l∈ls,t∈l)/\y=Ay t:=by
 cases r with
 |nil=>
  cases ls with
  |nil=>simp
  |cons l ls=>exact absurd h (by simp[F2])
 |cons m r=>
  cases ls with
  |nil=>exact absurd h (by simp[F2])
  |cons l ls=>
   have i:=h.mem;have o:=h.mem1;constructor
   ·rintro ⟨_,b⟩;obtain⟨t,j,e⟩:=(h.1 y).1 (b m (by simp));refine⟨t,⟨by simp,λk a=>?_⟩,e⟩;obtain⟨q,c,d⟩:=i k a;obtain⟨u,f,n⟩:=(d y).1 (b q c);have:u=t:=Fa (g k a u f) (g l (by simp) t j) (by rw[<-n,e]);rw[<-this];exact f
   ·rintro ⟨t,⟨_,b⟩,rfl⟩;refine⟨by simp,λq c=>?_⟩;obtain⟨k,a,d⟩:=o q c;exact(d _).2 ⟨t,b k a,rfl⟩
theorem TK{n:List Fm}{s:List Aj}{e:List cL}(C:Ej n s)(w:C3 e){v:UInt8}(z:Fu v){d:List By}(B:∀x∈d,DC x)(p:W5 s d){f:List Sq}(o:DH n (Bw e) (v.toNat:Int) (d.map Lg) (f.map Prod.fst)){m:List cL}(i:Iz f m):m=(KA d s v e).map Ay/\∀t∈KA d s v e,AX t:=by
 obtain⟨A,k⟩:=Va C w z d B p _ o;have j:∀t,GX d s v e t->AX t:=by
  rintro t ⟨u,q⟩;cases hl:CH d s v e with
  |nil=>exact absurd hl u
  |cons l ls=>exact k l (by rw[hl];simp) t (q l (by rw[hl];simp))
 refine⟨?_,λt g=>j t ((Gy d s v e t).1 g)⟩;refine Ig (lt:=λa b=>Dg a b=true) (λa h=>by rw[Eb.irr]at h;cases h) (λa b c=>Eb.trans a b c) _ _ i.rise ?_ (λy=>?_)
 ·rw[cw];exact RZ j
 ·rw[i.mem y];have r:(f≠[]/\Iy (f.map Prod.fst) y)↔(f.map Prod.fst≠[]/\Iy (f.map Prod.fst) y):=by
   rw[ne_eq,ne_eq,List.map_eq_nil_iff]
  rw[r,Xz A k,az];constructor
  ·rintro ⟨t,g,rfl⟩;exact⟨t,(Gy d s v e t).2 g,rfl⟩
  ·rintro ⟨t,g,rfl⟩;exact⟨t,(Gy d s v e t).1 g,rfl⟩
theorem JB{al:UInt8->List cL->List cL}{n:List By}{s:List Aj}(i:∀v e,(al v e).Nodup)(c:∀v e,∀t∈al v e,t.size≠0):
  ∀(a:List UInt8) (e:List cL),e.length=26->a.Nodup->(∀v∈a,Fu v)->(AK al n s a e).Nodup
 |[],e,_,_,_=>by
  rw[AK];split<;>simp
 |v::a,e,he,hd,hv=>by
  rw[AK];obtain⟨f,j⟩:=ck.1 hd;have d:=hv v (by simp);have b:∀u∈a,Fu u:=λu o=>hv u (by simp[o])
  split
  ·simp
  ·unfold List.Nodup;rw[List.pairwise_flatMap];refine⟨λt _=>JB i c a _ (by simp[he]) j b,?_⟩;refine List.Pairwise.imp ?_ (i v e);intro t u l x p y m k;subst k;have h:=(Cp c a _ x (by simp[he]) b p).2.2.1 v d f;have g:=(Cp c a _ x (by simp[he]) b m).2.2.1 v d f;rw[KQ he d]at h g;exact l (by rw[<-h,g])
theorem YV{a b:List cL}(g:a.length=26)(j:b.length=26)(h:∀u,Fu u->Yy a u=Yy b u):a=b:=by
 refine List.ext_getElem (by omega) (λi f e=>?_);have c:(UInt8.ofNat (i+65)).toNat=i+65:=by
  rw[UInt8.toNat_ofNat'];omega
 have d:=h (UInt8.ofNat (i+65)) ⟨by rw[c];omega,by rw[c];omega⟩;unfold Yy at d;rw[c,Nat.add_sub_cancel,aq,aq,aA f,aA e]at d;exact d
theorem Vr{al:UInt8->List cL->List cL}{c:Bf}{d n:List UInt8}{s:List Aj}(A:∀v e,(al v e).Nodup)(j:∀v e,∀t∈al v e,t.size≠0)(y:OZ c d n)(p:d.Nodup)(z:∀v∈d,∃t∈c.head.args,t.v=v):(OF al c d n s).Nodup:=by
 have g:∀v∈d,Fu v:=λv h=>(y.ok v (Or.inl h)).1
 unfold OF List.Nodup;rw[cw];refine cA ?_ ((JB A j d Dr rfl p g).filter _);intro a b C w q B;have k:=Cp j d Dr a rfl g (aJ.1 C).1;have o:=Cp j d Dr b rfl g (aJ.1 w).1;refine q (YV k.1 o.1 (λu f=>?_));by_cases i:u∈d
 ·obtain⟨t,r,rfl⟩:=z u i;have m:t.v≠0:=λh=>by rw[h]at f;exact absurd f.1 (by decide)
  have x:c.head.args.map (AU a)=c.head.args.map (AU b):=congrArg Aj.args B;have l:=List.map_inj_left.1 x t r;rw[It m,It m]at l;exact l
 ·rw[k.2.2.1 u f i,o.2.2.1 u f i]
theorem St:∀(l:List Aj) (s:List Aj),F1 s->(∀f∈s,A6 f)->l.Nodup->(∀f∈l,f∉s/\A6 f)->(l.foldl Bs s).length=s.length+l.length
 |[],s,_,_,_,_=>by simp
 |f::l,s,hr,hc,hn,h=>by
  obtain⟨n,k⟩:=ck.1 hn;obtain⟨j,e⟩:=h f (by simp);obtain⟨a,b,m⟩:=E8 e hr hc;rw[aR,St l (Bs s f) a b k (λg c=>⟨λi=>?_,(h g (by simp[c])).2⟩),(I6 s f).2 j,ak]
  ·omega
  ·rcases(m g).1 i with d|d
   ·exact(h g (by simp[c])).1 d
   ·rw[d]at c;exact n c
theorem Lw{b:List By}{s:List Aj}(q:∀f∈s,A6 f)(n:W5 s b):∀v e t,GX b s v e t->AX t:=by
 rintro v e t ⟨p,o⟩;cases hl:CH b s v e with
 |nil=>exact absurd hl p
 |cons l ls=>
  have g:=o l (by rw[hl];simp);have k:l∈CH b s v e:=by rw[hl];simp
  unfold CH at k;obtain⟨x,u,a⟩:=cD.1 k;by_cases c:(x.kind==97)=true
  ·rw[if_pos c,de]at a;obtain⟨i,r,rfl⟩:=a;obtain⟨w,_,_⟩:=bZ.1 r;unfold FD at g;obtain⟨f,m,rfl⟩:=az.1 g;obtain⟨j,d⟩:=aJ.1 m;rw[aO]at d;have y:=n f j x u c (toList_inj (by simpa using d.1));(have h:i<f.args.length:=by omega);rw[aq,aA h];exact q f j _ (Z7 h)
  ·rw[if_neg c]at a;cases a
theorem Pt{c:List By}{s:List Aj}(g:∀f∈s,A6 f)(i:W5 s c)(v:UInt8)(e:List cL):(KA c s v e).Nodup:=by
 refine List.Pairwise.imp ?_ (RZ (Lw g i v e));intro a b h d;subst d;unfold ZS at h;rw[Eb.irr]at h;cases h
theorem Tryz.info102:(Tryz.prog.info? 102).map (λi=>(i.zero,i.size,i.bytes))=some (some (.slice none 0 0),1,24):=by kernel_rfl
theorem Pq{w w':World}{p:Sq}{base n:Nat}{v:Value}{a:List Value}(h:w.ownsRow 0 170 1 p.2 p.1.length (p.1.flatMap Ae))(c:w.ownsRow base 102 1 v n a)(b:w.grownBy w' v.ownBlock):w'.ownsRow 0 170 1 p.2 p.1.length (p.1.flatMap Ae):=
 bS h b (by
  cases hp:p.2.ownBlock with
  |none=>exact Or.inl rfl
  |some q=>exact Or.inr (λe=>Bt h c (by decide) q hp e.symm))
theorem Rh(sp kb ko:Nat)(bad:Option Addr)(bcp:Nat)(ls:List MH)(ov:Value)(sad:Option Addr)(scp:Nat)(fs:List Fm)(v:Int)(b:List cL)(w:World)(hb:b.length=26)(hS:Mn w sp kb ko (.slice bad ls.length bcp) ov sad scp fs)(hB:Cd w 0 (.slice bad ls.length bcp) ls)(hlen:fs.length<=10000)(hll:ls.length<=1000)(hl:∀p∈ls,NR p.1)(hpair:fs.Pairwise λa b=>B6 a.f b.f<0)
  (hmono:∀(X:DB) i j (hi:i<fs.length) (hj:j<fs.length),i<=j->B6 fs[j].f X<0->B6 fs[i].f X<0)
  (hq:∀p∈ls,p.1.sort=0->∀q∈fs,Qr p.1.an q=true->p.1.ts.length<=q.f.things.length):
  Calls prog 178 #[.pointer (some ⟨sp,0,none⟩), .int .i32 v, .agg (Ah b).toArray] w λr w'=>∃(ad:Option Addr) (cp:Nat) (m:List cL) (ps:List Sq),r= .returned (.slice ad m.length cp)/\Iz ps m/\DH fs b v (ls.map Prod.fst) (ps.map Prod.fst)/\w'.ownsRow w.heap.size 170 1 (.slice ad m.length cp) m.length (m.flatMap Ae)/\Ac [] w w':=by
 obtain⟨i0,hi0,hz0,hz1,hz2⟩:=bj Tryz.info102;have HSe:=Ab hS;have HBo:=Ab hB;have HIx:Hid (∀(x:PL) ad cp wz,Ac [] w wz->NR x->IM w 0 (x, .slice ad x.ts.length cp)->Calls prog 206 #[.slice ad x.ts.length cp, .agg #[.int .i32 v, .string ⟨#[]⟩]] wz λr w'=>∃n,r= .returned (.int .i64 n)/\O1 x.ts ⟨v,ByteArray.empty⟩ n/\Ac [] wz w'):=λx ad cp wz hk hc hx=>Wk ad cp x.ts ⟨v,ByteArray.empty⟩ 0 wz (hx.kept hk (by simp)) (by have:=hc.len;omega)
 have HCo:Hid (∀(x:PL) ad cp (at_:Nat) wz,Ac [] w wz->NR x->IM w 0 (x, .slice ad x.ts.length cp)->(∀q∈fs,Qr x.an q=true->x.ts.length<=q.f.things.length)->at_<x.ts.length->Calls prog 207 #[.pointer (some ⟨sp,0,none⟩), .agg #[.int .i64 x.ap, .string x.an, .slice ad x.ts.length cp], .int .i64 at_, .agg (Ah b).toArray] wz λr w'=>∃(ad:Option Addr) (cp:Nat) (m:List cL),r= .returned (.slice ad m.length cp)/\Ct Dg m/\TP b x.ts at_ (fs.filter (Qr x.an)) m/\m.length<=fs.length/\w'.ownsRow wz.heap.size 170 1 (.slice ad m.length cp) m.length (m.flatMap Ae)/\Ac [] wz w'):=
  λx ad cp at_ wz hk hc hx hqx hat=>SY sp kb ko _ ov sad scp fs x.ap x.an ad cp x.ts at_ b wz hb (hS.kept hk) (hx.kept hk (by simp)) hc.len hc.ts (by omega) hpair (hmono _) (λq hqm hqn=>⟨hqx q hqm hqn,by have:=hqx q hqm hqn;omega⟩)
 have HLc:=Ab hl;have HQq:=Ab hq;have hc:=Bl b;have hl26:(Ah b).length=26:=by unfold Ah;simp[hb]
 have HL26:=Ab hl26;obtain⟨E,hE⟩:∃E,Ah b=E:=⟨_,rfl⟩;rw[hE]at hc hl26 HL26 HCo⊢;have HN:=Ab (Aw.new w E 243);have HK:=Ab ((Ac.refl [] w).alloc (.cells E.toArray 243));clear hE hS hB hl hmono hq hpair;obtain⟨CC,hCC⟩:∃CC:List (List cL)->Prop,CC=DH fs b v (ls.map Prod.fst):=⟨_,rfl⟩;have HR:Hid (∀R,DH fs b v ((ls.drop 0).map Prod.fst) R->CC (([]:List Sq).map Prod.fst++R)):=λR h=>by rw[hCC];exact h
 rw[<-hCC];clear hCC;obtain⟨W0,hW0⟩:∃W0,w.heap.size=W0:=⟨_,rfl⟩;have HW0:=Ab hW0;go_enter func178,ntmps178;apply wp_seq_k;intro KK hKK;have HKK:=Ab hKK;clear hKK;go_wp2;refine Aa HKK _ _ ?_;clear HKK KK;generalize hw1:w.alloc (.cells E.toArray 243)=w1 at HN HK⊢;clear hw1;rw[hW0]at HN⊢;clear hW0;have s1:=((Aa HSe).kept (Aa HK)).blk.cell 1;simp at s1;go_wp2_with fail
 go_loopg [7,16] ls.length (λgk o i wr=>∃(k:Nat) (ps:List Sq) (ado:Option Addr) (cpo:Nat),o= .slice ado ps.length cpo/\i= .int .i64 k/\k<=ls.length/\gk=ls.length-k/\ps.length<=k/\Hid (∀R,DH fs b v ((ls.drop k).map Prod.fst) R->CC (ps.map Prod.fst++R))/\Hid (wr.ownsRow W0 102 1 (.slice ado ps.length cpo) ps.length (ps.flatMap λp=>[p.2]))/\Hid (∀p∈ps,wr.ownsRow 0 170 1 p.2 p.1.length (p.1.flatMap Ae)/\Ct Dg p.1/\p.1.length<=10000)/\Hid (Aw wr W0 E 243)/\Hid (Ac [] w wr))
 case atStart=>exact⟨0,[],none,0,rfl,rfl,by omega,rfl,by simp,HR,ax _ _ _ _,(λp hp=>by cases hp),HN,HK⟩
 case round=>
  clear HR HN HK s1;obtain⟨k,ps,ado,cpo,rfl,rfl,hk,hgk,hpl,HR,HO,HE,HN,HK⟩:=hrel;have HG:=Ab hgk;clear hgk;by_cases hlt:k<ls.length
  ·obtain⟨g,cap,x,xad,xcp,he,hlk,_,d0,d1,d2,d3,d4,d5,d6,d7,d8⟩:=QO ((Aa HBo).kept (Aa HK) (by simp)) k hlt;simp only[Z6]at he;obtain⟨rfl,_,rfl⟩:=he;(have hmem:(x,Value.slice xad x.ts.length xcp)∈ls:=by rw[<-hlk];exact Z7 hlt);have hLx:=Aa HLc _ hmem;have hPx:IM w 0 (x, .slice xad x.ts.length xcp):=((Aa HBo).each _ hmem).1;(have hQx:x.sort=0->∀q∈fs,Qr x.an q=true->x.ts.length<=q.f.things.length:=λh=>Aa HQq _ hmem h);have HR2:Hid (∀R,(if x.sort=0 then∃n,O1 x.ts ⟨v,ByteArray.empty⟩ n/\(if n<0 then DH fs b v ((ls.drop (k+1)).map Prod.fst) R else∃m r',R=m::r'/\TP b x.ts n.toNat (fs.filter (Qr x.an)) m/\DH fs b v ((ls.drop (k+1)).map Prod.fst) r')else DH fs b v ((ls.drop (k+1)).map Prod.fst) R)->CC (ps.map Prod.fst++R)):=by
    intro R h;refine Aa HR R ?_;rw[aC hlt,aI,hlk];exact h
   have HKa:=Ab ((Aa HK).alloc (.cells (Ap (x, .slice xad x.ts.length xcp)).toArray 217));have HOa:=Ab (ah (Aa HO) (.cells (Ap (x, .slice xad x.ts.length xcp)).toArray 217));(have HEa:Hid (∀p∈ps,(wr.alloc (.cells (Ap (x, .slice xad x.ts.length xcp)).toArray 217)).ownsRow 0 170 1 p.2 p.1.length (p.1.flatMap Ae)/\Ct Dg p.1/\p.1.length<=10000):=λp hp=>⟨ah (Aa HE p hp).1 _,(Aa HE p hp).2⟩);have HBa:=Ab ((Aa HN).alloc (.cells (Ap (x, .slice xad x.ts.length xcp)).toArray 217));have HXa:=Ab (Aw.new wr (Ap (x, .slice xad x.ts.length xcp)) 217);have HC1:=Ab (Aa HIx x xad xcp _ (Aa HKa) hLx hPx);have HC2:=Ab (λat_ wz hk hq=>Aa HCo x xad xcp at_ wz hk hLx hPx hq);have HQx:=Ab hQx;(have hsw:W0<=wr.heap.size:=by have:=(Aa HK).size;have:=Aa HW0;omega);obtain⟨pl,so,ap,an,ts,⟨lv,lsv⟩,⟨rv,rsv⟩⟩:=x;simp only[Ap]at HKa HOa HEa HBa HXa HC1 HC2 HR2 HQx d0 d1 d2 d3 d4 d5 d6 d7 d8;clear hlk hmem hLx hPx hQx HR HO HE HN HK;by_cases hso:so=0
   ·(have hsb:(so !=0)=false:=by simp[hso]);(have hsc:(so==0)=true:=by simp[hso]);have HQy:=Ab (Aa HQx hso);(have HR3:Hid (∀R,(∃n,O1 ts ⟨v,ByteArray.empty⟩ n/\(if n<0 then DH fs b v ((ls.drop (k+1)).map Prod.fst) R else∃m r',R=m::r'/\TP b ts n.toNat (fs.filter (Qr an)) m/\DH fs b v ((ls.drop (k+1)).map Prod.fst) r'))->CC (ps.map Prod.fst++R)):=λR h=>Aa HR2 R (by rw[if_pos hso];exact h));clear HR2 HQx hso;(go_wp2_with fail);refine(Aa HC1).mono ?_;rintro _ w3 ⟨n,rfl,hidx,k3⟩;have HId:=Ab hidx;have HK3:=Ab ((Aa HKa).trans k3);have HB3:=Ab ((Aa HBa).kept k3 (by simp));have hX3:=(Aa HXa).kept k3 (by simp);have HO3:=Ab (Ad (Aa HOa) k3 (by simp));(have HE3:Hid (∀p∈ps,w3.ownsRow 0 170 1 p.2 p.1.length (p.1.flatMap Ae)/\Ct Dg p.1/\p.1.length<=10000):=λp hp=>⟨Ad (Aa HEa p hp).1 k3 (by simp),(Aa HEa p hp).2⟩);clear hidx HC1 HKa HBa HOa HEa k3 d0 d1 d2 d3 d4 d5 d6 d7 d8 HXa;by_cases hn:n<0
    ·(have hn0:¬(0:Int)<=n:=by omega);(have HR4:Hid (∀R,DH fs b v ((ls.drop (k+1)).map Prod.fst) R->CC (ps.map Prod.fst++R)):=λR h=>Aa HR3 R ⟨n,Aa HId,by rw[if_pos hn];exact h⟩);clear HR3 hn HC2 hX3;go_wp2
     go_roundg (ls.length-(k+1))
     case measure=>have:=Aa HG;omega
     case rel=>exact⟨k+1,ps,ado,cpo,rfl,by go_num,by omega,rfl,by omega,HR4,HO3,HE3,HB3,HK3⟩
    ·(have hn0:(0:Int)<=n:=by omega);obtain⟨at_,rfl⟩:∃at_:Nat,n=(at_:Int):=⟨n.toNat,by omega⟩;have hat:at_<ts.length:=by
      rcases Aa HId with⟨h,_⟩|⟨j,hj,h,_⟩
      ·omega
      ·omega
     have HC4:=Ab (Aa HC2 at_ w3 (Aa HK3) (Aa HQy) hat);have e0:=hX3.cell 0;have e1:=hX3.cell 1;have e2:=hX3.cell 2;have e3:=hX3.cell 3;have e4:=hX3.cell 4;simp at e0 e1 e2 e3 e4;clear hX3 HC2 hn;go_wp2_with ((with_reducible show wpList _ _ _ ({dst:=_,op:=Op.load 243 _,type:=_,pos:=_,after:=_,guard:=_}::_) _ _);refine Br (by rfl) 243 _ rfl W0 0 (by rfl) E _ (Aa HB3).range underlying243 rfl (by rw[Aa HL26];exact Tryz.size243) ?_)
     refine(Aa HC4).mono ?_;rintro _ w4 ⟨cad,ccp,m,rfl,hris,hcol,hml,hrow,k4⟩;have HK4:=Ab ((Aa HK3).trans k4);have HB4:=Ab ((Aa HB3).kept k4 (by simp));have hO4:=Ad (Aa HO3) k4 (by simp);(have HE4:Hid (∀p∈ps,w4.ownsRow 0 170 1 p.2 p.1.length (p.1.flatMap Ae)/\Ct Dg p.1/\p.1.length<=10000):=λp hp=>⟨Ad (Aa HE3 p hp).1 k4 (by simp),(Aa HE3 p hp).2⟩);have HRow:Hid (w4.ownsRow 0 170 1 (.slice cad m.length ccp) m.length (m.flatMap Ae)):=Ai hrow (aG _);have HRi:Hid (Ct Dg m/\m.length<=10000):=⟨hris,by omega⟩;have HR4:Hid (∀R,DH fs b v ((ls.drop (k+1)).map Prod.fst) R->CC ((ps++[(m,Value.slice cad m.length ccp)]).map Prod.fst++R)):=by
      intro R h;have h2:=Aa HR3 (m::R) ⟨at_,Aa HId,by rw[if_neg (by omega)];exact⟨m,R,rfl,by rw[show((at_:Nat):Int).toNat=at_ by omega];exact hcol,h⟩⟩;rw[bm,bk];exact h2
     (have hs4:W0<=w4.heap.size:=by have:=(Aa HK4).size;have:=Aa HW0;omega);clear HC4 HK3 HB3 HO3 HE3 k4 hris hcol hml hrow HR3 e0 e1 e2 e3 e4;obtain⟨ml,hml⟩:∃ml,m.length=ml:=⟨_,rfl⟩;have HMl:=Ab hml;rw[hml]at HR4 HRow⊢;clear hml;go_wp2_with (at_builtin;refine ay _ rfl (.tmp 31) (.tmp 38) _ rfl W0 102 i0 _ 1 24 underlying303 hi0 hz0 hz1 hz2 rfl (by omega) (.slice ado ps.length cpo) ps.length (ps.flatMap λp=>[p.2]) rfl (ah hO4 _) ⟨w4.heap.size,0,none⟩ 1 1 [.slice cad ml ccp] rfl rfl (aF (cs:=#[.slice cad ml ccp]) (t:=102) (fr:=(0,0)) (aS w4 _)) (by simp[Value.oneCell']) (by omega) (by unfold maxLen;omega) (by omega) (by simp;omega) (w4.heap.size+1) (by simp) ?_;intro g1 cp1 w9 ho1 hg1 ha1 hl1)
     have HO9:Hid (w9.ownsRow W0 102 1 (.slice (some ⟨g1,0,none⟩) (ps++[(m,Value.slice cad ml ccp)]).length cp1) (ps++[(m,Value.slice cad ml ccp)]).length ((ps++[(m,Value.slice cad ml ccp)]).flatMap λp=>[p.2])):=by
      rw[aN];simp only[am,ak,aH,bf,aB,bq,aX];exact ho1
     have HE9:Hid (∀p∈ps++[(m,Value.slice cad ml ccp)],w9.ownsRow 0 170 1 p.2 p.1.length (p.1.flatMap Ae)/\Ct Dg p.1/\p.1.length<=10000):=by
      intro p hp;rcases aw.1 hp with h|h
      ·exact⟨Pq (ah (Aa HE4 p h).1 _) (ah hO4 _) hg1,(Aa HE4 p h).2⟩
      ·simp only[ae]at h;subst h;exact⟨Pq (p:=(m,Value.slice cad ml ccp)) (ah (by rw[Aa HMl];exact Aa HRow) _) (ah hO4 _) hg1,Aa HRi⟩
     have HK9:=Ab (((Aa HK4).alloc (.cells #[.slice cad ml ccp] 102)).grown hg1 (λq hq=>Or.inr (by have:=(hO4.lt q hq).1;have:=Aa HW0;omega)));have HB9:Hid (Aw w9 W0 E 243):=((Aa HB4).alloc (.cells #[.slice cad ml ccp] 102)).grown hg1 (AO hO4 (Aa HB4) (by decide));clear ho1 hg1 ha1 hl1 hO4 HE4 HK4 HB4 HRow
     go_roundg (ls.length-(k+1))
     case measure=>have:=Aa HG;omega
     case rel=>exact⟨k+1,ps++[(m,Value.slice cad ml ccp)],some ⟨g1,0,none⟩,cp1,by simp,by go_num,by omega,rfl,by simp;omega,HR4,HO9,HE9,HB9,HK9⟩
   ·(have hsb:(so !=0)=true:=by simp[hso]);(have hsc:(so==0)=false:=by simp[hso]);(have HR4:Hid (∀R,DH fs b v ((ls.drop (k+1)).map Prod.fst) R->CC (ps.map Prod.fst++R)):=λR h=>Aa HR2 R (by rw[if_neg hso];exact h));clear hso HR2 HC1 HC2 HQx;go_wp2
    go_roundg (ls.length-(k+1))
    case measure=>have:=Aa HG;omega
    case rel=>exact⟨k+1,ps,ado,cpo,rfl,by go_num,by omega,rfl,by omega,HR4,HOa,HEa,HBa,HKa⟩
  ·have HR3:Hid (CC (ps.map Prod.fst)):=by
    have h:=Aa HR [] (by rw[aQ (by omega)];rfl);rw[aX]at h;exact h
   have HCm:=Ab (S5 ado cpo ps wr ⟨Ai (Aa HO) (aG _),Aa HE⟩ (by omega));clear HR HO HE HN;(go_wp2_with fail);refine(Aa HCm).mono ?_;rintro _ w3 ⟨ad,cp,m,rfl,hcom,hrow,k3⟩;have HCo2:=Ab hcom;have HRow:=Ab (Ai hrow (show w.heap.size<=wr.heap.size from(Aa HK).size))
   have HK3:=Ab ((Aa HK).trans k3);obtain⟨ml,hml⟩:∃ml,m.length=ml:=⟨_,rfl⟩;have HMl:=Ab hml;rw[hml];clear hcom hrow k3 HCm hml;go_wp2;go_ret;rw[<-Aa HMl];refine⟨ad,cp,m,ps,rfl,Aa HCo2,Aa HR3,?_,Aa HK3⟩;rw[<-Aa HW0];exact Aa HRow
def EG(vs:List UInt8):List Int:=vs.map λv=>(v.toNat:Int)
structure Zh(w:World)(sp:Nat)(body:List By)(s:List Aj)(vs:List UInt8):Prop where
 at_:∃(kb ko:Nat) (bad:Option Addr) (bcp:Nat) (lvs:List MH) (oad:Option Addr) (ocp:Nat) (sad:Option Addr) (scp:Nat) (fs:List Fm),
  Mn w sp kb ko (.slice bad lvs.length bcp) (.slice oad (EG vs).length ocp) sad scp fs/\Cd w 0 (.slice bad lvs.length bcp) lvs/\lvs.map Prod.fst=body.map Lg/\
  w.ownsRow 0 21 1 (.slice oad (EG vs).length ocp) (EG vs).length ((EG vs).flatMap AD)/\Ej fs s
 len:s.length<=10000
 lits:∀x∈body,DC x/\NR (Lg x)
 blen:body.length<=1000
 vlen:vs.length<=1000
 fit:W5 s body
 ok:∀v∈vs,Fu v
theorem Zh.kept{w w':World}{a:Nat}{c:List By}{s:List Aj}{b:List UInt8}(h:Zh w a c s b)(k:Ac [] w w'):Zh w' a c s b:=by
 obtain⟨t,n,u,l,i,o,d,r,g,p,j,e,q,f,m⟩:=h.at_;exact⟨⟨t,n,u,l,i,o,d,r,g,p,j.kept k,e.kept k (by simp),q,Ad f k (by simp),m⟩,h.len,h.lits,h.blen,h.vlen,h.fit,h.ok⟩
theorem Ej.len{a:List Fm}{s:List Aj}(h:Ej a s):a.length=s.length:=by
 have:=congrArg List.length h.same;simpa using this
theorem PV{w:World}{b:Nat}{a:List By}{s:List Aj}{q:List UInt8}(h:Zh w b a s q){e:List cL}(i:C3 e):
  Calls prog 177 #[.pointer (some ⟨b,0,none⟩), .agg (Ah (Bw e)).toArray] w λr g=>r= .returned (.bool (DY a s e))/\Ac [] w g:=by
 obtain⟨D,u,o,n,j,E,H,v,z,A,t,m,d,G,c⟩:=h.at_;have I:=c.len;have K:j.length=a.length:=by have:=congrArg List.length d;simpa using this
 have F:=h.blen;have J:=h.len;refine(Uf b D u o n j _ v z A (Bw e) w (Gw i) t m (by omega) (by omega) (λp y=>?_) (λX=>c.mono X)).mono ?_
 ·have:p.1∈a.map Lg:=by rw[<-d];exact aM y
  obtain⟨x,f,C⟩:=az.1 this;rw[<-C];exact(h.lits x f).2
 ·rintro r g ⟨B,rfl,l,k⟩;rw[d]at l;exact⟨by rw[SK c i a (λx f=>(h.lits x f).1) B l],k⟩
theorem Re{w:World}{o:Nat}{a:List By}{s:List Aj}{L:List UInt8}(h:Zh w o a s L){e:List cL}(D:C3 e){v:UInt8}(S:Fu v):
  Calls prog 178 #[.pointer (some ⟨o,0,none⟩), .int .i32 (v.toNat:Int), .agg (Ah (Bw e)).toArray] w λr t=>∃(l:Option Addr) (n:Nat),r= .returned (.slice l ((KA a s v e).map Ay).length n)/\
   t.ownsRow w.heap.size 170 1 (.slice l ((KA a s v e).map Ay).length n) ((KA a s v e).map Ay).length (((KA a s v e).map Ay).flatMap Ae)/\Ac [] w t:=by
 obtain⟨V,N,I,G,y,Y,AH,O,P,Q,M,F,u,h4,b⟩:=h.at_;have hl:=b.len;have BA:y.length=a.length:=by have:=congrArg List.length u;simpa using this
 have Z:=h.blen;have hn:=h.len;have C:∀p∈y,∃x∈a,Lg x=p.1:=λp c=>by
  have:p.1∈a.map Lg:=by rw[<-u];exact aM c
  exact az.1 this
 refine(Rh o V N I G y _ O P Q (v.toNat:Int) (Bw e) w (Gw D) M F (by omega) (by omega) (λp c=>?_) b.pair (λX=>b.mono X) (λp c E q K j=>?_)).mono ?_
 ·obtain⟨x,d,i⟩:=C p c;rw[<-i];exact(h.lits x d).2
 ·obtain⟨x,d,i⟩:=C p c;have R:q.f∈s.map CK:=by rw[<-b.same];exact aM K
  obtain⟨g,H,B⟩:=az.1 R;rw[<-i]at E j⊢;have J:(x.kind==97)=true:=by
   rw[<-QW];have:Fd x.kind=0:=E;rw[this];rfl
  have T:g.name=x.A.name:=by
   unfold Qr at j;rw[<-B]at j;exact toList_inj (by simpa[Lg,CK] using j)
  have:=h.fit g H x d J T;rw[<-B];simp[Lg,CK];omega
 ·rintro r t ⟨l,n,m,ps,rfl,W,z,U,k⟩;rw[u]at z;obtain⟨i,_⟩:=TK b D S (λx d=>(h.lits x d).1) h.fit z W;rw[<-i];exact⟨l,n,rfl,U,k⟩
theorem Wo{w:World}{b:Nat}{a:List By}{s:List Aj}{d:List UInt8}(h:Zh w b a s d)(v:UInt8)(e:List cL):∀t∈KA a s v e,AX t:=by
 obtain⟨y,n,k,i,x,j,p,o,q,r,m,g,u,l,f⟩:=h.at_;exact λt c=>Lw f.canon h.fit v e t ((Gy a s v e t).1 c)
theorem Ww{w:World}{f:Nat}{l:List By}{s:List Aj}{a:List UInt8}(h:Zh w f l s a)(k:Nat)(m:k<a.length):
  ∃(d c:Nat) (t:Value) (g b:Nat),Aw w f [.pointer (some ⟨d,c,none⟩),t, .slice (some ⟨g,0,none⟩) a.length b] 237/\w.cell? ⟨g,k,none⟩=some (.int .i32 (a[k].toNat:Int)):=by
 obtain⟨d,c,y,v,F,x,B,A,C,D,o,u,E,n,z⟩:=h.at_;have j:k<(EG a).length:=by unfold EG;simpa using m
 obtain⟨g,b,q,r⟩:=RY n k j;have p:(EG a).length=a.length:=by unfold EG;simp
 have i:=o.blk;rw[q,p]at i;refine⟨d,c,_,g,b,i,?_⟩;have e:(EG a)[k]=(a[k].toNat:Int):=by simp[EG]
 rw[r,e]
