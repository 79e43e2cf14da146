import Derived.Test.YtoihbhenbmffcaaGreatDoorYAW
set_option linter.all false
set_option maxHeartbeats 0
open List renaming length->Z
open Option renaming none->Y,some->V
open Go.Value renaming slice->U,int->X,string->O
open Bool renaming false->K,true->j1
open Go.IntKind renaming i64->J
open Go.Ending renaming returned->lo
open Or renaming inl->lx,inr->ly
open Go renaming World->l9,Value->lN
open Go.RowKit renaming Hid->lO
open Prod renaming fst->lW
namespace Go.Proofs.YtoihbhenbmffcaaGreatDoor
open Go.RowKit Go.Proofs.Tryz
def ep(l:mc zA):mc zA:=l.foldl Cy []
def G8(c:Db):mc zA:=((Br c).filter λt=>t.v==0).map λt=>t.s
def MF(l:mc zA)(x:zA):DV l x=j1↔x∈l:=Ki l x
def R3(l:mc zA)(x y:zA):y∈Cy l x↔y=x\/y∈l:=by
 unfold Cy;cases h:DV l x with
 |true=>
  simp only[if_true];have b:=(MF l x).1 h;exact⟨ly,λa=>by rcases a with rfl|a;exact b;exact a⟩
 |false=>
  simp only[gO,if_false,ic,gN];exact⟨λa=>by rcases a with a|a;exact ly a;exact lx a,λa=>by rcases a with a|a;exact ly a;exact lx a⟩
def Uu{l:mc zA}(h:l.Nodup)(x:zA):(Cy l x).Nodup:=by
 unfold Cy;cases hb:DV l x with
 |true=>simpa using h
 |false=>
  simp only[gO,if_false];rw[kL];refine⟨h,by simp,λa d b c e=>?_⟩;simp only[gN]at c;subst e c;rw[(MF l a).2 d]at hb;cases hb
def Pi:∀(a l:mc zA),l.Nodup->(a.foldl Cy l).Nodup/\∀y,y∈a.foldl Cy l↔y∈a\/y∈l
 |[],l,h=>⟨h,λy=>by simp⟩
 |x::a,l,h=>by
  obtain⟨b,c⟩:=Pi a (Cy l x) (Uu h x);refine⟨b,λy=>?_⟩;rw[iA,c,R3,gP];exact⟨λh=>by rcases h with h|h|h;exact lx (ly h);exact lx (lx h);exact ly h,λh=>by rcases h with(h|h)|h;exact ly (lx h);exact lx h;exact ly (ly h)⟩
def Eu(l:mc zA):(ep l).Nodup/\∀y,y∈ep l↔y∈l:=by
 obtain⟨a,b⟩:=Pi l [] jT;exact⟨a,λy=>by rw[ep,b];simp⟩
def Lq{a b:mc zA}(d:a.Nodup)(e:b.Nodup)(h:∀y,y∈a↔y∈b):Z a=Z b:=
 Nat.le_antisymm (Mj a b d (λy c=>(h y).1 c)) (Mj b a e (λy c=>(h y).2 c))
def VU(cs:mc Db)(k:Nat):Bool:=decide (12<k+1)||decide (6<Z (ep ((cs.take (k+1)).flatMap BZ)))||decide (6<Z (ep ((cs.take (k+1)).flatMap G8)))
def V2(cs:mc Db)(k:Nat)(c:Db):Option (Int×Int):=
 if VU cs k||JS c then V (3,c.hp)
 else match fb cs (Bo c)with
  |some p=>V (4,p)
  |none=>match G2 c with
   |some p=>V (5,p)
   |none=>Y
def N6(cs:mc Db):Nat->mc Db->Option (Int×Int)
 |_,[]=>Y
 |k,c::l=>match V2 cs k c with
  |some r=>V r
  |none=>N6 cs (k+1) l
def Xs:Option (Int×Int)->lN
 |some r=> .tuple #[X J r.1,X J r.2]
 |none=> .tuple #[X J 0,X J 0]
structure fO(c:Db):Prop where
 pc:OX c
 zQ:Z (Br c)<=90000
def fO.atoms{c:Db}(h:fO c){w:l9}(d:Js w 0 c.hv c.bv c.zE c.zD):∀a∈Bo c,lenOf a.tv<=1000:=by
 intro a b;rcases gP.1 b with rfl|b
 .obtain⟨j,i,e⟩:=Al d.head;simp only;rw[e];exact h.pc.head.2
 .unfold AN at b;obtain⟨p,g,rfl⟩:=gX.1 b;have f:=(ir.1 g).1;obtain⟨j,i,e⟩:=Al (d.body.each p f).1;simp only;rw[e];exact(h.pc.each p f).2
def Um{cs:mc Db}{k:Nat}(e:k<Z cs){d th':mc zA}(h:∀y,y∈d↔y∈(cs.take k).flatMap G8)(a:EL (Br cs[k]) d th'):∀y,y∈th'↔y∈(cs.take (k+1)).flatMap G8:=by
 intro y;rw[a y,h y,gQ e,ix,ic];simp only[il,jh,iJ];have:(∃t∈Br cs[k],t.v=0/\t.s=y)↔y∈G8 cs[k]:=by
  unfold G8;rw[gX];constructor
  .rintro ⟨t,b,a,c⟩;exact⟨t,ir.2 ⟨b,by simpa using a⟩,c⟩
  .rintro ⟨t,b,c⟩;obtain⟨f,g⟩:=ir.1 b;exact⟨t,f,by simpa using g,c⟩
 rw[this];exact⟨λh=>by rcases h with h|h;exact ly h;exact lx h,λh=>by rcases h with h|h;exact ly h;exact lx h⟩
def W6{cs:mc Db}{k:Nat}(b:k<Z cs){nm nm':mc zA}(h:∀y,y∈nm↔y∈(cs.take k).flatMap BZ)(a:∀y,y∈nm'↔y∈BZ cs[k]\/y∈nm):∀y,y∈nm'↔y∈(cs.take (k+1)).flatMap BZ:=by
 intro y;rw[a y,h y,gQ b,ix,ic];simp only[il,jh,iJ];exact⟨λh=>by rcases h with h|h;exact ly h;exact lx h,λh=>by rcases h with h|h;exact ly h;exact lx h⟩
set_option maxRecDepth 100000
theorem MQ(K7:Option Addr)(KS:Nat)(cs:mc Db)(w:l9)(h:C9 w (U K7 (Z cs) KS) cs)(z:∀c∈cs,cJ w w.heap.size c)(LL:Z cs<=1000)(hf:∀c∈cs,fO c):
  Calls prog 72 #[U K7 (Z cs) KS] w λe w'=>e=lo (Xs (N6 cs 0 cs))/\Ac [] w w':=by
 have HP:=Ab h;have K3:=Ab hf;have JJ:=Ab z;obtain⟨R,hR⟩:∃R,N6 cs 0 cs=R:=⟨_,rfl⟩;rw[hR];have K6:=Ab hR;clear h hf z hR;have BS:lO (EI (w.alloc (.cells [X J 0,U Y 0 0,U Y 0 0].toArray 210)) w.heap.size ((0:Nat):Int) (U Y 0 0) (U Y 0 0) [] []):=
  ⟨mf w _ 210,ip _ _ _ _,ip _ _ _ _,λk hk=>by simp[Value.ownBlock]at hk,λi j t=>by simp at t,λi j t=>by simp at t⟩
 have BA:=Ab (Xn.of ((me [] w).alloc (.cells [X J 0,U Y 0 0,U Y 0 0].toArray 210)) (ig _) (by simp));have B:lO (∀wr,Xn w.heap.size w wr->Ac [] w wr):=λwr hl=>hl.kept (ig _)
 go_enter func72,ntmps72;go_wp2;change Code.wp _ _ _ _ (w.alloc (.cells [X J 0,U Y 0 0,U Y 0 0].toArray 210));generalize w.alloc (.cells [X J 0,U Y 0 0,U Y 0 0].toArray 210)=w1 at BS BA⊢;obtain⟨b,HU⟩:∃b,w.heap.size=b:=⟨_,rfl⟩;rw[HU]at BS BA JJ B⊢;have NV:=Ab HU;clear HU
 go_loopg [13] (Z cs) (λgk i wr=>∃(k:Nat) (W Q:lN) (M S:mc zA),i=X J k/\k<=Z cs/\k<=12/\gk=Z cs-k/\Z M<=6/\Z S<=6/\lO (EI wr b (k:Int) W Q M S)/\lO (∀y,y∈M↔y∈(cs.take k).flatMap BZ)/\lO (∀y,y∈S↔y∈(cs.take k).flatMap G8)/\lO (N6 cs k (cs.drop k)=R)/\lO (Xn b w wr))
 case atStart=>exact⟨0,_,_,[],[],rfl,by omega,by omega,rfl,by simp,by simp,BS,λy=>by simp,λy=>by simp,K6,BA⟩
 case round=>
  clear BS BA K6;obtain⟨k,W,Q,M,S,rfl,hk,Op,K4,OB,NY,HC,IJ,HY,HR,HL⟩:=hrel;have HG:=Ab K4;clear K4;by_cases z:k<Z cs
  .have H1:=Aa B wr HL;have H6:=HP.kept H1;obtain⟨g,N4,f,q,d,o,l,n,m,a,he,H0,d0,d1,d2,d3⟩:=Fq H6 k z;simp only[gM]at he;obtain⟨rfl,_,rfl⟩:=he;have FC:=Ab ((JJ _ (gL z)).low HL);have x:=Ab (K3 _ (gL z));have E:lO ((match V2 cs k cs[k] with|some r=>V r|none=>N6 cs (k+1) (cs.drop (k+1)))=R):=by
    have h:=Aa HR;rw[ij z,N6]at h;exact h
   have HM:=Ab (λnm'=>W6 (nm':=nm') z IJ);have FP:=Ab (λth'=>Um (th':=th') z HY);rw[H0]at FC x E HM FP;clear H6 H0 HR IJ HY H1;have NN:=HC.zO.lt;have kA:=(me [] wr).alloc (.cells [X J f,O q,U o (Z d) l,U n (Z a) m].toArray 189);have D:=Ab (HC.kept kA);have N:=Ab (mf wr [X J f,O q,U o (Z d) l,U n (Z a) m] 189);have lA:=Xn.of kA (b:=b) (by omega) (by simp);have H:=Ab (HL.trans lA);have L:=Ab (FC.low lA);have HI:lO (∀v:lN,(v=W\/v=Q)->v.ownBlock≠V wr.heap.size):=by
    intro v hv e;rcases hv with rfl|rfl
    .have:=(HC.rn.lt _ e).2;omega
    .have:=(HC.rt.lt _ e).2;omega
   have FF:=Ab (Za b k W Q M S ⟨f,q,d,U o (Z d) l,U n (Z a) m,a⟩ _ D L x.pc x.zQ (by omega) (by omega) (by omega));(have M3:b+1<=(wr.alloc (.cells [X J f,O q,U o (Z d) l,U n (Z a) m].toArray 189)).heap.size:=by simp;omega);clear kA lA;simp only[Bc]at FF;(go_wp2_with fail);refine FF.mono ?_;rintro e w5 ⟨rfl,K5,HZ,CC,B2,A0,H8,H9,Os,N2,k5⟩;have HF:=N.kept k5 (by
    intro s
    simp only[gP,ic]at s
    rcases s with s|s|s
    .omega
    .exact HI W (lx rfl) (by simpa using s)
    .exact HI Q (ly rfl) (by simpa using s))
   have l5:Xn b (wr.alloc (.cells [X J f,O q,U o (Z d) l,U n (Z a) m].toArray 189)) w5:=Xn.of k5 (by omega) (λi t=>by
    simp only[gP,ic]at t
    rcases t with t|t|t
    .omega
    .exact D.yE.1 i t
    .exact D.yE.2 i t)
   have HB:=Ab (H.trans l5);have HK:=Ab (L.low l5);have K2:=Ab (HM CC H8);have H5:=Ab (FP B2 H9);have B9:lO ((decide (12<k+1)||decide (6<Z CC)||decide (6<Z B2))=VU cs k):=by
    show _=_;unfold VU;rw[Lq (A0.rin.nodup FE) (Eu _).1 (λy=>(Aa K2 y).trans ((Eu _).2 y).symm),Lq (A0.rit.nodup FE) (Eu _).1 (λy=>(Aa H5 y).trans ((Eu _).2 y).symm)]
   have EY:=Ab (Q8 b (k+1) K5 HZ CC B2 w5 A0);rw[Aa B9]at EY;have MN:wr.heap.size<w5.heap.size:=HF.lt;have F:=Ab HF;have HA:=Ab A0;(have LB:wr.heap.size≠b:=by omega);clear FF A0 H8 H9 k5 l5 D N H L HI HM FP HF d0 d1 d2 d3 M3 HL FC HC;generalize wr.heap.size=T at F MN LB⊢;(go_wp2_with fail);refine EY.mono ?_;rintro e w6 ⟨rfl,LC⟩;subst LC;clear EY;have C:=F.cell 0;have t1:=F.cell 1;have t2:=F.cell 2;have t3:=F.cell 3;simp at C t1 t2 t3;cases s:VU cs k with
   |true=>
    have A:lO (R=V (3,f)):=by
     show _=_;rw[<-Aa E];unfold V2;rw[s];rfl
    clear s B9 E;go_wp2_with fail
    go_region_held3 (λw'=>w'.cell? ⟨T,0,Y⟩=V (X J f)) (go_keep) (fail)
    rename_i Ha;clear Ha;go_wp2;go_ret2;rw[Aa A];exact⟨rfl,B _ HB.drew⟩
   |false=>
    have I:=Aa B9;rw[s]at I;simp only[kl,jY]at I;have FA:=Ab (OQ ⟨f,q,d,U o (Z d) l,U n (Z a) m,a⟩ w6 HK.at_ x.pc.lits);simp only[Bc]at FA;have Jx:=Ab s;have NL:=I.1.1;have OH:=I.1.2;have NM:=I.2;clear s B9 I;(go_wp2_with fail);refine FA.mono ?_;rintro e w7 ⟨rfl,k7⟩;have G:=Ab (F.kept k7 (by simp));have EK:=Ab (HA.kept k7);have l7:=Xn.of k7 (b:=b) (by have:=HA.zO.lt;omega) (by simp);have HO:=Ab (HB.trans l7);have P:=Ab (HK.low l7);have NX:T<w7.heap.size:=G.lt;(have NB:b<=w7.heap.size:=by have:=EK.zO.lt;omega);clear C t1 t2 t3 FA k7 l7 F HA HB HK;have C:=G.cell 0;have t1:=G.cell 1;have t2:=G.cell 2;have t3:=G.cell 3;simp at C t1 t2 t3;cases hg:JS ⟨f,q,d,U o (Z d) l,U n (Z a) m,a⟩with
    |true=>
     have A:lO (R=V (3,f)):=by
      show _=_;rw[<-Aa E];unfold V2;rw[hg,lm];rfl
     clear hg E;go_wp2_with fail
     go_region_held3 (λw'=>w'.cell? ⟨T,0,Y⟩=V (X J f)) (go_keep) (fail)
     rename_i Ha;clear Ha;go_wp2;go_ret2;rw[Aa A];exact⟨rfl,B _ HO.drew⟩
    |false=>
     have u:lO ((match(match fb cs (Bo ⟨f,q,d,U o (Z d) l,U n (Z a) m,a⟩)with|some p=>V ((4:Int),p)|none=>match G2 ⟨f,q,d,U o (Z d) l,U n (Z a) m,a⟩with|some p=>V ((5:Int),p)|none=>Y)with|some r=>V r|none=>N6 cs (k+1) (cs.drop (k+1)))=R):=by
      have h:=Aa E;unfold V2 at h;rw[Aa Jx,hg]at h;exact h
     clear hg E Jx;have BT:=Ab (KE ⟨f,q,d,U o (Z d) l,U n (Z a) m,a⟩ w7 P.at_ x.pc.lits);have Ix:=Ab (Hn P.at_);have H4:Z (Bo ⟨f,q,d,U o (Z d) l,U n (Z a) m,a⟩)<=1001:=by
      have:=DO a;have h2:=x.pc.lits;simp only at h2;simp[Bo];omega
     have IS:=Ab (x.atoms P.at_);simp only[Bc]at BT;generalize Bo ⟨f,q,d,U o (Z d) l,U n (Z a) m,a⟩=aT at BT u Ix H4 IS;(go_wp2_with fail);refine BT.mono ?_;rintro e wa ⟨Nx,M0,rfl,K1,ka⟩;have N:=Ab (G.kept ka (by simp));have D:=Ab (EK.kept ka);have la:=Xn.of ka (b:=b) NB (by simp);have H:=Ab (HO.trans la);have L:=Ab (P.low la);(have Nj:b<=wa.heap.size:=by have:=D.zO.lt;omega);have FL:=Ab (KZ Nx M0 aT _ _ _ cs wa K1 Ix H4 IS (HP.kept (B wa H)) (λc hc=>(K3 c hc).pc.lits) LL);clear BT K1 ka la G EK HO P C t1 t2 t3;generalize fb cs aT=RO at FL u;(go_wp2_with fail);refine FL.mono ?_;rintro e w8 ⟨rfl,k8⟩;have Ax:=Ab (N.kept k8 (by simp));have HJ:=Ab (D.kept k8);have l8:Xn b wa w8:=Xn.of k8 Nj (by simp);have HD:=Ab (H.trans l8);have HX:=Ab (L.low l8);(have LS:b<=w8.heap.size:=by have:=HJ.zO.lt;omega);clear FL k8 l8 N D H L;have C:=Ax.cell 0;have t1:=Ax.cell 1;have t2:=Ax.cell 2;have t3:=Ax.cell 3;simp at C t1 t2 t3;cases RO with
     |some p=>
      have A:lO (R=V (4,p)):=u.symm;clear u;simp only[BE];go_wp2;go_ret2;rw[Aa A];exact⟨rfl,B _ HD⟩
     |none=>
      have Bx:=Ab (OM ⟨f,q,d,U o (Z d) l,U n (Z a) m,a⟩ w8 HX.at_ x.pc (by have:=x.zQ;omega));simp only[Bc]at Bx;simp only at u;generalize G2 ⟨f,q,d,U o (Z d) l,U n (Z a) m,a⟩=UO at Bx u;simp only[BE];(go_wp2_with fail);refine Bx.mono ?_;rintro e w9 ⟨rfl,k9⟩;have LE:=Ab (HJ.kept k9);have H2:=Ab (HD.trans (Xn.of k9 LS (by simp)));clear Bx k9 HJ HD HX Ax C t1 t2 t3;cases UO with
      |some p=>
       have A:lO (R=V (5,p)):=u.symm;clear u;simp only[BE];go_wp2;go_ret2;rw[Aa A];exact⟨rfl,B _ H2⟩
      |none=>
       have Nq:lO (N6 cs (k+1) (cs.drop (k+1))=R):=u;clear u;simp only[BE];go_wp2
       go_roundg (Z cs-(k+1))
       case measure=>have:=Aa HG;omega
       case rel=>exact⟨k+1,K5,HZ,CC,B2,by go_num,by omega,by omega,rfl,by omega,by omega,LE,K2,H5,Nq,H2⟩
  .have A:lO (R=Y):=by
    have h:=Aa HR;rw[iC (by omega),N6]at h;exact h.symm
   go_wp2;go_ret2;rw[A.out];exact⟨rfl,B wr HL⟩
def Rb(f:zA->zA->Bool)(pcs:mc Db):Int×Int:=match N6 pcs 0 pcs with
 |some r=>r
 |none=>match Oj f pcs with
  |some p=>(6,p)
  |none=>(0,0)
structure Wf(c:Db):Prop where
 head:lenOf c.hv=Z c.zE
 lits:∀p∈c.zD,lenOf p.2=Z p.1.ts
def Js.wf{w:l9}{c:Db}(h:Js w 0 c.hv c.bv c.zE c.zD):Wf c:=by
 refine⟨?_,λp a=>?_⟩
 .obtain⟨d,b,e⟩:=Al h.head;rw[e];rfl
 .obtain⟨d,b,e⟩:=Al (h.body.each p a).1;rw[e];rfl
def ED(s:zA)(f:zA->zA->Bool)(r:Int×Int):Prop:=
 if 300<s.size then r=(1,0)
 else match C1 (C4 s) 0 [] with
  | .error p=>r=(2,p)
  | .ok cs=>∃pcs:mc Db,pcs.map Db.pc=cs/\(∀c∈pcs,Wf c)/\r=Rb f pcs
structure cM(f:zA->zA->Bool)(pcs:mc Db):Prop where
 yb:∀x y,f x y=j1↔Ij pcs x y
 fit:∀c∈pcs,fO c
 len:Z pcs<=1000
 names:Z (pcs.flatMap BZ)<=800000
def FR.into{w:l9}{base:Nat}{e:lN}{cs:mc Db}(h:FR w base e cs):C9 w e cs/\∀c∈cs,cJ w w.heap.size c:=by
 refine⟨⟨Am h.row (ik _),λc d=>(h.each c d).at_.base (ik _)⟩,λc d=>?_⟩;have b:=(h.each c d).at_;exact⟨b.base (ik _),λk a=>(b.head.lt k a).2,λk a=>(b.body.row.lt k a).2,λp f k a=>(World.ownsRow.lt (b.body.each p f).1 k a).2⟩
def dr{cs:mc Db}{k:Nat}{c:Db}{r:Int×Int}(h:V2 cs k c=V r):r.1≠0:=by
 unfold V2 at h;split at h
 .simp only[gT]at h;subst h;simp
 .split at h
  .simp only[gT]at h;subst h;simp
  .split at h
   .simp only[gT]at h;subst h;simp
   .cases h
def Yr{cs:mc Db}:∀(l:mc Db) (k:Nat) {r:Int×Int},N6 cs k l=V r->r.1≠0
 |[],k,r,h=>by simp[N6]at h
 |c::l,k,r,h=>by
  rw[N6]at h;split at h
  .rename_i b a;simp only[gT]at h;subst h;exact dr a
  .exact Yr l (k+1) h
def bk(s:zA)(w:l9)(lv:lN)(n:Nat)(r:Int×Int):Prop:=r.1=0->s.size<=300/\∃cs pcs,C1 (C4 s) 0 []=.ok cs/\pcs.map Db.pc=cs/\n=Z pcs/\C9 w lv pcs
theorem Nz(s:zA)(f:zA->zA->Bool)(w:l9)(B0:s.size<=9223372036854775807)(B:s.size<=300->∀b,C1 (C4 s) 0 []=.ok b->∀a,a.map Db.pc=b->cM f a):
  Calls prog 40 #[O s] w λe M=>∃(j:Option Addr) (n k:Nat) (r:Int×Int),e=lo (.tuple #[U j n k,X J r.1,X J r.2])/\ED s f r/\bk s M (U j n k) n r/\Ac [] w M:=by
 by_cases S:300<s.size
 .have A2:(300:Int)<(s.size:Int):=by omega
  have i:lO (ED s f (1,0)):=by
   show ED _ _ _;unfold ED;rw[gY S]
  clear B;go_enter func40,ntmps40;go_wp2;go_ret3;exact⟨Y,0,0,(1,0),rfl,i,λh=>absurd h (by decide),me _ _⟩
 .have A2:¬(300:Int)<(s.size:Int):=by omega
  have W:=Ab (Jm s w (by omega));have y:=Ab (B (by omega));have u:lO (∀r,ED s f r↔(match C1 (C4 s) 0 [] with| .error p=>r=(2,p)| .ok b=>∃a:mc Db,a.map Db.pc=b/\(∀c∈a,Wf c)/\r=Rb f a)):=by
   intro r;unfold ED;rw[gV S]
  clear B;go_enter func40,ntmps40;go_wp2_with fail
  refine W.mono ?_;intro e w2 x;clear W;cases hp:C1 (C4 s) 0 [] with
  |error p=>
   rw[hp]at x;obtain⟨rfl,m⟩:=x;have i:lO (ED s f (2,p)):=by
    show ED _ _ _;rw[Aa u,hp]
   have v:=Ab m;clear hp u y m;go_wp2;go_ret3;exact⟨Y,0,0,(2,p),rfl,i,λh=>absurd h (by simp),v⟩
  |ok b=>
   rw[hp]at x;obtain⟨j,k,a,rfl,o,G,m⟩:=x;have q:=Aa y b hp a o;(have A0:Z b=Z a:=by rw[<-o];simp);rw[A0]at G⊢;obtain⟨t,R⟩:=G.into;have i:lO (∀r,r=Rb f a->ED s f r):=by
    intro r E;rw[Aa u,hp];exact⟨a,o,λc d=>(t.each c d).wf,E⟩
   have L:=Ab (MQ j k a w2 t R q.len q.fit);have T:=Ab t;have P:lO (C1 (C4 s) 0 []=.ok b/\a.map Db.pc=b):=⟨hp,o⟩;have l:=Ab q;have v:=Ab m;clear hp u y m o G t R q;(go_wp2_with fail);refine L.mono ?_;rintro e w3 ⟨rfl,C⟩;have z:=Ab (T.kept C);have H:=Ab (v.trans C);clear L T v C;cases d:N6 a 0 a with
   |some r=>
    have F:=Yr _ _ d;(have AT:(r.1 !=0)=j1:=by simp[bne,F]);have g:=Ab (i r (by unfold Rb;rw[d]));obtain⟨N,r2⟩:=r;simp only at AT F;have BA:lO (N≠0):=F;clear d i;simp only[Xs];go_wp2;go_ret3;exact⟨Y,0,0,(N,r2),rfl,g,λh=>absurd h BA,H⟩
   |none=>
    have Ax:=Ab (S5 f j k a l.yb w3 z l.len (λc d=>(l.fit c d).pc.lits) l.names);have g:lO (∀r,r=(match Oj f a with|some p=>((6:Int),p)|none=>(0,0))->ED s f r):=by
     intro r E;refine i r ?_;unfold Rb;rw[d];exact E
    clear d i l;simp only[Xs];(go_wp2_with fail);refine Ax.mono ?_;rintro e w4 ⟨rfl,I⟩;have Q:=Ab (H.trans I);have Bx:lO (s.size<=300/\∃b A,C1 (C4 s) 0 []=.ok b/\A.map Db.pc=b/\Z a=Z A/\C9 w4 (U j (Z a) k) A):=⟨by omega,b,a,P.1,P.2,rfl,z.kept I⟩;clear Ax I H z;cases hl:Oj f a with
    |some p=>
     rw[hl]at g;have D:=Ab (g (6,p) rfl);clear hl g;simp only[BE];go_wp2;go_ret3;exact⟨Y,0,0,(6,p),rfl,D,λh=>absurd h (by simp),Q⟩
    |none=>
     rw[hl]at g;have D:=Ab (g (0,0) rfl);clear hl g;simp only[BE];go_wp2;go_ret3;exact⟨j,Z a,k,(0,0),rfl,D,λ_=>Bx,Q⟩
def F2{α β:Type}(R:α->β->Prop):mc α->mc β->Prop
 |[],[]=>True
 |a::l,b::m=>R a b/\F2 R l m
 |_,_=>False
def F2.nil{α β:Type}{R:α->β->Prop}:F2 R ([]:mc α) ([]:mc β):=trivial
def F2.cons{α β:Type}{R:α->β->Prop}{a:α}{b:β}{l:mc α}{m:mc β}(h:R a b)(t:F2 R l m):F2 R (a::l) (b::m):=⟨h,t⟩
def F2.ind{α β:Type}{R:α->β->Prop}{motive:(l:mc α)->(m:mc β)->F2 R l m->Prop}(nil:motive [] [] F2.nil)(cons:∀{a:α} {b:β} {l:mc α} {m:mc β} (h:R a b) (t:F2 R l m),motive l m t->motive (a::l) (b::m) (F2.cons h t)):∀{l:mc α} {m:mc β} (h:F2 R l m),motive l m h
 |[],[],_=>nil
 |[],_::_,h=>h.elim
 |_::_,[],h=>h.elim
 |_::_,_::_,h=>cons h.1 h.2 (F2.ind nil cons h.2)
def F2.of_map{α β γ:Type}{f:α->γ}{g:β->γ}:∀{l:mc α} {m:mc β},l.map f=m.map g->F2 (λa b=>f a=g b) l m
 |[],[],_=>F2.nil
 |[],_::_,h=>by simp at h
 |_::_,[],h=>by simp at h
 |a::l,b::m,h=>by
  simp only[ii,jB]at h;exact F2.cons h.1 (F2.of_map h.2)
def F2.lenX{α β:Type}{R:α->β->Prop}{l:mc α}{m:mc β}(h:F2 R l m):Z l=Z m:=by
 induction h using F2.ind with
 |nil=>rfl
 |cons _ _ ih=>simp[ih]
def F2.take{α β:Type}{R:α->β->Prop}{l:mc α}{m:mc β}(h:F2 R l m)(k:Nat):F2 R (l.take k) (m.take k):=by
 induction h using F2.ind generalizing k with
 |nil=>simp;exact F2.nil
 |cons h1 _ ih=>
  cases k with
  |zero=>simp;exact F2.nil
  |succ k=>simp only[kc];exact F2.cons h1 (ih k)
def F2.flatMap{α β γ:Type}{R:α->β->Prop}{f:α->mc γ}{g:β->mc γ}(c:∀a b,R a b->f a=g b){l:mc α}{m:mc β}(h:F2 R l m):l.flatMap f=m.flatMap g:=by
 induction h using F2.ind with
 |nil=>rfl
 |cons h1 _ ih=>rw[il,il,c _ _ h1,ih]
def F2.find{α β γ:Type}{R:α->β->Prop}{f:α->Bool}{g:β->Bool}{u:α->γ}{v:β->γ}(d:∀a b,R a b->f a=g b/\u a=v b){l:mc α}{m:mc β}(h:F2 R l m):(l.find? f).map u=(m.find? g).map v:=by
 induction h using F2.ind with
 |nil=>rfl
 |cons h1 _ ih=>
  obtain⟨e,c⟩:=d _ _ h1;rw[kh,kh,e];split
  .simp[c]
  .exact ih
def F2.mem{α β:Type}{R:α->β->Prop}{l:mc α}{m:mc β}(h:F2 R l m):∀b∈m,∃a∈l,R a b:=by
 induction h using F2.ind with
 |nil=>intro b c;simp at c
 |cons h1 _ ih=>
  intro b c;rcases gP.1 c with rfl|c
  .exact⟨_,by simp,h1⟩
  .obtain⟨a,d,e⟩:=ih b c;exact⟨a,by simp[d],e⟩
def F2.yS{α β:Type}{R:α->β->Prop}{l:mc α}{m:mc β}(h:F2 R l m):∀a∈l,∃b∈m,R a b:=by
 induction h using F2.ind with
 |nil=>intro b c;simp at c
 |cons h1 _ ih=>
  intro b c;rcases gP.1 c with rfl|c
  .exact⟨_,by simp,h1⟩
  .obtain⟨a,d,e⟩:=ih b c;exact⟨a,by simp[d],e⟩
def F2.mono{α β:Type}{R S:α->β->Prop}{l:mc α}{m:mc β}(h:F2 R l m)(c:∀a∈l,∀b∈m,R a b->S a b):F2 S l m:=by
 induction h using F2.ind with
 |nil=>exact F2.nil
 |cons h1 _ ih=>exact F2.cons (c _ (by simp) _ (by simp) h1) (ih (λa d b e=>c a (by simp[d]) b (by simp[e])))
structure Sg(p:Ks)(q:Bj):Prop where
 eq:p.1=KF q.1
 len:lenOf p.2=Z q.1.A.args
 plain:MT q=K->q.1.A.args=[]
def Xq(t:AE):((ct t).v==0)=(t.v==0):=by
 unfold ct;simp only;rw[jl];simp only[jA];constructor
 .intro h;apply jp.1;rw[show(0:UInt8).toNat=0 from rfl]
  omega
 .intro h;rw[h];rfl
def ez(t:AE)(v:UInt8):((ct t).v==(v.toNat:Int))=(t.v==v):=by
 unfold ct;simp only;rw[jl];simp only[jA];constructor
 .intro h;apply jp.1;omega
 .intro h;rw[h]
def Ri(k:UInt8):(Fs k==0)=(k==97):=by
 unfold Fs;by_cases h:k=97
 .simp[h]
 .by_cases a:k=33
  .simp[a]
  .by_cases b:k=61
   .simp[b]
   .by_cases c:k=35
    .simp[c]
    .simp[h,a,b,c]
def Z8(k:UInt8):(Fs k==1)=(k==33):=by
 unfold Fs;by_cases h:k=97
 .simp[h]
 .by_cases a:k=33
  .simp[a]
  .by_cases b:k=61
   .simp[b]
   .by_cases c:k=35
    .simp[c]
    .simp[h,a,b,c]
def Sg.atom{p:Ks}{q:Bj}(h:Sg p q):Ba p.1=MT q:=by
 unfold Ba MT;rw[h.eq];simp only[KF,Ri,Z8]
def Sg.zQ{p:Ks}{q:Bj}(h:Sg p q):AL p.1=(A4 q).map ct:=by
 unfold AL A4;rw[h.atom,h.eq];split<;>simp[KF]
structure QH(c:Db)(r:A6):Prop where
 hp:c.hp=r.head.at_
 hn:c.hn=r.head.name
 zE:c.zE=r.head.args.map ct
 lits:F2 Sg c.zD r.bl
 len:lenOf c.hv=Z r.head.args
 at_:r.at_=r.head.at_
def GV(r:A6):mc zA:=r.head.name::(r.bl.filter MT).map λq=>q.1.A.name
def Gq(r:A6):mc AE:=r.head.args++r.bl.flatMap A4
def Ww{a:mc Ks}{bl:mc Bj}(h:F2 Sg a bl):FW a=(bl.filter MT).map λq=>q.1.A.name:=by
 unfold FW
 induction h using F2.ind with
 |nil=>rfl
 |cons h1 _ ih=>
  rw[jt,jt,h1.atom];split
  .rw[ii,ii,ih,h1.eq];rfl
  .exact ih
def QH.names{c:Db}{r:A6}(h:QH c r):BZ c=GV r:=by
 unfold BZ GV;rw[h.hn,Ww h.lits]
def QH.zQ{c:Db}{r:A6}(h:QH c r):Br c=(Gq r).map ct:=by
 unfold Br Gq AV;rw[h.zE,iG,ld,F2.flatMap (λa b d=>d.zQ) h.lits]
def MH(r:A6):mc zA:=((Gq r).filter λt=>t.v==0).map λt=>t.s
def QH.zC{c:Db}{r:A6}(h:QH c r):G8 c=(MH r).map Dt:=by
 unfold G8 MH;rw[h.zQ,List.filter_map,iX,iX];have e:(Gq r).filter ((λt=>t.v==0)∘ct)=(Gq r).filter λt=>t.v==0:=by
  apply List.filter_congr;intro t _;exact Xq t
 rw[e];rfl
def Ub(f:zA->zA)(h:∀a b,f a=f b->a=b)(l:mc zA):Z (ep (l.map f))=Z (ep l):=by
 rw[show Z (ep l)=Z ((ep l).map f) from by simp]
 refine Lq (Eu _).1 (List.Pairwise.map f (λa b g e=>g (h a b e)) (Eu l).1) (λy=>?_);rw[(Eu _).2,gX,gX];constructor
 .rintro ⟨x,d,c⟩;exact⟨x,((Eu l).2 x).2 d,c⟩
 .rintro ⟨x,d,c⟩;exact⟨x,((Eu l).2 x).1 d,c⟩
def Ui(l:mc zA)(r:A6):Lc l r=(GV r).foldl Cy l:=by
 unfold Lc GV;rw[iA];generalize Cy l r.head.name=l0
 induction r.bl generalizing l0 with
 |nil=>rfl
 |cons q bl ih=>
  rw[iA,jt];unfold zF;cases hq:MT q with
  |true=>
   simp only[if_true,ii,iA];exact ih _
  |false=>
   simp only[gO,if_false];exact ih _
def LO{α β γ:Type}(f:γ->β->γ)(g:α->mc β):∀(l:mc α) (c:γ),(l.flatMap g).foldl f c=l.foldl (λc a=>(g a).foldl f c) c
 |[],c=>rfl
 |a::l,c=>by rw[il,jo,iA,LO f g l]
def P7(cs:mc A6):Gv cs=ep (cs.flatMap GV):=by
 unfold Gv ep;rw[LO]
 congr 1
 funext l r
 exact Ui l r
def N8(x y:zA):∀(l:mc zA) (a:mc zA×Bool),(y∈(l.foldl (CO x) a).1↔y∈a.1\/y∈l\/(y=x/\a.2=K/\(l.foldl (CO x) a).2=j1))/\(a.2=j1->(l.foldl (CO x) a).2=j1)
 |[],a=>by
  refine⟨?_,λh=>h⟩;simp only[List.foldl_nil,iU,false_or];constructor
  .exact lx
  .rintro (h|⟨_,f,e⟩)
   .exact h
   .rw[f]at e;cases e
 |z::l,a=>by
  obtain⟨b,c⟩:=N8 x y l (CO x a z);rw[iA];unfold CO at b c⊢;cases hb:(!a.2&&Fu x z)with
  |true=>
   have d:a.2=K:=by
    cases h:a.2 with
    |false=>rfl
    |true=>rw[h]at hb;simp at hb
   rw[hb]at b c;simp only[if_true]at b c⊢;have g:=c trivial;refine⟨?_,λh=>by rw[d]at h;cases h⟩;rw[b,g,d];simp only[ic,gP,iU,Bool.true_eq_false,false_and,and_false,or_false,true_and,and_true,and_self];constructor
   .rintro ((h|h)|h)
    .rcases h with h|h
     .exact lx h
     .exact ly (ly h)
    .exact ly (lx (lx h))
    .exact ly (lx (ly h))
   .rintro (h|(h|h)|h)
    .exact lx (lx (lx h))
    .exact lx (ly h)
    .exact ly h
    .exact lx (lx (ly h))
  |false=>
   rw[hb]at b c;simp only[gO,if_false]at b c⊢;refine⟨?_,c⟩;rw[b];simp only[ic,gP,iU,or_false];constructor
   .rintro ((h|h)|h|h)
    .exact lx h
    .exact ly (lx (lx h))
    .exact ly (lx (ly h))
    .exact ly (ly h)
   .rintro (h|(h|h)|h)
    .exact lx (lx h)
    .exact lx (ly h)
    .exact ly (lx h)
    .exact ly (ly h)
def YX(l:mc zA)(x y:zA):y∈Hq l x↔y=x\/y∈l:=by
 have h:=(N8 x y l ([],K)).1;unfold Hq;unfold Mg;cases hf:(l.foldl (CO x) ([],K)).2 with
 |true=>
  rw[hf]at h;simp only[if_true];rw[h];simp only[iU,false_or,true_and,and_true,and_self];exact⟨λh=>by rcases h with h|h;exact ly h;exact lx h,λh=>by rcases h with h|h;exact ly h;exact lx h⟩
 |false=>
  rw[hf]at h;simp only[gO,if_false,ic,gN];rw[h];simp only[iU,false_or,gO,and_false,or_false];exact⟨λh=>by rcases h with h|h;exact ly h;exact lx h,λh=>by rcases h with h|h;exact ly h;exact lx h⟩
structure Oo(a b:mc zA):Prop where
 mem:∀y,y∈a↔y∈b
 len:Z a=Z b
def Oo.zb{a b:mc zA}(h:Oo a b)(t:AE):Oo (zb a t) (if t.v==0 then Cy b t.s else b):=by
 unfold Go.Proofs.YtoihbhenbmffcaaGreatDoor.zb Cy;cases hv:(t.v==0)with
 |false=>simpa using h
 |true=>
  have e:DV a t.s=DV b t.s:=by rw[jl,MF,MF,h.mem]
  rw[e];cases hh:DV b t.s with
  |true=>simpa using h
  |false=>
   simp only[jb,kf,if_true,gO,if_false];refine⟨λy=>?_,by rw[Nc,h.len];simp⟩;rw[YX,h.mem];simp only[ic,gN];exact⟨λh=>by rcases h with h|h;exact ly h;exact lx h,λh=>by rcases h with h|h;exact ly h;exact lx h⟩
def Oo.zR{a b:mc zA}(h:Oo a b):∀d:mc AE,Oo (zR a d) (((d.filter λt=>t.v==0).map λt=>t.s).foldl Cy b):=by
 intro d;unfold Go.Proofs.YtoihbhenbmffcaaGreatDoor.zR
 induction d generalizing a b with
 |nil=>exact h
 |cons t d ih=>
  rw[iA,jt];have c:=h.zb t;cases hv:(t.v==0)with
  |true=>
   rw[hv]at c;simp only[if_true]at c⊢;rw[ii,iA];exact ih c
  |false=>
   rw[hv]at c;simp only[gO,if_false]at c⊢;exact ih c
def UQ(l:mc zA)(a b:mc AE):zR l (a++b)=zR (zR l a) b:=by
 unfold zR;rw[jo]
def Wo(l:mc zA)(r:A6):Jw l r=zR l (Gq r):=by
 unfold Jw Gq;rw[UQ];generalize zR l r.head.args=l0
 induction r.bl generalizing l0 with
 |nil=>rfl
 |cons q bl ih=>
  rw[iA,il,UQ];exact ih _
def L6(cs:mc A6):Oo (Dy cs) (ep (cs.flatMap MH)):=by
 unfold Dy ep;rw[LO];have:∀(l:mc A6) (a b:mc zA),Oo a b->Oo (l.foldl Jw a) (l.foldl (λc r=>(MH r).foldl Cy c) b):=by
  intro l
  induction l with
  |nil=>intro a b h;exact h
  |cons r l ih=>
   intro a b h;rw[iA,iA];refine ih _ _ ?_;rw[Wo];exact h.zR _
 exact this cs [] [] ⟨λy=>Iff.rfl,rfl⟩
abbrev fZ:=Int×zA×Nat
def Ty(a:GN):fZ:=(a.place,a.name,lenOf a.tv)
def EG(r:A6):mc fZ:=((r.head.at_:Int),r.head.name,Z r.head.args)::(r.bl.filter MT).map λq=>((q.1.A.at_:Int),q.1.A.name,Z q.1.A.args)
def Wh{a:mc Ks}{bl:mc Bj}(h:F2 Sg a bl):(AN a).map Ty=(bl.filter MT).map λq=>((q.1.A.at_:Int),q.1.A.name,Z q.1.A.args):=by
 unfold AN
 induction h using F2.ind with
 |nil=>rfl
 |cons h1 _ ih=>
  rw[jt,jt,h1.atom];split
  .rw[ii,ii,ii,ih]
   congr 1
   unfold Ty;simp only;rw[h1.eq,h1.len];rfl
  .exact ih
def QH.atoms{c:Db}{r:A6}(h:QH c r):(Bo c).map Ty=EG r:=by
 unfold Bo EG;rw[ii,Wh h.lits]
 congr 1
 unfold Ty;simp only;rw[h.hp,h.hn,h.len]
def fh(x:zA)(p:zA×Nat):Bool:=p.1.toList==x.toList
def OD(L:mc (zA×Nat))(x:zA):Int:=match L.find? (fh x)with|some p=>p.2|none=> -1
def cE(L:mc (zA×Nat))(a:fZ):Bool:=OD L a.2.1 !=(a.2.2:Int)
def Fg(cs:mc A6):mc (zA×Nat):=cs.flatMap λr=>(EG r).map λa=>a.2
def T2(bl:mc Bj)(x:zA):TJ bl x=(((bl.filter MT).map λq=>(q.1.A.name,Z q.1.A.args)).find? (fh x)).map λp=>p.2:=by
 unfold TJ
 induction bl with
 |nil=>rfl
 |cons q bl ih=>
  rw[kP,jt];cases hq:MT q with
  |false=>
   simp only[kq,gO,if_false];exact ih
  |true=>
   simp only[jq,if_true,ii];rw[kh];unfold fh;simp only;cases hn:(q.1.A.name.toList==x.toList)with
   |true=>rfl
   |false=>exact ih
def TY(r:A6)(x:zA):GX r x=(((EG r).map λa=>a.2).find? (fh x)).map λp=>p.2:=by
 unfold GX EG;rw[ii,kh,T2,iX];unfold fh;simp only;cases h:(r.head.name.toList==x.toList)with
 |true=>rfl
 |false=>rfl
def M5(cs:mc A6)(x:zA):Dv cs x=OD (Fg cs) x:=by
 have:cs.findSome? (GX · x)=((Fg cs).find? (fh x)).map λp=>p.2:=by
  unfold Fg
  induction cs with
  |nil=>rfl
  |cons r cs ih=>
   rw[kP,il,lu,TY,ih];cases((EG r).map λa=>a.2).find? (fh x)<;>rfl
 unfold Dv OD;rw[this];cases(Fg cs).find? (fh x)<;>rfl
def UL(L:mc (zA×Nat))(r:A6):((EG r).find? (cE L)).map (λa=>a.1)=
  if OD L r.head.name≠(Z r.head.args:Int)then V (r.head.at_:Int)else(r.bl.find? λq=>MT q&&(OD L q.1.A.name !=(Z q.1.A.args:Int))).map λq=>(q.1.A.at_:Int):=by
 unfold EG;rw[kh];have e:cE L ((r.head.at_:Int),r.head.name,Z r.head.args)=(OD L r.head.name !=(Z r.head.args:Int)):=rfl;rw[e];cases hh:(OD L r.head.name !=(Z r.head.args:Int))with
 |true=>
  have:OD L r.head.name≠(Z r.head.args:Int):=by simpa using hh
  rw[gY this];rfl
 |false=>
  have:¬OD L r.head.name≠(Z r.head.args:Int):=by simpa using hh
  rw[gV this];simp only
  induction r.bl with
  |nil=>rfl
  |cons q bl ih=>
   rw[jt,kh];cases hq:MT q with
   |false=>
    simp only[kq,gO,if_false];exact ih
   |true=>
    simp only[jq,if_true,ii];rw[kh];have b:cE L ((q.1.A.at_:Int),q.1.A.name,Z q.1.A.args)=(OD L q.1.A.name !=(Z q.1.A.args:Int)):=rfl;rw[b];cases(OD L q.1.A.name !=(Z q.1.A.args:Int))with
    |true=>rfl
    |false=>exact ih
def QH.bound{c:Db}{r:A6}(h:QH c r)(v:UInt8):Ov c.zD (v.toNat:Int)=JM r.bl v:=by
 unfold Ov JM Ge;have b:=h.lits;generalize c.zD=zD at b;generalize r.bl=bl at b
 induction b using F2.ind with
 |nil=>rfl
 |cons h1 _ ih=>
  rw[il,lJ,kW,ih]
  congr 1
  unfold JP Q6;rw[h1.eq];simp only[KF,Ri];split
  .rename_i a;rw[a,lk];simp only[jq];apply Mv;intro t _;exact ez t v
  .rename_i a;simp only[Bool.not_eq_true]at a;rw[a];rfl
def QH.loose{c:Db}{r:A6}(h:QH c r)(t:AE):Ox c (ct t)=Cq r.bl t:=by
 unfold Ox Cq;have e:((ct t).v !=0)= !(t.v==0):=by rw[bne,Xq]
 rw[e];have:(ct t).v=(t.v.toNat:Int):=rfl;rw[this,h.bound];cases(t.v==0)<;>simp
def QH.yZ{c:Db}{r:A6}(h:QH c r):G2 c=if 0<=D5 r.head r.bl then V (D5 r.head r.bl)else Y:=by
 unfold G2 D5;have d:c.zE.any (Ox c)=r.head.args.any (Cq r.bl):=by
  rw[h.zE,lk];apply Mv;intro t _;exact h.loose t
 have b:(c.zD.find? λp=>(AL p.1).any (Ox c)).map (λp=>p.1.place)=(r.bl.find? (I8 r.bl)).map λq=>(q.1.at_:Int):=by
  refine F2.find (λp q a=>⟨?_,?_⟩) h.lits
  .unfold I8;rw[a.zQ,lk];apply Mv;intro t _;exact h.loose t
  .rw[a.eq];rfl
 rw[d,b,h.hp];cases r.head.args.any (Cq r.bl)with
 |true=>
  simp only[if_true];rw[gY (by omega)]
 |false=>
  simp only[gO,if_false];cases r.bl.find? (I8 r.bl)with
  |none=>rfl
  |some q=>
   simp only[jC];rw[gY (by omega)]
def QH.yX{c:Db}{r:A6}(h:QH c r):JS c=(decide (2<Z r.head.args)||r.bl.any BC||decide (3<Z r.bl)):=by
 unfold JS;rw[h.lits.lenX]
 congr 1
 have e:(Bo c).any (λa=>decide (2<lenOf a.tv))=(EG r).any λa=>decide (2<a.2.2):=by
  rw[<-h.atoms,lk];rfl
 rw[e];unfold EG;rw[kW]
 congr 1
 have d:∀q∈r.bl,MT q=K->q.1.A.args=[]:=λq b=>by
  obtain⟨p,_,f⟩:=h.lits.mem q b;exact f.plain
 generalize r.bl=bl at d
 induction bl with
 |nil=>rfl
 |cons q bl ih=>
  rw[jt,kW];have ih:=ih (λq b=>d q (by simp[b]));cases b:MT q with
  |true=>
   simp only[if_true,ii,kW];rw[ih];rfl
  |false=>
   have:=d q (by simp) b;simp only[gO,if_false];rw[ih];unfold BC;rw[this];rfl
def YF{d:mc Db}{e:mc A6}(h:F2 QH d e):Fg e=((d.flatMap Bo).map Ty).map λa=>a.2:=by
 unfold Fg;rw[ld,<-F2.flatMap (f:=λc=>(Bo c).map Ty) (g:=EG) (λa b i=>i.atoms) h|>.symm,ld]
def Vy{a:mc Db}{b:mc A6}(h:F2 QH a b)(x:zA):fA a x=((Fg b).find? (fh x)).map λp=>p.2:=by
 rw[YF h,iX,List.find?_map,Option.map_map];rfl
def bh{d:mc Db}{b:mc A6}(h:F2 QH d b){c:Db}{r:A6}(j:QH c r)(k:∀a∈EG r,a.2∈Fg b)(f:JS c=K):
  fb d (Bo c)=((EG r).find? (cE (Fg b))).map λa=>a.1:=by
 unfold fb;rw[<-j.atoms,List.find?_map,Option.map_map];have e:(Bo c).find? (QY d)=(Bo c).find? (cE (Fg b)∘Ty):=by
  apply M8;intro a i;have m:¬2<lenOf a.tv:=by
   unfold JS at f;simp only[kl]at f;have:=(ju.1 f.1) a i;simpa using this
  have l:(Ty a).2∈Fg b:=k _ (by rw[<-j.atoms];exact it i);have g:((Fg b).find? (fh a.name)).isSome=j1:=by
   rw[List.find?_isSome];exact⟨_,l,by simp[fh,Ty]⟩
  unfold QY cE OD;simp only[Function.comp];rw[Vy h];rw[show(Ty a).2.1=a.name from rfl,show(Ty a).2.2=lenOf a.tv from rfl]
  cases hq:(Fg b).find? (fh a.name)with
  |none=>rw[hq]at g;cases g
  |some p=>
   simp only[jC,m,lD,kp];rw[jl];simp only[jU,iw,bne_iff_ne,ne_eq];omega
 rw[e];rfl
def Zb{f:mc Db}{d:mc A6}(h:F2 QH f d){k:Nat}{c:Db}{r:A6}(e:QH c r)(x:∀a∈EG r,a.2∈Fg d):
  V2 f k c=B1 d k r:=by
 have s:=bh h e x;have w:Z (ep ((f.take (k+1)).flatMap BZ))=Z (Gv (d.take (k+1))):=by
  rw[P7,F2.flatMap (λa b n=>n.names) (h.take (k+1))]
 have v:Z (ep ((f.take (k+1)).flatMap G8))=Z (Dy (d.take (k+1))):=by
  rw[(L6 _).len,F2.flatMap (g:=λr=>(MH r).map Dt) (λa b n=>n.zC) (h.take (k+1)),<-ld,Ub _ (λa b=>WY)]
 unfold V2 B1 VU;rw[e.yX]at s;rw[w,v,e.yX,e.yZ,M5,e.hp,e.at_];generalize Z (Gv (d.take (k+1)))=N;generalize Z (Dy (d.take (k+1)))=T;cases hcond:((decide (12<k+1)||decide (6<N)||decide (6<T))||(decide (2<Z r.head.args)||r.bl.any BC||decide (3<Z r.bl)))with
 |true=>
  rw[gY rfl];by_cases j:12<=k\/3<Z r.bl
  .rw[gY j]
  .rw[gV j];by_cases m:2<Z r.head.args
   .rw[gY m]
   .rw[gV m];by_cases o:r.bl.any BC=j1
    .rw[gY o]
    .rw[gV o];by_cases i:6<N\/6<T
     .rw[gY i]
     .exfalso
      simp only[jx,kw]at hcond;simp only[not_or]at j i;rcases hcond with((h|h)|h)|((h|h)|h)
      .omega
      .exact i.1 h
      .exact i.2 h
      .exact m h
      .exact o h
      .exact j.2 h
 |false=>
  simp only[kl,jY]at hcond;obtain⟨⟨⟨B,C⟩,D⟩,⟨t,p⟩,z⟩:=hcond;rw[s (by simp only[t,p,z,lD,lM]),UL];rw[gV (show¬(K=j1) by simp),gV (show¬(12<=k\/3<Z r.bl) by omega),gV t,gV (show¬(r.bl.any BC=j1) by rw[p];simp),gV (show¬(6<N\/6<T) by omega)];by_cases l:OD (Fg d) r.head.name≠(Z r.head.args:Int)
  .rw[gY l,gY l]
  .rw[gV l,gV l];have u:(r.bl.find? λq=>MT q&&(OD (Fg d) q.1.A.name !=(Z q.1.A.args:Int)))=r.bl.find? (BI d):=by
    apply M8;intro q _;unfold BI;rw[M5]
   rw[u];cases r.bl.find? (BI d)with
   |some q=>rfl
   |none=>
    simp only[Option.map_none];by_cases y:0<=D5 r.head r.bl<;>simp[y]
def WA{f:mc Db}{b:mc A6}(h:F2 QH f b):∀{l:mc Db} {m:mc A6},F2 QH l m->∀(k:Nat),(∀r∈m,r∈b)->N6 f k l=D6 b k m:=by
 intro l m i
 induction i using F2.ind with
 |nil=>intro k _;rfl
 |cons hc _ ih=>
  rename_i c r l m _;intro k e;have d:∀a∈EG r,a.2∈Fg b:=λa g=>iI.2 ⟨r,e r (by simp),it g⟩
  rw[N6,D6,Zb h hc d];cases hs:B1 b k r with
  |some x=>rfl
  |none=>exact ih (k+1) (λr d=>e r (by simp[d]))
def Wr{d:mc Db}{a:mc A6}(h:F2 QH d a){f:zA->zA->Bool}(i:∀x y,f x y=GW a x y):(Oj f d).map (λp=>((6:Int),p))=a.findSome? (Dk a):=by
 unfold Oj;have g:∀{l:mc Db} {m:mc A6},F2 QH l m->(l.findSome? (Kr f)).map (λp=>((6:Int),p))=m.findSome? (Dk a):=by
  intro l m j
  induction j using F2.ind with
  |nil=>rfl
  |cons hc _ ih=>
   rename_i c r l m _;rw[kP,kP];have e:(Kr f c).map (λp=>((6:Int),p))=Dk a r:=by
    unfold Kr Dk;rw[Option.map_map];refine F2.find (λp q b=>⟨?_,?_⟩) hc.lits
    .unfold Ly EE;rw[b.eq,i,hc.hn];simp only[KF,Z8]
    .simp only[Function.comp];rw[b.eq];rfl
   rw[<-e];cases Kr f c with
   |some p=>rfl
   |none=>exact ih
 exact g h
def WF{b:mc Db}{a:mc A6}(h:F2 QH b a){f:zA->zA->Bool}(c:∀x y,f x y=GW a x y):Rb f b=Cp a:=by
 unfold Rb Cp;rw[WA h h 0 (λr d=>d),<-Wr h c];cases D6 a 0 a with
 |some r=>rfl
 |none=>
  simp only;cases Oj f b<;>rfl
def TK(cs:mc A6)(x y:zA):Prop:=∀S:zA->Prop,S x->(∀r∈cs,S r.head.name->∀z∈GV r,S z)->S y
def Jf{a b:zA}(h:(a.toList==b.toList)=j1):a=b:=(FE.eqv a b).1 h
def JZ(y:zA):∀(a:mc Bj) (l:mc zA),y∈a.foldl zF l↔y∈l\/y∈(a.filter MT).map λq=>q.1.A.name
 |[],l=>by simp
 |q::a,l=>by
  rw[iA,JZ y a,jt];unfold zF;cases hq:MT q with
  |false=>simp only[gO,if_false]
  |true=>
   simp only[if_true,R3,ii,gP];constructor
   .rintro ((h|h)|h)
    .exact ly (lx h)
    .exact lx h
    .exact ly (ly h)
   .rintro (h|h|h)
    .exact lx (ly h)
    .exact lx (lx h)
    .exact ly h
def Ku(x y:zA):∀(d:mc A6) (l:mc zA),y∈Ml d l x↔y∈l\/∃r∈d,r.head.name=x/\y∈(r.bl.filter MT).map λq=>q.1.A.name
 |[],l=>by simp[Ml]
 |r::d,l=>by
  have ih:=Ku x y d (Mu x l r);unfold Ml at ih⊢;rw[iA,ih];unfold Mu;cases hr:(r.head.name.toList==x.toList)with
  |true=>
   have g:=Jf hr;simp only[if_true,JZ];constructor
   .rintro ((h|h)|⟨c,a,b⟩)
    .exact lx h
    .exact ly ⟨r,by simp,g,h⟩
    .exact ly ⟨c,by simp[a],b⟩
   .rintro (h|⟨c,a,b,f⟩)
    .exact lx (lx h)
    .rcases gP.1 a with rfl|a
     .exact lx (ly f)
     .exact ly ⟨c,a,b,f⟩
  |false=>
   (have i:r.head.name≠x:=λe=>by rw[e]at hr;simp at hr);simp only[gO,if_false];constructor
   .rintro (h|⟨c,a,b⟩)
    .exact lx h
    .exact ly ⟨c,by simp[a],b⟩
   .rintro (h|⟨c,a,b,f⟩)
    .exact lx h
    .rcases gP.1 a with rfl|a
     .exact absurd b i
     .exact ly ⟨c,a,b,f⟩
def OV{cs:mc A6}{c:A6}(d:c∈cs){l:mc zA}:∀(b:mc Bj) (a:mc zA),(∀q∈b,q∈c.bl)->EA cs l a->EA cs l (b.foldl zF a)
 |[],a,_,h=>h
 |q::b,a,hs,h=>by
  rw[iA];exact OV d b _ (λe f=>hs e (by simp[f])) (h.zF d (hs q (by simp)))
def PW{cs:mc A6}{l:mc zA}(x:zA):∀(a:mc A6) (b:mc zA),(∀c∈a,c∈cs)->EA cs l b->EA cs l (Ml a b x)
 |[],b,_,h=>h
 |c::a,b,hs,h=>by
  unfold Ml;rw[iA];refine PW x a _ (λf e=>hs f (by simp[e])) ?_;unfold Mu;split
  .exact OV (hs c (by simp)) c.bl _ (λq d=>d) h
  .exact h
def PN{cs:mc A6}{s d:zA}:∀(f:Nat) (l:mc zA) (n:Nat),2+Z (DB cs)<=f+n->Bd cs l->n<=Z l->(∀i (h:i<Z l),i<n->l[i]≠d)->
  (∀i (h:i<Z l),i<n->∀r∈cs,r.head.name=l[i]->∀y∈(r.bl.filter MT).map (λq=>q.1.A.name),y∈l)->s∈l->(∀y∈l,TK cs s y)->(JH f cs d l n=j1↔TK cs s d)
 |0,l,n,hf,hb,hn,_,_,_,_=>by
  unfold Bd at hb;omega
 |f+1,l,n,hf,hb,hn,hno,hcl,hfr,hso=>by
  rw[JH];by_cases k:n<Z l
  .rw[dif_pos k];cases he:(l[n].toList==d.toList)with
   |true=>
    have:=Jf he;simp only[if_true,true_iff];rw[<-this];exact hso _ (gL k)
   |false=>
    simp only[gO,if_false];have m:EA cs l (Ml cs l l[n]):=PW l[n] cs l (λc D=>D) ⟨⟨[],by simp⟩,hb⟩;(have w:l[n]≠d:=λe=>by rw[e]at he;simp at he);have E:=m.len.1;refine PN f (Ml cs l l[n]) (n+1) (by omega) m.bd (by omega) ?_ ?_ ((Ku _ _ _ _).2 (lx hfr)) ?_
    .intro i j t;obtain⟨_,e⟩:=m.at (show i<Z l by omega);rw[e];rcases kG (show i<=n by omega)with a|a
     .exact hno i (by omega) a
     .subst a;exact w
    .intro i j t r g b y p;obtain⟨_,e⟩:=m.at (show i<Z l by omega);rw[e]at b;rw[Ku];rcases kG (show i<=n by omega)with a|a
     .exact lx (hcl i (by omega) a r g b y p)
     .subst a;exact ly ⟨r,g,b,p⟩
    .intro y p;rcases(Ku _ _ _ _).1 p with a|⟨r,g,b,x⟩
     .exact hso y a
     .intro S C u;have v:=hso _ (gL k) S C u;rw[<-b]at v;exact u r g v y (by unfold GV;exact iB _ x)
  .rw[dif_neg k];simp only[gO,false_iff];intro B;have t:d∈l:=B (λz=>z∈l) hfr (λr g b z o=>by
    obtain⟨i,j,e⟩:=iF b
    unfold GV at o
    rcases gP.1 o with rfl|o
    .exact b
    .exact hcl i j (by omega) r g e.symm z o)
   obtain⟨i,j,e⟩:=iF t;exact hno i j (by omega) e
def Lo(cs:mc A6)(a b:zA):GW cs a b=j1↔TK cs a b:=by
 unfold GW;refine PN _ [a] 0 (by omega) ?_ (by simp) (λi h e=>by omega) (λi h e=>by omega) (by simp) (λy c S d _=>by simp at c;subst c;exact d);unfold Bd Pa;have:=lH (p:=λx=> !DV [a] x) (l:=DB cs);simp only[gW,iv];omega
structure GC(l:PL):Prop where
 some:Ba l=j1->0<Z l.ts
 le:Z l.ts<=151
 plain:Ba l=K->l.ts=[]
 bare:Ba l=j1->l.l=AD/\l.r=AD
def O0{ms:mc AZ}:∀(k a:Nat) (c:mc AQ) {b:mc AQ} {n:Nat},Z ms-a<=k->Gf ms a c=.ok (b,n)->0<Z b/\Z b<=Z c+(Z ms-a+1)/2
 |k,a,c,b,n,hk,h=>by
  unfold Gf at h;split at h
  .rename_i d;split at h
   .cases h
   .split at h
    .match k with
     |0=>omega
     |k+1=>
      have:=O0 k (a+2) _ (by omega) h;simp only[ib,gW,iv]at this;omega
    .split at h
     .simp only[i8,iE]at h;rw[<-h.1];simp only[ib,gW,iv];omega
     .cases h
  .cases h
def Lz{ms:mc AZ}(c:Z ms<=301){b:Nat}{p:Nat}{s:zA}{ts:mc AQ}{n:Nat}(h:EW ms b=.ok ((p,s,ts),n)):0<Z ts/\Z ts<=151:=by
 unfold EW at h;split at h
 .split at h
  .split at h
   .cases h
   .rename_i a;simp only[i8,iE]at h;have:=O0 _ _ _ (ig _) a;rw[<-h.1.2.2];simp only[iv]at this;omega
  .cases h
 .cases h
def YW{ms:mc AZ}(i:Z ms<=301){m:Nat}{l:aq}{n:Nat}(h:Hl ms m=.ok (l,n)):GC (JG l):=by
 unfold Hl at h;split at h
 .split at h
  .cases h
  .rename_i a j b;obtain⟨p,s,k⟩:=a;have:=Lz i b;simp only[i8,iE]at h;rw[<-h.1];exact⟨λ_=>this.1,this.2,λf=>by simp[JG,Ba]at f,λ_=>⟨rfl,rfl⟩⟩
 .split at h
  .split at h
   .cases h
   .rename_i a j b;obtain⟨p,s,k⟩:=a;have:=Lz i b;simp only[i8,iE]at h;rw[<-h.1];exact⟨λ_=>this.1,this.2,λf=>by simp[JG,Ba]at f,λ_=>⟨rfl,rfl⟩⟩
  .split at h
   .cases h
   .rename_i c j b;simp only[i8,iE]at h;rw[<-h.1];have d:c.sort=2\/c.sort=3\/c.sort=4:=by
     unfold Hi at b;split at b
     .cases b
     .split at b
      .cases b
      .rename_i o d;split at b
       .cases b
       .simp only[i8,iE]at b;rw[<-b.1];unfold MD at d;split at d
        .simp only[gT]at d;exact lx d.symm
        .split at d
         .simp only[gT]at d;exact ly (lx d.symm)
         .split at d
          .simp only[gT]at d;exact ly (ly d.symm)
          .cases d
    have g:Ba (JG (.inr c))=j1->False:=λf=>by
     unfold Ba JG at f;simp only at f;rcases d with e|e|e<;>simp[e]at f
    exact⟨λf=>(g f).elim,by simp[JG],λ_=>rfl,λf=>(g f).elim⟩
def Lx{ms:mc AZ}(f:Z ms<=301):∀(k a:Nat) (c:mc PL) {d:mc PL} {n:Nat},Z ms-a<=k->(∀l∈c,GC l)->EB ms a c=.ok (d,n)->(∀l∈d,GC l)/\Z d<=Z c+(Z ms-a+1)/2
 |k,a,c,d,n,hk,ha,h=>by
  by_cases e:a<Z ms
  .cases hl:Hl ms a with
   |error p=>rw[Hp e hl]at h;cases h
   |ok r=>
    obtain⟨l,i⟩:=r;have m:=IA hl;have j:=YW f hl;have g:∀x∈c++[JG l],GC x:=by
     intro x b;rcases ic.1 b with b|b
     .exact ha x b
     .simp only[gN]at b;subst b;exact j
    rw[MC e hl]at h;split at h
    .match k with
     |0=>omega
     |k+1=>
      have:=Lx f k (i+1) _ (by omega) g h;simp only[ib,gW,iv]at this;exact⟨this.1,by omega⟩
    .simp only[i8,iE]at h;rw[<-h.1];refine⟨g,?_⟩;simp only[ib,gW,iv];omega
  .unfold EB at h;rw[dif_neg e]at h;cases h
structure JR(c:PC):Prop where
 head:0<Z c.zE/\Z c.zE<=151
 body:Z c.body<=151
 lits:∀l∈c.body,GC l
def XR{ms:mc AZ}{n m:Nat}{c a:PC}(h:MP ms n c=.ok (a,m)):a=c:=by
 unfold MP at h;split at h
 .simp only[i8,iE]at h;exact h.1.symm
 .cases h
def Td{ms:mc AZ}(a:Z ms<=301){g n:Nat}{c:PC}(h:Cj ms g=.ok (c,n)):JR c:=by
 unfold Cj at h;split at h
 .cases h
 .rename_i p s i j f;have d:=Lz a f;split at h
  .cases h
  .split at h
   .split at h
    .cases h
    .rename_i l k e;have b:=Lx a _ _ _ (ig _) (by simp) e;rw[XR h];simp only[iv]at b;exact⟨d,by simp only;omega,b.1⟩
   .rw[XR h];exact⟨d,by simp,by simp⟩
def Jk{ms:mc AZ}(g:Z ms<=301):∀(k a:Nat) (d:mc PC) {f:mc PC},Z ms-a<=k->(∀c∈d,JR c)->C1 ms a d=.ok f->(∀c∈f,JR c)/\Z f<=Z d+(Z ms-a)
 |k,a,d,f,hk,ha,h=>by
  by_cases e:a<Z ms
  .cases he:((As ms a).kind==1)with
   |true=>
    rw[Nh e he]at h;simp only[i8]at h;rw[<-h];exact⟨ha,by omega⟩
   |false=>
    cases hc:Cj ms a with
    |error p=>rw[Ka e he hc]at h;cases h
    |ok r=>
     obtain⟨c,n⟩:=r;have j:=GG hc;rw[QB e he hc]at h;have i:∀x∈d++[c],JR x:=by
      intro x b;rcases ic.1 b with b|b
      .exact ha x b
      .simp only[gN]at b;subst b;exact Td g hc
     match k with
     |0=>omega
     |k+1=>
      have:=Jk g k n _ (by omega) i h;simp only[ib,gW,iv]at this;exact⟨this.1,by omega⟩
  .unfold C1 at h;rw[dif_neg e]at h;cases h
def PK{α β:Type}(f:α->mc β)(N:Nat):∀l:mc α,(∀a∈l,Z (f a)<=N)->Z (l.flatMap f)<=Z l*N
 |[],_=>by simp
 |a::l,h=>by
  have c:=PK f N l (λx b=>h x (by simp[b]));have d:=h a (by simp);rw[il,ib,gW,jS];omega
def Qi{c:Db}(h:JR c.pc):fO c/\Z (BZ c)<=152:=by
 have d:Z c.zD<=151:=by have:=h.body;simpa[Db.pc] using this
 have b:∀p∈c.zD,GC p.1:=λp a=>h.lits p.1 (by simp only[Db.pc];exact gX.2 ⟨p,a,rfl⟩)
 have e:0<Z c.zE/\Z c.zE<=151:=h.head;refine⟨⟨⟨⟨e.1,by omega⟩,by omega,λp a=>⟨(b p a).some,by have:=(b p a).le;omega⟩⟩,?_⟩,?_⟩
 .have f:Z (AV c.zD)<=Z c.zD*151:=PK _ 151 _ (λp a=>by
   unfold AL
   split
   .exact(b p a).le
   .simp)
  have:Z c.zD*151<=151*151:=iS _ d;unfold Br;rw[ib];omega
 .unfold BZ FW;have:=jn (λp=>Ba p.1) c.zD;simp only[gW,ie];omega
def NK{cs:mc A6}:∀(l:mc A6) (i:Nat),D6 cs i l=Y->∀k (h:k<Z l),B1 cs (i+k) l[k]=Y
 |[],i,_,k,h=>by simp at h
 |c::l,i,h,k,hk=>by
  rw[D6]at h;cases hc:B1 cs i c with
  |some r=>rw[hc]at h;simp at h
  |none=>
   rw[hc]at h;simp only at h;cases k with
   |zero=>exact hc
   |succ k=>
    have:=NK l (i+1) h k (by simpa using hk);rw[show i+(k+1)=i+1+k by omega];simpa using this
structure CS(cs:mc A6):Prop where
 each:∀k (h:k<Z cs),B1 cs k cs[k]=Y
 strata:cs.findSome? (Dk cs)=Y
def SD{cs:mc A6}(h:Cp cs=(0,0)):CS cs:=by
 unfold Cp at h;cases h1:D6 cs 0 cs with
 |some r=>
  rw[h1]at h;simp only at h;have:∀(l:mc A6) (i:Nat) (r:Int×Int),D6 cs i l=V r->r.1≠0:=by
   intro l
   induction l with
   |nil=>intro i r b;simp[D6]at b
   |cons c l ih=>
    intro i r b;rw[D6]at b;cases a:B1 cs i c with
    |some q=>
     rw[a]at b;simp only[gT]at b;subst b;unfold B1 at a
     repeat (first
      |(split at a)
      |(simp only[gT]at a;subst a;simp)
      |(cases a))
    |none=>
     rw[a]at b;exact ih (i+1) r b
  exact absurd (by rw[h]) (this cs 0 r h1)
 |none=>
  rw[h1]at h;simp only at h;refine⟨λk e=>by have:=NK cs 0 h1 k e;simpa using this,?_⟩;cases h2:cs.findSome? (Dk cs)with
  |none=>rfl
  |some r=>
   rw[h2]at h;simp only at h;obtain⟨c,_,a⟩:=List.exists_of_findSome?_eq_some h2;unfold Dk at a;rw[kF]at a;obtain⟨p,_,d⟩:=a;rw[h]at d;simp at d
def Fj{cs:mc A6}{i:Nat}{c:A6}(h:B1 cs i c=Y):Z c.bl<=3/\Z c.head.args<=2/\c.bl.any BC=K/\Z (Gv (cs.take (i+1)))<=6/\Z (Dy (cs.take (i+1)))<=6/\Dv cs c.head.name=(Z c.head.args:Int)/\c.bl.find? (BI cs)=Y/\D5 c.head c.bl<0:=by
 unfold B1 at h;by_cases b:12<=i\/3<Z c.bl
 .rw[gY b]at h;cases h
 rw[gV b]at h;by_cases f:2<Z c.head.args
 .rw[gY f]at h;cases h
 rw[gV f]at h;by_cases e:c.bl.any BC=j1
 .rw[gY e]at h;cases h
 rw[gV e]at h;by_cases a:6<Z (Gv (cs.take (i+1)))\/6<Z (Dy (cs.take (i+1)))
 .rw[gY a]at h;cases h
 rw[gV a]at h;by_cases d:Dv cs c.head.name≠(Z c.head.args:Int)
 .rw[gY d]at h;cases h
 rw[gV d]at h;cases h6:c.bl.find? (BI cs)with
 |some p=>rw[h6]at h;cases h
 |none=>
  rw[h6]at h;simp only at h;by_cases g:0<=D5 c.head c.bl
  .rw[gY g]at h;cases h
  .simp only[not_or]at b a;exact⟨by omega,by omega,by simpa using e,by omega,by omega,by simpa using d,rfl,by omega⟩
def MW{a:Df}{bl:mc Bj}(h:D5 a bl<0):(∀t∈a.args,Cq bl t=K)/\∀p∈bl,∀t∈A4 p,Cq bl t=K:=by
 unfold D5 at h;cases h1:a.args.any (Cq bl)with
 |true=>rw[h1,gY rfl]at h;omega
 |false=>
  rw[h1,gV (by simp)]at h;cases h2:bl.find? (I8 bl)with
  |some p=>rw[h2]at h;simp only at h;omega
  |none=>
   refine⟨λt b=>?_,λp d t b=>?_⟩
   .have:=(ju.1 h1) t b;simpa using this
   .have c:=(jK.1 h2) p d;unfold I8 at c;(have e:(A4 p).any (Cq bl)=K:=by simpa using c);have:=(ju.1 e) t b;simpa using this
def Gb{c:A6}{t:AE}(h:Cq c.bl t=K):FK (Ak c) t:=by
 unfold Cq at h;rw[Bool.not_eq_false',jx]at h;rcases h with h|h
 .exact lx (by simpa using h)
 .right;unfold JM at h;rw[jg]at h;obtain⟨p,b,a⟩:=h;unfold JP at a;rw[iq]at a;unfold Q6 at a;rw[jg]at a;obtain⟨d,u,e,f⟩:=a;exact⟨p.1,it b,d,u,e,by simpa using f⟩
def CS.zM{cs:mc A6}(h:CS cs)(f:∀c∈cs,∀x∈Ak c,(x.kind==97)=j1->∀t∈x.A.args,BK t):TR cs:=by
 have i:∀c∈cs,D5 c.head c.bl<0:=by
  intro c a;obtain⟨k,d,rfl⟩:=iF a;exact(Fj (h.each k d)).2.2.2.2.2.2.2
 refine⟨f,λc a x m d=>?_,λc a t f=>Gb ((MW (i c a)).1 t f)⟩;obtain⟨p,j,rfl⟩:=gX.1 m;have b:=(MW (i c a)).2 p j;refine⟨λg t l=>?_,λg=>?_⟩
 .refine Gb (b t ?_);unfold A4 MT;rw[g,lm,gY rfl];exact l
 .have n:MT p=K:=by unfold MT;rw[d,g];rfl
  have e:A4 p=[p.1.L,p.1.R]:=by unfold A4;rw[n];rfl
  rw[e]at b;exact⟨Gb (b _ (by simp)),Gb (b _ (by simp))⟩
def CS.strat{cs:mc A6}(h:CS cs):Z3 cs:=by
 rintro x y ⟨c,z,A,l,f,r,e⟩ n;have a:(l.kind==33)=j1:=by
  rcases e with⟨_,e⟩|⟨a,_⟩
  .cases e
  .exact a
 obtain⟨p,k,rfl⟩:=gX.1 f;have i:=(kX.1 h.strata) c z;unfold Dk at i;rw[Option.map_eq_none_iff,jK]at i;have g:=i p k;unfold EE at g;rw[a,jq]at g;apply g;rw[Lo,r,A];intro S s t;refine n S s (λu v b o w=>?_);obtain⟨d,j,rfl,l,f,rfl,e⟩:=o;obtain⟨q,m,rfl⟩:=gX.1 f;refine t d j w _ ?_;unfold GV;refine iB _ (gX.2 ⟨q,ir.2 ⟨m,?_⟩,rfl⟩);unfold MT;rcases e with⟨a,_⟩|⟨a,_⟩
 .rw[a];rfl
 .rw[a,lm]
def CS.levels{cs:mc A6}(h:CS cs):Cn cs (DH cs 6):=by
 by_cases d:Z cs=0
 .have:cs=[]:=kQ d;subst this;exact⟨λc a=>by simp at a,λc a=>by simp at a⟩
 .have b:=(Fj (h.each (Z cs-1) (by omega))).2.2.2.1;rw[show Z cs-1+1=Z cs by omega,j6]at b;refine dj h.strat (Gv cs) (λc a=>?_) b;rw[P7,(Eu _).2];exact iI.2 ⟨c,a,by unfold GV;simp⟩
def Pk(c:PC):mc zA:=c.hn::(c.body.filter Ba).map λl=>l.an
def RD(c:Db):BZ c=Pk c.pc:=by
 unfold BZ Pk FW Db.pc;simp only[List.filter_map,iX];rfl
def Hf(x:Bi):Ba (KF x)=(x.kind==97||x.kind==33):=by
 unfold Ba KF;simp only[Ri,Z8]
def Sb(r:A6):GV r=Pk (cX r.erase):=by
 unfold GV Pk cX A6.erase;simp only[iX,List.filter_map]
 congr 1
 have:(Ba∘(KF∘lW))=MT:=by
  funext q
  simp only[Function.comp,Hf];rfl
 rw[this];rfl
def VX(c:Ck):A6:=⟨c.head,U Y 0 0,U Y 0 0,c.body.map λx=>(x,U Y 0 0),c.at_⟩
def Oh(c:Ck):(VX c).erase=c:=by
 unfold VX A6.erase;simp only[iX];have:(lW∘λx:Bi=>(x,U Y 0 0))=id:=rfl;rw[this,List.map_id]
def fo(s:zA):zA->zA->Bool:=GW ((Ap s (Ae s 0)).1.map VX)
def UU{l:mc Db}{m:mc A6}(h:l.map Db.pc=m.map λr=>cX r.erase)(x y:zA):Ij l x y↔TK m x y:=by
 have k:=F2.of_map h;constructor
 .intro e S j g;refine e S j (λc f d z b=>?_);obtain⟨r,n,a⟩:=k.yS c f;rw[RD,a,<-Sb]at b;have i:c.hn=r.head.name:=congrArg PC.hn a;rw[i]at d;exact g r n d z b
 .intro e S j g;refine e S j (λr o d z b=>?_);obtain⟨c,f,a⟩:=k.mem r o;rw[Sb,<-a,<-RD]at b;have i:c.hn=r.head.name:=congrArg PC.hn a;rw[<-i]at d;exact g c f d z b
def JC(s:zA):match C1 (C4 s) 0 [] with
  | .ok cs=>(Ap s (Ae s 0)).2.2=K/\cs=(Ap s (Ae s 0)).1.map cX/\(∀c∈(Ap s (Ae s 0)).1,c.at_=c.head.at_)
  | .error p=>(Ap s (Ae s 0)).2.2=j1/\p=((Ap s (Ae s 0)).2.1:Int):=by
 have a:At s (C4 s) 0 0:=by
  unfold At;rw[Jn];rfl
 have:=Yu _ 0 (Ae s 0) [] (ig _) a.gap (Bp s 0 (ik _)) (Cb s 0)
 revert this
 cases C1 (C4 s) 0 [] with
 |error p=>exact λh=>h
 |ok cs=>exact λh=>⟨h.1,by simpa using h.2.1,h.2.2⟩
def MJ{s:zA}(n:s.size<=300){cs:mc PC}(e:C1 (C4 s) 0 []=.ok cs){a:mc Db}(d:a.map Db.pc=cs):cM (fo s) a:=by
 have j:=(IL s).1;have h:=Jk (by omega) _ 0 [] (ig _) (by simp) e;have f:=JC s;rw[e]at f;have m:Z a=Z cs:=by rw[<-d];simp
 have g:∀c∈a,JR c.pc:=λc b=>h.1 _ (by rw[<-d];exact gX.2 ⟨c,b,rfl⟩)
 have i:=h.2;simp only[iv]at i;refine⟨λx y=>?_,λc b=>(Qi (g c b)).1,by omega,?_⟩
 .unfold fo;rw[Lo];refine(UU ?_ x y).symm;rw[d,f.2.1,iX];apply iY;intro c _;simp only[Function.comp,Oh]
 .have l:=PK BZ 152 a (λc b=>(Qi (g c b)).2);have k:Z a*152<=301*152:=iS _ (by omega);omega
def cV{c:Db}{r:A6}(h:c.pc=cX r.erase)(l:JR c.pc)(b:Wf c)(m:r.at_=r.head.at_):QH c r:=by
 have g:c.hp=r.head.at_:=congrArg PC.hp h;have n:c.hn=r.head.name:=congrArg PC.hn h;have e:c.zE=r.head.args.map ct:=congrArg PC.zE h;have j:c.zD.map lW=r.bl.map λq=>KF q.1:=by
  have:c.zD.map lW=(r.bl.map lW).map KF:=congrArg PC.body h;rw[this,iX];rfl
 refine⟨g,n,e,?_,by rw[b.head,e];simp,m⟩;refine(F2.of_map j).mono (λp d q o a=>⟨a,?_,λi=>?_⟩)
 .rw[b.lits p d,a];simp[KF]
 .have k:=l.lits p.1 (gX.2 ⟨p,d,rfl⟩);have:Ba p.1=K:=by rw[a,Hf];exact i
  have f:=k.plain this;rw[a]at f;simpa[KF] using f
def It{s:zA}{e at_:Int}{r:Int×Int}(a:E3 s e at_)(b:ED s (fo s) r):r=(e,at_):=by
 unfold E3 at a;unfold ED at b;by_cases l:300<s.size
 .rw[gY l]at a b;rw[b,a.1,a.2]
 .rw[gV l]at a b;have d:=JC s;cases hp:C1 (C4 s) 0 [] with
  |error p=>
   rw[hp]at d b;rw[gY d.1]at a;simp only at b;rw[b,a.1,a.2,d.2]
  |ok cs=>
   rw[hp]at d b;rw[gV (by rw[d.1];simp)]at a;obtain⟨g,i,w⟩:=a;obtain⟨j,f,q,u⟩:=b;have z:=(IL s).1;have o:=Jk (by omega) _ 0 [] (ig _) (by simp) hp;have m:j.map Db.pc=g.map λr=>cX r.erase:=by
    rw[f,d.2.1,<-i,iX];rfl
   have hF:F2 QH j g:=(F2.of_map m).mono (λc k h n v=>cV v (o.1 _ (by rw[<-f];exact gX.2 ⟨c,k,rfl⟩)) (q c k) (by
    have:=d.2.2 h.erase (by rw[<-i];exact gX.2 ⟨h,n,rfl⟩)
    exact this))
   have t:∀x y,fo s x y=GW g x y:=by
    intro x y;rw[jl,(MJ (by omega) hp f).yb,Lo];exact UU m x y
   rw[u,w];exact WF hF t
set_option maxRecDepth 512
theorem Tr(n:Int)(w:l9):Calls prog 16 #[X J n] w λe a=>e=lo (X J n)/\a=w:=by
 go_enter func16,ntmps16;go_wp2;go_ret;exact⟨rfl,rfl⟩
def W8(w:l9)(ab ao:Nat)(len:Nat)(K:Nat->Int)(S T:Nat->zA):Prop:=
 ∀i,i<len->w.cell? ⟨ab,ao+i*3,Y⟩=V (X J (K i))/\w.cell? ⟨ab,ao+i*3+1,Y⟩=V (O (S i))/\w.cell? ⟨ab,ao+i*3+2,Y⟩=V (O (T i))
def Nv{w w':l9}(k:Ac [] w w'){a:Addr}{v:lN}(h:w.cell? a=V v):w'.cell? a=V v:=by
 rw[World.cell?_of_block (k.block a.block (World.block_lt_of_cell? w a h) (by simp))];exact h
def W8.kept{w w':l9}{e c:Nat}{d:Nat}{b:Nat->Int}{S T:Nat->zA}(h:W8 w e c d b S T)(k:Ac [] w w'):W8 w' e c d b S T:=
 λi a=>⟨Nv k (h i a).1,Nv k (h i a).2.1,Nv k (h i a).2.2⟩
def PO{s:zA}(b:s.size<=300){ls:mc PL}(h:Fc (C4 s)=.ok ls):(∀l∈ls,GC l)/\Z ls<=151:=by
 have a:=(IL s).1;unfold Fc at h;cases hb:EB (C4 s) 0 [] with
 |error p=>rw[hb]at h;cases h
 |ok r=>
  obtain⟨c,n⟩:=r;rw[hb]at h;simp only at h;split at h
  .cases h
   have:=Lx (by omega) (Z (C4 s)) 0 [] (by omega) (by intro l a;cases a) hb;exact⟨this.1,by have:=this.2;simp at this;omega⟩
  .cases h
def qR(pcs:mc Db)(zD:mc Ks):Int×Int:=
 match fb pcs (AN zD)with
 |some p=>(4,p)
 |none=>match(zD.find? λp=>(AL p.1).any (CV zD)).map λp=>p.1.place with
  |some p=>(5,p)
  |none=>(0,0)
def ey(s:zA)(pcs:mc Db)(r:Int×Int):Prop:=
 if 300<s.size then r=(1,0)
 else match Fc (C4 s)with
  | .error p=>r=(2,p)
  | .ok ls=>if 3<Z ls then r=(3,0)else∃zD:mc Ks,zD.map lW=ls/\(∀p∈zD,lenOf p.2=Z p.1.ts)/\r=qR pcs zD
def cY(s:zA)(pcs:mc Db)(w:l9)(lv:lN)(n:Nat)(r:Int×Int):Prop:=
 r.1=0->s.size<=300/\∃zD:mc Ks,Fc (C4 s)=.ok (zD.map lW)/\(∀p∈zD,GC p.1)/\Z zD<=3/\n=Z zD/\BP w 0 lv zD/\(∀p∈zD,lenOf p.2=Z p.1.ts)/\qR pcs zD=(0,0)
def BP.len{w:l9}{base:Nat}{v:lN}{c:mc Ks}(h:BP w base v c):∀p∈c,(∃b a,p.2=U b (Z p.1.ts) a)/\lenOf p.2=Z p.1.ts:=by
 intro p d;obtain⟨b,a,e⟩:=Al (h.each p d).1;exact⟨⟨b,a,e⟩,by rw[e];rfl⟩
set_option maxRecDepth 100000
theorem Zp(s:zA)(M:Option Addr)(I:Nat)(d:mc Db)(w:l9)(HC:s.size<=9223372036854775807)(h:C9 w (U M (Z d) I) d)(F:∀c∈d,Z c.zD<=1000)(BT:Z d<=1000):
  Calls prog 51 #[O s,U M (Z d) I] w λe u=>∃(q:Option Addr) (n t:Nat) (r:Int×Int),e=lo (.tuple #[U q n t,X J r.1,X J r.2])/\ey s d r/\cY s d u (U q n t) n r/\Ac [] w u:=by
 have P:=Ab (And.intro h (And.intro F BT));clear h F BT;by_cases CC:300<s.size
 .have j:lO (ey s d (1,0)):=by show ey _ _ _;unfold ey;rw[gY CC]
  go_enter func51,ntmps51;go_wp2;go_ret3;exact⟨Y,0,0,(1,0),rfl,j.out,(λh=>by cases h),me _ _⟩
 .have hs:s.size<=300:=by omega
  have S:=Ab (S4 s w hs);have j:lO (∀r,(match Fc (C4 s)with
    | .error p=>r=(2,p)
    | .ok k=>if 3<Z k then r=(3,0)else∃b:mc Ks,b.map lW=k/\(∀p∈b,lenOf p.2=Z p.1.ts)/\r=qR d b)->ey s d r):=by
   intro r hr;unfold ey;rw[gV CC];exact hr
  have Q:lO (∀k,Fc (C4 s)=.ok k->(∀l∈k,GC l)/\Z k<=151):=λk h=>PO hs h
  go_enter func51,ntmps51;go_wp2_with fail
  refine(Aa S).mono ?_;intro e y G;cases i:Fc (C4 s)with
  |error p=>
   rw[i]at G j;obtain⟨rfl,C⟩:=G;clear S Q;go_wp2;go_ret3;exact⟨Y,0,0,(2,p),rfl,j.out _ rfl,(λh=>by cases h),C⟩
  |ok k=>
   rw[i]at G j;obtain⟨q,t,b,rfl,FP,DT,C⟩:=G;obtain⟨hg,EY⟩:=Aa Q k i;have CL:=Ab i;subst FP;simp only[ie]at EY j⊢;(have A:lO (∀p∈b,GC p.1):=λp g=>hg p.1 (it g));have o:=Ab (DT.base (ik _));have B:=Ab C;clear S Q i hg DT C;rw[ie]at o;by_cases h3:3<Z b
   .have FC:=Ab (Aa j (3,0) (by rw[gY h3]));clear j;go_wp2;go_ret3;exact⟨Y,0,0,(3,0),rfl,FC.out,(λh=>by cases h),Aa B⟩
   ·(have F:Z b<=3:=by omega);have E:lO (ey s d (qR d b)):=Aa j _ (by rw[gV h3];exact⟨b,rfl,λp g=>((Aa o).len p g).2,rfl⟩);have W:=Ab (Lg q t b y (Aa o) (by omega));have D:lO (∀x v f,Ac [] y f->f.ownsRow y.heap.size 187 3 (U x (Z (AN b)) v) (Z (AN b)) ((AN b).flatMap AK)->Calls prog 91 #[U x (Z (AN b)) v,U M (Z d) I] f λe u=>e=lo (BE (fb d (AN b)))/\Ac [] f u):=by
     intro x v f z L;refine KZ x v (AN b) _ M I d f L ?_ (by have:=DO b;omega) ?_ ((Aa P).1.kept ((Aa B).trans z)) (Aa P).2.1 (Aa P).2.2
     .intro a i;unfold AN at i;obtain⟨p,g,rfl⟩:=gX.1 i;obtain⟨⟨FF,FL,e'⟩,_⟩:=(Aa o).len p (ir.1 g).1;exact⟨FF,_,FL,e'⟩
     .intro a i;unfold AN at i;obtain⟨p,g,rfl⟩:=gX.1 i;have h1:=((Aa o).len p (ir.1 g).1).2;have h2:=(Aa A p (ir.1 g).1).le;simp only;omega
    have H:lO (∀f,Ac [] y f->Calls prog 93 #[U q (Z b) t] f λe u=>e=lo (BE ((b.find? λp=>(AL p.1).any (CV b)).map λp=>p.1.place))/\Ac [] f u):=by
     intro f z;have Bx:∀p∈b,Z (AL p.1)<=1000:=λp g=>by
      have:=(Aa A p g).le;unfold AL;split<;>simp<;>omega
     refine Hk q t b f ((Aa o).kept z (by simp)) (by omega) (λp g R=>?_) Bx ?_
     .have:=Aa A p g;exact⟨this.some (by unfold Ba;rw[R];rfl),by have:=this.le;omega⟩
     .have h1:=Sx b;have h2:=Ie Bx;omega
    have m:lO (qR d b=match fb d (AN b)with
     |some p=>(4,p)
     |none=>match(b.find? λp=>(AL p.1).any (CV b)).map λp=>p.1.place with
      |some p=>(5,p)
      |none=>(0,0)):=by show _=_;rfl
    (have A1:lO (qR d b=(0,0)->∀f,Ac [] y f->cY s d f (U q (Z b) t) (Z b) (0,0)):=λR f z _=>⟨hs,b,Aa CL,Aa A,F,rfl,(Aa o).kept z (by simp),λp g=>((Aa o).len p g).2,R⟩);generalize AN b=AT at W D m;generalize fb d AT=AO at D m;generalize(b.find? λp=>(AL p.1).any (CV b)).map (λp=>p.1.place)=UO at H m;generalize qR d b=QR at E m A1;clear j o A CL P;(go_wp2_with fail);refine(Aa W).mono ?_;rintro e w2 ⟨x,v,rfl,L,k2⟩;have B2:=Ab (Aa D x v w2 k2 L);have B0:=Ab k2;clear L k2 W D;(go_wp2_with fail);refine(Aa B2).mono ?_;rintro e w3 ⟨rfl,k3⟩;have N:=Ab ((Aa B0).trans k3);clear k3 B2 B0;cases AO with
    |some p=>
     simp only[BE];have HE:=Ab (Aa m);clear m H;go_wp2;go_ret3;exact⟨Y,0,0,4,p,rfl,by have:=Aa E;rw[Aa HE]at this;exact this,(λh=>by cases h),(Aa B).trans (Aa N)⟩
    |none=>
     simp only[BE];have BS:=Ab (Aa H w3 (Aa N));clear H;(go_wp2_with fail);refine(Aa BS).mono ?_;rintro e w4 ⟨rfl,k4⟩;have T:=Ab ((Aa N).trans k4);clear k4 BS N;cases UO with
     |some p=>
      simp only[BE];go_wp2;go_ret3;exact⟨Y,0,0,5,p,rfl,by have:=Aa E;rw[Aa m]at this;exact this,(λh=>by cases h),(Aa B).trans (Aa T)⟩
     |none=>
      simp only[BE];go_wp2;go_ret3;exact⟨q,Z b,t,0,0,rfl,by have:=Aa E;rw[Aa m]at this;exact this,Aa A1 (Aa m) _ (Aa T),(Aa B).trans (Aa T)⟩
