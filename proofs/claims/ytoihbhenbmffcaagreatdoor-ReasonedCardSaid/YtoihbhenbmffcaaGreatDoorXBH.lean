import Derived.Test.YtoihbhenbmffcaaGreatDoorXBE
import Derived.Test.YtoihbhenbmffcaaGreatDoorXBD
set_option linter.all false
set_option maxHeartbeats 0
open List renaming length->Z,toArray->ml
open Option renaming none->Y,some->V
open Go.Value renaming slice->U,int->X,string->O,pointer->m2,agg->pC,bool->pE
open Bool renaming false->K,true->jj
open Go.IntKind renaming i64->J
open Go.Obj renaming cells->j3
open Go.Ending renaming returned->oa
open Or renaming inl->oi,inr->oj
open Go renaming World->py,Value->p5
open Go.RowKit renaming Hid->p7
open Go.World renaming cell?->p8,ownsRow->p9
open ByteArray renaming empty->pF
namespace Go.Proofs.YtoihbhenbmffcaaGreatDoor
open Go.RowKit Go.Proofs.Tryz
def KM(n:Nat):zA:=if n<10 then⟨#[UInt8.ofNat (48+n)]⟩else⟨#[49,UInt8.ofNat (38+n)]⟩
set_option maxRecDepth 100000
theorem bA(n:Nat)(c:n<12)(w:py):Calls prog 209 #[X J n] w λe a=>e=oa (O (KM n))/\a=w:=by
 have b:n=0\/n=1\/n=2\/n=3\/n=4\/n=5\/n=6\/n=7\/n=8\/n=9\/n=10\/n=11:=by omega
 rcases b with rfl|rfl|rfl|rfl|rfl|rfl|rfl|rfl|rfl|rfl|rfl|rfl;all_goals
  go_enter func209,ntmps209;go_wp2;go_ret;exact⟨by first|rfl|decide|(simp[KM];trace_state),rfl⟩
set_option maxRecDepth 512
theorem Sm(n:Nat)(d:n<12)(w:py):Calls prog 183 #[X J n,X J 10] w λe b=>e=oa (O (KM n))/\b=w:=by
 have c:=Ab (bA n d w);have h:(0:Int)<=(n:Int):=by omega
 have g:(n:Int)<100:=by omega
 go_enter func183,ntmps183;go_wp2_with fail
 refine c.mono ?_;rintro e f ⟨rfl,a⟩;subst a;go_wp2;go_ret;exact⟨rfl,rfl⟩
theorem bG(n:Nat)(d:n<12)(w:py):Calls prog 147 #[X J n] w λe b=>e=oa (O (KM n))/\b=w:=by
 have c:=Ab (Sm n d w);go_enter func147,ntmps147;go_wp2_with fail
 refine c.mono ?_;rintro e f ⟨rfl,a⟩;subst a;go_wp2;go_ret;exact⟨rfl,rfl⟩
theorem eN(n:Nat)(d:n<12)(w:py):Calls prog 99 #[X J n] w λe b=>e=oa (O (KM n))/\b=w:=by
 have c:=Ab (bG n d w);go_enter func99,ntmps99;go_wp2_with fail
 refine c.mono ?_;rintro e f ⟨rfl,a⟩;subst a;go_wp2;go_ret;exact⟨rfl,rfl⟩
end Go.Proofs.YtoihbhenbmffcaaGreatDoor
namespace Go.Proofs.YtoihbhenbmffcaaGreatDoor
open Go.Shelf Go.RowKit
open Go.Proofs.Tryz
variable{w v u:py}{m k n j:Nat}{T:TypeId}{y:pM p5}{s t:zA}{M:pM Nat}{o:Option Addr}
def Hc:zA->pM Dk->zA
 |t,[]=>t
 |t,h::l=>Hc (t++BN h.2.head++⟨#[32]⟩++KM h.1++⟨#[10]⟩) l
def ZC{v:p5}(h:p9 w m T k v n y)(l:KU j s M w)(f:T≠145)(c:T≠5):∀i,v.ownBlock=V i->i∉M:=by
 intro i b a;obtain⟨p,q,o,_,g,d,rfl⟩:=l;rcases kZ.1 a with rfl|a
 .exact As h g f b
 .exact Bc h d c i b (by simpa using a)
structure Sh(w:py)(N:Nat)(ad:Option Addr)(cp:Nat)(sts:pM (Nat×U3))(t:zA)(wz:py):Prop where
 z9:∃M,KU N t M wz
 row:p9 wz 0 176 4 (U ad (Z sts) cp) (Z sts) (sts.flatMap Cc)
 each:∀p∈sts,Ea wz p.2.f/\Z p.2.f.f.zC<=1000/\∃a n c,p.2.n=U a n c
 kept:Ac [] w wz
def Sh.calm{b:pM (Nat×U3)}(h:Sh w n o m b t v)(k:Ac [] v u):Sh w n o m b t u:=by
 obtain⟨M,c⟩:=h.z9;exact⟨⟨M,c.kept k⟩,Ad h.row k,λp a=>⟨(h.each p a).1.kept k,(h.each p a).2⟩,h.kept.trans k⟩
def Sh.step{w c e:py}{g:pM (Nat×U3)}(u:w.heap.size=n)(h:Sh w n o m g t c)(d:KU n t M c)(j:dv n s M c e):Sh w n o m g s e:=by
 obtain⟨k,l,b,r⟩:=j;exact⟨⟨k,l⟩,Ai h.row b (ZC h.row d (by decide) (by decide)),λp a=>⟨Ai (v:=p.2.f.tv) (h.each p a).1 b (ZC (v:=p.2.f.tv) (h.each p a).1 d (by decide) (by decide)),(h.each p a).2⟩,h.kept.trans' b (λi q=>oj (by have:=(d.lt i q).1;omega))⟩
set_option maxRecDepth 100000
theorem YL(IS:Option Addr)(H5:Nat)(B2:pM Dy)(q:pM A4)(F:Af)(fp:Fa)(w:py)(hP:DE w (U IS (Z B2) H5) B2)(hB:M9 B2 q)(hf:fp.f=BU F)(hc:AL F)(HV:Ea w fp)(MB:Z fp.f.zC<=1000)
  (hz:∀f,D0 q f->f.name.size<=1000000/\∀x∈(BU f).zC,x.size<=1000000) (JJ:∀f,D0 q f->f.args≠[]):
  Calls prog 54 #[U IS (Z B2) H5,pC (ml (A6 fp))] w λr G=>∃(s:pM Af) (a:pM Dk) (L:zA->Nat) (n:Nat),r=oa (O (Hc pF (Ij a F)))/\Zk q a s/\CR q L/\GF q L n s/\(∀c∈q,L c.head.name<n)/\Ac [] w G:=by
 obtain⟨⟨fn,A2⟩,TK⟩:=fp;obtain⟨EX,ES,e⟩:=Ak HV;simp only at e hf MB;subst e;simp only[A6];have HJ:=Ab ((pO [] w).alloc (j3 [O fn,U EX (Z A2) ES].toArray 104));have FL:=Ab (pP w [O fn,U EX (Z A2) ES] 104);obtain⟨C,FF⟩:=pN (w.alloc (j3 [O fn,U EX (Z A2) ES].toArray 104));obtain⟨FB,FW⟩:=pN w.heap.size;have TH:=Ab FW;have S1:=Ab FF;rw[FF]at HJ FL;rw[FW]at FL;obtain⟨N,hN⟩:=pN C.heap.size;have HN:=Ab hN;have VL:p7 (FB+1=N):=by show _=_;rw[<-hN,<-FF,lT,FW]
 have EM:=Ab ((pO [] C).alloc (j3 #[m2 Y,U Y 0 0] 145));have HS:=Ab (KU.new C);rw[hN]at HS;have HF:=Ab (fh IS H5 B2 q F ⟨⟨fn,A2⟩,U EX (Z A2) ES⟩ (C.alloc (j3 #[m2 Y,U Y 0 0] 145)) (hP.kept (HJ.trans EM)) hB hf hc (HV.kept (HJ.trans EM)) MB);simp only[A6]at HF;have HA:=Ab (FL.kept EM);have KS:p7 (∀(s:pM Af) (a:pM Dk) (L:zA->Nat) (n:Nat),Zk q a s->GF q L n s->∀h∈Ij a F,h.1<12/\AL h.2.head/\h.2.head.args≠[]/\h.2.head.name.size<=1000000/\∀x∈(BU h.2.head).zC,x.size<=1000000):=by
  intro s a L n hr hi h hh;have hw:=hB.zb hi;have hp:=(hr.proof hw.2.1 hc).1;have AB:=hp.zW h hh;have H7:=hi.zW _ AB;obtain⟨A,B,e⟩:=List.append_of_mem hh;obtain⟨D,_⟩:=hp.each A h B e;have h2:=hB.pass.order.small.1;exact⟨by omega,hw.2.1 _ AB,JJ _ H7,(hz _ H7).1,(hz _ H7).2⟩
 have NS:p7 (∀(s:pM Af) (a:pM Dk) (L:zA->Nat) (n:Nat),Zk q a s->GF q L n s->Z (Ij a F)<=7000):=by
  intro s a L n hr hi;have hw:=(hB.zb hi).2.2;have D:=Ia (a.map λh=>h.2.head) s hr.nd (λf hf=>(hr.mem f).2 hf);have h2:=QW a.reverse ([],[F]);rw[QU]at h2;simp only[mw,List.length_reverse,lO,lm]at D h2;show Z (J5 a.reverse [F])<=7000;omega
 clear hP hB hf hc HV hz JJ hN FF FW;go_enter func54,ntmps54;refine pL (λz j=>?_);go_wp2;refine j _ _ ?_;clear j z;change Code.wp _ _ _ _ (w.alloc (j3 [O fn,U EX (Z A2) ES].toArray 104));rw[Aa S1,Aa TH];refine pL (λz j=>?_);go_wp2;refine j _ _ ?_;clear j z;rw[Aa HN];generalize C.alloc (j3 #[m2 Y,U Y 0 0] 145)=w2 at EM HS HF HA⊢;have b0:=HA.cell 0;have b1:=HA.cell 1;simp at b0 b1;refine pL (λz j=>?_);go_wp2_with fail
 refine HF.mono ?_;rintro _ w3 ⟨ad,cp,v,s,a,L,n,rfl,NA,K7,H1,HO,N0,AB,N2,k3⟩;have M1:p7 (Sh C N ad cp v pF w3):=⟨⟨_,HS.kept k3⟩,NA,K7,EM.trans k3⟩;have RO:p7 (Zk q a s/\CR q L/\GF q L n s/\(∀c∈q,L c.head.name<n)):=⟨HO,N0,AB,N2⟩;have Os:=Ab (KS s a L n HO AB);have RB:=Ab H1;have LS:Z v=Z (Ij a F):=by have h:=congrArg List.length H1;simpa using h
 have NB:=Ab LS;have W0:Z v<=7000:=by have:=Aa NS s a L n HO AB;omega
 obtain⟨Q,HR⟩:=pN (Hc pF (Ij a F));have LL:p7 (Hc pF ((Ij a F).drop 0)=Q):=HR;have N4:=Ab HR;clear HF NA K7 H1 HO N0 AB N2 k3 b0 b1 HA FL KS NS LS HR;go_wp2_with fail
 go_loopg [12] (Z v) (λgk i wr=>∃(k:Nat) (t:zA),i=X J k/\k<=Z v/\gk=Z v-k/\t.size<=k*2000000010/\p7 (Hc t ((Ij a F).drop k)=Q)/\p7 (Sh C N ad cp v t wr))
 case atStart=>exact⟨0,pF,rfl,by omega,rfl,by simp,LL,M1⟩
 case round=>
  clear LL M1;obtain⟨k,t,rfl,hk,NN,Wa,HC,R⟩:=hrel;have HG:=Ab NN;clear NN;by_cases Go:k<Z v
  ·(have HT:k<Z (Ij a F):=by have:=Aa NB;omega);obtain⟨g,hg,a0,a1,W,a3⟩:=JT R.row k Go;subst hg;have E:=congrArg (λl=>l[k]?) RB;simp only[mA,lc Go,lc HT,m0,ld,lZ]at E;obtain⟨o1,o2,o3,o4,o5⟩:=Os _ (kV HT);have Ix:Hc t ((Ij a F).drop k)=Hc (t++BN (Ij a F)[k].2.head++⟨#[32]⟩++KM (Ij a F)[k].1++⟨#[10]⟩) ((Ij a F).drop (k+1)):=by
    rw[lD HT,Hc]
   have BT:=R.each _ (kV Go);obtain⟨H,hH⟩:=pN ((Ij a F)[k]);rw[hH]at E o1 o2 o3 o4 o5 Ix;obtain⟨⟨OB,⟨⟨T,P⟩,TK⟩,nv,WS⟩,IA⟩:∃p,v[k]=p:=⟨_,rfl⟩;rw[IA]at a0 a1 W a3 E BT;simp only at a0 a1 W a3 E BT;obtain⟨pa,pc,e1⟩:=Ak BT.1;simp only at e1;subst e1;obtain⟨TL,AT⟩:=E;have S0:OB=H.1:=TL;subst S0;(have IJ:Fq ⟨T,P⟩=BN H.2.head:=by rw[AT,O7 o2 o3]);obtain⟨qa,qn,qc,Op⟩:=BT.2.2;subst Op;have U1:k*2000000010<=7000*2000000010:=mh _ (by omega);have RI:(BN H.2.head).size<=2000000000:=by
    rw[<-IJ];exact Q2 BT.2.1 (by rw[AT];exact o5) (by rw[AT];exact o4)
   have SJ:(KM H.1).size<=2:=by
    unfold KM;split
    .show 1<=2;omega
    .show 2<=2;omega
   have H0:p7 (∀o,Sh C N (V ⟨g,0,Y⟩) cp v t o->Calls prog 76 #[pC #[O T,U pa (Z P) pc]] o λe G=>e=oa (O (BN H.2.head))/\Ac [] o G):=by
    intro o hz;have D:=(hz.each _ (kV Go));rw[IA]at D;have h2:=Lc ⟨⟨T,P⟩,U pa (Z P) pc⟩ o D.1 D.2.1 (by rw[AT];exact o5) (by rw[AT];exact o4);simp only[A6,IJ]at h2;exact h2
   have M6:p7 (∀(y u:zA) o,Sh C N (V ⟨g,0,Y⟩) cp v u o->u.size+y.size<=140737488355328->Calls prog 75 #[m2 (V ⟨N,0,Y⟩),O y] o λe G=>e=oa (.tuple #[X J y.size,.nilIface])/\Sh C N (V ⟨g,0,Y⟩) cp v (u++y) G/\∀b S,AF o b S 176->AF G b S 176):=by
    intro y u o h hl;obtain⟨M,D⟩:=h.z9;refine(Xd N u M y o D hl).mono ?_;rintro e G ⟨rfl,hW⟩;refine⟨rfl,h.step HN D hW,λb S I=>?_⟩;obtain⟨_,_,hk,_⟩:=hW;refine I.kept hk (λE=>?_);obtain⟨p,TS,ST,_,AH,HP,rfl⟩:=D;rcases kZ.1 E with rfl|E
    .unfold AF at I AH;rw[I]at AH;simp at AH
    .exact As HP I (by decide) (by simpa using E)
   have K2:p7 (∀(d:UInt8) (u:zA) o,Sh C N (V ⟨g,0,Y⟩) cp v u o->u.size+1<=140737488355328->Calls prog 77 #[m2 (V ⟨N,0,Y⟩),X .u8 (d.toNat:Int)] o λe G=>e=oa .nilIface/\Sh C N (V ⟨g,0,Y⟩) cp v (u++⟨#[d]⟩) G/\∀b S,AF o b S 176->AF G b S 176):=by
    intro d u o h hl;obtain⟨M,D⟩:=h.z9;refine(Ur N u M d o D hl).mono ?_;rintro e G ⟨rfl,hW⟩;refine⟨rfl,h.step HN D hW,λb S I=>?_⟩;obtain⟨_,_,hk,_⟩:=hW;refine I.kept hk (λE=>?_);obtain⟨p,TS,ST,_,AH,HP,rfl⟩:=D;rcases kZ.1 E with rfl|E
    .unfold AF at I AH;rw[I]at AH;simp at AH
    .exact As HP I (by decide) (by simpa using E)
   have HH:=Ab (eN H.1 o1);have HZ:p7 (Hc (t++BN H.2.head++⟨#[32]⟩++KM H.1++⟨#[10]⟩) ((Ij a F).drop (k+1))=Q):=Ix.symm.trans HC;generalize BN H.2.head=FT at HZ H0 RI;generalize KM H.1=DT at HZ HH SJ;generalize H.1=HN1 at W HH;(have VS:(0:Int)<=(k:Int):=by omega);(have UO:(k:Int)<(Z v:Int):=by omega);have VR:(⟨#[32]⟩:zA).size=1:=rfl;have U0:(⟨#[10]⟩:zA).size=1:=rfl;have AO:=Ab (pP wr [O T,U pa (Z P) pc,X J (HN1:Nat),U qa qn qc] 176);have FO:=Ab (R.calm ((pO [] wr).alloc (j3 [O T,U pa (Z P) pc,X J (HN1:Nat),U qa qn qc].toArray 176)));clear AT IJ o1 o2 o3 o4 o5 BT hH IA Ix HC R;refine pL (λz j=>?_);go_wp2;refine j _ _ ?_;clear j z;refine pL (λz j=>?_);go_wp2;refine j _ _ ?_;clear j z;refine pL (λK5 Nq=>?_);refine wp_block ?_;refine pL (λz j=>?_);go_wp2;refine j _ _ ?_;clear j z;clear a0 a1 W a3;change Code.wp _ _ _ _ (wr.alloc (j3 [O T,U pa (Z P) pc,X J (HN1:Nat),U qa qn qc].toArray 176));generalize wr.alloc (j3 [O T,U pa (Z P) pc,X J (HN1:Nat),U qa qn qc].toArray 176)=wa at AO FO⊢;obtain⟨BS,MY⟩:=pN wr.heap.size;rw[MY]at AO⊢;clear MY;have a0:=AO.cell 0;have a1:=AO.cell 1;simp at a0 a1;refine pL (λz j=>?_);(go_wp2_with fail);refine(H0 wa FO).mono ?_;rintro _ wb ⟨rfl,kb⟩;have NM:=Ab (M6 FT t wb (FO.calm kb) (by omega));have K3:=Ab (AO.kept kb);clear kb a0 a1 AO FO H0;(go_wp2_with fail);refine NM.mono ?_;rintro _ wc ⟨rfl,K1,KA⟩;have LE:=Ab (KA _ _ K3);have NL:=Ab (K2 32 (t++FT) wc K1 (by rw[lh];omega));clear NM K1 KA K3;go_wp2;refine j _ _ ?_;clear j z;refine pL (λz j=>?_);(go_wp2_with fail);refine NL.mono ?_;rintro _ wd ⟨rfl,KB,K9⟩;have NY:=Ab (K9 _ _ LE);have K4:=Ab KB;have W:=NY.cell 2;simp at W;clear NL KB K9 LE;go_wp2;refine j _ _ ?_;clear j z;refine pL (λz j=>?_);(go_wp2_with fail);refine(HH wd).mono ?_;rintro _ we ⟨rfl,rfl⟩;have M2:=Ab (Aa M6 DT (t++FT++⟨#[32]⟩) we (Aa K4) (by rw[lh,lh];omega));clear HH K4;(go_wp2_with fail);refine M2.mono ?_;rintro _ wf ⟨rfl,Nj,-⟩;have JA:=Ab (K2 10 (t++FT++⟨#[32]⟩++DT) wf Nj (by rw[lh,lh,lh];omega));clear M2 Nj W NY;go_wp2;refine j _ _ ?_;clear j z;(go_wp2_with fail);refine JA.mono ?_;rintro _ wg ⟨rfl,K8,-⟩;have TV:=Ab K8;clear JA K8;go_wp2;refine Nq _ _ ?_;clear Nq;go_wp2
   go_roundg (Z v-(k+1))
   case measure=>have:=Aa HG;omega
   case rel=>exact⟨k+1,_,by go_num,by omega,rfl,by rw[lh,lh,lh,lh];omega,HZ,TV⟩
  .have M3:t=Q:=by
    have h:=Aa HC;rw[lS (by have:=Aa NB;omega)]at h;exact h
   obtain⟨M,H8⟩:=R.z9;rw[M3]at H8;have MN:=Ab (WR N Q M wr H8);have NX:=Ab R.kept;clear M3 H8 HC R;(go_wp2_with fail);refine j _ _ ?_;clear j;(go_wp2_with fail);refine MN.mono ?_;rintro _ w9 ⟨rfl,M0,-⟩;have SP:p7 (Ac [] w w9):=by
    have h:=M0;rw[<-Aa HN]at h;exact HJ.trans (Ic NX h)
   clear MN M0 NX;go_wp2;go_ret;obtain⟨l1,l2,l3,l4⟩:=RO;exact⟨s,a,L,n,by rw[Aa N4];rfl,l1,l2,l3,l4,SP⟩
end Go.Proofs.YtoihbhenbmffcaaGreatDoor
namespace Go.Proofs.YtoihbhenbmffcaaGreatDoor
open Go.RowKit Go.Proofs.Tryz
variable{n k i j m:Nat}{g:UInt8}{s t:zA}{I:Int}{c:pM A4}{f:pM Af}{o:Option Addr}{w:py}
def ZI:∀(l:pM Dk) (t:zA),t.size<=(Hc t l).size
 |[],t=>lC _
 |h::l,t=>by
  rw[Hc];refine mp ?_ (ZI l _);rw[lh,lh,lh,lh];omega
def gP(h:Dk)(l:pM Dk)(t:zA):(Hc t (h::l)).size≠0:=by
 rw[Hc];have:=ZI l (t++BN h.2.head++⟨#[32]⟩++KM h.1++⟨#[10]⟩);rw[lh]at this;have a:(⟨#[10]⟩:zA).size=1:=rfl;omega
structure fX(s:zA)(rcs:pM A4)(u:pM Af)(hs:pM Dk)(L:zA->Nat)(n:Nat):Prop where
 erase:rcs.map A4.erase=(An s (Ae s 0)).1
 zK:(An s (Ae s 0)).2.2=K
 pass:Cf rcs
 rea:Zk rcs hs u
 zR:CR rcs L
 inv:GF rcs L n u
 top:∀c∈rcs,L c.head.name<n
def Tq(s q t:zA)(r:Int×Int):Prop:=
 ∃r1,Ex s (iY s) r1/\((r1.1≠0/\r=r1/\t=pF)\/(r1.1=0/\((GH q=K/\r=(2,0)/\t=pF)\/
  (GH q=jj/\AL (DV q)/\∃rcs u hs L n,fX s rcs u hs L n/\((Ij hs (DV q)=[]/\r=(7,0)/\t=pF)\/(Ij hs (DV q)≠[]/\r=(0,0)/\t=Hc pF (Ij hs (DV q))))))))
set_option maxRecDepth 100000
theorem N5(s q:zA)(w:py)(FP:s.size<=9223372036854775807)(Ha:q.size<=9223372036854775807):
  Calls prog 27 #[O s,O q] w λe A=>∃(t:zA) (r:Int×Int),e=oa (.tuple #[O t,X J r.1,X J r.2])/\Tq s q t r/\Ac [] w A:=by
 have CC:=Ab (LY s (iY s) w FP (λx cs v S F=>Me x v F));go_enter func27,ntmps27;go_wp2_with fail
 refine CC.mono ?_;rintro _ w1 ⟨ad,n,cp,⟨o,z⟩,rfl,E0,B9,k1⟩;have j:=Ab E0;have R:=Ab B9;have EK:=Ab k1;clear CC E0 B9 k1;by_cases D:o=0
 .subst D;obtain⟨x,cs,S,v,F,rfl,hP⟩:=R rfl;obtain⟨hr,M,N,hB⟩:=OY x v F hP j rfl;obtain rfl:z=0:=(Prod.mk.inj hr).2;have T:(An s (Ae s 0)).2.2=K:=by
   have EX:=Kq s;rw[v]at EX;exact EX.1
  have Go:((0:Int) !=0)=K:=rfl;have A2:=Ab (UV q w1 Ha);have E:=Ab (jp q);have P:p7 (GH q=K->Tq s q pF (2,0)):=λh=>⟨(0,0),j,oj ⟨rfl,oi ⟨h,rfl,rfl⟩⟩⟩
  have A1:p7 (GH q=jj->∀(p:Fa) (i:py),p.f=BU (DV q)->Ea i p->Z p.f.zC<=1000->Ac [] w1 i->Calls prog 54 #[U ad (Z S) cp,pC (ml (A6 p))] i λe A=>∃t:zA,e=oa (O t)/\(t.size=0->Tq s q pF (7,0))/\(t.size≠0->Tq s q t (0,0))/\Ac [] i A):=by
   intro h1 p i k m C hk;obtain⟨_,BS,_⟩:=Lw h1;refine(YL ad cp S M (DV q) p i (hP.kept hk) hB k BS m C (λf hf=>?_) (λf hf=>?_)).mono ?_
   .have h:=Ra x N (u:=[f]) (fs:=[⟨BU f,pE K⟩]) (λg hg=>by simp at hg;rw[hg];exact hf) rfl ⟨BU f,pE K⟩ (by simp);exact h
   .obtain⟨c,hc,_,e⟩:=hf.zb;intro e2;rw[e2]at e;have:=R2 T N c hc;exact this (m4.1 e.symm)
   .rintro e A ⟨u,I,L,n,rfl,g1,g2,g3,g4,g5⟩;have B2:fX s M u I L n:=⟨N,T,hB.pass,g1,g2,g3,g4⟩;refine⟨_,rfl,λb=>⟨(0,0),j,oj ⟨rfl,oj ⟨h1,BS,M,u,I,L,n,B2,oi ⟨?_,rfl,rfl⟩⟩⟩⟩,λb=>⟨(0,0),j,oj ⟨rfl,oj ⟨h1,BS,M,u,I,L,n,B2,oj ⟨?_,rfl,rfl⟩⟩⟩⟩,g5⟩
    .cases d:Ij I (DV q)with
     |nil=>rfl
     |cons a l=>rw[d]at b;exact absurd b (gP a l _)
    .intro d;rw[d]at b;exact b rfl
  clear x v F hP hr N hB R T j;go_wp2_with fail
  refine A2.mono ?_;rintro _ i ⟨p,rfl,k,m,C,G⟩;have EM:=Ab (EK.trans G);obtain⟨⟨pn,B⟩,HK⟩:=p;obtain⟨AO,Ax,e⟩:=Ak m;simp only at e C k;subst e;cases ho:GH q with
  |false=>
   have y:=Ab (P ho);(have d:fS q=Y:=by rw[Aa E,ho,li (by simp)]);rw[d];simp only[Option.isSome_none,A6];clear A2 E P A1 k m G d ho;(go_wp2_with fail);go_ret3;exact⟨pF,(2,0),rfl,y,EM.alloc _⟩
  |true=>
   (have d:fS q=V (BU (DV q)):=by rw[Aa E,ho,ln rfl]);have DT:=k _ d;rw[d];simp only[Option.isSome_some,A6];have H:=Ab (A1 ho ⟨⟨pn,B⟩,U AO (Z B) Ax⟩ (i.alloc (j3 [O pn,U AO (Z B) Ax].toArray 104)) DT (Ea.kept m ((pO [] i).alloc _)) C (G.alloc _));have HD:=Ab (EM.alloc (j3 [O pn,U AO (Z B) Ax].toArray 104));simp only[A6]at H;clear A2 E P A1 k m G d ho DT;(go_wp2_with fail);refine H.mono ?_;rintro _ w3 ⟨t,rfl,Q,AH,W⟩;have FA:=Ab (HD.trans W);by_cases b:t.size=0
   .have y:=Ab (Q b);have ht:t=⟨#[]⟩:=toList_inj (by rw[AY]at b;rw[m4.1 b,lN]);subst ht;clear H Q AH W b;(go_wp2_with fail);go_ret3;exact⟨pF,(7,0),rfl,y,FA⟩
   .have y:=Ab (AH b);have hb:(t.toList==([]:pM UInt8))=K:=by
     cases d:t.toList with
     |nil=>rw[AY,d]at b;exact absurd rfl b
     |cons a l=>rfl
    have HJ:(t.toList==(⟨#[]⟩:zA).toList)=K:=by
     rw[show(⟨#[]⟩:zA).toList=[] from by rw[lN]]
     exact hb
    clear H Q AH W b;(go_wp2_with fail);go_ret3;exact⟨t,(0,0),rfl,y,FA⟩
 .have Go:(o !=0)=jj:=by simp[D]
  have HF:p7 (Tq s q pF (o,z)):=⟨(o,z),j,oi ⟨D,rfl,rfl⟩⟩;clear D R j;go_wp2_with fail
  go_ret3;exact⟨pF,(o,z),rfl,HF,EK⟩
def Ye(h:Dk):pM UInt8:=(BN h.2.head).toList++32::((KM h.1).toList++[10])
def PA(l:pM Dk):pM UInt8:=l.flatMap Ye
def T3:∀(l:pM Dk) (t:zA),(Hc t l).toList=t.toList++PA l
 |[],t=>by simp[Hc,PA]
 |h::l,t=>by
  rw[Hc,T3 l,Cw,Cw,Cw,Cw];have b:(⟨#[32]⟩:zA).toList=[32]:=by rw[lN]
  have a:(⟨#[10]⟩:zA).toList=[10]:=by rw[lN]
  rw[b,a];unfold PA Ye;simp
def Xw(a:n<12):(n<10/\(KM n).toList=[UInt8.ofNat (48+n)])\/(10<=n/\(KM n).toList=[49,UInt8.ofNat (38+n)]):=by
 unfold KM;by_cases h:n<10
 .rw[ln h];exact oi ⟨h,by rw[lN]⟩
 .rw[li h];exact oj ⟨by omega,by rw[lN]⟩
def RF(h:AD g=jj):g≠10:=by rintro rfl;exact absurd h (by decide)
def WU(h:Ap g=jj):g≠10:=by rintro rfl;exact absurd h (by decide)
def ZT:∀(b:pM zA),(∀x∈b,G9 x)->∀c∈Gd b,c≠10
 |[],_,c,a=>by simp[Gd]at a
 |[x],h,c,a=>by
  rcases h x (by simp)with hw|hn
  .exact RF (hw.2.2 c a)
  .exact WU (hn.2.2.1 c a)
 |x::y::l,h,c,a=>by
  rw[Gd,lw,kZ]at a;rcases a with a|rfl|a
  .rcases h x (by simp)with hw|hn
   .exact RF (hw.2.2 c a)
   .exact WU (hn.2.2.1 c a)
  .decide
  .exact ZT (y::l) (λz d=>h z (by simp at d⊢;exact oj d)) c a
def WH{f:Af}(h:Io f):∀c∈(BN f).toList,c≠10:=by
 rw[J9 h.ne];intro c a;simp only[lw,kZ,mr,or_false]at a;rcases a with a|rfl|a|rfl|rfl
 .exact RF (h.name.2.2 c a)
 .decide
 .exact ZT _ h.args c a
 .decide
 .decide
def G9.len(h:G9 s):Z s.toList<=4:=by
 rcases h with h|h
 .exact h.2.1
 .have:=h.2.1;omega
def J7{f:Af}(h:Io f)(a:Z f.args<=2):Z (BN f).toList<=300:=by
 rw[J9 h.ne];have b:=h.name.2.1;have c:Z (Gd f.args)<=9:=by
  match hf:f.args with
  |[]=>simp[Gd]
  |[x]=>have:=(h.args x (by rw[hf];simp)).len;simp only[Gd];omega
  |[x,y]=>
   have:=(h.args x (by rw[hf];simp)).len;have:=(h.args y (by rw[hf];simp)).len;simp only[Gd,lu,lj];omega
  |x::y::z::l=>rw[hf]at a;simp at a
 simp only[lu,lj,lO];omega
def RK{f:Af}(h:Io f)(d:Z f.args<=2):GH (BN f)=jj/\DV (BN f)=f:=by
 have b:=Wv h;have e:(BN f).size<=300:=by rw[AY];exact J7 h d
 have c:KT (BN f)=jj:=by
  unfold KT;rw[b];simp only[lm,lO];rw[mG (by omega),mG (by omega),mG (by omega),mG (by omega)];rfl
 have a:DV (BN f)=f:=by
  unfold DV;rw[ln c,b];unfold Aq;simp only[mq];have:(AI Bk∘AK.mk 0)=id:=by funext x;rfl
  rw[this,List.map_id]
 refine⟨?_,a⟩;unfold GH;rw[c,a];simp
structure fZ where
 f:Bv
 n:Nat
def PP(s:fZ):pM p5:=[O s.f.f.name,s.f.av,X J s.n]
theorem Tryz.info110:(Tryz.prog.info? 110).map (λi=>(i.zero,i.size,i.bytes))=V (V (pC #[O ⟨#[]⟩,U Y 0 0,X J 0]),3,48):=by kernel_rfl
structure jX(s:zA)(f d I n:Nat)(F:zA)(rest:pM UInt8):Prop where
 at_:I=f+1+d
 lt:I<s.size
 nl:∀j (hj:j<s.size),j<I->s[j].toNat≠10
 end_:s[I].toNat=10
 sp:∀(hj:f<s.size),s[f].toNat=32
 fact:s.extract 0 f=F
 rest:(s.extract (I+1) s.size).toList=rest
 dig:(d=1/\n<10/\∀(hj:f+1<s.size),s[f+1].toNat=48+n)\/(d=2/\10<=n/\n<12/\(∀(hj:f+1<s.size),s[f+1].toNat=49)/\∀(hj:f+2<s.size),s[f+2].toNat=38+n)
def ip{h:Dk}{b:pM UInt8}(t:s.toList=Ye h++b)(z:Io h.2.head)(u:h.1<12):jX s (Z (BN h.2.head).toList) (Z (KM h.1).toList) (Z (BN h.2.head).toList+1+Z (KM h.1).toList) h.1 (BN h.2.head) b:=by
 have g:=O5 s;rw[t]at g;unfold Ye at g;obtain⟨A,p⟩:=pN (BN h.2.head).toList;obtain⟨D,o⟩:=pN (KM h.1).toList;have q:=WH z;have B:FU s 0 (BN h.2.head).toList:=by
  rw[mo]at g;exact g.left
 have m:=EO B;rw[me]at m;have G:s.size=Z A+1+Z D+1+Z b:=by
  rw[AY,t];unfold Ye;rw[p,o];simp;omega
 rw[p]at g q m⊢;have n:=Xw u;rw[o]at g n⊢;have l:∀j (f:j<s.size) (r:j<Z ((A++32::(D++[10]))++b)),s[j]=((A++32::(D++[10]))++b)[j]:=λj f r=>by
  have:=g.2 j r (by omega);simpa using this
 have w:∀c∈D,c.toNat≠10:=by
  intro c k;rcases n with⟨d,a⟩|⟨d,a⟩
  .rw[a,kY]at k;rw[k,UInt8.toNat_ofNat'];omega
  .rw[a]at k;rcases kZ.1 k with rfl|k
   .decide
   .rw[kY]at k;rw[k,UInt8.toNat_ofNat'];omega
 refine⟨rfl,by omega,λj f F=>?_,?_,λf=>?_,m,?_,?_⟩
 .rw[l j f (by simp;omega),mB (by simp;omega)];by_cases d:j<Z A
  .rw[mB d];exact λe=>q _ (kV d) (mO.1 (by rw[e];rfl))
  .rw[List.getElem_append_right (by omega)];by_cases a:j=Z A
   .subst a;simp
   .rw[List.getElem_cons,dif_neg (by omega),mB (by omega)];exact w _ (kV _)
 .rw[l _ (by omega) (by simp;omega),mB (by simp;omega),List.getElem_append_right (by omega),List.getElem_cons,dif_neg (by omega),List.getElem_append_right (by omega)];simp
 .rw[l _ f (by simp),mB (by simp),List.getElem_append_right (by omega)];simp
 .have E:FU s (0+Z (A++32::(D++[10]))) b:=g.right;have v:s.extract (0+Z (A++32::(D++[10]))) (0+Z (A++32::(D++[10]))+Z b)=⟨ml b⟩:=by
   (have d:b=(⟨ml b⟩:zA).toList:=by rw[lN]);have a:=EO (x:=⟨ml b⟩) (s:=s) (i:=0+Z (A++32::(D++[10]))) (by rw[<-d];exact E);rw[<-d]at a;exact a
  have C:0+Z (A++32::(D++[10]))=Z A+1+Z D+1:=by simp;omega
  have y:Z A+1+Z D+1+Z b=s.size:=by omega
  rw[C,y]at v;rw[v,lN]
 .rcases n with⟨d,a⟩|⟨d,a⟩
  .refine oi ⟨by rw[a];rfl,d,λf=>?_⟩;subst a;rw[l _ f (by simp),mB (by simp),List.getElem_append_right (by omega)];simp;omega
  .refine oj ⟨by rw[a];rfl,d,u,λf=>?_,λf=>?_⟩
   .subst a;rw[l _ f (by simp),mB (by simp),List.getElem_append_right (by omega)];simp
   .subst a;rw[l _ f (by simp),mB (by simp),List.getElem_append_right (by omega)];simp;omega
theorem Ub(s0:zA)(l:pM Dk)(w:py)(hs:s0.toList=PA l)(NA:s0.size<=9000000000000)(hl:∀h∈l,Io h.2.head/\Z h.2.head.args<=2/\h.1<12)(XS:Z l<=7000):
  Calls prog 29 #[O s0] w λe T=>∃(L:Option Addr) (M:Nat) (c:pM fZ),e=oa (.tuple #[U L (Z c) M,pE jj])/\c.map (λr=>(r.n,r.f.f))=l.map (λh=>(h.1,h.2.head))/\p9 T 0 110 3 (U L (Z c) M) (Z c) (c.flatMap PP)/\(∀r∈c,Dx T r.f)/\Ac [] w T:=by
 obtain⟨i0,SJ,NV,S1,P0⟩:=mg Tryz.info110;obtain⟨N,hN⟩:=pN w.heap.size;have HN:=Ab hN;have HL:=Ab hl;have HZ:p7 (s0.toList=PA (l.drop 0)):=hs;clear hl hs hN;go_enter func29,ntmps29;go_wp2_with fail
 go_loopg [0,4] (Z l) (λgk sv lv wr=>∃(k:Nat) (s:zA) (c:pM fZ) (L:Option Addr) (M:Nat),sv=O s/\lv=U L (Z c) M/\k<=Z l/\gk=Z l-k/\s.size<=9000000000000/\p7 (Z c=k)/\p7 (s.toList=PA (l.drop k))/\p7 (c.map (λr=>(r.n,r.f.f))=(l.take k).map (λh=>(h.1,h.2.head)))/\p7 (p9 wr N 110 3 (U L (Z c) M) (Z c) (c.flatMap PP))/\p7 (∀r∈c,Dx wr r.f)/\p7 (Ac [] w wr))
 case atStart=>exact⟨0,s0,[],Y,0,rfl,rfl,by omega,rfl,NA,rfl,HZ,rfl,lH _ _ _ _,(λr A=>by simp at A),pO _ _⟩
 case round=>
  clear HZ;obtain⟨k,s,c,L,M,rfl,rfl,hk,LB,VS,E0,HS,HM,HO,HE,HK⟩:=hrel;have HG:=Ab LB;clear LB;by_cases BT:k<Z l
  .have MN:l.drop k=l[k]::l.drop (k+1):=lD BT;obtain⟨CC,Bx,hn⟩:=HL _ (kV BT);have H3:s.toList=Ye l[k]++PA (l.drop (k+1)):=by
    rw[Aa HS,MN];unfold PA;rw[lF]
   have g:=ip H3 CC hn;have FB:p7 ((l.take (k+1)).map (λh=>(h.1,h.2.head))=(l.take k).map (λh=>(h.1,h.2.head))++[(l[k].1,l[k].2.head)]):=by
    show _=_;rw[kW BT,lV];rfl
   obtain⟨H,hH⟩:=pN (l[k]);rw[hH]at g FB CC hn Bx;obtain⟨f,hf⟩:=pN (Z (BN H.2.head).toList);obtain⟨d,hd⟩:=pN (Z (KM H.1).toList);obtain⟨R,hR⟩:=pN (PA (l.drop (k+1)));rw[hf,hd,hR]at g;obtain⟨I,hI⟩:=pN (f+1+d);rw[hI]at g;have KD:p7 (∀wz,Calls prog 26 #[O (BN H.2.head)] wz λe T=>∃p:Bv,e=oa (.tuple #[pC (ml (Be p)),pE jj])/\p.f=H.2.head/\Dx T p/\Ac [] wz T):=by
    intro wz;obtain⟨o1,o2⟩:=RK CC Bx;have VR:(BN H.2.head).size<=s.size:=by
     have y:=g.lt;have S:=g.at_;rw[AY,hf];omega
    refine(Rj (BN H.2.head) wz (by omega)).mono ?_;rintro e T ⟨p,rfl,y,S,_,h3⟩;rw[o1];exact⟨p,rfl,y.trans o2,S,h3⟩
   have HR:=Ab hR;have RT:=Ab g;have W1:=g.lt;have HI:=g.at_;have NL:s[I].toNat=10:=g.end_;(have NY:f<s.size:=by omega);have JA:s[f].toNat=32:=g.sp NY;(have WS:d=1\/d=2:=by rcases g.dig with h|h<;>omega);have IA:p7 (∀j (hj:j<s.size),j<I->s[j].toNat≠10):=g.nl;have M0:p7 (∃(x o:Nat->Nat),x 0=0/\o 0=1/\x d=H.1/\∀j,j<d->∀p (hp:p<s.size),p+j+1=I->48<=s[p].toNat/\s[p].toNat<=57/\(o j=1\/o j=10)/\o (j+1)=10*o j/\x j+o j*(s[p].toNat-48)=x (j+1)/\x j<=9):=by
    rcases g.dig with⟨y,S,h3⟩|⟨y,S,h3,h4,h5⟩
    .refine⟨λj=>if j=0 then 0 else H.1,λj=>if j=0 then 1 else 10,rfl,rfl,by rw[y];rfl,λj hj p hp he=>?_⟩;(obtain rfl:j=0:=by omega);(obtain rfl:p=f+1:=by omega);have:=h3 hp;simp;omega
    .refine⟨λj=>if j=0 then 0 else if j=1 then H.1-10 else H.1,λj=>if j=0 then 1 else if j=1 then 10 else 100,rfl,rfl,by rw[y];rfl,λj hj p hp he=>?_⟩;(have M2:j=0\/j=1:=by omega);rcases M2 with rfl|rfl
     ·(obtain rfl:p=f+2:=by omega);have:=h5 hp;simp;omega
     ·(obtain rfl:p=f+1:=by omega);have:=h4 hp;simp;omega
   have K3:p7 ((f+1<s.size)/\(((f:Int)+2<I->∀hj:f+1<s.size,s[f+1].toNat≠48))):=⟨by omega,λh hj=>by
    rcases g.dig with⟨y,S,h3⟩|⟨y,S,h3,h4,h5⟩
    .omega
    .rw[h4 hj];decide⟩
   have ST:p7 (s.extract 0 f=BN H.2.head):=g.fact;have NB:p7 ((s.extract (I+1) s.size).toList=R):=g.rest;have Q:=Ab HI;clear MN H3 hH CC hf hd hR g HS RT hI Bx HI;(have VL:(0:Int)<(s.size:Int):=by omega);(have X0:0<s.size:=by omega);go_wp2_with fail
   go_loopg [5] I (λTL i wq=>∃(j:Nat),i=X J j/\j<=I/\TL=I-j/\wq=wr)
   case atStart=>exact⟨0,rfl,by omega,rfl,rfl⟩
   case round=>
    obtain⟨j,rfl,hj,LE,rfl⟩:=hrel;have KB:=Ab LE;clear LE;(have X1:(j:Int)<(s.size:Int):=by omega);(have U0:(0:Int)<=(j:Int):=by omega);by_cases HW:j<I
    .have TX:=Aa IA j (by omega) HW;(have HP:(((s[j]'(by omega)).toNat:Int) !=10)=jj:=by simp only[bne_iff_ne,ne_eq];omega);go_wp2
     go_roundg (I-(j+1))
     case measure=>have:=Aa KB;omega
     case rel=>exact⟨j+1,by go_num,by omega,rfl,rfl⟩
    ·(obtain rfl:j=I:=by omega);(have HP:((s[j].toNat:Int) !=10)=K:=by rw[NL];rfl);(have TV:((j:Int)==(s.size:Int))=K:=by simp only[lQ,ne_eq];omega);clear KB HW;obtain⟨x,o,IJ,K5,L0,H8⟩:=Aa M0;have EY:p7 (x 0=0/\o 0=1/\x d=H.1):=⟨IJ,K5,L0⟩;have K9:=Ab H8;clear IJ K5 L0 H8 M0;(go_wp2_with fail);clear HP TV
     go_loopg [6,7,8] d (λOB kk nn tt wq=>∃(m p:Nat),m<=d/\p+m+1=j/\kk=X J p/\nn=X J (x m)/\tt=X J (o m)/\OB=d-m/\wq=wr)
     case atStart=>exact⟨0,j-1,by omega,by have:=Aa Q;omega,congrArg (X J) (by have:=Aa Q;omega),by rw[(Aa EY).1];rfl,by rw[(Aa EY).2.1];rfl,rfl,rfl⟩
     case round=>
      obtain⟨m,p,hm,HX,rfl,rfl,rfl,H2,rfl⟩:=hrel;have LL:=Ab H2;have ES:=Ab HX;clear H2;(have Os:p<s.size:=by omega);(have WB:(p:Int)<(s.size:Int):=by omega);(have X2:(0:Int)<=(p:Int):=by omega);clear HX;by_cases H0:m<d
      .obtain⟨v1,v2,v3,v4,v5,v6⟩:=K9 m H0 p Os ES;(have W3:0<p:=by have:=Aa ES;have:=Aa Q;omega);have AO:Ap s[p]=jj:=by
        unfold Ap;simp only[lJ,nP];exact⟨v1,v2⟩
       obtain⟨FO,hX⟩:=pN (x m);rw[hX]at v5 v6;rw[hX];have HV:p7 (FO+o m*(s[p].toNat-48)=x (m+1)/\o (m+1)=10*o m):=⟨v5,v4⟩;clear v4 v5 hX;rcases v3 with v3|v3<;>(
        rw[v3]at HV
        rw[v3]
        clear v3
        go_wp2_with (go_at_call 55;refine(Cz _ s[p] _ rfl).mono ?_;rintro e w2 ⟨rfl,rfl⟩;rw[AO])
        go_roundg (d-(m+1))
        case measure=>have:=Aa LL;omega
        case rel=>exact⟨m+1,p-1,by omega,by have:=Aa ES;omega,congrArg (X J) (by omega),congrArg (X J) (by have:=HV.1;omega),congrArg (X J) (by have:=HV.2;omega),rfl,rfl⟩)
      ·(obtain rfl:m=d:=by omega);(obtain rfl:p=f:=by have:=Aa ES;have:=Aa Q;omega);rw[(Aa EY).2.2];have AO:Ap s[p]=K:=by
        unfold Ap;rw[Bool.and_eq_false_iff];exact oi (mG (λh=>by have S:48<=s[p].toNat:=h;omega))
       (have Nd:((s[p].toNat:Int) !=32)=K:=by rw[JA];rfl);(have T0:¬(p:Int)<0:=by omega);(have Bx:((p:Int)==(j:Int)-1)=K:=by simp only[lQ,ne_eq];have:=Aa Q;omega);(have H6:(p:Int)+2<=(j:Int):=by have:=Aa Q;omega);(have SB:p+1<s.size:=by have:=Aa Q;omega);clear LL H0 K9;obtain⟨bz,HT⟩:=pN ((s[p+1].toNat:Int)==48);(have W0:(p:Int)+1<(s.size:Int):=by omega);have MB:bz=jj->(j:Int)<=(p:Int)+2:=by
        intro hb;refine Int.not_lt.1 (λh=>?_);have:=K3.2 h SB;rw[hb,mT]at HT;omega
       clear K3 IA
       rename ∀(a:Act) (w:py),Code.wp prog (Code.seq (Code.seq (Code.region 15 _ _) _) _) _ a w->_=>hA6
       have MY:=Ab hA6;clear hA6 AO;(have AO:Ap (32:UInt8)=K:=by decide);go_wp2_with fail
       go_at_call 55
       refine(Cz _ (32:UInt8) _ rfl).mono ?_;rintro e w2 ⟨rfl,rfl⟩;rw[AO];have X3:=Ab H6;clear H6;(go_wp2_with fail);refine MY _ _ ?_;clear MY;refine pL (λW u=>?_);have SL:p7 (s.extract 0 p=BN H.2.head):=ST;clear AO;cases bz<;>(
        try have SK:(j:Int)<=(p:Int)+2:=MB rfl
        clear MB
        go_wp2
        refine u _ _ ?_
        clear u W Nd Bx JA HT
        try clear SK
        refine wp_seq_k (λW z=>?_)
        have u:=Ab z
        clear z
        go_wp2_with fail
        rw[Aa SL]
        refine(KD _).mono ?_
        rintro _ F ⟨⟨⟨E,C⟩,qv⟩,rfl,Jx,HB,k3⟩
        obtain⟨P,G,e⟩:=Ak HB
        simp only at e
        subst e
        simp only[Be]
        have HQ:p7 ((⟨E,C⟩:Af)=H.2.head):=Jx
        have HY:=Ab HB
        have K6:=Ab (HK.trans k3)
        have LC:=Ab (Ad HO k3)
        have KK:p7 (∀r∈c,Dx F r.f):=λr A=>(HE r A).kept k3
        clear Jx HB k3 HO HE HK KD
        go_wp2
        refine u _ _ ?_
        clear u W
        have BS:=Ab (pP F [O E,U P (Z C) G] 43)
        have AT:p7 (Ac [] F (F.alloc (j3 [O E,U P (Z C) G].toArray 43))):=(pO [] F).alloc _
        change Code.wp _ _ _ _ (F.alloc (j3 [O E,U P (Z C) G].toArray 43))
        generalize F.alloc (j3 [O E,U P (Z C) G].toArray 43)=w4 at BS AT⊢
        obtain⟨B,hB⟩:=pN F.heap.size
        rw[hB]at BS⊢
        clear hB
        have HA:=Ab (K6.trans AT)
        have B9:=Ab (Ad LC AT)
        have K4:p7 (∀r∈c,Dx w4 r.f):=λr A=>(KK r A).kept AT
        have M3:=Ab (HY.kept AT)
        clear K6 LC KK HY AT
        have b0:=BS.cell 0
        have b1:=BS.cell 1
        simp at b0 b1
        refine wp_seq_k (λW z=>?_)
        have u:=Ab z
        clear z
        go_wp2
        refine u _ _ ?_
        clear u W
        refine wp_seq_k (λW z=>?_)
        have u:=Ab z
        clear z
        go_wp2_with (at_builtin;change p7 (wpList _ _ _ _ _ _))
        show wpList _ _ _ _ _ _
        have Op:Z c<=7000:=by have:=Aa E0;omega
        have W2:N<=w4.heap.size:=by have:=HA.size;have:=Aa HN;omega
        refine lG _ rfl (.tmp 93) (.tmp 97) _ rfl N 110 i0 _ 3 48 (by kernel_rfl) SJ NV S1 P0 rfl (by omega) (U L (Z c) M) (Z c) (c.flatMap PP) rfl (lg B9 _) ⟨w4.heap.size,0,Y⟩ 1 1 [O E,U P (Z C) G,X J (H.1:Nat)] rfl rfl (lI (lP w4 _)) (by simp[Value.oneCell']) (by omega) (by unfold maxLen;omega) (by omega) (by simp;omega) (w4.heap.size+1) (by simp) ?_
        intro g1 H4 w5 KS FF M6 NM
        have K8:Ac [] w w5:=(HA.alloc (j3 #[O E,U P (Z C) G,X J (H.1:Nat)] 110)).grown FF (λq hq=>oj (by have y:=(B9.lt q hq).1;have:=Aa HN;omega))
        have FC:∀{b e sz n:Nat} {v:p5} {ys:pM p5},p9 w4 b e sz v n ys->e≠110->p9 w5 b e sz v n ys:=fun{b e sz n v ys} A y=>mI (v:=v) (lg (v:=v) A _) FF (by
         cases hpo:v.ownBlock with
         |none=>exact oi rfl
         |some q=>exact oj (λe=>Bc A B9 y q hpo e.symm))
        obtain⟨D,A1⟩:∃D:pM fZ,D=c++[⟨⟨⟨E,C⟩,U P (Z C) G⟩,H.1⟩]:=⟨_,rfl⟩
        have CL:Z c+1=Z D:=by rw[A1];simp
        have NN:p7 (p9 w5 N 110 3 (U (V ⟨g1,0,Y⟩) (Z D) H4) (Z D) (D.flatMap PP)):=by
         rw[<-CL,A1,lM]
         exact KS
        have QR:p7 (∀r∈D,Dx w5 r.f):=λr A=>by
         rw[A1]at A
         rcases lw.1 A with h|h
         .exact FC (v:=r.f.av) (K4 r h) (by decide)
         .simp only[kY]at h
          subst h
          exact FC M3 (by decide)
        have RO:=Ab K8
        rw[CL]
        have Nq:p7 (D.map (λr=>(r.n,r.f.f))=(l.take (k+1)).map (λh=>(h.1,h.2.head))):=by
         show _=_
         rw[Aa FB,<-Aa HM,A1,lV,<-Aa HQ]
         rfl
        have QQ:p7 (Z D=k+1):=by show _=_;rw[<-CL,Aa E0]
        clear FC KS FF M6 NM K8 B9 K4 M3 HA b0 b1 CL A1 Op HM FB HQ E0
        have U1:(j:Int)+1<=(s.size:Int):=by omega
        have M2:(0:Int)<=(j:Int)+1:=by omega
        go_wp2
        refine u _ _ ?_
        clear u W
        go_wp2
        go_roundg (Z l-(k+1))
        case measure=>have:=Aa HG;omega
        case rel=>exact⟨k+1,s.extract (j+1) s.size,D,V ⟨g1,0,Y⟩,H4,rfl,rfl,by omega,rfl,by rw[my];omega,QQ,NB.trans HR.symm,Nq,NN,QR,RO⟩)
  ·(obtain rfl:k=Z l:=by omega);(have hz:s.size=0:=by rw[AY,Aa HS,List.drop_length];rfl);(have SP:p7 (c.map (λr=>(r.n,r.f.f))=l.map (λh=>(h.1,h.2.head))):=by have:=Aa HM;rwa [ni]at this);clear HS HM BT hk HG;go_wp2;go_ret2;exact⟨L,M,c,rfl,SP,Am HO (lz _),HE,HK⟩
def Ku(rs:pM fZ):pM Af:=rs.foldl (λs r=>A3 s r.f.f) []
def bQ{b:pM fZ}(e:k<Z b){r:fZ}(g:b[k]=r){a:pM Bv}(hF:a.map Bv.f=Ku (b.take k))(i:Z a<=k):(EW a r.f).map Bv.f=Ku (b.take (k+1))/\Z (EW a r.f)<=k+1:=by
 have c:(EW a r.f).map Bv.f=A3 (a.map Bv.f) r.f.f:=LX a r.f;have h:Ku (b.take (k+1))=A3 (Ku (b.take k)) r.f.f:=by
  unfold Ku;rw[kW e,mi,g,lR,List.foldl_nil]
 refine⟨by rw[c,h,hF],?_⟩;have d:=congrArg List.length c;rw[lm]at d;rw[d];unfold A3;cases C3 (a.map Bv.f) r.f.f with
 |true=>rw[ln rfl,lm];omega
 |false=>rw[li (by simp),N7,lm];omega
theorem Ys(pb:Nat)(HC:Option Addr)(R:Nat)(o:pM A4)(HU:Option Addr)(HI:Nat)(b:pM fZ)(x:Bv)(Ha:Option Addr)(HA:Nat)(ms:pM Bv)(w:py)
  (hP:AF w pb [U HC (Z o) R] 76) (hR:Cl w (U HC (Z o) R) o)
  (hl:p9 w 0 110 3 (U HU (Z b) HI) (Z b) (b.flatMap PP)) (C:∀r∈b,Dx w r.f) (hx:Dx w x) (K2:JP x.f) (NA:Cv w (U Ha (Z ms) HA) ms)
  (BS:∀r∈b,JP r.f.f/\r.n<Z o) (SK:Z o<=1000) (OB:Z b<=7000)
  (K3:∀(i:Nat) (r:fZ),b[i]?=V r->C3 (Ku (b.take i)) r.f.f=K)
  (MY:∀(i:Nat) (r:fZ) (c:A4),b[i]?=V r->o[r.n]?=V c->∀(m:Option Addr) (l:Nat) (d:pM Bv) (a:py),Ac [] w a->Cv a (U m (Z d) l) d->d.map Bv.f=Ku (b.take i)->Calls prog 56 #[pC (ml (Ce c)),pC (ml (Be r.f)),U m (Z d) l,U Ha (Z ms) HA] a λe u=>e=oa (pE jj)/\Ac [] a u)
  (Bx:b≠[]) (LS:∀h:b≠[],DJ (b.getLast h).f.f x.f=jj):
  Calls prog 30 #[m2 (V ⟨pb,0,Y⟩),U HU (Z b) HI,pC (ml (Be x)),U Ha (Z ms) HA] w λe u=>e=oa (pE jj)/\Ac [] w u:=by
 obtain⟨⟨G,D⟩,xv⟩:=x;obtain⟨H,L,K8⟩:=Ak hx;simp only at K8;subst K8;have HW:p7 (∀(i:Nat) (r:fZ) (c:A4),b[i]?=V r->o[r.n]?=V c->∀(m:Option Addr) (l:Nat) (d:pM Bv) (a:py),Ac [] w a->Cv a (U m (Z d) l) d->d.map Bv.f=Ku (b.take i)->Calls prog 56 #[pC (ml (Ce c)),pC (ml (Be r.f)),U m (Z d) l,U Ha (Z ms) HA] a λe u=>e=oa (pE jj)/\Ac [] a u):=MY;have CC:∀(i:Nat) (r:fZ),b[i]?=V r->r∈b:=λi r h=>List.mem_of_getElem? h
 have H5:p7 (∀(i:Nat) (r:fZ),b[i]?=V r->∀(m:Option Addr) (l:Nat) (d:pM Bv) (a:py),Ac [] w a->Cv a (U m (Z d) l) d->d.map Bv.f=Ku (b.take i)->Z d<=100000->Calls prog 21 #[U m (Z d) l,pC (ml (Be r.f))] a λe u=>e=oa (pE K)/\Ac [] a u):=λi r hi m l d a j hs M0 H9=>by
  have h:=Jv m l d r.f a hs ((C _ (CC i r hi)).kept j) (by omega) (BS _ (CC i r hi)).1;have e:(d.any λp=>DJ p.f r.f.f)=K:=by
   have:=K3 i r hi;rw[<-M0]at this;unfold C3 at this;rw[n6]at this;exact this
  rw[e]at h;exact h
 have HJ:p7 (∀(i:Nat) (r:fZ),b[i]?=V r->∀(m:Option Addr) (l:Nat) (d:pM Bv) (a:py),Ac [] w a->Cv a (U m (Z d) l) d->Z d<=100000->Calls prog 57 #[U m (Z d) l,pC (ml (Be r.f))] a λe u=>∃s t,e=oa (U s (Z (EW d r.f)) t)/\Cv u (U s (Z (EW d r.f)) t) (EW d r.f)/\Ac [] a u):=λi r hi m l d a j hs H9=>OF m l d r.f a hs ((C _ (CC i r hi)).kept j) H9 (BS _ (CC i r hi)).1
 have H4:p7 (∀(h:b≠[]) (a:py),Ac [] w a->Calls prog 49 #[pC (ml (Be (b.getLast h).f)),pC (ml (Be ⟨⟨G,D⟩,U H (Z D) L⟩))] a λe u=>e=oa (pE jj)/\Ac [] a u):=λh a j=>by
  have h1:=O4 (b.getLast h).f ⟨⟨G,D⟩,U H (Z D) L⟩ a ((C _ (List.getLast_mem h)).kept j) (hx.kept j) (by have:=(BS _ (List.getLast_mem h)).1.len;omega) (by have:=K2.len;omega);rw[LS h]at h1;exact h1
 have H0:p7 (∀r∈b,∃s t,r.f.av=U s (Z r.f.f.args) t):=λr E=>Ak (C r E)
 have LB:p7 (∀c∈o,(∃s t,c.hv=U s (Z c.head.args) t)/\∃s t,c.bv=U s (Z c.bl) t):=λc hc=>⟨Ak (hR.each c hc).args,Ak (hR.each c hc).body⟩
 have JA:p7 (∀r∈b,r.n<Z o):=λr E=>(BS r E).2
 have Dk:p7 (∀a,Ac [] w a->AF a pb [U HC (Z o) R] 76/\Cl a (U HC (Z o) R) o/\p9 a 0 110 3 (U HU (Z b) HI) (Z b) (b.flatMap PP)):=λa j=>⟨hP.kept j,hR.kept j,Ad hl j⟩
 have F:=Ab (pP w [O G,U H (Z D) L] 43);have B:=Ab ((pO [] w).alloc (j3 [O G,U H (Z D) L].toArray 43));clear hP hR hl C hx K2 NA BS K3 MY LS;simp only[Be]at H4 HW H5 HJ⊢;go_enter func30,ntmps30;go_wp2;change Code.wp _ _ _ _ (w.alloc (j3 [O G,U H (Z D) L].toArray 43));generalize w.alloc (j3 [O G,U H (Z D) L].toArray 43)=w1 at F B⊢;generalize w.heap.size=N at F⊢
 go_loopg [9,10,11,12] (Z b) (λgk sv iv bv gv wr=>∃(k:Nat) (m:Option Addr) (l:Nat) (d:pM Bv),sv=U m (Z d) l/\iv=X J k/\k<=Z b/\gk=Z b-k/\Z d<=k/\p7 (Cv wr (U m (Z d) l) d)/\p7 (d.map Bv.f=Ku (b.take k))/\p7 (Ac [] w wr)/\p7 (AF wr N [O G,U H (Z D) L] 43))
 case atStart=>exact⟨0,Y,0,[],rfl,rfl,by omega,rfl,by simp,⟨lH _ _ _ _,λp hp=>by simp at hp⟩,rfl,B,F⟩
 case round=>
  clear F B;obtain⟨k,m,l,d,rfl,rfl,j,Mo,KS,HS,HF,B,F⟩:=hrel;have HG:=Ab Mo;clear Mo;by_cases Ax:k<Z b
  .obtain⟨hb,LC,DT⟩:=Dk _ B;obtain⟨g,NB,C,_,Q⟩:=AC DT (λc _=>rfl) k Ax;obtain⟨r,E⟩:=pN (b[k]);have y:=Q k Ax 0 (by omega);have z:=Q k Ax 1 (by omega);have d2:=Q k Ax 2 (by omega);rw[E]at y z d2;(have BA:b[k]?=V r:=by rw[lc Ax,E]);have HR:r∈b:=List.mem_of_getElem? BA;have W:=Aa JA _ HR;obtain⟨c,hc⟩:=pN (o[r.n]);(have HX:o[r.n]?=V c:=by rw[lc W,hc]);obtain⟨q,RT,MN,_,A1⟩:=AC LC.row (λc _=>rfl) r.n W;have c0:=A1 _ W 0 (by omega);have c1:=A1 _ W 1 (by omega);have c2:=A1 _ W 2 (by omega);have c3:=A1 _ W 3 (by omega);have c4:=A1 _ W 4 (by omega);rw[hc]at c0 c1 c2 c3 c4;have p0:=hb.cell 0;have FA:=Ab (HW k r c BA HX m l d);have H1:=Ab (H5 k r BA m l d);have H3:=Ab (HJ k r BA m l d);have FO:p7 ((EW d r.f).map Bv.f=Ku (b.take (k+1))/\Z (EW d r.f)<=k+1):=by
    exact bQ Ax E HF KS
   obtain⟨⟨HT,HD,H7⟩,⟨HZ,HE,KA⟩⟩:=LB _ (List.mem_of_getElem? HX);obtain⟨s,t,A0⟩:=H0 _ HR;clear Q A1 hc E BA HX HR;obtain⟨⟨⟨fn,T⟩,fv⟩,n⟩:=r;obtain⟨⟨HH,HP,HV⟩,NV,RB,HQ,HO⟩:=c;simp only at A0 H7 KA;subst A0 H7 KA;simp only[kS]at C MN;obtain⟨rfl,_,rfl⟩:=C;obtain⟨rfl,_,rfl⟩:=MN;simp[PP,Ce]at y z d2 c0 c1 c2 c3 c4 p0;simp only[Ce]at FA;simp only at W FA H1 H3 FO;clear hb LC DT;(have OH:(0:Int)<=(n:Int):=by omega);(have RV:¬((Z o:Int)<=(n:Int)):=by omega);(have SJ:¬((n:Int)<0):=by omega);(have S:p7 (∀a,Ac [] wr a->p8 a ⟨pb,0,Y⟩=V (U (V ⟨q,0,Y⟩) (Z o) R)/\p8 a ⟨g,k*3,Y⟩=V (O fn)/\p8 a ⟨g,k*3+1,Y⟩=V (U s (Z T) t)/\p8 a ⟨g,k*3+2,Y⟩=V (X J n)/\p8 a ⟨q,n*5,Y⟩=V (O HH)/\p8 a ⟨q,n*5+1,Y⟩=V (U HT (Z HP) HD)/\p8 a ⟨q,n*5+2,Y⟩=V (X J HV)/\p8 a ⟨q,n*5+3,Y⟩=V (U HZ (Z HQ) HE)/\p8 a ⟨q,n*5+4,Y⟩=V (X J HO)):=λa j=>⟨j.cellAt p0,j.cellAt y,j.cellAt z,j.cellAt d2,j.cellAt c0,j.cellAt c1,j.cellAt c2,j.cellAt c3,j.cellAt c4⟩);refine pL (λI v=>?_);go_wp2;refine v _ _ ?_;clear v I;refine pL (λKB K1=>?_);refine wp_block ?_;refine pL (λI v=>?_);(go_wp2_with fail);clear y z d2 c0 c1 c2 c3 c4 p0
   go_region_held3 (λa=>Ac [] wr a/\p8 a ⟨pb,0,Y⟩=V (U (V ⟨q,0,Y⟩) (Z o) R)/\p8 a ⟨g,k*3+2,Y⟩=V (X J n)) ((go_split_ands;refine(fun(P:Ac [] wr _)=>And.intro P (And.intro (S _ P).1 (S _ P).2.2.2.1)) ?_;repeat (first|assumption|exact pO [] _|refine Ac.drew ?_|refine Ac.alloc ?_ _))) (fail)
   rename_i EK;clear EK;have AO:=Ab ((pO [] wr).drew);generalize wr.drew=w2 at AO⊢;have K7:=Ab (B.trans AO);go_wp2;refine v _ _ ?_;clear v I;have Jx:=Ab (HS.kept AO);obtain⟨_,y,z,_,_,_,_,_,_⟩:=S _ AO;have LM:=Ab (H1 w2 K7 Jx HF (by omega));refine pL (λI v=>?_);(go_wp2_with fail);refine LM.mono ?_;rintro _ w3 ⟨rfl,k3⟩;have B2:=Ab (AO.trans k3);have LL:=Ab (B.trans B2);(have JJ:p7 (∀a,Ac [] w3 a->p8 a ⟨pb,0,Y⟩=V (U (V ⟨q,0,Y⟩) (Z o) R)/\p8 a ⟨g,k*3,Y⟩=V (O fn)/\p8 a ⟨g,k*3+1,Y⟩=V (U s (Z T) t)/\p8 a ⟨g,k*3+2,Y⟩=V (X J n)/\p8 a ⟨q,n*5,Y⟩=V (O HH)/\p8 a ⟨q,n*5+1,Y⟩=V (U HT (Z HP) HD)/\p8 a ⟨q,n*5+2,Y⟩=V (X J HV)/\p8 a ⟨q,n*5+3,Y⟩=V (U HZ (Z HQ) HE)/\p8 a ⟨q,n*5+4,Y⟩=V (X J HO)):=λa j=>S _ (B2.trans j));have KD:=Ab (HS.kept B2);(have MB:p7 (∀a,Ac [] w3 a->Calls prog 56 _ a λe u=>e=oa (pE jj)/\Ac [] a u):=λa j=>FA a (LL.trans j) (KD.kept j) HF);clear k3 LM AO K7 Jx y z H1 FA;go_wp2;refine v _ _ ?_;clear v I;refine pL (λI v=>?_)
   go_region_held3 (λa=>Ac [] w3 a/\p8 a ⟨pb,0,Y⟩=V (U (V ⟨q,0,Y⟩) (Z o) R)/\p8 a ⟨g,k*3,Y⟩=V (O fn)/\p8 a ⟨g,k*3+1,Y⟩=V (U s (Z T) t)/\p8 a ⟨g,k*3+2,Y⟩=V (X J n)/\p8 a ⟨q,n*5,Y⟩=V (O HH)/\p8 a ⟨q,n*5+1,Y⟩=V (U HT (Z HP) HD)/\p8 a ⟨q,n*5+2,Y⟩=V (X J HV)/\p8 a ⟨q,n*5+3,Y⟩=V (U HZ (Z HQ) HE)/\p8 a ⟨q,n*5+4,Y⟩=V (X J HO)) ((go_split_ands;refine(fun(P:Ac [] w3 _)=>And.intro P (JJ _ P)) ?_;repeat (first|assumption|exact pO [] _|refine Ac.drew ?_|refine Ac.alloc ?_ _))) ((go_at_call 56;refine(MB _ (by go_split_ands;assumption)).mono ?_;rintro _ w4 ⟨rfl,k4⟩;have EX:Ac [] w3 w4:=(by go_split_ands;exact Ac.trans (by assumption) k4);clear k4))
   rename_i EK;clear EK;have CL:=Ab (B2.trans EX);have ES:=Ab (B.trans CL);obtain⟨_,y,z,_,_,_,_,_,_⟩:=S _ CL;have K4:=Ab (HS.kept CL);have IA:=Ab (F.kept CL);have HM:=Ab (H3 w4 ES K4 (by omega));generalize EW d ⟨⟨fn,T⟩,U s (Z T) t⟩=FW at HM FO;clear EX B2 LL JJ KD MB H3 S HS F K4 CL;go_wp2;refine v _ _ ?_;clear v I;refine pL (λI v=>?_);go_wp2;refine v _ _ ?_;clear v I;(go_wp2_with fail);refine HM.mono ?_;rintro _ w5 ⟨M3,Nj,rfl,IJ,k5⟩;have M6:=Ab IJ;have Nq:=Ab (ES.trans k5);have M1:=Ab (IA.kept k5);clear IJ k5 HM ES IA y z B;go_wp2;refine K1 _ _ ?_;clear K1 KB;go_wp2
   go_roundg (Z b-(k+1))
   case measure=>have:=Aa HG;omega
   case rel=>exact⟨k+1,M3,Nj,FW,rfl,by go_num,by omega,rfl,FO.2,M6,FO.1,Nq,M1⟩
  ·(obtain rfl:k=Z b:=by omega);have DT:=(Dk _ B).2.2;have NX:0<Z b:=List.length_pos_iff.2 Bx;obtain⟨M,hM⟩:∃M,Z b=M+1:=⟨Z b-1,by omega⟩;obtain⟨g,NB,C,_,Q⟩:=AC DT (λc _=>rfl) M (by omega);have y:=Q M (by omega) 0 (by omega);have z:=Q M (by omega) 1 (by omega);have Go:=Ab (H4 Bx);obtain⟨s,t,A0⟩:=H0 _ (List.getLast_mem Bx);have Ix:b[M]'(by omega)=b.getLast Bx:=by
    rw[List.getLast_eq_getElem]
    congr 1
    omega
   rw[Ix]at y z;obtain⟨r,E⟩:=pN (b.getLast Bx);rw[E]at y z Go A0;clear Ix E Q;obtain⟨⟨⟨fn,T⟩,fv⟩,n⟩:=r;simp only at A0;subst A0;simp only[kS]at C;obtain⟨rfl,_,rfl⟩:=C;simp[PP]at y z;simp only at Go;(have S:p7 (∀a,Ac [] wr a->p8 a ⟨g,M*3,Y⟩=V (O fn)/\p8 a ⟨g,M*3+1,Y⟩=V (U s (Z T) t)/\p8 a ⟨N,0,Y⟩=V (O G)/\p8 a ⟨N,1,Y⟩=V (U H (Z D) L)):=λa j=>⟨j.cellAt y,j.cellAt z,j.cellAt (by have:=F.cell 0;simpa using this),j.cellAt (by have:=F.cell 1;simpa using this)⟩);(have NM:p7 (∀a,Ac [] wr a->Calls prog 49 _ a λe u=>e=oa (pE jj)/\Ac [] a u):=λa j=>Go a (B.trans j));clear DT y z Go HW H5 HJ H4 H0 LB JA Dk HS HF F KS j Ax HG CC;(have RI:((Z b:Int)==0)=K:=by simp only[lQ,ne_eq];omega);(have NY:(Z b:Int)-1=(M:Int):=by omega);(have N4:(M:Int)<(Z b:Int):=by omega);(have Op:(0:Int)<=(M:Int):=by omega);(have N2:IntKind.i64.wrap (M:Int)=(M:Int):=by rw[nB];omega);(have QR:M<Z b:=by omega);(have RE:(0:Int)<=(Z b:Int)-1:=by omega);(have N0:(Z b:Int)-1<(Z b:Int):=by omega);(have Os:((Z b:Int)-1).toNat=M:=by omega);(have RO:Z b-1=M:=by omega);(have SB:1<=Z b:=by omega);(have PT:IntKind.i64.wrap ((Z b:Int)-1)=(M:Int):=by rw[nB];omega);clear hM;go_wp2_with fail
   go_region_held3 (λa=>Ac [] wr a/\p8 a ⟨g,M*3,Y⟩=V (O fn)/\p8 a ⟨g,M*3+1,Y⟩=V (U s (Z T) t)/\p8 a ⟨N,0,Y⟩=V (O G)/\p8 a ⟨N,1,Y⟩=V (U H (Z D) L)) ((go_split_ands;refine(fun(P:Ac [] wr _)=>And.intro P (S _ P)) ?_;repeat (first|assumption|exact pO [] _|refine Ac.drew ?_|refine Ac.alloc ?_ _))) ((go_at_call 49;refine(NM _ (by go_split_ands;assumption)).mono ?_;rintro _ w4 ⟨rfl,k4⟩;have EX:Ac [] wr w4:=(by go_split_ands;exact Ac.trans (by assumption) k4);clear k4))
   rename_i EK;clear EK;have ES:=Ab (B.trans EX);clear EX;go_wp2;go_ret;exact⟨rfl,ES⟩
def eC(p:UInt8->Bool)(s:zA)(i:Nat):∀k (a:k<s.size),i<=k->k<AG p s i->p s[k]=jj:=by
 fun_induction AG p s i with
 |case1 i h hp ih=>
  intro k a c b;by_cases e:k=i
  .subst e;exact hp
  .exact ih k a (by omega) b
 |case2 i h hp=>intro k a c b;omega
 |case3 i h=>intro k a c b;omega
def Wr(h:g∈(s.extract i j).toList):∃k,∃b:k<s.size,i<=k/\k<j/\g=s[k]:=by
 rw[lN,ByteArray.data_extract]at h;have a:=Array.mem_toList_iff.1 h;obtain⟨k,b,e⟩:=Array.mem_extract_iff_getElem.1 a;have d:s.data.size=s.size:=rfl;exact⟨i+k,by omega,by omega,by omega,e.symm⟩
def ZS{p:UInt8->Bool}:∀c∈(s.extract i (AG p s i)).toList,p c=jj:=by
 intro c b;obtain⟨k,e,a,d,rfl⟩:=Wr b;exact eC p s i k e a d
def Z2{p:UInt8->Bool}(h:i<=s.size):Z (s.extract i (AG p s i)).toList=AG p s i-i:=by
 rw[<-AY,my];have:=CM p s i h;omega
def QN(h:(A9 s n K).2.2=K):SX (A9 s n K).1:=by
 unfold A9 at h⊢;rw[li (by simp)]at h⊢;by_cases a:AG AD s (Ae s n)=Ae s n\/4<AG AD s (Ae s n)-Ae s n
 .rw[ln a]at h;cases h
 .rw[li a];have b:AG AD s (Ae s n)≠Ae s n:=λe=>a (oi e)
  obtain⟨c,f⟩:=Lh b;have d:=Cr AD s (Ae s n);have g:=Z2 (p:=AD) (Nat.le_of_lt c);show SX (s.extract (Ae s n) (AG AD s (Ae s n)));exact⟨by omega,by omega,ZS⟩
def Rv(h:(AN s n K).2.2=K)(a:(AN s n K).1.v=0):G9 (AN s n K).1.s:=by
 unfold AN at h a⊢;rw[li (by simp)]at h a⊢;by_cases b:Ae s n<s.size
 .rw[dif_pos b]at h a⊢;cases hu:Ds s[Ae s n] with
  |true=>
   rw[hu,ln rfl]at a;simp only at a;rw[a]at hu;cases hu
  |false=>
   rw[hu,li (by simp)]at h;rw[li (by simp)];cases hd:Ap s[Ae s n] with
   |false=>
    rw[hd,mJ,ln rfl]at h;rw[mJ,ln rfl];exact oi (QN h)
   |true=>
    rw[hd,nJ,li (by simp)]at h;rw[nJ,li (by simp)];by_cases c:3<AG Ap s (Ae s n)-Ae s n\/(s[Ae s n]=48/\1<AG Ap s (Ae s n)-Ae s n)
    .rw[ln c]at h;cases h
    .rw[li c];have g:=Cr Ap s (Ae s n+1);rw[<-Cp Ap s _ b hd]at g;have d:=Z2 (p:=Ap) (Nat.le_of_lt b);have j:=CM Ap s (Ae s n) (by omega);refine oj ⟨?_,?_,ZS,λr f=>?_⟩
     .show 1<=Z (s.extract (Ae s n) (AG Ap s (Ae s n))).toList;omega
     .show Z (s.extract (Ae s n) (AG Ap s (Ae s n))).toList<=3;(have:=λx=>c (oi x));omega
     .obtain⟨k,e,_⟩:=JG b j (by omega:Ae s n<AG Ap s (Ae s n));simp only at f;rw[f]at e d;have i:=(List.cons.inj e).1;(have:¬1<AG Ap s (Ae s n)-Ae s n:=λx=>c (oj ⟨i.symm,x⟩));rw[lj]at d;exact m4.1 (by omega)
 .rw[dif_neg b]at h;cases h
def XZ{s:zA}{b:Nat}(h:(CE s b).2.2=K):∀t∈(CE s b).1,t.v=0->G9 t.s:=by
 fun_induction CE s b with
 |case1 b hc _ _ ih=>
  intro t a c;have d:(AN s b K).2.2=K:=by
   have:=hc.1;rw[lJ]at this;simpa using this.1
  rcases kZ.1 a with rfl|a
  .exact Rv d c
  .exact ih h t a c
 |case2 b hc=>
  intro t a c;rw[kY]at a;subst a;exact Rv h c
structure dh(A:Dg):Prop where
 name:SX A.name
 args:∀t∈A.args,t.v=0->G9 t.s
def Zb(h:(AZ s n K).2.2=K):dh (AZ s n K).1:=by
 unfold AZ at h⊢;simp only at h⊢;have a:=I8 h;have b:(By s (A9 s (AQ s n K) K).2.1 (A9 s (AQ s n K) K).2.2 40).2=K:=by
  cases hm:(By s (A9 s (AQ s n K) K).2.1 (A9 s (AQ s n K) K).2.2 40).2 with
  |false=>rfl
  |true=>unfold Ev at a;rw[hm,ln rfl]at a;cases a
 refine⟨QN (I8 b),?_⟩;unfold Ev at a⊢;rw[b,li (by simp)]at a⊢;exact XZ a
def Ni(h:(Ao s n).2.2=K):dh (Ao s n).1.head:=by
 unfold Ao at h⊢;simp only at h⊢;exact Zb (J3 (I8 h)).1
def Sk{s:zA}{b:Nat}(h:(An s b).2.2=K):∀c∈(An s b).1,dh c.head:=by
 fun_induction An s b with
 |case1 b ha hc ih=>
  intro c a;rcases kZ.1 a with rfl|a
  .exact Ni hc.1
  .exact ih h c a
 |case2 b ha hc=>
  intro c a;rw[kY]at a;subst a;exact Ni h
 |case3 b ha=>intro c a;cases a
def PB{b:pM A4}(h:(An s n).2.2=K)(g:b.map A4.erase=(An s n).1){f:Af}(d:D0 b f):Io f:=by
 have i:∀c∈b,dh c.head:=by
  intro c a;have l:c.erase∈(An s n).1:=by rw[<-g];exact lB a
  exact Sk h _ l
 obtain⟨c,a,m,j⟩:=d.zb;refine⟨by rw[m];exact(i c a).name,λx v=>?_,λe=>?_⟩
 .obtain⟨q,p,k⟩:=ma.1 (d.args x v);obtain⟨t,r,rfl⟩:=lk.1 k;obtain⟨o,u⟩:=lK.1 r;exact(i q p).args t o (mT.1 u)
 .rw[e]at j;exact R2 h g c a (m4.1 j.symm)
def Cf.fitE{n:pM A4}(h:Cf n)(hF:QV n){s:pM Af}(G:Is n s){c:A4}(j:c∈n){r:pM zA}(AH:Z r=26):∀e∈(Al c).foldl (B7 s) [r],∀p∈c.bl,(p.1.kind==97)=K->Mj e p.1:=by
 intro e q p B g;obtain⟨AO,S⟩:=h.order.small;have M:∀f∈s,Ig f:=λf P=>AL.zK ((G.2 f P).canon h.prog.zL)
 have N:∀t,E8 (Al c) t->t.v≠0->0<(AI e t).size/\(AI e t).size<=1000000:=by
  intro t a b;obtain⟨_,_,_,_,z⟩:=CN M (Al c) [r] (λe q=>by simp at q;rw[q];exact AH) (h.prog.zK.args c j) e q;rcases a with i|⟨y,Q,g,u,T,Ax⟩
  .exact absurd i b
  .have i:=(G.2 _ (z y Q g).1).args (AI e u) (lB T);have w:=GM hF _ i;(have W:AI e u=AI e t:=by unfold AI;rw[Ax,li b,li b]);rw[W]at w;exact w
 have C:∀t∈AA p,E8 (Al c) t->0<(AI e t).size/\(AI e t).size<=1000000:=by
  intro t a z;by_cases b:t.v=0
  .have i:=(hF.full c j).body p B t a b;unfold AI;rw[ln b];exact i
  .exact N t z b
 have H:=(S c j).2.2 p B;unfold BF at H;have w:¬2<Z p.1.A.args:=oJ H;have F:p.1∈Al c:=lB B;have d:=h.lits c j p.1 F;have D:=h.prog.zK.safe c j p.1 F g;refine⟨λm=>?_,λl=>?_⟩
 .have o:(p.1.kind==33)=jj:=by rw[g]at m;simpa using m
  unfold Db at d;rw[ln m]at d;have k:AA p=p.1.A.args:=by unfold AA MF;rw[m];rfl
  refine⟨λt a=>(d.args t a).fit,by omega,⟨by simp[Aq];omega,λx hx=>?_⟩⟩;obtain⟨t,a,rfl⟩:=lk.1 hx;exact C t (by rw[k];exact a) (D.1 o t a)
 .have o:(p.1.kind==33)=K:=by rw[g]at l;simpa using l
  unfold Db at d;rw[li (by rw[l];simp)]at d;have k:AA p=[p.1.L,p.1.R]:=by unfold AA MF;rw[l];rfl
  have E:=C p.1.L (by rw[k];simp) (D.2 o).1;have I:=C p.1.R (by rw[k];simp) (D.2 o).2;exact⟨d.1.fit,d.2.1.fit,E.1,E.2,I.1,I.2⟩
def Is.len{b:pM A4}(h:Cf b){s:pM Af}(d:Is b s):Z s<=6912:=by
 obtain⟨e,g⟩:=h.order.small;have:=Ia s (So b) (d.1.nodup λf a=>(d.2 f a).canon h.prog.zL) λf a=>(d.2 f a).mem
 have:=Oe e (λc i=>(g c i).2.1);omega
def Uy{i:pM A4}(h:Cf i)(hF:QV i){c:A4}(d:c∈i)(g:Bv)(o:Option Addr)(q:Nat)(b:pM Bv)(n:Option Addr)(s:Nat)(a:pM Bv)(w:py)(j:Xg w c)(Q:Dx w g)(S:Cv w (U o (Z b) q) b)(N:Cv w (U n (Z a) s) a)
  (D:Is i (b.map Bv.f)) (x:Is i (a.map Bv.f)) (R:Z g.f.args<=1000000) (l:Lj c g.f (b.map Bv.f) (a.map Bv.f)=jj):
  Calls prog 56 #[pC (ml (Ce c)),pC (ml (Be g)),U o (Z b) q,U n (Z a) s] w λe v=>e=oa (pE jj)/\Ac [] w v:=by
 obtain⟨Ax,r⟩:=h.order.small;obtain⟨M,u,H⟩:=Ak j.args;obtain⟨B,y,E⟩:=Ak j.body;unfold Lj at l;rw[lJ]at l;have I:=D.len h;have C:=x.len h;rw[lm]at I C;have L:=j.args;have z:=j.body;rw[H]at L;rw[E]at z;have m:=VM c.erase M u B y c.bl g o q b n s a w L z j.lits Q S N (r c d).1 I C
  (λt P=>((h.zL c d).args t P).zK) (by have:=(r c d).2.1;show Z c.head.args<=1000;omega) R
  (λp F m=>by
   have G:=(r c d).2.2 p F
   unfold BF at G
   have x:¬2<Z p.1.A.args:=oJ G
   exact⟨h.prog.zK.args c d p.1 (lB F) m,by omega⟩)
  l.1 (h.fitE hF D d (by rw[FY];rfl))
 have W:Ce c=C0 c.erase (U M (Z c.erase.head.args) u) (U B (Z c.bl) y):=by
  unfold Ce C0;rw[H,E];rfl
 rw[W];refine m.mono ?_;rintro e v ⟨rfl,k⟩;refine⟨?_,k⟩;have:=l.2;unfold Al at this;have T:c.erase.head=c.head:=rfl;rw[T,this]
def M4(l:pM Dk):pM Af:=(l.map λh=>h.2.head).foldl A3 []
structure Vv(cs:pM A4)(m:pM Af)(f:Af)(l:pM Dk):Prop where
 some_:f∈m↔l≠[]
 full:∀h∈l,Io h.2.head/\Z h.2.head.args<=2/\h.1<12/\h.1<Z cs
 len:Z l<=7000
 zb:∀i,Is cs (M4 (l.take i))
 new:∀(i:Nat) (h:Dk),l[i]?=V h->C3 (M4 (l.take i)) h.2.head=K
 foll:∀(i:Nat) (h:Dk) (c:A4),l[i]?=V h->cs[h.1]?=V c->Lj c h.2.head (M4 (l.take i)) m=jj
 last:∀hne:l≠[],(l.getLast hne).2.head=f
def Yw{c d:A4}(h:c.erase=d.erase):Al c=Al d/\c.head=d.head:=by
 have a:c.erase.body=d.erase.body:=by rw[h]
 have b:c.erase.head=d.erase.head:=by rw[h]
 exact⟨a,b⟩
def jk{A q:pM A4}{u:pM Af}{I:pM Dk}{L:zA->Nat}(p:fX s A u I L n)(z:Cf q)(C:q.map A4.erase=(An s (Ae s 0)).1){m:pM Af}(y:GF q (B5 q 6) 7 m){f:Af}(G:AL f):Vv q m f (Ij I f):=by
 have a:=Hy (p.erase.trans C.symm);have b:=Hy (C.trans p.erase.symm);have AO:m=u:=z.one y (b.zR p.zR) (a.inv b p.inv) (λd hd=>by
  obtain⟨c,w,e1,_⟩:=b d hd
  rw[<-e1]
  exact p.top c w)
 subst AO;have D:∀g∈m,AL g:=λg k=>(y.zW g k).canon z.prog.zL
 obtain⟨o,H,N⟩:=p.rea.proof D G;obtain⟨CL,B0⟩:=z.order.small;have DT:Z A=Z q:=by
  have:=congrArg List.length (p.erase.trans C.symm);simpa using this
 generalize hl:Ij I f=l at o H N;have F:∀(i:Nat) (h:Dk),l[i]?=V h->l=l.take i++h::l.drop (i+1):=λi h j=>by
  obtain⟨r,e⟩:=nS.1 j;rw[<-e,<-lD r,mt]
 have B:∀i,(Eb (M4 (l.take i)))/\∀g,g∈M4 (l.take i)↔g∈(l.take i).map λh=>h.2.head:=λi=>by
  have h:=LJ ((l.take i).map λh=>h.2.head) [] List.Pairwise.nil (λf G=>by simp at G) (λg k=>by
   obtain⟨h,j,rfl⟩:=lk.1 k
   exact D _ (o.zW h (mD j)))
  exact⟨h.1,λg=>by rw[M4,h.2.2 g];simp⟩
 have CC:∀i,Is q (M4 (l.take i)):=λi=>⟨(B i).1,λg k=>by
  obtain⟨h,j,rfl⟩:=lk.1 (((B i).2 g).1 k)
  exact y.zW _ (o.zW h (mD j))⟩
 have W:∀h∈l,h.1<Z A:=λh j=>by
  obtain⟨i,r,e⟩:=lX j;obtain⟨v,_⟩:=o.each _ _ _ (F i h (by rw[lc r,e]));exact v
 refine⟨⟨λh=>?_,λh=>?_⟩,λh j=>⟨?_,?_,?_,?_⟩,?_,CC,λi h j=>?_,λi h c j w=>?_,λAT=>?_⟩
 .obtain⟨BT,x,e,_⟩:=H h;rw[e];simp
 .exact Classical.byContradiction λv=>h (N v)
 .exact PB p.zK C (y.zW _ (o.zW h j))
 .obtain⟨c,w,_,e⟩:=(y.zW _ (o.zW h j)).zb;have:=(B0 c w).2.1;omega
 .have:=W h j;omega
 .have:=W h j;omega
 .have E:=Ia (l.map λh=>h.2.head) m o.nd (λg k=>by
   obtain⟨h,j,rfl⟩:=lk.1 k
   exact o.zW h j)
  have P:=Is.len z y.zb;rw[lm]at E;omega
 .have e:=F i h j;have Ax:=o.nd;rw[e,lV,lE,oe]at Ax;cases M:C3 (M4 (l.take i)) h.2.head with
  |false=>rfl
  |true=>exact absurd rfl (Ax.2.2 _ (((B i).2 _).1 ((BK _ _).1 M)) _ (mz ..))
 .obtain⟨v,σ,E,P,h3,h4⟩:=o.each _ _ _ (F i h j);obtain⟨EM,EK⟩:=nS.1 w;have A2:A[h.1].erase=c.erase:=by
   (have R:(A.map A4.erase)[h.1]?=(q.map A4.erase)[h.1]?:=by rw[p.erase.trans C.symm]);rw[mA,mA,lc v,w]at R;simpa using R
  obtain⟨T,eh⟩:=Yw A2;have r:h.2=CG c σ:=by rw[P];unfold CG;rw[T,eh]
  have A0:N8 c σ:=by unfold N8 at E⊢;rw[<-T];exact E
  have Q:c∈q:=List.mem_of_getElem? w;have S:h.2.head=Bm σ c.head:=by rw[r];rfl
  rw[S];refine UW z.prog.zK Q (λt ht=>((z.zL c Q).args t ht).zK) (λg k=>?_) A0 (λg k=>?_) (λg k=>?_) ?_
  .exact AL.zK (D g (by
    obtain⟨x,M,rfl⟩:=lk.1 (((B i).2 g).1 k)
    exact o.zW x (mD M)))
  .exact((B i).2 g).2 (h3 g (by rw[r];exact k))
  .exact h4 g (by rw[r];exact k)
  .rw[<-S];exact AL.zK (D _ (o.zW h (List.mem_of_getElem? j)))
 .have AH:f∈m:=Classical.byContradiction λv=>AT (N v)
  obtain⟨BT,x,e,e2⟩:=H AH;subst e;simp only[List.getLast_append,List.getLast_singleton];simpa using e2
def R7{s q t:zA}{r:Int×Int}(h:Tq s q t r)(p:CI s 0 I)(g:GH q=jj)(j:Cf c)(i:c.map A4.erase=(An s (Ae s 0)).1)(b:GF c (B5 c 6) 7 f):
  ∃l,Vv c f (DV q) l/\((l=[]/\r=(7,0)/\t=pF)\/(l≠[]/\r=(0,0)/\t=Hc pF l)):=by
 obtain⟨x,v,k⟩:=h;have e:=DA p v;subst e;rcases k with⟨a,_⟩|⟨_,⟨a,_⟩|⟨_,o,z,u,y,L,n,w,d⟩⟩
 .exact absurd rfl a
 .rw[g]at a;cases a
 .exact⟨_,jk w j i b o,d⟩
def Tb:∀(l:pM Dk),(∀h∈l,Io h.2.head/\Z h.2.head.args<=2/\h.1<12)->Z (PA l)<=310*Z l
 |[],_=>by simp[PA]
 |h::l,hh=>by
  have a:=hh h (by simp);have d:=J7 a.1 a.2.1;have g:=Tb l (λx c=>hh x (by simp[c]));have f:Z (KM h.1).toList<=2:=by
   rcases Xw a.2.2 with⟨_,e⟩|⟨_,e⟩<;>rw[e]<;>simp
  have e:Z (PA (h::l))=Z (Ye h)+Z (PA l):=by unfold PA;rw[lF,lu]
  have b:Z (Ye h)=Z (BN h.2.head).toList+(1+(Z (KM h.1).toList+1)):=by
   unfold Ye;simp only[lu,lj,lO];omega
  rw[e,b,lj];omega
def Vv.text{m:pM Af}{f:Af}{l:pM Dk}(h:Vv c m f l):(Hc pF l).toList=PA l/\(Hc pF l).size<=9000000000000:=by
 have e:(Hc pF l).toList=PA l:=by rw[T3,show ByteArray.empty.toList=[] from by rw[lN];rfl,mw]
 refine⟨e,?_⟩;rw[AY,e];have:=Tb l (λx a=>⟨(h.full x a).1,(h.full x a).2.1,(h.full x a).2.2.1⟩);have:=h.len;omega
def Io.ok{f:Af}(h:Io f)(b:Z f.args<=2):JP f:=by
 refine⟨by omega,λx a=>?_⟩;rw[AY];rcases h.args x a with h|h
 .have:=h.1;have:=h.2.1;omega
 .have:=h.1;have:=h.2.1;omega
def ZP{a:pM fZ}{l:pM Dk}(c:a.map (λr=>(r.n,r.f.f))=l.map (λh=>(h.1,h.2.head)))(i:Nat):Ku (a.take i)=M4 (l.take i):=by
 have b:(a.map λr=>r.f.f)=l.map λh=>h.2.head:=by
  have:=congrArg (List.map Prod.snd) c;rw[mq,mq]at this;exact this
 unfold Ku M4;rw[List.map_take,<-b,<-List.map_take,List.foldl_map]
def dq{b:pM fZ}{l:pM Dk}(c:b.map (λr=>(r.n,r.f.f))=l.map (λh=>(h.1,h.2.head))){r:fZ}(d:b[i]?=V r):∃h:Dk,l[i]?=V h/\r.n=h.1/\r.f.f=h.2.head:=by
 have a:(b.map (λr=>(r.n,r.f.f)))[i]?=(l.map (λh=>(h.1,h.2.head)))[i]?:=by rw[c]
 rw[mA,mA,d]at a;cases hl:l[i]? with
 |none=>rw[hl]at a;cases a
 |some h=>
  rw[hl]at a;simp only[m0,ld,lZ]at a;exact⟨h,rfl,a.1,a.2⟩
def QG{d:pM A4}(hP:Cf d)(hF:QV d){l:pM Dk}(B:Nat)(D:Option Addr)(C:Nat)(E:Option Addr)(A:Nat)(a:pM fZ)(x:Bv)(t:Option Addr)(u:Nat)(m:pM Bv)(w:py)
  (hm:GF d (B5 d 6) 7 (m.map Bv.f)) (g:Vv d (m.map Bv.f) x.f l) (p:l≠[]) (o:a.map (λr=>(r.n,r.f.f))=l.map (λh=>(h.1,h.2.head)))
  (hB:AF w B [U D (Z d) C] 76) (N:Cl w (U D (Z d) C) d)
  (hl:p9 w 0 110 3 (U E (Z a) A) (Z a) (a.flatMap PP)) (I:∀r∈a,Dx w r.f) (hx:Dx w x) (F:Cv w (U t (Z m) u) m):
  Calls prog 30 #[m2 (V ⟨B,0,Y⟩),U E (Z a) A,pC (ml (Be x)),U t (Z m) u] w λe Q=>e=oa (pE jj)/\Ac [] w Q:=by
 have H:Z a=Z l:=by have:=congrArg List.length o;simpa using this
 have Bx:∀r∈a,∃h∈l,r.n=h.1/\r.f.f=h.2.head:=λr j=>by
  obtain⟨i,hi,e⟩:=lX j;obtain⟨h,b,q⟩:=dq o (i:=i) (by rw[lc hi,e]);exact⟨h,List.mem_of_getElem? b,q⟩
 have AO:a≠[]:=λe=>p (m4.1 (by rw[<-H,e];rfl))
 have R:∀h:a≠[],(a.getLast h).f.f=x.f:=λh=>by
  have b:=g.last p;have B0:0<Z a:=List.length_pos_iff.2 h;obtain⟨y,v,y2,S⟩:=dq o (i:=Z a-1) (r:=a.getLast h) (by rw[List.getLast_eq_getElem,lc]);rw[S,<-b];rw[H]at v;have k:l[Z l-1]?=V (l.getLast p):=by rw[List.getLast_eq_getElem,lc]
  rw[k]at v;cases v
  rfl
 have BT:∃h,h∈l:=⟨_,List.getLast_mem p⟩;refine Ys B D C d E A a x t u m w hB N hl I hx ?_ F (λr j=>?_) hF.len (by have:=g.len;omega) (λi r j=>?_) (λi r c j P W AH L T z hs hf=>?_) AO (λh=>?_)
 .have b:=g.full _ (List.getLast_mem p);rw[<-g.last p];exact b.1.ok b.2.1
 .obtain⟨h,b,q,k⟩:=Bx r j;have s:=g.full h b;rw[q,k];exact⟨s.1.ok s.2.1,s.2.2.2⟩
 .obtain⟨h,b,q,k⟩:=dq o j;rw[ZP o i,k];exact g.new i h b
 .obtain⟨h,b,q,k⟩:=dq o j;have M:L.map Bv.f=M4 (l.take i):=hf.trans (ZP o i);have G:c∈d:=List.mem_of_getElem? P;have s:=g.full h (List.mem_of_getElem? b);refine Uy hP hF G r.f W AH L t u m T ((N.each c G).kept z) ((I r (List.mem_of_getElem? j)).kept z) hs (F.kept z) (by rw[M];exact g.zb i) hm.zb (by rw[k];have:=s.2.1;omega) ?_;rw[M,k];exact g.foll i h c b (by rw[<-q];exact P)
 .rw[R h];exact(Jo _ _).2 rfl
def dx(s:zA):Nat:=AG (λc=>c !=10) s 0
def QM(acc:pM Af)(f:Af):Bool:=match acc.getLast? with
 |none=>jj
 |some g=>CW g f
def Eu:Nat->pM Af->zA->Option (pM Af)
 |0,_,_=>Y
 |n+1,acc,s=>if s.size=0 then V acc else if dx s=s.size then Y else
  if(GH (s.extract 0 (dx s))&&QM acc (DV (s.extract 0 (dx s))))=jj then Eu n (acc++[DV (s.extract 0 (dx s))]) (s.extract (dx s+1) s.size)else Y
def Yd(p:UInt8->Bool)(s:zA)(i:Nat):∀k (h:k<s.size),i<=k->k<AG p s i->p s[k]=jj:=by
 fun_induction AG p s i with
 |case1 i h hp ih=>
  intro k b c a;by_cases e:k=i
  .subst e;exact hp
  .exact ih k b (by omega) a
 |case2 i h hp=>intro k b c a;omega
 |case3 i h=>intro k b c a;omega
def YA(p:UInt8->Bool)(s:zA)(i:Nat):∀(h:AG p s i<s.size),p s[AG p s i]=K:=by
 fun_induction AG p s i with
 |case1 i h hp ih=>exact ih
 |case2 i h hp=>intro a;simpa using hp
 |case3 i h=>intro a;omega
def jc(s:zA):dx s<=s.size:=CM _ _ _ (lz _)
def fC(j:Nat)(a:j<s.size)(h:j<dx s):s[j].toNat≠10:=by
 have:=Yd _ s 0 j a (lz _) h;simp only[bne_iff_ne,ne_eq]at this;exact λe=>this (mO.1 (by rw[e];rfl))
def fB(h:dx s<s.size):s[dx s].toNat=10:=by
 have:=YA _ s 0 h;simp only[bne_eq_false_iff_eq]at this;have e:s[dx s]=10:=this;rw[e];rfl
def jw(c:k<s.size)(a:∀j (d:j<s.size),j<k->s[j].toNat≠10)(b:s[k].toNat=10):dx s=k:=by
 rcases Nat.lt_trichotomy (dx s) k with h|h|h
 .exact absurd (fB (by omega)) (a _ (by omega) h)
 .exact h
 .exact absurd b (fC k c h)
def dJ{x:zA}{a:pM UInt8}(h:s.toList=x.toList++10::a)(p:∀c∈x.toList,c≠10):
  dx s=Z x.toList/\Z x.toList<s.size/\s.extract 0 (Z x.toList)=x/\(s.extract (Z x.toList+1) s.size).toList=a:=by
 have d:=O5 s;rw[h]at d;have q:s.size=Z x.toList+1+Z a:=by rw[AY,h];simp;omega
 have m:∀j (f:j<s.size) (g:j<Z (x.toList++10::a)),s[j]=(x.toList++10::a)[j]:=λj f g=>by
  have:=d.2 j g (by omega);simpa using this
 refine⟨jw (by omega) (λj f b e=>?_) ?_,by omega,?_,?_⟩
 .rw[m j f (by simp;omega),mB b]at e;exact p _ (kV b) (mO.1 (by rw[e];rfl))
 .rw[m _ (by omega) (by simp),List.getElem_append_right (by omega)];simp
 .have:=EO d.left;rw[me]at this;exact this
 .have o:FU s (0+Z x.toList+[(10:UInt8)].length) a:=(FU.right (l:=[10]) d.right);have n:s.extract (Z x.toList+1) (Z x.toList+1+Z a)=⟨ml a⟩:=by
   (have b:a=(⟨ml a⟩:zA).toList:=by rw[lN]);have k:=EO (x:=⟨ml a⟩) (s:=s) (i:=Z x.toList+1) (by rw[<-b];simpa using o);rw[<-b]at k;exact k
  rw[<-q]at n;rw[n,lN]
def IX(l:pM Af):pM UInt8:=l.flatMap λf=>(BN f).toList++[10]
def K0:∀(l b:pM Af) (s:zA) (n:Nat),s.toList=IX l->s.size<n->(∀f∈l,Io f/\Z f.args<=2)->(∀f,l.head?=V f->QM b f=jj)->Eb l->Eu n b s=V (b++l)
 |[],b,s,0,_,hn,_,_,_=>by omega
 |[],b,s,n+1,h,_,_,_,_=>by
  have o:s.size=0:=by rw[AY,h];rfl
  rw[Eu,ln o,lU]
 |f::l,b,s,0,_,hn,_,_,_=>by omega
 |f::l,b,s,n+1,h,hn,hF,hA,hR=>by
  obtain⟨e,i⟩:=hF f (by simp);have q:s.toList=(BN f).toList++10::IX l:=by
   rw[h];unfold IX;simp
  obtain⟨j,u,k,p⟩:=dJ q (WH e);obtain⟨t,r⟩:=RK e i;have d:=mY.1 hR;rw[Eu,li (by omega),j,li (by omega),k,t,r,hA f rfl,ln (by rfl),K0 l (b++[f]) _ n p (by rw[my];omega) (λg c=>hF g (by simp[c])) (λg c=>?_) d.2]
  .simp
  .unfold QM;rw[List.getLast?_append];have:g∈l:=by cases l with
    |nil=>simp at c
    |cons a m=>simp at c;simp[c]
   exact d.1 g this
def O1:∀(l:pM Af) (t:zA),(WN t l).toList=t.toList++IX l
 |[],t=>by simp[WN,IX]
 |f::l,t=>by
  rw[WN,O1 l,Cw,Cw];have a:(⟨#[10]⟩:zA).toList=[10]:=by rw[lN]
  rw[a];unfold IX;simp
def Pp:∀(l:pM Af),(∀f∈l,Io f/\Z f.args<=2)->Z (IX l)<=301*Z l
 |[],_=>by simp[IX]
 |f::l,h=>by
  have a:=Pp l (λg b=>h g (by simp[b]));have c:=J7 (h f (by simp)).1 (h f (by simp)).2;unfold IX at a⊢;rw[lF,lu,lu,lj,lj,lO];omega
def Tn(y:Ja s t 0){g:pM A4}(h:Cf g)(v:(An s (Ae s 0)).2.2=K)(k:g.map A4.erase=(An s (Ae s 0)).1):
  ∃(L:zA->Nat) (N:Nat) (u:pM Af),CR g L/\GF g L N u/\(∀c∈g,L c.head.name<N)/\t=WN pF u/\(∀f∈u,Io f/\Z f.args<=2)/\Z u<=6912:=by
 obtain⟨A,L,N,u,l,o,w,q,rfl⟩:=y.2 rfl;have a:=Hy (l.trans k.symm);have b:=Hy (k.trans l.symm);have i:=a.inv b w;have m:∀f∈u,Io f:=λf e=>PB v k (i.zW f e)
 have p:∀f∈u,AL f:=λf e=>(i.zW f e).canon h.prog.zL
 refine⟨L,N,u,b.zR o,i,λd n=>?_,RU u _ λf e=>⟨p f e,(m f e).ne⟩,λf e=>⟨m f e,?_⟩,?_⟩
 .obtain⟨c,j,x,_⟩:=b d n;rw[<-x];exact q c j
 .obtain⟨c,j,_,r⟩:=(i.zW f e).zb;rw[r];exact(h.order.small.2 c j).2.1
 .have z:=i.len h.prog.zL;have B:=Oe h.order.small.1 (λc j=>(h.order.small.2 c j).2.1);omega
def Pq(g:Ja s t 0)(b:Cf c)(h:(An s (Ae s 0)).2.2=K)(k:c.map A4.erase=(An s (Ae s 0)).1):
  ∃u,Eu (t.size+1) [] t=V u/\Is c u/\SD c u=jj/\t.size<=1000000000000:=by
 obtain⟨L,N,u,i,a,j,rfl,e,m⟩:=Tn g b h k;have d:(WN pF u).toList=IX u:=by
  rw[O1];have:ByteArray.empty.toList=[]:=by rw[lN];rfl
  rw[this,mw]
 have n:=Pp u e;refine⟨u,?_,a.zb,cH (b.other i) a j,by rw[AY,d];omega⟩;rw[K0 u [] _ _ d (Nat.lt_succ_self _) e (λf l=>rfl) a.zM];rfl
def eP(h:GH s=jj):JP (DV s):=by
 obtain⟨_,b,_⟩:=Lw h;unfold GH at h;rw[lJ]at h;obtain⟨a,_⟩:=h;have hF:DV s=Aq Bk (Ao s 0).1.head:=by unfold DV;rw[ln a]
 unfold KT at a;simp only[lJ,no,ng]at a;obtain⟨m,e,g,l,j⟩:=a;rw[hF]at b⊢;refine⟨by simp[Aq];omega,λx c=>?_⟩;have i:=(b x c).size;obtain⟨t,d,rfl⟩:=lk.1 c;have f:=(JY s 0).1.2 t d;have k:(AI Bk t).size<=t.s.size:=by
  unfold AI Bk;split
  .exact lC _
  .rw[lq,List.getElem?_replicate];split<;>exact lz _
 omega
def bf(a:pM Bv)(f:Af):QM (a.map Bv.f) f=match a.getLast? with
 |none=>jj
 |some g=>CW g.f f:=by
 unfold QM;rw[List.getLast?_map];cases a.getLast?<;>rfl
theorem S5(C:zA)(w:py)(SK:C.size<=1000000000000):
  Calls prog 17 #[O C] w λe w'=>∃(z:Option Addr) (G:Nat) (a:pM Bv),e=oa (.tuple #[U z (Z a) G,pE (Eu (C.size+1) [] C).isSome])/\a.map Bv.f=(Eu (C.size+1) [] C).getD []/\Cv w' (U z (Z a) G) a/\Ac [] w w':=by
 obtain⟨i0,OB,M6,RB,N2⟩:=mg Tryz.yL;obtain⟨N,hN⟩:=pN w.heap.size;have HN:=Ab hN;obtain⟨F,hF⟩:=pN (Eu (C.size+1) [] C);rw[hF];have HP:p7 (∀d,F=Y->Ac [] w d->∃(z:Option Addr) (G:Nat) (a:pM Bv),oa (.tuple #[U Y 0 0,pE K])=oa (.tuple #[U z (Z a) G,pE F.isSome])/\a.map Bv.f=F.getD []/\Cv d (U z (Z a) G) a/\Ac [] w d):=λd h k=>⟨Y,0,[],by rw[h];rfl,by rw[h];rfl,⟨lH _ _ _ _,λp hp=>by simp at hp⟩,k⟩
 have HF:=Ab hF;clear hN hF;go_enter func17,ntmps17;go_wp2_with fail
 go_loopg [0,4] C.size (λgk sv lv wr=>∃(s:zA) (n:Nat) (a:pM Bv) (z:Option Addr) (G:Nat),sv=O s/\lv=U z (Z a) G/\p7 (gk=s.size)/\p7 (Z a+s.size<=C.size)/\p7 (s.size<n)/\p7 (Eu n (a.map Bv.f) s=F)/\p7 (p9 wr N 43 2 (U z (Z a) G) (Z a) (a.flatMap Be))/\p7 (∀r∈a,Dx wr r/\JP r.f)/\p7 (Ac [] w wr))
 case atStart=>exact⟨C,C.size+1,[],Y,0,rfl,rfl,rfl,by show _<=_;simp,Nat.lt_succ_self _,HF,lH _ _ _ _,(λr u=>by simp at u),pO _ _⟩
 case round=>
  clear HF;obtain⟨s,n,a,z,G,rfl,rfl,HG,Ax,CC,HR,HO,HE,HK⟩:=hrel;by_cases hz:s.size=0
  .have S:p7 (F=V (a.map Bv.f)):=by
    show _=_;rw[<-Aa HR];obtain⟨m,rfl⟩:∃m,n=m+1:=⟨n-1,by have:=Aa CC;omega⟩;rw[Eu,ln hz]
   clear HR CC Ax HG;go_wp2;go_ret2;exact⟨z,G,a,by rw[Aa S];rfl,by rw[Aa S];rfl,⟨Am HO (lz _),HE⟩,HK⟩
  .obtain⟨m,hm⟩:∃m,n=m+1:=⟨n-1,by have:=Aa CC;omega⟩;subst hm;have S:p7 (F=if dx s=s.size then Y else if(GH (s.extract 0 (dx s))&&QM (a.map Bv.f) (DV (s.extract 0 (dx s))))=jj then Eu m (a.map Bv.f++[DV (s.extract 0 (dx s))]) (s.extract (dx s+1) s.size)else Y):=by
    show _=_;rw[<-Aa HR,Eu,li hz]
   have NM:=jc s;(have JA:p7 (∀j (hj:j<s.size),j<dx s->s[j].toNat≠10):=λj hj h=>fC j hj h);(have HY:p7 (∀(h:dx s<s.size),s[dx s].toNat=10):=λh=>fB h);obtain⟨I,hI⟩:=pN (dx s);(have ST:s.size<=1000000000000:=by have:=Aa Ax;omega);rw[hI]at S NM;(have Ix:p7 (∀j (hj:j<s.size),j<I->s[j].toNat≠10):=by rw[<-hI];exact JA);(have FW:p7 (∀(h:I<s.size),s[I].toNat=10):=by intro h;subst hI;exact HY h);clear HR hI JA HY;(have S0:(0:Int)<(s.size:Int):=by omega);go_wp2_with fail
   go_loopg [5] I (λRT i wq=>∃(j:Nat),i=X J j/\j<=I/\RT=I-j/\wq=wr)
   case atStart=>exact⟨0,rfl,by omega,rfl,rfl⟩
   case round=>
    obtain⟨j,rfl,hj,FO,rfl⟩:=hrel;have KK:=Ab FO;clear FO;(have SL:(0:Int)<=(j:Int):=by omega);by_cases H2:j<I
    ·(have PT:(j:Int)<(s.size:Int):=by omega);have SJ:=Aa Ix j (by omega) H2;(have HW:(((s[j]'(by omega)).toNat:Int) !=10)=jj:=by simp only[bne_iff_ne,ne_eq];omega);go_wp2
     go_roundg (I-(j+1))
     case measure=>have:=Aa KK;omega
     case rel=>exact⟨j+1,by go_num,by omega,rfl,rfl⟩
    ·(obtain rfl:j=I:=by omega);clear KK H2 Ix;by_cases K3:j=s.size
     ·(have Q:p7 (F=Y):=by show _=_;rw[Aa S,ln K3]);(have TV:¬(j:Int)<(s.size:Int):=by omega);(have LL:((j:Int)==(s.size:Int))=jj:=by simp only[mT];omega);clear S FW;go_wp2;go_ret2;exact HP _ Q HK
     ·(have PT:(j:Int)<(s.size:Int):=by omega);(have MY:j<s.size:=by omega);have IA:s[j].toNat=10:=FW MY;(have HW:((s[j].toNat:Int) !=10)=K:=by rw[IA];rfl);(have LL:((j:Int)==(s.size:Int))=K:=by simp only[lQ,ne_eq];omega);have Q:p7 (F=if(GH (s.extract 0 j)&&QM (a.map Bv.f) (DV (s.extract 0 j)))=jj then Eu m (a.map Bv.f++[DV (s.extract 0 j)]) (s.extract (j+1) s.size)else Y):=by
       show _=_;rw[Aa S,li K3]
      clear S FW;obtain⟨x,hx⟩:=pN (s.extract 0 j);rw[hx]at Q;(have TL:x.size<=1000000000000:=by rw[<-hx,my];omega);(have K1:p7 (∀d,Calls prog 26 #[O x] d λe w'=>Vx x d e w'):=λd=>Rj x d (by omega));have HX:=Ab hx;clear hx;(go_wp2_with fail);rw[Aa HX];refine(K1 _).mono ?_;rintro _ T ⟨⟨⟨y,o⟩,qv⟩,rfl,KB,HT,_,k3⟩;obtain⟨E,D,e⟩:=Ak HT;simp only at e;subst e;simp only[Be];have HQ:p7 ((⟨y,o⟩:Af)=DV x):=KB;have H4:=Ab HT;have HM:=Ab (HK.trans k3);have K9:=Ab (Ad HO k3);(have HH:p7 (∀r∈a,Dx T r/\JP r.f):=λr u=>⟨(HE r u).1.kept k3,(HE r u).2⟩);have LS:=k3.size;clear KB HT k3 HO HE HK K1 HW LL IA;have AT:=Ab (pP T [O y,U E (Z o) D] 43);have A0:p7 (Ac [] T (T.alloc (j3 [O y,U E (Z o) D].toArray 43))):=(pO [] T).alloc _;(go_wp2_with fail);generalize T.alloc (j3 [O y,U E (Z o) D].toArray 43)=w4 at AT A0⊢;obtain⟨B,hB⟩:=pN T.heap.size;rw[hB]at AT⊢;(have TX:N<=B:=by have:=HM.size;have:=Aa HN;omega);clear hB LS;have FL:=Ab (HM.trans A0);have EY:=Ab (Ad K9 A0);(have FB:p7 (∀r∈a,Dx w4 r/\JP r.f):=λr u=>⟨(HH r u).1.kept A0,(HH r u).2⟩);have HV:=Ab (H4.kept A0);clear HM K9 HH H4 A0;cases ho:GH x with
      |false=>
       have H:p7 (F=Y):=by
        show _=_;rw[Aa Q,ho];rfl
       clear Q
       go_quiet (fail)
       rename_i nq;have AB:=Ab (FL.drewN nq);go_wp2;go_ret2;exact HP _ H AB
      |true=>
       have H0:=Ab (eP ho);have OH:a=[]\/a≠[]:=Classical.em _;rcases OH with A|A
       case' inl=>
        have H:p7 (F=Eu m (a.map Bv.f++[DV x]) (s.extract (j+1) s.size)):=by
         show _=_;rw[Aa Q,ho,A];rfl
        (have M0:¬(0:Int)<(Z a:Int):=by rw[A];simp);(have B0:¬0<Z a:=by rw[A];simp);(have FO:decide ((0:Int)<(Z a:Int))=K:=by rw[A];rfl);(have Nd:decide (0<Z a)=K:=by rw[A];rfl);clear Q A
        go_quiet (fail)
        clear M0 B0 FO Nd;rename_i nq;have P:=(pO [] w4).drewN nq;generalize w4.drewN nq=R at P⊢
       case' inr=>
        have L0:0<Z a:=List.length_pos_iff.2 A;obtain⟨M,hM⟩:∃M,Z a=M+1:=⟨Z a-1,by omega⟩;obtain⟨g,TS,he,_,HB⟩:=AC (f:=Be) (l:=a) (Aa EY) (λc _=>rfl) M (by omega);have d0:=HB M (by omega) 0 (by omega);have d1:=HB M (by omega) 1 (by omega);have H5:a[M]'(by omega)=a.getLast A:=by
         rw[List.getLast_eq_getElem]
         congr 1
         omega
        obtain⟨EM,HA⟩:=FB _ (List.getLast_mem A);have HL:QM (a.map Bv.f) (DV x)=CW (a.getLast A).f (DV x):=by
         rw[bf,List.getLast?_eq_some_getLast A]
        rw[H5]at d0 d1;obtain⟨r,u⟩:=pN (a.getLast A);rw[u]at d0 d1 EM HA HL;clear H5 u HB;obtain⟨⟨fn,fa⟩,fv⟩:=r;obtain⟨FF,FC,JJ⟩:=Ak EM;simp only at JJ;subst JJ;simp only[kS]at he;obtain⟨rfl,_,rfl⟩:=he;simp[Be]at d0 d1;obtain⟨BA,HD⟩:=pN (CW (⟨fn,fa⟩:Af) (DV x));(have IS:CW (⟨fn,fa⟩:Af) (⟨y,o⟩:Af)=BA:=by rw[<-HD,<-Aa HQ]);(have H7:JP (⟨y,o⟩:Af):=by rw[Aa HQ];exact H0);(have K8:p7 (∀d,Ac [] w4 d->Calls prog 46 #[pC #[O fn,U FF (Z fa) FC],pC #[O y,U E (Z o) D]] d λe w'=>e=oa (pE BA)/\Ac [] d w'):=λd W=>(Tc ⟨⟨fn,fa⟩,U FF (Z fa) FC⟩ ⟨⟨y,o⟩,U E (Z o) D⟩ d (Dx.kept EM W) (Dx.kept HV W) HA H7).mono λe w' h=>⟨h.1.trans (congrArg (λb=>oa (pE b)) IS),h.2⟩);(have K5:p7 (∀d,Ac [] w4 d->p8 d ⟨g,M*2,Y⟩=V (O fn)/\p8 d ⟨g,M*2+1,Y⟩=V (U FF (Z fa) FC)/\p8 d ⟨B,0,Y⟩=V (O y)/\p8 d ⟨B,1,Y⟩=V (U E (Z o) D)):=λd W=>⟨W.cellAt d0,W.cellAt d1,W.cellAt (by have:=AT.cell 0;simpa using this),W.cellAt (by have:=AT.cell 1;simpa using this)⟩);have H:p7 (F=if BA=jj then Eu m (a.map Bv.f++[DV x]) (s.extract (j+1) s.size)else Y):=by
         show _=_;rw[Aa Q,ho,HL,HD];simp
        clear Q HD HL EM HA d0 d1 IS H7;(have Pl:(0:Int)<(Z a:Int):=by omega);(have Mo:(Z a:Int)-1=(M:Int):=by omega);(have M3:(M:Int)<(Z a:Int):=by omega);(have Nx:(0:Int)<=(M:Int):=by omega);(have M1:IntKind.i64.wrap (M:Int)=(M:Int):=by rw[nB];have:=Aa Ax;omega);(have NY:M<Z a:=by omega);(have Os:(0:Int)<=(Z a:Int)-1:=by omega);(have MB:(Z a:Int)-1<(Z a:Int):=by omega);(have NA:((Z a:Int)-1).toNat=M:=by omega);(have QR:Z a-1=M:=by omega);(have RI:1<=Z a:=by omega);(have NS:IntKind.i64.wrap ((Z a:Int)-1)=(M:Int):=by rw[nB];have:=Aa Ax;omega);clear hM A
        go_region_held3 (λd=>Ac [] w4 d/\p8 d ⟨g,M*2,Y⟩=V (O fn)/\p8 d ⟨g,M*2+1,Y⟩=V (U FF (Z fa) FC)/\p8 d ⟨B,0,Y⟩=V (O y)/\p8 d ⟨B,1,Y⟩=V (U E (Z o) D)) ((go_split_ands;refine(fun(LB:Ac [] w4 _)=>And.intro LB (K5 _ LB)) ?_;repeat (first|assumption|exact pO [] _|refine Ac.drew ?_|refine Ac.alloc ?_ _))) ((go_at_call 46;refine(K8 _ (by go_split_ands;assumption)).mono ?_;rintro _ R ⟨rfl,k5⟩;have P:Ac [] w4 R:=(by go_split_ands;exact Ac.trans (by assumption) k5);clear k5))
        rename_i N0;clear N0 K8 K5 Pl Mo M3 Nx NS M1 NY Os MB NA QR RI L0;obtain⟨z,H6⟩:∃z:Option Addr,z=V ⟨g,0,Y⟩:=⟨_,rfl⟩;rw[<-H6]at EY⊢;clear H6;cases BA
        case' false=>
         have K6:p7 (F=Y):=H;have AB:=Ab (FL.trans P);clear H;go_wp2;go_ret2;exact HP _ K6 AB
        have K6:p7 (F=Eu m (a.map Bv.f++[DV x]) (s.extract (j+1) s.size)):=H;clear H
        rename p7 (F=Eu m (a.map Bv.f++[DV x]) (s.extract (j+1) s.size))=>H
       all_goals
        have AB:=Ab (FL.trans P);have EK:=Ab (Ad EY P);(have HI:p7 (∀r∈a,Dx R r/\JP r.f):=λr u=>⟨(FB r u).1.kept P,(FB r u).2⟩);have Jx:p7 (Dx R ⟨⟨y,o⟩,U E (Z o) D⟩):=Dx.kept HV P;have HS:=AT.kept P;have b0:=HS.cell 0;have b1:=HS.cell 1;simp at b0 b1;(have S1:N<=R.heap.size:=by have:=AB.size;have:=Aa HN;omega);clear FL EY FB HV AT P HS;go_wp2_with (at_builtin;change p7 (wpList _ _ _ _ _ _))
        show wpList _ _ _ _ _ _;(have NB:Z a<=1000000000000:=by have:=Aa Ax;omega);refine lG _ rfl (.tmp 52) (.tmp 54) _ rfl N 43 i0 _ 2 40 (by kernel_rfl) OB M6 RB N2 rfl (by omega) (U z (Z a) G) (Z a) (a.flatMap Be) rfl (lg EK _) ⟨R.heap.size,0,Y⟩ 1 1 [O y,U E (Z o) D] rfl rfl (lI (lP R _)) (by simp[Value.oneCell']) (by omega) (by unfold maxLen;omega) (by omega) (by simp;omega) (R.heap.size+1) (by simp) ?_;intro g1 IJ w6 K2 B0 LM M2;have HZ:Ac [] w w6:=(AB.alloc (j3 #[O y,U E (Z o) D] 43)).grown B0 (λq hq=>oj (by have h1:=(EK.lt q hq).1;have:=Aa HN;omega));have Ha:∀{b e sz n:Nat} {v:p5} {ys:pM p5},p9 R b e sz v n ys->e≠43->p9 w6 b e sz v n ys:=fun{b e sz n v ys} u h1=>mI (v:=v) (lg (v:=v) u _) B0 (by
         cases hpo:v.ownBlock with
         |none=>exact oi rfl
         |some q=>exact oj (λe=>Bc u EK h1 q hpo e.symm))
        obtain⟨L,B9⟩:∃L:pM Bv,L=a++[⟨⟨y,o⟩,U E (Z o) D⟩]:=⟨_,rfl⟩;(have FA:Z a+1=Z L:=by rw[B9];simp);have N4:p7 (p9 w6 N 43 2 (U (V ⟨g1,0,Y⟩) (Z L) IJ) (Z L) (L.flatMap Be)):=by
         rw[<-FA,B9,lM];exact K2
        have Op:p7 (∀r∈L,Dx w6 r/\JP r.f):=λr u=>by
         rw[B9]at u;rcases lw.1 u with h|h
         .exact⟨Ha (v:=r.av) (HI r h).1 (by decide),(HI r h).2⟩
         .simp only[kY]at h;subst h;exact⟨Ha Jx (by decide),by show JP (⟨y,o⟩:Af);rw[Aa HQ];exact H0⟩
        have QQ:=Ab HZ;rw[FA];have MN:p7 (Eu m (L.map Bv.f) (s.extract (j+1) s.size)=F):=by
         show _=_;rw[Aa H,B9,lV,<-Aa HQ];rfl
        have Nj:p7 (Z L+(s.extract (j+1) s.size).size<=C.size):=by
         have:=Aa Ax;show _<=_;rw[<-FA,my];omega
        have RV:p7 ((s.extract (j+1) s.size).size<m):=by
         have:=Aa CC;show _<_;rw[my];omega
        clear Ha K2 B0 LM M2 HZ EK HI Jx AB b0 b1 FA B9 NB HQ H Ax CC;(have SP:(j:Int)+1<=(s.size:Int):=by omega);(have T0:(0:Int)<=(j:Int)+1:=by omega);go_wp2
        go_roundg (s.size-(j+1))
        case measure=>have:=Aa HG;omega
        case rel=>exact⟨s.extract (j+1) s.size,m,L,V ⟨g1,0,Y⟩,IJ,rfl,rfl,by show _=_;rw[my];omega,Nj,RV,MN,N4,Op,QQ⟩
theorem eZ(F:Option Addr)(M:Nat)(a:pM Bv)(x:Bv)(w:py)(h:Cv w (U F (Z a) M) a)(z:Dx w x)(BS:Z a<=1000000)(W:Z x.f.args<=1000):
  Calls prog 21 #[U F (Z a) M,pC (ml (Be x))] w λe t=>e=oa (pE (a.any λp=>DJ p.f x.f))/\Ac [] w t:=by
 have S:p7 (∀(p:Bv) wr,p∈a->Ac [] w wr->Calls prog 49 #[pC (ml (Be p)),pC (ml (Be x))] wr λe t=>e=oa (pE (DJ p.f x.f))/\Ac [] wr t):=λp wr H u=>O4 p x wr ((h.each p H).1.kept u) (z.kept u) (by have:=(h.each p H).2.len;omega) (by omega)
 have HS:=Ab h;obtain⟨⟨c,b⟩,xv⟩:=x;obtain⟨m,l,I⟩:=Ak z;simp only at I;subst I;obtain⟨R,A⟩:=pN (a.any λp=>DJ p.f ⟨c,b⟩);rw[show(a.any λp=>DJ p.f (⟨⟨c,b⟩,U m (Z b) l⟩:Bv).f)=R from A]
 have P:=Ab A;have d:=Ab (pP w [O c,U m (Z b) l] 43);have j:=Ab ((pO [] w).alloc (j3 [O c,U m (Z b) l].toArray 43));clear h z W A;simp only[Be]at S⊢;go_enter func21,ntmps21;go_wp2;change Code.wp _ _ _ _ (w.alloc (j3 [O c,U m (Z b) l].toArray 43));generalize w.alloc (j3 [O c,U m (Z b) l].toArray 43)=w1 at d j⊢;generalize w.heap.size=N at d⊢
 go_loopg [5,6] (Z a) (λgk i q wr=>∃(k:Nat),i=X J k/\k<=Z a/\gk=Z a-k/\p7 ((a.take k).any (λp=>DJ p.f ⟨c,b⟩)=K)/\p7 (Ac [] w wr)/\p7 (AF wr N [O c,U m (Z b) l] 43))
 case atStart=>exact⟨0,rfl,by omega,rfl,by show _=_;simp,j,d⟩
 case round=>
  clear d j;obtain⟨k,rfl,u,E,G,j,d⟩:=hrel;have HG:=Ab E;clear E;by_cases r:k<Z a
  .obtain⟨g,BA,n,B,ad,cp,Q,s,d0,d1⟩:=C1 (HS.kept j) k r;simp only[kS]at Q;obtain⟨rfl,_,rfl⟩:=Q;have c0:=d.cell 0;have c1:=d.cell 1;simp at c0 c1;have o:=Ab (S a[k] wr.drew (kV r) j.drew);have L:p7 (DJ ⟨n,B⟩ ⟨c,b⟩=jj->R=jj):=by
    intro y;rw[<-Aa P];exact I7 _ _ k r (by rw[s];exact y)
   have D:p7 (DJ ⟨n,B⟩ ⟨c,b⟩=K->(a.take (k+1)).any (λp=>DJ p.f ⟨c,b⟩)=K):=by
    intro y;rw[CU _ _ k r (Aa G),s];exact y
   rw[s]at o;simp only at o;generalize DJ ⟨n,B⟩ ⟨c,b⟩=SB at o L D;clear s;go_wp2_with fail
   go_region_law (go_simp;go_at_call 49;refine o.mono ?_;rintro e w3 ⟨rfl,v⟩;have T:=Ab (j.drew.trans v);have AH:=Ab (d.drew.kept v);clear v)
   all_goals
    clear o;cases SB with
    |true=>
     have C:=Ab (L rfl);go_wp2;go_ret;rw[Aa C];exact⟨rfl,T⟩
    |false=>
     have C:=Ab (D rfl);go_wp2
     go_roundg (Z a-(k+1))
     case measure=>have:=Aa HG;omega
     case rel=>exact⟨k+1,by go_num,by omega,rfl,C,T,AH⟩
  .have HE:p7 (R=K):=by
    have h:=Aa G;rw[kX (by omega)]at h;show _=_;rw[<-Aa P];exact h
   go_wp2;go_ret;rw[HE.out];exact⟨rfl,j⟩
def fK{a:pM A4}{b:zA->Nat}(c:Ny a b){n:Nat}:∀(k:Nat) (s:pM Af),Z (So a)-Z s<=k->GF a b n s->∃g,GF a b (n+1) g
 |0,s,hk,h=>by
  obtain⟨f,d,e,i⟩:=Ib c h;cases hb:(Dq a b n s).2 with
  |false=>exact⟨s,(d hb).2⟩
  |true=>have:=e hb;omega
 |k+1,s,hk,h=>by
  obtain⟨f,d,e,i⟩:=Ib c h;cases hb:(Dq a b n s).2 with
  |false=>exact⟨s,(d hb).2⟩
  |true=>exact fK c k _ (by have:=e hb;omega) f
def fH{b:pM A4}{a:zA->Nat}(c:Ny b a):∀n,∃s,GF b a n s
 |0=>⟨[],GF.start b a⟩
 |n+1=>by
  obtain⟨s,h⟩:=fH c n;exact fK c _ s (lC _) h
def Yx(h:Ja s t 0)(a:Cf c)(i:(An s (Ae s 0)).2.2=K)(j:c.map A4.erase=(An s (Ae s 0)).1):
  ∃u,Eu (t.size+1) [] t=V u/\GF c (B5 c 6) 7 u/\(∀f∈u,Io f/\Z f.args<=2)/\Z u<=6912/\t.size<=1000000000000:=by
 obtain⟨L,N,u,m,d,p,o,g,n⟩:=Tn h a i j;obtain⟨v,b⟩:=fH a.prog 7;have e:=a.one b m d p;subst e;obtain⟨x,w,q,y,k⟩:=Pq h a i j;have l:t.toList=IX v:=by
  rw[o,O1];have:ByteArray.empty.toList=[]:=by rw[lN];rfl
  rw[this,mw]
 refine⟨v,?_,b,g,n,k⟩;rw[K0 v [] _ _ l (Nat.lt_succ_self _) g (λf r=>rfl) d.zM];rfl
def gT(s:zA):Z (DV s).args<=1000:=by
 unfold DV;split
 .rename_i a;unfold KT at a;simp only[lJ,no,ng]at a;obtain⟨_,_,_,_,b⟩:=a;simp[Aq];omega
 .simp[Zl]
structure fA(S:zA)(pb:Nat)(mad:Option Addr)(mcp:Nat)(rs:pM Bv)(w:py):Prop where
 text:∀p∈rs,∀wz,Ac [] w wz->Calls prog 28 #[pC (ml (Be p))] wz λe w'=>e=oa (O (BN p.f))/\Ac [] wz w'
 why:∀p∈rs,∀wz,Ac [] w wz->Calls prog 27 #[O S,O (BN p.f)] wz λe w'=>∃(t:zA) (a:Int),e=oa (.tuple #[O t,X J 0,X J a])/\Ac [] wz w'/\
  ∀wy,Ac [] w wy->Calls prog 29 #[O t] wy λe w'=>∃(ad:Option Addr) (cp n:Nat),e=oa (.tuple #[U ad n cp,pE jj])/\Ac [] wy w'/\
   ∀wx,Ac [] w' wx->Calls prog 30 #[m2 (V ⟨pb,0,Y⟩),U ad n cp,pC (ml (Be p)),U mad (Z rs) mcp] wx λe w'=>e=oa (pE jj)/\Ac [] wx w'
def gC(hS:s.size<=9223372036854775807)(E:Cf c)(hF:QV c)(P:CI s 0 0)(AT:c.map A4.erase=(An s (Ae s 0)).1){g:Option Addr}{b:pM Bv}
  (hP:AF w n [U o (Z c) m] 76) (hR:Cl w (U o (Z c) m) c) (H:GF c (B5 c 6) 7 (b.map Bv.f)) (M:∀f∈b.map Bv.f,Io f/\Z f.args<=2) (v:Cv w (U g (Z b) i) b):fA s n g i b w:=by
 refine⟨λp d q A=>?_,λp d q A=>?_⟩
 .obtain⟨j,z⟩:=v.each p d;have h3:=(M p.f (lB d)).1.name.2.1;exact Nf p q (j.kept A) z (by rw[AY];omega)
 .obtain⟨j,z⟩:=v.each p d;obtain⟨B,G⟩:=M p.f (lB d);obtain⟨T,Q⟩:=RK B G;have B2:=J7 B G;refine(N5 s (BN p.f) q hS (by rw[AY];omega)).mono ?_;rintro _ w' ⟨t,r,rfl,W,k⟩;obtain⟨l,a,hc⟩:=R7 W P T E AT H;rw[Q]at a;have y:l≠[]:=a.some_.1 (lB d);obtain⟨_,rfl,rfl⟩:l≠[]/\r=(0,0)/\t=Hc pF l:=by
   rcases hc with⟨h,_⟩|h
   .exact absurd h y
   .exact h
  obtain⟨Ax,AO⟩:=a.text;refine⟨_,_,rfl,k,λN hy=>?_⟩;refine(Ub (Hc pF l) l N Ax AO (λh u=>⟨(a.full h u).1,(a.full h u).2.1,(a.full h u).2.2.1⟩) a.len).mono ?_;rintro _ w2 ⟨D,L,F,rfl,e1,R,e3,I⟩;refine⟨D,L,Z F,rfl,I,λC x=>?_⟩;have e:Ac [] w C:=(hy.trans I).trans x;exact QG E hF n o m D L F p g i b C H a y e1 (hP.kept e) (hR.kept e) (Ad R x) (λr hr=>(e3 r hr).kept x) (j.kept e) (v.kept e)
theorem Uz(H5:∀w,Calls prog 19 #[] w λe n=>e=oa (pE jj)/\Ac [] w n)
  (C B d HP:Nat) (QQ:Nat->Int) (S T:Nat->zA) (w:py) (h:LZ w C B d QQ S T) (hl:d<=HP) (hc:HP<=9223372036854775807) (hS:∀i,i<d->(S i).size<=9223372036854775807/\(T i).size<=9223372036854775807):
  Calls prog 10 #[U (V ⟨C,B,Y⟩) d HP] w λe n=>e=oa (pE jj)/\Ac [] w n:=by
 have Ax:=Ab h;have IS:=Ab hS;have M0:=Ab H5;clear h hS H5;go_enter func10,ntmps10;go_wp2
 go_loopg [3] d (λgk i wr=>∃(k:Nat),i=X J k/\k<=d/\k<=1152921504606846976/\gk=d-k/\p7 (Ac [] w wr))
 case atStart=>exact⟨0,rfl,by omega,by omega,rfl,pO _ _⟩
 case round=>
  obtain⟨k,rfl,o,PT,L0,W⟩:=hrel;have HG:=Ab L0;clear L0;by_cases I:k<d
  ·(have P0:(k:Int)<(d:Int):=by omega);(have SP:(0:Int)<=(k:Int):=by omega);by_cases IA:k<1152921504606846976
   ·(have NY:(k:Int)<1152921504606846976:=by omega);have BS:=Ab IA;clear IA PT;obtain⟨A,s,v⟩:=Ax.kept W k I;have ES:=(Aa IS k I).1;have Mo:=(Aa IS k I).2;have MY:=Ab (Hr (S k) wr ES);(go_wp2_with fail);refine MY.mono ?_;rintro _ w3 ⟨pv,er,Nq,rfl,Ix,FP,k3⟩;have HI:=Ab Ix;have FA:=Ab FP;have CL:=Ab (W.trans k3);clear MY Ix FP k3 W A s v;by_cases h0:er=0
    .subst h0;obtain⟨A,s,v⟩:=Ax.kept CL k I;have RE:((0:Int) !=0)=K:=rfl;have H1:=Ab (IK (S k) w3 ES);(go_wp2_with fail);refine H1.mono ?_;rintro _ w2 ⟨t,⟨rc,ra⟩,rfl,JA,KK,G⟩;have Nj:(rc,ra)=(0,Nq):=DA HI JA;obtain⟨rfl,rfl⟩:=Prod.mk.inj Nj;obtain⟨pb,T0,TL,cs,rfl,hP,hR,hF,NB,hr,N,FF⟩:=FA rfl;have B9:=C7 hr N FF;obtain⟨u,hu,HT,KS,HN,K9⟩:=Yx KK B9 hr N;have HF:p7 (CI (S k) 0 0):=by
      show CI _ _ _;unfold CI;rw[li (by omega),li (by rw[hr];simp)];exact⟨cs,N,FF.symm⟩
     have HV:p7 (Calls prog 17 #[O t] w2 λe n=>∃(x:Option Addr) (y:Nat) (c:pM Bv),e=oa (.tuple #[U x (Z c) y,pE jj])/\c.map Bv.f=u/\Cv n (U x (Z c) y) c/\Ac [] w2 n):=by
      have h:=S5 t w2 K9;rw[hu]at h;exact h
     have K1:p7 (∀(x:Option Addr) (y:Nat) (c:pM Bv) a,Ac [] w3 a->c.map Bv.f=u->Cv a (U x (Z c) y) c->fA (S k) pb x y c a):=by
      intro x y c a o e R;exact gC ES B9 hF HF N (hP.kept o) (hR.kept o) (by rw[e];exact HT) (by rw[e];exact KS) R
     have HS:p7 (∀(t:zA) (r:Int×Int),Tq (S k) (T k) t r->GH (T k)=jj->DV (T k)∉u->r=(7,0)/\t=pF):=by
      intro t r hw ho hn;obtain⟨l,hO,hc⟩:=R7 hw HF ho B9 N HT;rcases hc with⟨_,h⟩|⟨h,_⟩
      .exact h
      .exact absurd (hO.some_.2 h) hn
     have P:=Ab (CL.trans G);have HY:=Ab G;clear hP hR hF NB hr N FF B9 hu HT KS K9 FA HI HF H1 JA KK G Nj A s v CL;(go_wp2_with fail);refine HV.mono ?_;rintro _ w4 ⟨x,y,c,rfl,hm,R,k4⟩;have HW:=Ab (K1 x y c w4 (HY.trans k4) hm R);(have FP:Z c<=6912:=by rw[<-hm,lm]at HN;exact HN);have NL:=Ab hm;have Dk:=Ab R;have HO:=Ab (P.trans k4);clear HV K1 hm R k4 P HY HN;go_wp2_with (go_at_call 16;refine(E6 0 _).mono ?_;rintro _ w5 ⟨rfl,N4⟩;subst N4)
     go_loopg [12] (Z c) (λgk i wq=>∃(j:Nat),i=X J j/\j<=Z c/\gk=Z c-j/\p7 (Ac [] w5 wq))
     case atStart=>exact⟨0,rfl,by omega,rfl,pO _ _⟩
     case round=>
      obtain⟨j,rfl,hj,H3,z⟩:=hrel;have M3:=Ab H3;clear H3;(have NM:(0:Int)<=(j:Int):=by omega);by_cases FB:j<Z c
      ·(have SL:(j:Int)<(Z c:Int):=by omega);obtain⟨g,TS,fn,fa,HM,HL,he,K4,e0,H⟩:=C1 (Dk.kept z) j FB;simp only[kS]at he;obtain⟨rfl,_,rfl⟩:=he;obtain⟨A,s,v⟩:=Ax.kept (HO.trans z) k I;have B2:c[j]∈c:=kV FB;rw[K4]at B2;(have L:p7 (∀a,Ac [] wr a->p8 a ⟨C,B+k*3+1,Y⟩=V (O (S k))/\p8 a ⟨g,j*2,Y⟩=V (O fn)/\p8 a ⟨g,j*2+1,Y⟩=V (U HM (Z fa) HL)):=λa o=>⟨o.cellAt s,o.cellAt e0,o.cellAt H⟩);(have HU:p7 (∀a,Ac [] wr a->Calls prog 28 #[pC #[O fn,U HM (Z fa) HL]] a λe n=>e=oa (O (BN ⟨fn,fa⟩))/\Ac [] a n):=λa o=>HW.text _ B2 a (z.trans o));have DT:=Ab (HW.why _ B2);obtain⟨FT,MB⟩:=pN (BN ⟨fn,fa⟩);simp only[Be]at DT;rw[MB]at HU DT;clear MB B2 K4;go_wp2_with fail
       go_region_held3 (λa=>Ac [] wr a/\p8 a ⟨C,B+k*3+1,Y⟩=V (O (S k))/\p8 a ⟨g,j*2,Y⟩=V (O fn)/\p8 a ⟨g,j*2+1,Y⟩=V (U HM (Z fa) HL)) ((go_split_ands;refine(fun(A0:Ac [] wr _)=>And.intro A0 (L _ A0)) ?_;repeat (first|assumption|exact pO [] _|refine Ac.drew ?_|refine Ac.alloc ?_ _))) (first|(go_at_call 28;refine(HU _ (by go_split_ands;assumption)).mono ?_;rintro _ M ⟨rfl,Q⟩;have N2:Ac [] wr M:=(by go_split_ands;exact Ac.trans (by assumption) Q);clear Q)|(go_at_call 27;refine(DT _ (z.trans (by go_split_ands;assumption))).mono ?_;rintro _ w7 ⟨t7,a7,rfl,k7,KA⟩;have E0:Ac [] wr w7:=(by go_split_ands;exact Ac.trans (by assumption) k7);have H7:=Ab KA;clear k7 KA))
       rename_i HD;clear HD N2;have MN:=Ab (H7 w7 (z.trans E0));clear H7 HU DT A s v e0 H;(go_wp2_with fail);refine MN.mono ?_;rintro _ F ⟨TX,TV,n8,rfl,k8,K5⟩;have HE:=E0.trans k8;obtain⟨_,e0,H⟩:=L F HE;have Nd:=Ab (K5 F (pO [] F));clear MN K5 k8 E0;(go_wp2_with fail);refine Nd.mono ?_;rintro _ w9 ⟨rfl,k9⟩;have AB:=Ab (z.trans (HE.trans k9));clear Nd HE k9 e0 H L;go_wp2_with (go_at_call 16;refine(E6 0 _).mono ?_;rintro _ wA ⟨rfl,HH⟩;subst HH)
       go_roundg (Z c-(j+1))
       case measure=>have:=Aa M3;omega
       case rel=>exact⟨j+1,by go_num,by omega,rfl,AB⟩
      ·(obtain rfl:j=Z c:=by omega);have FO:=Ab (HO.trans z);obtain⟨A,s,v⟩:=Ax.kept FO k I;have H4:=Ab (Dk.kept z);clear M3 HW NM FB hj Dk z HO;have K7:=Ab (Rj (T k) wr Mo);(go_wp2_with fail);refine K7.mono ?_;rintro _ M ⟨⟨⟨q,m⟩,xv⟩,rfl,HC,Go,_,Q⟩;obtain⟨D,E,e⟩:=Ak Go;simp only at e HC;subst e;simp only[Be];have EX:=Ab HC;have H6:=Ab (Dx.kept Go ((pO [] M).alloc (j3 [O q,U D (Z m) E].toArray 43)));have FL:=Ab (pP M [O q,U D (Z m) E] 43);have LM:=Ab ((FO.trans Q).alloc (j3 [O q,U D (Z m) E].toArray 43));have KB:=Ab (H4.kept (Q.alloc (j3 [O q,U D (Z m) E].toArray 43)));clear K7 Go HC Q A s v H4 FO;(have H8:Z m<=1000:=by have h:=gT (T k);rw[<-Aa EX]at h;exact h);have b0:=FL.cell 0;have b1:=FL.cell 1;simp at b0 b1;obtain⟨HB,EY⟩:=pN (C3 (c.map Bv.f) ⟨q,m⟩);have K8:p7 (Calls prog 21 #[U x (Z c) y,pC #[O q,U D (Z m) E]] (M.alloc (j3 [O q,U D (Z m) E].toArray 43)) λe n=>e=oa (pE HB)/\Ac [] (M.alloc (j3 [O q,U D (Z m) E].toArray 43)) n):=by
        have h:=eZ x y c ⟨⟨q,m⟩,U D (Z m) E⟩ _ KB H6 (by omega) H8;(have hh:(c.any λp=>DJ p.f (⟨q,m⟩:Af))=C3 (c.map Bv.f) ⟨q,m⟩:=by unfold C3;rw[n6];rfl);refine h.mono λe n h=>⟨h.1.trans (congrArg (λb=>oa (pE b)) (hh.trans EY)),h.2⟩
       have RO:=Ab EY;clear EY H6 KB H8;(go_wp2_with fail);refine K8.mono ?_;rintro _ F ⟨rfl,k8⟩;have HA:=Ab (LM.trans k8);clear K8 k8 LM FL b0 b1;obtain⟨A,s,v⟩:=Ax.kept HA k I;(have L:p7 (∀a,Ac [] F a->p8 a ⟨C,B+k*3+1,Y⟩=V (O (S k))/\p8 a ⟨C,B+k*3+2,Y⟩=V (O (T k))):=λa o=>⟨o.cellAt s,o.cellAt v⟩);(have Ha:p7 (∀a,Calls prog 27 #[O (S k),O (T k)] a λe n=>∃(t:zA) (r:Int×Int),e=oa (.tuple #[O t,X J r.1,X J r.2])/\Tq (S k) (T k) t r/\Ac [] a n):=λa=>N5 (S k) (T k) a ES Mo);obtain⟨SK,NV⟩:=pN (S k);obtain⟨TK,H2⟩:=pN (T k);rw[NV,H2]at L Ha HS;rw[H2]at EX⊢;clear A s v;go_wp2_with fail
       go_region_held3 (λa=>Ac [] F a/\p8 a ⟨C,B+k*3+1,Y⟩=V (O SK)/\p8 a ⟨C,B+k*3+2,Y⟩=V (O TK)) ((go_split_ands;refine(fun(A0:Ac [] F _)=>And.intro A0 (L _ A0)) ?_;repeat (first|assumption|exact pO [] _|refine Ac.drew ?_|refine Ac.alloc ?_ _))) ((go_at_call 27;refine(Ha _).mono ?_;rintro _ w9 ⟨t9,⟨Nx,RV⟩,rfl,M6,k9⟩;have LS:Ac [] F w9:=(by go_split_ands;exact Ac.trans (by assumption) k9);clear k9))
       rename_i HD;clear HD;have AB:=Ab (HA.trans LS);have BT:=Ab (HS t9 (Nx,RV) M6);clear L Ha HS LS M6 HA;cases ho:GH TK with
       |false=>
        clear BT;go_wp2
        go_roundg (d-(k+1))
        case measure=>have:=Aa HG;omega
        case rel=>exact⟨k+1,by go_num,by omega,by have:=Aa BS;omega,rfl,AB⟩
       |true=>
        cases HB with
        |true=>
         clear BT;go_wp2
         go_roundg (d-(k+1))
         case measure=>have:=Aa HG;omega
         case rel=>exact⟨k+1,by go_num,by omega,by have:=Aa BS;omega,rfl,AB⟩
        |false=>
         have K3:DV TK∉u:=λh=>by
          rw[<-Aa NL,<-Aa EX]at h;have:=(BK _ _).2 h;rw[Aa RO]at this;cases this
         obtain⟨H,rfl⟩:=BT ho K3;obtain⟨rfl,rfl⟩:=Prod.mk.inj H;clear BT H K3;go_wp2_with (go_at_call 16;refine(E6 7 _).mono ?_;rintro _ wA ⟨rfl,HH⟩;subst HH)
         go_roundg (d-(k+1))
         case measure=>have:=Aa HG;omega
         case rel=>exact⟨k+1,by go_num,by omega,by have:=Aa BS;omega,rfl,AB⟩
    ·(have RE:(er !=0)=jj:=by simpa using h0);clear FA HI;go_wp2
     go_roundg (d-(k+1))
     case measure=>have:=Aa HG;omega
     case rel=>exact⟨k+1,by go_num,by omega,by have:=Aa BS;omega,rfl,CL⟩
   ·(have NY:¬(k:Int)<1152921504606846976:=by omega);(go_wp2_with fail);refine(M0 _).mono ?_;rintro _ w2 ⟨rfl,G⟩;have P:=Ab (W.trans G);go_wp2;go_ret;exact⟨rfl,P⟩
  ·(have P0:¬(k:Int)<(d:Int):=by omega);(go_wp2_with fail);refine(M0 _).mono ?_;rintro _ w2 ⟨rfl,G⟩;have P:=Ab (W.trans G);go_wp2;go_ret;exact⟨rfl,P⟩
set_option maxRecDepth 512
theorem UM(d:∀w,Calls prog 19 #[] w λe b=>e=oa (pE jj)/\Ac [] w b)(a:Option Addr)(g:Nat)(w:py):Calls prog 10 #[U a 0 g] w λe b=>e=oa (pE jj)/\Ac [] w b:=by
 have f:=Ab d;clear d;go_enter func10,ntmps10;go_wp2
 go_loop [3] (λi=>i=X J 0) (λ_=>0)
 case atStart=>rfl
 case round=>
  subst hrel;go_wp2_with fail
  refine(f _).mono ?_;rintro _ j ⟨rfl,c⟩;have h:=Ab c;clear c;go_wp2;go_ret;exact⟨rfl,h⟩
