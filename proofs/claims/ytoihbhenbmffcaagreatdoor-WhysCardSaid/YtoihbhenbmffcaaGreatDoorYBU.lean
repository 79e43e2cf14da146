import Derived.Test.YtoihbhenbmffcaaGreatDoorYBT
import Derived.Test.YtoihbhenbmffcaaGreatDoorYAB
import Derived.Test.YtoihbhenbmffcaaGreatDoorYBS
set_option linter.all false
set_option maxHeartbeats 0
open List renaming length->Z
open Option renaming none->Y,some->V
open Go.Value renaming slice->U,int->X,string->O,pointer->j3
open Bool renaming false->K
open Go.Obj renaming cells->j1
open Go.Ending renaming returned->j4
open Or renaming inr->j6
open ByteArray renaming empty->jK
namespace Go.Proofs.YtoihbhenbmffcaaGreatDoor
open Go.Shelf Go.RowKit
open Go.Proofs.Tryz
def Ib:g0->List De->g0
 |t,[]=>t
 |t,h::l=>Ib (t++Cq h.2.head++⟨#[32]⟩++JB h.1++⟨#[10]⟩) l
def Wv{w:World}{base size n N:Nat}{e:TypeId}{v:Value}{g:List Value}{s:g0}{M:List Nat}(h:w.ownsRow base e size v n g)(k:Od N s M w)(f:e≠145)(c:e≠5):∀i,v.ownBlock=V i->i∉M:=by
 intro i b a;obtain⟨p,m,l,_,j,d,rfl⟩:=k;rcases ey.1 a with rfl|a
 .exact Ap h j f b
 .exact A5 h d c i b (by simpa using a)
structure P1(w:World)(N:Nat)(ad:Option Addr)(cp:Nat)(sts:List (Nat×Si))(t:g0)(wz:World):Prop where
 bui:∃M,Od N t M wz
 row:wz.ownsRow 0 176 4 (U ad (Z sts) cp) (Z sts) (sts.flatMap BU)
 each:∀p∈sts,DL wz p.2.f/\Z p.2.f.f.zB<=1000/\∃a n c,p.2.n=U a n c
 kept:Ac [] w wz
def P1.calm{w d w':World}{N:Nat}{e:Option Addr}{c:Nat}{b:List (Nat×Si)}{t:g0}(h:P1 w N e c b t d)(k:Ac [] d w'):P1 w N e c b t w':=by
 obtain⟨M,f⟩:=h.bui;exact⟨⟨M,f.kept k (by simp)⟩,Ad h.row k (by simp),λp a=>⟨(h.each p a).1.kept k,(h.each p a).2⟩,h.kept.trans k⟩
def P1.step{w d w':World}{N:Nat}{k:Option Addr}{j:Nat}{e:List (Nat×Si)}{t g:g0}{M:List Nat}(r:w.heap.size=N)(h:P1 w N k j e t d)(c:Od N t M d)(l:cY N g M d w'):P1 w N k j e g w':=by
 obtain⟨m,n,b,q⟩:=l;exact⟨⟨m,n⟩,Al h.row b (Wv h.row c (by decide) (by decide)),λp a=>⟨Al (v:=p.2.f.tv) (h.each p a).1 b (Wv (v:=p.2.f.tv) (h.each p a).1 c (by decide) (by decide)),(h.each p a).2⟩,h.kept.trans' b (λi o=>j6 (by have:=(c.lt i o).1;omega))⟩
set_option maxRecDepth 100000
theorem VG(KA:Option Addr)(H7:Nat)(B9:List Dq)(q:List A8)(F:Af)(fp:Fe)(w:World)(hP:DG w (U KA (Z B9) H7) B9)(hB:NF B9 q)(hf:fp.f=BJ F)(hc:AM F)(HY:DL w fp)(M2:Z fp.f.zB<=1000)
  (hz:∀f,Fd q f->f.name.size<=1000000/\∀x∈(BJ f).zB,x.size<=1000000) (K1:∀f,Fd q f->f.args≠[]):
  Calls prog 54 #[U KA (Z B9) H7,.agg (AW fp).toArray] w λr G=>∃(s:List Af) (a:List De) (L:g0->Nat) (n:Nat),r=j4 (O (Ib jK (G7 a F)))/\We q a s/\Di q L/\Jd q L n s/\(∀c∈q,L c.head.name<n)/\Ac [] w G:=by
 obtain⟨⟨fn,Bx⟩,WS⟩:=fp;obtain⟨E0,EY,e⟩:=Ak HY;simp only at e hf M2;subst e;simp only[AW];have HL:=Ab ((Ac.refl [] w).alloc (j1 [O fn,U E0 (Z Bx) EY].toArray 104));have FP:=Ab (AI.new w [O fn,U E0 (Z Bx) EY] 104);obtain⟨C,FO⟩:∃C,w.alloc (j1 [O fn,U E0 (Z Bx) EY].toArray 104)=C:=⟨_,rfl⟩;obtain⟨FB,Ha⟩:∃FB,w.heap.size=FB:=⟨_,rfl⟩;have WB:=Ab Ha;have Wa:=Ab FO;rw[FO]at HL FP;rw[Ha]at FP;obtain⟨N,hN⟩:∃N,C.heap.size=N:=⟨_,rfl⟩;have HN:=Ab hN;have X2:Hid (FB+1=N):=by show _=_;rw[<-hN,<-FO,fg,Ha]
 have EX:=Ab ((Ac.refl [] C).alloc (j1 #[j3 Y,U Y 0 0] 145));have HU:=Ab (Od.new C);rw[hN]at HU;have HI:=Ab (aI KA H7 B9 q F ⟨⟨fn,Bx⟩,U E0 (Z Bx) EY⟩ (C.alloc (j1 #[j3 Y,U Y 0 0] 145)) (hP.kept (HL.trans EX)) hB hf hc (HY.kept (HL.trans EX)) M2);simp only[AW]at HI;have HD:=Ab (FP.kept EX (by simp));have K6:Hid (∀(s:List Af) (a:List De) (L:g0->Nat) (n:Nat),We q a s->Jd q L n s->∀h∈G7 a F,h.1<12/\AM h.2.head/\h.2.head.args≠[]/\h.2.head.name.size<=1000000/\∀x∈(BJ h.2.head).zB,x.size<=1000000):=by
  intro s a L n hr hi h hh;have hw:=hB.zg hi;have hp:=(hr.proof hw.2.1 hc).1;have AB:=hp.zY h hh;have H9:=hi.zY _ AB;obtain⟨A,B,e⟩:=List.append_of_mem hh;obtain⟨D,_⟩:=hp.each A h B e;have h2:=hB.pass.order.small.1;exact⟨by omega,hw.2.1 _ AB,K1 _ H9,(hz _ H9).1,(hz _ H9).2⟩
 have N4:Hid (∀(s:List Af) (a:List De) (L:g0->Nat) (n:Nat),We q a s->Jd q L n s->Z (G7 a F)<=7000):=by
  intro s a L n hr hi;have hw:=(hB.zg hi).2.2;have D:=Ht (a.map λh=>h.2.head) s hr.nd (λf hf=>(hr.mem f).2 hf);have h2:=O1 a.reverse ([],[F]);rw[OZ]at h2;simp only[gd,List.length_reverse,fb,eL]at D h2;show Z (I0 a.reverse [F])<=7000;omega
 clear hP hB hf hc HY hz K1 hN FO Ha;go_enter func54,ntmps54;refine jT (λz j=>?_);go_wp2;refine j _ _ ?_;clear j z;change Code.wp _ _ _ _ (w.alloc (j1 [O fn,U E0 (Z Bx) EY].toArray 104));rw[Aa Wa,Aa WB];refine jT (λz j=>?_);go_wp2;refine j _ _ ?_;clear j z;rw[Aa HN];generalize C.alloc (j1 #[j3 Y,U Y 0 0] 145)=w2 at EX HU HI HD⊢;have b0:=HD.cell 0;have b1:=HD.cell 1;simp at b0 b1;refine jT (λz j=>?_);go_wp2_with fail
 refine HI.mono ?_;rintro _ w3 ⟨ad,cp,v,s,a,L,n,rfl,NS,LE,H3,HQ,Pl,AB,PT,k3⟩;have Nj:Hid (P1 C N ad cp v jK w3):=⟨⟨_,HU.kept k3 (by simp)⟩,NS,LE,EX.trans k3⟩;have S1:Hid (We q a s/\Di q L/\Jd q L n s/\(∀c∈q,L c.head.name<n)):=⟨HQ,Pl,AB,PT⟩;have RB:=Ab (K6 s a L n HQ AB);have SP:=Ab H3;have MY:Z v=Z (G7 a F):=by have h:=congrArg List.length H3;simpa using h
 have NV:=Ab MY;have ag:Z v<=7000:=by have:=Aa N4 s a L n HQ AB;omega
 obtain⟨Q,HT⟩:∃Q,Ib jK (G7 a F)=Q:=⟨_,rfl⟩;have MB:Hid (Ib jK ((G7 a F).drop 0)=Q):=HT;have P0:=Ab HT;clear HI NS LE H3 HQ Pl AB PT k3 b0 b1 HD FP K6 N4 MY HT;go_wp2_with fail
 go_loopg [12] (Z v) (λgk i wr=>∃(k:Nat) (t:g0),i=X .i64 k/\k<=Z v/\gk=Z v-k/\t.size<=k*2000000010/\Hid (Ib t ((G7 a F).drop k)=Q)/\Hid (P1 C N ad cp v t wr))
 case atStart=>exact⟨0,jK,rfl,by omega,rfl,by simp,MB,Nj⟩
 case round=>
  clear MB Nj;obtain⟨k,t,rfl,hk,N2,ZV,HC,R⟩:=hrel;have HG:=Ab N2;clear N2;by_cases HA:k<Z v
  ·(have HV:k<Z (G7 a F):=by have:=Aa NV;omega);obtain⟨g,hg,a0,a1,W,a3⟩:=IN R.row k HA;subst hg;have E:=congrArg (λl=>l[k]?) SP;simp only[fM,ez HA,ez HV,gu,eD,fo]at E;obtain⟨o1,o2,o3,o4,o5⟩:=RB _ (eo HV);have IS:Ib t ((G7 a F).drop k)=Ib (t++Cq (G7 a F)[k].2.head++⟨#[32]⟩++JB (G7 a F)[k].1++⟨#[10]⟩) ((G7 a F).drop (k+1)):=by
    rw[eQ HV,Ib]
   have B0:=R.each _ (eo HA);obtain⟨H,hH⟩:∃H,(G7 a F)[k]=H:=⟨_,rfl⟩;rw[hH]at E o1 o2 o3 o4 o5 IS;obtain⟨⟨RE,⟨⟨T,P⟩,WS⟩,nv,ab⟩,Jx⟩:∃p,v[k]=p:=⟨_,rfl⟩;rw[Jx]at a0 a1 W a3 E B0;simp only at a0 a1 W a3 E B0;obtain⟨pa,pc,e1⟩:=Ak B0.1;simp only at e1;subst e1;obtain⟨WW,A0⟩:=E;have VR:RE=H.1:=WW;subst VR;(have JJ:Gy ⟨T,P⟩=Cq H.2.head:=by rw[A0,RC o2 o3]);obtain⟨qa,qn,qc,QQ⟩:=B0.2.2;subst QQ;have X1:k*2000000010<=7000*2000000010:=fV _ (by omega);have S0:(Cq H.2.head).size<=2000000000:=by
    rw[<-JJ];exact VA B0.2.1 (by rw[A0];exact o5) (by rw[A0];exact o4)
   have TS:(JB H.1).size<=2:=by
    unfold JB;split
    .show 1<=2;omega
    .show 2<=2;omega
   have H2:Hid (∀o,P1 C N (V ⟨g,0,Y⟩) cp v t o->Calls prog 76 #[.agg #[O T,U pa (Z P) pc]] o λe G=>e=j4 (O (Cq H.2.head))/\Ac [] o G):=by
    intro o hz;have D:=(hz.each _ (eo HA));rw[Jx]at D;have h2:=Nw ⟨⟨T,P⟩,U pa (Z P) pc⟩ o D.1 D.2.1 (by rw[A0];exact o5) (by rw[A0];exact o4);simp only[AW,JJ]at h2;exact h2
   have NA:Hid (∀(y u:g0) o,P1 C N (V ⟨g,0,Y⟩) cp v u o->u.size+y.size<=140737488355328->Calls prog 75 #[j3 (V ⟨N,0,Y⟩),O y] o λe G=>e=j4 (.tuple #[X .i64 y.size,.nilIface])/\P1 C N (V ⟨g,0,Y⟩) cp v (u++y) G/\∀b S,AI o b S 176->AI G b S 176):=by
    intro y u o h hl;obtain⟨M,D⟩:=h.bui;refine(Z8 N u M y o D hl).mono ?_;rintro e G ⟨rfl,hW⟩;refine⟨rfl,h.step HN D hW,λb S I=>?_⟩;obtain⟨_,_,hk,_⟩:=hW;refine I.kept hk (λE=>?_);obtain⟨p,W0,VL,_,AH,HR,rfl⟩:=D;rcases ey.1 E with rfl|E
    .unfold AI at I AH;rw[I]at AH;simp at AH
    .exact Ap HR I (by decide) (by simpa using E)
   have K8:Hid (∀(d:UInt8) (u:g0) o,P1 C N (V ⟨g,0,Y⟩) cp v u o->u.size+1<=140737488355328->Calls prog 77 #[j3 (V ⟨N,0,Y⟩),X .u8 (d.toNat:Int)] o λe G=>e=j4 .nilIface/\P1 C N (V ⟨g,0,Y⟩) cp v (u++⟨#[d]⟩) G/\∀b S,AI o b S 176->AI G b S 176):=by
    intro d u o h hl;obtain⟨M,D⟩:=h.bui;refine(YQ N u M d o D hl).mono ?_;rintro e G ⟨rfl,hW⟩;refine⟨rfl,h.step HN D hW,λb S I=>?_⟩;obtain⟨_,_,hk,_⟩:=hW;refine I.kept hk (λE=>?_);obtain⟨p,W0,VL,_,AH,HR,rfl⟩:=D;rcases ey.1 E with rfl|E
    .unfold AI at I AH;rw[I]at AH;simp at AH
    .exact Ap HR I (by decide) (by simpa using E)
   have HJ:=Ab (ae H.1 o1);have H1:Hid (Ib (t++Cq H.2.head++⟨#[32]⟩++JB H.1++⟨#[10]⟩) ((G7 a F).drop (k+1))=Q):=IS.symm.trans HC;generalize Cq H.2.head=FT at H1 H2 S0;generalize JB H.1=DT at H1 HJ TS;generalize H.1=HN1 at W HJ;(have YP:(0:Int)<=(k:Int):=by omega);(have XS:(k:Int)<(Z v:Int):=by omega);have X3:(⟨#[32]⟩:g0).size=1:=rfl;have X0:(⟨#[10]⟩:g0).size=1:=rfl;have AT:=Ab (AI.new wr [O T,U pa (Z P) pc,X .i64 (HN1:Nat),U qa qn qc] 176);have FW:=Ab (R.calm ((Ac.refl [] wr).alloc (j1 [O T,U pa (Z P) pc,X .i64 (HN1:Nat),U qa qn qc].toArray 176)));clear A0 JJ o1 o2 o3 o4 o5 B0 hH Jx IS HC R;refine jT (λz j=>?_);go_wp2;refine j _ _ ?_;clear j z;refine jT (λz j=>?_);go_wp2;refine j _ _ ?_;clear j z;refine jT (λK5 NM=>?_);refine wp_block ?_;refine jT (λz j=>?_);go_wp2;refine j _ _ ?_;clear j z;clear a0 a1 W a3;change Code.wp _ _ _ _ (wr.alloc (j1 [O T,U pa (Z P) pc,X .i64 (HN1:Nat),U qa qn qc].toArray 176));generalize wr.alloc (j1 [O T,U pa (Z P) pc,X .i64 (HN1:Nat),U qa qn qc].toArray 176)=wa at AT FW⊢;obtain⟨BS,M6⟩:∃BS,wr.heap.size=BS:=⟨_,rfl⟩;rw[M6]at AT⊢;clear M6;have a0:=AT.cell 0;have a1:=AT.cell 1;simp at a0 a1;refine jT (λz j=>?_);(go_wp2_with fail);refine(H2 wa FW).mono ?_;rintro _ wb ⟨rfl,kb⟩;have NY:=Ab (NA FT t wb (FW.calm kb) (by omega));have K9:=Ab (AT.kept kb (by simp));clear kb a0 a1 AT FW H2;(go_wp2_with fail);refine NY.mono ?_;rintro _ wc ⟨rfl,K7,K2⟩;have Mo:=Ab (K2 _ _ K9);have NX:=Ab (K8 32 (t++FT) wc K7 (by rw[eO];omega));clear NY K7 K2 K9;go_wp2;refine j _ _ ?_;clear j z;refine jT (λz j=>?_);(go_wp2_with fail);refine NX.mono ?_;rintro _ wd ⟨rfl,K3,LM⟩;have OH:=Ab (LM _ _ Mo);have LB:=Ab K3;have W:=OH.cell 2;simp at W;clear NX K3 LM Mo;go_wp2;refine j _ _ ?_;clear j z;refine jT (λz j=>?_);(go_wp2_with fail);refine(HJ wd).mono ?_;rintro _ we ⟨rfl,rfl⟩;have Nq:=Ab (Aa NA DT (t++FT++⟨#[32]⟩) we (Aa LB) (by rw[eO,eO];omega));clear HJ LB;(go_wp2_with fail);refine Nq.mono ?_;rintro _ wf ⟨rfl,NL,-⟩;have KS:=Ab (K8 10 (t++FT++⟨#[32]⟩++DT) wf NL (by rw[eO,eO,eO];omega));clear Nq NL W OH;go_wp2;refine j _ _ ?_;clear j z;(go_wp2_with fail);refine KS.mono ?_;rintro _ wg ⟨rfl,LL,-⟩;have W1:=Ab LL;clear KS LL;go_wp2;refine NM _ _ ?_;clear NM;go_wp2
   go_roundg (Z v-(k+1))
   case measure=>have:=Aa HG;omega
   case rel=>exact⟨k+1,_,by go_num,by omega,rfl,by rw[eO,eO,eO,eO];omega,H1,W1⟩
  .have Nx:t=Q:=by
    have h:=Aa HC;rw[fq (by have:=Aa NV;omega)]at h;exact h
   obtain⟨M,Ix⟩:=R.bui;rw[Nx]at Ix;have M3:=Ab (ZJ N Q M wr Ix);have Os:=Ab R.kept;clear Nx Ix HC R;(go_wp2_with fail);refine j _ _ ?_;clear j;(go_wp2_with fail);refine M3.mono ?_;rintro _ w9 ⟨rfl,Nd,-⟩;have UO:Hid (Ac [] w w9):=by
    have h:=Nd;rw[<-Aa HN]at h;exact HL.trans (IK Os h)
   clear M3 Nd Os;go_wp2;go_ret;obtain⟨l1,l2,l3,l4⟩:=S1;exact⟨s,a,L,n,by rw[Aa P0];rfl,l1,l2,l3,l4,UO⟩
end Go.Proofs.YtoihbhenbmffcaaGreatDoor
namespace Go.Proofs.YtoihbhenbmffcaaGreatDoor
open Go.RowKit Go.Proofs.Tryz
def WA:∀(l:List De) (t:g0),t.size<=(Ib t l).size
 |[],t=>eM _
 |h::l,t=>by
  rw[Ib];refine fJ ?_ (WA l _);rw[eO,eO,eO,eO];omega
def bU(h:De)(l:List De)(t:g0):(Ib t (h::l)).size≠0:=by
 rw[Ib];have:=WA l (t++Cq h.2.head++⟨#[32]⟩++JB h.1++⟨#[10]⟩);rw[eO]at this;have a:(⟨#[10]⟩:g0).size=1:=rfl;omega
structure bo(s:g0)(rcs:List A8)(u:List Af)(hs:List De)(L:g0->Nat)(n:Nat):Prop where
 erase:rcs.map A8.erase=(As s (Ae s 0)).1
 zL:(As s (Ae s 0)).2.2=K
 pass:Dh rcs
 rea:We rcs hs u
 zM:Di rcs L
 inv:Jd rcs L n u
 top:∀c∈rcs,L c.head.name<n
def Vd(s q t:g0)(r:Int×Int):Prop:=
 ∃r1,Fv s (dM s) r1/\((r1.1≠0/\r=r1/\t=jK)\/(r1.1=0/\((IT q=K/\r=(2,0)/\t=jK)\/
  (IT q=true/\AM (GC q)/\∃rcs u hs L n,bo s rcs u hs L n/\((G7 hs (GC q)=[]/\r=(7,0)/\t=jK)\/(G7 hs (GC q)≠[]/\r=(0,0)/\t=Ib jK (G7 hs (GC q))))))))
set_option maxRecDepth 100000
theorem Z9(s q:g0)(w:World)(FW:s.size<=9223372036854775807)(HB:q.size<=9223372036854775807):
  Calls prog 27 #[O s,O q] w λe A=>∃(t:g0) (r:Int×Int),e=j4 (.tuple #[O t,X .i64 r.1,X .i64 r.2])/\Vd s q t r/\Ac [] w A:=by
 have CL:=Ab (YS s (dM s) w FW (λx cs v S F=>Sr x v F));go_enter func27,ntmps27;go_wp2_with fail
 refine CL.mono ?_;rintro _ w1 ⟨ad,n,cp,⟨o,z⟩,rfl,FB,CC,k1⟩;have j:=Ab FB;have R:=Ab CC;have EM:=Ab k1;clear CL FB CC k1;by_cases D:o=0
 .subst D;obtain⟨x,cs,S,v,F,rfl,hP⟩:=R rfl;obtain⟨hr,M,N,hB⟩:=Yn x v F hP j rfl;obtain rfl:z=0:=(Prod.mk.inj hr).2;have T:(As s (Ae s 0)).2.2=K:=by
   have E0:=Jj s;rw[v]at E0;exact E0.1
  have HA:((0:Int) !=0)=K:=rfl;have Bx:=Ab (Sa q w1 HB);have E:=Ab (du q);have P:Hid (IT q=K->Vd s q jK (2,0)):=λh=>⟨(0,0),j,j6 ⟨rfl,Or.inl ⟨h,rfl,rfl⟩⟩⟩
  have A2:Hid (IT q=true->∀(p:Fe) (i:World),p.f=BJ (GC q)->DL i p->Z p.f.zB<=1000->Ac [] w1 i->Calls prog 54 #[U ad (Z S) cp,.agg (AW p).toArray] i λe A=>∃t:g0,e=j4 (O t)/\(t.size=0->Vd s q jK (7,0))/\(t.size≠0->Vd s q t (0,0))/\Ac [] i A):=by
   intro h1 p i k m C hk;obtain⟨_,BT,_⟩:=MH h1;refine(VG ad cp S M (GC q) p i (hP.kept hk) hB k BT m C (λf hf=>?_) (λf hf=>?_)).mono ?_
   .have h:=VF x N (u:=[f]) (fs:=[⟨BJ f,.bool K⟩]) (λg hg=>by simp at hg;rw[hg];exact hf) rfl ⟨BJ f,.bool K⟩ (by simp);exact h
   .obtain⟨c,hc,_,e⟩:=hf.zg;intro e2;rw[e2]at e;have:=Un T N c hc;exact this (gB.1 e.symm)
   .rintro e A ⟨u,I,L,n,rfl,g1,g2,g3,g4,g5⟩;have B9:bo s M u I L n:=⟨N,T,hB.pass,g1,g2,g3,g4⟩;refine⟨_,rfl,λb=>⟨(0,0),j,j6 ⟨rfl,j6 ⟨h1,BT,M,u,I,L,n,B9,Or.inl ⟨?_,rfl,rfl⟩⟩⟩⟩,λb=>⟨(0,0),j,j6 ⟨rfl,j6 ⟨h1,BT,M,u,I,L,n,B9,j6 ⟨?_,rfl,rfl⟩⟩⟩⟩,g5⟩
    .cases d:G7 I (GC q)with
     |nil=>rfl
     |cons a l=>rw[d]at b;exact absurd b (bU a l _)
    .intro d;rw[d]at b;exact b rfl
  clear x v F hP hr N hB R T j;go_wp2_with fail
  refine Bx.mono ?_;rintro _ i ⟨p,rfl,k,m,C,G⟩;have EX:=Ab (EM.trans G);obtain⟨⟨pn,B⟩,HM⟩:=p;obtain⟨AT,Ax,e⟩:=Ak m;simp only at e C k;subst e;cases ho:IT q with
  |false=>
   have y:=Ab (P ho);(have d:bj q=Y:=by rw[Aa E,ho,eE (by simp)]);rw[d];simp only[Option.isSome_none,AW];clear Bx E P A2 k m G d ho;(go_wp2_with fail);go_ret3;exact⟨jK,(2,0),rfl,y,EX.alloc _⟩
  |true=>
   (have d:bj q=V (BJ (GC q)):=by rw[Aa E,ho,eI rfl]);have EK:=k _ d;rw[d];simp only[Option.isSome_some,AW];have H:=Ab (A2 ho ⟨⟨pn,B⟩,U AT (Z B) Ax⟩ (i.alloc (j1 [O pn,U AT (Z B) Ax].toArray 104)) EK (DL.kept m ((Ac.refl [] i).alloc _)) C (G.alloc _));have HG:=Ab (EX.alloc (j1 [O pn,U AT (Z B) Ax].toArray 104));simp only[AW]at H;clear Bx E P A2 k m G d ho EK;(go_wp2_with fail);refine H.mono ?_;rintro _ w3 ⟨t,rfl,Q,AH,W⟩;have FC:=Ab (HG.trans W);by_cases b:t.size=0
   .have y:=Ab (Q b);have ht:t=⟨#[]⟩:=toList_inj (by rw[A7]at b;rw[gB.1 b,fc]);subst ht;clear H Q AH W b;(go_wp2_with fail);go_ret3;exact⟨jK,(7,0),rfl,y,FC⟩
   .have y:=Ab (AH b);have hb:(t.toList==([]:List UInt8))=K:=by
     cases d:t.toList with
     |nil=>rw[A7,d]at b;exact absurd rfl b
     |cons a l=>rfl
    have HL:(t.toList==(⟨#[]⟩:g0).toList)=K:=by
     rw[show(⟨#[]⟩:g0).toList=[] from by rw[fc]]
     exact hb
    clear H Q AH W b;(go_wp2_with fail);go_ret3;exact⟨t,(0,0),rfl,y,FC⟩
 .have HA:(o !=0)=true:=by simp[D]
  have HF:Hid (Vd s q jK (o,z)):=⟨(o,z),j,Or.inl ⟨D,rfl,rfl⟩⟩;clear D R j;go_wp2_with fail
  go_ret3;exact⟨jK,(o,z),rfl,HF,EM⟩
