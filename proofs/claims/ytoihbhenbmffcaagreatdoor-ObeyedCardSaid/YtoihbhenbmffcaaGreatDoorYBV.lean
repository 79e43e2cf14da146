import Derived.Test.YtoihbhenbmffcaaGreatDoorYBS
import Derived.Test.YtoihbhenbmffcaaGreatDoorYBR
set_option linter.all false
set_option maxHeartbeats 0
open List renaming length->Z
open Option renaming none->Y,some->V
open Go.Value renaming slice->U,int->X,string->O,pointer->kt,bool->lT
open Bool renaming false->K,true->j1
open Go.IntKind renaming i64->J
open Go.Obj renaming cells->j2
open Go.Ending renaming returned->lo
open Or renaming inr->ly
open Go renaming World->l9
open Go.RowKit renaming Hid->lO
open Go.World renaming cell?->lP,ownsRow->lQ
open ByteArray renaming empty->lU
namespace Go.Proofs.YtoihbhenbmffcaaGreatDoor
open Go.Shelf Go.RowKit
open Go.Proofs.Tryz
def L1:zA->mc EU->zA
 |t,[]=>t
 |t,h::l=>L1 (t++C7 h.2.head++⟨#[32]⟩++RG h.1++⟨#[10]⟩) l
def XD{w:l9}{base size n N:Nat}{e:TypeId}{v:Value}{g:mc Value}{s:zA}{M:mc Nat}(h:lQ w base e size v n g)(k:J0 N s M w)(f:e≠145)(c:e≠5):∀i,v.ownBlock=V i->i∉M:=by
 intro i b a;obtain⟨p,m,l,_,j,d,rfl⟩:=k;rcases gP.1 a with rfl|a
 .exact Ar h j f b
 .exact A7 h d c i b (by simpa using a)
structure QI(w:l9)(N:Nat)(ad:Option Addr)(cp:Nat)(sts:mc (Nat×Ti))(t:zA)(wz:l9):Prop where
 zz:∃M,J0 N t M wz
 row:lQ wz 0 176 4 (U ad (Z sts) cp) (Z sts) (sts.flatMap BV)
 each:∀p∈sts,DS wz p.2.f/\Z p.2.f.f.zC<=1000/\∃a n c,p.2.n=U a n c
 kept:Ac [] w wz
def QI.calm{w d w':l9}{N:Nat}{e:Option Addr}{c:Nat}{b:mc (Nat×Ti)}{t:zA}(h:QI w N e c b t d)(k:Ac [] d w'):QI w N e c b t w':=by
 obtain⟨M,f⟩:=h.zz;exact⟨⟨M,f.kept k (by simp)⟩,Ad h.row k (by simp),λp a=>⟨(h.each p a).1.kept k,(h.each p a).2⟩,h.kept.trans k⟩
def QI.step{w d w':l9}{N:Nat}{k:Option Addr}{j:Nat}{e:mc (Nat×Ti)}{t g:zA}{M:mc Nat}(r:w.heap.size=N)(h:QI w N k j e t d)(c:J0 N t M d)(l:am N g M d w'):QI w N k j e g w':=by
 obtain⟨m,n,b,q⟩:=l;exact⟨⟨m,n⟩,Ai h.row b (XD h.row c (by decide) (by decide)),λp a=>⟨Ai (v:=p.2.f.tv) (h.each p a).1 b (XD (v:=p.2.f.tv) (h.each p a).1 c (by decide) (by decide)),(h.each p a).2⟩,h.kept.trans' b (λi o=>ly (by have:=(c.lt i o).1;omega))⟩
set_option maxRecDepth 100000
theorem WI(K3:Option Addr)(Ix:Nat)(CC:mc Db)(q:mc A6)(F:Af)(fp:EN)(w:l9)(hP:C9 w (U K3 (Z CC) Ix) CC)(hB:LW CC q)(hf:fp.f=BN F)(hc:AJ F)(H1:DS w fp)(Nq:Z fp.f.zC<=1000)
  (hz:∀f,DP q f->f.name.size<=1000000/\∀x∈(BN f).zC,x.size<=1000000) (K7:∀f,DP q f->f.args≠[]):
  Calls prog 54 #[U K3 (Z CC) Ix,.agg (AW fp).toArray] w λr G=>∃(s:mc Af) (a:mc EU) (L:zA->Nat) (n:Nat),r=lo (O (L1 lU (Hz a F)))/\Xm q a s/\Cn q L/\Il q L n s/\(∀c∈q,L c.head.name<n)/\Ac [] w G:=by
 obtain⟨⟨fn,BA⟩,WW⟩:=fp;obtain⟨FC,FA,e⟩:=Al H1;simp only at e hf Nq;subst e;simp only[AW];have HP:=Ab ((me [] w).alloc (j2 [O fn,U FC (Z BA) FA].toArray 104));have Ha:=Ab (mf w [O fn,U FC (Z BA) FA] 104);obtain⟨C,Go⟩:∃C,w.alloc (j2 [O fn,U FC (Z BA) FA].toArray 104)=C:=⟨_,rfl⟩;obtain⟨FB,HD⟩:∃FB,w.heap.size=FB:=⟨_,rfl⟩;have WB:=Ab HD;have Wa:=Ab Go;rw[Go]at HP Ha;rw[HD]at Ha;obtain⟨N,hN⟩:∃N,C.heap.size=N:=⟨_,rfl⟩;have HN:=Ab hN;have X3:lO (FB+1=N):=by show _=_;rw[<-hN,<-Go,iz,HD]
 have EY:=Ab ((me [] C).alloc (j2 #[kt Y,U Y 0 0] 145));have HY:=Ab (J0.new C);rw[hN]at HY;have HL:=Ab (ck K3 Ix CC q F ⟨⟨fn,BA⟩,U FC (Z BA) FA⟩ (C.alloc (j2 #[kt Y,U Y 0 0] 145)) (hP.kept (HP.trans EY)) hB hf hc (H1.kept (HP.trans EY)) Nq);simp only[AW]at HL;have HH:=Ab (Ha.kept EY (by simp));have LC:lO (∀(s:mc Af) (a:mc EU) (L:zA->Nat) (n:Nat),Xm q a s->Il q L n s->∀h∈Hz a F,h.1<12/\AJ h.2.head/\h.2.head.args≠[]/\h.2.head.name.size<=1000000/\∀x∈(BN h.2.head).zC,x.size<=1000000):=by
  intro s a L n hr hi h hh;have hw:=hB.zh hi;have hp:=(hr.proof hw.2.1 hc).1;have AO:=hp.zZ h hh;have IS:=hi.zZ _ AO;obtain⟨A,B,e⟩:=List.append_of_mem hh;obtain⟨D,_⟩:=hp.each A h B e;have h2:=hB.pass.order.small.1;exact⟨by omega,hw.2.1 _ AO,K7 _ IS,(hz _ IS).1,(hz _ IS).2⟩
 have PT:lO (∀(s:mc Af) (a:mc EU) (L:zA->Nat) (n:Nat),Xm q a s->Il q L n s->Z (Hz a F)<=7000):=by
  intro s a L n hr hi;have hw:=(hB.zh hi).2.2;have D:=Ju (a.map λh=>h.2.head) s hr.nd (λf hf=>(hr.mem f).2 hf);have h2:=PA a.reverse ([],[F]);rw[Py]at h2;simp only[i6,List.length_reverse,iv,ie]at D h2;show Z (Ji a.reverse [F])<=7000;omega
 clear hP hB hf hc H1 hz K7 hN Go HD;go_enter func54,ntmps54;refine ma (λz j=>?_);go_wp2;refine j _ _ ?_;clear j z;change Code.wp _ _ _ _ (w.alloc (j2 [O fn,U FC (Z BA) FA].toArray 104));rw[Aa Wa,Aa WB];refine ma (λz j=>?_);go_wp2;refine j _ _ ?_;clear j z;rw[Aa HN];generalize C.alloc (j2 #[kt Y,U Y 0 0] 145)=w2 at EY HY HL HH⊢;have b0:=HH.cell 0;have b1:=HH.cell 1;simp at b0 b1;refine ma (λz j=>?_);go_wp2_with fail
 refine HL.mono ?_;rintro _ w3 ⟨ad,cp,v,s,a,L,n,rfl,Op,Mo,H6,HT,RB,AO,RE,k3⟩;have NM:lO (QI C N ad cp v lU w3):=⟨⟨_,HY.kept k3 (by simp)⟩,Op,Mo,EY.trans k3⟩;have TV:lO (Xm q a s/\Cn q L/\Il q L n s/\(∀c∈q,L c.head.name<n)):=⟨HT,RB,AO,RE⟩;have RV:=Ab (LC s a L n HT AO);have TH:=Ab H6;have M6:Z v=Z (Hz a F):=by have h:=congrArg List.length H6;simpa using h
 have Os:=Ab M6;have al:Z v<=7000:=by have:=Aa PT s a L n HT AO;omega
 obtain⟨Q,HX⟩:∃Q,L1 lU (Hz a F)=Q:=⟨_,rfl⟩;have M2:lO (L1 lU ((Hz a F).drop 0)=Q):=HX;have RI:=Ab HX;clear HL Op Mo H6 HT RB AO RE k3 b0 b1 HH Ha LC PT M6 HX;go_wp2_with fail
 go_loopg [12] (Z v) (λgk i wr=>∃(k:Nat) (t:zA),i=X J k/\k<=Z v/\gk=Z v-k/\t.size<=k*2000000010/\lO (L1 t ((Hz a F).drop k)=Q)/\lO (QI C N ad cp v t wr))
 case atStart=>exact⟨0,lU,rfl,by omega,rfl,by simp,M2,NM⟩
 case round=>
  clear M2 NM;obtain⟨k,t,rfl,hk,Pl,aa,HC,R⟩:=hrel;have HG:=Ab Pl;clear Pl;by_cases HE:k<Z v
  ·(have HZ:k<Z (Hz a F):=by have:=Aa Os;omega);obtain⟨g,hg,a0,a1,W,a3⟩:=I4 R.row k HE;subst hg;have E:=congrArg (λl=>l[k]?) TH;simp only[jf,gS HE,gS HZ,jC,gT,iE]at E;obtain⟨o1,o2,o3,o4,o5⟩:=RV _ (gL HZ);have KS:L1 t ((Hz a F).drop k)=L1 (t++C7 (Hz a F)[k].2.head++⟨#[32]⟩++RG (Hz a F)[k].1++⟨#[10]⟩) ((Hz a F).drop (k+1)):=by
    rw[ij HZ,L1]
   have B2:=R.each _ (gL HE);obtain⟨H,hH⟩:∃H,(Hz a F)[k]=H:=⟨_,rfl⟩;rw[hH]at E o1 o2 o3 o4 o5 KS;obtain⟨⟨SB,⟨⟨T,P⟩,WW⟩,nv,af⟩,K1⟩:∃p,v[k]=p:=⟨_,rfl⟩;rw[K1]at a0 a1 W a3 E B2;simp only at a0 a1 W a3 E B2;obtain⟨pa,pc,e1⟩:=Al B2.1;simp only at e1;subst e1;obtain⟨W0,A1⟩:=E;have VS:SB=H.1:=W0;subst VS;(have K2:E0 ⟨T,P⟩=C7 H.2.head:=by rw[A1,Ny o2 o3]);obtain⟨qa,qn,qc,RO⟩:=B2.2.2;subst RO;have X2:k*2000000010<=7000*2000000010:=iS _ (by omega);have TS:(C7 H.2.head).size<=2000000000:=by
    rw[<-K2];exact PG B2.2.1 (by rw[A1];exact o5) (by rw[A1];exact o4)
   have UO:(RG H.1).size<=2:=by
    unfold RG;split
    .show 1<=2;omega
    .show 2<=2;omega
   have H5:lO (∀o,QI C N (V ⟨g,0,Y⟩) cp v t o->Calls prog 76 #[.agg #[O T,U pa (Z P) pc]] o λe G=>e=lo (O (C7 H.2.head))/\Ac [] o G):=by
    intro o hz;have D:=(hz.each _ (gL HE));rw[K1]at D;have h2:=J9 ⟨⟨T,P⟩,U pa (Z P) pc⟩ o D.1 D.2.1 (by rw[A1];exact o5) (by rw[A1];exact o4);simp only[AW,K2]at h2;exact h2
   have NV:lO (∀(y u:zA) o,QI C N (V ⟨g,0,Y⟩) cp v u o->u.size+y.size<=140737488355328->Calls prog 75 #[kt (V ⟨N,0,Y⟩),O y] o λe G=>e=lo (.tuple #[X J y.size,.nilIface])/\QI C N (V ⟨g,0,Y⟩) cp v (u++y) G/\∀b S,AH o b S 176->AH G b S 176):=by
    intro y u o h hl;obtain⟨M,D⟩:=h.zz;refine(Vm N u M y o D hl).mono ?_;rintro e G ⟨rfl,hW⟩;refine⟨rfl,h.step HN D hW,λb S I=>?_⟩;obtain⟨_,_,hk,_⟩:=hW;refine I.kept hk (λE=>?_);obtain⟨p,W1,VR,_,AT,HU,rfl⟩:=D;rcases gP.1 E with rfl|E
    .unfold AH at I AT;rw[I]at AT;simp at AT
    .exact Ar HU I (by decide) (by simpa using E)
   have LL:lO (∀(d:UInt8) (u:zA) o,QI C N (V ⟨g,0,Y⟩) cp v u o->u.size+1<=140737488355328->Calls prog 77 #[kt (V ⟨N,0,Y⟩),X .u8 (d.toNat:Int)] o λe G=>e=lo .nilIface/\QI C N (V ⟨g,0,Y⟩) cp v (u++⟨#[d]⟩) G/\∀b S,AH o b S 176->AH G b S 176):=by
    intro d u o h hl;obtain⟨M,D⟩:=h.zz;refine(SF N u M d o D hl).mono ?_;rintro e G ⟨rfl,hW⟩;refine⟨rfl,h.step HN D hW,λb S I=>?_⟩;obtain⟨_,_,hk,_⟩:=hW;refine I.kept hk (λE=>?_);obtain⟨p,W1,VR,_,AT,HU,rfl⟩:=D;rcases gP.1 E with rfl|E
    .unfold AH at I AT;rw[I]at AT;simp at AT
    .exact Ar HU I (by decide) (by simpa using E)
   have HM:=Ab (bL H.1 o1);have H4:lO (L1 (t++C7 H.2.head++⟨#[32]⟩++RG H.1++⟨#[10]⟩) ((Hz a F).drop (k+1))=Q):=KS.symm.trans HC;generalize C7 H.2.head=FT at H4 H5 TS;generalize RG H.1=DT at H4 HM UO;generalize H.1=HN1 at W HM;(have ZV:(0:Int)<=(k:Int):=by omega);(have X0:(k:Int)<(Z v:Int):=by omega);have YP:(⟨#[32]⟩:zA).size=1:=rfl;have X1:(⟨#[10]⟩:zA).size=1:=rfl;have A0:=Ab (mf wr [O T,U pa (Z P) pc,X J (HN1:Nat),U qa qn qc] 176);have HA:=Ab (R.calm ((me [] wr).alloc (j2 [O T,U pa (Z P) pc,X J (HN1:Nat),U qa qn qc].toArray 176)));clear A1 K2 o1 o2 o3 o4 o5 B2 hH K1 KS HC R;refine ma (λz j=>?_);go_wp2;refine j _ _ ?_;clear j z;refine ma (λz j=>?_);go_wp2;refine j _ _ ?_;clear j z;refine ma (λK5 N2=>?_);refine wp_block ?_;refine ma (λz j=>?_);go_wp2;refine j _ _ ?_;clear j z;clear a0 a1 W a3;change Code.wp _ _ _ _ (wr.alloc (j2 [O T,U pa (Z P) pc,X J (HN1:Nat),U qa qn qc].toArray 176));generalize wr.alloc (j2 [O T,U pa (Z P) pc,X J (HN1:Nat),U qa qn qc].toArray 176)=wa at A0 HA⊢;obtain⟨BS,NB⟩:∃BS,wr.heap.size=BS:=⟨_,rfl⟩;rw[NB]at A0⊢;clear NB;have a0:=A0.cell 0;have a1:=A0.cell 1;simp at a0 a1;refine ma (λz j=>?_);(go_wp2_with fail);refine(H5 wa HA).mono ?_;rintro _ wb ⟨rfl,kb⟩;have OH:=Ab (NV FT t wb (HA.calm kb) (by omega));have LM:=Ab (A0.kept kb (by simp));clear kb a0 a1 A0 HA H5;(go_wp2_with fail);refine OH.mono ?_;rintro _ wc ⟨rfl,LE,K8⟩;have M1:=Ab (K8 _ _ LM);have OB:=Ab (LL 32 (t++FT) wc LE (by rw[gZ];omega));clear OH LE K8 LM;go_wp2;refine j _ _ ?_;clear j z;refine ma (λz j=>?_);(go_wp2_with fail);refine OB.mono ?_;rintro _ wd ⟨rfl,K9,MN⟩;have QR:=Ab (MN _ _ M1);have LS:=Ab K9;have W:=QR.cell 2;simp at W;clear OB K9 MN M1;go_wp2;refine j _ _ ?_;clear j z;refine ma (λz j=>?_);(go_wp2_with fail);refine(HM wd).mono ?_;rintro _ we ⟨rfl,rfl⟩;have NN:=Ab (Aa NV DT (t++FT++⟨#[32]⟩) we (Aa LS) (by rw[gZ,gZ];omega));clear HM LS;(go_wp2_with fail);refine NN.mono ?_;rintro _ wf ⟨rfl,NY,-⟩;have K6:=Ab (LL 10 (t++FT++⟨#[32]⟩++DT) wf NY (by rw[gZ,gZ,gZ];omega));clear NN NY W QR;go_wp2;refine j _ _ ?_;clear j z;(go_wp2_with fail);refine K6.mono ?_;rintro _ wg ⟨rfl,MB,-⟩;have W2:=Ab MB;clear K6 MB;go_wp2;refine N2 _ _ ?_;clear N2;go_wp2
   go_roundg (Z v-(k+1))
   case measure=>have:=Aa HG;omega
   case rel=>exact⟨k+1,_,by go_num,by omega,rfl,by rw[gZ,gZ,gZ,gZ];omega,H4,W2⟩
  .have NS:t=Q:=by
    have h:=Aa HC;rw[iC (by have:=Aa Os;omega)]at h;exact h
   obtain⟨M,Jx⟩:=R.zz;rw[NS]at Jx;have Nx:=Ab (U5 N Q M wr Jx);have QQ:=Ab R.kept;clear NS Jx HC R;(go_wp2_with fail);refine j _ _ ?_;clear j;(go_wp2_with fail);refine Nx.mono ?_;rintro _ w9 ⟨rfl,NL,-⟩;have VL:lO (Ac [] w w9):=by
    have h:=NL;rw[<-Aa HN]at h;exact HP.trans (GZ QQ h)
   clear Nx NL QQ;go_wp2;go_ret;obtain⟨l1,l2,l3,l4⟩:=TV;exact⟨s,a,L,n,by rw[Aa RI];rfl,l1,l2,l3,l4,VL⟩
end Go.Proofs.YtoihbhenbmffcaaGreatDoor
namespace Go.Proofs.YtoihbhenbmffcaaGreatDoor
open Go.RowKit Go.Proofs.Tryz
def XK:∀(l:mc EU) (t:zA),t.size<=(L1 t l).size
 |[],t=>ig _
 |h::l,t=>by
  rw[L1];refine iQ ?_ (XK l _);rw[gZ,gZ,gZ,gZ];omega
def dC(h:EU)(l:mc EU)(t:zA):(L1 t (h::l)).size≠0:=by
 rw[L1];have:=XK l (t++C7 h.2.head++⟨#[32]⟩++RG h.1++⟨#[10]⟩);rw[gZ]at this;have a:(⟨#[10]⟩:zA).size=1:=rfl;omega
structure eJ(s:zA)(rcs:mc A6)(u:mc Af)(hs:mc EU)(L:zA->Nat)(n:Nat):Prop where
 erase:rcs.map A6.erase=(Ap s (Ae s 0)).1
 zM:(Ap s (Ae s 0)).2.2=K
 pass:Dn rcs
 rea:Xm rcs hs u
 zS:Cn rcs L
 inv:Il rcs L n u
 top:∀c∈rcs,L c.head.name<n
def cI(s q t:zA)(r:Int×Int):Prop:=
 ∃r1,ED s (fo s) r1/\((r1.1≠0/\r=r1/\t=lU)\/(r1.1=0/\((Ja q=K/\r=(2,0)/\t=lU)\/
  (Ja q=j1/\AJ (Er q)/\∃rcs u hs L n,eJ s rcs u hs L n/\((Hz hs (Er q)=[]/\r=(7,0)/\t=lU)\/(Hz hs (Er q)≠[]/\r=(0,0)/\t=L1 lU (Hz hs (Er q))))))))
set_option maxRecDepth 100000
theorem bJ(s q:zA)(w:l9)(HA:s.size<=9223372036854775807)(HE:q.size<=9223372036854775807):
  Calls prog 27 #[O s,O q] w λe A=>∃(t:zA) (r:Int×Int),e=lo (.tuple #[O t,X J r.1,X J r.2])/\cI s q t r/\Ac [] w A:=by
 have DT:=Ab (Nz s (fo s) w HA (λx cs v S F=>MJ x v F));go_enter func27,ntmps27;go_wp2_with fail
 refine DT.mono ?_;rintro _ w1 ⟨ad,n,cp,⟨o,z⟩,rfl,FF,CL,k1⟩;have j:=Ab FF;have R:=Ab CL;have EX:=Ab k1;clear DT FF CL k1;by_cases D:o=0
 .subst D;obtain⟨x,cs,S,v,F,rfl,hP⟩:=R rfl;obtain⟨hr,M,N,hB⟩:=Np x v F hP j rfl;obtain rfl:z=0:=(Prod.mk.inj hr).2;have T:(Ap s (Ae s 0)).2.2=K:=by
   have FB:=JC s;rw[v]at FB;exact FB.1
  have HD:((0:Int) !=0)=K:=rfl;have BA:=Ab (Tc q w1 HE);have E:=Ab (ff q);have P:lO (Ja q=K->cI s q lU (2,0)):=λh=>⟨(0,0),j,ly ⟨rfl,Or.inl ⟨h,rfl,rfl⟩⟩⟩
  have Bx:lO (Ja q=j1->∀(p:EN) (i:l9),p.f=BN (Er q)->DS i p->Z p.f.zC<=1000->Ac [] w1 i->Calls prog 54 #[U ad (Z S) cp,.agg (AW p).toArray] i λe A=>∃t:zA,e=lo (O t)/\(t.size=0->cI s q lU (7,0))/\(t.size≠0->cI s q t (0,0))/\Ac [] i A):=by
   intro h1 p i k m C hk;obtain⟨_,B0,_⟩:=M4 h1;refine(WI ad cp S M (Er q) p i (hP.kept hk) hB k B0 m C (λf hf=>?_) (λf hf=>?_)).mono ?_
   .have h:=PP x N (u:=[f]) (fs:=[⟨BN f,lT K⟩]) (λg hg=>by simp at hg;rw[hg];exact hf) rfl ⟨BN f,lT K⟩ (by simp);exact h
   .obtain⟨c,hc,_,e⟩:=hf.zh;intro e2;rw[e2]at e;have:=Vv T N c hc;exact this (jF.1 e.symm)
   .rintro e A ⟨u,I,L,n,rfl,g1,g2,g3,g4,g5⟩;have CC:eJ s M u I L n:=⟨N,T,hB.pass,g1,g2,g3,g4⟩;refine⟨_,rfl,λb=>⟨(0,0),j,ly ⟨rfl,ly ⟨h1,B0,M,u,I,L,n,CC,Or.inl ⟨?_,rfl,rfl⟩⟩⟩⟩,λb=>⟨(0,0),j,ly ⟨rfl,ly ⟨h1,B0,M,u,I,L,n,CC,ly ⟨?_,rfl,rfl⟩⟩⟩⟩,g5⟩
    .cases d:Hz I (Er q)with
     |nil=>rfl
     |cons a l=>rw[d]at b;exact absurd b (dC a l _)
    .intro d;rw[d]at b;exact b rfl
  clear x v F hP hr N hB R T j;go_wp2_with fail
  refine BA.mono ?_;rintro _ i ⟨p,rfl,k,m,C,G⟩;have EY:=Ab (EX.trans G);obtain⟨⟨pn,B⟩,HP⟩:=p;obtain⟨A0,Ax,e⟩:=Al m;simp only at e C k;subst e;cases ho:Ja q with
  |false=>
   have y:=Ab (P ho);(have d:cW q=Y:=by rw[Aa E,ho,gV (by simp)]);rw[d];simp only[Option.isSome_none,AW];clear BA E P Bx k m G d ho;(go_wp2_with fail);go_ret3;exact⟨lU,(2,0),rfl,y,EY.alloc _⟩
  |true=>
   (have d:cW q=V (BN (Er q)):=by rw[Aa E,ho,gY rfl]);have EM:=k _ d;rw[d];simp only[Option.isSome_some,AW];have H:=Ab (Bx ho ⟨⟨pn,B⟩,U A0 (Z B) Ax⟩ (i.alloc (j2 [O pn,U A0 (Z B) Ax].toArray 104)) EM (DS.kept m ((me [] i).alloc _)) C (G.alloc _));have HJ:=Ab (EY.alloc (j2 [O pn,U A0 (Z B) Ax].toArray 104));simp only[AW]at H;clear BA E P Bx k m G d ho EM;(go_wp2_with fail);refine H.mono ?_;rintro _ w3 ⟨t,rfl,Q,AT,W⟩;have FL:=Ab (HJ.trans W);by_cases b:t.size=0
   .have y:=Ab (Q b);have ht:t=⟨#[]⟩:=toList_inj (by rw[Bg]at b;rw[jF.1 b,iy]);subst ht;clear H Q AT W b;(go_wp2_with fail);go_ret3;exact⟨lU,(7,0),rfl,y,FL⟩
   .have y:=Ab (AT b);have hb:(t.toList==([]:mc UInt8))=K:=by
     cases d:t.toList with
     |nil=>rw[Bg,d]at b;exact absurd rfl b
     |cons a l=>rfl
    have HO:(t.toList==(⟨#[]⟩:zA).toList)=K:=by
     rw[show(⟨#[]⟩:zA).toList=[] from by rw[iy]]
     exact hb
    clear H Q AT W b;(go_wp2_with fail);go_ret3;exact⟨t,(0,0),rfl,y,FL⟩
 .have HD:(o !=0)=j1:=by simp[D]
  have HF:lO (cI s q lU (o,z)):=⟨(o,z),j,Or.inl ⟨D,rfl,rfl⟩⟩;clear D R j;go_wp2_with fail
  go_ret3;exact⟨lU,(o,z),rfl,HF,EX⟩
def Qg{c:UInt8}(h:Az c=j1):c≠10:=by rintro rfl;exact absurd h (by decide)
def U8{c:UInt8}(h:Ao c=j1):c≠10:=by rintro rfl;exact absurd h (by decide)
def XU:∀(b:mc zA),(∀x∈b,GB x)->∀c∈Fw b,c≠10
 |[],_,c,a=>by simp[Fw]at a
 |[x],h,c,a=>by
  rcases h x (by simp)with hw|hn
  .exact Qg (hw.2.2 c a)
  .exact U8 (hn.2.2.1 c a)
 |x::y::l,h,c,a=>by
  rw[Fw,ic,gP]at a;rcases a with a|rfl|a
  .rcases h x (by simp)with hw|hn
   .exact Qg (hw.2.2 c a)
   .exact U8 (hn.2.2.1 c a)
  .decide
  .exact XU (y::l) (λz d=>h z (by simp at d⊢;exact ly d)) c a
def aM{f:Af}(h:Ol f):∀c∈(C7 f).toList,c≠10:=by
 rw[Jl h.ne];intro c a;simp only[ic,gP,iU,or_false]at a;rcases a with a|rfl|a|rfl|rfl
 .exact Qg (h.name.2.2 c a)
 .decide
 .exact XU _ h.args c a
 .decide
 .decide
def GB.len{x:zA}(h:GB x):Z x.toList<=4:=by
 rcases h with h|h
 .exact h.2.1
 .have:=h.2.1;omega
def Pz{f:Af}(h:Ol f)(a:Z f.args<=2):Z (C7 f).toList<=300:=by
 rw[Jl h.ne];have b:=h.name.2.1;have c:Z (Fw f.args)<=9:=by
  match hf:f.args with
  |[]=>simp[Fw]
  |[x]=>have:=(h.args x (by rw[hf];simp)).len;simp only[Fw];omega
  |[x,y]=>
   have:=(h.args x (by rw[hf];simp)).len;have:=(h.args y (by rw[hf];simp)).len;simp only[Fw,ib,gW];omega
  |x::y::z::l=>rw[hf]at a;simp at a
 simp only[ib,gW,iv];omega
def aJ{f:Af}(h:Ol f)(d:Z f.args<=2):Ja (C7 f)=j1/\Er (C7 f)=f:=by
 have b:=UK h;have e:(C7 f).size<=300:=by rw[Bg];exact Pz h d
 have c:Le (C7 f)=j1:=by
  unfold Le;rw[b];simp only[ie,iv];rw[i9 (by omega),i9 (by omega),i9 (by omega),i9 (by omega)];rfl
 have a:Er (C7 f)=f:=by
  unfold Er;rw[gY c,b];unfold AB;simp only[iX];have:(AR Bs∘AE.mk 0)=id:=by funext x;rfl
  rw[this,List.map_id]
 refine⟨?_,a⟩;unfold Ja;rw[c,a];simp
def au(s:zA):Nat:=AC (λc=>c !=10) s 0
def Pt(acc:mc Af)(f:Af):Bool:=match acc.getLast? with
 |none=>j1
 |some g=>CZ g f
def Em:Nat->mc Af->zA->Option (mc Af)
 |0,_,_=>Y
 |n+1,acc,s=>if s.size=0 then V acc else if au s=s.size then Y else
  if(Ja (s.extract 0 (au s))&&Pt acc (Er (s.extract 0 (au s))))=j1 then Em n (acc++[Er (s.extract 0 (au s))]) (s.extract (au s+1) s.size)else Y
def Wg(p:UInt8->Bool)(s:zA)(i:Nat):∀k (h:k<s.size),i<=k->k<AC p s i->p s[k]=j1:=by
 fun_induction AC p s i with
 |case1 i h hp ih=>
  intro k b c a;by_cases e:k=i
  .subst e;exact hp
  .exact ih k b (by omega) a
 |case2 i h hp=>intro k b c a;omega
 |case3 i h=>intro k b c a;omega
def Wy(p:UInt8->Bool)(s:zA)(i:Nat):∀(h:AC p s i<s.size),p s[AC p s i]=K:=by
 fun_induction AC p s i with
 |case1 i h hp ih=>exact ih
 |case2 i h hp=>intro a;simpa using hp
 |case3 i h=>intro a;omega
def eY(s:zA):au s<=s.size:=Ci _ _ _ (ik _)
def cG{s:zA}(j:Nat)(a:j<s.size)(h:j<au s):s[j].toNat≠10:=by
 have:=Wg _ s 0 j a (ik _) h;simp only[bne_iff_ne,ne_eq]at this;exact λe=>this (jp.1 (by rw[e];rfl))
def cF{s:zA}(h:au s<s.size):s[au s].toNat=10:=by
 have:=Wy _ s 0 h;simp only[bne_eq_false_iff_eq]at this;have e:s[au s]=10:=this;rw[e];rfl
def fm{s:zA}{k:Nat}(b:k<s.size)(c:∀j (d:j<s.size),j<k->s[j].toNat≠10)(a:s[k].toNat=10):au s=k:=by
 rcases Nat.lt_trichotomy (au s) k with h|h|h
 .exact absurd (cF (by omega)) (c _ (by omega) h)
 .exact h
 .exact absurd a (cG k b h)
def aE{s:zA}{x:zA}{a:mc UInt8}(h:s.toList=x.toList++10::a)(p:∀c∈x.toList,c≠10):
  au s=Z x.toList/\Z x.toList<s.size/\s.extract 0 (Z x.toList)=x/\(s.extract (Z x.toList+1) s.size).toList=a:=by
 have d:=Sp s;rw[h]at d;have q:s.size=Z x.toList+1+Z a:=by rw[Bg,h];simp;omega
 have g:∀j (f:j<s.size) (k:j<Z (x.toList++10::a)),s[j]=(x.toList++10::a)[j]:=λj f k=>by
  have:=d.2 j k (by omega);simpa using this
 refine⟨fm (by omega) (λj f b e=>?_) ?_,by omega,?_,?_⟩
 .rw[g j f (by simp;omega),kj b]at e;exact p _ (gL b) (jp.1 (by rw[e];rfl))
 .rw[g _ (by omega) (by simp),List.getElem_append_right (by omega)];simp
 .have:=GL d.left;rw[iM]at this;exact this
 .have o:Fx s (0+Z x.toList+[(10:UInt8)].length) a:=(Fx.right (l:=[10]) d.right);have n:s.extract (Z x.toList+1) (Z x.toList+1+Z a)=⟨a.toArray⟩:=by
   (have b:a=(⟨a.toArray⟩:zA).toList:=by rw[iy]);have m:=GL (x:=⟨a.toArray⟩) (s:=s) (i:=Z x.toList+1) (by rw[<-b];simpa using o);rw[<-b]at m;exact m
  rw[<-q]at n;rw[n,iy]
def IF(l:mc Af):mc UInt8:=l.flatMap λf=>(C7 f).toList++[10]
def NU:∀(l b:mc Af) (s:zA) (n:Nat),s.toList=IF l->s.size<n->(∀f∈l,Ol f/\Z f.args<=2)->(∀f,l.head?=V f->Pt b f=j1)->Ef l->Em n b s=V (b++l)
 |[],b,s,0,_,hn,_,_,_=>by omega
 |[],b,s,n+1,h,_,_,_,_=>by
  have o:s.size=0:=by rw[Bg,h];rfl
  rw[Em,gY o,iJ]
 |f::l,b,s,0,_,hn,_,_,_=>by omega
 |f::l,b,s,n+1,h,hn,hF,hA,hR=>by
  obtain⟨e,i⟩:=hF f (by simp);have q:s.toList=(C7 f).toList++10::IF l:=by
   rw[h];unfold IF;simp
  obtain⟨j,u,k,p⟩:=aE q (aM e);obtain⟨t,r⟩:=aJ e i;have d:=jz.1 hR;rw[Em,gV (by omega),j,gV (by omega),k,t,r,hA f rfl,gY (by rfl),NU l (b++[f]) _ n p (by rw[iW];omega) (λg c=>hF g (by simp[c])) (λg c=>?_) d.2]
  .simp
  .unfold Pt;rw[List.getLast?_append];have:g∈l:=by cases l with
    |nil=>simp at c
    |cons a m=>simp at c;simp[c]
   exact d.1 g this
def Sd:∀(l:mc Af) (t:zA),(U2 t l).toList=t.toList++IF l
 |[],t=>by simp[U2,IF]
 |f::l,t=>by
  rw[U2,Sd l,Dh,Dh];have a:(⟨#[10]⟩:zA).toList=[10]:=by rw[iy]
  rw[a];unfold IF;simp
def NZ:∀(l:mc Af),(∀f∈l,Ol f/\Z f.args<=2)->Z (IF l)<=301*Z l
 |[],_=>by simp[IF]
 |f::l,h=>by
  have a:=NZ l (λg b=>h g (by simp[b]));have c:=Pz (h f (by simp)).1 (h f (by simp)).2;unfold IF at a⊢;rw[il,ib,ib,gW,gW,iv];omega
def YT{s t:zA}(x:JF s t 0){cs:mc A6}(g:Dn cs)(r:(Ap s (Ae s 0)).2.2=K)(j:cs.map A6.erase=(Ap s (Ae s 0)).1):
  ∃(L:zA->Nat) (N:Nat) (u:mc Af),Cn cs L/\Il cs L N u/\(∀c∈cs,L c.head.name<N)/\t=U2 lU u/\(∀f∈u,Ol f/\Z f.args<=2)/\Z u<=6912:=by
 obtain⟨z,L,N,u,k,n,v,p,rfl⟩:=x.2 rfl;have a:=Li (k.trans j.symm);have b:=Li (j.trans k.symm);have h:=a.inv b v;have l:∀f∈u,Ol f:=λf e=>UE r j (h.zZ f e)
 have o:∀f∈u,AJ f:=λf e=>(h.zZ f e).canon g.prog.zN
 refine⟨L,N,u,b.zS n,h,λd m=>?_,Qq u _ λf e=>⟨o f e,(l f e).ne⟩,λf e=>⟨l f e,?_⟩,?_⟩
 .obtain⟨c,i,w,_⟩:=b d m;rw[<-w];exact p c i
 .obtain⟨c,i,_,q⟩:=(h.zZ f e).zh;rw[q];exact(g.order.small.2 c i).2.1
 .have y:=h.len g.prog.zN;have A:=QA g.order.small.1 (λc i=>(g.order.small.2 c i).2.1);omega
def Uj{s t:zA}(e:JF s t 0){cs:mc A6}(b:Dn cs)(g:(Ap s (Ae s 0)).2.2=K)(j:cs.map A6.erase=(Ap s (Ae s 0)).1):
  ∃u,Em (t.size+1) [] t=V u/\Rj cs u/\Q3 cs u=j1/\t.size<=1000000000000:=by
 obtain⟨L,N,u,h,a,i,rfl,d,l⟩:=YT e b g j;have c:(U2 lU u).toList=IF u:=by
  rw[Sd];have:ByteArray.empty.toList=[]:=by rw[iy];rfl
  rw[this,i6]
 have m:=NZ u d;refine⟨u,?_,a.zh,ZH (b.other h) a i,by rw[Bg,c];omega⟩;rw[NU u [] _ _ c (Nat.lt_succ_self _) d (λf k=>rfl) a.zL];rfl
def bN{s:zA}(h:Ja s=j1):OA (Er s):=by
 obtain⟨_,b,_⟩:=M4 h;unfold Ja at h;rw[iq]at h;obtain⟨a,_⟩:=h;have hF:Er s=AB Bs (An s 0).1.head:=by unfold Er;rw[gY a]
 unfold Le at a;simp only[iq,jU,jY]at a;obtain⟨m,e,g,l,j⟩:=a;rw[hF]at b⊢;refine⟨by simp[AB];omega,λx c=>?_⟩;have i:=(b x c).size;obtain⟨t,d,rfl⟩:=gX.1 c;have f:=(Lw s 0).1.2 t d;have k:(AR Bs t).size<=t.s.size:=by
  unfold AR Bs;split
  .exact ig _
  .rw[ia,List.getElem?_replicate];split<;>exact ik _
 omega
def YN(a:mc Dr)(f:Af):Pt (a.map Dr.f) f=match a.getLast? with
 |none=>j1
 |some g=>CZ g.f f:=by
 unfold Pt;rw[List.getLast?_map];cases a.getLast?<;>rfl
theorem Yz(C:zA)(w:l9)(U0:C.size<=1000000000000):
  Calls prog 17 #[O C] w λe w'=>∃(z:Option Addr) (G:Nat) (a:mc Dr),e=lo (.tuple #[U z (Z a) G,lT (Em (C.size+1) [] C).isSome])/\a.map Dr.f=(Em (C.size+1) [] C).getD []/\KG w' (U z (Z a) G) a/\Ac [] w w':=by
 obtain⟨i0,RV,NV,S1,RE⟩:=iR Tryz.info43;obtain⟨N,hN⟩:∃N,w.heap.size=N:=⟨_,rfl⟩;have HN:=Ab hN;obtain⟨F,hF⟩:∃F,Em (C.size+1) [] C=F:=⟨_,rfl⟩;rw[hF];have HW:lO (∀d,F=Y->Ac [] w d->∃(z:Option Addr) (G:Nat) (a:mc Dr),lo (.tuple #[U Y 0 0,lT K])=lo (.tuple #[U z (Z a) G,lT F.isSome])/\a.map Dr.f=F.getD []/\KG d (U z (Z a) G) a/\Ac [] w d):=λd h k=>⟨Y,0,[],by rw[h];rfl,by rw[h];rfl,⟨ip _ _ _ _,λp hp=>by simp at hp⟩,k⟩
 have HF:=Ab hF;clear hN hF;go_enter func17,ntmps17;go_wp2_with fail
 go_loopg [0,4] C.size (λgk sv lv wr=>∃(s:zA) (n:Nat) (a:mc Dr) (z:Option Addr) (G:Nat),sv=O s/\lv=U z (Z a) G/\lO (gk=s.size)/\lO (Z a+s.size<=C.size)/\lO (s.size<n)/\lO (Em n (a.map Dr.f) s=F)/\lO (lQ wr N 43 2 (U z (Z a) G) (Z a) (a.flatMap CN))/\lO (∀r∈a,Gu wr r/\OA r.f)/\lO (Ac [] w wr))
 case atStart=>exact⟨C,C.size+1,[],Y,0,rfl,rfl,rfl,by show _<=_;simp,Nat.lt_succ_self _,HF,ip _ _ _ _,(λr u=>by simp at u),me _ _⟩
 case round=>
  clear HF;obtain⟨s,n,a,z,G,rfl,rfl,HG,Ax,DT,HR,HO,HE,HK⟩:=hrel;by_cases hz:s.size=0
  .have S:lO (F=V (a.map Dr.f)):=by
    show _=_;rw[<-Aa HR];obtain⟨m,rfl⟩:∃m,n=m+1:=⟨n-1,by have:=Aa DT;omega⟩;rw[Em,gY hz]
   clear HR DT Ax HG;go_wp2;go_ret2;exact⟨z,G,a,by rw[Aa S];rfl,by rw[Aa S];rfl,⟨Am HO (ik _),HE⟩,HK⟩
  .obtain⟨m,hm⟩:∃m,n=m+1:=⟨n-1,by have:=Aa DT;omega⟩;subst hm;have S:lO (F=if au s=s.size then Y else if(Ja (s.extract 0 (au s))&&Pt (a.map Dr.f) (Er (s.extract 0 (au s))))=j1 then Em m (a.map Dr.f++[Er (s.extract 0 (au s))]) (s.extract (au s+1) s.size)else Y):=by
    show _=_;rw[<-Aa HR,Em,gV hz]
   have OH:=eY s;(have K4:lO (∀j (hj:j<s.size),j<au s->s[j].toNat≠10):=λj hj h=>cG j hj h);(have H3:lO (∀(h:au s<s.size),s[au s].toNat=10):=λh=>cF h);obtain⟨I,hI⟩:∃I,au s=I:=⟨_,rfl⟩;(have VR:s.size<=1000000000000:=by have:=Aa Ax;omega);rw[hI]at S OH;(have KK:lO (∀j (hj:j<s.size),j<I->s[j].toNat≠10):=by rw[<-hI];exact K4);(have HC:lO (∀(h:I<s.size),s[I].toNat=10):=by intro h;subst hI;exact H3 h);clear HR hI K4 H3;(have VS:(0:Int)<(s.size:Int):=by omega);go_wp2_with fail
   go_loopg [5] I (λTV i wq=>∃(j:Nat),i=X J j/\j<=I/\TV=I-j/\wq=wr)
   case atStart=>exact⟨0,rfl,by omega,rfl,rfl⟩
   case round=>
    obtain⟨j,rfl,hj,Ha,rfl⟩:=hrel;have K9:=Ab Ha;clear Ha;(have U1:(0:Int)<=(j:Int):=by omega);by_cases H7:j<I
    ·(have SL:(j:Int)<(s.size:Int):=by omega);have UO:=Aa KK j (by omega) H7;(have H2:(((s[j]'(by omega)).toNat:Int) !=10)=j1:=by simp only[bne_iff_ne,ne_eq];omega);go_wp2
     go_roundg (I-(j+1))
     case measure=>have:=Aa K9;omega
     case rel=>exact⟨j+1,by go_num,by omega,rfl,rfl⟩
    ·(obtain rfl:j=I:=by omega);clear K9 H7 KK;by_cases LL:j=s.size
     ·(have Q:lO (F=Y):=by show _=_;rw[Aa S,gY LL]);(have W2:¬(j:Int)<(s.size:Int):=by omega);(have M2:((j:Int)==(s.size:Int))=j1:=by simp only[jA];omega);clear S HC;go_wp2;go_ret2;exact HW _ Q HK
     ·(have SL:(j:Int)<(s.size:Int):=by omega);(have NB:j<s.size:=by omega);have KS:s[j].toNat=10:=HC NB;(have H2:((s[j].toNat:Int) !=10)=K:=by rw[KS];rfl);(have M2:((j:Int)==(s.size:Int))=K:=by simp only[iw,ne_eq];omega);have Q:lO (F=if(Ja (s.extract 0 j)&&Pt (a.map Dr.f) (Er (s.extract 0 j)))=j1 then Em m (a.map Dr.f++[Er (s.extract 0 j)]) (s.extract (j+1) s.size)else Y):=by
       show _=_;rw[Aa S,gV LL]
      clear S HC;obtain⟨x,hx⟩:∃x,s.extract 0 j=x:=⟨_,rfl⟩;rw[hx]at Q;(have W0:x.size<=1000000000000:=by rw[<-hx,iW];omega);(have LC:lO (∀d,Calls prog 26 #[O x] d λe w'=>TM x d e w'):=λd=>dX x d (by omega));have HX:=Ab hx;clear hx;(go_wp2_with fail);rw[Aa HX];refine(LC _).mono ?_;rintro _ T ⟨⟨⟨y,o⟩,qv⟩,rfl,K7,HZ,_,k3⟩;obtain⟨E,D,e⟩:=Al HZ;simp only at e;subst e;simp only[CN];have HQ:lO ((⟨y,o⟩:Af)=Er x):=K7;have H9:=Ab HZ;have HV:=Ab (HK.trans k3);have MN:=Ab (Ad HO k3 (by simp));(have HP:lO (∀r∈a,Gu T r/\OA r.f):=λr u=>⟨(HE r u).1.kept k3,(HE r u).2⟩);have M6:=k3.size;clear K7 HZ k3 HO HE HK LC H2 M2 KS;have A1:=Ab (mf T [O y,U E (Z o) D] 43);have A2:lO (Ac [] T (T.alloc (j2 [O y,U E (Z o) D].toArray 43))):=(me [] T).alloc _;(go_wp2_with fail);generalize T.alloc (j2 [O y,U E (Z o) D].toArray 43)=w4 at A1 A2⊢;obtain⟨B,hB⟩:∃B,T.heap.size=B:=⟨_,rfl⟩;rw[hB]at A1⊢;(have W3:N<=B:=by have:=HV.size;have:=Aa HN;omega);clear hB M6;have Go:=Ab (HV.trans A2);have FC:=Ab (Ad MN A2 (by simp));(have FO:lO (∀r∈a,Gu w4 r/\OA r.f):=λr u=>⟨(HP r u).1.kept A2,(HP r u).2⟩);have H1:=Ab (H9.kept A2);clear HV MN HP H9 A2;cases ho:Ja x with
      |false=>
       have H:lO (F=Y):=by
        show _=_;rw[Aa Q,ho];rfl
       clear Q
       go_quiet (fail)
       rename_i nq;have AO:=Ab (Go.drewN nq);go_wp2;go_ret2;exact HW _ H AO
      |true=>
       have H5:=Ab (bN ho);have SB:a=[]\/a≠[]:=Classical.em _;rcases SB with A|A
       case' inl=>
        have H:lO (F=Em m (a.map Dr.f++[Er x]) (s.extract (j+1) s.size)):=by
         show _=_;rw[Aa Q,ho,A];rfl
        (have NL:¬(0:Int)<(Z a:Int):=by rw[A];simp);(have B9:¬0<Z a:=by rw[A];simp);(have Ha:decide ((0:Int)<(Z a:Int))=K:=by rw[A];rfl);(have NX:decide (0<Z a)=K:=by rw[A];rfl);clear Q A
        go_quiet (fail)
        clear NL B9 Ha NX;rename_i nq;have P:=(me [] w4).drewN nq;generalize w4.drewN nq=R at P⊢
       case' inr=>
        have Nd:0<Z a:=List.length_pos_iff.2 A;obtain⟨M,hM⟩:∃M,Z a=M+1:=⟨Z a-1,by omega⟩;obtain⟨g,W1,he,_,HJ⟩:=AF (f:=CN) (l:=a) (Aa FC) (λc _=>rfl) M (by omega);have d0:=HJ M (by omega) 0 (by omega);have d1:=HJ M (by omega) 1 (by omega);have Ix:a[M]'(by omega)=a.getLast A:=by
         rw[List.getLast_eq_getElem]
         congr 1
         omega
        obtain⟨EY,HI⟩:=FO _ (List.getLast_mem A);have HU:Pt (a.map Dr.f) (Er x)=CZ (a.getLast A).f (Er x):=by
         rw[YN,List.getLast?_eq_some_getLast A]
        rw[Ix]at d0 d1;obtain⟨r,u⟩:∃r,a.getLast A=r:=⟨_,rfl⟩;rw[u]at d0 d1 EY HI HU;clear Ix u HJ;obtain⟨⟨fn,fa⟩,fv⟩:=r;obtain⟨FT,FP,K5⟩:=Al EY;simp only at K5;subst K5;simp only[gM]at he;obtain⟨rfl,_,rfl⟩:=he;simp[CN]at d0 d1;obtain⟨BA,HM⟩:∃BA,CZ (⟨fn,fa⟩:Af) (Er x)=BA:=⟨_,rfl⟩;(have K2:CZ (⟨fn,fa⟩:Af) (⟨y,o⟩:Af)=BA:=by rw[<-HM,<-Aa HQ]);(have IS:OA (⟨y,o⟩:Af):=by rw[Aa HQ];exact H5);(have MB:lO (∀d,Ac [] w4 d->Calls prog 46 #[.agg #[O fn,U FT (Z fa) FP],.agg #[O y,U E (Z o) D]] d λe w'=>e=lo (lT BA)/\Ac [] d w'):=λd W=>(YG ⟨⟨fn,fa⟩,U FT (Z fa) FP⟩ ⟨⟨y,o⟩,U E (Z o) D⟩ d (Gu.kept EY W) (Gu.kept H1 W) HI IS).mono λe w' h=>⟨h.1.trans (congrArg (λb=>lo (lT b)) K2),h.2⟩);(have LS:lO (∀d,Ac [] w4 d->lP d ⟨g,M*2,Y⟩=V (O fn)/\lP d ⟨g,M*2+1,Y⟩=V (U FT (Z fa) FP)/\lP d ⟨B,0,Y⟩=V (O y)/\lP d ⟨B,1,Y⟩=V (U E (Z o) D)):=λd W=>⟨W.cellAt d0,W.cellAt d1,W.cellAt (by have:=A1.cell 0;simpa using this),W.cellAt (by have:=A1.cell 1;simpa using this)⟩);have H:lO (F=if BA=j1 then Em m (a.map Dr.f++[Er x]) (s.extract (j+1) s.size)else Y):=by
         show _=_;rw[Aa Q,ho,HU,HM];simp
        clear Q HM HU EY HI d0 d1 K2 IS;(have SJ:(0:Int)<(Z a:Int):=by omega);(have Nj:(Z a:Int)-1=(M:Int):=by omega);(have NS:(M:Int)<(Z a:Int):=by omega);(have N4:(0:Int)<=(M:Int):=by omega);(have NM:IntKind.i64.wrap (M:Int)=(M:Int):=by rw[j7];have:=Aa Ax;omega);(have QR:M<Z a:=by omega);(have RT:(0:Int)<=(Z a:Int)-1:=by omega);(have Nq:(Z a:Int)-1<(Z a:Int):=by omega);(have Op:((Z a:Int)-1).toNat=M:=by omega);(have S0:Z a-1=M:=by omega);(have TL:1<=Z a:=by omega);(have PT:IntKind.i64.wrap ((Z a:Int)-1)=(M:Int):=by rw[j7];have:=Aa Ax;omega);clear hM A
        go_region_held3 (λd=>Ac [] w4 d/\lP d ⟨g,M*2,Y⟩=V (O fn)/\lP d ⟨g,M*2+1,Y⟩=V (U FT (Z fa) FP)/\lP d ⟨B,0,Y⟩=V (O y)/\lP d ⟨B,1,Y⟩=V (U E (Z o) D)) ((go_split_ands;refine(fun(MY:Ac [] w4 _)=>And.intro MY (LS _ MY)) ?_;repeat (first|assumption|exact me [] _|refine Ac.drew ?_|refine Ac.alloc ?_ _))) ((go_at_call 46;refine(MB _ (by go_split_ands;assumption)).mono ?_;rintro _ R ⟨rfl,k5⟩;have P:Ac [] w4 R:=(by go_split_ands;exact Ac.trans (by assumption) k5);clear k5))
        rename_i RB;clear RB MB LS SJ Nj NS N4 PT NM QR RT Nq Op S0 TL Nd;obtain⟨z,IJ⟩:∃z:Option Addr,z=V ⟨g,0,Y⟩:=⟨_,rfl⟩;rw[<-IJ]at FC⊢;clear IJ;cases BA
        case' false=>
         have L0:lO (F=Y):=H;have AO:=Ab (Go.trans P);clear H;go_wp2;go_ret2;exact HW _ L0 AO
        have L0:lO (F=Em m (a.map Dr.f++[Er x]) (s.extract (j+1) s.size)):=H;clear H
        rename lO (F=Em m (a.map Dr.f++[Er x]) (s.extract (j+1) s.size))=>H
       all_goals
        have AO:=Ab (Go.trans P);have EX:=Ab (Ad FC P (by simp));(have HS:lO (∀r∈a,Gu R r/\OA r.f):=λr u=>⟨(FO r u).1.kept P,(FO r u).2⟩);have K3:lO (Gu R ⟨⟨y,o⟩,U E (Z o) D⟩):=Gu.kept H1 P;have HY:=A1.kept P (by simp);have b0:=HY.cell 0;have b1:=HY.cell 1;simp at b0 b1;(have Wa:N<=R.heap.size:=by have:=AO.size;have:=Aa HN;omega);clear Go FC FO H1 A1 P HY;go_wp2_with (at_builtin;change lO (wpList _ _ _ _ _ _))
        show wpList _ _ _ _ _ _;(have Os:Z a<=1000000000000:=by have:=Aa Ax;omega);refine io _ rfl (.tmp 52) (.tmp 54) _ rfl N 43 i0 _ 2 40 (by kernel_rfl) RV NV S1 RE rfl (by omega) (U z (Z a) G) (Z a) (a.flatMap CN) rfl (gU EX _) ⟨R.heap.size,0,Y⟩ 1 1 [O y,U E (Z o) D] rfl rfl (iu (cs:=#[O y,U E (Z o) D]) (t:=43) (fr:=(0,0)) (iD R _)) (by simp[Value.oneCell']) (by omega) (by unfold maxLen;omega) (by omega) (by simp;omega) (R.heap.size+1) (by simp) ?_;intro g1 K1 w6 LE B9 M3 NN;have H4:Ac [] w w6:=(AO.alloc (j2 #[O y,U E (Z o) D] 43)).grown B9 (λq hq=>ly (by have h1:=(EX.lt q hq).1;have:=Aa HN;omega));have HH:∀{b e sz n:Nat} {v:Value} {ys:mc Value},lQ R b e sz v n ys->e≠43->lQ w6 b e sz v n ys:=fun{b e sz n v ys} u h1=>je (v:=v) (gU (v:=v) u _) B9 (by
         cases hpo:v.ownBlock with
         |none=>exact Or.inl rfl
         |some q=>exact ly (λe=>A7 u EX h1 q hpo e.symm))
        obtain⟨L,CL⟩:∃L:mc Dr,L=a++[⟨⟨y,o⟩,U E (Z o) D⟩]:=⟨_,rfl⟩;(have FL:Z a+1=Z L:=by rw[CL];simp);have RI:lO (lQ w6 N 43 2 (U (V ⟨g1,0,Y⟩) (Z L) K1) (Z L) (L.flatMap CN)):=by
         rw[<-FL,CL,ix];exact LE
        have RO:lO (∀r∈L,Gu w6 r/\OA r.f):=λr u=>by
         rw[CL]at u;rcases ic.1 u with h|h
         .exact⟨HH (v:=r.av) (HS r h).1 (by decide),(HS r h).2⟩
         .simp only[gN]at h;subst h;exact⟨HH K3 (by decide),by show OA (⟨y,o⟩:Af);rw[Aa HQ];exact H5⟩
        have ST:=Ab H4;rw[FL];have Nx:lO (Em m (L.map Dr.f) (s.extract (j+1) s.size)=F):=by
         show _=_;rw[Aa H,CL,iG,<-Aa HQ];rfl
        have NY:lO (Z L+(s.extract (j+1) s.size).size<=C.size):=by
         have:=Aa Ax;show _<=_;rw[<-FL,iW];omega
        have TX:lO ((s.extract (j+1) s.size).size<m):=by
         have:=Aa DT;show _<_;rw[iW];omega
        clear HH LE B9 M3 NN H4 EX HS K3 AO b0 b1 FL CL Os HQ H Ax DT;(have VL:(j:Int)+1<=(s.size:Int):=by omega);(have XS:(0:Int)<=(j:Int)+1:=by omega);go_wp2
        go_roundg (s.size-(j+1))
        case measure=>have:=Aa HG;omega
        case rel=>exact⟨s.extract (j+1) s.size,m,L,V ⟨g1,0,Y⟩,K1,rfl,rfl,by show _=_;rw[iW];omega,NY,TX,Nx,RI,RO,ST⟩
theorem Wk(W:∀w,Calls prog 19 #[] w λe g=>e=lo (lT j1)/\Ac [] w g)
  (Q N b cap:Nat) (HM:Nat->Int) (S T:Nat->zA) (w:l9) (h:W8 w Q N b HM S T) (hl:b<=cap) (hc:cap<=9223372036854775807) (hS:∀i,i<b->(S i).size<=9223372036854775807/\(T i).size<=9223372036854775807):
  Calls prog 5 #[U (V ⟨Q,N,Y⟩) b cap] w λe g=>e=lo (lT j1)/\Ac [] w g:=by
 have B2:=Ab h;have HE:=Ab hS;have FF:=Ab W;clear h hS W;go_enter func5,ntmps5;go_wp2
 go_loopg [3] b (λgk i wr=>∃(k:Nat),i=X J k/\k<=b/\k<=1152921504606846976/\gk=b-k/\lO (Ac [] w wr))
 case atStart=>exact⟨0,rfl,by omega,by omega,rfl,me _ _⟩
 case round=>
  obtain⟨k,rfl,B,HI,EX,o⟩:=hrel;have HG:=Ab EX;clear EX;by_cases A:k<b
  ·(have HL:(k:Int)<(b:Int):=by omega);(have HU:(0:Int)<=(k:Int):=by omega);by_cases AO:k<1152921504606846976
   ·(have HF:(k:Int)<1152921504606846976:=by omega);have A1:=Ab AO;clear AO HI;obtain⟨z,C,x⟩:=B2.kept o k A;have FT:=(Aa HE k A).1;have P:=Ab (NG (S k) wr FT);(go_wp2_with fail);refine P.mono ?_;rintro _ I ⟨t,⟨m,ra⟩,rfl,AT,BA,l⟩;have FA:=Ab AT;have p:=Ab BA;have j:=Ab (o.trans l);clear P AT BA l o z C x;obtain⟨z,C,x⟩:=B2.kept j k A;have FC:=Ab (YZ (S k) I FT);(go_wp2_with fail);refine FC.mono ?_;rintro _ q ⟨pv,er,Go,rfl,Ax,A2,k3⟩;have FP:(m,ra)=(er,Go):=It Ax FA;obtain⟨rfl,rfl⟩:=Prod.mk.inj FP;have y:=Ab A2;have E:=Ab (j.trans k3);clear FC FA Ax A2 k3 j FP z C x;by_cases G:m=0
    .subst G;obtain⟨pb,HP,HJ,cs,rfl,hP,hR,hF,HB,H,D,R⟩:=y rfl;have v:=Ho H D R;obtain⟨u,hu,hw,A0,DT⟩:=Uj p v H D;have L:lO (Calls prog 17 #[O t] q λe g=>∃(c:Option Addr) (d:Nat) (a:mc Dr),e=lo (.tuple #[U c (Z a) d,lT j1])/\a.map Dr.f=u/\KG g (U c (Z a) d) a/\Ac [] q g):=by
      have h:=Yz t q DT;rw[hu]at h;exact h
     have M:lO (∀(c:Option Addr) (d:Nat) (a:mc Dr) n,Ac [] q n->a.map Dr.f=u->KG n (U c (Z a) d) a->Calls prog 18 #[kt (V ⟨pb,0,Y⟩),U c (Z a) d] n λr g=>r=lo (lT j1)/\Ac [] n g):=by
      intro c d a n B e s;have h:=Zc (Rj cs) pb HP HJ cs c d a n (hP.kept B (by simp)) (hR.kept B) (by have:=v.order.small.1;omega) (v.fit hF) s (by rw[e];exact hw);rw[e,A0]at h;exact h
     clear hP hR hF HB H D R v hu hw A0 DT y p;have HO:((0:Int) !=0)=K:=rfl;(go_wp2_with fail);refine L.mono ?_;rintro _ w4 ⟨c,d,a,rfl,hm,s,F⟩;have HC:=Ab (M c d a w4 F hm s);have EM:=Ab (E.trans F);clear L M hm s F E;go_wp2_with (go_at_call 16;refine(Tr 0 _).mono ?_;rintro _ w5 ⟨rfl,rfl⟩)
     refine HC.mono ?_;rintro _ w6 ⟨rfl,k6⟩;have HN:=Ab (EM.trans k6);clear HC k6 EM;go_wp2
     go_roundg (b-(k+1))
     case measure=>have:=Aa HG;omega
     case rel=>exact⟨k+1,by go_num,by omega,by have:=Aa A1;omega,rfl,HN⟩
    .have ht:t=lU:=p.1 G;subst ht;(have HO:(m !=0)=j1:=by simpa using G);(have HR:(m !=m)=K:=by simp);clear p y;go_wp2_with (go_at_call 16;refine(Tr m _).mono ?_;rintro _ w5 ⟨rfl,rfl⟩)
     go_roundg (b-(k+1))
     case measure=>have:=Aa HG;omega
     case rel=>exact⟨k+1,by go_num,by omega,by have:=Aa A1;omega,rfl,E⟩
   ·(have HF:¬(k:Int)<1152921504606846976:=by omega);(go_wp2_with fail);refine(FF _).mono ?_;rintro _ I ⟨rfl,l⟩;have j:=Ab (o.trans l);go_wp2;go_ret;exact⟨rfl,j⟩
  ·(have HL:¬(k:Int)<(b:Int):=by omega);(go_wp2_with fail);refine(FF _).mono ?_;rintro _ I ⟨rfl,l⟩;have j:=Ab (o.trans l);go_wp2;go_ret;exact⟨rfl,j⟩
set_option maxRecDepth 512
theorem WK(d:∀w,Calls prog 19 #[] w λe b=>e=lo (lT j1)/\Ac [] w b)(a:Option Addr)(cap:Nat)(w:l9):Calls prog 5 #[U a 0 cap] w λe b=>e=lo (lT j1)/\Ac [] w b:=by
 have f:=Ab d;clear d;go_enter func5,ntmps5;go_wp2
 go_loop [3] (λi=>i=X J 0) (λ_=>0)
 case atStart=>rfl
 case round=>
  subst hrel;go_wp2_with fail
  refine(f _).mono ?_;rintro _ h ⟨rfl,c⟩;have g:=Ab c;clear c;go_wp2;go_ret;exact⟨rfl,g⟩
