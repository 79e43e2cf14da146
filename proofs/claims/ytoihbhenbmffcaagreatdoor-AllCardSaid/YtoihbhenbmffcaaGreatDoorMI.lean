import Derived.Test.YtoihbhenbmffcaaGreatDoorMH
set_option linter.all false
set_option maxHeartbeats 0
open List renaming length->Z,toArray->Za,flatMap->qS,take->qT,foldl->qU
open Option renaming none->Y,some->V
open Go.Value renaming slice->U,int->X,string->O,pointer->jj,agg->ku,bool->kx
open Bool renaming false->K,true->T6
open Go.IntKind renaming i64->J
open Go.Obj renaming cells->Y6
open Go.Ending renaming returned->j1
open Or renaming inl->j2,inr->j3
open Go renaming World->jH,Calls->rE
open Go.RowKit renaming Hid->jV
open Go.World renaming cell?->jY,ownsRow->kt
open ByteArray renaming empty->ky
open Go.Proofs.Tryz renaming prog->rF
namespace Go.Proofs.YtoihbhenbmffcaaGreatDoor
open Go.RowKit Go.Proofs.Tryz
section
def Lj(n:Nat):bN:=if n<10 then⟨#[UInt8.ofNat (48+n)]⟩else⟨#[49,UInt8.ofNat (38+n)]⟩
set_option maxRecDepth 100000
theorem ck(n:Nat)(c:n<12)(w):rE rF 209 #[X J n] w λe a=>e=j1 (O (Lj n))/\a=w:=by
 have b:n=0\/n=1\/n=2\/n=3\/n=4\/n=5\/n=6\/n=7\/n=8\/n=9\/n=10\/n=11:=lc
 rcases b with rfl|rfl|rfl|rfl|rfl|rfl|rfl|rfl|rfl|rfl|rfl|rfl;all_goals
  go_enter func209,ntmps209;go_wp2;go_ret;exact⟨by first|rfl|decide|(simp[Lj];trace_state),rfl⟩
set_option maxRecDepth 512
theorem SG(n:Nat)(d:n<12)(w):rE rF 183 #[X J n,X J 10] w λe b=>e=j1 (O (Lj n))/\b=w:=by
 have c:=Ab (ck n d w);have h:=rJ n
 have g:(n:Int)<100:=lc
 go_enter func183,ntmps183;go_wp2_with fail
 refine c.G ?_;rintro e f ⟨rfl,a⟩;subst a;go_wp2;go_ret;exact⟨rfl,rfl⟩
theorem cA(n:Nat)(d:n<12)(w):rE rF 147 #[X J n] w λe b=>e=j1 (O (Lj n))/\b=w:=by
 have c:=Ab (SG n d w);go_enter func147,ntmps147;go_wp2_with fail
 refine c.G ?_;rintro e f ⟨rfl,a⟩;subst a;go_wp2;go_ret;exact⟨rfl,rfl⟩
theorem fN(n:Nat)(d:n<12)(w):rE rF 99 #[X J n] w λe b=>e=j1 (O (Lj n))/\b=w:=by
 have c:=Ab (cA n d w);go_enter func99,ntmps99;go_wp2_with fail
 refine c.G ?_;rintro e f ⟨rfl,a⟩;subst a;go_wp2;go_ret;exact⟨rfl,rfl⟩
end
section
open Go.Shelf Go.RowKit
open Go.Proofs.Tryz
variable{w v u:jH}{m k n j:Nat}{T:TypeId}{y:kN Value}{s t:bN}{M:kN Nat}{o:rB}
def Js:bN->kN Df->bN
 |t,[]=>t
 |t,h::l=>Js (t++B7 h.2.E++⟨#[32]⟩++Lj h.1++⟨#[10]⟩) l
def Z8{v}(h:kt w m T k v n y)(l:Lp j s M w)(f:T≠145)(c:T≠5):∀i,v.ownBlock=V i->i∉M:=by
 intro i b a;obtain⟨p,q,o,_,g,d,rfl⟩:=l;rcases l9.1 a with rfl|a
 .exact Ap h g f b
 .exact Be h d c i b sA
structure SC(w:jH)(N:Nat)(ad:rB)(cp:Nat)(sts:kN (Nat×Vn))(t:bN)(wz:jH):Prop where
 zz:∃M,Lp N t M wz
 row:kt wz 0 176 4 (U ad (Z sts) cp) (Z sts) (qS Cl sts)
 j:∀p∈sts,C6 wz p.2.f/\Z p.2.f.f.dN<=1000/\∃a n c,p.2.n=U a n c
 C:Ac [] w wz
def SC.calm{b}(h:SC w n o m b t v)(k:Ac [] v u):SC w n o m b t u:=by
 obtain⟨M,c⟩:=h.zz;exact⟨⟨M,c.C k⟩,Ad h.row k,λp a=>⟨(h.j p a).1.C k,(h.j p a).2⟩,h.C.H k⟩
def SC.step{w c e}{g}(u:w.heap.size=n)(h:SC w n o m g t c)(d:Lp n t M c)(j:ej n s M c e):SC w n o m g s e:=by
 obtain⟨k,l,b,r⟩:=j;exact⟨⟨k,l⟩,Ag h.row b (Z8 h.row d lu lu),λp a=>⟨Ag (v:=p.2.f.tv) (h.j p a).1 b (Z8 (v:=p.2.f.tv) (h.j p a).1 d lu lu),(h.j p a).2⟩,h.C.trans' b (λi q=>j3 (by have:=(d.lt i q).1;omega))⟩
set_option maxRecDepth 100000
theorem Zi(IA H3)(BT:kN CQ)(o F fp w)(hP:CA w (U IA (Z BT) H3) BT)(hB:Ia BT o)(hf:fp.f=Bn F)(hc:AG F)(HT:C6 w fp)(LS:Z fp.f.dN<=1000)(hz:∀f,DQ o f->f.a.size<=1000000/\∀x∈(Bn f).dN,x.size<=1000000)(Jx:∀f,DQ o f->f.qH≠[])(SJ:Z o<=12):rE rF 54 #[U IA (Z BT) H3,ku (Za (AJ fp))] w λr G=>∃(s:kN Ae) (a:kN Df) (L:bN->Nat) (n:Nat),r=j1 (O (Js ky (IT a F)))/\ZP o a s/\CP o L/\Hu o L n s/\(∀c∈o,L c.E.a<n)/\Ac [] w G:=by
 obtain⟨⟨fn,A0⟩,S1⟩:=fp;obtain⟨EK,CW,e⟩:=Aj HT;simp at e hf LS;subst e;simp only[AJ];have HH:=Ab ((kR [] w).alloc (Y6 #[O fn,U EK (Z A0) CW] 104));have FA:=Ab (kS w [O fn,U EK (Z A0) CW] 104);obtain⟨C,E0⟩:=kQ (w.alloc (Y6 #[O fn,U EK (Z A0) CW] 104));obtain⟨FB,FL⟩:=kQ w.heap.size;have S0:=Ab FL;have ST:=Ab E0;rw[E0]at HH FA;rw[FL]at FA;obtain⟨N,hN⟩:=kQ C.heap.size;have HN:=Ab hN;have U0:jV (FB+1=N):=by show _=_;rw[<-hN,<-E0,mJ,FL]
 have CL:=Ab ((kR [] C).alloc (Y6 #[jj Y,U Y 0 0] 145));have HQ:=Ab (Lp.new C);rw[hN]at HQ;have HD:=Ab (gG IA H3 BT o F _ _ (hP.C (HH.H CL)) hB hf hc (HT.C (HH.H CL)) LS);simp only[AJ]at HD;have Go:=Ab (FA.C CL);have KB:jV (∀(s:kN Ae) (a:kN Df) (L:bN->Nat) (n:Nat),ZP o a s->Hu o L n s->∀h∈IT a F,h.1<12/\AG h.2.E/\h.2.E.qH≠[]/\h.2.E.a.size<=1000000/\∀x∈(Bn h.2.E).dN,x.size<=1000000):=by
  intro s a L n hr hi h hh;have hw:=hB.zV hi;have hp:=(hr.proof hw.2.1 hc).1;have AB:=hp.zS h hh;have H5:=hi.zS _ AB;obtain⟨A,B,e⟩:=List.append_of_mem hh;obtain⟨D,_⟩:=hp.j A h B e;exact⟨lc,hw.2.1 _ AB,Jx _ H5,(hz _ H5).1,(hz _ H5).2⟩
 have NE:jV (∀(s:kN Ae) (a:kN Df) (L:bN->Nat) (n:Nat),ZP o a s->Hu o L n s->Z (IT a F)<=7000):=by
  intro s a L n hr hi;have hw:=(hB.zV hi).2.2;have D:=G0 (a.map λh=>h.2.E) s hr.nd (λf hf=>(hr.mem f).2 hf);have h2:=Ri a.reverse ([],[F]);rw[Rg]at h2;simp only[nk,rA,mI,mh]at D h2;show Z (Kn a.reverse [F])<=7000;omega
 clear hP hB hf hc HT hz Jx SJ hN E0 FL;go_enter func54,ntmps54;refine kI (λz j=>?_);go_wp2;refine j _ _ ?_;clear j z;change Code.wp _ _ _ _ (w.alloc (Y6 #[O fn,U EK (Z A0) CW] 104));rw[Aa ST,Aa S0];refine kI (λz j=>?_);go_wp2;refine j _ _ ?_;clear j z;rw[Aa HN];generalize C.alloc (Y6 #[jj Y,U Y 0 0] 145)=w2 at CL HQ HD Go|-;obtain⟨b0,b1⟩:=Go.c2;simp at b0 b1;refine kI (λz j=>?_);go_wp2_with fail
 refine HD.G ?_;rintro _ w3 ⟨ad,cp,v,s,a,L,n,rfl,Nj,K4,HZ,HL,NS,AB,NV,k3⟩;have MN:jV (SC C N ad cp v ky w3):=⟨⟨_,HQ.C k3⟩,Nj,K4,CL.H k3⟩;have RB:jV (ZP o a s/\CP o L/\Hu o L n s/\(∀c∈o,L c.E.a<n)):=⟨HL,NS,AB,NV⟩;have N0:=Ab (KB s a L n HL AB);have P0:=Ab HZ;have LE:Z v=Z (IT a F):=by have h:=rk List.length HZ;simpa using h
 have Nq:=Ab LE;have WS:Z v<=7000:=by have:=Aa NE s a L n HL AB;omega
 obtain⟨Q,HP⟩:=kQ (Js ky (IT a F));have LC:jV (Js ky ((IT a F).drop 0)=Q):=HP;have NX:=Ab HP;clear HD Nj K4 HZ HL NS AB NV k3 b0 b1 Go FA KB NE LE HP;go_wp2_with fail
 go_loopg [12] (Z v) (λgk i wr=>∃(k:Nat) (t:bN),i=X J k/\k<=Z v/\gk=Z v-k/\t.size<=k*2000000010/\jV (Js t ((IT a F).drop k)=Q)/\jV (SC C N ad cp v t wr))
 case atStart=>exact⟨0,ky,rfl,lc,rfl,ln,LC,MN⟩
 case round=>
  clear LC MN;obtain⟨k,t,rfl,hk,NB,VR,HC,R⟩:=hrel;have HG:=Ab NB;clear NB;by_cases FO:k<Z v
  ·(have HR:k<Z (IT a F):=by have:=Aa Nq;omega);obtain⟨g,hg,a0,a1,W,a3⟩:=Kd R.row k FO;subst hg;have E:=rk (λl=>l[k]?) P0;simp only[no,mc FO,mc HR,nM,lZ,mU]at E;obtain⟨o1,o2,o3,o4,o5⟩:=N0 _ (lV HR);have H8:Js t ((IT a F).drop k)=Js (t++B7 (IT a F)[k].2.E++⟨#[32]⟩++Lj (IT a F)[k].1++⟨#[10]⟩) ((IT a F).drop (k+1)):=by
    rw[mu HR,Js]
   have Bx:=R.j _ (lV FO);obtain⟨H,hH⟩:=kQ ((IT a F)[k]);rw[hH]at E o1 o2 o3 o4 o5 H8;obtain⟨⟨N2,⟨⟨T,P⟩,S1⟩,nv,Wa⟩,H9⟩:∃p,v[k]=p:=⟨_,rfl⟩;rw[H9]at a0 a1 W a3 E Bx;simp at a0 a1 W a3 E Bx;obtain⟨pa,pc,e1⟩:=Aj Bx.1;simp at e1;subst e1;obtain⟨TH,AR⟩:=E;have SS:=TH;subst SS;(have Ix:Fx ⟨T,P⟩=B7 H.2.E:=by rw[AR,Ps o2 o3]);obtain⟨qa,qn,qc,NY⟩:=Bx.2.2;subst NY;have UO:k*2000000010<=7000*2000000010:=m5 _ lc;have QR:(B7 H.2.E).size<=2000000000:=by
    rw[<-Ix];exact Ro Bx.2.1 (by rw[AR];exact o5) (by rw[AR];exact o4)
   have RO:(Lj H.1).size<=2:=by
    unfold Lj;split
    .show 1<=2;omega
    .show 2<=2;omega
   have HY:jV (∀q,SC C N (V ⟨g,0,Y⟩) cp v t q->rE rF 76 #[ku #[O T,U pa (Z P) pc]] q λe G=>e=j1 (O (B7 H.2.E))/\Ac [] q G):=by
    intro q hz;have D:=(hz.j _ (lV FO));rw[H9]at D;have h2:=Lz ⟨_,_⟩ q D.1 D.2.1 (by rw[AR];exact o5) (by rw[AR];exact o4);simp only[AJ,Ix]at h2;exact h2
   have M1:jV (∀(y u:bN) q,SC C N (V ⟨g,0,Y⟩) cp v u q->u.size+y.size<=140737488355328->rE rF 75 #[jj (V ⟨N,0,Y⟩),O y] q λe G=>e=j1 (.tuple #[X J y.size,.nilIface])/\SC C N (V ⟨g,0,Y⟩) cp v (u++y) G/\∀b S,AF q b S 176->AF G b S 176):=by
    intro y u q h hl;obtain⟨M,D⟩:=h.zz;refine(XD N u M y q D hl).G ?_;rintro e G ⟨rfl,hW⟩;refine⟨rfl,h.step HN D hW,λb S I=>?_⟩;obtain⟨_,_,hk,_⟩:=hW;refine I.C hk (λE=>?_);obtain⟨p,TL,SP,_,AH,HM,rfl⟩:=D;rcases l9.1 E with rfl|E
    .unfold AF at I AH;rw[I]at AH;simp at AH
    .exact Ap HM I lu (by simpa using E)
   have KS:jV (∀(d:rC) (u:bN) q,SC C N (V ⟨g,0,Y⟩) cp v u q->u.size+1<=140737488355328->rE rF 77 #[jj (V ⟨N,0,Y⟩),X .u8 d.toNat] q λe G=>e=j1 .nilIface/\SC C N (V ⟨g,0,Y⟩) cp v (u++⟨#[d]⟩) G/\∀b S,AF q b S 176->AF G b S 176):=by
    intro d u q h hl;obtain⟨M,D⟩:=h.zz;refine(UI N u M d q D hl).G ?_;rintro e G ⟨rfl,hW⟩;refine⟨rfl,h.step HN D hW,λb S I=>?_⟩;obtain⟨_,_,hk,_⟩:=hW;refine I.C hk (λE=>?_);obtain⟨p,TL,SP,_,AH,HM,rfl⟩:=D;rcases l9.1 E with rfl|E
    .unfold AF at I AH;rw[I]at AH;simp at AH
    .exact Ap HM I lu (by simpa using E)
   have HE:=Ab (fN H.1 o1);have HX:jV _:=H8.symm.H HC;generalize B7 H.2.E=FT at HX HY QR;generalize Lj H.1=DT at HX HE RO;generalize H.1=HN1 at W HE;obtain⟨VL,TX⟩:=rI (lc:k<Z v);have U1:(⟨#[32]⟩:bN).size=1:=rfl;have T0:(⟨#[10]⟩:bN).size=1:=rfl;have AO:=Ab (kS wr [O T,U pa (Z P) pc,X J HN1,U qa qn qc] 176);have FC:=Ab (R.calm ((kR [] wr).alloc (Y6 #[O T,U pa (Z P) pc,X J HN1,U qa qn qc] 176)));clear AR Ix o1 o2 o3 o4 o5 Bx hH H9 H8 HC R;refine kI (λz j=>?_);go_wp2;refine j _ _ ?_;clear j z;refine kI (λz j=>?_);go_wp2;refine j _ _ ?_;clear j z;refine kI (λK5 M6=>?_);refine wp_block ?_;refine kI (λz j=>?_);go_wp2;refine j _ _ ?_;clear j z;clear a0 a1 W a3;change Code.wp _ _ _ _ (wr.alloc (Y6 #[O T,U pa (Z P) pc,X J (HN1:Nat),U qa qn qc] 176));generalize wr.alloc (Y6 #[O T,U pa (Z P) pc,X J (HN1:Nat),U qa qn qc] 176)=wa at AO FC|-;obtain⟨BS,Mo⟩:=kQ wr.heap.size;rw[Mo]at AO|-;clear Mo;obtain⟨a0,a1⟩:=AO.c2;simp at a0 a1;refine kI (λz j=>?_);(go_wp2_with fail);refine(HY wa FC).G ?_;rintro _ wb ⟨rfl,kb⟩;have NA:=Ab (M1 FT t wb (FC.calm kb) lc);have K1:=Ab (AO.C kb);clear kb a0 a1 AO FC HY;(go_wp2_with fail);refine NA.G ?_;rintro _ wc ⟨rfl,KD,JA⟩;have LB:=Ab (JA _ _ K1);have Nx:=Ab (KS 32 _ wc KD li);clear NA KD JA K1;go_wp2;refine j _ _ ?_;clear j z;refine kI (λz j=>?_);(go_wp2_with fail);refine Nx.G ?_;rintro _ wd ⟨rfl,JJ,K7⟩;have NN:=Ab (K7 _ _ LB);have K2:=Ab JJ;have W:=NN.D 2;simp at W;clear Nx JJ K7 LB;go_wp2;refine j _ _ ?_;clear j z;refine kI (λz j=>?_);(go_wp2_with fail);refine(HE wd).G ?_;rintro _ we ⟨rfl,rfl⟩;have MY:=Ab (Aa M1 DT (t++FT++⟨#[32]⟩) we (Aa K2) li);clear HE K2;(go_wp2_with fail);refine MY.G ?_;rintro _ wf ⟨rfl,M3,-⟩;have IS:=Ab (KS 10 _ wf M3 li);clear MY M3 W NN;go_wp2;refine j _ _ ?_;clear j z;(go_wp2_with fail);refine IS.G ?_;rintro _ wg ⟨rfl,K6,-⟩;have TS:=Ab K6;clear IS K6;go_wp2;refine M6 _ _ ?_;clear M6;go_wp2
   go_roundg (Z v-(k+1))
   case measure=>exact qu
   case rel=>exact⟨k+1,_,ly,lc,rfl,li,HX,TS⟩
  .have M0:t=Q:=by
    have h:=Aa HC;rw[mN (by have:=Aa Nq;omega)]at h;exact h
   obtain⟨M,H6⟩:=R.zz;rw[M0]at H6;have L0:=Ab (Xl N Q M wr H6);have NM:=Ab R.C;clear M0 H6 HC R;(go_wp2_with fail);refine j _ _ ?_;clear j;(go_wp2_with fail);refine L0.G ?_;rintro _ w9 ⟨rfl,MB,-⟩;have SL:jV (Ac [] w w9):=by
    have h:=MB;rw[<-Aa HN]at h;exact HH.H (Ip NM h)
   clear L0 MB NM;go_wp2;go_ret;obtain⟨l1,l2,l3,l4⟩:=RB;exact⟨s,a,L,n,by rw[Aa NX];rfl,l1,l2,l3,l4,SL⟩
end
section
variable{n k i j:Nat}{g:rC}{s:bN}{c:kN AW}{I:Int}{f:kN Ae}
def aj:∀l t,t.size<=(Js t l).size
 |[],t=>mt _
 |h::l,t=>by
  refine mZ ?_ (aj l _);exact li
def iX(h)(l:kN Df)(t):(Js t (h::l)).size≠0:=by
 rw[Js];have:=aj l (t++B7 h.2.E++⟨#[32]⟩++Lj h.1++⟨#[10]⟩);rw[mj]at this;have a:(⟨#[10]⟩:bN).size=1:=rfl;omega
structure it(s:bN)(rcs:kN AW)(u:kN Ae)(hs:kN Df)(L:bN->Nat)(n:Nat):Prop where
 erase:rcs.map AW.erase=(Ao s (Af s 0)).1
 zD:(Ao s (Af s 0)).2.2=K
 pass:Cb rcs
 rea:ZP rcs hs u
 zQ:CP rcs L
 inv:Hu rcs L n u
 top:∀c∈rcs,L c.E.a<n
def YN(s q t:bN)(r:Int×Int):Prop:=
 ∃r1,EC s (jK s) r1/\((r1.1≠0/\r=r1/\t=ky)\/(r1.1=0/\((Gw q=K/\r=(2,0)/\t=ky)\/
  (Gw q=T6/\AG (Co q)/\∃rcs u hs L n,it s rcs u hs L n/\((IT hs (Co q)=[]/\r=(7,0)/\t=ky)\/(IT hs (Co q)≠[]/\r=(0,0)/\t=Js ky (IT hs (Co q))))))))
set_option maxRecDepth 100000
theorem fL(s q:bN)(w)(FL:s.size<=9223372036854775807)(FT:q.size<=9223372036854775807):rE rF 27 #[O s,O q] w λe C=>∃(t:bN) (r:Int×Int),e=j1 (.tuple #[O t,X J r.1,X J r.2])/\YN s q t r/\Ac [] w C:=by
 have B9:=Ab (JK s _ w FL (λy cs x T I=>KM y x I));go_enter func27,ntmps27;go_wp2_with fail
 refine B9.G ?_;rintro _ w1 ⟨ad,n,cp,⟨v,B⟩,rfl,EX,B2,k1⟩;have j:=Ab EX;have S:=Ab B2;have CW:=Ab k1;clear B9 EX B2 k1;by_cases F:v=0
 .subst F;obtain⟨y,cs,T,x,I,rfl,hP⟩:=S rfl;obtain⟨hr,k,A,hB⟩:=Mk y x I hP j rfl;obtain rfl:B=0:=(Prod.mk.inj hr).2;have G:(Ao s (Af s 0)).2.2=K:=by
   have EM:=KO s;rw[x]at EM;exact EM.1
  have FP:((0:Int) !=0)=K:=rfl;have A1:=Ab (Ob q w1 FT);have H:=Ab (ig q);have Q:jV (Gw q=K->YN s q ky (2,0)):=λh=>⟨(0,0),j,j3 ⟨rfl,j2 ⟨h,rfl,rfl⟩⟩⟩
  have A0:jV (Gw q=T6->∀(p:D5) (i:jH),p.f=Bn (Co q)->C6 i p->Z p.f.dN<=1000->Ac [] w1 i->rE rF 54 #[U ad (Z T) cp,ku (Za (AJ p))] i λe C=>∃t:bN,e=j1 (O t)/\(t.size=0->YN s q ky (7,0))/\(t.size≠0->YN s q t (0,0))/\Ac [] i C):=by
   intro h1 p i m o E hk;obtain⟨_,BA,_⟩:=GG h1;refine(Zi ad cp T k _ p i (hP.C hk) hB m BA o E (λf hf=>?_) (λf hf=>?_) (JH (cs:=k) (Fc (show Ds s _ _ by unfold Ds;rw[mm lc,mm li];exact⟨k,A,rfl⟩) j).symm).small.1).G ?_
   .have h:=Rv y A (u:=[f]) (fs:=[⟨Bn f,kx K⟩]) (λg hg=>qr) rfl ⟨Bn f,kx K⟩ ln;exact h
   .obtain⟨c,hc,_,e⟩:=hf.zV;intro e2;rw[e2]at e;have:=Oz G A c hc;exact this (nZ.1 e.symm)
   .rintro e C ⟨u,P,L,n,rfl,g1,g2,g3,g4,g5⟩;have B0:it s k u P L n:=⟨A,G,hB.pass,g1,g2,g3,g4⟩;refine⟨_,rfl,λb=>⟨(0,0),j,j3 ⟨rfl,j3 ⟨h1,BA,k,u,P,L,n,B0,j2 ⟨?_,rfl,rfl⟩⟩⟩⟩,λb=>⟨(0,0),j,j3 ⟨rfl,j3 ⟨h1,BA,k,u,P,L,n,B0,j3 ⟨?_,rfl,rfl⟩⟩⟩⟩,g5⟩
    .cases d:IT P (Co q)with
     |nil=>rfl
     |cons a l=>rw[d]at b;exact rl b (iX a l _)
    .intro d;rw[d]at b;exact b rfl
  clear y x I hP hr A hB S G j;go_wp2_with fail
  refine A1.G ?_;rintro _ i ⟨p,rfl,m,o,E,M⟩;have DT:=Ab (CW.H M);obtain⟨⟨pn,D⟩,HH⟩:=p;obtain⟨AO,Ax,e⟩:=Aj o;simp at e E m;subst e;cases ho:Gw q with
  |false=>
   have z:=Ab (Q ho);(have d:dR q=Y:=by rw[Aa H,ho,mm ln]);simp only[Option.isSome_none,AJ];(go_wp2_with fail);go_ret3;exact⟨ky,(2,0),rfl,z,DT.alloc _⟩
  |true=>
   (have d:dR q=V (Bn (Co q)):=by rw[Aa H,ho,mo rfl]);have CL:=m _ d;rw[d];simp only[Option.isSome_some,AJ];have N:=Ab (A0 ho _ (i.alloc (Y6 #[O pn,U AO (Z D) Ax] 104)) CL (C6.C o ((kR [] i).alloc _)) E (M.alloc _));have HA:=Ab (DT.alloc (Y6 #[O pn,U AO (Z D) Ax] 104));simp only[AJ]at N;clear A1 H Q A0 m o M d ho CL;(go_wp2_with fail);refine N.G ?_;rintro _ w3 ⟨t,rfl,R,AH,W⟩;have EY:=Ab (HA.H W);by_cases b:t.size=0
   .have z:=Ab (R b);have ht:t=⟨#[]⟩:=toList_inj (by rw[Bi]at b;rw[nZ.1 b,mL]);(go_wp2_with fail);go_ret3;exact⟨ky,(7,0),rfl,z,EY⟩
   .have z:=Ab (AH b);have hb:(t.toList==([]:kN rC))=K:=by
     cases d:t.toList with
     |nil=>rw[Bi,d]at b;exact rl rfl b
     |cons a l=>rfl
    (go_wp2_with fail);go_ret3;exact⟨t,(0,0),rfl,z,EY⟩
 .have HF:jV (YN s q ky (v,B)):=⟨(v,B),j,j2 ⟨F,rfl,rfl⟩⟩;go_wp2_with fail
  go_ret3;exact⟨ky,(v,B),rfl,HF,CW⟩
def YG(h:Df):kN rC:=(B7 h.2.E).toList++32::((Lj h.1).toList++[10])
def PV(l:kN Df):kN rC:=qS YG l
def Uj:∀l t,(Js t l).toList=t.toList++PV l
 |[],t=>by simp[Js,PV]
 |h::l,t=>by
  rw[Js,Uj l,Db,Db,Db,Db];unfold PV YG;simp
def XW(a:n<12):(n<10/\(Lj n).toList=[UInt8.ofNat (48+n)])\/(10<=n/\(Lj n).toList=[49,UInt8.ofNat (38+n)]):=by
 unfold Lj;by_cases h:n<10
 .exact qr
 .rw[mm h];exact li
def R8(h:AC g=T6):g≠10:=by rintro rfl;exact rl h lu
def Xo(h:Aq g=T6):g≠10:=by rintro rfl;exact rl h lu
def aC:∀b,(∀x∈b,Hl x)->∀c∈Gn b,c≠10
 |[],_,c,a=>by simp[Gn]at a
 |[x],h,c,a=>by
  rcases h x ln with hw|hn
  .exact R8 (hw.2.2 c a)
  .exact Xo (hn.2.2.1 c a)
 |x::y::l,h,c,a=>by
  rw[Gn,mi,l9]at a;rcases a with a|rfl|a
  .rcases h x ln with hw|hn
   .exact R8 (hw.2.2 c a)
   .exact Xo (hn.2.2.1 c a)
  .decide
  .exact aC _ (λz d=>h z (by simp at d|-;exact j3 d)) c a
def eR{f}(h:Ml f):∀c∈(B7 f).toList,c≠10:=by
 rw[Kr h.ne];intro c a;simp at a;rcases a with a|rfl|a|rfl|rfl
 .exact R8 (h.a.2.2 c a)
 .decide
 .exact aC _ h.qH c a
 .decide
 .decide
def Hl.len(h:Hl s):Z s.toList<=4:=by
 rcases h with h|h
 .exact h.2.1
 .have:=h.2.1;omega
def Rh{f}(h:Ml f)(a:Z f.qH<=2):Z (B7 f).toList<=300:=by
 rw[Kr h.ne];have b:=h.a.2.1;have c:Z (Gn f.qH)<=9:=by
  match hf:f.qH with
  |[]=>simp[Gn]
  |[x]=>have:=(h.qH x (by rw[hf];simp)).len;simp only[Gn];omega
  |[x,y]=>
   have:=(h.qH x (by rw[hf];simp)).len;have:=(h.qH y (by rw[hf];simp)).len;simp only[Gn,mp,mn];omega
  |x::y::z::l=>rw[hf]at a;simp at a
 exact li
def eO{f}(h:Ml f)(d:Z f.qH<=2):Gw (B7 f)=T6/\Co (B7 f)=f:=by
 have b:=WT h;have e:(B7 f).size<=300:=by rw[Bi];exact Rh h d
 have c:KP (B7 f)=T6:=by
  unfold KP;exact qr
 have a:Co (B7 f)=f:=by
  unfold Co;rw[mo c,b];unfold Av;simp;have:(AI Bm∘AK.mk 0)=id:=lx
  rw[this,List.map_id]
 unfold Gw;rw[c,a];simp
structure ix where
 f:BE
 n:Nat
def P9(s:ix):kN Value:=[O s.f.f.a,s.f.av,X J s.n]
theorem Tryz.info110:(Tryz.prog.info? 110).map (λi=>(i.zero,i.size,i.bytes))=V (V (ku #[O ⟨#[]⟩,U Y 0 0,X J 0]),3,48):=lo
structure kX(s:bN)(f d I n:Nat)(F:bN)(rest:kN rC):Prop where
 e:I=f+1+d
 lt:I<s.size
 nl:∀j (hj:j<s.size),j<I->s[j].toNat≠10
 end_:s[I].toNat=10
 sp:∀(hj:f<s.size),s[f].toNat=32
 fact:s.extract 0 f=F
 rest:(s.extract (I+1) s.size).toList=rest
 dig:(d=1/\n<10/\∀(hj:f+1<s.size),s[f+1].toNat=48+n)\/(d=2/\10<=n/\n<12/\(∀(hj:f+1<s.size),s[f+1].toNat=49)/\∀(hj:f+2<s.size),s[f+2].toNat=38+n)
def jw{h}{b:kN rC}(t:s.toList=YG h++b)(z:Ml h.2.E)(u:h.1<12):kX s (Z (B7 h.2.E).toList) (Z (Lj h.1).toList) (Z (B7 h.2.E).toList+1+Z (Lj h.1).toList) h.1 (B7 h.2.E) b:=by
 have g:=Ut s;rw[t]at g;unfold YG at g;obtain⟨A,p⟩:=kQ (B7 h.2.E).toList;obtain⟨D,o⟩:=kQ (Lj h.1).toList;have q:=eR z;have B:Ge s 0 (B7 h.2.E).toList:=by
  rw[mY]at g;exact g.left
 have m:=Hv B;rw[m7]at m;have G:s.size=Z A+1+Z D+1+Z b:=by
  rw[Bi,t];unfold YG;rw[p,o];simp;omega
 rw[p]at g q m|-;have n:=XW u;rw[o]at g n|-;have l:∀j (f:j<s.size) (r:j<Z ((A++32::(D++[10]))++b)),s[j]=((A++32::(D++[10]))++b)[j]:=λj f r=>by
  have:=g.2 j r lc;simpa using this
 have w:∀c∈D,c.toNat≠10:=by
  intro c k;rcases n with⟨d,a⟩|⟨d,a⟩
  .exact qy
  .rw[a]at k;rcases l9.1 k with rfl|k
   .decide
   .rw[lX]at k;rw[k,UInt8.toNat_ofNat'];omega
 refine⟨rfl,lc,λj f F=>?_,?_,λf=>?_,m,?_,?_⟩
 .rw[l j f li,nB li];by_cases d:j<Z A
  .rw[nB d];exact λe=>q _ (lV d) (nW.1 li)
  .rw[rq lc];by_cases a:j=Z A
   .subst a;simp
   .rw[List.getElem_cons,dif_neg lc,nB lc];exact w _ (lV _)
 .rw[l _ lc li,nB li,rq lc,List.getElem_cons,dif_neg lc,rq lc];simp
 .rw[l _ f ln,nB ln,rq lc];simp
 .have E:Ge s (0+Z (A++32::(D++[10]))) b:=g.right;have v:s.extract (0+Z (A++32::(D++[10]))) (0+Z (A++32::(D++[10]))+Z b)=⟨Za b⟩:=by
   (have d:b=(⟨Za b⟩:bN).toList:=by rw[mL]);have a:=Hv (x:=⟨Za b⟩) (s:=s) (i:=0+Z _) (by rw[<-d];exact E);rw[<-d]at a;exact a
  have C:0+Z (A++32::(D++[10]))=Z A+1+Z D+1:=li
  exact qr
 .rcases n with⟨d,a⟩|⟨d,a⟩
  .refine j2 ⟨by rw[a];rfl,d,λf=>?_⟩;subst a;rw[l _ f ln,nB ln,rq lc];simp;omega
  .refine j3 ⟨by rw[a];rfl,d,u,λf=>?_,λf=>?_⟩
   .subst a;rw[l _ f ln,nB ln,rq lc];simp
   .subst a;rw[l _ f ln,nB ln,rq lc];simp;omega
theorem du(s0:bN)(l w)(hs:s0.toList=PV l)(Nj:s0.size<=9000000000000)(hl:∀h∈l,Ml h.2.E/\Z h.2.E.qH<=2/\h.1<12)(W1:Z l<=7000):rE rF 29 #[O s0] w λe T=>∃(L:rB) (M:Nat) (c:kN ix),e=j1 (.tuple #[U L (Z c) M,kx T6])/\c.map (λr=>(r.n,r.f.f))=l.map (λh=>(h.1,h.2.E))/\kt T 0 110 3 (U L (Z c) M) (Z c) (qS P9 c)/\(∀r∈c,DR T r.f)/\Ac [] w T:=by
 obtain⟨i0,RT,NL,SS,OH⟩:=mW Tryz.info110;obtain⟨N,hN⟩:=kQ w.heap.size;have HN:=Ab hN;have HL:=Ab hl;have HX:jV (s0.toList=PV (l.drop 0)):=hs;clear hl hs hN;go_enter func29,ntmps29;go_wp2_with fail
 go_loopg [0,4] (Z l) (λgk sv lv wr=>∃(k:Nat) (s:bN) (c:kN ix) (L:rB) (M:Nat),sv=O s/\lv=U L (Z c) M/\k<=Z l/\gk=Z l-k/\s.size<=9000000000000/\jV (Z c=k)/\jV (s.toList=PV (l.drop k))/\jV (c.map (λr=>(r.n,r.f.f))=(qT k l).map (λh=>(h.1,h.2.E)))/\jV (kt wr N 110 3 (U L (Z c) M) (Z c) (qS P9 c))/\jV (∀r∈c,DR wr r.f)/\jV (Ac [] w wr))
 case atStart=>exact⟨0,s0,[],Y,0,rfl,rfl,lc,rfl,Nj,rfl,HX,rfl,mw _ _ _ _,(λr A=>by simp at A),kR _ _⟩
 case round=>
  clear HX;obtain⟨k,s,c,L,M,rfl,rfl,hk,K8,U1,EX,HS,HM,HO,HE,HK⟩:=hrel;have HG:=Ab K8;clear K8;by_cases BS:k<Z l
  .have L0:l.drop k=l[k]::l.drop (k+1):=mu BS;obtain⟨B9,A2,hn⟩:=HL _ (lV BS);have H1:s.toList=YG l[k]++PV (l.drop (k+1)):=by
    rw[Aa HS,L0];unfold PV;rw[mB]
   have g:=jw H1 B9 hn;have E0:jV ((qT (k+1) l).map (λh=>(h.1,h.2.E))=(qT k l).map (λh=>(h.1,h.2.E))++[(l[k].1,l[k].2.E)]):=by
    show _=_;rw[lW BS,mO];rfl
   obtain⟨H,hH⟩:=kQ (l[k]);rw[hH]at g E0 B9 hn A2;obtain⟨f,hf⟩:=kQ (Z (B7 H.2.E).toList);obtain⟨d,hd⟩:=kQ (Z (Lj H.1).toList);obtain⟨R,hR⟩:=kQ (PV (l.drop (k+1)));rw[hf,hd,hR]at g;obtain⟨I,hI⟩:=kQ (f+1+d);rw[hI]at g;have JJ:jV (∀wz,rE rF 26 #[O (B7 H.2.E)] wz λe T=>∃p:BE,e=j1 (.tuple #[ku (Za (Bj p)),kx T6])/\p.f=H.2.E/\DR T p/\Ac [] wz T):=by
    intro wz;obtain⟨o1,o2⟩:=eO B9 A2;have U0:(B7 H.2.E).size<=s.size:=by
     have y:=g.lt;have S:=g.e;rw[Bi,hf];omega
    refine(VI (B7 H.2.E) wz lc).G ?_;rintro e T ⟨p,rfl,y,S,_,h3⟩;rw[o1];exact⟨p,rfl,y.H o2,S,h3⟩
   have HR:=Ab hR;have RE:=Ab g;have WS:=g.lt;have HF:=g.e;have Nx:s[I].toNat=10:=g.end_;have NN:f<s.size:=lc;have IS:s[f].toNat=32:=g.sp NN;(have VS:d=1\/d=2:=by rcases g.dig with h|h<;>omega);have H9:jV (∀j (hj:j<s.size),j<I->s[j].toNat≠10):=g.nl;have MB:jV (∃(x o:Nat->Nat),x 0=0/\o 0=1/\x d=H.1/\∀j,j<d->∀p (hp:p<s.size),p+j+1=I->48<=s[p].toNat/\s[p].toNat<=57/\(o j=1\/o j=10)/\o (j+1)=10*o j/\x j+o j*(s[p].toNat-48)=x (j+1)/\x j<=9):=by
    rcases g.dig with⟨y,S,h3⟩|⟨y,S,h3,h4,h5⟩
    .refine⟨λj=>if j=0 then 0 else H.1,λj=>if j=0 then 1 else 10,rfl,rfl,by rw[y];rfl,λj hj p hp he=>?_⟩;obtain rfl:j=0:=lc;obtain rfl:p=f+1:=lc;have:=h3 hp;simp;omega
    .refine⟨λj=>if j=0 then 0 else if j=1 then H.1-10 else H.1,λj=>if j=0 then 1 else if j=1 then 10 else 100,rfl,rfl,by rw[y];rfl,λj hj p hp he=>?_⟩;have MY:j=0\/j=1:=lc;rcases MY with rfl|rfl
     ·obtain rfl:p=f+2:=lc;have:=h5 hp;simp;omega
     ·obtain rfl:p=f+1:=lc;have:=h4 hp;simp;omega
   have K1:jV ((f+1<s.size)/\(((f:Int)+2<I->∀hj:f+1<s.size,s[f+1].toNat≠48))):=⟨lc,λh hj=>by
    rcases g.dig with⟨y,S,h3⟩|⟨y,S,h3,h4,h5⟩
    .omega
    .rw[h4 hj];decide⟩
   have SL:jV (s.extract 0 f=B7 H.2.E):=g.fact;have Nq:jV ((s.extract (I+1) s.size).toList=R):=g.rest;have Q:=Ab HF;clear L0 H1 hH B9 hf hd hR g HS RE hI A2 HF;have UO:(0:Int)<(s.size:Int):=lc;have W2:0<s.size:=lc;go_wp2_with fail
   go_loopg [5] I (λS1 i wq=>∃(j:Nat),i=X J j/\j<=I/\S1=I-j/\wq=wr)
   case atStart=>exact⟨0,rfl,lc,rfl,rfl⟩
   case round=>
    obtain⟨j,rfl,hj,LB,rfl⟩:=hrel;have JA:=Ab LB;clear LB;have W3:(j:Int)<(s.size:Int):=lc;have TX:=rJ j;by_cases HT:j<I
    .have TS:=Aa H9 j lc HT;(have HI:(((s[j]' lc).toNat:Int) !=10)=T6:=by simp only[bne_iff_ne,ne_eq];omega);go_wp2
     go_roundg (I-(j+1))
     case measure=>exact qu
     case rel=>exact⟨j+1,ly,lc,rfl,rfl⟩
    ·obtain rfl:j=I:=lc;(have HI:((s[j].toNat:Int) !=10)=K:=by rw[Nx];rfl);(have TL:((j:Int)==(s.size:Int))=K:=by simp only[mM,ne_eq];omega);clear JA HT;obtain⟨x,o,Ix,K3,LL,H6⟩:=Aa MB;have ES:jV (x 0=0/\o 0=1/\x d=H.1):=⟨Ix,K3,LL⟩;have K7:=Ab H6;clear Ix K3 LL H6 MB;(go_wp2_with fail);clear HI TL
     go_loopg [6,7,8] d (λN2 kk nn tt wq=>∃(m p:Nat),m<=d/\p+m+1=j/\kk=X J p/\nn=X J (x m)/\tt=X J (o m)/\N2=d-m/\wq=wr)
     case atStart=>exact⟨0,j-1,lc,by have:=Aa Q;omega,rk (X J) (by have:=Aa Q;omega),by rw[(Aa ES).1];rfl,by rw[(Aa ES).2.1];rfl,rfl,rfl⟩
     case round=>
      obtain⟨m,p,hm,HU,rfl,rfl,rfl,H0,rfl⟩:=hrel;have LC:=Ab H0;have EK:=Ab HU;clear H0;have N0:p<s.size:=lc;have VR:(p:Int)<(s.size:Int):=lc;have XS:=rJ p;clear HU;by_cases HY:m<d
      .obtain⟨v1,v2,v3,v4,v5,v6⟩:=K7 m HY p N0 EK;(have W0:0<p:=by have:=Aa EK;have:=Aa Q;omega);have AO:Aq s[p]=T6:=by
        unfold Aq;simp only[mC,oV];exact⟨v1,v2⟩
       obtain⟨FF,hX⟩:=kQ (x m);rw[hX]at v5 v6;rw[hX];have HV:jV (FF+o m*(s[p].toNat-48)=x (m+1)/\o (m+1)=10*o m):=⟨v5,v4⟩;clear v4 v5 hX;rcases v3 with v3|v3<;>(
        rw[v3]at HV
        rw[v3]
        clear v3
        go_wp2_with (go_at_call 55;refine(CI _ s[p] _ rfl).G ?_;rintro e w2 ⟨rfl,rfl⟩;rw[AO])
        go_roundg (d-(m+1))
        case measure=>exact qu
        case rel=>exact⟨m+1,p-1,lc,by have:=Aa EK;omega,rk (X J) lc,rk (X J) (by have:=HV.1;omega),rk (X J) (by have:=HV.2;omega),rfl,rfl⟩)
      ·obtain rfl:m=d:=lc;(obtain rfl:p=f:=by have:=Aa EK;have:=Aa Q;omega);rw[(Aa ES).2.2];have AO:Aq s[p]=K:=by
        unfold Aq;rw[Bool.and_eq_false_iff];exact j2 (nC (λh=>by have S:48<=s[p].toNat:=h;omega))
       (have M2:((s[p].toNat:Int) !=32)=K:=by rw[IS];rfl);have TT:¬(p:Int)<0:=lc;(have A2:((p:Int)==(j:Int)-1)=K:=by simp only[mM,ne_eq];have:=Aa Q;omega);(have H4:(p:Int)+2<=(j:Int):=by have:=Aa Q;omega);(have RO:p+1<s.size:=by have:=Aa Q;omega);clear LC HY K7;obtain⟨bz,HJ⟩:=kQ ((s[p+1].toNat:Int)==48);have WB:(p:Int)+1<(s.size:Int):=lc;have LS:bz=T6->(j:Int)<=(p:Int)+2:=by
        intro hb;refine Int.not_lt.1 (λh=>?_);have:=K1.2 h RO;rw[hb,n5]at HJ;omega
       clear K1 H9
       rename ∀(a:Act) (w:jH),Code.wp rF (Code.seq (Code.seq (Code.region 15 _ _) _) _) _ a w->_=>hA6
       have Mo:=Ab hA6;clear hA6 AO;have AO:Aq (32:rC)=K:=lu;go_wp2_with fail
       go_at_call 55
       refine(CI _ (32:rC) _ rfl).G ?_;rintro e w2 ⟨rfl,rfl⟩;rw[AO];have X0:=Ab H4;clear H4;(go_wp2_with fail);refine Mo _ _ ?_;clear Mo;refine kI (λW u=>?_);have SB:jV (s.extract 0 p=B7 H.2.E):=SL;clear AO;cases bz<;>(
        try have RV:(j:Int)<=(p:Int)+2:=LS rfl
        clear LS
        go_wp2
        refine u _ _ ?_
        clear u W M2 A2 IS HJ
        try clear RV
        refine wp_seq_k (λW z=>?_)
        have u:=Ab z
        clear z
        go_wp2_with fail
        rw[Aa SB]
        refine(JJ _).G ?_
        rintro _ F ⟨⟨⟨E,C⟩,qv⟩,rfl,IJ,Ha,k3⟩
        obtain⟨P,G,e⟩:=Aj Ha
        simp only at e
        subst e
        simp only[Bj]
        have HQ:jV ((⟨E,C⟩:Ae)=H.2.E):=IJ
        have HW:=Ab Ha
        have K4:=Ab (HK.H k3)
        have K9:=Ab (Ad HO k3)
        have KB:jV (∀r∈c,DR F r.f):=λr A=>(HE r A).C k3
        clear IJ Ha k3 HO HE HK JJ
        go_wp2
        refine u _ _ ?_
        clear u W
        have BA:=Ab (kS F [O E,U P (Z C) G] 43)
        have AR:jV (Ac [] F (F.alloc (Y6 #[O E,U P (Z C) G] 43))):=(kR [] F).alloc _
        change Code.wp _ _ _ _ (F.alloc (Y6 #[O E,U P (Z C) G] 43))
        generalize F.alloc (Y6 #[O E,U P (Z C) G] 43)=w4 at BA AR|-
        obtain⟨B,hB⟩:=kQ F.heap.size
        rw[hB]at BA|-
        clear hB
        have Go:=Ab (K4.H AR)
        have B2:=Ab (Ad K9 AR)
        have K2:jV (∀r∈c,DR w4 r.f):=λr A=>(KB r A).C AR
        have M0:=Ab (HW.C AR)
        clear K4 K9 KB HW AR
        have b0:=BA.D 0
        have b1:=BA.D 1
        simp at b0 b1
        refine wp_seq_k (λW z=>?_)
        have u:=Ab z
        clear z
        go_wp2
        refine u _ _ ?_
        clear u W
        refine wp_seq_k (λW z=>?_)
        have u:=Ab z
        clear z
        go_wp2_with (at_builtin;change jV (wpList _ _ _ _ _ _))
        show wpList _ _ _ _ _ _
        have NY:Z c<=7000:=by have:=Aa EX;omega
        have WW:N<=w4.heap.size:=by have:=Go.size;have:=Aa HN;omega
        refine mE _ rfl (.tmp 93) (.tmp 97) _ rfl N 110 i0 _ 3 48 lo RT NL SS OH rfl lc (U L (Z c) M) (Z c) (qS P9 c) rfl (mg B2 _) ⟨w4.heap.size,0,Y⟩ 1 1 [O E,U P (Z C) G,X J (H.1:Nat)] rfl rfl (mz (mG w4 _)) lC lc lw lc li (w4.heap.size+1) ln ?_
        intro g1 H2 w5 KD FB M1 NA
        have K6:Ac [] w w5:=(Go.alloc (Y6 #[O E,U P (Z C) G,X J (H.1:Nat)] 110)).grown FB (λq hq=>j3 (by have y:=(B2.lt q hq).1;have:=Aa HN;omega))
        have FA:∀{b e sz n:Nat} {v:Value} {ys:kN Value},kt w4 b e sz v n ys->e≠110->kt w5 b e sz v n ys:=fun{b e sz n v ys} A y=>nF (v:=v) (mg (v:=v) A _) FB (by
         cases hpo:v.ownBlock with
         |none=>exact j2 rfl
         |some q=>exact j3 (λe=>Be A B2 y q hpo e.symm))
        obtain⟨D,A0⟩:∃D:kN ix,D=c++[⟨⟨⟨E,C⟩,U P (Z C) G⟩,H.1⟩]:=⟨_,rfl⟩
        have CC:Z c+1=Z D:=by rw[A0];simp
        have NB:jV (kt w5 N 110 3 (U (V ⟨g1,0,Y⟩) (Z D) H2) (Z D) (qS P9 D)):=by
         rw[<-CC,A0,mD]
         exact KD
        have PT:jV (∀r∈D,DR w5 r.f):=λr A=>by
         rw[A0]at A
         rcases mi.1 A with h|h
         .exact FA (v:=r.f.av) (K2 r h) lu
         .simp only[lX]at h
          subst h
          exact FA M0 lu
        have RB:=Ab K6
        rw[CC]
        have M6:jV (D.map (λr=>(r.n,r.f.f))=(qT (k+1) l).map (λh=>(h.1,h.2.E))):=by
         show _=_
         rw[Aa E0,<-Aa HM,A0,mO,<-Aa HQ]
         rfl
        have Pl:jV (Z D=k+1):=by show _=_;rw[<-CC,Aa EX]
        clear FA KD FB M1 NA K6 B2 K2 M0 Go b0 b1 CC A0 NY HM E0 HQ EX
        have T0:(j:Int)+1<=(s.size:Int):=lc
        have MY:(0:Int)<=(j:Int)+1:=lc
        go_wp2
        refine u _ _ ?_
        clear u W
        go_wp2
        go_roundg (Z l-(k+1))
        case measure=>exact qu
        case rel=>exact⟨k+1,s.extract (j+1) s.size,D,V ⟨g1,0,Y⟩,H2,rfl,rfl,lc,rfl,by rw[nT];omega,Pl,Nq.H HR.symm,M6,NB,PT,RB⟩)
  ·obtain rfl:k=Z l:=lc;(have hz:s.size=0:=by rw[Bi,Aa HS,List.drop_length];rfl);(have SJ:jV (c.map (λr=>(r.n,r.f.f))=l.map (λh=>(h.1,h.2.E))):=by have:=Aa HM;rwa [nw]at this);clear HS HM BS hk HG;go_wp2;go_ret2;exact⟨L,M,c,rfl,SJ,Ak HO (mr _),HE,HK⟩
def KX(rs:kN ix):kN Ae:=rs.foldl (λs r=>A3 s r.f.f) []
def cK{b:kN ix}(e){r}(g:b[k]=r){a:kN BE}(hF:a.map BE.f=KX (qT k b))(i:Z a<=k):(Eh a r.f).map BE.f=KX (qT (k+1) b)/\Z (Eh a r.f)<=k+1:=by
 have c:=JF a r.f;have h:KX (qT (k+1) b)=A3 (KX (qT k b)) r.f.f:=by
  unfold KX;rw[lW e,m6,g,mK,List.foldl_nil]
 refine⟨by rw[c,h,hF],?_⟩;have d:=rk List.length c;rw[mh]at d;rw[d];unfold A3;cases C7 (a.map BE.f) r.f.f with
 |true=>exact li
 |false=>rw[mm ln,Ox,mh];omega
theorem YX(pb HA R)(o:kN AW)(HR HE)(b:kN ix)(x FT Go)(ms:kN BE)(w)(hP:AF w pb [U HA (Z o) R] 76)(hR:Cf w (U HA (Z o) R) o)(hl:kt w 0 110 3 (U HR (Z b) HE) (Z b) (qS P9 b))(C:∀r∈b,DR w r.f)(hx:DR w x)(KS:M4 x.f)(Nj:CS w (U FT (Z ms) Go) ms)(BA:∀r∈b,M4 r.f.f/\r.n<Z o)(RV:Z o<=1000)(N2:Z b<=7000)(K1:∀(i:Nat) (r:ix),b[i]?=V r->C7 (KX (qT i b)) r.f.f=K)(Mo:∀(i:Nat) (r:ix) (c:AW),b[i]?=V r->o[r.n]?=V c->∀(m:rB) (l:Nat) (d:kN BE) (a:jH),Ac [] w a->CS a (U m (Z d) l) d->d.map BE.f=KX (qT i b)->rE rF 56 #[ku (Za (BH c)),ku (Za (Bj r.f)),U m (Z d) l,U FT (Z ms) Go] a λe u=>e=j1 (kx T6)/\Ac [] a u)(A2:b≠[])(LE:∀h:b≠[],CB (b.getLast h).f.f x.f=T6):rE rF 30 #[jj (V ⟨pb,0,Y⟩),U HR (Z b) HE,ku (Za (Bj x)),U FT (Z ms) Go] w λe u=>e=j1 (kx T6)/\Ac [] w u:=by
 obtain⟨⟨G,D⟩,xv⟩:=x;obtain⟨H,L,K6⟩:=Aj hx;simp only at K6;subst K6;have HU:jV (∀(i:Nat) (r:ix) (c:AW),b[i]?=V r->o[r.n]?=V c->∀(m:rB) (l:Nat) (d:kN BE) (a:jH),Ac [] w a->CS a (U m (Z d) l) d->d.map BE.f=KX (qT i b)->rE rF 56 #[ku (Za (BH c)),ku (Za (Bj r.f)),U m (Z d) l,U FT (Z ms) Go] a λe u=>e=j1 (kx T6)/\Ac [] a u):=Mo;have B9:∀(i:Nat) (r:ix),b[i]?=V r->r∈b:=λi r h=>ru h
 have H3:jV (∀(i:Nat) (r:ix),b[i]?=V r->∀(m:rB) (l:Nat) (d:kN BE) (a:jH),Ac [] w a->CS a (U m (Z d) l) d->d.map BE.f=KX (qT i b)->Z d<=100000->rE rF 21 #[U m (Z d) l,ku (Za (Bj r.f))] a λe u=>e=j1 (kx K)/\Ac [] a u):=λi r hi m l d a j hs MB H7=>by
  have h:=II m l d r.f a hs ((C _ (B9 i r hi)).C j) lc (BA _ (B9 i r hi)).1;have e:(d.any λp=>CB p.f r.f.f)=K:=by
   have:=K1 i r hi;rw[<-MB]at this;unfold C7 at this;rw[pj]at this;exact this
  rw[e]at h;exact h
 have HH:jV (∀(i:Nat) (r:ix),b[i]?=V r->∀(m:rB) (l:Nat) (d:kN BE) (a:jH),Ac [] w a->CS a (U m (Z d) l) d->Z d<=100000->rE rF 57 #[U m (Z d) l,ku (Za (Bj r.f))] a λe u=>∃s t,e=j1 (U s (Z (Eh d r.f)) t)/\CS u (U s (Z (Eh d r.f)) t) (Eh d r.f)/\Ac [] a u):=λi r hi m l d a j hs H7=>LZ m l d r.f a hs ((C _ (B9 i r hi)).C j) H7 (BA _ (B9 i r hi)).1
 have H2:jV (∀(h:b≠[]) (a:jH),Ac [] w a->rE rF 49 #[ku (Za (Bj (b.getLast h).f)),ku (Za (Bj ⟨⟨G,D⟩,U H (Z D) L⟩))] a λe u=>e=j1 (kx T6)/\Ac [] a u):=λh a j=>by
  have h1:=Pp (b.getLast h).f ⟨⟨G,D⟩,U H (Z D) L⟩ a ((C _ (List.getLast_mem h)).C j) (hx.C j) (by have:=(BA _ (List.getLast_mem h)).1.len;omega) (by have:=KS.len;omega);rw[LE h]at h1;exact h1
 have HY:jV (∀r∈b,∃s t,r.f.av=U s (Z r.f.f.qH) t):=λr E=>Aj (C r E)
 have K8:jV (∀c∈o,(∃s t,c.hv=U s (Z c.E.qH) t)/\∃s t,c.bv=U s (Z c.bl) t):=λc hc=>⟨Aj (hR.j c hc).qH,Aj (hR.j c hc).body⟩
 have IS:jV (∀r∈b,r.n<Z o):=λr E=>(BA r E).2
 have Df:jV (∀a,Ac [] w a->AF a pb [U HA (Z o) R] 76/\Cf a (U HA (Z o) R) o/\kt a 0 110 3 (U HR (Z b) HE) (Z b) (qS P9 b)):=λa j=>⟨hP.C j,hR.C j,Ad hl j⟩
 have F:=Ab (kS w [O G,U H (Z D) L] 43);have B:=Ab ((kR [] w).alloc (Y6 #[O G,U H (Z D) L] 43));clear hP hR hl C hx KS Nj BA K1 Mo LE;simp only[Bj]at H2 HU H3 HH|-;go_enter func30,ntmps30;go_wp2;change Code.wp _ _ _ _ (w.alloc (Y6 #[O G,U H (Z D) L] 43));generalize w.alloc (Y6 #[O G,U H (Z D) L] 43)=w1 at F B|-;generalize w.heap.size=N at F|-
 go_loopg [9,10,11,12] (Z b) (λgk sv iv bv gv wr=>∃(k:Nat) (m:rB) (l:Nat) (d:kN BE),sv=U m (Z d) l/\iv=X J k/\k<=Z b/\gk=Z b-k/\Z d<=k/\jV (CS wr (U m (Z d) l) d)/\jV (d.map BE.f=KX (qT k b))/\jV (Ac [] w wr)/\jV (AF wr N [O G,U H (Z D) L] 43))
 case atStart=>exact⟨0,Y,0,[],rfl,rfl,lc,rfl,ln,⟨mw _ _ _ _,λp hp=>by simp at hp⟩,rfl,B,F⟩
 case round=>
  clear F B;obtain⟨k,m,l,d,rfl,rfl,j,LM,KA,HS,HF,B,F⟩:=hrel;have HG:=Ab LM;clear LM;by_cases Ax:k<Z b
  .obtain⟨hb,K9,CL⟩:=Df _ B;obtain⟨g,Nq,C,_,Q⟩:=Az CL (λc _=>rfl) k Ax;obtain⟨r,E⟩:=kQ (b[k]);have y:=Q k Ax 0 lc;have z:=Q k Ax 1 lc;have d2:=Q k Ax 2 lc;rw[E]at y z d2;(have Bx:b[k]?=V r:=by rw[mc Ax,E]);have HP:r∈b:=ru Bx;have W:=Aa IS _ HP;obtain⟨c,hc⟩:=kQ (o[r.n]);(have HV:o[r.n]?=V c:=by rw[mc W,hc]);obtain⟨q,RE,L0,_,A0⟩:=Az K9.row (λc _=>rfl) r.n W;have c0:=A0 _ W 0 lc;have c1:=A0 _ W 1 lc;have c2:=A0 _ W 2 lc;have c3:=A0 _ W 3 lc;have c4:=A0 _ W 4 lc;rw[hc]at c0 c1 c2 c3 c4;have p0:=hb.D 0;have EY:=Ab (HU k r c Bx HV m l d);have HZ:=Ab (H3 k r Bx m l d);have H1:=Ab (HH k r Bx m l d);have FF:jV ((Eh d r.f).map BE.f=KX (qT (k+1) b)/\Z (Eh d r.f)<=k+1):=by
    exact cK Ax E HF KA
   obtain⟨⟨HQ,HB,H5⟩,⟨HX,HC,JA⟩⟩:=K8 _ (ru HV);obtain⟨s,t,AT⟩:=HY _ HP;clear Q A0 hc E Bx HV HP;obtain⟨⟨⟨fn,T⟩,fv⟩,n⟩:=r;obtain⟨⟨HD,HM,HT⟩,NL,P0,HO,HL⟩:=c;simp only at AT H5 JA;subst AT H5 JA;simp only[lU]at C L0;obtain⟨rfl,_,rfl⟩:=C;obtain⟨rfl,_,rfl⟩:=L0;simp[P9,BH]at y z d2 c0 c1 c2 c3 c4 p0;simp only[BH]at EY;simp only at W EY HZ H1 FF;clear hb K9 CL;have N4:=rJ n;have RI:¬((Z o:Int)<=(n:Int)):=lc;have RT:¬((n:Int)<0):=lc;(have S:jV (∀a,Ac [] wr a->jY a ⟨pb,0,Y⟩=V (U (V ⟨q,0,Y⟩) (Z o) R)/\jY a ⟨g,k*3,Y⟩=V (O fn)/\jY a ⟨g,k*3+1,Y⟩=V (U s (Z T) t)/\jY a ⟨g,k*3+2,Y⟩=V (X J n)/\jY a ⟨q,n*5,Y⟩=V (O HD)/\jY a ⟨q,n*5+1,Y⟩=V (U HQ (Z HM) HB)/\jY a ⟨q,n*5+2,Y⟩=V (X J HT)/\jY a ⟨q,n*5+3,Y⟩=V (U HX (Z HO) HC)/\jY a ⟨q,n*5+4,Y⟩=V (X J HL)):=λa j=>⟨j.cellAt p0,j.cellAt y,j.cellAt z,j.cellAt d2,j.cellAt c0,j.cellAt c1,j.cellAt c2,j.cellAt c3,j.cellAt c4⟩);refine kI (λI v=>?_);go_wp2;refine v _ _ ?_;clear v I;refine kI (λKB KD=>?_);refine wp_block ?_;refine kI (λI v=>?_);(go_wp2_with fail);clear y z d2 c0 c1 c2 c3 c4 p0
   go_region_held3 (λa=>Ac [] wr a/\jY a ⟨pb,0,Y⟩=V (U (V ⟨q,0,Y⟩) (Z o) R)/\jY a ⟨g,k*3+2,Y⟩=V (X J n)) ((go_split_ands;refine(fun(P:Ac [] wr _)=>And.intro P (And.intro (S _ P).1 (S _ P).2.2.2.1)) ?_;repeat (first|assumption|exact kR [] _|refine Ac.drew ?_|refine Ac.alloc ?_ _))) (fail)
   rename_i CW;clear CW;have AO:=Ab ((kR [] wr).drew);generalize wr.drew=w2 at AO|-;have K5:=Ab (B.H AO);go_wp2;refine v _ _ ?_;clear v I;have IJ:=Ab (HS.C AO);obtain⟨_,y,z,_,_,_,_,_,_⟩:=S _ AO;have LD:=Ab (HZ w2 K5 IJ HF lc);refine kI (λI v=>?_);(go_wp2_with fail);refine LD.G ?_;rintro _ w3 ⟨rfl,k3⟩;have B0:=Ab (AO.H k3);have LC:=Ab (B.H B0);(have Jx:jV (∀a,Ac [] w3 a->jY a ⟨pb,0,Y⟩=V (U (V ⟨q,0,Y⟩) (Z o) R)/\jY a ⟨g,k*3,Y⟩=V (O fn)/\jY a ⟨g,k*3+1,Y⟩=V (U s (Z T) t)/\jY a ⟨g,k*3+2,Y⟩=V (X J n)/\jY a ⟨q,n*5,Y⟩=V (O HD)/\jY a ⟨q,n*5+1,Y⟩=V (U HQ (Z HM) HB)/\jY a ⟨q,n*5+2,Y⟩=V (X J HT)/\jY a ⟨q,n*5+3,Y⟩=V (U HX (Z HO) HC)/\jY a ⟨q,n*5+4,Y⟩=V (X J HL)):=λa j=>S _ (B0.H j));have JJ:=Ab (HS.C B0);(have LS:jV (∀a,Ac [] w3 a->rE rF 56 _ a λe u=>e=j1 (kx T6)/\Ac [] a u):=λa j=>EY a (LC.H j) (JJ.C j) HF);clear k3 LD AO K5 IJ y z HZ EY;go_wp2;refine v _ _ ?_;clear v I;refine kI (λI v=>?_)
   go_region_held3 (λa=>Ac [] w3 a/\jY a ⟨pb,0,Y⟩=V (U (V ⟨q,0,Y⟩) (Z o) R)/\jY a ⟨g,k*3,Y⟩=V (O fn)/\jY a ⟨g,k*3+1,Y⟩=V (U s (Z T) t)/\jY a ⟨g,k*3+2,Y⟩=V (X J n)/\jY a ⟨q,n*5,Y⟩=V (O HD)/\jY a ⟨q,n*5+1,Y⟩=V (U HQ (Z HM) HB)/\jY a ⟨q,n*5+2,Y⟩=V (X J HT)/\jY a ⟨q,n*5+3,Y⟩=V (U HX (Z HO) HC)/\jY a ⟨q,n*5+4,Y⟩=V (X J HL)) ((go_split_ands;refine(fun(P:Ac [] w3 _)=>And.intro P (Jx _ P)) ?_;repeat (first|assumption|exact kR [] _|refine Ac.drew ?_|refine Ac.alloc ?_ _))) ((go_at_call 56;refine(LS _ ml).G ?_;rintro _ w4 ⟨rfl,k4⟩;have EM:Ac [] w3 w4:=(by go_split_ands;exact Ac.H oa k4);clear k4))
   rename_i CW;clear CW;have CC:=Ab (B0.H EM);have EK:=Ab (B.H CC);obtain⟨_,y,z,_,_,_,_,_,_⟩:=S _ CC;have K2:=Ab (HS.C CC);have H9:=Ab (F.C CC);have HJ:=Ab (H1 w4 EK K2 lc);generalize Eh d ⟨⟨fn,T⟩,U s (Z T) t⟩=FW at HJ FF;clear EM B0 LC Jx JJ LS H1 S HS F K2 CC;go_wp2;refine v _ _ ?_;clear v I;refine kI (λI v=>?_);go_wp2;refine v _ _ ?_;clear v I;(go_wp2_with fail);refine HJ.G ?_;rintro _ w5 ⟨M0,M3,rfl,Ix,k5⟩;have M1:=Ab Ix;have M6:=Ab (EK.H k5);have MN:=Ab (H9.C k5);clear Ix k5 HJ EK H9 y z B;go_wp2;refine KD _ _ ?_;clear KD KB;go_wp2
   go_roundg (Z b-(k+1))
   case measure=>exact qu
   case rel=>exact⟨k+1,M0,M3,FW,rfl,ly,lc,rfl,FF.2,M1,FF.1,M6,MN⟩
  ·obtain rfl:k=Z b:=lc;have CL:=(Df _ B).2.2;have NM:0<Z b:=List.length_pos_iff.2 A2;obtain⟨M,hM⟩:∃M,Z b=M+1:=⟨Z b-1,lc⟩;obtain⟨g,Nq,C,_,Q⟩:=Az CL (λc _=>rfl) M lc;have y:=Q M lc 0 lc;have z:=Q M lc 1 lc;have FP:=Ab (H2 A2);obtain⟨s,t,AT⟩:=HY _ (List.getLast_mem A2);have H8:b[M]' lc=b.getLast A2:=by
    rw[List.getLast_eq_getElem]
    congr 1
    omega
   rw[H8]at y z;obtain⟨r,E⟩:=kQ (b.getLast A2);rw[E]at y z FP AT;clear H8 E Q;obtain⟨⟨⟨fn,T⟩,fv⟩,n⟩:=r;simp only at AT;subst AT;obtain⟨rfl,_,rfl⟩:=qX C;simp[P9]at y z;simp only at FP;(have S:jV (∀a,Ac [] wr a->jY a ⟨g,M*3,Y⟩=V (O fn)/\jY a ⟨g,M*3+1,Y⟩=V (U s (Z T) t)/\jY a ⟨N,0,Y⟩=V (O G)/\jY a ⟨N,1,Y⟩=V (U H (Z D) L)):=λa j=>⟨j.cellAt y,j.cellAt z,j.cellAt (by have:=F.D 0;simpa using this),j.cellAt (by have:=F.D 1;simpa using this)⟩);(have NA:jV (∀a,Ac [] wr a->rE rF 49 _ a λe u=>e=j1 (kx T6)/\Ac [] a u):=λa j=>FP a (B.H j));clear CL y z FP HU H3 HH H2 HY K8 IS Df HS HF F KA j Ax HG B9;(have QR:((Z b:Int)==0)=K:=by simp only[mM,ne_eq];omega);have NN:(Z b:Int)-1=(M:Int):=lc;have NX:(M:Int)<(Z b:Int):=lc;have NY:=rJ M;(have NV:IntKind.i64.wrap (M:Int)=(M:Int):=by rw[oT];omega);have PT:M<Z b:=lc;have QQ:(0:Int)<=(Z b:Int)-1:=lc;have NS:(Z b:Int)-1<(Z b:Int):=lc;have N0:((Z b:Int)-1).toNat=M:=lc;have RB:Z b-1=M:=lc;have RO:1<=Z b:=lc;(have Os:IntKind.i64.wrap ((Z b:Int)-1)=(M:Int):=by rw[oT];omega);clear hM;go_wp2_with fail
   go_region_held3 (λa=>Ac [] wr a/\jY a ⟨g,M*3,Y⟩=V (O fn)/\jY a ⟨g,M*3+1,Y⟩=V (U s (Z T) t)/\jY a ⟨N,0,Y⟩=V (O G)/\jY a ⟨N,1,Y⟩=V (U H (Z D) L)) ((go_split_ands;refine(fun(P:Ac [] wr _)=>And.intro P (S _ P)) ?_;repeat (first|assumption|exact kR [] _|refine Ac.drew ?_|refine Ac.alloc ?_ _))) ((go_at_call 49;refine(NA _ ml).G ?_;rintro _ w4 ⟨rfl,k4⟩;have EM:Ac [] wr w4:=(by go_split_ands;exact Ac.H oa k4);clear k4))
   rename_i CW;clear CW;have EK:=Ab (B.H EM);clear EM;go_wp2;go_ret;exact⟨rfl,EK⟩
def fB(p s i):∀k a,i<=k->k<AL p s i->p s[k]=T6:=by
 fun_induction AL p s i with
 |case1 i h hp ih=>
  intro k a c b;by_cases e:k=i
  .subst e;exact hp
  .exact ih k a lc b
 |case2 i h hp=>exact lc
 |case3 i h=>exact lc
def WO(h:g∈(s.extract i j).toList):∃k,∃b,i<=k/\k<j/\g=s[k]:=by
 rw[mL,ByteArray.data_extract]at h;have a:=Array.mem_toList_iff.1 h;obtain⟨k,b,e⟩:=Array.mem_extract_iff_getElem.1 a;have d:s.data.size=s.size:=rfl;exact⟨i+k,lc,lc,lc,e.symm⟩
def aB{p}:∀c∈(s.extract i (AL p s i)).toList,p c=T6:=by
 intro c b;obtain⟨k,e,a,d,rfl⟩:=WO b;exact fB p s i k e a d
def aK{p}(h:i<=s.size):Z (s.extract i (AL p s i)).toList=AL p s i-i:=by
 rw[<-Bi,nT];have:=C5 p s i h;omega
def Rc(h:(A9 s n K).2.2=K):Tg (A9 s n K).1:=by
 unfold A9 at h|-;by_cases a:AL AC s (Af s n)=Af s n\/4<AL AC s (Af s n)-Af s n
 .rw[mo a]at h;cases h
 .rw[mm a];have b:AL AC s _≠Af s n:=λe=>a (j2 e)
  obtain⟨c,f⟩:=LH b;have d:=Cz AC s (Af s n);have g:=aK (p:=AC) (Nat.le_of_lt c);show Tg (s.extract (Af s n) (AL AC s (Af s n)));exact⟨lc,lc,aB⟩
def R0(h:(AN s n K).2.2=K)(a:(AN s n K).1.v=0):Hl (AN s n K).1.s:=by
 unfold AN at h a|-;rw[mm ln]at h a|-;by_cases b:Af s n<s.size
 .rw[dif_pos b]at h a|-;cases hu:DF s[Af s n] with
  |true=>
   rw[hu,mo rfl]at a;simp only at a;rw[a]at hu;cases hu
  |false=>
   rw[hu,mm ln]at h;rw[mm ln];cases hd:Aq s[Af s n] with
   |false=>
    rw[hd,nE,mo rfl]at h;rw[nE,mo rfl];exact j2 (Rc h)
   |true=>
    rw[hd,oK,mm ln]at h;rw[oK,mm ln];by_cases c:3<AL Aq s (Af s n)-Af s n\/(s[Af s n]=48/\1<AL Aq s (Af s n)-Af s n)
    .rw[mo c]at h;cases h
    .rw[mm c];have g:=Cz Aq s (Af s n+1);rw[<-Ct Aq s _ b hd]at g;have d:=aK (p:=Aq) (Nat.le_of_lt b);have j:=C5 Aq s (Af s n) lc;refine j3 ⟨?_,?_,aB,λr f=>?_⟩
     .exact li
     .exact li
     .obtain⟨k,e,_⟩:=JZ b j (by omega:Af s n<AL Aq s (Af s n));simp only at f;rw[f]at e d;have i:=(List.cons.inj e).1;(have:¬1<AL Aq s (Af s n)-Af s n:=λx=>c (j3 ⟨i.symm,x⟩));rw[mn]at d;exact nZ.1 lc
 .exact qr
def Yw{s}{b}(h:(CO s b).2.2=K):∀t∈(CO s b).1,t.v=0->Hl t.s:=by
 fun_induction CO s b with
 |case1 b hc _ _ ih=>
  intro t a c;have d:(AN s b K).2.2=K:=qr
  rcases l9.1 a with rfl|a
  .exact R0 d c
  .exact ih h t a c
 |case2 b hc=>
  intro t a c;rw[lX]at a;subst a;exact R0 h c
structure dQ(A:Dp):Prop where
 a:Tg A.a
 qH:∀t∈A.qH,t.v=0->Hl t.s
def ZF(h:(A5 s n K).2.2=K):dQ (A5 s n K).1:=by
 unfold A5 at h|-;simp at h|-;have a:=Ji h;have b:(BM s (A9 s (AS s n K) K).2.1 (A9 s (AS s n K) K).2.2 40).2=K:=by
  cases hm:(BM s (A9 s (AS s n K) K).2.1 (A9 s (AS s n K) K).2.2 40).2 with
  |false=>rfl
  |true=>unfold Ez at a;rw[hm,mo rfl]at a;cases a
 refine⟨Rc (Ji b),?_⟩;unfold Ez at a|-;rw[b,mm ln]at a|-;exact Yw a
def NQ(h:(An s n).2.2=K):dQ (An s n).1.E:=by
 exact ZF (Kl (Ji h)).1
def SE{s}{b}(h:(Ao s b).2.2=K):∀c∈(Ao s b).1,dQ c.E:=by
 fun_induction Ao s b with
 |case1 b ha hc ih=>
  intro c a;rcases l9.1 a with rfl|a
  .exact NQ hc.1
  .exact ih h c a
 |case2 b ha hc=>
  intro c a;rw[lX]at a;subst a;exact NQ h
 |case3 b ha=>exact ln
def WM{b:kN AW}(h:(Ao s n).2.2=K)(g:b.map AW.erase=(Ao s n).1){f}(d:DQ b f):Ml f:=by
 have i:∀c∈b,dQ c.E:=by
  intro c a;have l:c.erase∈(Ao s n).1:=by rw[<-g];exact mx a
  exact SE h _ l
 obtain⟨c,a,m,j⟩:=d.zV;refine⟨by rw[m];exact(i c a).a,λx v=>?_,λe=>?_⟩
 .obtain⟨q,p,k⟩:=mH.1 (d.qH x v);obtain⟨t,r,rfl⟩:=me.1 k;obtain⟨o,u⟩:=my.1 r;exact(i q p).qH t o (n5.1 u)
 .rw[e]at j;exact Oz h g c a (nZ.1 j.symm)
def Cb.fitE{n}(h:Cb n)(hF:LP n){s}(G:I4 n s){c}(j:c∈n){r:kN bN}(AH:Z r=26):∀e∈qU (Ce s) [r] (Am c),∀p∈c.bl,(p.1.b==97)=K->MO e p.1:=by
 intro e q p B g;obtain⟨AO,S⟩:=h.order.small;have M:=λf P=>AG.zD ((G.2 f P).qK h.prog.zI)
 have N:∀t,Fh (Am c) t->t.v≠0->0<(AI e t).size/\(AI e t).size<=1000000:=by
  intro t a b;obtain⟨_,_,_,_,z⟩:=CY M _ [r] (λe q=>by simp at q;rw[q];exact AH) (h.prog.zD.qH c j) e q;rcases a with i|⟨y,Q,g,u,T,Ax⟩
  .exact rl i b
  .have i:=(G.2 _ (z y Q g).1).qH _ (mx T);have w:=GS hF _ i;(have W:AI e u=AI e t:=by unfold AI;rw[Ax,mm b,mm b]);rw[W]at w;exact w
 have C:∀t∈AA p,Fh (Am c) t->0<(AI e t).size/\(AI e t).size<=1000000:=by
  intro t a z;by_cases b:t.v=0
  .have i:=(hF.full c j).body p B t a b;unfold AI;rw[mo b];exact i
  .exact N t z b
 have H:=(S c j).2.2 p B;have w:=pE H;have F:p.1∈Am c:=mx B;have d:=h.g c j p.1 F;have D:=h.prog.zD.safe c j p.1 F g;refine⟨λm=>?_,λl=>?_⟩
 .have o:(p.1.b==33)=T6:=by rw[g]at m;exact oa
  unfold Di at d;rw[mo m]at d;have k:AA p=p.1.A.qH:=by unfold AA L5;rw[m];rfl
  refine⟨λt a=>(d.qH t a).fit,lc,⟨by simp[Av];omega,λx hx=>?_⟩⟩;obtain⟨t,a,rfl⟩:=me.1 hx;exact C t (by rw[k];exact a) (D.1 o t a)
 .have o:(p.1.b==33)=K:=by rw[g]at l;exact oa
  unfold Di at d;rw[mm (by rw[l];simp)]at d;have k:AA p=[p.1.L,p.1.R]:=by unfold AA L5;rw[l];rfl
  have E:=C p.1.L (by rw[k];simp) (D.2 o).1;have I:=C p.1.R (by rw[k];simp) (D.2 o).2;exact⟨d.1.fit,d.2.1.fit,E.1,E.2,I.1,I.2⟩
def I4.len(h:Cb c){s}(a:I4 c s):Z s<=6912:=by
 exact h.order.few s (a.1.nodup λf b=>(a.2 f b).qK h.prog.zI) a.2
def US{i}(h:Cb i)(hF:LP i){c}(d:c∈i)(g o q)(b:kN BE)(n s)(a:kN BE)(w)(j:XG w c)(Q:DR w g)(S:CS w (U o (Z b) q) b)(N:CS w (U n (Z a) s) a)(D:I4 i (b.map BE.f))(x:I4 i (a.map BE.f))(R:Z g.f.qH<=1000000)(l:LJ c g.f (b.map BE.f) (a.map BE.f)=T6):
  rE rF 56 #[ku (Za (BH c)),ku (Za (Bj g)),U o (Z b) q,U n (Z a) s] w λe v=>e=j1 (kx T6)/\Ac [] w v:=by
 obtain⟨Ax,r⟩:=h.order.small;obtain⟨M,u,H⟩:=Aj j.qH;obtain⟨B,y,E⟩:=Aj j.body;unfold LJ at l;rw[mC]at l;have I:=D.len h;have C:=x.len h;rw[mh]at I C;have L:=j.qH;have z:=j.body;rw[H]at L;rw[E]at z;have m:=V9 c.erase M u B y c.bl g o q b n s a w L z j.g Q S N (r c d).1 I C
  (λt P=>((h.zI c d).qH t P).zD) (by have:=(r c d).2.1;show Z c.E.qH<=1000;omega) R
  (λp F m=>by
   have G:=(r c d).2.2 p F
   have x:=pE G
   exact⟨h.prog.zD.qH c d p.1 (mx F) m,lc⟩)
  l.1 (h.fitE hF D d (by rw[F8];rfl))
 have W:BH c=Dc c.erase (U M (Z c.erase.E.qH) u) (U B (Z c.bl) y):=by
  unfold BH Dc;rw[H,E];rfl
 rw[W];refine m.G ?_;rintro e v ⟨rfl,k⟩;refine⟨?_,k⟩;have:=l.2;unfold Am at this;have T:c.erase.E=c.E:=rfl;rw[T,this]
def NC(l:kN Df):kN Ae:=qU A3 [] (l.map λh=>h.2.E)
structure VU(cs:kN AW)(m:kN Ae)(f:Ae)(l:kN Df):Prop where
 some_:f∈m↔l≠[]
 full:∀h∈l,Ml h.2.E/\Z h.2.E.qH<=2/\h.1<12/\h.1<Z cs
 len:Z l<=7000
 zV:∀i,I4 cs (NC (qT i l))
 new:∀(i:Nat) (h:Df),l[i]?=V h->C7 (NC (qT i l)) h.2.E=K
 foll:∀(i:Nat) (h:Df) (c:AW),l[i]?=V h->cs[h.1]?=V c->LJ c h.2.E (NC (qT i l)) m=T6
 last:∀hne:l≠[],(l.getLast hne).2.E=f
def Y3{c d}(h:c.erase=d.erase):Am c=Am d/\c.E=d.E:=by
 have a:c.erase.body=d.erase.body:=by rw[h]
 have b:c.erase.E=d.erase.E:=by rw[h]
 exact⟨a,b⟩
def kn{A p}{u}{I}{L}(q:it s A u I L n)(z:Cb p)(C:p.map AW.erase=(Ao s (Af s 0)).1)(CC:Z p<=12){m}(y:Hu p (BW p 6) 7 m){f}(G:AG f):VU p m f (IT I f):=by
 have a:=Qn (q.erase.H C.symm);have b:=Qn (C.H q.erase.symm);have AO:=z.one y (b.zQ q.zQ) (a.inv b q.inv) (λd hd=>by
  obtain⟨c,w,e1,_⟩:=b d hd
  rw[<-e1]
  exact q.top c w)
 subst AO;have D:=λg k=>(y.zS g k).qK z.prog.zI
 obtain⟨o,H,N⟩:=q.rea.proof D G;have BT:=z.order.small.2;have CL:Z A=Z p:=by
  have:=rk List.length (q.erase.H C.symm);simpa using this
 generalize hl:IT I f=l at o H N;have F:∀(i:Nat) (h:Df),l[i]?=V h->l=qT i l++h::l.drop (i+1):=λi h j=>by
  obtain⟨r,e⟩:=oI.1 j;rw[<-e,<-mu r,ni]
 have B:∀i,(D3 (NC _))/\∀g,g∈NC _↔g∈(qT i l).map λh=>h.2.E:=λi=>by
  have h:=Me ((qT i l).map _) [] rp (λf G=>by simp at G) (λg k=>by
   obtain⟨h,j,rfl⟩:=me.1 k
   exact D _ (o.zS h (ny j)))
  exact⟨h.1,λg=>by rw[NC,h.2.2 g];simp⟩
 have B9:∀i,I4 p _:=λi=>⟨(B i).1,λg k=>by
  obtain⟨h,j,rfl⟩:=me.1 (((B i).2 g).1 k)
  exact y.zS _ (o.zS h (ny j))⟩
 have W:∀h∈l,h.1<Z A:=λh j=>by
  obtain⟨i,r,e⟩:=mS j;obtain⟨v,_⟩:=o.j _ _ _ (F i h (by rw[mc r,e]));exact v
 refine⟨⟨λh=>?_,λh=>?_⟩,λh j=>⟨?_,?_,?_,?_⟩,?_,B9,λi h j=>?_,λi h c j w=>?_,λAR=>?_⟩
 .obtain⟨BS,x,e,_⟩:=H h;rw[e];simp
 .exact Classical.byContradiction λv=>h (N v)
 .exact WM q.zD C (y.zS _ (o.zS h j))
 .obtain⟨c,w,_,e⟩:=(y.zS _ (o.zS h j)).zV;have:=(BT c w).2.1;omega
 .have:=W h j;omega
 .have:=W h j;omega
 .have E:=G0 _ m o.nd (λg k=>by
   obtain⟨h,j,rfl⟩:=me.1 k
   exact o.zS h j)
  have P:=I4.len z y.zV;rw[mh]at E;omega
 .have e:=F i h j;have Ax:=o.nd;rw[e,mO,mA,pH]at Ax;cases M:C7 (NC (qT i l)) h.2.E with
  |false=>rfl
  |true=>exact rl rfl (Ax.2.2 _ (((B i).2 _).1 ((B1 _ _).1 M)) _ (m9 ..))
 .obtain⟨v,σ,E,P,h3,h4⟩:=o.j _ _ _ (F i h j);have A1:A[h.1].erase=c.erase:=by
   (have R:(A.map AW.erase)[h.1]?=(p.map AW.erase)[h.1]?:=by rw[q.erase.H C.symm]);rw[no,no,mc v,w]at R;simpa using R
  obtain⟨T,eh⟩:=Y3 A1;have r:h.2=Dr c σ:=by rw[P];unfold Dr;rw[T,eh]
  have AT:Oy c σ:=by unfold Oy at E|-;rw[<-T];exact E
  have Q:c∈p:=ru w;have S:h.2.E=Bq σ c.E:=by rw[r];rfl
  rw[S];refine Vh z.prog.zD Q (λt ht=>((z.zI c Q).qH t ht).zD) (λg k=>?_) AT (λg k=>?_) (λg k=>?_) ?_
  .exact AG.zD (D g (by
    obtain⟨x,M,rfl⟩:=me.1 (((B i).2 g).1 k)
    exact o.zS x (ny M)))
  .exact((B i).2 g).2 (h3 g (by rw[r];exact k))
  .exact h4 g (by rw[r];exact k)
  .rw[<-S];exact AG.zD (D _ (o.zS h (ru j)))
 .have AH:=Classical.byContradiction λv=>AR (N v)
  obtain⟨BS,x,e,e2⟩:=H AH;subst e;exact li
def iS{s q t}{r}{a c}(h:YN s q t r)(g:Ds s a c)(j:a≠0):r=(a,c)/\t=ky:=by
 obtain⟨k,i,d⟩:=h;have e:=Fc g i;exact qr
def eC{s q t}{r}(h:YN s q t r)(d:Ds s 0 I)(b:Gw q=K):r=(2,0)/\t=ky:=by
 obtain⟨g,f,c⟩:=h;have e:=Fc d f;exact qr
def gB{s q t}{r}(h:YN s q t r)(a:Ds s 0 I)(x:Gw q=T6)(B:Cb c)(d:c.map AW.erase=(Ao s (Af s 0)).1)(z:Hu c (BW c 6) 7 f):
  ∃l,VU c f (Co q) l/\((l=[]/\r=(7,0)/\t=ky)\/(l≠[]/\r=(0,0)/\t=Js ky l)):=by
 have j:Z c<=12:=by
  unfold Ds at a;split at a
  .exact lc
  .split at a
   .exact lc
   .obtain⟨v,y,i⟩:=a;have w:=GO (by rw[<-i]);have:=rk List.length (d.H y.symm);simp at this;rw[this];exact(JH w).small.1
 obtain⟨C,o,g⟩:=h;have e:=Fc a o;subst e;rcases g with⟨b,_⟩|⟨_,⟨b,_⟩|⟨_,k,E,u,D,L,n,p,A⟩⟩
 .exact lc
 .rw[x]at b;cases b
 .exact⟨_,kn p B d j z k,A⟩
def Tu:∀l,(∀h∈l,Ml h.2.E/\Z h.2.E.qH<=2/\h.1<12)->Z (PV l)<=310*Z l
 |[],_=>by simp[PV]
 |h::l,hh=>by
  have a:=hh h ln;have d:=Rh a.1 a.2.1;have g:=Tu l (λx c=>hh x ss);have f:Z (Lj h.1).toList<=2:=by
   rcases XW a.2.2 with⟨_,e⟩|⟨_,e⟩<;>rw[e]<;>simp
  have e:Z (PV (h::l))=Z (YG h)+Z (PV l):=by unfold PV;rw[mB,mp]
  have b:Z (YG h)=Z (B7 h.2.E).toList+(1+(Z (Lj h.1).toList+1)):=by
   unfold YG;exact li
  exact li
def VU.qJ{m}{f}{l}(h:VU c m f l):(Js ky l).toList=PV l/\(Js ky l).size<=9000000000000:=by
 have e:(Js ky l).toList=PV l:=by rw[Uj,show ByteArray.empty.toList=[] from ln,nk]
 refine⟨e,?_⟩;rw[Bi,e];have:=Tu l (λx a=>⟨(h.full x a).1,(h.full x a).2.1,(h.full x a).2.2.1⟩);have:=h.len;omega
def Ml.ok{f}(h:Ml f)(b:Z f.qH<=2):M4 f:=by
 refine⟨lc,λx a=>?_⟩;rw[Bi];rcases h.qH x a with h|h
 .have:=h.1;have:=h.2.1;omega
 .have:=h.1;have:=h.2.1;omega
def ay{a:kN ix}{l:kN Df}(c:a.map (λr=>(r.n,r.f.f))=l.map (λh=>(h.1,h.2.E)))(i):KX (qT i a)=NC (qT i l):=by
 have b:(a.map λr=>r.f.f)=l.map λh=>h.2.E:=by
  have:=rk (List.map Prod.snd) c;rw[nh,nh]at this;exact this
 unfold KX NC;rw[List.map_take,<-b,<-List.map_take,List.foldl_map]
def ec{b:kN ix}{l:kN Df}(c:b.map (λr=>(r.n,r.f.f))=l.map (λh=>(h.1,h.2.E))){r}(d:b[i]?=V r):∃h,l[i]?=V h/\r.n=h.1/\r.f.f=h.2.E:=by
 have a:(b.map (λr=>(r.n,r.f.f)))[i]?=(l.map (λh=>(h.1,h.2.E)))[i]?:=by rw[c]
 rw[no,no,d]at a;cases hl:l[i]? with
 |none=>rw[hl]at a;cases a
 |some h=>
  exact qr
def YI{d}(hP:Cb d)(hF:LP d){l}(B D C E A)(a:kN ix)(x t u)(m:kN BE)(w)(hm:Hu d (BW d 6) 7 (m.map BE.f))(g:VU d (m.map BE.f) x.f l)(p:l≠[])(o:a.map (λr=>(r.n,r.f.f))=l.map (λh=>(h.1,h.2.E)))(hB:AF w B [U D (Z d) C] 76)(N:Cf w (U D (Z d) C) d)(hl:kt w 0 110 3 (U E (Z a) A) (Z a) (qS P9 a))(I:∀r∈a,DR w r.f)(hx:DR w x)(F:CS w (U t (Z m) u) m):
  rE rF 30 #[jj (V ⟨B,0,Y⟩),U E (Z a) A,ku (Za (Bj x)),U t (Z m) u] w λe Q=>e=j1 (kx T6)/\Ac [] w Q:=by
 have H:Z a=Z l:=by have:=rk List.length o;simpa using this
 have A2:∀r∈a,∃h∈l,r.n=h.1/\r.f.f=h.2.E:=λr j=>by
  obtain⟨i,hi,e⟩:=mS j;obtain⟨h,b,q⟩:=ec o (i:=i) (by rw[mc hi,e]);exact⟨h,ru b,q⟩
 have AO:a≠[]:=λe=>p (nZ.1 (by rw[<-H,e];rfl))
 have R:∀h:a≠[],(a.getLast h).f.f=x.f:=λh=>by
  have b:=g.last p;obtain⟨y,v,y2,S⟩:=ec o (i:=Z a-1) (r:=a.getLast h) (by rw[List.getLast_eq_getElem,mc]);rw[S,<-b];rw[H]at v;have k:l[Z l-1]?=V (l.getLast p):=by rw[List.getLast_eq_getElem,mc]
  rw[k]at v;cases v
  rfl
 refine YX B D C d E A a x t u m w hB N hl I hx ?_ F (λr j=>?_) hF.len (by have:=g.len;omega) (λi r j=>?_) (λi r c j P W AH L T z hs hf=>?_) AO (λh=>?_)
 .have b:=g.full _ (List.getLast_mem p);rw[<-g.last p];exact b.1.ok b.2.1
 .obtain⟨h,b,q,k⟩:=A2 r j;have s:=g.full h b;rw[q,k];exact⟨s.1.ok s.2.1,s.2.2.2⟩
 .obtain⟨h,b,q,k⟩:=ec o j;rw[ay o i,k];exact g.new i h b
 .obtain⟨h,b,q,k⟩:=ec o j;have M:=hf.H (ay o i);have G:c∈d:=ru P;have s:=g.full h (ru b);refine US hP hF G r.f W AH L t u m T ((N.j c G).C z) ((I r (ru j)).C z) hs (F.C z) (by rw[M];exact g.zV i) hm.zV (by rw[k];omega) ?_;rw[M,k];exact g.foll i h c b (by rw[<-q];exact P)
 .rw[R h];exact(F1 _ _).2 rfl
def kj(h:Gw s=T6):M4 (Co s):=by
 obtain⟨_,b,_⟩:=GG h;unfold Gw at h;rw[mC]at h;obtain⟨a,_⟩:=h;have hF:Co s=Av Bm (An s 0).1.E:=by unfold Co;rw[mo a]
 unfold KP at a;simp only[mC,n6,nX]at a;rw[hF]at b|-;refine⟨by simp[Av];omega,λx c=>?_⟩;have i:=(b x c).size;obtain⟨t,d,rfl⟩:=me.1 c;have f:=(Iu s 0).1.2 t d;have k:(AI Bm t).size<=t.s.size:=by
  unfold AI Bm;split
  .exact mt _
  .rw[mq,ry];split<;>exact mr _
 omega
theorem eM(M)(S T:bN)(w)(hS:S.size<=9223372036854775807)(hT:T.size<=9223372036854775807):rE rF 70 #[ku #[.int J M,O S,O T]] w λe z=>e=j1 (kx T6)/\Ac [] w z:=by
 have y:=Ab (kS w [.int J M,O S,O T] 29);have HK:=Ab ((kR [] w).alloc (Y6 #[.int J M,O S,O T] 29));have KA:jV _:=λd=>fL S T d hS hT
 go_enter func70,ntmps70;refine kI (λc a=>?_);go_wp2;refine a _ _ ?_;clear a c;change Code.wp _ _ _ _ (w.alloc (Y6 #[.int J M,O S,O T] 29));generalize w.alloc (Y6 #[.int J M,O S,O T] 29)=w1 at y HK|-;generalize w.heap.size=N at y|-;have G:=y.D 1;have o:=y.D 2;simp at G o;refine kI (λc a=>?_);go_wp2_with fail
 refine(KA _).G ?_;rintro _ w2 ⟨t,⟨v,E⟩,rfl,HE,k2⟩;have H:=Ab HE;have Q:=Ab (y.C k2);have H0:=Ab (HK.H k2);clear KA HE k2 y HK G o;go_wp2;refine a _ _ ?_;clear a c;have G:=Q.D 1;have o:=Q.D 2;simp at G o;have K3:=Ab (Ju S w2 hS);refine kI (λc a=>?_);go_wp2_with fail
 refine K3.G ?_;rintro _ R ⟨pv,er,Mo,rfl,HF,HQ,k3⟩;have L:=Ab HF;have B9:=Ab HQ;have HP:=Ab (Q.C k3);have H8:=Ab (H0.H k3);clear K3 HF HQ k3 Q H0 G o;go_wp2;refine a _ _ ?_;clear a c;by_cases h0:er=0
 .subst h0;obtain⟨pb,BA,A0,n,rfl,hP,hR,hF,K7,hr,AB,DT⟩:=B9 rfl;have FF:=EN hr AB DT;have FW:jV _:=λh=>eC H L h
  have ES:jV (Gw T=T6->∀m,Hu n _ 7 m->∃l,VU n m _ l/\((l=[]/\(v,E)=(7,0)/\t=ky)\/(l≠[]/\(v,E)=(0,0)/\t=Js ky l))):=λh m hm=>gB H L h FF AB hm
  have CW:jV _:=λd F=>No S pb BA A0 n d (hP.C F) (hR.C F) hF hr AB DT
  have B2:jV (∀d,Ac [] R d->AF d pb _ 76/\Cf d _ n):=λd F=>⟨hP.C F,hR.C F⟩
  have HL:=Ab FF;have LL:=Ab hF;clear hP hR hF K7 hr AB DT FF B9 L H;have LM:((0:Int) !=0)=K:=rfl;refine kI (λc a=>?_);go_wp2;refine a _ _ ?_;clear a c;have o:=HP.D 2;simp at o;have H5:=Ab (VI T R hT);refine kI (λc a=>?_);go_wp2_with fail
  refine H5.G ?_;rintro _ I ⟨⟨⟨i,g⟩,xv⟩,rfl,FL,FC,_,k4⟩;obtain⟨q,u,e⟩:=Aj FC;simp at e FL;subst e;simp only[Bj];have EM:=Ab (DR.C FC ((kR [] I).alloc (Y6 #[O i,U q (Z g) u] 43)));have BT:=Ab FL;have W:=Ab (kS I [O i,U q (Z g) u] 43);have C:=Ab (k4.alloc (Y6 #[O i,U q (Z g) u] 43));have Bx:=Ab (H8.H C);clear H5 FC FL k4 o HP;go_wp2;refine a _ _ ?_;clear a c;change Code.wp _ _ _ _ (I.alloc (Y6 #[O i,U q (Z g) u] 43));generalize I.alloc (Y6 #[O i,U q (Z g) u] 43)=w5 at EM W C Bx|-;generalize I.heap.size=X at W|-;cases ho:Gw T with
  |false=>
   obtain⟨j,rfl⟩:=FW ho;obtain⟨rfl,rfl⟩:=Prod.mk.inj j;clear FW ES CW B2 j ho;(go_wp2_with fail);refine(Gp 2 w5).G ?_;rintro _ w6 ⟨rfl,B0⟩;subst B0;go_wp2;go_ret;exact⟨ln,Bx⟩
  |true=>
   have H4:=Ab (ES ho);have HY:=Ab (kj ho);rw[<-Aa BT]at HY;clear FW ES ho;refine kI (λc a=>?_);go_wp2;refine a _ _ ?_;clear a c;have HW:=Ab (CW w5 C);refine kI (λc a=>?_);(go_wp2_with fail);refine HW.G ?_;rintro _ w6 ⟨KB,K2,s,rfl,IJ,hI,P⟩;have EX:=Ab IJ;have HI:=Ab hI;have E0:=Ab (EM.C P);have AH:=Ab (W.C P);have HR:=Ab (C.H P);have KD:=Ab (Bx.H P);clear HW CW IJ hI P EM W C Bx;go_wp2;refine a _ _ ?_;clear a c;obtain⟨l,hO,IA⟩:=H4 _ HI;have HH:=Aa BT;rw[<-HH]at hO;have MB:Z s<=6912:=by
    have:=I4.len HL HI.zV
    rwa [mh]at this
   obtain⟨B,D⟩:=AH.c2;simp at B D;have AT:=Ab (II KB K2 s _ w6 EX E0 lc HY);(have HT:(s.any λp=>CB p.f ⟨i,g⟩)=C7 (s.map BE.f) ⟨i,g⟩:=by unfold C7;rw[pj];rfl);simp only[Bj]at AT;rw[HT]at AT;clear HT H4 BT HH;refine kI (λc a=>?_);(go_wp2_with fail);refine AT.G ?_;rintro _ w7 ⟨rfl,x⟩;have HD:=Ab (EX.C x);have HG:=Ab (E0.C x);have KS:=Ab (AH.C x);have HX:=Ab (HR.H x);have FT:=Ab (KD.H x);have k:=Ab hO;have A1:=Ab IA;clear AT x EX E0 AH HR KD B D hO IA;cases hb:C7 (s.map BE.f) ⟨i,g⟩with
   |false=>
    (have HV:¬(⟨i,g⟩∈s.map BE.f):=λh=>by rw[(B1 _ _).2 h]at hb;cases hb);obtain⟨j,rfl⟩:(v,E)=(7,0)/\t=ky:=by
     rcases A1 with⟨_,h⟩|⟨h,_⟩
     .exact h
     .exact rl (k.some_.2 h) HV
    obtain⟨rfl,rfl⟩:=Prod.mk.inj j;clear k A1 HV j hb;go_wp2;refine a _ _ ?_;clear a c;(go_wp2_with fail);refine(Gp 7 w7).G ?_;rintro _ w8 ⟨rfl,LD⟩;subst LD;go_wp2;go_ret;exact⟨ln,FT⟩
   |true=>
    have HM:=k.some_.1 ((B1 _ _).1 hb);obtain⟨j,rfl⟩:(v,E)=(0,0)/\t=Js ky l:=qw
    obtain⟨rfl,rfl⟩:=Prod.mk.inj j;obtain⟨H2,H3⟩:=k.qJ;have Df:=Ab (du _ l w7 H2 H3 (λh hh=>⟨(k.full h hh).1,(k.full h hh).2.1,(k.full h hh).2.2.1⟩) k.len);generalize Js ky l=TX at Df;clear A1 j hb H2 H3;go_wp2;refine a _ _ ?_;clear a c;refine kI (λc a=>?_);go_wp2;refine a _ _ ?_;clear a c;refine kI (λc a=>?_);(go_wp2_with fail);refine Df.G ?_;rintro _ w8 ⟨K8,K6,rs,rfl,HS,H7,HZ,A⟩;have IS:=Ab (HD.C A);have K4:=Ab (HG.C A);have CL:=Ab (KS.C A);have Jx:=Ab (HX.H A);have HU:=Ab (FT.H A);obtain⟨JJ,HC⟩:=B2 _ Jx;have BS:=Ab (YI HL LL pb BA A0 K8 K6 rs ⟨_,_⟩ KB K2 s w8 HI k HM HS JJ HC H7 HZ K4 IS);simp only[Bj]at BS;clear Df HS H7 HZ A HD HG KS HX FT JJ HC IS K4 Jx B2 k HI;go_wp2;refine a _ _ ?_;clear a c;obtain⟨B,D⟩:=CL.c2;simp at B D;refine kI (λc a=>?_);(go_wp2_with fail);refine BS.G ?_;rintro _ w9 ⟨rfl,k9⟩;have LE:=Ab (HU.H k9);clear BS k9 B D CL HU;go_wp2;refine a _ _ ?_;clear a c;(go_wp2_with fail);refine(Gp 0 w9).G ?_;rintro _ wa ⟨rfl,LS⟩;subst LS;go_wp2;go_ret;exact⟨ln,LE⟩
 .have LM:(er !=0)=T6:=by simp[h0]
  obtain⟨j,rfl⟩:=iS H L h0;obtain⟨rfl,rfl⟩:=Prod.mk.inj j;clear H L B9 j h0;go_wp2_with fail
  refine(Gp v R).G ?_;rintro _ w6 ⟨rfl,B0⟩;subst B0;go_wp2;go_ret;exact⟨ln,H8⟩
theorem Rz(S T:bN)(w)(g:S.size<=9223372036854775807)(h:T.size<=9223372036854775807):rE rF 39 #[ku #[X J 4,O S,O T]] w λe b=>e=j1 (kx T6)/\Ac [] w b:=by
 have i:=Ab (kS w [X J 4,O S,O T] 29);have f:=Ab ((kR [] w).alloc (Y6 #[X J 4,O S,O T] 29));have d:jV (∀a,rE rF 70 #[ku #[X J 4,O S,O T]] a λe b=>e=j1 (kx T6)/\Ac [] a b):=λa=>eM 4 S T a g h
 go_enter func39,ntmps39;go_wp2_with fail
 refine(d _).G ?_;rintro _ k ⟨rfl,c⟩;have j:=Ab (f.H c);clear d c i f;go_wp2;go_ret;exact⟨rfl,j⟩
end
variable{s:bN}{z:Value}{w:World}
def ft(a)(S T:bN)(w)(g:1<=a)(f:a<=4)(b:S.size<=9223372036854775807)(c:T.size<=9223372036854775807):rE rF 39 #[.agg #[.int .i64 a,.string S,.string T]] w λe d=>e=.returned (.bool true)/\Ac [] w d:=by
 rcases(by omega:a=1\/a=2\/a=3\/a=4)with rfl|rfl|rfl|rfl
 .exact Tv S T w b
 .exact Q7 S T w b
 .exact Q0 S T w b c
 .exact Rz S T w b c
set_option maxRecDepth 100000
theorem gR(h:rE rF 38 #[.string s,z] w λe a=>e=.returned (.bool true)/\Ac [] w a)(j:∀c,Ac [] w c->rE rF 13 #[z,.int .i64 1,.int .i64 4] c λe a=>e=.returned (.int .i64 (-1))/\Ac [] c a):rE rF 12 #[.string s,z] w λe a=>e=.returned (.bool true)/\Ac [] w a:=by
 have g:=Ab h;have k:=Ab j;clear h j;go_enter func12,ntmps12;go_wp2_with fail
 refine g.G ?_;rintro _ l ⟨rfl,b⟩;have i:=Ab b;have d:=Ab (k l b);clear g k b;go_wp2_with fail
 refine d.G ?_;rintro _ n ⟨rfl,f⟩;have m:=Ab (i.H f);clear d f i;go_wp2_with fail
 go_ret;exact⟨ln,m⟩
