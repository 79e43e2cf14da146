import Derived.Test.YtoihbhenbmffcaaGreatDoorTBC
import Derived.Test.YtoihbhenbmffcaaGreatDoorTBA
set_option linter.all false
set_option maxHeartbeats 0
open List renaming length->Z
open Option renaming none->Y,some->V
open Go.Value renaming slice->U,int->X,string->O,pointer->j3
open Bool renaming false->K
open Go.IntKind renaming i64->J
open Go.Obj renaming cells->j1
open Go.Ending renaming returned->kt
open Or renaming inr->lx
open Go renaming World->ly
open ByteArray renaming empty->q9
namespace Go.Proofs.YtoihbhenbmffcaaGreatDoor
open Go.RowKit Go.Proofs.Tryz
def MR(n:Nat):zA:=if n<10 then⟨#[UInt8.ofNat (48+n)]⟩else⟨#[49,UInt8.ofNat (38+n)]⟩
set_option maxRecDepth 100000
theorem cw(n:Nat)(c:n<12)(w:ly):Calls prog 209 #[X J n] w λe a=>e=kt (O (MR n))/\a=w:=by
 have b:n=0\/n=1\/n=2\/n=3\/n=4\/n=5\/n=6\/n=7\/n=8\/n=9\/n=10\/n=11:=by omega
 rcases b with rfl|rfl|rfl|rfl|rfl|rfl|rfl|rfl|rfl|rfl|rfl|rfl;all_goals
  go_enter func209,ntmps209;go_wp2;go_ret;exact⟨by first|rfl|decide|(simp[MR];trace_state),rfl⟩
set_option maxRecDepth 512
theorem SX(n:Nat)(d:n<12)(w:ly):Calls prog 183 #[X J n,X J 10] w λe b=>e=kt (O (MR n))/\b=w:=by
 have c:=Ab (cw n d w);have h:(0:Int)<=(n:Int):=by omega
 have g:(n:Int)<100:=by omega
 go_enter func183,ntmps183;go_wp2_with fail
 refine c.mono ?_;rintro e f ⟨rfl,a⟩;subst a;go_wp2;go_ret;exact⟨rfl,rfl⟩
theorem cG(n:Nat)(d:n<12)(w:ly):Calls prog 147 #[X J n] w λe b=>e=kt (O (MR n))/\b=w:=by
 have c:=Ab (SX n d w);go_enter func147,ntmps147;go_wp2_with fail
 refine c.mono ?_;rintro e f ⟨rfl,a⟩;subst a;go_wp2;go_ret;exact⟨rfl,rfl⟩
theorem fK(n:Nat)(d:n<12)(w:ly):Calls prog 99 #[X J n] w λe b=>e=kt (O (MR n))/\b=w:=by
 have c:=Ab (cG n d w);go_enter func99,ntmps99;go_wp2_with fail
 refine c.mono ?_;rintro e f ⟨rfl,a⟩;subst a;go_wp2;go_ret;exact⟨rfl,rfl⟩
end Go.Proofs.YtoihbhenbmffcaaGreatDoor
namespace Go.Proofs.YtoihbhenbmffcaaGreatDoor
open Go.Shelf Go.RowKit
open Go.Proofs.Tryz
variable{w v u:ly}{m k n j:Nat}{T:TypeId}{y:rc Value}{s t:zA}{M:rc Nat}{o:Option Addr}
def L4:zA->rc DG->zA
 |t,[]=>t
 |t,h::l=>L4 (t++Bv h.2.head++⟨#[32]⟩++MR h.1++⟨#[10]⟩) l
def ai{v:Value}(h:w.ownsRow m T k v n y)(l:LN j s M w)(f:T≠145)(c:T≠5):∀i,v.ownBlock=V i->i∉M:=by
 intro i b a;obtain⟨p,q,o,_,g,d,rfl⟩:=l;rcases mA.1 a with rfl|a
 .exact Aq h g f b
 .exact Bh h d c i b (by simpa using a)
structure SU(w:ly)(N:Nat)(ad:Option Addr)(cp:Nat)(sts:rc (Nat×Vy))(t:zA)(wz:ly):Prop where
 yE:∃M,LN N t M wz
 row:wz.ownsRow 0 176 4 (U ad (Z sts) cp) (Z sts) (sts.flatMap Cl)
 each:∀p∈sts,C8 wz p.2.f/\Z p.2.f.f.zC<=1000/\∃a n c,p.2.n=U a n c
 kept:Ac [] w wz
def SU.calm{b:rc (Nat×Vy)}(h:SU w n o m b t v)(k:Ac [] v u):SU w n o m b t u:=by
 obtain⟨M,c⟩:=h.yE;exact⟨⟨M,c.kept k (by simp)⟩,Ad h.row k,λp a=>⟨(h.each p a).1.kept k,(h.each p a).2⟩,h.kept.trans k⟩
def SU.step{w c e:ly}{g:rc (Nat×Vy)}(u:w.heap.size=n)(h:SU w n o m g t c)(d:LN n t M c)(j:ep n s M c e):SU w n o m g s e:=by
 obtain⟨k,l,b,r⟩:=j;exact⟨⟨k,l⟩,Ag h.row b (ai h.row d (by decide) (by decide)),λp a=>⟨Ag (v:=p.2.f.tv) (h.each p a).1 b (ai (v:=p.2.f.tv) (h.each p a).1 d (by decide) (by decide)),(h.each p a).2⟩,h.kept.trans' b (λi q=>lx (by have:=(d.lt i q).1;omega))⟩
set_option maxRecDepth 100000
theorem Zl(IA:Option Addr)(H3:Nat)(B0:rc CU)(q:rc AV)(F:Af)(fp:Eb)(w:ly)(hP:CE w (U IA (Z B0) H3) B0)(hB:Im B0 q)(hf:fp.f=Bq F)(hc:AL F)(HT:C8 w fp)(L0:Z fp.f.zC<=1000)
  (hz:∀f,Dw q f->f.name.size<=1000000/\∀x∈(Bq f).zC,x.size<=1000000) (Jx:∀f,Dw q f->f.args≠[]) (h2:Z q<=12):
  Calls prog 54 #[U IA (Z B0) H3,.agg (AM fp).toArray] w λr G=>∃(s:rc Af) (a:rc DG) (L:zA->Nat) (n:Nat),r=kt (O (L4 q9 (Jv a F)))/\ZT q a s/\CG q L/\Hm q L n s/\(∀c∈q,L c.head.name<n)/\Ac [] w G:=by
 obtain⟨⟨fn,A1⟩,S1⟩:=fp;obtain⟨EM,EK,e⟩:=Al HT;simp only at e hf L0;subst e;simp only[AM];have HH:=Ab ((re [] w).alloc (j1 [O fn,U EM (Z A1) EK].toArray 104));have FC:=Ab (rf w [O fn,U EM (Z A1) EK] 104);obtain⟨C,FA⟩:=rd (w.alloc (j1 [O fn,U EM (Z A1) EK].toArray 104));obtain⟨FB,FO⟩:=rd w.heap.size;have S0:=Ab FO;have ST:=Ab FA;rw[FA]at HH FC;rw[FO]at FC;obtain⟨N,hN⟩:=rd C.heap.size;have HN:=Ab hN;have U0:Hid (FB+1=N):=by show _=_;rw[<-hN,<-FA,m9,FO]
 have CW:=Ab ((re [] C).alloc (j1 #[j3 Y,U Y 0 0] 145));have HQ:=Ab (LN.new C);rw[hN]at HQ;have HD:=Ab (gE IA H3 B0 q F ⟨⟨fn,A1⟩,U EM (Z A1) EK⟩ (C.alloc (j1 #[j3 Y,U Y 0 0] 145)) (hP.kept (HH.trans CW)) hB hf hc (HT.kept (HH.trans CW)) L0);simp only[AM]at HD;have Go:=Ab (FC.kept CW);have KD:Hid (∀(s:rc Af) (a:rc DG) (L:zA->Nat) (n:Nat),ZT q a s->Hm q L n s->∀h∈Jv a F,h.1<12/\AL h.2.head/\h.2.head.args≠[]/\h.2.head.name.size<=1000000/\∀x∈(Bq h.2.head).zC,x.size<=1000000):=by
  intro s a L n hr hi h hh;have hw:=hB.zd hi;have hp:=(hr.proof hw.2.1 hc).1;have AB:=hp.zX h hh;have H5:=hi.zX _ AB;obtain⟨A,B,e⟩:=List.append_of_mem hh;obtain⟨D,_⟩:=hp.each A h B e;exact⟨by omega,hw.2.1 _ AB,Jx _ H5,(hz _ H5).1,(hz _ H5).2⟩
 have NL:Hid (∀(s:rc Af) (a:rc DG) (L:zA->Nat) (n:Nat),ZT q a s->Hm q L n s->Z (Jv a F)<=7000):=by
  intro s a L n hr hi;have hw:=(hB.zd hi).2.2;have D:=IE (a.map λh=>h.2.head) s hr.nd (λf hf=>(hr.mem f).2 hf);have h2:=Rz a.reverse ([],[F]);rw[Ry]at h2;simp only[nM,List.length_reverse,m8,mI]at D h2;show Z (KG a.reverse [F])<=7000;omega
 clear hP hB hf hc HT hz Jx h2 hN FA FO;go_enter func54,ntmps54;refine ra (λz j=>?_);go_wp2;refine j _ _ ?_;clear j z;change Code.wp _ _ _ _ (w.alloc (j1 [O fn,U EM (Z A1) EK].toArray 104));rw[Aa ST,Aa S0];refine ra (λz j=>?_);go_wp2;refine j _ _ ?_;clear j z;rw[Aa HN];generalize C.alloc (j1 #[j3 Y,U Y 0 0] 145)=w2 at CW HQ HD Go⊢;have b0:=Go.cell 0;have b1:=Go.cell 1;simp at b0 b1;refine ra (λz j=>?_);go_wp2_with fail
 refine HD.mono ?_;rintro _ w3 ⟨ad,cp,v,s,a,L,n,rfl,Nq,K6,HZ,HL,NV,AB,NX,k3⟩;have MY:Hid (SU C N ad cp v q9 w3):=⟨⟨_,HQ.kept k3 (by simp)⟩,Nq,K6,CW.trans k3⟩;have RE:Hid (ZT q a s/\CG q L/\Hm q L n s/\(∀c∈q,L c.head.name<n)):=⟨HL,NV,AB,NX⟩;have N2:=Ab (KD s a L n HL AB);have QQ:=Ab HZ;have LL:Z v=Z (Jv a F):=by have h:=congrArg List.length HZ;simpa using h
 have Nx:=Ab LL;have WS:Z v<=7000:=by have:=Aa NL s a L n HL AB;omega
 obtain⟨Q,HP⟩:=rd (L4 q9 (Jv a F));have LD:Hid (L4 q9 ((Jv a F).drop 0)=Q):=HP;have NY:=Ab HP;clear HD Nq K6 HZ HL NV AB NX k3 b0 b1 Go FC KD NL LL HP;go_wp2_with fail
 go_loopg [12] (Z v) (λgk i wr=>∃(k:Nat) (t:zA),i=X J k/\k<=Z v/\gk=Z v-k/\t.size<=k*2000000010/\Hid (L4 t ((Jv a F).drop k)=Q)/\Hid (SU C N ad cp v t wr))
 case atStart=>exact⟨0,q9,rfl,by omega,rfl,by simp,LD,MY⟩
 case round=>
  clear LD MY;obtain⟨k,t,rfl,hk,NE,VR,HC,R⟩:=hrel;have HG:=Ab NE;clear NE;by_cases FP:k<Z v
  ·(have HR:k<Z (Jv a F):=by have:=Aa Nx;omega);obtain⟨g,hg,a0,a1,W,a3⟩:=Kt R.row k FP;subst hg;have E:=congrArg (λl=>l[k]?) QQ;simp only[n6,mG FP,mG HR,ox,mB,ny]at E;obtain⟨o1,o2,o3,o4,o5⟩:=N2 _ (mw HR);have H8:L4 t ((Jv a F).drop k)=L4 (t++Bv (Jv a F)[k].2.head++⟨#[32]⟩++MR (Jv a F)[k].1++⟨#[10]⟩) ((Jv a F).drop (k+1)):=by
    rw[mQ HR,L4]
   have BA:=R.each _ (mw FP);obtain⟨H,hH⟩:=rd ((Jv a F)[k]);rw[hH]at E o1 o2 o3 o4 o5 H8;obtain⟨⟨N4,⟨⟨T,P⟩,S1⟩,nv,Wa⟩,H9⟩:∃p,v[k]=p:=⟨_,rfl⟩;rw[H9]at a0 a1 W a3 E BA;simp only at a0 a1 W a3 E BA;obtain⟨pa,pc,e1⟩:=Al BA.1;simp only at e1;subst e1;obtain⟨TH,AR⟩:=E;have SS:N4=H.1:=TH;subst SS;(have Ix:FK ⟨T,P⟩=Bv H.2.head:=by rw[AR,PJ o2 o3]);obtain⟨qa,qn,qc,N0⟩:=BA.2.2;subst N0;have UO:k*2000000010<=7000*2000000010:=nB _ (by omega);have RB:(Bv H.2.head).size<=2000000000:=by
    rw[<-Ix];exact RG BA.2.1 (by rw[AR];exact o5) (by rw[AR];exact o4)
   have RV:(MR H.1).size<=2:=by
    unfold MR;split
    .show 1<=2;omega
    .show 2<=2;omega
   have HY:Hid (∀o,SU C N (V ⟨g,0,Y⟩) cp v t o->Calls prog 76 #[.agg #[O T,U pa (Z P) pc]] o λe G=>e=kt (O (Bv H.2.head))/\Ac [] o G):=by
    intro o hz;have D:=(hz.each _ (mw FP));rw[H9]at D;have h2:=LZ ⟨⟨T,P⟩,U pa (Z P) pc⟩ o D.1 D.2.1 (by rw[AR];exact o5) (by rw[AR];exact o4);simp only[AM,Ix]at h2;exact h2
   have M2:Hid (∀(y u:zA) o,SU C N (V ⟨g,0,Y⟩) cp v u o->u.size+y.size<=140737488355328->Calls prog 75 #[j3 (V ⟨N,0,Y⟩),O y] o λe G=>e=kt (.tuple #[X J y.size,.nilIface])/\SU C N (V ⟨g,0,Y⟩) cp v (u++y) G/\∀b S,AI o b S 176->AI G b S 176):=by
    intro y u o h hl;obtain⟨M,D⟩:=h.yE;refine(XO N u M y o D hl).mono ?_;rintro e G ⟨rfl,hW⟩;refine⟨rfl,h.step HN D hW,λb S I=>?_⟩;obtain⟨_,_,hk,_⟩:=hW;refine I.kept hk (λE=>?_);obtain⟨p,TL,SP,_,AH,HM,rfl⟩:=D;rcases mA.1 E with rfl|E
    .unfold AI at I AH;rw[I]at AH;simp at AH
    .exact Aq HM I (by decide) (by simpa using E)
   have K1:Hid (∀(d:UInt8) (u:zA) o,SU C N (V ⟨g,0,Y⟩) cp v u o->u.size+1<=140737488355328->Calls prog 77 #[j3 (V ⟨N,0,Y⟩),X .u8 (d.toNat:Int)] o λe G=>e=kt .nilIface/\SU C N (V ⟨g,0,Y⟩) cp v (u++⟨#[d]⟩) G/\∀b S,AI o b S 176->AI G b S 176):=by
    intro d u o h hl;obtain⟨M,D⟩:=h.yE;refine(UW N u M d o D hl).mono ?_;rintro e G ⟨rfl,hW⟩;refine⟨rfl,h.step HN D hW,λb S I=>?_⟩;obtain⟨_,_,hk,_⟩:=hW;refine I.kept hk (λE=>?_);obtain⟨p,TL,SP,_,AH,HM,rfl⟩:=D;rcases mA.1 E with rfl|E
    .unfold AI at I AH;rw[I]at AH;simp at AH
    .exact Aq HM I (by decide) (by simpa using E)
   have HE:=Ab (fK H.1 o1);have HX:Hid (L4 (t++Bv H.2.head++⟨#[32]⟩++MR H.1++⟨#[10]⟩) ((Jv a F).drop (k+1))=Q):=H8.symm.trans HC;generalize Bv H.2.head=FT at HX HY RB;generalize MR H.1=DT at HX HE RV;generalize H.1=HN1 at W HE;(have VL:(0:Int)<=(k:Int):=by omega);(have TX:(k:Int)<(Z v:Int):=by omega);have U1:(⟨#[32]⟩:zA).size=1:=rfl;have T0:(⟨#[10]⟩:zA).size=1:=rfl;have AO:=Ab (rf wr [O T,U pa (Z P) pc,X J (HN1:Nat),U qa qn qc] 176);have FF:=Ab (R.calm ((re [] wr).alloc (j1 [O T,U pa (Z P) pc,X J (HN1:Nat),U qa qn qc].toArray 176)));clear AR Ix o1 o2 o3 o4 o5 BA hH H9 H8 HC R;refine ra (λz j=>?_);go_wp2;refine j _ _ ?_;clear j z;refine ra (λz j=>?_);go_wp2;refine j _ _ ?_;clear j z;refine ra (λK5 Nd=>?_);refine wp_block ?_;refine ra (λz j=>?_);go_wp2;refine j _ _ ?_;clear j z;clear a0 a1 W a3;change Code.wp _ _ _ _ (wr.alloc (j1 [O T,U pa (Z P) pc,X J (HN1:Nat),U qa qn qc].toArray 176));generalize wr.alloc (j1 [O T,U pa (Z P) pc,X J (HN1:Nat),U qa qn qc].toArray 176)=wa at AO FF⊢;obtain⟨BS,MB⟩:=rd wr.heap.size;rw[MB]at AO⊢;clear MB;have a0:=AO.cell 0;have a1:=AO.cell 1;simp at a0 a1;refine ra (λz j=>?_);(go_wp2_with fail);refine(HY wa FF).mono ?_;rintro _ wb ⟨rfl,kb⟩;have NB:=Ab (M2 FT t wb (FF.calm kb) (by omega));have K2:=Ab (AO.kept kb);clear kb a0 a1 AO FF HY;(go_wp2_with fail);refine NB.mono ?_;rintro _ wc ⟨rfl,KS,JA⟩;have LC:=Ab (JA _ _ K2);have NA:=Ab (K1 32 (t++FT) wc KS (by rw[mH];omega));clear NB KS JA K2;go_wp2;refine j _ _ ?_;clear j z;refine ra (λz j=>?_);(go_wp2_with fail);refine NA.mono ?_;rintro _ wd ⟨rfl,JJ,K8⟩;have NS:=Ab (K8 _ _ LC);have K3:=Ab JJ;have W:=NS.cell 2;simp at W;clear NA JJ K8 LC;go_wp2;refine j _ _ ?_;clear j z;refine ra (λz j=>?_);(go_wp2_with fail);refine(HE wd).mono ?_;rintro _ we ⟨rfl,rfl⟩;have M0:=Ab (Aa M2 DT (t++FT++⟨#[32]⟩) we (Aa K3) (by rw[mH,mH];omega));clear HE K3;(go_wp2_with fail);refine M0.mono ?_;rintro _ wf ⟨rfl,M6,-⟩;have IS:=Ab (K1 10 (t++FT++⟨#[32]⟩++DT) wf M6 (by rw[mH,mH,mH];omega));clear M0 M6 W NS;go_wp2;refine j _ _ ?_;clear j z;(go_wp2_with fail);refine IS.mono ?_;rintro _ wg ⟨rfl,K7,-⟩;have TS:=Ab K7;clear IS K7;go_wp2;refine Nd _ _ ?_;clear Nd;go_wp2
   go_roundg (Z v-(k+1))
   case measure=>have:=Aa HG;omega
   case rel=>exact⟨k+1,_,by go_num,by omega,rfl,by rw[mH,mH,mH,mH];omega,HX,TS⟩
  .have M1:t=Q:=by
    have h:=Aa HC;rw[ni (by have:=Aa Nx;omega)]at h;exact h
   obtain⟨M,H6⟩:=R.yE;rw[M1]at H6;have Mo:=Ab (Xx N Q M wr H6);have NN:=Ab R.kept;clear M1 H6 HC R;(go_wp2_with fail);refine j _ _ ?_;clear j;(go_wp2_with fail);refine Mo.mono ?_;rintro _ w9 ⟨rfl,MN,-⟩;have SL:Hid (Ac [] w w9):=by
    have h:=MN;rw[<-Aa HN]at h;exact HH.trans (IG NN h)
   clear Mo MN NN;go_wp2;go_ret;obtain⟨l1,l2,l3,l4⟩:=RE;exact⟨s,a,L,n,by rw[Aa NY];rfl,l1,l2,l3,l4,SL⟩
end Go.Proofs.YtoihbhenbmffcaaGreatDoor
namespace Go.Proofs.YtoihbhenbmffcaaGreatDoor
open Go.RowKit Go.Proofs.Tryz
variable{s:zA}
def aw:∀(l:rc DG) (t:zA),t.size<=(L4 t l).size
 |[],t=>mP _
 |h::l,t=>by
  rw[L4];refine nD ?_ (aw l _);rw[mH,mH,mH,mH];omega
def iS(h:DG)(l:rc DG)(t:zA):(L4 t (h::l)).size≠0:=by
 rw[L4];have:=aw l (t++Bv h.2.head++⟨#[32]⟩++MR h.1++⟨#[10]⟩);rw[mH]at this;have a:(⟨#[10]⟩:zA).size=1:=rfl;omega
structure jU(s:zA)(rcs:rc AV)(u:rc Af)(hs:rc DG)(L:zA->Nat)(n:Nat):Prop where
 erase:rcs.map AV.erase=(Aj s (Ae s 0)).1
 zM:(Aj s (Ae s 0)).2.2=K
 pass:Cn rcs
 rea:ZT rcs hs u
 zS:CG rcs L
 inv:Hm rcs L n u
 top:∀c∈rcs,L c.head.name<n
def gS(s q t:zA)(r:Int×Int):Prop:=
 ∃r1,El s (jw s) r1/\((r1.1≠0/\r=r1/\t=q9)\/(r1.1=0/\((Il q=K/\r=(2,0)/\t=q9)\/
  (Il q=true/\AL (Cs q)/\∃rcs u hs L n,jU s rcs u hs L n/\((Jv hs (Cs q)=[]/\r=(7,0)/\t=q9)\/(Jv hs (Cs q)≠[]/\r=(0,0)/\t=L4 q9 (Jv hs (Cs q))))))))
set_option maxRecDepth 100000
theorem fI(s q:zA)(w:ly)(FL:s.size<=9223372036854775807)(FW:q.size<=9223372036854775807):
  Calls prog 27 #[O s,O q] w λe A=>∃(t:zA) (r:Int×Int),e=kt (.tuple #[O t,X J r.1,X J r.2])/\gS s q t r/\Ac [] w A:=by
 have B9:=Ab (J2 s (jw s) w FL (λx cs v S F=>Le x v F));go_enter func27,ntmps27;go_wp2_with fail
 refine B9.mono ?_;rintro _ w1 ⟨ad,n,cp,⟨o,z⟩,rfl,EX,B2,k1⟩;have j:=Ab EX;have R:=Ab B2;have CW:=Ab k1;clear B9 EX B2 k1;by_cases D:o=0
 .subst D;obtain⟨x,cs,S,v,F,rfl,hP⟩:=R rfl;obtain⟨hr,M,N,hB⟩:=My x v F hP j rfl;obtain rfl:z=0:=(Prod.mk.inj hr).2;have T:(Aj s (Ae s 0)).2.2=K:=by
   have EM:=Lh s;rw[v]at EM;exact EM.1
  have FT:((0:Int) !=0)=K:=rfl;have A1:=Ab (Om q w1 FW);have E:=Ab (ib q);have P:Hid (Il q=K->gS s q q9 (2,0)):=λh=>⟨(0,0),j,lx ⟨rfl,Or.inl ⟨h,rfl,rfl⟩⟩⟩
  have A0:Hid (Il q=true->∀(p:Eb) (i:ly),p.f=Bq (Cs q)->C8 i p->Z p.f.zC<=1000->Ac [] w1 i->Calls prog 54 #[U ad (Z S) cp,.agg (AM p).toArray] i λe A=>∃t:zA,e=kt (O t)/\(t.size=0->gS s q q9 (7,0))/\(t.size≠0->gS s q t (0,0))/\Ac [] i A):=by
   intro h1 p i k m C hk;obtain⟨_,BA,_⟩:=GS h1;refine(Zl ad cp S M (Cs q) p i (hP.kept hk) hB k BA m C (λf hf=>?_) (λf hf=>?_) (J0 (b:=M) (EH (show DK s (CQ M).1 (CQ M).2 by unfold DK;rw[if_neg (by omega),if_neg (by rw[T];simp)];exact⟨M,N,rfl⟩) j).symm).small.1).mono ?_
   .have h:=RP x N (u:=[f]) (fs:=[⟨Bq f,.bool K⟩]) (λg hg=>by simp at hg;rw[hg];exact hf) rfl ⟨Bq f,.bool K⟩ (by simp);exact h
   .obtain⟨c,hc,_,e⟩:=hf.zd;intro e2;rw[e2]at e;have:=OM T N c hc;exact this (oP.1 e.symm)
   .rintro e A ⟨u,I,L,n,rfl,g1,g2,g3,g4,g5⟩;have B0:jU s M u I L n:=⟨N,T,hB.pass,g1,g2,g3,g4⟩;refine⟨_,rfl,λb=>⟨(0,0),j,lx ⟨rfl,lx ⟨h1,BA,M,u,I,L,n,B0,Or.inl ⟨?_,rfl,rfl⟩⟩⟩⟩,λb=>⟨(0,0),j,lx ⟨rfl,lx ⟨h1,BA,M,u,I,L,n,B0,lx ⟨?_,rfl,rfl⟩⟩⟩⟩,g5⟩
    .cases d:Jv I (Cs q)with
     |nil=>rfl
     |cons a l=>rw[d]at b;exact absurd b (iS a l _)
    .intro d;rw[d]at b;exact b rfl
  clear x v F hP hr N hB R T j;go_wp2_with fail
  refine A1.mono ?_;rintro _ i ⟨p,rfl,k,m,C,G⟩;have DT:=Ab (CW.trans G);obtain⟨⟨pn,B⟩,HI⟩:=p;obtain⟨AO,Ax,e⟩:=Al m;simp only at e C k;subst e;cases ho:Il q with
  |false=>
   have y:=Ab (P ho);(have d:dW q=Y:=by rw[Aa E,ho,mJ (by simp)]);rw[d];simp only[Option.isSome_none,AM];clear A1 E P A0 k m G d ho;(go_wp2_with fail);go_ret3;exact⟨q9,(2,0),rfl,y,DT.alloc _⟩
  |true=>
   (have d:dW q=V (Bq (Cs q)):=by rw[Aa E,ho,mK rfl]);have CL:=k _ d;rw[d];simp only[Option.isSome_some,AM];have H:=Ab (A0 ho ⟨⟨pn,B⟩,U AO (Z B) Ax⟩ (i.alloc (j1 [O pn,U AO (Z B) Ax].toArray 104)) CL (C8.kept m ((re [] i).alloc _)) C (G.alloc _));have HB:=Ab (DT.alloc (j1 [O pn,U AO (Z B) Ax].toArray 104));simp only[AM]at H;clear A1 E P A0 k m G d ho CL;(go_wp2_with fail);refine H.mono ?_;rintro _ w3 ⟨t,rfl,Q,AH,W⟩;have EY:=Ab (HB.trans W);by_cases b:t.size=0
   .have y:=Ab (Q b);have ht:t=⟨#[]⟩:=toList_inj (by rw[A5]at b;rw[oP.1 b,ng]);subst ht;clear H Q AH W b;(go_wp2_with fail);go_ret3;exact⟨q9,(7,0),rfl,y,EY⟩
   .have y:=Ab (AH b);have hb:(t.toList==([]:rc UInt8))=K:=by
     cases d:t.toList with
     |nil=>rw[A5,d]at b;exact absurd rfl b
     |cons a l=>rfl
    have HH:(t.toList==(⟨#[]⟩:zA).toList)=K:=by
     rw[show(⟨#[]⟩:zA).toList=[] from by rw[ng]]
     exact hb
    clear H Q AH W b;(go_wp2_with fail);go_ret3;exact⟨t,(0,0),rfl,y,EY⟩
 .have FT:(o !=0)=true:=by simp[D]
  have HF:Hid (gS s q q9 (o,z)):=⟨(o,z),j,Or.inl ⟨D,rfl,rfl⟩⟩;clear D R j;go_wp2_with fail
  go_ret3;exact⟨q9,(o,z),rfl,HF,CW⟩
def Gn.len(h:Gn s):Z s.toList<=4:=by
 rcases h with h|h
 .exact h.2.1
 .have:=h.2.1;omega
def NG{f:Af}(h:GL f)(a:Z f.args<=2):Z (Bv f).toList<=300:=by
 rw[E2 h.ne];have b:=h.name.2.1;have c:Z (Eo f.args)<=9:=by
  match hf:f.args with
  |[]=>simp[Eo]
  |[x]=>have:=(h.args x (by rw[hf];simp)).len;simp only[Eo];omega
  |[x,y]=>
   have:=(h.args x (by rw[hf];simp)).len;have:=(h.args y (by rw[hf];simp)).len;simp only[Eo,mM,mL];omega
  |x::y::z::l=>rw[hf]at a;simp at a
 simp only[mM,mL,m8];omega
def Xj{f:Af}(h:GL f)(d:Z f.args<=2):Il (Bv f)=true/\Cs (Bv f)=f:=by
 have b:=W4 h;have e:(Bv f).size<=300:=by rw[A5];exact NG h d
 have c:Li (Bv f)=true:=by
  unfold Li;rw[b];simp only[mI,m8];rw[nW (by omega),nW (by omega),nW (by omega),nW (by omega)];rfl
 have a:Cs (Bv f)=f:=by
  unfold Cs;rw[mK c,b];unfold Av;simp only[nN];have:(AP Bl∘AJ.mk 0)=id:=by funext x;rfl
  rw[this,List.map_id]
 refine⟨?_,a⟩;unfold Il;rw[c,a];simp
