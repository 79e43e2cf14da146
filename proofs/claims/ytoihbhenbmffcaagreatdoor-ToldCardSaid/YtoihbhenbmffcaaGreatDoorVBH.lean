import Derived.Test.YtoihbhenbmffcaaGreatDoorVBE
import Derived.Test.YtoihbhenbmffcaaGreatDoorVBD
set_option linter.all false
set_option maxHeartbeats 0
open List renaming length->Z,toArray->D6
open Option renaming none->Y,some->V
open Go.Value renaming slice->U,int->X,string->O,pointer->Gi,agg->Ms,bool->No
open Bool renaming false->K,true->Cm
open Go.IntKind renaming i64->J
open Go.Obj renaming cells->Dj
open Go.Ending renaming returned->G3
open Or renaming inr->Hf
open Go renaming World->Hq
open Go.RowKit renaming Hid->JR
open Go.World renaming cell?->Lc,ownsRow->Mi
open ByteArray renaming empty->ND
namespace Go.Proofs.YtoihbhenbmffcaaGreatDoor
open Go.RowKit Go.Proofs.Tryz
def L8(n:Nat):bC:=if n<10 then⟨#[UInt8.ofNat (48+n)]⟩else⟨#[49,UInt8.ofNat (38+n)]⟩
set_option maxRecDepth 100000
theorem bH(n:Nat)(c:n<12)(w:Hq):Calls prog 209 #[X J n] w λe a=>e=G3 (O (L8 n))/\a=w:=by
 have b:n=0\/n=1\/n=2\/n=3\/n=4\/n=5\/n=6\/n=7\/n=8\/n=9\/n=10\/n=11:=by omega
 rcases b with rfl|rfl|rfl|rfl|rfl|rfl|rfl|rfl|rfl|rfl|rfl|rfl;all_goals
  go_enter func209,ntmps209;go_wp2;go_ret;exact⟨by first|rfl|decide|(simp[L8];trace_state),rfl⟩
set_option maxRecDepth 512
theorem So(n:Nat)(d:n<12)(w:Hq):Calls prog 183 #[X J n,X J 10] w λe b=>e=G3 (O (L8 n))/\b=w:=by
 have c:=Ab (bH n d w);have h:(0:Int)<=(n:Int):=by omega
 have g:(n:Int)<100:=by omega
 go_enter func183,ntmps183;go_wp2_with fail
 refine c.mono ?_;rintro e f ⟨rfl,a⟩;subst a;go_wp2;go_ret;exact⟨rfl,rfl⟩
theorem bP(n:Nat)(d:n<12)(w:Hq):Calls prog 147 #[X J n] w λe b=>e=G3 (O (L8 n))/\b=w:=by
 have c:=Ab (So n d w);go_enter func147,ntmps147;go_wp2_with fail
 refine c.mono ?_;rintro e f ⟨rfl,a⟩;subst a;go_wp2;go_ret;exact⟨rfl,rfl⟩
theorem fb(n:Nat)(d:n<12)(w:Hq):Calls prog 99 #[X J n] w λe b=>e=G3 (O (L8 n))/\b=w:=by
 have c:=Ab (bP n d w);go_enter func99,ntmps99;go_wp2_with fail
 refine c.mono ?_;rintro e f ⟨rfl,a⟩;subst a;go_wp2;go_ret;exact⟨rfl,rfl⟩
end Go.Proofs.YtoihbhenbmffcaaGreatDoor
namespace Go.Proofs.YtoihbhenbmffcaaGreatDoor
open Go.Shelf Go.RowKit
open Go.Proofs.Tryz
variable{w v u:Hq}{m k n j:Nat}{T:TypeId}{y:QC Value}{s t:bC}{M:QC Nat}{o:Option Addr}
def Lh:bC->QC DY->bC
 |t,[]=>t
 |t,h::l=>Lh (t++B5 h.2.head++⟨#[32]⟩++L8 h.1++⟨#[10]⟩) l
def ZI{v:Value}(h:Mi w m T k v n y)(l:KQ j s M w)(f:T≠145)(c:T≠5):∀i,v.ownBlock=V i->i∉M:=by
 intro i b a;obtain⟨p,q,o,_,g,d,rfl⟩:=l;rcases lI.1 a with rfl|a
 .exact As h g f b
 .exact Bg h d c i b (by simpa using a)
structure Sj(w:Hq)(N:Nat)(ad:Option Addr)(cp:Nat)(sts:QC (Nat×UZ))(t:bC)(wz:Hq):Prop where
 zS:∃M,KQ N t M wz
 row:Mi wz 0 176 4 (U ad (Z sts) cp) (Z sts) (sts.flatMap Ci)
 each:∀p∈sts,Ek wz p.2.f/\Z p.2.f.f.bc<=1000/\∃a n c,p.2.n=U a n c
 kept:Ac [] w wz
def Sj.calm{b:QC (Nat×UZ)}(h:Sj w n o m b t v)(k:Ac [] v u):Sj w n o m b t u:=by
 obtain⟨M,c⟩:=h.zS;exact⟨⟨M,c.kept k⟩,Ad h.row k,λp a=>⟨(h.each p a).1.kept k,(h.each p a).2⟩,h.kept.trans k⟩
def Sj.step{w c e:Hq}{g:QC (Nat×UZ)}(u:w.heap.size=n)(h:Sj w n o m g t c)(d:KQ n t M c)(j:dD n s M c e):Sj w n o m g s e:=by
 obtain⟨k,l,b,r⟩:=j;exact⟨⟨k,l⟩,Ai h.row b (ZI h.row d (by decide) (by decide)),λp a=>⟨Ai (v:=p.2.f.tv) (h.each p a).1 b (ZI (v:=p.2.f.tv) (h.each p a).1 d (by decide) (by decide)),(h.each p a).2⟩,h.kept.trans' b (λi q=>Hf (by have:=(d.lt i q).1;omega))⟩
set_option maxRecDepth 100000
theorem YS(IA:Option Addr)(H3:Nat)(BT:QC DF)(q:QC A7)(F:Af)(fp:Fh)(w:Hq)(hP:DK w (U IA (Z BT) H3) BT)(hB:M7 BT q)(hf:fp.f=BX F)(hc:AJ F)(HT:Ek w fp)(Mo:Z fp.f.bc<=1000)
  (hz:∀f,DV q f->f.name.size<=1000000/\∀x∈(BX f).bc,x.size<=1000000) (Jx:∀f,DV q f->f.args≠[]):
  Calls prog 54 #[U IA (Z BT) H3,Ms (D6 (A8 fp))] w λr G=>∃(s:QC Af) (a:QC DY) (L:bC->Nat) (n:Nat),r=G3 (O (Lh ND (I4 a F)))/\Zq q a s/\CX q L/\GN q L n s/\(∀c∈q,L c.head.name<n)/\Ac [] w G:=by
 obtain⟨⟨fn,A1⟩,S1⟩:=fp;obtain⟨EM,EK,e⟩:=Ak HT;simp only at e hf Mo;subst e;simp only[A8];have HH:=Ab ((SF [] w).alloc (Dj [O fn,U EM (Z A1) EK].toArray 104));have FC:=Ab (Tc w [O fn,U EM (Z A1) EK] 104);obtain⟨C,FA⟩:=QP (w.alloc (Dj [O fn,U EM (Z A1) EK].toArray 104));obtain⟨FB,FO⟩:=QP w.heap.size;have S0:=Ab FO;have ST:=Ab FA;rw[FA]at HH FC;rw[FO]at FC;obtain⟨N,hN⟩:=QP C.heap.size;have HN:=Ab hN;have U0:JR (FB+1=N):=by show _=_;rw[<-hN,<-FA,mt,FO]
 have CL:=Ab ((SF [] C).alloc (Dj #[Gi Y,U Y 0 0] 145));have HQ:=Ab (KQ.new C);rw[hN]at HQ;have HD:=Ab (fG IA H3 BT q F ⟨⟨fn,A1⟩,U EM (Z A1) EK⟩ (C.alloc (Dj #[Gi Y,U Y 0 0] 145)) (hP.kept (HH.trans CL)) hB hf hc (HT.kept (HH.trans CL)) Mo);simp only[A8]at HD;have Go:=Ab (FC.kept CL);have KD:JR (∀(s:QC Af) (a:QC DY) (L:bC->Nat) (n:Nat),Zq q a s->GN q L n s->∀h∈I4 a F,h.1<12/\AJ h.2.head/\h.2.head.args≠[]/\h.2.head.name.size<=1000000/\∀x∈(BX h.2.head).bc,x.size<=1000000):=by
  intro s a L n hr hi h hh;have hw:=hB.zB hi;have hp:=(hr.proof hw.2.1 hc).1;have AB:=hp.fw h hh;have H5:=hi.fw _ AB;obtain⟨A,B,e⟩:=List.append_of_mem hh;obtain⟨D,_⟩:=hp.each A h B e;have h2:=hB.pass.order.small.1;exact⟨by omega,hw.2.1 _ AB,Jx _ H5,(hz _ H5).1,(hz _ H5).2⟩
 have NN:JR (∀(s:QC Af) (a:QC DY) (L:bC->Nat) (n:Nat),Zq q a s->GN q L n s->Z (I4 a F)<=7000):=by
  intro s a L n hr hi;have hw:=(hB.zB hi).2.2;have D:=Kl (a.map λh=>h.2.head) s hr.nd (λf hf=>(hr.mem f).2 hf);have h2:=QX a.reverse ([],[F]);rw[QU]at h2;simp only[mR,List.length_reverse,mn,lR]at D h2;show Z (J7 a.reverse [F])<=7000;omega
 clear hP hB hf hc HT hz Jx hN FA FO;go_enter func54,ntmps54;refine Q0 (λz j=>?_);go_wp2;refine j _ _ ?_;clear j z;change Code.wp _ _ _ _ (w.alloc (Dj [O fn,U EM (Z A1) EK].toArray 104));rw[Aa ST,Aa S0];refine Q0 (λz j=>?_);go_wp2;refine j _ _ ?_;clear j z;rw[Aa HN];generalize C.alloc (Dj #[Gi Y,U Y 0 0] 145)=w2 at CL HQ HD Go⊢;have b0:=Go.cell 0;have b1:=Go.cell 1;simp at b0 b1;refine Q0 (λz j=>?_);go_wp2_with fail
 refine HD.mono ?_;rintro _ w3 ⟨ad,cp,v,s,a,L,n,rfl,Nx,K6,HZ,HL,NY,AB,N0,k3⟩;have M0:JR (Sj C N ad cp v ND w3):=⟨⟨_,HQ.kept k3⟩,Nx,K6,CL.trans k3⟩;have RG:JR (Zq q a s/\CX q L/\GN q L n s/\(∀c∈q,L c.head.name<n)):=⟨HL,NY,AB,N0⟩;have Op:=Ab (KD s a L n HL AB);have QR:=Ab HZ;have LM:Z v=Z (I4 a F):=by have h:=congrArg List.length HZ;simpa using h
 have NA:=Ab LM;have WS:Z v<=7000:=by have:=Aa NN s a L n HL AB;omega
 obtain⟨Q,HP⟩:=QP (Lh ND (I4 a F));have LE:JR (Lh ND ((I4 a F).drop 0)=Q):=HP;have N2:=Ab HP;clear HD Nx K6 HZ HL NY AB N0 k3 b0 b1 Go FC KD NN LM HP;go_wp2_with fail
 go_loopg [12] (Z v) (λgk i wr=>∃(k:Nat) (t:bC),i=X J k/\k<=Z v/\gk=Z v-k/\t.size<=k*2000000010/\JR (Lh t ((I4 a F).drop k)=Q)/\JR (Sj C N ad cp v t wr))
 case atStart=>exact⟨0,ND,rfl,by omega,rfl,by simp,LE,M0⟩
 case round=>
  clear LE M0;obtain⟨k,t,rfl,hk,NM,VR,HC,R⟩:=hrel;have HG:=Ab NM;clear NM;by_cases FP:k<Z v
  ·(have HR:k<Z (I4 a F):=by have:=Aa NA;omega);obtain⟨g,hg,a0,a1,W,a3⟩:=JX R.row k FP;subst hg;have E:=congrArg (λl=>l[k]?) QR;simp only[m6,lN FP,lN HR,nF,lL,mA]at E;obtain⟨o1,o2,o3,o4,o5⟩:=Op _ (lE HR);have H8:Lh t ((I4 a F).drop k)=Lh (t++B5 (I4 a F)[k].2.head++⟨#[32]⟩++L8 (I4 a F)[k].1++⟨#[10]⟩) ((I4 a F).drop (k+1)):=by
    rw[lY HR,Lh]
   have BA:=R.each _ (lE FP);obtain⟨H,hH⟩:=QP ((I4 a F)[k]);rw[hH]at E o1 o2 o3 o4 o5 H8;obtain⟨⟨Os,⟨⟨T,P⟩,S1⟩,nv,Wa⟩,H9⟩:∃p,v[k]=p:=⟨_,rfl⟩;rw[H9]at a0 a1 W a3 E BA;simp only at a0 a1 W a3 E BA;obtain⟨pa,pc,e1⟩:=Ak BA.1;simp only at e1;subst e1;obtain⟨TH,AR⟩:=E;have SP:Os=H.1:=TH;subst SP;(have Ix:Fy ⟨T,P⟩=B5 H.2.head:=by rw[AR,Pd o2 o3]);obtain⟨qa,qn,qc,N4⟩:=BA.2.2;subst N4;have UO:k*2000000010<=7000*2000000010:=mF _ (by omega);have RE:(B5 H.2.head).size<=2000000000:=by
    rw[<-Ix];exact Q3 BA.2.1 (by rw[AR];exact o5) (by rw[AR];exact o4)
   have RV:(L8 H.1).size<=2:=by
    unfold L8;split
    .show 1<=2;omega
    .show 2<=2;omega
   have HY:JR (∀o,Sj C N (V ⟨g,0,Y⟩) cp v t o->Calls prog 76 #[Ms #[O T,U pa (Z P) pc]] o λe G=>e=G3 (O (B5 H.2.head))/\Ac [] o G):=by
    intro o hz;have D:=(hz.each _ (lE FP));rw[H9]at D;have h2:=La ⟨⟨T,P⟩,U pa (Z P) pc⟩ o D.1 D.2.1 (by rw[AR];exact o5) (by rw[AR];exact o4);simp only[A8,Ix]at h2;exact h2
   have M3:JR (∀(y u:bC) o,Sj C N (V ⟨g,0,Y⟩) cp v u o->u.size+y.size<=140737488355328->Calls prog 75 #[Gi (V ⟨N,0,Y⟩),O y] o λe G=>e=G3 (.tuple #[X J y.size,.nilIface])/\Sj C N (V ⟨g,0,Y⟩) cp v (u++y) G/\∀b S,AI o b S 176->AI G b S 176):=by
    intro y u o h hl;obtain⟨M,D⟩:=h.zS;refine(Xh N u M y o D hl).mono ?_;rintro e G ⟨rfl,hW⟩;refine⟨rfl,h.step HN D hW,λb S I=>?_⟩;obtain⟨_,_,hk,_⟩:=hW;refine I.kept hk (λE=>?_);obtain⟨p,TK,SL,_,AH,HM,rfl⟩:=D;rcases lI.1 E with rfl|E
    .unfold AI at I AH;rw[I]at AH;simp at AH
    .exact As HM I (by decide) (by simpa using E)
   have K1:JR (∀(d:UInt8) (u:bC) o,Sj C N (V ⟨g,0,Y⟩) cp v u o->u.size+1<=140737488355328->Calls prog 77 #[Gi (V ⟨N,0,Y⟩),X .u8 (d.toNat:Int)] o λe G=>e=G3 .nilIface/\Sj C N (V ⟨g,0,Y⟩) cp v (u++⟨#[d]⟩) G/\∀b S,AI o b S 176->AI G b S 176):=by
    intro d u o h hl;obtain⟨M,D⟩:=h.zS;refine(Ur N u M d o D hl).mono ?_;rintro e G ⟨rfl,hW⟩;refine⟨rfl,h.step HN D hW,λb S I=>?_⟩;obtain⟨_,_,hk,_⟩:=hW;refine I.kept hk (λE=>?_);obtain⟨p,TK,SL,_,AH,HM,rfl⟩:=D;rcases lI.1 E with rfl|E
    .unfold AI at I AH;rw[I]at AH;simp at AH
    .exact As HM I (by decide) (by simpa using E)
   have HE:=Ab (fb H.1 o1);have HX:JR (Lh (t++B5 H.2.head++⟨#[32]⟩++L8 H.1++⟨#[10]⟩) ((I4 a F).drop (k+1))=Q):=H8.symm.trans HC;generalize B5 H.2.head=FT at HX HY RE;generalize L8 H.1=DT at HX HE RV;generalize H.1=HN1 at W HE;(have VL:(0:Int)<=(k:Int):=by omega);(have TX:(k:Int)<(Z v:Int):=by omega);have U1:(⟨#[32]⟩:bC).size=1:=rfl;have T0:(⟨#[10]⟩:bC).size=1:=rfl;have AO:=Ab (Tc wr [O T,U pa (Z P) pc,X J (HN1:Nat),U qa qn qc] 176);have FF:=Ab (R.calm ((SF [] wr).alloc (Dj [O T,U pa (Z P) pc,X J (HN1:Nat),U qa qn qc].toArray 176)));clear AR Ix o1 o2 o3 o4 o5 BA hH H9 H8 HC R;refine Q0 (λz j=>?_);go_wp2;refine j _ _ ?_;clear j z;refine Q0 (λz j=>?_);go_wp2;refine j _ _ ?_;clear j z;refine Q0 (λK5 Nj=>?_);refine wp_block ?_;refine Q0 (λz j=>?_);go_wp2;refine j _ _ ?_;clear j z;clear a0 a1 W a3;change Code.wp _ _ _ _ (wr.alloc (Dj [O T,U pa (Z P) pc,X J (HN1:Nat),U qa qn qc].toArray 176));generalize wr.alloc (Dj [O T,U pa (Z P) pc,X J (HN1:Nat),U qa qn qc].toArray 176)=wa at AO FF⊢;obtain⟨BS,MN⟩:=QP wr.heap.size;rw[MN]at AO⊢;clear MN;have a0:=AO.cell 0;have a1:=AO.cell 1;simp at a0 a1;refine Q0 (λz j=>?_);(go_wp2_with fail);refine(HY wa FF).mono ?_;rintro _ wb ⟨rfl,kb⟩;have NL:=Ab (M3 FT t wb (FF.calm kb) (by omega));have K2:=Ab (AO.kept kb);clear kb a0 a1 AO FF HY;(go_wp2_with fail);refine NL.mono ?_;rintro _ wc ⟨rfl,KS,JA⟩;have LC:=Ab (JA _ _ K2);have NB:=Ab (K1 32 (t++FT) wc KS (by rw[lK];omega));clear NL KS JA K2;go_wp2;refine j _ _ ?_;clear j z;refine Q0 (λz j=>?_);(go_wp2_with fail);refine NB.mono ?_;rintro _ wd ⟨rfl,JJ,K8⟩;have NX:=Ab (K8 _ _ LC);have K3:=Ab JJ;have W:=NX.cell 2;simp at W;clear NB JJ K8 LC;go_wp2;refine j _ _ ?_;clear j z;refine Q0 (λz j=>?_);(go_wp2_with fail);refine(HE wd).mono ?_;rintro _ we ⟨rfl,rfl⟩;have M1:=Ab (Aa M3 DT (t++FT++⟨#[32]⟩) we (Aa K3) (by rw[lK,lK];omega));clear HE K3;(go_wp2_with fail);refine M1.mono ?_;rintro _ wf ⟨rfl,Nd,-⟩;have IS:=Ab (K1 10 (t++FT++⟨#[32]⟩++DT) wf Nd (by rw[lK,lK,lK];omega));clear M1 Nd W NX;go_wp2;refine j _ _ ?_;clear j z;(go_wp2_with fail);refine IS.mono ?_;rintro _ wg ⟨rfl,K7,-⟩;have TL:=Ab K7;clear IS K7;go_wp2;refine Nj _ _ ?_;clear Nj;go_wp2
   go_roundg (Z v-(k+1))
   case measure=>have:=Aa HG;omega
   case rel=>exact⟨k+1,_,by go_num,by omega,rfl,by rw[lK,lK,lK,lK];omega,HX,TL⟩
  .have M2:t=Q:=by
    have h:=Aa HC;rw[mp (by have:=Aa NA;omega)]at h;exact h
   obtain⟨M,H6⟩:=R.zS;rw[M2]at H6;have MB:=Ab (WU N Q M wr H6);have NV:=Ab R.kept;clear M2 H6 HC R;(go_wp2_with fail);refine j _ _ ?_;clear j;(go_wp2_with fail);refine MB.mono ?_;rintro _ w9 ⟨rfl,MY,-⟩;have SK:JR (Ac [] w w9):=by
    have h:=MY;rw[<-Aa HN]at h;exact HH.trans (Ia NV h)
   clear MB MY NV;go_wp2;go_ret;obtain⟨l1,l2,l3,l4⟩:=RG;exact⟨s,a,L,n,by rw[Aa N2];rfl,l1,l2,l3,l4,SK⟩
end Go.Proofs.YtoihbhenbmffcaaGreatDoor
namespace Go.Proofs.YtoihbhenbmffcaaGreatDoor
open Go.RowKit Go.Proofs.Tryz
variable{g:UInt8}{s t:bC}{k:Nat}{c:QC A7}
def ZO:∀(l:QC DY) (t:bC),t.size<=(Lh t l).size
 |[],t=>lX _
 |h::l,t=>by
  rw[Lh];refine mM ?_ (ZO l _);rw[lK,lK,lK,lK];omega
def ii(h:DY)(l:QC DY)(t:bC):(Lh t (h::l)).size≠0:=by
 rw[Lh];have:=ZO l (t++B5 h.2.head++⟨#[32]⟩++L8 h.1++⟨#[10]⟩);rw[lK]at this;have a:(⟨#[10]⟩:bC).size=1:=rfl;omega
structure jd(s:bC)(rcs:QC A7)(u:QC Af)(hs:QC DY)(L:bC->Nat)(n:Nat):Prop where
 erase:rcs.map A7.erase=(An s (Ae s 0)).1
 cI:(An s (Ae s 0)).2.2=K
 pass:Cp rcs
 rea:Zq rcs hs u
 dp:CX rcs L
 inv:GN rcs L n u
 top:∀c∈rcs,L c.head.name<n
def fV(s q t:bC)(r:Int×Int):Prop:=
 ∃r1,EI s (jo s) r1/\((r1.1≠0/\r=r1/\t=ND)\/(r1.1=0/\((Hj q=K/\r=(2,0)/\t=ND)\/
  (Hj q=Cm/\AJ (CP q)/\∃rcs u hs L n,jd s rcs u hs L n/\((I4 hs (CP q)=[]/\r=(7,0)/\t=ND)\/(I4 hs (CP q)≠[]/\r=(0,0)/\t=Lh ND (I4 hs (CP q))))))))
set_option maxRecDepth 100000
theorem eZ(s q:bC)(w:Hq)(FL:s.size<=9223372036854775807)(FW:q.size<=9223372036854775807):
  Calls prog 27 #[O s,O q] w λe A=>∃(t:bC) (r:Int×Int),e=G3 (.tuple #[O t,X J r.1,X J r.2])/\fV s q t r/\Ac [] w A:=by
 have B2:=Ab (LV s (jo s) w FL (λx cs v S F=>Me x v F));go_enter func27,ntmps27;go_wp2_with fail
 refine B2.mono ?_;rintro _ w1 ⟨ad,n,cp,⟨o,z⟩,rfl,EX,B0,k1⟩;have j:=Ab EX;have R:=Ab B0;have CL:=Ab k1;clear B2 EX B0 k1;by_cases D:o=0
 .subst D;obtain⟨x,cs,S,v,F,rfl,hP⟩:=R rfl;obtain⟨hr,M,N,hB⟩:=O5 x v F hP j rfl;obtain rfl:z=0:=(Prod.mk.inj hr).2;have T:(An s (Ae s 0)).2.2=K:=by
   have EM:=Kr s;rw[v]at EM;exact EM.1
  have FT:((0:Int) !=0)=K:=rfl;have A1:=Ab (UU q w1 FW);have E:=Ab (jE q);have P:JR (Hj q=K->fV s q ND (2,0)):=λh=>⟨(0,0),j,Hf ⟨rfl,Or.inl ⟨h,rfl,rfl⟩⟩⟩
  have A0:JR (Hj q=Cm->∀(p:Fh) (i:Hq),p.f=BX (CP q)->Ek i p->Z p.f.bc<=1000->Ac [] w1 i->Calls prog 54 #[U ad (Z S) cp,Ms (D6 (A8 p))] i λe A=>∃t:bC,e=G3 (O t)/\(t.size=0->fV s q ND (7,0))/\(t.size≠0->fV s q t (0,0))/\Ac [] i A):=by
   intro h1 p i k m C hk;obtain⟨_,BA,_⟩:=Hm h1;refine(YS ad cp S M (CP q) p i (hP.kept hk) hB k BA m C (λf hf=>?_) (λf hf=>?_)).mono ?_
   .have h:=Rc x N (u:=[f]) (fs:=[⟨BX f,No K⟩]) (λg hg=>by simp at hg;rw[hg];exact hf) rfl ⟨BX f,No K⟩ (by simp);exact h
   .obtain⟨c,hc,_,e⟩:=hf.zB;intro e2;rw[e2]at e;have:=R5 T N c hc;exact this (nK.1 e.symm)
   .rintro e A ⟨u,I,L,n,rfl,g1,g2,g3,g4,g5⟩;have BT:jd s M u I L n:=⟨N,T,hB.pass,g1,g2,g3,g4⟩;refine⟨_,rfl,λb=>⟨(0,0),j,Hf ⟨rfl,Hf ⟨h1,BA,M,u,I,L,n,BT,Or.inl ⟨?_,rfl,rfl⟩⟩⟩⟩,λb=>⟨(0,0),j,Hf ⟨rfl,Hf ⟨h1,BA,M,u,I,L,n,BT,Hf ⟨?_,rfl,rfl⟩⟩⟩⟩,g5⟩
    .cases d:I4 I (CP q)with
     |nil=>rfl
     |cons a l=>rw[d]at b;exact absurd b (ii a l _)
    .intro d;rw[d]at b;exact b rfl
  clear x v F hP hr N hB R T j;go_wp2_with fail
  refine A1.mono ?_;rintro _ i ⟨p,rfl,k,m,C,G⟩;have DT:=Ab (CL.trans G);obtain⟨⟨pn,B⟩,HI⟩:=p;obtain⟨AO,Ax,e⟩:=Ak m;simp only at e C k;subst e;cases ho:Hj q with
  |false=>
   have y:=Ab (P ho);(have d:gC q=Y:=by rw[Aa E,ho,lO (by simp)]);rw[d];simp only[Option.isSome_none,A8];clear A1 E P A0 k m G d ho;(go_wp2_with fail);go_ret3;exact⟨ND,(2,0),rfl,y,DT.alloc _⟩
  |true=>
   (have d:gC q=V (BX (CP q)):=by rw[Aa E,ho,lS rfl]);have CC:=k _ d;rw[d];simp only[Option.isSome_some,A8];have H:=Ab (A0 ho ⟨⟨pn,B⟩,U AO (Z B) Ax⟩ (i.alloc (Dj [O pn,U AO (Z B) Ax].toArray 104)) CC (Ek.kept m ((SF [] i).alloc _)) C (G.alloc _));have HB:=Ab (DT.alloc (Dj [O pn,U AO (Z B) Ax].toArray 104));simp only[A8]at H;clear A1 E P A0 k m G d ho CC;(go_wp2_with fail);refine H.mono ?_;rintro _ w3 ⟨t,rfl,Q,AH,W⟩;have EY:=Ab (HB.trans W);by_cases b:t.size=0
   .have y:=Ab (Q b);have ht:t=⟨#[]⟩:=toList_inj (by rw[AP]at b;rw[nK.1 b,ma]);subst ht;clear H Q AH W b;(go_wp2_with fail);go_ret3;exact⟨ND,(7,0),rfl,y,EY⟩
   .have y:=Ab (AH b);have hb:(t.toList==([]:QC UInt8))=K:=by
     cases d:t.toList with
     |nil=>rw[AP,d]at b;exact absurd rfl b
     |cons a l=>rfl
    have HH:(t.toList==(⟨#[]⟩:bC).toList)=K:=by
     rw[show(⟨#[]⟩:bC).toList=[] from by rw[ma]]
     exact hb
    clear H Q AH W b;(go_wp2_with fail);go_ret3;exact⟨t,(0,0),rfl,y,EY⟩
 .have FT:(o !=0)=Cm:=by simp[D]
  have HF:JR (fV s q ND (o,z)):=⟨(o,z),j,Or.inl ⟨D,rfl,rfl⟩⟩;clear D R j;go_wp2_with fail
  go_ret3;exact⟨ND,(o,z),rfl,HF,CL⟩
def RD(h:AA g=Cm):g≠10:=by rintro rfl;exact absurd h (by decide)
def WX(h:Ap g=Cm):g≠10:=by rintro rfl;exact absurd h (by decide)
def ZZ:∀(b:QC bC),(∀x∈b,Gw x)->∀c∈D7 b,c≠10
 |[],_,c,a=>by simp[D7]at a
 |[x],h,c,a=>by
  rcases h x (by simp)with hw|hn
  .exact RD (hw.2.2 c a)
  .exact WX (hn.2.2.1 c a)
 |x::y::l,h,c,a=>by
  rw[D7,lV,lI]at a;rcases a with a|rfl|a
  .rcases h x (by simp)with hw|hn
   .exact RD (hw.2.2 c a)
   .exact WX (hn.2.2.1 c a)
  .decide
  .exact ZZ (y::l) (λz d=>h z (by simp at d⊢;exact Hf d)) c a
def WJ{f:Af}(h:Il f):∀c∈(B5 f).toList,c≠10:=by
 rw[Ii h.ne];intro c a;simp only[lV,lI,mQ,or_false]at a;rcases a with a|rfl|a|rfl|rfl
 .exact RD (h.name.2.2 c a)
 .decide
 .exact ZZ _ h.args c a
 .decide
 .decide
def Gw.len(h:Gw s):Z s.toList<=4:=by
 rcases h with h|h
 .exact h.2.1
 .have:=h.2.1;omega
def QV{f:Af}(h:Il f)(a:Z f.args<=2):Z (B5 f).toList<=300:=by
 rw[Ii h.ne];have b:=h.name.2.1;have c:Z (D7 f.args)<=9:=by
  match hf:f.args with
  |[]=>simp[D7]
  |[x]=>have:=(h.args x (by rw[hf];simp)).len;simp only[D7];omega
  |[x,y]=>
   have:=(h.args x (by rw[hf];simp)).len;have:=(h.args y (by rw[hf];simp)).len;simp only[D7,lU,lQ];omega
  |x::y::z::l=>rw[hf]at a;simp at a
 simp only[lU,lQ,mn];omega
def WG{f:Af}(h:Il f)(d:Z f.args<=2):Hj (B5 f)=Cm/\CP (B5 f)=f:=by
 have b:=Ww h;have e:(B5 f).size<=300:=by rw[AP];exact QV h d
 have c:Lo (B5 f)=Cm:=by
  unfold Lo;rw[b];simp only[lR,mn];rw[mY (by omega),mY (by omega),mY (by omega),mY (by omega)];rfl
 have a:CP (B5 f)=f:=by
  unfold CP;rw[lS c,b];unfold Aq;simp only[mJ];have:(AL Bj∘AF.mk 0)=id:=by funext x;rfl
  rw[this,List.map_id]
 refine⟨?_,a⟩;unfold Hj;rw[c,a];simp
def dF(s:bC):Nat:=AG (λc=>c !=10) s 0
def QM(acc:QC Af)(f:Af):Bool:=match acc.getLast? with
 |none=>Cm
 |some g=>CS g f
def EG:Nat->QC Af->bC->Option (QC Af)
 |0,_,_=>Y
 |n+1,acc,s=>if s.size=0 then V acc else if dF s=s.size then Y else
  if(Hj (s.extract 0 (dF s))&&QM acc (CP (s.extract 0 (dF s))))=Cm then EG n (acc++[CP (s.extract 0 (dF s))]) (s.extract (dF s+1) s.size)else Y
def Yj(p:UInt8->Bool)(s:bC)(i:Nat):∀k (h:k<s.size),i<=k->k<AG p s i->p s[k]=Cm:=by
 fun_induction AG p s i with
 |case1 i h hp ih=>
  intro k b c a;by_cases e:k=i
  .subst e;exact hp
  .exact ih k b (by omega) a
 |case2 i h hp=>intro k b c a;omega
 |case3 i h=>intro k b c a;omega
def YF(p:UInt8->Bool)(s:bC)(i:Nat):∀(h:AG p s i<s.size),p s[AG p s i]=K:=by
 fun_induction AG p s i with
 |case1 i h hp ih=>exact ih
 |case2 i h hp=>intro a;simpa using hp
 |case3 i h=>intro a;omega
def jw(s:bC):dF s<=s.size:=CN _ _ _ (lW _)
def fS(j:Nat)(a:j<s.size)(h:j<dF s):s[j].toNat≠10:=by
 have:=Yj _ s 0 j a (lW _) h;simp only[bne_iff_ne,ne_eq]at this;exact λe=>this (nh.1 (by rw[e];rfl))
def fR(h:dF s<s.size):s[dF s].toNat=10:=by
 have:=YF _ s 0 h;simp only[bne_eq_false_iff_eq]at this;have e:s[dF s]=10:=this;rw[e];rfl
def jJ(c:k<s.size)(a:∀j (d:j<s.size),j<k->s[j].toNat≠10)(b:s[k].toNat=10):dF s=k:=by
 rcases Nat.lt_trichotomy (dF s) k with h|h|h
 .exact absurd (fR (by omega)) (a _ (by omega) h)
 .exact h
 .exact absurd b (fS k c h)
def dR{x:bC}{a:QC UInt8}(h:s.toList=x.toList++10::a)(p:∀c∈x.toList,c≠10):
  dF s=Z x.toList/\Z x.toList<s.size/\s.extract 0 (Z x.toList)=x/\(s.extract (Z x.toList+1) s.size).toList=a:=by
 have d:=EB s;rw[h]at d;have q:s.size=Z x.toList+1+Z a:=by rw[AP,h];simp;omega
 have m:∀j (f:j<s.size) (g:j<Z (x.toList++10::a)),s[j]=(x.toList++10::a)[j]:=λj f g=>by
  have:=d.2 j g (by omega);simpa using this
 refine⟨jJ (by omega) (λj f b e=>?_) ?_,by omega,?_,?_⟩
 .rw[m j f (by simp;omega),mT b]at e;exact p _ (lE b) (nh.1 (by rw[e];rfl))
 .rw[m _ (by omega) (by simp),List.getElem_append_right (by omega)];simp
 .have:=Eh d.left;rw[mC]at this;exact this
 .have o:CV s (0+Z x.toList+[(10:UInt8)].length) a:=(CV.right (l:=[10]) d.right);have n:s.extract (Z x.toList+1) (Z x.toList+1+Z a)=⟨D6 a⟩:=by
   (have b:a=(⟨D6 a⟩:bC).toList:=by rw[ma]);have k:=Eh (x:=⟨D6 a⟩) (s:=s) (i:=Z x.toList+1) (by rw[<-b];simpa using o);rw[<-b]at k;exact k
  rw[<-q]at n;rw[n,ma]
def IZ(l:QC Af):QC UInt8:=l.flatMap λf=>(B5 f).toList++[10]
def KY:∀(l b:QC Af) (s:bC) (n:Nat),s.toList=IZ l->s.size<n->(∀f∈l,Il f/\Z f.args<=2)->(∀f,l.head?=V f->QM b f=Cm)->D1 l->EG n b s=V (b++l)
 |[],b,s,0,_,hn,_,_,_=>by omega
 |[],b,s,n+1,h,_,_,_,_=>by
  have o:s.size=0:=by rw[AP,h];rfl
  rw[EG,lS o,mz]
 |f::l,b,s,0,_,hn,_,_,_=>by omega
 |f::l,b,s,n+1,h,hn,hF,hA,hR=>by
  obtain⟨e,i⟩:=hF f (by simp);have q:s.toList=(B5 f).toList++10::IZ l:=by
   rw[h];unfold IZ;simp
  obtain⟨j,u,k,p⟩:=dR q (WJ e);obtain⟨t,r⟩:=WG e i;have d:=nA.1 hR;rw[EG,lO (by omega),j,lO (by omega),k,t,r,hA f rfl,lS (by rfl),KY l (b++[f]) _ n p (by rw[mP];omega) (λg c=>hF g (by simp[c])) (λg c=>?_) d.2]
  .simp
  .unfold QM;rw[List.getLast?_append];have:g∈l:=by cases l with
    |nil=>simp at c
    |cons a m=>simp at c;simp[c]
   exact d.1 g this
def O8:∀(l:QC Af) (t:bC),(WP t l).toList=t.toList++IZ l
 |[],t=>by simp[WP,IZ]
 |f::l,t=>by
  rw[WP,O8 l,BH,BH];have a:(⟨#[10]⟩:bC).toList=[10]:=by rw[ma]
  rw[a];unfold IZ;simp
def Py:∀(l:QC Af),(∀f∈l,Il f/\Z f.args<=2)->Z (IZ l)<=301*Z l
 |[],_=>by simp[IZ]
 |f::l,h=>by
  have a:=Py l (λg b=>h g (by simp[b]));have c:=QV (h f (by simp)).1 (h f (by simp)).2;unfold IZ at a⊢;rw[mc,lU,lU,lQ,lQ,mn];omega
def Tp(y:Je s t 0){g:QC A7}(h:Cp g)(v:(An s (Ae s 0)).2.2=K)(k:g.map A7.erase=(An s (Ae s 0)).1):
  ∃(L:bC->Nat) (N:Nat) (u:QC Af),CX g L/\GN g L N u/\(∀c∈g,L c.head.name<N)/\t=WP ND u/\(∀f∈u,Il f/\Z f.args<=2)/\Z u<=6912:=by
 obtain⟨A,L,N,u,l,o,w,q,rfl⟩:=y.2 rfl;have a:=Hw (l.trans k.symm);have b:=Hw (k.trans l.symm);have i:=a.inv b w;have m:∀f∈u,Il f:=λf e=>Wp v k (i.fw f e)
 have p:∀f∈u,AJ f:=λf e=>(i.fw f e).canon h.prog.cU
 refine⟨L,N,u,b.dp o,i,λd n=>?_,RW u _ λf e=>⟨p f e,(m f e).ne⟩,λf e=>⟨m f e,?_⟩,?_⟩
 .obtain⟨c,j,x,_⟩:=b d n;rw[<-x];exact q c j
 .obtain⟨c,j,_,r⟩:=(i.fw f e).zB;rw[r];exact(h.order.small.2 c j).2.1
 .have z:=i.len h.prog.cU;have B:=R9 h.order.small.1 (λc j=>(h.order.small.2 c j).2.1);omega
def V1(g:Je s t 0)(b:Cp c)(h:(An s (Ae s 0)).2.2=K)(k:c.map A7.erase=(An s (Ae s 0)).1):
  ∃u,EG (t.size+1) [] t=V u/\SX c u/\SD c u=Cm/\t.size<=1000000000000:=by
 obtain⟨L,N,u,i,a,j,rfl,e,m⟩:=Tp g b h k;have d:(WP ND u).toList=IZ u:=by
  rw[O8];have:ByteArray.empty.toList=[]:=by rw[ma];rfl
  rw[this,mR]
 have n:=Py u e;refine⟨u,?_,a.zB,cP (b.other i) a j,by rw[AP,d];omega⟩;rw[KY u [] _ _ d (Nat.lt_succ_self _) e (λf l=>rfl) a.cE];rfl
def fd(h:Hj s=Cm):LY (CP s):=by
 obtain⟨_,b,_⟩:=Hm h;unfold Hj at h;rw[mi]at h;obtain⟨a,_⟩:=h;have hF:CP s=Aq Bj (Ao s 0).1.head:=by unfold CP;rw[lS a]
 unfold Lo at a;simp only[mi,nW,nV]at a;obtain⟨m,e,g,l,j⟩:=a;rw[hF]at b⊢;refine⟨by simp[Aq];omega,λx c=>?_⟩;have i:=(b x c).size;obtain⟨t,d,rfl⟩:=lP.1 c;have f:=(MI s 0).1.2 t d;have k:(AL Bj t).size<=t.s.size:=by
  unfold AL Bj;split
  .exact lX _
  .rw[lT,List.getElem?_replicate];split<;>exact lW _
 omega
def bq(a:QC BM)(f:Af):QM (a.map BM.f) f=match a.getLast? with
 |none=>Cm
 |some g=>CS g.f f:=by
 unfold QM;rw[List.getLast?_map];cases a.getLast?<;>rfl
theorem aQ(C:bC)(w:Hq)(SB:C.size<=1000000000000):
  Calls prog 17 #[O C] w λe w'=>∃(z:Option Addr) (G:Nat) (a:QC BM),e=G3 (.tuple #[U z (Z a) G,No (EG (C.size+1) [] C).isSome])/\a.map BM.f=(EG (C.size+1) [] C).getD []/\D2 w' (U z (Z a) G) a/\Ac [] w w':=by
 obtain⟨i0,Os,M3,QR,N0⟩:=mH Tryz.info43;obtain⟨N,hN⟩:=QP w.heap.size;have HN:=Ab hN;obtain⟨F,hF⟩:=QP (EG (C.size+1) [] C);rw[hF];have HL:JR (∀d,F=Y->Ac [] w d->∃(z:Option Addr) (G:Nat) (a:QC BM),G3 (.tuple #[U Y 0 0,No K])=G3 (.tuple #[U z (Z a) G,No F.isSome])/\a.map BM.f=F.getD []/\D2 d (U z (Z a) G) a/\Ac [] w d):=λd h k=>⟨Y,0,[],by rw[h];rfl,by rw[h];rfl,⟨mf _ _ _ _,λp hp=>by simp at hp⟩,k⟩
 have HF:=Ab hF;clear hN hF;go_enter func17,ntmps17;go_wp2_with fail
 go_loopg [0,4] C.size (λgk sv lv wr=>∃(s:bC) (n:Nat) (a:QC BM) (z:Option Addr) (G:Nat),sv=O s/\lv=U z (Z a) G/\JR (gk=s.size)/\JR (Z a+s.size<=C.size)/\JR (s.size<n)/\JR (EG n (a.map BM.f) s=F)/\JR (Mi wr N 43 2 (U z (Z a) G) (Z a) (a.flatMap Bw))/\JR (∀r∈a,D0 wr r/\LY r.f)/\JR (Ac [] w wr))
 case atStart=>exact⟨C,C.size+1,[],Y,0,rfl,rfl,rfl,by show _<=_;simp,Nat.lt_succ_self _,HF,mf _ _ _ _,(λr u=>by simp at u),SF _ _⟩
 case round=>
  clear HF;obtain⟨s,n,a,z,G,rfl,rfl,HG,Ax,B2,HR,HO,HE,HK⟩:=hrel;by_cases hz:s.size=0
  .have S:JR (F=V (a.map BM.f)):=by
    show _=_;rw[<-Aa HR];obtain⟨m,rfl⟩:∃m,n=m+1:=⟨n-1,by have:=Aa B2;omega⟩;rw[EG,lS hz]
   clear HR B2 Ax HG;go_wp2;go_ret2;exact⟨z,G,a,by rw[Aa S];rfl,by rw[Aa S];rfl,⟨Al HO (lW _),HE⟩,HK⟩
  .obtain⟨m,hm⟩:∃m,n=m+1:=⟨n-1,by have:=Aa B2;omega⟩;subst hm;have S:JR (F=if dF s=s.size then Y else if(Hj (s.extract 0 (dF s))&&QM (a.map BM.f) (CP (s.extract 0 (dF s))))=Cm then EG m (a.map BM.f++[CP (s.extract 0 (dF s))]) (s.extract (dF s+1) s.size)else Y):=by
    show _=_;rw[<-Aa HR,EG,lO hz]
   have NL:=jw s;(have IS:JR (∀j (hj:j<s.size),j<dF s->s[j].toNat≠10):=λj hj h=>fS j hj h);(have HV:JR (∀(h:dF s<s.size),s[dF s].toNat=10):=λh=>fR h);obtain⟨I,hI⟩:=QP (dF s);(have SL:s.size<=1000000000000:=by have:=Aa Ax;omega);rw[hI]at S NL;(have H8:JR (∀j (hj:j<s.size),j<I->s[j].toNat≠10):=by rw[<-hI];exact IS);(have FP:JR (∀(h:I<s.size),s[I].toNat=10):=by intro h;subst hI;exact HV h);clear HR hI IS HV;(have SP:(0:Int)<(s.size:Int):=by omega);go_wp2_with fail
   go_loopg [5] I (λRI i wq=>∃(j:Nat),i=X J j/\j<=I/\RI=I-j/\wq=wr)
   case atStart=>exact⟨0,rfl,by omega,rfl,rfl⟩
   case round=>
    obtain⟨j,rfl,hj,FF,rfl⟩:=hrel;have KD:=Ab FF;clear FF;(have SJ:(0:Int)<=(j:Int):=by omega);by_cases H0:j<I
    ·(have Pl:(j:Int)<(s.size:Int):=by omega);have RV:=Aa H8 j (by omega) H0;(have HU:(((s[j]'(by omega)).toNat:Int) !=10)=Cm:=by simp only[bne_iff_ne,ne_eq];omega);go_wp2
     go_roundg (I-(j+1))
     case measure=>have:=Aa KD;omega
     case rel=>exact⟨j+1,by go_num,by omega,rfl,rfl⟩
    ·(obtain rfl:j=I:=by omega);clear KD H0 H8;by_cases K2:j=s.size
     ·(have Q:JR (F=Y):=by show _=_;rw[Aa S,lS K2]);(have TL:¬(j:Int)<(s.size:Int):=by omega);(have LE:((j:Int)==(s.size:Int))=Cm:=by simp only[nu];omega);clear S FP;go_wp2;go_ret2;exact HL _ Q HK
     ·(have Pl:(j:Int)<(s.size:Int):=by omega);(have MN:j<s.size:=by omega);have H9:s[j].toNat=10:=FP MN;(have HU:((s[j].toNat:Int) !=10)=K:=by rw[H9];rfl);(have LE:((j:Int)==(s.size:Int))=K:=by simp only[mq,ne_eq];omega);have Q:JR (F=if(Hj (s.extract 0 j)&&QM (a.map BM.f) (CP (s.extract 0 j)))=Cm then EG m (a.map BM.f++[CP (s.extract 0 j)]) (s.extract (j+1) s.size)else Y):=by
       show _=_;rw[Aa S,lO K2]
      clear S FP;obtain⟨x,hx⟩:=QP (s.extract 0 j);rw[hx]at Q;(have TH:x.size<=1000000000000:=by rw[<-hx,mP];omega);(have KS:JR (∀d,Calls prog 26 #[O x] d λe w'=>Vv x d e w'):=λd=>Vl x d (by omega));have HX:=Ab hx;clear hx;(go_wp2_with fail);rw[Aa HX];refine(KS _).mono ?_;rintro _ T ⟨⟨⟨y,o⟩,qv⟩,rfl,JJ,HP,_,k3⟩;obtain⟨E,D,e⟩:=Ak HP;simp only at e;subst e;simp only[Bw];have HQ:JR ((⟨y,o⟩:Af)=CP x):=JJ;have H2:=Ab HP;have HJ:=Ab (HK.trans k3);have K8:=Ab (Ad HO k3);(have HC:JR (∀r∈a,D0 T r/\LY r.f):=λr u=>⟨(HE r u).1.kept k3,(HE r u).2⟩);have LM:=k3.size;clear JJ HP k3 HO HE HK KS HU LE H9;have AR:=Ab (Tc T [O y,U E (Z o) D] 43);have AT:JR (Ac [] T (T.alloc (Dj [O y,U E (Z o) D].toArray 43))):=(SF [] T).alloc _;(go_wp2_with fail);generalize T.alloc (Dj [O y,U E (Z o) D].toArray 43)=w4 at AR AT⊢;obtain⟨B,hB⟩:=QP T.heap.size;rw[hB]at AR⊢;(have TS:N<=B:=by have:=HJ.size;have:=Aa HN;omega);clear hB LM;have FC:=Ab (HJ.trans AT);have ES:=Ab (Ad K8 AT);(have E0:JR (∀r∈a,D0 w4 r/\LY r.f):=λr u=>⟨(HC r u).1.kept AT,(HC r u).2⟩);have HT:=Ab (H2.kept AT);clear HJ K8 HC H2 AT;cases ho:Hj x with
      |false=>
       have H:JR (F=Y):=by
        show _=_;rw[Aa Q,ho];rfl
       clear Q
       go_quiet (fail)
       rename_i nq;have AB:=Ab (FC.drewN nq);go_wp2;go_ret2;exact HL _ H AB
      |true=>
       have HY:=Ab (fd ho);have OB:a=[]\/a≠[]:=Classical.em _;rcases OB with A|A
       case' inl=>
        have H:JR (F=EG m (a.map BM.f++[CP x]) (s.extract (j+1) s.size)):=by
         show _=_;rw[Aa Q,ho,A];rfl
        (have MY:¬(0:Int)<(Z a:Int):=by rw[A];simp);(have BS:¬0<Z a:=by rw[A];simp);(have FF:decide ((0:Int)<(Z a:Int))=K:=by rw[A];rfl);(have M6:decide (0<Z a)=K:=by rw[A];rfl);clear Q A
        go_quiet (fail)
        clear MY BS FF M6;rename_i nq;have P:=(SF [] w4).drewN nq;generalize w4.drewN nq=R at P⊢
       case' inr=>
        have LS:0<Z a:=List.length_pos_iff.2 A;obtain⟨M,hM⟩:∃M,Z a=M+1:=⟨Z a-1,by omega⟩;obtain⟨g,TK,he,_,Ha⟩:=AC (f:=Bw) (l:=a) (Aa ES) (λc _=>rfl) M (by omega);have d0:=Ha M (by omega) 0 (by omega);have d1:=Ha M (by omega) 1 (by omega);have H3:a[M]'(by omega)=a.getLast A:=by
         rw[List.getLast_eq_getElem]
         congr 1
         omega
        obtain⟨DT,Go⟩:=E0 _ (List.getLast_mem A);have HI:QM (a.map BM.f) (CP x)=CS (a.getLast A).f (CP x):=by
         rw[bq,List.getLast?_eq_some_getLast A]
        rw[H3]at d0 d1;obtain⟨r,u⟩:=QP (a.getLast A);rw[u]at d0 d1 DT Go HI;clear H3 u Ha;obtain⟨⟨fn,fa⟩,fv⟩:=r;obtain⟨FB,FA,Jx⟩:=Ak DT;simp only at Jx;subst Jx;simp only[lB]at he;obtain⟨rfl,_,rfl⟩:=he;simp[Bw]at d0 d1;obtain⟨BA,HB⟩:=QP (CS (⟨fn,fa⟩:Af) (CP x));(have IA:CS (⟨fn,fa⟩:Af) (⟨y,o⟩:Af)=BA:=by rw[<-HB,<-Aa HQ]);(have H5:LY (⟨y,o⟩:Af):=by rw[Aa HQ];exact HY);(have K7:JR (∀d,Ac [] w4 d->Calls prog 46 #[Ms #[O fn,U FB (Z fa) FA],Ms #[O y,U E (Z o) D]] d λe w'=>e=G3 (No BA)/\Ac [] d w'):=λd W=>(Td ⟨⟨fn,fa⟩,U FB (Z fa) FA⟩ ⟨⟨y,o⟩,U E (Z o) D⟩ d (D0.kept DT W) (D0.kept HT W) Go H5).mono λe w' h=>⟨h.1.trans (congrArg (λb=>G3 (No b)) IA),h.2⟩);(have K4:JR (∀d,Ac [] w4 d->Lc d ⟨g,M*2,Y⟩=V (O fn)/\Lc d ⟨g,M*2+1,Y⟩=V (U FB (Z fa) FA)/\Lc d ⟨B,0,Y⟩=V (O y)/\Lc d ⟨B,1,Y⟩=V (U E (Z o) D)):=λd W=>⟨W.cellAt d0,W.cellAt d1,W.cellAt (by have:=AR.cell 0;simpa using this),W.cellAt (by have:=AR.cell 1;simpa using this)⟩);have H:JR (F=if BA=Cm then EG m (a.map BM.f++[CP x]) (s.extract (j+1) s.size)else Y):=by
         show _=_;rw[Aa Q,ho,HI,HB];simp
        clear Q HB HI DT Go d0 d1 IA H5;(have OH:(0:Int)<(Z a:Int):=by omega);(have L0:(Z a:Int)-1=(M:Int):=by omega);(have M2:(M:Int)<(Z a:Int):=by omega);(have Nq:(0:Int)<=(M:Int):=by omega);(have M0:IntKind.i64.wrap (M:Int)=(M:Int):=by rw[nU];have:=Aa Ax;omega);(have NX:M<Z a:=by omega);(have Op:(0:Int)<=(Z a:Int)-1:=by omega);(have Mo:(Z a:Int)-1<(Z a:Int):=by omega);(have Nx:((Z a:Int)-1).toNat=M:=by omega);(have QQ:Z a-1=M:=by omega);(have RE:1<=Z a:=by omega);(have NN:IntKind.i64.wrap ((Z a:Int)-1)=(M:Int):=by rw[nU];have:=Aa Ax;omega);clear hM A
        go_region_held3 (λd=>Ac [] w4 d/\Lc d ⟨g,M*2,Y⟩=V (O fn)/\Lc d ⟨g,M*2+1,Y⟩=V (U FB (Z fa) FA)/\Lc d ⟨B,0,Y⟩=V (O y)/\Lc d ⟨B,1,Y⟩=V (U E (Z o) D)) ((go_split_ands;refine(fun(K9:Ac [] w4 _)=>And.intro K9 (K4 _ K9)) ?_;repeat (first|assumption|exact SF [] _|refine Ac.drew ?_|refine Ac.alloc ?_ _))) ((go_at_call 46;refine(K7 _ (by go_split_ands;assumption)).mono ?_;rintro _ R ⟨rfl,k5⟩;have P:Ac [] w4 R:=(by go_split_ands;exact Ac.trans (by assumption) k5);clear k5))
        rename_i NY;clear NY K7 K4 OH L0 M2 Nq NN M0 NX Op Mo Nx QQ RE LS;obtain⟨z,H4⟩:∃z:Option Addr,z=V ⟨g,0,Y⟩:=⟨_,rfl⟩;rw[<-H4]at ES⊢;clear H4;cases BA
        case' false=>
         have K5:JR (F=Y):=H;have AB:=Ab (FC.trans P);clear H;go_wp2;go_ret2;exact HL _ K5 AB
        have K5:JR (F=EG m (a.map BM.f++[CP x]) (s.extract (j+1) s.size)):=H;clear H
        rename JR (F=EG m (a.map BM.f++[CP x]) (s.extract (j+1) s.size))=>H
       all_goals
        have AB:=Ab (FC.trans P);have CL:=Ab (Ad ES P);(have HD:JR (∀r∈a,D0 R r/\LY r.f):=λr u=>⟨(E0 r u).1.kept P,(E0 r u).2⟩);have IJ:JR (D0 R ⟨⟨y,o⟩,U E (Z o) D⟩):=D0.kept HT P;have HM:=AR.kept P;have b0:=HM.cell 0;have b1:=HM.cell 1;simp at b0 b1;(have ST:N<=R.heap.size:=by have:=AB.size;have:=Aa HN;omega);clear FC ES E0 HT AR P HM;go_wp2_with (at_builtin;change JR (wpList _ _ _ _ _ _))
        show wpList _ _ _ _ _ _;(have NA:Z a<=1000000000000:=by have:=Aa Ax;omega);refine me _ rfl (.tmp 52) (.tmp 54) _ rfl N 43 i0 _ 2 40 (by kernel_rfl) Os M3 QR N0 rfl (by omega) (U z (Z a) G) (Z a) (a.flatMap Bw) rfl (lM CL _) ⟨R.heap.size,0,Y⟩ 1 1 [O y,U E (Z o) D] rfl rfl (mg (mo R _)) (by simp[Value.oneCell']) (by omega) (by unfold maxLen;omega) (by omega) (by simp;omega) (R.heap.size+1) (by simp) ?_;intro g1 Ix w6 K1 BS LL M1;have HW:Ac [] w w6:=(AB.alloc (Dj #[O y,U E (Z o) D] 43)).grown BS (λq hq=>Hf (by have h1:=(CL.lt q hq).1;have:=Aa HN;omega));have FW:∀{b e sz n:Nat} {v:Value} {ys:QC Value},Mi R b e sz v n ys->e≠43->Mi w6 b e sz v n ys:=fun{b e sz n v ys} u h1=>m0 (v:=v) (lM (v:=v) u _) BS (by
         cases hpo:v.ownBlock with
         |none=>exact Or.inl rfl
         |some q=>exact Hf (λe=>Bg u CL h1 q hpo e.symm))
        obtain⟨L,B0⟩:∃L:QC BM,L=a++[⟨⟨y,o⟩,U E (Z o) D⟩]:=⟨_,rfl⟩;(have EY:Z a+1=Z L:=by rw[B0];simp);have N2:JR (Mi w6 N 43 2 (U (V ⟨g1,0,Y⟩) (Z L) Ix) (Z L) (L.flatMap Bw)):=by
         rw[<-EY,B0,mm];exact K1
        have N4:JR (∀r∈L,D0 w6 r/\LY r.f):=λr u=>by
         rw[B0]at u;rcases lV.1 u with h|h
         .exact⟨FW (v:=r.av) (HD r h).1 (by decide),(HD r h).2⟩
         .simp only[lG]at h;subst h;exact⟨FW IJ (by decide),by show LY (⟨y,o⟩:Af);rw[Aa HQ];exact HY⟩
        have P0:=Ab HW;rw[EY];have MB:JR (EG m (L.map BM.f) (s.extract (j+1) s.size)=F):=by
         show _=_;rw[Aa H,B0,mx,<-Aa HQ];rfl
        have Nd:JR (Z L+(s.extract (j+1) s.size).size<=C.size):=by
         have:=Aa Ax;show _<=_;rw[<-EY,mP];omega
        have RO:JR ((s.extract (j+1) s.size).size<m):=by
         have:=Aa B2;show _<_;rw[mP];omega
        clear FW K1 BS LL M1 HW CL HD IJ AB b0 b1 EY B0 NA HQ H Ax B2;(have SK:(j:Int)+1<=(s.size:Int):=by omega);(have TV:(0:Int)<=(j:Int)+1:=by omega);go_wp2
        go_roundg (s.size-(j+1))
        case measure=>have:=Aa HG;omega
        case rel=>exact⟨s.extract (j+1) s.size,m,L,V ⟨g1,0,Y⟩,Ix,rfl,rfl,by show _=_;rw[mP];omega,Nd,RO,MB,N2,N4,P0⟩
theorem fq(F:Option Addr)(M:Nat)(a:QC BM)(x:BM)(w:Hq)(h:D2 w (U F (Z a) M) a)(z:D0 w x)(BA:Z a<=1000000)(W:Z x.f.args<=1000):
  Calls prog 21 #[U F (Z a) M,Ms (D6 (Bw x))] w λe t=>e=G3 (No (a.any λp=>Em p.f x.f))/\Ac [] w t:=by
 have S:JR (∀(p:BM) wr,p∈a->Ac [] w wr->Calls prog 49 #[Ms (D6 (Bw p)),Ms (D6 (Bw x))] wr λe t=>e=G3 (No (Em p.f x.f))/\Ac [] wr t):=λp wr H u=>T3 p x wr ((h.each p H).1.kept u) (z.kept u) (by have:=(h.each p H).2.len;omega) (by omega)
 have HS:=Ab h;obtain⟨⟨c,b⟩,xv⟩:=x;obtain⟨m,l,I⟩:=Ak z;simp only at I;subst I;obtain⟨R,A⟩:=QP (a.any λp=>Em p.f ⟨c,b⟩);rw[show(a.any λp=>Em p.f (⟨⟨c,b⟩,U m (Z b) l⟩:BM).f)=R from A]
 have P:=Ab A;have d:=Ab (Tc w [O c,U m (Z b) l] 43);have j:=Ab ((SF [] w).alloc (Dj [O c,U m (Z b) l].toArray 43));clear h z W A;simp only[Bw]at S⊢;go_enter func21,ntmps21;go_wp2;change Code.wp _ _ _ _ (w.alloc (Dj [O c,U m (Z b) l].toArray 43));generalize w.alloc (Dj [O c,U m (Z b) l].toArray 43)=w1 at d j⊢;generalize w.heap.size=N at d⊢
 go_loopg [5,6] (Z a) (λgk i q wr=>∃(k:Nat),i=X J k/\k<=Z a/\gk=Z a-k/\JR ((a.take k).any (λp=>Em p.f ⟨c,b⟩)=K)/\JR (Ac [] w wr)/\JR (AI wr N [O c,U m (Z b) l] 43))
 case atStart=>exact⟨0,rfl,by omega,rfl,by show _=_;simp,j,d⟩
 case round=>
  clear d j;obtain⟨k,rfl,u,E,G,j,d⟩:=hrel;have HG:=Ab E;clear E;by_cases r:k<Z a
  .obtain⟨g,Bx,n,B,ad,cp,Q,s,d0,d1⟩:=C6 (HS.kept j) k r;simp only[lB]at Q;obtain⟨rfl,_,rfl⟩:=Q;have c0:=d.cell 0;have c1:=d.cell 1;simp at c0 c1;have o:=Ab (S a[k] wr.drew (lE r) j.drew);have L:JR (Em ⟨n,B⟩ ⟨c,b⟩=Cm->R=Cm):=by
    intro y;rw[<-Aa P];exact Jb _ _ k r (by rw[s];exact y)
   have D:JR (Em ⟨n,B⟩ ⟨c,b⟩=K->(a.take (k+1)).any (λp=>Em p.f ⟨c,b⟩)=K):=by
    intro y;rw[C0 _ _ k r (Aa G),s];exact y
   rw[s]at o;simp only at o;generalize Em ⟨n,B⟩ ⟨c,b⟩=SB at o L D;clear s;go_wp2_with fail
   go_region_law (go_simp;go_at_call 49;refine o.mono ?_;rintro e w3 ⟨rfl,v⟩;have T:=Ab (j.drew.trans v);have AH:=Ab (d.drew.kept v);clear v)
   all_goals
    clear o;cases SB with
    |true=>
     have C:=Ab (L rfl);go_wp2;go_ret;rw[Aa C];exact⟨rfl,T⟩
    |false=>
     have C:=Ab (D rfl);go_wp2
     go_roundg (Z a-(k+1))
     case measure=>have:=Aa HG;omega
     case rel=>exact⟨k+1,by go_num,by omega,rfl,C,T,AH⟩
  .have HE:JR (R=K):=by
    have h:=Aa G;rw[lH (by omega)]at h;show _=_;rw[<-Aa P];exact h
   go_wp2;go_ret;rw[HE.out];exact⟨rfl,j⟩
def gh{a:QC A7}{b:bC->Nat}(c:Nz a b){n:Nat}:∀(k:Nat) (s:QC Af),Z (Ts a)-Z s<=k->GN a b n s->∃g,GN a b (n+1) g
 |0,s,hk,h=>by
  obtain⟨f,d,e,i⟩:=Hy c h;cases hb:(Dz a b n s).2 with
  |false=>exact⟨s,(d hb).2⟩
  |true=>have:=e hb;omega
 |k+1,s,hk,h=>by
  obtain⟨f,d,e,i⟩:=Hy c h;cases hb:(Dz a b n s).2 with
  |false=>exact⟨s,(d hb).2⟩
  |true=>exact gh c k _ (by have:=e hb;omega) f
def fZ{b:QC A7}{a:bC->Nat}(c:Nz b a):∀n,∃s,GN b a n s
 |0=>⟨[],GN.start b a⟩
 |n+1=>by
  obtain⟨s,h⟩:=fZ c n;exact gh c _ s (lX _) h
def YB(h:Je s t 0)(a:Cp c)(i:(An s (Ae s 0)).2.2=K)(j:c.map A7.erase=(An s (Ae s 0)).1):
  ∃u,EG (t.size+1) [] t=V u/\GN c (Cf c 6) 7 u/\(∀f∈u,Il f/\Z f.args<=2)/\Z u<=6912/\t.size<=1000000000000:=by
 obtain⟨L,N,u,m,d,p,o,g,n⟩:=Tp h a i j;obtain⟨v,b⟩:=fZ a.prog 7;have e:=a.one b m d p;subst e;obtain⟨x,w,q,y,k⟩:=V1 h a i j;have l:t.toList=IZ v:=by
  rw[o,O8];have:ByteArray.empty.toList=[]:=by rw[ma];rfl
  rw[this,mR]
 refine⟨v,?_,b,g,n,k⟩;rw[KY v [] _ _ l (Nat.lt_succ_self _) g (λf r=>rfl) d.cE];rfl
