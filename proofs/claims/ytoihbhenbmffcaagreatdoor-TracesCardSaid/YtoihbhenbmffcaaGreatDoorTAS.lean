import Derived.Test.YtoihbhenbmffcaaGreatDoorTAR
import Derived.Test.YtoihbhenbmffcaaGreatDoorTAM
set_option linter.all false
set_option maxHeartbeats 0
open List renaming length->Z,toArray->j2
open Option renaming none->Y,some->V
open Go.Value renaming slice->U,int->X,string->O,pointer->j3,agg->oj
open Bool renaming false->K,true->jj
open Go.IntKind renaming i64->J
open Go.Obj renaming cells->j1
open Go.Ending renaming returned->kt
open Or renaming inl->lo,inr->lx
open Go renaming World->ly,Value->ml
open Go.RowKit renaming Hid->nc
open Go.World renaming cell?->oa,ownsRow->oi
open ByteArray renaming empty->q9
open Prod renaming fst->qW
open Go.Act renaming put->qY
namespace Go.Proofs.YtoihbhenbmffcaaGreatDoor
open Go.RowKit Go.Proofs.Tryz
variable{m k b n i:Nat}{v w u:ly}{M:rc Nat}{z:ml}{s t:zA}{e:rc zA}{f:rc Af}{B:Bool}{g:UInt8}{I:Int}{y:rc ml}
def di{c:rc Eb}(o:c.Pairwise λa b=>CX a.f b.f<0)(n:zA)(l:E8 c ⟨n,[]⟩ m):(c.drop m).takeWhile (QM n)=c.filter (QM n):=by
 have r:∀q∈c.drop m,¬Eg q.f.name n<0:=by
  intro q g;obtain⟨i,j,rfl⟩:=nw g;rw[nF]at j;rw[qm,<-OE];exact l.zj (m+i) (by omega) (by omega)
 have s:(c.drop m).takeWhile (QM n)=(c.drop m).filter (QM n):=by
  refine Kn _ (oY (fun{a b} ha hb hab hbn=>?_) (o.drop (i:=m)));have e:b.f.name=n:=toList_inj (by simpa[QM] using hbn);have t:¬Eg a.f.name n<0:=r a ha;have h:Eg a.f.name b.f.name<=0:=by
   unfold CX at hab;split at hab<;>omega
  rw[e]at h;have d:Eg a.f.name n=0:=by omega
  unfold QM;rw[(BE _ _).1 d];simp
 have h:(c.take m).filter (QM n)=[]:=by
  refine qh.2 (λq g k=>?_);obtain⟨i,j,rfl⟩:=nw g;rw[nu]at j;rw[pP]at k;have d:=(OE _ _).1 (l.below i (by omega) (by omega));have e:c[i].f.name=n:=toList_inj (by simpa[QM] using k);rw[e]at d;have:Eg n n=0:=(BE n n).2 rfl;omega
 have d:c.filter (QM n)=(c.drop m).filter (QM n):=by
  conv=>lhs;rw[<-nO m c,oW,h,nM]
 rw[s,<-d]
def iZ{α:Type}{q:α->Bool}{l:rc α}(a:k<Z l)(h:q l[k]=jj):(l.drop k).takeWhile q=l[k]::(l.drop (k+1)).takeWhile q:=by
 rw[mQ a,List.takeWhile_cons,h,mK rfl]
def j4{α:Type}{q:α->Bool}{l:rc α}(a:k<Z l)(h:q l[k]=K):(l.drop k).takeWhile q=[]:=by
 rw[mQ a,List.takeWhile_cons,h,mJ (by simp)]
structure VV(w0:ly)(b2:Nat)(n:zA)(M:rc Nat)(w:ly):Prop where
 kept:Ac [] w0 w
 name:oa w ⟨b2,0,Y⟩=V (O n)
 apart:∀k∈M,w0.heap.size<=k/\k≠b2/\k<w.heap.size
def VV.grow{n:zA}(h:VV v m n M w)(k:Ac [] w u):VV v m n M u:=
 ⟨h.kept.trans k,k.cellAt h.name,λi a=>⟨(h.apart i a).1,(h.apart i a).2.1,oz (h.apart i a).2.2 k.size⟩⟩
def Jl(k:Ac M w u)(h:oa w ⟨b,n,Y⟩=V z)(a:b∉M):oa u ⟨b,n,Y⟩=V z:=by
 have e:=k.block b (Ln h) a;simp only[World.cell?,e]at h⊢;exact h
def VV.round{M d:rc Nat}(h:VV v m s M w)(k:Ac M w u)(c:∀i∈d,(i∈M\/w.heap.size<=i)/\i<u.heap.size):VV v m s d u:=by
 have g:=Ln h.name;have f:=h.kept.size;refine⟨h.kept.trans' k (λi b=>lx (h.apart i b).1),Jl k h.name (λe=>(h.apart _ e).2.1 rfl),λi b=>⟨?_,?_,(c i b).2⟩⟩
 .rcases(c i b).1 with a|a
  .exact(h.apart i a).1
  .omega
 .rcases(c i b).1 with a|a
  .exact(h.apart i a).2.1
  .omega
set_option maxRecDepth 100000
theorem ix(b1 H S P:Nat)(D:Option Addr)(o:Nat)(d:rc Eb)(n:zA)(w0 w:ly)(G:rc Nat)(x:oa w ⟨b1,0,Y⟩=V (j3 (V ⟨S,P,Y⟩)))
  (hO:VV w0 H n G w) (hs:oa w0 ⟨S,P,Y⟩=V (U D (Z d) o)) (hP:Io w0 (U D (Z d) o) d) (M1:Z d<=900000) (HH:d.Pairwise λa b=>CX a.f b.f<0)
  (H4:∀i j (hi:i<Z d) (hj:j<Z d),i<=j->CX d[j].f ⟨n,[]⟩<0->CX d[i].f ⟨n,[]⟩<0):
  Lq prog 235 #[j3 (V ⟨b1,0,Y⟩),j3 (V ⟨H,0,Y⟩)] (λq:Eb=>#[oj (j2 (AM q))]) (d.filter (QM n)) G w:=by
 intro l BA Jx W FF _ _ hJ NM hR HD;have AO:=hO.grow FF;have c1:=FF.cellAt x;have cs:=AO.kept.cellAt hs;have c2:=AO.name;have FO:nc (∀wr,Ac [] W wr->Calls prog 103 #[U D (Z d) o,oj #[O n,U Y 0 0],.func (.func 104) #[] #[]] wr λe w'=>∃p:Nat,e=kt (.tuple #[X J p,.bool (De d ⟨n,[]⟩ p)])/\E8 d ⟨n,[]⟩ p/\Ac [] wr w'):=λwr z=>Jc D o d ⟨⟨n,[]⟩,U Y 0 0⟩ wr (hP.kept (AO.kept.trans z)) (mS _ _ _ _) (by simp) (by omega) H4
 have HO:=Ab AO;have HP:=Ab hP;have HJ:=Ab hJ;have HR:=Ab hR;have FW:=Ab HD;have HF:nc (∀p,E8 d ⟨n,[]⟩ p->d.filter (QM n)=(d.drop p).take 0++((d.drop p).drop 0).takeWhile (QM n)):=λp hc=>by rw[pN,nM,pF,di HH n hc]
 obtain⟨A,HQ⟩:=rd (d.filter (QM n));rw[HQ]at HF HR⊢;have EY:nc (∀u,Ac [] W u->oa u ⟨b1,0,Y⟩=V (j3 (V ⟨S,P,Y⟩))/\oa u ⟨S,P,Y⟩=V (U D (Z d) o)/\oa u ⟨H,0,Y⟩=V (O n)):=λu z=>⟨z.cellAt c1,z.cellAt cs,z.cellAt c2⟩
 clear HQ hO AO hs hP HH H4 hJ hR HD FF x;show Calls prog 235 #[.func (.yield l) #[] #[],j3 (V ⟨b1,0,Y⟩),j3 (V ⟨H,0,Y⟩)] W _;go_enter func235,ntmps235;go_wp2_with fail
 go_region_held3 (λu=>Ac [] W u/\oa u ⟨b1,0,Y⟩=V (j3 (V ⟨S,P,Y⟩))/\oa u ⟨S,P,Y⟩=V (U D (Z d) o)/\oa u ⟨H,0,Y⟩=V (O n)) ((go_split_ands;refine(fun(H9:Ac [] W _)=>And.intro H9 (EY _ H9)) ?_;repeat (first|assumption|exact re [] _|refine Ac.drew ?_|refine Ac.alloc ?_ _))) ((go_at_call 103;refine(FO _ (by go_split_ands;assumption)).mono ?_;rintro e w3 ⟨p,rfl,hcut,k3⟩;have FA:=Ab hcut;have H2:Ac [] W w3:=(by go_split_ands;exact Ac.trans (by assumption) k3);have BS:=Ab H2;clear hcut k3 H2))
 clear c1 cs c2 FO;have H7:=Ab (HO.grow BS);have BT:nc (BA [] G w3):=BD HJ (s:=([],G)) FW BS;obtain⟨d1,d2,d3⟩:=EY w3 BS;have LB:=FA.le;have NN:(0:Int)<=(p:Int):=by omega
 have LS:(p:Int)<=(Z d:Int):=by omega
 have DT:=Ab (HF p FA);have H3:=BS.size;clear EY HO FW HF FA;have FT:(D=Y/\o=0/\Z d=0)\/∃g,D=V ⟨g,0,Y⟩/\Z d<=o:=by
  rcases HP.row.2 with⟨x,h2⟩|⟨g,c,M3,x,_,_,h3,_⟩
  .simp only[mu]at x;exact lo ⟨x.1,x.2.2,h2⟩
  .simp only[mu]at x;exact lx ⟨g,x.1,by omega⟩
 by_cases E0:p=Z d
 .have E:nc (A=[]):=by
   show _=_;rw[Aa DT,E0];simp
  have K3:Z d-p=0:=by omega
  rcases FT with⟨rfl,rfl,hz⟩|⟨g,rfl,JA⟩
  .rw[hz]at K3 LS d2 LB;go_wp2_with fail
   go_loopg [25] 0 (λgk i wr=>i=X J 0/\wr=w3)
   case atStart=>exact⟨rfl,rfl⟩
   case round=>
    obtain⟨rfl,rfl⟩:=hrel;go_wp2;go_end0;exact⟨⟨_,rfl⟩,lo ⟨G,by rw[Aa E];exact BT⟩⟩
  ·(have MB:(Z d:Int)<=(o:Int):=by omega);(have K7:(p:Int)<=(o:Int):=by omega);clear E0;(go_wp2_with fail);all_goals
    go_loopg [25] 0 (λgk i wr=>i=X J 0/\wr=w3)
    case atStart=>exact⟨rfl,rfl⟩
    case round=>
     obtain⟨rfl,rfl⟩:=hrel;go_wp2;go_end0;exact⟨⟨_,rfl⟩,lo ⟨G,by rw[Aa E];exact BT⟩⟩
 .rcases FT with⟨rfl,rfl,hz⟩|⟨g,rfl,JA⟩
  .omega
  have MB:(Z d:Int)<=(o:Int):=by omega
  have K7:(p:Int)<=(o:Int):=by omega
  have NA:¬o=p:=by omega
  obtain⟨L,hL⟩:=rd (Z d-p);have HL:=Ab hL;have K4:nc (∀k,k<L->∃(z:p+k<Z d),(d.drop p)[k]?=V d[p+k]):=by
   intro k z;(have h:p+k<Z d:=by omega);exact⟨h,by rw[pY,mG h]⟩
  go_wp2_with fail
  clear hL E0
  go_loopg [7,25] L (λgk bx i wr=>∃(k:Nat) (M:rc Nat),i=X J k/\k<=L/\gk=L-k/\nc (A=(d.drop p).take k++((d.drop p).drop k).takeWhile (QM n))/\nc (VV w0 H n M wr)/\nc (BA ((d.drop p).take k) M wr)/\nc (W.heap.size<=wr.heap.size))
  case atStart=>exact⟨0,G,rfl,by omega,rfl,DT,H7,BT,H3⟩
  case round=>
   clear DT H7 BT H3;obtain⟨k,M,rfl,z,H6,E,A0,CW,HB⟩:=hrel;have HG:=Ab H6;clear H6;by_cases KS:k<L
   .obtain⟨Mo,KD⟩:=K4 k KS;obtain⟨g',Nq,y,r,C,B,Ha,hf,e0,e1⟩:=J5 (HP.kept A0.kept) (p+k) Mo;simp only[mu,mB,nr]at Ha;obtain⟨⟨IS,-,-⟩,-,-⟩:=Ha;subst IS;rw[show(p+k)*2=p*2+k*2 by omega]at e0 e1;(have EK:k<Z (d.drop p):=by rw[nF];omega);(have T:(d.drop p)[k]=⟨⟨y,r⟩,U C (Z r) B⟩:=by rw[qm,hf]);(have NB:(0:Int)<=(k:Int):=by omega);(have JJ:(k:Int)<(L:Int):=by omega);have c2:=A0.name;have Q:=Ab (rf wr [O y,U C (Z r) B] 104);have R:=Ab ((re [] wr).alloc (j1 [O y,U C (Z r) B].toArray 104));have B0:=R.cellAt c2;refine ra (λI m=>?_);go_wp2;refine m _ _ ?_;clear m I;refine ra (λI m=>?_);go_wp2;refine m _ _ ?_;clear m I;refine ra (λK5 H1=>?_);refine wp_block ?_;refine ra (λI m=>?_);go_wp2;refine m _ _ ?_;clear m I;change Code.wp _ _ _ _ (wr.alloc (j1 [O y,U C (Z r) B].toArray 104));generalize hw2:wr.alloc (j1 [O y,U C (Z r) B].toArray 104)=w2 at Q R B0⊢;have Ix:=Q.lt;generalize wr.heap.size=N at Q Ix⊢;have CL:nc (VV w0 H n M w2):=A0.grow R;have Bx:nc (BA ((d.drop p).take k) M w2):=BD HJ (s:=((d.drop p).take k,M)) CW R;have B2:nc (W.heap.size<=w2.heap.size):=nD HB R.size;have x0:=Q.cell 0;have x1:=Q.cell 1;simp at x0 x1;clear hw2 e0 e1 c2 A0 CW HB KD R Q Ix;cases hnn:(y.toList==n.toList)with
    |false=>
     have F:nc (A=(d.drop p).take k):=by
      show _=_;rw[Aa E,j4 EK (by rw[T];exact hnn),np]
     clear T;go_wp2;refine m5 (qe rfl _ _ _) rfl ?_;exact⟨⟨_,rfl⟩,lo ⟨M,by rw[Aa F];exact Bx⟩⟩
    |true=>
     have F:nc (A=(d.drop p).take k++⟨⟨y,r⟩,U C (Z r) B⟩::((d.drop p).drop (k+1)).takeWhile (QM n)):=by
      show _=_;rw[Aa E,iZ EK (by rw[T];exact hnn),T]
     have A2:nc ((d.drop p).take k++[⟨⟨y,r⟩,U C (Z r) B⟩]=(d.drop p).take (k+1)):=by
      show _=_;rw[<-T,mx EK]
     have HY:=Ab (HR _ _ _ M w2 F Bx);clear T;refine ra (λI m=>?_);refine GJ (n:=0) 7 (by rintro ⟨_,_,h⟩;obtain⟨⟨v,e⟩,_⟩:=h;cases e) (λK2 H0=>?_);simp only[pk,pN];go_wp2;refine H0 _ _ ?_;clear H0 K2;simp only[pC,pF];refine IP (λ_=>trivial) rfl rfl (l:=l) (args:=#[oj #[O y,U C (Z r) B]]) (by rfl) (by first|(simp[go_sem,Oper.semAt];done)|(simp[go_sem,Oper.semAt,execOp,resolve,invoke];done)) HY ?_;rintro e w4 (⟨rfl,M',AR,FB,FP⟩|⟨rfl,M',AR,-⟩)
     .refine⟨_,rfl,Dj (by rintro ⟨_,_,h⟩;obtain⟨⟨v,e⟩,_⟩:=h;cases e) ?_⟩;simp only[qY,mq,mr,mt];have K8:=Ab (CL.round FB FP);(have FC:nc (BA ((d.drop p).take (k+1)) M' w4):=by rw[<-Aa A2];exact AR);have KA:nc (W.heap.size<=w4.heap.size):=nD B2 FB.size;have LM:nc (A=(d.drop p).take (k+1)++((d.drop p).drop (k+1)).takeWhile (QM n)):=by
       show _=_;rw[Aa F,<-Aa A2,nA];rfl
      clear AR FB FP x0 x1 B0 HY CL Bx B2 E F A2;go_wp2;refine m _ _ ?_;clear m;go_wp2;refine H1 _ _ ?_;clear H1;go_wp2
      go_roundg (L-(k+1))
      case measure=>have:=Aa HG;omega
      case rel=>exact⟨k+1,M',by go_num,by omega,rfl,LM,K8,FC,KA⟩
     .refine⟨_,rfl,Dj (by rintro ⟨_,_,h⟩;obtain⟨⟨v,e⟩,_⟩:=h;cases e) ?_⟩;simp only[qY,mq,mr,mt];have FC:=Ab AR;clear AR x0 x1 B0 HY CL Bx B2 E F A2;go_wp2;refine m _ _ ?_;clear m;go_wp2;refine m5 (qe rfl _ _ _) rfl ?_;exact⟨⟨_,rfl⟩,lx ⟨_,M',FC⟩⟩
   .have F:nc (A=(d.drop p).take k):=by
     show _=_;(have hl:Z (d.drop p)<=k:=by rw[nF,Aa HL];omega);rw[Aa E,ni hl];simp
    (have JJ:¬(k:Int)<(L:Int):=by omega);go_wp2;go_end0;exact⟨⟨_,rfl⟩,lo ⟨M,by rw[Aa F];exact CW⟩⟩
theorem bY(b a:Nat)(n:zA)(w:ly):
  Calls prog 221 #[j3 (V ⟨b,a,Y⟩),O n] w λr d=>∃c e,r=kt (.func (.func 235) #[] #[j3 (V ⟨c,0,Y⟩),j3 (V ⟨e,0,Y⟩)])/\AI d c [j3 (V ⟨b,a,Y⟩)] 69/\AI d e [O n] 9/\w.heap.size<=c/\w.heap.size<=e/\Ac [] w d:=by
 go_enter func221,ntmps221;go_wp2;go_ret;refine⟨w.heap.size,w.heap.size+1,rfl,(rf w [j3 (V ⟨b,a,Y⟩)] 69).alloc _,?_,mP _,by omega,((re [] w).alloc _).alloc _⟩;have h:=rf (w.alloc (j1 #[j3 (V ⟨b,a,Y⟩)] 69)) [O n] 9;rw[m9]at h;exact h
def Zo(b:rc zA)(ts:rc AZ)(at_:Nat)(fs:rc Eb)(m:rc zA):Prop:=∀y,y∈m↔∃q∈fs,IV b ts q.f.zC=jj/\y=q.f.zC.getD at_ q9
structure aA(w:ly)(N:Nat)(ap:Int)(nm:zA)(tv:ml)(E:rc ml)(b:rc zA)(ts:rc AZ)(at_:Nat)(pre:rc Eb)(M:rc Nat)(W:ly):Prop where
 kept:Ac [] w W
 b5:AI W N [X J ap,O nm,tv] 187
 b6:AI W (N+1) [X J at_] 3
 b7:AI W (N+2) E 243
 out:∃(m:rc zA) (ad:Option Addr) (cp:Nat),AI W (N+3) [U ad (Z m) cp] 102/\oi W N 170 1 (U ad (Z m) cp) (Z m) (m.flatMap Ai)/\C6 Hx m/\Zo b ts at_ pre m/\Z m<=Z pre/\M=(N+3)::(U ad (Z m) cp).ownBlock.toList
def aA.own{N B:Nat}{ap:Int}{nm:zA}{tv:ml}{E:rc ml}{b:rc zA}{ts:rc AZ}{at_:Nat}(f:w.heap.size<=B):OwnFrom B (fun(s:rc Eb×rc Nat) W=>aA w N ap nm tv E b ts at_ s.1 s.2 W):=
 BF (λs W j M h k a=>by
  obtain⟨m,i,e,d,c,g⟩:=h.out
  exact⟨DS h.kept k a f,h.b5.kept k (C3 a h.b5),h.b6.kept k (C3 a h.b6),h.b7.kept k (C3 a h.b7),m,i,e,d.kept k (C3 a d),Ag c k (BZ a c),g⟩)
theorem Yt(sp kb ko:Nat)(bv ov:ml)(P0:Option Addr)(NL:Nat)(u:rc Eb)(ap:Int)(nm:zA)(A:Option Addr)(z:Nat)(ts:rc AZ)(at_:Nat)(b:rc zA)(w:ly)(hb:Z b=26)(hS:Qq w sp kb ko bv ov P0 NL u)
  (ht:oi w 0 215 2 (U A (Z ts) z) (Z ts) (ts.flatMap Ar)) (a9:Z ts<=1000) (hv:∀t∈ts,QG t) (SP:Z u<=900000) (MB:u.Pairwise λa b=>CX a.f b.f<0)
  (NY:∀i j (B:i<Z u) (hj:j<Z u),i<=j->CX u[j].f ⟨nm,[]⟩<0->CX u[i].f ⟨nm,[]⟩<0)
  (o:∀q∈u,QM nm q=jj->Z ts<=Z q.f.zC/\at_<Z q.f.zC):
  Calls prog 207 #[j3 (V ⟨sp,0,Y⟩),oj #[X J ap,O nm,U A (Z ts) z],X J at_,oj (j2 (Am b))] w λr G=>∃(ad:Option Addr) (cp:Nat) (m:rc zA),r=kt (U ad (Z m) cp)/\C6 Hx m/\Zo b ts at_ (u.filter (QM nm)) m/\Z m<=Z u/\oi G w.heap.size 170 1 (U ad (Z m) cp) (Z m) (m.flatMap Ai)/\Ac [] w G:=by
 have N2:nc (∀nb (p:Eb) g,p∈u->QM nm p=jj->Ac [] w g->AI g nb (Am b) 243->Calls prog 222 #[j3 (V ⟨nb,0,Y⟩),oj #[X J ap,O nm,U A (Z ts) z],oj (j2 (AM p))] g λr G=>r=kt (.bool (IV b ts p.f.zC))/\Ac [] g G):=λnb p g hp hn n hB=>fU nb 243 b ap nm A z ts p 0 g hb hB (Ad ht n) ((hS.facts.each p hp).1.kept n) (by omega) (o p hp hn).1 hv
 have XS:nc (∀S Q M0 g,oa g ⟨S,0,Y⟩=V (j3 (V ⟨kb,ko,Y⟩))->VV w Q nm M0 g->Lq prog 235 #[j3 (V ⟨S,0,Y⟩),j3 (V ⟨Q,0,Y⟩)] (λq:Eb=>#[oj (j2 (AM q))]) (u.filter (QM nm)) M0 g):=λS Q M0 g h1 hO=>ix S Q kb ko P0 NL u nm w g M0 h1 hO hS.set hS.facts SP MB NY
 have HH:=Ab hS;have HQ:=Ab o;have hc:=Bs b;have W2:Z (Am b)=26:=by unfold Am;simp[hb]
 obtain⟨E,hE⟩:=rd (Am b);rw[hE]at hc W2 N2⊢;clear hE hS MB NY o hv;have a6:=Ab ht;clear ht;obtain⟨N,hN⟩:=rd w.heap.size;have HN:=Ab hN;obtain⟨C,BT⟩:=rd ((((w.alloc (j1 #[X J ap,O nm,U A (Z ts) z] 187)).alloc (j1 #[X J at_] 3)).alloc (j1 (j2 E) 243)).alloc (j1 #[U Y 0 0] 102));have NM:=Ab BT;have R:Ac [] w C:=by rw[<-BT];exact((((re [] w).alloc _).alloc _).alloc _).alloc _
 have NE:AI C N [X J ap,O nm,U A (Z ts) z] 187:=by
  rw[<-BT,<-hN];exact(((rf w [X J ap,O nm,U A (Z ts) z] 187).alloc _).alloc _).alloc _
 have Nq:AI C (N+1) [X J at_] 3:=by
  rw[<-BT];have h:=((rf (w.alloc (j1 #[X J ap,O nm,U A (Z ts) z] 187)) [X J at_] 3).alloc (j1 (j2 E) 243)).alloc (j1 #[U Y 0 0] 102);rw[m9,hN]at h;exact h
 have Pl:AI C (N+2) E 243:=by
  rw[<-BT];have h:=(rf ((w.alloc (j1 #[X J ap,O nm,U A (Z ts) z] 187)).alloc (j1 #[X J at_] 3)) E 243).alloc (j1 #[U Y 0 0] 102);rw[m9,m9,hN]at h;exact h
 have K9:AI C (N+3) [U Y 0 0] 102:=by
  rw[<-BT];have h:=rf (((w.alloc (j1 #[X J ap,O nm,U A (Z ts) z] 187)).alloc (j1 #[X J at_] 3)).alloc (j1 (j2 E) 243)) [U Y 0 0] 102;rw[m9,m9,m9,hN]at h;exact h
 have H4:nc (aA w N ap nm (U A (Z ts) z) E b ts at_ [] [N+3] C):=⟨R,NE,Nq,Pl,[],Y,0,K9,mS _ _ _ _,λi j h=>absurd h (by simp),λy=>by simp,by simp,by simp[Value.ownBlock]⟩;have M1:=Ab K9.lt;clear BT R NE Nq Pl K9 hN;refine En func207 rfl ?_;simp only[ntmps207,nQ,mL,m8,Nat.reduceAdd,Nat.reduceSub,pd,pg,pD,pm,nM,ot];have K8:¬LetsOut (bodyPostM Fence.wide 0 prog Tryz.f207 λr G=>∃(ad:Option Addr) (cp:Nat) (m:rc zA),r=kt (U ad (Z m) cp)/\C6 Hx m/\Zo b ts at_ (u.filter (QM nm)) m/\Z m<=Z u/\oi G w.heap.size 170 1 (U ad (Z m) cp) (Z m) (m.flatMap Ai)/\Ac [] w G):=Px (λ_ ⟨_,_,_,h,_⟩=>by cases h);obtain⟨QQ,K7⟩:=rd (bodyPostM Fence.wide 0 prog Tryz.f207 λr G=>∃(ad:Option Addr) (cp:Nat) (m:rc zA),r=kt (U ad (Z m) cp)/\C6 Hx m/\Zo b ts at_ (u.filter (QM nm)) m/\Z m<=Z u/\oi G w.heap.size 170 1 (U ad (Z m) cp) (Z m) (m.flatMap Ai)/\Ac [] w G);have VL:=Ab K7;rw[K7]at K8⊢;have aT:=Ab K8;clear K7 K8;refine ra (λK1 AR=>?_);go_wp2;refine AR _ _ ?_;clear AR K1;refine ra (λK1 AR=>?_);go_wp2;refine AR _ _ ?_;clear AR K1;change Code.wp _ _ _ _ ((((w.alloc (j1 #[X J ap,O nm,U A (Z ts) z] 187)).alloc (j1 #[X J at_] 3)).alloc (j1 (j2 E) 243)).alloc (j1 #[U Y 0 0] 102));rw[Aa NM,Aa HN];clear NM;have KK:nc (∀g,Ac [] C g->oa g ⟨sp,0,Y⟩=V (j3 (V ⟨kb,ko,Y⟩))/\oa g ⟨N,1,Y⟩=V (O nm)):=λg n=>by
  have h1:=(HH.kept (H4.kept.trans n)).zO.cell 0;have h2:=(H4.b5.kept n).cell 1;simp at h1 h2;exact⟨h1,h2⟩
 have LL:nc (∀g,Calls prog 221 #[j3 (V ⟨kb,ko,Y⟩),O nm] g λr G=>∃S Q,r=kt (.func (.func 235) #[] #[j3 (V ⟨S,0,Y⟩),j3 (V ⟨Q,0,Y⟩)])/\AI G S [j3 (V ⟨kb,ko,Y⟩)] 69/\AI G Q [O nm] 9/\g.heap.size<=S/\g.heap.size<=Q/\Ac [] g G):=λg=>bY kb ko nm g
 obtain⟨s0,s1⟩:=KK C (re _ _);refine ra (λK1 AR=>?_);refine ra (λK2 NB=>?_)
 go_region_held3 (λg=>Ac [] C g/\oa g ⟨sp,0,Y⟩=V (j3 (V ⟨kb,ko,Y⟩))/\oa g ⟨N,1,Y⟩=V (O nm)) ((go_split_ands;refine(fun(QR:Ac [] C _)=>And.intro QR (KK _ QR)) ?_;repeat (first|assumption|exact re [] _|refine Ac.drew ?_|refine Ac.alloc ?_ _))) ((go_at_call 221;refine(LL _).mono ?_;rintro e w3 ⟨S,Q,rfl,RO,Nd,H5,Jx,k3⟩;have NN:Ac [] C w3:=(by go_split_ands;exact Ac.trans (by assumption) k3);have W3:=Ab RO;have T0:=Ab Nd;have KD:=Ab NN;have X1:nc (C.heap.size<=S/\C.heap.size<=Q):=⟨H5,Jx⟩;clear RO Nd H5 Jx k3 NN))
 refine NB _ _ ?_;clear NB K2 s0 s1 LL KK;refine wp_block ?_;have KA:nc (aA w N ap nm (U A (Z ts) z) E b ts at_ [] [N+3] w3):=BD (aA.own (mP _)) (s:=([],[N+3])) H4 KD;have YP:nc (VV w Q nm [N+3] w3):=by
  have h1:=T0.cell 0;simp at h1;refine⟨KA.kept,h1,λk n=>?_⟩;have hn:=Aa HN;have h2:=X1.2;have h3:=Aa M1;have h4:=KD.size;simp only[my]at n;omega
 have TT:=Aa XS S Q [N+3] w3 (by have h:=W3.cell 0;simp at h;exact h) YP;have a5:N+4<=w3.heap.size:=by have h3:=Aa M1;have h4:=KD.size;omega
 refine Iv (T:=104) (q:=10) rfl (enters_of func235 (by kernel_rfl) rfl) TT (λk n=>by simp only[my]at n;omega) (aA w N ap nm (U A (Z ts) z) E b ts at_) (λ_ _ _ _=>False) (aA.own (by have:=Aa HN;omega)) (λ_ _ _ _ _ h _ _=>h) KA ?assign ?body ?done ?stop
 case assign=>
  intro l x W HS hx HK;have AT:=(mT.1 hx).1;obtain⟨⟨xn,xt⟩,xv⟩:=x;obtain⟨IJ,EY,FO⟩:=Al (HH.facts.each _ AT).1;simp only at FO;subst FO;simp only[AM]at HK⊢;clear hx AT;simp only[mq,mr,mt]at HK⊢;refine AN (by rfl) (Hj Ga) ?_;go_wp2;refine HK _ ((re [] W).alloc _) ?_;exact rf W [O xn,U IJ (Z xt) EY] 104
 case body=>
  intro l Bx MN x av M W KS B hM a8 hB;have hx:x∈u.filter (QM nm):=by rw[KS];simp
  have AT:=(mT.1 hx).1;have H8:=(mT.1 hx).2;have Ix:=(HQ x AT H8).2;have HI:=Ab (N2 (N+2) x W AT H8 B.kept B.b7);have WW:nc (C8 W x):=(HH.facts.each x AT).1.kept B.kept;have TX:nc (C8 w x):=(HH.facts.each x AT).1;obtain⟨⟨xn,xt⟩,xv⟩:=x;obtain⟨IJ,EY,FO⟩:=Al WW;simp only at FO Ix;subst FO;obtain⟨m,AB,AH,h9,HR,HL,HO,M6,IS⟩:=B.out;simp only[AM]at HI hB⊢;have d0:=B.b5.cell 0;have d1:=B.b5.cell 1;have d2:=B.b5.cell 2;have e0:=hB.cell 0;have e1:=hB.cell 1;simp at d0 d1 d2 e0 e1;have P:=Ab B;have L0:=Ab hB;have H9:=Ab h9;have HJ:=Ab HR;have UO:=Ab HL;have TL:=Ab HO;have EM:=Ab IS;obtain⟨H7,hX⟩:∃H7:Eb,H7=⟨⟨xn,xt⟩,U IJ (Z xt) EY⟩:=⟨_,rfl⟩;have HV:=Ab hX;rw[<-hX]at KS⊢;clear hx AT H8 B hB h9 HR HL HO IS hM hX;obtain⟨F,hF⟩:=rd (IV b ts xt);rw[hF]at HI;have HF:=Ab hF;clear hF;simp only[mq,mr,mt];refine wpIn_block ?_;refine ol (λK3 FL=>?_);have FA:=Ab FL;clear FL;refine AN (by rfl) (by rintro ⟨_,_,h⟩;exact h) ?_;go_wp2_with fail
  refine HI.mono ?_;rintro _ w4 ⟨rfl,k4⟩;have H:=Ab k4;clear k4 d0 d1 d2 e0 e1 HI;go_wp2;refine FA _ _ ?_;clear FA K3;cases F with
  |false=>
   refine pJ rfl (wpIn_skip ?_);refine⟨H.mono (by simp),M,?_,λk n=>⟨lo n,?_⟩⟩
   .have FC:=BD (aA.own (N:=N) (ap:=ap) (nm:=nm) (tv:=U A (Z ts) z) (E:=E) (b:=b) (ts:=ts) (at_:=at_) (mP w.heap.size)) (s:=(MN,M)) P H;obtain⟨m',CL,B9,g1,g2,g3,g4,g5,g6⟩:=FC.out;refine⟨FC.kept,FC.b5,FC.b6,FC.b7,m',CL,B9,g1,g2,g3,λy=>?_,by have:=g5;simp at this⊢;omega,g6⟩;rw[g4 y];constructor
    .rintro ⟨q,o,L⟩;exact⟨q,by simp[o],L⟩
    .rintro ⟨q,o,L⟩;rcases mF.1 o with o|o
     .exact⟨q,o,L⟩
     .simp only[my]at o;subst o;rw[Aa HV]at L;rw[Aa HF]at L;cases L.1
   .rw[Aa EM]at n;have h4:=H.size;rcases mA.1 n with rfl|n
    .have:=H9.lt;omega
    .have:=(HJ.lt k (by simpa using n)).2;omega
  |true=>
   refine pO rfl ?_;have EK:=Ag HJ H (by simp);have NX:(U AB (Z m) AH).ownBlock≠V (N+3):=Aq EK (H9.kept H) (by decide);obtain⟨gx,cx,RE,HY⟩:=Iz TX at_ Ix;simp only[mu]at RE;obtain⟨rfl,-,rfl⟩:=RE;obtain⟨BS,hY⟩:=rd (xt[at_]);rw[hY]at HY;have ar:=Ln HY;have PT:nc (∀g,Ac (U AB (Z m) AH).ownBlock.toList w4 g->oa g ⟨N+3,0,Y⟩=V (U AB (Z m) AH)/\oa g ⟨Bx,1,Y⟩=V (U (V ⟨gx,0,Y⟩) (Z xt) EY)/\oa g ⟨N+1,0,Y⟩=V (X J at_)/\oa g ⟨gx,at_,Y⟩=V (O BS)):=by
    intro g hz;have a1:=((H9.kept H).kept hz (λI=>NX (by simpa using I))).cell 0;have a2:=((L0.kept H).kept hz (λI=>Aq EK (L0.kept H) (by decide) (by simpa using I))).cell 1;have a3:=((P.b6.kept H).kept hz (λI=>Aq EK (P.b6.kept H) (by decide) (by simpa using I))).cell 0;have a4:=Jl hz (H.cellAt (P.kept.cellAt HY)) (λI=>by have:=(EK.lt gx (by simpa using I)).1;have:=Aa HN;omega);simp at a1 a2 a3;exact⟨a1,a2,a3,a4⟩
   have EX:=Ab (PT w4.drew (re _ _).drew);(have an:(0:Int)<=(at_:Int):=by omega);(have ag:(at_:Int)<(Z xt:Int):=by omega);have aa:=Ab (XU AB AH m BS N w4.drew EK.drew (by have h1:=congrArg List.length KS;have h2:=oo (QM nm) u;simp at h1;omega) UO (by have:=P.kept.size;have:=H.size;have:=Aa HN;show N<=w4.heap.size;omega));have N4:nc (xt.getD at_ q9=BS):=by
    show _=_;rw[mN,mG Ix,hY];rfl
   clear hY HY EK;refine D7 7 (λg=>oa g ⟨N+3,0,Y⟩=V (U AB (Z m) AH)/\oa g ⟨Bx,1,Y⟩=V (U (V ⟨gx,0,Y⟩) (Z xt) EY)/\oa g ⟨N+1,0,Y⟩=V (X J at_)/\oa g ⟨gx,at_,Y⟩=V (O BS)) (by kernel_rfl) (by rfl) (by rintro ⟨_,_,h⟩;exact h) ?_;refine Cz.tq (i:=0) (v:=U AB (Z m) AH) rfl (λ_ _ _ h=>h) EX ?_;simp only[qY,mq,mr,mt];refine Cz.tq (i:=1) (v:=j3 (V ⟨Bx,1,Y⟩)) rfl (λ_ _ _ h=>h) EX ?_;simp only[qY,mq,mr,mt];refine Cz.tq (i:=2) (v:=U (V ⟨gx,0,Y⟩) (Z xt) EY) rfl (λ_ _ _ h=>h) EX ?_;simp only[qY,mq,mr,mt];refine Cz.tq (i:=3) (v:=X J at_) rfl (λ_ _ _ h=>h) EX ?_;simp only[qY,mq,mr,mt];refine Cz.tq (i:=4) (v:=j3 (V ⟨gx,at_,Y⟩)) rfl (λ_ _ _ h=>h) EX ?_;simp only[qY,mq,mr,mt];refine Cz.tq (i:=5) (v:=O BS) rfl (λ_ _ _ h=>h) EX ?_;simp only[qY,mq,mr,mt];refine Cz.one (i:=6) (by kernel_rfl) rfl (λHS hK=>?_)
   go_simp
   refine aa.mono ?_;rintro e w5 ⟨m',CL,B9,rfl,RV,VR,H5,Jx,FP,WS,X2⟩;have HT:Ac (U AB (Z m) AH).ownBlock.toList w4 w5:=(re _ _).drew.trans WS;refine hK.out _ _ (λ_=>PT w5 HT) ?_;clear hK HS
   try simp only[qY,mq,mr,mt]
   have FW:AI w5 (N+3) [U AB (Z m) AH] 102:=(H9.kept H).kept HT (λI=>NX (by simpa using I));have c9:=FW.cell 0;have f9:=FW.frozen 0;simp at c9;refine Cz.one (i:=7) (by kernel_rfl) rfl (λHS hK=>?_)
   go_simp
   refine hK.out _ _ (λh=>absurd rfl h) ?_;clear hK HS;refine Cz.done (by kernel_rfl) ?_ _;have TS:(U CL (Z m') B9).ownBlock≠V (N+3):=Aq FP FW (by decide);have Ha:Ac M W (w5.setCell ⟨N+3,0,Y⟩ (U CL (Z m') B9)):=by
    rw[Aa EM];exact((H.mono (by simp)).trans (HT.mono (λi B=>no _ B))).setCell (p:=⟨N+3,0,Y⟩) (lo (nK ..)) _
   have X3:∀k∈M,N<=k:=by
    intro k n;rw[Aa EM]at n;rcases mA.1 n with rfl|n
    .omega
    .exact(HJ.lt k (by simpa using n)).1
   have JJ:∀{bb:Nat} {cs:rc ml} {t:TypeId},AI W bb cs t->bb≠N+3->170≠t->bb∉M:=by
    intro bb cs t SS RT S0 I;rw[Aa EM]at I;rcases mA.1 I with rfl|I
    .exact RT rfl
    .exact Aq HJ SS S0 (by simpa using I)
   refine⟨Ha,(N+3)::(U CL (Z m') B9).ownBlock.toList,⟨P.kept.trans' Ha (λk n=>lx (by have:=X3 k n;have:=Aa HN;omega)),P.b5.kept Ha (JJ P.b5 (by omega) (by decide)),P.b6.kept Ha (JJ P.b6 (by omega) (by decide)),P.b7.kept Ha (JJ P.b7 (by omega) (by decide)),m',CL,B9,FW.set 0 _,Ah FP TS _,RV,λy=>?_,by simp;omega,rfl⟩,λk n=>?_⟩
   .rw[VR y,Aa TL y];constructor
    .rintro (rfl|⟨q,o,L⟩)
     .exact⟨H7,by simp,by rw[Aa HV];exact HF,by rw[Aa HV];exact N4.symm⟩
     .exact⟨q,by simp[o],L⟩
    .rintro ⟨q,o,L⟩;rcases mF.1 o with o|o
     .exact lx ⟨q,o,L⟩
     .simp only[my]at o;subst o;rw[Aa HV]at L;exact lo (L.2.trans N4)
   .have h6:=HT.size;have h4:=H.size;rcases mA.1 n with rfl|n
    .exact⟨lo (by rw[Aa EM];exact nK ..),by have:=FW.lt;simp;omega⟩
    ·(have LE:(U CL (Z m') B9).ownBlock=V k:=by simpa using n);refine⟨?_,by have:=(FP.lt k LE).2;simp;omega⟩;rcases X2 k LE with h|h
     .exact lo (by rw[Aa EM];exact no _ (by rw[h];simp))
     .exact lx (by have h2:w4.heap.size<=k:=h;omega)
 case done=>
  intro D M' W hD B hd _;obtain⟨m,AB,AH,h9,HR,HL,HO,M6,IS⟩:=B.out;have c9:=h9.cell 0;simp at c9;refine AR _ _ ?_;clear AR;simp only[nM];refine ra (λK3 FA=>?_);go_wp2;refine FA _ _ ?_;clear FA K3;refine wp_ret ?_;rw[<-Aa VL];have FP:OwnFrom w.heap.size (fun(_:Unit) W=>oi W N 170 1 (U AB (Z m) AH) (Z m) (m.flatMap Ai)/\Ac [] w W):=BF (λ_ W W' M h k hM=>⟨Ag h.1 k (BZ hM h.1),DS h.2 k hM (mP _)⟩);have M3:DC w.heap.size [D] W:=⟨by simp,λd HE=>by simp only[my]at HE;have:=KA.kept.size;omega,λd HE=>by simp only[my]at HE;rw[HE];exact hd⟩;refine Dg [D] W M3 (λG hs=>?_);obtain⟨g1,g2⟩:=hs.own FP (s:=()) M3 ⟨HR,B.kept⟩;refine⟨_,results_tmp rfl _ _ _,AB,AH,m,rfl,HL,HO,nD M6 (oo _ _),?_,g2⟩;rw[Aa HN];exact g1
 case stop=>
  intro D c MN M' W _ h _;exact h.elim
structure DF(e:rc zA):Prop where
 len:Z e=26
 each:∀x∈e,Tc x
def DF.start:DF Bl:=⟨by simp[Bl],λx a=>lo (by rw[(List.mem_replicate.1 a).2];rfl)⟩
def DF.set{e:rc zA}(h:DF e)(j:Nat){x:zA}(c:A8 x):DF (e.set j x):=⟨by simp[h.len],λy b=>by
 rcases List.mem_or_eq_of_mem_set b with a|rfl
 .exact h.each y a
 .exact lx c⟩
def I2(h:DF e):Z (Br e)=26:=by unfold Br;rw[mI,h.len]
def J8(h:A8 s):Ek s=AD s:=by
 have a:=h.size;unfold Ek AD;rw[mJ a];cases hn:Jw s with
 |false=>simp
 |true=>
  simp only[if_true];rcases h with⟨c,r,e,b,_⟩|h
  .unfold Jw at hn;rw[e,Fy]at hn;have:=qK hn;omega
  .rw[mK h]
def I3{t:AJ}(h:Dt t)(e:rc zA):BO (Br e) (ct t)=Xd (AP e t):=by
 have f:(ct t).v.toNat=t.v.toNat:=by unfold ct;simp
 unfold BO gX;rw[f];rcases h with⟨a,c⟩|⟨b,g,_⟩
 .rw[a,mK (show(0:UInt8).toNat=0 from rfl)]
  unfold AP;rw[mK a,CY c];exact J8 c
 .have a:t.v≠0:=λd=>by rw[d]at b;exact absurd b (by decide)
  rw[mJ (by omega),<-EJ];unfold RC;rw[mJ a]
def DF.val(b:DF e){t:AJ}(h:Dt t):Tc (AP e t):=by
 unfold AP;split
 .rename_i d;rcases h with⟨_,c⟩|⟨a,_⟩
  .exact lx c
  .rw[d]at a;exact absurd a (by decide)
 .rw[mN];cases hg:e[t.v.toNat-65]? with
  |none=>exact lo rfl
  |some x=>exact b.each x (List.mem_of_getElem? hg)
def WG(f:DF e){b:rc AJ}(h:∀t∈b,Dt t):Hc (Br e) (b.map ct)=D2 e b:=by
 rw[<-Oh b (λt a=>f.val (h t a))];unfold Hc Sn;rw[List.all_map,nT,nY,nY];have d:∀t∈b,((λt=> !Vz (BO (Br e) t))∘ct) t= !Vz (RC (Br e) t):=λt a=>by
  simp only[Function.comp];rw[I3 (h t a),EJ]
 exact⟨λc t a=>by rw[<-d t a];exact c t a,λc t a=>by rw[d t a];exact c t a⟩
def Re(x:Bw):AS (MA x)=(BC x).map ct:=by
 unfold AS BC;rw[I4];split<;>simp[MA]
def Dz.zR{x:Bw}(h:Dz x):∀t∈BC x,Dt t:=by
 intro t a;unfold Dz at h;unfold BC at a;split at h
 .rename_i b;rw[mK b]at a;exact h.args t a
 .rename_i b;rw[mJ b]at a;rcases mA.1 a with rfl|a
  .exact h.1
  .rw[my]at a;subst a;exact h.2.1
def Tj(d:DF e){a:rc AJ}(h:∀t∈a,Dt t)(f:D2 e a=jj):∀t∈a,A8 (AP e t):=by
 intro t c;rcases d.val (h t c)with h1|h1
 .have b:=nY.1 f t c;rw[(Ep _).2 h1]at b;cases b
 .exact h1
def Yh{x:Bw}(h:∀t∈x.A.args,Dt t)(b:∀t∈x.A.args,A8 (AP e t)):FI (Br e) (MA x)=Bq (Av e x.A):=by
 unfold FI Bq Av MA;simp only;rw[nN,nN]
 congr 1
 refine nL (λt a=>?_);simp only[Function.comp];rw[I3 (h t a),CY (b t a)]
def G0{A:Dr}(a:∀t∈A.args,A8 (AP e t)):AL (Av e A):=by
 intro y b;obtain⟨t,c,rfl⟩:=mD.1 b;exact a t c
def Y5{u:rc Eb}{x:Bw}(v:Cx u f)(F:DF e)(E:Dz x)(D:D2 e (BC x)=jj)(h:Lt u (Br e) (MA x) B):B=Cp (Av e) (AP e) f x:=by
 have c:=E.zR;have b:=Tj F c D;have G:(MA x).sort=Gu x.kind:=rfl;unfold Lt at h;unfold Cp;rw[G]at h;by_cases g:x.kind=97
 .have a:Gu x.kind=0:=by rw[g];rfl
  have d:BC x=x.A.args:=by unfold BC;rw[g];rfl
  rw[d]at c b;rw[mK a,Yh c b]at h;rw[mK (by rw[g];rfl)];obtain⟨p,n,rfl⟩:=h;exact v.zk (G0 b) n
 .have t:¬(x.kind==97)=jj:=by simpa using g
  rw[mJ t];by_cases i:x.kind=33
  ·(have a:Gu x.kind=1:=by rw[i];rfl);(have d:BC x=x.A.args:=by unfold BC;rw[i];rfl);rw[d]at c b;rw[a,mJ (by decide),mK rfl,Yh c b]at h;rw[mK (by rw[i];rfl)];obtain⟨p,n,rfl⟩:=h;rw[v.zk (G0 b) n]
  ·(have q:¬(x.kind==33)=jj:=by simpa using i);(have d:BC x=[x.L,x.R]:=by unfold BC;rw[mJ (by rw[om,not_or];exact⟨t,q⟩)]);rw[d]at c b;have m:=b x.L (by simp);have o:=b x.R (by simp);have w:BO (Br e) (MA x).l=RC (Br e) x.L:=(I3 (c x.L (by simp)) e).trans (EJ e x.L).symm;have z:BO (Br e) (MA x).r=RC (Br e) x.R:=(I3 (c x.R (by simp)) e).trans (EJ e x.R).symm;rw[w,z]at h;rw[mJ q];by_cases j:x.kind=61
   ·(have a:Gu x.kind=2:=by rw[j];rfl);rw[a,mJ (by decide),mJ (by decide),mK rfl,XM m o]at h;rw[mK (by rw[j];rfl)];exact h
   ·(have C:¬(x.kind==61)=jj:=by simpa using j);rw[mJ C];by_cases k:x.kind=35
    ·(have a:Gu x.kind=3:=by rw[k];rfl);rw[a,mJ (by decide),mJ (by decide),mJ (by decide),mK rfl,XM m o]at h;rw[mK (by rw[k];rfl)];exact h
    ·(have y:¬(x.kind==35)=jj:=by simpa using k);(have a:Gu x.kind=4:=by unfold Gu;rw[mJ g,mJ i,mJ j,mJ k]);rw[a,mJ (by decide),mJ (by decide),mJ (by decide),mJ (by decide),eK m o]at h;rw[mJ y];exact h
def Yi{d:rc Eb}{s:rc Af}{e:rc zA}(f:Cx d s)(c:DF e):∀(a:rc Bw),(∀x∈a,Dz x)->∀B,F9 d (Br e) (a.map MA) B->B=Ex a s e
 |[],_,B,h=>h
 |x::a,hb,B,h=>by
  have ih:=Yi f c a (λy j=>hb y (by simp[j]));have g:=hb x (by simp);rw[mU,F9,Re,WG c g.zR]at h;have i:Ex (x::a) s e=((D2 e (BC x)&& !Cp (Av e) (AP e) s x)||Ex a s e):=by
   unfold Ex;rw[pZ]
  rw[i];cases hset:D2 e (BC x)with
  |false=>
   rw[hset,mJ (by simp)]at h;rw[pL,pq];exact ih B h
  |true=>
   rw[hset,mK rfl]at h;obtain⟨H,k,b⟩:=h;have l:=Y5 f c g hset k;rw[<-l,oy];cases H with
   |true=>
    rw[mK rfl]at b;rw[pj,pq];exact ih B b
   |false=>
    rw[mJ (by simp)]at b;rw[b];rfl
def Yb(g:DF e):∀(a:rc AJ) (b:rc zA),(∀t∈a,Dt t)->(∀x∈b,A8 x)->IV (Br e) (a.map ct) (b.map AD)=R9 e a b:=by
 intro a b c f;rw[<-UY a b (λt h=>g.val (c t h)) f];clear f;generalize b.map AD=ys
 induction a generalizing ys with
 |nil=>cases ys<;>simp[IV,Ts]
 |cons t a ih=>
  cases ys with
  |nil=>simp[IV,Ts]
  |cons y ys=>
   have d:=ih (λu i=>c u (by simp[i])) ys;unfold Ts at d⊢;rw[mU,IV,d,qG,p5,I3 (c t (by simp)),EJ]
def lI(s:rc Af)(A:Dr)(i:Nat)(e:rc zA)(m:rc zA):Prop:=∀y,y∈m↔∃t∈Hb s A i e,y=AD t
def cD{o:rc Eb}{s:rc Af}{A:Dr}{m:rc zA}(c:Cx o s)(u:DF e)(x:∀t∈A.args,Dt t)(w:∀f∈s,f.name=A.name->i<Z f.args)(h:Zo (Br e) (A.args.map ct) i (o.filter (QM A.name)) m):lI s A i e m:=by
 intro y;rw[h y];unfold Hb;constructor
 .rintro ⟨q,l,b,rfl⟩;obtain⟨z,p⟩:=mT.1 l;have j:q.f∈s.map Bq:=by rw[<-c.same];exact mR z
  obtain⟨g,a,r⟩:=mD.1 j;have v:g.name.toList==A.name.toList:=by
   (have B:q.f.name=g.name:=by rw[<-r];rfl);unfold QM at p;rw[B]at p;exact p
  have k:=w g a (toList_inj (by simpa using v));rw[<-r]at b⊢;unfold Bq at b⊢;simp only at b⊢;rw[Yb u _ _ x (c.canon g a)]at b;refine⟨g.args.getD i q9,mD.2 ⟨g,mT.2 ⟨a,by rw[v,b];rfl⟩,rfl⟩,?_⟩;rw[mN,mN,n6,mG k];rfl
 .rintro ⟨t,C,rfl⟩;obtain⟨g,a,rfl⟩:=mD.1 C;obtain⟨a,d⟩:=mT.1 a;rw[mV]at d;have k:=w g a (toList_inj (by simpa using d.1));have j:Bq g∈o.map Eb.f:=by rw[c.same];exact mR a
  obtain⟨q,l,n⟩:=mD.1 j;refine⟨q,mT.2 ⟨l,?_⟩,?_,?_⟩
  .unfold QM;rw[n];exact d.1
  .rw[n];unfold Bq;simp only;rw[Yb u _ _ x (c.canon g a)];exact d.2
  .rw[n];unfold Bq;simp only;rw[mN,mN,n6,mG k];rfl
def kV(a b:zA):Prop:=Hx (AD a) (AD b)=jj
def Yf(x:zA):rc zA->rc zA
 |[]=>[x]
 |y::l=>if Hx (AD x) (AD y)then x::y::l else if x.toList==y.toList then y::l else y::Yf x l
def jp(e:A8 s)(f:A8 t)(d:Hx (AD s) (AD t)=K)(c:Hx (AD t) (AD s)=K):s=t:=by
 refine FQ e f ?_;cases he:jF (AD s) (AD t)with
 |true=>exact(I7.eqv _ _).1 he
 |false=>rw[I7.tot _ _ d he]at c;cases c
def Sw(x:zA):∀(l:rc zA) (y:zA),y∈Yf x l↔y=x\/y∈l
 |[],y=>by simp[Yf]
 |z::l,y=>by
  rw[Yf];split
  .simp
  .split
   .rename_i a;have e:x=z:=toList_inj (by simpa using a);rw[e];simp
   .rw[mA,Sw x l,mA];constructor<;>(rintro (h|h|h)<;>simp[h])
def UC{x:zA}(d:A8 x):∀(l:rc zA),(∀y∈l,A8 y)->l.Pairwise kV->(Yf x l).Pairwise kV
 |[],_,_=>by simp[Yf]
 |z::l,hc,hp=>by
  obtain⟨c,f⟩:=oN.1 hp;rw[Yf];split
  .rename_i b;refine oN.2 ⟨λy a=>?_,hp⟩;rcases mA.1 a with rfl|a
   .exact b
   .exact I7.trans _ _ _ b (c y a)
  .rename_i g;split
   .exact hp
   .rename_i e;refine oN.2 ⟨λy a=>?_,UC d l (λy a=>hc y (by simp[a])) f⟩;rcases(Sw x l y).1 a with rfl|a
    .cases hg:Hx (AD z) (AD y)with
     |true=>exact hg
     |false=>exact absurd (by rw[jp d (hc z (by simp)) (by simpa using g) hg];simp) e
    .exact c y a
def Lg(body:rc Bw)(s:rc Af)(v:UInt8)(e:rc zA)(t:zA):Prop:=Di body s v e≠[]/\∀l∈Di body s v e,t∈l
def lU(body:rc Bw)(s:rc Af)(v:UInt8)(e:rc zA):rc zA:=match Di body s v e with
 |[]=>[]
 |l::ls=>l.filter λt=>ls.all λm=>m.any λx=>x.toList==t.toList
def JN(body:rc Bw)(s:rc Af)(v:UInt8)(e:rc zA):rc zA:=(lU body s v e).foldr Yf []
def Sc:∀(l:rc zA) (y:zA),y∈l.foldr Yf []↔y∈l
 |[],y=>Iff.rfl
 |x::l,y=>by rw[List.foldr_cons,Sw,Sc l,mA]
def Ut:∀(l:rc zA),(∀y∈l,A8 y)->(l.foldr Yf []).Pairwise kV
 |[],_=>List.Pairwise.nil
 |x::l,h=>UC (h x (by simp)) _ (λy a=>h y (by simp[(Sc l y).1 a])) (Ut l λy a=>h y (by simp[a]))
def ay(c:rc Bw)(s:rc Af)(v:UInt8)(e:rc zA)(t:zA):t∈lU c s v e↔Lg c s v e t:=by
 unfold lU Lg;cases Di c s v e with
 |nil=>simp
 |cons l ls=>
  rw[mT,nY];have a:∀m:rc zA,(m.any λx=>x.toList==t.toList)=jj↔t∈m:=λm=>by
   rw[nX];constructor
   .rintro ⟨x,f,e⟩;rw[<-toList_inj (by simpa using e:x.toList=t.toList)];exact f
   .exact λh=>⟨t,h,by simp⟩
  simp only[a];constructor
  .rintro ⟨d,b⟩;refine⟨by simp,λm a=>?_⟩;rcases mA.1 a with rfl|a
   .exact d
   .exact b m a
  .rintro ⟨_,b⟩;exact⟨b l (by simp),λm a=>b m (by simp[a])⟩
def FG(a:rc Bw)(s:rc Af):QA (JN a s) a s:=λv e t=>(Sc _ t).trans (ay a s v e t)
def OA{a:rc Bw}(h:∀t,Lg a f g e t->A8 t):(JN a f g e).Pairwise kV:=Ut _ λt b=>h t ((ay a f g e t).1 b)
def Fb(fs:rc Eb)(b:rc zA)(v:Int):rc PL->rc (rc zA)->Prop
 |[],r=>r=[]
 |x::l,r=>if x.sort=0 then∃n,Ty x.ts ⟨v,q9⟩ n/\(if n<0 then Fb fs b v l r else∃m r',r=m::r'/\Zo b x.ts n.toNat (fs.filter (QM x.an)) m/\Fb fs b v l r')else Fb fs b v l r
def j5{a:rc AJ}(h:∀t∈a,Dt t)(f:EP g)(z:Ty (a.map ct) ⟨(g.toNat:Int),q9⟩ I):(I<0/\a.findIdx? (λt=>t.v==g)=Y)\/(0<=I/\a.findIdx? (λt=>t.v==g)=V I.toNat):=by
 have c:∀t∈a,J7 ⟨(g.toNat:Int),q9⟩ (ct t)=(t.v==g):=by
  intro t b;unfold J7;have r:((g.toNat:Int)==(ct t).v)=(t.v==g):=by
   rw[<-jL t g,nT];simp only[oI];exact⟨λh=>h.symm,λh=>h.symm⟩
  simp only[r];cases hb:(t.v==g)with
  |false=>rfl
  |true=>
   (have p:t.v=g:=by simpa using hb);rcases h t b with⟨l,_⟩|⟨_,_,x⟩
   .rw[p]at l;rw[l]at f;exact absurd f.1 (by decide)
   .have y:(ct t).s=q9:=by
     unfold ct;simp only;rw[x];rfl
    rw[y,oy];simp
 rcases z with⟨rfl,o⟩|⟨k,q,rfl,d,w⟩
 .left;refine⟨by decide,List.findIdx?_eq_none_iff.2 (λt b=>?_)⟩;rw[<-c t b];exact o _ (mR b)
 .right;have e:k<Z a:=by simpa using q
  refine⟨by omega,?_⟩;rw[show((k:Nat):Int).toNat=k by omega];refine oX.2 ⟨e,?_,λj u=>?_⟩
  .rw[<-c _ (mw e)];rw[List.getElem_map]at d;exact d
  ·(have m:j<Z a:=by omega);have i:=w j (by simpa using m) u;rw[List.getElem_map,c _ (mw m)]at i;simpa using i
def au(s:rc Af)(body:rc Bw):Prop:=∀f∈s,∀x∈body,(x.kind==97)=jj->f.name=x.A.name->Z f.args=Z x.A.args
def bE{F:rc Eb}{s:rc Af}{e:rc zA}(u:Cx F s)(G:DF e){v:UInt8}(H:EP v):∀(a:rc Bw),(∀x∈a,Dz x)->au s a->∀r,Fb F (Br e) (v.toNat:Int) (a.map MA) r->F2 (λm l=>∀y,y∈m↔∃t∈l,y=AD t) r (Di a s v e)/\∀l∈Di a s v e,∀t∈l,A8 t
 |[],_,_,r,h=>by
  have h:r=[]:=h;subst h;exact⟨F2.nil,λl d=>by simp[Di]at d⟩
 |x::a,hb,hf,r,h=>by
  have ih:=bE u G H a (λy q=>hb y (by simp[q])) (λf T y q=>hf f T y (by simp[q]));have hx:=hb x (by simp);rw[mU,Fb]at h;have AO:(MA x).sort=Gu x.kind:=rfl;rw[AO]at h;have e1:Di (x::a) s v e=match(if x.kind==97 then(x.A.args.findIdx? λt=>t.v==v).map λi=>Hb s x.A i e else Y)with|some c=>c::Di a s v e|none=>Di a s v e:=by
   unfold Di;rw[qy];generalize(if(x.kind==97)=jj then(x.A.args.findIdx? λt=>t.v==v).map λi=>Hb s x.A i e else Y)=o;cases o<;>rfl
  rw[e1];by_cases b:(x.kind==97)=jj
  ·(have p:x.kind=97:=by simpa using b);(have k:Gu x.kind=0:=by rw[p];rfl);have E:∀t∈x.A.args,Dt t:=by
    have:=hx.zR;unfold BC at this;rw[b,pW,mK rfl]at this;exact this
   rw[mK k]at h;obtain⟨n,w,h⟩:=h;rw[mK b];rcases j5 E H w with⟨AR,S⟩|⟨AT,z⟩
   .rw[mK AR]at h;rw[S];exact ih r h
   .rw[mJ (by omega)]at h;obtain⟨m,N,rfl,R,P⟩:=h;rw[z];simp only[ox];obtain⟨i1,Q⟩:=ih N P;obtain⟨M,_,_⟩:=oX.1 z;have C:∀f∈s,f.name=x.A.name->n.toNat<Z f.args:=λf L w=>by
     rw[hf f L x (by simp) b w];exact M
    refine⟨F2.cons (cD u G E C R) i1,λl d=>?_⟩;rcases mA.1 d with rfl|d
    .intro t B;unfold Hb at B;obtain⟨g,j,rfl⟩:=mD.1 B;obtain⟨j,D⟩:=mT.1 j;rw[mV]at D;have I:=C g j (toList_inj (by simpa using D.1));rw[mN,mG I];exact u.canon g j _ (mw I)
    .exact Q l d
  ·(have p:x.kind≠97:=by simpa using b);have k:Gu x.kind≠0:=by
    intro W;have:=Tu x.kind;rw[W]at this;exact p (by simpa using this)
   rw[mJ k]at h;rw[mJ b];exact ih r h
def fd{r a:rc (rc zA)}(h:F2 (λm l=>∀y,y∈m↔∃t∈l,y=AD t) r a)(i:∀l∈a,∀t∈l,A8 t)(y:zA):(r≠[]/\Lr r y)↔∃t,(a≠[]/\∀l∈a,t∈l)/\y=AD t:=by
 cases r with
 |nil=>
  cases a with
  |nil=>simp
  |cons l a=>exact absurd h (by simp[F2])
 |cons m r=>
  cases a with
  |nil=>exact absurd h (by simp[F2])
  |cons l a=>
   have j:=h.mem;have p:=h.zw;constructor
   .rintro ⟨_,c⟩;obtain⟨t,n,f⟩:=(h.1 y).1 (c m (by simp));refine⟨t,⟨by simp,λk b=>?_⟩,f⟩;obtain⟨q,d,e⟩:=j k b;obtain⟨u,g,o⟩:=(e y).1 (c q d);have:u=t:=FQ (i k b u g) (i l (by simp) t n) (by rw[<-o,f]);rw[<-this];exact g
   .rintro ⟨t,⟨_,c⟩,rfl⟩;refine⟨by simp,λq d=>?_⟩;obtain⟨k,b,e⟩:=p q d;exact(e _).2 ⟨t,c k b,rfl⟩
def Zi{p:rc Eb}(E:Cx p f)(A:DF e)(B:EP g){d:rc Bw}(D:∀x∈d,Dz x)(r:au f d){i:rc XR}(q:Fb p (Br e) (g.toNat:Int) (d.map MA) (i.map qW)){m:rc zA}(k:MU i m):m=(JN d f g e).map AD/\∀t∈JN d f g e,A8 t:=by
 obtain⟨C,o⟩:=bE E A B d D r _ q;have n:∀t,Lg d f g e t->A8 t:=by
  rintro t ⟨z,u⟩;cases hl:Di d f g e with
  |nil=>exact absurd hl z
  |cons l ls=>exact o l (by rw[hl];simp) t (u l (by rw[hl];simp))
 refine⟨?_,λt j=>n t ((FG d f g e t).1 j)⟩;refine IR (lt:=λa b=>Hx a b=jj) (λa h=>by rw[I7.irr]at h;cases h) (λa b c=>I7.trans a b c) _ _ k.zG ?_ (λy=>?_)
 .rw[o9];exact OA n
 .rw[k.mem y];have w:(i≠[]/\Lr (i.map qW) y)↔(i.map qW≠[]/\Lr (i.map qW) y):=by
   rw[ne_eq,ne_eq,List.map_eq_nil_iff]
  rw[w,fd C o,mD];constructor
  .rintro ⟨t,j,rfl⟩;exact⟨t,(FG d f g e t).2 j,rfl⟩
  .rintro ⟨t,j,rfl⟩;exact⟨t,(FG d f g e t).1 j,rfl⟩
def MZ{c:UInt8->rc zA->rc zA}{o:rc Bw}{s:rc Af}(j:∀v e,(c v e).Nodup)(d:∀v e,∀t∈c v e,t.size≠0):
  ∀(a:rc UInt8) (e:rc zA),Z e=26->a.Nodup->(∀v∈a,EP v)->(Aw c o s a e).Nodup
 |[],e,_,_,_=>by
  rw[Aw];split<;>simp
 |v::a,e,he,hd,hv=>by
  rw[Aw];obtain⟨g,k⟩:=oB.1 hd;have f:=hv v (by simp);have b:∀u∈a,EP u:=λu p=>hv u (by simp[p])
  split
  .simp
  .unfold List.Nodup;rw[List.pairwise_flatMap];refine⟨λt _=>MZ j d a _ (by simp[he]) k b,?_⟩;refine List.Pairwise.imp ?_ (j v e);intro t u m x q y n l;subst l;have i:=(BW d a _ x (by simp[he]) b q).2.2.1 v f g;have h:=(BW d a _ x (by simp[he]) b n).2.2.1 v f g;rw[L9 he f]at i h;exact m (by rw[<-i,h])
def iU{a b:rc zA}(g:Z a=26)(j:Z b=26)(h:∀u,EP u->N8 a u=N8 b u):a=b:=by
 refine List.ext_getElem (by omega) (λi f e=>?_);have c:(UInt8.ofNat (i+65)).toNat=i+65:=by
  rw[UInt8.toNat_ofNat'];omega
 have d:=h (UInt8.ofNat (i+65)) ⟨by rw[c];omega,by rw[c];omega⟩;unfold N8 at d;rw[c,Nat.add_sub_cancel,mN,mN,mG f,mG e]at d;exact d
def bX{j:UInt8->rc zA->rc zA}{c:AV}{d p:rc UInt8}(C:∀v e,(j v e).Nodup)(l:∀v e,∀t∈j v e,t.size≠0)(A:Tq c d p)(r:d.Nodup)(B:∀v∈d,∃t∈c.head.args,t.v=v):(S4 j c d p f).Nodup:=by
 have i:∀v∈d,EP v:=λv h=>(A.ok v (lo h)).1
 unfold S4 List.Nodup;rw[o9];refine oY ?_ ((MZ C l d Bl rfl r i).filter _);intro a b E y w D;have m:=BW l d Bl a rfl i (mT.1 E).1;have q:=BW l d Bl b rfl i (mT.1 y).1;refine w (iU m.1 q.1 (λu g=>?_));by_cases k:u∈d
 .obtain⟨t,x,rfl⟩:=B u k;have o:t.v≠0:=λh=>by rw[h]at g;exact absurd g.1 (by decide)
  have z:c.head.args.map (AP a)=c.head.args.map (AP b):=congrArg Af.args D;have n:=List.map_inj_left.1 z t x;rw[E1 o,E1 o]at n;exact n
 .rw[m.2.2.1 u g k,q.2.2.1 u g k]
def XX:∀(l:rc Af) (s:rc Af),Dy s->(∀f∈s,AL f)->l.Nodup->(∀f∈l,f∉s/\AL f)->Z (l.foldl A9 s)=Z s+Z l
 |[],s,_,_,_,_=>by simp
 |f::l,s,hr,hc,hn,h=>by
  obtain⟨n,k⟩:=oB.1 hn;obtain⟨j,e⟩:=h f (by simp);obtain⟨a,b,m⟩:=Ct e hr hc;rw[nh,XX l (A9 s f) a b k (λg c=>⟨λi=>?_,(h g (by simp[c])).2⟩),(Me s f).2 j,mL]
  .omega
  .rcases(m g).1 i with d|d
   .exact(h g (by simp[c])).1 d
   .rw[d]at c;exact n c
def JV{b:rc Bw}{s:rc Af}(q:∀f∈s,AL f)(n:au s b):∀v e t,Lg b s v e t->A8 t:=by
 rintro v e t ⟨p,o⟩;cases hl:Di b s v e with
 |nil=>exact absurd hl p
 |cons l ls=>
  have g:=o l (by rw[hl];simp);have k:l∈Di b s v e:=by rw[hl];simp
  unfold Di at k;obtain⟨x,u,a⟩:=oG.1 k;by_cases c:(x.kind==97)=jj
  .rw[mK c,pT]at a;obtain⟨i,r,rfl⟩:=a;obtain⟨w,_,_⟩:=oX.1 r;unfold Hb at g;obtain⟨f,m,rfl⟩:=mD.1 g;obtain⟨j,d⟩:=mT.1 m;rw[mV]at d;have y:=n f j x u c (toList_inj (by simpa using d.1));(have h:i<Z f.args:=by omega);rw[mN,mG h];exact q f j _ (mw h)
  .rw[mJ c]at a;cases a
def Ue{c:rc Bw}{s:rc Af}(g:∀f∈s,AL f)(i:au s c)(v:UInt8)(e:rc zA):(JN c s v e).Nodup:=by
 refine List.Pairwise.imp ?_ (OA (JV g i v e));intro a b h d;subst d;unfold kV at h;rw[I7.irr]at h;cases h
theorem Tryz.yZ:(Tryz.prog.info? 102).map (λi=>(i.zero,i.size,i.bytes))=V (V (U Y 0 0),1,24):=by kernel_rfl
def Ua{p:XR}(h:oi w 0 170 1 p.2 (Z p.1) (p.1.flatMap Ai))(b:oi w m 102 1 z n y)(a:w.grownBy u z.ownBlock):oi u 0 170 1 p.2 (Z p.1) (p.1.flatMap Ai):=
 n5 h a (by
  cases hp:p.2.ownBlock with
  |none=>exact lo rfl
  |some q=>exact lx (λe=>Bh h b (by decide) q hp e.symm))
theorem Wr(sp kb ko:Nat)(KS:Option Addr)(HZ:Nat)(e:rc Mk)(ov:ml)(MN:Option Addr)(K5:Nat)(d:rc Eb)(v:Int)(b:rc zA)(w:ly)(hb:Z b=26)(hS:Qq w sp kb ko (U KS (Z e) HZ) ov MN K5 d)(hB:Cf w 0 (U KS (Z e) HZ) e)(QR:Z d<=10000)(SL:Z e<=1000)(hl:∀p∈e,QJ p.1)(Ix:d.Pairwise λa b=>CX a.f b.f<0)
  (LD:∀(JA:CJ) i j (hi:i<Z d) (hj:j<Z d),i<=j->CX d[j].f JA<0->CX d[i].f JA<0)
  (hq:∀p∈e,p.1.sort=0->∀q∈d,QM p.1.an q=jj->Z p.1.ts<=Z q.f.zC):
  Calls prog 178 #[j3 (V ⟨sp,0,Y⟩),X .i32 v,oj (j2 (Am b))] w λr T=>∃(l:Option Addr) (s:Nat) (m:rc zA) (c:rc XR),r=kt (U l (Z m) s)/\MU c m/\Fb d b v (e.map qW) (c.map qW)/\oi T w.heap.size 170 1 (U l (Z m) s) (Z m) (m.flatMap Ai)/\Ac [] w T:=by
 obtain⟨i0,OH,NE,PT,N4⟩:=nC Tryz.yZ;have NB:=Ab hS;have K7:=Ab hB;have QQ:nc (∀(x:PL) l s z,Ac [] w z->QJ x->LP w 0 (x,U l (Z x.ts) s)->Calls prog 206 #[U l (Z x.ts) s,oj #[X .i32 v,O ⟨#[]⟩]] z λr T=>∃n,r=kt (X J n)/\Ty x.ts ⟨v,q9⟩ n/\Ac [] z T):=λx l s z S hc hx=>du l s x.ts ⟨v,q9⟩ 0 z (hx.kept S) (by have:=hc.len;omega)
 have H3:nc (∀(x:PL) l s (u:Nat) z,Ac [] w z->QJ x->LP w 0 (x,U l (Z x.ts) s)->(∀q∈d,QM x.an q=jj->Z x.ts<=Z q.f.zC)->u<Z x.ts->Calls prog 207 #[j3 (V ⟨sp,0,Y⟩),oj #[X J x.ap,O x.an,U l (Z x.ts) s],X J u,oj (j2 (Am b))] z λr T=>∃(l:Option Addr) (s:Nat) (m:rc zA),r=kt (U l (Z m) s)/\C6 Hx m/\Zo b x.ts u (d.filter (QM x.an)) m/\Z m<=Z d/\oi T z.heap.size 170 1 (U l (Z m) s) (Z m) (m.flatMap Ai)/\Ac [] z T):=
  λx l s u z S hc hx L0 LS=>Yt sp kb ko _ ov MN K5 d x.ap x.an l s x.ts u b z hb (hS.kept S) (hx.kept S) hc.len hc.ts (by omega) Ix (LD _) (λq H7 LL=>⟨L0 q H7 LL,by have:=L0 q H7 LL;omega⟩)
 have NY:=Ab hl;have M6:=Ab hq;have hc:=Bs b;have K6:Z (Am b)=26:=by unfold Am;simp[hb]
 have IA:=Ab K6;obtain⟨E,hE⟩:=rd (Am b);rw[hE]at hc K6 IA H3⊢;have P:=Ab (rf w E 243);have D:=Ab ((re [] w).alloc (j1 (j2 E) 243));clear hE hS hB hl LD hq Ix;obtain⟨G,HI⟩:∃G:rc (rc zA)->Prop,G=Fb d b v (e.map qW):=⟨_,rfl⟩;have W:nc (∀R,Fb d b v ((e.drop 0).map qW) R->G (([]:rc XR).map qW++R)):=λR h=>by rw[HI];exact h
 rw[<-HI];clear HI;obtain⟨F,HJ⟩:=rd w.heap.size;have FL:=Ab HJ;go_enter func178,ntmps178;apply wp_seq_k;intro KK MB;have HX:=Ab MB;clear MB;go_wp2;refine HX _ _ ?_;clear HX KK;generalize hw1:w.alloc (j1 (j2 E) 243)=w1 at P D⊢;clear hw1;rw[HJ]at P⊢;clear HJ;have s1:=(NB.kept D).zO.cell 1;simp at s1;go_wp2_with fail
 go_loopg [7,16] (Z e) (λgk o i wr=>∃(k:Nat) (c:rc XR) (Ax:Option Addr) (Q:Nat),o=U Ax (Z c) Q/\i=X J k/\k<=Z e/\gk=Z e-k/\Z c<=k/\nc (∀R,Fb d b v ((e.drop k).map qW) R->G (c.map qW++R))/\nc (oi wr F 102 1 (U Ax (Z c) Q) (Z c) (c.flatMap λp=>[p.2]))/\nc (∀p∈c,oi wr 0 170 1 p.2 (Z p.1) (p.1.flatMap Ai)/\C6 Hx p.1/\Z p.1<=10000)/\nc (AI wr F E 243)/\nc (Ac [] w wr))
 case atStart=>exact⟨0,[],Y,0,rfl,rfl,by omega,rfl,by simp,W,mS _ _ _ _,(λp B=>by cases B),P,D⟩
 case round=>
  clear W P D s1;obtain⟨k,c,Ax,Q,rfl,rfl,S,Mo,RT,W,HO,HE,P,D⟩:=hrel;have HG:=Ab Mo;clear Mo;by_cases FW:k<Z e
  .obtain⟨g,SP,x,I,N,he,FO,_,d0,d1,d2,d3,d4,d5,d6,d7,d8⟩:=V4 (K7.kept D) k FW;simp only[mu]at he;obtain⟨rfl,_,rfl⟩:=he;(have FA:(x,U I (Z x.ts) N)∈e:=by rw[<-FO];exact mw FW);have HD:=Aa NY _ FA;have HA:LP w 0 (x,U I (Z x.ts) N):=(K7.each _ FA).1;(have H5:x.sort=0->∀q∈d,QM x.an q=jj->Z x.ts<=Z q.f.zC:=λh=>M6 _ FA h);have B0:nc (∀R,(if x.sort=0 then∃n,Ty x.ts ⟨v,q9⟩ n/\(if n<0 then Fb d b v ((e.drop (k+1)).map qW) R else∃m r',R=m::r'/\Zo b x.ts n.toNat (d.filter (QM x.an)) m/\Fb d b v ((e.drop (k+1)).map qW) r')else Fb d b v ((e.drop (k+1)).map qW) R)->G (c.map qW++R)):=by
    intro R h;refine W R ?_;rw[mQ FW,mU,FO];exact h
   have CW:=Ab (D.alloc (j1 (j2 (Ay (x,U I (Z x.ts) N))) 217));have EM:=Ab (mE HO (j1 (j2 (Ay (x,U I (Z x.ts) N))) 217));(have BA:nc (∀p∈c,oi (wr.alloc (j1 (j2 (Ay (x,U I (Z x.ts) N))) 217)) 0 170 1 p.2 (Z p.1) (p.1.flatMap Ai)/\C6 Hx p.1/\Z p.1<=10000):=λp B=>⟨mE (HE p B).1 _,(HE p B).2⟩);have FF:=Ab (P.alloc (j1 (j2 (Ay (x,U I (Z x.ts) N))) 217));have HH:=Ab (rf wr (Ay (x,U I (Z x.ts) N)) 217);have EY:=Ab (QQ x I N _ CW HD HA);have B9:=Ab (λu z S hq=>H3 x I N u z S HD HA hq);have ES:=Ab H5;(have SB:F<=wr.heap.size:=by have:=D.size;have:=Aa FL;omega);obtain⟨pl,so,ap,an,ts,⟨lv,RE⟩,⟨rv,SS⟩⟩:=x;simp only[Ay]at CW EM BA FF HH EY B9 B0 ES d0 d1 d2 d3 d4 d5 d6 d7 d8;clear FO FA HD HA H5 W HO HE P D;by_cases M:so=0
   ·(have N0:(so !=0)=K:=by simp[M]);(have Nq:(so==0)=jj:=by simp[M]);have Pl:=Ab (ES M);(have A0:nc (∀R,(∃n,Ty ts ⟨v,q9⟩ n/\(if n<0 then Fb d b v ((e.drop (k+1)).map qW) R else∃m r',R=m::r'/\Zo b ts n.toNat (d.filter (QM an)) m/\Fb d b v ((e.drop (k+1)).map qW) r'))->G (c.map qW++R)):=λR h=>B0 R (by rw[mK M];exact h));clear B0 ES M;(go_wp2_with fail);refine EY.mono ?_;rintro _ w3 ⟨n,rfl,LM,L⟩;have HC:=Ab LM;have A1:=Ab (CW.trans L);have FB:=Ab (FF.kept L);have AB:=HH.kept L;have HQ:=Ab (Ad EM L);(have FC:nc (∀p∈c,oi w3 0 170 1 p.2 (Z p.1) (p.1.flatMap Ai)/\C6 Hx p.1/\Z p.1<=10000):=λp B=>⟨Ad (BA p B).1 L,(BA p B).2⟩);clear LM EY CW FF EM BA L d0 d1 d2 d3 d4 d5 d6 d7 d8 HH;by_cases hn:n<0
    ·(have NV:¬(0:Int)<=n:=by omega);(have AH:nc (∀R,Fb d b v ((e.drop (k+1)).map qW) R->G (c.map qW++R)):=λR h=>A0 R ⟨n,HC,by rw[mK hn];exact h⟩);clear A0 hn B9 AB;go_wp2
     go_roundg (Z e-(k+1))
     case measure=>have:=Aa HG;omega
     case rel=>exact⟨k+1,c,Ax,Q,rfl,by go_num,by omega,rfl,by omega,AH,HQ,FC,FB,A1⟩
    ·(have NV:(0:Int)<=n:=by omega);obtain⟨u,rfl⟩:∃u:Nat,n=(u:Int):=⟨n.toNat,by omega⟩;have LS:u<Z ts:=by
      rcases HC with⟨h,_⟩|⟨j,hj,h,_⟩
      .omega
      .omega
     have H8:=Ab (B9 u w3 A1 Pl LS);have e0:=AB.cell 0;have e1:=AB.cell 1;have e2:=AB.cell 2;have e3:=AB.cell 3;have e4:=AB.cell 4;simp at e0 e1 e2 e3 e4;clear AB B9 hn;go_wp2_with ((with_reducible show wpList _ _ _ ({dst:=_,op:=Op.load 243 _,type:=_,pos:=_,after:=_,guard:=_}::_) _ _);refine BX (by rfl) 243 _ rfl F 0 (by rfl) E _ FB.range underlying243 rfl (by rw[Aa IA];exact Tryz.zI) ?_)
     refine H8.mono ?_;rintro _ w4 ⟨C,A,m,rfl,LB,KD,H,DT,k4⟩;have HP:=Ab (A1.trans k4);have HM:=Ab (FB.kept k4);have AR:=Ad HQ k4;(have HL:nc (∀p∈c,oi w4 0 170 1 p.2 (Z p.1) (p.1.flatMap Ai)/\C6 Hx p.1/\Z p.1<=10000):=λp B=>⟨Ad (FC p B).1 k4,(FC p B).2⟩);have BT:nc (oi w4 0 170 1 (U C (Z m) A) (Z m) (m.flatMap Ai)):=Ak DT (mO _);have Os:nc (C6 Hx m/\Z m<=10000):=⟨LB,by omega⟩;have AH:nc (∀R,Fb d b v ((e.drop (k+1)).map qW) R->G ((c++[(m,U C (Z m) A)]).map qW++R)):=by
      intro R h;have h2:=Aa A0 (m::R) ⟨u,HC,by rw[mJ (by omega)];exact⟨m,R,rfl,by rw[show((u:Nat):Int).toNat=u by omega];exact KD,h⟩⟩;rw[nk,nA];exact h2
     (have RV:F<=w4.heap.size:=by have:=HP.size;have:=Aa FL;omega);clear H8 A1 FB HQ FC k4 LB KD H DT A0 e0 e1 e2 e3 e4;obtain⟨y,H⟩:=rd (Z m);have Ha:=Ab H;rw[H]at AH BT⊢;clear H;go_wp2_with (at_builtin;refine mZ _ rfl (.tmp 31) (.tmp 38) _ rfl F 102 i0 _ 1 24 underlying303 OH NE PT N4 rfl (by omega) (U Ax (Z c) Q) (Z c) (c.flatMap λp=>[p.2]) rfl (mE AR _) ⟨w4.heap.size,0,Y⟩ 1 1 [U C y A] rfl rfl (mW (m7 w4 _)) (by simp[Value.oneCell']) (by omega) (by unfold maxLen;omega) (by omega) (by simp;omega) (w4.heap.size+1) (by simp) ?_;intro g1 IJ w9 K3 B2 M3 Nx)
     have Nd:nc (oi w9 F 102 1 (U (V ⟨g1,0,Y⟩) (Z (c++[(m,U C y A)])) IJ) (Z (c++[(m,U C y A)])) ((c++[(m,U C y A)]).flatMap λp=>[p.2])):=by
      rw[mY];simp only[mM,mL,m8,nE,mX,nP,np];exact K3
     have NA:nc (∀p∈c++[(m,U C y A)],oi w9 0 170 1 p.2 (Z p.1) (p.1.flatMap Ai)/\C6 Hx p.1/\Z p.1<=10000):=by
      intro p B;rcases mF.1 B with h|h
      .exact⟨Ua (mE (HL p h).1 _) (mE AR _) B2,(HL p h).2⟩
      .simp only[my]at h;subst h;exact⟨Ua (p:=(m,U C y A)) (mE (by rw[Aa Ha];exact BT) _) (mE AR _) B2,Os⟩
     have N2:=Ab ((HP.alloc (j1 #[U C y A] 102)).grown B2 (λq hq=>lx (by have:=(AR.lt q hq).1;have:=Aa FL;omega)));have NM:nc (AI w9 F E 243):=(HM.alloc (j1 #[U C y A] 102)).grown B2 (Aq AR HM (by decide));clear K3 B2 M3 Nx AR HL HP HM BT
     go_roundg (Z e-(k+1))
     case measure=>have:=Aa HG;omega
     case rel=>exact⟨k+1,c++[(m,U C y A)],V ⟨g1,0,Y⟩,IJ,by simp,by go_num,by omega,rfl,by simp;omega,AH,Nd,NA,NM,N2⟩
   ·(have N0:(so !=0)=jj:=by simp[M]);(have Nq:(so==0)=K:=by simp[M]);(have AH:nc (∀R,Fb d b v ((e.drop (k+1)).map qW) R->G (c.map qW++R)):=λR h=>B0 R (by rw[mJ M];exact h));clear M B0 EY B9 ES;go_wp2
    go_roundg (Z e-(k+1))
    case measure=>have:=Aa HG;omega
    case rel=>exact⟨k+1,c,Ax,Q,rfl,by go_num,by omega,rfl,by omega,AH,EM,BA,FF,CW⟩
  .have A0:nc (G (c.map qW)):=by
    have h:=Aa W [] (by rw[ni (by omega)];rfl);rw[np]at h;exact h
   have HV:=Ab (YC Ax Q c wr ⟨Ak HO (mO _),HE⟩ (by omega));clear W HO HE P;(go_wp2_with fail);refine HV.mono ?_;rintro _ w3 ⟨l,s,m,rfl,HY,DT,L⟩;have NS:=Ab HY;have BT:=Ab (Ak DT (show w.heap.size<=wr.heap.size from D.size))
   have A1:=Ab (D.trans L);obtain⟨y,H⟩:=rd (Z m);have Ha:=Ab H;rw[H];clear HY DT L HV H;go_wp2;go_ret;rw[<-Aa Ha];refine⟨l,s,m,c,rfl,NS,A0,?_,A1⟩;rw[<-Aa FL];exact BT
def Dd(vs:rc UInt8):rc Int:=vs.map λv=>(v.toNat:Int)
structure eR(w:ly)(sp:Nat)(body:rc Bw)(s:rc Af)(vs:rc UInt8):Prop where
 at_:∃(kb ko:Nat) (bad:Option Addr) (bcp:Nat) (zD:rc Mk) (oad:Option Addr) (ocp:Nat) (sad:Option Addr) (scp:Nat) (fs:rc Eb),
  Qq w sp kb ko (U bad (Z zD) bcp) (U oad (Z (Dd vs)) ocp) sad scp fs/\Cf w 0 (U bad (Z zD) bcp) zD/\zD.map qW=body.map MA/\
  oi w 0 21 1 (U oad (Z (Dd vs)) ocp) (Z (Dd vs)) ((Dd vs).flatMap AX)/\Cx fs s
 len:Z s<=10000
 lits:∀x∈body,Dz x/\QJ (MA x)
 blen:Z body<=1000
 yH:Z vs<=1000
 fit:au s body
 ok:∀v∈vs,EP v
def eR.kept{w w':ly}{a:Nat}{c:rc Bw}{s:rc Af}{b:rc UInt8}(h:eR w a c s b)(k:Ac [] w w'):eR w' a c s b:=by
 obtain⟨t,n,u,l,i,o,d,r,g,p,j,e,q,f,m⟩:=h.at_;exact⟨⟨t,n,u,l,i,o,d,r,g,p,j.kept k,e.kept k,q,Ad f k,m⟩,h.len,h.lits,h.blen,h.yH,h.fit,h.ok⟩
def Cx.len{a:rc Eb}(h:Cx a f):Z a=Z f:=by
 have:=congrArg List.length h.same;simpa using this
def UU{a:rc Bw}{t:rc UInt8}(h:eR w n a f t)(i:DF e):
  Calls prog 177 #[j3 (V ⟨n,0,Y⟩),oj (j2 (Am (Br e)))] w λr g=>r=kt (.bool (Ex a f e))/\Ac [] w g:=by
 obtain⟨F,v,q,o,j,G,L,y,C,D,u,m,c,I,b⟩:=h.at_;have M:=b.len;have P:Z j=Z a:=by have:=congrArg List.length c;simpa using this
 have H:=h.blen;have N:=h.len;refine(ZL n F v q o j _ y C D (Br e) w (I2 i) u m (by omega) (by omega) (λp z=>?_) (λA=>b.mono A)).mono ?_
 .have:p.1∈a.map MA:=by rw[<-c];exact mR z
  obtain⟨x,d,E⟩:=mD.1 this;rw[<-E];exact(h.lits x d).2
 .rintro r g ⟨B,rfl,l,k⟩;rw[c]at l;exact⟨by rw[Yi b i a (λx d=>(h.lits x d).1) B l],k⟩
def Wp{a:rc Bw}{s:rc Af}{N:rc UInt8}(h:eR w n a s N)(D:DF e){v:UInt8}(hv:EP v):
  Calls prog 178 #[j3 (V ⟨n,0,Y⟩),X .i32 (v.toNat:Int),oj (j2 (Am (Br e)))] w λr t=>∃(l:Option Addr) (o:Nat),r=kt (U l (Z ((JN a s v e).map AD)) o)/\
   oi t w.heap.size 170 1 (U l (Z ((JN a s v e).map AD)) o) (Z ((JN a s v e).map AD)) (((JN a s v e).map AD).flatMap Ai)/\Ac [] w t:=by
 obtain⟨kb,Q,I,G,y,A0,BA,S,W,fs,P,F,u,h4,b⟩:=h.at_;have hl:=b.len;have B0:Z y=Z a:=by have:=congrArg List.length u;simpa using this
 have hb:=h.blen;have hn:=h.len;have C:∀p∈y,∃x∈a,MA x=p.1:=λp c=>by
  have:p.1∈a.map MA:=by rw[<-u];exact mR c
  exact mD.1 this
 refine(Wr n kb Q I G y _ S W fs (v.toNat:Int) (Br e) w (I2 D) P F (by omega) (by omega) (λp c=>?_) b.pair (λT=>b.mono T) (λp c E q M j=>?_)).mono ?_
 .obtain⟨x,d,i⟩:=C p c;rw[<-i];exact(h.lits x d).2
 .obtain⟨x,d,i⟩:=C p c;have hm:q.f∈s.map Bq:=by rw[<-b.same];exact mR M
  obtain⟨g,H,B⟩:=mD.1 hm;rw[<-i]at E j⊢;have L:(x.kind==97)=jj:=by
   rw[<-Tu];have:Gu x.kind=0:=E;rw[this];rfl
  have AO:g.name=x.A.name:=by
   unfold QM at j;rw[<-B]at j;exact toList_inj (by simpa[MA,Bq] using j)
  have:=h.fit g H x d L AO;rw[<-B];simp[MA,Bq];omega
 .rintro r t ⟨l,o,m,ps,rfl,R,z,AR,k⟩;rw[u]at z;obtain⟨i,_⟩:=Zi b D hv (λx d=>(h.lits x d).1) h.fit z R;rw[<-i];exact⟨l,o,rfl,AR,k⟩
def dz{a:rc Bw}{b:rc UInt8}(h:eR w n a f b)(v:UInt8)(e:rc zA):∀t∈JN a f v e,A8 t:=by
 obtain⟨y,q,z,o,l,p,g,u,k,r,m,i,x,j,c⟩:=h.at_;exact λt d=>JV c.canon h.fit v e t ((FG a f v e t).1 d)
def dE{l:rc Bw}{a:rc UInt8}(h:eR w n l f a)(k:Nat)(m:k<Z a):
  ∃(d c:Nat) (u:ml) (g b:Nat),AI w n [j3 (V ⟨d,c,Y⟩),u,U (V ⟨g,0,Y⟩) (Z a) b] 237/\oa w ⟨g,k,Y⟩=V (X .i32 (a[k].toNat:Int)):=by
 obtain⟨d,c,z,x,G,y,C,B,D,E,p,v,F,o,A⟩:=h.at_;have j:k<Z (Dd a):=by unfold Dd;simpa using m
 obtain⟨g,b,r,t⟩:=Sf o k j;have q:Z (Dd a)=Z a:=by unfold Dd;simp
 have i:=p.zO;rw[r,q]at i;refine⟨d,c,_,g,b,i,?_⟩;have e:(Dd a)[k]=(a[k].toNat:Int):=by simp[Dd]
 rw[t,e]
