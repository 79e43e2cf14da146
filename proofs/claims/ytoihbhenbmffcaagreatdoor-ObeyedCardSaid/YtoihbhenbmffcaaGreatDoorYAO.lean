import Derived.Test.YtoihbhenbmffcaaGreatDoorYAN
set_option linter.all false
set_option maxHeartbeats 0
open List renaming length->Z
open Option renaming none->Y,some->V
open Go.Value renaming slice->U,int->X,string->O,pointer->kt
open Bool renaming false->K,true->j1
open Go.Obj renaming cells->j2
open Or renaming inl->lx,inr->ly
open Go renaming World->l9,Value->lN
open ByteArray renaming empty->lU
namespace Go.Proofs.YtoihbhenbmffcaaGreatDoor
open Go.RowKit Go.Proofs.Tryz
theorem Tryz.info82:(Tryz.prog.info? 82).map (λi=>(i.zero,i.size,i.bytes))=V (V (.agg #[O ⟨#[]⟩,U Y 0 0,X .i64 0,U Y 0 0,X .i64 0]),5,80):=by kernel_rfl
def A6.erase(c:A6):Ck:=⟨c.head,c.bl.map Prod.fst,c.at_⟩
structure OF(w:l9)(base:Nat)(lv:lN)(c:A6):Prop where
 args:w.ownsRow base 93 2 c.hv (Z c.head.args) (c.head.args.flatMap AU)
 body:w.ownsRow base 95 9 c.bv (Z c.bl) (c.bl.flatMap Bt)
 lits:∀p∈c.bl,CF w base p
 ya:Cd c.hv lv
 yY:Cd c.bv lv
 yc:∀p∈c.bl,Cd p.2 lv
def OF.cvIn{w:l9}{base:Nat}{b:lN}{c:A6}(h:OF w base b c):Yf w c:=
 ⟨Am h.args (ik _),Am h.body (ik _),λp a=>Am (h.lits p a) (ik _)⟩
def OF.kept{M:mc Nat}{w w':l9}{base:Nat}{b:lN}{c:A6}(h:OF w base b c)(k:Ac M w w')(a:∀i,i∈M->i<base):OF w' base b c:=
 ⟨Ad h.args k a,Ad h.body k a,λp d=>(h.lits p d).kept k a,h.ya,h.yY,h.yc⟩
def Ih{w w':l9}{base:Nat}{e:TypeId}{size:Nat}{v b:lN}{n:Nat}{a:mc lN}(h:w.ownsRow base e size v n a)(k:w.grownBy w' b.ownBlock)(c:Cd v b):w'.ownsRow base e size v n a:=
 h.kept k (by
  cases hv:v.ownBlock with
  |none=>exact lx rfl
  |some k=>exact ly (λe=>c k hv e.symm))
def OF.grown{w w':l9}{base:Nat}{d:lN}{c:A6}{g n cap H:Nat}(h:OF w base d c)(k:w.grownBy w' d.ownBlock)(b:d.ownBlock=V g\/g=H)(e:w.heap.size<=H):OF w' base (U (V ⟨g,0,Y⟩) n cap) c:=
 ⟨Ih h.args k h.ya,Ih h.body k h.yY,λp a=>Ih (h.lits p a) k (h.yc p a),Cd.ze h.ya h.args b e,Cd.ze h.yY h.body b e,λp a=>Cd.ze (h.yc p a) (h.lits p a) b e⟩
def E3(s:zA)(e at_:Int):Prop:=
 if 300<s.size then e=1/\at_=0
 else if(Ap s (Ae s 0)).2.2 then e=2/\at_=(Ap s (Ae s 0)).2.1
 else∃cs:mc A6,cs.map A6.erase=(Ap s (Ae s 0)).1/\(e,at_)=Cp cs
def Ug(cs:mc A6)(N:Nat)(h:∀c∈cs,Z c.bl<=N):Z (DB cs)<=Z cs*N:=by
 unfold DB
 induction cs with
 |nil=>simp
 |cons c cs ih=>
  have e:=ih (λb a=>h b (by simp[a]));have d:=h c (by simp);have f:=jn MT c.bl;simp only[il,ib,ie,gW];rw[jS];omega
def dD{s:zA}(k:s.size<=300){cs:mc A6}(j:Z cs<=300)(f:∀c∈cs,fw s c.erase)(i:∀c∈cs,ac s c.erase):ak cs:=by
 have h:∀c∈cs,Z c.bl<=301:=λc a=>by have:=(f c a).body;simp only[A6.erase,ie]at this;omega
 refine⟨by omega,λc a=>by have:=h c a;omega,λc a=>by have:=(f c a).head;simp only[A6.erase]at this;omega,λc a p e=>?_,?_,λc a=>⟨?_,λp e=>?_⟩⟩
 .have:=(f c a).lits p.1 (by simp only[A6.erase];exact it e);omega
 .have:=Ug cs 301 h;have:Z cs*301<=300*301:=iS _ j;omega
 .intro t b d;have:=(i c a).head t b d;omega
 .have g:=(i c a).body p.1 (by simp only[A6.erase];exact it e);intro t b d;unfold A4 at b;cases ha:MT p with
  |true=>
   rw[ha]at b;have:=g.atom t (by simpa using b) d;omega
  |false=>
   rw[ha]at b;simp only[gO,if_false,gP,iU,or_false]at b;rcases b with rfl|rfl
   .have:=g.left ha d;omega
   .have:=g.right ha d;omega
def WC{cs:mc A6}{i:Nat}{c:A6}{r:Int×Int}(h:B1 cs i c=V r):r.1≠0:=by
 unfold B1 at h
 repeat (split at h;· first|cases h;done|(simp only[gT]at h;subst h;simp))
 all_goals first|cases h;done|(simp only[gT]at h;subst h;simp)|skip
def O3{cs:mc A6}:∀(l:mc A6) (i:Nat) {r:Int×Int},D6 cs i l=V r->r.1≠0
 |[],_,_,h=>by simp[D6]at h
 |c::l,i,r,h=>by
  rw[D6]at h;split at h
  .rename_i b a;simp only[gT]at h;subst h;exact WC a
  .exact O3 l (i+1) h
def J4{cs:mc A6}(h:(Cp cs).1=0):Cp cs=(0,0):=by
 unfold Cp at h⊢;split
 .rename_i r b;rw[b]at h;exact absurd h (O3 _ _ b)
 .rename_i b;rw[b]at h;simp only at h;split
  .rename_i r d;rw[d]at h;obtain⟨e,c,f,_,a,_⟩:=List.findSome?_eq_some_iff.1 d;unfold Dk at a;cases hf:c.bl.find? (EE cs c)with
   |none=>rw[hf]at a;simp at a
   |some p=>rw[hf]at a;simp only[jC,gT]at a;rw[<-a]at h;simp at h
  .rfl
structure TQ(s:zA)(acc:mc A6)(a:Nat)(bd:Bool)(R:mc Ck×Nat×Bool):Prop where
 rest:(acc.map A6.erase++(EQ s a bd).1,(EQ s a bd).2)=R
 len:Z acc<=a+1
 len2:bd=K->Z acc<=a
 lens:∀c∈acc,fw s c.erase
 zM:bd=K->∀c∈acc,ac s c.erase
def TQ.step{s:zA}{acc:mc A6}{a f:Nat}{d:Bool}{R:mc Ck×Nat×Bool}{c:A6}(h:TQ s acc a K R)(p:a<s.size)(i:An s a=(c.erase,f,d)):
  AM s f d<=s.size/\2*(s.size-AM s f d)+(if d then 0 else 1)<2*(s.size-a)+1/\TQ s (acc++[c]) (AM s f d) d R:=by
 have k:=I1 s a (by omega);have r:=JA s f d;have l:=UI s a (by omega);have q:a<=f:=by
  have t:=BU s a;have v:=Kh s (Ae s a) K;have y:=VI s (AS s (Ae s a) K).2.1 (AS s (Ae s a) K).2.2;have u:=Ek s (DG s (AS s (Ae s a) K).2.1 (AS s (Ae s a) K).2.2).2.1 (DG s (AS s (Ae s a) K).2.1 (AS s (Ae s a) K).2.2).2.2 46;have e:f=(An s a).2.1:=by rw[i]
  rw[e];show a<=BX s _ _ 46;omega
 have m:d=K->a<f:=λg=>by
  have:=Pq (s:=s) (at_:=a) (by rw[i];exact g);rw[i]at this;exact this
 have n:d=K->ac s c.erase:=λg=>by
  have:=SR (s:=s) (at_:=a) (by rw[i];exact g) (by omega);rw[i]at this;exact this
 rw[i]at k l;simp only at k l;have o:=Gm s f d k;have w:=h.len2 rfl;refine⟨o,?_,⟨?_,?_,?_,?_,?_⟩⟩
 .cases d with
  |true=>simp;omega
  |false=>have:=m rfl;simp;omega
 .have j:=h.rest;unfold EQ at j;simp only[gO,if_false]at j;rw[Lb p i]at j;rw[<-j];simp
 .simp;omega
 .intro g;have:=m g;simp;omega
 .intro x b;rcases ic.1 b with b|b
  .exact h.lens x b
  .simp only[gN]at b;subst b;exact l
 .intro g x b;rcases ic.1 b with b|b
  .exact h.zM rfl x b
  .simp only[gN]at b;subst b;exact n g
def U7(s:zA)(pv:lN)(er:Int)(w:l9):Prop:=
 er=0->∃(pb:Nat) (lad:Option Addr) (lcp:Nat) (cs:mc A6),pv=kt (V ⟨pb,0,Y⟩)/\AH w pb [U lad (Z cs) lcp] 76/\Dw w (U lad (Z cs) lcp) cs/\ak cs/\s.size<=300/\(Ap s (Ae s 0)).2.2=K/\cs.map A6.erase=(Ap s (Ae s 0)).1/\Cp cs=(0,0)
set_option maxRecDepth 100000
theorem YZ(s:zA)(w:l9)(K9:s.size<=9223372036854775807):
  Calls prog 15 #[O s] w λe w'=>∃(pv:lN) (y z:Int),e=.returned (.tuple #[pv,X .i64 y,X .i64 z])/\E3 s y z/\U7 s pv y w'/\Ac [] w w':=by
 by_cases HM:300<s.size
 .have HI:Hid (E3 s 1 0):=by show E3 _ _ _;unfold E3;rw[gY HM];exact⟨rfl,rfl⟩
  go_enter func15,ntmps15;go_wp2;go_ret3;exact⟨_,1,0,rfl,HI.out,(λh=>by cases h),me _ _⟩
 .have hs:s.size<=300:=by omega
  have FB:s.size<=1000000:=by omega
  obtain⟨i0,M0,K6,Nd,MB⟩:=iR Tryz.info82;obtain⟨j,hj⟩:∃j,Ae s 0=j:=⟨_,rfl⟩;have M6:j<=s.size:=by have:=Bp s 0 (ik _);omega
  obtain⟨D,E,B,DT⟩:∃D E B,Ap s j=(D,E,B):=⟨_,_,_,rfl⟩;have HI:Hid (∀y z:Int,(if B then y=2/\z=(E:Int)else∃cs:mc A6,cs.map A6.erase=D/\(y,z)=Cp cs)->E3 s y z):=by
   intro y z h;unfold E3;rw[gV HM,hj,DT];exact h
  have R:Hid (AM s 0 K=j/\Ap s j=(D,E,B)):=⟨hj,DT⟩;clear hj DT HM K9;go_enter func15,ntmps15;go_wp2_with fail
  have H6:AH ((w.alloc (j2 #[O s,X .i64 0,.bool K] 73)).alloc (j2 #[U Y 0 0] 76)) w.heap.size (BO s 0 K) 73:=(mf w (BO s 0 K) 73).alloc _;have HR:AH ((w.alloc (j2 #[O s,X .i64 0,.bool K] 73)).alloc (j2 #[U Y 0 0] 76)) (w.heap.size+1) [U Y 0 0] 76:=by
   have h:=mf (w.alloc (j2 #[O s,X .i64 0,.bool K] 73)) [U Y 0 0] 76;rw[iz]at h;exact h
  refine(Dx w.heap.size s 0 K _ FB (ik _) H6).mono ?_;rintro e w2 ⟨rfl,i,HG⟩;rw[R.out.1]at i;have l:=HR.kept HG (by simp);have HW:Ac [] w w2:=(((me [] w).alloc _).alloc _).trans' HG (by simp);clear H6 HR HG;go_wp2_with fail
  go_loopg [] (2*(s.size-j)+1) (λgk wr=>∃(a:Nat) (bd:Bool) (b:mc A6) (lv:lN),a<=s.size/\gk=2*(s.size-a)+(if bd then 0 else 1)/\Hid (TQ s b a bd (D,E,B))/\AH wr w.heap.size (BO s a bd) 73/\AH wr (w.heap.size+1) [lv] 76/\
   wr.ownsRow (w.heap.size+2) 82 5 lv (Z b) (b.flatMap CR)/\Hid (∀c∈b,OF wr (w.heap.size+2) lv c)/\Ac [] w wr)
  case atStart=>
   refine⟨j,K,[],U Y 0 0,M6,by simp,⟨?_,by simp,by simp,by simp,by simp⟩,i,l,ip _ _ _ _,λc g=>by simp at g,HW⟩;unfold EQ;simp[R.out.2]
  case round=>
   clear i l HW;obtain⟨a,bd,b,lv,ha,q,A,i,l,m,HD,hK⟩:=hrel;have HK:=Ab q;clear q;obtain⟨r,u,rfl⟩:=Al m;have NN:=i.lt;have NV:=l.lt;have c0:=i.cell 0;have c1:=i.cell 1;have c2:=i.cell 2;have p0:=l.cell 0;have pf:=l.frozen 0;simp[BO]at c0 c1 c2 p0;cases bd with
   |true=>
    (have FP:Hid ((b.map A6.erase,a,j1)=(D,E,B)):=by have h:=A.out.rest;show _=_;simpa[EQ] using h);go_wp2_with fail
    go_quiet (fail)
    (go_wp2_with fail);go_ret3;have d:=FP.out;simp only[iE]at d;exact⟨_,2,a,rfl,HI.out 2 a (by rw[<-d.2.2,<-d.2.1];exact⟨rfl,rfl⟩),(λh=>by cases h),hK.drewN _⟩
   |false=>
    by_cases HV:a<s.size
    ·(have N4:(a:Int)<(s.size:Int):=by omega);obtain⟨f,Q,F,HO⟩:∃f Q F,An s a=(f,Q,F):=⟨_,_,_,rfl⟩;(have NB:Q<=s.size:=by have:=I1 s a ha;rw[HO]at this;exact this);have NL:Z b<=a:=A.out.len2 rfl;have Ix:=Ab HO;clear HO;go_wp2_with fail
     go_region_law
      (first
       |(go_simp;go_at_call 44;refine(Pg w.heap.size s a _ FB ha (by first|exact i|exact i.drew)).mono ?_;rintro e G ⟨hv,bv,x,rfl,hH,HB,CC,HC,EM,I⟩;rw[Aa Ix]at hH HB EM⊢;obtain⟨W,S,rfl⟩:=Al hH;obtain⟨P,N,rfl⟩:=Al CC;have A2:=l.drew.kept I (by simp);have pc:=A2.cell 0;have L0:=A2.frozen 0;have HP:=λo=>(A2.alloc o).cell 0;simp at pc HP;simp only[DZ])
       |(refine lc _ (by rfl) _ _ _ (by rfl) (w.heap.size+2) 82 i0 _ 5 80 underlying74 M0 K6 Nd MB rfl (by omega) (U r (Z b) u) (Z b) (b.flatMap CR) (by rfl) ((Ad (IY m) I (by simp)).alloc _) ⟨G.heap.size,0,Y⟩ 1 1 (DZ f (U W (Z f.head.args) S) (U P (Z x) N)) (by rfl) (by rfl) (iu (cs:=(DZ f (U W (Z f.head.args) S) (U P (Z x) N)).toArray) (t:=82) (fr:=(0,0)) (iD G _)) (by simp[Value.oneCell',DZ]) (by omega) (by unfold maxLen;omega) (by omega) (by simp;have:=I.size;simp at this;omega) (G.heap.size+1) (by simp) ?_;intro v cap w5 HE A0 H2 MN;have B2:=(A2.alloc _).grown A0 (A5 m (w.heap.size+1) (by omega));have JJ:=B2.cell 0;have LM:=B2.frozen 0;simp at JJ))
     all_goals
      have NM:=I.size;have NX:=(HE.lt v rfl).1;have H9:A6.erase ⟨f.head,U W (Z f.head.args) S,U P (Z x) N,x,f.at_⟩=f:=by
       unfold A6.erase;simp only[HB]
      obtain⟨H,BT⟩:∃H:A6,H=⟨f.head,U W (Z f.head.args) S,U P (Z x) N,x,f.at_⟩:=⟨_,rfl⟩;rw[<-BT]at H9;(have HS:DZ f (U W (Z f.head.args) S) (U P (Z x) N)=CR H:=by rw[BT];rfl);have Jx:=Ab (A.out.step HV (by rw[Aa Ix,H9]));have HU:OF G (w.heap.size+2) (U r (Z b) u) H:=by
       (have Ha:w.heap.size+2<=wr.heap.size:=by omega);have e1:Cd (U W (Z f.head.args) S) (U r (Z b) u):=λk q he=>by
        have h1:wr.heap.size<=k:=(hH.lt k q).1;have d:=(m.lt k he).2;omega
       have e2:Cd (U P (Z x) N) (U r (Z b) u):=λk q he=>by
        have h1:wr.heap.size<=k:=(CC.lt k q).1;have d:=(m.lt k he).2;omega
       have e3:∀p∈x,Cd p.2 (U r (Z b) u):=λp hp k q he=>by
        have h1:wr.heap.size<=k:=(World.ownsRow.lt (HC p hp) k q).1;have d:=(m.lt k he).2;omega
       rw[BT];exact⟨Am hH Ha,Am CC Ha,λp hp=>Am (HC p hp) Ha,e1,e2,e3⟩
      have H7:Hid (∀c∈b++[H],OF (w5.setCell ⟨w.heap.size+1,0,Y⟩ (U (V ⟨v,0,Y⟩) (Z b+1) cap)) (w.heap.size+2) (U (V ⟨v,0,Y⟩) (Z b+1) cap) c):=by
       intro c g;have h0:OF G (w.heap.size+2) (U r (Z b) u) c:=by
        rcases ic.1 g with g|g
        .exact((HD.out c g).kept (w':=wr.drew) (M:=[]) (me [] wr).drew (by simp)).kept I (by simp)
        .simp only[gN]at g;subst g;exact HU
       (have h1:∀o,OF (G.alloc o) (w.heap.size+2) (U r (Z b) u) c:=λo=>h0.kept ((me [] G).alloc o) (by simp));have d:=OF.grown (n:=Z b+1) (cap:=cap) (h1 _) A0 H2 (by simp);exact d.kept ((me [w.heap.size+1] w5).setCell (p:=⟨w.heap.size+1,0,Y⟩) (by simp) _) (by simp)
      have H8:=((EM.alloc _).grown A0 (A5 m w.heap.size (by omega))).zB ⟨w.heap.size+1,0,Y⟩ (by simp) (U (V ⟨v,0,Y⟩) (Z b+1) cap);have H3:=B2.set 0 (U (V ⟨v,0,Y⟩) (Z b+1) cap);have HQ:=(((hK.drew.trans' I (by simp)).alloc _).grown A0 (λk q=>ly (by have:=(m.lt k q).1;omega))).setCell (p:=⟨w.heap.size+1,0,Y⟩) (by simp) (U (V ⟨v,0,Y⟩) (Z b+1) cap);have EK:=Ag HE (p:=⟨w.heap.size+1,0,Y⟩) (by simp[Value.ownBlock];omega) (U (V ⟨v,0,Y⟩) (Z b+1) cap);rw[HS]at EK;have K1:=HK;clear HE B2 JJ LM A0 H2 MN A2 pc L0 HP hH CC HC EM I HU m i l hK HD c0 c1 c2 p0 pf HS BT HB;(go_wp2_with fail);refine(Dx w.heap.size s Q F _ FB NB H8).mono ?_;rintro e w6 ⟨rfl,LS,Ax⟩;have K4:=H3.kept Ax (by simp);have K2:=Ad EK Ax (by simp);(have MY:Hid (∀c∈b++[H],OF w6 (w.heap.size+2) (U (V ⟨v,0,Y⟩) (Z b+1) cap) c):=λc g=>(H7.out c g).kept Ax (by simp));have LC:=HQ.trans' Ax (by simp);clear H8 H3 HQ EK H7 Ax;go_wp2_with fail
      go_roundg (2*(s.size-AM s Q F)+(if F then 0 else 1))
      case measure=>have h1:=Jx.2.1;have d:=Aa K1;simp at d;omega
      case rel=>
       obtain⟨t1,_,t3⟩:=Jx;refine⟨AM s Q F,F,b++[H],U (V ⟨v,0,Y⟩) (Z b+1) cap,t1,rfl,t3,LS,K4,?_,MY,LC⟩;simpa using K2
    ·(have FP:Hid ((b.map A6.erase,a,K)=(D,E,B)):=by have h:=A.out.rest;show _=_;simpa[EQ,L3 HV] using h);(have hd:decide ((a:Int)<(s.size:Int))=K:=by simp;omega);have Go:Dw wr (U r (Z b) u) b:=⟨Am m (ik _),λc g=>(HD.out c g).cvIn⟩;have EY:ak b:=dD hs (by have:=A.out.len2 rfl;omega) A.out.lens (A.out.zM rfl);obtain⟨SP,FO⟩:∃SP,Cp b=SP:=⟨_,rfl⟩;have FA:=Ab FO;have T:=Y9 (w.heap.size+1) _ b wr l Go EY;rw[FO]at T;have HT:=Ab T;have M3:=Ab Go;have LE:=Ab EY;clear T FO Go EY;(go_wp2_with fail);refine HT.mono ?_;rintro e w3 ⟨rfl,B9⟩;have HX:=hK.trans B9;have Nq:=Ab (l.kept B9 (by simp));have M1:=Ab (M3.kept B9);clear HT B9 hK c0 c1 c2 p0 pf i l m;have d:=FP.out;simp only[iE]at d;obtain⟨L,sa⟩:=SP;simp only;by_cases C:L=0
     .have HZ:Hid (E3 s 0 0):=HI.out 0 0 (by rw[<-d.2.2];exact⟨b,d.1,by rw[J4 (by rw[Aa FA];exact C)]⟩);have K8:Hid (U7 s (kt (V ⟨w.heap.size+1,0,Y⟩)) 0 w3):=by
       intro _;refine⟨_,r,u,b,rfl,Nq,M1,LE,hs,?_,?_,J4 (by rw[Aa FA];exact C)⟩
       .rw[show Ae s 0=j from R.out.1,R.out.2];exact d.2.2.symm
       .rw[show Ae s 0=j from R.out.1,R.out.2];exact d.1
      (have KK:(L !=0)=K:=by simp[C]);clear d C;(go_wp2_with fail);go_ret3;exact⟨_,0,0,rfl,HZ.out,K8.out,HX⟩
     .have HZ:Hid (E3 s L sa):=HI.out L sa (by rw[<-d.2.2];exact⟨b,d.1,FA.symm⟩);(have KK:(L !=0)=j1:=by simp[C]);have KS:=Ab C;clear d C;(go_wp2_with fail);go_ret3;exact⟨_,L,sa,rfl,HZ.out,(λh=>absurd h KS),HX⟩
def Ak(c:A6):mc Bi:=c.bl.map Prod.fst
def CI(c:A6)(σ:UInt8->zA):Gr Af:=
 ⟨((Ak c).filter λx=>x.kind==97).map λx=>Bu σ x.A,((Ak c).filter λx=>x.kind==33).map λx=>Bu σ x.A,Bu σ c.head⟩
def Rf(c:A6)(σ:UInt8->zA):Prop:=∀x∈Ak c,(x.kind==97)=K->(x.kind==33)=K->CH (Bu σ) (Eb σ) [] x=j1
def Fi(cs:mc A6)(i:Gr Af):Prop:=∃c∈cs,∃σ,Rf c σ/\i=CI c σ
def VJ{f:Df->Af}{v:AE->zA}{s t:mc Af}{x:Bi}(a:(x.kind==97)=K)(b:(x.kind==33)=K):CH f v s x=CH f v t x:=by
 unfold CH;rw[a,b];rfl
def FJ(c:A6)(σ:UInt8->zA)(s:mc Af):(∀x∈Ak c,CH (Bu σ) (Eb σ) s x=j1)↔Jz (CI c σ) (·∈s) (·∈s)/\Rf c σ:=by
 constructor
 .intro h;refine⟨⟨λg i=>?_,λg i l=>?_⟩,λx a f e=>?_⟩
  .obtain⟨x,a,rfl⟩:=gX.1 i;obtain⟨a,b⟩:=ir.1 a;have d:=h x a;unfold CH at d;rw[gY b,BY]at d;exact d
  .obtain⟨x,a,rfl⟩:=gX.1 i;obtain⟨a,b⟩:=ir.1 a;have d:=h x a;have j:(x.kind==97)=K:=by
    (have:x.kind=33:=by simpa using b);rw[this];rfl
   unfold CH at d;rw[gV (by rw[j];simp),gY b,(BY _ _).2 l]at d;cases d
  .rw[VJ f e (t:=s)];exact h x a
 .rintro ⟨⟨f,e⟩,k⟩ x a;cases b:(x.kind==97)with
  |true=>
   unfold CH;rw[b,gY rfl,BY];exact f _ (gX.2 ⟨x,ir.2 ⟨a,b⟩,rfl⟩)
  |false=>
   cases hk2:(x.kind==33)with
   |true=>
    unfold CH;rw[b,hk2,gV (by simp),gY rfl];cases d:D9 s (Bu σ x.A)with
    |false=>rfl
    |true=>exact absurd ((BY _ _).1 d) (e _ (gX.2 ⟨x,ir.2 ⟨a,hk2⟩,rfl⟩))
   |false=>
    rw[VJ b hk2 (t:=[])];exact k x a b hk2
structure TR(cs:mc A6):Prop where
 args:∀c∈cs,∀x∈Ak c,(x.kind==97)=j1->∀t∈x.A.args,BK t
 safe:∀c∈cs,∀x∈Ak c,(x.kind==97)=K->((x.kind==33)=j1->∀t∈x.A.args,FK (Ak c) t)/\((x.kind==33)=K->FK (Ak c) x.L/\FK (Ak c) x.R)
 head:∀c∈cs,∀t∈c.head.args,FK (Ak c) t
structure Cn(cs:mc A6)(zS:zA->Nat):Prop where
 pos:∀c∈cs,∀x∈Ak c,(x.kind==97)=j1->zS x.A.name<=zS c.head.name
 neg:∀c∈cs,∀x∈Ak c,(x.kind==33)=j1->zS x.A.name<zS c.head.name
def Cn.zX{cs:mc A6}{j:zA->Nat}(h:Cn cs j):KX (Fi cs) (λf=>j f.name):=by
 refine⟨?_,?_⟩
 .rintro i ⟨c,e,σ,_,rfl⟩ g d;obtain⟨x,a,rfl⟩:=gX.1 d;obtain⟨a,b⟩:=ir.1 a;exact h.pos c e x a b
 .rintro i ⟨c,e,σ,_,rfl⟩ g d;obtain⟨x,a,rfl⟩:=gX.1 d;obtain⟨a,b⟩:=ir.1 a;exact h.neg c e x a b
def bO{cs:mc A6}{a:zA->Nat}(k:Cn cs a)(v:TR cs){n:Nat}{b s:mc Af}(t:Ds (Fi cs) (λf=>a f.name) n (·∈s))(w:∀f∈b,f∈s)(r:∀f∈s,f∈b\/a f.name=n)(p:∀f∈b,Kx f)
  {c:A6} (o:c∈cs) (m:a c.head.name=n) {e:mc zA} (x:e∈BW (Ak c) b):Ds (Fi cs) (λf=>a f.name) n (λf=>f∈s\/f=AB e c.head):=by
 have q:=GM p (v.args c o) x;have i:Jz (CI c (Iv e)) (·∈b) (·∈b)/\Rf c (Iv e):=(FJ c (Iv e) b).1 q;have l:Fi cs (CI c (Iv e)):=⟨c,o,Iv e,i.2,rfl⟩;have j:(CI c (Iv e)).head=AB e c.head:=rfl;have:=t.step (Fi cs) (λf=>a f.name) k.zX l (by rw[j];exact m) ⟨λg d=>w g (i.1.1 g d),λg d u=>by
  rcases r g u with h|h
  .exact i.1.2 g d h
  .have z:a g.name<a (CI c (Iv e)).head.name:=k.zX.neg _ l g d
   have y:a (CI c (Iv e)).head.name=n:=by rw[j];exact m
   omega⟩
 rw[j]at this;exact this
def ZO{cs:mc A6}{a:zA->Nat}(d:TR cs){n:Nat}{s:mc Af}(j:Ds (Fi cs) (λf=>a f.name) n (·∈s))(u:∀f∈s,Kx f)
  (h:∀c∈cs,a c.head.name=n->∀e∈BW (Ak c) s,AB e c.head∈s):Ds (Fi cs) (λf=>a f.name) (n+1) (·∈s):=by
 refine j.next (Fi cs) (λf=>a f.name) ?_;rintro i ⟨c,b,σ,o,rfl⟩ v r;have m:=(FJ c σ s).2 ⟨r,o⟩;obtain⟨e,k,l⟩:=Of u (d.args c b) σ m (d.safe c b);have g:=h c b v e k;have q:AB e c.head=Bu σ c.head:=by
  unfold AB Bu;rw[iY (λt p=>l t (d.head c b t p))]
 rw[q]at g;exact g
def cn{cs:mc A6}{a b:zA->Nat}(o:Cn cs a)(n:Cn cs b){h k:Nat}{M N:Af->Prop}(l:Ds (Fi cs) (λf=>a f.name) h M)(q:Ds (Fi cs) (λf=>b f.name) k N)(m:∀c∈cs,a c.head.name<h)(p:∀c∈cs,b c.head.name<k):∀f,M f↔N f:=by
 have j:=l.done (Fi cs) (λf=>a f.name) (λi e=>by obtain⟨c,d,σ,_,rfl⟩:=e;exact m c d);have g:=q.done (Fi cs) (λf=>b f.name) (λi e=>by obtain⟨c,d,σ,_,rfl⟩:=e;exact p c d);exact Zn (Fi cs) _ _ o.zX n.zX j.1 j.2 g.1 g.2
def Sw{w:l9}{v:lN}{cs:mc A6}(h:Dw w v cs)(k:Nat)(d:k<Z cs):
  ∃g r a i f e j b l,v=U (V ⟨g,0,Y⟩) (Z cs) r/\cs[k]=⟨a,U i (Z a.args) f,U e (Z b) j,b,l⟩/\Yf w ⟨a,U i (Z a.args) f,U e (Z b) j,b,l⟩/\
   w.cell? ⟨g,k*5,Y⟩=V (O a.name)/\w.cell? ⟨g,k*5+1,Y⟩=V (U i (Z a.args) f)/\w.cell? ⟨g,k*5+2,Y⟩=V (X .i64 a.at_)/\w.cell? ⟨g,k*5+3,Y⟩=V (U e (Z b) j):=by
 obtain⟨g,r,y,_,m⟩:=AF h.row (λc _=>BQ c) k d;have n:=h.each _ (gL d);have s:=m k d 0 (by omega);have q:=m k d 1 (by omega);have o:=m k d 2 (by omega);have p:=m k d 3 (by omega);obtain⟨⟨a,z,A,b,l⟩,x⟩:∃c,cs[k]=c:=⟨_,rfl⟩;rw[x]at s q o p n;obtain⟨i,f,u⟩:=Al n.args;obtain⟨e,j,t⟩:=Al n.body;simp only at u t;subst u t;simp[CR]at s q o p;exact⟨g,r,a,i,f,e,j,b,l,y,x,n,s,q,o,p⟩
def CB(n:Nat):mc lN:=[X .i64 n]
def PD(f:zA->Nat)(p:Bj):Nat:=if p.1.kind==97 then f p.1.A.name else if p.1.kind==33 then f p.1.A.name+1 else 0
def WO(f:zA->Nat)(n:Nat)(bl:mc Bj):Nat:=bl.foldl (λn p=>max n (PD f p)) n
def RA(f:zA->Nat)(x:zA)(n:Nat)(c:A6):Nat:=if c.head.name.toList==x.toList then WO f n c.bl else n
def DH(cs:mc A6):Nat->zA->Nat
 |0,_=>0
 |d+1,x=>cs.foldl (RA (DH cs d) x) 0
def cO(e:mc zA)(v:Nat)(s:zA):zA:=if v=0 then s else e.getD (v-65) lU
theorem Pw(b E:Nat)(e:mc zA)(v:Nat)(s:zA)(w:l9)(F:Z e=26)(o:AH w b (Aj e) E)(p:v=0\/(65<=v/\v<=90)):
  Calls prog 180 #[kt (V ⟨b,0,Y⟩),.agg [Value.int .i32 v,O s].toArray] w λr f=>r=.returned (O (cO e v s))/\Ac [] w f:=by
 have x:=o.lt;have I:Z (Aj e)=26:=by unfold Aj;simp[F]
 have q:Hid (∀i (h:i<26),(Aj e)[i]?=V (O (e.getD i lU))):=by
  intro i h;unfold Aj;rw[jf,ia,gS (by omega)];rfl
 obtain⟨R,n⟩:∃R,cO e v s=R:=⟨_,rfl⟩;rw[n];have m:Hid ((if v=0 then s else e.getD (v-65) lU)=R):=n;have k:=Ab ((me [] w).alloc (j2 [.int .i32 v,O s].toArray 215));have g:=Ab (o.alloc (j2 [.int .i32 v,O s].toArray 215));clear n;by_cases a:v=0
 .have c:Hid (s=R):=by have h:=Aa m;rw[gY a]at h;exact h
  subst a;go_enter func180,ntmps180;go_wp2;go_ret;rw[<-Aa c];exact⟨rfl,k⟩
 .have c:Hid (e.getD (v-65) lU=R):=by have h:=Aa m;rw[gV a]at h;exact h
  have C:65<=v/\v<=90:=by
   rcases p with h|h
   .exact absurd h a
   .exact h
  have z:((v:Int)==0)=K:=by rw[iw];omega
  obtain⟨j,t⟩:∃j,v-65=j:=⟨_,rfl⟩;have A:v=j+65:=by omega
  rw[t]at c;have y:j<26:=by omega
  subst A;have B:(((j+65:Nat)):Int)=(j:Int)+65:=by omega
  rw[B]at k g z⊢;have l:=g.cell j;rw[Aa q j y]at l;generalize e.getD j lU=X at c l;have d:=mf w [.int .i32 ((j:Int)+65),O s] 215;clear m t C p a o q;have M:(0:Int)<=(j:Int):=by omega
  have H:(j:Int)<26:=by omega
  have D:IntKind.i32.wrap (j:Int)=j:=by rw[IntKind.wrap_i32];omega
  have G:IntKind.i32.wrap ((j:Int)+65-65)=j:=by rw[show(j:Int)+65-65=j by omega];exact D
  go_enter func180,ntmps180;go_wp2;change Code.wp _ _ _ _ (w.alloc (j2 [.int .i32 ((j:Int)+65),O s].toArray 215));generalize w.alloc (j2 [.int .i32 ((j:Int)+65),O s].toArray 215)=w1 at k g d l⊢;generalize w.heap.size=N at d x⊢;have u:=d.cell 0;simp at u;have L:=Ab d;clear d g
  go_region_held3 (λf=>f.cell? ⟨b,j,Y⟩=V (O X)/\f.cell? ⟨N,0,Y⟩=V (.int .i32 ((j:Int)+65))) (go_keep) (fail)
  go_wp2;all_goals
   go_ret;rw[<-Aa c];refine⟨rfl,?_⟩
   repeat (first|exact k|refine Ac.drew ?_|refine Ac.alloc ?_ _|refine Ac.drewN ?_ _)
def Wi(cs:mc A6)(p:Bj):Bool:=MT p&&((decide (0<=Dv cs p.1.A.name)&& !(Dv cs p.1.A.name==(Z p.1.A.args:Int)))||decide (2<Z p.1.A.args))
def JK:Df:=⟨lU,[],0⟩
def Vt(cs:mc A6)(bl:mc Bj):Int×Int:=
 match bl.find? (Wi cs)with
 |some p=>(4,p.1.A.at_)
 |none=>if 0<=D5 JK bl then(5,D5 JK bl)else(0,0)
def OZ(s:zA)(cs:mc A6)(er at_:Int):Prop:=
 if 300<s.size then er=1/\at_=0
 else if(Bl s 0).2.2=j1\/Ae s (Bl s 0).2.1<s.size then er=2/\at_=(AM s (Bl s 0).2.1 (Bl s 0).2.2:Int)
 else if 3<Z (Bl s 0).1 then er=3/\at_=0
 else∃bl:mc Bj,bl.map Prod.fst=(Bl s 0).1/\(er,at_)=Vt cs bl
def Pf(cs:mc A6)(p:Bj){A:Int}(d:Dv cs p.1.A.name=A){n:Nat}(e:Z p.1.A.args=n):
  (Wi cs p=j1/\MT p=j1/\((0<=A/\(A==(n:Int))=K/\¬A=(n:Int)/\True)\/(0<=A/\(A==(n:Int))=j1/\A=(n:Int)/\(2:Int)<(n:Int))\/(A<0/\True/\True/\(2:Int)<(n:Int))))\/
  (Wi cs p=K/\(MT p=K\/(MT p=j1/\((0<=A/\(A==(n:Int))=j1/\A=(n:Int)/\¬(2:Int)<(n:Int))\/(A<0/\True/\True/\¬(2:Int)<(n:Int)))))):=by
 unfold Wi;rw[d,e];cases hi:MT p with
 |false=>exact ly ⟨rfl,lx rfl⟩
 |true=>
  by_cases c:0<=A
  .by_cases a:A=(n:Int)
   .by_cases b:2<n
    .exact lx ⟨by simp[b],rfl,ly (lx ⟨c,by simp[a],a,by omega⟩)⟩
    .exact ly ⟨by simp[b,a],ly ⟨rfl,lx ⟨c,by simp[a],a,by omega⟩⟩⟩
   .exact lx ⟨by simp[c,a],rfl,lx ⟨c,by simp[a],a,trivial⟩⟩
  .by_cases b:2<n
   .exact lx ⟨by simp[b],rfl,ly (ly ⟨by omega,trivial,trivial,by omega⟩)⟩
   .exact ly ⟨by simp[b,c],ly ⟨rfl,ly ⟨by omega,trivial,trivial,by omega⟩⟩⟩
