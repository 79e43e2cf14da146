import Derived.Test.YtoihbhenbmffcaaGreatDoorFBB
import Derived.Test.YtoihbhenbmffcaaGreatDoorFAQ
set_option linter.all false
set_option maxHeartbeats 0
open List renaming length->Z
open Option renaming none->Y
open Go.Value renaming slice->U,pointer->m2
namespace Go.Proofs.YtoihbhenbmffcaaGreatDoor
open Go.RowKit Go.Proofs.Tryz
variable{p:pM Dy}{c:pM A4}{n m i:Nat}{w v:World}{z:Value}
structure M9(pcs:pM Dy)(rcs:pM A4):Prop where
 zv:F2 RX pcs rcs
 pass:Cf rcs
 zK:∀c∈pcs,KF c.pc
 names:∀c∈pcs,c.hn.size<=1000000/\∀p∈c.zH,p.1.an.size<=1000000
def M9.len(h:M9 p c):Z p<=12:=by rw[h.zv.lenX];exact h.pass.order.small.1
def M9.fit{a:pM A4}(h:M9 p a){c:Dy}(b:c∈p):j9 c:=(RH (h.zK c b)).1
def M9.litW{i:pM Dy}{n:pM A4}(h:M9 i n){c:Dy}{r:A4}(y:c∈i)(k:r∈n)(v:RX c r):∀x∈Al r,P6 (LU x):=by
 intro x o;obtain⟨q,g,rfl⟩:=lk.1 o;obtain⟨p,s,j⟩:=v.lits.mem q g;have b:=h.pass.lits r k q.1 o;have f:=(h.pass.order.small.2 r k).2.2 q g;have z:Z q.1.A.args<=2:=by
  unfold BF at f;have:=oJ f;omega
 have e:=(h.zK c y).lits p.1 (by simp only[Dy.pc];exact lB s);rw[j.eq]at e;unfold Db at b;by_cases d:(q.1.kind==97||q.1.kind==33)=true
 .rw[ln d]at b;have m:=e.bare (by rw[IB];exact d);refine⟨by show Z (q.1.A.args.map ct)<=1000;rw[lm];omega,λt a=>?_,by rw[m.1];exact Or.inl rfl,by rw[m.2];exact Or.inl rfl⟩;obtain⟨u,w,rfl⟩:=lk.1 a;exact Km (b.args u w)
 .rw[li d]at b;have l:=j.plain (by unfold MF;simpa using d);refine⟨by show Z (q.1.A.args.map ct)<=1000;rw[l];simp,λt a=>?_,Km b.1,Km b.2.1⟩;have a:t∈q.1.A.args.map ct:=a;rw[l]at a;simp at a
def M9.zb{b:pM A4}(h:M9 p b){L:zA->Nat}{s:pM Af}(a:GF b L n s):Eb s/\(∀f∈s,AL f)/\Z s<=6912:=by
 have i:=a.len h.pass.prog.zL;have g:=Oe h.pass.order.small.1 (λc e=>(h.pass.order.small.2 c e).2.1);exact⟨a.zM,λf d=>(a.zW f d).canon h.pass.prog.zL,by omega⟩
def M9.cl(h:M9 p c){L:zA->Nat}{s:pM Af}(k:GF c L n s)(i:m<Z p)(g:m<Z c):QK p[m] c[m] s:=by
 have j:=h.zv.at m i g;have e:p[m]∈p:=kV i;have a:c[m]∈c:=kV g;have o:=h.zb k;refine⟨j,(h.fit e).pc,(h.fit e).zQ,λx b=>⟨h.pass.lits _ a x b,h.litW e a j x b⟩,XA h.pass.prog.zK a (h.pass.lits _ a),h.pass.zL _ a,λf r x b q v=>?_,o.2.1,by omega⟩;obtain⟨d,l,t,u⟩:=(k.zW f r).zb;rw[u];exact h.pass.order.ar3 d l _ a x b q (by rw[<-t];exact v)
def M9.steps(h:M9 p c){L:zA->Nat}(w:CR c L){s:pM Af}(g:GF c L n s){l:pM (Nat×GZ Af)}(M:Zk c l s)(u:m<Z p)(o:m<Z c)(B:L c[m].head.name=n):Z4 p (λl s=>GF c L n s/\Zk c l s) m c[m] l s:=by
 have d:=h.cl g u o;have z:c[m]∈c:=kV o;have y:∀v e,∀t∈Jc (Al c[m]) s v e,t.size≠0:=λv e t q=>(d.al v e t q).size
 have k:∀f∈IH c[m] s,f∉s/\∃σ,(∀x∈Al c[m],Cg (Bm σ) (Ed σ) s x=true)/\f=Bm σ c[m].head:=λf a=>Un d.parts y a
 have C:∀j,GF c L n (((IH c[m] s).take j).foldl A3 s):=λj=>(LA (h.pass.other w) g z B ((IH c[m] s).take j) s (λf a=>(k f (mD a)).2) g (λf a=>a) (λf a=>Or.inl a)).1
 have i:∀f∈IH c[m] s,AL f/\Z f.args<=1000:=by
  intro f a;unfold IH Ss at a;obtain⟨b,D,rfl⟩:=lk.1 a;have N:=Mv d.al d.parts d.head (lK.1 D).1;refine⟨GJ N,?_⟩;have:=(h.pass.order.small.2 _ z).2.1;unfold Aq;simp only[lm];omega
 have A:=Es c[m].head.args [] nG;have r:(IH c[m] s).Nodup:=aY (λv e=>TE d.canon d.fitA v e) y d.parts A.2.1 (λv I=>by
  rcases(A.2.2 v).1 I with h|⟨_,t,q,e⟩
  .simp at h
  .exact⟨t,q,e⟩)
 refine⟨u,d,r,λf a=>⟨(k f a).1,(i f a).1,(i f a).2⟩,?_,λP G E j=>⟨C j,M.batch w g.zM d.canon (λf a=>g.work.top f a) o B r (λf a=>⟨(k f a).1,(i f a).1⟩) G E j⟩⟩;have H:=Xm (IH c[m] s) s g.zM d.canon r (λf a=>⟨(k f a).1,(i f a).1⟩);have F:=(h.zb (C (Z (IH c[m] s)))).2.2;rw[ni,H]at F;omega
def JX(rcs:pM A4)(ns:pM Nat):pM A4:=ns.filterMap λi=>rcs[i]?
def Xe{b:pM A4}{R:Nat->A4->Prop}:∀(a:pM Nat),(∀i∈a,∃h:i<Z b,R i b[i])->F2 R a (JX b a)
 |[],_=>F2.nil
 |i::a,h=>by
  obtain⟨f,d⟩:=h i (by simp);have ih:=Xe a (λj c=>h j (by simp[c]));have e:JX b (i::a)=b[i]::JX b a:=by
   unfold JX;rw[oU,lc f]
  rw[e];exact F2.cons d ih
def JU(h:F2 RX p c)(a:i<Z c):G8 p i=c[i].head.name:=by
 have b:i<Z p:=by rw[h.lenX];exact a
 have:=(h.at i b a).hn;unfold G8;rw[lc b];exact this
def bC{b:pM A4}(h:F2 RX p b){L:zA->Nat}(c:A4):c∈JX b ((List.range (Z p)).filter λi=>L (G8 p i)==n)↔c∈b/\L c.head.name=n:=by
 unfold JX;rw[m3];constructor
 .rintro ⟨i,a,e⟩;obtain⟨a,f⟩:=lK.1 a;obtain⟨d,rfl⟩:=nS.1 e;rw[JU h d]at f;exact⟨kV d,by simpa using f⟩
 .rintro ⟨g,j⟩;obtain⟨i,a,rfl⟩:=lX g;refine⟨i,lK.2 ⟨oQ.2 (by rw[h.lenX];exact a),?_⟩,lc a⟩;rw[JU h a];simpa using j
def Gv.parts(h:Gv w v){b:pM P7}(a:El w n z b):El v n z b:=⟨h.row a.row (by decide) (by decide) (by decide),λp c=>h.row (a.each p c) (by decide) (by decide) (by decide),a.apart⟩
def jW(lad:Option Addr)(lcp:Nat)(pcs:pM Dy)(rcs:pM A4)(w:World)(r:Ending)(w':World):Prop:=∃(cb:Nat) (s:pM Af) (hs:pM (Nat×GZ Af)) (L:zA->Nat) (N:Nat),r=.returned (m2 (some ⟨cb,0,Y⟩))/\ME w cb (U lad (Z pcs) lcp) [] [] s hs w'/\Zk rcs hs s/\CR rcs L/\GF rcs L N s/\∀c∈rcs,L c.head.name<N
set_option maxRecDepth 100000
theorem Md(m:Option Addr)(j:Nat)(b:pM Dy)(a:pM A4)(w:World)(hP:DE w (U m (Z b) j) b)(A:M9 b a):
  Calls prog 74 #[U m (Z b) j] w λr G=>jW m j b a w r G:=by
 have HO:=A.len;have B9:∀x,B5 a 6 x<=6:=Se a 6;have FP:EB a (B5 a 6)<=100000:=by
  have P:∀(l:pM A4),EB l (B5 a 6)<=Z l*6:=λl=>by
   induction l with
   |nil=>simp[EB]
   |cons c l ih=>
    (have e:EB (c::l) (B5 a 6)=B5 a 6 c.head.name+EB l (B5 a 6):=by unfold EB;simp);have:=B9 c.head.name;rw[e,lj,nA];omega
  have h2:=P a;have h3:=A.pass.order.small.1;omega
 have FF:Hid (∀t,Ac [] w t->Calls prog 123 #[U m (Z b) j] t λr G=>aA b a (B5 a 6) t r G):=λt hk=>YV m j b a t (B5 a 6) (hP.kept hk) A.zv (by omega) (λc hc=>(A.fit hc).pc.lits) A.names A.pass.prog.lay (λx=>by have:=B9 x;omega) FP
 have HN:=Ab hP;have z:=Ab A;have FB:=Ab HO;have I:Hid (ME w w.heap.size (U m (Z b) j) [] [] [] [] (w.alloc (.cells [U m (Z b) j,U Y 0 0,U Y 0 0].toArray 139))):=⟨(pO [] w).alloc _,lC _,Y,0,[],Y,0,[],pP w _ 139,⟨lH _ _ _ _,λp R=>by simp at R⟩,⟨rfl,List.Pairwise.nil,λf hf=>by simp at hf⟩,lH _ _ _ _,λq hq=>by simp[Value.ownBlock]at hq,λq hq=>by simp,rfl,λp R=>by simp at R⟩;obtain⟨y,HB⟩:=pN w.heap.size;clear hP A B9 FP;go_enter func74,ntmps74;go_wp2_with fail
 have A0:=Ab I.kept;change Calls _ _ _ (w.alloc (.cells [U m (Z b) j,U Y 0 0,U Y 0 0].toArray 139)) _;generalize w.alloc (.cells [U m (Z b) j,U Y 0 0,U Y 0 0].toArray 139)=w1 at I A0⊢;rw[HB]at I;clear HB;refine(FF w1 A0).mono ?_;rintro _ w2 ⟨ad,cp,v,L,rfl,T,BS,EX,HW,k2⟩;have FO:=Ab (I.grow k2);have Go:=Ab (El.mk (Am T.row (lz _)) (λp R=>Am (T.each p R) (lz _)) T.apart);have FC:=Ab BS;have AO:=Ab EX;have IJ:=BS.len;clear I A0 FF T BS EX HW k2;go_wp2_with fail
 go_loopg [12] (Z v) (λgk i wr=>∃(k:Nat) (s:pM Af) (d:pM (Nat×GZ Af)),i=.int .i64 k/\k<=Z v/\gk=Z v-k/\Hid (GF a L k s/\Zk a d s)/\Hid (ME w y (U m (Z b) j) [] [] s d wr)/\Hid (Gv w2 wr))
 case atStart=>exact⟨0,[],[],rfl,by omega,rfl,⟨GF.start _ _,Zk.start _⟩,FO,Gv.refl _⟩
 case round=>
  clear FO;obtain⟨k,s,d,rfl,hk,HH,C,Q,H⟩:=hrel;have HG:=Ab HH;clear HH;by_cases Bx:k<Z v
  .obtain⟨g,JJ,EK,HM,M,hv,FL⟩:=Tv (H.parts Go) k Bx;simp only[kS]at M;obtain⟨rfl,-,rfl⟩:=M;have Ax:=Go.each _ (kV Bx);rw[hv]at Ax;have AB:=FC.lists k Bx;obtain⟨o,E0⟩:=pN (v[k].1);rw[E0]at Ax AB FL;have H3:=Ab Ax;have HD:=Ab AB;have HL:Z o<=1000:=by
    rw[AB];have:=mS (λi=>L (G8 b i)==k) (List.range (Z b));rw[List.length_range]at this;have:=Aa FB;omega
   have HV:=Ab HL;obtain⟨NL,A1⟩:=pN (Z o);have H1:=Ab A1;rw[A1]at FL;(have Jx:(0:Int)<=(k:Int):=by omega);(have Ix:(k:Int)<(Z v:Int):=by omega);have HS:Hid (∀s d t,GF a L k s/\Zk a d s->ME w y (U m (Z b) j) [] [] s d t->Gv w2 t->Calls prog 124 #[m2 (some ⟨y,0,Y⟩),U EK NL HM] t λr G=>∃u F,u=(Gc (EN jI) (JX a o) s).1/\r=.returned (.bool (decide (Z s<Z u)))/\(GF a L k u/\Zk a F u)/\ME w y (U m (Z b) j) [] [] u F G/\Gv t G):=by
    intro s d t B hC hR;rw[<-Aa H1];refine dS (λd s=>GF a L k s/\Zk a d s) w y m j b EK HM o (JX a o) s d t HN (by have:=Aa FB;omega) HV (hR.row H3 (by decide) (by decide) (by decide)) hC B (λd s B=>by have h:=z.zb B.1;exact⟨h.1,h.2.1,by omega⟩) (λd s B=>Xe o (λi D=>?_));rw[Aa HD]at D;obtain⟨D,S⟩:=lK.1 D;have CL:=oQ.1 D;(have B2:i<Z a:=by rw[<-(Aa z).zv.lenX];exact CL);refine⟨B2,z.steps AO B.1 B.2 CL B2 ?_⟩;rw[<-JU (Aa z).zv B2];simpa using S
   have HQ:Hid (∀s,GF a L k s->((Gc (EN jI) (JX a o) s).2=false->(Gc (EN jI) (JX a o) s).1=s/\GF a L (k+1) s)/\((Gc (EN jI) (JX a o) s).2=true->Z s<Z (Gc (EN jI) (JX a o) s).1)):=by
    intro s B;have h:=z.pass.grow (al:=jI) (λc _ s=>Fk (Al c) s) AO (n:=k) (ds:=JX a o) (λc=>by rw[Aa HD];exact bC z.zv c) B;exact⟨h.2.1,h.2.2.1⟩
   clear Ax AB HL hv E0 A1;go_wp2_with fail
   go_loopg [] (7000-Z s) (λH7 wq=>∃(s:pM Af) (d:pM (Nat×GZ Af)),H7=7000-Z s/\Hid (GF a L k s/\Zk a d s)/\Hid (ME w y (U m (Z b) j) [] [] s d wq)/\Hid (Gv w2 wq))
   case atStart=>exact⟨s,d,rfl,C,Q,H⟩
   case round=>
    clear C Q H;obtain⟨s,d,HJ,C,Q,H⟩:=hrel;have H0:=Ab HJ;clear HJ;have HK:=Ab (HS s d wr C Q H);(go_wp2_with fail);refine HK.mono ?_;rintro _ w5 ⟨u,W,F,rfl,FW,HA,DT⟩;have IA:=Ab F;have AT:=Ab FW;have EM:=Ab HA;have ES:=Ab (H.trans DT);have BT:=Aa HQ s C.1;rw[<-F]at BT;have HT:=Ab BT;clear HK F FW HA DT BT;by_cases E:Z s<Z u
    .have N:decide (Z s<Z u)=true:=np E;rw[N];have H2:=Ab E;clear N E;go_wp2_with fail
     go_roundg (7000-Z u)
     case measure=>
      have P:=(z.zb AT.1).2.2;have h2:=Aa H2;have h3:=Aa H0;omega
     case rel=>exact⟨u,W,rfl,AT,EM,ES⟩
    .have N:decide (Z s<Z u)=false:=mG E;rw[N];have HE:Hid (u=s/\GF a L (k+1) s):=by
      have h:=Aa HT;cases S:(Gc (EN jI) (JX a o) s).2 with
      |true=>exact absurd (h.2 S) E
      |false=>exact h.1 S
     have H6:Hid (ME w y (U m (Z b) j) [] [] s W w5):=by
      have h:=Aa EM;rw[(Aa HE).1]at h;exact h
     have H4:Hid (Zk a W s):=by
      have h:=AT.2;rw[(Aa HE).1]at h;exact h
     clear N E;go_wp2_with fail
     go_roundg (Z v-(k+1))
     case measure=>have:=Aa HG;omega
     case rel=>exact⟨k+1,s,W,by go_num,by omega,rfl,⟨HE.2,H4⟩,H6,ES⟩
  ·(have M:k=Z v:=by omega);(have HX:Hid (GF a L (Z v) s):=by have h:=C.1;rw[M]at h;exact h);clear M;go_wp2;go_ret;refine⟨y,s,d,L,Z v,rfl,Q,C.2,AO,HX,λc hc=>?_⟩;obtain⟨i,D,rfl⟩:=lX hc;have P:=FC.top i (by rw[(Aa z).zv.lenX];exact D);rw[JU (Aa z).zv D]at P;exact P
def iQ(lad:Option Addr)(lcp:Nat)(pcs:pM Dy)(rcs:pM A4)(w:World)(r:Ending)(w':World):Prop:=∃(cb:Nat) (s:pM Af) (L:zA->Nat) (N:Nat),r=.returned (m2 (some ⟨cb,1,Y⟩))/\SQ w cb (U lad (Z pcs) lcp) [] s w'/\CR rcs L/\GF rcs L N s/\∀c∈rcs,L c.head.name<N
theorem Pr(c:Option Addr)(b:Nat)(a:pM Dy)(d:pM A4)(w:World)(g:DE w (U c (Z a) b) a)(k:M9 a d):
  Calls prog 41 #[U c (Z a) b] w λr m=>iQ c b a d w r m:=by
 have f:=Ab (Md c b a d w g k);clear g k;go_enter func41,ntmps41;go_wp2_with fail
 refine f.mono ?_;rintro _ n ⟨e,s,p,L,N,rfl,j,_,h,l,i⟩;have o:Hid (iQ c b a d w (.returned (m2 (some ⟨e,1,Y⟩))) n):=⟨e,s,L,N,rfl,j.cou,h,l,i⟩;clear f j h l i;go_wp2;go_ret;exact o
