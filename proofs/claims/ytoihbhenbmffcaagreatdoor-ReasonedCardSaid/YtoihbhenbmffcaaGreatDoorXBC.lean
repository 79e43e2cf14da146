import Derived.Test.YtoihbhenbmffcaaGreatDoorXBB
import Derived.Test.YtoihbhenbmffcaaGreatDoorXAY
import Derived.Test.YtoihbhenbmffcaaGreatDoorXAZ
set_option linter.all false
set_option maxHeartbeats 0
open List renaming length->Z
open Option renaming none->Y,some->V
open Go.Value renaming slice->U,int->X,string->O,pointer->m2,ownBlock->pI
open Go.Ending renaming returned->oa
open Go renaming World->py,Value->p5
open Go.World renaming cell?->p8,ownsRow->p9
namespace Go.Proofs.YtoihbhenbmffcaaGreatDoor
open Go.RowKit Go.Proofs.Tryz
variable{p:pM Dy}{c:pM A4}{n m i k b j:Nat}{w v u:py}{z:p5}{y x:pM p5}{M:pM Nat}{o:Option Addr}
structure M9(pcs:pM Dy)(rcs:pM A4):Prop where
 zv:F2 RX pcs rcs
 pass:Cf rcs
 zK:∀c∈pcs,KF c.pc
 names:∀c∈pcs,c.hn.size<=1000000/\∀p∈c.zH,p.1.an.size<=1000000
def M9.len(h:M9 p c):Z p<=12:=by rw[h.zv.lenX];exact h.pass.order.small.1
def M9.fit{a:pM A4}(h:M9 p a){c:Dy}(b:c∈p):j9 c:=(RH (h.zK c b)).1
def M9.litW{i:pM Dy}{n:pM A4}(h:M9 i n){c:Dy}{r:A4}(y:c∈i)(k:r∈n)(v:RX c r):∀x∈Al r,P6 (LU x):=by
 intro x o;obtain⟨q,g,rfl⟩:=lk.1 o;obtain⟨p,s,j⟩:=v.lits.mem q g;have b:=h.pass.lits r k q.1 o;have f:=(h.pass.order.small.2 r k).2.2 q g;have z:Z q.1.A.args<=2:=by
  unfold BF at f;have:=oJ f;omega
 have e:=(h.zK c y).lits p.1 (by simp only[Dy.pc];exact lB s);rw[j.eq]at e;unfold Db at b;by_cases d:(q.1.kind==97||q.1.kind==33)=true
 .rw[ln d]at b;have m:=e.bare (by rw[IB];exact d);refine⟨by show Z (q.1.A.args.map ct)<=1000;rw[lm];omega,λt a=>?_,by rw[m.1];exact Or.inl rfl,by rw[m.2];exact Or.inl rfl⟩;obtain⟨u,w,rfl⟩:=lk.1 a;exact Km (b.args u w)
 .rw[li d]at b;have l:=j.plain (by unfold MF;simpa using d);refine⟨by show Z (q.1.A.args.map ct)<=1000;rw[l];simp,λt a=>?_,Km b.1,Km b.2.1⟩;have a:t∈q.1.A.args.map ct:=a;rw[l]at a;simp at a
def M9.zb{b:pM A4}(h:M9 p b){L:zA->Nat}{s:pM Af}(a:GF b L n s):Eb s/\(∀f∈s,AL f)/\Z s<=6912:=by
 have i:=a.len h.pass.prog.zL;have g:=Oe h.pass.order.small.1 (λc e=>(h.pass.order.small.2 c e).2.1);exact⟨a.zM,λf d=>(a.zW f d).canon h.pass.prog.zL,by omega⟩
def M9.cl(h:M9 p c){L:zA->Nat}{s:pM Af}(k:GF c L n s)(i:m<Z p)(g:m<Z c):QK p[m] c[m] s:=by
 have j:=h.zv.at m i g;have e:p[m]∈p:=kV i;have a:c[m]∈c:=kV g;have o:=h.zb k;refine⟨j,(h.fit e).pc,(h.fit e).zQ,λx b=>⟨h.pass.lits _ a x b,h.litW e a j x b⟩,XA h.pass.prog.zK a (h.pass.lits _ a),h.pass.zL _ a,λf r x b q v=>?_,o.2.1,by omega⟩;obtain⟨d,l,t,u⟩:=(k.zW f r).zb;rw[u];exact h.pass.order.ar3 d l _ a x b q (by rw[<-t];exact v)
def M9.steps(h:M9 p c){L:zA->Nat}(w:CR c L){s:pM Af}(g:GF c L n s){l:pM (Nat×GZ Af)}(M:Zk c l s)(u:m<Z p)(o:m<Z c)(B:L c[m].head.name=n):Z4 p (λl s=>GF c L n s/\Zk c l s) m c[m] l s:=by
 have d:=h.cl g u o;have z:c[m]∈c:=kV o;have y:∀v e,∀t∈Jc (Al c[m]) s v e,t.size≠0:=λv e t q=>(d.al v e t q).size
 have k:∀f∈IH c[m] s,f∉s/\∃σ,(∀x∈Al c[m],Cg (Bm σ) (Ed σ) s x=true)/\f=Bm σ c[m].head:=λf a=>Un d.parts y a
 have C:∀j,GF c L n (((IH c[m] s).take j).foldl A3 s):=λj=>(LA (h.pass.other w) g z B ((IH c[m] s).take j) s (λf a=>(k f (mD a)).2) g (λf a=>a) (λf a=>Or.inl a)).1
 have i:∀f∈IH c[m] s,AL f/\Z f.args<=1000:=by
  intro f a;unfold IH Ss at a;obtain⟨b,D,rfl⟩:=lk.1 a;have N:=Mv d.al d.parts d.head (lK.1 D).1;refine⟨GJ N,?_⟩;have:=(h.pass.order.small.2 _ z).2.1;unfold Aq;simp only[lm];omega
 have A:=Es c[m].head.args [] nG;have r:(IH c[m] s).Nodup:=aY (λv e=>TE d.canon d.fitA v e) y d.parts A.2.1 (λv I=>by
  rcases(A.2.2 v).1 I with h|⟨_,t,q,e⟩
  .simp at h
  .exact⟨t,q,e⟩)
 refine⟨u,d,r,λf a=>⟨(k f a).1,(i f a).1,(i f a).2⟩,?_,λP G E j=>⟨C j,M.batch w g.zM d.canon (λf a=>g.work.top f a) o B r (λf a=>⟨(k f a).1,(i f a).1⟩) G E j⟩⟩;have H:=Xm (IH c[m] s) s g.zM d.canon r (λf a=>⟨(k f a).1,(i f a).1⟩);have F:=(h.zb (C (Z (IH c[m] s)))).2.2;rw[ni,H]at F;omega
def JX(rcs:pM A4)(ns:pM Nat):pM A4:=ns.filterMap λi=>rcs[i]?
def Xe{b:pM A4}{R:Nat->A4->Prop}:∀(a:pM Nat),(∀i∈a,∃h:i<Z b,R i b[i])->F2 R a (JX b a)
 |[],_=>F2.nil
 |i::a,h=>by
  obtain⟨f,d⟩:=h i (by simp);have ih:=Xe a (λj c=>h j (by simp[c]));have e:JX b (i::a)=b[i]::JX b a:=by
   unfold JX;rw[oU,lc f]
  rw[e];exact F2.cons d ih
def JU(h:F2 RX p c)(a:i<Z c):G8 p i=c[i].head.name:=by
 have b:i<Z p:=by rw[h.lenX];exact a
 have:=(h.at i b a).hn;unfold G8;rw[lc b];exact this
def bC{b:pM A4}(h:F2 RX p b){L:zA->Nat}(c:A4):c∈JX b ((List.range (Z p)).filter λi=>L (G8 p i)==n)↔c∈b/\L c.head.name=n:=by
 unfold JX;rw[m3];constructor
 .rintro ⟨i,a,e⟩;obtain⟨a,f⟩:=lK.1 a;obtain⟨d,rfl⟩:=nS.1 e;rw[JU h d]at f;exact⟨kV d,by simpa using f⟩
 .rintro ⟨g,j⟩;obtain⟨i,a,rfl⟩:=lX g;refine⟨i,lK.2 ⟨oQ.2 (by rw[h.lenX];exact a),?_⟩,lc a⟩;rw[JU h a];simpa using j
def Gv.parts(h:Gv w v){b:pM P7}(a:El w n z b):El v n z b:=⟨h.row a.row (by decide) (by decide) (by decide),λp c=>h.row (a.each p c) (by decide) (by decide) (by decide),a.apart⟩
def jW(lad:Option Addr)(lcp:Nat)(pcs:pM Dy)(rcs:pM A4)(w:py)(r:Ending)(w':py):Prop:=∃(cb:Nat) (s:pM Af) (hs:pM (Nat×GZ Af)) (L:zA->Nat) (N:Nat),r=oa (m2 (V ⟨cb,0,Y⟩))/\ME w cb (U lad (Z pcs) lcp) [] [] s hs w'/\Zk rcs hs s/\CR rcs L/\GF rcs L N s/\∀c∈rcs,L c.head.name<N
set_option maxRecDepth 100000
theorem Md(m:Option Addr)(j:Nat)(b:pM Dy)(a:pM A4)(w:py)(hP:DE w (U m (Z b) j) b)(A:M9 b a):
  Calls prog 74 #[U m (Z b) j] w λr G=>jW m j b a w r G:=by
 have HO:=A.len;have B9:∀x,B5 a 6 x<=6:=Se a 6;have FP:EB a (B5 a 6)<=100000:=by
  have P:∀(l:pM A4),EB l (B5 a 6)<=Z l*6:=λl=>by
   induction l with
   |nil=>simp[EB]
   |cons c l ih=>
    (have e:EB (c::l) (B5 a 6)=B5 a 6 c.head.name+EB l (B5 a 6):=by unfold EB;simp);have:=B9 c.head.name;rw[e,lj,nA];omega
  have h2:=P a;have h3:=A.pass.order.small.1;omega
 have FF:Hid (∀t,Ac [] w t->Calls prog 123 #[U m (Z b) j] t λr G=>aA b a (B5 a 6) t r G):=λt hk=>YV m j b a t (B5 a 6) (hP.kept hk) A.zv (by omega) (λc hc=>(A.fit hc).pc.lits) A.names A.pass.prog.lay (λx=>by have:=B9 x;omega) FP
 have HN:=Ab hP;have z:=Ab A;have FB:=Ab HO;have I:Hid (ME w w.heap.size (U m (Z b) j) [] [] [] [] (w.alloc (.cells [U m (Z b) j,U Y 0 0,U Y 0 0].toArray 139))):=⟨(pO [] w).alloc _,lC _,Y,0,[],Y,0,[],pP w _ 139,⟨lH _ _ _ _,λp R=>by simp at R⟩,⟨rfl,List.Pairwise.nil,λf hf=>by simp at hf⟩,lH _ _ _ _,λq hq=>by simp[pI]at hq,λq hq=>by simp,rfl,λp R=>by simp at R⟩;obtain⟨y,HB⟩:=pN w.heap.size;clear hP A B9 FP;go_enter func74,ntmps74;go_wp2_with fail
 have A0:=Ab I.kept;change Calls _ _ _ (w.alloc (.cells [U m (Z b) j,U Y 0 0,U Y 0 0].toArray 139)) _;generalize w.alloc (.cells [U m (Z b) j,U Y 0 0,U Y 0 0].toArray 139)=w1 at I A0⊢;rw[HB]at I;clear HB;refine(FF w1 A0).mono ?_;rintro _ w2 ⟨ad,cp,v,L,rfl,T,BS,EX,HW,k2⟩;have FO:=Ab (I.grow k2);have Go:=Ab (El.mk (Am T.row (lz _)) (λp R=>Am (T.each p R) (lz _)) T.apart);have FC:=Ab BS;have AO:=Ab EX;have IJ:=BS.len;clear I A0 FF T BS EX HW k2;go_wp2_with fail
 go_loopg [12] (Z v) (λgk i wr=>∃(k:Nat) (s:pM Af) (d:pM (Nat×GZ Af)),i=X .i64 k/\k<=Z v/\gk=Z v-k/\Hid (GF a L k s/\Zk a d s)/\Hid (ME w y (U m (Z b) j) [] [] s d wr)/\Hid (Gv w2 wr))
 case atStart=>exact⟨0,[],[],rfl,by omega,rfl,⟨GF.start _ _,Zk.start _⟩,FO,Gv.refl _⟩
 case round=>
  clear FO;obtain⟨k,s,d,rfl,hk,HH,C,Q,H⟩:=hrel;have HG:=Ab HH;clear HH;by_cases Bx:k<Z v
  .obtain⟨g,JJ,EK,HM,M,hv,FL⟩:=Tv (H.parts Go) k Bx;simp only[kS]at M;obtain⟨rfl,-,rfl⟩:=M;have Ax:=Go.each _ (kV Bx);rw[hv]at Ax;have AB:=FC.lists k Bx;obtain⟨o,E0⟩:=pN (v[k].1);rw[E0]at Ax AB FL;have H3:=Ab Ax;have HD:=Ab AB;have HL:Z o<=1000:=by
    rw[AB];have:=mS (λi=>L (G8 b i)==k) (List.range (Z b));rw[List.length_range]at this;have:=Aa FB;omega
   have HV:=Ab HL;obtain⟨NL,A1⟩:=pN (Z o);have H1:=Ab A1;rw[A1]at FL;(have Jx:(0:Int)<=(k:Int):=by omega);(have Ix:(k:Int)<(Z v:Int):=by omega);have HS:Hid (∀s d t,GF a L k s/\Zk a d s->ME w y (U m (Z b) j) [] [] s d t->Gv w2 t->Calls prog 124 #[m2 (V ⟨y,0,Y⟩),U EK NL HM] t λr G=>∃u F,u=(Gc (EN jI) (JX a o) s).1/\r=oa (.bool (decide (Z s<Z u)))/\(GF a L k u/\Zk a F u)/\ME w y (U m (Z b) j) [] [] u F G/\Gv t G):=by
    intro s d t B hC hR;rw[<-Aa H1];refine dS (λd s=>GF a L k s/\Zk a d s) w y m j b EK HM o (JX a o) s d t HN (by have:=Aa FB;omega) HV (hR.row H3 (by decide) (by decide) (by decide)) hC B (λd s B=>by have h:=z.zb B.1;exact⟨h.1,h.2.1,by omega⟩) (λd s B=>Xe o (λi D=>?_));rw[Aa HD]at D;obtain⟨D,S⟩:=lK.1 D;have CL:=oQ.1 D;(have B2:i<Z a:=by rw[<-(Aa z).zv.lenX];exact CL);refine⟨B2,z.steps AO B.1 B.2 CL B2 ?_⟩;rw[<-JU (Aa z).zv B2];simpa using S
   have HQ:Hid (∀s,GF a L k s->((Gc (EN jI) (JX a o) s).2=false->(Gc (EN jI) (JX a o) s).1=s/\GF a L (k+1) s)/\((Gc (EN jI) (JX a o) s).2=true->Z s<Z (Gc (EN jI) (JX a o) s).1)):=by
    intro s B;have h:=z.pass.grow (al:=jI) (λc _ s=>Fk (Al c) s) AO (n:=k) (ds:=JX a o) (λc=>by rw[Aa HD];exact bC z.zv c) B;exact⟨h.2.1,h.2.2.1⟩
   clear Ax AB HL hv E0 A1;go_wp2_with fail
   go_loopg [] (7000-Z s) (λH7 wq=>∃(s:pM Af) (d:pM (Nat×GZ Af)),H7=7000-Z s/\Hid (GF a L k s/\Zk a d s)/\Hid (ME w y (U m (Z b) j) [] [] s d wq)/\Hid (Gv w2 wq))
   case atStart=>exact⟨s,d,rfl,C,Q,H⟩
   case round=>
    clear C Q H;obtain⟨s,d,HJ,C,Q,H⟩:=hrel;have H0:=Ab HJ;clear HJ;have HK:=Ab (HS s d wr C Q H);(go_wp2_with fail);refine HK.mono ?_;rintro _ w5 ⟨u,W,F,rfl,FW,HA,DT⟩;have IA:=Ab F;have AT:=Ab FW;have EM:=Ab HA;have ES:=Ab (H.trans DT);have BT:=Aa HQ s C.1;rw[<-F]at BT;have HT:=Ab BT;clear HK F FW HA DT BT;by_cases E:Z s<Z u
    .have N:decide (Z s<Z u)=true:=np E;rw[N];have H2:=Ab E;clear N E;go_wp2_with fail
     go_roundg (7000-Z u)
     case measure=>
      have P:=(z.zb AT.1).2.2;have h2:=Aa H2;have h3:=Aa H0;omega
     case rel=>exact⟨u,W,rfl,AT,EM,ES⟩
    .have N:decide (Z s<Z u)=false:=mG E;rw[N];have HE:Hid (u=s/\GF a L (k+1) s):=by
      have h:=Aa HT;cases S:(Gc (EN jI) (JX a o) s).2 with
      |true=>exact absurd (h.2 S) E
      |false=>exact h.1 S
     have H6:Hid (ME w y (U m (Z b) j) [] [] s W w5):=by
      have h:=Aa EM;rw[(Aa HE).1]at h;exact h
     have H4:Hid (Zk a W s):=by
      have h:=AT.2;rw[(Aa HE).1]at h;exact h
     clear N E;go_wp2_with fail
     go_roundg (Z v-(k+1))
     case measure=>have:=Aa HG;omega
     case rel=>exact⟨k+1,s,W,by go_num,by omega,rfl,⟨HE.2,H4⟩,H6,ES⟩
  ·(have M:k=Z v:=by omega);(have HX:Hid (GF a L (Z v) s):=by have h:=C.1;rw[M]at h;exact h);clear M;go_wp2;go_ret;refine⟨y,s,d,L,Z v,rfl,Q,C.2,AO,HX,λc hc=>?_⟩;obtain⟨i,D,rfl⟩:=lX hc;have P:=FC.top i (by rw[(Aa z).zv.lenX];exact D);rw[JU (Aa z).zv D]at P;exact P
def iQ(lad:Option Addr)(lcp:Nat)(pcs:pM Dy)(rcs:pM A4)(w:py)(r:Ending)(w':py):Prop:=∃(cb:Nat) (s:pM Af) (L:zA->Nat) (N:Nat),r=oa (m2 (V ⟨cb,1,Y⟩))/\SQ w cb (U lad (Z pcs) lcp) [] s w'/\CR rcs L/\GF rcs L N s/\∀c∈rcs,L c.head.name<N
theorem Pr(c:Option Addr)(b:Nat)(a:pM Dy)(d:pM A4)(w:py)(g:DE w (U c (Z a) b) a)(k:M9 a d):
  Calls prog 41 #[U c (Z a) b] w λr m=>iQ c b a d w r m:=by
 have f:=Ab (Md c b a d w g k);clear g k;go_enter func41,ntmps41;go_wp2_with fail
 refine f.mono ?_;rintro _ n ⟨e,s,p,L,N,rfl,j,_,h,l,i⟩;have o:Hid (iQ c b a d w (oa (m2 (V ⟨e,1,Y⟩))) n):=⟨e,s,L,N,rfl,j.cou,h,l,i⟩;clear f j h l i;go_wp2;go_ret;exact o
def Mb{e t:TypeId}{l cs:pM p5}{N:Nat}(h:p9 w m e k z n l)(j:AF w N cs t)(f:(e==t)=false):∀i,z.ownBlock=V i->i∉[N]:=by
 intro i b d;rw[kY]at d;subst d;rcases h.2 with⟨rfl,_⟩|⟨g,c,o,rfl,_,a,_⟩
 .simp[pI]at b
 .simp only[pI,ld]at b;subst b;unfold AF at j;rw[j]at a;simp only[ld,Obj.cells.injEq]at a;rw[a.2.1]at f;simp at f
def Zt{e t:TypeId}(h:AF w n y e)(c:AF w b x t)(f:(e==t)=false):n∉[b]:=by
 intro d;rw[kY]at d;subst d;unfold AF at h c;rw[c]at h;simp only[ld,Obj.cells.injEq]at h;rw[h.2.1]at f;simp at f
def Jm.yH{b:pM Fa}(h:Jm w z b)(c:AF w n y 145)(k:Ac [n] w v):Jm v z b:=
 ⟨Ai h.row k (Mb h.row c (by rfl)),λp a=>⟨Ai (h.each p a).1 k (Mb (h.each p a).1 c (by rfl)),(h.each p a).2⟩⟩
def B8.yH{c:pM Lz}(h:B8 w n z c)(b:AF w m y 145)(k:Ac [m] w u):B8 u n z c:=
 ⟨Ai h.row k (Mb h.row b (by rfl)),λp a=>⟨Ai (h.each p a).1 k (Mb (h.each p a).1 b (by rfl)),(h.each p a).2⟩⟩
structure jS(w:py)(bv:p5)(zH:pM Lz)(body:pM Br):Prop where
 at_:B8 w 0 bv zH
 map:zH.map Prod.fst=body.map LU
 zK:∀p∈zH,Hb p.1
 len:Z zH<=3
def YY(k:Ac M w u)(h:p8 w ⟨b,n,Y⟩=V z)(d:b∉M):p8 u ⟨b,n,Y⟩=V z:=by
 unfold World.cell? at h⊢;have c:b<w.heap.size:=by
  rcases Nat.lt_or_ge b w.heap.size with a|a
  .exact a
  .simp[ou a]at h
 rw[k.block b c d];exact h
def jS.zQ{a:pM Lz}{b:pM Br}(h:jS w z a b):A5 a=(b.flatMap Bu).map ct:=by
 unfold A5;have e:a.flatMap (λp=>AR p.1)=(a.map Prod.fst).flatMap AR:=by rw[List.flatMap_map]
 rw[e,h.map,List.flatMap_map,oS]
 congr 1
 funext x
 exact Qz x
def jS.vars{b:pM Lz}{a:pM Br}(h:jS w z b a):DS (A5 b)=C2 (Bf a):=by
 rw[h.zQ,R3];rfl
def jS.litW{g:pM Lz}{i:pM Br}(h:jS w z g i)(n:∀x∈i,Db x):∀x∈i,P6 (LU x):=by
 intro x l;obtain⟨p,f,m⟩:∃p∈g,p.1=LU x:=by
  have:LU x∈g.map Prod.fst:=by rw[h.map];exact lB l
  obtain⟨p,f,e⟩:=lk.1 this;exact⟨p,f,e⟩
 have d:=h.zK p f;rw[m]at d;have a:=n x l;unfold Db at a;by_cases b:(x.kind==97||x.kind==33)=true
 .rw[ln b]at a;have k:=d.bare (by rw[IB];exact b);refine⟨by have:=d.le;omega,λt c=>?_,by rw[k.1];exact Or.inl rfl,by rw[k.2];exact Or.inl rfl⟩;obtain⟨u,o,rfl⟩:=lk.1 c;exact Km (a.args u o)
 .rw[li b]at a;have j:=d.plain (by rw[IB];simpa using b);refine⟨by rw[j];simp,λt c=>?_,Km a.1,Km a.2.1⟩;rw[j]at c;simp at c
def jS.fit{a:pM Lz}{f:pM Br}(h:jS w z a f):(∀p∈a,0<Z (AR p.1)/\Z (AR p.1)<=1000)/\Z (A5 a)<=90000:=by
 have c:∀p∈a,0<Z (AR p.1)/\Z (AR p.1)<=1000:=λp b=>by
  have d:=h.zK p b;have:=d.le;unfold AR;split
  .rename_i e;exact⟨d.some e,by omega⟩
  .exact⟨by simp,by simp⟩
 refine⟨c,?_⟩;have g:=I4 (λp b=>(c p b).2);have:=h.len;omega
theorem SI(k n:Nat)(F:Option Addr)(G:Nat)(q:pM Fa)(i:Option Addr)(h:Nat)(b:pM Lz)(a:pM Br)(s:pM Af)(w:py)(N:Nat)(cs:pM p5)
  (hN:AF w N cs 145) (B9:k∉[N]) (hc:p8 w ⟨k,n,Y⟩=V (U F (Z q) G)) (hF:Jm w (U F (Z q) G) q) (e:jS w (U i (Z b) h) b a) (S:Df q s) (BS:Z s<=10000) (o:ZX a s) (h6:Z (Bf a)<=6):
  Calls prog 94 #[m2 (V ⟨k,n,Y⟩),U i (Z b) h] w λr c=>∃l E,r=oa (.func (.func 140) #[] #[m2 (V ⟨E,0,Y⟩)])/\AF c E [m2 (V ⟨l,0,Y⟩)] 233/\w.heap.size<=E/\(∀d,Ac [N] c d->dU d l a s (Bf a))/\Ac [] w c:=by
 obtain⟨CL,T⟩:=e.fit;have I:=Ab (Qy i h b w e.at_ (by have:=e.len;omega) CL);have H:Hid (∀z D d,p9 d w.heap.size 215 2 (U z (Z (A5 b)) D) (Z (A5 b)) ((A5 b).flatMap Ar)->Calls prog 138 #[U z (Z (A5 b)) D] d λr c=>∃A B,r=oa (U A (Z (Bf a)) B)/\p9 c d.heap.size 21 1 (U A (Z (C2 (Bf a))) B) (Z (C2 (Bf a))) ((C2 (Bf a)).flatMap AU)/\Ac [] d c):=by
  intro z D d C;refine(OD z D _ _ d C T).mono ?_;rintro r c ⟨A,B,rfl,y,t⟩;rw[e.vars]at y;exact⟨A,B,by rw[e.vars,GE],y,t⟩
 have B0:Hid (∀l f g c,Ac [] w c->w.heap.size<=l->AF c l [m2 (V ⟨k,n,Y⟩),U i (Z b) h,U f (Z (Bf a)) g] 237->p9 c 0 21 1 (U f (Z (C2 (Bf a))) g) (Z (C2 (Bf a))) ((C2 (Bf a)).flatMap AU)->∀d,Ac [N] c d->dU d l a s (Bf a)):=by
  intro l f g c m ES P C d p;have u:=hN.kept m;have DT:Z a=Z b:=by have:=congrArg List.length e.map;simpa using this.symm
  have EK:=e.len;refine⟨⟨k,n,i,h,b,f,g,F,G,q,⟨?_,?_,(hF.kept m).yH u p⟩,(e.at_.kept m).yH u p,e.map,Ai C p (Mb C u (by rfl)),S⟩,BS,λx hx=>⟨o.lits x hx,e.litW o.lits x hx⟩,by omega,by omega,o.fit,λv hv=>(o.vars v hv).1⟩
  .rw[GE];exact P.kept p (Zt P u (by rfl))
  .exact YY p (m.cellAt hc) B9
 clear hF e S o hN hc;generalize(A5 b)=BT at I H T;go_enter func94,ntmps94;go_wp2_with fail
 refine(Aa I).mono ?_;rintro _ w1 ⟨Bx,A2,rfl,W,L⟩;have M:=Ab (Aa H Bx A2 w1 W);have Q:=Ab L;clear I H W L;go_wp2_with fail
 refine(Aa M).mono ?_;rintro _ j ⟨f,g,rfl,Ax,k2⟩;have A1:=Ab Ax;have R:=Ab ((Aa Q).trans k2);have B2:=(Aa R).size;clear M Q Ax k2;go_wp2;go_ret;have y:=(pP j [m2 (V ⟨k,n,Y⟩),U i (Z b) h,U f (Z (Bf a)) g] 237).alloc (.cells #[m2 (V ⟨j.heap.size,0,Y⟩)] 233);have t:=pP (j.alloc (.cells #[m2 (V ⟨k,n,Y⟩),U i (Z b) h,U f (Z (Bf a)) g] 237)) [m2 (V ⟨j.heap.size,0,Y⟩)] 233;rw[lT]at t;have m:=((Aa R).alloc (.cells #[m2 (V ⟨k,n,Y⟩),U i (Z b) h,U f (Z (Bf a)) g] 237)).alloc (.cells #[m2 (V ⟨j.heap.size,0,Y⟩)] 233);exact⟨j.heap.size,j.heap.size+1,rfl,t,by omega,Aa B0 j.heap.size f g _ m B2 y (Am (((Aa A1).alloc _).alloc _) (lz _)),m⟩
def Z5(sts:pM (Nat×U3))(i:Nat):pM p5:=(sts[i]?).elim [] Cc
def ia(sts:pM (Nat×U3))(i:Nat):Array p5:=#[X .i64 i,.agg (Z5 sts i).toArray]
structure Mh(b1:Nat)(sad:Option Addr)(scp:Nat)(sts:pM (Nat×U3))(M:pM Nat)(w:py):Prop where
 at_:p8 w ⟨b1,0,Y⟩=V (U sad (Z sts) scp)
 row:p9 w 0 176 4 (U sad (Z sts) scp) (Z sts) (sts.flatMap Cc)
 apart:∀k∈M,k≠b1/\(U sad (Z sts) scp).ownBlock≠V k/\k<w.heap.size
def Mh.grow{b:pM (Nat×U3)}(h:Mh n o m b M w)(k:Ac [] w v):Mh n o m b M v:=
 ⟨k.cellAt h.at_,Ad h.row k,λi a=>⟨(h.apart i a).1,(h.apart i a).2.1,mX (h.apart i a).2.2 k.size⟩⟩
def Mh.round{f:pM (Nat×U3)}{M g:pM Nat}(h:Mh n o m f M w)(k:Ac M w v)(d:∀i∈g,(i∈M\/w.heap.size<=i)/\i<v.heap.size):Mh n o m f g v:=by
 have j:=Oy h.at_;refine⟨Lg k h.at_ (λb=>(h.apart _ b).1 rfl),Ai h.row k (λq c b=>(h.apart q b).2.1 c),λi e=>⟨?_,?_,(d i e).2⟩⟩
 .rcases(d i e).1 with a|a
  .exact(h.apart i a).1
  .omega
 .rcases(d i e).1 with a|a
  .exact(h.apart i a).2.1
  .intro c;have:=(h.row.lt i c).2;omega
def YN(d:j<n):(List.range n).reverse=(List.range n).reverse.take (n-(j+1))++j::(List.range n).reverse.drop (n-j):=by
 have b:n-(j+1)<Z (List.range n).reverse:=by simp;omega
 have c:(List.range n).reverse[n-(j+1)]=j:=by
  rw[List.getElem_reverse];simp;omega
 have a:=mt (n-(j+1)) (List.range n).reverse;rw[lD b,c,show n-(j+1)+1=n-j by omega]at a;exact a.symm
def aL(c:j<n):(List.range n).reverse.take (n-(j+1))++[j]=(List.range n).reverse.take (n-j):=by
 have a:n-(j+1)<Z (List.range n).reverse:=by simp;omega
 have b:(List.range n).reverse[n-(j+1)]=j:=by
  rw[List.getElem_reverse];simp;omega
 rw[show n-j=n-(j+1)+1 by omega,kW a,b]
def JT{a:pM (Nat×U3)}(h:p9 w 0 176 4 (U o (Z a) m) (Z a) (a.flatMap Cc))(j:Nat)(b:j<Z a):
  ∃g,o=V ⟨g,0,Y⟩/\p8 w ⟨g,j*4,Y⟩=V (O a[j].2.f.f.name)/\p8 w ⟨g,j*4+1,Y⟩=V a[j].2.f.tv/\p8 w ⟨g,j*4+2,Y⟩=V (X .i64 a[j].1)/\p8 w ⟨g,j*4+3,Y⟩=V a[j].2.n:=by
 obtain⟨g,q,l,_,d⟩:=AC h (λc _=>rfl) j b;simp only[kS]at l;have e:=d j b 0 (by omega);have i:=d j b 1 (by omega);have p:=d j b 2 (by omega);have k:=d j b 3 (by omega);simp[Cc,KJ]at e i p k;exact⟨g,l.1,e,i,p,k⟩
theorem bZ(r:Nat)(Ax:Option Addr)(AH:Nat)(a:pM (Nat×U3))(w:py)(x:pM Nat)(hB:Mh r Ax AH a x w)(EY:Z a<=900000):
  Lx prog 182 #[m2 (V ⟨r,0,Y⟩)] (ia a) (List.range (Z a)).reverse x w:=by
 intro l o Jx W Bx _ _ hJ E0 hR AT;have z:=hB.grow Bx;have u:=z.at_;have R:=Ab z;have HJ:=Ab hJ;have HR:=Ab hR;have S:Hid (o ((List.range (Z a)).reverse.take (Z a-Z a)) x W):=by show o _ _ _;rw[Nat.sub_self,oA];exact AT
 have EK:Hid ((List.range (Z a)).reverse.take (Z a-0)=(List.range (Z a)).reverse):=by show _=_;rw[kX (by simp)]
 clear hB z hJ hR AT Bx;show Calls prog 182 #[.func (.yield l) #[] #[],m2 (V ⟨r,0,Y⟩)] W _;go_enter func182,ntmps182;go_wp2_with fail
 go_loopg [3] (Z a) (λgk i wr=>∃(j:Nat) (M:pM Nat),i=X .i64 ((j:Int)-1)/\j<=Z a/\gk=j/\Hid (Mh r Ax AH a M wr)/\Hid (o ((List.range (Z a)).reverse.take (Z a-j)) M wr)/\Hid (W.heap.size<=wr.heap.size))
 case atStart=>exact⟨Z a,x,by go_num,by omega,rfl,R,S,lC _⟩
 case round=>
  clear R S u;obtain⟨j,M,rfl,hj,T,m,p,C⟩:=hrel;have HG:=Ab T;clear T;by_cases I:0<j
  .obtain⟨k,rfl⟩:∃k,j=k+1:=⟨j-1,by omega⟩;(have L:((k+1:Nat):Int)-1=(k:Int):=by omega);rw[L];(have t:k<Z a:=by omega);obtain⟨g,hg,y,E,A,F⟩:=JT m.row k t;subst hg;have Dk:Hid (ia a k=#[X .i64 k,.agg #[O a[k].2.f.f.name,a[k].2.f.tv,X .i64 a[k].1,a[k].2.n]]):=by
    show _=_;unfold ia Z5;rw[lc t];rfl
   have b:=Ab (HR _ _ _ M wr (YN t) p);rw[Aa Dk]at b;have D:Hid ((List.range (Z a)).reverse.take (Z a-(k+1))++[k]=(List.range (Z a)).reverse.take (Z a-k)):=aL t;have u:=m.at_;(have FA:(0:Int)<=(k:Int):=by omega);(have B2:(k:Int)<(Z a:Int):=by omega);generalize a[k].2.f.f.name=X0 at y b;generalize a[k].2.f.tv=X1 at E b;generalize a[k].1=X2 at A b;generalize a[k].2.n=X3 at F b;clear Dk L I;refine pL (λQ c=>?_);go_wp2;refine c _ _ ?_;clear c Q;refine pL (λK5 A0=>?_);refine wp_block ?_;refine pL (λQ c=>?_);refine I1 (n:=0) 6 (by rintro ⟨_,_,h⟩;obtain⟨⟨v,e⟩,_⟩:=h;cases e) (λK2 AB=>?_);simp only[nQ,oA];go_wp2;refine AB _ _ ?_;clear AB K2;simp only[om,oF];refine J6 (λ_=>trivial) rfl rfl (l:=l) (args:=#[X .i64 k,.agg #[O X0,X1,X .i64 X2,X3]]) (by rfl) (by first|(simp[go_sem,Oper.semAt];done)|(simp[go_sem,Oper.semAt,execOp,resolve,invoke];done)) b ?_;rintro e H (⟨rfl,s,d,B,N⟩|⟨rfl,s,d,-⟩)
   .refine⟨_,rfl,Eh (by rintro ⟨_,_,h⟩;obtain⟨⟨v,e⟩,_⟩:=h;cases e) ?_⟩;simp only[Act.put,kR,kT,kU];have CL:=Ab (m.round B N);(have G:Hid (o ((List.range (Z a)).reverse.take (Z a-k)) s H):=by rw[<-Aa D];exact d);have B9:Hid (W.heap.size<=H.heap.size):=mp C B.size;clear d B N y E A F u b m p C D;go_wp2;refine c _ _ ?_;clear c;go_wp2;refine A0 _ _ ?_;clear A0;go_wp2
    go_roundg k
    case measure=>have:=Aa HG;omega
    case rel=>exact⟨k,s,by go_num,by omega,rfl,CL,G,B9⟩
   .refine⟨_,rfl,Eh (by rintro ⟨_,_,h⟩;obtain⟨⟨v,e⟩,_⟩:=h;cases e) ?_⟩;simp only[Act.put,kR,kT,kU];have G:=Ab d;clear d y E A F u b m p C D;go_wp2;refine c _ _ ?_;clear c;go_wp2;refine lL (oL rfl _ _ _) rfl ?_;exact⟨⟨_,rfl⟩,Or.inr ⟨_,s,G⟩⟩
  ·(have CC:j=0:=by omega);subst CC;have DT:Hid (o (List.range (Z a)).reverse M wr):=by
    have h:=Aa p;rw[Aa EK]at h;exact h
   (have B2:¬(0:Int)<=((0:Nat):Int)-1:=by omega);clear p I;go_wp2;go_end0;exact⟨⟨_,rfl⟩,Or.inl ⟨M,DT⟩⟩
theorem UF(c:Option Addr)(n b:Nat)(w:py):
  Calls prog 145 #[U c n b] w λr d=>∃a,r=oa (.func (.func 182) #[] #[m2 (V ⟨a,0,Y⟩)])/\AF d a [U c n b] 137/\w.heap.size<=a/\Ac [] w d:=by
 have e:=Ab (pP w [U c n b] 137);go_enter func145,ntmps145;go_wp2;go_ret;exact⟨w.heap.size,rfl,e,lC _,(pO [] w).alloc _⟩
