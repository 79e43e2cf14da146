import Derived.Test.YtoihbhenbmffcaaGreatDoorVBB
import Derived.Test.YtoihbhenbmffcaaGreatDoorVAY
import Derived.Test.YtoihbhenbmffcaaGreatDoorVAZ
set_option linter.all false
set_option maxHeartbeats 0
open List renaming length->Z
open Option renaming none->Y,some->V
open Go.Value renaming slice->U,int->X,string->O,pointer->Gi,ownBlock->OC
open Go.Ending renaming returned->G3
open Go renaming World->Hq,Value->Hs
open Go.World renaming cell?->Lc,ownsRow->Mi
namespace Go.Proofs.YtoihbhenbmffcaaGreatDoor
open Go.RowKit Go.Proofs.Tryz
variable{p:QC DF}{c:QC A7}{n m i k b j:Nat}{w v u:Hq}{z:Hs}{y x:QC Hs}{M:QC Nat}{o:Option Addr}
structure M7(pcs:QC DF)(rcs:QC A7):Prop where
 zL:F2 RY pcs rcs
 pass:Cp rcs
 cI:∀c∈pcs,KE c.pc
 names:∀c∈pcs,c.hn.size<=1000000/\∀p∈c.bm,p.1.an.size<=1000000
def M7.len(h:M7 p c):Z p<=12:=by rw[h.zL.lenX];exact h.pass.order.small.1
def M7.fit{a:QC A7}(h:M7 p a){c:DF}(b:c∈p):kF c:=(RH (h.cI c b)).1
def M7.litW{i:QC DF}{n:QC A7}(h:M7 i n){c:DF}{r:A7}(y:c∈i)(k:r∈n)(v:RY c r):∀x∈Am r,P7 (LQ x):=by
 intro x o;obtain⟨q,g,rfl⟩:=lP.1 o;obtain⟨p,s,j⟩:=v.lits.mem q g;have b:=h.pass.lits r k q.1 o;have f:=(h.pass.order.small.2 r k).2.2 q g;have z:Z q.1.A.args<=2:=by
  unfold BI at f;have:=of_decide_eq_false f;omega
 have e:=(h.cI c y).lits p.1 (by simp only[DF.pc];exact lZ s);rw[j.eq]at e;unfold Dk at b;by_cases d:(q.1.kind==97||q.1.kind==33)=true
 .rw[lS d]at b;have m:=e.bare (by rw[Iw];exact d);refine⟨by show Z (q.1.A.args.map ct)<=1000;rw[lR];omega,λt a=>?_,by rw[m.1];exact Or.inl rfl,by rw[m.2];exact Or.inl rfl⟩;obtain⟨u,w,rfl⟩:=lP.1 a;exact Kn (b.args u w)
 .rw[lO d]at b;have l:=j.plain (by unfold Nf;simpa using d);refine⟨by show Z (q.1.A.args.map ct)<=1000;rw[l];simp,λt a=>?_,Kn b.1,Kn b.2.1⟩;have a:t∈q.1.A.args.map ct:=a;rw[l]at a;simp at a
def M7.zB{b:QC A7}(h:M7 p b){L:bC->Nat}{s:QC Af}(a:GN b L n s):D1 s/\(∀f∈s,AJ f)/\Z s<=6912:=by
 have i:=a.len h.pass.prog.cU;have g:=R9 h.pass.order.small.1 (λc e=>(h.pass.order.small.2 c e).2.1);exact⟨a.cE,λf d=>(a.fw f d).canon h.pass.prog.cU,by omega⟩
def M7.cl(h:M7 p c){L:bC->Nat}{s:QC Af}(k:GN c L n s)(i:m<Z p)(g:m<Z c):QK p[m] c[m] s:=by
 have j:=h.zL.at m i g;have e:p[m]∈p:=lE i;have a:c[m]∈c:=lE g;have o:=h.zB k;refine⟨j,(h.fit e).pc,(h.fit e).dP,λx b=>⟨h.pass.lits _ a x b,h.litW e a j x b⟩,XC h.pass.prog.cI a (h.pass.lits _ a),h.pass.cU _ a,λf r x b q v=>?_,o.2.1,by omega⟩;obtain⟨d,l,t,u⟩:=(k.fw f r).zB;rw[u];exact h.pass.order.ar3 d l _ a x b q (by rw[<-t];exact v)
def M7.steps(h:M7 p c){L:bC->Nat}(w:CX c L){s:QC Af}(g:GN c L n s){l:QC (Nat×GZ Af)}(M:Zq c l s)(u:m<Z p)(o:m<Z c)(B:L c[m].head.name=n):Z8 p (λl s=>GN c L n s/\Zq c l s) m c[m] l s:=by
 have d:=h.cl g u o;have z:c[m]∈c:=lE o;have y:∀v e,∀t∈Jd (Am c[m]) s v e,t.size≠0:=λv e t q=>(d.al v e t q).size
 have k:∀f∈IE c[m] s,f∉s/\∃σ,(∀x∈Am c[m],Ce (Bk σ) (DZ σ) s x=true)/\f=Bk σ c[m].head:=λf a=>Um d.parts y a
 have C:∀j,GN c L n (((IE c[m] s).take j).foldl Bb s):=λj=>(Ly (h.pass.other w) g z B ((IE c[m] s).take j) s (λf a=>(k f (nk a)).2) g (λf a=>a) (λf a=>Or.inl a)).1
 have i:∀f∈IE c[m] s,AJ f/\Z f.args<=1000:=by
  intro f a;unfold IE Ss at a;obtain⟨b,D,rfl⟩:=lP.1 a;have N:=Mu d.al d.parts d.head (mh.1 D).1;refine⟨GJ N,?_⟩;have:=(h.pass.order.small.2 _ z).2.1;unfold Aq;simp only[lR];omega
 have A:=EE c[m].head.args [] n6;have r:(IE c[m] s).Nodup:=bj (λv e=>TF d.canon d.fitA v e) y d.parts A.2.1 (λv I=>by
  rcases(A.2.2 v).1 I with h|⟨_,t,q,e⟩
  .simp at h
  .exact⟨t,q,e⟩)
 refine⟨u,d,r,λf a=>⟨(k f a).1,(i f a).1,(i f a).2⟩,?_,λP G E j=>⟨C j,M.batch w g.cE d.canon (λf a=>g.work.top f a) o B r (λf a=>⟨(k f a).1,(i f a).1⟩) G E j⟩⟩;have H:=Xp (IE c[m] s) s g.cE d.canon r (λf a=>⟨(k f a).1,(i f a).1⟩);have F:=(h.zB (C (Z (IE c[m] s)))).2.2;rw[nM,H]at F;omega
def J0(rcs:QC A7)(ns:QC Nat):QC A7:=ns.filterMap λi=>rcs[i]?
def Xi{b:QC A7}{R:Nat->A7->Prop}:∀(a:QC Nat),(∀i∈a,∃h:i<Z b,R i b[i])->F2 R a (J0 b a)
 |[],_=>F2.nil
 |i::a,h=>by
  obtain⟨f,d⟩:=h i (by simp);have ih:=Xi a (λj c=>h j (by simp[c]));have e:J0 b (i::a)=b[i]::J0 b a:=by
   unfold J0;rw[pC,lN f]
  rw[e];exact F2.cons d ih
def JY(h:F2 RY p c)(a:i<Z c):G6 p i=c[i].head.name:=by
 have b:i<Z p:=by rw[h.lenX];exact a
 have:=(h.at i b a).hn;unfold G6;rw[lN b];exact this
def bJ{b:QC A7}(h:F2 RY p b){L:bC->Nat}(c:A7):c∈J0 b ((List.range (Z p)).filter λi=>L (G6 p i)==n)↔c∈b/\L c.head.name=n:=by
 unfold J0;rw[nD];constructor
 .rintro ⟨i,a,e⟩;obtain⟨a,f⟩:=mh.1 a;obtain⟨d,rfl⟩:=pr.1 e;rw[JY h d]at f;exact⟨lE d,by simpa using f⟩
 .rintro ⟨g,j⟩;obtain⟨i,a,rfl⟩:=mw g;refine⟨i,mh.2 ⟨pu.2 (by rw[h.lenX];exact a),?_⟩,lN a⟩;rw[JY h a];simpa using j
def Gy.parts(h:Gy w v){b:QC P8}(a:Ev w n z b):Ev v n z b:=⟨h.row a.row (by decide) (by decide) (by decide),λp c=>h.row (a.each p c) (by decide) (by decide) (by decide),a.apart⟩
def km(lad:Option Addr)(lcp:Nat)(pcs:QC DF)(rcs:QC A7)(w:Hq)(r:Ending)(w':Hq):Prop:=∃(cb:Nat) (s:QC Af) (hs:QC (Nat×GZ Af)) (L:bC->Nat) (N:Nat),r=G3 (Gi (V ⟨cb,0,Y⟩))/\ME w cb (U lad (Z pcs) lcp) [] [] s hs w'/\Zq rcs hs s/\CX rcs L/\GN rcs L N s/\∀c∈rcs,L c.head.name<N
set_option maxRecDepth 100000
theorem Md(m:Option Addr)(j:Nat)(b:QC DF)(a:QC A7)(w:Hq)(hP:DK w (U m (Z b) j) b)(A:M7 b a):
  Calls prog 74 #[U m (Z b) j] w λr G=>km m j b a w r G:=by
 have HM:=A.len;have B0:∀x,Cf a 6 x<=6:=Sg a 6;have FL:EP a (Cf a 6)<=100000:=by
  have P:∀(l:QC A7),EP l (Cf a 6)<=Z l*6:=λl=>by
   induction l with
   |nil=>simp[EP]
   |cons c l ih=>
    (have e:EP (c::l) (Cf a 6)=Cf a 6 c.head.name+EP l (Cf a 6):=by unfold EP;simp);have:=B0 c.head.name;rw[e,lQ,nR];omega
  have h2:=P a;have h3:=A.pass.order.small.1;omega
 have FB:Hid (∀t,Ac [] w t->Calls prog 123 #[U m (Z b) j] t λr G=>aH b a (Cf a 6) t r G):=λt hk=>Y0 m j b a t (Cf a 6) (hP.kept hk) A.zL (by omega) (λc hc=>(A.fit hc).pc.lits) A.names A.pass.prog.lay (λx=>by have:=B0 x;omega) FL
 have HL:=Ab hP;have z:=Ab A;have E0:=Ab HM;have I:Hid (ME w w.heap.size (U m (Z b) j) [] [] [] [] (w.alloc (.cells [U m (Z b) j,U Y 0 0,U Y 0 0].toArray 139))):=⟨(SF [] w).alloc _,lX _,Y,0,[],Y,0,[],Tc w _ 139,⟨mf _ _ _ _,λp R=>by simp at R⟩,⟨rfl,List.Pairwise.nil,λf hf=>by simp at hf⟩,mf _ _ _ _,λq hq=>by simp[OC]at hq,λq hq=>by simp,rfl,λp R=>by simp at R⟩;obtain⟨y,Ha⟩:=QP w.heap.size;clear hP A B0 FL;go_enter func74,ntmps74;go_wp2_with fail
 have AT:=Ab I.kept;change Calls _ _ _ (w.alloc (.cells [U m (Z b) j,U Y 0 0,U Y 0 0].toArray 139)) _;generalize w.alloc (.cells [U m (Z b) j,U Y 0 0,U Y 0 0].toArray 139)=w1 at I AT⊢;rw[Ha]at I;clear Ha;refine(FB w1 AT).mono ?_;rintro _ w2 ⟨ad,cp,v,L,rfl,T,BA,EM,HU,k2⟩;have FF:=Ab (I.grow k2);have FT:=Ab (Ev.mk (Al T.row (lW _)) (λp R=>Al (T.each p R) (lW _)) T.apart);have FA:=Ab BA;have AO:=Ab EM;have Ix:=BA.len;clear I AT FB T BA EM HU k2;go_wp2_with fail
 go_loopg [12] (Z v) (λgk i wr=>∃(k:Nat) (s:QC Af) (d:QC (Nat×GZ Af)),i=X .i64 k/\k<=Z v/\gk=Z v-k/\Hid (GN a L k s/\Zq a d s)/\Hid (ME w y (U m (Z b) j) [] [] s d wr)/\Hid (Gy w2 wr))
 case atStart=>exact⟨0,[],[],rfl,by omega,rfl,⟨GN.start _ _,Zq.start _⟩,FF,Gy.refl _⟩
 case round=>
  clear FF;obtain⟨k,s,d,rfl,hk,HD,C,Q,H⟩:=hrel;have HG:=Ab HD;clear HD;by_cases A2:k<Z v
  .obtain⟨g,Jx,CL,HK,M,hv,FC⟩:=Tv (H.parts FT) k A2;simp only[lB]at M;obtain⟨rfl,-,rfl⟩:=M;have Ax:=FT.each _ (lE A2);rw[hv]at Ax;have AB:=FA.lists k A2;obtain⟨o,EX⟩:=QP (v[k].1);rw[EX]at Ax AB FC;have H1:=Ab Ax;have HA:=Ab AB;have HJ:Z o<=1000:=by
    rw[AB];have:=nr (λi=>L (G6 b i)==k) (List.range (Z b));rw[List.length_range]at this;have:=Aa E0;omega
   have HT:=Ab HJ;obtain⟨NL,A0⟩:=QP (Z o);have HZ:=Ab A0;rw[A0]at FC;(have IJ:(0:Int)<=(k:Int):=by omega);(have H8:(k:Int)<(Z v:Int):=by omega);have HP:Hid (∀s d t,GN a L k s/\Zq a d s->ME w y (U m (Z b) j) [] [] s d t->Gy w2 t->Calls prog 124 #[Gi (V ⟨y,0,Y⟩),U CL NL HK] t λr G=>∃u F,u=(Ge (E3 jW) (J0 a o) s).1/\r=G3 (.bool (decide (Z s<Z u)))/\(GN a L k u/\Zq a F u)/\ME w y (U m (Z b) j) [] [] u F G/\Gy t G):=by
    intro s d t B hC hR;rw[<-Aa HZ];refine ee (λd s=>GN a L k s/\Zq a d s) w y m j b CL HK o (J0 a o) s d t HL (by have:=Aa E0;omega) HT (hR.row H1 (by decide) (by decide) (by decide)) hC B (λd s B=>by have h:=z.zB B.1;exact⟨h.1,h.2.1,by omega⟩) (λd s B=>Xi o (λi D=>?_));rw[Aa HA]at D;obtain⟨D,S⟩:=mh.1 D;have B9:=pu.1 D;(have BT:i<Z a:=by rw[<-(Aa z).zL.lenX];exact B9);refine⟨BT,z.steps AO B.1 B.2 B9 BT ?_⟩;rw[<-JY (Aa z).zL BT];simpa using S
   have HO:Hid (∀s,GN a L k s->((Ge (E3 jW) (J0 a o) s).2=false->(Ge (E3 jW) (J0 a o) s).1=s/\GN a L (k+1) s)/\((Ge (E3 jW) (J0 a o) s).2=true->Z s<Z (Ge (E3 jW) (J0 a o) s).1)):=by
    intro s B;have h:=z.pass.grow (al:=jW) (λc _ s=>Fr (Am c) s) AO (n:=k) (ds:=J0 a o) (λc=>by rw[Aa HA];exact bJ z.zL c) B;exact⟨h.2.1,h.2.2.1⟩
   clear Ax AB HJ hv EX A0;go_wp2_with fail
   go_loopg [] (7000-Z s) (λH5 wq=>∃(s:QC Af) (d:QC (Nat×GZ Af)),H5=7000-Z s/\Hid (GN a L k s/\Zq a d s)/\Hid (ME w y (U m (Z b) j) [] [] s d wq)/\Hid (Gy w2 wq))
   case atStart=>exact⟨s,d,rfl,C,Q,H⟩
   case round=>
    clear C Q H;obtain⟨s,d,HF,C,Q,H⟩:=hrel;have HY:=Ab HF;clear HF;have HH:=Ab (HP s d wr C Q H);(go_wp2_with fail);refine HH.mono ?_;rintro _ w5 ⟨u,W,F,rfl,FP,Go,CC⟩;have H9:=Ab F;have AR:=Ab FP;have DT:=Ab Go;have EK:=Ab (H.trans CC);have BB:=Aa HO s C.1;rw[<-F]at BB;have HQ:=Ab BB;clear HH F FP Go CC BB;by_cases E:Z s<Z u
    .have N:decide (Z s<Z u)=true:=nP E;rw[N];have H0:=Ab E;clear N E;go_wp2_with fail
     go_roundg (7000-Z u)
     case measure=>
      have P:=(z.zB AR.1).2.2;have h2:=Aa H0;have h3:=Aa HY;omega
     case rel=>exact⟨u,W,rfl,AR,DT,EK⟩
    .have N:decide (Z s<Z u)=false:=mY E;rw[N];have HE:Hid (u=s/\GN a L (k+1) s):=by
      have h:=Aa HQ;cases S:(Ge (E3 jW) (J0 a o) s).2 with
      |true=>exact absurd (h.2 S) E
      |false=>exact h.1 S
     have H4:Hid (ME w y (U m (Z b) j) [] [] s W w5):=by
      have h:=Aa DT;rw[(Aa HE).1]at h;exact h
     have H2:Hid (Zq a W s):=by
      have h:=AR.2;rw[(Aa HE).1]at h;exact h
     clear N E;go_wp2_with fail
     go_roundg (Z v-(k+1))
     case measure=>have:=Aa HG;omega
     case rel=>exact⟨k+1,s,W,by go_num,by omega,rfl,⟨HE.2,H2⟩,H4,EK⟩
  ·(have M:k=Z v:=by omega);(have HV:Hid (GN a L (Z v) s):=by have h:=C.1;rw[M]at h;exact h);clear M;go_wp2;go_ret;refine⟨y,s,d,L,Z v,rfl,Q,C.2,AO,HV,λc hc=>?_⟩;obtain⟨i,D,rfl⟩:=mw hc;have P:=FA.top i (by rw[(Aa z).zL.lenX];exact D);rw[JY (Aa z).zL D]at P;exact P
def je(lad:Option Addr)(lcp:Nat)(pcs:QC DF)(rcs:QC A7)(w:Hq)(r:Ending)(w':Hq):Prop:=∃(cb:Nat) (s:QC Af) (L:bC->Nat) (N:Nat),r=G3 (Gi (V ⟨cb,1,Y⟩))/\SO w cb (U lad (Z pcs) lcp) [] s w'/\CX rcs L/\GN rcs L N s/\∀c∈rcs,L c.head.name<N
theorem Pz(c:Option Addr)(b:Nat)(a:QC DF)(d:QC A7)(w:Hq)(g:DK w (U c (Z a) b) a)(k:M7 a d):
  Calls prog 41 #[U c (Z a) b] w λr m=>je c b a d w r m:=by
 have f:=Ab (Md c b a d w g k);clear g k;go_enter func41,ntmps41;go_wp2_with fail
 refine f.mono ?_;rintro _ n ⟨e,s,p,L,N,rfl,j,_,h,l,i⟩;have o:Hid (je c b a d w (G3 (Gi (V ⟨e,1,Y⟩))) n):=⟨e,s,L,N,rfl,j.cou,h,l,i⟩;clear f j h l i;go_wp2;go_ret;exact o
def Mb{e t:TypeId}{l cs:QC Hs}{N:Nat}(h:Mi w m e k z n l)(j:AI w N cs t)(f:(e==t)=false):∀i,z.ownBlock=V i->i∉[N]:=by
 intro i b d;rw[lG]at d;subst d;rcases h.2 with⟨rfl,_⟩|⟨g,c,o,rfl,_,a,_⟩
 .simp[OC]at b
 .simp only[OC,lL]at b;subst b;unfold AI at j;rw[j]at a;simp only[lL,Obj.cells.injEq]at a;rw[a.2.1]at f;simp at f
def Zz{e t:TypeId}(h:AI w n y e)(c:AI w b x t)(f:(e==t)=false):n∉[b]:=by
 intro d;rw[lG]at d;subst d;unfold AI at h c;rw[c]at h;simp only[lL,Obj.cells.injEq]at h;rw[h.2.1]at f;simp at f
def Jr.zY{b:QC Fh}(h:Jr w z b)(c:AI w n y 145)(k:Ac [n] w v):Jr v z b:=
 ⟨Ai h.row k (Mb h.row c (by rfl)),λp a=>⟨Ai (h.each p a).1 k (Mb (h.each p a).1 c (by rfl)),(h.each p a).2⟩⟩
def Cd.zY{c:QC Lx}(h:Cd w n z c)(b:AI w m y 145)(k:Ac [m] w u):Cd u n z c:=
 ⟨Ai h.row k (Mb h.row b (by rfl)),λp a=>⟨Ai (h.each p a).1 k (Mb (h.each p a).1 b (by rfl)),(h.each p a).2⟩⟩
structure kf(w:Hq)(bv:Hs)(bm:QC Lx)(body:QC Bp):Prop where
 at_:Cd w 0 bv bm
 map:bm.map Prod.fst=body.map LQ
 cI:∀p∈bm,G7 p.1
 len:Z bm<=3
def Y3(k:Ac M w u)(h:Lc w ⟨b,n,Y⟩=V z)(d:b∉M):Lc u ⟨b,n,Y⟩=V z:=by
 unfold World.cell? at h⊢;have c:b<w.heap.size:=by
  rcases Nat.lt_or_ge b w.heap.size with a|a
  .exact a
  .simp[oP a]at h
 rw[k.block b c d];exact h
def kf.dP{a:QC Lx}{b:QC Bp}(h:kf w z a b):A5 a=(b.flatMap Bo).map ct:=by
 unfold A5;have e:a.flatMap (λp=>AU p.1)=(a.map Prod.fst).flatMap AU:=by rw[List.flatMap_map]
 rw[e,h.map,List.flatMap_map,px]
 congr 1
 funext x
 exact QA x
def kf.vars{b:QC Lx}{a:QC Bp}(h:kf w z b a):DW (A5 b)=C7 (A9 a):=by
 rw[h.dP,R6];rfl
def kf.litW{g:QC Lx}{i:QC Bp}(h:kf w z g i)(n:∀x∈i,Dk x):∀x∈i,P7 (LQ x):=by
 intro x l;obtain⟨p,f,m⟩:∃p∈g,p.1=LQ x:=by
  have:LQ x∈g.map Prod.fst:=by rw[h.map];exact lZ l
  obtain⟨p,f,e⟩:=lP.1 this;exact⟨p,f,e⟩
 have d:=h.cI p f;rw[m]at d;have a:=n x l;unfold Dk at a;by_cases b:(x.kind==97||x.kind==33)=true
 .rw[lS b]at a;have k:=d.bare (by rw[Iw];exact b);refine⟨by have:=d.le;omega,λt c=>?_,by rw[k.1];exact Or.inl rfl,by rw[k.2];exact Or.inl rfl⟩;obtain⟨u,o,rfl⟩:=lP.1 c;exact Kn (a.args u o)
 .rw[lO b]at a;have j:=d.plain (by rw[Iw];simpa using b);refine⟨by rw[j];simp,λt c=>?_,Kn a.1,Kn a.2.1⟩;rw[j]at c;simp at c
def kf.fit{a:QC Lx}{f:QC Bp}(h:kf w z a f):(∀p∈a,0<Z (AU p.1)/\Z (AU p.1)<=1000)/\Z (A5 a)<=90000:=by
 have c:∀p∈a,0<Z (AU p.1)/\Z (AU p.1)<=1000:=λp b=>by
  have d:=h.cI p b;have:=d.le;unfold AU;split
  .rename_i e;exact⟨d.some e,by omega⟩
  .exact⟨by simp,by simp⟩
 refine⟨c,?_⟩;have g:=I9 (λp b=>(c p b).2);have:=h.len;omega
theorem SH(k n:Nat)(F:Option Addr)(G:Nat)(q:QC Fh)(i:Option Addr)(h:Nat)(b:QC Lx)(a:QC Bp)(s:QC Af)(w:Hq)(N:Nat)(cs:QC Hs)
  (hN:AI w N cs 145) (B0:k∉[N]) (hc:Lc w ⟨k,n,Y⟩=V (U F (Z q) G)) (hF:Jr w (U F (Z q) G) q) (e:kf w (U i (Z b) h) b a) (S:Dp q s) (BA:Z s<=10000) (o:Zx a s) (h6:Z (A9 a)<=6):
  Calls prog 94 #[Gi (V ⟨k,n,Y⟩),U i (Z b) h] w λr c=>∃l E,r=G3 (.func (.func 140) #[] #[Gi (V ⟨E,0,Y⟩)])/\AI c E [Gi (V ⟨l,0,Y⟩)] 233/\w.heap.size<=E/\(∀d,Ac [N] c d->eh d l a s (A9 a))/\Ac [] w c:=by
 obtain⟨B9,T⟩:=e.fit;have I:=Ab (Qz i h b w e.at_ (by have:=e.len;omega) B9);have H:Hid (∀z D d,Mi d w.heap.size 215 2 (U z (Z (A5 b)) D) (Z (A5 b)) ((A5 b).flatMap Ar)->Calls prog 138 #[U z (Z (A5 b)) D] d λr c=>∃A B,r=G3 (U A (Z (A9 a)) B)/\Mi c d.heap.size 21 1 (U A (Z (C7 (A9 a))) B) (Z (C7 (A9 a))) ((C7 (A9 a)).flatMap AW)/\Ac [] d c):=by
  intro z D d C;refine(OG z D _ _ d C T).mono ?_;rintro r c ⟨A,B,rfl,y,t⟩;rw[e.vars]at y;exact⟨A,B,by rw[e.vars,GG],y,t⟩
 have BB:Hid (∀l f g c,Ac [] w c->w.heap.size<=l->AI c l [Gi (V ⟨k,n,Y⟩),U i (Z b) h,U f (Z (A9 a)) g] 237->Mi c 0 21 1 (U f (Z (C7 (A9 a))) g) (Z (C7 (A9 a))) ((C7 (A9 a)).flatMap AW)->∀d,Ac [N] c d->eh d l a s (A9 a)):=by
  intro l f g c m EK P C d p;have u:=hN.kept m;have CC:Z a=Z b:=by have:=congrArg List.length e.map;simpa using this.symm
  have CL:=e.len;refine⟨⟨k,n,i,h,b,f,g,F,G,q,⟨?_,?_,(hF.kept m).zY u p⟩,(e.at_.kept m).zY u p,e.map,Ai C p (Mb C u (by rfl)),S⟩,BA,λx hx=>⟨o.lits x hx,e.litW o.lits x hx⟩,by omega,by omega,o.fit,λv hv=>(o.vars v hv).1⟩
  .rw[GG];exact P.kept p (Zz P u (by rfl))
  .exact Y3 p (m.cellAt hc) B0
 clear hF e S o hN hc;generalize(A5 b)=BT at I H T;go_enter func94,ntmps94;go_wp2_with fail
 refine(Aa I).mono ?_;rintro _ w1 ⟨A2,A1,rfl,W,L⟩;have M:=Ab (Aa H A2 A1 w1 W);have Q:=Ab L;clear I H W L;go_wp2_with fail
 refine(Aa M).mono ?_;rintro _ j ⟨f,g,rfl,Ax,k2⟩;have A0:=Ab Ax;have R:=Ab ((Aa Q).trans k2);have BS:=(Aa R).size;clear M Q Ax k2;go_wp2;go_ret;have y:=(Tc j [Gi (V ⟨k,n,Y⟩),U i (Z b) h,U f (Z (A9 a)) g] 237).alloc (.cells #[Gi (V ⟨j.heap.size,0,Y⟩)] 233);have t:=Tc (j.alloc (.cells #[Gi (V ⟨k,n,Y⟩),U i (Z b) h,U f (Z (A9 a)) g] 237)) [Gi (V ⟨j.heap.size,0,Y⟩)] 233;rw[mt]at t;have m:=((Aa R).alloc (.cells #[Gi (V ⟨k,n,Y⟩),U i (Z b) h,U f (Z (A9 a)) g] 237)).alloc (.cells #[Gi (V ⟨j.heap.size,0,Y⟩)] 233);exact⟨j.heap.size,j.heap.size+1,rfl,t,by omega,Aa BB j.heap.size f g _ m BS y (Al (((Aa A0).alloc _).alloc _) (lW _)),m⟩
def Z9(sts:QC (Nat×UZ))(i:Nat):QC Hs:=(sts[i]?).elim [] Ci
def iu(sts:QC (Nat×UZ))(i:Nat):Array Hs:=#[X .i64 i,.agg (Z9 sts i).toArray]
structure Mh(b1:Nat)(sad:Option Addr)(scp:Nat)(sts:QC (Nat×UZ))(M:QC Nat)(w:Hq):Prop where
 at_:Lc w ⟨b1,0,Y⟩=V (U sad (Z sts) scp)
 row:Mi w 0 176 4 (U sad (Z sts) scp) (Z sts) (sts.flatMap Ci)
 apart:∀k∈M,k≠b1/\(U sad (Z sts) scp).ownBlock≠V k/\k<w.heap.size
def Mh.grow{b:QC (Nat×UZ)}(h:Mh n o m b M w)(k:Ac [] w v):Mh n o m b M v:=
 ⟨k.cellAt h.at_,Ad h.row k,λi a=>⟨(h.apart i a).1,(h.apart i a).2.1,nz (h.apart i a).2.2 k.size⟩⟩
def Mh.round{f:QC (Nat×UZ)}{M g:QC Nat}(h:Mh n o m f M w)(k:Ac M w v)(d:∀i∈g,(i∈M\/w.heap.size<=i)/\i<v.heap.size):Mh n o m f g v:=by
 have j:=Oz h.at_;refine⟨Lf k h.at_ (λb=>(h.apart _ b).1 rfl),Ai h.row k (λq c b=>(h.apart q b).2.1 c),λi e=>⟨?_,?_,(d i e).2⟩⟩
 .rcases(d i e).1 with a|a
  .exact(h.apart i a).1
  .omega
 .rcases(d i e).1 with a|a
  .exact(h.apart i a).2.1
  .intro c;have:=(h.row.lt i c).2;omega
def YT(d:j<n):(List.range n).reverse=(List.range n).reverse.take (n-(j+1))++j::(List.range n).reverse.drop (n-j):=by
 have b:n-(j+1)<Z (List.range n).reverse:=by simp;omega
 have c:(List.range n).reverse[n-(j+1)]=j:=by
  rw[List.getElem_reverse];simp;omega
 have a:=mU (n-(j+1)) (List.range n).reverse;rw[lY b,c,show n-(j+1)+1=n-j by omega]at a;exact a.symm
def aS(c:j<n):(List.range n).reverse.take (n-(j+1))++[j]=(List.range n).reverse.take (n-j):=by
 have a:n-(j+1)<Z (List.range n).reverse:=by simp;omega
 have b:(List.range n).reverse[n-(j+1)]=j:=by
  rw[List.getElem_reverse];simp;omega
 rw[show n-j=n-(j+1)+1 by omega,lF a,b]
def JX{a:QC (Nat×UZ)}(h:Mi w 0 176 4 (U o (Z a) m) (Z a) (a.flatMap Ci))(j:Nat)(b:j<Z a):
  ∃g,o=V ⟨g,0,Y⟩/\Lc w ⟨g,j*4,Y⟩=V (O a[j].2.f.f.name)/\Lc w ⟨g,j*4+1,Y⟩=V a[j].2.f.tv/\Lc w ⟨g,j*4+2,Y⟩=V (X .i64 a[j].1)/\Lc w ⟨g,j*4+3,Y⟩=V a[j].2.n:=by
 obtain⟨g,q,l,_,d⟩:=AC h (λc _=>rfl) j b;simp only[lB]at l;have e:=d j b 0 (by omega);have i:=d j b 1 (by omega);have p:=d j b 2 (by omega);have k:=d j b 3 (by omega);simp[Ci,KI]at e i p k;exact⟨g,l.1,e,i,p,k⟩
theorem ck(r:Nat)(Ax:Option Addr)(AH:Nat)(a:QC (Nat×UZ))(w:Hq)(x:QC Nat)(hB:Mh r Ax AH a x w)(ES:Z a<=900000):
  Lv prog 182 #[Gi (V ⟨r,0,Y⟩)] (iu a) (List.range (Z a)).reverse x w:=by
 intro l o Jx W A2 _ _ hJ EX hR AR;have z:=hB.grow A2;have u:=z.at_;have R:=Ab z;have HJ:=Ab hJ;have HR:=Ab hR;have S:Hid (o ((List.range (Z a)).reverse.take (Z a-Z a)) x W):=by show o _ _ _;rw[Nat.sub_self,oT];exact AR
 have CL:Hid ((List.range (Z a)).reverse.take (Z a-0)=(List.range (Z a)).reverse):=by show _=_;rw[lH (by simp)]
 clear hB z hJ hR AR A2;show Calls prog 182 #[.func (.yield l) #[] #[],Gi (V ⟨r,0,Y⟩)] W _;go_enter func182,ntmps182;go_wp2_with fail
 go_loopg [3] (Z a) (λgk i wr=>∃(j:Nat) (M:QC Nat),i=X .i64 ((j:Int)-1)/\j<=Z a/\gk=j/\Hid (Mh r Ax AH a M wr)/\Hid (o ((List.range (Z a)).reverse.take (Z a-j)) M wr)/\Hid (W.heap.size<=wr.heap.size))
 case atStart=>exact⟨Z a,x,by go_num,by omega,rfl,R,S,lX _⟩
 case round=>
  clear R S u;obtain⟨j,M,rfl,hj,T,m,p,C⟩:=hrel;have HG:=Ab T;clear T;by_cases I:0<j
  .obtain⟨k,rfl⟩:∃k,j=k+1:=⟨j-1,by omega⟩;(have L:((k+1:Nat):Int)-1=(k:Int):=by omega);rw[L];(have t:k<Z a:=by omega);obtain⟨g,hg,y,E,A,F⟩:=JX m.row k t;subst hg;have DY:Hid (iu a k=#[X .i64 k,.agg #[O a[k].2.f.f.name,a[k].2.f.tv,X .i64 a[k].1,a[k].2.n]]):=by
    show _=_;unfold iu Z9;rw[lN t];rfl
   have b:=Ab (HR _ _ _ M wr (YT t) p);rw[Aa DY]at b;have D:Hid ((List.range (Z a)).reverse.take (Z a-(k+1))++[k]=(List.range (Z a)).reverse.take (Z a-k)):=aS t;have u:=m.at_;(have EY:(0:Int)<=(k:Int):=by omega);(have BT:(k:Int)<(Z a:Int):=by omega);generalize a[k].2.f.f.name=X0 at y b;generalize a[k].2.f.tv=X1 at E b;generalize a[k].1=X2 at A b;generalize a[k].2.n=X3 at F b;clear DY L I;refine Q0 (λQ c=>?_);go_wp2;refine c _ _ ?_;clear c Q;refine Q0 (λK5 AT=>?_);refine wp_block ?_;refine Q0 (λQ c=>?_);refine I5 (n:=0) 6 (by rintro ⟨_,_,h⟩;obtain⟨⟨v,e⟩,_⟩:=h;cases e) (λK2 AB=>?_);simp only[oy,oT];go_wp2;refine AB _ _ ?_;clear AB K2;simp only[oM,pd];refine J8 (λ_=>trivial) rfl rfl (l:=l) (args:=#[X .i64 k,.agg #[O X0,X1,X .i64 X2,X3]]) (by rfl) (by first|(simp[go_sem,Oper.semAt];done)|(simp[go_sem,Oper.semAt,execOp,resolve,invoke];done)) b ?_;rintro e H (⟨rfl,s,d,B,N⟩|⟨rfl,s,d,-⟩)
   .refine⟨_,rfl,Ep (by rintro ⟨_,_,h⟩;obtain⟨⟨v,e⟩,_⟩:=h;cases e) ?_⟩;simp only[Act.put,lz,lC,lD];have B9:=Ab (m.round B N);(have G:Hid (o ((List.range (Z a)).reverse.take (Z a-k)) s H):=by rw[<-Aa D];exact d);have B0:Hid (W.heap.size<=H.heap.size):=mM C B.size;clear d B N y E A F u b m p C D;go_wp2;refine c _ _ ?_;clear c;go_wp2;refine AT _ _ ?_;clear AT;go_wp2
    go_roundg k
    case measure=>have:=Aa HG;omega
    case rel=>exact⟨k,s,by go_num,by omega,rfl,B9,G,B0⟩
   .refine⟨_,rfl,Ep (by rintro ⟨_,_,h⟩;obtain⟨⟨v,e⟩,_⟩:=h;cases e) ?_⟩;simp only[Act.put,lz,lC,lD];have G:=Ab d;clear d y E A F u b m p C D;go_wp2;refine c _ _ ?_;clear c;go_wp2;refine mj (pj rfl _ _ _) rfl ?_;exact⟨⟨_,rfl⟩,Or.inr ⟨_,s,G⟩⟩
  ·(have B2:j=0:=by omega);subst B2;have CC:Hid (o (List.range (Z a)).reverse M wr):=by
    have h:=Aa p;rw[Aa CL]at h;exact h
   (have BT:¬(0:Int)<=((0:Nat):Int)-1:=by omega);clear p I;go_wp2;go_end0;exact⟨⟨_,rfl⟩,Or.inl ⟨M,CC⟩⟩
theorem UE(c:Option Addr)(n b:Nat)(w:Hq):
  Calls prog 145 #[U c n b] w λr d=>∃a,r=G3 (.func (.func 182) #[] #[Gi (V ⟨a,0,Y⟩)])/\AI d a [U c n b] 137/\w.heap.size<=a/\Ac [] w d:=by
 have e:=Ab (Tc w [U c n b] 137);go_enter func145,ntmps145;go_wp2;go_ret;exact⟨w.heap.size,rfl,e,lX _,(SF [] w).alloc _⟩
