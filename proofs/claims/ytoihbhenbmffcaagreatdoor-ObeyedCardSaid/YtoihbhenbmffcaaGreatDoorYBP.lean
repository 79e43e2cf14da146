import Derived.Test.YtoihbhenbmffcaaGreatDoorYBO
import Derived.Test.YtoihbhenbmffcaaGreatDoorYBL
import Derived.Test.YtoihbhenbmffcaaGreatDoorYBM
set_option linter.all false
set_option maxHeartbeats 0
open List renaming length->Z
open Option renaming none->Y,some->V
open Go.Value renaming slice->U,int->X,string->O,pointer->kt,ownBlock->lX
open Go.Ending renaming returned->lo
open Go renaming World->l9,Value->lN
open Go.World renaming cell?->lP,ownsRow->lQ
namespace Go.Proofs.YtoihbhenbmffcaaGreatDoor
open Go.RowKit Go.Proofs.Tryz
structure LW(pcs:mc Db)(rcs:mc A6):Prop where
 zs:F2 QH pcs rcs
 pass:Dn rcs
 zM:∀c∈pcs,JR c.pc
 names:∀c∈pcs,c.hn.size<=1000000/\∀p∈c.zD,p.1.an.size<=1000000
def LW.len{a:mc Db}{b:mc A6}(h:LW a b):Z a<=12:=by rw[h.zs.lenX];exact h.pass.order.small.1
def LW.fit{a:mc Db}{d:mc A6}(h:LW a d){c:Db}(b:c∈a):fO c:=(Qi (h.zM c b)).1
def LW.litW{n:mc Db}{f:mc A6}(h:LW n f){c:Db}{r:A6}(y:c∈n)(j:r∈f)(v:QH c r):∀x∈Ak r,OK (KF x):=by
 intro x o;obtain⟨q,g,rfl⟩:=gX.1 o;obtain⟨p,s,i⟩:=v.lits.mem q g;have a:=h.pass.lits r j q.1 o;have e:=(h.pass.order.small.2 r j).2.2 q g;have z:Z q.1.A.args<=2:=by
  unfold BC at e;have:=of_decide_eq_false e;omega
 have m:=(h.zM c y).lits p.1 (by simp only[Db.pc];exact it s);rw[i.eq]at m;unfold Do at a;by_cases d:(q.1.kind==97||q.1.kind==33)=true
 .rw[gY d]at a;have l:=m.bare (by rw[Hf];exact d);refine⟨by show Z (q.1.A.args.map ct)<=1000;rw[ie];omega,λt b=>?_,by rw[l.1];exact Or.inl rfl,by rw[l.2];exact Or.inl rfl⟩;obtain⟨u,w,rfl⟩:=gX.1 b;exact Jy (a.args u w)
 .rw[gV d]at a;have k:=i.plain (by unfold MT;simpa using d);refine⟨by show Z (q.1.A.args.map ct)<=1000;rw[k];simp,λt b=>?_,Jy a.1,Jy a.2.1⟩;have b:t∈q.1.A.args.map ct:=b;rw[k]at b;simp at b
def LW.zh{e:mc Db}{b:mc A6}(h:LW e b){L:zA->Nat}{n:Nat}{s:mc Af}(a:Il b L n s):Ef s/\(∀f∈s,AJ f)/\Z s<=6912:=by
 have j:=a.len h.pass.prog.zN;have i:=QA h.pass.order.small.1 (λc g=>(h.pass.order.small.2 c g).2.1);exact⟨a.zL,λf d=>(a.zZ f d).canon h.pass.prog.zN,by omega⟩
def LW.cl{e:mc Db}{b:mc A6}(h:LW e b){L:zA->Nat}{n:Nat}{s:mc Af}(m:Il b L n s){a:Nat}(k:a<Z e)(j:a<Z b):Pr e[a] b[a] s:=by
 have l:=h.zs.at a k j;have i:e[a]∈e:=gL k;have c:b[a]∈b:=gL j;have p:=h.zh m;refine⟨l,(h.fit i).pc,(h.fit i).zQ,λx g=>⟨h.pass.lits _ c x g,h.litW i c l x g⟩,VH h.pass.prog.zM c (h.pass.lits _ c),h.pass.zN _ c,λf r x g q v=>?_,p.2.1,by omega⟩;obtain⟨d,o,t,u⟩:=(m.zZ f r).zh;rw[u];exact h.pass.order.ar3 d o _ c x g q (by rw[<-t];exact v)
def LW.steps{q:mc Db}{a:mc A6}(h:LW q a){L:zA->Nat}(w:Cn a L){n:Nat}{s:mc Af}(i:Il a L n s){m:mc (Nat×Gr Af)}(M:Xm a m s){d:Nat}(u:d<Z q)(o:d<Z a)(B:L a[d].head.name=n):X7 q (λm s=>Il a L n s/\Xm a m s) d a[d] m s:=by
 have g:=h.cl i u o;have z:a[d]∈a:=gL o;have y:∀v e,∀t∈Im (Ak a[d]) s v e,t.size≠0:=λv e t p=>(g.al v e t p).size
 have l:∀f∈Hm a[d] s,f∉s/\∃σ,(∀x∈Ak a[d],CH (Bu σ) (Eb σ) s x=true)/\f=Bu σ a[d].head:=λf c=>SA g.parts y c
 have C:∀j,Il a L n (((Hm a[d] s).take j).foldl A9 s):=λj=>(Kt (h.pass.other w) i z B ((Hm a[d] s).take j) s (λf c=>(l f (jr c)).2) i (λf c=>c) (λf c=>Or.inl c)).1
 have k:∀f∈Hm a[d] s,AJ f/\Z f.args<=1000:=by
  intro f c;unfold Hm QT at c;obtain⟨b,D,rfl⟩:=gX.1 c;have N:=Ln g.al g.parts g.head (ir.1 D).1;refine⟨F9 N,?_⟩;have:=(h.pass.order.small.2 _ z).2.1;unfold AB;simp only[ie];omega
 have A:=D0 a[d].head.args [] jT;have r:(Hm a[d] s).Nodup:=YK (λv e=>R1 g.canon g.fitA v e) y g.parts A.2.1 (λv I=>by
  rcases(A.2.2 v).1 I with h|⟨_,t,p,e⟩
  .simp at h
  .exact⟨t,p,e⟩)
 refine⟨u,g,r,λf c=>⟨(l f c).1,(k f c).1,(k f c).2⟩,?_,λP G E j=>⟨C j,M.batch w i.zL g.canon (λf c=>i.work.top f c) o B r (λf c=>⟨(l f c).1,(k f c).1⟩) G E j⟩⟩;have H:=Vw (Hm a[d] s) s i.zL g.canon r (λf c=>⟨(l f c).1,(k f c).1⟩);have F:=(h.zh (C (Z (Hm a[d] s)))).2.2;rw[j6,H]at F;omega
def I9(rcs:mc A6)(ns:mc Nat):mc A6:=ns.filterMap λi=>rcs[i]?
def Vn{b:mc A6}{R:Nat->A6->Prop}:∀(a:mc Nat),(∀i∈a,∃h:i<Z b,R i b[i])->F2 R a (I9 b a)
 |[],_=>F2.nil
 |i::a,h=>by
  obtain⟨f,d⟩:=h i (by simp);have ih:=Vn a (λj c=>h j (by simp[c]));have e:I9 b (i::a)=b[i]::I9 b a:=by
   unfold I9;rw[List.filterMap_cons,gS f]
  rw[e];exact F2.cons d ih
def I5{a:mc Db}{b:mc A6}(h:F2 QH a b){i:Nat}(c:i<Z b):GA a i=b[i].head.name:=by
 have d:i<Z a:=by rw[h.lenX];exact c
 have:=(h.at i d c).hn;unfold GA;rw[gS d];exact this
def Y1{b:mc Db}{d:mc A6}(h:F2 QH b d){L:zA->Nat}{n:Nat}(c:A6):c∈I9 d ((List.range (Z b)).filter λi=>L (GA b i)==n)↔c∈d/\L c.head.name=n:=by
 unfold I9;rw[jy];constructor
 .rintro ⟨i,a,e⟩;obtain⟨a,g⟩:=ir.1 a;obtain⟨f,rfl⟩:=kZ.1 e;rw[I5 h f]at g;exact⟨gL f,by simpa using g⟩
 .rintro ⟨j,k⟩;obtain⟨i,a,rfl⟩:=iF j;refine⟨i,ir.2 ⟨k0.2 (by rw[h.lenX];exact a),?_⟩,gS a⟩;rw[I5 h a];simpa using k
def GD.parts{w w':l9}(h:GD w w'){base:Nat}{c:lN}{b:mc OL}(a:DR w base c b):DR w' base c b:=⟨h.row a.row (by decide) (by decide) (by decide),λp d=>h.row (a.each p d) (by decide) (by decide) (by decide),a.apart⟩
def fF(lad:Option Addr)(lcp:Nat)(pcs:mc Db)(rcs:mc A6)(w:l9)(r:Ending)(w':l9):Prop:=∃(cb:Nat) (s:mc Af) (hs:mc (Nat×Gr Af)) (L:zA->Nat) (N:Nat),r=lo (kt (V ⟨cb,0,Y⟩))/\Ls w cb (U lad (Z pcs) lcp) [] [] s hs w'/\Xm rcs hs s/\Cn rcs L/\Il rcs L N s/\∀c∈rcs,L c.head.name<N
set_option maxRecDepth 100000
theorem KY(m:Option Addr)(j:Nat)(b:mc Db)(a:mc A6)(w:l9)(hP:C9 w (U m (Z b) j) b)(A:LW b a):
  Calls prog 74 #[U m (Z b) j] w λr G=>fF m j b a w r G:=by
 have HU:=A.len;have CL:∀x,DH a 6 x<=6:=QF a 6;have HA:Ea a (DH a 6)<=100000:=by
  have P:∀(l:mc A6),Ea l (DH a 6)<=Z l*6:=λl=>by
   induction l with
   |nil=>simp[Ea]
   |cons c l ih=>
    (have e:Ea (c::l) (DH a 6)=DH a 6 c.head.name+Ea l (DH a 6):=by unfold Ea;simp);have:=CL c.head.name;rw[e,gW,jS];omega
  have h2:=P a;have h3:=A.pass.order.small.1;omega
 have FT:Hid (∀t,Ac [] w t->Calls prog 123 #[U m (Z b) j] t λr G=>Yq b a (DH a 6) t r G):=λt hk=>WS m j b a t (DH a 6) (hP.kept hk) A.zs (by omega) (λc hc=>(A.fit hc).pc.lits) A.names A.pass.prog.lay (λx=>by have:=CL x;omega) HA
 have HT:=Ab hP;have z:=Ab A;have FO:=Ab HU;have I:Hid (Ls w w.heap.size (U m (Z b) j) [] [] [] [] (w.alloc (.cells [U m (Z b) j,U Y 0 0,U Y 0 0].toArray 139))):=⟨(me [] w).alloc _,ig _,Y,0,[],Y,0,[],mf w _ 139,⟨ip _ _ _ _,λp R=>by simp at R⟩,⟨rfl,List.Pairwise.nil,λf hf=>by simp at hf⟩,ip _ _ _ _,λq hq=>by simp[lX]at hq,λq hq=>by simp,rfl,λp R=>by simp at R⟩;obtain⟨y,HK⟩:∃y,w.heap.size=y:=⟨_,rfl⟩;clear hP A CL HA;go_enter func74,ntmps74;go_wp2_with fail
 have A2:=Ab I.kept;change Calls _ _ _ (w.alloc (.cells [U m (Z b) j,U Y 0 0,U Y 0 0].toArray 139)) _;generalize w.alloc (.cells [U m (Z b) j,U Y 0 0,U Y 0 0].toArray 139)=w1 at I A2⊢;rw[HK]at I;clear HK;refine(FT w1 A2).mono ?_;rintro _ w2 ⟨ad,cp,v,L,rfl,T,B0,FB,H1,k2⟩;have Ha:=Ab (I.grow k2);have HF:=Ab (DR.mk (Am T.row (ik _)) (λp R=>Am (T.each p R) (ik _)) T.apart);have FP:=Ab B0;have A0:=Ab FB;have K1:=B0.len;clear I A2 FT T B0 FB H1 k2;go_wp2_with fail
 go_loopg [12] (Z v) (λgk i wr=>∃(k:Nat) (s:mc Af) (d:mc (Nat×Gr Af)),i=X .i64 k/\k<=Z v/\gk=Z v-k/\Hid (Il a L k s/\Xm a d s)/\Hid (Ls w y (U m (Z b) j) [] [] s d wr)/\Hid (GD w2 wr))
 case atStart=>exact⟨0,[],[],rfl,by omega,rfl,⟨Il.start _ _,Xm.start _⟩,Ha,GD.refl _⟩
 case round=>
  clear Ha;obtain⟨k,s,d,rfl,hk,HN,C,Q,H⟩:=hrel;have HG:=Ab HN;clear HN;by_cases BS:k<Z v
  .obtain⟨g,K5,EX,HS,M,hv,Go⟩:=RQ (H.parts HF) k BS;simp only[gM]at M;obtain⟨rfl,-,rfl⟩:=M;have Ax:=HF.each _ (gL BS);rw[hv]at Ax;have AO:=FP.lists k BS;obtain⟨o,FF⟩:∃o,v[k].1=o:=⟨_,rfl⟩;rw[FF]at Ax AO Go;have H8:=Ab Ax;have HL:=Ab AO;have HQ:Z o<=1000:=by
    rw[AO];have:=jn (λi=>L (GA b i)==k) (List.range (Z b));rw[List.length_range]at this;have:=Aa FO;omega
   have H0:=Ab HQ;obtain⟨NL,Bx⟩:∃NL,Z o=NL:=⟨_,rfl⟩;have H6:=Ab Bx;rw[Bx]at Go;(have K3:(0:Int)<=(k:Int):=by omega);(have KK:(k:Int)<(Z v:Int):=by omega);have HX:Hid (∀s d t,Il a L k s/\Xm a d s->Ls w y (U m (Z b) j) [] [] s d t->GD w2 t->Calls prog 124 #[kt (V ⟨y,0,Y⟩),U EX NL HS] t λr G=>∃u F,u=(Fv (Ep ft) (I9 a o) s).1/\r=lo (.bool (decide (Z s<Z u)))/\(Il a L k u/\Xm a F u)/\Ls w y (U m (Z b) j) [] [] u F G/\GD t G):=by
    intro s d t B hC hR;rw[<-Aa H6];refine aP (λd s=>Il a L k s/\Xm a d s) w y m j b EX HS o (I9 a o) s d t HT (by have:=Aa FO;omega) H0 (hR.row H8 (by decide) (by decide) (by decide)) hC B (λd s B=>by have h:=z.zh B.1;exact⟨h.1,h.2.1,by omega⟩) (λd s B=>Vn o (λi D=>?_));rw[Aa HL]at D;obtain⟨D,S⟩:=ir.1 D;have EK:=k0.1 D;(have CC:i<Z a:=by rw[<-(Aa z).zs.lenX];exact EK);refine⟨CC,z.steps A0 B.1 B.2 EK CC ?_⟩;rw[<-I5 (Aa z).zs CC];simpa using S
   have HW:Hid (∀s,Il a L k s->((Fv (Ep ft) (I9 a o) s).2=false->(Fv (Ep ft) (I9 a o) s).1=s/\Il a L (k+1) s)/\((Fv (Ep ft) (I9 a o) s).2=true->Z s<Z (Fv (Ep ft) (I9 a o) s).1)):=by
    intro s B;have h:=z.pass.grow (al:=ft) (λc _ s=>ER (Ak c) s) A0 (n:=k) (ds:=I9 a o) (λc=>by rw[Aa HL];exact Y1 z.zs c) B;exact⟨h.2.1,h.2.2.1⟩
   clear Ax AO HQ hv FF Bx;go_wp2_with fail
   go_loopg [] (7000-Z s) (λIS wq=>∃(s:mc Af) (d:mc (Nat×Gr Af)),IS=7000-Z s/\Hid (Il a L k s/\Xm a d s)/\Hid (Ls w y (U m (Z b) j) [] [] s d wq)/\Hid (GD w2 wq))
   case atStart=>exact⟨s,d,rfl,C,Q,H⟩
   case round=>
    clear C Q H;obtain⟨s,d,HO,C,Q,H⟩:=hrel;have H5:=Ab HO;clear HO;have HP:=Ab (HX s d wr C Q H);(go_wp2_with fail);refine HP.mono ?_;rintro _ w5 ⟨u,W,F,rfl,HD,HJ,EM⟩;have KS:=Ab F;have A1:=Ab HD;have EY:=Ab HJ;have FA:=Ab (H.trans EM);have B2:=Aa HW s C.1;rw[<-F]at B2;have HY:=Ab B2;clear HP F HD HJ EM B2;by_cases E:Z s<Z u
    .have N:decide (Z s<Z u)=true:=jH E;rw[N];have H7:=Ab E;clear N E;go_wp2_with fail
     go_roundg (7000-Z u)
     case measure=>
      have P:=(z.zh A1.1).2.2;have h2:=Aa H7;have h3:=Aa H5;omega
     case rel=>exact⟨u,W,rfl,A1,EY,FA⟩
    .have N:decide (Z s<Z u)=false:=i9 E;rw[N];have HE:Hid (u=s/\Il a L (k+1) s):=by
      have h:=Aa HY;cases S:(Fv (Ep ft) (I9 a o) s).2 with
      |true=>exact absurd (h.2 S) E
      |false=>exact h.1 S
     have IJ:Hid (Ls w y (U m (Z b) j) [] [] s W w5):=by
      have h:=Aa EY;rw[(Aa HE).1]at h;exact h
     have H9:Hid (Xm a W s):=by
      have h:=A1.2;rw[(Aa HE).1]at h;exact h
     clear N E;go_wp2_with fail
     go_roundg (Z v-(k+1))
     case measure=>have:=Aa HG;omega
     case rel=>exact⟨k+1,s,W,by go_num,by omega,rfl,⟨HE.2,H9⟩,IJ,FA⟩
  ·(have M:k=Z v:=by omega);(have H2:Hid (Il a L (Z v) s):=by have h:=C.1;rw[M]at h;exact h);clear M;go_wp2;go_ret;refine⟨y,s,d,L,Z v,rfl,Q,C.2,A0,H2,λc hc=>?_⟩;obtain⟨i,D,rfl⟩:=iF hc;have P:=FP.top i (by rw[(Aa z).zs.lenX];exact D);rw[I5 (Aa z).zs D]at P;exact P
def eK(lad:Option Addr)(lcp:Nat)(pcs:mc Db)(rcs:mc A6)(w:l9)(r:Ending)(w':l9):Prop:=∃(cb:Nat) (s:mc Af) (L:zA->Nat) (N:Nat),r=lo (kt (V ⟨cb,1,Y⟩))/\Z2 w cb (U lad (Z pcs) lcp) [] s w'/\Cn rcs L/\Il rcs L N s/\∀c∈rcs,L c.head.name<N
theorem N0(c:Option Addr)(b:Nat)(a:mc Db)(d:mc A6)(w:l9)(g:C9 w (U c (Z a) b) a)(k:LW a d):
  Calls prog 41 #[U c (Z a) b] w λr m=>eK c b a d w r m:=by
 have f:=Ab (KY c b a d w g k);clear g k;go_enter func41,ntmps41;go_wp2_with fail
 refine f.mono ?_;rintro _ n ⟨e,s,p,L,N,rfl,j,_,h,l,i⟩;have o:Hid (eK c b a d w (lo (kt (V ⟨e,1,Y⟩))) n):=⟨e,s,L,N,rfl,j.cou,h,l,i⟩;clear f j h l i;go_wp2;go_ret;exact o
def X8(sts:mc (Nat×Ti))(i:Nat):mc lN:=(sts[i]?).elim [] BV
def dL(sts:mc (Nat×Ti))(i:Nat):Array lN:=#[X .i64 i,.agg (X8 sts i).toArray]
structure La(b1:Nat)(sad:Option Addr)(scp:Nat)(sts:mc (Nat×Ti))(M:mc Nat)(w:l9):Prop where
 at_:lP w ⟨b1,0,Y⟩=V (U sad (Z sts) scp)
 row:lQ w 0 176 4 (U sad (Z sts) scp) (Z sts) (sts.flatMap BV)
 apart:∀k∈M,k≠b1/\(U sad (Z sts) scp).ownBlock≠V k/\k<w.heap.size
def La.grow{b:Nat}{e:Option Addr}{c:Nat}{d:mc (Nat×Ti)}{M:mc Nat}{w w':l9}(h:La b e c d M w)(k:Ac [] w w'):La b e c d M w':=
 ⟨k.cellAt h.at_,Ad h.row k (by simp),λi a=>⟨(h.apart i a).1,(h.apart i a).2.1,jw (h.apart i a).2.2 k.size⟩⟩
def La.round{f:Nat}{m:Option Addr}{g:Nat}{j:mc (Nat×Ti)}{M l:mc Nat}{w w':l9}(h:La f m g j M w)(k:Ac M w w')(d:∀i∈l,(i∈M\/w.heap.size<=i)/\i<w'.heap.size):La f m g j l w':=by
 have n:=MS h.at_;refine⟨Kc k h.at_ (λb=>(h.apart _ b).1 rfl),Ai h.row k (λq c b=>(h.apart q b).2.1 c),λi e=>⟨?_,?_,(d i e).2⟩⟩
 .rcases(d i e).1 with a|a
  .exact(h.apart i a).1
  .omega
 .rcases(d i e).1 with a|a
  .exact(h.apart i a).2.1
  .intro c;have:=(h.row.lt i c).2;omega
def WJ{n j:Nat}(d:j<n):(List.range n).reverse=(List.range n).reverse.take (n-(j+1))++j::(List.range n).reverse.drop (n-j):=by
 have b:n-(j+1)<Z (List.range n).reverse:=by simp;omega
 have c:(List.range n).reverse[n-(j+1)]=j:=by
  rw[List.getElem_reverse];simp;omega
 have a:=iZ (n-(j+1)) (List.range n).reverse;rw[ij b,c,show n-(j+1)+1=n-j by omega]at a;exact a.symm
def YC{n j:Nat}(c:j<n):(List.range n).reverse.take (n-(j+1))++[j]=(List.range n).reverse.take (n-j):=by
 have a:n-(j+1)<Z (List.range n).reverse:=by simp;omega
 have b:(List.range n).reverse[n-(j+1)]=j:=by
  rw[List.getElem_reverse];simp;omega
 rw[show n-j=n-(j+1)+1 by omega,gQ a,b]
def I4{w:l9}{m:Option Addr}{p:Nat}{a:mc (Nat×Ti)}(h:lQ w 0 176 4 (U m (Z a) p) (Z a) (a.flatMap BV))(j:Nat)(b:j<Z a):
  ∃g,m=V ⟨g,0,Y⟩/\lP w ⟨g,j*4,Y⟩=V (O a[j].2.f.f.name)/\lP w ⟨g,j*4+1,Y⟩=V a[j].2.f.tv/\lP w ⟨g,j*4+2,Y⟩=V (X .i64 a[j].1)/\lP w ⟨g,j*4+3,Y⟩=V a[j].2.n:=by
 obtain⟨g,q,l,_,d⟩:=AF h (λc _=>rfl) j b;simp only[gM]at l;have e:=d j b 0 (by omega);have i:=d j b 1 (by omega);have o:=d j b 2 (by omega);have k:=d j b 3 (by omega);simp[BV,JV]at e i o k;exact⟨g,l.1,e,i,o,k⟩
theorem Zo(r:Nat)(Ax:Option Addr)(AT:Nat)(a:mc (Nat×Ti))(w:l9)(x:mc Nat)(hB:La r Ax AT a x w)(FC:Z a<=900000):
  Kq prog 182 #[kt (V ⟨r,0,Y⟩)] (dL a) (List.range (Z a)).reverse x w:=by
 intro l o Jx W BS _ _ hJ FF hR A1;have z:=hB.grow BS;have u:=z.at_;have R:=Ab z;have HJ:=Ab hJ;have HR:=Ab hR;have S:Hid (o ((List.range (Z a)).reverse.take (Z a-Z a)) x W):=by show o _ _ _;rw[Nat.sub_self,kI];exact A1
 have EX:Hid ((List.range (Z a)).reverse.take (Z a-0)=(List.range (Z a)).reverse):=by show _=_;rw[gR (by simp)]
 clear hB z hJ hR A1 BS;show Calls prog 182 #[.func (.yield l) #[] #[],kt (V ⟨r,0,Y⟩)] W _;go_enter func182,ntmps182;go_wp2_with fail
 go_loopg [3] (Z a) (λgk i wr=>∃(j:Nat) (M:mc Nat),i=X .i64 ((j:Int)-1)/\j<=Z a/\gk=j/\Hid (La r Ax AT a M wr)/\Hid (o ((List.range (Z a)).reverse.take (Z a-j)) M wr)/\Hid (W.heap.size<=wr.heap.size))
 case atStart=>exact⟨Z a,x,by go_num,by omega,rfl,R,S,ig _⟩
 case round=>
  clear R S u;obtain⟨j,M,rfl,hj,T,m,p,C⟩:=hrel;have HG:=Ab T;clear T;by_cases I:0<j
  .obtain⟨k,rfl⟩:∃k,j=k+1:=⟨j-1,by omega⟩;(have L:((k+1:Nat):Int)-1=(k:Int):=by omega);rw[L];(have t:k<Z a:=by omega);obtain⟨g,hg,y,E,A,F⟩:=I4 m.row k t;subst hg;have EU:Hid (dL a k=#[X .i64 k,.agg #[O a[k].2.f.f.name,a[k].2.f.tv,X .i64 a[k].1,a[k].2.n]]):=by
    show _=_;unfold dL X8;rw[gS t];rfl
   have b:=Ab (HR _ _ _ M wr (WJ t) p);rw[Aa EU]at b;have D:Hid ((List.range (Z a)).reverse.take (Z a-(k+1))++[k]=(List.range (Z a)).reverse.take (Z a-k)):=YC t;have u:=m.at_;(have FL:(0:Int)<=(k:Int):=by omega);(have CC:(k:Int)<(Z a:Int):=by omega);generalize a[k].2.f.f.name=X0 at y b;generalize a[k].2.f.tv=X1 at E b;generalize a[k].1=X2 at A b;generalize a[k].2.n=X3 at F b;clear EU L I;refine ma (λQ c=>?_);go_wp2;refine c _ _ ?_;clear c Q;refine ma (λK5 A2=>?_);refine wp_block ?_;refine ma (λQ c=>?_);refine Ia (n:=0) 6 (by rintro ⟨_,_,h⟩;obtain⟨⟨v,e⟩,_⟩:=h;cases e) (λK2 AO=>?_);simp only[kc,kI];go_wp2;refine AO _ _ ?_;clear AO K2;simp only[kB,kS];refine Jj (λ_=>trivial) rfl rfl (l:=l) (args:=#[X .i64 k,.agg #[O X0,X1,X .i64 X2,X3]]) (by rfl) (by first|(simp[go_sem,Oper.semAt];done)|(simp[go_sem,Oper.semAt,execOp,resolve,invoke];done)) b ?_;rintro e H (⟨rfl,s,d,B,N⟩|⟨rfl,s,d,-⟩)
   .refine⟨_,rfl,DM (by rintro ⟨_,_,h⟩;obtain⟨⟨v,e⟩,_⟩:=h;cases e) ?_⟩;simp only[Act.put,gI,gJ,gK];have EK:=Ab (m.round B N);(have G:Hid (o ((List.range (Z a)).reverse.take (Z a-k)) s H):=by rw[<-Aa D];exact d);have CL:Hid (W.heap.size<=H.heap.size):=iQ C B.size;clear d B N y E A F u b m p C D;go_wp2;refine c _ _ ?_;clear c;go_wp2;refine A2 _ _ ?_;clear A2;go_wp2
    go_roundg k
    case measure=>have:=Aa HG;omega
    case rel=>exact⟨k,s,by go_num,by omega,rfl,EK,G,CL⟩
   .refine⟨_,rfl,DM (by rintro ⟨_,_,h⟩;obtain⟨⟨v,e⟩,_⟩:=h;cases e) ?_⟩;simp only[Act.put,gI,gJ,gK];have G:=Ab d;clear d y E A F u b m p C D;go_wp2;refine c _ _ ?_;clear c;go_wp2;refine im (kV rfl _ _ _) rfl ?_;exact⟨⟨_,rfl⟩,Or.inr ⟨_,s,G⟩⟩
  ·(have DT:j=0:=by omega);subst DT;have EM:Hid (o (List.range (Z a)).reverse M wr):=by
    have h:=Aa p;rw[Aa EX]at h;exact h
   (have CC:¬(0:Int)<=((0:Nat):Int)-1:=by omega);clear p I;go_wp2;go_end0;exact⟨⟨_,rfl⟩,Or.inl ⟨M,EM⟩⟩
theorem SU(c:Option Addr)(n b:Nat)(w:l9):
  Calls prog 145 #[U c n b] w λr d=>∃a,r=lo (.func (.func 182) #[] #[kt (V ⟨a,0,Y⟩)])/\AH d a [U c n b] 137/\w.heap.size<=a/\Ac [] w d:=by
 have e:=Ab (mf w [U c n b] 137);go_enter func145,ntmps145;go_wp2;go_ret;exact⟨w.heap.size,rfl,e,ig _,(me [] w).alloc _⟩
def KV{w:l9}{base size n:Nat}{e t:TypeId}{v:lN}{k cs:mc lN}{N:Nat}(h:lQ w base e size v n k)(j:AH w N cs t)(f:(e==t)=false):∀i,v.ownBlock=V i->i∉[N]:=by
 intro i b d;rw[gN]at d;subst d;rcases h.2 with⟨rfl,_⟩|⟨g,c,l,rfl,_,a,_⟩
 .simp[lX]at b
 .simp only[lX,gT]at b;subst b;unfold AH at j;rw[j]at a;simp only[gT,Obj.cells.injEq]at a;rw[a.2.1]at f;simp at f
def Xv{w:l9}{a b:Nat}{cs ds:mc lN}{e t:TypeId}(h:AH w a cs e)(c:AH w b ds t)(f:(e==t)=false):a∉[b]:=by
 intro d;rw[gN]at d;subst d;unfold AH at h c;rw[c]at h;simp only[gT,Obj.cells.injEq]at h;rw[h.2.1]at f;simp at f
def Iw.yD{w w':l9}{c:lN}{fs:mc EN}{N:Nat}{cs:mc lN}(h:Iw w c fs)(b:AH w N cs 145)(k:Ac [N] w w'):Iw w' c fs:=
 ⟨Ai h.row k (KV h.row b (by rfl)),λp a=>⟨Ai (h.each p a).1 k (KV (h.each p a).1 b (by rfl)),(h.each p a).2⟩⟩
def BP.yD{w w':l9}{base:Nat}{v:lN}{c:mc Ks}{N:Nat}{cs:mc lN}(h:BP w base v c)(b:AH w N cs 145)(k:Ac [N] w w'):BP w' base v c:=
 ⟨Ai h.row k (KV h.row b (by rfl)),λp a=>⟨Ai (h.each p a).1 k (KV (h.each p a).1 b (by rfl)),(h.each p a).2⟩⟩
structure fD(w:l9)(bv:lN)(zD:mc Ks)(body:mc Bi):Prop where
 at_:BP w 0 bv zD
 map:zD.map Prod.fst=body.map KF
 zM:∀p∈zD,GC p.1
 len:Z zD<=3
def WV{M:mc Nat}{w w':l9}(k:Ac M w w'){b o:Nat}{v:lN}(h:lP w ⟨b,o,Y⟩=V v)(d:b∉M):lP w' ⟨b,o,Y⟩=V v:=by
 unfold World.cell? at h⊢;have c:b<w.heap.size:=by
  rcases Nat.lt_or_ge b w.heap.size with a|a
  .exact a
  .simp[kE a]at h
 rw[k.block b c d];exact h
def fD.zQ{w:l9}{c:lN}{a:mc Ks}{b:mc Bi}(h:fD w c a b):AV a=(b.flatMap Bm).map ct:=by
 unfold AV;have e:a.flatMap (λp=>AL p.1)=(a.map Prod.fst).flatMap AL:=by rw[List.flatMap_map]
 rw[e,h.map,List.flatMap_map,ld]
 congr 1
 funext x
 exact Pe x
def fD.vars{w:l9}{c:lN}{b:mc Ks}{a:mc Bi}(h:fD w c b a):Dp (AV b)=Cw (Bk a):=by
 rw[h.zQ,Qx];rfl
def fD.litW{w:l9}{q:lN}{g:mc Ks}{i:mc Bi}(h:fD w q g i)(n:∀x∈i,Do x):∀x∈i,OK (KF x):=by
 intro x l;obtain⟨p,f,m⟩:∃p∈g,p.1=KF x:=by
  have:KF x∈g.map Prod.fst:=by rw[h.map];exact it l
  obtain⟨p,f,e⟩:=gX.1 this;exact⟨p,f,e⟩
 have d:=h.zM p f;rw[m]at d;have a:=n x l;unfold Do at a;by_cases b:(x.kind==97||x.kind==33)=true
 .rw[gY b]at a;have k:=d.bare (by rw[Hf];exact b);refine⟨by have:=d.le;omega,λt c=>?_,by rw[k.1];exact Or.inl rfl,by rw[k.2];exact Or.inl rfl⟩;obtain⟨u,o,rfl⟩:=gX.1 c;exact Jy (a.args u o)
 .rw[gV b]at a;have j:=d.plain (by rw[Hf];simpa using b);refine⟨by rw[j];simp,λt c=>?_,Jy a.1,Jy a.2.1⟩;rw[j]at c;simp at c
def fD.fit{w:l9}{g:lN}{a:mc Ks}{f:mc Bi}(h:fD w g a f):(∀p∈a,0<Z (AL p.1)/\Z (AL p.1)<=1000)/\Z (AV a)<=90000:=by
 have c:∀p∈a,0<Z (AL p.1)/\Z (AL p.1)<=1000:=λp b=>by
  have d:=h.zM p b;have:=d.le;unfold AL;split
  .rename_i e;exact⟨d.some e,by omega⟩
  .exact⟨by simp,by simp⟩
 refine⟨c,?_⟩;have i:=Ie (λp b=>(c p b).2);have:=h.len;omega
theorem Q7(k n:Nat)(E:Option Addr)(F:Nat)(fs:mc EN)(i:Option Addr)(h:Nat)(b:mc Ks)(a:mc Bi)(s:mc Af)(w:l9)(N:Nat)(cs:mc lN)
  (hN:AH w N cs 145) (B9:k∉[N]) (hc:lP w ⟨k,n,Y⟩=V (U E (Z fs) F)) (hF:Iw w (U E (Z fs) F) fs) (e:fD w (U i (Z b) h) b a) (R:Dc fs s) (BS:Z s<=10000) (o:aj a s) (h6:Z (Bk a)<=6):
  Calls prog 94 #[kt (V ⟨k,n,Y⟩),U i (Z b) h] w λr c=>∃l D,r=lo (.func (.func 140) #[] #[kt (V ⟨D,0,Y⟩)])/\AH c D [kt (V ⟨l,0,Y⟩)] 233/\w.heap.size<=D/\(∀d,Ac [N] c d->aQ d l a s (Bk a))/\Ac [] w c:=by
 obtain⟨CL,S⟩:=e.fit;have H:=Ab (Pc i h b w e.at_ (by have:=e.len;omega) CL);have G:Hid (∀y C d,lQ d w.heap.size 215 2 (U y (Z (AV b)) C) (Z (AV b)) ((AV b).flatMap Aq)->Calls prog 138 #[U y (Z (AV b)) C] d λr c=>∃z A,r=lo (U z (Z (Bk a)) A)/\lQ c d.heap.size 21 1 (U z (Z (Cw (Bk a))) A) (Z (Cw (Bk a))) ((Cw (Bk a)).flatMap AP)/\Ac [] d c):=by
  intro y C d B;refine(MV y C _ _ d B S).mono ?_;rintro r c ⟨z,A,rfl,u,q⟩;rw[e.vars]at u;exact⟨z,A,by rw[e.vars,F6],u,q⟩
 have B0:Hid (∀l f g c,Ac [] w c->w.heap.size<=l->AH c l [kt (V ⟨k,n,Y⟩),U i (Z b) h,U f (Z (Bk a)) g] 237->lQ c 0 21 1 (U f (Z (Cw (Bk a))) g) (Z (Cw (Bk a))) ((Cw (Bk a)).flatMap AP)->∀d,Ac [N] c d->aQ d l a s (Bk a)):=by
  intro l f g c m EX M B d p;have t:=hN.kept m (by simp);have DT:Z a=Z b:=by have:=congrArg List.length e.map;simpa using this.symm
  have EK:=e.len;refine⟨⟨k,n,i,h,b,f,g,E,F,fs,⟨?_,?_,(hF.kept m).yD t p⟩,(e.at_.kept m (by simp)).yD t p,e.map,Ai B p (KV B t (by rfl)),R⟩,BS,λx hx=>⟨o.lits x hx,e.litW o.lits x hx⟩,by omega,by omega,o.fit,λv hv=>(o.vars v hv).1⟩
  .rw[F6];exact M.kept p (Xv M t (by rfl))
  .exact WV p (m.cellAt hc) B9
 clear hF e R o hN hc;generalize(AV b)=BT at H G S;go_enter func94,ntmps94;go_wp2_with fail
 refine(Aa H).mono ?_;rintro _ w1 ⟨BA,Bx,rfl,T,I⟩;have L:=Ab (Aa G BA Bx w1 T);have P:=Ab I;clear H G T I;go_wp2_with fail
 refine(Aa L).mono ?_;rintro _ j ⟨f,g,rfl,W,k2⟩;have A2:=Ab W;have Q:=Ab ((Aa P).trans k2);have B2:=(Aa Q).size;clear L P W k2;go_wp2;go_ret;have u:=(mf j [kt (V ⟨k,n,Y⟩),U i (Z b) h,U f (Z (Bk a)) g] 237).alloc (.cells #[kt (V ⟨j.heap.size,0,Y⟩)] 233);have q:=mf (j.alloc (.cells #[kt (V ⟨k,n,Y⟩),U i (Z b) h,U f (Z (Bk a)) g] 237)) [kt (V ⟨j.heap.size,0,Y⟩)] 233;rw[iz]at q;have m:=((Aa Q).alloc (.cells #[kt (V ⟨k,n,Y⟩),U i (Z b) h,U f (Z (Bk a)) g] 237)).alloc (.cells #[kt (V ⟨j.heap.size,0,Y⟩)] 233);exact⟨j.heap.size,j.heap.size+1,rfl,q,by omega,Aa B0 j.heap.size f g _ m B2 u (Am (((Aa A2).alloc _).alloc _) (ik _)),m⟩
