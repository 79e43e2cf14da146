import Derived.Test.YtoihbhenbmffcaaGreatDoorYBP
import Derived.Test.YtoihbhenbmffcaaGreatDoorYBF
set_option linter.all false
set_option maxHeartbeats 0
open List renaming length->Z
open Option renaming none->Y,some->V
open Go.Value renaming slice->U,int->X,string->O,pointer->j3
open Go renaming World->j7
namespace Go.Proofs.YtoihbhenbmffcaaGreatDoor
open Go.RowKit Go.Proofs.Tryz
structure NF(pcs:List Dq)(rcs:List A8):Prop where
 zt:F2 R3 pcs rcs
 pass:Dh rcs
 zL:∀c∈pcs,Jv c.pc
 names:∀c∈pcs,c.hn.size<=1000000/\∀p∈c.zC,p.1.an.size<=1000000
def NF.len{a:List Dq}{b:List A8}(h:NF a b):Z a<=12:=by rw[h.zt.lenX];exact h.pass.order.small.1
def NF.fit{a:List Dq}{d:List A8}(h:NF a d){c:Dq}(b:c∈a):dQ c:=(PE (h.zL c b)).1
def NF.litW{n:List Dq}{f:List A8}(h:NF n f){c:Dq}{r:A8}(y:c∈n)(j:r∈f)(v:R3 c r):∀x∈Aj r,Pm (LP x):=by
 intro x o;obtain⟨q,g,rfl⟩:=eH.1 o;obtain⟨p,s,i⟩:=v.lits.mem q g;have a:=h.pass.lits r j q.1 o;have e:=(h.pass.order.small.2 r j).2.2 q g;have z:Z q.1.A.args<=2:=by
  unfold Br at e;have:=iV e;omega
 have m:=(h.zL c y).lits p.1 (by simp only[Dq.pc];exact eZ s);rw[i.eq]at m;unfold DA at a;by_cases d:(q.1.kind==97||q.1.kind==33)=true
 .rw[eI d]at a;have l:=m.bare (by rw[Ml];exact d);refine⟨by show Z (q.1.A.args.map ct)<=1000;rw[eL];omega,λt b=>?_,by rw[l.1];exact Or.inl rfl,by rw[l.2];exact Or.inl rfl⟩;obtain⟨u,w,rfl⟩:=eH.1 b;exact OO (a.args u w)
 .rw[eE d]at a;have k:=i.plain (by unfold Oh;simpa using d);refine⟨by show Z (q.1.A.args.map ct)<=1000;rw[k];simp,λt b=>?_,OO a.1,OO a.2.1⟩;have b:t∈q.1.A.args.map ct:=b;rw[k]at b;simp at b
def NF.zg{e:List Dq}{b:List A8}(h:NF e b){L:g0->Nat}{n:Nat}{s:List Af}(a:Jd b L n s):EI s/\(∀f∈s,AM f)/\Z s<=6912:=by
 have j:=a.len h.pass.prog.zN;have i:=PR h.pass.order.small.1 (λc g=>(h.pass.order.small.2 c g).2.1);exact⟨a.zK,λf d=>(a.zY f d).canon h.pass.prog.zN,by omega⟩
def NF.cl{e:List Dq}{b:List A8}(h:NF e b){L:g0->Nat}{n:Nat}{s:List Af}(m:Jd b L n s){a:Nat}(k:a<Z e)(j:a<Z b):OT e[a] b[a] s:=by
 have l:=h.zt.at a k j;have i:e[a]∈e:=eo k;have c:b[a]∈b:=eo j;have p:=h.zg m;refine⟨l,(h.fit i).pc,(h.fit i).zS,λx g=>⟨h.pass.lits _ c x g,h.litW i c l x g⟩,Uz h.pass.prog.zL c (h.pass.lits _ c),h.pass.zN _ c,λf r x g q v=>?_,p.2.1,by omega⟩;obtain⟨d,o,t,u⟩:=(m.zY f r).zg;rw[u];exact h.pass.order.ar3 d o _ c x g q (by rw[<-t];exact v)
def NF.steps{q:List Dq}{a:List A8}(h:NF q a){L:g0->Nat}(w:Di a L){n:Nat}{s:List Af}(i:Jd a L n s){m:List (Nat×Gp Af)}(M:We a m s){d:Nat}(u:d<Z q)(o:d<Z a)(B:L a[d].head.name=n):WV q (λm s=>Jd a L n s/\We a m s) d a[d] m s:=by
 have g:=h.cl i u o;have z:a[d]∈a:=eo o;have y:∀v e,∀t∈Kv (Aj a[d]) s v e,t.size≠0:=λv e t p=>(g.al v e t p).size
 have l:∀f∈G8 a[d] s,f∉s/\∃σ,(∀x∈Aj a[d],Cg (Bh σ) (DU σ) s x=true)/\f=Bh σ a[d].head:=λf c=>RD g.parts y c
 have C:∀j,Jd a L n (((G8 a[d] s).take j).foldl AY s):=λj=>(Kd (h.pass.other w) i z B ((G8 a[d] s).take j) s (λf c=>(l f (fR c)).2) i (λf c=>c) (λf c=>Or.inl c)).1
 have k:∀f∈G8 a[d] s,AM f/\Z f.args<=1000:=by
  intro f c;unfold G8 Qb at c;obtain⟨b,D,rfl⟩:=eH.1 c;have N:=KV g.al g.parts g.head (e9.1 D).1;refine⟨FX N,?_⟩;have:=(h.pass.order.small.2 _ z).2.1;unfold Av;simp only[eL];omega
 have A:=E2 a[d].head.args [] iq;have r:(G8 a[d] s).Nodup:=XB (λv e=>Q7 g.canon g.fitA v e) y g.parts A.2.1 (λv I=>by
  rcases(A.2.2 v).1 I with h|⟨_,t,p,e⟩
  .simp at h
  .exact⟨t,p,e⟩)
 refine⟨u,g,r,λf c=>⟨(l f c).1,(k f c).1,(k f c).2⟩,?_,λP G E j=>⟨C j,M.batch w i.zK g.canon (λf c=>i.work.top f c) o B r (λf c=>⟨(l f c).1,(k f c).1⟩) G E j⟩⟩;have H:=Uo (G8 a[d] s) s i.zK g.canon r (λf c=>⟨(l f c).1,(k f c).1⟩);have F:=(h.zg (C (Z (G8 a[d] s)))).2.2;rw[gP,H]at F;omega
def IR(rcs:List A8)(ns:List Nat):List A8:=ns.filterMap λi=>rcs[i]?
def Uh{b:List A8}{R:Nat->A8->Prop}:∀(a:List Nat),(∀i∈a,∃h:i<Z b,R i b[i])->F2 R a (IR b a)
 |[],_=>F2.nil
 |i::a,h=>by
  obtain⟨f,d⟩:=h i (by simp);have ih:=Uh a (λj c=>h j (by simp[c]));have e:IR b (i::a)=b[i]::IR b a:=by
   unfold IR;rw[jd,ez f]
  rw[e];exact F2.cons d ih
def IP{a:List Dq}{b:List A8}(h:F2 R3 a b){i:Nat}(c:i<Z b):Gm a i=b[i].head.name:=by
 have d:i<Z a:=by rw[h.lenX];exact c
 have:=(h.at i d c).hn;unfold Gm;rw[ez d];exact this
def XT{b:List Dq}{d:List A8}(h:F2 R3 b d){L:g0->Nat}{n:Nat}(c:A8):c∈IR d ((List.range (Z b)).filter λi=>L (Gm b i)==n)↔c∈d/\L c.head.name=n:=by
 unfold IR;rw[gA];constructor
 .rintro ⟨i,a,e⟩;obtain⟨a,g⟩:=e9.1 a;obtain⟨f,rfl⟩:=ir.1 e;rw[IP h f]at g;exact⟨eo f,by simpa using g⟩
 .rintro ⟨j,k⟩;obtain⟨i,a,rfl⟩:=fj j;refine⟨i,e9.2 ⟨jq.2 (by rw[h.lenX];exact a),?_⟩,ez a⟩;rw[IP h a];simpa using k
def Gq.parts{w w':j7}(h:Gq w w'){base:Nat}{c:Value}{b:List Og}(a:DK w base c b):DK w' base c b:=⟨h.row a.row (by decide) (by decide) (by decide),λp d=>h.row (a.each p d) (by decide) (by decide) (by decide),a.apart⟩
def dF(lad:Option Addr)(lcp:Nat)(pcs:List Dq)(rcs:List A8)(w:j7)(r:Ending)(w':j7):Prop:=∃(cb:Nat) (s:List Af) (hs:List (Nat×Gp Af)) (L:g0->Nat) (N:Nat),r=.returned (j3 (V ⟨cb,0,Y⟩))/\Mq w cb (U lad (Z pcs) lcp) [] [] s hs w'/\We rcs hs s/\Di rcs L/\Jd rcs L N s/\∀c∈rcs,L c.head.name<N
set_option maxRecDepth 100000
theorem Qc(m:Option Addr)(j:Nat)(b:List Dq)(a:List A8)(w:j7)(hP:DG w (U m (Z b) j) b)(A:NF b a):
  Calls prog 74 #[U m (Z b) j] w λr G=>dF m j b a w r G:=by
 have HQ:=A.len;have CC:∀x,Cd a 6 x<=6:=PY a 6;have FW:D1 a (Cd a 6)<=100000:=by
  have P:∀(l:List A8),D1 l (Cd a 6)<=Z l*6:=λl=>by
   induction l with
   |nil=>simp[D1]
   |cons c l ih=>
    (have e:D1 (c::l) (Cd a 6)=Cd a 6 c.head.name+D1 l (Cd a 6):=by unfold D1;simp);have:=CC c.head.name;rw[e,eF,gL];omega
  have h2:=P a;have h3:=A.pass.order.small.1;omega
 have FO:Hid (∀t,Ac [] w t->Calls prog 123 #[U m (Z b) j] t λr G=>Xg b a (Cd a 6) t r G):=λt hk=>VP m j b a t (Cd a 6) (hP.kept hk) A.zt (by omega) (λc hc=>(A.fit hc).pc.lits) A.names A.pass.prog.lay (λx=>by have:=CC x;omega) FW
 have HP:=Ab hP;have z:=Ab A;have FF:=Ab HQ;have I:Hid (Mq w w.heap.size (U m (Z b) j) [] [] [] [] (w.alloc (.cells [U m (Z b) j,U Y 0 0,U Y 0 0].toArray 139))):=⟨(Ac.refl [] w).alloc _,eM _,Y,0,[],Y,0,[],AI.new w _ 139,⟨eU _ _ _ _,λp R=>by simp at R⟩,⟨rfl,List.Pairwise.nil,λf hf=>by simp at hf⟩,eU _ _ _ _,λq hq=>by simp[Value.ownBlock]at hq,λq hq=>by simp,rfl,λp R=>by simp at R⟩;obtain⟨y,HF⟩:∃y,w.heap.size=y:=⟨_,rfl⟩;clear hP A CC FW;go_enter func74,ntmps74;go_wp2_with fail
 have A1:=Ab I.kept;change Calls _ _ _ (w.alloc (.cells [U m (Z b) j,U Y 0 0,U Y 0 0].toArray 139)) _;generalize w.alloc (.cells [U m (Z b) j,U Y 0 0,U Y 0 0].toArray 139)=w1 at I A1⊢;rw[HF]at I;clear HF;refine(FO w1 A1).mono ?_;rintro _ w2 ⟨ad,cp,v,L,rfl,T,BT,E0,HY,k2⟩;have FT:=Ab (I.grow k2);have HA:=Ab (DK.mk (Am T.row (eV _)) (λp R=>Am (T.each p R) (eV _)) T.apart);have FL:=Ab BT;have AT:=Ab E0;have JJ:=BT.len;clear I A1 FO T BT E0 HY k2;go_wp2_with fail
 go_loopg [12] (Z v) (λgk i wr=>∃(k:Nat) (s:List Af) (d:List (Nat×Gp Af)),i=X .i64 k/\k<=Z v/\gk=Z v-k/\Hid (Jd a L k s/\We a d s)/\Hid (Mq w y (U m (Z b) j) [] [] s d wr)/\Hid (Gq w2 wr))
 case atStart=>exact⟨0,[],[],rfl,by omega,rfl,⟨Jd.start _ _,We.start _⟩,FT,Gq.refl _⟩
 case round=>
  clear FT;obtain⟨k,s,d,rfl,hk,HK,C,Q,H⟩:=hrel;have HG:=Ab HK;clear HK;by_cases BA:k<Z v
  .obtain⟨g,KS,EM,HO,M,hv,FP⟩:=QZ (H.parts HA) k BA;simp only[ei]at M;obtain⟨rfl,-,rfl⟩:=M;have Ax:=HA.each _ (eo BA);rw[hv]at Ax;have AB:=FL.lists k BA;obtain⟨o,FB⟩:∃o,v[k].1=o:=⟨_,rfl⟩;rw[FB]at Ax AB FP;have H5:=Ab Ax;have HH:=Ab AB;have HN:Z o<=1000:=by
    rw[AB];have:=fZ (λi=>L (Gm b i)==k) (List.range (Z b));rw[List.length_range]at this;have:=Aa FF;omega
   have HX:=Ab HN;obtain⟨NL,A2⟩:∃NL,Z o=NL:=⟨_,rfl⟩;have H3:=Ab A2;rw[A2]at FP;(have KB:(0:Int)<=(k:Int):=by omega);(have IS:(k:Int)<(Z v:Int):=by omega);have HU:Hid (∀s d t,Jd a L k s/\We a d s->Mq w y (U m (Z b) j) [] [] s d t->Gq w2 t->Calls prog 124 #[j3 (V ⟨y,0,Y⟩),U EM NL HO] t λr G=>∃u F,u=(Fn (Ed dA) (IR a o) s).1/\r=.returned (.bool (decide (Z s<Z u)))/\(Jd a L k u/\We a F u)/\Mq w y (U m (Z b) j) [] [] u F G/\Gq t G):=by
    intro s d t B hC hR;rw[<-Aa H3];refine ZB (λd s=>Jd a L k s/\We a d s) w y m j b EM HO o (IR a o) s d t HP (by have:=Aa FF;omega) HX (hR.row H5 (by decide) (by decide) (by decide)) hC B (λd s B=>by have h:=z.zg B.1;exact⟨h.1,h.2.1,by omega⟩) (λd s B=>Uh o (λi D=>?_));rw[Aa HH]at D;obtain⟨D,S⟩:=e9.1 D;have DT:=jq.1 D;(have B9:i<Z a:=by rw[<-(Aa z).zt.lenX];exact DT);refine⟨B9,z.steps AT B.1 B.2 DT B9 ?_⟩;rw[<-IP (Aa z).zt B9];simpa using S
   have HT:Hid (∀s,Jd a L k s->((Fn (Ed dA) (IR a o) s).2=false->(Fn (Ed dA) (IR a o) s).1=s/\Jd a L (k+1) s)/\((Fn (Ed dA) (IR a o) s).2=true->Z s<Z (Fn (Ed dA) (IR a o) s).1)):=by
    intro s B;have h:=z.pass.grow (al:=dA) (λc _ s=>G2 (Aj c) s) AT (n:=k) (ds:=IR a o) (λc=>by rw[Aa HH];exact XT z.zt c) B;exact⟨h.2.1,h.2.2.1⟩
   clear Ax AB HN hv FB A2;go_wp2_with fail
   go_loopg [] (7000-Z s) (λH9 wq=>∃(s:List Af) (d:List (Nat×Gp Af)),H9=7000-Z s/\Hid (Jd a L k s/\We a d s)/\Hid (Mq w y (U m (Z b) j) [] [] s d wq)/\Hid (Gq w2 wq))
   case atStart=>exact⟨s,d,rfl,C,Q,H⟩
   case round=>
    clear C Q H;obtain⟨s,d,HL,C,Q,H⟩:=hrel;have H2:=Ab HL;clear HL;have HM:=Ab (HU s d wr C Q H);(go_wp2_with fail);refine HM.mono ?_;rintro _ w5 ⟨u,W,F,rfl,Ha,HD,EK⟩;have Jx:=Ab F;have A0:=Ab Ha;have EX:=Ab HD;have EY:=Ab (H.trans EK);have B0:=Aa HT s C.1;rw[<-F]at B0;have HV:=Ab B0;clear HM F Ha HD EK B0;by_cases E:Z s<Z u
    .have N:decide (Z s<Z u)=true:=gG E;rw[N];have H4:=Ab E;clear N E;go_wp2_with fail
     go_roundg (7000-Z u)
     case measure=>
      have P:=(z.zg A0.1).2.2;have h2:=Aa H4;have h3:=Aa H2;omega
     case rel=>exact⟨u,W,rfl,A0,EX,EY⟩
    .have N:decide (Z s<Z u)=false:=fO E;rw[N];have HE:Hid (u=s/\Jd a L (k+1) s):=by
      have h:=Aa HV;cases S:(Fn (Ed dA) (IR a o) s).2 with
      |true=>exact absurd (h.2 S) E
      |false=>exact h.1 S
     have H8:Hid (Mq w y (U m (Z b) j) [] [] s W w5):=by
      have h:=Aa EX;rw[(Aa HE).1]at h;exact h
     have H6:Hid (We a W s):=by
      have h:=A0.2;rw[(Aa HE).1]at h;exact h
     clear N E;go_wp2_with fail
     go_roundg (Z v-(k+1))
     case measure=>have:=Aa HG;omega
     case rel=>exact⟨k+1,s,W,by go_num,by omega,rfl,⟨HE.2,H6⟩,H8,EY⟩
  ·(have M:k=Z v:=by omega);(have HZ:Hid (Jd a L (Z v) s):=by have h:=C.1;rw[M]at h;exact h);clear M;go_wp2;go_ret;refine⟨y,s,d,L,Z v,rfl,Q,C.2,AT,HZ,λc hc=>?_⟩;obtain⟨i,D,rfl⟩:=fj hc;have P:=FL.top i (by rw[(Aa z).zt.lenX];exact D);rw[IP (Aa z).zt D]at P;exact P
def WX(sts:List (Nat×Si))(i:Nat):List Value:=(sts[i]?).elim [] BU
def ce(sts:List (Nat×Si))(i:Nat):Array Value:=#[X .i64 i,.agg (WX sts i).toArray]
structure KH(b1:Nat)(sad:Option Addr)(scp:Nat)(sts:List (Nat×Si))(M:List Nat)(w:j7):Prop where
 at_:w.cell? ⟨b1,0,Y⟩=V (U sad (Z sts) scp)
 row:w.ownsRow 0 176 4 (U sad (Z sts) scp) (Z sts) (sts.flatMap BU)
 apart:∀k∈M,k≠b1/\(U sad (Z sts) scp).ownBlock≠V k/\k<w.heap.size
def KH.grow{b:Nat}{e:Option Addr}{c:Nat}{d:List (Nat×Si)}{M:List Nat}{w w':j7}(h:KH b e c d M w)(k:Ac [] w w'):KH b e c d M w':=
 ⟨k.cellAt h.at_,Ad h.row k (by simp),λi a=>⟨(h.apart i a).1,(h.apart i a).2.1,gI (h.apart i a).2.2 k.size⟩⟩
def KH.round{f:Nat}{m:Option Addr}{g:Nat}{j:List (Nat×Si)}{M l:List Nat}{w w':j7}(h:KH f m g j M w)(k:Ac M w w')(d:∀i∈l,(i∈M\/w.heap.size<=i)/\i<w'.heap.size):KH f m g j l w':=by
 have n:=MC h.at_;refine⟨JT k h.at_ (λb=>(h.apart _ b).1 rfl),Al h.row k (λq c b=>(h.apart q b).2.1 c),λi e=>⟨?_,?_,(d i e).2⟩⟩
 .rcases(d i e).1 with a|a
  .exact(h.apart i a).1
  .omega
 .rcases(d i e).1 with a|a
  .exact(h.apart i a).2.1
  .intro c;have:=(h.row.lt i c).2;omega
def VI{n j:Nat}(d:j<n):(List.range n).reverse=(List.range n).reverse.take (n-(j+1))++j::(List.range n).reverse.drop (n-j):=by
 have b:n-(j+1)<Z (List.range n).reverse:=by simp;omega
 have c:(List.range n).reverse[n-(j+1)]=j:=by
  rw[List.getElem_reverse];simp;omega
 have a:=fH (n-(j+1)) (List.range n).reverse;rw[eQ b,c,show n-(j+1)+1=n-j by omega]at a;exact a.symm
def Xu{n j:Nat}(c:j<n):(List.range n).reverse.take (n-(j+1))++[j]=(List.range n).reverse.take (n-j):=by
 have a:n-(j+1)<Z (List.range n).reverse:=by simp;omega
 have b:(List.range n).reverse[n-(j+1)]=j:=by
  rw[List.getElem_reverse];simp;omega
 rw[show n-j=n-(j+1)+1 by omega,ep a,b]
def IN{w:j7}{m:Option Addr}{p:Nat}{a:List (Nat×Si)}(h:w.ownsRow 0 176 4 (U m (Z a) p) (Z a) (a.flatMap BU))(j:Nat)(b:j<Z a):
  ∃g,m=V ⟨g,0,Y⟩/\w.cell? ⟨g,j*4,Y⟩=V (O a[j].2.f.f.name)/\w.cell? ⟨g,j*4+1,Y⟩=V a[j].2.f.tv/\w.cell? ⟨g,j*4+2,Y⟩=V (X .i64 a[j].1)/\w.cell? ⟨g,j*4+3,Y⟩=V a[j].2.n:=by
 obtain⟨g,q,l,_,d⟩:=AC h (λc _=>rfl) j b;simp only[ei]at l;have e:=d j b 0 (by omega);have i:=d j b 1 (by omega);have o:=d j b 2 (by omega);have k:=d j b 3 (by omega);simp[BU,Jz]at e i o k;exact⟨g,l.1,e,i,o,k⟩
theorem Yj(r:Nat)(Ax:Option Addr)(AH:Nat)(a:List (Nat×Si))(w:j7)(x:List Nat)(hB:KH r Ax AH a x w)(FA:Z a<=900000):
  K0 prog 182 #[j3 (V ⟨r,0,Y⟩)] (ce a) (List.range (Z a)).reverse x w:=by
 intro l o Jx W BA _ _ hJ FB hR A0;have z:=hB.grow BA;have u:=z.at_;have R:=Ab z;have HJ:=Ab hJ;have HR:=Ab hR;have S:Hid (o ((List.range (Z a)).reverse.take (Z a-Z a)) x W):=by show o _ _ _;rw[Nat.sub_self,iJ];exact A0
 have EM:Hid ((List.range (Z a)).reverse.take (Z a-0)=(List.range (Z a)).reverse):=by show _=_;rw[eu (by simp)]
 clear hB z hJ hR A0 BA;show Calls prog 182 #[.func (.yield l) #[] #[],j3 (V ⟨r,0,Y⟩)] W _;go_enter func182,ntmps182;go_wp2_with fail
 go_loopg [3] (Z a) (λgk i wr=>∃(j:Nat) (M:List Nat),i=X .i64 ((j:Int)-1)/\j<=Z a/\gk=j/\Hid (KH r Ax AH a M wr)/\Hid (o ((List.range (Z a)).reverse.take (Z a-j)) M wr)/\Hid (W.heap.size<=wr.heap.size))
 case atStart=>exact⟨Z a,x,by go_num,by omega,rfl,R,S,eM _⟩
 case round=>
  clear R S u;obtain⟨j,M,rfl,hj,T,m,p,C⟩:=hrel;have HG:=Ab T;clear T;by_cases I:0<j
  .obtain⟨k,rfl⟩:∃k,j=k+1:=⟨j-1,by omega⟩;(have L:((k+1:Nat):Int)-1=(k:Int):=by omega);rw[L];(have t:k<Z a:=by omega);obtain⟨g,hg,y,E,A,F⟩:=IN m.row k t;subst hg;have De:Hid (ce a k=#[X .i64 k,.agg #[O a[k].2.f.f.name,a[k].2.f.tv,X .i64 a[k].1,a[k].2.n]]):=by
    show _=_;unfold ce WX;rw[ez t];rfl
   have b:=Ab (HR _ _ _ M wr (VI t) p);rw[Aa De]at b;have D:Hid ((List.range (Z a)).reverse.take (Z a-(k+1))++[k]=(List.range (Z a)).reverse.take (Z a-k)):=Xu t;have u:=m.at_;(have FC:(0:Int)<=(k:Int):=by omega);(have B9:(k:Int)<(Z a:Int):=by omega);generalize a[k].2.f.f.name=X0 at y b;generalize a[k].2.f.tv=X1 at E b;generalize a[k].1=X2 at A b;generalize a[k].2.n=X3 at F b;clear De L I;refine jT (λQ c=>?_);go_wp2;refine c _ _ ?_;clear c Q;refine jT (λK5 A1=>?_);refine wp_block ?_;refine jT (λQ c=>?_);refine Ho (n:=0) 6 (by rintro ⟨_,_,h⟩;obtain⟨⟨v,e⟩,_⟩:=h;cases e) (λK2 AB=>?_);simp only[ip,iJ];go_wp2;refine AB _ _ ?_;clear AB K2;simp only[iC,i8];refine I1 (λ_=>trivial) rfl rfl (l:=l) (args:=#[X .i64 k,.agg #[O X0,X1,X .i64 X2,X3]]) (by rfl) (by first|(simp[go_sem,Oper.semAt];done)|(simp[go_sem,Oper.semAt,execOp,resolve,invoke];done)) b ?_;rintro e H (⟨rfl,s,d,B,N⟩|⟨rfl,s,d,-⟩)
   .refine⟨_,rfl,DH (by rintro ⟨_,_,h⟩;obtain⟨⟨v,e⟩,_⟩:=h;cases e) ?_⟩;simp only[Act.put,ee,ej,el];have DT:=Ab (m.round B N);(have G:Hid (o ((List.range (Z a)).reverse.take (Z a-k)) s H):=by rw[<-Aa D];exact d);have CC:Hid (W.heap.size<=H.heap.size):=fJ C B.size;clear d B N y E A F u b m p C D;go_wp2;refine c _ _ ?_;clear c;go_wp2;refine A1 _ _ ?_;clear A1;go_wp2
    go_roundg k
    case measure=>have:=Aa HG;omega
    case rel=>exact⟨k,s,by go_num,by omega,rfl,DT,G,CC⟩
   .refine⟨_,rfl,DH (by rintro ⟨_,_,h⟩;obtain⟨⟨v,e⟩,_⟩:=h;cases e) ?_⟩;simp only[Act.put,ee,ej,el];have G:=Ab d;clear d y E A F u b m p C D;go_wp2;refine c _ _ ?_;clear c;go_wp2;refine eX (jg rfl _ _ _) rfl ?_;exact⟨⟨_,rfl⟩,Or.inr ⟨_,s,G⟩⟩
  ·(have CL:j=0:=by omega);subst CL;have EK:Hid (o (List.range (Z a)).reverse M wr):=by
    have h:=Aa p;rw[Aa EM]at h;exact h
   (have B9:¬(0:Int)<=((0:Nat):Int)-1:=by omega);clear p I;go_wp2;go_end0;exact⟨⟨_,rfl⟩,Or.inl ⟨M,EK⟩⟩
theorem RU(c:Option Addr)(n b:Nat)(w:j7):
  Calls prog 145 #[U c n b] w λr d=>∃a,r=.returned (.func (.func 182) #[] #[j3 (V ⟨a,0,Y⟩)])/\AI d a [U c n b] 137/\w.heap.size<=a/\Ac [] w d:=by
 have e:=Ab (AI.new w [U c n b] 137);go_enter func145,ntmps145;go_wp2;go_ret;exact⟨w.heap.size,rfl,e,eM _,(Ac.refl [] w).alloc _⟩
